import PyProof.Rows.All
import Wide.All
import OpenK.AllK
import Wide.FinOn
import Lean
import PyProof.EqAt
import PyProof.EqKinds
import PyProof.TupleCall
import PySem.Challenge.RW_jointhold_k21_sixty_parts
theorem ZzD{p:Prop}(h:p:=by decide):p:=h
theorem ZzO{p:Prop}(h:p:=by omega):p:=h
theorem ZzL{p:Prop}(h:p:=by lia):p:=h
theorem ZzS{p:Prop}(h:p:=by simp):p:=h
abbrev zd:=@PySem.wpAny_bind
abbrev ze:=@List.getElem?_eq_some_iff
abbrev zf:=@Nat.le_trans
abbrev zj:=@Nat.lt_of_lt_of_le
abbrev zo:=@List.length_map
abbrev zA:=@List.length_append
abbrev zB:=@List.mem_cons_of_mem
abbrev zC:=@List.mem_of_getElem?
abbrev zD:=@Nat.le_refl
abbrev zE:=@Bool.and_eq_true
abbrev zF:=@if_pos
abbrev zG:=@PySem.Heap.get?_push_size
abbrev zH:=@PySem.wpAny_pure
abbrev zI:=@List.getElem?_append_left
abbrev zJ:=@List.getElem?_eq_getElem
abbrev zK:=@List.getElem?_append_right
abbrev zL:=@PySem.Heap.lt_size
abbrev zM:=@if_neg
abbrev zN:=@List.mem_cons_self
abbrev zO:=@List.map_cons
abbrev zP:=@List.mem_singleton
abbrev zQ:=@Nat.lt_of_le_of_lt
abbrev zR:=@Bool.false_ne_true
abbrev zS:=@List.mem_cons
abbrev zT:=@List.getElem?_map
abbrev zU:=@Nat.ne_of_lt
abbrev zV:=@decide_eq_false
abbrev zW:=@Option.some.inj
abbrev zX:=@decide_eq_true
abbrev zY:=@List.getElem?_set_ne
abbrev zZ:=@List.getElem?_set_self
abbrev z0:=@List.length_cons
abbrev z9:=@Nat.pow_le_pow_right
abbrev Za:=@List.mem_append
abbrev Zb:=@List.mem_append_right
abbrev Zc:=@List.map_append
abbrev Zd:=@of_decide_eq_true
abbrev Ze:=@List.mem_append_left
abbrev Zf:=@List.append_nil
abbrev Zg:=@Option.map_eq_some_iff
abbrev Zh:=@List.size_toArray
abbrev Zi:=@List.exists_cons_of_length_eq_add_one
abbrev Zj:=@PySem.sizeLine_eq
abbrev Zk:=@List.length_take
abbrev Zl:=@decide_eq_true_eq
abbrev Zm:=@List.length_singleton
abbrev Zn:=@PySem.wpAny_field
abbrev Zo:=@List.mem_or_eq_of_mem_set
abbrev Zp:=@Bool.not_eq_true
abbrev Zq:=@PySem.wpAny_setField_rec
abbrev Zr:=@List.not_mem_nil
abbrev Zs:=@PySem.wpAny_loadPart_at
abbrev Zt:=@Int.toNat_natCast
abbrev Zu:=@PySem.wpAny_holding
abbrev Zv:=@List.lookup_cons
abbrev Zw:=@List.nodup_append
abbrev Zx:=@List.mem_map
abbrev Zy:=@List.map_nil
abbrev Zz:=@PySem.wpAny_callSpecial?_slot
abbrev ZA:=@PySem.wpAny_mono
abbrev ZB:=@List.all_cons
abbrev ZC:=@List.take_length
abbrev ZD:=@List.getElem?_eq_none_iff
abbrev ZE:=@PySem.wpAny_truthy_bool
abbrev ZF:=@List.mem_range
abbrev ZG:=@Option.isSome_iff_exists
abbrev ZH:=@PySem.W.of_hideAll
abbrev ZI:=@PySem.F.called_set
abbrev ZJ:=@List.length_mapIdx
abbrev ZK:=@Nat.le_succ
abbrev ZL:=@List.getElem?_mapIdx
abbrev ZM:=@List.getElem_mem
abbrev ZN:=@Nat.lt_irrefl
abbrev ZO:=@Nat.ne_of_gt
abbrev ZP:=@List.append_assoc
abbrev ZQ:=@Nat.zero_le
abbrev ZR:=@List.nodup_cons
abbrev ZS:=@PySem.wpAny_call_entry
abbrev ZT:=@List.pairwise_cons
abbrev ZU:=@Nat.mod_lt
abbrev ZV:=@Nat.zero_add
abbrev ZW:=@PySem.Heap.size_push
abbrev ZX:=@List.length_range
abbrev ZY:=@PySem.mem_of_lookup
abbrev ZZ:=@beq_eq_false_iff_ne
abbrev Z0:=@PyProof.Rows.F.plain_set_update_loop
abbrev Z1:=@PySem.wpAny_isSubtype_exc
abbrev Z2:=@PyProof.Rows.callWith_type1
abbrev Z3:=@List.take_of_length_le
abbrev Z4:=@PySem.F.isi_meta_tuple
abbrev Z5:=@List.all_eq_true
abbrev Z6:=@PySem.wpAny_Call_Name_kw
abbrev Z7:=@List.zip_cons_cons
abbrev Z8:=@Nat.mul_le_mul
abbrev Z9:=@PySem.F.slot_tuple_iterator_next
abbrev zza:=@PySem.wpAny_seqItems
abbrev zzb:=@PySem.F.isi_meta_bool
abbrev zzc:=@PySem.F.isi_meta_list
abbrev zzd:=@List.mem_filter
abbrev zze:=@PySem.wpAny_passesOwn
abbrev zzf:=@List.nil_append
abbrev zzg:=@PySem.codeAny_builtin
abbrev zzh:=@Bool.or_eq_true
abbrev zzi:=@Ne.symm
abbrev zzj:=@PySem.wpAny_newObj_type
abbrev zzk:=@Nat.lt_trans
abbrev zzl:=@PySem.codeAny_call_builtin
abbrev zzm:=@List.map_map
abbrev zzn:=@PySem.F.isi_meta_int
abbrev zzo:=@PySem.F.isi_meta_str
abbrev zzp:=@List.any_cons
abbrev zzq:=@PySem.W.mg_of
abbrev zzr:=@PyProof.Rows.slot_tuple_getitem
abbrev zzs:=@List.map_congr_left
abbrev zzt:=@Nat.lt_succ_self
abbrev zzu:=@List.drop_zero
abbrev zzv:=@List.mem_filterMap
abbrev zzw:=@PySem.codeAny_mono
abbrev zzx:=@PySem.tupleKind_room_in1
abbrev zzy:=@List.drop_eq_nil_of_le
abbrev zzz:=@PySem.Answers.of_false_tuple
abbrev zzA:=@Nat.pos_of_ne_zero
abbrev zzB:=@List.find?_cons
abbrev zzC:=@PyProof.Rows.boot_isinstance
abbrev zzD:=@PySem.Answers.of_true
abbrev zzE:=@List.mem_mapIdx
abbrev zzF:=@PySem.wpAny_standAt
abbrev zzG:=@PySem.F.slot_enumerate_next
abbrev zzH:=@PySem.Answers.of_false_list
abbrev zzI:=@List.any_eq_false
abbrev zzJ:=@PySem.wpAny_pyIter_list
abbrev zzK:=@PySem.W.hideAll_none
abbrev zzL:=@Array.mem_toList_iff
abbrev zzM:=@or_false
abbrev zzN:=@PySem.Answers.of_false_int
abbrev zzO:=@PySem.Answers.of_false_str
abbrev zzP:=@Nat.sub_self
abbrev zzQ:=@List.drop_length
abbrev zzR:=@List.drop_eq_getElem_cons
abbrev zzS:=@List.filterMap_cons
abbrev zzT:=@List.drop_succ_cons
abbrev zzU:=@List.getElem?_take_of_lt
abbrev zzV:=@PySem.F.args_tuple_add_2
abbrev zzW:=@PySem.AutoSeq1.wpAny_loadPart'
abbrev zzX:=@Nat.gcd_pos_of_pos_right
abbrev zzY:=@Bool.eq_iff_iff
abbrev zzZ:=@PySem.Calls.spliced_cons
abbrev zz0:=@PySem.Code.quiet_builtin
abbrev zz1:=@of_decide_eq_false
abbrev zz2:=@Bool.not_eq_false'
abbrev zz3:=@List.getElem?_replicate
abbrev zz4:=@PySem.F.entry_tuple_add
abbrev zz5:=@PySem.F.plainAttrs_list
abbrev zz6:=@Nat.le_of_lt
abbrev zz7:=@PySem.F.slot_tuple_add
abbrev zz9:=@PyProof.Rows.boot_list
abbrev Fg0:=PySem.W.Frag
abbrev hps0:=@PySem.Heap.get?_push_of_some
theorem obs {α β:Type _} {o:Option α} {f:α→Option β} {b:β} (h:o.bind f=some b):∃ a,o=some a∧f a=some b:=Option.bind_eq_some_iff.mp h
set_option genSizeOf false
set_option compiler.extract_closed false
set_option genSizeOf false
set_option compiler.extract_closed false
set_option Elab.async false
set_option linter.all false
set_option maxRecDepth 100000
namespace L2
open PySem PySem.Spec PyProof.Rows
abbrev Key:=Sum Int Str
noncomputable def QiS:Key->Value->Bool
 |.inl k,v=>Value.isInt k v
 |.inr x,v=>Value.isStrOf x v
noncomputable def keyH(w:World):Key->Int
 |.inl k=>hashInt k
 |.inr x=>hashStr w x
theorem QaA:∀{k:Key}{v:Value},QiS k v=true->(∃i t,k=Sum.inl i/\v=Value.int i t)\/(∃x t,k=Sum.inr x/\v=Value.str x t)
 |.inl i,v,h=>by obtain⟨t,e⟩:=Value.isInt_shape   h;simp_all
 |.inr x,v,h=>by obtain⟨t,e⟩:=Value.isStrOf_shape   h;simp_all
theorem QjM(i)(t):QiS (.inl i) (.int i t)=true:=by simp[QiS,Value.isInt]
theorem QjW(x)(t):QiS (.inr x) (.str x t)=true:=by simp[QiS,Value.isStrOf]
theorem key_ll(a b):decide ((Sum.inl a:Key)=Sum.inl b)=(a==b):=by grind
theorem key_rr(a b):decide ((Sum.inr a:Key)=Sum.inr b)=decide (a=b):=ZzS
theorem key_lr(a)(b):decide ((Sum.inl a:Key)=Sum.inr b)=false:=zV (λq=>nomatch q)
theorem key_rl(a)(b):decide ((Sum.inr a:Key)=Sum.inl b)=false:=zV (λq=>nomatch q)
noncomputable def QaF(prog:Program)(w:World):PySem.KeyKind prog w Key where
 is:=QiS
 hash:=keyH w
 inj:=λv a b ha hb=>by rcases QaA ha with⟨i,t,rfl,rfl⟩|⟨x,t,rfl,rfl⟩;rcases QaA hb with⟨j,u,rfl,e⟩|⟨y,u,rfl,e⟩;injection e with e1 _;rw[e1];exact nomatch e;rcases QaA hb with⟨j,u,rfl,e⟩|⟨y,u,rfl,e⟩;exact nomatch e;injection e with e1 _;rw[e1]
 byValue:=λk v h=>by rcases QaA h with⟨i,t,rfl,rfl⟩|⟨x,t,rfl,rfl⟩<;>rfl
 pyHash:=λhv h=>by rcases QaA hv with⟨i,t,rfl,rfl⟩|⟨x,t,rfl,rfl⟩;exact wpAny_pyHash_int h;exact wpAny_pyHash_str h
 eqBool:=λhu hv h=>by rcases QaA hu with⟨i,t,rfl,rfl⟩|⟨x,t,rfl,rfl⟩;rcases QaA hv with⟨j,u,rfl,rfl⟩|⟨y,u,rfl,rfl⟩;rw[key_ll]at h;exact wpAny_eqBool_int h;rw[key_lr]at h;exact SeqAt.EqAt.int_str i t y u _ _ _ _ h;rcases QaA hv with⟨j,u,rfl,rfl⟩|⟨y,u,rfl,rfl⟩;rw[key_rl]at h;exact SeqAt.EqAt.str_int x t j u _ _ _ _ h;rw[key_rr]at h;exact wpAny_eqBool_str h
 «strs»:=λk x t v h=>by rcases QaA h with⟨i,u,rfl,e⟩|⟨y,u,rfl,e⟩;exact nomatch e;injection e with e1 _;subst e1;cases v<;>rfl
theorem QgU(prog)(w)(i)(t):(QaF prog w).is (.inl i) (.int i t)=true:=QjM i t
theorem Qhl(prog)(w)(x)(t):(QaF prog w).is (.inr x) (.str x t)=true:=QjW x t
inductive V where
 |non|bl (b:Bool)|int (i:Int)|str (x:Str)|byt (b:Array UInt8)|flt (b:UInt64)|ref (a:Addr)|ty (n:String)
 deriving DecidableEq
def RelV:V->Value->Prop
 |.non,u=>u=Value.none
 |.bl b,u=>u=Value.bool b
 |.int i,u=>∃t,u=Value.int i t
 |.str x,u=>∃t,u=Value.str x t
 |.byt b,u=>∃t,u=Value.bytes b t
 |.flt b,u=>∃t,u=Value.float b t
 |.ref a,u=>u=Value.ref a
 |.ty n,u=>u=Value.type n
abbrev Vals:List V->List Value->Prop:=Paired RelV
theorem Vals.length(r:Vals xs us):xs.length=us.length:=Paired.length r
theorem Vals.get:∀{xs:List V}{us:List Value}{i:Nat}{x:V},Vals xs us->xs[i]?=some x->∃u,us[i]?=some u/\RelV x u
 |_,_,_,_,.nil,e=>by simp at e
 |_,_,0,_,.cons r _,e=>by simp_all
 |_,_,i+1,x,.cons _ t,e=>by obtain⟨u,h1,h2⟩:=Vals.get   t (by assumption);simp_all
theorem Vals.set(r:RelV x u):∀{xs:List V}{us:List Value} (i:Nat),Vals xs us->Vals (xs.set i x) (us.set i u)
 |_,_,_,.nil=>.nil
 |_,_,0,.cons _ t=>.cons r t
 |_,_,i+1,.cons q t=>.cons q (Vals.set r i t)
theorem Vals.append:∀{xs ys:List V}{us ws:List Value},Vals xs us->Vals ys ws->Vals (xs++ys) (us++ws)
 |_,_,_,_,.nil,s=>s
 |_,_,_,_,.cons r t,s=>.cons r (Vals.append t s)
theorem Vals.take:∀{xs:List V}{us:List Value} (n:Nat),Vals xs us->Vals (xs.take n) (us.take n)
 |_,_,0,_=>.nil
 |_,_,_+1,.nil=>.nil
 |_,_,n+1,.cons r t=>.cons r (Vals.take n t)
theorem Vals.drop:∀{xs:List V}{us:List Value} (n:Nat),Vals xs us->Vals (xs.drop n) (us.drop n)
 |_,_,0,r=>r
 |_,_,_+1,.nil=>.nil
 |_,_,n+1,.cons _ t=>Vals.drop n t
def RelO:Option V->Option Value->Prop
 |some v,some u=>RelV v u
 |none,none=>True
 |_,_=>False
def KV{κ:Type}:List (κ×V)->List (κ×Value)->Prop:=Paired λ(p:κ×V) (q:κ×Value)=>p.1=q.1/\RelV p.2 q.2
noncomputable def kV:Key->V
 |.inl i=>.int i
 |.inr x=>.str x
inductive HO where
 /-- a list -/
 |lst (xs:List V)
 /-- a tuple (never changes) -/
 |tup (xs:List V)
 /-- a dict whose keys are ints and texts;one whose keys are tuples of ints and texts (the empty one is both) -/
 |dK (kvs:List (Key×V))|dT (kvs:List (List Key×V))
 /-- a set of ints: its members,its size -/
 |set (S:Int->Bool) (n:Nat)
 /-- an instance of the class at C,its dict at dx,its attributes -/
 |ins (C dx:Addr) (fs:List (Str×V))
 /-- the dict of the instance at x -/
 |own (x:Addr)
 /-- the dict of an exception -/
 |xd (fs:List (Str×V))
 /-- a bound method,f of x -/
 |met (f x:Addr)
 /-- a range object lo,lo+1,.. below hi -/
 |rng (lo hi:Int)
 /-- a thing that is known to the object (the script;a dict while a loop walks it): read,never written while it is so -/
 |frz (o:Obj) (u:HO)
 /-- a code object's table -/
 |tbl (ps:Array Value)
 /-- any other thing,by what is true of its one object (a def of one's own: SetO a S n:=HO.ext λh=>..) -/
 |ext (φ:Heap->Prop)
abbrev Hp:=Addr->Option HO
noncomputable def upd(H:Hp)(a:Addr)(o:HO):Hp:=λb=>if b=a then some o else H b
theorem Qau:upd H a o a=some o:=by unfold upd;grind
theorem Qas(h:b≠a):upd H a o b=H b:=by unfold upd;grind
theorem Qjo:upd (upd H a o) a u=upd H a u:=by unfold upd;grind
theorem ne_of{H:Hp}(h:H a=some o)(h':H b=some u)(d:o≠u):a≠b:=by intro e;subst e;rw[h]at h';exact d (zW h')
theorem Qa8{H:Hp}(h:H a=some o)(h':H b=none):a≠b:=by grind
section
variable (P:Program) (w:World)
def ObjOk(H:Hp)(h:Heap)(a:Addr):HO->Prop
 |.lst xs=>xs.length<=sizeLine/\∃(its:List Value) (n:Nat),Vals xs its/\h.get? a=some { cls:=.type "list",data:=.seq its.toArray n }
 |.tup xs=>xs.length<=sizeLine/\∃its:List Value,Vals xs its/\IsTup h a its.toArray
 |.dK kvs=>kvs.length<=sizeLine/\(a==sysModules)=false/\∃vs,KV kvs vs/\h.DictOf (QaF P w) a vs
 |.dT kvs=>kvs.length<=sizeLine/\(a==sysModules)=false/\∃xs:List (List Key×Addr×Value),
  Paired (λ(p:List Key×V) (q:List Key×Addr×Value)=>p.1=q.1/\H q.2.1=some (.tup (p.1.map kV))/\RelV p.2 q.2.2) kvs xs /\
  ∃o es ep,h.get? a=some o/\o.ExactDict/\o.data=.dict es ep/\es.toList=xs.map (entryOfKey (tupleKind (QaF P w)))/\(xs.map (·.1)).Nodup
 |.set S n=>h.SetOf (intKind P w) a S n
 |.ins C dx fs=>H dx=some (.own a)/\fs.length<=1000/\dx≠a/\h.get? a=some (PySem.W.instObj C dx) /\
  ∃mA,h.Ns1 dx mA/\(∀f,RelO (fs.lookup f) (mA f))/\PySem.Within mA (fs.map (·.1))
 |.own _=>∃o,h.get? a=some o
 |.xd fs=>∃mA,h.Ns1 a mA/\∀f,RelO (fs.lookup f) (mA f)
 |.rng lo hi=>∃t u v,h.get? a=some { cls:=.type "range",data:=.fields #[.int lo t,.int hi u,.int 1 v] }
 |.frz o u=>h.get? a=some o/\ObjOk H h a u
 |.tbl ps=>h.get? a=some { cls:=.none,data:=.fields ps }
 |.met f x=>h.get? a=some (PySem.W.methodObj (.ref f) (.ref x))
 |.ext φ=>φ h/\(∃o,h.get? a=some o)/\∀h1 h2:Heap,φ h1->(∀o,h1.get? a=some o->h2.get? a=some o)->φ h2
def HOk(H:Hp)(h:Heap):Prop:=∀a o,H a=some o->ObjOk P w H h a o
end
section
variable {P:Program}{w:World}{H H':Hp}{h h':Heap}{a:Addr}{o:HO}
theorem ObjOk.lt(x:ObjOk P w H h a o):a<h.objs.size:=by
 cases o with
 |lst xs=>obtain⟨_,_,_,_,e⟩:=x;exact zL e
 |tup xs=>obtain⟨_,_,_,p⟩:=x;exact p.lt
 |dK kvs=>obtain⟨_,_,_,_,o,_,_,e,_⟩:=x;exact zL e
 |dT kvs=>obtain⟨_,_,_,_,o,_,_,e,_⟩:=x;exact zL e
 |set S n=>obtain⟨o,_,_,_,e,_⟩:=x;exact zL e
 |ins C dx fs=>obtain⟨_,_,_,e,_⟩:=x;exact zL e
 |own y=>obtain⟨_,e⟩:=x;exact zL e
 |xd fs=>obtain⟨_,⟨_,_,_,e,_⟩,_⟩:=x;exact zL e
 |rng lo hi=>obtain⟨_,_,_,e⟩:=x;exact zL e
 |frz ob u=>obtain⟨e,_⟩:=x;exact zL e
 |tbl ps=>exact zL (x)
 |met f y=>exact zL (show h.get? a=some _ from x)
 |ext φ=>obtain⟨_,⟨_,e⟩,_⟩:=x;exact zL e
theorem Paired.mapP:∀{l₁:List α}{l₂:List β},Paired F l₁ l₂->(∀a b,F a b->G a b)->Paired G l₁ l₂
 |_,_,.nil,_=>.nil
 |_,_,.cons r t,f=>.cons (f _ _ r) (Paired.mapP t f)
theorem ObjOk.stay(x:ObjOk P w H h a o)(k:∀b u,(b=a\/H b=some (.own a))->h.get? b=some u->h'.get? b=some u)
  (ho:∀b,H b=some (.own a)->H' b=some (.own a)) (ht:∀b xs,H b=some (.tup xs)->H' b=some (.tup xs)):ObjOk P w H' h' a o:=by
 induction o with
 |lst xs=>obtain⟨z,its,n,r,e⟩:=x;exact⟨z,its,n,r,k _ _ (.inl rfl) e⟩
 |tup xs=>obtain⟨z,its,r,ob,e,c⟩:=x;exact⟨z,its,r,ob,k _ _ (.inl rfl) e,c⟩
 |dK kvs=>obtain⟨z,y,vs,r,ob,es,ep,e,c⟩:=x;exact⟨z,y,vs,r,ob,es,ep,k _ _ (.inl rfl) e,c⟩
 |dT kvs =>
  obtain⟨z,y,xs,r,ob,es,ep,e,c⟩:=x
  exact⟨z,y,xs,Paired.mapP r λp q z=>⟨z.1,ht _ _ z.2.1,z.2.2⟩,ob,es,ep,k _ _ (.inl rfl) e,c⟩
 |set S n=>obtain⟨ob,es,ep,t,e,c⟩:=x;exact⟨ob,es,ep,t,k _ _ (.inl rfl) e,c⟩
 |ins C dx fs =>
  obtain⟨d,z,ne,e,mA,⟨od,es,ep,e2,c⟩,r⟩:=x
  exact⟨ho _ d,z,ne,k _ _ (.inl rfl) e,mA,⟨od,es,ep,k _ _ (.inr d) e2,c⟩,r⟩
 |own y=>obtain⟨ob,e⟩:=x;exact⟨ob,k _ _ (.inl rfl) e⟩
 |xd fs=>obtain⟨mA,⟨od,es,ep,e,c⟩,r⟩:=x;exact⟨mA,⟨od,es,ep,k _ _ (.inl rfl) e,c⟩,r⟩
 |rng lo hi=>obtain⟨t,u,v,e⟩:=x;exact⟨t,u,v,k _ _ (.inl rfl) e⟩
 |frz ob u ih=>obtain⟨e,q⟩:=x;exact⟨k _ _ (.inl rfl) e,ih q⟩
 |tbl ps =>
  have e:h.get? a=some { cls:=.none,data:=.fields ps }:=x
  show h'.get? a=some { cls:=.none,data:=.fields ps }
  exact k a _ (.inl rfl) e
 |met f y =>
  have e:h.get? a=some (PySem.W.methodObj (.ref f) (.ref y)):=x
  show h'.get? a=some (PySem.W.methodObj (.ref f) (.ref y))
  exact k a _ (.inl rfl) e
 |ext φ=>obtain⟨p,⟨o,e⟩,st⟩:=x;exact⟨st _ _ p λo q=>k _ _ (.inl rfl) q,⟨o,k _ _ (.inl rfl) e⟩,st⟩
theorem HOk.lt(x:HOk P w H h)(e:H a=some o):a<h.objs.size:=(x a o e).lt
theorem HOk.fresh(x:HOk P w H h)(e:h.objs.size<=a):H a=none:=by
 cases q:H a with
 |none=>rfl
 |some u=>exact absurd (zj (x.lt q) e) (ZN _)
theorem HOk.kept(x:HOk P w H h)(k:∀b u,h.get? b=some u->h'.get? b=some u):HOk P w H h':=λa o e =>
 (x a o e).stay (λb u _ q=>k b u q) (λ_ q=>q) λ_ _ q=>q
theorem HOk.laid(x:HOk P w H h)(k:∀b u,h.get? b=some u->h'.get? b=some u)(hp:h.objs.size<=a)(new:ObjOk P w (upd H a o) h' a o):HOk P w (upd H a o) h':=λb u e=>by have hn:=x.fresh hp;by_cases hb:b=a;subst hb;rw[Qau]at e;cases e;exact new;rw[Qas hb]at e;exact(x b u e).stay (λc v _ q=>k c v q) (λc q=>by rw[Qas (Qa8 q hn)];exact q) λc xs q=>by rw[Qas (Qa8 q hn)];exact q
end
def Rd(H:Hp)(a:Addr)(u:HO):Prop:=H a=some u\/∃o,H a=some (.frz o u)
theorem Rd.ok(r:Rd H a u)(x:HOk P w H h):ObjOk P w H h a u:=by
 rcases r with r|⟨o,r⟩
 ·exact x a u r
 ·obtain⟨_,q⟩:=x a _ r
  lia
def Mut:Option HO->Prop
 |some (.lst _)=>True
 |some (.dK _)=>True
 |some (.dT _)=>True
 |some (.set _ _)=>True
 |some (.ins _ _ _)=>True
 |some (.ext _)=>True
 |_=>False
section
variable {P:Program}{w:World}{H:Hp}{h h':Heap}{x e:Addr}{o':HO}
theorem HOk.write(ok:HOk P w H h)(mu:Mut (H x))(he:e=x\/H e=some (.own x))(k:∀b u,b≠e->h.get? b=some u->h'.get? b=some u)(heo:∃u,h'.get? e=some u)
  (new:ObjOk P w (upd H x o') h' x o'):HOk P w (upd H x o') h':=λb u q=>by
 have nown:∀c y,H c=some (.own y)->c≠x:=λc y r z=>by subst z;rw[r]at mu;exact mu
 have ntup:∀c xs,H c=some (.tup xs)->c≠x:=λc xs r z=>by subst z;rw[r]at mu;exact mu
 by_cases hb:b=x
 ·subst hb;rw[Qau]at q;cases q;exact new
 ·rw[Qas hb]at q
  by_cases hbe:b=e
  ·have q':H b=some (.own x):=by rcases he with z|z;exact absurd (hbe.trans z) hb;rw[hbe];exact z
   rw[q]at q';cases q'
   obtain⟨v,hv⟩:=heo
   exact⟨v,by rw[hbe];exact hv⟩
  ·refine(ok b u q).stay (λc v hc r=>k c v ?_ r) (λc r=>by rw[Qas (nown c b r)];exact r) λc xs r=>by rw[Qas (ntup c xs r)];exact r
   rcases hc with rfl|hc
   ·exact hbe
   ·rintro rfl
    rcases he with z|z
    ·exact nown c b hc z
    ·rw[hc]at z;cases z;exact hb rfl
end
structure Un (fs ex:List Addr) (H H':Hp) (h h':Heap):Prop where
 keep:∀b o,h.get? b=some o->H b=none->b∉fs->b∉ex->h'.get? b=some o
 slot:∀b o,h.get? b=some o->H b=none->b∈fs->b∉ex->∃sl,h'.get? b=some { o with slots:=sl }
 free:∀b o,h.get? b=some o->H b=none->b∉ex->H' b=none
 there:∀b o,h.get? b=some o->b∉ex->∃o',h'.get? b=some o'
 tups:∀b xs,H b=some (.tup xs)->H' b=some (.tup xs)
 frzs:∀b o u,H b=some (.frz o u)->H' b=some (.frz o u)
 tbls:∀b ps,H b=some (.tbl ps)->∃more,H' b=some (.tbl (ps++more))
section
variable {fs fs' ex ex':List Addr}{H H1 H2:Hp}{h h1 h2 h':Heap}{a x e:Addr}{o:HO}
theorem Un.any(u:Un fs ex H H1 h h1)(q:h.get? b=some ob)(n:H b=none)(hx:b∉ex):∃sl,h1.get? b=some { ob with slots:=sl }:=by by_cases hb:b∈fs;exact u.slot b ob q n hb hx;exact⟨ob.slots,u.keep b ob q n hb hx⟩
theorem Un.kept(k:∀b u,h.get? b=some u->h'.get? b=some u):Un fs ex H H h h' :=
 ⟨λb ob q _ _ _=>k b ob q,λb ob q _ _ _=>⟨ob.slots,k b ob q⟩,λ_ _ _ n _=>n,λb ob q _=>⟨ob,k b ob q⟩,λ_ _ q=>q,λ_ _ _ q=>q,λ_ ps q=>⟨#[],by simp_all⟩⟩
theorem Un.refl:Un fs ex H H h h:=Un.kept λ_ _ q=>q
theorem Un.laid(k:∀b u,h.get? b=some u->h'.get? b=some u)(hp:h.objs.size<=a)(hn:H a=none):Un fs ex H (upd H a o) h h' where
 keep:=λb u q _ _ _=>k b u q
 slot:=λb u q _ _ _=>⟨u.slots,k b u q⟩
 free:=λb u q n _=>by rw[Qas (zU (zj (zL q) hp))];lia
 there:=λb u q _=>⟨u,k b u q⟩
 tups:=λb xs q=>by rw[Qas (Qa8 q hn)];lia
 frzs:=λb u xs q=>by rw[Qas (Qa8 q hn)];lia
 tbls:=λb ps q=>⟨#[],by rw[Qas (Qa8 q hn),q];rfl⟩
theorem Un.write(mu:Mut (H x))(he:e=x\/H e=some (.own x))(k:∀b u,b≠e->h.get? b=some u->h'.get? b=some u)(heo:∃u,h'.get? e=some u):Un fs ex H (upd H x o) h h':=by
 have hx:∀b,H b=none->b≠x:=λb n z=>by subst z;rw[n]at mu;exact mu
 have hb:∀b,H b=none->b≠e:=λb n z=>by grind
 have hm:∀b u,H b=some u->¬ Mut (some u)->b≠x:=λb u q nm z=>by grind
 refine⟨λb u q n _ _=>k b u (hb b n) q,λb u q n _ _=>⟨u.slots,k b u (hb b n) q⟩,λb u q n _=>by rw[Qas (hx b n)];exact n,λb u q _=>?_,
  λb xs q=>by rw[Qas (hm b _ q λz=>z)];exact q,λb u xs q=>by rw[Qas (hm b _ q λz=>z)];exact q,λb ps q=>⟨#[],by rw[Qas (hm b _ q λz=>z),q];simp⟩⟩
 grind
end
noncomputable def trk(h:Heap)(H:Hp):List Addr:=(List.range h.objs.size).filter λa=>(H a).isSome
noncomputable def QmK(h:Heap)(H:Hp):Heap:=PySem.W.hideAll h (trk h H)
theorem Qk9(h)(H):(QmK h H).objs.size=h.objs.size:=PySem.W.hideAll_size _ _
theorem Qml(e:h.get? b=some o)(n:H b=none):(QmK h H).get? b=some o :=
 PySem.W.hideAll_get _ e λhm=>by
  have q :=(zzd.mp hm).2
  grind
theorem Qqg(e:(QmK h H).get? b=some o):h.get? b=some o/\H b=none:=by
 have e' :=ZH (trk h H) e
 refine⟨e',?_⟩
 cases q:H b with
 |none=>rfl
 |some x =>
  have hm:b∈trk h H:=zzd.mpr ⟨ZF.mpr (zL e'),by simp[q]⟩
  have z:(QmK h H).get? b=none:=zzK (trk h H) hm
  grind
noncomputable def Qpx(g h:Heap)(L:Addr):List (Addr×Obj):=(List.range h.objs.size).filterMap λa=>if a=L\/(g.get? a).isSome=true then none else(h.get? a).map λo=>(a,o)
noncomputable def QcZ(g h:Heap)(L d:Addr):List (Addr×Obj):=(Qpx g h L).filter λp=>decide (p.1≠d)
structure Mod (K:Fg0) (mg:Str->Option Value) (base:Heap):Prop where
 kin:K.In base
 glob:base.Ns mainGlobals mg
 blt:∃mb,base.Ns builtinsNs mb/\∀x:Str,x≠"__name__"->mb x=bootBuiltins x
 nolimit:base.NoLimit
structure Cx where
 prog:Program
 w:World
 K:Fg0
 mg:Str->Option Value
 base:Heap
 A:Around
 N:List Str
 s₀:Shared
 H₀:Hp
 env:Env
 outer:List Env
 stack:List Env
 ex:List Addr
 fn:Str->Bool
 calm:Bool
 pn:List (Addr×Obj)
 xe:Value->Shared->Prop
noncomputable def frs(l:List Env):List Addr:=l.filterMap (·.frame)
noncomputable abbrev Cx.fs(X:Cx):List Addr:=frs X.outer
def Vis(sc:Scope)(x:Str):Prop:=sc.names.lookup x=some .local\/sc.names.lookup x=some .cell\/sc.names.lookup x=some .free
def Loc(sc:Scope)(x:Str):Prop:=sc.names.lookup x=some .local\/sc.names.lookup x=some .cell
def Look(env:Env)(h:Heap)(m:Str->Option Value)(x:Str)(u:Value):Prop :=
 (env.kindOf x=some .local/\m x=some u)\/((env.kindOf x=some .cell\/env.kindOf x=some .free)/\∃c,env.cells.lookup x=some c/\h.IsCell c (some u))
structure Cx.Ok (X:Cx):Prop where
 mod:Mod X.K X.mg X.base
 kind:X.env.scope.kind=.function
 glob:X.env.globals=mainGlobals
 blt:X.env.builtins=builtinsNs
 above:X.s₀.heap.objs.size<=X.env.locals
 inj:∀x y c,X.env.cells.lookup x=some c->X.env.cells.lookup y=some c->x=y
 has:∀x,(X.env.kindOf x=some .cell\/X.env.kindOf x=some .free)->∃c,X.env.cells.lookup x=some c
 cab:∀x c,X.fn x=true->X.env.cells.lookup x=some c->X.s₀.heap.objs.size<=c
 hd:X.calm=true->X.A.handled=none
 frames:X.A.frames=some X.stack
 stk:X.stack=X.outer\/(X.stack=X.env::X.outer/\X.env.frame=some X.env.locals)
 exf:∀b∈X.ex,b≠X.env.locals/\∀x c,X.env.cells.lookup x=some c->c≠b
 bs:∀b o,X.base.get? b=some o->X.s₀.heap.get? b=some o/\X.H₀ b=none
 bsz:X.base.objs.size<=X.s₀.heap.objs.size
 noex:∀b o,X.base.get? b=some o->b∉X.ex
 exfs:∀b∈X.ex,b∉X.fs
 funs:X.s₀.heap.FunFrames X.base X.outer
 frf:∀b∈X.fs,X.H₀ b=none
structure Inv (X:Cx) (pins:List (Addr×Obj)) (σ:List (Option V)) (H:Hp) (s:Shared):Prop where
 ok:X.Ok
 os:s.os=X.s₀.os
 bare:AllBare s.gens
 base:Un X.fs X.ex X.H₀ H X.s₀.heap s.heap
 loc:∃m,s.heap.Ns X.env.locals m/\∀(i:Nat) (x:Str) (v:V),X.N[i]?=some x->σ[i]?=some (some v)->Vis X.env.scope x->∃u,RelV v u/\Look X.env s.heap m x u
 cell:∀x c,X.env.cells.lookup x=some c->∃v,s.heap.IsCell c v
 free:H X.env.locals=none
 freeC:∀x c,X.env.cells.lookup x=some c->H c=none
 pin:∀p∈X.pn++pins,s.heap.get? p.1=some p.2/\H p.1=none/\p.1≠X.env.locals/\p.1∉X.fs/\∀v,p.2.data≠.cell v
 hok:HOk X.prog X.w H s.heap
 len:σ.length=X.N.length
section
variable {X:Cx}{pins:List (Addr×Obj)}{σ:List (Option V)}{H H':Hp}{s:Shared}{h':Heap}
theorem Cx.Ok.nofr(ok:X.Ok)(e:X.base.get? b=some o):b∉X.fs:=λhb=>by
 have:=(ok.funs.mem hb).1
 grind
theorem Inv.bs(I:Inv X pins σ H s):∀b o,X.base.get? b=some o->s.heap.get? b=some o/\H b=none:=λb o e =>
 ⟨I.base.keep b o (I.ok.bs b o e).1 (I.ok.bs b o e).2 (I.ok.nofr e) (I.ok.noex b o e),I.base.free b o (I.ok.bs b o e).1 (I.ok.bs b o e).2 (I.ok.noex b o e)⟩
theorem Inv.bk(I:Inv X pins σ H s):∀b o,X.base.get? b=some o->s.heap.get? b=some o:=λb o e=>(I.bs b o e).1
theorem Inv.mod(I:Inv X pins σ H s):Mod X.K X.mg X.base:=I.ok.mod
theorem Inv.kIn(I:Inv X pins σ H s):X.K.In s.heap:=I.ok.mod.kin.keeps I.bk
theorem Inv.lt(I:Inv X pins σ H s):X.env.locals<s.heap.objs.size:=let ⟨_,hn,_⟩:=I.loc;hn.lt
theorem Inv.sz(I:Inv X pins σ H s):X.s₀.heap.objs.size<=s.heap.objs.size:=zf I.ok.above (zz6 I.lt)
theorem Inv.nofs(I:Inv X pins σ H s){a:Addr}(h:s.heap.objs.size<=a):a∉X.fs:=λhb=>by obtain⟨_,o,ho,_⟩:=I.ok.funs.mem hb;exact absurd (zj (zL ho) (zf I.sz h)) (ZN _)
theorem Inv.cne(I:Inv X pins σ H s):∀x c,X.env.cells.lookup x=some c->c≠X.env.locals:=λx c e z=>by
 obtain⟨v,o,ho,hd⟩:=I.cell x c e
 obtain⟨m,⟨o',es,ep,ho',hd',_⟩,_⟩:=I.loc
 grind
theorem Inv.funs(I:Inv X pins σ H s):s.heap.FunFrames X.base X.outer:=by
 have all:∀(l:List Env),(∀b∈frs l,b∈X.fs)->X.s₀.heap.FunFrames X.base l->s.heap.FunFrames X.base l:=by
  intro l;induction l with
  |nil=>intro _ _;trivial
  |cons env r ih=>intro hs hl;obtain⟨hk,⟨L,o,hf,hn,ho,hd⟩,hr⟩:=hl;have hL :=hs L (by unfold frs;simp_all);obtain⟨sl,e⟩:=I.base.slot L o ho (I.ok.frf L hL) hL λz=>I.ok.exfs L z hL;exact⟨hk,⟨L,_,hf,hn,e,hd⟩,ih (λb hb=>hs b (by unfold frs;rw[zzS,hf];exact zB _ hb)) hr⟩
 exact all X.outer (λ_ hb=>hb) I.ok.funs
theorem Inv.stack(I:Inv X pins σ H s):s.heap.FunFrames X.base X.stack:=by rcases I.ok.stk with e|⟨e,hf⟩;rw[e];exact I.funs;rw[e];obtain⟨m,hn,_⟩:=I.loc;refine .cons (by rw[I.ok.kind];decide) hf hn ?_ I.funs;exact Heap.get?_none_of_le (zf I.ok.bsz I.ok.above)
theorem Inv.stkSub(I:Inv X pins σ H s):∀b∈frs X.stack,b∈X.env.locals::X.fs:=λb hb=>by
 rcases I.ok.stk with e|⟨e,hf⟩
 ·grind
 ·rw[e]at hb
  unfold frs at hb
  rw[zzS,hf]at hb
  exact hb
theorem Inv.stkFree(I:Inv X pins σ H s):∀b∈frs X.stack,H b=none:=λb hb=>by rcases zS.mp (I.stkSub b hb) with e|hb;rw[e];exact I.free;obtain⟨_,o,ho,_⟩:=I.ok.funs.mem hb;exact I.base.free b o ho (I.ok.frf b hb) λz=>I.ok.exfs b z hb
theorem Inv.step{g':Array GenState}{t':Nat}{d':Drawn}{ch:List Addr}(I:Inv X pins σ H s)
  (hch:∀b∈ch,(b∈X.ex\/X.s₀.heap.objs.size<=b)/\b≠X.env.locals/\(∀x c,X.env.cells.lookup x=some c->c≠b)/\∀p∈X.pn++pins,p.1≠b)
  (keep:∀b o,b≠X.env.locals->b∉X.fs->b∉ch->s.heap.get? b=some o->H b=none->h'.get? b=some o)
  (slot:∀b o,b≠X.env.locals->b∈X.fs->b∉ch->s.heap.get? b=some o->H b=none->∃sl,h'.get? b=some { o with slots:=sl }) (free:∀b o,b∉ch->s.heap.get? b=some o->H b=none->H' b=none)
  (there:∀b o,b∉ch->s.heap.get? b=some o->∃o',h'.get? b=some o')
  (tups:∀b xs,H b=some (.tup xs)->H' b=some (.tup xs)) (frzs:∀b o u,H b=some (.frz o u)->H' b=some (.frz o u)) (tbls:∀b ps,H b=some (.tbl ps)->∃more,H' b=some (.tbl (ps++more)))
  (ns:∀m,s.heap.Ns X.env.locals m->h'.Ns X.env.locals m) (hok:HOk X.prog X.w H' h') (hg:AllBare g') :
  Inv X pins σ H' { s with heap:=h',gens:=g',drawn:=d',toks:=t' }:=by
 have neL:∀b o,X.s₀.heap.get? b=some o->b≠X.env.locals:=λb o e=>zU (zj (zL e) I.ok.above)
 have neC:∀b o,X.s₀.heap.get? b=some o->b∉X.ex->b∉ch:=λb o e hx hb=>by rcases(hch b hb).1 with z|z;exact hx z;exact absurd (zj (zL e) z) (ZN _)
 have cellK:∀x c,X.env.cells.lookup x=some c->∀v,s.heap.IsCell c v->h'.IsCell c v:=λx c e v zq=>by obtain⟨o,ho,hd⟩:=zq;have nch:c∉ch:=λz=>(hch c z).2.2.1 x c e rfl;by_cases hc:c∈X.fs;obtain⟨sl,q⟩:=slot c o (I.cne x c e) hc nch ho (I.freeC x c e);exact⟨_,q,hd⟩;exact⟨o,keep c o (I.cne x c e) hc nch ho (I.freeC x c e),hd⟩
 refine⟨I.ok,I.os,hg,⟨λb o e n hb hx=>?_,λb o e n hb hx=>?_,λb o e n hx=>?_,λb o e hx=>?_,λb xs e=>tups b xs (I.base.tups b xs e),λb o xs e=>frzs b o xs (I.base.frzs b o xs e),λb ps e=>?_⟩,?_,λx c e=>?_,?_,λx c e=>?_,λp hp=>?_,hok,I.len⟩
 ·exact keep b o (neL b o e) hb (neC b o e hx) (I.base.keep b o e n hb hx) (I.base.free b o e n hx)
 ·obtain⟨sl,e1⟩:=I.base.slot b o e n hb hx
  obtain⟨sl',e2⟩:=slot b _ (neL b o e) hb (neC b o e hx) e1 (I.base.free b o e n hx)
  exact⟨sl',e2⟩
 ·obtain⟨o',e1⟩:=I.base.there b o e hx
  exact free b o' (neC b o e hx) e1 (I.base.free b o e n hx)
 ·obtain⟨o',e1⟩:=I.base.there b o e hx
  exact there b o' (neC b o e hx) e1
 ·obtain⟨m1,e1⟩:=I.base.tbls b ps e
  obtain⟨m2,e2⟩:=tbls b _ e1
  exact⟨m1++m2,by rw[e2,Array.append_assoc]⟩
 ·obtain⟨m,hn,hl⟩:=I.loc
  refine⟨m,ns m hn,λi x v e1 e2 e3=>?_⟩
  obtain⟨u,r,l⟩:=hl i x v e1 e2 e3
  refine⟨u,r,?_⟩
  rcases l with l|⟨k,c,e,z⟩
  ·exact .inl l
  ·exact .inr ⟨k,c,e,cellK x c e _ z⟩
 ·obtain⟨v,z⟩:=I.cell x c e
  exact⟨v,cellK x c e v z⟩
 ·obtain⟨m,⟨o,_,_,ho,_⟩,_⟩:=I.loc
  exact free _ o (λz=>(hch _ z).2.1 rfl) ho I.free
 ·obtain⟨v,o,ho,hd⟩:=I.cell x c e
  exact free c o (λz=>(hch c z).2.2.1 x c e rfl) ho (I.freeC x c e)
 ·obtain⟨e,n,ne,nf,d⟩:=I.pin p hp
  have nch:p.1∉ch:=λz=>(hch p.1 z).2.2.2 p hp rfl
  exact⟨keep p.1 p.2 ne nf nch e n,free p.1 p.2 nch e n,ne,nf,d⟩
theorem Inv.un{t':Nat}(I:Inv X pins σ H s)(u:Un X.fs [] H H' s.heap h')(hok:HOk X.prog X.w H' h'):Inv X pins σ H' { s with heap:=h',toks:=t' }:=by
 obtain⟨m,⟨o,es,ep,ho,r⟩,_⟩:=id I.loc;obtain⟨sl,hL⟩:=u.any ho I.free ZzS
 exact I.step (g':=s.gens) (d':=s.drawn) (ch:=[]) (λ_ z=>nomatch z) (λb o _ hb _ e n=>u.keep b o e n hb ZzS) (λb o _ hb _ e n=>u.slot b o e n hb ZzS) (λb o _ e n=>u.free b o e n ZzS) (λb o _ e=>u.there b o e ZzS) u.tups u.frzs u.tbls (λm' hm=>by
  obtain⟨o',es',ep',ho',r'⟩:=hm
  rw[ho]at ho';cases ho'
  exact⟨_,es',ep',hL,r'⟩) hok I.bare
theorem Inv.call(I:Inv X pins σ H s)(u:Un (frs X.stack) ch H H' s.heap h')(hok:HOk X.prog X.w H' h')(hg:AllBare g')
  (hch:∀b∈ch,(b∈X.ex\/X.s₀.heap.objs.size<=b)/\b≠X.env.locals/\(∀x c,X.env.cells.lookup x=some c->c≠b)/\∀p∈X.pn++pins,p.1≠b) :
  Inv X pins σ H' { s with heap:=h',gens:=g',drawn:=d',toks:=t' }:=by
 obtain⟨m,⟨o,es,ep,ho,r⟩,_⟩:=id I.loc
 obtain⟨sl,hL⟩:=u.any ho I.free λz=>(hch _ z).2.1 rfl
 exact I.step (ch:=ch) hch (λb o hL hb hc e n=>u.keep b o e n (λz=>(zS.mp (I.stkSub b z)).elim hL hb) hc) (λb o _ _ hc e n=>u.any e n hc) (λb o hc e n=>u.free b o e n hc) (λb o hc e=>u.there b o e hc) u.tups u.frzs u.tbls (λm' hm=>by
  obtain⟨o',es',ep',ho',r'⟩:=hm
  rw[ho]at ho';cases ho'
  exact⟨_,es',ep',hL,r'⟩) hok hg
theorem Inv.turned{t':Nat}{it:Addr}(I:Inv X pins σ H s)(k:∀b o,b≠it->s.heap.get? b=some o->h'.get? b=some o)(hn:H it=none)(hL:it≠X.env.locals)
  (h1:it∈X.ex\/X.s₀.heap.objs.size<=it) (h2:∀x c,X.env.cells.lookup x=some c->c≠it) (h3:∀p∈X.pn++pins,p.1≠it):Inv X pins σ H { s with heap:=h',toks:=t' }:=by
 have nit:∀b u,H b=some u->b≠it:=λb u e z=>by rw[z,hn]at e;cases e
 refine I.step (g':=s.gens) (d':=s.drawn) (ch:=[it]) (λb hb=>?_) (λb o _ _ hc e _=>k b o (λz=>hc (by simp[z])) e) (λb o _ _ hc e _=>⟨o.slots,k b o (λz=>hc (by simp[z])) e⟩) (λ_ _ _ _ n=>n)
  (λb o hc e=>⟨o,k b o (λz=>hc (by simp[z])) e⟩) (λ_ _ e=>e) (λ_ _ _ e=>e) (λb ps e=>⟨#[],by rw[e];simp⟩) (λm hm=>?_) (λb u e=>?_) I.bare
 ·have e:b=it:=by simpa using hb
  subst e
  exact⟨h1,hL,h2,h3⟩
 ·obtain⟨o,es,ep,ho,r⟩:=hm
  exact⟨o,es,ep,k _ o (zzi hL) ho,r⟩
 ·refine(I.hok b u e).stay (λc v hc q=>k c v ?_ q) (λ_ q=>q) λ_ _ q=>q
  rcases hc with z|z
  ·rw[z];exact nit b u e
  ·exact nit c _ z
theorem Inv.tok(I:Inv X pins σ H s)(t):Inv X pins σ H { s with toks:=t }:=I.un   Un.refl I.hok
theorem Inv.kept{t':Nat}(I:Inv X pins σ H s)(k:∀b u,s.heap.get? b=some u->h'.get? b=some u):Inv X pins σ H { s with heap:=h',toks:=t' }:=I.un (Un.kept k) (I.hok.kept k)
theorem Inv.laid{a:Addr}{o:HO}{t':Nat}(I:Inv X pins σ H s)(k:∀b u,s.heap.get? b=some u->h'.get? b=some u)(hp:s.heap.objs.size<=a)(new:ObjOk X.prog X.w (upd H a o) h' a o) :
 Inv X pins σ (upd H a o) { s with heap:=h',toks:=t' }:=I.un (Un.laid k hp (I.hok.fresh hp)) (I.hok.laid k hp new)
theorem Inv.write(I:Inv X pins σ H s)(mu:Mut (H x))(he:e=x\/H e=some (.own x))(k:∀b u,b≠e->s.heap.get? b=some u->h'.get? b=some u)(heo:∃u,h'.get? e=some u)
 (new:ObjOk X.prog X.w (upd H x o) h' x o):Inv X pins σ (upd H x o) { s with heap:=h',toks:=t' }:=I.un (Un.write mu he k heo) (I.hok.write mu he k heo new)
theorem Inv.pins_of(I:Inv X pins σ H s)(h:∀p∈pins',s.heap.get? p.1=some p.2/\H p.1=none/\p.1≠X.env.locals/\p.1∉X.fs/\∀v,p.2.data≠.cell v):Inv X pins' σ H s :=
 ⟨I.ok,I.os,I.bare,I.base,I.loc,I.cell,I.free,I.freeC,λp hp=>(Za.mp hp).elim (λz=>I.pin p (Ze _ z)) (h p),I.hok,I.len⟩
theorem QdC{N:List Str}(hN:N.Nodup){i j:Nat}(a:N[i]?=some x)(b:N[j]?=some x):i=j:=by obtain⟨h1,e1⟩:=ze.mp a;obtain⟨h2,e2⟩:=ze.mp b;exact(List.getElem_inj hN).mp (e1.trans e2.symm)
theorem QfJ{M:Model}{E:Value->Shared->Prop}(I:Inv X pins σ H s)(hN:X.N.Nodup)(hi:X.N[i]?=some x)(hx:Loc X.env.scope x)(r:RelV v u)
  (h:∀s',Inv X pins (σ.set i (some v)) H s'->(∃a,Heap.SameBut a s.heap s'.heap/\(a=X.env.locals\/X.env.cells.lookup x=some a))->Q () s') (hf:X.fn x=true\/X.env.scope.names.lookup x=some .local:=by first|exact .inl rfl|exact .inr rfl|assumption):wpAny M A (storeName X.env x u) Q E s:=by
 obtain⟨m,hn,hl⟩:=id I.loc
 have hcls:(X.env.scope.kind==.class||(X.env.scope.kind==.module&&X.env.locals != X.env.globals))=false:=by rw[I.ok.kind];rfl
 have hiσ:i<σ.length:=by rw[I.len];exact(ze.mp hi).1
 have cne:=I.cne
 have tracked:∀{a:Addr}{h':Heap},(∃o,s.heap.get? a=some o/\H a=none)->Heap.SameBut a s.heap h'->HOk X.prog X.w H h':=λ{a h'} ha hs b ob e=>by obtain⟨_,_,hfree⟩:=ha;refine(I.hok b ob e).stay (λc w' hc q=>(hs.2 c ?_).trans q) (λ_ q=>q) λ_ _ q=>q;rintro rfl;rcases hc with rfl|hc;rw[hfree]at e;cases e;rw[hfree]at hc;cases hc
 rcases hx with hk|hk
 ·refine wpAny_storeName_local hk hn (λh' hn' hs=>?_) hcls
  obtain⟨oL,_,_,hoL,_⟩:=id hn
  refine h _ ⟨I.ok,I.os,I.bare,⟨λb o e n hb hx=>?_,λb o e n hb hx=>?_,I.base.free,λb o e hx=>?_,I.base.tups,I.base.frzs,I.base.tbls⟩,⟨_,hn',λj y v' e1 e2 e3=>?_⟩,λy c e=>?_,I.free,I.freeC,λp hp=>?_,tracked ⟨oL,hoL,I.free⟩ hs,by simpa using I.len⟩ ⟨_,hs,.inl rfl⟩
  ·exact(hs.2 b (zU (zj (zL e) I.ok.above))).trans (I.base.keep b o e n hb hx)
  ·obtain⟨sl,e1⟩:=I.base.slot b o e n hb hx
   exact⟨sl,(hs.2 b (zU (zj (zL e) I.ok.above))).trans e1⟩
  ·obtain⟨o',e1⟩:=I.base.there b o e hx
   exact⟨o',(hs.2 b (zU (zj (zL e) I.ok.above))).trans e1⟩
  ·by_cases hj:j=i
   ·subst hj
    rw[hi]at e1;cases e1
    rw[zZ hiσ]at e2
    cases e2
    exact⟨u,r,.inl ⟨hk,ZzS⟩⟩
   ·rw[zY (zzi hj)]at e2
    obtain⟨u',r',q⟩:=hl j y v' e1 e2 e3
    refine⟨u',r',?_⟩
    rcases q with⟨k,e⟩|⟨k,c,e,z⟩
    ·refine .inl ⟨k,?_⟩
     have:y≠x:=λe=>hj (QdC hN e1 (e▸hi))
     simp[this,e]
    ·exact .inr ⟨k,c,e,z.sameBut hs (cne y c e)⟩
  ·obtain⟨w',z⟩:=I.cell y c e
   exact⟨w',z.sameBut hs (cne y c e)⟩
  ·obtain⟨e,n,ne,nf,d⟩:=I.pin p hp
   exact⟨(hs.2 p.1 ne).trans e,n,ne,nf,d⟩
 ·have hfn:X.fn x=true:=by rcases hf with z|z;exact z;rw[z]at hk;cases hk
  obtain⟨c,hc⟩:=I.ok.has x (.inl hk)
  obtain⟨w',z⟩:=I.cell x c hc
  refine wpAny_storeName_cell I.ok.kind hk hc z (λh' hc' hs=>?_)
  obtain⟨oc,hoc,hocd⟩:=id z
  refine h { s with heap:=h' } ⟨I.ok,I.os,I.bare,⟨λb o e n hb hx=>?_,λb o e n hb hx=>?_,I.base.free,λb o e hx=>?_,I.base.tups,I.base.frzs,I.base.tbls⟩,⟨m,hn.sameBut hs (zzi (cne x c hc)),λj y v' e1 e2 e3=>?_⟩,λy c' e=>?_,I.free,I.freeC,λp hp=>?_,tracked ⟨oc,hoc,I.freeC x c hc⟩ hs,by simpa using I.len⟩ ⟨c,hs,.inr hc⟩
  ·exact(hs.2 b (zU (zj (zL e) (I.ok.cab x c hfn hc)))).trans (I.base.keep b o e n hb hx)
  ·obtain⟨sl,e1⟩:=I.base.slot b o e n hb hx
   exact⟨sl,(hs.2 b (zU (zj (zL e) (I.ok.cab x c hfn hc)))).trans e1⟩
  ·obtain⟨o',e1⟩:=I.base.there b o e hx
   exact⟨o',(hs.2 b (zU (zj (zL e) (I.ok.cab x c hfn hc)))).trans e1⟩
  ·by_cases hj:j=i
   ·subst hj
    rw[hi]at e1;cases e1
    rw[zZ hiσ]at e2
    cases e2
    exact⟨u,r,.inr ⟨.inl hk,c,hc,hc'⟩⟩
   ·rw[zY (zzi hj)]at e2
    obtain⟨u',r',q⟩:=hl j y v' e1 e2 e3
    refine⟨u',r',?_⟩
    rcases q with q|⟨k,c',e,z'⟩
    ·exact .inl q
    ·refine .inr ⟨k,c',e,z'.sameBut hs ?_⟩
     rintro rfl
     exact hj (QdC hN e1 (I.ok.inj _ _ _ e hc▸hi))
  ·by_cases hcc:c'=c
   ·subst hcc;exact⟨_,hc'⟩
   ·obtain⟨w2,z2⟩:=I.cell y c' e
    exact⟨w2,z2.sameBut hs hcc⟩
  ·obtain⟨e,n,ne,nf,d⟩:=I.pin p hp
   refine⟨(hs.2 p.1 ?_).trans e,n,ne,nf,d⟩
   intro q
   rw[q,hoc]at e
   have q':oc=p.2:=zW e
   exact d w' (by rw[<- q'];exact hocd)
theorem Qcm{M:Model}{A:Around}(I:Inv X pins σ H s)(hN:X.N.Nodup)(hi:X.N[i]?=some x)(hx:Loc X.env.scope x)(r:RelV v u)
  (h:∀s',Inv X pins (σ.set i (some v)) H s'->Q () s') (hf:X.fn x=true\/X.env.scope.names.lookup x=some .local:=by rfl):wpAny M A (storeName X.env x u) Q E s :=
 QfJ I hN hi hx r (λs' I' _=>h s' I') hf
theorem Inv.call'{s':Shared}{ch:List Addr}(I:Inv X pins σ H s)(ho:s'.os=s.os)(u:Un (frs X.stack) ch H H' s.heap s'.heap)(hok:HOk X.prog X.w H' s'.heap)(hg:AllBare s'.gens)
  (hch:∀b∈ch,(b∈X.ex\/X.s₀.heap.objs.size<=b)/\b≠X.env.locals/\(∀x c,X.env.cells.lookup x=some c->c≠b)/\∀p∈X.pn++pins,p.1≠b):Inv X pins σ H' s':=by
 obtain⟨h',g',d',t',o'⟩:=s'
 have e:o'=s.os:=ho
 subst e
 exact I.call (g':=g') (t':=t') (d':=d') u hok hg hch
end
abbrev XK:=Value->Option Addr->Hp->Prop
abbrev St:=List (Option V)
abbrev VK:=V->Hp->Prop
abbrev TE:=St->Hp->VK->Prop
abbrev TT:=St->Hp->(Bool->Hp->Prop)->Prop
abbrev TA:=St->Hp->(List V->Hp->Prop)->Prop
structure Ends where
 nx:St->Hp->Prop
 rt:VK
 bk:St->Hp->Prop:=λ_ _=>False
 ct:St->Hp->Prop:=λ_ _=>False
abbrev TS:=Ends->St->Hp->Prop
def EP(X:Cx)(pins:List (Addr×Obj))(σ:St)(Q:VK)(u:Value)(s':Shared):Prop:=∃v H',Inv X pins σ H' s'/\RelV v u/\Q v H'
def TP(X:Cx)(pins:List (Addr×Obj))(σ:St)(Q:Bool->Hp->Prop)(b:Bool)(s':Shared):Prop:=∃H',Inv X pins σ H' s'/\Q b H'
def AP(X:Cx)(pins:List (Addr×Obj))(σ:St)(Q:List V->Hp->Prop)(us:List Value)(s':Shared):Prop:=∃vs H',Inv X pins σ H' s'/\Vals vs us/\Q vs H'
def SP(X:Cx)(pins:List (Addr×Obj))(D:Ends)(f:Flow)(s':Shared):Prop :=
 match f with
 |.next=>∃σ' H',Inv X pins σ' H' s'/\D.nx σ' H'
 |.brk=>∃σ' H',Inv X pins σ' H' s'/\D.bk σ' H'
 |.cont=>∃σ' H',Inv X pins σ' H' s'/\D.ct σ' H'
 |.ret u=>∃v σ' H',Inv X pins σ' H' s'/\RelV v u/\D.rt v H'
def PE(X:Cx)(e:Expr)(t:TE):Prop :=
 ∀(pins:List (Addr×Obj)) (s:Shared) (σ:St) (H:Hp) (Q:VK),Inv X pins σ H s->t σ H Q->wpAny (model X.prog X.w) X.A (eval e X.env) (EP X pins σ Q) X.xe s
def PT(X:Cx)(e:Expr)(t:TT):Prop :=
 ∀(pins:List (Addr×Obj)) (s:Shared) (σ:St) (H:Hp) (Q:Bool->Hp->Prop),Inv X pins σ H s->t σ H Q->wpAny (model X.prog X.w) X.A (isTrue e X.env (eval e X.env)) (TP X pins σ Q) X.xe s
def PW(X:Cx)(e:Expr)(t:TT):Prop :=
 ∀(whole:Sem Value) (pins:List (Addr×Obj)) (s:Shared) (σ:St) (H:Hp) (Q:Bool->Hp->Prop),Inv X pins σ H s->t σ H Q->wpAny (model X.prog X.w) X.A (isTrue e X.env whole) (TP X pins σ Q) X.xe s
theorem PW.pt(h:PW X e t):PT X e t:=h _
def PA(X:Cx)(es:List Expr)(t:TA):Prop :=
 ∀(pos:Pos) (pins:List (Addr×Obj)) (s:Shared) (σ:St) (H:Hp) (Q:List V->Hp->Prop),Inv X pins σ H s->t σ H Q->wpAny (model X.prog X.w) X.A (spliced (backTo pos (starEach es X.env))) (AP X pins σ Q) X.xe s
def PS(X:Cx)(st:Stmt)(t:TS):Prop :=
 ∀(pins:List (Addr×Obj)) (s:Shared) (σ:St) (H:Hp) (D:Ends),Inv X pins σ H s->t D σ H->wpAny (model X.prog X.w) X.A (exec st X.env) (SP X pins D) X.xe s
def PSs(X:Cx)(st:List Stmt)(t:TS):Prop :=
 ∀(pins:List (Addr×Obj)) (s:Shared) (σ:St) (H:Hp) (D:Ends),Inv X pins σ H s->t D σ H->wpAny (model X.prog X.w) X.A (execs st X.env) (SP X pins D) X.xe s
theorem thn{α:Type}{t:Sem α}{Q Q':α->Shared->Prop}{M:Model}{A:Around}{E:Value->Shared->Prop}{s:Shared}(h:wpAny M A t Q E s)(hQ:∀a s,Q a s->Q' a s):wpAny M A t Q' E s:=ZA h hQ λ_ _ x=>x
section
variable {X:Cx}
theorem bin{a b:Expr}{ta tb:TE}(ha:PE X a ta)(hb:PE X b tb){pins:List (Addr×Obj)}{s:Shared}{σ:St}{H:Hp}{R:V->V->Hp->Prop}(I:Inv X pins σ H s)(h:ta σ H λx H1=>tb σ H1 λy H2=>R x y H2)
  {α:Type}{Q:α->Shared->Prop}{f:Value->Value->Sem α}
  (hf:∀v u s2 x y H2,Inv X pins σ H2 s2->RelV x v->RelV y u->R x y H2->wpAny (model X.prog X.w) X.A (f v u) Q X.xe s2) :
  wpAny (model X.prog X.w) X.A (eval a X.env) (λv s₁=>wpAny (model X.prog X.w) X.A (eval b X.env) (λu s₂=>wpAny (model X.prog X.w) X.A (f v u) Q X.xe s₂) X.xe s₁) X.xe s:=by
 refine thn (ha pins s σ H _ I h) λv s1 zq=>?_
 obtain⟨x,H1,I1,r1,q1⟩:=zq
 refine thn (hb pins s1 σ H1 _ I1 q1) λu s2 zq=>?_
 obtain⟨y,H2,I2,r2,q2⟩:=zq
 exact hf v u s2 x y H2 I2 r1 r2 q2
def tVar(i:Nat):TE:=λσ H Q=>∃v,σ[i]?=some (some v)/\Q v H
def tC(v:V):TE:=λ_ H Q=>Q v H
theorem Qcq{i:Nat}{x:Str}{pos:Pos}(hN:X.N[i]?=some x)(hv:Vis X.env.scope x)(hd:(x==("__debug__"))=false:=by decide)(hcd:(x==("__classdict__":Str))=false:=by decide):PE X (.Name x pos) (tVar i):=by intro pins s σ H Q I h;obtain⟨v,e,h⟩:=h;obtain⟨m,hn,hl⟩:=I.loc;obtain⟨u,r,l⟩:=hl i x v hN e hv;have fin:EP X pins σ Q u s:=⟨v,H,I,r,h⟩;rcases l with⟨hk,hm⟩|⟨hk,c,hc,hcell⟩;exact wpAny_Name (wpAny_loadName_local I.ok.kind hk hn hm fin) hd;rcases hk with hk|hk;exact wpAny_Name (wpAny_loadName_cell I.ok.kind hk hc hcell fin) hd;exact wpAny_Name (wpAny_loadName_free I.ok.kind hk hc hcell fin hcd) hd
theorem pe_int:PE X (.Constant (.int i) j pos) (tC (.int i)):=λ_ _ _ H _ I h=>wpAny_Constant_int ⟨.int i,H,I.tok _,⟨_,rfl⟩,h⟩
theorem pe_bl:PE X (.Constant (.bool b) j pos) (tC (.bl b)):=λ_ _ _ H _ I h=>Constant_bool ⟨.bl b,H,I,rfl,h⟩
theorem pe_non:PE X (.Constant .none j pos) (tC .non):=λ_ _ _ H _ I h=>Constant_none ⟨.non,H,I,rfl,h⟩
theorem pe_str:PE X (.Constant (.str x) j pos) (tC (.str x)):=λ_ _ _ H _ I h=>Calls.Constant_str ⟨.str x,H,I.tok _,⟨_,rfl⟩,h⟩
def Gl(X:Cx)(x:Str):Prop:=X.env.kindOf x=some .globalImplicit
theorem Qc0{E:Value->Shared->Prop}{pins:List (Addr×Obj)}{s:Shared}{σ:St}{H:Hp}{x:Str}{u:Value}{pos:Pos}{Q:Value->Shared->Prop}(I:Inv X pins σ H s)(hg:Gl X x)(hm:X.mg x=some u)(h:Q u s)
  (hd:(x==("__debug__"))=false:=by rfl):wpAny (model X.prog X.w) X.A (eval (.Name x pos) X.env) Q E s :=
 Calls.Name_function_global I.ok.kind hg (Calls.loadGlobal_global (by rw[I.ok.glob];exact I.mod.glob.keeps I.bk) hm h) hd
theorem Qdv{E:Value->Shared->Prop}{pins:List (Addr×Obj)}{s:Shared}{σ:St}{H:Hp}{x:Str}{u:Value}{pos:Pos}{Q:Value->Shared->Prop}(I:Inv X pins σ H s)(hg:Gl X x)(hm:X.mg x=none)(hv:bootBuiltins x=some u)(h:Q u s)
  (hn:x≠"__name__":=by decide) (hd:(x==("__debug__"))=false:=by rfl):wpAny (model X.prog X.w) X.A (eval (.Name x pos) X.env) Q E s:=by
 obtain⟨mb,h1,h2⟩:=I.mod.blt
 exact Calls.Name_function_global I.ok.kind hg (Calls.loadGlobal_builtin (by rw[I.ok.glob];exact I.mod.glob.keeps I.bk) hm (by rw[I.ok.blt];exact h1.keeps I.bk) ((h2 x hn).trans hv) h) hd
theorem Qlv{x:Str}{v:V}{u:Value}{pos:Pos}(hg:Gl X x)(hm:X.mg x=some u)(r:RelV v u)(hd:(x==("__debug__":Str))=false:=by decide):PE X (.Name x pos) (tC v) :=
 λ_ _ _ H _ I h=>Qc0 I hg hm ⟨v,H,I,r,h⟩ hd
theorem Qjl{x:Str}{v:V}{u:Value}{pos:Pos}(hg:Gl X x)(hm:X.mg x=none)(hv:bootBuiltins x=some u)(r:RelV v u)(hn:x≠"__name__":=by rfl)(hd:(x==("__debug__"))=false:=by rfl):PE X (.Name x pos) (tC v) :=
 λ_ _ _ H _ I h=>Qdv I hg hm hv ⟨v,H,I,r,h⟩ hn hd
def t2I(ta tb:TE)(k:Int->Int->Hp->Prop):St->Hp->Prop:=λσ H=>ta σ H λx H1=>tb σ H1 λy H2=>∃i j,x=.int i/\y=.int j/\k i j H2
variable {a b:Expr}{ta tb:TE}{pos:Pos}
def tCmp(p:Int->Int->Bool)(ta tb:TE):TE:=λσ H Q=>t2I ta tb (λi j H2=>Q (.bl (p i j)) H2) σ H
noncomputable abbrev tGt:TE->TE->TE:=tCmp λi j=>decide (j<i)
def tB(t:TE):TT:=λσ H Q=>t σ H λx H1=>∃c,x=.bl c/\Q c H1
theorem pt_val(h:PE X e t)(he:∀whole,isTrue e X.env whole=(do let v <- whole;standAt e.pos;holding [v] (truthy v)):=by intro _;rfl):PT X e (tB t):=by intro pins s σ H Q I hw;refine isTrue_plain (thn (h pins s σ H _ I hw) λv s1 ⟨x,H1,I1,r1,q1⟩=>?_) (he _);obtain⟨d,rfl,q⟩:=q1;cases r1;exact ZE ⟨H1,I1,q⟩
variable {tA tB':TT}{QcZ:List Expr}
def tAnd(t u:TT):TT:=λσ H Q=>t σ H λc H1=>if c=true then u σ H1 Q else Q false H1
def tOr(t u:TT):TT:=λσ H Q=>t σ H λc H1=>if c=true then Q true H1 else u σ H1 Q
def tNot(t:TT):TT:=λσ H Q=>t σ H λc H1=>Q (!c) H1
theorem Qqf(ha:PT X a tA):PW X (.BoolOp .And [a] pos) tA:=by
 intro wh pins s σ H Q I h;refine isTrue_and (thn (ha pins s σ H Q I h) λc s1 e=>?_);cases c with
 |true=>exact isTrue_and_nil e
 |false=>exact e
theorem pw_or1(ha:PT X a tA):PW X (.BoolOp .Or [a] pos) tA:=by
 intro wh pins s σ H Q I h;refine isTrue_or (thn (ha pins s σ H Q I h) λc s1 e=>?_);cases c with
 |false=>exact isTrue_or_nil e
 |true=>exact e
theorem pw_and(ha:PT X a tA)(hb:PW X (.BoolOp .And (b::QcZ) pos) tB'):PW X (.BoolOp .And (a::b::QcZ) pos) (tAnd tA tB'):=by
 intro wh pins s σ H Q I h;refine isTrue_and (thn (ha pins s σ H _ I h) λc s1 ⟨H1,I1,q1⟩=>?_);cases c with
 |true=>exact hb wh pins s1 σ H1 Q I1 q1
 |false=>assumption
theorem pw_or(ha:PT X a tA)(hb:PW X (.BoolOp .Or (b::QcZ) pos) tB'):PW X (.BoolOp .Or (a::b::QcZ) pos) (tOr tA tB'):=by
 intro wh pins s σ H Q I h;refine isTrue_or (thn (ha pins s σ H _ I h) λc s1 ⟨H1,I1,q1⟩=>?_);cases c with
 |true=>assumption
 |false=>exact hb wh pins s1 σ H1 Q I1 q1
theorem pt_not(ha:PT X a tA):PT X (.UnaryOp .Not a pos) (tNot tA):=by intro pins s σ H Q I h;exact isTrue_not (ha pins s σ H (λc H1=>Q (!c) H1) I h)
def tAndV(ta tb:TE):TE:=λσ H Q=>ta σ H λx H1=>∃c,x=.bl c/\if c=true then tb σ H1 Q else Q (.bl false) H1
def tOrV(ta tb:TE):TE:=λσ H Q=>ta σ H λx H1=>∃c,x=.bl c/\if c=true then Q (.bl true) H1 else tb σ H1 Q
def tNotV(ta:TE):TE:=λσ H Q=>ta σ H λx H1=>∃c,x=.bl c/\Q (.bl (!c)) H1
theorem pe_one(h:PE X a t):PE X (.BoolOp op [a] pos) t:=λpins s σ H Q I hw=>BoolOp_one (h pins s σ H Q I hw)
theorem pe_and(ha:PE X a ta)(hb:PE X (.BoolOp .And (b::QcZ) pos) tb):PE X (.BoolOp .And (a::b::QcZ) pos) (tAndV ta tb):=by
 intro pins s σ H Q I h;refine BoolOp_and (thn (ha pins s σ H _ I h) λv s1 zq=>?_);obtain⟨x,H1,I1,r1,q1⟩:=zq;obtain⟨c,rfl,q1⟩:=q1;cases r1;refine ZE ?_;cases c with
 |true=>exact hb pins s1 σ H1 Q I1 q1
 |false=>exact⟨.bl false,H1,I1,rfl,q1⟩
theorem pe_or(ha:PE X a ta)(hb:PE X (.BoolOp .Or (b::QcZ) pos) tb):PE X (.BoolOp .Or (a::b::QcZ) pos) (tOrV ta tb):=by
 intro pins s σ H Q I h;refine BoolOp_or (thn (ha pins s σ H _ I h) λv s1 zq=>?_);obtain⟨x,H1,I1,r1,q1⟩:=zq;obtain⟨c,rfl,q1⟩:=q1;cases r1;refine ZE ?_;cases c with
 |false=>exact hb pins s1 σ H1 Q I1 q1
 |true=>exact⟨.bl true,H1,I1,rfl,q1⟩
theorem pe_not(ha:PE X a ta):PE X (.UnaryOp .Not a pos) (tNotV ta):=by intro pins s σ H Q I h;refine UnaryOp_ (thn (ha pins s σ H _ I h) λv s1 zq=>?_);obtain⟨x,H1,I1,r1,q1⟩:=zq;obtain⟨c,rfl,q1⟩:=q1;cases r1;exact not_of (ZE ⟨.bl (!c),H1,I1,rfl,q1⟩)
def tIf(t:TT)(ta tb:TE):TE:=λσ H Q=>t σ H λc H1=>if c=true then ta σ H1 Q else tb σ H1 Q
theorem Qmy(hc:PT X c tA)(ha:PE X a ta)(hb:PE X b tb):PE X (.IfExp c a b pos) (tIf tA ta tb):=by
 intro pins s σ H Q I h;refine wpAny_IfExp (thn (hc pins s σ H _ I h) λd s1 zq=>?_);obtain⟨H1,I1,q1⟩:=zq;cases d with
 |true=>exact ha pins s1 σ H1 Q I1 q1
 |false=>exact hb pins s1 σ H1 Q I1 q1
end
def SqL(K:Fg0)(H:Hp)(a:Addr)(xs:List V):Prop :=
 Rd H a (.lst xs) \/
  ∃(o:Obj) (its:Array Value) (n:Nat),K.lookup a=some o/\o.cls=.type "list"/\o.dict=none/\o.data=.seq its n/\its.size<=sizeLine/\Vals xs its.toList
def SqT(K:Fg0)(H:Hp)(a:Addr)(xs:List V):Prop :=
 Rd H a (.tup xs) \/
  ∃(o:Obj) (its:Array Value) (n:Nat),K.lookup a=some o/\o.cls=.type "tuple"/\o.data=.seq its n/\its.size<=sizeLine/\Vals xs its.toList
noncomputable def absV:Value->Option V
 |.none=>some .non
 |.bool b=>some (.bl b)
 |.int i _=>some (.int i)
 |.str x _=>some (.str x)
 |.bytes b _=>some (.byt b)
 |.float b _=>some (.flt b)
 |.ref a=>some (.ref a)
 |.type n=>some (.ty n)
 |_=>none
theorem RelV.abs(r:RelV x u):absV u=some x:=by
 cases x with
 |non=>cases r;rfl
 |bl _=>cases r;rfl
 |int _=>obtain⟨t,rfl⟩:=r;rfl
 |str _=>obtain⟨t,rfl⟩:=r;rfl
 |byt _=>obtain⟨t,rfl⟩:=r;rfl
 |flt _=>obtain⟨t,rfl⟩:=r;rfl
 |ref _=>cases r;rfl
 |ty _=>cases r;rfl
theorem RelV.inj(r:RelV x u)(q:RelV y u):x=y:=zW (r.abs.symm.trans q.abs)
theorem Vals.inj:∀{xs ys:List V}{us:List Value},Vals xs us->Vals ys us->xs=ys
 |_,_,_,.nil,.nil=>rfl
 |_,_,_,.cons r t,.cons r' t'=>by rw[r.inj r',Vals.inj t t']
section
variable {X:Cx}{pins:List (Addr×Obj)}{σ:St}{H:Hp}{s:Shared}{a:Addr}{xs ys:List V}
theorem Inv.list(I:Inv X pins σ H s)(h:SqL X.K H a xs):∃its:List Value,Vals xs its/\PlainL s.heap a its.toArray/\xs.length<=sizeLine:=by
 rcases h with h|⟨o,its,n,hk,hc,hd,hs,hz,r⟩
 ·obtain⟨z,its,n,r,e⟩:=h.ok I.hok
  exact⟨its,r,⟨_,n,e,rfl,rfl,rfl⟩,z⟩
 ·refine⟨its.toList,r,⟨o,n,I.kIn a o hk,hc,hd,ZzO⟩,?_⟩
  have e:=r.length
  grind
theorem Inv.tuple(I:Inv X pins σ H s)(h:SqT X.K H a xs):∃its:List Value,Vals xs its/\IsTup s.heap a its.toArray/\xs.length<=sizeLine:=by rcases h with h|⟨o,its,n,hk,hc,hs,hz,r⟩;obtain⟨z,its,r,p⟩:=h.ok I.hok;exact⟨its,r,p,z⟩;refine⟨its.toList,r,⟨o,I.kIn a o hk,hc,n,ZzO⟩,?_⟩;have e:=r.length;simp_all
theorem Inv.list_inj(I:Inv X pins σ H s)(h:SqL X.K H a xs)(h':SqL X.K H a ys):xs=ys:=by
 obtain⟨its,r,⟨o,n,e,_,_,d⟩,_⟩:=I.list h;obtain⟨its',r',⟨o',n',e',_,_,d'⟩,_⟩:=I.list h';have:its=its':=by grind
 subst this;exact r.inj r'
theorem Inv.tuple_inj(I:Inv X pins σ H s)(h:SqT X.K H a xs)(h':SqT X.K H a ys):xs=ys:=by
 obtain⟨its,r,⟨o,e,_,n,d⟩,_⟩:=I.tuple h;obtain⟨its',r',⟨o',e',_,n',d'⟩,_⟩:=I.tuple h';have:its=its':=by grind
 subst this;exact r.inj r'
end
section
variable {X:Cx}{pins:List (Addr×Obj)}{σ:St}{H:Hp}{s:Shared}{E:Value->Shared->Prop}
end
section
variable {X:Cx}{st:Stmt}{QcZ:List Stmt}{t u:TS}{e:Expr}{te:TE}{pos:Pos}
def Qpr:TS:=λD σ H=>D.nx σ H
def tSeq(t u:TS):TS:=λD σ H=>t { D with nx:=u D } σ H
theorem pss_nil:PSs X [] Qpr:=λ_ _ σ H _ I h=>wpAny_execs_nil ⟨σ,H,I,h⟩
theorem Qbw(h1:PS X st t)(h2:PSs X QcZ u):PSs X (st::QcZ) (tSeq t u):=by
 intro pins s σ H D I h;refine wpAny_execs_cons (thn (h1 pins s σ H { D with nx:=u D } I h) λf s1 q=>?_);cases f with
 |next=>obtain⟨σ',H',I',q⟩:=q;exact h2 pins s1 σ' H' D I' q
 |ret v=>exact q
 |brk=>exact q
 |cont=>exact q
def tBreak:TS:=λD σ H=>D.bk σ H
def tCont:TS:=λD σ H=>D.ct σ H
theorem ps_pass:PS X (.Pass pos) Qpr:=λ_ _ σ H _ I h=>wpAny_Pass ⟨σ,H,I,h⟩
theorem ps_break:PS X (.Break pos) tBreak:=λ_ _ σ H _ I h=>wpAny_Break ⟨σ,H,I,h⟩
theorem ps_continue:PS X (.Continue pos) tCont:=λ_ _ σ H _ I h=>wpAny_Continue ⟨σ,H,I,h⟩
theorem Inv.quiet{pins:List (Addr×Obj)}{σ:St}{H:Hp}{s:Shared}(I:Inv X pins σ H s):interactive X.env=false:=by simp[interactive,I.ok.kind]
theorem ps_doc:PS X (.Expr (.Constant (.str x) j pos) pos') Qpr:=λ_ s σ H _ I h=>wpAny_Expr (Calls.Constant_str (show SP X _ _ .next { s with toks:=s.toks+1 } from⟨σ,H,I.tok _,h⟩)) I.quiet
def tDrop(te:TE):TS:=λD σ H=>te σ H λ_ H1=>D.nx σ H1
theorem QpJ(he:PE X e te)(hs:swapsWith e none pos.line X.env=pure false:=by rfl):PS X (.Expr e pos) (tDrop te):=by intro pins s σ H D I h;exact wpAny_Expr_any (thn (he pins s σ H _ I h) λv s1 ⟨x,H1,I1,r1,q1⟩=>⟨σ,H1,I1,q1⟩) I.quiet hs
def tRet(te:TE):TS:=λD σ H=>te σ H D.rt
theorem QjR(he:PE X e te):PS X (.Return (some e) pos) (tRet te):=by intro pins s σ H D I h;exact wpAny_Return_some (thn (he pins s σ H _ I h) λv s1 ⟨x,H1,I1,r1,q1⟩=>⟨x,σ,H1,I1,r1,q1⟩)
def tRetN:TS:=λD _ H=>D.rt .non H
theorem ps_retN:PS X (.Return none pos) tRetN:=λ_ _ σ H _ I h=>wpAny_Return_none ⟨.non,σ,H,I,rfl,h⟩
def tIfS(c:TT)(t u:TS):TS:=λD σ H=>c σ H λb H1=>if b=true then t D σ H1 else u D σ H1
theorem ps_if(hc:PT X c tc)(ha:PSs X a t)(hb:PSs X b u):PS X (.If c a b pos) (tIfS tc t u):=by
 intro pins s σ H D I h;refine wpAny_If (thn (hc pins s σ H _ I h) λd s1 zq=>?_);obtain⟨H1,I1,q1⟩:=zq;cases d with
 |true=>exact ha pins s1 σ H1 D I1 q1
 |false=>exact hb pins s1 σ H1 D I1 q1
end
abbrev TG:=V->St->Hp->(St->Hp->Prop)->Prop
abbrev TGs:=List V->St->Hp->(St->Hp->Prop)->Prop
def PG(X:Cx)(target:Expr)(t:TG):Prop :=
 ∀(pins:List (Addr×Obj)) (s:Shared) (σ:St) (H:Hp) (v:V) (u:Value) (Q:St->Hp->Prop),Inv X pins σ H s->RelV v u->t v σ H Q ->
  wpAny (model X.prog X.w) X.A (assign target X.env u) (λ_ s'=>∃σ' H',Inv X pins σ' H' s'/\Q σ' H') X.xe s
def PGs(X:Cx)(ts:List Expr)(t:TGs):Prop :=
 ∀(pins:List (Addr×Obj)) (s:Shared) (σ:St) (H:Hp) (vs:List V) (us:List Value) (Q:St->Hp->Prop),Inv X pins σ H s->Vals vs us->t vs σ H Q ->
  wpAny (model X.prog X.w) X.A (assignInOrder ((assignEach ts X.env).map (·.2)) us) (λ_ s'=>∃σ' H',Inv X pins σ' H' s'/\Q σ' H') X.xe s
abbrev TSet:=V->V->V->Hp->(Hp->Prop)->Prop
def PSet(X:Cx)(t:TSet):Prop :=
 ∀(pins:List (Addr×Obj)) (s:Shared) (σ:St) (H:Hp) (o i v:V) (ov iv u:Value) (Q:Hp->Prop),Inv X pins σ H s->RelV o ov->RelV i iv->RelV v u->t o i v H Q ->
  wpAny (model X.prog X.w) X.A (setItem ov iv u) (λ_ s'=>∃H',Inv X pins σ H' s'/\Q H') X.xe s
section
variable {X:Cx}{pos:Pos}
def gName(i:Nat):TG:=λv σ H Q=>Q (σ.set i (some v)) H
theorem Qk5(hN:X.N.Nodup)(hi:X.N[i]?=some x)(hx:Loc X.env.scope x)(hf:X.fn x=true\/X.env.scope.names.lookup x=some .local:=by rfl):PG X (.Name x pos) (gName i):=by intro pins s σ H v u Q I r h;exact wpAny_assign_Name (Qcm I hN hi hx r (λs' I'=>⟨_,H,I',h⟩) hf)
def gNil:TGs:=λvs σ H Q=>vs=[]/\Q σ H
def gCons(t:TG)(u:TGs):TGs:=λvs σ H Q=>∃v r,vs=v::r/\t v σ H λσ' H'=>u r σ' H' Q
theorem pgs_nil:PGs X [] gNil:=by intro pins s σ H vs us Q I r h;obtain⟨e,h⟩:=h;exact assignInOrder_nil ⟨σ,H,I,h⟩
theorem Qnv(h1:PG X e t)(h2:PGs X es u)
  (hs:(assignEach (e::es) X.env).map (·.2)=assign e X.env::(assignEach es X.env).map (·.2):=by rfl):PGs X (e::es) (gCons t u):=by
 intro pins s σ H vs us Q I r h
 obtain⟨v,vr,e1,h⟩:=h
 subst e1
 cases r with
 |cons r rr =>
  rw[hs]
  exact assignInOrder_cons (thn (h1 pins s σ H _ _ _ I r h) λ_ s1 ⟨σ1,H1,I1,q1⟩=>(h2 pins s1 σ1 H1 _ _ Q I1 rr q1))
def gTup(K:Fg0)(n:Nat)(t:TGs):TG:=λv σ H Q=>∃a xs,v=.ref a/\SqT K H a xs/\xs.length=n/\t xs σ H Q
theorem pg_tup{es:List Expr}{k:Nat}{t:TGs}{n:Nat}(hc:X.calm=true)(h:PGs X es t)
  (hn:(assignEach es X.env).length=n:=by rfl) (hst:(assignEach es X.env).findIdx? (·.1)=none:=by rfl):PG X (.Tuple es k pos) (gTup X.K n t):=by
 intro pins s σ H v u Q I r hw
 obtain⟨a,xs,e1,hq,hl,hw⟩:=hw
 subst e1
 cases r
 obtain⟨its,rv,ht,hz⟩:=I.tuple hq
 refine assign_Tuple_tuple (I.ok.hd hc) ht (by simp[hn,<- hl,rv.length]) hst λh' hx=>?_
 have I1 :=I.kept (t':=s.toks) λb o e=>hx b o (zU (zL e)) e
 exact h pins _ σ H xs _ Q I1 ZzL hw
def gSub(to ti:TE)(t:TSet):TG:=λv σ H Q=>to σ H λo H1=>ti σ H1 λi H2=>t o i v H2 λH3=>Q σ H3
theorem QnU{o i:Expr}{to ti:TE}{t:TSet}(ho:PE X o to)(hi:PE X i ti)(hs:PSet X t)
  (ha:∀v,assign (.Subscript o i pos) X.env v=(do
   let ov <- holding [v] (eval o X.env)
   let iv <- holding [v,ov] (eval i X.env)
   standAt pos
   holding [v,ov,iv] (setItem ov iv v)
   release [v,ov,iv] []):=by rfl):PG X (.Subscript o i pos) (gSub to ti t):=by
 intro pins s σ H v u Q I r h
 refine zd (Zu (thn (ho pins s σ H _ I h) λov s1 zq=>?_))
 obtain⟨x,H1,I1,r1,q1⟩:=zq
 refine zd (Zu (thn (hi pins s1 σ H1 _ I1 q1) λiv s2 zq=>?_))
 obtain⟨y,H2,I2,r2,q2⟩:=zq
 exact zd (zzF (zd (Zu (thn (hs pins s2 σ H2 x y v ov iv u _ I2 r1 r2 r q2) λ_ s3 ⟨H3,I3,q3⟩=>(wpAny_release ⟨σ,H3,I3,q3⟩)))))
def tAsg(te:TE)(g:TG):TS:=λD σ H=>te σ H λx H1=>g x σ H1 D.nx
theorem Qk1{tg e:Expr}{te:TE}{g:TG}(he:PE X e te)(hg:PG X tg g)(hs:swapsWithSole [tg] e pos.line X.env=pure false:=by rfl)(hw:swappedStores [tg] e X.env=pure none:=by rfl)
  (h1:(assignEach [tg] X.env).map (·.2)=[assign tg X.env]:=by rfl):PS X (.Assign [tg] e pos) (tAsg te g):=by
 intro pins s σ H D I h
 refine wpAny_Assign_stores (thn (he pins s σ H _ I h) λv s1 ⟨x,H1,I1,r1,q1⟩=>?_) hs hw
 rw[h1]
 exact thn (hg pins s1 σ H1 x v _ I1 r1 q1) λ_ s2 q=>q
theorem Qc7{i:Nat}{x:Str}{e:Expr}{te:TE}{pos':Pos}(hN:X.N.Nodup)(hi:X.N[i]?=some x)(hx:Loc X.env.scope x)(he:PE X e te)(hs:swapsWith e (some (.Name x pos')) pos.line X.env=pure false:=by rfl)(hf:X.fn x=true\/X.env.scope.names.lookup x=some .local:=by first|exact .inl rfl|exact .inr rfl|assumption) :
  PS X (.Assign [.Name x pos'] e pos) (tAsg te (gName i)):=by
 intro pins s σ H D I h
 refine wpAny_Assign_Name (thn (he pins s σ H _ I h) λv s1 zq=>?_) hs
 obtain⟨y,H1,I1,r1,q1⟩:=zq
 exact Qcm I1 hN hi hx r1 (λs2 I2=>⟨_,H1,I2,q1⟩) hf
def tPar(i j:Nat)(ta:TA):TS:=λD σ H=>ta σ H λvs H1=>∃v w,vs=[v,w]/\D.nx ((σ.set i (some v)).set j (some w)) H1
theorem ps_par{a b:Expr}{ta:TA}{px py pt:Pos}{kt k2 pt2}(hc:X.calm=true)(hN:X.N.Nodup)(hi:X.N[i]?=some x)(hj:X.N[j]?=some y)(hij:i≠j)
  (hx:X.env.scope.names.lookup x=some .local) (hy:X.env.scope.names.lookup y=some .local) (ha:PA X [a,b] ta)
  (hw:swappedStores [.Tuple [.Name x px,.Name y py] kt pt] (.Tuple [a,b] k2 pt2) X.env=pure (some [x,y]))
  (hs:swapsWithSole [.Tuple [.Name x px,.Name y py] kt pt] (.Tuple [a,b] k2 pt2) pos.line X.env=pure false:=by rfl) :
  PS X (.Assign [.Tuple [.Name x px,.Name y py] kt pt] (.Tuple [a,b] k2 pt2) pos) (tPar i j ta):=by
 intro pins s σ H D I h
 rw[exec_Assign_arm]
 refine zd (zzF ?_)
 rw[hs]
 refine zd (zH ?_)
 rw[zM ZzD]
 refine zd (Tuple_ (thn (ha _ pins s σ H _ I h) λus s1 zq=>?_))
 obtain⟨vs,H1,I1,r1,q1⟩:=zq
 obtain⟨v,w,e1,q1⟩:=q1
 subst e1
 obtain⟨u1,u2,rfl,rv,rw'⟩:∃u1 u2,us=[u1,u2]/\RelV v u1/\RelV w u2:=by
  cases r1 with
  |cons p q=>
   cases q with
   |cons p' q'=>cases q';exact⟨_,_,rfl,p,p'⟩
 refine zzj ?_ (by show 2<=sizeLine;decide)
 have I2:Inv X pins σ H1 { s1 with heap:=s1.heap.push { cls:=.type "tuple",data:=.seq [u1,u2].toArray } }:=I1.kept (t':=s1.toks) λb o e=>hps0 _ e
 rw[hw]
 refine zd (zH ?_)
 refine zd (wpAny_rule (zd (unpackItems_tuple (items:=#[u1,u2]) (I.ok.hd hc) (IsTup.new s1.heap _) λh' hx'=>?_)))
 have I3:=I2.kept (h':=h') (t':=s1.toks) λb o e=>hx' b o (zU (zL e)) e
 refine zd (assignInOrder_cons (wpAny_bindName (Qcm I3 hN hj (.inl hy) rw' (λs2 I4=>?_) (.inr hy))))
 refine assignInOrder_cons (wpAny_bindName (Qcm I4 hN hi (.inl hx) rv (λs3 I5=>assignInOrder_nil (zH ?_)) (.inr hx)))
 rw[List.set_comm _ _ (zzi hij)]at I5
 exact⟨_,H1,I5,q1⟩
end
section
variable {X:Cx}{pos:Pos}
def tWhile(c:TT)(tb:TS):TS:=λD σ H=>∃W:Nat->St->Hp->Prop,(∃m,W m σ H)/\∀m σ H,W m σ H ->
 c σ H λb H1=>if b=true then ∃N:St->Hp->Prop,(∀σ' H',N σ' H'->∃m',m'<m/\W m' σ' H')/\tb { D with nx:=N,ct:=N,bk:=D.nx } σ H1 else D.nx σ H1
theorem QmO(hp:PassesOwn (model X.prog X.w) X.A X.env X.xe)(hc:PT X c tc)(hb:PSs X body tb):PS X (.While c body [] pos) (tWhile tc tb):=by
 intro pins s σ H D I h;obtain⟨W,⟨m0,w0⟩,Qpj⟩:=h;refine wpAny_While (codeAny_whileLoop (λn s'=>∃σ' H',Inv X pins σ' H' s'/\W n σ' H') ?_ m0 ⟨σ,H,I,w0⟩);rintro n s1 ⟨σ1,H1,I1,w1⟩;refine zze hp (thn (hc pins s1 σ1 H1 _ I1 (Qpj n σ1 H1 w1)) λb s2 zq=>?_);obtain⟨H2,I2,q2⟩:=zq;cases b with
 |true=>
  obtain⟨N,hN,q2⟩:=q2;rw[zF rfl];refine zze hp (thn (hb pins s2 σ1 H2 _ I2 q2) λf s3 q3=>?_);cases f with
  |next=>obtain⟨σ3,H3,I3,n3⟩:=q3;obtain⟨m',hm,w3⟩:=hN σ3 H3 n3;exact⟨m',hm,σ3,H3,I3,w3⟩
  |cont=>obtain⟨σ3,H3,I3,n3⟩:=q3;obtain⟨m',hm,w3⟩:=hN σ3 H3 n3;exact⟨m',hm,σ3,H3,I3,w3⟩
  |brk=>exact q3
  |ret v=>exact q3
 |false=>exact wpAny_execs_nil ⟨σ1,H2,I2,q2⟩
end
structure It where
 go:Nat->Hp->Prop
 yld:Nat->Hp->V->Hp->Prop
 stop:Nat->Hp->Prop
def Qig(X:Cx)(pins:List (Addr×Obj))(H:Hp)(b:Addr):Prop :=
 H b=none/\b≠X.env.locals/\b∉X.fs/\(b∈X.ex\/X.s₀.heap.objs.size<=b)/\(∀x c,X.env.cells.lookup x=some c->c≠b)/\∀p∈X.pn++pins,p.1≠b
theorem Inv.fpOk{X:Cx}{pins:List (Addr×Obj)}{σ:St}{H H':Hp}{s:Shared}{b:Addr}(I:Inv X pins σ H s)(hb:s.heap.objs.size<=b)(hn:H' b=none):Qig X pins H' b:=by refine⟨hn,ZO (zj I.lt hb),I.nofs hb,.inr (zf I.sz hb),λx c e z=>?_,λp hp z=>?_⟩;obtain⟨v,q⟩:=I.cell x c e;exact absurd (zj q.lt (by simp_all)) (ZN _);exact absurd (zj (zL (I.pin p hp).1) (by simp_all)) (ZN _)
structure Turn (P:Program) (w:World) (K:Fg0) (tg:Expr) (J:It) (fp:List Addr) (it:Addr) (tn:Nat->Heap->Prop):Prop where
 mem:it∈fp
 obj:∀i h,tn i h->∀b∈fp,∃o,h.get? b=some o/\∀v,o.data≠.cell v
 keep:∀i h h',tn i h->(∀b∈fp,∀o,h.get? b=some o->h'.get? b=some o)->tn i h'
 item:∀(X:Cx),X.prog=P->X.w=w->X.K=K->X.calm=true->∀(i:Nat) (pins:List (Addr×Obj)) (s:Shared) (σ:St) (H:Hp) (E:Value->Shared->Prop),Inv X pins σ H s->(∀b∈fp,Qig X pins H b)->tn i s.heap->J.go i H ->
  wpAny (model P w) X.A (pyNext (.ref it)) (λr s1=>∃u,r=some u /\
   wpAny (model P w) X.A (letOwnedTupleGo tg (.ref it) u) (λ_ s2=>∃x H',Inv X pins σ H' s2/\RelV x u/\J.yld i H x H'/\tn (i+1) s2.heap/\∀b∈fp,H' b=none) E s1) E s
 done:∀(X:Cx),X.prog=P->X.w=w->X.K=K->X.calm=true->∀(i:Nat) (pins:List (Addr×Obj)) (s:Shared) (σ:St) (H:Hp) (E:Value->Shared->Prop),Inv X pins σ H s->(∀b∈fp,Qig X pins H b)->tn i s.heap->J.stop i H ->
  wpAny (model P w) X.A (pyNext (.ref it)) (λr s1=>r=none/\Inv X pins σ H s1) E s
 self:∀(A:Around) (i:Nat) (s:Shared) (Q:Value->Shared->Prop) (E:Value->Shared->Prop),tn i s.heap->Q (.ref it) s->wpAny (model P w) A (pyIter (.ref it)) Q E s
abbrev TI:=St->Hp->(It->Hp->Prop)->Prop
def PIE(X:Cx)(pins:List (Addr×Obj))(σ:St)(tg:Expr)(R:It->Hp->Prop)(itv:Value)(s2:Shared):Prop :=
 ∃(it:Addr) (fp:List Addr) (tn:Nat->Heap->Prop) (J:It) (H':Hp),itv=.ref it/\Inv X pins σ H' s2/\Turn X.prog X.w X.K tg J fp it tn/\tn 0 s2.heap/\(∀b∈fp,Qig X pins H' b)/\R J H'
def PI(X:Cx)(tg iter:Expr)(wi:TI):Prop :=
 ∀(pins:List (Addr×Obj)) (s:Shared) (σ:St) (H:Hp) (R:It->Hp->Prop),Inv X pins σ H s->wi σ H R ->
  wpAny (model X.prog X.w) X.A (eval iter X.env) (λv s1=>wpAny (model X.prog X.w) X.A (pyIter v) (PIE X pins σ tg R) X.xe s1) X.xe s
theorem Qnx {M:Model} {A:Around} {E:Value→Shared→Prop} {s:Shared} {tg:Expr} {it:Addr} {u:Value} {o:Obj} {n:String} {vs:Array Value} {Q:Unit→Shared→Prop} (ho:s.heap.get? it=some o) (hc:o.cls=.type n) (hd:o.data=.fields vs)
    (hn:["enumerate","zip","dict_itemiterator","dict_reverseitemiterator","odict_iterator","itertools.zip_longest","itertools.pairwise"].contains n=false) (hQ:Q () s):wpAny M A (letOwnedTupleGo tg (.ref it) u) Q E s:=by
  unfold letOwnedTupleGo
  cases tg <;> first
    | exact zH hQ
    | (cases u <;> first
        | exact zH hQ
        | (refine zd (wpAny_load ho ?_)
           rw [hc,hd]
           show wpAny M A (if (["enumerate","zip","dict_itemiterator","dict_reverseitemiterator","odict_iterator","itertools.zip_longest","itertools.pairwise"].contains n&&vs[0]? == some (rawInt _))=true then _ else _) Q E s
           rw [zM (by intro h;rw [hn,Bool.false_and] at h;cases h)]
           exact zH hQ))

noncomputable def Itl(K:Fg0)(a:Addr):It :=
 ⟨λi H=>∃xs x,SqL K H a xs/\xs[i]?=some x,λi H x H'=>H'=H/\∀xs,SqL K H a xs->xs[i]?=some x,λi H=>∃xs,SqL K H a xs/\xs.length<=i⟩
noncomputable def Itt(K:Fg0)(a:Addr):It :=
 ⟨λi H=>∃xs x,SqT K H a xs/\xs[i]?=some x,λi H x H'=>H'=H/\∀xs,SqT K H a xs->xs[i]?=some x,λi H=>∃xs,SqT K H a xs/\xs.length<=i⟩
noncomputable def Itr(lo:Int)(n:Nat):It:=⟨λi _=>i<n,λi H x H'=>H'=H/\x=.int (lo+i),λi _=>n<=i⟩
theorem Qlo{K:Fg0}(a it):Turn P w K tg (Itl K a) [it] it (λi h=>h.IsListIter it a i) where
 mem:=ZzS
 obj:=λi h st b hb=>by
  have e:b=it:=by simpa using hb
  subst e;obtain⟨o,e,c,d⟩:=st;exact⟨o,e,λv z=>by rw[d]at z;cases z⟩
 keep:=λi h h' st k=>st.at λo e=>k it ZzS o e
 item:=by intro X hP hw hK hc i pins s σ H E I hf st hg;subst hP hw hK;obtain⟨xs,x,hq,hx⟩:=hg;obtain⟨its,rv,p,hz⟩:=I.list hq;obtain⟨u,hu,ru⟩:=rv.get hx;obtain⟨f0,f1,f2,f3,f4,f5⟩:=hf it ZzS;refine wpAny_pyNext_list_item st p.isList (x:=u) (by simpa using hu) λh' st' sb=>?_;have I1:Inv X pins σ H { s with heap:=h' }:=I.turned (t':=s.toks) (λb o hb e=>(sb.2 b hb).trans e) f0 f1 f3 f4 f5;obtain⟨o,e,c,d⟩:=id st';exact⟨u,rfl,Qnx (s:={ s with heap:=h' }) e c d ZzD ⟨x,H,I1,ru,⟨rfl,λys hy=>by rw[I.list_inj hy hq];exact hx⟩,st',λb hb=>(hf b hb).1⟩⟩
 done:=by intro X hP hw hK hc i pins s σ H E I hf st hg;subst hP hw hK;obtain⟨xs,hq,hx⟩:=hg;obtain⟨its,rv,p,hz⟩:=I.list hq;obtain⟨f0,f1,f2,f3,f4,f5⟩:=hf it ZzS;have hl:=rv.length;exact wpAny_pyNext_list_end (I.ok.hd hc) st p.isList (by simp;lia) λh' eb=>⟨rfl,I.turned (t':=s.toks) (λb o hb e=>eb b o hb e) f0 f1 f3 f4 f5⟩
 self:=λ_ _ _ _ _ st h=>wpAny_pyIter_listiter st h
theorem QiU{K:Fg0}(a it):Turn P w K tg (Itt K a) [it] it (λi h=>h.IsTupleIter it a i) where
 mem:=ZzS
 obj:=λi h st b hb=>by
  have e:b=it:=by simpa using hb
  subst e
  obtain⟨o,e,c,d⟩:=st
  grind
 keep:=λi h h' st k=>st.at λo e=>k it ZzS o e
 item:=by intro X hP hw hK hc i pins s σ H E I hf st hg;subst hP hw hK;obtain⟨xs,x,hq,hx⟩:=hg;obtain⟨its,rv,p,hz⟩:=I.tuple hq;obtain⟨u,hu,ru⟩:=rv.get hx;obtain⟨f0,f1,f2,f3,f4,f5⟩:=hf it ZzS;refine wpAny_pyNext_tuple_item st (show s.heap.IsTuple a its.toArray from p) (x:=u) (by simpa using hu) λh' st' sb=>?_;have I1:Inv X pins σ H { s with heap:=h' }:=I.turned (t':=s.toks) (λb o hb e=>(sb.2 b hb).trans e) f0 f1 f3 f4 f5;obtain⟨o,e,c,d⟩:=id st';exact⟨u,rfl,Qnx (s:={ s with heap:=h' }) e c d ZzD ⟨x,H,I1,ru,⟨rfl,λys hy=>by rw[I.tuple_inj hy hq];exact hx⟩,st',λb hb=>(hf b hb).1⟩⟩
 done:=by intro X hP hw hK hc i pins s σ H E I hf st hg;subst hP hw hK;obtain⟨xs,hq,hx⟩:=hg;obtain⟨its,rv,p,hz⟩:=I.tuple hq;obtain⟨f0,f1,f2,f3,f4,f5⟩:=hf it ZzS;have hl:=rv.length;exact wpAny_pyNext_tuple_end (I.ok.hd hc) st (show s.heap.IsTuple a its.toArray from p) (by simp;lia) λh' eb=>⟨rfl,I.turned (t':=s.toks) (λb o hb e=>eb b o hb e) f0 f1 f3 f4 f5⟩
 self:=λ_ _ _ _ _ st h=>wpAny_pyIter_tupleiter st h
theorem QiA{K:Fg0}(it)(lo)(n):Turn P w K tg (Itr lo n) [it] it (λi h=>IsRangeIter h it (lo+(i:Nat)*1) ((n:Int)-(i:Nat)) 1) where
 mem:=ZzS
 obj:=λi h st b hb=>by grind
 keep:=λi h h' st k=>k it ZzS _ st
 item:=by intro X hP hw hK hc i pins s σ H E I hf st hg;subst hP hw hK;obtain⟨f0,f1,f2,f3,f4,f5⟩:=hf it ZzS;have W:=Walks.range (prog:=X.prog) (w:=X.w) (I.ok.hd hc) it lo 1 n;refine W.item i s _ _ hg st λv h' tk hv st' kk=>?_;obtain⟨t,rfl⟩:=hv;have I1:Inv X pins σ H { s with heap:=h',toks:=tk }:=I.turned (λb o hb e=>kk b o (by simpa using hb) e) f0 f1 f3 f4 f5;refine⟨_,rfl,Qnx (s:={ s with heap:=h',toks:=tk }) (n:="range_iterator") st' rfl rfl ZzD ⟨.int (lo+i),H,I1,⟨t,?_⟩,⟨rfl,rfl⟩,st',λb hb=>(hf b hb).1⟩⟩;rw[Int.mul_one]
 done:=by intro X hP hw hK hc i pins s σ H E I hf st hg;subst hP hw hK;obtain⟨f0,f1,f2,f3,f4,f5⟩:=hf it ZzS;exact wpAny_pyNext_range_end (I.ok.hd hc) st (by have:n<=i:=hg;lia) λh' eb=>⟨rfl,I.turned (t':=s.toks) (λb o hb e=>eb b o hb e) f0 f1 f3 f4 f5⟩
 self:=λ_ _ _ _ _ st h=>wpAny_pyIter_rangeiter st h
section
variable {X:Cx}{tg:Expr}
theorem QhM{pins:List (Addr×Obj)}{σ:St}{H:Hp}{s:Shared}{R:It->Hp->Prop}{E:Value->Shared->Prop}{lo hi:Int}{t u v:Tok}{tk:Nat}(I:Inv X pins σ H s)(h1:-(2^62)<=lo)(h2:lo<2^62)(h3:-(2^62)<=hi)(h4:hi<2^62)
  (q:R (Itr lo (hi-lo).toNat) H):wpAny (model X.prog X.w) X.A (pyIter (.ref s.heap.objs.size)) (PIE X pins σ tg R) E { s with heap:=s.heap.push { cls:=.type "range",data:=.fields #[.int lo t,.int hi u,.int 1 v] },toks:=tk }:=by
 refine wpAny_pyIter_range (IsRange.new ..) (small_one h1 h2 h3 h4) ?_
 have I1:Inv X pins σ H { s with heap:=s.heap.push { cls:=.type "range",data:=.fields #[.int lo t,.int hi u,.int 1 v] },toks:=tk }:=I.kept λb o e=>hps0 _ e
 refine⟨(s.heap.push { cls:=.type "range",data:=.fields #[.int lo t,.int hi u,.int 1 v] }).objs.size,[(s.heap.push { cls:=.type "range",data:=.fields #[.int lo t,.int hi u,.int 1 v] }).objs.size],_,_,H,rfl,
  I1.kept (t':=tk) λb o e=>hps0 _ e,QiA _ lo (hi-lo).toNat,?_,λb hb=>?_,q⟩
 ·have e1:lo+((0:Nat):Int)*1=lo:=ZzS
  have e2:(((hi-lo).toNat:Nat):Int)-((0:Nat):Int)=Builtin.Range.rangeSize lo hi 1:=by rw[rangeSize_one];split<;>lia
  show IsRangeIter _ _ (lo+((0:Nat):Int)*1) ((((hi-lo).toNat:Nat):Int)-((0:Nat):Int)) 1
  rw[e1,e2]
  exact zG _ rfl
 ·have e:b=(s.heap.push { cls:=.type "range",data:=.fields #[.int lo t,.int hi u,.int 1 v] }).objs.size:=by simpa using hb
  subst e
  exact I1.fpOk (zD _) (I1.hok.fresh (zD _))
def iRng1(ta:TA):TI:=λσ H R=>ta σ H λvs H1=>∃j:Int,vs=[.int j]/\-(2^62)<=j/\j<2^62/\R (Itr 0 j.toNat) H1
def iRng2(ta:TA):TI:=λσ H R=>ta σ H λvs H1=>∃i j:Int,vs=[.int i,.int j]/\(-(2^62)<=i/\i<2^62/\-(2^62)<=j/\j<2^62)/\R (Itr i (j-i).toNat) H1
theorem Qgg{a:Expr}{ta:TA}{p pos:Pos}(hg:Gl X "range")(hm:X.mg "range"=none)(ha:PA X [a] ta)(hs:starEach [a] X.env=[(false,eval a X.env)]:=by rfl):PI X tg (.Call (.Name "range" p) [a] [] pos) (iRng1 ta):=by
 intro pins s σ H R I h;refine Call_ (Qdv I hg hm boot_range (Z2 (thn (ha pos pins s σ H _ I h) λus s1 ⟨vs,H1,I1,r1,q1⟩=>?_) hs rfl));obtain⟨j,e,q1,q2,q⟩:=q1;subst e;cases r1 with
 |cons r rr=>cases rr;obtain⟨t,rfl⟩:=r;exact call_range_1 (QhM I1 ZzS ZzS q1 q2 (by simp_all))
theorem Qgy(hg:Gl X "range")(hm:X.mg "range"=none)(ha:PA X [a,b] ta)(hs:starEach [a,b] X.env=[(false,eval a X.env),(false,eval b X.env)]:=by rfl)(hs2:starEach [b] X.env=[(false,eval b X.env)]:=by rfl) :
  PI X tg (.Call (.Name "range" p) [a,b] [] pos) (iRng2 ta):=by
 intro pins s σ H R I h
 refine Call_ (Qdv I hg hm boot_range (Z2 (thn (ha pos pins s σ H _ I h) λus s1 ⟨vs,H1,I1,r1,q1⟩=>?_) (by simp_all) (by rw[hs2];rfl)))
 obtain⟨i,j,e,⟨q1,q2,q3,q4⟩,q⟩:=q1
 subst e
 cases r1 with
 |cons r rr =>
  cases rr with
  |cons r' rr =>
   cases rr
   obtain⟨t,rfl⟩:=r
   obtain⟨t',rfl⟩:=r'
   exact call_range_2 (QhM I1 q1 q2 q3 q4 q)
def tFor(wi:TI)(g:TG)(tb:TS):TS:=λD σ H=>wi σ H λJ H1=>∃W:Nat->Nat->St->Hp->Prop,(∃m,W 0 m σ H1)/\∀i m σ H,W i m σ H ->
 (J.stop i H/\D.nx σ H)\/(J.go i H/\∃N:St->Hp->Prop,(∀σ' H',N σ' H'->∃m',m'<m/\W (i+1) m' σ' H')/\∀x H',J.yld i H x H'->g x σ H' λσ2 H2=>tb { D with nx:=N,ct:=N,bk:=D.nx } σ2 H2)
noncomputable def QfS(fp:List Addr)(h:Heap):List (Addr×Obj):=fp.filterMap λb=>(h.get? b).map λo=>(b,o)
theorem Qcl(hb:b∈fp)(e:h.get? b=some o):(b,o)∈QfS fp h:=zzv.mpr ⟨b,hb,by simp_all⟩
theorem Qje(hp:p∈QfS fp h):p.1∈fp/\h.get? p.1=some p.2:=by
 obtain⟨b,hb,e⟩:=zzv.mp hp
 cases q:h.get? b with
 |none=>grind
 |some o =>
  grind
theorem Inv.pinned{pins:List (Addr×Obj)}{σ:St}{H:Hp}{s:Shared}{fp:List Addr}(I:Inv X pins σ H s)(hf:∀b∈fp,Qig X pins H b)(ho:∀b∈fp,∃o,s.heap.get? b=some o/\∀v,o.data≠.cell v):Inv X (pins++QfS fp s.heap) σ H s :=
 I.pins_of λp hp=>(Za.mp hp).elim (λz=>I.pin p (Zb _ z)) λz=>by
  obtain⟨hb,e⟩:=Qje z
  obtain⟨f0,f1,f2,_⟩:=hf p.1 hb
  grind
theorem Inv.unpinned{pins pl:List (Addr×Obj)}{σ:St}{H:Hp}{s:Shared}(I:Inv X (pins++pl) σ H s):Inv X pins σ H s:=I.pins_of λp hp=>I.pin p (Zb _ (Ze _ hp))
theorem QhQ(hp:PassesOwn (model X.prog X.w) X.A X.env X.xe)(hc:X.calm=true)(hi:PI X tg iter wi)(hg:PG X tg g)(hb:PSs X body tb)
  (hs:∀x,foldedSetIterable iter X.env x=pure x:=by intro _;rfl):PS X (.For tg iter body [] pos) (tFor wi g tb):=by
 intro pins s σ H D I h
 refine wpAny_For (thn (hi pins s σ H _ I h) λv s1 h1=>thn h1 λitv s2 h2=>?_) hs
 obtain⟨it,fp,tn,J,H2,e,I2,T,st2,f2,W,⟨m0,w0⟩,Qpj⟩:=h2
 subst e
 have stat:∀{H':Hp},(∀b∈fp,H' b=none)->∀b∈fp,Qig X pins H' b:=λhn b hb=>⟨hn b hb,(f2 b hb).2⟩
 refine codeAny_forLoop_any (λn s'=>∃i σ' H',Inv X pins σ' H' s'/\tn i s'.heap/\(∀b∈fp,H' b=none)/\W i n σ' H') ?_ m0 ⟨0,σ,H2,I2,st2,λb hb=>(f2 b hb).1,w0⟩
 rintro n s3 ⟨i,σ3,H3,I3,st3,fr3,w3⟩
 rcases Qpj i n σ3 H3 w3 with⟨stop,qn⟩|⟨go,N,hN,step⟩
 ·refine zze hp (thn (T.done X rfl rfl rfl hc i pins s3 σ3 H3 X.xe I3 (stat fr3) st3 stop) λr s4 zq=>?_)
  obtain⟨hr,I4⟩:=zq
  subst hr
  exact wpAny_execs_nil ⟨σ3,H3,I4,qn⟩
 ·refine zze hp (thn (T.item X rfl rfl rfl hc i pins s3 σ3 H3 X.xe I3 (stat fr3) st3 go) λr s4 zq=>?_)
  obtain⟨u,hr,h4⟩:=zq
  subst hr
  refine zze hp (thn h4 λ_ s5 zq=>?_)
  obtain⟨x,H5,I5,r5,y5,st5,fr5⟩:=zq
  have I5':=I5.pinned (stat fr5) (T.obj _ _ st5)
  refine zze hp (thn (hg _ s5 σ3 H5 x u _ I5' r5 (step x H5 y5)) λ_ s6 zq=>?_)
  obtain⟨σ6,H6,I6,q6⟩:=zq
  refine zze hp (thn (hb _ s6 σ6 H6 _ I6 q6) λf s7 q7=>?_)
  have again:∀{σ7:St}{H7:Hp},Inv X (pins++QfS fp s5.heap) σ7 H7 s7->N σ7 H7->∃m,m<n/\∃i σ' H',Inv X pins σ' H' s7/\tn i s7.heap/\(∀b∈fp,H' b=none)/\W i m σ' H':=λ{σ7 H7} I7 n7=>by obtain⟨m',hm,w7⟩:=hN σ7 H7 n7;refine⟨m',hm,i+1,σ7,H7,I7.unpinned,T.keep _ _ _ st5 λb hb o e=>(I7.pin (b,o) (Zb _ (Zb _ (Qcl hb e)))).1,λb hb=>?_,w7⟩;obtain⟨o,e,d⟩:=T.obj _ _ st5 b hb;exact(I7.pin (b,o) (Zb _ (Zb _ (Qcl hb e)))).2.1
  cases f with
  |next=>obtain⟨σ7,H7,I7,n7⟩:=q7;exact again I7 n7
  |cont=>obtain⟨σ7,H7,I7,n7⟩:=q7;exact again I7 n7
  |brk=>obtain⟨σ7,H7,I7,q7⟩:=q7;exact⟨σ7,H7,I7.unpinned,q7⟩
  |ret v=>obtain⟨x7,σ7,H7,I7,r7,q7⟩:=q7;exact⟨x7,σ7,H7,I7.unpinned,r7,q7⟩
end
theorem Qmr{K:Fg0}{g:TG}{tb:TS}{D:Ends}(Pv:Nat->St->Hp->Prop)(h0:Pv 0 σ H)(hl:∀i σ H,i<=xs.length->Pv i σ H->SqL K H a xs)
  (hs:∀i x σ H,xs[i]?=some x->Pv i σ H->g x σ H λσ2 H2=>tb { D with nx:=Pv (i+1),ct:=Pv (i+1),bk:=D.nx } σ2 H2) (hd:∀σ H,Pv xs.length σ H->D.nx σ H) :
  ∃W:Nat->Nat->St->Hp->Prop,(∃m,W 0 m σ H)/\∀i m σ H,W i m σ H ->
   ((Itl K a).stop i H/\D.nx σ H)\/((Itl K a).go i H/\∃N:St->Hp->Prop,(∀σ' H',N σ' H'->∃m',m'<m/\W (i+1) m' σ' H')/\∀x H',(Itl K a).yld i H x H'->g x σ H' λσ2 H2=>tb { D with nx:=N,ct:=N,bk:=D.nx } σ2 H2):=by
 refine⟨λi m σ H=>m=xs.length-i/\i<=xs.length/\Pv i σ H,⟨xs.length,ZzS,ZQ _,h0⟩,?_⟩
 rintro i m σ H ⟨rfl,hi,p⟩
 have q:=hl i σ H hi p
 by_cases hlt:i<xs.length
 ·refine .inr ⟨⟨xs,xs[i],q,by simp[hlt]⟩,Pv (i+1),λσ' H' p'=>⟨xs.length-(i+1),ZzL,rfl,hlt,p'⟩,λx H' y=>?_⟩
  obtain⟨e,y⟩:=y
  subst e
  exact hs i x σ _ (y xs q) p
 ·have e:i=xs.length:=ZzL
  subst e
  exact .inl ⟨⟨xs,q,zD _⟩,hd σ H p⟩
theorem Qp1{K:Fg0}{g:TG}{tb:TS}{D:Ends}(Pv:Nat->St->Hp->Prop)(h0:Pv 0 σ H)(hl:∀i σ H,i<=xs.length->Pv i σ H->SqT K H a xs)
  (hs:∀i x σ H,xs[i]?=some x->Pv i σ H->g x σ H λσ2 H2=>tb { D with nx:=Pv (i+1),ct:=Pv (i+1),bk:=D.nx } σ2 H2) (hd:∀σ H,Pv xs.length σ H->D.nx σ H) :
  ∃W:Nat->Nat->St->Hp->Prop,(∃m,W 0 m σ H)/\∀i m σ H,W i m σ H ->
   ((Itt K a).stop i H/\D.nx σ H)\/((Itt K a).go i H/\∃N:St->Hp->Prop,(∀σ' H',N σ' H'->∃m',m'<m/\W (i+1) m' σ' H')/\∀x H',(Itt K a).yld i H x H'->g x σ H' λσ2 H2=>tb { D with nx:=N,ct:=N,bk:=D.nx } σ2 H2):=by
 refine⟨λi m σ H=>m=xs.length-i/\i<=xs.length/\Pv i σ H,⟨xs.length,ZzS,ZQ _,h0⟩,?_⟩
 rintro i m σ H ⟨rfl,hi,p⟩
 have q:=hl i σ H hi p
 by_cases hlt:i<xs.length
 ·refine .inr ⟨⟨xs,xs[i],q,ZzS⟩,Pv (i+1),λσ' H' p'=>⟨xs.length-(i+1),ZzL,rfl,hlt,p'⟩,λx H' y=>?_⟩
  obtain⟨e,y⟩:=y
  subst e
  exact hs i x σ _ (y xs q) p
 ·have e:i=xs.length:=ZzL
  subst e
  exact .inl ⟨⟨xs,q,zD _⟩,hd σ H p⟩
theorem Qkk{lo:Int}{g:TG}{tb:TS}{D:Ends}(Pv:Nat->St->Hp->Prop)(h0:Pv 0 σ H)
  (hs:∀i σ H,i<n->Pv i σ H->g (.int (lo+i)) σ H λσ2 H2=>tb { D with nx:=Pv (i+1),ct:=Pv (i+1),bk:=D.nx } σ2 H2) (hd:∀σ H,Pv n σ H->D.nx σ H) :
  ∃W:Nat->Nat->St->Hp->Prop,(∃m,W 0 m σ H)/\∀i m σ H,W i m σ H ->
   ((Itr lo n).stop i H/\D.nx σ H)\/((Itr lo n).go i H/\∃N:St->Hp->Prop,(∀σ' H',N σ' H'->∃m',m'<m/\W (i+1) m' σ' H')/\∀x H',(Itr lo n).yld i H x H'->g x σ H' λσ2 H2=>tb { D with nx:=N,ct:=N,bk:=D.nx } σ2 H2):=by
 refine⟨λi m σ H=>m=n-i/\i<=n/\Pv i σ H,⟨n,rfl,ZQ _,h0⟩,?_⟩
 rintro i m σ H ⟨rfl,hi,p⟩
 by_cases hlt:i<n
 ·refine .inr ⟨hlt,Pv (i+1),λσ' H' p'=>⟨n-(i+1),ZzL,rfl,hlt,p'⟩,λx H' y=>?_⟩
  obtain⟨e,y⟩:=y
  simp_all
 ·have e:i=n:=ZzL
  subst e
  exact .inl ⟨zD _,hd σ H p⟩
abbrev R2:=V->V->Hp->VK->Prop
def OpR(X:Cx)(f:Value->Value->Sem Value)(r:R2):Prop :=
 ∀(pins:List (Addr×Obj)) (s:Shared) (σ:St) (H:Hp) (x y:V) (v u:Value) (Q:VK),Inv X pins σ H s->RelV x v->RelV y u->r x y H Q ->
  wpAny (model X.prog X.w) X.A (f v u) (EP X pins σ Q) X.xe s
def UnR(X:Cx)(f:Value->Sem Value)(r:V->Hp->VK->Prop):Prop :=
 ∀(pins:List (Addr×Obj)) (s:Shared) (σ:St) (H:Hp) (x:V) (v:Value) (Q:VK),Inv X pins σ H s->RelV x v->r x H Q ->
  wpAny (model X.prog X.w) X.A (f v) (EP X pins σ Q) X.xe s
def Qba(X:Cx)(f:Value)(r:List V->Hp->VK->Prop):Prop :=
 ∀(pins:List (Addr×Obj)) (s:Shared) (σ:St) (H:Hp) (xs:List V) (us:List Value) (Q:VK),Inv X pins σ H s->Vals xs us->r xs H Q ->
  wpAny (model X.prog X.w) X.A (call f us) (EP X pins σ Q) X.xe s
def tOp(r:R2)(ta tb:TE):TE:=λσ H Q=>ta σ H λx H1=>tb σ H1 λy H2=>r x y H2 Q
def tUn(r:V->Hp->VK->Prop)(ta:TE):TE:=λσ H Q=>ta σ H λx H1=>r x H1 Q
def rI(C:Int->Int->Prop)(g:Int->Int->V):R2:=λx y H Q=>∃i j,x=.int i/\y=.int j/\C i j/\Q (g i j) H
def rI0(g:Int->Int->V):R2:=λx y H Q=>∃i j,x=.int i/\y=.int j/\Q (g i j) H
def rU(g:Int->V):V->Hp->VK->Prop:=λx H Q=>∃i,x=.int i/\Q (g i) H
section
variable {X:Cx}{a b c:Expr}{ta tb tc:TE}{pos:Pos}
theorem binT(ha:PE X a ta)(hb:PE X b tb){pins:List (Addr×Obj)}{s:Shared}{σ:St}{H:Hp}{R:V->V->Hp->Prop}(I:Inv X pins σ H s)
 (h:ta σ H λx H1=>tb σ H1 λy H2=>R x y H2) {Q:Value->Shared->Prop}{f:Value->Value->Sem Value}
 (hf:∀v u s2 x y H2,Inv X pins σ H2 s2->RelV x v->RelV y u->R x y H2->wpAny (model X.prog X.w) X.A (f v u) Q X.xe s2) :
 wpAny (model X.prog X.w) X.A (eval a X.env) (λv s₁=>wpAny (model X.prog X.w) X.A (eval b X.env) (λu s₂=>wpAny (model X.prog X.w) X.A (f v u) Q X.xe s₂) X.xe s₁) X.xe s:=thn (ha pins s σ H _ I h) λv s1 zq=>by obtain⟨x,H1,I1,r1,q1⟩:=zq;exact(thn (hb pins s1 σ H1 _ I1 q1) λu s2 ⟨y,H2,I2,r2,q2⟩=>(hf v u s2 x y H2 I2 r1 r2 q2))
theorem QlK{op:Operator}{r:R2}(ho:OpR X (binaryOp op) r)(ha:PE X a ta)(hb:PE X b tb):PE X (.BinOp a op b pos) (tOp r ta tb):=by intro pins s σ H Q I h;exact wpAny_BinOp (binT ha hb I h λv u s2 x y H2 I2 rx ry q=>ho pins s2 σ H2 x y v u Q I2 rx ry q)
theorem pe_un(ho:UnR X (unaryOp op) r)(ha:PE X a ta):PE X (.UnaryOp op a pos) (tUn r ta):=by intro pins s σ H Q I h;exact UnaryOp_ (thn (ha pins s σ H _ I h) λv s1 ⟨x,H1,I1,r1,q1⟩=>ho pins s1 σ H1 x v Q I1 r1 q1)
theorem opI{g:Int->Int->Int}
  (rule:∀(i j:Int) (t u:Tok) (s:Shared) (Q:Value->Shared->Prop) (E:Value->Shared->Prop),C i j->Q (.int (g i j) s.toks) { s with toks:=s.toks+1 }->wpAny (model X.prog X.w) X.A (f (.int i t) (.int j u)) Q E s) :
  OpR X f (rI C λi j=>.int (g i j)):=by
 intro pins s σ H x y v u Q I rx ry h
 obtain⟨i,j,rfl,rfl,hc,q⟩:=h
 obtain⟨t,rfl⟩:=rx
 obtain⟨t',rfl⟩:=ry
 exact rule i j t t' s _ _ hc ⟨.int (g i j),H,I.tok _,⟨_,rfl⟩,q⟩
theorem opI0{g:Int->Int->Int}
  (rule:∀(i j:Int) (t u:Tok) (s:Shared) (Q:Value->Shared->Prop) (E:Value->Shared->Prop),Q (.int (g i j) s.toks) { s with toks:=s.toks+1 }->wpAny (model X.prog X.w) X.A (f (.int i t) (.int j u)) Q E s) :
  OpR X f (rI0 λi j=>.int (g i j)):=by
 intro pins s σ H x y v u Q I rx ry h
 obtain⟨i,j,rfl,rfl,q⟩:=h
 obtain⟨t,rfl⟩:=rx
 obtain⟨t',rfl⟩:=ry
 exact rule i j t t' s _ _ ⟨.int (g i j),H,I.tok _,⟨_,rfl⟩,q⟩
theorem opB0{g:Int->Int->Bool}
  (rule:∀(i j:Int) (t u:Tok) (s:Shared) (Q:Value->Shared->Prop) (E:Value->Shared->Prop),Q (.bool (g i j)) s->wpAny (model X.prog X.w) X.A (f (.int i t) (.int j u)) Q E s) :
  OpR X f (rI0 λi j=>.bl (g i j)):=by
 intro pins s σ H x y v u Q I rx ry h
 obtain⟨i,j,rfl,rfl,q⟩:=h
 obtain⟨t,rfl⟩:=rx
 obtain⟨t',rfl⟩:=ry
 exact rule i j t t' s _ _ ⟨.bl (g i j),H,I,rfl,q⟩
def CPow(i j:Int):Prop:=0<=j/\j<=1000000/\i.natAbs<2^64
theorem op_add:OpR X (binaryOp .Add) (rI0 λi j=>.int (i+j)):=opI0 λ_ _ _ _ _ _ _ q=>add_int q
theorem op_sub:OpR X (binaryOp .Sub) (rI0 λi j=>.int (i-j)):=opI0 λ_ _ _ _ _ _ _ q=>sub_int q
theorem QoI:OpR X (binaryOp .Mod) (rI (λ_ j=>j≠0) λi j=>.int (i.fmod j)):=opI λ_ _ _ _ _ _ _ hc q=>mod_int' hc q
theorem op_pow:OpR X (binaryOp .Pow) (rI CPow λi j=>.int (i^j.toNat)):=opI λ_ _ _ _ _ _ _ hc q=>pow_int_small hc.1 hc.2.1 hc.2.2 q
theorem unI{g:Int->Int}
  (rule:∀(i:Int) (t:Tok) (s:Shared) (Q:Value->Shared->Prop) (E:Value->Shared->Prop),Q (.int (g i) s.toks) { s with toks:=s.toks+1 }->wpAny (model X.prog X.w) X.A (f (.int i t)) Q E s) :
  UnR X f (rU λi=>.int (g i)):=by
 intro pins s σ H x v Q I rx h
 obtain⟨i,rfl,q⟩:=h
 obtain⟨t,rfl⟩:=rx
 exact rule i t s _ _ ⟨.int (g i),H,I.tok _,⟨_,rfl⟩,q⟩
theorem un_neg:UnR X (unaryOp .USub) (rU λi=>.int (-i)):=unI λ_ _ _ _ _ q=>neg_int q
end
noncomputable def scal:V->V->Bool
 |.non,.non=>true|.non,.int _=>true|.int _,.non=>true|.non,.bl _=>true|.bl _,.non=>true|.non,.str _=>true|.str _,.non=>true
 |.int _,.int _=>true|.bl _,.bl _=>true|.str _,.str _=>true|.byt _,.byt _=>true
 |.int _,.str _=>true|.str _,.int _=>true|.bl _,.str _=>true|.str _,.bl _=>true
 |_,_=>false
def rEq:R2:=λx y H Q=>scal x y=true/\Q (.bl (decide (x=y))) H
def rNe:R2:=λx y H Q=>scal x y=true/\Q (.bl (!decide (x=y))) H
theorem Qkv:decide (V.int i=V.int j)=(i==j):=by grind
theorem QnB:decide (V.bl i=V.bl j)=(i==j):=by grind
theorem QjN:decide (V.str i=V.str j)=(i==j):=by grind
theorem Qj2:decide (V.byt i=V.byt j)=(i.toList==j.toList):=by rw[zzY];simp_all
section
variable {X:Cx}{a b c:Expr}{ta tb tc:TE}{pos:Pos}
theorem Qav{pins:List (Addr×Obj)}{σ:St}{H:Hp}{s:Shared}{Q:VK}{k k':Bool}(I:Inv X pins σ H s)(q:Q (.bl k) H)(e:k=k'):EP X pins σ Q (.bool k') s:=by subst e;exact⟨.bl k,H,I,rfl,q⟩
theorem op_eq:OpR X (compareOp .Eq) rEq:=by
 intro pins s σ H x y v u Q I rx ry h;obtain⟨hs,q⟩:=h;cases x with
 |non=>
  cases rx;cases y with
  |non=>cases ry;exact PySem.EqNone.eq_none_none (Qav I q ZzS)
  |bl j=>cases ry;exact PySem.EqNone.eq_none_bool (Qav I q ZzS)
  |int j=>obtain⟨t',rfl⟩:=ry;exact PySem.EqNone.eq_none_int (Qav I q ZzS)
  |str j=>obtain⟨t',rfl⟩:=ry;exact PySem.EqNone.eq_none_str (Qav I q ZzS)
  |_=>exact absurd (show false=true from hs) zR
 |bl i=>
  cases rx;cases y with
  |non=>cases ry;exact PySem.EqNone.eq_bool_none (Qav I q ZzS)
  |bl j=>cases ry;exact eq_bool (Qav I q QnB)
  |str j=>obtain⟨t',rfl⟩:=ry;exact PySem.EqMixed.eq_bool_str (Qav I q ZzS)
  |_=>exact absurd (show false=true from hs) zR
 |int i=>
  obtain⟨t,rfl⟩:=rx;cases y with
  |non=>cases ry;exact PySem.EqNone.eq_int_none (Qav I q ZzS)
  |int j=>obtain⟨t',rfl⟩:=ry;exact eq_int (Qav I q Qkv)
  |str j=>obtain⟨t',rfl⟩:=ry;exact PySem.EqMixed.eq_int_str (Qav I q ZzS)
  |_=>exact absurd (show false=true from hs) zR
 |str i=>
  obtain⟨t,rfl⟩:=rx;cases y with
  |non=>cases ry;exact PySem.EqNone.eq_str_none (Qav I q ZzS)
  |bl j=>cases ry;exact PySem.EqMixed.eq_str_bool (Qav I q ZzS)
  |int j=>obtain⟨t',rfl⟩:=ry;exact PySem.EqMixed.eq_str_int (Qav I q ZzS)
  |str j=>obtain⟨t',rfl⟩:=ry;exact eq_str (Qav I q QjN)
  |_=>exact absurd (show false=true from hs) zR
 |byt i=>
  obtain⟨t,rfl⟩:=rx;cases y with
  |byt j=>obtain⟨t',rfl⟩:=ry;exact PySem.W.eq_bytes (Qav I q Qj2)
  |_=>exact absurd (show false=true from hs) zR
 |_=>cases y<;>exact absurd (show false=true from hs) zR
theorem op_ne:OpR X (compareOp .NotEq) rNe:=by
 intro pins s σ H x y v u Q I rx ry h;obtain⟨hs,q⟩:=h;cases x with
 |non=>
  cases rx;cases y with
  |non=>cases ry;exact PySem.EqNone.ne_none_none (Qav I q ZzS)
  |bl j=>cases ry;exact PySem.EqNone.ne_none_bool (Qav I q ZzS)
  |int j=>obtain⟨t',rfl⟩:=ry;exact PySem.EqNone.ne_none_int (Qav I q ZzS)
  |str j=>obtain⟨t',rfl⟩:=ry;exact PySem.EqNone.ne_none_str (Qav I q ZzS)
  |_=>exact absurd (show false=true from hs) zR
 |bl i=>
  cases rx;cases y with
  |non=>cases ry;exact PySem.EqNone.ne_bool_none (Qav I q ZzS)
  |bl j=>cases ry;exact ne_bool (Qav I q (congrArg not QnB))
  |str j=>obtain⟨t',rfl⟩:=ry;exact PySem.EqMixed.ne_bool_str (Qav I q ZzS)
  |_=>exact absurd (show false=true from hs) zR
 |int i=>
  obtain⟨t,rfl⟩:=rx;cases y with
  |non=>cases ry;exact PySem.EqNone.ne_int_none (Qav I q ZzS)
  |int j=>obtain⟨t',rfl⟩:=ry;exact ne_int (Qav I q (congrArg not Qkv))
  |str j=>obtain⟨t',rfl⟩:=ry;exact PySem.EqMixed.ne_int_str (Qav I q ZzS)
  |_=>exact absurd (show false=true from hs) zR
 |str i=>
  obtain⟨t,rfl⟩:=rx;cases y with
  |non=>cases ry;exact PySem.EqNone.ne_str_none (Qav I q ZzS)
  |bl j=>cases ry;exact PySem.EqMixed.ne_str_bool (Qav I q ZzS)
  |int j=>obtain⟨t',rfl⟩:=ry;exact PySem.EqMixed.ne_str_int (Qav I q ZzS)
  |str j=>obtain⟨t',rfl⟩:=ry;exact ne_str (Qav I q (congrArg not QjN))
  |_=>exact absurd (show false=true from hs) zR
 |byt i=>
  obtain⟨t,rfl⟩:=rx;cases y with
  |byt j=>obtain⟨t',rfl⟩:=ry;exact PySem.W.ne_bytes (Qav I q (congrArg not Qj2))
  |_=>exact absurd (show false=true from hs) zR
 |_=>cases y<;>exact absurd (show false=true from hs) zR
theorem op_lt:OpR X (compareOp .Lt) (rI0 λi j=>.bl (decide (i<j))):=opB0 λ_ _ _ _ _ _ _ q=>lt_int q
theorem op_le:OpR X (compareOp .LtE) (rI0 λi j=>.bl (decide (i<=j))):=opB0 λ_ _ _ _ _ _ _ q=>le_int q
theorem op_gt:OpR X (compareOp .Gt) (rI0 λi j=>.bl (decide (j<i))):=opB0 λ_ _ _ _ _ _ _ q=>gt_int q
theorem op_ge:OpR X (compareOp .GtE) (rI0 λi j=>.bl (decide (j<=i))):=opB0 λ_ _ _ _ _ _ _ q=>ge_int q
theorem op_isN:OpR X (compareOp .Is) (λx y H Q=>y=.non/\Q (.bl (decide (x=.non))) H):=by
 intro pins s σ H x y v u Q I rx ry h;obtain⟨rfl,q⟩:=h;cases ry;refine is_none_gen (Qav I q ?_)
 cases x<;>first
  |(cases rx;rfl)
  |(obtain⟨t,rfl⟩:=rx;rfl)
theorem Qo0:OpR X (compareOp .IsNot) (λx y H Q=>y=.non/\Q (.bl (!decide (x=.non))) H):=by
 intro pins s σ H x y v u Q I rx ry h;obtain⟨rfl,q⟩:=h;cases ry;refine isnot_none_gen (Qav I q ?_)
 cases x<;>first
  |rfl
  |(obtain⟨t,rfl⟩:=rx;rfl)
noncomputable def isObj:HO->Bool
 |.lst _=>true
 |.ins _ _ _=>true
 |_=>false
theorem Qg3{pins:List (Addr×Obj)}{s:Shared}{σ:St}{H:Hp}{a:Addr}{o:HO}(I:Inv X pins σ H s)(h:H a=some o)(p:isObj o=true):∃ob,s.heap.get? a=some ob/\ob.cls≠.type "tuple":=by
 cases o with
 |lst xs =>
  obtain⟨_,its,n,_,e⟩:xs.length<=sizeLine/\∃(its:List Value) (n:Nat),Vals xs its/\s.heap.get? a=some { cls:=.type "list",data:=.seq its.toArray n }:=I.hok a _ h
  grind
 |ins C dx fs =>
  have x:=I.hok a _ h
  obtain⟨_,_,_,e,_⟩:=x
  grind
 |_=>exact absurd (p) zR
theorem Qqu{op:CmpOp}{r:R2}(ho:OpR X (compareOp op) r)(ha:PE X a ta)(hb:PE X b tb)(hm:behindInMarks op b=false):PE X (.Compare a [op] [b] pos) (tOp r ta tb):=by intro pins s σ H Q I h;exact wpAny_Compare1 (binT ha hb I h λv u s2 x y H2 I2 rx ry q=>ho pins s2 σ H2 x y v u Q I2 rx ry q) hm
def tTest(t:TE):TT:=λσ H Q=>t σ H λx H'=>∃k,x=.bl k/\Q k H'
theorem Qqr(ho:OpR X (compareOp op) r)(ha:PE X a ta)(hb:PE X b tb)(hm:behindInMarks op b=false):PT X (.Compare a [op] [b] pos) (tTest (tOp r ta tb)):=by
 intro pins s σ H Q I h
 refine wpAny_isTrue_Compare1 (thn (ha pins s σ H _ I h) λv s1 ⟨x,H1,I1,r1,q1⟩=>thn (hb pins s1 σ H1 _ I1 q1) λu s2 ⟨y,H2,I2,r2,q2⟩ =>
  thn (ho pins s2 σ H2 x y v u _ I2 r1 r2 q2) λc s3 zq=>?_) hm
 obtain⟨z,H3,I3,r3,k,e,q3⟩:=zq;subst e;cases r3;exact ZE ⟨H3,I3,q3⟩
def QjJ(r r':R2)(ta tb tc:TE):TE:=λσ H Q=>ta σ H λx H1=>tb σ H1 λy H2=>r x y H2 λz H3=>∃k,z=.bl k /\
 (if k=true then tc σ H3 λw' H4=>r' y w' H4 Q else Q (.bl false) H3)
theorem Qmo(ho:OpR X (compareOp op) r)(ho':OpR X (compareOp op') r')(ha:PE X a ta)(hb:PE X b tb)(hc:PE X c tc)
  (hm:lastMarks [op,op'] [b,c]=false:=by rfl):PE X (.Compare a [op,op'] [b,c] pos) (QjJ r r' ta tb tc):=by
 intro pins s σ H Q I h
 refine Compare_chain (thn (ha pins s σ H _ I h) λv s1 ⟨x,H1,I1,r1,q1⟩=>chain_link (thn (hb pins s1 σ H1 _ I1 q1) λu s2 ⟨y,H2,I2,r2,q2⟩ =>
  thn (ho pins s2 σ H2 x y v u _ I2 r1 r2 q2) λd s3 zq=>?_)) hm
 obtain⟨z,H3,I3,r3,k,e,q3⟩:=zq
 subst e
 cases r3
 refine ZE ?_
 cases k with
 |false=>exact ite_ff ⟨.bl false,H3,I3,rfl,q3⟩
 |true=>exact ite_tt (chain_last (thn (hc pins s3 σ H3 _ I3 q3) λw' s4 ⟨z',H4,I4,r4,q4⟩=>ho' pins s4 σ H4 y z' u w' Q I4 r2 r4 q4))
theorem Qnu(ho:OpR X (compareOp op) r)(ho':OpR X (compareOp op') r')(ha:PE X a ta)(hb:PE X b tb)(hc:PE X c tc)
  (hm:lastMarks [op,op'] [b,c]=false:=by rfl):PT X (.Compare a [op,op'] [b,c] pos) (tTest (QjJ r r' ta tb tc)):=by
 intro pins s σ H Q I h
 refine isTrue_chain (thn (ha pins s σ H _ I h) λv s1 ⟨x,H1,I1,r1,q1⟩=>test_link (thn (hb pins s1 σ H1 _ I1 q1) λu s2 ⟨y,H2,I2,r2,q2⟩ =>
  thn (ho pins s2 σ H2 x y v u _ I2 r1 r2 q2) λd s3 zq=>?_)) hm
 obtain⟨z,H3,I3,r3,k,e,q3⟩:=zq
 subst e
 cases r3
 refine ZE ?_
 cases k with
 |false =>
  obtain⟨k',e',q'⟩:=q3
  cases e'
  exact ite_ff ⟨H3,I3,q'⟩
 |true =>
  refine ite_tt (test_last (thn (hc pins s3 σ H3 _ I3 q3) λw' s4 ⟨z',H4,I4,r4,q4⟩=>thn (ho' pins s4 σ H4 y z' u w' _ I4 r2 r4 q4) λd' s5 zq=>?_))
  obtain⟨z2,H5,I5,r5,k2,e2,q5⟩:=zq
  subst e2
  cases r5
  exact ZE ⟨H5,I5,q5⟩
theorem Qe4:(sizeLine)<2^63:=ZzD
theorem QiF:OpR X (binaryOp .Add) (λx y H Q=>∃i j,x=.str i/\y=.str j/\i.length+j.length<=sizeLine/\Q (.str (i++j)) H):=by intro pins s σ H x y v u Q I rx ry h;obtain⟨i,j,rfl,rfl,hz,q⟩:=h;obtain⟨t,rfl⟩:=rx;obtain⟨t',rfl⟩:=ry;exact add_str (λt' tk=>⟨.str (i++j),H,I.tok _,⟨_,rfl⟩,q⟩) hz
theorem QiL(r:Vals [x] us):∃u,us=[u]/\RelV x u:=by
 cases r with
 |cons r1 r2=>cases r2;grind
theorem QmT(r:Vals [x,y] us):∃u w',us=[u,w']/\RelV x u/\RelV y w':=by
 cases r with
 |cons r1 r2=>
  cases r2 with
  |cons r3 r4=>cases r4;exact⟨_,_,rfl,r1,r3⟩
theorem Qkp(hc:X.calm=true):Qba X (.builtin "max") (λxs H Q=>∃i j,xs=[.int i,.int j]/\Q (.int (if j>i then j else i)) H):=by intro pins s σ H xs us Q I r h;obtain⟨i,j,rfl,q⟩:=h;obtain⟨u,w',rfl,⟨t,rfl⟩,⟨t',rfl⟩⟩:=QmT r;refine max_two_ints (I.ok.hd hc) λh' tk k=>⟨_,H,I.kept k,?_,q⟩;by_cases hj:j>i;rw[zF hj,zF hj];exact⟨_,rfl⟩;rw[zM hj,zM hj];exact⟨_,rfl⟩
theorem QjF(hc:X.calm=true):Qba X (.builtin "min") (λxs H Q=>∃i j,xs=[.int i,.int j]/\Q (.int (if j<i then j else i)) H):=by intro pins s σ H xs us Q I r h;obtain⟨i,j,rfl,q⟩:=h;obtain⟨u,w',rfl,⟨t,rfl⟩,⟨t',rfl⟩⟩:=QmT r;refine min_two_ints (I.ok.hd hc) λh' tk k=>⟨_,H,I.kept k,?_,q⟩;by_cases hj:j<i;rw[zF hj,zF hj];exact⟨_,rfl⟩;rw[zM hj,zM hj];exact⟨_,rfl⟩
theorem Qgs:Qba X (.type "int") (λxs H Q=>(∃i,xs=[.int i]/\Q (.int i) H)\/∃k,xs=[.bl k]/\Q (.int (if k then 1 else 0)) H):=by intro pins s σ H xs us Q I r h;rcases h with⟨i,rfl,q⟩|⟨k,rfl,q⟩;obtain⟨u,rfl,t,rfl⟩:=QiL r;exact call_int_int ⟨.int i,H,I,⟨_,rfl⟩,q⟩;obtain⟨u,rfl,r1⟩:=QiL r;cases r1;exact call_int_bool ⟨.int (if k then 1 else 0),H,I.tok _,⟨_,rfl⟩,q⟩
end
structure ObjM (h:Heap) (x dx C:Addr) (mA:Str->Option Value):Prop where
 obj:h.get? x=some (PySem.W.instObj C dx)
 ns:h.Ns1 dx mA
 ne:dx≠x
theorem Qko{h:Heap}(n:h.Ns1 dx mA):∃od,h.get? dx=some od/\∀name,PySem.W.lookIn name od=some (mA name):=by
 obtain⟨o,es,ep,ho,hd,hk,_,hm⟩:=n
 refine⟨o,ho,λname=>?_⟩
 have e:=hm name
 unfold nsFind findBy at e
 rw[<- Array.find?_toList]at e
 unfold PySem.W.lookIn
 rw[hd]
 dsimp only
 split
 ·grind
 ·rename_i q
  rw[q]at e
  have a:es.toList.any (·.refKey)=false:=by
   rw[zzI]
   intro y hy
   obtain⟨z,t,hkey⟩:=hk y (zzL.mp hy)
   simp[DictEntry.refKey,hkey]
  grind
theorem ObjM.look(I:ObjM h x dx C mA):∃od,PySem.W.InstAt h x (PySem.W.instObj C dx) C (some od)/\∀name,PySem.W.lookIn name od=some (mA name) :=
 let ⟨od,ho,hl⟩:=Qko I.ns
 ⟨od,⟨I.obj,rfl,rfl,ho⟩,hl⟩
section
variable {prog:Program}{w:World}{A:Around}{E:Value->Shared->Prop}{s:Shared}{K:Fg0}{x dx C f:Addr}{mA:Str->Option Value}{name:Str}{v:Value}
theorem QoH(X:K.In s.heap)(I:ObjM s.heap x dx C mA)(hg:PySem.W.plainGet K C name=true)(hh:PySem.W.hasDictIn K C=true)
  (ha:PySem.W.findIn K (.ref C) name=some none) (hv:mA name=some v) (hv':PySem.W.handedIn v=true) (h:Q v { s with toks:=s.toks+1 }) :
  wpAny (model prog w) A (getAttr (.ref x) name expr) Q E s:=by
 obtain⟨od,J,hl⟩:=I.look
 exact PySem.W.get_value X J (PySem.W.plainGet_of hg).1 (PySem.W.findObj_own hh ha rfl (by simp_all)) hv' h
theorem QlS(X:K.In s.heap)(I:ObjM s.heap x dx C mA)(hg:PySem.W.plainGet K C name=true)
  (hf:PySem.W.findIn K (.ref C) name=some (some (.ref f))) (ht:PySem.W.isFn K (.ref f)=true) (hv:mA name=none) (h:Q (.ref f,[.ref x]) s) :
  wpAny (model prog w) A (getMethod (.ref x) name pl) Q E s:=by
 obtain⟨od,J,hl⟩:=I.look
 exact PySem.W.method_fn X J (PySem.W.plainGet_of hg).1 (PySem.W.plainGet_of hg).2 hf (beq_iff_eq.mp ht) (by show(PySem.W.lookIn name od).map (·.isSome)=some false;simp_all) h
theorem Qpp(X:K.In s.heap)(I:ObjM s.heap x dx C mA)
  (hs:PySem.W.findIn K (.ref C) "__setattr__"=some (some (.builtin "object.__setattr__"))) (hp:PySem.W.plainOver K C=true) (ht:PySem.W.takerIn K C name=some none) (hh:PySem.W.hasDictIn K C=true)
  (hw:PySem.Within mA ns) (hsz:ns.length<=sizeLine)
  (h:∀h',ObjM h' x dx C (λy=>if y=name then some v else mA y)->Heap.SameBut dx s.heap h'->Q () { s with heap:=h',toks:=s.toks+2 }) :
  wpAny (model prog w) A (setAttr (.ref x) name v) Q E s:=by
 obtain⟨od,J,hl⟩:=I.look
 refine PySem.W.set_plain X J hs (PySem.W.osa_open (s:={ s with toks:=s.toks+1 }) (r:=none) X J hp ht λb=>?_)
 obtain⟨cd,hc,hd'⟩:=PySem.W.any_some hh
 have hx :=I.obj
 refine zd (zH (zd (zd (wpAny_loadPart hx (zd (PySem.W.Looks.here (s:={ s with toks:=s.toks+1 }) (PySem.W.looks_clsIn X hc) ?_))))))
 rw[hd']
 refine zH (a:=some dx) (zd (zH (zd ?_)))
 refine wpAny_nsSet1 (s:={ s with toks:=s.toks+1 }) I.ns λh' hn2 hs2=>?_
 obtain⟨oD,esD,epD,hoD,hdD,hcD⟩:=hn2.count (PySem.Within.cons name v hw)
 refine zd (wpAny_lookBehind hoD (by rw[hdD];exact pastItsLine_dict (zf hcD (by rw[z0];lia))) ?_)
 exact zH (h _ ⟨(hs2.2 _ (zzi I.ne)).trans I.obj,hn2,I.ne⟩ hs2)
theorem Qn5 (X:K.In s.heap) (hm:PySem.W.makesIn K C=true)
    (hi:PySem.W.findIn K (.ref C) "__init__"=some (some (.ref f))) (hf:PySem.W.typeIn K (.ref f)=some (.type "function"))
    (h:codeAny (model prog w) (A.under (.builtin "type.__call__" ⟨.ref C::vs,kw⟩)) (.call (.ref f) ⟨.ref (s.heap.objs.size+1)::vs,kw⟩) (PySem.W.InitBack (s.heap.objs.size+1) R)
      { s with heap:=(s.heap.push PySem.W.emptyDict).push (PySem.W.instObj C s.heap.objs.size) }) :
    codeAny (model prog w) A (.call (.ref C) ⟨vs,kw⟩) R s:=by
  obtain ⟨hh,g,d,t,os⟩:=s
  exact PySem.W.make_core (PySem.W.makes_of X hm) (PySem.W.looks_findIn X hi) (fun self=>PySem.W.bind_fn X self hf) (.inl rfl) h
end
noncomputable def Qf8(f:Str)(v:V):List (Str×V)->List (Str×V)
 |[]=>[(f,v)]
 |(g,x)::r=>if g=f then(g,v)::r else(g,x)::Qf8 f v r
theorem Qeb(f g)(v):∀fs:List (Str×V),(Qf8 f v fs).lookup g=if g=f then some v else fs.lookup g
 |[]=>by
  show List.lookup g [(f,v)]=_
  grind
 |(k,x)::r=>by
  have ih:=Qeb f g v r
  rw[show Qf8 f v ((k,x)::r)=(if k=f then(k,v)::r else(k,x)::Qf8 f v r) from rfl]
  grind
theorem QdT(f)(v):∀fs:List (Str×V),f∈(Qf8 f v fs).map (·.1)/\∀g,g∈fs.map (·.1)->g∈(Qf8 f v fs).map (·.1)
 |[]=>⟨by simp[Qf8],λg h=>by simp_all⟩
 |(k,x)::r=>by
  obtain⟨i1,i2⟩:=QdT f v r
  rw[show Qf8 f v ((k,x)::r)=(if k=f then(k,v)::r else(k,x)::Qf8 f v r) from rfl]
  grind
theorem Qeh(f)(v):∀fs:List (Str×V),(Qf8 f v fs).length<=fs.length+1
 |[]=>by simp[Qf8]
 |(k,x)::r=>by
  have ih:=Qeh f v r
  rw[show Qf8 f v ((k,x)::r)=(if k=f then(k,v)::r else(k,x)::Qf8 f v r) from rfl]
  grind
theorem RelO.some_of(r:RelO (some v) o):∃u,o=some u/\RelV v u:=by
 cases o with
 |none=>exact(r).elim
 |some u=>exact⟨u,rfl,r⟩
theorem RelO.none_of(r:RelO none o):o=none:=by
 cases o with
 |none=>rfl
 |some u=>exact(r).elim
theorem QkD(r:RelV v u):PySem.W.handedIn u=true:=by
 cases v with
 |non=>cases (show u=Value.none from r);rfl
 |bl b=>cases (r);rfl
 |int i=>obtain⟨t,e⟩:=(r);cases e;rfl
 |str x=>obtain⟨t,e⟩:=(r);cases e;rfl
 |byt b=>obtain⟨t,e⟩:=(r);cases e;rfl
 |flt b=>obtain⟨t,e⟩:=(r);cases e;rfl
 |ref a=>cases (show u=Value.ref a from r);rfl
 |ty n=>cases (r);rfl
section
variable {P:Program}{w:World}{H H':Hp}{h h':Heap}{a C dx:Addr}{fs fs':List (Str×V)}
theorem Qhd(hok:HOk P w H h)(e:H a=some (.ins C dx fs)):∃mA,ObjM h a dx C mA/\(∀f,RelO (fs.lookup f) (mA f))/\PySem.Within mA (fs.map (·.1))/\fs.length<=1000/\H dx=some (.own a):=by obtain⟨d,z,ne,ob,mA,n,r,q⟩:=(hok a _ e);exact⟨mA,⟨ob,n,ne⟩,r,q,z,d⟩
end
structure Cls (K:Fg0) (C:Addr):Prop where
 pg:PySem.W.plainGet K C Str.empty=true
 hd:PySem.W.hasDictIn K C=true
 po:PySem.W.plainOver K C=true
 sa:PySem.W.findIn K (.ref C) "__setattr__"=some (some (.builtin "object.__setattr__"))
theorem Cls.get{K:Fg0}{C:Addr}(c:Cls K C)(f:Str):PySem.W.plainGet K C f=true:=c.pg
def NoAttr(K:Fg0)(C:Addr)(f:Str):Prop:=PySem.W.findIn K (.ref C) f=some none
theorem NoAttr.taker{K:Fg0}(n:NoAttr K C f):PySem.W.takerIn K C f=some none:=by unfold PySem.W.takerIn;rw[n];rfl
structure Con (K:Fg0) (C:Addr) (f:Str) (v:V) (u:Value):Prop where
 at_:PySem.W.findIn K (.ref C) f=some (some u)
 rel:RelV v u
 get:PySem.W.specialIn K u "__get__"=some none
 cp:PySem.W.copiedNames.contains f=false
structure Meth (K:Fg0) (C:Addr) (m:Str) (f:Addr):Prop where
 at_:PySem.W.findIn K (.ref C) m=some (some (.ref f))
 fn:PySem.W.isFn K (.ref f)=true
 kp:PySem.W.keepIn K (.ref f)=true
section
variable {X:Cx}{pins:List (Addr×Obj)}{σ:St}{H:Hp}{s:Shared}{a C dx:Addr}{fs:List (Str×V)}{f:Str}{v:V}{A:Around}{E:Value->Shared->Prop}
theorem QiG{b:Bool}{Q:Value->Shared->Prop}(I:Inv X pins σ H s)(e:H a=some (.ins C dx fs))(c:Cls X.K C)(n:NoAttr X.K C f)(l:fs.lookup f=some v)
  (h:∀u s',Inv X pins σ H s'->RelV v u->Q u s'):wpAny (model X.prog X.w) A (getAttr (.ref a) f b) Q E s:=by
 obtain⟨mA,O,r,_,_,_⟩:=Qhd I.hok e
 obtain⟨u,hu,ru⟩:=RelO.some_of (v:=v) (o:=mA f) (by grind)
 exact QoH I.kIn O (c.get f) c.hd n hu (QkD ru) (h u _ (I.tok _) ru)
theorem Qe8{m:Str}{g:Addr}{pl:Sem Bool}{Q:Value×List Value->Shared->Prop}(I:Inv X pins σ H s)(e:H a=some (.ins C dx fs))(c:Cls X.K C)(k:Meth X.K C m g)(l:fs.lookup m=none)
  (h:Q (.ref g,[.ref a]) s):wpAny (model X.prog X.w) A (getMethod (.ref a) m pl) Q E s:=by
 obtain⟨mA,O,r,_,_,_⟩:=Qhd I.hok e
 have hn:mA m=none:=RelO.none_of (by grind)
 exact QlS I.kIn O (c.get m) k.at_ k.fn hn h
theorem QiY{y:V}{u:Value}{Q:Unit->Shared->Prop}(I:Inv X pins σ H s)(e:H a=some (.ins C dx fs))(c:Cls X.K C)(n:NoAttr X.K C f)(hl:fs.length<1000)(ry:RelV y u)
  (h:∀s',Inv X pins σ (upd H a (.ins C dx (Qf8 f y fs))) s'->Q () s'):wpAny (model X.prog X.w) A (setAttr (.ref a) f u) Q E s:=by
 obtain⟨mA,O,r,wi,_,ho⟩:=Qhd I.hok e
 have hz:(fs.map (·.1)).length<=sizeLine:=by rw[zo,Zj];lia
 refine Qpp I.kIn O c.sa c.po n.taker c.hd wi hz λh' O' sb=>h _ ?_
 have hd:∃o,h'.get? dx=some o:=let ⟨o,_,_,e',_⟩:=O'.ns;⟨o,e'⟩
 refine I.write (x:=a) (e:=dx) (by rw[e];exact True.intro) (.inr ho) (λb q hb z=>(sb.2 b hb).trans z) hd ?_
 refine⟨by rw[Qas O.ne];exact ho,?_,O.ne,O'.obj,_,O'.ns,λg=>?_,λg hg=>?_⟩
 ·have:=Qeh f y fs;lia
 ·rw[Qeb]
  by_cases q:g=f
  ·rw[zF q,zF q];exact ry
  ·rw[zM q,zM q];exact r g
 ·by_cases q:g=f
  ·rw[q];exact(QdT f y fs).1
  ·refine(QdT f y fs).2 g (wi g λz=>hg ?_)
   show(if g=f then some u else mA g)=none
   rw[zM q];exact z
theorem Inv.made (I:Inv X pins σ H s):Inv X pins σ (upd (upd H s.heap.objs.size (.own (s.heap.objs.size+1))) (s.heap.objs.size+1) (.ins C s.heap.objs.size []))
    { s with heap:=(s.heap.push PySem.W.emptyDict).push (PySem.W.instObj C s.heap.objs.size) }:=by
  have e1:(s.heap.push PySem.W.emptyDict).get? s.heap.objs.size=some PySem.W.emptyDict:=zG s.heap rfl
  have e2:((s.heap.push PySem.W.emptyDict).push (PySem.W.instObj C s.heap.objs.size)).get? (s.heap.objs.size+1)=some (PySem.W.instObj C s.heap.objs.size):=by
    have:=zG (s.heap.push PySem.W.emptyDict) (o:=PySem.W.instObj C s.heap.objs.size) rfl
    rwa [ZW] at this
  have e3:(s.heap.push PySem.W.emptyDict).Ns s.heap.objs.size (fun _=>none):=⟨PySem.W.emptyDict,#[],_,e1,rfl,(fun e he=>absurd he ZzS),fun _=>rfl⟩
  have I1:=I.laid (a:=s.heap.objs.size) (o:=.own (s.heap.objs.size+1)) (h':=s.heap.push PySem.W.emptyDict) (t':=s.toks) (fun b u q=>hps0 _ q) (zD _) ⟨_,e1⟩
  refine I1.laid (a:=s.heap.objs.size+1) (o:=.ins C s.heap.objs.size []) (t':=s.toks) (fun b u q=>hps0 _ q) (Nat.le_of_eq (ZW _ _)) ?_
  have ne:s.heap.objs.size≠s.heap.objs.size+1:=zU (zzt _)
  refine ⟨by rw [Qas ne,Qau],ZQ _,ne,e2,fun _=>none,(Heap.Ns1.of_empty e3).at fun o q=>hps0 _ q,fun _=>True.intro,fun y hy=>absurd rfl hy⟩

theorem Qqs(hb:attributeBase e f env (eval e env)=eval e env)
  (h:wpAny (model prog w) A (eval e env) (λo s₁=>wpAny (model prog w) A (getAttr o f true) Q E s₁) E s):wpAny (model prog w) A (eval (.Attribute e f pos) env) Q E s :=
 Attribute_any_ h (by rw[arm_eval_Attribute,hb])
end
def tFld(K:Fg0)(ta:TE)(f:Str):TE:=λσ H Q=>ta σ H λx H1=>∃a C dx fs v,x=.ref a/\H1 a=some (.ins C dx fs)/\Cls K C/\NoAttr K C f/\fs.lookup f=some v/\Q v H1
def sFld(K:Fg0)(ta tv:TE)(f:Str):TS:=λD σ H=>tv σ H λy H1=>ta σ H1 λx H2=>∃a C dx fs,x=.ref a/\H2 a=some (.ins C dx fs)/\Cls K C/\NoAttr K C f/\fs.length<1000 /\
 D.nx σ (upd H2 a (.ins C dx (Qf8 f y fs)))
section
variable {X:Cx}{o e value:Expr}{f:Str}{pos pos' tpos:Pos}{ta tv:TE}
theorem pe_fld(he:PE X e ta)(hb:attributeBase e f X.env (eval e X.env)=eval e X.env):PE X (.Attribute e f pos) (tFld X.K ta f):=by intro pins s σ H Q I h;refine Qqs hb (thn (he pins s σ H _ I h) λu s1 zq=>?_);obtain⟨x,H1,I1,rx,a,C,dx,fs,v,ex,ea,c,n,l,q⟩:=zq;subst ex;obtain rfl:u=Value.ref a:=rx;exact QiG I1 ea c n l λu' s2 I2 ru=>⟨v,H1,I2,ru,q⟩
theorem QnH(ha:PE X o ta)(hv:PE X value tv)(hs:swapsWith value (some (.Attribute o f pos')) pos.line X.env=pure false):PS X (.Assign [.Attribute o f pos'] value pos) (sFld X.K ta tv f):=by intro pins s σ H D I h;refine plainObj_wpAny_Assign_Attribute (thn (hv pins s σ H _ I h) λu s1 ⟨y,H1,I1,ry,q⟩=>thn (ha pins s1 σ H1 _ I1 q) λov s2 zq=>?_) hs;obtain⟨x,H2,I2,rx,a,C,dx,fs,ex,ea,c,n,l,q2⟩:=zq;subst ex;obtain rfl:ov=Value.ref a:=rx;exact QiY I2 ea c n l ry λs3 I3=>⟨σ,_,I3,q2⟩
end
section
variable {X:Cx}{pins:List (Addr×Obj)}{σ:St}{H:Hp}{s:Shared}{A:Around}{E:Value->Shared->Prop}{Q:Value->Shared->Prop}{c:Value}{b:Bool}
inductive TyOf (K:Fg0) (H:Hp):V->Value->Prop where
 |non:TyOf K H .non (.type "NoneType")
 |bl (x:Bool):TyOf K H (.bl x) (.type "bool")
 |int (i:Int):TyOf K H (.int i) (.type "int")
 |str (x:Str):TyOf K H (.str x) (.type "str")
 |flt (x:UInt64):TyOf K H (.flt x) (.type "float")
 |lst {a:Addr}{xs:List V} (e:H a=some (.lst xs)):TyOf K H (.ref a) (.type "list")
 |frz {a:Addr}{o:Obj}{xs:List V} (e:H a=some (.frz o (.lst xs))):TyOf K H (.ref a) (.type "list")
 |tup {a:Addr}{xs:List V} (e:H a=some (.tup xs)):TyOf K H (.ref a) (.type "tuple")
 |dK {a:Addr}{kvs:List (Key×V)} (e:H a=some (.dK kvs)):TyOf K H (.ref a) (.type "dict")
 |dT {a:Addr}{kvs:List (List Key×V)} (e:H a=some (.dT kvs)):TyOf K H (.ref a) (.type "dict")
 |ins {a C dx:Addr}{fs:List (Str×V)} (e:H a=some (.ins C dx fs)) (cl:Cls K C) (ha:PySem.W.findIn K (.ref C) "__class__"=some (some (.builtin "object.__class__")))
  (hn:PySem.W.specialIn K (.builtin "object.__class__") "__get__"=some (some (.builtin "getset_descriptor.__get__"))) (htk:PySem.W.takesIn K (.builtin "object.__class__")=some true)
  (hm:PySem.W.mroIn K C (.type "object")=some true):TyOf K H (.ref a) (.ref C)
end
structure Room (k:Nat) (A:Around):Prop where
 hd:A.handled=none
 dp:A.depth+3*k+5<recursionLimit
 un:A.units+16*k+200<cLine
theorem Room.mono(r:Room k A)(h:j<=k):Room j A:=⟨r.hd,by have:=r.dp;lia,by have:=r.un;lia⟩
theorem Room.deeper(r:Room (k+1) A)(env):Room k (A.deeper env) :=
 ⟨r.hd,by have:=r.dp;show A.depth+1+3*k+5<_;lia,by have:=r.un;show A.units+3+16*k+200<_;lia⟩
theorem QiM{A:Around}:(A.under (.builtin "type.__call__" ⟨.ref C::us,kw⟩)).depth=A.depth+1:=rfl
theorem QiD{A:Around}:(A.under (.builtin "type.__call__" ⟨.ref C::us,kw⟩)).units=A.units+1:=rfl
theorem Room.make(r:Room (k+1) A)(C)(us)(kw):Room k (A.under (.builtin "type.__call__" ⟨.ref C::us,kw⟩)) :=
 ⟨r.hd,by have:=r.dp;rw[QiM];lia,by have:=r.un;rw[QiD];lia⟩
theorem Room.depth(r:Room k A):A.depth<recursionLimit:=by have:=r.dp;lia
theorem Room.units(r:Room k A):A.units+64<cLine:=by have:=r.un;lia
def tNil:TA:=λ_ H Q=>Q [] H
def tCons(ta:TE)(tr:TA):TA:=λσ H Q=>ta σ H λx H1=>tr σ H1 λxs H2=>Q (x::xs) H2
section
variable {X:Cx}{e:Expr}{es:List Expr}{te:TE}{t:TA}{pos:Pos}
theorem pa_nil:PA X [] tNil:=λ_ _ _ _ H Q I h=>Calls.spliced_nil ⟨[],H,I,.nil,h⟩
theorem Qay(ha:PE X e te)(hr:PA X es t)(hs:starEach (e::es) X.env=(false,eval e X.env)::starEach es X.env:=by rfl):PA X (e::es) (tCons te t):=by intro pos pins s σ H Q I h;rw[hs];refine zzZ (thn (ha pins s σ H _ I h) λu s1 zq=>?_);obtain⟨x,H1,I1,r1,q1⟩:=zq;exact thn (hr pos pins s1 σ H1 _ I1 q1) λus s2 zq=>by obtain⟨xs,H2,I2,r2,q2⟩:=zq;exact⟨x::xs,H2,I2,.cons r1 r2,q2⟩
def tTup(t:TA):TE:=λσ H Q=>t σ H λxs H1=>xs.length<=sizeLine/\∀p,H1 p=none->Q (.ref p) (upd H1 p (.tup xs))
def tLst(t:TA):TE:=λσ H Q=>t σ H λxs H1=>xs.length<=sizeLine/\∀p,H1 p=none->Q (.ref p) (upd H1 p (.lst xs))
theorem pe_tup(h:PA X es t):PE X (.Tuple es x1 pos) (tTup t):=by intro pins s σ H Q I hq;refine wpAny_Tuple_spliced (thn (h pos pins s σ H _ I hq) λus s1 ⟨xs,H1,I1,r,z,q⟩=>⟨by rw[<- r.length];lia,?_⟩);have hf :=I1.hok.fresh (zD _);refine⟨.ref s1.heap.objs.size,upd H1 s1.heap.objs.size (.tup xs),I1.laid  (λb u e=>hps0 _ e) (zD _) ?_,rfl,q _ hf⟩;exact⟨z,us,r,⟨_,zG _ rfl,rfl,_,rfl⟩⟩
theorem QhF(h:PA X es t):PE X (.List es pos) (tLst t):=by intro pins s σ H Q I hq;refine wpAny_List_spliced (thn (h pos pins s σ H _ I hq) λus s1 ⟨xs,H1,I1,r,z,q⟩=>⟨by rw[<- r.length];lia,?_⟩);have hf :=I1.hok.fresh (zD _);refine⟨.ref s1.heap.objs.size,upd H1 s1.heap.objs.size (.lst xs),I1.laid  (λb u e=>hps0 _ e) (zD _) ?_,rfl,q _ hf⟩;exact⟨z,us,0,r,zG _ rfl⟩
end
abbrev Sp:=List V->Hp->VK->XK->Prop
abbrev CXT:=List Env->Hp->Shared->XK->Value->Shared->Prop
structure Env0 (P:Program) (w:World) (K:Fg0) (mg:Str->Option Value) (base:Heap) (A:Around) (outer:List Env) (s:Shared) (H:Hp):Prop where
 frames:A.frames=some outer
 mod:Mod K mg base
 bs:∀b o,base.get? b=some o->s.heap.get? b=some o/\H b=none
 bsz:base.objs.size<=s.heap.objs.size
 funs:s.heap.FunFrames base outer
 frf:∀b∈frs outer,H b=none
 hok:HOk P w H s.heap
 bare:AllBare s.gens
def CE(outer:List Env)(P:Program)(w:World)(H:Hp)(s:Shared)(Q:VK)(u:Value)(s':Shared):Prop :=
 ∃v H',s'.os=s.os/\AllBare s'.gens/\Un (frs outer) [] H H' s.heap s'.heap/\HOk P w H' s'.heap/\RelV v u/\Q v H'
def CR(CX:CXT)(outer:List Env)(P:Program)(w:World)(H:Hp)(s:Shared)(Q:VK)(E:XK)(r:Result)(s':Shared):Prop :=
 match r with
 |.ok (.ret u)=>CE outer P w H s Q u s'
 |.ok _=>False
 |.error e=>CX outer H s E e s'
structure FnOk (P:Program) (w:World) (K:Fg0) (mg:Str->Option Value) (base:Heap) (CX:CXT) (k:Nat) (f:Addr) (fd:FuncData) (ps:List Str) (sp:Sp):Prop where
 len:∀vs H Q E,sp vs H Q E->vs.length=ps.length
 run:∀(A:Around) (outer:List Env) (s:Shared) (H:Hp) (args:Args) (us:List Value) (vs:List V) (Q:VK) (E:XK),Room k A->Env0 P w K mg base A outer s H->BindsTo s fd args (ps.zip us)->Vals vs us->sp vs H Q E ->
  codeAny (model P w) A (.call (.ref f) args) (CR CX outer P w H s Q E) s
theorem FnOk.imp{K:Fg0}(F:FnOk P w K mg base CX k f fd ps sp)
  (h:∀vs H Q E,sp' vs H Q E->sp vs H Q E):FnOk P w K mg base CX k f fd ps sp' :=
 ⟨λvs H Q E q=>F.len vs H Q E (h _ _ _ _ q),λA outer s H args us vs Q E hr he hb hv hs=>F.run A outer s H args us vs Q E hr he hb hv (h _ _ _ _ hs)⟩
theorem Env0.make{K:Fg0}(e:Env0 P w K mg base A outer s H)(C)(us:List Value)(kw:List (Str×Value)) :
 Env0 P w K mg base (A.under (.builtin "type.__call__" ⟨.ref C::us,kw⟩)) outer s H:=⟨by first|exact e.frames|rfl,e.mod,e.bs,e.bsz,e.funs,e.frf,e.hok,e.bare⟩
section
variable {X:Cx}{pins:List (Addr×Obj)}{σ:St}{H:Hp}{s s':Shared}
theorem Inv.env0(I:Inv X pins σ H s):Env0 X.prog X.w X.K X.mg X.base X.A X.stack s H :=
 ⟨I.ok.frames,I.ok.mod,I.bs,zf I.ok.bsz I.sz,I.stack,I.stkFree,I.hok,I.bare⟩
theorem Inv.after(I:Inv X pins σ H s)(h:CE X.stack X.prog X.w H s Q u s'):EP X pins σ Q u s':=by obtain⟨v,H',os,bare,un,hok,r,q⟩:=h;obtain⟨hh,g,d,t,os'⟩:=s';obtain rfl:os'=s.os:=os;exact⟨v,H',I.call (h':=hh) (g':=g) (d':=d) (t':=t) (ch:=[]) un hok bare (λb z=>absurd z ZzS),r,q⟩
end
def tCall(sp:Sp)(dvs:List V)(E:XK)(t:TA):TE:=λσ H Q=>t σ H λvs H1=>sp (vs++dvs) H1 Q E
def Qpt(C:Addr)(m:Str)(sp:Sp)(dvs:List V)(E:XK)(ta:TE)(t:TA):TE:=λσ H Q=>ta σ H λx H1=>∃a dx fs,x=.ref a/\H1 a=some (.ins C dx fs)/\fs.lookup m=none /\
 t σ H1 λvs H2=>sp (x::(vs++dvs)) H2 Q E
def tMake(C:Addr)(sp:Sp)(dvs:List V)(E:XK)(t:TA):TE:=λσ H Q=>t σ H λvs H1=>∀x dx,H1 x=none->H1 dx=none->dx≠x ->
 sp (.ref x::(vs++dvs)) (upd (upd H1 dx (.own x)) x (.ins C dx [])) (λv H2=>v=.non/\Q (.ref x) H2) E
def Binds(K:Fg0)(fd:FuncData)(ps:List Str)(ds:List Value):Prop :=
 ∀(s:Shared) (us:List Value),K.In s.heap->(us++ds).length=ps.length->BindsTo s fd ⟨us,[]⟩ (ps.zip (us++ds))
theorem Binds.all{K:Fg0}(h:∀us,us.length=ps.length->bindArgs fd ⟨us,[]⟩=pure (ps.zip us)):Binds K fd ps []:=λs us _ hl=>by rw[Zf]at hl ⊢;exact .of_eq (h us hl)
def QdR(CX:CXT)(X:Cx)(E:XK):Prop:=∀(pins:List (Addr×Obj)) (σ:St) (H:Hp) (s:Shared) (e:Value) (s':Shared),Inv X pins σ H s->CX X.stack H s E e s'->X.xe e s'
section
variable {X:Cx}{CX:CXT}{k:Nat}{f C:Addr}{fd:FuncData}{ps:List Str}{sp:Sp}{dvs:List V}{ds:List Value}{E:XK}{x m:Str}{p pos apos:Pos}{e o:Expr}{es:List Expr}{ta:TE}{t:TA}
theorem Qka{pins:List (Addr×Obj)}{σ:St}{H:Hp}{s:Shared}{Q:VK}{us:List Value}{vs:List V}(F:FnOk X.prog X.w X.K X.mg X.base CX k f fd ps sp)(hr:Room k X.A)(hb:Binds X.K fd ps ds)(hd:Vals dvs ds)(hx:QdR CX X E)
  (I:Inv X pins σ H s) (r:Vals vs us) (h:sp (vs++dvs) H Q E):wpAny (model X.prog X.w) X.A (call (.ref f) us) (EP X pins σ Q) X.xe s:=by
 have r2:Vals (vs++dvs) (us++ds):=r.append hd
 have hl:(us++ds).length=ps.length:=by rw[<- r2.length];exact F.len _ _ _ _ h
 refine wpAny_call (zzw (F.run X.A X.stack s H ⟨us,[]⟩ (us++ds) (vs++dvs) Q E hr I.env0 (hb s us I.kIn hl) r2 h) λr s' hq=>?_)
 cases r with
 |error e=>exact hx pins σ H s e s' I hq
 |ok fl =>
  cases fl with
  |ret u=>exact I.after hq
  |next=>exact False.elim hq
  |brk=>exact False.elim hq
  |cont=>exact False.elim hq
theorem Qpn(F:FnOk X.prog X.w X.K X.mg X.base CX k f fd ps sp)(hr:Room k X.A)(hg:Gl X x)(hm:X.mg x=some (.ref f))(hk:PySem.W.keepIn X.K (.ref f)=true)(hb:Binds X.K fd ps ds)(hd:Vals dvs ds)(hx:QdR CX X E)
  (ha:PA X (e::es) t) (hdb:(x==("__debug__"))=false:=by rfl) (he:starEach (e::es) X.env=(false,eval e X.env)::starEach es X.env:=by rfl) (hpl:(backTo pos (starEach es X.env)).any (·.1)=false:=by rfl) :
  PE X (.Call (.Name x p) (e::es) [] pos) (tCall sp dvs E t):=by
 intro pins s σ H Q I h
 exact Z6 (Qc0 I hg hm (PySem.W.callWith_K  I.ok.mod.kin hk (thn (ha pos pins s σ H _ I h) λus s1 ⟨vs,H1,I1,r,q⟩=>⟨I1.kIn,(Qka F hr hb hd hx I1 r q)⟩) he hpl) hdb)
theorem QoR{pl:Sem Bool}(he:PE X o ta)(c:Cls X.K C)(hm:Meth X.K C m f)(F:FnOk X.prog X.w X.K X.mg X.base CX k f fd ps sp)(hr:Room k X.A)(hb:Binds X.K fd ps ds)(hd:Vals dvs ds)(hx:QdR CX X E)(ha:PA X (e::es) t)
  (hst:starEach (e::es) X.env=(false,eval e X.env)::starEach es X.env:=by rfl) (hpl:(backTo pos (starEach es X.env)).any (·.1)=false:=by rfl)
  (ht:eval (.Call (.Attribute o m apos) (e::es) [] pos) X.env=(do
   let ov <- eval o X.env
   standAt apos.atName
   let (f,first) <- holding [ov] (getMethod ov m pl)
   callWith pos f first (backTo pos (starEach (e::es) X.env)) (backToKw pos (keywordEach [] X.env))):=by rfl) :
  PE X (.Call (.Attribute o m apos) (e::es) [] pos) (Qpt C m sp dvs E ta t):=by
 intro pins s σ H Q I h
 refine PySem.W.methodCall_KW (pl:=pl) (thn (he pins s σ H _ I h) λu s1 zq=>?_) ht
 obtain⟨x,H1,I1,rx,a,dx,fs,ex,ea,l,q⟩:=zq
 subst ex
 obtain rfl:u=Value.ref a:=rx
 refine Qe8 I1 ea c hm l ?_
 refine PySem.W.callWith_K (first:=[.ref a]) (h₀:=X.base) I.ok.mod.kin hm.kp (thn (ha pos pins s1 σ H1 _ I1 q) λus s2 ⟨vs,H2,I2,r,q2⟩=>⟨I2.kIn,?_⟩) hst hpl
 exact Qka (us:=.ref a::us) (vs:=.ref a::vs) F hr hb hd hx I2 (.cons rfl r) q2
theorem Qmn{pl:Sem Bool}(he:PE X o ta)(c:Cls X.K C)(hm:Meth X.K C m f)(F:FnOk X.prog X.w X.K X.mg X.base CX k f fd ps sp)(hr:Room k X.A)(hb:Binds X.K fd ps ds)(hd:Vals dvs ds)(hx:QdR CX X E)
  (ht:eval (.Call (.Attribute o m apos) [] [] pos) X.env=(do
   let ov <- eval o X.env
   standAt apos.atName
   let (f,first) <- holding [ov] (getMethod ov m pl)
   callWith pos f first (backTo pos (starEach [] X.env)) (backToKw pos (keywordEach [] X.env))):=by rfl) :
  PE X (.Call (.Attribute o m apos) [] [] pos) (Qpt C m sp dvs E ta tNil):=by
 intro pins s σ H Q I h
 refine PySem.W.methodCall_KW (pl:=pl) (thn (he pins s σ H _ I h) λu s1 zq=>?_) ht
 obtain⟨x,H1,I1,rx,a,dx,fs,ex,ea,l,q⟩:=zq
 subst ex
 obtain rfl:u=Value.ref a:=rx
 refine Qe8 I1 ea c hm l ?_
 exact PySem.W.callWith_K0 (first:=[.ref a]) I1.kIn hm.kp (Qka (us:=[.ref a]) (vs:=[.ref a]) F hr hb hd hx I1 (.cons rfl .nil) q)
structure Mk (K:Fg0) (C f:Addr):Prop where
 makes:PySem.W.makesIn K C=true
 init:PySem.W.findIn K (.ref C) "__init__"=some (some (.ref f))
 fn:PySem.W.isFn K (.ref f)=true
 kp:PySem.W.keepIn K (.ref C)=true
theorem QlV{σ:St}{H:Hp}{s:Shared}{Q:VK}{us:List Value}{vs:List V}(M:Mk X.K C f)(F:FnOk X.prog X.w X.K X.mg X.base CX k f fd ps sp)(hr:Room (k+1) X.A)(hb:Binds X.K fd ps ds)(hd:Vals dvs ds)
  (hx:QdR CX X E) (I:Inv X pins σ H s) (r:Vals vs us)
  (h:∀x dx,H x=none->H dx=none->dx≠x->sp (.ref x::(vs++dvs)) (upd (upd H dx (.own x)) x (.ins C dx [])) (λv H2=>v=.non/\Q (.ref x) H2) E) :
  wpAny (model X.prog X.w) X.A (call (.ref C) us) (EP X pins σ Q) X.xe s:=by
 have hq:=h (s.heap.objs.size+1) s.heap.objs.size (I.hok.fresh (ZK _)) (I.hok.fresh (zD _)) (zU (zzt _))
 have I2:=Inv.made (C:=C) I
 have r2:Vals (V.ref (s.heap.objs.size+1)::(vs++dvs)) (Value.ref (s.heap.objs.size+1)::(us++ds)):=.cons rfl (r.append hd)
 have hl :=by have e:=r2.length;rw[F.len _ _ _ _ hq]at e;exact e.symm
 refine wpAny_call (Qn5 (f:=f) I.kIn M.makes M.init (beq_iff_eq.mp M.fn) (zzw (F.run _ X.stack _ _ ⟨Value.ref (s.heap.objs.size+1)::us,[]⟩ (Value.ref (s.heap.objs.size+1)::(us++ds)) _ _ E (hr.make C us [])
  (I2.env0.make C us []) (hb _ (Value.ref (s.heap.objs.size+1)::us) I2.kIn hl) r2 hq) λr s' hq'=>?_))
 cases r with
 |error e=>exact hx pins σ _ _ e s' I2 hq'
 |ok fl =>
  cases fl with
  |ret u =>
   obtain⟨v,H',I3,rv,ev,q3⟩:=I2.after hq'
   subst ev
   exact⟨rv,⟨V.ref (s.heap.objs.size+1),H',I3,rfl,q3⟩⟩
  |next=>exact False.elim hq'
  |brk=>exact False.elim hq'
  |cont=>exact False.elim hq'
theorem QoP(M:Mk X.K C f)(F:FnOk X.prog X.w X.K X.mg X.base CX k f fd ps sp)(hr:Room (k+1) X.A)(hg:Gl X x)(hm:X.mg x=some (.ref C))(hb:Binds X.K fd ps ds)(hd:Vals dvs ds)(hx:QdR CX X E)
  (ha:PA X (e::es) t) (hdb:(x==("__debug__"))=false:=by rfl) (he:starEach (e::es) X.env=(false,eval e X.env)::starEach es X.env:=by rfl) (hpl:(backTo pos (starEach es X.env)).any (·.1)=false:=by rfl) :
  PE X (.Call (.Name x p) (e::es) [] pos) (tMake C sp dvs E t):=by
 intro pins s σ H Q I h
 exact Z6 (Qc0 I hg hm (PySem.W.callWith_K  I.ok.mod.kin M.kp (thn (ha pos pins s σ H _ I h) λus s1 ⟨vs,H1,I1,r,q⟩=>⟨I1.kIn,(QlV M F hr hb hd hx I1 r q)⟩) he hpl) hdb)
end
def PK(X:Cx)(kws:List Keyword)(t:TA):Prop :=
 ∀(pos:Pos) (pins:List (Addr×Obj)) (s:Shared) (σ:St) (H:Hp) (Q:List V->Hp->Prop),Inv X pins σ H s->t σ H Q->wpAny (model X.prog X.w) X.A (evalAll ((backToKw pos (keywordEach kws X.env)).map (·.2))) (AP X pins σ Q) X.xe s
section
variable {X:Cx}{CX:CXT}{k:Nat}{f C:Addr}{fd:FuncData}{ps ks:List Str}{sp:Sp}{E:XK}{x m:Str}{p pos apos kpos:Pos}{e o:Expr}{es:List Expr}{kws:List Keyword}{te ta:TE}{t tk:TA}{nm:Option Str}
theorem pk_nil:PK X [] tNil:=λ_ _ _ _ H Q I h=>wpAny_evalAll_nil ⟨[],H,I,.nil,h⟩
theorem QoW(ha:PE X e te)(hr:PK X kws t):PK X (⟨nm,e,kpos⟩::kws) (tCons te t):=by intro pos pins s σ H Q I h;exact wpAny_evalAll_cons (zd (thn (ha pins s σ H _ I h) λu s1 ⟨x,H1,I1,r1,q1⟩=>zd (zzF (zH (thn (hr pos pins s1 σ H1 _ I1 q1) λus s2 ⟨xs,H2,I2,r2,q2⟩=>⟨x::xs,H2,I2,.cons r1 r2,q2⟩)))))
structure KBinds (K:Fg0) (fd:FuncData) (ps ks:List Str) (g:List Value->List Value->List Value) (gV:List V->List V->List V):Prop where
 to:∀(s:Shared) (us ws:List Value),K.In s.heap->(g us ws).length=ps.length->BindsTo s fd ⟨us,ks.zip ws⟩ (ps.zip (g us ws))
 rel:∀{vs:List V}{us:List Value}{zs:List V}{ws:List Value},Vals vs us->Vals zs ws->Vals (gV vs zs) (g us ws)
variable {g:List Value->List Value->List Value}{gV:List V->List V->List V}
end
structure FnScope (N P:List Str) (sc:Scope):Prop where
 kind:sc.kind=.function
 co:sc.isCoroutine=false
 gen:sc.isGenerator=false
 nd:N.Nodup
 pre:N.take P.length=P
 par:∀x∈P,sc.names.lookup x=some .local\/sc.names.lookup x=some .cell
 nofree:∀y∈sc.names,y.2≠.free
theorem Qgj{kindOf:Str->Option NameKind}:∀{binds:List (Str×Value)}{m:Str->Option Value},(∀v,(x,v)∉binds)->bindL kindOf binds m x=m x
 |[],_,_=>rfl
 |(n,v)::r,m,h=>by
  unfold bindL
  rw[Qgj λw hw=>h w (zB _ hw)]
  split
  ·grind
  rfl
theorem QfV{kindOf:Str->Option NameKind}:∀{binds:List (Str×Value)}{m:Str->Option Value},(∀v,(x,v)∉binds)->bindC kindOf binds m x=m x
 |[],_,_=>rfl
 |(n,v)::r,m,h=>by
  unfold bindC
  rw[QfV λw hw=>h w (zB _ hw)]
  split
  ·rfl
  grind
theorem Qg6{kindOf:Str->Option NameKind}:∀{P:List Str}{vs:List Value}{i:Nat}{m:Str->Option Value},P.Nodup->P[i]?=some x->vs[i]?=some v->kindOf x=some .local ->
  bindL kindOf (P.zip vs) m x=some v
 |[],_,_,_,_,h,_,_=>by simp at h
 |_::_,[],_,_,_,_,h,_=>by simp at h
 |p::P,w::vs,0,m,nd,h1,h2,hk=>by simp at h1 h2;subst h1;subst h2;show bindL kindOf ((p,w)::P.zip vs) m p=_;unfold bindL;rw[Qgj λv hv=>(ZR.mp nd).1 (List.of_mem_zip hv).1,zF hk];simp
 |p::P,w::vs,i+1,m,nd,h1,h2,hk=>by unfold bindL;exact Qg6 (i:=i) (ZR.mp nd).2 (by simpa using h1) (by simpa using h2) hk
theorem QfA{kindOf:Str->Option NameKind}:∀{P:List Str}{vs:List Value}{i:Nat}{m:Str->Option Value},P.Nodup->P[i]?=some x->vs[i]?=some v->kindOf x≠some .local ->
  bindC kindOf (P.zip vs) m x=some v
 |[],_,_,_,_,h,_,_=>by simp at h
 |_::_,[],_,_,_,_,h,_=>by simp at h
 |p::P,w::vs,0,m,nd,h1,h2,hk=>by simp at h1 h2;subst h1;subst h2;show bindC kindOf ((p,w)::P.zip vs) m p=_;unfold bindC;rw[QfV λv hv=>(ZR.mp nd).1 (List.of_mem_zip hv).1,zM hk];simp
 |p::P,w::vs,i+1,m,nd,h1,h2,hk=>by unfold bindC;exact QfA (i:=i) (ZR.mp nd).2 (by simpa using h1) (by simpa using h2) hk
noncomputable def start(N:List Str)(vs:List V):St:=vs.map some++List.replicate (N.length-vs.length) none
noncomputable def QkC(CX:CXT)(P:Program)(w:World)(K:Fg0)(mg:Str->Option Value)(base:Heap)(N:List Str)(qual:Str)(scope:Scope)(f:Addr)(cd:Value)(A:Around)(outer:List Env)(s:Shared)(H:Hp)(E:XK):Cx where
 prog:=P
 w:=w
 K:=K
 mg:=mg
 base:=base
 A:=A.deeper (envOfC qual scope s.heap.objs.size f cd)
 N:=N
 s₀:=s
 H₀:=H
 env:=envOfC qual scope s.heap.objs.size f cd
 outer:=outer
 stack:=envOfC qual scope s.heap.objs.size f cd::outer
 ex:=[]
 calm:=true
 fn:=λ_=>true
 pn:=[]
 xe:=λe s'=>wpAny (model P w) (A.deeper (envOfC qual scope s.heap.objs.size f cd)) (leaving (envOfC qual scope s.heap.objs.size f cd) e) (λ_ s''=>CX outer H s E e s'') (λe' s''=>CX outer H s E e' s'') s'
theorem QhG{sc:Scope}(h:sc.names.lookup x=some .cell):∃c,(cellsFrom n sc.names []).lookup x=some c:=by have q:=PySem.W.cellsFrom_some sc.names n [] (.inl h);exact ZG.mp q
theorem QkL{K:Fg0}{qual:Str}{scope:Scope}{f:Addr}{cd:Value}{A:Around}{outer:List Env}{s s1:Shared}{H:Hp}{E:XK}{us:List Value}{vs:List V}
  (S:FnScope N ps scope) (hd:A.handled=none) (e0:Env0 P w K mg base A outer s H) (hl:vs.length=ps.length) (r:Vals vs us)
  (x:InCallC s s.heap.objs.size (bindL (envOfC qual scope s.heap.objs.size f cd).kindOf (ps.zip us) λ_=>none) (cellsFrom (s.heap.objs.size+1) scope.names []) (bindC (envOfC qual scope s.heap.objs.size f cd).kindOf (ps.zip us) λ_=>none) s1) :
  Inv (QkC CX P w K mg base N qual scope f cd A outer s H E) [] (start N vs) H s1:=by
 have hpl:ps.length<=N.length:=by have:=congrArg List.length S.pre;rw[Zk]at this;lia
 obtain⟨h1,tk,rfl,hk⟩:=x.done
 have noA:∀b:Addr,b∉(QkC CX P w K mg base N qual scope f cd A outer s H E).ex:=λb z=>absurd (show b∈([]:List Addr) from z) ZzS
 refine⟨⟨e0.mod,S.kind,rfl,rfl,zD _,λy z c h1 h2=>?_,λy hy=>?_,λy c _ h=>?_,λ_=>hd,Around.frames_deeper e0.frames,.inr ⟨rfl,rfl⟩,λb z=>absurd z (noA b),e0.bs,e0.bsz,λb _ _=>noA b,λb z=>absurd z (noA b),e0.funs,e0.frf⟩,
  rfl,e0.bare,Un.kept hk,⟨_,x.toInCall.ns,λi y v h1 h2 h3=>?_⟩,λy c h=>⟨_,x.cell y c h⟩,e0.hok.fresh (zD _),λy c h=>?_,λp hp=>absurd (show p∈([]:List (Addr×Obj)) from hp) ZzS,e0.hok.kept hk,?_⟩
 ·exact name_of_addr x.apart (ZY h1) (ZY h2)
 ·have hy:scope.names.lookup y=some .cell\/scope.names.lookup y=some .free:=hy
  rcases hy with hy|hy
  ·exact QhG hy
  ·exact absurd rfl (S.nofree _ (ZY hy))
 ·exact zz6 (x.above y c (ZY h))
 ·have hi:i<vs.length:=by unfold start at h2;by_cases hi:i<vs.length;exact hi;rw[zK (by simpa using hi)]at h2;rw[zz3]at h2;split at h2<;>cases h2
  have ha:vs[i]?=some v:=by
   unfold start at h2;rw[zI (by simpa using hi),zT]at h2;cases e:vs[i]? with
   |none=>rw[e]at h2;cases h2
   |some a=>rw[e]at h2;cases h2;rfl
  obtain⟨u,hu,rv⟩:=r.get ha
  have hp:ps[i]?=some y:=by rw[<- S.pre,zzU ZzL];exact h1
  have ndP:ps.Nodup:=by rw[<- S.pre];exact S.nd.sublist (List.take_sublist _ _)
  refine⟨u,rv,?_⟩
  rcases S.par y (zC hp) with k|k
  ·exact .inl ⟨k,Qg6 ndP hp hu k⟩
  ·obtain⟨c,e⟩:=QhG (n:=s.heap.objs.size+1) k
   refine .inr ⟨.inl k,c,e,?_⟩
   have q:=x.cell y c e
   rw[QfA ndP hp hu (by show scope.names.lookup y≠_;rw[k];decide)]at q
   exact q
 ·exact e0.hok.fresh (zz6 (x.above y c (ZY h)))
 ·unfold start
  show _=N.length
  rw[zA,zo,List.length_replicate]
  lia
theorem Qpm{K:Fg0}{k:Nat}{f:Addr}{name qual:Str}{params:Arguments}{body:List Stmt}{scope:Scope}{dV kV doc pm cdv ct oc:Value}{an od:Option Addr}
  {osl:Array (Option Value)}{N ps:List Str}{sp:Sp} (lk:K.lookup f=some ⟨oc,od,.func (PySem.W.fnOf name qual params body scope dV kV doc pm an cdv ct),osl⟩) (hcd:PySem.W.codeIn K cdv qual=true) (S:FnScope N ps scope)
  (len:∀vs H Q E,sp vs H Q E->vs.length=ps.length)
  (hbody:∀(A:Around) (outer:List Env) (s:Shared) (H:Hp) (vs:List V) (Q:VK) (E:XK),Room k (A.deeper (envOfC qual scope s.heap.objs.size f cdv))->sp vs H Q E ->
   ∃t,PSs (QkC CX P w K mg base N qual scope f cdv A outer s H E) body t/\t { nx:=λ_ H'=>Q .non H',rt:=Q } (start N vs) H) :
  FnOk P w K mg base CX (k+1) f (PySem.W.fnOf name qual params body scope dV kV doc pm an cdv ct) ps sp:=by
 refine⟨len,λA outer s H args us vs Q E hr e0 hb r hsp=>?_⟩
 have hl:=len _ _ _ _ hsp
 have KX:K.In s.heap:=e0.mod.kin.keeps λb o e=>(e0.bs b o e).1
 have lim:s.heap.NoLimit:=e0.mod.nolimit.keeps λb o e=>(e0.bs b o e).1
 have hkind:∀y∈ps.zip us,scope.names.lookup y.1=some .local\/(scope.names.lookup y.1=some .cell/\((cellsFrom (s.heap.objs.size+1) scope.names []).lookup y.1).isSome=true):=λ⟨n,v⟩ hy=>by rcases S.par n (List.of_mem_zip hy).1 with q|q;exact .inl q;exact .inr ⟨q,PySem.W.cellsFrom_some _ _ _ (.inl q)⟩
 refine codeAny_call_function hr.depth (KX _ _ lk) rfl S.co S.gen rfl (PySem.W.codeRec_of KX hcd) (hb _ _ _ _ ?_)
 refine wpAny_newFunctionEnv_cells S.kind hkind λenv he s1 x=>?_
 subst he
 refine⟨lim.keeps x.toInCall.keep,codeAny_func ?_⟩
 obtain⟨t,ht,hq⟩:=hbody A outer s H vs Q E (hr.deeper _) hsp
 have I:Inv (QkC CX P w K mg base N qual scope f cdv A outer s H E) [] (start N vs) H s1:=QkL S hr.hd e0 hl r x
 refine ZA (ht [] s1 (start N vs) H _ I hq) (λfl s' hs=>?_) λe s' hs=>hs
 have fin:∀{σ':St}{H':Hp}{v:V}{u:Value},Inv (QkC CX P w K mg base N qual scope f cdv A outer s H E) [] σ' H' s'->RelV v u->Q v H'->CE outer P w H s Q u s' :=
  λ{σ' H' v u} J rv q=>⟨v,H',J.os,J.bare,J.base,J.hok,rv,q⟩
 cases fl with
 |ret u =>
  obtain⟨v,σ',H',J,rv,q⟩:=hs
  exact fin J rv q
 |next =>
  obtain⟨σ',H',J,q⟩:=hs
  exact fin (v:=V.non) (u:=Value.none) J rfl q
 |brk =>
  obtain⟨_,_,_,q⟩:=hs
  exact False.elim q
 |cont =>
  obtain⟨_,_,_,q⟩:=hs
  exact False.elim q
section
variable {X:Cx}{x:Str}{p pos:Pos}{e:Expr}{es:List Expr}{t:TA}{id T:String}{r:List V->Hp->VK->Prop}
def tCB(r:List V->Hp->VK->Prop)(t:TA):TE:=λσ H Q=>t σ H λvs H1=>r vs H1 Q
theorem Qbk(hc:Qba X (.builtin id) r)(hg:Gl X x)(hm:X.mg x=none)(hv:bootBuiltins x=some (.builtin id))(ha:PA X (e::es) t)(hn:x≠"__name__":=by decide)(hdb:(x==("__debug__":Str))=false:=by decide)
  (he:starEach (e::es) X.env=(false,eval e X.env)::starEach es X.env:=by rfl) (hpl:(backTo pos (starEach es X.env)).any (·.1)=false:=by rfl):PE X (.Call (.Name x p) (e::es) [] pos) (tCB r t):=by
 intro pins s σ H Q I h
 refine Z6 (Qdv I hg hm hv ?_ hn hdb)
 exact PyProof.Rows.callWith_builtin1 (thn (ha pos pins s σ H _ I h) λus s1 ⟨vs,H1,I1,r1,q1⟩=>hc pins s1 σ H1 vs us Q I1 r1 q1) he hpl
theorem QaK(hc:Qba X (.type T) r)(hg:Gl X x)(hm:X.mg x=none)(hv:bootBuiltins x=some (.type T))(ha:PA X (e::es) t)(hn:x≠"__name__":=by decide)(hdb:(x==("__debug__":Str))=false:=by decide)
  (he:starEach (e::es) X.env=(false,eval e X.env)::starEach es X.env:=by rfl) (hpl:(backTo pos (starEach es X.env)).any (·.1)=false:=by rfl):PE X (.Call (.Name x p) (e::es) [] pos) (tCB r t):=by
 intro pins s σ H Q I h
 refine Z6 (Qdv I hg hm hv ?_ hn hdb)
 exact Z2 (thn (ha pos pins s σ H _ I h) λus s1 ⟨vs,H1,I1,r1,q1⟩=>hc pins s1 σ H1 vs us Q I1 r1 q1) he hpl
end
end L2
namespace HT
open PySem PyProof.Rows
noncomputable def lexLt:List Int->List Int->Bool
 |[],[]=>false
 |[],_::_=>true
 |_::_,[]=>false
 |x::xs,y::ys=>if x=y then lexLt xs ys else decide (x<y)
section
open PySem.SeqAt
open PySem.AutoSeq1 (wpAny_loadPart')
open PySem.MeetsSeq PySem.MeetsSeq2 PySem.MeetsSeq3
end
section
variable {prog:Program}{w:World}{A:Around}{E:Value->Shared->Prop}{s:Shared}
theorem cat_tup(ht:IsTup s.heap t vs.toArray)(hb:IsTup s.heap b ws.toArray)(hv:vs≠[])
  (h1:ws=[]->Q (.ref t) s) (h2:ws≠[]->Q (.ref s.heap.objs.size) { s with heap:=s.heap.push { cls:=.type "tuple",data:=.seq (vs++ws).toArray } })
  (hsz:vs.length+ws.length<=sizeLine):wpAny (model prog w) A (binaryOp .Add (.ref t) (.ref b)) Q E s:=by
 obtain⟨⟨cls,dd,data,sl⟩,ho,hc,n,hd⟩:=id ht
 obtain⟨⟨cls2,dd2,data2,sl2⟩,ho2,hc2,n2,hd2⟩:=id hb
 simp only at hc hd hc2 hd2
 subst hc hd hc2 hd2
 have e:vs.toArray++ws.toArray=(vs++ws).toArray:=ZzS
 by_cases hw:ws=[]
 ·exact concat_meets ⟨_,ho,rfl⟩ ⟨_,ho2,rfl⟩ noFill_tuple_add seq_tuple_add zz7 zz4 (zzV _ _)
   (tuple_addW1 t b vs.toArray ws.toArray n n2 dd dd2 sl sl2 (by simpa using hv) (by simp[hw])) ⟨ho,ho2,h1 hw⟩
 ·refine concat_meets ⟨_,ho,rfl⟩ ⟨_,ho2,rfl⟩ noFill_tuple_add seq_tuple_add zz7 zz4 (zzV _ _)
   (tuple_addW2 t b vs.toArray ws.toArray n n2 dd dd2 sl sl2 (by simpa using hv) (by simpa using hw) (by rw[Zh,Zh];exact hsz)) ⟨ho,ho2,?_⟩
  rw[e]
  exact h2 hw
noncomputable def sIx(n d:Nat):Option Int->Nat
 |none=>d
 |some v=>if v<0 then(v+(n:Int)).toNat else min v.toNat n
theorem sIx_none(n d):sIx n d none=d:=rfl
theorem sIx_nat(n d k:Nat):sIx n d (some (k))=min k n:=rfl
theorem sIx_le(n d)(hd:d<=n)(o):sIx n d o<=n:=by
 cases o with
 |none=>exact hd
 |some v =>
  show(if v<0 then(v+(n)).toNat else min v.toNat n)<=n
  grind
theorem Qlk(v)(n d:Nat):(if v<0 then max (v+(n:Int)) 0 else min v (n:Int))=((sIx n d (some v):Nat):Int):=by
 show(if v<0 then max (v+(n)) 0 else min v (n))=(((if v<0 then(v+(n)).toNat else min v.toNat n)))
 grind
theorem QiP(lo hi)(n:Nat):Builtin.Slice.sliceAdjust lo hi 1 (n:Int)=(((sIx n 0 lo:Nat):Int),((sIx n n hi:Nat):Int)):=by
 refine Prod.ext ?_ ?_;cases lo with
 |none=>rfl
 |some v=>exact Qlk v n 0
 cases hi with
 |none=>rfl
 |some v=>exact Qlk v n n
theorem QiH(i j:Nat):Builtin.Slice.slicePlaces (i) (j) 1=j-i:=by
 unfold Builtin.Slice.slicePlaces
 grind
theorem QeE(p:IsPart v o)(h:Q o s):wpAny (model prog w) A (Builtin.Slice.slicePartIndex v) Q E s:=by
 cases p with
 |none=>exact slicePart_none h
 |int i t=>exact slicePart_int h
theorem Qd0{lo hi:Option Int}{Q:Int×Int×Nat->Shared->Prop}(hs:s.heap.IsSliceOf sl vl vu .none)(pl:IsPart vl lo)(pu:IsPart vu hi)
  (h:Q (((sIx n 0 lo:Nat):Int),1,sIx n n hi-sIx n 0 lo) s):wpAny (model prog w) A (Builtin.Slice.sliceApplied (.ref sl) (pure (n:Int))) Q E s:=by
 obtain⟨os,hos,hcs,hds⟩:=id hs
 refine zd (zd (Zn hos hds (x:=vl) rfl (zd (Zn hos hds (x:=vu) rfl (zd (Zn hos hds  rfl (zH ?_)))))))
 refine zd (slicePart_none ?_)
 refine zd (QeE pl (zd (QeE pu (zd (zH ?_)))))
 show wpAny _ _ (match Builtin.Slice.sliceAdjust lo hi 1 (n:Int) with|(lo,hi)=>pure (lo,(1:Int),Builtin.Slice.slicePlaces lo hi 1)) _ _ s
 rw[QiP lo hi n]
 show wpAny _ _ (pure (((sIx n 0 lo:Nat):Int),(1:Int),Builtin.Slice.slicePlaces ((sIx n 0 lo:Nat):Int) ((sIx n n hi:Nat):Int) 1)) _ _ s
 rw[QiH]
 exact zH h
theorem Qnb(xs:Array Value)(i k:Nat):((List.range k).filterMap λ(m:Nat)=>xs[((i:Int)+(m:Int)*1).toNat]?).toArray=((xs.toList.drop i).take k).toArray:=by
 have e:(λ(m:Nat)=>xs[((i:Int)+(m:Int)*1).toNat]?)=λm=>xs[i+m]?:=by funext m;have:((i:Int)+(m:Int)*1).toNat=i+m:=ZzL;rw[this]
 rw[e];have:=pick_run xs i k;rw[List.filterMap_map]at this;have e2:((λx=>xs[x]?) ∘ λx=>i+x)=λm=>xs[i+m]?:=rfl;rw[e2]at this;rw[this]
theorem getItem_tuple_cut{t sl:Addr}{lo hi:Option Int}(ht:IsTup s.heap t items)(hs:s.heap.IsSliceOf sl vl vu .none)(pl:IsPart vl lo)(pu:IsPart vu hi)
  (hw:¬ (sIx items.size 0 lo=0/\sIx items.size items.size hi=items.size))
  (h:Q (.ref s.heap.objs.size) { s with heap:=s.heap.push { cls:=.type "tuple",data:=.seq ((items.toList.drop (sIx items.size 0 lo)).take (sIx items.size items.size hi-sIx items.size 0 lo)).toArray } })
  (hsz:items.size<=sizeLine):wpAny (model prog w) A (getItem (.ref t) (.ref sl)) Q E s:=by
 have htake:sizeOk (.seq ((items.toList.drop (sIx items.size 0 lo)).take (sIx items.size items.size hi-sIx items.size 0 lo)).toArray):=by
  show((items.toList.drop (sIx items.size 0 lo)).take (sIx items.size items.size hi-sIx items.size 0 lo)).toArray.size<=sizeLine
  rw[Zh,Zk,List.length_drop,Array.length_toList]
  lia
 have hj:sIx items.size items.size hi<=items.size:=sIx_le _ _ (zD _) hi
 obtain⟨os,hos,hcs,hds⟩:=id hs
 have hTs:s.TypeIs (.ref sl) "slice":=⟨os,hos,hcs⟩
 unfold getItem
 try with_reducible refine Zu ?_
 first|refine zd (zH ?_)|skip
 refine zd (wpAny_sequenceKey ht.typeIs ZzD ?_)
 refine zd (Zz (name:=Str.ofString "__getitem__") ht.typeIs zzr
  (ZS zzr ht.typeIs entry_tuple_getitem ?_ (args_tuple_getitem _ _)))
 show wpAny _ _ (Builtin.Tuple.tupleItemsOf (.ref t) >>= _) _ _ s
 refine zd (tupleItemsOf_ ht ?_)
 refine zd (wpAny_typeOf hTs ?_)
 rw[zF ZzD]
 refine zd (Qd0 hs pl pu ?_)
 have hno:¬ ((((sIx items.size 0 lo:Nat):Int)==0&&(1:Int)==1&&(sIx items.size items.size hi-sIx items.size 0 lo)==items.size)=true):=by grind
 show wpAny _ _ (if(((sIx items.size 0 lo:Nat):Int)==0&&(1:Int)==1&&(sIx items.size items.size hi-sIx items.size 0 lo)==items.size)=true then _ else _) _ _ s
 rw[zM hno,Qnb]
 first
  |exact zd (m:=Builtin.Tuple.tupleExact _) (zzj (zH ⟨_,rfl,zH h⟩) htake)
  |rfl
  |rfl
  |exact zd (zd (m:=Builtin.Tuple.tupleExact _) (zzj (zH ⟨_,rfl,zH h⟩) htake))
end
end HT
namespace L2
open PySem PySem.Spec PyProof.Rows
abbrev TO:=St->Hp->(Option Int->Hp->Prop)->Prop
def PO(X:Cx)(e:Option Expr)(t:TO):Prop :=
 ∀(pins:List (Addr×Obj)) (s:Shared) (σ:St) (H:Hp) (Q:Option Int->Hp->Prop),Inv X pins σ H s->t σ H Q ->
  wpAny (model X.prog X.w) X.A (evalPart e X.env) (λu s'=>∃o H',Inv X pins σ H' s'/\IsPart u o/\Q o H') X.xe s
def QoF:TO:=λ_ H Q=>Q none H
def tPart(t:TE):TO:=λσ H Q=>t σ H λx H1=>∃i,x=.int i/\Q (some i) H1
section
variable {X:Cx}{e:Expr}{te:TE}{lo hi:Option Expr}{tl th:TO}{pos p2:Pos}
theorem po_none:PO X none QoF:=by intro pins s σ H Q I h;exact zH ⟨none,H,I,.none,h⟩
theorem Qpw(h:PE X e te):PO X (some e) (tPart te):=by intro pins s σ H Q I hw;refine thn (h pins s σ H _ I hw) λu s1 zq=>?_;obtain⟨x,H1,I1,r1,q1⟩:=zq;obtain⟨i,rfl,q⟩:=q1;obtain⟨t,rfl⟩:=r1;exact⟨some i,H1,I1,.int i t,q⟩
def SlR(X:Cx)(r:V->Option Int->Option Int->Hp->VK->Prop):Prop :=
 ∀(pins:List (Addr×Obj)) (s:Shared) (σ:St) (H:Hp) (x:V) (v vl vu:Value) (lo hi:Option Int) (sl:Addr) (Q:VK),Inv X pins σ H s->RelV x v->s.heap.IsSliceOf sl vl vu .none->IsPart vl lo->IsPart vu hi->r x lo hi H Q ->
  ∃T id,typeLookup (.type T) "__getitem__"=pure (some (.builtin id))/\s.TypeIs v T/\wpAny (model X.prog X.w) X.A (getItem v (.ref sl)) (EP X pins σ Q) X.xe s
def tSl(r:V->Option Int->Option Int->Hp->VK->Prop)(te:TE)(tl th:TO):TE:=λσ H Q=>te σ H λx H1=>tl σ H1 λl H2=>th σ H2 λu H3=>r x l u H3 Q
theorem Qnh(hr:SlR X r)(he:PE X e te)(hl:PO X lo tl)(hu:PO X hi th):PE X (.Subscript e (.Slice lo hi none p2) pos) (tSl r te tl th):=by intro pins s σ H Q I h;refine Subscript_ (thn (he pins s σ H _ I h) λv s1 zq=>?_);obtain⟨x,H1,I1,r1,q1⟩:=zq;refine wpAny_Slice (thn (hl pins s1 σ H1 _ I1 q1) λvl s2 ⟨l,H2,I2,pl,q2⟩=>thn (hu pins s2 σ H2 _ I2 q2) λvu s3 zq=>?_);obtain⟨u,H3,I3,pu,q3⟩:=zq;rw[evalPart_none];refine zH ?_;have I4:Inv X pins σ H3 { s3 with heap:=s3.heap.push { cls:=.type "slice",data:=.fields #[vl,vu,.none] } }:=I3.kept (t':=s3.toks) λb ob q=>hps0 _ q;obtain⟨T,id,hT,ht,hg⟩:=hr pins { s3 with heap:=s3.heap.push { cls:=.type "slice",data:=.fields #[vl,vu,.none] } } σ H3 x v vl vu l u s3.heap.objs.size Q I4 r1 (Heap.IsSliceOf.new ..) pl pu q3;show wpAny (model X.prog X.w) X.A (subscriptTail e (.Slice lo hi none p2) v (.ref s3.heap.objs.size)) (EP X pins σ Q) X.xe { s3 with heap:=s3.heap.push { cls:=.type "slice",data:=.fields #[vl,vu,.none] } };exact tail_any (ops:=[.ref s3.heap.objs.size,v]) ht hT hg (by with_unfolding_all rfl)
noncomputable def cutV(xs:List V)(lo hi:Option Int):List V:=(xs.drop (HT.sIx xs.length 0 lo)).take (HT.sIx xs.length xs.length hi-HT.sIx xs.length 0 lo)
theorem Qel(xs)(lo hi):(cutV xs lo hi).length<=xs.length:=by
 unfold cutV
 rw[Zk,List.length_drop]
 lia
def rSlT(K:Fg0):V->Option Int->Option Int->Hp->VK->Prop:=λx lo hi H Q=>∃a xs,x=.ref a/\SqT K H a xs /\
 ¬ (HT.sIx xs.length 0 lo=0/\HT.sIx xs.length xs.length hi=xs.length)/\∀p,H p=none->Q (.ref p) (upd H p (.tup (cutV xs lo hi)))
theorem sl_tup:SlR X (rSlT X.K):=by
 intro pins s σ H x v vl vu lo hi sl Q I rx hs pl pu h;obtain⟨a,xs,rfl,hx,hw,q⟩:=h;cases rx;obtain⟨its,r,ht,hz⟩:=I.tuple hx;have hlen:its.toArray.size=xs.length:=by exact r.length.symm
 refine⟨"tuple",_,zzr.lookup,ht.typeIs,?_⟩;refine HT.getItem_tuple_cut ht hs pl pu (by rw[hlen];exact hw) ?_ (by simp_all);rw[hlen];refine⟨.ref s.heap.objs.size,_,I.laid   (λb ob q=>hps0 _ q) (zD _) ?_,rfl,q _ (I.hok.fresh (zD _))⟩;exact⟨zf (Qel xs lo hi) hz,_,(r.drop (HT.sIx xs.length 0 lo)).take (HT.sIx xs.length xs.length hi-HT.sIx xs.length 0 lo),IsTup.new _ _⟩
def rCatT(K:Fg0):R2:=λx y H Q=>∃a b xs ys,x=.ref a/\y=.ref b/\SqT K H a xs/\SqT K H b ys/\xs≠[]/\xs.length+ys.length<=sizeLine /\
 (ys=[]->Q (.ref a) H)/\(ys≠[]->∀p,H p=none->Q (.ref p) (upd H p (.tup (xs++ys))))
theorem Vals.nil_iff(r:Vals xs us):us=[]↔xs=[]:=by
 cases r with
 |nil=>simp
 |cons _ _=>simp
theorem QoY:OpR X (binaryOp .Add) (rCatT X.K):=by intro pins s σ H x y v u Q I rx ry h;obtain⟨a,b,xs,ys,rfl,rfl,ha,hb,hx,hz,q1,q2⟩:=h;cases rx;cases ry;obtain⟨its,r1,p1,_⟩:=I.tuple ha;obtain⟨its2,r2,p2,_⟩:=I.tuple hb;refine HT.cat_tup p1 p2 (λz=>hx (r1.nil_iff.mp z)) (λz=>⟨.ref a,H,I,rfl,q1 (r2.nil_iff.mp z)⟩) (λz=>(⟨.ref s.heap.objs.size,_,I.laid   (λb ob q=>hps0 _ q) (zD _) ?_,rfl,q2 (λw=>z (r2.nil_iff.mpr w)) _ (I.hok.fresh (zD _))⟩)) (by rw[<- r1.length,<- r2.length];exact hz);exact⟨by simp_all,_,r1.append r2,IsTup.new _ _⟩
end
noncomputable def ixN(n:Nat)(i:Int):Option Nat:=if 0<=i then(if i<n then some i.toNat else none) else if -(n:Int)<=i then some (i+n).toNat else none
noncomputable def atI{α:Type}(xs:List α)(i:Int):Option α:=(ixN xs.length i).bind λj=>xs[j]?
theorem QjL(h:ixN n i=some j):seqIndex? i n=some j/\j<n/\-(n:Int)<=i/\i<n:=by unfold ixN at h;by_cases h0:0<=i;rw[zF h0]at h;by_cases h1:i<n;rw[zF h1]at h;have e:i.toNat=j:=zW h;exact⟨by rw[seqIndex_of h0 h1,e],ZzL,ZzL,h1⟩;simp_all;rw[zM h0]at h;by_cases h1:-(n:Int)<=i;rw[zF h1]at h;have e:(i+n).toNat=j:=zW h;exact⟨by rw[seqIndex_neg ZzL h1,e],ZzL,h1,ZzL⟩;rw[zM h1]at h;cases h
theorem Qhi{α:Type}{xs:List α}{i:Int}{v:α}(h:atI xs i=some v):∃j,seqIndex? i xs.length=some j/\xs[j]?=some v/\j<xs.length/\-(xs.length)<=i/\i<xs.length:=by
 unfold atI at h;cases e:ixN xs.length i with
 |none=>simp_all
 |some j=>obtain⟨h1,h2,h3,h4⟩:=QjL e;simp_all
theorem Qfl{α:Type}{xs:List α}{j:Nat}{v:α}(h:xs[j]?=some v):atI xs (j)=some v:=by
 have hj :=(ze.mp h).1;have e:ixN xs.length (j)=some j:=by unfold ixN;simp_all
 unfold atI;simp_all
theorem Qcf(xs)(v:α):atI (xs++[v]) (-1)=some v:=by
 have e:ixN (xs++[v]).length (-1)=some xs.length:=by
  unfold ixN
  grind
 unfold atI
 grind
def QkO(b:Expr):Prop:=∀o i,subscripted b false o i=operate [o,i] (getItem o i)
def IxR(X:Cx)(r:R2):Prop :=
 ∀(value slice:Expr) (pins:List (Addr×Obj)) (s:Shared) (σ:St) (H:Hp) (x y:V) (v u:Value) (Q:VK),Inv X pins σ H s->RelV x v->RelV y u->r x y H Q ->
  subscripted slice false v u=operate [v,u] (getItem v u)->wpAny (model X.prog X.w) X.A (subscriptTail value slice v u) (EP X pins σ Q) X.xe s
def MtR(X:Cx)(id:String)(r:V->List V->Hp->VK->Prop):Prop :=
 ∀(pins:List (Addr×Obj)) (s:Shared) (σ:St) (H:Hp) (x:V) (xs:List V) (v:Value) (us:List Value) (Q:VK),Inv X pins σ H s->RelV x v->Vals xs us->r x xs H Q ->
  wpAny (model X.prog X.w) X.A (call (.builtin id) (v::us)) (EP X pins σ Q) X.xe s
section
variable {X:Cx}{a b:Expr}{ta tb:TE}{pos:Pos}
theorem pe_ix(hr:IxR X r)(ha:PE X a ta)(hb:PE X b tb)(hs:QkO b):PE X (.Subscript a b pos) (tOp r ta tb):=by intro pins s σ H Q I h;exact Subscript_ (binT ha hb I h λv u s2 x y H2 I2 rx ry q=>hr a b pins s2 σ H2 x y v u Q I2 rx ry q (hs _ _))
def rIxL(K:Fg0):R2:=λx y H Q=>∃p xs i v,x=.ref p/\y=.int i/\SqL K H p xs/\atI xs i=some v/\Q v H
def rIxT(K:Fg0):R2:=λx y H Q=>∃p xs i v,x=.ref p/\y=.int i/\SqT K H p xs/\atI xs i=some v/\Q v H
def rIxS:R2:=λx y H Q=>∃z i c,x=.str z/\y=.int i/\z.length<=sizeLine/\atI z.cps.toList i=some c/\Q (.str ⟨#[c]⟩) H
theorem QpO:IxR X (rIxL X.K):=by
 intro value slice pins s σ H x y v u Q I rx ry h hs;obtain⟨p,xs,i,z,rfl,rfl,hq,he,q⟩:=h;cases rx;obtain⟨t,rfl⟩:=ry;obtain⟨its,r,pl,hz⟩:=I.list hq;obtain⟨j,h1,h2,h3,h4,h5⟩:=Qhi he;obtain⟨w,ew,rw'⟩:=r.get h2;have hl:=r.length;have hn:=Qe4;have fin:EP X pins σ Q w s:=⟨z,H,I,rw',q⟩;by_cases h0:0<=i;have hj:i.toNat=j:=by rw[seqIndex_of h0 h5]at h1;exact zW h1
 exact item_listR pl.isList h0 ZzL (by rw[hj];simpa using ew) fin hs;have hj:(i+(its.toArray.size:Int)).toNat=j:=by rw[seqIndex_neg ZzL h4]at h1;simp_all
 exact subscriptTail_builtinR (x:=w) pl.isList.typeIs slot_list_getitem.lookup
  (wpAny_getItem_list_neg (Q:=λr s'=>r=w/\EP X pins σ Q r s') pl.isList ZzL (by rw[Zh]<;>lia) ZzL (by rw[hj];simpa using ew) ⟨rfl,fin⟩) hs
theorem ix_tup:IxR X (rIxT X.K):=by
 intro value slice pins s σ H x y v u Q I rx ry h hs;obtain⟨p,xs,i,z,rfl,rfl,hq,he,q⟩:=h;cases rx;obtain⟨t,rfl⟩:=ry;obtain⟨its,r,pl,hz⟩:=I.tuple hq;obtain⟨j,h1,h2,h3,h4,h5⟩:=Qhi he;obtain⟨w,ew,rw'⟩:=r.get h2;have hl:=r.length;have hn:=Qe4;have fin:EP X pins σ Q w s:=⟨z,H,I,rw',q⟩
 exact subscriptTail_builtinR  pl.typeIs slot_tuple_getitem.lookup
  (getItem_tuple (j:=j)  pl ZzL ZzL (by simp_all) (by simpa using ew) ⟨rfl,fin⟩) hs
theorem ix_str:IxR X rIxS:=by intro value slice pins s σ H x y v u Q I rx ry h hs;obtain⟨z,i,c,rfl,rfl,hz,he,q⟩:=h;obtain⟨t,rfl⟩:=rx;obtain⟨t',rfl⟩:=ry;obtain⟨j,h1,h2,h3,h4,h5⟩:=Qhi he;have hl:z.cps.toList.length=z.length:=rfl;have hn:=Qe4;exact tail_any (typeIs_str s z t) slot_str_getitem.lookup (getItem_str  (by grind) (by simp_all) ⟨.str ⟨#[c]⟩,H,I.tok _,⟨_,rfl⟩,q⟩) hs
theorem QiR(its:List Value)(n j)(u):Obj.mapSeq (·.setIfInBounds j u) { cls:=.type "list",data:=.seq its.toArray n }={ cls:=.type "list",data:=.seq (its.set j u).toArray n }:=by simp[Obj.mapSeq]
theorem Inv.lst{pins:List (Addr×Obj)}{σ:St}{H:Hp}{s:Shared}{p:Addr}{xs:List V}(I:Inv X pins σ H s)(h:H p=some (.lst xs)) :
  ∃(its:List Value) (n:Nat),Vals xs its/\s.heap.get? p=some { cls:=.type "list",data:=.seq its.toArray n }/\xs.length<=sizeLine:=by
 obtain⟨z,its,n,r,e⟩:=I.hok p _ h
 simp_all
theorem Inv.lstUpd{pins:List (Addr×Obj)}{σ:St}{H:Hp}{s:Shared}{p:Addr}{xs ys:List V}{its its':List Value}{n n':Nat}{f:Obj->Obj}(I:Inv X pins σ H s)(h:H p=some (.lst xs))
  (ho:s.heap.get? p=some { cls:=.type "list",data:=.seq its.toArray n }) (hf:f { cls:=.type "list",data:=.seq its.toArray n }={ cls:=.type "list",data:=.seq its'.toArray n' }) (r:Vals ys its') (hz:ys.length<=sizeLine) (t:Nat) :
  Inv X pins σ (upd H p (.lst ys)) { s with heap:=s.heap.update p f,toks:=t }:=by
 have e:(s.heap.update p f).get? p=some { cls:=.type "list",data:=.seq its'.toArray n' }:=by rw[Heap.get?_update_self f ho (by rw[hf]<;>rfl),hf]
 refine I.write (x:=p) (e:=p) (by rw[h];trivial) (.inl rfl) (λb u hb q=>(Heap.get?_update_other _ _ (zzi hb)).trans q) ⟨_,e⟩ ?_
 exact⟨hz,its',n',r,e⟩
def rSetL:V->V->V->Hp->(Hp->Prop)->Prop:=λo i v H Q=>∃p xs k j,o=.ref p/\i=.int k/\H p=some (.lst xs)/\ixN xs.length k=some j/\Q (upd H p (.lst (xs.set j v)))
theorem QlY:PSet X rSetL:=by
 intro pins s σ H o i v ov iv u Q I ro ri rv h
 obtain⟨p,xs,k,j,rfl,rfl,hp,hj,q⟩:=h
 cases ro
 obtain⟨t,rfl⟩:=ri
 obtain⟨its,n,r,ho,hz⟩:=I.lst hp
 obtain⟨h1,h2,h3,h4⟩:=QjL hj
 have hl:=r.length
 have hn:=Qe4
 have I'  :=
  I.lstUpd hp ho (QiR its n j u) (r.set rv j) (by rw[List.length_set];exact hz) s.toks
 by_cases h0:0<=k
 ·have hk:k.toNat=j:=by
   rw[seqIndex_of h0 h4]at h1
   exact zW h1
  exact PySem.W.ki_setAt ho h0 ZzL (by rw[Zh,<- hl];exact h4) (by rw[hk];exact⟨_,I',q⟩)
 ·have hk:(k+(its.toArray.size:Int)).toNat=j:=by
   rw[seqIndex_neg ZzL h3]at h1
   grind
  exact PySem.W.ki_setBack ho ZzL (by rw[Zh,<- hl];exact h3) ZzL (by rw[hk];exact⟨_,I',q⟩)
theorem QfH(lo hi)(n):(sliceBounds lo hi none n).1=((HT.sIx n 0 lo:Nat):Int)/\(sliceBounds lo hi none n).2.1=((HT.sIx n n hi:Nat):Int)/\(sliceBounds lo hi none n).2.2=1:=by
 refine⟨?_,?_,rfl⟩;cases lo with
 |none=>simp[sliceBounds,HT.sIx]
 |some i=>simp only[sliceBounds,HT.sIx,Option.getD_none,show(1:Int)>0 by decide,if_true];by_cases h:i<0;simp only[h,if_true]<;>lia;simp only[h,if_false]<;>lia
 cases hi with
 |none=>simp[sliceBounds,HT.sIx]
 |some i=>simp only[sliceBounds,HT.sIx,Option.getD_none,show(1:Int)>0 by decide,if_true];by_cases h:i<0;simp only[h,if_true]<;>lia;simp only[h,if_false]<;>lia
theorem QeQ(its:List Value)(lo hi):slicePick its.toArray lo hi none=((its.drop (HT.sIx its.length 0 lo)).take (HT.sIx its.length its.length hi-HT.sIx its.length 0 lo)).toArray:=by obtain⟨h1,h2,h3⟩:=QfH lo hi its.toArray.size;unfold slicePick;rw[h1,h2,h3];simp only[sliceRange_one,pick_run,Zh]<;>rfl
def rSlL(K:Fg0):V->Option Int->Option Int->Hp->VK->Prop:=λx lo hi H Q=>∃a xs,x=.ref a/\SqL K H a xs/\∀p,H p=none->Q (.ref p) (upd H p (.lst (cutV xs lo hi)))
theorem Qpz:SlR X (rSlL X.K):=by intro pins s σ H x v vl vu lo hi sl Q I rx hs pl pu h;obtain⟨a,xs,rfl,hx,q⟩:=h;cases rx;obtain⟨its,r,ht,hz⟩:=I.list hx;have hlen:=r.length;refine⟨"list",_,slot_list_getitem.lookup,ht.isList.typeIs,(wpAny_getItem_list_slice ht.isList hs pl pu .none ZzS ?_ (by grind))⟩;rw[QeQ,<- hlen];refine⟨.ref s.heap.objs.size,_,I.laid   (λb ob q=>hps0 _ q) (zD _) ?_,rfl,q _ (I.hok.fresh (zD _))⟩;exact⟨zf (Qel xs lo hi) hz,_,0,(r.drop (HT.sIx xs.length 0 lo)).take (HT.sIx xs.length xs.length hi-HT.sIx xs.length 0 lo),zG _ rfl⟩
noncomputable def Qe0:V->Bool
 |.non=>true
 |.bl _=>true
 |.int _=>true
 |.str _=>true
 |_=>false
noncomputable def eqV:V->V->Bool
 |.non,.non=>true
 |.bl a,.bl b=>a==b
 |.bl a,.int b=>(if a then 1 else 0)==b
 |.int a,.bl b=>a==(if b then 1 else 0)
 |.int a,.int b=>a==b
 |.str a,.str b=>a==b
 |_,_=>false
theorem eqAt_V(ry:RelV y u)(rx:RelV x v)(fy:Qe0 y=true)(fx:Qe0 x=true):SeqAt.EqAt A s u v (eqV y x):=by
 cases y with
 |non=>
  cases ry;cases x with
  |non=>cases rx;exact SeqAt.EqAt.same _
  |bl b=>cases rx;exact SeqAt.EqAt.none_bool b
  |int b=>obtain⟨t,rfl⟩:=rx;exact SeqAt.EqAt.none_int b t
  |str b=>obtain⟨t,rfl⟩:=rx;exact SeqAt.EqAt.none_str b t
  |_=>exact absurd (show false=true from fx) zR
 |bl a=>
  cases ry;cases x with
  |non=>cases rx;exact SeqAt.EqAt.bool_none a
  |bl b=>cases rx;exact SeqAt.EqAt.bool_bool a b
  |int b=>obtain⟨t,rfl⟩:=rx;exact SeqAt.EqAt.bool_int a b t
  |str b=>obtain⟨t,rfl⟩:=rx;exact SeqAt.EqAt.bool_str a b t
  |_=>exact absurd (show false=true from fx) zR
 |int a=>
  obtain⟨t',rfl⟩:=ry;cases x with
  |non=>cases rx;exact SeqAt.EqAt.int_none a t'
  |bl b=>cases rx;exact SeqAt.EqAt.int_bool a t' b
  |int b=>obtain⟨t,rfl⟩:=rx;exact SeqAt.EqAt.int_int a t' b t
  |str b=>obtain⟨t,rfl⟩:=rx;exact SeqAt.EqAt.int_str a t' b t
  |_=>exact absurd (show false=true from fx) zR
 |str a=>
  obtain⟨t',rfl⟩:=ry;cases x with
  |non=>cases rx;exact SeqAt.EqAt.str_none a t'
  |bl b=>cases rx;exact SeqAt.EqAt.str_bool a t' b
  |int b=>obtain⟨t,rfl⟩:=rx;exact SeqAt.EqAt.str_int a t' b t
  |str b=>obtain⟨t,rfl⟩:=rx;exact SeqAt.EqAt.str_str a t' b t
  |_=>exact absurd (show false=true from fx) zR
 |_=>exact absurd (show false=true from fy) zR
noncomputable def eqU(x:V)(u:Value):Bool:=match u with
 |.none=>eqV .non x
 |.bool b=>eqV (.bl b) x
 |.int i _=>eqV (.int i) x
 |.str z _=>eqV (.str z) x
 |_=>false
theorem QnX(r:RelV y u)(f:Qe0 y=true):eqU x u=eqV y x:=by
 cases y with
 |non=>cases r;rfl
 |bl b=>cases r;rfl
 |int i=>obtain⟨t,rfl⟩:=r;rfl
 |str z=>obtain⟨t,rfl⟩:=r;rfl
 |_=>exact absurd (f) zR
theorem Qek:∀{xs:List V}{us:List Value},Vals xs us->xs.all Qe0=true->us.any (eqU x)=xs.any λy=>eqV y x
 |_,_,.nil,_=>rfl
 |y::xs,u::us,.cons r t,f=>by rw[ZB,zE]at f;rw[zzp,zzp,QnX r f.1,Qek t f.2]
theorem QcE(rx:RelV x v)(fx:Qe0 x=true):∀{xs:List V}{us:List Value},Vals xs us->xs.all Qe0=true->∀u∈us,SeqAt.EqAt A s u v (eqU x u)
 |_,_,.nil,_=>λu hu=>by grind
 |y::xs,u::us,.cons r t,f=>λu' hu=>by rw[ZB,zE]at f;rcases zS.mp hu with rfl|hu;rw[QnX r f.1];exact eqAt_V r rx f.1 fx;exact QcE rx fx t f.2 u' hu
noncomputable def inV(x:V)(xs:List V):Bool:=xs.any λy=>eqV y x
def rIn(K:Fg0)(neg:Bool):R2:=λx y H Q=>∃p xs,y=.ref p/\(SqL K H p xs\/SqT K H p xs)/\Qe0 x=true/\xs.all Qe0=true/\Q (.bl (if neg then !inV x xs else inV x xs)) H
theorem QkQ:OpR X (compareOp .In) (rIn X.K false):=by intro pins s σ H x y v u Q I rx ry h;obtain⟨p,xs,rfl,hq,fx,fs,q⟩:=h;cases ry;rcases hq with hq|hq;obtain⟨its,r,pl,hz⟩:=I.list hq;refine SeqAt.in_listAt (eqU x) pl.isList (λw hw=>QcE rx fx r fs w (by simp_all)) ⟨.bl _,H,I,rfl,?_⟩;rw[show its.toArray.any (eqU x)=its.any (eqU x) by simp,Qek r fs];exact q;obtain⟨its,r,pl,hz⟩:=I.tuple hq;refine SeqAt.in_tupleAt (eqU x) pl (λw hw=>QcE rx fx r fs w (by simpa using hw)) ⟨.bl _,H,I,rfl,?_⟩;rw[show its.toArray.any (eqU x)=its.any (eqU x) by simp,Qek r fs];exact q
theorem QfI:OpR X (compareOp .NotIn) (rIn X.K true):=by intro pins s σ H x y v u Q I rx ry h;obtain⟨p,xs,rfl,hq,fx,fs,q⟩:=h;cases ry;rcases hq with hq|hq;obtain⟨its,r,pl,hz⟩:=I.list hq;refine SeqAt.notIn_listAt (eqU x) pl.isList (λw hw=>QcE rx fx r fs w (by simp_all)) ⟨.bl _,H,I,rfl,?_⟩;rw[show its.toArray.any (eqU x)=its.any (eqU x) by simp,Qek r fs];exact q;obtain⟨its,r,pl,hz⟩:=I.tuple hq;refine SeqAt.notIn_tupleAt (eqU x) pl (λw hw=>QcE rx fx r fs w (by simpa using hw)) ⟨.bl _,H,I,rfl,?_⟩;rw[show its.toArray.any (eqU x)=its.any (eqU x) by simp,Qek r fs];exact q
theorem Qg0:Qba X (.builtin "len") (λxs H Q=>∃p ys,xs=[.ref p]/\(SqL X.K H p ys\/SqT X.K H p ys)/\Q (.int ys.length) H):=by intro pins s σ H xs us Q I r h;obtain⟨p,ys,rfl,hq,q⟩:=h;obtain⟨u,rfl,rx⟩:=QiL r;cases rx;have hn:=Qe4;rcases hq with hq|hq;obtain⟨its,r',pl,hz⟩:=I.list hq;have hlen:=r'.length;exact Calls.call_len_list pl.isList (by simp only[Zh]<;>lia) ⟨.int ys.length,H,I.tok _,⟨s.toks+1,by rw[Zh,hlen]⟩,q⟩;obtain⟨its,r',pl,hz⟩:=I.tuple hq;have hlen:=r'.length;exact len_tuple pl (by simp only[Zh]<;>lia) ⟨.int ys.length,H,I.tok _,⟨s.toks+1,by grind⟩,q⟩
theorem QfW:Qba X (.builtin "len") (λxs H Q=>∃z,xs=[.str z]/\z.length<=sizeLine/\Q (.int z.length) H):=by intro pins s σ H xs us Q I r h;obtain⟨z,rfl,hz,q⟩:=h;obtain⟨u,rfl,t,rfl⟩:=QiL r;have hn:=Qe4;exact len_str ZzL ⟨.int z.length,H,I.tok _,⟨_,rfl⟩,q⟩
theorem Qdx:Qba X (.type "list") (λxs H Q=>∃p ys,xs=[.ref p]/\(SqL X.K H p ys\/SqT X.K H p ys)/\∀l,H l=none->Q (.ref l) (upd H l (.lst ys))):=by
 intro pins s σ H xs us Q I r h;obtain⟨p,ys,rfl,hq,q⟩:=h;obtain⟨u,rfl,rx⟩:=QiL r;cases rx
 have fin:∀(its:List Value),Vals ys its->ys.length<=sizeLine->∀(h':Heap) (c':Nat),(∀b o',s.heap.get? b=some o'->h'.get? b=some o') ->
   h'.get? s.heap.objs.size=some { cls:=.type "list",dict:=none,data:=.seq its.toArray c',slots:=#[] }->EP X pins σ Q (.ref s.heap.objs.size) { s with heap:=h' }:=λits r' hz h' c' kp e =>
  ⟨.ref s.heap.objs.size,_,I.laid (t':=s.toks) kp (zD _) (show ObjOk X.prog X.w _ h' _ (.lst ys) from⟨hz,its,c',r',e⟩),rfl,q _ (I.hok.fresh (zD _))⟩
 rcases hq with hq|hq;obtain⟨its,r',pl,hz⟩:=I.list hq;have hlen:=r'.length;obtain⟨o,ho,hc,n,hd⟩:=pl.isList;exact call_list_seq p (.inl rfl) ho hc hd (λh' c' kp e=>fin its r' hz h' c' kp e) (by simp only[Zh]<;>lia);obtain⟨its,r',pl,hz⟩:=I.tuple hq;have hlen:=r'.length;obtain⟨o,ho,hc,n,hd⟩:=pl;exact call_list_seq p (.inr rfl) ho hc hd (λh' c' kp e=>fin its r' hz h' c' kp e) (by simp_all)
theorem QcY:Qba X (.type "tuple") (λxs H Q=>∃p ys,xs=[.ref p]/\((SqL X.K H p ys/\∀l,H l=none->Q (.ref l) (upd H l (.tup ys)))\/(SqT X.K H p ys/\Q (.ref p) H))):=by
 intro pins s σ H xs us Q I r h;obtain⟨p,ys,rfl,h⟩:=h;obtain⟨u,rfl,rx⟩:=QiL r;cases rx;rcases h with⟨hq,q⟩|⟨hq,q⟩;obtain⟨its,r',pl,hz⟩:=I.list hq;have hlen:=r'.length;refine call_tuple_list pl.isList (λh' kp=>?_) (by simp_all);have I1 :=I.kept (t':=s.toks) kp
 have I2  :=
  I1.laid (t':=s.toks) (λb o e=>hps0 _ e) (zD _) (show ObjOk X.prog X.w _ _ _ (.tup ys) from⟨hz,its,r',IsTup.new _ _⟩)
 exact⟨.ref h'.objs.size,_,I2,rfl,q _ (I1.hok.fresh (zD _))⟩;obtain⟨its,r',pl,hz⟩:=I.tuple hq;exact call_tuple_same pl ⟨.ref p,H,I,rfl,q⟩
def tyV(K:Fg0)(T:String)(x:V)(H:Hp):Prop:=match x with
 |.str _=>T="str"
 |.int _=>T="int"
 |.ref p=>(T="list"/\∃xs,SqL K H p xs)\/(T="tuple"/\∃o,K.lookup p=some o/\o.cls=.type "tuple"/\o.dict=none) \/
  (T="dict"/\((∃kvs,H p=some (.dK kvs))\/∃kvs,H p=some (.dT kvs)))\/(T="set"/\∃S n,H p=some (.set S n))
 |_=>False
theorem QnE{pins:List (Addr×Obj)}{σ:St}{H:Hp}{s:Shared}{T:String}{x:V}{v:Value}(I:Inv X pins σ H s)(r:RelV x v)(ty:tyV X.K T x H) :
  s.TypeIs v T/\∀a,v=.ref a->∃ob,s.heap.get? a=some ob/\ob.dict=none:=by
 cases x with
 |str z =>
  obtain⟨t,rfl⟩:=r
  cases (show T="str" from ty)
  exact⟨typeIs_str s z t,λ_ e=>nomatch e⟩
 |int i =>
  obtain⟨t,rfl⟩:=r
  cases (show T="int" from ty)
  exact⟨typeIs_int s i t,λ_ e=>nomatch e⟩
 |ref p =>
  cases r
  rcases ty with⟨rfl,xs,hq⟩|⟨rfl,o,hk,hc,hd⟩|⟨rfl,hk⟩|⟨rfl,S,n,hk⟩
  ·obtain⟨its,_,pl,_⟩:=I.list hq
   refine⟨pl.isList.typeIs,λa e=>?_⟩
   cases e
   obtain⟨o,n,e,c,hd,_⟩:=pl
   exact⟨o,e,hd⟩
  ·refine⟨⟨o,I.kIn p o hk,hc⟩,λa e=>?_⟩
   cases e
   exact⟨o,I.kIn _ o hk,hd⟩
  ·have z:∃o,s.heap.get? p=some o/\o.ExactDict:=by rcases hk with⟨kvs,hk⟩|⟨kvs,hk⟩;obtain⟨_,_,_,_,o,_,_,e,ex,_⟩:=I.hok p _ hk;exact⟨o,e,ex⟩;obtain⟨_,_,_,_,o,_,_,e,ex,_⟩:=I.hok p _ hk;exact⟨o,e,ex⟩
   obtain⟨o,e,ex⟩:=z
   refine⟨⟨o,e,ex.1⟩,λa e2=>?_⟩
   cases e2
   exact⟨o,e,ex.2.1⟩
  ·obtain⟨o,_,_,_,e,ex,_⟩:=I.hok p _ hk
   refine⟨⟨o,e,ex.1⟩,λa e2=>?_⟩
   cases e2
   exact⟨o,e,ex.2.1⟩
 |_=>exact False.elim ty
def tBM0(K:Fg0)(T:String)(r:V->List V->Hp->VK->Prop)(to:TE):TE:=λσ H Q=>to σ H λx H1=>tyV K T x H1/\r x [] H1 Q
def tBM(K:Fg0)(T:String)(r:V->List V->Hp->VK->Prop)(to:TE)(t:TA):TE:=λσ H Q=>to σ H λx H1=>tyV K T x H1/\t σ H1 λxs H2=>r x xs H2 Q
variable {o e:Expr}{es:List Expr}{to:TE}{t:TA}{name:Str}{apos cpos:Pos}{T id:String}{r:V->List V->Hp->VK->Prop}
theorem pe_bm0(pa:PlainAttrs T)(slot:Slot T name id)(hty:typeOf (.builtin id)=pure (.type "method_descriptor"))(hm:MtR X id r)(ho:PE X o to)
  (hbase:attributeBase o name X.env (eval o X.env)=eval o X.env:=by rfl) (hline:(apos.endLine==cpos.line)=true:=by rfl):PE X (.Call (.Attribute o name apos) [] [] cpos) (tBM0 X.K T r to):=by
 intro pins s σ H Q I h
 refine wpAny_Call_method0_late hbase hline (thn (ho pins s σ H _ I h) λv s1 zq=>?_)
 obtain⟨x,H1,I1,r1,ty,q1⟩:=zq
 obtain⟨h1,h2⟩:=QnE I1 r1 ty
 exact⟨T,id,pa,slot,hty,h1,h2,Calls.callWith_builtin rfl (PySem.evalArgs_none (hm pins s1 σ H1 x [] v [] Q I1 r1 .nil q1))⟩
theorem pe_bm(pa:PlainAttrs T)(slot:Slot T name id)(hty:typeOf (.builtin id)=pure (.type "method_descriptor"))(hm:MtR X id r)(ho:PE X o to)(ha:PA X (e::es) t)
  (hbase:attributeBase o name X.env (eval o X.env)=eval o X.env:=by rfl)
  (hfew:((backTo cpos (starEach (e::es) X.env)).all (λx=>!x.1)&&(backToKw cpos (keywordEach [] X.env)).all (λx=>x.1.isSome)
   && decide ((e::es).length+([]:List Keyword).length+(if([]:List Keyword).isEmpty then 0 else 1)<30))=true:=by rfl)
  (hline:(apos.endLine==cpos.line)=true:=by rfl) (hs:starEach (e::es) X.env=(false,eval e X.env)::starEach es X.env:=by rfl) (hplain:(backTo cpos (starEach es X.env)).any (·.1)=false:=by rfl) :
  PE X (.Call (.Attribute o name apos) (e::es) [] cpos) (tBM X.K T r to t):=by
 intro pins s σ H Q I h
 refine wpAny_Call_method_late hbase hfew hline rfl (thn (ho pins s σ H _ I h) λv s1 zq=>?_)
 obtain⟨x,H1,I1,r1,ty,q1⟩:=zq
 obtain⟨h1,h2⟩:=QnE I1 r1 ty
 refine⟨T,id,pa,slot,hty,h1,h2,?_⟩
 have hA:=ha cpos pins s1 σ H1 _ I1 q1
 rw[hs]at hA ⊢
 exact Calls.callWith_builtin (by grind) (Calls.evalArgs_plain (thn hA λus s2 ⟨vs,H2,I2,r2,q2⟩=>hm pins s2 σ H2 x vs v us Q I2 r1 r2 q2))
end
def MtM(X:Cx)(id:String)(r:V->List V->Hp->VK->Prop):Prop :=
 ∀(pins:List (Addr×Obj)) (s:Shared) (σ:St) (H:Hp) (x:V) (xs:List V) (v:Value) (us:List Value) (Q:VK),Inv X pins σ H s->RelV x v->Vals xs us->r x xs H Q ->
  wpAny (model X.prog X.w) X.A (call (.builtin id) (v::us)) (EP X pins σ Q) X.xe s
theorem Vals.one:∀{x:V}{us:List Value},Vals [x] us->∃u,us=[u]/\RelV x u
 |_,_,.cons r .nil=>⟨_,rfl,r⟩
theorem Vals.zero:∀{us:List Value},Vals [] us->us=[]
 |_,.nil=>rfl
theorem Vals.dropLast(h:Vals xs us):Vals xs.dropLast us.dropLast:=by
 induction h with
 |nil=>exact .nil
 |cons r t ih=>
  cases t with
  |nil=>exact .nil
  |cons q t'=>exact .cons r ih
theorem Vals.rep(h:Vals xs us):∀k:Nat,Vals (List.replicate k xs).flatten (List.replicate k us).flatten
 |0=>.nil
 |k+1=>Vals.append h (Vals.rep h k)
theorem QfT(its):∀(k:Nat) (acc:List Value),
  List.foldl (λx1 x2=>x1++x2) acc.toArray (List.replicate k its.toArray)=(acc++(List.replicate k its).flatten).toArray
 |0,acc=>by simp
 |k+1,acc=>by
  have e:acc.toArray++its.toArray=(acc++its).toArray:=ZzS;have e2:(acc++its)++(List.replicate k its).flatten=acc++(List.replicate (k+1) its).flatten:=by grind
  rw[<- e2,<- QfT its k (acc++its),<- e,List.replicate_succ,List.foldl_cons]
section
variable {X:Cx}{pins:List (Addr×Obj)}{σ:St}{H:Hp}{s:Shared}{l b:Addr}{xs ys zs:List V}
theorem Inv.lset{its its':List Value}{f:Array Value->Array Value}{t':Nat}(I:Inv X pins σ H s)(hH:H l=some (.lst xs))
  (e:s.heap.get? l=some { cls:=.type "list",data:=.seq its.toArray n }) (hf:f its.toArray=its'.toArray) (hv:Vals ys its') (hz:ys.length<=sizeLine) :
  Inv X pins σ (upd H l (.lst ys)) { s with heap:=s.heap.update l (Obj.mapSeq f),toks:=t' }:=by
 have q:=PySem.IsL.update e f
 rw[hf]at q
 refine I.write   (by rw[hH];exact trivial) (.inl rfl) (λb' u hb hu=>(Heap.get?_update_other s.heap (Obj.mapSeq f) (zzi hb)).trans hu) ⟨_,q⟩ ?_
 exact⟨hz,its',_,hv,q⟩
theorem Inv.lnew{its:List Value}{t':Nat}(I:Inv X pins σ H s)(hv:Vals ys its)(hz:ys.length<=sizeLine) :
  Inv X pins σ (upd H s.heap.objs.size (.lst ys)) { s with heap:=s.heap.push { cls:=.type "list",data:=.seq its.toArray },toks:=t' } :=
 I.laid (λ_ _ q=>hps0 _ q) (zD _) ⟨hz,its,0,hv,zG _ rfl⟩
theorem Inv.fresh(I:Inv X pins σ H s):H s.heap.objs.size=none:=I.hok.fresh (zD _)
theorem Inv.lstM(I:Inv X pins σ H s)(hH:H l=some (.lst xs)):xs.length<=sizeLine/\∃(its:List Value) (n:Nat),Vals xs its/\xs.length=its.length/\s.heap.get? l=some { cls:=.type "list",data:=.seq its.toArray n }:=by obtain⟨z,its,n,r,e⟩:=I.hok l _ hH;exact⟨z,its,n,r,r.length,e⟩
theorem Qhw(h:n<=sizeLine):Builtin.List.listTooLong n=false:=zV ZzL
end
section
variable {X:Cx}
def Qo2:V->List V->Hp->VK->Prop:=λx vs H Q=>∃l xs y,x=.ref l/\vs=[y]/\H l=some (.lst xs)/\xs.length<sizeLine/\Q .non (upd H l (.lst (xs++[y])))
theorem QfL:MtM X "list.append" Qo2:=by
 intro pins s σ H x vs v us Q I rx rv h
 obtain⟨l,xs,y,rfl,rfl,hH,hz,q⟩:=h
 cases rx
 obtain⟨u,rfl,ru⟩:=rv.one
 obtain⟨z,its,n,r,hl,e⟩:=I.lstM hH
 refine call_meets F.slot_list_append ⟨_,e,rfl⟩ F.entry_list_append (F.args_list_append_2 _ _) (PySem.list_append l its.toArray n u (by grind)) ⟨e,(⟨.non,_,I.lset  hH e ZzS (r.append (.cons ru .nil)) ?_,rfl,q⟩)⟩
 grind
def QpH:V->List V->Hp->VK->Prop:=λx vs H Q=>∃l b xs zs,x=.ref l/\vs=[.ref b]/\H l=some (.lst xs)/\H b=some (.lst zs)/\xs.length+zs.length<=sizeLine/\Q .non (upd H l (.lst (xs++zs)))
theorem QjH:MtM X "list.extend" QpH:=by
 intro pins s σ H x vs v us Q I rx rv h
 obtain⟨l,b,xs,zs,rfl,rfl,hH,hB,hz,q⟩:=h
 cases rx
 obtain⟨u,rfl,ru⟩:=rv.one
 cases ru
 obtain⟨z,its,n,r,hl,e⟩:=I.lstM hH
 obtain⟨z2,its2,n2,r2,hl2,e2⟩:=I.lstM hB
 have hsz:its.toArray.size+its2.toArray.size<=sizeLine:=by grind
 have hlong:¬ (!its.toArray.isEmpty&&Builtin.List.listTooLong (its.toArray.size+its2.toArray.size))=true:=by
  rw[Qhw hsz,Bool.and_false]
  exact zR
 refine call_meets F.slot_list_extend ⟨_,e,rfl⟩ F.entry_list_extend (F.args_list_extend_2 _ _)
  (AutoSeq1.list_extend_list_list_0 l its.toArray n b its2.toArray n2 hlong (by grind) ZzL) ⟨e,e2,?_⟩
 refine⟨.non,_,I.lset (its':=its++its2) hH e ZzS (r.append r2) ?_,rfl,q⟩
 rw[zA]
 lia
def rPop:V->List V->Hp->VK->Prop:=λx vs H Q=>∃l xs y,x=.ref l/\vs=[]/\H l=some (.lst xs)/\xs[xs.length-1]?=some y/\Q y (upd H l (.lst xs.dropLast))
theorem mt_pop:MtM X "list.pop" rPop:=by
 intro pins s σ H x vs v us Q I rx rv h
 obtain⟨l,xs,y,rfl,rfl,hH,hy,q⟩:=h
 cases rx
 have hus:=rv.zero
 subst hus
 obtain⟨z,its,n,r,hl,e⟩:=I.lstM hH
 obtain⟨u,hu,ru⟩:=r.get hy
 have hy':its.toArray[its.toArray.size-1]?=some u:=by simp_all
 refine call_meets F.slot_list_pop ⟨_,e,rfl⟩ F.entry_list_pop (F.args_list_pop_1 _) (MeetsSeq.list_pop_last l its.toArray n u hy' (by rw[Zh];lia)) ⟨e,?_⟩
 refine⟨y,_,I.lset  hH e ?_ r.dropLast ?_,ru,q⟩
 ·simp
 ·rw[List.length_dropLast]
  lia
def rCat:R2:=λx y H Q=>∃l b xs zs,x=.ref l/\y=.ref b/\H l=some (.lst xs)/\H b=some (.lst zs)/\xs.length+zs.length<=sizeLine/\∀p,H p=none->Q (.ref p) (upd H p (.lst (xs++zs)))
theorem Qlz:OpR X (binaryOp .Add) rCat:=by intro pins s σ H x y v u Q I rx ry h;obtain⟨l,b,xs,zs,rfl,rfl,hH,hB,hz,q⟩:=h;cases rx;cases ry;obtain⟨z,its,n,r,hl,e⟩:=I.lstM hH;obtain⟨z2,its2,n2,r2,hl2,e2⟩:=I.lstM hB;refine PySem.P.add_list e e2 ?_ (by simp_all);have ea:its.toArray++its2.toArray=(its++its2).toArray:=ZzS;rw[ea];exact⟨.ref _,_,I.lnew  (r.append r2) (by simp_all),rfl,q _ I.fresh⟩
def rRep:R2:=λx y H Q=>∃l k xs,x=.ref l/\y=.int k/\H l=some (.lst xs)/\-(2^63)<=k/\k<2^63/\xs.length*k.toNat<=sizeLine /\
 ∀p,H p=none->Q (.ref p) (upd H p (.lst (List.replicate k.toNat xs).flatten))
theorem Qp2{α:Type}(xs:List α)(k:Nat):(List.replicate k xs).flatten.length=k*xs.length:=ZzS
theorem Qos:OpR X (binaryOp .Mult) rRep:=by
 intro pins s σ H x y v u Q I rx ry h
 obtain⟨l,k,xs,rfl,rfl,hH,h1,h2,hz,q⟩:=h
 cases rx
 obtain⟨t,rfl⟩:=ry
 obtain⟨z,its,n,r,hl,e⟩:=I.lstM hH
 have hlen:its.toArray.size*k.toNat<=sizeLine:=by rw[Zh,<- hl];exact hz
 have hcap:¬ its.toArray.size*k.toNat>(2^63-1)/8:=by
  have:(sizeLine:Nat)<=(2^63-1)/8:=ZzD
  lia
 have hfit:¬ (!Builtin.List.listFitsIndex k)=true:=by
  rw[fitsIndex_both h1 h2]
  exact zR
 have hlong:¬ Builtin.List.listTooLong (its.toArray.size*k.toNat)=true:=by
  rw[Qhw hlen]
  exact zR
 have hnew:List.foldl (λx1 x2=>x1++x2) #[] (List.replicate (if its.toArray.isEmpty=true then 0 else k.toNat) its.toArray)=(List.replicate k.toNat its).flatten.toArray:=by
  have f0 :=λm=>by
   have:=QfT its m []
   rw[zzf]at this
   exact this
  rw[f0]
  cases its with
  |nil=>simp
  |cons a r'=>rw[zM ZzS]
 refine wpAny_binaryOp_repeat_ref (T:="list") (U:="int") ZzD ⟨_,e,rfl⟩ (λs'=>typeIs_int s' k t) noFill_list_mul F.fills_int_mul F.slot_int_rmul repeat_list F.slot_int_index.lookup
  (call_meets F.slot_int_rmul (typeIs_int s k t) F.entry_int_rmul (F.args_int_rmul_2 _ _) (int___rmul___int_list k t l its.toArray n)
   ⟨e,rfl,⟨_,e,rfl⟩,call_meets F.slot_list_mul ⟨_,e,rfl⟩ F.entry_list_mul (F.args_list_mul_2 _ _) (AutoListH.list___mul___list_int_3 l its.toArray n k t hfit hcap hlong) ⟨e,?_⟩⟩)
 rw[hnew]
 exact⟨.ref _,_,I.lnew (t':=s.toks) (r.rep k.toNat) (by rw[Qp2,Nat.mul_comm];exact hz),rfl,q _ I.fresh⟩
end
section
variable {prog:Program}{w:World}{A:Around}{E:Value->Shared->Prop}{s:Shared}
end
section
variable {X:Cx}
end
end L2
namespace Att
open PySem PySem.W PySem.Calls PyProof.Rows
theorem QdW:∀ns vs,WellAll P h vs (ns.map WData.int)->IntsAre vs ns:=by
 intro ns;induction ns with
 |nil=>intro vs w;cases w;exact .nil
 |cons n ns ih=>
  intro vs w;cases w with
  |cons a b=>cases a;exact .cons _ _ (ih _ b)
theorem Qjn{l:OpenLaw}{n:Nat}(hn:l.most=some n){P:Params}{h:Heap}{args:List WData}{vals:List Value}
  (hpre:l.row.toRowW.claim.pre args=true) (hwl:WellAll P h vals args) :
  ∃a vs ns,vals=[Value.ref a]/\args=[WData.list (ns.map WData.int)]/\h.get? a=some { cls:=.type "list",data:=.seq vs.toArray }/\IntsAre vs ns/\ns.length<=n:=by
 have hsh :=(pre_splitW hpre).1
 have hc:l.pre.holds [] { args:=args }=true:=(pre_splitW hpre).2
 obtain⟨d,r,rfl,h1,h2⟩:=hasAllW_cons hsh
 obtain rfl:=hasAllW_nil h2
 obtain⟨xs,rfl,h3⟩:=hasW_list h1
 obtain⟨ns,rfl⟩:=items_int h3
 have hlen:ns.length<=n:=by
  unfold OpenLaw.pre at hc
  have h4 :=by
   have h4:=(holds_andW hc).1
   rw[hn]at h4
   exact h4
  have h5:=condW_of h4 (w_not (w_lt w_lit (w_len_list (w_arg rfl))))
  grind
 cases hwl with
 |cons w1 w2 =>
  cases w2
  cases w1 with
  |list ho hall=>exact⟨_,_,ns,rfl,rfl,ho,QdW ns _ hall,hlen⟩
theorem Qlu(l:OpenLaw)(args:List WData):l.row.toRowW.claim.post args (.bool true) args=true :=
 postW_of
  (show WShape.has [] (.bool true) .bool=true by rfl)
  (w_eq_bool (w_res rfl) w_lit) rfl
theorem attach_call{l:OpenLaw}{n:Nat}{q:Program}{loose:List Str}{XP:(Str->Option Value)->Heap->Prop}{YP:World->Heap->Prop}{d:DefRec}
  (hn:l.most=some n) (hdf:d.params.defaults=[])
  (call:∀(w:World) (s₀ s₁:Shared) (mg mb:Str->Option Value) (fa:Addr) (o:Obj) (pm cd doc:Value) (a:Addr) (vs:List Value) (ns:List Int),
   Ground q loose [] XP w s₀ mg mb s₁.heap->YP w s₁.heap ->
   s₁.heap.get? fa=some o->o.data=.func (docDef d.name d.params d.body d.scope pm cd doc)->s₁.heap.CodeRec cd d.name->mg d.name=some (.ref fa) ->
   s₁.heap.get? a=some { cls:=.type "list",data:=.seq vs.toArray }->IntsAre vs ns->ns.length<=n->s₁.gens=#[] ->
   codeAny (model l.prog w) callerA (.call (.ref fa) ⟨[.ref a],[]⟩) (λr s'=>r=.ok (.ret (.bool true))/\OldK s₁.heap s'.heap/\s'.os=s₁.os/\AllBare s'.gens) s₁) :
  WalkO q loose XP YP l.row.toRowW d [] (λf vs=>PySem.call f vs):=by
 intro w s₀ s₁ mg mb G Y fa o pm cd doc dV kV ho hd hcd hD hmg hg args vals as hpre hlay hrd hwl hlo
 obtain rfl:dV=.none:=Dflts.none hD hdf
 obtain rfl:kV=.none:=Dflts.noKw hD
 obtain⟨a,vs,ns,rfl,rfl,hobj,hints,hlen⟩:=Qjn hn hpre hwl
 refine enter_call (zzw (call w s₀ s₁ mg mb fa o pm cd doc a vs ns G Y ho (fd_plain hd) hcd hmg hobj hints hlen hg) λr s' hq=>?_)
 obtain⟨rfl,h2,h3,h4⟩:=hq
 exact⟨.inl ⟨.bool true,.bool true,[],rfl,λ_=>rfl,.bool true,Qlu l _,λ_=>⟨List.Pairwise.nil,λ_ hm=>(nomatch hm)⟩⟩,h2,h3,h4⟩
section
variable {prog:Program}{w:World}{A:Around}{E:Value->Shared->Prop}{s:Shared}{K:Frag}
end
end Att
namespace L2
open PySem PySem.Spec PyProof.Rows
theorem QbO:∀{vs:List Value}{ns:List Int},IntsAre vs ns->Vals (ns.map V.int) vs
 |_,_,.nil=>.nil
 |_,_,.cons n t h=>.cons ⟨t,rfl⟩ (QbO h)
def Only(H:Hp):Prop:=∀b,H b=none\/∃o xs,H b=some (.frz o (.lst xs))
theorem Qmx{P:Program}{w:World}{K:Fg0}{mg mb:Str->Option Value}{CX:CXT}{k:Nat}{fa a:Addr}{fd:FuncData}{x:Str}{sp:Sp}{s₁:Shared}{vs:List Value}{ns:List Int}
  (KX:K.In s₁.heap) (hns:s₁.heap.Ns mainGlobals mg) (hb:s₁.heap.Ns builtinsNs mb) (hbb:∀x:Str,x≠"__name__"->mb x=bootBuiltins x) (hlim:s₁.heap.NoLimit) (hg:s₁.gens=#[])
  (ha:s₁.heap.get? a=some { cls:=.type "list",data:=.seq vs.toArray }) (hi:IntsAre vs ns) (hl:ns.length<=sizeLine) (hr:Room k callerA)
  (F:∀base:Heap,K.In base->base.Ns mainGlobals mg->FnOk P w K mg base CX k fa fd [x] sp) (hbind:∀(s:Shared) (u:Value),BindsTo s fd ⟨[u],[]⟩ [(x,u)])
  (hsp:∀H:Hp,Only H->SqL K H a (ns.map V.int)->sp [.ref a] H (λv _=>v=.bl true) λ_ _ _=>False)
  (hCX:∀H e s',CX [] H s₁ (λ_ _ _=>False) e s'->False) :
  codeAny (model P w) callerA (.call (.ref fa) ⟨[.ref a],[]⟩) (λr s'=>r=.ok (.ret (.bool true))/\OldK s₁.heap s'.heap/\s'.os=s₁.os/\AllBare s'.gens) s₁:=by
 have rv:=QbO hi
 have lenV:=hi.length
 have core:∀H:Hp,Only H->SqL K H a (ns.map V.int)->HOk P w H s₁.heap->(∀b,H b≠none->b=a)->(H a≠none->K.lookup a=none) ->
   codeAny (model P w) callerA (.call (.ref fa) ⟨[.ref a],[]⟩) (λr s'=>r=.ok (.ret (.bool true))/\OldK s₁.heap s'.heap/\s'.os=s₁.os/\AllBare s'.gens) s₁:=by
  intro H hO hS hok hA hK
  have QbS:∀{b:Addr}{o:Obj},s₁.heap.get? b=some o->H b=none->(QmK s₁.heap H).get? b=some o:=λe n=>Qml e n
  have noA:∀{b:Addr}{o:Obj}{es:Array DictEntry}{ep:Nat},s₁.heap.get? b=some o->o.data=.dict es ep->H b=none:=λ{b o es ep} e d=>by
   cases q:H b with
   |none=>rfl
   |some u=>have e':b=a:=hA b (by rw[q];simp);subst e';rw[ha]at e;cases e;have d':Data.seq vs.toArray _=Data.dict es ep:=d;cases d'
  have nsK:∀{b:Addr}{m:Str->Option Value},s₁.heap.Ns b m->(QmK s₁.heap H).Ns b m:=λ{b m} ⟨o,es,ep,e,d,r⟩=>⟨o,es,ep,QbS e (noA e d),d,r⟩
  have hKb:K.In (QmK s₁.heap H):=λb o e=>QbS (KX b o e) (by
   cases q:H b with
   |none=>rfl
   |some u =>
    have e':b=a:=hA b (by rw[q];simp)
    subst e'
    rw[hK (by rw[q];simp)]at e;cases e)
  have hM:Mod K mg (QmK s₁.heap H):=⟨hKb,nsK hns,⟨mb,nsK hb,hbb⟩,let ⟨mc,h1,h2⟩:=hlim;⟨mc,nsK h1,h2⟩⟩
  have e0:Env0 P w K mg (QmK s₁.heap H) callerA [] s₁ H:=⟨rfl,hM,λb o e=>Qqg e,Nat.le_of_eq (Qk9 _ _),trivial,λb hb=>absurd (show b∈([]:List Addr) from hb) ZzS,hok,.of_eq hg⟩
  refine zzw ((F _ hKb (nsK hns)).run callerA [] s₁ H ⟨[.ref a],[]⟩ [.ref a] [.ref a] _ _ hr e0 (hbind s₁ (.ref a)) (.cons rfl .nil) (hsp H hO hS)) λr s' h=>?_
  cases r with
  |error e=>exact(hCX H e s' h).elim
  |ok fl =>
   cases fl with
   |next=>exact False.elim h
   |brk=>exact False.elim h
   |cont=>exact False.elim h
   |ret u =>
    obtain⟨v,H',os,bare,un,hok',r',q⟩:=h
    have q':v=.bl true:=q
    subst q'
    obtain rfl:u=Value.bool true:=r'
    refine⟨rfl,OldK.of_keep λb o e=>?_,os,bare⟩
    cases q:H b with
    |none=>exact un.keep b o e q (by intro z;exact absurd (show b∈([]:List Addr) from z) ZzS) ZzS
    |some u =>
     rcases hO b with z|⟨ob,xs,z⟩
     ·rw[q]at z;cases z
     ·have z2:=un.frzs b ob _ z
      obtain⟨e1,_⟩:=hok b _ z
      obtain⟨e2,_⟩:=hok' b _ z2
      rw[e]at e1;cases e1
      exact e2
 cases hk:K.lookup a with
 |some o =>
  have e:=KX a o hk
  rw[ha]at e
  cases e
  refine core (λ_=>none) (λ_=>.inl rfl) (.inr ⟨_,vs.toArray,_,hk,rfl,rfl,rfl,by rw[Zh,lenV];exact hl,by simpa using rv⟩) (λb u z=>by have z':(none:Option HO)=some u:=z;cases z') (λb z=>absurd rfl z) λz=>absurd rfl z
 |none =>
  refine core (λb=>if b=a then some (.frz { cls:=.type "list",data:=.seq vs.toArray } (.lst (ns.map V.int))) else none) (λb=>?_) (.inl (.inr ⟨{ cls:=.type "list",data:=.seq vs.toArray },zF rfl⟩)) (λb u z=>?_) (λb z=>?_) λ_=>hk
  ·by_cases hb:b=a
   ·exact .inr ⟨_,_,zF hb⟩
   ·exact .inl (zM hb)
  ·by_cases hb:b=a
   ·have z':=(zF hb).symm.trans z
    cases z'
    subst hb
    exact⟨ha,by rw[zo];exact hl,vs,_,rv,ha⟩
   ·have z':=(zM hb).symm.trans z
    cases z'
  ·by_cases hb:b=a
   ·exact hb
   ·exact absurd (zM hb) z
noncomputable abbrev KOf{K:Fg0}{h:Heap}(_:K.In h):Fg0:=K
theorem walk_of{l:PySem.W.OpenLaw}{n k:Nat}{q:Program}{loose:List Str}{XP:(Str->Option Value)->Heap->Prop}{YP:World->Heap->Prop}{d:DefRec}{K:Params->Fg0}{CX:World->CXT}{sp:World->Sp}{x:Str}
  (hn:l.most=some n) (hn2:n<=sizeLine) (hdf:d.params.defaults=[]) (hr:Room k callerA)
  (hY:∀(w:World) (h:Heap),YP w h->(K w.params).In h)
  (F:∀(w:World) (mg:Str->Option Value) (fa:Addr) (h:Heap),(K w.params).In h->h.Ns mainGlobals mg->mg d.name=some (.ref fa) ->
   ∃fd:FuncData,(∀(s:Shared) (u:Value),BindsTo s fd ⟨[u],[]⟩ [(x,u)]) /\
    ∀base:Heap,(K w.params).In base->base.Ns mainGlobals mg->FnOk l.prog w (K w.params) mg base (CX w) k fa fd [x] (sp w))
  (hsp:∀(w:World) (H:Hp) (a:Addr) (ns:List Int),ns.length<=n->Only H->SqL (K w.params) H a (ns.map V.int)->sp w [.ref a] H (λv _=>v=.bl true) λ_ _ _=>False)
  (hCX:∀(w:World) (H:Hp) (s:Shared) (e:Value) (s':Shared),CX w [] H s (λ_ _ _=>False) e s'->False) :
  PySem.W.WalkO q loose XP YP l.row.toRowW d [] (λf vs=>PySem.call f vs):=by
 refine Att.attach_call hn hdf λw s₀ s₁ mg mb fa o pm cd doc a vs ns G Y ho hd hcd hmg hobj hints hlen hg=>?_
 have KX:=hY w _ Y
 obtain⟨fd,hb,hF⟩:=F w mg fa _ KX G.T.g hmg
 exact Qmx KX G.T.g G.T.b G.T.builtins G.T.nolimit hg hobj hints (zf hlen hn2) hr hF hb (λH hO hS=>hsp w H a ns hlen hO hS) λH e s'=>hCX w H s₁ e s'
def Qbb(s:Stmt):Arguments:=match s with
 |.FunctionDef _ a _ _ _ _ _ _ _ _=>a
 |_=>{ posonlyargs:=[],args:=[],vararg:=none,kwonlyargs:=[],kw_defaults:=[],kwarg:=none,defaults:=[] }
def QaC(s:Stmt):List Stmt:=match s with
 |.FunctionDef _ _ b _ _ _ _ _ _ _=>b
 |_=>[]
def Qal(s:Stmt):Scope:=match s with
 |.FunctionDef _ _ _ _ _ _ sc _ _ _=>sc
 |_=>{ kind:=.function,names:=[],isGenerator:=false,isCoroutine:=false }
structure Fun (K:Fg0) (x qual:Str) (st:Stmt) (f:Addr) (fd:FuncData):Prop where
 ex:∃(oc:Value) (od:Option Addr) (kV doc pm:Value) (an:Option Addr) (cdv ct:Value) (osl:Array (Option Value)),
  fd=PySem.W.fnOf x qual (Qbb st) (QaC st) (Qal st) .none kV doc pm an cdv ct/\K.lookup f=some ⟨oc,od,.func fd,osl⟩/\PySem.W.codeIn K cdv qual=true
 kp:PySem.W.keepIn K (.ref f)=true
section
variable {P:Program}{w:World}{K:Fg0}{mg:Str->Option Value}{base:Heap}
theorem Qk6{x qual:Str}{st:Stmt}{f:Addr}{oc:Value}{od an:Option Addr}{osl:Array (Option Value)}{kV doc pm cdv ct:Value}(l:K.lookup f=some ⟨oc,od,.func (PySem.W.fnOf x qual (Qbb st) (QaC st) (Qal st) .none kV doc pm an cdv ct),osl⟩)
 (c:PySem.W.codeIn K cdv qual=true) (k:PySem.W.keepIn K (.ref f)=true):Fun K x qual st f (PySem.W.fnOf x qual (Qbb st) (QaC st) (Qal st) .none kV doc pm an cdv ct):=⟨⟨oc,od,kV,doc,pm,an,cdv,ct,osl,rfl,l,c⟩,k⟩
end
section
variable {X:Cx}
end
theorem Qoj{A B:Prop}(h:B):if false=true then A else B:=by grind
theorem Qn8{A B:Prop}(h:A):if true=true then A else B:=by grind
section
variable {κ:Type} [DecidableEq κ]
noncomputable def Qhb(kvs:List (κ×V))(k:κ):Option V:=(kvs.find? λkv=>decide (kv.1=k)).map (·.2)
noncomputable def Qgf(kvs:List (κ×V))(k:κ)(v:V):List (κ×V) :=
 if(kvs.any λkv=>decide (kv.1=k))=true then kvs.map (λkv=>if kv.1=k then(kv.1,v) else kv) else kvs++[(k,v)]
theorem QdE{p:κ×V}{r:List (κ×V)}{k:κ}(e:p.1=k):Qhb (p::r) k=some p.2:=by simp[Qhb,zzB,e]
theorem QdA{p:κ×V}{r:List (κ×V)}{k:κ}(e:¬ p.1=k):Qhb (p::r) k=Qhb r k:=by simp[Qhb,zzB,e]
theorem QhL(k:κ):∀kvs:List (κ×V),(kvs.any λkv=>decide (kv.1=k))=(Qhb kvs k).isSome
 |[]=>rfl
 |p::r=>by rw[zzp];by_cases e:p.1=k;simp only[QdE e,zX e,Bool.true_or,Option.isSome_some];rw[QdA e,zV e];exact QhL k r
theorem Qc2(kvs:List (κ×V))(k:κ)(v:V):(Qgf kvs k v).length<=kvs.length+1:=by
 unfold Qgf
 grind
theorem RelO.isSome_eq{o:Option V}{u:Option Value}(r:RelO o u):o.isSome=u.isSome:=by
 cases o with
 |none=>cases u with
  |none=>rfl
  |some _=>exact(r).elim
 |some _=>cases u with
  |none=>exact(r).elim
  |some _=>rfl
theorem RelO.getD{o:Option V}{u:Option Value}{d:V}{d':Value}(r:RelO o u)(rd:RelV d d'):RelV (o.getD d) (u.getD d'):=by
 cases o with
 |none=>cases u with
  |none=>exact rd
  |some _=>exact(r).elim
 |some _=>cases u with
  |none=>exact(r).elim
  |some _=>exact r
theorem KV.val{kvs:List (κ×V)}{vs:List (κ×Value)}(r:KV kvs vs)(k:κ):RelO (Qhb kvs k) (valueAt vs k):=by
 unfold KV at r;induction r with
 |nil=>exact True.intro
 | @cons p q ps qs h t ih=>
  obtain⟨h1,h2⟩:=h;by_cases e:p.1=k;have e':q.1=k:=h1.symm.trans e;have b:valueAt (q::qs) k=some q.2:=by simp[valueAt,zzB,e']
  rw[QdE e,b];exact h2;have e':¬ q.1=k:=λz=>e (h1.trans z);have b:valueAt (q::qs) k=valueAt qs k:=by simp[valueAt,zzB,e']
  rw[QdA e,b];exact ih
theorem KV.any{kvs:List (κ×V)}{vs:List (κ×Value)}(r:KV kvs vs)(k:κ):(kvs.any λkv=>decide (kv.1=k))=vs.any λkv=>decide (kv.1=k):=by
 induction r with
 |nil=>rfl
 |cons h t ih=>simp_all
theorem KV.repl{kvs:List (κ×V)}{vs:List (κ×Value)}(r:KV kvs vs)(k:κ){y:V}{u:Value}(ry:RelV y u) :
  KV (kvs.map λkv=>if kv.1=k then(kv.1,y) else kv) (vs.map λkv=>if kv.1=k then(kv.1,u) else kv):=by
 induction r with
 |nil=>exact .nil
 | @cons p q ps qs h t ih =>
  refine .cons ?_ ih
  grind
theorem KV.put{kvs:List (κ×V)}{vs:List (κ×Value)}(r:KV kvs vs)(k:κ){y:V}{u:Value}(ry:RelV y u):KV (Qgf kvs k y) (stored vs k u):=by unfold Qgf stored;rw[r.any k];by_cases e:(vs.any λkv=>decide (kv.1=k))=true;rw[zF e,zF e];exact r.repl k ry;rw[zM e,zM e];exact Paired.snoc r ⟨rfl,ry⟩
theorem KV.length{kvs:List (κ×V)}{vs:List (κ×Value)}(r:KV kvs vs):kvs.length=vs.length:=Paired.length r
end
theorem QgZ{P:Program}{w:World}{k:Key}{u:Value}(r:RelV (kV k) u):(QaF P w).is k u=true:=by
 cases k with
 |inl i=>obtain⟨t,e⟩:=(r);subst e;exact QgU P w i t
 |inr x=>obtain⟨t,e⟩:=(r);subst e;exact Qhl P w x t
theorem Qgw{P:Program}{w:World}:∀{ks:List Key}{us:List Value},Vals (ks.map kV) us->ItemsAre (QaF P w) ks us
 |[],_,r=>by cases r;exact .nil
 |k::ks,_,r=>by
  cases r with
  |cons h t=>exact .cons (QgZ h) (Qgw t)
abbrev KT(H:Hp):List (List Key×V)->List (List Key×Addr×Value)->Prop:=Paired λp q=>p.1=q.1/\H q.2.1=some (.tup (p.1.map kV))/\RelV p.2 q.2.2
theorem KT.val{H:Hp}{kvs:List (List Key×V)}{xs:List (List Key×Addr×Value)}(r:KT H kvs xs)(k:List Key):RelO (Qhb kvs k) ((atKey xs k).map (·.2)):=by
 induction r with
 |nil=>exact True.intro
 | @cons p q ps qs h t ih=>
  obtain⟨h1,_,h2⟩:=h;by_cases e:p.1=k;have e' :=h1.symm.trans e;have b:atKey (q::qs) k=some q.2:=by simp[atKey,zzB,e']
  rw[QdE e,b];exact h2;have e':¬ q.1=k:=λz=>e (h1.trans z);have b:atKey (q::qs) k=atKey qs k:=by simp[atKey,zzB,e']
  rw[QdA e,b];lia
theorem KT.repl{H:Hp}{kvs:List (List Key×V)}{xs:List (List Key×Addr×Value)}(r:KT H kvs xs)(k:List Key){y:V}{u:Value}(ry:RelV y u) :
  KT H (kvs.map λkv=>if kv.1=k then(kv.1,y) else kv) (xs.map (putAt k u)):=by
 induction r with
 |nil=>exact .nil
 | @cons p q ps qs h t ih =>
  refine .cons ?_ ih
  unfold putAt
  grind
theorem KT.put{H:Hp}{kvs:List (List Key×V)}{xs:List (List Key×Addr×Value)}(r:KT H kvs xs)(k:List Key){b:Addr}{y:V}{u:Value}(hb:H b=some (.tup (k.map kV)))(ry:RelV y u) :
  KT H (Qgf kvs k y) (storedH xs k b u):=by
 have e:(kvs.any λkv=>decide (kv.1=k))=(atKey xs k).isSome:=by rw[QhL,(r.val k).isSome_eq,Option.isSome_map]
 unfold Qgf storedH
 rw[e]
 by_cases q:(atKey xs k).isSome=true
 ·rw[zF q,zF q];exact r.repl k ry
 ·rw[zM q,zM q];exact Paired.snoc r ⟨rfl,hb,ry⟩
theorem KT.keeps{H H':Hp}{kvs:List (List Key×V)}{xs:List (List Key×Addr×Value)}(r:KT H kvs xs)(ht:∀b ys,H b=some (.tup ys)->H' b=some (.tup ys)):KT H' kvs xs :=
 Paired.mapP r λ_ _ z=>⟨z.1,ht _ _ z.2.1,z.2.2⟩
section
variable {P:Program}{w:World}{H:Hp}{h:Heap}{a:Addr}
theorem rd_of{u:HO}(ok:HOk P w H h)(e:Rd H a u):ObjOk P w H h a u:=e.ok ok
theorem Qfg{kvs:List (Key×V)}(ok:HOk P w H h)(e:Rd H a (.dK kvs)):kvs.length<=sizeLine/\(a==sysModules)=false/\∃vs,KV kvs vs/\h.DictOf (QaF P w) a vs :=
 rd_of ok e
theorem dk_of{kvs:List (Key×V)}(ok:HOk P w H h)(e:H a=some (.dK kvs)):kvs.length<=sizeLine/\(a==sysModules)=false/\∃vs,KV kvs vs/\h.DictOf (QaF P w) a vs:=Qfg ok (.inl e)
theorem QeA{ks:List Key}(ok:HOk P w H h)(e:H a=some (.tup (ks.map kV))):(tupleKind (QaF P w)).is h ks a:=by obtain⟨_,its,r,o,h1,h2,n,h3⟩:=(show ObjOk P w H h a (.tup (ks.map kV)) from ok a _ e);exact⟨o,its.toArray,n,h1,h2,h3,by simpa using Qgw r⟩
theorem Qha{kvs:List (List Key×V)}(ok:HOk P w H h)(e:Rd H a (.dT kvs)):kvs.length<=sizeLine/\(a==sysModules)=false /\
  ∃xs,KT H kvs xs/\h.DictOfH (tupleKind (QaF P w)) a xs:=by
 obtain⟨z,y,xs,r,o,es,ep,h1,h2,h3,h4,h5⟩:=(rd_of ok e)
 refine⟨z,y,xs,r,o,es,ep,h1,h2,h3,h4,λx hx=>?_,h5⟩
 have all:∀{l:List (List Key×V)}{m:List (List Key×Addr×Value)},KT H l m->∀x∈m,(tupleKind (QaF P w)).is h x.1 x.2.1:=by
  intro l m q;induction q with
  |nil=>intro x hx;exact nomatch hx
  | @cons p q ps qs hq t ih=>intro x hx;rcases zS.mp hx with e|hx;subst e;exact QeA ok (by simp_all);exact ih x hx
 exact all r x hx
theorem dt_of{kvs:List (List Key×V)}(ok:HOk P w H h)(e:H a=some (.dT kvs)):kvs.length<=sizeLine/\(a==sysModules)=false /\
 ∃xs,KT H kvs xs/\h.DictOfH (tupleKind (QaF P w)) a xs:=Qha ok (.inl e)
end
def Qm4(H:Hp)(a:Addr)(y:V)(r:Option V):Prop :=
 (∃kvs k,Rd H a (.dK kvs)/\y=kV k/\r=Qhb kvs k)\/∃kvs k b,Rd H a (.dT kvs)/\y=.ref b/\H b=some (.tup (k.map kV))/\r=Qhb kvs k
def DPut(H:Hp)(a:Addr)(y v:V)(H':Hp):Prop :=
 (∃kvs k,H a=some (.dK kvs)/\y=kV k/\kvs.length<sizeLine/\H'=upd H a (.dK (Qgf kvs k v))) \/
 ∃kvs k b,H a=some (.dT kvs)/\y=.ref b/\H b=some (.tup (k.map kV))/\kvs.length<sizeLine/\H'=upd H a (.dT (Qgf kvs k v))
theorem DPut.k{H:Hp}{a:Addr}{kvs:List (Key×V)}{k:Key}{v:V}(e:H a=some (.dK kvs))(hl:kvs.length<sizeLine):DPut H a (kV k) v (upd H a (.dK (Qgf kvs k v))):=.inl ⟨kvs,k,e,rfl,hl,rfl⟩
section
variable {X:Cx}{pins:List (Addr×Obj)}{σ:St}{H:Hp}{s:Shared}{a:Addr}{y v:V}{u r:Value}{o:Option V}{A:Around}{E:Value->Shared->Prop}
theorem Inv.big(I:Inv X pins σ H s):sysModules<s.heap.objs.size:=by have h :=(I.mod.glob.keeps I.bk).lt;exact zzk ZzD h
theorem Qke{Q:Value->Shared->Prop}(hu:A.units+1<cLine)(I:Inv X pins σ H s)(g:Qm4 H a y (some v))(ry:RelV y u)(h:∀w' s',Inv X pins σ H s'->RelV v w'->Q w' s') :
  wpAny (model X.prog X.w) A (getItem (.ref a) u) Q E s:=by
 rcases g with⟨kvs,k,e,ey,l⟩|⟨kvs,k,b,e,ey,eb,l⟩
 ·subst ey
  obtain⟨z,hd,vs,rel,dd⟩:=Qfg I.hok e
  obtain⟨w',hw,rw'⟩:=RelO.some_of (v:=v) (o:=valueAt vs k) (by rw[l];exact rel.val k)
  exact wpAny_getItem_of (QgZ ry) dd.mapOf hw (h w' _ (I.tok _) rw')
 ·subst ey
  cases (show u=Value.ref b from ry)
  obtain⟨z,hd,xs,rel,dd⟩:=Qha I.hok e
  obtain⟨w',hw,rw'⟩:=RelO.some_of (v:=v) (o:=(atKey xs k).map (·.2)) (by rw[l];exact rel.val k)
  obtain⟨p,hp,hp2⟩:=Zg.mp hw
  refine wpAny_getItem_heap (zzx hu) (QeA I.hok eb) dd hp ?_
  rw[hp2]
  exact h w' _ (I.tok _) rw'
theorem d_in{Q:Value->Shared->Prop}(hu:A.units+1<cLine)(I:Inv X pins σ H s)(g:Qm4 H a y o)(ry:RelV y u)(h:∀s',Inv X pins σ H s'->Q (.bool o.isSome) s') :
  wpAny (model X.prog X.w) A (compareOp .In u (.ref a)) Q E s:=by
 rcases g with⟨kvs,k,e,ey,l⟩|⟨kvs,k,b,e,ey,eb,l⟩
 ·subst ey
  obtain⟨z,hd,vs,rel,dd⟩:=Qfg I.hok e
  refine wpAny_in_of (QgZ ry) hd dd.mapOf ?_
  rw[<- (rel.val k).isSome_eq,<- l]
  exact h _ (I.tok _)
 ·subst ey
  cases (show u=Value.ref b from ry)
  obtain⟨z,hd,xs,rel,dd⟩:=Qha I.hok e
  refine wpAny_in_heap (zzx hu) (QeA I.hok eb) hd dd ?_
  have q:=(rel.val k).isSome_eq
  rw[Option.isSome_map]at q
  rw[<- q,<- l]
  exact h _ (I.tok _)
theorem QpC{Q:Value->Shared->Prop}(hu:A.units+1<cLine)(I:Inv X pins σ H s)(g:Qm4 H a y o)(ry:RelV y u)(h:∀s',Inv X pins σ H s'->Q (.bool (!o.isSome)) s') :
  wpAny (model X.prog X.w) A (compareOp .NotIn u (.ref a)) Q E s:=by
 rcases g with⟨kvs,k,e,ey,l⟩|⟨kvs,k,b,e,ey,eb,l⟩
 ·subst ey
  obtain⟨z,hd,vs,rel,dd⟩:=Qfg I.hok e
  refine wpAny_notIn_of (QgZ ry) hd dd.mapOf ?_
  rw[<- (rel.val k).isSome_eq,<- l]
  exact h _ (I.tok _)
 ·subst ey
  cases (ry)
  obtain⟨z,hd,xs,rel,dd⟩:=Qha I.hok e
  refine wpAny_notIn_heap (zzx hu) (QeA I.hok eb) hd dd ?_
  have q:=(rel.val k).isSome_eq
  rw[Option.isSome_map]at q
  rw[<- q,<- l]
  exact h _ (I.tok _)
theorem Qhp{h':Heap}{t':Nat}{ob:HO}(I:Inv X pins σ H s)(mu:Mut (H a))(hs:Heap.SameBut a s.heap h')(he:∃q,h'.get? a=some q)(new:ObjOk X.prog X.w (upd H a ob) h' a ob) :
  Inv X pins σ (upd H a ob) { s with heap:=h',toks:=t' } :=
 I.write (x:=a) (e:=a) mu (.inl rfl) (λb q hb z=>(hs.2 b hb).trans z) he new
theorem QkB{P:Program}{w:World}{H':Hp}{h':Heap}{kvs:List (Key×V)}{vs:List (Key×Value)}(z:kvs.length<=sizeLine)(hd:(a==sysModules)=false)(rel:KV kvs vs)(dd:h'.DictOf (QaF P w) a vs) :
 ObjOk P w H' h' a (.dK kvs):=⟨z,hd,vs,rel,dd⟩
theorem QkS{H':Hp}{Q:Unit->Shared->Prop}(hu:A.units+1<cLine)(I:Inv X pins σ H s)(g:DPut H a y v H')(ry:RelV y u)(rv:RelV v r)(h:∀s',Inv X pins σ H' s'->Q () s') :
  wpAny (model X.prog X.w) A (setItem (.ref a) u r) Q E s:=by
 rcases g with⟨kvs,k,e,ey,l,eH⟩|⟨kvs,k,b,e,ey,eb,l,eH⟩
 ·subst ey eH
  obtain⟨z,hd,vs,rel,dd⟩:=dk_of I.hok e
  have hz:vs.length<=sizeLine:=by rw[<- rel.length];exact z
  have hl:(Qgf kvs k v).length<=sizeLine:=by have:=Qc2 kvs k v;lia
  refine wpAny_setItem_pairs (hsz:=hz) (QgZ ry) dd λh' dd' hs=>h _ ?_
  have he:∃q,h'.get? a=some q:=let ⟨q,_,_,hq,_⟩:=dd';⟨q,hq⟩
  exact Qhp I (by rw[e];exact True.intro) hs he (QkB hl hd (rel.put k rv) dd')
 ·subst ey eH
  cases (show u=Value.ref b from ry)
  obtain⟨z,hd,xs,rel,dd⟩:=dt_of I.hok e
  have hz:xs.length<=sizeLine:=by rw[<- Paired.length rel];exact z
  have hl:(Qgf kvs k v).length<=sizeLine:=by have:=Qc2 kvs k v;lia
  refine wpAny_setItem_heap (hsz:=hz) (zzx hu) (QeA I.hok eb) dd λh' dd' hs=>h _ ?_
  obtain⟨q,es,ep,hq,h2,h3,h4,_,h5⟩:=dd'
  refine Qhp I (by rw[e];exact True.intro) hs ⟨q,hq⟩ ⟨hl,hd,_,(rel.put k eb rv).keeps λc ys ec=>?_,q,es,ep,hq,h2,h3,h4,h5⟩
  rw[Qas (ne_of ec e (λz=>nomatch z))]
  exact ec
end
section
variable {X:Cx}{pins:List (Addr×Obj)}{σ:St}{H:Hp}{s:Shared}{a:Addr}{kvs:List (Key×V)}{k:Key}{u:Value}{A:Around}{E:Value->Shared->Prop}
theorem d_len{Q:Value->Shared->Prop}(I:Inv X pins σ H s)(e:Rd H a (.dK kvs))(h:∀t s',Inv X pins σ H s'->Q (.int kvs.length t) s'):wpAny (model X.prog X.w) A (call (.builtin "len") [.ref a]) Q E s:=by obtain⟨z,hd,vs,rel,dd⟩:=Qfg I.hok e;refine call_len_dict hd dd (by rw[<- rel.length];rw[Zj]at z;lia) ?_;rw[<- rel.length];exact h _ _ (I.tok _)
end
theorem QgH{X:Cx}{pins:List (Addr×Obj)}{σ:St}{H:Hp}{s:Shared}{a:Addr}{y:V}{o:Option V}(I:Inv X pins σ H s)(g:Qm4 H a y o):s.TypeIs (.ref a) "dict":=by rcases g with⟨kvs,k,e,_,_⟩|⟨kvs,k,b,e,_,_,_⟩;obtain⟨_,_,vs,_,dd⟩:=Qfg I.hok e;exact dd.typeIs;obtain⟨_,_,xs,_,dd⟩:=Qha I.hok e;exact dd.typeIs
section
variable {X:Cx}{o i e value:Expr}{pos pos' tpos:Pos}{td ty tv:TE}
end
theorem Qh1{P:Program}{w:World}{H:Hp}(h:Heap)(hb:sysModules<h.objs.size):ObjOk P w H (h.push { cls:=.type "dict",data:=.dict #[] }) h.objs.size (.dK []) :=
 ⟨ZQ _,ZZ.mpr (zzi (zU hb)),[],.nil,Heap.DictOf.new h⟩
def tDNewK:TE:=λ_ H Q=>∀p,H p=none->Q (.ref p) (upd H p (.dK []))
section
variable {X:Cx}{pos:Pos}
theorem pe_dnewK:PE X (.Dict [] [] pos) tDNewK:=λpins s σ H Q I h =>
 wpAny_Dict_empty ⟨.ref s.heap.objs.size,_,I.laid    (λ_ _ q=>hps0 _ q) (zD _) (Qh1 s.heap I.big),rfl,h _ (I.hok.fresh (zD _))⟩
end
def QjD:List (TE×TE)->St->Hp->(List (V×V)->Hp->Prop)->Prop
 |[],_,H,Q=>Q [] H
 |(tk,tv)::r,σ,H,Q=>tk σ H λx H1=>tv σ H1 λy H2=>QjD r σ H2 λps H3=>Q ((x,y)::ps) H3
abbrev VV:List (V×V)->List (Value×Value)->Prop:=Paired λp q=>RelV p.1 q.1/\RelV p.2 q.2
def PPs(X:Cx)(pos:Pos)(keys:List (Option Expr))(values:List Expr)(trs:List (TE×TE)):Prop :=
 ∀(pins:List (Addr×Obj)) (s:Shared) (σ:St) (H:Hp) (Q:List (V×V)->Hp->Prop),Inv X pins σ H s->QjD trs σ H Q ->
  wpAny (model X.prog X.w) X.A (evalPairs (pairTrees keys values X.env pos)) (λvs s'=>∃ps H',Inv X pins σ H' s'/\VV ps vs/\Q ps H') X.xe s
theorem QpQ{X:Cx}{pos:Pos}:PPs X pos [] [] []:=λpins s σ H Q I h=>pairTrees_nil_walk ⟨[],H,I,.nil,h⟩
theorem QmL{X:Cx}{pos:Pos}{k v:Expr}{ks:List (Option Expr)}{vs:List Expr}{tk tv:TE}{trs:List (TE×TE)}(hk:PE X k tk)(hv:PE X v tv)(hr:PPs X pos ks vs trs) :
  PPs X pos (some k::ks) (v::vs) ((tk,tv)::trs):=λpins s σ H Q I h =>
 pairTrees_cons_walk (thn (hk pins s σ H _ I h) λu s1 ⟨x,H1,I1,rx,q1⟩=>thn (hv pins s1 σ H1 _ I1 q1) λw2 s2 ⟨y,H2,I2,ry,q2⟩ =>
  thn (hr pins s2 σ H2 _ I2 q2) λws s3 ⟨ps,H3,I3,rel,q3⟩=>⟨(x,y)::ps,H3,I3,.cons ⟨rx,ry⟩ rel,q3⟩)
noncomputable def Qgm(kvs more:List (Key×V)):List (Key×V):=more.foldl (λacc kv=>Qgf acc kv.1 kv.2) kvs
theorem KV.merge:∀{more:List (Key×V)}{rs:List (Key×Value)}{kvs:List (Key×V)}{vs:List (Key×Value)},KV more rs->KV kvs vs->KV (Qgm kvs more) (merged vs rs):=by
 intro more rs kvs vs r;induction r generalizing kvs vs with
 |nil=>intro q;exact q
 | @cons p q ps qs h t ih=>
  intro r0;have e:KV (Qgf kvs p.1 p.2) (stored vs q.1 q.2):=by have:=r0.put p.1 h.2;simp_all
  exact ih e
theorem Qc9:∀(more kvs:List (Key×V)),(Qgm kvs more).length<=kvs.length+more.length
 |[],kvs=>by show kvs.length<=kvs.length+0;lia
 |p::r,kvs=>by
  have h1:=Qc9 r (Qgf kvs p.1 p.2)
  have h2:=Qc2 kvs p.1 p.2
  show(Qgm (Qgf kvs p.1 p.2) r).length<=_
  grind
theorem Qe9{P:Program}{w:World}:∀{kvs:List (Key×V)}{ws:List (Value×Value)},VV (kvs.map λkv=>(kV kv.1,kv.2)) ws->∃rs,Carries (QaF P w) ws rs/\KV kvs rs
 |[],_,r=>by cases r;exact⟨[],True.intro,.nil⟩
 |p::kvs,_,r=>by
  cases r with
  | @cons a b as bs h t=>obtain⟨rs,c,q⟩:=Qe9   t;obtain⟨b1,b2⟩:=b;exact⟨(p.1,b2)::rs,⟨QgZ h.1,rfl,c⟩,.cons ⟨rfl,h.2⟩ q⟩
def tDisp(trs:List (TE×TE)):TE:=λσ H Q=>∀p,H p=none->QjD trs σ (upd H p (.dK [])) λps H2=>H2 p=some (.dK [])/\∃kvs:List (Key×V),ps=kvs.map (λkv=>(kV kv.1,kv.2))/\kvs.length<=15/\Q (.ref p) (upd H2 p (.dK (Qgm [] kvs)))
theorem Qpk{X:Cx}{pos:Pos}{keys:List (Option Expr)}{values:List Expr}{trs:List (TE×TE)}(h:PPs X pos keys values trs)(hall:keys.all (·.isSome)=true)(hl:keys.length=values.length)(h0:keys≠[])
  (h15:keys.length<=15):PE X (.Dict keys values pos) (tDisp trs):=by
 intro pins s σ H Q I q
 have hn:=I.hok.fresh (zD s.heap.objs.size)
 have I1:=I.laid  (o:=.dK [])  (t':=s.toks) (λ_ _ q=>hps0 _ q) (zD _) (Qh1 s.heap I.big)
 refine wpAny_Dict_walk (knd:=QaF X.prog X.w) hall hl h0 h15 (thn (h pins _ σ _ _ I1 (q _ hn)) λws s2 ⟨ps,H2,I2,rel,e,kvs,ep,lk,q2⟩=>?_)
 subst ep
 obtain⟨rs,c,rk⟩:=Qe9 (P:=X.prog) (w:=X.w) rel
 obtain⟨z,hd,vs0,r0,dd⟩:=dk_of I2.hok e
 cases r0
 refine⟨rs,c,dd,λh' dd' hs=>⟨.ref s.heap.objs.size,_,?_,rfl,q2⟩⟩
 have hz:(Qgm [] kvs).length<=sizeLine:=by have h1:=Qc9 kvs [];rw[List.length_nil]at h1;rw[Zj];lia
 have he:∃q,h'.get? s.heap.objs.size=some q:=let ⟨q,_,_,hq,_⟩:=dd';⟨q,hq⟩
 exact Qhp I2 (by rw[e];exact True.intro) hs he (QkB hz hd (rk.merge .nil) dd')
structure M1 (X:Cx) (o:Expr) (m:Str) (apos:Pos) (e:Expr) (cpos:Pos):Prop where
 base:attributeBase o m X.env (eval o X.env)=eval o X.env
 few:((backTo cpos (starEach [e] X.env)).all (λx=>!x.1)&&(backToKw cpos (keywordEach [] X.env)).all (λx=>x.1.isSome)
  && decide (([e]:List Expr).length+([]:List Keyword).length+(if([]:List Keyword).isEmpty then 0 else 1)<30))=true
 line:(apos.endLine==cpos.line)=true
 trees:backTo cpos (starEach [e] X.env)=[(false,eval e X.env)]
structure M2 (X:Cx) (o:Expr) (m:Str) (apos:Pos) (e f:Expr) (cpos:Pos):Prop where
 base:attributeBase o m X.env (eval o X.env)=eval o X.env
 few:((backTo cpos (starEach [e,f] X.env)).all (λx=>!x.1)&&(backToKw cpos (keywordEach [] X.env)).all (λx=>x.1.isSome)
  && decide (([e,f]:List Expr).length+([]:List Keyword).length+(if([]:List Keyword).isEmpty then 0 else 1)<30))=true
 line:(apos.endLine==cpos.line)=true
 trees:backTo cpos (starEach [e,f] X.env)=[(false,eval e X.env),(false,eval f X.env)]
def IsD(H:Hp)(a:Addr):Prop:=(∃kvs,Rd H a (.dK kvs))\/∃kvs,Rd H a (.dT kvs)
theorem isD_at{X:Cx}{pins:List (Addr×Obj)}{σ:St}{H:Hp}{s:Shared}{a:Addr}(I:Inv X pins σ H s)(d:IsD H a) :
  s.TypeIs (.ref a) "dict"/\(∀b,Value.ref a=.ref b->∃ob,s.heap.get? b=some ob/\ob.dict=none)/\(a==sysModules)=false:=by
 rcases d with⟨kvs,e⟩|⟨kvs,e⟩
 ·obtain⟨_,hd,vs,_,dd⟩:=Qfg I.hok e
  refine⟨dd.typeIs,λb q=>?_,hd⟩
  cases q
  obtain⟨ob,_,_,h1,h2,_⟩:=dd
  exact⟨ob,h1,h2.2.1⟩
 ·obtain⟨_,hd,xs,_,dd⟩:=Qha I.hok e
  refine⟨dd.typeIs,λb q=>?_,hd⟩
  cases q
  obtain⟨ob,_,_,h1,h2,_⟩:=dd
  exact⟨ob,h1,h2.2.1⟩
section
variable {X:Cx}{pins:List (Addr×Obj)}{σ:St}{H:Hp}{s:Shared}{a:Addr}{y d:V}{u r:Value}{o:Option V}{A:Around}{E:Value->Shared->Prop}
theorem d_get1{Q:Value->Shared->Prop}(hu:A.units+1<cLine)(I:Inv X pins σ H s)(g:Qm4 H a y o)(ry:RelV y u)(h:∀w' s',Inv X pins σ H s'->RelV (o.getD .non) w'->Q w' s') :
  wpAny (model X.prog X.w) A (call (.builtin "dict.get") [.ref a,u]) Q E s:=by
 rcases g with⟨kvs,k,e,ey,l⟩|⟨kvs,k,b,e,ey,eb,l⟩
 ·subst ey
  obtain⟨z,hd,vs,rel,dd⟩:=Qfg I.hok e
  refine call_meetsIn PySem.F.slot_dict_get dd.typeIs PySem.F.entry_dict_get (PySem.F.args_dict_get_2 _ _) (meets_dict_get (QaF X.prog X.w) a (QgZ ry) hd) ⟨_,dd.mapOf,h _ _ (I.tok _) ?_⟩
  rw[l]
  exact(rel.val k).getD rfl
 ·subst ey
  cases (show u=Value.ref b from ry)
  obtain⟨z,hd,xs,rel,dd⟩:=Qha I.hok e
  refine call_meetsIn PySem.F.slot_dict_get dd.typeIs PySem.F.entry_dict_get (PySem.F.args_dict_get_2 _ _) (meetsH_dict_get (tupleKind (QaF X.prog X.w)) a b hd) ⟨zzx hu,k,xs,QeA I.hok eb,dd,h _ _ (I.tok _) ?_⟩
  rw[l]
  exact(rel.val k).getD rfl
end
def tDGet1(td ty:TE):TE:=λσ H Q=>td σ H λx H1=>∃a,x=.ref a/\IsD H1 a/\ty σ H1 λy H2=>∃o,Qm4 H2 a y o/\Q (o.getD .non) H2
section
variable {X:Cx}{o e f:Expr}{apos cpos:Pos}{td ty tx:TE}
theorem Qn3(hu:X.A.units+1<cLine)(ho:PE X o td)(he:PE X e ty)(m:M1 X o "get" apos e cpos):PE X (.Call (.Attribute o "get" apos) [e] [] cpos) (tDGet1 td ty):=by intro pins s σ H Q I h;refine wpAny_Call_method m.base m.few m.line PySem.F.plainAttrs_dict PySem.F.slot_dict_get PySem.F.type_dict_get (thn (ho pins s σ H _ I h) λu s1 ⟨x,H1,I1,rx,a,ex,d,q1⟩=>?_);subst ex;obtain rfl:u=Value.ref a:=rx;obtain⟨t1,t2,_⟩:=isD_at I1 d;refine⟨t1,t2,?_⟩;rw[m.trees];exact Calls.callWith_builtin rfl (Calls.evalArgs_plain (zzZ (thn (he pins s1 σ H1 _ I1 q1) λiv s2 ⟨y,H2,I2,ry,ov,g,q2⟩=>Calls.spliced_nil (d_get1 hu I2 g ry λw' s3 I3 rw'=>⟨_,H2,I3,rw',q2⟩))))
end
section
variable {X:Cx}{pins:List (Addr×Obj)}{σ:St}{H:Hp}{s:Shared}{a:Addr}{kvs:List (Key×V)}{A:Around}{E:Value->Shared->Prop}
theorem Qio{Q:Value->Shared->Prop}(I:Inv X pins σ H s)(e:Rd H a (.dK kvs))(h:∀p s',H p=none->Inv X pins σ (upd H p (.dK kvs)) s'->Q (.ref p) s'):wpAny (model X.prog X.w) A (call (.type "dict") [.ref a]) Q E s:=by obtain⟨z,hd,vs,rel,dd⟩:=Qfg I.hok e;exact kt_call_dict hd dd (by rw[<- rel.length];lia) λh' dd' hs=>(h _ _ (I.hok.fresh (zD _)) (I.laid    (λb q hq=>((hs.2 b (zU (zL hq))).trans (hps0 _ hq))) (zD _) (QkB z (ZZ.mpr (zzi (zU I.big))) rel dd')))
end
section
variable {X:Cx}{pins:List (Addr×Obj)}{σ:St}{H:Hp}{s:Shared}{a:Addr}{y:V}{u:Value}{A:Around}{E:Value->Shared->Prop}
end
section
variable {κ:Type} [DecidableEq κ]
end
end L2
set_option Elab.async false
set_option linter.all false
set_option maxRecDepth 100000
set_option maxHeartbeats 4000000
namespace J
open PySem PySem.Spec PyProof.Rows L2
noncomputable def nub:List Str->List Str
 |[]=>[]
 |x::xs=>if x∈xs then nub xs else x::nub xs
section
variable {P:Program}{w:World}{A:Around}{E:Value->Shared->Prop}{s:Shared}
theorem Qme(ho:s.heap.get? l=some o)(hc:o.cls=.type T)(hT:T="list"\/T="tuple")(hd:o.data=.seq vs.toArray n)
  (hz:vs.length<=sizeLine) (h:Q vs { s with heap:=(s.heap.push (seqObj "list" #[] 0)).update s.heap.objs.size (Obj.mapSeq (·++vs.toArray)) }):wpAny (model P w) A (collect (.ref l)) Q E s:=by
 unfold collect
 refine zd (wpAny_runValue (zzg entry_proto_collect' ?_))
 refine zd (wpAny_newList (zH ⟨zz0 _ (by decide +kernel),zzg entry_list_iadd' ?_⟩))
 show wpAny _ _ (Builtin.List.listExtendWith (.ref s.heap.objs.size) (.ref l) (.ref s.heap.objs.size)) _ _ _
 unfold Builtin.List.listExtendWith
 have ho1:(s.heap.push (seqObj "list" #[] 0)).get? l=some o:=hps0 _ ho
 refine zd (wpAny_typeOf (T:=T) ⟨o,ho1,hc⟩ ?_)
 have ht:((Value.type T==Value.type "list")||(Value.type T==Value.type "tuple"))=true:=by rcases hT with rfl|rfl<;>rfl
 rw[zF (by rw[Bool.or_assoc,ht,Bool.or_true])]
 refine zd (listItems_at ho1 hd ?_)
 refine zd (listItems_at (xs:=#[]) (n:=0) (zG _ rfl) rfl ?_)
 rw[zM ZzS]
 refine zd (listUpdate_at (xs:=#[]) (n:=0) (zG _ rfl) rfl ?_ (ZQ _) ?_)
 ·refine zH ?_
  show wpAny (model P w) A (do let o <- load s.heap.objs.size;(match o.data with|.seq xs _=>pure xs.toList|_=>unsupported "internal:collect")) Q E _
  refine zd (wpAny_load (get?_update_seq (zG _ rfl) _) ?_)
  show wpAny _ _ (pure (#[]++vs.toArray).toList) Q E _
  rw[show((#[]:Array Value)++vs.toArray).toList=vs by simp]
  exact zH h
 grind
theorem Qn4(ho:s.heap.get? l=some o)(hc:o.cls=.type T)(hT:T="list"\/T="tuple")(hd:o.data=.seq vs.toArray n)
  (hS:StrsAre vs ss) (h64:vs.length<64) (h:∀(out:Array Value) (ss':List Str),StrsAre out.toList ss'->ss'.Perm ss->sortedS ss'=true->Q (.ref (s.heap.objs.size+1)) { s with heap:=sortedAll s.heap vs out }) :
  wpAny (model P w) A (call (.builtin "sorted") [.ref l]) Q E s:=by
 refine Calls.call_function_entry kind_sorted plain_sorted entry_sorted (args_sorted1 _) ?_
 refine zd  (zH (zd (Qme ho hc hT hd (by rw[Zj];lia) (zd (wpAny_newList ?_)))))
 have z:((s.heap.push (seqObj "list" #[] 0)).update s.heap.objs.size (Obj.mapSeq (·++vs.toArray))).objs.size=s.heap.objs.size+1:=(Heap.size_update _ _ _).trans (size_push' _ _)
 have hL:(((s.heap.push (seqObj "list" #[] 0)).update s.heap.objs.size (Obj.mapSeq (·++vs.toArray))).push (seqObj "list" vs.toArray 0)).get? (s.heap.objs.size+1)=some (seqObj "list" vs.toArray 0):=(congrArg _ z.symm).trans (zG _ rfl)
 rw[z]
 refine zd (Zu (ZS slot_list_sort ⟨_,hL,rfl⟩ entry_list_sort (list_sort_treeK strKind_oneLt hL hS.keysOf (λv1 v2 r e=>keyKind_strs (by rw[<- e];exact hS)) h64 λst a1 a2=>⟨_,rfl,zH ⟨_,rfl,?_⟩⟩) (args_list_sort _)))
 obtain⟨ss',b1,b2,b3⟩:=sorted_out_str hS a1 a2
 exact h _ ss' b1 b2 b3
end
theorem Qim(v):∀l,(nub (l++[v])).length=if v∈l then(nub l).length else(nub l).length+1
 |[]=>rfl
 |x::xs=>by
  have ih:=Qim v xs
  rw[List.cons_append,nub,nub]
  grind
theorem QhA:∀l,(nub l).length<=l.length
 |[]=>zD _
 |x::xs=>by
  have:=QhA xs
  rw[nub]
  grind
section
variable {P:Program}{w:World}{A:Around}{E:Value->Shared->Prop}{s:Shared}
theorem QnG:∀{vs:List Value}{ss:List Str},StrsAre vs ss->∀{i:Nat}{v:Value},vs[i]?=some v->∃x t,ss[i]?=some x/\v=.str x t
 |_,_,.nil,i,v,h=>by simp_all
 |_,_,.cons x t _,0,v,h=>by simp at h;exact⟨x,t,rfl,h.symm⟩
 |_,_,.cons _ _ r,i+1,v,h=>QnG r  (by simp_all)
theorem Qmm{R:Result->Shared->Prop}{I:Addr}{fp wr:List Addr}{G:Array GenState->Array GenState->Prop}{n:Nat}{Pv:Nat->Value->Prop}{St:Nat->Shared->Prop}{ss:List Str}(W:WalksS P w A.in1 I fp wr G n Pv St)(S:Addr)(hSf:S∉fp)
  (hn:n=ss.length) (hv:∀i v,Pv i v->∃x t,ss[i]?=some x/\v=.str x t) (hb:n+1<scanBound) :
  ∀(k i:Nat) (s:Shared),n-i=k->i<=n->St i s->s.heap.SetOf (PySem.strKind P w) S (λy=>decide (y∈ss.take i)) (nub (ss.take i)).length ->
   (∀s',Moved (S::wr) G s s'->s'.heap.SetOf (PySem.strKind P w) S (λy=>decide (y∈ss)) (nub ss).length->R (.ok (.ret .none)) s') ->
   codeAny (model P w) A (.builtin "set.update.loop" ⟨[.ref S,.ref I],[]⟩) R s:=by
 have hSw:S∉wr:=λh=>hSf (W.sub _ h)
 have sub:∀b∈wr,b∈S::wr:=λb h=>zB _ h
 have keepS:∀{s s':Shared}{f:Str->Bool}{c:Nat},Moved wr G s s'->s.heap.SetOf (PySem.strKind P w) S f c->s'.heap.SetOf (PySem.strKind P w) S f c:=λhm hS=>by obtain⟨o,es,ep,t,ho,QcZ⟩:=hS;exact⟨o,es,ep,t,hm.heap S _ hSw ho,QcZ⟩
 intro k
 induction k with
 |zero =>
  intro i s hk hi st hS hR
  have e:i=n:=ZzL
  subst e
  refine zzg PyProof.Rows.F.entry_set_update_loop ?_
  rw[Around.under_plainId Z0 _]
  show wpAny _ A.in1 (pyNext (.ref I) >>= _) _ _ _
  refine zd (W.done s _ _ st λs' hm=>zH (hR s' (hm.mono sub) ?_))
  rw[hn,ZC]at hS
  exact keepS hm hS
 |succ k ih =>
  intro i s hk hi st hS hR
  have hlt:i<n:=ZzL
  refine zzg PyProof.Rows.F.entry_set_update_loop ?_
  rw[Around.under_plainId Z0 _]
  show wpAny _ A.in1 (pyNext (.ref I) >>= _) _ _ _
  refine zd (W.item i s _ _ hlt st λv s1 hP st1 hm=>?_)
  obtain⟨x,t,hx,rfl⟩:=hv i v hP
  have hS1:=keepS hm hS
  show wpAny _ A.in1 (holding [Value.str x t] (setAdd S (.str x t)) >>= _) _ _ s1
  refine zd (Zu ?_)
  unfold setAdd
  refine Zu (zd ((PySem.strKind P w).pyHash (k:=x) (strKind_is _ _ _ _) ?_))
  have room:(nub (ss.take i)).length+1<scanBound:=by have:=QhA (ss.take i);rw[Zk]at this;lia
  refine wpAny_setAddHashed_of (knd:=PySem.strKind P w) (strKind_is _ _ _ _) rfl hS1 room λh2 hsb hS2=>?_
  have tk:ss.take (i+1)=ss.take i++[x]:=by rw[List.take_add_one,hx];rfl
  have hS3:h2.SetOf (PySem.strKind P w) S (λy=>decide (y∈ss.take (i+1))) (nub (ss.take (i+1))).length:=by refine SetOf_congr hS2 (λy=>?_) ?_;rw[tk];simp[Bool.decide_or];rw[tk,Qim];simp only[Zl]
  refine zH ⟨plainId_quiet Z0 _,ih (i+1) _ ZzL hlt (W.frame _ s1 _ _ st1 (ZK _) λb hb o e=>?_) hS3 λs3 hm3 hS4=>hR s3 (Moved.trans W.gtrans ((hm.mono sub).then_heap (ZK _) λb o hb e=>?_) hm3) hS4⟩
  ·rw[hsb.2 b (λh:b=S=>hSf (h▸hb))];exact e
  ·rw[hsb.2 b (λh:b=S=>hb (h▸zN))];exact e
theorem tup_noset:isSubtype (.type "tuple") (.type "set")=pure false/\isSubtype (.type "tuple") (.type "frozenset")=pure false:=⟨rfl,rfl⟩
noncomputable abbrev QmB(led:Bool):Obj:={ cls:=.type "set",dict:=none,data:=.set #[] 0 (.fresh 0 0 led) }
theorem QhW{l:Addr}{o IO:Obj}{T:String}{vs:List Value}{n:Nat}{ss:List Str}{St:Addr->Nat->Heap->Prop}{Q:Value->Shared->Prop}(hh:A.handled=none)(ho:s.heap.get? l=some o)(hc:o.cls=.type T)(hT:T="list"\/T="tuple")(hd:o.data=.seq vs.toArray n)
  (hS:StrsAre vs ss) (hb:vs.length+1<scanBound) (hIO:IO.isFreed=false) (iter:∀(A':Around) (s1:Shared) (R:Value->Shared->Prop) (F:Value->Shared->Prop),s1.heap.get? l=some o->R (.ref s1.heap.objs.size) { s1 with heap:=s1.heap.push IO }->wpAny (model P w) A' (pyIter (.ref l)) R F s1)
  (walk:∀(A':Around) (I:Addr),A'.handled=none->l≠I->Walks P w A' I [I,l] [I] vs.length (λi v=>vs[i]?=some v) (St I)) (st0:∀(I:Addr) (h:Heap),h.get? I=some IO->h.get? l=some o->St I 0 h)
  (h:∀(h':Heap) (tk:Nat),h'.SetOf (PySem.strKind P w) s.heap.objs.size (λy=>decide (y∈ss)) (nub ss).length->(∀b o,b<s.heap.objs.size->s.heap.get? b=some o->h'.get? b=some o)->Q (.ref s.heap.objs.size) { s with heap:=h',toks:=tk }) :
  wpAny (model P w) A (call (.type "set") [.ref l]) Q E s:=by
 obtain⟨c0,tl,hmro⟩:=ZI.mro
 have hmade:=ZI.made
 have hsub:=ZI.sub
 refine wpAny_call (codeAny_of_tree ?_)
 show wpAny _ _ (callAny (.type "set") _) _ _ _
 refine zH ⟨zz0 _ (by decide +kernel),zzg PySem.F.entry_type_call ?_⟩
 rw[Around.under_plain (weight_type_call_type "set" [.ref l] []) rfl]
 have h1:=ZI.notType
 have h2:=ZI.canCreate
 have hct:=PySem.F.typeCall_set_1 (.ref l)
 repeat (any_goals (first|assumption|wp_step))
 refine zzw (code_set_new_1 (.ref l) (E:=E) (Q₁:=λob s1=>∃led:Bool,ob=.ref s.heap.objs.size/\s1={ s with heap:=s.heap.push (QmB led) }) λled=>⟨led,rfl,rfl⟩) λr s1 hr=>?_
 cases r with
 |error e=>exact hr
 |ok fl =>
  cases fl with
  |ret ob =>
   obtain⟨led,rfl,rfl⟩:=hr
   have hS0:(s.heap.push (QmB led)).get? s.heap.objs.size=some (QmB led):=zG _ rfl
   have hT0:Shared.TypeIs { s with heap:=s.heap.push (QmB led) } (.ref s.heap.objs.size) "set":=⟨_,hS0,rfl⟩
   have hli:=ZI.init.lookup
   have hbi:=ZI.init.bind (.ref s.heap.objs.size)
   repeat (any_goals (first|assumption|wp_step))
   refine zzw (zzl (R:=wants (λr s2=>r=.none/\∃h' tk,s2={ s with heap:=h',toks:=tk }/\h'.SetOf (PySem.strKind P w) s.heap.objs.size (λy=>decide (y∈ss)) (nub ss).length/\(∀b o,b<s.heap.objs.size->s.heap.get? b=some o->h'.get? b=some o)) E) ZI.init.plain PySem.F.entry_set_init (check_set_init_1 hT0 ?_)) λr2 s2 hr2=>?_
   ·obtain⟨oc,od,odt,osl⟩:=o
    simp only at hc hd
    subst hc hd
    have ho':(s.heap.push (QmB led)).get? l=some ⟨.type T,od,.seq vs.toArray n,osl⟩:=hps0 _ ho
    have hs1:isSubtype (.type T) (.type "set")=pure false:=by rcases hT with rfl|rfl;exact PySem.F.sub_list_set;exact tup_noset.1
    have hs2:isSubtype (.type T) (.type "frozenset")=pure false:=by rcases hT with rfl|rfl;exact PySem.F.sub_list_frozenset;exact tup_noset.2
    have hne:(Value.type T==Value.type "dict")=false:=by rcases hT with rfl|rfl<;>decide
    unfold Builtin.«set.__init__» noKeywords Builtin.Frozenset.updateFrom
    generalize hPI:pyIter=PI
    wp_walk
    subst hPI
    have hlS:l<s.heap.objs.size:=zL ho
    have z1:(s.heap.push (QmB led)).objs.size=s.heap.objs.size+1:=ZW ..
    refine iter _ _ _ _ ho' (zd (wpAny_runValue ?_))
    refine Qmm (ss:=ss) ((walk _ _ (by simp[hh]) (by rw[z1];exact zU (Nat.lt_succ_of_lt hlS))).toS) s.heap.objs.size ?_ (by rw[hS.length]) (λi v e=>QnG hS e) hb (vs.length-0) 0 _ rfl (ZQ _) (st0 _ _ (zG _ hIO) (hps0 _ ho')) ?_ ?_
    ·rw[z1]
     simp only[zS,Zr,zzM,not_or]
     exact⟨zU (zzt _),ZO hlS⟩
    ·exact SetOf_congr ((setObjOf_fresh (knd:=PySem.strKind P w) led).setOf (hps0 _ hS0) (by unfold scanBound;lia)) (λ_=>rfl) rfl
    ·intro s' hm hS'
     obtain⟨h',g',d',tk',os'⟩:=s'
     have eg:g'=s.gens:=hm.gens
     have ed:d'=s.drawn:=hm.drawn
     have eo:os'=s.os:=hm.os
     subst eg ed eo
     refine zH (zH ⟨rfl,h',tk',rfl,hS',λb o hb e=>?_⟩)
     refine hm.heap b o ?_ (hps0 _ (hps0 _ e))
     rw[z1]
     simp only[zS,Zr,zzM,not_or]
     exact⟨zU hb,zU (Nat.lt_succ_of_lt hb)⟩
   ·cases r2 with
    |error e=>exact hr2
    |ok fl2 =>
     cases fl2 with
     |ret r =>
      obtain⟨rfl,h',tk,rfl,hS',hk'⟩:=hr2
      repeat (any_goals (first|assumption|wp_step))
      exact h _ _ hS' hk'
     |_=>exact hr2.elim
  |_=>exact hr.elim
end
inductive W where
 |non|bl (b:Bool)|int (i:Int)|str (s:Str)
 |tup (ws:List W)|lst (ws:List W)|scr (ws:List W)|dic (ks:List Str) (ws:List W)
 |ref (n:Nat)|ins (c:Nat) (ws:List W)
inductive Ob where
 |lst (ws:List W)|dic (ks:List Str) (ws:List W)
abbrev Qaa:=List Ob
inductive Res (α:Type) where
 |ok (a:α) (h:Qaa)|exc (c:Nat) (h:Qaa)|stuck
noncomputable def bnd{α β:Type}(r:Res α)(f:α->Qaa->Res β):Res β:=match r with
 |.ok a h=>f a h
 |.exc c h=>.exc c h
 |.stuck=>.stuck
noncomputable def QcA:Nat->Str
 |0=>"Standing"
 |_=>"Register"
noncomputable def Qa9:Nat->List Str
 |0=>["deed","part_list","follows","dead"]
 |_=>["names","standings"]
noncomputable def nowh:Hp:=λ_=>none
def QT(K:Fg0)(ρ:List Addr)(H:Hp)(a:Addr)(xs:List V):Prop:=(a∉ρ/\Rd H a (.tup xs))\/SqT K nowh a xs
def QL(K:Fg0)(ρ:List Addr)(H:Hp)(a:Addr)(xs:List V):Prop:=(a∉ρ/\Rd H a (.lst xs))\/SqL K nowh a xs
theorem Rd.nowh(h:Rd nowh a u):False:=by rcases h with h|⟨_,h⟩<;>cases h
theorem QT.sq{K:Fg0}(q:QT K ρ H a xs):SqT K H a xs:=by rcases q with⟨_,q⟩|q|q;exact .inl q;exact(Rd.nowh q).elim;exact .inr q
theorem QL.sq{K:Fg0}(q:QL K ρ H a xs):SqL K H a xs:=by rcases q with⟨_,q⟩|q|q;exact .inl q;exact(Rd.nowh q).elim;exact .inr q
inductive RS (p:Addr->List V->Prop) (q:List V->Prop) (v:V):Prop
 |mk (a:Addr) (xs:List V) (e:v=.ref a) (h:p a xs) (rs:q xs)
inductive RT (ρ:List Addr) (H:Hp) (q:List V->Prop) (v:V):Prop
 |mk (a:Addr) (xs:List V) (e:v=.ref a) (n:a∉ρ) (h:H a=some (.lst xs)) (rs:q xs)
inductive RD (ρ:List Addr) (H:Hp) (ks:List Str) (q:List V->Prop) (v:V):Prop
 |mk (a:Addr) (xs:List V) (e:v=.ref a) (n:a∉ρ) (h:Rd H a (.dK ((ks.map Sum.inr).zip xs))) (l:ks.length=xs.length) (rs:q xs)
inductive RI (K:Fg0) (ρ:List Addr) (H:Hp) (c:Nat) (q:List V->Prop) (v:V):Prop
 |mk (a:Addr) (dx:Addr) (xs:List V) (C:Addr) (e:v=.ref a) (n:a∉ρ) (h:H a=some (.ins C dx ((Qa9 c).zip xs))) (l:(Qa9 c).length=xs.length) (m:PySem.W.nsIn K mainGlobals (QcA c)=some (some (.ref C))) (rs:q xs)
inductive RC (p:V->Prop) (q:List V->Prop) (xs:List V):Prop
 |mk (y:V) (ys:List V) (e:xs=y::ys) (r:p y) (rs:q ys)
mutual
def Rel(K:Fg0)(ρ:List Addr)(H:Hp):W->V->Prop
 |.non,v=>v=.non
 |.bl b,v=>v=.bl b
 |.int i,v=>v=.int i
 |.str s,v=>v=.str s
 |.tup ws,v=>RS (QT K ρ H) (RelL K ρ H ws) v
 |.lst ws,v=>RT ρ H (RelL K ρ H ws) v
 |.scr ws,v=>RS (QL K ρ H) (RelL K ρ H ws) v
 |.dic ks ws,v=>RD ρ H ks (RelL K ρ H ws) v
 |.ref n,v=>∃a,v=.ref a/\ρ[n]?=some a
 |.ins c ws,v=>RI K ρ H c (RelL K ρ H ws) v
def RelL(K:Fg0)(ρ:List Addr)(H:Hp):List W->List V->Prop
 |[],xs=>xs=[]
 |w::ws,xs=>RC (Rel K ρ H w) (RelL K ρ H ws) xs
end
mutual
noncomputable def Qah:W->Bool
 |.tup ws=>Qaf ws
 |.lst ws=>Qaf ws
 |.scr ws=>Qaf ws
 |.dic _ ws=>Qaf ws
 |.ref _=>false
 |.ins _ ws=>Qaf ws
 |_=>true
noncomputable def Qaf:List W->Bool
 |[]=>true
 |w::ws=>Qah w&&Qaf ws
end
mutual
theorem Rel.less{K:Fg0}(hs:∀a,a∈ρ->a∈ρ'):∀w v,Qah w=true->Rel K ρ' H w v->Rel K ρ H w v
 |.non,v,_,h=>by rw[Rel]at h ⊢;exact h
 |.bl b,v,_,h=>by rw[Rel]at h ⊢;exact h
 |.int i,v,_,h=>by rw[Rel]at h ⊢;exact h
 |.str s,v,_,h=>by rw[Rel]at h ⊢;exact h
 |.tup ws,v,p,h=>by rw[Rel]at h ⊢;rw[Qah]at p;obtain⟨a,xs,e,q,r⟩:=h;exact⟨a,xs,e,q.imp (λz=>⟨λy=>z.1 (hs a y),z.2⟩) id,RelL.less hs ws xs p r⟩
 |.lst ws,v,p,h=>by rw[Rel]at h ⊢;rw[Qah]at p;obtain⟨a,xs,e,n,q,r⟩:=h;exact⟨a,xs,e,λy=>n (hs a y),q,RelL.less hs ws xs p r⟩
 |.scr ws,v,p,h=>by rw[Rel]at h ⊢;rw[Qah]at p;obtain⟨a,xs,e,q,r⟩:=h;exact⟨a,xs,e,q.imp (λz=>⟨λy=>z.1 (hs a y),z.2⟩) id,RelL.less hs ws xs p r⟩
 |.dic ks ws,v,p,h=>by rw[Rel]at h ⊢;rw[Qah]at p;obtain⟨a,xs,e,n,q,l,r⟩:=h;exact⟨a,xs,e,λy=>n (hs a y),q,l,RelL.less hs ws xs p r⟩
 |.ref n,v,p,h=>by rw[Qah]at p;cases p
 |.ins c ws,v,p,h=>by rw[Rel]at h ⊢;rw[Qah]at p;obtain⟨a,dx,xs,C,e,n,q,l,z,r⟩:=h;exact⟨a,dx,xs,C,e,λy=>n (hs a y),q,l,z,RelL.less hs ws xs p r⟩
theorem RelL.less{K:Fg0}(hs:∀a,a∈ρ->a∈ρ'):∀ws xs,Qaf ws=true->RelL K ρ' H ws xs->RelL K ρ H ws xs
 |[],xs,_,h=>by rw[RelL]at h ⊢;exact h
 |w::ws,xs,p,h=>by rw[RelL]at h ⊢;rw[Qaf,zE]at p;obtain⟨y,ys,e,r,rs⟩:=h;exact⟨y,ys,e,Rel.less hs w y p.1 r,RelL.less hs ws ys p.2 rs⟩
end
def ObRel(K:Fg0)(ρ:List Addr)(H:Hp)(a:Addr):Ob->Prop
 |.lst ws=>Qaf ws=true/\∃xs,H a=some (.lst xs)/\RelL K ρ H ws xs
 |.dic ks ws=>Qaf ws=true/\∃xs,H a=some (.dK ((ks.map Sum.inr).zip xs))/\ks.length=xs.length/\RelL K ρ H ws xs
structure HRel (K:Fg0) (ρ:List Addr) (h:Qaa) (H:Hp):Prop where
 len:ρ.length=h.length
 nd:ρ.Nodup
 at_:∀(n:Nat) (a:Addr) (o:Ob),ρ[n]?=some a->h[n]?=some o->ObRel K ρ H a o
structure Ext (ρ:List Addr) (H:Hp) (ρ':List Addr) (H':Hp):Prop where
 pre:ρ <+: ρ'
 keep:∀a o,H a=some o->a∉ρ->H' a=some o\/∃ob kvs,o=.dK kvs/\H' a=some (.frz ob o)
 out:∀a o,H a=some o->a∉ρ->a∉ρ'
theorem Ext.refl:Ext ρ H ρ H:=⟨List.prefix_refl _,λ_ _ e _=>.inl e,λ_ _ _ h=>h⟩
theorem Ext.trans(x:Ext ρ H ρ1 H1)(y:Ext ρ1 H1 ρ2 H2):Ext ρ H ρ2 H2 :=
 ⟨x.pre.trans y.pre,λa o e n=>(by
  rcases x.keep a o e n with h|⟨ob,kvs,ek,h⟩
  ·exact y.keep a o h (x.out a o e n)
  ·rcases y.keep a _ h (x.out a o e n) with h2|⟨_,_,ek2,_⟩
   ·simp_all
   simp_all),λa o e n=>(by
  rcases x.keep a o e n with h|⟨ob,kvs,ek,h⟩
  ·exact y.out a o h (x.out a o e n)
  ·exact y.out a _ h (x.out a o e n))⟩
theorem Ext.keepN(x:Ext ρ H ρ' H')(e:H a=some o)(n:a∉ρ)(d:∀kvs,o≠.dK kvs):H' a=some o:=by
 rcases x.keep a o e n with h|⟨_,kvs,ek,_⟩
 ·lia
 simp_all
theorem Ext.keepD(x:Ext ρ H ρ' H')(e:Rd H a (.dK kvs))(n:a∉ρ):Rd H' a (.dK kvs)/\a∉ρ':=by rcases e with e|⟨ob,e⟩;refine⟨?_,x.out a _ e n⟩;rcases x.keep a _ e n with h|⟨ob,_,_,h⟩;exact .inl h;exact .inr ⟨ob,h⟩;exact⟨.inr ⟨ob,x.keepN e n (λ_ z=>by simp_all)⟩,x.out a _ e n⟩
section
variable {K:Fg0}{ρ ρ':List Addr}{H H':Hp}
theorem QT.ext{a:Addr}{xs:List V}(x:Ext ρ H ρ' H')(q:QT K ρ H a xs):QT K ρ' H' a xs:=by rcases q with⟨n,q|⟨o,q⟩⟩|q;exact .inl ⟨x.out a _ q n,.inl (x.keepN q n (λ_ z=>by cases z))⟩;exact .inl ⟨x.out a _ q n,.inr ⟨o,x.keepN q n (λ_ z=>by cases z)⟩⟩;exact .inr q
theorem QL.ext{a:Addr}{xs:List V}(x:Ext ρ H ρ' H')(q:QL K ρ H a xs):QL K ρ' H' a xs:=by rcases q with⟨n,q|⟨o,q⟩⟩|q;exact .inl ⟨x.out a _ q n,.inl (x.keepN q n (λ_ z=>by cases z))⟩;exact .inl ⟨x.out a _ q n,.inr ⟨o,x.keepN q n (λ_ z=>by cases z)⟩⟩;exact .inr q
mutual
theorem Rel.ext(x:Ext ρ H ρ' H'):∀(w:W) (v:V),Rel K ρ H w v->Rel K ρ' H' w v
 |.non,v,h=>by rw[Rel]at h ⊢;exact h
 |.bl b,v,h=>by rw[Rel]at h ⊢;exact h
 |.int i,v,h=>by rw[Rel]at h ⊢;exact h
 |.str s,v,h=>by rw[Rel]at h ⊢;exact h
 |.tup ws,v,h=>by rw[Rel]at h ⊢;obtain⟨a,xs,e,q,r⟩:=h;exact⟨a,xs,e,q.ext x,RelL.ext x ws xs r⟩
 |.lst ws,v,h=>by rw[Rel]at h ⊢;obtain⟨a,xs,e,n,q,r⟩:=h;exact⟨a,xs,e,x.out a _ q n,x.keepN q n (λ_ z=>by cases z),RelL.ext x ws xs r⟩
 |.scr ws,v,h=>by rw[Rel]at h ⊢;obtain⟨a,xs,e,q,r⟩:=h;exact⟨a,xs,e,q.ext x,RelL.ext x ws xs r⟩
 |.dic ks ws,v,h=>by rw[Rel]at h ⊢;obtain⟨a,xs,e,n,q,l,r⟩:=h;exact⟨a,xs,e,(x.keepD q n).2,(x.keepD q n).1,l,RelL.ext x ws xs r⟩
 |.ref n,v,h=>by rw[Rel]at h ⊢;obtain⟨a,e,q⟩:=h;obtain⟨t,rfl⟩:=x.pre;exact⟨a,e,by rw[zI (ze.mp q).1];exact q⟩
 |.ins c ws,v,h=>by rw[Rel]at h ⊢;obtain⟨a,dx,xs,C,e,n,q,l,z,r⟩:=h;exact⟨a,dx,xs,C,e,x.out a _ q n,x.keepN q n (λ_ z=>by cases z),l,z,RelL.ext x ws xs r⟩
theorem RelL.ext(x:Ext ρ H ρ' H'):∀(ws:List W) (xs:List V),RelL K ρ H ws xs->RelL K ρ' H' ws xs
 |[],xs,h=>by rw[RelL]at h ⊢;exact h
 |w::ws,xs,h=>by rw[RelL]at h ⊢;obtain⟨y,ys,e,r,rs⟩:=h;exact⟨y,ys,e,Rel.ext x w y r,RelL.ext x ws ys rs⟩
end
end
section
variable {K:Fg0}{ρ:List Addr}{H:Hp}
theorem RelL.length:∀{ws:List W}{xs:List V},RelL K ρ H ws xs->ws.length=xs.length
 |[],xs,h=>by subst h;rfl
 |w::ws,xs,h=>by obtain⟨y,ys,rfl,_,rs⟩:=h;simp[RelL.length rs]
theorem RelL.get:∀{ws:List W}{xs:List V}{i:Nat}{w:W},RelL K ρ H ws xs->ws[i]?=some w->∃x,xs[i]?=some x/\Rel K ρ H w x
 |[],_,_,_,_,e=>by simp_all
 |u::ws,xs,i,w,h,e=>by
  obtain⟨y,ys,rfl,r,rs⟩:=h;cases i with
  |zero=>simp_all
  |succ i=>obtain⟨x,h1,h2⟩:=RelL.get  rs (by assumption);simp_all
theorem RelL.nil:RelL K ρ H [] []:=rfl
theorem RelL.cons{w:W}{x:V}{ws:List W}{xs:List V}(r:Rel K ρ H w x)(rs:RelL K ρ H ws xs):RelL K ρ H (w::ws) (x::xs):=⟨x,xs,rfl,r,rs⟩
theorem RelL.append:∀{ws us:List W}{xs ys:List V},RelL K ρ H ws xs->RelL K ρ H us ys->RelL K ρ H (ws++us) (xs++ys)
 |[],_,xs,_,h,k=>by subst h;exact k
 |w::ws,us,xs,ys,h,k=>by obtain⟨y,zs,rfl,r,rs⟩:=h;exact RelL.cons r (RelL.append rs k)
theorem RelL.set:∀{ws:List W}{xs:List V}{w:W}{x:V} (i:Nat),RelL K ρ H ws xs->Rel K ρ H w x->RelL K ρ H (ws.set i w) (xs.set i x)
 |[],xs,_,_,_,h,_=>by subst h;rfl
 |u::ws,xs,w,x,i,h,r=>by
  obtain⟨y,ys,rfl,r',rs⟩:=h;cases i with
  |zero=>exact RelL.cons r rs
  |succ i=>exact RelL.cons r' (RelL.set i rs r)
theorem RelL.take:∀{ws:List W}{xs:List V} (n:Nat),RelL K ρ H ws xs->RelL K ρ H (ws.take n) (xs.take n)
 |_,_,0,_=>rfl
 |[],xs,_+1,h=>by subst h;rfl
 |w::ws,xs,n+1,h=>by obtain⟨y,ys,rfl,r,rs⟩:=h;exact RelL.cons r (RelL.take n rs)
theorem RelL.drop:∀{ws:List W}{xs:List V} (n:Nat),RelL K ρ H ws xs->RelL K ρ H (ws.drop n) (xs.drop n)
 |_,_,0,h=>h
 |[],xs,_+1,h=>by subst h;rfl
 |w::ws,xs,n+1,h=>by obtain⟨y,ys,rfl,r,rs⟩:=h;exact RelL.drop n rs
theorem RelL.flatrep(r:RelL K ρ H ws xs):∀n:Nat,RelL K ρ H (List.replicate n ws).flatten (List.replicate n xs).flatten
 |0=>.nil
 |n+1=>r.append (RelL.flatrep r n)
end
abbrev Qai:=List (Option W)
def RelO(K:Fg0)(ρ:List Addr)(H:Hp)(o:Option W)(o':Option V):Prop:=∀w,o=some w->∃v,o'=some v/\Rel K ρ H w v
structure RelE (K:Fg0) (ρ:List Addr) (H:Hp) (σ:Qai) (τ:L2.St):Prop where
 len:σ.length=τ.length
 at_:∀(i:Nat) (w:W),σ[i]?=some (some w)->∃v,τ[i]?=some (some v)/\Rel K ρ H w v
section
variable {K:Fg0}{ρ ρ':List Addr}{H H':Hp}{σ:Qai}{τ:L2.St}
theorem RelE.ext(x:Ext ρ H ρ' H')(r:RelE K ρ H σ τ):RelE K ρ' H' σ τ:=⟨r.len,λi w e=>let ⟨v,h1,h2⟩:=r.at_ i w e;⟨v,h1,Rel.ext x w v h2⟩⟩
theorem RelE.set(r:RelE K ρ H σ τ)(i:Nat)(h:Rel K ρ H w v):RelE K ρ H (σ.set i (some w)) (τ.set i (some v)):=by refine⟨by simp[r.len],λj u e=>?_⟩;rw[List.getElem?_set]at e ⊢;split at e;rename_i hij;rw[zF hij];split at e;rename_i hl;rw[zF (by rw[<- r.len];exact hl)];simp_all;simp_all;rename_i hij;rw[zM hij];exact r.at_ j u e
end
abbrev EXT:=Nat->Qaa->List Addr->Hp->Prop
def RQ{α:Type}(K:Fg0)(EX:EXT)(ρ:List Addr)(H:Hp)(r:Res α)(k:α->Qaa->List Addr->Hp->Prop):Prop:=match r with
 |.ok a h=>∀ρ' H',Ext ρ H ρ' H'->HRel K ρ' h H'->k a h ρ' H'
 |.exc c h=>∀ρ' H',Ext ρ H ρ' H'->HRel K ρ' h H'->EX c h ρ' H'
 |.stuck=>False
section
variable {α β:Type}{K:Fg0}{EX:EXT}{ρ:List Addr}{H:Hp}{h:Qaa}
theorem RQ.bnd{r:Res α}{f:α->Qaa->Res β}{k:β->Qaa->List Addr->Hp->Prop}(q:RQ K EX ρ H (bnd r f) k) :
  RQ K EX ρ H r (λa h' ρ' H'=>RQ K EX ρ' H' (f a h') k):=by
 cases r with
 |ok a h' =>
  intro ρ' H' x hr
  cases e:f a h' with
  |ok b h2 =>
   have q' :=by have q1:RQ K EX ρ H (f a h') k:=q;rw[e]at q1;omega
   exact λρ2 H2 y hr2=>q' ρ2 H2 (x.trans y) hr2
  |exc c h2 =>
   have q' :=by have q1:RQ K EX ρ H (f a h') k:=q;rw[e]at q1;omega
   exact λρ2 H2 y hr2=>q' ρ2 H2 (x.trans y) hr2
  |stuck =>
   have q1:RQ K EX ρ H (f a h') k:=q
   rw[e]at q1;exact q1
 |exc c h'=>exact q
 |stuck=>exact q
theorem RQ.mono{r:Res α}{k k':α->Qaa->List Addr->Hp->Prop}(q:RQ K EX ρ H r k)(m:∀a h' ρ' H',Ext ρ H ρ' H'->HRel K ρ' h' H'->k a h' ρ' H'->k' a h' ρ' H'):RQ K EX ρ H r k':=by
 cases r with
 |ok a h'=>exact λρ' H' x hr=>m _ _ _ _ x hr (q ρ' H' x hr)
 |exc c h'=>exact q
 |stuck=>exact q
theorem RQ.wk{r:Res α}{k:α->Qaa->List Addr->Hp->Prop}{ρ1:List Addr}{H1:Hp}(x:Ext ρ H ρ1 H1)(q:RQ K EX ρ H r k):RQ K EX ρ1 H1 r k:=by
 cases r with
 |ok a h'=>exact λρ' H' y hr=>q ρ' H' (x.trans y) hr
 |exc c h'=>exact λρ' H' y hr=>q ρ' H' (x.trans y) hr
 |stuck=>exact q
theorem RQ.here{a:α}{k:α->Qaa->List Addr->Hp->Prop}(hr:HRel K ρ h H)(q:RQ K EX ρ H (.ok a h) k):k a h ρ H:=q ρ H .refl hr
end
inductive TR {α:Type} (K:Fg0) (EX:EXT) (ev:Qai->Qaa->Res α) (k:α->Qaa->List Addr->Hp->Prop) (τ:L2.St) (H:Hp):Prop
 |mk (ρ:List Addr) (σ:Qai) (h:Qaa) (re:RelE K ρ H σ τ) (hr:HRel K ρ h H) (q:RQ K EX ρ H (ev σ h) k)
def tI(K:Fg0)(EX:EXT)(ev:Qai->Qaa->Res W):TE:=λτ H Q=>TR K EX ev (λw _ ρ' H'=>∀v,Rel K ρ' H' w v->Q v H') τ H
def tIT(K:Fg0)(EX:EXT)(ev:Qai->Qaa->Res Bool):TT:=λτ H Q=>TR K EX ev (λb _ _ H'=>Q b H') τ H
def tIA(K:Fg0)(EX:EXT)(ev:Qai->Qaa->Res (List W)):TA:=λτ H Q=>TR K EX ev (λws _ ρ' H'=>∀vs,RelL K ρ' H' ws vs->Q vs H') τ H
inductive Fl where
 |nx (σ:Qai)|ret (w:W)|brk (σ:Qai)|cnt (σ:Qai)
def FlQ(K:Fg0)(D:Ends):Fl->Qaa->List Addr->Hp->Prop
 |.nx σ,_,ρ,H=>∀τ,RelE K ρ H σ τ->D.nx τ H
 |.brk σ,_,ρ,H=>∀τ,RelE K ρ H σ τ->D.bk τ H
 |.cnt σ,_,ρ,H=>∀τ,RelE K ρ H σ τ->D.ct τ H
 |.ret w,_,ρ,H=>∀v,Rel K ρ H w v->D.rt v H
def tIS(K:Fg0)(EX:EXT)(ex:Qai->Qaa->Res Fl):TS:=λD τ H=>TR K EX ex (FlQ K D) τ H
theorem _root_.L2.PE.sub(p:PE X e t)(h:∀τ H Q,t' τ H Q->t τ H Q):PE X e t':=λpins s σ H Q I q=>p pins s σ H Q I (h _ _ _ q)
theorem _root_.L2.PT.sub(p:PT X e t)(h:∀τ H Q,t' τ H Q->t τ H Q):PT X e t':=λpins s σ H Q I q=>p pins s σ H Q I (h _ _ _ q)
theorem _root_.L2.PW.sub(p:PW X e t)(h:∀τ H Q,t' τ H Q->t τ H Q):PW X e t':=λwhole pins s σ H Q I q=>p whole pins s σ H Q I (h _ _ _ q)
theorem _root_.L2.PA.sub(p:PA X e t)(h:∀τ H Q,t' τ H Q->t τ H Q):PA X e t':=λpos pins s σ H Q I q=>p pos pins s σ H Q I (h _ _ _ q)
theorem _root_.L2.PS.sub(p:PS X e t)(h:∀D τ H,t' D τ H->t D τ H):PS X e t':=λpins s σ H D I q=>p pins s σ H D I (h _ _ _ q)
theorem _root_.L2.PSs.sub(p:PSs X e t)(h:∀D τ H,t' D τ H->t D τ H):PSs X e t':=λpins s σ H D I q=>p pins s σ H D I (h _ _ _ q)
inductive Ty where|int|bool|str|tuple|list
 deriving DecidableEq
inductive Bl where|len|list|tuple|max|min|int|sorted|dict|all|any
 deriving DecidableEq
inductive Mt where|append|clear|pop|extend|get|get2|index
 deriving DecidableEq
set_option genInjectivity false
set_option genInjectivity false in
inductive E where
 |con (w:W)|var (i:Nat)
 |bin (op:Operator) (a b:E)|neg (a:E)
 |cmp (op:CmpOp) (a b:E)
 |and_ (a b:E)|or_ (a b:E)|not_ (a:E)|ite (c a b:E)
 |tup (es:List E)|lst (es:List E)
 |ix (a b:E)|sl (a:E) (lo hi:Option E)
 |call (f:Nat) (es:List E)|blt (b:Bl) (es:List E)|isi (a:E) (ts:List Ty)
 |meth (m:Mt) (a:E) (es:List E)
 |dic0|newAdd (a b:E)
 |fld (c k:Nat) (a:E)|mth (f:Nat) (a:E) (es:List E)|chn (o1 o2:CmpOp) (a b c:E)
 |slen (a:E)|lrng (a b:E)|zipE (a b:E)|enmE (k:Int) (a:E)|revE (a:E)|lrev (a:E)
 |compS (is:List Nat) (n:Nat) (a:E) (ifs:List E) (elt:E)
 |compR (is:List Nat) (n:Nat) (es:List E) (ifs:List E) (elt:E)
noncomputable def stp(t:Bool):Int:=if t then 3 else 2
abbrev V0:E:=.var 0
abbrev V1:E:=.var 1
abbrev V2:E:=.var 2
abbrev V3:E:=.var 3
abbrev V4:E:=.var 4
abbrev V5:E:=.var 5
abbrev V6:E:=.var 6
abbrev V7:E:=.var 7
abbrev V8:E:=.var 8
abbrev V9:E:=.var 9
abbrev V10:E:=.var 10
abbrev V11:E:=.var 11
abbrev V12:E:=.var 12
abbrev V13:E:=.var 13
abbrev V14:E:=.var 14
abbrev V15:E:=.var 15
abbrev V16:E:=.var 16
abbrev I11:E:=.con (.int 11)
abbrev I12:E:=.con (.int 12)
abbrev I19:E:=.con (.int 19)
abbrev I20:E:=.con (.int 20)
abbrev I26:E:=.con (.int 26)
set_option genInjectivity false in
inductive It where
 |seq (a:E)|rng (es:List E)|rng2 (t:Bool) (a b:E)
set_option genInjectivity false in
inductive Fp where
 |lit|con|var (i:Nat)|rep (i:Nat)
inductive Hd where
 |ret (w:W)|asg (i:Nat) (w:W)
set_option genInjectivity false in
inductive S where
 |raise (c:Nat) (ps:List Fp)|tryR (e:E) (hs:List (Nat×Hd))|tryA (i:Nat) (e:E) (hs:List (Nat×Hd))|tryF (e:E) (i:Nat) (cs all:List Nat)|tryX (e:E) (i:Nat) (cs all:List Nat)|tryB (b:List S) (i:Nat) (cs all:List Nat)
 |dupd (i:Nat) (e:E) (k v:Nat)|freshD (i:Nat)|freshD1 (i:Nat) (k v:E)|freshC (i:Nat) (e:E)
 |asg (i:Nat) (e:E)|fresh (i:Nat) (e:E)|par (i j:Nat) (a b:E)|unp (is:List Nat) (e:E)
 |setix (a b e:E)|exp (e:E)|ret (e:E)
 |if_ (c:E) (a b:List S)|while_ (c:E) (b:List S)|for_ (is:List Nat) (it:It) (b:List S)
 |pass_|brk|cnt|bad
set_option genInjectivity true
noncomputable def seqL(h:Qaa):W->Option (List W)
 |.lst ws=>some ws
 |.scr ws=>some ws
 |.ref n=>match h[n]? with
  |some (.lst ws)=>some ws
  |_=>none
 |_=>none
noncomputable def QaO(h:Qaa):W->Option (List Str×List W)
 |.dic ks ws=>some (ks,ws)
 |.ref n=>match h[n]? with
  |some (.dic ks ws)=>some (ks,ws)
  |_=>none
 |_=>none
noncomputable def QdG:List Str->List W->Str->Option W
 |k::ks,w::ws,x=>if k=x then some w else QdG ks ws x
 |_,_,_=>none
noncomputable def QlM:List Str->List W->Str->W->List W
 |k::ks,w::ws,x,v=>(if k=x then v else w)::QlM ks ws x v
 |_,ws,_,_=>ws
noncomputable def QdH(ks:List Str)(ws:List W)(x:Str)(v:W):List Str×List W:=if(ks.any λk=>decide (k=x))=true then(ks,QlM ks ws x v) else(ks++[x],ws++[v])
noncomputable def seqM(h:Qaa):W->Option (List W)
 |.lst ws=>some ws
 |.ref n=>match h[n]? with
  |some (.lst ws)=>some ws
  |_=>none
 |_=>none
noncomputable def Qe3:W->Option (List W)
 |.tup ws=>some ws
 |_=>none
noncomputable def seqA(h:Qaa)(w:W):Option (List W):=(Qe3 w).or (seqL h w)
noncomputable def okI(i:Int)(h:Qaa):Res W:=.ok (.int i) h
noncomputable def okB(b:Bool)(h:Qaa):Res W:=.ok (.bl b) h
noncomputable def hid{α:Type}(a:α):α:=Classical.choose (⟨a,rfl⟩:∃x,x=a)
theorem QcO{α:Type}{a:α}:hid a=a:=Classical.choose_spec (⟨a,rfl⟩:∃x,x=a)
noncomputable def Qqx(i j:Int):Bool:=decide ((-(2^64)<i/\i<2^64)\/(-(2^64)<j/\j<2^64))||decide (PySem.Builtin.Int.intBits i+PySem.Builtin.Int.intBits j<=134217728)
noncomputable def Qdb(i j:Int):Bool:=hid (Qqx i j)
theorem QcC:Qdb i j=Qqx i j:=QcO
noncomputable def QgI(op:Operator)(i j:Int)(h:Qaa):Res W:=match op with
 |.Add=>okI (i+j) h
 |.Sub=>okI (i-j) h
 |.Mult=>if Qdb i j then okI (i*j) h else .stuck
 |.FloorDiv=>if j≠0/\j.natAbs.log2<9000 then okI (i.fdiv j) h else .stuck
 |.Mod=>if j≠0 then okI (i.fmod j) h else .stuck
 |.Pow=>if 0<=j/\j<=1000000/\i.natAbs<2^64 then okI (i^j.toNat) h else .stuck
 |_=>.stuck
noncomputable def Qd3(x y:Option (List W))(h:Qaa):Res (List W):=match x,y with
 |some ws,some us=>if ws.length+us.length<=sizeLine then .ok (ws++us) h else .stuck
 |_,_=>.stuck
noncomputable def repL(x:Option (List W))(j:Int)(h:Qaa):Res (List W):=match x with
 |some ws=>if -(2^63)<=j/\j<2^63/\ws.length*j.toNat<=sizeLine then .ok (List.replicate j.toNat ws).flatten h else .stuck
 |none=>.stuck
noncomputable def okL(r:Res (List W)):Res W:=bnd r λws h=>.ok (.lst ws) h
noncomputable def okT(r:Res (List W)):Res W:=bnd r λws h=>.ok (.tup ws) h
noncomputable def ltS(a b:Str):Bool:=decide (a.cps.toList<b.cps.toList)
noncomputable def opW(op:Operator)(x y:W)(h:Qaa):Res W:=match x,y with
 |.int i,.int j=>QgI op i j h
 |.str a,.str b=>match op with
  |.Add=>if a.length+b.length<=sizeLine then .ok (.str (a++b)) h else .stuck
  |_=>.stuck
 |.str a,.int n=>match op with
  |.Mult=>if a.length<=1000/\-1000<=n/\n<=1000 then .ok (.str (Txt.mul a n)) h else .stuck
  |_=>.stuck
 |.tup ws,.tup us=>match op with
  |.Add=>okT (Qd3 (some ws) (some us) h)
  |_=>.stuck
 |x,.int j=>match op with
  |.Mult=>okL (repL (seqM h x) j h)
  |_=>.stuck
 |x,y=>match op with
  |.Add=>okL (Qd3 (seqM h x) (seqM h y) h)
  |_=>.stuck
mutual
noncomputable def toP:W->PyData
 |.non=>.none
 |.bl b=>.bool b
 |.int i=>.int i
 |.str x=>.str x
 |.tup ws=>.tuple (QgA ws)
 |.lst ws=>.list (QgA ws)
 |.scr ws=>.list (QgA ws)
 |.dic _ _=>.none
 |.ref _=>.none
 |.ins _ _=>.none
noncomputable def QgA:List W->List PyData
 |[]=>[]
 |w::ws=>toP w::QgA ws
end
mutual
noncomputable def okP:W->Bool
 |.tup ws=>QlD ws
 |.lst ws=>QlD ws
 |.scr ws=>QlD ws
 |.dic _ _=>false
 |.ref _=>false
 |.ins _ _=>false
 |_=>true
noncomputable def QlD:List W->Bool
 |[]=>true
 |w::ws=>okP w&&QlD ws
end
noncomputable def QbQ(h:Qaa)(w:W):Option W:=match w with
 |.ref n=>match h[n]? with
  |some (.lst ws)=>if QlD ws then some (.lst ws) else none
  |_=>none
 |w=>if okP w then some w else none
noncomputable def eqW(h:Qaa)(x y:W):Option Bool:=match x,y with
 |.int i,.int j=>some (decide (i=j))
 |.bl i,.bl j=>some (decide (i=j))
 |.str i,.str j=>some (decide (i=j))
 |x,y=>match QbQ h x,QbQ h y with
  |some a,some b=>if SeqAt.shaped (toP a)&&SeqAt.shaped (toP b) then some (PyData.eqv (toP a) (toP b)) else none
  |_,_=>none
noncomputable def Qc5:W->Bool
 |.non=>true
 |.bl _=>true
 |.int _=>true
 |.str _=>true
 |_=>false
noncomputable def toV:W->V
 |.bl b=>.bl b
 |.int i=>.int i
 |.str x=>.str x
 |_=>.non
noncomputable def inW(neg : Bool)(x y : W)(h : Qaa) : Res W := match QaO h y with
 |some (ks, ws) => match x with
  |.str k=>okB (if neg then !(QdG ks ws k).isSome else(QdG ks ws k).isSome) h
  |_ => .stuck
 |none => match seqA h y with
  |some ws=>if Qc5 x&&ws.all Qc5 then okB (if neg then !inV (toV x) (ws.map toV) else inV (toV x) (ws.map toV)) h else .stuck
  |none=>.stuck
noncomputable def QaW:W->Bool
 |.non=>true
 |_=>false
noncomputable def QbP(op:CmpOp)(x y:W)(h:Qaa):Res W:=match op with
 |.Eq=>match eqW h x y with
  |some b=>okB b h
  |none=>.stuck
 |.NotEq=>match eqW h x y with
  |some b=>okB (!b) h
  |none=>.stuck
 |.Lt=>match x,y with
  |.int i,.int j=>okB (decide (i<j)) h
  |.str i,.str j=>okB (ltS i j) h
  |_,_=>.stuck
 |.LtE=>match x,y with
  |.int i,.int j=>okB (decide (i<=j)) h
  |.str i,.str j=>okB (!ltS j i) h
  |_,_=>.stuck
 |.Gt=>match x,y with
  |.int i,.int j=>okB (decide (j<i)) h
  |.str i,.str j=>okB (ltS j i) h
  |_,_=>.stuck
 |.GtE=>match x,y with
  |.int i,.int j=>okB (decide (j<=i)) h
  |.str i,.str j=>okB (!ltS i j) h
  |_,_=>.stuck
 |.In=>inW false x y h
 |.NotIn=>inW true x y h
 |.Is=>match y with
  |.non=>okB (QaW x) h
  |_=>.stuck
 |.IsNot=>match y with
  |.non=>okB (!QaW x) h
  |_=>.stuck
noncomputable def ixS(z:Str)(i:Int)(h:Qaa):Res W:=if z.length<=1000 then(match atI z.cps.toList i with
 |some c=>.ok (.str ⟨#[c]⟩) h
 |none=>.stuck) else .stuck
noncomputable def ixW(x y:W)(h:Qaa):Res W:=match y with
 |.int i => match x with
  |.str z=>ixS z i h
  |x => match seqA h x with
   |some ws=>match atI ws i with
    |some w=>.ok w h
    |none=>.stuck
   |none=>.stuck
 |.str k=>match QaO h x with
   |some (ks,ws)=>match QdG ks ws k with
    |some w=>.ok w h
    |none=>.stuck
   |none=>.stuck
 |_=>.stuck
noncomputable def QaM(h:Qaa)(x:W)(t:Ty):Option Bool:=match x with
 |.int _=>some (decide (t=.int))
 |.bl _=>some (decide (t=.int)||decide (t=.bool))
 |.str _=>some (decide (t=.str))
 |.tup _=>some (decide (t=.tuple))
 |.lst _=>some (decide (t=.list))
 |.scr _=>some (decide (t=.list))
 |.ref n=>match h[n]? with
  |some (.lst _)=>some (decide (t=.list))
  |_=>none
 |_=>none
noncomputable def Qbu:List W->Option (List Str)
 |[]=>some []
 |.str s::ws=>(Qbu ws).map (s::·)
 |_=>none
noncomputable def intsOf:List W->Option (List Int)
 |[]=>some []
 |.int s::ws=>(intsOf ws).map (s::·)
 |_=>none
noncomputable def Qc4:List W->Option (List Bool)
 |[]=>some []
 |.bl s::ws=>(Qc4 ws).map (s::·)
 |_=>none
noncomputable def Qqa{α:Type}(lt:α->α->Bool)(x:α):List α->List α
 |[]=>[x]
 |y::ys=>if lt y x then y::Qqa lt x ys else x::y::ys
noncomputable def Qng{α:Type}(lt:α->α->Bool):List α->List α
 |[]=>[]
 |x::xs=>Qqa lt x (Qng lt xs)
noncomputable def Qg7(x:W)(h:Qaa):Res W:=match seqA h x with
 |some us=>okI us.length h
 |none=>match QaO h x with
  |some (ks,_)=>okI ks.length h
  |none=>match x with
   |.str z=>if z.length<=1000 then okI z.length h else .stuck
   |_=>.stuck
noncomputable def Qnl(x:W)(h:Qaa):Res W:=match QaO h x with
 |some (ks,ws)=>.ok (.dic ks ws) h
 |none=>.stuck
noncomputable def Qiq(x:W)(h:Qaa):Res W:=match seqA h x with
 |some us=>.ok (.tup us) h
 |none=>.stuck
noncomputable def Qnp(x:W)(h:Qaa):Res W:=match seqA h x with
 |some us=>.ok (.lst us) h
 |none=>.stuck
noncomputable def intW(x:W)(h:Qaa):Res W:=match x with
 |.int i=>okI i h
 |.bl k=>okI (if k then 1 else 0) h
 |_=>.stuck
noncomputable def Qi9(x:W)(h:Qaa):Res W:=match(seqA h x).bind Qbu with
 |some ss=>if ss.length<64 then .ok (.lst ((Qng ltS ss).map W.str)) h else .stuck
 |none=>.stuck
noncomputable def allW(f:List Bool->Bool)(x:W)(h:Qaa):Res W:=match(seqM h x).bind Qc4 with
 |some bs=>okB (f bs) h
 |none=>.stuck
noncomputable def on1(f:W->Qaa->Res W)(ws:List W)(h:Qaa):Res W:=match ws with
 |[x]=>f x h
 |_=>.stuck
noncomputable def QlO:W->Option Int
 |.int i=>some i
 |_=>none
noncomputable def on2(f:Int->Int->Int)(ws:List W)(h:Qaa):Res W:=match ws with
 |[x,y]=>match QlO x with
  |some i=>match QlO y with
   |some j=>okI (f i j) h
   |none=>.stuck
  |none=>.stuck
 |_=>.stuck
noncomputable def QbK:Bl->List W->Qaa->Res W
 |.len=>on1 Qg7
 |.dict=>on1 Qnl
 |.tuple=>on1 Qiq
 |.list=>on1 Qnp
 |.int=>on1 intW
 |.sorted=>on1 Qi9
 |.all=>on1 (allW λbs=>bs.all id)
 |.any=>on1 (allW λbs=>bs.any id)
 |.max=>on2 λi j=>if j>i then j else i
 |.min=>on2 λi j=>if j<i then j else i
noncomputable def Qok(h:Qaa):W->Option Bool
 |.bl b=>some b
 |_=>none
noncomputable def tst(r:Res W):Res Bool:=bnd r λw h=>match Qok h w with
 |some b=>.ok b h
 |none=>.stuck
noncomputable def Qi6(ws:List W)(lo hi:Option Int):List W:=(ws.drop (HT.sIx ws.length 0 lo)).take (HT.sIx ws.length ws.length hi-HT.sIx ws.length 0 lo)
noncomputable def slW(x:W)(lo hi:Option Int)(h:Qaa):Res W:=match x with
 |.str z=>if z.length<=1000 then .ok (.str (Txt.slice z lo hi)) h else .stuck
 |.tup ws=>if HT.sIx ws.length 0 lo=0/\HT.sIx ws.length ws.length hi=ws.length then .stuck else .ok (.tup (Qi6 ws lo hi)) h
 |x=>match seqL h x with
  |some ws=>.ok (.lst (Qi6 ws lo hi)) h
  |none=>.stuck
noncomputable def appW(x w:W)(h:Qaa):Res W:=match x with
 |.ref n=>match h[n]? with
  |some (.lst us)=>if Qah w=true/\us.length<sizeLine then .ok .non (h.set n (.lst (us++[w]))) else .stuck
  |_=>.stuck
 |_=>.stuck
noncomputable def clrW(x:W)(h:Qaa):Res W:=match x with
 |.ref n=>match h[n]? with
  |some (.lst _)=>.ok .non (h.set n (.lst []))
  |_=>.stuck
 |_=>.stuck
noncomputable def popW(x:W)(h:Qaa):Res W:=match x with
 |.ref n=>match h[n]? with
  |some (.lst us)=>match us[us.length-1]? with
   |some w=>.ok w (h.set n (.lst us.dropLast))
   |none=>.stuck
  |_=>.stuck
 |_=>.stuck
noncomputable def extW(x y:W)(h:Qaa):Res W:=match x with
 |.ref n=>match h[n]? with
  |some (.lst us)=>match seqM h y with
   |some ws=>if Qaf ws=true/\us.length+ws.length<=sizeLine then .ok .non (h.set n (.lst (us++ws))) else .stuck
   |none=>.stuck
  |_=>.stuck
 |_=>.stuck
noncomputable def getW(x k d:W)(h:Qaa):Res W:=match QaO h x with
 |some (ks,ws)=>match k with
  |.str s=>.ok ((QdG ks ws s).getD d) h
  |_=>.stuck
 |none=>.stuck
noncomputable def idxW(x k:W)(h:Qaa):Res W:=match(seqM h x).bind Qbu,k with
 |some ss,.str s=>if s∈ss/\ss.length<=1000 then .ok (.int ((ss.idxOf s:Nat):Int)) h else .stuck
 |_,_=>.stuck
noncomputable def Qc6(m:Mt)(x:W)(ws:List W)(h:Qaa):Res W:=match m with
 |.append=>on1 (appW x) ws h
 |.extend=>on1 (extW x) ws h
 |.index=>on1 (idxW x) ws h
 |.clear=>if ws.isEmpty then clrW x h else .stuck
 |.pop=>if ws.isEmpty then popW x h else .stuck
 |.get=>on1 (λk=>getW x k .non) ws h
 |.get2=>match ws with
  |[k,d]=>getW x k d h
  |_=>.stuck
noncomputable def Qbi(m:Mt)(h:Qaa)(x:W):Bool:=match m with
 |.get=>(QaO h x).isSome
 |.get2=>(QaO h x).isSome
 |_=>(seqM h x).isSome
noncomputable def QlZ:W->Bool
 |.ins 1 _=>true
 |_=>false
noncomputable section
noncomputable def QbL:List Nat->List W->Qai->Option Qai
 |[],[],σ=>some σ
 |i::is,w::ws,σ=>QbL is ws (σ.set i (some w))
 |_,_,_=>none
noncomputable def QaL(is:List Nat)(w:W)(σ:Qai):Option Qai:=match is with
 |[i]=>some (σ.set i (some w))
 |is=>match w with
  |.tup ws=>QbL is ws σ
  |.lst ws=>QbL is ws σ
  |_=>none
noncomputable def Qjc(ws:List W):Option (List W):=match ws with
 |[.int j]=>if -(2^62)<=j/\j<2^62 then some ((List.range j.toNat).map λ(k:Nat)=>W.int (0+(k:Int))) else none
 |[.int i,.int j]=>if -(2^62)<=i/\i<2^62/\-(2^62)<=j/\j<2^62 then some ((List.range (j-i).toNat).map λ(k:Nat)=>W.int (i+(k:Int))) else none
 |_=>none
noncomputable def Qlj(ws:List W):Option (List W):=hid (Qjc ws)
theorem Qb2:Qlj ws=Qjc ws:=QcO
noncomputable def Qif(z:Str):List W:=z.cps.toList.map λc=>W.str ⟨#[c]⟩
noncomputable def seqI(h:Qaa):W->Option (List W)
 |.str z=>if z.length<=1000 then some (Qif z) else none
 |x=>seqA h x
noncomputable def clr{α:Type}:List Nat->List (Option α)->List (Option α)
 |[],σ=>σ
 |i::is,σ=>clr is (σ.set i none)
noncomputable def Qho:W->Option Nat
 |.ref k=>some k
 |_=>none
open Classical in
noncomputable def lc(n:Nat)(src:Option Nat)(f:W->Qaa->Res (Option W)):List W->Qaa->Res Unit
 |[],h=>.ok () h
 |w::ws,h=>bnd (f w h) λo h'=>if(∀k,src=some k->h'[k]?=h[k]?) then(match o with
  |none=>lc n src f ws h'
  |some u=>match h'[n]? with
   |some (.lst us)=>if Qah u=true/\us.length<sizeLine then lc n src f ws (h'.set n (.lst (us++[u]))) else .stuck
   |_=>.stuck) else .stuck
noncomputable def Qjb(n0:Nat)(r:Res Unit):Res W:=match r with
 |.ok _ h=>match h[n0]? with
  |some (.lst us)=>.ok (.lst us) (h.take n0)
  |_=>.stuck
 |_=>.stuck
noncomputable def QbN(bd:Option Qai)(ts:Qai->Qaa->Res Bool)(ev:Qai->Qaa->Res W)(h:Qaa):Res (Option W):=match bd with
 |none=>.stuck
 |some σ=>bnd (ts σ h) λb h=>if b=true then bnd (ev σ h) λw h=>.ok (some w) h else .ok none h
abbrev CF:=Nat->List W->Qaa->Res W
mutual
noncomputable def evE(cf:CF):E->Qai->Qaa->Res W
 |.con w,_,h=>.ok w h
 |.dic0,_,h=>.ok (.dic [] []) h
 |.newAdd a b,σ,h=>bnd (evE cf a σ h) λx h=>bnd (evE cf b σ h) λy h=>bnd (Qd3 (seqM h x) (seqM h y) h) λws h=>if Qaf ws then .ok (.ref h.length) (h++[.lst ws]) else .stuck
 |.var i,σ,h=>match σ[i]? with
  |some (some w)=>.ok w h
  |_=>.stuck
 |.bin op a b,σ,h=>bnd (evE cf a σ h) λx h=>bnd (evE cf b σ h) λy h=>opW op x y h
 |.neg a,σ,h=>bnd (evE cf a σ h) λx h=>match x with
  |.int i=>okI (-i) h
  |_=>.stuck
 |.cmp op a b,σ,h=>bnd (evE cf a σ h) λx h=>bnd (evE cf b σ h) λy h=>QbP op x y h
 |.and_ a b,σ,h=>bnd (evE cf a σ h) λx h=>match x with
  |.bl true=>evE cf b σ h
  |.bl false=>okB false h
  |_=>.stuck
 |.or_ a b,σ,h=>bnd (evE cf a σ h) λx h=>match x with
  |.bl true=>okB true h
  |.bl false=>evE cf b σ h
  |_=>.stuck
 |.not_ a,σ,h=>bnd (tst (evE cf a σ h)) λb h=>okB (!b) h
 |.ite c a b,σ,h=>bnd (tst (evE cf c σ h)) λk h=>if k then evE cf a σ h else evE cf b σ h
 |.tup es,σ,h=>bnd (evA cf es σ h) λws h=>if ws.length<=sizeLine then .ok (.tup ws) h else .stuck
 |.lst es,σ,h=>bnd (evA cf es σ h) λws h=>if ws.length<=sizeLine then .ok (.lst ws) h else .stuck
 |.ix a b,σ,h=>bnd (evE cf a σ h) λx h=>bnd (evE cf b σ h) λy h=>ixW x y h
 |.sl a lo hi,σ,h=>bnd (evE cf a σ h) λx h=>bnd (evO cf lo σ h) λl h=>bnd (evO cf hi σ h) λu h=>slW x l u h
 |.call f es,σ,h=>bnd (evA cf es σ h) λws h=>cf f ws h
 |.blt b es,σ,h=>bnd (evA cf es σ h) λws h=>QbK b ws h
 |.isi a ts,σ,h=>bnd (evE cf a σ h) λx h=>match ts.mapM (QaM h x) with
  |some bs=>okB (bs.any id) h
  |none=>.stuck
 |.fld c k a,σ,h=>bnd (evE cf a σ h) λx h=>match x with
  |.ins c' ws=>if c'=c then(match ws[k]? with
   |some w=>.ok w h
   |none=>.stuck) else .stuck
  |_=>.stuck
 |.mth f a es,σ,h=>bnd (evE cf a σ h) λx h=>if QlZ x then bnd (evA cf es σ h) λws h=>cf f (x::ws) h else .stuck
 |.chn o1 o2 a b c,σ,h=>bnd (evE cf a σ h) λx h=>bnd (evE cf b σ h) λy h=>bnd (QbP o1 x y h) λk h=>match k with
  |.bl true=>bnd (evE cf c σ h) λz h=>QbP o2 y z h
  |.bl false=>okB false h
  |_=>.stuck
 |.slen a,σ,h=>bnd (evE cf a σ h) λx h=>match(seqA h x).bind Qbu with
  |some ss=>if ss.length<64 then okI (nub ss).length h else .stuck
  |none=>.stuck
 |.lrng a b,σ,h=>bnd (evE cf a σ h) λx h=>bnd (evE cf b σ h) λy h=>match Qlj [x,y] with
  |some ks=>if ks.length<=1000 then .ok (.lst ks) h else .stuck
  |none=>.stuck
 |.lrev a,σ,h=>bnd (evE cf a σ h) λx h=>match x with
  |.tup us=>if us.length<=1000 then .ok (.lst us.reverse) h else .stuck
  |_=>.stuck
 |.revE a,σ,h=>bnd (evE cf a σ h) λx h=>match seqA h x with
  |some us=>.ok (.lst us.reverse) h
  |none=>.stuck
 |.zipE a b,σ,h=>bnd (evE cf a σ h) λx h=>bnd (evE cf b σ h) λy h=>match seqA [] x,seqA [] y with
  |some us,some vs=>.ok (.lst (List.zipWith (λu v=>W.tup [u,v]) us vs)) h
  |_,_=>.stuck
 |.enmE k a,σ,h=>bnd (evE cf a σ h) λx h=>match seqA [] x with
  |some us=>.ok (.lst (us.mapIdx λi u=>W.tup [.int (k+(i:Int)),u])) h
  |none=>.stuck
 |.meth m a es,σ,h=>bnd (evE cf a σ h) λx h=>if Qbi m h x then bnd (evA cf es σ h) λws h=>Qc6 m x ws h else .stuck
 |.compS is n a ifs elt,σ,h=>bnd (evE cf a σ h) λx h=>match seqI h x with
  |some ws=>Qjb h.length (lc h.length (Qho x) (λw h=>QbN (QaL is w (clr is σ++List.replicate n none)) (evTs cf ifs) (evE cf elt) h) ws (h++[.lst []]))
  |none=>.stuck
 |.compR is n es ifs elt,σ,h=>bnd (evA cf es σ h) λws h=>match Qlj ws with
  |some ks=>Qjb h.length (lc h.length none (λw h=>QbN (QaL is w (clr is σ++List.replicate n none)) (evTs cf ifs) (evE cf elt) h) ks (h++[.lst []]))
  |none=>.stuck
noncomputable def evTs(cf:CF):List E->Qai->Qaa->Res Bool
 |[],_,h=>.ok true h
 |e::es,σ,h=>bnd (tst (evE cf e σ h)) λb h=>if b=true then evTs cf es σ h else .ok false h
noncomputable def evA(cf:CF):List E->Qai->Qaa->Res (List W)
 |[],_,h=>.ok [] h
 |e::es,σ,h=>bnd (evE cf e σ h) λw h=>bnd (evA cf es σ h) λws h=>.ok (w::ws) h
noncomputable def evO(cf:CF):Option E->Qai->Qaa->Res (Option Int)
 |none,_,h=>.ok none h
 |some e,σ,h=>bnd (evE cf e σ h) λw h=>match w with
  |.int i=>.ok (some i) h
  |_=>.stuck
end
noncomputable def evF(cf:CF):E->Qai->Qaa->Res (List W)
 |.lst es,σ,h=>bnd (evA cf es σ h) λws h=>if ws.length<=sizeLine then .ok ws h else .stuck
 |.bin .Mult a b,σ,h=>bnd (evE cf a σ h) λx h=>bnd (evE cf b σ h) λy h=>match y with
  |.int j=>repL (seqM h x) j h
  |_=>.stuck
 |.bin .Add a b,σ,h=>bnd (evE cf a σ h) λx h=>bnd (evE cf b σ h) λy h=>Qd3 (seqM h x) (seqM h y) h
 |.blt .list [a],σ,h=>bnd (evE cf a σ h) λx h=>match seqA h x with
  |some us=>.ok us h
  |none=>.stuck
 |.revE a,σ,h=>bnd (evE cf a σ h) λx h=>match seqL h x with
  |some us=>.ok us.reverse h
  |none=>.stuck
 |_,_,_=>.stuck
noncomputable def fpW(σ:Qai):Fp->Bool
 |.lit=>true
 |.con=>true
 |.var i=>match σ[i]? with
  |some (some (.int n))=>decide (n.natAbs<10^100)
  |some (some (.str s))=>decide (s.length<=1000)
  |_=>false
 |.rep i=>match σ[i]? with
  |some (some (.str s))=>decide (s.length<=1000)&&s.cps.toList.all λc=>decide (c<1000)
  |_=>false
noncomputable def hdl(hs:List (Nat×Hd))(sub:Nat->Nat->Bool)(c:Nat)(σ:Qai):Option Fl:=match hs with
 |[]=>none
 |(d,hd)::hs=>if sub c d then some (match hd with
  |.ret w=>.ret w
  |.asg i w=>.nx ((σ.map λ_=>none).set i (some w))) else hdl hs sub c σ
noncomputable def wh(test:Qai->Qaa->Res Bool)(body:Qai->Qaa->Res Fl):Nat->Qai->Qaa->Res Fl
 |0,_,_=>.stuck
 |n+1,σ,h=>bnd (test σ h) λc h=>if c then bnd (body σ h) λfl h=>match fl with
   |.nx σ=>wh test body n σ h
   |.cnt σ=>wh test body n σ h
   |.brk σ=>.ok (.nx σ) h
   |.ret w=>.ok (.ret w) h
  else .ok (.nx σ) h
noncomputable def fo(is:List Nat)(body:Qai->Qaa->Res Fl):List W->Qai->Qaa->Res Fl
 |[],σ,h=>.ok (.nx σ) h
 |w::ws,σ,h=>match QaL is w σ with
  |none=>.stuck
  |some σ=>bnd (body σ h) λfl h=>match fl with
   |.nx σ=>fo is body ws σ h
   |.cnt σ=>fo is body ws σ h
   |.brk σ=>.ok (.nx σ) h
   |.ret w=>.ok (.ret w) h
noncomputable def foC(n:Nat)(is:List Nat)(body:Qai->Qaa->Res Fl):Nat->Nat->Qai->Qaa->Res Fl
 |0,_,_,_=>.stuck
 |k+1,i,σ,h=>match h[n]? with
  |some (.lst ws)=>match ws[i]? with
   |none=>.ok (.nx σ) h
   |some w=>match QaL is w σ with
    |none=>.stuck
    |some σ=>bnd (body σ h) λfl h=>match fl with
     |.nx σ=>foC n is body k (i+1) σ h
     |.cnt σ=>foC n is body k (i+1) σ h
     |.brk σ=>.ok (.nx σ) h
     |.ret w=>.ok (.ret w) h
  |_=>.stuck
mutual
noncomputable def exS(cf:CF)(fw:Nat):S->Qai->Qaa->Res Fl
 |.raise c ps,σ,h=>if ps.all (fpW σ) then .exc c h else .stuck
 |.tryR e hs,σ,h=>match evE cf e σ h with
  |.ok w h=>.ok (.ret w) h
  |.exc c h=>match hdl hs (λc d=>decide (c=d)) c σ with
   |some fl=>.ok fl h
   |none=>.stuck
  |.stuck=>.stuck
 |.tryA i e hs,σ,h=>match evE cf e σ h with
  |.ok w h=>.ok (.nx (σ.set i (some w))) h
  |.exc c h=>match hdl hs (λc d=>decide (c=d)) c σ with
   |some fl=>.ok fl h
   |none=>.stuck
  |.stuck=>.stuck
 |.tryF e i cs all,σ,h=>match evE cf e σ h with
  |.ok w h=>.ok (.ret w) h
  |.exc c h=>if all.contains c then .ok (.nx ((σ.map λ_=>none).set i (some (.lst (cs.map λk=>.bl (decide (c=k))))))) h else .stuck
  |.stuck=>.stuck
 |.tryX e i cs all,σ,h=>match evE cf e σ h with
  |.exc c h=>if all.contains c then .ok (.nx ((σ.map λ_=>none).set i (some (.lst (cs.map λk=>.bl (decide (c=k)||k==999)))))) h else .stuck
  |_=>.stuck
 |.tryB b i cs all,σ,h=>match exB cf fw b σ h with
  |.exc c h=>if all.contains c then .ok (.nx ((σ.map λ_=>none).set i (some (.lst (cs.map λk=>.bl (decide (c=k))))))) h else .stuck
  |r=>r
 |.dupd i e k v,σ,h=>bnd (evE cf e σ h) λx h=>match QaO h x,σ[k]?,σ[v]? with
  |some (ks,ws),some (some (.str s)),some (some y)=>if i≠k/\i≠v/\ks.length<1000 then .ok (.nx (σ.set i (some (.dic (QdH ks ws s y).1 (QdH ks ws s y).2)))) h else .stuck
  |_,_,_=>.stuck
 |.freshD i,σ,h=>.ok (.nx (σ.set i (some (.ref h.length)))) (h++[.dic [] []])
 |.freshC i e,σ,h=>bnd (evE cf e σ h) λx h=>match QaO h x with
  |some (ks,ws)=>if Qaf ws then .ok (.nx (σ.set i (some (.ref h.length)))) (h++[.dic ks ws]) else .stuck
  |none=>.stuck
 |.freshD1 i k v,σ,h=>bnd (evE cf k σ (h++[.dic [] []])) λx h1=>bnd (evE cf v σ h1) λy h2=>match x,h2[h.length]? with
  |.str s,some (.dic [] [])=>if Qah y then .ok (.nx (σ.set i (some (.ref h.length)))) (h2.set h.length (.dic [s] [y])) else .stuck
  |_,_=>.stuck
 |.asg i e,σ,h=>bnd (evE cf e σ h) λw h=>.ok (.nx (σ.set i (some w))) h
 |.fresh i e,σ,h=>bnd (evF cf e σ h) λws h=>if Qaf ws then .ok (.nx (σ.set i (some (.ref h.length)))) (h++[.lst ws]) else .stuck
 |.par i j a b,σ,h=>bnd (evE cf a σ h) λx h=>bnd (evE cf b σ h) λy h=>.ok (.nx ((σ.set i (some x)).set j (some y))) h
 |.unp is e,σ,h=>bnd (evE cf e σ h) λw h=>match w with
  |.tup ws=>match QbL is ws σ with
   |some σ=>.ok (.nx σ) h
   |none=>.stuck
  |.lst ws=>match QbL is ws σ with
   |some σ=>.ok (.nx σ) h
   |none=>.stuck
  |_=>.stuck
 |.setix a b e,σ,h=>bnd (evE cf e σ h) λw h=>bnd (evE cf a σ h) λx h=>bnd (evE cf b σ h) λy h=>match x,y with
  |.ref n,.int k=>match h[n]? with
   |some (.lst us)=>if Qah w then(match ixN us.length k with
    |some j=>.ok (.nx σ) (h.set n (.lst (us.set j w)))
    |none=>.stuck) else .stuck
   |_=>.stuck
  |.ref n,.str k=>match h[n]? with
   |some (.dic ks ws)=>if Qah w=true/\ks.length<sizeLine then .ok (.nx σ) (h.set n (.dic (QdH ks ws k w).1 (QdH ks ws k w).2)) else .stuck
   |_=>.stuck
  |_,_=>.stuck
 |.exp e,σ,h=>bnd (evE cf e σ h) λ_ h=>.ok (.nx σ) h
 |.ret e,σ,h=>bnd (evE cf e σ h) λw h=>.ok (.ret w) h
 |.if_ c a b,σ,h=>bnd (tst (evE cf c σ h)) λk h=>if k then exB cf fw a σ h else exB cf fw b σ h
 |.while_ c b,σ,h=>wh (λσ h=>tst (evE cf c σ h)) (exB cf fw b) fw σ h
 |.for_ is (.seq a) b,σ,h=>bnd (evE cf a σ h) λx h=>match x with
  |.ref n=>foC n is (exB cf fw b) fw 0 σ h
  |.tup ws=>fo is (exB cf fw b) ws σ h
  |.lst ws=>fo is (exB cf fw b) ws σ h
  |.scr ws=>fo is (exB cf fw b) ws σ h
  |_=>.stuck
 |.for_ is (.rng es) b,σ,h=>bnd (evA cf es σ h) λws h=>match Qlj ws with
  |some ks=>fo is (exB cf fw b) ks σ h
  |none=>.stuck
 |.for_ is (.rng2 t a c) b,σ,h=>bnd (evE cf a σ h) λx h=>bnd (evE cf c σ h) λy h=>match x,y with
  |.int i,.int j=>if -1000<=i/\i<=1000/\-1000<=j/\j<=1000 then fo is (exB cf fw b) ((List.range ((j-i+stp t-1)/stp t).toNat).map λ(k:Nat)=>W.int (i+(k:Int)*stp t)) σ h else .stuck
  |_,_=>.stuck
 |.pass_,σ,h=>.ok (.nx σ) h
 |.bad,_,_=>.stuck
 |.brk,σ,h=>.ok (.brk σ) h
 |.cnt,σ,h=>.ok (.cnt σ) h
noncomputable def exB(cf:CF)(fw:Nat):List S->Qai->Qaa->Res Fl
 |[],σ,h=>.ok (.nx σ) h
 |s::ss,σ,h=>bnd (exS cf fw s σ h) λfl h=>match fl with
  |.nx σ=>exB cf fw ss σ h
  |fl=>.ok fl h
end
structure Fn where
 np:Nat
 ns:Nat
 body:List S
 ini:Option (Nat×List (Bool×E)):=none
mutual
noncomputable def unr(h:Qaa)(n0:Nat):W->Option W
 |.ref n=>if n<n0 then some (.ref n) else match h[n]? with
  |some (.lst ws)=>some (.lst ws)
  |some (.dic ks ws)=>some (.dic ks ws)
  |none=>none
 |.tup ws=>(Qf7 h n0 ws).map .tup
 |.lst ws=>(Qf7 h n0 ws).map .lst
 |.scr ws=>(Qf7 h n0 ws).map .scr
 |.ins c ws=>(Qf7 h n0 ws).map (.ins c)
 |.dic ks ws=>(Qf7 h n0 ws).map (.dic ks)
 |w=>some w
noncomputable def Qf7(h:Qaa)(n0:Nat):List W->Option (List W)
 |[]=>some []
 |w::ws=>match unr h n0 w,Qf7 h n0 ws with
  |some u,some us=>some (u::us)
  |_,_=>none
end
noncomputable def fin(n0:Nat)(r:Res Fl):Res W:=match r with
 |.stuck=>.stuck
 |.exc c h=>.exc c (h.take n0)
 |.ok fl h => match fl with
  |.ret w => match unr h n0 w with
   |some u=>.ok u (h.take n0)
   |none => .stuck
  |.nx _=>.ok .non (h.take n0)
  |_ => .stuck
noncomputable def finO(n0:Nat)(r:Res Fl):Res W:=match r with
 |.ok (.ret (.ref n)) h=>if n<n0 then .ok (.ref n) (h.take n0) else match h[n]? with
  |some (.lst ws)=>.ok (.ref n0) (h.take n0++[.lst ws])
  |_=>.stuck
 |r=>fin n0 r
noncomputable def QcI(cf:CF)(σ:Qai):List (Bool×E)->Qaa->Res (List W)
 |[],h=>.ok [] h
 |(false,e)::r,h=>bnd (evE cf e σ h) λw h=>bnd (QcI cf σ r h) λws h=>.ok (w::ws) h
 |(true,e)::r,h=>bnd (evF cf e σ h) λus h=>if Qaf us then bnd (QcI cf σ r (h++[.lst us])) λws h'=>.ok (.ref h.length::ws) h' else .stuck
noncomputable def Qab(fw:Nat)(tb:List Fn):Nat->CF
 |0=>λ_ _ _=>.stuck
 |d+1=>λf ws h=>match tb[f]? with
  |some g=>if ws.length=g.np then fin h.length (exB (Qab fw tb d) fw g.body (ws.map some++List.replicate (g.ns-g.np) none) h) else .stuck
  |none=>match tb[f-1000]? with
   |some g=>if 1000<=f/\ws.length=g.np then finO h.length (exB (Qab fw tb d) fw g.body (ws.map some++List.replicate (g.ns-g.np) none) h) else .stuck
   |none=>match tb[f-2000]? with
    |some g=>match g.ini with
     |some (c,fl)=>if 2000<=f/\ws.length+1=g.np then bnd (QcI (Qab fw tb d) (none::ws.map some) fl h) λus h=>.ok (.ins c us) h else .stuck
     |none=>.stuck
    |none=>.stuck
end
section
variable {K:Fg0}{ρ:List Addr}{H:Hp}{h:Qaa}
theorem HRel.trk(r:HRel K ρ h H)(m:a∈ρ):∃o,H a=some o:=by
 obtain⟨n,hn,e⟩:=List.getElem_of_mem m;have hl:n<h.length:=by rw[<- r.len];lia
 have q:=r.at_ n a h[n] (by simp_all) (zJ hl);cases e2:h[n] with
 |lst ws=>rw[e2]at q;obtain⟨_,xs,z,_⟩:=q;simp_all
 |dic ks ws=>rw[e2]at q;obtain⟨_,xs,z,_⟩:=q;simp_all
theorem HRel.new(r:HRel K ρ h H)(n:H a=none):a∉ρ:=λm=>by
 obtain⟨o,e⟩:=r.trk m
 grind
theorem ext_new{a:Addr}{o:HO}(r:HRel K ρ h H)(n:H a=none):Ext ρ H ρ (upd H a o) :=
 ⟨List.prefix_refl _,λb u e _=>.inl (by rw[Qas (Qa8 e n)];lia),λ_ _ _ z=>z⟩
theorem ObRel.ext{ρ':List Addr}{H':Hp}{a:Addr}{o:Ob}(x:Ext ρ H ρ' H')(k:∀u,H a=some u->H' a=some u)(q:ObRel K ρ H a o):ObRel K ρ' H' a o:=by
 cases o with
 |lst ws=>obtain⟨p,xs,e,r⟩:=q;exact⟨p,xs,k _ e,RelL.ext x ws xs r⟩
 |dic ks ws=>obtain⟨p,xs,e,l,r⟩:=q;exact⟨p,xs,k _ e,l,RelL.ext x ws xs r⟩
theorem HRel.ext_new{a:Addr}{o:HO}(r:HRel K ρ h H)(n:H a=none):HRel K ρ h (upd H a o) :=
 ⟨r.len,r.nd,λm b u e1 e2=>(r.at_ m b u e1 e2).ext (J.ext_new r n) λv e=>by rw[Qas (Qa8 e n)];lia⟩
theorem ext_cell{a:Addr}{o:HO}(r:HRel K ρ h H)(n:H a=none):Ext ρ H (ρ++[a]) (upd H a o) :=
 ⟨List.prefix_append _ _,λb u e _=>.inl (by rw[Qas (Qa8 e n)];lia),λb u e z m=>by simp_all⟩
theorem HRel.cell{a:Addr}{ws:List W}{xs:List V}(r:HRel K ρ h H)(n:H a=none)(p:Qaf ws=true)(q:RelL K ρ H ws xs):HRel K (ρ++[a]) (h++[.lst ws]) (upd H a (.lst xs)):=by
 have x:=J.ext_cell (o:=.lst xs) r n;refine⟨by simp[r.len],?_,λm b u e1 e2=>?_⟩;rw[Zw];refine⟨r.nd,ZzS,λb hb c hc=>?_⟩;rw[zP.mp hc];rintro rfl;exact r.new n hb;by_cases hm:m<ρ.length;rw[zI hm]at e1;rw[zI (by rw[<- r.len];exact hm)]at e2;exact(r.at_ m b u e1 e2).ext x λv e=>by rw[Qas (Qa8 e n)];exact e
 rw[zK (by simp_all)]at e1;rw[zK (by have:=r.len;lia)]at e2;have h0:m-ρ.length=0:=by grind
 rw[h0]at e1;rw[show m-h.length=0 by have:=r.len;lia]at e2;simp at e1 e2;subst e1;subst e2;exact⟨p,xs,Qau,RelL.ext x ws xs q⟩
theorem ext_write{n:Nat}{a:Addr}{o:HO}(e:ρ[n]?=some a):Ext ρ H ρ (upd H a o) :=
 ⟨List.prefix_refl _,λb u q z=>.inl (by
  have hb:b≠a:=by rintro rfl;exact z (zC e)
  rw[Qas hb];lia),λ_ _ _ z=>z⟩
theorem HRel.write(r:HRel K ρ h H)(e:ρ[n]?=some a)(p:Qaf ws=true)(q:RelL K ρ H ws xs):HRel K ρ (h.set n (.lst ws)) (upd H a (.lst xs)):=by
 have x:=J.ext_write (H:=H) (o:=.lst xs) e;refine⟨by simp[r.len],r.nd,λm b u e1 e2=>?_⟩;by_cases hm:n=m;subst hm;rw[e]at e1;cases e1;rw[zZ (by rw[<- r.len];grind)]at e2;cases e2;exact⟨p,xs,Qau,RelL.ext x ws xs q⟩;rw[zY hm]at e2;refine(r.at_ m b u e1 e2).ext x λv hv=>?_;have hb:b≠a:=by rintro rfl;exact hm ((List.getElem?_inj (ze.mp e).1 r.nd).mp (e.trans e1.symm))
 rw[Qas hb];exact hv
theorem HRel.cellD(r:HRel K ρ h H)(n:H a=none):HRel K (ρ++[a]) (h++[.dic [] []]) (upd H a (.dK [])):=by
 have x:=J.ext_cell (o:=.dK []) r n;refine⟨by simp[r.len],?_,λm b u e1 e2=>?_⟩;rw[Zw];refine⟨r.nd,ZzS,λb hb c hc=>?_⟩;rw[zP.mp hc];rintro rfl;exact r.new n hb;by_cases hm:m<ρ.length;rw[zI hm]at e1;rw[zI (by rw[<- r.len];exact hm)]at e2;exact(r.at_ m b u e1 e2).ext x λv e=>by rw[Qas (Qa8 e n)];exact e
 rw[zK ZzL]at e1;rw[zK (by have:=r.len;lia)]at e2;have h0:m-ρ.length=0:=by grind
 rw[h0]at e1;rw[show m-h.length=0 by have:=r.len;lia]at e2;simp at e1 e2;subst e1;subst e2;exact⟨rfl,[],Qau,rfl,.nil⟩
theorem HRel.writeD(r:HRel K ρ h H)(e:ρ[n]?=some a)(p:Qaf ws=true)(l:ks.length=xs.length)(q:RelL K ρ H ws xs):HRel K ρ (h.set n (.dic ks ws)) (upd H a (.dK ((ks.map Sum.inr).zip xs))):=by
 have x:=J.ext_write (H:=H) (o:=.dK ((ks.map Sum.inr).zip xs)) e;refine⟨by simp[r.len],r.nd,λm b u e1 e2=>?_⟩;by_cases hm:n=m;subst hm;rw[e]at e1;cases e1;rw[zZ (by rw[<- r.len];grind)]at e2;cases e2;exact⟨p,xs,Qau,l,RelL.ext x ws xs q⟩;rw[zY hm]at e2;refine(r.at_ m b u e1 e2).ext x λv hv=>?_;have hb:b≠a:=by rintro rfl;exact hm ((List.getElem?_inj (ze.mp e).1 r.nd).mp (e.trans e1.symm))
 rw[Qas hb];exact hv
theorem QaV(r:HRel K ρ h H)(e:QaO h w=some (ks,ws))(q:Rel K ρ H w v):∃a xs,v=.ref a/\Rd H a (.dK ((ks.map Sum.inr).zip xs))/\ks.length=xs.length/\RelL K ρ H ws xs:=by
 cases w with
 |dic ks' ws'=>rw[Rel]at q;obtain⟨a,xs,e1,_,e2,e3,e4⟩:=q;cases (zW e);exact⟨a,xs,e1,e2,e3,e4⟩
 |ref n=>
  obtain⟨a,e1,e2⟩:=q;have e':(match h[n]? with|some (.dic ks ws)=>some (ks,ws)|_=>none)=some (ks,ws):=e;split at e'<;>try (cases e';done)
  rename_i us vs e3;cases e';obtain⟨_,xs,z,zl,zr⟩:=r.at_ n a _ e2 e3;exact⟨a,xs,e1,.inl z,zl,zr⟩
 |_=>cases e
theorem Qd4{x:Str}:∀{ks:List Str}{ws:List W}{xs:List V},ks.length=xs.length->RelL K ρ H ws xs->(∀w,QdG ks ws x=some w->∃v,Qhb ((ks.map Sum.inr).zip xs) (Sum.inr x:Key)=some v/\Rel K ρ H w v)/\(QdG ks ws x=none->Qhb ((ks.map Sum.inr).zip xs) (Sum.inr x:Key)=none)
 |[],ws,xs,l,r=>⟨λw e=>(by cases e),λ_=>rfl⟩
 |k::ks,[],xs,l,r=>by rw[RelL]at r;subst r;cases l
 |k::ks,w::ws,xs,l,r=>by obtain⟨y,ys,rfl,r1,r2⟩:=r;have ih:=Qd4 (x:=x) (ks:=ks) (ws:=ws) (xs:=ys) (by simpa using l) r2;rw[zO,Z7];unfold QdG;by_cases hk:k=x;subst hk;rw[zF rfl,QdE rfl];simp_all;rw[zM hk,QdA (by simp_all)];exact ih
theorem QfU(l:ks.length=xs.length)(r:RelL K ρ H ws xs):(QdG ks ws x).isSome=(Qhb ((ks.map Sum.inr).zip xs) (Sum.inr x:Key)).isSome:=by
 obtain⟨h1,h2⟩:=Qd4  l r;cases e:QdG ks ws x with
 |none=>rw[h2 e];rfl
 |some w=>grind
theorem QhJ{x:Str}{w:W}{v:V}{ks:List Str}{ws:List W}{xs:List V}(l:ks.length=xs.length)(r:RelL K ρ H ws xs)(rv:Rel K ρ H w v) :
  ∃ys,Qgf ((ks.map Sum.inr).zip xs) (Sum.inr x:Key) v=(((QdH ks ws x w).1).map Sum.inr).zip ys/\(QdH ks ws x w).1.length=ys.length/\RelL K ρ H (QdH ks ws x w).2 ys:=by
 have any_eq:∀{ks:List Str}{xs:List V},ks.length=xs.length->(((ks.map Sum.inr).zip xs).any λkv=>decide (kv.1=(Sum.inr x:Key)))=ks.any λk=>decide (k=x):=by
  intro ks;induction ks with
  |nil=>intro xs _;rfl
  |cons k ks ih=>
   intro xs l;cases xs with
   |nil=>cases l
   |cons y ys=>rw[zO,Z7,zzp,zzp,ih (by simpa using l)];congr 1;simp
 have set_eq:∀{ks:List Str}{ws:List W}{xs:List V},ks.length=xs.length->RelL K ρ H ws xs->∃ys,((ks.map Sum.inr).zip xs).map (λkv=>if kv.1=(Sum.inr x:Key) then(kv.1,v) else kv)=(ks.map Sum.inr).zip ys/\ks.length=ys.length/\RelL K ρ H (QlM ks ws x w) ys:=by
  intro ks;induction ks with
  |nil=>intro ws xs l r;cases xs with
   |nil=>exact⟨[],rfl,rfl,by unfold QlM;exact r⟩
   |cons y ys=>cases l
  |cons k ks ih=>
   intro ws xs l r;cases ws with
   |nil=>rw[RelL]at r;subst r;cases l
   |cons u ws=>rw[RelL]at r;obtain⟨y,ys,rfl,r1,r2⟩:=r;obtain⟨zs,e1,e2,e3⟩:=ih (ws:=ws) (xs:=ys) (by simpa using l) r2;rw[zO,Z7,zO,e1];unfold QlM;by_cases hk:k=x;subst hk;rw[zF rfl,zF rfl];exact⟨v::zs,rfl,by simp[e2],.cons rv e3⟩;rw[zM hk,zM (by intro z;exact hk (Sum.inr.inj z))];exact⟨y::zs,rfl,by simp[e2],.cons r1 e3⟩
 unfold Qgf QdH
 rw[any_eq l]
 by_cases ha:(ks.any λk=>decide (k=x))=true
 ·rw[zF ha,zF ha]
  exact set_eq l r
 ·rw[zM ha,zM ha]
  refine⟨xs++[v],?_,by simp[l],r.append (.cons rv .nil)⟩
  rw[Zc,List.zip_append (by simp[l])]
  rfl
theorem QcG{w:W}{v:V}{ws:List W}(r:HRel K ρ h H)(e:seqL h w=some ws)(q:Rel K ρ H w v):∃a xs,v=.ref a/\SqL K H a xs/\RelL K ρ H ws xs:=by
 cases w with
 |lst us=>rw[Rel]at q;obtain⟨a,xs,e1,_,e2,e3⟩:=q;cases (show us=ws from zW e);exact⟨a,xs,e1,.inl (.inl e2),e3⟩
 |scr us=>rw[Rel]at q;obtain⟨a,xs,e1,e2,e3⟩:=q;cases (zW e);exact⟨a,xs,e1,e2.sq,e3⟩
 |ref n=>
  rw[Rel]at q;obtain⟨a,e1,e2⟩:=q;have e':(match h[n]? with|some (.lst ws)=>some ws|_=>none)=some ws:=e;split at e'<;>try (cases e';done)
  rename_i us e3;cases e';obtain⟨_,xs,z,zr⟩:=r.at_ n a _ e2 e3;exact⟨a,xs,e1,.inl (.inl z),zr⟩
 |_=>cases e
theorem Qbc{w:W}{v:V}{ws:List W}(r:HRel K ρ h H)(e:seqM h w=some ws)(q:Rel K ρ H w v):∃a xs,v=.ref a/\H a=some (.lst xs)/\RelL K ρ H ws xs:=by
 cases w with
 |lst us=>rw[Rel]at q;obtain⟨a,xs,e1,_,e2,e3⟩:=q;cases (show us=ws from zW e);simp_all
 |ref n=>
  rw[Rel]at q;obtain⟨a,e1,e2⟩:=q;have e':(match h[n]? with|some (.lst ws)=>some ws|_=>none)=some ws:=e;split at e'<;>try (cases e';done)
  rename_i us e3;cases e';obtain⟨_,xs,z,zr⟩:=r.at_ n a _ e2 e3;simp_all
 |_=>cases e
theorem Qmc(e:Qe3 w=some ws)(q:Rel K ρ H w v):∃a xs,v=.ref a/\SqT K H a xs/\RelL K ρ H ws xs:=by
 cases w with
 |tup us=>obtain⟨a,xs,e1,e2,e3⟩:=q;cases (zW e);exact⟨a,xs,e1,e2.sq,e3⟩
 |_=>cases e
theorem QbJ(r:HRel K ρ h H)(e:seqA h w=some ws)(q:Rel K ρ H w v):∃a xs,v=.ref a/\(SqL K H a xs\/SqT K H a xs)/\RelL K ρ H ws xs:=by
 unfold seqA at e;cases e1:Qe3 w with
 |some us=>rw[e1]at e;cases e;obtain⟨a,xs,h1,h2,h3⟩:=Qmc e1 q;exact⟨a,xs,h1,.inr h2,h3⟩
 |none=>rw[e1]at e;obtain⟨a,xs,h1,h2,h3⟩:=QcG r e q;exact⟨a,xs,h1,.inl h2,h3⟩
end
section
variable {X:Cx}{EX:EXT}{cf:CF}{pos:Pos}
def rW(K:Fg0)(EX:EXT)(f:W->W->Qaa->Res W):R2:=λx y H Q =>
 ∃ρ h w1 w2,HRel K ρ h H/\Rel K ρ H w1 x/\Rel K ρ H w2 y/\RQ K EX ρ H (f w1 w2 h) λw _ ρ' H'=>∀v,Rel K ρ' H' w v->Q v H'
theorem two{K:Fg0}
  (q:tI K EX (λσ h=>bnd (ea σ h) λx h=>bnd (eb σ h) λy h=>f x y h) τ H Q) :
  tOp (rW K EX f) (tI K EX ea) (tI K EX eb) τ H Q:=by
 obtain⟨ρ,σ,h,re,hr,q⟩:=q
 exact⟨ρ,σ,h,re,hr,q.bnd.mono λw1 h1 ρ1 H1 x1 hr1 q1 v1 r1=>(⟨ρ1,σ,h1,re.ext x1,hr1,q1.bnd.mono λw2 h2 ρ2 H2 x2 hr2 q2 v2 r2=>(⟨ρ2,h2,w1,w2,hr2,Rel.ext x2 _ _ r1,r2,q2⟩)⟩)⟩
theorem one{K:Fg0}{f:W->Qaa->Res W}
  (q:tI K EX (λσ h=>bnd (ea σ h) λx h=>f x h) τ H Q) :
  tI K EX ea τ H λx H1=>∃ρ h w1,HRel K ρ h H1/\Rel K ρ H1 w1 x/\RQ K EX ρ H1 (f w1 h) λw _ ρ' H'=>∀v,Rel K ρ' H' w v->Q v H':=by
 obtain⟨ρ,σ,h,re,hr,q⟩:=q
 exact⟨ρ,σ,h,re,hr,q.bnd.mono λw1 h1 ρ1 H1 x1 hr1 q1 v1 r1=>⟨ρ1,h1,w1,hr1,r1,q1⟩⟩
theorem Qj1:PE X (.Constant (.int i) j pos) (tI X.K EX (evE cf (.con (.int i)))):=pe_int.sub λτ H Q zq=>by obtain⟨ρ,σ,h,re,hr,q⟩:=zq;exact RQ.here hr q _ (rfl)
theorem Qnc:PE X (.Constant (.bool b) j pos) (tI X.K EX (evE cf (.con (.bl b)))):=pe_bl.sub λτ H Q zq=>by obtain⟨ρ,σ,h,re,hr,q⟩:=zq;exact RQ.here hr q _ (rfl)
theorem Qkm:PE X (.Constant (.str s) j pos) (tI X.K EX (evE cf (.con (.str s)))):=pe_str.sub λτ H Q zq=>by obtain⟨ρ,σ,h,re,hr,q⟩:=zq;exact RQ.here hr q _ (rfl)
theorem Qll:PE X (.Constant .none j pos) (tI X.K EX (evE cf (.con .non))):=pe_non.sub λτ H Q zq=>by obtain⟨ρ,σ,h,re,hr,q⟩:=zq;exact RQ.here hr q _ (rfl)
theorem r_glob(hg:Gl X x)(hm:X.mg x=some u)(r:RelV v u)(rw':∀ρ H,Rel X.K ρ H w v)(hd:(x==("__debug__"))=false):PE X (.Name x pos) (tI X.K EX (evE cf (.con w))) :=
 (Qlv hg hm r hd).sub λτ H Q zq=>by obtain⟨ρ,σ,h,re,hr,q⟩:=zq;exact RQ.here hr q _ (rw' _ _)
theorem r_var(hN:X.N[i]?=some x)(hv:Vis X.env.scope x)(hd:(x==("__debug__"))=false)(hcd:(x==("__classdict__"))=false) :
  PE X (.Name x pos) (tI X.K EX (evE cf (.var i))):=(Qcq hN hv hd hcd).sub λτ H Q zq=>by
 obtain⟨ρ,σ,h,re,hr,q⟩:=zq
 rw[evE]at q
 split at q
 ·rename_i w e
  obtain⟨v,h1,h2⟩:=re.at_ i w e
  exact⟨v,h1,RQ.here hr q v h2⟩
 ·exact q.elim
variable {a b:Expr}{ea eb:Qai->Qaa->Res W}
theorem r_bin(ho:OpR X (binaryOp op) (rW X.K EX (opW op)))(ha:PE X a (tI X.K EX (evE cf a')))(hb:PE X b (tI X.K EX (evE cf b'))) :
 PE X (.BinOp a op b pos) (tI X.K EX (evE cf (.bin op a' b'))):=(QlK ho ha hb).sub λτ H Q q=>two (by assumption)
theorem QmU(h:Qdb i j=true):PySem.IntMulOk i j:=by rw[QcC]at h;unfold Qqx at h;rw[zzh]at h;rcases h with h|h;rcases Zd h with⟨h1,h2⟩|⟨h1,h2⟩;exact .of_left (intBits_le_64 h1 h2);exact .of_right (intBits_le_64 h1 h2);exact PyProof.Rows.mulOk_of_bits (zD _) (zD _) (Zd h)
theorem QpZ:OpR X (binaryOp .Mult) (rI (λi j=>Qdb i j=true) λi j=>.int (i*j)):=L2.opI λ_ _ _ _ _ _ _ hc q=>mul_int q (QmU hc)
theorem Qmi:OpR X (binaryOp .FloorDiv) (rI (λ_ j=>j≠0/\j.natAbs.log2<9000) λi j=>.int (i.fdiv j)):=L2.opI λ_ _ _ _ _ _ _ hc q=>floordiv_int hc.1 q (.inl (PyProof.noPylong_of_log2 hc.2))
theorem Qaq{K:Fg0}(h:Rel K ρ H (.int i) v):v=.int i:=h
theorem Qat{K:Fg0}(h:Rel K ρ H (.str i) v):v=.str i:=h
theorem Qbh{K:Fg0}(h:Rel K ρ H (.bl i) v):v=.bl i:=h
theorem Qft{K:Fg0}(h:Rel K ρ H .non v):v=.non:=h
theorem QaJ{K:Fg0}:Rel K ρ H (.int i) (.int i):=rfl
theorem Qdt{K:Fg0}:Rel K ρ H (.str i) (.str i):=rfl
theorem QaZ{K:Fg0}:Rel K ρ H (.bl i) (.bl i):=rfl
theorem Qga{K:Fg0}:Rel K ρ H .non .non:=rfl
theorem mk_tup{K:Fg0}{a:Addr}(hr:HRel K ρ h H)(n:H a=none)(r:RelL K ρ H ws xs):Rel K ρ (upd H a (.tup xs)) (.tup ws) (.ref a):=⟨a,xs,rfl,.inl ⟨hr.new n,.inl Qau⟩,RelL.ext (ext_new hr n) _ _ r⟩
theorem mk_lst{K:Fg0}{a:Addr}(hr:HRel K ρ h H)(n:H a=none)(r:RelL K ρ H ws xs):Rel K ρ (upd H a (.lst xs)) (.lst ws) (.ref a):=⟨a,xs,rfl,hr.new n,Qau,RelL.ext (ext_new hr n) _ _ r⟩
theorem RQ.tup{K:Fg0}{Q:VK}(hr:HRel K ρ h H)(r:RelL K ρ H ws xs)
  (q:RQ K EX ρ H (.ok (.tup ws) h) λw _ ρ' H'=>∀v,Rel K ρ' H' w v->Q v H'):∀p,H p=none->Q (.ref p) (upd H p (.tup xs)):=λp n =>
 q ρ _ (ext_new hr n) (hr.ext_new n) _ (mk_tup hr n r)
theorem RQ.lst{K:Fg0}{Q:VK}(hr:HRel K ρ h H)(r:RelL K ρ H ws xs)
  (q:RQ K EX ρ H (.ok (.lst ws) h) λw _ ρ' H'=>∀v,Rel K ρ' H' w v->Q v H'):∀p,H p=none->Q (.ref p) (upd H p (.lst xs)):=λp n =>
 q ρ _ (ext_new hr n) (hr.ext_new n) _ (mk_lst hr n r)
theorem Qls(h:x.length<=1000/\-1000<=n/\n<=1000):PySem.MulOk x n:=by
 obtain⟨h1,h2,h3⟩:=h
 refine⟨?_,λh4 _=>?_,λh4 _=>?_⟩
 ·grind
 ·have h6:(1000:Int)<=(2^63-1)/n:=Int.le_ediv_of_mul_le ZzL ZzL
  lia
 ·have h6:x.length*n.toNat<=1000*1000:=Z8 h1 ZzL
  exact zV (by rw[Zj];lia)
theorem QqB{E:Value->Shared->Prop}{t b:Addr}{vs us:List Value}(ht:IsTup s.heap t vs.toArray)(hb:IsTup s.heap b us.toArray)(hv:vs=[])
  (h:Q (.ref b) s):wpAny (model prog w) A (binaryOp .Add (.ref t) (.ref b)) Q E s:=by
 obtain⟨⟨c1,d1,o1,l1⟩,h1,k1,n1,z1⟩:=id ht
 obtain⟨⟨c2,d2,o2,l2⟩,h2,k2,n2,z2⟩:=id hb
 subst k1 z1 k2 z2
 exact concat_meets ⟨_,h1,rfl⟩ ⟨_,h2,rfl⟩ noFill_tuple_add seq_tuple_add zz7 zz4 (zzV _ _) (tuple_addW0 t b vs.toArray us.toArray n1 n2 d1 d2 l1 l2 (by simp_all)) ⟨h1,h2,h⟩
theorem opW_ok(op:Operator):OpR X (binaryOp op) (rW X.K EX (opW op)):=by
 intro pins s σ H x y v u Q I rx ry zq12
 obtain⟨ρ,h,w1,w2,hr,r1,r2,q⟩:=zq12
 unfold opW at q
 split at q
 ·-- ints
  rename_i i j
  cases Qaq r1;cases Qaq r2
  unfold QgI at q
  cases op with
  |Add=>exact op_add pins s σ H _ _ v u Q I rx ry ⟨i,j,rfl,rfl,RQ.here hr q _ QaJ⟩
  |Sub=>exact op_sub pins s σ H _ _ v u Q I rx ry ⟨i,j,rfl,rfl,RQ.here hr q _ QaJ⟩
  |Mult =>
   dsimp only at q
   split at q
   ·rename_i hm;exact QpZ pins s σ H _ _ v u Q I rx ry ⟨i,j,rfl,rfl,hm,RQ.here hr q _ QaJ⟩
   ·exact q.elim
  |FloorDiv =>
   dsimp only at q
   split at q
   ·rename_i hm;exact Qmi pins s σ H _ _ v u Q I rx ry ⟨i,j,rfl,rfl,hm,RQ.here hr q _ QaJ⟩
   ·exact q.elim
  |Mod =>
   dsimp only at q
   split at q
   ·rename_i hm;exact QoI pins s σ H _ _ v u Q I rx ry ⟨i,j,rfl,rfl,hm,RQ.here hr q _ QaJ⟩
   ·exact q.elim
  |Pow =>
   dsimp only at q
   split at q
   ·rename_i hm;exact op_pow pins s σ H _ _ v u Q I rx ry ⟨i,j,rfl,rfl,hm,RQ.here hr q _ QaJ⟩
   ·exact q.elim
  |_=>exact q.elim
 ·rename_i i j
  cases Qat r1;cases Qat r2
  split at q
  ·split at q
   ·rename_i hm;exact QiF pins s σ H _ _ v u Q I rx ry ⟨i,j,rfl,rfl,hm,RQ.here hr q _ Qdt⟩
   ·exact q.elim
  ·exact q.elim
 ·rename_i z n
  cases Qat r1;cases Qaq r2
  split at q
  ·split at q
   ·rename_i hm
    obtain⟨t,rfl⟩:=rx
    obtain⟨t',rfl⟩:=ry
    exact PySem.SB.mul (Qls hm) λt' k=>⟨.str _,H,I.tok _,⟨_,rfl⟩,RQ.here hr q _ Qdt⟩
   ·exact q.elim
  ·exact q.elim
 ·rename_i ws us
  split at q
  ·rw[Rel]at r1 r2
   obtain⟨a,xs,rfl,q1,s1⟩:=r1
   obtain⟨b,ys,rfl,q2,s2⟩:=r2
   unfold Qd3 okT at q
   dsimp only at q
   split at q
   ·rename_i hm
    cases ws with
    |nil =>
     have e0:=s1.length
     cases xs with
     |cons _ _=>cases e0
     |nil =>
     cases rx
     cases ry
     obtain⟨its,l1,p1,_⟩:=I.tuple q1.sq
     obtain⟨its2,l2,p2,_⟩:=I.tuple q2.sq
     refine QqB p1 p2 (l1.nil_iff.mpr rfl) ⟨.ref b,H,I,rfl,?_⟩
     refine RQ.here hr q _ ?_
     rw[zzf,Rel]
     exact⟨b,ys,rfl,q2,s2⟩
    |cons w0 ws0 =>
    refine(QoY (X:=X)) pins s σ H _ _ v u Q I rx ry ⟨a,b,xs,ys,rfl,rfl,q1.sq,q2.sq,?_,by rw[<- s1.length,<- s2.length];exact hm,λe=>?_,λ_=>RQ.tup hr (s1.append s2) q⟩
    ·intro e
     have:=s1.length
     rw[e]at this
     cases this
    ·subst e
     have:=s2.length
     cases us with
     |nil =>
      refine RQ.here hr q _ ?_
      rw[Zf,Rel]
      exact⟨a,xs,rfl,q1,s1⟩
     |cons w ws=>simp at this
   ·exact q.elim
  ·exact q.elim
 ·rename_i j _ _
  split at q
  ·cases Qaq r2
   unfold okL at q
   cases e:seqM h w1 with
   |none=>rw[e]at q;exact q.elim
   |some ws =>
    rw[e]at q
    unfold repL at q
    dsimp only at q
    split at q
    ·rename_i hm
     obtain⟨a,xs,rfl,e1,s1⟩:=Qbc hr e r1
     exact(Qos (X:=X)) pins s σ H _ _ v u Q I rx ry ⟨a,j,xs,rfl,rfl,e1,hm.1,hm.2.1,by rw[<- s1.length];exact hm.2.2,RQ.lst hr (s1.flatrep _) q⟩
    ·exact q.elim
  ·exact q.elim
 ·split at q
  ·unfold okL at q
   cases e:seqM h w1 with
   |none=>rw[e]at q;exact q.elim
   |some ws =>
    cases e':seqM h w2 with
    |none=>rw[e,e']at q;exact q.elim
    |some us =>
     rw[e,e']at q
     unfold Qd3 at q
     dsimp only at q
     split at q
     ·rename_i hm
      obtain⟨a,xs,rfl,e1,s1⟩:=Qbc hr e r1
      obtain⟨b,ys,rfl,e2,s2⟩:=Qbc hr e' r2
      exact(Qlz (X:=X)) pins s σ H _ _ v u Q I rx ry ⟨a,b,xs,ys,rfl,rfl,e1,e2,by rw[<- s1.length,<- s2.length];exact hm,RQ.lst hr (s1.append s2) q⟩
     ·exact q.elim
  ·exact q.elim
end
section
variable {X:Cx}{EX:EXT}{cf:CF}{pos:Pos}{a b c:Expr}{a' b' c':E}
mutual
theorem Qir{pins:List (Addr×Obj)}{σ:L2.St}{H:Hp}{s:Shared}(I:Inv X pins σ H s){ρ:List Addr}:∀(w:W) (v:V) (u:Value),okP w=true->Rel X.K ρ H w v->RelV v u->∃as,Reads s.heap u (toP w) as
 |.non,v,u,_,r,q=>by cases Qft r;cases q;exact⟨_,.none⟩
 |.bl b,v,u,_,r,q=>by cases Qbh r;cases q;exact⟨_,.bool b⟩
 |.int i,v,u,_,r,q=>by cases Qaq r;obtain⟨t,rfl⟩:=q;exact⟨_,.int i t⟩
 |.str i,v,u,_,r,q=>by cases Qat r;obtain⟨t,rfl⟩:=q;exact⟨_,.str i t⟩
 |.tup ws,v,u,ok,r,q=>by rw[Rel]at r;rw[okP]at ok;obtain⟨a,xs,rfl,hq,rs⟩:=r;cases q;obtain⟨its,rv,⟨o,ho,hc,n,hd⟩,hz⟩:=I.tuple hq.sq;obtain⟨as,ra⟩:=Qca I ws xs its ok rs rv;exact⟨as,by rw[toP];exact .tuple ho hc hd (by simpa using ra)⟩
 |.lst ws,v,u,ok,r,q=>by rw[Rel]at r;rw[okP]at ok;obtain⟨a,xs,rfl,_,hq,rs⟩:=r;cases q;obtain⟨its,rv,⟨o,n,ho,hc,_,hd⟩,hz⟩:=I.list (.inl (.inl hq));obtain⟨as,ra⟩:=Qca I ws xs its ok rs rv;exact⟨_,by rw[toP];exact .list ho hc hd (by simpa using ra)⟩
 |.scr ws,v,u,ok,r,q=>by rw[Rel]at r;rw[okP]at ok;obtain⟨a,xs,rfl,hq,rs⟩:=r;cases q;obtain⟨its,rv,⟨o,n,ho,hc,_,hd⟩,hz⟩:=I.list hq.sq;obtain⟨as,ra⟩:=Qca I ws xs its ok rs rv;exact⟨_,by rw[toP];exact .list ho hc hd (by simpa using ra)⟩
 |.dic _ _,v,u,ok,r,q=>by rw[okP]at ok;cases ok
 |.ref _,v,u,ok,r,q=>by rw[okP]at ok;cases ok
 |.ins _ _,v,u,ok,r,q=>by rw[okP]at ok;cases ok
theorem Qca{pins:List (Addr×Obj)}{σ:L2.St}{H:Hp}{s:Shared}(I:Inv X pins σ H s){ρ:List Addr}:∀(ws:List W) (xs:List V) (us:List Value),QlD ws=true->RelL X.K ρ H ws xs->Vals xs us->∃as,ReadsAll s.heap us (QgA ws) as
 |[],xs,us,_,r,q=>by rw[RelL]at r;subst r;cases q;exact⟨[],by rw[QgA];exact .nil⟩
 |w::ws,xs,us,ok,r,q=>by
  rw[RelL]at r;rw[QlD,zE]at ok;obtain⟨y,ys,rfl,r1,r2⟩:=r;cases q with
  |cons q1 q2=>obtain⟨as,ra⟩:=Qir I w y _ ok.1 r1 q1;obtain⟨bs,rb⟩:=Qca I ws ys _ ok.2 r2 q2;exact⟨_,by rw[QgA];exact .cons ra rb⟩
end
theorem QbF{pins:List (Addr×Obj)}{σ:L2.St}{H:Hp}{s:Shared}(I:Inv X pins σ H s){ρ:List Addr}{h:Qaa}{w w':W}{v:V}{u:Value}(hr:HRel X.K ρ h H)(e:QbQ h w=some w')(r:Rel X.K ρ H w v)(q:RelV v u):∃as,Reads s.heap u (toP w') as:=by
 have plain:∀(z:QbQ h w=if okP w then some w else none),∃as,Reads s.heap u (toP w') as:=λz=>by rw[z]at e;split at e;rename_i ok;cases e;exact Qir I w v u ok r q;cases e
 cases w with
 |ref n=>
  have e':(match h[n]? with|some (.lst ws)=>if QlD ws then some (W.lst ws) else none|_=>none)=some w':=e;split at e'<;>try (cases e';done)
  rename_i ws e3;split at e';rename_i ok;cases e';obtain⟨l,xs,rfl,hx,rs⟩:=Qbc  (ws:=ws) hr (by show(match h[n]? with|some (.lst ws)=>some ws|_=>none)=some ws;rw[e3]) r;cases q;obtain⟨its,rv,⟨o,n,ho,hc,_,hd⟩,hz⟩:=I.list (.inl (.inl hx));obtain⟨as,ra⟩:=Qca I ws xs its ok rs rv;exact⟨_,by rw[toP];exact .list ho hc hd (by simpa using ra)⟩;cases e'
 |non=>exact plain rfl
 |bl k=>exact plain rfl
 |int k=>exact plain rfl
 |str k=>exact plain rfl
 |tup k=>exact plain rfl
 |lst k=>exact plain rfl
 |scr k=>exact plain rfl
 |dic k l=>exact plain rfl
 |ins k l=>exact plain rfl
theorem Qih{K:Fg0}(e:eqW h x y=some k)(r1:Rel K ρ H x v)(r2:Rel K ρ H y u):(scal v u=true/\decide (v=u)=k) \/
  ∃a b,QbQ h x=some a/\QbQ h y=some b/\SeqAt.shaped (toP a)=true/\SeqAt.shaped (toP b)=true/\PyData.eqv (toP a) (toP b)=k:=by
 unfold eqW at e
 split at e
 ·rename_i i j
  cases Qaq r1;cases Qaq r2;cases e
  exact .inl ⟨rfl,ZzS⟩
 ·rename_i i j
  cases Qbh r1;cases Qbh r2;cases e
  exact .inl ⟨rfl,ZzS⟩
 ·rename_i i j
  cases Qat r1;cases Qat r2;cases e
  exact .inl ⟨rfl,ZzS⟩
 ·split at e
  ·simp_all
  ·cases e
theorem Qff{K:Fg0}(f:Qc5 w=true)(r:Rel K ρ H w v):v=toV w:=by
 cases w with
 |non=>assumption
 |bl b=>assumption
 |int b=>assumption
 |str b=>assumption
 |_=>cases f
theorem Qet{K:Fg0}{ρ:List Addr}{H:Hp}:∀{ws:List W}{xs:List V},ws.all Qc5=true->RelL K ρ H ws xs->xs=ws.map toV
 |[],xs,_,r=>by assumption
 |w::ws,xs,f,r=>by rw[ZB,zE]at f;obtain⟨y,ys,rfl,r1,r2⟩:=r;rw[Qff f.1 r1,Qet f.2 r2];rfl
theorem QeR(f:Qc5 w=true):Qe0 (toV w)=true:=by
 cases w with
 |non=>rfl
 |bl b=>rfl
 |int b=>rfl
 |str b=>rfl
 |_=>rfl
theorem Qeu:∀{ws:List W},ws.all Qc5=true->(ws.map toV).all Qe0=true
 |[],_=>rfl
 |w::ws,f=>by rw[ZB,zE]at f;rw[zO,ZB,QeR f.1,Qeu f.2];rfl
theorem QfY{K:Fg0}(r:Rel K ρ H w v):decide (v=.non)=QaW w:=by
 cases w with
 |non=>cases Qft r;rfl
 |bl b=>cases Qbh r;rfl
 |int b=>cases Qaq r;rfl
 |str b=>cases Qat r;rfl
 |ref n=>obtain⟨a,rfl,_⟩:=r;rfl
 |ins c us=>obtain⟨a,dx,xs,C,rfl⟩:=r;rfl
 |_=>obtain⟨a,xs,rfl⟩:=r;rfl
theorem Qdc(hu:X.A.units+64<cLine)(op:CmpOp):OpR X (compareOp op) (rW X.K EX (QbP op)):=by
 intro pins s σ H x y v u Q I rx ry zq12;obtain⟨ρ,h,w1,w2,hr,r1,r2,q⟩:=zq12;unfold QbP at q;cases op with
 |Eq=>dsimp only at q;split at q;rename_i k e;rcases Qih e r1 r2 with⟨h1,h2⟩|⟨a,b,h1,h2,h3,h4,h5⟩;exact op_eq pins s σ H _ _ v u Q I rx ry ⟨h1,by rw[h2];exact RQ.here hr q _ QaZ⟩;obtain⟨as,ra⟩:=QbF I hr h1 r1 rx;obtain⟨bs,rb⟩:=QbF I hr h2 r2 ry;exact eq_dataH ra rb h3 h4 hu ⟨.bl k,H,I,by rw[h5];rfl,RQ.here hr q _ QaZ⟩;exact q.elim
 |NotEq=>dsimp only at q;split at q;rename_i k e;rcases Qih e r1 r2 with⟨h1,h2⟩|⟨a,b,h1,h2,h3,h4,h5⟩;exact op_ne pins s σ H _ _ v u Q I rx ry ⟨h1,by rw[h2];exact RQ.here hr q _ QaZ⟩;obtain⟨as,ra⟩:=QbF I hr h1 r1 rx;obtain⟨bs,rb⟩:=QbF I hr h2 r2 ry;exact ne_dataH ra rb h3 h4 hu ⟨.bl (!k),H,I,by rw[h5];rfl,RQ.here hr q _ QaZ⟩;exact q.elim
 |Lt=>dsimp only at q;split at q;rename_i i j;cases Qaq r1;cases Qaq r2;exact op_lt pins s σ H _ _ v u Q I rx ry ⟨i,j,rfl,rfl,RQ.here hr q _ QaZ⟩;rename_i i j;cases Qat r1;cases Qat r2;obtain⟨t,rfl⟩:=rx;obtain⟨t',rfl⟩:=ry;exact PySem.P.lt_str ⟨.bl (ltS i j),H,I,rfl,RQ.here hr q _ QaZ⟩;exact q.elim
 |LtE=>dsimp only at q;split at q;rename_i i j;cases Qaq r1;cases Qaq r2;exact op_le pins s σ H _ _ v u Q I rx ry ⟨i,j,rfl,rfl,RQ.here hr q _ QaZ⟩;rename_i i j;cases Qat r1;cases Qat r2;obtain⟨t,rfl⟩:=rx;obtain⟨t',rfl⟩:=ry;exact PySem.P.le_str ⟨.bl (!ltS j i),H,I,rfl,RQ.here hr q _ QaZ⟩;exact q.elim
 |Gt=>dsimp only at q;split at q;rename_i i j;cases Qaq r1;cases Qaq r2;exact op_gt pins s σ H _ _ v u Q I rx ry ⟨i,j,rfl,rfl,RQ.here hr q _ QaZ⟩;rename_i i j;cases Qat r1;cases Qat r2;obtain⟨t,rfl⟩:=rx;obtain⟨t',rfl⟩:=ry;exact PySem.P.gt_str ⟨.bl (ltS j i),H,I,rfl,RQ.here hr q _ QaZ⟩;exact q.elim
 |GtE=>dsimp only at q;split at q;rename_i i j;cases Qaq r1;cases Qaq r2;exact op_ge pins s σ H _ _ v u Q I rx ry ⟨i,j,rfl,rfl,RQ.here hr q _ QaZ⟩;rename_i i j;cases Qat r1;cases Qat r2;obtain⟨t,rfl⟩:=rx;obtain⟨t',rfl⟩:=ry;exact PySem.P.ge_str ⟨.bl (!ltS i j),H,I,rfl,RQ.here hr q _ QaZ⟩;exact q.elim
 |In=>dsimp only at q;unfold inW at q;split at q;rename_i ks ws e;split at q;rename_i k;cases Qat r1;obtain⟨a,xs,rfl,hd,hl,rs⟩:=QaV hr e r2;have hdg:Qm4 H a (.str k) (Qhb ((ks.map Sum.inr).zip xs) (Sum.inr k:Key)):=(.inl ⟨_,Sum.inr k,hd,rfl,rfl⟩);cases ry;refine d_in (zzk ZzL hu) I hdg rx λs' I'=>⟨.bl _,H,I',rfl,?_⟩;rw[<- QfU hl rs];exact RQ.here hr q _ QaZ;exact q.elim;rename_i hnd;split at q;rename_i ws e;split at q;rename_i hf;rw[zE]at hf;obtain⟨a,xs,rfl,hq,rs⟩:=QbJ hr e r2;have e1:=Qff hf.1 r1;have e2:=Qet hf.2 rs;subst e1 e2;exact QkQ pins s σ H _ _ v u Q I rx ry ⟨a,_,rfl,hq,QeR hf.1,Qeu hf.2,RQ.here hr q _ QaZ⟩;exact q.elim;exact q.elim
 |NotIn=>dsimp only at q;unfold inW at q;split at q;rename_i ks ws e;split at q;rename_i k;cases Qat r1;obtain⟨a,xs,rfl,hd,hl,rs⟩:=QaV hr e r2;have hdg:Qm4 H a (.str k) (Qhb ((ks.map Sum.inr).zip xs) (Sum.inr k:Key)):=(.inl ⟨_,Sum.inr k,hd,rfl,rfl⟩);cases ry;refine QpC (zzk ZzL hu) I hdg rx λs' I'=>⟨.bl _,H,I',rfl,?_⟩;rw[<- QfU hl rs];exact RQ.here hr q _ QaZ;exact q.elim;rename_i hnd;split at q;rename_i ws e;split at q;rename_i hf;rw[zE]at hf;obtain⟨a,xs,rfl,hq,rs⟩:=QbJ hr e r2;have e1:=Qff hf.1 r1;have e2:=Qet hf.2 rs;subst e1 e2;exact QfI pins s σ H _ _ v u Q I rx ry ⟨a,_,rfl,hq,QeR hf.1,Qeu hf.2,RQ.here hr q _ QaZ⟩;exact q.elim;exact q.elim
 |Is=>dsimp only at q;split at q;cases Qft r2;exact op_isN pins s σ H _ _ v u Q I rx ry ⟨rfl,by rw[QfY r1];exact RQ.here hr q _ QaZ⟩;exact q.elim
 |IsNot=>dsimp only at q;split at q;cases Qft r2;exact Qo0 pins s σ H _ _ v u Q I rx ry ⟨rfl,by rw[QfY r1];exact RQ.here hr q _ QaZ⟩;exact q.elim
noncomputable def QeL(e:Expr):Bool:=match e with
 |.Set ..=>false
 |_=>true
theorem Qh4(h:QeL e=true):behindInMarks op e=false:=by cases e<;>first|rfl|cases h
theorem r_cmp(hu:X.A.units+64<cLine)(ha:PE X a (tI X.K EX (evE cf a')))(hb:PE X b (tI X.K EX (evE cf b')))(hp:QeL b=true) :
 PE X (.Compare a [op] [b] pos) (tI X.K EX (evE cf (.cmp op a' b'))):=(Qqu (Qdc hu op) ha hb (Qh4 hp)).sub λτ H Q q=>two (by assumption)
theorem bl_of{K:Fg0}{h:Qaa}{w:W}{k:Bool}(e:Qok h w=some k):w=.bl k:=by cases w<;>first|(cases e;rfl)|cases e
noncomputable abbrev evT(cf:CF)(a:E):Qai->Qaa->Res Bool:=λσ h=>tst (evE cf a σ h)
theorem Qic{K:Fg0}(q:tIT K EX (λσ h=>tst (ev σ h)) τ H Q):tI K EX ev τ H λx H1=>∃k,x=.bl k/\Q k H1:=by obtain⟨ρ,σ,h,re,hr,q⟩:=q;refine⟨ρ,σ,h,re,hr,q.bnd.mono λw h1 ρ1 H1 x1 hr1 q1 v r=>?_⟩;split at q1;rename_i k e;have e':=bl_of (K:=K) e;subst e';exact⟨k,Qbh r,RQ.here hr1 q1⟩;exact q1.elim
theorem t_cmp{op:CmpOp}(hu:X.A.units+64<cLine)(ha:PE X a (tI X.K EX (evE cf a')))(hb:PE X b (tI X.K EX (evE cf b')))(hp:QeL b=true) :
  PT X (.Compare a [op] [b] pos) (tIT X.K EX (evT cf (.cmp op a' b'))):=(Qqr (Qdc hu op) ha hb (Qh4 hp)).sub λτ H Q q=>by
 have q':=Qic q
 exact two (by assumption)
theorem QhR{K:Fg0}(q:tI K EX (evE cf (.chn op op' a' b' c')) τ H Q) :
  QjJ (rW K EX (QbP op)) (rW K EX (QbP op')) (tI K EX (evE cf a')) (tI K EX (evE cf b')) (tI K EX (evE cf c')) τ H Q:=by
 obtain⟨ρ,σ,h,re,hr,q⟩:=q
 refine⟨ρ,σ,h,re,hr,q.bnd.mono λw1 h1 ρ1 H1 x1 hr1 q1 v1 r1=>⟨ρ1,σ,h1,re.ext x1,hr1,q1.bnd.mono λw2 h2 ρ2 H2 x2 hr2 q2 v2 r2=>(⟨ρ2,h2,w1,w2,hr2,Rel.ext x2 _ _ r1,r2,q2.bnd.mono λwk h3 ρ3 H3 x3 hr3 q3 vk rk=>?_⟩)⟩⟩
 cases wk with
 |bl k =>
  cases k with
  |true=>exact⟨true,Qbh rk,Qn8 ⟨ρ3,σ,h3,((re.ext x1).ext x2).ext x3,hr3,(q3).bnd.mono λwz h4 ρ4 H4 x4 hr4 q4 vz rz=>⟨ρ4,h4,w2,wz,hr4,Rel.ext x4 _ _ (Rel.ext x3 _ _ r2),rz,q4⟩⟩⟩
  |false=>exact⟨false,Qbh rk,Qoj (RQ.here hr3 q3 _ QaZ)⟩
 |_=>exact q3.elim
theorem r_chn{op op':CmpOp}(hu:X.A.units+64<cLine)(ha:PE X a (tI X.K EX (evE cf a')))(hb:PE X b (tI X.K EX (evE cf b')))(hc:PE X c (tI X.K EX (evE cf c')))(hm:lastMarks [op,op'] [b,c]=false) :
 PE X (.Compare a [op,op'] [b,c] pos) (tI X.K EX (evE cf (.chn op op' a' b' c'))):=(Qmo (Qdc hu op) (Qdc hu op') ha hb hc hm).sub λ_ _ _ q=>QhR q
theorem t_chn{op op':CmpOp}(hu:X.A.units+64<cLine)(ha:PE X a (tI X.K EX (evE cf a')))(hb:PE X b (tI X.K EX (evE cf b')))(hc:PE X c (tI X.K EX (evE cf c')))(hm:lastMarks [op,op'] [b,c]=false) :
 PT X (.Compare a [op,op'] [b,c] pos) (tIT X.K EX (evT cf (.chn op op' a' b' c'))):=(Qnu (Qdc hu op) (Qdc hu op') ha hb hc hm).sub λ_ _ _ q=>QhR (Qic q)
noncomputable def Qkr(e:Expr):Bool:=match e with
 |.UnaryOp .Not _ _=>false
 |.BoolOp ..=>false
 |.IfExp ..=>false
 |.Compare ..=>false
 |_=>true
theorem Qkb(h:Qkr e=true):∀env whole,isTrue e env whole=(do let v <- whole;standAt e.pos;holding [v] (truthy v)):=by
 intro env whole;cases e with
 |UnaryOp op x p=>cases op<;>first|rfl|cases h
 |BoolOp=>cases h
 |IfExp=>cases h
 |Compare=>cases h
 |_=>rfl
theorem QpY(ha:PE X a (tI X.K EX (evE cf a')))(hp:Qkr a=true):PT X a (tIT X.K EX (evT cf a')) :=
 (pt_val ha (Qkb hp _)).sub λτ H Q q=>Qic q
theorem r_not(ha:PE X a (tI X.K EX (evE cf a'))):PE X (.UnaryOp .Not a pos) (tI X.K EX (evE cf (.not_ a'))):=(pe_not ha).sub λτ H Q zq=>by obtain⟨ρ,σ,h,re,hr,q⟩:=zq;refine Qic ⟨ρ,σ,h,re,hr,q.bnd.mono λk h1 ρ1 H1 x1 hr1 q1=>RQ.here hr1 q1 _ QaZ⟩
theorem t_not(ha:PT X a (tIT X.K EX (evT cf a'))):PT X (.UnaryOp .Not a pos) (tIT X.K EX (evT cf (.not_ a'))):=(pt_not ha).sub λτ H Q zq=>by obtain⟨ρ,σ,h,re,hr,q⟩:=zq;refine⟨ρ,σ,h,re,hr,?_⟩;have q1:=q.bnd;exact q1.bnd.mono λk h1 ρ1 H1 x1 hr1 q2=>RQ.here hr1 (RQ.here hr1 q2)
theorem r_and{QcZ:List Expr}(ha:PE X a (tI X.K EX (evE cf a')))(hb:PE X (.BoolOp .And (b::QcZ) pos) (tI X.K EX (evE cf b'))):PE X (.BoolOp .And (a::b::QcZ) pos) (tI X.K EX (evE cf (.and_ a' b'))) :=
 (pe_and ha hb).sub λτ H Q zq=>by obtain⟨ρ,σ,h,re,hr,q⟩:=zq;refine⟨ρ,σ,h,re,hr,q.bnd.mono λw h1 ρ1 H1 x1 hr1 q1 v r=>?_⟩;split at q1;exact⟨true,Qbh r,by rw[zF rfl];exact⟨ρ1,σ,h1,re.ext x1,hr1,q1⟩⟩;exact⟨false,Qbh r,by exact RQ.here hr1 q1 _ QaZ⟩;exact q1.elim
theorem r_or{QcZ:List Expr}(ha:PE X a (tI X.K EX (evE cf a')))(hb:PE X (.BoolOp .Or (b::QcZ) pos) (tI X.K EX (evE cf b'))):PE X (.BoolOp .Or (a::b::QcZ) pos) (tI X.K EX (evE cf (.or_ a' b'))) :=
 (pe_or ha hb).sub λτ H Q zq=>by obtain⟨ρ,σ,h,re,hr,q⟩:=zq;refine⟨ρ,σ,h,re,hr,q.bnd.mono λw h1 ρ1 H1 x1 hr1 q1 v r=>?_⟩;split at q1;exact⟨true,Qbh r,by rw[zF rfl];exact RQ.here hr1 q1 _ QaZ⟩;exact⟨false,Qbh r,by exact⟨ρ1,σ,h1,re.ext x1,hr1,q1⟩⟩;exact q1.elim
theorem QnP{op:BoolOp}(ha:PT X a (tIT X.K EX (evT cf a'))):PW X (.BoolOp op [a] pos) (tIT X.K EX (evT cf a')):=by
 cases op with
 |And=>exact Qqf ha
 |Or=>exact pw_or1 ha
theorem Qbp(r)(f:α->Qaa->Res β)(g:β->Qaa->Res γ):bnd (bnd r f) g=bnd r λx h=>bnd (f x h) g:=by cases r<;>rfl
theorem QgN(cf)(a b)(σ)(h):evT cf (.and_ a b) σ h=bnd (evT cf a σ h) λk h=>if k=true then evT cf b σ h else .ok false h:=by
 show tst (evE cf (.and_ a b) σ h)=bnd (tst (evE cf a σ h)) _;rw[evE];cases evE cf a σ h with
 |ok w h1=>
  cases w with
  |bl k=>cases k<;>rfl
  |_=>rfl
 |exc c h1=>rfl
 |stuck=>rfl
theorem Qkf(cf)(a b)(σ)(h):evT cf (.or_ a b) σ h=bnd (evT cf a σ h) λk h=>if k=true then .ok true h else evT cf b σ h:=by
 show tst (evE cf (.or_ a b) σ h)=bnd (tst (evE cf a σ h)) _;rw[evE];cases evE cf a σ h with
 |ok w h1=>
  cases w with
  |bl k=>cases k<;>rfl
  |_=>rfl
 |exc c h1=>rfl
 |stuck=>rfl
theorem Qq0(cf)(c a b)(σ)(h):evT cf (.ite c a b) σ h=bnd (evT cf c σ h) λk h=>if k=true then evT cf a σ h else evT cf b σ h:=by
 show tst (evE cf (.ite c a b) σ h)=bnd (tst (evE cf c σ h)) _;rw[evE];cases evE cf c σ h with
 |ok w h1=>
  cases w with
  |bl k=>cases k<;>rfl
  |_=>rfl
 |exc c h1=>rfl
 |stuck=>rfl
theorem t_and{QcZ:List Expr}(ha:PT X a (tIT X.K EX (evT cf a')))(hb:PW X (.BoolOp .And (b::QcZ) pos) (tIT X.K EX (evT cf b'))):PW X (.BoolOp .And (a::b::QcZ) pos) (tIT X.K EX (evT cf (.and_ a' b'))) :=
 (pw_and ha hb).sub λτ H Q zq=>by
  obtain⟨ρ,σ,h,re,hr,q⟩:=zq;rw[QgN]at q;refine⟨ρ,σ,h,re,hr,q.bnd.mono λk h1 ρ1 H1 x1 hr1 q1=>?_⟩;cases k with
  |true=>exact Qn8 ⟨ρ1,σ,h1,re.ext x1,hr1,by simp_all⟩
  |false=>exact Qoj (RQ.here hr1 (by assumption))
theorem t_or{QcZ:List Expr}(ha:PT X a (tIT X.K EX (evT cf a')))(hb:PW X (.BoolOp .Or (b::QcZ) pos) (tIT X.K EX (evT cf b'))):PW X (.BoolOp .Or (a::b::QcZ) pos) (tIT X.K EX (evT cf (.or_ a' b'))) :=
 (pw_or ha hb).sub λτ H Q zq=>by
  obtain⟨ρ,σ,h,re,hr,q⟩:=zq;rw[Qkf]at q;refine⟨ρ,σ,h,re,hr,q.bnd.mono λk h1 ρ1 H1 x1 hr1 q1=>?_⟩;cases k with
  |true=>exact Qn8 (RQ.here hr1 (by assumption))
  |false=>exact Qoj ⟨ρ1,σ,h1,re.ext x1,hr1,by simp_all⟩
theorem r_ite(hc:PT X c (tIT X.K EX (evT cf c')))(ha:PE X a (tI X.K EX (evE cf a')))(hb:PE X b (tI X.K EX (evE cf b'))):PE X (.IfExp c a b pos) (tI X.K EX (evE cf (.ite c' a' b'))) :=
 (Qmy hc ha hb).sub λτ H Q zq=>by
  obtain⟨ρ,σ,h,re,hr,q⟩:=zq;refine⟨ρ,σ,h,re,hr,q.bnd.mono λk h1 ρ1 H1 x1 hr1 q1=>?_⟩;cases k with
  |true=>exact Qn8 ⟨ρ1,σ,h1,re.ext x1,hr1,by simp_all⟩
  |false=>exact Qoj ⟨ρ1,σ,h1,re.ext x1,hr1,by simp_all⟩
theorem QiC:PA X [] (tIA X.K EX (evA cf [])):=pa_nil.sub λτ H Q zq=>by obtain⟨ρ,σ,h,re,hr,q⟩:=zq;rw[evA]at q;exact RQ.here hr q _ .nil
noncomputable def Qam(e:Expr):Bool:=match e with
 |.Starred ..=>false
 |_=>true
theorem Qaj(h:Qam e=true)(es)(env):starEach (e::es) env=(false,eval e env)::starEach es env:=by cases e<;>first|rfl|cases h
theorem Qdw(ha:PE X a (tI X.K EX (evE cf a')))(hr:PA X es (tIA X.K EX (evA cf es')))(hs:Qam a=true):PA X (a::es) (tIA X.K EX (evA cf (a'::es'))) :=
 (Qay ha hr (Qaj hs es _)).sub λτ H Q zq=>by obtain⟨ρ,σ,h,re,hr,q⟩:=zq;exact⟨ρ,σ,h,re,hr,q.bnd.mono λw h1 ρ1 H1 x1 hr1 q1 v r=>(⟨ρ1,σ,h1,re.ext x1,hr1,q1.bnd.mono λws h2 ρ2 H2 x2 hr2 q2 vs rs=>RQ.here hr2 q2 _ (.cons (Rel.ext x2 _ _ r) rs)⟩)⟩
theorem r_tup(h:PA X es (tIA X.K EX (evA cf es'))):PE X (.Tuple es k pos) (tI X.K EX (evE cf (.tup es'))):=(pe_tup h).sub λτ H Q zq=>by obtain⟨ρ,σ,h,re,hr,q⟩:=zq;refine⟨ρ,σ,h,re,hr,q.bnd.mono λws h1 ρ1 H1 x1 hr1 q1 vs rs=>?_⟩;split at q1;exact⟨by rw[<- rs.length];lia,RQ.tup hr1 rs q1⟩;exact q1.elim
theorem r_lst(h:PA X es (tIA X.K EX (evA cf es'))):PE X (.List es pos) (tI X.K EX (evE cf (.lst es'))):=(QhF h).sub λτ H Q zq=>by obtain⟨ρ,σ,h,re,hr,q⟩:=zq;refine⟨ρ,σ,h,re,hr,q.bnd.mono λws h1 ρ1 H1 x1 hr1 q1 vs rs=>?_⟩;split at q1;exact⟨by rw[<- rs.length];lia,RQ.lst hr1 rs q1⟩;exact q1.elim
theorem r_dic0:PE X (.Dict [] [] pos) (tI X.K EX (evE cf .dic0)):=pe_dnewK.sub λτ H Q zq=>by obtain⟨ρ,σ,h,re,hr,q⟩:=zq;intro p n;exact q ρ _ (ext_new hr n) (hr.ext_new n) _ (⟨p,[],rfl,hr.new n,.inl Qau,rfl,.nil⟩)
noncomputable def Qdg(e:Expr):Bool:=match e with
 |.Slice ..=>false
 |_=>true
theorem ix_of(h:Qdg e=true):QkO e:=λo i=>by cases e<;>first|rfl|cases h
theorem Qo1{K:Fg0}(r:RelL K ρ H ws xs)(e:atI ws i=some w):∃v,atI xs i=some v/\Rel K ρ H w v:=by
 unfold atI at e ⊢;rw[<- r.length];cases e1:ixN ws.length i with
 |none=>simp_all
 |some j=>rw[e1]at e;exact r.get e
theorem ixW_ok(hu:X.A.units+64<cLine):IxR X (rW X.K EX ixW):=by
 intro value slice pins s σ H x y v u Q I rx ry zq14 hs;obtain⟨ρ,h,w1,w2,hr,r1,r2,q⟩:=zq14;unfold ixW at q;split at q;rename_i i;cases Qaq r2;split at q;rename_i z;cases Qat r1;unfold ixS at q;split at q;rename_i hz;split at q;rename_i c ec;exact ix_str value slice pins s σ H _ _ v u Q I rx ry ⟨z,i,c,rfl,rfl,zf hz ZzD,ec,RQ.here hr q _ Qdt⟩ hs;exact q.elim;exact q.elim;split at q;rename_i ws e;split at q;rename_i w e2;obtain⟨a,xs,rfl,hq,rs⟩:=QbJ hr e r1;obtain⟨z,ez,rz⟩:=Qo1 rs e2;rcases hq with hq|hq;exact QpO value slice pins s σ H _ _ v u Q I rx ry ⟨a,xs,i,z,rfl,rfl,hq,ez,RQ.here hr q _ rz⟩ hs;exact ix_tup value slice pins s σ H _ _ v u Q I rx ry ⟨a,xs,i,z,rfl,rfl,hq,ez,RQ.here hr q _ rz⟩ hs;exact q.elim;exact q.elim;rename_i k;cases Qat r2;split at q;rename_i ks ws e;split at q;rename_i w e2;obtain⟨a,xs,rfl,hd,hl,rs⟩:=QaV hr e r1;obtain⟨z,ez,rz⟩:=(Qd4 (x:=k) hl rs).1 w e2;have hdg:Qm4 H a (.str k) (some z):=by rw[<- ez];exact(.inl ⟨_,Sum.inr k,hd,rfl,rfl⟩)
 cases rx;exact tail_any (QgH I hdg) PySem.F.slot_dict_getitem.lookup (Qke (zzk ZzL hu) I hdg ry λw' s' I' rw'=>⟨z,H,I',rw',RQ.here hr q _ rz⟩) hs;exact q.elim;exact q.elim;exact q.elim
theorem r_ix(hu:X.A.units+64<cLine)(ha:PE X a (tI X.K EX (evE cf a')))(hb:PE X b (tI X.K EX (evE cf b')))(hp:Qdg b=true):PE X (.Subscript a b pos) (tI X.K EX (evE cf (.ix a' b'))) :=
 (pe_ix (ixW_ok hu) ha hb (ix_of hp)).sub λτ H Q q=>two (by assumption)
theorem r_neg(ha:PE X a (tI X.K EX (evE cf a'))):PE X (.UnaryOp .USub a pos) (tI X.K EX (evE cf (.neg a'))):=(pe_un un_neg ha).sub λτ H Q zq=>by obtain⟨ρ,σ,h,re,hr,q⟩:=zq;refine⟨ρ,σ,h,re,hr,q.bnd.mono λw h1 ρ1 H1 x1 hr1 q1 v r=>?_⟩;split at q1;rename_i i;exact⟨i,Qaq r,RQ.here hr1 q1 _ QaJ⟩;exact q1.elim
end
section
variable {X:Cx}{EX:EXT}{cf:CF}{fw:Nat}{pos:Pos}{a b c e:Expr}{a' b' c' e':E}
def rB(K:Fg0)(EX:EXT)(f:List W->Qaa->Res W):List V->Hp->VK->Prop:=λxs H Q =>
 ∃ρ h ws,HRel K ρ h H/\RelL K ρ H ws xs/\RQ K EX ρ H (f ws h) λw _ ρ' H'=>∀v,Rel K ρ' H' w v->Q v H'
theorem Qjw{K:Fg0}(r:RelL K ρ H [w] xs):∃x,xs=[x]/\Rel K ρ H w x:=by obtain⟨y,ys,rfl,r1,r2⟩:=r;rw[RelL]at r2;simp_all
theorem Qpy{K:Fg0}(r:RelL K ρ H [w,w2] xs):∃x y,xs=[x,y]/\Rel K ρ H w x/\Rel K ρ H w2 y:=by obtain⟨y,ys,rfl,r1,r2⟩:=r;obtain⟨z,rfl,r3⟩:=Qjw r2;exact⟨y,z,rfl,r1,r3⟩
theorem Qds{fv:Value}(k:∀(pins:List (Addr×Obj)) (s:Shared) (σ:L2.St) (H:Hp) (x:V) (u:Value) (Q:VK) (ρ:List Addr) (h:Qaa) (w:W),Inv X pins σ H s->RelV x u->HRel X.K ρ h H->Rel X.K ρ H w x ->
  RQ X.K EX ρ H (f w h) (λw _ ρ' H'=>∀v,Rel X.K ρ' H' w v->Q v H')->wpAny (model X.prog X.w) X.A (call fv [u]) (EP X pins σ Q) X.xe s):Qba X fv (rB X.K EX (on1 f)):=by
 intro pins s σ H xs us Q I r zq9
 obtain⟨ρ,h,ws,hr,rl,q⟩:=zq9
 match ws,rl,q with
 |[w],rl,q =>
  obtain⟨x,rfl,rx⟩:=Qjw rl
  obtain⟨u,rfl,ru⟩:=r.one
  exact k pins s σ H x u Q ρ h w I ru hr rx q
 |[],rl,q=>exact q.elim
 |_::_::_,rl,q=>exact q.elim
theorem len_ok:Qba X (.builtin "len") (rB X.K EX (QbK .len)):=Qds λpins s σ H x u Q ρ h w I ru hr rx q=>by
 unfold Qg7 at q;cases e:seqA h w with
 |some us'=>rw[e]at q;obtain⟨p,ys,rfl,hq,rs⟩:=QbJ hr e rx;exact Qg0 pins s σ H _ _ Q I (.cons ru .nil) ⟨p,ys,rfl,hq,RQ.here hr q _ (by rw[rs.length];exact QaJ)⟩
 |none=>
  rw[e]at q;cases e2:QaO h w with
  |some kw=>obtain⟨ks,us'⟩:=kw;rw[e2]at q;obtain⟨p,ys,rfl,hd,hl,rs⟩:=QaV hr e2 rx;cases ru;exact d_len I hd λt s' I'=>⟨.int _,H,I',⟨t,rfl⟩,RQ.here hr q _ (by rw[List.length_zip,zo,<- hl,Nat.min_self];exact QaJ)⟩
  |none=>
   rw[e2]at q;cases w with
   |str z=>cases Qat rx;dsimp only at q;split at q;rename_i hz;exact QfW pins s σ H _ _ Q I (.cons ru .nil) ⟨z,rfl,zf hz (by rw[Zj];decide),RQ.here hr q _ QaJ⟩;exact q.elim
   |_=>exact q.elim
theorem Qp0:Qba X (.type "list") (rB X.K EX (QbK .list)):=Qds λpins s σ H x u Q ρ h w I ru hr rx q=>by
 unfold Qnp at q;cases e:seqA h w with
 |some us'=>rw[e]at q;obtain⟨p,ys,rfl,hq,rs⟩:=QbJ hr e rx;exact Qdx pins s σ H _ _ Q I (.cons ru .nil) ⟨p,ys,rfl,hq,RQ.lst hr rs q⟩
 |none=>rw[e]at q;exact q.elim
theorem QmH:Qba X (.type "tuple") (rB X.K EX (QbK .tuple)):=Qds λpins s σ H x u Q ρ h w I ru hr rx q=>by
 unfold Qiq at q;cases e1:Qe3 w with
 |some us2=>
  cases w with
  |tup ws'=>have rx':=rx;obtain⟨p,ys,rfl,hq,rs⟩:=rx';exact QcY pins s σ H _ _ Q I (.cons ru .nil) ⟨p,ys,rfl,.inr ⟨hq.sq,RQ.here hr q _ rx⟩⟩
  |_=>cases e1
 |none=>
  cases e:seqA h w with
  |some us'=>rw[e]at q;unfold seqA at e;rw[e1]at e;obtain⟨p,ys,rfl,hq,rs⟩:=QcG hr e rx;exact QcY pins s σ H _ _ Q I (.cons ru .nil) ⟨p,ys,rfl,.inl ⟨hq,RQ.tup hr rs q⟩⟩
  |none=>rw[e]at q;exact q.elim
theorem Qom{f:Int->Int->Int}{K:Fg0}{Q:VK}(hr:HRel K ρ h H)(rl:RelL K ρ H ws xs)(q:RQ K EX ρ H (on2 f ws h) λw _ ρ' H'=>∀v,Rel K ρ' H' w v->Q v H'):∃i j,xs=[.int i,.int j]/\Q (.int (f i j)) H:=by
 match ws,rl,q with
 |[x,y],rl,q =>
  obtain⟨a,b,rfl,rx,ry⟩:=Qpy rl
  cases x with
  |int i =>
   cases y with
   |int j =>
    cases Qaq rx;cases Qaq ry
    exact⟨i,j,rfl,RQ.here hr q _ QaJ⟩
   |_=>exact q.elim
  |_=>exact q.elim
 |[],rl,q=>exact q.elim
 |[_],rl,q=>exact q.elim
 |_::_::_::_,rl,q=>exact q.elim
theorem max_ok(hc:X.calm=true):Qba X (.builtin "max") (rB X.K EX (QbK .max)):=λpins s σ H xs us Q I r zq=>by obtain⟨ρ,h,ws,hr,rl,q⟩:=zq;exact Qkp hc pins s σ H _ us Q I r (Qom hr rl q)
theorem min_ok(hc:X.calm=true):Qba X (.builtin "min") (rB X.K EX (QbK .min)):=λpins s σ H xs us Q I r zq=>by obtain⟨ρ,h,ws,hr,rl,q⟩:=zq;exact QjF hc pins s σ H _ us Q I r (Qom hr rl q)
theorem int_ok:Qba X (.type "int") (rB X.K EX (QbK .int)):=Qds λpins s σ H x u Q ρ h w I ru hr rx q=>by
 cases w with
 |int i=>cases Qaq rx;exact Qgs pins s σ H _ _ Q I (.cons ru .nil) (.inl ⟨i,rfl,RQ.here hr q _ QaJ⟩)
 |bl i=>cases Qbh rx;exact Qgs pins s σ H _ _ Q I (.cons ru .nil) (.inr ⟨i,rfl,RQ.here hr q _ QaJ⟩)
 |_=>exact q.elim
theorem Qp7:Qba X (.type "dict") (rB X.K EX (QbK .dict)):=Qds λpins s σ H x u Q ρ h w I ru hr rx q=>by
 unfold Qnl at q;cases e:QaO h w with
 |some kw=>rw[e]at q;obtain⟨p,ys,rfl,hd,hl,rs⟩:=QaV hr e rx;cases ru;exact Qio I hd λp' s' n I'=>⟨.ref p',_,I',rfl,(q ρ _ (ext_new hr n) (hr.ext_new n) _ (⟨p',ys,rfl,hr.new n,.inl Qau,hl,RelL.ext (ext_new hr n) _ _ rs⟩))⟩
 |none=>rw[e]at q;exact q.elim
section
variable {α:Type}{lt:α->α->Bool}
theorem Qee(x:α):∀l,(Qqa lt x l).Perm (x::l)
 |[]=>.refl _
 |y::ys=>by unfold Qqa;split;exact((Qee x ys).cons y).trans (.swap x y ys);rfl
theorem Qbm:∀l:List α,(Qng lt l).Perm l
 |[]=>.refl _
 |x::xs=>(Qee x _).trans ((Qbm xs).cons x)
def QfO(lt:α->α->Bool)(l:List α):Prop:=l.Pairwise λa b=>lt b a=false
theorem Qgx(tr:∀a b c,lt a b=false->lt b c=false->lt a c=false)(as:∀a b,lt a b=true->lt b a=false)(x:α):∀l,QfO lt l->QfO lt (Qqa lt x l)
 |[],_=>by simp[Qqa,QfO]
 |y::ys,h=>by
  unfold QfO at h
  rw[ZT]at h
  unfold Qqa
  split
  ·rename_i hl
   unfold QfO
   rw[ZT]
   refine⟨λz hz=>?_,Qgx tr as x ys h.2⟩
   rcases zS.mp ((Qee x ys).mem_iff.mp hz) with e|hz
   ·subst e;exact as _ _ hl
   ·exact h.1 z hz
  ·rename_i hl
   unfold QfO
   rw[ZT,ZT]
   grind
theorem Qgh(tr:∀a b c,lt a b=false->lt b c=false->lt a c=false)(as:∀a b,lt a b=true->lt b a=false):∀l,QfO lt (Qng lt l)
 |[]=>by simp[Qng,QfO]
 |x::xs=>Qgx tr as x _ (Qgh tr as xs)
theorem Qgo(an:∀a b,lt a b=false->lt b a=false->a=b):∀{l k:List α},QfO lt l->QfO lt k->l.Perm k->l=k
 |[],k,_,_,p=>p.nil_eq
 |x::l,[],_,_,p=>by simp_all
 |x::l,y::k,hl,hk,p=>by
  unfold QfO at hl hk
  rw[ZT]at hl hk
  have e:x=y:=by
   have h1:x∈y::k:=p.mem_iff.mp zN
   have h2 :=p.mem_iff.mpr zN
   grind
  subst e
  rw[Qgo an hl.2 hk.2 (List.perm_cons x |>.mp p)]
end
theorem ltS_as(a b)(h:ltS a b=true):ltS b a=false:=by
 unfold ltS at *
 grind
theorem QnF(a b c)(h:ltS a b=false)(k:ltS b c=false):ltS a c=false:=by
 unfold ltS at *
 grind
theorem ltS_an(a b)(h:ltS a b=false)(k:ltS b a=false):a=b:=by have h1:=zz1 h;have k1:=zz1 k;have e:=List.le_antisymm (List.not_lt.mp k1) (List.not_lt.mp h1);cases a;simp_all
theorem rise_S:∀{l:List Str},sortedS l=true->QfO ltS l:=by
 have tr:∀(p:Str) (l:List Str),risingS p l=true->(∀x∈l,ltS x p=false)/\QfO ltS l:=by
  intro p l;induction l generalizing p with
  |nil=>exact λ_=>⟨ZzS,by simp[QfO]⟩
  |cons x r ih=>
   intro h;have h':(!ltCps x.cps.toList p.cps.toList&&risingS x r)=true:=h;rw[zE,ltCps_eq]at h';have hx:ltS x p=false:=by unfold ltS;simpa using h'.1
   obtain⟨i1,i2⟩:=ih x h'.2;refine⟨λz hz=>?_,?_⟩;rcases zS.mp hz with e|hz;subst e;exact hx;exact QnF _ _ _ (i1 z hz) hx;unfold QfO;rw[ZT];exact⟨i1,i2⟩
 intro l h;cases l with
 |nil=>simp[QfO]
 |cons x r=>obtain⟨i1,i2⟩:=tr x r h;unfold QfO;rw[ZT];exact⟨i1,i2⟩
theorem QhZ{K:Fg0}:∀{ws:List W}{ss:List Str}{xs:List V},Qbu ws=some ss->RelL K ρ H ws xs->xs=ss.map V.str
 |[],ss,xs,e,r=>by cases e;exact r
 |w::ws,ss,xs,e,r=>by
  obtain⟨y,ys,rfl,r1,r2⟩:=r;cases w with
  |str s=>
   have e':(Qbu ws).map (s::·)=some ss:=e;cases e1:Qbu ws with
   |none=>simp_all
   |some ts=>rw[e1]at e';cases e';rw[Qat r1,QhZ e1 r2];rfl
  |_=>cases e
theorem QdI:∀{ss:List Str}{us:List Value},Vals (ss.map V.str) us->StrsAre us ss
 |[],us,h=>by cases h;exact .nil
 |s::ss,us,h=>by
  cases h with
  |cons r rs=>obtain⟨t,rfl⟩:=r;exact .cons s t (QdI rs)
theorem Qgl:∀{ss:List Str}{us:List Value},StrsAre us ss->Vals (ss.map V.str) us
 |[],us,h=>by cases h;exact .nil
 |s::ss,us,h=>by
  cases h with
  |cons _ t rs=>exact .cons ⟨t,rfl⟩ (Qgl rs)
theorem Qh6{K:Fg0}:∀ss:List Str,RelL K ρ H (ss.map W.str) (ss.map V.str)
 |[]=>.nil
 |s::ss=>.cons Qdt (Qh6 ss)
theorem QfQ{K:Fg0}:∀{ws:List W}{bs:List Bool}{xs:List V},Qc4 ws=some bs->RelL K ρ H ws xs->xs=bs.map V.bl
 |[],bs,xs,e,r=>by cases e;exact r
 |w::ws,bs,xs,e,r=>by
  obtain⟨y,ys,rfl,r1,r2⟩:=r;cases w with
  |bl s=>obtain⟨ts,e1,rfl⟩:=Zg.mp (e);rw[Qbh r1,QfQ e1 r2];rfl
  |_=>cases e
theorem QkV{pins:List (Addr×Obj)}{σ:L2.St}{H:Hp}{s:Shared}{ρ:List Addr}{h:Qaa}{w:W}{x:V}{ss:List Str}(I:Inv X pins σ H s)(hr:HRel X.K ρ h H)(rx:Rel X.K ρ H w x)(e:(seqA h w).bind Qbu=some ss) :
  ∃p T o n its,x=.ref p/\(T="list"\/T="tuple")/\s.heap.get? p=some o/\o.cls=.type T/\o.data=.seq its.toArray n/\StrsAre its ss/\its.length=ss.length:=by
 obtain⟨us',e1,e2⟩:=obs e
 obtain⟨p,ys,rfl,hq,rs⟩:=QbJ hr e1 rx
 have ey:=QhZ e2 rs
 subst ey
 rcases hq with hq|hq
 ·obtain⟨its,rv,⟨o,n,ho,hc,_,hd⟩,hz⟩:=I.list hq
  exact⟨p,"list",o,n,its,rfl,.inl rfl,ho,hc,hd,QdI rv,by rw[<- rv.length,zo]⟩
 ·obtain⟨its,rv,⟨o,ho,hc,n,hd⟩,hz⟩:=I.tuple hq
  exact⟨p,"tuple",o,n,its,rfl,.inr rfl,ho,hc,hd,QdI rv,by rw[<- rv.length,zo]⟩
theorem Ql5:Qba X (.builtin "sorted") (rB X.K EX (QbK .sorted)):=Qds λpins s σ H x u Q ρ h w I ru hr rx q=>by unfold Qi9 at q;split at q;rename_i ss e;split at q;obtain⟨p,T,o,n,its,rfl,hT,ho,hc,hd,hS,hl⟩:=QkV I hr rx e;cases ru;refine Qn4 ho hc hT hd hS (by simp_all) λout ss' a1 a2 a3=>?_;obtain⟨ep,he⟩:=sortedAll_at s.heap its out;have e' :=Qgo ltS_an (rise_S a3) (Qgh QnF ltS_as ss) (a2.trans (Qbm ss).symm);subst e';refine⟨.ref (s.heap.objs.size+1),_,I.laid  (o:=.lst ((Qng ltS ss).map V.str)) (λ_ _ e=>sortedAll_old e) (ZK _) ⟨?_,out.toList,ep,Qgl a1,he⟩,rfl,RQ.lst hr (Qh6 _) q _ (I.hok.fresh (ZK _))⟩;rw[zo,(Qbm ss).length_eq,Zj];lia;exact q.elim;exact q.elim
theorem Qlh:∀{bs:List Bool}{us:List Value},Vals (bs.map V.bl) us->∀{i:Nat}{v:Value},us[i]?=some v->v=.bool (bs.getD i false)
 |[],us,h,i,v,e=>by cases h;simp_all
 |b::bs,us,h,i,v,e=>by
  cases h with
  |cons r rs=>
   cases i with
   |zero=>cases r;simp_all
   |succ i=>exact Qlh rs  (by simp_all)
theorem QfF(bs:List Bool):(List.range bs.length).all (λi=>bs.getD i false)=bs.all id/\(List.range bs.length).any (λi=>bs.getD i false)=bs.any id:=by
 have e:(List.range bs.length).map (λi=>bs.getD i false)=bs:=by refine List.ext_getElem ZzS λi h1 h2=>?_;simp_all
 have a1:=List.all_map (l:=List.range bs.length) (f:=λi=>bs.getD i false) (p:=id);have a2:=List.any_map (l:=List.range bs.length) (f:=λi=>bs.getD i false) (p:=id);simp_all
theorem QeB{pins : List (Addr×Obj)}{σ : L2.St}{H : Hp}{s : Shared}{ρ : List Addr}{h : Qaa}{w : W}{x : V}{u : Value}{bs : List Bool}{A : Around}{E : Value -> Shared -> Prop}(hh : A.handled = none)(I : Inv X pins σ H s)(hr : HRel X.K ρ h H)(rx : Rel X.K ρ H w x)(ru : RelV x u)(e : (seqM h w).bind Qc4 = some bs) : wpAny (model X.prog X.w) A (pyIter u) (λit s2 => ∃I0 fp wr n P St tr, it = .ref I0 /\ Walks X.prog X.w A I0 fp wr n P St /\ St 0 s2.heap /\ TruthOf X.prog X.w A P tr /\ n = bs.length /\ (∀i, tr i = bs.getD i false) /\
   ∀h' tk,(∀b o,b∉wr->s2.heap.get? b=some o->h'.get? b=some o)->Inv X pins σ H { s2 with heap:=h',toks:=tk }) E s:=by
 obtain⟨us',e1,e2⟩:=obs e
 obtain⟨p,ys,rfl,hq,rs⟩:=Qbc hr e1 rx
 have ey:=QfQ e2 rs
 subst ey
 cases ru
 obtain⟨its,rv,⟨o,n,ho,hc,_,hd⟩,hz⟩:=I.list (.inl (.inl hq))
 have hL:s.heap.IsList p its.toArray:=⟨o,ho,hc,n,hd⟩
 have hlt:p<s.heap.objs.size:=zL ho
 refine zzJ hL ⟨_,_,_,_,_,_,λi=>bs.getD i false,rfl,Walks.list hh _ p (zU hlt) its.toArray,⟨⟨_,zG _ rfl,rfl,rfl⟩,hL.push _⟩,?_,?_,λ_=>rfl,λh' tk hk=>?_⟩
 ·intro i v s Q E hP hQ
  have :=Qlh rv (by simpa using hP)
  subst this
  exact ZE hQ
 ·rw[<- zo (f:=V.bl),rv.length];simp
 ·refine I.kept λb ob eb=>hk b ob ?_ (hps0 _ eb)
  simp only[zP]
  exact zU (zL eb)
theorem all_ok(hc:X.calm=true):Qba X (.builtin "all") (rB X.K EX (QbK .all)):=Qds λpins s σ H x u Q ρ h w I ru hr rx q=>by unfold allW at q;split at q;rename_i bs e;refine call_all_walk (ZA (QeB (by simpa using I.ok.hd hc) I hr rx ru e) (λit s2 zq=>?_) λ_ _ z=>z);obtain⟨I0,fp,wr,n,P,S0,tr,e1,W,st,t,e2,e3,k⟩:=zq;refine⟨I0,fp,wr,n,P,S0,tr,e1,W,st,t,λh' tk hk=>?_⟩;have e4 :=funext e3;rw[e2,e4,(QfF bs).1];exact⟨.bl _,H,k h' tk hk,rfl,RQ.here hr q _ QaZ⟩;exact q.elim
theorem any_ok(hc:X.calm=true):Qba X (.builtin "any") (rB X.K EX (QbK .any)):=Qds λpins s σ H x u Q ρ h w I ru hr rx q=>by unfold allW at q;split at q;rename_i bs e;refine call_any_walk (ZA (QeB (by simpa using I.ok.hd hc) I hr rx ru e) (λit s2 zq=>?_) λ_ _ z=>z);obtain⟨I0,fp,wr,n,P,S0,tr,e1,W,st,t,e2,e3,k⟩:=zq;refine⟨I0,fp,wr,n,P,S0,tr,e1,W,st,t,λh' tk hk=>?_⟩;have e4 :=funext e3;rw[e2,e4,(QfF bs).2];exact⟨.bl _,H,k h' tk hk,rfl,RQ.here hr q _ QaZ⟩;exact q.elim
noncomputable def Qfp:Bl->Str
 |.len=>"len"|.list=>"list"|.tuple=>"tuple"|.max=>"max"|.min=>"min"|.int=>"int"|.sorted=>"sorted"|.dict=>"dict"|.all=>"all"|.any=>"any"
theorem Qcc:∀{es:List Expr} (h:es.all Qam=true) (pos:Pos) (env:Env),(backTo pos (starEach es env)).any (·.1)=false
 |[],_,_,_=>rfl
 |e::es,h,pos,env=>by rw[ZB,zE]at h;rw[Qaj h.1];have:=Qcc h.2 pos env;simpa [backTo] using this
theorem r_blt(hc:X.calm=true)(hg:Gl X (Qfp bb))(hm:X.mg (Qfp bb)=none)(ha:PA X (e::es) (tIA X.K EX (evA cf es')))(hs:(e::es).all Qam=true) :
  PE X (.Call (.Name (Qfp bb) p) (e::es) [] pos) (tI X.K EX (evE cf (.blt bb es'))):=by
 have hs':=hs
 rw[ZB,zE]at hs'
 have h1:=Qaj hs'.1 es X.env
 have h2:=Qcc hs'.2 pos X.env
 have key:∀τ H Q,tI X.K EX (evE cf (.blt bb es')) τ H Q->tCB (rB X.K EX (QbK bb)) (tIA X.K EX (evA cf es')) τ H Q:=λτ H Q zq=>by obtain⟨ρ,σ,h,re,hr,q⟩:=zq;rw[evE]at q;exact⟨ρ,σ,h,re,hr,q.bnd.mono λws h1 ρ1 H1 x1 hr1 q1 vs rs=>⟨ρ1,h1,ws,hr1,rs,q1⟩⟩
 cases bb with
 |len=>exact(Qbk len_ok hg hm PySem.boot_len ha (by decide +kernel) (by decide +kernel) h1 h2).sub key
 |list=>exact(QaK Qp0 hg hm zz9 ha (by decide +kernel) (by decide +kernel) h1 h2).sub key
 |tuple=>exact(QaK QmH hg hm PyProof.Rows.boot_tuple ha (by decide +kernel) (by decide +kernel) h1 h2).sub key
 |max=>exact(Qbk (max_ok hc) hg hm PyProof.Rows.boot_max ha (by decide +kernel) (by decide +kernel) h1 h2).sub key
 |min=>exact(Qbk (min_ok hc) hg hm PyProof.Rows.boot_min ha (by decide +kernel) (by decide +kernel) h1 h2).sub key
 |int=>exact(QaK int_ok hg hm PyProof.Rows.boot_int ha (by decide +kernel) (by decide +kernel) h1 h2).sub key
 |dict=>exact(QaK Qp7 hg hm (by decide +kernel) ha (by decide +kernel) (by decide +kernel) h1 h2).sub key
 |sorted=>exact(Qbk Ql5 hg hm PyProof.Rows.boot_sorted ha (by decide +kernel) (by decide +kernel) h1 h2).sub key
 |all=>exact(Qbk (all_ok hc) hg hm PyProof.Rows.boot_all ha (by decide +kernel) (by decide +kernel) h1 h2).sub key
 |any=>exact(Qbk (any_ok hc) hg hm PyProof.Rows.boot_any ha (by decide +kernel) (by decide +kernel) h1 h2).sub key
noncomputable abbrev QoK(X:Cx)(ss:List Str)(p:Addr):HO:=.ext λh=>h.SetOf (PySem.strKind X.prog X.w) p (λy=>decide (y∈ss)) (nub ss).length
theorem set_ok(hc:X.calm=true):Qba X (.type "set") (λxs H Q=>∃ρ h w x ss,xs=[x]/\HRel X.K ρ h H/\Rel X.K ρ H w x/\(seqA h w).bind Qbu=some ss/\ss.length<64/\∀q,H q=none->Q (.ref q) (upd H q (QoK X ss q))):=by
 intro pins s σ H xs us Q I r zq9;obtain⟨ρ,h,w,x,ss,e0,hr,rx,e,h64,q⟩:=zq9;subst e0;obtain⟨u,rfl,ru⟩:=r.one;obtain⟨p,T,o,n,its,rfl,hT,ho,hcl,hd,hS,hl⟩:=QkV I hr rx e;cases ru
 have fin:∀(h':Heap) (tk:Nat),h'.SetOf (PySem.strKind X.prog X.w) s.heap.objs.size (λy=>decide (y∈ss)) (nub ss).length->(∀b o,b<s.heap.objs.size->s.heap.get? b=some o->h'.get? b=some o)->EP X pins σ Q (.ref s.heap.objs.size) { s with heap:=h',toks:=tk }:=λh' tk hS' k =>
  ⟨.ref s.heap.objs.size,_,I.laid (o:=QoK X ss s.heap.objs.size) (λb o e=>k b o (zL e) e) (zD _) ⟨hS',(by obtain⟨o,_,_,_,z,_⟩:=hS';exact⟨o,z⟩),λh1 h2 z k2=>(by obtain⟨o,es,ep,t,z,QcZ⟩:=z;exact⟨o,es,ep,t,k2 _ z,QcZ⟩)⟩,rfl,q _ (I.hok.fresh (zD _))⟩
 have hb:its.length+1<scanBound:=by unfold scanBound;lia
 rcases hT with rfl|rfl
 exact QhW  (St:=λI0 i h=>h.IsListIter I0 p i/\h.IsList p its.toArray) (I.ok.hd hc) ho hcl (.inl rfl) hd hS hb rfl (λA' s1 R F e k=>zzJ ⟨o,e,hcl,n,hd⟩ k)
  (λA' I0 h1 h2=>by simpa using Walks.list (prog:=X.prog) (w:=X.w) h1 I0 p h2 its.toArray) (λI0 h e1 e2=>⟨⟨_,e1,rfl,rfl⟩,o,e2,hcl,n,hd⟩) fin
 exact QhW  (St:=λI0 i h=>h.IsTupleIter I0 p i/\h.IsTuple p its.toArray) (I.ok.hd hc) ho hcl (.inr rfl) hd hS hb rfl (λA' s1 R F e k=>wpAny_pyIter_tuple ⟨o,e,hcl,n,hd⟩ k)
  (λA' I0 h1 h2=>by simpa using Walks.tuple (prog:=X.prog) (w:=X.w) h1 I0 p h2 its.toArray) (λI0 h e1 e2=>⟨⟨_,e1,rfl,rfl⟩,o,e2,hcl,n,hd⟩) fin
theorem Qj7:Qba X (.builtin "len") (λxs H Q=>∃p ss,xs=[.ref p]/\ss.length<64/\H p=some (QoK X ss p)/\Q (.int (nub ss).length) H):=by
 intro pins s σ H xs us Q I r zq9;obtain⟨p,ss,e0,h64,hp,q⟩:=zq9;subst e0;obtain⟨u,rfl,ru⟩:=r.one;cases ru;obtain⟨⟨o,es,ep,t,ho,hex,hd,hel,hmem,hb,hf,hn⟩,_⟩:=I.hok p _ hp;have:=QhA ss;have e:((es.size))=((nub ss).length):=by rw[hn]
 refine call_len_set ho hex hd hf ZzL ?_;rw[e];exact⟨.int _,H,I.tok _,⟨_,rfl⟩,q⟩
theorem r_slen(hc:X.calm=true)(hg:Gl X "len")(hm:X.mg "len"=none)(hg2:Gl X "set")(hm2:X.mg "set"=none)(ha:PE X a (tI X.K EX (evE cf a')))(hs:Qam a=true) :
  PE X (.Call (.Name "len" p) [.Call (.Name "set" p2) [a] [] p3] [] pos) (tI X.K EX (evE cf (.slen a'))):=by
 have h1:=QaK (p:=p2) (pos:=p3) (set_ok hc) hg2 hm2 (by decide +kernel) (Qay ha pa_nil (Qaj hs _ _)) (by decide +kernel) (by decide +kernel) (Qaj hs _ _) (by rfl)
 refine(Qbk Qj7 hg hm PySem.boot_len (Qay h1 pa_nil (by rfl)) (by decide +kernel) (by decide +kernel) (by rfl) (by rfl)).sub λτ H Q zq=>?_
 obtain⟨ρ,σ,h,re,hr,q⟩:=zq
 refine⟨ρ,σ,h,re,hr,q.bnd.mono λw h1 ρ1 H1 x1 hr1 q1 v r=>?_⟩
 split at q1
 ·rename_i ss e
  split at q1
  ·rename_i h64
   exact⟨ρ1,h1,w,v,ss,rfl,hr1,r,e,h64,λq hq=>⟨q,ss,rfl,h64,Qau,q1 _ _ (ext_new hr1 hq) (hr1.ext_new hq) _ QaJ⟩⟩
  ·exact q1.elim
 ·exact q1.elim
noncomputable def Qaz:Ty->String
 |.int=>"int"|.bool=>"bool"|.str=>"str"|.tuple=>"tuple"|.list=>"list"
def kindV(K:Fg0)(H:Hp)(x:V)(t:Ty)(k:Bool):Prop:=match x with
 |.int _=>k=decide (t=.int)
 |.bl _=>k=(decide (t=.int)||decide (t=.bool))
 |.str _=>k=decide (t=.str)
 |.ref a=>((∃xs,SqL K H a xs)/\k=decide (t=.list))\/((∃xs,SqT K H a xs)/\k=decide (t=.tuple))
 |_=>False
theorem QmN{K:Fg0}(hr:HRel K ρ h H)(e:QaM h w t=some k)(r:Rel K ρ H w v):kindV K H v t k:=by
 cases w with
 |int i=>cases Qaq r;cases e;rfl
 |bl i=>cases Qbh r;cases e;rfl
 |str i=>cases Qat r;cases e;rfl
 |tup ws=>cases e;rw[Rel]at r;obtain⟨a,xs,rfl,q,_⟩:=r;exact .inr ⟨⟨xs,q.sq⟩,rfl⟩
 |lst ws=>cases e;rw[Rel]at r;obtain⟨a,xs,rfl,_,q,_⟩:=r;exact .inl ⟨⟨xs,.inl (.inl q)⟩,rfl⟩
 |scr ws=>cases e;rw[Rel]at r;obtain⟨a,xs,rfl,q,_⟩:=r;exact .inl ⟨⟨xs,q.sq⟩,rfl⟩
 |ref n=>
  have e':(match h[n]? with|some (.lst _)=>some (decide (t=.list))|_=>none)=some k:=e;split at e'<;>try (cases e';done)
  rename_i us e3;cases e';obtain⟨a,xs,rfl,q,_⟩:=QcG (w:=.ref n) (ws:=us) hr (by show(match h[n]? with|some (.lst ws)=>some ws|_=>none)=some us;rw[e3]) r;exact .inl ⟨⟨xs,q⟩,rfl⟩
 |_=>cases e
theorem isi_ok:Qba X (.builtin "isinstance") (λxs H Q=>∃x t k,xs=[x,.ty (Qaz t)]/\kindV X.K H x t k/\Q (.bl k) H):=by
 intro pins s σ H xs us Q I r zq9;obtain⟨x,t,k,e,hk,q⟩:=zq9;subst e;obtain⟨u,w',rfl,rx,ry⟩:=QmT r;have ry':w'=Value.type (Qaz t):=ry;subst ry';have fin:∀tk,EP X pins σ Q (.bool k) { s with toks:=tk }:=λtk=>⟨.bl k,H,I.tok _,rfl,q⟩;have fin0:EP X pins σ Q (.bool k) s:=⟨.bl k,H,I,rfl,q⟩;cases x with
 |int i=>
  obtain⟨tk,rfl⟩:=rx;have e:k=decide (t=.int):=hk;subst e;cases t with
  |int=>exact PySem.IsiPair.int_int fin0
  |bool=>exact PySem.IsiPair.int_bool (fin _)
  |str=>exact PySem.IsiPair.int_str (fin _)
  |tuple=>exact PySem.IsiPair.int_tuple (fin _)
  |list=>exact PySem.IsiPair.int_list (fin _)
 |bl i=>
  cases rx;have e:k=(decide (t=.int)||decide (t=.bool)):=hk;subst e;cases t with
  |int=>exact PySem.IsiPair.bool_int fin0
  |bool=>exact PySem.IsiPair.bool_bool fin0
  |str=>exact PySem.IsiPair.bool_str (fin _)
  |tuple=>exact PySem.IsiPair.bool_tuple (fin _)
  |list=>exact PySem.IsiPair.bool_list (fin _)
 |str i=>
  obtain⟨tk,rfl⟩:=rx;have e:k=decide (t=.str):=hk;subst e;cases t with
  |int=>exact PySem.IsiPair.str_int (fin _)
  |bool=>exact PySem.IsiPair.str_bool (fin _)
  |str=>exact PySem.IsiPair.str_str fin0
  |tuple=>exact PySem.IsiPair.str_tuple (fin _)
  |list=>exact PySem.IsiPair.str_list (fin _)
 |ref p=>
  cases rx;have hk':((∃xs,SqL X.K H p xs)/\k=decide (t=.list))\/((∃xs,SqT X.K H p xs)/\k=decide (t=.tuple)):=hk;rcases hk' with⟨⟨xs,hq⟩,e⟩|⟨⟨xs,hq⟩,e⟩;subst e;obtain⟨its,_,⟨o,n,ho,hc,_⟩,_⟩:=I.list hq;cases t with
  |int=>exact PySem.IsiPair.list_int ho hc (fin _)
  |bool=>exact PySem.IsiPair.list_bool ho hc (fin _)
  |str=>exact PySem.IsiPair.list_str ho hc (fin _)
  |tuple=>exact PySem.IsiPair.list_tuple ho hc (fin _)
  |list=>exact PySem.IsiPair.list_list ho hc fin0
  subst e;obtain⟨its,_,⟨o,ho,hc,_⟩,_⟩:=I.tuple hq;cases t with
  |int=>exact PySem.IsiPair.tuple_int ho hc (fin _)
  |bool=>exact PySem.IsiPair.tuple_bool ho hc (fin _)
  |str=>exact PySem.IsiPair.tuple_str ho hc (fin _)
  |tuple=>exact PySem.IsiPair.tuple_tuple ho hc fin0
  |list=>exact PySem.IsiPair.tuple_list ho hc (fin _)
 |_=>exact(show False from hk).elim
theorem Qk0:∀t,bootBuiltins (Str.ofString (Qaz t))=some (.type (Qaz t))
 |.int=>rfl
 |.bool=>rfl
 |.str=>rfl
 |.tuple=>rfl
 |.list=>rfl
theorem r_isi{t:Ty}(hg:Gl X "isinstance")(hm:X.mg "isinstance"=none)(hg2:Gl X (Str.ofString (Qaz t)))(hm2:X.mg (Str.ofString (Qaz t))=none)(ha:PE X a (tI X.K EX (evE cf a')))(hs:Qam a=true) :
  PE X (.Call (.Name "isinstance" p) [a,.Name (Str.ofString (Qaz t)) p2] [] pos) (tI X.K EX (evE cf (.isi a' [t]))):=by
 have hty:PE X (.Name (Str.ofString (Qaz t)) p2) (tC (.ty (Qaz t))):=Qjl hg2 hm2 (Qk0 t) rfl (by cases t<;>decide +kernel) (by cases t<;>decide +kernel)
 refine(Qbk isi_ok hg hm zzC (Qay ha (Qay hty pa_nil (by rfl)) (Qaj hs _ _)) (by decide +kernel) (rfl) (Qaj hs _ _) (by rfl)).sub λτ H Q zq=>?_
 obtain⟨ρ,σ,h,re,hr,q⟩:=zq
 refine⟨ρ,σ,h,re,hr,q.bnd.mono λw h1 ρ1 H1 x1 hr1 q1 v r=>?_⟩
 cases e:QaM h1 w t with
 |none=>simp[e]at q1;exact q1.elim
 |some k =>
  have q2 :=by simpa [e] using q1
  exact⟨v,t,k,rfl,QmN hr1 e r,RQ.here hr1 q2 _ QaZ⟩
end
noncomputable def Its(z:Str):L2.It:=⟨λi _=>i<z.cps.size,λi H x H'=>H'=H/\∃c,z.cps[i]?=some c/\x=.str ⟨#[c]⟩,λi _=>i=z.cps.size⟩
theorem Qix{P:Program}{w:World}{K:Fg0}{tg:Expr}{z:Str}{t:Tok}{T:String}(it:Addr)(hn:["enumerate","zip","dict_itemiterator","dict_reverseitemiterator","odict_iterator","itertools.zip_longest","itertools.pairwise"].contains T=false)
  (W:∀A':Around,A'.handled=none->Walks P w A' it [it] [it] z.cps.size (SignAt z) (λi h=>h.IsStrIter it T z t i)) (hself:∀(A:Around) (i:Nat) (s:Shared) (Q:Value->Shared->Prop) (E:Value->Shared->Prop),s.heap.IsStrIter it T z t i->Q (.ref it) s->wpAny (model P w) A (pyIter (.ref it)) Q E s):Turn P w K tg (Its z) [it] it (λi h=>h.IsStrIter it T z t i) where
 mem:=ZzS
 obj:=λi h st b hb=>by
  obtain rfl:b=it:=by simpa using hb
  obtain⟨o,e,c,d⟩:=st;exact⟨o,e,λv z=>by rw[d]at z;cases z⟩
 keep:=λi h h' st k=>by obtain⟨o,e,r⟩:=st;exact⟨o,k it ZzS o e,r⟩
 item:=by intro X hP hw hK hc i pins s σ H E I hf st hg;subst hP hw hK;obtain⟨f0,f1,f2,f3,f4,f5⟩:=hf it ZzS;refine(W X.A (I.ok.hd hc)).item i s _ _ hg st λv h' tk hP st' kk=>?_;obtain⟨c,u,e1,rfl⟩:=hP;have I1:Inv X pins σ H { s with heap:=h',toks:=tk }:=I.turned (λb o hb e=>kk b o (by simpa using hb) e) f0 f1 f3 f4 f5;obtain⟨o,e,c2,d⟩:=id st';exact⟨_,rfl,Qnx (s:={ s with heap:=h',toks:=tk }) e c2 d hn ⟨.str ⟨#[c]⟩,H,I1,⟨u,rfl⟩,⟨rfl,c,e1,rfl⟩,st',λb hb=>(hf b hb).1⟩⟩
 done:=by intro X hP hw hK hc i pins s σ H E I hf st hg;subst hP hw hK;obtain⟨f0,f1,f2,f3,f4,f5⟩:=hf it ZzS;cases (show i=z.cps.size from hg);exact(W X.A (I.ok.hd hc)).done s _ _ st λh' tk kk=>⟨rfl,I.turned (λb o hb e=>kk b o (by simpa using hb) e) f0 f1 f3 f4 f5⟩
 self:=λA i s Q E st h=>hself A i s Q E st h
theorem pi_str{X:Cx}{tg:Expr}{pins:List (Addr×Obj)}{σ:L2.St}{H:Hp}{s:Shared}{R:L2.It->Hp->Prop}{E:Value->Shared->Prop}{z:Str}{t:Tok}(I:Inv X pins σ H s)(q:R (Its z) H):wpAny (model X.prog X.w) X.A (pyIter (.str z t)) (PIE X pins σ tg R) E s:=by
 have fp:∀b∈[s.heap.objs.size],Qig X pins H b:=λb hb=>by
  obtain rfl:b=s.heap.objs.size:=by simpa using hb
  exact I.fpOk (zD _) (I.hok.fresh (zD _))
 cases ha:z.cps.all (·<128);exact wpAny_pyIter_wide ha ⟨s.heap.objs.size,[s.heap.objs.size],_,_,H,rfl,I.kept  λb o e=>hps0 _ e,Qix (t:=t) _ ZzD (λA' hA=>Walks.strWide hA _ z t) (λA i s Q E st h=>wpAny_pyIter_striter_wide st h),⟨_,zG _ rfl,rfl,rfl⟩,fp,q⟩;exact wpAny_pyIter_ascii ha ⟨s.heap.objs.size,[s.heap.objs.size],_,_,H,rfl,I.kept (t':=s.toks) λb o e=>hps0 _ e,Qix (t:=t) _ ZzD (λA' hA=>Walks.strAscii hA _ z t) (λA i s Q E st h=>wpAny_pyIter_striter_ascii st h),⟨_,zG _ rfl,rfl,rfl⟩,fp,q⟩
section
variable {P:Program}{w:World}{A:Around}{E:Value->Shared->Prop}
theorem QfX(ne:l≠it):∀(n i:Nat) (s:Shared) (Q:List Value->Shared->Prop),s.heap.IsListIter it l i->s.heap.IsList l items->i+n<=items.size ->
  (∀h',h'.IsListIter it l (i+n)->Heap.SameBut it s.heap h'->Q ((items.toList.drop i).take n) { s with heap:=h' })->wpAny (model P w) A (draw (.ref it) n) Q E s
 |0,i,s,Q,a,b,hl,q=>by rw[draw];exact zH (q s.heap a (Heap.SameBut.refl _ _))
 |n+1,i,s,Q,a,b,hl,q=>by rw[draw];have hi:i<items.size:=ZzL;refine zd (wpAny_pyNext_list_item a b (x:=items[i]) ZzS λh1 a1 sb1=>?_);obtain⟨o,o1,o2⟩:=b;refine zd (Zu (QfX ne n (i+1) _ _ a1 ⟨o,(sb1.2 l ne).trans o1,o2⟩ ZzL λh2 a2 sb2=>zH ?_));have:=q h2 (by grind) (sb1.trans sb2);rw[<- List.getElem_cons_drop (h:=by simpa using hi),List.take_succ_cons]at this;simpa using this
theorem Qdz(hh:A.handled=none)(hl:s.heap.IsList l items)(q:∀h':Heap,Heap.ExtBut s.heap.objs.size s.heap h'->Q items.toList { s with heap:=h' }):wpAny (model P w) A (unpackItems (.ref l) items.size none) Q E s:=by unfold unpackItems;refine zd ?_;refine zd (wpAny_specialOf hl.typeIs slot_list_iter.lookup ?_);dsimp only[Option.isSome];rw[zF rfl];refine zH ?_;rw[zM ZzD];refine zd (Zu (zzJ hl ?_));obtain⟨o,o1,o2⟩:=id hl;have ne:l≠s.heap.objs.size:=zU (zL o1);have hl1:(s.heap.push { cls:=.type "list_iterator",data:=.fields #[.ref l,.int 0 0] }).IsList l items:=⟨o,hps0 _ o1,o2⟩;refine zd (Zu (QfX ne items.size 0 _ _ ⟨_,zG _ rfl,rfl,rfl⟩ hl1 ZzS λh1 a1 sb1=>?_));rw[zzu,Z3 ZzS,zM ZzS];rw[ZV]at a1;obtain⟨o',o1',o2'⟩:=id hl1;refine zd (Zu (wpAny_pyNext_list_end hh a1 ⟨o',(sb1.2 l ne).trans o1',o2'⟩ ZzS λh2 eb=>?_));rw[zM ZzD];refine zH (q h2 λb ob hb e=>eb b ob hb ?_);exact(sb1.2 b hb).trans (hps0 _ e)
end
section
variable {X:Cx}{pos:Pos}
theorem pg_lst{es:List Expr}{k:Nat}{t:TGs}{n:Nat}(hc:X.calm=true)(h:PGs X es t)(hn:(assignEach es X.env).length=n)(hst:(assignEach es X.env).findIdx? (·.1)=none):PG X (.Tuple es k pos) (λv σ H Q=>∃a xs,v=.ref a/\SqL X.K H a xs/\xs.length=n/\t xs σ H Q):=by intro pins s σ H v u Q I r hw;obtain⟨a,xs,e1,hq,hl,hw⟩:=hw;subst e1;cases r;obtain⟨its,rv,ht,hz⟩:=I.list hq;refine zd (zzF ?_);unfold unpack;rw[hst,show(assignEach es X.env).length=its.toArray.size by simp[hn,<- hl,rv.length]];refine zd (Zu (Qdz (I.ok.hd hc) ht.isList λh' hx=>?_));have I1 :=I.kept (t':=s.toks) λb o e=>hx b o (zU (zL e)) e;exact h pins _ σ H xs _ Q I1 (by simpa using rv) hw
theorem _root_.L2.PG.or(p:PG X e t)(p':PG X e t'):PG X e (λv σ H Q=>t v σ H Q\/t' v σ H Q):=λpins s σ H v u Q I r q=>by rcases q with q|q;exact p pins s σ H v u Q I r q;exact p' pins s σ H v u Q I r q
end
section
variable {X:Cx}{EX:EXT}{cf:CF}{fw:Nat}{pos:Pos}{a b c e:Expr}{a' b' c' e':E}
theorem b_nil:PSs X [] (tIS X.K EX (exB cf fw [])):=pss_nil.sub λD τ H zq=>by obtain⟨ρ,σ,h,re,hr,q⟩:=zq;rw[exB]at q;exact RQ.here hr q τ re
theorem Qou{st:Stmt}(h1:PS X st (tIS X.K EX (exS cf fw s')))(h2:PSs X sts (tIS X.K EX (exB cf fw ss'))):PSs X (st::sts) (tIS X.K EX (exB cf fw (s'::ss'))) :=
 (Qbw h1 h2).sub λD τ H zq=>by
  obtain⟨ρ,σ,h,re,hr,q⟩:=zq;refine⟨ρ,σ,h,re,hr,q.bnd.mono λfl h1 ρ1 H1 x1 hr1 q1=>?_⟩;cases fl with
  |nx σ1=>exact λτ1 re1=>⟨ρ1,σ1,h1,re1,hr1,q1⟩
  |ret w=>exact RQ.here (EX:=EX) hr1 q1
  |brk σ1=>exact RQ.here (EX:=EX) hr1 q1
  |cnt σ1=>exact RQ.here (EX:=EX) hr1 q1
theorem s_pass:PS X (.Pass pos) (tIS X.K EX (exS cf fw .pass_)):=ps_pass.sub λD τ H zq=>by obtain⟨ρ,σ,h,re,hr,q⟩:=zq;rw[exS]at q;exact RQ.here hr q τ re
theorem s_brk:PS X (.Break pos) (tIS X.K EX (exS cf fw .brk)):=ps_break.sub λD τ H zq=>by obtain⟨ρ,σ,h,re,hr,q⟩:=zq;exact RQ.here hr q τ re
theorem s_cnt:PS X (.Continue pos) (tIS X.K EX (exS cf fw .cnt)):=ps_continue.sub λD τ H zq=>by obtain⟨ρ,σ,h,re,hr,q⟩:=zq;exact RQ.here hr q τ re
noncomputable def Qb5(e:Expr):Bool:=match e with
 |.ListComp ..=>false
 |.SetComp ..=>false
 |.DictComp ..=>false
 |_=>true
theorem Qcy(h:Qb5 e=true)(t)(n)(env):swapsWith e t n env=pure false:=by cases e<;>first|rfl|cases h
theorem Qq4{i:Nat}{x:Str}{p:Pos}(hN:X.N.Nodup)(hi:X.N[i]?=some x)(hx:Loc X.env.scope x)(hf:X.fn x=true\/X.env.scope.names.lookup x=some .local)(he:PE X e (tI X.K EX (evE cf e')))(hc:Qb5 e=true) :
  PS X (.Assign [.Name x p] e pos) (tIS X.K EX (exS cf fw (.asg i e'))):=(Qc7 hN hi hx he (Qcy hc _ _ _) hf).sub λD τ H zq=>by
 obtain⟨ρ,σ,h,re,hr,q⟩:=zq
 exact⟨ρ,σ,h,re,hr,q.bnd.mono λw h1 ρ1 H1 x1 hr1 q1 v r=>(RQ.here hr1 q1 _ ((re.ext x1).set i r))⟩
theorem s_exp(he:PE X e (tI X.K EX (evE cf e')))(hc:Qb5 e=true):PS X (.Expr e pos) (tIS X.K EX (exS cf fw (.exp e'))):=(QpJ he (Qcy hc _ _ _)).sub λD τ H zq=>by obtain⟨ρ,σ,h,re,hr,q⟩:=zq;exact⟨ρ,σ,h,re,hr,q.bnd.mono λw h1 ρ1 H1 x1 hr1 q1 v r=>RQ.here hr1 q1 _ (re.ext x1)⟩
theorem s_doc:PS X (.Expr (.Constant (.str s) j p) pos) (tIS X.K EX (exS cf fw .pass_)):=ps_doc.sub λD τ H zq=>by obtain⟨ρ,σ,h,re,hr,q⟩:=zq;exact RQ.here hr q τ re
theorem QpK(he:PE X e (tI X.K EX (evE cf e'))):PS X (.Return (some e) pos) (tIS X.K EX (exS cf fw (.ret e'))):=(QjR he).sub λD τ H zq=>by obtain⟨ρ,σ,h,re,hr,q⟩:=zq;exact⟨ρ,σ,h,re,hr,q.bnd.mono λw h1 ρ1 H1 x1 hr1 q1 v r=>RQ.here hr1 q1 _ r⟩
theorem s_if(hc:PT X c (tIT X.K EX (evT cf c')))(ha:PSs X as (tIS X.K EX (exB cf fw as')))(hb:PSs X bs (tIS X.K EX (exB cf fw bs'))):PS X (.If c as bs pos) (tIS X.K EX (exS cf fw (.if_ c' as' bs'))) :=
 (ps_if hc ha hb).sub λD τ H zq=>by
  obtain⟨ρ,σ,h,re,hr,q⟩:=zq;refine⟨ρ,σ,h,re,hr,q.bnd.mono λk h1 ρ1 H1 x1 hr1 q1=>?_⟩;cases k with
  |true=>exact Qn8 ⟨ρ1,σ,h1,re.ext x1,hr1,by simp_all⟩
  |false=>exact Qoj ⟨ρ1,σ,h1,re.ext x1,hr1,by simp_all⟩
theorem Qq2(hp:PassesOwn (model X.prog X.w) X.A X.env X.xe)(hc:PT X c (tIT X.K EX (evT cf c')))(hb:PSs X bs (tIS X.K EX (exB cf fw bs'))):PS X (.While c bs [] pos) (tIS X.K EX (exS cf fw (.while_ c' bs'))) :=
 (QmO hp hc hb).sub λD τ H zq=>by
  obtain⟨ρ,σ,h,re,hr,q⟩:=zq;rw[exS]at q;refine⟨λm τ H=>TR X.K EX (wh (evT cf c') (exB cf fw bs') m) (FlQ X.K D) τ H,⟨fw,ρ,σ,h,re,hr,q⟩,?_⟩;rintro m τ1 H1 ⟨ρ1,σ1,h1,re1,hr1,q1⟩;cases m with
  |zero=>exact q1.elim
  |succ n=>
   rw[wh]at q1;refine⟨ρ1,σ1,h1,re1,hr1,q1.bnd.mono λk h2 ρ2 H2 x2 hr2 q2=>?_⟩;cases k with
   |false=>exact Qoj (RQ.here hr2 q2 _ (re1.ext x2))
   |true=>
    refine Qn8 ⟨λτ' H'=>TR X.K EX (wh (evT cf c') (exB cf fw bs') n) (FlQ X.K D) τ' H',λτ' H' p=>⟨n,zzt n,p⟩,?_⟩;refine⟨ρ2,σ1,h2,re1.ext x2,hr2,q2.bnd.mono λfl h3 ρ3 H3 x3 hr3 q3=>?_⟩;cases fl with
    |nx σ4=>exact λτ4 re4=>⟨ρ3,σ4,h3,re4,hr3,q3⟩
    |cnt σ4=>exact λτ4 re4=>⟨ρ3,σ4,h3,re4,hr3,q3⟩
    |brk σ4=>exact λτ4 re4=>RQ.here hr3 q3 τ4 re4
    |ret w=>exact λv r=>RQ.here hr3 q3 v r
inductive GR {α:Type} (K:Fg0) (rl:List Addr->α->Prop) (bd:α->Qai->Option Qai) (τ:L2.St) (H:Hp) (Q:L2.St->Hp->Prop):Prop
 |mk (ρ:List Addr) (σ:Qai) (w:α) (σ':Qai) (re:RelE K ρ H σ τ) (r:rl ρ w) (e:bd w σ=some σ') (q:∀τ',RelE K ρ H σ' τ'->Q τ' H)
def tGI(K:Fg0)(is:List Nat):TG:=λv τ H Q=>GR K (λρ w=>Rel K ρ H w v) (QaL is) τ H Q
def tGs(K:Fg0)(is:List Nat):TGs:=λvs τ H Q=>GR K (λρ ws=>RelL K ρ H ws vs) (QbL is) τ H Q
theorem _root_.L2.PG.sub(p:PG X e t)(h:∀v τ H Q,t' v τ H Q->t v τ H Q):PG X e t':=λpins s σ H v u Q I r q=>p pins s σ H v u Q I r (h _ _ _ _ q)
theorem _root_.L2.PGs.sub{e:List Expr}(p:PGs X e t)(h:∀v τ H Q,t' v τ H Q->t v τ H Q):PGs X e t':=λpins s σ H v u Q I r q=>p pins s σ H v u Q I r (h _ _ _ _ q)
theorem g_name(hN:X.N.Nodup)(hi:X.N[i]?=some x)(hx:Loc X.env.scope x)(hf:X.fn x=true\/X.env.scope.names.lookup x=some .local):PG X (.Name x pos) (tGI X.K [i]) :=
 (Qk5 hN hi hx hf).sub λv τ H Q zq=>by obtain⟨ρ,σ,w,σ',re,r,e,q⟩:=zq;cases e;exact q _ (re.set i r)
theorem gs_nil:PGs X [] (tGs X.K []):=pgs_nil.sub λvs τ H Q zq=>by
 obtain⟨ρ,σ,ws,σ',re,rl,e,q⟩:=zq;cases ws with
 |nil=>cases e;exact⟨rl,q τ re⟩
 |cons w ws=>cases e
theorem Qpo{x:Str}{es:List Expr}(hN:X.N.Nodup)(hi:X.N[i]?=some x)(hx:Loc X.env.scope x)(hf:X.fn x=true\/X.env.scope.names.lookup x=some .local)(h2:PGs X es (tGs X.K is)):PGs X (.Name x p::es) (tGs X.K (i::is)) :=
 (Qnv (Qk5 hN hi hx hf) h2).sub λvs τ H Q zq=>by
  obtain⟨ρ,σ,ws,σ',re,rl,e,q⟩:=zq;cases ws with
  |nil=>cases e
  |cons w ws=>obtain⟨y,ys,rfl,r,rs⟩:=rl;exact⟨y,ys,rfl,ρ,_,ws,σ',re.set i r,rs,e,q⟩
theorem Qdj:∀{is:List Nat}{ws:List W}{σ σ':Qai},QbL is ws σ=some σ'->is.length=ws.length
 |[],[],_,_,_=>rfl
 |[],_::_,_,_,e=>by cases e
 |_::_,[],_,_,e=>by cases e
 |_::is,_::ws,_,_,e=>by simp[Qdj (is:=is)  e]
noncomputable def Qa2(e:Expr):Bool:=match e with
 |.Name ..=>true
 |_=>false
theorem QcF:∀{es:List Expr} (env:Env),es.all Qa2=true->(assignEach es env).length=es.length/\(assignEach es env).findIdx? (·.1)=none
 |[],_,_=>⟨rfl,rfl⟩
 |.Name x p::es,env,h=>by have:=QcF (es:=es) env (‹_›);exact⟨by simp[assignEach,this.1],by simp[assignEach,List.findIdx?_cons,this.2]⟩
 |.BoolOp ..::_,_,h=>by simp[Qa2]at h
 |.NamedExpr ..::_,_,h=>by simp[Qa2]at h
 |.BinOp ..::_,_,h=>by simp[Qa2]at h
 |.UnaryOp ..::_,_,h=>by simp[Qa2]at h
 |.Lambda ..::_,_,h=>by simp[Qa2]at h
 |.IfExp ..::_,_,h=>by simp[Qa2]at h
 |.Dict ..::_,_,h=>by simp[Qa2]at h
 |.Set ..::_,_,h=>by simp[Qa2]at h
 |.ListComp ..::_,_,h=>by simp[Qa2]at h
 |.SetComp ..::_,_,h=>by simp[Qa2]at h
 |.DictComp ..::_,_,h=>by simp[Qa2]at h
 |.GeneratorExp ..::_,_,h=>by simp[Qa2]at h
 |.Await ..::_,_,h=>by simp[Qa2]at h
 |.Yield ..::_,_,h=>by simp[Qa2]at h
 |.YieldFrom ..::_,_,h=>by simp[Qa2]at h
 |.Compare ..::_,_,h=>by simp[Qa2]at h
 |.Call ..::_,_,h=>by simp[Qa2]at h
 |.FormattedValue ..::_,_,h=>by simp[Qa2]at h
 |.JoinedStr ..::_,_,h=>by simp[Qa2]at h
 |.Constant ..::_,_,h=>by simp[Qa2]at h
 |.Attribute ..::_,_,h=>by simp[Qa2]at h
 |.Subscript ..::_,_,h=>by simp[Qa2]at h
 |.Starred ..::_,_,h=>by simp[Qa2]at h
 |.List ..::_,_,h=>by simp[Qa2]at h
 |.Tuple ..::_,_,h=>by simp[Qa2]at h
 |.Slice ..::_,_,h=>by simp[Qa2]at h
theorem g_tup(hc:X.calm=true)(h:PGs X es (tGs X.K is))(hn:es.all Qa2=true)(hl:es.length=is.length)(h2:is.length≠1):PG X (.Tuple es k pos) (tGI X.K is) :=
 ((pg_tup (n:=es.length) hc h (QcF X.env hn).1 (QcF X.env hn).2).or (pg_lst (n:=es.length) hc h (QcF X.env hn).1 (QcF X.env hn).2)).sub λv τ H Q zq=>by obtain⟨ρ,σ,w,σ',re,r,e,q⟩:=zq;unfold QaL at e;split at e;exact absurd rfl h2;split at e;rename_i ws;obtain⟨p,xs,rfl,hq,rs⟩:=r;exact .inl ⟨p,xs,rfl,hq.sq,by rw[<- rs.length,<- Qdj e,hl],ρ,σ,ws,σ',re,rs,e,q⟩;rename_i ws;rw[Rel]at r;obtain⟨p,xs,rfl,_,hq,rs⟩:=r;exact .inr ⟨p,xs,rfl,.inl (.inl hq),by rw[<- rs.length,<- Qdj e,hl],ρ,σ,ws,σ',re,rs,e,q⟩;cases e
theorem QeW{K:Fg0}
  (re:RelE K ρ H σ τ) (hr:HRel K ρ h H) (r:Rel K ρ H w v) (q:RQ K EX ρ H (fo is body (w::ws) σ h) (FlQ K D))
  (hN:∀τ' H' ρ' σ' h',Ext ρ H ρ' H'->RelE K ρ' H' σ' τ'->HRel K ρ' h' H'->RQ K EX ρ' H' (fo is body ws σ' h') (FlQ K D)->N τ' H') :
  tGI K is v τ H λτ2 H2=>tIS K EX body { D with nx:=N,ct:=N,bk:=D.nx } τ2 H2:=by
 rw[fo]at q
 split at q
 ·exact q.elim
 ·rename_i σ' e
  refine⟨ρ,σ,w,σ',re,r,e,λτ' re'=>⟨ρ,σ',h,re',hr,q.bnd.mono λfl h3 ρ3 H3 x3 hr3 q3=>?_⟩⟩
  cases fl with
  |nx σ4=>exact λτ4 re4=>hN _ _ _ _ _ x3 re4 hr3 q3
  |cnt σ4=>exact λτ4 re4=>hN _ _ _ _ _ x3 re4 hr3 q3
  |brk σ4=>exact λτ4 re4=>RQ.here hr3 q3 τ4 re4
  |ret w=>exact λv r=>RQ.here hr3 q3 v r
theorem QcX{ws:List W}{i:Nat}{w:W}(e:ws[i]?=some w):ws.drop i=w::ws.drop (i+1):=by obtain⟨h,rfl⟩:=ze.mp e;simp_all
theorem RelL.back{K:Fg0}{i:Nat}(r:RelL K ρ H ws xs)(e:xs[i]?=some x):∃w,ws[i]?=some w/\Rel K ρ H w x:=by
 have hl:i<ws.length:=by rw[r.length];grind
 obtain⟨y,h1,h2⟩:=r.get (zJ hl);simp_all
def iSeq(K:Fg0)(tl:TE):TI:=λσ H R=>tl σ H λx H1=>(∃z,x=.str z/\R (Its z) H1)\/∃a,x=.ref a/\(((∃xs,SqL K H1 a xs)/\R (Itl K a) H1)\/((∃xs,SqT K H1 a xs)/\R (Itt K a) H1))
theorem Qoc(hl:PE X l tl):PI X tg l (iSeq X.K tl):=by
 intro pins s σ H R I h;refine thn (hl pins s σ H _ I h) λv s1 zq=>?_;obtain⟨x,H1,I1,r1,q1⟩:=zq;rcases q1 with⟨z,e,q⟩|⟨a,e,q1⟩;subst e;obtain⟨t,rfl⟩:=r1;exact pi_str I1 q;subst e;cases r1;rcases q1 with⟨⟨xs,hq⟩,q⟩|⟨⟨xs,hq⟩,q⟩;obtain⟨its,rv,p,hz⟩:=I1.list hq;refine zzJ p.isList ?_;refine⟨s1.heap.objs.size,[s1.heap.objs.size],_,_,H1,rfl,I1.kept (t':=s1.toks) λb o e=>hps0 _ e,Qlo a _,⟨_,zG _ rfl,rfl,rfl⟩,λb hb=>?_,q⟩;have e:b=s1.heap.objs.size:=by simpa using hb
 subst e;exact I1.fpOk (zD _) (I1.hok.fresh (zD _));obtain⟨its,rv,p,hz⟩:=I1.tuple hq;refine wpAny_pyIter_tuple (p) ?_;refine⟨s1.heap.objs.size,[s1.heap.objs.size],_,_,H1,rfl,I1.kept (t':=s1.toks) λb o e=>hps0 _ e,QiU a _,⟨_,zG _ rfl,rfl,rfl⟩,λb hb=>?_,q⟩;have e:b=s1.heap.objs.size:=by simpa using hb
 subst e;exact I1.fpOk (zD _) (I1.hok.fresh (zD _))
noncomputable def Qbl(e:Expr):Bool:=match e with
 |.Set ..=>false
 |_=>true
theorem QeZ(h:Qbl e=true)(env)(x):foldedSetIterable e env x=pure x:=by cases e<;>first|rfl|cases h
theorem Ext.at{n:Nat}{a:Addr}(x:Ext ρ H ρ' H')(e:ρ[n]?=some a):ρ'[n]?=some a:=by obtain⟨t,rfl⟩:=x.pre;rw[zI (ze.mp e).1];lia
inductive TX {α:Type} (K:Fg0) (EX:EXT) (ρ1:List Addr) (H1:Hp) (ev:Qai->Qaa->Res α) (k:α->Qaa->List Addr->Hp->Prop) (τ:L2.St) (H:Hp):Prop
 |mk (ρ:List Addr) (σ:Qai) (h:Qaa) (x:Ext ρ1 H1 ρ H) (re:RelE K ρ H σ τ) (hr:HRel K ρ h H) (q:RQ K EX ρ H (ev σ h) k)
theorem Qqy{tg:Expr}{is:List Nat}{bs:List Stmt}{bs':List S}(hp:PassesOwn (model X.prog X.w) X.A X.env X.xe)(hc:X.calm=true)(ha:PE X a (tI X.K EX (evE cf a')))(hg:PG X tg (tGI X.K is))(hb:PSs X bs (tIS X.K EX (exB cf fw bs')))
  (hs:Qbl a=true):PS X (.For tg a bs [] pos) (tIS X.K EX (exS cf fw (.for_ is (.seq a') bs'))) :=
 (QhQ hp hc (Qoc ha) hg hb (QeZ hs _)).sub λD τ H zq=>by
  obtain⟨ρ,σ,h,re,hr,q⟩:=zq;rw[exS]at q;refine⟨ρ,σ,h,re,hr,q.bnd.mono λw h1 ρ1 H1 x1 hr1 q1 v r=>?_⟩;have re1:=re.ext x1
  have lists:∀(p:Addr) (ws:List W) (xs:List V),(∀ρ2 H2,Ext ρ1 H1 ρ2 H2->SqL X.K H2 p xs)->RelL X.K ρ1 H1 ws xs->RQ X.K EX ρ1 H1 (fo is (exB cf fw bs') ws σ h1) (FlQ X.K D) ->
    ∃W:Nat->Nat->L2.St->Hp->Prop,(∃m,W 0 m τ H1)/\∀i m σ H,W i m σ H ->
     ((Itl X.K p).stop i H/\D.nx σ H)\/((Itl X.K p).go i H/\∃N:L2.St->Hp->Prop,(∀σ' H',N σ' H'->∃m',m'<m/\W (i+1) m' σ' H')/\∀x H',(Itl X.K p).yld i H x H'->tGI X.K is x σ H' λσ2 H2=>tIS X.K EX (exB cf fw bs') { D with nx:=N,ct:=N,bk:=D.nx } σ2 H2):=by
   intro p ws xs hq rs q
   refine Qmr (λi τ H=>TX X.K EX ρ1 H1 (fo is (exB cf fw bs') (ws.drop i)) (FlQ X.K D) τ H) ⟨ρ1,σ,h1,.refl,re1,hr1,q⟩ (λi τ2 H2 _ ⟨ρ2,_,_,x2,_,_,_⟩=>hq ρ2 H2 x2) ?_ ?_
   ·rintro i x τ2 H2 hi ⟨ρ2,σ2,h2,x2,re2,hr2,q2⟩
    obtain⟨w,e,rw'⟩:=(RelL.ext x2 ws xs rs).back hi
    rw[QcX e]at q2
    exact QeW re2 hr2 rw' q2 λτ' H' ρ' σ' h' x re' hr' q'=>⟨ρ',σ',h',x2.trans x,re',hr',q'⟩
   ·rintro τ2 H2 ⟨ρ2,σ2,h2,x2,re2,hr2,q2⟩
    rw[zzy (by rw[rs.length]<;>exact zD _)]at q2
    rw[fo]at q2
    exact RQ.here hr2 q2 _ re2
  cases w with
  |tup ws=>rw[Rel]at r;obtain⟨p,xs,rfl,hq,rs⟩:=r;refine .inr ⟨p,rfl,.inr ⟨⟨xs,hq.sq⟩,Qp1 (λi τ H=>TX X.K EX ρ1 H1 (fo is (exB cf fw bs') (ws.drop i)) (FlQ X.K D) τ H) ⟨ρ1,σ,h1,.refl,re1,hr1,q1⟩ (λi τ2 H2 _ ⟨ρ2,_,_,x2,_,_,_⟩=>(hq.ext x2).sq) ?_ ?_⟩⟩;rintro i x τ2 H2 hi ⟨ρ2,σ2,h2,x2,re2,hr2,q2⟩;obtain⟨w,e,rw'⟩:=(RelL.ext x2 ws xs rs).back hi;rw[QcX e]at q2;exact QeW re2 hr2 rw' q2 λτ' H' ρ' σ' h' x re' hr' q'=>⟨ρ',σ',h',x2.trans x,re',hr',q'⟩;rintro τ2 H2 ⟨ρ2,σ2,h2,x2,re2,hr2,q2⟩;rw[zzy (by rw[rs.length]<;>exact zD _)]at q2;rw[fo]at q2;exact RQ.here hr2 q2 _ re2
  |lst ws=>rw[Rel]at r;obtain⟨p,xs,rfl,n,hq,rs⟩:=r;exact .inr ⟨p,rfl,.inl ⟨⟨xs,.inl (.inl hq)⟩,lists p ws xs (λρ2 H2 x2=>.inl (.inl (x2.keepN hq n (λ_ z=>by cases z)))) rs q1⟩⟩
  |scr ws=>rw[Rel]at r;obtain⟨p,xs,rfl,hq,rs⟩:=r;exact .inr ⟨p,rfl,.inl ⟨⟨xs,hq.sq⟩,lists p ws xs (λρ2 H2 x2=>(hq.ext x2).sq) rs q1⟩⟩
  |ref n=>
   rw[Rel]at r;obtain⟨p,rfl,hn⟩:=r;have q0:RQ X.K EX ρ1 H1 (foC n is (exB cf fw bs') fw 0 σ h1) (FlQ X.K D):=q1;have ex:∃xs,H1 p=some (.lst xs):=by
    cases fw with
    |zero=>rw[foC]at q0;exact q0.elim
    |succ k=>rw[foC]at q0;split at q0;rename_i ws e;obtain⟨_,xs,z,_⟩:=hr1.at_ n p _ hn e;exact⟨xs,z⟩;exact q0.elim
   obtain⟨xs0,hx0⟩:=ex;refine .inr ⟨p,rfl,.inl ⟨⟨xs0,.inl (.inl hx0)⟩,λi m τ H=>∃ρ σ h,ρ[n]?=some p/\RelE X.K ρ H σ τ/\HRel X.K ρ h H/\RQ X.K EX ρ H (foC n is (exB cf fw bs') m i σ h) (FlQ X.K D),⟨fw,ρ1,σ,h1,hn,re1,hr1,q0⟩,?_⟩⟩;rintro i m τ2 H2 ⟨ρ2,σ2,h2,hn2,re2,hr2,q2⟩;cases m with
   |zero=>rw[foC]at q2;exact q2.elim
   |succ k=>
    rw[foC]at q2;split at q2;rename_i ws e;obtain⟨_,xs,z,rs⟩:=hr2.at_ n p _ hn2 e;split at q2;rename_i e2;refine .inl ⟨⟨xs,.inl (.inl z),?_⟩,RQ.here hr2 q2 _ re2⟩;rw[<- rs.length];exact ZD.mp e2;rename_i w e2;obtain⟨x,ex,rx⟩:=rs.get e2;refine .inr ⟨⟨xs,x,.inl (.inl z),ex⟩,λτ' H'=>∃ρ σ h,ρ[n]?=some p/\RelE X.K ρ H' σ τ'/\HRel X.K ρ h H'/\RQ X.K EX ρ H' (foC n is (exB cf fw bs') k (i+1) σ h) (FlQ X.K D),λτ' H' z=>⟨k,zzt k,z⟩,λx' H' y=>?_⟩;obtain⟨rfl,y⟩:=y;have e3:=y xs (.inl (.inl z));rw[ex]at e3;cases e3;split at q2;exact q2.elim;rename_i σ' e4;refine⟨ρ2,σ2,w,σ',re2,rx,e4,λτ' re'=>⟨ρ2,σ',h2,re',hr2,q2.bnd.mono λfl h3 ρ3 H3 x3 hr3 q3=>?_⟩⟩;cases fl with
    |nx σ4=>exact λτ4 re4=>⟨ρ3,σ4,h3,x3.at hn2,re4,hr3,q3⟩
    |cnt σ4=>exact λτ4 re4=>⟨ρ3,σ4,h3,x3.at hn2,re4,hr3,q3⟩
    |brk σ4=>exact λτ4 re4=>RQ.here hr3 q3 τ4 re4
    |ret w=>exact λv r=>RQ.here hr3 q3 v r
    exact q2.elim
  |_=>exact q1.elim
theorem QbE(cf)(e)(σ)(h):evA cf [e] σ h=bnd (evE cf e σ h) λw h=>.ok [w] h:=by
 rw[evA];cases evE cf e σ h with
 |ok w h1=>simp[bnd,evA]
 |exc c h1=>rfl
 |stuck=>rfl
theorem QjS(cf)(e e2)(σ)(h):evA cf [e,e2] σ h=bnd (evE cf e σ h) λw h=>bnd (evE cf e2 σ h) λw2 h=>.ok [w,w2] h:=by
 rw[evA];cases evE cf e σ h with
 |ok w h1=>have z:=QbE cf e2 σ h1;simp only[bnd]at z ⊢;rw[z];cases evE cf e2 σ h1<;>rfl
 |exc c h1=>rfl
 |stuck=>rfl
theorem QhP{tg:Expr}{is:List Nat}{bs':List S}{lo:Int}{n:Nat}{D:Ends}{τ:L2.St}{ρ1:List Addr}{H1:Hp}{σ:Qai}{h1:Qaa}(re1:RelE X.K ρ1 H1 σ τ)(hr1:HRel X.K ρ1 h1 H1)
  (q1:RQ X.K EX ρ1 H1 (fo is (exB cf fw bs') ((List.range n).map λ(k:Nat)=>W.int (lo+(k))) σ h1) (FlQ X.K D)) :
  ∃W:Nat->Nat->L2.St->Hp->Prop,(∃m,W 0 m τ H1)/\∀i m σ H,W i m σ H ->
   ((Itr lo n).stop i H/\D.nx σ H)\/((Itr lo n).go i H/\∃N:L2.St->Hp->Prop,(∀σ' H',N σ' H'->∃m',m'<m/\W (i+1) m' σ' H')/\∀x H',(Itr lo n).yld i H x H'->tGI X.K is x σ H' λσ2 H2=>tIS X.K EX (exB cf fw bs') { D with nx:=N,ct:=N,bk:=D.nx } σ2 H2):=by
 refine Qkk (λi τ H=>TR X.K EX (fo is (exB cf fw bs') (((List.range n).map λ(k:Nat)=>W.int (lo+(k:Int))).drop i)) (FlQ X.K D) τ H)
  ⟨ρ1,σ,h1,re1,hr1,q1⟩ ?_ ?_
 ·rintro i τ2 H2 hi ⟨ρ2,σ2,h2,re2,hr2,q2⟩
  rw[QcX (w:=.int (lo+(i:Int))) (by simp[hi])]at q2
  exact QeW re2 hr2 QaJ q2 λτ' H' ρ' σ' h' x re' hr' q'=>⟨ρ',σ',h',re',hr',q'⟩
 ·rintro τ2 H2 ⟨ρ2,σ2,h2,re2,hr2,q2⟩
  rw[zzy ZzS]at q2
  exact RQ.here hr2 q2 _ re2
theorem s_rng1(hp:PassesOwn (model X.prog X.w) X.A X.env X.xe)(hc:X.calm=true)(hgl:Gl X "range")(hm:X.mg "range"=none)
  (ha:PE X a (tI X.K EX (evE cf a'))) (hn:Qam a=true) (hg:PG X tg (tGI X.K is)) (hb:PSs X bs (tIS X.K EX (exB cf fw bs'))) :
  PS X (.For tg (.Call (.Name "range" p) [a] [] p2) bs [] pos) (tIS X.K EX (exS cf fw (.for_ is (.rng [a']) bs'))) :=
 (QhQ hp hc (Qgg hgl hm (Qay ha pa_nil (Qaj hn _ _)) (Qaj hn _ _)) hg hb (by intro _;rfl)).sub λD τ H zq=>by
  obtain⟨ρ,σ,h,re,hr,q⟩:=zq;rw[exS,QbE,Qbp]at q;refine⟨ρ,σ,h,re,hr,q.bnd.mono λw h1 ρ1 H1 x1 hr1 q1 v r=>?_⟩;have q2:RQ X.K EX ρ1 H1 (match Qlj [w] with|some ks=>fo is (exB cf fw bs') ks σ h1|none=>.stuck) (FlQ X.K D):=q1;rw[Qb2]at q2;cases w with
  |int j=>cases Qaq r;unfold Qjc at q2;dsimp only at q2;split at q2;rename_i ks ek;split at ek;rename_i hj;cases ek;exact⟨j,rfl,hj.1,hj.2,QhP (tg:=tg) (re.ext x1) hr1 q2⟩;cases ek;exact q2.elim
  |_=>exact q2.elim
theorem s_rng2(hp:PassesOwn (model X.prog X.w) X.A X.env X.xe)(hc:X.calm=true)(hgl:Gl X "range")(hm:X.mg "range"=none)
  (ha:PE X a (tI X.K EX (evE cf a'))) (hb0:PE X b (tI X.K EX (evE cf b'))) (hn:Qam a=true) (hn2:Qam b=true) (hg:PG X tg (tGI X.K is)) (hb:PSs X bs (tIS X.K EX (exB cf fw bs'))) :
  PS X (.For tg (.Call (.Name "range" p) [a,b] [] p2) bs [] pos) (tIS X.K EX (exS cf fw (.for_ is (.rng [a',b']) bs'))) :=
 (QhQ hp hc (Qgy hgl hm (Qay ha (Qay hb0 pa_nil (Qaj hn2 _ _)) (Qaj hn _ _)) (by rw[Qaj hn,Qaj hn2];rfl) (by rw[Qaj hn2];rfl)) hg hb (by intro _;rfl)).sub λD τ H zq=>by obtain⟨ρ,σ,h,re,hr,q⟩:=zq;rw[exS,QjS,Qbp]at q;refine⟨ρ,σ,h,re,hr,q.bnd.mono λw h1 ρ1 H1 x1 hr1 q1 v r=>?_⟩;rw[Qbp]at q1;refine⟨ρ1,σ,h1,re.ext x1,hr1,q1.bnd.mono λw2 h2 ρ2 H2 x2 hr2 q2 v2 r2=>?_⟩;have r1:=Rel.ext x2 _ _ r;have q3:RQ X.K EX ρ2 H2 (match Qlj [w,w2] with|some ks=>fo is (exB cf fw bs') ks σ h2|none=>.stuck) (FlQ X.K D):=q2;rw[Qb2]at q3;unfold Qjc at q3;split at q3;rename_i ks ek;split at ek;rename_i e;cases e;rename_i i j e;cases e;cases Qaq r1;cases Qaq r2;split at ek;rename_i hj;cases ek;exact⟨i,j,rfl,hj,QhP (tg:=tg) ((re.ext x1).ext x2) hr2 q3⟩;cases ek;cases ek;exact q3.elim
end
section
variable {X:Cx}{EX:EXT}{cf:CF}{fw:Nat}{pos:Pos}{a b c e:Expr}{a' b' c' e':E}
theorem QiB(hk:env.scope.kind=.function)(hx:env.scope.names.lookup x=some .local)(hy:env.scope.names.lookup y=some .local)(hl:py.line=px.line)(hne:x≠y)
  (h1:Qam a=true) (h2:Qam b=true) (h3:(foldedForSure 8 a&&foldedForSure 8 b)=false) (h4:(constantsAlone 8 a&&constantsAlone 8 b)=false) :
  swappedStores [.Tuple [.Name x px,.Name y py] kt pt] (.Tuple [a,b] k2 pt2) env=pure (some [x,y]):=by
 have ky:(env.kindOf y==some NameKind.local)=true:=by simp[Env.kindOf,hy]
 have bk:env.blockKind=.function:=by unfold Env.blockKind;rw[hk];rfl
 have s1:(match a with|.Starred ..=>true|_=>false)=false:=by cases a<;>first|rfl|cases h1
 have s2:(match b with|.Starred ..=>true|_=>false)=false:=by cases b<;>first|rfl|cases h2
 have hne':¬ y=x:=λz=>hne z.symm
 have kx':env.kindOf x=some NameKind.local:=hx
 have ky':env.kindOf y=some NameKind.local:=hy
 unfold swappedStores
 simp[bk,Expr.pos]
 rw[zM (by
  clear s1 s2
  rintro (h|h)
  ·split at h
   ·exact absurd h1 (by simp[Qam])
   ·cases h
  ·split at h
   ·exact absurd h2 (by simp[Qam])
   ·cases h)]
 simp only[List.filterMap,kx',ky',hl,and_self,if_true]
 rw[zM (by simp[List.eraseDups_cons,hne']),zM (by intro h;simp[h.1,h.2]at h3),zM (by intro h;simp[h.1,h.2]at h4)]
theorem s_par(hc:X.calm=true)(hN:X.N.Nodup)(hi:X.N[i]?=some x)(hj:X.N[j]?=some y)(hij:i≠j)(hk:X.env.scope.kind=.function)
  (hx:X.env.scope.names.lookup x=some .local) (hy:X.env.scope.names.lookup y=some .local) (hl:py.line=px.line) (h1:Qam a=true) (h2:Qam b=true) (h3:(foldedForSure 8 a&&foldedForSure 8 b)=false) (h4:(constantsAlone 8 a&&constantsAlone 8 b)=false)
  (ha:PE X a (tI X.K EX (evE cf a'))) (hb:PE X b (tI X.K EX (evE cf b'))) :
  PS X (.Assign [.Tuple [.Name x px,.Name y py] kt pt] (.Tuple [a,b] k2 pt2) pos) (tIS X.K EX (exS cf fw (.par i j a' b'))):=by
 have hne:x≠y:=by rintro rfl;exact hij ((List.getElem?_inj (ze.mp hi).1 hN).mp (hi.trans hj.symm))
 refine(ps_par hc hN hi hj hij hx hy (Qay ha (Qay hb pa_nil (Qaj h2 _ _)) (Qaj h1 _ _)) (QiB hk hx hy hl hne h1 h2 h3 h4)).sub λD τ H zq=>?_
 obtain⟨ρ,σ,h,re,hr,q⟩:=zq
 refine⟨ρ,σ,h,re,hr,q.bnd.mono λw h1 ρ1 H1 x1 hr1 q1 v r=>?_⟩
 refine⟨ρ1,σ,h1,re.ext x1,hr1,q1.bnd.mono λw2 h2 ρ2 H2 x2 hr2 q2 v2 r2=>?_⟩
 exact⟨v,v2,rfl,RQ.here hr2 q2 _ ((((re.ext x1).ext x2).set i (Rel.ext x2 _ _ r)).set j r2)⟩
noncomputable def QoZ(e:Expr):Bool:=match e with
 |.Tuple ..=>false
 |_=>true
theorem Qp9(h:QoZ e=true)(env):swappedStores [.Tuple es k pt] e env=pure none:=by cases e<;>first|rfl|cases h
theorem s_unp(hg:PG X (.Tuple es k pt) (tGI X.K is))(h2:is.length≠1)(he:PE X e (tI X.K EX (evE cf e')))(hc:Qb5 e=true)(ht:QoZ e=true) :
  PS X (.Assign [.Tuple es k pt] e pos) (tIS X.K EX (exS cf fw (.unp is e'))):=(Qk1 he hg (by unfold swapsWithSole;exact Qcy hc _ _ _) (Qp9 ht _) rfl).sub λD τ H zq=>by
 obtain⟨ρ,σ,h,re,hr,q⟩:=zq
 rw[exS]at q
 refine⟨ρ,σ,h,re,hr,q.bnd.mono λw h1 ρ1 H1 x1 hr1 q1 v r=>?_⟩
 split at q1
 ·rename_i ws
  split at q1
  ·rename_i σ' e
   refine⟨ρ1,σ,.tup ws,σ',re.ext x1,r,?_,λτ' re'=>RQ.here hr1 q1 τ' re'⟩
   unfold QaL
   split
   ·exact absurd rfl h2
   ·exact e
  ·exact q1.elim
 ·rename_i ws
  split at q1
  ·rename_i σ' e
   refine⟨ρ1,σ,.lst ws,σ',re.ext x1,r,?_,λτ' re'=>RQ.here hr1 q1 τ' re'⟩
   unfold QaL
   split
   ·exact absurd rfl h2
   ·exact e
  ·exact q1.elim
 ·exact q1.elim
def tIF(K:Fg0)(EX:EXT)(ev:Qai->Qaa->Res (List W)):TE:=λτ H Q =>
 TR K EX ev (λws _ ρ' H'=>∀xs l,RelL K ρ' H' ws xs->H' l=none->Q (.ref l) (upd H' l (.lst xs))) τ H
theorem Qk7(hN:X.N.Nodup)(hi:X.N[i]?=some x)(hx:Loc X.env.scope x)(hf:X.fn x=true\/X.env.scope.names.lookup x=some .local)(he:PE X e (tIF X.K EX (evF cf e')))(hc:Qb5 e=true) :
  PS X (.Assign [.Name x p] e pos) (tIS X.K EX (exS cf fw (.fresh i e'))):=(Qc7 hN hi hx he (Qcy hc _ _ _) hf).sub λD τ H zq=>by
 obtain⟨ρ,σ,h,re,hr,q⟩:=zq
 refine⟨ρ,σ,h,re,hr,q.bnd.mono λws h1 ρ1 H1 x1 hr1 q1 xs l rs n=>?_⟩
 split at q1
 ·rename_i hpure
  have y:=ext_cell (o:=.lst xs) hr1 n
  refine q1 _ _ y (hr1.cell n hpure rs) _ (((re.ext x1).ext y).set i ?_)
  rw[Rel]
  exact⟨l,rfl,by rw[<- hr1.len];simp⟩
 ·exact q1.elim
theorem f_lst(h:PA X es (tIA X.K EX (evA cf es'))):PE X (.List es pos) (tIF X.K EX (evF cf (.lst es'))):=(QhF h).sub λτ H Q zq=>by obtain⟨ρ,σ,h,re,hr,q⟩:=zq;rw[evF]at q;refine⟨ρ,σ,h,re,hr,q.bnd.mono λws h1 ρ1 H1 x1 hr1 q1 vs rs=>?_⟩;split at q1;exact⟨by rw[<- rs.length];lia,λl n=>RQ.here hr1 q1 _ _ rs n⟩;exact q1.elim
def rF(K:Fg0)(EX:EXT)(f:W->W->Qaa->Res (List W)):R2:=λx y H Q =>
 ∃ρ h w1 w2,HRel K ρ h H/\Rel K ρ H w1 x/\Rel K ρ H w2 y/\RQ K EX ρ H (f w1 w2 h) λws _ ρ' H'=>∀xs l,RelL K ρ' H' ws xs->H' l=none->Q (.ref l) (upd H' l (.lst xs))
theorem twoF{K:Fg0}
  (q:tIF K EX (λσ h=>bnd (ea σ h) λx h=>bnd (eb σ h) λy h=>f x y h) τ H Q):tOp (rF K EX f) (tI K EX ea) (tI K EX eb) τ H Q:=by
 obtain⟨ρ,σ,h,re,hr,q⟩:=q
 exact⟨ρ,σ,h,re,hr,q.bnd.mono λw1 h1 ρ1 H1 x1 hr1 q1 v1 r1=>(⟨ρ1,σ,h1,re.ext x1,hr1,q1.bnd.mono λw2 h2 ρ2 H2 x2 hr2 q2 v2 r2=>(⟨ρ2,h2,w1,w2,hr2,Rel.ext x2 _ _ r1,r2,q2⟩)⟩)⟩
theorem f_mul(ha:PE X a (tI X.K EX (evE cf a')))(hb:PE X b (tI X.K EX (evE cf b'))):PE X (.BinOp a .Mult b pos) (tIF X.K EX (evF cf (.bin .Mult a' b'))):=by
 have ho:OpR X (binaryOp .Mult) (rF X.K EX λx y h=>match y with|.int j=>repL (seqM h x) j h|_=>.stuck):=by
  intro pins s σ H x y v u Q I rx ry zq12;obtain⟨ρ,h,w1,w2,hr,r1,r2,q⟩:=zq12;cases w2 with
  |int j=>
   cases Qaq r2;cases e:seqM h w1 with
   |none=>simp only[e,repL]at q;exact q.elim
   |some ws=>simp only[e,repL]at q;split at q;rename_i hm;obtain⟨l,xs,rfl,e1,s1⟩:=Qbc hr e r1;exact(Qos (X:=X)) pins s σ H _ _ v u Q I rx ry ⟨l,j,xs,rfl,rfl,e1,hm.1,hm.2.1,by rw[<- s1.length];exact hm.2.2,λp n=>RQ.here hr q _ _ (s1.flatrep _) n⟩;exact q.elim
  |_=>exact q.elim
 exact(QlK ho ha hb).sub λτ H Q q=>twoF (by assumption)
theorem f_add(ha:PE X a (tI X.K EX (evE cf a')))(hb:PE X b (tI X.K EX (evE cf b'))):PE X (.BinOp a .Add b pos) (tIF X.K EX (evF cf (.bin .Add a' b'))):=by
 have ho:OpR X (binaryOp .Add) (rF X.K EX λx y h=>Qd3 (seqM h x) (seqM h y) h):=by
  intro pins s σ H x y v u Q I rx ry zq12;obtain⟨ρ,h,w1,w2,hr,r1,r2,q⟩:=zq12;cases e:seqM h w1 with
  |none=>simp only[e,Qd3]at q;exact q.elim
  |some ws=>
   cases e':seqM h w2 with
   |none=>simp only[e,e',Qd3]at q;exact q.elim
   |some us=>simp only[e,e',Qd3]at q;split at q;rename_i hm;obtain⟨l,xs,rfl,e1,s1⟩:=Qbc hr e r1;obtain⟨l2,ys,rfl,e2,s2⟩:=Qbc hr e' r2;exact(Qlz ) pins s σ H _ _ v u Q I rx ry ⟨l,l2,xs,ys,rfl,rfl,e1,e2,by rw[<- s1.length,<- s2.length];exact hm,λp n=>RQ.here hr q _ _ (s1.append s2) n⟩;exact q.elim
 exact(QlK ho ha hb).sub λτ H Q q=>twoF (by assumption)
theorem f_list(hg:Gl X "list")(hm:X.mg "list"=none)(ha:PE X a (tI X.K EX (evE cf a')))(hs:Qam a=true):PE X (.Call (.Name "list" p) [a] [] pos) (tIF X.K EX (evF cf (.blt .list [a']))) :=
 (QaK Qdx hg hm zz9 (Qay ha pa_nil (Qaj hs _ _)) (by decide +kernel) (rfl) (Qaj hs _ _) (by rfl)).sub λτ H Q zq=>by obtain⟨ρ,σ,h,re,hr,q⟩:=zq;refine⟨ρ,σ,h,re,hr,q.bnd.mono λw h1 ρ1 H1 x1 hr1 q1 v r=>?_⟩;split at q1;rename_i us e;obtain⟨p,ys,rfl,hq,rs⟩:=QbJ hr1 e r;exact⟨p,ys,rfl,hq,λl n=>RQ.here hr1 q1 _ _ rs n⟩;exact q1.elim
theorem Qjm(hN:X.N.Nodup)(hi:X.N[i]?=some x)(hx:Loc X.env.scope x)(hf:X.fn x=true\/X.env.scope.names.lookup x=some .local)(ha:PE X a (tI X.K EX (evE cf a')))(hb:PE X b (tI X.K EX (evE cf b'))) :
  PS X (.Assign [.Name x p] (.Dict [some a] [b] dp) pos) (tIS X.K EX (exS cf fw (.freshD1 i a' b'))) :=
 (Qc7 hN hi hx (Qpk (QmL ha hb QpQ) rfl rfl ZzS ZzS) rfl hf).sub λD τ H zq=>by
 obtain⟨ρ,σ,h,re,hr,q⟩:=zq
 rw[exS]at q
 intro l n
 have x0:=ext_cell (o:=.dK []) hr n
 have hr0:=hr.cellD n
 have hl0:(ρ++[l])[h.length]?=some l:=by rw[<- hr.len,zK (zD _),zzP];rfl
 refine⟨_,σ,_,re.ext x0,hr0,(RQ.wk x0 q).bnd.mono λw1 h1 ρ1 H1 x1 hr1 q1 v1 r1=>?_⟩
 refine⟨ρ1,σ,h1,(re.ext x0).ext x1,hr1,q1.bnd.mono λw2 h2 ρ2 H2 x2 hr2 q2 v2 r2=>?_⟩
 have hl2:=x2.at (x1.at hl0)
 split at q2
 ·rename_i s e
  obtain⟨_,xs,z,zl,rs⟩:=hr2.at_ _ l _ hl2 e
  cases Qat (Rel.ext x2 _ _ r1)
  cases xs with
  |cons _ _=>cases zl
  |nil =>
  split at q2
  ·rename_i hp
   refine⟨z,[(Sum.inr s,v2)],rfl,by show 1<=15;decide,?_⟩
   have x3:=ext_write (H:=H2) (o:=.dK (([s].map Sum.inr).zip [v2])) hl2
   refine q2 _ _ x3 (hr2.writeD hl2 (by rw[Qaf,hp];rfl) rfl (.cons r2 .nil)) _ ((((re.ext x0).ext x1).ext x2).ext x3 |>.set i ?_)
   rw[Rel]
   exact⟨l,rfl,hl2⟩
  ·exact q2.elim
 ·exact q2.elim
def rSetB:TSet:=λo i v H Q=>rSetL o i v H Q\/∃a y H',o=.ref a/\i=y/\DPut H a y v H'/\Q H'
theorem QhK(hu:X.A.units+64<cLine):PSet X rSetB:=by intro pins s σ H o i v ov iv u Q I ro ri rv h;rcases h with h|⟨a,y,H',rfl,rfl,g,q⟩;exact QlY pins s σ H o i v ov iv u Q I ro ri rv h;cases ro;exact QkS (zzk ZzS hu) I g ri rv λs' I'=>⟨H',I',q⟩
theorem Qge:∀{ks:List Str}{ws:List W}{x:Str}{w:W},Qaf ws=true->Qah w=true->Qaf (QlM ks ws x w)=true
 |[],ws,x,w,h,_=>h
 |k::ks,[],x,w,h,_=>rfl
 |k::ks,u::ws,x,w,h,hw=>by
  rw[Qaf,zE]at h
  unfold QlM
  rw[Qaf,Qge h.2 hw]
  grind
theorem QdF(h1:Qaf ws=true)(h2:Qah w=true):Qaf (ws++[w])=true:=by
 induction ws with
 |nil=>show Qaf [w]=true;rw[Qaf,h2];rfl
 |cons u us ih=>rw[Qaf,zE]at h1;show Qaf (u::(us++[w]))=true;rw[Qaf,h1.1,ih h1.2];rfl
theorem Qkz(h:Qaf ws=true)(hw:Qah w=true):Qaf (QdH ks ws x w).2=true:=by unfold QdH;split;exact Qge h hw;exact QdF h hw
theorem Qqv(hu:X.A.units+64<cLine)(ha:PE X a (tI X.K EX (evE cf a')))(hb:PE X b (tI X.K EX (evE cf b')))(he:PE X e (tI X.K EX (evE cf e')))(hc:Qb5 e=true)(hpl:Qdg b=true) :
  PS X (.Assign [.Subscript a b p] e pos) (tIS X.K EX (exS cf fw (.setix a' b' e'))):=by
 have hst:swappedStores [.Subscript a b p] e X.env=pure none:=by cases e<;>rfl
 refine(Qk1 he (QnU ha hb (QhK hu) (by intro _;cases b<;>first|rfl|(unfold assign;rfl)|(exact absurd hpl (by simp[Qdg])))) (by unfold swapsWithSole;exact Qcy hc _ _ _) hst rfl).sub λD τ H zq=>?_
 obtain⟨ρ,σ,h,re,hr,q⟩:=zq
 rw[exS]at q
 refine⟨ρ,σ,h,re,hr,q.bnd.mono λw h1 ρ1 H1 x1 hr1 q1 v r=>?_⟩
 refine⟨ρ1,σ,h1,re.ext x1,hr1,q1.bnd.mono λw2 h2 ρ2 H2 x2 hr2 q2 v2 r2=>?_⟩
 refine⟨ρ2,σ,h2,(re.ext x1).ext x2,hr2,q2.bnd.mono λw3 h3 ρ3 H3 x3 hr3 q3 v3 r3=>?_⟩
 have re3:=((re.ext x1).ext x2).ext x3
 have rv:=Rel.ext x3 _ _ (Rel.ext x2 _ _ r)
 have ro:=Rel.ext x3 _ _ r2
 split at q3
 ·rename_i n k
  cases Qaq r3
  rw[Rel]at ro
  obtain⟨l,rfl,hn⟩:=ro
  split at q3
  ·rename_i us e
   obtain⟨pu,xs,z,rs⟩:=hr3.at_ n l _ hn e
   split at q3
   ·rename_i hpure
    split at q3
    ·rename_i j ej
     refine .inl ⟨l,xs,k,j,rfl,rfl,z,by rw[<- rs.length];exact ej,?_⟩
     have pw:Qaf (us.set j w)=true:=by
      clear ej q3 e rs;induction us generalizing j with
      |nil=>exact pu
      |cons u us ih=>
       rw[Qaf,zE]at pu;cases j with
       |zero=>show Qaf (w::us)=true;rw[Qaf,hpure,pu.2];rfl
       |succ j=>show Qaf (u::us.set j w)=true;rw[Qaf,pu.1,ih pu.2];rfl
     exact q3 _ _ (ext_write hn) (hr3.write hn pw (rs.set j rv)) _ (re3.ext (ext_write hn))
    ·exact q3.elim
   ·exact q3.elim
  ·exact q3.elim
 ·rename_i n k
  cases Qat r3
  rw[Rel]at ro
  obtain⟨l,rfl,hn⟩:=ro
  split at q3
  ·rename_i ks us e
   obtain⟨pu,xs,z,zl,rs⟩:=hr3.at_ n l _ hn e
   split at q3
   ·rename_i hp
    obtain⟨ys,e1,e2,e3⟩:=QhJ (x:=k) zl rs rv
    have hlen:((ks.map Sum.inr).zip xs:List (Key×V)).length<sizeLine:=by simp_all
    refine .inr ⟨l,.str k,_,rfl,rfl,DPut.k (k:=Sum.inr k) z hlen,?_⟩
    rw[e1]
    exact q3 _ _ (ext_write hn) (hr3.writeD hn (Qkz pu hp.1) e2 e3) _ (re3.ext (ext_write hn))
   ·exact q3.elim
  ·exact q3.elim
 ·exact q3.elim
end
section
variable {X:Cx}{EX:EXT}{cf:CF}{fw:Nat}{pos:Pos}{a b c e:Expr}{a' b' c' e':E}
end
structure XAt (l:List Env) (ha h:Heap) (e:Addr) (C:Value):Prop where
 no:ha.get? e=none
 fly:(∃(B:Heap) (a0:Value),B.FlyingW l e C a0 h/\(∀b o,ha.get? b=some o->b∉frs l->B.get? b=some o))/\(∀b o,ha.get? b=some o->b∈frs l->∃sl,h.get? b=some { o with slots:=sl })
theorem XAt.keep(x:XAt l ha h e C)(hb:ha.get? b=some o)(n:b∉frs l):h.get? b=some o:=by obtain⟨⟨B,a0,f,k⟩,_⟩:=x.fly;exact f.1 b o (k b o hb n)
theorem XAt.cls(x:XAt l ha h e C):∃oe,h.get? e=some oe/\oe.cls=C:=by obtain⟨⟨B,a0,f,_⟩,_⟩:=x.fly;exact f.there
theorem Un.same{fs:List Addr}{H:Hp}{h h':Heap}(k:∀b o,h.get? b=some o->b∉fs->h'.get? b=some o)(s:∀b o,h.get? b=some o->b∈fs->∃sl,h'.get? b=some { o with slots:=sl }):Un fs [] H H h h' :=
 ⟨λb o e _ n _=>k b o e n,λb o e _ m _=>s b o e m,λ_ _ _ n _=>n,λb o e _=>(by grind),λ_ _ e=>e,λ_ _ _ e=>e,λb ps e=>⟨#[],by simp_all⟩⟩
theorem HOk.same{P:Program}{w:World}{fs:List Addr}{H:Hp}{h h':Heap}(ok:HOk P w H h)(k:∀b o,h.get? b=some o->b∉fs->h'.get? b=some o)(n:∀b∈fs,H b=none):HOk P w H h':=λb u e =>
 (ok b u e).stay (λc v hc q=>k c v q (λm=>by simp_all)) (λ_ q=>q) λ_ _ q=>q
def XS(X:Cx)(pins:List (Addr×Obj))(σ:L2.St)(H:Hp)(s:Shared)(e:Addr)(C:Value):Prop :=
 ∃sa,Inv X pins σ H sa/\s.os=sa.os/\AllBare s.gens/\XAt X.stack sa.heap s.heap e C
section
variable {X:Cx}{pins:List (Addr×Obj)}{σ:L2.St}{H:Hp}{s:Shared}{e:Addr}{C:Value}
theorem XAt.hok(x:XAt l ha h e C)(ok:HOk P w H ha)(n:∀b∈frs l,H b=none):HOk P w H h:=HOk.same ok (λb o hb m=>x.keep hb m) n
theorem XS.inv(x:XS X pins σ H s e C):Inv X pins σ H s:=by obtain⟨sa,I,os,bare,x⟩:=x;exact I.call'  os (Un.same (λb o hb n=>x.keep hb n) x.fly.2) (x.hok I.hok I.stkFree) bare (λb z=>absurd z ZzS)
theorem XS.cls(x:XS X pins σ H s e C):∃oe,s.heap.get? e=some oe/\oe.cls=C:=by obtain⟨sa,I,os,bare,x⟩:=x;exact x.cls
def CXJ(P:Program)(w:World):CXT:=λouter H s E e s'=>∃ea C H' ha,e=.ref ea/\s'.os=s.os/\AllBare s'.gens/\Un (frs outer) [] H H' s.heap ha/\HOk P w H' ha/\XAt outer ha s'.heap ea C/\E C none H'
theorem QoQ{E:XK}(I:Inv X pins σ H s)(h:CXJ X.prog X.w X.stack H s E ev s'):∃ea C H',ev=.ref ea/\XS X pins σ H' s' ea C/\E C none H':=by obtain⟨ea,C,H',ha,rfl,os,bare,un,hok,x,q⟩:=h;have I2 :=I.call' (s':={ s with heap:=ha })  rfl un hok I.bare (λb z=>absurd z ZzS);exact⟨ea,C,H',rfl,⟨_,I2,os,bare,x⟩,q⟩
theorem Qhz{h h':Heap}{l:List Env}{B:Heap}(up:h.UpToSlots h')(ff:h.FunFrames B l){b:Addr}{o:Obj}(m:b∈frs l)(e:h.get? b=some o):∃sl,h'.get? b=some { o with slots:=sl }:=by obtain⟨_,o',e',d⟩:=ff.mem m;rw[e]at e';cases e';exact up b o e d
theorem QbW(e:h.get? b=some o)(n:b∉as):(PySem.W.hideAll h as).get? b=some o:=PySem.W.hideAll_get as e n
end
theorem QlB{CX:CXT}{P:Program}{w:World}{A:Around}{env:Env}{outer:List Env}{L:Addr}{H H':Hp}{s s1:Shared}{E:XK}{e:Addr}{C:Value}{ha:Heap}{E2:Value->Shared->Prop}
  (hf:A.frames=some (env::outer)) (hL:env.frame=some L) (hn:s.heap.get? L=none) (hN:∀b∈frs outer,H' b=none) (hL0:H' L=none) (hLo:L∉frs outer)
  (un:Un (frs outer) [] H H' s.heap ha) (hok:HOk P w H' ha) (os:s1.os=s.os) (bare:AllBare s1.gens) (x:XAt (env::outer) ha s1.heap e C) (q:E C none H') :
  wpAny (model P w) A (leaving env (.ref e)) (λ_ s''=>CXJ P w outer H s E (.ref e) s'') E2 s1:=by
 obtain⟨⟨B,a0,f,k⟩,sl⟩:=x.fly
 have frs_cons:frs (env::outer)=L::frs outer:=by unfold frs;simp[hL]
 refine wpAny_leaves_onW hf hL f λh' f' up=>?_
 refine⟨e,C,H',PySem.W.hideAll ha [L],rfl,os,bare,?_,?_,⟨?_,⟨B,a0,f',λb o hb m=>?_⟩,λb o hb m=>?_⟩,q⟩
 ·have hid:∀b o,s.heap.get? b=some o->∀o',ha.get? b=some o'->(PySem.W.hideAll ha [L]).get? b=some o':=λb o e o' e'=>QbW e' (by simp;rintro rfl;rw[hn]at e;cases e)
  exact⟨λb o e n m c=>hid b o e _ (un.keep b o e n m c),λb o e n m c=>let ⟨sl,z⟩:=un.slot b o e n m c;⟨sl,hid b o e _ z⟩,un.free,λb o e c=>let ⟨o',z⟩:=un.there b o e c;⟨o',hid b o e _ z⟩,un.tups,un.frzs,un.tbls⟩
 ·exact HOk.same (fs:=[L]) hok (λb o hb m=>QbW hb m) (λb hb=>by rw[zP.mp hb];exact hL0)
 ·cases z:(PySem.W.hideAll ha [L]).get? e with
  |none=>rfl
  |some o=>have:=ZH _ z;rw[x.no]at this;cases this
 ·have hb':=ZH _ hb
  refine k b o hb' ?_
  rw[frs_cons]
  intro z
  rcases zS.mp z with rfl|z
  ·have:=zzK [b] (h:=ha) (b:=b) ZzS
   rw[this]at hb;cases hb
  ·exact m z
 ·have hb':=ZH _ hb
  have m':b∈frs (env::outer):=by rw[frs_cons];exact zB _ m
  obtain⟨sl1,z1⟩:=sl b o hb' m'
  obtain⟨sl2,z2⟩:=Qhz (l:=env::outer) up f.2.2.1 m' z1
  exact⟨sl2,z2⟩
abbrev bmV:List Value:=[.type "ValueError",.type "Exception",.type "BaseException",.type "object"]
abbrev newV:String:="ValueError.__new__"
structure Eo (h:Heap) (C:Addr) (bm:List Value):Prop where
 obj:∃N nm q bs hdct sn sub ab col dd k0 k1 k2 k3 k5 mN,h.get? C=some (excClassObj nm q C N bs bm hdct sn sub ab col dd k0 k1 k2 k3 k5 newV)/\h.Ns N mN/\mN "__init__"=none/\OwnTail h bmV bm
theorem Eo.keeps(o:Eo h C bm)(k:∀b u,h.get? b=some u->h'.get? b=some u):Eo h' C bm:=by obtain⟨N,nm,q,bs,a,sn,sub,ab,col,dd,k0,k1,k2,k3,k5,mN,e1,e2,e3,e4⟩:=o.obj;exact⟨N,nm,q,bs,a,sn,sub,ab,col,dd,k0,k1,k2,k3,k5,mN,k _ _ e1,e2.keeps k,e3,e4.keeps k⟩
theorem Eo.top(o:Eo h C bm):bm.contains (.type "BaseException")=true:=by obtain⟨N,nm,q,bs,a,sn,sub,ab,col,dd,k0,k1,k2,k3,k5,mN,e1,e2,e3,e4⟩:=o.obj;exact e4.hasType rfl
theorem Qgr {E:Value→Shared→Prop} (hC:Eo s.heap C bm) (hD:Eo s.heap D bd) (he:s.heap.get? e=some oe) (hc:oe.cls=.ref C)
    (hq:Q ((Value.ref C::bm).contains (.ref D)) s):wpAny M A (excMatches (.ref e) (.ref D)) Q E s:=by
  have hB:(Value.ref D::bd).contains (.type "BaseException")=true:=by rw [List.contains_cons,hD.top,Bool.or_true]
  obtain ⟨N,nm,q,bs,hdct,sn,sub,ab,col,dd,k0,k1,k2,k3,k5,mN,oC,_⟩:=hC.obj
  obtain ⟨N',nm',q',bs',hdct',sn',sub',ab',col',dd',k0',k1',k2',k3',k5',mN',oD,_⟩:=hD.obj
  obtain ⟨hh,g,d,t,os⟩:=s
  have nt:=tc_notTuple
  unfold excMatches
  repeat (first
    | (with_reducible refine Zs he ?_;rw [hc])
    | with_reducible refine Zs oD ?_
    | (with_reducible refine Z1 oD ?_;rw [hB])
    | with_reducible refine Z1 oC ?_
    | wp_step)
  cases z:(Value.ref C::bm).contains (.ref D) with
  | true => rw [z] at hq; repeat wp_step
            exact hq
  | false => rw [z] at hq; repeat wp_step
             exact hq
theorem Qgu{h B B':Heap}:∀{l:List Env},(∀L∈frs l,B'.get? L=none)->h.FunFrames B l->h.FunFrames B' l
 |[],_,f=>f
 |env::l,n,f=>by
  unfold Heap.FunFrames at f ⊢;obtain⟨h1,⟨L,o,h2,h3,h4⟩,h5⟩:=f;have fc:frs (env::l)=L::frs l:=by unfold frs;simp_all
  exact⟨h1,⟨L,o,h2,n L (by simp_all),h4⟩,Qgu (λb hb=>n b (by simp_all)) h5⟩
theorem Qi5{P:Program}{w:World}{A:Around}{env:Env}{outer:List Env}{L:Addr}{H H':Hp}{s s2:Shared}{h1 B0:Heap}{E:XK}{e:Addr}{C:Value}{args:List Value}{E2:Value->Shared->Prop}
  (hf:A.frames=some (env::outer)) (hL:env.frame=some L) (hn:s.heap.get? L=none) (hL0:H' L=none)
  (ff:s2.heap.FunFrames B0 (env::outer)) (un:Un (frs outer) [] H H' s.heap s2.heap) (hok:HOk P w H' s2.heap) (os:s2.os=s.os) (bare:AllBare s2.gens) (x:s2.heap.MadeExcOf h1 e C args) (q:E C none H') :
  wpAny (model P w) A (leaving env (.ref e)) (λ_ s''=>CXJ P w outer H s E (.ref e) s'') E2 { s2 with heap:=h1 }:=by
 have fc:frs (env::outer)=L::frs outer:=by unfold frs;simp[hL]
 have ff2:=Qgu (B':=PySem.W.hideAll s2.heap (frs (env::outer))) (λb hb=>zzK _ hb) ff
 refine wpAny_leaves_madeW  hf hL (λb o hb=>ZH _ hb) ff2 x λh' t f' _ _ up=>?_
 refine⟨e,C,H',PySem.W.hideAll s2.heap [L],rfl,os,bare,?_,?_,⟨?_,⟨_,_,f',λb o hb m=>?_⟩,λb o hb m=>?_⟩,q⟩
 ·have hid:∀b o,s.heap.get? b=some o->∀o',s2.heap.get? b=some o'->(PySem.W.hideAll s2.heap [L]).get? b=some o':=λb o e o' e'=>QbW e' (by simp;rintro rfl;rw[hn]at e;cases e)
  exact⟨λb o e n m c=>hid b o e _ (un.keep b o e n m c),λb o e n m c=>let ⟨sl,z⟩:=un.slot b o e n m c;⟨sl,hid b o e _ z⟩,un.free,λb o e c=>let ⟨o',z⟩:=un.there b o e c;⟨o',hid b o e _ z⟩,un.tups,un.frzs,un.tbls⟩
 ·exact HOk.same (fs:=[L]) hok (λb o hb m=>QbW hb m) (λb hb=>by rw[zP.mp hb];exact hL0)
 ·cases z:(PySem.W.hideAll s2.heap [L]).get? e with
  |none=>rfl
  |some o=>have:=ZH _ z;rw[x.new]at this;cases this
 ·have hb':=ZH _ hb
  refine QbW hb' ?_
  rw[fc]
  intro z
  rcases zS.mp z with rfl|z
  ·have:=zzK [b] (h:=s2.heap) (b:=b) ZzS
   rw[this]at hb;cases hb
  ·exact m z
 ·have hb':=ZH _ hb
  have m':b∈frs (env::outer):=by rw[fc];exact zB _ m
  obtain⟨_,o',e',d⟩:=ff2.mem m'
  rw[hb']at e';cases e'
  exact up b o (x.keeps b o hb') d
def XL(cl:Nat->Addr)(X:Cx)(EX:EXT):Prop:=∀pins σ H s e c h ρ,XS X pins σ H s e (.ref (cl c))->HRel X.K ρ h H->EX c h ρ H->X.xe (.ref e) s
def XM(cl:Nat->Addr)(X:Cx)(EX:EXT):Prop:=∀pins σ H s h1 e c h ρ args,Inv X pins σ H s->s.heap.MadeExcOf h1 e (.ref (cl c)) args->HRel X.K ρ h H->EX c h ρ H->X.xe (.ref e) { s with heap:=h1 }
theorem XL.no(h:∀c h ρ H,¬ EX c h ρ H):XL cl X EX:=λpins σ H s e c h' ρ _ _ z=>(h c h' ρ H z).elim
section
variable {P:Program}{w:World}{K:Fg0}{mg:Str->Option Value}{base:Heap}{N:List Str}{qual:Str}{scope:Scope}{f:Addr}{cd:Value}{A:Around}{outer:List Env}{s:Shared}{H:Hp}{E:XK}{cl:Nat->Addr}
theorem Qqc:XL cl (QkC (CXJ P w) P w K mg base N qual scope f cd A outer s H E) (λc _ _ H'=>E (.ref (cl c)) none H'):=by
 intro pins σ H1 s1 e c h ρ zq8 _ q;obtain⟨sa,I,os,bare,x⟩:=zq8;have hn:s.heap.get? s.heap.objs.size=none:=Heap.get?_none_of_le (zD _)
 exact QlB (CX:=CXJ P w)   (H:=H) (s:=s) (ha:=sa.heap) I.ok.frames rfl hn (λb hb=>I.stkFree b (by show b∈frs (_::outer);unfold frs at hb ⊢;grind)) I.free (λz=>by
  obtain⟨_,o,ho,_⟩:=I.ok.funs.mem z
  rw[show(QkC (CXJ P w) P w K mg base N qual scope f cd A outer s H E).s₀=s from rfl,hn]at ho;cases ho) I.base I.hok (os.trans I.os) bare x q
theorem Qpa:XM cl (QkC (CXJ P w) P w K mg base N qual scope f cd A outer s H E) (λc _ _ H'=>E (.ref (cl c)) none H'):=by intro pins σ H1 s1 h1 e c h ρ args I x _ q;have hn:s.heap.get? s.heap.objs.size=none:=Heap.get?_none_of_le (zD _);exact Qi5     I.ok.frames rfl hn I.free I.stack I.base I.hok I.os I.bare x q
end
section
variable {X:Cx}{EX:EXT}{cf:CF}{fw:Nat}{pos:Pos}{a b c e:Expr}{a' b' c' e':E}
noncomputable def QbV(e:Expr):Bool:=match e with
 |.Call (.Name _ _) [] [] _=>false
 |_=>true
theorem QbS(h:QbV o=true)(n)(env)(w):attributeBase o n env w=w:=by unfold attributeBase;split;cases h;rfl
theorem QaH(h1:Qaf us=true)(h2:Qah w=true):Qaf (us++[w])=true:=by
 induction us with
 |nil=>show Qaf [w]=true;rw[Qaf,h2];rfl
 |cons u us ih=>rw[Qaf,zE]at h1;show Qaf (u::(us++[w]))=true;rw[Qaf,h1.1,ih h1.2];rfl
theorem Qhe{K:Fg0}(hr:HRel K ρ h H)(r:Rel K ρ H (.ref n) v)(e:h[n]?=some (.lst us)):∃l ys,v=.ref l/\ρ[n]?=some l/\H l=some (.lst ys)/\Qaf us=true/\RelL K ρ H us ys:=by obtain⟨l,rfl,hn⟩:=r;obtain⟨pu,ys,hy,rs⟩:=hr.at_ n l _ hn e;simp_all
theorem recv{m:Mt}{τ:L2.St}{H:Hp}{Q:VK}{R:V->Hp->Prop}{as:List E}{K:Fg0}(q:tI K EX (evE cf (.meth m a' as)) τ H Q)
  (k:∀ρ σ h H1 w v,RelE K ρ H1 σ τ->HRel K ρ h H1->Rel K ρ H1 w v->Qbi m h w=true->RQ K EX ρ H1 (bnd (evA cf as σ h) λws h=>Qc6 m w ws h) (λw _ ρ' H'=>∀v,Rel K ρ' H' w v->Q v H')->R v H1):tI K EX (evE cf a') τ H R:=by
 obtain⟨ρ,σ,h,re,hr,q⟩:=q
 refine⟨ρ,σ,h,re,hr,q.bnd.mono λw h1 ρ1 H1 x1 hr1 q1 v r=>?_⟩
 split at q1
 ·rename_i hi;exact k ρ1 σ h1 H1 w v (re.ext x1) hr1 r hi q1
 ·exact q1.elim
theorem QpL{K:Fg0}(hr:HRel K ρ h H)(r:Rel K ρ H w v)(hi:(seqM h w).isSome=true):tyV K "list" v H:=by obtain⟨ws,ew⟩:=ZG.mp hi;obtain⟨l,xs,rfl,hx,rs⟩:=Qbc hr ew r;exact .inl ⟨rfl,xs,.inl (.inl hx)⟩
theorem QmG{apos:Pos}(ha:PE X a (tI X.K EX (evE cf a')))(he:PE X e (tI X.K EX (evE cf e')))(hs:Qam e=true)(hb:QbV a=true)(hl:apos.endLine=pos.line) :
  PE X (.Call (.Attribute a "append" apos) [e] [] pos) (tI X.K EX (evE cf (.meth .append a' [e']))) :=
 (pe_bm zz5 PySem.F.slot_list_append PySem.F.type_list_append QfL ha (Qay he pa_nil (Qaj hs _ _)) (QbS hb _ _ _) (by rw[Qaj hs];rfl) (by simp[hl]) (Qaj hs _ _) (by rfl)).sub λτ H Q q=>recv q λρ σ h H1 w v re hr r hi q=>by
  rw[QbE,Qbp]at q;refine⟨QpL hr r hi,ρ,σ,h,re,hr,q.bnd.mono λw2 h2 ρ2 H2 x2 hr2 q2 v2 r2=>?_⟩;have q3:RQ X.K EX ρ2 H2 (appW w w2 h2) _:=q2;cases w with
  |ref n=>unfold appW at q3;dsimp only at q3;split at q3;rename_i us e;obtain⟨l,ys,rfl,hn,hy,pu,rs⟩:=Qhe hr2 (Rel.ext x2 _ _ r) e;split at q3;rename_i hp;exact⟨l,ys,v2,rfl,rfl,hy,by rw[<- rs.length];exact hp.2,q3 _ _ (ext_write hn) (hr2.write hn (QaH pu hp.1) (rs.append (.cons r2 .nil))) _ Qga⟩;exact q3.elim;exact q3.elim
  |_=>exact q3.elim
theorem QjB(h1:Qaf us=true)(h2:Qaf ws=true):Qaf (us++ws)=true:=by
 induction us with
 |nil=>exact h2
 |cons u us ih=>rw[Qaf,zE]at h1;show Qaf (u::(us++ws))=true;rw[Qaf,h1.1,ih h1.2];rfl
theorem Qni{apos:Pos}(ha:PE X a (tI X.K EX (evE cf a')))(he:PE X e (tI X.K EX (evE cf e')))(hs:Qam e=true)(hb:QbV a=true)(hl:apos.endLine=pos.line) :
  PE X (.Call (.Attribute a "extend" apos) [e] [] pos) (tI X.K EX (evE cf (.meth .extend a' [e']))) :=
 (pe_bm zz5 PySem.F.slot_list_extend PySem.F.type_list_extend QjH ha (Qay he pa_nil (Qaj hs _ _)) (QbS hb _ _ _) (by rw[Qaj hs];rfl) (by simp[hl]) (Qaj hs _ _) (by rfl)).sub λτ H Q q=>recv q λρ σ h H1 w v re hr r hi q=>by
  rw[QbE,Qbp]at q;refine⟨QpL hr r hi,ρ,σ,h,re,hr,q.bnd.mono λw2 h2 ρ2 H2 x2 hr2 q2 v2 r2=>?_⟩;have q3:RQ X.K EX ρ2 H2 (extW w w2 h2) _:=q2;cases w with
  |ref n=>unfold extW at q3;dsimp only at q3;split at q3;rename_i us e;obtain⟨l,ys,rfl,hn,hy,pu,rs⟩:=Qhe hr2 (Rel.ext x2 _ _ r) e;split at q3;rename_i ws e2;obtain⟨b,zs,rfl,hb2,rz⟩:=Qbc hr2 e2 r2;split at q3;rename_i hp;exact⟨l,b,ys,zs,rfl,rfl,hy,hb2,by rw[<- rs.length,<- rz.length];exact hp.2,q3 _ _ (ext_write hn) (hr2.write hn (QjB pu hp.1) (rs.append rz)) _ Qga⟩;exact q3.elim;exact q3.elim;exact q3.elim
  |_=>exact q3.elim
theorem QfB:∀{us:List W} (n:Nat),Qaf us=true->Qaf (us.take n)=true
 |_,0,_=>rfl
 |[],_+1,_=>rfl
 |u::us,n+1,p=>by rw[Qaf,zE]at p;show Qaf (u::us.take n)=true;rw[Qaf,p.1,QfB n p.2];rfl
theorem r_pop{apos:Pos}(ha:PE X a (tI X.K EX (evE cf a')))(hb:QbV a=true)(hl:apos.endLine=pos.line) :
  PE X (.Call (.Attribute a "pop" apos) [] [] pos) (tI X.K EX (evE cf (.meth .pop a' []))) :=
 (pe_bm0 zz5 PySem.F.slot_list_pop PySem.F.type_list_pop mt_pop ha (QbS hb _ _ _) (by simp[hl])).sub λτ H Q q=>recv q λρ σ h H1 w v re hr r hi q=>by
  refine⟨QpL hr r hi,?_⟩;have q3:RQ X.K EX ρ H1 (popW w h) _:=q;cases w with
  |ref n=>unfold popW at q3;dsimp only at q3;split at q3;rename_i us e;obtain⟨l,ys,rfl,hn,hy,pu,rs⟩:=Qhe hr r e;split at q3;rename_i w0 e0;obtain⟨y,ey,ry⟩:=rs.get e0;refine⟨l,ys,y,rfl,rfl,hy,by rw[<- rs.length];exact ey,?_⟩;rw[List.dropLast_eq_take];rw[List.dropLast_eq_take]at q3;have z:=q3 _ _ (ext_write (H:=H1)  hn) (hr.write hn (QfB _ pu) (by have:=rs.take (us.length-1);rw[rs.length]at this ⊢;exact this));exact z _ (Rel.ext (ext_write hn) _ _ ry);exact q3.elim;exact q3.elim
  |_=>exact q3.elim
theorem r_get{apos:Pos}(hu:X.A.units+64<cLine)(ha:PE X a (tI X.K EX (evE cf a')))(he:PE X e (tI X.K EX (evE cf e')))(hs:Qam e=true)(hb:QbV a=true)(hl:apos.endLine=pos.line) :
  PE X (.Call (.Attribute a "get" apos) [e] [] pos) (tI X.K EX (evE cf (.meth .get a' [e']))) :=
 (Qn3 (zzk ZzS hu) ha he ⟨QbS hb _ _ _,by rw[Qaj hs];rfl,by simp[hl],by rw[Qaj hs];rfl⟩).sub λτ H Q q=>recv q λρ σ h H1 w v re hr r hi q=>by
  rw[QbE,Qbp]at q;obtain⟨⟨ks,ws⟩,e0⟩:=ZG.mp (hi);obtain⟨p,xs,rfl,hd,hl2,rs⟩:=QaV hr e0 r;refine⟨p,rfl,.inl ⟨_,hd⟩,ρ,σ,h,re,hr,q.bnd.mono λw2 h2 ρ2 H2 x2 hr2 q2 v2 r2=>?_⟩;have q3:RQ X.K EX ρ2 H2 (getW w w2 .non h2) _:=q2;unfold getW at q3;split at q3;rename_i ks2 ws2 e2;obtain⟨p2,ys,ep,hd2,hl3,rs2⟩:=QaV hr2 e2 (Rel.ext x2 _ _ r);cases ep;cases w2 with
  |str k=>
   cases Qat r2;refine⟨_,.inl ⟨_,Sum.inr k,hd2,rfl,rfl⟩,?_⟩;obtain⟨g1,g2⟩:=Qd4 (x:=k) hl3 rs2;dsimp only at q3;cases eg:QdG ks2 ws2 k with
   |none=>rw[eg]at q3;rw[g2 eg];exact RQ.here hr2 q3 _ Qga
   |some w3=>rw[eg]at q3;obtain⟨v3,e3,r3⟩:=g1 w3 eg;rw[e3];exact RQ.here hr2 q3 _ r3
  |_=>exact q3.elim
  exact q3.elim
def spI(K:Fg0)(cl:Nat->Addr)(cf:CF)(f:Nat)(np:Nat):Sp:=λvs H Q E=>vs.length=np /\
 ∃ρ h ws,HRel K ρ h H/\RelL K ρ H ws vs/\RQ K (λc _ _ H'=>E (.ref (cl c)) none H') ρ H (cf f ws h) λw _ ρ' H'=>∀v,Rel K ρ' H' w v->Q v H'
def EKX(K:Fg0)(cl:Nat->Addr)(EX:EXT):XK:=λC _ H'=>∃c h ρ,C=.ref (cl c)/\HRel K ρ h H'/\EX c h ρ H'
theorem XL.passes(hX:XL cl X EX):QdR (CXJ X.prog X.w) X (EKX X.K cl EX):=λpins σ H s e s' I h=>by obtain⟨ea,C,H',rfl,x,c,h2,ρ,rfl,hr,q⟩:=QoQ I h;exact hX pins σ H' s' ea c h2 ρ x hr q
theorem Qow
  (F:FnOk X.prog X.w X.K X.mg X.base (CXJ X.prog X.w) k f fd ps (spI X.K cl cf fn np)) (hr:Room k X.A) (hg:Gl X x) (hm:X.mg x=some (.ref f)) (hk:PySem.W.keepIn X.K (.ref f)=true) (hb:Binds X.K fd ps [])
  (hX:XL cl X EX) (hdb:(x==("__debug__":Str))=false) (hs:(e::es).all Qam=true) (hl:(e::es).length=np) (hl':es'.length=np)
  (ha:PA X (e::es) (tIA X.K EX (evA cf es'))) (hv:∀σ h ws h',evA cf es' σ h=.ok ws h'->ws.length=np) :
  PE X (.Call (.Name x p) (e::es) [] pos) (tI X.K EX (evE cf (.call fn es'))):=by
 have hs':=hs
 rw[ZB,zE]at hs'
 refine(Qpn F hr hg hm hk hb .nil hX.passes ha hdb (Qaj hs'.1 es X.env) (Qcc hs'.2 pos X.env)).sub λτ H Q zq=>?_
 obtain⟨ρ,σ,h,re,hr,q⟩:=zq
 rw[evE]at q
 refine⟨ρ,σ,h,re,hr,?_⟩
 cases e:evA cf es' σ h with
 |stuck=>rw[e]at q;exact q.elim
 |exc c h1=>rw[e]at q;exact q
 |ok ws h1 =>
  have hw:=hv _ _ _ _ e
  rw[e]at q
  intro ρ1 H1 x1 hr1 vs rs
  have q1:RQ X.K EX ρ1 H1 (cf fn ws h1) (λw _ ρ' H'=>∀v,Rel X.K ρ' H' w v->Q v H'):=q.bnd ρ1 H1 x1 hr1
  refine⟨by rw[Zf,<- rs.length];exact hw,ρ1,h1,ws,hr1,by simp_all,?_⟩
  cases e2:cf fn ws h1 with
  |ok w h2=>rw[e2]at q1;exact q1
  |exc c h2=>rw[e2]at q1;exact λρ2 H2 x2 hr2=>⟨c,h2,ρ2,rfl,hr2,q1 ρ2 H2 x2 hr2⟩
  |stuck=>rw[e2]at q1;exact q1
theorem Qc1:∀{es:List E}{σ:Qai}{h:Qaa}{ws:List W}{h':Qaa},evA cf es σ h=.ok ws h'->ws.length=es.length
 |[],σ,h,ws,h',e=>by cases e;rfl
 |a::es,σ,h,ws,h',e=>by
  rw[evA]at e;cases e1:evE cf a σ h with
  |stuck=>rw[e1]at e;cases e
  |exc c h1=>rw[e1]at e;cases e
  |ok w h1=>
   rw[e1]at e;have e':bnd (evA cf es σ h1) (λws h=>Res.ok (w::ws) h)=.ok ws h':=e;cases e2:evA cf es σ h1 with
   |stuck=>rw[e2]at e';cases e'
   |exc c h1=>rw[e2]at e';cases e'
   |ok us h2=>rw[e2]at e';cases e';simp[Qc1 e2]
theorem HRel.cut{K:Fg0}(x:Ext ρ H ρ' H')(hl:ρ.length=n0)(hr:HRel K ρ' h' H'):HRel K ρ (h'.take n0) H':=by
 obtain⟨t,rfl⟩:=x.pre;have hlen:=hr.len;rw[zA]at hlen;refine⟨by rw[Zk];lia,(Zw.mp hr.nd).1,λn a o e1 e2=>?_⟩;have hn:n<n0:=by rw[<- hl];grind
 rw[zzU hn]at e2;have q:=hr.at_ n a o (by grind) e2;cases o with
 |lst ws=>obtain⟨p,xs,e,r⟩:=q;exact⟨p,xs,e,RelL.less (λb hb=>Ze _ hb) ws xs p r⟩
 |dic ks ws=>obtain⟨p,xs,e,l,r⟩:=q;exact⟨p,xs,e,l,RelL.less (λb hb=>Ze _ hb) ws xs p r⟩
theorem Ext.cut(x:Ext ρ H ρ' H'):Ext ρ H ρ H':=⟨List.prefix_refl _,x.keep,λ_ _ _ z=>z⟩
mutual
theorem Qks{K:Fg0}(hr:HRel K (ρ++t) h H)(hl:ρ.length=n0):∀w u v,unr h n0 w=some u->Rel K (ρ++t) H w v->Rel K ρ H u v
 |.non,u,v,e,r=>by cases e;rw[Rel]at r ⊢;exact r
 |.bl _,u,v,e,r=>by cases e;rw[Rel]at r ⊢;exact r
 |.int _,u,v,e,r=>by cases e;rw[Rel]at r ⊢;exact r
 |.str _,u,v,e,r=>by cases e;rw[Rel]at r ⊢;exact r
 |.tup ws,u,v,e,r=>by rw[unr]at e;obtain⟨us,e1,rfl⟩:=Zg.mp e;rw[Rel]at r ⊢;obtain⟨a,xs,ea,q,rs⟩:=r;exact⟨a,xs,ea,q.imp (λz=>⟨λy=>z.1 (Ze _ y),z.2⟩) id,Qch hr hl ws us xs e1 rs⟩
 |.lst ws,u,v,e,r=>by rw[unr]at e;obtain⟨us,e1,rfl⟩:=Zg.mp e;rw[Rel]at r ⊢;obtain⟨a,xs,ea,n,q,rs⟩:=r;exact⟨a,xs,ea,λy=>n (Ze _ y),q,Qch hr hl ws us xs e1 rs⟩
 |.scr ws,u,v,e,r=>by rw[unr]at e;obtain⟨us,e1,rfl⟩:=Zg.mp e;rw[Rel]at r ⊢;obtain⟨a,xs,ea,q,rs⟩:=r;exact⟨a,xs,ea,q.imp (λz=>⟨λy=>z.1 (Ze _ y),z.2⟩) id,Qch hr hl ws us xs e1 rs⟩
 |.dic ks ws,u,v,e,r=>by rw[unr]at e;obtain⟨us,e1,rfl⟩:=Zg.mp e;rw[Rel]at r ⊢;obtain⟨a,xs,ea,n,q,l,rs⟩:=r;exact⟨a,xs,ea,λy=>n (Ze _ y),q,l,Qch hr hl ws us xs e1 rs⟩
 |.ins c ws,u,v,e,r=>by rw[unr]at e;obtain⟨us,e1,rfl⟩:=Zg.mp e;rw[Rel]at r ⊢;obtain⟨a,dx,xs,C,ea,n,q,l,z,rs⟩:=r;exact⟨a,dx,xs,C,ea,λy=>n (Ze _ y),q,l,z,Qch hr hl ws us xs e1 rs⟩
 |.ref n,u,v,e,r=>by
  rw[unr]at e;rw[Rel]at r;obtain⟨a,rfl,hn⟩:=r;have sub:∀b,b∈ρ->b∈ρ++t:=λb hb=>Ze _ hb;have na:¬ n<n0->a∉ρ:=λhlt hm=>by rw[zK ZzL]at hn;exact(Zw.mp hr.nd).2.2 a hm a (zC hn) rfl
  split at e;rename_i hlt;cases e;rw[Rel];exact⟨a,rfl,by rw[zI ZzL]at hn;exact hn⟩;rename_i hlt;split at e;rename_i ws ew;cases e;obtain⟨p,xs,hx,rs⟩:=hr.at_ n a _ hn ew;rw[Rel];exact⟨a,xs,rfl,na hlt,hx,RelL.less sub ws xs p rs⟩;rename_i ks ws ew;cases e;obtain⟨p,xs,hx,hlx,rs⟩:=hr.at_ n a _ hn ew;rw[Rel];exact⟨a,xs,rfl,na hlt,.inl hx,hlx,RelL.less sub ws xs p rs⟩;cases e
theorem Qch{K:Fg0}(hr:HRel K (ρ++t) h H)(hl:ρ.length=n0):∀ws us xs,Qf7 h n0 ws=some us->RelL K (ρ++t) H ws xs->RelL K ρ H us xs
 |[],us,xs,e,r=>by cases e;rw[RelL]at r ⊢;exact r
 |w::ws,us,xs,e,r=>by rw[Qf7]at e;rw[RelL]at r;obtain⟨y,ys,rfl,r1,r2⟩:=r;split at e;rename_i u us' e1 e2;cases e;exact .cons (Qks hr hl w u y e1 r1) (Qch hr hl ws us' ys e2 r2);cases e
end
theorem RQ.fin{K:Fg0}{ρ:List Addr}{H:Hp}{h:Qaa}{r:Res Fl}{Q:VK}{EK:Nat->Hp->Prop}(hr:HRel K ρ h H)
  (q:RQ K (λc _ _ H'=>EK c H') ρ H (J.fin h.length r) λw _ ρ' H'=>∀v,Rel K ρ' H' w v->Q v H') :
  RQ K (λc _ _ H'=>EK c H') ρ H r (FlQ K { nx:=λ_ H'=>Q .non H',rt:=Q }):=by
 have hl :=hr.len
 cases r with
 |stuck=>exact q
 |exc c h'=>exact λρ' H' x hr'=>q ρ H' x.cut (hr'.cut x hl)
 |ok fl h' =>
  intro ρ' H' x hr'
  have hc:=hr'.cut x hl
  cases fl with
  |nx σ=>exact λτ re=>q ρ H' x.cut hc _ Qga
  |brk σ=>exact q.elim
  |cnt σ=>exact q.elim
  |ret w =>
   intro v r
   have q':RQ K (λc _ _ H'=>EK c H') ρ H (match unr h' h.length w with|some u=>.ok u (h'.take h.length)|none=>.stuck) λw _ ρ' H'=>∀v,Rel K ρ' H' w v->Q v H':=q
   split at q'
   ·rename_i u e
    obtain⟨t,rfl⟩:=x.pre
    exact q' ρ H' x.cut hc v (Qks hr' hl w u v e r)
   ·exact q'.elim
theorem RQ.finO{K:Fg0}{ρ:List Addr}{H:Hp}{h:Qaa}{r:Res Fl}{Q:VK}{EK:Nat->Hp->Prop}(hr:HRel K ρ h H)
  (q:RQ K (λc _ _ H'=>EK c H') ρ H (J.finO h.length r) λw _ ρ' H'=>∀v,Rel K ρ' H' w v->Q v H') :
  RQ K (λc _ _ H'=>EK c H') ρ H r (FlQ K { nx:=λ_ H'=>Q .non H',rt:=Q }):=by
 unfold J.finO at q
 split at q
 ·rename_i n h'
  have hl:ρ.length=h.length:=hr.len
  intro ρ' H' x hr' v r
  rw[Rel]at r
  obtain⟨a,rfl,hn⟩:=r
  split at q
  ·rename_i hlt
   refine q ρ H' x.cut (hr'.cut x hl) _ ?_
   rw[Rel]
   obtain⟨t,rfl⟩:=x.pre
   exact⟨a,rfl,by rw[zI (by simp_all)]at hn;exact hn⟩
  ·rename_i hlt
   split at q
   ·rename_i ws e
    obtain⟨p,xs,hx,rs⟩:=hr'.at_ n a _ hn e
    have hc:=hr'.cut x hl
    have ha:a∈ρ':=zC hn
    have na:a∉ρ:=λhm=>by obtain⟨t,rfl⟩:=x.pre;rw[zK (by simp_all)]at hn;exact(Zw.mp hr'.nd).2.2 a hm a (zC hn) rfl
    have sub:∀b,b∈ρ++[a]->b∈ρ':=λb hb=>by rcases Za.mp hb with hb|hb;exact x.pre.subset hb;rw[zP.mp hb];exact ha
    have hlen:(h'.take h.length).length=h.length:=by rw[<- hc.len,hl]
    refine q (ρ++[a]) H' ⟨List.prefix_append _ _,x.keep,λb o eb nb hb=>?_⟩ ⟨by simp[<- hc.len],?_,λm b o e1 e2=>?_⟩ _ ?_
    ·rcases Za.mp hb with hb|hb
     ·exact nb hb
     ·exact x.out b o eb nb (by rw[zP.mp hb];exact ha)
    ·rw[Zw]
     exact⟨hc.nd,ZzS,λb hb c hc'=>by rw[zP.mp hc'];rintro rfl;exact na hb⟩
    ·by_cases hm:m<ρ.length
     ·rw[zI hm]at e1
      rw[zI (by simp_all),zzU (by simp_all)]at e2
      obtain⟨t,rfl⟩:=x.pre
      have z:=hr'.at_ m b o (by rw[zI hm];exact e1) e2
      cases o with
      |lst us=>obtain⟨p,ys,e,r⟩:=z;exact⟨p,ys,e,RelL.less sub us ys p r⟩
      |dic ks us=>obtain⟨p,ys,e,l,r⟩:=z;exact⟨p,ys,e,l,RelL.less sub us ys p r⟩
     ·rw[zK (by simp_all)]at e1
      rw[zK (by simp_all),hlen,<- hl]at e2
      cases em:m-ρ.length with
      |succ k=>rw[em]at e1;cases e1
      |zero =>
       rw[em]at e1 e2
       cases e1
       cases e2
       exact⟨p,xs,hx,RelL.less sub ws xs p rs⟩
    ·rw[Rel]
     exact⟨a,rfl,by rw[<- hl,zK (zD _),zzP];rfl⟩
   ·exact q.elim
 ·exact RQ.fin hr q
theorem Qgp{K:Fg0}(r:RelL K ρ H ws vs):RelE K ρ H (ws.map some++List.replicate (N.length-ws.length) none) (start N vs):=by
 have hl:=r.length;refine⟨by unfold L2.start;simp[hl],λi w e=>?_⟩;by_cases hi:i<ws.length;rw[zI (by simpa using hi),zT]at e;cases e1:ws[i]? with
 |none=>rw[e1]at e;cases e
 |some u=>rw[e1]at e;have e':u=w:=zW (zW e);subst e';obtain⟨v,h1,h2⟩:=r.get e1;refine⟨v,?_,h2⟩;unfold L2.start;rw[zI (by simp;simp_all),zT,h1];rfl
 rw[zK (by simpa using hi),zz3]at e;simp_all
theorem fn_ok{P:Program}{K:Fg0}{st:Stmt}
  (F:Fun K x qual st f fd) (S:FnScope N ps (Qal st)) (hg:tb[fn]?=some g) (hnp:g.np=ps.length) (hns:g.ns=N.length)
  (body:∀X EX,X.prog=P->X.w=w->X.K=K->X.mg=mg->X.base=base->X.N=N->X.env.scope=Qal st->X.calm=true->(X.fn=λ_=>true)->PassesOwn (model X.prog X.w) X.A X.env X.xe->(X.stack=X.env::X.outer/\X.env.frame=some X.env.locals)->XL cl X EX->XM cl X EX->Room k X.A ->
   PSs X (QaC st) (tIS K EX (exB (Qab fw tb d) fw g.body))) :
  FnOk P w K mg base (CXJ P w) (k+1) f fd ps (spI K cl (Qab fw tb (d+1)) fn ps.length):=by
 obtain⟨oc,od,kV,doc,pm,an,cdv,ct,osl,rfl,lk,hcd⟩:=F.ex
 refine Qpm lk hcd S (λvs H Q E h=>h.1) λA outer s H vs Q E hr zq=>?_
 obtain⟨hl,ρ,h,ws,hrel,rl,q⟩:=zq
 refine⟨_,body (QkC (CXJ P w) P w K mg base N qual (Qal st) f cdv A outer s H E) _ rfl rfl rfl rfl rfl rfl rfl rfl rfl PassesOwn.leaving ⟨rfl,rfl⟩ Qqc Qpa hr,ρ,_,h,Qgp rl,hrel,?_⟩
 have e:Qab fw tb (d+1) fn ws h=J.fin h.length (exB (Qab fw tb d) fw g.body (ws.map some++List.replicate (N.length-ws.length) none) h):=by
  have hw:ws.length=g.np:=by rw[rl.length,hl,hnp]
  show(match tb[fn]? with|some g=>_|none=>_)=_;simp_all
 rw[e]at q
 exact RQ.fin  hrel q
theorem fn_okO{P:Program}{K:Fg0}{st:Stmt}
  (F:Fun K x qual st f fd) (S:FnScope N ps (Qal st)) (hg:tb[fn]?=some g) (hnp:g.np=ps.length) (hns:g.ns=N.length) (hlen:tb.length<=1000)
  (body:∀X EX,X.prog=P->X.w=w->X.K=K->X.mg=mg->X.base=base->X.N=N->X.env.scope=Qal st->X.calm=true->(X.fn=λ_=>true)->PassesOwn (model X.prog X.w) X.A X.env X.xe->(X.stack=X.env::X.outer/\X.env.frame=some X.env.locals)->XL cl X EX->XM cl X EX->Room k X.A ->
   PSs X (QaC st) (tIS K EX (exB (Qab fw tb d) fw g.body))) :
  FnOk P w K mg base (CXJ P w) (k+1) f fd ps (spI K cl (Qab fw tb (d+1)) (fn+1000) ps.length):=by
 obtain⟨oc,od,kV,doc,pm,an,cdv,ct,osl,rfl,lk,hcd⟩:=F.ex
 refine Qpm lk hcd S (λvs H Q E h=>h.1) λA outer s H vs Q E hr zq=>?_
 obtain⟨hl,ρ,h,ws,hrel,rl,q⟩:=zq
 refine⟨_,body (QkC (CXJ P w) P w K mg base N qual (Qal st) f cdv A outer s H E) _ rfl rfl rfl rfl rfl rfl rfl rfl rfl PassesOwn.leaving ⟨rfl,rfl⟩ Qqc Qpa hr,ρ,_,h,Qgp rl,hrel,?_⟩
 have e:Qab fw tb (d+1) (fn+1000) ws h=J.finO h.length (exB (Qab fw tb d) fw g.body (ws.map some++List.replicate (N.length-ws.length) none) h):=by
  have hw:ws.length=g.np:=by rw[rl.length,hl,hnp]
  have hno:tb[fn+1000]?=none:=ZD.mpr ZzL;show(match tb[fn+1000]? with|some g=>_|none=>match tb[fn+1000-1000]? with|some g=>_|none=>match tb[fn+1000-2000]? with|some g=>_|none=>_)=_;simp_all
 rw[e]at q
 exact RQ.finO  hrel q
end
theorem Qqh{v:Int}(h:v.natAbs<10^100):(Str.ofString (toString v)).length<=101:=by
 cases v with
 |ofNat n =>
  refine zf (toString_length_le (k:=100) (Int.natCast_nonneg n) ZzD ?_) ZzD
  have :=Int.ofNat_lt.mpr h
  simp_all
 |negSucc m =>
  have e:toString (Int.negSucc m)="-"++toString ((m+1:Nat):Int):=rfl
  have h':m+1<10^100:=h
  have h2:=toString_length_le (v:=((m+1:Nat):Int)) (k:=100) (Int.natCast_nonneg _) ZzD (by grind)
  rw[PySem.ofString_length]at h2 ⊢
  rw[e,String.length_append]
  show 1+_<=101
  lia
def fpV(τ:L2.St):Fp->Prop
 |.lit=>True
 |.con=>True
 |.var i=>(∃n:Int,τ[i]?=some (some (.int n))/\n.natAbs<10^100)\/∃s:Str,τ[i]?=some (some (.str s))/\s.length<=1000
 |.rep i=>∃s:Str,τ[i]?=some (some (.str s))/\s.length<=1000/\∀c∈s.cps.toList,c<16^8
theorem fpW_V{K:Fg0}(re:RelE K ρ H σ τ)(h:fpW σ p=true):fpV τ p:=by
 cases p with
 |lit=>trivial
 |con=>trivial
 |var i=>unfold fpW at h;dsimp only at h;split at h;rename_i n e;obtain⟨v,h1,h2⟩:=re.at_ i _ e;cases Qaq h2;exact .inl ⟨n,h1,Zd h⟩;rename_i s e;obtain⟨v,h1,h2⟩:=re.at_ i _ e;cases Qat h2;exact .inr ⟨s,h1,Zd h⟩;simp_all
 |rep i=>unfold fpW at h;dsimp only at h;split at h;rename_i s e;rw[zE]at h;obtain⟨v,h1,h2⟩:=re.at_ i _ e;cases Qat h2;refine⟨s,h1,Zd h.1,λc hc=>?_⟩;have:=Zd (Z5.mp h.2 c hc);exact zzk this ZzD;cases h
section
variable {X:Cx}{EX:EXT}{cf:CF}{fw:Nat}{pos:Pos}{a:Expr}
def PF(X:Cx)(e:Expr)(p:Fp):Prop:=∀(pins:List (Addr×Obj)) (s:Shared) (τ:L2.St) (H:Hp) (Q:Value->Shared->Prop),Inv X pins τ H s->fpV τ p->(∀(y:Str) (t:Tok) (s1:Shared),y.length<=20000->Inv X pins τ H s1->Q (.str y t) s1) ->
 wpAny (model X.prog X.w) X.A (eval e X.env) Q X.xe s
theorem pf_lit(hz:z.length<=1000):PF X (.Constant (.str z) j pos) .lit:=λpins s τ H Q I _ q =>
 thn (pe_str pins s τ H (λv H'=>v=.str z/\H'=H) I ⟨rfl,rfl⟩) λu s1 zq=>by
  obtain⟨v,H1,I1,r,e1,e2⟩:=zq
  subst e1 e2
  obtain⟨t,rfl⟩:=r
  grind
theorem Ql0{pins:List (Addr×Obj)}{s:Shared}{τ:L2.St}{H:Hp}{Q:Value->Shared->Prop}{n:Int}{t:Tok}(I:Inv X pins τ H s)(hn:n.natAbs<10^100)(q:∀(y:Str) (t:Tok) (s1:Shared),y.length<=20000->Inv X pins τ H s1->Q (.str y t) s1) :
  wpAny (model X.prog X.w) X.A (formatField (.int n t) Str.empty) Q X.xe s:=by
 exact wpAny_formatField_int (log2_ofN hn) (q _ _ _ (zf (Qqh hn) ZzD) (I.tok _))
where
 log2_ofN {n:Nat} (h:n<10^100):n.log2<1920:=by
  by_cases h0:n=0
  ·subst h0;decide
  ·exact(Nat.log2_lt h0).mpr (zzk h (Nat.le_add_left ..))
theorem Qjk{pins:List (Addr×Obj)}{s:Shared}{τ:L2.St}{H:Hp}{Q:Value->Shared->Prop}{z:Str}{t:Tok}(I:Inv X pins τ H s)(hn:z.length<=20000)(q:∀(y:Str) (t:Tok) (s1:Shared),y.length<=20000->Inv X pins τ H s1->Q (.str y t) s1) :
  wpAny (model X.prog X.w) X.A (formatField (.str z t) Str.empty) Q X.xe s :=
 wpAny_formatField_str (q _ _ _ hn I) (q _ _ _ hn (I.tok _)) (zf hn ZzD)
theorem pf_con(hg:Gl X x)(hm:X.mg x=some (.int n t))(hd:(x==("__debug__"))=false)(hn:n.natAbs<10^100):PF X (.FormattedValue (.Name x p) (-1) none pos) .con:=λpins s τ H Q I _ q =>
 wpAny_FormattedValue_plain (Qc0 I hg hm (Ql0 I hn q) hd)
theorem pf_var(hN:X.N[i]?=some x)(hv:Vis X.env.scope x)(hd:(x==("__debug__"))=false)(hcd:(x==("__classdict__":Str))=false):PF X (.FormattedValue (.Name x p) (-1) none pos) (.var i):=λpins s τ H Q I hf q=>by refine wpAny_FormattedValue_plain ?_;rcases hf with⟨n,e,hn⟩|⟨z,e,hz⟩;refine thn (Qcq hN hv hd hcd pins s τ H (λv H'=>v=.int n/\H'=H) I ⟨_,e,rfl,rfl⟩) λu s1 zq=>?_;obtain⟨v,H1,I1,r,e1,e2⟩:=zq;subst e1 e2;obtain⟨t,rfl⟩:=r;exact Ql0 I1 hn q;refine thn (Qcq hN hv hd hcd pins s τ H (λv H'=>v=.str z/\H'=H) I ⟨_,e,rfl,rfl⟩) λu s1 zq=>?_;obtain⟨v,H1,I1,r,e1,e2⟩:=zq;subst e1 e2;obtain⟨t,rfl⟩:=r;exact Qjk I1 (zf ‹_› ZzD) q
theorem pf_rep(hN:X.N[i]?=some x)(hv:Vis X.env.scope x)(hd:(x==("__debug__"))=false)(hcd:(x==("__classdict__"))=false):PF X (.FormattedValue (.Name x p) 114 none pos) (.rep i):=λpins s τ H Q I hf q=>by refine wpAny_FormattedValue_repr ?_;obtain⟨z,e,hz,hc⟩:=hf;refine thn (Qcq hN hv hd hcd pins s τ H (λv H'=>v=.str z/\H'=H) I ⟨_,e,rfl,rfl⟩) λu s1 zq=>?_;obtain⟨v,H1,I1,r,e1,e2⟩:=zq;subst e1 e2;obtain⟨t,rfl⟩:=r;have hl:=StrLaws.reprText_len z hc;exact wpAny_pyReprObj_str (Qjk (I1.tok _) ZzL q) (zf (show _<=20000 by lia) ZzD)
inductive PFs (X:Cx):List Expr->List Fp->Prop where
 |nil:PFs X [] []
 |cons {e:Expr}{p:Fp}{es:List Expr}{ps:List Fp}:PF X e p->PFs X es ps->PFs X (e::es) (p::ps)
theorem QlQ{pins:List (Addr×Obj)}{τ:L2.St}{H:Hp}{Q:Str->Shared->Prop}{es:List Expr}{ps:List Fp}(f:PFs X es ps)(q:∀(y:Str) (s1:Shared),y.length<=1000000->Inv X pins τ H s1->Q y s1):∀(acc:Str) (s:Shared),Inv X pins τ H s->(∀p∈ps,fpV τ p)->acc.length+20000*es.length<=1000000 ->
  Joins (model X.prog X.w) X.A X.xe (evalEach es X.env) acc Q s:=by
 induction f with
 |nil =>
  intro acc s I hp hl
  show Joins _ _ _ [] acc Q s
  unfold Joins
  simp_all
 | @cons e p es ps h1 h2 ih =>
  intro acc s I hp hl
  rw[z0]at hl
  refine h1 pins s τ H _ I (hp p zN) λy t s1 hy I1=>⟨y,t,rfl,?_,ih (acc++y) s1 I1 (λp' hp'=>hp p' (zB _ hp')) ?_⟩
  ·rw[Str.length_append,Zj];lia
  ·rw[Str.length_append];lia
def tFp(ps:List Fp):TE:=λτ H Q=>(∀p∈ps,fpV τ p)/\∀y:Str,Q (.str y) H
theorem QmC(f:PFs X (e1::e2::es) ps)(hl:(e1::e2::es).length<=20):PE X (.JoinedStr (e1::e2::es) pos) (tFp ps):=λpins s τ H Q I zq=>by
 obtain⟨hp,q⟩:=zq
 refine wpAny_JoinedStr (QlQ    f (λy s1 hy I1=>⟨by rw[Zj];exact zf ‹_› ZzD,.str y,H,I1.tok _,⟨_,rfl⟩,q y⟩) Str.empty s I hp ?_)
 show 0+_<=_
 lia
theorem Qqq:PE X (.Constant (.str z) j pos) (tFp []):=pe_str.sub λτ H Q zq=>by obtain⟨_,q⟩:=zq;exact q z
theorem QkY(hc:X.calm=true)(hg:Gl X x)(hm:X.mg x=some (.ref (cl c)))(hd:(x==("__debug__":Str))=false)(O:Eo X.base (cl c) bm)(hX:XM cl X EX)(ha:PE X a (tFp ps))(hs:Qam a=true) :
  PS X (.Raise (some (.Call (.Name x np) [a] [] cpos)) none pos) (tIS X.K EX (exS cf fw (.raise c ps))):=by
 intro pins s τ H D I zq6
 obtain⟨ρ,σ,h,re,hr,q⟩:=zq6
 rw[exS]at q
 split at q
 ·rename_i hp
  have qx:EX c h ρ H:=q ρ H .refl hr
  obtain⟨N,nm,qn,bs,a1,sn,sub,ab,col,dd,k0,k1,k2,k3,k5,mN,e1,e2,e3,e4⟩:=O.obj
  have st :=Qaj hs [] X.env
  refine wpAny_Raise_call_subT (C:=cl c) (nm:=nm) (q:=qn) (N:=N) (bs:=bs) (bm:=bm) (hdct:=a1) (sn:=sn) (sub:=sub) (ab:=ab) (col:=col) (dd:=dd) (k0:=k0) (k1:=k1) (k2:=k2) (k3:=k3) (k5:=k5) F.excBase_ValueError (mN:=mN) O.top (I.ok.hd hc) (by rw[st];rfl) e3 (Qc0 I hg hm ⟨rfl,?_⟩ hd)
  have pa:=Qay ha pa_nil (Qaj hs [] X.env) cpos pins s τ H (λvs H'=>H'=H/\vs.length=1) I ⟨λp hp'=>fpW_V re (Z5.mp hp p hp'),λy=>⟨rfl,rfl⟩⟩
  rw[st]at pa ⊢
  refine Calls.evalArgs_plain (ZA pa (λus s2 ⟨vs,H2,I2,r,e,el⟩=>?_) λ_ _ y=>y)
  subst e
  refine⟨rfl,?_,I2.bk _ _ e1,e2.keeps I2.bk,e4.keeps I2.bk,λh' ea mk=>?_⟩
  ·show us.length<=sizeLine
   rw[<- r.length,el,Zj];decide
  ·exact hX pins τ H2 s2 h' ea c h ρ us I2 mk hr qx
 ·exact q.elim
end
noncomputable abbrev Cx.hnd(X:Cx)(v:Value)(E:Value->Shared->Prop):Cx:={ X with A:=X.A.mark (some v),calm:=false,xe:=E }
noncomputable abbrev Cx.aim(X:Cx)(pn:List (Addr×Obj))(E:Value->Shared->Prop):Cx:={ X with pn:=pn,xe:=E }
section
variable {X:Cx}{EX:EXT}{cf:CF}{fw:Nat}{pos:Pos}{pins:List (Addr×Obj)}{σ:L2.St}{H:Hp}{s:Shared}{cl:Nat->Addr}
theorem Qfc{E:Value->Shared->Prop}(I:Inv X pins σ H s):Inv (Cx.hnd X v E) pins σ H s :=
 have ok:=I.ok
 ⟨⟨ok.mod,ok.kind,ok.glob,ok.blt,ok.above,ok.inj,ok.has,ok.cab,λz=>(by cases z),ok.frames,ok.stk,ok.exf,ok.bs,ok.bsz,ok.noex,ok.exfs,ok.funs,ok.frf⟩,I.os,I.bare,I.base,I.loc,I.cell,I.free,I.freeC,I.pin,I.hok,I.len⟩
theorem Qb9{E:Value->Shared->Prop}(ok:X.Ok)(I:Inv (Cx.hnd X v E) pins σ H s):Inv X pins σ H s:=⟨ok,I.os,I.bare,I.base,I.loc,I.cell,I.free,I.freeC,I.pin,I.hok,I.len⟩
theorem QlU{E:Value->Shared->Prop}(ok:X.Ok)(h:SP (Cx.hnd X v E) pins D f s):SP X pins D f s:=by
 cases f with
 |next=>obtain⟨σ',H',I,q⟩:=h;exact⟨σ',H',Qb9 ok I,q⟩
 |brk=>obtain⟨σ',H',I,q⟩:=h;exact⟨σ',H',Qb9 ok I,q⟩
 |cont=>obtain⟨σ',H',I,q⟩:=h;exact⟨σ',H',Qb9 ok I,q⟩
 |ret u=>obtain⟨v,σ',H',I,r,q⟩:=h;exact⟨v,σ',H',Qb9 ok I,r,q⟩
theorem QgM{E:Value->Shared->Prop}(I:Inv X pins σ H s):Inv (Cx.aim X (X.pn++pins) E) [] σ H s :=
 have ok:=I.ok
 ⟨⟨ok.mod,ok.kind,ok.glob,ok.blt,ok.above,ok.inj,ok.has,ok.cab,ok.hd,ok.frames,ok.stk,ok.exf,ok.bs,ok.bsz,ok.noex,ok.exfs,ok.funs,ok.frf⟩,I.os,I.bare,I.base,I.loc,I.cell,I.free,I.freeC,λp hp=>I.pin p (by simp_all),I.hok,I.len⟩
theorem QaG{E:Value->Shared->Prop}{pins':List (Addr×Obj)}(I:Inv (Cx.aim X (X.pn++pins) E) pins' σ H s):Inv X pins σ H s :=
 have ok:=I.ok
 ⟨⟨ok.mod,ok.kind,ok.glob,ok.blt,ok.above,ok.inj,ok.has,ok.cab,ok.hd,ok.frames,ok.stk,ok.exf,ok.bs,ok.bsz,ok.noex,ok.exfs,ok.funs,ok.frf⟩,I.os,I.bare,I.base,I.loc,I.cell,I.free,I.freeC,λp hp=>I.pin p (Ze _ hp),I.hok,I.len⟩
noncomputable def hdFl(c:Nat)(σ:Qai):Hd->Fl
 |.ret w=>.ret w
 |.asg i w=>.nx ((σ.map λ_=>none).set i (some w))
def tHd(K:Fg0)(hd:Hd):TS:=λD τ H=>∃c ρ h σ,(∀σ':Qai,σ'.length=σ.length->(∀(i:Nat) (w:W),¬ σ'[i]?=some (some w))->RelE K ρ H σ' τ)/\HRel K ρ h H/\FlQ K D (hdFl c σ hd) h ρ H
structure HdOk (X:Cx) (cl:Nat->Addr) (hb:ExceptHandler) (d:Nat) (hd:Hd):Prop where
 ex:∃x np st p,hb=.ExceptHandler (some (.Name x np)) none [st] p/\Gl X x/\X.mg x=some (.ref (cl d))/\(x==("__debug__":Str))=false/\∀v E,PS (Cx.hnd X v E) st (tHd X.K hd)
inductive HdsOk (X:Cx) (cl:Nat->Addr):List ExceptHandler->List (Nat×Hd)->Prop where
 |nil:HdsOk X cl [] []
 |cons {hb:ExceptHandler}{d:Nat}{hd:Hd}{hs:List ExceptHandler}{hs':List (Nat×Hd)}:HdOk X cl hb d hd->HdsOk X cl hs hs'->HdsOk X cl (hb::hs) ((d,hd)::hs')
def ClsOk(X:Cx)(cl:Nat->Addr)(ids:List Nat):Prop:=∀c∈ids,∃bm,Eo X.base (cl c) bm/\∀d∈ids,(Value.ref (cl c)::bm).contains (.ref (cl d))=decide (c=d)
theorem Qjj{st:Stmt}(h:PS Y st t)(m:∀D τ H,t D τ H->t { D with nx:=λσ' H'=>D.nx σ' H' } τ H):PSs Y [st] t:=(Qbw h pss_nil).sub λD τ H q=>m D τ H q
theorem XAt.again{l:List Env}{ha h h':Heap}{e:Addr}{C:Value}{B:Heap}{a0:Value}(x:XAt l ha h e C)(f:B.FlyingW l e C a0 h)(k:∀b o,ha.get? b=some o->b∉frs l->B.get? b=some o)(f':B.FlyingW l e C a0 h')(up:h.UpToSlots h'):XAt l ha h' e C :=
 ⟨x.no,⟨B,a0,f',k⟩,λb o hb m=>by
  obtain⟨sl1,z1⟩:=x.fly.2 b o hb m
  obtain⟨sl2,z2⟩:=Qhz  up f.2.2.1 m z1
  grind⟩
theorem Qkc{ea:Addr}{c:Nat}{ids:List Nat}(HH:HdsOk X cl hs hs')(CT:ClsOk X cl ids)(hc:c∈ids):(∀p∈hs',p.1∈ids)->∀σ0 fl s h ρ,
  XS X pins σ H s ea (.ref (cl c))->σ0.length=X.N.length->hdl hs' (λc d=>decide (c=d)) c σ0=some fl->FlQ X.K D fl h ρ H->HRel X.K ρ h H->wpAny (model X.prog X.w) X.A (handleBy (.ref ea) X.env hs) (SP X pins D) X.xe s:=by
 induction HH with
 |nil=>intro _ σ0 fl s h ρ x hl e q hr;cases e
 | @cons hb d hd hs hs' h1 h2 ih =>
  intro hi σ0 fl s h ρ x hl e q hr
  obtain⟨x1,np,st,p,rfl,hg,hm,hdb,hst⟩:=h1.ex
  obtain⟨bm,O,hsub⟩:=CT c hc
  obtain⟨bd,Od,_⟩:=CT d (hi (d,hd) zN)
  have I:=x.inv
  obtain⟨oe,eo,ec⟩:=x.cls
  refine wpAny_handleBy_cons (codeAny_handlers_test ?_) (by intro z;cases z)
  refine Qc0 (X:=Cx.hnd X (.ref ea) X.xe) (Qfc I) hg hm ?_ hdb
  refine Qgr (O.keeps I.bk) (Od.keeps I.bk) eo ec ?_
  rw[hsub d (hi (d,hd) zN)]
  by_cases hcd:c=d
  ·rw[zX hcd,zF rfl]
   unfold hdl at e
   rw[zF (zX hcd)]at e
   obtain⟨sa,Ia,os,bare,xa⟩:=id x
   obtain⟨⟨B,a0,f,k⟩,sl⟩:=id xa.fly
   refine codeAny_handlers_suite (lands_againW f λh' f' up=>?_)
   have x2:XS X pins σ H { s with heap:=h' } ea (.ref (cl c)):=⟨sa,Ia,os,bare,xa.again f k f' up⟩
   have e':fl=hdFl c σ0 hd:=by have:=zW e;rw[<- this];cases hd<;>rfl
   refine ZA (Qjj (hst (.ref ea) _) (λD τ H q=>q) pins { s with heap:=h' } σ H D (Qfc x2.inv) ⟨c,ρ,h,σ0,λσ' h1 h2=>⟨by rw[h1,hl];exact x2.inv.len.symm,λi w z=>absurd z (h2 i w)⟩,hr,by rw[<- e'];exact q⟩) (λf s2 z=>?_) (λ_ _ y=>y)
   exact QlU I.ok z
  ·rw[zV hcd,zM ZzD]
   unfold hdl at e
   rw[zM (by rw[zV hcd];decide)]at e
   exact ih (λp hp=>hi p (zB _ hp)) σ0 fl s h ρ x hl e q hr
theorem QkK:∀{hs':List (Nat×Hd)},hdl hs' (λc d=>decide (c=d)) c σ0=some fl->c∈hs'.map (·.1)
 |[],e=>by cases e
 |(d,hd)::hs',e=>by
  unfold hdl at e
  split at e
  ·grind
  ·exact zB _ (QkK e)
theorem s_tryR{e:Expr}{e':E}{h0:ExceptHandler}{hs:List ExceptHandler}{hs':List (Nat×Hd)}{p1:Pos}(stk:X.stack=X.env::X.outer/\X.env.frame=some X.env.locals)(HH:HdsOk X cl (h0::hs) hs')(CT:ClsOk X cl (hs'.map (·.1)))
  (he:∀pn xe EY,PassesOwn (model X.prog X.w) X.A X.env xe->XL cl (Cx.aim X pn xe) EY->PE (Cx.aim X pn xe) e (tI X.K EY (evE cf e'))) :
  PS X (.Try [.Return (some e) p1] (h0::hs) [] [] pos) (tIS X.K EX (exS cf fw (.tryR e' hs'))):=by
 intro pins s τ H D I zq6
 obtain⟨ρ,σ,h,re,hr,q⟩:=zq6
 rw[exS]at q
 let xe:Value->Shared->Prop:=λev s1=>wpAny (model X.prog X.w) X.A (noteFrame ev X.env) (λ_ s2=>wpAny (model X.prog X.w) X.A (setFlight ev none) (λ_ s3=>wpAny (model X.prog X.w) X.A (handleBy ev X.env (h0::hs)) (SP X pins D) X.xe s3) X.xe s2) X.xe s1
 let EY:EXT:=λc h1 ρ1 H1=>∃fl,hdl hs' (λc d=>decide (c=d)) c σ=some fl/\FlQ X.K D fl h1 ρ1 H1
 have hlen:σ.length=X.N.length:=by rw[re.len];exact I.len
 have hX:XL cl (Cx.aim X (X.pn++pins) xe) EY:=by
  intro pins' σ' H' s' ea c h1 ρ1 zq8 hr1 zq10;obtain⟨sa,Ia,os,bare,xa⟩:=zq8;obtain⟨fl,e1,e2⟩:=zq10;have x:XS X pins σ' H' s' ea (.ref (cl c)):=⟨sa,QaG Ia,os,bare,xa⟩;obtain⟨⟨B,a0,f,k⟩,sl⟩:=id xa.fly;have fr:X.A.frames=some (X.env::X.outer):=by rw[<- stk.1];exact I.ok.frames
  have fS:B.FlyingW (X.env::X.outer) ea (.ref (cl c)) a0 s'.heap:=by rw[<- stk.1];exact f
  refine wpAny_looks_onW fr stk.2 fS λh2 f2 up2=>?_;refine wpAny_landsW f2 λh3 f3 up3=>?_;have f3':B.FlyingW X.stack ea (.ref (cl c)) a0 h3:=by rw[stk.1];exact f3
  have x3:XS X pins σ' H' { s' with heap:=h3 } ea (.ref (cl c)):=⟨sa,QaG Ia,os,bare,xa.again f k f3' (up2.trans up3)⟩;exact Qkc HH CT (QkK e1) (λp hp=>Zx.mpr ⟨p,hp,rfl⟩) σ fl _ h1 ρ1 x3 hlen e1 e2 hr1
 have hE:=he (X.pn++pins) xe EY PassesOwn.looking hX
 refine wpAny_Try_except ?_
 have b:=Qjj (QjR hE (pos:=p1)) (λD τ H q=>q) [] s τ H { nx:=λ_ _=>False,rt:=D.rt } (QgM I) ⟨ρ,σ,h,re,hr,?_⟩
 ·refine ZA b (λf s1 z=>?_) λ_ _ y=>y
  cases f with
  |next=>obtain⟨_,_,_,z⟩:=z;exact z.elim
  |brk=>obtain⟨_,_,_,z⟩:=z;exact z.elim
  |cont=>obtain⟨_,_,_,z⟩:=z;exact z.elim
  |ret u=>obtain⟨v,σ',H',I',r,z⟩:=z;exact⟨v,σ',H',QaG I',r,z⟩
 ·show RQ X.K EY ρ H (evE cf e' σ h) _
  cases ee:evE cf e' σ h with
  |stuck=>rw[ee]at q;exact q.elim
  |ok w h1 =>
   rw[ee]at q
   exact λρ1 H1 x1 hr1 v r=>q ρ1 H1 x1 hr1 v r
  |exc c h1 =>
   rw[ee]at q
   dsimp only at q
   split at q
   ·rename_i fl e1
    exact λρ1 H1 x1 hr1=>⟨fl,e1,q ρ1 H1 x1 hr1⟩
   ·exact q.elim
end
theorem chk_ga{M:Model}{A:Around}{E:Value->Shared->Prop}{s:Shared}{e C:Addr}{oe:Obj}{bm:List Value}{n:Value}{Q:Unit->Shared->Prop}(hC:Eo s.heap C bm)(he:s.heap.get? e=some oe)(hc:oe.cls=.ref C)(q:Q () s) :
  wpAny M A (checkBuiltinCall "BaseException.__getattribute__" ⟨[.ref e,n],[]⟩) Q E s:=by
 have hB:(Value.ref C::bm).contains (.type "BaseException")=true:=by rw[List.contains_cons,hC.top,Bool.or_true]
 obtain⟨N,nm,qn,bs,hdct,sn,sub,ab,col,dd,k0,k1,k2,k3,k5,mN,oC,_⟩:=hC.obj
 obtain⟨hh,g,d,t,os⟩:=s
 have ok:=F.args_bexc_ga (.ref e) n
 unfold argsOk at ok
 unfold checkBuiltinCall
 rw[show builtinKind "BaseException.__getattribute__"=some .slot from by decide +kernel,show splitId "BaseException.__getattribute__"=some ("BaseException","__getattribute__") from rfl]
 dsimp only
 repeat (first
  |(with_reducible refine Zs he ?_;rw[hc])
  |(with_reducible refine Z1 oC ?_;rw[hB])
  |wp_step)
 exact q
theorem QpI{prog:Program}{w:World}{A:Around}{s:Shared}{e C:Addr}{oe:Obj}{bm:List Value}{R:Result->Shared->Prop}(hC:Eo s.heap C bm)(hO:(Value.ref C::bm).contains (.type "object")=true)(he:s.heap.get? e=some oe)(hc:oe.cls=.ref C)(q:R (.ok (.ret (.ref C))) s) :
  codeAny (model prog w) A (.call (.builtin "getset_descriptor.__get__") ⟨[.builtin "object.__class__",.ref e,.ref C],[]⟩) R s:=by
 obtain⟨N,nm,qn,bs,hdct,sn,sub,ab,col,dd,k0,k1,k2,k3,k5,mN,oC,_⟩:=hC.obj
 obtain⟨hh,g,d,t,os⟩:=s
 refine zzl F.slot_gs_get.plain F.entry_gs_get (F.slot_gs_get.check _ _ _ _ _ _ _ _ F.typeOf_object_class (F.args_gs_get _ _ _) ?_)
 unfold Builtin.«getset_descriptor.__get__» Builtin.Getset_descriptor.descrGet
 repeat (first
  |(with_reducible refine Zs he ?_;rw[hc])
  |wp_step)
 rw[F.owner_object_class]
 refine Z1 oC ?_
 rw[hO]
 repeat wp_step
 refine⟨zz0 _ (by decide +kernel),zzg F.entry_object_class ?_⟩
 unfold Builtin.«object.__class__» shownTypeOf
 repeat (first
  |(with_reducible refine Zs he ?_;rw[hc])
  |wp_step)
 exact q
theorem Qkq{K:Fg0}{prog:Program}{w:World}{A:Around}{E:Value->Shared->Prop}{s:Shared}{e C:Addr}{oe:Obj}{bm:List Value}{tk:Tok}{Q:PySem.Fin->Shared->Prop}(X:K.In s.heap)(hC:Eo s.heap C bm)(hO:(Value.ref C::bm).contains (.type "object")=true)(he:s.heap.get? e=some oe)(hc:oe.cls=.ref C)
  (g3:PySem.W.findIn K (.ref C) "__class__"=some (some (.builtin "object.__class__"))) (q:Q (.done (.ret (.ref C))) s) :
  wpAny (model prog w) A (Builtin.«object.__getattribute__» ⟨[.ref e,.str "__class__" tk],[]⟩) Q E s:=by
 have l3:∀M,W.Looks M s.heap (typeLookup (.ref C) "__class__") _:=λM=>W.looks_findIn X g3
 obtain⟨hh,g,d,t,os⟩:=s
 have G:=@QpI prog w A ⟨hh,g,d,t,os⟩ e C oe bm
 unfold Builtin.«object.__getattribute__» Builtin.ObjectAttr.find
 repeat (first
  |(with_reducible refine Zs he ?_;rw[hc])
  |wp_step)
 refine l3 _ _ _ _ _ (λ_ _ z=>z) ?_
 unfold Builtin.ObjectAttr.getOf Builtin.ObjectAttr.dataDescriptor? Builtin.ObjectAttr.takesStores
 repeat (first
  |with_reducible refine wpAny_specialOf_val F.typeOf_object_class F.slot_gs_get.lookup ?_
  |with_reducible refine wpAny_specialOf_val F.typeOf_object_class F.slot_gs_set.lookup ?_
  |wp_step)
 refine G hC hO he hc ?_
 dsimp only
 repeat wp_step
 exact q
theorem Qqm{K:Fg0}{E:Value->Shared->Prop}(X:K.In s.heap)(hC:Eo s.heap C bm)(hO:(Value.ref C::bm).contains (.type "object")=true)(he:s.heap.get? e=some oe)(hc:oe.cls=.ref C)
  (g1:PySem.W.findIn K (.ref C) "__getattribute__"=some (some (.builtin "BaseException.__getattribute__"))) (g2:PySem.W.findIn K (.ref C) "__getattr__"=some none) (g3:PySem.W.findIn K (.ref C) "__class__"=some (some (.builtin "object.__class__")))
  (q:Q (some (.ref C)) { s with toks:=s.toks+1 }):wpAny (model prog w) A (getAttr? (.ref e) "__class__") Q E s:=by
 have l1:∀M,W.Looks M s.heap (typeLookup (.ref C) "__getattribute__") _:=λM=>W.looks_findIn X g1
 have l2:∀M,W.Looks M s.heap (typeLookup (.ref C) "__getattr__") _:=λM=>W.looks_findIn X g2
 obtain⟨hh,g,d,t,os⟩:=s
 dsimp only at *
 unfold getAttr? getAttrBy? getAttrBy
 repeat (first
  |(with_reducible refine Zs he ?_;rw[hc])
  |wp_step)
 refine l1 _ _ _ _ _ (λ_ _ z=>z) ?_
 dsimp only
 rw[zM (by rw[zE];rintro ⟨_,z⟩;exact absurd z ZzD)]
 unfold getAttrByItsOwn hookBefore
 rw[zF (show onTheHeap (.ref C)=true from rfl)]
 wp_step
 refine l2 _ _ _ _ _ (λ_ _ z=>z) ?_
 unfold callGetattribute
 rw[zM ZzD]
 unfold boundAndCalled
 rw[F.attrBase_ValueError.ga.bind]
 repeat wp_step
 refine zzl F.attrBase_ValueError.ga.plain F.entry_bexc_ga (chk_ga (s:=⟨hh,g,d,t+1,os⟩) hC he hc ?_)
 refine Qkq (K:=K) (s:=⟨hh,g,d,t+1,os⟩) X hC hO he hc g3 ?_
 dsimp only
 unfold handedOut
 repeat wp_step
 exact q
theorem Qqp {K:Fg0} {E:Value→Shared→Prop} (X:K.In s.heap) (hC:Eo s.heap C bm) (hD:Eo s.heap D bd) (hO:(Value.ref C::bm).contains (.type "object")=true) (he:s.heap.get? e=some oe) (hc:oe.cls=.ref C)
    (g1:PySem.W.findIn K (.ref C) "__getattribute__"=some (some (.builtin "BaseException.__getattribute__"))) (g2:PySem.W.findIn K (.ref C) "__getattr__"=some none) (g3:PySem.W.findIn K (.ref C) "__class__"=some (some (.builtin "object.__class__")))
    (q:∀ tk,Q (.bool ((Value.ref C::bm).contains (.ref D))) { s with toks:=tk }):wpAny (model prog w) A (call (.builtin "isinstance") [.ref e,.ref D]) Q E s:=by
  obtain ⟨N,nm,qn,bs,hdct,sn,sub,ab,col,dd,k0,k1,k2,k3,k5,mN,oC,_⟩:=hC.obj
  obtain ⟨N',nm',qn',bs',hdct',sn',sub',ab',col',dd',k0',k1',k2',k3',k5',mN',oD,_⟩:=hD.obj
  obtain ⟨hh,g,d,t,os⟩:=s
  refine call_isinstance_of ?_
  by_cases hcd:C=D
  · subst hcd
    rw [show (Value.ref C::bm).contains (.ref C)=true by simp] at q
    unfold Builtin.«isinstance.nested»
    repeat (first
      | (with_reducible refine Zs he ?_;rw [hc])
      | wp_step)
    exact q t
  · have ne:(Value.ref C == Value.ref D)=false:=by rw [ZZ];intro z;cases z;exact hcd rfl
    unfold Builtin.«isinstance.nested»
    repeat (first
      | (with_reducible refine Zs he ?_;rw [hc])
      | with_reducible refine Zs oD ?_
      | wp_step)
    refine Z1 oC ?_
    cases z:(Value.ref C::bm).contains (.ref D) with
    | true => rw [z] at q; repeat wp_step
              exact q t
    | false =>
      rw [z] at q
      repeat (first
        | with_reducible refine Qqm X hC hO he hc g1 g2 g3 ?_
        | with_reducible refine Zs oC ?_
        | (with_reducible refine Z1 oC ?_;rw [z])
        | wp_step)
      exact q _
theorem Qg3(x:ObjOk P w H h a o):∃ob,h.get? a=some ob:=by
 cases o with
 |lst xs=>obtain⟨_,_,_,_,e⟩:=x;exact⟨_,e⟩
 |tup xs=>obtain⟨_,_,_,ob,e,_⟩:=x;exact⟨_,e⟩
 |dK kvs=>obtain⟨_,_,_,_,o,_,_,e,_⟩:=x;exact⟨_,e⟩
 |dT kvs=>obtain⟨_,_,_,_,o,_,_,e,_⟩:=x;exact⟨_,e⟩
 |set S n=>obtain⟨o,_,_,_,e,_⟩:=x;exact⟨_,e⟩
 |ins C dx fs=>obtain⟨_,_,_,e,_⟩:=x;exact⟨_,e⟩
 |own y=>exact x
 |xd fs=>obtain⟨_,⟨_,_,_,e,_⟩,_⟩:=x;exact⟨_,e⟩
 |rng lo hi=>obtain⟨_,_,_,e⟩:=x;exact⟨_,e⟩
 |frz ob u=>obtain⟨e,_⟩:=x;exact⟨_,e⟩
 |tbl ps=>exact⟨_,(x)⟩
 |met f y=>exact⟨_,(x)⟩
 |ext φ=>obtain⟨_,e,_⟩:=x;exact e
theorem QlH(x:HOk P w H h)(e:h.get? a=none):H a=none:=by
 cases q:H a with
 |none=>rfl
 |some u=>obtain⟨ob,z⟩:=Qg3 (x a u q);simp_all
section
variable {X:Cx}{pins:List (Addr×Obj)}{σ:L2.St}{H:Hp}{s:Shared}{e:Addr}{C:Value}
theorem XS.pin(x:XS X pins σ H s e C):∃oe,oe.cls=C/\Inv X ((e,oe)::pins) σ H s:=by have I:=x.inv;obtain⟨sa,Ia,os,bare,xa⟩:=x;obtain⟨⟨B,a0,f,k⟩,sl⟩:=xa.fly;obtain⟨_,_,_,oe,vs,T,oT,ts,he,⟨hc,_⟩,hd,_⟩:=f;have no:=xa.no;refine⟨oe,hc,I.pins_of λp hp=>?_⟩;rcases zS.mp hp with rfl|hp;refine⟨he,QlH Ia.hok no,λz=>?_,λz=>?_,λv z=>by rw[hd]at z;cases z⟩;obtain⟨m,hn,_⟩:=Ia.loc;obtain⟨oL,_,_,hoL,_⟩:=id hn;simp_all;obtain⟨_,o,ho,_⟩:=Ia.ok.funs.mem z;obtain⟨o',ho'⟩:=Ia.base.there _ o ho (λy=>Ia.ok.exfs _ y z);simp_all;exact I.pin p (Zb _ hp)
theorem Qjz{E:Value->Shared->Prop}(I:Inv X pins σ H s)(hN:X.N.Nodup)(hi:X.N[i]?=some x)(hk:X.env.scope.names.lookup x=some .local)(hv:σ[i]?=some (some v))
  (h:∀s',Inv X pins (σ.set i none) H s'->Q () s'):wpAny M A (unbindBehindTheSuite X.env x pos) Q E s:=by
 obtain⟨m,hn,hl⟩:=id I.loc
 have hcls:(X.env.scope.kind==.class||(X.env.scope.kind==.module&&X.env.locals != X.env.globals))=false:=by rw[I.ok.kind];rfl
 obtain⟨u,ru,lu⟩:=hl i x v hi hv (.inl hk)
 have hm:m x=some u:=by rcases lu with⟨_,z⟩|⟨z,_⟩;exact z;have hk':X.env.kindOf x=some .local:=hk;rw[hk']at z;rcases z with z|z<;>cases z
 have cne:=I.cne
 unfold unbindBehindTheSuite
 refine wpAny_onRaise (wpAny_unbindName_local hk hn hm hcls λh' u' hn' hs=>?_)
 obtain⟨oL,_,_,hoL,_⟩:=id hn
 refine h _ ⟨I.ok,I.os,I.bare,⟨λb o e n hb hx=>?_,λb o e n hb hx=>?_,I.base.free,λb o e hx=>?_,I.base.tups,I.base.frzs,I.base.tbls⟩,⟨_,hn',λj y v' e1 e2 e3=>?_⟩,λy c e=>?_,I.free,I.freeC,λp hp=>?_,λb ob e=>?_,by simpa using I.len⟩
 ·exact(hs.2 b (zU (zj (zL e) I.ok.above))).trans (I.base.keep b o e n hb hx)
 ·obtain⟨sl,e1⟩:=I.base.slot b o e n hb hx
  exact⟨sl,(hs.2 b (zU (zj (zL e) I.ok.above))).trans e1⟩
 ·obtain⟨o',e1⟩:=I.base.there b o e hx
  exact⟨o',(hs.2 b (zU (zj (zL e) I.ok.above))).trans e1⟩
 ·by_cases hj:j=i
  ·subst hj
   rw[zZ (ze.mp hv).1]at e2
   cases e2
  ·rw[zY (zzi hj)]at e2
   obtain⟨u2,r',q⟩:=hl j y v' e1 e2 e3
   refine⟨u2,r',?_⟩
   rcases q with⟨k,e⟩|⟨k,c,e,z⟩
   ·refine .inl ⟨k,?_⟩
    have:y≠x:=λe=>hj (QdC hN e1 (e▸hi))
    simp[this,e]
   ·exact .inr ⟨k,c,e,z.sameBut hs (cne y c e)⟩
 ·obtain⟨w',z⟩:=I.cell y c e
  exact⟨w',z.sameBut hs (cne y c e)⟩
 ·obtain⟨e,n,ne,nf,d⟩:=I.pin p hp
  exact⟨(hs.2 p.1 ne).trans e,n,ne,nf,d⟩
 ·refine(I.hok b ob e).stay (λc w' hc q=>(hs.2 c ?_).trans q) (λ_ q=>q) λ_ _ q=>q
  have hf:=I.free
  rintro rfl
  rcases hc with rfl|hc
  ·rw[hf]at e;cases e
  ·rw[hf]at hc;cases hc
end
def tIs(ie:Nat)(ea:Addr)(b:Bool):TE:=λτ H Q=>τ[ie]?=some (some (.ref ea))/\Q (.bl b) H
def tIsA(ie:Nat)(ea:Addr)(bs:List Bool):TA:=λτ H Q=>τ[ie]?=some (some (.ref ea))/\Q (bs.map V.bl) H
structure ClsK (K:Fg0) (C:Addr) (bm:List Value):Prop where
 ob:(Value.ref C::bm).contains (.type "object")=true
 g1:PySem.W.findIn K (.ref C) "__getattribute__"=some (some (.builtin "BaseException.__getattribute__"))
 g2:PySem.W.findIn K (.ref C) "__getattr__"=some none
 g3:PySem.W.findIn K (.ref C) "__class__"=some (some (.builtin "object.__class__"))
section
variable {X:Cx}{ie iF:Nat}{ea C D:Addr}{oe:Obj}{bm bd:List Value}{en dn fn:Str}{pos:Pos}
theorem pe_is{p1 p2 p3:Pos}(hp:(ea,oe)∈X.pn)(hc:oe.cls=.ref C)(O:Eo X.base C bm)(OK:ClsK X.K C bm)(OD:Eo X.base D bd)(hg:Gl X "isinstance")(hm:X.mg "isinstance"=none)
  (hN:X.N[ie]?=some en) (hv:Vis X.env.scope en) (hd:(en==("__debug__":Str))=false) (hcd:(en==("__classdict__":Str))=false) (hgd:Gl X dn) (hmd:X.mg dn=some (.ref D)) (hdd:(dn==("__debug__":Str))=false) :
  PE X (.Call (.Name "isinstance" p1) [.Name en p2,.Name dn p3] [] pos) (tIs ie ea ((Value.ref C::bm).contains (.ref D))):=by
 have cr:Qba X (.builtin "isinstance") (λxs H Q=>xs=[.ref ea,.ref D]/\Q (.bl ((Value.ref C::bm).contains (.ref D))) H):=by intro pins s σ H xs us Q I r zq9;obtain⟨e,q⟩:=zq9;subst e;obtain⟨u,w',rfl,rx,ry⟩:=QmT r;cases (rx);cases (ry);exact Qqp I.kIn (O.keeps I.bk) (OD.keeps I.bk) OK.ob (I.pin (ea,oe) (Ze _ hp)).1 hc OK.g1 OK.g2 OK.g3 λtk=>⟨.bl _,H,I.tok tk,rfl,q⟩
 refine(Qbk cr hg hm zzC (Qay (Qcq hN hv hd hcd) (Qay (Qlv (v:=.ref D) hgd hmd rfl hdd) pa_nil (by rfl)) (by rfl)) (by decide +kernel) (by decide +kernel) (by rfl) (by rfl)).sub λτ H Q z=>?_
 exact⟨.ref ea,z.1,rfl,z.2⟩
theorem pa_is0:PA X [] (tIsA ie ea []):=pa_nil.sub λτ H Q z=>z.2
theorem pa_is1(h1:PE X e (tIs ie ea b))(h2:PA X es (tIsA ie ea bs))(hs:Qam e=true):PA X (e::es) (tIsA ie ea (b::bs)) :=
 (Qay h1 h2 (Qaj hs _ _)).sub λτ H Q z=>⟨z.1,z.1,z.2⟩
end
theorem Qg5{K:Fg0}(f):∀cs:List Nat,RelL K ρ H (cs.map λk=>W.bl (f k)) (cs.map (V.bl ∘ f))
 |[]=>.nil
 |k::cs=>.cons QaZ (Qg5 f cs)
def FlA(K:Fg0)(ie iF:Nat)(ea:Addr)(ρ:List Addr)(h:Qaa)(bs:List Bool)(τ:L2.St)(H:Hp):Prop:=τ[ie]?=some (some (.ref ea))/\HRel K ρ h H/\∃p,τ[iF]?=some (some (.ref p))/\p∉ρ/\H p=some (.lst (bs.map V.bl))
def tF1(K:Fg0)(ie iF:Nat)(ea:Addr)(bs:List Bool):TS:=λD τ H=>∃ρ h,τ[ie]?=some (some (.ref ea))/\iF<τ.length/\ie≠iF/\HRel K ρ h H/\bs.length<=1000/\∀τ' H',τ'.length=τ.length->FlA K ie iF ea ρ h bs τ' H'->Ext ρ H ρ H'->D.nx τ' H'
def tFN(K:Fg0)(ie iF:Nat)(ea:Addr)(bs:List Bool):TS:=λD τ H=>∃ρ h bs0,FlA K ie iF ea ρ h bs0 τ H/\iF<τ.length/\ie≠iF/\bs0.length+bs.length<=1000/\∀τ' H',τ'.length=τ.length->FlA K ie iF ea ρ h (bs0++bs) τ' H'->Ext ρ H ρ H'->D.nx τ' H'
section
variable {X:Cx}{ie iF:Nat}{ea:Addr}{fn:Str}{pos:Pos}{es:List Expr}{bs:List Bool}
theorem s_f1{px p:Pos}(hN:X.N.Nodup)(hi:X.N[iF]?=some fn)(hx:Loc X.env.scope fn)(hf:X.fn fn=true\/X.env.scope.names.lookup fn=some .local)(h:PA X es (tIsA ie ea bs)):PS X (.Assign [.Name fn px] (.List es p) pos) (tF1 X.K ie iF ea bs) :=
 (Qc7 hN hi hx (QhF h) rfl hf).sub λD τ H z=>by obtain⟨ρ,h,z1,z2,z3,hr,hl,q⟩:=z;exact⟨z1,by rw[zo];exact zf hl ZzD,λp hp=>(q _ _ ZzS ⟨by rw[zY (zzi z3)];exact z1,hr.ext_new hp,p,zZ z2,hr.new hp,Qau⟩ (ext_new hr hp))⟩
theorem s_fN{px p1 p2 p3:Pos}(hN:X.N.Nodup)(hi:X.N[iF]?=some fn)(hx:Loc X.env.scope fn)(hf:X.fn fn=true\/X.env.scope.names.lookup fn=some .local)(hv:Vis X.env.scope fn)(hd:(fn==("__debug__":Str))=false)(hcd:(fn==("__classdict__":Str))=false)(h:PA X es (tIsA ie ea bs)) :
  PS X (.Assign [.Name fn px] (.BinOp (.Name fn p1) .Add (.List es p2) p3) pos) (tFN X.K ie iF ea bs) :=
 (Qc7 hN hi hx (QlK Qlz (Qcq hi hv hd hcd) (QhF h)) rfl hf).sub λD τ H z=>by obtain⟨ρ,h,bs0,⟨z1,hr,p0,y1,y2,y3⟩,z2,z3,hl,q⟩:=z;refine⟨.ref p0,y1,z1,by rw[zo];exact zf (Nat.le_add_left _ _) (zf hl (by rw[Zj];decide)),λr hr0=>?_⟩;refine⟨p0,r,bs0.map V.bl,bs.map V.bl,rfl,rfl,(Qas (Qa8 y3 hr0)).trans y3,Qau,by rw[zo,zo];exact zf hl ZzD,λp hp=>?_⟩;have hr1:=hr.ext_new (o:=.lst (bs.map V.bl)) hr0;exact q _ _ ZzS ⟨by rw[zY (zzi z3)];exact z1,hr1.ext_new hp,p,zZ z2,hr1.new hp,by rw[Zc];exact Qau⟩ ((ext_new hr hr0).trans (ext_new hr1 hp))
theorem fs_nil:PSs X [] (tFN X.K ie iF ea []):=pss_nil.sub λD τ H z=>by obtain⟨ρ,h,bs0,f,_,_,_,q⟩:=z;exact q τ H rfl (by simp_all) .refl
theorem Qqt{st:Stmt}(h1:PS X st (tFN X.K ie iF ea bs))(h2:PSs X ss (tFN X.K ie iF ea bs2)):PSs X (st::ss) (tFN X.K ie iF ea (bs++bs2)):=(Qbw h1 h2).sub λD τ H z=>by obtain⟨ρ,h,bs0,f,z2,z3,hl,q⟩:=z;rw[zA]at hl;exact⟨ρ,h,bs0,f,z2,z3,ZzL,λτ' H' e f' x=>⟨ρ,h,bs0++bs,f',by simp_all,z3,by grind,λτ2 H2 e2 f2 x2=>(q τ2 H2 (e2.trans e) (by simp_all) (x.trans x2))⟩⟩
theorem fs_all{st:Stmt}(h1:PS X st (tF1 X.K ie iF ea bs))(h2:PSs X ss (tFN X.K ie iF ea bs2)):PSs X (st::ss) (tF1 X.K ie iF ea (bs++bs2)):=(Qbw h1 h2).sub λD τ H z=>by obtain⟨ρ,h,z1,z2,z3,hr,hl,q⟩:=z;rw[zA]at hl;exact⟨ρ,h,z1,z2,z3,hr,ZzL,λτ' H' e f' x=>⟨ρ,h,bs,f',by simp_all,z3,ZzL,λτ2 H2 e2 f2 x2=>(q τ2 H2 (e2.trans e) f2 (x.trans x2))⟩⟩
end
def ClsX(X:Cx)(cl:Nat->Addr)(all:List Nat)(J:Addr):Prop:=∀c∈all,∃bm,Eo X.base (cl c) bm/\ClsK X.K (cl c) bm/\(Value.ref (cl c)::bm).contains (.ref J)=true/\∀d∈all,(Value.ref (cl c)::bm).contains (.ref (cl d))=decide (c=d)
noncomputable abbrev Cx.asx(X:Cx)(v:Value)(pn:List (Addr×Obj))(E:Value->Shared->Prop):Cx:=Cx.aim (Cx.hnd X v E) pn E
section
variable {X:Cx}{EX:EXT}{cf:CF}{fw:Nat}{pos:Pos}{cl:Nat->Addr}
noncomputable def QnI(fl:Nat->Nat->Bool)(i:Nat)(cs all:List Nat)(sb:Qai->Qaa->Res Fl)(σ:Qai)(h:Qaa):Res Fl:=match sb σ h with
 |.exc c h=>if all.contains c then .ok (.nx ((σ.map λ_=>none).set i (some (.lst (cs.map λk=>.bl (fl c k)))))) h else .stuck
 |r=>r
theorem s_tryG{sb sx:Qai->Qaa->Res Fl}{np hp:Pos}{ie iF:Nat}{J:Addr}(stk:X.stack=X.env::X.outer/\X.env.frame=some X.env.locals)(CT:ClsX X cl all J)(OJ:Eo X.base J bj)
  (hg:Gl X jn) (hm:X.mg jn=some (.ref J)) (hdb:(jn==("__debug__":Str))=false) (hN:X.N.Nodup) (hie:X.N[ie]?=some en) (hle:X.env.scope.names.lookup en=some .local) (hiF:X.N[iF]?=some fn) (hne:ie≠iF) (hlen:cs.length<=1000)
  (hsu:∀v pn E ea oe c,(ea,oe)∈pn->oe.cls=.ref (cl c)->c∈all->PSs (Cx.asx X v pn E) (s1::ss) (tF1 X.K ie iF ea (cs.map (fl c))))
  (hx:∀σ h,sx σ h=.stuck\/sx σ h=QnI fl iF cs all sb σ h)
  (hb:∀pn xe EY,PassesOwn (model X.prog X.w) X.A X.env xe->XL cl (Cx.aim X pn xe) EY->PSs (Cx.aim X pn xe) b (tIS X.K EY sb)) :
  PS X (.Try b [.ExceptHandler (some (.Name jn np)) (some en) (s1::ss) hp] [] [] pos) (tIS X.K EX sx):=by
 intro pins s τ H D I zq6
 obtain⟨ρ,σ,h,re,hr,q⟩:=zq6
 rcases hx σ h with e|e
 ·rw[e]at q;exact q.elim
 rw[e]at q
 let hs:List ExceptHandler:=[.ExceptHandler (some (.Name jn np)) (some en) (s1::ss) hp]
 let xe:Value->Shared->Prop:=λev s1=>wpAny (model X.prog X.w) X.A (noteFrame ev X.env) (λ_ s2=>wpAny (model X.prog X.w) X.A (setFlight ev none) (λ_ s3=>wpAny (model X.prog X.w) X.A (handleBy ev X.env hs) (SP X pins D) X.xe s3) X.xe s2) X.xe s1
 let σF:Nat->Qai:=λc=>(σ.map λ_=>none).set iF (some (.lst (cs.map λk=>.bl (fl c k))))
 let EY:EXT:=λc h1 ρ1 H1=>c∈all/\∀ρ2 H2,Ext ρ1 H1 ρ2 H2->HRel X.K ρ2 h1 H2->FlQ X.K D (.nx (σF c)) h1 ρ2 H2
 have hlenσ:σ.length=X.N.length:=by rw[re.len];exact I.len
 have iFl:iF<X.N.length:=(ze.mp hiF).1
 have iel:ie<X.N.length:=(ze.mp hie).1
 have hX:XL cl (Cx.aim X (X.pn++pins) xe) EY:=by
  intro pins' σ' H' s' ea c h1 ρ1 zq8 hr1 zq10;obtain⟨sa,Ia,os,bare,xa⟩:=zq8;obtain⟨hc,e2⟩:=zq10;obtain⟨⟨B,a0,f,k⟩,sl⟩:=id xa.fly;have fr:X.A.frames=some (X.env::X.outer):=by rw[<- stk.1];exact I.ok.frames
  have fS:B.FlyingW (X.env::X.outer) ea (.ref (cl c)) a0 s'.heap:=by rw[<- stk.1];exact f
  refine wpAny_looks_onW fr stk.2 fS λh2 f2 up2=>?_;refine wpAny_landsW f2 λh3 f3 up3=>?_;have f3':B.FlyingW X.stack ea (.ref (cl c)) a0 h3:=by rw[stk.1];exact f3
  have xa3:=xa.again f k f3' (up2.trans up3);have x3:XS X pins σ' H' { s' with heap:=h3 } ea (.ref (cl c)):=⟨sa,QaG Ia,os,bare,xa3⟩;have I3:=x3.inv;obtain⟨bm,O,OK,hJ,hsub⟩:=CT c hc;obtain⟨oe,eo,ec⟩:=x3.cls;refine wpAny_handleBy_cons (codeAny_handlers_test ?_) (by intro z;cases z);refine Qc0 (X:=Cx.hnd X (.ref ea) X.xe) (Qfc I3) hg hm ?_ hdb;refine Qgr (O.keeps I3.bk) (OJ.keeps I3.bk) eo ec ?_;rw[hJ,zF rfl];refine codeAny_handlers_suite_as (lands_againW f3' λh4 f4 up4=>?_);have x4:XS X pins σ' H' { s' with heap:=h4 } ea (.ref (cl c)):=⟨sa,QaG Ia,os,bare,xa3.again f3' k f4 up4⟩;obtain⟨oe4,ec4,I4⟩:=x4.pin;refine Qcm I4 hN hie (.inl hle) (v:=.ref ea) rfl (λs5 I5=>?_) (.inr hle);refine ZA (hsu (.ref ea) (X.pn++(ea,oe4)::pins) _ ea oe4 c (Zb _ zN) ec4 hc [] s5 _ H' { nx:=λτ' H2=>τ'.length=X.N.length/\∃p,τ'[iF]?=some (some (.ref p))/\p∉ρ1/\H2 p=some (.lst ((cs.map (fl c)).map V.bl))/\Ext ρ1 H' ρ1 H2/\HRel X.K ρ1 h1 H2,rt:=λ_ _=>False } (QgM (X:=Cx.hnd X (.ref ea) _) (Qfc I5)) ?_) (λfl s6 z=>?_) (λ_ _ y=>y);refine⟨ρ1,h1,zZ (by rw[I4.len];exact iel),by rw[List.length_set,I4.len];exact iFl,hne,hr1,by rw[zo];exact hlen,λτ' H2 e3 f x=>?_⟩;obtain⟨_,hr2,p,y1,y2,y3⟩:=f;exact⟨by rw[e3,List.length_set,I4.len],p,y1,y2,y3,x,hr2⟩;cases fl with
  |brk=>obtain⟨_,_,_,z⟩:=z;exact z.elim
  |cont=>obtain⟨_,_,_,z⟩:=z;exact z.elim
  |ret u=>obtain⟨_,_,_,_,_,z⟩:=z;exact z.elim
  |next=>
   obtain⟨τ6,H6,I6,hl6,p,y1,y2,y3,x6,hr6⟩:=z;have I7:Inv X pins τ6 H6 s6:=(Qb9 I3.ok (QaG (X:=Cx.hnd X (.ref ea) _) (pins:=(ea,oe4)::pins) I6)).pins_of λp hp=>(Qb9 I3.ok (QaG (X:=Cx.hnd X (.ref ea) _) (pins:=(ea,oe4)::pins) I6)).pin p (Zb _ (zB _ hp));refine zd (wpAny_bindName (Qcm I7 hN hie (.inl hle) (v:=.non) rfl (λs8 I8=>?_) (.inr hle)));refine Qjz I8 hN hie hle (v:=.non) (zZ (by rw[hl6];exact iel)) λs9 I9=>⟨_,_,I9,?_⟩;refine e2 ρ1 H6 x6 hr6 _ ⟨by simp[σF,hlenσ,hl6],λi w z=>?_⟩;show ∃v,((τ6.set ie (some V.non)).set ie none)[i]?=some (some v)/\_;have z':((σ.map λ_=>(none:Option W)).set iF (some (.lst (cs.map λk=>.bl (fl c k)))))[i]?=some (some w):=z;rw[List.getElem?_set]at z';split at z';rename_i hi;subst hi;split at z';cases z';refine⟨.ref p,by rw[zY hne,zY hne];exact y1,?_⟩;rw[Rel];refine⟨p,_,rfl,y2,y3,?_⟩;rw[zzm];exact Qg5 _ _;cases z';rw[zT]at z';cases e:σ[i]? with
   |none=>rw[e]at z';cases z'
   |some o=>rw[e]at z';cases z'
 refine wpAny_Try_except ?_
 have b:=hb (X.pn++pins) xe EY PassesOwn.looking hX [] s τ H D (QgM I) ⟨ρ,σ,h,re,hr,?_⟩
 ·refine ZA b (λf s1 z=>?_) λ_ _ y=>y
  cases f with
  |next=>obtain⟨σ',H',I',z⟩:=z;exact wpAny_execs_nil ⟨σ',H',QaG I',z⟩
  |brk=>obtain⟨σ',H',I',z⟩:=z;exact⟨σ',H',QaG I',z⟩
  |cont=>obtain⟨σ',H',I',z⟩:=z;exact⟨σ',H',QaG I',z⟩
  |ret u=>obtain⟨v,σ',H',I',r,z⟩:=z;exact⟨v,σ',H',QaG I',r,z⟩
 ·show RQ X.K EY ρ H (sb σ h) _
  unfold QnI at q
  cases ee:sb σ h with
  |stuck=>rw[ee]at q;exact q.elim
  |ok w h1 =>
   rw[ee]at q
   exact λρ1 H1 x1 hr1=>q ρ1 H1 x1 hr1
  |exc c h1 =>
   rw[ee]at q
   dsimp only at q
   split at q
   ·rename_i hc
    exact λρ1 H1 x1 hr1=>⟨by simpa using hc,λρ2 H2 x2 hr2=>q ρ2 H2 (x1.trans x2) hr2⟩
   ·exact q.elim
theorem tryF_G(σ)(h):exS cf fw (.tryF e' iF cs all) σ h=QnI (λc k=>decide (c=k)) iF cs all (exS cf fw (.ret e')) σ h:=by unfold QnI;rw[exS,exS];cases evE cf e' σ h<;>rfl
end
section
variable {X:Cx}{EX:EXT}{cf:CF}{fw:Nat}{e:Expr}{e':E}
theorem Qlf:Qba X (.type "dict") (λxs H Q=>∃a kvs,xs=[.ref a]/\Rd H a (.dK kvs)/\∀p,H p=none->Q (.ref p) (upd H p (.dK kvs))):=by
 intro pins s σ H xs us Q I r zq9;obtain⟨a,kvs,ex,hd,q⟩:=zq9;subst ex;cases r with
 |cons r1 r2=>cases r2;cases (r1);exact Qio I hd λp' s' n I'=>⟨.ref p',_,I',rfl,q p' n⟩
theorem b_dup(hu:X.A.units+64<cLine)(hN:X.N.Nodup)(hi:X.N[i]?=some x)(hx:Loc X.env.scope x)(hf:X.fn x=true\/X.env.scope.names.lookup x=some .local)(hvx:Vis X.env.scope x)(hdx:(x==("__debug__":Str))=false/\(x==("__classdict__":Str))=false)
  (hk:X.N[k]?=some kn) (hvk:Vis X.env.scope kn) (hdk:(kn==("__debug__":Str))=false/\(kn==("__classdict__":Str))=false) (hv:X.N[v]?=some vn) (hvv:Vis X.env.scope vn) (hdv:(vn==("__debug__":Str))=false/\(vn==("__classdict__":Str))=false)
  (hg:Gl X "dict") (hm:X.mg "dict"=none) (he:PE X e (tI X.K EX (evE cf e'))) (hs:Qam e=true) (hss:PSs X sts (tIS X.K EX (exB cf fw ss'))) :
  PSs X (.Assign [.Name x px] (.Call (.Name "dict" pd) [e] [] pc) p1::.Assign [.Subscript (.Name x q1) (.Name kn q2) q3] (.Name vn q4) p2::sts) (tIS X.K EX (exB cf fw (.dupd i e' k v::ss'))):=by
 have a1:=Qc7 (pos:=p1) (pos':=px) hN hi hx (QaK (x:="dict") (p:=pd) (pos:=pc) Qlf hg hm (by decide +kernel) (Qay he pa_nil (Qaj hs _ _)) (by decide +kernel) (by decide +kernel) (Qaj hs _ _) (by rfl)) (by rfl) hf
 have a2:=Qk1 (pos:=p2) (Qcq (pos:=q4) hv hvv hdv.1 hdv.2) (QnU (pos:=q3) (Qcq (pos:=q1) hi hvx hdx.1 hdx.2) (Qcq (pos:=q2) hk hvk hdk.1 hdk.2) (QhK hu) (by intro _;rfl)) (by rfl) (by rfl) rfl
 intro pins s0 τ H D I zq
 refine Qbw a1 (Qbw a2 hss) pins s0 τ H D I ?_
 obtain⟨ρ,σ,h,re,hr,q⟩:=zq
 rw[exB,exS,Qbp]at q
 refine⟨ρ,σ,h,re,hr,q.bnd.mono λw h1 ρ1 H1 x1 hr1 q1 u r=>?_⟩
 split at q1
 ·rename_i ks ws s y e1 e2 e3
  split at q1
  ·rename_i hc
   obtain⟨ni,nv,hz⟩:=hc
   obtain⟨a,ys,rfl,hd,hl,rs⟩:=QaV hr1 e1 r
   refine⟨a,_,rfl,hd,λp hp=>?_⟩
   have re1:=re.ext x1
   obtain⟨vk,k1,k2⟩:=re1.at_ k _ e2
   obtain⟨vv,v1,v2⟩:=re1.at_ v _ e3
   cases Qat k2
   obtain⟨zs,d1,d2,d3⟩:=QhJ (x:=s) hl rs v2
   have il:i<τ.length:=by rw[I.len];exact(ze.mp hi).1
   refine⟨vv,by rw[zY nv];exact v1,.ref p,zZ il,.str s,by rw[zY ni];exact k1,.inr ⟨p,.str s,_,rfl,rfl,DPut.k (k:=Sum.inr s) Qau (by rw[List.length_zip,zo,<- hl,Nat.min_self];exact zj hz (by rw[Zj];decide)),?_⟩⟩
   rw[d1,Qjo]
   have y2:=ext_new (o:=.dK ((((QdH ks ws s y).1).map Sum.inr).zip zs)) hr1 hp
   refine⟨ρ1,σ.set i (some (.dic (QdH ks ws s y).1 (QdH ks ws s y).2)),h1,(re1.ext y2).set i ?_,hr1.ext_new hp,?_⟩
   ·rw[Rel]
    exact⟨p,zs,rfl,hr1.new hp,.inl Qau,d2,RelL.ext y2 _ _ d3⟩
   ·exact RQ.wk y2 q1
  ·exact q1.elim
 ·exact q1.elim
theorem Qm3(hN:X.N.Nodup)(hi:X.N[i]?=some x)(hx:Loc X.env.scope x)(hf:X.fn x=true\/X.env.scope.names.lookup x=some .local)(hg:Gl X "dict")(hm:X.mg "dict"=none)(he:PE X e (tI X.K EX (evE cf e')))(hs:Qam e=true) :
  PS X (.Assign [.Name x px] (.Call (.Name "dict" pd) [e] [] pc) p1) (tIS X.K EX (exS cf fw (.freshC i e'))) :=
 (Qc7 (pos:=p1) (pos':=px) hN hi hx (QaK (x:="dict") (p:=pd) (pos:=pc) Qlf hg hm (by decide +kernel) (Qay he pa_nil (Qaj hs _ _)) (by decide +kernel) (by decide +kernel) (Qaj hs _ _) (by rfl)) (by rfl) hf).sub λD τ H zq=>by
 obtain⟨ρ,σ,h,re,hr,q⟩:=zq
 refine⟨ρ,σ,h,re,hr,q.bnd.mono λw h1 ρ1 H1 x1 hr1 q1 u r=>?_⟩
 split at q1
 ·rename_i ks ws e1
  split at q1
  ·rename_i hp
   obtain⟨a,ys,rfl,hd,hl,rs⟩:=QaV hr1 e1 r
   refine⟨a,_,rfl,hd,λp hn=>?_⟩
   have x0:=ext_cell (o:=.dK []) hr1 hn
   have hl0:(ρ1++[p])[h1.length]?=some p:=by rw[<- hr1.len,zK (zD _),zzP];rfl
   have hr2:=(hr1.cellD hn).writeD hl0 hp hl (RelL.ext x0 _ _ rs)
   rw[Qjo,List.set_append_right _ _ (zD _),zzP]at hr2
   have x2:=ext_cell (o:=.dK ((ks.map Sum.inr).zip ys)) hr1 hn
   refine q1 _ _ x2 hr2 _ (((re.ext x1).ext x2).set i ?_)
   rw[Rel]
   exact⟨p,rfl,hl0⟩
  ·exact q1.elim
 ·exact q1.elim
end
section
variable {X:Cx}{EX:EXT}{cf:CF}{fw:Nat}{a b:Expr}{a' b':E}{pos:Pos}{tg:Expr}
end
structure OCl (K:Fg0) (c:Nat) (C:Addr):Prop where
 ns:PySem.W.nsIn K mainGlobals (QcA c)=some (some (.ref C))
 cls:Cls K C
 no:∀f∈Qa9 c,NoAttr K C f
theorem Qhx(c):(Qa9 c).Nodup:=by
 cases c with
 |zero=>decide
 |succ c=>show(["names","standings"]:List Str).Nodup;decide +kernel
theorem QeF:∀{fs:List Str}{xs:List V}{k:Nat},fs.Nodup->fs[k]?=some f->xs[k]?=some x->(fs.zip xs).lookup f=some x
 |[],_,_,_,h,_=>by simp at h
 |g::fs,[],k,_,_,h=>‹_›
 |g::fs,y::xs,0,_,h,h2=>by simp_all
 |g::fs,y::xs,k+1,nd,h,h2=>by
  rw[ZR]at nd;have hf:fs[k]?=some f:=by simpa using h
  rw[Z7,Zv];have:(f==g)=false:=by rw[ZZ];rintro rfl;exact nd.1 (zC hf)
  rw[this];exact QeF nd.2 hf (by simpa using h2)
theorem QbR:∀{fs:List Str}{xs:List V},f∉fs->(fs.zip xs).lookup f=none
 |[],_,_=>rfl
 |g::fs,[],_=>rfl
 |g::fs,y::xs,h=>by rw[zS,not_or]at h;rw[Z7,Zv,(ZZ.mpr h.1)];exact QbR h.2
section
variable {X:Cx}{EX:EXT}{cf:CF}{fw:Nat}{pos:Pos}{a b c e:Expr}{a' b' c' e':E}{cl:Nat->Addr}
theorem r_fld(O:OCl X.K k C)(hf:(Qa9 k)[n]?=some f)(ha:PE X a (tI X.K EX (evE cf a')))(hb:QbV a=true):PE X (.Attribute a f pos) (tI X.K EX (evE cf (.fld k n a'))) :=
 (pe_fld ha (QbS hb _ _ _)).sub λτ H Q zq=>by
  obtain⟨ρ,σ,h,re,hr,q⟩:=zq;rw[evE]at q;refine⟨ρ,σ,h,re,hr,q.bnd.mono λw h1 ρ1 H1 x1 hr1 q1 v r=>?_⟩;cases w with
  |ins k' ws=>dsimp only at q1;split at q1;rename_i hk;subst hk;split at q1;rename_i w0 e0;obtain⟨p,dx,xs,C',rfl,np,hp,hl,hC,rs⟩:=r;have hC':=hC.symm.trans O.ns;cases hC';obtain⟨x0,ex,rx⟩:=rs.get e0;exact⟨p,C,dx,_,x0,rfl,hp,O.cls,O.no f (zC hf),QeF (Qhx _) hf ex,RQ.here hr1 q1 _ rx⟩;exact q1.elim;exact q1.elim
  |_=>exact q1.elim
theorem Qhv{m:Str}{fn np:Nat}{C:Addr}{es':List E}{τ:L2.St}{H:Hp}{Q:VK}{t:TA}{K:Fg0}(O:OCl K 1 C)(hm:m∉Qa9 1)(hl:es'.length+1=np)(q:tI K EX (evE cf (.mth fn a' es')) τ H Q)
  (ht:∀τ H R,tIA K EX (evA cf es') τ H R->t τ H R):Qpt C m (spI K cl cf fn np) [] (EKX K cl EX) (tI K EX (evE cf a')) t τ H Q:=by
 obtain⟨ρ,σ,h,re,hr,q⟩:=q
 rw[evE]at q
 refine⟨ρ,σ,h,re,hr,q.bnd.mono λw h1 ρ1 H1 x1 hr1 q1 v r=>?_⟩
 split at q1
 ·rename_i hw
  cases w with
  |ins k ws0 =>
   have hk:k=1:=by unfold QlZ at hw;split at hw;rename_i z;cases z;rfl;cases hw
   subst hk
   have r0:=r
   obtain⟨p,dx,xs,C',rfl,hnp,hp,hlx,hC,rs⟩:=r
   have hC':=hC.symm.trans O.ns
   cases hC'
   refine⟨p,dx,_,rfl,hp,QbR hm,ht _ _ _ ⟨ρ1,σ,h1,re.ext x1,hr1,?_⟩⟩
   cases e:evA cf es' σ h1 with
   |stuck=>rw[e]at q1;exact q1.elim
   |exc c h2=>rw[e]at q1;exact q1
   |ok ws h2 =>
    rw[e]at q1
    intro ρ2 H2 x2 hr2 vs rs2
    have q2:RQ K EX ρ2 H2 (cf fn (.ins 1 ws0::ws) h2) (λw _ ρ' H'=>∀v,Rel K ρ' H' w v->Q v H'):=q1.bnd ρ2 H2 x2 hr2
    refine⟨by rw[Zf,z0,<- rs2.length,Qc1 e];exact hl,ρ2,h2,.ins 1 ws0::ws,hr2,by rw[Zf];exact .cons (Rel.ext x2 _ _ r0) rs2,?_⟩
    cases e2:cf fn (.ins 1 ws0::ws) h2 with
    |ok w h3=>rw[e2]at q2;exact q2
    |exc c h3=>rw[e2]at q2;exact λρ3 H3 x3 hr3=>⟨c,h3,ρ3,rfl,hr3,q2 ρ3 H3 x3 hr3⟩
    |stuck=>rw[e2]at q2;exact q2
  |_=>cases hw
 ·exact q1.elim
theorem Qin(hs : es.all Qam = true)(hn : es.length<30)(hl : ap.endLine = pos.line) : eval (.Call (.Attribute (.Name x p) m ap) es [] pos) env = (do
   let ov <- eval (.Name x p) env
   standAt ap.atName
   let (f,first) <- holding [ov] (getMethod ov m (do return (<- importBound (.Name x p) env).getD true))
   callWith pos f first (backTo pos (starEach es env)) (backToKw pos (keywordEach [] env))):=by
 have few:methodCallForm (es.length+([]:List Keyword).length) (backTo pos (starEach es env)) (backToKw pos (keywordEach [] env))=true:=by
  unfold methodCallForm;have h1:=Qcc hs pos env;have h2:(backTo pos (starEach es env)).all (λx=>!x.1)=true:=by rw[List.all_eq_not_any_not];simpa using h1
  rw[h2];have h3:(backToKw pos (keywordEach [] env))=[]:=rfl;rw[h3];simp[hn]
 show(do let ov <- attributeBase (.Name x p) m env (eval (.Name x p) env);standAt ap.atName;methodCall (.Name x p) m ap pos env ov (es.length+([]:List Keyword).length) (backTo pos (starEach es env)) (backToKw pos (keywordEach [] env)))=_
 unfold methodCall
 rw[few]
 have hp:methodCallPos true (.Name x p) env ap pos=pure pos:=by unfold methodCallPos;rw[zF (by simp[hl])]
 simp only[hp,calleeOf,if_true,pure_bind]
 rfl
theorem r_mth0(O:OCl X.K 1 C)(hm:m∉Qa9 1)(hl:([]:List E).length+1=np)(hln:ap.endLine=pos.line)(ho:PE X (.Name x p) (tI X.K EX (evE cf a')))(M:Meth X.K C m f)
  (F:FnOk X.prog X.w X.K X.mg X.base (CXJ X.prog X.w) k f fd ps (spI X.K cl cf fn np)) (hr:Room k X.A) (hb:Binds X.K fd ps []) (hX:XL cl X EX) :
  PE X (.Call (.Attribute (.Name x p) m ap) [] [] pos) (tI X.K EX (evE cf (.mth fn a' []))) :=
 (Qmn ho O.cls M F hr hb .nil hX.passes (Qin rfl ZzS hln)).sub λτ H Q q=>Qhv  O hm hl q λτ H R zq=>by obtain⟨ρ,σ,h,re,hr,q⟩:=zq;exact RQ.here hr q _ .nil
theorem r_mth(O:OCl X.K 1 C)(hm:m∉Qa9 1)(hl:es'.length+1=np)(hln:ap.endLine=pos.line)(hn:(e::es).length<30)(ho:PE X (.Name x p) (tI X.K EX (evE cf a')))(M:Meth X.K C m f)
  (F:FnOk X.prog X.w X.K X.mg X.base (CXJ X.prog X.w) k f fd ps (spI X.K cl cf fn np)) (hr:Room k X.A) (hb:Binds X.K fd ps []) (hX:XL cl X EX) (ha:PA X (e::es) (tIA X.K EX (evA cf es'))) (hs:(e::es).all Qam=true) :
  PE X (.Call (.Attribute (.Name x p) m ap) (e::es) [] pos) (tI X.K EX (evE cf (.mth fn a' es'))):=by
 have hs':=hs
 rw[ZB,zE]at hs'
 exact(QoR ho O.cls M F hr hb .nil hX.passes ha (Qaj hs'.1 es X.env) (Qcc hs'.2 pos X.env) (Qin hs hn hln)).sub λτ H Q q=>Qhv O hm hl q λ_ _ _ z=>z
end
theorem QpW(hd:d<(Qa9 c).length)(hl:ys.length=d):∀c' (xs:List V),(Qa9 c').length=xs.length->((Qa9 c).take d).zip ys≠(Qa9 c').zip xs:=λc' xs hx e=>by
 have e1:=congrArg (List.map Prod.fst) e;rw[List.map_fst_zip (by rw[Zk];lia),List.map_fst_zip (by simp_all)]at e1;have e2:d=(Qa9 c').length:=by grind
 cases c with
 |zero=>
  cases c' with
  |zero=>simp_all
  |succ c'=>have:d=2:=e2;subst this;exact absurd e1 (by show ¬ (["deed","part_list"]:List Str)=(["names","standings"]:List Str);decide +kernel)
 |succ c=>
  have h2:d<2:=hd;cases c' with
  |zero=>have:d=4:=e2;lia
  |succ c'=>have:d=2:=e2;lia
section
variable {K:Fg0}{ρ:List Addr}{H:Hp}{x C dx:Addr}{fs:List (Str×V)}{o:HO}
structure Pm (H:Hp) (x:Addr):Prop where
 ex:∃C dx fs,H x=some (.ins C dx fs)/\∀c (xs:List V),(Qa9 c).length=xs.length->fs≠(Qa9 c).zip xs
theorem Pm.ne(p:Pm H x)(e:H a=some u)(h:∀C dx fs,u≠.ins C dx fs):a≠x:=by
 obtain⟨C,dx,fs,ex,_⟩:=p.ex
 grind
theorem Pm.rd(p:Pm H x)(r:Rd H a u)(h:∀C dx fs,u≠.ins C dx fs):Rd (upd H x o) a u:=by rcases r with r|⟨ob,r⟩;exact .inl (by rw[Qas (p.ne r h)];lia);exact .inr ⟨ob,by rw[Qas (p.ne r (λ_ _ _ z=>by simp_all))];lia⟩
mutual
theorem Rel.upx(p:Pm H x):∀w v,Rel K ρ H w v->Rel K ρ (upd H x o) w v
 |.non,v,r=>by rw[Rel]at r ⊢;exact r
 |.bl _,v,r=>by rw[Rel]at r ⊢;exact r
 |.int _,v,r=>by rw[Rel]at r ⊢;exact r
 |.str _,v,r=>by rw[Rel]at r ⊢;exact r
 |.tup ws,v,r=>by rw[Rel]at r ⊢;obtain⟨a,xs,e,q,rs⟩:=r;exact⟨a,xs,e,q.imp (λz=>⟨z.1,p.rd z.2 (λ_ _ _ y=>by cases y)⟩) id,RelL.upx p ws xs rs⟩
 |.lst ws,v,r=>by rw[Rel]at r ⊢;obtain⟨a,xs,e,n,q,rs⟩:=r;exact⟨a,xs,e,n,by rw[Qas (p.ne q (λ_ _ _ y=>by cases y))];exact q,RelL.upx p ws xs rs⟩
 |.scr ws,v,r=>by rw[Rel]at r ⊢;obtain⟨a,xs,e,q,rs⟩:=r;exact⟨a,xs,e,q.imp (λz=>⟨z.1,p.rd z.2 (λ_ _ _ y=>by cases y)⟩) id,RelL.upx p ws xs rs⟩
 |.dic ks ws,v,r=>by rw[Rel]at r ⊢;obtain⟨a,xs,e,n,q,l,rs⟩:=r;exact⟨a,xs,e,n,p.rd q (λ_ _ _ y=>by cases y),l,RelL.upx p ws xs rs⟩
 |.ins c ws,v,r=>by rw[Rel]at r ⊢;obtain⟨a,dx,xs,C,e,n,q,l,z,rs⟩:=r;refine⟨a,dx,xs,C,e,n,?_,l,z,RelL.upx p ws xs rs⟩;rw[Qas];exact q;rintro rfl;obtain⟨C',dx',fs',ex,np⟩:=p.ex;rw[q]at ex;cases ex;exact np c xs l rfl
 |.ref n,v,r=>by rw[Rel]at r ⊢;exact r
theorem RelL.upx(p:Pm H x):∀ws xs,RelL K ρ H ws xs->RelL K ρ (upd H x o) ws xs
 |[],xs,r=>by rw[RelL]at r ⊢;exact r
 |w::ws,xs,r=>by rw[RelL]at r ⊢;obtain⟨y,ys,e,r1,r2⟩:=r;exact⟨y,ys,e,Rel.upx p w y r1,RelL.upx p ws ys r2⟩
end
theorem HRel.upx(hr:HRel K ρ h H)(p:Pm H x):HRel K ρ h (upd H x o):=⟨hr.len,hr.nd,λn a ob e1 e2=>by
 have q:=hr.at_ n a ob e1 e2
 cases ob with
 |lst ws=>obtain⟨pu,xs,e,r⟩:=q;exact⟨pu,xs,by rw[Qas (p.ne e (λ_ _ _ y=>by cases y))];lia,RelL.upx p ws xs r⟩
 |dic ks ws=>obtain⟨pu,xs,e,l,r⟩:=q;exact⟨pu,xs,by rw[Qas (p.ne e (λ_ _ _ y=>by cases y))];lia,l,RelL.upx p ws xs r⟩⟩
theorem RelE.upx(re:RelE K ρ H σ τ)(p:Pm H x):RelE K ρ (upd H x o) σ τ:=⟨re.len,λi w e=>let ⟨v,h1,h2⟩:=re.at_ i w e;⟨v,h1,Rel.upx p w v h2⟩⟩
theorem Qnd(y:Ext ρ0 H0 ρ H)(h0:H0 x=none):Ext ρ0 H0 ρ (upd H x o) :=
 ⟨y.pre,λa u e n=>(by rw[Qas (by grind)];exact y.keep a u e n),y.out⟩
theorem Qia:∀{fs:List Str}{xs:List V},fs.length=xs.length->f∉fs->Qf8 f v (fs.zip xs)=(fs++[f]).zip (xs++[v])
 |[],[],_,_=>rfl
 |[],_::_,h,_=>by cases h
 |_::_,[],h,_=>by cases h
 |g::fs,y::xs,h,n=>by rw[zS,not_or]at n;rw[Z7,Qf8,zM (zzi n.1),Qia (by simp_all) n.2];rfl
theorem RQ.bnd0{α β:Type}{EX:EXT}{r:Res α}{f:α->Qaa->Res β}{k:β->Qaa->List Addr->Hp->Prop}(q:RQ K EX ρ H (J.bnd r f) k):RQ K EX ρ H r (λa h' _ _=>RQ K EX ρ H (f a h') k):=by
 cases r with
 |ok a h'=>exact λ_ _ _ _=>q
 |exc c h'=>exact q
 |stuck=>exact q
end
section
variable {X:Cx}{EX:EXT}{cf:CF}{fw:Nat}{pos:Pos}{a b c e:Expr}{a' b' c' e':E}{cl:Nat->Addr}
def IniK(K:Fg0)(c:Nat)(x:Addr)(ws:List W)(Q:Hp->Prop):List W->Qaa->List Addr->Hp->Prop:=λus _ ρ' H'=>Rel K ρ' H' (.ins c (ws++us)) (.ref x)->Q H'
def tIni(K:Fg0)(EX:EXT)(cf:CF)(c d:Nat)(fl:List (Bool×E)):TS:=λD τ H=>∃ρ0 H0 ρ σ h x dx C xs ws,Ext ρ0 H0 ρ H/\H0 x=none/\x∉ρ/\τ[0]?=some (some (.ref x))/\H x=some (.ins C dx (((Qa9 c).take d).zip xs)) /\
 xs.length=d/\d+fl.length=(Qa9 c).length/\PySem.W.nsIn K mainGlobals (QcA c)=some (some (.ref C))/\RelE K ρ H σ τ/\HRel K ρ h H/\RelL K ρ H ws xs/\RQ K EX ρ0 H0 (QcI cf σ fl h) (IniK K c x ws λH'=>D.nx τ H')
theorem Qqj:PSs X [] (tIni X.K EX cf k (Qa9 k).length []):=pss_nil.sub λD τ H zq=>by obtain⟨ρ0,H0,ρ,σ,h,x,dx,C,xs,ws,y,h0,hx,e0,ex,hl,hd,hC,re,hr,rs,q⟩:=zq;rw[QcI]at q;refine q ρ H y hr ?_;rw[Zf];rw[Z3 (zD _)]at ex;exact⟨x,dx,xs,C,rfl,hx,ex,hl.symm,hC,rs⟩
theorem Qgt{K:Fg0}{k d:Nat}{f:Str}{C:Addr}{fl:List (Bool×E)}{τ:L2.St}{ρ0 ρ1:List Addr}{H0 H1:Hp}{σ:Qai}{h1:Qaa}{x dx:Addr}{xs:List V}{ws:List W}{w:W}{v:V}{D:Ends}(O:OCl K k C)(hf:(Qa9 k)[d]?=some f)
  (y:Ext ρ0 H0 ρ1 H1) (h0:H0 x=none) (hx:x∉ρ1) (e0:τ[0]?=some (some (.ref x))) (ex:H1 x=some (.ins C dx (((Qa9 k).take d).zip xs))) (hl:xs.length=d) (hd:d+(fl.length+1)=(Qa9 k).length) (re:RelE K ρ1 H1 σ τ) (hr:HRel K ρ1 h1 H1) (rs:RelL K ρ1 H1 ws xs)
  (r:Rel K ρ1 H1 w v) (q:RQ K EX ρ0 H0 (bnd (QcI cf σ fl h1) λus h=>.ok (w::us) h) (IniK K k x ws λH'=>D.nx τ H')) :
  tVar 0 τ H1 λu H2=>∃a C dx fs,u=.ref a/\H2 a=some (.ins C dx fs)/\Cls K C/\NoAttr K C f/\fs.length<1000/\tIni K EX cf k (d+1) fl D τ (upd H2 a (.ins C dx (Qf8 f v fs))):=by
 have pm:Pm H1 x:=⟨C,dx,_,ex,QpW ZzL hl⟩
 have hlt:d<(Qa9 k).length:=ZzL
 have ht:(Qa9 k).take (d+1)=(Qa9 k).take d++[f]:=by rw[List.take_add_one,hf];rfl
 have hnf:f∉(Qa9 k).take d:=λm=>by
  have nd:=Qhx k;rw[<- List.take_append_drop d (Qa9 k),Zw]at nd;have:f∈(Qa9 k).drop d:=by obtain⟨_,rfl⟩:=ze.mp hf;rw[zzR hlt];exact zN
  exact nd.2.2 f m f this rfl
 refine⟨_,e0,x,C,dx,_,rfl,ex,O.cls,O.no f (zC hf),?_,ρ0,H0,ρ1,σ,h1,x,dx,C,xs++[v],ws++[w],Qnd y h0,h0,hx,e0,?_,by simp[hl],ZzL,O.ns,re.upx pm,hr.upx pm,RelL.upx pm _ _ (rs.append (.cons r .nil)),?_⟩
 ·rw[List.length_zip,Zk]
  have:(Qa9 k).length<=4:=by cases k with|zero=>exact zD 4|succ k=>exact(by decide:2<=4)
  lia
 ·rw[Qau,ht,Qia (by rw[Zk];lia) hnf]
 ·refine RQ.mono (RQ.bnd0 q) λus h' ρ' H' x' hr' q' z=>?_
  refine q' ρ' H' x' hr' ?_
  rw[ZP]at z
  exact z
theorem QhV{k d:Nat}{s f:Str}{p p2:Pos}{C:Addr}{fl:List (Bool×E)}{ss:List Stmt}{bb:Bool}(O:OCl X.K k C)(hf:(Qa9 k)[d]?=some f)(hs:X.N[0]?=some s)(hv:Vis X.env.scope s)(hdb:(s==("__debug__":Str))=false)(hcd:(s==("__classdict__":Str))=false)
  (he:if bb then PE X e (tIF X.K EX (evF cf e')) else PE X e (tI X.K EX (evE cf e'))) (hc:Qb5 e=true) (h2:PSs X ss (tIni X.K EX cf k (d+1) fl)) :
  PSs X (.Assign [.Attribute (.Name s p) f p2] e pos::ss) (tIni X.K EX cf k d ((bb,e')::fl)):=by
 have hself:PE X (.Name s p) (tVar 0):=Qcq hs hv hdb hcd
 cases bb with
 |false =>
  refine(Qbw (QnH (pos:=pos) hself (show PE X e (tI X.K EX (evE cf e')) from he) (Qcy hc _ _ _)) h2).sub λD τ H zq=>?_
  obtain⟨ρ0,H0,ρ,σ,h,x,dx,C',xs,ws,y,h0,hx,e0,ex,hl,hd,hC,re,hr,rs,q⟩:=zq
  have hC':=hC.symm.trans O.ns
  cases hC'
  rw[QcI]at q
  refine⟨ρ,σ,h,re,hr,(q.bnd0.wk y).mono λw h1 ρ1 H1 x1 hr1 q1 v r=>?_⟩
  exact Qgt O hf (y.trans x1) h0 (x1.out x _ ex hx) e0 (x1.keepN ex hx (λ_ z=>by cases z)) hl (by simpa using hd) (re.ext x1) hr1 (RelL.ext x1 _ _ rs) r q1
 |true =>
  refine(Qbw (QnH (pos:=pos) hself (show PE X e (tIF X.K EX (evF cf e')) from he) (Qcy hc _ _ _)) h2).sub λD τ H zq=>?_
  obtain⟨ρ0,H0,ρ,σ,h,x,dx,C',xs,ws,y,h0,hx,e0,ex,hl,hd,hC,re,hr,rs,q⟩:=zq
  have hC':=hC.symm.trans O.ns
  cases hC'
  rw[QcI]at q
  refine⟨ρ,σ,h,re,hr,(q.bnd0.wk y).mono λus h1 ρ1 H1 x1 hr1 q1 ys l rl hn=>?_⟩
  split at q1
  ·rename_i hp
   have z:=ext_cell (o:=.lst ys) hr1 hn
   have x2:=x1.trans z
   refine Qgt (w:=.ref h1.length) O hf (y.trans x2) h0 (x2.out x _ ex hx) e0 (x2.keepN ex hx (λ_ z=>by cases z)) hl (by simpa using hd) (re.ext x2) (hr1.cell hn hp rl) (RelL.ext x2 _ _ rs) ?_ q1
   rw[Rel]
   exact⟨l,rfl,by rw[<- hr1.len,zK (zD _)];simp⟩
  ·exact q1.elim
def spN(K:Fg0)(cl:Nat->Addr)(cf:CF)(fn np c:Nat):Sp:=λvs H Q E=>vs.length=np/\∃x us dx C H1 ρ h ws,vs=.ref x::us/\H=upd (upd H1 dx (.own x)) x (.ins C dx [])/\H1 x=none/\H1 dx=none/\dx≠x/\PySem.W.nsIn K mainGlobals (QcA c)=some (some (.ref C)) /\
 HRel K ρ h H1/\RelL K ρ H1 ws us/\RQ K (λc _ _ H'=>E (.ref (cl c)) none H') ρ H1 (cf fn ws h) λw _ ρ' H'=>Rel K ρ' H' w (.ref x)->Q .non H'
theorem r_new(M:Mk X.K C f)(hC:PySem.W.nsIn X.K mainGlobals (QcA cc)=some (some (.ref C)))
  (F:FnOk X.prog X.w X.K X.mg X.base (CXJ X.prog X.w) k f fd ps (spN X.K cl cf fn np cc)) (hr:Room (k+1) X.A) (hg:Gl X x) (hm:X.mg x=some (.ref C)) (hb:Binds X.K fd ps []) (hX:XL cl X EX) (hdb:(x==("__debug__":Str))=false) (hs:(e::es).all Qam=true) (hl':es'.length+1=np)
  (ha:PA X (e::es) (tIA X.K EX (evA cf es'))):PE X (.Call (.Name x p) (e::es) [] pos) (tI X.K EX (evE cf (.call fn es'))):=by
 have hs':=hs
 rw[ZB,zE]at hs'
 refine(QoP M F hr hg hm hb .nil hX.passes ha hdb (Qaj hs'.1 es X.env) (Qcc hs'.2 pos X.env)).sub λτ H Q zq=>?_
 obtain⟨ρ,σ,h,re,hr,q⟩:=zq
 rw[evE]at q
 refine⟨ρ,σ,h,re,hr,?_⟩
 cases e:evA cf es' σ h with
 |stuck=>rw[e]at q;exact q.elim
 |exc c h1=>rw[e]at q;exact q
 |ok ws h1 =>
  rw[e]at q
  intro ρ1 H1 x1 hr1 vs rs y dx n1 n2 n3
  have q1:RQ X.K EX ρ1 H1 (cf fn ws h1) (λw _ ρ' H'=>∀v,Rel X.K ρ' H' w v->Q v H'):=q.bnd ρ1 H1 x1 hr1
  refine⟨by rw[Zf,z0,<- rs.length,Qc1 e];exact hl',y,vs,dx,C,H1,ρ1,h1,ws,ZzS,rfl,n1,n2,n3,hC,hr1,rs,?_⟩
  cases e2:cf fn ws h1 with
  |ok w h2=>rw[e2]at q1;exact λρ2 H2 x2 hr2 r=>⟨rfl,q1 ρ2 H2 x2 hr2 _ r⟩
  |exc c h2=>rw[e2]at q1;exact λρ2 H2 x2 hr2=>⟨c,h2,ρ2,rfl,hr2,q1 ρ2 H2 x2 hr2⟩
  |stuck=>rw[e2]at q1;exact q1
theorem ini_fn{P:Program}{w:World}{K:Fg0}{mg:Str->Option Value}{base:Heap}{x qual:Str}{st:Stmt}{f:Addr}{fd:FuncData}{ps:List Str}{k:Nat}{tb:List Fn}{d fn cc:Nat}{g:Fn}{fl:List (Bool×E)}
  (F:Fun K x qual st f fd) (S:FnScope ps ps (Qal st)) (hg:tb[fn]?=some g) (hnp:g.np=ps.length) (hi:g.ini=some (cc,fl)) (hlen:tb.length<=1000) (hfl:fl.length=(Qa9 cc).length)
  (body:∀(X:Cx) (EX:EXT),X.prog=P->X.w=w->X.K=K->X.mg=mg->X.base=base->X.N=ps->X.env.scope=Qal st->X.calm=true->(X.fn=λ_=>true)->PassesOwn (model X.prog X.w) X.A X.env X.xe->(X.stack=X.env::X.outer/\X.env.frame=some X.env.locals)->XL cl X EX->XM cl X EX->Room k X.A ->
   PSs X (QaC st) (tIni K EX (Qab fw tb d) cc 0 fl)) :
  FnOk P w K mg base (CXJ P w) (k+1) f fd ps (spN K cl (Qab fw tb (d+1)) (fn+2000) ps.length cc):=by
 obtain⟨oc,od,kV,doc,pm,an,cdv,ct,osl,rfl,lk,hcd⟩:=F.ex
 refine Qpm lk hcd S (λvs H Q E h=>h.1) λA outer s H vs Q E hr zq=>?_
 obtain⟨hl,x,us,dx,C,H1,ρ,h,ws,e1,e2,n1,n2,n3,hC,hrel,rl,q⟩:=zq
 subst e1 e2
 have y1:=J.ext_new (o:=.own x) hrel n2
 have n4:upd H1 dx (.own x) x=none:=by rw[Qas (zzi n3)];exact n1
 have hr1:=hrel.ext_new (o:=.own x) n2
 have y2:=y1.trans (J.ext_new (o:=.ins C dx []) hr1 n4)
 have hr2:=hr1.ext_new (o:=.ins C dx []) n4
 refine⟨_,body (QkC (CXJ P w) P w K mg base ps qual (Qal st) f cdv A outer s _ E) _ rfl rfl rfl rfl rfl rfl rfl rfl rfl PassesOwn.leaving ⟨rfl,rfl⟩ Qqc Qpa hr,ρ,H1,ρ,none::ws.map some,h,x,dx,C,[],[],y2,n1,hrel.new n1,?_,Qau,rfl,by rw[ZV];exact hfl,hC,?_,hr2,.nil,?_⟩
 ·have:ps.length≠0:=by rw[<- hl];simp
  unfold L2.start
  rfl
 ·have rl2:=RelL.ext y2 _ _ rl
  have hl2:ws.length=us.length:=rl.length
  refine⟨by unfold L2.start;simp at hl ⊢;lia,λi w e=>?_⟩
  cases i with
  |zero=>simp at e
  |succ i =>
   have e':(ws.map some)[i]?=some (some w):=by simpa using e
   rw[zT]at e'
   obtain⟨u,eu,ez⟩:=Zg.mp e'
   cases ez
   obtain⟨v,ev,rv⟩:=rl2.get eu
   refine⟨v,?_,rv⟩
   unfold L2.start
   have hlt:i<us.length:=(ze.mp ev).1
   simp[zI,hlt]
   exact(ze.mp ev).2
 ·have e:Qab fw tb (d+1) (fn+2000) ws h=bnd (QcI (Qab fw tb d) (none::ws.map some) fl h) λus h=>.ok (.ins cc us) h:=by
   have hw:ws.length+1=g.np:=by rw[rl.length,hnp,<- hl];rfl
   have no1:tb[fn+2000]?=none:=ZD.mpr ZzL;have no2:tb[fn+2000-1000]?=none:=ZD.mpr ZzL;show(match tb[fn+2000]? with|some g=>_|none=>match tb[fn+2000-1000]? with|some g=>_|none=>match tb[fn+2000-2000]? with|some g=>_|none=>_)=_;simp_all
  rw[e]at q
  refine RQ.mono (RQ.bnd0 q) λfs h' ρ' H' x' hr' q' z=>?_
  exact q' ρ' H' x' hr' z
end
noncomputable def clo(env:Env):List (Str×NameKind)->List (Str×Addr)->List (Str×Addr)
 |[],cs=>cs
 |(n,k)::r,cs=>if k==.free then(match env.cells.lookup n with
  |some c=>clo env r ((n,c)::cs)
  |none=>clo env r cs) else clo env r cs
theorem Qe7(h:∀y∈scope.names,y.2=.free->∃c,env.cells.lookup y.1=some c):closureFor scope env=pure (clo env scope.names []):=by
 unfold closureFor
 have go:∀(l:List (Str×NameKind)) (cs:List (Str×Addr)),(∀y∈l,y.2=.free->∃c,env.cells.lookup y.1=some c) ->
   (forIn l cs (λx r=>match x with|(name,kind)=>if(kind==NameKind.free)=true then(do let a <- cellOf env name;pure (ForInStep.yield ((name,a)::r))) else pure (ForInStep.yield r)):Sem (List (Str×Addr)))=pure (clo env l cs):=by
  intro l
  induction l with
  |nil=>intro cs _;rfl
  |cons y l ih =>
   intro cs hl
   obtain⟨n,k⟩:=y
   rw[List.forIn_cons]
   dsimp only
   unfold clo
   by_cases hk:(k==NameKind.free)=true
   ·obtain⟨c,hc⟩:=hl (n,k) zN (by simpa using hk)
    rw[zF hk,zF hk]
    dsimp only at hc
    unfold cellOf
    rw[hc]
    exact ih _ λy hy=>hl y (zB _ hy)
   simp_all
 exact congrArg (· >>= λr=>pure r) (go scope.names [] h)
theorem Qfw:∀{l:List (Str×NameKind)}{cs:List (Str×Addr)}{x:Str}{c:Addr},(x,c)∈clo env l cs->(x,c)∈cs\/env.cells.lookup x=some c
 |[],cs,x,c,h=>.inl h
 |(n,k)::r,cs,x,c,h=>by
  unfold clo at h
  split at h
  ·split at h
   ·rcases Qfw h with z|z
    ·grind
    simp_all
   ·exact Qfw h
  ·exact Qfw h
theorem QeT:∀{l:List (Str×NameKind)}{cs:List (Str×Addr)}{x:Str},(cs.lookup x).isSome->((clo env l cs).lookup x).isSome
 |[],cs,x,h=>h
 |(n,k)::r,cs,x,h=>by
  unfold clo
  split
  ·split
   ·refine QeT ?_
    grind
   ·exact QeT h
  ·exact QeT h
theorem Qew{env:Env}:∀{l:List (Str×NameKind)}{cs:List (Str×Addr)}{x:Str}{c:Addr},(x,NameKind.free)∈l->env.cells.lookup x=some c->((clo env l cs).lookup x).isSome
 |(n,k)::r,cs,x,c,h,hc=>by unfold clo;rcases(zS.mp h) with e|h;cases e;rw[hc];refine QeT ?_;simp;split;split;exact Qew h hc;exact Qew h hc;exact Qew h hc
theorem QaS{β:Type}{b:β}{l:List (Str×β)}(h:l.lookup x=some b):(x,b)∈l:=ZY h
theorem Qma{x:Str}{c:Addr}(h:(clo env l []).lookup x=some c):env.cells.lookup x=some c:=by
 rcases Qfw (QaS h) with z|z
 ·cases z
 lia
noncomputable def Qe2(sc:Scope)(out:Scope):Scope:={ sc with names:=sc.names.map λ(n,k)=>if(k==.free&&out.kind==.function&&out.names.lookup n==some .cell) then(n,.cell) else(n,k) }
theorem QaY{out:Scope}:∀{names:List (Str×NameKind)}{x:Str}{k:NameKind},
  (names.map λ(n,k)=>if(k==.free&&out.kind==.function&&out.names.lookup n==some .cell) then(n,.cell) else(n,k)).lookup x=some k ->
  names.lookup x=some k\/(k=.cell/\names.lookup x=some .free/\out.names.lookup x=some .cell)
 |[],_,_,h=>by exact .inl ‹_›
 |(n,k')::r,x,k,h=>by
  rw[zO]at h;dsimp only at h;by_cases hc:(k'==.free&&out.kind==.function&&out.names.lookup n==some .cell)=true;rw[zF hc,Zv]at h;rw[Zv];cases hx:x==n with
  |true=>simp_all
  |false=>rw[hx]at h;exact QaY h
  rw[zM hc,Zv]at h;rw[Zv];cases hx:x==n with
  |true=>simp_all
  |false=>rw[hx]at h;exact QaY h
noncomputable def blk (X:Cx) (N':List Str) (scope:Scope) (cl:List (Str × Addr)) (C:Addr) (fp:List Addr) (s:Shared) (H:Hp):Cx :=
  { X with N:=N',s₀:=s,H₀:=H,env:=compEnvC scope cl C X.env,outer:=X.stack,stack:=X.stack,ex:=fp,fn:=fun _=>false,pn:=[],xe:=fun _ _=>False }

structure BlkOk (out:Scope) (N N':List Str) (sc:Scope) (own:List Str):Prop where
 kind:sc.kind=.function
 cell:∀y∈sc.names,y.2≠.cell
 free:∀y∈sc.names,y.2=.free->out.names.lookup y.1=some .cell
 loc:∀y∈sc.names,y.2=.local->sc.names.lookup y.1=some .local
 mine:∀x,sc.names.lookup x=some .local->x∈own
 pre:∃t,N'=N++t
 new:∀(i:Nat) (x:Str),N'[i]?=some x->N.length<=i->x∈own
structure BlkSt (N N':List Str) (own:List Str) (σ τ:L2.St):Prop where
 len:τ.length=N'.length
 at_:∀(i:Nat) (v:V),τ[i]?=some (some v)->∃x,N[i]?=some x/\x∉own/\σ[i]?=some (some v)
section
variable {X:Cx}{pins:List (Addr×Obj)}{σ τ:L2.St}{H:Hp}{s:Shared}{N':List Str}{sc:Scope}{own:List Str}
theorem QeV(I:Inv X pins σ H s)(B:BlkOk X.env.scope X.N N' sc own):∀y∈sc.names,y.2=.free->∃c,X.env.cells.lookup y.1=some c :=
 λy hy hf=>I.ok.has y.1 (.inl (B.free y hy hf))
theorem Qo4{fp:List Addr}{h₁:Heap}{tk:Nat}{C:Addr}{H':Hp}{m:Str->Option Value}(I:Inv X pins σ H s)(B:BlkOk X.env.scope X.N N' sc own)(S:BlkSt X.N N' own σ τ)
  (f:∀b∈fp,Qig X pins H b) (hC:s.heap.objs.size<=C) (hfp:∀b∈fp,b<s.heap.objs.size) (k:∀b o,s.heap.get? b=some o->h₁.get? b=some o) (hn:h₁.Ns C m)
  (u:Un (frs X.stack) fp H H' s.heap h₁) (hok:HOk X.prog X.w H' h₁) (hC':H' C=none) :
  Inv (blk X N' sc (clo X.env sc.names []) C fp s H) [] τ H' { s with heap:=h₁,toks:=tk }:=by
 have hcl:∀x c,(clo X.env sc.names []).lookup x=some c->X.env.cells.lookup x=some c:=λx c e=>Qma e
 have hlt:∀x c,X.env.cells.lookup x=some c->c<s.heap.objs.size:=λx c e=>by obtain⟨v,z⟩:=I.cell x c e;exact z.lt
 have cellOf1:∀x c,X.env.cells.lookup x=some c->∀v,s.heap.IsCell c v->h₁.IsCell c v:=λx c e v zq=>by obtain⟨o,ho,hd⟩:=zq;exact⟨o,k c o ho,hd⟩
 refine⟨⟨I.ok.mod,B.kind,I.ok.glob,I.ok.blt,hC,λx y c h1 h2=>I.ok.inj x y c (hcl x c h1) (hcl y c h2),λx hx=>?_,λx c hf _=>(by cases hf),I.ok.hd,I.ok.frames,.inl rfl,λb hb=>⟨?_,λx c e=>?_⟩,
  I.bs,zf I.ok.bsz I.sz,λb o e hb=>?_,λb hb hm=>?_,I.stack,I.stkFree⟩,
  rfl,I.bare,u,⟨m,hn,λi x v e1 e2 e3=>?_⟩,λx c e=>?_,hC',λx c e=>?_,λp hp=>absurd (show p∈([]:List (Addr×Obj)) from hp) ZzS,hok,S.len⟩
 ·-- has
  have hx':(Qe2 sc X.env.scope).names.lookup x=some .cell\/(Qe2 sc X.env.scope).names.lookup x=some .free:=hx
  have fr:sc.names.lookup x=some .free:=by rcases hx' with z|z;rcases QaY z with z|z;exact absurd rfl (B.cell _ (QaS z));exact z.2.1;rcases QaY z with z|z;exact z;exact z.2.1
  obtain⟨c,hc⟩:=QeV I B _ (QaS fr) rfl
  exact ZG.mp (Qew (QaS fr) hc)
 ·intro e
  have e':b=C:=e
  subst e'
  exact ZN _ (zj (hfp b hb) hC)
 ·exact(f b hb).2.2.2.2.1 x c (hcl x c e)
 ·rcases(f b hb).2.2.2.1 with z|z
  ·exact I.ok.noex b o e z
  ·have h1:=zL e
   have h2:=I.ok.bsz
   exact absurd (zj h1 (zf h2 z)) (ZN _)
 ·rcases zS.mp (I.stkSub b hm) with e|z
  ·exact(f b hb).2.1 e
  ·exact(f b hb).2.2.1 z
 ·-- a name
  obtain⟨y,hy,hno,hv⟩:=S.at_ i v e2
  obtain⟨t,ht⟩:=B.pre
  have hi:i<X.N.length:=(ze.mp hy).1
  have e1':N'[i]?=some x:=e1
  rw[ht,zI hi,hy]at e1'
  cases e1'
  have e3':(Qe2 sc X.env.scope).names.lookup x=some .local\/(Qe2 sc X.env.scope).names.lookup x=some .cell\/(Qe2 sc X.env.scope).names.lookup x=some .free:=e3
  have fr:sc.names.lookup x=some .free/\(Qe2 sc X.env.scope).names.lookup x=some .cell:=by
   rcases e3' with z|z|z;rcases QaY z with z|z;exact absurd (B.mine x z) hno;cases z.1;rcases QaY z with z'|z';exact absurd rfl (B.cell _ (QaS z'));exact⟨z'.2.1,z⟩;exfalso;rcases QaY z with z'|z';have oc:=B.free _ (QaS z') rfl;have:∀{names:List (Str×NameKind)},names.lookup x=some .free->(names.map λ(n,k)=>if(k==.free&&X.env.scope.kind==.function&&X.env.scope.names.lookup n==some .cell) then(n,.cell) else(n,k)).lookup x=some NameKind.cell:=by
    intro names;induction names with
    |nil=>intro h;simp at h
    |cons a r ih=>
     obtain⟨n,k⟩:=a;intro h;rw[Zv]at h;rw[zO];dsimp only;cases hx:x==n with
     |true=>
      rw[hx]at h;have e:x=n:=by simpa using hx
      subst e;cases h;rw[zF (by simp[I.ok.kind];exact oc),Zv];simp
     |false=>rw[hx]at h;split;rw[Zv,hx];exact ih h;rw[Zv,hx];exact ih h
   have q:=this z';rw[show(Qe2 sc X.env.scope).names=sc.names.map λ(n,k)=>if(k==.free&&X.env.scope.kind==.function&&X.env.scope.names.lookup n==some .cell) then(n,.cell) else(n,k) from rfl,q]at z;cases z;cases z'.1
  have oc:=B.free _ (QaS fr.1) rfl
  obtain⟨m0,hn0,hl⟩:=I.loc
  obtain⟨uu,ru,lk⟩:=hl i x v hy hv (.inr (.inl oc))
  refine⟨uu,ru,?_⟩
  rcases lk with⟨kk,_⟩|⟨_,c,hc,hcell⟩
  ·rw[show X.env.kindOf x=X.env.scope.names.lookup x from rfl,oc]at kk;cases kk
  ·obtain⟨c',hc'⟩:=ZG.mp (Qew (cs:=[]) (QaS fr.1) hc)
   have:=hcl x c' hc'
   rw[hc]at this
   cases this
   exact .inr ⟨.inl fr.2,c,hc',cellOf1 x c hc _ hcell⟩
 ·obtain⟨v,z⟩:=I.cell x c (hcl x c e)
  exact⟨v,cellOf1 x c (hcl x c e) v z⟩
 ·obtain⟨v,o,ho,hd⟩:=I.cell x c (hcl x c e)
  refine u.free c o ho (I.freeC x c (hcl x c e)) λz=>?_
  exact(f c z).2.2.2.2.1 x c (hcl x c e) rfl
end
section
variable {P:Program}{w:World}{A:Around}{R:Result->Shared->Prop}{s:Shared}
theorem QfC(I:Nat->Shared->Prop)
  (tur:∀n s,I n s->wpAny (model P w) A (pyNext it) (λr t1=>match r with
   |none=>R (.ok .next) t1
   |some v=>wpAny (model P w) A (letOwnedTupleGo tg it v) (λ_ t1'=>wpAny (model P w) A (assign tg en v) (λ_ t2 =>
    wpAny (model P w) A (forIn cs true λc r=>if r=true then do let ok <- isTrue c en (eval c en);pure (ForInStep.yield ok) else pure (ForInStep.yield r)) (λok t3 =>
     if ok=true then wpAny (model P w) A (eval el en) (λx t4 =>
      wpAny (model P w) A (call (.builtin "list.append") [ac,x]) (λ_ t5=>∃m,m<n/\I m t5) (λ_ _=>False) t4) (λ_ _=>False) t3
     else ∃m,m<n/\I m t3) (λ_ _=>False) t2) (λ_ _=>False) t1') (λ_ _=>False) t1) (λ_ _=>False) s)
  (n:Nat) (h:I n s) :
  codeAny (model P w) A (.compLoop (.ListComp el [⟨tg,ir,cs,0⟩] sc ps) 0 it ac en) R s:=by
 refine codeAny_loop rfl I (λn s hJ=>?_) n h
 refine wpAny_noted ?_
 rw[compTurn_list]
 refine zd (zzF (zd (ZA (tur n s hJ) (λr t1 k1=>?_) λ_ _ z=>z.elim)))
 cases r with
 |none=>exact zH k1
 |some v =>
  refine zd (ZA k1 (λ_ t1' k1'=>(zd (ZA k1' (λ_ t2 k2=>zd (ZA k2 (λok t3 k3=>?_) λ_ _ z=>z.elim)) λ_ _ z=>z.elim))) λ_ _ z=>z.elim)
  cases ok with
  |false=>exact zH ⟨rfl,k3⟩
  |true =>
   exact zd (zd (ZA k3 (λx t4 k4=>zd (ZA k4 (λ_ t5 k5=>zH (zH ⟨rfl,k5⟩)) λ_ _ z=>z.elim)) λ_ _ z=>z.elim))
end
def Qde(D:Addr)(J:L2.It)(g:TG)(tt:TT)(te:TE)(Q:VK)(τ:L2.St)(H:Hp):Prop :=
 ∃W:Nat->Nat->L2.St->Hp->Prop,(∃m,W 0 m τ (upd H D (.lst [])))/\∀i m τ H,W i m τ H ->
  (J.stop i H/\Q (.ref D) H)\/(J.go i H/\∀x H',J.yld i H x H'->g x τ H' λτ2 H2=>tt τ2 H2 λb H3=>if b=true then te τ2 H3 λy H4=>∃ys,H4 D=some (.lst ys)/\ys.length<sizeLine/\∃m',m'<m/\W (i+1) m' τ2 (upd H4 D (.lst (ys++[y])))
   else ∃m',m'<m/\W (i+1) m' τ2 H3)
def PTs(X:Cx)(ifs:List Expr)(t:TT):Prop :=
 ∀(pins:List (Addr×Obj)) (s:Shared) (σ:L2.St) (H:Hp) (Q:Bool->Hp->Prop),Inv X pins σ H s->t σ H Q ->
  wpAny (model X.prog X.w) X.A (forIn ifs true λc r=>if r=true then do let ok <- isTrue c X.env (eval c X.env);pure (ForInStep.yield ok) else pure (ForInStep.yield r)) (TP X pins σ Q) X.xe s
theorem Qpl:PTs X [] (λ_ H Q=>Q true H):=λpins s σ H Q I q=>wpAny_tests_nil ⟨H,I,q⟩
theorem Qo5(h:PT X c t):PTs X [c] t:=λpins s σ H Q I q=>wpAny_tests_one (h pins s σ H Q I q)
theorem Qgd{X:Cx}{pins:List (Addr×Obj)}{σ τ:L2.St}{H:Hp}{s:Shared}{N':List Str}{sc:Scope}{own:List Str}{tg iter elt:Expr}{ifs:List Expr}{pos:Pos}{wi:TI}{g:TG}{tt:TT}{te:TE}{Q:VK}
  {RR:Value->Addr->Result->Shared->Prop}{E:Value->Shared->Prop}
  (hcalm:X.calm=true) (hi:PI X tg iter wi) (B:BlkOk X.env.scope X.N N' sc own) (S:BlkSt X.N N' own σ τ)
  (hb:∀cl C fp s H,PG (blk X N' sc cl C fp s H) tg g/\PTs (blk X N' sc cl C fp s H) ifs tt/\PE (blk X N' sc cl C fp s H) elt te)
  (I:Inv X pins σ H s) (q:wi σ H λJ H1=>∀D,H1 D=none->Qde D J g tt te Q τ H1)
  (hRR:∀D C H' s' m',Inv X pins σ H' s'->Qig X pins H' C->s'.heap.Ns C m'->Q (.ref D) H'->RR (.ref D) C (.ok .next) s')
  (hE:E=X.xe) :
  wpAny (model X.prog X.w) X.A (eval iter X.env) (λxv s₁=>wpAny (model X.prog X.w) X.A (pyIter xv) (λit s₂=>wpAny (model X.prog X.w) X.A (newList []) (λacc s₃ =>
   wpAny (model X.prog X.w) X.A (newFunctionEnv sc X.env.globals (clo X.env sc.names []) [] X.env.qual none .none (some X.env)) (λcenv s₄ =>
    codeAny (model X.prog X.w) X.A (.compStart (.ListComp elt [⟨tg,iter,ifs,0⟩] sc pos) 0 it acc { cenv with scope:=relabel sc X.env }) (RR acc cenv.locals) s₄) E s₃) E s₂) E s₁) E s:=by
 subst hE
 refine thn (hi pins s σ H _ I q) λxv s1 h1=>thn h1 λitv s2 h2=>?_
 obtain⟨it,fp,tn,J,H2,e,I2,T,st2,f2,q2⟩:=h2
 subst e
 refine zzj (wpAny_newFunctionEnv B.cell (by intro y hy;simp at hy) (λh₁ hns₁ hsb₁=>?_) B.kind)
 dsimp only at hns₁ hsb₁ ⊢
 have hDn:H2 s2.heap.objs.size=none:=I2.fresh
 obtain⟨W,⟨m0,w0⟩,Qpj⟩:=q2 s2.heap.objs.size hDn
 have I3:=I2.lnew (its:=[]) (ys:=[]) (t':=s2.toks) .nil ZzS
 generalize hH2:s2.heap.push { cls:=.type "list",dict:=none,data:=.seq ([]:List Value).toArray }=HP at hns₁ hsb₁ ⊢
 have hC:HP.objs.size=s2.heap.objs.size+1:=by rw[<- hH2,ZW]
 have hCle:s2.heap.objs.size<=HP.objs.size:=by rw[hC];exact ZK _
 have hDC:s2.heap.objs.size≠HP.objs.size:=by rw[hC];exact zU (zzt _)
 have I3':Inv X pins σ (upd H2 s2.heap.objs.size (.lst [])) { s2 with heap:=HP,toks:=s2.toks }:=by rw[<- hH2];exact I3
 have old3:∀b o,HP.get? b=some o->h₁.get? b=some o:=λb o e=>hsb₁.extBut b o (zU (zL e)) (hps0 _ e)
 have old:∀b o,s2.heap.get? b=some o->h₁.get? b=some o:=λb o e=>old3 b o (by rw[<- hH2];exact hps0 _ e)
 have hfp:∀b∈fp,b<s2.heap.objs.size:=λb hb=>by obtain⟨o,e,_⟩:=T.obj _ _ st2 b hb;exact zL e
 have hC':upd H2 s2.heap.objs.size (.lst []) HP.objs.size=none:=by rw[Qas (zzi hDC)];exact I2.hok.fresh hCle
 have IB:=Qo4 (tk:=s2.toks+([]:List (Str×Value)).length) (C:=HP.objs.size) I2 B S f2 hCle hfp old hns₁ (Un.laid old (zD _) hDn) (I3'.hok.kept old3) hC'
 have stat:∀{H':Hp},(∀b∈fp,H' b=none)->∀b∈fp,Qig (blk X N' sc (clo X.env sc.names []) HP.objs.size fp s2 H2) [] H' b:=λhn b hb =>
  ⟨hn b hb,λe=>ZN _ (zj (hfp b hb) (by rw[show b=HP.objs.size from e];exact hCle)),IB.ok.exfs b hb,.inl hb,λx c e=>(IB.ok.exf b hb).2 x c e,λp hp=>absurd (show p∈([]:List (Addr×Obj)) from hp) ZzS⟩
 obtain⟨pg,pt,pe⟩:=hb (clo X.env sc.names []) HP.objs.size fp s2 H2
 have fpn:∀b∈fp,upd H2 s2.heap.objs.size (.lst []) b=none:=λb hb=>by rw[Qas (zU (hfp b hb))];exact(f2 b hb).1
 have tn1:tn 0 h₁:=T.keep _ _ _ st2 λb _ o e=>old b o e
 have loop:∀s₃:Shared,s₃={ s2 with heap:=h₁,toks:=s2.toks+([]:List (Str×Value)).length } ->
   codeAny (model X.prog X.w) X.A (.compLoop (.ListComp elt [⟨tg,iter,ifs,0⟩] sc pos) 0 (.ref it) (.ref s2.heap.objs.size) (compEnvC sc (clo X.env sc.names []) HP.objs.size X.env))
    (RR (.ref s2.heap.objs.size) HP.objs.size) s₃:=by
  rintro s₃ rfl
  refine QfC (λn s'=>∃i τ' H',Inv (blk X N' sc (clo X.env sc.names []) HP.objs.size fp s2 H2) [] τ' H' s'/\tn i s'.heap/\(∀b∈fp,H' b=none)/\W i n τ' H') ?_ m0 ⟨0,τ,_,IB,tn1,fpn,w0⟩
  rintro n s' ⟨i,τ',H',I',st',fr',w'⟩
  rcases Qpj i n τ' H' w' with⟨stop,qn⟩|⟨go,step⟩
  ·refine thn (T.done (blk X N' sc (clo X.env sc.names []) HP.objs.size fp s2 H2) rfl rfl rfl hcalm i [] s' τ' H' _ I' (stat fr') st' stop) λr s4 zq=>?_
   obtain⟨hr,I4⟩:=zq
   subst hr
   obtain⟨m4,hn4,_⟩:=I4.loc
   have IX:Inv X pins σ H' s4:=I2.call' (ch:=fp) I4.os I4.base I4.hok I4.bare λb hb=>⟨(f2 b hb).2.2.2.1,(f2 b hb).2.1,(f2 b hb).2.2.2.2.1,(f2 b hb).2.2.2.2.2⟩
   refine hRR _ _ H' s4 m4 IX ?_ hn4 qn
   have z:=I2.fpOk (H':=H') hCle I4.free
   exact z
  ·refine thn (T.item (blk X N' sc (clo X.env sc.names []) HP.objs.size fp s2 H2) rfl rfl rfl hcalm i [] s' τ' H' _ I' (stat fr') st' go) λr s4 zq=>?_
   obtain⟨u,hr,h4⟩:=zq
   subst hr
   refine thn h4 λ_ s5 zq=>?_
   obtain⟨x,H5,I5,r5,y5,st5,fr5⟩:=zq
   have I5':=I5.pinned (stat fr5) (T.obj _ _ st5)
   have keepT:∀{τ7:L2.St}{H7:Hp}{s7:Shared},Inv (blk X N' sc (clo X.env sc.names []) HP.objs.size fp s2 H2) ([]++QfS fp s5.heap) τ7 H7 s7->tn (i+1) s7.heap/\∀b∈fp,H7 b=none:=λ{τ7 H7 s7} I7 =>
    ⟨T.keep _ _ _ st5 λb hb o e=>(I7.pin (b,o) (Zb _ (Zb _ (Qcl hb e)))).1,λb hb=>by
     obtain⟨o,e,d⟩:=T.obj _ _ st5 b hb
     exact(I7.pin (b,o) (Zb _ (Zb _ (Qcl hb e)))).2.1⟩
   refine thn (pg _ s5 τ' H5 x u _ I5' r5 (step x H5 y5)) λ_ s6 zq=>?_
   obtain⟨τ6,H6,I6,q6⟩:=zq
   refine thn (pt _ s6 τ6 H6 _ I6 q6) λok s7 zq=>?_
   obtain⟨H7,I7,q7⟩:=zq
   cases ok with
   |false =>
    rw[zM ZzD]at q7 ⊢
    obtain⟨m',hm,w7⟩:=q7
    obtain⟨k1,k2⟩:=keepT I7
    exact⟨m',hm,i+1,τ6,H7,I7.unpinned,k1,k2,w7⟩
   |true =>
    rw[zF rfl]at q7 ⊢
    refine thn (pe _ s7 τ6 H7 _ I7 q7) λv s8 zq=>?_
    obtain⟨y,H8,I8,r8,ys,hD8,hz,m',hm,w8⟩:=zq
    refine thn (QfL _ s8 τ6 H8 (.ref s2.heap.objs.size) [y] _ [v] (λ_ H9=>H9=upd H8 s2.heap.objs.size (.lst (ys++[y]))) I8 rfl (.cons r8 .nil) ⟨_,ys,y,rfl,rfl,hD8,hz,rfl⟩) λ_ s9 zq=>?_
    obtain⟨_,H9,I9,_,e9⟩:=zq
    subst e9
    obtain⟨k1,k2⟩:=keepT I9
    exact⟨m',hm,i+1,τ6,_,I9.unpinned,k1,k2,w8⟩
 exact codeAny_compStart_list (loop _ rfl) (T.self X.A 0 _ _ _ tn1 (loop _ rfl))
noncomputable def itN:Bool->String
 |true=>"tuple_iterator"
 |false=>"list_iterator"
noncomputable def sqN:Bool->String
 |true=>"tuple"
 |false=>"list"
def isIt(t:Bool)(h:Heap)(it l:Addr)(i:Nat):Prop:=∃o,h.get? it=some o/\o.cls=.type (itN t)/\o.data=.fields #[.ref l,.int i 0]
def isSq(t:Bool)(h:Heap)(l:Addr)(its:Array Value):Prop:=∃o,h.get? l=some o/\o.cls=.type (sqN t)/\∃n,o.data=.seq its n
theorem isIt.on(x:isIt t h it l i)(k:∀o,h.get? it=some o->h'.get? it=some o):isIt t h' it l i:=let ⟨o,e,r⟩:=x;⟨o,k o e,r⟩
theorem isSq.on(x:isSq t h l its)(k:∀o,h.get? l=some o->h'.get? l=some o):isSq t h' l its:=let ⟨o,e,r⟩:=x;⟨o,k o e,r⟩
section
variable {P:Program}{w:World}{A:Around}{E:Value->Shared->Prop}{s:Shared}
theorem Qfz{t:Bool}{it l:Addr}{i:Nat}{its:Array Value}{x:Value}{Q:Value->Shared->Prop}(a:isIt t s.heap it l i)(b:isSq t s.heap l its)(c:its[i]?=some x)
  (q:∀h',isIt t h' it l (i+1)->Heap.SameBut it s.heap h'->Q x { s with heap:=h' }):wpAny (model P w) A (Builtin.SmallTypes.nextOf (.ref it)) Q E s:=by
 cases t with
 |false=>exact wpAny_nextOf_list_item (l:=l) (i:=i) a b c q
 |true =>
  obtain⟨o,eo,ec,ed⟩:=id a
  obtain⟨ol,el,_,n,dl⟩:=b
  have ty:s.TypeIs (.ref it) "tuple_iterator":=⟨o,eo,ec⟩
  refine zd (Zz  ty Z9 (ZS Z9 ty F.entry_tuple_iterator_next ?_ (F.args_tuple_iterator_next_1 _)))
  refine zd (m:=field (.ref it) 0) (Zn eo ed (x:=.ref l) rfl ?_)
  refine zd (m:=field (.ref it) 1) (Zn eo ed (x:=.int i 0) rfl ?_)
  refine zd (m:=seqItems? (.ref l)) (zza el dl ?_)
  simp only[Zt,c]
  refine zd (wpAny_setField eo ed ZzS (zH ⟨x,rfl,zH (q _ ⟨_,Heap.get?_update_self _ eo (Obj.isFreed_of_fields (Obj.data_mapFields ed _)),(Obj.cls_mapFields ..).trans ec,?_⟩ (Heap.SameBut.update ..))⟩))
  rw[Obj.data_mapFields ed]
  simp[rawInt]
theorem QgK{t:Bool}{it l:Addr}{i:Nat}{its:Array Value}{Q:Value->Shared->Prop}(hh:A.handled=none)(a:isIt t s.heap it l i)(b:isSq t s.heap l its)(c:its[i]?=none)
  (q:∀h' e,Heap.ExtBut it s.heap h'->(∃o,h'.get? e=some o/\o.cls=.type "StopIteration")->E (.ref e) { s with heap:=h' }):wpAny (model P w) A (Builtin.SmallTypes.nextOf (.ref it)) Q E s:=by
 cases t with
 |false=>exact wpAny_nextOf_list_end hh (l:=l) (i:=i) a b c q
 |true =>
  obtain⟨o,eo,ec,ed⟩:=id a
  obtain⟨ol,el,_,n,dl⟩:=b
  have ty:s.TypeIs (.ref it) "tuple_iterator":=⟨o,eo,ec⟩
  unfold Builtin.SmallTypes.nextOf
  refine zd (Zz (name:=Str.ofString "__next__") ty Z9 (ZS Z9 ty F.entry_tuple_iterator_next ?_ (F.args_tuple_iterator_next_1 _)))
  refine zd (m:=field (.ref it) 0) (Zn eo ed (x:=.ref l) rfl ?_)
  refine zd (m:=field (.ref it) 1) (Zn eo ed (x:=.int i 0) rfl ?_)
  refine zd (m:=seqItems? (.ref l)) (zza el dl ?_)
  simp only[Zt,c]
  refine zd (wpAny_rule (zd (wpAny_setField eo ed ZzS ?_)))
  refine zd  ?_
  simp only[newExc,newTuple]
  refine zd (zzj (zd (m:=firstArgMember _ _) (wpAny_of_eq (a:=Value.none) (rfl) (zzj ?_ (by size_fits)))) (by size_fits))
  simp only[raiseNew]
  refine zd (wpAny_handled ?_)
  first|rw[show A.in1.handled=none from hh]|rw[hh]
  exact zd (zH (wpAny_throw (q _ _ (((Heap.SameBut.update ..).extBut.push _).push _) ⟨_,zG _ rfl,rfl⟩)))
end
section
variable {P:Program}{w:World}{A:Around}{E:Value->Shared->Prop}{s:Shared}
theorem Qnk{z TI TO i1 i2 l1 l2:Addr}(D:ZipApart z TI TO i1 i2 l1 l2)(hz:IsZip s.heap z TI TO .none)(hI:IsPair s.heap TI (.ref i1) (.ref i2))(hO:IsPair s.heap TO a b)
  (a1:isIt t1 s.heap i1 l1 k) (a2:isIt t2 s.heap i2 l2 k) (b1:isSq t1 s.heap l1 xs) (b2:isSq t2 s.heap l2 ys) (ex:xs[k]?=some x) (ey:ys[k]?=some y)
  (q:∀h',IsZip h' z TI TO (rawInt s.heap.objs.size)->IsPair h' TO x y->isIt t1 h' i1 l1 (k+1)->isIt t2 h' i2 l2 (k+1)->IsPair h' s.heap.objs.size x y->(∀c o,c∉[z,TO,i1,i2]->s.heap.get? c=some o->h'.get? c=some o)->Q (some (.ref s.heap.objs.size)) { s with heap:=h' }) :
  wpAny (model P w) A (pyNext (.ref z)) Q E s:=by
 have ty:s.TypeIs (.ref z) "zip":=⟨_,hz,rfl⟩
 unfold pyNext
 refine zd (wpAny_attempt (Zz (name:=Str.ofString "__next__") ty F.slot_zip_next (ZS F.slot_zip_next ty F.entry_zip_next ?_ (F.args_zip_next_1 _))))
 refine zd (m:=field (.ref z) 2) (Zn hz rfl (x:=.bool false) rfl ?_)
 refine zd (m:=field (.ref z) 3) (Zn hz rfl (x:=.ref TI) rfl (zd (zza hI rfl ?_)))
 refine zd (m:=Builtin.SmallTypes.ownedTupleIsFree (.ref z)) ?_
 unfold Builtin.SmallTypes.ownedTupleIsFree
 refine zd (Zn hz rfl (x:=.none) rfl (zH ?_))
 simp only[if_true]
 refine zd (wpAny_rule (zd (Zn hz rfl (x:=.ref TO) rfl (zd (Zq hz ZzS λg1 z1 s1=>?_)))))
 replace z1:IsZip g1 z TI TO .ellipsis:=z1
 refine zd ?_
 simp only[List.zipIdx_cons,List.zipIdx_nil,List.forIn_cons,List.forIn_nil]
 refine zd (zd (wpAny_onRaise ?_))
 refine zd (m:=Builtin.SmallTypes.nextOf (.ref i1)) (Qfz (l:=l1) (i:=k) (t:=t1) (a1.on λo e=>s1.extBut _ _ D.i1z e) (b1.on λo e=>s1.extBut _ _ D.l1z e) ex λg2 a1' s2=>zH ?_)
 have O2:IsPair g2 TO a b:=s2.extBut _ _ D.TOi1 (s1.extBut _ _ D.TOz hO)
 refine zd (zza O2 rfl (zd (wpAny_updateSeq_pair O2 λg3 O3 s3=>?_)))
 replace O3:IsPair g3 TO x b:=O3
 refine zd (wpAny_letGo (zH (zd (zd (wpAny_onRaise ?_)))))
 refine zd (m:=Builtin.SmallTypes.nextOf (.ref i2)) (Qfz (l:=l2) (i:=k) (t:=t2) (a2.on λo e=>s3.extBut _ _ D.TOi2.symm (s2.extBut _ _ D.i12.symm (s1.extBut _ _ D.i2z e))) (b2.on λo e=>s3.extBut _ _ D.l2TO (s2.extBut _ _ D.l2i1 (s1.extBut _ _ D.l2z e))) ey λg4 a2' s4=>zH ?_)
 have O4:IsPair g4 TO x b:=s4.extBut _ _ D.TOi2 O3
 refine zd (zza O4 rfl (zd (wpAny_updateSeq_pair O4 λg5 O5 s5=>?_)))
 replace O5:IsPair g5 TO x y:=O5
 refine zd (wpAny_letGo (zH (zH (zd (zza O5 rfl (zd (wpAny_newTuple ?_)))))))
 have sz:g5.objs.size=s.heap.objs.size:=by rw[s5.1,s4.1,s3.1,s2.1,s1.1]
 have z5:IsZip g5 z TI TO .ellipsis:=s5.extBut _ _ D.TOz.symm (s4.extBut _ _ D.i2z.symm (s3.extBut _ _ D.TOz.symm (s2.extBut _ _ D.i1z.symm z1)))
 have k5:∀c o,c∉[z,TO,i1,i2]->s.heap.get? c=some o->g5.get? c=some o:=λc o hc e=>by simp only[zS,Zr,zzM,not_or]at hc;exact s5.extBut _ _ hc.2.1 (s4.extBut _ _ hc.2.2.2 (s3.extBut _ _ hc.2.1 (s2.extBut _ _ hc.2.2.1 (s1.extBut _ _ hc.1 e))))
 have p1:isIt t1 g5 i1 l1 (k+1):=a1'.on λo e=>s5.extBut _ _ D.TOi1.symm (s4.extBut _ _ D.i12 (s3.extBut _ _ D.TOi1.symm e))
 have p2:isIt t2 g5 i2 l2 (k+1):=a2'.on λo e=>s5.extBut _ _ D.TOi2.symm e
 have zlt:z<g5.objs.size:=zL z5
 refine zd (m:=Builtin.SmallTypes.ownedTupleHandOut (.ref z) (.ref g5.objs.size)) ?_
 unfold Builtin.SmallTypes.ownedTupleHandOut
 refine zd (Zq (hps0 _ z5) ZzS λg7 z7 s7=>?_)
 replace z7:IsZip g7 z TI TO (rawInt g5.objs.size):=z7
 refine Zq z7 ZzS λg8 z8 s8=>?_
 replace z8:IsZip g8 z TI TO (rawInt g5.objs.size):=z8
 have up:∀c o,c≠z->g5.get? c=some o->g8.get? c=some o:=λc o c1 e=>s8.extBut _ _ c1 (s7.extBut _ _ c1 (hps0 _ e))
 have T8:IsPair g8 g5.objs.size x y:=s8.extBut _ _ (ZO zlt) (s7.extBut _ _ (ZO zlt) (zG _ rfl))
 rw[sz]at z8 T8
 refine zH ⟨_,rfl,zH ?_⟩
 show Q (some (.ref g5.objs.size)) _
 rw[sz]
 exact q g8 z8 (up _ _ D.TOz O5) (p1.on λo e=>up _ o D.i1z e) (p2.on λo e=>up _ o D.i2z e) T8 λc o hc e=>up c o (λz=>hc (by simp[z])) (k5 c o hc e)
theorem Qmg{z TI TO i1 i2 l1 l2:Addr}(hh:A.handled=none)(D:ZipApart z TI TO i1 i2 l1 l2)(hz:IsZip s.heap z TI TO .none)(hI:IsPair s.heap TI (.ref i1) (.ref i2))(hO:IsPair s.heap TO a b)
  (a1:isIt t1 s.heap i1 l1 k) (a2:isIt t2 s.heap i2 l2 k) (b1:isSq t1 s.heap l1 xs) (b2:isSq t2 s.heap l2 ys) (en:xs[k]?=none\/ys[k]?=none)
  (q:∀h',(∀c o,c∉[z,TO,i1,i2]->s.heap.get? c=some o->h'.get? c=some o)->Q none { s with heap:=h' }):wpAny (model P w) A (pyNext (.ref z)) Q E s:=by
 have ty:s.TypeIs (.ref z) "zip":=⟨_,hz,rfl⟩
 unfold pyNext
 refine zd (wpAny_attempt (Zz (name:=Str.ofString "__next__") ty F.slot_zip_next (ZS F.slot_zip_next ty F.entry_zip_next ?_ (F.args_zip_next_1 _))))
 refine zd (m:=field (.ref z) 2) (Zn hz rfl (x:=.bool false) rfl ?_)
 refine zd (m:=field (.ref z) 3) (Zn hz rfl (x:=.ref TI) rfl (zd (zza hI rfl ?_)))
 refine zd (m:=Builtin.SmallTypes.ownedTupleIsFree (.ref z)) ?_
 unfold Builtin.SmallTypes.ownedTupleIsFree
 refine zd (Zn hz rfl (x:=.none) rfl (zH ?_))
 simp only[if_true]
 refine zd (wpAny_rule (zd (Zn hz rfl (x:=.ref TO) rfl (zd (Zq hz ZzS λg1 z1 s1=>?_)))))
 replace z1:IsZip g1 z TI TO .ellipsis:=z1
 refine zd ?_
 refine zd (zd (wpAny_onRaise ?_))
 have fin:∀{h':Heap}{e:Addr},(∃o,h'.get? e=some o/\o.cls=.type "StopIteration")->(∀c o,c∉[z,TO,i1,i2]->s.heap.get? c=some o->h'.get? c=some o) ->
   wpAny (model P w) A (isInstance (.ref e) (.type "StopIteration")) (λr s'=>wpAny (model P w) A (if r=true then pure none else throw (Value.ref e)) Q E s') E { s with heap:=h' }:=λ{h' e} ⟨o,ho,hc⟩ kk =>
  wpAny_isInstance (T:="StopIteration") (b:=true) ⟨o,ho,hc⟩ isSubtype_stop (zH (q _ kk))
 cases hx:xs[k]? with
 |none =>
  refine zd (m:=Builtin.SmallTypes.nextOf (.ref i1)) (QgK (l:=l1) (i:=k) (t:=t1) hh (a1.on λo e=>s1.extBut _ _ D.i1z e) (b1.on λo e=>s1.extBut _ _ D.l1z e) hx λg2 e s2 he=>?_)
  obtain⟨oe,ho,hc⟩:=he
  have z2:IsZip g2 z TI TO .ellipsis:=s2 _ _ D.i1z.symm z1
  have ez:e≠z:=λr=>by subst r;rw[z2]at ho;cases ho;simp at hc
  refine Zq z2 ZzS λg3 _ s3=>zd (fin ⟨oe,s3.extBut _ _ ez ho,hc⟩ λc o hc e=>?_)
  simp only[zS,Zr,zzM,not_or]at hc
  exact s3.extBut _ _ hc.1 (s2 _ _ hc.2.2.1 (s1.extBut _ _ hc.1 e))
 |some x =>
  have hy:ys[k]?=none:=by rcases en with r|r;rw[hx]at r;cases r;exact r
  refine zd (m:=Builtin.SmallTypes.nextOf (.ref i1)) (Qfz (l:=l1) (i:=k) (t:=t1) (a1.on λo e=>s1.extBut _ _ D.i1z e) (b1.on λo e=>s1.extBut _ _ D.l1z e) hx λg2 a1' s2=>zH ?_)
  have O2:IsPair g2 TO a b:=s2.extBut _ _ D.TOi1 (s1.extBut _ _ D.TOz hO)
  refine zd (zza O2 rfl (zd (wpAny_updateSeq_pair O2 λg3 O3 s3=>?_)))
  refine zd (wpAny_letGo (zH (zd (zd (wpAny_onRaise ?_)))))
  refine zd (m:=Builtin.SmallTypes.nextOf (.ref i2)) (QgK (l:=l2) (i:=k) (t:=t2) hh (a2.on λo e=>s3.extBut _ _ D.TOi2.symm (s2.extBut _ _ D.i12.symm (s1.extBut _ _ D.i2z e))) (b2.on λo e=>s3.extBut _ _ D.l2TO (s2.extBut _ _ D.l2i1 (s1.extBut _ _ D.l2z e))) hy λg4 e s4 he=>?_)
  obtain⟨oe,ho,hc⟩:=he
  have z4:IsZip g4 z TI TO .ellipsis:=s4 _ _ D.i2z.symm (s3.extBut _ _ D.TOz.symm (s2.extBut _ _ D.i1z.symm z1))
  have ez:e≠z:=λr=>by subst r;rw[z4]at ho;cases ho;simp at hc
  refine Zq z4 ZzS λg5 _ s5=>zd (fin ⟨oe,s5.extBut _ _ ez ho,hc⟩ λc o hc e=>?_)
  simp only[zS,Zr,zzM,not_or]at hc
  exact s5.extBut _ _ hc.1 (s4 _ _ hc.2.2.2 (s3.extBut _ _ hc.2.1 (s2.extBut _ _ hc.2.2.1 (s1.extBut _ _ hc.1 e))))
end
section
variable {P:Program}{w:World}{A:Around}{E:Value->Shared->Prop}{s:Shared}
theorem QeI(a:isSq t s.heap l its)(q:Q (.ref s.heap.objs.size) { s with heap:=s.heap.push { cls:=.type (itN t),data:=.fields #[.ref l,.int 0 0] } }):wpAny (model P w) A (pyIter (.ref l)) Q E s:=by cases t;exact zzJ a q;exact wpAny_pyIter_tuple a q
noncomputable abbrev zh1(t1:Bool)(h:Heap)(l1:Addr):Heap:=h.push { cls:=.type (itN t1),data:=.fields #[.ref l1,.int 0 0] }
noncomputable abbrev zh2(t1 t2:Bool)(h:Heap)(l1 l2:Addr):Heap:=(zh1 t1 h l1).push { cls:=.type (itN t2),data:=.fields #[.ref l2,.int 0 0] }
noncomputable abbrev zh3(t1 t2:Bool)(h:Heap)(l1 l2:Addr):Heap:=(zh2 t1 t2 h l1 l2).push { cls:=.type "tuple",data:=.seq #[.ref h.objs.size,.ref (zh1 t1 h l1).objs.size] }
noncomputable abbrev zh4(t1 t2:Bool)(h:Heap)(l1 l2:Addr):Heap:=(zh3 t1 t2 h l1 l2).push { cls:=.type "tuple",data:=.seq #[.none,.none] }
noncomputable abbrev zh5(t1 t2:Bool)(h:Heap)(l1 l2:Addr):Heap:=(zh4 t1 t2 h l1 l2).push { cls:=.type "zip",data:=.fields #[.none,.bool false,.bool false,.ref (zh2 t1 t2 h l1 l2).objs.size,.ref (zh3 t1 t2 h l1 l2).objs.size] }
theorem Qn6(t1 t2)(l1 l2)(xs ys):Meets (Builtin.«zip.__new__» ⟨[.type "zip",.ref l1,.ref l2],[]⟩) (λ_ R s=>isSq t1 s.heap l1 xs/\isSq t2 s.heap l2 ys/\R (.ok (.ret (.ref (zh4 t1 t2 s.heap l1 l2).objs.size))) { s with heap:=zh5 t1 t2 s.heap l1 l2 }) :=
 .of_wp λP w A R s h=>by
  obtain⟨hp,g,d,tk,os⟩:=s
  obtain⟨c1,c2,h⟩:=h
  have hsub:=sub_zip
  have m1 :=c1
  have m2:isSq t2 (Shared.heap ⟨hp.push { cls:=.type (itN t1),data:=.fields #[.ref l1,.int 0 0] },g,d,tk,os⟩) l2 ys:=c2.on λo e=>hps0 _ e
  wp_walk using QeI m1,QeI m2
  exact⟨_,rfl,h⟩
theorem Qms(c1:isSq t1 s.heap l1 xs)(c2:isSq t2 s.heap l2 ys)
  (q:∀h',IsZip h' (s.heap.objs.size+4) (s.heap.objs.size+2) (s.heap.objs.size+3) .none->IsPair h' (s.heap.objs.size+2) (.ref s.heap.objs.size) (.ref (s.heap.objs.size+1))->IsPair h' (s.heap.objs.size+3) .none .none ->
   isIt t1 h' s.heap.objs.size l1 0->isIt t2 h' (s.heap.objs.size+1) l2 0->(∀c o,s.heap.get? c=some o->h'.get? c=some o)->Q (.ref (s.heap.objs.size+4)) { s with heap:=h' }):wpAny (model P w) A (call (.type "zip") [.ref l1,.ref l2]) Q E s:=by
 refine callType_new F.called_zip ZzD (F.typeCall_zip_2 _ _) (F.newCall_zip_2 _ _) (λobj=>F.args_object_init_3 obj _ _) F.entry_zip_new (Qn6 t1 t2 l1 l2 xs ys) ⟨c1,c2,?_⟩
 have n1:(zh1 t1 s.heap l1).objs.size=s.heap.objs.size+1:=ZW ..
 have n2:(zh2 t1 t2 s.heap l1 l2).objs.size=s.heap.objs.size+2:=by rw[ZW,n1]
 have n3:(zh3 t1 t2 s.heap l1 l2).objs.size=s.heap.objs.size+3:=by rw[ZW,n2]
 have n4:(zh4 t1 t2 s.heap l1 l2).objs.size=s.heap.objs.size+4:=by rw[ZW,n3]
 have g5:(zh5 t1 t2 s.heap l1 l2).get? (zh4 t1 t2 s.heap l1 l2).objs.size=some _:=zG _ rfl
 have g4:(zh5 t1 t2 s.heap l1 l2).get? (zh3 t1 t2 s.heap l1 l2).objs.size=some _:=hps0 _ (zG _ rfl)
 have g3:(zh5 t1 t2 s.heap l1 l2).get? (zh2 t1 t2 s.heap l1 l2).objs.size=some _:=hps0 _ (hps0 _ (zG _ rfl))
 have g2:(zh5 t1 t2 s.heap l1 l2).get? (zh1 t1 s.heap l1).objs.size=some _:=hps0 _ (hps0 _ (hps0 _ (zG _ rfl)))
 have g1:(zh5 t1 t2 s.heap l1 l2).get? s.heap.objs.size=some _:=hps0 _ (hps0 _ (hps0 _ (hps0 _ (zG _ rfl))))
 show _/\_
 rw[n2,n3,n4]at g5
 rw[n1,n2]at g3
 rw[n3]at g4
 rw[n1]at g2
 rw[n4]
 exact⟨⟨_,g5,rfl⟩,q _ g5 g3 g4 ⟨_,g1,rfl,rfl⟩ ⟨_,g2,rfl,rfl⟩ λc o x=>hps0 _ (hps0 _ (hps0 _ (hps0 _ (hps0 _ x))))⟩
end
section
variable {P:Program}{w:World}{A:Around}{E:Value->Shared->Prop}{s:Shared}
theorem Qkg(he:IsEnum s.heap e it c old)(a:isIt t s.heap it l i)(b:isSq t s.heap l its)(ex:its[i]?=some x)(ne:e≠it)
  (q:∀h' tk,IsEnumOut h' e it (c+1) x s.heap.objs.size->isIt t h' it l (i+1)->IsPair h' s.heap.objs.size (.int c tk) x->(∀b o,b∉[e,it]->s.heap.get? b=some o->h'.get? b=some o)->Q (some (.ref s.heap.objs.size)) { s with heap:=h',toks:=tk+1 }) :
  wpAny (model P w) A (pyNext (.ref e)) Q E s:=by
 have ty:s.TypeIs (.ref e) "enumerate":=⟨_,he,rfl⟩
 unfold pyNext
 refine zd (wpAny_attempt (Zz (name:=Str.ofString "__next__") ty zzG (ZS zzG ty F.entry_enumerate_next ?_ (F.args_enumerate_next_1 _))))
 refine zd (m:=field (.ref e) 2) (Zn he rfl (x:=.ref it) rfl ?_)
 refine zd (m:=Builtin.SmallTypes.nextOf (.ref it)) (Qfz (l:=l) (i:=i) (t:=t) a b ex λg1 a1 s1=>?_)
 have e1:IsEnum g1 e it c old:=(s1.2 e ne).trans he
 refine zd (m:=field (.ref e) 3) (Zn e1 rfl (x:=rawInt c) rfl ?_)
 refine zd (m:=field (.ref e) 4) (Zn e1 rfl (x:=.none) rfl ?_)
 refine zd (m:=mkInt c) (wpAny_mkInt ?_)
 refine zd (m:=setField (.ref e) 3 (rawInt (c+1))) (Zq e1 ZzS λg2 e2 s2=>?_)
 replace e2:IsEnum g2 e it (c+1) old:=e2
 refine zd (m:=setField (.ref e) 4 .none) (Zq e2 ZzS λg3 e3 s3=>?_)
 replace e3:IsEnum g3 e it (c+1) old:=e3
 refine zd (m:=newTuple [.int c s.toks,x]) (wpAny_newTuple ?_)
 have e4:IsEnum (g3.push { cls:=.type "tuple",data:=.seq #[.int c s.toks,x] }) e it (c+1) old:=hps0 _ e3
 have sz:g3.objs.size=s.heap.objs.size:=by rw[s3.1,s2.1,s1.1]
 have el:e<s.heap.objs.size:=zL he
 generalize hg:g3.push { cls:=.type "tuple",data:=.seq #[.int c s.toks,x] }=g4 at e4
 have T4:IsPair g4 s.heap.objs.size (.int c s.toks) x:=by rw[<- hg,<- sz];exact zG _ rfl
 have k4:∀b o,b∉[e,it]->s.heap.get? b=some o->g4.get? b=some o:=λb o hb eb=>by simp only[zS,Zr,zzM,not_or]at hb;rw[<- hg];exact hps0 _ (s3.extBut b o hb.1 (s2.extBut b o hb.1 (s1.extBut b o hb.2 eb)))
 have i4:isIt t g4 it l (i+1):=a1.on λo y=>by rw[<- hg];exact hps0 _ (s3.extBut it o ne.symm (s2.extBut it o ne.symm y))
 refine zd (m:=Builtin.SmallTypes.ownedTupleIsFree (.ref e)) ?_
 unfold Builtin.SmallTypes.ownedTupleIsFree
 rw[sz]
 refine zd (Zn (s:=⟨g4,_,_,_,_⟩) e4 rfl (x:=.none) rfl (zH ?_))
 simp only[if_true]
 refine zd (wpAny_rule (zd (Zn e4 rfl (x:=old) rfl (zd (Zq e4 ZzS λg5 e5 s5=>?_)))))
 replace e5:IsEnum g5 e it (c+1) x:=e5
 replace s5:Heap.SameBut e g4 g5:=s5
 refine zd  ?_
 unfold Builtin.SmallTypes.ownedTupleHandOut
 refine zd (Zq e5 ZzS λg6 e6 s6=>?_)
 replace e6:IsEnumOut g6 e it (c+1) x s.heap.objs.size:=e6
 replace s6:Heap.SameBut e g5 g6:=s6
 refine Zq e6 ZzS λg7 e7 s7=>?_
 replace e7:IsEnumOut g7 e it (c+1) x s.heap.objs.size:=e7
 replace s7:Heap.SameBut e g6 g7:=s7
 have up:∀b o,b≠e->g4.get? b=some o->g7.get? b=some o:=λb o hb y=>s7.extBut b o hb (s6.extBut b o hb (s5.extBut b o hb y))
 exact zd (wpAny_letGo (zH ⟨_,rfl,zH (q g7 s.toks e7 (i4.on λo y=>up it o ne.symm y) (up _ _ (ZO el) T4) λb o hb y=>up b o (λz=>hb (by simp[z])) (k4 b o hb y))⟩))
theorem QkP(hh:A.handled=none)(he:IsEnum s.heap e it c old)(a:isIt t s.heap it l i)(b:isSq t s.heap l its)(ex:its[i]?=none)
  (q:∀h',Heap.ExtBut it s.heap h'->Q none { s with heap:=h' }):wpAny (model P w) A (pyNext (.ref e)) Q E s:=by
 have ty:s.TypeIs (.ref e) "enumerate":=⟨_,he,rfl⟩
 refine zd (wpAny_attempt (Zz  ty zzG (ZS zzG ty F.entry_enumerate_next ?_ (F.args_enumerate_next_1 _))))
 refine zd (m:=field (.ref e) 2) (Zn he rfl (x:=.ref it) rfl ?_)
 refine zd  (QgK (l:=l) (i:=i) (t:=t) hh a b ex λg1 x s1 hx=>?_)
 obtain⟨o,ho,hc⟩:=hx
 exact zd (wpAny_isInstance  (b:=true) ⟨o,ho,hc⟩ isSubtype_stop (zH (q _ s1)))
end
def SqB(K:Fg0)(t:Bool)(H:Hp)(a:Addr)(xs:List V):Prop:=match t with
 |true=>SqT K H a xs
 |false=>SqL K H a xs
section
variable {X:Cx}{pins:List (Addr×Obj)}{σ:L2.St}{H:Hp}{s:Shared}{t:Bool}{a b:Addr}{xs ys:List V}
theorem SqB.at_(I:Inv X pins σ H s)(q:SqB X.K t H a xs):∃its:List Value,Vals xs its/\isSq t s.heap a its.toArray:=by
 cases t with
 |false=>obtain⟨its,r,p,_⟩:=I.list q;exact⟨its,r,p.isList⟩
 |true=>obtain⟨its,r,p,_⟩:=I.tuple q;exact⟨its,r,p⟩
theorem SqB.inj(I:Inv X pins σ H s)(q:SqB X.K t H a xs)(r:SqB X.K t H a ys):xs=ys:=by
 cases t with
 |false=>exact I.list_inj q r
 |true=>exact I.tuple_inj q r
theorem Rd.ne(r:Rd H a u)(f:H b=none):a≠b:=by rintro rfl;rcases r with r|⟨_,r⟩<;>rw[f]at r<;>cases r
theorem QnR(I:Inv X pins σ H s)(k:X.K.lookup a=some o)(f:Qig X pins H b):a≠b:=by rintro rfl;have e:=I.mod.kin a o k;rcases f.2.2.2.1 with z|z;exact I.ok.noex a o e z;exact absurd (zj (zL e) (zf I.ok.bsz z)) (ZN _)
theorem SqB.ne(I:Inv X pins σ H s)(q:SqB X.K t H a xs)(f:Qig X pins H b):a≠b:=by
 cases t with
 |false=>rcases q with q|⟨o,_,_,k,_⟩;exact Rd.ne q f.1;exact QnR I k f
 |true=>rcases q with q|⟨o,_,_,k,_⟩;exact Rd.ne q f.1;exact QnR I k f
theorem Qht{fp:List Addr}{h':Heap}{t':Nat}{x y:V}{u v:Value}(I:Inv X pins σ H s)(hf:∀b∈fp,Qig X pins H b)(k:∀b o,b∉fp->s.heap.get? b=some o->h'.get? b=some o)(hp:IsPair h' s.heap.objs.size u v)(ru:RelV x u)(rv:RelV y v) :
  Inv X pins σ (upd H s.heap.objs.size (.tup [x,y])) { s with heap:=h',toks:=t' }:=by
 have hn:=I.fresh
 have nz:∀c (o:HO),H c=some o->c≠s.heap.objs.size:=λc o e z=>by rw[z,hn]at e;cases e
 have lt:∀b o,s.heap.get? b=some o->b≠s.heap.objs.size:=λb o e=>zU (zL e)
 have nf:∀c (o:HO),H c=some o->c∉fp:=λc o e z=>by rw[(hf c z).1]at e;cases e
 refine I.step (g':=s.gens) (d':=s.drawn) (ch:=fp) (λb hb=>?_) (λb o _ _ hc e _=>k b o hc e) (λb o _ _ hc e _=>⟨o.slots,k b o hc e⟩) (λb o _ e n=>by rw[Qas (lt b o e)];exact n)
  (λb o hc e=>⟨o,k b o hc e⟩) (λb _ e=>by rw[Qas (nz b _ e)];exact e) (λb _ _ e=>by rw[Qas (nz b _ e)];exact e) (λb ps e=>⟨#[],by rw[Qas (nz b _ e),e];simp⟩) (λm hm=>?_) (λb o e=>?_) I.bare
 ·obtain⟨_,f1,_,f3,f4,f5⟩:=hf b hb
  exact⟨f3,f1,f4,f5⟩
 ·obtain⟨o,es,ep,ho,r⟩:=hm
  exact⟨o,es,ep,k _ o (λz=>(hf _ z).2.1 rfl) ho,r⟩
 ·by_cases hb:b=s.heap.objs.size
  ·subst hb
   rw[Qau]at e
   cases e
   exact⟨by show 2<=sizeLine;decide,[u,v],.cons ru (.cons rv .nil),⟨_,hp,rfl,_,rfl⟩⟩
  ·rw[Qas hb]at e
   refine(I.hok b o e).stay (λc v hc q=>k c v ?_ q) (λc q=>by rw[Qas (nz c _ q)];exact q) λc _ q=>by rw[Qas (nz c _ q)];exact q
   grind
theorem QeD{fp:List Addr}{h':Heap}{t':Nat}(I:Inv X pins σ H s)(hf:∀b∈fp,Qig X pins H b)(k:∀b o,b∉fp->s.heap.get? b=some o->h'.get? b=some o):Inv X pins σ H { s with heap:=h',toks:=t' }:=by
 have nf:∀c (o:HO),H c=some o->c∉fp:=λc o e z=>by rw[(hf c z).1]at e;cases e
 refine I.step (g':=s.gens)  (ch:=fp) (λb hb=>?_) (λb o _ _ hc e _=>k b o hc e) (λb o _ _ hc e _=>⟨o.slots,k b o hc e⟩) (λb o _ e n=>n)
  (λb o hc e=>⟨o,k b o hc e⟩) (λb _ e=>e) (λb _ _ e=>e) (λb ps e=>⟨#[],by rw[e];simp⟩) (λm hm=>?_) (λb o e=>?_) I.bare
 ·obtain⟨_,f1,_,f3,f4,f5⟩:=hf b hb
  exact⟨f3,f1,f4,f5⟩
 ·obtain⟨o,es,ep,ho,r⟩:=hm
  exact⟨o,es,ep,k _ o (λz=>(hf _ z).2.1 rfl) ho,r⟩
 ·refine(I.hok b o e).stay (λc v hc q=>k c v ?_ q) (λc q=>q) λc _ q=>q
  grind
end
noncomputable def Itz(K:Fg0)(t1 t2:Bool)(a b:Addr):L2.It :=
 ⟨λi H => ∃xs ys x y, SqB K t1 H a xs /\ SqB K t2 H b ys /\ xs[i]? = some x /\ ys[i]? = some y,
  λi H v H'=>∃p x y,H p=none/\v=.ref p/\H'=upd H p (.tup [x,y])/\(∀xs,SqB K t1 H a xs->xs[i]?=some x)/\∀ys,SqB K t2 H b ys->ys[i]?=some y,
  λi H => ∃xs ys, SqB K t1 H a xs /\ SqB K t2 H b ys /\ (xs.length <= i \/ ys.length <= i)⟩
noncomputable def Ite(K:Fg0)(t:Bool)(c:Int)(a:Addr):L2.It :=
 ⟨λi H => ∃xs x, SqB K t H a xs /\ xs[i]? = some x,
  λi H v H'=>∃p x,H p=none/\v=.ref p/\H'=upd H p (.tup [.int (c+i),x])/\∀xs,SqB K t H a xs->xs[i]?=some x,
  λi H => ∃xs, SqB K t H a xs /\ xs.length <= i⟩
def tnZ(t1 t2:Bool)(a b n:Addr)(i:Nat)(h:Heap):Prop:=IsZip h (n+4) (n+2) (n+3) .none/\IsPair h (n+2) (.ref n) (.ref (n+1))/\(∃u v,IsPair h (n+3) u v)/\isIt t1 h n a i/\isIt t2 h (n+1) b i
noncomputable abbrev fpZ(n:Addr):List Addr:=[n+4,n+2,n+3,n,n+1]
theorem apart{n a b:Addr}(ha:∀c∈fpZ n,a≠c)(hb:∀c∈fpZ n,b≠c):ZipApart (n+4) (n+2) (n+3) n (n+1) a b:=by refine⟨?_,?_,?_,?_,?_,?_,?_,?_,?_,?_,ha _ ZzS,ha _ ZzS,ha _ ZzS,ha _ ZzS,hb _ ZzS,hb _ ZzS,hb _ ZzS,hb _ ZzS⟩<;>(simp)
theorem QlW{P:Program}{w:World}{K:Fg0}(t1 t2)(a b n):Turn P w K (.Tuple es x1 pos) (Itz K t1 t2 a b) (fpZ n) (n+4) (tnZ t1 t2 a b n) where
 mem:=ZzS
 obj:=λi h ⟨q1,q2,⟨u,v,q3⟩,⟨o4,q4,_,d4⟩,⟨o5,q5,_,d5⟩⟩ c hc=>by grind
 keep:=λi h h' ⟨q1,q2,⟨u,v,q3⟩,q4,q5⟩ k=>⟨k _ ZzS _ q1,k _ ZzS _ q2,⟨u,v,k _ ZzS _ q3⟩,q4.on λo e=>k _ ZzS o e,q5.on λo e=>k _ ZzS o e⟩
 item:=by
  intro X hP hw hK hc i pins s σ H E I hf st hg;subst hP hw hK;obtain⟨xs,ys,x,y,s1,s2,ex,ey⟩:=hg;obtain⟨q1,q2,⟨u,v,q3⟩,q4,q5⟩:=st;obtain⟨is1,r1,p1⟩:=s1.at_ I;obtain⟨is2,r2,p2⟩:=s2.at_ I;obtain⟨ux,hux,rx⟩:=r1.get ex;obtain⟨uy,huy,ry⟩:=r2.get ey;have D:=apart (n:=n) (a:=a) (b:=b) (λc hc=>s1.ne I (hf c hc)) (λc hc=>s2.ne I (hf c hc));refine Qnk D q1 q2 q3 q4 q5 p1 p2 (x:=ux) (y:=uy) (by simpa using hux) (by simpa using huy) λh' z1 z2 z3 z4 z5 kk=>⟨_,rfl,?_⟩;refine wpAny_letOwnedTupleGo_zip z1 λh2 y1 sb=>?_;have kz:∀c o,c∉fpZ n->s.heap.get? c=some o->h2.get? c=some o:=λc o hc e=>sb.extBut _ _ (λz=>hc (by simp[z])) (kk c o (λz=>hc (by grind)) e);have hz:n+4<s.heap.objs.size:=zL q1;have I1:=Qht (t':=s.toks) I hf kz (sb.extBut _ _ (ZO hz) z5) rx ry
  refine⟨.ref s.heap.objs.size,_,I1,rfl,⟨_,x,y,I.fresh,rfl,rfl,λzs hs=>by rw[SqB.inj I hs s1];exact ex,λzs hs=>by rw[SqB.inj I hs s2];exact ey⟩,
   ⟨y1,?_,⟨_,_,sb.extBut _ _ (by show @Ne Nat _ _;lia) z2⟩,z3.on λo e=>sb.extBut _ _ (by show @Ne Nat _ _;lia) e,z4.on λo e=>sb.extBut _ _ (by show @Ne Nat _ _;lia) e⟩,λb hb=>?_⟩
  refine sb.extBut _ _ (by show @Ne Nat _ _;lia) (kk _ _ ?_ q2);simp only[zS,Zr,zzM];rintro (z|z|z|z)<;>exact absurd z (by show @Ne Nat _ _;lia);have:b<s.heap.objs.size:=by grind
  rw[Qas (zU this)];exact(hf b hb).1
 done:=by
  intro X hP hw hK hc i pins s σ H E I hf st hg;subst hP hw hK;obtain⟨xs,ys,s1,s2,en⟩:=hg;obtain⟨q1,q2,⟨u,v,q3⟩,q4,q5⟩:=st;obtain⟨is1,r1,p1⟩:=s1.at_ I;obtain⟨is2,r2,p2⟩:=s2.at_ I;have D:=apart (n:=n) (a:=a) (b:=b) (λc hc=>s1.ne I (hf c hc)) (λc hc=>s2.ne I (hf c hc));have l1:=r1.length;have l2:=r2.length
  refine Qmg (I.ok.hd hc) D q1 q2 q3 q4 q5 p1 p2 (by simp;lia) λh' kk=>⟨rfl,QeD (t':=s.toks) I hf λc o hc e=>kk c o (λz=>hc (by
   simp only[zS,Zr,zzM]at z ⊢
   rcases z with z|z|z|z
   ·exact .inl z
   ·exact .inr (.inr (.inl z))
   ·exact .inr (.inr (.inr (.inl z)))
   ·exact .inr (.inr (.inr (.inr z))))) e⟩
 self:=λA i s Q E st h=>wpAny_pyIter_zip st.1 h
def tnE(t:Bool)(c:Int)(a n:Addr)(i:Nat)(h:Heap):Prop:=(∃old,IsEnum h (n+1) n (c+i) old)/\isIt t h n a i
theorem Qki{P:Program}{w:World}{K:Fg0}(t)(c)(a n):Turn P w K (.Tuple es x1 pos) (Ite K t c a) [n+1,n] (n+1) (tnE t c a n) where
 mem:=ZzS
 obj:=λi h ⟨⟨old,q1⟩,⟨o2,q2,_,d2⟩⟩ b hb=>by grind
 keep:=λi h h' ⟨⟨old,q1⟩,q2⟩ k=>⟨⟨old,k _ ZzS _ q1⟩,q2.on λo e=>k _ ZzS o e⟩
 item:=by
  intro X hP hw hK hc i pins s σ H E I hf st hg;subst hP hw hK;obtain⟨xs,x,s1,ex⟩:=hg;obtain⟨⟨old,q1⟩,q2⟩:=st;obtain⟨is1,r1,p1⟩:=s1.at_ I;obtain⟨ux,hux,rx⟩:=r1.get ex;refine Qkg q1 q2 p1 (x:=ux) (by simpa using hux) (by show @Ne Nat _ _;lia) λh' tk z1 z2 z3 kk=>⟨_,rfl,?_⟩;refine wpAny_letOwnedTupleGo_enum z1 λh2 y1 sb=>?_;have kz:∀c o,c∉[n+1,n]->s.heap.get? c=some o->h2.get? c=some o:=λc o hc e=>sb.extBut _ _ (λz=>hc (by simp[z])) (kk c o hc e);have hz:n+1<s.heap.objs.size:=zL q1;have I1:=Qht (t':=tk+1) (x:=.int (c+i)) I hf kz (sb.extBut _ _ (ZO hz) z3) ⟨_,rfl⟩ rx;refine⟨.ref s.heap.objs.size,_,I1,rfl,⟨_,x,I.fresh,rfl,rfl,λzs hs=>by rw[SqB.inj I hs s1];exact ex⟩,⟨⟨ux,?_⟩,z2.on λo e=>sb.extBut _ _ (by show @Ne Nat _ _;lia) e⟩,λb hb=>?_⟩;have e:(c+((i+1:Nat):Int))=c+(i:Int)+1:=ZzL;rw[e];exact y1;have:b<s.heap.objs.size:=by have hb':=hb;simp only[zS,Zr,zzM]at hb';have hz':@LT.lt Nat _ (n+1) s.heap.objs.size:=hz;rcases hb' with rfl|rfl<;>(show @LT.lt Nat _ _ _;lia)
  rw[Qas (zU this)];exact(hf b hb).1
 done:=by intro X hP hw hK hc i pins s σ H E I hf st hg;subst hP hw hK;obtain⟨xs,s1,en⟩:=hg;obtain⟨⟨old,q1⟩,q2⟩:=st;obtain⟨is1,r1,p1⟩:=s1.at_ I;have l1:=r1.length;exact QkP (I.ok.hd hc) q1 q2 p1 (by simp;lia) λh' kk=>⟨rfl,QeD (t':=s.toks) I hf λc o hc e=>kk c o (λz=>hc (by simp[z])) e⟩
 self:=λA i s Q E ⟨⟨_,q1⟩,_⟩ h=>wpAny_pyIter_enum q1 h
section
variable {P:Program}{w:World}{A:Around}{E:Value->Shared->Prop}{s:Shared}
noncomputable abbrev kw1(tk:Tok):List (Str×Value):=[("start",.int 1 tk)]
theorem QiJ(t)(tk0)(l)(its)(n)(dct)(sl : Array (Option Value)) : Meets (Builtin.«enumerate.__new__» ⟨[.type "enumerate", .ref l], kw1 tk0⟩) (λ_ R s => s.heap.get? l = some { cls := .type (sqN t), dict := dct, data := .seq its n, slots := sl } /\
   R (.ok (.ret (.ref (zh1 t s.heap l).objs.size))) { s with heap:=(zh1 t s.heap l).push { cls:=.type "enumerate",data:=.fields #[.none,.bool false,.ref s.heap.objs.size,rawInt 1,.none,.none] } }) :=
 .of_wp λP w A R s h=>by
  obtain⟨hp,g,d,tk,os⟩:=s
  obtain⟨c1,h⟩:=h
  have hsub:=sub_enumerate
  have m1:isSq t (Shared.heap ⟨hp,g,d,tk,os⟩) l its:=⟨_,c1,rfl,n,rfl⟩
  wp_walk using zzW c1
  refine wpAny_stack_any λst=>zH ?_
  split
  ·rename_i c _ _ _ _ _
   cases (c==Value.type "enumerate")<;>(wp_walk using zzW c1,QeI m1;exact⟨_,rfl,h⟩)
  ·wp_walk using zzW c1,QeI m1
   exact⟨_,rfl,h⟩
theorem Qo6(a b)(tk):argsOk "object.__init__" ⟨[a,b],kw1 tk⟩:=by rfl
theorem QiT:Meets (Builtin.«object.__init__» ⟨[o,x],kw1 tk⟩) (λ_ R s=>s.TypeIs o "enumerate"/\R (.ok (.ret .none)) s):=by
 refine Meets.of_wp λP w A R s hs=>?_;obtain⟨hT,hq⟩:=hs;have hl:=F.called_enumerate.init.lookup;have hm:=F.called_enumerate.made;repeat (any_goals (first|rfl|wp_step))
 simp_all
theorem QiX{t:Bool}{tk:Tok}{l:Addr}{its:Array Value}{Q:Value->Shared->Prop}(c:isSq t s.heap l its)
  (q:∀h',IsEnum h' (s.heap.objs.size+1) s.heap.objs.size 1 .none->isIt t h' s.heap.objs.size l 0->(∀c o,s.heap.get? c=some o->h'.get? c=some o)->Q (.ref (s.heap.objs.size+1)) { s with heap:=h' }):wpAny (model P w) A (call (.type "enumerate") [.ref l] (kw1 tk)) Q E s:=by
 obtain⟨⟨cl,dct,dt,sl⟩,el,hc,n,hd⟩:=c
 replace hc:cl=.type (sqN t):=hc
 replace hd:dt=.seq its n:=hd
 subst hc hd
 have ft:=F.called_enumerate
 have hct:checkTypeCall "enumerate" ⟨[.ref l],kw1 tk⟩=pure ():=by kernel_rfl
 have hcn:checkBuiltinCall "enumerate.__new__" ⟨[.type "enumerate",.ref l],kw1 tk⟩=pure ():=by kernel_rfl
 obtain⟨c,tl,hmro⟩:=ft.mro
 have hmade:=ft.made
 have hsub:=ft.sub
 refine wpAny_call (codeAny_of_tree ?_)
 show wpAny _ _ (callAny (.type "enumerate") _) _ _ _
 refine zH ⟨zz0 _ (by decide +kernel),zzg F.entry_type_call ?_⟩
 rw[Around.under_plain (weight_type_call_type "enumerate" [.ref l] (kw1 tk)) (units_type_call_type "enumerate" [.ref l] (kw1 tk))]
 have h1:=ft.notType
 have h2:=ft.canCreate
 repeat (any_goals (first|assumption|wp_step))
 have n1:(zh1 t s.heap l).objs.size=s.heap.objs.size+1:=ZW ..
 have g2:((zh1 t s.heap l).push { cls:=.type "enumerate",data:=.fields #[.none,.bool false,.ref s.heap.objs.size,rawInt 1,.none,.none] }).get? (zh1 t s.heap l).objs.size=some _:=zG _ rfl
 rw[n1]at g2
 refine zzw (zzl ft.plain F.entry_enumerate_new (wpAny_of_eq hcn (QiJ t tk l its n dct sl P w A.in1 (wants (λobj s1=>s1.TypeIs obj "enumerate"/\Q obj s1) E) s ⟨el,?_⟩))) λr s1 hr=>?_
 ·show _/\_
  rw[n1]
  exact⟨⟨_,g2,rfl⟩,q _ g2 ⟨_,hps0 _ (zG _ rfl),rfl,rfl⟩ λc o x=>hps0 _ (hps0 _ x)⟩
 cases r with
 |error e=>exact hr
 |ok fl =>
  cases fl with
  |ret obj =>
   obtain⟨hT,hQ⟩:=hr
   have hli:=ft.init.lookup
   have hbi:=ft.init.bind obj
   repeat (any_goals (first|assumption|wp_step))
   refine zzw (zzl ft.init.plain F.entry_object_init (ft.init.check _ _ _ _ _ _ _ _ hT (Qo6 obj _ tk) (QiT P w A.in1 (wants (λr s2=>r=.none/\Q obj s2) E) s1 ⟨hT,rfl,hQ⟩))) λr2 s2 h3=>?_
   cases r2 with
   |error e=>exact h3
   |ok fl2 =>
    cases fl2 with
    |ret r =>
     obtain⟨rfl,hq⟩:=h3
     repeat (any_goals (first|assumption|wp_step))
    |_=>exact h3.elim
  |_=>exact hr.elim
end
def FX:EXT:=λ_ _ _ _=>False
theorem RelE.weak{K:Fg0}(r:RelE K ρ H σ' τ)(hl:σ.length=σ'.length)(h:∀(i:Nat) (w:W),σ[i]?=some (some w)->σ'[i]?=some (some w)):RelE K ρ H σ τ :=
 ⟨hl.trans r.len,λi w e=>r.at_ i w (h i w e)⟩
theorem Qlg{σ:Qai}(hn:∀u,σ[i]?≠some (some u)):(σ.set i (some w)).length=σ.length/\∀(j:Nat) (u:W),σ[j]?=some (some u)->(σ.set i (some w))[j]?=some (some u) :=
 ⟨ZzS,λj u e=>by
  have hij:i≠j:=by rintro rfl;simp_all
  simp_all⟩
theorem QdV:∀{is:List Nat}{ws:List W}{σ σ':Qai},QbL is ws σ=some σ'->σ'.length=σ.length/\∀(j:Nat) (u:W),j∉is->σ[j]?=some (some u)->σ'[j]?=some (some u)
 |[],[],σ,σ',e=>by cases e;simp_all
 |[],_::_,_,_,e=>by cases e
 |_::_,[],_,_,e=>by cases e
 |i::is,w::ws,σ,σ',e=>by
  obtain⟨h1,h2⟩:=QdV  (ws:=ws) e
  refine⟨by simp_all,λj u hj z=>h2 j u (λm=>hj (zB _ m)) ?_⟩
  grind
theorem QmS{is:List Nat}(e:QaL is w σ=some σ')(hn:∀i∈is,∀u,σ[i]?≠some (some u)):σ'.length=σ.length/\∀(j:Nat) (u:W),σ[j]?=some (some u)->σ'[j]?=some (some u):=by
 unfold QaL at e
 split at e
 ·rename_i i
  cases e
  exact Qlg (hn i ZzS)
 ·split at e
  ·obtain⟨h1,h2⟩:=QdV e
   grind
  ·obtain⟨h1,h2⟩:=QdV e
   grind
  ·cases e
open Classical in
theorem Qdf{K:Fg0}{EX:EXT}{ρ1:List Addr}{h1:Qaa}{H1:Hp}{σ0:Qai}{τ0:L2.St}{J:L2.It}{ws:List W}{src:Option Nat}{is:List Nat}{ts:Qai->Qaa->Res Bool}{ev:Qai->Qaa->Res W}{Q:VK}
  (re:RelE K ρ1 H1 σ0 τ0) (hr:HRel K ρ1 h1 H1) (hsrc:∀k,src=some k->k<h1.length)
  (ok:∀ρ h H i,Ext ρ1 H1 ρ H->HRel K ρ h H->(∀k,src=some k->h[k]?=h1[k]?)->(i=ws.length->J.stop i H)/\∀w,ws[i]?=some w->J.go i H/\∀x H',J.yld i H x H'->Ext ρ H ρ H'/\HRel K ρ h H'/\Rel K ρ H' w x)
  (hcl:∀i∈is,∀u,σ0[i]?≠some (some u))
  (q:RQ K EX ρ1 H1 (Qjb h1.length (lc h1.length src (λw h=>QbN (QaL is w σ0) ts ev h) ws (h1++[.lst []]))) λw _ ρ' H'=>∀v,Rel K ρ' H' w v->Q v H') :
  ∀D,H1 D=none->Qde D J (tGI K is) (tIT K FX ts) (tI K FX ev) Q τ0 H1:=by
 intro D hD
 generalize hR:Qjb h1.length (lc h1.length src (λw h=>QbN (QaL is w σ0) ts ev h) ws (h1++[.lst []]))=R0 at q
 have hl1:ρ1.length=h1.length:=hr.len
 have hD1:D∉ρ1:=hr.new hD
 refine⟨λi m τ H=>m=ws.length-i/\i<=ws.length/\∃ρ h,Ext ρ1 H1 ρ H/\ρ[h1.length]?=some D/\RelE K ρ H σ0 τ/\HRel K ρ h H/\(∀k,src=some k->h[k]?=h1[k]?) /\
  Qjb h1.length (lc h1.length src (λw h=>QbN (QaL is w σ0) ts ev h) (ws.drop i) h)=R0,⟨ws.length,ZzS,ZQ _,ρ1++[D],h1++[.lst []],ext_cell hr hD,?_,re.ext (ext_cell hr hD),hr.cell (ws:=[]) (xs:=[]) hD (by rw[Qaf]) .nil,?_,by rw[zzu];exact hR⟩,?_⟩
 ·rw[zK ZzL,hl1];simp
 ·intro k hk
  rw[zI (hsrc k hk)]
 rintro i m τ H ⟨rfl,hi,ρ,h,x,hD2,re2,hr2,hk,hq⟩
 obtain⟨ok1,ok2⟩:=ok ρ h H i x hr2 hk
 by_cases hlt:i<ws.length
 ·refine .inr ?_
  obtain⟨go,yl⟩:=ok2 ws[i] (zJ hlt)
  refine⟨go,λv H' y=>?_⟩
  obtain⟨xe,hr2',rv⟩:=yl v H' y
  replace x:=x.trans xe
  replace re2:=re2.ext xe
  clear ok1 ok2 yl go
  replace hr2:=hr2'
  rw[zzR hlt,lc]at hq
  cases eb:QaL is ws[i] σ0 with
  |none =>
   rw[eb]at hq
   have:R0=.stuck:=hq.symm
   rw[this]at q;exact q.elim
  |some σ1 =>
   rw[eb]at hq
   obtain⟨u1,u2⟩:=QmS eb hcl
   refine⟨ρ,σ0,ws[i],σ1,re2,rv,eb,λτ' re'=>⟨ρ,σ1,h,re',hr2,?_⟩⟩
   have re0:RelE K ρ _ σ0 τ':=re'.weak u1.symm u2
   unfold QbN at hq
   dsimp only at hq
   cases et:ts σ1 h with
   |stuck =>
    rw[et]at hq
    have:R0=.stuck:=hq.symm
    rw[this]at q;exact q.elim
   |exc c h3 =>
    rw[et]at hq
    have:R0=.stuck:=hq.symm
    rw[this]at q;exact q.elim
   |ok b h3 =>
    rw[et]at hq
    intro ρ3 H3 x3 hr3
    cases b with
    |false =>
     refine Qoj ?_
     have hq':Qjb h1.length (if(∀k,src=some k->h3[k]?=h[k]?) then lc h1.length src (λw h=>QbN (QaL is w σ0) ts ev h) (ws.drop (i+1)) h3 else .stuck)=R0:=hq
     by_cases hg:∀k,src=some k->h3[k]?=h[k]?
     ·rw[zF hg]at hq'
      exact⟨ws.length-(i+1),ZzL,rfl,hlt,ρ3,h3,x.trans x3,x3.at hD2,re0.ext x3,hr3,λk e=>(hg k e).trans (hk k e),hq'⟩
     ·rw[zM hg]at hq'
      have:R0=.stuck:=hq'.symm
      rw[this]at q;exact q.elim
    |true =>
     refine Qn8 ⟨ρ3,σ1,h3,re'.ext x3,hr3,?_⟩
     have hq1:Qjb h1.length (bnd (bnd (ev σ1 h3) λw h=>Res.ok (some w) h) λo h'=>if(∀k,src=some k->h'[k]?=h[k]?) then(match o with
       |none=>lc h1.length src (λw h=>QbN (QaL is w σ0) ts ev h) (ws.drop (i+1)) h'
       |some u=>match h'[h1.length]? with
        |some (.lst us)=>if Qah u=true/\us.length<sizeLine then lc h1.length src (λw h=>QbN (QaL is w σ0) ts ev h) (ws.drop (i+1)) (h'.set h1.length (.lst (us++[u]))) else .stuck
        |_=>.stuck) else .stuck)=R0:=hq
     cases ee:ev σ1 h3 with
     |stuck =>
      rw[ee]at hq1
      have:R0=.stuck:=hq1.symm
      rw[this]at q;exact q.elim
     |exc c h4 =>
      rw[ee]at hq1
      have:R0=.stuck:=hq1.symm
      rw[this]at q;exact q.elim
     |ok u h4 =>
      rw[ee]at hq1
      intro ρ4 H4 x4 hr4 y ry
      have hq2:Qjb h1.length (if(∀k,src=some k->h4[k]?=h[k]?) then(match h4[h1.length]? with
        |some (.lst us)=>if Qah u=true/\us.length<sizeLine then lc h1.length src (λw h=>QbN (QaL is w σ0) ts ev h) (ws.drop (i+1)) (h4.set h1.length (.lst (us++[u]))) else .stuck
        |_=>.stuck) else .stuck)=R0:=hq1
      by_cases hg:∀k,src=some k->h4[k]?=h[k]?
      ·rw[zF hg]at hq2
       have hD4:=x4.at (x3.at hD2)
       split at hq2
       ·rename_i us eu
        obtain⟨pu,ys,hy,rs⟩:=hr4.at_ _ D _ hD4 eu
        by_cases hp:Qah u=true/\us.length<sizeLine
        ·rw[zF hp]at hq2
         refine⟨ys,hy,by rw[<- rs.length];exact hp.2,ws.length-(i+1),ZzL,rfl,hlt,ρ4,h4.set h1.length (.lst (us++[u])),?_,hD4,?_,hr4.write hD4 (QaH pu hp.1) (rs.append (.cons ry .nil)),?_,hq2⟩
         ·exact((x.trans x3).trans x4).trans (ext_write hD4)
         ·exact((re0.ext x3).ext x4).ext (ext_write hD4)
         ·intro k e
          rw[zY (ZO (hsrc k e))]
          exact(hg k e).trans (hk k e)
        ·rw[zM hp]at hq2
         have:R0=.stuck:=hq2.symm
         rw[this]at q;exact q.elim
       ·have:R0=.stuck:=hq2.symm
        rw[this]at q;exact q.elim
      ·rw[zM hg]at hq2
       have:R0=.stuck:=hq2.symm
       rw[this]at q;exact q.elim
 ·have ei:i=ws.length:=ZzL
  refine .inl ⟨ok1 ei,?_⟩
  rw[ei,zzQ,lc]at hq
  unfold Qjb at hq
  dsimp only at hq
  split at hq
  ·rename_i us eu
   obtain⟨pu,ys,hy,rs⟩:=hr2.at_ _ D _ hD2 eu
   subst hq
   refine q ρ1 H x.cut (hr2.cut x hl1) _ ?_
   rw[Rel]
   exact⟨D,ys,rfl,hD1,hy,RelL.less (λb hb=>x.pre.subset hb) us ys pu rs⟩
  ·subst hq;exact q.elim
open Classical in
theorem QbU{K:Fg0}{EX:EXT}{ρ1:List Addr}{h1:Qaa}{H1:Hp}{σ0:Qai}{τ0:L2.St}{J:L2.It}{ws:List W}{src:Option Nat}{is:List Nat}{ts:Qai->Qaa->Res Bool}{ev:Qai->Qaa->Res W}{Q:VK}
  (re:RelE K ρ1 H1 σ0 τ0) (hr:HRel K ρ1 h1 H1) (hsrc:∀k,src=some k->k<h1.length)
  (ok:∀ρ h H i,Ext ρ1 H1 ρ H->HRel K ρ h H->(∀k,src=some k->h[k]?=h1[k]?)->(i=ws.length->J.stop i H)/\∀w,ws[i]?=some w->J.go i H/\∀x H',J.yld i H x H'->H'=H/\Rel K ρ H w x)
  (hcl:∀i∈is,∀u,σ0[i]?≠some (some u))
  (q:RQ K EX ρ1 H1 (Qjb h1.length (lc h1.length src (λw h=>QbN (QaL is w σ0) ts ev h) ws (h1++[.lst []]))) λw _ ρ' H'=>∀v,Rel K ρ' H' w v->Q v H') :
  ∀D,H1 D=none->Qde D J (tGI K is) (tIT K FX ts) (tI K FX ev) Q τ0 H1 :=
 Qdf re hr hsrc (λρ h H i x hr hk=>⟨(ok ρ h H i x hr hk).1,λw e=>⟨((ok ρ h H i x hr hk).2 w e).1,λv H' y=>by
  obtain⟨e',r⟩:=((ok ρ h H i x hr hk).2 w e).2 v H' y
  subst e'
  exact⟨Ext.refl,hr,r⟩⟩⟩) hcl q
theorem Qfv:∀(is:List Nat) (σ:List (Option α)),(clr is σ).length=σ.length
 |[],_=>rfl
 |i::is,σ=>by rw[clr,Qfv is];simp
theorem Qoq:∀{is:List Nat}{σ:List (Option α)}{i:Nat}{w:α},(clr is σ)[i]?=some (some w)->i∉is/\σ[i]?=some (some w)
 |[],_,_,_,h=>⟨ZzS,h⟩
 |j::is,σ,i,w,h=>by rw[clr]at h;obtain⟨h1,h2⟩:=Qoq h;by_cases hij:j=i;rw[List.getElem?_set]at h2;simp_all;rw[zY hij]at h2;exact⟨λm=>(zS.mp m).elim (λe=>hij e.symm) h1,h2⟩
theorem Qj8:∀{is:List Nat}{σ:List (Option α)}{i:Nat},i∉is->(clr is σ)[i]?=σ[i]?
 |[],_,_,_=>rfl
 |j::is,σ,i,h=>by rw[clr,Qj8 λm=>h (zB _ m),zY (by grind)]
noncomputable abbrev QgF{α:Type}(is:List Nat)(n:Nat)(σ:List (Option α)):List (Option α):=clr is σ++List.replicate n none
theorem Qhj{α:Type}{is:List Nat}{n:Nat}{σ:List (Option α)}{i:Nat}{w:α}(h:(QgF is n σ)[i]?=some (some w)):i∉is/\σ[i]?=some (some w):=by by_cases hi:i<(clr is σ).length;rw[zI hi]at h;exact Qoq h;rw[zK (by simp_all),zz3]at h;simp_all
theorem Qc3{α:Type}{is:List Nat}{n:Nat}{σ:List (Option α)}:∀i∈is,∀u,(QgF is n σ)[i]?≠some (some u):=λi hi u e=>(Qhj e).1 hi
theorem QbC{K:Fg0}(r:RelE K ρ H σ τ):RelE K ρ H (QgF is n σ) (QgF is n τ):=by
 refine⟨by simp[Qfv,r.len],λi w e=>?_⟩;obtain⟨h1,h2⟩:=Qhj e;obtain⟨v,h3,h4⟩:=r.at_ i w h2;refine⟨v,?_,h4⟩;have hi:i<(clr is τ).length:=by rw[Qfv];grind
 rw[zI hi,Qj8 h1];lia
theorem Qji(hl:τ.length=N.length)(hn:N'.length=N.length+n)(ho:∀i x,N[i]?=some x->x∈own->i∈is):BlkSt N N' own τ (QgF is n τ):=by
 refine⟨by simp[Qfv,hl,hn],λi v e=>?_⟩;obtain⟨h1,h2⟩:=Qhj e;have hi:i<N.length:=by rw[<- hl];grind
 exact⟨N[i],zJ hi,λm=>h1 (ho i _ (zJ hi) m),h2⟩
section
variable {X:Cx}{EX:EXT}{cf:CF}{fw:Nat}{pos:Pos}{a b c e:Expr}{a' b' c' e':E}{is:List Nat}{n:Nat}{ifs':List E}{elt':E}
theorem Qqz{K:Fg0}(hr:HRel K ρ1 h1 H1)(e:seqA h1 w=some ws)(r:Rel K ρ1 H1 w v) :
  (∀k,Qho w=some k->k<h1.length)/\∃p,v=.ref p/\(((∃xs,SqL K H1 p xs)/\∀ρ h H i,Ext ρ1 H1 ρ H->HRel K ρ h H->(∀k,Qho w=some k->h[k]?=h1[k]?)->(i=ws.length->(Itl K p).stop i H)/\∀w,ws[i]?=some w->(Itl K p).go i H/\∀x H',(Itl K p).yld i H x H'->H'=H/\Rel K ρ H w x) \/
   ((∃xs,SqT K H1 p xs)/\∀ρ h H i,Ext ρ1 H1 ρ H->HRel K ρ h H->(∀k,Qho w=some k->h[k]?=h1[k]?)->(i=ws.length->(Itt K p).stop i H)/\∀w,ws[i]?=some w->(Itt K p).go i H/\∀x H',(Itt K p).yld i H x H'->H'=H/\Rel K ρ H w x)):=by
 have lists:∀(p:Addr) (ρ:List Addr) (h:Qaa) (H:Hp) (i:Nat) (xs:List V),SqL K H p xs->RelL K ρ H ws xs->(i=ws.length->(Itl K p).stop i H)/\∀w,ws[i]?=some w->(Itl K p).go i H/\∀x H',(Itl K p).yld i H x H'->H'=H/\Rel K ρ H w x:=by intro p ρ h H i xs hq rs;refine⟨λei=>⟨xs,hq,by rw[<- rs.length];lia⟩,λw' ew=>?_⟩;obtain⟨x,hx,rx⟩:=rs.get ew;refine⟨⟨xs,x,hq,hx⟩,λy H' ⟨e1,e2⟩=>⟨e1,?_⟩⟩;have:=e2 xs hq;rw[hx]at this;cases this;exact rx
 have tups:∀(p:Addr) (ρ:List Addr) (h:Qaa) (H:Hp) (i:Nat) (xs:List V),SqT K H p xs->RelL K ρ H ws xs->(i=ws.length->(Itt K p).stop i H)/\∀w,ws[i]?=some w->(Itt K p).go i H/\∀x H',(Itt K p).yld i H x H'->H'=H/\Rel K ρ H w x:=by intro p ρ h H i xs hq rs;refine⟨λei=>⟨xs,hq,by rw[<- rs.length];lia⟩,λw' ew=>?_⟩;obtain⟨x,hx,rx⟩:=rs.get ew;refine⟨⟨xs,x,hq,hx⟩,λy H' ⟨e1,e2⟩=>⟨e1,?_⟩⟩;have:=e2 xs hq;rw[hx]at this;cases this;exact rx
 cases w with
 |tup us =>
  rw[Rel]at r
  obtain⟨p,xs,rfl,hq,rs⟩:=r
  cases (show us=ws from zW e)
  exact⟨λk ek=>(by cases ek),p,rfl,.inr ⟨⟨xs,hq.sq⟩,λρ h H i x _ _=>tups p ρ h H i xs (hq.ext x).sq (RelL.ext x _ _ rs)⟩⟩
 |scr us =>
  rw[Rel]at r
  obtain⟨p,xs,rfl,hq,rs⟩:=r
  cases (show us=ws from zW e)
  exact⟨λk ek=>(by cases ek),p,rfl,.inl ⟨⟨xs,hq.sq⟩,λρ h H i x _ _=>lists p ρ h H i xs (hq.ext x).sq (RelL.ext x _ _ rs)⟩⟩
 |lst us =>
  rw[Rel]at r
  obtain⟨p,xs,rfl,hn,hq,rs⟩:=r
  cases (show us=ws from zW e)
  exact⟨λk ek=>(by cases ek),p,rfl,.inl ⟨⟨xs,.inl (.inl hq)⟩,λρ h H i x _ _=>lists p ρ h H i xs (.inl (.inl (x.keepN hq hn (λ_ z=>by cases z)))) (RelL.ext x _ _ rs)⟩⟩
 |ref k =>
  rw[Rel]at r
  obtain⟨p,rfl,hk⟩:=r
  have e':(match h1[k]? with|some (.lst ws)=>some ws|_=>none)=some ws:=e
  split at e'<;>try (cases e';done)
  rename_i us eu
  cases e'
  obtain⟨_,xs,hx,rs⟩:=hr.at_ k p _ hk eu
  refine⟨λk' ek=>(by cases ek;exact(ze.mp eu).1),p,rfl,.inl ⟨⟨xs,.inl (.inl hx)⟩,λρ h H i x hr' hs=>?_⟩⟩
  obtain⟨_,xs',hx',rs'⟩:=hr'.at_ k p _ (x.at hk) (by rw[hs k rfl];exact eu)
  exact lists p ρ h H i xs' (.inl (.inl hx')) rs'
 |_=>cases e
theorem Qq5{K:Fg0}:∀ρ h H i,Ext ρ1 H1 ρ H->HRel K ρ h H->(i=(Qif z).length->(Its z).stop i H)/\∀w,(Qif z)[i]?=some w->(Its z).go i H/\∀x H',(Its z).yld i H x H'->H'=H/\Rel K ρ H w x:=by intro ρ h H i _ _;refine⟨λe=>by show i=z.cps.size;rw[e];simp[Qif],λw e=>?_⟩;unfold Qif at e;rw[zT]at e;obtain⟨c,ec,rfl⟩:=Zg.mp e;rw[Array.getElem?_toList]at ec;refine⟨(Array.getElem?_eq_some_iff.mp ec).1,λy H' ⟨e2,c',e3,e4⟩=>⟨e2,?_⟩⟩;rw[ec]at e3;cases e3;assumption
theorem QiE{τ:L2.St}{H:Hp}{Q:VK}{K:Fg0}(q:tI K EX (evE cf (.compS is n a' ifs' elt')) τ H Q) :
  iSeq K (tI K EX (evE cf a')) τ H λJ H1=>∀D,H1 D=none->Qde D J (tGI K is) (tIT K FX (evTs cf ifs')) (tI K FX (evE cf elt')) Q (QgF is n τ) H1:=by
 obtain⟨ρ,σ,h,re,hr,q⟩:=q
 rw[evE]at q
 refine⟨ρ,σ,h,re,hr,q.bnd.mono λw h1 ρ1 H1 x1 hr1 q1 v r=>?_⟩
 split at q1
 ·rename_i ws e
  by_cases hz:∃z,w=.str z
  ·obtain⟨z,rfl⟩:=hz
   unfold seqI at e
   dsimp only at e
   split at e
   ·cases e
    cases Qat r
    exact .inl ⟨z,rfl,QbU (src:=none) (QbC (re.ext x1)) hr1 (λk e=>by cases e) (λρ h H i x hr _=>Qq5 ρ h H i x hr) Qc3 q1⟩
   ·cases e
  ·have e':seqA h1 w=some ws:=by cases w<;>first|exact e|exact absurd ⟨_,rfl⟩ hz
   obtain⟨hs,p,rfl,hq⟩:=Qqz hr1 e' r
   refine .inr ⟨p,rfl,?_⟩
   rcases hq with⟨hx,hq⟩|⟨hx,hq⟩
   ·exact .inl ⟨hx,QbU (QbC (re.ext x1)) hr1 hs hq Qc3 q1⟩
   ·exact .inr ⟨hx,QbU (QbC (re.ext x1)) hr1 hs hq Qc3 q1⟩
 ·exact q1.elim
theorem Qkx{K:Fg0}{lo:Int}:∀ρ h H i,Ext ρ1 H1 ρ H->HRel K ρ h H->(∀k,(none:Option Nat)=some k->h[k]?=([]:Qaa)[k]?) ->
  (i=((List.range m).map λ(k:Nat)=>W.int (lo+(k:Int))).length->(Itr lo m).stop i H)/\∀w,((List.range m).map λ(k:Nat)=>W.int (lo+(k:Int)))[i]?=some w->(Itr lo m).go i H/\∀x H',(Itr lo m).yld i H x H'->H'=H/\Rel K ρ H w x:=by
 intro ρ h H i x hr _
 refine⟨λe=>by show m<=i;simp_all,λw e=>?_⟩
 rw[zT]at e
 cases e1:(List.range m)[i]? with
 |none=>rw[e1]at e;cases e
 |some k =>
  rw[e1]at e
  obtain⟨hi,ek⟩:=ze.mp e1
  have hi':i<m:=by simpa using hi
  have ek':k=i:=by simpa using ek.symm
  subst ek'
  cases e
  exact⟨hi',λy H' ⟨e2,e3⟩=>⟨e2,by subst e3;exact QaJ⟩⟩
def BlkP(X:Cx)(cf:CF)(N':List Str)(sc:Scope)(tg:Expr)(is:List Nat)(ifs:List Expr)(ifs':List E)(elt:Expr)(elt':E):Prop :=
 ∀cl C fp s H,PG (blk X N' sc cl C fp s H) tg (tGI X.K is)/\PTs (blk X N' sc cl C fp s H) ifs (tIT X.K FX (evTs cf ifs'))/\PE (blk X N' sc cl C fp s H) elt (tI X.K FX (evE cf elt'))
variable {tg elt:Expr}{ifs:List Expr}{N' own:List Str}{sc:Scope}{ce:E}{wi:TI}
theorem QnJ(hc:X.calm=true)(hi:PI X tg a wi)(hp:Qbl a=true)(B:BlkOk X.env.scope X.N N' sc own)(hn:N'.length=X.N.length+n)(ho:∀(i:Nat) (x:Str),X.N[i]?=some x->x∈own->i∈is)
  (hb:BlkP X cf N' sc tg is ifs ifs' elt elt') (hq:∀τ H Q,tI X.K EX (evE cf ce) τ H Q->wi τ H λJ H1=>∀D,H1 D=none->Qde D J (tGI X.K is) (tIT X.K FX (evTs cf ifs')) (tI X.K FX (evE cf elt')) Q (QgF is n τ) H1) :
  PE X (.ListComp elt [⟨tg,a,ifs,0⟩] sc pos) (tI X.K EX (evE cf ce)):=by
 intro pins s τ H Q I q
 exact wpAny_comprehension_free  rfl (QeZ hp _) (Qe7 (QeV I B)) B.kind B.loc (Qgd  hc hi B (Qji I.len hn ho) hb I (hq τ H Q q) (λD C H' s' m' I' f hn' q'=>(⟨m',hn',λh' hs=>⟨.ref D,H',I'.turned  (λb o hb e=>hs.extBut b o hb e) f.1 f.2.1 f.2.2.2.1 f.2.2.2.2.1 f.2.2.2.2.2,rfl,q'⟩⟩)) rfl)
theorem s_comp(hN:X.N.Nodup)(hix:X.N[i]?=some x)(hx:Loc X.env.scope x)(hf:X.fn x=true\/X.env.scope.names.lookup x=some .local)
  (hc:X.calm=true) (hi:PI X tg a wi) (hp:Qbl a=true) (B:BlkOk X.env.scope X.N N' sc own) (hn:N'.length=X.N.length+n) (ho:∀(i:Nat) (x:Str),X.N[i]?=some x->x∈own->i∈is)
  (hb:BlkP X cf N' sc tg is ifs ifs' elt elt') (hq:∀τ H Q,tI X.K EX (evE cf ce) τ H Q->wi τ H λJ H1=>∀D,H1 D=none->Qde D J (tGI X.K is) (tIT X.K FX (evTs cf ifs')) (tI X.K FX (evE cf elt')) Q (QgF is n τ) H1) :
  PS X (.Assign [.Name x p] (.ListComp elt [⟨tg,a,ifs,0⟩] sc pos) spos) (tIS X.K EX (exS cf fw (.asg i ce))):=by
 have key:∀D τ H,tIS X.K EX (exS cf fw (.asg i ce)) D τ H->tI X.K EX (evE cf ce) τ H λv H1=>D.nx (τ.set i (some v)) H1:=λD τ H zq=>by obtain⟨ρ,σ,h,re,hr,q⟩:=zq;rw[exS]at q;exact⟨ρ,σ,h,re,hr,q.bnd.mono λw h1 ρ1 H1 x1 hr1 q1 v r=>RQ.here hr1 q1 _ ((re.ext x1).set i r)⟩
 have sw:∃k,swapsWith (.ListComp elt [⟨tg,a,ifs,0⟩] sc pos) (some (.Name x p)) spos.line X.env=pure k:=⟨_,rfl⟩
 obtain⟨k,hk⟩:=sw
 cases k with
 |false=>exact(Qc7 hN hix hx (QnJ (pos:=pos) hc hi hp B hn ho hb hq) hk hf).sub λD τ H q=>key D τ H q
 |true =>
  intro pins s τ H D I q
  rw[exec_Assign_Name_used _ _ _ _ hk]
  refine zd (zzF <| zd ?_)
  refine zd (ZA (wpAny_comprehension_free (use:=some (assign (.Name x p) X.env)) (Q:=λ_ s'=>SP X pins D .next s') rfl (QeZ hp _) (Qe7 (QeV I B)) B.kind B.loc ?_) (λ_ s' hq=>zH (zH hq)) λ_ _ e=>e)
  refine Qgd  hc hi B (Qji I.len hn ho) hb I (hq τ H _ (key D τ H q)) (λDD C H' s' m' I' f hn' q'=>?_) rfl
  show wpAny _ X.A (assign (.Name x p) X.env (.ref DD)) _ _ s'
  refine wpAny_assign_Name (QfJ I' hN hix hx (v:=.ref DD) rfl (λs2 I2 zq=>?_) hf)
  obtain⟨al,sb,ha⟩:=zq
  have hne:C≠al:=by rcases ha with e|e;rw[e];exact f.2.1;exact zzi (f.2.2.2.2.1 x al e)
  exact⟨m',hn'.sameBut sb hne,λh' hs=>⟨_,H',I2.turned (it:=C) (λb o hb e=>hs.extBut b o hb e) f.1 f.2.1 f.2.2.2.1 f.2.2.2.2.1 f.2.2.2.2.2,q'⟩⟩
theorem i_seq(ha:PE X a (tI X.K EX (evE cf a'))):PI X tg a (iSeq X.K (tI X.K EX (evE cf a'))):=Qoc ha
theorem q_seq:∀τ H Q,tI X.K EX (evE cf (.compS is n a' ifs' elt')) τ H Q->iSeq X.K (tI X.K EX (evE cf a')) τ H λJ H1=>∀D,H1 D=none->Qde D J (tGI X.K is) (tIT X.K FX (evTs cf ifs')) (tI X.K FX (evE cf elt')) Q (QgF is n τ) H1 :=
 λτ H Q q=>QiE q
theorem q_rng1:∀τ H Q,tI X.K EX (evE cf (.compR is n [a'] ifs' elt')) τ H Q->iRng1 (tIA X.K EX (evA cf [a'])) τ H λJ H1=>∀D,H1 D=none->Qde D J (tGI X.K is) (tIT X.K FX (evTs cf ifs')) (tI X.K FX (evE cf elt')) Q (QgF is n τ) H1:=λτ H Q zq=>by
 obtain⟨ρ,σ,h,re,hr,q⟩:=zq;rw[evE]at q;refine⟨ρ,σ,h,re,hr,?_⟩;cases e:evA cf [a'] σ h with
 |stuck=>rw[e]at q;exact q.elim
 |exc c h1=>rw[e]at q;exact q
 |ok ws h1=>
  rw[e]at q;intro ρ1 H1 x1 hr1 vs rs;have q1:=q.bnd ρ1 H1 x1 hr1;have hl:=Qc1 e;obtain⟨w,rfl⟩:=List.length_eq_one_iff.mp hl;rw[Qb2]at q1;cases w with
  |int j=>obtain⟨v,rfl,rv⟩:=Qjw rs;cases Qaq rv;unfold Qjc at q1;dsimp only at q1;split at q1;rename_i ks ek;split at ek;rename_i hj;cases ek;exact⟨j,rfl,hj.1,hj.2,QbU (QbC (re.ext x1)) hr1 (λk e=>by cases e) (λρ h H i x hr _=>Qkx ρ h H i x hr (λk e=>by cases e)) Qc3 q1⟩;cases ek;exact q1.elim
  |_=>exact q1.elim
theorem q_rng2:∀τ H Q,tI X.K EX (evE cf (.compR is n [a',b'] ifs' elt')) τ H Q->iRng2 (tIA X.K EX (evA cf [a',b'])) τ H λJ H1=>∀D,H1 D=none->Qde D J (tGI X.K is) (tIT X.K FX (evTs cf ifs')) (tI X.K FX (evE cf elt')) Q (QgF is n τ) H1:=λτ H Q zq=>by
 obtain⟨ρ,σ,h,re,hr,q⟩:=zq;rw[evE]at q;refine⟨ρ,σ,h,re,hr,?_⟩;cases e:evA cf [a',b'] σ h with
 |stuck=>rw[e]at q;exact q.elim
 |exc c h1=>rw[e]at q;exact q
 |ok ws h1=>
  rw[e]at q;intro ρ1 H1 x1 hr1 vs rs;have q1:=q.bnd ρ1 H1 x1 hr1;have hl:=Qc1 e;obtain⟨w,w2,rfl⟩:∃w w2,ws=[w,w2]:=by rcases ws with _|⟨w,_|⟨w2,_|_⟩⟩<;>first|exact⟨_,_,rfl⟩|cases hl
  rw[Qb2]at q1;unfold Qjc at q1;split at q1;rename_i ks ek;split at ek;rename_i e1;cases e1;rename_i i j e1;cases e1;split at ek;rename_i hj;cases ek;obtain⟨v,v2,rfl,rv,rv2⟩:=Qpy rs;cases Qaq rv;cases Qaq rv2;exact⟨i,j,rfl,hj,QbU (QbC (re.ext x1)) hr1 (λk e=>by cases e) (λρ h H i x hr _=>Qkx ρ h H i x hr (λk e=>by cases e)) Qc3 q1⟩;cases ek;cases ek;exact q1.elim
end
theorem Qie{K:Fg0}(e:seqA [] w=some us)(r:Rel K ρ1 H1 w v):∃p t xs,v=.ref p/\RelL K ρ1 H1 us xs/\∀ρ H,Ext ρ1 H1 ρ H->SqB K t H p xs:=by
 cases w with
 |tup ws=>rw[Rel]at r;obtain⟨p,xs,rfl,hq,rs⟩:=r;cases (show ws=us from zW e);exact⟨p,true,xs,rfl,rs,λρ H x=>(hq.ext x).sq⟩
 |scr ws=>obtain⟨p,xs,rfl,hq,rs⟩:=r;cases (show ws=us from zW e);exact⟨p,false,xs,rfl,rs,λρ H x=>(hq.ext x).sq⟩
 |lst ws=>rw[Rel]at r;obtain⟨p,xs,rfl,hn,hq,rs⟩:=r;cases (zW e);exact⟨p,false,xs,rfl,rs,λρ H x=>.inl (.inl (x.keepN hq hn (λ_ z=>by cases z)))⟩
 |ref k=>cases e
 |_=>cases e
theorem Qjd{α β:Type}{a:α}{h:Qaa}{f:α->Qaa->Res β}:bnd (.ok a h) f=f a h:=rfl
theorem Qg8{K:Fg0}{ρ:List Addr}{h:Qaa}{H:Hp}{q:Addr}{u v:W}{x y:V}(hr:HRel K ρ h H)(hq:H q=none)(r1:Rel K ρ H u x)(r2:Rel K ρ H v y) :
  Ext ρ H ρ (upd H q (.tup [x,y]))/\HRel K ρ h (upd H q (.tup [x,y]))/\Rel K ρ (upd H q (.tup [x,y])) (.tup [u,v]) (.ref q):=by
 have e:Ext ρ H ρ (upd H q (.tup [x,y])):=ext_new hr hq
 exact⟨e,hr.ext_new hq,(⟨q,[x,y],rfl,.inl ⟨hr.new hq,.inl Qau⟩,(.cons (Rel.ext e _ _ r1) (.cons (Rel.ext e _ _ r2) .nil))⟩)⟩
def iZip(K:Fg0)(ta:TA):TI:=λσ H R=>ta σ H λvs H1=>∃p q t1 t2,vs=[.ref p,.ref q]/\(∃xs,SqB K t1 H1 p xs)/\(∃ys,SqB K t2 H1 q ys)/\R (Itz K t1 t2 p q) H1
def iEnm(K:Fg0)(c:Int)(ta:TA):TI:=λσ H R=>ta σ H λvs H1=>∃p t,vs=[.ref p]/\(∃xs,SqB K t H1 p xs)/\R (Ite K t c p) H1
section
variable {X:Cx}{EX:EXT}{cf:CF}{a b:Expr}{a' b':E}{ta:TA}{p pos:Pos}{es:List Expr}{x1:Nat}{ps:Pos}{is:List Nat}{n:Nat}{ifs':List E}{elt':E}
theorem pi_zip(hg:Gl X "zip")(hm:X.mg "zip"=none)(ha:PA X [a,b] ta)(hs:starEach [a,b] X.env=[(false,eval a X.env),(false,eval b X.env)]:=by rfl)(hs2:starEach [b] X.env=[(false,eval b X.env)]:=by rfl) :
  PI X (.Tuple es x1 ps) (.Call (.Name "zip" p) [a,b] [] pos) (iZip X.K ta):=by
 intro pins s σ H R I h
 refine Call_ (Qdv I hg hm PyProof.Rows.boot_zip (Z2 (thn (ha pos pins s σ H _ I h) λus s1 ⟨vs,H1,I1,r1,q1⟩=>?_) (by simp_all) (by rw[hs2];rfl)))
 obtain⟨p,q,t1,t2,rfl,⟨xs,s1q⟩,⟨ys,s2q⟩,q1⟩:=q1
 cases r1 with
 |cons r rr =>
  cases rr with
  |cons r' rr =>
   cases rr
   cases r
   cases r'
   obtain⟨is1,_,m1⟩:=s1q.at_ I1
   obtain⟨is2,_,m2⟩:=s2q.at_ I1
   refine Qms m1 m2 λh' z1 z2 z3 z4 z5 kk=>wpAny_pyIter_zip z1 ⟨_,fpZ s1.heap.objs.size,_,_,H1,rfl,I1.kept  kk,QlW t1 t2 p q s1.heap.objs.size,⟨z1,z2,⟨_,_,z3⟩,z4,z5⟩,λc hc=>?_,q1⟩
   have:s1.heap.objs.size<=c:=by grind
   exact I1.fpOk this (I1.hok.fresh this)
theorem Qe1{E:Value->Shared->Prop}
  (h:wpAny M A (spliced (backTo pos (starEach [e] env))) (λvs s1=>wpAny M A (evalAll ((backToKw pos (keywordEach kws env)).map (·.2))) (λks s2=>wpAny M A (call (.type T) vs (((backToKw pos (keywordEach kws env)).filterMap (·.1)).zip ks)) Q E s2) E s1) E s)
  (he:starEach [e] env=[(false,eval e env)]) (hall:(backToKw pos (keywordEach kws env)).all (·.1.isSome)=true) (hkw:(backToKw pos (keywordEach kws env)).any (·.1.isNone)=false) :
  wpAny M A (callWith pos (.type T) [] (backTo pos (starEach [e] env)) (backToKw pos (keywordEach kws env))) Q E s:=by
 have hb:backTo pos [(false,eval e env)]=[(false,eval e env)]:=rfl
 rw[he,hb]at h ⊢
 refine zd (Zu (ZA (PyProof.Rows.evalArgs_kwB  (Q:=λa s1=>wpAny M A (call (.type T) ([]++a.pos) a.kw) Q E s1) hall h) (λa s1 h1=>zd (zzF ?_)) λ_ _ x=>x))
 rw[show(([(false,eval e env)]).any (·.1)||(backToKw pos (keywordEach kws env)).any (·.1.isNone))=false by rw[hkw];rfl]
 refine zd (zH ?_)
 exact zd (ZA h1 (λr s2 hr=>zd (Zu (wpAny_point (zH hr)))) λ_ _ x=>x)
theorem Qjy{j:Nat}{kp kp2:Pos}(hg:Gl X "enumerate")(hm:X.mg "enumerate"=none)(ha:PA X [a] ta)(hs:starEach [a] X.env=[(false,eval a X.env)]:=by rfl):PI X (.Tuple es x1 ps) (.Call (.Name "enumerate" p) [a] [⟨some "start",.Constant (.int 1) j kp,kp2⟩] pos) (iEnm X.K 1 ta):=by
 intro pins s σ H R I h;refine Z6 (Qdv I hg hm PyProof.Rows.boot_enumerate (Qe1 (thn (ha pos pins s σ H _ I h) λus s1 ⟨vs,H1,I1,r1,q1⟩=>?_) hs rfl rfl));obtain⟨p,t,rfl,⟨xs,s1q⟩,q1⟩:=q1;cases r1 with
 |cons r rr=>
  cases rr;cases r;refine thn (QoW (X:=X) pe_int pk_nil pos pins s1 σ H1 (λvs H2=>vs=[.int 1]/\H2=H1) I1 ⟨rfl,rfl⟩) λks s2 zq=>?_;obtain⟨vs,H2,I2,r2,e1,e2⟩:=zq;subst e1 e2;cases r2 with
  |cons r rr=>
   obtain⟨tk,rfl⟩:=r;obtain⟨is1,_,m1⟩:=s1q.at_ I2;refine QiX (tk:=tk) m1 λh' z1 z2 kk=>wpAny_pyIter_enum z1 ⟨_,[s2.heap.objs.size+1,s2.heap.objs.size],_,_,H2,rfl,I2.kept  kk,Qki t 1 p s2.heap.objs.size,⟨⟨_,z1⟩,z2⟩,λc hc=>?_,q1⟩;have:s2.heap.objs.size<=c:=by grind
   exact I2.fpOk this (I2.hok.fresh this)
theorem q_zip:∀τ H Q,tI X.K EX (evE cf (.compS is n (.zipE a' b') ifs' elt')) τ H Q->iZip X.K (tIA X.K EX (evA cf [a',b'])) τ H λJ H1=>∀D,H1 D=none->Qde D J (tGI X.K is) (tIT X.K FX (evTs cf ifs')) (tI X.K FX (evE cf elt')) Q (QgF is n τ) H1:=λτ H Q zq=>by
 obtain⟨ρ,σ,h,re,hr,q⟩:=zq
 rw[evE,evE]at q
 refine⟨ρ,σ,h,re,hr,?_⟩
 rw[evA]
 cases e1:evE cf a' σ h with
 |stuck=>rw[e1]at q;exact q.elim
 |exc c h1=>rw[e1]at q;exact q
 |ok x h1 =>
  rw[e1,Qjd]at q
  rw[Qjd,evA]
  cases e2:evE cf b' σ h1 with
  |stuck=>rw[e2]at q;exact q.elim
  |exc c h2=>rw[e2]at q;exact q
  |ok y h2 =>
   rw[e2,Qjd]at q
   rw[Qjd,evA,Qjd,Qjd]
   intro ρ1 H1 x1 hr1 vs rs
   cases ex:seqA [] x with
   |none=>rw[ex]at q;exact q.elim
   |some us =>
    cases ey:seqA [] y with
    |none=>rw[ex,ey]at q;exact q.elim
    |some ws =>
     rw[ex,ey]at q
     obtain⟨v1,v2,rfl,r1,r2⟩:=Qpy rs
     obtain⟨p,t1,xs,rfl,rl1,sq1⟩:=Qie ex r1
     obtain⟨p',t2,ys,rfl,rl2,sq2⟩:=Qie ey r2
     refine⟨p,p',t1,t2,rfl,⟨xs,sq1 _ _ Ext.refl⟩,⟨ys,sq2 _ _ Ext.refl⟩,?_⟩
     have q0 :=q
     refine Qdf (src:=none) (QbC (re.ext x1)) hr1 (λk e=>by cases e) (λρ2 h3 H3 i x2 hr3 _=>?_) Qc3 (q0.bnd ρ1 H1 x1 hr1)
     have rl1':=RelL.ext x2 _ _ rl1
     have rl2':=RelL.ext x2 _ _ rl2
     have l1:=rl1'.length
     have l2:=rl2'.length
     refine⟨λei=>⟨xs,ys,sq1 _ _ x2,sq2 _ _ x2,?_⟩,λw ew=>?_⟩
     ·grind
     ·rw[List.getElem?_zipWith]at ew
      cases eu:us[i]? with
      |none=>rw[eu]at ew;simp at ew
      |some u =>
       cases ev:ws[i]? with
       |none=>rw[eu,ev]at ew;simp at ew
       |some v =>
        rw[eu,ev]at ew
        cases ew
        obtain⟨xv,hx,rx⟩:=rl1'.get eu
        obtain⟨yv,hy,ry⟩:=rl2'.get ev
        refine⟨⟨xs,ys,xv,yv,sq1 _ _ x2,sq2 _ _ x2,hx,hy⟩,λv2 H' zq=>?_⟩
        obtain⟨pp,x',y',hp,e1,e2,f1,f2⟩:=zq
        have g1:=f1 xs (sq1 _ _ x2)
        have g2:=f2 ys (sq2 _ _ x2)
        rw[hx]at g1
        rw[hy]at g2
        cases g1
        cases g2
        subst e1 e2
        exact Qg8 hr3 hp rx ry
theorem q_enm{c:Int}:∀τ H Q,tI X.K EX (evE cf (.compS is n (.enmE c a') ifs' elt')) τ H Q->iEnm X.K c (tIA X.K EX (evA cf [a'])) τ H λJ H1=>∀D,H1 D=none->Qde D J (tGI X.K is) (tIT X.K FX (evTs cf ifs')) (tI X.K FX (evE cf elt')) Q (QgF is n τ) H1:=λτ H Q zq=>by
 obtain⟨ρ,σ,h,re,hr,q⟩:=zq
 rw[evE,evE]at q
 refine⟨ρ,σ,h,re,hr,?_⟩
 rw[evA]
 cases e1:evE cf a' σ h with
 |stuck=>rw[e1]at q;exact q.elim
 |exc c h1=>rw[e1]at q;exact q
 |ok x h1 =>
  rw[e1,Qjd]at q
  rw[Qjd,evA,Qjd]
  intro ρ1 H1 x1 hr1 vs rs
  cases ex:seqA [] x with
  |none=>rw[ex]at q;exact q.elim
  |some us =>
   rw[ex]at q
   obtain⟨v1,rfl,r1⟩:=Qjw rs
   obtain⟨p,t1,xs,rfl,rl1,sq1⟩:=Qie ex r1
   refine⟨p,t1,rfl,⟨xs,sq1 _ _ Ext.refl⟩,?_⟩
   have q0 :=q
   refine Qdf (src:=none) (QbC (re.ext x1)) hr1 (λk e=>by cases e) (λρ2 h3 H3 i x2 hr3 _=>?_) Qc3 (q0.bnd ρ1 H1 x1 hr1)
   have rl1':=RelL.ext x2 _ _ rl1
   have l1:=rl1'.length
   refine⟨λei=>⟨xs,sq1 _ _ x2,?_⟩,λw ew=>?_⟩
   ·grind
   ·rw[ZL]at ew
    cases eu:us[i]? with
    |none=>rw[eu]at ew;simp at ew
    |some u =>
     rw[eu]at ew
     cases ew
     obtain⟨xv,hx,rx⟩:=rl1'.get eu
     refine⟨⟨xs,xv,sq1 _ _ x2,hx⟩,λv2 H' zq=>?_⟩
     obtain⟨pp,x',hp,e1,e2,f1⟩:=zq
     have g1:=f1 xs (sq1 _ _ x2)
     rw[hx]at g1
     cases g1
     subst e1 e2
     exact Qg8 hr3 hp QaJ rx
end
section
variable {P:Program}{w:World}{A:Around}{E:Value->Shared->Prop}{s:Shared}
end
section
variable {P:Program}{w:World}{A:Around}{E:Value->Shared->Prop}{s:Shared}
end
section
variable {X:Cx}{EX:EXT}{cf:CF}{a:Expr}{a':E}{te:TE}{p p2 p3 pos:Pos}
end
theorem QbO:∀n i its,its.length=n->(∀(j:Nat) (v:Value),its[j]?=some v->∃t,v=.int (i+(j)) t)->Vals ((List.range n).map λ(k:Nat)=>V.int (i+(k:Int))) its
 |0,i,its,hl,_=>by rw[List.length_eq_zero_iff]at hl;subst hl;exact .nil
 |n+1,i,its,hl,h=>by
  obtain⟨v,r,rfl⟩:=Zi hl;rw[List.range_succ_eq_map,zO,zzm];have ih:=QbO n (i+1) r (by simpa using hl) (λj v e=>by
   obtain⟨t,rfl⟩:=h (j+1) v (by simpa using e)
   grind)
  refine .cons (h 0 v rfl) ?_;have e:(List.range n).map ((λ(k:Nat)=>V.int (i+(k:Int))) ∘ Nat.succ)=(List.range n).map λ(k:Nat)=>V.int (i+1+(k:Int)):=zzs λk _=>by grind
  rw[e];exact ih
section
variable {X:Cx}{EX:EXT}{cf:CF}{pos:Pos}{a b:Expr}{a' b':E}
theorem QmE:Qba X (.type "range") (λxs H Q=>∃i j:Int,xs=[.int i,.int j]/\(-(2^62)<=i/\i<2^62/\-(2^62)<=j/\j<2^62)/\∀q,H q=none->Q (.ref q) (upd H q (.rng i j))):=by
 intro pins s σ H xs us Q I r zq9;obtain⟨i,j,e0,hb,q⟩:=zq9;subst e0;cases r with
 |cons r rr=>
  cases rr with
  |cons r' rr=>cases rr;obtain⟨t,rfl⟩:=r;obtain⟨t',rfl⟩:=r';exact call_range_2 ⟨.ref s.heap.objs.size,_,I.laid (o:=.rng i j) (λb o e=>hps0 _ e) (zD _) ⟨_,_,_,zG _ rfl⟩,rfl,q _ I.fresh⟩
theorem Qi7(hc:X.calm=true):Qba X (.type "list") (λxs H Q=>∃p,∃i j:Int,xs=[.ref p]/\H p=some (.rng i j)/\(-(2^62)<=i/\i<2^62/\-(2^62)<=j/\j<2^62)/\(j-i).toNat<=1000/\∀q,H q=none->Q (.ref q) (upd H q (.lst ((List.range (j-i).toNat).map λ(k:Nat)=>V.int (i+(k:Int)))))):=by
 intro pins s σ H xs us Q I r zq9
 obtain⟨p,i,j,e0,hp,hb,hn,q⟩:=zq9
 subst e0
 obtain⟨u,rfl,ru⟩:=r.one
 cases ru
 obtain⟨t,u,v,ho⟩:=I.hok p _ hp
 have hsz:Builtin.Range.rangeSize i j 1=(((j-i).toNat:Nat):Int):=by rw[rangeSize_one];grind
 refine call_list_range (I.ok.hd hc) ho (small_one hb.1 hb.2.1 hb.2.2.1 hb.2.2.2) hsz ZzL λh' tk acc c hk hS ha=>?_
 refine⟨.ref s.heap.objs.size,_,I.laid (o:=.lst _) hk (zD _) ⟨?_,acc.toList,c,QbO _ i acc.toList (by simpa using ha.1) (λk v e=>?_),by simpa using hS⟩,rfl,q _ I.fresh⟩
 ·rw[zo,ZX,Zj];lia
 ·obtain⟨t,rfl⟩:=ha.2 k v (by simpa using e)
  grind
theorem r_lrng(hc:X.calm=true)(hg:Gl X "list")(hm:X.mg "list"=none)(hg2:Gl X "range")(hm2:X.mg "range"=none)(ha:PE X a (tI X.K EX (evE cf a')))(hb:PE X b (tI X.K EX (evE cf b')))(hs:Qam a=true)(hs2:Qam b=true) :
  PE X (.Call (.Name "list" p) [.Call (.Name "range" p2) [a,b] [] p3] [] pos) (tI X.K EX (evE cf (.lrng a' b'))):=by
 have h1:=QaK (p:=p2) (pos:=p3) QmE hg2 hm2 (by decide +kernel) (Qay ha (Qay hb pa_nil (Qaj hs2 _ _)) (Qaj hs _ _)) (by decide +kernel) (by decide +kernel) (Qaj hs _ _) (by rw[Qaj hs2];rfl)
 refine(QaK (Qi7 hc) hg hm zz9 (Qay h1 pa_nil (by rfl)) (by decide +kernel) (by decide +kernel) (by rfl) (by rfl)).sub λτ H Q zq=>?_
 obtain⟨ρ,σ,h,re,hr,q⟩:=zq
 rw[evE]at q
 refine⟨ρ,σ,h,re,hr,q.bnd.mono λw h1 ρ1 H1 x1 hr1 q1 v r=>?_⟩
 refine⟨ρ1,σ,h1,re.ext x1,hr1,q1.bnd.mono λw2 h2 ρ2 H2 x2 hr2 q2 v2 r2=>?_⟩
 rw[Qb2]at q2
 cases w with
 |int i =>
  cases Qaq r
  cases w2 with
  |int j =>
   cases Qaq r2
   unfold Qjc at q2
   dsimp only at q2
   split at q2
   ·rename_i ks ek
    split at ek
    ·rename_i hj
     cases ek
     split at q2
     ·rename_i hl
      refine⟨i,j,rfl,hj,λp hp=>⟨p,i,j,rfl,Qau,hj,by simpa using hl,λq hq=>?_⟩⟩
      have hr3:=hr2.ext_new (o:=.rng i j) hp
      refine q2 _ _ ((ext_new hr2 hp).trans (ext_new hr3 hq)) (hr3.ext_new hq) _ ?_
      refine⟨q,_,rfl,hr3.new hq,Qau,?_⟩
      have:∀(l:List Nat),RelL X.K ρ2 (upd (upd H2 p (.rng i j)) q (.lst ((List.range (j-i).toNat).map λ(k:Nat)=>V.int (i+(k:Int))))) (l.map λ(k:Nat)=>W.int (i+(k:Int))) (l.map λ(k:Nat)=>V.int (i+(k:Int))):=λl=>by
       induction l with
       |nil=>exact .nil
       |cons k l ih=>exact .cons QaJ ih
      exact this _
     ·exact q2.elim
    ·cases ek
   ·exact q2.elim
  |_=>exact q2.elim
 |_=>exact q2.elim
theorem QpS(hp:PassesOwn (model X.prog X.w) X.A X.env X.xe)(hc:X.calm=true)(hi:PI X (.Tuple es x1 ps) it (iEnm X.K c (tIA X.K EX (evA cf [a']))))(hg:PG X (.Tuple es x1 ps) (tGI X.K is))(hb:PSs X bs (tIS X.K EX (exB cf fw bs')))
  (hs:Qbl it=true):PS X (.For (.Tuple es x1 ps) it bs [] pos) (tIS X.K EX (exS cf fw (.for_ is (.seq (.enmE c a')) bs'))) :=
 (QhQ hp hc hi hg hb (QeZ hs _)).sub λD τ H zq=>by
  obtain⟨ρ,σ,h,re,hr,q⟩:=zq;rw[exS,evE]at q;refine⟨ρ,σ,h,re,hr,?_⟩;rw[evA];cases e1:evE cf a' σ h with
  |stuck=>rw[e1]at q;exact q.elim
  |exc c h1=>rw[e1]at q;exact q
  |ok x h1=>
   rw[e1,Qjd]at q;rw[Qjd,evA,Qjd];intro ρ1 H1 x1 hr1 vs rs;cases ex:seqA [] x with
   |none=>rw[ex]at q;exact q.elim
   |some us=>
    rw[ex]at q;obtain⟨v1,rfl,r1⟩:=Qjw rs;obtain⟨p,t1,xs,rfl,rl1,sq1⟩:=Qie ex r1;refine⟨p,t1,rfl,⟨xs,sq1 _ _ Ext.refl⟩,?_⟩;have q0 :=q;have q1:=q0.bnd ρ1 H1 x1 hr1;generalize hws:us.mapIdx (λi u=>W.tup [.int (c+(i:Int)),u])=ws at q1;have lw:ws.length=us.length:=by rw[<- hws,ZJ]
    refine⟨λi m τ H=>m=ws.length-i/\TX X.K EX ρ1 H1 (fo is (exB cf fw bs') (ws.drop i)) (FlQ X.K D) τ H,⟨_,rfl,ρ1,σ,h1,.refl,re.ext x1,hr1,q1⟩,?_⟩;rintro i m τ2 H2 ⟨rfl,ρ2,σ2,h2,x2,re2,hr2,q2⟩;have rl2:=RelL.ext x2 _ _ rl1;have l1:=rl2.length;by_cases hlt:i<ws.length;obtain⟨u,eu⟩:∃u,us[i]?=some u:=⟨_,zJ ZzL⟩;obtain⟨xv,hx,rx⟩:=rl2.get eu;have ew:ws[i]?=some (.tup [.int (c+(i:Int)),u]):=by rw[<- hws,ZL,eu];rfl
    refine .inr ⟨⟨xs,xv,sq1 _ _ x2,hx⟩,λτ' H'=>(ws.length-(i+1))=ws.length-(i+1)/\TX X.K EX ρ1 H1 (fo is (exB cf fw bs') (ws.drop (i+1))) (FlQ X.K D) τ' H',λτ' H' z=>⟨_,ZzL,z⟩,λv2 H' zq=>?_⟩;obtain⟨pp,x',hp,e1,e2,f1⟩:=zq;have g1:=f1 xs (sq1 _ _ x2);rw[hx]at g1;cases g1;subst e1 e2;obtain⟨xe,hr3,rw3⟩:=Qg8 (u:=.int (c+(i:Int))) (x:=.int (c+(i:Int))) hr2 hp QaJ rx;rw[QcX ew]at q2;exact QeW (re2.ext xe) hr3 rw3 (RQ.wk xe q2) λτ' H' ρ' σ' h' x re' hr' q'=>⟨rfl,ρ',σ',h',(x2.trans xe).trans x,re',hr',q'⟩;refine .inl ⟨⟨xs,sq1 _ _ x2,ZzL⟩,?_⟩;rw[zzy ZzL,fo]at q2;exact RQ.here hr2 q2 _ re2
end
section
variable {X:Cx}{EX:EXT}{cf:CF}{fw:Nat}{pos:Pos}{a b c e:Expr}{a' b' c' e':E}
def rSl(K:Fg0)(EX:EXT):V->Option Int->Option Int->Hp->VK->Prop:=λx lo hi H Q =>
 ∃ρ h w,HRel K ρ h H/\Rel K ρ H w x/\RQ K EX ρ H (slW w lo hi h) λw _ ρ' H'=>∀v,Rel K ρ' H' w v->Q v H'
theorem Qiw{v:Value}{o:Option Int}(h:IsPart v o):∃p:Option (Int×Tok),v=partValue p/\p.map (·.1)=o:=by
 cases h with
 |none=>exact⟨none,rfl,rfl⟩
 |int i t=>exact⟨some (i,t),rfl,rfl⟩
theorem Qln{K:Fg0}{ρ:List Addr}{H:Hp}{ws:List W}{xs:List V}{lo hi:Option Int}(r:RelL K ρ H ws xs):RelL K ρ H (Qi6 ws lo hi) (cutV xs lo hi):=by unfold Qi6 cutV;rw[r.length];exact(r.drop _).take _
theorem slW_ok:SlR X (rSl X.K EX):=by
 intro pins s σ H x v vl vu lo hi sl Q I rx hs pl pu zq17;obtain⟨ρ,h,w,hr,r,q⟩:=zq17;unfold slW at q;split at q;rename_i z;split at q;rename_i hz;cases Qat r;obtain⟨t,rfl⟩:=rx;obtain⟨p,rfl,e1⟩:=Qiw pl;obtain⟨p2,rfl,e2⟩:=Qiw pu;subst e1 e2;refine⟨"str",_,PySem.F.slot_str_getitem.lookup,PySem.typeIs_str s z t,?_⟩;obtain⟨o,h1,h2,h3⟩:=hs;refine wpAny_getItem_str_slice (l:=p) (u:=p2) (st:=none) ⟨o,h1,h2,h3⟩ rfl ?_;unfold sliceMade;refine post_val_or_str ?_;have ez:(if((Option.map (λx=>x.1) (none:Option (Int×Tok))).getD 1==1&&(slicePicked z p p2 none).length==z.length)=true then z else⟨((slicePicked z p p2 none).filterMap (z.cps[·]?)).toArray⟩)=Txt.slice z (p.map (·.1)) (p2.map (·.1)):=by unfold Txt.slice slicePicked;simp
 rw[ez];refine⟨zf (Txt.slice_le z _ _) (zf hz ZzD),λt' k=>⟨.str _,H,I.tok k,⟨t',rfl⟩,RQ.here hr q _ Qdt⟩⟩;exact q.elim;rename_i ws;split at q;exact q.elim;rename_i hw;have r0:=r;rw[Rel]at r;obtain⟨p,xs,rfl,hq,rs⟩:=r;exact sl_tup pins s σ H _ v vl vu lo hi sl Q I rx hs pl pu ⟨p,xs,rfl,hq.sq,by rw[<- rs.length];exact hw,RQ.tup hr (Qln rs) q⟩;split at q;rename_i ws e;obtain⟨p,xs,rfl,hq,rs⟩:=QcG hr e r;exact Qpz pins s σ H _ v vl vu lo hi sl Q I rx hs pl pu ⟨p,xs,rfl,hq,RQ.lst hr (Qln rs) q⟩;exact q.elim
def tIO(K:Fg0)(EX:EXT)(ev:Qai->Qaa->Res (Option Int)):L2.TO:=λτ H Q =>
 TR K EX ev (λo _ _ H'=>Q o H') τ H
theorem _root_.L2.PO.sub{X:Cx}{e:Option Expr}{t t':L2.TO}(p:PO X e t)(h:∀τ H Q,t' τ H Q->t τ H Q):PO X e t':=λpins s σ H Q I q=>p pins s σ H Q I (h _ _ _ q)
theorem o_none:PO X none (tIO X.K EX (evO cf none)):=po_none.sub λτ H Q zq=>by obtain⟨ρ,σ,h,re,hr,q⟩:=zq;rw[evO]at q;exact RQ.here hr q
theorem o_some(ha:PE X a (tI X.K EX (evE cf a'))):PO X (some a) (tIO X.K EX (evO cf (some a'))):=(Qpw ha).sub λτ H Q zq=>by obtain⟨ρ,σ,h,re,hr,q⟩:=zq;refine⟨ρ,σ,h,re,hr,q.bnd.mono λw h1 ρ1 H1 x1 hr1 q1 v r=>?_⟩;split at q1;rename_i i;exact⟨i,Qaq r,RQ.here hr1 q1⟩;exact q1.elim
theorem r_sl{lo hi:Option Expr}{lo' hi':Option E}{p2:Pos}(ha:PE X a (tI X.K EX (evE cf a')))(hl:PO X lo (tIO X.K EX (evO cf lo')))(hu:PO X hi (tIO X.K EX (evO cf hi'))) :
  PE X (.Subscript a (.Slice lo hi none p2) pos) (tI X.K EX (evE cf (.sl a' lo' hi'))):=(Qnh slW_ok ha hl hu).sub λτ H Q zq=>by
 obtain⟨ρ,σ,h,re,hr,q⟩:=zq
 exact⟨ρ,σ,h,re,hr,q.bnd.mono λw h1 ρ1 H1 x1 hr1 q1 v r=>(⟨ρ1,σ,h1,re.ext x1,hr1,q1.bnd.mono λl h2 ρ2 H2 x2 hr2 q2=>(⟨ρ2,σ,h2,(re.ext x1).ext x2,hr2,q2.bnd.mono λu h3 ρ3 H3 x3 hr3 q3=>(⟨ρ3,h3,w,hr3,Rel.ext x3 _ _ (Rel.ext x2 _ _ r),q3⟩)⟩)⟩)⟩
theorem Qp5(t:Ty){i:Int}{k:Tok}:Answers (λs=>s.TypeIs (.int i k) "int") (.int i k) (.type (Qaz t)) (decide (t=.int)):=by
 cases t with
 |int=>exact zzD zzn PySem.F.sub_int_int
 |bool=>exact zzN (by decide +kernel) zzb PySem.F.sub_int_bool
 |str=>exact zzN (by decide +kernel) zzo PySem.F.sub_int_str
 |tuple=>exact zzN (rfl) Z4 PySem.F.sub_int_tuple
 |list=>exact zzN (by decide +kernel) zzc PySem.F.sub_int_list
theorem Qmw(t:Ty){i:Bool}:Answers (λs=>s.TypeIs (.bool i) "bool") (.bool i) (.type (Qaz t)) (decide (t=.int)||decide (t=.bool)):=by
 cases t with
 |int=>exact zzD zzn PySem.F.sub_bool_int
 |bool=>exact zzD zzb PySem.F.sub_bool_bool
 |str=>exact Answers.of_false_bool (by decide +kernel) zzo PySem.F.sub_bool_str
 |tuple=>exact Answers.of_false_bool (rfl) Z4 PySem.F.sub_bool_tuple
 |list=>exact Answers.of_false_bool (by decide +kernel) zzc PySem.F.sub_bool_list
theorem Qo3(t:Ty){i:Str}{k:Tok}:Answers (λs=>s.TypeIs (.str i k) "str") (.str i k) (.type (Qaz t)) (decide (t=.str)):=by
 cases t with
 |int=>exact zzO (by decide +kernel) zzn PySem.F.sub_str_int
 |bool=>exact zzO (by decide +kernel) zzb PySem.F.sub_str_bool
 |str=>exact zzD zzo PySem.F.sub_str_str
 |tuple=>exact zzO (by decide +kernel) Z4 PySem.F.sub_str_tuple
 |list=>exact zzO (by decide +kernel) zzc PySem.F.sub_str_list
theorem Qfn(t:Ty){p:Addr}:Answers (λs=>s.TypeIs (.ref p) "list") (.ref p) (.type (Qaz t)) (decide (t=.list)):=by
 cases t with
 |int=>exact zzH (rfl) zzn PySem.F.sub_list_int
 |bool=>exact zzH (rfl) zzb PySem.F.sub_list_bool
 |str=>exact zzH (rfl) zzo PySem.F.sub_list_str
 |tuple=>exact zzH (rfl) Z4 PySem.F.sub_list_tuple
 |list=>exact zzD zzc PySem.F.sub_list_list
theorem Qlr(t:Ty){p:Addr}:Answers (λs=>s.TypeIs (.ref p) "tuple") (.ref p) (.type (Qaz t)) (decide (t=.tuple)):=by
 cases t with
 |int=>exact zzz (rfl) zzn PySem.F.sub_tuple_int
 |bool=>exact zzz (rfl) zzb PySem.F.sub_tuple_bool
 |str=>exact zzz (rfl) zzo PySem.F.sub_tuple_str
 |tuple=>exact zzD Z4 PySem.F.sub_tuple_tuple
 |list=>exact zzz (rfl) zzc PySem.F.sub_tuple_list
theorem QkX{P:Shared->Prop}{x:Value}{f:Ty->Bool}(h:∀t,Answers P x (.type (Qaz t)) (f t)):∀ts:List Ty,AnswersAll P x (ts.map λt=>Value.type (Qaz t)) (ts.map f)
 |[]=>trivial
 |t::ts=>⟨h t,QkX h ts⟩
noncomputable def tyNames:List Expr->Option (List Ty)
 |[]=>some []
 |.Name x _::es=>(tyOf' x).bind λt=>(tyNames es).map (t::·)
 |_=>none
where tyOf' (x:Str):Option Ty:=if x="int" then some .int else if x="bool" then some .bool else if x="str" then some .str else if x="tuple" then some .tuple else if x="list" then some .list else none
theorem Qn0{x:Str}{t:Ty}(h:tyNames.tyOf' x=some t):x=Str.ofString (Qaz t):=by
 unfold tyNames.tyOf' at h
 repeat' split at h
 all_goals first|(cases h;assumption)|grind
theorem a_tys(hg:∀t:Ty,Gl X (Str.ofString (Qaz t))/\X.mg (Str.ofString (Qaz t))=none):∀{es:List Expr}{ts:List Ty},tyNames es=some ts->PA X es (λ_ H Q=>Q (ts.map λt=>V.ty (Qaz t)) H)
 |[],ts,h=>by cases h;exact pa_nil
 |e::es,ts,h=>by
  cases e with
  |Name x p=>
   have h' :=h;obtain⟨t,h1,h2⟩:=obs h';cases h3:tyNames es with
   |none=>grind
   |some us=>rw[h3]at h2;cases h2;have hx:=Qn0 h1;subst hx;have hty:PE X (.Name (Str.ofString (Qaz t)) p) (tC (.ty (Qaz t))):=Qjl (hg t).1 (hg t).2 (Qk0 t) rfl (by cases t<;>decide +kernel) (by cases t<;>decide +kernel);have ih :=a_tys hg h3;exact Qay hty ih rfl
  |_=>cases h
theorem QhC:∀{ts:List Ty}{us:List Value},Vals (ts.map λt=>V.ty (Qaz t)) us->us=ts.map λt=>Value.type (Qaz t)
 |[],us,h=>by cases h;rfl
 |t::ts,us,h=>by
  cases h with
  |cons r rs=>have r' :=r;rw[r',QhC rs];rfl
theorem Qi3{h:Qaa}{w:W}:∀{ts:List Ty}{bs:List Bool}{f:Ty->Bool},(∀t,QaM h w t=some (f t))->ts.mapM (QaM h w)=some bs->bs=ts.map f
 |[],bs,f,_,e=>by grind
 |t::ts,bs,f,hf,e=>by
  rw[List.mapM_cons,hf t]at e;cases e1:ts.mapM (QaM h w) with
  |none=>simp_all
  |some cs=>rw[e1]at e;cases e;rw[Qi3 hf e1];rfl
theorem Qmj{K:Fg0}{h:Qaa}{w:W}{ρ:List Addr}{H:Hp}{v:V}{u:Value}{pins:List (Addr×Obj)}{σ:L2.St}{s:Shared}(hK:X.K=K)(hr:HRel K ρ h H)(r:Rel K ρ H w v)(I:Inv X pins σ H s)(rv:RelV v u)(hs:∃t k,QaM h w t=some k) :
  ∃f:Ty->Bool,(∀t,QaM h w t=some (f t))/\∃Tx,(∀t,Answers (λs=>s.TypeIs u Tx) u (.type (Qaz t)) (f t))/\s.TypeIs u Tx:=by
 subst hK
 obtain⟨t0,k0,ek⟩:=hs
 cases w with
 |int i=>cases Qaq r;obtain⟨t,rfl⟩:=rv;exact⟨_,λ_=>rfl,"int",λt=>Qp5 t,rfl⟩
 |bl i=>cases Qbh r;cases rv;exact⟨_,λ_=>rfl,"bool",λt=>Qmw t,rfl⟩
 |str i=>cases Qat r;obtain⟨t,rfl⟩:=rv;exact⟨_,λ_=>rfl,"str",λt=>Qo3 t,rfl⟩
 |tup ws =>
  rw[Rel]at r
  obtain⟨p,xs,rfl,hq,_⟩:=r
  cases rv
  obtain⟨its,_,ht,_⟩:=I.tuple hq.sq
  exact⟨_,λ_=>rfl,"tuple",λt=>Qlr t,ht.typeIs⟩
 |lst ws =>
  rw[Rel]at r
  obtain⟨p,xs,rfl,_,hq,_⟩:=r
  cases rv
  obtain⟨its,_,ht,_⟩:=I.list (X:=X) (.inl (.inl hq))
  exact⟨_,λ_=>rfl,"list",λt=>Qfn t,ht.isList.typeIs⟩
 |scr ws =>
  rw[Rel]at r
  obtain⟨p,xs,rfl,hq,_⟩:=r
  cases rv
  obtain⟨its,_,ht,_⟩:=I.list hq.sq
  exact⟨_,λ_=>rfl,"list",λt=>Qfn t,ht.isList.typeIs⟩
 |ref n =>
  have ek':(match h[n]? with|some (.lst _)=>some (decide (t0=.list))|_=>none)=some k0:=ek
  split at ek'<;>try (cases ek';done)
  rename_i us e3
  have hsq:seqL h (.ref n)=some us:=by show(match h[n]? with|some (.lst ws)=>some ws|_=>none)=some us;rw[e3]
  obtain⟨p,xs,rfl,hq,_⟩:=QcG hr hsq r
  cases rv
  obtain⟨its,_,ht,_⟩:=I.list hq
  exact⟨λt=>decide (t=.list),λt=>by show(match h[n]? with|some (.lst _)=>some (decide (t=Ty.list))|_=>none)=_;rw[e3],"list",λt=>Qfn t,ht.isList.typeIs⟩
 |_=>cases ek
theorem r_isiT{ts:List Ty}{es:List Expr}{kk:Nat}{p p2:Pos}(hg:Gl X "isinstance")(hm:X.mg "isinstance"=none)(hgt:∀t:Ty,Gl X (Str.ofString (Qaz t))/\X.mg (Str.ofString (Qaz t))=none)
  (ha:PE X a (tI X.K EX (evE cf a'))) (hs:Qam a=true) (ht:tyNames es=some ts) (hne:ts≠[]) (hlen:ts.length<=100) :
  PE X (.Call (.Name "isinstance" p) [a,.Tuple es kk p2] [] pos) (tI X.K EX (evE cf (.isi a' ts))):=by
 intro pins s τ H Q I zq6
 obtain⟨ρ,σ,h,re,hr,q⟩:=zq6
 rw[evE]at q
 refine Z6 (Qdv I hg hm zzC ?_ (by decide +kernel) (by decide +kernel))
 refine PyProof.Rows.callWith_builtin1 ?_ (Qaj hs _ _) (by rfl)
 have hstar:starEach [a,.Tuple es kk p2] X.env=(false,eval a X.env)::(false,eval (.Tuple es kk p2) X.env)::[]:=by rw[Qaj hs];rfl
 rw[hstar]
 show wpAny _ _ (spliced ((false,eval a X.env)::backTo pos [(false,eval (.Tuple es kk p2) X.env)])) _ _ s
 refine zzZ (thn (ha pins s τ H (λx H1=>∃ρ1 h1 w1,HRel X.K ρ1 h1 H1/\Rel X.K ρ1 H1 w1 x/\RQ X.K EX ρ1 H1 (match ts.mapM (QaM h1 w1) with
   |some bs=>okB (bs.any id) h1
   |none=>.stuck) λw _ ρ' H'=>∀v,Rel X.K ρ' H' w v->Q v H') I ⟨ρ,σ,h,re,hr,q.bnd.mono λw1 h1 ρ1 H1 x1 hr1 q1 v r=>⟨ρ1,h1,w1,hr1,r,q1⟩⟩) λu s1 zq=>?_)
 obtain⟨x,H1,I1,r1,ρ1,h1,w1,hr1,rw1,q1⟩:=zq
 refine thn (Q:=λus s2=>∃p,us=[Value.ref p]/\Inv X pins τ H1 s2/\s2.heap.get? p=some { cls:=.type "tuple",data:=.seq (ts.map λt=>Value.type (Qaz t)).toArray }) ?_ λus s2 ⟨p,e1,I2,hp⟩=>?_
 ·show wpAny _ _ (spliced ((false,eval (.Tuple es kk p2) X.env)::[])) _ _ s1
  refine zzZ (wpAny_Tuple_spliced (thn (a_tys hgt ht p2 pins s1 τ H1 (λvs H'=>vs=ts.map (λt=>V.ty (Qaz t))/\H'=H1) I1 ⟨rfl,rfl⟩) λus s2 zq=>?_))
  obtain⟨xs,H2,I2,r2,e1,e2⟩:=zq
  subst e1 e2
  have e3:=QhC r2
  subst e3
  refine⟨zf ?_ (zD sizeLine),?_⟩
  ·rw[zo]
   exact zf hlen ZzD
  ·refine zH ⟨s2.heap.objs.size,rfl,I2.kept (t':=s2.toks) λb o e=>hps0 _ e,zG _ rfl⟩
 ·subst e1
  cases em:ts.mapM (QaM h1 w1) with
  |none=>rw[em]at q1;exact q1.elim
  |some bs =>
   rw[em]at q1
   have hs0:∃t k,QaM h1 w1 t=some k:=by
    cases ts with
    |nil=>exact absurd rfl hne
    |cons t ts=>
     rw[List.mapM_cons]at em;cases ek:QaM h1 w1 t with
     |none=>rw[ek]at em;cases em
     |some k=>exact⟨t,k,ek⟩
   obtain⟨f,hf,Tx,hans,hty⟩:=Qmj rfl hr1 rw1 I2 r1 hs0
   have eb:=Qi3 hf em
   subst eb
   exact PySem.IsiPair.tupleOf (QkX hans ts) hty hp λtk=>⟨.bl _,H1,I2.tok tk,rfl,RQ.here hr1 q1 _ QaZ⟩
end
section
variable {X:Cx}
variable {EX:EXT}{cf:CF}{pos apos:Pos}{a e:Expr}{a' e':E}
end
inductive Gk where
 |fn (n np:Nat)|con (w:W)|cls (c:Nat)|mth (n np:Nat)|ctor (n np:Nat)|bas
structure Cc where
 N:List Str
 sc:Scope
 G:List (Str×Gk)
 mu:List Str
 top:Bool:=true
noncomputable def bltNames:List Str:=["isinstance","len","list","tuple","max","min","int","bool","str","range","sorted","dict","set","all","any","zip","enumerate","reversed","ValueError"]
noncomputable def QgJ(x:Str):Option Bl:=if x="len" then some .len else if x="list" then some .list else if x="tuple" then some .tuple else if x="max" then some .max else if x="min" then some .min else if x="int" then some .int else if x="sorted" then some .sorted else if x="dict" then some .dict else if x="all" then some .all else if x="any" then some .any else none
theorem Qmp{x:Str}{b:Bl}(h:QgJ x=some b):x=Qfp b:=by
 unfold QgJ at h
 repeat' split at h
 all_goals first|(cases h;assumption)|cases h
noncomputable def tyOf(x:Str):Option Ty:=if x="int" then some .int else if x="bool" then some .bool else if x="str" then some .str else if x="tuple" then some .tuple else if x="list" then some .list else none
theorem Qqd{x:Str}{t:Ty}(h:tyOf x=some t):x=Str.ofString (Qaz t):=by
 unfold tyOf at h
 repeat' split at h
 all_goals first|(cases h;assumption)|simp_all
noncomputable def idx(N:List Str)(x:Str):Option Nat:=N.findIdx? λy=>decide (y=x)
theorem Qog{N:List Str}{x:Str}{i:Nat}(h:idx N x=some i):N[i]?=some x:=by obtain⟨h1,h2,_⟩:=List.findIdx?_eq_some_iff_getElem.mp h;simp_all
noncomputable def Cc.glo(C:Cc)(x:Str):Bool:=decide (C.sc.names.lookup x=some .globalImplicit)
noncomputable def Cc.loc(C:Cc)(x:Str):Bool:=decide (C.sc.names.lookup x=some .local)
noncomputable def Cc.vis(C:Cc)(x:Str):Bool:=decide (C.sc.names.lookup x=some .local)||decide (C.sc.names.lookup x=some .cell)
noncomputable def Cc.sto(C:Cc)(x:Str):Bool:=decide (C.sc.names.lookup x=some .local)||(C.top&&decide (C.sc.names.lookup x=some .cell))
noncomputable def Qbf(x:Str):Bool:=!(x==("__debug__":Str))&&!(x==("__classdict__":Str))
noncomputable def nameOf(e:Expr):List Str:=match e with
 |.Name x _=>[x]
 |_=>[]
noncomputable def QgD(tg:Expr):List Str:=".0"::(match tg with
 |.Name x _=>[x]
 |.Tuple es _ _=>es.flatMap nameOf
 |_=>[])
noncomputable def QeK(N own:List Str):List Str:=(own.drop 1).filter λx=>!N.contains x
noncomputable def Cc.blk(C:Cc)(sc:Scope)(own:List Str):Cc:=⟨C.N++QeK C.N own,Qe2 sc C.sc,C.G,[],false⟩
noncomputable def blkB(C:Cc)(sc:Scope)(own:List Str)(is:List Nat):Bool:=decide (sc.kind=.function)&&sc.names.all (λy=>decide (y.2≠.cell))&&sc.names.all (λy=>decide (y.2≠.free\/C.sc.names.lookup y.1=some .cell))
 && sc.names.all (λy=>decide (y.2≠.local\/(sc.names.lookup y.1=some .local/\y.1∈own)))&&decide (C.N++QeK C.N own).Nodup&&own.all (λx=>match idx C.N x with
  |some i=>is.contains i
  |none=>true)
noncomputable def Qod(is:List Nat)(n:Nat)(src:It)(ifs':List E)(elt':E):E:=match src with
 |.seq a=>.compS is n a ifs' elt'
 |.rng es=>.compR is n es ifs' elt'
 |.rng2 _ _ _=>.dic0
noncomputable def Qpe(n:Str):Option (Nat×Nat):=if n="deed" then some (0,0) else if n="part_list" then some (0,1) else if n="follows" then some (0,2) else if n="dead" then some (0,3) else if n="names" then some (1,0) else if n="standings" then some (1,1) else none
theorem QmX{n:Str}{p:Nat×Nat}(h:Qpe n=some p):(Qa9 p.1)[p.2]?=some n:=by
 unfold Qpe at h
 repeat' split at h
 all_goals first|(cases h;subst_vars;rfl)|cases h
noncomputable def Cc.isCl(C:Cc)(c:Nat):Bool:=match C.G.lookup (QcA c) with
 |some (.ctor _ _)=>true
 |_=>false
def BasJ(K:Fg0)(mg:Str->Option Value)(base:Heap)(C:Addr)(bm:List Value)(z:Str):Prop:=∃J bj,mg z=some (.ref J)/\Eo base J bj/\(Value.ref C::bm).contains (.ref J)=true/\ClsK K C bm
structure Sib (X Y:Cx):Prop where
 prog:Y.prog=X.prog
 w:Y.w=X.w
 K:Y.K=X.K
 mg:Y.mg=X.mg
 base:Y.base=X.base
 A:Y.A=X.A
structure COk (cl:Nat->Addr) (X:Cx) (EX:EXT) (cf:CF) (C:Cc):Prop where
 N:X.N=C.N
 nd:C.N.Nodup
 sc:X.env.scope=C.sc
 kind:C.sc.kind=.function
 calm:X.calm=true
 room:X.A.units+64<cLine
 own:PassesOwn (model X.prog X.w) X.A X.env X.xe
 fn:C.top=true->∀x,X.fn x=true
 con:∀x w,C.G.lookup x=some (.con w)->∃u v,X.mg x=some u/\RelV v u/\∀ρ H,Rel X.K ρ H w v
 call:∀(Y:Cx) (EY:EXT),Sib X Y->XL cl Y EY->∀x f np,C.G.lookup x=some (.fn f np)->Gl Y x->(x==("__debug__":Str))=false->∀(p pos:Pos) (e:Expr) (es:List Expr) (es':List E),(e::es).all Qam=true->(e::es).length=np->es'.length=np->PA Y (e::es) (tIA Y.K EY (evA cf es')) ->
  PE Y (.Call (.Name x p) (e::es) [] pos) (tI Y.K EY (evE cf (.call f es')))/\PE Y (.Call (.Name x p) (e::es) [] pos) (tI Y.K EY (evE cf (.call (f+1000) es')))
 ctor:∀(Y:Cx) (EY:EXT),Sib X Y->XL cl Y EY->∀x f np,C.G.lookup x=some (.ctor f np)->Gl Y x->(x==("__debug__":Str))=false->∀(p pos:Pos) (e:Expr) (es:List Expr) (es':List E),(e::es).all Qam=true->es'.length+1=np->PA Y (e::es) (tIA Y.K EY (evA cf es')) ->
  PE Y (.Call (.Name x p) (e::es) [] pos) (tI Y.K EY (evE cf (.call (f+2000) es')))
 mth:∀(Y:Cx) (EY:EXT),Sib X Y->XL cl Y EY->∀m f np,C.G.lookup m=some (.mth f np)->∀(x:Str) (p ap pos:Pos) (a':E) (es:List Expr) (es':List E),ap.endLine=pos.line->es.length<30->es.all Qam=true->es'.length+1=np->PE Y (.Name x p) (tI Y.K EY (evE cf a'))->es'.length=es.length->PA Y es (tIA Y.K EY (evA cf es')) ->
  PE Y (.Call (.Attribute (.Name x p) m ap) es [] pos) (tI Y.K EY (evE cf (.mth f a' es')))
 ocl:∀c f np,C.G.lookup (QcA c)=some (.ctor f np)->∃Ca,OCl X.K c Ca
 nob:∀x,x∈bltNames->C.G.lookup x=none->X.mg x=none
 xl:XL cl X EX
 cls:∀x c,C.G.lookup x=some (.cls c)->X.mg x=some (.ref (cl c))/\∃bm,Eo X.base (cl c) bm/\(∀y d,C.G.lookup y=some (.cls d)->(Value.ref (cl c)::bm).contains (.ref (cl d))=decide (c=d))/\∀z,C.G.lookup z=some .bas->BasJ X.K X.mg X.base (cl c) bm z
section
variable {X:Cx}{EX:EXT}{cf:CF}{C:Cc}{cl:Nat->Addr}
theorem COk.gl(H:COk cl X EX cf C){x:Str}(h:C.glo x=true):Gl X x:=by unfold Gl Env.kindOf;rw[H.sc];exact Zd h
theorem COk.ndX(H:COk cl X EX cf C):X.N.Nodup:=by rw[H.N];exact H.nd
theorem COk.ix(H:COk cl X EX cf C){i:Nat}{x:Str}(h:C.N[i]?=some x):X.N[i]?=some x:=by rw[H.N];lia
noncomputable def Cc.bl(C:Cc)(x:Str):Bool:=C.glo x&&(C.G.lookup x).isNone&&decide (x∈bltNames)
theorem COk.bl(H:COk cl X EX cf C){x:Str}(h:C.bl x=true):Gl X x/\X.mg x=none:=by unfold Cc.bl at h;rw[zE,zE]at h;exact⟨H.gl h.1.1,H.nob _ (Zd h.2) (Option.isNone_iff_eq_none.mp h.1.2)⟩
theorem Qa4(H:COk cl X EX cf C){x:Str}(h:C.sto x=true):Loc X.env.scope x/\(X.fn x=true\/X.env.scope.names.lookup x=some .local):=by unfold Cc.sto at h;rw[zzh,zE]at h;rw[H.sc];rcases h with h|h;exact⟨.inl (Zd h),.inr (Zd h)⟩;exact⟨.inr (Zd h.2),.inl (H.fn h.1 x)⟩
theorem QcP(H:COk cl X EX cf C){x:Str}(h:C.vis x=true):Vis X.env.scope x:=by unfold Cc.vis at h;rw[zzh]at h;rw[H.sc];rcases h with h|h;exact .inl (Zd h);exact .inr (.inl (Zd h))
theorem Qap{x:Str}(h:Qbf x=true):(x==("__debug__"))=false/\(x==("__classdict__"))=false:=by unfold Qbf at h;simp_all
theorem COk.cla(H:COk cl X EX cf C){c:Nat}(h:C.isCl c=true):∃Ca,OCl X.K c Ca:=by unfold Cc.isCl at h;split at h;rename_i f np e;exact H.ocl c f np e;simp_all
theorem blk_ok(H:COk cl X EX cf C){sc:Scope}{own:List Str}{is:List Nat}(h:blkB C sc own is=true)(cs:List (Str×Addr))(L:Addr)(fp:List Addr)(s:Shared)(H0:Hp) :
  COk cl (blk X (C.N++QeK C.N own) sc cs L fp s H0) FX cf (C.blk sc own):=by
 unfold blkB at h
 simp only[zE,Zl]at h
 refine⟨rfl,h.1.2,?_,h.1.1.1.1.1,H.calm,H.room,PassesOwn.never,(λz=>by cases z),H.con,?_,λY EY S hE=>H.ctor Y EY ⟨S.prog,S.w,S.K,S.mg,S.base,S.A⟩ hE,λY EY S hE=>H.mth Y EY ⟨S.prog,S.w,S.K,S.mg,S.base,S.A⟩ hE,H.ocl,H.nob,XL.no (λc h ρ H z=>z),H.cls⟩
 ·show Qe2 sc X.env.scope=Qe2 sc C.sc
  rw[H.sc]
 ·intro Y EY S hE
  exact H.call Y EY ⟨S.prog,S.w,S.K,S.mg,S.base,S.A⟩ hE
theorem blk_is(H:COk cl X EX cf C){sc:Scope}{own:List Str}{is:List Nat}(h0:own.head?=some ".0")(h:blkB C sc own is=true):BlkOk X.env.scope X.N (C.N++QeK C.N own) sc own /\
  (C.N++QeK C.N own).length=X.N.length+(QeK C.N own).length/\∀(i:Nat) (x:Str),X.N[i]?=some x->x∈own->i∈is:=by
 unfold blkB at h
 simp only[zE,Zl,Z5]at h
 obtain⟨⟨⟨⟨⟨h1,h2⟩,h3⟩,h4⟩,h5⟩,h6⟩:=h
 refine⟨⟨h1,h2,λy hy hf=>?_,λy hy hl=>?_,λx hx=>?_,⟨QeK C.N own,by rw[H.N]⟩,λi x hi hl=>?_⟩,by rw[H.N,zA],λi x hi hx=>?_⟩
 ·rcases h3 y hy with z|z
  ·exact absurd hf z
  ·rw[H.sc];exact z
 ·rcases h4 y hy with z|z
  ·exact absurd hl z
  ·exact z.1
 ·rcases h4 _ (QaS hx) with z|z
  ·exact absurd rfl z
  ·exact z.2
 ·rw[H.N]at hl
  rw[zK hl]at hi
  have hm:=zC hi
  exact List.mem_of_mem_drop (zzd.mp hm).1
 ·have q:=h6 x hx
  rw[H.N]at hi
  cases e:idx C.N x with
  |none =>
   unfold idx at e
   rw[List.findIdx?_eq_none_iff]at e
   have:=e x (zC hi)
   simp at this
  |some j =>
   rw[e]at q
   have hj:=Qog e
   have:j=i:=QdC H.nd hj hi
   subst this
   simpa using q
theorem Qmh{c':E}(σ:Qai)(h:Qaa):evTs cf [c'] σ h=evT cf c' σ h:=by
 show bnd (tst (evE cf c' σ h)) _=tst (evE cf c' σ h);cases tst (evE cf c' σ h) with
 |ok b h1=>cases b<;>simp[bnd,evTs]
 |exc c h1=>rfl
 |stuck=>rfl
theorem t_ite{c a b:Expr}{c' a' b':E}{pos:Pos}(hc:PT X c (tIT X.K EX (evT cf c')))(ha:PT X a (tIT X.K EX (evT cf a')))(hb:PT X b (tIT X.K EX (evT cf b'))):PT X (.IfExp c a b pos) (tIT X.K EX (evT cf (.ite c' a' b'))):=by
 intro pins s τ H Q I zq6;obtain⟨ρ,σ,h,re,hr,q⟩:=zq6;rw[Qq0]at q;refine isTrue_IfExp (thn (hc pins s τ H _ I ⟨ρ,σ,h,re,hr,q.bnd.mono λk h1 ρ1 H1 x1 hr1 q1=>(show(if k=true then tIT X.K EX (evT cf a') τ H1 Q else tIT X.K EX (evT cf b') τ H1 Q) from ?_)⟩) λk s1 ⟨H1,I1,q1⟩=>?_);cases k with
 |true=>exact Qn8 ⟨ρ1,σ,h1,re.ext x1,hr1,by simp_all⟩
 |false=>exact Qoj ⟨ρ1,σ,h1,re.ext x1,hr1,by simpa using q1⟩
 cases k with
 |true=>exact ha pins s1 τ H1 Q I1 (by simpa using q1)
 |false=>exact hb pins s1 τ H1 Q I1 (by simpa using q1)
inductive CompP (X:Cx) (EX:EXT) (cf:CF) (elt tg it:Expr) (ifs:List Expr) (sc:Scope) (ce:E):Prop
 |mk (wi:TI) (N' own:List Str) (is:List Nat) (n:Nat) (ifs':List E) (elt':E) (q1:PI X tg it wi) (q2:Qbl it=true) (q3:BlkOk X.env.scope X.N N' sc own) (q4:N'.length=X.N.length+n) (q5:∀(i:Nat) (x:Str),X.N[i]?=some x->x∈own->i∈is)
  (q6:BlkP X cf N' sc tg is ifs ifs' elt elt') (q7:∀τ H Q,tI X.K EX (evE cf ce) τ H Q->wi τ H λJ H1=>∀D,H1 D=none->Qde D J (tGI X.K is) (tIT X.K FX (evTs cf ifs')) (tI X.K FX (evE cf elt')) Q (QgF is n τ) H1)
end
section
variable (C:Cc)
structure Ok (e:Expr) (e':E):Prop where
 a:∀{cl X EX cf},COk cl X EX cf C->PE X e (tI X.K EX (evE cf e'))
 t:∀{cl X EX cf},COk cl X EX cf C->PT X e (tIT X.K EX (evT cf e'))
 w:∀{cl X EX cf},COk cl X EX cf C->∀op vs p,e=.BoolOp op vs p->PW X e (tIT X.K EX (evT cf e'))
structure OkL (es:List Expr) (es':List E):Prop where
 a:∀{cl X EX cf},COk cl X EX cf C->PA X es (tIA X.K EX (evA cf es'))
 s:es.all Qam=true
 l:es'.length=es.length
def OkO(o:Option Expr)(o':Option E):Prop:=∀{cl X EX cf},COk cl X EX cf C->PO X o (tIO X.K EX (evO cf o'))
def OkG(e:Expr)(is:List Nat):Prop:=∀{cl X EX cf},COk cl X EX cf C->PG X e (tGI X.K is)
def OkI(tg it:Expr)(src:It):Prop:=∀{cl X EX cf},COk cl X EX cf C->∀is n ifs' elt',∃wi,PI X tg it wi/\Qbl it=true/\∀τ H Q,tI X.K EX (evE cf (Qod is n src ifs' elt')) τ H Q->wi τ H λJ H1=>∀D,H1 D=none->Qde D J (tGI X.K is) (tIT X.K FX (evTs cf ifs')) (tI X.K FX (evE cf elt')) Q (QgF is n τ) H1
def OkF(elt tg it:Expr)(ifs:List Expr)(sc:Scope)(ce:E):Prop:=∀{cl X EX cf},COk cl X EX cf C->CompP X EX cf elt tg it ifs sc ce
abbrev CE(e:Expr):=Option {e':E // Ok C e e'}
end
section
variable {C:Cc}
noncomputable def pl{e:Expr}(e':E)(h:∀{cl X EX cf},COk cl X EX cf C->PE X e (tI X.K EX (evE cf e')))(hp:Qkr e=true:=by rfl):CE C e:=some ⟨e',h,λH=>QpY (h H) hp,λH op vs p z=>by subst z;cases hp⟩
noncomputable def ox{α:Type}:(o:Option α)->Option {a:α // o=some a}
 |some a=>some ⟨a,rfl⟩
 |none=>none
noncomputable def ix(N:List Str)(x:Str):Option {i:Nat // N[i]?=some x}:=(ox (idx N x)).bind λi=>some ⟨i.1,Qog i.2⟩
noncomputable def lk(x:Str):Option {k:Gk // C.G.lookup x=some k}:=ox (C.G.lookup x)
variable (f:∀e,CE C e)
noncomputable def cL:(es:List Expr)->Option {es':List E // OkL C es es'}
 |[]=>some ⟨[],λ_=>QiC,rfl,rfl⟩
 |e::es=>(f e).bind λa=>(cL es).bind λas=>if h:Qam e then some ⟨a.1::as.1,λH=>Qdw (a.2.a H) (as.2.a H) h,by rw[ZB,h,as.2.s];rfl,by simp[as.2.l]⟩ else none
noncomputable def QnZ:(es:List Expr)->Option {is:List Nat // (∀{cl X EX cf},COk cl X EX cf C->PGs X es (tGs X.K is))/\es.all Qa2=true/\es.length=is.length}
 |[]=>some ⟨[],λ_=>gs_nil,rfl,rfl⟩
 |.Name x p::es=>(ix C.N x).bind λi=>(QnZ es).bind λis=>if h:C.sto x then some ⟨i.1::is.1,λH=>Qpo H.ndX (H.ix i.2) (Qa4 H h).1 (Qa4 H h).2 (is.2.1 H),by rw[ZB,is.2.2.1];rfl,by simp[is.2.2.2]⟩ else none
 |_::_=>none
noncomputable def cTg:(e:Expr)->Option {is:List Nat // OkG C e is}
 |.Name x p=>(ix C.N x).bind λi=>if h:C.sto x then some ⟨[i.1],λH=>g_name H.ndX (H.ix i.2) (Qa4 H h).1 (Qa4 H h).2⟩ else none
 |.Tuple es k p=>(QnZ es).bind λis=>if h:is.1.length=1 then none else some ⟨is.1,λH=>g_tup H.calm (is.2.1 H) is.2.2.1 is.2.2.2 h⟩
 |_=>none
noncomputable def cO:(o:Option Expr)->Option {o':Option E // OkO C o o'}
 |none=>some ⟨none,λ_=>o_none⟩
 |some l=>(f l).bind λl'=>some ⟨some l'.1,λH=>o_some (l'.2.a H)⟩
noncomputable def cIfs:(ifs:List Expr)->Option {ifs':List E // ∀{cl X EX cf},COk cl X EX cf C->PTs X ifs (tIT X.K EX (evTs cf ifs'))}
 |[]=>some ⟨[],λ_ pins s σ H Q I ⟨ρ,σ',h,re,hr,q⟩=>Qpl pins s σ H Q I (by rw[evTs]at q;exact RQ.here hr q)⟩
 |[c]=>(f c).bind λc'=>some ⟨[c'.1],λH pins s σ h Q I ⟨ρ,σ',h',re,hr,q⟩=>Qo5 (c'.2.t H) pins s σ h Q I ⟨ρ,σ',h',re,hr,by rw[Qmh]at q;exact q⟩⟩
 |_=>none
noncomputable def cSrc(tg it:Expr):Option {src:It // OkI C tg it src}:=match it with
 |.Call (.Name x p) [a] ks p2=>(f a).bind λa'=>if ha:Qam a then(match ks with
  |[]=>if h:x="range"/\C.bl "range" then some ⟨.rng [a'.1],λH is n ifs' elt'=>⟨_,by rw[h.1];exact Qgg (H.bl h.2).1 (H.bl h.2).2 (Qdw (a'.2.a H) QiC ha) (Qaj ha _ _),rfl,q_rng1⟩⟩
   else(f (.Call (.Name x p) [a] [] p2)).bind λc'=>some ⟨.seq c'.1,λH is n ifs' elt'=>⟨_,i_seq (c'.2.a H),rfl,q_seq⟩⟩
  |[⟨nm,.Constant (.int i) j kp,kp2⟩]=>(match tg with
   |.Tuple es k tp=>if h:x="enumerate"/\nm=some "start"/\i=1/\C.bl "enumerate" then some ⟨.seq (.enmE 1 a'.1),λH is n ifs' elt'=>⟨_,by rw[h.1,h.2.1,h.2.2.1];exact Qjy (H.bl h.2.2.2).1 (H.bl h.2.2.2).2 (Qdw (a'.2.a H) QiC ha) (Qaj ha _ _),rfl,q_enm⟩⟩ else none
   |_=>none)
  |_=>none) else none
 |.Call (.Name x p) [a,b] [] p2=>(f a).bind λa'=>(f b).bind λb'=>if hs:Qam a/\Qam b then(if h:x="range"/\C.bl "range" then some ⟨.rng [a'.1,b'.1],λH is n ifs' elt'=>⟨_,by rw[h.1];exact Qgy (H.bl h.2).1 (H.bl h.2).2 (Qdw (a'.2.a H) (Qdw (b'.2.a H) QiC hs.2) hs.1) (by rw[Qaj hs.1,Qaj hs.2];rfl) (by rw[Qaj hs.2];rfl),rfl,q_rng2⟩⟩
  else match tg with
  |.Tuple es k tp=>if h:x="zip"/\C.bl "zip" then some ⟨.seq (.zipE a'.1 b'.1),λH is n ifs' elt'=>⟨_,by rw[h.1];exact pi_zip (H.bl h.2).1 (H.bl h.2).2 (Qdw (a'.2.a H) (Qdw (b'.2.a H) QiC hs.2) hs.1) (by rw[Qaj hs.1,Qaj hs.2];rfl) (by rw[Qaj hs.2];rfl),rfl,q_zip⟩⟩ else none
  |_=>none) else none
 |it=>(f it).bind λa'=>if h:Qbl it then some ⟨.seq a'.1,λH is n ifs' elt'=>⟨_,i_seq (a'.2.a H),h,q_seq⟩⟩ else none
theorem Qna(tg:Expr):(QgD tg).head?=some ".0":=rfl
noncomputable def cGen(g:∀(C:Cc) (e:Expr),CE C e)(elt tg it:Expr)(ifs:List Expr)(sc:Scope):Option {ce:E // OkF C elt tg it ifs sc ce} :=
 (cTg (C:=C.blk sc (QgD tg)) tg).bind λis=>(g (C.blk sc (QgD tg)) elt).bind λelt'=>(cIfs (g (C.blk sc (QgD tg))) ifs).bind λifs'=>(cSrc (g C) tg it).bind λsrc =>
  if hb:blkB C sc (QgD tg) is.1 then some ⟨Qod is.1 (QeK C.N (QgD tg)).length src.1 ifs'.1 elt'.1,λH=>by
   obtain⟨wi,q1,q2,q3⟩:=src.2 H is.1 (QeK C.N (QgD tg)).length ifs'.1 elt'.1
   obtain⟨b1,b2,b3⟩:=blk_is H (Qna tg) hb
   exact⟨wi,_,_,is.1,_,ifs'.1,elt'.1,q1,q2,b1,b2,b3,λcl L fp s H0=>have HB:=blk_ok H hb cl L fp s H0;⟨is.2 HB,ifs'.2 HB,elt'.2.a HB⟩,q3⟩⟩ else none
noncomputable def cCon(k:Const)(j:Nat)(p:Pos):CE C (.Constant k j p):=match k with
 |.int i=>pl (.con (.int i)) λ_=>Qj1
 |.bool b=>pl (.con (.bl b)) λ_=>Qnc
 |.str s=>pl (.con (.str s)) λ_=>Qkm
 |.none=>pl (.con .non) λ_=>Qll
 |_=>none
noncomputable def cNm(x:Str)(p:Pos):CE C (.Name x p):=if ho:Qbf x then(match ix C.N x with
 |some i=>if h:C.vis x then pl (.var i.1) λH=>r_var (H.ix i.2) (QcP H h) (Qap ho).1 (Qap ho).2 else none
 |none=>(lk x).bind λk=>match k with
  |⟨.con w,hw⟩=>if hg:C.glo x then pl (.con w) λH=>let ⟨_,_,h1,h2,h3⟩:=H.con x w hw;r_glob (H.gl hg) h1 h2 h3 (Qap ho).1 else none
  |_=>none) else none
noncomputable def cUn(op:UnaryOp)(a:Expr)(p:Pos):CE C (.UnaryOp op a p):=(f a).bind λa'=>match op with
 |.Not=>some ⟨.not_ a'.1,λH=>r_not (a'.2.a H),λH=>t_not (a'.2.t H),λ_ _ _ _ z=>by cases z⟩
 |.USub=>pl (.neg a'.1) λH=>r_neg (a'.2.a H)
 |_=>none
noncomputable def cCmp(a:Expr)(ops:List CmpOp)(bs:List Expr)(p:Pos):CE C (.Compare a ops bs p):=match ops,bs with
 |[op],[b]=>(f a).bind λa'=>(f b).bind λb'=>if hp:QeL b then some ⟨.cmp op a'.1 b'.1,λH=>r_cmp H.room (a'.2.a H) (b'.2.a H) hp,λH=>t_cmp H.room (a'.2.a H) (b'.2.a H) hp,λ_ _ _ _ z=>by cases z⟩ else none
 |[op,op'],[b,c]=>(f a).bind λa'=>(f b).bind λb'=>(f c).bind λc'=>if hp:lastMarks [op,op'] [b,c]=false then some ⟨.chn op op' a'.1 b'.1 c'.1,λH=>r_chn H.room (a'.2.a H) (b'.2.a H) (c'.2.a H) hp,λH=>t_chn H.room (a'.2.a H) (b'.2.a H) (c'.2.a H) hp,λ_ _ _ _ z=>by cases z⟩ else none
 |_,_=>none
noncomputable def cBool(op:BoolOp)(vs:List Expr)(p:Pos):CE C (.BoolOp op vs p):=match vs with
 |[]=>none
 |[a]=>(f a).bind λa'=>some ⟨a'.1,λH=>pe_one (a'.2.a H),λH=>(QnP (a'.2.t H)).pt,λH _ _ _ z=>by cases z;exact QnP (a'.2.t H)⟩
 |a::b::r=>(f a).bind λa'=>(f (.BoolOp op (b::r) p)).bind λb'=>match op,b' with
  |.And,b'=>some ⟨.and_ a'.1 b'.1,λH=>r_and (a'.2.a H) (b'.2.a H),λH=>(t_and (a'.2.t H) (b'.2.w H _ _ _ rfl)).pt,λH _ _ _ z=>by cases z;exact t_and (a'.2.t H) (b'.2.w H _ _ _ rfl)⟩
  |.Or,b'=>some ⟨.or_ a'.1 b'.1,λH=>r_or (a'.2.a H) (b'.2.a H),λH=>(t_or (a'.2.t H) (b'.2.w H _ _ _ rfl)).pt,λH _ _ _ z=>by cases z;exact t_or (a'.2.t H) (b'.2.w H _ _ _ rfl)⟩
noncomputable def cSub(a b:Expr)(p:Pos):CE C (.Subscript a b p):=(f a).bind λa'=>match b with
 |.Slice lo hi none p2=>(cO f lo).bind λlo'=>(cO f hi).bind λhi'=>pl (.sl a'.1 lo'.1 hi'.1) λH=>r_sl (a'.2.a H) (lo'.2 H) (hi'.2 H)
 |b=>(f b).bind λb'=>if hp:Qdg b then pl (.ix a'.1 b'.1) λH=>r_ix H.room (a'.2.a H) (b'.2.a H) hp else none
noncomputable def cFld(a:Expr)(n:Str)(p:Pos):CE C (.Attribute a n p):=match hq:Qpe n with
 |some q=>(f a).bind λa'=>if h:C.isCl q.1/\QbV a then pl (.fld q.1 q.2 a'.1) λH=>let ⟨_,O⟩:=H.cla h.1;r_fld O (QmX hq) (a'.2.a H) h.2 else none
 |none=>none
noncomputable def cIsi(a t:Expr)(p1 p:Pos):CE C (.Call (.Name "isinstance" p1) [a,t] [] p):=(f a).bind λa'=>if h:Qam a/\C.bl "isinstance" then(match t with
 |.Name t p2=>(match ht:tyOf t with
  |some ty=>if h2:C.bl t then pl (.isi a'.1 [ty]) λH=>by
   have ht:=Qqd ht
   subst ht
   exact r_isi (H.bl h.2).1 (H.bl h.2).2 (H.bl h2).1 (H.bl h2).2 (a'.2.a H) h.1 else none
  |none=>none)
 |.Tuple ts k p2=>(match ht:tyNames ts with
  |some tys=>if h2:tys≠[]/\tys.length<=100/\C.bl "int"/\C.bl "bool"/\C.bl "str"/\C.bl "tuple"/\C.bl "list" then pl (.isi a'.1 tys) λH=>r_isiT (H.bl h.2).1 (H.bl h.2).2 (λt=>by obtain⟨_,_,b1,b2,b3,b4,b5⟩:=h2;cases t<;>first|exact H.bl b1|exact H.bl b2|exact H.bl b3|exact H.bl b4|exact H.bl b5) (a'.2.a H) h.1 ht h2.1 h2.2.1 else none
  |none=>none)
 |_=>none) else none
noncomputable def Qn2(x:Str)(p:Pos)(e:Expr)(es:List Expr)(pos:Pos):CE C (.Call (.Name x p) (e::es) [] pos):=match hb:QgJ x with
 |some b=>(cL f (e::es)).bind λes'=>if h:C.bl x then pl (.blt b es'.1) λH=>by have hx:=Qmp hb;subst hx;exact r_blt H.calm (H.bl h).1 (H.bl h).2 (es'.2.a H) es'.2.s else none
 |none=>none
noncomputable def QhT(x:Str)(p:Pos)(e:Expr)(es:List Expr)(pos:Pos):CE C (.Call (.Name x p) (e::es) [] pos):=(lk x).bind λk=>(cL f (e::es)).bind λes'=>if h:C.glo x/\Qbf x then(match k with
 |⟨.fn g np,hg⟩=>if hl:(e::es).length=np then pl (.call g es'.1) λH=>(H.call _ _ ⟨rfl,rfl,rfl,rfl,rfl,rfl⟩ H.xl x g np hg (H.gl h.1) (Qap h.2).1 _ _ _ _ _ es'.2.s hl (es'.2.l.trans hl) (es'.2.a H)).1 else none
 |⟨.ctor g np,hg⟩=>if hl:(e::es).length+1=np then pl (.call (g+2000) es'.1) λH=>H.ctor _ _ ⟨rfl,rfl,rfl,rfl,rfl,rfl⟩ H.xl x g np hg (H.gl h.1) (Qap h.2).1 _ _ _ _ _ es'.2.s (by rw[es'.2.l];exact hl) (es'.2.a H) else none
 |_=>none) else none
noncomputable def cCallN(x:Str)(p:Pos)(e:Expr)(es:List Expr)(pos:Pos):CE C (.Call (.Name x p) (e::es) [] pos):=match es,e with
 |[t],e=>if h:x="isinstance" then(cIsi f e t p pos).bind λc=>some ⟨c.1,by rw[h];exact c.2⟩ else if(QgJ x).isSome then Qn2 f x p e [t] pos else QhT f x p e [t] pos
 |[],.Call (.Name y p1) [a] [] p2=>if x="" then none
  else if x="len"/\y="set" then(f a).bind λa'=>if h:x="len"/\y="set"/\C.bl "len"/\C.bl "set"/\Qam a then pl (.slen a'.1) λH=>by rw[h.1,h.2.1];exact r_slen H.calm (H.bl h.2.2.1).1 (H.bl h.2.2.1).2 (H.bl h.2.2.2.1).1 (H.bl h.2.2.2.1).2 (a'.2.a H) h.2.2.2.2 else none
  else if(QgJ x).isSome then Qn2 f x p (.Call (.Name y p1) [a] [] p2) [] pos else QhT f x p (.Call (.Name y p1) [a] [] p2) [] pos
 |[],.Call (.Name y p1) [a,b] [] p2=>if x="list"/\y="range" then(f a).bind λa'=>(f b).bind λb'=>if h:x="list"/\y="range"/\C.bl "list"/\C.bl "range"/\Qam a/\Qam b then pl (.lrng a'.1 b'.1) λH=>by rw[h.1,h.2.1];exact r_lrng H.calm (H.bl h.2.2.1).1 (H.bl h.2.2.1).2 (H.bl h.2.2.2.1).1 (H.bl h.2.2.2.1).2 (a'.2.a H) (b'.2.a H) h.2.2.2.2.1 h.2.2.2.2.2 else none
  else if(QgJ x).isSome then Qn2 f x p (.Call (.Name y p1) [a,b] [] p2) [] pos else QhT f x p (.Call (.Name y p1) [a,b] [] p2) [] pos
 |es,e=>if(QgJ x).isSome then Qn2 f x p e es pos else QhT f x p e es pos
noncomputable def cMethO(x:Str)(p:Pos)(m:Str)(ap pos:Pos)(es:List Expr):CE C (.Call (.Attribute (.Name x p) m ap) es [] pos):=(lk m).bind λk=>match k with
 |⟨.mth g np,hg⟩=>(f (.Name x p)).bind λa'=>(cL f es).bind λes'=>if h:ap.endLine=pos.line/\es.length+1=np/\es.length<30 then pl (.mth g a'.1 es'.1) λH=>H.mth _ _ ⟨rfl,rfl,rfl,rfl,rfl,rfl⟩ H.xl m g np hg _ _ _ _ _ _ _ h.1 h.2.2 es'.2.s (by rw[es'.2.l];exact h.2.1) (a'.2.a H) es'.2.l (es'.2.a H) else none
 |_=>none
noncomputable def cMeth(a:Expr)(m:Str)(ap pos:Pos)(es:List Expr):CE C (.Call (.Attribute a m ap) es [] pos):=(f a).bind λa'=>if h:ap.endLine=pos.line/\QbV a then(match es with
 |[b]=>(f b).bind λb'=>if hb:Qam b then(
   if hm:m="append" then pl (.meth .append a'.1 [b'.1]) λH=>by rw[hm];exact QmG (a'.2.a H) (b'.2.a H) hb h.2 h.1
   else if hm:m="extend" then pl (.meth .extend a'.1 [b'.1]) λH=>by rw[hm];exact Qni (a'.2.a H) (b'.2.a H) hb h.2 h.1
   else if hm:m="get" then pl (.meth .get a'.1 [b'.1]) λH=>by rw[hm];exact r_get H.room (a'.2.a H) (b'.2.a H) hb h.2 h.1
   else none) else none
 |[]=>if m="" then none
  else if hm:m="pop" then pl (.meth .pop a'.1 []) λH=>by rw[hm];exact r_pop (a'.2.a H) h.2 h.1
  else none
 |_=>none) else none
noncomputable def cCall(g:Expr)(es:List Expr)(pos:Pos):CE C (.Call g es [] pos):=match g with
 |.Name x p=>(match es with
  |e::es=>cCallN f x p e es pos
  |[]=>none)
 |.Attribute (.Name x p) m ap=>if(C.G.lookup m).isSome then cMethO f x p m ap pos es else cMeth f (.Name x p) m ap pos es
 |.Attribute a m ap=>cMeth f a m ap pos es
 |_=>none
end
noncomputable def cE:Nat->(C:Cc)->(e:Expr)->CE C e
 |0,_,_=>none
 |n+1,C,e=>match e with
  |.Constant k j p=>cCon k j p
  |.Dict [] [] p=>pl .dic0 λ_=>r_dic0
  |.Name x p=>cNm x p
  |.BinOp a op b p=>(cE n C a).bind λa'=>(cE n C b).bind λb'=>pl (.bin op a'.1 b'.1) λH=>r_bin (opW_ok _) (a'.2.a H) (b'.2.a H)
  |.UnaryOp op a p=>cUn (cE n C) op a p
  |.Compare a ops bs p=>cCmp (cE n C) a ops bs p
  |.BoolOp op vs p=>cBool (cE n C) op vs p
  |.IfExp c a b p=>(cE n C c).bind λc'=>(cE n C a).bind λa'=>(cE n C b).bind λb'=>some ⟨.ite c'.1 a'.1 b'.1,λH=>r_ite (c'.2.t H) (a'.2.a H) (b'.2.a H),λH=>t_ite (c'.2.t H) (a'.2.t H) (b'.2.t H),λ_ _ _ _ z=>by cases z⟩
  |.Tuple es k p=>(cL (cE n C) es).bind λes'=>pl (.tup es'.1) λH=>r_tup (es'.2.a H)
  |.List es p=>(cL (cE n C) es).bind λes'=>pl (.lst es'.1) λH=>r_lst (es'.2.a H)
  |.Subscript a b p=>cSub (cE n C) a b p
  |.Attribute a x p=>cFld (cE n C) a x p
  |.ListComp elt [⟨tg,it,ifs,0⟩] sc p=>(cGen (cE n) elt tg it ifs sc).bind λce=>pl ce.1 λH=>let ⟨_,_,_,_,_,_,_,q1,q2,q3,q4,q5,q6,q7⟩:=ce.2 H;QnJ H.calm q1 q2 q3 q4 q5 q6 q7
  |.Call g es [] p=>cCall (cE n C) g es p
  |_=>none
def Stk(X:Cx):Prop:=X.stack=X.env::X.outer/\X.env.frame=some X.env.locals
section
variable (C:Cc)
def OkS(s:Stmt)(s':S):Prop:=∀{cl X EX cf fw},COk cl X EX cf C->XM cl X EX->Stk X->PS X s (tIS X.K EX (exS cf fw s'))
def OkB(ss:List Stmt)(ss':List S):Prop:=∀{cl X EX cf fw},COk cl X EX cf C->XM cl X EX->Stk X->PSs X ss (tIS X.K EX (exB cf fw ss'))
def OkV(e:Expr)(e':E):Prop:=∀{cl X EX cf},COk cl X EX cf C->PE X e (tI X.K EX (evE cf e'))
def OkN(e:Expr)(e':E):Prop:=∀{cl X EX cf},COk cl X EX cf C->PE X e (tIF X.K EX (evF cf e'))
abbrev CS(s:Stmt):=Option {s':S // OkS C s s'}
end
theorem COk.loc{X:Cx}{EX:EXT}{cf:CF}{C:Cc}{cl:Nat->Addr}(H:COk cl X EX cf C){x:Str}(h:C.loc x=true):X.env.scope.names.lookup x=some .local:=by rw[H.sc];exact Zd h
section
variable {C:Cc} (n:Nat)
noncomputable def cF(e:Expr):Option {e':E // OkN C e e'}:=match e with
 |.List es p=>(cL (cE n C) es).bind λes'=>some ⟨.lst es'.1,λH=>f_lst (es'.2.a H)⟩
 |.BinOp a .Mult b p=>(cE n C a).bind λa'=>(cE n C b).bind λb'=>some ⟨.bin .Mult a'.1 b'.1,λH=>f_mul (a'.2.a H) (b'.2.a H)⟩
 |.BinOp a .Add b p=>(cE n C a).bind λa'=>(cE n C b).bind λb'=>some ⟨.bin .Add a'.1 b'.1,λH=>f_add (a'.2.a H) (b'.2.a H)⟩
 |.Call (.Name x p) [a] [] p2=>(cE n C a).bind λa'=>if h:x="list"/\C.bl "list"/\Qam a then some ⟨.blt .list [a'.1],λH=>by rw[h.1];exact f_list (H.bl h.2.1).1 (H.bl h.2.1).2 (a'.2.a H) h.2.2⟩ else none
 |_=>none
noncomputable def Qjs(e:Expr):Bool:=match e with
 |.List ..=>true
 |.BinOp ..=>true
 |.Call (.Name x _) _ _ _=>decide (x="list")
 |.Subscript _ (.Slice none none (some _) _) _=>true
 |_=>false
noncomputable def cOwn(n:Nat)(e:Expr):Option {e':E // OkV C e e'}:=match e with
 |_=>none
noncomputable def QgG(C:Cc)(e:Expr):Bool:=match e with
 |.BinOp _ .Add (.List _ _) _=>true
 |.Call (.Name x _) _ _ _=>(match C.G.lookup x with
  |some (.fn _ _)=>true
  |_=>false)
 |_=>false
noncomputable def cDup2(n:Nat)(x f:Str)(e:Expr)(p3 p4 p5 q1:Pos)(s2:Stmt):Option {d:S // ∀sts ss',OkB C sts ss'->OkB C (.Assign [.Name x p3] (.Call (.Name f p4) [e] [] p5) q1::s2::sts) (d::ss')}:=match s2 with
 |.Assign [.Subscript (.Name y p6) (.Name k p7) p8] (.Name vn p9) q2=>(ix C.N x).bind λi=>(ix C.N k).bind λki=>(ix C.N vn).bind λv=>(cE n C e).bind λe' =>
  if h:x=y/\f="dict"/\C.mu.contains x=false/\C.sto x/\C.vis x/\Qbf x/\C.vis k/\Qbf k/\C.vis vn/\Qbf vn/\C.bl "dict"/\Qam e then some ⟨.dupd i.1 e'.1 ki.1 v.1,λsts ss' hss cl X EX cf fw H M K=>by
   obtain⟨rfl,rfl,_,c3,c4,c5,c6,c7,c8,c9,c10,c12⟩:=h
   exact b_dup H.room H.ndX (H.ix i.2) (Qa4 H c3).1 (Qa4 H c3).2 (QcP H c4) (Qap c5) (H.ix ki.2) (QcP H c6) (Qap c7) (H.ix v.2) (QcP H c8) (Qap c9) (H.bl c10).1 (H.bl c10).2 (e'.2.a H) c12 (hss H M K)⟩ else none
 |_=>none
noncomputable def cDup(s1 s2:Stmt):Option {d:S // ∀sts ss',OkB C sts ss'->OkB C (s1::s2::sts) (d::ss')}:=match s1 with
 |.Assign [.Name x p3] (.Call (.Name f p4) [e] [] p5) q1=>cDup2 n x f e p3 p4 p5 q1 s2
 |_=>none
variable (f:∀s,CS C s)
noncomputable def cB:(ss:List Stmt)->Option {ss':List S // OkB C ss ss'}
 |[]=>some ⟨[],λ_ _ _=>b_nil⟩
 |[s]=>(f s).bind λa=>some ⟨[a.1],λH M K=>Qou (a.2 H M K) b_nil⟩
 |s::s2::ss=>match cDup n (C:=C) s s2 with
  |some d=>(cB ss).bind λas=>some ⟨d.1::as.1,d.2 _ _ as.2⟩
  |none=>(f s).bind λa=>(cB (s2::ss)).bind λas=>some ⟨a.1::as.1,λH M K=>Qou (a.2 H M K) (as.2 H M K)⟩
theorem s_retN{X:Cx}{EX:EXT}{cf:CF}{fw:Nat}{pos:Pos}:PS X (.Return none pos) (tIS X.K EX (exS cf fw (.ret (.con .non)))):=ps_retN.sub λD τ H zq=>by obtain⟨ρ,σ,h,re,hr,q⟩:=zq;exact RQ.here hr q _ Qga
noncomputable def cFp(e:Expr):Option {p:Fp // ∀{cl X EX cf},COk cl X EX cf C->PF X e p}:=match e with
 |.FormattedValue (.Name x p1) cv none p2=>if hv:cv=-1 then(if h:C.vis x/\Qbf x then(ix C.N x).bind λi=>some ⟨.var i.1,λH=>by rw[hv];exact pf_var (H.ix i.2) (QcP H h.1) (Qap h.2).1 (Qap h.2).2⟩
   else if h:C.glo x/\Qbf x then(lk (C:=C) x).bind λk=>match k with
    |⟨.con (.int n),hn⟩=>if hz:n.natAbs<10^100 then some ⟨.con,λH=>by
     obtain⟨u,v,hm,r,rr⟩:=H.con x _ hn
     cases Qaq (rr [] nowh)
     obtain⟨t,rfl⟩:=r
     rw[hv]
     exact pf_con (H.gl h.1) hm (Qap h.2).1 hz⟩ else none
    |_=>none
   else none)
  else if hv:cv=114/\C.vis x/\Qbf x then(ix C.N x).bind λi=>some ⟨.rep i.1,λH=>by rw[hv.1];exact pf_rep (H.ix i.2) (QcP H hv.2.1) (Qap hv.2.2).1 (Qap hv.2.2).2⟩ else none
 |.Constant (.str z) j p=>if hl:z.length<=1000 then some ⟨.lit,λ_=>pf_lit hl⟩ else none
 |_=>none
noncomputable def cFps:(es:List Expr)->Option {ps:List Fp // ∀{cl X EX cf},COk cl X EX cf C->PFs X es ps}
 |[]=>some ⟨[],λ_=>.nil⟩
 |e::es=>(cFp e).bind λp=>(cFps es).bind λps=>some ⟨p.1::ps.1,λH=>.cons (p.2 H) (ps.2 H)⟩
noncomputable def cRaise(e:Expr):Option {s':S // ∀pos,OkS C (.Raise (some e) none pos) s'}:=match e with
 |.Call (.Name x np) [a] [] cp=>(lk x).bind λk=>if h:C.glo x/\Qbf x/\Qam a then(match k,a with
  |⟨.cls c,hc⟩,.Constant (.str z) j p=>some ⟨.raise c [],λ_ _ _ _ _ _ H M _=>let ⟨hm,_,O,_⟩:=H.cls x c hc;QkY H.calm (H.gl h.1) hm (Qap h.2.1).1 O M Qqq h.2.2⟩
  |⟨.cls c,hc⟩,.JoinedStr (e1::e2::es) p=>(cFps (C:=C) (e1::e2::es)).bind λps=>if hl:(e1::e2::es).length<=20 then some ⟨.raise c ps.1,λ_ _ _ _ _ _ H M _=>let ⟨hm,_,O,_⟩:=H.cls x c hc;QkY H.calm (H.gl h.1) hm (Qap h.2.1).1 O M (QmC (ps.2 H) hl) h.2.2⟩ else none
  |_,_=>none) else none
 |_=>none
noncomputable def cHd(st:Stmt):Option {hd:Hd // ∀{cl X EX cf},COk cl X EX cf C->∀v E,PS (Cx.hnd X v E) st (tHd X.K hd)}:=match st with
 |.Return (some (.Constant (.str z) j p)) p2=>some ⟨.ret (.str z),λ{_ X _ _} H v E=>(QjR (X:=Cx.hnd X v E) pe_str).sub λD τ H ⟨c,ρ,h,σ,re,hr,q⟩=>q _ Qdt⟩
 |.Assign [.Name y p] (.Constant (.str z) j p2) p3=>(ix C.N y).bind λi=>if hc:C.sto y then some ⟨.asg i.1 (.str z),λ{_ X _ _} H v E=>by
  refine(Qc7 (X:=Cx.hnd X v E) H.ndX (H.ix i.2) (Qa4 H hc).1 pe_str rfl (Qa4 H hc).2).sub λD τ H' zq=>?_
  obtain⟨c,ρ,h,σ,re,hr,q⟩:=zq
  refine q _ (RelE.set (re (σ.map λ_=>none) ZzS (λk w z=>?_)) i.1 Qdt)
  rw[zT]at z
  cases e:σ[k]? with
  |none=>rw[e]at z;cases z
  |some o=>rw[e]at z;cases z⟩ else none
 |_=>none
noncomputable def cHs:(hs:List ExceptHandler)->Option {hs':List (Nat×Hd) // (∀{cl X EX cf},COk cl X EX cf C->HdsOk X cl hs hs')/\∀d∈hs'.map (·.1),∃x,C.G.lookup x=some (.cls d)}
 |[]=>some ⟨[],λ_=>.nil,ZzS⟩
 |hb::hs=>match hb with
  |.ExceptHandler (some (.Name x np)) none [st] pp=>(cHd st).bind λhd=>(cHs hs).bind λps=>(lk x).bind λk=>(match k with
   |⟨.cls d,hk⟩=>if hc:C.glo x/\Qbf x then some ⟨(d,hd.1)::ps.1,λH=>.cons ⟨x,np,st,pp,rfl,H.gl hc.1,(H.cls x d hk).1,(Qap hc.2).1,hd.2 H⟩ (ps.2.1 H),λc hc'=>by
    rcases zS.mp hc' with rfl|hc'
    ·exact⟨x,hk⟩
    ·exact ps.2.2 c hc'⟩ else none
   |_=>none)
  |_=>none
theorem COk.aim{X:Cx}{EX:EXT}{cf:CF}{C:Cc}{cl:Nat->Addr}(H:COk cl X EX cf C){pn:List (Addr×Obj)}{xe:Value->Shared->Prop}{EY:EXT}(ho:PassesOwn (model X.prog X.w) X.A X.env xe)(hx:XL cl (Cx.aim X pn xe) EY):COk cl (Cx.aim X pn xe) EY cf C :=
 ⟨H.N,H.nd,H.sc,H.kind,H.calm,H.room,ho,H.fn,H.con,λY EY S=>H.call Y EY ⟨S.prog,S.w,S.K,S.mg,S.base,S.A⟩,λY EY S=>H.ctor Y EY ⟨S.prog,S.w,S.K,S.mg,S.base,S.A⟩,λY EY S=>H.mth Y EY ⟨S.prog,S.w,S.K,S.mg,S.base,S.A⟩,H.ocl,H.nob,hx,H.cls⟩
theorem COk.cs{X:Cx}{EX:EXT}{cf:CF}{C:Cc}{cl:Nat->Addr}(H:COk cl X EX cf C){cs:List Nat}(q2:∀d∈cs,∃x,C.G.lookup x=some (.cls d)):∀c∈cs,∃bm,Eo X.base (cl c) bm/\∀d∈cs,(Value.ref (cl c)::bm).contains (.ref (cl d))=decide (c=d):=λc hc=>by obtain⟨x,hx⟩:=q2 c hc;obtain⟨_,bm,O,hb⟩:=H.cls x c hx;exact⟨bm,O,λd hd=>let ⟨y,hy⟩:=q2 d hd;hb.1 y d hy⟩
noncomputable def cAsgN(x:Str)(p:Pos)(e:Expr)(pos:Pos):CS C (.Assign [.Name x p] e pos):=(ix C.N x).bind λi=>if hs:C.sto x then(
 if C.mu.contains x then(match e with
  |.Dict [some a] [b] p2=>(cE n C a).bind λa'=>(cE n C b).bind λb'=>some ⟨.freshD1 i.1 a'.1 b'.1,λH _ _=>Qjm H.ndX (H.ix i.2) (Qa4 H hs).1 (Qa4 H hs).2 (a'.2.a H) (b'.2.a H)⟩
  |.Call (.Name d p4) [a] [] p5=>if d="dict" then(cE n C a).bind λa'=>if h:d="dict"/\C.bl "dict"/\Qam a then some ⟨.freshC i.1 a'.1,λH _ _=>by rw[h.1];exact Qm3 H.ndX (H.ix i.2) (Qa4 H hs).1 (Qa4 H hs).2 (H.bl h.2.1).1 (H.bl h.2.1).2 (a'.2.a H) h.2.2⟩ else none
   else if d="list" then(cF n (.Call (.Name d p4) [a] [] p5)).bind λe'=>some ⟨.fresh i.1 e'.1,λH _ _=>Qk7 H.ndX (H.ix i.2) (Qa4 H hs).1 (Qa4 H hs).2 (e'.2 H) rfl⟩
   else(cOwn n (.Call (.Name d p4) [a] [] p5)).bind λe'=>some ⟨.asg i.1 e'.1,λH _ _=>Qq4 H.ndX (H.ix i.2) (Qa4 H hs).1 (Qa4 H hs).2 (e'.2 H) rfl⟩
  |e=>if h:Qb5 e then(if Qjs e then(cF n e).bind λe'=>some ⟨.fresh i.1 e'.1,λH _ _=>Qk7 H.ndX (H.ix i.2) (Qa4 H hs).1 (Qa4 H hs).2 (e'.2 H) h⟩
   else(cE n C e).bind λe'=>some ⟨.asg i.1 e'.1,λH _ _=>Qq4 H.ndX (H.ix i.2) (Qa4 H hs).1 (Qa4 H hs).2 (e'.2.a H) h⟩) else none)
 else match e with
  |.ListComp elt [⟨tg,it,ifs,0⟩] sc p=>(cGen (cE (n-1)) elt tg it ifs sc).bind λce=>some ⟨.asg i.1 ce.1,λH _ _=>let ⟨_,_,_,_,_,_,_,q1,q2,q3,q4,q5,q6,q7⟩:=ce.2 H;s_comp H.ndX (H.ix i.2) (Qa4 H hs).1 (Qa4 H hs).2 H.calm q1 q2 q3 q4 q5 q6 q7⟩
  |e=>if h:Qb5 e then(cE n C e).bind λe'=>some ⟨.asg i.1 e'.1,λH _ _=>Qq4 H.ndX (H.ix i.2) (Qa4 H hs).1 (Qa4 H hs).2 (e'.2.a H) h⟩ else none) else none
noncomputable def cAsg(tg e:Expr)(pos:Pos):CS C (.Assign [tg] e pos):=match tg,e with
 |.Name x p,e=>cAsgN n x p e pos
 |.Tuple [.Name x px,.Name y py] k p,.Tuple [a,b] k2 p2=>(ix C.N x).bind λi=>(ix C.N y).bind λj=>(cE n C a).bind λa'=>(cE n C b).bind λb' =>
  if h:C.loc x/\C.loc y/\i.1≠j.1/\py.line=px.line/\Qam a/\Qam b/\(foldedForSure 8 a&&foldedForSure 8 b)=false/\(constantsAlone 8 a&&constantsAlone 8 b)=false then some ⟨.par i.1 j.1 a'.1 b'.1,λH _ _=>by
   obtain⟨c1,c2,c3,c4,c5,c6,c7,c8⟩:=h
   exact s_par H.calm H.ndX (H.ix i.2) (H.ix j.2) c3 (by rw[H.sc];exact H.kind) (H.loc c1) (H.loc c2) c4 c5 c6 c7 c8 (a'.2.a H) (b'.2.a H)⟩ else none
 |.Tuple es k p,e=>(cTg (.Tuple es k p)).bind λis=>(cE n C e).bind λe'=>if h:Qb5 e/\QoZ e/\is.1.length≠1 then some ⟨.unp is.1 e'.1,λH _ _=>s_unp (is.2 H) h.2.2 (e'.2.a H) h.1 h.2.1⟩ else none
 |.Subscript a b p,e=>(cE n C a).bind λa'=>(cE n C b).bind λb'=>(cE n C e).bind λe'=>if h:Qb5 e/\Qdg b then some ⟨.setix a'.1 b'.1 e'.1,λH _ _=>Qqv H.room (a'.2.a H) (b'.2.a H) (e'.2.a H) h.1 h.2⟩ else none
 |_,_=>none
noncomputable def cRet(o:Option Expr)(pos:Pos):CS C (.Return o pos):=match o with
 |some e=>if C.mu.contains "return"&&QgG C e then(cOwn n e).bind λe'=>some ⟨.ret e'.1,λH _ _=>QpK (e'.2 H)⟩
  else(cE n C e).bind λe'=>some ⟨.ret e'.1,λH _ _=>QpK (e'.2.a H)⟩
 |none=>some ⟨.ret (.con .non),λ_ _ _=>s_retN⟩
noncomputable def cFor(tg a:Expr)(b:List Stmt)(pos:Pos):CS C (.For tg a b [] pos):=(cTg (C:=C) tg).bind λis=>(cB n f b).bind λb'=>match a with
 |.Call (.Name x p) [e1] ks p2=>(match ks with
  |[]=>(cE n C e1).bind λe1'=>if h:x="range"/\C.bl "range"/\Qam e1 then some ⟨.for_ is.1 (.rng [e1'.1]) b'.1,λH M K=>by rw[h.1];exact s_rng1 H.own H.calm (H.bl h.2.1).1 (H.bl h.2.1).2 (e1'.2.a H) h.2.2 (is.2 H) (b'.2 H M K)⟩
   else(cE n C (.Call (.Name x p) [e1] [] p2)).bind λa'=>some ⟨.for_ is.1 (.seq a'.1) b'.1,λH M K=>Qqy H.own H.calm (a'.2.a H) (is.2 H) (b'.2 H M K) rfl⟩
  |[⟨nm,.Constant (.int i) j kp,kp2⟩]=>(cE n C e1).bind λe1'=>(match tg,is with
   |.Tuple es k tp,is=>if h:x="enumerate"/\nm=some "start"/\i=1/\C.bl "enumerate"/\Qam e1 then some ⟨.for_ is.1 (.seq (.enmE 1 e1'.1)) b'.1,λH M K=>by rw[h.1,h.2.1,h.2.2.1];exact QpS H.own H.calm (Qjy (H.bl h.2.2.2.1).1 (H.bl h.2.2.2.1).2 (Qdw (e1'.2.a H) QiC h.2.2.2.2) (Qaj h.2.2.2.2 _ _)) (is.2 H) (b'.2 H M K) rfl⟩ else none
   |_,_=>none)
  |_=>none)
 |.Call (.Name x p) [e1,e2] [] p2=>(cE n C e1).bind λe1'=>(cE n C e2).bind λe2'=>if h:x="range"/\C.bl "range"/\Qam e1/\Qam e2 then some ⟨.for_ is.1 (.rng [e1'.1,e2'.1]) b'.1,λH M K=>by rw[h.1];exact s_rng2 H.own H.calm (H.bl h.2.1).1 (H.bl h.2.1).2 (e1'.2.a H) (e2'.2.a H) h.2.2.1 h.2.2.2 (is.2 H) (b'.2 H M K)⟩
  else(cE n C (.Call (.Name x p) [e1,e2] [] p2)).bind λa'=>some ⟨.for_ is.1 (.seq a'.1) b'.1,λH M K=>Qqy H.own H.calm (a'.2.a H) (is.2 H) (b'.2 H M K) rfl⟩
 |a=>(cE n C a).bind λa'=>if h:Qbl a then some ⟨.for_ is.1 (.seq a'.1) b'.1,λH M K=>Qqy H.own H.calm (a'.2.a H) (is.2 H) (b'.2 H M K) h⟩ else none
noncomputable def Cc.all(C:Cc):List Nat:=C.G.filterMap λp=>match C.G.lookup p.1 with
 |some (.cls c)=>some c
 |_=>none
theorem Cc.all_mem{C:Cc}{c:Nat}(h:c∈C.all):∃x,C.G.lookup x=some (.cls c):=by
 obtain⟨p,_,hp⟩:=zzv.mp h
 split at hp
 ·grind
 simp_all
structure Exn (C:Cc) (cl:Nat->Addr) (X:Cx) (en:Str) (ie:Nat) (pn:List (Addr×Obj)) (ea:Addr) (oe:Obj) (c:Nat) (bm:List Value):Prop where
 hp:(ea,oe)∈pn
 hc:oe.cls=.ref (cl c)
 O:Eo X.base (cl c) bm
 OK:ClsK X.K (cl c) bm
 sub:∀y d,C.G.lookup y=some (.cls d)->(Value.ref (cl c)::bm).contains (.ref (cl d))=decide (c=d)
 hg:Gl X "isinstance"/\X.mg "isinstance"=none
 hN:X.N[ie]?=some en
 hv:Vis X.env.scope en
 hd:(en==("__debug__":Str))=false/\(en==("__classdict__":Str))=false
noncomputable def bits(c:Nat)(ks:List Nat):List Bool:=ks.map λk=>decide (c=k)||k==999
def OkIs(C:Cc)(en:Str)(es:List Expr)(ks:List Nat):Prop:=∀{cl X EX cf ie pn ea oe c bm v E},COk cl X EX cf C->Exn C cl X en ie pn ea oe c bm->PA (Cx.asx X v pn E) es (tIsA ie ea (bits c ks))
noncomputable def cIsL(en:Str):(es:List Expr)->Option {ks:List Nat // OkIs C en es ks}
 |[]=>some ⟨[],λ_ _=>pa_is0⟩
 |e::es=>(cIsL en es).bind λks=>match e with
  |.Call (.Name f p1) [.Name x p2,.Name d p3] [] pos=>if hf:f="isinstance"/\x=en/\C.glo d then(match hk:C.G.lookup d with
   |some (.cls k)=>if h:Qbf d/\k<999 then some ⟨k::ks.1,λ{cl X EX cf ie pn ea oe c bm v E} H Y=>by
    obtain⟨m1,bd,OD,_⟩:=H.cls d k hk
    have z:=pe_is (X:=Cx.asx X v pn E) (pos:=pos) (p1:=p1) (p2:=p2) (p3:=p3) Y.hp Y.hc Y.O Y.OK OD Y.hg.1 Y.hg.2 Y.hN Y.hv Y.hd.1 Y.hd.2 (H.gl hf.2.2) m1 (Qap h.1).1
    rw[Y.sub d k hk]at z
    unfold bits
    rw[hf.1,hf.2.1,zO,show(k==999)=false by rw[ZZ];lia,Bool.or_false]
    exact pa_is1 z (ks.2 H Y) rfl⟩ else none
   |_=>none) else none
  |_=>none
def OkFs(C:Cc)(en fn:Str)(ss:List Stmt)(ks:List Nat):Prop:=∀{cl X EX cf ie iF pn ea oe c bm v E},COk cl X EX cf C->Exn C cl X en ie pn ea oe c bm->X.N[iF]?=some fn->C.sto fn=true->Vis X.env.scope fn->(fn==("__debug__":Str))=false/\(fn==("__classdict__":Str))=false->PSs (Cx.asx X v pn E) ss (tFN X.K ie iF ea (bits c ks))
noncomputable def cFs(en fn:Str):(ss:List Stmt)->Option {ks:List Nat // OkFs C en fn ss ks}
 |[]=>some ⟨[],λ_ _ _ _ _ _=>fs_nil⟩
 |s::ss=>(cFs en fn ss).bind λb=>match s with
  |.Assign [.Name x p3] (.BinOp (.Name y p4) .Add (.List es p5) p6) q=>(cIsL (C:=C) en es).bind λa=>if h:x=fn/\y=fn then some ⟨a.1++b.1,λ{cl X EX cf ie iF pn ea oe c bm v E} H Y hF hs hvF hdF=>by
   obtain⟨rfl,rfl⟩:=h
   unfold bits
   rw[Zc]
   exact Qqt (s_fN (X:=Cx.asx X v pn E) H.ndX hF (Qa4 H hs).1 (Qa4 H hs).2 hvF hdF.1 hdF.2 (a.2 H Y)) (b.2 H Y hF hs hvF hdF)⟩ else none
  |_=>none
abbrev TryP(C:Cc)(jn en fn:Str)(ie iF:Nat)(ks:List Nat):Prop:=C.glo jn/\Qbf jn/\C.loc en/\Qbf en/\C.sto fn/\C.vis fn/\Qbf fn/\ie≠iF/\ks.length<=1000/\C.all≠[]/\C.bl "isinstance"
section
variable {X:Cx}{EX:EXT}{cf:CF}{cl:Nat->Addr}{jn en fn:Str}{ie iF:Nat}{ka kb:List Nat}{es:List Expr}{ss:List Stmt}
theorem Qql{body:List Stmt}{sx sb:Qai->Qaa->Res Fl}{p2 p3 p4 q hpos pos:Pos}(H:COk cl X EX cf C)(stk:Stk X)(hj:C.G.lookup jn=some .bas)(h:TryP C jn en fn ie iF (ka++kb))(hie:C.N[ie]?=some en)(hiF:C.N[iF]?=some fn)(a:OkIs C en es ka)(b:OkFs C en fn ss kb)
  (hx:∀σ h,sx σ h=.stuck\/sx σ h=QnI (λc k=>decide (c=k)||k==999) iF (ka++kb) C.all sb σ h)
  (hb:∀pn xe EY,PassesOwn (model X.prog X.w) X.A X.env xe->XL cl (Cx.aim X pn xe) EY->PSs (Cx.aim X pn xe) body (tIS X.K EY sb)) :
  PS X (.Try body [.ExceptHandler (some (.Name jn p2)) (some en) (.Assign [.Name fn p3] (.List es p4) q::ss) hpos] [] [] pos) (tIS X.K EX sx):=by
 obtain⟨c1,c2,c3,c4,c5,c6,c7,c8,c9,c10,c11⟩:=h
 have hle:=H.loc c3
 obtain⟨c0,hc0⟩:=List.exists_mem_of_ne_nil _ c10
 obtain⟨x0,hx0⟩:=Cc.all_mem hc0
 obtain⟨_,bm0,O0,_,hz0⟩:=H.cls x0 c0 hx0
 obtain⟨J,bj,hmJ,OJ,_,_⟩:=hz0 jn hj
 have CT:ClsX X cl C.all J:=λc hc=>by obtain⟨x,hx⟩:=Cc.all_mem hc;obtain⟨_,bm,O,hsub,hz⟩:=H.cls x c hx;obtain⟨J2,bj2,hmJ2,_,hJ,OK⟩:=hz jn hj;rw[hmJ]at hmJ2;cases hmJ2;exact⟨bm,O,OK,hJ,λd hd=>let ⟨y,hy⟩:=Cc.all_mem hd;hsub y d hy⟩
 refine s_tryG stk CT OJ (H.gl c1) hmJ (Qap c2).1 H.ndX (H.ix hie) hle (H.ix hiF) c8 c9 (λv pn E ea oe c hpn hoe hca=>?_) hx hb
 obtain⟨x,hx⟩:=Cc.all_mem hca
 obtain⟨_,bm,O,hsub,hz⟩:=H.cls x c hx
 obtain⟨_,_,_,_,_,OK⟩:=hz jn hj
 have Y:Exn C cl X en ie pn ea oe c bm:=⟨hpn,hoe,O,OK,hsub,H.bl c11,H.ix hie,.inl hle,Qap c4⟩
 rw[Zc]
 exact fs_all (s_f1 (X:=Cx.asx X v pn E) H.ndX (H.ix hiF) (Qa4 H c5).1 (Qa4 H c5).2 (a H Y)) (b H Y (H.ix hiF) c5 (QcP H c6) (Qap c7))
end
theorem QpT{i:Nat}{cs all:List Nat}{sb:Qai->Qaa->Res Fl}{σ:Qai}{h:Qaa}(h9:(cs.all λk=>k<999)=true):QnI (λc k=>decide (c=k)) i cs all sb σ h=QnI (λc k=>decide (c=k)||k==999) i cs all sb σ h:=by
 unfold QnI;cases sb σ h with
 |exc c h=>dsimp only;rw[zzs λk hk=>show W.bl (decide (c=k))=.bl (decide (c=k)||k==999) by rw[show(k==999)=false by grind,Bool.or_false]]
 |_=>rfl
noncomputable def cTryF(n:Nat)(sb:List Stmt)(hb:ExceptHandler)(pos:Pos):CS C (.Try sb [hb] [] [] pos):=match hb with
 |.ExceptHandler (some (.Name jn p2)) (some en) (.Assign [.Name fn p3] (.List es p4) q::ss) hpos=>(ix C.N en).bind λie=>(ix C.N fn).bind λiF=>(cIsL (C:=C) en es).bind λa=>(cFs (C:=C) en fn ss).bind λb=>(lk (C:=C) jn).bind λk =>
  if h:TryP C jn en fn ie.1 iF.1 (a.1++b.1) then(match k,sb with
   |⟨.bas,hj⟩,[.Return (some e) rp]=>if h9:(a.1++b.1).all λk=>k<999 then
    (if C.mu.contains "return"&&QgG C e then cOwn (C:=C) n e else(cE n C e).bind λe'=>some ⟨e'.1,e'.2.a⟩).bind λe'=>some ⟨.tryF e'.1 iF.1 (a.1++b.1) C.all,λH _ stk=>Qql H stk hj h ie.2 iF.2 a.2 b.2 (λσ h=>.inr ((tryF_G σ h).trans (QpT h9))) λpn xe EY ho hx=>Qjj (QpK (e'.2 (H.aim ho hx))) λD τ H q=>q⟩ else none
   |_,_=>none) else none
 |_=>none
noncomputable def cTry(n:Nat)(b:List Stmt)(hs:List ExceptHandler)(pos:Pos):CS C (.Try b hs [] [] pos):=match b,hs with
 |[.Return (some e) p],h0::hs=>match cHs (C:=C) (h0::hs) with
  |some hs'=>(if C.mu.contains "return"&&QgG C e then cOwn (C:=C) n e else(cE n C e).bind λe'=>some ⟨e'.1,e'.2.a⟩).bind λe'=>some ⟨.tryR e'.1 hs'.1,λH _ stk=>s_tryR stk (hs'.2.1 H) (H.cs hs'.2.2) λpn xe EY ho hx=>e'.2 (H.aim ho hx)⟩
  |_=>(match hs with
   |[]=>cTryF n [.Return (some e) p] h0 pos
   |_=>none)
 |b,[hb]=>cTryF n b hb pos
 |_,_=>none
noncomputable def cSt(s:Stmt):CS C s:=match s with
 |.Assign [tg] e p=>cAsg n tg e p
 |.Expr e p=>match e with
  |.Constant (.str z) j p2=>some ⟨.pass_,λ_ _ _=>s_doc⟩
  |e=>(cE n C e).bind λe'=>if h:Qb5 e then some ⟨.exp e'.1,λH _ _=>s_exp (e'.2.a H) h⟩ else none
 |.Return o p=>cRet n o p
 |.If c a b p=>(cE n C c).bind λc'=>(cB n f a).bind λa'=>(cB n f b).bind λb'=>some ⟨.if_ c'.1 a'.1 b'.1,λH M K=>s_if (c'.2.t H) (a'.2 H M K) (b'.2 H M K)⟩
 |.While c b [] p=>(cE n C c).bind λc'=>(cB n f b).bind λb'=>some ⟨.while_ c'.1 b'.1,λH M K=>Qq2 H.own (c'.2.t H) (b'.2 H M K)⟩
 |.For tg a b [] p=>cFor n f tg a b p
 |.Raise (some e) none p=>(cRaise e).bind λs'=>some ⟨s'.1,s'.2 p⟩
 |.Try b hs [] [] p=>cTry n b hs p
 |.Pass p=>some ⟨.pass_,λ_ _ _=>s_pass⟩
 |.Break p=>some ⟨.brk,λ_ _ _=>s_brk⟩
 |.Continue p=>some ⟨.cnt,λ_ _ _=>s_cnt⟩
 |_=>none
theorem s_bad{X:Cx}{EX:EXT}{cf:CF}{fw:Nat}{s:Stmt}:PS X s (tIS X.K EX (exS cf fw .bad)):=λpins st τ H D I zq=>by obtain⟨ρ,σ,h,re,hr,q⟩:=zq;exact q.elim
end
noncomputable def cS(C:Cc):Nat->(s:Stmt)->CS C s
 |0,_=>none
 |n+1,s=>some ((cSt n (cS C n) s).getD ⟨.bad,λ_ _ _=>s_bad⟩)
def OkIni(C:Cc)(c d:Nat)(ss:List Stmt)(fl:List (Bool×E)):Prop:=d+fl.length=(Qa9 c).length/\∀{cl X EX cf Ca},COk cl X EX cf C->OCl X.K c Ca->PSs X ss (tIni X.K EX cf c d fl)
noncomputable def cIni(C:Cc)(c:Nat):(d:Nat)->(ss:List Stmt)->Option {fl:List (Bool×E) // OkIni C c d ss fl}
 |d,[]=>if hd:d=(Qa9 c).length then some ⟨[],hd,λ_ _=>by rw[hd];exact Qqj⟩ else none
 |d,s::ss=>(cIni C c (d+1) ss).bind λfl=>match s with
  |.Assign [.Attribute (.Name s p4) f p] e pp=>if h:(Qa9 c)[d]?=some f/\C.N[0]?=some s/\C.vis s/\Qbf s/\Qb5 e then(
   if C.mu.contains f then(cF 60 e).bind λe'=>some ⟨(true,e'.1)::fl.1,by have:=fl.2.1;rw[z0];lia,λH O=>QhV (bb:=true) O h.1 (H.ix h.2.1) (QcP H h.2.2.1) (Qap h.2.2.2.1).1 (Qap h.2.2.2.1).2 (e'.2 H) h.2.2.2.2 (fl.2.2 H O)⟩
   else(cE 60 C e).bind λe'=>some ⟨(false,e'.1)::fl.1,by have:=fl.2.1;rw[z0];lia,λH O=>QhV (bb:=false) O h.1 (H.ix h.2.1) (QcP H h.2.2.1) (Qap h.2.2.2.1).1 (Qap h.2.2.2.1).2 (e'.2.a H) h.2.2.2.2 (fl.2.2 H O)⟩) else none
  |_=>none
structure Df where
 x:Str
 st:Stmt
 N:List Str
 ps:List Str
 mu:List Str
 q:Str
 k:Nat
noncomputable def Df.cc(d:Df)(G:List (Str×Gk)):Cc:=⟨d.N,Qal d.st,G,d.mu,true⟩
noncomputable def Df.fn(d:Df)(G:List (Str×Gk)):Option Fn:=if d.k<=1 then(cB 60 (cS (d.cc G) 60) (QaC d.st)).bind λb=>some ⟨d.ps.length,d.N.length,b.1,none⟩
 else(cIni (d.cc G) (d.k-2) 0 (QaC d.st)).bind λfl=>if d.N=d.ps then some ⟨d.ps.length,d.N.length,[],some (d.k-2,fl.1)⟩ else none
structure Made (ds:List Df) (G:List (Str×Gk)) (tb:List Fn):Prop where
 fn:∀(i:Nat) (d:Df),ds[i]?=some d->∃g,tb[i]?=some g/\d.fn G=some g
 len:tb.length=ds.length/\tb.length<=1000
 gk:∀x f np,G.lookup x=some (.fn f np)->∃d,ds[f]?=some d/\d.k=0/\d.x=x/\d.ps.length=np
 gm:∀x f np,G.lookup x=some (.mth f np)->∃d,ds[f]?=some d/\d.k=1/\d.x=x/\d.ps.length=np
 gc:∀x f np,G.lookup x=some (.ctor f np)->∃d,ds[f]?=some d/\2<=d.k/\QcA (d.k-2)=x/\d.ps.length=np
 sc:∀(i:Nat) (d:Df),ds[i]?=some d->FnScope d.N d.ps (Qal d.st)
def KindOk(K:Fg0)(mg:Str->Option Value)(d:Df)(f:Addr):Prop :=
 (d.k=0->mg d.x=some (.ref f))/\(d.k=1->∃C,OCl K 1 C/\Meth K C d.x f/\d.x∉Qa9 1)/\(2<=d.k->∃C,OCl K (d.k-2) C/\Mk K C f/\mg (QcA (d.k-2))=some (.ref C))
def Qgq(K:Fg0)(mg:Str->Option Value)(d:Df):Prop:=∃f fd,Fun K d.x d.q d.st f fd/\KindOk K mg d f/\∀us:List Value,us.length=d.ps.length->bindArgs fd ⟨us,[]⟩=pure (d.ps.zip us)
structure Laid (K:Fg0) (mg:Str->Option Value) (cl:Nat->Addr) (ds:List Df) (G:List (Str×Gk)):Prop where
 df:∀(i:Nat) (d:Df),ds[i]?=some d->Qgq K mg d
 con:∀x w,G.lookup x=some (.con w)->∃u v,mg x=some u/\RelV v u/\∀ρ H,Rel K ρ H w v
 nob:∀x,x∈bltNames->G.lookup x=none->mg x=none
 cls:∀x c,G.lookup x=some (.cls c)->mg x=some (.ref (cl c))/\∃bm,(∀h:Heap,K.In h->Eo h (cl c) bm)/\(∀y d,G.lookup y=some (.cls d)->(Value.ref (cl c)::bm).contains (.ref (cl d))=decide (c=d))/\∀z,G.lookup z=some .bas->∀h:Heap,K.In h->BasJ K mg h (cl c) bm z
theorem QiK{a b:Nat}(h:QcA a=QcA b):Qa9 a=Qa9 b:=by
 cases a with
 |zero=>cases b with
  |zero=>rfl
  |succ b=>exact absurd h (by show ¬ ("Standing":Str)=("Register");decide +kernel)
 |succ a=>cases b with
  |zero=>exact absurd h (by show ¬ ("Register":Str)=("Standing");decide +kernel)
  |succ b=>rfl
theorem OCl.re{K:Fg0}{a b:Nat}{C:Addr}(O:OCl K a C)(h:QcA a=QcA b):OCl K b C:=⟨h▸O.ns,O.cls,QiK h▸O.no⟩
def AllD(P:Program)(w:World)(K:Fg0)(mg:Str->Option Value)(base:Heap)(ds:List Df)(tb:List Fn)(fw:Nat)(cl:Nat->Addr)(k:Nat):Prop :=
 ∀(i o:Nat) (d:Df) (f:Addr) (fd:FuncData),(o=i\/o=i+1000)->ds[i]?=some d->d.k<=1->Fun K d.x d.q d.st f fd->Binds K fd d.ps []->FnOk P w K mg base (CXJ P w) (2*k) f fd d.ps (spI K cl (Qab fw tb k) o d.ps.length)
def AllI(P:Program)(w:World)(K:Fg0)(mg:Str->Option Value)(base:Heap)(ds:List Df)(tb:List Fn)(fw:Nat)(cl:Nat->Addr)(k:Nat):Prop :=
 ∀(i:Nat) (d:Df) (f C:Addr) (fd:FuncData),ds[i]?=some d->2<=d.k->Fun K d.x d.q d.st f fd->OCl K (d.k-2) C->Binds K fd d.ps []->FnOk P w K mg base (CXJ P w) (2*k) f fd d.ps (spN K cl (Qab fw tb k) (i+2000) d.ps.length (d.k-2))
section
variable {P:Program}{w:World}{K:Fg0}{mg:Str->Option Value}{base:Heap}{ds:List Df}{G:List (Str×Gk)}{tb:List Fn}{fw:Nat}{cl:Nat->Addr}
theorem Qoh(M:Made ds G tb)(L:Laid K mg cl ds G)(kb:K.In base){k:Nat}(hD:AllD P w K mg base ds tb fw cl k)(hI:AllI P w K mg base ds tb fw cl k){i:Nat}{d:Df}(hi:ds[i]?=some d)(X:Cx)(EX:EXT)
  (e1:X.prog=P) (e2:X.w=w) (e3:X.K=K) (e4:X.mg=mg) (e5:X.base=base) (e6:X.N=d.N) (e7:X.env.scope=Qal d.st) (e8:X.calm=true) (e9:X.fn=λ_=>true) (e10:PassesOwn (model X.prog X.w) X.A X.env X.xe) (hX:XL cl X EX) (hr:Room (2*k+1) X.A) :
  COk cl X EX (Qab fw tb k) (d.cc G):=by
 subst e1 e2 e3 e4 e5
 have hr0:Room (2*k) X.A:=hr.mono (ZK _)
 refine⟨e6,(M.sc i d hi).nd,e7,(M.sc i d hi).kind,e8,hr.units,e10,λ_ x=>by rw[e9],L.con,?_,?_,?_,?_,L.nob,hX,λx c hx=>?_⟩
 ·rintro Y EY ⟨z1,z2,z3,z4,z5,z6⟩ hE x fn np hx hgl hdb p pos e es es' hs hl hl' ha
  obtain⟨P',w',K',mg',base',A',N',s0',H0',env',outer',stack',ex',fn',calm',pn',xe'⟩:=Y
  dsimp only at z1 z2 z3 z4 z5 z6
  subst z1 z2 z3 z4 z5 z6
  obtain⟨d2,hd2,hk,rfl,rfl⟩:=M.gk x fn np hx
  obtain⟨f2,fd2,F2,hm2,hb2⟩:=L.df fn d2 hd2
  have hk1:d2.k<=1:=by simp_all
  exact⟨Qow (hD fn fn d2 f2 fd2 (.inl rfl) hd2 hk1 F2 (.all hb2)) hr0 hgl (hm2.1 hk) F2.kp (.all hb2) hE hdb hs hl hl' ha λσ h ws h' e=>by rw[Qc1 e,hl'],
   Qow (hD fn (fn+1000) d2 f2 fd2 (.inr rfl) hd2 hk1 F2 (.all hb2)) hr0 hgl (hm2.1 hk) F2.kp (.all hb2) hE hdb hs hl hl' ha λσ h ws h' e=>by rw[Qc1 e,hl']⟩
 ·rintro Y EY ⟨z1,z2,z3,z4,z5,z6⟩ hE x fn np hx hgl hdb p pos e es es' hs hl' ha
  obtain⟨P',w',K',mg',base',A',N',s0',H0',env',outer',stack',ex',fn',calm',pn',xe'⟩:=Y
  dsimp only at z1 z2 z3 z4 z5 z6
  subst z1 z2 z3 z4 z5 z6
  obtain⟨d2,hd2,hk,rfl,rfl⟩:=M.gc x fn np hx
  obtain⟨f2,fd2,F2,hm2,hb2⟩:=L.df fn d2 hd2
  obtain⟨C2,O2,M2,g2⟩:=hm2.2.2 hk
  exact r_new M2 O2.ns (hI fn d2 f2 C2 fd2 hd2 hk F2 O2 (.all hb2)) hr hgl g2 (.all hb2) hE hdb hs hl' ha
 ·rintro Y EY ⟨z1,z2,z3,z4,z5,z6⟩ hE m fn np hx x p ap pos a' es es' hln hn hs hl' ho hl ha
  obtain⟨P',w',K',mg',base',A',N',s0',H0',env',outer',stack',ex',fn',calm',pn',xe'⟩:=Y
  dsimp only at z1 z2 z3 z4 z5 z6
  subst z1 z2 z3 z4 z5 z6
  obtain⟨d2,hd2,hk,rfl,rfl⟩:=M.gm m fn np hx
  obtain⟨f2,fd2,F2,hm2,hb2⟩:=L.df fn d2 hd2
  obtain⟨C2,O2,M2,g2⟩:=hm2.2.1 hk
  have hk1:d2.k<=1:=ZzL
  cases es with
  |nil =>
   have e0:es'=[]:=List.eq_nil_of_length_eq_zero hl
   subst e0
   exact r_mth0 O2 g2 hl' hln ho M2 (hD fn fn d2 f2 fd2 (.inl rfl) hd2 hk1 F2 (.all hb2)) hr0 (.all hb2) hE
  |cons e es=>exact r_mth O2 g2 hl' hln hn ho M2 (hD fn fn d2 f2 fd2 (.inl rfl) hd2 hk1 F2 (.all hb2)) hr0 (.all hb2) hE ha hs
 ·intro c f np hx
  obtain⟨d2,hd2,hk,hc,_⟩:=M.gc _ f np hx
  obtain⟨f2,fd2,F2,hm2,hb2⟩:=L.df f d2 hd2
  obtain⟨C2,O2,M2,g2⟩:=hm2.2.2 hk
  exact⟨C2,O2.re hc⟩
 ·obtain⟨h1,bm,h2,h3,h4⟩:=L.cls x c hx
  exact⟨h1,bm,h2 _ kb,h3,λz hz=>h4 z hz _ kb⟩
theorem Qpb(M:Made ds G tb)(L:Laid K mg cl ds G)(kb:K.In base):∀k:Nat,AllD P w K mg base ds tb fw cl k/\AllI P w K mg base ds tb fw cl k:=by
 intro k;induction k with
 |zero=>refine⟨λi o d f fd ho hi hk F hb=>?_,λi d f C fd hi hk F O hb=>?_⟩;refine⟨λvs H Q E h=>h.1,λA outer s H args us vs Q E hr e0 hbi hv zq=>?_⟩;obtain⟨_,ρ,h,ws,_,_,q⟩:=zq;exact(show False from q).elim;refine⟨λvs H Q E h=>h.1,λA outer s H args us vs Q E hr e0 hbi hv zq=>?_⟩;obtain⟨_,x,us,dx,C,H1,ρ,h,ws,_,_,_,_,_,_,_,_,q⟩:=zq;exact(show False from q).elim
 |succ k ih=>
  refine⟨λi o d f fd ho hi hk F hb=>?_,λi d f C fd hi hk F O hb=>?_⟩;obtain⟨g,hg,hd⟩:=M.fn i d hi;unfold Df.fn at hd;rw[zF hk]at hd;obtain⟨bd,hbd,hd⟩:=obs hd;cases hd;have run:∀(X:Cx) (EX:EXT),X.prog=P->X.w=w->X.K=K->X.mg=mg->X.base=base->X.N=d.N->X.env.scope=Qal d.st->X.calm=true->(X.fn=λ_=>true)->PassesOwn (model X.prog X.w) X.A X.env X.xe->(X.stack=X.env::X.outer/\X.env.frame=some X.env.locals)->XL cl X EX->XM cl X EX->Room (2*k+1) X.A->PSs X (QaC d.st) (tIS K EX (exB (Qab fw tb k) fw bd.1)):=by intro X EX e1 e2 e3 e4 e5 e6 e7 e8 e9 e10 e11 hX hM hr;have H:=Qoh M L kb ih.1 ih.2 hi X EX e1 e2 e3 e4 e5 e6 e7 e8 e9 e10 hX hr;subst e3;exact bd.2 H hM e11
  rcases ho with rfl|rfl;exact fn_ok F (M.sc _ d hi) hg rfl rfl run;exact fn_okO F (M.sc i d hi) hg rfl rfl M.len.2 run;obtain⟨g,hg,hd⟩:=M.fn i d hi;unfold Df.fn at hd;rw[zM (Nat.not_le.mpr ‹_›)]at hd;obtain⟨fl,hfl,hd⟩:=obs hd;split at hd;rename_i hN;cases hd;have S:=M.sc i d hi;rw[hN]at S;refine ini_fn (d:=k) F S hg rfl rfl M.len.2 (by have:=fl.2.1;simp_all) λX EX e1 e2 e3 e4 e5 e6 e7 e8 e9 e10 e11 hX hM hr=>?_;have H:=Qoh M L kb ih.1 ih.2 hi X EX e1 e2 e3 e4 e5 (e6.trans hN.symm) e7 e8 e9 e10 hX hr;subst e3;exact fl.2.2 H O;cases hd
end
def spLaw(K:Fg0):Sp:=λvs H Q _=>∃(a:Addr) (ns:List Int),vs=[.ref a]/\SqL K H a (ns.map V.int)/\ns.length<=63/\∀H',Q (.bl true) H'
theorem Qf3{K:Fg0}{ρ:List Addr}{H:Hp}:∀ns:List Int,RelL K ρ H (ns.map W.int) (ns.map V.int)
 |[]=>.nil
 |n::ns=>.cons QaJ (Qf3 ns)
theorem law_ok{P:Program}{w:World}{K:Fg0}{mg:Str->Option Value}{base:Heap}{tb:List Fn}{fw k k2 i:Nat}{f:Addr}{fd:FuncData}{ps:List Str}{cl:Nat->Addr}
  (F:FnOk P w K mg base (CXJ P w) k2 f fd ps (spI K cl (Qab fw tb k) i 1)) (run:∀ns:List Int,ns.length<=63->Qab fw tb k i [.scr (ns.map W.int)] []=.ok (.bl true) []):FnOk P w K mg base (CXJ P w) k2 f fd ps (spLaw K):=by
 refine F.imp λvs H Q E zq=>?_
 obtain⟨a,ns,e,hq,hl,q⟩:=zq
 subst e
 refine⟨rfl,[],[],[.scr (ns.map W.int)],⟨rfl,List.nodup_nil,λn a o e=>by simp at e⟩,.cons ?_ .nil,?_⟩
 ·refine⟨a,ns.map V.int,rfl,?_,Qf3 ns⟩
  rcases hq with hq|hq
  ·exact .inl ⟨ZzS,hq⟩
  ·exact .inr (.inr hq)
 ·rw[run ns hl]
  intro ρ' H' x hr v r
  cases Qbh r
  exact q H'
theorem walk{l:PySem.W.OpenLaw}{q:Program}{loose:List Str}{XP:(Str->Option Value)->Heap->Prop}{YP:World->Heap->Prop}{d:DefRec}{K:Params->Fg0}{ds:List Df}{G:List (Str×Gk)}{tb:List Fn}{fw i:Nat}{df:Df}{x:Str}
  (hn:l.most=some 63) (hdf:d.params.defaults=[]) (hY:∀(w:World) (h:Heap),YP w h->(K w.params).In h)
  (M:Made ds G tb) (hi:ds[i]?=some df) (hx:df.x=d.name) (hk:df.k=0) (hp:df.ps=[x])
  (L:∀(w:World) (mg:Str->Option Value) (fa:Addr) (h:Heap),(K w.params).In h->h.Ns mainGlobals mg->mg d.name=some (.ref fa)->∃cl,Laid (K w.params) mg cl ds G)
  (run:∀ns:List Int,ns.length<=63->Qab fw tb 40 i [.scr (ns.map W.int)] []=.ok (.bl true) []) :
  PySem.W.WalkO q loose XP YP l.row.toRowW d [] (λf vs=>PySem.call f vs) :=
 L2.walk_of (n:=63) (k:=80) (x:=x)  (sp:=λw=>spLaw (K w.params)) hn ZzD hdf ⟨rfl,ZzD,ZzD⟩ hY
  (λw mg fa h KX G hm=>by
   obtain⟨cl,LL⟩:=L w mg fa h KX G hm
   obtain⟨f,fd,F,hm3,hb⟩:=LL.df i df hi
   have hm2:=hm3.1 hk
   rw[hx,hm]at hm2
   cases hm2
   refine⟨fd,λs u=>?_,λbase kb nb=>?_⟩
   ·have z:=hb [u] (by rw[hp];rfl)
    rw[hp]at z
    exact .of_eq z
   ·have:=(Qpb (P:=l.prog) (w:=w) (base:=base) (fw:=fw) M LL kb 40).1 i i df fa fd (.inl rfl) hi (by simp_all) F (.all hb)
    rw[hp]at this
    exact law_ok this run)
  (λ_ _ a ns hl _ hS=>⟨a,ns,rfl,hS,hl,λ_=>rfl⟩) λ_ _ _ _ _ z=>by obtain⟨_,_,_,_,_,_,_,_,_,_,z⟩:=z;exact z
theorem len1{α:Type}{us:List α}(h:us.length=1):∃a0,us=[a0]:=List.length_eq_one_iff.mp h
theorem len2{α:Type}{us:List α}(h:us.length=2):∃a0 a1,us=[a0,a1]:=by
 obtain⟨a0,r,rfl⟩:=Zi h
 obtain⟨a1,rfl⟩:=len1  (by simpa using h)
 grind
theorem len3{α:Type}{us:List α}(h:us.length=3):∃a0 a1 a2,us=[a0,a1,a2]:=by
 obtain⟨a0,r,rfl⟩:=Zi h
 obtain⟨a1,a2,rfl⟩:=len2  (by simpa using h)
 grind
theorem len4{α:Type}{us:List α}(h:us.length=4):∃a0 a1 a2 a3,us=[a0,a1,a2,a3]:=by
 obtain⟨a0,r,rfl⟩:=Zi h
 obtain⟨a1,a2,a3,rfl⟩:=len3  (by simpa using h)
 grind
theorem len5{α:Type}{us:List α}(h:us.length=5):∃a0 a1 a2 a3 a4,us=[a0,a1,a2,a3,a4]:=by
 obtain⟨a0,r,rfl⟩:=Zi h
 obtain⟨a1,a2,a3,a4,rfl⟩:=len4  (by simpa using h)
 grind
theorem len6{α:Type}{us:List α}(h:us.length=6):∃a0 a1 a2 a3 a4 a5,us=[a0,a1,a2,a3,a4,a5]:=by
 obtain⟨a0,r,rfl⟩:=Zi h
 obtain⟨a1,a2,a3,a4,a5,rfl⟩:=len5  (by simpa using h)
 grind
noncomputable def scOk(d:Df):Bool:=decide ((Qal d.st).kind=.function)&&!(Qal d.st).isCoroutine&&!(Qal d.st).isGenerator&&decide d.N.Nodup&&decide (d.N.take d.ps.length=d.ps)
 && d.ps.all (λx=>decide ((Qal d.st).names.lookup x=some .local\/(Qal d.st).names.lookup x=some .cell))&&(Qal d.st).names.all λy=>decide (y.2≠.free)
theorem Qpv{d:Df}(h:scOk d=true):FnScope d.N d.ps (Qal d.st):=by unfold scOk at h;simp only[zE,Zl,Bool.not_eq_true',Z5]at h;obtain⟨⟨⟨⟨⟨⟨h1,h2⟩,h3⟩,h4⟩,h5⟩,h6⟩,h7⟩:=h;exact⟨h1,h2,h3,h4,h5,λx hx=>h6 x hx,h7⟩
noncomputable def tbOf(ds:List Df)(G:List (Str×Gk)):List Fn:=ds.map λd=>(d.fn G).getD ⟨0,0,[],none⟩
noncomputable def gkOk(ds:List Df)(p:Str×Gk):Bool:=match p.2 with
 |.fn f np=>match ds[f]? with
  |some d=>decide (d.k=0)&&decide (d.x=p.1)&&decide (d.ps.length=np)
  |none=>false
 |.mth f np=>match ds[f]? with
  |some d=>decide (d.k=1)&&decide (d.x=p.1)&&decide (d.ps.length=np)
  |none=>false
 |.ctor f np=>match ds[f]? with
  |some d=>decide (2<=d.k)&&decide (QcA (d.k-2)=p.1)&&decide (d.ps.length=np)
  |none=>false
 |.con _=>true
 |.cls _=>true
 |.bas=>true
noncomputable def Qjv(ds:List Df)(G:List (Str×Gk)):Bool:=ds.all (λd=>(d.fn G).isSome&&scOk d)&&G.all (gkOk ds)&&decide (ds.length<=1000)
theorem QaN{β:Type}{x:Str}{b:β}:∀{l:List (Str×β)},l.lookup x=some b->(x,b)∈l
 |[],h=>by simp_all
 |(y,c)::l,h=>by rw[Zv]at h;split at h;simp_all;exact zB _ (QaN h)
theorem made_ok{ds:List Df}{G:List (Str×Gk)}(h:Qjv ds G=true):Made ds G (tbOf ds G):=by unfold Qjv at h;simp only[zE,Z5,Zl]at h;obtain⟨h,hz⟩:=h;refine⟨λi d hi=>?_,⟨by simp[tbOf],by simpa [tbOf] using hz⟩,λx f np hx=>?_,λx f np hx=>?_,λx f np hx=>?_,λi d hi=>Qpv (h.1 d (zC hi)).2⟩;obtain⟨g,hg⟩:=ZG.mp (h.1 d (zC hi)).1;exact⟨g,by unfold tbOf;rw[zT,hi];simp[hg],hg⟩;have q:=h.2 _ (QaN hx);unfold gkOk at q;dsimp only at q;split at q;simp_all;cases q;have q:=h.2 _ (QaN hx);unfold gkOk at q;dsimp only at q;split at q;rename_i d hd;simp only[zE,Zl]at q;exact⟨d,hd,q.1.1,q.1.2,q.2⟩;cases q;have q:=h.2 _ (QaN hx);unfold gkOk at q;dsimp only at q;split at q;simp_all;cases q
section
variable {K:Fg0}{mg:Str->Option Value}{h:Heap}{d:Df}{f C:Addr}{oc:Value}{od an:Option Addr}{sl:Array (Option Value)}{kV doc pm cd ct:Value}
def QcB(d:Df):Prop:=∀(kV doc pm:Value) (an:Option Addr) (cdv ct:Value) (us:List Value),us.length=d.ps.length->bindArgs (PySem.W.fnOf d.x d.q (Qbb d.st) (QaC d.st) (Qal d.st) .none kV doc pm an cdv ct) ⟨us,[]⟩=pure (d.ps.zip us)
theorem bo1(hp:d.ps.length=1)(h:∀(kV doc pm:Value) (an:Option Addr) (cdv ct a0:Value),bindArgs (PySem.W.fnOf d.x d.q (Qbb d.st) (QaC d.st) (Qal d.st) .none kV doc pm an cdv ct) ⟨[a0],[]⟩=pure (d.ps.zip [a0])):QcB d:=λ_ _ _ _ _ _ us hl=>by obtain⟨a0,rfl⟩:=len1 (hl.trans hp);simp_all
theorem bo2(hp:d.ps.length=2)(h:∀(kV doc pm:Value) (an:Option Addr) (cdv ct a0 a1:Value),bindArgs (PySem.W.fnOf d.x d.q (Qbb d.st) (QaC d.st) (Qal d.st) .none kV doc pm an cdv ct) ⟨[a0,a1],[]⟩=pure (d.ps.zip [a0,a1])):QcB d:=λ_ _ _ _ _ _ us hl=>by obtain⟨a0,a1,rfl⟩:=len2 (hl.trans hp);simp_all
theorem bo3(hp:d.ps.length=3)(h:∀(kV doc pm:Value) (an:Option Addr) (cdv ct a0 a1 a2:Value),bindArgs (PySem.W.fnOf d.x d.q (Qbb d.st) (QaC d.st) (Qal d.st) .none kV doc pm an cdv ct) ⟨[a0,a1,a2],[]⟩=pure (d.ps.zip [a0,a1,a2])):QcB d:=λ_ _ _ _ _ _ us hl=>by obtain⟨a0,a1,a2,rfl⟩:=len3 (hl.trans hp);simp_all
theorem bo4(hp:d.ps.length=4)(h:∀(kV doc pm:Value) (an:Option Addr) (cdv ct a0 a1 a2 a3:Value),bindArgs (PySem.W.fnOf d.x d.q (Qbb d.st) (QaC d.st) (Qal d.st) .none kV doc pm an cdv ct) ⟨[a0,a1,a2,a3],[]⟩=pure (d.ps.zip [a0,a1,a2,a3])):QcB d:=λ_ _ _ _ _ _ us hl=>by obtain⟨a0,a1,a2,a3,rfl⟩:=len4 (hl.trans hp);simp_all
theorem bo5(hp:d.ps.length=5)(h:∀(kV doc pm:Value) (an:Option Addr) (cdv ct a0 a1 a2 a3 a4:Value),bindArgs (PySem.W.fnOf d.x d.q (Qbb d.st) (QaC d.st) (Qal d.st) .none kV doc pm an cdv ct) ⟨[a0,a1,a2,a3,a4],[]⟩=pure (d.ps.zip [a0,a1,a2,a3,a4])):QcB d:=λ_ _ _ _ _ _ us hl=>by obtain⟨a0,a1,a2,a3,a4,rfl⟩:=len5 (hl.trans hp);simp_all
theorem bo6(hp:d.ps.length=6)(h:∀(kV doc pm:Value) (an:Option Addr) (cdv ct a0 a1 a2 a3 a4 a5:Value),bindArgs (PySem.W.fnOf d.x d.q (Qbb d.st) (QaC d.st) (Qal d.st) .none kV doc pm an cdv ct) ⟨[a0,a1,a2,a3,a4,a5],[]⟩=pure (d.ps.zip [a0,a1,a2,a3,a4,a5])):QcB d:=λ_ _ _ _ _ _ us hl=>by obtain⟨a0,a1,a2,a3,a4,a5,rfl⟩:=len6 (hl.trans hp);simp_all
theorem laid_mk(X:K.In h)(G:h.Ns mainGlobals mg)(hk:d.k=0)(hb:QcB d)
  (a:PySem.W.nsIn K mainGlobals d.x=some (some (.ref f))) (l:K.lookup f=some ⟨oc,od,.func (PySem.W.fnOf d.x d.q (Qbb d.st) (QaC d.st) (Qal d.st) .none kV doc pm an cd ct),sl⟩)
  (c:PySem.W.codeIn K cd d.q=true) (k:PySem.W.keepIn K (.ref f)=true):Qgq K mg d :=
 ⟨f,_,Qk6 l c k,⟨λ_=>zzq X G a,λz=>by simp_all,λz=>by simp_all⟩,λus hl=>hb _ _ _ _ _ _ us hl⟩
theorem laid_mth(O:OCl K 1 C)(hk:d.k=1)(hn:d.x∉Qa9 1)(hb:QcB d)
  (a:PySem.W.findIn K (.ref C) d.x=some (some (.ref f))) (l:K.lookup f=some ⟨oc,od,.func (PySem.W.fnOf d.x d.q (Qbb d.st) (QaC d.st) (Qal d.st) .none kV doc pm an cd ct),sl⟩)
  (c:PySem.W.codeIn K cd d.q=true) (k:PySem.W.keepIn K (.ref f)=true) (t:PySem.W.isFn K (.ref f)=true):Qgq K mg d :=
 ⟨f,_,Qk6 l c k,⟨λz=>by simp_all,λ_=>⟨C,O,⟨a,t,k⟩,hn⟩,λz=>by simp_all⟩,λus hl=>hb _ _ _ _ _ _ us hl⟩
theorem laid_ini(X:K.In h)(G:h.Ns mainGlobals mg)(O:OCl K (d.k-2) C)(hk:2<=d.k)(mk:PySem.W.makesIn K C=true)(kc:PySem.W.keepIn K (.ref C)=true)(hb:QcB d)
  (a:PySem.W.findIn K (.ref C) "__init__"=some (some (.ref f))) (l:K.lookup f=some ⟨oc,od,.func (PySem.W.fnOf d.x d.q (Qbb d.st) (QaC d.st) (Qal d.st) .none kV doc pm an cd ct),sl⟩)
  (c:PySem.W.codeIn K cd d.q=true) (k:PySem.W.keepIn K (.ref f)=true) (t:PySem.W.isFn K (.ref f)=true):Qgq K mg d :=
 ⟨f,_,Qk6 l c k,⟨λz=>by simp_all,λz=>by simp_all,λ_=>⟨C,O,⟨mk,a,t,kc⟩,zzq X G O.ns⟩⟩,λus hl=>hb _ _ _ _ _ _ us hl⟩
theorem ocl0(o:PySem.W.nsIn K mainGlobals "Standing"=some (some (.ref C)))(g:PySem.W.plainGet K C Str.empty=true)(hd:PySem.W.hasDictIn K C=true)(po:PySem.W.plainOver K C=true)(sa:PySem.W.findIn K (.ref C) "__setattr__"=some (some (.builtin "object.__setattr__")))
  (n0:PySem.W.findIn K (.ref C) "deed"=some none) (n1:PySem.W.findIn K (.ref C) "part_list"=some none) (n2:PySem.W.findIn K (.ref C) "follows"=some none) (n3:PySem.W.findIn K (.ref C) "dead"=some none):OCl K 0 C :=
 ⟨o,⟨g,hd,po,sa⟩,λf hf=>by
  simp only[Qa9,zS,Zr,zzM]at hf
  rcases hf with rfl|rfl|rfl|rfl<;>assumption⟩
theorem ocl1(o:PySem.W.nsIn K mainGlobals "Register"=some (some (.ref C)))(g:PySem.W.plainGet K C Str.empty=true)(hd:PySem.W.hasDictIn K C=true)(po:PySem.W.plainOver K C=true)(sa:PySem.W.findIn K (.ref C) "__setattr__"=some (some (.builtin "object.__setattr__")))
  (n0:PySem.W.findIn K (.ref C) "names"=some none) (n1:PySem.W.findIn K (.ref C) "standings"=some none):OCl K 1 C :=
 ⟨o,⟨g,hd,po,sa⟩,λf hf=>by
  simp only[Qa9,zS,Zr,zzM]at hf
  rcases hf with rfl|rfl<;>assumption⟩
end
theorem con_int{K:Fg0}{mg:Str->Option Value}{x:Str}{i:Int}{t:Tok}(h:mg x=some (.int i t)):∃u v,mg x=some u/\RelV v u/\∀ρ H,Rel K ρ H (.int i) v:=⟨_,.int i,h,⟨t,rfl⟩,λ_ _=>QaJ⟩
theorem con_str{K:Fg0}{mg:Str->Option Value}{x i:Str}{t:Tok}(h:mg x=some (.str i t)):∃u v,mg x=some u/\RelV v u/\∀ρ H,Rel K ρ H (.str i) v:=⟨_,.str i,h,⟨t,rfl⟩,λ_ _=>Qdt⟩
theorem con_tup{K:Fg0}{mg:Str->Option Value}{x:Str}{a:Addr}{od:Option Addr}{us:Array Value}{n:Nat}{sl:Array (Option Value)}{is:List Int}(h:mg x=some (.ref a))(l:K.lookup a=some ⟨.type "tuple",od,.seq us n,sl⟩)(hv:Vals (is.map V.int) us.toList)(hz:us.size<=1000:=by rfl) :
  ∃u v,mg x=some u/\RelV v u/\∀ρ H,Rel K ρ H (.tup (is.map W.int)) v :=
 ⟨_,.ref a,h,rfl,λρ H=>⟨a,is.map V.int,rfl,.inr (.inr ⟨_,us,n,l,rfl,rfl,zf hz ZzD,hv⟩),Qf3 is⟩⟩
theorem all_mem{α:Type}{P:α->Prop}{l:List α}(h:∀d∈l,P d)(i:Nat)(d:α)(e:l[i]?=some d):P d:=h d (zC e)
theorem eo_of{K:Fg0}{h:Heap}{C:Addr}{bm:List Value}{oc:Value}{od:Option Addr}{cd:ClassData}{sl:Array (Option Value)}(X:K.In h)(q:PySem.W.excIn K C bmV newV=true)(l:K.lookup C=some ⟨oc,od,.cls cd,sl⟩)(m:cd.mro=.ref C::bm):Eo h C bm:=by unfold PySem.W.excIn at q;split at q;rename_i d2 cd2 sl2 ho;have l2:=ho.symm.trans l;cases l2;split at q;rename_i C2 bm2 u0 u1 u2 u3 n u5 hm hs;rw[m]at hm;cases hm;simp only[zE,beq_iff_eq,Bool.not_eq_true']at q;obtain⟨⟨⟨⟨⟨_,rfl⟩,g1⟩,g2⟩,g3⟩,g4⟩:=q;obtain⟨nm,bs,mro,nsA,qn,hd,sn,sub,ab,col,del⟩:=cd;subst m g1;obtain⟨ll⟩:=sl;have hs' :=hs;subst hs';exact⟨nsA,nm,qn,bs,hd,sn,sub,ab,col,od,u0,u1,u2,u3,u5,_,X _ _ ho,Heap.Ns.of_isNs (PySem.W.isNs_of_in X g3),PySem.W.nsMap_none_of_in X g3 g4,PySem.W.tail_of_in X g2⟩;simp_all;simp_all
theorem has_no{a J:Addr}{C d:Addr}(h1:C≠d)(h2:J≠d):(Value.ref C::.ref J::bmV).contains (.ref d)=false:=by grind
theorem Qiz{C:Addr}{bm:List Value}:(Value.ref C::bm).contains (.ref C)=true:=ZzS
def FE(K:Fg0)(C:Addr)(x:Str)(o:Option Value):Prop:=PySem.W.findIn K (.ref C) x=some o
structure ErrAt (K:Fg0) (mg:Str->Option Value) (x:Str) (C J:Addr):Prop where
 m:mg x=some (.ref C)
 e:∀h:Heap,K.In h->Eo h C (.ref J::bmV)
structure BasAt (K:Fg0) (mg:Str->Option Value) (x:Str) (J:Addr):Prop where
 m:mg x=some (.ref J)
 e:∀h:Heap,K.In h->Eo h J bmV
section
variable {K:Fg0}{mg:Str->Option Value}{h:Heap}{x:Str}{C J:Addr}{ec:Value}{ed:Option Addr}{ek:ClassData}{es:Array (Option Value)}
theorem err_mk(X:K.In h)(G:h.Ns mainGlobals mg)(n:PySem.W.nsIn K mainGlobals x=some (some (.ref C)))(y:K.lookup C=some ⟨ec,ed,.cls ek,es⟩)(v:PySem.W.excIn K C bmV newV=true)(w:ek.mro=.ref C::.ref J::bmV):ErrAt K mg x C J:=⟨zzq X G n,λ_ z=>eo_of z v y w⟩
theorem bas_mk(X:K.In h)(G:h.Ns mainGlobals mg)(n:PySem.W.nsIn K mainGlobals x=some (some (.ref J)))(y:K.lookup J=some ⟨ec,ed,.cls ek,es⟩)(v:PySem.W.excIn K J bmV newV=true)(w:ek.mro=.ref J::bmV):BasAt K mg x J:=⟨zzq X G n,λ_ z=>eo_of z v y w⟩
end
abbrev FE3(K:Fg0)(C:Addr):Prop:=FE K C "__getattribute__" (some (.builtin "BaseException.__getattribute__"))/\FE K C "__getattr__" none/\FE K C "__class__" (some (.builtin "object.__class__"))
theorem Qqo{K:Fg0}{mg:Str->Option Value}{G:List (Str×Gk)}{Cs:List Addr}{J:Addr}(hn:(J::Cs).Nodup)
  (hx:∀x c,G.lookup x=some (.cls c)->c<Cs.length/\mg x=some (.ref (Cs.getD c 0))/\∀h:Heap,K.In h->Eo h (Cs.getD c 0) (.ref J::bmV))
  (hb:∀z,G.lookup z=some .bas->mg z=some (.ref J)/\(∀h:Heap,K.In h->Eo h J bmV)/\∀x c,G.lookup x=some (.cls c)->FE3 K (Cs.getD c 0)) :
  ∀x c,G.lookup x=some (.cls c)->mg x=some (.ref (Cs.getD c 0))/\∃bm,(∀h:Heap,K.In h->Eo h (Cs.getD c 0) bm)/\(∀y d,G.lookup y=some (.cls d)->(Value.ref (Cs.getD c 0)::bm).contains (.ref (Cs.getD d 0))=decide (c=d))/\∀z,G.lookup z=some .bas->∀h:Heap,K.In h->BasJ K mg h (Cs.getD c 0) bm z:=by
 intro x c h
 obtain⟨h0,h1,h2⟩:=hx x c h
 refine⟨h1,_,h2,λy d hy=>?_,λz hz h' hi=>?_⟩
 ·obtain⟨g0,_,_⟩:=hx y d hy
  rw[ZR]at hn
  have hc:Cs.getD c 0=Cs[c]:=by simp[List.getD,zJ h0]
  have hd:Cs.getD d 0=Cs[d]:=by simp[List.getD,zJ g0]
  by_cases e:c=d
  ·subst e
   rw[Qiz,zX rfl]
  ·rw[zV e]
   refine has_no (a:=0) (λz=>?_) λz=>?_
   ·rw[hc,hd]at z
    exact e ((List.getElem_inj hn.2).mp z)
   simp_all
 ·obtain⟨b1,b2,b3⟩:=hb z hz
  obtain⟨e1,e2,e3⟩:=b3 x c h
  refine⟨J,bmV,b1,b2 h' hi,?_,?_,e1,e2,e3⟩
  ·rw[List.contains_cons,Qiz,Bool.or_true]
  rfl
def GlAt(K:Fg0)(mg:Str->Option Value)(Cs:List Addr)(J:Addr)(p:Str×Gk):Prop:=match p.2 with
 |.con w=>∃u v,mg p.1=some u/\RelV v u/\∀ρ H,Rel K ρ H w v
 |.cls c=>c<Cs.length/\ErrAt K mg p.1 (Cs.getD c 0) J/\FE3 K (Cs.getD c 0)
 |.bas=>BasAt K mg p.1 J
 |_=>True
def AllP{α:Type}(P:α->Prop):List α->Prop
 |[]=>True
 |a::l=>P a/\AllP P l
theorem AllP.mem{α:Type}{P:α->Prop}:∀{l:List α},AllP P l->∀x∈l,P x
 |_::_,h,_,m=>by rcases zS.mp m with rfl|m;exact h.1;exact AllP.mem h.2 _ m
theorem laid_all{K:Fg0}{mg:Str->Option Value}{h:Heap}{G:List (Str×Gk)}{Cs:List Addr}{J:Addr}(X:K.In h)(N:h.Ns mainGlobals mg)(D:AllP (Qgq K mg) ds)(Z:AllP (λx=>PySem.W.nsIn K mainGlobals x=some none) bltNames)(g:AllP (GlAt K mg Cs J) G)(u:(J::Cs).Nodup):∃cl,Laid K mg cl ds G :=
 ⟨λc=>Cs.getD c 0,all_mem  D.mem,λx w e=>g.mem (x,.con w) (QaN e),λx hx _=>PySem.W.mg_none_of X N (Z.mem x hx),Qqo u (λx c e=>have q:=g.mem (x,.cls c) (QaN e);⟨q.1,q.2.1.m,q.2.1.e⟩) λz hz=>have q:=g.mem (z,.bas) (QaN hz);⟨q.m,q.e,λx c e=>(g.mem (x,.cls c) (QaN e)).2.2⟩⟩
theorem with_ocl{K:Fg0}{h:Heap}{Q:Prop}{c:Nat}{C:Addr}(_:K.In h)(o:OCl K c C)(q:OCl K c C->Q):Q:=q o
theorem Qac{fw:Nat}{tb:List Fn}{d f:Nat}{g:Fn}{ws:List W}{h:Qaa}(hg:tb[f]?=some g)(hl:ws.length=g.np) :
  Qab fw tb (d+1) f ws h=fin h.length (exB (Qab fw tb d) fw g.body (ws.map some++List.replicate (g.ns-g.np) none) h):=by
 show(match tb[f]? with|some g=>_|none=>_)=_
 simp_all
@[simp] theorem bnd_ok {α β:Type} (a:α) (h:Qaa) (f:α->Qaa->Res β):bnd (.ok a h) f=f a h:=rfl
@[simp] theorem bnd_stuck {α β:Type} (f:α->Qaa->Res β):bnd (.stuck) f=.stuck:=rfl
@[simp] theorem bnd_exc {α β:Type} (c:Nat) (h:Qaa) (f:α->Qaa->Res β):bnd (.exc c h) f=.exc c h:=rfl
theorem Qne{x y:Int}{m n:Nat}(hx:x.natAbs<2^m)(hy:y.natAbs<2^n)(h:m+n<=134217728):Qdb x y=true:=by
 rw[QcC];unfold Qqx
 rw[zzh]
 refine .inr (zX ?_)
 have a:=PySem.intBits_le_iff.mpr hx
 have b:=PySem.intBits_le_iff.mpr hy
 lia
theorem Qm8(h:-(2^64)<y/\y<2^64):Qdb x y=true:=by rw[QcC];unfold Qqx;simp_all
theorem Qfl(xs:List α)(k:Nat):atI xs (k)=xs[k]?:=by unfold atI ixN;by_cases h:(k)<xs.length;simp_all;simp_all
theorem Qh7(h)(m:Qdb i j=true):opW .Mult (.int i) (.int j) h=.ok (.int (i*j)) h:=by unfold opW QgI okI;simp_all
theorem Qjt(i j)(h):opW .Add (.int i) (.int j) h=.ok (.int (i+j)) h:=rfl
theorem Qoo(i j)(h):opW .Sub (.int i) (.int j) h=.ok (.int (i-j)) h:=rfl
theorem Qcs(h)(m:j≠0):opW .Mod (.int i) (.int j) h=.ok (.int (i.fmod j)) h:=by unfold opW QgI okI;simp_all
theorem Qit(h)(m:j≠0)(l:j.natAbs.log2<9000):opW .FloorDiv (.int i) (.int j) h=.ok (.int (i.fdiv j)) h:=by unfold opW QgI okI;simp_all
theorem Qhy(i j)(h):QbP .Lt (.int i) (.int j) h=.ok (.bl (decide (i<j))) h:=rfl
theorem QpM(i j)(h):QbP .LtE (.int i) (.int j) h=.ok (.bl (decide (i<=j))) h:=rfl
theorem QjA(i j)(h):QbP .Gt (.int i) (.int j) h=.ok (.bl (decide (j<i))) h:=rfl
theorem Qqb(i j)(h):QbP .GtE (.int i) (.int j) h=.ok (.bl (decide (j<=i))) h:=rfl
theorem Qoi(i j)(h):QbP .Eq (.int i) (.int j) h=.ok (.bl (decide (i=j))) h:=rfl
theorem QnT(i j)(h):QbP .NotEq (.int i) (.int j) h=.ok (.bl (!decide (i=j))) h:=rfl
theorem Qbx(ea:evE cf a σ h=.ok x h1)(eb:evE cf b σ h1=.ok y h2)(o:opW op x y h2=r):evE cf (.bin op a b) σ h=r:=by rw[evE,ea,bnd_ok,eb,bnd_ok,o]
theorem Qbo(ea:evE cf a σ h=.ok x h1)(eb:evE cf b σ h1=.ok y h2)(o:QbP op x y h2=r):evE cf (.cmp op a b) σ h=r:=by rw[evE,ea,bnd_ok,eb,bnd_ok,o]
theorem Qao{cf:CF}{w:W}{σ:Qai}{h:Qaa}:evE cf (.con w) σ h=.ok w h:=rfl
theorem Qag{cf:CF}{i:Nat}{w:W}{σ:Qai}{h:Qaa}(e:σ[i]?=some (some w)):evE cf (.var i) σ h=.ok w h:=by rw[evE,e]
theorem U0{σ:Qai}(e:σ[0]?=some (some w)):evE c (.var 0) σ h=.ok w h:=Qag e
theorem U1{σ:Qai}(e:σ[1]?=some (some w)):evE c (.var 1) σ h=.ok w h:=Qag e
theorem U2{σ:Qai}(e:σ[2]?=some (some w)):evE c (.var 2) σ h=.ok w h:=Qag e
theorem U3{σ:Qai}(e:σ[3]?=some (some w)):evE c (.var 3) σ h=.ok w h:=Qag e
theorem U4{σ:Qai}(e:σ[4]?=some (some w)):evE c (.var 4) σ h=.ok w h:=Qag e
theorem U5{σ:Qai}(e:σ[5]?=some (some w)):evE c (.var 5) σ h=.ok w h:=Qag e
theorem U7{σ:Qai}(e:σ[7]?=some (some w)):evE c (.var 7) σ h=.ok w h:=Qag e
theorem U9{σ:Qai}(e:σ[9]?=some (some w)):evE c (.var 9) σ h=.ok w h:=Qag e
theorem Qad{cf:CF}{fw:Nat}{s:S}{ss:List S}{σ σ':Qai}{h h':Qaa}(e:exS cf fw s σ h=.ok (.nx σ') h'):exB cf fw (s::ss) σ h=exB cf fw ss σ' h':=by rw[exB,e,bnd_ok]
theorem Qar(e:exS cf fw s σ h=.ok (.ret w) h'):exB cf fw (s::ss) σ h=.ok (.ret w) h':=by rw[exB,e,bnd_ok]
theorem Qd1(e:evT cf c σ h=.ok false h1):exS cf fw (.if_ c a []) σ h=.ok (.nx σ) h1:=by show bnd (evT cf c σ h) _=_;rw[e,bnd_ok,zM ZzS,exB]
theorem if_f(e:evT cf c σ h=.ok false h1):exS cf fw (.if_ c a b) σ h=exB cf fw b σ h1:=by rw[exS];simp_all
theorem QjO(e:evT cf c σ h=.ok true h1):exS cf fw (.if_ c a b) σ h=exB cf fw a σ h1:=by rw[exS];simp_all
theorem QaX{cf:CF}{c:E}{σ:Qai}{h h1:Qaa}{b:Bool}(e:evE cf c σ h=.ok (.bl b) h1):evT cf c σ h=.ok b h1:=by show tst (evE cf c σ h)=_;rw[e];rfl
theorem Qn7{cf:CF}{a b:E}{σ:Qai}{h h1:Qaa}{r:Res Bool}(e:evT cf a σ h=.ok false h1)(e2:evT cf b σ h1=r):evT cf (.or_ a b) σ h=r:=by rw[Qkf,e,bnd_ok,zM ZzS,e2]
theorem QlP(e:evT cf a σ h=.ok true h1):evT cf (.or_ a b) σ h=.ok true h1:=by rw[Qkf,e,bnd_ok,zF rfl]
theorem Qg2(e:evT cf a σ h=.ok true h1)(e2:evT cf b σ h1=r):evT cf (.and_ a b) σ h=r:=by rw[QgN,e,bnd_ok,zF rfl,e2]
theorem Qkw(e:evT cf a σ h=.ok false h1):evT cf (.and_ a b) σ h=.ok false h1:=by rw[QgN,e,bnd_ok,zM ZzS]
theorem Qny{cf:CF}{a:E}{σ:Qai}{h h1:Qaa}{b:Bool}(e:evT cf a σ h=.ok b h1):evT cf (.not_ a) σ h=.ok (!b) h1:=by show tst (bnd (evT cf a σ h) _)=_;rw[e];rfl
theorem QeS{test:Qai->Qaa->Res Bool}{body:Qai->Qaa->Res Fl}{n:Nat}{σ σ':Qai}{h h1 h2:Qaa}(ht:test σ h=.ok true h1)(hb:body σ h1=.ok (.nx σ') h2):wh test body (n+1) σ h=wh test body n σ' h2:=by rw[wh,ht,bnd_ok,zF rfl,hb,bnd_ok]
theorem QdO{test:Qai->Qaa->Res Bool}{body:Qai->Qaa->Res Fl}{n:Nat}{σ:Qai}{h h1:Qaa}(ht:test σ h=.ok false h1):wh test body (n+1) σ h=.ok (.nx σ) h1:=by rw[wh,ht,bnd_ok,zM ZzS]
theorem Qb0{is:List Nat}{body:Qai->Qaa->Res Fl}{w:W}{ws:List W}{σ σ1 σ':Qai}{h h2:Qaa}(hb:QaL is w σ=some σ1)(e:body σ1 h=.ok (.nx σ') h2):fo is body (w::ws) σ h=fo is body ws σ' h2:=by rw[fo];simp_all
mutual
theorem QaT:∀w,Qah w=true->unr h n0 w=some w
 |.non,_=>by simp[unr]
 |.bl _,_=>by simp[unr]
 |.int _,_=>by simp[unr]
 |.str _,_=>by simp[unr]
 |.tup ws,q=>by rw[Qah]at q;rw[unr,Qb6 ws q];rfl
 |.lst ws,q=>by rw[Qah]at q;rw[unr,Qb6 ws q];rfl
 |.scr ws,q=>by rw[Qah]at q;rw[unr,Qb6 ws q];rfl
 |.ins c ws,q=>by rw[Qah]at q;rw[unr,Qb6 ws q];rfl
 |.dic ks ws,q=>by rw[Qah]at q;rw[unr,Qb6 ws q];rfl
 |.ref n,q=>by rw[Qah]at q;cases q
theorem Qb6:∀ws,Qaf ws=true->Qf7 h n0 ws=some ws
 |[],_=>by rw[Qf7]
 |w::ws,q=>by rw[Qaf,zE]at q;rw[Qf7,QaT w q.1,Qb6 ws q.2]
end
theorem QjT(e:seqA h x=some us):seqI h x=some us:=by
 cases x with
 |str z=>cases e
 |_=>exact e
noncomputable def cell(ns:List Int)(k:Nat):Int:=ns.getD k 0
theorem Qmt(ns:List Int)(k)(h:k<ns.length):atI (ns.map W.int) (k)=some (.int (cell ns k)):=by rw[Qfl,zT];unfold cell;simp_all
theorem QmF(h:¬ (k<ns.length)):cell ns k=0:=by unfold cell;simp_all
noncomputable abbrev bAt:List S:=[.if_ (.cmp .Lt V1 (.blt .len [V0])) [.ret (.ix V0 V1)] [],.ret (.con (.int 0))]
theorem at_run{fw:Nat}{tb:List Fn}{f:Nat}(hg:tb[f]?=some ⟨2,2,bAt,none⟩)(d:Nat)(ns:List Int)(k:Nat)(h:Qaa) :
  Qab fw tb (d+1) f [.scr (ns.map W.int),.int (k)] h=.ok (.int (cell ns k)) h:=by
 rw[Qac hg rfl]
 by_cases hk:k<ns.length
 ·have hk' :=ZzO
  simp[bAt,exB,exS,evE,evA,QbK,on1,on2,Qg7,Qnl,Qiq,Qnp,intW,QlO,seqA,Qe3,seqL,okI,QbP,okB,tst,Qok,hk',ixW,Qmt ns k hk,fin,unr,Qf7,Qah]
 ·have hk' :=ZzO
  simp[bAt,exB,exS,evE,evA,QbK,on1,on2,Qg7,Qnl,Qiq,Qnp,intW,QlO,seqA,Qe3,seqL,okI,QbP,okB,tst,Qok,hk',ixW,fin,unr,Qf7,Qah,QmF hk]
noncomputable abbrev nat(m:Nat):W:=.int (m:Int)
noncomputable abbrev sh(p q:Nat):W:=.tup [nat p,nat q]
theorem Qd5(m n:Nat):Int.fmod (m) (n)=((m%n:Nat)):=by grind
theorem QhN(m n:Nat):Int.fdiv (m) (n)=((m/n:Nat)):=by rw[Int.fdiv_eq_ediv_of_nonneg _ (Int.natCast_nonneg n)];rfl
theorem Qpd(m n:Nat):(m)*(n)=((m*n:Nat):Int):=(Int.natCast_mul m n).symm
theorem QoX(m n:Nat):(m)+(n)=((m+n:Nat):Int):=(Int.natCast_add m n).symm
theorem Qjq(h:n<2^k)(hk:0<k):n.log2<k:=by by_cases z:n=0;simp_all;exact(Nat.log2_lt z).mpr h
theorem Qg1{m n:Nat}(hm:m<2^100000)(hn:n<2^100000):Qdb (m) (n:Int)=true :=
 Qne   (by simpa using hm) (by simpa using hn) ZzD
noncomputable abbrev Qmb:List S:=[.while_ (.cmp .Gt V1 (.con (.int 0))) [.asg 2 (.bin .Mod V0 V1),.asg 0 V1,.asg 1 V2],.ret V0]
noncomputable abbrev tGt(cf:CF):Qai->Qaa->Res Bool:=λσ h=>tst (evE cf (.cmp .Gt V1 (.con (.int 0))) σ h)
noncomputable abbrev Qkj:List S:=[.asg 2 (.bin .Mod V0 V1),.asg 0 V1,.asg 1 V2]
theorem Qh2(cf:CF)(fw)(h):∀n a b r,b<n ->
  ∃r',wh (tGt cf) (exB cf fw Qkj) n [some (nat a),some (nat b),r] h=.ok (.nx [some (nat (Nat.gcd a b)),some (nat 0),r']) h
 |0,a,b,r,hb=>absurd hb (Nat.not_lt_zero b)
 |n+1,a,b,r,hb=>by
  by_cases z:b=0;subst z;rw[QdO  (rfl)];simp;obtain⟨r',e⟩:=Qh2 cf fw h n b (a%b) (some (nat (a%b))) (zj (ZU a (zzA z)) (Nat.le_of_lt_succ hb));refine⟨r',?_⟩;have g:Nat.gcd a b=Nat.gcd b (a%b):=by rw[Nat.gcd_comm a b,Nat.gcd_rec b a,Nat.gcd_comm]
  rw[QeS (h1:=h) (h2:=h) (σ':=[some (nat b),some (nat (a%b)),some (nat (a%b))]) (by simp[tGt,evE,QbP,okB,tst,Qok,zzA z]) (by simp[Qkj,exB,exS,evE,opW,QgI,z,okI,Qd5]),e,g]
theorem Qp8{fw:Nat}{tb:List Fn}{f:Nat}(hg:tb[f]?=some ⟨2,3,Qmb,none⟩)(d a b:Nat)(h:Qaa)(hb:b<fw):Qab fw tb (d+1) f [nat a,nat b] h=.ok (nat (Nat.gcd a b)) h:=by
 rw[Qac hg rfl];obtain⟨r',e⟩:=Qh2 (Qab fw tb d) fw h fw a b none hb;have e':exB (Qab fw tb d) fw Qmb ([nat a,nat b].map some++List.replicate (3-2) none) h=.ok (.ret (nat (Nat.gcd a b))) h:=by show exB (Qab fw tb d) fw Qmb [some (nat a),some (nat b),none] h=_;rw[exB,exS,e];rfl
 rw[e'];simp[fin,unr,Qf7,Qah]
noncomputable abbrev bLow(g:Nat):List S:=[.asg 2 (.call g [V0,V1]),.ret (.tup [(.bin .FloorDiv V0 V2),(.bin .FloorDiv V1 V2)])]
noncomputable def low(a b:Nat):Nat×Nat:=(a/Nat.gcd a b,b/Nat.gcd a b)
noncomputable abbrev shp(s:Nat×Nat):W:=sh s.1 s.2
theorem Qo9{fw:Nat}{tb:List Fn}{f g:Nat}(hf:tb[f]?=some ⟨2,3,bLow g,none⟩)(hg:tb[g]?=some ⟨2,3,Qmb,none⟩)(d a b:Nat)(h:Qaa)(hb:b<fw)(h0:0<b)(hz:b<2^9000) :
  Qab fw tb (d+2) f [nat a,nat b] h=.ok (shp (low a b)) h:=by
 rw[Qac  hf rfl]
 have e:=Qp8 hg d a b h hb
 have gp :=zzX a h0
 have gl :=Nat.gcd_le_right a h0
 have hl :=Qjq (zQ gl hz) ZzD
 clear hz
 have hne:¬ (Nat.gcd a b:Int)=0:=ZzL
 have hc:((Nat.gcd a b:Int)≠0/\((Nat.gcd a b:Int)).natAbs.log2<9000):=⟨hne,by simpa using hl⟩
 simp only[zO,Zy,List.replicate,List.cons_append,zzf,exB,exS,evE,evA,bnd_ok,List.getElem?_cons_zero,List.getElem?_cons_succ,e,List.set_cons_succ,List.set_cons_zero,opW,QgI,zF hc,okI,QhN,bnd_ok]
 simp[sizeLine,fin,unr,Qf7,Qah,Qaf,low]
@[irreducible] def FW:Nat:=2^9000
theorem Qp6(x B:Int)(h0:0<B):∃m:Nat,x.fmod B=(m)/\(m)<B:=by have a:=Int.fmod_nonneg_of_pos x h0;have b:=Int.fmod_lt_of_pos x h0;exact⟨(x.fmod B).toNat,ZzL,ZzL⟩
theorem QeX(ea:evE cf a σ h=.ok x h1)(o:cf f [x] h1=r):evE cf (.call f [a]) σ h=r:=by rw[evE,QbE,ea,bnd_ok,bnd_ok,o]
theorem Qby{cf:CF}{f:Nat}{a b:E}{σ:Qai}{h h1 h2:Qaa}{x y:W}{r:Res W}(ea:evE cf a σ h=.ok x h1)(eb:evE cf b σ h1=.ok y h2)(o:cf f [x,y] h2=r):evE cf (.call f [a,b]) σ h=r:=by rw[evE,QjS,ea,bnd_ok,eb,bnd_ok,bnd_ok,o]
theorem Qae(ea:evE cf a σ h=.ok x h1)(eb:evA cf as σ h1=.ok xs h2):evA cf (a::as) σ h=.ok (x::xs) h2:=by rw[evA,ea,bnd_ok,eb,bnd_ok]
theorem Qan:evA cf [] σ h=.ok [] h:=rfl
theorem Qdm(ea:evA cf as σ h=.ok xs h1)(o:cf f xs h1=r):evE cf (.call f as) σ h=r:=by rw[evE,ea,bnd_ok,o]
theorem QaU{cf:CF}{fw i:Nat}{e:E}{σ:Qai}{h h1:Qaa}{w:W}(ee:evE cf e σ h=.ok w h1):exS cf fw (.asg i e) σ h=.ok (.nx (σ.set i (some w))) h1:=by rw[exS,ee,bnd_ok]
theorem Qa7(ee:evE cf e σ h=.ok w h1):exS cf fw (.ret e) σ h=.ok (.ret w) h1:=by rw[exS,ee,bnd_ok]
theorem Qns{cf:CF}{at_:Nat}{ns:List Int}{h:Qaa}{σ:Qai}{i:Nat}(hc:∀(k:Nat) (h:Qaa),cf at_ [.scr (ns.map W.int),.int (k)] h=.ok (.int (cell ns k)) h)(hs:σ[i]?=some (some (.scr (ns.map W.int))))(k:Nat) :
 evE cf (.call at_ [.var i,.con (.int (k))]) σ h=.ok (.int (cell ns k)) h:=Qby (Qag hs) Qao (hc k h)
theorem i0(a b:W):L2.atI [a,b] 0=some a:=rfl
theorem i1(a b:W):L2.atI [a,b] 1=some b:=rfl
theorem ix_T{ws:List W}{i:Int}{w:W}{h:Qaa}(e:L2.atI ws i=some w):ixW (.tup ws) (.int i) h=.ok w h:=by unfold ixW seqA Qe3;simp only[Option.or,e]
theorem Qph(e:L2.atI ws i=some w):ixW (.lst ws) (.int i) h=.ok w h:=by unfold ixW seqA Qe3 seqL;simp_all
theorem Qbr{cf:CF}{a b:E}{σ:Qai}{h h1 h2:Qaa}{x y:W}{r:Res W}(ea:evE cf a σ h=.ok x h1)(eb:evE cf b σ h1=.ok y h2)(o:ixW x y h2=r):evE cf (.ix a b) σ h=r:=by rw[evE,ea,bnd_ok,eb,bnd_ok,o]
theorem ev_top{cf:CF}{i:Nat}{p q:Nat}{σ:Qai}{h:Qaa}(e:σ[i]?=some (some (sh p q))):evE cf (.ix (.var i) (.con (.int 0))) σ h=.ok (nat p) h:=Qbr (Qag e) Qao (ix_T (i0 _ _))
theorem ev_bel{cf:CF}{i:Nat}{p q:Nat}{σ:Qai}{h:Qaa}(e:σ[i]?=some (some (sh p q))):evE cf (.ix (.var i) (.con (.int 1))) σ h=.ok (nat q) h:=Qbr (Qag e) Qao (ix_T (i1 _ _))
theorem Qhc{cf:CF}{a b:E}{m n:Nat}{σ:Qai}{h:Qaa}(ea:evE cf a σ h=.ok (nat m) h)(eb:evE cf b σ h=.ok (nat n) h)(hm:Qdb (m) (n)=true):evE cf (.bin .Mult a b) σ h=.ok (nat (m*n)) h :=
 (Qbx ea eb (Qh7 _ hm)).trans (rfl)
theorem Qcx{cf:CF}{a b:E}{m n:Nat}{σ:Qai}{h:Qaa}(ea:evE cf a σ h=.ok (nat m) h)(eb:evE cf b σ h=.ok (nat n) h):evE cf (.bin .Add a b) σ h=.ok (nat (m+n)) h :=
 (Qbx ea eb (Qjt _ _ _)).trans (rfl)
theorem Qcv{cf:CF}{a b:E}{m n:Nat}{σ:Qai}{h:Qaa}(ea:evE cf a σ h=.ok (nat m) h)(eb:evE cf b σ h=.ok (nat n) h)(h0:0<n)(hz:n<2^9000):evE cf (.bin .FloorDiv a b) σ h=.ok (nat (m/n)) h :=
 (Qbx ea eb (Qit _ (Int.natCast_ne_zero.mpr (ZO h0)) (by simpa using Qjq hz ZzS))).trans (by rw[QhN])
theorem Qb1{cf:CF}{a b:E}{m n:Nat}{σ:Qai}{h:Qaa}(ea:evE cf a σ h=.ok (nat m) h)(eb:evE cf b σ h=.ok (nat n) h)(h0:0<n):evE cf (.bin .Mod a b) σ h=.ok (nat (m%n)) h :=
 (Qbx ea eb (Qcs _ (Int.natCast_ne_zero.mpr (ZO h0)))).trans (by rw[Qd5])
theorem Qen(ea:evA cf as σ h=.ok xs h1)(hl:xs.length<=1000):evE cf (.tup as) σ h=.ok (.tup xs) h1:=by rw[evE,ea,bnd_ok,zF (zf hl ZzD)]
theorem Qbv{cf:CF}{as:List E}{σ:Qai}{h h1:Qaa}{xs:List W}(ea:evA cf as σ h=.ok xs h1)(hl:xs.length<=1000):evE cf (.lst as) σ h=.ok (.lst xs) h1:=by rw[evE,ea,bnd_ok,zF (zf hl ZzD)]
theorem Qcn{cf:CF}{a b:E}{σ:Qai}{h:Qaa}{x y:W}(ea:evE cf a σ h=.ok x h)(eb:evE cf b σ h=.ok y h):evA cf [a,b] σ h=.ok [x,y] h:=Qae ea (Qae eb Qan)
theorem QbX(hp:Qah w=true)(hw:∀n,w≠.ref n)(hl:h.length=n0):J.fin n0 (.ok (.ret w) h)=.ok w h:=by
 unfold J.fin
 dsimp only
 rw[QaT w hp]
 grind
theorem Qcu{ws:List W}{h:Qaa}(hp:Qaf ws=true):J.fin h.length (.ok (.ret (.tup ws)) h)=.ok (.tup ws) h:=QbX (hp) (λn z=>nomatch z) rfl
theorem Qdk:J.fin h.length (.ok (.ret (.int i)) h)=.ok (.int i) h:=QbX rfl (λn z=>nomatch z) rfl
theorem Qav{b:Bool}{h:Qaa}:J.fin h.length (.ok (.ret (.bl b)) h)=.ok (.bl b) h:=QbX rfl (λn z=>nomatch z) rfl
theorem QjV(p q):Qaf [nat p,nat q]=true:=rfl
noncomputable abbrev QeH(l:Nat):List S:=[.ret (.call l [(.bin .Mult (.ix V0 (.con (.int 0))) V1),(.bin .Mult (.ix V0 (.con (.int 1))) V2)])]
theorem QfZ{fw:Nat}{tb:List Fn}{f l g:Nat}(hf:tb[f]?=some ⟨3,3,QeH l,none⟩)(hl:tb[l]?=some ⟨2,3,bLow g,none⟩)(hg:tb[g]?=some ⟨2,3,Qmb,none⟩)(d p q m o:Nat)(h:Qaa)
  (m1:Qdb (p:Int) (m:Int)=true) (m2:Qdb (q:Int) (o:Int)=true) (q0:0<q) (o0:0<o) (hz:q*o<2^9000) (hw:q*o<fw) :
  Qab fw tb (d+3) f [sh p q,nat m,nat o] h=.ok (shp (low (p*m) (q*o))) h:=by
 rw[Qac (d:=d+2) hf rfl]
 have e:=Qo9 hl hg d (p*m) (q*o) h hw (Nat.mul_pos q0 o0) hz
 generalize Qab fw tb (d+2)=cf at *
 show J.fin h.length (exB cf fw (QeH l) [some (sh p q),some (nat m),some (nat o)] h)=_
 rw[Qar (Qa7 (Qby (Qhc (ev_top (i:=0) rfl) (U1 rfl) m1) (Qhc (ev_bel (i:=0) rfl) (U2 rfl) m2) e))]
 exact Qcu (QjV _ _)
theorem Qbj(x:Int){C:Nat}(h0:0<C):∃m:Nat,x.fmod (C)=(m)/\m<C:=by obtain⟨m,e,h⟩:=Qp6 x (C) ZzL;exact⟨m,e,ZzL⟩
theorem QbZ{cf:CF}{a b:E}{x:Int}{C m:Nat}{σ:Qai}{h:Qaa}(ea:evE cf a σ h=.ok (.int x) h)(eb:evE cf b σ h=.ok (nat C) h)(h0:0<C)(e:x.fmod (C)=(m)):evE cf (.bin .Mod a b) σ h=.ok (nat m) h :=
 (Qbx ea eb (Qcs _ (Int.natCast_ne_zero.mpr (ZO h0)))).trans (by rw[e])
theorem Qaw{cf:CF}{n:Nat}{σ:Qai}{h:Qaa}:evE cf (.con (nat n)) σ h=.ok (nat n) h:=Qao
theorem ex_one{cf:CF}{fw i:Nat}{e:E}{σ:Qai}{h:Qaa}{w:W}(ee:evE cf e σ h=.ok w h):exB cf fw [.asg i e] σ h=.ok (.nx (σ.set i (some w))) h:=by rw[Qad (QaU ee),exB]
theorem QiV(h:-(2^64)<x/\x<2^64):Qdb x y=true:=by rw[QcC];unfold Qqx;simp_all
theorem Qef{cf:CF}{i n:Nat}{e:E}{σ:Qai}{h:Qaa}{us:List W}{w:W}(hs:σ[i]?=some (some (.ref n)))(hn:h[n]?=some (.lst us))(ee:evE cf e σ h=.ok w h)(hp:Qah w=true)(hz:us.length<=1000000) :
  evE cf (.meth .append (.var i) [e]) σ h=.ok .non (h.set n (.lst (us++[w]))):=by
 have z:seqM h (.ref n)=some us:=by show(match h[n]? with|some (.lst ws)=>some ws|_=>none)=some us;rw[hn]
 rw[evE,Qag hs,bnd_ok,zF (show Qbi .append h (.ref n)=true by show(seqM h (.ref n)).isSome=true;rw[z];rfl),QbE,ee]
 show(match h[n]? with|some (.lst us)=>if Qah w=true/\us.length<sizeLine then Res.ok W.non (h.set n (.lst (us++[w]))) else .stuck|_=>.stuck)=_
 rw[hn]
 dsimp only
 rw[zF ⟨hp,zQ hz ZzD⟩]
theorem QhE{cf:CF}{fw:Nat}{e:E}{σ:Qai}{h h1:Qaa}{w:W}(ee:evE cf e σ h=.ok w h1):exS cf fw (.exp e) σ h=.ok (.nx σ) h1:=by rw[exS,ee,bnd_ok]
theorem QfE{cf:CF}{fw:Nat}{is:List Nat}{e:E}{b:List S}{σ:Qai}{h:Qaa}{n:Nat}(ee:evE cf e σ h=.ok (nat n) h)(hz:n<2^62):exS cf fw (.for_ is (.rng [e]) b) σ h=fo is (exB cf fw b) ((List.range n).map λ(k:Nat)=>W.int (0+(k:Int))) σ h:=by
 rw[exS,QbE,ee,bnd_ok,bnd_ok];have c:-(2^62)<=(n:Int)/\(n:Int)<2^62:=ZzL;have z:Qlj [nat n]=some ((List.range n).map λ(k:Nat)=>W.int (0+(k:Int))):=by rw[Qb2];unfold Qjc;dsimp only;rw[zF c,Zt]
 rw[z]
theorem Qb4(i)(w)(σ):QaL [i] w σ=some (σ.set i (some w)):=rfl
mutual
noncomputable def okQ:W->Bool
 |.int _=>true
 |.str _=>true
 |.tup ws=>Qey ws&&decide (ws.length<=100000)
 |.lst ws=>Qey ws&&decide (ws.length<=100000)
 |_=>false
noncomputable def Qey:List W->Bool
 |[]=>true
 |w::ws=>okQ w&&Qey ws
end
mutual
noncomputable def dep:W->Nat
 |.tup ws=>Qex ws+1
 |.lst ws=>Qex ws+1
 |_=>0
noncomputable def Qex:List W->Nat
 |[]=>0
 |w::ws=>Nat.max (dep w) (Qex ws)
end
theorem QhD:∀{ws:List W}{w:W},Qey ws=true->w∈ws->okQ w=true
 |[],_,_,h=>nomatch h
 |u::ws,w,h,m=>by rw[Qey,zE]at h;rcases zS.mp m with e|m;simp_all;exact QhD h.2 m
theorem Qii:∀{ws:List W}{w:W},w∈ws->dep w<=Qex ws
 |[],_,h=>nomatch h
 |u::ws,w,m=>by rw[Qex];rcases zS.mp m with e|m;subst e;exact Nat.le_max_left _ _;exact zf (Qii m) (Nat.le_max_right _ _)
noncomputable abbrev tSame(f:Nat):List S:=[.if_ (.not_ (.call f [(.ix V0 V3),(.ix V1 V3)])) [.ret (.con (.bl false))] []]
noncomputable abbrev QoG(f : Nat) : List S := [.if_ (.isi V1 [.list, .tuple]) [.asg 2 (.ite (.isi V1 [.list]) (.isi V0 [.list]) (.isi V0 [.tuple])),
 .if_ (.or_ (.not_ V2) (.cmp .NotEq (.blt .len [V0]) (.blt .len [V1]))) [.ret (.con (.bl false))] [],
 .for_ [3] (.rng [(.blt .len [V1])]) (tSame f),
 .ret (.con (.bl true))] [],
 .if_ (.isi V1 [.str]) [.ret (.and_ (.isi V0 [.str]) (.cmp .Eq V0 V1))] [],
 .ret (.and_ (.isi V0 [.int]) (.and_ (.not_ (.isi V0 [.bool])) (.cmp .Eq V0 V1)))]
theorem ev_isi{cf:CF}{a:E}{ts:List Ty}{σ:Qai}{h h1:Qaa}{x:W}{bs:List Bool}(ea:evE cf a σ h=.ok x h1)(e:ts.mapM (QaM h1 x)=some bs):evE cf (.isi a ts) σ h=.ok (.bl (bs.any id)) h1:=by rw[evE,ea,bnd_ok,e];rfl
theorem QcL{cf:CF}{a:E}{σ:Qai}{h h1:Qaa}{x:W}{us:List W}(ea:evE cf a σ h=.ok x h1)(e:seqA h1 x=some us):evE cf (.blt .len [a]) σ h=.ok (nat us.length) h1:=by rw[evE,Qae ea Qan];show Qg7 x h1=_;unfold Qg7;rw[e];rfl
theorem Qgn{cf:CF}{fw f:Nat}{x:W}{ws:List W}{h:Qaa}(hx:∀k:Nat,k<ws.length->∃w,ixW x (nat k) h=.ok w h/\cf f [w,w] h=.ok (.bl true) h):∀(ks:List Nat) (r:Option W),(∀k∈ks,k<ws.length) ->
  ∃r',fo [3] (exB cf fw (tSame f)) (ks.map λ(k:Nat)=>W.int (0+(k))) [some x,some x,some (.bl true),r] h=.ok (.nx [some x,some x,some (.bl true),r']) h
 |[],r,_=>⟨r,rfl⟩
 |k::ks,r,hk=>by obtain⟨r',e⟩:=Qgn   hx ks (some (nat k)) λj hj=>hk j (zB _ hj);obtain⟨w,e1,e2⟩:=hx k (hk k zN);refine⟨r',?_⟩;rw[zO,Int.zero_add _];refine(Qb0 (Qb4 _ _ _)   ((Qad (Qd1 (Qny  (QaX (Qby (Qbr (Qag  rfl) (Qag  rfl) e1) (Qbr (Qag  rfl) (Qag  rfl) e1) e2))))).trans ?_)).trans e;rfl
noncomputable abbrev abc:Str:="abcdefghijklmnopqrstuvwxyz"
noncomputable def ltr(n:Nat):Str:=⟨#[abc.cps.toList.getD n 0]⟩
theorem Qid(h:n<26)(c):ixW (.str abc) (nat n) c=.ok (.str (ltr n)) c:=by show ixS abc ((n)) c=_;unfold ixS;have hl:abc.cps.toList.length=26:=rfl;rw[zF ZzD,Qfl];unfold ltr;simp_all
theorem QaP(n):(ltr n).length=1:=rfl
noncomputable def Qcp(how shift:Nat):Str:=Txt.mul (ltr (shift/26%26)) ((how/3%11:Nat):Int)
noncomputable def Qa6(how shift k:Nat):Str:=if how%3<2 then
  Txt.slice (Qcp how shift) none (some ((how/33%11:Nat):Int))++ltr ((5*k+shift)%26)++ltr ((k/26+shift)%26)++Txt.slice (Qcp how shift) (some ((how/33%11:Nat):Int)) none
 else Txt.mul (ltr ((k/12+shift)%26)) ((1+k%12:Nat):Int)
theorem Qhn{x:Str}{n m:Nat}(hx:x.length=1)(hn:n<=m):(Txt.mul x (n)).length<=m:=by have:=len_mul_leN (x:=x) (n:=(n)) (L:=1) (N:=m) (by simp_all) (by simp_all);simp_all
theorem QhO(how shift):(Qcp how shift).length<=11:=Qhn (QaP _) ZzL
theorem QaB(a b:Str):(a++b).length=a.length+b.length:=by show(a.cps++b.cps).size=_;rw[Array.size_append];rfl
theorem Qmq(how shift k:Nat):(Qa6 how shift k).length<=24:=by
 unfold Qa6
 split
 ·rw[QaB,QaB,QaB,QaP,QaP]
  have h1:=Txt.slice_le (Qcp how shift) none (some ((how/33%11:Nat)))
  have h2:=Txt.slice_le (Qcp how shift) (some ((how/33%11:Nat):Int)) none
  have h3:=QhO how shift
  lia
 ·exact zf (Qhn (m:=12) (QaP _) ZzL) ZzD
theorem Qk2{x:Str}{n:Nat}(h:Qaa)(hx:x.length<=1000)(hn:n<=1000):opW .Mult (.str x) (nat n) h=.ok (.str (Txt.mul x (n))) h:=by
 show(if x.length<=1000/\-1000<=((n):Int)/\((n):Int)<=1000 then Res.ok (W.str (Txt.mul x n)) h else .stuck)=_
 grind
theorem Qhk(h)(hx:x.length<=1000)(hy:y.length<=1000):opW .Add (.str x) (.str y) h=.ok (.str (x++y)) h:=by show(if x.length+y.length<=sizeLine then Res.ok (W.str (x++y)) h else .stuck)=_;rw[zF (by rw[Zj];lia)]
theorem Qoa{lo hi:Option E}(ea:evE cf a σ h=.ok (.str x) h)(el:evO cf lo σ h=.ok l h)(eu:evO cf hi σ h=.ok u h)(hx:x.length<=1000):evE cf (.sl a lo hi) σ h=.ok (.str (Txt.slice x l u)) h:=by rw[evE,ea,bnd_ok,el,bnd_ok,eu];show(if x.length<=1000 then Res.ok (W.str (Txt.slice x l u)) h else .stuck)=_;simp_all
theorem QnO:evO cf none σ h=.ok none h:=rfl
theorem Qn9{cf:CF}{a:E}{i:Int}{σ:Qai}{h:Qaa}(ea:evE cf a σ h=.ok (.int i) h):evO cf (some a) σ h=.ok (some i) h:=by rw[evO,ea,bnd_ok]
noncomputable abbrev Qkn : List S := [.asg 8 (.ix V3 (.bin .Mod (.bin .Add (.bin .Mult (.con (.int 5)) V7) V2) I26)),
 .asg 9 (.ix V3 (.bin .Mod (.bin .Add (.bin .FloorDiv V7 I26) V2) I26)),
 .if_ (.cmp .Lt (.bin .Mod V1 (.con (.int 3))) (.con (.int 2))) [.exp (.meth .append V6 [(.bin .Add (.bin .Add (.bin .Add (.sl V4 none (some V5)) V8) V9) (.sl V4 (some V5) none))])] [.exp (.meth .append V6 [(.bin .Mult (.ix V3 (.bin .Mod (.bin .Add (.bin .FloorDiv V7 I12) V2) I26)) (.bin .Add (.con (.int 1)) (.bin .Mod V7 I12)))])]]
noncomputable abbrev Qfu : List S := [.asg 3 (.con (.str "abcdefghijklmnopqrstuvwxyz")),
 .asg 4 (.bin .Mult (.ix V3 (.bin .Mod (.bin .FloorDiv V2 I26) I26)) (.bin .Mod (.bin .FloorDiv V1 (.con (.int 3))) I11)),
 .asg 5 (.bin .Mod (.bin .FloorDiv V1 (.con (.int 33))) I11),
 .fresh 6 (.lst []),
 .for_ [7] (.rng [V0]) Qkn,
 .ret V6]
theorem QkU{cf:CF}{a b:E}{m n:Nat}{σ:Qai}{h:Qaa}(ea:evE cf a σ h=.ok (nat m) h)(eb:evE cf b σ h=.ok (nat n) h):evT cf (.cmp .Lt a b) σ h=.ok (decide (m<n)) h:=by refine QaX ((Qbo ea eb (Qhy _ _ _)).trans ?_);simp_all
theorem lt9(h:n<2^10):n<2^9000:=zj h (z9 ZzS ZzS)
theorem Qes(cf:CF)(fw)(m how shift)(h:Qaa):∀(ks:List Nat) (us:List Str) (r8 r9 r7:Option W),us.length+ks.length<=100000->(∀k∈ks,k<100000)->shift<100000->∃r7' r8' r9',
  fo [7] (exB cf fw Qkn) (ks.map λ(k:Nat)=>W.int (0+(k:Int))) [some (nat m),some (nat how),some (nat shift),some (.str abc),some (.str (Qcp how shift)),some (nat (how/33%11)),some (.ref h.length),r7,r8,r9] (h++[.lst (us.map W.str)])
   = .ok (.nx [some (nat m),some (nat how),some (nat shift),some (.str abc),some (.str (Qcp how shift)),some (nat (how/33%11)),some (.ref h.length),r7',r8',r9']) (h++[.lst ((us++ks.map (Qa6 how shift)).map W.str)])
 |[],us,r8,r9,r7,_,_,_=>⟨r7,r8,r9,by rw[Zy,fo];simp⟩
 |k::ks,us,r8,r9,r7,hn,hk,hs=>by
  rw[z0]at hn;obtain⟨r7',r8',r9',e⟩:=Qes cf fw m how shift h ks (us++[Qa6 how shift k]) (some (.str (ltr ((5*k+shift)%26)))) (some (.str (ltr ((k/26+shift)%26)))) (some (nat k)) (by rw[zA,Zm];lia) (λj hj=>hk j (zB _ hj)) hs;refine⟨r7',r8',r9',?_⟩;have hkk:=hk k zN;rw[zO,show(0+(k:Int))=(k:Int) from Int.zero_add _];have el:us++List.map (Qa6 how shift) (k::ks)=(us++[Qa6 how shift k])++List.map (Qa6 how shift) ks:=ZzS;rw[el];refine(Qb0 (Qb4 _ _ _)  (h2:=h++[.lst ((us++[Qa6 how shift k]).map W.str)]) ?_).trans e;have hcell:(h++[Ob.lst (us.map W.str)])[h.length]?=some (.lst (us.map W.str)):=by rw[zK (zD _),zzP];rfl
  have hset:(h++[Ob.lst (us.map W.str)]).set h.length (.lst (us.map W.str++[W.str (Qa6 how shift k)]))=h++[.lst ((us++[Qa6 how shift k]).map W.str)]:=ZzS;refine(Qad (QaU (Qbr (U3 rfl) (Qb1 (n:=26) (Qcx (Qhc (m:=5) Qaw (U7 rfl) (QiV ZzD)) (U2 rfl)) Qaw ZzD) (Qid (ZU _ ZzD) _)))).trans ?_;refine(Qad (QaU (Qbr (U3 rfl) (Qb1 (n:=26) (Qcx (Qcv (n:=26) (U7 rfl) Qaw ZzD (lt9 ZzD)) (U2 rfl)) Qaw ZzD) (Qid (ZU _ ZzD) _)))).trans ?_;have hul:(us.map W.str).length<=1000000:=by rw[zo];lia
  by_cases hw:how%3<2;have en:Qa6 how shift k=Txt.slice (Qcp how shift) none (some ((how/33%11:Nat):Int))++ltr ((5*k+shift)%26)++ltr ((k/26+shift)%26)++Txt.slice (Qcp how shift) (some ((how/33%11:Nat):Int)) none:=by unfold Qa6;rw[zF hw]
  have h3:=QhO how shift;have h1:=Txt.slice_le (Qcp how shift) none (some ((how/33%11:Nat):Int));have h2:=Txt.slice_le (Qcp how shift) (some ((how/33%11:Nat):Int)) none;refine(Qad ((QjO ((QkU (m:=how%3) (n:=2) (Qb1 (n:=3) (U1 rfl) Qaw ZzD) Qaw).trans (by rw[zX hw]))).trans ((Qad (QhE (Qef (i:=6) (n:=h.length) (us:=us.map W.str) (w:=.str (Qa6 how shift k)) rfl hcell ?_ rfl hul))).trans (by rw[exB])))).trans ?_;rw[en]
  exact Qbx (Qbx (Qbx (Qoa (U4 rfl) QnO (Qn9 (U5 rfl)) ZzL) (Qag (i:=8) rfl) (Qhk _ ZzL (by rw[QaP];decide))) (U9 rfl) (Qhk _ (by rw[QaB,QaP];lia) (by rw[QaP];decide)))
   (Qoa (U4 rfl) (Qn9 (U5 rfl)) QnO ZzL) (Qhk _ (by rw[QaB,QaB,QaP,QaP];lia) ZzL)
  rw[exB,hset];rfl;have en:Qa6 how shift k=Txt.mul (ltr ((k/12+shift)%26)) ((1+k%12:Nat):Int):=by unfold Qa6;rw[zM hw]
  refine(Qad ((if_f ((QkU (m:=how%3) (n:=2) (Qb1 (n:=3) (U1 rfl) Qaw ZzD) Qaw).trans (by rw[zV hw]))).trans ((Qad (QhE (Qef (i:=6) (n:=h.length) (us:=us.map W.str) (w:=.str (Qa6 how shift k)) rfl hcell ?_ rfl hul))).trans (by rw[exB])))).trans ?_;rw[en]
  exact Qbx (Qbr (U3 rfl) (Qb1 (n:=26) (Qcx (Qcv (n:=12) (U7 rfl) Qaw ZzD (lt9 ZzD)) (U2 rfl)) Qaw ZzD) (Qid (ZU _ ZzD) _))
   (Qcx (m:=1) Qaw (Qb1 (n:=12) (U7 rfl) Qaw ZzD)) (Qk2 _ (by rw[QaP];decide) ZzL)
  rw[exB,hset];rfl
theorem Qak:∀ss:List Str,Qaf (ss.map W.str)=true
 |[]=>rfl
 |s::ss=>by rw[zO,Qaf,Qak ss];rfl
theorem QgV(m how shift)(h)(hm:m<=1000)(hs:shift<100000):exB cf fw Qfu [some (nat m),some (nat how),some (nat shift),none,none,none,none,none,none,none] h=.ok (.ret (.ref h.length)) (h++[.lst (((List.range m).map (Qa6 how shift)).map W.str)]):=by obtain⟨r7,r8,r9,lp⟩:=Qes cf fw m how shift h (List.range m) [] none none none (by simp;lia) (λk hk=>by have:=ZF.mp hk;lia) hs;refine(Qad (QaU (Qbx (Qbr (U3 rfl) (Qb1 (n:=26) (Qcv (n:=26) (U2 rfl) Qaw ZzD (lt9 ZzD)) Qaw ZzD) (Qid (ZU _ ZzD) _)) (Qb1 (n:=11) (Qcv (n:=3) (U1 rfl) Qaw ZzD (lt9 ZzD)) Qaw ZzD) (Qk2 _ (by rw[QaP];decide) ZzL)))).trans ?_;refine(Qad (QaU (Qb1 (n:=11) (Qcv (n:=33) (U1 rfl) Qaw ZzD (lt9 ZzD)) Qaw ZzD))).trans ?_;refine(Qad (σ':=[some (nat m),some (nat how),some (nat shift),some (.str abc),some (.str (Qcp how shift)),some (nat (how/33%11)),some (.ref h.length),none,none,none]) (h':=h++[.lst []]) ?_).trans ?_;rfl;refine(Qad ((QfE (U0 rfl) ZzL).trans lp)).trans ?_;exact Qar (Qa7 (Qag (i:=6) rfl))
theorem QiO{fw:Nat}{tb:List Fn}{f:Nat}(hg:tb[f]?=some ⟨3,10,Qfu,none⟩)(d m how shift:Nat)(h:Qaa)(hm:m<=1000)(hs:shift<100000):Qab fw tb (d+1) f [nat m,nat how,nat shift] h=.ok (.lst (((List.range m).map (Qa6 how shift)).map W.str)) h:=by rw[Qac hg rfl];show J.fin h.length (exB (Qab fw tb d) fw Qfu [some (nat m),some (nat how),some (nat shift),none,none,none,none,none,none,none] h)=_;rw[QgV m how shift h hm hs];unfold J.fin;dsimp only;rw[unr];simp_all
theorem QhX{n:Nat}{src:Option Nat}{f:W->Qaa->Res (Option W)}{F:W->W}{h:Qaa}(hn:h.length=n)(hs:∀k,src=some k->k<n):∀(ws us:List W),(∀w∈ws,∀us,f w (h++[.lst us])=.ok (some (F w)) (h++[.lst us])/\Qah (F w)=true)->us.length+ws.length<=100000 ->
  lc n src f ws (h++[.lst us])=.ok () (h++[.lst (us++ws.map F)])
 |[],us,_,_=>by rw[lc];simp
 |w::ws,us,hf,hl=>by
  rw[z0]at hl;obtain⟨e,hp⟩:=hf w zN us;rw[lc,e,bnd_ok,zF (λk _=>rfl)];dsimp only;have hcell:(h++[Ob.lst us])[n]?=some (.lst us):=by simp_all
  rw[hcell];dsimp only;rw[zF ⟨hp,by rw[Zj];lia⟩];have hset:(h++[Ob.lst us]).set n (.lst (us++[F w]))=h++[.lst (us++[F w])]:=by simp_all
  rw[hset,QhX hn hs ws (us++[F w]) (λw' hw'=>hf w' (zB _ hw')) (by rw[zA,Zm];lia)];simp
theorem QcJ(hn:h.length=n):Qjb n (.ok () (h++[.lst us]))=.ok (.lst us) h:=by unfold Qjb;simp_all
theorem Qb3:∀ss,Qbu (ss.map W.str)=some ss
 |[]=>rfl
 |s::ss=>by show(Qbu (ss.map W.str)).map (s::·)=_;rw[Qb3 ss];rfl
theorem QhB{cf:CF}{a:E}{σ:Qai}{h:Qaa}{x:W}{ss:List Str}(ea:evE cf a σ h=.ok x h)(hx:seqA h x=some (ss.map W.str))(hl:ss.length<64):evE cf (.blt .sorted [a]) σ h=.ok (.lst ((Qng ltS ss).map W.str)) h:=by rw[evE,Qae ea Qan];show Qi9 x h=_;unfold Qi9;rw[hx];show(match Qbu (ss.map W.str) with|some ss=>if ss.length<64 then Res.ok (W.lst ((Qng ltS ss).map W.str)) h else .stuck|none=>.stuck)=_;rw[Qb3];simp_all
theorem QcU{cf:CF}{a:E}{σ:Qai}{h:Qaa}{us:List W}(ea:evE cf a σ h=.ok (.lst us) h):evE cf (.blt .tuple [a]) σ h=.ok (.tup us) h:=by rw[evE,Qae ea Qan];rfl
theorem Qh8{cf:CF}{is:List Nat}{n m:Nat}{a elt:E}{σ:Qai}{h:Qaa}{F:Nat->W}(ea:evE cf a σ h=.ok (nat m) h)(hm:m<=1000)
  (hF:∀k,k<m->Qah (F k)=true/\∀hh,QbN (QaL is (nat k) (clr is σ++List.replicate n none)) (evTs cf []) (evE cf elt) hh=.ok (some (F k)) hh):evE cf (.compR is n [a] [] elt) σ h=.ok (.lst ((List.range m).map F)) h:=by
 rw[evE,Qae ea Qan,bnd_ok]
 have hr:Qlj [nat m]=some ((List.range m).map λ(k:Nat)=>W.int (0+(k:Int))):=by have cc:-(2^62)<=((m:Nat):Int)/\((m:Nat):Int)<2^62:=ZzL;rw[Qb2];unfold Qjc;dsimp only;rw[zF cc,Zt]
 rw[hr]
 dsimp only
 rw[QhX (F:=λw=>match w with|.int i=>F i.toNat|_=>.non) rfl (λk e=>by cases e) _ [] ?_ (by simp;lia),QcJ rfl]
 ·simp
 simp_all
theorem Qfs{cf:CF}{bd:Option Qai}{σ:Qai}{elt:E}{h:Qaa}{w:W}(e:bd=some σ)(ee:evE cf elt σ h=.ok w h):QbN bd (evTs cf []) (evE cf elt) h=.ok (some w) h:=by subst e;unfold QbN;dsimp only;rw[evTs,bnd_ok,zF rfl,ee,bnd_ok]
theorem Qcd:∀ss:List Str,Qey (ss.map W.str)=true
 |[]=>rfl
 |s::ss=>by rw[zO,Qey,Qcd ss];rfl
theorem Qco:∀ss:List Str,Qex (ss.map W.str)=0
 |[]=>rfl
 |s::ss=>by rw[zO,Qex,Qco ss];rfl
theorem QhS{is:List Nat}{body:Qai->Qaa->Res Fl}{Iv:Nat->Qai->Qaa->Prop}:∀(ws:List W) (i:Nat) (σ:Qai) (h:Qaa),
  (∀j w σ h,ws[j]?=some w->Iv (i+j) σ h->∃σ1 σ2 h2,QaL is w σ=some σ1/\body σ1 h=.ok (.nx σ2) h2/\Iv (i+j+1) σ2 h2)->Iv i σ h->∃σ2 h2,fo is body ws σ h=.ok (.nx σ2) h2/\Iv (i+ws.length) σ2 h2
 |[],i,σ,h,_,q=>⟨σ,h,by rw[fo],q⟩
 |w::ws,i,σ,h,st,q=>by
  obtain⟨σ1,σ2,h2,e1,e2,q2⟩:=st 0 w σ h rfl q;obtain⟨σ3,h3,e3,q3⟩:=QhS ws (i+1) σ2 h2 (λj w σ h e q=>by
   have:=st (j+1) w σ h (by simpa using e) (by grind)
   rw[show i+(j+1)+1=i+1+j+1 by lia]at this
   exact this) q2
  exact⟨σ3,h3,(Qb0 e1 e2).trans e3,by grind⟩
theorem QjX{i n:Nat}{body:Qai->Qaa->Res Fl}{Iv:Nat->Qai->Qaa->Prop}{σ:Qai}{h:Qaa}(st:∀k σ h,k<n->Iv k σ h->∃σ2 h2,body (σ.set i (some (nat k))) h=.ok (.nx σ2) h2/\Iv (k+1) σ2 h2)(q:Iv 0 σ h) :
  ∃σ2 h2,fo [i] body ((List.range n).map λ(k:Nat)=>W.int (0+(k:Int))) σ h=.ok (.nx σ2) h2/\Iv n σ2 h2:=by
 have:=QhS (is:=[i]) (body:=body) (Iv:=Iv) ((List.range n).map λ(k:Nat)=>W.int (0+(k:Int))) 0 σ h (λj w σ h e q=>by
  have hj:j<n:=by
   have:=(ze.mp e).1
   simpa using this
  have ew:w=nat j:=by simp_all
  subst ew
  rw[ZV]at q ⊢
  obtain⟨σ2,h2,e2,q2⟩:=st j σ h hj q
  exact⟨_,σ2,h2,rfl,e2,q2⟩) q
 simpa using this
theorem Qg9{i:Nat}{body:Qai->Qaa->Res Fl}{σ:Qai}{h:Qaa}:∀(ws:List W) (r:Option W),(∀w∈ws,body (σ.set i (some w)) h=.ok (.nx (σ.set i (some w))) h)->∃r',fo [i] body ws (σ.set i r) h=.ok (.nx (σ.set i r')) h
 |[],r,_=>⟨r,rfl⟩
 |w::ws,r,st=>by obtain⟨r',e⟩:=Qg9 ws (some w) (λw' h'=>st w' (zB _ h'));refine⟨r',(Qb0  ?_ (st w zN)).trans e⟩;show some ((σ.set i r).set i (some w))=_;simp_all
noncomputable def nxS:List Str->List Str->Str->Option Str
 |k::ks,v::vs,x=>if k=x then some v else nxS ks vs x
 |_,_,_=>none
theorem QcT:∀ks vs x,QdG ks (vs.map W.str) x=(nxS ks vs x).map W.str
 |[],_,_=>rfl
 |_::_,[],_=>rfl
 |k::ks,v::vs,x=>by rw[zO];unfold QdG nxS;by_cases h:k=x;simp_all;rw[zM h,zM h];exact QcT ks vs x
theorem QeU:∀{ks vs:List Str}{x y:Str},nxS ks vs x=some y->y∈vs
 |[],_,_,_,h=>by cases h
 |_::_,[],_,_,h=>by cases h
 |k::ks,v::vs,x,y,h=>by unfold nxS at h;split at h;simp_all;exact zB _ (QeU h)
theorem Qfb:∀{ks:List Str}{ws:List W}{x:Str},ks.length=ws.length->((QdG ks ws x).isSome=true↔x∈ks)
 |[],_,_,_=>by unfold QdG;simp
 |_::_,[],_,h=>by cases h
 |k::ks,w::ws,x,h=>by
  unfold QdG
  by_cases e:k=x
  ·simp_all
  ·rw[zM e,Qfb (by simp_all)]
   grind
theorem Qiu:∀(ks vs:List Str) (x v:Str),∃us:List Str,QlM ks (vs.map W.str) x (.str v)=us.map W.str/\us.length=vs.length/\∀u∈us,u=v\/u∈vs
 |[],vs,_,_=>⟨vs,rfl,rfl,λu h=>.inr h⟩
 |_::_,[],_,_=>⟨[],rfl,rfl,λu h=>.inr h⟩
 |k::ks,w::vs,x,v=>by
  obtain⟨us,e1,e2,e3⟩:=Qiu ks vs x v
  refine⟨(if k=x then v else w)::us,?_,by simp_all,λu hu=>?_⟩
  ·rw[zO]
   unfold QlM
   grind
  grind
theorem Qnj(ks vs:List Str)(x v)(hl:ks.length=vs.length):∃ks' us:List Str,QdH ks (vs.map W.str) x (.str v)=(ks',us.map W.str)/\ks'.length=us.length/\ks'.length<=ks.length+1/\(∀u∈us,u=v\/u∈vs)/\(∀k∈ks',k=x\/k∈ks):=by
 unfold QdH
 split
 ·obtain⟨us,e1,e2,e3⟩:=Qiu ks vs x v
  grind
 ·refine⟨ks++[x],vs++[v],by rw[Zc];rfl,by simp[hl],ZzS,λu hu=>?_,λk hk=>?_⟩
  ·grind
  grind
theorem QnL{cf:CF}{a b:E}{σ:Qai}{h:Qaa}{x:Str}{y:W}{ks:List Str}{ws:List W}(ea:evE cf a σ h=.ok (.str x) h)(eb:evE cf b σ h=.ok y h)(ed:QaO h y=some (ks,ws)):evT cf (.cmp .In a b) σ h=.ok (QdG ks ws x).isSome h:=by refine QaX (Qbo ea eb ?_);show inW false (.str x) y h=_;unfold inW;rw[ed];rfl
theorem ev_niD{cf:CF}{a b:E}{σ:Qai}{h:Qaa}{x:Str}{y:W}{ks:List Str}{ws:List W}(ea:evE cf a σ h=.ok (.str x) h)(eb:evE cf b σ h=.ok y h)(ed:QaO h y=some (ks,ws)):evT cf (.cmp .NotIn a b) σ h=.ok (!(QdG ks ws x).isSome) h:=by refine QaX (Qbo ea eb ?_);show inW true (.str x) y h=_;unfold inW;rw[ed];rfl
noncomputable def Qa5(x:Str)(ss:List Str):Bool:=inV (toV (.str x)) ((ss.map W.str).map toV)
theorem Qbq:∀ss:List Str,(ss.map W.str).all Qc5=true
 |[]=>rfl
 |s::ss=>by rw[zO,ZB,Qbq ss];rfl
theorem Qdr{cf:CF}{a b:E}{σ:Qai}{h:Qaa}{x:Str}{y:W}{ss:List Str}(ea:evE cf a σ h=.ok (.str x) h)(eb:evE cf b σ h=.ok y h)(ed:QaO h y=none)(el:seqA h y=some (ss.map W.str)):evT cf (.cmp .NotIn a b) σ h=.ok (!Qa5 x ss) h:=by refine QaX (Qbo ea eb ?_);show inW true (.str x) y h=_;unfold inW;rw[ed,el];dsimp only;rw[zF (by rw[Qbq];rfl)];rfl
theorem ev_inL{cf:CF}{a b:E}{σ:Qai}{h:Qaa}{x:Str}{y:W}{ss:List Str}(ea:evE cf a σ h=.ok (.str x) h)(eb:evE cf b σ h=.ok y h)(ed:QaO h y=none)(el:seqA h y=some (ss.map W.str)):evT cf (.cmp .In a b) σ h=.ok (Qa5 x ss) h:=by refine QaX (Qbo ea eb ?_);show inW false (.str x) y h=_;unfold inW;rw[ed,el];dsimp only;rw[zF (by rw[Qbq];rfl)];rfl
theorem QnN{cf:CF}{a b:E}{σ:Qai}{h:Qaa}{x:Str}{y w:W}{ks:List Str}{ws:List W}(ea:evE cf a σ h=.ok y h)(eb:evE cf b σ h=.ok (.str x) h)(ed:QaO h y=some (ks,ws))(eg:QdG ks ws x=some w):evE cf (.ix a b) σ h=.ok w h:=by refine Qbr ea eb ?_;unfold ixW;simp_all
theorem QnC{cf:CF}{a b:E}{σ:Qai}{h:Qaa}{x y:Str}(ea:evE cf a σ h=.ok (.str x) h)(eb:evE cf b σ h=.ok (.str y) h):evT cf (.cmp .NotEq a b) σ h=.ok (!decide (x=y)) h:=QaX (Qbo ea eb rfl)
theorem QnV{cf:CF}{a b:E}{σ:Qai}{h:Qaa}{x y:Str}(ea:evE cf a σ h=.ok (.str x) h)(eb:evE cf b σ h=.ok (.str y) h):evE cf (.cmp .Eq a b) σ h=.ok (.bl (decide (x=y))) h:=Qbo ea eb rfl
theorem ev_neN{cf:CF}{a b:E}{m n:Nat}{σ:Qai}{h:Qaa}(ea:evE cf a σ h=.ok (nat m) h)(eb:evE cf b σ h=.ok (nat n) h):evT cf (.cmp .NotEq a b) σ h=.ok (!decide (m=n)) h:=by
 refine QaX ((Qbo ea eb (QnT _ _ _)).trans ?_)
 congr 3
 grind
theorem Qqe{cf:CF}{fw i n:Nat}{k e:E}{σ:Qai}{h:Qaa}{ks:List Str}{ws:List W}{x:Str}{w:W}(hs:σ[i]?=some (some (.ref n)))(hn:h[n]?=some (.dic ks ws))(ek:evE cf k σ h=.ok (.str x) h)(ee:evE cf e σ h=.ok w h)(hp:Qah w=true)(hz:ks.length<=1000000) :
  exS cf fw (.setix (.var i) k e) σ h=.ok (.nx σ) (h.set n (.dic (QdH ks ws x w).1 (QdH ks ws x w).2)):=by
 rw[exS,ee,bnd_ok,Qag hs,bnd_ok,ek,bnd_ok]
 dsimp only
 rw[hn]
 dsimp only
 rw[zF ⟨hp,zQ hz ZzD⟩]
theorem Qa3{h:Qaa}{o:Ob}:(h++[o])[h.length]?=some o:=ZzS
theorem Qcg{h:Qaa}{o o':Ob}:(h++[o]).set h.length o'=h++[o']:=ZzS
theorem QkF:J.fin h.length (.ok (.ret (.ref h.length)) (h++[.lst ws]))=.ok (.lst ws) h:=by unfold J.fin;dsimp only;rw[unr,Qa3];simp
theorem QgE{h:Qaa}{o:Qaa}{s:Str}:J.fin h.length (.ok (.ret (.str s)) (h++o))=.ok (.str s) h:=by unfold J.fin;dsimp only;rw[QaT (.str s) rfl];simp
noncomputable abbrev Qct:Str:="CROWN"
noncomputable def QgX(nx:Str->Option Str)(dead:Str->Bool):Nat->List Str->Str->Str
 |0,_,_=>Qct
 |n+1,qs,x=>match nx x with
  |none=>Qct
  |some y=>if y∈qs then Qct else if dead y=false then y else QgX nx dead n (qs++[y]) y
noncomputable def Qd2(nx:Str->Option Str)(dead:Str->Bool)(name:Str):Nat->Str->Str
 |0,_=>Qct
 |n+1,x=>match nx x with
  |none=>Qct
  |some y=>if y≠name/\dead y=false then y else Qd2 nx dead name n y
theorem QeG{nx:Str->Option Str}{dead:Str->Bool}{name:Str}{qs:List Str}(hn:∀q∈qs,∃y,nx q=some y/\y∈qs)(hd:∀q∈qs,q=name\/dead q=true):∀(n:Nat) (x:Str),x∈qs->Qd2 nx dead name n x=Qct
 |0,_,_=>rfl
 |n+1,x,hx=>by
  obtain⟨y,e,hy⟩:=hn x hx
  unfold Qd2
  rw[e]
  dsimp only
  rw[zM]
  ·exact QeG hn hd n y hy
  grind
theorem QbH:∀{qs P:List Str},qs.Nodup->(∀q∈qs,q∈P)->qs.length<=P.length
 |[],_,_,_=>ZQ _
 |q::qs,P,nd,hs=>by
  rw[ZR]at nd
  have h2:=QbH (P:=P.erase q) nd.2 (λr hr=>(List.mem_erase_of_ne (by grind)).mpr (hs r (zB _ hr)))
  grind
theorem Qlx{nx:Str->Option Str}{dead:Str->Bool}{name:Str}{P:List Str}{m:Nat}(hP:P.length<=m)(hv:∀x y,nx x=some y->y∈P):∀(n k:Nat) (qs:List Str) (x:Str),qs.Nodup->(∀q∈qs,q∈P)->x∈qs->name∈qs->(∀q∈qs,q=name\/dead q=true)->(∀q∈qs,q≠x->∃y,nx q=some y/\y∈qs)->m+1<=n+qs.length->m+1<=k+qs.length->QgX nx dead n qs x=Qd2 nx dead name k x
 |0,k,qs,x,nd,hs,hx,hnm,hd,hc,hn,hk=>by
  have:=QbH nd hs
  lia
 |n+1,0,qs,x,nd,hs,hx,hnm,hd,hc,hn,hk=>by
  have:=QbH nd hs
  lia
 |n+1,k+1,qs,x,nd,hs,hx,hnm,hd,hc,hn,hk=>by
  unfold QgX
  cases e:nx x with
  |none=>unfold Qd2;rw[e]
  |some y =>
   dsimp only
   by_cases hy:y∈qs
   ·rw[zF hy]
    refine(QeG (qs:=qs) (λq hq=>?_) hd (k+1) x hx).symm
    by_cases hq2:q=x
    ·subst hq2;exact⟨y,e,hy⟩
    ·exact hc q hq hq2
   ·rw[zM hy]
    unfold Qd2
    rw[e]
    dsimp only
    have yn:y≠name:=by rintro rfl;exact hy hnm
    by_cases dy:dead y=false
    ·rw[zF dy,zF ⟨yn,dy⟩]
    ·rw[zM dy,zM (λz=>dy z.2)]
     have dy':dead y=true:=by cases h:dead y<;>simp_all
     refine Qlx hP hv n k (qs++[y]) y ?_ ?_ ZzS (by simp[hnm]) ?_ ?_ (by simp;lia) (by simp;lia)
     ·rw[Zw]
      exact⟨nd,ZzS,λa ha b hb=>by rw[zP.mp hb];rintro rfl;exact hy ha⟩
     ·intro q hq
      rcases Za.mp hq with hq|hq
      ·exact hs q hq
      ·rw[zP.mp hq];exact hv x y e
     ·grind
     ·intro q hq hq2
      rcases Za.mp hq with hq|hq
      ·by_cases h3:q=x
       ·subst h3;exact⟨y,e,ZzS⟩
       ·obtain⟨z,z1,z2⟩:=hc q hq h3
        exact⟨z,z1,Ze _ z2⟩
      ·exact absurd (zP.mp hq) hq2
noncomputable abbrev QkN : List S := [.asg 4 (.ix V1 V4),
 .if_ (.cmp .In V4 V3) [.ret (.con (.str "CROWN"))] [],
 .if_ (.cmp .NotIn V4 V2) [.ret V4] [],
 .setix V3 V4 (.con (.bl true))]
noncomputable abbrev QdY : List S := [.freshD1 3 V0 (.con (.bl true)),
 .asg 4 V0,
 .while_ (.cmp .In V4 V1) QkN,
 .ret (.con (.str "CROWN"))]
noncomputable abbrev QfR : List S := [.if_ (.cmp .NotIn V3 V1) [.ret (.con (.str "CROWN"))] [],
 .asg 3 (.ix V1 V3),
 .if_ (.and_ (.cmp .NotEq V3 V0) (.cmp .NotIn V3 V2)) [.ret V3] []]
noncomputable abbrev QdU : List S := [.asg 3 V0,
 .for_ [4] (.rng [(.con (.int 31))]) QfR,
 .ret (.con (.str "CROWN"))]
theorem Qly{is:List Nat}{body:Qai->Qaa->Res Fl}{w:W}{ws:List W}{σ σ1:Qai}{h h2:Qaa}{u:W}(hb:QaL is w σ=some σ1)(e:body σ1 h=.ok (.ret u) h2):fo is body (w::ws) σ h=.ok (.ret u) h2:=by rw[fo,hb];dsimp only;rw[e];rfl
theorem QnM(ht:test σ h=.ok true h1)(hb:body σ h1=.ok (.ret u) h2):wh test body (n+1) σ h=.ok (.ret u) h2:=by rw[wh,ht,bnd_ok,hb];rfl
theorem Qgc{cf:CF}{fw:Nat}{name:Str}{ks vs dead:List Str}{h:Qaa}{yd:W}(hY:QaO h yd=some (ks,vs.map W.str)):∀(js:List Nat) (x:Str) (r:Option W),∃fl,
  fo [4] (exB cf fw QfR) (js.map λ(k:Nat)=>W.int (0+(k:Int))) [some (.str name),some yd,some (.lst (dead.map W.str)),some (.str x),r] h=.ok fl h
   /\ (fl=.ret (.str (Qd2 (nxS ks vs) (λy=>Qa5 y dead) name js.length x))\/((∃σ',fl=.nx σ')/\Qd2 (nxS ks vs) (λy=>Qa5 y dead) name js.length x=Qct))
 |[],x,r=>⟨_,by rw[Zy,fo],.inr ⟨⟨_,rfl⟩,rfl⟩⟩
 |j::js,x,r=>by
  let σ1:Qai:=[some (.str name),some yd,some (.lst (dead.map W.str)),some (.str x),some (.int (0+(j:Int)))];have t0:=ev_niD (cf:=cf) (σ:=σ1) (h:=h) (a:=.var 3) (b:=.var 1) (x:=x) (ks:=ks) (ws:=vs.map W.str) (Qag rfl) (Qag rfl) hY;rw[QcT]at t0;rw[zO,z0];unfold Qd2;cases e:nxS ks vs x with
  |none=>rw[e]at t0;refine⟨_,Qly (σ1:=σ1) rfl (Qar ((QjO t0).trans (Qar (Qa7 Qao)))),.inl rfl⟩
  |some y=>
   rw[e]at t0;let σ2:Qai:=[some (.str name),some yd,some (.lst (dead.map W.str)),some (.str y),some (.int (0+(j:Int)))];have d1:QdG ks (vs.map W.str) x=some (.str y):=by rw[QcT,e];rfl
   have s1:∀bd,exB cf fw QfR σ1 h=bd↔exB cf fw [.if_ (.and_ (.cmp .NotEq V3 V0) (.cmp .NotIn V3 V2)) [.ret V3] []] σ2 h=bd:=λbd=>by rw[show exB cf fw QfR σ1 h=exB cf fw [.if_ (.and_ (.cmp .NotEq V3 V0) (.cmp .NotIn V3 V2)) [.ret V3] []] σ2 h from(Qad (Qd1 t0)).trans (Qad (QaU (QnN (U1 rfl) (U3 rfl) hY d1)))]
   have t1:=QnC (cf:=cf) (σ:=σ2) (h:=h) (a:=.var 3) (b:=.var 0) (x:=y) (y:=name) (Qag rfl) (Qag rfl);have t2:=Qdr (cf:=cf) (σ:=σ2) (h:=h) (a:=.var 3) (b:=.var 2) (x:=y) (ss:=dead) (Qag rfl) (Qag rfl) rfl rfl;dsimp only;by_cases hy:y≠name/\Qa5 y dead=false;rw[zF hy];rw[zV hy.1]at t1;rw[hy.2]at t2;exact⟨_,Qly (σ1:=σ1) rfl ((s1 _).mpr (Qar ((QjO (Qg2 t1 t2)).trans (Qar (Qa7 (U3 rfl)))))),.inl rfl⟩;rw[zM hy];obtain⟨fl,e3,q3⟩:=Qgc (cf:=cf) (fw:=fw) (name:=name) (ks:=ks) (vs:=vs) (dead:=dead) (h:=h) hY js y (some (.int (0+(j:Int))));refine⟨fl,(Qb0 (σ1:=σ1) rfl ((s1 _).mpr ?_)).trans e3,q3⟩;refine(Qad (Qd1 ?_)).trans (by rw[exB]);by_cases hn:y=name;rw[zX hn]at t1;exact Qkw t1;rw[zV hn]at t1;have:Qa5 y dead=true:=by simp_all
   rw[this]at t2;exact Qg2 t1 t2
theorem QjG{fw:Nat}{tb:List Fn}{f:Nat}(hg:tb[f]?=some ⟨3,5,QdU,none⟩)(d:Nat)(name:Str)(ks vs dead:List Str)(h:Qaa)(yd:W)(hY:QaO h yd=some (ks,vs.map W.str)) :
  Qab fw tb (d+1) f [.str name,yd,.lst (dead.map W.str)] h=.ok (.str (Qd2 (nxS ks vs) (λy=>Qa5 y dead) name 31 name)) h:=by
 rw[Qac hg rfl]
 obtain⟨fl,e,q⟩:=Qgc (cf:=Qab fw tb d) (fw:=fw) (name:=name) (ks:=ks) (vs:=vs) (dead:=dead) (h:=h) hY (List.range 31) name none
 show J.fin h.length (exB (Qab fw tb d) fw QdU [some (.str name),some yd,some (.lst (dead.map W.str)),none,none] h)=_
 have s1:exB (Qab fw tb d) fw QdU [some (.str name),some yd,some (.lst (dead.map W.str)),none,none] h=.ok (.ret (.str (Qd2 (nxS ks vs) (λy=>Qa5 y dead) name 31 name))) h:=by refine(Qad (QaU (U0 rfl))).trans ?_;have lp:=(QfE (cf:=Qab fw tb d) (fw:=fw) (is:=[4]) (e:=.con (.int 31)) (b:=QfR)  (h:=h) (n:=31) Qao ZzD).trans e;rcases q with rfl|⟨⟨σ',rfl⟩,q⟩;exact Qar lp;refine(Qad lp).trans (Qar (Qa7 ?_));rw[ZX]at q;rw[q];exact Qao
 rw[s1]
 exact QgE (o:=[]) |> λz=>by rw[Zf]at z;exact z
theorem QmW{fw:Nat}{tb:List Fn}{f:Nat}(hg:tb[f]?=some ⟨3,5,QdU,none⟩)(d:Nat)(name:Str)(ks vs dead:List Str)(h:Qaa) :
 Qab fw tb (d+1) f [.str name,.dic ks (vs.map W.str),.lst (dead.map W.str)] h=.ok (.str (Qd2 (nxS ks vs) (λy=>Qa5 y dead) name 31 name)) h:=QjG hg d name ks vs dead h _ rfl
theorem Qm9:∀{qs:List Str}{ws:List W}{x:Str}{w:W},x∉qs->QdH qs ws x w=(qs++[x],ws++[w]):=by unfold QdH;simp_all
theorem Qib{dW:W}{cf:CF}{fw:Nat}{name:Str}{ks vs dead P:List Str}{m:Nat}{h:Qaa}(hdW:∀o,QaO (h++[o]) dW=none/\seqA (h++[o]) dW=some (dead.map W.str))(hP:P.length<=m)(hv:∀y∈vs,y∈P)(hl:ks.length=vs.length):∀(n:Nat) (qs:List Str) (bs:List W) (x:Str),qs.Nodup->(∀q∈qs,q∈P)->qs.length=bs.length->m+1<=n+qs.length->qs.length<=1000->m<=1000->∃fl c,
  wh (evT cf (.cmp .In V4 V1)) (exB cf fw QkN) n [some (.str name),some (.dic ks (vs.map W.str)),some dW,some (.ref h.length),some (.str x)] (h++[.dic qs bs])=.ok fl (h++[c])
   /\ (fl=.ret (.str (QgX (nxS ks vs) (λy=>Qa5 y dead) n qs x))\/((∃σ',fl=.nx σ')/\QgX (nxS ks vs) (λy=>Qa5 y dead) n qs x=Qct))
 |0,qs,bs,x,nd,hs,hb,hn,hz,hm=>by
  have:=QbH nd hs
  lia
 |n+1,qs,bs,x,nd,hs,hb,hn,hz,hm=>by
  let σ1:Qai:=[some (.str name),some (.dic ks (vs.map W.str)),some dW,some (.ref h.length),some (.str x)];let h1:Qaa:=h++[.dic qs bs];have t0:=QnL (cf:=cf) (σ:=σ1) (h:=h1) (a:=.var 4) (b:=.var 1) (x:=x) (ks:=ks) (ws:=vs.map W.str) (Qag rfl) (Qag rfl) rfl;rw[QcT]at t0;unfold QgX;cases e:nxS ks vs x with
  |none=>rw[e]at t0;exact⟨_,_,QdO t0,.inr ⟨⟨_,rfl⟩,rfl⟩⟩
  |some y=>
   rw[e]at t0;have yP:y∈P:=hv y (QeU e);let σ2:Qai:=[some (.str name),some (.dic ks (vs.map W.str)),some dW,some (.ref h.length),some (.str y)];have d1:QdG ks (vs.map W.str) x=some (.str y):=by rw[QcT,e];rfl
   have dc:QaO h1 (.ref h.length)=some (qs,bs):=by show(match h1[h.length]? with|some (.dic ks ws)=>some (ks,ws)|_=>none)=_;rw[show h1[h.length]?=some (.dic qs bs) from Qa3]
   have a0:exS cf fw (.asg 4 (.ix V1 V4)) σ1 h1=.ok (.nx σ2) h1:=QaU (QnN (U1 rfl) (U4 rfl) rfl d1);have t1:=QnL (cf:=cf) (σ:=σ2) (h:=h1) (a:=.var 4) (b:=.var 3) (x:=y) (Qag rfl) (Qag rfl) dc;have t2:=Qdr (cf:=cf) (σ:=σ2) (h:=h1) (a:=.var 4) (b:=.var 2) (x:=y) (ss:=dead) (Qag rfl) (Qag rfl) (hdW _).1 (hdW _).2;dsimp only;by_cases hy:y∈qs;rw[zF hy];rw[(Qfb hb).mpr hy]at t1;exact⟨_,_,QnM t0 ((Qad a0).trans (Qar ((QjO t1).trans (Qar (Qa7 Qao))))),.inl rfl⟩;rw[zM hy];have d2:(QdG qs bs y).isSome=false:=by cases q:(QdG qs bs y).isSome;rfl;exact absurd ((Qfb hb).mp q) hy
   rw[d2]at t1;by_cases dy:Qa5 y dead=false;rw[zF dy];rw[dy]at t2;exact⟨_,_,QnM t0 ((Qad a0).trans ((Qad (Qd1 t1)).trans (Qar ((QjO t2).trans (Qar (Qa7 (U4 rfl))))))),.inl rfl⟩;rw[zM dy];have dy':Qa5 y dead=true:=by cases q:Qa5 y dead<;>simp_all
   rw[dy']at t2;have nd':(qs++[y]).Nodup:=by rw[Zw];exact⟨nd,ZzS,λa ha b hb=>by rw[zP.mp hb];rintro rfl;exact hy ha⟩
   have hs':∀q∈qs++[y],q∈P:=λq hq=>by rcases Za.mp hq with hq|hq;exact hs q hq;rw[zP.mp hq];exact yP
   have lq:=QbH nd' hs';rw[zA,Zm]at lq;obtain⟨fl,c,e3,q3⟩:=Qib (cf:=cf) (fw:=fw) (name:=name) (dead:=dead) (h:=h) hdW hP hv hl n (qs++[y]) (bs++[.bl true]) y nd' hs' (by simp[hb]) (by simp;lia) (by simp;lia) hm;refine⟨fl,c,(QeS t0 ((Qad a0).trans ((Qad (Qd1 t1)).trans ((Qad (Qd1 t2)).trans ((Qad (Qqe (i:=3) (n:=h.length) rfl Qa3 (U4 rfl) Qao rfl ZzL)).trans ?_))))).trans e3,q3⟩;rw[exB,Qm9 hy,Qcg]
theorem Qnf{fw:Nat}{tb:List Fn}{f:Nat}(hg:tb[f]?=some ⟨3,5,QdY,none⟩)(d:Nat)(name:Str)(ks vs dead P:List Str)(h:Qaa)(dW:W)(hdW:∀o,QaO (h++[o]) dW=none/\seqA (h++[o]) dW=some (dead.map W.str))(hP:P.length<=30)(hn:name∈P)(hv:∀y∈vs,y∈P)(hl:ks.length=vs.length)(hw:31<=fw) :
  Qab fw tb (d+1) f [.str name,.dic ks (vs.map W.str),dW] h=.ok (.str (Qd2 (nxS ks vs) (λy=>Qa5 y dead) name 31 name)) h:=by
 rw[Qac hg rfl]
 have nd:([name]:List Str).Nodup:=ZzS
 obtain⟨fl,c,e,q⟩:=Qib  (fw:=fw) (name:=name) (ks:=ks) (vs:=vs) (dead:=dead) (P:=P) (m:=30) (h:=h) hdW hP hv hl fw [name] [.bl true] name nd (by simp[hn]) rfl (by simp;lia) ZzS (Nat.le_add_left ..)
 have hq:QgX (nxS ks vs) (λy=>Qa5 y dead) fw [name] name=Qd2 (nxS ks vs) (λy=>Qa5 y dead) name 31 name :=
  Qlx hP (λx y e=>hv y (QeU e)) fw 31 [name] name nd (by simp[hn]) ZzS ZzS ZzS (λq hq hq2=>absurd (zP.mp hq) hq2) (by simp;lia) ZzS
 rw[hq]at q
 show J.fin h.length (exB (Qab fw tb d) fw QdY [some (.str name),some (.dic ks (vs.map W.str)),some dW,none,none] h)=_
 have s1:exB (Qab fw tb d) fw QdY [some (.str name),some (.dic ks (vs.map W.str)),some dW,none,none] h=.ok (.ret (.str (Qd2 (nxS ks vs) (λy=>Qa5 y dead) name 31 name))) (h++[c]):=by
  refine(Qad (σ':=[some (.str name),some (.dic ks (vs.map W.str)),some dW,some (.ref h.length),none]) (h':=h++[.dic [name] [.bl true]]) ?_).trans ?_;rw[exS,Qag (i:=0) (w:=.str name) rfl,bnd_ok,Qao,bnd_ok];rw[Qa3];dsimp only;rw[Qcg];rfl;refine(Qad (QaU (U0 rfl))).trans ?_;have lp:exS (Qab fw tb d) fw (.while_ (.cmp .In V4 V1) QkN) [some (.str name),some (.dic ks (vs.map W.str)),some dW,some (.ref h.length),some (.str name)] (h++[.dic [name] [.bl true]])=.ok fl (h++[c]):=by rw[exS];exact e
  rcases q with rfl|⟨⟨σ',rfl⟩,q⟩;exact Qar lp;refine(Qad lp).trans (Qar (Qa7 ?_));rw[q];exact Qao
 rw[s1]
 exact QgE
theorem QoS(e:evT cf a σ h=.ok x h)(e2:evT cf b σ h=.ok y h):evT cf (.or_ a b) σ h=.ok (x||y) h:=by
 cases x with
 |true=>exact QlP e
 |false=>exact Qn7 e e2
theorem ev_gtN{cf:CF}{a b:E}{m n:Nat}{σ:Qai}{h:Qaa}(ea:evE cf a σ h=.ok (nat m) h)(eb:evE cf b σ h=.ok (nat n) h):evT cf (.cmp .Gt a b) σ h=.ok (decide (n<m)) h:=by refine QaX ((Qbo ea eb (QjA _ _ _)).trans ?_);simp_all
theorem QgY{cf:CF}{a:E}{σ:Qai}{h:Qaa}{us:List W}(ea:evE cf a σ h=.ok (.lst us) h):evE cf (.blt .list [a]) σ h=.ok (.lst us) h:=by rw[evE,Qae ea Qan];rfl
theorem Qoz{cf:CF}{a b:E}{m n:Nat}{σ:Qai}{h:Qaa}(ea:evE cf a σ h=.ok (nat m) h)(eb:evE cf b σ h=.ok (nat n) h):evE cf (.cmp .Eq a b) σ h=.ok (.bl (decide (m=n))) h:=by refine(Qbo ea eb (Qoi _ _ _)).trans ?_;congr 2;exact decide_eq_decide.mpr ZzL
theorem Qej{n:Nat}{src:Option Nat}{f:W->Qaa->Res (Option W)}{p:Str->Bool}{h:Qaa}(hn:h.length=n):∀(ss us:List Str),(∀s∈ss,∀us,f (.str s) (h++[.lst us])=.ok (if p s then some (.str s) else none) (h++[.lst us]))->us.length+ss.length<=100000 ->
  lc n src f (ss.map W.str) (h++[.lst (us.map W.str)])=.ok () (h++[.lst ((us++ss.filter p).map W.str)])
 |[],us,_,_=>by rw[Zy,lc];simp
 |s::ss,us,hf,hl=>by
  rw[z0]at hl
  have e:=hf s zN (us.map W.str)
  rw[zO,lc,e,bnd_ok,zF (λk _=>rfl)]
  cases hp:p s with
  |false =>
   rw[zM ZzD]
   dsimp only
   rw[Qej hn ss us (λw' hw'=>hf w' (zB _ hw')) ZzL,List.filter_cons_of_neg (by rw[hp];decide)]
  |true =>
   rw[zF rfl]
   dsimp only
   rw[<- hn,Qa3]
   dsimp only
   rw[zF ⟨rfl,by rw[Zj,zo];lia⟩,Qcg]
   have:=Qej (src:=src) rfl ss (us++[s]) (λw' hw'=>hf w' (zB _ hw')) (by rw[zA,Zm];lia)
   grind
theorem Qq3{fw:Nat}{tb:List Fn}{f:Nat}(hg:tb[f]?=some ⟨3,5,QdY,none⟩)(d:Nat)(name:Str)(ks vs dead P:List Str)(h:Qaa)(hP:P.length<=30)(hn:name∈P)(hv:∀y∈vs,y∈P)(hl:ks.length=vs.length)(hw:31<=fw) :
  Qab fw tb (d+1) f [.str name,.dic ks (vs.map W.str),.lst (dead.map W.str)] h=.ok (.str (Qd2 (nxS ks vs) (λy=>Qa5 y dead) name 31 name)) h :=
 Qnf hg d name ks vs dead P h _ (λo=>⟨rfl,rfl⟩) hP hn hv hl hw
def smC(s:Str):Prop:=∀c∈s.cps.toList,c<1000
theorem QgP(ha:smC a)(hb:smC b):smC (a++b):=λc hc=>by
 have e:(a++b).cps.toList=a.cps.toList++b.cps.toList:=by show(a.cps++b.cps).toList=_;simp
 rw[e]at hc;exact(Za.mp hc).elim (ha c) (hb c)
theorem QfP(ha:smC a):smC (Txt.slice a l u):=λc hc=>by unfold Txt.slice at hc;split at hc;exact ha c hc;obtain⟨i,_,e⟩:=zzv.mp hc;exact ha c (zzL.mpr (Array.mem_of_getElem? e))
theorem QgO(ha:smC a):smC (Txt.mul a n):=λc hc=>by
 unfold Txt.mul at hc;split at hc;cases hc;split at hc;exact ha c hc;have:∀(l:List (Array Nat)) (acc:Array Nat),(∀x∈l,x=a.cps)->(∀c∈acc.toList,c<1000)->∀c∈(l.foldl (λx1 x2=>x1++x2) acc).toList,c<1000:=by
  intro l;induction l with
  |nil=>simp
  |cons x l ih=>intro acc hx h;refine ih (acc++x) (λy hy=>hx y (zB _ hy)) λc hc=>?_;rw[Array.toList_append]at hc;rcases Za.mp hc with hc|hc;exact h c hc;rw[hx x zN]at hc;exact ha c hc
 exact this _ #[] (λx hx=>(List.mem_replicate.mp hx).2) ZzS c hc
theorem Qev(n):smC (ltr n):=λc hc=>by
 have e:c=abc.cps.toList.getD n 0:=by simpa [ltr] using hc
 rw[e,List.getD];cases h:abc.cps.toList[n]? with
 |none=>simp
 |some x=>have:∀y∈abc.cps.toList,y<1000:=ZzD;exact this x (zC h)
theorem QmQ(how shift k):smC (Qa6 how shift k):=by unfold Qa6;split;exact QgP (QgP (QgP (QfP (QgO (Qev _))) (Qev _)) (Qev _)) (QfP (QgO (Qev _)));exact QgO (Qev _)
def QaI(s:Str):Prop:=s.length<=100/\smC s
theorem QpU(how shift k):QaI (Qa6 how shift k):=⟨zf (Qmq how shift k) ZzS,QmQ how shift k⟩
theorem Qnt:QaI Qct:=⟨ZzD,by unfold smC;decide⟩
theorem fp_rep{σ:Qai}{i:Nat}{s:Str}(e:σ[i]?=some (some (.str s)))(h:QaI s):fpW σ (.rep i)=true:=by unfold fpW;dsimp only;rw[e,zE];exact⟨zX (zf h.1 ZzS),Z5.mpr λc hc=>zX (h.2 c hc)⟩
theorem fp_int{σ:Qai}{i:Nat}{z:Int}(e:σ[i]?=some (some (.int z)))(h:z.natAbs<10^100):fpW σ (.var i)=true:=by unfold fpW;simp_all
theorem Qda{t:W}{ws:List W}{h:Qaa}{k:Nat}{w:W}(hs:seqA h t=some ws)(e:ws[k]?=some w):ixW t (nat k) h=.ok w h:=by
 have z:∀(t:W),seqA h t=some ws->(match seqA h t with|some ws=>(match L2.atI ws ((k)) with|some w=>Res.ok w h|none=>.stuck)|none=>.stuck)=.ok w h:=λt ht=>by rw[ht];dsimp only;rw[Qfl,e]
 cases t with
 |str x=>cases hs
 |_=>exact z _ hs
theorem QdZ(h:k<n):L2.ixN n (k)=some k:=by unfold L2.ixN;simp_all
theorem Qi1{cf:CF}{a:E}{n:Nat}{σ:Qai}{h h1:Qaa}(ea:evE cf a σ h=.ok (nat n) h1)(hn:1<=n):evE cf (.bin .Sub a (.con (.int 1))) σ h=.ok (nat (n-1)) h1:=by
 refine(Qbx ea Qao (Qoo _ _ _)).trans ?_
 grind
theorem Qbn(e:exS cf fw s σ h=.exc c h'):exB cf fw (s::ss) σ h=.exc c h':=by rw[exB,e];rfl
theorem QcR(hp:ps.all (fpW σ)=true):exS cf fw (.raise c ps) σ h=.exc c h:=by rw[exS,zF hp]
theorem Qof(ea:evE cf a σ h=.ok (.int x) h)(eb:evE cf b σ h=.ok (.int y) h):evT cf (.cmp .Gt a b) σ h=.ok (decide (y<x)) h:=QaX (Qbo ea eb (QjA _ _ _))
theorem ev_ltI(ea:evE cf a σ h=.ok (.int x) h)(eb:evE cf b σ h=.ok (.int y) h):evT cf (.cmp .Lt a b) σ h=.ok (decide (x<y)) h:=QaX (Qbo ea eb (Qhy _ _ _))
theorem Qcb{cf:CF}{i n:Nat}{a c:E}{σ:Qai}{h:Qaa}{x:W}{ss:List Str}{p:Str->Bool}(ea:evE cf a σ h=.ok x h)(hs:seqA h x=some (ss.map W.str))(hm:ss.length<=1000)
  (hF:∀s∈ss,∀hh,evT cf c ((clr [i] σ++List.replicate n none).set i (some (.str s))) hh=.ok (p s) hh) (hi:i<σ.length+n):evE cf (.compS [i] n a [c] (.var i)) σ h=.ok (.lst ((ss.filter p).map W.str)) h:=by
 rw[evE,ea,bnd_ok,QjT hs]
 dsimp only
 have:=Qej  (src:=Qho x) (f:=λw h=>QbN (QaL [i] w (clr [i] σ++List.replicate n none)) (evTs cf [c]) (evE cf (.var i)) h) (p:=p) (h:=h) rfl ss [] (λs hs us=>by
  have t:=hF s hs (h++[.lst us])
  show bnd (evTs cf [c] _ _) _=_
  rw[evTs]
  have t':tst (evE cf c ((clr [i] σ++List.replicate n none).set i (some (.str s))) (h++[.lst us]))=.ok (p s) (h++[.lst us]):=t
  rw[t',bnd_ok]
  cases hp:p s with
  |false=>rfl
  |true =>
   rw[zF rfl,evTs,bnd_ok,zF rfl,zF rfl,Qag (w:=.str s),bnd_ok]
   rw[zZ]
   simp[clr]
   lia) (by simp;exact zf ‹_› ZzD)
 rw[Zy]at this
 rw[this,QcJ rfl,zzf]
structure Pt where
 p:Nat
 q:Nat
 hs:List Str
 tr:List W
noncomputable def bhW(tr:List W)(dd nn:Nat)(s:Nat×Nat)(hs:List Str):W:=.tup [shp s,.tup (hs.map W.str),.tup (tr++[.tup [nat dd,nat nn,shp s,.tup (hs.map W.str)]])]
noncomputable def ptW(x:Pt):W:=.tup [sh x.p x.q,.tup (x.hs.map W.str),.tup x.tr]
structure Pt.Ok (x:Pt):Prop where
 q0:0<x.q
 p1:x.p<=1000
 q1:x.q<=1000
 h0:1<=x.hs.length
 h1:x.hs.length<=6
 nm:∀s∈x.hs,QaI s
 pu:Qaf x.tr=true
 oq:Qey x.tr=true
 dp:Qex x.tr<=4
 tl:x.tr.length<=100
theorem Qf2:∀{a b:List W},Qey a=true->Qey b=true->Qey (a++b)=true
 |[],_,_,h=>h
 |w::a,b,h1,h2=>by rw[Qey,zE]at h1;show Qey (w::(a++b))=true;rw[Qey,h1.1,Qf2 h1.2 h2];rfl
theorem QkM:Nat.max a b<=n↔a<=n/\b<=n:=Nat.max_le
theorem Qfe:∀{a b:List W}{n:Nat},Qex a<=n->Qex b<=n->Qex (a++b)<=n
 |[],_,_,_,h=>h
 |w::a,b,n,h1,h2=>by rw[Qex,QkM]at h1;show Qex (w::(a++b))<=n;rw[Qex,QkM];exact⟨h1.1,Qfe h1.2 h2⟩
theorem Qax{tr:List W}{dd nn:Nat}{s:Nat×Nat}{hs:List Str}(h:Qaf tr=true):Qah (bhW tr dd nn s hs)=true:=by have:Qaf (tr++[.tup [nat dd,nat nn,shp s,.tup (hs.map W.str)]])=true:=QdF h (by simp[Qah,Qaf,Qak]);simp[bhW,Qah,Qaf,Qak,this]
theorem Qbe:∀{ws:List W},(∀w∈ws,Qah w=true)->Qaf ws=true
 |[],_=>rfl
 |w::ws,h=>by rw[Qaf,h w zN,Qbe λu hu=>h u (zB _ hu)];rfl
noncomputable abbrev QaQ:List S:=[.ret (.tup [V3,V4,(.bin .Add V0 (.tup [(.tup [V1,V2,V3,V4])]))])]
theorem Qa1{fw:Nat}{tb:List Fn}{f:Nat}(hg:tb[f]?=some ⟨5,5,QaQ,none⟩)(d dd nn:Nat)(s:Nat×Nat)(hs:List Str)(tr:List W)(ht:Qaf tr=true)(hl:tr.length<=1000)(h:Qaa) :
  Qab fw tb (d+1) f [.tup tr,nat dd,nat nn,shp s,.tup (hs.map W.str)] h=.ok (bhW tr dd nn s hs) h:=by
 rw[Qac hg rfl]
 let σ:Qai:=[some (.tup tr),some (nat dd),some (nat nn),some (shp s),some (.tup (hs.map W.str))]
 show J.fin h.length (exB (Qab fw tb d) fw QaQ σ h)=_
 have e:exB (Qab fw tb d) fw QaQ σ h=.ok (.ret (bhW tr dd nn s hs)) h:=by refine Qar (Qa7 (Qen (Qae (U3 rfl) (Qae (U4 rfl) (Qae (Qbx (U0 rfl) (Qen (Qae (Qen (Qae (U1 rfl) (Qae (U2 rfl) (Qae (U3 rfl) (Qae (U4 rfl) Qan)))) (by show 4<=1000;decide)) Qan) ZzS) ?_) Qan))) ZzS));show okT (Qd3 (some tr) (some [_]) h)=_;unfold Qd3;dsimp only;rw[zF (by rw[Zj];show tr.length+1<=_;lia)];rfl
 rw[e]
 have hp:Qah (bhW tr dd nn s hs)=true:=Qax ht
 unfold bhW at hp ⊢
 rw[Qah]at hp
 exact Qcu hp
noncomputable abbrev Ql4:List S:=[.par 2 3 V3 (.bin .Mod V2 V3)]
noncomputable abbrev QfG:List S:=[.par 2 3 V0 V1,.while_ (.cmp .NotEq V3 (.con (.int 0))) Ql4,.ret (.tup [(.bin .FloorDiv V0 V2),(.bin .FloorDiv V1 V2)])]
theorem QfM(cf)(fw)(h)(u v):∀n a b,b<n ->
  wh (evT cf (.cmp .NotEq V3 (.con (.int 0)))) (exB cf fw Ql4) n [u,v,some (nat a),some (nat b)] h=.ok (.nx [u,v,some (nat (Nat.gcd a b)),some (nat 0)]) h
 |0,a,b,hb=>absurd hb (Nat.not_lt_zero b)
 |n+1,a,b,hb=>by
  have t:=ev_neN (cf:=cf) (σ:=[u,v,some (nat a),some (nat b)]) (h:=h) (a:=.var 3) (b:=.con (.int 0)) (m:=b) (n:=0) (Qag rfl) Qaw;by_cases z:b=0;subst z;rw[QdO t,Nat.gcd_zero_right];rw[zV z]at t;have e:=QfM cf fw h u v n b (a%b) (zj (ZU a (zzA z)) (Nat.le_of_lt_succ hb));have g:Nat.gcd a b=Nat.gcd b (a%b):=by rw[Nat.gcd_comm a b,Nat.gcd_rec b a,Nat.gcd_comm]
  rw[QeS (h2:=h)  t,e,g];refine(Qad   ?_).trans (by rw[exB]);rw[exS,Qag (i:=3)  rfl,bnd_ok,Qb1 (m:=a) (n:=b) (U2 rfl) (U3 rfl) (zzA z),bnd_ok];rfl
theorem QdJ{fw:Nat}{tb:List Fn}{f:Nat}(hg:tb[f]?=some ⟨2,4,QfG,none⟩)(d a b:Nat)(h:Qaa)(hb:b<fw)(h0:0<b)(hz:b<2^9000):Qab fw tb (d+1) f [nat a,nat b] h=.ok (shp (low a b)) h:=by
 rw[Qac hg rfl];have gp:0<Nat.gcd a b:=zzX a h0;have gl:Nat.gcd a b<=b:=Nat.gcd_le_right a h0;have g9 :=zQ gl hz;show J.fin h.length (exB (Qab fw tb d) fw QfG [some (nat a),some (nat b),none,none] h)=_;have e:exB (Qab fw tb d) fw QfG [some (nat a),some (nat b),none,none] h=.ok (.ret (shp (low a b))) h:=by refine(Qad (σ':=[some (nat a),some (nat b),some (nat a),some (nat b)]) (h':=h) ?_).trans ?_;rfl;refine(Qad (σ':=[some (nat a),some (nat b),some (nat (Nat.gcd a b)),some (nat 0)]) (h':=h) ?_).trans ?_;rw[exS];exact QfM (Qab fw tb d) fw h _ _ fw a b hb;exact Qar (Qa7 (Qen (Qcn (Qcv (U0 rfl) (U2 rfl) gp g9) (Qcv (U1 rfl) (U2 rfl) gp g9)) (by show 2<=1000;decide)))
 rw[e];exact Qcu (QjV _ _)
end J
namespace J
open PySem
noncomputable abbrev tyK(_:α->Qaa->Res β):Type:=Res β
noncomputable abbrev bndK(f:α->Qaa->Res β)(r:Res α):tyK f:=bnd r f
theorem bnd_K:bnd r f=bndK f r:=rfl
noncomputable def opK(op:Operator)(x y:W)(h:Qaa):Res W:=hid (opW op x y h)
theorem opK_W:opK op x y h=opW op x y h:=QcO
theorem ev_bn:evE cf (.bin op a b) σ h=bnd (evE cf a σ h) λx h=>bnd (evE cf b σ h) λy h=>opK op x y h:=by simp only[evE,opK_W]
noncomputable def mtK(m:Mt)(x:W)(ws:List W)(h:Qaa):Res W:=hid (Qc6 m x ws h)
theorem mtK_W:mtK m x ws h=Qc6 m x ws h:=QcO
theorem ev_mt:evE cf (.meth m a es) σ h=bnd (evE cf a σ h) λx h=>if Qbi m h x=true then bnd (evA cf es σ h) λws h=>mtK m x ws h else .stuck:=by simp only[evE,mtK_W]
noncomputable def adK(x y:Option (List W))(h:Qaa):Res (List W):=hid (Qd3 x y h)
theorem adK_L:adK x y h=Qd3 x y h:=QcO
theorem ef_ad:evF cf (.bin .Add a b) σ h=bnd (evE cf a σ h) λx h=>bnd (evE cf b σ h) λy h=>adK (seqM h x) (seqM h y) h:=by simp only[evF,adK_L]
noncomputable def nxt(cf:CF)(fw:Nat)(b:List S)(r:Res Fl):Res Fl:=bnd r λfl h=>match fl with
 |.nx σ=>exB cf fw b σ h
 |fl=>.ok fl h
theorem QoU:exB cf fw [] σ h=.ok (.nx σ) h:=rfl
theorem Qpc:exB cf fw (s::r) σ h=nxt cf fw r (exS cf fw s σ h):=rfl
theorem nxt_nx:nxt cf fw b (.ok (.nx σ) h)=exB cf fw b σ h:=rfl
theorem Qqw:nxt cf fw b (.ok (.ret w) h)=.ok (.ret w) h:=rfl
theorem QpD:nxt cf fw b (.ok (.brk w) h)=.ok (.brk w) h:=rfl
theorem QoM:nxt cf fw b (.ok (.cnt w) h)=.ok (.cnt w) h:=rfl
theorem QpN:nxt cf fw b (.exc c h)=.exc c h:=rfl
theorem Qq9:nxt cf fw [] r=r:=by rcases r with⟨_|_|_|_,_⟩|_|_<;>rfl
theorem QpX{c:Prop} [Decidable c]:nxt cf fw r (if c then a else b)=if c then nxt cf fw r a else nxt cf fw r b:=by split<;>rfl
noncomputable abbrev tyI(c:Prop) [Decidable c](_:Nat)(_:Qaa)(α:Type):Type:=Res α
noncomputable def exI(c:Prop) [Decidable c](e:Nat)(h:Qaa)(x:Res α):tyI c e h α:=if c then .exc e h else x
theorem ex_I{c:Prop} [Decidable c]{x:Res α}:(if c then .exc e h else x)=exI c e h x:=rfl
theorem nxt_I{c:Prop} [Decidable c]:nxt cf fw r (exI c e h b)=exI c e h (nxt cf fw r b):=by unfold exI;split<;>rfl
theorem bnd_I{c:Prop} [Decidable c]{b:Res α}{f:α->Qaa->Res β}:bnd (exI c e h b) f=exI c e h (bnd b f):=by unfold exI;split<;>rfl
theorem fin_I{c:Prop} [Decidable c]{b:Res Fl}:J.fin h.length (exI c e h b)=exI c e h (J.fin h.length b):=by unfold exI;split<;>simp[J.fin]
theorem mp_c{f:α->β}:List.map f (a::l)=f a::List.map f l:=rfl
theorem mp_n{f:α->β}:List.map f []=[]:=rfl
theorem ln_c{l:List α}:(a::l).length=l.length+1:=rfl
theorem ln_n:([]:List α).length=0:=rfl
theorem ln_1{a:α}:[a].length=1:=rfl
theorem ln_2{a b:α}:[a,b].length=2:=rfl
theorem ln_3{a b c:α}:[a,b,c].length=3:=rfl
theorem rp_s{a:α}:List.replicate (n+1) a=a::List.replicate n a:=rfl
theorem rp_z{a:α}:List.replicate 0 a=[]:=rfl
theorem ap_c{a:α}:(a::l)++r=a::(l++r):=rfl
theorem ap_n{r:List α}:[]++r=r:=rfl
theorem ge_z{a:α}:(a::l)[0]?=some a:=rfl
theorem ge_s{a:α}:(a::l)[n+1]?=l[n]?:=rfl
theorem st_s{a:α}:(a::l).set (n+1) b=a::l.set n b:=rfl
theorem st_z{a:α}:(a::l).set 0 b=b::l:=rfl
theorem st_n{b:α}:([]:List α).set n b=[]:=rfl
theorem ite_s1{x:α}{a b:β}:(if [x].length<=sizeLine then a else b)=a:=rfl
theorem ite_s2{x y:α}{a b:β}:(if [x,y].length<=sizeLine then a else b)=a:=rfl
theorem ite_s3{x y z:α}{a b:β}:(if [x,y,z].length<=sizeLine then a else b)=a:=rfl
theorem ite_s4{x y z u:α}{a b:β}:(if [x,y,z,u].length<=sizeLine then a else b)=a:=rfl
theorem ite_s5{x y z u v:α}{a b:β}:(if [x,y,z,u,v].length<=sizeLine then a else b)=a:=rfl
theorem ite_00{a b:β}:(if(0:Nat)=0 then a else b)=a:=rfl
theorem ite_11{a b:β}:(if(1:Nat)=1 then a else b)=a:=rfl
theorem ite_rg{a b:β}:(if QlZ (.ins 1 us)=true then a else b)=a:=rfl
theorem QqC{c:Prop} [Decidable c]{a b:Res α}{f:α->Qaa->Res β}:bnd (if c then a else b) f=if c then bnd a f else bnd b f:=by split<;>rfl
theorem QlA{a:Res α}{f:α->Qaa->Res β}{g:β->Qaa->Res γ}:bnd (bnd a f) g=bnd a λx h=>bnd (f x h) g:=by cases a<;>rfl
theorem QoJ{c:Prop} [Decidable c]{a b:Res Fl}:J.fin n (if c then a else b)=if c then J.fin n a else J.fin n b:=by split<;>rfl
theorem fin_x:J.fin h.length (.exc c h)=.exc c h:=by simp[J.fin]
theorem fin_n:J.fin h.length (.ok (.nx σ) h)=.ok .non h:=by simp[J.fin]
theorem Qlm:J.fin h.length (.ok (.ret (.bl b)) h)=.ok (.bl b) h:=Qav
theorem Qg4(hp:Qah w=true):J.fin h.length (.ok (.ret w) h)=.ok w h:=QbX hp (λn z=>by subst z;cases hp) rfl
theorem tru_b:Qok h (.bl b)=some b:=rfl
theorem sb1{k:Nat}(h1:1<=k):(k:Int)-1=((k-1:Nat):Int):=ZzO
noncomputable def orK(x:W)(r:Res W)(h:Qaa):Res W:=match x with
 |.bl true=>okB true h
 |.bl false=>r
 |_=>.stuck
noncomputable def andK(x:W)(r:Res W)(h:Qaa):Res W:=match x with
 |.bl true=>r
 |.bl false=>okB false h
 |_=>.stuck
theorem ev_or:evE cf (.or_ a b) σ h=bnd (evE cf a σ h) λx h=>orK x (evE cf b σ h) h:=by rw[evE];rfl
theorem ev_and:evE cf (.and_ a b) σ h=bnd (evE cf a σ h) λx h=>andK x (evE cf b σ h) h:=by rw[evE];rfl
theorem orK_b:orK (.bl x) (.ok (.bl y) h) h=.ok (.bl (x||y)) h:=by cases x<;>rfl
theorem andK_b:andK (.bl x) (.ok (.bl y) h) h=.ok (.bl (x&&y)) h:=by cases x<;>rfl
theorem len_l:QbK .len [.lst us] h=.ok (.int us.length) h:=rfl
theorem len_t:QbK .len [.tup us] h=.ok (.int us.length) h:=rfl
theorem Qp3(e:h[n]?=some (.lst us)):QbK .len [.ref n] h=.ok (.int us.length) h:=by show Qg7 _ _=_;simp[Qg7,seqA,Qe3,seqL,e,okI]
theorem ix_0:ixW (.tup (a::r)) (.int 0) h=.ok a h:=by simp[ixW,seqA,Qe3,L2.atI,L2.ixN]
theorem ix_1:ixW (.tup (a::b::r)) (.int 1) h=.ok b h:=Qda (k:=1) (ws:=a::b::r) rfl rfl
theorem ix_2:ixW (.tup (a::b::c::r)) (.int 2) h=.ok c h:=Qda (k:=2) (ws:=a::b::c::r) rfl rfl
theorem lx_0:ixW (.lst (a::r)) (.int 0) h=.ok a h:=Qda (k:=0) (ws:=a::r) rfl rfl
theorem lx_1:ixW (.lst (a::b::r)) (.int 1) h=.ok b h:=Qda (k:=1) (ws:=a::b::r) rfl rfl
theorem lit_l{k n:Nat}:(no_index (@OfNat.ofNat Int k instOfNat)<(n:Int))=(@OfNat.ofNat Nat k (instOfNatNat k)<n):=propext Int.ofNat_lt
theorem lit_r{k n:Nat}:((n:Int)<no_index (@OfNat.ofNat Int k instOfNat))=(n<@OfNat.ofNat Nat k (instOfNatNat k)):=propext Int.ofNat_lt
theorem lit_m{k n:Nat}:(no_index (@OfNat.ofNat Int k instOfNat)<=(n:Int))=(@OfNat.ofNat Nat k (instOfNatNat k)<=n):=propext Int.ofNat_le
theorem lit_s{k n:Nat}:((n:Int)<=no_index (@OfNat.ofNat Int k instOfNat))=(n<=@OfNat.ofNat Nat k (instOfNatNat k)):=propext Int.ofNat_le
theorem lit_e{k n:Nat}:((n:Int)=no_index (@OfNat.ofNat Int k instOfNat))=(n=@OfNat.ofNat Nat k (instOfNatNat k)):=propext Int.ofNat_inj
theorem lit_a{k n:Nat}:(n:Int)+no_index (@OfNat.ofNat Int k instOfNat)=((n+@OfNat.ofNat Nat k (instOfNatNat k):Nat):Int):=rfl
theorem ix_p0:ixW (ptW x) (.int 0) h=.ok (sh x.p x.q) h:=ix_0
theorem ix_p1:ixW (ptW x) (.int 1) h=.ok (.tup (x.hs.map W.str)) h:=ix_1
theorem ix_p2:ixW (ptW x) (.int 2) h=.ok (.tup x.tr) h:=ix_2
theorem ni_t:QbP .NotIn (.str x) (.tup (ss.map W.str)) h=.ok (.bl (!Qa5 x ss)) h:=by simp[QbP,inW,QaO,seqA,Qe3,seqL,Qc5,Qbq,Qa5,okB,Qc5,toV]
theorem ni_l:QbP .NotIn (.str x) (.lst (ss.map W.str)) h=.ok (.bl (!Qa5 x ss)) h:=by simp[QbP,inW,QaO,seqA,Qe3,seqL,Qc5,Qbq,Qa5,okB,Qc5,toV]
theorem in_t:QbP .In (.str x) (.tup (ss.map W.str)) h=.ok (.bl (Qa5 x ss)) h:=by simp[QbP,inW,QaO,seqA,Qe3,seqL,Qc5,Qbq,Qa5,okB,Qc5,toV]
theorem in_l:QbP .In (.str x) (.lst (ss.map W.str)) h=.ok (.bl (Qa5 x ss)) h:=by simp[QbP,inW,QaO,seqA,Qe3,seqL,Qc5,Qbq,Qa5,okB,Qc5,toV]
theorem Qj6(h:QaI s):(s.length<=1000/\(s.cps.toList.all λc=>decide (c<1000))=true)=True:=eq_true ⟨zf h.1 ZzD,Z5.mpr λc hc=>zX (h.2 c hc)⟩
theorem Qdy(hl:us.length+vs.length<=1000):opW .Add (.lst us) (.lst vs) h=.ok (.lst (us++vs)) h:=by show okL (Qd3 (some us) (some vs) h)=_;simp only[Qd3,zF (show us.length+vs.length<=sizeLine by rw[PySem.sizeLine_eq];omega)];rfl
theorem add_t(hl:us.length+vs.length<=1000):opW .Add (.tup us) (.tup vs) h=.ok (.tup (us++vs)) h:=by show okT (Qd3 (some us) (some vs) h)=_;simp only[Qd3,zF (show us.length+vs.length<=sizeLine by rw[PySem.sizeLine_eq];omega)];rfl
theorem bl_i:QbK .int [.bl b] h=.ok (.int (if b=true then 1 else 0)) h:=rfl
theorem bl_lt:QbK .list [.tup us] h=.ok (.lst us) h:=rfl
theorem bl_ll:QbK .list [.lst us] h=.ok (.lst us) h:=rfl
theorem bl_tl:QbK .tuple [.lst us] h=.ok (.tup us) h:=rfl
theorem bl_tt:QbK .tuple [.tup us] h=.ok (.tup us) h:=rfl
theorem Qnn:Qc6 .append (.ref h.length) [w] (h++[.lst us])=if Qah w=true/\us.length<sizeLine then .ok .non (h++[.lst (us++[w])]) else .stuck:=by simp[Qc6,on1,appW,Qa3,Qcg]
theorem Qno:Qc6 .extend (.ref h.length) [.lst vs] (h++[.lst us])=if Qaf vs=true/\us.length+vs.length<=sizeLine then .ok .non (h++[.lst (us++vs)]) else .stuck:=by simp[Qc6,on1,extW,seqM,Qa3,Qcg]
theorem QpA:Qbi .append (h++[.lst us]) (.ref h.length)=true:=by simp[Qbi,seqM,Qa3]
theorem QoC:Qbi .extend (h++[.lst us]) (.ref h.length)=true:=by simp[Qbi,seqM,Qa3]
theorem QmA:QbK .len [.ref h.length] (h++[.lst us])=.ok (.int us.length) (h++[.lst us]):=Qp3 Qa3
theorem Qnr:seqA (h++[.lst us]) (.ref h.length)=some us:=by simp[seqA,Qe3,seqL,Qa3]
theorem fin_xa{h:Qaa}:J.fin h.length (.exc c (h++o))=.exc c h:=by simp[J.fin]
theorem sl_1:slW (.lst (a::r)) (some 1) none h=.ok (.lst r) h:=by show Res.ok (W.lst (Qi6 (a::r) (some ((1:Nat):Int)) none)) h=_;unfold Qi6;rw[HT.sIx_none,HT.sIx_nat,Nat.min_eq_left ZzS];simp
theorem Qpi{cf:CF}{a b:E}{σ:Qai}{h:Qaa}{m n:Nat}(ea:evE cf a σ h=.ok (nat m) h)(eb:evE cf b σ h=.ok (nat n) h)(hm:m<=1000000)(hn:n<=1000000)(hl:n-m<=1000):evE cf (.lrng a b) σ h=.ok (.lst ((List.range (n-m)).map λi=>nat (m+i))) h:=by
 rw[evE,ea,bnd_ok,eb,bnd_ok];have hr:Qlj [nat m,nat n]=some ((List.range (n-m)).map λi=>nat (m+i)):=by rw[Qb2];unfold Qjc;dsimp only;rw[zF ZzO];have e:((n:Int)-(m:Int)).toNat=n-m:=ZzO;rw[e];refine congrArg some (zzs λk _=>?_);show W.int ((m:Int)+(k:Int))=W.int ((m+k:Nat):Int);rw[Int.natCast_add]
 rw[hr];dsimp only;rw[zF (by rw[zo,ZX];exact hl)]
noncomputable def lrK(x y:W)(h:Qaa):Res W:=hid (evE (λ_ _ _=>.stuck) (.lrng (.con x) (.con y)) [] h)
theorem ev_lr:evE cf (.lrng a b) σ h=bnd (evE cf a σ h) λx h=>bnd (evE cf b σ h) λy h=>lrK x y h:=by simp only[lrK,QcO,evE,bnd_ok]
theorem lr_mn{m n:Nat}(hm:m<=1000000)(hn:n<=1000000)(hl:n-m<=1000):lrK (.int (m:Int)) (.int (n:Int)) h=.ok (.lst ((List.range (n-m)).map λi=>nat (m+i))) h:=by unfold lrK;rw[QcO];exact Qpi Qao Qao hm hn hl
noncomputable def rgK(is:List Nat)(b:List S)(cf:CF)(fw:Nat)(w:W)(σ:Qai)(h:Qaa):Res Fl:=hid (exS cf fw (.for_ is (.rng [.con w]) b) σ h)
theorem ex_rg:exS cf fw (.for_ is (.rng [e]) b) σ h=bnd (evE cf e σ h) λw h=>rgK is b cf fw w σ h:=by simp only[rgK,QcO,exS,evA,evE,bnd_ok,QlA]
theorem rg_n{n:Nat}(hz:n<2^62):rgK is b cf fw (.int (n:Int)) σ h=fo is (exB cf fw b) ((List.range n).map λ(k:Nat)=>W.int (0+(k:Int))) σ h:=by unfold rgK;rw[QcO];exact QfE Qao hz
theorem Qp4:QbP .Eq (.str a) (.str b) h=.ok (.bl (decide (a=b))) h:=rfl
theorem tgs:¬ ("grant":Str)="sever"/\¬ ("grant":Str)="hand"/\¬ ("grant":Str)="follow"/\¬ ("sever":Str)="grant"/\¬ ("hand":Str)="grant"/\¬ ("hand":Str)="sever"/\¬ ("hand":Str)="follow"/\¬ ("follow":Str)="grant"/\¬ ("follow":Str)="sever"/\¬ ("follow":Str)="hand"/\¬ ("die":Str)="grant"/\¬ ("die":Str)="sever"/\¬ ("die":Str)="hand"/\¬ ("die":Str)="follow"/\¬ ("sever":Str)="follow"/\¬ ("sever":Str)="die"/\¬ ("hand":Str)="die"/\¬ ("sever":Str)="hand"/\¬ ("grant":Str)="die"/\¬ ("follow":Str)="die":=by decide +kernel
theorem lx_2:ixW (.lst (a::b::c::r)) (.int 2) h=.ok c h:=Qda (k:=2) (ws:=a::b::c::r) rfl rfl
theorem lx_3:ixW (.lst (a::b::c::d::r)) (.int 3) h=.ok d h:=Qda (k:=3) (ws:=a::b::c::d::r) rfl rfl
theorem lx_4:ixW (.lst (a::b::c::d::e::r)) (.int 4) h=.ok e h:=Qda (k:=4) (ws:=a::b::c::d::e::r) rfl rfl
end J
set_option hygiene false
local macro_rules | `(tactic| simp_arith $c:optConfig [$ls,*])=>do
  let ns <- ("↓J.bnd_K ↓J.ite_s1 ↓J.ite_s2 ↓J.ite_s3 ↓J.ite_s4 ↓J.ite_s5 ↓J.ite_00 ↓J.ite_11 ↓J.ite_rg ↓J.ln_1 ↓J.ln_2 ↓J.ln_3 J.ex_I J.nxt_I J.bnd_I J.fin_I J.mp_c J.mp_n J.ln_c J.ln_n J.rp_s J.rp_z J.ap_c J.ap_n J.ge_z J.ge_s J.st_s J.st_z J.st_n J.QoU J.Qpc J.nxt_nx J.Qqw J.QpD J.QoM J.QpN J.Qq9 J.QpX J.exS.eq_1 J.exS.eq_2 J.exS.eq_3 J.exS.eq_4 J.exS.eq_5 J.exS.eq_6 J.exS.eq_7 J.exS.eq_8 J.exS.eq_9 J.exS.eq_10 J.exS.eq_11 J.exS.eq_12 J.exS.eq_13 J.exS.eq_14 J.exS.eq_15 J.exS.eq_16 J.exS.eq_17 J.exS.eq_18 J.exS.eq_20 J.exS.eq_22 J.exS.eq_23 J.exS.eq_24 J.exS.eq_25 J.exS.eq_26 J.evE.eq_1 J.evE.eq_2 J.evE.eq_3 J.evE.eq_4 J.ev_bn J.opK_W J.evE.eq_6 J.evE.eq_7 J.evE.eq_10 J.evE.eq_11 J.evE.eq_12 J.evE.eq_13 J.evE.eq_14 J.evE.eq_15 J.evE.eq_16 J.evE.eq_17 J.evE.eq_18 J.evE.eq_19 J.evE.eq_20 J.evE.eq_21 J.evE.eq_22 J.evE.eq_24 J.evE.eq_25 J.evE.eq_26 J.evE.eq_27 J.ev_mt J.mtK_W J.evA.eq_1 J.evA.eq_2 J.evTs.eq_1 J.evTs.eq_2 J.bnd_ok J.bnd_exc J.QqC J.QlA J.QoJ J.fin_x J.fin_n J.Qlm J.tst J.tru_b J.okI J.okB J.clr J.QoX List.length_range PySem.sizeLine_eq Nat.reduceLeDiff Nat.zero_le Nat.reduceAdd Bool.false_eq_true ↓reduceIte Nat.zero_add Nat.reduceSub List.length_append List.length_map List.length_set Nat.reduceEqDiff J.Qjt J.Qoo J.sb1 and_self true_or or_true false_or or_false true_and and_true or_self if_true if_false ite_self J.Qhy J.QpM J.QjA J.Qqb J.Qoi J.QnT J.ev_lr J.ex_rg J.ev_or J.ev_and J.ni_t J.ni_l J.in_t J.in_l Int.natAbs_natCast J.orK_b J.andK_b decide_eq_true_eq Bool.or_eq_true Bool.and_eq_true J.len_l J.len_t J.Qnn J.Qno J.QpA J.QoC J.QmA J.Qnr J.fin_xa J.Qa3 J.Qcg J.sl_1 J.evO.eq_1 J.evO.eq_2 J.evF.eq_1 J.evF.eq_2 J.ef_ad J.adK_L J.evF.eq_4 J.evF.eq_5 Nat.le_add_left Nat.add_sub_cancel J.Qp3 J.bl_i J.bl_lt J.bl_ll J.bl_tl J.bl_tt ne_eq not_false_eq_true not_true_eq_false Bool.true_eq_false J.ix_0 J.ix_1 J.ix_2 J.ix_p0 J.ix_p1 J.ix_p2 J.lx_0 J.lx_1 J.lx_2 J.lx_3 J.lx_4 J.Qp4 J.QbL J.lit_l J.lit_r J.lit_m J.lit_s J.lit_e J.lit_a Int.ofNat_lt Int.ofNat_le Int.ofNat_inj J.fpW List.all_cons List.all_nil Bool.and_true Bool.true_and Bool.not_eq_true' decide_eq_false_iff_not".splitOn " ").toArray.mapM fun s=>do
    if s.startsWith "↓" then `(Lean.Parser.Tactic.simpLemma| ↓$(Lean.mkIdent (s.drop 1).toString.toName):ident) else `(Lean.Parser.Tactic.simpLemma| $(Lean.mkIdent s.toName):ident)
  let a:Lean.Syntax.TSepArray [`Lean.Parser.Tactic.simpStar,`Lean.Parser.Tactic.simpErase,`Lean.Parser.Tactic.simpLemma] ",":=.ofElems (ns.map fun x=>⟨x.raw⟩)
  let b:=Lean.Syntax.TSepArray.ofElems (sep:=",") (a.getElems++ls.getElems)
  `(tactic| set_option backward.defeqAttrib.useBackward true in simp $c:optConfig only [$b,*])
local macro_rules | `(tactic| simp! [$ls,*])=>`(tactic| simp_arith -dsimp [$ls,*])
local macro_rules | `(tactic| dsimp! [$ls,*])=>`(tactic| simp_arith -dsimp -implicitDefEqProofs [$ls,*])
local macro_rules | `(tactic| simp_arith $l:location)=>`(tactic| simp only [J.nat,zO,Zy,Int.natCast_one,Int.cast_ofNat_Int,List.set_cons_zero,List.set_cons_succ,zA,z0,List.length_nil,ZV] $l)
set_option hygiene true
namespace J
open PySem PySem.Spec PyProof.Rows L2
theorem Qf0{cf:CF}{a b:E}{x y:Int}{σ:Qai}{h:Qaa}(ea:evE cf a σ h=.ok (.int x) h)(eb:evE cf b σ h=.ok (.int y) h):evE cf (.bin .Add a b) σ h=.ok (.int (x+y)) h:=Qbx ea eb (Qjt _ _ _)
theorem Qjh{cf:CF}{a b:E}{m n:Nat}{σ:Qai}{h:Qaa}(ea:evE cf a σ h=.ok (nat m) h)(eb:evE cf b σ h=.ok (nat n) h):evE cf (.blt .min [a,b]) σ h=.ok (nat (min m n)) h:=by rw[evE,Qcn ea eb];show okI (if(n)<(m:Int) then(n) else(m)) h=_;by_cases hl:n<m;rw[zF ZzL,Nat.min_eq_right ZzL];rfl;rw[zM ZzL,Nat.min_eq_left ZzL];rfl
theorem QiN{P:List Str}(hP:P.Nodup){G:Nat->Nat}(hb:∀j<m,G j<P.length)(hi:∀j<m,∀k<m,G j=G k->j=k):((List.range m).map λj=>P.getD (G j) Qct).Nodup:=by refine List.pairwise_map.mpr (List.Pairwise.imp_of_mem  (λ{a b} ha hb' hab e=>?_) List.nodup_range);have h1:=hb a (ZF.mp ha);have h2:=hb b (ZF.mp hb');rw[List.getD,zJ h1,List.getD,zJ h2]at e;exact hab (hi a (ZF.mp ha) b (ZF.mp hb') ((List.getElem_inj hP).mp e))
theorem QmJ{S:Int}{L j k:Nat}(hL:0<L)(hj:j<L)(hk:k<L)(e:((S+(j:Int)).fmod (L:Int)).toNat=((S+(k:Int)).fmod (L:Int)).toNat):j=k:=by
 rw[Int.fmod_eq_emod_of_nonneg _ ZzL,Int.fmod_eq_emod_of_nonneg _ ZzL]at e
 have h1:=Int.emod_nonneg (S+j) (show(L:Int)≠0 by lia)
 have h2:=Int.emod_nonneg (S+k) (show(L:Int)≠0 by lia)
 have e2:(S+j)%(L:Int)=(S+k)%(L:Int):=ZzL
 have e3:=Int.emod_eq_emod_iff_emod_sub_eq_zero.mp e2
 have e4:(L:Int) ∣ ((j:Int)-k):=by
  have:=Int.dvd_of_emod_eq_zero e3
  grind
 obtain⟨c,hc⟩:=e4
 have:c=0:=by
  rcases Int.lt_trichotomy c 0 with h|h|h
  ·have:(L:Int)*c<=(L:Int)*(-1):=Int.mul_le_mul_of_nonneg_left ZzL ZzL
   lia
  ·exact h
  ·have:(L:Int)*1<=(L:Int)*c:=Int.mul_le_mul_of_nonneg_left ZzL ZzL
   lia
 subst this
 lia
noncomputable abbrev Qbd(c:Nat):List S:=[.if_ (.or_ (.cmp .Lt V1 (.con (.int 1))) (.cmp .Gt V1 (.blt .len [V0]))) [.raise c [.lit,.var 1]] [],.ret (.ix V0 (.bin .Sub V1 (.con (.int 1))))]
def Seq(t:W)(ws:List W):Prop:=t=.lst ws\/t=.tup ws
theorem Seq.seqA(h:Seq t ws)(hh:Qaa):J.seqA hh t=some ws:=by rcases h with rfl|rfl<;>rfl
noncomputable def Qei(z:Int)(n:Nat):Bool:=decide (z<1)||decide ((n:Int)<z)
theorem QnS{cf:CF}{t:W}{ws:List W}{z:Int}{σ:Qai}{h:Qaa}{i j:Nat}(ht:Seq t ws)(hi:σ[i]?=some (some (.int z)))(hj:σ[j]?=some (some t)):evT cf (.or_ (.cmp .Lt (.var i) (.con (.int 1))) (.cmp .Gt (.var i) (.blt .len [(.var j)]))) σ h=.ok (Qei z ws.length) h :=
 QoS (ev_ltI (Qag hi) Qao) (Qof (Qag hi) (QcL (Qag hj) (ht.seqA h)))
theorem QjQ(h:Qei z n=false):∃k:Nat,z=(k)/\1<=k/\k<=n:=by unfold Qei at h;rw[Bool.or_eq_false_iff]at h;have h1:=zz1 h.1;have h2:=zz1 h.2;exact⟨z.toNat,ZzL,ZzL,ZzL⟩
theorem Qdu{fw:Nat}{tb:List Fn}{f c:Nat}(hf:tb[f]?=some ⟨2,2,Qbd c,none⟩)(d:Nat)(t:W)(ws:List W)(z:Int)(h:Qaa)(ht:Seq t ws)(hz:z.natAbs<10^100)(ho:Qei z ws.length=true):Qab fw tb (d+1) f [t,.int z] h=.exc c h:=by
 rw[Qac hf rfl];show J.fin h.length (exB (Qab fw tb d) fw (Qbd c) [some t,some (.int z)] h)=_;have e:exB (Qab fw tb d) fw (Qbd c) [some t,some (.int z)] h=.exc c h:=by refine Qbn ((QjO ((QnS  (j:=0) ht rfl rfl).trans (by rw[ho]))).trans (Qbn (QcR ?_)));show(fpW _ .lit&&(fpW _ (.var 1)&&true))=true;rw[fp_int   rfl hz];rfl
 rw[e];show Res.exc c (h.take h.length)=_;simp_all
theorem Qed{fw:Nat}{tb:List Fn}{f c:Nat}(hf:tb[f]?=some ⟨2,2,Qbd c,none⟩)(d:Nat)(t:W)(ws:List W)(n:Nat)(w:W)(h:Qaa)(ht:Seq t ws)(h1:1<=n)(hw:ws[n-1]?=some w)(hp:Qah w=true)(hnr:∀k,w≠.ref k):Qab fw tb (d+1) f [t,nat n] h=.ok w h:=by
 rw[Qac hf rfl]
 have ho:Qei (n:Int) ws.length=false:=by
  unfold Qei
  grind
 show J.fin h.length (exB (Qab fw tb d) fw (Qbd c) [some t,some (nat n)] h)=_
 have e:exB (Qab fw tb d) fw (Qbd c) [some t,some (nat n)] h=.ok (.ret w) h :=
  (Qad (Qd1 ((QnS (i:=1) (j:=0) ht rfl rfl).trans (by rw[ho])))).trans (Qar (Qa7 (Qbr (Qag  rfl) (Qi1 (Qag  rfl) h1) (Qda (ht.seqA h) hw))))
 rw[e]
 exact QbX hp hnr rfl
noncomputable abbrev Qj5:List S:=[.fresh 3 (.blt .list [V0]),.setix V3 (.bin .Sub V1 (.con (.int 1))) V2,.ret V3]
theorem Qlp{cf:CF}{fw i:Nat}{a:E}{σ:Qai}{h:Qaa}{t:W}{ws:List W}(ea:evE cf a σ h=.ok t h)(hs:seqA h t=some ws)(hp:Qaf ws=true):exS cf fw (.fresh i (.blt .list [a])) σ h=.ok (.nx (σ.set i (some (.ref h.length)))) (h++[.lst ws]):=by rw[exS,evF,ea,bnd_ok];simp_all
theorem QoO{cf:CF}{fw i k:Nat}{b e:E}{σ:Qai}{h:Qaa}{ws:List W}{w:W}(hs:σ[i]?=some (some (.ref h.length)))(ee:evE cf e σ (h++[.lst ws])=.ok w (h++[.lst ws]))(eb:evE cf b σ (h++[.lst ws])=.ok (nat k) (h++[.lst ws]))(hk:k<ws.length)(hp:Qah w=true) :
  exS cf fw (.setix (.var i) b e) σ (h++[.lst ws])=.ok (.nx σ) (h++[.lst (ws.set k w)]):=by
 rw[exS,ee,bnd_ok,Qag hs,bnd_ok,eb,bnd_ok]
 dsimp only
 rw[Qa3]
 dsimp only
 rw[zF hp,QdZ hk]
 simp_all
theorem QkZ(t:W)(ws:List W)(n:Nat)(w:W)(h:Qaa)(ht:Seq t ws)(h1:1<=n)(hn:n<=ws.length)(hp:Qaf ws=true)(hw:Qah w=true) :
  exB cf fw Qj5 [some t,some (nat n),some w,none] h=.ok (.ret (.ref h.length)) (h++[.lst (ws.set (n-1) w)]):=by
 refine(Qad (Qlp (Qag  rfl) (ht.seqA h) hp)).trans ((Qad (QoO   rfl (Qag  rfl) (Qi1 (Qag  rfl) h1) ZzL hw)).trans ?_)
 rfl
theorem QeJ{fw:Nat}{tb:List Fn}{f:Nat}(hf:tb[f]?=some ⟨3,4,Qj5,none⟩)(d:Nat)(t:W)(ws:List W)(n:Nat)(w:W)(h:Qaa)(ht:Seq t ws)(h1:1<=n)(hn:n<=ws.length)(hp:Qaf ws=true)(hw:Qah w=true) :
  Qab fw tb (d+1) f [t,nat n,w] h=.ok (.lst (ws.set (n-1) w)) h:=by
 rw[Qac hf rfl]
 show J.fin h.length (exB (Qab fw tb d) fw Qj5 [some t,some (nat n),some w,none] h)=_
 rw[QkZ t ws n w h ht h1 hn hp hw]
 exact QkF
noncomputable abbrev Qi4(c:Nat):List S:=[.if_ (.cmp .Gt (.blt .len [V0]) (.con (.int 60))) [.raise c [.lit,.con,.lit]] [],.ret V0]
theorem Qis(e:h[n]?=some (.lst ws)):seqA h (.ref n)=some ws:=by show(match h[n]? with|some (.lst ws)=>some ws|_=>none)=_;rw[e]
theorem QnW{xs:List Pt}(hk:k<xs.length):(xs.map ptW)[k]?=some (ptW xs[k]):=by simp_all
theorem ix_hs{cf:CF}{a:E}{σ:Qai}{h:Qaa}{x:Pt}(ea:evE cf a σ h=.ok (ptW x) h):evE cf (.ix a (.con (.int 1))) σ h=.ok (.tup (x.hs.map W.str)) h:=Qbr ea Qao (Qda   rfl rfl)
theorem ix_sh{cf:CF}{a:E}{σ:Qai}{h:Qaa}{x:Pt}(ea:evE cf a σ h=.ok (ptW x) h):evE cf (.ix a (.con (.int 0))) σ h=.ok (sh x.p x.q) h:=Qbr ea Qao (Qda   rfl rfl)
theorem ix_tr{cf:CF}{a:E}{σ:Qai}{h:Qaa}{x:Pt}(ea:evE cf a σ h=.ok (ptW x) h):evE cf (.ix a (.con (.int 2))) σ h=.ok (.tup x.tr) h:=Qbr ea Qao (Qda   rfl rfl)
noncomputable def eqB(hs us:List Str):Bool:=PyData.eqv (toP (.tup (hs.map W.str))) (toP (.tup (us.map W.str)))
theorem Qf6:∀{hs:List Str},(∀s∈hs,QaI s)->PyData.canLayAll0 (QgA (hs.map W.str))=true
 |[],_=>rfl
 |s::hs,h=>by
  have h1:=(h s zN).2
  have ih:=Qf6  λu hu=>h u (zB _ hu)
  have hs':PyData.strOk s=true:=by
   unfold PyData.strOk
   rw[Array.all_eq_true']
   intro c hc
   have:=h1 c (zzL.mpr hc)
   grind
  simp[QgA,toP,PyData.canLayAll0,PyData.canLay0,ih,hs']
theorem QdK:∀(hs:List Str),PyData.depthAll (QgA (hs.map W.str))=0
 |[]=>rfl
 |s::hs=>by simp[QgA,toP,PyData.depthAll,PyData.depth,QdK hs]
theorem QeP:∀(hs:List Str),QlD (hs.map W.str)=true
 |[]=>rfl
 |s::hs=>by rw[zO,QlD,QeP hs];rfl
theorem QdM{hs:List Str}(h:∀s∈hs,QaI s):SeqAt.shaped (toP (.tup (hs.map W.str)))=true:=by rw[toP];unfold SeqAt.shaped;rw[PyData.canLay0,Qf6 h,PyData.depth,QdK];rfl
theorem ne_t(h1:∀s∈hs,QaI s)(h2:∀s∈us,QaI s):QbP .NotEq (.tup (hs.map W.str)) (.tup (us.map W.str)) h=.ok (.bl (!eqB hs us)) h:=by
 have d1:∀zs:List Str,QbQ h (.tup (zs.map W.str))=some (.tup (zs.map W.str)):=λzs=>by simp[QbQ,okP,QeP]
 have e:eqW h (.tup (hs.map W.str)) (.tup (us.map W.str))=some (eqB hs us):=by simp only[eqW,d1,QdM h1,QdM h2];rfl
 simp only[QbP,e];rfl
theorem try_ok(ee:evE cf e σ h=.ok w h1):exS cf fw (.tryR e hs) σ h=.ok (.ret w) h1:=by rw[exS,ee]
theorem Qm7:finO h.length (.ok (.ret (.str s)) h)=.ok (.str s) h:=by have:=QgE (h:=h) (o:=[]) (s:=s);rw[Zf]at this;exact this
theorem Qbs:J.fin h.length (.ok (.ret (.str s)) h)=.ok (.str s) h:=Qm7
theorem QmI{hs:List Str}(hk:k<hs.length)(h):ixW (.tup (hs.map W.str)) (nat k) h=.ok (.str hs[k]) h:=Qda  rfl ZzS
theorem Qcw(a b:Str):(a++b).cps.toList=a.cps.toList++b.cps.toList:=by show(a.cps++b.cps).toList=_;simp
theorem QbI(n:Nat):(ltr n).cps.toList=[abc.cps.toList.getD n 0]:=rfl
theorem QhU(c:Nat)(x:Array Nat)(hx:x.toList=[c]):∀(n:Nat) (acc:Array Nat),((List.replicate n x).foldl (λx1 x2=>x1++x2) acc).toList=acc.toList++List.replicate n c
 |0,acc=>by simp
 |n+1,acc=>by rw[List.replicate_succ,List.foldl_cons,QhU c x hx n,Array.toList_append,hx,ZP];rfl
theorem Qfm{c n:Nat}{x:Str}(hx:x.cps.toList=[c])(hn:1<=n):(Txt.mul x (n)).cps.toList=List.replicate n c:=by
 unfold Txt.mul;rw[zM ZzL];split;rename_i h;have hl:x.length=1:=by show x.cps.size=1;rw[<- Array.length_toList,hx];rfl
 simp only[zzh,beq_iff_eq,hl]at h;have:n=1:=ZzL;simp_all;rw[QhU c x.cps hx];rfl
theorem Qdo:∀n,n<26->abc.cps.toList.getD n 0=97+n:=ZzD
theorem Ql3(x:Str):x.length=x.cps.toList.length:=rfl
theorem Qm1(how shift:Nat){j k:Nat}(hj:j<60)(hk:k<60)(e:Qa6 how shift j=Qa6 how shift k):j=k:=by
 have e1:=congrArg (λs:Str=>s.cps.toList) e
 unfold Qa6 at e1
 have c1:=Qdo _ (ZU (5*j+shift) (show 26>0 by decide))
 have c2:=Qdo _ (ZU (5*k+shift) (show 26>0 by decide))
 have c3:=Qdo _ (ZU (j/26+shift) (show 26>0 by simp))
 have c4:=Qdo _ (ZU (k/26+shift) (show 26>0 by decide))
 have c5:=Qdo _ (ZU (j/12+shift) (show 26>0 by decide))
 have c6:=Qdo _ (ZU (k/12+shift) (show 26>0 by decide))
 split at e1
 ·rw[Qcw,Qcw,Qcw,Qcw,Qcw,Qcw,QbI,QbI,QbI,QbI,c1,c2,c3,c4]at e1
  have e2:=List.append_cancel_right e1
  rw[ZP,ZP]at e2
  have e3:=List.append_cancel_left e2
  grind
 ·rw[Qfm (QbI _) (Nat.le_add_right ..),Qfm (QbI _) (Nat.le_add_right ..),c5,c6]at e1
  have e2:=congrArg List.length e1
  grind
def Qmf(s:Str):Prop:=∀c∈s.cps.toList,97<=c/\c<=122
theorem Qil{n:Nat}(h:n<26):Qmf (ltr n):=λc hc=>by
 rw[QbI,Qdo n h,zP]at hc
 lia
theorem Qfh{a b:Str}(ha:Qmf a)(hb:Qmf b):Qmf (a++b):=λc hc=>by rw[Qcw]at hc;exact(Za.mp hc).elim (ha c) (hb c)
theorem Qe5{a:Str}{l u:Option Int}(ha:Qmf a):Qmf (Txt.slice a l u):=λc hc=>by unfold Txt.slice at hc;split at hc;exact ha c hc;obtain⟨i,_,e⟩:=zzv.mp hc;exact ha c (zzL.mpr (Array.mem_of_getElem? e))
theorem Qf1{m n:Nat}(h:n<26):Qmf (Txt.mul (ltr n) (m)):=λc hc=>by
 by_cases hm:1<=m
 ·rw[Qfm (QbI n) hm,Qdo n h]at hc
  grind
 ·unfold Txt.mul at hc
  rw[zF (by simp_all)]at hc
  cases hc
theorem Qk3(how shift k:Nat):Qmf (Qa6 how shift k):=by have m:∀n,n%26<26:=λn=>ZU _ ZzS;unfold Qa6;split;exact Qfh (Qfh (Qfh (Qe5 (Qf1 (m _))) (Qil (m _))) (Qil (m _))) (Qe5 (Qf1 (m _)));exact Qf1 (m _)
theorem Qgb(x:Str)(l u:Option Int):(Txt.slice x l u).length<=(Builtin.Str.strSliceIndices l u 1 x.length).length:=by
 unfold Txt.slice
 split
 ·simp_all
 ·show(List.filterMap _ (Builtin.Str.strSliceIndices l u 1 x.length)).toArray.size<=_
  grind
theorem QpB(a n:Nat):(Builtin.Str.strSliceIndices none (some (a)) 1 n).length+(Builtin.Str.strSliceIndices (some (a)) none 1 n).length<=n:=by
 unfold Builtin.Str.strSliceIndices sliceRange
 grind
theorem Qkl(how shift k:Nat):1<=(Qa6 how shift k).length/\(Qa6 how shift k).length<=12:=by
 unfold Qa6
 split
 ·rw[QaB,QaB,QaB,QaP,QaP]
  have h1:=Qgb (Qcp how shift) none (some ((how/33%11:Nat)))
  have h2:=Qgb (Qcp how shift) (some ((how/33%11:Nat))) none
  have h3:=QpB (how/33%11) (Qcp how shift).length
  have h4:(Qcp how shift).length<=10:=Qhn (QaP _) ZzL
  lia
 ·rw[Ql3,Qfm (QbI _) (Nat.le_add_right ..),List.length_replicate]
  lia
theorem QdX:∀ss:List Str,ss.Nodup->(nub ss).length=ss.length
 |[],_=>rfl
 |s::ss,h=>by rw[ZR]at h;rw[nub,zM h.1,z0,QdX ss h.2,z0]
theorem Qkt:∀ss:List Str,¬ ss.Nodup->(nub ss).length<ss.length
 |[],h=>absurd List.nodup_nil h
 |s::ss,h=>by
  rw[nub]
  split
  ·have:=QhA ss
   grind
  ·rename_i hs
   have:=Qkt ss (λz=>h (ZR.mpr ⟨hs,z⟩))
   simp_all
theorem QaR(s:Str)(ss:List Str):Qa5 s ss=decide (s∈ss):=by
 unfold Qa5 inV;rw[zzY];simp only[List.any_eq_true,Zx,toV,Zl];constructor;rintro ⟨v,⟨w,⟨x,hx,rfl⟩,rfl⟩,e⟩;have :=by simpa [eqV] using e
 simp_all;intro h;exact⟨.str s,⟨.str s,⟨s,h,rfl⟩,rfl⟩,by simp[eqV]⟩
theorem Qqn{cf:CF}{a:E}{σ:Qai}{h:Qaa}{x:W}{ss:List Str}(ea:evE cf a σ h=.ok x h)(hx:seqA h x=some (ss.map W.str))(hl:ss.length<64):evE cf (.slen a) σ h=.ok (nat (nub ss).length) h:=by rw[evE,ea,bnd_ok,hx];show(match Qbu (ss.map W.str) with|some ss=>if ss.length<64 then okI (nub ss).length h else .stuck|none=>.stuck)=_;rw[Qb3];dsimp only;rw[zF hl];rfl
theorem QnA{cf:CF}{o1 o2:CmpOp}{a b c:E}{σ:Qai}{h:Qaa}{x y z:W}{r:Res W}(ea:evE cf a σ h=.ok x h)(eb:evE cf b σ h=.ok y h)(e1:QbP o1 x y h=.ok (.bl true) h)(ec:evE cf c σ h=.ok z h)(e2:QbP o2 y z h=r):evE cf (.chn o1 o2 a b c) σ h=r:=by rw[evE,ea,bnd_ok,eb,bnd_ok,e1,bnd_ok];simp_all
noncomputable abbrev QcD:List S:=[.ret (.cmp .Lt (.slen V0) (.blt .len [V0]))]
theorem QfD{fw:Nat}{tb:List Fn}{f:Nat}(hf:tb[f]?=some ⟨1,1,QcD,none⟩)(d:Nat)(x:W)(ss:List Str)(h:Qaa)(hx:seqA h x=some (ss.map W.str))(hl:ss.length<64):Qab fw tb (d+1) f [x] h=.ok (.bl (!decide ss.Nodup)) h:=by
 rw[Qac hf rfl]
 generalize Qab fw tb d=cf
 show J.fin h.length (exB cf fw QcD [some x] h)=_
 have e:exB cf fw QcD [some x] h=.ok (.ret (.bl (!decide ss.Nodup))) h:=by
  refine Qar (Qa7 ((Qbo (Qqn (Qag  rfl) hx hl) (QcL (Qag  rfl) hx) (Qhy _ _ _)).trans ?_))
  rw[zo]
  by_cases hn:ss.Nodup
  ·rw[QdX ss hn,zX hn,zV (Int.lt_irrefl _)];rfl
  ·have:=Qkt ss hn
   grind
 rw[e]
 exact Qav
noncomputable abbrev Qcz:List S:=[.ret (.and_ (.chn .LtE .LtE (.con (.int 1)) (.blt .len [V0]) I12) (.blt .all [(.compS [1] 1 V0 [] (.chn .LtE .LtE (.con (.str "a")) V1 (.con (.str "z"))))]))]
def Qi8(s:Str):Prop:=Qmf s/\1<=s.length/\s.length<=12
theorem Qkh(how shift k):Qi8 (Qa6 how shift k):=⟨Qk3 how shift k,Qkl how shift k⟩
theorem Qov:ltS ⟨#[c]⟩ ⟨#[d]⟩=decide (c<d):=by unfold ltS;rw[decide_eq_decide,List.cons_lt_cons_iff];simp
theorem Qja{fw:Nat}{tb:List Fn}{f:Nat}(hf:tb[f]?=some ⟨1,1,Qcz,none⟩)(d:Nat)(s:Str)(h:Qaa)(hs:Qi8 s):Qab fw tb (d+1) f [.str s] h=.ok (.bl true) h:=by
 rw[Qac hf rfl]
 generalize Qab fw tb d=cf
 show J.fin h.length (exB cf fw Qcz [some (.str s)] h)=_
 have hl:s.length<=1000:=zf hs.2.2 ZzD
 have ln:evE cf (.blt .len [V0]) [some (.str s)] h=.ok (nat s.length) h:=by
  rw[evE,Qae (Qag (i:=0) (w:=.str s) rfl) Qan,bnd_ok]
  show(if s.length<=1000 then okI s.length h else .stuck)=_
  rw[zF hl];rfl
 have le:∀(a b:Nat) (h:Qaa),a<=b->QbP .LtE (nat a) (nat b) h=.ok (.bl true) h:=λa b h hab=>by
  show okB (decide (((a:Nat):Int)<=((b:Nat):Int))) h=_
  rw[zX ZzL];rfl
 have c1:evE cf (.chn .LtE .LtE (.con (.int 1)) (.blt .len [V0]) I12) [some (.str s)] h=.ok (.bl true) h :=
  QnA (x:=nat 1) (z:=nat 12) Qao ln (le 1 _ h hs.2.1) Qao (le _ 12 h hs.2.2)
 have c2:evE cf (.compS [1] 1 V0 [] (.chn .LtE .LtE (.con (.str "a")) V1 (.con (.str "z")))) [some (.str s)] h=.ok (.lst ((Qif s).map λ_=>W.bl true)) h:=by
  rw[evE,Qag (i:=0) (w:=.str s) rfl,bnd_ok]
  have hi:seqI h (.str s)=some (Qif s):=by
   show(if s.length<=1000 then some (Qif s) else none)=_
   rw[zF hl]
  rw[hi]
  dsimp only
  have ls:(Qif s).length<=100:=by
   have:(Qif s).length=s.length:=by rw[Ql3];simp[Qif]
   have:=hs.2.2
   lia
  rw[QhX (F:=λ_=>W.bl true) rfl (λk e=>by cases e) (Qif s) [] (λw hw us=>⟨by
   obtain⟨c,hc,rfl⟩:=Zx.mp hw
   have hc2:=hs.1 c hc
   have hb:QaL [1] (.str ⟨#[c]⟩) (clr [1] [some (.str s)]++List.replicate 1 none)=some [some (.str s),some (.str ⟨#[c]⟩)]:=rfl
   unfold QbN
   rw[hb]
   dsimp only
   rw[evTs,bnd_ok,zF rfl,QnA (x:=.str "a") (y:=.str ⟨#[c]⟩) (z:=.str "z") (r:=.ok (.bl true) (h++[.lst us])) Qao (U1 rfl) (by
    show okB (!ltS ⟨#[c]⟩ ⟨#[97]⟩) _=_
    rw[Qov,zV ZzL];rfl) Qao (by
    show okB (!ltS ⟨#[122]⟩ ⟨#[c]⟩) _=_
    rw[Qov,zV ZzL];rfl),bnd_ok],rfl⟩) (by rw[List.length_nil];lia),QcJ rfl]
  rfl
 have e:exB cf fw Qcz [some (.str s)] h=.ok (.ret (.bl true)) h:=by
  refine Qar (Qa7 ?_)
  rw[evE,c1,bnd_ok]
  dsimp only
  rw[evE,Qae c2 Qan,bnd_ok]
  show(match Qc4 ((Qif s).map λ_=>W.bl true) with|some bs=>okB (bs.all id) h|none=>.stuck)=_
  have:∀l:List W,∃bs,Qc4 (l.map λ_=>W.bl true)=some bs/\bs.all id=true:=λl=>by
   induction l with
   |nil=>exact⟨[],rfl,rfl⟩
   |cons w l ih =>
    obtain⟨bs,e,q⟩:=ih
    refine⟨true::bs,?_,by simp[q]⟩
    rw[zO,Qc4,e]
    rfl
  obtain⟨bs,e,q⟩:=this (Qif s)
  rw[e]
  dsimp only
  rw[q]
  rfl
 rw[e]
 exact Qav
noncomputable abbrev srt(ss:List Str):List Str:=Qng ltS ss
theorem srt_mem:s∈srt ss↔s∈ss:=(Qbm ss).mem_iff
theorem QbT(ss):(srt ss).length=ss.length:=(Qbm ss).length_eq
theorem QgS{cf:CF}{fw:Nat}{is:List Nat}{a:E}{b:List S}{σ:Qai}{h:Qaa}{t:W}{ws:List W}(ea:evE cf a σ h=.ok t h)(ht:Seq t ws):exS cf fw (.for_ is (.seq a) b) σ h=fo is (exB cf fw b) ws σ h:=by rw[exS,ea];rcases ht with rfl|rfl<;>rfl
theorem fin_nx:J.fin h.length (.ok (.nx σ) h)=.ok .non h:=by
 show Res.ok W.non (h.take h.length)=_
 grind
theorem QoL{cf:CF}{a:E}{σ:Qai}{h:Qaa}{x:W}{ss:List Str}(ea:evE cf a σ h=.ok x h)(hx:seqA h x=some (ss.map W.str))(hl:ss.length<64):evE cf (.blt .tuple [(.blt .sorted [a])]) σ h=.ok (.tup ((srt ss).map W.str)) h:=QcU (QhB ea hx hl)
noncomputable abbrev Qf4(c isn tw : Nat) : List S := [.if_ (.or_ (.cmp .Lt (.blt .len [V0]) (.con (.int 1))) (.cmp .Gt (.blt .len [V0]) (.con (.int 30)))) [.raise c [.lit, .con, .lit]] [],
 .for_ [1] (.seq V0) [.if_ (.not_ (.call isn [V1])) [.raise c [.lit,.rep 1]] []],
 .if_ (.call tw [V0]) [.raise c []] [],
 .ret (.blt .tuple [(.blt .sorted [V0])])]
theorem QgL:J.fin h.length (.exc c h)=.exc c h:=by
 show Res.exc c (h.take h.length)=_
 grind
theorem Qcr{n:Nat}{x r:Res Fl}{y:Res W}(e:x=r)(h:J.fin n r=y):J.fin n x=y:=by grind
theorem sortR{ss:List Str}(hx:seqA h x=some (ss.map W.str))(hl:ss.length<64):QbK .sorted [x] h=.ok (.lst ((srt ss).map W.str)) h:=QhB (cf:=λ_ _ _=>.stuck) (a:=.con x) (σ:=[]) Qao hx hl
theorem lenR{ss:List Str}(hx:Seq x (ss.map W.str)):QbK .len [x] h=.ok (.int ss.length) h:=by rcases hx with rfl|rfl<;>exact congrArg (λn=>Res.ok (nat n) h) (zo ..)
theorem Qop{ss:List Str}:J.fin h.length (.ok (.ret (.tup (ss.map W.str))) h)=.ok (.tup (ss.map W.str)) h:=Qcu (Qak _)
theorem QiZ{fw:Nat}{tb:List Fn}{f c isn tw:Nat}(hf:tb[f]?=some ⟨1,2,Qf4 c isn tw,none⟩)(hi:tb[isn]?=some ⟨1,1,Qcz,none⟩)(ht:tb[tw]?=some ⟨1,1,QcD,none⟩)(d:Nat)(t:W)(ss:List Str)(h:Qaa)(hs:Seq t (ss.map W.str))(h1:1<=ss.length)(h2:ss.length<=30)(hg:∀s∈ss,Qi8 s) :
  Qab fw tb (d+2) f [t] h=if ss.Nodup then .ok (.tup ((srt ss).map W.str)) h else .exc c h:=by
 rw[Qac hf rfl]
 obtain⟨r,e⟩:=Qg9 (i:=1) (body:=exB (Qab fw tb (d+1)) fw [.if_ (.not_ (.call isn [V1])) [.raise c [.lit,.rep 1]] []]) (σ:=[some t,none]) (h:=h) (ss.map W.str) none λw hw=>by obtain⟨s,hs',rfl⟩:=Zx.mp hw;simp! [Qja (fw:=fw) hi d s h (hg s hs')]
 simp_arith at e
 by_cases hn:ss.Nodup<;>simp! [lenR hs,show ¬ ss.length<1 by lia,show ¬ 30<ss.length by lia,QgS (cf:=Qab fw tb (d+1)) (fw:=fw) (is:=[1]) (b:=[.if_ (.not_ (.call isn [V1])) [.raise c [.lit,.rep 1]] []]) (Qag (i:=0) (σ:=[some t,none]) rfl) hs,e,QfD (fw:=fw) ht d t ss h (hs.seqA h) ZzL,hn,sortR (hs.seqA h) (show ss.length<64 by lia),Qop]
theorem QiI{fw:Nat}{tb:List Fn}{f c isn tw:Nat}(hf:tb[f]?=some ⟨1,2,Qf4 c isn tw,none⟩)(hi:tb[isn]?=some ⟨1,1,Qcz,none⟩)(ht:tb[tw]?=some ⟨1,1,QcD,none⟩)(d:Nat)(t:W)(ss:List Str)(h:Qaa)(hs:Seq t (ss.map W.str))(h1:1<=ss.length)(h2:ss.length<=30)(hg:∀s∈ss,Qi8 s)(hn:ss.Nodup) :
  Qab fw tb (d+2) f [t] h=.ok (.tup ((srt ss).map W.str)) h:=by
 rw[QiZ hf hi ht d t ss h hs h1 h2 hg,zF hn]
noncomputable abbrev Ql1(c tw : Nat) : List S := [.if_ (.or_ (.cmp .Lt (.blt .len [V0]) V1) (.cmp .Gt (.blt .len [V0]) V2)) [.raise c [.lit, .var 1, .lit, .var 2, .lit]] [],
 .if_ (.call tw [V0]) [.raise c []] [],
 .ret (.blt .tuple [(.blt .sorted [V0])])]
theorem Qer{fw:Nat}{tb:List Fn}{f c tw:Nat}(hf:tb[f]?=some ⟨3,3,Ql1 c tw,none⟩)(ht:tb[tw]?=some ⟨1,1,QcD,none⟩)(d:Nat)(t:W)(ss:List Str)(lo hi:Nat)(h:Qaa)(hs:Seq t (ss.map W.str))(hl:ss.length<64)(hlo:lo<=1000)(hhi:hi<=1000) :
  Qab fw tb (d+2) f [t,nat lo,nat hi] h=if lo<=ss.length/\ss.length<=hi/\ss.Nodup then .ok (.tup ((srt ss).map W.str)) h else .exc c h:=by
 rw[Qac hf rfl]
 have L:=λn (l:n<=1000)=>zQ l (show 1000<10^100 by decide)
 by_cases l1:ss.length<lo<;>by_cases l2:hi<ss.length<;>by_cases hn:ss.Nodup<;>simp! [lenR hs,nat,l1,l2,L _ hlo,L _ hhi,QfD (fw:=fw) ht d t ss h (hs.seqA h) hl,hn,show lo<=ss.length↔¬ ss.length<lo from Nat.not_lt.symm,show ss.length<=hi↔¬ hi<ss.length from Nat.not_lt.symm,sortR (hs.seqA h) hl,Qop,false_and,and_false]
noncomputable abbrev QlC(c:Nat):List S:=[.for_ [2] (.seq V0) [.if_ (.cmp .NotIn V2 V1) [.raise c [.lit,.rep 2]] []]]
noncomputable abbrev QjZ(c kn : Nat) : List S := [.exp (.call kn [V0, V1]),
 .for_ [3] (.seq V0) [.if_ (.cmp .In V3 V2) [.raise c [.rep 3, .lit]] []]]
theorem Qip{fw:Nat}{tb:List Fn}{f:Nat}(hg:tb[f]?=some ⟨2,4,QoG f,none⟩):∀(d:Nat) (w:W) (h:Qaa),dep w<d->okQ w=true->Qab fw tb d f [w,w] h=.ok (.bl true) h
 |0,w,h,hd,_=>absurd hd (Nat.not_lt_zero _)
 |d+1,w,h,hd,ho=>by
  rw[Qac hg rfl];have seqs (ws:List W) (b1:Bool) (es:seqA h w=some ws) (k1:QaM h w .list=some b1) (k2:QaM h w .tuple=some (!b1)) (oq:Qey ws=true) (hl:ws.length<=100000) (hdp:Qex ws<d) (hix:∀(k:Nat) (u:W),ws[k]?=some u->ixW w (nat k) h=.ok u h):J.fin h.length (exB (Qab fw tb d) fw (QoG f) ([w,w].map some++List.replicate (4-2) none) h)=.ok (.bl true) h:=by
   obtain⟨r',lp⟩:=Qgn (cf:=Qab fw tb d) (fw:=fw) (f:=f) (x:=w) (ws:=ws) (h:=h) (λk hk=>by
    have hm:ws[k]∈ws:=ZM hk
    exact⟨ws[k],hix k _ (zJ hk),Qip hg d ws[k] h (zQ (Qii hm) hdp) (QhD oq hm)⟩) (List.range ws.length) none (λk hk=>ZF.mp hk)
   cases b1<;>simp! [List.mapM_cons,List.mapM_nil,k1,k2,Option.pure_def,Option.bind_eq_bind,Option.bind_some,Bool.not_true,Bool.not_false,zzp,List.any_nil,id,Bool.or_true,Bool.true_or,show QbK .len [w] h=.ok (.int ws.length) h by (show Qg7 _ _=_;unfold Qg7;rw[es];rfl),rg_n (show ws.length<2^62 by lia),lp]
  cases w with
  |int i=>simp[exB,exS,evE,evA,tst,Qok,bnd,QaM,okB,QbP,eqW,J.fin,unr,Qf7,Qah]
  |str i=>simp[exB,exS,evE,evA,tst,Qok,bnd,QaM,okB,QbP,eqW,J.fin,unr,Qf7,Qah]
  |tup ws=>rw[okQ,zE]at ho;rw[dep]at hd;exact seqs ws false rfl rfl rfl ho.1 (Zd ho.2) ZzL λk u e=>Qda rfl e
  |lst ws=>rw[okQ,zE]at ho;rw[dep]at hd;exact seqs ws true rfl rfl rfl ho.1 (Zd ho.2) ZzL λk u e=>Qda rfl e
  |_=>cases ho
theorem QhY{fw:Nat}{tb:List Fn}{d f np ns c:Nat}{fl:List (Bool×E)}{ws:List W}{h:Qaa}(hg:tb[f]?=some ⟨np,ns,[],some (c,fl)⟩)(ht:tb.length<=1000)(hl:ws.length+1=np) :
  Qab fw tb (d+1) (f+2000) ws h=bnd (QcI (Qab fw tb d) (none::ws.map some) fl h) λus h=>.ok (.ins c us) h:=by
 have no1:tb[f+2000]?=none:=ZD.mpr ZzL
 have no2:tb[f+2000-1000]?=none:=ZD.mpr ZzL
 show(match tb[f+2000]? with|some g=>_|none=>match tb[f+2000-1000]? with|some g=>_|none=>match tb[f+2000-2000]? with|some g=>_|none=>_)=_
 simp_all
theorem QdN{cf:CF}{c k:Nat}{a:E}{σ:Qai}{h h1:Qaa}{ws:List W}{w:W}(ea:evE cf a σ h=.ok (.ins c ws) h1)(e:ws[k]?=some w):evE cf (.fld c k a) σ h=.ok w h1:=by rw[evE,ea,bnd_ok];simp_all
theorem Qij(ea:evE cf a σ h=.ok (.ins 1 us) h1)(es':evA cf es σ h1=.ok ws h2)(o:cf f (.ins 1 us::ws) h2=r):evE cf (.mth f a es) σ h=r:=by rw[evE,ea,bnd_ok,zF (show QlZ (.ins 1 us)=true from rfl),es',bnd_ok,o]
noncomputable abbrev reg(ks:List Str)(n:Nat):W:=.ins 1 [.tup (ks.map W.str),.ref n]
noncomputable abbrev st0:W:=.ins 0 [.non,.lst [],.dic [] [],.lst []]
theorem QcN(e:h[n]?=some (.lst ws)):seqA h (.ref n)=some ws:=Qis e
theorem Qd7{h:Qaa}:(h.set n o).take h.length=h.set n o:=by rw[Z3 ZzS]
theorem Qcf{ws:List W}{w:W}:atI (ws++[w]) (-1)=some w:=by unfold atI ixN;simp only[zA,Zm];rw[zM ZzS,zF ZzL,Option.bind_some,show(-1+((ws.length+1:Nat):Int)).toNat=ws.length by lia,zK (zD _),zzP];rfl
theorem Qgk{fw:Nat}{tb:List Fn}{f:Nat}(hf:tb[f]?=some ⟨5,5,[],some (0,[(false,V1),(false,V2),(false,V3),(false,V4)])⟩)(ht:tb.length<=1000)(d:Nat)(a b c e:W)(h:Qaa):Qab fw tb (d+1) (f+2000) [a,b,c,e] h=.ok (.ins 0 [a,b,c,e]) h:=by rw[QhY hf ht rfl];rfl
theorem Qo8{fw:Nat}{tb:List Fn}{f sf cn c isn tw:Nat}(hf:tb[f]?=some ⟨2,2,[],some (1,[(false,(.call cn [V1])),(true,(.lst [(.call (sf+2000) [(.con .non),(.lst []),.dic0,(.lst [])])]))])⟩)
  (hsf:tb[sf]?=some ⟨5,5,[],some (0,[(false,V1),(false,V2),(false,V3),(false,V4)])⟩) (hc:tb[cn]?=some ⟨1,2,Qf4 c isn tw,none⟩) (hi:tb[isn]?=some ⟨1,1,Qcz,none⟩) (htw:tb[tw]?=some ⟨1,1,QcD,none⟩) (ht:tb.length<=1000)
  (d:Nat) (t:W) (ss:List Str) (h:Qaa) (hs:Seq t (ss.map W.str)) (h1:1<=ss.length) (h2:ss.length<=30) (hg:∀s∈ss,Qi8 s) (hn:ss.Nodup):Qab fw tb (d+3) (f+2000) [t] h=.ok (reg (srt ss) h.length) (h++[.lst [st0]]):=by
 rw[QhY hf ht rfl]
 have c1:=QiI (fw:=fw) hc hi htw d t ss h hs h1 h2 hg hn
 have c2:=Qgk (fw:=fw) hsf ht (d+1) .non (.lst []) (.dic [] []) (.lst []) h
 generalize Qab fw tb (d+2)=cf at *
 show bnd (QcI cf [none,some t] _ h) _=_
 rw[QcI,QeX (Qag  rfl) c1,bnd_ok,QcI]
 have e:evF cf (.lst [(.call (sf+2000) [(.con .non),(.lst []),.dic0,(.lst [])])]) [none,some t] h=.ok [st0] h:=by rw[evF,Qae (Qdm (Qae Qao (Qae (Qbv Qan ZzD) (Qae (by rw[evE]) (Qae (Qbv Qan ZzD) Qan)))) c2) Qan,bnd_ok];rfl
 rw[e,bnd_ok,QcI]
 rfl
noncomputable abbrev Qhm:List S:=[.ret (.ix (.fld 1 1 V0) (.neg (.con (.int 1))))]
theorem Qfi{fw:Nat}{tb:List Fn}{f:Nat}(hf:tb[f]?=some ⟨1,1,Qhm,none⟩)(d:Nat)(ks:List Str)(n:Nat)(ws:List W)(w:W)(h:Qaa)(hn:h[n]?=some (.lst (ws++[w])))(hp:Qah w=true):Qab fw tb (d+1) f [reg ks n] h=.ok w h:=by
 rw[Qac hf rfl];generalize Qab fw tb d=cf;show J.fin h.length (exB cf fw Qhm [some (reg ks n)] h)=_;have e:exB cf fw Qhm [some (reg ks n)] h=.ok (.ret w) h:=by refine Qar (Qa7 (Qbr (QdN (U0 rfl) rfl) (rfl) ?_));show(match seqA h (.ref n) with|some ws=>(match atI ws (-1) with|some w=>Res.ok w h|none=>.stuck)|none=>.stuck)=_;rw[QcN hn];dsimp only;rw[Qcf]
 rw[e];unfold J.fin;dsimp only;rw[QaT w hp];simp_all
noncomputable abbrev Qmk:List S:=[.ret (.blt .len [(.fld 1 1 V0)])]
theorem QdD{fw:Nat}{tb:List Fn}{f:Nat}(hf:tb[f]?=some ⟨1,1,Qmk,none⟩)(d:Nat)(ks:List Str)(n:Nat)(ws:List W)(h:Qaa)(hn:h[n]?=some (.lst ws)):Qab fw tb (d+1) f [reg ks n] h=.ok (nat ws.length) h:=by rw[Qac hf rfl,Qar (Qa7 (QcL (QdN (Qag  rfl) rfl) (QcN hn)))];exact Qdk
noncomputable abbrev QhH(lv la:Nat):List S:=[.exp (.call lv [V1,(.fld 1 0 V0),(.fld 0 3 (.mth la V0 []))])]
theorem ev_app{cf:CF}{a e:E}{σ:Qai}{h:Qaa}{n:Nat}{us:List W}{w:W}(ea:evE cf a σ h=.ok (.ref n) h)(hn:h[n]?=some (.lst us))(ee:evE cf e σ h=.ok w h)(hp:Qah w=true)(hz:us.length<=1000000) :
  evE cf (.meth .append a [e]) σ h=.ok .non (h.set n (.lst (us++[w]))):=by
 have z:seqM h (.ref n)=some us:=by show(match h[n]? with|some (.lst ws)=>some ws|_=>none)=some us;rw[hn]
 rw[evE,ea,bnd_ok,zF (show Qbi .append h (.ref n)=true by show(seqM h (.ref n)).isSome=true;rw[z];rfl),QbE,ee]
 show(match h[n]? with|some (.lst us)=>if Qah w=true/\us.length<sizeLine then Res.ok W.non (h.set n (.lst (us++[w]))) else .stuck|_=>.stuck)=_
 rw[hn]
 dsimp only
 rw[zF ⟨hp,zQ hz ZzD⟩]
theorem ev_pop{cf:CF}{a:E}{σ:Qai}{h:Qaa}{n:Nat}{us:List W}{w:W}(ea:evE cf a σ h=.ok (.ref n) h)(hn:h[n]?=some (.lst (us++[w]))):evE cf (.meth .pop a []) σ h=.ok w (h.set n (.lst us)):=by
 have z:seqM h (.ref n)=some (us++[w]):=by show(match h[n]? with|some (.lst ws)=>some ws|_=>none)=some (us++[w]);rw[hn]
 rw[evE,ea,bnd_ok,zF (show Qbi .pop h (.ref n)=true by show(seqM h (.ref n)).isSome=true;simp_all)];show(match h[n]? with|some (.lst us)=>(match us[us.length-1]? with|some w=>Res.ok w (h.set n (.lst us.dropLast))|none=>.stuck)|_=>.stuck)=_;simp_all
noncomputable abbrev Qjx(c nx sf : Nat) : List S := [.asg 5 (.mth nx V0 []),
 .if_ (.cmp .Gt V5 (.con (.int 200))) [.raise c [.lit,.con,.lit]] [],
 .exp (.meth .append (.fld 1 1 V0) [(.call (sf+2000) [V1,V2,V3,V4])]),
 .ret V5]
theorem Qnw{fw:Nat}{tb:List Fn}{f c nx sf:Nat}(hf:tb[f]?=some ⟨5,6,Qjx c nx sf,none⟩)(hnx:tb[nx]?=some ⟨1,1,Qmk,none⟩)(hsf:tb[sf]?=some ⟨5,5,[],some (0,[(false,V1),(false,V2),(false,V3),(false,V4)])⟩)(ht:tb.length<=1000)
  (d:Nat) (ks:List Str) (n:Nat) (ws:List W) (x1 x2 x3 x4:W) (h:Qaa) (hn:h[n]?=some (.lst ws)) (hp:Qaf [x1,x2,x3,x4]=true) (hl:ws.length<=1000) :
  Qab fw tb (d+2) f [reg ks n,x1,x2,x3,x4] h=if 200<ws.length then .exc c h else .ok (nat ws.length) (h.set n (.lst (ws++[.ins 0 [x1,x2,x3,x4]]))):=by
 rw[Qac hf rfl]
 have c1:=QdD (fw:=fw) hnx d ks n ws h hn
 have c2:=Qgk (fw:=fw) hsf ht d x1 x2 x3 x4 h
 generalize Qab fw tb (d+1)=cf at *
 show J.fin h.length (exB cf fw (Qjx c nx sf) [some (reg ks n),some x1,some x2,some x3,some x4,none] h)=_
 let σ1:Qai:=[some (reg ks n),some x1,some x2,some x3,some x4,some (nat ws.length)]
 have s1:exS cf fw (.asg 5 (.mth nx V0 [])) [some (reg ks n),some x1,some x2,some x3,some x4,none] h=.ok (.nx σ1) h:=QaU (Qij (U0 rfl) Qan c1)
 have t1:evT cf (.cmp .Gt V5 (.con (.int 200))) σ1 h=.ok (decide (((200:Nat):Int)<((ws.length:Nat):Int))) h:=Qof (U5 rfl) Qao
 by_cases hb:200<ws.length
 ·rw[zF hb]
  rw[zX ZzL]at t1
  rw[(Qad s1).trans (Qbn ((QjO t1).trans (Qbn (QcR rfl))))]
  show Res.exc c (h.take h.length)=_
  rw[ZC]
 ·rw[zM hb]
  rw[zV ZzL]at t1
  have e:exB cf fw (Qjx c nx sf) [some (reg ks n),some x1,some x2,some x3,some x4,none] h=.ok (.ret (nat ws.length)) (h.set n (.lst (ws++[.ins 0 [x1,x2,x3,x4]]))):=by refine(Qad s1).trans ((Qad (Qd1 t1)).trans ?_);refine(Qad (QhE (ev_app (QdN (U0 rfl) rfl) hn (Qdm (Qae (U1 rfl) (Qae (U2 rfl) (Qae (U3 rfl) (Qae (U4 rfl) Qan)))) c2) (by rw[Qah];exact hp) ZzL))).trans ?_;exact Qar (Qa7 (U5 rfl))
  rw[e]
  show Res.ok _ ((h.set n _).take h.length)=_
  rw[Qd7]
noncomputable abbrev fstW(hs:List Str):W:=bhW [] 1 1 (1,1) hs
noncomputable abbrev Qe6(pb:Nat):List S:=[.ret (.call pb [(.tup []),(.con (.int 1)),(.con (.int 1)),(.con (.tup [(.int 1),(.int 1)])),V0])]
theorem Qj4{fw:Nat}{tb:List Fn}{f pb:Nat}(hf:tb[f]?=some ⟨1,1,Qe6 pb,none⟩)(hpb:tb[pb]?=some ⟨5,5,QaQ,none⟩)(d:Nat)(hs:List Str)(h:Qaa):Qab fw tb (d+2) f [.tup (hs.map W.str)] h=.ok (fstW hs) h:=by
 rw[Qac hf rfl];have c1:=Qa1 (fw:=fw) hpb d 1 1 (1,1) hs [] rfl ZzS h;generalize Qab fw tb (d+1)=cf at *;show J.fin h.length (exB cf fw (Qe6 pb) [some (.tup (hs.map W.str))] h)=_
 have e:exB cf fw (Qe6 pb) [some (.tup (hs.map W.str))] h=.ok (.ret (fstW hs)) h :=
  Qar (Qa7 (Qdm (Qae (Qen Qan ZzS) (Qae Qao (Qae Qao (Qae Qao (Qae (Qag  rfl) Qan))))) c1))
 rw[e];exact QbX (Qax  rfl) (λn z=>by cases (z)) rfl
noncomputable abbrev Qli(c gp cp la kp fp : Nat) : List S := [.asg 2 (.call gp [V1, (.con (.int 1)), (.con (.int 6))]),
 .exp (.mth cp V0 [V2]),
 .asg 3 (.mth la V0 []),
 .if_ (.cmp .IsNot (.fld 0 0 V3) (.con .non)) [.raise c []] [],
 .ret (.mth kp V0 [(.tup [(.con (.str "grant")), V2]), (.lst [(.call fp [V2])]), (.fld 0 2 V3), (.fld 0 3 V3)])]
noncomputable abbrev QlT(c la : Nat) : List S := [.if_ (.cmp .Is (.fld 0 0 (.mth la V0 [])) (.con .non)) [.raise c []] [],
 .ret (.fld 0 0 (.meth .pop (.fld 1 1 V0) []))]
theorem QmR{fw:Nat}{tb:List Fn}{f c la:Nat}(hf:tb[f]?=some ⟨1,1,QlT c la,none⟩)(hla:tb[la]?=some ⟨1,1,Qhm,none⟩)(d:Nat)(ks:List Str)(n:Nat)(ws:List W)(a:W)(r:List W)(h:Qaa)(hn:h[n]?=some (.lst (ws++[.ins 0 (a::r)])))(hp:Qaf (a::r)=true) :
  Qab fw tb (d+2) f [reg ks n] h=if QaW a=true then .exc c h else .ok a (h.set n (.lst ws)):=by
 rw[Qac hf rfl]
 have c3:=Qfi (fw:=fw) hla d ks n ws (.ins 0 (a::r)) h hn (by rw[Qah];exact hp)
 generalize Qab fw tb (d+1)=cf at *
 show J.fin h.length (exB cf fw (QlT c la) [some (reg ks n)] h)=_
 have t1:evT cf (.cmp .Is (.fld 0 0 (.mth la V0 [])) (.con .non)) [some (reg ks n)] h=.ok (QaW a) h:=QaX (Qbo (QdN (w:=a) (Qij (U0 rfl) Qan c3) rfl) Qao rfl)
 cases hq:QaW a with
 |true =>
  rw[hq]at t1
  rw[Qbn ((QjO t1).trans (Qbn (QcR rfl))),zF rfl]
  show Res.exc c (h.take h.length)=_
  rw[ZC]
 |false =>
  rw[hq]at t1
  have e:exB cf fw (QlT c la) [some (reg ks n)] h=.ok (.ret a) (h.set n (.lst ws)) :=
   (Qad (Qd1 t1)).trans (Qar (Qa7 (QdN (ev_pop (QdN (U0 rfl) rfl) hn) rfl)))
  rw[e,zM ZzD]
  unfold J.fin
  dsimp only
  rw[Qaf,zE]at hp
  rw[QaT a hp.1]
  rw[Qd7]
noncomputable abbrev Qoy(la:Nat):List S:=[.ret (.blt .list [(.fld 0 1 (.mth la V0 []))])]
theorem Qj0{fw:Nat}{tb:List Fn}{f la:Nat}(hf:tb[f]?=some ⟨1,1,Qoy la,none⟩)(hla:tb[la]?=some ⟨1,1,Qhm,none⟩)(d:Nat)(ks:List Str)(n:Nat)(ws:List W)(a:W)(ps r:List W)(h:Qaa)(hn:h[n]?=some (.lst (ws++[.ins 0 (a::.lst ps::r)])))(hp:Qaf (a::.lst ps::r)=true) :
  Qab fw tb (d+2) f [reg ks n] h=.ok (.lst ps) h:=by
 rw[Qac hf rfl]
 have c3:=Qfi (fw:=fw) hla d ks n ws (.ins 0 (a::.lst ps::r)) h hn (by rw[Qah];exact hp)
 rw[Qar (Qa7 (QgY (QdN (Qij (U0 rfl) Qan c3) rfl)))]
 rw[Qaf,Qaf,zE,zE]at hp
 exact QbX hp.2.1 (λn z=>by cases z) rfl
noncomputable abbrev bDeeds:List S:=[.ret (.compS [1] 1 (.sl (.fld 1 1 V0) (some (.con (.int 1))) none) [] (.fld 0 0 V1))]
noncomputable def aft1(nx:Str->Option Str)(gone:List Str)(n:Str)(cur:List Str):List Str:=if Qa5 n cur=true then(if cur.length=1 then [Qd2 nx (λy=>Qa5 y gone) n 31 n] else cur.filter λs=>!decide (s=n)) else cur
noncomputable def aftO(nx:Str->Option Str):List Str->List Str->List Str->List Str
 |[],_,cur=>cur
 |n::o,gone,cur=>aftO nx o (gone++[n]) (aft1 nx gone n cur)
noncomputable def lastIn(hs:List Str):List Str->Str->Str
 |[],l=>l
 |n::o,l=>lastIn hs o (if Qa5 n hs=true then n else l)
noncomputable def QaE(hs done:List Str):List Str:=hs.filter λs=>!Qa5 s done
theorem Qfy{cf:CF}{is:List Nat}{n:Nat}{a elt:E}{σ:Qai}{h:Qaa}{x:W}{ws:List W}{F:W->W}(ea:evE cf a σ h=.ok x h)(hs:seqA h x=some ws)(hr:∀k,Qho x=some k->k<h.length)(hm:ws.length<=1000)
  (hF:∀w∈ws,Qah (F w)=true/\∃σ',QaL is w (clr is σ++List.replicate n none)=some σ'/\∀hh,evE cf elt σ' hh=.ok (F w) hh):evE cf (.compS is n a [] elt) σ h=.ok (.lst (ws.map F)) h:=by
 rw[evE,ea,bnd_ok,QjT hs]
 dsimp only
 rw[QhX  rfl hr ws [] (λw hw us=>?_) (by grind),QcJ rfl,zzf]
 obtain⟨p,σ',eb,ee⟩:=hF w hw
 exact⟨Qfs eb (ee _),p⟩
theorem Seq.noref(h:Seq t ws):∀{m:Nat} (k:Nat),Qho t=some k->k<m:=λk e=>by rcases h with rfl|rfl<;>cases e
theorem Seq.dic(h:Seq t ws)(hh:Qaa):QaO hh t=none:=by rcases h with rfl|rfl<;>rfl
theorem ev_zip{cf:CF}{a b:E}{σ:Qai}{h:Qaa}{x y:W}{us vs:List W}(ea:evE cf a σ h=.ok x h)(eb:evE cf b σ h=.ok y h)(hx:Seq x us)(hy:Seq y vs):evE cf (.zipE a b) σ h=.ok (.lst (List.zipWith (λu v=>W.tup [u,v]) us vs)) h:=by rw[evE,ea,bnd_ok,eb,bnd_ok,hx.seqA [],hy.seqA []]
noncomputable abbrev Qci:List S:=[.ret (.blt .tuple [(.compS [2] 1 V0 [(.cmp .NotIn V2 V1)] V2)])]
theorem Qep{fw:Nat}{tb:List Fn}{f:Nat}(hf:tb[f]?=some ⟨2,2,Qci,none⟩)(d:Nat)(x y:W)(hs gs:List Str)(h:Qaa)(hx:Seq x (hs.map W.str))(hy:Seq y (gs.map W.str))(hl:hs.length<=1000):Qab fw tb (d+1) f [x,y] h=.ok (.tup ((QaE hs gs).map W.str)) h:=by
 rw[Qac hf rfl];generalize Qab fw tb d=cf;show J.fin h.length (exB cf fw Qci [some x,some y] h)=_
 have e:exB cf fw Qci [some x,some y] h=.ok (.ret (.tup ((QaE hs gs).map W.str))) h :=
  Qar (Qa7 (QcU (Qcb     (Qag  rfl) (hx.seqA h) hl (λs _ hh=>Qdr   (U2 rfl) (U1 rfl) (hy.dic hh) (hy.seqA hh)) ZzS)))
 rw[e];exact Qcu (Qak _)
theorem QmD(s name):Qa5 s [name]=decide (s=name):=by rw[QaR];simp
theorem Qku(hs)(n):QaE hs [n]=hs.filter λs=>!decide (s=n):=by unfold QaE;congr 1;funext s;rw[QmD]
noncomputable abbrev hdW(hs:List Str):W:=.tup (hs.map W.str)
theorem eqvS:∀hs us:List Str,PyData.eqvAll (QgA (hs.map W.str)) (QgA (us.map W.str))=decide (hs=us)
 |[],[]=>rfl
 |[],_::_=>rfl
 |_::_,[]=>rfl
 |h::hs,u::us=>by rw[zO,zO,QgA,QgA,toP,toP,PyData.eqvAll,PyData.eqv,eqvS hs us,zzY];simp
theorem Qdq{hs:List Str}(h:∀s∈hs,QaI s):SeqAt.shaped (toP (.lst (hs.map W.str)))=true:=by rw[toP];unfold SeqAt.shaped;rw[PyData.canLay0,Qf6 h,PyData.depth,QdK];rfl
theorem eqW_L{h:Qaa}{hs us:List Str}(h1:∀s∈hs,QaI s)(h2:∀s∈us,QaI s):eqW h (.lst (hs.map W.str)) (.lst (us.map W.str))=some (decide (hs=us)):=by
 have d1:∀zs:List Str,QbQ h (.lst (zs.map W.str))=some (.lst (zs.map W.str)):=λzs=>by show(if okP (.lst (zs.map W.str))=true then some _ else none)=_;rw[okP,zF (QeP zs)]
 show(match QbQ h (.lst (hs.map W.str)),QbQ h (.lst (us.map W.str)) with|some a,some b=>(if(SeqAt.shaped (toP a)&&SeqAt.shaped (toP b))=true then some (PyData.eqv (toP a) (toP b)) else none)|_,_=>none)=_;rw[d1,d1];dsimp only;rw[Qdq h1,Qdq h2,zF (show(true&&true)=true from rfl),toP,toP,PyData.eqv,eqvS]
theorem ev_eqL{cf:CF}{a b:E}{σ:Qai}{h:Qaa}{hs us:List Str}(ea:evE cf a σ h=.ok (.lst (hs.map W.str)) h)(eb:evE cf b σ h=.ok (.lst (us.map W.str)) h)(h1:∀s∈hs,QaI s)(h2:∀s∈us,QaI s):evT cf (.cmp .Eq a b) σ h=.ok (decide (hs=us)) h:=by refine QaX (Qbo ea eb ?_);show(match eqW h (.lst (hs.map W.str)) (.lst (us.map W.str)) with|some b=>okB b h|none=>.stuck)=_;rw[eqW_L h1 h2];rfl
theorem QlF{cf:CF}{a b:E}{σ:Qai}{h:Qaa}{us vs:List W}(ea:evE cf a σ h=.ok (.lst us) h)(eb:evE cf b σ h=.ok (.lst vs) h)(hl:us.length+vs.length<=1000):evE cf (.bin .Add a b) σ h=.ok (.lst (us++vs)) h:=by rw[evE,ea,bnd_ok,eb];show okL (Qd3 (some us) (some vs) h)=_;unfold Qd3 okL;dsimp only;rw[zF (by rw[Zj];lia),bnd_ok]
noncomputable def ppl(m how shift:Nat):List Str:=(List.range m).map (Qa6 how shift)
theorem Qol(hm:m<=60):(ppl m how shift).Nodup:=by unfold ppl;rw[List.nodup_iff_pairwise_ne,List.pairwise_map];exact List.Pairwise.imp_of_mem (λ{a b} ha hb hne e=>hne (Qm1 how shift (by have:=ZF.mp ha;lia) (by have:=ZF.mp hb;lia) e)) (List.nodup_iff_pairwise_ne.mp List.nodup_range)
theorem Qm5:∀s∈ppl m how shift,Qi8 s:=λs hs=>by obtain⟨k,_,rfl⟩:=Zx.mp hs;exact Qkh how shift k
theorem ppl_nm:∀s∈ppl m how shift,QaI s:=λs hs=>by obtain⟨k,_,rfl⟩:=Zx.mp hs;exact QpU how shift k
theorem QbG:(ppl m how shift).length=m:=by simp[ppl]
theorem Qmz{is:List Nat}{body:Qai->Qaa->Res Fl}{w:W}{ws:List W}{σ σ1 σ':Qai}{h h2:Qaa}(hb:QaL is w σ=some σ1)(e:body σ1 h=.ok (.cnt σ') h2):fo is body (w::ws) σ h=fo is body ws σ' h2:=by rw[fo];simp_all
theorem Qk8{is:List Nat}{body:Qai->Qaa->Res Fl}{Iv:Nat->Qai->Qaa->Prop}:∀(ws:List W) (i:Nat) (σ:Qai) (h:Qaa),
  (∀j w σ h,ws[j]?=some w->Iv (i+j) σ h->∃σ1 σ2 h2,QaL is w σ=some σ1/\(body σ1 h=.ok (.nx σ2) h2\/body σ1 h=.ok (.cnt σ2) h2)/\Iv (i+j+1) σ2 h2)->Iv i σ h->∃σ2 h2,fo is body ws σ h=.ok (.nx σ2) h2/\Iv (i+ws.length) σ2 h2
 |[],i,σ,h,_,q=>⟨σ,h,by rw[fo],q⟩
 |w::ws,i,σ,h,st,q=>by
  obtain⟨σ1,σ2,h2,e1,e2,q2⟩:=st 0 w σ h rfl q;obtain⟨σ3,h3,e3,q3⟩:=Qk8 ws (i+1) σ2 h2 (λj w σ h e q=>by
   have:=st (j+1) w σ h (by simpa using e) (by grind)
   rw[show i+(j+1)+1=i+1+j+1 by lia]at this
   exact this) q2
  refine⟨σ3,h3,?_,by grind⟩;rcases e2 with e2|e2;exact(Qb0 e1 e2).trans e3;exact(Qmz e1 e2).trans e3
theorem QjP{α:Type}(f:Nat->α->W):∀(r:List α) (g:Nat->Nat),List.zipWith (λn s=>f n s) ((List.range r.length).map g) r=r.mapIdx λi s=>f (g i) s:=λr g=>by
 refine List.ext_getElem? λi=>?_;rw[List.getElem?_zipWith,ZL];cases e:r[i]? with
 |none=>simp
 |some s=>have hi:=(ze.mp e).1;simp_all
structure Pt.G (fw:Nat) (x:Pt):Prop where
 q0:0<x.q
 qz:x.q*6<2^9000
 qf:x.q*6<fw
 pz:x.p<2^9000
 h0:1<=x.hs.length
 h1:x.hs.length<=6
 pu:Qaf x.tr=true
 tl:x.tr.length<=900
noncomputable def evn(x:Pt):Nat×Nat:=low x.p (x.q*x.hs.length)
noncomputable def mk1(heir:Str->Str)(g:List Str)(dd n:Nat)(x:Pt):W:=if(QaE x.hs g).length=x.hs.length then ptW x else if 0<(QaE x.hs g).length then bhW x.tr dd n (x.p,x.q) (QaE x.hs g) else bhW x.tr dd n (evn x) [heir (x.hs.headD Qct)]
noncomputable def Qdp(heir:Str->Str)(g:List Str)(dd m:Nat)(x:Pt):List W:=if(QaE x.hs g).length=0 then x.hs.tail.mapIdx λi s=>bhW x.tr dd (m+1+i) (evn x) [heir s] else []
noncomputable def Qbg(heir:Str->Str)(g:List Str)(dd:Nat):List Pt->Nat->List W
 |[],_=>[]
 |x::xs,m=>Qdp heir g dd m x++Qbg heir g dd xs (m+(Qdp heir g dd m x).length)
theorem Qdn(heir:Str->Str)(g)(dd)(x):∀l m,Qbg heir g dd (l++[x]) m=Qbg heir g dd l m++Qdp heir g dd (m+(Qbg heir g dd l m).length) x
 |[],m=>by simp[Qbg]
 |y::l,m=>by rw[List.cons_append,Qbg,Qdn heir g dd x l,Qbg,ZP,zA,<- Nat.add_assoc]
noncomputable def QeO(heir:Str->Str)(g:List Str)(dd:Nat)(xs:List Pt)(j:Nat):List W:=((xs.take j).mapIdx λi x=>mk1 heir g dd (i+1) x)++(xs.drop j).map ptW++Qbg heir g dd (xs.take j) xs.length
theorem Qiv{heir:Str->Str}{g:List Str}{dd m:Nat}{x:Pt}(h:x.hs.length<=6):(Qdp heir g dd m x).length<=5:=by
 unfold Qdp
 grind
theorem Qeg{heir:Str->Str}{g:List Str}{dd:Nat}:∀{l:List Pt}{m:Nat},(∀x∈l,x.hs.length<=6)->(Qbg heir g dd l m).length<=5*l.length
 |[],_,_=>by simp[Qbg]
 |x::l,m,h=>by
  rw[Qbg,zA,z0]
  have h1:=Qiv (heir:=heir) (g:=g) (dd:=dd) (m:=m) (h x zN)
  have h2:=Qeg (heir:=heir) (g:=g) (dd:=dd)  (m:=m+(Qdp heir g dd m x).length) λy hy=>h y (zB _ hy)
  lia
theorem Qhq{heir:Str->Str}{g:List Str}{dd j:Nat}{xs:List Pt}(hj:j<=xs.length):(QeO heir g dd xs j).length=xs.length+(Qbg heir g dd (xs.take j) xs.length).length:=by
 unfold QeO
 grind
theorem aftL_0:QeO heir g dd xs 0=xs.map ptW:=by simp[QeO,Qbg]
theorem QlG{heir:Str->Str}{g:List Str}{dd j:Nat}{xs:List Pt}{x:Pt}(e:xs[j]?=some x):∃A B:List W,A.length=j/\QeO heir g dd xs j=A++ptW x::B/\QeO heir g dd xs (j+1)=A++mk1 heir g dd (j+1) x::B++Qdp heir g dd (QeO heir g dd xs j).length x:=by
 obtain⟨hj,ex⟩:=ze.mp e;have et:xs.take (j+1)=xs.take j++[x]:=by rw[List.take_succ,e];rfl
 have lt:(xs.take j).length=j:=by rw[Zk];lia
 refine⟨(xs.take j).mapIdx (λi x=>mk1 heir g dd (i+1) x),(xs.drop (j+1)).map ptW++Qbg heir g dd (xs.take j) xs.length,by rw[ZJ,lt],?_,?_⟩;unfold QeO;rw[zzR hj,ex,zO,ZP];rfl;rw[Qhq (zz6 hj)];unfold QeO;rw[et,Qdn,List.mapIdx_concat,lt];simp
theorem QlR(h:x.G fw):Qah (mk1 heir g dd n x)=true:=by unfold mk1;split;simp[ptW,Qah,Qaf,Qak,h.pu];split<;>exact Qax h.pu
theorem QfN(h:x.G fw):Qaf (Qdp heir g dd m x)=true:=by unfold Qdp;split;refine Qbe λw hw=>?_;obtain⟨i,hi,rfl⟩:=zzE.mp hw;exact Qax h.pu;rfl
noncomputable abbrev Qdi(pc pb : Nat) : List S := [.asg 4 (.call pc [(.ix V0 (.con (.int 0))), (.con (.int 1)), (.blt .len [V2])]),
 .ret (.compS [5, 6] 2 (.zipE V1 V2) [] (.call pb [(.ix V0 (.con (.int 2))), V3, V5, V4, (.tup [V6])]))]
noncomputable def bhF(x:Pt)(dd:Nat)(w:W):W:=match w with
 |.tup [.int n,.str s]=>bhW x.tr dd n.toNat (evn x) [s]
 |_=>.non
theorem QiQ{fw:Nat}{tb:List Fn}{f pc pb l g:Nat}(hf:tb[f]?=some ⟨4,5,Qdi pc pb,none⟩)(hpc:tb[pc]?=some ⟨3,3,QeH l,none⟩)(hl:tb[l]?=some ⟨2,3,bLow g,none⟩)(hg:tb[g]?=some ⟨2,3,Qmb,none⟩)(hpb:tb[pb]?=some ⟨5,5,QaQ,none⟩)(d:Nat)(x:Pt)(ns:List Nat)(hs:List Str)(dd:Nat)(h:Qaa)(hx:x.G fw)(hh:hs.length=x.hs.length)(hn:ns.length<=1000) :
  Qab fw tb (d+4) f [ptW x,.lst (ns.map nat),.lst (hs.map W.str),nat dd] h=.ok (.lst (List.zipWith (λn s=>bhW x.tr dd n (evn x) [s]) ns hs)) h:=by
 rw[Qac hf rfl]
 have h6:x.q*x.hs.length<=x.q*6:=Nat.mul_le_mul_left _ hx.h1
 have p:=QfZ (fw:=fw) hpc hl hg d x.p x.q 1 x.hs.length h (Qg1 (zj hx.pz (z9 ZzD ZzD)) (by exact Nat.one_lt_two_pow ZzD)) (Qg1 (zj (zQ (Nat.le_mul_of_pos_right _ ZzD) hx.qz) (z9 ZzD ZzD)) (zQ hx.h1 (zj (show 6<2^3 by decide) (z9 ZzD ZzD)))) hx.q0 hx.h0 (zQ h6 hx.qz) (zQ h6 hx.qf)
 rw[Nat.mul_one]at p
 have b:=λ(n:Nat) (s:Str) (hh:Qaa)=>Qa1 (fw:=fw) hpb (d+2) dd n (evn x) [s] x.tr hx.pu (zf hx.tl ZzD) hh
 generalize Qab fw tb (d+3)=cf at *
 let σ (a4:Option W):Qai:=[some (ptW x),some (.lst (ns.map nat)),some (.lst (hs.map W.str)),some (nat dd),a4]
 show J.fin h.length (exB cf fw (Qdi pc pb) (σ none) h)=_
 have zz:∀(ns:List Nat) (hs:List Str),List.zipWith (λu v=>W.tup [u,v]) (ns.map nat) (hs.map W.str)=List.zipWith (λn s=>W.tup [nat n,.str s]) ns hs:=λns hs=>by rw[List.zipWith_map_left,List.zipWith_map_right]
 have e:exB cf fw (Qdi pc pb) (σ none) h=.ok (.ret (.lst (List.zipWith (λn s=>bhW x.tr dd n (evn x) [s]) ns hs))) h:=by
  refine(Qad (QaU (w:=shp (evn x)) (Qdm (Qae (ix_sh (x:=x) (U0 rfl)) (Qae (Qao (w:=nat 1)) (Qae ((QcL (x:=.lst (hs.map W.str)) (U2 rfl) rfl).trans (by rw[zo,hh])) Qan))) p))).trans (Qar (Qa7 ?_))
  have q:=Qfy (cf:=cf) (is:=[5,6]) (n:=2) (a:=.zipE V1 V2)  (σ:=σ (some (shp (evn x)))) (h:=h) (F:=bhF x dd)
   (ev_zip (U1 rfl) (U2 rfl) (.inl rfl) (.inl rfl)) rfl (λk e=>by cases e) (by rw[zz,List.length_zipWith];lia) (λw hw=>by
   rw[zz]at hw
   obtain⟨i,hi,rfl⟩:=List.mem_iff_getElem.mp hw
   rw[List.getElem_zipWith]
   exact⟨by show Qah (bhW _ _ _ _ _)=true;exact Qax hx.pu,_,rfl,λhh2=>Qdm (Qae (ix_tr (x:=x) (U0 rfl)) (Qae (U3 rfl) (Qae (U5 rfl) (Qae (U4 rfl) (Qae (Qen (Qae (Qag (i:=6) rfl) Qan) (by show 1<=1000;decide)) Qan))))) (b _ _ hh2)⟩)
  refine q.trans ?_;rw[zz,List.map_zipWith];rfl
 rw[e]
 refine QbX ?_ (λn z=>by cases z) rfl
 rw[Qah]
 refine Qbe λw hw=>?_
 obtain⟨i,hi,rfl⟩:=List.mem_iff_getElem.mp hw
 rw[List.getElem_zipWith]
 exact Qax hx.pu
noncomputable abbrev tDie(wi hr pb fl : Nat) : List S := [.asg 8 (.ix V7 (.con (.int 1))),
 .asg 9 (.call wi [V8,V1]),
 .if_ (.cmp .Eq (.blt .len [V9]) (.blt .len [V8])) [.cnt] [],
 .if_ (.cmp .Gt (.blt .len [V9]) (.con (.int 0))) [.setix V5 (.bin .Sub V6 (.con (.int 1))) (.call pb [(.ix V7 (.con (.int 2))),V4,V6,(.ix V7 (.con (.int 0))),V9])] [.asg 10 (.compS [14] 1 V8 [] (.call hr [V14,V2,V13])),
 .asg 11 (.bin .Add (.lst [V6]) (.lrng (.bin .Add (.blt .len [V5]) (.con (.int 1))) (.bin .Add (.blt .len [V5]) (.blt .len [V10])))),
 .asg 12 (.call fl [V7,V11,V10,V4]),
 .setix V5 (.bin .Sub V6 (.con (.int 1))) (.ix V12 (.con (.int 0))),
 .exp (.meth .extend V5 [(.sl V12 (some (.con (.int 1))) none)])]]
theorem QjU{A B:List W}{w v:W}{j:Nat}(h:A.length=j):(A++w::B).set j v=A++v::B:=by simp_all
noncomputable abbrev hDie(wi hr pb fl:Nat)(r:List S):List S:=.asg 13 (.bin .Add (.blt .list [V3]) (.blt .list [V1]))::.fresh 5 (.blt .list [V0])::.for_ [6,7] (.seq (.enmE 1 V0)) (tDie wi hr pb fl)::r
theorem Qox{ss:List Str}{F:Str->Str}(ea:evE cf a σ h=.ok x h)(hx:Seq x (ss.map W.str))(hl:ss.length<=1000)(hF:∀s∈ss,∀hh,evE cf elt ((clr [i] σ++List.replicate n none).set i (some (.str s))) hh=.ok (.str (F s)) hh):evE cf (.compS [i] n a [] elt) σ h=.ok (.lst ((ss.map F).map W.str)) h:=by refine(Qfy (F:=λw=>match w with|.str s=>.str (F s)|_=>.non) ea (hx.seqA h) (hx.noref) (by simp_all) (λw hw=>?_)).trans (by rw[zzm,zzm];rfl);obtain⟨s,hs,rfl⟩:=Zx.mp hw;exact⟨rfl,_,rfl,hF s hs⟩
theorem Qmd{fw:Nat}{tb:List Fn}{wi hr pb fl pc l g:Nat}(hwi:tb[wi]?=some ⟨2,2,Qci,none⟩)(hhr:tb[hr]?=some ⟨3,5,QdY,none⟩)(hpb:tb[pb]?=some ⟨5,5,QaQ,none⟩)(hfl:tb[fl]?=some ⟨4,5,Qdi pc pb,none⟩)
  (hpc:tb[pc]?=some ⟨3,3,QeH l,none⟩) (hll:tb[l]?=some ⟨2,3,bLow g,none⟩) (hg:tb[g]?=some ⟨2,3,Qmb,none⟩) (d:Nat) (t gW:W) (xs:List Pt) (gs ks vs dead P:List Str) (dd:Nat) (h:Qaa)
  (ht:Seq t (xs.map ptW)) (hgs:Seq gW (gs.map W.str)) (hP:P.length<=30) (hgP:∀s∈gs,s∈P) (hv:∀y∈vs,y∈P) (hkv:ks.length=vs.length) (hw:31<=fw) (hx:∀x∈xs,x.G fw) (hxl:xs.length<=60) (hdl:dead.length+gs.length<=1000) :
  ∃σ2:Qai,σ2[5]?=some (some (.ref h.length))/\∀r,exB (Qab fw tb (d+4)) fw (hDie wi hr pb fl r) [some t,some gW,some (.dic ks (vs.map W.str)),some (.lst (dead.map W.str)),some (nat dd),none,none,none,none,none,none,none,none,none] h =
   exB (Qab fw tb (d+4)) fw r σ2 (h++[.lst (QeO (λs=>Qd2 (nxS ks vs) (λy=>Qa5 y (dead++gs)) s 31 s) gs dd xs xs.length)]):=by
 let heir:Str->Str:=λs=>Qd2 (nxS ks vs) (λy=>Qa5 y (dead++gs)) s 31 s
 have c1:=λ(name:Str) (hh:Qaa) (hn:name∈P)=>Qq3 (fw:=fw) hhr (d+3) name ks vs (dead++gs) P hh hP hn hv hkv hw
 have c7:=λ(x:Pt) (ns:List Nat) (hs:List Str) (hh:Qaa)=>QiQ (fw:=fw) hfl hpc hll hg hpb d x ns hs dd hh
 let Iv:Nat->Qai->Qaa->Prop:=λj s hh=>∃r6 r7 r8 r9 r10 r11 r12,s=[some t,some gW,some (.dic ks (vs.map W.str)),some (.lst (dead.map W.str)),some (nat dd),some (.ref h.length),r6,r7,r8,r9,r10,r11,r12,some (.lst ((dead++gs).map W.str))]/\hh=h++[.lst (QeO heir gs dd xs j)]
 obtain⟨σ2,hh,lp,r6,r7,r8,r9,r10,r11,r12,rfl,rfl⟩:∃σ2 hh,fo [6,7] (exB (Qab fw tb (d+4)) fw (tDie wi hr pb fl)) ((xs.map ptW).mapIdx λi u=>W.tup [.int (1+(i:Int)),u]) [some t,some gW,some (.dic ks (vs.map W.str)),some (.lst (dead.map W.str)),some (nat dd),some (.ref h.length),none,none,none,none,none,none,none,some (.lst ((dead++gs).map W.str))] (h++[.lst (QeO heir gs dd xs 0)])=.ok (.nx σ2) hh/\Iv (0+_) σ2 hh:=by
  refine Qk8 (Iv:=Iv) _ 0 _ _ (λj w s hh ew q=>?_) ⟨_,_,_,_,_,_,_,rfl,rfl⟩;rw[ZV]at q ⊢;obtain⟨r6,r7,r8,r9,r10,r11,r12,rfl,rfl⟩:=q;rw[ZL,zT]at ew;rcases ex:xs[j]? with _|x<;>rw[ex]at ew<;>cases ew;have hj:=(ze.mp ex).1;have hxx:=hx x (zC ex);have h0:=hxx.h0;have h1:=hxx.h1;obtain⟨A,B,la,eA,eB⟩:=QlG (heir:=heir) (g:=gs) (dd:=dd) ex;have en:(1+(j:Int))=((j+1:Nat):Int):=ZzL;have hL:=Qhq (heir:=heir) (g:=gs) (dd:=dd) (xs:=xs) (j:=j) (zz6 hj);have hN:=Qeg (heir:=heir) (g:=gs) (dd:=dd) (l:=xs.take j) (m:=xs.length) λy hy=>(hx y (List.mem_of_mem_take hy)).h1;rw[Zk]at hN;have c0:=λhh=>Qep (fw:=fw) hwi (d+3) (.tup (x.hs.map W.str)) gW x.hs gs hh (.inr rfl) hgs (zf h1 ZzD);have b:=λn s hs hh=>Qa1 (fw:=fw) hpb (d+3) dd n s hs x.tr hxx.pu (zf hxx.tl ZzD) hh;simp only[Iv,en,eB];generalize QeO heir gs dd xs j=cur at *;by_cases qa:(QaE x.hs gs).length=x.hs.length;refine⟨_,_,_,rfl,.inr (by simp! [c0,qa];rfl),_,_,_,_,_,_,_,rfl,?_⟩;have e2:mk1 heir gs dd (j+1) x=ptW x:=zF qa;have e3:Qdp heir gs dd cur.length x=[]:=zM ZzL;rw[e2,e3,Zf,<- eA];by_cases qb:0<(QaE x.hs gs).length;have e2:mk1 heir gs dd (j+1) x=bhW x.tr dd (j+1) (x.p,x.q) (QaE x.hs gs):=by unfold mk1;rw[zM qa,zF qb]
  have e3:Qdp heir gs dd cur.length x=[]:=zM ZzL;refine⟨_,_,_,rfl,.inl (by simp! [c0,qa,qb,b (j+1) (x.p,x.q),Qax hxx.pu,QdZ (show j<cur.length by lia)];rfl),_,_,_,_,_,_,_,rfl,?_⟩;rw[e2,e3,Zf,eA,QjU la];have ln:QaE x.hs gs=[]:=List.length_eq_zero_iff.mp ZzL;have hin:∀s∈x.hs,s∈P:=λs hs=>hgP s (by
   have:=List.filter_eq_nil_iff.mp ln s hs
   simpa [QaR] using this)
  obtain⟨s0,r0,ehs⟩:=List.exists_cons_of_ne_nil (l:=x.hs) (λe=>by rw[e]at h0;exact absurd h0 ZzD);have k1:x.hs.length-1=r0.length:=by rw[ehs,z0];lia
  have e2:mk1 heir gs dd (j+1) x=bhW x.tr dd (j+1) (evn x) [heir s0]:=by unfold mk1;rw[zM qa,zM qb,ehs];rfl
  have eh:∀r10 r11 r12 hh,evE (Qab fw tb (d+4)) (.compS [14] 1 V8 [] (.call hr [V14,V2,V13])) [some t,some gW,some (.dic ks (vs.map W.str)),some (.lst (dead.map W.str)),some (nat dd),some (.ref h.length),some (nat (j+1)),some (ptW x),some (.tup (x.hs.map W.str)),some (.tup ((QaE x.hs gs).map W.str)),r10,r11,r12,some (.lst ((dead++gs).map W.str))] hh=.ok (.lst ((x.hs.map heir).map W.str)) hh:=λr10 r11 r12 hh=>Qox (by simp! []) (.inr rfl) ZzL λs hs hh=>by (simp! [c1 s hh (hin s hs)];rfl)
  have efp:List.zipWith (λn s=>bhW x.tr dd n (evn x) [s]) ((j+1)::(List.range (x.hs.length-1)).map λi=>cur.length+1+i) (x.hs.map heir)=bhW x.tr dd (j+1) (evn x) [heir s0]::Qdp heir gs dd cur.length x:=by unfold Qdp;rw[zF ZzL,ehs,zO,List.zipWith_cons_cons,List.tail_cons,z0,Nat.add_sub_cancel,List.zipWith_map_right];exact congrArg (List.cons _) (QjP (λn s=>bhW x.tr dd n (evn x) [heir s]) r0 (λi=>cur.length+1+i))
  have f:Qab fw tb (d+4) fl [ptW x,.lst (nat (j+1)::(List.range (x.hs.length-1)).map λi=>nat (cur.length+1+i)),.lst ((x.hs.map heir).map W.str),nat dd] (h++[.lst cur])=.ok (.lst (bhW x.tr dd (j+1) (evn x) [heir s0]::Qdp heir gs dd cur.length x)) (h++[.lst cur]):=by have:=c7 x ((j+1)::(List.range (x.hs.length-1)).map λi=>cur.length+1+i) (x.hs.map heir) (h++[.lst cur]) hxx (by rw[zo]) (by simp;lia);rw[efp,zO,zzm]at this;exact this
  have el5:=Qiv (heir:=heir) (g:=gs) (dd:=dd) (m:=cur.length) h1;have rg:=lr_mn (h:=h++[.lst cur]) (m:=cur.length+1) (n:=cur.length+x.hs.length) ZzL ZzL ZzL;rw[show cur.length+x.hs.length-(cur.length+1)=x.hs.length-1 by lia]at rg;refine⟨_,_,_,rfl,.inl (by simp! [c0,qa,qb,eh,rg,f,show 1+(x.hs.length-1)<=1000 by lia,Qdy,lx_0,Qax hxx.pu,QdZ (show j<cur.length by lia),QfN hxx,show cur.length+(Qdp heir gs dd cur.length x).length<=16777216 by lia];rfl),_,_,_,_,_,_,_,rfl,?_⟩;rw[e2,eA,QjU la]
 rw[ZV,ZJ,zo]at lp
 rw[aftL_0]at lp
 have pl:Qaf (xs.map ptW)=true:=Qbe λw hw=>by obtain⟨x,hx',rfl⟩:=Zx.mp hw;simp[ptW,Qah,Qaf,Qak,(hx x hx').pu]
 exact⟨[some t,some gW,some (.dic ks (vs.map W.str)),some (.lst (dead.map W.str)),some (nat dd),some (.ref h.length),r6,r7,r8,r9,r10,r11,r12,some (.lst ((dead++gs).map W.str))],rfl,λr=>by rcases ht with rfl|rfl<;>rcases hgs with rfl|rfl<;>simp! [hDie,Qdy,<- Zc,hdl,seqA,Qe3,seqL,Option.or,pl,lp,heir]⟩
theorem QgR(hp:Qaf ws=true):J.fin h.length (.ok (.ret (.lst ws)) (h++o))=.ok (.lst ws) h:=by
 unfold J.fin
 dsimp only
 rw[QaT (.lst ws) (hp)]
 grind
theorem Qqi:evE cf (.neg (.con (.int n))) σ h=.ok (.int (-n)) h:=rfl
section
variable {α:Type} [DecidableEq α]
noncomputable def remO(D r:List α):List α:=D.filter λx=>!decide (x∈r)
noncomputable def levO(D:List α):Nat->List (List α)
 |0=>[[]]
 |k+1=>(levO D k).flatMap λr=>(remO D r).map λx=>r++[x]
noncomputable def greO(ok:List α->Bool)(D:List α):Nat->List α
 |0=>[]
 |k+1=>match(remO D (greO ok D k)).find? λx=>ok (remO D (greO ok D k++[x])) with
  |some x=>greO ok D k++[x]
  |none=>greO ok D k
noncomputable def mostO{β:Type}(f:β->Int):List β->Int×β->Int×β
 |[],p=>p
 |o::os,p=>mostO f os (if f o>p.1 then(f o,o) else p)
end
theorem evE_of(e:evT cf c σ h=.ok b h1):evE cf c σ h=.ok (.bl b) h1:=by
 have e':tst (evE cf c σ h)=.ok b h1:=e;cases q:evE cf c σ h with
 |stuck=>rw[q]at e';cases e'
 |exc c h2=>rw[q]at e';cases e'
 |ok w h2=>
  rw[q]at e';cases w with
  |bl k=>cases e';rfl
  |_=>cases e'
theorem Qq8{cf:CF}{a b:E}{σ:Qai}{h:Qaa}{x y:Bool}(ea:evE cf a σ h=.ok (.bl x) h)(eb:evE cf b σ h=.ok (.bl y) h):evE cf (.and_ a b) σ h=.ok (.bl (x&&y)) h:=by
 rw[evE,ea,bnd_ok]
 cases x
 ·rfl
 grind
theorem QgT{n:Nat}{src:Option Nat}{f:W->Qaa->Res (Option W)}{G:W->Option W}{h:Qaa}(hn:h.length=n)(hs:∀k,src=some k->k<n):∀(ws us:List W),(∀w∈ws,∀us,f w (h++[.lst us])=.ok (G w) (h++[.lst us])/\∀u,G w=some u->Qah u=true)->us.length+ws.length<=100000 ->
  lc n src f ws (h++[.lst us])=.ok () (h++[.lst (us++ws.filterMap G)])
 |[],us,_,_=>by rw[lc];simp
 |w::ws,us,hf,hl=>by
  rw[z0]at hl;obtain⟨e,hp⟩:=hf w zN us;rw[lc,e,bnd_ok,zF (λk _=>rfl)];cases g:G w with
  |none=>dsimp only;rw[QgT hn hs ws us (λw' hw'=>hf w' (zB _ hw')) ZzL,zzS,g]
  |some u=>
   dsimp only;have hcell:(h++[Ob.lst us])[n]?=some (.lst us):=by rw[<- hn,zK (zD _),zzP];rfl
   rw[hcell];dsimp only;rw[zF ⟨hp u g,by rw[Zj];lia⟩];have hset:(h++[Ob.lst us]).set n (.lst (us++[u]))=h++[.lst (us++[u])]:=by simp_all
   rw[hset,QgT hn hs ws (us++[u]) (λw' hw'=>hf w' (zB _ hw')) (by rw[zA,Zm];lia),zzS,g];simp
theorem lc_sel{α:Type}{cf:CF}{is:List Nat}{n:Nat}{c elt:E}{σ:Qai}{h:Qaa}{src:Option Nat}{xs:List α}{v:α->W}{p:α->Bool}{F:α->W}(inv:W->Option α)(hinv:∀y,inv (v y)=some y)(hr:∀k,src=some k->k<h.length)(hm:xs.length<=1000)
  (hF:∀y∈xs,∃σ',QaL is (v y) (clr is σ++List.replicate n none)=some σ'/\(∀hh,evT cf c σ' hh=.ok (p y) hh)/\(p y=true->Qah (F y)=true/\∀hh,evE cf elt σ' hh=.ok (F y) hh)) :
  Qjb h.length (lc h.length src (λw h=>QbN (QaL is w (clr is σ++List.replicate n none)) (evTs cf [c]) (evE cf elt) h) (xs.map v) (h++[.lst []]))=.ok (.lst ((xs.filter p).map F)) h:=by
 have key:∀ys:List α,(ys.map v).filterMap (λw=>(inv w).bind λy=>if p y=true then some (F y) else none)=(ys.filter p).map F:=λys=>by
  induction ys with
  |nil=>rfl
  |cons y ys ih =>
   grind
 rw[QgT (G:=λw=>(inv w).bind λy=>if p y=true then some (F y) else none) rfl hr (xs.map v) [] (λw hw us=>?_) (by rw[List.length_nil,zo];lia),QcJ rfl,zzf,key]
 obtain⟨y,m,rfl⟩:=Zx.mp hw
 obtain⟨σ',e1,e2,e3⟩:=hF y m
 rw[hinv,Option.bind_some]
 unfold QbN
 rw[e1]
 dsimp only
 have e2':tst (evE cf c σ' (h++[.lst us]))=.ok (p y) (h++[.lst us]):=e2 _
 rw[evTs,e2',bnd_ok]
 by_cases q:p y=true
 ·obtain⟨q1,q2⟩:=e3 q
  rw[zF q,zF q,evTs,bnd_ok,zF rfl,q2,bnd_ok]
  exact⟨rfl,λu hu=>by cases hu;exact q1⟩
 ·rw[zM q,zM q,bnd_ok,zM ZzD]
  exact⟨rfl,λu hu=>by cases hu⟩
end J
namespace J
open PySem
structure Pt.R (x:Pt) (n:Nat):Prop where
 q0:0<x.q
 qb:x.q<=20^n
 pb:x.p<=20^n
 h0:1<=x.hs.length
 h1:x.hs.length<=6
 nm:∀s∈x.hs,QaI s
 pu:Qaf x.tr=true
 oq:Qey x.tr=true
 dp:Qex x.tr<=4
 tl:x.tr.length<=n
theorem Pt.R.up{x:Pt}(h:x.R n)(hm:n<=m):x.R m :=
 have e :=z9 ZzS hm
 ⟨h.q0,zf h.qb e,zf h.pb e,h.h0,h.h1,h.nm,h.pu,h.oq,h.dp,zf h.tl hm⟩
theorem Qck(h:x.R n):Qah (ptW x)=true:=by simp[ptW,Qah,Qaf,Qak,h.pu]
theorem QaD{n:Nat}:∀{xs:List Pt},(∀x∈xs,x.R n)->Qaf (xs.map ptW)=true
 |[],_=>rfl
 |x::xs,h=>by rw[zO,Qaf,Qck (h x zN),QaD λy hy=>h y (zB _ hy)];rfl
theorem QeC(h:n<=400):20^n*20<2^2010:=by
 have e:20^n*20<=20^401:=by rw[<- Nat.pow_succ];exact z9 ZzS (by simp_all)
 grind
noncomputable def bhP(tr:List W)(dd nn:Nat)(s:Nat×Nat)(hs:List Str):Pt:=⟨s.1,s.2,hs,tr++[.tup [nat dd,nat nn,shp s,.tup (hs.map W.str)]]⟩
theorem Qlt:ptW (bhP tr dd nn s hs)=bhW tr dd nn s hs:=rfl
theorem QkH{x:Pt}(h:x.R n)(ha:a<=20)(hb:b<=20)(b0:0<b)(h0:1<=hs.length)(h1:hs.length<=6)(nm:∀s∈hs,QaI s):(bhP x.tr dd nn (low (x.p*a) (x.q*b)) hs).R (n+1):=by
 have q0:0<x.q*b:=Nat.mul_pos h.q0 b0;refine⟨?_,?_,?_,h0,h1,nm,?_,?_,?_,?_⟩;exact Nat.div_pos (Nat.gcd_le_right _ q0) (zzX _ q0);exact zf (Nat.div_le_self _ _) (by rw[Nat.pow_succ];exact Z8 h.qb hb);exact zf (Nat.div_le_self _ _) (by rw[Nat.pow_succ];exact Z8 h.pb ha);exact QaH h.pu (by simp[Qah,Qaf,Qak])
 exact Qf2 h.oq (by
  have:hs.length<=100000:=ZzL
  simp[okQ,Qey,Qcd,this])
 exact Qfe h.dp (by simp[dep,Qex,Qco]);show(x.tr++[_]).length<=n+1;rw[zA,Zm];have:=h.tl;lia
theorem QbA{b:Nat}(hb:b<=20):Qdb x (b)=true:=by
 rw[QcC];unfold Qqx
 grind
noncomputable abbrev QkA(wp be : Nat) : List S := [.asg 4 (.ix V0 (.bin .Sub V1 (.con (.int 1)))),
 .ret (.call wp [V0, V1, (.call be [(.ix V4 (.con (.int 2))), V3, V1, (.ix V4 (.con (.int 0))), V2])])]
noncomputable abbrev Ql8(pi be wp : Nat) : List S := [.asg 5 (.ix V0 (.bin .Sub V1 (.con (.int 1)))),
 .asg 6 (.ix V5 (.con (.int 0))),
 .asg 7 (.ix V5 (.con (.int 2))),
 .asg 8 (.call pi [V6,(.bin .Sub I20 V2),I20]),
 .asg 9 (.call be [V7,V4,V1,V8,(.ix V5 (.con (.int 1)))]),
 .asg 10 (.call be [V7,V4,(.bin .Add (.blt .len [V0]) (.con (.int 1))),(.call pi [V6,V2,I20]),V3]),
 .ret (.bin .Add (.call wp [V0, V1, V9]) (.lst [V10]))]
noncomputable abbrev QnY(nu wh ph ck eNH eBP : Nat) : List S := [.asg 6 (.call nu [V0, V1]),
 .if_ (.cmp .NotEq (.ix V6 (.con (.int 1))) (.tup [V2])) [.raise eNH [.rep 2,.lit,.var 1]] [],
 .if_ (.or_ (.cmp .Lt V3 (.con (.int 1))) (.cmp .Gt V3 I20)) [.raise eBP [.lit,.con,.lit,.var 3]] [],
 .if_ (.cmp .Eq V3 I20) [.asg 7 (.call wh [V0,V1,V4,V5])] [.asg 7 (.call ph [V0,V1,V3,V4,V5])],
 .ret (.call ck [V7])]
noncomputable abbrev Qkd(nu wi be pi ck wp eNH : Nat) : List S := [.asg 4 (.call nu [V0, V1]),
 .asg 5 (.ix V4 (.con (.int 0))),
 .asg 6 (.ix V4 (.con (.int 1))),
 .asg 7 (.ix V4 (.con (.int 2))),
 .asg 8 (.blt .len [V6]),
 .if_ (.or_ (.cmp .Lt V8 (.con (.int 2))) (.cmp .NotIn V2 V6)) [.raise eNH [.rep 2,.lit,.var 1]] [],
 .asg 9 (.call wi [V6,(.tup [V2])]),
 .asg 10 (.call be [V7,V3,V1,(.call pi [V5,(.bin .Sub V8 (.con (.int 1))),V8]),V9]),
 .asg 11 (.call be [V7,V3,(.bin .Add (.blt .len [V0]) (.con (.int 1))),(.call pi [V5,(.con (.int 1)),V8]),(.tup [V2])]),
 .ret (.call ck [(.bin .Add (.call wp [V0, V1, V10]) (.lst [V11]))])]
structure Ix where
 (gc lo pi be nu wp ck wi wh ph hp sp hr fa pa:Nat)
 (eNP eNH eBP eTP:Nat)
structure Ix.In (I:Ix) (tb:List Fn):Prop where
 gc:tb[I.gc]?=some ⟨2,3,Qmb,none⟩
 lo:tb[I.lo]?=some ⟨2,3,bLow I.gc,none⟩
 pi:tb[I.pi]?=some ⟨3,3,QeH I.lo,none⟩
 be:tb[I.be]?=some ⟨5,5,QaQ,none⟩
 nu:tb[I.nu]?=some ⟨2,2,Qbd I.eNP,none⟩
 wp:tb[I.wp]?=some ⟨3,4,Qj5,none⟩
 ck:tb[I.ck]?=some ⟨1,1,Qi4 I.eTP,none⟩
 wi:tb[I.wi]?=some ⟨2,2,Qci,none⟩
 wh:tb[I.wh]?=some ⟨4,5,QkA I.wp I.be,none⟩
 ph:tb[I.ph]?=some ⟨5,11,Ql8 I.pi I.be I.wp,none⟩
 hp:tb[I.hp]?=some ⟨6,8,QnY I.nu I.wh I.ph I.ck I.eNH I.eBP,none⟩
 sp:tb[I.sp]?=some ⟨4,12,Qkd I.nu I.wi I.be I.pi I.ck I.wp I.eNH,none⟩
structure Ix.Dh (I:Ix) (tb:List Fn):Prop where
 hr:tb[I.hr]?=some ⟨3,5,QdY,none⟩
 fa:tb[I.fa]?=some ⟨4,5,Qdi I.pi I.be,none⟩
 pa:tb[I.pa]?=some ⟨5,14,hDie I.wi I.hr I.be I.fa [.ret (.call I.ck [V5])],none⟩
theorem QmM(ee:evE cf e σ h=r):exB cf fw [.ret e] σ h=bnd r λw h=>.ok (.ret w) h:=by rw[exB,exS,ee];cases r<;>rfl
section
variable {fw:Nat}{tb:List Fn}{I:Ix}{xs:List Pt}{x:Pt}{n k dd:Nat}{name:Str}{h:Qaa}
theorem Qi2(T:I.In tb)(hf:2^2010<=fw)(d m o:Nat)(hx:x.R n)(hn:n<=400)(hm:m<=20)(ho:o<=20)(o0:0<o):Qab fw tb (d+3) I.pi [sh x.p x.q,nat m,nat o] h=.ok (shp (low (x.p*m) (x.q*o))) h:=by have hb :=zQ (Z8 hx.qb ho) (QeC hn);exact QfZ T.pi T.lo T.gc d x.p x.q m o h (QbA hm) (QbA ho) hx.q0 o0 (zj hb (z9 ZzS ZzS)) (zj hb hf)
theorem Qh9(T:I.In tb)(d:Nat)(ws:List W)(hp:Qaf ws=true):Qab fw tb (d+1) I.ck [.lst ws] h=if 60<ws.length then .exc I.eTP h else .ok (.lst ws) h:=by rw[Qac T.ck rfl];simp! [show Qah (.lst ws)=true from hp,Qg4]
noncomputable def QlE(x:Pt)(name:Str):Bool:=decide (x.hs.length<2)||!Qa5 name x.hs
noncomputable def oth(x:Pt)(name:Str):List Str:=x.hs.filter λs=>!decide (s=name)
noncomputable def Qld(xs:List Pt)(x:Pt)(k:Nat)(name:Str)(dd:Nat):List Pt:=xs.set (k-1) (bhP x.tr dd k (low (x.p*(x.hs.length-1)) (x.q*x.hs.length)) (oth x name))++[bhP x.tr dd (xs.length+1) (low (x.p*1) (x.q*x.hs.length)) [name]]
theorem QiW(T:I.In tb)(d:Nat)(z:Int)(hz:z.natAbs<10^100)(ho:Qei z xs.length=true):Qab fw tb (d+5) I.sp [.lst (xs.map ptW),.int z,.str name,nat dd] h=.exc I.eNP h:=by rw[Qac T.sp rfl];simp! [Qdu  T.nu (d+3) (.lst (xs.map ptW)) (xs.map ptW) z h (.inl rfl) hz (by grind)]
theorem QeN:(Qld xs x k name dd).map ptW=(xs.map ptW).set (k-1) (bhW x.tr dd k (low (x.p*(x.hs.length-1)) (x.q*x.hs.length)) (oth x name))++[bhW x.tr dd (xs.length+1) (low (x.p*1) (x.q*x.hs.length)) [name]]:=by rw[Qld,Zc,List.map_set];rfl
theorem Qpg(h1:QlE x name=false)(nd:x.hs.Nodup):1<=(oth x name).length:=by
 unfold QlE at h1;unfold oth
 match e:x.hs,nd with
 |a::b::l,nd =>
  grind
 |[a],_=>simp_all
 |[],_=>simp_all
theorem sevP_R(hxs:∀x∈xs,x.R n)(hx:x∈xs)(hb:QlE x name=false)(nd:x.hs.Nodup)(hm:QaI name):∀y∈Qld xs x k name dd,y.R (n+1):=λy hy=>by have h6:=(hxs x hx).h1;have h0:=(hxs x hx).h0;rcases Za.mp hy with h|h;rcases Zo h with h|h;exact(hxs y h).up (ZK _);rw[h];exact QkH (hxs x hx) ZzL ZzL ZzL (Qpg hb nd) (zf (List.length_filter_le _ _) h6) λs hs=>(hxs x hx).nm s (zzd.mp hs).1;rw[zP.mp h];exact QkH (hxs x hx) ZzS ZzL ZzL ZzS ZzS λs hs=>by grind
theorem QkE:(Qld xs x k name dd).length=xs.length+1:=by simp[Qld]
theorem Qfr(hxs:∀x∈xs,x.R n)(hx:x∈xs):Qaf ((Qld xs x k name dd).map ptW)=true:=by rw[QeN];refine QdF (Qbe λw hw=>?_) (Qax (hxs x hx).pu);rcases Zo hw with h|h;obtain⟨y,hy,rfl⟩:=Zx.mp h;exact Qck (hxs y hy);rw[h];exact Qax (hxs x hx).pu
theorem QkJ(T:I.In tb)(hf:2^2010<=fw)(d:Nat)(hxs:∀x∈xs,x.R n)(hn:n<=400)(hl:xs.length<=60)(h1:1<=k)(hk:xs[k-1]?=some x)(hm:QaI name) :
  Qab fw tb (d+5) I.sp [.lst (xs.map ptW),nat k,.str name,nat dd] h=if QlE x name=true then .exc I.eNH h else if 60<=xs.length then .exc I.eTP h else .ok (.lst ((Qld xs x k name dd).map ptW)) h:=by
 have hx:x.R n:=hxs x (zC hk)
 have hk1 :=(ze.mp hk).1
 have hh0:=hx.h0
 have hh6:=hx.h1
 have hpu:=QaD hxs
 have htl:x.tr.length<=1000:=zf hx.tl ZzL
 have sp:=Qfr (k:=k) (name:=name) (dd:=dd) hxs (zC hk)
 have w5:=QeJ (fw:=fw) T.wp (d+3) (.lst (xs.map ptW)) (xs.map ptW) k (bhW x.tr dd k (low (x.p*(x.hs.length-1)) (x.q*x.hs.length)) (oth x name)) h (.inl rfl) h1 (by grind) hpu (Qax hx.pu)
 have ck:=Qh9 (fw:=fw) (h:=h) T (d+3) _ sp
 rw[QeN]at ck sp ⊢
 rw[Qac T.sp rfl]
 have n4:=Qed (fw:=fw) T.nu (d+3) (.lst (xs.map ptW)) (xs.map ptW) k (ptW x) h (.inl rfl) h1 (by simp_all) (Qck hx) (λk z=>by cases z)
 have p1:=Qi2 (h:=h) T hf (d+1) (x.hs.length-1) x.hs.length hx hn ZzL ZzL ZzL
 have p2:=Qi2 (h:=h) T hf (d+1) 1 x.hs.length hx hn ZzD ZzL ZzL
 have r2:=Qa1 (fw:=fw) T.be (d+3) dd (xs.length+1) (low (x.p*1) (x.q*x.hs.length)) [name] x.tr hx.pu htl h
 have lo:QaE x.hs [name]=oth x name:=Qku _ _
 simp_arith at p2 r2
 simp! [n4,p1,Qdy,show xs.length+1<=1000 by lia,show(60<xs.length+1)=(60<=xs.length) from propext Nat.lt_add_one_iff,Qg4 (w:=.lst _) sp,p2,r2,Qa1 T.be _ _ _ (low _ _) _ _ hx.pu htl,w5,ck,Qep T.wi _ (.tup (x.hs.map W.str)) (.tup [.str name]) x.hs [name] h (.inr rfl) (.inr rfl) ZzL,lo,hh0,Qj6 hm,QlE,show k<10^100 from zQ (show k<=60 by lia) ZzD]
end
theorem bhP_S{x:Pt}(h:x.R n)(h0:1<=hs.length)(h1:hs.length<=6)(nm:∀s∈hs,QaI s):(bhP x.tr dd nn (x.p,x.q) hs).R (n+1):=by
 have e:20^n<=20^(n+1):=z9 ZzS (ZK _);refine⟨h.q0,zf h.qb e,zf h.pb e,h0,h1,nm,?_,?_,?_,?_⟩;exact QaH h.pu (by simp[Qah,Qaf,Qak])
 exact Qf2 h.oq (by
  have:hs.length<=100000:=zf h1 ZzD
  simp[okQ,Qey,Qcd,this])
 exact Qfe h.dp (by simp[dep,Qex,Qco]);show(x.tr++[_]).length<=n+1;rw[zA,Zm];have:=h.tl;lia
noncomputable def Qez(xs:List Pt)(x:Pt)(k tw:Nat)(to:List Str)(dd:Nat):List Pt:=if tw=20 then xs.set (k-1) (bhP x.tr dd k (x.p,x.q) to) else xs.set (k-1) (bhP x.tr dd k (low (x.p*(20-tw)) (x.q*20)) x.hs)++[bhP x.tr dd (xs.length+1) (low (x.p*tw) (x.q*20)) to]
noncomputable def Qik(tz:Int):Bool:=decide (tz<1)||decide ((20:Int)<tz)
theorem Ql9(h:Qik tz=false):∃k:Nat,tz=(k)/\1<=k/\k<=20:=by unfold Qik at h;rw[Bool.or_eq_false_iff,decide_eq_false_iff_not,decide_eq_false_iff_not]at h;exact⟨tz.toNat,ZzL,ZzL,by simp_all⟩
section
variable {fw:Nat}{tb:List Fn}{I:Ix}{xs:List Pt}{x:Pt}{n k dd:Nat}{name:Str}{to:List Str}{h:Qaa}
theorem Qd8:(Qez xs x k tw to dd).map ptW=if tw=20 then(xs.map ptW).set (k-1) (bhW x.tr dd k (x.p,x.q) to) else(xs.map ptW).set (k-1) (bhW x.tr dd k (low (x.p*(20-tw)) (x.q*20)) x.hs)++[bhW x.tr dd (xs.length+1) (low (x.p*tw) (x.q*20)) to]:=by unfold Qez;split;rw[List.map_set];rfl;rw[Zc,List.map_set];rfl
theorem QeY:(Qez xs x k tw to dd).length=if tw=20 then xs.length else xs.length+1:=by unfold Qez;split<;>simp
theorem hanP_R(htw:tw<=20)(hxs:∀x∈xs,x.R n)(hx:x∈xs)(h0:1<=to.length)(h6:to.length<=6)(nm:∀s∈to,QaI s):∀y∈Qez xs x k tw to dd,y.R (n+1):=λy hy=>by have X:=hxs x hx;unfold Qez at hy;split at hy;rcases Zo hy with h|h;exact(hxs y h).up (ZK _);rw[h];exact bhP_S X h0 h6 nm;rcases Za.mp hy with h|h;rcases Zo h with h|h;exact(hxs y h).up (ZK _);rw[h];exact QkH X (Nat.sub_le ..) ZzD ZzS X.h0 X.h1 X.nm;rw[zP.mp h];exact QkH X htw ZzD ZzD h0 h6 nm
theorem Qcj{tw:Nat}(hxs:∀x∈xs,x.R n)(hx:x∈xs):Qaf ((Qez xs x k tw to dd).map ptW)=true:=by
 have X:=hxs x hx
 have old:∀w v,Qah v=true->w∈(xs.map ptW).set (k-1) v->Qah w=true:=λw v hv hw=>by
  rcases Zo hw with h|h
  ·obtain⟨y,hy,rfl⟩:=Zx.mp h
   exact Qck (hxs y hy)
  grind
 rw[Qd8]
 split
 ·exact Qbe λw hw=>old w _ (Qax X.pu) hw
 ·exact QdF (Qbe λw hw=>old w _ (Qax X.pu) hw) (Qax X.pu)
theorem at_k(h1:1<=k)(hk:xs[k-1]?=some x):ixW (.lst (xs.map ptW)) (.int ((k-1:Nat))) h=.ok (ptW x) h:=Qda rfl (by simp_all)
theorem wholeP(T:I.In tb)(d:Nat)(hxs:∀x∈xs,x.R n)(hn:n<=400)(h1:1<=k)(hk:xs[k-1]?=some x):Qab fw tb (d+2) I.wh [.lst (xs.map ptW),nat k,.tup (to.map W.str),nat dd] h=.ok (.lst ((Qez xs x k 20 to dd).map ptW)) h:=by have hx :=hxs x (zC hk);have hp:=Qcj (k:=k) (tw:=20) (to:=to) (dd:=dd) hxs (zC hk);have w5:=QeJ (fw:=fw) T.wp d (.lst (xs.map ptW)) (xs.map ptW) k (bhW x.tr dd k (x.p,x.q) to) h (.inl rfl) h1 (by grind) (QaD hxs) (Qax hx.pu);rw[Qd8,zF rfl]at hp ⊢;rw[Qac T.wh rfl];simp! [h1,at_k h1 hk,Qa1 T.be _ _ _ (x.p,x.q) _ _ hx.pu (zf hx.tl ZzL),w5,Qg4 (w:=.lst _) hp]
theorem pieceP(T:I.In tb)(hf:2^2010<=fw)(d:Nat){tw:Nat}(htw:tw<20)(hxs:∀x∈xs,x.R n)(hn:n<=400)(hl:xs.length<=60)(h1:1<=k)(hk:xs[k-1]?=some x):Qab fw tb (d+4) I.ph [.lst (xs.map ptW),nat k,nat tw,.tup (to.map W.str),nat dd] h=.ok (.lst ((Qez xs x k tw to dd).map ptW)) h:=by
 have hx :=hxs x (zC hk)
 have hp:=Qcj (k:=k) (tw:=tw) (to:=to) (dd:=dd) hxs (zC hk)
 have htl:x.tr.length<=1000:=zf hx.tl ZzL
 have p1:=Qi2 (h:=h) T hf d (20-tw) 20 hx hn ZzL ZzD ZzD
 have p2:=Qi2 (h:=h) T hf d tw 20 hx hn ZzL ZzD ZzD
 have w5:=QeJ (fw:=fw) T.wp (d+2) (.lst (xs.map ptW)) (xs.map ptW) k (bhW x.tr dd k (low (x.p*(20-tw)) (x.q*20)) x.hs) h (.inl rfl) h1 (by grind) (QaD hxs) (Qax hx.pu)
 rw[Qd8,zM ZzL]at hp ⊢
 rw[Qac T.ph rfl]
 simp_arith at p1 p2
 simp! [h1,at_k h1 hk,p1,p2,show(20:Int)-tw=(20-tw:Nat) by lia,Qa1 T.be _ _ _ (low _ _) _ _ hx.pu htl,w5,Qdy,show xs.length+1<=1000 by lia,Qg4 (w:=.lst _) hp]
theorem QjY(T:I.In tb)(d:Nat)(z tz:Int)(hz:z.natAbs<10^100)(ho:Qei z xs.length=true):Qab fw tb (d+5) I.hp [.lst (xs.map ptW),.int z,.str name,.int tz,.tup (to.map W.str),nat dd] h=.exc I.eNP h:=by rw[Qac T.hp rfl];simp! [Qdu  T.nu (d+3) (.lst (xs.map ptW)) (xs.map ptW) z h (.inl rfl) hz (by grind)]
theorem QmY(T:I.In tb)(hf:2^2010<=fw)(d:Nat){tz:Int}(hxs:∀x∈xs,x.R n)(hn:n<=400)(hl:xs.length<=60)(h1:1<=k)(hk:xs[k-1]?=some x)(hm:QaI name)(hz:tz.natAbs<10^100) :
  Qab fw tb (d+5) I.hp [.lst (xs.map ptW),nat k,.str name,.int tz,.tup (to.map W.str),nat dd] h=if eqB x.hs [name]=false then .exc I.eNH h else if Qik tz=true then .exc I.eBP h else if 60<=xs.length/\tz<20 then .exc I.eTP h else .ok (.lst ((Qez xs x k tz.toNat to dd).map ptW)) h:=by
 have hx:x.R n:=hxs x (zC hk)
 have hk1:k-1<xs.length:=(ze.mp hk).1
 have n4:=Qed (fw:=fw) T.nu (d+3) (.lst (xs.map ptW)) (xs.map ptW) k (ptW x) h (.inl rfl) h1 (by simp_all) (Qck hx) (λk z=>by cases z)
 rw[Qac T.hp rfl]
 have nt:=ne_t (h:=h) (us:=[name]) hx.nm (by simpa)
 have hk':=hk
 have hk:k<10^100:=zQ (show k<=60 by lia) ZzD
 simp_arith at nt
 by_cases hb:Qik tz=true
 ·have b:tz<1\/20<tz:=by simpa [Qik] using hb
  simp! [n4,Qj6 hm,hz,hk,nt,Qik,b,zz2]
 ·obtain⟨tw,rfl,w1,w2⟩:=Ql9 (Zp _ |>.mp hb)
  have ck:=Qh9 (fw:=fw) (h:=h) T (d+3) ((Qez xs x k tw to dd).map ptW) (Qcj hxs (zC hk'))
  have fp:=Qg4 (h:=h) (w:=.lst ((Qez xs x k tw to dd).map ptW)) (Qcj hxs (zC hk'))
  rw[zo,QeY]at ck
  by_cases w:tw=20
  ·subst w
   have:=wholeP (fw:=fw) (h:=h) (to:=to) (dd:=dd) T (d+2) hxs hn h1 hk'
   simp! [n4,Qj6 hm,hz,hk,nt,Qik,zz2,Int.cast_ofNat_Int,show ¬(20:Int)<1 by decide,or_self,show Int.toNat 20=20 from rfl,this,ck,fp,show ¬ 60<xs.length by lia,Int.lt_irrefl,and_false]
  ·have w':tw<20:=ZzL
   simp! [n4,Qj6 hm,hz,hk,nt,Qik,zz2,show ¬(tw<1\/20<tw) by lia,w,Zt,pieceP T hf _ w' hxs hn hl h1 hk',ck,fp,show(60<xs.length+1)=(60<=xs.length) from propext Nat.lt_add_one_iff,w',and_true]
end
noncomputable def mkP(heir:Str->Str)(g:List Str)(dd n:Nat)(x:Pt):Pt:=if(QaE x.hs g).length=x.hs.length then x else if 0<(QaE x.hs g).length then bhP x.tr dd n (x.p,x.q) (QaE x.hs g) else bhP x.tr dd n (evn x) [heir (x.hs.headD Qct)]
noncomputable def exP(heir:Str->Str)(g:List Str)(dd m:Nat)(x:Pt):List Pt:=if(QaE x.hs g).length=0 then x.hs.tail.mapIdx λi s=>bhP x.tr dd (m+1+i) (evn x) [heir s] else []
noncomputable def nwP(heir:Str->Str)(g:List Str)(dd:Nat):List Pt->Nat->List Pt
 |[],_=>[]
 |x::xs,m=>exP heir g dd m x++nwP heir g dd xs (m+(exP heir g dd m x).length)
noncomputable def Qhh(heir:Str->Str)(g:List Str)(dd:Nat)(xs:List Pt):List Pt:=(xs.mapIdx λi x=>mkP heir g dd (i+1) x)++nwP heir g dd xs xs.length
theorem Qea{α β γ:Type}{f:Nat->α->β}{g:β->γ}{l:List α}:(l.mapIdx f).map g=l.mapIdx λi x=>g (f i x):=by refine List.ext_getElem? λi=>?_;rw[zT,ZL,ZL];cases l[i]?<;>rfl
section
variable {heir:Str->Str}{g:List Str}{dd n m:Nat}{x:Pt}{xs:List Pt}
theorem QpE:ptW (mkP heir g dd n x)=mk1 heir g dd n x:=by unfold mkP mk1;split;rfl;split<;>rfl
theorem QpF:(exP heir g dd m x).map ptW=Qdp heir g dd m x:=by unfold exP Qdp;split;rw[Qea];rfl;rfl
theorem Qky:∀xs m,(nwP heir g dd xs m).map ptW=Qbg heir g dd xs m
 |[],_=>rfl
 |x::xs,m=>by rw[nwP,Qbg,Zc,Qky xs,<- QpF,zo]
theorem QhI:(Qhh heir g dd xs).map ptW=QeO heir g dd xs xs.length:=by unfold Qhh QeO;rw[Zc,Qky,ZC,zzQ,Zy,Zf,Qea];refine congrArg (·++_) ?_;congr 1;funext i x;exact QpE
theorem Qk4(h:s∈QaE hs g):s∈hs:=(zzd.mp h).1
theorem evn_R(h:x.R n)(hm:QaI s):(bhP x.tr dd nn (evn x) [s]).R (n+1):=by
 have h6:=h.h1;have h0:=h.h0;have e:evn x=low (x.p*1) (x.q*x.hs.length):=by rw[Nat.mul_one];rfl
 rw[e];exact QkH h ZzS ZzL ZzL ZzS ZzS λy hy=>by grind
theorem mkP_R(h:x.R n)(hh:∀s,QaI (heir s)):(mkP heir g dd nn x).R (n+1):=by unfold mkP;split;exact h.up (ZK _);split;rename_i q;exact bhP_S h q (zf (List.length_filter_le _ _) h.h1) λs hs=>h.nm s (Qk4 hs);exact evn_R h (hh _)
theorem nwP_R(hh:∀s,QaI (heir s)):∀xs m,(∀x∈xs,x.R n)->∀y∈nwP heir g dd xs m,y.R (n+1)
 |[],_,_,y,hy=>by cases hy
 |x::xs,m,h,y,hy=>by
  rcases Za.mp hy with q|q
  ·unfold exP at q
   split at q
   ·obtain⟨i,hi,rfl⟩:=zzE.mp q
    exact evn_R (h x zN) (hh _)
   grind
  ·exact nwP_R hh xs _ (λz hz=>h z (zB _ hz)) y q
theorem QnD(hh:∀s,QaI (heir s))(h:∀x∈xs,x.R n):∀y∈Qhh heir g dd xs,y.R (n+1):=λy hy=>by rcases Za.mp hy with q|q;obtain⟨i,hi,rfl⟩:=zzE.mp q;exact mkP_R (h _ (ZM hi)) hh;exact nwP_R hh xs _ h y q
end
theorem Qlb{nx:Str->Option Str}{dead:Str->Bool}{name:Str}:∀(n:Nat) (x:Str),Qd2 nx dead name n x=Qct\/∃z,nx z=some (Qd2 nx dead name n x)/\dead (Qd2 nx dead name n x)=false
 |0,_=>.inl rfl
 |n+1,x=>by
  unfold Qd2
  cases e:nx x with
  |none=>simp
  |some y =>
   dsimp only
   split
   ·grind
   ·exact Qlb n y
section
variable {fw:Nat}{tb:List Fn}{I:Ix}{xs:List Pt}{n dd:Nat}{h:Qaa}{gs ks vs dead P:List Str}
theorem Pt.R.G{x:Pt}(r:x.R n)(hn:n<=400)(hf:2^2010<=fw):x.G fw:=by have hb :=zQ (Z8 r.qb (show 6<=20 by simp)) (QeC hn);have hp :=zQ (zf r.pb (Nat.le_mul_of_pos_right _ ZzS)) (QeC hn);have e:2^2010<=2^9000:=z9 ZzS ZzS;exact⟨r.q0,zj hb e,zj hb hf,zj hp e,r.h0,r.h1,r.pu,zf r.tl ZzL⟩
theorem QlL(T:I.In tb)(d m:Nat)(us:List W)(hm:h[m]?=some (.lst us)):Qab fw tb (d+1) I.ck [.ref m] h=if 60<us.length then .exc I.eTP h else .ok (.ref m) h:=by rw[Qac T.ck rfl];generalize Qab fw tb d=cf;have t:=ev_gtN (cf:=cf) (n:=60) (σ:=[some (.ref m)]) (h:=h) (a:=.blt .len [.var 0]) (b:=.con (.int 60)) (QcL (x:=.ref m) (us:=us) (U0 rfl) (Qis hm)) Qaw;by_cases q:60<us.length;rw[zF q];rw[zX q]at t;exact Qcr  (Qbn ((QjO t).trans (Qbn (QcR rfl)))) QgL;rw[zM q];rw[zV q]at t;refine Qcr  ((Qad (Qd1 t)).trans (Qar (Qa7 (U0 rfl)))) ?_;unfold J.fin;dsimp only;rw[unr,zF (ze.mp hm).1];dsimp only;rw[ZC]
noncomputable abbrev Qdh(ks vs dead gs:List Str):Str->Str:=λs=>Qd2 (nxS ks vs) (λy=>Qa5 y (dead++gs)) s 31 s
theorem Ql2(hv:∀y∈vs,QaI y)(s):QaI (Qdh ks vs dead gs s):=by rcases Qlb    31 s with z|⟨u,z,_⟩;show QaI (Qd2 _ _ _ _ _);rw[z];exact Qnt;exact hv _ (QeU z)
theorem dieP(T:I.In tb)(U:I.Dh tb)(hf:2^2010<=fw)(d:Nat)(gW:W)(hgs:Seq gW (gs.map W.str))(hxs:∀x∈xs,x.R n)(hn:n<=400)(hl:xs.length<=60)(hP:P.length<=30)(hgP:∀s∈gs,s∈P)(hv:∀y∈vs,y∈P)(nP:∀y∈P,QaI y)(hkv:ks.length=vs.length)(hdl:dead.length+gs.length<=1000) :
  Qab fw tb (d+5) I.pa [.lst (xs.map ptW),gW,.dic ks (vs.map W.str),.lst (dead.map W.str),nat dd] h=if 60<(Qhh (Qdh ks vs dead gs) gs dd xs).length then .exc I.eTP h else .ok (.lst ((Qhh (Qdh ks vs dead gs) gs dd xs).map ptW)) h:=by
 rw[Qac U.pa rfl]
 have hw:31<=fw:=zf (zz6 (zj (show 31<2^5 by decide) (z9 ZzD ZzD))) hf
 obtain⟨σ2,e5,co⟩:=Qmd (fw:=fw) T.wi U.hr T.be U.fa T.pi T.lo T.gc d (.lst (xs.map ptW)) gW xs gs ks vs dead P dd h (.inl rfl) hgs hP hgP hv hkv hw (λx hx=>(hxs x hx).G hn hf) hl hdl
 rw[<- QhI]at co
 let R:List Pt:=Qhh (Qdh ks vs dead gs) gs dd xs
 have ckr:=QlL (fw:=fw) (h:=h++[.lst (R.map ptW)]) T (d+3) h.length (R.map ptW) Qa3
 rw[zo]at ckr
 generalize Qab fw tb (d+4)=cf at *
 have co':=(co [.ret (.call I.ck [V5])]).trans (QmM (QeX (Qag (i:=5) e5) ckr))
 show J.fin h.length (exB cf fw (hDie I.wi I.hr I.be I.fa [.ret (.call I.ck [V5])]) [some (.lst (xs.map ptW)),some gW,some (.dic ks (vs.map W.str)),some (.lst (dead.map W.str)),some (nat dd),none,none,none,none,none,none,none,none,none] h)=_
 rw[co']
 by_cases hb:60<R.length
 ·rw[zF hb,zF hb]
  show Res.exc I.eTP ((h++[Ob.lst (R.map ptW)]).take h.length)=_
  rw[List.take_left]
 ·rw[zM hb,zM hb,bnd_ok]
  unfold J.fin
  dsimp only
  rw[unr,zM (ZN _),Qa3]
  dsimp only
  rw[List.take_left]
end
theorem Qfj{i c:Nat}{body:Qai->Qaa->Res Fl}{σ:Qai}{h:Qaa}{p:Str->Bool}:∀(ss:List Str) (r:Option W),(∀s∈ss,body (σ.set i (some (.str s))) h=if p s=true then .exc c h else .ok (.nx (σ.set i (some (.str s)))) h)->∃r',fo [i] body (ss.map W.str) (σ.set i r) h=if ss.any p=true then .exc c h else .ok (.nx (σ.set i r')) h
 |[],r,_=>⟨r,rfl⟩
 |s::ss,r,st=>by
  rw[zO,fo,Qb4,List.set_set]
  dsimp only
  rw[st s zN]
  by_cases q:p s=true
  ·simp_all
  ·rw[zM q,bnd_ok]
   obtain⟨r',e⟩:=Qfj ss (some (.str s)) λu hu=>st u (zB _ hu)
   grind
noncomputable abbrev Qiy(la c:Nat):List S:=[.if_ (.cmp .Is (.fld 0 0 (.mth la V0 [])) (.con .non)) [.raise c []] []]
noncomputable abbrev Qoe(pc gd la sp nx kp : Nat) : List S := [.exp (.mth pc V0 [(.tup [V1])]),
 .exp (.mth gd V0 []),
 .asg 3 (.mth la V0 []),
 .asg 4 (.call sp [(.fld 0 1 V3),V2,V1,(.mth nx V0 [])]),
 .ret (.mth kp V0 [(.tup [(.con (.str "sever")), V1, V2]), V4, (.fld 0 2 V3), (.fld 0 3 V3)])]
noncomputable abbrev bHand(gp pc gd la hp nx kp : Nat) : List S := [.asg 5 (.call gp [V4, (.con (.int 1)), (.con (.int 6))]),
 .exp (.mth pc V0 [(.bin .Add (.tup [V1]) V5)]),
 .exp (.mth gd V0 []),
 .asg 6 (.mth la V0 []),
 .asg 7 (.call hp [(.fld 0 1 V6),V2,V1,V3,V5,(.mth nx V0 [])]),
 .ret (.mth kp V0 [(.tup [(.con (.str "hand")), V1, V2, V3, V5]), V7, (.fld 0 2 V6), (.fld 0 3 V6)])]
noncomputable abbrev QjC(pc gd la kp : Nat) : List S := [.exp (.mth pc V0 [(.tup [V1, V2])]),
 .exp (.mth gd V0 []),
 .asg 3 (.mth la V0 []),
 .dupd 4 (.fld 0 2 V3) 1 2,
 .ret (.mth kp V0 [(.tup [(.con (.str "follow")), V1, V2]), (.fld 0 1 V3), V4, (.fld 0 3 V3)])]
noncomputable abbrev bDieR(gp pc gd la pa nx kp : Nat) : List S := [.asg 2 (.call gp [V1, (.con (.int 1)), (.con (.int 30))]),
 .exp (.mth pc V0 [V2]),
 .exp (.mth gd V0 []),
 .asg 3 (.mth la V0 []),
 .asg 4 (.call pa [(.fld 0 1 V3),V2,(.fld 0 2 V3),(.fld 0 3 V3),(.mth nx V0 [])]),
 .ret (.mth kp V0 [(.tup [(.con (.str "die")), V2]), V4, (.fld 0 2 V3), (.bin .Add (.fld 0 3 V3) (.blt .list [V2]))])]
structure Rx extends Ix where
 (tw gp kn lv sf la nx pc gd kp fi gr sv hd fl di:Nat)
 (eBG eUn eDe eNG eGB eTD:Nat)
structure Rx.Bs (R:Rx) (tb:List Fn):Prop where
 tl:tb.length<=1000
 tw:tb[R.tw]?=some ⟨1,1,QcD,none⟩
 gp:tb[R.gp]?=some ⟨3,3,Ql1 R.eBG R.tw,none⟩
 kn:tb[R.kn]?=some ⟨2,3,QlC R.eUn,none⟩
 lv:tb[R.lv]?=some ⟨3,4,QjZ R.eDe R.kn,none⟩
 sf:tb[R.sf]?=some ⟨5,5,[],some (0,[(false,V1),(false,V2),(false,V3),(false,V4)])⟩
 la:tb[R.la]?=some ⟨1,1,Qhm,none⟩
 nx:tb[R.nx]?=some ⟨1,1,Qmk,none⟩
 pc:tb[R.pc]?=some ⟨2,2,QhH R.lv R.la,none⟩
 gd:tb[R.gd]?=some ⟨1,1,Qiy R.la R.eNG,none⟩
 kp:tb[R.kp]?=some ⟨5,6,Qjx R.eTD R.nx R.sf,none⟩
structure Rx.In (R:Rx) (tb:List Fn):Prop extends R.toIx.In tb,R.Bs tb where
 fi:tb[R.fi]?=some ⟨1,1,Qe6 R.be,none⟩
 gr:tb[R.gr]?=some ⟨2,4,Qli R.eGB R.gp R.pc R.la R.kp R.fi,none⟩
 sv:tb[R.sv]?=some ⟨3,5,Qoe R.pc R.gd R.la R.sp R.nx R.kp,none⟩
 hd:tb[R.hd]?=some ⟨5,8,bHand R.gp R.pc R.gd R.la R.hp R.nx R.kp,none⟩
 fl:tb[R.fl]?=some ⟨3,5,QjC R.pc R.gd R.la R.kp,none⟩
 di:tb[R.di]?=some ⟨2,5,bDieR R.gp R.pc R.gd R.la R.pa R.nx R.kp,none⟩
structure Sd where
 dw:W
 xs:List Pt
 ks:List Str
 vs:List Str
 G:List Str
noncomputable abbrev Sd.W(q:Sd):W:=.ins 0 [q.dw,.lst (q.xs.map ptW),.dic q.ks (q.vs.map W.str),.lst (q.G.map W.str)]
structure Sd.Ok (q:Sd) (P:List Str) (n:Nat):Prop where
 d2:Qah q.dw=true
 x1:∀x∈q.xs,x.R n
 x2:q.xs.length<=60
 x3:∀x∈q.xs,x.hs.Nodup
 k1:q.ks.length=q.vs.length
 k2:q.ks.length<=n
 v1:∀y∈q.vs,y∈P
 g1:∀y∈q.G,y∈P
 g2:q.G.Nodup
section
variable {fw:Nat}{tb:List Fn}{R:Rx}{q:Sd}{P:List Str}{n m:Nat}{ws:List W}{h:Qaa}{ks:List Str}
theorem Sd.pw(ok:q.Ok P n):Qah q.W=true:=by have:=QaD ok.x1;simp only[Qah,Qaf,ok.d2,this,Qak,Bool.and_self,Bool.and_true]
theorem Qhg(T:R.Bs tb)(d:Nat)(ok:q.Ok P n)(hn:h[m]?=some (.lst (ws++[q.W]))):Qab fw tb (d+1) R.la [reg ks m] h=.ok q.W h:=Qfi T.la d ks m ws q.W h hn (Sd.pw ok)
theorem knownR(T:R.Bs tb)(d:Nat)(t:W)(ss:List Str)(hs:Seq t (ss.map W.str))(nm:∀s∈ss,QaI s):Qab fw tb (d+1) R.kn [t,.tup (ks.map W.str)] h=if(ss.any λs=>!Qa5 s ks)=true then .exc R.eUn h else .ok .non h:=by
 rw[Qac T.kn rfl];generalize Qab fw tb d=cf;obtain⟨r,e⟩:=Qfj (i:=2) (c:=R.eUn) (p:=λs=>!Qa5 s ks) (body:=exB cf fw [.if_ (.cmp .NotIn V2 V1) [.raise R.eUn [.lit,.rep 2]] []]) (σ:=[some t,some (.tup (ks.map W.str)),none]) (h:=h) ss none (λs hs'=>by
  have z:=Qdr (cf:=cf) (σ:=[some t,some (.tup (ks.map W.str)),some (.str s)]) (h:=h) (a:=.var 2) (b:=.var 1) (x:=s) (y:=.tup (ks.map W.str)) (ss:=ks) (Qag rfl) (Qag rfl) rfl rfl
  by_cases m:(!Qa5 s ks)=true
  ·rw[zF m]
   rw[m]at z
   refine Qbn ((QjO z).trans (Qbn (QcR ?_)))
   show(fpW _ .lit&&(fpW _ (.rep 2)&&true))=true
   rw[fp_rep (i:=2) (s:=s) rfl (nm s hs')]
   rfl
  ·rw[zM m]
   rw[Zp _ |>.mp m]at z
   exact(Qad (Qd1 z)).trans (by rw[exB];rfl))
 have e':exB cf fw (QlC R.eUn) [some t,some (.tup (ks.map W.str)),none] h=if(ss.any λs=>!Qa5 s ks)=true then .exc R.eUn h else .ok (.nx [some t,some (.tup (ks.map W.str)),r]) h:=by by_cases b:(ss.any λs=>!Qa5 s ks)=true;rw[zF b]at e ⊢;exact Qbn ((QgS (U0 rfl) hs).trans e);rw[zM b]at e ⊢;exact(Qad ((QgS (U0 rfl) hs).trans e)).trans (by rw[exB];rfl)
 refine Qcr  e' ?_;split;exact QgL;exact fin_nx
end
inductive Out where
 |no (c:Nat)
 |ok (q:Sd)
noncomputable def Qf9(m:Nat)(ws:List W)(q:Sd)(h:Qaa):Out->Res W
 |.no c=>.exc c h
 |.ok q'=>.ok (nat (ws.length+1)) (h.set m (.lst (ws++[q.W]++[q'.W])))
noncomputable def unk(ks ss:List Str):Bool:=ss.any λs=>!Qa5 s ks
noncomputable def ded(q:Sd)(ss:List Str):Bool:=ss.any λs=>Qa5 s q.G
noncomputable def first(R:Rx)(ks:List Str)(q:Sd)(ss:List Str)(o:Out):Out:=if unk ks ss=true then .no R.eUn else if ded q ss=true then .no R.eDe else if QaW q.dw=true then .no R.eNG else o
section
variable {fw:Nat}{tb:List Fn}{R:Rx}{q:Sd}{P:List Str}{n m:Nat}{ws:List W}{h:Qaa}{ks:List Str}
theorem QqA(T:R.Bs tb)(d:Nat)(t:W)(ss:List Str)(hs:Seq t (ss.map W.str))(nm:∀s∈ss,QaI s):Qab fw tb (d+2) R.lv [t,.tup (ks.map W.str),.lst (q.G.map W.str)] h=if unk ks ss=true then .exc R.eUn h else if ded q ss=true then .exc R.eDe h else .ok .non h:=by
 rw[Qac T.lv rfl]
 have c1:=knownR (fw:=fw) (h:=h) (ks:=ks) T d t ss hs nm
 obtain⟨r,e⟩:=Qfj (i:=3) (c:=R.eDe) (p:=λs=>Qa5 s q.G) (body:=exB (Qab fw tb (d+1)) fw [.if_ (.cmp .In V3 V2) [.raise R.eDe [.rep 3,.lit]] []]) (σ:=[some t,some (.tup (ks.map W.str)),some (.lst (q.G.map W.str)),none]) (h:=h) ss none (λs hs'=>by simp! [Qj6 (nm s hs')])
 simp_arith at e
 rcases hs with rfl|rfl<;>(simp! [c1,e,unk,ded];rfl)
theorem QdQ(T:R.Bs tb)(d:Nat)(t:W)(ss:List Str)(ok:q.Ok P n)(hn:h[m]?=some (.lst (ws++[q.W])))(hs:Seq t (ss.map W.str))(nm:∀s∈ss,QaI s):Qab fw tb (d+3) R.pc [reg ks m,t] h=if unk ks ss=true then .exc R.eUn h else if ded q ss=true then .exc R.eDe h else .ok .non h:=by rw[Qac T.pc rfl];simp! [Qhg T _ ok hn,QqA  T _ t ss hs nm]
theorem QdB(T:R.Bs tb)(d:Nat)(ok:q.Ok P n)(hn:h[m]?=some (.lst (ws++[q.W]))):Qab fw tb (d+2) R.gd [reg ks m] h=if QaW q.dw=true then .exc R.eNG h else .ok .non h:=by rw[Qac T.gd rfl];simp! [Qhg T _ ok hn,QbP]
theorem Qh0:J.fin h.length (.ok (.ret (nat k)) (h.set m (.lst us)))=.ok (nat k) (h.set m (.lst us)):=by unfold J.fin;dsimp only;rw[QaT _ rfl,Qd7]
noncomputable def QbY(R:Rx)(nd:Nat)(q':Sd):Out:=if 200<=nd then .no R.eTD else .ok q'
theorem keepR(T:R.Bs tb)(d:Nat)(q':Sd)(hn:h[m]?=some (.lst (ws++[q.W])))(hp:Qaf [q'.dw,.lst (q'.xs.map ptW),.dic q'.ks (q'.vs.map W.str),.lst (q'.G.map W.str)]=true)(hl:ws.length<=900):Qab fw tb (d+2) R.kp [reg ks m,q'.dw,.lst (q'.xs.map ptW),.dic q'.ks (q'.vs.map W.str),.lst (q'.G.map W.str)] h=Qf9 m ws q h (QbY R ws.length q'):=by have c:=Qnw (fw:=fw)  T.kp T.nx T.sf T.tl d ks m (ws++[q.W]) q'.dw (.lst (q'.xs.map ptW)) (.dic q'.ks (q'.vs.map W.str)) (.lst (q'.G.map W.str)) h hn hp (by rw[zA,Zm];lia);rw[zA,Zm]at c;rw[c];unfold QbY;by_cases b:200<=ws.length;rw[zF b,zF ZzL];rfl;rw[zM b,zM ZzL];rfl
theorem Qbz:J.fin h.length (bnd (Qf9 m ws q h o) λw h=>.ok (.ret w) h)=Qf9 m ws q h o:=by
 cases o with
 |no c=>exact QgL
 |ok q'=>exact Qh0
theorem Qgz(T:R.Bs tb)(d){dw xs k2 vs G}(hn:h[m]?=some (.lst (ws++[q.W])))(hl:ws.length<=900)(d2:Qah dw=true)(hp:Qaf (xs.map ptW)=true):Qab fw tb (d+2) R.kp [reg ks m,dw,.lst (xs.map ptW),.dic k2 (vs.map W.str),.lst (G.map W.str)] h=Qf9 m ws q h (QbY R ws.length ⟨dw,xs,k2,vs,G⟩):=keepR T d ⟨dw,xs,k2,vs,G⟩ hn (by simp only[Qah,Qaf,d2,hp,Qak,Bool.and_self,Bool.and_true]) hl
theorem QcH{c:Prop} [Decidable c]:Qf9 m ws q h (if c then a else b)=if c then Qf9 m ws q h a else Qf9 m ws q h b:=by split<;>rfl
theorem QbD:Qf9 m ws q h (.no c)=.exc c h:=rfl
end
noncomputable def QcW(R:Rx)(ks:List Str)(q:Sd)(nd:Nat)(name:Str)(z:Int):Out:=first R ks q [name] (if Qei z q.xs.length=true then .no R.eNP else match q.xs[z.toNat-1]? with
 |none=>.no R.eNP
 |some x=>if QlE x name=true then .no R.eNH else if 60<=q.xs.length then .no R.eTP else QbY R nd ⟨.tup [.str "sever",.str name,.int z],Qld q.xs x z.toNat name (nd+1),q.ks,q.vs,q.G⟩)
noncomputable def QdS(R:Rx)(ks:List Str)(q:Sd)(nd:Nat)(name:Str)(z tz:Int)(ss:List Str):Out:=if 1<=ss.length/\ss.length<=6/\ss.Nodup then first R ks q (name::srt ss) (if Qei z q.xs.length=true then .no R.eNP else match q.xs[z.toNat-1]? with
 |none=>.no R.eNP
 |some x=>if eqB x.hs [name]=false then .no R.eNH else if Qik tz=true then .no R.eBP else if 60<=q.xs.length/\tz<20 then .no R.eTP else QbY R nd ⟨.tup [.str "hand",.str name,.int z,.int tz,.tup ((srt ss).map W.str)],Qez q.xs x z.toNat tz.toNat (srt ss) (nd+1),q.ks,q.vs,q.G⟩) else .no R.eBG
noncomputable def QbB(R:Rx)(ks:List Str)(q:Sd)(nd:Nat)(a b:Str)(k2 us:List Str):Out:=first R ks q [a,b] (QbY R nd ⟨.tup [.str "follow",.str a,.str b],q.xs,k2,us,q.G⟩)
noncomputable def QlX(R:Rx)(ks:List Str)(q:Sd)(nd:Nat)(ss:List Str):Out:=if 1<=ss.length/\ss.length<=30/\ss.Nodup then first R ks q (srt ss) (if 60<(Qhh (Qdh q.ks q.vs q.G (srt ss)) (srt ss) (nd+1) q.xs).length then .no R.eTP else QbY R nd ⟨.tup [.str "die",.tup ((srt ss).map W.str)],Qhh (Qdh q.ks q.vs q.G (srt ss)) (srt ss) (nd+1) q.xs,q.ks,q.vs,q.G++srt ss⟩) else .no R.eBG
section
variable {fw:Nat}{tb:List Fn}{R:Rx}{q:Sd}{P:List Str}{n m:Nat}{ws:List W}{h:Qaa}{ks:List Str}
theorem QcV(h:Qei z k=false):z=((z.toNat))/\1<=z.toNat/\z.toNat<=k:=by obtain⟨j,rfl,h1,h2⟩:=QjQ h;simp_all
theorem QoV(T:R.In tb)(hf:2^2010<=fw)(d)(ok:q.Ok P n)(n4:n<=400)(hm:QaI name)(hz:z.natAbs<10^100):Qab fw tb (d+6) R.sp [.lst (q.xs.map ptW),.int z,.str name,nat k] h=if Qei z q.xs.length=true then .exc R.eNP h else match q.xs[z.toNat-1]? with
 |none=>.exc R.eNP h
 |some x=>if QlE x name=true then .exc R.eNH h else if 60<=q.xs.length then .exc R.eTP h else .ok (.lst ((Qld q.xs x z.toNat name k).map ptW)) h:=by
 by_cases b:Qei z q.xs.length=true
 ·rw[zF b];exact QiW T.toIn (d+1) z hz b
 rw[zM b]
 obtain⟨ez,z1,z2⟩:=QcV (Zp _ |>.mp b)
 rw[zJ ZzL]
 have:=QkJ (h:=h)  (dd:=k) T.toIn hf (d+1) ok.x1 n4 ok.x2 z1 (zJ ZzL) hm
 rwa [show nat z.toNat=W.int z from congrArg W.int ez.symm]at this
theorem handPR(T:R.In tb)(hf:2^2010<=fw)(d)(ok:q.Ok P n)(n4:n<=400)(hm:QaI name)(hz:z.natAbs<10^100)(hy:tz.natAbs<10^100):Qab fw tb (d+6) R.hp [.lst (q.xs.map ptW),.int z,.str name,.int tz,.tup (to.map W.str),nat k] h=if Qei z q.xs.length=true then .exc R.eNP h else match q.xs[z.toNat-1]? with
 |none=>.exc R.eNP h
 |some x=>if eqB x.hs [name]=false then .exc R.eNH h else if Qik tz=true then .exc R.eBP h else if 60<=q.xs.length/\tz<20 then .exc R.eTP h else .ok (.lst ((Qez q.xs x z.toNat tz.toNat to k).map ptW)) h:=by
 by_cases b:Qei z q.xs.length=true
 ·rw[zF b];exact QjY T.toIn (d+1) z tz hz b
 rw[zM b]
 obtain⟨ez,z1,z2⟩:=QcV (Zp _ |>.mp b)
 rw[zJ ZzL]
 have:=QmY (h:=h)  (to:=to) (dd:=k) T.toIn hf (d+1)  ok.x1 n4 ok.x2 z1 (zJ ZzL) hm hy
 rwa [show nat z.toNat=W.int z from congrArg W.int ez.symm]at this
theorem severR(T:R.In tb)(hf:2^2010<=fw)(d:Nat){name:Str}{z:Int}(ok:q.Ok P n)(hn:h[m]?=some (.lst (ws++[q.W])))(n4:n<=400)(hl:ws.length<=900)(hm:QaI name)(hz:z.natAbs<10^100):Qab fw tb (d+7) R.sv [reg ks m,.str name,.int z] h=Qf9 m ws q h (QcW R ks q ws.length name z):=by
 rw[Qac T.sv rfl];have s:=QoV (h:=h) (k:=ws.length+1) T hf d ok n4 hm hz;unfold QcW first
 rcases e:q.xs[z.toNat-1]? with _|x<;>simp! [QdQ  T.toBs _ (.tup [.str name]) [name] ok hn (.inr rfl) (by simpa),QdB T.toBs _ ok hn,Qhg T.toBs _ ok hn,QdD T.nx _ _ _ (ws++[q.W]),hn,e▸s,QbD,QcH];simp! [Qgz (dw:=.tup [.str "sever",.str name,.int z]) T.toBs _ hn hl rfl (Qfr ok.x1 (zC e)),Qbz]
theorem QgB(h:unk ks ss=false):∀s∈ss,s∈ks:=λs hs=>by have:=zzI.mp h s hs;simpa [QaR] using this
theorem handR(T:R.In tb)(hf:2^2010<=fw)(d:Nat){name:Str}{z tz:Int}{t:W}{ss:List Str}(ok:q.Ok P n)(hn:h[m]?=some (.lst (ws++[q.W])))(n4:n<=400)(hl:ws.length<=900)(hm:QaI name)(hz:z.natAbs<10^100)(hy:tz.natAbs<10^100)(ht:Seq t (ss.map W.str))(h6:ss.length<64)(hs:∀s∈ss,QaI s) :
  Qab fw tb (d+7) R.hd [reg ks m,.str name,.int z,.int tz,t] h=Qf9 m ws q h (QdS R ks q ws.length name z tz ss):=by
 rw[Qac T.hd rfl]
 have s:=handPR (h:=h) (k:=ws.length+1) (to:=srt ss) T hf d ok n4 hm hz hy
 have g:=Qer (fw:=fw) T.gp T.tw (d+4) t ss 1 6 h ht h6 ZzS ZzD
 have sl:=QbT ss
 have p:=QdQ (fw:=fw) (ks:=ks) T.toBs (d+3) (.tup (.str name::(srt ss).map W.str)) (name::srt ss) ok hn (.inr rfl) (by simpa [hm,srt_mem] using hs)
 simp_arith at g
 unfold QdS first
 by_cases g6:1<=ss.length/\ss.length<=6/\ss.Nodup
 ·rcases e:q.xs[z.toNat-1]? with _|x<;>simp! [g,g6,p,QdB T.toBs _ ok hn,Qhg T.toBs _ ok hn,QdD T.nx _ _ _ (ws++[q.W]),hn,e▸s,QbD,QcH,add_t,show 1+(srt ss).length<=1000 by lia]
  simp! [Qgz (dw:=.tup [.str "hand",.str name,.int z,.int tz,.tup ((srt ss).map W.str)]) T.toBs _ hn hl (by simp[Qah,Qaf,Qak]) (Qcj ok.x1 (zC e)),Qbz]
 ·simp! [g,g6,QbD]
theorem QoB(T:R.In tb)(d:Nat){a b:Str}{k2 us:List Str}(ok:q.Ok P n)(hn:h[m]?=some (.lst (ws++[q.W])))(n4:n<=400)(hl:ws.length<=900)(ha:QaI a)(hb:QaI b)(e:QdH q.ks (q.vs.map W.str) a (.str b)=(k2,us.map W.str)):Qab fw tb (d+4) R.fl [reg ks m,.str a,.str b] h=Qf9 m ws q h (QbB R ks q ws.length a b k2 us):=by
 rw[Qac T.fl rfl];unfold QbB first
 simp! [QdQ  T.toBs _ (.tup [.str a,.str b]) [a,b] ok hn (.inr rfl) (by simp_all),QdB T.toBs _ ok hn,Qhg T.toBs _ ok hn,QbD,QcH,QaO,e,show q.ks.length<1000 by have:=ok.k2;lia,Qgz (dw:=.tup [.str "follow",.str a,.str b]) T.toBs _ hn hl rfl (QaD ok.x1),Qbz]
theorem dieR(T:R.In tb)(U:R.toIx.Dh tb)(hf:2^2010<=fw)(d:Nat){t:W}{ss:List Str}(ok:q.Ok P n)(hn:h[m]?=some (.lst (ws++[q.W])))(n4:n<=400)(hl:ws.length<=900)(hP:P.length<=30)(nP:∀y∈P,QaI y)(hk:∀y∈ks,y∈P)(ht:Seq t (ss.map W.str))(h6:ss.length<64)(hs:∀s∈ss,QaI s) :
  Qab fw tb (d+7) R.di [reg ks m,t] h=Qf9 m ws q h (QlX R ks q ws.length ss):=by
 rw[Qac T.di rfl]
 have g:=Qer (fw:=fw) T.gp T.tw (d+4) t ss 1 30 h ht h6 ZzD ZzD
 have sl:=QbT ss
 have p:=QdQ (fw:=fw) (ks:=ks) T.toBs (d+3) (.tup ((srt ss).map W.str)) (srt ss) ok hn (.inr rfl) (λs hs'=>hs s (srt_mem.mp hs'))
 have gl :=zf (QbH ok.g2 ok.g1) hP
 simp_arith at g
 unfold QlX first
 by_cases g6:1<=ss.length/\ss.length<=30/\ss.Nodup
 ·by_cases u:unk ks (srt ss)=true
  ·simp! [g,g6,p,u,QbD]
  ·have c:=dieP (fw:=fw) (h:=h) (dd:=ws.length+1)  (ks:=q.ks) (vs:=q.vs) (dead:=q.G) T.toIn U hf (d+1) (.tup ((srt ss).map W.str)) (.inr rfl) ok.x1 n4 ok.x2 hP (λs hs'=>hk s (QgB (Zp _ |>.mp u) s hs')) ok.v1 nP ok.k1 ZzL
   simp! [g,g6,p,u,QdB T.toBs _ ok hn,Qhg T.toBs _ ok hn,QdD T.nx _ _ _ (ws++[q.W]),hn,c,QbD,QcH,Qdy,show q.G.length+(srt ss).length<=1000 by lia,<- Zc,Qgz (dw:=.tup [.str "die",.tup ((srt ss).map W.str)]) T.toBs _ hn hl (by simp[Qah,Qaf,Qak]) (QaD (n:=n+1) (QnD (Ql2 λy hy=>nP y (ok.v1 y hy)) ok.x1)),Qbz]
 ·simp! [g,g6,QbD]
end
noncomputable def QbM(R:Rx)(ks:List Str)(q:Sd)(nd:Nat)(ss:List Str):Out:=if 1<=ss.length/\ss.length<=6/\ss.Nodup then(if unk ks (srt ss)=true then .no R.eUn else if ded q (srt ss)=true then .no R.eDe else if QaW q.dw=false then .no R.eGB else QbY R nd ⟨.tup [.str "grant",.tup ((srt ss).map W.str)],[bhP [] 1 1 (1,1) (srt ss)],q.ks,q.vs,q.G⟩) else .no R.eBG
section
variable {fw:Nat}{tb:List Fn}{R:Rx}{q:Sd}{P:List Str}{n m:Nat}{ws:List W}{h:Qaa}{ks:List Str}
theorem grantB(T:R.Bs tb)(hfi:tb[R.fi]?=some ⟨1,1,Qe6 R.be,none⟩)(hbe:tb[R.be]?=some ⟨5,5,QaQ,none⟩)(hgr:tb[R.gr]?=some ⟨2,4,Qli R.eGB R.gp R.pc R.la R.kp R.fi,none⟩)(d:Nat){t:W}{ss:List Str}(ok:q.Ok P n)(hn:h[m]?=some (.lst (ws++[q.W])))(hl:ws.length<=900)(ht:Seq t (ss.map W.str))(h6:ss.length<64)(hs:∀s∈ss,QaI s):Qab fw tb (d+4) R.gr [reg ks m,t] h=Qf9 m ws q h (QbM R ks q ws.length ss):=by
 rw[Qac hgr rfl]
 have g:=Qer (fw:=fw) T.gp T.tw (d+1) t ss 1 6 h ht h6 ZzD ZzD
 have p:=QdQ (fw:=fw) (ks:=ks) T d (.tup ((srt ss).map W.str)) (srt ss) ok hn (.inr rfl) (λs hs'=>hs s (srt_mem.mp hs'))
 have k:=Qgz (fw:=fw) (ks:=ks) (q:=q) (dw:=.tup [.str "grant",.tup ((srt ss).map W.str)]) (xs:=[bhP [] 1 1 (1,1) (srt ss)]) (k2:=q.ks) (vs:=q.vs) (G:=q.G) T (d+1) hn hl (by simp[Qah,Qaf,Qak]) (by
  have:Qah (bhW [] 1 1 (1,1) (srt ss))=true:=Qax  rfl
  show(Qah (bhW [] 1 1 (1,1) (srt ss))&&true)=true
  rw[this];rfl)
 simp_arith at g
 rw[zO,Zy,Qlt]at k
 unfold QbM
 by_cases g6:1<=ss.length/\ss.length<=6/\ss.Nodup
 ·simp! [g,g6,p,Qhg T _ ok hn,Qj4 hfi hbe (d+1) (srt ss) h,QbP,QcH,QbD,k,Qbz]
 ·simp! [g,g6,QbD]
theorem grantR(T:R.In tb)(d:Nat){t:W}{ss:List Str}(ok:q.Ok P n)(hn:h[m]?=some (.lst (ws++[q.W])))(hl:ws.length<=900)(ht:Seq t (ss.map W.str))(h6:ss.length<64)(hs:∀s∈ss,QaI s):Qab fw tb (d+4) R.gr [reg ks m,t] h=Qf9 m ws q h (QbM R ks q ws.length ss):=grantB T.toBs T.fi T.be T.gr d ok hn hl ht h6 hs
noncomputable def Rx.errs(R:Rx):List Nat:=[R.eBG,R.eUn,R.eDe,R.eNG,R.eGB,R.eNP,R.eNH,R.eBP,R.eTP,R.eTD]
def Out.Ok(o:Out)(R:Rx)(P:List Str)(n:Nat):Prop:=match o with
 |.no c=>c∈R.errs
 |.ok q=>q.Ok P n/\QaW q.dw=false
theorem Qb8(h:c∈R.errs):(Out.no c).Ok R P n:=h
theorem Qd6(h:unk ks ss=false->ded q ss=false->o.Ok R P n):(first R ks q ss o).Ok R P n:=by
 unfold first
 split
 ·exact Qb8 (by simp[Rx.errs])
 ·split
  ·exact Qb8 (by simp[Rx.errs])
  ·split
   ·exact Qb8 (by simp[Rx.errs])
   grind
theorem Qeq(h:q'.Ok P n)(hd:QaW q'.dw=false):(QbY R nd q').Ok R P n:=by unfold QbY;split;exact Qb8 (by simp[Rx.errs]);exact⟨h,hd⟩
theorem Qi0{a:Str}:[a].Nodup:=ZzS
theorem Qhr(h:ss.Nodup):(srt ss).Nodup:=(Qbm ss).nodup_iff.mpr h
theorem QmZ(ok:q.Ok P n)(hm:QaI name):(QcW R ks q nd name z).Ok R P (n+1):=by
 unfold QcW;refine Qd6 λ_ _=>?_;split;exact Qb8 (by simp[Rx.errs]);cases e:q.xs[z.toNat-1]? with
 |none=>exact Qb8 (by simp[Rx.errs])
 |some x=>dsimp only;have X:=zC e;split;exact Qb8 (by simp[Rx.errs]);rename_i b;split;exact Qb8 (by simp[Rx.errs]);rename_i b2;refine Qeq ⟨rfl,sevP_R ok.x1 X (Zp _ |>.mp b) (ok.x3 x X) hm,by rw[QkE];lia,λy hy=>?_,ok.k1,Nat.le_succ_of_le ok.k2,ok.v1,ok.g1,ok.g2⟩ rfl;rcases Za.mp hy with h|h;rcases Zo h with h|h;exact ok.x3 y h;rw[h];exact List.Nodup.sublist List.filter_sublist (ok.x3 x X);rw[zP.mp h];exact Qi0
theorem QpP{nd:Nat}{name:Str}{z tz:Int}{ss:List Str}(ok:q.Ok P n)(hs:∀s∈ss,QaI s):(QdS R ks q nd name z tz ss).Ok R P (n+1):=by
 unfold QdS;split;rename_i g;refine Qd6 λ_ _=>?_;split;exact Qb8 (by simp[Rx.errs]);cases e:q.xs[z.toNat-1]? with
 |none=>exact Qb8 (by simp[Rx.errs])
 |some x=>dsimp only;have X:=zC e;split;exact Qb8 (by simp[Rx.errs]);split;exact Qb8 (by simp[Rx.errs]);rename_i b;split;exact Qb8 (by simp[Rx.errs]);rename_i b2;obtain⟨tw,rfl,w1,w2⟩:=Ql9 (Zp _ |>.mp b);rw[Zt];have x2:=ok.x2;refine Qeq ⟨by simp[Qah,Qaf,Qak],hanP_R w2 ok.x1 X (by rw[QbT];exact g.1) (by rw[QbT];exact g.2.1) λs h=>hs s (srt_mem.mp h),by show(Qez _ _ _ _ _ _).length<=60;rw[QeY];split<;>lia,λy hy=>?_,ok.k1,Nat.le_succ_of_le ok.k2,ok.v1,ok.g1,ok.g2⟩ rfl;unfold Qez at hy;split at hy;rcases Zo hy with h|h;exact ok.x3 y h;rw[h];exact Qhr g.2.2;rcases Za.mp hy with h|h;rcases Zo h with h|h;exact ok.x3 y h;rw[h];exact ok.x3 x X;rw[zP.mp h];exact Qhr g.2.2
 exact Qb8 (by simp[Rx.errs])
theorem QjE{nd:Nat}{a b:Str}{k2 us:List Str}(ok:q.Ok P n)(hk:∀y∈ks,y∈P)(l1:k2.length=us.length)(l2:k2.length<=q.ks.length+1)(hv:∀u∈us,u=b\/u∈q.vs):(QbB R ks q nd a b k2 us).Ok R P (n+1):=by refine Qd6 λu _=>Qeq ⟨rfl,λx hx=>(ok.x1 x hx).up (ZK _),ok.x2,ok.x3,l1,by have:=ok.k2;grind,λy hy=>?_,ok.g1,ok.g2⟩ rfl;rcases hv y hy with rfl|hy;exact hk _ (QgB u _ ZzS);exact ok.v1 y hy
theorem QlN{nd:Nat}{ss:List Str}(ok:q.Ok P n)(hs:∀s∈ss,QaI s):(QbM R ks q nd ss).Ok R P (n+1):=by
 unfold QbM;split;rename_i g;split;exact Qb8 (by simp[Rx.errs]);split;exact Qb8 (by simp[Rx.errs]);split;exact Qb8 (by simp[Rx.errs]);have sl:(srt ss).length<=6:=by rw[QbT];exact g.2.1
 refine Qeq ⟨by simp[Qah,Qaf,Qak],λx hx=>?_,by show 1<=60;decide,λx hx=>?_,ok.k1,Nat.le_succ_of_le ok.k2,ok.v1,ok.g1,ok.g2⟩ rfl;rw[zP.mp hx];have p1:1<=20^(n+1):=Nat.pow_pos ZzD;refine⟨Nat.one_pos,p1,p1,by show 1<=(srt ss).length;rw[QbT];exact g.1,sl,λs h=>hs s (srt_mem.mp h),?_,?_,?_,by show 1<=n+1;lia⟩;show Qaf [.tup [nat 1,nat 1,shp (1,1),.tup ((srt ss).map W.str)]]=true;simp[Qah,Qaf,Qak];show Qey [.tup [nat 1,nat 1,shp (1,1),.tup ((srt ss).map W.str)]]=true;have:(srt ss).length<=100000:=ZzL;simp[okQ,Qey,Qcd,this];show Qex [.tup [nat 1,nat 1,shp (1,1),.tup ((srt ss).map W.str)]]<=4;simp[dep,Qex,Qco];rw[zP.mp hx];exact Qhr g.2.2;exact Qb8 (by simp[Rx.errs])
theorem die_ok(ok:q.Ok P n)(nP:∀y∈P,QaI y)(hk:∀y∈ks,y∈P):(QlX R ks q nd ss).Ok R P (n+1):=by
 unfold QlX;split;rename_i g;refine Qd6 λu de=>?_;split;exact Qb8 (by simp[Rx.errs]);rename_i b;refine Qeq ⟨by simp[Qah,Qaf,Qak],QnD (Ql2 λy hy=>nP y (ok.v1 y hy)) ok.x1,Nat.not_lt.mp b,λy hy=>?_,ok.k1,Nat.le_succ_of_le ok.k2,ok.v1,λy hy=>?_,?_⟩ rfl;rcases Za.mp hy with h|h;obtain⟨i,hi,rfl⟩:=zzE.mp h;have X:=ok.x3 _ (ZM hi);unfold mkP;split;exact X;split;exact List.Nodup.sublist List.filter_sublist X;exact Qi0;have nw:∀(xs:List Pt) (m:Nat),y∈nwP (Qdh q.ks q.vs q.G (srt ss)) (srt ss) (nd+1) xs m->y.hs.Nodup:=by
  intro xs;induction xs with
  |nil=>intro m h;cases h
  |cons x xs ih=>intro m h;rw[nwP]at h;rcases Za.mp h with h|h;unfold exP at h;split at h;obtain⟨i,hi,rfl⟩:=zzE.mp h;exact Qi0;cases h;exact ih _ h
 exact nw _ _ h;rcases Za.mp hy with h|h;exact ok.g1 y h;exact hk y (QgB u y h);refine Zw.mpr ⟨ok.g2,Qhr g.2.2,λa ha b hb e=>?_⟩;subst e;unfold ded at de;have:=zzI.mp de a hb;rw[QaR]at this;exact this (zX ha);exact Qb8 (by simp[Rx.errs])
end
inductive Dd where
 |grant (ss:List Str)|sever (a:Str) (z:Int)|hand (a:Str) (z tz:Int) (ss:List Str)|follow (a b:Str)|die (ss:List Str)
noncomputable def Dd.row(d:Dd)(g:W):List W:=match d with
 |.grant _=>[.str "grant",g]
 |.sever a z=>[.str "sever",.str a,.int z]
 |.hand a z tz _=>[.str "hand",.str a,.int z,.int tz,g]
 |.follow a b=>[.str "follow",.str a,.str b]
 |.die _=>[.str "die",g]
noncomputable def Dd.grp:Dd->List Str
 |.grant ss=>ss
 |.hand _ _ _ ss=>ss
 |.die ss=>ss
 |_=>[]
noncomputable def unS:W->Str
 |.str s=>s
 |_=>Qct
noncomputable def dpS(ks vs:List Str)(a b:Str):List Str×List Str:=((QdH ks (vs.map W.str) a (.str b)).1,(QdH ks (vs.map W.str) a (.str b)).2.map unS)
theorem QkR{ks vs:List Str}{a b:Str}(hl:ks.length=vs.length):QdH ks (vs.map W.str) a (.str b)=((dpS ks vs a b).1,(dpS ks vs a b).2.map W.str)/\(dpS ks vs a b).1.length=(dpS ks vs a b).2.length/\(dpS ks vs a b).1.length<=ks.length+1/\∀u∈(dpS ks vs a b).2,u=b\/u∈vs:=by
 obtain⟨k2,us,e,l1,l2,l3,_⟩:=Qnj ks vs a b hl;have e2:dpS ks vs a b=(k2,us):=by unfold dpS;rw[e,zzm];exact congrArg (Prod.mk k2) ((zzs  λx _=>rfl).trans (List.map_id _))
 simp_all
noncomputable def Qb7(R:Rx)(ks:List Str)(q:Sd)(nd:Nat):Dd->Out
 |.grant ss=>QbM R ks q nd ss
 |.sever a z=>QcW R ks q nd a z
 |.hand a z tz ss=>QdS R ks q nd a z tz ss
 |.follow a b=>QbB R ks q nd a b (dpS q.ks q.vs a b).1 (dpS q.ks q.vs a b).2
 |.die ss=>QlX R ks q nd ss
def Dd.Fit:Dd->Prop
 |.grant ss=>ss.length<64/\∀s∈ss,QaI s
 |.sever a z=>QaI a/\z.natAbs<10^100
 |.hand a z tz ss=>QaI a/\z.natAbs<10^100/\tz.natAbs<10^100/\ss.length<64/\∀s∈ss,QaI s
 |.follow a b=>QaI a/\QaI b
 |.die ss=>ss.length<64/\∀s∈ss,QaI s
noncomputable abbrev gE:E:=.ix V1 (.neg (.con (.int 1)))
noncomputable abbrev Qmu(sv fl gr hd di : Nat) : List S := [.if_ (.cmp .Eq (.ix V1 (.con (.int 0))) (.con (.str "sever"))) [.ret (.mth sv V0 [(.ix V1 (.con (.int 1))), (.ix V1 (.con (.int 2)))])] [],
 .if_ (.cmp .Eq (.ix V1 (.con (.int 0))) (.con (.str "follow"))) [.ret (.mth fl V0 [(.ix V1 (.con (.int 1))),(.ix V1 (.con (.int 2)))])] [],
 .asg 2 (.ix (.lst [(.blt .tuple [gE]),(.blt .list [gE])]) (.bin .Mod (.blt .len [gE]) (.con (.int 2)))),
 .if_ (.cmp .Eq (.ix V1 (.con (.int 0))) (.con (.str "grant"))) [.ret (.mth gr V0 [V2])] [],
 .if_ (.cmp .Eq (.ix V1 (.con (.int 0))) (.con (.str "hand"))) [.ret (.mth hd V0 [(.ix V1 (.con (.int 1))),(.ix V1 (.con (.int 2))),(.ix V1 (.con (.int 3))),V2])] [],
 .ret (.mth di V0 [V2])]
noncomputable abbrev Qps(ss:List Str):W:=if ss.length%2=0 then .tup (ss.map W.str) else .lst (ss.map W.str)
theorem QgC(ss):Seq (Qps ss) (ss.map W.str):=by unfold Qps;split;exact .inr rfl;exact .inl rfl
theorem Qa0(ht:Seq t ws)(e:L2.atI ws i=some w):ixW t (.int i) h=.ok w h:=by rcases ht with rfl|rfl;exact Qph e;unfold ixW seqA Qe3 seqL;simp_all
section
variable {fw:Nat}{tb:List Fn}{R:Rx}{q:Sd}{P:List Str}{n m:Nat}{ws:List W}{h:Qaa}{ks:List Str}
noncomputable def Dd.num(R:Rx):Dd->Nat
 |.grant _=>R.gr
 |.sever _ _=>R.sv
 |.hand _ _ _ _=>R.hd
 |.follow _ _=>R.fl
 |.die _=>R.di
noncomputable def Dd.args:Dd->List W
 |.grant ss=>[Qps ss]
 |.sever a z=>[.str a,.int z]
 |.hand a z tz ss=>[.str a,.int z,.int tz,Qps ss]
 |.follow a b=>[.str a,.str b]
 |.die ss=>[Qps ss]
theorem Qgi:nxt cf fw b (bnd r λw h=>.ok (.ret w) h)=bnd r λw h=>.ok (.ret w) h:=by cases r<;>rfl
theorem callG(d){f:Nat}(hc:tb[f]?=some ⟨2,3,Qmu R.sv R.fl R.gr R.hd R.di,none⟩)(D:Dd)(ht:Seq t (D.row g))(hg:Seq g (D.grp.map W.str))(c:Qab fw tb (d+7) (D.num R) (reg ks m::D.args) h=Qf9 m ws q h o) :
  Qab fw tb (d+8) f [reg ks m,t] h=Qf9 m ws q h o:=by
 have gt:∀{ss:List Str},Seq g (ss.map W.str)->QbK .tuple [g] h=.ok (.tup (ss.map W.str)) h/\QbK .list [g] h=.ok (.lst (ss.map W.str)) h/\QbK .len [g] h=.ok (nat ss.length) h:=λhg=>by rcases hg with rfl|rfl<;>exact⟨rfl,rfl,congrArg (λn=>Res.ok (nat n) h) (zo ..)⟩
 have gi:∀{ss:List Str},ixW (.lst [.tup (ss.map W.str),.lst (ss.map W.str)]) (.int ((ss.length:Int).fmod 2)) h=.ok (Qps ss) h:=λ{ss}=>by rw[show((ss.length:Int).fmod 2)=((ss.length%2:Nat):Int) from Qd5 ss.length 2];unfold Qps;rcases Nat.mod_two_eq_zero_or_one ss.length with e|e<;>rw[e];exact lx_0;exact lx_1
 rw[Qac hc rfl]
 cases D<;>simp only[Dd.num,Dd.args,Dd.grp]at c hg
 case sever=>simp! [Qgi,Qa0 (i:=0) ht rfl,Qa0 (i:=1) ht rfl,Qa0 (i:=2) ht rfl,tgs,c,Qbz]
 case follow=>simp! [Qgi,Qa0 (i:=0) ht rfl,Qa0 (i:=1) ht rfl,Qa0 (i:=2) ht rfl,tgs,c,Qbz]
 case grant=>simp! [Qgi,Qa0 (i:=0) ht rfl,Qa0 (i:=-1) ht rfl,gt hg,gi,Qcs h (show(2:Int)≠0 by decide),tgs,c,Qbz]
 case hand=>simp! [Qgi,Qa0 (i:=0) ht rfl,Qa0 (i:=1) ht rfl,Qa0 (i:=2) ht rfl,Qa0 (i:=3) ht rfl,Qa0 (i:=-1) ht rfl,gt hg,gi,Qcs h (show(2:Int)≠0 by decide),tgs,c,Qbz]
 case die=>simp! [Qgi,Qa0 (i:=0) ht rfl,Qa0 (i:=-1) ht rfl,gt hg,gi,Qcs h (show(2:Int)≠0 by decide),tgs,c,Qbz]
theorem callR(T:R.In tb)(U:R.toIx.Dh tb)(hf:2^2010<=fw)(d)(hc:tb[f]?=some ⟨2,3,Qmu R.sv R.fl R.gr R.hd R.di,none⟩)(D)(ok:q.Ok P n)(hn:h[m]?=some (.lst (ws++[q.W])))(n4:n<=400)(hl:ws.length<=900)(hP:P.length<=30)(nP:∀y∈P,QaI y)(hk:∀y∈ks,y∈P)(ht:Seq t (D.row g))(hg:Seq g (D.grp.map W.str))(fit:D.Fit) :
  Qab fw tb (d+8) f [reg ks m,t] h=Qf9 m ws q h (Qb7 R ks q ws.length D):=by
 refine callG d hc D ht hg ?_
 cases D with
 |sever a z=>exact severR   (z:=z) T hf d ok hn n4 hl fit.1 fit.2
 |follow a b=>exact QoB (fw:=fw) (ks:=ks) T (d+3) ok hn n4 hl fit.1 fit.2 (QkR (a:=a) (b:=b) ok.k1).1
 |grant ss=>exact grantR  (ks:=ks) T (d+3) ok hn hl (QgC ss) fit.1 fit.2
 |hand a z tz ss=>exact handR (fw:=fw) (ks:=ks) (z:=z) (tz:=tz) T hf d ok hn n4 hl fit.1 fit.2.1 fit.2.2.1 (QgC ss) fit.2.2.2.1 fit.2.2.2.2
 |die ss=>exact dieR (fw:=fw) (ks:=ks) T U hf d ok hn n4 hl hP nP hk (QgC ss) fit.1 fit.2
theorem Qfa{nd:Nat}{D:Dd}(ok:q.Ok P n)(nP:∀y∈P,QaI y)(hk:∀y∈ks,y∈P)(fit:D.Fit):(Qb7 R ks q nd D).Ok R P (n+1):=by
 cases D with
 |sever a z=>exact QmZ ok fit.1
 |follow a b=>have z:=QkR (a:=a) (b:=b) ok.k1;exact QjE ok hk z.2.1 z.2.2.1 z.2.2.2
 |grant ss=>exact QlN ok fit.2
 |hand a z tz ss=>exact QpP ok fit.2.2.2.2
 |die ss=>exact die_ok ok nP hk
end
theorem Qm2(ee:evE cf e σ h=.exc c h1)(ha:all.contains c=true):exS cf fw (.tryF e i cs all) σ h=.ok (.nx ((σ.map λ_=>none).set i (some (.lst (cs.map λk=>.bl (decide (c=k))))))) h1:=by rw[exS];simp_all
theorem Qpu(ee:evE cf e σ h=.ok w h1):exS cf fw (.tryF e i cs all) σ h=.ok (.ret w) h1:=by rw[exS,ee]
noncomputable def unI:W->Option Nat
 |.int i=>some i.toNat
 |_=>none
theorem QoA(y:Nat):unI (W.int (0+(y)))=some y:=by rw[Int.zero_add];rfl
theorem Qlw{cf:CF}{is:List Nat}{n m:Nat}{a c elt:E}{σ:Qai}{h:Qaa}{p:Nat->Bool}{F:Nat->W}(ea:evE cf a σ h=.ok (nat m) h)(hm:m<=1000)
  (hF:∀k,k<m->∃σ',QaL is (nat k) (clr is σ++List.replicate n none)=some σ'/\(∀hh,evT cf c σ' hh=.ok (p k) hh)/\(p k=true->Qah (F k)=true/\∀hh,evE cf elt σ' hh=.ok (F k) hh)):evE cf (.compR is n [a] [c] elt) σ h=.ok (.lst (((List.range m).filter p).map F)) h:=by
 rw[evE,Qae ea Qan,bnd_ok]
 have hr:Qlj [nat m]=some ((List.range m).map λ(k:Nat)=>W.int (0+(k:Int))):=by have cc:-(2^62)<=((m:Nat):Int)/\((m:Nat):Int)<2^62:=ZzL;rw[Qb2];unfold Qjc;dsimp only;rw[zF cc,Zt]
 rw[hr]
 dsimp only
 refine lc_sel unI QoA (λk e=>by cases e) (by rw[ZX];exact hm) λk hk=>?_
 grind
noncomputable def wds:List Str:=["BadGroup","Unknown","Dead","NotGranted","GrantedBefore","NoPart","NotHeld","BadPiece","TooManyParts","TooManyDeeds"]
noncomputable abbrev tenL:List Nat:=[1,2,3,4,5,6,7,8,9,10]
theorem ten:∀k,k<10->tenL[k]?=some (k+1):=ZzD
theorem Qq6:∀c,c<10->(List.range 10).filter (λk=>decide (c+1=k+1))=[c]:=ZzD
noncomputable abbrev bDo(cl : Nat)(all : List Nat) : List S := [.asg 3 (.lst []),
 .tryF (.call cl [V0,V1]) 3 tenL all,
 .asg 4 (.lst [(.con (.str "BadGroup")),(.con (.str "Unknown")),(.con (.str "Dead")),(.con (.str "NotGranted")),(.con (.str "GrantedBefore")),(.con (.str "NoPart")),(.con (.str "NotHeld"))]),
 .asg 4 (.bin .Add V4 (.lst [(.con (.str "BadPiece")),(.con (.str "TooManyParts")),(.con (.str "TooManyDeeds"))])),
 .ret (.blt .tuple [(.compR [5] 1 [(.con (.int 10))] [(.ix V3 V5)] (.ix V4 V5))])]
theorem do_exc(hc:c<10)(ha:all.contains (c+1)=true)(e:cf cl [r,w] h=.exc (c+1) h):exB cf fw (bDo cl all) [some r,some w,none,none,none] h=.ok (.ret (.tup [.str (wds.getD c Str.empty)])) h:=by let fl:W:=.lst (tenL.map λk=>.bl (decide (c+1=k)));let τ:Qai:=[none,none,none,some fl,some (.lst (wds.map W.str))];refine(Qad (QaU (Qbv Qan ZzD))).trans ((Qad (Qm2 (Qby (U0 rfl) (U1 rfl) e) ha)).trans ((Qad (QaU (Qbv (Qae Qao (Qae Qao (Qae Qao (Qae Qao (Qae Qao (Qae Qao (Qae Qao Qan))))))) (by show 7<=1000;decide)))).trans ((Qad (σ':=τ) (QaU (QlF (us:=(wds.take 7).map W.str) (vs:=(wds.drop 7).map W.str) (U4 rfl) (Qbv (Qae Qao (Qae Qao (Qae Qao Qan))) (by show 3<=1000;decide)) (by show 10<=1000;decide)))).trans ((Qar (Qa7 (QcU (Qlw (m:=10)   Qao ZzD λk hk=>⟨[none,none,none,some fl,some (.lst (wds.map W.str)),some (nat k)],rfl,λhh=>?_,λ_=>⟨rfl,λhh=>?_⟩⟩)))).trans (by rw[Qq6 c hc];rfl)))));exact QaX (Qbr (U3 rfl) (U5 rfl) (Qda (k:=k) (t:=fl) rfl (by rw[zT,ten k hk];rfl)));refine Qbr (U4 rfl) (U5 rfl) (Qda (k:=k) (t:=.lst (wds.map W.str)) rfl ?_);rw[zT,List.getD_eq_getElem?_getD,zJ (show k<wds.length from hk)];rfl
noncomputable def doW(m:Nat)(ws:List W)(q:Sd)(h:Qaa):Out->Res W
 |.no c=>.ok (.tup [.str (wds.getD (c-1) Str.empty)]) h
 |.ok q'=>.ok (nat (ws.length+1)) (h.set m (.lst (ws++[q.W]++[q'.W])))
section
variable {fw:Nat}{tb:List Fn}{R:Rx}{q:Sd}{P:List Str}{n m:Nat}{ws:List W}{h:Qaa}{ks:List Str}
theorem doG(d)(hd:tb[f]?=some ⟨2,5,bDo cl all,none⟩)(hal:∀c∈tenL,all.contains c=true)(c:Qab fw tb (d+8) cl [reg ks m,t] h=Qf9 m ws q h o)(ho:∀k,o=.no k->k∈tenL):Qab fw tb (d+9) f [reg ks m,t] h=doW m ws q h o:=by
 rw[Qac hd rfl];cases o with
 |no k=>
  have o':=ho k rfl;have k1:1<=k/\k<=10:=by revert o';simp;omega
  obtain⟨j,rfl⟩:∃j,k=j+1:=⟨k-1,ZzL⟩;exact Qcr (do_exc ZzL (hal _ o') c) (Qcu rfl)
 |ok q'=>exact Qcr ((Qad (QaU (Qbv Qan ZzD))).trans (Qar (Qpu (Qby (U0 rfl) (U1 rfl) c)))) Qh0
theorem doR(T:R.In tb)(U:R.toIx.Dh tb)(er:R.errs=tenL)(hf:2^2010<=fw)(d:Nat)(hd:tb[f]?=some ⟨2,5,bDo cl all,none⟩)(hal:∀c∈tenL,all.contains c=true)(hc:tb[cl]?=some ⟨2,3,Qmu R.sv R.fl R.gr R.hd R.di,none⟩)(D:Dd)(ok:q.Ok P n)(hn:h[m]?=some (.lst (ws++[q.W])))(n4:n<=400)(hl:ws.length<=900)(hP:P.length<=30)(nP:∀y∈P,QaI y)(hk:∀y∈ks,y∈P)(ht:Seq t (D.row g))(hg:Seq g (D.grp.map W.str))(fit:D.Fit) :
  Qab fw tb (d+9) f [reg ks m,t] h=doW m ws q h (Qb7 R ks q ws.length D):=by
 refine doG d hd hal (callR T U hf d hc D ok hn n4 hl hP nP hk ht hg fit) λk e=>?_
 have o:=Qfa (R:=R) (nd:=ws.length)  ok nP hk fit
 rw[e]at o
 rw[<- er]
 exact o
end
theorem QkT{cf:CF}{a:E}{t:Ty}{σ:Qai}{h:Qaa}{x:W}{b:Bool}(ea:evE cf a σ h=.ok x h)(e:QaM h x t=some b):evT cf (.isi a [t]) σ h=.ok b h:=by refine(QaX (ev_isi (bs:=[b]) ea ?_)).trans ?_;simp[List.mapM_cons,e];simp
section
variable {fw:Nat}{tb:List Fn}{h:Qaa}
end
noncomputable abbrev Qfk(lo be : Nat) : List S := [.unp [4, 5, 6] (.ix V0 (.bin .Sub V1 (.con (.int 1)))),
 .asg 7 (.blt .len [V5]),
 .asg 8 (.blt .tuple [(.compS [12] 1 V5 [(.cmp .NotEq V12 V2)] V12)]),
 .asg 9 (.call lo [(.bin .Mult (.ix V4 (.con (.int 0))) (.bin .Sub V7 (.con (.int 1)))),(.bin .Mult (.ix V4 (.con (.int 1))) V7)]),
 .asg 10 (.call lo [(.ix V4 (.con (.int 0))),(.bin .Mult (.ix V4 (.con (.int 1))) V7)]),
 .fresh 11 (.blt .list [V0]),
 .setix V11 (.bin .Sub V1 (.con (.int 1))) (.call be [V6,V3,V1,V9,V8]),
 .ret (.bin .Add V11 (.lst [(.call be [V6, V3, (.bin .Add (.blt .len [V0]) (.con (.int 1))), V10, (.tup [V2])])]))]
noncomputable abbrev Qhf(lo be : Nat) : List S := [.unp [5, 6, 7] (.ix V0 (.bin .Sub V1 (.con (.int 1)))),
 .fresh 8 (.blt .list [V0]),
 .if_ (.cmp .Eq V2 I20) [.setix V8 (.bin .Sub V1 (.con (.int 1))) (.call be [V7,V4,V1,V5,V3]),
 .ret V8] [],
 .asg 9 (.call lo [(.bin .Mult (.ix V5 (.con (.int 0))) (.bin .Sub I20 V2)),(.bin .Mult (.ix V5 (.con (.int 1))) I20)]),
 .asg 10 (.call lo [(.bin .Mult (.ix V5 (.con (.int 0))) V2),(.bin .Mult (.ix V5 (.con (.int 1))) I20)]),
 .setix V8 (.bin .Sub V1 (.con (.int 1))) (.call be [V7,V4,V1,V9,V6]),
 .ret (.bin .Add V8 (.lst [(.call be [V7, V4, (.bin .Add (.blt .len [V0]) (.con (.int 1))), V10, V3])]))]
section
variable {fw:Nat}{tb:List Fn}{xs:List Pt}{x:Pt}{n k dd:Nat}{name:Str}{h:Qaa}{f lo be:Nat}
theorem Qh3(hl:us.length+vs.length<=1000):opW .Add (.ref h.length) (.lst vs) (h++[.lst us])=.ok (.lst (us++vs)) (h++[.lst us]):=by show okL (Qd3 (seqM _ _) (some vs) _)=_;simp only[seqM,Qa3,Qd3,zF (show us.length+vs.length<=sizeLine by rw[PySem.sizeLine_eq];lia)];rfl
theorem opM{a b:Nat}(hb:b<=20):opW .Mult (.int (a)) (.int (b)) h=.ok (nat (a*b)) h:=(Qh7 h (QbA hb)).trans (rfl)
theorem opM20{a:Nat}:opW .Mult (.int (a)) (.int 20) h=.ok (nat (a*20)) h:=opM  ZzS
theorem QlI(hs:tb[f]?=some ⟨4,12,Qfk lo be,none⟩)(hlo:tb[lo]?=some ⟨2,4,QfG,none⟩)(hbe:tb[be]?=some ⟨5,5,QaQ,none⟩)(hf:2^2010<=fw)(d:Nat)(hxs:∀x∈xs,x.R n)(hn:n<=400)(hl:xs.length<=60)(h1:1<=k)(hk:xs[k-1]?=some x) :
  Qab fw tb (d+2) f [.lst (xs.map ptW),nat k,.str name,nat dd] h=.ok (.lst ((Qld xs x k name dd).map ptW)) h:=by
 have hx:x.R n:=hxs x (zC hk)
 have X:=zC hk
 have hk1:k-1<xs.length:=(ze.mp hk).1
 have hh0:=hx.h0
 have hh6:=hx.h1
 have htl:x.tr.length<=1000:=zf hx.tl ZzL
 have hb:x.q*x.hs.length<2^2010:=zQ (Z8 hx.qb (show x.hs.length<=20 by lia)) (QeC hn)
 have hb9:x.q*x.hs.length<2^9000:=zj hb (z9 ZzD ZzD)
 have hqp:0<x.q*x.hs.length:=Nat.mul_pos hx.q0 ZzL
 have ix:∀hh,ixW (.lst (xs.map ptW)) (.int ((k-1:Nat):Int)) hh=.ok (.tup [sh x.p x.q,.tup (x.hs.map W.str),.tup x.tr]) hh:=λhh=>at_k h1 hk
 have l:=λa=>QdJ (fw:=fw) hlo d a (x.q*x.hs.length) h (zj hb hf) hqp hb9
 have r2:=λhh=>Qa1 (fw:=fw) hbe d dd (xs.length+1) (low (x.p*1) (x.q*x.hs.length)) [name] x.tr hx.pu htl hh
 have cm:∀a b c e,evE (Qab fw tb (d+1)) (.compS [12] 1 V5 [(.cmp .NotEq V12 V2)] V12) [some (.lst (xs.map ptW)),some (nat k),some (.str name),some (nat dd),some (sh x.p x.q),some (.tup (x.hs.map W.str)),some (.tup x.tr),some (nat x.hs.length),a,b,c,e] h=.ok (.lst ((oth x name).map W.str)) h:=λ_ _ _ _=>Qcb (p:=λs=>!decide (s=name)) (U5 rfl) rfl ZzL (λs _ hh=>QnC (Qag (i:=12) rfl) (U2 rfl)) (by show 12<12+1;decide)
 have hp:=Qfr (k:=k) (name:=name) (dd:=dd) hxs X
 rw[QeN,Nat.mul_one]at hp ⊢
 rw[Nat.mul_one]at r2
 simp_arith at r2
 rw[Qac hs rfl]
 simp! [h1,ix,cm,opM,show x.hs.length<=20 by lia,show x.hs.length-1<=20 by lia,hh0,l,QaD hxs,Qa1 hbe _ _ _ (low _ _) _ _ hx.pu htl,r2,Qax hx.pu,QdZ hk1,Qh3,show xs.length+1<=1000 by lia,QgR hp,seqA,Qe3,seqL,Option.or]
theorem Qq7{tw:Nat}{to:List Str}(hs:tb[f]?=some ⟨5,11,Qhf lo be,none⟩)(hlo:tb[lo]?=some ⟨2,4,QfG,none⟩)(hbe:tb[be]?=some ⟨5,5,QaQ,none⟩)(hf:2^2010<=fw)(d:Nat)(htw:tw<=20)(hxs:∀x∈xs,x.R n)(hn:n<=400)(hl:xs.length<=60)(h1:1<=k)(hk:xs[k-1]?=some x) :
  Qab fw tb (d+2) f [.lst (xs.map ptW),nat k,nat tw,.tup (to.map W.str),nat dd] h=.ok (.lst ((Qez xs x k tw to dd).map ptW)) h:=by
 have hx:x.R n:=hxs x (zC hk)
 have X:=zC hk
 have hk1 :=(ze.mp hk).1
 have htl:x.tr.length<=1000:=zf hx.tl ZzL
 have hb :=zQ (Z8 hx.qb (zD 20)) (QeC hn)
 have hqp:0<x.q*20:=Nat.mul_pos hx.q0 ZzD
 have ix:∀hh,ixW (.lst (xs.map ptW)) (.int ((k-1:Nat):Int)) hh=.ok (.tup [sh x.p x.q,.tup (x.hs.map W.str),.tup x.tr]) hh:=λhh=>at_k h1 hk
 have l:=λa hh=>QdJ (fw:=fw) hlo d a (x.q*20) hh (zj hb hf) hqp (zj hb (z9 ZzD ZzD))
 have hp:=Qcj (k:=k) (tw:=tw) (to:=to) (dd:=dd) hxs X
 have ik:=QdZ hk1
 have r:=λn s hs hh=>Qa1 (fw:=fw) hbe d dd n s hs x.tr hx.pu htl hh
 rw[Qd8]at hp ⊢
 rw[Qac hs rfl]
 by_cases ht:tw=20
 ·simp! [ht,Int.cast_ofNat_Int,h1,ix,QaD hxs,r k (x.p,x.q),Qax hx.pu,ik,QkF,seqA,Qe3,seqL,Option.or]
 ·rw[zM ht]at hp
  simp! [ht,h1,ix,QaD hxs,opM,opM20,htw,show 20-tw<=20 by lia,show(20:Int)-tw=(20-tw:Nat) by lia,l,r _ (low _ _),Qax hx.pu,ik,Qh3,show xs.length+1<=1000 by lia,QgR hp,seqA,Qe3,seqL,Option.or]
end
noncomputable abbrev eq0(i:Nat)(s:String):E:=.cmp .Eq (.ix (.var i) (.con (.int 0))) (.con (.str s))
noncomputable abbrev Qfd : List S := [.if_ (eq0 0 "sever") [.ret (.lst [(.ix V0 (.con (.int 1)))])] [],
 .if_ (eq0 0 "follow") [.ret (.lst [(.ix V0 (.con (.int 1))),(.ix V0 (.con (.int 2)))])] [],
 .if_ (eq0 0 "hand") [.ret (.bin .Add (.lst [(.ix V0 (.con (.int 1)))]) (.blt .list [(.ix V0 (.con (.int 4)))]))] [],
 .ret (.blt .list [(.ix V0 (.con (.int 1)))])]
noncomputable def Dd.per:Dd->List Str
 |.grant ss=>ss
 |.sever a _=>[a]
 |.hand a _ _ ss=>a::ss
 |.follow a b=>[a,b]
 |.die ss=>ss
theorem QkG(ec:evT cf c σ h=.ok false h)(eb:evE cf b σ h=r):evE cf (.ite c a b) σ h=r:=by have ec':tst (evE cf c σ h)=.ok false h:=ec;rw[evE,ec',bnd_ok,zM ZzS,eb]
theorem Qju(ec:evT cf c σ h=.ok true h)(ea:evE cf a σ h=r):evE cf (.ite c a b) σ h=r:=by have ec':tst (evE cf c σ h)=.ok true h:=ec;rw[evE,ec',bnd_ok,zF rfl,ea]
section
variable {fw:Nat}{tb:List Fn}{h:Qaa}
theorem QmV{f:Nat}(hf:tb[f]?=some ⟨1,1,Qfd,none⟩)(d:Nat)(D:Dd){t g:W}(ht:Seq t (D.row g))(hg:Seq g (D.grp.map W.str))(hl:D.grp.length<=900):Qab fw tb (d+1) f [t] h=.ok (.lst (D.per.map W.str)) h:=by
 have F:J.fin h.length (.ok (.ret (.lst (D.per.map W.str))) h)=.ok (.lst (D.per.map W.str)) h:=Qg4 (by rw[Qah];exact Qak _);have L:QbK .list [g] h=.ok (.lst (D.grp.map W.str)) h:=by rcases hg with rfl|rfl<;>rfl
 rw[Qac hf rfl];cases D<;>simp only[Dd.per,Dd.grp,zO,Zy]at F L hl ⊢;case hand a z tz ss=>simp! [Qa0 (i:=0) ht rfl,Qa0 (i:=1) ht rfl,Qa0 (i:=4) ht rfl,tgs,L,Qdy (us:=[.str a]) (vs:=ss.map W.str) (by rw[zo];show 1+ss.length<=1000;lia),F]
 case follow=>simp! [Qa0 (i:=0) ht rfl,Qa0 (i:=1) ht rfl,Qa0 (i:=2) ht rfl,tgs,F]
 all_goals simp! [Qa0 (i:=0) ht rfl,Qa0 (i:=1) ht rfl,tgs,L,F]
noncomputable abbrev QdP : List S := [.if_ (.or_ (eq0 0 "sever") (eq0 0 "follow")) [.ret (.con (.bl false))] [],
 .asg 1 (.ite (eq0 0 "hand") (.ix V0 (.con (.int 4))) (.ix V0 (.con (.int 1)))),
 .asg 2 (.ite (eq0 0 "die") (.con (.int 30)) (.con (.int 6))),
 .ret (.or_ (.cmp .Lt (.blt .len [V1]) (.con (.int 1))) (.or_ (.cmp .Gt (.blt .len [V1]) V2) (.cmp .NotEq (.slen V1) (.blt .len [V1]))))]
noncomputable def Dd.most:Dd->Nat
 |.die _=>30
 |_=>6
noncomputable def Dd.bad:Dd->Bool
 |.sever _ _=>false
 |.follow _ _=>false
 |D=>!decide (1<=D.grp.length/\D.grp.length<=D.most/\D.grp.Nodup)
theorem Ql7{f:Nat}(hf:tb[f]?=some ⟨1,3,QdP,none⟩)(d:Nat)(D:Dd){t g:W}(ht:Seq t (D.row g))(hg:Seq g (D.grp.map W.str))(hl:D.grp.length<64):Qab fw tb (d+1) f [t] h=.ok (.bl D.bad) h:=by
 have S:(seqA h g).bind Qbu=some D.grp:=by rw[hg.seqA h,Option.bind_some,Qb3]
 have L:QbK .len [g] h=.ok (nat D.grp.length) h:=by rcases hg with rfl|rfl<;>exact congrArg (λn=>Res.ok (nat n) h) (zo ..)
 have nn (k:Nat):(decide (D.grp.length<1)||(decide (k<D.grp.length)||!decide ((nub D.grp).length=D.grp.length)))=!decide (1<=D.grp.length/\D.grp.length<=k/\D.grp.Nodup):=by
  have e:((nub D.grp).length=D.grp.length)↔D.grp.Nodup:=⟨λe=>by
   by_cases q:D.grp.Nodup
   ·exact q
   ·have:=Qkt _ q;lia,λq=>QdX _ q⟩
  simp only[e]
  clear L
  grind
 rw[Qac hf rfl]
 cases D<;>simp only[Dd.grp]at L S nn hl
 case sever=>simp! [Qa0 (i:=0) ht rfl,tgs,Qlm];rfl
 case follow=>simp! [Qa0 (i:=0) ht rfl,tgs,Qlm];rfl
 case hand=>simp! [Qa0 (i:=0) ht rfl,Qa0 (i:=4) ht rfl,tgs,L,S,hl,Qlm];exact .trans (by congr) (congrArg (λb=>Res.ok (W.bl b) h) (nn _))
 all_goals simp! [Qa0 (i:=0) ht rfl,Qa0 (i:=1) ht rfl,tgs,L,S,hl,Qlm];exact .trans (by congr) (congrArg (λb=>Res.ok (W.bl b) h) (nn _))
end
noncomputable abbrev Qf5 : List S := [.if_ (.or_ (eq0 1 "follow") (eq0 1 "die")) [.ret (.con (.str ""))] [],
 .if_ (.or_ (.cmp .Lt (.ix V1 (.con (.int 2))) (.con (.int 1))) (.cmp .Gt (.ix V1 (.con (.int 2))) (.blt .len [V0]))) [.ret (.con (.str "NoPart"))] [],
 .asg 2 (.ix (.ix V0 (.bin .Sub (.ix V1 (.con (.int 2))) (.con (.int 1)))) (.con (.int 1))),
 .if_ (eq0 1 "sever") [.ret (.ite (.and_ (.cmp .In (.ix V1 (.con (.int 1))) V2) (.cmp .Gt (.blt .len [V2]) (.con (.int 1)))) (.con (.str "")) (.con (.str "NotHeld")))] [],
 .if_ (.cmp .NotEq V2 (.tup [(.ix V1 (.con (.int 1)))])) [.ret (.con (.str "NotHeld"))] [],
 .ret (.ite (.and_ (.cmp .GtE (.ix V1 (.con (.int 3))) (.con (.int 1))) (.cmp .LtE (.ix V1 (.con (.int 3))) I20)) (.con (.str "")) (.con (.str "BadPiece")))]
noncomputable def pdW(xs:List Pt):Dd->Str
 |.sever a z=>if Qei z xs.length=true then "NoPart" else match xs[z.toNat-1]? with
  |none=>"NoPart"
  |some x=>if QlE x a=true then "NotHeld" else ""
 |.hand a z tz _=>if Qei z xs.length=true then "NoPart" else match xs[z.toNat-1]? with
  |none=>"NoPart"
  |some x=>if eqB x.hs [a]=false then "NotHeld" else if Qik tz=true then "BadPiece" else ""
 |_=>""
section
variable {fw:Nat}{tb:List Fn}{h:Qaa}{xs:List Pt}{n:Nat}
theorem Qob{c:Prop} [Decidable c]{a b:Str}:Res.ok (W.str (if c then a else b)) h=if c then .ok (.str a) h else .ok (.str b) h:=by split<;>rfl
theorem Qm0{f:Nat}(hf:tb[f]?=some ⟨2,3,Qf5,none⟩)(d:Nat)(D:Dd){t g:W}(hD:∀ss,D≠.grant ss)(ht:Seq t (D.row g))(hxs:∀x∈xs,x.R n)(fit:D.Fit):Qab fw tb (d+1) f [.lst (xs.map ptW),t] h=.ok (.str (pdW xs D)) h:=by
 rw[Qac hf rfl]
 have out:∀{z:Int},Qei z xs.length=true->z<1\/(xs.length:Int)<z:=λb=>by simpa [Qei] using b
 cases D with
 |grant ss=>exact absurd rfl (hD ss)
 |follow a b=>simp! [Qa0 (i:=0) ht rfl,tgs,pdW,Qbs]
 |die ss=>simp! [Qa0 (i:=0) ht rfl,tgs,pdW,Qbs]
 |sever a z =>
  have i0:=Qa0 (h:=h) (i:=0) ht rfl
  have i1:=Qa0 (h:=h) (i:=1) ht rfl
  have i2:=Qa0 (h:=h) (i:=2) ht rfl
  by_cases b:Qei z xs.length=true
  ·simp! [i0,i2,tgs,pdW,b,out b,Qbs]
  ·obtain⟨k,rfl,k1,k2⟩:=QjQ (Zp _ |>.mp b)
   obtain⟨x,hk⟩:∃x,xs[k-1]?=some x:=⟨_,zJ ZzL⟩
   have ln:(x.hs.length<2)=¬ 1<x.hs.length:=by simp;lia
   by_cases l:1<x.hs.length<;>cases m:Qa5 a x.hs<;>simp! [i0,i1,i2,tgs,pdW,b,show ¬(k<1\/xs.length<k) by lia,k1,at_k k1 hk,Zt,hk,QlE,ln,l,m,Qob,Qbs]
 |hand a z tz ss =>
  have i0:=Qa0 (h:=h) (i:=0) ht rfl
  have i1:=Qa0 (h:=h) (i:=1) ht rfl
  have i2:=Qa0 (h:=h) (i:=2) ht rfl
  have i3:=Qa0 (h:=h) (i:=3) ht rfl
  by_cases b:Qei z xs.length=true
  ·simp! [i0,i2,tgs,pdW,b,out b,Qbs]
  ·obtain⟨k,rfl,k1,k2⟩:=QjQ (Zp _ |>.mp b)
   obtain⟨x,hk⟩:∃x,xs[k-1]?=some x:=⟨_,zJ ZzL⟩
   have nt:=ne_t (h:=h) (us:=[a]) (hxs x (zC hk)).nm (by simpa using fit.1)
   simp_arith at nt
   have ln:(tz<1\/20<tz)=¬(1<=tz/\tz<=20):=by simp;lia
   by_cases l:1<=tz/\tz<=20<;>simp! [i0,i1,i2,i3,tgs,pdW,b,show ¬(k<1\/xs.length<k) by lia,k1,at_k k1 hk,Zt,hk,nt,zz2,Qik,ln,l,Qob,Qbs]
end
noncomputable abbrev tMore:List S:=[.if_ (.cmp .Eq (.blt .len [(.compS [4] 1 (.ix V3 (.con (.int 1))) [(.cmp .NotIn V4 (.ix V1 (.con (.int 1))))] V4)]) (.con (.int 0))) [.asg 2 (.bin .Sub (.bin .Add V2 (.blt .len [(.ix V3 (.con (.int 1)))])) (.con (.int 1)))] []]
noncomputable abbrev QpV : List S := [.if_ (eq0 1 "sever") [.ret (.con (.int 1))] [],
 .if_ (eq0 1 "hand") [.ret (.blt .int [(.cmp .Lt (.ix V1 (.con (.int 3))) I20)])] [],
 .asg 2 (.con (.int 0)),
 .if_ (eq0 1 "die") [.for_ [3] (.seq V0) tMore] [],
 .ret V2]
noncomputable def QcM(gs:List Str):List Pt->Nat
 |[]=>0
 |x::xs=>(if(QaE x.hs gs).length=0 then x.hs.length-1 else 0)+QcM gs xs
noncomputable def Dd.more(xs:List Pt):Dd->Nat
 |.sever _ _=>1
 |.hand _ _ tz _=>if tz<20 then 1 else 0
 |.die ss=>QcM ss xs
 |_=>0
section
variable {fw:Nat}{tb:List Fn}{h:Qaa}{n:Nat}
theorem Qeo{cf:CF}{t g u:W}{ss:List Str}(ht:Seq t [.str "die",g])(hg:Seq g (ss.map W.str)):∀(xs:List Pt) (m:Nat) (r:Option W),(∀x∈xs,x.R n)->∃r',fo [3] (exB cf fw tMore) (xs.map ptW) [some u,some t,some (nat m),r] h=.ok (.nx [some u,some t,some (nat (m+QcM ss xs)),r']) h
 |[],m,r,_=>⟨r,by rw[Zy,fo];rfl⟩
 |x::xs,m,r,hx=>by have X:=hx x zN;have h0:=X.h0;have h6:=X.h1;have el:evE cf (.compS [4] 1 (.ix V3 (.con (.int 1))) [(.cmp .NotIn V4 (.ix V1 (.con (.int 1))))] V4) [some u,some t,some (nat m),some (ptW x)] h=.ok (.lst ((QaE x.hs ss).map W.str)) h:=Qcb (p:=λs=>!Qa5 s ss) (ss:=x.hs) (ix_hs (x:=x) (U3 rfl)) rfl ZzL (λs _ hh=>Qdr (U4 rfl) (Qbr (U1 rfl) Qao (Qa0 ht rfl)) (hg.dic hh) (hg.seqA hh)) (by show 4<5;decide);by_cases q:(QaE x.hs ss).length=0;obtain⟨r',e⟩:=Qeo ht hg xs (m+x.hs.length-1) (some (ptW x)) λy hy=>hx y (zB _ hy);refine⟨r',(Qb0 rfl (by simp! [Qb4,el,q,show 1<=m+x.hs.length by lia];rfl)).trans (e.trans ?_)⟩;rw[QcM,zF q,show m+x.hs.length-1+QcM ss xs=m+(x.hs.length-1+QcM ss xs) by lia];obtain⟨r',e⟩:=Qeo ht hg xs m (some (ptW x)) λy hy=>hx y (zB _ hy);refine⟨r',(Qb0 rfl (by simp! [Qb4,el,q];rfl)).trans (e.trans ?_)⟩;rw[QcM,zM q,ZV]
theorem moreR{f:Nat}{xs:List Pt}(hf:tb[f]?=some ⟨2,4,QpV,none⟩)(d:Nat)(D:Dd){t g:W}(ht:Seq t (D.row g))(hg:Seq g (D.grp.map W.str))(hxs:∀x∈xs,x.R n):Qab fw tb (d+1) f [.lst (xs.map ptW),t] h=.ok (nat (D.more xs)) h:=by
 rw[Qac hf rfl];cases D with
 |sever a z=>simp! [Qa0 (i:=0) ht rfl,tgs,Dd.more,Qdk];rfl
 |hand a z tz ss=>by_cases l:tz<20<;>(simp! [Qa0 (i:=0) ht rfl,Qa0 (i:=3) ht rfl,tgs,Dd.more,l,Qdk];rfl)
 |grant ss=>simp! [Qa0 (i:=0) ht rfl,tgs,Dd.more,Qdk];rfl
 |follow a b=>simp! [Qa0 (i:=0) ht rfl,tgs,Dd.more,Qdk];rfl
 |die ss=>obtain⟨r,e⟩:=Qeo (cf:=Qab fw tb d) (fw:=fw) (h:=h) (u:=.lst (xs.map ptW)) ht hg xs 0 none hxs;rw[ZV,show nat 0=.int 0 from rfl]at e;simp! [Qa0 (i:=0) ht rfl,tgs,Dd.more,e,Qdk];rfl
end
theorem QcS(s)(ss):Qa5 s (srt ss)=Qa5 s ss:=by rw[QaR,QaR];exact decide_eq_decide.mpr srt_mem
theorem Qjr(hs ss):QaE hs (srt ss)=QaE hs ss:=by unfold QaE;congr 1;funext s;rw[QcS]
theorem QfK(ss):∀xs,QcM (srt ss) xs=QcM ss xs
 |[]=>rfl
 |x::xs=>by rw[QcM,QcM,Qjr,QfK ss xs]
theorem QoT:(exP heir g dd m x).length=if(QaE x.hs g).length=0 then x.hs.length-1 else 0:=by
 unfold exP
 grind
theorem QkW:∀xs m,(nwP heir g dd xs m).length=QcM g xs
 |[],_=>rfl
 |x::xs,m=>by rw[nwP,zA,QoT,QkW xs,QcM]
theorem Qhs:(Qhh heir g dd xs).length=xs.length+QcM g xs:=by unfold Qhh;rw[zA,ZJ,QkW]
theorem Qfq(p)(ss):(srt ss).any p=ss.any p:=by rw[zzY,List.any_eq_true,List.any_eq_true];exact⟨λ⟨s,hs,e⟩=>⟨s,srt_mem.mp hs,e⟩,λ⟨s,hs,e⟩=>⟨s,srt_mem.mpr hs,e⟩⟩
theorem Qj9:unk ks (srt ss)=unk ks ss:=Qfq _ _
noncomputable def Out.word:Out->Str
 |.no c=>wds.getD (c-1) Str.empty
 |.ok _=>""
noncomputable abbrev cIn(op:CmpOp)(i:Nat):E:=.cmp .Gt (.blt .len [(.compS [9] 1 V6 [(.cmp op V9 (.var i))] V9)]) (.con (.int 0))
noncomputable abbrev bDue(gb pe pd mo : Nat) : List S := [.unp [3, 8, 4, 5] V0,
 .if_ (.call gb [V1]) [.ret (.con (.str "BadGroup"))] [],
 .asg 6 (.call pe [V1]),
 .if_ (cIn .NotIn 2) [.ret (.con (.str "Unknown"))] [],
 .if_ (cIn .In 8) [.ret (.con (.str "Dead"))] [],
 .if_ (eq0 1 "grant") [.ret (.ite (.cmp .Gt (.blt .len [V5]) (.con (.int 0))) (.con (.str "GrantedBefore")) (.con (.str "")))] [],
 .if_ (.cmp .Eq (.blt .len [V5]) (.con (.int 0))) [.ret (.con (.str "NotGranted"))] [],
 .asg 7 (.call pd [V3,V1]),
 .if_ (.and_ (.cmp .Eq V7 (.con (.str ""))) (.cmp .Gt (.bin .Add (.blt .len [V3]) (.call mo [V3,V1])) (.con (.int 60)))) [.ret (.con (.str "TooManyParts"))] [],
 .if_ (.and_ (.cmp .Eq V7 (.con (.str ""))) (.cmp .GtE (.blt .len [V5]) (.con (.int 200)))) [.ret (.con (.str "TooManyDeeds"))] [],
 .ret V7]
noncomputable def Dd.isG:Dd->Bool
 |.grant _=>true
 |_=>false
noncomputable def Qla(P G:List Str)(xs:List Pt)(nd:Nat)(D:Dd):Str:=if D.bad=true then "BadGroup" else if unk P D.per=true then "Unknown" else if(D.per.any λs=>Qa5 s G)=true then "Dead" else if D.isG=true then(if 0<nd then "GrantedBefore" else "") else if nd=0 then "NotGranted" else
 if pdW xs D=""/\60<xs.length+D.more xs then "TooManyParts" else if pdW xs D=""/\200<=nd then "TooManyDeeds" else pdW xs D
theorem QpG{ss:List Str}:decide (0<(ss.filter p).length)=ss.any p:=by rw[zzY];simp_all
theorem tagG{D:Dd}{g:W}:∃s ws,D.row g=.str s::ws/\decide (s=("grant":Str))=D.isG:=by
 cases D with
 |grant ss=>exact⟨_,_,rfl,show decide (("grant":Str)=("grant":Str))=true by rfl⟩
 |sever a z=>exact⟨_,_,rfl,show decide (("sever":Str)=("grant":Str))=false by rfl⟩
 |hand a z tz ss=>exact⟨_,_,rfl,show decide (("hand":Str)=("grant":Str))=false by rfl⟩
 |follow a b=>exact⟨_,_,rfl,show decide (("follow":Str)=("grant":Str))=false by rfl⟩
 |die ss=>exact⟨_,_,rfl,show decide (("die":Str)=("grant":Str))=false by decide +kernel⟩
section
variable {fw:Nat}{tb:List Fn}{h:Qaa}{n:Nat}{xs:List Pt}{P G:List Str}{ks vs:List Str}{done:List W}
noncomputable abbrev stW(xs:List Pt)(G ks vs:List Str)(done:List W):W:=.lst [.lst (xs.map ptW),.lst (G.map W.str),.dic ks (vs.map W.str),.lst done]
theorem dueR(hf:tb[f]?=some ⟨3,9,bDue gb pe pd mo,none⟩)(hgb:tb[gb]?=some ⟨1,3,QdP,none⟩)(hpe:tb[pe]?=some ⟨1,1,Qfd,none⟩)(hpd:tb[pd]?=some ⟨2,3,Qf5,none⟩)(hmo:tb[mo]?=some ⟨2,4,QpV,none⟩)(d:Nat)(D:Dd)(ht:Seq t (D.row g))(hg:Seq g (D.grp.map W.str))(hl:D.grp.length<64)(hxs:∀x∈xs,x.R n)(fit:D.Fit)(hd:done.length<=1000) :
  Qab fw tb (d+2) f [stW xs G ks vs done,t,.lst (P.map W.str)] h=.ok (.str (Qla P G xs done.length D)) h:=by
 rw[Qac hf rfl]
 have c1:=Ql7 (fw:=fw) (h:=h) hgb d D ht hg hl
 have c2:=QmV (fw:=fw) (h:=h) hpe d D ht hg ZzL
 have c3:=λ(q:∀ss,D≠.grant ss)=>Qm0 (fw:=fw) (h:=h) hpd d D q ht hxs fit
 have c4:=moreR (fw:=fw) (h:=h) hmo d D ht hg hxs
 have pl:D.per.length<=1000:=by cases D<;>simp[Dd.per,Dd.grp]at hl ⊢<;>lia
 obtain⟨s,us,er,eg⟩:=tagG (D:=D) (g:=g)
 rw[er]at ht
 have i0:ixW t (.int 0) h=.ok (.str s) h:=Qda (k:=0) (ht.seqA h) rfl
 have es:(s=("grant":Str))=(D.isG=true):=by rw[<- eg,Zl]
 have cm:=λp c=>Qcb (cf:=Qab fw tb (d+1)) (h:=h) (σ:=[some (stW xs G ks vs done),some t,some (.lst (P.map W.str)),some (.lst (xs.map ptW)),some (.dic ks (vs.map W.str)),some (.lst done),some (.lst (D.per.map W.str)),none,some (.lst (G.map W.str))]) (a:=.var 6) (i:=9) (n:=1) (ss:=D.per) (p:=p) (c:=c) (Qag rfl) rfl pl
 have cN:=cm (λs=>!Qa5 s P) (.cmp .NotIn V9 V2) (λs _ hh=>Qdr (a:=.var 9) (b:=.var 2) (Qag rfl) (Qag rfl) rfl rfl) (by show 9<10;decide)
 have cI:=cm (λs=>Qa5 s G) (.cmp .In V9 V8) (λs _ hh=>ev_inL (a:=.var 9) (b:=.var 8) (Qag rfl) (Qag rfl) rfl rfl) (by show 9<10;decide)
 have al:∀p:Str->Bool,(0<(D.per.filter p).length)=(D.per.any p=true):=λp=>by rw[<- QpG,Zl]
 have si:∀{c:Prop} [Decidable c] {a b:Str},Res.ok (W.str (if c then a else b)) h=if c then .ok (.str a) h else .ok (.str b) h:=λ{c} _ {a b}=>by split<;>rfl
 unfold Qla
 by_cases b4:D.isG=true
 ·simp! [c1,c2,cN,cI,al,i0,es,b4,Qbs,si,unk]
 ·simp! [c1,c2,c3 λss e=>b4 (by rw[e];rfl),c4,cN,cI,al,i0,es,b4,Qbs,si,unk]
end
section
variable {R:Rx}{q:Sd}{P ks:List Str}{n nd:Nat}
structure Rx.Std (R:Rx):Prop where
 e:R.errs=tenL
theorem Rx.Std.all(S:R.Std):R.eBG=1/\R.eUn=2/\R.eDe=3/\R.eNG=4/\R.eGB=5/\R.eNP=6/\R.eNH=7/\R.eBP=8/\R.eTP=9/\R.eTD=10:=by have:=S.e;simpa [Rx.errs,tenL] using this
theorem Qce(S:R.Std):(first R ks q ss o).word=if unk ks ss=true then("Unknown":Str) else if ded q ss=true then "Dead" else if QaW q.dw=true then "NotGranted" else o.word:=by
 obtain⟨e1,e2,e3,e4,_⟩:=S.all;unfold first
 split;rw[Out.word,e2];rfl;split;rw[Out.word,e3];rfl;split;rw[Out.word,e4];rfl;rfl
theorem QjI(S:R.Std):(QbY R nd q').word=if 200<=nd then("TooManyDeeds":Str) else "":=by obtain⟨_,_,_,_,_,_,_,_,_,e⟩:=S.all;unfold QbY;split;rw[Out.word,e];rfl;rfl
end
section
variable {R:Rx}{q:Sd}{P ks:List Str}{n nd:Nat}
theorem Qgv(hk:∀s,Qa5 s ks=Qa5 s P)(ss):unk ks ss=unk P ss:=by unfold unk;simp_all
theorem Qc8(hg:QaW q.dw=decide (nd=0)){a b:Str}:(if QaW q.dw=true then a else b)=if nd=0 then a else b:=by simp_all
theorem QcK{c:Prop} [Decidable c]{a b:Out}:(if c then a else b).word=if c then a.word else b.word:=by split<;>rfl
theorem opt(o:Option α):o=none\/∃x,o=some x:=by cases o<;>simp
theorem QmP(S:R.Std)(D)(hk:∀s,Qa5 s ks=Qa5 s P)(hg:QaW q.dw=decide (nd=0))(x2:q.xs.length<=60):Qla P q.G q.xs nd D=(Qb7 R ks q nd D).word:=by
 obtain⟨e1,e2,e3,e4,e5,e6,e7,e8,e9,e10⟩:=S.all
 have w1:(Out.no R.eBG).word="BadGroup":=by rw[Out.word,e1];rfl
 have w2:(Out.no R.eUn).word="Unknown":=by rw[Out.word,e2];rfl
 have w3:(Out.no R.eDe).word="Dead":=by rw[Out.word,e3];rfl
 have w6:(Out.no R.eNP).word="NoPart":=by rw[Out.word,e6];rfl
 have w7:(Out.no R.eNH).word="NotHeld":=by rw[Out.word,e7];rfl
 have w8:(Out.no R.eBP).word="BadPiece":=by rw[Out.word,e8];rfl
 have w9:(Out.no R.eTP).word="TooManyParts":=by rw[Out.word,e9];rfl
 have n6:¬ ("NoPart":Str)="":=by decide +kernel
 have n7:¬ ("NotHeld":Str)="":=by decide +kernel
 have n8:¬ ("BadPiece":Str)="":=by decide +kernel
 have k:=λ(q':Sd)=>QjI (nd:=nd) (q':=q') S
 cases D with
 |sever a z =>
  simp only[Qla,Qb7,QcW,Qce S,Qc8 hg,Qgv hk,Dd.bad,Dd.per,Dd.isG,Dd.more,pdW,ded,QcK,w6]
  rcases opt q.xs[z.toNat-1]? with o|⟨x,o⟩<;>simp_all<;>grind
 |follow a b =>
  simp only[Qla,Qb7,QbB,Qce S,Qc8 hg,Qgv hk,Dd.bad,Dd.per,Dd.isG,Dd.more,pdW,ded,k]
  grind
 |hand a z tz ss =>
  have s (p:Str->Bool):(a::srt ss).any p=(a::ss).any p:=by rw[zzp,zzp,Qfq]
  simp only[Qla,Qb7,QdS,QcK,Qce S,Qc8 hg,show unk ks (a::srt ss)=unk P (a::ss) from(Qgv hk _).trans (s _),Dd.bad,Dd.per,Dd.isG,Dd.more,Dd.grp,Dd.most,pdW,ded,s,w1,w6]
  rcases opt q.xs[z.toNat-1]? with o|⟨x,o⟩<;>simp only[o,QcK,w6,w7,w8,w9,k]<;>grind
 |die ss =>
  simp only[Qla,Qb7,QlX,QcK,Qce S,Qc8 hg,Qj9,Qfq,Qgv hk,Dd.bad,Dd.per,Dd.isG,Dd.more,Dd.grp,Dd.most,pdW,ded,w1,w9,k,Qhs,QfK]
  grind
 |grant ss =>
  have w5:(Out.no R.eGB).word="GrantedBefore":=by rw[Out.word,e5];rfl
  simp only[Qla,Qb7,QbM,QcK,Qc8 hg,Qj9,Qfq,Qgv hk,Dd.bad,Dd.per,Dd.isG,Dd.grp,Dd.most,ded,w1,w2,w3,w5,k]
  grind
end
noncomputable abbrev QnK(be lo he : Nat) : List S := [.unp [8, 9, 10] (.ix V0 V7),
 .asg 11 (.blt .tuple [(.compS [16] 1 V9 [(.cmp .NotIn V16 V1)] V16)]),
 .if_ (.cmp .Eq (.blt .len [V11]) (.blt .len [V9])) [.exp (.meth .append V5 [(.ix V0 V7)])] [.if_ (.cmp .Gt (.blt .len [V11]) (.con (.int 0))) [.exp (.meth .append V5 [(.call be [V10,V4,(.bin .Add V7 (.con (.int 1))),V8,V11])])] [.asg 12 (.call lo [(.ix V8 (.con (.int 0))),(.bin .Mult (.ix V8 (.con (.int 1))) (.blt .len [V9]))]),
 .asg 13 (.compS [16] 1 V9 [] (.call he [V16,V2,(.bin .Add (.blt .list [V3]) (.blt .list [V1]))])),
 .exp (.meth .append V5 [(.call be [V10,V4,(.bin .Add V7 (.con (.int 1))),V12,(.tup [(.ix V13 (.con (.int 0)))])])]),
 .for_ [14] (.seq (.sl V13 (some (.con (.int 1))) none)) [.asg 15 (.bin .Add (.bin .Add (.blt .len [V0]) (.blt .len [V6])) (.con (.int 1))),
 .exp (.meth .append V6 [(.call be [V10, V4, V15, V12, (.tup [V14])])])]]]]
noncomputable abbrev Qle(be lo he:Nat):List S:=[.fresh 5 (.lst []),.fresh 6 (.lst []),.for_ [7] (.rng [(.blt .len [V0])]) (QnK be lo he),.ret (.bin .Add V5 V6)]
theorem dic_no(ht:Seq t ws):QaO h t=none:=by rcases ht with rfl|rfl<;>rfl
theorem QoE{h:Qaa}{a b:Ob}:(h++[a,b])[h.length]?=some a:=ZzS
theorem QlJ{h:Qaa}{a b:Ob}:(h++[a,b])[h.length+1]?=some b:=ZzS
theorem setC0{h:Qaa}{a b c:Ob}:(h++[a,b]).set h.length c=h++[c,b]:=ZzS
theorem setC1{h:Qaa}{a b c:Ob}:(h++[a,b]).set (h.length+1) c=h++[a,c]:=ZzS
theorem Qem:∀{a b:List W},Qaf a=true->Qaf b=true->Qaf (a++b)=true
 |[],_,_,h=>h
 |x::a,b,h,h2=>by rw[Qaf,zE]at h;rw[List.cons_append,Qaf,h.1,Qem h.2 h2];rfl
noncomputable abbrev stF(xs:List Pt)(gW:W)(ks vs down:List Str)(dd:Nat)(h:Qaa)(j:Nat)(x:Pt)(a b c d e:Option W):Qai:=[some (.lst (xs.map ptW)),some gW,some (.dic ks (vs.map W.str)),some (.lst (down.map W.str)),some (nat dd),some (.ref h.length),some (.ref (h.length+1)),some (nat j),some (sh x.p x.q),some (.tup (x.hs.map W.str)),some (.tup x.tr),a,b,c,d,e]
theorem Qpf:Qc6 .append (.ref h.length) [w] (h++[.lst us,o])=if Qah w=true/\us.length<sizeLine then .ok .non (h++[.lst (us++[w]),o]) else .stuck:=by simp[Qc6,on1,appW,QoE,setC0]
theorem app_B:Qc6 .append (.ref (h.length+1)) [w] (h++[o,.lst us])=if Qah w=true/\us.length<sizeLine then .ok .non (h++[o,.lst (us++[w])]) else .stuck:=by simp[Qc6,on1,appW,QlJ,setC1]
theorem QpR:Qbi .append (h++[.lst us,o]) (.ref h.length)=true:=by simp[Qbi,seqM,QoE]
theorem rcv_B:Qbi .append (h++[o,.lst us]) (.ref (h.length+1))=true:=by simp[Qbi,seqM,QlJ]
theorem len_B:QbK .len [.ref (h.length+1)] (h++[o,.lst us])=.ok (.int us.length) (h++[o,.lst us]):=Qp3 QlJ
theorem add_AB(hl:us.length+vs.length<=1000):opW .Add (.ref h.length) (.ref (h.length+1)) (h++[.lst us,.lst vs])=.ok (.lst (us++vs)) (h++[.lst us,.lst vs]):=by show okL (Qd3 (seqM _ _) (seqM _ _) _)=_;simp only[seqM,QoE,QlJ,Qd3,zF (show us.length+vs.length<=sizeLine by rw[PySem.sizeLine_eq];lia)];rfl
theorem Qnm{fw:Nat}{tb:List Fn}{f be lo he n:Nat}(hff:tb[f]?=some ⟨5,16,Qle be lo he,none⟩)(hbe:tb[be]?=some ⟨5,5,QaQ,none⟩)(hlo:tb[lo]?=some ⟨2,4,QfG,none⟩)(hhe:tb[he]?=some ⟨3,5,QdU,none⟩)(hfw:2^2010<=fw)(d:Nat)(xs:List Pt)(gs ks vs down:List Str){gW:W}(hgW:Seq gW (gs.map W.str))(dd:Nat)(h:Qaa)(hx:∀x∈xs,x.R n)(hn:n<=400)(hxl:xs.length<=60)(hl:down.length+gs.length<=1000) :
  Qab fw tb (d+2) f [.lst (xs.map ptW),gW,.dic ks (vs.map W.str),.lst (down.map W.str),nat dd] h=.ok (.lst ((Qhh (Qdh ks vs down gs) gs dd xs).map ptW)) h:=by
 rw[QhI]
 let heir:=Qdh ks vs down gs
 have b:=λ{x:Pt} (hx:x.R n) n s hs hh=>Qa1 (fw:=fw) hbe d dd n s hs x.tr hx.pu (zf hx.tl ZzL) hh
 let Iv:Nat->Qai->Qaa->Prop:=λj s hh=>∃r7 r8 r9 r10 r11 r12 r13 r14 r15,s=[some (.lst (xs.map ptW)),some gW,some (.dic ks (vs.map W.str)),some (.lst (down.map W.str)),some (nat dd),some (.ref h.length),some (.ref (h.length+1)),r7,r8,r9,r10,r11,r12,r13,r14,r15]/\hh=h++[.lst ((xs.take j).mapIdx λi x=>mk1 heir gs dd (i+1) x),.lst (Qbg heir gs dd (xs.take j) xs.length)]
 have nl:∀j,(Qbg heir gs dd (xs.take j) xs.length).length<=300:=λj=>by
  have:=Qeg (heir:=heir) (g:=gs) (dd:=dd) (l:=xs.take j) (m:=xs.length) λy hy=>(hx y (List.mem_of_mem_take hy)).h1
  rw[Zk]at this
  lia
 obtain⟨σ2,hh,lp,r7,r8,r9,r10,r11,r12,r13,r14,r15,rfl,rfl⟩:∃σ2 hh,fo [7] (exB (Qab fw tb (d+1)) fw (QnK be lo he)) ((List.range xs.length).map λ(k:Nat)=>W.int (0+(k:Int))) [some (.lst (xs.map ptW)),some gW,some (.dic ks (vs.map W.str)),some (.lst (down.map W.str)),some (nat dd),some (.ref h.length),some (.ref (h.length+1)),none,none,none,none,none,none,none,none,none] (h++[.lst [],.lst []])=.ok (.nx σ2) hh/\Iv xs.length σ2 hh:=by
  refine QjX (Iv:=Iv) (λj s hh hj q=>?_) ⟨_,_,_,_,_,_,_,_,_,rfl,rfl⟩
  obtain⟨r7,r8,r9,r10,r11,r12,r13,r14,r15,rfl,rfl⟩:=q
  obtain⟨x,ex⟩:∃x,xs[j]?=some x:=⟨_,zJ hj⟩
  have hxx:=hx x (zC ex)
  have h0:=hxx.h0
  have h1:=hxx.h1
  have et:xs.take (j+1)=xs.take j++[x]:=by rw[List.take_succ,ex];rfl
  have lt:(xs.take j).length=j:=by rw[Zk];lia
  have emd:(xs.take (j+1)).mapIdx (λi x=>mk1 heir gs dd (i+1) x)=(xs.take j).mapIdx (λi x=>mk1 heir gs dd (i+1) x)++[mk1 heir gs dd (j+1) x]:=by rw[et,List.mapIdx_concat,lt]
  have enw:Qbg heir gs dd (xs.take (j+1)) xs.length=Qbg heir gs dd (xs.take j) xs.length++Qdp heir gs dd (xs.length+(Qbg heir gs dd (xs.take j) xs.length).length) x:=by rw[et,Qdn]
  have lmd:((xs.take j).mapIdx λi x=>mk1 heir gs dd (i+1) x).length=j:=by rw[ZJ,lt]
  have lnw:=nl j
  have ix:∀hh,ixW (.lst (xs.map ptW)) (.int (j:Int)) hh=.ok (.tup [sh x.p x.q,.tup (x.hs.map W.str),.tup x.tr]) hh:=λhh=>Qda (t:=.lst (xs.map ptW)) rfl (by rw[zT,ex];rfl)
  have px:Qah (.tup [sh x.p x.q,.tup (x.hs.map W.str),.tup x.tr])=true:=Qck hxx
  simp only[Iv,emd,enw]
  generalize (xs.take j).mapIdx (λi x=>mk1 heir gs dd (i+1) x)=md at *
  generalize Qbg heir gs dd (xs.take j) xs.length=nw at *
  have cm:∀r11 r12 r13 r14 r15 hh,evE (Qab fw tb (d+1)) (.compS [16] 1 V9 [(.cmp .NotIn V16 V1)] V16) (stF xs gW ks vs down dd h j x r11 r12 r13 r14 r15) hh=.ok (.lst ((QaE x.hs gs).map W.str)) hh:=λr11 r12 r13 r14 r15 hh=>Qcb (p:=λs=>!Qa5 s gs) (U9 rfl) rfl ZzL (λs _ hh=>Qdr (ss:=gs) (y:=gW) (Qag (i:=16) rfl) (U1 rfl) (dic_no hgW) (hgW.seqA _)) (by show 16<16+1;decide)
  by_cases qa:(QaE x.hs gs).length=x.hs.length
  ·refine⟨_,_,by simp! [ix,QbL,cm,qa,px,Qpf,QpR,show md.length<16777216 by lia];rfl,_,_,_,_,_,_,_,_,_,rfl,?_⟩
   rw[show mk1 heir gs dd (j+1) x=ptW x from zF qa,show Qdp heir gs dd (xs.length+nw.length) x=[] from zM ZzL,Zf]
   rfl
  by_cases qb:0<(QaE x.hs gs).length
  ·refine⟨_,_,by simp! [ix,QbL,cm,qa,qb,b hxx (j+1) (x.p,x.q),Qax hxx.pu,Qpf,QpR,show md.length<16777216 by lia];rfl,_,_,_,_,_,_,_,_,_,rfl,?_⟩
   rw[show mk1 heir gs dd (j+1) x=bhW x.tr dd (j+1) (x.p,x.q) (QaE x.hs gs) by unfold mk1;rw[zM qa,zF qb],show Qdp heir gs dd (xs.length+nw.length) x=[] from zM ZzL,Zf]
  obtain⟨s0,r0,ehs⟩:=List.exists_cons_of_ne_nil (l:=x.hs) (λe=>by rw[e]at h0;exact absurd h0 ZzD)
  have hl6:=congrArg List.length ehs
  rw[z0]at hl6
  have hb:x.q*x.hs.length<2^2010:=zQ (Z8 hxx.qb (show x.hs.length<=20 by lia)) (QeC hn)
  have l12:∀hh,Qab fw tb (d+1) lo [nat x.p,nat (x.q*x.hs.length)] hh=.ok (shp (evn x)) hh:=λhh=>QdJ hlo d x.p _ hh (zj hb hfw) (Nat.mul_pos hxx.q0 h0) (zj hb (z9 ZzD ZzD))
  have mu:∀h,opW .Mult (.int (x.q:Int)) (.int (x.hs.length:Int)) h=.ok (nat (x.q*x.hs.length)) h:=λh=>(Qh7 h (QbA ZzL)).trans (by rw[Qpd])
  have lg:∀h,QbK .list [gW] h=.ok (.lst (gs.map W.str)) h:=by rcases hgW with rfl|rfl<;>exact λ_=>rfl
  have cs:∀r13 r14 r15 hh,evE (Qab fw tb (d+1)) (.compS [16] 1 V9 [] (.call he [V16,V2,(.bin .Add (.blt .list [V3]) (.blt .list [V1]))])) (stF xs gW ks vs down dd h j x (some (.tup ((QaE x.hs gs).map W.str))) (some (shp (evn x))) r13 r14 r15) hh=.ok (.lst ((x.hs.map heir).map W.str)) hh:=λr13 r14 r15 hh=>Qox (by simp! []) (.inr rfl) ZzL λs _ hh=>by simp! [lg,Qdy,hl,<- Zc,QmW (fw:=fw) hhe d s ks vs (down++gs) hh];rfl
  have i0:∀hh,ixW (.lst ((x.hs.map heir).map W.str)) (.int 0) hh=.ok (.str (heir s0)) hh:=λhh=>by rw[ehs];exact lx_0
  have sl:∀hh,slW (.lst ((x.hs.map heir).map W.str)) (some 1) none hh=.ok (.lst ((r0.map heir).map W.str)) hh:=λhh=>by rw[ehs];exact sl_1
  have b0:=b hxx (j+1) (evn x) [heir s0]
  have eex:Qdp heir gs dd (xs.length+nw.length) x=r0.mapIdx λi s=>bhW x.tr dd (xs.length+nw.length+1+i) (evn x) [heir s]:=by
   unfold Qdp
   rw[zF ZzL,ehs,List.tail_cons]
  obtain⟨_,_,il,r14',r15',rfl,rfl⟩:∃σ2 hh,fo [14] (exB (Qab fw tb (d+1)) fw [.asg 15 (.bin .Add (.bin .Add (.blt .len [V0]) (.blt .len [V6])) (.con (.int 1))),.exp (.meth .append V6 [(.call be [V10,V4,V15,V12,(.tup [V14])])])]) ((r0.map heir).map W.str) (stF xs gW ks vs down dd h j x (some (.tup ((QaE x.hs gs).map W.str))) (some (shp (evn x))) (some (.lst ((x.hs.map heir).map W.str))) r14 r15) (h++[.lst (md++[bhW x.tr dd (j+1) (evn x) [heir s0]]),.lst nw])=.ok (.nx σ2) hh/\(λi s hh=>∃r14 r15,s=(stF xs gW ks vs down dd h j x (some (.tup ((QaE x.hs gs).map W.str))) (some (shp (evn x))) (some (.lst ((x.hs.map heir).map W.str))) r14 r15)/\hh=h++[.lst (md++[bhW x.tr dd (j+1) (evn x) [heir s0]]),.lst (nw++(Qdp heir gs dd (xs.length+nw.length) x).take i)]) (0+((r0.map heir).map W.str).length) σ2 hh:=by
   refine QhS (Iv:=λi s hh=>∃r14 r15,s=(stF xs gW ks vs down dd h j x (some (.tup ((QaE x.hs gs).map W.str))) (some (shp (evn x))) (some (.lst ((x.hs.map heir).map W.str))) r14 r15)/\hh=h++[.lst (md++[bhW x.tr dd (j+1) (evn x) [heir s0]]),.lst (nw++(Qdp heir gs dd (xs.length+nw.length) x).take i)]) _ 0 _ _ (λi w s hh ew q=>?_) ?_
   rotate_left
   ·exact⟨r14,r15,rfl,ZzS⟩
   rw[ZV]at q ⊢
   obtain⟨r14,r15,rfl,rfl⟩:=q
   rw[zT,zT]at ew
   rcases er:r0[i]? with _|s1<;>rw[er]at ew<;>cases ew
   have hi:=(ze.mp er).1
   have lc:((Qdp heir gs dd (xs.length+nw.length) x).take i).length=i:=by rw[eex,Zk,ZJ];lia
   have b1:=b hxx (xs.length+nw.length+1+i) (evn x) [heir s1]
   simp_arith at b1
   refine⟨_,_,_,rfl,by simp! [len_B,lc,show xs.length+(nw.length+i)+1=xs.length+nw.length+1+i by lia,b1,Qax hxx.pu,app_B,rcv_B,show nw.length+i<16777216 by lia];rfl,_,_,rfl,?_⟩
   rw[List.take_succ,show(Qdp heir gs dd (xs.length+nw.length) x)[i]?=some (bhW x.tr dd (xs.length+nw.length+1+i) (evn x) [heir s1]) by rw[eex,ZL,er];rfl,<- ZP]
   rfl
  rw[ZV,zo,zo,Z3 (by rw[eex,ZJ];exact zD _)]at il
  simp_arith at b0
  refine⟨_,_,by simp! [ix,QbL,cm,qa,qb,mu,l12,cs,i0,sl,b0,Qax hxx.pu,Qpf,QpR,show md.length<16777216 by lia,il];rfl,_,_,_,_,_,_,_,_,_,rfl,?_⟩
  rw[show mk1 heir gs dd (j+1) x=bhW x.tr dd (j+1) (evn x) [heir s0] by unfold mk1;rw[zM qa,zM qb,ehs];rfl]
 have lR:(xs.mapIdx λi x=>mk1 heir gs dd (i+1) x).length+(Qbg heir gs dd xs xs.length).length<=1000:=by
  have:=nl xs.length
  rw[ZC]at this
  rw[ZJ]
  lia
 have hpR:Qaf (QeO heir gs dd xs xs.length)=true:=by
  have:∀(l:List Pt) (m:Nat),(∀y∈l,y.R n)->Qaf (Qbg heir gs dd l m)=true:=by
   intro l;induction l with
   |nil=>intro m _;rfl
   |cons y l ih=>exact λm hy=>by rw[Qbg];exact Qem (QfN ((hy y zN).G hn hfw)) (ih _ λz hz=>hy z (zB _ hz))
  simp only[QeO,ZC,zzQ,Zy,Zf];refine Qem (Qbe λw hw=>?_) (this _ _ hx);obtain⟨i,hi,rfl⟩:=zzE.mp hw;exact QlR ((hx _ (ZM hi)).G hn hfw)
 rw[ZC]at lp
 simp only[QeO,ZC,zzQ,Zy,Zf]at hpR
 simp only[QeO,ZC,zzQ,Zy,Zf]
 rw[Qac hff rfl]
 simp! [Qaf,ZP,rg_n (n:=xs.length) ZzL,lp,add_AB lR,QgR hpR]
 rfl
section
variable {R:Rx}{q q':Sd}{ks:List Str}{nd:Nat}
theorem Qbt(e:QbY R nd q1=.ok q'):nd<200/\q'=q1:=by
 unfold QbY at e
 grind
theorem QcQ(e:first R ks q ss o=.ok q'):unk ks ss=false/\ded q ss=false/\QaW q.dw=false/\o=.ok q':=by
 unfold first at e
 grind
theorem QdL(e:QcW R ks q nd a z=.ok q'):nd<200/\QaW q.dw=false/\q.xs.length<60/\∃x k,z=((k:Nat):Int)/\1<=k/\q.xs[k-1]?=some x/\QlE x a=false/\q'=⟨.tup [.str "sever",.str a,.int z],Qld q.xs x k a (nd+1),q.ks,q.vs,q.G⟩:=by unfold QcW at e;obtain⟨_,_,h3,e⟩:=QcQ e;split at e;cases e;rename_i o;obtain⟨z1,z2,z3⟩:=QcV (Zp _ |>.mp o);split at e;cases e;rename_i x ex;split at e;cases e;rename_i b;split at e;cases e;rename_i c;obtain⟨h4,h5⟩:=Qbt e;exact⟨h4,h3,ZzL,x,_,z1,z2,ex,Zp _ |>.mp b,h5⟩
theorem QeM(e:QdS R ks q nd a z tz ss=.ok q'):nd<200/\QaW q.dw=false/\∃x k tw,z=((k:Nat):Int)/\tz=((tw:Nat):Int)/\tw<=20/\1<=k/\q.xs[k-1]?=some x/\q'=⟨.tup [.str "hand",.str a,.int z,.int tz,.tup ((srt ss).map W.str)],Qez q.xs x k tw (srt ss) (nd+1),q.ks,q.vs,q.G⟩:=by unfold QdS at e;split at e;obtain⟨_,_,h3,e⟩:=QcQ e;split at e;cases e;rename_i o;obtain⟨z1,z2,z3⟩:=QcV (Zp _ |>.mp o);split at e;cases e;rename_i x ex;split at e;cases e;split at e;cases e;rename_i b;obtain⟨tw,rfl,t1,t2⟩:=Ql9 (Zp _ |>.mp b);split at e;cases e;obtain⟨h4,h5⟩:=Qbt e;rw[Zt]at h5;exact⟨h4,h3,x,_,tw,z1,rfl,t2,z2,ex,h5⟩;cases e
theorem Qdd(e:QbB R ks q nd a b k2 us=.ok q'):nd<200/\QaW q.dw=false/\q'=⟨.tup [.str "follow",.str a,.str b],q.xs,k2,us,q.G⟩:=by obtain⟨_,_,h3,e⟩:=QcQ e;exact⟨(Qbt e).1,h3,(Qbt e).2⟩
theorem QgW(e:QlX R ks q nd ss=.ok q'):nd<200/\QaW q.dw=false/\ss.length<=30/\q'=⟨.tup [.str "die",.tup ((srt ss).map W.str)],Qhh (Qdh q.ks q.vs q.G (srt ss)) (srt ss) (nd+1) q.xs,q.ks,q.vs,q.G++srt ss⟩:=by unfold QlX at e;split at e;rename_i g;obtain⟨_,_,h3,e⟩:=QcQ e;split at e;cases e;exact⟨(Qbt e).1,h3,g.2.1,(Qbt e).2⟩;simp_all
theorem Qec(e:QbM R ks q nd ss=.ok q'):nd<200/\QaW q.dw=true/\q'=⟨.tup [.str "grant",.tup ((srt ss).map W.str)],[bhP [] 1 1 (1,1) (srt ss)],q.ks,q.vs,q.G⟩:=by
 unfold QbM at e
 split at e
 ·split at e
  ·cases e
  ·split at e
   ·cases e
   ·split at e
    ·grind
    ·rename_i b
     exact⟨(Qbt e).1,Bool.not_eq_false _ |>.mp b,(Qbt e).2⟩
 ·cases e
end
noncomputable def Dd.gone(G:List Str):Dd->List Str
 |.die ss=>G++ss
 |_=>G
theorem Qdl(s)(a b):Qa5 s (a++b)=(Qa5 s a||Qa5 s b):=by rw[QaR,QaR,QaR];simp
theorem Qlc{h1 h2:Str->Str}{g1 g2:List Str}{dd:Nat}{xs:List Pt}(hh:∀s,h1 s=h2 s)(hg:∀s,Qa5 s g1=Qa5 s g2):Qhh h1 g1 dd xs=Qhh h2 g2 dd xs:=by
 have e1:h1=h2:=funext hh
 have e2:∀hs,QaE hs g1=QaE hs g2:=λhs=>by
  unfold QaE
  simp_all
 have m:∀n x,mkP h1 g1 dd n x=mkP h1 g2 dd n x:=λn x=>by unfold mkP;rw[e2]
 have x':∀n x,exP h1 g1 dd n x=exP h1 g2 dd n x:=λn x=>by unfold exP;rw[e2]
 have w:∀(xs:List Pt) n,nwP h1 g1 dd xs n=nwP h1 g2 dd xs n:=λxs=>by
  induction xs with
  |nil=>intro n;rfl
  |cons x xs ih=>intro n;rw[nwP,nwP,x',ih]
 unfold Qhh
 grind
theorem QjK{ks vs G G' g1 g2:List Str}(hG:∀s,Qa5 s G'=Qa5 s G)(hg:∀s,Qa5 s g1=Qa5 s g2)(s:Str):Qdh ks vs G' g1 s=Qdh ks vs G g2 s:=by unfold Qdh;congr 1;funext y;rw[Qdl,Qdl,hG,hg]
noncomputable abbrev Qnz:List S:=[.ret (.blt .tuple [(.compS [1] 1 V0 [] (.ite (.isi V1 [.list]) (.blt .tuple [(.blt .sorted [V1])]) V1))])]
noncomputable def tlS(w:W):W:=match w with
 |.lst ws=>.tup ((srt (ws.map unS)).map W.str)
 |w=>w
theorem Qjp(ss:List Str):(ss.map W.str).map unS=ss:=by rw[zzm];exact(zzs  λx _=>rfl).trans (List.map_id _)
noncomputable abbrev Dd.L(D:Dd):W:=.lst (D.row (.lst (D.grp.map W.str)))
noncomputable abbrev Dd.T(D:Dd):W:=.tup (D.row (.tup ((srt D.grp).map W.str)))
theorem row_tl(D:Dd):(D.row (.lst (D.grp.map W.str))).map tlS=D.row (.tup ((srt D.grp).map W.str)):=by
 have e:∀ss:List Str,tlS (.lst (ss.map W.str))=.tup ((srt ss).map W.str):=λss=>by show W.tup ((srt ((ss.map W.str).map unS)).map W.str)=_;rw[Qjp]
 cases D with
 |grant ss=>show [W.str "grant",tlS (.lst (ss.map W.str))]=_;rw[e];rfl
 |sever a z=>rfl
 |hand a z tz ss=>show [W.str "hand",W.str a,W.int z,W.int tz,tlS (.lst (ss.map W.str))]=_;rw[e];rfl
 |follow a b=>rfl
 |die ss=>show [W.str "die",tlS (.lst (ss.map W.str))]=_;rw[e];rfl
theorem Qfx(D:Dd)(g):∀u∈D.row g,(∃s,u=.str s)\/(∃i,u=.int i)\/u=g:=by cases D<;>simp[Dd.row]
theorem Qd9(D:Dd)(hg:Qah g=true):Qaf (D.row g)=true:=by cases D<;>simp[Dd.row,Qaf,Qah,hg]
section
variable {fw:Nat}{tb:List Fn}{R:Rx}{q q':Sd}{P ks:List Str}{n:Nat}{h:Qaa}{done:List W}{G':List Str}
theorem toldR{f:Nat}(hf:tb[f]?=some ⟨1,1,Qnz,none⟩)(d:Nat)(D:Dd)(hl:D.grp.length<64):Qab fw tb (d+1) f [D.L] h=.ok D.T h:=by
 rw[Qac hf rfl];generalize Qab fw tb d=cf;have pT:Qaf (D.row (.tup ((srt D.grp).map W.str)))=true:=Qd9 D (by rw[Qah];exact Qak _);have l5:(D.row (.lst (D.grp.map W.str))).length<=1000:=by cases D<;>(simp[Dd.row])
 have pu:∀u∈D.row (.lst (D.grp.map W.str)),Qah (tlS u)=true:=λu hm=>by rcases Qfx D _ u hm with⟨s,rfl⟩|⟨i,rfl⟩|rfl;rfl;rfl;show Qah (.tup _)=true;rw[Qah];exact Qak _
 refine Qcr (x:=exB cf fw Qnz [some D.L] h) (Qar (Qa7 ((QcU (Qfy (F:=tlS) (U0 rfl) rfl (λk e=>by cases e) l5 λu hm=>⟨pu u hm,[some D.L,some u],rfl,λhh=>?_⟩)).trans (by rw[row_tl])))) (Qcu pT);rcases Qfx D _ u hm with⟨s,rfl⟩|⟨i,rfl⟩|rfl;exact QkG (QkT (U1 rfl) rfl) (U1 rfl);rfl;refine Qju (QkT (U1 rfl) rfl) ((QoL (ss:=D.grp) (U1 rfl) rfl hl).trans ?_);show _=Res.ok (W.tup ((srt ((D.grp.map W.str).map unS)).map W.str)) hh;rw[Qjp]
end
noncomputable abbrev Qor(to be sv hn fa : Nat) : List S := [.unp [2, 3, 4, 5] V0,
 .asg 6 (.bin .Add (.blt .len [V5]) (.con (.int 1))),
 .asg 7 (.bin .Add V5 (.lst [(.call to [V1])])),
 .if_ (eq0 1 "grant") [.ret (.lst [(.lst [(.call be [(.tup []),(.con (.int 1)),(.con (.int 1)),(.tup [(.con (.int 1)),(.con (.int 1))]),(.ix (.ix V7 (.con (.int 0))) (.con (.int 1)))])]),V3,V4,V7])] [],
 .if_ (eq0 1 "sever") [.ret (.lst [(.call sv [V2,(.ix V1 (.con (.int 2))),(.ix V1 (.con (.int 1))),V6]),V3,V4,V7])] [],
 .if_ (eq0 1 "hand") [.asg 8 (.blt .tuple [(.blt .sorted [(.ix V1 (.con (.int 4)))])]),
 .ret (.lst [(.call hn [V2,(.ix V1 (.con (.int 2))),(.ix V1 (.con (.int 3))),V8,V6]),V3,V4,V7])] [],
 .if_ (eq0 1 "follow") [.freshC 9 V4,
 .setix V9 (.ix V1 (.con (.int 1))) (.ix V1 (.con (.int 2))),
 .ret (.lst [V2,V3,V9,V7])] [],
 .asg 10 (.call fa [V2,(.ix V1 (.con (.int 1))),V4,V3,V6]),
 .ret (.lst [V10, (.bin .Add V3 (.blt .list [(.ix V1 (.con (.int 1)))])), V4, V7])]
structure Ax where
 (to be lo sv hn he fa ap:Nat)
structure Ax.In (A:Ax) (tb:List Fn):Prop where
 to:tb[A.to]?=some ⟨1,1,Qnz,none⟩
 be:tb[A.be]?=some ⟨5,5,QaQ,none⟩
 lo:tb[A.lo]?=some ⟨2,4,QfG,none⟩
 sv:tb[A.sv]?=some ⟨4,12,Qfk A.lo A.be,none⟩
 hn:tb[A.hn]?=some ⟨5,11,Qhf A.lo A.be,none⟩
 he:tb[A.he]?=some ⟨3,5,QdU,none⟩
 fa:tb[A.fa]?=some ⟨5,16,Qle A.be A.lo A.he,none⟩
 ap:tb[A.ap]?=some ⟨2,11,Qor A.to A.be A.sv A.hn A.fa,none⟩
section
variable {fw:Nat}{tb:List Fn}{R:Rx}{A:Ax}{q q':Sd}{P ks:List Str}{n:Nat}{h:Qaa}{done:List W}{G':List Str}
theorem Qfo(hx:∀x∈xs,x.R n)(hd:Qaf done=true):Qah (stW xs G ks vs done)=true:=by have:=QaD hx;simp only[stW,Qah,Qaf,this,Qak,hd,Bool.and_self,Bool.and_true]
theorem l4(ea:evE cf a σ h=.ok x h)(eb:evE cf b σ h=.ok y h)(ec:evE cf c σ h=.ok z h)(ee:evE cf e σ h=.ok u h):evE cf (.lst [a,b,c,e]) σ h=.ok (.lst [x,y,z,u]) h:=Qbv (Qae ea (Qae eb (Qcn ec ee))) ZzS
theorem applyR(T:A.In tb)(hf:2^2010<=fw)(d)(D)(ok:q.Ok P n)(ok':q'.Ok P (n+1))(n4:n<=399)(hG:∀s,Qa5 s G'=Qa5 s q.G)(hGl:G'.length<=500)(hd:done.length<=900)(pd:Qaf done=true)(fit:D.Fit)(g0:QaW q.dw=true->done=[])(e:Qb7 R ks q done.length D=.ok q') :
  Qab fw tb (d+3) A.ap [stW q.xs G' q.ks q.vs done,D.L] h=.ok (stW q'.xs (D.gone G') q'.ks q'.vs (done++[D.T])) h/\q'.dw=D.T:=by
 have hgl:D.grp.length<64:=by
  cases D with
  |grant ss=>exact fit.1
  |hand a z tz ss=>exact fit.2.2.2.1
  |die ss=>exact fit.1
  |_=>show 0<64;decide
 have td:=toldR (fw:=fw) (h:=h) T.to (d+1) D hgl
 have c1:=λ(ss:List Str)=>Qa1 (fw:=fw) T.be (d+1) 1 1 (1,1) ss [] rfl ZzD h
 have c2:=λ(x:Pt) (k:Nat) (a:Str) (h1:1<=k) (hk:q.xs[k-1]?=some x)=>QlI (fw:=fw) (h:=h) (name:=a) (dd:=done.length+1) T.sv T.lo T.be hf d ok.x1 ZzL ok.x2 h1 hk
 have c3:=λ(x:Pt) (k tw:Nat) (to:List Str) (ht:tw<=20) (h1:1<=k) (hk:q.xs[k-1]?=some x)=>Qq7 (fw:=fw) (h:=h) (to:=to) (dd:=done.length+1) T.hn T.lo T.be hf d ht ok.x1 ZzL ok.x2 h1 hk
 have c4:=λ(ss:List Str) (hl:G'.length+ss.length<=1000)=>Qnm (fw:=fw) T.fa T.be T.lo T.he hf d q.xs ss q.ks q.vs G' (gW:=.lst (ss.map W.str)) (.inl rfl) (done.length+1) h ok.x1 ZzL ok.x2 hl
 have pT:Qah D.T=true:=by rw[Qah];exact Qd9 D (by rw[Qah];exact Qak _)
 have pd':Qaf (done++[D.T])=true:=QaH pd pT
 have sp:=λ{xs:List Pt}{Gs k2 v2} (hx:∀y∈xs,y.R (n+1))=>Qg4 (h:=h) (Qfo (xs:=xs) (G:=Gs) (ks:=k2) (vs:=v2) hx pd')
 simp only[stW]at sp ⊢
 rw[Qac T.ap rfl]
 have so:∀{ss:List Str},ss.length<64->QbK .sorted [.lst (ss.map W.str)] h=.ok (.lst ((srt ss).map W.str)) h:=λl=>by show Qi9 _ _=_;simp only[Qi9,seqA,Qe3,seqL,Option.or,Option.bind,Qb3,l];rfl
 cases D with
 |grant ss =>
  obtain⟨_,e1,rfl⟩:=Qec (show QbM R ks q done.length ss=.ok q' from e)
  cases g0 e1
  have s:=sp (Gs:=G') (k2:=q.ks) (v2:=q.vs) ok'.x1
  rw[zO,Zy,Qlt]at s
  refine⟨?_,rfl⟩
  simp only[Dd.L,Dd.T,Dd.row,Dd.grp,zzf]at td s ⊢
  have c:Qab fw tb (d+2) A.be [.tup [],.int 1,.int 1,.tup [.int 1,.int 1],.tup ((srt ss).map W.str)] h=_:=c1 (srt ss)
  simp! [td,tgs,c,Qdy,s,Dd.gone,Qlt]
 |sever a z =>
  obtain⟨_,_,_,x,k,rfl,k1,hk,_,rfl⟩:=QdL (show QcW R ks q done.length a z=.ok q' from e)
  have s:=sp (Gs:=G') (k2:=q.ks) (v2:=q.vs) ok'.x1
  refine⟨?_,rfl⟩
  simp only[Dd.L,Dd.T,Dd.row,Dd.grp]at td s ⊢
  simp! [td,tgs,c2 x k a k1 hk,Qdy,show done.length+1<=1000 by lia,s,Dd.gone]
 |hand a z tz ss =>
  obtain⟨_,_,x,k,tw,rfl,rfl,t2,k1,hk,rfl⟩:=QeM (show QdS R ks q done.length a z tz ss=.ok q' from e)
  have s:=sp (Gs:=G') (k2:=q.ks) (v2:=q.vs) ok'.x1
  refine⟨?_,rfl⟩
  simp only[Dd.L,Dd.T,Dd.row,Dd.grp]at td s ⊢
  simp! [td,tgs,so (ss:=ss) hgl,c3 x k tw (srt ss) t2 k1 hk,Qdy,show done.length+1<=1000 by lia,s,Dd.gone]
 |follow a b =>
  obtain⟨_,_,rfl⟩:=Qdd (show QbB R ks q done.length a b (dpS q.ks q.vs a b).1 (dpS q.ks q.vs a b).2=.ok q' from e)
  refine⟨?_,rfl⟩
  have u1:=λhh=>QaT (h:=hh) (n0:=h.length) (.lst (q.xs.map ptW)) (QaD ok.x1)
  have u2:=λhh=>QaT (h:=hh) (n0:=h.length) (.lst (G'.map W.str)) (Qak _)
  have u3:=λhh=>QaT (h:=hh) (n0:=h.length) (.lst (done++[Dd.T (.follow a b)])) pd'
  simp only[Dd.L,Dd.T,Dd.row,Dd.grp]at td u3 ⊢
  simp! [td,tgs,Qdy,show done.length+1<=1000 by lia,Dd.gone,QaO,Qak,(QkR ok.k1).1,show q.ks.length<16777216 by have:=ok.k2;lia,show Qah (.str b)=true from rfl,J.fin,↓u1,↓u2,↓u3,unr,Qf7,Option.map_some,ZN,List.take_left]
 |die ss =>
  obtain⟨_,_,l3,rfl⟩:=QgW (show QlX R ks q done.length ss=.ok q' from e)
  have s:=sp (Gs:=G'++ss) (k2:=q.ks) (v2:=q.vs) ok'.x1
  refine⟨?_,rfl⟩
  have c:=c4 ss ZzL
  rw[Qlc (dd:=done.length+1) (xs:=q.xs) (λs=>QjK (ks:=q.ks) (vs:=q.vs) (G':=G') (G:=q.G) (g1:=ss) (g2:=srt ss) hG (λs=>(QcS s ss).symm) s) (λs=>(QcS s ss).symm)]at c
  simp only[Dd.L,Dd.T,Dd.row,Dd.grp]at td s ⊢
  simp! [td,tgs,c,Qdy,show done.length+1<=1000 by lia,show G'.length+ss.length<=1000 by lia,<- Zc,s,Dd.gone]
end
noncomputable abbrev sd0:Sd:=⟨.non,[],[],[],[]⟩
theorem sd0_ok:sd0.Ok P 0:=⟨rfl,(λx hx=>nomatch hx),ZzS,(λx hx=>nomatch hx),rfl,ZzS,(λx hx=>nomatch hx),(λx hx=>nomatch hx),ZzS⟩
theorem Qon(e:Qb7 R ks q nd D=.ok q'):q'.dw=D.T/\nd<200/\(QaW q.dw=false->0<q.xs.length->0<q'.xs.length)/\(QaW q.dw=true->0<q'.xs.length)/\(∀s,Qa5 s q'.G=Qa5 s (D.gone q.G)):=by
 cases D with
 |grant ss=>obtain⟨h1,h2,rfl⟩:=Qec e;exact⟨rfl,h1,λ_ _=>by show 0<1;decide,λ_=>by show 0<1;decide,λ_=>rfl⟩
 |sever a z=>obtain⟨h1,h2,_,x,k,_,_,_,_,rfl⟩:=QdL e;exact⟨rfl,h1,λ_ _=>by rw[QkE];lia,λz=>(by rw[h2]at z;cases z),λ_=>rfl⟩
 |hand a z tz ss=>obtain⟨h1,h2,x,k,tw,_,_,_,_,_,rfl⟩:=QeM e;exact⟨rfl,h1,λ_ _=>by rw[QeY];split<;>lia,λz=>(by rw[h2]at z;cases z),λ_=>rfl⟩
 |follow a b=>obtain⟨h1,h2,rfl⟩:=Qdd e;exact⟨rfl,h1,λ_ z=>z,λz=>(by rw[h2]at z;cases z),λ_=>rfl⟩
 |die ss=>
  obtain⟨h1,h2,_,rfl⟩:=QgW e
  exact⟨rfl,h1,λ_ _=>by rw[Qhs];lia,λz=>(by rw[h2]at z;cases z),λs=>by
   show Qa5 s (q.G++srt ss)=Qa5 s (q.G++ss)
   rw[Qdl,Qdl,QcS]⟩
theorem Dd.T_Q{D:Dd}(hl:D.grp.length<64):okQ D.T=true/\dep D.T<=3:=by
 have e:okQ (.tup ((srt D.grp).map W.str))=true:=by rw[okQ,Qcd,zo,QbT,zX ZzL];rfl
 have e2:dep (.tup ((srt D.grp).map W.str))<=2:=by rw[dep,Qco];decide
 unfold Dd.T;generalize W.tup ((srt D.grp).map W.str)=g at *;have p:∀ws,(∀w∈ws,w=g\/okQ w=true/\dep w<=2)->ws.length<=10->okQ (.tup ws)=true/\dep (.tup ws)<=3:=λws hw hl=>by
  have z1:∀ws:List W,(∀w∈ws,w=g\/okQ w=true/\dep w<=2)->Qey ws=true/\Qex ws<=2:=λws=>by
   induction ws with
   |nil=>intro _;exact⟨rfl,ZQ _⟩
   |cons w ws ih=>
    intro hw;obtain⟨i1,i2⟩:=ih λu hu=>hw u (zB _ hu);have j:okQ w=true/\dep w<=2:=by grind
    rw[Qey,Qex,j.1,i1];exact⟨rfl,Nat.max_le.mpr ⟨j.2,i2⟩⟩
  obtain⟨z1,z2⟩:=z1 ws hw;rw[okQ,dep,z1,zX ZzL];exact⟨rfl,ZzL⟩
 refine p _ (λw hw=>?_) (by cases D<;>simp[Dd.row]);rcases Qfx D g w hw with⟨s,rfl⟩|⟨i,rfl⟩|rfl;exact .inr ⟨rfl,ZQ _⟩;exact .inr ⟨rfl,ZQ _⟩;exact .inl rfl
theorem Dd.Fit.len{D:Dd}(fit:D.Fit):D.grp.length<64:=by
 cases D with
 |grant ss=>exact fit.1
 |hand a z tz ss=>exact fit.2.2.2.1
 |die ss=>exact fit.1
 |_=>show 0<64;decide
inductive Ch (R:Rx) (ks:List Str):List Sd->Sd->List Str->List W->List W->Prop
 |nil:Ch R ks [] sd0 [] [] []
 |step {C:List Sd}{q q':Sd}{G:List Str}{Ss dn:List W} (D:Dd):Ch R ks C q G Ss dn->D.Fit->Qb7 R ks q C.length D=.ok q'->Ch R ks (C++[q]) q' (D.gone G) (Ss++[stW q.xs G q.ks q.vs dn]) (dn++[D.T])
structure Rec (P:List Str) (C:List Sd) (q:Sd) (G:List Str) (Ss dn:List W):Prop where
 ok:q.Ok P C.length
 cl:dn.length=C.length
 sl:Ss.length=C.length
 c2:C.length<=200
 pd:Qaf dn=true
 ps:Qaf Ss=true
 pc:Qaf (C.map Sd.W)=true
 hg:QaW q.dw=decide (C.length=0)
 hG:∀s,Qa5 s G=Qa5 s q.G
 gl:G.length=q.G.length
 x0:0<C.length->0<q.xs.length
 dq:0<C.length->okQ q.dw=true/\dep q.dw<=3
variable {R:Rx}{ks P:List Str}{C:List Sd}{q q':Sd}{G:List Str}{Ss dn:List W}
theorem Qn1(hG:G.length=q.G.length)(e:Qb7 R ks q nd D=.ok q'):(D.gone G).length=q'.G.length:=by
 cases D with
 |grant ss=>obtain⟨_,_,rfl⟩:=Qec e;exact hG
 |sever a z=>obtain⟨_,_,_,x,k,_,_,_,_,rfl⟩:=QdL e;exact hG
 |hand a z tz ss=>obtain⟨_,_,x,k,tw,_,_,_,_,_,rfl⟩:=QeM e;exact hG
 |follow a b=>obtain⟨_,_,rfl⟩:=Qdd e;exact hG
 |die ss=>obtain⟨_,_,_,rfl⟩:=QgW e;show(G++ss).length=(q.G++srt ss).length;rw[zA,zA,QbT,hG]
theorem Rec.step(r:Rec P C q G Ss dn)(nP:∀y∈P,QaI y)(hk:∀y∈ks,y∈P){D:Dd}(fit:D.Fit)(e:Qb7 R ks q C.length D=.ok q'):Rec P (C++[q]) q' (D.gone G) (Ss++[stW q.xs G q.ks q.vs dn]) (dn++[D.T]):=by
 obtain⟨e1,e2,e3,e4,e5⟩:=Qon e;have ok:=Qfa (R:=R) (nd:=C.length) (D:=D) r.ok nP hk fit;rw[e]at ok;have pT:Qah D.T=true:=by rw[Qah];exact Qd9 D (by rw[Qah];exact Qak _)
 have TQ:=D.T_Q fit.len;refine⟨?_,?_,?_,?_,QaH r.pd pT,QaH r.ps (Qfo r.ok.x1 r.pd),?_,?_,?_,Qn1 r.gl e,λ_=>?_,λ_=>?_⟩;rw[zA];exact ok.1;rw[zA,zA,r.cl];rfl;rw[zA,zA,r.sl];rfl;rw[zA];exact e2;rw[Zc];exact QaH r.pc (Sd.pw r.ok);rw[ok.2,zA,zV (by show ¬ C.length+1=0;lia)];intro s;rw[e5];cases D with
 |die ss=>show Qa5 s (G++ss)=Qa5 s (q.G++ss);rw[Qdl,Qdl,r.hG]
 |_=>exact r.hG s
 by_cases z:C.length=0;exact e4 (by rw[r.hg,zX z]);exact e3 (by rw[r.hg,zV z]) (r.x0 (zzA z));rw[e1];exact TQ
theorem Ch.rec'(c:Ch R ks C q G Ss dn)(nP:∀y∈P,QaI y)(hk:∀y∈ks,y∈P):Rec P C q G Ss dn:=by
 induction c with
 |nil=>exact⟨sd0_ok,rfl,rfl,ZQ _,rfl,rfl,rfl,rfl,λ_=>rfl,rfl,λz=>absurd z ZzS,λz=>absurd z ZzS⟩
 |step D _ fit e ih=>exact ih.step nP hk fit e
theorem Ch.back(c:Ch R ks C q G Ss dn)(h:0<C.length):∃C0 q0 G0 S0 dn0,C=C0++[q0]/\Ss=S0++[stW q0.xs G0 q0.ks q0.vs dn0]/\dn=dn0++[q.dw]/\Ch R ks C0 q0 G0 S0 dn0:=by
 cases c with
 |nil=>simp_all
 |step D c fit e=>exact⟨_,_,_,_,_,rfl,rfl,by rw[(Qon e).1],c⟩
theorem Rec.g5(r:Rec P C q G Ss dn)(hP:P.length<=30):G.length<=30:=by rw[r.gl];exact zf (QbH r.ok.g2 r.ok.g1) hP
end J
set_option Elab.async false
set_option linter.all false
set_option maxRecDepth 100000
set_option maxHeartbeats 4000000
namespace Law
open PySem J
def top(i:Nat):Stmt:=PySem.Challenge.pw_jointhold_k21_sixty_parts.main.body.getD i (.Pass ⟨0,0,0,0⟩)
def mtop(i j:Nat):Stmt:=match top i with
 |.ClassDef _ _ _ body _ _ _ _ _ _ _=>body.getD j (.Pass ⟨0,0,0,0⟩)
 |s=>s
abbrev dD(x:Str)(i k:Nat)(N mu:List Str):Df:=⟨x,top i,N,N.take k,mu,x,0⟩
def d0:Df:=dD "is_name" 20 1 ["text"] []
def d1:Df:=dD "has_one_twice" 21 1 ["names"] []
def d2:Df:=dD "checked_names" 22 1 ["names","name"] []
def d3:Df:=dD "group_of" 23 3 ["names","least","most"] []
def d4:Df:=dD "names_without" 24 2 ["names","gone"] []
def d5:Df:=dD "check_known" 25 2 ["names","known","name"] []
def d6:Df:=dD "check_living" 26 3 ["names","known","dead","name"] []
def d7:Df:=dD "heir_of" 28 3 ["name","follows","dead","passed","at"] ["passed"]
def d8:Df:=dD "common_divisor" 31 2 ["one","other","rest"] []
def d9:Df:=dD "lowest" 32 2 ["top","below","divisor"] []
def d10:Df:=dD "piece_of" 33 3 ["share","many","of"] []
def d11:Df:=dD "part_behind" 36 5 ["trail","deed","number","share","holders"] []
def d12:Df:=dD "first_part" 37 1 ["holders"] []
def d13:Df:=dD "part_numbered" 38 2 ["parts","number"] []
def d14:Df:=dD "with_part" 39 3 ["parts","number","part","after"] ["after"]
def d15:Df:=dD "checked_many" 40 1 ["parts"] []
def d16:Df:=dD "fallen_parts" 42 4 ["part","numbers","heirs","deed","share"] []
def d17:Df:=dD "parts_after" 43 5 ["parts","gone","follows","dead","deed","after","number","part","holders","left","heirs","numbers","fallen","all_dead"] ["after"]
def d18:Df:=dD "whole_handed" 46 4 ["parts","number","receivers","deed","part"] []
def d19:Df:=dD "piece_handed" 47 5 ["parts","number","twentieths","receivers","deed","part","share","trail","left","rest","given"] []
def d20:Df:=dD "hand_part" 48 6 ["parts","number","name","twentieths","receivers","deed","part","after"] []
def d21:Df:=dD "sever_part" 50 4 ["parts","number","name","deed","part","share","holders","trail","many","others","rest","taken"] []
def d22:Df:=⟨"__init__",mtop 53 0,["self","deed","part_list","follows","dead"],["self","deed","part_list","follows","dead"],[],"Standing.__init__",2⟩
def d23:Df:=⟨"__init__",mtop 54 0,["self","names"],["self","names"],["standings"],"Register.__init__",3⟩
def d24:Df:=⟨"last",mtop 54 1,["self"],["self"],[],"Register.last",1⟩
def d25:Df:=⟨"next_number",mtop 54 2,["self"],["self"],[],"Register.next_number",1⟩
def d26:Df:=⟨"check_people",mtop 54 3,["self","names"],["self","names"],[],"Register.check_people",1⟩
def d27:Df:=⟨"check_granted",mtop 54 5,["self"],["self"],[],"Register.check_granted",1⟩
def d28:Df:=⟨"keep",mtop 54 6,["self","deed","part_list","follows","dead","number"],["self","deed","part_list","follows","dead"],[],"Register.keep",1⟩
def d29:Df:=⟨"grant",mtop 54 7,["self","names","holders","last"],["self","names"],[],"Register.grant",1⟩
def d30:Df:=⟨"sever",mtop 54 8,["self","name","number","last","part_list"],["self","name","number"],[],"Register.sever",1⟩
def d31:Df:=⟨"hand",mtop 54 9,["self","name","number","twentieths","receivers","group","last","part_list"],["self","name","number","twentieths","receivers"],[],"Register.hand",1⟩
def d32:Df:=⟨"follow",mtop 54 10,["self","name","follower","last","follows"],["self","name","follower"],[],"Register.follow",1⟩
def d33:Df:=⟨"die",mtop 54 11,["self","names","gone","last","part_list"],["self","names"],[],"Register.die",1⟩
def d34:Df:=⟨"back",mtop 54 12,["self"],["self"],[],"Register.back",1⟩
def d35:Df:=⟨"parts",mtop 54 13,["self"],["self"],[],"Register.parts",1⟩
def d36:Df:=⟨"deeds",mtop 54 14,["self"],["self"],[],"Register.deeds",1⟩
def d37:Df:=⟨"follower",mtop 54 17,["self","name"],["self","name"],[],"Register.follower",1⟩
def d38:Df:=dD "_law_at" 56 2 ["_law_script","_law_k"] []
def d39:Df:=dD "_law_people" 57 3 ["_law_many","_law_how","_law_shift","_law_letters","_law_fill","_law_ahead","_law_made","_law_k","_law_one","_law_two"] ["_law_made"]
def d40:Df:=dD "_law_group_bad" 58 1 ["_law_deed","_law_group","_law_most"] []
def d41:Df:=dD "_law_persons" 59 1 ["_law_deed"] []
def d42:Df:=dD "_law_part_due" 60 2 ["_law_held","_law_deed","_law_holders"] []
def d43:Df:=dD "_law_more" 61 2 ["_law_held","_law_deed","_law_more_here","_law_part"] []
def d44:Df:=dD "_law_due" 62 3 ["_law_state","_law_deed","_law_people_here","_law_held","_law_named","_law_done","_law_persons_here","_law_word","_law_gone"] []
def d45:Df:=dD "_law_with" 63 5 ["_law_trail","_law_deed","_law_number","_law_share","_law_holders"] []
def d46:Df:=dD "_law_low" 64 2 ["_law_top","_law_below","_law_a","_law_b"] []
def d47:Df:=dD "_law_severed" 65 4 ["_law_held","_law_number","_law_name","_law_deed","_law_share","_law_holders","_law_trail","_law_many","_law_rest","_law_stays","_law_taken","_law_made"] ["_law_made"]
def d48:Df:=dD "_law_handed" 66 5 ["_law_held","_law_number","_law_pieces","_law_to","_law_deed","_law_share","_law_holders","_law_trail","_law_made","_law_stays","_law_goes"] ["_law_made"]
def d49:Df:=dD "_law_heir" 67 3 ["_law_name","_law_named","_law_gone","_law_at_here","_law_turn"] []
def d50:Df:=dD "_law_fallen" 68 5 ["_law_held","_law_group","_law_named","_law_gone","_law_deed","_law_made","_law_new","_law_k","_law_share","_law_holders","_law_trail","_law_left","_law_even","_law_heirs","_law_heir_here","_law_number"] ["_law_made","_law_new"]
def d51:Df:=dD "_law_told" 69 1 ["_law_deed"] []
def d52:Df:=dD "_law_apply" 70 2 ["_law_state","_law_deed","_law_held","_law_gone","_law_named","_law_done","_law_number","_law_after","_law_to","_law_more_here","_law_fell"] ["_law_more_here"]
def d53:Df:=dD "_law_call" 71 2 ["_law_land","_law_deed","_law_group"] []
def d54:Df:=dD "_law_do" 72 2 ["_law_land","_law_deed","e","_law_flags","_law_words"] []
def d55:Df:=dD "_law_same" 73 2 ["_law_found","_law_due_here","_law_alike","_law_k"] []
def d56:Df:=dD "_law_answer" 74 3 ["_law_found","_law_word","_law_number"] []
def d57:Df:=dD "_law_back" 75 1 ["_law_land","_law_word"] []
def d58:Df:=dD "_law_holdings" 76 2 ["_law_land","_law_held","_law_found","_law_k"] []
def d59:Df:=dD "_law_crowd" 77 5 ["_law_cell","_law_turn","_law_people_here","_law_gone","_law_held","_law_at_here","_law_some","_law_k","_law_joint","_law_alive","_law_start"] []
def d60:Df:=dD "law" 78 1 ["_law_script","_law_land","_law_rows","_law_size","_law_to","_law_pieces","_law_states","_law_deed","_law_word","_law_k","_law_people_here"] ["_law_rows","_law_states"]
noncomputable def ds:List Df:=[d0,d1,d2,d3,d4,d5,d6,d7,d8,d9,d10,d11,d12,d13,d14,d15,d16,d17,d18,d19,d20,d21,d22,d23,d24,d25,d26,d27,d28,d29,d30,d31,d32,d33,d34,d35,d36,d37,d38,d39,d40,d41,d42,d43,d44,d45,d46,d47,d48,d49,d50,d51,d52,d53,d54,d55,d56,d57,d58,d59,d60]
noncomputable def gl:List (Str×Gk):=("is_name",.fn 0 1)::("has_one_twice",.fn 1 1)::("checked_names",.fn 2 1)::("group_of",.fn 3 3)::("names_without",.fn 4 2)::("check_known",.fn 5 2)::("check_living",.fn 6 3)::("heir_of",.fn 7 3)::("common_divisor",.fn 8 2)::("lowest",.fn 9 2)::("piece_of",.fn 10 3)::("part_behind",.fn 11 5)::("first_part",.fn 12 1)::("part_numbered",.fn 13 2)::("with_part",.fn 14 3)::("checked_many",.fn 15 1)::("fallen_parts",.fn 16 4)::("parts_after",.fn 17 5)::("whole_handed",.fn 18 4)::("piece_handed",.fn 19 5)::("hand_part",.fn 20 6)::("sever_part",.fn 21 4)::("Standing",.ctor 22 5)::("Register",.ctor 23 2)::("last",.mth 24 1)::("next_number",.mth 25 1)::("check_people",.mth 26 2)::("check_granted",.mth 27 1)::("keep",.mth 28 5)::("grant",.mth 29 2)::("sever",.mth 30 3)::("hand",.mth 31 5)::("follow",.mth 32 3)::("die",.mth 33 2)::("back",.mth 34 1)::("parts",.mth 35 1)::("deeds",.mth 36 1)::("follower",.mth 37 2)::("_law_at",.fn 38 2)::("_law_people",.fn 39 3)::("_law_group_bad",.fn 40 1)::("_law_persons",.fn 41 1)::("_law_part_due",.fn 42 2)::("_law_more",.fn 43 2)::("_law_due",.fn 44 3)::("_law_with",.fn 45 5)::("_law_low",.fn 46 2)::("_law_severed",.fn 47 4)::("_law_handed",.fn 48 5)::("_law_heir",.fn 49 3)::("_law_fallen",.fn 50 5)::("_law_told",.fn 51 1)::("_law_apply",.fn 52 2)::("_law_call",.fn 53 2)::("_law_do",.fn 54 2)::("_law_same",.fn 55 2)::("_law_answer",.fn 56 3)::("_law_back",.fn 57 1)::("_law_holdings",.fn 58 2)::("_law_crowd",.fn 59 5)::("law",.fn 60 1)::("CROWN",.con (.str "CROWN"))::("PERSONS_MOST",.con (.int 30))::("LETTERS_MOST",.con (.int 12))::("HOLDERS_MOST",.con (.int 6))::("ONE",.con (.tup [(.int 1),(.int 1)]))::("PARTS_MOST",.con (.int 60))::("TWENTIETHS",.con (.int 20))::("DEEDS_MOST",.con (.int 200))::("BadNames",.cls 0)::("BadGroup",.cls 1)::("Unknown",.cls 2)::("Dead",.cls 3)::("NotGranted",.cls 4)::("GrantedBefore",.cls 5)::("NoPart",.cls 6)::("NotHeld",.cls 7)::("BadPiece",.cls 8)::("TooManyParts",.cls 9)::("TooManyDeeds",.cls 10)::("NothingDone",.cls 11)::("JointholdError",.bas)::[]
theorem made:Qjv ds gl=true:=by decide +kernel
noncomputable def b0:List S:=Qcz
noncomputable def b1:List S:=QcD
noncomputable def b2:List S:=Qf4 0 0 1
noncomputable def b3:List S:=Ql1 1 1
noncomputable def b4:List S:=Qci
noncomputable def b5:List S:=QlC 2
noncomputable def b6:List S:=QjZ 3 5
noncomputable def b7:List S:=QdY
noncomputable def b8:List S:=Qmb
noncomputable def b9:List S:=bLow 8
noncomputable def b10:List S:=QeH 9
noncomputable def b11:List S:=QaQ
noncomputable def b12:List S:=Qe6 11
noncomputable def b13:List S:=Qbd 6
noncomputable def b14:List S:=Qj5
noncomputable def b15:List S:=Qi4 9
noncomputable def b16:List S:=Qdi 10 11
noncomputable def b17:List S:=hDie 4 7 11 16 [.ret (.call 15 [V5])]
noncomputable def b18:List S:=QkA 14 11
noncomputable def b19:List S:=Ql8 10 11 14
noncomputable def b20:List S:=QnY 13 18 19 15 7 8
noncomputable def b21:List S:=Qkd 13 4 11 10 15 14 7
noncomputable def b22:List (Bool×E):=[(false,V1),(false,V2),(false,V3),(false,V4)]
noncomputable def b23:List (Bool×E):=[(false,(.call 2 [V1])),(true,(.lst [(.call 2022 [(.con .non),(.lst []),.dic0,(.lst [])])]))]
noncomputable def b24:List S:=Qhm
noncomputable def b25:List S:=Qmk
noncomputable def b26:List S:=QhH 6 24
noncomputable def b27:List S:=Qiy 24 4
noncomputable def b28:List S:=Qjx 10 25 22
noncomputable def b29:List S:=Qli 5 3 26 24 28 12
noncomputable def b30:List S:=Qoe 26 27 24 21 25 28
noncomputable def b31:List S:=bHand 3 26 27 24 20 25 28
noncomputable def b32:List S:=QjC 26 27 24 28
noncomputable def b33:List S:=bDieR 3 26 27 24 17 25 28
noncomputable def b34:List S:=QlT 11 24
noncomputable def b35:List S:=Qoy 24
noncomputable def b36:List S:=bDeeds
noncomputable def b38:List S:=bAt
noncomputable def b39:List S:=Qfu
noncomputable def b40:List S:=QdP
noncomputable def b41:List S:=Qfd
noncomputable def b42:List S:=Qf5
noncomputable def b43:List S:=QpV
noncomputable def b44:List S:=bDue 40 41 42 43
noncomputable def b45:List S:=QaQ
noncomputable def b46:List S:=QfG
noncomputable def b47:List S:=Qfk 46 45
noncomputable def b48:List S:=Qhf 46 45
noncomputable def b49:List S:=QdU
noncomputable def b50:List S:=Qle 45 46 49
noncomputable def b51:List S:=Qnz
noncomputable def b52:List S:=Qor 51 45 47 48 50
noncomputable def b53:List S:=Qmu 30 32 29 31 33
noncomputable def b54:List S:=bDo 53 [0,1,2,3,4,5,6,7,8,9,10,11]
noncomputable def b55:List S:=QoG 55
noncomputable def b56:List S:=[.ret (.call 55 [V0,(.ite (.cmp .Eq V1 (.con (.str ""))) V2 (.tup [V1]))])]
noncomputable def b57 : List S := [.asg 1 (.con (.str "")),
 .tryR (.mth 34 V0 []) [(11,.asg 1 (.str "NothingDone"))],
 .ret (.tup [V1])]
noncomputable def b58 : List S := [.asg 2 (.mth 35 V0 []),
 .if_ (.or_ (.not_ (.isi V2 [.list])) (.cmp .NotEq (.blt .len [V2]) (.blt .len [V1]))) [.ret (.con (.bl false))] [],
 .for_ [3] (.rng [(.blt .len [V1])]) [.if_ (.or_ (.not_ (.isi (.ix V2 V3) [.tuple])) (.cmp .NotEq (.blt .len [(.ix V2 V3)]) (.con (.int 3)))) [.ret (.con (.bl false))] [],
 .if_ (.or_ (.not_ (.call 55 [(.ix (.ix V2 V3) (.con (.int 0))),(.ix (.ix V1 V3) (.con (.int 0)))])) (.not_ (.call 55 [(.ix (.ix V2 V3) (.con (.int 1))),(.ix (.ix V1 V3) (.con (.int 1)))]))) [.ret (.con (.bl false))] []],
 .ret (.con (.bl true))]
noncomputable def b59 : List S := [.asg 9 (.compS [11] 1 V2 [(.cmp .NotIn V11 V3)] V11),
 .if_ (.cmp .Eq V9 (.lst [])) [.asg 9 (.blt .list [V2])] [],
 .asg 5 (.bin .Mod (.bin .FloorDiv V0 (.con (.int 8))) (.blt .len [V4])),
 .asg 10 (.bin .Add (.bin .FloorDiv V0 (.con (.int 8))) V1),
 .asg 6 (.compR [7] 0 [(.blt .min [(.con (.int 3)),(.blt .len [V9])])] [] (.ix V9 (.bin .Mod (.bin .Add V10 V7) (.blt .len [V9])))),
 .if_ (.cmp .Lt (.bin .Mod V0 (.con (.int 8))) (.con (.int 2))) [.ret (.lst [(.con (.str "hand")),(.ix (.ix (.ix V4 V5) (.con (.int 1))) (.con (.int 0))),(.bin .Add V5 (.con (.int 1))),(.ix (.lst [I19,I20]) (.bin .Mod V0 (.con (.int 8)))),V6])] [],
 .for_ [7] (.rng [(.blt .len [V4])]) [.if_ (.cmp .Gt (.blt .len [(.ix (.ix V4 (.bin .Mod (.bin .Add V5 V7) (.blt .len [V4]))) (.con (.int 1)))]) (.con (.int 1))) [.asg 8 (.bin .Mod (.bin .Add V5 V7) (.blt .len [V4])),
 .if_ (.cmp .Lt (.bin .Mod V0 (.con (.int 8))) (.con (.int 4))) [.ret (.lst [(.con (.str "sever")),(.ix (.ix (.ix V4 V8) (.con (.int 1))) (.con (.int 0))),(.bin .Add V8 (.con (.int 1)))])] [],
 .if_ (.cmp .Eq (.bin .Mod V0 (.con (.int 8))) (.con (.int 4))) [.ret (.lst [(.con (.str "die")),(.blt .list [(.ix (.ix V4 V8) (.con (.int 1)))])])] []] []],
 .if_ (.cmp .Eq (.bin .Mod V0 (.con (.int 8))) (.con (.int 5))) [.ret (.lst [(.con (.str "die")),(.sl V9 none (some (.con (.int 1))))])] [],
 .ret (.lst [(.con (.str "die")), (.sl V9 (some (.con (.int 1))) none)])]
noncomputable def b60 : List S := [.asg 10 (.call 39 [(.bin .Add (.con (.int 7)) (.bin .Mod (.call 38 [V0, (.con (.int 0))]) (.con (.int 4)))), (.bin .Mod (.call 38 [V0, (.con (.int 1))]) (.con (.int 363))), (.bin .Mod (.call 38 [V0, (.con (.int 2))]) (.con (.int 676)))]),
 .asg 1 (.call 2023 [(.blt .list [V10])]),
 .fresh 2 (.lst [(.lst [(.con (.str "grant")),(.lst [(.ix V10 (.con (.int 0)))])])]),
 .for_ [9] (.rng [(.bin .Add (.con (.int 50)) (.bin .Mod (.call 38 [V0,(.con (.int 3))]) (.con (.int 10))))]) [.asg 3 (.bin .Add (.con (.int 1)) (.bin .Mod (.bin .Mult (.bin .Add (.call 38 [V0,(.con (.int 4))]) V9) (.bin .Mod (.call 38 [V0,(.con (.int 5))]) (.con (.int 6)))) (.con (.int 6)))),
 .asg 4 (.compR [11] 1 [V3] [] (.ix V10 (.bin .Mod (.bin .Add (.bin .Add (.call 38 [V0,(.con (.int 6))]) V9) V11) (.blt .len [V10])))),
 .asg 5 (.lst [(.bin .Add (.con (.int 1)) (.bin .Mod (.bin .Add (.call 38 [V0,(.con (.int 7))]) V9) I19)),(.ix (.lst [(.con (.int 1)),(.con (.int 3)),(.con (.int 7)),(.con (.int 9)),I11,(.con (.int 13)),(.con (.int 17)),I19]) (.bin .Mod (.call 38 [V0,(.con (.int 7))]) (.con (.int 8))))]),
 .exp (.meth .append V2 [(.lst [(.con (.str "hand")),(.ix V10 (.con (.int 0))),(.con (.int 1)),(.ix V5 (.bin .Mod (.bin .FloorDiv (.call 38 [V0,(.con (.int 7))]) (.con (.int 8))) (.con (.int 2)))),V4])])],
 .for_ [9] (.rng [(.blt .len [V10])]) [.exp (.meth .append V2 [(.lst [(.con (.str "follow")),(.ix V10 V9),(.ix V10 (.bin .Mod (.bin .Add V9 (.call 38 [V0,(.con (.int 7))])) (.blt .len [V10])))])])],
 .while_ (.and_ (.cmp .Eq (.bin .Mod (.bin .FloorDiv (.call 38 [V0,(.con (.int 5))]) (.con (.int 6))) (.con (.int 3))) (.con (.int 1))) (.cmp .Lt (.blt .len [V2]) (.bin .Add (.con (.int 195)) (.bin .Mod (.call 38 [V0,(.con (.int 7))]) (.con (.int 6)))))) [.exp (.meth .append V2 [(.lst [(.con (.str "follow")),(.ix V10 (.con (.int 0))),(.ix V10 (.bin .Mod (.blt .len [V2]) (.blt .len [V10])))])])],
 .fresh 6 (.lst [(.lst [(.lst []),(.lst []),.dic0,(.lst [])])]),
 .for_ [7] (.seq V2) [.exp (.meth .append V6 [(.call 52 [(.ix V6 (.neg (.con (.int 1)))),V7])]),
 .if_ (.not_ (.call 56 [(.call 54 [V1,V7]),(.con (.str "")),(.bin .Sub (.blt .len [V6]) (.con (.int 1)))])) [.ret (.con (.bl false))] []],
 .for_ [9] (.rng [(.con (.int 8)),(.blt .min [(.blt .len [V0]),(.con (.int 16))])]) [.if_ (.cmp .Eq (.bin .Mod (.ix V0 V9) (.con (.int 8))) (.con (.int 7))) [.if_ (.not_ (.call 55 [(.call 57 [V1]),(.ix (.ix (.ix V6 (.neg (.con (.int 1)))) (.con (.int 3))) (.neg (.con (.int 1))))])) [.ret (.con (.bl false))] [],
 .asg 6 (.sl V6 none (some (.neg (.con (.int 1)))))] [.asg 7 (.call 59 [(.ix V0 V9),V9,V10,(.ix (.ix V6 (.neg (.con (.int 1)))) (.con (.int 1))),(.ix (.ix V6 (.neg (.con (.int 1)))) (.con (.int 0)))]),
 .asg 8 (.call 44 [(.ix V6 (.neg (.con (.int 1)))),V7,V10]),
 .if_ (.cmp .Eq V8 (.con (.str ""))) [.fresh 6 (.bin .Add V6 (.lst [(.call 52 [(.ix V6 (.neg (.con (.int 1)))),V7])]))] [],
 .if_ (.not_ (.call 56 [(.call 54 [V1,V7]),V8,(.bin .Sub (.blt .len [V6]) (.con (.int 1)))])) [.ret (.con (.bl false))] []],
 .if_ (.not_ (.call 58 [V1,(.ix (.ix V6 (.neg (.con (.int 1)))) (.con (.int 0)))])) [.ret (.con (.bl false))] []],
 .ret (.call 58 [V1, (.ix (.ix V6 (.neg (.con (.int 1)))) (.con (.int 0)))])]
noncomputable def tb:List Fn:=[⟨1,1,b0,none⟩,⟨1,1,b1,none⟩,⟨1,2,b2,none⟩,⟨3,3,b3,none⟩,⟨2,2,b4,none⟩,⟨2,3,b5,none⟩,⟨3,4,b6,none⟩,⟨3,5,b7,none⟩,⟨2,3,b8,none⟩,⟨2,3,b9,none⟩,⟨3,3,b10,none⟩,⟨5,5,b11,none⟩,⟨1,1,b12,none⟩,⟨2,2,b13,none⟩,⟨3,4,b14,none⟩,⟨1,1,b15,none⟩,⟨4,5,b16,none⟩,⟨5,14,b17,none⟩,⟨4,5,b18,none⟩,⟨5,11,b19,none⟩,⟨6,8,b20,none⟩,⟨4,12,b21,none⟩,⟨5,5,[],some (0,b22)⟩,⟨2,2,[],some (1,b23)⟩,⟨1,1,b24,none⟩,⟨1,1,b25,none⟩,⟨2,2,b26,none⟩,⟨1,1,b27,none⟩,⟨5,6,b28,none⟩,⟨2,4,b29,none⟩,⟨3,5,b30,none⟩,⟨5,8,b31,none⟩,⟨3,5,b32,none⟩,⟨2,5,b33,none⟩,⟨1,1,b34,none⟩,⟨1,1,b35,none⟩,⟨1,1,b36,none⟩,(d37.fn gl).getD ⟨0,0,[],none⟩,⟨2,2,b38,none⟩,⟨3,10,b39,none⟩,⟨1,3,b40,none⟩,⟨1,1,b41,none⟩,⟨2,3,b42,none⟩,⟨2,4,b43,none⟩,⟨3,9,b44,none⟩,⟨5,5,b45,none⟩,⟨2,4,b46,none⟩,⟨4,12,b47,none⟩,⟨5,11,b48,none⟩,⟨3,5,b49,none⟩,⟨5,16,b50,none⟩,⟨1,1,b51,none⟩,⟨2,11,b52,none⟩,⟨2,3,b53,none⟩,⟨2,5,b54,none⟩,⟨2,4,b55,none⟩,⟨3,3,b56,none⟩,⟨1,2,b57,none⟩,⟨2,4,b58,none⟩,⟨5,11,b59,none⟩,⟨1,11,b60,none⟩]
theorem tb_eq:tbOf ds gl=tb:=by rfl
noncomputable abbrev fW:Nat:=2^2010
theorem hfw:2^2010<=fW:=zD _
noncomputable def RX:Rx:={ gc:=8,lo:=9,pi:=10,be:=11,nu:=13,wp:=14,ck:=15,wi:=4,wh:=18,ph:=19,hp:=20,sp:=21,hr:=7,fa:=16,pa:=17,eNP:=6,eNH:=7,eBP:=8,eTP:=9,tw:=1,gp:=3,kn:=5,lv:=6,sf:=22,la:=24,nx:=25,pc:=26,gd:=27,kp:=28,fi:=12,gr:=29,sv:=30,hd:=31,fl:=32,di:=33,eBG:=1,eUn:=2,eDe:=3,eNG:=4,eGB:=5,eTD:=10 }
theorem RX_in:RX.In tb:=⟨⟨rfl,rfl,rfl,rfl,rfl,rfl,rfl,rfl,rfl,rfl,rfl,rfl⟩,⟨ZzD,rfl,rfl,rfl,rfl,rfl,rfl,rfl,rfl,rfl,rfl⟩,rfl,rfl,rfl,rfl,rfl,rfl⟩
theorem RX_dh:RX.toIx.Dh tb:=⟨rfl,rfl,rfl⟩
theorem RX_sd:RX.Std:=⟨rfl⟩
noncomputable def AX:Ax:={ to:=51,be:=45,lo:=46,sv:=47,hn:=48,he:=49,fa:=50,ap:=52 }
theorem AX_in:AX.In tb:=⟨rfl,rfl,rfl,rfl,rfl,rfl,rfl,rfl⟩
section
variable {m how shift:Nat}{q:Sd}{h:Qaa}{C:List Sd}{G:List Str}{Ss dn:List W}
noncomputable abbrev PP(m how shift:Nat):List Str:=ppl m how shift
noncomputable abbrev KK(m how shift:Nat):List Str:=srt (ppl m how shift)
theorem kP:∀y∈KK m how shift,y∈PP m how shift:=λy hy=>srt_mem.mp hy
theorem nP:∀y∈PP m how shift,QaI y:=ppl_nm
theorem kS(s:Str):Qa5 s (KK m how shift)=Qa5 s (PP m how shift):=QcS s _
noncomputable abbrev CH(m how shift:Nat):=Ch RX (KK m how shift)
theorem alls:∀c∈tenL,[0,1,2,3,4,5,6,7,8,9,10,11].contains c=true:=ZzD
theorem same(d:Nat)(w:W)(h:Qaa)(hd:dep w<d)(ho:okQ w=true):Qab fW tb d 55 [w,w] h=.ok (.bl true) h:=Qip rfl d w h hd ho
theorem Qlq(d k:Nat):Qab fW tb (d+2) 56 [nat k,.str "",nat k] h=.ok (.bl true) h:=by rw[Qac  rfl rfl];have s:=same (d+1) (nat k) h (Nat.zero_lt_succ _) rfl;exact Qcr  (Qar (Qa7 (Qby (Qag  rfl) (Qju (QaX (QnV (x:="")  (Qag  rfl) Qao)) (Qag  rfl)) s))) Qav
theorem Qo7(d k:Nat){w:Str}(hw:w≠""):Qab fW tb (d+3) 56 [.tup [.str w],.str w,nat k] h=.ok (.bl true) h:=by have s:=same (d+2) (.tup [.str w]) h (by show 1<d+2;lia) rfl;exact Qcr  (Qar (Qa7 (Qby (U0 rfl) (QkG (QaX ((QnV (U1 rfl) Qao).trans (by grind))) (Qen (Qae (U1 rfl) Qan) ZzS)) s))) Qav
theorem backR(d:Nat)(r:Rec (PP m how shift) C q G Ss dn)(hC:0<C.length){ws:List W}(hn:h[0]?=some (.lst (ws++[q.W]))):Qab fW tb (d+3) 57 [reg (KK m how shift) 0] h=.ok q.dw (h.set 0 (.lst ws)):=by have c:=QmR (fw:=fW) (tb:=tb) (f:=34) (c:=11) (la:=24) rfl rfl d (KK m how shift) 0 ws q.dw [.lst (q.xs.map ptW),.dic q.ks (q.vs.map W.str),.lst (q.G.map W.str)] h hn (by have:=Sd.pw r.ok;rw[Qah]at this;exact this);rw[r.hg,zV ZzL,zM ZzD]at c;refine Qcr  ((Qad (QaU Qao)).trans (Qar (try_ok (Qij (U0 rfl) Qan c)))) ?_;unfold J.fin;dsimp only;rw[QaT _ r.ok.d2];dsimp only;rw[Qd7]
noncomputable abbrev tHo : List S := [.if_ (.or_ (.not_ (.isi (.ix V2 V3) [.tuple])) (.cmp .NotEq (.blt .len [(.ix V2 V3)]) (.con (.int 3)))) [.ret (.con (.bl false))] [],
 .if_ (.or_ (.not_ (.call 55 [(.ix (.ix V2 V3) (.con (.int 0))), (.ix (.ix V1 V3) (.con (.int 0)))])) (.not_ (.call 55 [(.ix (.ix V2 V3) (.con (.int 1))), (.ix (.ix V1 V3) (.con (.int 1)))]))) [.ret (.con (.bl false))] []]
theorem Qm6(d:Nat){P:List Str}{n:Nat}(ok:q.Ok P n){ws:List W}(hn:h[0]?=some (.lst (ws++[q.W]))):Qab fW tb (d+4) 58 [reg (KK m how shift) 0,.lst (q.xs.map ptW)] h=.ok (.bl true) h:=by
 rw[Qac (g:=⟨2,4,b58,none⟩) rfl rfl]
 have c:=Qj0 (fw:=fW) (tb:=tb) (f:=35) (la:=24) rfl rfl (d+1) (KK m how shift) 0 ws q.dw (q.xs.map ptW) [.dic q.ks (q.vs.map W.str),.lst (q.G.map W.str)] h hn (by have:=Sd.pw ok;rw[Qah]at this;exact this)
 obtain⟨r,lp⟩:=Qg9 (i:=3) (body:=exB (Qab fW tb (d+3)) fW tHo) (σ:=[some (reg (KK m how shift) 0),some (.lst (q.xs.map ptW)),some (.lst (q.xs.map ptW)),none]) (h:=h) ((List.range q.xs.length).map λ(k:Nat)=>W.int (0+(k:Int))) none λw hw=>by
  obtain⟨k,hk,rfl⟩:=Zx.mp hw
  have hk:=ZF.mp hk
  have X:=ok.x1 q.xs[k] (ZM hk)
  rw[Int.zero_add]
  simp! [show ixW (.lst (q.xs.map ptW)) (.int k) h=_ from Qda rfl (QnW hk),show [Ty.tuple].mapM (QaM h (ptW q.xs[k]))=some [true] from rfl,show [true].any id=true from rfl,show QbK .len [ptW q.xs[k]] h=.ok (.int 3) h from rfl,same (d+3) (sh q.xs[k].p q.xs[k].q) h (by show 1<_;lia) rfl,same (d+3) (.tup (q.xs[k].hs.map W.str)) h (by rw[dep,Qco];lia) (by rw[okQ,Qcd,zo,zX (zf X.h1 ZzD)];rfl)]
 simp_arith at lp
 simp! [b58,c,show [Ty.list].mapM (QaM h (.lst (q.xs.map ptW)))=some [true] from rfl,show [true].any id=true from rfl,rg_n (zQ ok.x2 ZzD),lp]
end
theorem Qh5(D:Dd):Qah D.L=true:=Qd9 D (Qak _)
theorem l2{cf:CF}{σ:Qai}{h:Qaa}{a b:E}{x y:W}(ea:evE cf a σ h=.ok x h)(eb:evE cf b σ h=.ok y h):evE cf (.lst [a,b]) σ h=.ok (.lst [x,y]) h:=Qbv (Qcn ea eb) ZzS
theorem l3{cf:CF}{σ:Qai}{h:Qaa}{a b c:E}{x y z:W}(ea:evE cf a σ h=.ok x h)(eb:evE cf b σ h=.ok y h)(ec:evE cf c σ h=.ok z h):evE cf (.lst [a,b,c]) σ h=.ok (.lst [x,y,z]) h:=Qbv (Qae ea (Qcn eb ec)) ZzS
theorem pick2{r:Nat}(h:r<2):∃t:Int,t.natAbs<10^100/\∀hh,ixW (.lst [W.int 19,W.int 20]) (nat r) hh=.ok (.int t) hh:=by
 match r,h with
 |0,_=>exact⟨19,ZzS,λhh=>Qph rfl⟩
 |1,_=>exact⟨20,ZzS,λhh=>Qph rfl⟩
noncomputable abbrev tCr : List S := [.if_ (.cmp .Gt (.blt .len [(.ix (.ix V4 (.bin .Mod (.bin .Add V5 V7) (.blt .len [V4]))) (.con (.int 1)))]) (.con (.int 1))) [.asg 8 (.bin .Mod (.bin .Add V5 V7) (.blt .len [V4])),
 .if_ (.cmp .Lt (.bin .Mod V0 (.con (.int 8))) (.con (.int 4))) [.ret (.lst [(.con (.str "sever")),(.ix (.ix (.ix V4 V8) (.con (.int 1))) (.con (.int 0))),(.bin .Add V8 (.con (.int 1)))])] [],
 .if_ (.cmp .Eq (.bin .Mod V0 (.con (.int 8))) (.con (.int 4))) [.ret (.lst [(.con (.str "die")), (.blt .list [(.ix (.ix V4 V8) (.con (.int 1)))])])] []] []]
theorem fo_ex{i:Nat}{body:Qai->Qaa->Res Fl}{h:Qaa}{Q:W->Prop}{Iv:Qai->Prop}(st:∀(k:Nat) σ,Iv σ->(∃w,Q w/\body (σ.set i (some (.int k))) h=.ok (.ret w) h)\/∃σ2,body (σ.set i (some (.int k))) h=.ok (.nx σ2) h/\Iv σ2):∀(ks:List Nat) (σ:Qai),Iv σ ->
  (∃w,Q w/\fo [i] body (ks.map λ(k:Nat)=>W.int (0+(k:Int))) σ h=.ok (.ret w) h)\/∃σ2,fo [i] body (ks.map λ(k:Nat)=>W.int (0+(k:Int))) σ h=.ok (.nx σ2) h/\Iv σ2
 |[],σ,q=>.inr ⟨σ,by rw[Zy,fo],q⟩
 |k::ks,σ,q=>by rw[zO,Int.zero_add];rcases st k σ q with⟨w,q,e⟩|⟨σ2,e,q⟩;exact .inl ⟨w,q,Qly rfl e⟩;rcases fo_ex st ks σ2 q with⟨w,q,z⟩|⟨σ3,z,q⟩;exact .inl ⟨w,q,(Qb0 rfl e).trans z⟩;exact .inr ⟨σ3,(Qb0 rfl e).trans z,q⟩
noncomputable abbrev cS(z:Int)(k:Nat)(P G:List Str)(xs:List Pt)(a b c e f g:Option W):Qai:=[some (.int z),some (nat k),some (.lst (P.map W.str)),some (.lst (G.map W.str)),some (.lst (xs.map ptW)),a,b,c,e,f,g]
theorem crowd(d:Nat){P G:List Str}{xs:List Pt}{n:Nat}(z:Int)(k:Nat)(p0:0<P.length)(p30:P.length<=30)(nP:∀y∈P,QaI y)(hxs:∀x∈xs,x.R n)(x0:0<xs.length)(x60:xs.length<=60) :
  ∃D:Dd,D.Fit/\D.isG=false/\Qab fW tb (d+1) 59 [.int z,nat k,.lst (P.map W.str),.lst (G.map W.str),.lst (xs.map ptW)] h=.ok D.L h:=by
 obtain⟨i,ei,hi⟩:=Qbj (z.fdiv 8) x0
 obtain⟨r,er,hr⟩:∃r:Nat,z.fmod 8=r/\r<8:=Qbj z ZzD
 rw[Qac (g:=⟨5,11,b59,none⟩) rfl rfl]
 generalize Qab fW tb d=cf
 let Q (w:W):Prop:=∃D:Dd,D.Fit/\D.isG=false/\w=D.L
 have M {hh}:opW .Mod (.int z) (.int 8) hh=.ok (.int r) hh:=(Qcs hh ZzD).trans (by rw[er])
 have I {hh}:opW .FloorDiv (.int z) (.int 8) hh=.ok (.int (z.fdiv 8)) hh:=Qit hh ZzD ZzD
 have at_ {j:Nat} (hj:j<xs.length):∃s,QaI s/\∀hh,ixW (.lst (xs.map ptW)) (.int j) hh=.ok (ptW xs[j]) hh/\ixW (.tup (xs[j].hs.map W.str)) (.int 0) hh=.ok (.str s) hh:=by have X:=hxs _ (ZM hj);exact⟨_,X.nm _ (ZM X.h0),λhh=>⟨Qda rfl (QnW hj),QmI (k:=0) X.h0 hh⟩⟩
 have big {j:Nat} (hj:j<xs.length):(((j+1:Nat):Int)).natAbs<10^100:=zj (show(((j+1:Nat):Int)).natAbs<100 by lia) ZzD
 have main {A:List Str} (a0:0<A.length) (a30:A.length<=30) (nA:∀y∈A,QaI y):∃D:Dd,D.Fit/\D.isG=false/\exB cf fW (b59.drop 2) (cS z k P G xs none none none none (some (.lst (A.map W.str))) none) h=.ok (.ret D.L) h:=by
  suffices hh:∃w,Q w/\exB cf fW (b59.drop 2) (cS z k P G xs none none none none (some (.lst (A.map W.str))) none) h=.ok (.ret w) h by obtain⟨w,⟨D,f,g,rfl⟩,e⟩:=hh;exact⟨D,f,g,e⟩
  have F (j:Nat):∃s,s∈A/\∃i:Nat,(z.fdiv 8+(k:Int)+(j:Int)).fmod (A.length:Int)=(i:Int)/\(A.map W.str)[i]?=some (.str s):=by obtain⟨i,ei,hi⟩:=Qbj (z.fdiv 8+(k:Int)+(j:Int)) a0;exact⟨A[i],ZM hi,i,ei,by rw[zT,zJ hi];rfl⟩
  let SS:List Str:=(List.range (min 3 A.length)).map λj=>(F j).choose;have nS:∀s∈SS,QaI s:=λs hs=>by obtain⟨j,_,rfl⟩:=Zx.mp hs;exact nA _ (F j).choose_spec.1
  have lS:SS.length<=3:=by show((List.range (min 3 A.length)).map _).length<=3;rw[zo,ZX];lia
  have ss:evE cf (.compR [7] 0 [(.blt .min [(.con (.int 3)),(.blt .len [V9])])] [] (.ix V9 (.bin .Mod (.bin .Add V10 V7) (.blt .len [V9])))) (cS z k P G xs (some (.int i)) none none none (some (.lst (A.map W.str))) (some (.int (z.fdiv 8+k)))) h=.ok (.lst (SS.map W.str)) h:=by have len {τ:Qai}{hh} (e:τ[9]?=some (some (.lst (A.map W.str)))):evE cf (.blt .len [V9]) τ hh=.ok (nat A.length) hh:=(QcL (Qag e) rfl).trans (by rw[zo]);refine(Qh8 (m:=min 3 A.length) (F:=λj=>.str (F j).choose) (Qjh (m:=3) Qaw (len rfl)) ZzL (λj hj=>⟨rfl,λhh=>?_⟩)).trans (by rw[zzm];rfl);obtain⟨_,i2,e2,e3⟩:=(F j).choose_spec;exact Qfs rfl (Qbr (U9 rfl) (QbZ (Qf0 (Qag (i:=10) rfl) (U7 rfl)) (len rfl) a0 e2) (Qda rfl e3))
  generalize SS=SS at *;have JJ:opW .Mod (.int (z.fdiv 8)) (.int xs.length) h=.ok (.int i) h:=(Qcs h ZzL).trans (by rw[ei]);have lp:=fo_ex (i:=7) (body:=exB cf fW tCr) (h:=h) (Q:=Q) (Iv:=λτ=>∃c e,τ=cS z k P G xs (some (.int i)) (some (.lst (SS.map W.str))) c e (some (.lst (A.map W.str))) (some (.int (z.fdiv 8+k)))) (λj0 τ hτ=>by
   obtain⟨c,e,rfl⟩:=hτ
   have hj:(i+j0)%xs.length<xs.length:=ZU _ x0
   have K:opW .Mod (.int ((i+j0:Nat):Int)) (.int xs.length) h=.ok (.int ((i+j0)%xs.length:Nat)) h:=(Qcs h ZzL).trans (by rw[Qd5])
   generalize (i+j0)%xs.length=j at *
   obtain⟨s,ns,a⟩:=at_ hj
   have X:=hxs _ (ZM hj)
   by_cases b:1<xs[j].hs.length
   ·by_cases b4:r<4
    ·exact .inl ⟨_,⟨.sever s ((j+1:Nat):Int),⟨ns,big hj⟩,rfl,rfl⟩,by simp! [K,M,a,b,b4];rfl⟩
    ·by_cases b5:r=4
     ·exact .inl ⟨_,⟨.die xs[j].hs,⟨zQ X.h1 ZzD,X.nm⟩,rfl,rfl⟩,by simp! [K,M,a,b,b4,b5];rfl⟩
     ·exact .inr ⟨_,by simp! [K,M,a,b,b4,b5];rfl,_,_,rfl⟩
   ·exact .inr ⟨_,by simp! [K,M,a,b];rfl,_,_,rfl⟩) (List.range xs.length) _ ⟨none,none,rfl⟩
  by_cases b6:r<2;obtain⟨t,ht,pk⟩:=pick2 b6;obtain⟨s,ns,a⟩:=at_ hi;exact⟨_,⟨.hand s ((i+1:Nat):Int) t SS,⟨ns,big hi,ht,ZzL,nS⟩,rfl,rfl⟩,by simp! [b59,zzT,zzu,I,JJ,M,ss,a,pk,b6];rfl⟩;rcases lp with⟨w,q,lp⟩|⟨τ,lp,c,e,rfl⟩;exact⟨w,q,by simp! [b59,zzT,zzu,I,JJ,M,ss,b6,rg_n (show xs.length<2^62 by lia),lp]⟩;have T1:slW (.lst (A.map W.str)) none (some 1) h=.ok (.lst ((A.take 1).map W.str)) h:=by show Res.ok (W.lst (Qi6 (A.map W.str) none (some ((1:Nat):Int)))) h=_;unfold Qi6;rw[HT.sIx_none,HT.sIx_nat,zo,Nat.min_eq_left a0];simp
  have T2:slW (.lst (A.map W.str)) (some 1) none h=.ok (.lst ((A.drop 1).map W.str)) h:=by show Res.ok (W.lst (Qi6 (A.map W.str) (some ((1:Nat):Int)) none)) h=_;unfold Qi6;rw[HT.sIx_none,HT.sIx_nat,zo,Nat.min_eq_left a0];simp[Z3]
  by_cases b8:r=5;exact⟨_,⟨.die (A.take 1),⟨by rw[Zk];lia,λs hs=>nA s (List.mem_of_mem_take hs)⟩,rfl,rfl⟩,by simp! [b59,zzT,zzu,I,JJ,M,ss,b6,rg_n (show xs.length<2^62 by lia),lp,b8,T1,show ¬ 5<2 by decide];rfl⟩;exact⟨_,⟨.die (A.drop 1),⟨by rw[List.length_drop];lia,λs hs=>nA s (List.mem_of_mem_drop hs)⟩,rfl,rfl⟩,by simp! [b59,zzT,zzu,I,JJ,M,ss,b6,rg_n (show xs.length<2^62 by lia),lp,b8,T2];rfl⟩
 have wrap {A:List Str} (a0:0<A.length) (a30:A.length<=30) (nA:∀y∈A,QaI y) (s2:exB cf fW b59 (cS z k P G xs none none none none none none) h=exB cf fW (b59.drop 2) (cS z k P G xs none none none none (some (.lst (A.map W.str))) none) h):∃D:Dd,D.Fit/\D.isG=false/\J.fin h.length (exB cf fW b59 (cS z k P G xs none none none none none none) h)=.ok D.L h:=by obtain⟨D,f,g,e⟩:=main a0 a30 nA;exact⟨D,f,g,Qcr (s2.trans e) (Qg4 (Qh5 D))⟩
 have s1:exS cf fW (.asg 9 (.compS [11] 1 V2 [(.cmp .NotIn V11 V3)] V11)) (cS z k P G xs none none none none none none) h=.ok (.nx (cS z k P G xs none none none none (some (.lst ((P.filter λs=>!Qa5 s G).map W.str))) none)) h :=
  QaU (Qcb (p:=λs=>!Qa5 s G) (ss:=P) (U2 rfl) rfl ZzL (λs _ hh=>Qdr (Qag (i:=11) rfl) (U3 rfl) rfl rfl) (by show 11<12;decide))
 have t2:=ev_eqL (cf:=cf) (us:=[]) (σ:=cS z k P G xs none none none none (some (.lst ((P.filter λs=>!Qa5 s G).map W.str))) none) (h:=h) (U9 rfl) (Qbv Qan ZzD) (λs hs=>nP s (zzd.mp hs).1) (λs hs=>nomatch hs)
 by_cases e:P.filter (λs=>!Qa5 s G)=[]
 ·rw[zX e]at t2
  exact wrap p0 p30 nP ((Qad s1).trans (Qad ((QjO t2).trans (ex_one (QgY (U2 rfl))))))
 ·rw[zV e]at t2
  exact wrap (List.length_pos_iff.mpr e) (zf (List.length_filter_le ..) p30) (λy hy=>nP y (zzd.mp hy).1) ((Qad s1).trans (Qad (Qd1 t2)))
noncomputable abbrev tTurn : List S := [.if_ (.cmp .Eq (.bin .Mod (.ix V0 V9) (.con (.int 8))) (.con (.int 7))) [.if_ (.not_ (.call 55 [(.call 57 [V1]), (.ix (.ix (.ix V6 (.neg (.con (.int 1)))) (.con (.int 3))) (.neg (.con (.int 1))))])) [.ret (.con (.bl false))] [],
 .asg 6 (.sl V6 none (some (.neg (.con (.int 1)))))] [.asg 7 (.call 59 [(.ix V0 V9),V9,V10,(.ix (.ix V6 (.neg (.con (.int 1)))) (.con (.int 1))),(.ix (.ix V6 (.neg (.con (.int 1)))) (.con (.int 0)))]),
 .asg 8 (.call 44 [(.ix V6 (.neg (.con (.int 1)))),V7,V10]),
 .if_ (.cmp .Eq V8 (.con (.str ""))) [.fresh 6 (.bin .Add V6 (.lst [(.call 52 [(.ix V6 (.neg (.con (.int 1)))),V7])]))] [],
 .if_ (.not_ (.call 56 [(.call 54 [V1,V7]),V8,(.bin .Sub (.blt .len [V6]) (.con (.int 1)))])) [.ret (.con (.bl false))] []],
 .if_ (.not_ (.call 58 [V1, (.ix (.ix V6 (.neg (.con (.int 1)))) (.con (.int 0)))])) [.ret (.con (.bl false))] []]
noncomputable abbrev tRow : List S := [.exp (.meth .append V6 [(.call 52 [(.ix V6 (.neg (.con (.int 1)))), V7])]),
 .if_ (.not_ (.call 56 [(.call 54 [V1, V7]), (.con (.str "")), (.bin .Sub (.blt .len [V6]) (.con (.int 1)))])) [.ret (.con (.bl false))] []]
noncomputable abbrev tHand : List S := [.asg 3 (.bin .Add (.con (.int 1)) (.bin .Mod (.bin .Mult (.bin .Add (.call 38 [V0, (.con (.int 4))]) V9) (.bin .Mod (.call 38 [V0, (.con (.int 5))]) (.con (.int 6)))) (.con (.int 6)))),
 .asg 4 (.compR [11] 1 [V3] [] (.ix V10 (.bin .Mod (.bin .Add (.bin .Add (.call 38 [V0,(.con (.int 6))]) V9) V11) (.blt .len [V10])))),
 .asg 5 (.lst [(.bin .Add (.con (.int 1)) (.bin .Mod (.bin .Add (.call 38 [V0,(.con (.int 7))]) V9) I19)),(.ix (.lst [(.con (.int 1)),(.con (.int 3)),(.con (.int 7)),(.con (.int 9)),I11,(.con (.int 13)),(.con (.int 17)),I19]) (.bin .Mod (.call 38 [V0,(.con (.int 7))]) (.con (.int 8))))]),
 .exp (.meth .append V2 [(.lst [(.con (.str "hand")), (.ix V10 (.con (.int 0))), (.con (.int 1)), (.ix V5 (.bin .Mod (.bin .FloorDiv (.call 38 [V0, (.con (.int 7))]) (.con (.int 8))) (.con (.int 2)))), V4])])]
noncomputable abbrev tFol:List S:=[.exp (.meth .append V2 [(.lst [(.con (.str "follow")),(.ix V10 V9),(.ix V10 (.bin .Mod (.bin .Add V9 (.call 38 [V0,(.con (.int 7))])) (.blt .len [V10])))])])]
noncomputable def Sts(h:Qaa)(w:W)(us:List W):Prop:=w=.lst us\/∃n,n≠0/\w=.ref n/\h[n]?=some (.lst us)
section
variable {h:Qaa}{w x:W}{us:List W}
theorem Sts.seqA(s:Sts h w us):J.seqA h w=some us:=by rcases s with rfl|⟨n,_,rfl,e⟩;rfl;exact QcN e
theorem Sts.seqL(s:Sts h w us):J.seqL h w=some us:=by rcases s with rfl|⟨n,_,rfl,e⟩;rfl;unfold J.seqL;simp_all
theorem Sts.seqM(s:Sts h w us):J.seqM h w=some us:=by rcases s with rfl|⟨n,_,rfl,e⟩;rfl;unfold J.seqM;simp_all
theorem Sts.set(s:Sts h w us)(o:Ob):Sts (h.set 0 o) w us:=by rcases s with rfl|⟨n,z,rfl,e⟩;exact .inl rfl;exact .inr ⟨n,z,rfl,by rw[zY (zzi z)];lia⟩
theorem Sts.ix(s:Sts h w (us++[x])):ixW w (.int (-1)) h=.ok x h:=by rcases s with rfl|⟨n,_,rfl,e⟩;exact Qph (Qcf);show(match J.seqA h (.ref n) with|some ws=>(match L2.atI ws (-1) with|some w=>Res.ok w h|none=>.stuck)|none=>.stuck)=_;rw[QcN e];dsimp only;rw[Qcf]
variable {cf:CF}{σ:Qai}{i:Nat}
theorem Sts.last(s:Sts h w (us++[x]))(e:σ[i]?=some (some w)):evE cf (.ix (.var i) (.neg (.con (.int 1)))) σ h=.ok x h:=Qbr (Qag e) Qqi s.ix
theorem Sts.cut(s:Sts h w (us++[x])):slW w none (some (-1)) h=.ok (.lst us) h:=by
 have c:Qi6 (us++[x]) none (some (-((1:Nat):Int)))=us:=by
  unfold Qi6
  rw[HT.sIx_none,zzu,Nat.sub_zero]
  have:HT.sIx (us++[x]).length (us++[x]).length (some (-((1:Nat):Int)))=us.length:=by
   show(if(-((1:Nat):Int))<0 then((-((1:Nat):Int))+(((us++[x]).length:Nat):Int)).toNat else min (-((1:Nat):Int)).toNat (us++[x]).length)=us.length
   grind
  rw[this,List.take_left]
 have q:slW w none (some (-((1:Nat):Int))) h=(match J.seqL h w with|some ws=>Res.ok (W.lst (Qi6 ws none (some (-((1:Nat):Int))))) h|none=>.stuck):=by
  rcases s with rfl|⟨n,_,rfl,_⟩<;>rfl
 refine q.trans ?_
 rw[s.seqL]
 dsimp only
 rw[c]
end
section
variable {m how shift:Nat}{q q':Sd}{h:Qaa}{C:List Sd}{G:List Str}{Ss dn:List W}
noncomputable abbrev RG(m how shift:Nat):W:=reg (KK m how shift) 0
noncomputable abbrev stL(q:Sd)(G:List Str)(dn:List W):W:=stW q.xs G q.ks q.vs dn
theorem dueS_G{P G G':List Str}{xs:List Pt}{nd:Nat}{D:Dd}(hG:∀s,Qa5 s G=Qa5 s G'):Qla P G xs nd D=Qla P G' xs nd D:=by unfold Qla;simp_all
theorem doD(d:Nat)(r:Rec (PP m how shift) C q G Ss dn)(m30:m<=30){D:Dd}(fit:D.Fit)(hn:h[0]?=some (.lst (C.map Sd.W++[q.W]))):Qab fW tb (d+9) 54 [RG m how shift,D.L] h=doW 0 (C.map Sd.W) q h (Qb7 RX (KK m how shift) q C.length D):=by have:=doR  (tb:=tb) (f:=54) (cl:=53) (R:=RX)  RX_in RX_dh rfl hfw d rfl alls rfl D r.ok hn (zf r.c2 ZzD) (by rw[zo];exact zf r.c2 ZzD) (by rw[QbG];exact m30) nP kP (t:=D.L)  (.inl rfl) (.inl rfl) fit;simp_all
theorem duD(d:Nat)(r:Rec (PP m how shift) C q G Ss dn){D:Dd}(fit:D.Fit):Qab fW tb (d+2) 44 [stL q G dn,D.L,.lst ((PP m how shift).map W.str)] h=.ok (.str ((Qb7 RX (KK m how shift) q C.length D).word)) h:=by have:=dueR (fw:=fW) (tb:=tb) (f:=44)  (pe:=41) (pd:=42) (mo:=43) (h:=h) rfl rfl rfl rfl rfl d D (t:=D.L)  (P:=PP m how shift) (G:=G) (ks:=q.ks) (vs:=q.vs)   (.inl rfl) (.inl rfl) fit.len r.ok.x1 fit (by rw[r.cl];exact zf r.c2 ZzD);rw[this,dueS_G r.hG,r.cl,QmP RX_sd D kS r.hg r.ok.x2]
theorem apD(d:Nat)(r:Rec (PP m how shift) C q G Ss dn)(m30:m<=30){D:Dd}(fit:D.Fit)(e:Qb7 RX (KK m how shift) q C.length D=.ok q'):Qab fW tb (d+3) 52 [stL q G dn,D.L] h=.ok (stL q' (D.gone G) (dn++[D.T])) h:=by have ok:=Qfa (R:=RX)  (nd:=C.length) (D:=D) r.ok nP kP fit;rw[e]at ok;exact(applyR  (tb:=tb) (A:=AX) AX_in hfw d D r.ok ok.1 (zf r.c2 ZzD) r.hG (zf (r.g5 (by rw[QbG];exact m30)) ZzD) (by rw[r.cl];exact zf r.c2 ZzD) r.pd fit (λz=>List.eq_nil_of_length_eq_zero (by rw[r.cl];rw[r.hg]at z;grind)) (by rw[r.cl];exact e)).1
end
section
variable {m how shift:Nat}{q q':Sd}{h:Qaa}{C:List Sd}{G:List Str}{Ss dn:List W}
noncomputable abbrev tau(ns:List Int)(m how shift:Nat)(r2 r3 r4 r5 r6 r7 r8 r9:Option W):Qai:=[some (.scr (ns.map W.int)),some (RG m how shift),r2,r3,r4,r5,r6,r7,r8,r9,some (.lst ((PP m how shift).map W.str))]
theorem wds_ne:∀c∈tenL,wds.getD (c-1) Str.empty≠(""):=ZzD
theorem QoN{D:Dd}{c:Nat}(r:Rec (PP m how shift) C q G Ss dn)(fit:D.Fit)(e:Qb7 RX (KK m how shift) q C.length D=.no c):c∈tenL:=by have ok:=Qfa (R:=RX)  (nd:=C.length)  r.ok nP kP fit;rw[e]at ok;exact ok
theorem QmB{o:Ob}(hn:h[0]?=some o)(o':Ob):(h.set 0 o')[0]?=some o':=zZ (ze.mp hn).1
theorem app0{o o':Ob}(hn:h[0]?=some o):(h++[o'])[0]?=some o:=by rw[zI (ze.mp hn).1];lia
theorem Qpj(ns:List Int)(k:Nat)(hk:k<ns.length)(m1:0<m)(m30:m<=30){w:W}(r2 r3 r4 r5 r7 r8:Option W)(c:CH m how shift C q G Ss dn)(hC:0<C.length)(s:Sts h w (Ss++[stL q G dn]))(hn:h[0]?=some (.lst (C.map Sd.W++[q.W]))) :
  ∃C' q' G' Ss' dn' w' h' r7' r8',CH m how shift C' q' G' Ss' dn'/\Sts h' w' (Ss'++[stL q' G' dn'])/\h'[0]?=some (.lst (C'.map Sd.W++[q'.W]))/\C.length<=C'.length+1 /\
   exB (Qab fW tb 39) fW tTurn (tau ns m how shift r2 r3 r4 r5 (some w) r7 r8 (some (nat k))) h=.ok (.nx (tau ns m how shift r2 r3 r4 r5 (some w') r7' r8' (some (nat k)))) h':=by
 have r:=c.rec' nP kP
 obtain⟨rr,er,hr⟩:∃r:Nat,ns[k].fmod 8=r/\r<8:=Qbj ns[k] ZzD
 have X {hh}:ixW (.scr (ns.map W.int)) (.int k) hh=.ok (.int ns[k]) hh:=Qda (k:=k) rfl (by rw[zT,zJ hk];rfl)
 have M {hh}:opW .Mod (.int ns[k]) (.int 8) hh=.ok (.int rr) hh:=(Qcs hh ZzD).trans (by rw[er])
 have S:=s.ix
 by_cases b7:rr=7
 ·have b:=backR 36 r hC hn
  obtain⟨C0,q0,G0,S0,dn0,rfl,rfl,rfl,c0⟩:=c.back hC
  obtain⟨H,eH⟩:∃H,H=h.set 0 (.lst ((C0++[q0]).map Sd.W)):=⟨_,rfl⟩
  rw[<- eH]at b
  have s1:Sts H w (S0++[stL q0 G0 dn0]++[stL q G (dn0++[q.dw])]):=eH▸s.set _
  have n1:H[0]?=some (.lst (C0.map Sd.W++[q0.W])):=by rw[eH,QmB hn,Zc];rfl
  have S1:=s1.ix
  refine⟨C0,q0,G0,S0,dn0,.lst (S0++[stL q0 G0 dn0]),H,r7,r8,c0,.inl rfl,n1,by rw[zA];exact zD _,?_⟩
  simp! [X,M,b7,b,S1,show ixW (.lst (dn0++[q.dw])) (.int (-1)) H=.ok q.dw H from Qph Qcf,same 39 q.dw H (zQ (r.dq hC).2 ZzD) (r.dq hC).1,s1.cut,show ixW (.lst (S0++[stL q0 G0 dn0])) (.int (-1)) H=.ok (stL q0 G0 dn0) H from Qph Qcf,Qm6 (m:=m) (how:=how) (shift:=shift) 35 (c0.rec' nP kP).ok n1]
 ·obtain⟨D,fit,_,e59⟩:=crowd (h:=h) 38 (P:=PP m how shift) (G:=G) ns[k] k (by rw[QbG];exact m1) (by rw[QbG];exact m30) nP r.ok.x1 (r.x0 hC) r.ok.x2
  have du:=duD (h:=h) 37 r fit
  have L:QbK .len [w] h=.ok (.int (Ss++[stL q G dn]).length) h:=by show Qg7 _ _=_;simp[Qg7,s.seqA,okI]
  cases e:Qb7 RX (KK m how shift) q C.length D with
  |no cc =>
   have hw:=wds_ne cc (QoN r fit e)
   refine⟨C,q,G,Ss,dn,w,h,some D.L,some (.str (Out.no cc).word),c,s,hn,ZK _,?_⟩
   simp! [X,M,b7,S,L,show Qab fW tb 39 59 [.int ns[k],.int k,.lst ((PP m how shift).map W.str),.lst (G.map W.str),.lst (q.xs.map ptW)] h=_ from e59,du,e,show ¬ (Out.no cc).word="" from hw,show Qab fW tb 39 54 [RG m how shift,D.L] h=.ok (.tup [.str (Out.no cc).word]) h from(doD 30 r m30 fit hn).trans (by rw[e];rfl),show Qab fW tb 39 56 [.tup [.str (Out.no cc).word],.str (Out.no cc).word,.int Ss.length] h=.ok (.bl true) h from Qo7 36 _ hw,Qm6 (m:=m) (how:=how) (shift:=shift) 35 r.ok hn]
  |ok q' =>
   have c':=Ch.step D c fit e
   have r':=c'.rec' nP kP
   generalize ev:stL q' (D.gone G) (dn++[D.T])=v
   have pv:Qaf (Ss++[stL q G dn]++[v])=true:=QaH r'.ps (ev▸Qfo r'.ok.x1 r'.pd)
   have sl:(Ss++[stL q G dn]++[v]).length=C.length+1+1:=by have:=r.sl;simp;lia
   obtain⟨H1,e1⟩:∃H,h++[.lst (Ss++[stL q G dn]++[v])]=H:=⟨_,rfl⟩
   have n1:H1[0]?=some (.lst (C.map Sd.W++[q.W])):=e1▸app0 hn
   obtain⟨H2,e2⟩:∃H,H1.set 0 (.lst (C.map Sd.W++[q.W]++[q'.W]))=H:=⟨_,rfl⟩
   have sH:Sts H2 (.ref h.length) (Ss++[stL q G dn]++[v]):=e2▸e1▸Sts.set (.inr ⟨h.length,ZO (ze.mp hn).1,rfl,Qa3⟩) _
   have n2:H2[0]?=some (.lst ((C++[q]).map Sd.W++[q'.W])):=by rw[<- e2,QmB n1,Zc];rfl
   have L2:QbK .len [.ref h.length] H2=.ok (.int (C.length+1+1:Nat)) H2:=by show Qg7 _ _=_;simp only[Qg7,sH.seqA,okI,sl]
   refine⟨C++[q],q',D.gone G,Ss++[stL q G dn],dn++[D.T],.ref h.length,H2,some D.L,some (.str ""),c',ev▸sH,n2,by rw[zA];lia,?_⟩
   have S2:=sH.ix
   rw[<- ev]at S2
   simp! [X,M,b7,S,show Qab fW tb 39 59 [.int ns[k],.int k,.lst ((PP m how shift).map W.str),.lst (G.map W.str),.lst (q.xs.map ptW)] h=_ from e59,du,e,show(Out.ok q').word="" from rfl,(apD 36 r m30 fit e).trans (by rw[ev]),s.seqM,show J.seqM h (.lst [v])=some [v] from rfl,show Qd3 (some (Ss++[stL q G dn])) (some [v]) h=.ok (Ss++[stL q G dn]++[v]) h from zF (by rw[Zj];have:=r'.c2;simp at *;lia),pv,e1,show Qab fW tb 39 54 [RG m how shift,D.L] H1=.ok (.int (C.length+1:Nat)) H2 from(doD 30 r m30 fit n1).trans (by rw[e,<- e2,<- zo (f:=Sd.W)];rfl),L2,show Qab fW tb 39 56 [.int (C.length+1:Nat),.str "",.int (C.length+1:Nat)] H2=.ok (.bl true) H2 from Qlq 37 _,S2,Qm6 (m:=m) (how:=how) (shift:=shift) 35 r'.ok n2]
end
theorem Qqk{s:Str}:srt [s]=[s]:=List.perm_singleton.mp (Qbm [s])
theorem eqB_is(hs us:List Str):eqB hs us=decide (hs=us):=eqvS hs us
theorem Qhu{ks:List Str}{q:Sd}{ss:List Str}{o:Out}(h1:unk ks ss=false)(h2:ded q ss=false)(h3:QaW q.dw=false):first RX ks q ss o=o:=by
 unfold first
 grind
theorem QgQ{q:Sd}{ss:List Str}(h:q.G=[]):ded q ss=false:=by unfold ded;rw[h,zzI];intro s _;rw[QaR];simp
section
variable {m how shift:Nat}{q q':Sd}{h:Qaa}{C:List Sd}{G:List Str}{Ss dn:List W}
theorem Qjg{ss:List Str}(h:∀s∈ss,s∈PP m how shift):unk (KK m how shift) ss=false:=by
 unfold unk
 rw[zzI]
 intro s hs
 rw[kS,QaR]
 grind
noncomputable def RowOk(P:List Str)(p0:Str)(A j:Nat):Dd->Prop
 |.grant ss=>j=0/\ss=[p0]
 |.hand a z tz ss=>1<=j/\j<=A/\a=p0/\z=1/\(∃pc:Nat,tz=(pc:Int)/\1<=pc/\pc<20)/\1<=ss.length/\ss.length<=6/\ss.Nodup/\∀s∈ss,s∈P
 |.follow a b=>A<j/\a∈P/\b∈P
 |_=>False
theorem RowOk.fit{p0:Str}{A j:Nat}{D:Dd}(hp:p0∈PP m how shift)(r:RowOk (PP m how shift) p0 A j D):D.Fit:=by
 cases D with
 |grant ss=>obtain⟨_,rfl⟩:=r;exact⟨ZzS,λs hs=>by rw[zP.mp hs];exact nP _ hp⟩
 |hand a z tz ss=>obtain⟨_,_,rfl,rfl,⟨pc,rfl,_,h3⟩,_,h6,_,h8⟩:=r;exact⟨nP _ hp,ZzS,zj (show((pc:Int)).natAbs<100 by lia) ZzS,ZzL,λs hs=>nP _ (h8 s hs)⟩
 |follow a b=>exact⟨nP _ r.2.1,nP _ r.2.2⟩
 |_=>exact r.elim
structure Su (p0:Str) (q:Sd) (a:Nat):Prop where
 G:q.G=[]
 d:QaW q.dw=false
 l:q.xs.length=a
 x:∃x,q.xs[0]?=some x/\x.hs=[p0]
theorem Qlg{p0:Str}{A j:Nat}{D:Dd}(hp:p0∈PP m how shift)(hA:A<=59)(hj:j<200)(r:RowOk (PP m how shift) p0 A j D)(s:j=0->q=sd0)(s1:0<j->Su p0 q (min j (A+1))) :
  ∃q',Qb7 RX (KK m how shift) q j D=.ok q'/\Su p0 q' (min (j+1) (A+1)):=by
 have p1:∀s∈[p0],s∈PP m how shift:=λs hs=>by rw[zP.mp hs];exact hp
 cases D with
 |grant ss =>
  obtain⟨rfl,rfl⟩:=r
  obtain rfl:=s rfl
  refine⟨⟨.tup [.str "grant",.tup ([p0].map W.str)],[bhP [] 1 1 (1,1) [p0]],[],[],[]⟩,?_,rfl,rfl,(show 1=min 1 (A+1) by lia),_,rfl,rfl⟩
  show QbM RX (KK m how shift) sd0 0 [p0]=_
  unfold QbM
  rw[zF ⟨zD 1,(show 1<=6 by decide),Qi0⟩,Qqk,Qjg p1,zM ZzD,QgQ rfl,zM ZzD,zM (show ¬ QaW W.non=false from λz=>by cases z)]
  unfold QbY
  rw[zM ZzD]
 |hand a z tz ss =>
  obtain⟨h1,h2,rfl,rfl,⟨pc,rfl,h3,h4⟩,h5,h6,h7,h8⟩:=r
  obtain⟨uG,ud,ul,x,ux,uh⟩:=s1 h1
  have e:eqB x.hs [a]=true:=by rw[eqB_is,uh,zX rfl]
  have lx:1<=q.xs.length:=ZzL
  refine⟨⟨.tup [.str "hand",.str a,.int 1,.int (pc:Int),.tup ((srt ss).map W.str)],Qez q.xs x 1 pc (srt ss) (j+1),q.ks,q.vs,q.G⟩,?_,uG,rfl,?_,?_⟩
  ·show QdS RX (KK m how shift) q j a 1 (pc:Int) ss=_
   unfold QdS
   rw[zF ⟨h5,h6,h7⟩,Qhu (Qjg λs hs=>?_) (QgQ uG) ud,zM (show ¬ Qei 1 q.xs.length=true by unfold Qei;rw[zzh,Zl,Zl];lia)]
   ·show(match q.xs[(1:Int).toNat-1]? with|none=>_|some x=>_)=_
    rw[show q.xs[(1:Int).toNat-1]?=some x from ux]
    dsimp only
    rw[e,zM ZzD,zM (show ¬ Qik (pc:Int)=true by unfold Qik;rw[zzh,Zl,Zl];lia),zM ZzL]
    unfold QbY
    rw[zM ZzL,Zt]
    rfl
   ·rcases zS.mp hs with rfl|hs
    ·exact hp
    ·exact h8 s (srt_mem.mp hs)
  ·show(Qez q.xs x 1 pc (srt ss) (j+1)).length=_
   rw[QeY,zM ZzL]
   omega
  ·unfold Qez
   dsimp only
   rw[zM ZzL]
   refine⟨bhP x.tr (j+1) 1 (low (x.p*(20-pc)) (x.q*20)) x.hs,?_,uh⟩
   rw[zI (by rw[List.length_set];exact lx),zZ lx]
 |follow a b =>
  obtain⟨h1,h2,h3⟩:=r
  obtain⟨uG,ud,ul,ux⟩:=s1 ZzL
  refine⟨⟨.tup [.str "follow",.str a,.str b],q.xs,(dpS q.ks q.vs a b).1,(dpS q.ks q.vs a b).2,q.G⟩,?_,uG,rfl,by show q.xs.length=_;lia,ux⟩
  show QbB RX (KK m how shift) q j a b _ _=_
  unfold QbB
  rw[Qhu (Qjg λs hs=>?_) (QgQ uG) ud]
  ·unfold QbY
   rw[zM ZzL]
  ·simp only[zS,Zr,zzM]at hs
   rcases hs with rfl|rfl
   ·exact h2
   ·exact h3
 |_=>exact r.elim
theorem Ql6{n i:Nat}{body:Qai->Qaa->Res Fl}{ws:List W}{Iv:Nat->Qai->Qaa->Prop}(st:∀k w σ h,ws[k]?=some w->h[n]?=some (.lst ws)->Iv k σ h->∃σ2 h2,body (σ.set i (some w)) h=.ok (.nx σ2) h2/\h2[n]?=some (.lst ws)/\Iv (k+1) σ2 h2) :
  ∀(r k fu:Nat) (σ:Qai) (h:Qaa),k+r=ws.length->r<fu->h[n]?=some (.lst ws)->Iv k σ h->∃σ2 h2,foC n [i] body fu k σ h=.ok (.nx σ2) h2/\h2[n]?=some (.lst ws)/\Iv ws.length σ2 h2
 |0,k,fu+1,σ,h,e,_,hn,iv=>⟨σ,h,by rw[foC,hn];simp_all,hn,by rw[<- e];exact iv⟩
 |r+1,k,fu+1,σ,h,e,hf,hn,iv=>by have hk:k<ws.length:=ZzL;obtain⟨σ2,h2,b,hn2,iv2⟩:=st k ws[k] σ h (zJ hk) hn iv;obtain⟨σ3,h3,b3,hn3,iv3⟩:=Ql6 st r (k+1) fu σ2 h2 ZzL ZzL hn2 iv2;refine⟨σ3,h3,?_,hn3,iv3⟩;rw[foC,hn];dsimp only;rw[zJ hk];dsimp only;rw[Qb4];dsimp only;rw[b,bnd_ok];exact b3
noncomputable abbrev H3(C:List Sd)(q:Sd)(G:List Str)(Ss dn:List W)(Ds:List Dd):Qaa:=[.lst (C.map Sd.W++[q.W]),.lst (Ds.map Dd.L),.lst (Ss++[stL q G dn])]
theorem begin1{p0:Str}{A:Nat}{Ds:List Dd}(ns:List Int)(r3 r4 r5 r7 r9:Option W)(m30:m<=30)(hp:p0∈PP m how shift)(hA:A<=59)(c:CH m how shift C q G Ss dn){D:Dd}(hD:Ds[C.length]?=some D)(hj:C.length<200)(ro:RowOk (PP m how shift) p0 A C.length D)(s1:0<C.length->Su p0 q (min C.length (A+1))) :
  ∃C' q' G' Ss' dn',CH m how shift C' q' G' Ss' dn'/\C'.length=C.length+1/\Su p0 q' (min C'.length (A+1))/\exB (Qab fW tb 39) fW tRow (tau ns m how shift (some (.ref 1)) r3 r4 r5 (some (.ref 2)) (some D.L) none r9) (H3 C q G Ss dn Ds)=.ok (.nx (tau ns m how shift (some (.ref 1)) r3 r4 r5 (some (.ref 2)) (some D.L) none r9)) (H3 C' q' G' Ss' dn' Ds):=by
 have r:=c.rec' nP kP
 have fit:=ro.fit hp
 obtain⟨q',e,su⟩:=Qlg hp hA hj ro (λz=>by cases c with
  |nil=>rfl
  |step D c fit e=>simp at z) s1
 have c':=Ch.step D c fit e
 have r':=c'.rec' nP kP
 have s:Sts (H3 C q G Ss dn Ds) (.ref 2) (Ss++[stL q G dn]):=.inr ⟨2,ZzD,rfl,rfl⟩
 obtain⟨v,ev⟩:∃v,stL q' (D.gone G) (dn++[D.T])=v:=⟨_,rfl⟩
 obtain⟨H1,e1⟩:∃H:Qaa,[.lst (C.map Sd.W++[q.W]),.lst (Ds.map Dd.L),.lst (Ss++[stL q G dn]++[v])]=H:=⟨_,rfl⟩
 obtain⟨H2,e2⟩:∃H:Qaa,[.lst (C.map Sd.W++[q.W]++[q'.W]),.lst (Ds.map Dd.L),.lst (Ss++[stL q G dn]++[v])]=H:=⟨_,rfl⟩
 have s2:Sts H2 (.ref 2) (Ss++[stL q G dn]++[v]):=e2▸.inr ⟨2,ZzD,rfl,rfl⟩
 have L2:QbK .len [.ref 2] H2=.ok (.int (C.length+1+1:Nat)) H2:=by show Qg7 _ _=_;simp only[Qg7,s2.seqA,okI,show(Ss++[stL q G dn]++[v]).length=C.length+1+1 by have:=r.sl;simp;lia]
 have m1:Qc6 .append (.ref 2) [v] (H3 C q G Ss dn Ds)=.ok .non H1:=by show(if Qah v=true/\(Ss++[stL q G dn]).length<sizeLine then Res.ok W.non [.lst (C.map Sd.W++[q.W]),.lst (Ds.map Dd.L),.lst (Ss++[stL q G dn]++[v])] else .stuck)=_;rw[zF ⟨ev▸Qfo r'.ok.x1 r'.pd,by rw[zA,r.sl,Zj];show C.length+1<_;lia⟩,e1]
 refine⟨C++[q],q',D.gone G,Ss++[stL q G dn],dn++[D.T],c',by rw[zA];rfl,by rw[zA];exact su,?_⟩
 rw[show H3 (C++[q]) q' (D.gone G) (Ss++[stL q G dn]) (dn++[D.T]) Ds=H2 by rw[<- e2,<- ev,H3,Zc];rfl]
 simp! [s.ix,show Qbi .append (H3 C q G Ss dn Ds) (.ref 2)=true from rfl,(apD 36 r m30 fit e).trans (by rw[ev]),m1,show Qab fW tb 39 54 [RG m how shift,D.L] H1=.ok (.int (C.length+1:Nat)) H2 from(doD 30 r m30 fit (e1▸rfl)).trans (by rw[e,<- e2,<- e1,<- zo (f:=Sd.W)];rfl),L2,show Qab fW tb 39 56 [.int (C.length+1:Nat),.str "",.int (C.length+1:Nat)] H2=.ok (.bl true) H2 from Qlq 37 _]
end
theorem Qot{cf:CF}{i:Nat}{e:E}{σ:Qai}{h:Qaa}{w:W}(ee:evE cf e σ h=.ok w h)(hp:Qah w=true):exS cf fW (.fresh i (.lst [e])) σ h=.ok (.nx (σ.set i (some (.ref h.length)))) (h++[.lst [w]]):=by rw[exS,evF,Qae ee Qan,bnd_ok,zF (by show 1<=_;decide),bnd_ok,zF (by rw[Qaf,hp];rfl)]
section
variable {m how shift:Nat}{cf:CF}{ns:List Int}{Ds:List Dd}{A:Nat}{p0:Str}
noncomputable def AllOk(P:List Str)(p0:Str)(A:Nat)(Ds:List Dd):Prop:=∀j D,Ds[j]?=some D->RowOk P p0 A j D
theorem AllOk.snoc{P:List Str}{D:Dd}(a:AllOk P p0 A Ds)(r:RowOk P p0 A Ds.length D):AllOk P p0 A (Ds++[D]):=λj D' e=>by
 by_cases h:j<Ds.length
 ·rw[zI h]at e;exact a j D' e
 ·rw[zK ZzL]at e
  have :=by
   have:=(ze.mp e).1
   simp at this
   omega
  rw[this]at e
  grind
noncomputable abbrev pn(m how shift:Nat)(x:Int):Str:=(PP m how shift).getD (x.fmod (m:Int)).toNat Qct
theorem Qj3(m1:0<m)(x:Int):pn m how shift x∈PP m how shift/\∃i:Nat,x.fmod (m)=(i)/\i<m/\((PP m how shift).map W.str)[i]?=some (.str (pn m how shift x)):=by
 obtain⟨i,ei,hi⟩:=Qbj x m1;have hl:i<(PP m how shift).length:=by rw[QbG];exact hi
 exact⟨by simp_all,i,ei,hi,by simp_all⟩
theorem len10{σ:Qai}{h:Qaa}(e:σ[10]?=some (some (.lst ((PP m how shift).map W.str)))):evE cf (.blt .len [V10]) σ h=.ok (nat m) h:=(QcL (Qag e) rfl).trans (by rw[zo,QbG])
theorem at10{σ:Qai}{h:Qaa}{e:E}{x:Int}(m1:0<m)(e1:σ[10]?=some (some (.lst ((PP m how shift).map W.str))))(e2:evE cf e σ h=.ok (.int x) h):evE cf (.ix V10 (.bin .Mod e (.blt .len [V10]))) σ h=.ok (.str (pn m how shift x)) h:=by obtain⟨_,i,ei,_,e3⟩:=Qj3   m1 x;exact Qbr (Qag e1) (QbZ e2 (len10 e1) m1 ei) (Qda rfl e3)
theorem QoD{σ:Qai}{h:Qaa}{e:E}{k:Nat}(hk:k<m)(e1:σ[10]?=some (some (.lst ((PP m how shift).map W.str))))(e2:evE cf e σ h=.ok (nat k) h):evE cf (.ix V10 e) σ h=.ok (.str (Qa6 how shift k)) h :=
 Qbr (Qag e1) e2 (Qda  rfl (by simp[ppl,hk]))
theorem Qpq{k:Nat}(hk:k<m):Qa6 how shift k∈PP m how shift:=Zx.mpr ⟨k,ZF.mpr hk,rfl⟩
theorem pick8:∀r,r<8->∃p,1<=p/\p<20/\([1,3,7,9,11,13,17,19])[r]?=some p
 |0,_=>⟨1,ZzS,ZzD,rfl⟩
 |1,_=>⟨3,ZzD,ZzD,rfl⟩
 |2,_=>⟨7,ZzD,ZzD,rfl⟩
 |3,_=>⟨9,ZzD,ZzS,rfl⟩
 |4,_=>⟨11,ZzS,ZzS,rfl⟩
 |5,_=>⟨13,ZzD,ZzD,rfl⟩
 |6,_=>⟨17,ZzD,ZzD,rfl⟩
 |7,_=>⟨19,ZzD,ZzD,rfl⟩
 |n+8,h=>by lia
noncomputable abbrev S0:W:=sd0.W
theorem QkI{σ:Qai}{D:Dd}{e:E}(e2:σ[2]?=some (some (.ref 1)))(hl:Ds.length<=900)(ee:evE cf e σ [.lst [S0],.lst (Ds.map Dd.L)]=.ok D.L [.lst [S0],.lst (Ds.map Dd.L)]) :
  exS cf fW (.exp (.meth .append V2 [e])) σ [.lst [S0],.lst (Ds.map Dd.L)]=.ok (.nx σ) [.lst [S0],.lst ((Ds++[D]).map Dd.L)]:=by
 rw[Zc]
 exact QhE (Qef  e2 rfl ee (Qh5 D) (by rw[zo];lia))
theorem app1{D:Dd}(hl:Ds.length<=900):Qc6 .append (.ref 1) [D.L] [.lst [S0],.lst (Ds.map Dd.L)]=.ok .non [.lst [S0],.lst ((Ds++[D]).map Dd.L)]:=by show(if Qah D.L=true/\(Ds.map Dd.L).length<sizeLine then Res.ok W.non [.lst [S0],.lst (Ds.map Dd.L++[D.L])] else .stuck)=_;rw[zF ⟨Qh5 D,by rw[zo,Zj];lia⟩,Zc];rfl
theorem Qmv(hc:∀(k:Nat) (h:Qaa),cf 38 [.scr (ns.map W.int),.int (k:Int)] h=.ok (.int (cell ns k)) h)(m7:7<=m)(m10:m<=10)(ok:AllOk (PP m how shift) (Qa6 how shift 0) A Ds)(k:Nat)(hl:Ds.length=k+1)(hk:k<A)(hA:A<=59)(r3 r4 r5:Option W) :
  ∃r3' r4' r5' D,RowOk (PP m how shift) (Qa6 how shift 0) A Ds.length D/\exB cf fW tHand (tau ns m how shift (some (.ref 1)) r3 r4 r5 none none none (some (nat k))) [.lst [S0],.lst (Ds.map Dd.L)]=.ok (.nx (tau ns m how shift (some (.ref 1)) r3' r4' r5' none none none (some (nat k)))) [.lst [S0],.lst ((Ds++[D]).map Dd.L)]:=by
 have m1:0<m:=ZzL
 obtain⟨u,eu,hu⟩:∃n:Nat,(cell ns 5).fmod 6=n/\n<6:=Qbj _ ZzD
 obtain⟨v,ev,hv⟩:∃n:Nat,((cell ns 4+(k:Int))*(u:Int)).fmod 6=n/\n<6:=Qbj _ ZzD
 obtain⟨p,ep,hp⟩:∃n:Nat,(cell ns 7+(k:Int)).fmod 19=n/\n<19:=Qbj _ ZzD
 obtain⟨r,er,hr⟩:∃n:Nat,(cell ns 7).fmod 8=n/\n<8:=Qbj _ ZzD
 obtain⟨b,eb,hb⟩:∃n:Nat,((cell ns 7).fdiv 8).fmod 2=n/\n<2:=Qbj _ ZzD
 obtain⟨p8,q1,q2,e8⟩:=pick8 r hr
 obtain⟨pc,c1,c2,ec⟩:∃pc:Nat,1<=pc/\pc<20/\([.int (1+(p:Int)),.int p8]:List W)[b]?=some (.int pc):=by
  match b,hb with
  |0,_=>exact⟨1+p,ZzL,ZzL,rfl⟩
  |1,_=>exact⟨p8,q1,q2,rfl⟩
 let S:Int:=cell ns 6+(k:Int)
 let to:List Str:=(List.range (1+v)).map λ(j:Nat)=>pn m how shift (S+(j:Int))
 have md {x C:Int}{n:Nat}{hh} (e:x.fmod C=n) (c:C≠0):opW .Mod (.int x) (.int C) hh=.ok (.int n) hh:=(Qcs hh c).trans (by rw[e])
 have s2 {hh}:evE cf (.compR [11] 1 [V3] [] (.ix V10 (.bin .Mod (.bin .Add (.bin .Add (.call 38 [V0,(.con (.int 6))]) V9) V11) (.blt .len [V10])))) (tau ns m how shift (some (.ref 1)) (some (.int (1+(v:Int)))) r4 r5 none none none (some (nat k))) hh=.ok (.lst (to.map W.str)) hh:=by refine(Qh8 (m:=1+v) (F:=λj=>.str (pn m how shift (S+(j:Int)))) (U3 rfl) ZzL (λj hj=>⟨rfl,λhh=>?_⟩)).trans (by rw[zzm];rfl);exact Qfs rfl (at10 m1 rfl (Qf0 (Qf0 (Qns (i:=0) hc rfl 6) (U9 rfl)) (Qag (i:=11) rfl)))
 refine⟨some (.int (1+(v:Int))),some (.lst (to.map W.str)),some (.lst [.int (1+(p:Int)),.int p8]),.hand (Qa6 how shift 0) 1 (pc:Int) to,?_,?_⟩
 rotate_left
 ·simp! [show ∀hh,cf 38 [.scr (ns.map W.int),.int 4] hh=_ from hc 4,show ∀hh,cf 38 [.scr (ns.map W.int),.int 5] hh=_ from hc 5,show ∀hh,cf 38 [.scr (ns.map W.int),.int 7] hh=_ from hc 7,md eu ZzD,md ev ZzD,md ep ZzD,md er ZzD,md eb ZzD,λhh=>Qh7 hh (Qm8 (x:=cell ns 4+(k:Int)) (y:=u) ZzL),s2,λhh=>Qit (i:=cell ns 7) hh (show(8:Int)≠0 by decide) ZzD,λhh=>show ixW (.lst [.int 1,.int 3,.int 7,.int 9,.int 11,.int 13,.int 17,.int 19]) (.int r) hh=.ok (.int p8) hh from Qda rfl (show([1,3,7,9,11,13,17,19].map λ(n:Nat)=>W.int n)[r]?=_ by rw[zT,e8];rfl),λhh=>show ixW (.lst [.int (1+(p:Int)),.int p8]) (.int b) hh=.ok (.int pc) hh from Qda rfl ec,λhh=>show ixW (.lst ((PP m how shift).map W.str)) (.int 0) hh=.ok (.str (Qa6 how shift 0)) hh from Qda (k:=0) rfl (by simp[ppl,m1]),show Qbi .append [.lst [S0],.lst (Ds.map Dd.L)] (.ref 1)=true from rfl,show Qc6 .append (.ref 1) [.lst [.str "hand",.str (Qa6 how shift 0),.int 1,.int pc,.lst (to.map W.str)]] [.lst [S0],.lst (Ds.map Dd.L)]=_ from app1 (D:=.hand (Qa6 how shift 0) 1 (pc:Int) to) ZzL]
 refine⟨ZzL,ZzL,rfl,rfl,⟨pc,rfl,c1,c2⟩,?_,?_,?_,λs hs=>?_⟩
 ·show 1<=((List.range (1+v)).map _).length;rw[zo,ZX];lia
 ·show((List.range (1+v)).map _).length<=6;rw[zo,ZX];lia
 ·refine QiN (P:=PP m how shift) (G:=λj=>((S+(j:Int)).fmod (m:Int)).toNat) (Qol ZzL) (λj hj=>?_) (λj hj k hk e=>QmJ m1 ZzL ZzL e)
  obtain⟨_,i,ei,hi,_⟩:=Qj3 (how:=how) (shift:=shift) m1 (S+(j:Int))
  show((S+(j:Int)).fmod (m:Int)).toNat<_
  rw[ei,QbG];exact hi
 ·obtain⟨j,_,rfl⟩:=Zx.mp hs
  exact(Qj3 m1 _).1
end
section
variable {m how shift:Nat}{cf:CF}{ns:List Int}{Ds:List Dd}{A:Nat}{p0:Str}
noncomputable abbrev hh(Ds:List Dd):Qaa:=[.lst [S0],.lst (Ds.map Dd.L)]
theorem Qq1(hc:∀(k:Nat) (h:Qaa),cf 38 [.scr (ns.map W.int),.int (k)] h=.ok (.int (cell ns k)) h)(k:Nat)(hk:k<m)(hA:A<Ds.length)(hl:Ds.length<=900)(r3 r4 r5:Option W) :
  ∃D,RowOk (PP m how shift) p0 A Ds.length D/\exB cf fW tFol (tau ns m how shift (some (.ref 1)) r3 r4 r5 none none none (some (nat k))) (hh Ds)=.ok (.nx (tau ns m how shift (some (.ref 1)) r3 r4 r5 none none none (some (nat k)))) (hh (Ds++[D])):=by
 have m1:0<m:=ZzL
 have a_ :=λj σ h hs=>Qns (h:=h) (σ:=σ) (i:=0) hc hs j
 refine⟨.follow (Qa6 how shift k) (pn m how shift ((k)+cell ns 7)),⟨hA,Qpq hk,(Qj3 m1 _).1⟩,(Qad (QkI  rfl hl (l3 Qao (QoD hk rfl (Qag  rfl)) (at10 m1 rfl (Qf0 (Qag  rfl) (a_ 7 _ _ rfl)))))).trans (rfl)⟩
noncomputable abbrev cMore:E:=.and_ (.cmp .Eq (.bin .Mod (.bin .FloorDiv (.call 38 [V0,(.con (.int 5))]) (.con (.int 6))) (.con (.int 3))) (.con (.int 1))) (.cmp .Lt (.blt .len [V2]) (.bin .Add (.con (.int 195)) (.bin .Mod (.call 38 [V0,(.con (.int 7))]) (.con (.int 6)))))
noncomputable abbrev tMoreR:List S:=[.exp (.meth .append V2 [(.lst [(.con (.str "follow")),(.ix V10 (.con (.int 0))),(.ix V10 (.bin .Mod (.blt .len [V2]) (.blt .len [V10])))])])]
theorem Qjf(hc:∀(k:Nat) (h:Qaa),cf 38 [.scr (ns.map W.int),.int (k:Int)] h=.ok (.int (cell ns k)) h)(m1:0<m)(r3 r4 r5 r9:Option W):∀(r fu:Nat) (Ds:List Dd),200<=Ds.length+r->r<fu->A<Ds.length->Ds.length<=200->AllOk (PP m how shift) p0 A Ds ->
  ∃Ds',AllOk (PP m how shift) p0 A Ds'/\A<Ds'.length/\Ds'.length<=200/\wh (λσ h=>tst (evE cf cMore σ h)) (exB cf fW tMoreR) fu (tau ns m how shift (some (.ref 1)) r3 r4 r5 none none none r9) (hh Ds)=.ok (.nx (tau ns m how shift (some (.ref 1)) r3 r4 r5 none none none r9)) (hh Ds'):=by
 have a_:∀(j:Nat) (σ:Qai) (h:Qaa),σ[0]?=some (some (.scr (ns.map W.int)))->evE cf (.call 38 [.var 0,.con (.int (j:Int))]) σ h=.ok (.int (cell ns j)) h:=λj σ h hs=>Qns (h:=h) (σ:=σ) (i:=0) hc hs j
 obtain⟨g,eg,hg⟩:=Qbj ((cell ns 5).fdiv 6) (show 0<3 by decide)
 obtain⟨c,ec,hc6⟩:=Qbj (cell ns 7) (show 0<6 by decide)
 have l2':∀Ds:List Dd,evE cf (.blt .len [V2]) (tau ns m how shift (some (.ref 1)) r3 r4 r5 none none none r9) (hh Ds)=.ok (nat Ds.length) (hh Ds):=λDs=>(QcL (x:=.ref 1) (us:=Ds.map Dd.L) (U2 rfl) rfl).trans (by rw[zo])
 have t:∀Ds:List Dd,evT cf cMore (tau ns m how shift (some (.ref 1)) r3 r4 r5 none none none r9) (hh Ds)=.ok (decide (g=1)&&decide (Ds.length<195+c)) (hh Ds):=λDs =>
  QaX (Qq8 (Qoz (n:=1) (QbZ (C:=3) (Qbx (a_ 5 _ _ rfl) Qao (Qit _ ZzD ZzD)) Qaw ZzD eg) Qaw) (evE_of (QkU (l2' Ds) (Qcx (m:=195) Qaw (QbZ (C:=6) (a_ 7 _ _ rfl) Qaw ZzD ec)))))
 intro r
 induction r with
 |zero =>
  intro fu Ds h1 hf hA h2 ok
  obtain⟨n,rfl⟩:∃n,fu=n+1:=⟨fu-1,ZzL⟩
  have t0:=t Ds
  rw[zV (show ¬ Ds.length<195+c by lia),Bool.and_false]at t0
  exact⟨Ds,ok,hA,h2,QdO t0⟩
 |succ r ih =>
  intro fu Ds h1 hf hA h2 ok
  obtain⟨n,rfl⟩:∃n,fu=n+1:=⟨fu-1,ZzL⟩
  have t0:=t Ds
  by_cases b:g=1/\Ds.length<195+c
  ·rw[zX b.1,zX b.2]at t0
   let D:Dd:=.follow (Qa6 how shift 0) (pn m how shift ((Ds.length:Nat):Int))
   have ro:RowOk (PP m how shift) p0 A Ds.length D:=⟨hA,Qpq m1,(Qj3 m1 _).1⟩
   have bd  :=
    (Qad (QkI (D:=D) rfl ZzL (l3 Qao (QoD m1 rfl (Qaw (n:=0))) (at10 m1 rfl (l2' Ds))))).trans (by rw[exB])
   obtain⟨Ds',q1,q2,q3,q4⟩:=ih n (Ds++[D]) (by rw[zA];show 200<=Ds.length+1+r;lia) ZzL (by rw[zA];lia) (by rw[zA];show Ds.length+1<=200;lia) (ok.snoc ro)
   exact⟨Ds',q1,q2,q3,(QeS t0 bd).trans q4⟩
  ·have e:(decide (g=1)&&decide (Ds.length<195+c))=false:=by rw[<- Bool.decide_and,zV b]
   rw[e]at t0
   exact⟨Ds,ok,hA,h2,QdO t0⟩
theorem Qnq{is:List Nat}{a c:E}{b:List S}{σ:Qai}{h:Qaa}{i j:Nat}(ea:evE cf a σ h=.ok (nat i) h)(ec:evE cf c σ h=.ok (nat j) h)(hi:i<=1000)(hj:j<=1000):exS cf fW (.for_ is (.rng [a,c]) b) σ h=fo is (exB cf fW b) ((List.range (j-i)).map λ(k:Nat)=>nat (i+k)) σ h:=by
 rw[exS,Qcn ea ec,bnd_ok];have z:Qlj [nat i,nat j]=some ((List.range (j-i)).map λ(k:Nat)=>nat (i+k)):=by rw[Qb2];unfold Qjc;dsimp only;rw[zF ZzL,show((j:Int)-(i:Int)).toNat=j-i by lia];rfl
 rw[z]
theorem QnQ:1000<fW:=zj (show 1000<2^10 by simp) (z9 ZzS ZzS)
end
theorem run(ns:List Int)(hl:ns.length<=63):Qab fW (tbOf ds gl) 40 60 [.scr (ns.map W.int)] []=.ok (.bl true) []:=by
 rw[tb_eq,Qac (g:=⟨1,11,b60,none⟩) rfl rfl];obtain⟨m4,e0,h0⟩:=Qbj (cell ns 0) (show 0<4 by decide);obtain⟨how,e1,h1⟩:=Qbj (cell ns 1) (show 0<363 by decide);obtain⟨shift,e2,h2⟩:=Qbj (cell ns 2) (show 0<676 by decide);obtain⟨c3,e3,h3⟩:=Qbj (cell ns 3) (show 0<10 by decide);obtain⟨m,em⟩:∃m,m=7+m4:=⟨_,rfl⟩;have m1:0<m:=ZzL;have m30:m<=30:=ZzL;let A:=50+c3;have hA:A<=59:=by show 50+c3<=59;lia
 let p0:=Qa6 how shift 0;have hp:p0∈PP m how shift:=Qpq m1;have c:∀(k:Nat) (h:Qaa),Qab fW tb 39 38 [.scr (ns.map W.int),.int (k:Int)] h=.ok (.int (cell ns k)) h:=λk h=>at_run (d:=38) rfl ns k h;have pe:Qab fW tb 39 39 [nat m,nat how,nat shift] []=.ok (.lst ((PP m how shift).map W.str)) []:=QiO (d:=38) rfl m how shift [] ZzL ZzL;have rn:Qab fW tb 39 2023 [.lst ((PP m how shift).map W.str)] []=.ok (RG m how shift) [.lst [st0]]:=Qo8 (fw:=fW) (tb:=tb) (f:=23) (sf:=22) (cn:=2) (c:=0) (isn:=0) (tw:=1) rfl rfl rfl rfl rfl ZzD 36 (.lst ((PP m how shift).map W.str)) (PP m how shift) [] (.inl rfl) (by rw[QbG];exact m1) (by rw[QbG];lia) Qm5 (Qol ZzL);have bg:=λ(C:List Sd) (q:Sd) (G:List Str) (Ss dn:List W) (Ds:List Dd) r3 r4 r5 r7 r9 (cc:CH m how shift C q G Ss dn) (D:Dd) (hD:Ds[C.length]?=some D) (hj:C.length<200) ro s1=>begin1 (p0:=p0) (A:=A) (Ds:=Ds) ns r3 r4 r5 r7 r9 m30 hp hA cc hD hj ro s1;have tn:=λ(C:List Sd) (q:Sd) (G:List Str) (Ss dn:List W) (h:Qaa) (w:W) (k:Nat) (hk:k<ns.length) r2 r3 r4 r5 r7 r8 (cc:CH m how shift C q G Ss dn) (hC:0<C.length) s hn=>Qpj (h:=h) (w:=w) ns k hk m1 m30 r2 r3 r4 r5 r7 r8 cc hC s hn;have ho:=λ(q:Sd) (P:List Str) (n:Nat) (hh:Qaa) (ok:q.Ok P n) (ws:List W) (e:hh[0]?=some (.lst (ws++[q.W])))=>Qm6 (m:=m) (how:=how) (shift:=shift) 35 ok e;generalize Qab fW tb 39=cf at *;let z:Option W:=some (.scr (ns.map W.int));have a_:∀(j:Nat) (σ:Qai) (h:Qaa),σ[0]?=some (some (.scr (ns.map W.int)))->evE cf (.call 38 [.var 0,.con (.int (j:Int))]) σ h=.ok (.int (cell ns j)) h:=λj σ h hs=>Qns (h:=h) (σ:=σ) (i:=0) c hs j;let n':Option W:=none;let P:Option W:=some (.lst ((PP m how shift).map W.str));show J.fin 0 (exB cf fW b60 [z,n',n',n',n',n',n',n',n',n',n'] [])=_;suffices H:∃h,exB cf fW b60 [z,n',n',n',n',n',n',n',n',n',n'] []=.ok (.ret (.bl true)) h by obtain⟨h,H⟩:=H;rw[H];rfl
 let D0:Dd:=.grant [p0];have ok0:AllOk (PP m how shift) p0 A [D0]:=λj D e=>by have:j<1:=(ze.mp e).1;have:j=0:=ZzL;subst this;cases e;exact⟨rfl,rfl⟩
 obtain⟨σ4,h4,f4,r3,r4,r5,r9,Ds4,e4,eh4,ll4,ok4⟩:=QjX (i:=9) (n:=A) (body:=exB cf fW tHand) (σ:=tau ns m how shift (some (.ref 1)) n' n' n' n' n' n' n') (h:=hh [D0])
  (Iv:=λk σ h=>∃r3 r4 r5 r9 Ds,σ=tau ns m how shift (some (.ref 1)) r3 r4 r5 n' n' n' r9/\h=hh Ds/\Ds.length=k+1/\AllOk (PP m how shift) p0 A Ds) (λk σ h hk iv=>by
   obtain⟨r3,r4,r5,r9,Ds,rfl,rfl,hl,ok⟩:=iv
   obtain⟨r3',r4',r5',D,ro,e⟩:=Qmv c ZzL ZzL ok k hl hk hA r3 r4 r5
   exact⟨_,_,e,r3',r4',r5',some (nat k),Ds++[D],rfl,rfl,by rw[zA,hl];rfl,ok.snoc ro⟩) ⟨n',n',n',n',[D0],rfl,rfl,rfl,ok0⟩
 subst e4 eh4
 obtain⟨σ5,h5,f5,r95,Ds5,e5,eh5,l5',ok5⟩:=QjX (i:=9) (n:=m) (body:=exB cf fW tFol) (σ:=tau ns m how shift (some (.ref 1)) r3 r4 r5 n' n' n' r9) (h:=hh Ds4)
  (Iv:=λk σ h=>∃r9 Ds,σ=tau ns m how shift (some (.ref 1)) r3 r4 r5 n' n' n' r9/\h=hh Ds/\Ds.length=A+1+k/\AllOk (PP m how shift) p0 A Ds) (λk σ h hk iv=>by
   obtain⟨r9,Ds,rfl,rfl,hl,ok⟩:=iv
   obtain⟨D,ro,e⟩:=Qq1 (p0:=p0) (A:=A) (Ds:=Ds) c k hk ZzL ZzL r3 r4 r5
   exact⟨_,_,e,some (nat k),Ds++[D],rfl,rfl,by rw[zA,hl];show A+1+k+1=_;lia,ok.snoc ro⟩) ⟨r9,Ds4,rfl,rfl,ll4,ok4⟩
 subst e5 eh5;obtain⟨Ds,ok,hD,l200,f6⟩:=Qjf (A:=A) (p0:=p0) (how:=how) (shift:=shift) c m1 r3 r4 r5 r95 200 fW Ds5 ZzL (zzk ZzD QnQ) ZzL ZzL ok5
 obtain⟨σ8,h8,f8,_,C8,q8,G8,S8,n8,r7,e8,eh8,hc8,l8⟩:=Ql6 (n:=1) (i:=7) (body:=exB cf fW tRow) (ws:=Ds.map Dd.L)
  (Iv:=λk σ h=>∃C q G Ss dn r7,σ=tau ns m how shift (some (.ref 1)) r3 r4 r5 (some (.ref 2)) r7 n' r95/\h=H3 C q G Ss dn Ds/\CH m how shift C q G Ss dn/\C.length=k/\(0<k->Su p0 q (min k (A+1)))) (λk w σ h hw _ iv=>by
   obtain⟨C,q,G,Ss,dn,r7,rfl,rfl,cc,hk,su⟩:=iv
   rw[zT]at hw
   obtain⟨D,eD,rfl⟩:=Zg.mp hw
   have hkl:k<Ds.length:=(ze.mp eD).1
   subst hk
   obtain⟨C',q',G',Ss',dn',cc',hl',su',e⟩:=bg C q G Ss dn Ds r3 r4 r5 r7 r95 cc D eD ZzL (ok _ _ eD) su
   exact⟨_,_,e,rfl,C',q',G',Ss',dn',some D.L,rfl,rfl,cc',hl',λ_=>by rw[<- hl'];exact su'⟩) (Ds.map Dd.L).length 0 fW (tau ns m how shift (some (.ref 1)) r3 r4 r5 (some (.ref 2)) n' n' r95) (H3 [] sd0 [] [] [] Ds) (ZV _) (by rw[zo];exact zQ (show Ds.length<=1000 by lia) QnQ) rfl ⟨[],sd0,[],[],[],n',rfl,rfl,.nil,rfl,λz=>absurd z ZzD⟩
 subst e8 eh8;rw[zo]at l8
 obtain⟨σ9,h9,f9,w9,r79,r89,r99,C,q,G,Ss,dn,e9,cc,st9,hn9,l9⟩:=QhS (is:=[9]) (body:=exB cf fW tTurn)
  (Iv:=λk σ h=>∃w r7 r8 r9 C q G Ss dn,σ=tau ns m how shift (some (.ref 1)) r3 r4 r5 (some w) r7 r8 r9/\CH m how shift C q G Ss dn/\Sts h w (Ss++[stL q G dn])/\h[0]?=some (.lst (C.map Sd.W++[q.W]))/\51<=C.length+k) ((List.range (min ns.length 16-8)).map λ(k:Nat)=>nat (8+k)) 0 (tau ns m how shift (some (.ref 1)) r3 r4 r5 (some (.ref 2)) r7 n' r95) (H3 C8 q8 G8 S8 n8 Ds) (λk w σ h hw iv=>by
   obtain⟨w6,r7,r8,r9,C,q,G,Ss,dn,rfl,cc,st,hn,hl⟩:=iv
   rw[zT]at hw
   obtain⟨k',ek,rfl⟩:=Zg.mp hw
   have hk:k<min ns.length 16-8:=by have:=(ze.mp ek).1;simpa using this
   have:k'=k:=by rw[List.getElem?_range hk]at ek;exact(zW ek).symm
   subst this
   obtain⟨C',q',G',Ss',dn',w',h',r7',r8',cc',st',hn',hl',e⟩:=tn C q G Ss dn h w6 (8+k') ZzL (some (.ref 1)) r3 r4 r5 r7 r8 cc ZzL st hn
   exact⟨tau ns m how shift (some (.ref 1)) r3 r4 r5 (some w6) r7 r8 (some (nat (8+k'))),_,_,rfl,e,w',r7',r8',some (nat (8+k')),C',q',G',Ss',dn',rfl,cc',st',hn',ZzL⟩) ⟨.ref 2,r7,n',r95,C8,q8,G8,S8,n8,rfl,hc8,.inr ⟨2,ZzD,rfl,rfl⟩,rfl,ZzL⟩
 subst e9;have ln:∀(σ:Qai) (h:Qaa),σ[0]?=some (some (.scr (ns.map W.int)))->evE cf (.blt .len [V0]) σ h=.ok (nat ns.length) h:=λσ h e=>(QcL (x:=.scr (ns.map W.int)) (us:=ns.map W.int) (Qag e) rfl).trans (by rw[zo]);have r:=cc.rec' nP kP;refine⟨h9,(Qad (QaU (Qdm (Qae (Qcx (m:=7) Qaw (QbZ (C:=4) (a_ 0 _ _ rfl) Qaw ZzD e0)) (Qae (QbZ (C:=363) (a_ 1 _ _ rfl) Qaw ZzD e1) (Qae (QbZ (C:=676) (a_ 2 _ _ rfl) Qaw ZzD e2) Qan))) (by rw[<- em];exact pe)))).trans ((Qad (QaU (QeX (QgY (Qag (i:=10) rfl)) rn))).trans ((Qad (Qot (l2 Qao (Qbv (Qae (QoD m1 rfl (Qaw (n:=0))) Qan) (by show 1<=1000;decide))) (Qh5 D0))).trans ((Qad ((QfE (n:=A) (Qcx (m:=50) Qaw (QbZ (C:=10) (a_ 3 _ _ rfl) Qaw ZzD e3)) ZzL).trans f4)).trans ((Qad ((QfE (n:=m) (len10 rfl) ZzL).trans f5)).trans ((Qad (by rw[exS];exact f6)).trans ((Qad (Qot (w:=stL sd0 [] []) (l4 (Qbv Qan ZzD) (Qbv Qan ZzD) (by rw[evE];rfl) (Qbv Qan ZzD)) rfl)).trans ((Qad (by rw[exS,Qag (w:=.ref 1) rfl,bnd_ok];exact f8)).trans ((Qad ((Qnq (i:=8) (j:=min ns.length 16) Qaw (Qjh (n:=16) (ln _ _ rfl) Qaw) ZzD ZzL).trans f9)).trans (Qar (Qa7 (Qby (U1 rfl) (Qbr (st9.last (i:=6) rfl) Qao (Qph rfl)) (ho q _ _ h9 r.ok _ hn9))))))))))))⟩
end Law
namespace PySem.W.Fast
def tw6993614220874292896:=0
def tw2666986768147011182:=0
def tw15145597471604842693:=0
def tw13312301058061821040:=0
def tw5890552672665341632:=0
def tw7250876873949992211:=0
def tw11771308730398854181:=0
def tw4633866072471731321:=0
def tw9281039387060516191:=0
def tw4633788900059846378:=0
def tw816596252063339145:=0
def tw5331863065173716540:=0
def tw1297004137583719842:=0
def tw6543493870433956898:=0
def tw17391919628259118207:=0
def tw1207375030977816622:=0
def tw12522406407012605987:=0
def tw9634087142289294858:=0
def tw251833099367576208:=0
def tw4458985907607618674:=0
def tw4880951526205144363:=0
def tw17859610025417135288:=0
def tw2520377681450613619:=0
def tw6046325362384500831:=0
def tw2542794198694165884:=0
def tw9202217349857986332:=0
def tw5443976773216119262:=0
def tw7003645529697376067:=0
def tw15003672387646710633:=0
def tw6370721632047246796:=0
def tw2895041408944432925:=0
def tw2143060618356086622:=0
def tw12584926852719862241:=0
def tw952600120120520666:=0
def tw13181563212057911919:=0
def tw10607000405100429316:=0
def tw5254639510209494418:=0
def tw11578629429853400651:=0
def tw16657694948012175708:=0
def tw13638521907506132679:=0
def tw8631381734764771794:=0
def tw18057924531684720337:=0
def tw11284058825693068236:=0
def tw9469958345635949363:=0
def tw7432728323853567660:=0
def tw745060852760652206:=0
def tw9876078570072155027:=0
def tw18021707098466314727:=0
def tw15351191609354626457:=0
def tw6859987326607283700:=0
def tw6683782317695145450:=0
def tw7560074224152024708:=0
def tw11495388624824581872:=0
def tw11121274532112827700:=0
def tw5244148340723843816:=0
def tw8313358861934545975:=0
def tw16438727884143788012:=0
def tw3413371600577719610:=0
def tw6958068390022843774:=0
def tw17840005427257692025:=0
def tw17314469054797531755:=0
def tw10738774095944302785:=0
def tw11595803062864916238:=0
def tw13044323550117597715:=0
def tw8115932362215439632:=0
def tw10394203419968101991:=0
def tw7185470802821292053:=0
def tw15618268706308080207:=0
def tw8572648836033551539:=0
def tw10669889228200182381:=0
def tw4703795756589688815:=0
def tw10803557647587361492:=0
def tw9995269218064784977:=0
def tw10041497996303688692:=0
def tw15944635124806188594:=0
def tw12012230647689928491:=0
def tw10803247596702759404:=0
def tw8707804416952351320:=0
def tw2496679342165703705:=0
def tw15858620323319661189:=0
def tw5000022690854423971:=0
def tw4912761826129495976:=0
def tw7575159560451499744:=0
def tw17089380667546388869:=0
def tw7768291266356109616:=0
def tw12421361351961164014:=0
def tw9146397109862249169:=0
def tw12416052197323456308:=0
def tw4404131299749617476:=0
def tw9349621363961049068:=0
end PySem.W.Fast
open PySem PySem.W PyProof.Rows
set_option maxRecDepth 100000 in
set_option maxHeartbeats 0 in
theorem PySem.Challenge.cw_jointhold_k21_sixty_parts_holds : PySem.Challenge.rw_jointhold_k21_sixty_parts.Holds := by
  w_on;o_law;k_head;(case hw=>w_witness2)
  k_fill
  refine J.walk (l:=PySem.Challenge.rw_jointhold_k21_sixty_parts) (i:=60) (df:=Law.d60) rfl rfl (fun w h Y=>PySem.W.kIn_of Y) (J.made_ok Law.made) rfl rfl rfl rfl ?L (fun ns hl=>Law.run ns hl)
  intro w mg fa h KX G hmg
  refine' J.with_ocl KX (J.ocl0 ?zn ?zi ?zh ?zp ?zs ?zf0 ?zf1 ?zf2 ?zf3) fun O0=>?M0;(case zn=>k_is);(case zi=>k_is);(case zh=>k_is);(case zp=>k_is);(case zs=>k_is);(case zf0=>k_is);(case zf1=>k_is);(case zf2=>k_is);(case zf3=>k_is)
  refine' J.with_ocl KX (J.ocl1 ?zn ?zi ?zh ?zp ?zs ?zf0 ?zf1) fun O1=>?M1;(case zn=>k_is);(case zi=>k_is);(case zh=>k_is);(case zp=>k_is);(case zs=>k_is);(case zf0=>k_is);(case zf1=>k_is)
  refine' J.laid_all (Cs:=[_,_,_,_,_,_,_,_,_,_,_,_]) KX G ?D ?Z ?zg ?zu
  (case D=>simp only [Law.ds,J.AllP,and_true];refine' ⟨?_,?_,?_,?_,?_,?_,?_,?_,?_,?_,?_,?_,?_,?_,?_,?_,?_,?_,?_,?_,?_,?_,?_,?_,?_,?_,?_,?_,?_,?_,?_,?_,?_,?_,?_,?_,?_,?_,?_,?_,?_,?_,?_,?_,?_,?_,?_,?_,?_,?_,?_,?_,?_,?_,?_,?_,?_,?_,?_,?_,?_⟩;(iterate 22 (refine' J.laid_mk KX G rfl ?zb ?za ?zl ?zc ?zk;(case za=>k_is);(case zl=>k_is);(case zc=>k_is);(case zk=>k_is);(case zb=>first | exact J.bo1 rfl (by intros;rfl) | exact J.bo2 rfl (by intros;rfl) | exact J.bo3 rfl (by intros;rfl) | exact J.bo4 rfl (by intros;rfl) | exact J.bo5 rfl (by intros;rfl) | exact J.bo6 rfl (by intros;rfl))));(refine' J.laid_ini KX G (d:=Law.d22) O0 (by decide) ?zm ?zi ?zb ?za ?zl ?zc ?zk ?zt;(case zm=>k_is);(case zi=>k_is);(case za=>k_is);(case zl=>k_is);(case zc=>k_is);(case zk=>k_is);(case zb=>first | exact J.bo1 rfl (by intros;rfl) | exact J.bo2 rfl (by intros;rfl) | exact J.bo3 rfl (by intros;rfl) | exact J.bo4 rfl (by intros;rfl) | exact J.bo5 rfl (by intros;rfl) | exact J.bo6 rfl (by intros;rfl));(case zt=>k_is));(refine' J.laid_ini KX G (d:=Law.d23) O1 (by decide) ?zm ?zi ?zb ?za ?zl ?zc ?zk ?zt;(case zm=>k_is);(case zi=>k_is);(case za=>k_is);(case zl=>k_is);(case zc=>k_is);(case zk=>k_is);(case zb=>first | exact J.bo1 rfl (by intros;rfl) | exact J.bo2 rfl (by intros;rfl) | exact J.bo3 rfl (by intros;rfl) | exact J.bo4 rfl (by intros;rfl) | exact J.bo5 rfl (by intros;rfl) | exact J.bo6 rfl (by intros;rfl));(case zt=>k_is));(iterate 14 (refine' J.laid_mth O1 rfl (by decide +kernel) ?zb ?za ?zl ?zc ?zk ?zt;(case za=>k_is);(case zl=>k_is);(case zc=>k_is);(case zk=>k_is);(case zb=>first | exact J.bo1 rfl (by intros;rfl) | exact J.bo2 rfl (by intros;rfl) | exact J.bo3 rfl (by intros;rfl) | exact J.bo4 rfl (by intros;rfl) | exact J.bo5 rfl (by intros;rfl) | exact J.bo6 rfl (by intros;rfl));(case zt=>k_is)));(iterate 23 (refine' J.laid_mk KX G rfl ?zb ?za ?zl ?zc ?zk;(case za=>k_is);(case zl=>k_is);(case zc=>k_is);(case zk=>k_is);(case zb=>first | exact J.bo1 rfl (by intros;rfl) | exact J.bo2 rfl (by intros;rfl) | exact J.bo3 rfl (by intros;rfl) | exact J.bo4 rfl (by intros;rfl) | exact J.bo5 rfl (by intros;rfl) | exact J.bo6 rfl (by intros;rfl)))))
  (case Z=>simp only [J.bltNames,J.AllP,and_true];refine' ⟨?_,?_,?_,?_,?_,?_,?_,?_,?_,?_,?_,?_,?_,?_,?_,?_,?_,?_,?_⟩ <;> k_is)
  (case zg=>simp only [Law.gl,J.AllP,J.GlAt,and_true,true_and,List.getD_cons_zero,List.getD_cons_succ];refine' ⟨?_,?_,?_,?_,?_,?_,?_,?_,?_,?_,?_,?_,?_,?_,?_,?_,?_,?_,?_,?_,?_⟩;(refine' J.con_str (PySem.W.mg_of KX G ?zq);(case zq=>k_is));(iterate 3 (refine' J.con_int (PySem.W.mg_of KX G ?zq);(case zq=>k_is)));(refine' J.con_tup (is:=[1,1]) (PySem.W.mg_of KX G ?zq) ?zp ?zv ?zz;(case zq=>k_is);(case zp=>k_is);(case zv=>exact .cons ⟨_,rfl⟩ (.cons ⟨_,rfl⟩ (.nil)));(case zz=>decide));(iterate 3 (refine' J.con_int (PySem.W.mg_of KX G ?zq);(case zq=>k_is)));(iterate 12 (refine' ⟨Nat.le_of_ble_eq_true rfl,J.err_mk KX G ?zx ?zy ?zv ?zw,?zr,?zs,?zt⟩;(case zx=>k_is);(case zy=>k_is);(case zv=>k_exc);(case zw=>rfl);(case zr=>unfold J.FE;k_is);(case zs=>unfold J.FE;k_is);(case zt=>unfold J.FE;k_is)));(refine' J.bas_mk KX G ?zx ?zy ?zv ?zw;(case zx=>k_is);(case zy=>k_is);(case zv=>k_exc);(case zw=>rfl)))
  (case zu=>decide)
