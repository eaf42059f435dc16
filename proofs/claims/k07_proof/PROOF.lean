import PyProof.Rows.All
import Wide.All
import OpenK.AllK
import Wide.FinOn
import Lean
import PyProof.EqAt
import PyProof.EqKinds
import PyProof.TupleCall
import KE.KSortTup
import PyProof.Rows.SortShellK
import PyProof.Rows.SortWalk
import KE.KDictList
import PyProof.DictCompW
import KE.KStar
import PyProof.ListMulRoad
import PyProof.FactsAll.tuple
import KE.KSortKey
import KE.KTab
import PySem.SetOps
import PyProof.SetScanFacts
import PyProof.SetNew
import PyProof.SetRoads
import PyProof.Rows.SetFrom
import PyProof.WalksMore
import PyProof.CollectWalk
import PySem.Challenge.RW_everalike_k07_no_lots_and_no_kinds
set_option linter.all false
namespace PySem
abbrev R0:=@PySem.wpAny_bind
abbrev R1:=@PySem.Heap.get?_push_of_some
abbrev R3:=@PySem.wpAny_pure
abbrev R4:=@Bool.and_eq_true
abbrev R5:=@Nat.le_refl
abbrev R6:=@List.getElem?_eq_some_iff
abbrev R7:=@PySem.Heap.lt_size
abbrev R8:=@PySem.Heap.get?_push_size
abbrev R9:=@List.getElem?_eq_getElem
abbrev Sa:=@Nat.lt_of_lt_of_le
abbrev Sb:=@List.mem_cons_of_mem
abbrev Sd:=@Nat.le_trans
abbrev Se:=@List.mem_append_right
abbrev Sf:=@List.mem_cons
abbrev Sg:=@Nat.ne_of_lt
abbrev Sh:=@List.all_eq_true
abbrev Si:=@List.size_toArray
abbrev Sj:=@Nat.lt_irrefl
abbrev Sk:=@Bool.false_ne_true
abbrev Sl:=@List.getElem?_append_left
abbrev Sm:=@PySem.W.mg_of
abbrev Sn:=@PySem.W.mg_none_of
abbrev So:=@PyProof.Rows.slot_tuple_getitem
abbrev Sr:=@PySem.Paired.length
abbrev Ss:=@List.length_map
abbrev Su:=@PySem.wpAny_newObj_type
abbrev Sv:=@decide_eq_true_eq
abbrev Sw:=@List.mem_append
abbrev Sx:=@Bool.false_eq_true
abbrev Sy:=@List.map_cons
abbrev Sz:=@PySem.wpAny_callSpecial?_slot
abbrev SA:=@List.mem_map
abbrev SD:=@List.getElem?_map
abbrev SE:=@List.length_append
abbrev SF:=@List.mem_singleton
abbrev SG:=@List.length_cons
abbrev SH:=@PySem.wpAny_holding
abbrev SI:=@Option.map_eq_some_iff
abbrev SJ:=@List.mem_of_getElem?
abbrev SK:=@PySem.wpAny_call_entry
abbrev SM:=@List.mem_range
abbrev SN:=@List.pairwise_cons
abbrev SO:=@List.getElem?_append_right
abbrev SQ:=@List.getD_eq_getElem?_getD
abbrev SR:=@PySem.mem_of_lookup
abbrev SS:=@List.drop_eq_getElem_cons
abbrev SU:=@PySem.wpAny_Call_Name_kw
abbrev SV:=@List.mem_cons_self
abbrev SW:=@PySem.W.kia_one
abbrev SX:=@PySem.wpAny_field
abbrev SY:=@List.not_mem_nil
abbrev S0:=@PySem.wpAny_truthy_bool
abbrev S3:=@PySem.wpAny_mono
abbrev S4:=@PySem.Heap.SameBut.update
abbrev S5:=@List.reverse_cons
abbrev S6:=@PySem.F.slot_dict_keyiterator_next
abbrev S7:=@decide_eq_false
abbrev S8:=@Option.some.inj
abbrev S9:=@List.mem_iff_getElem
abbrev Ta:=@List.any_eq_true
abbrev Tb:=@List.getElem?_set_self
abbrev Tc:=@List.drop_of_length_le
abbrev Td:=@PySem.sizeLine_eq
abbrev Te:=@Array.length_toList
abbrev Tf:=@Nat.zero_le
abbrev Tg:=@PySem.Heap.get?_push_ne
abbrev Th:=@Nat.lt_succ_of_lt
abbrev Ti:=@List.length_reverse
abbrev Tj:=@Array.getElem?_eq_getElem
abbrev Tn:=@List.length_replicate
abbrev To:=@List.length_filter_le
abbrev Tp:=@List.set_cons_succ
abbrev Tq:=@List.set_cons_zero
abbrev Tr:=@if_true
abbrev Ts:=@List.lookup_cons
abbrev Tt:=@PySem.wpAny_typeNameOfWhole_keyiter
abbrev Tu:=@List.mem_append_left
abbrev Tv:=@PySem.wpAny_seqItems
abbrev Tw:=@Nat.lt_or_ge
abbrev Tx:=@Int.toNat_natCast
abbrev Tz:=@Bool.eq_false_iff
abbrev TC:=@PySem.W.cellsFrom_some
abbrev TF:=@PySem.F.slot_tuple_iterator_next
abbrev TH:=@PySem.wpAny_rule
abbrev TJ:=@PyProof.Rows.assignInOrder_cons
abbrev TK:=@if_false
abbrev TL:=@PySem.wpAny_setField_rec
abbrev TM:=@List.zip_cons_cons
abbrev TN:=@PySem.Heap.size_push
abbrev TQ:=@List.pairwise_iff_getElem
abbrev TR:=@List.getElem?_set_ne
abbrev TU:=@Array.mem_toList_iff
abbrev TV:=@List.mem_filter
abbrev TX:=@PySem.wpAny_execs_nil
abbrev TY:=@PySem.wpAny_passesOwn
abbrev TZ:=@Bool.eq_iff_iff
abbrev T3:=@Option.isSome_iff_exists
abbrev T4:=@Option.some.injEq
abbrev T5:=@Bool.not_eq_true'
abbrev T6:=@PySem.sizeLine_eq
abbrev T7:=@PySem.wpAny_typeNameOf_keyiter
abbrev T8:=@List.getElem?_replicate
abbrev T9:=@List.getElem?_cons_succ
abbrev Ua:=@List.getElem?_cons_zero
abbrev Ub:=@List.length_take
abbrev Uc:=@PySem.Heap.size_update
abbrev Ud:=@decide_eq_true
abbrev Ue:=@PyProof.Rows.callWith_type1
abbrev Ug:=@List.append_nil
abbrev Uh:=@List.of_mem_zip
abbrev Ui:=@Nat.le_succ
abbrev Uj:=@PySem.wpAny_specialOf
abbrev Uk:=@PySem.wpAny_standAt
abbrev Ul:=@List.take_sublist
abbrev Um:=@PySem.call_meets
abbrev Uo:=@List.append_assoc
abbrev Uq:=@PySem.wpAny_attempt
abbrev Ur:=@PyProof.Rows.listUpdate_at
abbrev Us:=@of_decide_eq_true
abbrev Ut:=@PySem.wpAny_newFunctionEnv_cells
abbrev Uu:=@Option.getD_some
abbrev Uv:=@List.getElem_mem
abbrev Uw:=@beq_eq_false_iff_ne
abbrev Ux:=@PySem.F.slot_dict_eq_refl
abbrev Uy:=@Nat.le_of_lt
abbrev Uz:=@Nat.ne_of_gt
abbrev UA:=@PySem.F.args_tuple_add_2
abbrev UB:=@PySem.wpAny_comprehension_free
abbrev UC:=@List.map_map
abbrev UD:=@Ne.symm
abbrev UE:=@PySem.W.callWith_K
abbrev UG:=@List.nodup_cons
abbrev UH:=@PySem.F.entry_tuple_add
abbrev UI:=@List.forIn_cons
abbrev UJ:=@PySem.Obj.data_mapFields
abbrev UK:=@List.length_nil
abbrev UL:=@PySem.tupleKind_room_in1
abbrev UM:=@List.length_eq_zero_iff
abbrev UN:=@Nat.lt_of_le_of_lt
abbrev UO:=@Array.forIn_toList
abbrev UP:=@PySem.F.plainAttrs_list
abbrev UQ:=@List.pairwise_iff_forall_sublist
abbrev UR:=@PySem.F.slot_tuple_add
abbrev US:=@PySem.wpAny_sequenceKey
abbrev UT:=@PySem.F.slot_tuple_hash
abbrev UU:=@PySem.wpAny_dictEntries
abbrev UW:=@PySem.wpAny_bindName
abbrev UX:=@or_false
abbrev UY:=@PySem.codeAny_mono
abbrev UZ:=@PySem.codeAny_call_function
abbrev U0:=@PySem.Heap.get?_update_self
abbrev U1:=@PySem.F.slot_tuple_lt
abbrev U2:=@Nat.le_add_right
abbrev U3:=@PySem.wpAny_updateSeq_pair
abbrev U4:=@List.mem_of_mem_take
abbrev U5:=@Nat.pow_le_pow_right
abbrev U6:=@PySem.wpAny_load
abbrev U7:=@PySem.F.slot_zip_next
abbrev U8:=@PySem.Heap.get?_update_ne
abbrev U9:=@Bool.or_eq_true
abbrev Va:=@PySem.Heap.dictOf_iff
abbrev Vb:=@List.mem_filterMap
abbrev Vc:=@PySem.W.codeRec_of
abbrev Vd:=@PySem.wpAny_setField
abbrev Ve:=@List.forIn_nil
abbrev Vf:=@PySem.repr_of_reads'
abbrev Vg:=@PySem.wpAny_Name
abbrev Vh:=@PySem.wpAny_call
abbrev Vi:=@Option.isSome_map
abbrev Vj:=@bne_self_eq_false
abbrev Vk:=@List.set_comm
abbrev Vl:=@congrArg
abbrev Vm:=@List.any_cons
abbrev Vn:=@List.map_id
abbrev Vo:=@List.cons_append
abbrev Vp:=@List.mem_reverse
abbrev Vq:=@List.isEmpty_iff
abbrev Vr:=@List.nil_sublist
abbrev Vs:=Value → Shared → Prop
abbrev Vt:=List (Addr × Obj)
abbrev Vu:=List (PyData × PyData)
abbrev Vv:=Str → Option Value
abbrev Vw:=List PyData
abbrev Vx:=List Addr
abbrev Vy:=List Value
abbrev Vz:=PySem.W.Frag
abbrev VA:=List Str
abbrev VB:=List Expr
abbrev VC:=Array (Option Value)
abbrev VD:=Array DictEntry
abbrev VE:=Array Value
abbrev VF:=Array Nat
abbrev VG:=Program
abbrev VH:=Around
abbrev VI:=Shared
end PySem
set_option bootstrap.genMatcherCode false
set_option genSizeOfSpec false
set_option hygiene false in
local macro_rules
 |`(#[1])=>`(((s.heap.push (seqObj "list" #[] 0)).update s.heap.objs.size (Obj.mapSeq (·++vs.toArray))))
 |`(#[2])=>`(starEach (e::es) X.env=(false,eval e X.env)::starEach es X.env)
 |`(#[3])=>`((by omega))
 |`(#[4])=>`((by decide))
 |`(#[5])=>`((by rfl))
 |`(#[6])=>`((by simp))
 |`(#[7])=>`((by kernel_rfl))
 |`(#[8])=>`((by decide +kernel))
 |`(#[9])=>`(s.heap.objs.size)
 |`(#[10])=>`(Inv X pins σ H s)
 |`(#[11])=>`((aJ X own scope C s2 H2 fp pins))
 |`(#[12])=>`((model X.prog X.w))
 |`(#[13])=>`((WD ns ss))
 |`(#[14])=>`((model prog w))
 |`(#[15])=>`((fk (iF P w) P w K mg base N qual scope f cd A outer s H E))
 |`(#[16])=>`((X.env.qual ++ "<lambda>"))
 |`(#[17])=>`((ak eK (ae 1) (aj (.int 0))))
 |`(#[18])=>`((aa (ae 0) ai))
 |`(#[19])=>`((bF (aj (.bool false))))
 |`(#[20])=>`((backTo pos (starEach es X.env)))
noncomputable section
set_option compiler.extract_closed false
set_option Elab.async false
set_option linter.all false
set_option maxRecDepth 100000
namespace L2
open PySem PySem.Spec PyProof.Rows
noncomputable abbrev Key:=Sum Int Str
noncomputable def tF:Key->Value->Bool
 |.inl k,v=>Value.isInt k v
 |.inr x,v=>Value.isStrOf x v
noncomputable def PC(w:World):Key->Int
 |.inl k=>hashInt k
 |.inr x=>hashStr w x
theorem ck:∀{k:Key} {v:Value},tF k v=true->(∃i t,k=Sum.inl i/\v=Value.int i t)\/(∃x t,k=Sum.inr x/\v=Value.str x t)
 |.inl i,v,h=>by
  obtain⟨t,e⟩:=Value.isInt_shape h
  simp_all
 |.inr x,v,h=>by obtain⟨t,e⟩:=Value.isStrOf_shape h;exact .inr ⟨x,t,rfl,e⟩
theorem CZ(i:Int)(t:Tok):tF (.inl i) (.int i t)=true:=by simp[tF,Value.isInt]
theorem C0(x:Str)(t:Tok):tF (.inr x) (.str x t)=true:=by simp[tF,Value.isStrOf]
theorem Kt(a b:Int):decide ((Sum.inl a:Key)=Sum.inl b)=(a==b):=by
 grind
theorem Ku(a b:Str):decide ((Sum.inr a:Key)=Sum.inr b)=decide (a=b):=by
 grind
theorem Kw(a:Int)(b:Str):decide ((Sum.inl a:Key)=Sum.inr b)=false:=S7 (λq=>nomatch q)
theorem Kx(a:Str)(b:Int):decide ((Sum.inr a:Key)=Sum.inl b)=false:=S7 (λq=>nomatch q)
noncomputable def cf(prog:VG)(w:World):PySem.KeyKind prog w Key where
 is:=tF
 hash:=PC w
 inj:=λv a b ha hb=>by
  rcases ck ha with⟨i,t,rfl,rfl⟩|⟨x,t,rfl,rfl⟩
  ·rcases ck hb with⟨j,u,rfl,e⟩|⟨y,u,rfl,e⟩
   ·injection e with e1 _;rw[e1]
   ·exact nomatch e
  ·rcases ck hb with⟨j,u,rfl,e⟩|⟨y,u,rfl,e⟩
   ·exact nomatch e
   ·injection e with e1 _;rw[e1]
 byValue:=λk v h=>by rcases ck h with⟨i,t,rfl,rfl⟩|⟨x,t,rfl,rfl⟩<;>rfl
 pyHash:=λhv h=>by
  rcases ck hv with⟨i,t,rfl,rfl⟩|⟨x,t,rfl,rfl⟩
  ·exact wpAny_pyHash_int h
  ·exact wpAny_pyHash_str h
 eqBool:=λhu hv h=>by
  rcases ck hu with⟨i,t,rfl,rfl⟩|⟨x,t,rfl,rfl⟩
  ·rcases ck hv with⟨j,u,rfl,rfl⟩|⟨y,u,rfl,rfl⟩
   ·rw[Kt]at h;exact wpAny_eqBool_int h
   ·rw[Kw]at h;exact SeqAt.EqAt.int_str i t y u _ _ _ _ h
  ·rcases ck hv with⟨j,u,rfl,rfl⟩|⟨y,u,rfl,rfl⟩
   ·rw[Kx]at h;exact SeqAt.EqAt.str_int x t j u _ _ _ _ h
   ·rw[Ku]at h;exact wpAny_eqBool_str h
 «strs» := λk x t v h=>by
  rcases ck h with⟨i,u,rfl,e⟩|⟨y,u,rfl,e⟩
  ·exact nomatch e
  ·injection e with e1 _;subst e1;cases v<;>rfl
theorem yP(prog:VG)(w:World)(i:Int)(t:Tok):(cf prog w).is (.inl i) (.int i t)=true:=CZ i t
theorem yQ(prog:VG)(w:World)(x:Str)(t:Tok):(cf prog w).is (.inr x) (.str x t)=true:=C0 x t
inductive V where
 |non|bl (b:Bool)|int (i:Int)|str (x:Str)|byt (b:Array UInt8)|flt (b:UInt64)|ref (a:Addr)|ty (n:String)
 deriving DecidableEq
noncomputable def RelV:V->Value->Prop
 |.non,u=>u=Value.none
 |.bl b,u=>u=Value.bool b
 |.int i,u=>∃t,u=Value.int i t
 |.str x,u=>∃t,u=Value.str x t
 |.byt b,u=>∃t,u=Value.bytes b t
 |.flt b,u=>∃t,u=Value.float b t
 |.ref a,u=>u=Value.ref a
 |.ty n,u=>u=Value.type n
noncomputable abbrev Vals:List V->Vy->Prop:=Paired RelV
theorem Vals.length(r:Vals xs us):xs.length=us.length:=Sr r
theorem Vals.get:∀{xs:List V} {us:Vy} {i:Nat} {x:V},Vals xs us->xs[i]?=some x->∃u,us[i]?=some u/\RelV x u
 |_,_,_,_,.nil,e=>by simp at e
 |_,_,0,_,.cons r _,e=>by grind
 |_,_,i+1,x,.cons _ t,e=>by
  obtain⟨u,h1,h2⟩:=Vals.get (i:=i) (x:=x) t (by simp_all)
  simp_all
theorem Vals.set(r:RelV x u):∀{xs:List V} {us:Vy} (i:Nat),Vals xs us->Vals (xs.set i x) (us.set i u)
 |_,_,_,.nil=>.nil
 |_,_,0,.cons _ t=>.cons r t
 |_,_,i+1,.cons q t=>.cons q (Vals.set r i t)
theorem Vals.append:∀{xs ys:List V} {us ws:Vy},Vals xs us->Vals ys ws->Vals (xs++ys) (us++ws)
 |_,_,_,_,.nil,s=>s
 |_,_,_,_,.cons r t,s=>.cons r (Vals.append t s)
theorem Vals.take:∀{xs:List V} {us:Vy} (n:Nat),Vals xs us->Vals (xs.take n) (us.take n)
 |_,_,0,_=>.nil
 |_,_,_+1,.nil=>.nil
 |_,_,n+1,.cons r t=>.cons r (Vals.take n t)
theorem Vals.drop:∀{xs:List V} {us:Vy} (n:Nat),Vals xs us->Vals (xs.drop n) (us.drop n)
 |_,_,0,r=>r
 |_,_,_+1,.nil=>.nil
 |_,_,n+1,.cons _ t=>Vals.drop n t
noncomputable def tG:Option V->Option Value->Prop
 |some v,some u=>RelV v u
 |none,none=>True
 |_,_=>False
noncomputable def KV{κ:Type}:List (κ×V)->List (κ×Value)->Prop:=Paired λ(p:κ×V) (q:κ×Value)=>p.1=q.1/\RelV p.2 q.2
noncomputable def kV:Key->V
 |.inl i=>.int i
 |.inr x=>.str x
inductive HO where
 |lst (xs:List V)
 |tup (xs:List V)
 |dK (kvs:List (Key×V))|dT (kvs:List (List Key×V))
 |set (S:Int->Bool) (n:Nat)
 |ins (C dx:Addr) (fs:List (Str×V))
 |own (x:Addr)
 |xd (fs:List (Str×V))
 |met (f x:Addr)
 |rng (lo hi:Int)
 |frz (o:Obj) (u:HO)
 |tbl (ps:VE)
 |ext (φ:Heap->Prop)
noncomputable abbrev Hp:=Addr->Option HO
noncomputable def upd(H:Hp)(a:Addr)(o:HO):Hp:=λb=>if b=a then some o else H b
theorem aG:upd H a o a=some o:=by grind[upd]
theorem au(h:b≠a):upd H a o b=H b:=by simp[upd,h]
theorem Nf{H:Hp}(h:H a=some o)(h':H b=some u)(d:o≠u):a≠b:=by
 grind
theorem aB{H:Hp}(h:H a=some o)(h':H b=none):a≠b:=by
 grind
section
variable (P:VG) (w:World)
noncomputable def bW(H:Hp)(h:Heap)(a:Addr):HO->Prop
 |.lst xs=>xs.length<=sizeLine/\∃(its:Vy) (n:Nat),Vals xs its/\h.get? a=some {cls:=.type "list",data:=.seq its.toArray n}
 |.tup xs=>xs.length<=sizeLine/\∃its:Vy,Vals xs its/\IsTup h a its.toArray
 |.dK kvs=>kvs.length<=sizeLine/\(a==sysModules)=false/\∃vs,KV kvs vs/\h.DictOf (cf P w) a vs
 |.dT kvs=>kvs.length<=sizeLine/\(a==sysModules)=false/\∃xs:List (List Key×Addr×Value),
   Paired (λ(p:List Key×V) (q:List Key×Addr×Value)=>p.1=q.1/\H q.2.1=some (.tup (p.1.map kV))/\RelV p.2 q.2.2) kvs xs /\
   ∃o es ep,h.get? a=some o/\o.ExactDict/\o.data=.dict es ep/\es.toList=xs.map (entryOfKey (tupleKind (cf P w)))/\(xs.map (·.1)).Nodup
 |.set S n=>h.SetOf (intKind P w) a S n
 |.ins C dx fs=>H dx=some (.own a)/\fs.length<=1000/\dx≠a/\h.get? a=some (PySem.W.instObj C dx) /\
   ∃mA,h.Ns1 dx mA/\(∀f,tG (fs.lookup f) (mA f))/\PySem.Within mA (fs.map (·.1))
 |.own _=>∃o,h.get? a=some o
 |.xd fs=>∃mA,h.Ns1 a mA/\∀f,tG (fs.lookup f) (mA f)
 |.rng lo hi=>∃t u v,h.get? a=some {cls:=.type "range",data:=.fields #[.int lo t,.int hi u,.int 1 v]}
 |.frz o u=>h.get? a=some o/\bW H h a u
 |.tbl ps=>h.get? a=some {cls:=.none,data:=.fields ps}
 |.met f x=>h.get? a=some (PySem.W.methodObj (.ref f) (.ref x))
 |.ext φ=>φ h/\(∃o,h.get? a=some o)/\∀h1 h2:Heap,φ h1->(∀o,h1.get? a=some o->h2.get? a=some o)->φ h2
noncomputable def ky(H:Hp)(h:Heap):Prop:=∀a o,H a=some o->bW P w H h a o
end
section
variable {P:VG} {w:World} {H H':Hp} {h h':Heap} {a:Addr} {o:HO}
theorem bW.lt(x:bW P w H h a o):a<h.objs.size:=by
 cases o with
 |lst xs=>obtain⟨_,_,_,_,e⟩:=x;exact R7 e
 |tup xs=>obtain⟨_,_,_,p⟩:=x;exact p.lt
 |dK kvs=>obtain⟨_,_,_,_,o,_,_,e,_⟩:=x;exact R7 e
 |dT kvs=>obtain⟨_,_,_,_,o,_,_,e,_⟩:=x;exact R7 e
 |set S n=>obtain⟨o,_,_,_,e,_⟩:=x;exact R7 e
 |ins C dx fs=>obtain⟨_,_,_,e,_⟩:=x;exact R7 e
 |own y=>obtain⟨_,e⟩:=x;exact R7 e
 |xd fs=>obtain⟨_,⟨_,_,_,e,_⟩,_⟩:=x;exact R7 e
 |rng lo hi=>obtain⟨_,_,_,e⟩:=x;exact R7 e
 |frz ob u=>obtain⟨e,_⟩:=x;exact R7 e
 |tbl ps=>exact R7 x
 |met f y=>exact R7 x
 |ext φ=>obtain⟨_,⟨_,e⟩,_⟩:=x;exact R7 e
theorem Paired.C1:∀{l₁:List α} {l₂:List β},Paired F l₁ l₂->(∀a b,F a b->G a b)->Paired G l₁ l₂
 |_,_,.nil,_=>.nil
 |_,_,.cons r t,f=>.cons (f _ _ r) (Paired.C1 t f)
theorem bW.nQ(x:bW P w H h a o)(k:∀b u,(b=a\/H b=some (.own a))->h.get? b=some u->h'.get? b=some u)
 (ho:∀b,H b=some (.own a)->H' b=some (.own a))(ht:∀b xs,H b=some (.tup xs)->H' b=some (.tup xs)):bW P w H' h' a o:=by
 induction o with
 |lst xs=>obtain⟨z,its,n,r,e⟩:=x;exact⟨z,its,n,r,k _ _ (.inl rfl) e⟩
 |tup xs=>obtain⟨z,its,r,ob,e,c⟩:=x;exact⟨z,its,r,ob,k _ _ (.inl rfl) e,c⟩
 |dK kvs=>obtain⟨z,y,vs,r,ob,es,ep,e,c⟩:=x;exact⟨z,y,vs,r,ob,es,ep,k _ _ (.inl rfl) e,c⟩
 |dT kvs=>obtain⟨z,y,xs,r,ob,es,ep,e,c⟩:=x;exact⟨z,y,xs,Paired.C1 r λp q z=>⟨z.1,ht _ _ z.2.1,z.2.2⟩,ob,es,ep,k _ _ (.inl rfl) e,c⟩
 |set S n=>obtain⟨ob,es,ep,t,e,c⟩:=x;exact⟨ob,es,ep,t,k _ _ (.inl rfl) e,c⟩
 |ins C dx fs=>obtain⟨d,z,ne,e,mA,⟨od,es,ep,e2,c⟩,r⟩:=x;exact⟨ho _ d,z,ne,k _ _ (.inl rfl) e,mA,⟨od,es,ep,k _ _ (.inr d) e2,c⟩,r⟩
 |own y=>obtain⟨ob,e⟩:=x;exact⟨ob,k _ _ (.inl rfl) e⟩
 |xd fs=>obtain⟨mA,⟨od,es,ep,e,c⟩,r⟩:=x;exact⟨mA,⟨od,es,ep,k _ _ (.inl rfl) e,c⟩,r⟩
 |rng lo hi=>obtain⟨t,u,v,e⟩:=x;exact⟨t,u,v,k _ _ (.inl rfl) e⟩
 |frz ob u ih=>obtain⟨e,q⟩:=x;exact⟨k _ _ (.inl rfl) e,ih q⟩
 |tbl ps=>have e:h.get? a=some {cls:=.none,data:=.fields ps}:=x;show h'.get? a=some {cls:=.none,data:=.fields ps};exact k a _ (.inl rfl) e
 |met f y=>have e:h.get? a=some (PySem.W.methodObj (.ref f) (.ref y)):=x;show h'.get? a=some (PySem.W.methodObj (.ref f) (.ref y));exact k a _ (.inl rfl) e
 |ext φ=>obtain⟨p,⟨o,e⟩,st⟩:=x;exact⟨st _ _ p λo q=>k _ _ (.inl rfl) q,⟨o,k _ _ (.inl rfl) e⟩,st⟩
theorem ky.lt(x:ky P w H h)(e:H a=some o):a<h.objs.size:=(x a o e).lt
theorem ky.fresh(x:ky P w H h)(e:h.objs.size<=a):H a=none:=by
 cases q:H a with
 |none=>rfl
 |some u=>exact absurd (Sa (x.lt q) e) (Sj _)
theorem ky.kept(x:ky P w H h)(k:∀b u,h.get? b=some u->h'.get? b=some u):ky P w H h':=λa o e=>
 (x a o e).nQ (λb u _ q=>k b u q) (λ_ q=>q) λ_ _ q=>q
theorem ky.laid(x:ky P w H h)(k:∀b u,h.get? b=some u->h'.get? b=some u)(hp:h.objs.size<=a)(new:bW P w (upd H a o) h' a o):ky P w (upd H a o) h':=λb u e=>by
 have hn:=x.fresh hp;by_cases hb:b=a
 ·grind[aG]
 ·rw[au hb]at e;exact(x b u e).nQ (λc v _ q=>k c v q) (λc q=>by rw[au (aB q hn)];exact q) λc xs q=>by rw[au (aB q hn)];exact q
end
noncomputable def Rd(H:Hp)(a:Addr)(u:HO):Prop:=H a=some u\/∃o,H a=some (.frz o u)
theorem Rd.ok(r:Rd H a u)(x:ky P w H h):bW P w H h a u:=by
 rcases r with r|⟨o,r⟩
 ·exact x a u r
 ·obtain⟨_,q⟩:=x a _ r;exact q
noncomputable def MZ:Option HO->Prop
 |some (.lst _)=>True
 |some (.dK _)=>True
 |some (.dT _)=>True
 |some (.set _ _)=>True
 |some (.ins _ _ _)=>True
 |some (.ext _)=>True
 |_=>False
section
variable {P:VG} {w:World} {H:Hp} {h h':Heap} {x e:Addr} {o':HO}
theorem ky.write(ok:ky P w H h)(mu:MZ (H x))(he:e=x\/H e=some (.own x))(k:∀b u,b≠e->h.get? b=some u->h'.get? b=some u)(heo:∃u,h'.get? e=some u)
 (new:bW P w (upd H x o') h' x o'):ky P w (upd H x o') h':=λb u q=>by
 have nown:∀c y,H c=some (.own y)->c≠x:=λc y r z=>by subst z;rw[r]at mu;exact mu
 have ntup:∀c xs,H c=some (.tup xs)->c≠x:=λc xs r z=>by subst z;rw[r]at mu;exact mu
 by_cases hb:b=x
 ·grind[aG]
 ·rw[au hb]at q;by_cases hbe:b=e
  ·have q':H b=some (.own x):=by
    rcases he with z|z
    ·exact absurd (hbe.trans z) hb
    ·rw[hbe];exact z
   rw[q]at q';cases q';obtain⟨v,hv⟩:=heo;exact⟨v,by rw[hbe];exact hv⟩
  ·refine(ok b u q).nQ (λc v hc r=>k c v ?_ r) (λc r=>by rw[au (nown c b r)];exact r) λc xs r=>by rw[au (ntup c xs r)];exact r
   rcases hc with rfl|hc
   ·exact hbe
   ·rintro rfl;rcases he with z|z
    ·exact nown c b hc z
    ·rw[hc]at z;cases z;exact hb rfl
end
structure Un(fs ex:Vx)(H H':Hp)(h h':Heap):Prop where
 keep:∀b o,h.get? b=some o->H b=none->b∉fs->b∉ex->h'.get? b=some o
 slot:∀b o,h.get? b=some o->H b=none->b∈fs->b∉ex->∃sl,h'.get? b=some {o with slots:=sl}
 free:∀b o,h.get? b=some o->H b=none->b∉ex->H' b=none
 there:∀b o,h.get? b=some o->b∉ex->∃o',h'.get? b=some o'
 tups:∀b xs,H b=some (.tup xs)->H' b=some (.tup xs)
 frzs:∀b o u,H b=some (.frz o u)->H' b=some (.frz o u)
 tbls:∀b ps,H b=some (.tbl ps)->∃more,H' b=some (.tbl (ps++more))
section
variable {fs fs' ex ex':Vx} {H H1 H2:Hp} {h h1 h2 h':Heap} {a x e:Addr} {o:HO}
theorem Un.any(u:Un fs ex H H1 h h1)(q:h.get? b=some ob)(n:H b=none)(hx:b∉ex):∃sl,h1.get? b=some {ob with slots:=sl}:=by
 by_cases hb:b∈fs
 ·exact u.slot b ob q n hb hx
 ·exact⟨ob.slots,u.keep b ob q n hb hx⟩
theorem Un.kept(k:∀b u,h.get? b=some u->h'.get? b=some u):Un fs ex H H h h':=
 ⟨λb ob q _ _ _=>k b ob q,λb ob q _ _ _=>⟨ob.slots,k b ob q⟩,λ_ _ _ n _=>n,λb ob q _=>⟨ob,k b ob q⟩,λ_ _ q=>q,λ_ _ _ q=>q,λ_ ps q=>⟨#[],by grind⟩⟩
theorem Un.refl:Un fs ex H H h h:=Un.kept λ_ _ q=>q
theorem Un.laid(k:∀b u,h.get? b=some u->h'.get? b=some u)(hp:h.objs.size<=a)(hn:H a=none):Un fs ex H (upd H a o) h h' where
 keep:=λb u q _ _ _=>k b u q
 slot:=λb u q _ _ _=>⟨u.slots,k b u q⟩
 free:=λb u q n _=>by rw[au (Sg (Sa (R7 q) hp))];exact n
 there:=λb u q _=>⟨u,k b u q⟩
 tups:=λb xs q=>by rw[au (aB q hn)];exact q
 frzs:=λb u xs q=>by rw[au (aB q hn)];exact q
 tbls:=λb ps q=>⟨#[],by rw[au (aB q hn),q];simp⟩
theorem Un.write(mu:MZ (H x))(he:e=x\/H e=some (.own x))(k:∀b u,b≠e->h.get? b=some u->h'.get? b=some u)(heo:∃u,h'.get? e=some u):Un fs ex H (upd H x o) h h':=by
 have hx:∀b,H b=none->b≠x:=λb n z=>by subst z;rw[n]at mu;exact mu
 have hb:∀b,H b=none->b≠e:=λb n z=>by
  grind
 have hm:∀b u,H b=some u->¬ MZ (some u)->b≠x:=λb u q nm z=>by grind
 refine⟨λb u q n _ _=>k b u (hb b n) q,λb u q n _ _=>⟨u.slots,k b u (hb b n) q⟩,λb u q n _=>by rw[au (hx b n)];exact n,λb u q _=>?_,
  λb xs q=>by rw[au (hm b _ q λz=>z)];exact q,λb u xs q=>by rw[au (hm b _ q λz=>z)];exact q,λb ps q=>⟨#[],by rw[au (hm b _ q λz=>z),q];simp⟩⟩
 grind
end
noncomputable def wc(h:Heap)(H:Hp):Vx:=(List.range h.objs.size).filter λa=>(H a).isSome
noncomputable def vK(h:Heap)(H:Hp):Heap:=PySem.W.hideAll h (wc h H)
theorem C2(h:Heap)(H:Hp):(vK h H).objs.size=h.objs.size:=PySem.W.hideAll_size _ _
theorem En(e:h.get? b=some o)(n:H b=none):(vK h H).get? b=some o:=
 PySem.W.hideAll_get _ e λhm=>by
  have q  := (TV.mp hm).2
  grind
theorem Hq(e:(vK h H).get? b=some o):h.get? b=some o/\H b=none:=by
 have e'  := PySem.W.of_hideAll _ e;refine⟨e',?_⟩
 cases q:H b with
 |none=>rfl
 |some x=>
  have hm:b∈wc h H:=TV.mpr ⟨SM.mpr (R7 e'),by simp[q]⟩;have z:(vK h H).get? b=none:=PySem.W.hideAll_none _ hm
  grind
noncomputable def Hr(g h:Heap)(L:Addr):Vt:=(List.range h.objs.size).filterMap λa=>if a=L\/(g.get? a).isSome=true then none else(h.get? a).map λo=>(a,o)
noncomputable def rest(g h:Heap)(L d:Addr):Vt:=(Hr g h L).filter λp=>decide (p.1≠d)
structure Mod(K:Vz)(mg:Vv)(base:Heap):Prop where
 kin:K.In base
 glob:base.Ns mainGlobals mg
 blt:∃mb,base.Ns builtinsNs mb/\∀x:Str,x ≠ "__name__" -> mb x=bootBuiltins x
 nolimit:base.NoLimit
structure Cx where
 prog:VG
 w:World
 K:Vz
 mg:Str->Option Value
 base:Heap
 A:VH
 N:VA
 s₀:VI
 H₀:Hp
 env:Env
 outer:List Env
 stack:List Env
 ex:Vx
 fn:Str->Bool
 calm:Bool
 pn:Vt
 xe:Vs
noncomputable def kK(l:List Env):Vx:=l.filterMap (·.frame)
noncomputable abbrev Cx.fs(X:Cx):Vx:=kK X.outer
noncomputable def Eo(sc:Scope)(x:Str):Prop:=sc.names.lookup x=some .local\/sc.names.lookup x=some .cell\/sc.names.lookup x=some .free
noncomputable def Loc(sc:Scope)(x:Str):Prop:=sc.names.lookup x=some .local\/sc.names.lookup x=some .cell
noncomputable def Look(env:Env)(h:Heap)(m:Vv)(x:Str)(u:Value):Prop:=
 (env.kindOf x=some .local/\m x=some u)\/((env.kindOf x=some .cell\/env.kindOf x=some .free)/\∃c,env.cells.lookup x=some c/\h.IsCell c (some u))
structure Cx.Ok(X:Cx):Prop where
 mod:Mod X.K X.mg X.base
 kind:X.env.scope.kind=.function
 glob:X.env.globals=mainGlobals
 blt:X.env.builtins=builtinsNs
 above:X.s₀.heap.objs.size<=X.env.locals
 inj:∀x y c,X.env.cells.lookup x=some c->X.env.cells.lookup y=some c->x=y
 has:∀x,(X.env.kindOf x=some .cell\/X.env.kindOf x=some .free)->∃c,X.env.cells.lookup x=some c
 cab:∀x c,X.fn x=true->X.env.cells.lookup x=some c->X.s₀.heap.objs.size<=c
 hd:X.calm=true->X.A.handled=none
 frames:X.A.frames=some X.stack
 stk:X.stack=X.outer\/(X.stack=X.env::X.outer/\X.env.frame=some X.env.locals)
 exf:∀b∈X.ex,b≠X.env.locals/\∀x c,X.env.cells.lookup x=some c->c≠b
 bs:∀b o,X.base.get? b=some o->X.s₀.heap.get? b=some o/\X.H₀ b=none
 bsz:X.base.objs.size<=X.s₀.heap.objs.size
 noex:∀b o,X.base.get? b=some o->b∉X.ex
 exfs:∀b∈X.ex,b∉X.fs
 jB:X.s₀.heap.FunFrames X.base X.outer
 frf:∀b∈X.fs,X.H₀ b=none
structure Inv(X:Cx)(pins:Vt)(σ:List (Option V))(H:Hp)(s:VI):Prop where
 ok:X.Ok
 os:s.os=X.s₀.os
 bare:AllBare s.gens
 base:Un X.fs X.ex X.H₀ H X.s₀.heap s.heap
 loc:∃m,s.heap.Ns X.env.locals m/\∀(i:Nat) (x:Str) (v:V),X.N[i]?=some x->σ[i]?=some (some v)->Eo X.env.scope x->∃u,RelV v u/\Look X.env s.heap m x u
 cell:∀x c,X.env.cells.lookup x=some c->∃v,s.heap.IsCell c v
 free:H X.env.locals=none
 freeC:∀x c,X.env.cells.lookup x=some c->H c=none
 pin:∀p∈X.pn++pins,s.heap.get? p.1=some p.2/\H p.1=none/\p.1≠X.env.locals/\p.1∉X.fs/\∀v,p.2.data≠.cell v
 hok:ky X.prog X.w H s.heap
 len:σ.length=X.N.length
section
variable {X:Cx} {pins:Vt} {σ:List (Option V)} {H H':Hp} {s:VI} {h':Heap}
theorem Cx.Ok.PD(ok:X.Ok)(e:X.base.get? b=some o):b∉X.fs:=λhb=>by
 have:=(ok.jB.mem hb).1
 grind
theorem Inv.bs(I:#[10]):∀b o,X.base.get? b=some o->s.heap.get? b=some o/\H b=none:=λb o e=>
 ⟨I.base.keep b o (I.ok.bs b o e).1 (I.ok.bs b o e).2 (I.ok.PD e) (I.ok.noex b o e),I.base.free b o (I.ok.bs b o e).1 (I.ok.bs b o e).2 (I.ok.noex b o e)⟩
theorem Inv.bk(I:#[10]):∀b o,X.base.get? b=some o->s.heap.get? b=some o:=λb o e=>(I.bs b o e).1
theorem Inv.mod(I:#[10]):Mod X.K X.mg X.base:=I.ok.mod
theorem Inv.qr(I:#[10]):X.K.In s.heap:=I.ok.mod.kin.keeps I.bk
theorem Inv.lt(I:#[10]):X.env.locals<#[9]:=by obtain⟨_,hn,_⟩:=I.loc;exact hn.lt
theorem Inv.sz(I:#[10]):X.s₀.heap.objs.size<=#[9]:=Sd I.ok.above (Uy I.lt)
theorem Inv.Ep(I:#[10]){a:Addr}(h:#[9]<=a):a∉X.fs:=λhb=>by obtain⟨_,o,ho,_⟩:=I.ok.jB.mem hb;exact absurd (Sa (R7 ho) (Sd I.sz h)) (Sj _)
theorem Inv.Ky(I:#[10]):∀x c,X.env.cells.lookup x=some c->c≠X.env.locals:=λx c e z=>by
 obtain⟨v,o,ho,hd⟩:=I.cell x c e;obtain⟨m,⟨o',es,ep,ho',hd',_⟩,_⟩:=I.loc
 grind
theorem Inv.jB(I:#[10]):s.heap.FunFrames X.base X.outer:=by
 have all:∀(l:List Env),(∀b∈kK l,b∈X.fs)->X.s₀.heap.FunFrames X.base l->s.heap.FunFrames X.base l:=by
  intro l
  induction l with
  |nil=>intro _ _;trivial
  |cons env r ih=>intro hs hl;obtain⟨hk,⟨L,o,hf,hn,ho,hd⟩,hr⟩:=hl;have hL  := hs L (by simp_all[kK]);obtain⟨sl,e⟩:=I.base.slot L o ho (I.ok.frf L hL) hL λz=>I.ok.exfs L z hL;exact⟨hk,⟨L,_,hf,hn,e,hd⟩,ih (λb hb=>hs b (by simp_all[kK])) hr⟩
 exact all X.outer (λ_ hb=>hb) I.ok.jB
theorem Inv.stack(I:#[10]):s.heap.FunFrames X.base X.stack:=by
 rcases I.ok.stk with e|⟨e,hf⟩
 ·rw[e];exact I.jB
 ·rw[e];obtain⟨m,hn,_⟩:=I.loc;refine .cons (by grind[I.ok.kind]) hf hn ?_ I.jB;exact Heap.get?_none_of_le (Sd I.ok.bsz I.ok.above)
theorem Inv.iV(I:#[10]):∀b∈kK X.stack,b∈X.env.locals::X.fs:=λb hb=>by
 rcases I.ok.stk with e|⟨e,hf⟩
 ·grind
 simp_all[kK]
theorem Inv.xn(I:#[10]):∀b∈kK X.stack,H b=none:=λb hb=>by
 rcases Sf.mp (I.iV b hb)with e|hb
 ·rw[e];exact I.free
 ·obtain⟨_,o,ho,_⟩:=I.ok.jB.mem hb;exact I.base.free b o ho (I.ok.frf b hb) λz=>I.ok.exfs b z hb
theorem Inv.step{ch:Vx}(I:#[10])
 (hch:∀b∈ch,(b∈X.ex\/X.s₀.heap.objs.size<=b)/\b≠X.env.locals/\(∀x c,X.env.cells.lookup x=some c->c≠b)/\∀p∈X.pn++pins,p.1≠b)
 (keep:∀b o,b≠X.env.locals->b∉X.fs->b∉ch->s.heap.get? b=some o->H b=none->h'.get? b=some o)
 (slot:∀b o,b≠X.env.locals->b∈X.fs->b∉ch->s.heap.get? b=some o->H b=none->∃sl,h'.get? b=some {o with slots:=sl})(free:∀b o,b∉ch->s.heap.get? b=some o->H b=none->H' b=none)
 (there:∀b o,b∉ch->s.heap.get? b=some o->∃o',h'.get? b=some o')
 (tups:∀b xs,H b=some (.tup xs)->H' b=some (.tup xs))(frzs:∀b o u,H b=some (.frz o u)->H' b=some (.frz o u))(tbls:∀b ps,H b=some (.tbl ps)->∃more,H' b=some (.tbl (ps++more)))
 (ns:∀m,s.heap.Ns X.env.locals m->h'.Ns X.env.locals m)(hok:ky X.prog X.w H' h')(hg:AllBare g') :
  Inv X pins σ H' {s with heap:=h',gens:=g',drawn:=d',toks:=t'}:=by
 have neL:∀b o,X.s₀.heap.get? b=some o->b≠X.env.locals:=λb o e=>Sg (Sa (R7 e) I.ok.above)
 have neC:∀b o,X.s₀.heap.get? b=some o->b∉X.ex->b∉ch:=λb o e hx hb=>by
  rcases(hch b hb).1 with z|z
  ·exact hx z
  ·exact absurd (Sa (R7 e) z) (Sj _)
 have cellK:∀x c,X.env.cells.lookup x=some c->∀v,s.heap.IsCell c v->h'.IsCell c v:=by
  rintro x c e v ⟨o,ho,hd⟩;have nch:c∉ch:=λz=>(hch c z).2.2.1 x c e rfl;by_cases hc:c∈X.fs
  ·obtain⟨sl,q⟩:=slot c o (I.Ky x c e) hc nch ho (I.freeC x c e);exact⟨_,q,hd⟩
  ·exact⟨o,keep c o (I.Ky x c e) hc nch ho (I.freeC x c e),hd⟩
 refine⟨I.ok,I.os,hg,⟨λb o e n hb hx=>?_,λb o e n hb hx=>?_,λb o e n hx=>?_,λb o e hx=>?_,λb xs e=>tups b xs (I.base.tups b xs e),λb o xs e=>frzs b o xs (I.base.frzs b o xs e),λb ps e=>?_⟩,?_,λx c e=>?_,?_,λx c e=>?_,λp hp=>?_,hok,I.len⟩
 ·exact keep b o (neL b o e) hb (neC b o e hx) (I.base.keep b o e n hb hx) (I.base.free b o e n hx)
 ·obtain⟨sl,e1⟩:=I.base.slot b o e n hb hx;obtain⟨sl',e2⟩:=slot b _ (neL b o e) hb (neC b o e hx) e1 (I.base.free b o e n hx);exact⟨sl',e2⟩
 ·obtain⟨o',e1⟩:=I.base.there b o e hx;exact free b o' (neC b o e hx) e1 (I.base.free b o e n hx)
 ·obtain⟨o',e1⟩:=I.base.there b o e hx;exact there b o' (neC b o e hx) e1
 ·obtain⟨m1,e1⟩:=I.base.tbls b ps e;obtain⟨m2,e2⟩:=tbls b _ e1;exact⟨m1++m2,by rw[e2,Array.append_assoc]⟩
 ·obtain⟨m,hn,hl⟩:=I.loc;refine⟨m,ns m hn,λi x v e1 e2 e3=>?_⟩;obtain⟨u,r,l⟩:=hl i x v e1 e2 e3;refine⟨u,r,?_⟩;rcases l with l|⟨k,c,e,z⟩
  ·exact .inl l
  ·exact .inr ⟨k,c,e,cellK x c e _ z⟩
 ·obtain⟨v,z⟩:=I.cell x c e;exact⟨v,cellK x c e v z⟩
 ·obtain⟨m,⟨o,_,_,ho,_⟩,_⟩:=I.loc;exact free _ o (λz=>(hch _ z).2.1 rfl) ho I.free
 ·obtain⟨v,o,ho,hd⟩:=I.cell x c e;exact free c o (λz=>(hch c z).2.2.1 x c e rfl) ho (I.freeC x c e)
 ·obtain⟨e,n,ne,nf,d⟩:=I.pin p hp;have nch:p.1∉ch:=λz=>(hch p.1 z).2.2.2 p hp rfl;exact⟨keep p.1 p.2 ne nf nch e n,free p.1 p.2 nch e n,ne,nf,d⟩
theorem Inv.un(I:#[10])(u:Un X.fs [] H H' s.heap h')(hok:ky X.prog X.w H' h'):Inv X pins σ H' {s with heap:=h',toks:=t'}:=by
 obtain⟨m,⟨o,es,ep,ho,r⟩,_⟩:=id I.loc;obtain⟨sl,hL⟩:=u.any ho I.free #[6]
 exact I.step (ch:=[]) (λ_ z=>nomatch z) (λb o _ hb _ e n=>u.keep b o e n hb #[6]) (λb o _ hb _ e n=>u.slot b o e n hb #[6]) (λb o _ e n=>u.free b o e n #[6]) (λb o _ e=>u.there b o e #[6]) u.tups u.frzs u.tbls (λm' hm=>by
  obtain⟨o',es',ep',ho',r'⟩:=hm;rw[ho]at ho';cases ho'
  exact⟨_,es',ep',hL,r'⟩) hok I.bare
theorem Inv.call(I:#[10])(u:Un (kK X.stack) ch H H' s.heap h')(hok:ky X.prog X.w H' h')(hg:AllBare g')
 (hch:∀b∈ch,(b∈X.ex\/X.s₀.heap.objs.size<=b)/\b≠X.env.locals/\(∀x c,X.env.cells.lookup x=some c->c≠b)/\∀p∈X.pn++pins,p.1≠b) :
  Inv X pins σ H' {s with heap:=h',gens:=g',drawn:=d',toks:=t'}:=by
 obtain⟨m,⟨o,es,ep,ho,r⟩,_⟩:=id I.loc;obtain⟨sl,hL⟩:=u.any ho I.free λz=>(hch _ z).2.1 rfl
 exact I.step hch (λb o hL hb hc e n=>u.keep b o e n (λz=>(Sf.mp (I.iV b z)).elim hL hb) hc) (λb o _ _ hc e n=>u.any e n hc) (λb o hc e n=>u.free b o e n hc) (λb o hc e=>u.there b o e hc) u.tups u.frzs u.tbls (λm' hm=>by
  obtain⟨o',es',ep',ho',r'⟩:=hm;rw[ho]at ho';cases ho'
  exact⟨_,es',ep',hL,r'⟩) hok hg
theorem Inv.turned(I:#[10])(k:∀b o,b≠it->s.heap.get? b=some o->h'.get? b=some o)(hn:H it=none)(hL:it≠X.env.locals)
 (h1:it∈X.ex\/X.s₀.heap.objs.size<=it)(h2:∀x c,X.env.cells.lookup x=some c->c≠it)(h3:∀p∈X.pn++pins,p.1≠it):Inv X pins σ H {s with heap:=h',toks:=t'}:=by
 have nit:∀b u,H b=some u->b≠it:=λb u e z=>by grind
 refine I.step (g':=s.gens) (d':=s.drawn) (ch:=[it]) (λb hb=>?_) (λb o _ _ hc e _=>k b o (λz=>hc (by simp[z])) e) (λb o _ _ hc e _=>⟨o.slots,k b o (λz=>hc (by simp[z])) e⟩) (λ_ _ _ _ n=>n)
  (λb o hc e=>⟨o,k b o (λz=>hc (by simp[z])) e⟩) (λ_ _ e=>e) (λ_ _ _ e=>e) (λb ps e=>⟨#[],by grind⟩) (λm hm=>?_) (λb u e=>?_) I.bare
 ·have e:b=it:=by grind
  subst e;exact⟨h1,hL,h2,h3⟩
 ·obtain⟨o,es,ep,ho,r⟩:=hm;exact⟨o,es,ep,k _ o (UD hL) ho,r⟩
 ·refine(I.hok b u e).nQ (λc v hc q=>k c v ?_ q) (λ_ q=>q) λ_ _ q=>q
  grind
theorem Inv.tok(I:#[10])(t:Nat):Inv X pins σ H {s with toks:=t}:=I.un (h':=s.heap) (t':=t) Un.refl I.hok
theorem Inv.kept(I:#[10])(k:∀b u,s.heap.get? b=some u->h'.get? b=some u):Inv X pins σ H {s with heap:=h',toks:=t'}:=I.un (Un.kept k) (I.hok.kept k)
theorem Inv.laid{a:Addr}(I:#[10])(k:∀b u,s.heap.get? b=some u->h'.get? b=some u)(hp:#[9]<=a)(new:bW X.prog X.w (upd H a o) h' a o) :
  Inv X pins σ (upd H a o) {s with heap:=h',toks:=t'}:=I.un (Un.laid k hp (I.hok.fresh hp)) (I.hok.laid k hp new)
theorem Inv.write(I:#[10])(mu:MZ (H x))(he:e=x\/H e=some (.own x))(k:∀b u,b≠e->s.heap.get? b=some u->h'.get? b=some u)(heo:∃u,h'.get? e=some u)
 (new:bW X.prog X.w (upd H x o) h' x o):Inv X pins σ (upd H x o) {s with heap:=h',toks:=t'}:=I.un (Un.write mu he k heo) (I.hok.write mu he k heo new)
theorem Inv.o9(I:#[10])(h:∀p∈pins',s.heap.get? p.1=some p.2/\H p.1=none/\p.1≠X.env.locals/\p.1∉X.fs/\∀v,p.2.data≠.cell v):Inv X pins' σ H s:=
 ⟨I.ok,I.os,I.bare,I.base,I.loc,I.cell,I.free,I.freeC,λp hp=>(Sw.mp hp).elim (λz=>I.pin p (Tu _ z)) (h p),I.hok,I.len⟩
theorem yR{N:VA}(hN:N.Nodup){i j:Nat}(a:N[i]?=some x)(b:N[j]?=some x):i=j:=by obtain⟨h1,e1⟩:=R6.mp a;obtain⟨h2,e2⟩:=R6.mp b;exact(List.getElem_inj hN).mp (e1.trans e2.symm)
theorem wd(I:#[10])(hN:X.N.Nodup)(hi:X.N[i]?=some x)(hx:Loc X.env.scope x)(r:RelV v u)
 (h:∀s',Inv X pins (σ.set i (some v)) H s'->(∃a,Heap.SameBut a s.heap s'.heap/\(a=X.env.locals\/X.env.cells.lookup x=some a))->Q () s')(hf:X.fn x=true\/X.env.scope.names.lookup x=some .local:=by first|exact .inl rfl|exact .inr rfl|assumption):wpAny M A (storeName X.env x u) Q E s:=by
 obtain⟨m,hn,hl⟩:=id I.loc;have hcls:(X.env.scope.kind == .class || (X.env.scope.kind == .module&&X.env.locals != X.env.globals))=false:=by rw[I.ok.kind];rfl
 have hiσ:i<σ.length:=by grind[I.len]
 have Ky:=I.Ky
 have tracked:∀{a:Addr} {h':Heap},(∃o,s.heap.get? a=some o/\H a=none)->Heap.SameBut a s.heap h'->ky X.prog X.w H h':=λ{a h'} ha hs b ob e=>by
  obtain⟨_,_,hfree⟩:=ha;refine(I.hok b ob e).nQ (λc w' hc q=>(hs.2 c ?_).trans q) (λ_ q=>q) λ_ _ q=>q;rintro rfl;rcases hc with rfl|hc
  ·rw[hfree]at e;cases e
  ·rw[hfree]at hc;cases hc
 rcases hx with hk|hk
 ·refine wpAny_storeName_local hk hn (λh' hn' hs=>?_) hcls;obtain⟨oL,_,_,hoL,_⟩:=id hn;refine h _ ⟨I.ok,I.os,I.bare,⟨λb o e n hb hx=>?_,λb o e n hb hx=>?_,I.base.free,λb o e hx=>?_,I.base.tups,I.base.frzs,I.base.tbls⟩,⟨_,hn',λj y v' e1 e2 e3=>?_⟩,λy c e=>?_,I.free,I.freeC,λp hp=>?_,tracked ⟨oL,hoL,I.free⟩ hs,by simpa using I.len⟩ ⟨_,hs,.inl rfl⟩
  ·exact(hs.2 b (Sg (Sa (R7 e) I.ok.above))).trans (I.base.keep b o e n hb hx)
  ·obtain⟨sl,e1⟩:=I.base.slot b o e n hb hx;exact⟨sl,(hs.2 b (Sg (Sa (R7 e) I.ok.above))).trans e1⟩
  ·obtain⟨o',e1⟩:=I.base.there b o e hx;exact⟨o',(hs.2 b (Sg (Sa (R7 e) I.ok.above))).trans e1⟩
  ·by_cases hj:j=i
   ·subst hj;rw[hi]at e1;cases e1;rw[Tb hiσ]at e2;cases e2;exact⟨u,r,.inl ⟨hk,by simp⟩⟩
   ·rw[TR (UD hj)]at e2;obtain⟨u',r',q⟩:=hl j y v' e1 e2 e3;refine⟨u',r',?_⟩;rcases q with⟨k,e⟩|⟨k,c,e,z⟩
    ·refine .inl ⟨k,?_⟩;have:y≠x:=λe=>hj (yR hN e1 (e▸hi));simp[this,e]
    ·exact .inr ⟨k,c,e,z.sameBut hs (Ky y c e)⟩
  ·obtain⟨w',z⟩:=I.cell y c e;exact⟨w',z.sameBut hs (Ky y c e)⟩
  ·obtain⟨e,n,ne,nf,d⟩:=I.pin p hp;exact⟨(hs.2 p.1 ne).trans e,n,ne,nf,d⟩
 ·have hfn:X.fn x=true:=by
   rcases hf with z|z
   ·exact z
   ·rw[z]at hk;cases hk
  obtain⟨c,hc⟩:=I.ok.has x (.inl hk);obtain⟨w',z⟩:=I.cell x c hc;refine wpAny_storeName_cell I.ok.kind hk hc z (λh' hc' hs=>?_);obtain⟨oc,hoc,hocd⟩:=id z;refine h {s with heap:=h'} ⟨I.ok,I.os,I.bare,⟨λb o e n hb hx=>?_,λb o e n hb hx=>?_,I.base.free,λb o e hx=>?_,I.base.tups,I.base.frzs,I.base.tbls⟩,⟨m,hn.sameBut hs (UD (Ky x c hc)),λj y v' e1 e2 e3=>?_⟩,λy c' e=>?_,I.free,I.freeC,λp hp=>?_,tracked ⟨oc,hoc,I.freeC x c hc⟩ hs,by simpa using I.len⟩ ⟨c,hs,.inr hc⟩
  ·exact(hs.2 b (Sg (Sa (R7 e) (I.ok.cab x c hfn hc)))).trans (I.base.keep b o e n hb hx)
  ·obtain⟨sl,e1⟩:=I.base.slot b o e n hb hx;exact⟨sl,(hs.2 b (Sg (Sa (R7 e) (I.ok.cab x c hfn hc)))).trans e1⟩
  ·obtain⟨o',e1⟩:=I.base.there b o e hx;exact⟨o',(hs.2 b (Sg (Sa (R7 e) (I.ok.cab x c hfn hc)))).trans e1⟩
  ·by_cases hj:j=i
   ·subst hj;rw[hi]at e1;cases e1;rw[Tb hiσ]at e2;cases e2;exact⟨u,r,.inr ⟨.inl hk,c,hc,hc'⟩⟩
   ·rw[TR (UD hj)]at e2;obtain⟨u',r',q⟩:=hl j y v' e1 e2 e3;refine⟨u',r',?_⟩;rcases q with q|⟨k,c',e,z'⟩
    ·exact .inl q
    ·refine .inr ⟨k,c',e,z'.sameBut hs ?_⟩;rintro rfl;exact hj (yR hN e1 (I.ok.inj _ _ _ e hc▸hi))
  ·by_cases hcc:c'=c
   ·subst hcc;exact⟨_,hc'⟩
   ·obtain⟨w2,z2⟩:=I.cell y c' e;exact⟨w2,z2.sameBut hs hcc⟩
  ·obtain⟨e,n,ne,nf,d⟩:=I.pin p hp;refine⟨(hs.2 p.1 ?_).trans e,n,ne,nf,d⟩;intro q;rw[q,hoc]at e;have q':oc=p.2:=S8 e;exact d w' (by rw[<- q'];exact hocd)
theorem gq(I:#[10])(hN:X.N.Nodup)(hi:X.N[i]?=some x)(hx:Loc X.env.scope x)(r:RelV v u)
 (h:∀s',Inv X pins (σ.set i (some v)) H s'->Q () s')(hf:X.fn x=true\/X.env.scope.names.lookup x=some .local:=by first|exact .inl rfl|exact .inr rfl|assumption):wpAny M A (storeName X.env x u) Q E s:=
 wd I hN hi hx r (λs' I' _=>h s' I') hf
theorem Inv.yS(I:#[10])(ho:s'.os=s.os)(u:Un (kK X.stack) ch H H' s.heap s'.heap)(hok:ky X.prog X.w H' s'.heap)(hg:AllBare s'.gens)
 (hch:∀b∈ch,(b∈X.ex\/X.s₀.heap.objs.size<=b)/\b≠X.env.locals/\(∀x c,X.env.cells.lookup x=some c->c≠b)/\∀p∈X.pn++pins,p.1≠b):Inv X pins σ H' s':=by
 obtain⟨h',g',d',t',o'⟩:=s';have e  := ho;subst e;exact I.call u hok hg hch
end
noncomputable abbrev XK:=Value->Option Addr->Hp->Prop
noncomputable abbrev St:=List (Option V)
noncomputable abbrev VK:=V->Hp->Prop
noncomputable abbrev TE:=St->Hp->VK->Prop
noncomputable abbrev TT:=St->Hp->(Bool->Hp->Prop)->Prop
noncomputable abbrev TA:=St->Hp->(List V->Hp->Prop)->Prop
structure Ends where
 nx:St->Hp->Prop
 rt:VK
 bk:St->Hp->Prop:=λ_ _=>False
 ct:St->Hp->Prop:=λ_ _=>False
noncomputable abbrev TS:=Ends->St->Hp->Prop
noncomputable def EP(X:Cx)(pins:Vt)(σ:St)(Q:VK)(u:Value)(s':VI):Prop:=∃v H',Inv X pins σ H' s'/\RelV v u/\Q v H'
noncomputable def TP(X:Cx)(pins:Vt)(σ:St)(Q:Bool->Hp->Prop)(b:Bool)(s':VI):Prop:=∃H',Inv X pins σ H' s'/\Q b H'
noncomputable def AP(X:Cx)(pins:Vt)(σ:St)(Q:List V->Hp->Prop)(us:Vy)(s':VI):Prop:=∃vs H',Inv X pins σ H' s'/\Vals vs us/\Q vs H'
noncomputable def SP(X:Cx)(pins:Vt)(D:Ends)(f:Flow)(s':VI):Prop:=
 match f with
 |.next=>∃σ' H',Inv X pins σ' H' s'/\D.nx σ' H'
 |.brk=>∃σ' H',Inv X pins σ' H' s'/\D.bk σ' H'
 |.cont=>∃σ' H',Inv X pins σ' H' s'/\D.ct σ' H'
 |.ret u=>∃v σ' H',Inv X pins σ' H' s'/\RelV v u/\D.rt v H'
noncomputable def PE(X:Cx)(e:Expr)(t:TE):Prop:=
 ∀(pins:Vt) (s:VI) (σ:St) (H:Hp) (Q:VK),#[10]->t σ H Q->wpAny #[12] X.A (eval e X.env) (EP X pins σ Q) X.xe s
noncomputable def PT(X:Cx)(e:Expr)(t:TT):Prop:=
 ∀(pins:Vt) (s:VI) (σ:St) (H:Hp) (Q:Bool->Hp->Prop),#[10]->t σ H Q->wpAny #[12] X.A (isTrue e X.env (eval e X.env)) (TP X pins σ Q) X.xe s
noncomputable def PW(X:Cx)(e:Expr)(t:TT):Prop:=
 ∀(whole:Sem Value) (pins:Vt) (s:VI) (σ:St) (H:Hp) (Q:Bool->Hp->Prop),#[10]->t σ H Q->wpAny #[12] X.A (isTrue e X.env whole) (TP X pins σ Q) X.xe s
theorem PW.pt(h:PW X e t):PT X e t:=h _
noncomputable def PA(X:Cx)(es:VB)(t:TA):Prop:=
 ∀(pos:Pos) (pins:Vt) (s:VI) (σ:St) (H:Hp) (Q:List V->Hp->Prop),#[10]->t σ H Q->wpAny #[12] X.A (spliced #[20]) (AP X pins σ Q) X.xe s
noncomputable def PS(X:Cx)(st:Stmt)(t:TS):Prop:=
 ∀(pins:Vt) (s:VI) (σ:St) (H:Hp) (D:Ends),#[10]->t D σ H->wpAny #[12] X.A (exec st X.env) (SP X pins D) X.xe s
noncomputable def vL(X:Cx)(st:List Stmt)(t:TS):Prop:=
 ∀(pins:Vt) (s:VI) (σ:St) (H:Hp) (D:Ends),#[10]->t D σ H->wpAny #[12] X.A (execs st X.env) (SP X pins D) X.xe s
theorem bS{M:Model}{A:VH}{E:Vs}{s:VI}(h:wpAny M A t Q E s)(hQ:∀a s,Q a s->Q' a s):wpAny M A t Q' E s:=S3 h hQ λ_ _ x=>x
section
variable {X:Cx}
noncomputable def Hs(i:Nat):TE:=λσ H Q=>∃v,σ[i]?=some (some v)/\Q v H
noncomputable def tC(v:V):TE:=λ_ H Q=>Q v H
theorem xo{pos:Pos}(hN:X.N[i]?=some x)(hv:Eo X.env.scope x)(hd:(x==("__debug__" : Str))=false:=by decide)(hcd:(x==("__classdict__" : Str))=false:=by decide):PE X (.Name x pos) (Hs i):=by
 intro pins s σ H Q I h;obtain⟨v,e,h⟩:=h;obtain⟨m,hn,hl⟩:=I.loc;obtain⟨u,r,l⟩:=hl i x v hN e hv;have fin:EP X pins σ Q u s:=⟨v,H,I,r,h⟩;rcases l with⟨hk,hm⟩|⟨hk,c,hc,hcell⟩
 ·exact Vg (wpAny_loadName_local I.ok.kind hk hn hm fin) hd
 ·rcases hk with hk|hk
  ·exact Vg (wpAny_loadName_cell I.ok.kind hk hc hcell fin) hd
  ·exact Vg (wpAny_loadName_free I.ok.kind hk hc hcell fin hcd) hd
theorem tH:PE X (.Constant (.int i) j pos) (tC (.int i)):=λ_ _ _ H _ I h=>wpAny_Constant_int ⟨.int i,H,I.tok _,⟨_,rfl⟩,h⟩
theorem yT:PE X (.Constant (.bool b) j pos) (tC (.bl b)):=λ_ _ _ H _ I h=>Constant_bool ⟨.bl b,H,I,rfl,h⟩
theorem Er:PE X (.Constant .none j pos) (tC .non):=λ_ _ _ H _ I h=>Constant_none ⟨.non,H,I,rfl,h⟩
theorem tI:PE X (.Constant (.str x) j pos) (tC (.str x)):=λ_ _ _ H _ I h=>Calls.Constant_str ⟨.str x,H,I.tok _,⟨_,rfl⟩,h⟩
noncomputable def Gl(X:Cx)(x:Str):Prop:=X.env.kindOf x=some .globalImplicit
theorem mI{σ:St}(I:#[10])(hg:Gl X x)(hm:X.mg x=some u)(h:Q u s)
 (hd:(x==("__debug__" : Str))=false:=by decide):wpAny #[12] X.A (eval (.Name x pos) X.env) Q E s:=
 Calls.Name_function_global I.ok.kind hg (Calls.loadGlobal_global (by rw[I.ok.glob];exact I.mod.glob.keeps I.bk) hm h) hd
theorem nR{E:Vs}{σ:St}{pos:Pos}(I:#[10])(hg:Gl X x)(hm:X.mg x=none)(hv:bootBuiltins x=some u)(h:Q u s)
 (hn:x ≠ "__name__" := by decide)(hd:(x==("__debug__" : Str))=false:=by decide):wpAny #[12] X.A (eval (.Name x pos) X.env) Q E s:=by
 obtain⟨mb,h1,h2⟩:=I.mod.blt;exact Calls.Name_function_global I.ok.kind hg (Calls.loadGlobal_builtin (by rw[I.ok.glob];exact I.mod.glob.keeps I.bk) hm (by rw[I.ok.blt];exact h1.keeps I.bk) ((h2 x hn).trans hv) h) hd
theorem sV(hg:Gl X x)(hm:X.mg x=some u)(r:RelV v u)(hd:(x==("__debug__" : Str))=false:=by decide):PE X (.Name x pos) (tC v):=
 λ_ _ _ H _ I h=>mI I hg hm ⟨v,H,I,r,h⟩ hd
theorem BC{pos:Pos}(hg:Gl X x)(hm:X.mg x=none)(hv:bootBuiltins x=some u)(r:RelV v u)(hn:x ≠ "__name__" := by decide)(hd:(x==("__debug__" : Str))=false:=by decide):PE X (.Name x pos) (tC v):=
 λ_ _ _ H _ I h=>nR I hg hm hv ⟨v,H,I,r,h⟩ hn hd
variable {a b:Expr} {ta tb:TE} {pos:Pos}
noncomputable def tB(t:TE):TT:=λσ H Q=>t σ H λx H1=>∃c,x=.bl c/\Q c H1
theorem Au(h:PE X e t)(he:∀whole,isTrue e X.env whole=(do let v <- whole;standAt e.pos;holding [v] (truthy v)):=by intro _;rfl):PT X e (tB t):=by intro pins s σ H Q I hw;refine isTrue_plain (bS (h pins s σ H _ I hw) λv s1 ⟨x,H1,I1,r1,q1⟩=>?_) (he _);obtain⟨d,rfl,q⟩:=q1;cases r1;exact S0 ⟨H1,I1,q⟩
variable {tA tB':TT} {rest:VB}
noncomputable def Es(t u:TT):TT:=λσ H Q=>t σ H λc H1=>if c=true then u σ H1 Q else Q false H1
noncomputable def pb(t u:TT):TT:=λσ H Q=>t σ H λc H1=>if c=true then Q true H1 else u σ H1 Q
noncomputable def cY(t:TT):TT:=λσ H Q=>t σ H λc H1=>Q (!c) H1
theorem Ht(ha:PT X a tA):PW X (.BoolOp .And [a] pos) tA:=by
 intro wh pins s σ H Q I h;refine isTrue_and (bS (ha pins s σ H Q I h) λc s1 e=>?_)
 cases c with
 |true=>exact isTrue_and_nil e
 |false=>exact e
theorem Et(ha:PT X a tA):PW X (.BoolOp .Or [a] pos) tA:=by
 intro wh pins s σ H Q I h;refine isTrue_or (bS (ha pins s σ H Q I h) λc s1 e=>?_)
 cases c with
 |false=>exact isTrue_or_nil e
 |true=>exact e
theorem Kz(ha:PT X a tA)(hb:PW X (.BoolOp .And (b::rest) pos) tB'):PW X (.BoolOp .And (a::b::rest) pos) (Es tA tB'):=by
 intro wh pins s σ H Q I h;refine isTrue_and (bS (ha pins s σ H _ I h) λc s1 ⟨H1,I1,q1⟩=>?_)
 cases c with
 |true=>exact hb wh pins s1 σ H1 Q I1 q1
 |false=>assumption
theorem JU(ha:PT X a tA)(hb:PW X (.BoolOp .Or (b::rest) pos) tB'):PW X (.BoolOp .Or (a::b::rest) pos) (pb tA tB'):=by
 intro wh pins s σ H Q I h;refine isTrue_or (bS (ha pins s σ H _ I h) λc s1 ⟨H1,I1,q1⟩=>?_)
 cases c with
 |true=>assumption
 |false=>exact hb wh pins s1 σ H1 Q I1 q1
theorem Eu(ha:PT X a tA):PT X (.UnaryOp .Not a pos) (cY tA):=by intro pins s σ H Q I h;exact isTrue_not (ha pins s σ H _ I h)
theorem KA(h:PE X a t):PE X (.BoolOp op [a] pos) t:=λpins s σ H Q I hw=>BoolOp_one (h pins s σ H Q I hw)
noncomputable def Rz(t:TT)(ta tb:TE):TE:=λσ H Q=>t σ H λc H1=>if c=true then ta σ H1 Q else tb σ H1 Q
theorem yU(hc:PT X c tA)(ha:PE X a ta)(hb:PE X b tb):PE X (.IfExp c a b pos) (Rz tA ta tb):=by
 intro pins s σ H Q I h;refine wpAny_IfExp (bS (hc pins s σ H _ I h) λd s1 ⟨H1,I1,q1⟩=>?_)
 cases d with
 |true=>exact ha pins s1 σ H1 Q I1 q1
 |false=>exact hb pins s1 σ H1 Q I1 q1
end
noncomputable def gF(K:Vz)(H:Hp)(a:Addr)(xs:List V):Prop:=
 Rd H a (.lst xs) \/
  ∃(o:Obj) (its:VE) (n:Nat),K.lookup a=some o/\o.cls=.type "list" /\ o.dict=none/\o.data=.seq its n/\its.size<=sizeLine/\Vals xs its.toList
noncomputable def fW(K:Vz)(H:Hp)(a:Addr)(xs:List V):Prop:=
 Rd H a (.tup xs) \/
  ∃(o:Obj) (its:VE) (n:Nat),K.lookup a=some o/\o.cls=.type "tuple" /\ o.data=.seq its n/\its.size<=sizeLine/\Vals xs its.toList
noncomputable def PF:Value->Option V
 |.none=>some .non
 |.bool b=>some (.bl b)
 |.int i _=>some (.int i)
 |.str x _=>some (.str x)
 |.bytes b _=>some (.byt b)
 |.float b _=>some (.flt b)
 |.ref a=>some (.ref a)
 |.type n=>some (.ty n)
 |_=>none
theorem RelV.abs(r:RelV x u):PF u=some x:=by
 cases x with
 |non=>cases r;rfl
 |bl _=>cases r;rfl
 |int _=>obtain⟨t,rfl⟩:=r;rfl
 |str _=>obtain⟨t,rfl⟩:=r;rfl
 |byt _=>obtain⟨t,rfl⟩:=r;rfl
 |flt _=>obtain⟨t,rfl⟩:=r;rfl
 |ref _=>cases r;rfl
 |ty _=>cases r;rfl
theorem RelV.inj(r:RelV x u)(q:RelV y u):x=y:=S8 (r.abs.symm.trans q.abs)
theorem Vals.inj:∀{xs ys:List V} {us:Vy},Vals xs us->Vals ys us->xs=ys
 |_,_,_,.nil,.nil=>rfl
 |_,_,_,.cons r t,.cons r' t'=>by rw[r.inj r',Vals.inj t t']
section
variable {X:Cx} {pins:Vt} {σ:St} {H:Hp} {s:VI} {a:Addr} {xs ys:List V}
theorem gF.of{K:Vz}(h:H a=some (.lst xs)):gF K H a xs:=.inl (.inl h)
theorem fW.of{K:Vz}(h:H a=some (.tup xs)):fW K H a xs:=.inl (.inl h)
theorem Inv.list(I:#[10])(h:gF X.K H a xs):∃its:Vy,Vals xs its/\PlainL s.heap a its.toArray/\xs.length<=sizeLine:=by
 rcases h with h|⟨o,its,n,hk,hc,hd,hs,hz,r⟩
 ·obtain⟨z,its,n,r,e⟩:=h.ok I.hok;exact⟨its,r,⟨_,n,e,rfl,rfl,rfl⟩,z⟩
 ·refine⟨its.toList,r,⟨o,n,I.qr a o hk,hc,hd,by omega⟩,?_⟩;have e:=r.length
  grind
theorem Inv.tuple(I:#[10])(h:fW X.K H a xs):∃its:Vy,Vals xs its/\IsTup s.heap a its.toArray/\xs.length<=sizeLine:=by
 rcases h with h|⟨o,its,n,hk,hc,hs,hz,r⟩
 ·obtain⟨z,its,r,p⟩:=h.ok I.hok
  grind
 ·refine⟨its.toList,r,⟨o,I.qr a o hk,hc,n,by omega⟩,?_⟩;have e:=r.length
  grind
theorem Inv.Ew(I:#[10])(h:gF X.K H a xs)(h':gF X.K H a ys):xs=ys:=by
 obtain⟨its,r,⟨o,n,e,_,_,d⟩,_⟩:=I.list h;obtain⟨its',r',⟨o',n',e',_,_,d'⟩,_⟩:=I.list h';rw[e]at e';cases e';have:its=its':=by grind
 subst this;exact r.inj r'
theorem Inv.qt(I:#[10])(h:fW X.K H a xs)(h':fW X.K H a ys):xs=ys:=by
 obtain⟨its,r,⟨o,e,_,n,d⟩,_⟩:=I.tuple h;obtain⟨its',r',⟨o',e',_,n',d'⟩,_⟩:=I.tuple h';rw[e]at e';cases e';have:its=its':=by grind
 subst this;exact r.inj r'
end
noncomputable abbrev Cx.pd(X:Cx)(E:Vs):Cx:={X with xe:=E}
noncomputable abbrev Cx.C3(X:Cx):Cx:=X.pd λ_ _=>False
theorem Cx.Ok.pd{X:Cx}(ok:X.Ok)(E:Vs):(X.pd E).Ok:=
 ⟨ok.mod,ok.kind,ok.glob,ok.blt,ok.above,ok.inj,ok.has,ok.cab,ok.hd,ok.frames,ok.stk,ok.exf,ok.bs,ok.bsz,ok.noex,ok.exfs,ok.jB,ok.frf⟩
theorem Cx.Ok.hZ{X:Cx}(ok:(X.pd E).Ok):X.Ok:=
 ⟨ok.mod,ok.kind,ok.glob,ok.blt,ok.above,ok.inj,ok.has,ok.cab,ok.hd,ok.frames,ok.stk,ok.exf,ok.bs,ok.bsz,ok.noex,ok.exfs,ok.jB,ok.frf⟩
section
variable {X:Cx} {pins:Vt} {σ:St} {H:Hp} {s:VI} {E:Vs}
theorem Inv.pd(I:#[10])(E:Vs):Inv (X.pd E) pins σ H s:=⟨I.ok.pd E,I.os,I.bare,I.base,I.loc,I.cell,I.free,I.freeC,I.pin,I.hok,I.len⟩
theorem Inv.hZ(I:Inv (X.pd E) pins σ H s):#[10]:=⟨I.ok.hZ,I.os,I.bare,I.base,I.loc,I.cell,I.free,I.freeC,I.pin,I.hok,I.len⟩
theorem SP.hZ(h:SP (X.pd E) pins D f s'):SP X pins D f s':=by
 cases f with
 |next=>obtain⟨σ',H',I,q⟩:=h;exact⟨σ',H',I.hZ,q⟩
 |brk=>obtain⟨σ',H',I,q⟩:=h;exact⟨σ',H',I.hZ,q⟩
 |cont=>obtain⟨σ',H',I,q⟩:=h;exact⟨σ',H',I.hZ,q⟩
 |ret u=>obtain⟨v,σ',H',I,r,q⟩:=h;exact⟨v,σ',H',I.hZ,r,q⟩
end
section
variable {X:Cx} {st:Stmt} {rest:List Stmt} {t u:TS} {e:Expr} {te:TE} {pos:Pos}
noncomputable def Ng:TS:=λD σ H=>D.nx σ H
noncomputable def PH(t u:TS):TS:=λD σ H=>t {D with nx:=u D} σ H
theorem xp:vL X [] Ng:=λ_ _ σ H _ I h=>TX ⟨σ,H,I,h⟩
theorem gr(h1:PS X st t)(h2:vL X rest u):vL X (st::rest) (PH t u):=by
 intro pins s σ H D I h;refine wpAny_execs_cons (bS (h1 pins s σ H {D with nx:=u D} I h) λf s1 q=>?_)
 cases f with
 |next=>obtain⟨σ',H',I',q⟩:=q;exact h2 pins s1 σ' H' D I' q
 |ret v=>exact q
 |brk=>exact q
 |cont=>exact q
theorem mJ(h1:PS X st t):vL X [st] t:=by
 intro pins s σ H D I h;refine wpAny_execs_cons (bS (h1 pins s σ H D I h) λf s1 q=>?_)
 cases f with
 |next=>exact TX q
 |ret v=>exact q
 |brk=>exact q
 |cont=>exact q
theorem Inv.quiet{σ:St}(I:#[10]):interactive X.env=false:=by simp[interactive,I.ok.kind]
noncomputable def Nh(te:TE):TS:=λD σ H=>te σ H λ_ H1=>D.nx σ H1
theorem Hu(he:PE X e te)(hs:swapsWith e none pos.line X.env=pure false:=by rfl):PS X (.Expr e pos) (Nh te):=by intro pins s σ H D I h;exact wpAny_Expr_any (bS (he pins s σ H _ I h) (by rintro v s1 ⟨x,H1,I1,r1,q1⟩;exact⟨σ,H1,I1,q1⟩)) I.quiet hs
noncomputable def KC(te:TE):TS:=λD σ H=>te σ H D.rt
theorem qu(he:PE X e te):PS X (.Return (some e) pos) (KC te):=by intro pins s σ H D I h;exact wpAny_Return_some (bS (he pins s σ H _ I h) (by rintro v s1 ⟨x,H1,I1,r1,q1⟩;exact⟨x,σ,H1,I1,r1,q1⟩))
noncomputable def PJ(c:TT)(t u:TS):TS:=λD σ H=>c σ H λb H1=>if b=true then t D σ H1 else u D σ H1
theorem Ex(hc:PT X c tc)(ha:vL X a t)(hb:vL X b u):PS X (.If c a b pos) (PJ tc t u):=by
 intro pins s σ H D I h;refine wpAny_If (bS (hc pins s σ H _ I h) λd s1 ⟨H1,I1,q1⟩=>?_)
 cases d with
 |true=>exact ha pins s1 σ H1 D I1 q1
 |false=>exact hb pins s1 σ H1 D I1 q1
end
noncomputable abbrev TG:=V->St->Hp->(St->Hp->Prop)->Prop
noncomputable abbrev M0:=List V->St->Hp->(St->Hp->Prop)->Prop
noncomputable def PG(X:Cx)(target:Expr)(t:TG):Prop:=
 ∀(pins:Vt) (s:VI) (σ:St) (H:Hp) (v:V) (u:Value) (Q:St->Hp->Prop),#[10]->RelV v u->t v σ H Q ->
  wpAny #[12] X.A (assign target X.env u) (λ_ s'=>∃σ' H',Inv X pins σ' H' s'/\Q σ' H') X.xe s
noncomputable def M1(X:Cx)(ts:VB)(t:M0):Prop:=
 ∀(pins:Vt) (s:VI) (σ:St) (H:Hp) (vs:List V) (us:Vy) (Q:St->Hp->Prop),#[10]->Vals vs us->t vs σ H Q ->
  wpAny #[12] X.A (assignInOrder ((assignEach ts X.env).map (·.2)) us) (λ_ s'=>∃σ' H',Inv X pins σ' H' s'/\Q σ' H') X.xe s
noncomputable abbrev Ni:=V->V->V->Hp->(Hp->Prop)->Prop
noncomputable def KD(X:Cx)(t:Ni):Prop:=
 ∀(pins:Vt) (s:VI) (σ:St) (H:Hp) (o i v:V) (ov iv u:Value) (Q:Hp->Prop),#[10]->RelV o ov->RelV i iv->RelV v u->t o i v H Q ->
  wpAny #[12] X.A (setItem ov iv u) (λ_ s'=>∃H',Inv X pins σ H' s'/\Q H') X.xe s
section
variable {X:Cx} {pos:Pos}
noncomputable def ax(i:Nat):TG:=λv σ H Q=>Q (σ.set i (some v)) H
theorem Hv(hN:X.N.Nodup)(hi:X.N[i]?=some x)(hx:Loc X.env.scope x)(hf:X.fn x=true\/X.env.scope.names.lookup x=some .local:=by first|exact .inl rfl|exact .inr rfl|assumption):PG X (.Name x pos) (ax i):=by intro pins s σ H v u Q I r h;exact wpAny_assign_Name (gq I hN hi hx r (λs' I'=>⟨_,H,I',h⟩) hf)
noncomputable def jh:M0:=λvs σ H Q=>vs=[]/\Q σ H
noncomputable def cb(t:TG)(u:M0):M0:=λvs σ H Q=>∃v r,vs=v::r/\t v σ H λσ' H'=>u r σ' H' Q
theorem Hw:M1 X [] jh:=by intro pins s σ H vs us Q I r h;obtain⟨e,h⟩:=h;exact assignInOrder_nil ⟨σ,H,I,h⟩
theorem Ey(h1:PG X e t)(h2:M1 X es u)
 (hs:(assignEach (e::es) X.env).map (·.2)=assign e X.env::(assignEach es X.env).map (·.2):=by rfl):M1 X (e::es) (cb t u):=by
 intro pins s σ H vs us Q I r h;obtain⟨v,vr,e1,h⟩:=h;subst e1
 cases r with
 |cons r rr=>rw[hs];refine TJ (bS (h1 pins s σ H _ _ _ I r h) λ_ s1 ⟨σ1,H1,I1,q1⟩=>?_);exact h2 pins s1 σ1 H1 _ _ Q I1 rr q1
noncomputable def ji(K:Vz)(n:Nat)(t:M0):TG:=λv σ H Q=>∃a xs,v=.ref a/\fW K H a xs/\xs.length=n/\t xs σ H Q
theorem KG{k:Nat}(hc:X.calm=true)(h:M1 X es t)
 (hn:(assignEach es X.env).length=n:=by rfl)(hst:(assignEach es X.env).findIdx? (·.1)=none:=by rfl):PG X (.Tuple es k pos) (ji X.K n t):=by
 intro pins s σ H v u Q I r hw;obtain⟨a,xs,e1,hq,hl,hw⟩:=hw;subst e1;cases r;obtain⟨its,rv,ht,hz⟩:=I.tuple hq;refine assign_Tuple_tuple (I.ok.hd hc) ht (by simp[hn,<- hl,rv.length]) hst λh' hx=>?_;have I1:Inv X pins σ H {s with heap:=h'}:=I.kept λb o e=>hx b o (Sg (R7 e)) e;exact h pins _ σ H xs _ Q I1 #[3] hw
noncomputable def nS(to ti:TE)(t:Ni):TG:=λv σ H Q=>to σ H λo H1=>ti σ H1 λi H2=>t o i v H2 λH3=>Q σ H3
theorem KH(ho:PE X o to)(hi:PE X i ti)(hs:KD X t)
 (ha:∀v,assign (.Subscript o i pos) X.env v=(do
   let ov <- holding [v] (eval o X.env)
   let iv <- holding [v,ov] (eval i X.env)
   standAt pos
   holding [v,ov,iv] (setItem ov iv v)
   release [v,ov,iv] []):=by intro _;rfl):PG X (.Subscript o i pos) (nS to ti t):=by
 intro pins s σ H v u Q I r h;refine R0 (SH (bS (ho pins s σ H _ I h) λov s1 ⟨x,H1,I1,r1,q1⟩=>?_));refine R0 (SH (bS (hi pins s1 σ H1 _ I1 q1) λiv s2 ⟨y,H2,I2,r2,q2⟩=>?_));refine R0 (Uk (R0 (SH (bS (hs pins s2 σ H2 x y v ov iv u _ I2 r1 r2 r q2) λ_ s3 ⟨H3,I3,q3⟩=>?_))));exact wpAny_release ⟨σ,H3,I3,q3⟩
noncomputable def C4(te:TE)(g:TG):TS:=λD σ H=>te σ H λx H1=>g x σ H1 D.nx
theorem KI(he:PE X e te)(hg:PG X tg g)(hs:swapsWithSole [tg] e pos.line X.env=pure false:=by rfl)(hw:swappedStores [tg] e X.env=pure none:=by rfl)
 (h1:(assignEach [tg] X.env).map (·.2)=[assign tg X.env]:=by rfl):PS X (.Assign [tg] e pos) (C4 te g):=by
 intro pins s σ H D I h;refine wpAny_Assign_stores (bS (he pins s σ H _ I h) λv s1 ⟨x,H1,I1,r1,q1⟩=>?_) hs hw;rw[h1];exact bS (hg pins s1 σ H1 x v _ I1 r1 q1) λ_ s2 q=>q
theorem qv(hN:X.N.Nodup)(hi:X.N[i]?=some x)(hx:Loc X.env.scope x)(he:PE X e te)(hs:swapsWith e (some (.Name x pos')) pos.line X.env=pure false:=by rfl)(hf:X.fn x=true\/X.env.scope.names.lookup x=some .local:=by first|exact .inl rfl|exact .inr rfl|assumption) :
  PS X (.Assign [.Name x pos'] e pos) (C4 te (ax i)):=by
 intro pins s σ H D I h;refine wpAny_Assign_Name (bS (he pins s σ H _ I h) λv s1 ⟨y,H1,I1,r1,q1⟩=>?_) hs;exact gq I1 hN hi hx r1 (λs2 I2=>⟨_,H1,I2,q1⟩) hf
noncomputable def Nj(i j:Nat)(ta:TA):TS:=λD σ H=>ta σ H λvs H1=>∃v w,vs=[v,w]/\D.nx ((σ.set i (some v)).set j (some w)) H1
theorem KJ(hc:X.calm=true)(hN:X.N.Nodup)(hi:X.N[i]?=some x)(hj:X.N[j]?=some y)(hij:i≠j)
 (hx:X.env.scope.names.lookup x=some .local)(hy:X.env.scope.names.lookup y=some .local)(ha:PA X [a,b] ta)
 (hw:swappedStores [.Tuple [.Name x px,.Name y py] kt pt] (.Tuple [a,b] k2 pt2) X.env=pure (some [x,y]))
 (hs:swapsWithSole [.Tuple [.Name x px,.Name y py] kt pt] (.Tuple [a,b] k2 pt2) pos.line X.env=pure false:=by rfl) :
  PS X (.Assign [.Tuple [.Name x px,.Name y py] kt pt] (.Tuple [a,b] k2 pt2) pos) (Nj i j ta):=by
 intro pins s σ H D I h;rw[exec_Assign_arm];refine R0 (Uk ?_);rw[hs];refine R0 (R3 ?_);rw[if_neg #[4]];refine R0 (Tuple_ (bS (ha _ pins s σ H _ I h) λus s1 ⟨vs,H1,I1,r1,q1⟩=>?_));obtain⟨v,w,e1,q1⟩:=q1;subst e1
 obtain⟨u1,u2,rfl,rv,rw'⟩:∃u1 u2,us=[u1,u2]/\RelV v u1/\RelV w u2:=by
  cases r1 with
  |cons p q=>
   cases q with
   |cons p' q'=>cases q';exact⟨_,_,rfl,p,p'⟩
 refine Su ?_ (by show 2<=sizeLine;decide);have I2:Inv X pins σ H1 {s1 with heap:=s1.heap.push {cls:=.type "tuple",data:=.seq [u1,u2].toArray}}:=I1.kept (t':=s1.toks) λb o e=>R1 _ e;rw[hw];refine R0 (R3 ?_);show wpAny #[12] X.A (do rule "assign.swapped-stores";let items <- unpackItems (.ref s1.heap.objs.size) 2 none;assignInOrder [λv=>bindName X.env y v,λv=>bindName X.env x v] items.reverse;pure Flow.next) _ _ _;refine R0 (TH (R0 (unpackItems_tuple (items:=#[u1,u2]) (I.ok.hd hc) (IsTup.new s1.heap _) λh' hx'=>?_)));have I3:=I2.kept (h':=h') (t':=s1.toks) λb o e=>hx' b o (Sg (R7 e)) e;show wpAny _ _ (assignInOrder [λv=>bindName X.env y v,λv=>bindName X.env x v] [u2,u1] >>= λ_=>pure Flow.next) _ _ _;refine R0 (TJ (UW (gq I3 hN hj (.inl hy) rw' (λs2 I4=>?_) (.inr hy))));refine TJ (UW (gq I4 hN hi (.inl hx) rv (λs3 I5=>assignInOrder_nil (R3 ?_)) (.inr hx)));rw[Vk _ _ (UD hij)]at I5;exact⟨_,H1,I5,q1⟩
end
section
variable {X:Cx} {pos:Pos}
noncomputable def KL(c:TT)(tb:TS):TS:=λD σ H=>∃W:Nat->St->Hp->Prop,(∃m,W m σ H)/\∀m σ H,W m σ H ->
 c σ H λb H1=>if b=true then ∃N:St->Hp->Prop,(∀σ' H',N σ' H'->∃m',m'<m/\W m' σ' H')/\tb {D with nx:=N,ct:=N,bk:=D.nx} σ H1 else D.nx σ H1
theorem Ez(hp:PassesOwn #[12] X.A X.env X.xe)(hc:PT X c tc)(hb:vL X body tb):PS X (.While c body [] pos) (KL tc tb):=by
 intro pins s σ H D I h;obtain⟨W,⟨m0,w0⟩,turn⟩:=h;refine wpAny_While (codeAny_whileLoop (λn s'=>∃σ' H',Inv X pins σ' H' s'/\W n σ' H') ?_ m0 ⟨σ,H,I,w0⟩);rintro n s1 ⟨σ1,H1,I1,w1⟩;refine TY hp (bS (hc pins s1 σ1 H1 _ I1 (turn n σ1 H1 w1)) λb s2 ⟨H2,I2,q2⟩=>?_)
 cases b with
 |true=>
  obtain⟨N,hN,q2⟩:=q2;rw[if_pos rfl];refine TY hp (bS (hb pins s2 σ1 H2 _ I2 q2) λf s3 q3=>?_)
  cases f with
  |next=>obtain⟨σ3,H3,I3,n3⟩:=q3;obtain⟨m',hm,w3⟩:=hN σ3 H3 n3;exact⟨m',hm,σ3,H3,I3,w3⟩
  |cont=>obtain⟨σ3,H3,I3,n3⟩:=q3;obtain⟨m',hm,w3⟩:=hN σ3 H3 n3;exact⟨m',hm,σ3,H3,I3,w3⟩
  |brk=>exact q3
  |ret v=>exact q3
 |false=>rw[if_neg Sk];exact TX ⟨σ1,H2,I2,q2⟩
end
structure It where
 go:Nat->Hp->Prop
 yld:Nat->Hp->V->Hp->Prop
 stop:Nat->Hp->Prop
noncomputable def kP(X:Cx)(pins:Vt)(H:Hp)(b:Addr):Prop:=
 H b=none/\b≠X.env.locals/\b∉X.fs/\(b∈X.ex\/X.s₀.heap.objs.size<=b)/\(∀x c,X.env.cells.lookup x=some c->c≠b)/\∀p∈X.pn++pins,p.1≠b
theorem Inv.EA{σ:St}{b:Addr}(I:#[10])(hb:#[9]<=b)(hn:H' b=none):kP X pins H' b:=by
 refine⟨hn,Uz (Sa I.lt hb),I.Ep hb,.inr (Sd I.sz hb),λx c e z=>?_,λp hp z=>?_⟩
 ·obtain⟨v,q⟩:=I.cell x c e;exact absurd (Sa q.lt (by simp_all)) (Sj _)
 ·exact absurd (Sa (R7 (I.pin p hp).1) (by simp_all)) (Sj _)
structure Turn(P:VG)(w:World)(K:Vz)(tg:Expr)(J:It)(fp:Vx)(it:Addr)(tn:Nat->Heap->Prop):Prop where
 mem:it∈fp
 obj:∀i h,tn i h->∀b∈fp,∃o,h.get? b=some o/\∀v,o.data≠.cell v
 keep:∀i h h',tn i h->(∀b∈fp,∀o,h.get? b=some o->h'.get? b=some o)->tn i h'
 item:∀(X:Cx),X.prog=P->X.w=w->X.K=K->X.calm=true->∀(i:Nat) (pins:Vt) (s:VI) (σ:St) (H:Hp) (E:Vs),#[10]->(∀b∈fp,kP X pins H b)->tn i s.heap->J.go i H ->
  wpAny (model P w) X.A (pyNext (.ref it)) (λr s1=>∃u,r=some u /\
   wpAny (model P w) X.A (letOwnedTupleGo tg (.ref it) u) (λ_ s2=>∃x H',Inv X pins σ H' s2/\RelV x u/\J.yld i H x H'/\tn (i+1) s2.heap/\∀b∈fp,H' b=none) E s1) E s
 done:∀(X:Cx),X.prog=P->X.w=w->X.K=K->X.calm=true->∀(i:Nat) (pins:Vt) (s:VI) (σ:St) (H:Hp) (E:Vs),#[10]->(∀b∈fp,kP X pins H b)->tn i s.heap->J.stop i H ->
  wpAny (model P w) X.A (pyNext (.ref it)) (λr s1=>r=none/\Inv X pins σ H s1) E s
 self:∀(A:VH) (i:Nat) (s:VI) (Q:Vs) (E:Vs),tn i s.heap->Q (.ref it) s->wpAny (model P w) A (pyIter (.ref it)) Q E s
noncomputable abbrev TI:=St->Hp->(It->Hp->Prop)->Prop
noncomputable def QX(X:Cx)(pins:Vt)(σ:St)(tg:Expr)(R:It->Hp->Prop)(itv:Value)(s2:VI):Prop:=
 ∃(it:Addr) (fp:Vx) (tn:Nat->Heap->Prop) (J:It) (H':Hp),itv=.ref it/\Inv X pins σ H' s2/\Turn X.prog X.w X.K tg J fp it tn/\tn 0 s2.heap/\(∀b∈fp,kP X pins H' b)/\R J H'
noncomputable def PI(X:Cx)(tg iter:Expr)(wi:TI):Prop:=
 ∀(pins:Vt) (s:VI) (σ:St) (H:Hp) (R:It->Hp->Prop),#[10]->wi σ H R ->
  wpAny #[12] X.A (eval iter X.env) (λv s1=>wpAny #[12] X.A (pyIter v) (QX X pins σ tg R) X.xe s1) X.xe s
theorem BD(ho:s.heap.get? it=some o)(hc:o.cls=.type n)(hd:o.data=.fields vs)
 (hn:["enumerate", "zip", "dict_itemiterator", "dict_reverseitemiterator", "odict_iterator", "itertools.zip_longest", "itertools.pairwise"].contains n=false)(hQ:Q () s):wpAny M A (letOwnedTupleGo tg (.ref it) u) Q E s:=by
 unfold letOwnedTupleGo
 cases tg<;>first
  |exact R3 hQ
  | (cases u<;>first
    |exact R3 hQ
    | (refine R0 (U6 ho ?_)
       rw[hc,hd];show wpAny M A (if(["enumerate", "zip", "dict_itemiterator", "dict_reverseitemiterator", "odict_iterator", "itertools.zip_longest", "itertools.pairwise"].contains n&&vs[0]? == some (rawInt _))=true then _ else _) Q E s;rw[if_neg (by intro h;rw[hn,Bool.false_and]at h;cases h)]
       exact R3 hQ))
noncomputable def OR(K:Vz)(a:Addr):It:=
 ⟨λi H=>∃xs x,gF K H a xs/\xs[i]?=some x,λi H x H'=>H'=H/\∀xs,gF K H a xs->xs[i]?=some x,λi H=>∃xs,gF K H a xs/\xs.length<=i⟩
noncomputable def OS(K:Vz)(a:Addr):It:=
 ⟨λi H=>∃xs x,fW K H a xs/\xs[i]?=some x,λi H x H'=>H'=H/\∀xs,fW K H a xs->xs[i]?=some x,λi H=>∃xs,fW K H a xs/\xs.length<=i⟩
noncomputable def OT(lo:Int)(n:Nat):It:=⟨λi _=>i<n,λi H x H'=>H'=H/\x=.int (lo+i),λi _=>n<=i⟩
theorem C5{K:Vz}(a it:Addr):Turn P w K tg (OR K a) [it] it (λi h=>h.IsListIter it a i) where
 mem:=by simp
 obj:=λi h st b hb=>by
  have e:b=it:=by grind
  subst e;obtain⟨o,e,c,d⟩:=st
  grind
 keep:=λi h h' st k=>st.at λo e=>k it #[6] o e
 item:=by intro X hP hw hK hc i pins s σ H E I hf st hg;subst hP hw hK;obtain⟨xs,x,hq,hx⟩:=hg;obtain⟨its,rv,p,hz⟩:=I.list hq;obtain⟨u,hu,ru⟩:=rv.get hx;obtain⟨f0,f1,f2,f3,f4,f5⟩:=hf it #[6];refine wpAny_pyNext_list_item st p.isList (x:=u) (by simpa using hu) λh' st' sb=>?_;have I1:Inv X pins σ H {s with heap:=h'}:=I.turned (t':=s.toks) (λb o hb e=>(sb.2 b hb).trans e) f0 f1 f3 f4 f5;obtain⟨o,e,c,d⟩:=id st';exact⟨u,rfl,BD (s:={s with heap:=h'}) e c d #[4] ⟨x,H,I1,ru,⟨rfl,λys hy=>by rw[I.Ew hy hq];exact hx⟩,st',λb hb=>(hf b hb).1⟩⟩
 done:=by intro X hP hw hK hc i pins s σ H E I hf st hg;subst hP hw hK;obtain⟨xs,hq,hx⟩:=hg;obtain⟨its,rv,p,hz⟩:=I.list hq;obtain⟨f0,f1,f2,f3,f4,f5⟩:=hf it #[6];have hl:=rv.length;exact wpAny_pyNext_list_end (I.ok.hd hc) st p.isList (by simp;omega) λh' eb=>⟨rfl,I.turned (t':=s.toks) (λb o hb e=>eb b o hb e) f0 f1 f3 f4 f5⟩
 self:=λ_ _ _ _ _ st h=>wpAny_pyIter_listiter st h
theorem Av{K:Vz}(a it:Addr):Turn P w K tg (OS K a) [it] it (λi h=>h.IsTupleIter it a i) where
 mem:=by simp
 obj:=λi h st b hb=>by
  have e:b=it:=by grind
  subst e;obtain⟨o,e,c,d⟩:=st
  grind
 keep:=λi h h' st k=>st.at λo e=>k it #[6] o e
 item:=by intro X hP hw hK hc i pins s σ H E I hf st hg;subst hP hw hK;obtain⟨xs,x,hq,hx⟩:=hg;obtain⟨its,rv,p,hz⟩:=I.tuple hq;obtain⟨u,hu,ru⟩:=rv.get hx;obtain⟨f0,f1,f2,f3,f4,f5⟩:=hf it #[6];refine wpAny_pyNext_tuple_item st (show s.heap.IsTuple a its.toArray from p) (x:=u) (by simpa using hu) λh' st' sb=>?_;have I1:Inv X pins σ H {s with heap:=h'}:=I.turned (t':=s.toks) (λb o hb e=>(sb.2 b hb).trans e) f0 f1 f3 f4 f5;obtain⟨o,e,c,d⟩:=id st';exact⟨u,rfl,BD (s:={s with heap:=h'}) e c d #[4] ⟨x,H,I1,ru,⟨rfl,λys hy=>by rw[I.qt hy hq];exact hx⟩,st',λb hb=>(hf b hb).1⟩⟩
 done:=by intro X hP hw hK hc i pins s σ H E I hf st hg;subst hP hw hK;obtain⟨xs,hq,hx⟩:=hg;obtain⟨its,rv,p,hz⟩:=I.tuple hq;obtain⟨f0,f1,f2,f3,f4,f5⟩:=hf it #[6];have hl:=rv.length;exact wpAny_pyNext_tuple_end (I.ok.hd hc) st (show s.heap.IsTuple a its.toArray from p) (by simp;omega) λh' eb=>⟨rfl,I.turned (t':=s.toks) (λb o hb e=>eb b o hb e) f0 f1 f3 f4 f5⟩
 self:=λ_ _ _ _ _ st h=>wpAny_pyIter_tupleiter st h
theorem Aw{K:Vz}(it:Addr)(lo:Int)(n:Nat):Turn P w K tg (OT lo n) [it] it (λi h=>IsRangeIter h it (lo+(i:Nat)*1) ((n:Int)-(i:Nat)) 1) where
 mem:=by simp
 obj:=λi h st b hb=>by
  grind
 keep:=λi h h' st k=>k it #[6] _ st
 item:=by intro X hP hw hK hc i pins s σ H E I hf st hg;subst hP hw hK;obtain⟨f0,f1,f2,f3,f4,f5⟩:=hf it #[6];have W:=Walks.range (prog:=X.prog) (w:=X.w) (I.ok.hd hc) it lo 1 n;refine W.item i s _ _ hg st λv h' tk hv st' kk=>?_;obtain⟨t,rfl⟩:=hv;have I1:Inv X pins σ H {s with heap:=h',toks:=tk}:=I.turned (λb o hb e=>kk b o (by simpa using hb) e) f0 f1 f3 f4 f5;refine⟨_,rfl,BD (s:={s with heap:=h',toks:=tk}) (n := "range_iterator") st' rfl rfl #[4] ⟨.int (lo+i),H,I1,⟨t,?_⟩,⟨rfl,rfl⟩,st',λb hb=>(hf b hb).1⟩⟩;rw[Int.mul_one]
 done:=by intro X hP hw hK hc i pins s σ H E I hf st hg;subst hP hw hK;obtain⟨f0,f1,f2,f3,f4,f5⟩:=hf it #[6];exact wpAny_pyNext_range_end (I.ok.hd hc) st (by have:n<=i:=hg;omega) λh' eb=>⟨rfl,I.turned (t':=s.toks) (λb o hb e=>eb b o hb e) f0 f1 f3 f4 f5⟩
 self:=λ_ _ _ _ _ st h=>wpAny_pyIter_rangeiter st h
section
variable {X:Cx} {tg:Expr}
noncomputable def JV(K:Vz)(tl:TE):TI:=λσ H R=>tl σ H λx H1=>∃a,x=.ref a/\(∃xs,gF K H1 a xs)/\R (OR K a) H1
noncomputable def PK(K:Vz)(tl:TE):TI:=λσ H R=>tl σ H λx H1=>∃a,x=.ref a/\(∃xs,fW K H1 a xs)/\R (OS K a) H1
theorem BE(hl:PE X l tl):PI X tg l (JV X.K tl):=by
 intro pins s σ H R I h;refine bS (hl pins s σ H _ I h) λv s1 ⟨x,H1,I1,r1,q1⟩=>?_;obtain⟨a,e,⟨xs,hq⟩,q⟩:=q1;subst e;cases r1;obtain⟨its,rv,p,hz⟩:=I1.list hq;refine wpAny_pyIter_list p.isList ?_;refine⟨s1.heap.objs.size,[s1.heap.objs.size],_,_,H1,rfl,I1.kept λb o e=>R1 _ e,C5 a _,⟨_,R8 _ rfl,rfl,rfl⟩,λb hb=>?_,q⟩;have e:b=s1.heap.objs.size:=by grind
 subst e;exact I1.EA (R5 _) (I1.hok.fresh (R5 _))
theorem EB(hl:PE X l tl):PI X tg l (PK X.K tl):=by
 intro pins s σ H R I h;refine bS (hl pins s σ H _ I h) λv s1 ⟨x,H1,I1,r1,q1⟩=>?_;obtain⟨a,e,⟨xs,hq⟩,q⟩:=q1;subst e;cases r1;obtain⟨its,rv,p,hz⟩:=I1.tuple hq;refine wpAny_pyIter_tuple p ?_;refine⟨s1.heap.objs.size,[s1.heap.objs.size],_,_,H1,rfl,I1.kept λb o e=>R1 _ e,Av a _,⟨_,R8 _ rfl,rfl,rfl⟩,λb hb=>?_,q⟩;have e:b=s1.heap.objs.size:=by grind
 subst e;exact I1.EA (R5 _) (I1.hok.fresh (R5 _))
theorem EC{σ:St}{lo hi:Int}(I:#[10])(h1:-(2^62)<=lo)(h2:lo<2^62)(h3:-(2^62)<=hi)(h4:hi<2^62)
 (q:R (OT lo (hi-lo).toNat) H):wpAny #[12] X.A (pyIter (.ref #[9])) (QX X pins σ tg R) E {s with heap:=s.heap.push {cls:=.type "range",data:=.fields #[.int lo t,.int hi u,.int 1 v]},toks:=tk}:=by
 refine wpAny_pyIter_range (IsRange.new ..) (small_one h1 h2 h3 h4) ?_;have I1:Inv X pins σ H {s with heap:=s.heap.push {cls:=.type "range",data:=.fields #[.int lo t,.int hi u,.int 1 v]},toks:=tk}:=I.kept λb o e=>R1 _ e
 refine⟨(s.heap.push {cls:=.type "range",data:=.fields #[.int lo t,.int hi u,.int 1 v]}).objs.size,[(s.heap.push {cls:=.type "range",data:=.fields #[.int lo t,.int hi u,.int 1 v]}).objs.size],_,_,H,rfl,
  I1.kept (t':=tk) λb o e=>R1 _ e,Aw _ lo (hi-lo).toNat,?_,λb hb=>?_,q⟩
 ·have e1:lo+((0:Nat):Int)*1=lo:=by simp
  have e2:(((hi-lo).toNat:Nat):Int)-((0:Nat):Int)=Builtin.Range.rangeSize lo hi 1:=by grind[rangeSize_one]
  rw[e1,e2];exact R8 _ rfl
 ·have e:b=(s.heap.push {cls:=.type "range",data:=.fields #[.int lo t,.int hi u,.int 1 v]}).objs.size:=by grind
  subst e;exact I1.EA (R5 _) (I1.hok.fresh (R5 _))
noncomputable def Nk(ta:TA):TI:=λσ H R=>ta σ H λvs H1=>∃j:Int,vs=[.int j]/\-(2^62)<=j/\j<2^62/\R (OT 0 j.toNat) H1
theorem C6(hg:Gl X "range")(hm:X.mg "range" = none)(ha:PA X [a] ta)(hs:starEach [a] X.env=[(false,eval a X.env)]:=by rfl):PI X tg (.Call (.Name "range" p) [a] [] pos) (Nk ta):=by
 intro pins s σ H R I h;refine Call_ (nR I hg hm boot_range (Ue (bS (ha pos pins s σ H _ I h) λus s1 ⟨vs,H1,I1,r1,q1⟩=>?_) hs rfl));obtain⟨j,e,q1,q2,q⟩:=q1;subst e
 cases r1 with
 |cons r rr=>cases rr;obtain⟨t,rfl⟩:=r;exact call_range_1 (EC I1 #[3] #[3] q1 q2 (by grind))
noncomputable def PM(wi:TI)(g:TG)(tb:TS):TS:=λD σ H=>wi σ H λJ H1=>∃W:Nat->Nat->St->Hp->Prop,(∃m,W 0 m σ H1)/\∀i m σ H,W i m σ H ->
 (J.stop i H/\D.nx σ H)\/(J.go i H/\∃N:St->Hp->Prop,(∀σ' H',N σ' H'->∃m',m'<m/\W (i+1) m' σ' H')/\∀x H',J.yld i H x H'->g x σ H' λσ2 H2=>tb {D with nx:=N,ct:=N,bk:=D.nx} σ2 H2)
noncomputable def fA(fp:Vx)(h:Heap):Vt:=fp.filterMap λb=>(h.get? b).map λo=>(b,o)
theorem cV(hb:b∈fp)(e:h.get? b=some o):(b,o)∈fA fp h:=Vb.mpr ⟨b,hb,by grind⟩
theorem jk(hp:p∈fA fp h):p.1∈fp/\h.get? p.1=some p.2:=by
 obtain⟨b,hb,e⟩:=Vb.mp hp
 cases q:h.get? b with
 |none=>grind
 |some o=>
  rw[q]at e;have e'  := S8 e
  grind
theorem Inv.pinned{σ:St}(I:#[10])(hf:∀b∈fp,kP X pins H b)(ho:∀b∈fp,∃o,s.heap.get? b=some o/\∀v,o.data≠.cell v):Inv X (pins++fA fp s.heap) σ H s:=
 I.o9 λp hp=>(Sw.mp hp).elim (λz=>I.pin p (Se _ z)) λz=>by
  obtain⟨hb,e⟩:=jk z;obtain⟨f0,f1,f2,_⟩:=hf p.1 hb
  grind
theorem Inv.tJ{σ:St}(I:Inv X (pins++pl) σ H s):#[10]:=I.o9 λp hp=>I.pin p (Se _ (Tu _ hp))
theorem KN(hp:PassesOwn #[12] X.A X.env X.xe)(hc:X.calm=true)(hi:PI X tg iter wi)(hg:PG X tg g)(hb:vL X body tb)
 (hs:∀x,foldedSetIterable iter X.env x=pure x:=by intro _;rfl):PS X (.For tg iter body [] pos) (PM wi g tb):=by
 intro pins s σ H D I h;refine wpAny_For (bS (hi pins s σ H _ I h) λv s1 h1=>bS h1 λitv s2 h2=>?_) hs;obtain⟨it,fp,tn,J,H2,e,I2,T,st2,f2,W,⟨m0,w0⟩,turn⟩:=h2;subst e;have stat:∀{H':Hp},(∀b∈fp,H' b=none)->∀b∈fp,kP X pins H' b:=λhn b hb=>⟨hn b hb,(f2 b hb).2⟩;refine codeAny_forLoop_any (λn s'=>∃i σ' H',Inv X pins σ' H' s'/\tn i s'.heap/\(∀b∈fp,H' b=none)/\W i n σ' H') ?_ m0 ⟨0,σ,H2,I2,st2,λb hb=>(f2 b hb).1,w0⟩;rintro n s3 ⟨i,σ3,H3,I3,st3,fr3,w3⟩;rcases turn i n σ3 H3 w3 with⟨stop,qn⟩|⟨go,N,hN,step⟩
 ·refine TY hp (bS (T.done X rfl rfl rfl hc i pins s3 σ3 H3 X.xe I3 (stat fr3) st3 stop) λr s4 ⟨hr,I4⟩=>?_);subst hr;exact TX ⟨σ3,H3,I4,qn⟩
 ·refine TY hp (bS (T.item X rfl rfl rfl hc i pins s3 σ3 H3 X.xe I3 (stat fr3) st3 go) λr s4 ⟨u,hr,h4⟩=>?_);subst hr;refine TY hp (bS h4 λ_ s5 ⟨x,H5,I5,r5,y5,st5,fr5⟩=>?_);have I5':=I5.pinned (stat fr5) (T.obj _ _ st5);refine TY hp (bS (hg _ s5 σ3 H5 x u _ I5' r5 (step x H5 y5)) λ_ s6 ⟨σ6,H6,I6,q6⟩=>?_);refine TY hp (bS (hb _ s6 σ6 H6 _ I6 q6) λf s7 q7=>?_);have again:∀{σ7:St} {H7:Hp},Inv X (pins++fA fp s5.heap) σ7 H7 s7->N σ7 H7->∃m,m<n/\∃i σ' H',Inv X pins σ' H' s7/\tn i s7.heap/\(∀b∈fp,H' b=none)/\W i m σ' H':=λ{σ7 H7} I7 n7=>by obtain⟨m',hm,w7⟩:=hN σ7 H7 n7;refine⟨m',hm,i+1,σ7,H7,I7.tJ,T.keep _ _ _ st5 λb hb o e=>(I7.pin (b,o) (Se _ (Se _ (cV hb e)))).1,λb hb=>?_,w7⟩;obtain⟨o,e,d⟩:=T.obj _ _ st5 b hb;exact(I7.pin (b,o) (Se _ (Se _ (cV hb e)))).2.1
  cases f with
  |next=>obtain⟨σ7,H7,I7,n7⟩:=q7;exact again I7 n7
  |cont=>obtain⟨σ7,H7,I7,n7⟩:=q7;exact again I7 n7
  |brk=>obtain⟨σ7,H7,I7,q7⟩:=q7;exact⟨σ7,H7,I7.tJ,q7⟩
  |ret v=>obtain⟨x7,σ7,H7,I7,r7,q7⟩:=q7;exact⟨x7,σ7,H7,I7.tJ,r7,q7⟩
end
noncomputable abbrev R2:=V->V->Hp->VK->Prop
noncomputable def iC(X:Cx)(f:Value->Value->Sem Value)(r:R2):Prop:=
 ∀(pins:Vt) (s:VI) (σ:St) (H:Hp) (x y:V) (v u:Value) (Q:VK),#[10]->RelV x v->RelV y u->r x y H Q ->
  wpAny #[12] X.A (f v u) (EP X pins σ Q) X.xe s
noncomputable def OU(X:Cx)(f:Value->Sem Value)(r:V->Hp->VK->Prop):Prop:=
 ∀(pins:Vt) (s:VI) (σ:St) (H:Hp) (x:V) (v:Value) (Q:VK),#[10]->RelV x v->r x H Q ->
  wpAny #[12] X.A (f v) (EP X pins σ Q) X.xe s
noncomputable def cX(X:Cx)(f:Value)(r:List V->Hp->VK->Prop):Prop:=
 ∀(pins:Vt) (s:VI) (σ:St) (H:Hp) (xs:List V) (us:Vy) (Q:VK),#[10]->Vals xs us->r xs H Q ->
  wpAny #[12] X.A (call f us) (EP X pins σ Q) X.xe s
noncomputable def KO(X:Cx)(r:V->Hp->(Bool->Hp->Prop)->Prop):Prop:=
 ∀(pins:Vt) (s:VI) (σ:St) (H:Hp) (x:V) (v:Value) (Q:Bool->Hp->Prop),#[10]->RelV x v->r x H Q ->
  wpAny #[12] X.A (truthy v) (TP X pins σ Q) X.xe s
noncomputable def Nl(r:R2)(ta tb:TE):TE:=λσ H Q=>ta σ H λx H1=>tb σ H1 λy H2=>r x y H2 Q
noncomputable def QY(r:V->Hp->VK->Prop)(ta:TE):TE:=λσ H Q=>ta σ H λx H1=>r x H1 Q
noncomputable def rI(C:Int->Int->Prop)(g:Int->Int->V):R2:=λx y H Q=>∃i j,x=.int i/\y=.int j/\C i j/\Q (g i j) H
noncomputable def KP(g:Int->Int->V):R2:=λx y H Q=>∃i j,x=.int i/\y=.int j/\Q (g i j) H
noncomputable def rU(g:Int->V):V->Hp->VK->Prop:=λx H Q=>∃i,x=.int i/\Q (g i) H
section
variable {X:Cx} {a b c:Expr} {ta tb tc:TE} {pos:Pos}
theorem KQ(ha:PE X a ta)(hb:PE X b tb){σ:St}{R:V->V->Hp->Prop}(I:#[10])
 (h:ta σ H λx H1=>tb σ H1 λy H2=>R x y H2){f:Value->Value->Sem Value}
 (hf:∀v u s2 x y H2,Inv X pins σ H2 s2->RelV x v->RelV y u->R x y H2->wpAny #[12] X.A (f v u) Q X.xe s2) :
  wpAny #[12] X.A (eval a X.env) (λv s₁=>wpAny #[12] X.A (eval b X.env) (λu s₂=>wpAny #[12] X.A (f v u) Q X.xe s₂) X.xe s₁) X.xe s:=by
 refine bS (ha pins s σ H _ I h) λv s1 ⟨x,H1,I1,r1,q1⟩=>?_;refine bS (hb pins s1 σ H1 _ I1 q1) λu s2 ⟨y,H2,I2,r2,q2⟩=>?_;exact hf v u s2 x y H2 I2 r1 r2 q2
theorem wg(ho:iC X (binaryOp op) r)(ha:PE X a ta)(hb:PE X b tb):PE X (.BinOp a op b pos) (Nl r ta tb):=by intro pins s σ H Q I h;exact wpAny_BinOp (KQ ha hb I h λv u s2 x y H2 I2 rx ry q=>ho pins s2 σ H2 x y v u Q I2 rx ry q)
theorem JW(ho:OU X (unaryOp op) r)(ha:PE X a ta):PE X (.UnaryOp op a pos) (QY r ta):=by intro pins s σ H Q I h;exact UnaryOp_ (bS (ha pins s σ H _ I h) (by rintro v s1 ⟨x,H1,I1,r1,q1⟩;exact ho pins s1 σ H1 x v Q I1 r1 q1))
theorem OV{g:Int->Int->Int}
 (rule:∀(i j:Int) (t u:Tok) (s:VI) (Q:Vs) (E:Vs),C i j->Q (.int (g i j) s.toks) {s with toks:=s.toks+1}->wpAny #[12] X.A (f (.int i t) (.int j u)) Q E s) :
  iC X f (rI C λi j=>.int (g i j)):=by
 intro pins s σ H x y v u Q I rx ry h;obtain⟨i,j,rfl,rfl,hc,q⟩:=h;obtain⟨t,rfl⟩:=rx;obtain⟨t',rfl⟩:=ry;exact rule i j t t' s _ _ hc ⟨.int _,H,I.tok _,⟨_,rfl⟩,q⟩
theorem Np{g:Int->Int->Int}
 (rule:∀(i j:Int) (t u:Tok) (s:VI) (Q:Vs) (E:Vs),Q (.int (g i j) s.toks) {s with toks:=s.toks+1}->wpAny #[12] X.A (f (.int i t) (.int j u)) Q E s) :
  iC X f (KP λi j=>.int (g i j)):=by
 intro pins s σ H x y v u Q I rx ry h;obtain⟨i,j,rfl,rfl,q⟩:=h;obtain⟨t,rfl⟩:=rx;obtain⟨t',rfl⟩:=ry;exact rule i j t t' s _ _ ⟨.int _,H,I.tok _,⟨_,rfl⟩,q⟩
theorem Nq{g:Int->Int->Bool}
 (rule:∀(i j:Int) (t u:Tok) (s:VI) (Q:Vs) (E:Vs),Q (.bool (g i j)) s->wpAny #[12] X.A (f (.int i t) (.int j u)) Q E s) :
  iC X f (KP λi j=>.bl (g i j)):=by
 intro pins s σ H x y v u Q I rx ry h;obtain⟨i,j,rfl,rfl,q⟩:=h;obtain⟨t,rfl⟩:=rx;obtain⟨t',rfl⟩:=ry;exact rule i j t t' s _ _ ⟨.bl _,H,I,rfl,q⟩
noncomputable def Nt(i j:Int):Prop:=0<j/\j<1073741824
noncomputable def PN(i j:Int):Prop:=0<=j/\j<=1000000/\i.natAbs<2^64
noncomputable def KR(i j:Int):Prop:=(-(2^64)<i/\i<2^64)\/(-(2^64)<j/\j<2^64)
theorem KR.ok(h:KR i j):IntMulOk i j:=by
 rcases h with⟨h1,h2⟩|⟨h1,h2⟩
 ·exact .of_left (intBits_le_64 h1 h2)
 ·exact .of_right (intBits_le_64 h1 h2)
theorem KU:iC X (binaryOp .Add) (KP λi j=>.int (i+j)):=Np λ_ _ _ _ _ _ _ q=>add_int q
theorem KW:iC X (binaryOp .Sub) (KP λi j=>.int (i-j)):=Np λ_ _ _ _ _ _ _ q=>sub_int q
theorem KY:iC X (binaryOp .Mult) (rI KR λi j=>.int (i*j)):=OV λ_ _ _ _ _ _ _ hc q=>mul_int q hc.ok
theorem Hx:iC X (binaryOp .FloorDiv) (rI Nt λi j=>.int (i / j)):=OV λi j _ _ _ _ _ hc q=>by have h1  := hc.1;have h2  := hc.2;exact floordiv_int #[3] (by grind) (.inl (PyProof.noPylong_small #[3]))
theorem KZ:iC X (binaryOp .Mod) (rI (λ_ j=>0<j) λi j=>.int (i % j)):=OV λi j _ _ _ _ _ hc q=>mod_int' #[3] (by rw[Int.fmod_eq_emod_of_nonneg i #[3]];exact q)
theorem K0:iC X (binaryOp .Pow) (rI PN λi j=>.int (i^j.toNat)):=OV λ_ _ _ _ _ _ _ hc q=>pow_int_small hc.1 hc.2.1 hc.2.2 q
theorem RA{g:Int->Int}
 (rule:∀(i:Int) (t:Tok) (s:VI) (Q:Vs) (E:Vs),Q (.int (g i) s.toks) {s with toks:=s.toks+1}->wpAny #[12] X.A (f (.int i t)) Q E s) :
  OU X f (rU λi=>.int (g i)):=by
 intro pins s σ H x v Q I rx h;obtain⟨i,rfl,q⟩:=h;obtain⟨t,rfl⟩:=rx;exact rule i t s _ _ ⟨.int (g i),H,I.tok _,⟨_,rfl⟩,q⟩
theorem ED:OU X (unaryOp .USub) (rU λi=>.int (-i)):=RA λ_ _ _ _ _ q=>neg_int q
end
noncomputable def Nu:V->V->Bool
 |.non,.non=>true|.non,.int _=>true|.int _,.non=>true|.non,.bl _=>true|.bl _,.non=>true|.non,.str _=>true|.str _,.non=>true
 |.int _,.int _=>true|.bl _,.bl _=>true|.str _,.str _=>true|.byt _,.byt _=>true
 |.int _,.str _=>true|.str _,.int _=>true|.bl _,.str _=>true|.str _,.bl _=>true
 |_,_=>false
noncomputable def RB:R2:=λx y H Q=>Nu x y=true/\Q (.bl (decide (x=y))) H
noncomputable def RC:R2:=λx y H Q=>Nu x y=true/\Q (.bl (!decide (x=y))) H
theorem BF:decide (V.int i=V.int j)=(i==j):=by
 grind
theorem EE:decide (V.bl i=V.bl j)=(i==j):=by
 grind
theorem BG:decide (V.str i=V.str j)=(i==j):=by
 grind
theorem BH:decide (V.byt i=V.byt j)=(i.toList==j.toList):=by
 rw[TZ]
 simp_all
section
variable {X:Cx} {a b c:Expr} {ta tb tc:TE} {pos:Pos}
theorem bI{σ:St}(I:#[10])(q:Q (.bl k) H)(e:k=k'):EP X pins σ Q (.bool k') s:=by subst e;exact⟨.bl k,H,I,rfl,q⟩
theorem Nv:iC X (compareOp .Eq) RB:=by
 intro pins s σ H x y v u Q I rx ry h;obtain⟨hs,q⟩:=h
 cases x with
 |non=>
  cases rx
  cases y with
  |non=>cases ry;exact PySem.EqNone.eq_none_none (bI I q #[6])
  |bl j=>cases ry;exact PySem.EqNone.eq_none_bool (bI I q #[6])
  |int j=>obtain⟨t',rfl⟩:=ry;exact PySem.EqNone.eq_none_int (bI I q #[6])
  |str j=>obtain⟨t',rfl⟩:=ry;exact PySem.EqNone.eq_none_str (bI I q #[6])
  |_=>exact absurd (show false=true from hs) Sk
 |bl i=>
  cases rx
  cases y with
  |non=>cases ry;exact PySem.EqNone.eq_bool_none (bI I q #[6])
  |bl j=>cases ry;exact eq_bool (bI I q EE)
  |str j=>obtain⟨t',rfl⟩:=ry;exact PySem.EqMixed.eq_bool_str (bI I q #[6])
  |_=>exact absurd (show false=true from hs) Sk
 |int i=>
  obtain⟨t,rfl⟩:=rx
  cases y with
  |non=>cases ry;exact PySem.EqNone.eq_int_none (bI I q #[6])
  |int j=>obtain⟨t',rfl⟩:=ry;exact eq_int (bI I q BF)
  |str j=>obtain⟨t',rfl⟩:=ry;exact PySem.EqMixed.eq_int_str (bI I q #[6])
  |_=>exact absurd (show false=true from hs) Sk
 |str i=>
  obtain⟨t,rfl⟩:=rx
  cases y with
  |non=>cases ry;exact PySem.EqNone.eq_str_none (bI I q #[6])
  |bl j=>cases ry;exact PySem.EqMixed.eq_str_bool (bI I q #[6])
  |int j=>obtain⟨t',rfl⟩:=ry;exact PySem.EqMixed.eq_str_int (bI I q #[6])
  |str j=>obtain⟨t',rfl⟩:=ry;exact eq_str (bI I q BG)
  |_=>exact absurd (show false=true from hs) Sk
 |byt i=>
  obtain⟨t,rfl⟩:=rx
  cases y with
  |byt j=>obtain⟨t',rfl⟩:=ry;exact PySem.W.eq_bytes (bI I q BH)
  |_=>exact absurd (show false=true from hs) Sk
 |_=>cases y<;>exact absurd (show false=true from hs) Sk
theorem JX:iC X (compareOp .NotEq) RC:=by
 intro pins s σ H x y v u Q I rx ry h;obtain⟨hs,q⟩:=h
 cases x with
 |non=>
  cases rx
  cases y with
  |non=>cases ry;exact PySem.EqNone.ne_none_none (bI I q #[6])
  |bl j=>cases ry;exact PySem.EqNone.ne_none_bool (bI I q #[6])
  |int j=>obtain⟨t',rfl⟩:=ry;exact PySem.EqNone.ne_none_int (bI I q #[6])
  |str j=>obtain⟨t',rfl⟩:=ry;exact PySem.EqNone.ne_none_str (bI I q #[6])
  |_=>exact absurd (show false=true from hs) Sk
 |bl i=>
  cases rx
  cases y with
  |non=>cases ry;exact PySem.EqNone.ne_bool_none (bI I q #[6])
  |bl j=>cases ry;exact ne_bool (bI I q (Vl not EE))
  |str j=>obtain⟨t',rfl⟩:=ry;exact PySem.EqMixed.ne_bool_str (bI I q #[6])
  |_=>exact absurd (show false=true from hs) Sk
 |int i=>
  obtain⟨t,rfl⟩:=rx
  cases y with
  |non=>cases ry;exact PySem.EqNone.ne_int_none (bI I q #[6])
  |int j=>obtain⟨t',rfl⟩:=ry;exact ne_int (bI I q (Vl not BF))
  |str j=>obtain⟨t',rfl⟩:=ry;exact PySem.EqMixed.ne_int_str (bI I q #[6])
  |_=>exact absurd (show false=true from hs) Sk
 |str i=>
  obtain⟨t,rfl⟩:=rx
  cases y with
  |non=>cases ry;exact PySem.EqNone.ne_str_none (bI I q #[6])
  |bl j=>cases ry;exact PySem.EqMixed.ne_str_bool (bI I q #[6])
  |int j=>obtain⟨t',rfl⟩:=ry;exact PySem.EqMixed.ne_str_int (bI I q #[6])
  |str j=>obtain⟨t',rfl⟩:=ry;exact ne_str (bI I q (Vl not BG))
  |_=>exact absurd (show false=true from hs) Sk
 |byt i=>
  obtain⟨t,rfl⟩:=rx
  cases y with
  |byt j=>obtain⟨t',rfl⟩:=ry;exact PySem.W.ne_bytes (bI I q (Vl not BH))
  |_=>exact absurd (show false=true from hs) Sk
 |_=>cases y<;>exact absurd (show false=true from hs) Sk
theorem Nw:iC X (compareOp .LtE) (KP λi j=>.bl (decide (i<=j))):=Nq λ_ _ _ _ _ _ _ q=>le_int q
theorem Ny:iC X (compareOp .Gt) (KP λi j=>.bl (decide (j<i))):=Nq λ_ _ _ _ _ _ _ q=>gt_int q
theorem C7:iC X (compareOp .In) (λx y H Q=>∃i j,x=.str i/\y=.str j/\Q (.bl (!(Builtin.Str.occurrences j i 0 j.length 1).isEmpty)) H):=by intro pins s σ H x y v u Q I rx ry h;obtain⟨i,j,rfl,rfl,q⟩:=h;obtain⟨t,rfl⟩:=rx;obtain⟨t',rfl⟩:=ry;exact in_str (bI I q rfl)
theorem xq:iC X (compareOp .NotIn) (λx y H Q=>∃i j,x=.str i/\y=.str j/\Q (.bl (!(!(Builtin.Str.occurrences j i 0 j.length 1).isEmpty))) H):=by intro pins s σ H x y v u Q I rx ry h;obtain⟨i,j,rfl,rfl,q⟩:=h;obtain⟨t,rfl⟩:=rx;obtain⟨t',rfl⟩:=ry;exact notIn_str (bI I q rfl)
theorem iC.or(h:iC X f r)(h':iC X f r'):iC X f (λx y H Q=>r x y H Q\/r' x y H Q):=by
 intro pins s σ H x y v u Q I rx ry q;rcases q with q|q
 ·exact h pins s σ H x y v u Q I rx ry q
 ·exact h' pins s σ H x y v u Q I rx ry q
theorem K4(b:Expr)(h:op≠.In:=by decide)(h2:op≠.NotIn:=by decide):behindInMarks op b=false:=by
 have e1:(op==CmpOp.In)=false:=by grind
 have e2:(op==CmpOp.NotIn)=false:=by grind
 cases b<;>simp[behindInMarks,e1,e2]
theorem Hy(ho:iC X (compareOp op) r)(ha:PE X a ta)(hb:PE X b tb)(hm:behindInMarks op b=false):PE X (.Compare a [op] [b] pos) (Nl r ta tb):=by intro pins s σ H Q I h;exact wpAny_Compare1 (KQ ha hb I h λv u s2 x y H2 I2 rx ry q=>ho pins s2 σ H2 x y v u Q I2 rx ry q) hm
noncomputable def JY(t:TE):TT:=λσ H Q=>t σ H λx H'=>∃k,x=.bl k/\Q k H'
theorem BI(ho:iC X (compareOp op) r)(ha:PE X a ta)(hb:PE X b tb)(hm:behindInMarks op b=false):PT X (.Compare a [op] [b] pos) (JY (Nl r ta tb)):=by
 intro pins s σ H Q I h
 refine wpAny_isTrue_Compare1 (bS (ha pins s σ H _ I h) λv s1 ⟨x,H1,I1,r1,q1⟩=>bS (hb pins s1 σ H1 _ I1 q1) λu s2 ⟨y,H2,I2,r2,q2⟩=>
  bS (ho pins s2 σ H2 x y v u _ I2 r1 r2 q2) λc s3 ⟨z,H3,I3,r3,k,e,q3⟩=>?_) hm
 subst e;cases r3;exact S0 ⟨H3,I3,q3⟩
noncomputable def Ax(r r':R2)(ta tb tc:TE):TE:=λσ H Q=>ta σ H λx H1=>tb σ H1 λy H2=>r x y H2 λz H3=>∃k,z=.bl k /\
 (if k=true then tc σ H3 λw' H4=>r' y w' H4 Q else Q (.bl false) H3)
theorem EF(ho:iC X (compareOp op) r)(ho':iC X (compareOp op') r')(ha:PE X a ta)(hb:PE X b tb)(hc:PE X c tc)
 (hm:lastMarks [op,op'] [b,c]=false:=by with_unfolding_all rfl):PE X (.Compare a [op,op'] [b,c] pos) (Ax r r' ta tb tc):=by
 intro pins s σ H Q I h
 refine Compare_chain (bS (ha pins s σ H _ I h) λv s1 ⟨x,H1,I1,r1,q1⟩=>chain_link (bS (hb pins s1 σ H1 _ I1 q1) λu s2 ⟨y,H2,I2,r2,q2⟩=>
  bS (ho pins s2 σ H2 x y v u _ I2 r1 r2 q2) λd s3 ⟨z,H3,I3,r3,k,e,q3⟩=>?_)) hm
 subst e;cases r3;refine S0 ?_
 cases k with
 |false=>exact ite_ff ⟨.bl false,H3,I3,rfl,q3⟩
 |true=>exact ite_tt (chain_last (bS (hc pins s3 σ H3 _ I3 q3) (by rintro w' s4 ⟨z',H4,I4,r4,q4⟩;exact ho' pins s4 σ H4 y z' u w' Q I4 r2 r4 q4)))
theorem EG(ho:iC X (compareOp op) r)(ho':iC X (compareOp op') r')(ha:PE X a ta)(hb:PE X b tb)(hc:PE X c tc)
 (hm:lastMarks [op,op'] [b,c]=false:=by with_unfolding_all rfl):PT X (.Compare a [op,op'] [b,c] pos) (JY (Ax r r' ta tb tc)):=by
 intro pins s σ H Q I h
 refine isTrue_chain (bS (ha pins s σ H _ I h) λv s1 ⟨x,H1,I1,r1,q1⟩=>test_link (bS (hb pins s1 σ H1 _ I1 q1) λu s2 ⟨y,H2,I2,r2,q2⟩=>
  bS (ho pins s2 σ H2 x y v u _ I2 r1 r2 q2) λd s3 ⟨z,H3,I3,r3,k,e,q3⟩=>?_)) hm
 subst e;cases r3;refine S0 ?_
 cases k with
 |false=>obtain⟨k',e',q'⟩:=q3;cases e';exact ite_ff ⟨H3,I3,q'⟩
 |true=>refine ite_tt (test_last (bS (hc pins s3 σ H3 _ I3 q3) λw' s4 ⟨z',H4,I4,r4,q4⟩=>bS (ho' pins s4 σ H4 y z' u w' _ I4 r2 r4 q4) λd' s5 ⟨z2,H5,I5,r5,k2,e2,q5⟩=>?_));subst e2;cases r5;exact S0 ⟨H5,I5,q5⟩
noncomputable def K5(K:Vz)(x:V)(H:Hp)(k:Bool):Prop:=
 match x with
 |.non=>k=false
 |.bl b=>k=b
 |.int i=>k=(i != 0)
 |.str y=>y.length<=sizeLine/\k=((y.length:Int) != 0)
 |.byt y=>y.size<=sizeLine/\k=((y.size:Int) != 0)
 |.ref p=>(∃xs,gF K H p xs/\k=!xs.isEmpty)\/(∃xs,fW K H p xs/\k=!xs.isEmpty)\/∃kvs,H p=some (.dK kvs)/\k=!kvs.isEmpty
 |_=>False
theorem Ay(r:KV kvs vs):(!vs.isEmpty)=!kvs.isEmpty:=by cases r<;>rfl
theorem tK(r:Vals xs its):(!its.toArray.isEmpty)=!xs.isEmpty:=by cases r<;>simp
theorem qw:(sizeLine:Nat)<2^63:=by trivial
theorem Az:KO X (λx H Q=>∃k,K5 X.K x H k/\Q k H):=by
 intro pins s σ H x v Q I rx h;obtain⟨k,e,q⟩:=h;have hl:=qw;have hs:sizeLine=16777216:=Td
 cases x with
 |non=>cases rx;have e':k=false:=e;subst e';exact truthy_none ⟨H,I,q⟩
 |bl b=>cases rx;have e':k=b:=e;subst e';exact S0 ⟨H,I,q⟩
 |int i=>obtain⟨t,rfl⟩:=rx;have e':k=(i != 0):=e;subst e';exact PySem.P.truthy_int ⟨H,I,q⟩
 |str y=>obtain⟨t,rfl⟩:=rx;obtain⟨hy,e'⟩:y.length<=sizeLine/\k=((y.length:Int) != 0):=e;subst e';exact PySem.P.truthy_str #[3] ⟨H,I.tok _,q⟩
 |byt y=>obtain⟨t,rfl⟩:=rx;obtain⟨hy,e'⟩:y.size<=sizeLine/\k=((y.size:Int) != 0):=e;subst e';exact PySem.W.truthy_bytes #[3] ⟨H,I.tok _,q⟩
 |ref p=>
  cases rx;have e':(∃xs,gF X.K H p xs/\k=!xs.isEmpty)\/(∃xs,fW X.K H p xs/\k=!xs.isEmpty)\/∃kvs,H p=some (.dK kvs)/\k=!kvs.isEmpty:=e;rcases e' with⟨xs,hx,e'⟩|⟨xs,hx,e'⟩|⟨kvs,hx,e'⟩
  ·subst e';obtain⟨its,r,pl,hz⟩:=I.list hx;have hlen:=r.length;exact wpAny_truthy_list pl.isList (by simp only[Si];omega) ⟨H,I.tok _,by rw[tK r];exact q⟩
  ·subst e';obtain⟨its,r,pl,hz⟩:=I.tuple hx;have hlen:=r.length;exact truthy_tuple pl (by simp only[Si];omega) ⟨H,I.tok _,by rw[tK r];exact q⟩
  ·subst e';obtain⟨hz,hS,vs,r,m⟩:kvs.length<=sizeLine/\(p==sysModules)=false/\∃vs,KV kvs vs/\s.heap.DictOf (cf X.prog X.w) p vs:=I.hok p _ hx;have hlen:kvs.length=vs.length:=Sr r;exact wpAny_truthy_dict hS m #[3] ⟨H,I.tok _,by rw[Ay r];exact q⟩
 |_=>exact(show False from e).elim
theorem EI(ha:PE X a ta)(he:∀whole,isTrue a X.env whole=(do let v <- whole;standAt a.pos;holding [v] (truthy v))) :
  PT X a (λσ H Q=>ta σ H λx H'=>∃k,K5 X.K x H' k/\Q k H'):=by
 intro pins s σ H Q I h;exact isTrue_plain (bS (ha pins s σ H _ I h) (by rintro v s1 ⟨x,H1,I1,r1,q1⟩;exact Az pins s1 σ H1 x v Q I1 r1 q1)) (he _)
theorem AA:iC X (binaryOp .Add) (λx y H Q=>∃i j,x=.str i/\y=.str j/\i.length+j.length<=sizeLine/\Q (.str (i++j)) H):=by intro pins s σ H x y v u Q I rx ry h;obtain⟨i,j,rfl,rfl,hz,q⟩:=h;obtain⟨t,rfl⟩:=rx;obtain⟨t',rfl⟩:=ry;exact add_str (λt' tk=>⟨.str _,H,I.tok _,⟨_,rfl⟩,q⟩) hz
theorem vals1(r:Vals [x] us):∃u,us=[u]/\RelV x u:=by
 cases r with
 |cons r1 r2=>cases r2;grind
theorem vals2(r:Vals [x,y] us):∃u w',us=[u,w']/\RelV x u/\RelV y w':=by
 cases r with
 |cons r1 r2=>
  cases r2 with
  |cons r3 r4=>cases r4;grind
theorem EJ:cX X (.builtin "abs") (λxs H Q=>∃i,xs=[.int i]/\Q (.int (if i<0 then -i else i)) H):=by intro pins s σ H xs us Q I r h;obtain⟨i,rfl,q⟩:=h;obtain⟨u,rfl,t,rfl⟩:=vals1 r;exact call_abs_int λu tk=>⟨.int _,H,I.tok _,⟨_,rfl⟩,q⟩
theorem C8(hc:X.calm=true):cX X (.builtin "max") (λxs H Q=>∃i j,xs=[.int i,.int j]/\Q (.int (if j>i then j else i)) H):=by
 intro pins s σ H xs us Q I r h;obtain⟨i,j,rfl,q⟩:=h;obtain⟨u,w',rfl,⟨t,rfl⟩,⟨t',rfl⟩⟩:=vals2 r;refine max_two_ints (I.ok.hd hc) λh' tk k=>⟨_,H,I.kept k,?_,q⟩;by_cases hj:j>i
 ·rw[if_pos hj,if_pos hj];exact⟨_,rfl⟩
 ·rw[if_neg hj,if_neg hj];exact⟨_,rfl⟩
theorem C9(hc:X.calm=true):cX X (.builtin "min") (λxs H Q=>∃i j,xs=[.int i,.int j]/\Q (.int (if j<i then j else i)) H):=by
 intro pins s σ H xs us Q I r h;obtain⟨i,j,rfl,q⟩:=h;obtain⟨u,w',rfl,⟨t,rfl⟩,⟨t',rfl⟩⟩:=vals2 r;refine min_two_ints (I.ok.hd hc) λh' tk k=>⟨_,H,I.kept k,?_,q⟩;by_cases hj:j<i
 ·rw[if_pos hj,if_pos hj];exact⟨_,rfl⟩
 ·rw[if_neg hj,if_neg hj];exact⟨_,rfl⟩
theorem Dc:cX X (.type "int") (λxs H Q=>(∃i,xs=[.int i]/\Q (.int i) H)\/∃k,xs=[.bl k]/\Q (.int (if k then 1 else 0)) H):=by
 intro pins s σ H xs us Q I r h;rcases h with⟨i,rfl,q⟩|⟨k,rfl,q⟩
 ·obtain⟨u,rfl,t,rfl⟩:=vals1 r;exact call_int_int ⟨.int i,H,I,⟨_,rfl⟩,q⟩
 ·obtain⟨u,rfl,r1⟩:=vals1 r;cases r1;exact call_int_bool ⟨.int _,H,I.tok _,⟨_,rfl⟩,q⟩
noncomputable def PQ(K:Vz)(x:V)(H:Hp)(n:Nat):Prop:=
 match x with
 |.str y=>y.length<=sizeLine/\n=y.length
 |.byt y=>y.size<=sizeLine/\n=y.size
 |.ref p=>(∃xs,gF K H p xs/\n=xs.length)\/∃xs,fW K H p xs/\n=xs.length
 |_=>False
theorem EK:cX X (.builtin "len") (λxs H Q=>∃x n,xs=[x]/\PQ X.K x H n/\Q (.int n) H):=by
 intro pins s σ H xs us Q I r h;obtain⟨x,n,rfl,e,q⟩:=h;obtain⟨u,rfl,rx⟩:=vals1 r;have hl:=qw;have hs:sizeLine=16777216:=Td
 cases x with
 |str y=>obtain⟨t,rfl⟩:=rx;obtain⟨hy,e'⟩:y.length<=sizeLine/\n=y.length:=e;subst e';exact len_str #[3] ⟨.int _,H,I.tok _,⟨_,rfl⟩,q⟩
 |byt y=>obtain⟨t,rfl⟩:=rx;obtain⟨hy,e'⟩:y.size<=sizeLine/\n=y.size:=e;subst e';exact PySem.W.len_bytes #[3] ⟨.int _,H,I.tok _,⟨_,rfl⟩,q⟩
 |ref p=>
  cases rx;have e':(∃xs,gF X.K H p xs/\n=xs.length)\/∃xs,fW X.K H p xs/\n=xs.length:=e;rcases e' with⟨xs,hx,e'⟩|⟨xs,hx,e'⟩
  ·subst e';obtain⟨its,r',pl,hz⟩:=I.list hx;have hlen:=r'.length;exact Calls.call_len_list pl.isList (by simp only[Si];omega) ⟨.int xs.length,H,I.tok _,⟨_,by simp only[Si];rw[hlen]⟩,q⟩
  ·subst e';obtain⟨its,r',pl,hz⟩:=I.tuple hx;have hlen:=r'.length;exact len_tuple pl (by simp only[Si];omega) ⟨.int xs.length,H,I.tok _,⟨_,by simp only[Si];rw[hlen]⟩,q⟩
 |_=>exact(show False from e).elim
theorem yV:cX X (.builtin "divmod") (λxs H Q=>∃i j,xs=[.int i,.int j]/\Nt i j/\∀p,H p=none->Q (.ref p) (upd H p (.tup [.int (i / j),.int (i % j)]))):=by intro pins s σ H xs us Q I r h;obtain⟨i,j,rfl,⟨h1,h2⟩,q⟩:=h;obtain⟨u,w',rfl,⟨t,rfl⟩,⟨t',rfl⟩⟩:=vals2 r;refine divmod_int #[3] ?_ (.inl (PyProof.noPylong_small #[3]));rw[Int.fdiv_eq_ediv_of_nonneg i #[3],Int.fmod_eq_emod_of_nonneg i #[3]];have hn  := I.hok.fresh (R5 _);refine⟨.ref #[9],_,?_,rfl,q _ hn⟩;refine I.laid (λb o e=>R1 _ e) (R5 _) ⟨by simp[Td],[.int _ s.toks,.int _ (s.toks+1)],.cons ⟨_,rfl⟩ (.cons ⟨_,rfl⟩ .nil),?_⟩;exact⟨_,R8 s.heap rfl,rfl,0,rfl⟩
end
structure K6(h:Heap)(x dx C:Addr)(mA:Vv):Prop where
 obj:h.get? x=some (PySem.W.instObj C dx)
 ns:h.Ns1 dx mA
 ne:dx≠x
theorem Dd{h:Heap}(n:h.Ns1 dx mA):∃od,h.get? dx=some od/\∀name,PySem.W.lookIn name od=some (mA name):=by
 obtain⟨o,es,ep,ho,hd,hk,_,hm⟩:=n;refine⟨o,ho,λname=>?_⟩;have e:=hm name;unfold nsFind findBy at e;rw[<- Array.find?_toList]at e;unfold PySem.W.lookIn;rw[hd];dsimp only;split
 ·grind
 ·rename_i q;rw[q]at e;have a:es.toList.any (·.refKey)=false:=by rw[List.any_eq_false];intro y hy;obtain⟨z,t,hkey⟩:=hk y (TU.mp hy);simp[DictEntry.refKey,hkey]
  grind
theorem K6.look(I:K6 h x dx C mA):∃od,PySem.W.InstAt h x (PySem.W.instObj C dx) C (some od)/\∀name,PySem.W.lookIn name od=some (mA name):=
 by obtain⟨od,ho,hl⟩:=Dd I.ns;exact⟨od,⟨I.obj,rfl,rfl,ho⟩,hl⟩
theorem tG.some_of(r:tG (some v) o):∃u,o=some u/\RelV v u:=by
 cases o with
 |none=>trivial
 |some u=>exact⟨u,rfl,r⟩
section
variable {P:VG} {w:World} {H H':Hp} {h h':Heap} {a C dx:Addr} {fs fs':List (Str×V)}
theorem Hz(hok:ky P w H h)(e:H a=some (.ins C dx fs)):∃mA,K6 h a dx C mA/\(∀f,tG (fs.lookup f) (mA f))/\PySem.Within mA (fs.map (·.1))/\fs.length<=1000/\H dx=some (.own a):=by obtain⟨d,z,ne,ob,mA,n,r,q⟩:=(hok a _ e);exact⟨mA,⟨ob,n,ne⟩,r,q,z,d⟩
end
structure PR(K:Vz)(C:Addr):Prop where
 pg:PySem.W.plainGet K C Str.empty=true
 hd:PySem.W.hasDictIn K C=true
 po:PySem.W.plainOver K C=true
 sa:PySem.W.findIn K (.ref C) "__setattr__" = some (some (.builtin "object.__setattr__"))
theorem PR.get{K:Vz}(c:PR K C)(f:Str):PySem.W.plainGet K C f=true:=c.pg
section
variable {X:Cx} {pins:Vt} {σ:St} {H:Hp} {s:VI} {A:VH} {E:Vs} {Q:Vs} {c:Value} {b:Bool}
inductive pe (K:Vz) (H:Hp):V->Value->Prop where
 |non:pe K H .non (.type "NoneType")
 |bl (x:Bool):pe K H (.bl x) (.type "bool")
 |int (i:Int):pe K H (.int i) (.type "int")
 |str (x:Str):pe K H (.str x) (.type "str")
 |flt (x:UInt64):pe K H (.flt x) (.type "float")
 |lst {a:Addr} {xs:List V} (e:H a=some (.lst xs)):pe K H (.ref a) (.type "list")
 |frz {a:Addr} {o:Obj} {xs:List V} (e:H a=some (.frz o (.lst xs))):pe K H (.ref a) (.type "list")
 |tup {a:Addr} {xs:List V} (e:H a=some (.tup xs)):pe K H (.ref a) (.type "tuple")
 |dK {a:Addr} {kvs:List (Key×V)} (e:H a=some (.dK kvs)):pe K H (.ref a) (.type "dict")
 |dT {a:Addr} {kvs:List (List Key×V)} (e:H a=some (.dT kvs)):pe K H (.ref a) (.type "dict")
 |ins {a C dx:Addr} {fs:List (Str×V)} (e:H a=some (.ins C dx fs)) (cl:PR K C) (ha:PySem.W.findIn K (.ref C) "__class__" = some (some (.builtin "object.__class__")))
   (hn:PySem.W.specialIn K (.builtin "object.__class__") "__get__" = some (some (.builtin "getset_descriptor.__get__"))) (htk:PySem.W.takesIn K (.builtin "object.__class__")=some true)
   (hm:PySem.W.mroIn K C (.type "object")=some true):pe K H (.ref a) (.ref C)
theorem De(I:#[10])(rx:RelV x u)(ty:pe X.K H x t)(e:PySem.W.kitOne X.K t c=some b)(h:∀tk,Q (.bool b) {s with toks:=tk}) :
  wpAny #[12] A (call (.builtin "isinstance") [u,c]) Q E s:=by
 cases ty with
 |non=>cases(show u=Value.none from rx);exact SW PySem.W.kitx_none I.qr True.intro e (λz=>nomatch z) h
 |bl y=>cases(show u=Value.bool y from rx);exact SW PySem.W.kitx_bool I.qr True.intro e (λz=>nomatch z) h
 |int i=>obtain⟨t,q⟩:=(show ∃t,u=Value.int i t from rx);cases q;exact SW PySem.W.kitx_int I.qr True.intro e (λz=>nomatch z) h
 |str y=>obtain⟨t,q⟩:=(show ∃t,u=Value.str y t from rx);cases q;exact SW PySem.W.kitx_str I.qr True.intro e (λz=>nomatch z) h
 |flt y=>obtain⟨t,q⟩:=(show ∃t,u=Value.float y t from rx);cases q;exact SW PySem.W.kitx_float I.qr True.intro e (λz=>nomatch z) h
 | @lst a xs ea=>cases(show u=Value.ref a from rx);obtain⟨_,_,n,_,h1⟩:=(show bW X.prog X.w H s.heap a (.lst xs)from I.hok a _ ea);exact SW PySem.W.kitx_list I.qr ⟨_,h1,rfl⟩ e (λz=>nomatch z) h
 | @frz a ob xs ea=>cases(show u=Value.ref a from rx);obtain⟨_,_,_,n,_,h1⟩:=(show bW X.prog X.w H s.heap a (.frz ob (.lst xs))from I.hok a _ ea);exact SW PySem.W.kitx_list I.qr ⟨_,h1,rfl⟩ e (λz=>nomatch z) h
 | @tup a xs ea=>cases(show u=Value.ref a from rx);obtain⟨_,_,_,p⟩:=(show bW X.prog X.w H s.heap a (.tup xs)from I.hok a _ ea);obtain⟨o,h1,h2,_⟩:=p;exact SW PySem.W.kitx_tuple I.qr ⟨o,h1,h2⟩ e (λz=>nomatch z) h
 | @dK a kvs ea=>cases(show u=Value.ref a from rx);obtain⟨_,_,vs,_,p⟩:=(show bW X.prog X.w H s.heap a (.dK kvs)from I.hok a _ ea);obtain⟨o,es,ep,h1,h2,_⟩:=p;exact SW PySem.W.kitx_dict I.qr ⟨o,h1,h2.1⟩ e (λz=>nomatch z) h
 | @dT a kvs ea=>cases(show u=Value.ref a from rx);obtain⟨_,_,xs,_,o,es,ep,h1,h2,_⟩:=(show bW X.prog X.w H s.heap a (.dT kvs)from I.hok a _ ea);exact SW PySem.W.kitx_dict I.qr ⟨o,h1,h2.1⟩ e (λz=>nomatch z) h
 | @ins a C dx fs ea cl ha hn htk hm=>cases(show u=Value.ref a from rx);obtain⟨mA,O,_⟩:=Hz I.hok ea;obtain⟨od,J,_⟩:=O.look;exact SW (PySem.W.kitx_own (cl.get _) cl.hd ha hn htk hm) I.qr J e (λz=>nomatch z) h
end
structure bZ(k:Nat)(A:VH):Prop where
 hd:A.handled=none
 dp:A.depth+3*k+5<recursionLimit
 un:A.units+16*k+200<cLine
 gd:A.guards=some []
theorem bZ.mono(r:bZ k A)(h:j<=k):bZ j A:=⟨r.hd,by have:=r.dp;omega,by have:=r.un;omega,r.gd⟩
theorem bZ.deeper(r:bZ (k+1) A)(env:Env):bZ k (A.deeper env):=
 ⟨r.hd,by have:=r.dp;show A.depth+1+3*k+5<_;omega,by have:=r.un;show A.units+3+16*k+200<_;omega,r.gd⟩
theorem bZ.depth(r:bZ k A):A.depth<recursionLimit:=by have:=r.dp;omega
theorem bZ.units(r:bZ k A):A.units+64<cLine:=by have:=r.un;omega
noncomputable def EL:TA:=λ_ H Q=>Q [] H
noncomputable def wj(ta:TE)(tr:TA):TA:=λσ H Q=>ta σ H λx H1=>tr σ H1 λxs H2=>Q (x::xs) H2
section
variable {X:Cx} {e:Expr} {es:VB} {te:TE} {t:TA} {pos:Pos}
theorem dW:PA X [] EL:=λ_ _ _ _ H Q I h=>Calls.spliced_nil ⟨[],H,I,.nil,h⟩
theorem aZ(ha:PE X e te)(hr:PA X es t)(hs:#[2]:=by rfl):PA X (e::es) (wj te t):=by intro pos pins s σ H Q I h;rw[hs];refine Calls.spliced_cons (bS (ha pins s σ H _ I h) λu s1 ⟨x,H1,I1,r1,q1⟩=>?_);exact bS (hr pos pins s1 σ H1 _ I1 q1) (by rintro us s2 ⟨xs,H2,I2,r2,q2⟩;exact⟨x::xs,H2,I2,.cons r1 r2,q2⟩)
noncomputable def PU(t:TA):TE:=λσ H Q=>t σ H λxs H1=>xs.length<=sizeLine/\∀p,H1 p=none->Q (.ref p) (upd H1 p (.tup xs))
noncomputable def Nz(t:TA):TE:=λσ H Q=>t σ H λxs H1=>xs.length<=sizeLine/\∀p,H1 p=none->Q (.ref p) (upd H1 p (.lst xs))
theorem xt(h:PA X es t):PE X (.Tuple es x1 pos) (PU t):=by intro pins s σ H Q I hq;refine wpAny_Tuple_spliced (bS (h pos pins s σ H _ I hq) λus s1 ⟨xs,H1,I1,r,z,q⟩=>⟨by grind[r.length],?_⟩);have hf  := I1.hok.fresh (R5 _);refine⟨.ref s1.heap.objs.size,upd H1 s1.heap.objs.size _,I1.laid (λb u e=>R1 _ e) (R5 _) ?_,rfl,q _ hf⟩;exact⟨z,us,r,⟨_,R8 _ rfl,rfl,_,rfl⟩⟩
theorem jC(h:PA X es t):PE X (.List es pos) (Nz t):=by intro pins s σ H Q I hq;refine wpAny_List_spliced (bS (h pos pins s σ H _ I hq) λus s1 ⟨xs,H1,I1,r,z,q⟩=>⟨by grind[r.length],?_⟩);have hf  := I1.hok.fresh (R5 _);refine⟨.ref s1.heap.objs.size,upd H1 s1.heap.objs.size _,I1.laid (λb u e=>R1 _ e) (R5 _) ?_,rfl,q _ hf⟩;exact⟨z,us,0,r,R8 _ rfl⟩
end
noncomputable abbrev Sp:=List V->Hp->VK->XK->Prop
noncomputable abbrev HA:=List Env->Hp->VI->XK->Vs
structure xu(P:VG)(w:World)(K:Vz)(mg:Vv)(base:Heap)(A:VH)(outer:List Env)(s:VI)(H:Hp):Prop where
 frames:A.frames=some outer
 mod:Mod K mg base
 bs:∀b o,base.get? b=some o->s.heap.get? b=some o/\H b=none
 bsz:base.objs.size<=#[9]
 jB:s.heap.FunFrames base outer
 frf:∀b∈kK outer,H b=none
 hok:ky P w H s.heap
 bare:AllBare s.gens
noncomputable def CE(outer:List Env)(P:VG)(w:World)(H:Hp)(s:VI)(Q:VK)(u:Value)(s':VI):Prop:=
 ∃v H',s'.os=s.os/\AllBare s'.gens/\Un (kK outer) [] H H' s.heap s'.heap/\ky P w H' s'.heap/\RelV v u/\Q v H'
noncomputable def CR(CX:HA)(outer:List Env)(P:VG)(w:World)(H:Hp)(s:VI)(Q:VK)(E:XK)(r:Result)(s':VI):Prop:=
 match r with
 |.ok (.ret u)=>CE outer P w H s Q u s'
 |.ok _=>False
 |.error e=>CX outer H s E e s'
structure jD(P:VG)(w:World)(K:Vz)(mg:Vv)(base:Heap)(CX:HA)(k:Nat)(f:Addr)(fd:FuncData)(ps:VA)(sp:Sp):Prop where
 len:∀vs H Q E,sp vs H Q E->vs.length=ps.length
 run:∀(A:VH) (outer:List Env) (s:VI) (H:Hp) (args:Args) (us:Vy) (vs:List V) (Q:VK) (E:XK),bZ k A->xu P w K mg base A outer s H->BindsTo s fd args (ps.zip us)->Vals vs us->sp vs H Q E ->
  codeAny (model P w) A (.call (.ref f) args) (CR CX outer P w H s Q E) s
theorem jD.mono{K:Vz}(F:jD P w K mg base CX j f fd ps sp)(h:j<=k) :
  jD P w K mg base CX k f fd ps sp:=⟨F.len,λA outer s H args us vs Q E hr=>F.run A outer s H args us vs Q E (hr.mono h)⟩
theorem jD.imp{K:Vz}(F:jD P w K mg base CX k f fd ps sp)
 (h:∀vs H Q E,sp' vs H Q E->sp vs H Q E):jD P w K mg base CX k f fd ps sp':=
 ⟨λvs H Q E q=>F.len vs H Q E (h _ _ _ _ q),λA outer s H args us vs Q E hr he hb hv hs=>F.run A outer s H args us vs Q E hr he hb hv (h _ _ _ _ hs)⟩
section
variable {X:Cx} {pins:Vt} {σ:St} {H:Hp} {s s':VI}
theorem Inv.HB(I:#[10]):xu X.prog X.w X.K X.mg X.base X.A X.stack s H:=
 ⟨I.ok.frames,I.ok.mod,I.bs,Sd I.ok.bsz I.sz,I.stack,I.xn,I.hok,I.bare⟩
theorem Inv.after(I:#[10])(h:CE X.stack X.prog X.w H s Q u s'):EP X pins σ Q u s':=by obtain⟨v,H',os,bare,un,hok,r,q⟩:=h;obtain⟨hh,g,d,t,os'⟩:=s';obtain rfl:os'=s.os:=os;exact⟨v,H',I.call un hok bare (λb z=>absurd z #[6]),r,q⟩
end
noncomputable def BJ(sp:Sp)(dvs:List V)(E:XK)(t:TA):TE:=λσ H Q=>t σ H λvs H1=>sp (vs++dvs) H1 Q E
noncomputable def Binds(K:Vz)(fd:FuncData)(ps:VA)(ds:Vy):Prop:=
 ∀(s:VI) (us:Vy),K.In s.heap->(us++ds).length=ps.length->BindsTo s fd ⟨us,[]⟩ (ps.zip (us++ds))
theorem Binds.all{K:Vz}(h:∀us:Vy,us.length=ps.length->bindArgs fd ⟨us,[]⟩=pure (ps.zip us)):Binds K fd ps []:=λs us _ hl=>by rw[Ug]at hl ⊢;exact .of_eq (h us hl)
noncomputable def Passes(CX:HA)(X:Cx)(E:XK):Prop:=∀(pins:Vt) (σ:St) (H:Hp) (s:VI) (e:Value) (s':VI),#[10]->CX X.stack H s E e s'->X.xe e s'
section
variable {X:Cx} {CX:HA} {k:Nat} {f C:Addr} {fd:FuncData} {ps:VA} {sp:Sp} {dvs:List V} {ds:Vy} {E:XK} {x m:Str} {p pos apos:Pos} {e o:Expr} {es:VB} {ta:TE} {t:TA}
theorem EM{σ:St}(F:jD X.prog X.w X.K X.mg X.base CX k f fd ps sp)(hr:bZ k X.A)(hb:Binds X.K fd ps ds)(hd:Vals dvs ds)(hx:Passes CX X E)
 (I:#[10])(r:Vals vs us)(h:sp (vs++dvs) H Q E):wpAny #[12] X.A (call (.ref f) us) (EP X pins σ Q) X.xe s:=by
 have r2  := r.append hd;have hl:(us++ds).length=ps.length:=by rw[<- r2.length];exact F.len _ _ _ _ h
 refine Vh (UY (F.run X.A X.stack s H _ _ _ Q E hr I.HB (hb s us I.qr hl) r2 h) λr s' hq=>?_)
 cases r with
 |error e=>exact hx pins σ H s e s' I hq
 |ok fl=>
  cases fl with
  |ret u=>exact I.after hq
  |next=>assumption
  |brk=>assumption
  |cont=>assumption
theorem HC(F:jD X.prog X.w X.K X.mg X.base CX k f fd ps sp)(hr:bZ k X.A)(hg:Gl X x)(hm:X.mg x=some (.ref f))(hk:PySem.W.keepIn X.K (.ref f)=true)(hb:Binds X.K fd ps ds)(hd:Vals dvs ds)(hx:Passes CX X E)
 (ha:PA X (e::es) t)(hdb:(x==("__debug__" : Str))=false:=by decide)(he:#[2]:=by rfl)(hpl:#[20].any (·.1)=false:=by rfl) :
  PE X (.Call (.Name x p) (e::es) [] pos) (BJ sp dvs E t):=by
 intro pins s σ H Q I h;refine SU (mI I hg hm ?_ hdb);refine UE I.ok.mod.kin hk (bS (ha pos pins s σ H _ I h) λus s1 ⟨vs,H1,I1,r,q⟩=>⟨I1.qr,?_⟩) he hpl;exact EM F hr hb hd hx I1 r q
end
structure aH(N P:VA)(sc:Scope):Prop where
 kind:sc.kind=.function
 co:sc.isCoroutine=false
 gen:sc.isGenerator=false
 nd:N.Nodup
 pre:N.take P.length=P
 par:∀x∈P,sc.names.lookup x=some .local\/sc.names.lookup x=some .cell
 nofree:∀y∈sc.names,y.2≠.free
theorem wk{kindOf:Str->Option NameKind}:∀{binds:List (Str×Value)} {m:Vv},(∀v,(x,v)∉binds)->bindL kindOf binds m x=m x
 | [],_,_=>rfl
 | (n,v)::r,m,h=>by
  unfold bindL;rw[wk λw hw=>h w (Sb _ hw)];split
  ·grind
  ·rfl
theorem wm{kindOf:Str->Option NameKind}:∀{binds:List (Str×Value)} {m:Vv},(∀v,(x,v)∉binds)->bindC kindOf binds m x=m x
 | [],_,_=>rfl
 | (n,v)::r,m,h=>by
  unfold bindC;rw[wm λw hw=>h w (Sb _ hw)];split
  ·rfl
  grind
theorem wo{kindOf:Str->Option NameKind}:∀{P:VA} {vs:Vy} {i:Nat} {m:Vv},P.Nodup->P[i]?=some x->vs[i]?=some v->kindOf x=some .local ->
  bindL kindOf (P.zip vs) m x=some v
 | [],_,_,_,_,h,_,_=>by simp at h
 |_::_,[],_,_,_,_,h,_=>by simp at h
 |p::P,w::vs,0,m,nd,h1,h2,hk=>by simp at h1 h2;subst h1;subst h2;show bindL kindOf ((p,w)::P.zip vs) m p=_;unfold bindL;rw[wk λv hv=>(UG.mp nd).1 (Uh hv).1,if_pos hk];simp
 |p::P,w::vs,i+1,m,nd,h1,h2,hk=>by unfold bindL;exact wo (i:=i) (UG.mp nd).2 (by simp_all) (by simp_all) hk
theorem wq{kindOf:Str->Option NameKind}:∀{P:VA} {vs:Vy} {i:Nat} {m:Vv},P.Nodup->P[i]?=some x->vs[i]?=some v->kindOf x≠some .local ->
  bindC kindOf (P.zip vs) m x=some v
 | [],_,_,_,_,h,_,_=>by simp at h
 |_::_,[],_,_,_,_,h,_=>by simp at h
 |p::P,w::vs,0,m,nd,h1,h2,hk=>by simp at h1 h2;subst h1;subst h2;show bindC kindOf ((p,w)::P.zip vs) m p=_;unfold bindC;rw[wm λv hv=>(UG.mp nd).1 (Uh hv).1,if_neg hk];simp
 |p::P,w::vs,i+1,m,nd,h1,h2,hk=>by unfold bindC;exact wq (i:=i) (UG.mp nd).2 (by simp_all) (by simp_all) hk
noncomputable def start(N:VA)(vs:List V):St:=vs.map some++List.replicate (N.length-vs.length) none
noncomputable def fk(CX:HA)(P:VG)(w:World)(K:Vz)(mg:Vv)(base:Heap)(N:VA)(qual:Str)(scope:Scope)(f:Addr)(cd:Value)(A:VH)(outer:List Env)(s:VI)(H:Hp)(E:XK):Cx where
 prog:=P
 w:=w
 K:=K
 mg:=mg
 base:=base
 A:=A.deeper (envOfC qual scope #[9] f cd)
 N:=N
 s₀:=s
 H₀:=H
 env:=envOfC qual scope #[9] f cd
 outer:=outer
 stack:=envOfC qual scope #[9] f cd::outer
 ex:=[]
 calm:=true
 fn:=λ_=>true
 pn:=[]
 xe:=λe s'=>wpAny (model P w) (A.deeper (envOfC qual scope #[9] f cd)) (leaving (envOfC qual scope #[9] f cd) e) (λ_ s''=>CX outer H s E e s'') (λe' s''=>CX outer H s E e' s'') s'
theorem yW{sc:Scope}(h:sc.names.lookup x=some .cell):∃c,(cellsFrom n sc.names []).lookup x=some c:=by have q:=TC sc.names n [] (.inl h);exact T3.mp q
theorem qx{K:Vz}
 (S:aH N ps scope)(hd:A.handled=none)(e0:xu P w K mg base A outer s H)(hl:vs.length=ps.length)(r:Vals vs us)
 (x:InCallC s #[9] (bindL (envOfC qual scope #[9] f cd).kindOf (ps.zip us) λ_=>none) (cellsFrom (#[9]+1) scope.names []) (bindC (envOfC qual scope #[9] f cd).kindOf (ps.zip us) λ_=>none) s1) :
  Inv (fk CX P w K mg base N qual scope f cd A outer s H E) [] (start N vs) H s1:=by
 have hpl:ps.length<=N.length:=by have:=Vl List.length S.pre;grind
 obtain⟨h1,tk,rfl,hk⟩:=x.done;have noA:∀b:Addr,b∉(fk CX P w K mg base N qual scope f cd A outer s H E).ex:=λb z=>absurd (show b∈([]:Vx)from z) #[6]
 refine⟨⟨e0.mod,S.kind,rfl,rfl,R5 _,λy z c h1 h2=>?_,λy hy=>?_,λy c _ h=>?_,λ_=>hd,Around.frames_deeper e0.frames,.inr ⟨rfl,rfl⟩,λb z=>absurd z (noA b),e0.bs,e0.bsz,λb _ _=>noA b,λb z=>absurd z (noA b),e0.jB,e0.frf⟩,
  rfl,e0.bare,Un.kept hk,⟨_,x.toInCall.ns,λi y v h1 h2 h3=>?_⟩,λy c h=>⟨_,x.cell y c h⟩,e0.hok.fresh (R5 _),λy c h=>?_,λp hp=>absurd (show p∈([]:Vt)from hp) #[6],e0.hok.kept hk,?_⟩
 ·exact name_of_addr x.apart (SR h1) (SR h2)
 ·have hy:scope.names.lookup y=some .cell\/scope.names.lookup y=some .free:=hy;rcases hy with hy|hy
  ·exact yW hy
  ·exact absurd rfl (S.nofree _ (SR hy))
 ·exact Uy (x.above y c (SR h))
 ·have hi:i<vs.length:=by
   unfold start at h2;by_cases hi:i<vs.length
   ·exact hi
   ·rw[SO (by simpa using hi)]at h2;rw[T8]at h2;split at h2<;>cases h2
  have ha:vs[i]?=some v:=by
   unfold start at h2;rw[Sl (by simpa using hi),SD]at h2
   cases e:vs[i]? with
   |none=>rw[e]at h2;cases h2
   |some a=>rw[e]at h2;cases h2;rfl
  obtain⟨u,hu,rv⟩:=r.get ha;have hp:ps[i]?=some y:=by rw[<- S.pre,List.getElem?_take_of_lt #[3]];exact h1
  have ndP:ps.Nodup:=by rw[<- S.pre];exact S.nd.sublist (Ul _ _)
  refine⟨u,rv,?_⟩;rcases S.par y (SJ hp)with k|k
  ·exact .inl ⟨k,wo ndP hp hu k⟩
  ·obtain⟨c,e⟩:=yW (n:=#[9]+1) k;refine .inr ⟨.inl k,c,e,?_⟩;have q:=x.cell y c e;rw[wq ndP hp hu (by show scope.names.lookup y≠_;rw[k];decide)]at q;exact q
 ·exact e0.hok.fresh (Uy (x.above y c (SR h)))
 ·unfold start;show _=N.length;rw[SE,Ss,Tn];omega
theorem JZ{K:Vz}{dV kV doc pm cdv ct oc:Value}
 (lk:K.lookup f=some ⟨oc,od,.func (PySem.W.fnOf name qual params body scope dV kV doc pm an cdv ct),osl⟩)(hcd:PySem.W.codeIn K cdv qual=true)(S:aH N ps scope)
 (len:∀vs H Q E,sp vs H Q E->vs.length=ps.length)
 (hbody:∀(A:VH) (outer:List Env) (s:VI) (H:Hp) (vs:List V) (Q:VK) (E:XK),bZ k (A.deeper (envOfC qual scope #[9] f cdv))->sp vs H Q E ->
   ∃t,vL (fk CX P w K mg base N qual scope f cdv A outer s H E) body t/\t {nx:=λ_ H'=>Q .non H',rt:=Q} (start N vs) H) :
  jD P w K mg base CX (k+1) f (PySem.W.fnOf name qual params body scope dV kV doc pm an cdv ct) ps sp:=by
 refine⟨len,λA outer s H args us vs Q E hr e0 hb r hsp=>?_⟩;have hl:=len _ _ _ _ hsp;have KX:K.In s.heap:=e0.mod.kin.keeps λb o e=>(e0.bs b o e).1;have lim:s.heap.NoLimit:=e0.mod.nolimit.keeps λb o e=>(e0.bs b o e).1
 have hkind:∀y∈ps.zip us,scope.names.lookup y.1=some .local\/(scope.names.lookup y.1=some .cell/\((cellsFrom (#[9]+1) scope.names []).lookup y.1).isSome=true):=by
  rintro⟨n,v⟩ hy;rcases S.par n (Uh hy).1 with q|q
  ·grind
  ·exact .inr ⟨q,TC _ _ _ (.inl q)⟩
 refine UZ hr.depth (KX _ _ lk) rfl S.co S.gen rfl (Vc KX hcd) (hb _ _ _ _ ?_);refine Ut S.kind hkind λenv he s1 x=>?_;subst he;refine⟨lim.keeps x.toInCall.keep,codeAny_func ?_⟩;obtain⟨t,ht,hq⟩:=hbody A outer s H vs Q E (hr.deeper _) hsp;have I:Inv (fk CX P w K mg base N qual scope f cdv A outer s H E) [] (start N vs) H s1:=qx S hr.hd e0 hl r x;refine S3 (ht [] s1 (start N vs) H _ I hq) (λfl s' hs=>?_) λe s' hs=>hs
 have fin:∀{σ':St} {H':Hp} {v:V} {u:Value},Inv (fk CX P w K mg base N qual scope f cdv A outer s H E) [] σ' H' s'->RelV v u->Q v H'->CE outer P w H s Q u s':=
  λ{σ' H' v u} J rv q=>⟨v,H',J.os,J.bare,J.base,J.hok,rv,q⟩
 cases fl with
 |ret u=>obtain⟨v,σ',H',J,rv,q⟩:=hs;exact fin J rv q
 |next=>obtain⟨σ',H',J,q⟩:=hs;exact fin (v:=V.non) (u:=Value.none) J rfl q
 |brk=>obtain⟨_,_,_,q⟩:=hs;exact False.elim q
 |cont=>obtain⟨_,_,_,q⟩:=hs;exact False.elim q
section
variable {X:Cx} {x:Str} {p pos:Pos} {e:Expr} {es:VB} {t:TA} {id T:String} {r:List V->Hp->VK->Prop}
noncomputable def OW(r:List V->Hp->VK->Prop)(t:TA):TE:=λσ H Q=>t σ H λvs H1=>r vs H1 Q
theorem pf(hc:cX X (.builtin id) r)(hg:Gl X x)(hm:X.mg x=none)(hv:bootBuiltins x=some (.builtin id))(ha:PA X (e::es) t)(hn:x ≠ "__name__" := by decide)(hdb:(x==("__debug__" : Str))=false:=by decide)
 (he:#[2]:=by rfl)(hpl:#[20].any (·.1)=false:=by rfl):PE X (.Call (.Name x p) (e::es) [] pos) (OW r t):=by
 intro pins s σ H Q I h;refine SU (nR I hg hm hv ?_ hn hdb);exact PyProof.Rows.callWith_builtin1 (bS (ha pos pins s σ H _ I h) (by rintro us s1 ⟨vs,H1,I1,r1,q1⟩;exact hc pins s1 σ H1 vs us Q I1 r1 q1)) he hpl
theorem Dg(hc:cX X (.type T) r)(hg:Gl X x)(hm:X.mg x=none)(hv:bootBuiltins x=some (.type T))(ha:PA X (e::es) t)(hn:x ≠ "__name__" := by decide)(hdb:(x==("__debug__" : Str))=false:=by decide)
 (he:#[2]:=by rfl)(hpl:#[20].any (·.1)=false:=by rfl):PE X (.Call (.Name x p) (e::es) [] pos) (OW r t):=by
 intro pins s σ H Q I h;refine SU (nR I hg hm hv ?_ hn hdb);exact Ue (bS (ha pos pins s σ H _ I h) (by rintro us s1 ⟨vs,H1,I1,r1,q1⟩;exact hc pins s1 σ H1 vs us Q I1 r1 q1)) he hpl
end
end L2
namespace HT
open PySem PyProof.Rows
section
variable {prog:VG} {w:World} {A:VH} {E:Vs} {s:VI}
theorem HD(ht:IsTup s.heap t vs.toArray)(hb:IsTup s.heap b ws.toArray)(hv:vs≠[])
 (h1:ws=[]->Q (.ref t) s)(h2:ws≠[]->Q (.ref #[9]) {s with heap:=s.heap.push {cls:=.type "tuple",data:=.seq (vs++ws).toArray}})
 (hsz:vs.length+ws.length<=sizeLine):wpAny #[14] A (binaryOp .Add (.ref t) (.ref b)) Q E s:=by
 obtain⟨⟨cls,dd,data,sl⟩,ho,hc,n,hd⟩:=id ht;obtain⟨⟨cls2,dd2,data2,sl2⟩,ho2,hc2,n2,hd2⟩:=id hb;subst hc hd hc2 hd2;by_cases hw:ws=[]
 ·exact concat_meets ⟨_,ho,rfl⟩ ⟨_,ho2,rfl⟩ noFill_tuple_add seq_tuple_add UR UH (UA _ _)
   (tuple_addW1 t b vs.toArray ws.toArray n n2 dd dd2 sl sl2 (by grind) (by grind)) ⟨ho,ho2,h1 hw⟩
 ·refine concat_meets ⟨_,ho,rfl⟩ ⟨_,ho2,rfl⟩ noFill_tuple_add seq_tuple_add UR UH (UA _ _)
   (tuple_addW2 t b vs.toArray ws.toArray n n2 dd dd2 sl sl2 (by grind) (by simp_all) #[3]) ⟨ho,ho2,?_⟩
  simp_all
noncomputable def fx(n d:Nat):Option Int->Nat
 |none=>d
 |some v=>if v<0 then(v+(n:Int)).toNat else min v.toNat n
theorem K7(n d:Nat)(hd:d<=n)(o:Option Int):fx n d o<=n:=by
 cases o with
 |none=>exact hd
 |some v=>
  show(if v<0 then(v+(n:Int)).toNat else min v.toNat n)<=n
  grind
theorem BK(v:Int)(n d:Nat):(if v<0 then max (v+(n:Int)) 0 else min v (n:Int))=((fx n d (some v):Nat):Int):=by
 show _=(((if v<0 then(v+(n:Int)).toNat else min v.toNat n):Nat):Int)
 grind
theorem AB(lo hi:Option Int)(n:Nat):Builtin.Slice.sliceAdjust lo hi 1 (n:Int)=(((fx n 0 lo:Nat):Int),((fx n n hi:Nat):Int)):=by
 refine Prod.ext ?_ ?_
 ·cases lo with
  |none=>rfl
  |some v=>exact BK v n 0
 ·cases hi with
  |none=>rfl
  |some v=>exact BK v n n
theorem AD(i j:Nat):Builtin.Slice.slicePlaces (i:Int) (j:Int) 1=j-i:=by
 grind[Builtin.Slice.slicePlaces]
theorem nT(p:IsPart v o)(h:Q o s):wpAny #[14] A (Builtin.Slice.slicePartIndex v) Q E s:=by
 cases p with
 |none=>exact slicePart_none h
 |int i t=>exact slicePart_int h
theorem jl{lo hi:Option Int}{Q:Int×Int×Nat->VI->Prop}(hs:s.heap.IsSliceOf sl vl vu .none)(pl:IsPart vl lo)(pu:IsPart vu hi)
 (h:Q (((fx n 0 lo:Nat):Int),1,fx n n hi-fx n 0 lo) s):wpAny #[14] A (Builtin.Slice.sliceApplied (.ref sl) (pure (n:Int))) Q E s:=by
 obtain⟨os,hos,hcs,hds⟩:=id hs;refine R0 (R0 (SX hos hds rfl (R0 (SX hos hds rfl (R0 (SX hos hds rfl (R3 ?_)))))));refine R0 (slicePart_none ?_);refine R0 (nT pl (R0 (nT pu (R0 (R3 ?_)))));show wpAny _ _ (match Builtin.Slice.sliceAdjust lo hi 1 (n:Int)with | (lo,hi)=>pure (lo,(1:Int),Builtin.Slice.slicePlaces lo hi 1)) _ _ s;rw[AB lo hi n];show wpAny _ _ (pure (((fx n 0 lo:Nat):Int),(1:Int),Builtin.Slice.slicePlaces ((fx n 0 lo:Nat):Int) ((fx n n hi:Nat):Int) 1)) _ _ s;rw[AD];exact R3 h
theorem EN(xs:VE)(i k:Nat):((List.range k).filterMap λ(m:Nat)=>xs[((i:Int)+(m:Int)*1).toNat]?).toArray=((xs.toList.drop i).take k).toArray:=by
 have e:(λ(m:Nat)=>xs[((i:Int)+(m:Int)*1).toNat]?)=λm=>xs[i+m]?:=by
  grind
 have:=pick_run xs i k;have e2:((λx=>xs[x]?)∘λx=>i+x)=λm=>xs[i+m]?:=rfl
 grind
theorem ph{lo hi:Option Int}(ht:IsTup s.heap t items)(hs:s.heap.IsSliceOf sl vl vu .none)(pl:IsPart vl lo)(pu:IsPart vu hi)
 (hw:¬ (fx items.size 0 lo=0/\fx items.size items.size hi=items.size))
 (h:Q (.ref #[9]) {s with heap:=s.heap.push {cls:=.type "tuple",data:=.seq ((items.toList.drop (fx items.size 0 lo)).take (fx items.size items.size hi-fx items.size 0 lo)).toArray}})
 (hsz:items.size<=sizeLine):wpAny #[14] A (getItem (.ref t) (.ref sl)) Q E s:=by
 have htake:sizeOk (.seq ((items.toList.drop (fx items.size 0 lo)).take (fx items.size items.size hi-fx items.size 0 lo)).toArray):=by show((items.toList.drop (fx items.size 0 lo)).take (fx items.size items.size hi-fx items.size 0 lo)).toArray.size<=sizeLine;rw[Si,Ub,List.length_drop,Te];omega
 have hj:fx items.size items.size hi<=items.size:=K7 _ _ (R5 _) hi;obtain⟨os,hos,hcs,hds⟩:=id hs;have hTs:s.TypeIs (.ref sl) "slice" := ⟨os,hos,hcs⟩;unfold getItem
 try with_reducible refine SH ?_
 first|refine R0 (R3 ?_)|skip
 refine R0 (US ht.typeIs #[4] ?_)
 refine R0 (Sz (name:=Str.ofString "__getitem__") ht.typeIs So
  (SK So ht.typeIs entry_tuple_getitem ?_ (args_tuple_getitem _ _)))
 show wpAny _ _ (Builtin.Tuple.tupleItemsOf (.ref t) >>= _) _ _ s;refine R0 (tupleItemsOf_ ht ?_);refine R0 (wpAny_typeOf hTs ?_);rw[if_pos #[4]];refine R0 (jl hs pl pu ?_);have hno:¬ ((((fx items.size 0 lo:Nat):Int)==0&&(1:Int)==1&&(fx items.size items.size hi-fx items.size 0 lo)==items.size)=true):=by intro q;rw[R4,R4]at q;have q1:((fx items.size 0 lo:Nat):Int)=0:=eq_of_beq q.1.1;have q2:fx items.size items.size hi-fx items.size 0 lo=items.size:=eq_of_beq q.2;exact hw ⟨by omega,by omega⟩
 show wpAny _ _ (if(((fx items.size 0 lo:Nat):Int)==0&&(1:Int)==1&&(fx items.size items.size hi-fx items.size 0 lo)==items.size)=true then _ else _) _ _ s;rw[if_neg hno,EN]
 first
  |exact R0 (m:=Builtin.Tuple.tupleExact _) (Su (R3 ⟨_,rfl,R3 h⟩) htake)
  |exact R0 (m:=Builtin.Tuple.tupleExact _) (Su (R0 (R3 (R3 ⟨_,rfl,R3 h⟩))) htake)
  |exact R0 (R0 (m:=Builtin.Tuple.tupleExact _) (Su (R3 (R3 ⟨_,rfl,R3 h⟩)) htake))
  |exact R0 (R0 (m:=Builtin.Tuple.tupleExact _) (Su (R3 ⟨_,rfl,R3 h⟩) htake))
end
end HT
namespace L2
open PySem PySem.Spec PyProof.Rows
noncomputable abbrev TO:=St->Hp->(Option Int->Hp->Prop)->Prop
noncomputable def PO(X:Cx)(e:Option Expr)(t:TO):Prop:=
 ∀(pins:Vt) (s:VI) (σ:St) (H:Hp) (Q:Option Int->Hp->Prop),#[10]->t σ H Q ->
  wpAny #[12] X.A (evalPart e X.env) (λu s'=>∃o H',Inv X pins σ H' s'/\IsPart u o/\Q o H') X.xe s
noncomputable def HE:TO:=λ_ H Q=>Q none H
noncomputable def NA(t:TE):TO:=λσ H Q=>t σ H λx H1=>∃i,x=.int i/\Q (some i) H1
section
variable {X:Cx} {e:Expr} {te:TE} {lo hi:Option Expr} {tl th:TO} {pos p2:Pos}
theorem HF:PO X none HE:=by intro pins s σ H Q I h;exact R3 ⟨none,H,I,.none,h⟩
theorem HG(h:PE X e te):PO X (some e) (NA te):=by intro pins s σ H Q I hw;refine bS (h pins s σ H _ I hw) λu s1 ⟨x,H1,I1,r1,q1⟩=>?_;obtain⟨i,rfl,q⟩:=q1;obtain⟨t,rfl⟩:=r1;exact⟨some i,H1,I1,.int i t,q⟩
noncomputable def NB(X:Cx)(r:V->Option Int->Option Int->Hp->VK->Prop):Prop:=
 ∀(pins:Vt) (s:VI) (σ:St) (H:Hp) (x:V) (v vl vu:Value) (lo hi:Option Int) (sl:Addr) (Q:VK),#[10]->RelV x v->s.heap.IsSliceOf sl vl vu .none->IsPart vl lo->IsPart vu hi->r x lo hi H Q ->
  ∃T id,typeLookup (.type T) "__getitem__" = pure (some (.builtin id))/\s.TypeIs v T/\wpAny #[12] X.A (getItem v (.ref sl)) (EP X pins σ Q) X.xe s
noncomputable def RD(r:V->Option Int->Option Int->Hp->VK->Prop)(te:TE)(tl th:TO):TE:=λσ H Q=>te σ H λx H1=>tl σ H1 λl H2=>th σ H2 λu H3=>r x l u H3 Q
theorem EO(hr:NB X r)(he:PE X e te)(hl:PO X lo tl)(hu:PO X hi th):PE X (.Subscript e (.Slice lo hi none p2) pos) (RD r te tl th):=by intro pins s σ H Q I h;refine Subscript_ (bS (he pins s σ H _ I h) λv s1 ⟨x,H1,I1,r1,q1⟩=>?_);refine wpAny_Slice (bS (hl pins s1 σ H1 _ I1 q1) λvl s2 ⟨l,H2,I2,pl,q2⟩=>bS (hu pins s2 σ H2 _ I2 q2) λvu s3 ⟨u,H3,I3,pu,q3⟩=>?_);refine R3 ?_;have I4:Inv X pins σ H3 {s3 with heap:=s3.heap.push {cls:=.type "slice",data:=.fields #[vl,vu,.none]}}:=I3.kept λb ob q=>R1 _ q;obtain⟨T,id,hT,ht,hg⟩:=hr pins {s3 with heap:=s3.heap.push {cls:=.type "slice",data:=.fields #[vl,vu,.none]}} σ H3 x v vl vu l u s3.heap.objs.size Q I4 r1 (Heap.IsSliceOf.new ..) pl pu q3;exact tail_any ht hT hg #[5]
noncomputable def yX(xs:List V)(lo hi:Option Int):List V:=(xs.drop (HT.fx xs.length 0 lo)).take (HT.fx xs.length xs.length hi-HT.fx xs.length 0 lo)
theorem rD(xs:List V)(lo hi:Option Int):(yX xs lo hi).length<=xs.length:=by
 grind[yX,List.length_take,List.length_drop]
noncomputable def PV(K:Vz):V->Option Int->Option Int->Hp->VK->Prop:=λx lo hi H Q=>∃a xs,x=.ref a/\fW K H a xs /\
 ¬ (HT.fx xs.length 0 lo=0/\HT.fx xs.length xs.length hi=xs.length)/\∀p,H p=none->Q (.ref p) (upd H p (.tup (yX xs lo hi)))
theorem K8:NB X (PV X.K):=by intro pins s σ H x v vl vu lo hi sl Q I rx hs pl pu h;obtain⟨a,xs,rfl,hx,hw,q⟩:=h;cases rx;obtain⟨its,r,ht,hz⟩:=I.tuple hx;have hlen:its.toArray.size=xs.length:=r.length.symm;refine⟨"tuple",_,So.lookup,ht.typeIs,?_⟩;refine HT.ph ht hs pl pu (by grind) ?_ (by simp_all);rw[hlen];refine⟨.ref #[9],_,I.laid (λb ob q=>R1 _ q) (R5 _) ?_,rfl,q _ (I.hok.fresh (R5 _))⟩;exact⟨Sd (rD xs lo hi) hz,_,(r.drop _).take _,IsTup.new _ _⟩
noncomputable def NC(K:Vz):R2:=λx y H Q=>∃a b xs ys,x=.ref a/\y=.ref b/\fW K H a xs/\fW K H b ys/\xs≠[]/\xs.length+ys.length<=sizeLine /\
 (ys=[]->Q (.ref a) H)/\(ys≠[]->∀p,H p=none->Q (.ref p) (upd H p (.tup (xs++ys))))
theorem Vals.xw(r:Vals xs us):us=[]<->xs=[]:=by
 cases r with
 |nil=>simp
 |cons _ _=>simp
theorem HH:iC X (binaryOp .Add) (NC X.K):=by intro pins s σ H x y v u Q I rx ry h;obtain⟨a,b,xs,ys,rfl,rfl,ha,hb,hx,hz,q1,q2⟩:=h;cases rx;cases ry;obtain⟨its,r1,p1,_⟩:=I.tuple ha;obtain⟨its2,r2,p2,_⟩:=I.tuple hb;refine HT.HD p1 p2 (λz=>hx (r1.xw.mp z)) (λz=>⟨.ref a,H,I,rfl,q1 (r2.xw.mp z)⟩) (λz=>?_) (by grind[r1.length,r2.length]);refine⟨.ref #[9],_,I.laid (λb ob q=>R1 _ q) (R5 _) ?_,rfl,q2 (λw=>z (r2.xw.mpr w)) _ (I.hok.fresh (R5 _))⟩;exact⟨by simp_all,_,r1.append r2,IsTup.new _ _⟩
end
noncomputable def wt(n:Nat)(i:Int):Option Nat:=if 0<=i then(if i<n then some i.toNat else none)else if -(n:Int)<=i then some (i+n).toNat else none
noncomputable def kL{α:Type}(xs:List α)(i:Int):Option α:=(wt xs.length i).bind λj=>xs[j]?
theorem BL(h:wt n i=some j):seqIndex? i n=some j/\j<n/\-(n:Int)<=i/\i<n:=by
 unfold wt at h;by_cases h0:0<=i
 ·rw[if_pos h0]at h;by_cases h1:i<n
  ·rw[if_pos h1]at h;have e:i.toNat=j:=S8 h;exact⟨by rw[seqIndex_of h0 h1,e],by omega,by omega,h1⟩
  grind
 ·rw[if_neg h0]at h;by_cases h1:-(n:Int)<=i
  ·rw[if_pos h1]at h;have e:(i+n).toNat=j:=S8 h;exact⟨by rw[seqIndex_neg #[3] h1,e],by omega,h1,by omega⟩
  grind
theorem BN(h:kL xs i=some v):∃j,seqIndex? i xs.length=some j/\xs[j]?=some v/\j<xs.length/\-(xs.length:Int)<=i/\i<xs.length:=by
 unfold kL at h
 cases e:wt xs.length i with
 |none=>simp_all
 |some j=>
  obtain⟨h1,h2,h3,h4⟩:=BL e
  simp_all
theorem gc{j:Nat}{v:α}(h:xs[j]?=some v):kL xs (j:Int)=some v:=by
 have hj  := (R6.mp h).1
 simp_all[wt,kL]
noncomputable def BO(b:Expr):Prop:=∀o i,subscripted b false o i=operate [o,i] (getItem o i)
noncomputable def M3(X:Cx)(r:R2):Prop:=
 ∀(value slice:Expr) (pins:Vt) (s:VI) (σ:St) (H:Hp) (x y:V) (v u:Value) (Q:VK),#[10]->RelV x v->RelV y u->r x y H Q ->
  subscripted slice false v u=operate [v,u] (getItem v u)->wpAny #[12] X.A (subscriptTail value slice v u) (EP X pins σ Q) X.xe s
noncomputable def RE(X:Cx)(id:String)(r:V->List V->Hp->VK->Prop):Prop:=
 ∀(pins:Vt) (s:VI) (σ:St) (H:Hp) (x:V) (xs:List V) (v:Value) (us:Vy) (Q:VK),#[10]->RelV x v->Vals xs us->r x xs H Q ->
  wpAny #[12] X.A (call (.builtin id) (v::us)) (EP X pins σ Q) X.xe s
section
variable {X:Cx} {a b:Expr} {ta tb:TE} {pos:Pos}
theorem BP(hr:M3 X r)(ha:PE X a ta)(hb:PE X b tb)(hs:BO b):PE X (.Subscript a b pos) (Nl r ta tb):=by intro pins s σ H Q I h;exact Subscript_ (KQ ha hb I h λv u s2 x y H2 I2 rx ry q=>hr a b pins s2 σ H2 x y v u Q I2 rx ry q (hs _ _))
noncomputable def PX(K:Vz):R2:=λx y H Q=>∃p xs i v,x=.ref p/\y=.int i/\gF K H p xs/\kL xs i=some v/\Q v H
noncomputable def PY(K:Vz):R2:=λx y H Q=>∃p xs i v,x=.ref p/\y=.int i/\fW K H p xs/\kL xs i=some v/\Q v H
theorem mK:M3 X (PX X.K):=by
 intro value slice pins s σ H x y v u Q I rx ry h hs;obtain⟨p,xs,i,z,rfl,rfl,hq,he,q⟩:=h;cases rx;obtain⟨t,rfl⟩:=ry;obtain⟨its,r,pl,hz⟩:=I.list hq;obtain⟨j,h1,h2,h3,h4,h5⟩:=BN he;obtain⟨w,ew,rw'⟩:=r.get h2;have hl:=r.length;have hn:=qw;have fin:EP X pins σ Q w s:=⟨z,H,I,rw',q⟩;by_cases h0:0<=i
 ·have hj:i.toNat=j:=by
   simp_all[seqIndex_of,h0,h5]
  exact item_listR pl.isList h0 #[3] (by grind) fin hs
 ·have hj:(i+(its.toArray.size:Int)).toNat=j:=by
   rw[seqIndex_neg #[3] h4]at h1;rw[Si,<- hl];exact S8 h1
  exact subscriptTail_builtinR (x:=w) pl.isList.typeIs slot_list_getitem.lookup
   (wpAny_getItem_list_neg (Q:=λr s'=>r=w/\EP X pins σ Q r s') pl.isList #[3] (by rw[Si]<;>omega) #[3] (by rw[hj];simpa using ew) ⟨rfl,fin⟩) hs
theorem K9:M3 X (PY X.K):=by
 intro value slice pins s σ H x y v u Q I rx ry h hs;obtain⟨p,xs,i,z,rfl,rfl,hq,he,q⟩:=h;cases rx;obtain⟨t,rfl⟩:=ry;obtain⟨its,r,pl,hz⟩:=I.tuple hq;obtain⟨j,h1,h2,h3,h4,h5⟩:=BN he;obtain⟨w,ew,rw'⟩:=r.get h2;have hl:=r.length;have hn:=qw;have fin:EP X pins σ Q w s:=⟨z,H,I,rw',q⟩
 exact subscriptTail_builtinR pl.typeIs slot_tuple_getitem.lookup
  (getItem_tuple (j:=j) pl #[3] #[3] (by grind) (by grind) ⟨rfl,fin⟩) hs
theorem AE(its:Vy)(n j:Nat)(u:Value):Obj.mapSeq (·.setIfInBounds j u) {cls:=.type "list",data:=.seq its.toArray n}={cls:=.type "list",data:=.seq (its.set j u).toArray n}:=by simp[Obj.mapSeq]
theorem Inv.lst{σ:St}(I:#[10])(h:H p=some (.lst xs)) :
  ∃(its:Vy) (n:Nat),Vals xs its/\s.heap.get? p=some {cls:=.type "list",data:=.seq its.toArray n}/\xs.length<=sizeLine:=by
 obtain⟨z,its,n,r,e⟩:=I.hok p _ h
 simp_all
theorem Inv.La{σ:St}{its its':Vy}(I:#[10])(h:H p=some (.lst xs))
 (ho:s.heap.get? p=some {cls:=.type "list",data:=.seq its.toArray n})(hf:f {cls:=.type "list",data:=.seq its.toArray n}={cls:=.type "list",data:=.seq its'.toArray n'})(r:Vals ys its')(hz:ys.length<=sizeLine)(t:Nat) :
  Inv X pins σ (upd H p (.lst ys)) {s with heap:=s.heap.update p f,toks:=t}:=by
 have e:(s.heap.update p f).get? p=some {cls:=.type "list",data:=.seq its'.toArray n'}:=by rw[U0 f ho (by rw[hf]<;>rfl),hf]
 refine I.write (by rw[h];trivial) (.inl rfl) (λb u hb q=>(Heap.get?_update_other _ _ (UD hb)).trans q) ⟨_,e⟩ ?_;exact⟨hz,its',n',r,e⟩
noncomputable def J0:V->V->V->Hp->(Hp->Prop)->Prop:=λo i v H Q=>∃p xs k j,o=.ref p/\i=.int k/\H p=some (.lst xs)/\wt xs.length k=some j/\Q (upd H p (.lst (xs.set j v)))
theorem set_list:KD X J0:=by
 intro pins s σ H o i v ov iv u Q I ro ri rv h;obtain⟨p,xs,k,j,rfl,rfl,hp,hj,q⟩:=h;cases ro;obtain⟨t,rfl⟩:=ri;obtain⟨its,n,r,ho,hz⟩:=I.lst hp;obtain⟨h1,h2,h3,h4⟩:=BL hj;have hl:=r.length;have hn:=qw
 have I':Inv X pins σ (upd H p (.lst (xs.set j v))) {s with heap:=s.heap.update p (Obj.mapSeq (·.setIfInBounds j u))}:=
  I.La hp ho (AE its n j u) (r.set rv j) (by grind) s.toks
 by_cases h0:0<=k
 ·have hk:k.toNat=j:=by
   simp_all[seqIndex_of,h0,h4]
  exact PySem.W.ki_setAt ho h0 #[3] (by grind) (by rw[hk];exact⟨_,I',q⟩)
 ·have hk:(k+(its.toArray.size:Int)).toNat=j:=by
   rw[seqIndex_neg #[3] h3]at h1;rw[Si,<- hl];exact S8 h1
  exact PySem.W.ki_setBack ho #[3] (by rw[Si,<- hl];exact h3) #[3] (by rw[hk];exact⟨_,I',q⟩)
theorem xx(lo hi:Option Int)(n:Nat):(sliceBounds lo hi none n).1=((HT.fx n 0 lo:Nat):Int)/\(sliceBounds lo hi none n).2.1=((HT.fx n n hi:Nat):Int)/\(sliceBounds lo hi none n).2.2=1:=by
 refine⟨?_,?_,rfl⟩
 ·cases lo with
  |none=>rfl
  |some i=>
   simp only[sliceBounds,HT.fx,Option.getD_none,show(1:Int)>0 by decide,Tr];by_cases h:i<0
   ·simp only[h,Tr]<;>omega
   grind
 ·cases hi with
  |none=>rfl
  |some i=>
   simp only[sliceBounds,HT.fx,Option.getD_none,show(1:Int)>0 by decide,Tr];by_cases h:i<0
   ·simp only[h,Tr]<;>omega
   ·simp only[h,TK]<;>omega
theorem vM(its:Vy)(lo hi:Option Int):slicePick its.toArray lo hi none=((its.drop (HT.fx its.length 0 lo)).take (HT.fx its.length its.length hi-HT.fx its.length 0 lo)).toArray:=by obtain⟨h1,h2,h3⟩:=xx lo hi its.toArray.size;unfold slicePick;rw[h1,h2,h3];simp only[sliceRange_one,pick_run]<;>rfl
noncomputable def PZ(K:Vz):V->Option Int->Option Int->Hp->VK->Prop:=λx lo hi H Q=>∃a xs,x=.ref a/\gF K H a xs/\∀p,H p=none->Q (.ref p) (upd H p (.lst (yX xs lo hi)))
theorem HI:NB X (PZ X.K):=by intro pins s σ H x v vl vu lo hi sl Q I rx hs pl pu h;obtain⟨a,xs,rfl,hx,q⟩:=h;cases rx;obtain⟨its,r,ht,hz⟩:=I.list hx;have hlen:=r.length;refine⟨"list",_,slot_list_getitem.lookup,ht.isList.typeIs,?_⟩;refine wpAny_getItem_list_slice ht.isList hs pl pu .none #[6] ?_ (by grind);rw[vM,<- hlen];refine⟨.ref #[9],_,I.laid (λb ob q=>R1 _ q) (R5 _) ?_,rfl,q _ (I.hok.fresh (R5 _))⟩;exact⟨Sd (rD xs lo hi) hz,_,0,(r.drop _).take _,R8 _ rfl⟩
theorem cX.or(h:cX X f r)(h':cX X f r'):cX X f (λxs H Q=>r xs H Q\/r' xs H Q):=by
 intro pins s σ H xs us Q I rs q;rcases q with q|q
 ·exact h pins s σ H xs us Q I rs q
 ·exact h' pins s σ H xs us Q I rs q
theorem xy:cX X (.type "list") (λxs H Q=>∃p ys,xs=[.ref p]/\(gF X.K H p ys\/fW X.K H p ys)/\∀l,H l=none->Q (.ref l) (upd H l (.lst ys))):=by
 intro pins s σ H xs us Q I r h;obtain⟨p,ys,rfl,hq,q⟩:=h;obtain⟨u,rfl,rx⟩:=vals1 r;cases rx
 have fin:∀(its:Vy),Vals ys its->ys.length<=sizeLine->∀(h':Heap) (c':Nat),_ ->
   h'.get? #[9]=some {cls:=.type "list",dict:=none,data:=.seq its.toArray c',slots:=#[]}->EP X pins σ Q _ {s with heap:=h'}:=λits r' hz h' c' kp e=>
  ⟨.ref #[9],_,I.laid kp (R5 _) (show bW X.prog X.w _ h' _ (.lst ys)from⟨hz,its,c',r',e⟩),rfl,q _ (I.hok.fresh (R5 _))⟩
 rcases hq with hq|hq
 ·obtain⟨its,r',pl,hz⟩:=I.list hq;have hlen:=r'.length;obtain⟨o,ho,hc,n,hd⟩:=pl.isList;exact call_list_seq p (.inl rfl) ho hc hd (λh' c' kp e=>fin its r' hz h' c' kp e) (by grind)
 ·obtain⟨its,r',pl,hz⟩:=I.tuple hq;have hlen:=r'.length;obtain⟨o,ho,hc,n,hd⟩:=pl;exact call_list_seq p (.inr rfl) ho hc hd (λh' c' kp e=>fin its r' hz h' c' kp e) (by grind)
theorem vN:cX X (.type "tuple") (λxs H Q=>∃p ys,xs=[.ref p]/\((gF X.K H p ys/\∀l,H l=none->Q (.ref l) (upd H l (.tup ys)))\/(fW X.K H p ys/\Q (.ref p) H))):=by
 intro pins s σ H xs us Q I r h;obtain⟨p,ys,rfl,h⟩:=h;obtain⟨u,rfl,rx⟩:=vals1 r;cases rx;rcases h with⟨hq,q⟩|⟨hq,q⟩
 ·obtain⟨its,r',pl,hz⟩:=I.list hq;have hlen:=r'.length;refine call_tuple_list pl.isList (λh' kp=>?_) (by grind);have I1:Inv X pins σ H {s with heap:=h'}:=I.kept kp
  have I2:Inv X pins σ (upd H h'.objs.size (.tup ys)) {s with heap:=h'.push {cls:=.type "tuple",data:=.seq its.toArray}}:=
   I1.laid (λb o e=>R1 _ e) (R5 _) (⟨hz,its,r',IsTup.new _ _⟩)
  exact⟨.ref h'.objs.size,_,I2,rfl,q _ (I1.hok.fresh (R5 _))⟩
 ·obtain⟨its,r',pl,hz⟩:=I.tuple hq;exact call_tuple_same pl ⟨.ref p,H,I,rfl,q⟩
noncomputable def QZ(K:Vz)(T:String)(x:V)(H:Hp):Prop:=match x with
 |.str _=>T = "str"
 |.int _=>T = "int"
 |.ref p=>(T = "list" /\ ∃xs,gF K H p xs)\/(T = "tuple" /\ ∃o,K.lookup p=some o/\o.cls=.type "tuple" /\ o.dict=none) \/
   (T = "dict" /\ ((∃kvs,H p=some (.dK kvs))\/∃kvs,H p=some (.dT kvs)))\/(T = "set" /\ ∃S n,H p=some (.set S n))
 |_=>False
theorem Lb{σ:St}(I:#[10])(r:RelV x v)(ty:QZ X.K T x H) :
  s.TypeIs v T/\∀a,v=.ref a->∃ob,s.heap.get? a=some ob/\ob.dict=none:=by
 cases x with
 |str z=>obtain⟨t,rfl⟩:=r;cases(show T = "str" from ty);exact⟨typeIs_str s z t,λ_ e=>nomatch e⟩
 |int i=>obtain⟨t,rfl⟩:=r;cases(show T = "int" from ty);exact⟨typeIs_int s i t,λ_ e=>nomatch e⟩
 |ref p=>
  cases r;rcases ty with⟨rfl,xs,hq⟩|⟨rfl,o,hk,hc,hd⟩|⟨rfl,hk⟩|⟨rfl,S,n,hk⟩
  ·obtain⟨its,_,pl,_⟩:=I.list hq;refine⟨pl.isList.typeIs,λa e=>?_⟩;cases e;obtain⟨o,n,e,c,hd,_⟩:=pl
   grind
  ·refine⟨⟨o,I.qr p o hk,hc⟩,λa e=>?_⟩;cases e;exact⟨o,I.qr _ o hk,hd⟩
  ·have z:∃o,s.heap.get? p=some o/\o.ExactDict:=by
    rcases hk with⟨kvs,hk⟩|⟨kvs,hk⟩
    ·obtain⟨_,_,_,_,o,_,_,e,ex,_⟩:=I.hok p _ hk
     grind
    ·obtain⟨_,_,_,_,o,_,_,e,ex,_⟩:=I.hok p _ hk;exact⟨o,e,ex⟩
   obtain⟨o,e,ex⟩:=z;refine⟨⟨o,e,ex.1⟩,λa e2=>?_⟩;cases e2;exact⟨o,e,ex.2.1⟩
  ·obtain⟨o,_,_,_,e,ex,_⟩:=I.hok p _ hk;refine⟨⟨o,e,ex.1⟩,λa e2=>?_⟩;cases e2;exact⟨o,e,ex.2.1⟩
 |_=>exact False.elim ty
noncomputable def Q0(K:Vz)(T:String)(r:V->List V->Hp->VK->Prop)(to:TE)(t:TA):TE:=λσ H Q=>to σ H λx H1=>QZ K T x H1/\t σ H1 λxs H2=>r x xs H2 Q
variable {o e:Expr} {es:VB} {to:TE} {t:TA} {name:Str} {apos cpos:Pos} {T id:String} {r:V->List V->Hp->VK->Prop}
theorem ER(pa:PlainAttrs T)(slot:Slot T name id)(hty:typeOf (.builtin id)=pure (.type "method_descriptor"))(hm:RE X id r)(ho:PE X o to)(ha:PA X (e::es) t)
 (hbase:attributeBase o name X.env (eval o X.env)=eval o X.env:=by rfl)
 (hfew:((backTo cpos (starEach (e::es) X.env)).all (λx=>!x.1)&&(backToKw cpos (keywordEach [] X.env)).all (λx=>x.1.isSome)
   && decide ((e::es).length+([]:List Keyword).length+(if([]:List Keyword).isEmpty then 0 else 1)<30))=true:=by rfl)
 (hline:(apos.endLine==cpos.line)=true:=by rfl)(hs:#[2]:=by rfl)(hplain:(backTo cpos (starEach es X.env)).any (·.1)=false:=by rfl) :
  PE X (.Call (.Attribute o name apos) (e::es) [] cpos) (Q0 X.K T r to t):=by
 intro pins s σ H Q I h;refine wpAny_Call_method_late hbase hfew hline rfl (bS (ho pins s σ H _ I h) λv s1 ⟨x,H1,I1,r1,ty,q1⟩=>?_);obtain⟨h1,h2⟩:=Lb I1 r1 ty;refine⟨T,id,pa,slot,hty,h1,h2,?_⟩;have hA:=ha cpos pins s1 σ H1 _ I1 q1;rw[hs]at hA ⊢;refine Calls.callWith_builtin (by simp_all) (Calls.evalArgs_plain ?_);exact bS hA (by rintro us s2 ⟨vs,H2,I2,r2,q2⟩;exact hm pins s2 σ H2 x vs v us Q I2 r1 r2 q2)
end
noncomputable def P0(X:Cx)(id:String)(r:V->List V->Hp->VK->Prop):Prop:=
 ∀(pins:Vt) (s:VI) (σ:St) (H:Hp) (x:V) (xs:List V) (v:Value) (us:Vy) (Q:VK),#[10]->RelV x v->Vals xs us->r x xs H Q ->
  wpAny #[12] X.A (call (.builtin id) (v::us)) (EP X pins σ Q) X.xe s
theorem Vals.one:∀{x:V} {us:Vy},Vals [x] us->∃u,us=[u]/\RelV x u
 |_,_,.cons r .nil=>⟨_,rfl,r⟩
theorem Vals.rep(h:Vals xs us):∀k:Nat,Vals (List.replicate k xs).flatten (List.replicate k us).flatten
 |0=>.nil
 |k+1=>Vals.append h (Vals.rep h k)
theorem foldl_rep(its:Vy):∀(k:Nat) (acc:Vy),
  List.foldl (λx1 x2=>x1++x2) acc.toArray (List.replicate k its.toArray)=(acc++(List.replicate k its).flatten).toArray
 |0,acc=>by simp
 |k+1,acc=>by
  have e:acc.toArray++its.toArray=(acc++its).toArray:=by simp
  have e2:(acc++its)++(List.replicate k its).flatten=acc++(List.replicate (k+1) its).flatten:=by
   grind
  rw[<- e2,<- foldl_rep its k _,<- e,List.replicate_succ,List.foldl_cons]
section
variable {X:Cx} {pins:Vt} {σ:St} {H:Hp} {s:VI} {l b:Addr} {xs ys zs:List V}
theorem Inv.P1{its its':Vy}(I:#[10])(hH:H l=some (.lst xs))
 (e:s.heap.get? l=some {cls:=.type "list",data:=.seq its.toArray n})(hf:f its.toArray=its'.toArray)(hv:Vals ys its')(hz:ys.length<=sizeLine) :
  Inv X pins σ (upd H l (.lst ys)) {s with heap:=s.heap.update l (Obj.mapSeq f),toks:=t'}:=by
 have q:=PySem.IsL.update e f;rw[hf]at q;refine I.write (by rw[hH];exact trivial) (.inl rfl) (λb' u hb hu=>(Heap.get?_update_other s.heap _ (UD hb)).trans hu) ⟨_,q⟩ ?_;exact⟨hz,its',_,hv,q⟩
theorem Inv.ND(I:#[10])(hv:Vals ys its)(hz:ys.length<=sizeLine) :
  Inv X pins σ (upd H #[9] (.lst ys)) {s with heap:=s.heap.push {cls:=.type "list",data:=.seq its.toArray},toks:=t'}:=
 I.laid (λ_ _ q=>R1 _ q) (R5 _) ⟨hz,its,0,hv,R8 _ rfl⟩
theorem Inv.fresh(I:#[10]):H #[9]=none:=I.hok.fresh (R5 _)
theorem Inv.Dh(I:#[10])(hH:H l=some (.lst xs)):xs.length<=sizeLine/\∃(its:Vy) (n:Nat),Vals xs its/\xs.length=its.length/\s.heap.get? l=some {cls:=.type "list",data:=.seq its.toArray n}:=by obtain⟨z,its,n,r,e⟩:=I.hok l _ hH;exact⟨z,its,n,r,r.length,e⟩
theorem ES(h:n<=sizeLine):Builtin.List.listTooLong n=false:=by
 grind[Builtin.List.listTooLong]
end
section
variable {X:Cx}
noncomputable def HJ:V->List V->Hp->VK->Prop:=λx vs H Q=>∃l xs y,x=.ref l/\vs=[y]/\H l=some (.lst xs)/\xs.length<sizeLine/\Q .non (upd H l (.lst (xs++[y])))
theorem Di:P0 X "list.append" HJ:=by
 intro pins s σ H x vs v us Q I rx rv h;obtain⟨l,xs,y,rfl,rfl,hH,hz,q⟩:=h;cases rx;obtain⟨u,rfl,ru⟩:=rv.one;obtain⟨z,its,n,r,hl,e⟩:=I.Dh hH;refine Um F.slot_list_append ⟨_,e,rfl⟩ F.entry_list_append (F.args_list_append_2 _ _) (PySem.list_append l its.toArray n u (by grind)) ⟨e,?_⟩;refine⟨.non,_,I.P1 hH e #[6] (r.append (.cons ru .nil)) ?_,rfl,q⟩
 grind
noncomputable def P2:R2:=λx y H Q=>∃l b xs zs,x=.ref l/\y=.ref b/\H l=some (.lst xs)/\H b=some (.lst zs)/\xs.length+zs.length<=sizeLine/\∀p,H p=none->Q (.ref p) (upd H p (.lst (xs++zs)))
theorem tL:iC X (binaryOp .Add) P2:=by
 intro pins s σ H x y v u Q I rx ry h;obtain⟨l,b,xs,zs,rfl,rfl,hH,hB,hz,q⟩:=h;cases rx;cases ry;obtain⟨z,its,n,r,hl,e⟩:=I.Dh hH;obtain⟨z2,its2,n2,r2,hl2,e2⟩:=I.Dh hB;refine PySem.P.add_list e e2 ?_ (by grind);have ea:its.toArray++its2.toArray=(its++its2).toArray:=by simp
 rw[ea];exact⟨.ref _,_,I.ND (r.append r2) (by grind),rfl,q _ I.fresh⟩
noncomputable def P4:R2:=λx y H Q=>∃l k xs,x=.ref l/\y=.int k/\H l=some (.lst xs)/\-(2^63)<=k/\k<2^63/\xs.length*k.toNat<=sizeLine /\
 ∀p,H p=none->Q (.ref p) (upd H p (.lst (List.replicate k.toNat xs).flatten))
theorem len_rep{α:Type}(xs:List α)(k:Nat):(List.replicate k xs).flatten.length=k*xs.length:=by simp
theorem Lc:iC X (binaryOp .Mult) P4:=by
 intro pins s σ H x y v u Q I rx ry h;obtain⟨l,k,xs,rfl,rfl,hH,h1,h2,hz,q⟩:=h;cases rx;obtain⟨t,rfl⟩:=ry;obtain⟨z,its,n,r,hl,e⟩:=I.Dh hH;have hlen:its.toArray.size*k.toNat<=sizeLine:=by grind
 have hcap:¬ its.toArray.size*k.toNat>(2^63-1) / 8:=by
  have:(sizeLine:Nat)<=(2^63-1) / 8:=by decide
  omega
 have hfit:¬ (!Builtin.List.listFitsIndex k)=true:=by
  simp_all[fitsIndex_both,h1,h2]
 have hlong:¬ Builtin.List.listTooLong (its.toArray.size*k.toNat)=true:=by
  simp_all[ES,hlen]
 have hnew:List.foldl (λx1 x2=>x1++x2) #[] (List.replicate (if its.toArray.isEmpty=true then 0 else k.toNat) its.toArray)=(List.replicate k.toNat its).flatten.toArray:=by
  have f0:∀m:Nat,List.foldl (λx1 x2=>x1++x2) #[] (List.replicate m its.toArray)=(List.replicate m its).flatten.toArray:=λm=>by have:=foldl_rep its m [];rw[List.nil_append]at this;exact this
  rw[f0]
  cases its with
  |nil=>simp
  |cons a r'=>rw[if_neg #[6]]
 refine wpAny_binaryOp_repeat_ref (T := "list") (U := "int") #[4] ⟨_,e,rfl⟩ (λs'=>typeIs_int s' k t) noFill_list_mul F.fills_int_mul F.slot_int_rmul repeat_list F.slot_int_index.lookup
  (Um F.slot_int_rmul (typeIs_int s k t) F.entry_int_rmul (F.args_int_rmul_2 _ _) (int___rmul___int_list k t l its.toArray n)
   ⟨e,rfl,⟨_,e,rfl⟩,Um F.slot_list_mul ⟨_,e,rfl⟩ F.entry_list_mul (F.args_list_mul_2 _ _) (AutoListH.list___mul___list_int_3 l its.toArray n k t hfit hcap hlong) ⟨e,?_⟩⟩)
 rw[hnew];exact⟨.ref _,_,I.ND (t':=s.toks) (r.rep k.toNat) (by rw[len_rep,Nat.mul_comm];exact hz),rfl,q _ I.fresh⟩
end
end L2
namespace Att
open PySem PySem.W PySem.Calls PyProof.Rows
theorem sM:∀(ns:List Int) (vs:Vy),WellAll P h vs (ns.map WData.int)->IntsAre vs ns:=by
 intro ns
 induction ns with
 |nil=>intro vs w;cases w;exact .nil
 |cons n ns ih=>
  intro vs w
  cases w with
  |cons a b=>cases a;exact .cons _ _ (ih _ b)
theorem Dj{l:OpenLaw}(hn:l.most=some n)
 (hpre:l.row.toRowW.claim.pre args=true)(hwl:WellAll P h vals args) :
  ∃a vs ns,vals=[Value.ref a]/\args=[WData.list (ns.map WData.int)]/\h.get? a=some {cls:=.type "list",data:=.seq vs.toArray}/\IntsAre vs ns/\ns.length<=n:=by
 have hsh  := (pre_splitW hpre).1;have hc:l.pre.holds [] {args:=args}=true:=(pre_splitW hpre).2;obtain⟨d,r,rfl,h1,h2⟩:=hasAllW_cons hsh;obtain rfl:=hasAllW_nil h2;obtain⟨xs,rfl,h3⟩:=hasW_list h1;obtain⟨ns,rfl⟩:=items_int h3
 have hlen:ns.length<=n:=by
  have h4:(WTm.not (.lt (.lit (.int (n:Int))) (.len (.arg 0)))).holds [] {args:=[.list (ns.map .int)]}=true:=by
   have h4:=(holds_andW hc).1
   simp_all
  have h5:=condW_of h4 (w_not (w_lt w_lit (w_len_list (w_arg rfl))))
  simp_all
 cases hwl with
 |cons w1 w2=>
  cases w2
  cases w1 with
  |list ho hall=>exact⟨_,_,ns,rfl,rfl,ho,sM ns _ hall,hlen⟩
theorem Dk(l:OpenLaw)(args:List WData):l.row.toRowW.claim.post args (.bool true) args=true:=
 postW_of
  (show WShape.has [] _ .bool=true by rfl)
  (w_eq_bool (w_res rfl) w_lit) rfl
theorem yY{l:OpenLaw}
 (hn:l.most=some n)(hdf:d.params.defaults=[])
 (call:∀(w:World) (s₀ s₁:VI) (mg mb:Vv) (fa:Addr) (o:Obj) (pm cd doc:Value) (a:Addr) (vs:Vy) (ns:List Int),
   Ground q loose [] XP w s₀ mg mb s₁.heap->YP w s₁.heap ->
   s₁.heap.get? fa=some o->o.data=.func (docDef d.name d.params d.body d.scope pm cd doc)->s₁.heap.CodeRec cd d.name->mg d.name=some (.ref fa) ->
   s₁.heap.get? a=some {cls:=.type "list",data:=.seq vs.toArray}->IntsAre vs ns->ns.length<=n->s₁.gens=#[] ->
   codeAny (model l.prog w) callerA (.call (.ref fa) ⟨[.ref a],[]⟩) (λr s'=>r=.ok (.ret (.bool true))/\OldK s₁.heap s'.heap/\s'.os=s₁.os/\AllBare s'.gens) s₁) :
  WalkO q loose XP YP l.row.toRowW d [] (λf vs=>PySem.call f vs):=by
 intro w s₀ s₁ mg mb G Y fa o pm cd doc dV kV ho hd hcd hD hmg hg args vals as hpre hlay hrd hwl hlo;obtain rfl:dV=.none:=Dflts.none hD hdf;obtain rfl:kV=.none:=Dflts.noKw hD;obtain⟨a,vs,ns,rfl,rfl,hobj,hints,hlen⟩:=Dj hn hpre hwl;refine enter_call (UY (call w s₀ s₁ mg mb fa o pm cd doc a vs ns G Y ho (fd_plain hd) hcd hmg hobj hints hlen hg) λr s' hq=>?_);obtain⟨rfl,h2,h3,h4⟩:=hq;exact⟨.inl ⟨.bool true,.bool true,[],rfl,λ_=>rfl,.bool true,Dk l _,λ_=>⟨List.Pairwise.nil,λ_ hm=>(nomatch hm)⟩⟩,h2,h3,h4⟩
end Att
namespace L2
open PySem PySem.Spec PyProof.Rows
theorem wu:∀{vs:Vy} {ns:List Int},IntsAre vs ns->Vals (ns.map V.int) vs
 |_,_,.nil=>.nil
 |_,_,.cons n t h=>.cons ⟨t,rfl⟩ (wu h)
end L2
namespace L2
open PySem PySem.Spec PyProof.Rows
noncomputable def fc(s:Stmt):Arguments:=match s with
 |.FunctionDef _ a _ _ _ _ _ _ _ _=>a
 |_=>{posonlyargs:=[],args:=[],vararg:=none,kwonlyargs:=[],kw_defaults:=[],kwarg:=none,defaults:=[]}
noncomputable def bA(s:Stmt):List Stmt:=match s with
 |.FunctionDef _ _ b _ _ _ _ _ _ _=>b
 |_=>[]
noncomputable def ao(s:Stmt):Scope:=match s with
 |.FunctionDef _ _ _ _ _ _ sc _ _ _=>sc
 |_=>{kind:=.function,names:=[],isGenerator:=false,isCoroutine:=false}
noncomputable abbrev Dm:HA:=λ_ _ _ _ _ _=>False
noncomputable abbrev E0:XK:=λ_ _ _=>False
structure El(K:Vz)(x qual:Str)(st:Stmt)(f:Addr)(fd:FuncData):Prop where
 ex:∃(oc:Value) (od:Option Addr) (kV doc pm:Value) (an:Option Addr) (cdv ct:Value) (osl:VC),
  fd=PySem.W.fnOf x qual (fc st) (bA st) (ao st) .none kV doc pm an cdv ct/\K.lookup f=some ⟨oc,od,.func fd,osl⟩/\PySem.W.codeIn K cdv qual=true
 kp:PySem.W.keepIn K (.ref f)=true
section
variable {P:VG} {w:World} {K:Vz} {mg:Vv} {base:Heap}
theorem El.binds{st:Stmt}(F:El K x qual st f fd)
 (h:∀(kV doc pm:Value) (an:Option Addr) (cdv ct:Value) (us:Vy),us.length=ps.length->bindArgs (PySem.W.fnOf x qual (fc st) (bA st) (ao st) .none kV doc pm an cdv ct) ⟨us,[]⟩=pure (ps.zip us)):Binds K fd ps []:=by
 obtain⟨oc,od,kV,doc,pm,an,cdv,ct,osl,rfl,lk,hcd⟩:=F.ex;exact .all (h kV doc pm an cdv ct)
theorem xA{st:Stmt}{kV doc pm cdv ct:Value}(l:K.lookup f=some ⟨oc,od,.func (PySem.W.fnOf x qual (fc st) (bA st) (ao st) .none kV doc pm an cdv ct),osl⟩)
 (c:PySem.W.codeIn K cdv qual=true)(k:PySem.W.keepIn K (.ref f)=true):El K x qual st f (PySem.W.fnOf x qual (fc st) (bA st) (ao st) .none kV doc pm an cdv ct):=⟨⟨oc,od,kV,doc,pm,an,cdv,ct,osl,rfl,l,c⟩,k⟩
end
section
variable {X:Cx}
theorem pv(i:Nat){pos:Pos}(hN:X.N[i]?=some x:=by rfl)(hv:Eo X.env.scope x:=by first|exact Or.inl rfl|exact Or.inr (Or.inl rfl)|exact Or.inr (Or.inr rfl))(hd:(x==("__debug__" : Str))=false:=by decide)
 (hcd:(x==("__classdict__" : Str))=false:=by decide):PE X (.Name x pos) (Hs i):=xo hN hv hd hcd
end
theorem HK{A B:Prop}(h:B):if false=true then A else B:=by
 grind
noncomputable def aW(H H':Hp):Prop:=∀b o,H b=some o->H' b=some o
theorem aW.refl(H:Hp):aW H H:=λ_ _ h=>h
theorem aW.trans(a:aW H H1)(b:aW H1 H2):aW H H2:=λc o h=>b c o (a c o h)
theorem aW.free(e:aW H H')(h:H' l=Option.none):H l=Option.none:=by
 cases q:H l with
 |none=>rfl
 |some o=>rw[e l o q]at h;cases h
theorem aW.seq{K:Vz}(e:aW H H')(h:gF K H a xs):gF K H' a xs:=by
 rcases h with(h|⟨o,h⟩)|h
 ·exact .inl (.inl (e _ _ h))
 ·exact .inl (.inr ⟨o,e _ _ h⟩)
 ·exact .inr h
noncomputable def cT(cells:List (Str×Addr)):List (Str×NameKind)->List (Str×Addr)->List (Str×Addr)
 | [],acc=>acc
 | (n,k)::r,acc=>if k == .free then cT cells r ((n,(cells.lookup n).getD 0)::acc)else cT cells r acc
theorem nU:∀(names:List (Str×NameKind)) (acc:List (Str×Addr)),(∀n,(n,NameKind.free)∈names->∃c,env.cells.lookup n=some c) ->
  (forIn (m:=Sem) names acc λ(x:Str×NameKind) (cs:List (Str×Addr))=>match x with
   | (name,kind)=>if(kind==NameKind.free)=true then(do let a <- cellOf env name;pure (ForInStep.yield ((name,a)::cs)))else pure (ForInStep.yield cs))=pure (cT env.cells names acc)
 | [],acc,_=>by rfl
 | (n,k)::r,acc,h=>by
  rw[UI];unfold cT;by_cases hk:(k==NameKind.free)=true
  ·obtain⟨c,hc⟩:=h n (by grind);have e:cellOf env n=pure c:=by simp[cellOf,hc]
   simp only[hk,Tr];rw[e,hc];exact nU r _ λm hm=>h m (Sb _ hm)
  ·simp only[hk];exact nU r _ λm hm=>h m (Sb _ hm)
theorem gf(h:∀n,(n,NameKind.free)∈scope.names->∃c,env.cells.lookup n=some c):closureFor scope env=pure (cT env.cells scope.names []):=by
 have q:=nU scope.names [] h
 simp_all[closureFor]
theorem jm:∀{names:List (Str×NameKind)} {acc:List (Str×Addr)},(x,NameKind.free)∉names->(cT cells names acc).lookup x=acc.lookup x
 | [],_,_=>rfl
 | (n,k)::r,acc,h=>by
  unfold cT;by_cases hk:(k==NameKind.free)=true
  ·rw[if_pos hk,jm λz=>h (Sb _ z),Ts]
   have:(x==n)=false:=by
    grind
   rw[this]
  ·rw[if_neg hk,jm λz=>h (Sb _ z)]
theorem dX:∀{names:List (Str×NameKind)} {acc:List (Str×Addr)},(x,NameKind.free)∈names->(cT cells names acc).lookup x=some ((cells.lookup x).getD 0)
 | (n,k)::r,acc,h=>by
  unfold cT;by_cases hr:(x,NameKind.free)∈r
  ·by_cases hk:(k==NameKind.free)=true
   ·rw[if_pos hk];exact dX hr
   ·rw[if_neg hk];exact dX hr
  ·rcases Sf.mp h with e|e
   ·cases e;rw[if_pos (show(NameKind.free==NameKind.free)=true from rfl),jm hr,Ts];simp
   grind
theorem dN:∀(names:List (Str×NameKind)) (n:Nat) (acc:List (Str×Addr)),cellsFrom n names acc=cellsFrom n names []++acc
 | [],_,_=>rfl
 | (x,k)::r,n,acc=>by
  unfold cellsFrom;by_cases hk:(k==NameKind.cell)=true
  ·rw[if_pos hk,if_pos hk,dN r (n+1) ((x,n)::acc),dN r (n+1) [(x,n)],Uo];rfl
  ·rw[if_neg hk,if_neg hk];exact dN r n acc
theorem gg:∀{names:List (Str×NameKind)} {n:Nat},(x,c)∈cellsFrom n names []->(x,NameKind.cell)∈names/\n<=c
 | [],_,h=>nomatch h
 | (y,k)::r,n,h=>by
  unfold cellsFrom at h;by_cases hk:(k==NameKind.cell)=true
  ·rw[if_pos hk,dN]at h;rcases Sw.mp h with h|h
   ·obtain⟨h1,h2⟩:=gg h;exact⟨Sb _ h1,by omega⟩
   ·have e:(x,c)=(y,n):=by simpa using h
    cases e;have:=eq_of_beq hk;subst this;exact⟨SV,R5 _⟩
  ·rw[if_neg hk]at h;obtain⟨h1,h2⟩:=gg h;exact⟨Sb _ h1,h2⟩
structure df(sc:Scope)(N own:VA)(scope:Scope):Prop where
 kind:scope.kind=.function
 frees:∀n,(n,NameKind.free)∈scope.names->sc.names.lookup n=some .cell\/sc.names.lookup n=some .free
 own:∀x∈own,(x,NameKind.free)∉scope.names
 out:∀x∈N,scope.names.lookup x≠some .local/\scope.names.lookup x≠some .cell
 uniq:∀p∈scope.names,scope.names.lookup p.1=some p.2
noncomputable def fD(sc:Scope)(N own:VA)(scope:Scope):Bool:=
 (scope.kind == .function)&&scope.names.all (λp=>p.2 != .free || (sc.names.lookup p.1==some .cell) || (sc.names.lookup p.1==some .free)) &&
 own.all (λx=>scope.names.all λp=>!(p.1==x&&p.2 == .free))&&N.all (λx=>scope.names.lookup x != some .local&&scope.names.lookup x != some .cell) &&
 scope.names.all (λp=>scope.names.lookup p.1==some p.2)
theorem df.of{N own:VA}(h:fD sc N own scope=true):df sc N own scope:=by
 unfold fD at h;simp only[R4]at h;obtain⟨⟨⟨⟨h1,h2⟩,h3⟩,h4⟩,h5⟩:=h;refine⟨eq_of_beq h1,λn hn=>?_,λx hx hn=>?_,λx hx=>?_,λp hp=>?_⟩
 ·have:=Sh.mp h2 _ hn
  simp_all
 ·have:=Sh.mp (Sh.mp h3 x hx) _ hn
  simp_all
 ·simp_all
 grind
theorem kQ{env:Env}:∀(names:List (Str×NameKind)),
  (names.map λ(n,k)=>if(k==NameKind.free&&env.scope.kind == .function&&env.kindOf n==some .cell)then(n,NameKind.cell)else(n,k)).lookup x
   = (names.lookup x).map λk=>if(k==NameKind.free&&env.scope.kind == .function&&env.kindOf x==some .cell)then NameKind.cell else k
 | []=>rfl
 | (n,k)::r=>by
  have ih:=kQ (env:=env) (x:=x) r;rw[Sy];show List.lookup x ((if(k==NameKind.free&&env.scope.kind == .function&&env.kindOf n==some .cell)=true then(n,NameKind.cell)else(n,k))::_)=_;by_cases hc:(k==NameKind.free&&env.scope.kind == .function&&env.kindOf n==some .cell)=true
  ·rw[if_pos hc,Ts,Ts]
   cases hx:x==n with
   |true=>simp_all
   |false=>exact ih
  ·rw[if_neg hc,Ts,Ts]
   cases hx:x==n with
   |true=>have:=eq_of_beq hx;subst this;exact Vl some (if_neg hc).symm
   |false=>exact ih
theorem mem_of_lookupK{names:List (Str×NameKind)}(h:names.lookup x=some k):(x,k)∈names:=SR h
noncomputable def nV(scope:Scope)(C:Addr)(env:Env):Env:=
 {scope:=relabel scope env,locals:=C,globals:=env.globals,cells:=cellsFrom (C+1) scope.names (cT env.cells scope.names []),qual:=env.qual,func:=none,code:=env.code,frame:=env.frame,builtins:=env.builtins}
theorem ni
  (hQ:Q {scope:=scope,locals:=#[9],globals:=env.globals,cells:=cellsFrom (#[9]+1) scope.names cl,qual:=env.qual,func:=none,code:=env.code,frame:=env.frame,builtins:=env.builtins}
   {s with heap:=pushCells (s.heap.push {cls:=.type "dict",data:=.dict #[]}) scope.names}) :
  wpAny M A (newFunctionEnv scope env.globals cl [] env.qual none .none (some env)) Q E s:=by
 refine R0 (wpAny_alloc ?_);refine R0 (wpAny_layCells _ (λname kind cells=>by rfl) _ _ _ _ ?_);rw[TN ..];exact R3 hQ
noncomputable def aJ(X:Cx)(own:VA)(scope:Scope)(C:Addr)(s2:VI)(H2:Hp)(fp:Vx)(pins:Vt):Cx where
 prog:=X.prog
 w:=X.w
 K:=X.K
 mg:=X.mg
 base:=X.base
 A:=X.A
 N:=own++X.N
 s₀:=s2
 H₀:=H2
 env:=nV scope C X.env
 outer:=X.stack
 stack:=X.stack
 ex:=fp
 fn:=λx=>own.any (· == x)
 calm:=X.calm
 pn:=X.pn++pins
 xe:=λ_ _=>False
noncomputable def Kept(X:Cx)(fp:Vx)(H H':Hp)(s s':VI):Prop:=s'.os=s.os/\Un (kK X.stack) fp H H' s.heap s'.heap/\ky X.prog X.w H' s'.heap/\AllBare s'.gens
theorem Kept.inv{σ:St}(k:Kept X fp H H' s s')(I:#[10])(hf:∀b∈fp,kP X pins H b):Inv X pins σ H' s':=
 I.yS k.1 k.2.1 k.2.2.1 k.2.2.2 λb hb=>⟨(hf b hb).2.2.2.1,(hf b hb).2.1,(hf b hb).2.2.2.2.1,(hf b hb).2.2.2.2.2⟩
section
variable {X:Cx} {own:VA} {scope:Scope} {pins:Vt} {σ:St} {H2:Hp} {s2:VI} {fp:Vx}
theorem ia(x:Str):(relabel scope X.env).names.lookup x=(scope.names.lookup x).map λk=>if(k==NameKind.free&&X.env.scope.kind == .function&&X.env.kindOf x==some .cell)then NameKind.cell else k:=
 kQ _
theorem cK(h:(nV scope C X.env).cells.lookup x=some c):((x,c)∈cellsFrom (C+1) scope.names []/\(x,NameKind.cell)∈scope.names/\C+1<=c)\/(cT X.env.cells scope.names []).lookup x=some c:=by
 have h':(cellsFrom (C+1) scope.names (cT X.env.cells scope.names [])).lookup x=some c:=h;rw[dN,List.lookup_append]at h'
 cases e:(cellsFrom (C+1) scope.names []).lookup x with
 |some d=>rw[e]at h';cases h';have m:=SR e;exact .inl ⟨m,gg m⟩
 |none=>rw[e]at h';exact .inr h'
theorem gu(I:Inv X pins σ H2 s2)(CS:df X.env.scope X.N own scope)(h:(cT X.env.cells scope.names []).lookup x=some c):(x,NameKind.free)∈scope.names/\X.env.cells.lookup x=some c:=by
 by_cases hf:(x,NameKind.free)∈scope.names
 ·rw[dX hf]at h;obtain⟨d,hd⟩:=I.ok.has x (CS.frees x hf)
  grind
 simp_all[jm]
theorem BQ(I:Inv X pins σ H2 s2)(CS:df X.env.scope X.N own scope){C:Addr}(hC:s2.heap.objs.size<=C)(hf:∀b∈fp,kP X pins H2 b)(hl:∀b∈fp,b<s2.heap.objs.size):#[11].Ok:=by
 have old:∀x c,(cT X.env.cells scope.names []).lookup x=some c->X.env.cells.lookup x=some c/\c<s2.heap.objs.size:=λx c h=>by obtain⟨_,q⟩:=gu I CS h;obtain⟨v,z⟩:=I.cell x c q;exact⟨q,z.lt⟩
 refine⟨I.ok.mod,CS.kind,I.ok.glob,I.ok.blt,hC,λx y c h1 h2=>?_,λx hx=>?_,λx c hx h=>?_,I.ok.hd,I.ok.frames,.inl rfl,λb hb=>⟨?_,λx c h=>?_⟩,I.bs,Sd I.ok.bsz I.sz,λb o e hb=>?_,λb hb z=>?_,I.stack,I.xn⟩
 ·rcases cK h1 with⟨a1,_,a2⟩|a1<;>rcases cK h2 with⟨b1,_,b2⟩|b1
  ·have ap:=(cellsFrom_ok scope.names {(default:Heap)with objs:=Array.replicate (C+1) default} (C+1) [] ⟨λ_ _ hm=>(nomatch hm),List.Pairwise.nil⟩ #[6]).apart;simp only[Array.size_replicate]at ap;exact name_of_addr ap a1 b1
  ·exact absurd (Sa (old y c b1).2 (Sd hC (Sd (Ui _) a2))) (Sj _)
  ·exact absurd (Sa (old x c a1).2 (Sd hC (Sd (Ui _) b2))) (Sj _)
  ·exact I.ok.inj x y c (old x c a1).1 (old y c b1).1
 ·have hx':(relabel scope X.env).names.lookup x=some .cell\/(relabel scope X.env).names.lookup x=some .free:=hx;rw[ia]at hx';show ∃c,(cellsFrom (C+1) scope.names (cT X.env.cells scope.names [])).lookup x=some c;refine T3.mp (TC _ _ _ ?_)
  cases e:scope.names.lookup x with
  |none=>rw[e]at hx';simp at hx'
  |some k=>
   rw[e]at hx';by_cases hk:k=.free
   ·subst hk;exact .inr (by rw[dX (mem_of_lookupK e)];rfl)
   ·have hb:(k==NameKind.free)=false:=by simpa using hk
    simp only[Option.map_some,hb,Bool.false_and,Sx,TK,T4]at hx';rcases hx' with q|q
    ·exact .inl (by rw[q])
    ·exact absurd q hk
 ·obtain⟨y,hy,e⟩:=Ta.mp hx;have:=eq_of_beq e;subst this;rcases cK h with⟨_,_,a⟩|a
  ·exact Sd hC (Sd (Ui _) a)
  ·exact absurd (gu I CS a).1 (CS.own _ hy)
 ·exact Sg (Sa (hl b hb) hC)
 ·rcases cK h with⟨_,_,a⟩|a
  ·exact UD (Sg (Sa (hl b hb) (Sd hC (Sd (Ui _) a))))
  ·exact(hf b hb).2.2.2.2.1 x c (old x c a).1
 ·rcases(hf b hb).2.2.2.1 with z|z
  ·exact I.ok.noex b o e z
  ·exact absurd (Sa (R7 e) (Sd I.ok.bsz z)) (Sj _)
 ·rcases Sf.mp (I.iV b z)with e|e
  ·exact(hf b hb).2.1 e
  ·exact(hf b hb).2.2.1 e
theorem pj(I:Inv X pins σ H2 s2)(CS:df X.env.scope X.N own scope)(hc:∀c v,s2.heap.IsCell c v->(∃x,X.env.cells.lookup x=some c)->h.IsCell c v) :
  ∀(i:Nat) (x:Str) (v:V),(own++X.N)[i]?=some x->(List.replicate own.length (none:Option V)++σ)[i]?=some (some v)->Eo (relabel scope X.env) x->∃u,RelV v u/\Look (nV scope C X.env) h m x u:=by
 intro i x v h1 h2 h3
 have hi:own.length<=i:=by
  by_cases hi:own.length<=i
  ·exact hi
  ·rw[Sl (by simpa using hi),T8]at h2;split at h2<;>cases h2
 rw[SO hi]at h1;rw[SO (by simpa using hi),Tn]at h2;have hN:=CS.out x (SJ h1)
 have hfr:scope.names.lookup x=some .free:=by
  unfold Eo at h3;rw[ia]at h3
  cases e:scope.names.lookup x with
  |none=>rw[e]at h3;simp at h3
  |some k=>
   rw[e]at h3 hN;by_cases hk:k=.free
   ·rw[hk]
   ·have hb:(k==NameKind.free)=false:=by simpa using hk
    simp only[Option.map_some,hb,Bool.false_and,Sx,TK,T4]at h3;rcases h3 with q|q|q
    ·exact absurd (by rw[q]) hN.1
    ·exact absurd (by rw[q]) hN.2
    ·exact absurd q hk
 have hm:=mem_of_lookupK hfr;have hk:=CS.frees x hm;obtain⟨mX,hn,hl⟩:=I.loc;obtain⟨u,r,l⟩:=hl _ x v h1 h2 (hk.elim (λz=>.inr (.inl z)) λz=>.inr (.inr z));refine⟨u,r,?_⟩;rcases l with⟨z,_⟩|⟨_,c,hcx,z⟩
 ·have z':X.env.scope.names.lookup x=some .local:=z;rcases hk with q|q<;>rw[q]at z'<;>cases z'
 ·refine .inr ⟨?_,c,?_,hc c _ z ⟨x,hcx⟩⟩
  ·show(relabel scope X.env).names.lookup x=some .cell\/(relabel scope X.env).names.lookup x=some .free;rw[ia,hfr];simp only[Option.map_some];split
   ·exact .inl rfl
   ·exact .inr rfl
  ·show(cellsFrom (C+1) scope.names (cT X.env.cells scope.names [])).lookup x=some c;rw[dN,List.lookup_append]
   have no:(cellsFrom (C+1) scope.names []).lookup x=none:=by
    cases e:(cellsFrom (C+1) scope.names []).lookup x with
    |none=>rfl
    |some d=>have:=CS.uniq _ (gg (SR e)).1;simp only[]at this;rw[hfr]at this;cases this
   rw[no,dX hm,hcx];rfl
end
theorem AF(I:Nat->VI->Prop)
 (turn:∀n s,I n s->wpAny #[14] A (pyNext it) (λr s1=>match r with
   |none=>R (.ok .next) s1
   |some v=>wpAny #[14] A (letOwnedTupleGo target it v) (λ_ s2=>wpAny #[14] A (assign target env v) (λ_ s3=>
     wpAny #[14] A (forIn ifs true λc r=>if r=true then do let ok <- isTrue c env (eval c env);pure (ForInStep.yield ok)else pure (ForInStep.yield r)) (λok s4=>
      if ok=true then wpAny #[14] A (eval elt env) (λx s5=>
       wpAny #[14] A (call (.builtin "list.append") [acc,x]) (λ_ s6=>∃m,m<n/\I m s6) (λ_ _=>False) s5) (λ_ _=>False) s4
      else ∃m,m<n/\I m s4) (λ_ _=>False) s3) (λ_ _=>False) s2) (λ_ _=>False) s1) (λ_ _=>False) s)
 (n:Nat)(h:I n s) :
  codeAny #[14] A (.compLoop (.ListComp elt [⟨target,iter,ifs,0⟩] scope pos) 0 it acc env) R s:=by
 refine codeAny_loop rfl I (λn s hI=>?_) n h;show wpAny _ A ((compTurn (.ListComp elt [⟨target,iter,ifs,0⟩] scope pos) 0 it acc env).onRaise (λx=>do noteFrame x env;theTreesLotGoes x)) _ _ s;refine wpAny_noted ?_;rw[compTurn_list];refine S3 (E:=λ_ _=>False) (E':=_) (Q':=_) ?_ (λ_ _ q=>q) λ_ _ z=>z.elim;refine R0 (Uk (R0 (bS (turn n s hI) (λr s1 h1=>?_))))
 cases r with
 |none=>exact R3 h1
 |some v=>
  refine R0 (bS h1 λ_ s2 h2=>?_);refine R0 (bS h2 λ_ s3 h3=>R0 (bS h3 λok s4 h4=>?_))
  cases ok with
  |false=>exact R3 ⟨rfl,h4⟩
  |true=>exact R0 (R0 (bS h4 λx s5 h5=>R0 (bS h5 λ_ s6 h6=>R3 (R3 ⟨rfl,h6⟩))))
noncomputable def HL(X:Cx)(ifs:VB)(t:TT):Prop:=
 ∀(pins:Vt) (s:VI) (σ:St) (H:Hp) (Q:Bool->Hp->Prop),#[10]->t σ H Q ->
  wpAny #[12] X.A (forIn ifs true λc r=>if r=true then do let ok <- isTrue c X.env (eval c X.env);pure (ForInStep.yield ok)else pure (ForInStep.yield r)) (TP X pins σ Q) X.xe s
noncomputable def P5:TT:=λ_ H Q=>Q true H
theorem HM:HL X [] P5:=λ_ _ _ H _ I h=>wpAny_tests_nil ⟨H,I,h⟩
theorem HN(h:PT X c t):HL X [c] t:=λpins s σ H Q I q=>wpAny_tests_one (h pins s σ H Q I q)
noncomputable def BR(n:Nat)(J:It)(g:TG)(tc:TT)(te:TE)(σ:St)(H:Hp)(Q:VK):Prop:=
 ∃W:Nat->Nat->List V->Hp->Prop,(∃m,W 0 m [] H)/\∀i m ys H,W i m ys H ->
  (J.stop i H/\ys.length<=sizeLine/\∀p,H p=none->Q (.ref p) (upd H p (.lst ys))) \/
  (J.go i H/\ys.length<=sizeLine/\∃N:List V->Hp->Prop,(∀ys' H',N ys' H'->∃m',m'<m/\W (i+1) m' ys' H')/\∀x H',J.yld i H x H'->g x (List.replicate n none++σ) H' λσ2 H2=>tc σ2 H2 λb H3=>
   if b=true then te σ2 H3 λy H4=>N (ys++[y]) H4 else N ys H3)
theorem tM{σ:St}
 {RR:Value->Addr->Result->VI->Prop}(I:Inv X pins σ H2 s2)(CS:df X.env.scope X.N own scope)(hc:X.calm=true)(T:Turn X.prog X.w X.K tg J fp it tn)(st:tn 0 s2.heap)(hf:∀b∈fp,kP X pins H2 b)
 (hg:∀C s2 H2 fp pins,PG #[11] tg g)(ht:∀C s2 H2 fp pins,HL #[11] ifs tc)(he:∀C s2 H2 fp pins,PE #[11] elt te)
 (hW:BR own.length J g tc te σ H2 Q)
 (hR:∀D C H' s',Inv X pins σ H' s'->kP X pins H' C->(∃m,s'.heap.Ns C m)->Q (.ref D) H'->Kept X fp H2 H' s2 s'->RR (.ref D) C (.ok .next) s') :
  wpAny #[12] X.A (newList []) (λacc s3=>wpAny #[12] X.A (newFunctionEnv scope X.env.globals (cT X.env.cells scope.names []) [] X.env.qual none .none (some X.env)) (λcenv s4=>
   codeAny #[12] X.A (.compStart (.ListComp elt [⟨tg,iter,ifs,0⟩] scope pos) 0 (.ref it) acc {cenv with scope:=relabel scope X.env}) (RR acc cenv.locals) s4) E s3) E s2:=by
 refine Su (ni ?_);dsimp only;generalize hH:s2.heap.push {cls:=.type "list",dict:=none,data:=.seq ([]:Vy).toArray}=h3;have hDC:h3.objs.size=s2.heap.objs.size+1:=by rw[<- hH,TN]
 have eC:({scope:=relabel scope X.env,locals:=h3.objs.size,globals:=X.env.globals,cells:=cellsFrom (h3.objs.size+1) scope.names (cT X.env.cells scope.names []),qual:=X.env.qual,func:=none,code:=X.env.code,frame:=X.env.frame,builtins:=X.env.builtins}:Env)=nV scope h3.objs.size X.env:=rfl;rw[eC];generalize eD:s2.heap.objs.size=D at *;generalize eCC:h3.objs.size=C at *;have hl:∀b∈fp,b<s2.heap.objs.size:=λb hb=>by obtain⟨o,e,_⟩:=T.obj 0 _ st b hb;exact R7 e
 have hC:s2.heap.objs.size<=C:=by omega
 generalize hH4:pushCells (h3.push {cls:=.type "dict",data:=.dict #[]}) scope.names=h4;have k34:∀b o,(h3.push {cls:=.type "dict",data:=.dict #[]}).get? b=some o->h4.get? b=some o:=λb o e=>by rw[<- hH4];exact pushCells_keeps _ _ b o e
 have k24:∀b o,s2.heap.get? b=some o->h4.get? b=some o:=λb o e=>k34 b o (R1 _ (by rw[<- hH];exact R1 _ e));have nsC:h4.Ns C λ_=>none:=by have:=Heap.Ns.new h3 (.type "dict");rw[eCC]at this;exact this.keeps k34
 have accD:h4.get? D=some {cls:=.type "list",data:=.seq (([]:Vy).toArray)}:=k34 _ _ (R1 _ (by rw[<- hH,<- eD];exact R8 _ rfl));have cellN:∀x c,(x,c)∈cellsFrom (C+1) scope.names []->h4.IsCell c none/\C+1<=c:=λx c hm=>by have ok:=cellsFrom_ok scope.names (h3.push {cls:=.type "dict",data:=.dict #[]}) (C+1) [] ⟨λ_ _ hm=>(nomatch hm),List.Pairwise.nil⟩ (by rw[TN];omega);rw[TN,eCC,hH4]at ok;exact ok.empty x c hm
 have hne:H2 D=none:=by rw[<- eD];exact I.hok.fresh (R5 _)
 have ok':#[11].Ok:=BQ I CS hC hf hl
 have rebase:∀{σ':St} {H':Hp} {ps:Vt} {s':VI},Inv #[11] ps σ' H' s'->Inv #[11] ps (List.replicate own.length none++σ) H' s':=λ{σ' H' ps s'} J'=>by
  obtain⟨m,hn,_⟩:=J'.loc;refine⟨J'.ok,J'.os,J'.bare,J'.base,⟨m,hn,pj I CS λc v z ⟨x,hx⟩=>?_⟩,J'.cell,J'.free,J'.freeC,J'.pin,J'.hok,?_⟩
  ·obtain⟨o,ho,hd⟩:=z;obtain⟨sl,e⟩:=J'.base.any ho (I.freeC x c hx) λhb=>(hf c hb).2.2.2.2.1 x c hx rfl;exact⟨_,e,hd⟩
  ·show(List.replicate own.length none++σ).length=(own++X.N).length;rw[SE,SE,Tn,I.len]
 have start:Inv #[11] [] (List.replicate own.length none++σ) H2 {s2 with heap:=h4}:=by
  have I4:Inv X pins σ H2 {s2 with heap:=h4}:=I.kept (t':=s2.toks) k24;refine⟨ok',rfl,I.bare,Un.kept k24,⟨_,nsC,pj I CS λc v z _=>z.keeps k24⟩,λx c h=>?_,I.hok.fresh hC,λx c h=>?_,λp hp=>?_,I4.hok,?_⟩
  ·rcases cK h with⟨a,_,_⟩|a
   ·exact⟨_,(cellN x c a).1⟩
   ·obtain⟨v,z⟩:=I.cell x c (gu I CS a).2;exact⟨v,z.keeps k24⟩
  ·rcases cK h with⟨_,_,a⟩|a
   ·exact I.hok.fresh (Sd hC (Sd (Ui _) a))
   ·exact I.freeC x c (gu I CS a).2
  ·have hp':p∈X.pn++pins:=by
    rcases Sw.mp hp with z|z
    ·exact z
    ·exact nomatch z
   obtain⟨e,n,ne,nf,d⟩:=I.pin p hp';refine⟨k24 _ _ e,n,Sg (Sa (R7 e) hC),λz=>?_,d⟩;rcases Sf.mp (I.iV _ z)with q|q
   ·exact ne q
   ·exact nf q
  ·show(List.replicate own.length none++σ).length=(own++X.N).length;rw[SE,SE,Tn,I.len]
 obtain⟨W,⟨m0,w0⟩,turn⟩:=hW
 have nfs:∀b,s2.heap.objs.size<=b->b∉#[11].fs:=λb hb z=>by
  rcases Sf.mp (I.iV b z)with q|q
  ·rw[q]at hb;exact absurd (Sa I.lt hb) (Sj _)
  ·exact I.Ep hb q
 have fpD:∀{H':Hp},H' D=none->kP #[11] [] H' D:=λ{H'} hn=>by
  refine⟨hn,Sg (by show D<C;omega),nfs D #[3],.inr (by show s2.heap.objs.size<=D;omega),λx c h z=>?_,λp hp z=>?_⟩
  ·rcases cK h with⟨_,_,a⟩|a
   ·rw[z]at a;exact absurd (Sa (show D<C+1 by omega) a) (Sj _)
   ·obtain⟨v,q⟩:=I.cell x c (gu I CS a).2;have:=q.lt;rw[z,eD]at this;exact Sj _ this
  ·have hp':p∈X.pn++pins:=by
    rcases Sw.mp hp with z|z
    ·exact z
    ·exact nomatch z
   have:=R7 (I.pin p hp').1;rw[z,eD]at this;exact Sj _ this
 have nD:D∉fp:=λz=>by have:=hl D z;rw[eD]at this;exact Sj _ this
 have stat:∀{H':Hp} {ps:Vt},(∀p∈ps,p.1=D)->(∀b∈fp,H' b=none)->∀b∈fp,kP #[11] ps H' b:=λ{H' ps} hps hn b hb=>by
  obtain⟨f0,f1,f2,f3,f4,f5⟩:=hf b hb;refine⟨hn b hb,(ok'.exf b hb).1,ok'.exfs b hb,.inl hb,(ok'.exf b hb).2,λp hp=>?_⟩;rcases Sw.mp hp with z|z
  ·exact f5 p z
  ·rw[hps p z];exact λq=>nD (q▸hb)
 let LI:Nat->VI->Prop:=λn s'=>∃i ys its k H',Inv #[11] [] (List.replicate own.length none++σ) H' s'/\tn i s'.heap/\(∀b∈fp,H' b=none)/\H' D=none /\
  s'.heap.get? D=some {cls:=.type "list",data:=.seq (List.toArray its) k}/\Vals ys its/\W i n ys H'
 have l0:LI m0 {s2 with heap:=h4}:=⟨0,[],[],0,H2,start,T.keep _ _ _ st λb _ o e=>k24 b o e,λb hb=>(hf b hb).1,hne,accD,.nil,w0⟩
 have loop:codeAny #[12] X.A (.compLoop (.ListComp elt [⟨tg,iter,ifs,0⟩] scope pos) 0 (.ref it) (.ref D) (nV scope C X.env)) (RR (.ref D) C) {s2 with heap:=h4}:=by
  refine AF LI ?_ m0 l0;rintro n s3 ⟨i,ys,its,k,H3,I3,st3,fr3,d3,a3,v3,w3⟩;rcases turn i n ys H3 w3 with⟨stop,hz,qn⟩|⟨go,hz,NN,hNN,step⟩
  ·have I3p:=I3.pinned (fp:=[D]) (λb hb=>(SF.mp hb)▸fpD d3) λb hb=>⟨_,(SF.mp hb)▸a3,λv z=>(by cases z)⟩;refine bS (T.done #[11] rfl rfl rfl hc i _ s3 _ H3 _ I3p (stat (λp hp=>by have q:p∈fA [D] s3.heap:=hp;have:=(jk q).1;simpa using this) fr3) st3 stop) λr s4 ⟨hr,I4⟩=>?_;subst hr;have a4:s4.heap.get? D=_:=(I4.pin (D,_) (Se _ (Se _ (cV #[6] a3)))).1;have u4:Un (kK X.stack) fp H2 H3 s2.heap s4.heap:=I4.base
   have okD:ky X.prog X.w (upd H3 D (.lst ys)) s4.heap:=λb o e=>by
    by_cases hb:b=D
    ·subst hb;rw[aG]at e;cases e;exact⟨hz,its,k,v3,a4⟩
    ·rw[au hb]at e;exact(I4.hok b o e).nQ (λ_ _ _ q=>q) (λc q=>by rw[au (aB q d3)];exact q) λc xs q=>by rw[au (aB q d3)];exact q
   have nDo:∀b o,s2.heap.get? b=some o->b≠D:=λb o e=>by rw[<- eD];exact Sg (R7 e)
   have uD:Un (kK X.stack) fp H2 (upd H3 D (.lst ys)) s2.heap s4.heap:=⟨u4.keep,u4.slot,λb o e n hx=>by rw[au (nDo b o e)];exact u4.free b o e n hx,u4.there,
    λb xs e=>by rw[au (aB e hne)];exact u4.tups b xs e,λb o xs e=>by rw[au (aB e hne)];exact u4.frzs b o xs e,λb ps e=>by rw[au (aB e hne)];exact u4.tbls b ps e⟩
   have kp:Kept X fp H2 (upd H3 D (.lst ys)) s2 s4:=⟨I4.os,uD,okD,I4.bare⟩;have I5:Inv X pins σ (upd H3 D (.lst ys)) s4:=kp.inv I hf;obtain⟨m,hn,_⟩:=I4.loc;refine hR D C _ s4 I5 ⟨by rw[au (show C≠D by omega)];exact I4.free,Uz (Sa I.lt hC),I.Ep hC,.inr (Sd I.sz hC),λx c e z=>?_,λp hp z=>?_⟩ ⟨m,hn⟩ (qn D d3) kp
   ·obtain⟨v,q⟩:=I.cell x c e;exact absurd (Sa q.lt (by rw[z];exact hC)) (Sj _)
   ·exact absurd (Sa (R7 (I.pin p hp).1) (by rw[z];exact hC)) (Sj _)
  ·have I3p:=I3.pinned (fp:=[D]) (λb hb=>(SF.mp hb)▸fpD d3) λb hb=>⟨_,(SF.mp hb)▸a3,λv z=>(by cases z)⟩;have onlyD:∀p∈([]++fA [D] s3.heap),p.1=D:=λp hp=>by have q:p∈fA [D] s3.heap:=hp;have:=(jk q).1;simpa using this
   refine bS (T.item #[11] rfl rfl rfl hc i _ s3 _ H3 _ I3p (stat onlyD fr3) st3 go) λr s4 ⟨u,hr,h4'⟩=>?_;subst hr;refine bS h4' λ_ s5 ⟨x,H5,I5,r5,y5,st5,fr5⟩=>?_;have I5p:=I5.pinned (fp:=fp) (stat onlyD fr5) (T.obj _ _ st5)
   have cont:∀{s6:VI} {σ6:St} {H6:Hp},Inv #[11] (([]++fA [D] s3.heap)++fA fp s5.heap) σ6 H6 s6 ->
     Inv #[11] [] (List.replicate own.length none++σ) H6 s6/\tn (i+1) s6.heap/\(∀b∈fp,H6 b=none)/\H6 D=none/\s6.heap.get? D=some {cls:=.type "list",data:=.seq (List.toArray its) k}:=λ{s6 σ6 H6} I6=>by
    have pD:=I6.pin (D,_) (Se _ (Tu _ (Se _ (cV #[6] a3))));refine⟨rebase (I6.o9 λp hp=>nomatch hp),T.keep _ _ _ st5 λb hb o e=>(I6.pin (b,o) (Se _ (Se _ (cV hb e)))).1,λb hb=>?_,pD.2.1,pD.1⟩;obtain⟨o,e,_⟩:=T.obj _ _ st5 b hb;exact(I6.pin (b,o) (Se _ (Se _ (cV hb e)))).2.1
   refine bS (hg C s2 H2 fp pins _ s5 _ H5 x u _ I5p r5 (step x H5 y5)) λ_ s6 ⟨σ6,H6,I6,q6⟩=>?_;refine bS (ht C s2 H2 fp pins _ s6 σ6 H6 _ I6 q6) λb s7 ⟨H7,I7,q7⟩=>?_
   cases b with
   |false=>have q7':NN ys H7:=q7;obtain⟨m',hm,w7⟩:=hNN _ _ q7';obtain⟨c1,c2,c3,c4,c5⟩:=cont I7;exact⟨m',hm,i+1,ys,its,k,H7,c1,c2,c3,c4,c5,v3,w7⟩
   |true=>refine bS (he C s2 H2 fp pins _ s7 σ6 H7 _ I7 q7) λv s8 ⟨y,H8,I8,r8,q8⟩=>?_;obtain⟨m',hm,w8⟩:=hNN _ _ q8;obtain⟨c1,c2,c3,c4,c5⟩:=cont I8;refine wpAny_list_append_plain ⟨k,c5⟩ (λh' hp hs=>?_) (by rw[Si,<- v3.length];exact hz);obtain⟨k',e'⟩:=hp;obtain⟨f0,f1,f2,f3,f4,f5⟩:=fpD c4;refine⟨m',hm,i+1,ys++[y],its++[v],k',H8,c1.turned (t':=s8.toks) (λb o hb e=>(hs.2 b hb).trans e) f0 f1 f3 f4 f5,T.keep _ _ _ c2 λb hb o e=>(hs.2 b λz=>nD (z▸hb)).trans e,c3,c4,?_,v3.append (.cons r8 .nil),w8⟩;show h'.get? D=_;rw[e'];simp
 exact codeAny_compStart_list loop (T.self X.A 0 {s2 with heap:=h4} _ _ (T.keep _ _ _ st λb _ o e=>k24 b o e) loop)
section
variable {X:Cx} {own:VA} {scope:Scope} {elt tg iter:Expr} {ifs:VB} {pos:Pos} {wi:TI} {g:TG} {tc:TT} {te:TE}
noncomputable def yZ(n:Nat)(wi:TI)(g:TG)(tc:TT)(te:TE):TE:=λσ H Q=>wi σ H λJ H1=>BR n J g tc te σ H1 Q
theorem nW(CS:df sc N own scope):∀x∈scope.names,x.2=.local->scope.names.lookup x.1=some .local:=λx hx e=>by rw[CS.uniq x hx,e]
theorem BS(own:VA)(CS:fD X.env.scope X.N own scope=true)(hc:X.calm=true)(hi:PI X tg iter wi)(hg:∀C s2 H2 fp pins,PG #[11] tg g)
 (ht:∀C s2 H2 fp pins,HL #[11] ifs tc)(he:∀C s2 H2 fp pins,PE #[11] elt te)(hs:∀x,foldedSetIterable iter X.env x=pure x:=by intro _;rfl) :
  PE X (.ListComp elt [⟨tg,iter,ifs,0⟩] scope pos) (yZ own.length wi g tc te):=by
 intro pins s σ H Q I h;have CS:=df.of CS;refine UB rfl hs (gf λn hn=>I.ok.has n (CS.frees n hn)) CS.kind (nW CS) (bS (hi pins s σ H _ I h) λv s1 h1=>bS h1 λitv s2 h2=>?_);obtain⟨it,fp,tn,J,H2,e,I2,T,st2,f2,hW⟩:=h2;subst e;refine tM I2 CS hc T st2 f2 hg ht he hW λD C H' s' I' fC ⟨m,hn⟩ q _=>?_;refine⟨m,hn,λh' hs'=>⟨.ref D,H',?_,rfl,q⟩⟩;obtain⟨f0,f1,_,f3,f4,f5⟩:=fC;exact I'.turned (λb o hb e=>(hs'.2 b hb).trans e) f0 f1 f3 f4 f5
theorem HP(own:VA){pos' spos:Pos}(hN:X.N.Nodup)(hxi:X.N[i]?=some x)(hx:X.env.scope.names.lookup x=some .local)(CS:fD X.env.scope X.N own scope=true)(hc:X.calm=true)(hi:PI X tg iter wi)(hg:∀C s2 H2 fp pins,PG #[11] tg g)
 (ht:∀C s2 H2 fp pins,HL #[11] ifs tc)(he:∀C s2 H2 fp pins,PE #[11] elt te)(hs:∀x,foldedSetIterable iter X.env x=pure x:=by intro _;rfl)
 (hsw:swapsWith (.ListComp elt [⟨tg,iter,ifs,0⟩] scope pos) (some (.Name x pos')) spos.line X.env=pure true:=by rfl) :
  PS X (.Assign [.Name x pos'] (.ListComp elt [⟨tg,iter,ifs,0⟩] scope pos) spos) (C4 (yZ own.length wi g tc te) (ax i)):=by
 intro pins s σ H D I h;have CS:=df.of CS;rw[exec_Assign_Name_used _ _ _ _ hsw];refine R0 (Uk (R0 ?_));show wpAny _ X.A (do let _ <- comprehension (.ListComp elt [⟨tg,iter,ifs,0⟩] scope pos) scope X.env _ (newList []) false (eval iter X.env) (some (assign (.Name x pos') X.env))) _ _ s
 refine R0 (bS (UB (use:=some (assign (.Name x pos') X.env)) (Q:=λ_ s'=>SP X pins D .next s') (g:=⟨tg,iter,ifs,0⟩) rfl hs (gf λn hn=>I.ok.has n (CS.frees n hn)) CS.kind (nW CS)
  (bS (hi pins s σ H _ I h) λv s1 h1=>bS h1 λitv s2 h2=>?_)) λ_ s' hq=>R3 (R3 hq))
 obtain⟨it,fp,tn,J,H2,e,I2,T,st2,f2,hW⟩:=h2;subst e;refine tM (Q:=λx H1=>ax i x σ H1 D.nx) (RR:=λacc C=>compPost #[12] X.A X.xe (some (assign (.Name x pos') X.env)) (λ_ s'=>SP X pins D .next s') acc C) I2 CS hc T st2 f2 hg ht he hW λDl C H' s' I' fC ⟨m,hn⟩ q _=>?_;show wpAny _ _ (assign (.Name x pos') X.env (.ref Dl)) _ _ s';refine wpAny_assign_Name (wd (v:=.ref Dl) I' hN hxi (.inl hx) rfl (λs'' I'' hsb=>?_) (.inr hx));obtain⟨f0,f1,f2',f3,f4,f5⟩:=fC;obtain⟨a,sb,ha⟩:=hsb
 have hCa:C≠a:=by
  rcases ha with e|e
  ·rw[e];exact f1
  ·exact(f4 x a e).symm
 refine⟨m,hn.sameBut sb hCa,λh' hs'=>⟨_,H',?_,q⟩⟩;exact I''.turned (t':=s''.toks) (λb o hb e=>(hs'.2 b hb).trans e) f0 f1 f3 f4 f5
end
structure Nx(P:VG)(w:World)(i l:Addr)(st:Nat->Heap->Prop)(xs:Vy):Prop where
 obj:∀k h,st k h->∃o vs,h.get? i=some o/\o.data=.fields vs
 keep:∀k h h',st k h->(∀o,h.get? i=some o->h'.get? i=some o)->(∀o,h.get? l=some o->h'.get? l=some o)->st k h'
 item:∀(A:VH) k (s:VI) x (Q:Vs) (E:Vs),st k s.heap->xs[k]?=some x->(∀h',st (k+1) h'->Heap.SameBut i s.heap h'->Q x {s with heap:=h'}) ->
  wpAny (model P w) A (Builtin.SmallTypes.nextOf (.ref i)) Q E s
 done:∀(A:VH) k (s:VI) (Q:Vs) (E:Vs),A.handled=none->st k s.heap->xs[k]?=none ->
  (∀h' e,Heap.ExtBut i s.heap h'->(∃o,h'.get? e=some o/\o.cls=.type "StopIteration")->E (.ref e) {s with heap:=h'})->wpAny (model P w) A (Builtin.SmallTypes.nextOf (.ref i)) Q E s
section
variable {P:VG} {w:World} {A:VH} {E:Vs} {s:VI}
theorem y0{h:Heap}(a:h.IsTupleIter i l k)(b:h.IsTuple l its):i≠l:=λe=>by
 obtain⟨o,h1,c1,_⟩:=a;obtain⟨o',h2,c2,_⟩:=b
 grind
theorem AG(a:s.heap.IsTupleIter it t k)(b:s.heap.IsTuple t its)(hx:its[k]?=some x)
 (q:∀h',h'.IsTupleIter it t (k+1)->Heap.SameBut it s.heap h'->Q x {s with heap:=h'}):wpAny (model P w) A (Builtin.SmallTypes.nextOf (.ref it)) Q E s:=by
 obtain⟨oi,gi,ci,di⟩:=id a;obtain⟨ot,gt,_,nt,dt⟩:=b;unfold Builtin.SmallTypes.nextOf;refine R0 (Sz (name:=Str.ofString "__next__") a.typeIs TF (SK TF a.typeIs F.entry_tuple_iterator_next ?_ (F.args_tuple_iterator_next_1 _)));show wpAny _ _ (field (Value.ref it) 0 >>= _) _ _ s;refine R0 (SX (x:=Value.ref t) gi di rfl ?_);rw[if_neg (show ¬ (Value.ref t==Value.none)=true from Sk)];show wpAny _ _ (field (Value.ref it) 1 >>= _) _ _ s;refine R0 (SX (x:=Value.int k 0) gi di rfl ?_);show wpAny _ _ (seqItems? (Value.ref t) >>= _) _ _ s;refine R0 (Tv gt dt ?_);simp only[hx,Tx];refine R0 (Vd gi di #[6] (R3 ⟨x,rfl,R3 (q _ ⟨_,U0 _ gi (Obj.isFreed_of_fields (UJ di _)),(Obj.cls_mapFields ..).trans ci,?_⟩ (S4 ..))⟩));rw[UJ di];simp[rawInt]
theorem tN(hh:A.handled=none)(a:s.heap.IsTupleIter it t k)(b:s.heap.IsTuple t its)(hx:its[k]?=none)
 (q:∀h' e,Heap.ExtBut it s.heap h'->(∃o,h'.get? e=some o/\o.cls=.type "StopIteration")->E (.ref e) {s with heap:=h'}):wpAny (model P w) A (Builtin.SmallTypes.nextOf (.ref it)) Q E s:=by
 obtain⟨oi,gi,ci,di⟩:=id a;obtain⟨ot,gt,_,nt,dt⟩:=b;unfold Builtin.SmallTypes.nextOf;refine R0 (Sz (name:=Str.ofString "__next__") a.typeIs TF (SK TF a.typeIs F.entry_tuple_iterator_next ?_ (F.args_tuple_iterator_next_1 _)));show wpAny _ _ (field (Value.ref it) 0 >>= _) _ _ s;refine R0 (SX (x:=Value.ref t) gi di rfl ?_);rw[if_neg (show ¬ (Value.ref t==Value.none)=true from Sk)];show wpAny _ _ (field (Value.ref it) 1 >>= _) _ _ s;refine R0 (SX (x:=Value.int k 0) gi di rfl ?_);show wpAny _ _ (seqItems? (Value.ref t) >>= _) _ _ s;refine R0 (Tv gt dt ?_);simp only[hx,Tx];refine R0 (TH (R0 (Vd gi di #[6] ?_)));show wpAny _ _ (newExc (Value.type "StopIteration") [] >>= _) _ _ _;refine R0 ?_;simp only[newTuple,newExc];refine R0 (Su ?_ (by size_fits));refine R0 (m:=firstArgMember _ _) (wpAny_of_eq (a:=Value.none) (by first|rfl | (unfold firstArgMember;rfl)) ?_);refine Su ?_ (by size_fits);unfold raiseNew;refine R0 (wpAny_handled ?_);rw[show A.in1.handled=none from hh];exact R0 (R3 (wpAny_throw (q _ _ (((S4 ..).extBut.push _).push _) ⟨_,R8 _ rfl,rfl⟩)))
theorem xB(i l:Addr)(xs:Vy):Nx P w i l (λk h=>h.IsTupleIter i l k/\h.IsTuple l xs.toArray) xs where
 obj:=by rintro k h ⟨⟨o,a,_,c⟩,_⟩;exact⟨o,_,a,c⟩
 keep:=by rintro k h h' ⟨a,b⟩ k1 k2;exact⟨a.at k1,by obtain⟨o,e,r⟩:=b;exact⟨o,k2 o e,r⟩⟩
 item:=λA k s x Q E ⟨a,b⟩ hx q=>AG a b (by simp_all) λh' a' sb=>q h' ⟨a',let ⟨o,e,r⟩:=b;⟨o,(sb.2 l (y0 a b).symm).trans e,r⟩⟩ sb
 done:=λA k s Q E hh ⟨a,b⟩ hx q=>tN hh a b (by simp_all) q
structure ZA(z TI TO i1 i2 l1 l2:Addr):Prop where
 a1:TI≠z
 a2:TO≠z
 a3:i1≠z
 a4:i2≠z
 a5:TI≠TO
 a6:TI≠i1
 a7:TI≠i2
 a8:TO≠i1
 a9:TO≠i2
 b1:i1≠i2
 b2:l1≠z
 b3:l1≠TO
 b4:l1≠i2
 b5:l2≠z
 b6:l2≠TO
 b7:l2≠i1
variable {st1 st2:Nat->Heap->Prop} {xs ys:Vy} {z TI TO i1 i2 l1 l2:Addr} {k:Nat} {a b:Value}
theorem aI(sb:Heap.SameBut c h h')(ne:d≠c)(e:h.get? d=some o):h'.get? d=some o:=(sb.2 d ne).trans e
theorem ET(D:ZA z TI TO i1 i2 l1 l2)(N1:Nx P w i1 l1 st1 xs)(N2:Nx P w i2 l2 st2 ys){Q:Vs}(hz:IsZip s.heap z TI TO .none)(hI:IsPair s.heap TI (.ref i1) (.ref i2))(hO:IsPair s.heap TO a b)
 (s1:st1 k s.heap)(s2:st2 k s.heap)(hx:xs[k]?=some x)(hy:ys[k]?=some y)
 (q:∀h',IsZip h' z TI TO (rawInt #[9])->IsPair h' TO x y->st1 (k+1) h'->st2 (k+1) h'->IsPair h' #[9] x y ->
   (∀c o,c≠z->c≠TO->c≠i1->c≠i2->s.heap.get? c=some o->h'.get? c=some o)->Q (.ref #[9]) {s with heap:=h'}) :
  wpAny (model P w) A (Builtin.«zip.__next__» ⟨[.ref z],[]⟩) (λfin s'=>∃v,fin=.done (.ret v)/\Q v s') E s:=by
 show wpAny _ _ (field (Value.ref z) 2 >>= _) _ _ _;refine R0 (SX (x:=Value.bool false) hz rfl rfl ?_);show wpAny _ _ (field (Value.ref z) 3 >>= _) _ _ _;refine R0 (SX (x:=Value.ref TI) hz rfl rfl ?_);refine R0 (Tv hI rfl ?_);show wpAny _ _ (Builtin.SmallTypes.ownedTupleIsFree (Value.ref z) >>= _) _ _ _;refine R0 ?_;unfold Builtin.SmallTypes.ownedTupleIsFree;refine R0 (SX (x:=Value.none) hz rfl rfl (R3 ?_));simp only[Tr];refine R0 (TH (R0 (SX (x:=Value.ref TO) hz rfl rfl ?_)));refine R0 (TL hz #[6] λg1 z1 e1=>?_);have z1:IsZip g1 z TI TO .ellipsis:=z1;refine R0 ?_;simp only[List.zipIdx_nil,List.zipIdx_cons,Ve,UI];refine R0 (R0 (wpAny_onRaise ?_));show wpAny _ _ (Builtin.SmallTypes.nextOf (Value.ref i1) >>= _) _ _ _;refine R0 (N1.item _ k _ x _ _ (N1.keep _ _ _ s1 (λo=>aI e1 D.a3) λo=>aI e1 D.b2) hx λg2 t1 e2=>R3 ?_);have O2:IsPair g2 TO a b:=aI e2 D.a8 (aI e1 D.a2 hO);refine R0 (Tv O2 rfl (R0 (U3 O2 λg3 O3 e3=>?_)));have O3:IsPair g3 TO x b:=O3;refine R0 (wpAny_letGo (R3 (R0 (R0 (wpAny_onRaise ?_)))));show wpAny _ _ (Builtin.SmallTypes.nextOf (Value.ref i2) >>= _) _ _ _;refine R0 (N2.item _ k _ y _ _ (N2.keep _ _ _ s2 (λo e=>aI e3 D.a9.symm (aI e2 D.b1.symm (aI e1 D.a4 e))) λo e=>aI e3 D.b6 (aI e2 D.b7 (aI e1 D.b5 e))) hy λg4 t2 e4=>R3 ?_);have O4:IsPair g4 TO x b:=aI e4 D.a9 O3;refine R0 (Tv O4 rfl (R0 (U3 O4 λg5 O5 e5=>?_)));have O5:IsPair g5 TO x y:=O5;refine R0 (wpAny_letGo (R3 (R3 (R0 (Tv O5 rfl (R0 (wpAny_newTuple ?_)))))));have sz:g5.objs.size=#[9]:=by rw[e5.1,e4.1,e3.1,e2.1,e1.1]
 have z5:IsZip g5 z TI TO .ellipsis:=aI e5 D.a2.symm (aI e4 D.a4.symm (aI e3 D.a2.symm (aI e2 D.a3.symm z1)));have zlt:z<g5.objs.size:=R7 z5;have u1:st1 (k+1) g5:=N1.keep _ _ _ t1 (λo e=>aI e5 D.a8.symm (aI e4 D.b1 (aI e3 D.a8.symm e))) λo e=>aI e5 D.b3 (aI e4 D.b4 (aI e3 D.b3 e));have u2:st2 (k+1) g5:=N2.keep _ _ _ t2 (λo e=>aI e5 D.a9.symm e) λo e=>aI e5 D.b6 e;show wpAny _ _ (Builtin.SmallTypes.ownedTupleHandOut (Value.ref z) (.ref g5.objs.size) >>= _) _ _ _;refine R0 ?_;unfold Builtin.SmallTypes.ownedTupleHandOut;have z6:IsZip (g5.push {cls:=.type "tuple",data:=.seq #[x,y]}) z TI TO .ellipsis:=R1 _ z5;refine R0 (TL z6 #[6] λg7 z7 e7=>?_);have z7:IsZip g7 z TI TO (rawInt g5.objs.size):=z7;refine TL z7 #[6] λg8 z8 e8=>?_;have z8:IsZip g8 z TI TO (rawInt g5.objs.size):=z8;have up:∀c o,c≠z->g5.get? c=some o->g8.get? c=some o:=λc o n e=>aI e8 n (aI e7 n (R1 _ e));have nw:IsPair g8 g5.objs.size x y:=aI e8 (Uz zlt) (aI e7 (Uz zlt) (R8 _ rfl));rw[sz]at z8 nw;refine R3 ⟨_,rfl,?_⟩;show Q (.ref g5.objs.size) _;rw[sz]
 exact q g8 z8 (up _ _ D.a2 O5) (N1.keep _ _ _ u1 (λo=>up _ o D.a3) λo=>up _ o D.b2) (N2.keep _ _ _ u2 (λo=>up _ o D.a4) λo=>up _ o D.b5) nw λc o n1 n2 n3 n4 e=>
  up c o n1 (aI e5 n2 (aI e4 n4 (aI e3 n2 (aI e2 n3 (aI e1 n1 e)))))
theorem HQ(hh:A.handled=none)(D:ZA z TI TO i1 i2 l1 l2)(N1:Nx P w i1 l1 st1 xs)(N2:Nx P w i2 l2 st2 ys)(hz:IsZip s.heap z TI TO .none)(hI:IsPair s.heap TI (.ref i1) (.ref i2))(hO:IsPair s.heap TO a b)
 (s1:st1 k s.heap)(s2:st2 k s.heap)(hend:xs[k]?=none\/ys[k]?=none)
 (q:∀h' e,(∀c o,c≠z->c≠TO->c≠i1->c≠i2->s.heap.get? c=some o->h'.get? c=some o)->(∃o,h'.get? e=some o/\o.cls=.type "StopIteration")->E (.ref e) {s with heap:=h'}) :
  wpAny (model P w) A (Builtin.«zip.__next__» ⟨[.ref z],[]⟩) Q E s:=by
 show wpAny _ _ (field (Value.ref z) 2 >>= _) _ _ _;refine R0 (SX (x:=Value.bool false) hz rfl rfl ?_);show wpAny _ _ (field (Value.ref z) 3 >>= _) _ _ _;refine R0 (SX (x:=Value.ref TI) hz rfl rfl ?_);refine R0 (Tv hI rfl ?_);show wpAny _ _ (Builtin.SmallTypes.ownedTupleIsFree (Value.ref z) >>= _) _ _ _;refine R0 ?_;unfold Builtin.SmallTypes.ownedTupleIsFree;refine R0 (SX (x:=Value.none) hz rfl rfl (R3 ?_));simp only[Tr];refine R0 (TH (R0 (SX (x:=Value.ref TO) hz rfl rfl ?_)));refine R0 (TL hz #[6] λg1 z1 e1=>?_);have z1:IsZip g1 z TI TO .ellipsis:=z1;refine R0 ?_;simp only[List.zipIdx_nil,List.zipIdx_cons,Ve,UI];refine R0 (R0 (wpAny_onRaise ?_));show wpAny _ _ (Builtin.SmallTypes.nextOf (Value.ref i1) >>= _) _ _ _;have t1:st1 k g1:=N1.keep _ _ _ s1 (λo=>aI e1 D.a3) λo=>aI e1 D.b2
 cases hx:xs[k]? with
 |none=>
  refine R0 (N1.done _ k _ _ _ hh t1 hx λg2 e e2 ⟨oe,he,ce⟩=>?_);have z2:IsZip g2 z TI TO .ellipsis:=e2 _ _ D.a3.symm z1;have ne:e≠z:=λr=>by rw[r,z2]at he;cases he;exact absurd (show Value.type "zip" = Value.type "StopIteration" from ce) #[4]
  exact TL z2 #[6] λg3 _ e3=>q g3 e (λc o n1 _ n3 _ r=>aI e3 n1 (e2 _ _ n3 (aI e1 n1 r))) ⟨oe,aI e3 ne he,ce⟩
 |some x=>
  have hy:ys[k]?=none:=by
   rcases hend with r|r
   ·rw[hx]at r;cases r
   ·exact r
  refine R0 (N1.item _ k _ x _ _ t1 hx λg2 t1 e2=>R3 ?_);have O2:IsPair g2 TO a b:=aI e2 D.a8 (aI e1 D.a2 hO);refine R0 (Tv O2 rfl (R0 (U3 O2 λg3 O3 e3=>?_)));refine R0 (wpAny_letGo (R3 (R0 (R0 (wpAny_onRaise ?_)))));show wpAny _ _ (Builtin.SmallTypes.nextOf (Value.ref i2) >>= _) _ _ _;refine R0 (N2.done _ k _ _ _ hh (N2.keep _ _ _ s2 (λo e=>aI e3 D.a9.symm (aI e2 D.b1.symm (aI e1 D.a4 e))) λo e=>aI e3 D.b6 (aI e2 D.b7 (aI e1 D.b5 e))) hy λg4 e e4 ⟨oe,he,ce⟩=>?_);have z4:IsZip g4 z TI TO .ellipsis:=e4 _ _ D.a4.symm (aI e3 D.a2.symm (aI e2 D.a3.symm z1));have ne:e≠z:=λr=>by rw[r,z4]at he;cases he;exact absurd (show Value.type "zip" = Value.type "StopIteration" from ce) #[4]
  exact TL z4 #[6] λg5 _ e5=>q g5 e (λc o n1 n2 n3 n4 r=>aI e5 n1 (e4 _ _ n4 (aI e3 n2 (aI e2 n3 (aI e1 n1 r))))) ⟨oe,aI e5 ne he,ce⟩
end
section
variable {P:VG} {w:World} {A:VH} {E:Vs} {s:VI}
structure NF(h h':Heap)(l1 l2:Addr):Prop where
 z:IsZip h' (h.objs.size+4) (h.objs.size+2) (h.objs.size+3) .none
 ti:IsPair h' (h.objs.size+2) (.ref h.objs.size) (.ref (h.objs.size+1))
 to:IsPair h' (h.objs.size+3) .none .none
 i1:h'.IsTupleIter h.objs.size l1 0
 i2:h'.IsTupleIter (h.objs.size+1) l2 0
 sz:h'.objs.size=h.objs.size+5
 keep:∀c o,h.get? c=some o->h'.get? c=some o
noncomputable abbrev qy(h:Heap)(u:Addr):Heap:=h.push {cls:=.type "tuple_iterator",data:=.fields #[.ref u,.int 0 0]}
noncomputable abbrev Ld(h:Heap)(a b:Addr):Heap:=h.push {cls:=.type "tuple",data:=.seq #[.ref a,.ref b]}
noncomputable abbrev NG(h:Heap):Heap:=h.push {cls:=.type "tuple",data:=.seq #[.none,.none]}
noncomputable abbrev RF(h:Heap)(a b:Addr):Heap:=h.push {cls:=.type "zip",data:=.fields #[.none,.bool false,.bool false,.ref a,.ref b]}
noncomputable abbrev AH(h:Heap)(l1 l2:Addr):Heap:=RF (NG (Ld (qy (qy h l1) l2) h.objs.size (qy h l1).objs.size)) (qy (qy h l1) l2).objs.size (Ld (qy (qy h l1) l2) h.objs.size (qy h l1).objs.size).objs.size
theorem EU(h:Heap)(l1 l2:Addr):NF h (AH h l1 l2) l1 l2:=by
 have e1:(qy h l1).objs.size=h.objs.size+1:=TN ..;have e2:(qy (qy h l1) l2).objs.size=h.objs.size+2:=by simp_all
 have e3:(Ld (qy (qy h l1) l2) h.objs.size (qy h l1).objs.size).objs.size=h.objs.size+3:=by simp_all
 have e4:(NG (Ld (qy (qy h l1) l2) h.objs.size (qy h l1).objs.size)).objs.size=h.objs.size+4:=by simp_all
 have p5:(AH h l1 l2).get? (NG _).objs.size=some _:=R8 _ rfl;have p4:(AH h l1 l2).get? (Ld _ h.objs.size (qy h l1).objs.size).objs.size=some _:=R1 _ (R8 _ rfl);have p3:(AH h l1 l2).get? (qy (qy h l1) l2).objs.size=some _:=R1 _ (R1 _ (R8 _ rfl));have p2:(AH h l1 l2).get? (qy h l1).objs.size=some _:=R1 _ (R1 _ (R1 _ (R8 _ rfl)));have p1:(AH h l1 l2).get? h.objs.size=some _:=R1 _ (R1 _ (R1 _ (R1 _ (R8 _ rfl))));rw[e2,e3,e4]at p5;rw[e3]at p4;rw[e2,e1]at p3;rw[e1]at p2;exact⟨p5,p3,p4,⟨_,p1,rfl,rfl⟩,⟨_,p2,rfl,rfl⟩,by simp_all,λc o e=>R1 _ (R1 _ (R1 _ (R1 _ (R1 _ e))))⟩
theorem y4(l1 l2:Addr)(xs ys:VE) :
  Meets (Builtin.«zip.__new__» ⟨[.type "zip",.ref l1,.ref l2],[]⟩) (λ_ R s=>s.heap.IsTuple l1 xs/\s.heap.IsTuple l2 ys/\R (.ok (.ret (.ref (NG (Ld (qy (qy s.heap l1) l2) #[9] (qy s.heap l1).objs.size)).objs.size))) {s with heap:=AH s.heap l1 l2}):=
 .of_wp λprog w A R s h=>by
  obtain⟨hp,g,d,tk,os⟩:=s;obtain⟨t1,t2,h⟩:=h;have hsub:=sub_zip;have T1:Heap.IsTuple (Shared.heap ⟨hp,g,d,tk,os⟩) l1 xs:=t1;have T2:Heap.IsTuple (Shared.heap ⟨hp.push {cls:=.type "tuple_iterator",data:=.fields #[.ref l1,.int 0 0]},g,d,tk,os⟩) l2 ys:=Heap.IsTuple.push t2 _
  wp_walk using wpAny_pyIter_tuple T1,wpAny_pyIter_tuple T2
  exact⟨_,rfl,h⟩
theorem xC(t1:s.heap.IsTuple l1 xs)(t2:s.heap.IsTuple l2 ys)(q:∀h',NF s.heap h' l1 l2->Q (.ref (#[9]+4)) {s with heap:=h'}) :
  wpAny (model P w) A (call (.type "zip") [.ref l1,.ref l2]) Q E s:=by
 refine callType_new F.called_zip #[4] (F.typeCall_zip_2 _ _) (F.newCall_zip_2 _ _) (λobj=>F.args_object_init_3 obj _ _) F.entry_zip_new (y4 l1 l2 xs ys) ⟨t1,t2,?_⟩;have n:=EU s.heap l1 l2
 have e4:(NG (Ld (qy (qy s.heap l1) l2) #[9] (qy s.heap l1).objs.size)).objs.size=#[9]+4:=by
  simp_all
 show _/\_;rw[e4];exact⟨⟨_,n.z,rfl⟩,q _ n⟩
theorem vO{z TI TO i1 i2 l1 l2:Addr}{xs ys:Vy}(D:ZA z TI TO i1 i2 l1 l2)(hz:IsZip s.heap z TI TO .none)(hI:IsPair s.heap TI (.ref i1) (.ref i2))(hO:IsPair s.heap TO a b)
 (t1:s.heap.IsTupleIter i1 l1 k)(t2:s.heap.IsTupleIter i2 l2 k)(h1:s.heap.IsTuple l1 xs.toArray)(h2:s.heap.IsTuple l2 ys.toArray)(hx:xs[k]?=some x)(hy:ys[k]?=some y)
 (q:∀h',IsZip h' z TI TO (rawInt #[9])->IsPair h' TO x y->h'.IsTupleIter i1 l1 (k+1)->h'.IsTupleIter i2 l2 (k+1)->IsPair h' #[9] x y ->
   (∀c o,c≠z->c≠TO->c≠i1->c≠i2->s.heap.get? c=some o->h'.get? c=some o)->Q (some (.ref #[9])) {s with heap:=h'}):wpAny (model P w) A (pyNext (.ref z)) Q E s:=by
 have hT:s.TypeIs (.ref z) "zip" := ⟨_,hz,rfl⟩;refine R0 (Uq (Sz hT U7 (SK U7 hT F.entry_zip_next ?_ (F.args_zip_next_1 _))));exact ET D (xB i1 l1 xs) (xB i2 l2 ys) hz hI hO ⟨t1,h1⟩ ⟨t2,h2⟩ hx hy λh' a1 a2 a3 a4 a5 a6=>R3 (q h' a1 a2 a3.1 a4.1 a5 a6)
theorem xD{z TI TO i1 i2 l1 l2:Addr}{xs ys:Vy}(hh:A.handled=none)(D:ZA z TI TO i1 i2 l1 l2)(hz:IsZip s.heap z TI TO .none)(hI:IsPair s.heap TI (.ref i1) (.ref i2))(hO:IsPair s.heap TO a b)
 (t1:s.heap.IsTupleIter i1 l1 k)(t2:s.heap.IsTupleIter i2 l2 k)(h1:s.heap.IsTuple l1 xs.toArray)(h2:s.heap.IsTuple l2 ys.toArray)(hend:xs[k]?=none\/ys[k]?=none)
 (q:∀h',(∀c o,c≠z->c≠TO->c≠i1->c≠i2->s.heap.get? c=some o->h'.get? c=some o)->Q none {s with heap:=h'}):wpAny (model P w) A (pyNext (.ref z)) Q E s:=by
 have hT:s.TypeIs (.ref z) "zip" := ⟨_,hz,rfl⟩;refine R0 (Uq (Sz hT U7 (SK U7 hT F.entry_zip_next ?_ (F.args_zip_next_1 _))));refine HQ (A:=A.in1) hh D (xB i1 l1 xs) (xB i2 l2 ys) hz hI hO ⟨t1,h1⟩ ⟨t2,h2⟩ hend λh' e hk ⟨o,ho,hc⟩=>?_;exact R0 (wpAny_isInstance ⟨o,ho,hc⟩ isSubtype_stop (R3 (q _ hk)))
end
noncomputable def Q2(K:Vz)(a1 a2:Addr):It:=
 ⟨λi H=>∃xs ys x y,fW K H a1 xs/\fW K H a2 ys/\xs[i]?=some x/\ys[i]?=some y,
  λi H v H'=>∃p x y,v=.ref p/\H p=none/\H'=upd H p (.tup [x,y])/\(∀xs,fW K H a1 xs->xs[i]?=some x)/\∀ys,fW K H a2 ys->ys[i]?=some y,
  λi H=>∃xs ys,fW K H a1 xs/\fW K H a2 ys/\(xs.length<=i\/ys.length<=i)⟩
theorem EV{K:Vz}(a1 a2 z TI TO i1 i2:Addr)(D:ZA z TI TO i1 i2 a1 a2):Turn P w K (.Tuple es kk tpos) (Q2 K a1 a2) [z,TI,TO,i1,i2] z
  (λk h=>IsZip h z TI TO .none/\IsPair h TI (.ref i1) (.ref i2)/\(∃a b,IsPair h TO a b)/\h.IsTupleIter i1 a1 k/\h.IsTupleIter i2 a2 k) where
 mem:=SV
 obj:=λk h st b hb=>by
  obtain⟨hz,hI,⟨a,c,hO⟩,⟨o1,e1,_,d1⟩,⟨o2,e2,_,d2⟩⟩:=st
  grind
 keep:=λk h h' st kp=>by obtain⟨hz,hI,⟨a,c,hO⟩,t1,t2⟩:=st;exact⟨kp z #[6] _ hz,kp TI #[6] _ hI,⟨a,c,kp TO #[6] _ hO⟩,t1.at (kp i1 #[6]),t2.at (kp i2 #[6])⟩
 item:=by
  intro X hP hw hK hc i pins s σ H E I hf st hg;subst hP hw hK;obtain⟨xs,ys,x,y,q1,q2,hx,hy⟩:=hg;obtain⟨its1,r1,p1,_⟩:=I.tuple q1;obtain⟨its2,r2,p2,_⟩:=I.tuple q2;obtain⟨u1,hu1,ru1⟩:=r1.get hx;obtain⟨u2,hu2,ru2⟩:=r2.get hy;obtain⟨hz,hI,⟨a,c,hO⟩,t1,t2⟩:=st;refine vO D hz hI hO t1 t2 (show s.heap.IsTuple a1 its1.toArray from p1) (show s.heap.IsTuple a2 its2.toArray from p2) hu1 hu2 λh' z' o' t1' t2' nw kp=>?_;refine⟨_,rfl,wpAny_letOwnedTupleGo_zip z' λh2 z2 sb=>?_⟩;have lt:∀{b:Addr} {o:Obj},s.heap.get? b=some o->b≠#[9]:=λe=>Sg (R7 e);have nz:#[9]≠z:=(lt hz).symm;have hf0:H #[9]=none:=I.hok.fresh (R5 _);have hI2:IsPair h2 TI (.ref i1) (.ref i2):=aI sb D.a1 (kp _ _ D.a1 D.a5 D.a6 D.a7 hI);have kall:∀b o,b∉[z,TI,TO,i1,i2]->s.heap.get? b=some o->h2.get? b=some o:=λb o hb e=>by simp only[Sf,SY,UX,not_or]at hb;exact aI sb hb.1 (kp b o hb.1 hb.2.2.1 hb.2.2.2.1 hb.2.2.2.2 e)
  have wc:∀{b:Addr} {u:HO},H b=some u->b∉[z,TI,TO,i1,i2]:=λ{b u} e hb=>by rw[(hf b hb).1]at e;cases e
  have there:∀b o,s.heap.get? b=some o->∃o',h2.get? b=some o':=λb o e=>by
   by_cases hb:b∈[z,TI,TO,i1,i2]
   ·simp only[Sf,SY,UX]at hb;rcases hb with rfl|rfl|rfl|rfl|rfl
    ·exact⟨_,z2⟩
    ·exact⟨_,hI2⟩
    ·exact⟨_,aI sb D.a2 o'⟩
    ·obtain⟨_,e1,_⟩:=t1';exact⟨_,aI sb D.a3 e1⟩
    ·obtain⟨_,e1,_⟩:=t2';exact⟨_,aI sb D.a4 e1⟩
   ·exact⟨o,kall b o hb e⟩
  have hokN:ky X.prog X.w (upd H #[9] (.tup [x,y])) h2:=λb u e=>by
   by_cases hb:b=#[9]
   ·subst hb;rw[aG]at e;cases e;exact⟨by show 2<=sizeLine;decide,[u1,u2],.cons ru1 (.cons ru2 .nil),⟨_,aI sb nz nw,rfl,_,rfl⟩⟩
   ·rw[au hb]at e;refine(I.hok b u e).nQ (λd v hd r=>kall d v ?_ r) (λd r=>by rw[au (aB r hf0)];exact r) λd vs r=>by rw[au (aB r hf0)];exact r
    rcases hd with rfl|hd
    ·exact wc e
    ·exact wc hd
  have I2:Inv X pins σ (upd H #[9] (.tup [x,y])) {s with heap:=h2}:=by
   refine I.step (g':=s.gens) (d':=s.drawn) (t':=s.toks) (ch:=[z,TI,TO,i1,i2]) (λb hb=>⟨(hf b hb).2.2.2.1,(hf b hb).2.1,(hf b hb).2.2.2.2.1,(hf b hb).2.2.2.2.2⟩) (λb o _ _ hb e _=>kall b o hb e) (λb o _ _ hb e _=>⟨o.slots,kall b o hb e⟩)
    (λb o _ e n=>by rw[au (lt e)];exact n) (λb o _ e=>there b o e) (λb vs e=>by rw[au (aB e hf0)];exact e) (λb o v e=>by rw[au (aB e hf0)];exact e) (λb ps e=>⟨#[],by rw[au (aB e hf0),e];simp⟩) (λm hm=>?_) hokN I.bare
   obtain⟨o,es',ep,e,r⟩:=hm;exact⟨o,es',ep,kall _ o (λhb=>(hf _ hb).2.1 rfl) e,r⟩
  refine⟨.ref #[9],_,I2,rfl,⟨_,x,y,rfl,hf0,rfl,λvs h=>by rw[I.qt h q1];exact hx,λvs h=>by rw[I.qt h q2];exact hy⟩,⟨z2,hI2,⟨_,_,aI sb D.a2 o'⟩,t1'.at λo e=>aI sb D.a3 e,t2'.at λo e=>aI sb D.a4 e⟩,λb hb=>?_⟩;have hb':=(hf b hb).1;by_cases e:b=#[9]
  ·exfalso;simp only[Sf,SY,UX]at hb;rcases hb with r|r|r|r|r
   ·exact lt hz (r▸e)
   ·exact lt hI (r▸e)
   ·exact lt hO (r▸e)
   ·obtain⟨_,e1,_⟩:=t1;exact lt e1 (r▸e)
   ·obtain⟨_,e1,_⟩:=t2;exact lt e1 (r▸e)
  ·rw[au e];exact hb'
 done:=by
  intro X hP hw hK hc i pins s σ H E I hf st hg;subst hP hw hK;obtain⟨xs,ys,q1,q2,hl⟩:=hg;obtain⟨its1,r1,p1,_⟩:=I.tuple q1;obtain⟨its2,r2,p2,_⟩:=I.tuple q2;obtain⟨hz,hI,⟨a,c,hO⟩,t1,t2⟩:=st;refine xD (I.ok.hd hc) D hz hI hO t1 t2 (show s.heap.IsTuple a1 its1.toArray from p1) (show s.heap.IsTuple a2 its2.toArray from p2) ?_ λh' kp=>⟨rfl,?_⟩
  ·have e1:=r1.length;have e2:=r2.length;rcases hl with r|r
   ·exact .inl (List.getElem?_eq_none_iff.mpr #[3])
   ·exact .inr (List.getElem?_eq_none_iff.mpr #[3])
  ·have kall:∀b o,b∉[z,TI,TO,i1,i2]->s.heap.get? b=some o->h'.get? b=some o:=λb o hb e=>by
    simp only[Sf,SY,UX,not_or]at hb;exact kp b o hb.1 hb.2.2.1 hb.2.2.2.1 hb.2.2.2.2 e
   have wc:∀{b:Addr} {u:HO},H b=some u->b∉[z,TI,TO,i1,i2]:=λ{b u} e hb=>by rw[(hf b hb).1]at e;cases e
   refine I.step (g':=s.gens) (d':=s.drawn) (t':=s.toks) (ch:=[z,TI,TO,i1,i2]) (λb hb=>⟨(hf b hb).2.2.2.1,(hf b hb).2.1,(hf b hb).2.2.2.2.1,(hf b hb).2.2.2.2.2⟩) (λb o _ _ hb e _=>kall b o hb e) (λb o _ _ hb e _=>⟨o.slots,kall b o hb e⟩)
    (λb o _ e n=>n) (λb o hb e=>⟨o,kall b o hb e⟩) (λb vs e=>e) (λb o v e=>e) (λb ps e=>⟨#[],by rw[e];simp⟩) (λm hm=>?_) (λb u e=>(I.hok b u e).nQ (λd v hd r=>kall d v ?_ r) (λ_ r=>r) λ_ _ r=>r) I.bare
   ·obtain⟨o,es',ep,e,r⟩:=hm;exact⟨o,es',ep,kall _ o (λhb=>(hf _ hb).2.1 rfl) e,r⟩
   ·rcases hd with rfl|hd
    ·exact wc e
    ·exact wc hd
 self:=λ_ _ _ _ _ st h=>wpAny_pyIter_zip st.1 h
section
variable {X:Cx} {es:VB} {kk:Nat} {tpos:Pos}
theorem P6(a b:Nat)(h:a≠b):@Ne Addr a b:=h
theorem NH(n a b:Nat)(h1:a<n)(h2:b<n):ZA (n+4) (n+2) (n+3) n (n+1) a b:=by constructor<;>refine P6 _ _ ?_<;>omega
noncomputable def P7(K:Vz)(ta:TA):TI:=λσ H R=>ta σ H λvs H1=>∃a1 a2 xs ys,vs=[.ref a1,.ref a2]/\fW K H1 a1 xs/\fW K H1 a2 ys/\R (Q2 K a1 a2) H1
theorem Le{p pos:Pos}(hg:Gl X "zip")(hm:X.mg "zip" = none)(ha:PA X [e1,e2] ta)(hs:starEach [e1,e2] X.env=[(false,eval e1 X.env),(false,eval e2 X.env)]:=by rfl)(hs2:starEach [e2] X.env=[(false,eval e2 X.env)]:=by rfl) :
  PI X (.Tuple es kk tpos) (.Call (.Name "zip" p) [e1,e2] [] pos) (P7 X.K ta):=by
 intro pins s σ H R I h;refine Call_ (nR I hg hm (by rfl:bootBuiltins "zip" = some (.type "zip")) (Ue (bS (ha pos pins s σ H _ I h) λus s1 ⟨vs,H1,I1,r1,q1⟩=>?_) (by grind) (by rw[hs2];rfl)));obtain⟨a1,a2,xs,ys,e,t1,t2,q⟩:=q1;subst e
 cases r1 with
 |cons r rr=>
  cases rr with
  |cons r' rr=>
   cases rr;cases r;cases r';obtain⟨its1,v1,p1,_⟩:=I1.tuple t1;obtain⟨its2,v2,p2,_⟩:=I1.tuple t2;have L1:a1<s1.heap.objs.size:=by obtain⟨_,e,_⟩:=p1;exact R7 e
   have L2:a2<s1.heap.objs.size:=by obtain⟨_,e,_⟩:=p2;exact R7 e
   refine xC (show s1.heap.IsTuple a1 its1.toArray from p1) (show s1.heap.IsTuple a2 its2.toArray from p2) λh' N=>?_;refine wpAny_pyIter_zip (s:={s1 with heap:=h'}) N.z ?_;have I2:Inv X pins σ H1 {s1 with heap:=h'}:=I1.kept (t':=s1.toks) N.keep;refine⟨s1.heap.objs.size+4,[s1.heap.objs.size+4,s1.heap.objs.size+2,s1.heap.objs.size+3,s1.heap.objs.size,s1.heap.objs.size+1],_,_,H1,rfl,I2,EV a1 a2 _ _ _ _ _ (NH _ _ _ L1 L2),⟨N.z,N.ti,⟨_,_,N.to⟩,N.i1,N.i2⟩,λb hb=>?_,q⟩
   have ge:s1.heap.objs.size<=b:=by
    simp only[Sf,SY,UX]at hb;rcases hb with rfl|rfl|rfl|rfl|rfl
    ·exact U2 _ _
    ·exact U2 _ _
    ·exact U2 _ _
    ·exact R5 _
    ·exact U2 _ _
   exact I1.EA ge (I1.hok.fresh ge)
end
section
variable {κ:Type} [DecidableEq κ]
noncomputable def sN(kvs:List (κ×V))(k:κ):Option V:=(kvs.find? λkv=>decide (kv.1=k)).map (·.2)
noncomputable def putK(kvs:List (κ×V))(k:κ)(v:V):List (κ×V):=
 if(kvs.any λkv=>decide (kv.1=k))=true then kvs.map (λkv=>if kv.1=k then(kv.1,v)else kv)else kvs++[(k,v)]
theorem pk{k:κ}(e:p.1=k):sN (p::r) k=some p.2:=by simp[sN,e]
theorem pq{k:κ}(e:¬ p.1=k):sN (p::r) k=sN r k:=by simp[sN,e]
theorem pA(k:κ):∀kvs:List (κ×V),(kvs.any λkv=>decide (kv.1=k))=(sN kvs k).isSome
 | []=>rfl
 |p::r=>by
  rw[Vm];by_cases e:p.1=k
  ·simp[pk,e]
  ·rw[pq e,S7 e,Bool.false_or];exact pA k r
theorem iE(kvs:List (κ×V))(k:κ)(v:V):(putK kvs k v).length<=kvs.length+1:=by
 grind[putK,List.length_map,List.length_append,List.length_cons,List.length_nil]
theorem tG.jn(r:tG o u):o.isSome=u.isSome:=by
 cases o with
 |none=>cases u with
  |none=>rfl
  |some _=>trivial
 |some _=>cases u with
  |none=>trivial
  |some _=>rfl
theorem KV.val(r:KV kvs vs)(k:κ):tG (sN kvs k) (valueAt vs k):=by
 induction r with
 |nil=>trivial
 | @cons p q ps qs h t ih=>
  obtain⟨h1,h2⟩:=h;by_cases e:p.1=k
  ·have e'  := h1.symm.trans e;have b:valueAt (q::qs) k=some q.2:=by simp[valueAt,e']
   rw[pk e,b];exact h2
  ·have e':¬ q.1=k:=λz=>e (h1.trans z);have b:valueAt (q::qs) k=valueAt qs k:=by simp[valueAt,e']
   rw[pq e,b];exact ih
theorem KV.any(r:KV kvs vs)(k:κ):(kvs.any λkv=>decide (kv.1=k))=vs.any λkv=>decide (kv.1=k):=by
 induction r with
 |nil=>rfl
 |cons h t ih=>simp_all
theorem KV.Lf(r:KV kvs vs)(k:κ)(ry:RelV y u) :
  KV (kvs.map λkv=>if kv.1=k then(kv.1,y)else kv) (vs.map λkv=>if kv.1=k then(kv.1,u)else kv):=by
 unfold KV at r ⊢
 induction r with
 |nil=>exact .nil
 | @cons p q ps qs h t ih=>
  rw[Sy,Sy];refine .cons ?_ ih;obtain⟨h1,h2⟩:=h;by_cases e:p.1=k
  ·rw[if_pos e,if_pos (h1.symm.trans e)];exact⟨h1,ry⟩
  ·rw[if_neg e,if_neg (λz=>e (h1.trans z))];exact⟨h1,h2⟩
theorem KV.put(r:KV kvs vs)(k:κ)(ry:RelV y u):KV (putK kvs k y) (stored vs k u):=by
 unfold putK stored;rw[r.any k];by_cases e:(vs.any λkv=>decide (kv.1=k))=true
 ·rw[if_pos e,if_pos e];exact r.Lf k ry
 ·rw[if_neg e,if_neg e];exact Paired.snoc r ⟨rfl,ry⟩
theorem KV.length{vs:List (κ×Value)}(r:KV kvs vs):kvs.length=vs.length:=Sr r
end
theorem tO(r:RelV (kV k) u):(cf P w).is k u=true:=by
 cases k with
 |inl i=>obtain⟨t,e⟩:=(r);subst e;exact yP P w i t
 |inr x=>obtain⟨t,e⟩:=(r);subst e;exact yQ P w x t
theorem wx:∀{ks:List Key} {us:Vy},Vals (ks.map kV) us->ItemsAre (cf P w) ks us
 | [],_,r=>by cases r;exact .nil
 |k::ks,_,r=>by
  cases r with
  |cons h t=>exact .cons (tO h) (wx t)
noncomputable abbrev KT(H:Hp):List (List Key×V)->List (List Key×Addr×Value)->Prop:=Paired λp q=>p.1=q.1/\H q.2.1=some (.tup (p.1.map kV))/\RelV p.2 q.2.2
theorem KT.val(r:KT H kvs xs)(k:List Key):tG (sN kvs k) ((atKey xs k).map (·.2)):=by
 induction r with
 |nil=>trivial
 | @cons p q ps qs h t ih=>
  obtain⟨h1,_,h2⟩:=h;by_cases e:p.1=k
  ·have e'  := h1.symm.trans e;have b:atKey (q::qs) k=some q.2:=by simp[atKey,e']
   rw[pk e,b];exact h2
  ·have e':¬ q.1=k:=λz=>e (h1.trans z);have b:atKey (q::qs) k=atKey qs k:=by simp[atKey,e']
   rw[pq e,b];exact ih
theorem KT.Lf(r:KT H kvs xs)(k:List Key)(ry:RelV y u) :
  KT H (kvs.map λkv=>if kv.1=k then(kv.1,y)else kv) (xs.map (putAt k u)):=by
 induction r with
 |nil=>exact .nil
 | @cons p q ps qs h t ih=>
  rw[Sy,Sy];refine .cons ?_ ih;obtain⟨h1,h2,h3⟩:=h;unfold putAt;by_cases e:p.1=k
  ·rw[if_pos e,if_pos (h1.symm.trans e)];exact⟨h1,h2,ry⟩
  ·rw[if_neg e,if_neg (λz=>e (h1.trans z))];exact⟨h1,h2,h3⟩
theorem KT.put(r:KT H kvs xs)(k:List Key)(hb:H b=some (.tup (k.map kV)))(ry:RelV y u) :
  KT H (putK kvs k y) (storedH xs k b u):=by
 have e:(kvs.any λkv=>decide (kv.1=k))=(atKey xs k).isSome:=by rw[pA,(r.val k).jn,Vi]
 unfold putK storedH;rw[e];by_cases q:(atKey xs k).isSome=true
 ·rw[if_pos q,if_pos q];exact r.Lf k ry
 ·rw[if_neg q,if_neg q];exact Paired.snoc r ⟨rfl,hb,ry⟩
theorem KT.keeps(r:KT H kvs xs)(ht:∀b ys,H b=some (.tup ys)->H' b=some (.tup ys)):KT H' kvs xs:=
 Paired.C1 r λ_ _ z=>⟨z.1,ht _ _ z.2.1,z.2.2⟩
section
variable {P:VG} {w:World} {H:Hp} {h:Heap} {a:Addr}
theorem J1(ok:ky P w H h)(e:Rd H a u):bW P w H h a u:=e.ok ok
theorem BU(ok:ky P w H h)(e:Rd H a (.dK kvs)):kvs.length<=sizeLine/\(a==sysModules)=false/\∃vs,KV kvs vs/\h.DictOf (cf P w) a vs:=
 show bW P w H h a (.dK kvs)from J1 ok e
theorem J2(ok:ky P w H h)(e:H a=some (.dK kvs)):kvs.length<=sizeLine/\(a==sysModules)=false/\∃vs,KV kvs vs/\h.DictOf (cf P w) a vs:=BU ok (.inl e)
theorem tP(ok:ky P w H h)(e:H a=some (.tup (ks.map kV))):(tupleKind (cf P w)).is h ks a:=by obtain⟨_,its,r,o,h1,h2,n,h3⟩:=(ok a _ e);exact⟨o,its.toArray,n,h1,h2,h3,by simpa using wx r⟩
theorem BV(ok:ky P w H h)(e:Rd H a (.dT kvs)):kvs.length<=sizeLine/\(a==sysModules)=false /\
  ∃xs,KT H kvs xs/\h.DictOfH (tupleKind (cf P w)) a xs:=by
 obtain⟨z,y,xs,r,o,es,ep,h1,h2,h3,h4,h5⟩:=(show bW P w H h a (.dT kvs)from J1 ok e);refine⟨z,y,xs,r,o,es,ep,h1,h2,h3,h4,λx hx=>?_,h5⟩
 have all:∀{l:List (List Key×V)} {m:List (List Key×Addr×Value)},KT H l m->∀x∈m,(tupleKind (cf P w)).is h x.1 x.2.1:=by
  intro l m q
  induction q with
  |nil=>grind
  | @cons p q ps qs hq t ih=>
   intro x hx;rcases Sf.mp hx with e|hx
   ·subst e;exact tP ok (by rw[<- hq.1];exact hq.2.1)
   ·exact ih x hx
 grind
theorem NI(ok:ky P w H h)(e:H a=some (.dT kvs)):kvs.length<=sizeLine/\(a==sysModules)=false /\
  ∃xs,KT H kvs xs/\h.DictOfH (tupleKind (cf P w)) a xs:=BV ok (.inl e)
end
noncomputable def za(H:Hp)(a:Addr)(y:V)(r:Option V):Prop:=
 (∃kvs k,Rd H a (.dK kvs)/\y=kV k/\r=sN kvs k)\/∃kvs k b,Rd H a (.dT kvs)/\y=.ref b/\H b=some (.tup (k.map kV))/\r=sN kvs k
noncomputable def HR(H:Hp)(a:Addr)(y v:V)(H':Hp):Prop:=
 (∃kvs k,H a=some (.dK kvs)/\y=kV k/\kvs.length<sizeLine/\H'=upd H a (.dK (putK kvs k v))) \/
 ∃kvs k b,H a=some (.dT kvs)/\y=.ref b/\H b=some (.tup (k.map kV))/\kvs.length<sizeLine/\H'=upd H a (.dT (putK kvs k v))
theorem za.k{k:Key}(e:H a=some (.dK kvs)):za H a (kV k) (sN kvs k):=.inl ⟨kvs,k,.inl e,rfl,rfl⟩
theorem HR.k{k:Key}{v:V}(e:H a=some (.dK kvs))(hl:kvs.length<sizeLine):HR H a (kV k) v (upd H a (.dK (putK kvs k v))):=.inl ⟨kvs,k,e,rfl,hl,rfl⟩
section
variable {X:Cx} {pins:Vt} {σ:St} {H:Hp} {s:VI} {a:Addr} {y v:V} {u r:Value} {o:Option V} {A:VH} {E:Vs}
theorem Inv.big(I:#[10]):sysModules<#[9]:=by have h  := (I.mod.glob.keeps I.bk).lt;exact Nat.lt_trans #[4] h
theorem Dn(hu:A.units+1<cLine)(I:#[10])(g:za H a y (some v))(ry:RelV y u)(h:∀w' s',Inv X pins σ H s'->RelV v w'->Q w' s') :
  wpAny #[12] A (getItem (.ref a) u) Q E s:=by
 rcases g with⟨kvs,k,e,ey,l⟩|⟨kvs,k,b,e,ey,eb,l⟩
 ·subst ey;obtain⟨z,hd,vs,rel,dd⟩:=BU I.hok e;obtain⟨w',hw,rw'⟩:=tG.some_of (v:=v) (o:=valueAt vs k) (by rw[l];exact rel.val k);exact wpAny_getItem_of (tO ry) dd.mapOf hw (h w' _ (I.tok _) rw')
 ·subst ey;cases(show u=Value.ref b from ry);obtain⟨z,hd,xs,rel,dd⟩:=BV I.hok e;obtain⟨w',hw,rw'⟩:=tG.some_of (v:=v) (o:=(atKey xs k).map (·.2)) (by rw[l];exact rel.val k);obtain⟨p,hp,hp2⟩:=SI.mp hw;refine wpAny_getItem_heap (UL hu) (tP I.hok eb) dd hp ?_;rw[hp2];exact h w' _ (I.tok _) rw'
theorem P8(hu:A.units+1<cLine)(I:#[10])(g:za H a y o)(ry:RelV y u)(h:∀s',Inv X pins σ H s'->Q (.bool o.isSome) s') :
  wpAny #[12] A (compareOp .In u (.ref a)) Q E s:=by
 rcases g with⟨kvs,k,e,ey,l⟩|⟨kvs,k,b,e,ey,eb,l⟩
 ·subst ey;obtain⟨z,hd,vs,rel,dd⟩:=BU I.hok e;refine wpAny_in_of (tO ry) hd dd.mapOf ?_;rw[<- (rel.val k).jn,<- l];exact h _ (I.tok _)
 ·subst ey;cases(show u=Value.ref b from ry);obtain⟨z,hd,xs,rel,dd⟩:=BV I.hok e;refine wpAny_in_heap (UL hu) (tP I.hok eb) hd dd ?_;have q:=(rel.val k).jn;rw[Vi]at q;rw[<- q,<- l];exact h _ (I.tok _)
theorem HU(hu:A.units+1<cLine)(I:#[10])(g:za H a y o)(ry:RelV y u)(h:∀s',Inv X pins σ H s'->Q (.bool (!o.isSome)) s') :
  wpAny #[12] A (compareOp .NotIn u (.ref a)) Q E s:=by
 rcases g with⟨kvs,k,e,ey,l⟩|⟨kvs,k,b,e,ey,eb,l⟩
 ·subst ey;obtain⟨z,hd,vs,rel,dd⟩:=BU I.hok e;refine wpAny_notIn_of (tO ry) hd dd.mapOf ?_;rw[<- (rel.val k).jn,<- l];exact h _ (I.tok _)
 ·subst ey;cases(show u=Value.ref b from ry);obtain⟨z,hd,xs,rel,dd⟩:=BV I.hok e;refine wpAny_notIn_heap (UL hu) (tP I.hok eb) hd dd ?_;have q:=(rel.val k).jn;rw[Vi]at q;rw[<- q,<- l];exact h _ (I.tok _)
theorem sW(I:#[10])(mu:MZ (H a))(hs:Heap.SameBut a s.heap h')(he:∃q,h'.get? a=some q)(new:bW X.prog X.w (upd H a ob) h' a ob) :
  Inv X pins σ (upd H a ob) {s with heap:=h',toks:=t'}:=
 I.write (x:=a) (e:=a) mu (.inl rfl) (λb q hb z=>(hs.2 b hb).trans z) he new
theorem AI(z:kvs.length<=sizeLine)(hd:(a==sysModules)=false)(rel:KV kvs vs)(dd:h'.DictOf (cf P w) a vs) :
  bW P w H' h' a (.dK kvs):=⟨z,hd,vs,rel,dd⟩
theorem Dp(hu:A.units+1<cLine)(I:#[10])(g:HR H a y v H')(ry:RelV y u)(rv:RelV v r)(h:∀s',Inv X pins σ H' s'->Q () s') :
  wpAny #[12] A (setItem (.ref a) u r) Q E s:=by
 rcases g with⟨kvs,k,e,ey,l,eH⟩|⟨kvs,k,b,e,ey,eb,l,eH⟩
 ·subst ey eH;obtain⟨z,hd,vs,rel,dd⟩:=J2 I.hok e;have hz:vs.length<=sizeLine:=by grind[rel.length]
  have hl:(putK kvs k v).length<=sizeLine:=by have:=iE kvs k v;omega
  refine wpAny_setItem_pairs (hsz:=hz) (tO ry) dd λh' dd' hs=>h _ ?_;have he:∃q,h'.get? a=some q:=by obtain⟨q,_,_,hq,_⟩:=dd';grind
  exact sW I (by rw[e];exact True.intro) hs he (AI hl hd (rel.put k rv) dd')
 ·subst ey eH;cases(show u=Value.ref b from ry);obtain⟨z,hd,xs,rel,dd⟩:=NI I.hok e;have hz:xs.length<=sizeLine:=by rw[<- Sr rel];exact z
  have hl:(putK kvs k v).length<=sizeLine:=by have:=iE kvs k v;omega
  refine wpAny_setItem_heap (hsz:=hz) (UL hu) (tP I.hok eb) dd λh' dd' hs=>h _ ?_;obtain⟨q,es,ep,hq,h2,h3,h4,_,h5⟩:=dd';refine sW I (by rw[e];exact True.intro) hs ⟨q,hq⟩ ⟨hl,hd,_,(rel.put k eb rv).keeps λc ys ec=>?_,q,es,ep,hq,h2,h3,h4,h5⟩;rw[au (Nf ec e (λz=>nomatch z))];exact ec
end
noncomputable def Lg(i:Expr):Prop:=∀ov iv,subscripted i false ov iv=operate [ov,iv] (getItem ov iv)
theorem HV{T id:String}
 (hl:typeLookup (.type T) "__getitem__" = pure (some (.builtin id)))(hs:Lg slice)
 (h:wpAny #[14] A (eval value env) (λo s₁=>wpAny #[14] A (eval slice env) (λi s₂=>s₂.TypeIs o T/\wpAny #[14] A (getItem o i) Q E s₂) E s₁) E s) :
  wpAny #[14] A (eval (.Subscript value slice pos) env) Q E s:=by
 refine Subscript_ (S3 h (λo s₁ h₁=>S3 h₁ (λi s₂ h₂=>?_) λ_ _ x=>x) λ_ _ x=>x);obtain⟨hT,h₂⟩:=h₂;refine R0 ?_;refine R0 (Uj hT hl ?_);have fin:wpAny #[14] A (subscripted slice false o i) (λr s₃=>wpAny #[14] A (letTemporaryGo value o r >>= λ_=>pure r) Q E s₃) E s₂:=by rw[hs o i];exact wpAny_operating (S3 h₂ (λr s₃ h₃=>R0 (wpAny_letTemporaryGo (R3 h₃))) λ_ _ x=>x)
 first
  |exact R3 (R0 fin)
  |rfl
  |rfl
theorem zb(h:Heap)(hb:sysModules<h.objs.size):bW P w H (h.push {cls:=.type "dict",data:=.dict #[]}) h.objs.size (.dK []):=
 ⟨Tf _,Uw.mpr (UD (Sg hb)),[],.nil,Heap.DictOf.new h⟩
noncomputable def Lh:TE:=λ_ H Q=>∀p,H p=none->Q (.ref p) (upd H p (.dK []))
section
variable {X:Cx} {pos:Pos}
theorem EW:PE X (.Dict [] [] pos) Lh:=λpins s σ H Q I h=>
 wpAny_Dict_empty ⟨.ref #[9],_,I.laid (a:=#[9]) (o:=.dK []) (t':=s.toks) (λ_ _ q=>R1 _ q) (R5 _) (zb s.heap I.big),rfl,h _ (I.hok.fresh (R5 _))⟩
end
noncomputable def AJ:List (TE×TE)->St->Hp->(List (V×V)->Hp->Prop)->Prop
 | [],_,H,Q=>Q [] H
 | (tk,tv)::r,σ,H,Q=>tk σ H λx H1=>tv σ H1 λy H2=>AJ r σ H2 λps H3=>Q ((x,y)::ps) H3
noncomputable abbrev VV:List (V×V)->List (Value×Value)->Prop:=Paired λp q=>RelV p.1 q.1/\RelV p.2 q.2
noncomputable def OX(X:Cx)(pos:Pos)(keys:List (Option Expr))(values:VB)(EX:List (TE×TE)):Prop:=
 ∀(pins:Vt) (s:VI) (σ:St) (H:Hp) (Q:List (V×V)->Hp->Prop),#[10]->AJ EX σ H Q ->
  wpAny #[12] X.A (evalPairs (pairTrees keys values X.env pos)) (λvs s'=>∃ps H',Inv X pins σ H' s'/\VV ps vs/\Q ps H') X.xe s
theorem HY:OX X pos [] [] []:=λpins s σ H Q I h=>pairTrees_nil_walk ⟨[],H,I,.nil,h⟩
theorem EY(hk:PE X k tk)(hv:PE X v tv)(hr:OX X pos ks vs EX) :
  OX X pos (some k::ks) (v::vs) ((tk,tv)::EX):=λpins s σ H Q I h=>
 pairTrees_cons_walk (bS (hk pins s σ H _ I h) λu s1 ⟨x,H1,I1,rx,q1⟩=>bS (hv pins s1 σ H1 _ I1 q1) (by rintro w2 s2 ⟨y,H2,I2,ry,q2⟩;exact bS (hr pins s2 σ H2 _ I2 q2) (by rintro ws s3 ⟨ps,H3,I3,rel,q3⟩;exact⟨(x,y)::ps,H3,I3,.cons ⟨rx,ry⟩ rel,q3⟩)))
noncomputable def tQ(kvs more:List (Key×V)):List (Key×V):=more.foldl (λacc kv=>putK acc kv.1 kv.2) kvs
theorem KV.merge:∀{more:List (Key×V)} {rs:List (Key×Value)} {kvs:List (Key×V)} {vs:List (Key×Value)},KV more rs->KV kvs vs->KV (tQ kvs more) (merged vs rs):=by
 intro more rs kvs vs r
 induction r generalizing kvs vs with
 |nil=>intro q;exact q
 | @cons p q ps qs h t ih=>
  intro r0
  have e:KV (putK kvs p.1 p.2) (stored vs q.1 q.2):=by
   have:=r0.put p.1 h.2
   grind
  exact ih e
theorem nj:∀(more kvs:List (Key×V)),(tQ kvs more).length<=kvs.length+more.length
 | [],kvs=>by show kvs.length<=kvs.length+0;omega
 |p::r,kvs=>by
  have h1:=nj r (putK kvs p.1 p.2);have h2:=iE kvs p.1 p.2;show(tQ _ r).length<=_
  grind
theorem tR:∀{kvs:List (Key×V)} {ws:List (Value×Value)},VV (kvs.map λkv=>(kV kv.1,kv.2)) ws->∃rs,Carries (cf P w) ws rs/\KV kvs rs
 | [],_,r=>by cases r;exact⟨[],True.intro,.nil⟩
 |p::kvs,_,r=>by
  cases r with
  | @cons a b as bs h t=>obtain⟨rs,c,q⟩:=tR t;obtain⟨b1,b2⟩:=b;exact⟨(p.1,b2)::rs,⟨tO h.1,rfl,c⟩,.cons ⟨rfl,h.2⟩ q⟩
noncomputable def NJ(EX:List (TE×TE)):TE:=λσ H Q=>∀p,H p=none->AJ EX σ (upd H p (.dK [])) λps H2=>H2 p=some (.dK [])/\∃kvs:List (Key×V),ps=kvs.map (λkv=>(kV kv.1,kv.2))/\kvs.length<=15/\Q (.ref p) (upd H2 p (.dK (tQ [] kvs)))
theorem HZ(h:OX X pos keys values EX)(hall:keys.all (·.isSome)=true)(hl:keys.length=values.length)(h0:keys≠[])
 (h15:keys.length<=15):PE X (.Dict keys values pos) (NJ EX):=by
 intro pins s σ H Q I q;have hn:=I.hok.fresh (R5 #[9]);have I1:=I.laid (a:=#[9]) (o:=.dK []) (h':=s.heap.push {cls:=.type "dict",data:=.dict #[]}) (t':=s.toks) (λ_ _ q=>R1 _ q) (R5 _) (zb s.heap I.big);refine wpAny_Dict_walk (knd:=cf X.prog X.w) hall hl h0 h15 (bS (h pins _ σ _ _ I1 (q _ hn)) λws s2 ⟨ps,H2,I2,rel,e,kvs,ep,lk,q2⟩=>?_);subst ep;obtain⟨rs,c,rk⟩:=tR (P:=X.prog) (w:=X.w) rel;obtain⟨z,hd,vs0,r0,dd⟩:=J2 I2.hok e;cases r0;refine⟨rs,c,dd,λh' dd' hs=>⟨.ref #[9],_,?_,rfl,q2⟩⟩
 have hz:(tQ [] kvs).length<=sizeLine:=by
  have h1:=nj kvs []
  grind[List.length_nil,sizeLine_eq]
 have he:∃q,h'.get? #[9]=some q:=by obtain⟨q,_,_,hq,_⟩:=dd';grind
 exact sW I2 (by rw[e];exact True.intro) hs he (AI hz hd (rk.merge .nil) dd')
theorem tT{K:Vz}{St:Nat->Heap->Prop}{f:Nat->V}(W:∀A:VH,A.handled=none->Walks P w A it [it] [it] n Pv St)
 (ob:∀i h,St i h->∃(o:Obj) (m:String) (vs:VE),h.get? it=some o/\o.cls=.type m/\o.data=.fields vs/\["enumerate", "zip", "dict_itemiterator", "dict_reverseitemiterator", "odict_iterator", "itertools.zip_longest", "itertools.pairwise"].contains m=false)
 (rel:∀i v,i<n->Pv i v->RelV (f i) v)(sf:∀(A:VH) (i:Nat) (s:VI) (Q:Vs) (E:Vs),St i s.heap->Q (.ref it) s->wpAny (model P w) A (pyIter (.ref it)) Q E s):Turn P w K tg ⟨λi _=>i<n,λi H x H'=>H'=H/\x=f i,λi _=>i=n⟩ [it] it St where
 mem:=by simp
 obj:=λi h st b hb=>by
  grind
 keep:=λi h h' st k=>(W {handled:=none,depth:=0,frames:=none,guards:=none,units:=0} rfl).frame i h h' st λb hb o e=>k b hb o e
 item:=by intro X hP hw hK hc i pins s σ H E I hf st hg;subst hP hw hK;obtain⟨f0,f1,f2,f3,f4,f5⟩:=hf it #[6];refine(W X.A (I.ok.hd hc)).item i s _ _ hg st λv h' tk hv st' kk=>?_;have I1:Inv X pins σ H {s with heap:=h',toks:=tk}:=I.turned (λb o hb e=>kk b o (by grind) e) f0 f1 f3 f4 f5;obtain⟨o,m,vs,e,c,d,nm⟩:=ob _ _ st';exact⟨v,rfl,BD (s:={s with heap:=h',toks:=tk}) e c d nm ⟨f i,H,I1,rel i v hg hv,⟨rfl,rfl⟩,st',λb hb=>(hf b hb).1⟩⟩
 done:=by intro X hP hw hK hc i pins s σ H E I hf st hg;subst hP hw hK;obtain⟨f0,f1,f2,f3,f4,f5⟩:=hf it #[6];have hg':i=n:=hg;subst hg';exact(W X.A (I.ok.hd hc)).done s _ _ st λh' tk kk=>⟨rfl,I.turned (λb o hb e=>kk b o (by simpa using hb) e) f0 f1 f3 f4 f5⟩
 self:=sf
noncomputable def sgn(x:Str)(i:Nat):V:=.str ⟨#[x.cps.getD i 0]⟩
noncomputable def P9(x:Str):It:=⟨λi _=>i<x.cps.size,λi H v H'=>H'=H/\v=sgn x i,λi _=>i=x.cps.size⟩
theorem xE(i:Nat)(v:Value)(hi:i<x.cps.size)(h:SignAt x i v):RelV (sgn x i) v:=by
 obtain⟨c,u,e,rfl⟩:=h;refine⟨u,?_⟩
 simp_all
section
variable {X:Cx} {tg:Expr}
noncomputable def Qa(tl:TE):TI:=λσ H R=>tl σ H λv H1=>∃x,v=.str x/\R (P9 x) H1
theorem Li(hl:PE X l tl):PI X tg l (Qa tl):=by
 intro pins s σ H R I h;refine bS (hl pins s σ H _ I h) λv s1 ⟨x,H1,I1,r1,q1⟩=>?_;obtain⟨x,e,q⟩:=q1;subst e;obtain⟨t,rfl⟩:=r1
 have fp:∀b∈[s1.heap.objs.size],kP X pins H1 b:=λb hb=>by
  have e:b=s1.heap.objs.size:=by grind
  subst e;exact I1.EA (R5 _) (I1.hok.fresh (R5 _))
 cases ha:x.cps.all (· < 128)with
 |false=>
  refine wpAny_pyIter_wide ha ?_
  refine⟨s1.heap.objs.size,[s1.heap.objs.size],_,P9 x,H1,rfl,I1.kept (t':=s1.toks) λb o e=>R1 _ e,
   tT (λA hA=>Walks.strWide hA _ x t) (by rintro i h ⟨o,e,c,d⟩;exact⟨o,_,_,e,c,d,by decide⟩) xE λA i s Q E st h=>wpAny_pyIter_striter_wide st h,⟨_,R8 _ rfl,rfl,rfl⟩,fp,q⟩
 |true=>
  refine wpAny_pyIter_ascii ha ?_
  refine⟨s1.heap.objs.size,[s1.heap.objs.size],_,P9 x,H1,rfl,I1.kept (t':=s1.toks) λb o e=>R1 _ e,
   tT (λA hA=>Walks.strAscii hA _ x t) (by rintro i h ⟨o,e,c,d⟩;exact⟨o,_,_,e,c,d,by decide⟩) xE λA i s Q E st h=>wpAny_pyIter_striter_ascii st h,⟨_,R8 _ rfl,rfl,rfl⟩,fp,q⟩
end
section
variable {X:Cx}
theorem all_range(bs:List Bool):((List.range bs.length).all λi=>(bs[i]?).getD true)=bs.all id:=by
 rw[TZ];simp only[Sh,SM,id];constructor
 ·intro h b hb;obtain⟨i,hi,rfl⟩:=S9.mp hb
  simp_all
 ·intro h i hi;simp only[hi,R9,Uu];exact h _ (Uv hi)
theorem EZ(hc:X.calm=true):cX X (.builtin "all") (λxs H Q=>∃(l:Addr) (bs:List Bool),xs=[.ref l]/\gF X.K H l (bs.map V.bl)/\Q (.bl (bs.all id)) H):=by
 intro pins s σ H vs us Q I r h;obtain⟨l,bs,rfl,hq,q⟩:=h
 cases r with
 |cons r rr=>
  cases rr;cases r;obtain⟨its,rv,p,_⟩:=I.list hq;have pl:=p.isList;have hlt:l<#[9]:=by obtain⟨_,e,_⟩:=pl;exact R7 e
  refine call_all_walk (wpAny_pyIter_list pl ?_);refine⟨#[9],[#[9],l],[#[9]],its.toArray.size,_,_,λi=>(bs[i]?).getD true,rfl,Walks.list (A:=X.A.in1) (I.ok.hd hc) _ l (Sg hlt) its.toArray,⟨⟨_,R8 _ rfl,rfl,rfl⟩,pl.push _⟩,λi v s' Q' E' hP hQ=>?_,λh' tk hk=>?_⟩
  ·have hP':its[i]?=some v:=by simpa using hP
   have hi:i<(bs.map V.bl).length:=by rw[rv.length];exact(R6.mp hP').1
   obtain⟨u,hu,ru⟩:=rv.get (i:=i) (x:=(bs.map V.bl)[i]) (by simp[hi]);rw[hP']at hu;cases hu;rw[Ss]at hi;simp only[List.getElem_map]at ru;obtain rfl:v=Value.bool bs[i]:=ru;have hQ':=hQ;simp only[hi,R9,Uu]at hQ';exact S0 hQ'
  ·have e:((List.range its.toArray.size).all λi=>(bs[i]?).getD true)=bs.all id:=by
    rw[Si,<- rv.length,Ss];exact all_range bs
   rw[e];exact⟨.bl _,H,I.kept λb o e=>hk b o (λhm=>by rw[SF.mp hm]at e;exact Sj _ (R7 e)) (R1 _ e),rfl,q⟩
theorem Dq:iC X (compareOp .LtE) (λx y H Q=>∃i j,x=.str i/\y=.str j/\Q (.bl (!decide (j.cps.toList<i.cps.toList))) H):=by intro pins s σ H x y v u Q I rx ry h;obtain⟨i,j,rfl,rfl,q⟩:=h;obtain⟨t,rfl⟩:=rx;obtain⟨t',rfl⟩:=ry;exact P.le_str ⟨.bl _,H,I,rfl,q⟩
end
noncomputable def ib:V->Option PyData
 |.non=>some .none
 |.bl b=>some (.bool b)
 |.int i=>some (.int i)
 |.str x=>some (.str x)
 |_=>none
noncomputable def Ds:Key->PyData
 |.inl i=>.int i
 |.inr x=>.str x
noncomputable def bG:List (Key×V)->Option Vu
 | []=>some []
 | (k,v)::r=>match ib v,bG r with
  |some d,some ds=>some ((Ds k,d)::ds)
  |_,_=>none
mutual
def Rep(H:Hp):PyData->V->Prop
 |.none,v=>v=.non
 |.bool b,v=>v=.bl b
 |.int i,v=>v=.int i
 |.str x,v=>v=.str x
 |.tuple ds,v=>∃a vs,v=.ref a/\H a=some (.tup vs)/\bg H ds vs
 |.list ds,v=>∃a vs,v=.ref a/\H a=some (.lst vs)/\bg H ds vs
 |.dict kvs,v=>∃a ks,v=.ref a/\H a=some (.dK ks)/\bG ks=some kvs
def bg(H:Hp):Vw->List V->Prop
 | [],vs=>vs=[]
 |d::ds,vs=>∃w ws,vs=w::ws/\Rep H d w/\bg H ds ws
end
mutual
theorem Rep.same(s:aW H H'):∀{d:PyData} {v:V},Rep H d v->Rep H' d v
 |.none,_,h=>h
 |.bool _,_,h=>h
 |.int _,_,h=>h
 |.str _,_,h=>h
 |.tuple ds,_,⟨a,vs,e,h,r⟩=>⟨a,vs,e,s _ _ h,bg.same s r⟩
 |.list ds,_,⟨a,vs,e,h,r⟩=>⟨a,vs,e,s _ _ h,bg.same s r⟩
 |.dict _,_,⟨a,ks,e,h,r⟩=>⟨a,ks,e,s _ _ h,r⟩
theorem bg.same{H H':Hp}(s:aW H H'):∀{ds:Vw} {vs:List V},bg H ds vs->bg H' ds vs
 | [],_,h=>h
 |_::_,_,⟨w,ws,e,h,r⟩=>⟨w,ws,e,Rep.same s h,bg.same s r⟩
end
theorem bg.length:∀{ds:Vw} {vs:List V},bg H ds vs->vs.length=ds.length
 | [],_,h=>by cases h;rfl
 |_::ds,_,⟨w,ws,e,_,r⟩=>by rw[e,SG,SG,bg.length r]
theorem bg.get:∀{ds:Vw} {vs:List V} {i:Nat} {v:V},bg H ds vs->vs[i]?=some v->∃d,ds[i]?=some d/\Rep H d v
 | [],_,i,v,h,e=>by cases h;simp at e
 |d::ds,_,0,v,⟨w,ws,e0,h,r⟩,e=>by grind
 |d::ds,_,i+1,v,⟨w,ws,e0,h,r⟩,e=>by
  subst e0;obtain⟨u,e1,e2⟩:=bg.get r (by trivial)
  simp_all
theorem bg.get':∀{ds:Vw} {vs:List V} {i:Nat} {d:PyData},bg H ds vs->ds[i]?=some d->∃v,vs[i]?=some v/\Rep H d v
 | [],_,i,v,h,e=>by simp at e
 |d::ds,_,0,v,⟨w,ws,e0,h,r⟩,e=>by grind
 |d::ds,_,i+1,v,⟨w,ws,e0,h,r⟩,e=>by
  obtain⟨u,e1,e2⟩:=bg.get' r (by trivial)
  simp_all
theorem bg.append:∀{ds es:Vw} {vs us:List V},bg H ds vs->bg H es us->bg H (ds++es) (vs++us)
 | [],_,_,_,h,r=>by cases h;exact r
 |d::ds,_,_,_,⟨w,ws,e,h,q⟩,r=>by subst e;exact⟨w,_,rfl,h,bg.append q r⟩
theorem bg.nil:bg H [] []:=rfl
theorem bg.cons{v:V}{vs:List V}(h:Rep H d v)(r:bg H ds vs):bg H (d::ds) (v::vs):=⟨v,vs,rfl,h,r⟩
theorem bg.one(h:Rep H d v):bg H [d] [v]:=.cons h .nil
theorem bg.take:∀{ds:Vw} {vs:List V} (n:Nat),bg H ds vs->bg H (ds.take n) (vs.take n)
 | [],_,n,h=>by grind[bg]
 |d::ds,_,0,_=>by rfl
 |d::ds,_,n+1,⟨w,ws,e,h,r⟩=>by subst e;exact .cons h (bg.take n r)
theorem bg.drop:∀{ds:Vw} {vs:List V} (n:Nat),bg H ds vs->bg H (ds.drop n) (vs.drop n)
 | [],_,n,h=>by grind[bg]
 |d::ds,_,0,h=>h
 |d::ds,_,n+1,⟨w,ws,e,h,r⟩=>by subst e;exact bg.drop n r
theorem AK(e:ib v=some d)(r:RelV v u):Reads h u d []:=by
 cases v with
 |non=>cases e;cases r;exact .none
 |bl b=>cases e;cases r;exact .bool b
 |int i=>cases e;obtain⟨t,rfl⟩:=r;exact .int i t
 |str x=>cases e;obtain⟨t,rfl⟩:=r;exact .str x t
 |_=>cases e
theorem Dt(e:tF k u=true):Reads h u (Ds k) []:=by
 rcases ck e with⟨i,t,rfl,rfl⟩|⟨x,t,rfl,rfl⟩
 ·exact .int i t
 ·exact .str x t
theorem kR:∀{ks:List (Key×V)} {vs:List (Key×Value)} {es:List DictEntry} {kvs:Vu},bG ks=some kvs->KV ks vs->Pairs (cf P w) es vs ->
  ReadsAll h (es.map (·.key)) (kvs.map (·.1)) []/\ReadsAll h (es.map (·.val)) (kvs.map (·.2)) []
 | [],_,es,kvs,e,r,p=>by
  cases e;cases r
  cases es with
  |nil=>exact⟨.nil,.nil⟩
  |cons _ _=>trivial
 | (k,v)::ks,_,es,kvs,e,r,p=>by
  cases r with
  |cons r1 r2=>
   rename_i q vs';obtain⟨k',u⟩:=q;obtain⟨e1,e2⟩:=r1;simp only at e1 e2;subst e1
   cases p with
   |cons hk hv hr=>
    unfold bG at e
    cases e1:ib v with
    |none=>simp_all
    |some d=>
     cases e3:bG ks with
     |none=>simp_all
     |some ds=>rw[e1,e3]at e;cases e;obtain⟨z1,z2⟩:=kR e3 r2 hr;exact⟨.cons (as:=[]) (bs:=[]) (Dt hk) z1,.cons (as:=[]) (bs:=[]) (by show Reads h (DictEntry.val _) d [];rw[hv];exact AK e1 e2) z2⟩
section
variable {X:Cx} {pins:Vt} {σ:St} {H:Hp} {s:VI}
mutual
theorem Rep.reads(I:#[10]):∀{d:PyData} {v:V} {u:Value},Rep H d v->RelV v u->∃as,Reads s.heap u d as
 |.none,_,u,h,r=>by cases h;cases r;exact⟨_,.none⟩
 |.bool b,_,u,h,r=>by cases h;cases r;exact⟨_,.bool b⟩
 |.int i,_,u,h,r=>by cases h;obtain⟨t,rfl⟩:=r;exact⟨_,.int i t⟩
 |.str x,_,u,h,r=>by cases h;obtain⟨t,rfl⟩:=r;exact⟨_,.str x t⟩
 |.tuple ds,_,u,⟨a,vs,e,h,q⟩,r=>by subst e;cases r;obtain⟨_,its,rv,o,ho,hc,n,hd⟩:=I.hok a _ h;obtain⟨as,z⟩:=bg.reads I q rv;exact⟨_,.tuple ho hc hd (by simpa using z)⟩
 |.list ds,_,u,⟨a,vs,e,h,q⟩,r=>by subst e;cases r;obtain⟨_,its,n,rv,ho⟩:=I.hok a _ h;obtain⟨as,z⟩:=bg.reads I q rv;exact⟨_,.list ho rfl rfl (by simpa using z)⟩
 |.dict kvs,_,u,⟨a,ks,e,h,q⟩,r=>by subst e;cases r;obtain⟨_,_,vs,rk,o,es,ep,ho,hx,hd,_,hp,_⟩:=I.hok a _ h;obtain⟨z1,z2⟩:=kR (P:=X.prog) (w:=X.w) (h:=s.heap) q rk hp;exact⟨_,.dict ho hx.1 hd z1 z2⟩
theorem bg.reads(I:#[10]):∀{ds:Vw} {vs:List V} {us:Vy},bg H ds vs->Vals vs us->∃as,ReadsAll s.heap us ds as
 | [],_,us,h,r=>by cases h;cases r;exact⟨_,.nil⟩
 |d::ds,_,us,⟨w,ws,e,h,q⟩,r=>by
  subst e
  cases r with
  |cons r1 r2=>obtain⟨as,z⟩:=Rep.reads I h r1;obtain⟨bs,y⟩:=bg.reads I q r2;exact⟨_,.cons z y⟩
end
end
section
variable {X:Cx} {k:Nat}
noncomputable def Lj:List V->Hp->VK->Prop:=λxs H Q=>∃kvs v,xs=[v]/\Rep H (.dict kvs) v/\(PyData.dict kvs).showable=true/\(PyData.dict kvs).depth<=20/\(PyData.dict kvs).shown.length<=sizeLine/\Q (.str (PyData.dict kvs).shown) H
theorem AL(hr:bZ k X.A):cX X (.builtin "repr") Lj:=by
 intro pins s σ H vs us Q I r h;obtain⟨kvs,v,rfl,h1,hs,hd,hz,q⟩:=h;obtain⟨a,ks,rfl,ha,e⟩:=h1
 cases r with
 |cons r rr=>
  cases rr;cases r;obtain⟨_,ne,vs,rk,o,es,ep,ho,hx,hdd,_,hp,_⟩:=I.hok a _ ha;obtain⟨z1,z2⟩:=kR e rk hp;refine Vf (Reads.dict ho hx.1 hdd z1 z2) hs (λ_ hm=>?_) hr.gd (by have:=hr.units;omega) (λ_ _ e=>e) (λh' t tk hk=>⟨.str _,H,I.kept hk,⟨_,rfl⟩,q⟩) hz
  grind
noncomputable def NK:PyData->String
 |.none => "NoneType"
 |.bool _ => "bool"
 |.int _ => "int"
 |.str _ => "str"
 |.tuple _ => "tuple"
 |.list _ => "list"
 |.dict _ => "dict"
theorem Rep.ty{K:Vz}(h:Rep H d v):pe K H v (.type (NK d)):=by
 cases d with
 |none=>cases h;exact .non
 |bool b=>cases h;exact .bl b
 |int i=>cases h;exact .int i
 |str x=>cases h;exact .str x
 |tuple ds=>obtain⟨a,vs,rfl,e,_⟩:=h;exact .tup e
 |list ds=>obtain⟨a,vs,rfl,e,_⟩:=h;exact .lst e
 |dict ds=>obtain⟨a,ks,rfl,e,_⟩:=h;exact .dK e
theorem E2:cX X (.builtin "isinstance") (λxs H Q=>∃x n t b,xs=[x,.ty n]/\pe X.K H x t/\PySem.W.kitOne X.K t (.type n)=some b/\Q (.bl b) H):=by
 intro pins s σ H vs us Q I r h;obtain⟨x,n,t,b,rfl,ty,e,q⟩:=h
 cases r with
 |cons r rr=>
  cases rr with
  |cons r' rr=>cases rr;cases r';exact De I r ty e λtk=>⟨.bl b,H,I.tok _,rfl,q⟩
theorem kit_tuple(K:Vz)(d:PyData):PySem.W.kitOne K (.type (NK d)) (.type "tuple")=some (match d with|.tuple _=>true|_=>false):=by cases d<;>first|rfl|decide
theorem BW(K:Vz)(d:PyData):PySem.W.kitOne K (.type (NK d)) (.type "str")=some (match d with|.str _=>true|_=>false):=by cases d<;>first|rfl|decide
end
theorem aW.upd(s:aW H H')(hp:H' p=none):aW H (upd H' p o):=λb u e=>by rw[au (aB (s b u e) hp)];exact s b u e
theorem aW.new(hp:H p=none):aW H (L2.upd H p o):=(aW.refl H).upd hp
theorem iW:bootBuiltins "isinstance" = some (.builtin "isinstance"):=by rfl
theorem ic:bootBuiltins "len" = some (.builtin "len"):=by rfl
theorem iX:bootBuiltins "all" = some (.builtin "all"):=by rfl
theorem BX:bootBuiltins "repr" = some (.builtin "repr"):=by rfl
theorem qz:bootBuiltins "sorted" = some (.builtin "sorted"):=by rfl
theorem Du:bootBuiltins "divmod" = some (.builtin "divmod"):=by rfl
theorem Lk:bootBuiltins "abs" = some (.builtin "abs"):=by rfl
theorem Ll:bootBuiltins "min" = some (.builtin "min"):=by rfl
theorem Lm:bootBuiltins "max" = some (.builtin "max"):=by rfl
theorem E3:bootBuiltins "str" = some (.type "str"):=by rfl
theorem dF:bootBuiltins "tuple" = some (.type "tuple"):=by rfl
theorem sX:bootBuiltins "list" = some (.type "list"):=by rfl
section
variable {X:Cx} {e e2:Expr} {te te2:TE} {t:TA} {p p2 pos:Pos}
noncomputable def isTup:PyData->Bool|.tuple _=>true|_=>false
noncomputable def isStr:PyData->Bool|.str _=>true|_=>false
noncomputable def xF:PyData->Nat
 |.str x=>x.length
 |.tuple ds=>ds.length
 |.list ds=>ds.length
 |_=>0
end
noncomputable def jE(f:Expr->Option PyData):VB->Option Vw
 | []=>some []
 |e::es=>match f e,jE f es with
  |some d,some ds=>some (d::ds)
  |_,_=>none
noncomputable def NL:Const->Option PyData
 |.none=>some .none
 |.bool b=>some (.bool b)
 |.int i=>some (.int i)
 |.str x=>some (.str x)
 |_=>none
noncomputable def NM:Option PyData->Option PyData
 |some (.int i)=>some (.int (-i))
 |_=>none
noncomputable def Ln:Option PyData->Option PyData->Option PyData
 |some (.int a),some (.int b)=>if 0<=b/\b<=1000000/\a.natAbs<2^64 then some (.int (a^b.toNat))else none
 |_,_=>none
noncomputable def Lo:Option PyData->Option PyData->Option PyData
 |some (.str k),some (.int i)=>some (.dict [(.str k,.int i)])
 |_,_=>none
noncomputable def ie:Nat->Expr->Option PyData
 |0,_=>none
 |n+1,e=>match e with
  |.Constant c _ _=>NL c
  |.Tuple es _ _=>if es.length<=1000 then(jE (ie n) es).map .tuple else none
  |.List es _=>if es.length<=1000 then(jE (ie n) es).map .list else none
  |.UnaryOp o x _=>match o with
   |.USub=>NM (ie n x)
   |_=>none
  |.BinOp a o b _=>match o with
   |.Pow=>Ln (ie n a) (ie n b)
   |_=>none
  |.Dict ks vs _=>match ks with
   | []=>match vs with
    | []=>some (.dict [])
    |_=>none
   |k::ks=>match k with
    |some k=>match vs with
     |v::vs=>if ks.isEmpty&&vs.isEmpty then Lo (ie n k) (ie n v)else none
     |_=>none
    |_=>none
  |_=>none
noncomputable abbrev BY(n:Nat)(es:VB):Option Vw:=jE (ie n) es
noncomputable def gU(H H' N:Hp):Prop:=∀c o,N c=some o->H c=none/\H' c=some o
noncomputable def E4(d:PyData):TE:=λ_ H Q=>∀r H' N,aW H H'->gU H H' N->Rep N d r->Q r H'
noncomputable def NO(ds:Vw):TA:=λ_ H Q=>∀rs H' N,aW H H'->gU H H' N->bg N ds rs->Q rs H'
noncomputable def zc:Hp:=λ_=>none
theorem gU.no:gU H H' zc:=λ_ _ e=>by cases e
theorem gU.same(n:gU H H' N):aW N H':=λc o e=>(n c o e).2
noncomputable def nX(N M:Hp):Hp:=λc=>match N c with|some o=>some o|none=>M c
theorem Lp:aW N (nX N M):=λc o e=>by simp[nX,e]
theorem Lq(n:gU H H1 N)(m:gU H1 H2 M):aW M (nX N M):=λc o e=>by
 have h1:=(m c o e).1
 cases q:N c with
 |none=>simp[nX,q,e]
 |some u=>rw[(n c u q).2]at h1;cases h1
theorem gU.plus(s1:aW H H1)(s2:aW H1 H2)(n:gU H H1 N)(m:gU H1 H2 M):gU H H2 (nX N M):=λc o e=>by
 cases q:N c with
 |some u=>simp[nX,q]at e;cases e;exact⟨(n c _ q).1,s2 _ _ (n c _ q).2⟩
 |none=>simp[nX,q]at e;exact⟨s1.free (m c o e).1,(m c o e).2⟩
theorem gU.put(s1:aW H H1)(n:gU H H1 N)(hp:H1 p=none):gU H (upd H1 p o) (upd N p o)/\aW N (upd N p o):=by
 have np:∀c u,N c=some u->c≠p:=λc u e z=>by subst z;rw[(n c u e).2]at hp;cases hp
 refine⟨λc u e=>?_,λc u e=>by rw[au (np c u e)];exact e⟩;by_cases hc:c=p
 ·subst hc;rw[aG]at e;cases e;exact⟨s1.free hp,aG⟩
 ·rw[au hc]at e;exact⟨(n c u e).1,by rw[au hc];exact(n c u e).2⟩
theorem jF:∀{es:VB} {n:Nat} {ds:Vw},BY n es=some ds->ds.length=es.length
 | [],n,ds,h=>by simp_all[jE]
 |e::es,n,ds,h=>by
  unfold BY jE at h;split at h
  ·rename_i d ds' h1 h2;cases h;rw[SG,SG,jF h2]
  grind
section
variable {X:Cx}
theorem xG(ih:∀(e:Expr) (d:PyData),ie n e=some d->PE X e (E4 d)/\∀es:VB,#[2]):∀(es:VB) (ds:Vw),BY n es=some ds->PA X es (NO ds)
 | [],ds,h=>by cases h;intro pos pins s σ H Q I q;exact dW pos pins s σ H Q I (q [] H zc (aW.refl H) .no rfl)
 |e::es,ds,h=>by
  unfold BY jE at h;split at h
  ·rename_i d ds' h1 h2;cases h;obtain⟨a,b⟩:=ih e d h1;intro pos pins s σ H Q I q;refine aZ a (xG ih es ds' h2) (b es) pos pins s σ H Q I λr H1 N1 s1 n1 hr rs H2 N2 s2 n2 hrs=>q _ H2 _ (s1.trans s2) (n1.plus s1 s2 n2) (.cons (hr.same Lp) (hrs.same (Lq n1 n2)))
  grind
theorem BZ{n:Nat}{es:VB}{f:Vw->PyData}{d:PyData}(h:(if es.length<=1000 then(jE (ie n) es).map f else none)=some d):es.length<=1000/\∃ds,jE (ie n) es=some ds/\f ds=d:=by
 by_cases hl:es.length<=1000
 ·rw[if_pos hl]at h;exact⟨hl,SI.mp h⟩
 ·rw[if_neg hl]at h;cases h
theorem Ia:∀{x y:Option PyData},Ln x y=some d->∃i j:Int,x=some (.int i)/\y=some (.int j)/\(0<=j/\j<=1000000/\i.natAbs<2^64)/\.int (i^j.toNat)=d:=by
 intro x y h
 cases x with
 |none=>cases h
 |some x=>cases x with
  |int i=>cases y with
   |none=>cases h
   |some y=>cases y with
    |int j=>
     have h:(if 0<=j/\j<=1000000/\i.natAbs<2^64 then some (PyData.int (i^j.toNat))else none)=some d:=h;by_cases hl:0<=j/\j<=1000000/\i.natAbs<2^64
     ·rw[if_pos hl]at h;exact⟨i,j,rfl,rfl,hl,S8 h⟩
     ·rw[if_neg hl]at h;cases h
    |_=>cases h
  |_=>cases h
theorem Ib{ks:List (Option Expr)}{vs:VB}{x y:Option PyData}(h:(if ks.isEmpty&&vs.isEmpty then Lo x y else none)=some d):∃k i,x=some (.str k)/\y=some (.int i)/\ks=[]/\vs=[]/\.dict [(.str k,.int i)]=d:=by
 cases ks with
 |cons=>cases h
 |nil=>cases vs with
  |cons=>cases h
  |nil=>cases x with
   |none=>cases h
   |some x=>cases x with
    |str k=>cases y with
     |none=>cases h
     |some y=>cases y with
      |int i=>exact⟨k,i,rfl,rfl,rfl,rfl,S8 h⟩
      |_=>cases h
    |_=>cases h
theorem AM:∀(n:Nat) (e:Expr) (d:PyData),ie n e=some d->PE X e (E4 d)/\∀es:VB,#[2]:=by
 intro n
 induction n with
 |zero=>intro e d h;cases h
 |succ n ih=>
  intro e d h
  cases e with
  |Constant c p q=>
   have h:NL c=some d:=h;refine⟨λpins s σ H Q I q=>?_,λ_=>rfl⟩
   cases c with
   |none=>cases h;exact Er pins s σ H Q I (q _ H zc (aW.refl H) .no rfl)
   |bool b=>cases h;exact yT pins s σ H Q I (q _ H zc (aW.refl H) .no rfl)
   |int i=>cases h;exact tH pins s σ H Q I (q _ H zc (aW.refl H) .no rfl)
   |str x=>cases h;exact tI pins s σ H Q I (q _ H zc (aW.refl H) .no rfl)
   |_=>cases h
  |Tuple es k p=>have h:(if es.length<=1000 then(jE (ie n) es).map .tuple else none)=some d:=h;obtain⟨hl,ds,h1,rfl⟩:=BZ h;refine⟨λpins s σ H Q I q=>xt (xG ih es ds h1) pins s σ H Q I λrs H1 N1 s1 n1 hrs=>⟨?_,λp hp=>q _ _ _ (s1.upd hp) (n1.put s1 hp).1 ⟨p,rs,rfl,aG,hrs.same (n1.put s1 hp).2⟩⟩,λ_=>rfl⟩;rw[hrs.length,jF h1];exact Sd hl #[4]
  |List es p=>have h:(if es.length<=1000 then(jE (ie n) es).map .list else none)=some d:=h;obtain⟨hl,ds,h1,rfl⟩:=BZ h;refine⟨λpins s σ H Q I q=>jC (xG ih es ds h1) pins s σ H Q I λrs H1 N1 s1 n1 hrs=>⟨?_,λp hp=>q _ _ _ (s1.upd hp) (n1.put s1 hp).1 ⟨p,rs,rfl,aG,hrs.same (n1.put s1 hp).2⟩⟩,λ_=>rfl⟩;rw[hrs.length,jF h1];exact Sd hl #[4]
  |UnaryOp o x p=>
   cases o with
   |USub=>
    have h:NM (ie n x)=some d:=h;refine⟨λpins s σ H Q I q=>?_,λ_=>rfl⟩
    cases hx:ie n x with
    |none=>rw[hx]at h;cases h
    |some y=>
     rw[hx]at h
     cases y with
     |int i=>cases h;exact JW ED (ih x _ hx).1 pins s σ H Q I λr H' N s1 n1 hr=>⟨i,hr,q _ H' N s1 n1 rfl⟩
     |_=>cases h
   |_=>cases h
  |BinOp a o b p=>
   cases o with
   |Pow=>have h:Ln (ie n a) (ie n b)=some d:=h;refine⟨λpins s σ H Q I q=>?_,λ_=>rfl⟩;obtain⟨i,j,hi,hj,hl,rfl⟩:=Ia h;exact wg K0 (ih a _ hi).1 (ih b _ hj).1 pins s σ H Q I λr H1 N1 s1 n1 hr r2 H2 N2 s2 n2 hr2=>⟨i,j,hr,hr2,hl,q _ H2 _ (s1.trans s2) (n1.plus s1 s2 n2) rfl⟩
   |_=>cases h
  |Dict ks vs p=>
   refine⟨λpins s σ H Q I q=>?_,λ_=>rfl⟩
   cases ks with
   |nil=>cases vs with
    |nil=>cases h;exact EW pins s σ H Q I λp hp=>q _ _ (upd zc p (.dK [])) (aW.new hp) (gU.put (aW.refl H) .no hp).1 ⟨p,[],rfl,aG,rfl⟩
    |cons=>cases h
   |cons k ks=>cases k with
    |none=>cases h
    |some k=>cases vs with
     |nil=>cases h
     |cons v vs=>
      obtain⟨k1,i,hk,hi,rfl,rfl,rfl⟩:=Ib (show(if ks.isEmpty&&vs.isEmpty then Lo (ie n k) (ie n v)else none)=some d from h)
      exact HZ (EY (ih k _ hk).1 (ih v _ hi).1 HY) rfl rfl #[6] (by show 1<=15;decide) pins s σ H Q I λp hp r H1 N1 s1 n1 hr r2 H2 N2 s2 n2 hr2=>by
       cases hr;cases hr2;refine⟨s2 _ _ (s1 _ _ aG),[(Sum.inr k1,V.int i)],rfl,by show 1<=15;decide,q _ _ (upd zc p (.dK [(Sum.inr k1,V.int i)])) (λb o e=>?_) (λc o e=>?_) ⟨p,_,rfl,aG,rfl⟩⟩
       ·have hb:=aB e hp;rw[au hb];exact s2 _ _ (s1 _ _ ((au hb).trans e))
       ·by_cases hc:c=p
        ·subst hc;rw[aG]at e;cases e;exact⟨hp,aG⟩
        ·rw[au hc]at e;cases e
  |_=>cases h
@[irreducible] noncomputable def Lit(n:Nat)(e:Expr)(d:PyData):Prop:=ie n e=some d
theorem Lit.of(h:ie n e=some d):Lit n e d:=by grind[Lit]
theorem Lit.eq(h:Lit n e d):ie n e=some d:=by simp_all[Lit]
theorem E5(n:Nat){e:Expr}{d:PyData}(h:Lit n e d):PE X e (E4 d):=(AM n e d h.eq).1
end
section
variable {X:Cx} {k:Nat}
noncomputable def cutD(ds:Vw)(lo hi:Option Int):Vw:=(ds.drop (HT.fx ds.length 0 lo)).take (HT.fx ds.length ds.length hi-HT.fx ds.length 0 lo)
theorem vP{lo hi:Option Int}(ht:IsTup s.heap t items)(hs:s.heap.IsSliceOf sl vl vu .none)(pl:IsPart vl lo)(pu:IsPart vu hi)
 (h0:HT.fx items.size 0 lo=0)(h1:HT.fx items.size items.size hi=items.size)(q:Q (.ref t) s):wpAny (model P w) A (getItem (.ref t) (.ref sl)) Q E s:=by
 obtain⟨os,hos,hcs,hds⟩:=id hs;have hTs:s.TypeIs (.ref sl) "slice" := ⟨os,hos,hcs⟩;unfold getItem
 try with_reducible refine SH ?_
 first|refine R0 (R3 ?_)|skip
 refine R0 (US ht.typeIs #[4] ?_);refine R0 (Sz (name:=Str.ofString "__getitem__") ht.typeIs So (SK So ht.typeIs entry_tuple_getitem ?_ (args_tuple_getitem _ _)));show wpAny _ _ (Builtin.Tuple.tupleItemsOf (.ref t) >>= _) _ _ s;refine R0 (tupleItemsOf_ ht (R0 (wpAny_typeOf hTs ?_)));rw[if_pos #[4]];refine R0 (HT.jl hs pl pu ?_);rw[h0,h1];show wpAny _ _ (if((((0:Nat):Int)==0&&(1:Int)==1&&(items.size-0)==items.size)=true)then _ else _) _ _ s;rw[if_pos #[6]];unfold Builtin.Tuple.tupleIsExact;refine R0 (R0 (wpAny_typeOf ht.typeIs (R3 ?_)))
 first
  |exact R0 (TH (R0 (R3 (R3 ⟨_,rfl,R3 q⟩))))
  |exact R0 (TH (R3 ⟨_,rfl,R3 q⟩))
  | (rw[if_pos #[4]];exact R0 (TH (R0 (R3 (R3 ⟨_,rfl,R3 q⟩)))))
  | (rw[if_pos #[4]];exact R0 (TH (R3 ⟨_,rfl,R3 q⟩)))
end
theorem bW.obj(x:bW P w H h a o):∃ob,h.get? a=some ob:=by
 cases o with
 |lst xs=>obtain⟨_,_,_,_,e⟩:=x;grind
 |tup xs=>obtain⟨_,_,_,ob,e,_⟩:=x;grind
 |dK kvs=>obtain⟨_,_,_,_,ob,_,_,e,_⟩:=x;grind
 |dT kvs=>obtain⟨_,_,_,_,ob,_,_,e,_⟩:=x;grind
 |set S n=>obtain⟨ob,_,_,_,e,_⟩:=x;grind
 |ins C dx fs=>obtain⟨_,_,_,e,_⟩:=x;grind
 |own y=>exact x
 |xd fs=>obtain⟨_,⟨ob,_,_,e,_⟩,_⟩:=x;grind
 |rng lo hi=>obtain⟨_,_,_,e⟩:=x;grind
 |frz ob u=>exact⟨_,x.1⟩
 |tbl ps=>exact⟨_,x⟩
 |met f y=>exact⟨_,x⟩
 |ext φ=>exact x.2.1
noncomputable def iF(P:VG)(w:World):HA:=λouter H s E e s'=>
 ∃(a:Addr) (cls:Value) (t:Addr) (B:Heap) (H':Hp),e=.ref a/\s'.os=s.os/\AllBare s'.gens/\Un (kK outer) [] H H' s.heap s'.heap/\ky P w H' s'.heap/\Heap.FlyingW B outer a cls (.ref t) s'.heap /\
  (∀b o,s.heap.get? b=some o->b∉kK outer->∃o',s'.heap.get? b=some o'/\B.get? b=some o')/\(∀b u,H' b=some u->∃o',s'.heap.get? b=some o'/\B.get? b=some o')/\E cls none H'
section
variable {P:VG} {w:World} {K:Vz} {mg:Vv} {base:Heap} {N:VA} {qual:Str} {scope:Scope} {f:Addr} {cd:Value} {A:VH} {outer:List Env} {s:VI} {H:Hp} {E:XK}
theorem aO:Passes (iF P w) #[15] E:=by
 rintro pins σ H1 s1 e s' I ⟨a,cls,t,B,H',e1,os,bare,un,hok,fl,old,wc,q⟩;subst e1;have J:=I.yS os un hok bare (λb z=>nomatch z);have hfr:(A.deeper (envOfC qual scope #[9] f cd)).frames=some (envOfC qual scope #[9] f cd::outer):=I.ok.frames;have noA:∀b:Addr,b∉#[15].ex:=λb z=>nomatch z
 have inB:∀b o,s.heap.get? b=some o->b∉kK outer->∃o',s'.heap.get? b=some o'/\B.get? b=some o':=λb o e hb=>by
  obtain⟨o1,e1⟩:=I.base.there b o e (noA b);refine old b o1 e1 λz=>?_;rcases Sf.mp (I.iV b z)with z|z
  ·have z2:b=#[9]:=z;exact absurd (R7 e) (by rw[z2];exact Sj _)
  ·exact hb z
 refine wpAny_leaves_onW hfr rfl fl λh' fl' up=>?_;refine⟨a,cls,t,B,H',rfl,os.trans I.os,bare,⟨λb o e n hb _=>?_,λb o e n hb _=>?_,λb o e n _=>J.base.free b o e n (noA b),λb o e _=>?_,J.base.tups,J.base.frzs,J.base.tbls⟩,λb u e=>?_,fl',λb o e hb=>?_,λb u e=>?_,q⟩
 ·have e2:=J.base.keep b o e n hb (noA b);obtain⟨o',e3,e4⟩:=inB b o e hb;rw[e2]at e3;cases e3;exact fl'.1 b o e4
 ·obtain⟨sl,e2⟩:=J.base.slot b o e n hb (noA b);obtain⟨_,o',e3,nf⟩:=J.jB.mem hb;rw[e2]at e3;cases e3;obtain⟨sl',e4⟩:=up b _ e2 nf;exact⟨sl',e4⟩
 ·by_cases hb:b∈kK outer
  ·obtain⟨o2,e2⟩:=J.base.there b o e (noA b);obtain⟨_,o',e3,nf⟩:=J.jB.mem hb;obtain⟨sl',e4⟩:=up b _ e3 nf;exact⟨_,e4⟩
  ·obtain⟨o',e3,e4⟩:=inB b o e hb;exact⟨o',fl'.1 b o' e4⟩
 ·refine(hok b u e).nQ (λc v hc z=>?_) (λ_ z=>z) λ_ _ z=>z
  have:∃u',H' c=some u':=by
   rcases hc with hc|hc
   ·exact⟨u,hc▸e⟩
   ·exact⟨_,hc⟩
  obtain⟨u',hu⟩:=this;obtain⟨o',e3,e4⟩:=wc c u' hu;rw[z]at e3;cases e3;exact fl'.1 c v e4
 ·obtain⟨o',e3,e4⟩:=inB b o e hb;exact⟨o',fl'.1 b o' e4,e4⟩
 ·obtain⟨o',e3,e4⟩:=wc b u e;exact⟨o',fl'.1 b o' e4,e4⟩
structure E6(K:Vz)(mg:Vv)(x:Str)(C:Addr)(bmB:Vy)(newId:String):Prop where
 ns:PySem.W.nsIn K mainGlobals x=some (some (.ref C))
 ex:PySem.W.excIn K C bmB newId=true
theorem E6.own{σ:St}(c:E6 X.K X.mg x C bmB newId)(I:#[10]):OwnCls x C bmB newId X.mg X.base:=by
 refine⟨Sm I.mod.kin I.mod.glob c.ns,?_⟩;have q:=c.ex;have X0:=I.mod.kin;unfold PySem.W.excIn at q;split at q
 ·rename_i dd cd sl ho;split at q
  ·rename_i C' bm k0 k1 k2 k3 n k5 hm hs;simp only[R4,beq_iff_eq,T5]at q;obtain⟨⟨⟨⟨⟨rfl,rfl⟩,hdel⟩,ht⟩,hok⟩,hni⟩:=q;obtain⟨nm,bs,mro,ns,qn,hd,sn,sub,ab,col,del⟩:=cd;dsimp only at hm hdel hok hni;subst hm hdel;have hsl:sl=#[k0,k1,k2,k3,some (.builtin n),k5]:=by obtain⟨l⟩:=sl;simp only at hs;rw[hs]
   subst hsl;exact⟨bm,ns,nm,qn,bs,hd,sn,sub,ab,col,dd,k0,k1,k2,k3,k5,_,X0 _ _ ho,.of_isNs (PySem.W.isNs_of_in X0 hok),PySem.W.nsMap_none_of_in X0 hok hni,PySem.W.tail_of_in X0 ht⟩
  ·cases q
 ·cases q
noncomputable def Lr(E:XK)(C:Addr)(t:TA):TS:=λ_ σ H=>t σ H λvs H1=>vs.length<=sizeLine/\E (.ref C) none H1
theorem E7{np cpos pos:Pos}(c:E6 K mg x C bmB newId)(FB:ExcBaseFacts B newId initId bmB)(hd:A.handled=none)
 (hg:Gl #[15] x)(ha:PA #[15] (e::es) t)
 (he:starEach (e::es) (envOfC qual scope #[9] f cd)=(false,eval e (envOfC qual scope #[9] f cd))::starEach es (envOfC qual scope #[9] f cd):=by rfl)
 (hplain:(backTo cpos (starEach es (envOfC qual scope #[9] f cd))).any (·.1)=false:=by rfl)(hdb:(x==("__debug__" : Str))=false:=by decide) :
  PS #[15] (.Raise (some (.Call (.Name x np) (e::es) [] cpos)) none pos) (Lr E C t):=by
 intro pins s1 σ H1 D I h;have O:=E6.own (X:=fk (iF P w) P w K mg base N qual scope f cd A outer s H E) c I;obtain⟨tl,Nn,nm,q,bs,hdct,sn,sub,ab,col,dd,k0,k1,k2,k3,k5,mN,hC,hN,hni,T⟩:=O.obj
 refine wpAny_Raise_call_subT (C:=C) (nm:=nm) (q:=q) (N:=Nn) (bs:=bs) (bm:=tl) (hdct:=hdct) (sn:=sn) (sub:=sub) (ab:=ab) (col:=col) (dd:=dd) (k0:=k0) (k1:=k1) (k2:=k2) (k3:=k3) (k5:=k5)
  FB (mN:=mN) (T.hasType FB.hasBase) hd (by show(backTo cpos (starEach (e::es) (envOfC qual scope #[9] f cd))).any (·.1)=false;rw[he];show(false || (backTo cpos (starEach es (envOfC qual scope #[9] f cd))).any (·.1))=false;rw[hplain];rfl) hni
  (mI I hg O.bound ⟨rfl,?_⟩ hdb)
 have h1:=ha cpos pins s1 σ H1 _ I h;show wpAny _ _ (evalArgs (.ref C) true (backTo cpos (starEach (e::es) (envOfC qual scope #[9] f cd))) []) _ _ _;have h1':wpAny (model P w) (A.deeper (envOfC qual scope #[9] f cd)) (spliced (backTo cpos (starEach (e::es) (envOfC qual scope #[9] f cd)))) _ _ s1:=h1;rw[he]at h1' ⊢;refine Calls.evalArgs_plain (S3 h1' (λvs s2 ⟨xs,H2,I2,r,hz,qE⟩=>?_) λ_ _ y=>y);have k2:∀b o,base.get? b=some o->s2.heap.get? b=some o:=I2.bk;refine⟨rfl,by rw[<- r.length];exact hz,k2 _ _ hC,hN.keeps k2,T.keeps k2,λh' a hm=>?_⟩;have hfr:(A.deeper (envOfC qual scope #[9] f cd)).frames=some (envOfC qual scope #[9] f cd::outer):=I.ok.frames;have noA:∀b:Addr,b∉#[15].ex:=λb z=>nomatch z;have ffs:s2.heap.FunFrames base (envOfC qual scope #[9] f cd::outer):=I2.stack;have hin:∀env∈(envOfC qual scope #[9] f cd::outer),∀b,env.frame=some b->b∈kK (envOfC qual scope #[9] f cd::outer):=λenv he b hb=>Vb.mpr ⟨env,he,hb⟩;show wpAny _ _ (leaving (envOfC qual scope #[9] f cd) (.ref a)) _ _ _;refine wpAny_leaves_madeW (base:=PySem.W.hideAll s2.heap (kK (envOfC qual scope #[9] f cd::outer))) hfr rfl (λb o z=>PySem.W.of_hideAll _ z) (PySem.W.funFrames_hide ffs hin) hm λh'' t fl tup nt up=>?_;have inB:∀b o,s2.heap.get? b=some o->b∉kK (envOfC qual scope #[9] f cd::outer)->(PySem.W.hideAll s2.heap (kK (envOfC qual scope #[9] f cd::outer))).get? b=some o:=λb o z hb=>PySem.W.hideAll_get _ z hb
 have notL:∀b o,s.heap.get? b=some o->b∉kK outer->b∉kK (envOfC qual scope #[9] f cd::outer):=λb o z hb m=>by
  rcases Sf.mp (I2.iV b m)with z'|z'
  ·have z2:b=#[9]:=z';exact absurd (R7 z) (by rw[z2];exact Sj _)
  ·exact hb z'
 have trkB:∀b u,H2 b=some u->∃o',s2.heap.get? b=some o'/\(PySem.W.hideAll s2.heap (kK (envOfC qual scope #[9] f cd::outer))).get? b=some o':=λb u z=>by obtain⟨o',e'⟩:=(I2.hok b u z).obj;refine⟨o',e',inB b o' e' λm=>?_⟩;have:=I2.xn b m;rw[z]at this;cases this
 refine⟨a,.ref C,t,_,H2,rfl,I2.os,I2.bare,⟨λb o z n hb _=>?_,λb o z n hb _=>?_,λb o z n _=>I2.base.free b o z n (noA b),λb o z _=>?_,I2.base.tups,I2.base.frzs,I2.base.tbls⟩,λb u z=>?_,fl,λb o z hb=>?_,λb u z=>?_,qE⟩
 ·have e2:=I2.base.keep b o z n hb (noA b);exact fl.1 b o (inB b o e2 (notL b o z hb))
 ·obtain⟨sl,e2⟩:=I2.base.slot b o z n hb (noA b);obtain⟨_,o',e3,nf⟩:=I2.jB.mem hb;rw[e2]at e3;cases e3;obtain⟨sl',e4⟩:=up b _ (hm.keeps _ _ e2) nf;exact⟨sl',e4⟩
 ·by_cases hb:b∈kK outer
  ·obtain⟨_,o',e3,nf⟩:=I2.jB.mem hb;obtain⟨sl',e4⟩:=up b _ (hm.keeps _ _ e3) nf;exact⟨_,e4⟩
  ·obtain⟨o2,e2⟩:=I2.base.there b o z (noA b);exact⟨o2,fl.1 b o2 (inB b o2 e2 (notL b o z hb))⟩
 ·refine(I2.hok b u z).nQ (λc v hc y=>?_) (λ_ y=>y) λ_ _ y=>y
  have:∃u',H2 c=some u':=by
   rcases hc with hc|hc
   ·exact⟨u,hc▸z⟩
   ·exact⟨_,hc⟩
  obtain⟨u',hu⟩:=this;obtain⟨o',e3,e4⟩:=trkB c u' hu;rw[y]at e3;cases e3;exact fl.1 c v e4
 ·obtain⟨o2,e2⟩:=I2.base.there b o z (noA b);exact⟨o2,fl.1 b o2 (inB b o2 e2 (notL b o z hb)),inB b o2 e2 (notL b o z hb)⟩
 ·obtain⟨o',e3,e4⟩:=trkB b u z;exact⟨o',fl.1 b o' e4,e4⟩
end
structure E8(P:VG)(w:World)(K:Vz)(mg:Vv)(base:Heap)(CX:HA)(k:Nat)(f:Addr)(fd:FuncData)(ps:VA)(sp:VI->Sp):Prop where
 len:∀s vs H Q E,sp s vs H Q E->vs.length=ps.length
 run:∀(A:VH) (outer:List Env) (s:VI) (H:Hp) (args:Args) (us:Vy) (vs:List V) (Q:VK) (E:XK),bZ k A->xu P w K mg base A outer s H->BindsTo s fd args (ps.zip us)->Vals vs us->sp s vs H Q E ->
  codeAny (model P w) A (.call (.ref f) args) (CR CX outer P w H s Q E) s
noncomputable abbrev Cx.held(X:Cx)(a:Addr):Cx:={X with A:=X.A.mark (some (.ref a)),calm:=false,xe:=λ_ _=>False}
theorem Inv.held{σ:St}(I:#[10])(a:Addr):Inv (X.held a) pins σ H s:=
 ⟨⟨I.ok.mod,I.ok.kind,I.ok.glob,I.ok.blt,I.ok.above,I.ok.inj,I.ok.has,I.ok.cab,(λz=>nomatch z),I.ok.frames,I.ok.stk,I.ok.exf,I.ok.bs,I.ok.bsz,I.ok.noex,I.ok.exfs,I.ok.jB,I.ok.frf⟩,I.os,I.bare,I.base,I.loc,I.cell,I.free,I.freeC,I.pin,I.hok,I.len⟩
noncomputable def eB(a:Addr)(cls:Value):Heap->Prop:=λh=>∃o,h.get? a=some o/\o.cls=cls
theorem eB.ok(x:eB a cls h):bW P w H h a (.ext (eB a cls)):=
 ⟨x,let ⟨o,e,_⟩:=x;⟨o,e⟩,λh1 h2 ⟨o,e,c⟩ k=>⟨o,k o e,c⟩⟩
theorem AN(un:Un (kK l) [] H H' g h)(hok:ky P w H' h)(st:B.StaysIn h')(up:h.UpToSlots h')(ff:h.FunFrames B l)
 (old:∀b o,g.get? b=some o->b∉kK l->∃o',h.get? b=some o'/\B.get? b=some o')(wc:∀b u,H' b=some u->∃o',h.get? b=some o'/\B.get? b=some o'):Un (kK l) [] H H' g h'/\ky P w H' h':=by
 have no:∀b:Addr,b∉([]:Vx):=λb z=>nomatch z;refine⟨⟨λb o e n hb _=>?_,λb o e n hb _=>?_,λb o e n _=>un.free b o e n (no b),λb o e _=>?_,un.tups,un.frzs,un.tbls⟩,λb u e=>?_⟩
 ·have e2:=un.keep b o e n hb (no b);obtain⟨o',e3,e4⟩:=old b o e hb;rw[e2]at e3;cases e3;exact st b o e4
 ·obtain⟨sl,e2⟩:=un.slot b o e n hb (no b);obtain⟨_,o',e3,nf⟩:=ff.mem hb;rw[e2]at e3;cases e3;obtain⟨sl',e4⟩:=up b _ e2 nf
  grind
 ·by_cases hb:b∈kK l
  ·obtain⟨_,o',e3,nf⟩:=ff.mem hb;obtain⟨sl',e4⟩:=up b _ e3 nf
   grind
  ·obtain⟨o',e3,e4⟩:=old b o e hb;exact⟨o',st b o' e4⟩
 ·refine(hok b u e).nQ (λc v hc z=>?_) (λ_ z=>z) λ_ _ z=>z
  have:∃u',H' c=some u':=by
   rcases hc with hc|hc
   ·exact⟨u,hc▸e⟩
   ·exact⟨_,hc⟩
  obtain⟨u',hu⟩:=this;obtain⟨o',e3,e4⟩:=wc c u' hu;rw[z]at e3;cases e3;exact st c v e4
theorem E9{Q1:α->VI->Prop}(T:∀XE,XE=E1->wpAny M A t Q1 XE s1):wpAny M A t Q1 E1 s1:=T E1 rfl
theorem Ls{K:Vz}{dV kV doc pm cdv ct oc:Value}
 (lk:K.lookup f=some ⟨oc,od,.func (PySem.W.fnOf name qual params [.Try body [.ExceptHandler (some (.Name D np)) (some n) (b0::suite) hpos] [] [] tpos] scope dV kV doc pm an cdv ct),osl⟩)(hcd:PySem.W.codeIn K cdv qual=true)(S:aH N ps scope)
 (hD:mg D=some (.ref DC))(hi:N[i]?=some n)(hn:scope.names.lookup n=some .local)(hgD:scope.names.lookup D=some .globalImplicit)(hdb:(D==("__debug__" : Str))=false)
 (len:∀s vs H Q E,sp s vs H Q E->vs.length=ps.length)
 (hbody:∀(A:VH) (outer:List Env) (s:VI) (H:Hp) (vs:List V) (Q:VK) (E:XK),bZ k (A.deeper (envOfC qual scope #[9] f cdv))->sp s vs H Q E ->
   ∃(tb:XK->TS) (th:TS),(∀EH XE,Passes (iF P w) ((fk Dm P w K mg base N qual scope f cdv A outer s H E).pd XE) EH->vL ((fk Dm P w K mg base N qual scope f cdv A outer s H E).pd XE) body (tb EH)) /\
    (∀a,vL ((fk Dm P w K mg base N qual scope f cdv A outer s H E).held a) (b0::suite) th) /\
    tb (λcls _ H'=>PySem.W.exmOne K cls (.ref DC)=some true/\∀(a:Addr) (σ':St),H' a=none->σ'.length=N.length->th {nx:=λ_ H''=>Q .non H'',rt:=Q} (σ'.set i (some (.ref a))) (upd H' a (.ext (eB a cls)))) {nx:=λ_ H'=>Q .non H',rt:=Q} (start N vs) H) :
  E8 P w K mg base Dm (k+1) f (PySem.W.fnOf name qual params [.Try body [.ExceptHandler (some (.Name D np)) (some n) (b0::suite) hpos] [] [] tpos] scope dV kV doc pm an cdv ct) ps sp:=by
 refine⟨len,λA outer s H args us vs Q E hr e0 hb r hsp=>?_⟩;have hl:=len _ _ _ _ _ hsp;have KX:K.In s.heap:=e0.mod.kin.keeps λb o e=>(e0.bs b o e).1;have lim:s.heap.NoLimit:=e0.mod.nolimit.keeps λb o e=>(e0.bs b o e).1
 have hkind:∀y∈ps.zip us,scope.names.lookup y.1=some .local\/(scope.names.lookup y.1=some .cell/\((cellsFrom (#[9]+1) scope.names []).lookup y.1).isSome=true):=by
  rintro⟨n,v⟩ hy;rcases S.par n (Uh hy).1 with q|q
  ·exact .inl q
  ·exact .inr ⟨q,TC _ _ _ (.inl q)⟩
 refine UZ hr.depth (KX _ _ lk) rfl S.co S.gen rfl (Vc KX hcd) (hb _ _ _ _ ?_);refine Ut S.kind hkind λenv he s1 x=>?_;subst he;refine⟨lim.keeps x.toInCall.keep,codeAny_func ?_⟩;obtain⟨tb,th,hb1,hs1,hq⟩:=hbody A outer s H vs Q E (hr.deeper _) hsp;have I:Inv (fk Dm P w K mg base N qual scope f cdv A outer s H E) [] (start N vs) H s1:=qx S hr.hd e0 hl r x;generalize hX:fk Dm P w K mg base N qual scope f cdv A outer s H E=X at I hb1 hs1;have hP:X.prog=P:=by rw[<- hX];rfl
 have hw:X.w=w:=by rw[<- hX];rfl
 have hA:X.A=A.deeper (envOfC qual scope #[9] f cdv):=by rw[<- hX];rfl
 have henv:X.env=envOfC qual scope #[9] f cdv:=by rw[<- hX];rfl
 have hs0:X.s₀=s:=by rw[<- hX];rfl
 have hH0:X.H₀=H:=by rw[<- hX];rfl
 have hout:X.outer=outer:=by rw[<- hX];rfl
 have hex:X.ex=[]:=by rw[<- hX];rfl
 have hstk:X.stack=X.env::X.outer:=by rw[<- hX];rfl
 have hfrm:X.env.frame=some X.env.locals:=by rw[<- hX];rfl
 have hN:X.N=N:=by rw[<- hX];rfl
 have hK:X.K=K:=by rw[<- hX];rfl
 have hmg:X.mg=mg:=by rw[<- hX];rfl
 have hkn:X.env.kindOf n=some .local:=by rw[<- hX];exact hn
 have hkD:Gl X D:=by rw[<- hX];exact hgD
 have hcls:(X.env.scope.kind == .class || (X.env.scope.kind == .module&&X.env.locals != X.env.globals))=false:=by rw[I.ok.kind];rfl
 have fin:∀{σ':St} {H':Hp} {v:V} {u:Value} {s':VI},Inv X [] σ' H' s'->RelV v u->Q v H'->CE outer X.prog X.w H s Q u s':=λ{σ' H' v u s'} J rv q=>by refine⟨v,H',by rw[<- hs0];exact J.os,J.bare,?_,J.hok,rv,q⟩;have:=J.base;unfold Cx.fs at this;rw[hout,hex,hH0,hs0]at this;exact this
 show wpAny (model P w) (A.deeper (envOfC qual scope #[9] f cdv)) (execs [.Try body [.ExceptHandler (some (.Name D np)) (some n) (b0::suite) hpos] [] [] tpos] (envOfC qual scope #[9] f cdv)) (λfl s'=>CR Dm outer P w H s Q E (.ok (.ret (match fl with|.ret v=>v|_=>.none))) s') _ s1;rw[<- hA,<- henv];have NX:N.Nodup:=S.nd;refine wpAny_execs_cons (wpAny_Try_except ?_);rw[<- hP,<- hw];refine E9 λXE hXE=>?_;refine bS (hb1 (λcls _ H'=>PySem.W.exmOne K cls (.ref DC)=some true/\∀(a:Addr) (σ':St),H' a=none->σ'.length=N.length->th {nx:=λ_ H''=>Q .non H'',rt:=Q} (σ'.set i (some (.ref a))) (upd H' a (.ext (eB a cls)))) XE ?_ [] s1 (start N vs) H _ (I.pd XE) hq) (λfl s' hs=>?_)
 ·
  rintro pins σ' H1 s2 e s' I1 ⟨a,cls,t,B,H',e1,os,bare,un,hok,fl,old,wc,hm,hq2⟩;subst e1;show XE (.ref a) s';rw[hXE];have hok:ky X.prog X.w H' s'.heap:=by rw[hP,hw];exact hok
  have I0:Inv X [] σ' H1 s2:=I1.hZ.o9 λp hp=>nomatch hp;have hfr:X.A.frames=some (X.env::X.outer):=by rw[I0.ok.frames,hstk]
  have fl:Heap.FlyingW B (X.env::X.outer) a cls (.ref t) s'.heap:=by rw[<- hstk];exact fl
  refine wpAny_looks_onW hfr hfrm fl λh4 held4 up4=>wpAny_landsW held4 λh5 fl5 up5=>?_;have up45:=up4.trans up5;have ff:s'.heap.FunFrames B X.stack:=by rw[hstk];exact fl.2.2.1
  have na:H' a=none:=by
   cases q:H' a with
   |none=>rfl
   |some u=>obtain⟨o',_,e4⟩:=wc a u q;rw[fl.2.1]at e4;cases e4
  have nold:s2.heap.get? a=none:=by
   cases q:s2.heap.get? a with
   |none=>rfl
   |some o=>
    by_cases hb:a∈kK X.stack
    ·obtain⟨_,o',e3,nf⟩:=ff.mem hb;obtain⟨oe,ws,hoe,_,hoed,_⟩:=fl.first;rw[e3]at hoe;cases hoe;exact absurd hoed (nf ws)
    ·obtain⟨o',_,e4⟩:=old a o q hb;rw[fl.2.1]at e4;cases e4
  have J5:Inv X [] σ' H' {s' with heap:=h5}:=by obtain⟨u5,k5⟩:=AN un hok fl5.1 up45 ff old wc;exact I0.yS os u5 k5 bare (λb z=>nomatch z)
  refine wpAny_handleBy_cons (codeAny_handlers_test (mI (X:=X.held a) (J5.held a) hkD (by show X.mg D=_;rw[hmg];exact hD) ?_ hdb)) (by intro q;cases q);have LT:PySem.W.Looks #[12] h5 (typeOf (.ref a)) cls:=by obtain⟨ob,hob,hc⟩:=fl5.there;subst hc;exact(PySem.W.Looks.ld hob).andThen .now
  have KX5:K.In h5:=by rw[<- hK];exact J5.qr
  refine(PySem.W.exm_one KX5 LT hm).here ?_;refine codeAny_handlers_suite_as (lands_againW fl5 λh6 fl6 up6=>?_)
  have J6:Inv X [] σ' (upd H' a (.ext (eB a cls))) {s' with heap:=h6}:=by
   obtain⟨u6,k6⟩:=AN un hok fl6.1 (up45.trans up6) ff old wc;refine I0.yS os ⟨u6.keep,u6.slot,λb o z n' h'=>?_,u6.there,λb xs z=>?_,λb o xs z=>?_,λb ps z=>?_⟩ (λb u z=>?_) bare (λb z=>nomatch z)
   ·have hne:b≠a:=λy=>by rw[y,nold]at z;cases z
    rw[au hne];exact u6.free b o z n' h'
   ·have y:=u6.tups b xs z;rw[au (aB y na)];exact y
   ·have y:=u6.frzs b o xs z;rw[au (aB y na)];exact y
   ·obtain⟨more,y⟩:=u6.tbls b ps z;exact⟨more,by rw[au (aB y na)];exact y⟩
   ·by_cases hba:b=a
    ·subst hba;rw[aG]at z;cases z;exact eB.ok (by obtain⟨ob,hob,hc⟩:=fl6.there;exact⟨ob,hob,hc⟩)
    ·rw[au hba]at z;refine(k6 b u z).nQ (λ_ _ _ y=>y) (λc y=>?_) λc xs y=>?_
     ·rw[au (aB y na)];exact y
     ·rw[au (aB y na)];exact y
  refine gq (X:=X.held a) (J6.held a) (by show X.N.Nodup;rw[hN];exact NX) (by show X.N[i]?=_;rw[hN];exact hi) (.inl hkn) (v:=.ref a) rfl (λs7 I7=>?_) (.inr hkn);refine S3 (hs1 a [] s7 _ _ _ I7 (hq2 a σ' na (by rw[I0.len,hN]))) (λfl' s8 hs=>?_) λ_ _ z=>False.elim z
  have done:∀{σ8:St} {H8:Hp} {v:V} {u:Value},Inv (X.held a) [] σ8 H8 s8->RelV v u->Q v H8->∀h9 tk,Heap.SameBut X.env.locals s8.heap h9->CE outer X.prog X.w H s Q u {s8 with heap:=h9,toks:=tk}:=λ{σ8 H8 v u} J rv q h9 tk sb=>by
   have hsz:#[9]<=X.env.locals:=by have:=J.ok.above;rw[show(X.held a).s₀=X.s₀ from rfl,hs0]at this;exact this
   have bs:=J.base;have noE:∀b:Addr,b∉(X.held a).ex:=λb z=>by rw[show(X.held a).ex=X.ex from rfl,hex]at z;cases z
   have hne:∀b o,s.heap.get? b=some o->b≠X.env.locals:=λb o z y=>absurd (R7 z) (by rw[y];exact Nat.not_lt.mpr hsz);have e1:(X.held a).s₀=s:=hs0;have e2:(X.held a).H₀=H:=hH0;have e3:(X.held a).fs=kK outer:=by show kK X.outer=_;rw[hout]
   rw[e1,e2,e3]at bs;refine⟨v,H8,by rw[<- hs0];exact J.os,J.bare,⟨λb o z n' hb _=>(sb.2 b (hne b o z)).trans (bs.keep b o z n' hb (noE b)),λb o z n' hb _=>?_,λb o z n' _=>bs.free b o z n' (noE b),λb o z _=>?_,bs.tups,bs.frzs,bs.tbls⟩,?_,rv,q⟩
   ·obtain⟨sl,y⟩:=bs.slot b o z n' hb (noE b);exact⟨sl,(sb.2 b (hne b o z)).trans y⟩
   ·obtain⟨o',y⟩:=bs.there b o z (noE b);exact⟨o',(sb.2 b (hne b o z)).trans y⟩
   ·intro b u' z;have hb:b≠X.env.locals:=λy=>by have:=J.free;rw[show(X.held a).env.locals=X.env.locals from rfl,<- y,z]at this;cases this
    refine(J.hok b u' z).nQ (λc v' hc y=>(sb.2 c ?_).trans y) (λ_ y=>y) λ_ _ y=>y;rcases hc with hc|hc
    ·rw[hc];exact hb
    ·intro y;have:=J.free;rw[show(X.held a).env.locals=X.env.locals from rfl,<- y,hc]at this;cases this
  cases fl' with
  |ret u=>obtain⟨v,σ8,H8,J,rv,q⟩:=hs;obtain⟨m8,hn8,_⟩:=id J.loc;exact wpAny_nameGoes_keeps hkn hn8 hcls λh9 v9 _ sb=>done J rv q h9 _ sb
  |next=>obtain⟨σ8,H8,J,q⟩:=hs;obtain⟨m8,hn8,_⟩:=id J.loc;exact wpAny_nameGoes_keeps hkn hn8 hcls λh9 v9 _ sb=>TX (done (v:=.non) (u:=.none) J rfl q h9 _ sb)
  |brk=>obtain⟨_,_,_,q⟩:=hs;exact False.elim q
  |cont=>obtain⟨_,_,_,q⟩:=hs;exact False.elim q
 ·cases fl with
  |ret u=>obtain⟨v,σ',H',J,rv,q⟩:=hs;exact fin J.hZ rv q
  |next=>obtain⟨σ',H',J,q⟩:=hs;exact TX (TX (fin (v:=.non) (u:=.none) J.hZ rfl q))
  |brk=>obtain⟨_,_,_,q⟩:=hs;exact False.elim q
  |cont=>obtain⟨_,_,_,q⟩:=hs;exact False.elim q
end L2
namespace PySem.W
open PySem PySem.Spec PySem.Calls PyProof.Rows Builtin Builtin.ObjectAttr Builtin.Getset_descriptor
section
variable {prog:VG} {w:World} {K:Frag} {y D:Addr}
theorem Fb(X:K.In h)(ha:findIn K (.ref D) nm=some (some at1))(hn:specialIn K at1 "__get__" = some (some g1))(htk:takesIn K at1=some true) :
  Looks M h (find (.ref y) (.ref D) nm) (.bind g1 at1):=by
 have K1:=looks_findIn (M:=M) X ha;have K2:Looks M h _ _:=looks_specialIn X hn;have K3:=looks_takesIn (M:=M) X htk;exact K1.andThen (K2.andThen ((show Looks M h _ (some (g1,at1))from K3.andThen .now).andThen (Looks.tag .now)))
theorem zd(X:K.In s.heap)(LT:Looks #[14] s.heap (typeOf (.ref y)) (.ref D))(hm:mroIn K D (.type "object")=some true)(k:R (.ok (.ret (.ref D))) s) :
  codeAny #[14] A (.call (.builtin "getset_descriptor.__get__") ⟨[.builtin "object.__class__",.ref y,tp],[]⟩) R s:=by
 obtain⟨h1,gs,dr,tk,os⟩:=s;have LM:=looks_mroIn (M:=model prog w) X hm;refine codeAny_call_builtin KF.slot_gs.plain KF.entry_gs (KF.slot_gs.check _ _ _ _ _ _ _ _ KF.type_class (KF.args_gs _ _ _) ?_);unfold Builtin.«getset_descriptor.__get__»;unfold descrGet;rw[dga_obj];refine R0 (R3 ?_);unfold descrGetter descrCheckInstance;unfold descrNameAndClass isInstance;simp only[KF.owner_class]
 repeat lk
 refine⟨Code.quiet_builtin _ #[8],codeAny_builtin KF.entry_class ?_⟩;unfold Builtin.«object.__class__»;unfold shownTypeOf
 repeat lk
 exact k
structure pB(K:Frag)(D:Addr):Prop where
 g1:findIn K (.ref D) "__getattribute__" = some (some (.builtin "BaseException.__getattribute__"))
 g2:findIn K (.ref D) "__getattr__" = some none
 be:mroIn K D (.type "BaseException")=some true
 a:findIn K (.ref D) "__class__" = some (some (.builtin "object.__class__"))
 n:specialIn K (.builtin "object.__class__") "__get__" = some (some (.builtin "getset_descriptor.__get__"))
 t:takesIn K (.builtin "object.__class__")=some true
 m:mroIn K D (.type "object")=some true
theorem Dv(L:pB K D)(X:K.In s.heap)(LT:Looks M s.heap (typeOf (.ref y)) (.ref D))(hq:Q () s) :
  wpAny M A (checkBuiltinCall "BaseException.__getattribute__" ⟨[.ref y,nameV],[]⟩) Q E s:=by
 obtain⟨h1,gs,dr,tk,os⟩:=s;have LM:=looks_mroIn (M:=M) X L.be;have hk:builtinKind "BaseException.__getattribute__" = some .slot:=by decide +kernel
 have hsplit:splitId "BaseException.__getattribute__" = some ("BaseException", "__getattribute__"):=by decide +kernel
 have ha:=F.args_bexc_ga (.ref y) nameV;simp only[checkBuiltinCall,hk,hsplit];refine R0 ?_;unfold isInstance
 repeat (first|lk|wp_step)
 exact hq
theorem Dw(L:pB K D)(X:K.In s.heap)(LT:Looks #[14] s.heap (typeOf (.ref y)) (.ref D))(hq:Q (.done (.ret (.ref D))) s) :
  wpAny #[14] A (Builtin.«object.__getattribute__» ⟨[.ref y,.str "__class__" tk],[]⟩) Q E s:=by
 obtain⟨h1,gs,dr,tk',os⟩:=s;have K3:=Fb (M:=model prog w) (y:=y) X L.a L.n L.t;unfold Builtin.«object.__getattribute__»;have e1:slotArgs "__getattribute__" 1 ⟨[.ref y,.str "__class__" tk],[]⟩=pure (.ref y,[.str "__class__" tk]):=rfl;have e2:attrName (.str "__class__" tk)=pure "__class__" := rfl;dsimp only;rw[e1];refine R0 (R3 ?_);dsimp only;rw[e2];refine R0 (R3 (R0 (LT.at (R0 (K3.at ?_)))));show wpAny _ _ (holding [.builtin "object.__class__"] (call (.builtin "getset_descriptor.__get__") [.builtin "object.__class__",.ref y,.ref D]) >>= ret) _ _ _;exact R0 (SH (Vh (zd X LT L.m (R3 hq))))
theorem Ic(L:pB K D)
 (X:K.In s.heap)(LT:Looks #[14] s.heap (typeOf (.ref y)) (.ref D))(k:Q (some (.ref D)) {s with toks:=s.toks+1}):wpAny #[14] A (getAttr? (.ref y) "__class__") Q E s:=by
 obtain⟨h1,gs,dr,tk,os⟩:=s;have K1:=looks_findIn (M:=model prog w) X L.g1;have K2:=looks_findIn (M:=model prog w) X L.g2;have f3:=F.excAttr_ValueError.ga.bind (.ref y);unfold getAttr? getAttrBy?;unfold getAttrBy;refine R0 (wpAny_mkText (R0 (Uq (SH (R0 (LT.at (R0 (K1.at ?_))))))));have e1:(Value.builtin "BaseException.__getattribute__" == Value.builtin "object.__getattribute__")=false:=by decide +kernel
 have e0:(onTheHeap (Value.ref D)&&(Value.builtin "BaseException.__getattribute__" == Value.builtin "object.__getattribute__"))=false:=by rw[e1];rfl
 dsimp only;rw[e0];show wpAny _ _ (getAttrByItsOwn _ _ _ _ _ _) _ _ _;unfold getAttrByItsOwn;refine R0 (K2.at ?_);refine R0 (Uq (SH ?_));show wpAny _ _ (boundAndCalled _ _ _) _ _ _;unfold boundAndCalled;rw[f3];refine R0 (R3 ?_);refine Vh (codeAny_call_builtin F.excAttr_ValueError.ga.plain F.entry_bexc_ga (Dv L X LT (Dw L X LT ?_)));exact handed_on rfl (R3 k)
theorem Fc(hcl:(clsIn K D).isSome=true)(L:pB K D) :
  KitX K (.ref y) (.ref D) (L2.eB y (.ref D)) where
 ty:=by rintro M h _ ⟨o,e,c⟩;exact c▸(Looks.ld e).andThen .now
 it:=λ_ _ X _=>by
  obtain⟨cd0,z⟩:=T3.mp hcl;unfold clsIn at z;split at z
  ·rename_i ho;intro A1 Q1 E1 s1 kp q;unfold isType;unfold loadHead;exact R0 (wpAny_loadPart (kp _ _ (X _ _ ho)) (R3 q))
  grind
 ne:=λh tp dd its n sl X htp=>by
  obtain⟨cd0,z⟩:=T3.mp hcl;refine Tz.mpr λq=>?_;have e:D=tp:=Value.ref.inj (beq_iff_eq.mp q);subst e;unfold clsIn at z;split at z
  ·rename_i ho;have bad:=(X _ _ ho).symm.trans htp;cases bad
  ·cases z
 ca:=λX p k=>Ic L X (by obtain⟨o,e,c⟩:=p;exact c▸(Looks.ld e).andThen .now) k
end
end PySem.W
namespace L2
open PySem PySem.Spec PyProof.Rows
structure nq(k:Nat)(A:VH):Prop where
 dp:A.depth+3*k+5<recursionLimit
 un:A.units+16*k+200<cLine
 gd:A.guards=some []
theorem bZ.held(r:bZ k A)(e:Option Value):nq k (A.mark e):=⟨r.dp,r.un,r.gd⟩
theorem nq.deep(r:nq (k+1) A)(env:Env):nq k (A.deeper env):=
 ⟨by have:=r.dp;show A.depth+1+3*k+5<_;omega,by have:=r.un;show A.units+3+16*k+200<_;omega,r.gd⟩
theorem nq.RG(r:nq k A):A.depth<recursionLimit:=by have:=r.dp;omega
structure B0(P:VG)(w:World)(K:Vz)(mg:Vv)(base:Heap)(k:Nat)(f:Addr)(fd:FuncData)(ps:VA)(sp:Sp):Prop where
 len:∀vs H Q E,sp vs H Q E->vs.length=ps.length
 run:∀(A:VH) (outer:List Env) (s:VI) (H:Hp) (args:Args) (us:Vy) (vs:List V) (Q:VK) (E:XK),nq k A->xu P w K mg base A outer s H->BindsTo s fd args (ps.zip us)->Vals vs us->sp vs H Q E ->
  codeAny (model P w) A (.call (.ref f) args) (CR Dm outer P w H s Q E) s
noncomputable abbrev Qb(P:VG)(w:World)(K:Vz)(mg:Vv)(base:Heap)(N:VA)(qual:Str)(scope:Scope)(f:Addr)(cd:Value)(A:VH)(outer:List Env)(s:VI)(H:Hp)(E:XK):Cx:=
 {fk Dm P w K mg base N qual scope f cd A outer s H E with calm:=false,xe:=λ_ _=>False}
theorem Lu{K:Vz}{dV kV doc pm cdv ct oc:Value}
 (lk:K.lookup f=some ⟨oc,od,.func (PySem.W.fnOf name qual params body scope dV kV doc pm an cdv ct),osl⟩)(hcd:PySem.W.codeIn K cdv qual=true)(S:aH N ps scope)
 (len:∀vs H Q E,sp vs H Q E->vs.length=ps.length)
 (hbody:∀(A:VH) (outer:List Env) (s:VI) (H:Hp) (vs:List V) (Q:VK) (E:XK),nq k (A.deeper (envOfC qual scope #[9] f cdv))->sp vs H Q E ->
   ∃t,vL (Qb P w K mg base N qual scope f cdv A outer s H E) body t/\t {nx:=λ_ H'=>Q .non H',rt:=Q} (start N vs) H) :
  B0 P w K mg base (k+1) f (PySem.W.fnOf name qual params body scope dV kV doc pm an cdv ct) ps sp:=by
 refine⟨len,λA outer s H args us vs Q E hr e0 hb r hsp=>?_⟩;have hl:=len _ _ _ _ hsp;have kb:∀b o,base.get? b=some o->s.heap.get? b=some o:=λb o e=>(e0.bs b o e).1
 have hkind:∀y∈ps.zip us,scope.names.lookup y.1=some .local\/(scope.names.lookup y.1=some .cell/\((cellsFrom (#[9]+1) scope.names []).lookup y.1).isSome=true):=by
  rintro⟨n,v⟩ hy;rcases S.par n (Uh hy).1 with q|q
  ·grind
  ·exact .inr ⟨q,TC _ _ _ (.inl q)⟩
 refine UZ hr.RG (e0.mod.kin.keeps kb _ _ lk) rfl S.co S.gen rfl (Vc (e0.mod.kin.keeps kb) hcd) (hb _ _ _ _ ?_);refine Ut S.kind hkind λenv he s1 x=>?_;subst he;refine⟨(e0.mod.nolimit.keeps kb).keeps x.toInCall.keep,codeAny_func ?_⟩;obtain⟨t,ht,hq⟩:=hbody A outer s H vs Q E (hr.deep _) hsp;have e1:xu P w K mg base {A with handled:=none} outer s H:=⟨e0.frames,e0.mod,e0.bs,e0.bsz,e0.jB,e0.frf,e0.hok,e0.bare⟩;have I0:Inv (fk Dm P w K mg base N qual scope f cdv {A with handled:=none} outer s H E) [] (start N vs) H s1:=qx S rfl e1 hl r x
 have I:Inv (Qb P w K mg base N qual scope f cdv A outer s H E) [] (start N vs) H s1:=
  ⟨⟨I0.ok.mod,I0.ok.kind,I0.ok.glob,I0.ok.blt,I0.ok.above,I0.ok.inj,I0.ok.has,I0.ok.cab,(λz=>nomatch z),I0.ok.frames,I0.ok.stk,I0.ok.exf,I0.ok.bs,I0.ok.bsz,I0.ok.noex,I0.ok.exfs,I0.ok.jB,I0.ok.frf⟩,I0.os,I0.bare,I0.base,I0.loc,I0.cell,I0.free,I0.freeC,I0.pin,I0.hok,I0.len⟩
 refine S3 (ht [] s1 (start N vs) H _ I hq) (λfl s' hs=>?_) λe s' hs=>False.elim hs
 cases fl with
 |ret u=>obtain⟨v,σ',H',J,rv,q⟩:=hs;exact⟨v,H',J.os,J.bare,J.base,J.hok,rv,q⟩
 |next=>obtain⟨σ',H',J,q⟩:=hs;exact⟨.non,H',J.os,J.bare,J.base,J.hok,rfl,q⟩
 |brk=>obtain⟨_,_,_,q⟩:=hs;exact False.elim q
 |cont=>obtain⟨_,_,_,q⟩:=hs;exact False.elim q
theorem El.RH{K:Vz}{st:Stmt}(F:El K x qual st f fd)(S:aH N ps (ao st))(len:∀vs H Q E,sp vs H Q E->vs.length=ps.length)
 (hbody:∀(cdv:Value) (A:VH) (outer:List Env) (s:VI) (H:Hp) (vs:List V) (Q:VK) (E:XK),nq k (A.deeper (envOfC qual (ao st) #[9] f cdv))->sp vs H Q E ->
   ∃t,vL (Qb P w K mg base N qual (ao st) f cdv A outer s H E) (bA st) t/\t {nx:=λ_ H'=>Q .non H',rt:=Q} (start N vs) H):B0 P w K mg base (k+1) f fd ps sp:=by
 obtain⟨oc,od,kV,doc,pm,an,cdv,ct,osl,rfl,lk,hcd⟩:=F.ex;exact Lu lk hcd S len λA outer s H vs Q E hr hsp=>hbody cdv A outer s H vs Q E hr hsp
structure AO(P:VG)(w:World)(K:Vz)(mg:Vv)(base:Heap)(x:Str)(ps:VA)(k:Nat)(sp:Sp):Prop where
 ex:∃(f:Addr) (fd:FuncData),mg x=some (.ref f)/\PySem.W.keepIn K (.ref f)=true/\Binds K fd ps []/\B0 P w K mg base k f fd ps sp
theorem Lv{p pos:Pos}(F:AO X.prog X.w X.K X.mg X.base x ps k sp)(hr:nq k X.A)(hg:Gl X x)(ha:PA X (e::es) t)(hdb:(x==("__debug__" : Str))=false:=by decide)
 (he:#[2]:=by rfl)(hpl:#[20].any (·.1)=false:=by rfl):PE X (.Call (.Name x p) (e::es) [] pos) (BJ sp [] E0 t):=by
 obtain⟨f,fd,hm,hk,hb,F⟩:=F.ex;intro pins s σ H Q I h;refine SU (mI I hg hm ?_ hdb);refine UE (h₀:=X.base) I.ok.mod.kin hk (bS (ha pos pins s σ H _ I h) λus s1 ⟨vs,H1,I1,r1,q1⟩=>⟨I1.qr,?_⟩) he hpl;have r2:Vals (vs++[]) (us++[]):=r1.append .nil;have hl:(us++[]).length=ps.length:=by rw[<- r2.length];exact F.len _ _ _ _ q1
 refine Vh (UY (F.run X.A X.stack s1 H1 ⟨us,[]⟩ (us++[]) (vs++[]) Q E0 hr I1.HB (hb s1 us I1.qr hl) r2 q1) λr s' hq=>?_)
 cases r with
 |error e=>trivial
 |ok fl=>
  cases fl with
  |ret u=>exact I1.after hq
  |next=>assumption
  |brk=>exact False.elim hq
  |cont=>exact False.elim hq
theorem ze:PE X e (λ_ _ _=>False):=λ_ _ _ _ _ _ h=>h.elim
structure Lw(K:Vz)(D:Addr):Prop where
 c:(PySem.W.clsIn K D).isSome=true
 l:PySem.W.pB K D
noncomputable def Lx:V->Option Value
 |.ref C=>some (.ref C)
 |.ty n=>some (.type n)
 |_=>none
noncomputable def J3(K:Vz):List V->Hp->VK->Prop:=λxs H Q=>∃a D v c b,xs=[.ref a,v]/\Lx v=some c/\H a=some (.ext (eB a (.ref D)))/\Lw K D/\PySem.W.kitOne K (.ref D) c=some b/\Q (.bl b) H
section
variable {X:Cx}
theorem wy:cX X (.builtin "isinstance") (J3 X.K):=by
 intro pins s σ H vs us Q I r h;obtain⟨a,D,v,c,b,rfl,hv,ha,ec,e,q⟩:=h
 cases r with
 |cons r rr=>
  cases rr with
  |cons r' rr=>
   cases rr;cases r;rename_i u2
   have hc:c=u2:=by
    cases v with
    |ref C=>simp[Lx]at hv;cases r';grind
    |ty n=>simp[Lx]at hv;cases r';grind
    |_=>trivial
   subst hc;obtain⟨p,_,_⟩:=(show bW X.prog X.w H s.heap a (.ext (eB a (.ref D)))from I.hok a _ ha);exact SW (PySem.W.Fc ec.c ec.l) I.qr p e (λz=>nomatch z) λtk=>⟨.bl b,H,I.tok _,rfl,q⟩
theorem zf{bs:List Bool}:∀{us:Vy},Vals (bs.map V.bl) us->us=bs.map Value.bool:=by
 induction bs with
 |nil=>intro us r;cases r;rfl
 |cons b bs ih=>
  intro us r
  cases r with
  |cons r rr=>rw[ih rr];cases r;rfl
noncomputable def Ie:V->List V->Hp->VK->Prop:=λx vs H Q=>∃(l:Addr) (bs:List Bool),x=.ref l/\vs=[.bl true]/\H l=some (.lst (bs.map V.bl))/\Q (.int ((bs.countP λb=>b):Nat)) H
theorem Dx:P0 X "list.count" Ie:=by
 intro pins s σ H x vs v us Q I rx rv h;obtain⟨l,bs,rfl,rfl,hH,q⟩:=h;cases rx;obtain⟨u,rfl,ru⟩:=rv.one;cases ru;obtain⟨z,its,n,r,hl,e⟩:=I.Dh hH;have hi:=zf r;subst hi;refine Um F.slot_list_count ⟨_,e,rfl⟩ F.entry_list_count (F.args_list_count_2 _ _) (PySem.SeqAt.list_countAt l _ n none #[] _ (λy=>match y with|.bool b=>b|_=>false)) ⟨e,λy hy=>?_,?_⟩
 ·obtain⟨b,_,rfl⟩:=SA.mp (by grind:y∈bs.map Value.bool);have:=PySem.SeqAt.EqAt.bool_bool (A:=X.A.in1) (s:=s) b true
  simp_all
 ·have hc:List.countP (λy=>match y with|Value.bool b=>b|_=>false) (List.map Value.bool bs).toArray.toList=bs.countP λb=>b:=by
   rw[List.toList_toArray,List.countP_map];rfl
  rw[hc];exact⟨.int (_:Nat),H,I.tok _,⟨_,rfl⟩,q⟩
noncomputable def Ig:V->List V->Hp->VK->Prop:=λx vs H Q=>∃(l:Addr) (bs:List Bool) (j:Nat),x=.ref l/\vs=[.bl true]/\H l=some (.lst (bs.map V.bl))/\bs[j]?=some true/\(∀m,m<j->bs[m]?=some false)/\j<1000/\Q (.int (j:Nat)) H
theorem Dy:P0 X "list.index" Ig:=by
 intro pins s σ H x vs v us Q I rx rv h;obtain⟨l,bs,j,rfl,rfl,hH,hj,hno,hs,q⟩:=h;cases rx;obtain⟨u,rfl,ru⟩:=rv.one;cases ru;obtain⟨z,its,n,r,hl,e⟩:=I.Dh hH;have hi:=zf r;subst hi;obtain⟨hj1,hj2⟩:=R6.mp hj;refine Um F.slot_list_index ⟨_,e,rfl⟩ F.entry_list_index (F.args_list_index_2 _ _) (PySem.SeqAt.list_indexAt l _ n none #[] _ (λy=>match y with|.bool b=>b|_=>false) j (by grind) #[3] (by simp[hj2]) (λm hm hmj=>?_)) ⟨e,λy hy=>?_,?_⟩
 ·obtain⟨h1,h2⟩:=R6.mp (hno m hmj);simp[h2]
 ·obtain⟨b,_,rfl⟩:=SA.mp (by grind:y∈bs.map Value.bool);have:=PySem.SeqAt.EqAt.bool_bool (A:=X.A.in1) (s:=s) b true
  simp_all
 ·exact⟨.int (j:Nat),H,I.tok _,⟨_,rfl⟩,q⟩
end
theorem Dz(hstk:X.stack=X.env::X.outer)(hfrm:X.env.frame=some X.env.locals)(hex:X.ex=[])
 (hxe:∀e s',wpAny #[12] X.A (leaving X.env e) (λ_ s''=>iF X.prog X.w X.outer X.H₀ X.s₀ E e s'') (λe' s''=>iF X.prog X.w X.outer X.H₀ X.s₀ E e' s'') s'->X.xe e s'):Passes (iF X.prog X.w) X E:=by
 rintro pins σ H1 s1 e s' I ⟨a,cls,t,B,H',e1,os,bare,un,hok,fl,old,wc,q⟩;subst e1;have J:=I.yS os un hok bare (λb z=>nomatch z);have hfr:X.A.frames=some (X.env::X.outer):=by rw[I.ok.frames,hstk]
 have noA:∀b:Addr,b∉X.ex:=λb z=>by grind
 have inB:∀b o,X.s₀.heap.get? b=some o->b∉kK X.outer->∃o',s'.heap.get? b=some o'/\B.get? b=some o':=λb o e hb=>by
  obtain⟨o1,e1⟩:=I.base.there b o e (noA b);refine old b o1 e1 λz=>?_;rcases Sf.mp (I.iV b z)with z|z
  ·exact absurd (R7 e) (by rw[z];exact Nat.not_lt.mpr I.ok.above)
  grind
 refine hxe _ _ ?_;rw[hstk]at fl;refine wpAny_leaves_onW hfr hfrm fl λh' fl' up=>?_;have ub:Un (kK X.outer) [] X.H₀ H' X.s₀.heap s'.heap:=by have:=J.base;rw[hex]at this;exact this
 obtain⟨u2,k2⟩:=AN ub J.hok fl'.1 up fl.2.2.1.2.2 inB wc;refine⟨a,cls,t,B,H',rfl,os.trans I.os,bare,u2,k2,fl',λb o e hb=>?_,λb u e=>?_,q⟩
 ·obtain⟨o',_,e4⟩:=inB b o e hb;exact⟨o',fl'.1 b o' e4,e4⟩
 ·obtain⟨o',_,e4⟩:=wc b u e;exact⟨o',fl'.1 b o' e4,e4⟩
noncomputable abbrev jG(qual:Str)(scope:Scope)(L f:Addr)(cd:Value)(clos:List (Str×Addr)):Env:=PySem.W.envX qual scope L f cd clos
noncomputable def wz(P:VG)(w:World)(K:Vz)(mg:Vv)(base:Heap)(N:VA)(qual:Str)(scope:Scope)(f:Addr)(cd:Value)(clos:List (Str×Addr))(A:VH)(outer:List Env)(s:VI)(H:Hp)(E:XK):Cx where
 prog:=P
 w:=w
 K:=K
 mg:=mg
 base:=base
 A:=A.deeper (jG qual scope #[9] f cd clos)
 N:=N
 s₀:=s
 H₀:=H
 env:=jG qual scope #[9] f cd clos
 outer:=outer
 stack:=jG qual scope #[9] f cd clos::outer
 ex:=[]
 calm:=true
 fn:=λ_=>false
 pn:=[]
 xe:=λe s'=>wpAny (model P w) (A.deeper (jG qual scope #[9] f cd clos)) (leaving (jG qual scope #[9] f cd clos) e) (λ_ s''=>iF P w outer H s E e s'') (λe' s''=>iF P w outer H s E e' s'') s'
theorem pC{K:Vz} :
  Passes (iF P w) (wz P w K mg base N qual scope f cd clos A outer s H E) E:=Dz (X:=wz P w K mg base N qual scope f cd clos A outer s H E) rfl rfl rfl λ_ _ h=>h
structure tU(scope:Scope):Prop where
 co:scope.isCoroutine=false
 gen:scope.isGenerator=false
 kind:scope.kind=.function
 nocell:∀x∈scope.names,x.2≠.cell
theorem Ih{K:Vz}{vs:List V}
 (S:tU scope)(hr:bZ (k+1) A)(e0:xu P w K mg base A outer s H)(ho:s.heap.get? f=some o)(hd:o.data=.func (PySem.W.kla_fn name qual params body scope clos pm (.ref c') ctv))(hcd:s.heap.CodeRec (.ref c') qual)
 (hbind:bindArgs (PySem.W.kla_fn name qual params body scope clos pm (.ref c') ctv) ⟨[],[]⟩=pure [])
 (hinj:∀x y c,clos.lookup x=some c->clos.lookup y=some c->x=y)(hhas:∀x,scope.names.lookup x=some .free->∃c,clos.lookup x=some c)
 (hcell:∀x c,clos.lookup x=some c->(∃v,s.heap.IsCell c v)/\H c=none)(hN:N.length=vs.length)
 (hv:∀(i:Nat) (x:Str) (v:V),N[i]?=some x->vs[i]?=some v->scope.names.lookup x=some .free/\∃c u,clos.lookup x=some c/\s.heap.IsCell c (some u)/\RelV v u)
 (hb:bZ k (A.deeper (jG qual scope #[9] f (.ref c') clos))->PE (wz P w K mg base N qual scope f (.ref c') clos A outer s H E) body t)(hq:t (vs.map some) H Q) :
  codeAny (model P w) A (.call (.ref f) ⟨[],[]⟩) (CR (iF P w) outer P w H s Q E) s:=by
 have kb:∀b o,base.get? b=some o->s.heap.get? b=some o:=λb o e=>(e0.bs b o e).1;refine PySem.W.kla_callFunE hr.depth ho hd S.co S.gen rfl hcd ?_;rw[hbind];refine R3 (wpAny_newFunctionEnv S.nocell (λx hx=>nomatch hx) (λh₁ hns hsb=>?_) S.kind);have hk₁:∀b o,s.heap.get? b=some o->h₁.get? b=some o:=λb o e=>(hsb.2 b (Sg (R7 e))).trans (R1 _ e);refine⟨(e0.mod.nolimit.keeps kb).keeps hk₁,?_⟩;show codeAny _ _ (.expr body (jG qual scope #[9] f (.ref c') clos)) _ _;refine PySem.W.kla_codeExpr ?_;have isK:∀{c:Addr} {v:Option Value},s.heap.IsCell c v->h₁.IsCell c v:=λ⟨ob,e,d⟩=>⟨ob,hk₁ _ _ e,d⟩;have noA:∀b:Addr,b∉([]:Vx):=λb z=>nomatch z
 have I:Inv (wz P w K mg base N qual scope f (.ref c') clos A outer s H E) [] (vs.map some) H {s with heap:=h₁,toks:=s.toks+([]:List (Str×Value)).length}:=by
  refine⟨⟨e0.mod,S.kind,rfl,rfl,R5 _,hinj,λy hy=>?_,(λy c hf _=>nomatch hf),λ_=>hr.hd,Around.frames_deeper e0.frames,.inr ⟨rfl,rfl⟩,λb z=>absurd z (noA b),e0.bs,e0.bsz,λb _ _=>noA b,λb z=>absurd z (noA b),e0.jB,e0.frf⟩,
   rfl,e0.bare,Un.kept hk₁,⟨_,hns,λi x v h1 h2 h3=>?_⟩,λx c h=>?_,e0.hok.fresh (R5 _),λx c h=>(hcell x c h).2,(λp hp=>nomatch hp),e0.hok.kept hk₁,?_⟩
  ·have hy:scope.names.lookup y=some .cell\/scope.names.lookup y=some .free:=hy;rcases hy with hy|hy
   ·exact absurd rfl (S.nocell _ (SR hy))
   ·exact hhas y hy
  ·have h2':vs[i]?=some v:=by
    rw[SD]at h2
    cases e:vs[i]? with
    |none=>rw[e]at h2;cases h2
    |some u=>rw[e]at h2;cases h2;rfl
   obtain⟨hf,c,u,hc,hic,rv⟩:=hv i x v h1 h2';exact⟨u,rv,.inr ⟨.inr hf,c,hc,isK hic⟩⟩
  ·obtain⟨⟨v,hv'⟩,_⟩:=hcell x c h;exact⟨v,isK hv'⟩
  ·rw[Ss];exact hN.symm
 refine S3 (hb (hr.deeper _) [] _ _ H Q I hq) (λu s' ⟨v,H',J,rv,q⟩=>?_) λe s' h=>h;exact⟨v,H',J.os,J.bare,J.base,J.hok,rv,q⟩
noncomputable def Ly(P:VG)(w:World)(K:Vz)(mg:Vv)(base:Heap)(s:VI)(H:Hp)(f:Addr)(k:Nat)(G:VK->XK->Prop):Prop:=
 (∃o fd,s.heap.get? f=some o/\o.data=.func fd)/\H f=none /\
 ∀(A:VH) (outer:List Env) (s2:VI) (fs:Vx) (Q:VK) (E:XK),bZ k A->xu P w K mg base A outer s2 H->Un fs [] H H s.heap s2.heap->G Q E->codeAny (model P w) A (.call (.ref f) ⟨[],[]⟩) (CR (iF P w) outer P w H s2 Q E) s2
noncomputable def NP(G:VK->XK->Prop)(EH:XK)(i:Nat)(H0:Hp)(f:Addr):TE:=λσ H Q=>σ[i]?=some (some (.ref f))/\H=H0/\G Q EH
theorem AQ(hN:X.N[i]?=some x)(hl:X.env.scope.names.lookup x=some .local)(hdb:(x==("__debug__" : Str))=false)(hcd:(x==("__classdict__" : Str))=false)(hex:X.ex=[])
 (L:Ly X.prog X.w X.K X.mg X.base X.s₀ X.H₀ f k G)(hr:bZ k X.A)(hx:Passes (iF X.prog X.w) X EH):PE X (.Call (.Name x p) [] [] pos) (NP G EH i X.H₀ f):=by
 rintro pins s σ H Q I ⟨h1,h2,h3⟩;subst h2
 have ub:Un X.fs [] X.H₀ X.H₀ X.s₀.heap s.heap:=by
  have:=I.base
  grind
 obtain⟨⟨o,fd,ho,hfd⟩,hf0,hrun⟩:=L;refine SU (bS (xo hN (.inl hl) hdb hcd pins s σ X.H₀ (λv H'=>v=.ref f/\H'=X.H₀) I ⟨_,h1,rfl,rfl⟩) λu s1 ⟨v,H1,I1,r1,q1,q2⟩=>?_);subst q1;subst q2;cases r1;have ub1:Un X.fs [] X.H₀ X.H₀ X.s₀.heap s1.heap:=by have:=I1.base;rw[hex]at this;exact this
 obtain⟨sl,e1⟩:=ub1.any ho hf0 (λz=>nomatch z);obtain⟨oc,od,dat,osl⟩:=o;cases hfd;refine PySem.W.callWith_F0 ⟨_,_,_,_,e1⟩ ?_;refine Vh (UY (hrun X.A X.stack s1 X.fs Q EH hr I1.HB ub1 h3) λr s' hq=>?_)
 cases r with
 |error e=>exact hx pins σ _ s1 e s' I1 hq
 |ok fl=>
  cases fl with
  |ret u=>exact I1.after hq
  |next=>exact False.elim hq
  |brk=>exact False.elim hq
  |cont=>exact False.elim hq
end L2
namespace L2
open PySem
noncomputable def xH(H:Hp)(b:Addr):Hp:=λa=>if a=b then none else H a
theorem AS(h:a≠b):xH H b a=H a:=if_neg h
theorem Fd:xH H b b=none:=if_pos rfl
theorem Ii(h:xH H b a=some o):a≠b/\H a=some o:=by
 by_cases e:a=b
 ·grind[Fd]
 simp_all[AS]
end L2
namespace L2
open PySem PySem.Spec PyProof.Rows
structure Ext(H G H' G':Hp):Prop where
 sh:aW H H'
 sg:aW G G'
 gs:aW G' H'
 old:∀c,H c≠none->G' c=G c
theorem Ext.refl{H G:Hp}(s:aW G H):Ext H G H G:=⟨aW.refl H,aW.refl G,s,λ_ _=>rfl⟩
theorem Ext.new(s:aW G H)(hp:H p=none):Ext H G (upd H p o) (upd G p o):=by
 refine⟨aW.new hp,aW.new (s.free hp),λc u e=>?_,λc hc=>au λz=>hc (z▸hp)⟩;by_cases h:c=p
 ·grind[aG]
 ·rw[au h]at e ⊢;exact s c u e
section
variable {X:Cx} {k:Nat}
noncomputable def NQ:R2:=λx y H Q=>∃G ds es,aW G H/\Rep G (.tuple ds) x/\Rep G (.tuple es) y/\ds.length+es.length<=sizeLine/\∀r H' G',Ext H G H' G'->Rep G' (.tuple (ds++es)) r->Q r H'
theorem Ij:iC X (binaryOp .Add) NQ:=by
 intro pins s σ H x y v u Q I rx ry h;obtain⟨G,ds,es,sg,h1,h2,hz,q⟩:=h;obtain⟨a,vs,rfl,ha,r1⟩:=id h1;obtain⟨b,us,rfl,hb,r2⟩:=id h2;by_cases hv:vs=[]
 ·subst hv;have hd:ds=[]:=UM.mp r1.length.symm;subst hd;cases rx;cases ry;obtain⟨its1,v1,⟨⟨c1,d1,e1,l1⟩,p1,g1,n1,z1⟩,_⟩:=I.tuple (fW.of (K:=X.K) (sg _ _ ha));obtain⟨its2,v2,⟨⟨c2,d2,e2,l2⟩,p2,g2,n2,z2⟩,_⟩:=I.tuple (fW.of (K:=X.K) (sg _ _ hb));simp only at g1 z1 g2 z2;subst g1 z1 g2 z2;cases v1;exact concat_meets ⟨_,p1,rfl⟩ ⟨_,p2,rfl⟩ noFill_tuple_add seq_tuple_add UR UH (UA _ _) (tuple_addW0 a b _ _ n1 n2 d1 d2 l1 l2 rfl) ⟨p1,p2,⟨.ref b,H,I,rfl,q _ H G (Ext.refl sg) h2⟩⟩
 ·refine HH pins s σ H _ _ v u Q I rx ry ⟨a,b,vs,us,rfl,rfl,fW.of (sg _ _ ha),fW.of (sg _ _ hb),hv,by grind[r1.length,r2.length],λe=>?_,λe p hp=>?_⟩
  ·subst e;have he:es=[]:=UM.mp r2.length.symm;subst he;exact q _ H G (Ext.refl sg) (by rw[Ug];exact h1)
  ·have x:=Ext.new (o:=.tup (vs++us)) sg hp;exact q _ _ _ x ⟨p,_,rfl,aG,bg.append (r1.same x.sg) (r2.same x.sg)⟩
noncomputable def Qc:V->Option Int->Option Int->Hp->VK->Prop:=λx lo hi H Q=>∃G ds,aW G H/\Rep G (.tuple ds) x/\∀r H' G',Ext H G H' G'->Rep G' (.tuple (cutD ds lo hi)) r->Q r H'
theorem Ik:NB X Qc:=by
 intro pins s σ H x v vl vu lo hi sl Q I rx hs pl pu h;obtain⟨G,ds,sg,h1,q⟩:=h;obtain⟨a,xs,rfl,ha,r1⟩:=id h1;cases rx;obtain⟨its,rv,ht,hz⟩:=I.tuple (fW.of (K:=X.K) (sg _ _ ha));have hl:its.toArray.size=xs.length:=by rw[Si];exact rv.length.symm
 by_cases hw:HT.fx xs.length 0 lo=0/\HT.fx xs.length xs.length hi=xs.length
 ·refine⟨"tuple",_,So.lookup,ht.typeIs,vP ht hs pl pu (by grind) (by grind) ⟨.ref a,H,I,rfl,q _ H G (Ext.refl sg) ?_⟩⟩
  have e:cutD ds lo hi=ds:=by
   simp_all[cutD,r1.length,hw,List.drop_zero,Nat.sub_zero,List.take_length]
  grind
 ·refine K8 pins s σ H (.ref a) _ vl vu lo hi sl Q I rfl hs pl pu ⟨a,xs,rfl,fW.of (sg _ _ ha),hw,λp hp=>?_⟩;have x:=Ext.new (o:=.tup (yX xs lo hi)) sg hp;refine q _ _ _ x ⟨p,_,rfl,aG,?_⟩;have e:cutD ds lo hi=(ds.drop (HT.fx xs.length 0 lo)).take (HT.fx xs.length xs.length hi-HT.fx xs.length 0 lo):=by unfold cutD;rw[r1.length]
  rw[e];exact((r1.same x.sg).drop _).take _
end
theorem Vals.J4:∀(us:Vy) (f:Nat->V),(∀j v,us[j]?=some v->RelV (f j) v)->Vals ((List.range us.length).map f) us
 | [],_,_=>.nil
 |u::us,f,h=>by rw[SG,List.range_succ_eq_map,Sy,UC];exact .cons (h 0 u rfl) (Vals.J4 us _ λj v e=>h _ v e)
section
variable {X:Cx}
theorem zg(hc:X.calm=true):cX X (.type "tuple") (λxs H Q=>∃x,xs=[.str x]/\x.cps.size<=sizeLine/\∀p,H p=none->Q (.ref p) (upd H p (.tup ((List.range x.cps.size).map (sgn x))))):=by
 intro pins s σ H xs us Q I r h;obtain⟨x,rfl,hz,q⟩:=h;obtain⟨u,rfl,rx⟩:=vals1 r;obtain⟨t,rfl⟩:=rx;refine call_tuple_str (I.ok.hd hc) x t (λh' tk acc kp hacc=>?_) hz;have I1:Inv X pins σ H {s with heap:=h',toks:=tk}:=I.kept (t':=tk) kp
 have hv:Vals ((List.range x.cps.size).map (sgn x)) acc.toList:=by
  have e:acc.toList.length=x.cps.size:=by rw[Te,hacc.1]
  rw[<- e];refine Vals.J4 _ _ λj v ev=>xE j v ?_ (hacc.2 j v (by simp_all));rw[<- e]
  grind
 have I2:Inv X pins σ (upd H h'.objs.size (.tup ((List.range x.cps.size).map (sgn x)))) {s with heap:=h'.push {cls:=.type "tuple",data:=.seq acc},toks:=tk}:=by
  refine I1.laid (t':=tk) (λb o e=>R1 _ e) (R5 _) (show bW X.prog X.w _ _ _ (.tup _)from⟨by simp_all,acc.toList,hv,?_⟩);have:=IsTup.new h' acc
  simp_all
 exact⟨.ref h'.objs.size,_,I2,rfl,q _ (I1.hok.fresh (R5 _))⟩
end
noncomputable def recAt(c:Addr)(q:Str):Heap->Prop:=λh=>h.CodeRec (.ref c) q
theorem recAt.ok(x:recAt c q h):bW P w H h c (.ext (recAt c q)):=by
 have st:∀h1 h2:Heap,recAt c q h1->(∀o,h1.get? c=some o->h2.get? c=some o)->recAt c q h2:=by rintro h1 h2 ⟨c1,oc,vs,t,e,e1,e2,e3⟩ k;cases e;exact⟨c,oc,vs,t,rfl,k _ e1,e2,e3⟩
 exact⟨x,(by obtain⟨c1,oc,vs,t,e,e1,_⟩:=x;simp_all),st⟩
noncomputable def wA(H:Hp)(P:Addr)(q:Str):Prop:=∃ps:VE,H P=some (.tbl ps)/\TriplesOk ps.toList/\∀(pos:Pos) (c:Value),codeAmong pos ps.toList=some c->∃a,c=.ref a/\a≠P/\H a=some (.ext (recAt a q))
theorem nu:∀(n:Nat) (l:Vy),l.length<=n->TriplesOk l->TriplesOk (l++[.int a t,.int b u,c])
 |_,[],_,_=>trivial
 |0,_::_,h,_=>absurd h #[6]
 |n+1,v::l,hn,ht=>by
  unfold TriplesOk at ht;split at ht
  ·grind
  ·rename_i x y x' y' z r e;cases e;have hl:r.length<=n:=by grind
   exact nu n r hl ht
  grind
theorem xI(h:TriplesOk l):TriplesOk (l++[.int a t,.int b u,c]):=nu l.length l (R5 _) h
theorem rE(pos:Pos):∀(n:Nat) (l:Vy),l.length<=n->TriplesOk l->codeAmong pos (l++[.int a t,.int b u,c])=some d->codeAmong pos l=some d\/d=c
 |_,[],_,_,h=>by
  grind[List.nil_append,codeAmong]
 |0,_::_,h,_,_=>absurd h #[6]
 |n+1,v::l,hn,ht,h=>by
  unfold TriplesOk at ht;split at ht
  ·grind
  ·rename_i x y x' y' z r e;cases e;have hl:r.length<=n:=by simp only[SG]at hn;omega
   have h':codeAmong pos (.int x y::.int x' y'::z::(r++[.int a t,.int b u,c]))=some d:=h;unfold codeAmong at h' ⊢;split at h'
   ·rename_i q;rw[if_pos q];exact .inl h'
   ·rename_i q;rw[if_neg q];exact rE pos n r hl ht h'
  grind
theorem AU(pos:Pos)(ht:TriplesOk l)(h:codeAmong pos (l++[.int a t,.int b u,c])=some d):codeAmong pos l=some d\/d=c:=rE pos l.length l (R5 _) ht h
structure BMod(base:Heap)(mg:Vv)(bm:Addr):Prop where
 g:mg "__builtins__" = some (.ref bm)
 n1:bm≠builtinsNs
 ob:∃o,base.get? bm=some o/\o.cls=.type "module" /\ o.dict=some builtinsNs/\o.data=.plain
section
variable {X:Cx} {pins:Vt} {σ:St} {H:Hp} {s:VI}
theorem Fe(I:#[10])(hcode:X.env.code=.ref c)(ht:PySem.W.codeHdIn X.K c P=true)(B:BMod X.base X.mg bm)
 (tb:wA H P #[16])(hdef:defaultsOf params X.env=([],[]))(hfree:∀n,(n,NameKind.free)∈lscope.names->X.env.kindOf n=some .cell\/X.env.kindOf n=some .free)
 (k:∀f o c' pm ctv H' s',Inv X pins σ H' s'->s'.heap.get? f=some o->o.data=.func (PySem.W.kla_fn "<lambda>" #[16] params body lscope (cT X.env.cells lscope.names []) pm (.ref c') ctv)->H' f=none->H' c'=some (.ext (recAt c' #[16])) ->
   wA H' P #[16]->aW (xH H P) (xH H' P)->Q (.ref f) s') :
  wpAny #[12] X.A (eval (.Lambda params body lscope lpos) X.env) Q E s:=by
 obtain⟨ps,hP,htr,hcs⟩:=id tb;have hPo:s.heap.get? P=some (PySem.W.tabObj ps):=(show bW X.prog X.w H s.heap P (.tbl ps)from I.hok P _ hP);have C:PySem.W.CodeHd s.heap c P:=PySem.W.codeHd_of_K I.qr ht;have hgs:s.heap.Ns mainGlobals X.mg:=I.mod.glob.keeps I.bk;obtain⟨ob,hbo,hb1,hb2,hb3⟩:=B.ob;have hbh:=I.bk _ _ hbo
 have hgP:mainGlobals≠P:=λz=>by
  obtain⟨o,es,ep,e,hd,_⟩:=hgs
  grind
 have hbP:bm≠P:=λz=>by grind
 have hbG:bm≠mainGlobals:=λz=>by obtain⟨o,es,ep,e,hd,_⟩:=id hgs;rw[<- z,hbh]at e;cases e;rw[hb3]at hd;cases hd
 have hb:s.heap.BuiltinsAt X.mg P:=⟨bm,_,B.g,B.n1,hbG,hbP,hbh,hb1,hb2,hb3⟩;have hcl:=gf (scope:=lscope) (env:=X.env) λn hn=>I.ok.has n (hfree n hn);refine PySem.W.kla_eval hdef ?_
 cases hca:codeAmong lpos ps.toList with
 |some cv=>obtain⟨a,rfl,hne,ha⟩:=hcs lpos cv hca;refine PySem.W.kla_makeFunctionHit (mg:=X.mg) hcl I.ok.glob hgs hcode C hPo htr hca hb λctv h' tk hk hsz=>?_;have kp:∀b u,s.heap.get? b=some u->(h'.push {cls:=.type "function",data:=.func (PySem.W.kla_fn "<lambda>" #[16] params body lscope (cT X.env.cells lscope.names []) ((X.mg "__name__").getD .none) (.ref a) ctv)}).get? b=some u:=λb u e=>R1 _ (hk b u e);exact k h'.objs.size _ a _ ctv H _ (I.kept (t':=tk) kp) (R8 _ rfl) rfl (I.hok.fresh hsz) ha tb (aW.refl _)
 |none=>
  refine PySem.W.kla_makeFunction (mg:=X.mg) hcl I.ok.glob hgs hcode C hPo htr hca hgP hb λc' ctv h' tk hx hge hlt hrec htb=>?_;have hc0:H c'=none:=I.hok.fresh hge;have hcP:c'≠P:=λz=>by rw[z,hP]at hc0;cases hc0
  have hf0:H h'.objs.size=none:=I.hok.fresh (Uy (UN hge hlt));have hsz:#[9]<=h'.objs.size:=Uy (UN hge hlt);have hfc:h'.objs.size≠c':=Uz hlt;have hfP:h'.objs.size≠P:=λz=>by rw[<- z,hf0]at hP;cases hP
  have kp:∀b u,b≠P->s.heap.get? b=some u->(h'.push (PySem.W.kla_obj "<lambda>" #[16] params body lscope (cT X.env.cells lscope.names []) ((X.mg "__name__").getD .none) c' ctv)).get? b=some u:=λb u n e=>R1 _ (hx b u n e);have hPn:(h'.push (PySem.W.kla_obj "<lambda>" #[16] params body lscope (cT X.env.cells lscope.names []) ((X.mg "__name__").getD .none) c' ctv)).get? P=some (PySem.W.tabObj (ps++#[rawInt lpos.line,rawInt lpos.col,.ref c'])):=R1 _ htb;have hrecn:recAt c' #[16] (h'.push (PySem.W.kla_obj "<lambda>" #[16] params body lscope (cT X.env.cells lscope.names []) ((X.mg "__name__").getD .none) c' ctv)):=by obtain⟨c1,oc,vs,t,e,e1,e2,e3⟩:=hrec;cases e;exact⟨c',oc,vs,t,rfl,R1 _ e1,e2,e3⟩
  have hfn:(h'.push (PySem.W.kla_obj "<lambda>" #[16] params body lscope (cT X.env.cells lscope.names []) ((X.mg "__name__").getD .none) c' ctv)).get? h'.objs.size=some (PySem.W.kla_obj "<lambda>" #[16] params body lscope (cT X.env.cells lscope.names []) ((X.mg "__name__").getD .none) c' ctv):=R8 _ rfl;generalize h'.push (PySem.W.kla_obj "<lambda>" #[16] params body lscope (cT X.env.cells lscope.names []) ((X.mg "__name__").getD .none) c' ctv)=g at kp hPn hrecn hfn;have nP:∀b,H b=none->b≠P:=λb n z=>by rw[z,hP]at n;cases n
  have J:Inv X pins σ (upd (upd H P (.tbl (ps++#[rawInt lpos.line,rawInt lpos.col,.ref c']))) c' (.ext (recAt c' #[16]))) {s with heap:=g,gens:=s.gens,drawn:=s.drawn,toks:=tk}:=by
   refine I.step (g':=s.gens) (d':=s.drawn) (t':=tk) (ch:=[]) (λ_ z=>nomatch z) (λb o _ _ _ e n=>kp b o (nP b n) e) (λb o _ _ _ e n=>⟨o.slots,kp b o (nP b n) e⟩) (λb o _ e n=>?_) (λb o _ e=>?_) (λb xs e=>?_) (λb o u e=>?_) (λb qs e=>?_) (λm hm=>?_) (λb u e=>?_) I.bare
   ·have bc:b≠c':=Sg (Sa (R7 e) hge);rw[au bc,au (nP b n)];exact n
   ·by_cases hb':b=P
    ·subst hb';exact⟨_,hPn⟩
    ·exact⟨o,kp b o hb' e⟩
   ·have bP:b≠P:=λz=>by rw[z,hP]at e;cases e
    rw[au (aB e hc0),au bP];exact e
   ·have bP:b≠P:=λz=>by rw[z,hP]at e;cases e
    rw[au (aB e hc0),au bP];exact e
   ·by_cases hb':b=P
    ·subst hb';rw[hP]at e;cases e;exact⟨_,by rw[au (UD hcP),aG]⟩
    ·exact⟨#[],by rw[au (aB e hc0),au hb',e];simp⟩
   ·obtain⟨o,es,ep,ho,r⟩:=hm;exact⟨o,es,ep,kp _ o (nP _ I.free) ho,r⟩
   ·by_cases hbc:b=c'
    ·subst hbc;rw[aG]at e;cases e;exact recAt.ok hrecn
    ·rw[au hbc]at e;by_cases hb':b=P
     ·subst hb';rw[aG]at e;cases e;exact hPn
     ·rw[au hb']at e;refine(I.hok b u e).nQ (λd v hd z=>kp d v ?_ z) (λd z=>?_) λd xs z=>?_
      ·rcases hd with hd|hd
       ·rw[hd];exact hb'
       ·intro y;rw[y,hP]at hd;cases hd
      ·have dP:d≠P:=λy=>by rw[y,hP]at z;cases z
       rw[au (aB z hc0),au dP];exact z
      ·have dP:d≠P:=λy=>by rw[y,hP]at z;cases z
       rw[au (aB z hc0),au dP];exact z
  have sH:aW (xH H P) (xH (upd (upd H P (.tbl (ps++#[rawInt lpos.line,rawInt lpos.col,.ref c']))) c' (.ext (recAt c' #[16]))) P):=λb o e=>by obtain⟨n1,e1⟩:=Ii e;rw[AS n1,au (aB e1 hc0),au n1];exact e1
  refine k h'.objs.size _ c' _ ctv _ _ J hfn rfl (by rw[au hfc,au hfP];exact hf0) aG ⟨_,by rw[au (UD hcP),aG],?_,λpos d z=>?_⟩ sH
  ·rw[Array.toList_append];exact xI htr
  ·rw[Array.toList_append]at z;rcases AU pos htr z with z|z
   ·obtain⟨a,h1,h2,h3⟩:=hcs pos d z;exact⟨a,h1,h2,by rw[au (aB h3 hc0),au h2];exact h3⟩
   ·exact⟨c',z,hcP,aG⟩
end
structure xJ(P:VG)(w:World)(K:Vz)(mg:Vv)(base:Heap)(x:Str)(ps:VA)(k:Nat)(sp:VI->Sp):Prop where
 ex:∃(f:Addr) (fd:FuncData),mg x=some (.ref f)/\PySem.W.keepIn K (.ref f)=true/\Binds K fd ps []/\E8 P w K mg base Dm k f fd ps sp
noncomputable def wB(P:VG)(w:World)(K:Vz)(mg:Vv)(base:Heap)(k:Nat)(M:(VK->XK->Prop)->VK->Prop):VI->Sp:=λs vs H Q _=>∃f G,vs=[.ref f]/\Ly P w K mg base s H f k G/\M G Q
theorem nY(hh:∀n,(n,NameKind.free)∈names->∃c,cells.lookup n=some c)(h:(cT cells names []).lookup x=some c):(x,NameKind.free)∈names/\cells.lookup x=some c:=by
 by_cases hm:(x,NameKind.free)∈names
 ·rw[dX hm]at h
  grind
 simp_all[jm]
noncomputable def Il(tb:XK->TE)(idx:List Nat)(P:Addr)(q:Str)(M:(VK->XK->Prop)->VK->Prop):TE:=λσ H Q=>∃vs:List V,vs.length=idx.length/\(∀(j:Nat) (v:V),vs[j]?=some v->∃i,idx[j]?=some i/\σ[i]?=some (some v))/\wA H P q /\
 ∀H1,wA H1 P q->aW (xH H P) (xH H1 P)->M (λQ' E'=>tb E' (vs.map some) H1 Q') Q
section
variable {X:Cx}
theorem DB{lpos p pos:Pos}
 (F:xJ X.prog X.w X.K X.mg X.base g [pn] k (wB X.prog X.w X.K X.mg X.base (kl+1) M))(hr:bZ k X.A)(hg:Gl X g)(hcode:X.env.code=.ref c)(ht:PySem.W.codeHdIn X.K c P=true)(B:BMod X.base X.mg bm)
 (S:tU lscope)(hdef:defaultsOf params X.env=([],[]))(hfree:∀n,(n,NameKind.free)∈lscope.names->X.env.kindOf n=some .cell\/X.env.kindOf n=some .free)(hlk:∀x,(x,NameKind.free)∈lscope.names->lscope.names.lookup x=some .free)
 (hbind:∀clos pm c' ctv,bindArgs (PySem.W.kla_fn "<lambda>" #[16] params body lscope clos pm (.ref c') ctv) ⟨[],[]⟩=pure [])
 (hN2:N2.length=idx.length)(hix:∀(j:Nat) (x:Str),N2[j]?=some x->∃i,idx[j]?=some i/\X.N[i]?=some x/\(x,NameKind.free)∈lscope.names)
 (hbody:∀(f c':Addr) (clos:List (Str×Addr)) (A:VH) (outer:List Env) (s:VI) (H:Hp) (E:XK),bZ kl (A.deeper (jG #[16] lscope #[9] f (.ref c') clos))->PE (wz X.prog X.w X.K X.mg X.base N2 #[16] lscope f (.ref c') clos A outer s H E) body (tb E))
 (hdb:(g==("__debug__" : Str))=false:=by decide)(hs:starEach [.Lambda params body lscope lpos] X.env=(false,eval (.Lambda params body lscope lpos) X.env)::starEach [] X.env:=by rfl) :
  PE X (.Call (.Name g p) [.Lambda params body lscope lpos] [] pos) (Il tb idx P #[16] M):=by
 obtain⟨fg,fd,hm,hk,hb,FS⟩:=F.ex;rintro pins s σ H Q I ⟨vs,hvl,hvs,tab,km⟩;refine SU (mI I hg hm ?_ hdb);refine UE (h₀:=X.base) I.ok.mod.kin hk ?_ hs rfl;rw[hs];refine Calls.spliced_cons (Fe I hcode ht B tab hdef hfree λf o c' pm ctv H1 s1 I1 ho hd hf0 hc' tab1 sH=>?_);refine Calls.spliced_nil ⟨I1.qr,?_⟩;have hh:∀n,(n,NameKind.free)∈lscope.names->∃c,X.env.cells.lookup n=some c:=λn hn=>I1.ok.has n (hfree n hn)
 have LC:Ly X.prog X.w X.K X.mg X.base s1 H1 f (kl+1) (λQ' E'=>tb E' (vs.map some) H1 Q'):=by
  refine⟨⟨o,_,ho,hd⟩,hf0,λA outer s2 fs Q' E' hr' e0 un hG=>?_⟩;have no:∀b:Addr,b∉([]:Vx):=λb z=>nomatch z;obtain⟨sl,e1⟩:=un.any ho hf0 (no f);have cellU:∀x cc v,X.env.cells.lookup x=some cc->s1.heap.IsCell cc v->s2.heap.IsCell cc v:=by rintro x cc v hx ⟨ob,eo,dd⟩;obtain⟨sl',e'⟩:=un.any eo (I1.freeC x cc hx) (no cc);exact⟨_,e',dd⟩
  obtain⟨rec,_⟩:=(show bW X.prog X.w H1 s2.heap c' (.ext (recAt c' #[16]))from e0.hok c' _ hc');refine Ih (N:=N2) (vs:=vs) (t:=tb E') (o:={o with slots:=sl}) S hr' e0 e1 hd rec (hbind _ _ _ _) (λx y cc h1 h2=>?_) (λx hx=>?_) (λx cc h1=>?_) (by rw[hN2,hvl]) (λj x v h1 h2=>?_) (hbody f c' _ A outer s2 H1 E') hG
  ·exact I1.ok.inj x y cc (nY hh h1).2 (nY hh h2).2
  ·have hm':=SR hx;obtain⟨cc,e⟩:=hh x hm';exact⟨cc,by rw[dX hm',e];rfl⟩
  ·have hx:=(nY hh h1).2;obtain⟨v,hv⟩:=I1.cell x cc hx;exact⟨⟨v,cellU x cc v hx hv⟩,I1.freeC x cc hx⟩
  ·obtain⟨i,hi,hNi,hmx⟩:=hix j x h1;obtain⟨i',hi',hσ⟩:=hvs j v h2;rw[hi]at hi';cases hi';obtain⟨m,hns,hl⟩:=I1.loc;have vis:Eo X.env.scope x:=(hfree x hmx).elim (λz=>.inr (.inl z)) (λz=>.inr (.inr z));obtain⟨u,rv,look⟩:=hl i x v hNi hσ vis;refine⟨hlk x hmx,?_⟩;rcases look with⟨kl',_⟩|⟨_,cc,hc,hcell⟩
   ·rcases hfree x hmx with z|z
    ·rw[kl']at z;cases z
    ·rw[kl']at z;cases z
   ·exact⟨cc,u,by rw[dX hmx,hc];rfl,cellU x cc _ hc hcell,rv⟩
 have hsp:wB X.prog X.w X.K X.mg X.base (kl+1) M s1 [.ref f] H1 Q E0:=⟨f,_,rfl,LC,km H1 tab1 sH⟩;have r2:Vals [V.ref f] [Value.ref f]:=.cons rfl .nil;have hl:([Value.ref f]++[]).length=[pn].length:=rfl;refine Vh (UY (FS.run X.A X.stack s1 H1 ⟨[.ref f],[]⟩ ([.ref f]++[]) [.ref f] Q E0 hr I1.HB (hb s1 [.ref f] I1.qr hl) r2 hsp) λr s' hq=>?_)
 cases r with
 |error e=>exact hq.elim
 |ok fl=>
  cases fl with
  |ret u=>exact I1.after hq
  |next=>exact False.elim hq
  |brk=>exact False.elim hq
  |cont=>exact False.elim hq
end
end L2
namespace PySem.SeqAt
open PySem PySem.MeetsSeq PySem.AutoSeq1
theorem tV(b:Str)(u:Tok)(l:Addr)(es:VD)(n:Nat)(dd:Option Addr)(sl:VC) :
  Meets (Builtin.«str.__eq__» ⟨[.str b u,.ref l],[]⟩) (λ_ R s=>s.heap.get? l=some {cls:=.type "dict",dict:=dd,data:=.dict es n,slots:=sl}/\R (.ok (.ret .notImplemented)) s):=
 .of_wp λprog w A R s h=>by
  obtain⟨hl,h⟩:=h
  wp_walk using wpAny_loadPart' hl,U6 hl
  grind
theorem tW(b:Str)(u:Tok)(l:Addr)(es:VD)(n:Nat)(dd:Option Addr)(sl:VC) :
  Meets (Builtin.«dict.__eq__» ⟨[.ref l,.str b u],[]⟩) (λ_ R s=>s.heap.get? l=some {cls:=.type "dict",dict:=dd,data:=.dict es n,slots:=sl}/\R (.ok (.ret .notImplemented)) s):=
 .of_wp λprog w A R s h=>by
  obtain⟨hp,g,d,tk,os⟩:=s;obtain⟨hl,h⟩:=h;have f1:=F.sub_str_dict
  wp_walk using wpAny_loadPart' hl,U6 hl
  exact⟨_,rfl,h⟩
theorem EqAt.Im(b:Str)(u:Tok)(hl:s.heap.get? l=some {cls:=.type "dict",dict:=dd,data:=.dict es n,slots:=sl})(hu:A.units<cLine):EqAt A s (.str b u) (.ref l) false:=λprog w E Q h=>by
 refine SH (wpAny_ite_split (λhab=>absurd (eq_of_beq hab) nofun) (λ_=>R0 ?_))
 refine rc_eq_decline_or (typeIs_str s b u) ⟨_,hl,rfl⟩ #[4] F.sub_dict_str F.slot_str_eq Ux
  (λ_ hq=>Um F.slot_str_eq (typeIs_str s b u) F.entry_str_eq (F.args_str_eq_2 _ _) (tV b u l es n dd sl) ⟨hl,hq⟩)
  (λ_ hq=>Um Ux ⟨_,hl,rfl⟩ F.entry_dict_eq (F.args_dict_eq_2 _ _) (tW b u l es n dd sl) ⟨hl,hq⟩)
  (λ_ hq=>wpAny_of_eq (rfl:isSame _ _=pure false) hq) (.inr hu) (S0 h)
end PySem.SeqAt
set_option maxHeartbeats 4000000
namespace PySem.W
open PySem PySem.Calls PyProof.Rows
noncomputable def KasT.Run{α:Type}(lt:Nat->Nat->Bool)(n:Nat):KasT α->(α->Prop)->Prop
 |.ret a,P=>P a
 |.ask i j k,P=>i<n/\j<n/\(k (lt i j)).Run lt n P
theorem KasT.run_bind{P:β->Prop} :
  ∀(t:KasT α),t.Run lt n (λa=>(f a).Run lt n P)->(t.bind f).Run lt n P
 |.ret _,h=>h
 |.ask _ _ k,h=>⟨h.1,h.2.1,KasT.run_bind (k _) h.2.2⟩
theorem KasT.dY{P Q:α->Prop}(hq:∀a,P a->Q a) :
  ∀(t:KasT α),t.Run lt n P->t.Run lt n Q
 |.ret a,h=>hq a h
 |.ask _ _ k,h=>⟨h.1,h.2.1,KasT.dY hq (k _) h.2.2⟩
theorem KasT.AV{Q:α->VI->Prop}{I:VI->Prop}
 (hc:∀i j C s,i<n->j<n->I s->(∀s',I s'->C (lt i j) s')->cmp i j C s)(hq:∀a s,P a->I s->Q a s) :
  ∀(t:KasT α) (s:VI),t.Run lt n P->I s->t.kasWp cmp Q s
 |.ret a,s,h,hi=>hq a s h hi
 |.ask i j k,s,h,hi=>hc i j _ s h.1 h.2.1 hi (λs' hs'=>KasT.AV hc hq (k _) s' h.2.2 hs')
structure kT(lt:Nat->Nat->Bool)(n:Nat):Prop where
 as:∀a b,a<n->b<n->lt a b=true->lt b a=false
 tr:∀a b c,a<n->b<n->c<n->lt b a=false->lt c b=false->lt c a=false
noncomputable abbrev pat(p:VF)(k:Nat):Nat:=p.getD k 0
theorem qA(p:VF)(k:Nat):pat p k=p[k]?.getD 0:=by simp
structure cF(n:Nat)(p:VF):Prop where
 perm:p.toList.Perm (List.range n)
theorem cF.size(h:cF n p):p.size=n:=by
 have:=h.perm.length_eq
 grind
theorem cF.lt(h:cF n p)(hk:k<n):pat p k<n:=by
 have hs:k<p.size:=by simp_all[h.size]
 have e:pat p k=p[k]:=by simp_all
 rw[e];have:p[k]∈p.toList:=by simp
 exact SM.mp (h.perm.mem_iff.mp this)
theorem cF.of(h:cF n p)(e:q.Perm p):cF n q:=
 ⟨(Array.perm_iff_toList_perm.mp e).trans h.perm⟩
theorem cF.rev(h:cF n p)(i j:Nat):cF n (kas_rev p i j):=h.of (mirror_perm _ _ _ _)
theorem iG(h:cF n p)(hj:j<=n)(k:Nat) :
  pat (kas_rev p i j) k=if i<=k/\k<j then pat p (i+j-1-k)else pat p k:=by
 rw[qA];unfold kas_rev;rw[getElem?_mirror_all (by simp_all[h.size])];split<;>rw[qA]
theorem B1(h:cF n p)(hk:k<n)(hd:d<=k)(i:Nat) :
  pat (bubble p k d) i=if i=k-d then pat p k else if k-d<i/\i<=k then pat p (i-1)else pat p i:=by
 rw[qA,getElem?_bubble (by simp_all[h.size]) d hd];split
 ·simp
 ·split<;>rw[qA]
section
variable {lt:Nat->Nat->Bool} {n:Nat}
noncomputable def zh(lt:Nat->Nat->Bool)(p:VF)(m:Nat):Prop:=∀i j,i<j->j<m->lt (pat p j) (pat p i)=false
noncomputable def iH(lt:Nat->Nat->Bool)(p:VF)(m:Nat):Prop:=∀i j,i<j->j<m->lt (pat p i) (pat p j)=false
theorem kT.J7(O:kT lt n)(hx:x<n):lt x x=false:=by
 cases hh:lt x x with
 |false=>rfl
 |true=>have:=O.as _ _ hx hx hh;grind
theorem zh.more(O:kT lt n)(hp:cF n p)(h1:1<=m)(hm:m<n)(u:zh lt p m)(h:lt (pat p m) (pat p (m-1))=false):zh lt p (m+1):=by
 intro i j hij hj;rcases Tw j m with h'|h'
 ·exact u i j hij h'
 ·obtain rfl:j=m:=by omega
  rcases Tw i _ with h''|h''
  ·exact O.tr _ _ _ (hp.lt #[3]) (hp.lt #[3]) (hp.lt hm) (u i _ h'' #[3]) h
  ·obtain rfl:i=j-1:=by omega
   exact h
theorem iH.more(O:kT lt n)(hp:cF n p)(h1:1<=m)(hm:m<n)(u:iH lt p m)(h:lt (pat p (m-1)) (pat p m)=false):iH lt p (m+1):=by
 intro i j hij hj;rcases Tw j m with h'|h'
 ·exact u i j hij h'
 ·obtain rfl:j=m:=by omega
  rcases Tw i _ with h''|h''
  ·exact O.tr _ _ _ (hp.lt hm) (hp.lt #[3]) (hp.lt #[3]) h (u i _ h'' #[3])
  ·obtain rfl:i=j-1:=by omega
   exact h
theorem xM(O:kT lt n)(hp:cF n p):∀(f m:Nat),1<=m->m+f<=n->zh lt p m ->
  (kas_asc p f m).Run lt n (λr=>m<=r/\r<=m+f/\zh lt p r/\(r<m+f->lt (pat p r) (pat p (r-1))=true))
 |0,m,h1,hm,u=>⟨R5 _,R5 _,u,λh=>absurd h (Sj _)⟩
 |f+1,m,h1,hm,u=>by
  refine⟨hp.lt #[3],hp.lt #[3],?_⟩
  cases hc:lt _ _ with
  |true=>exact⟨R5 _,by omega,u,λ_=>hc⟩
  |false=>
   have hc':=hc;refine KasT.dY (λr hr=>?_) _ (xM O hp f _ #[3] #[3] (u.more O hp h1 #[3] hc'))
   grind
noncomputable def OY(lt:Nat->Nat->Bool)(p:VF)(a b:Nat):Prop:=∀i j,a<=i->i<b->a<=j->j<b->lt (pat p i) (pat p j)=false
theorem tX(hp:cF n p)(hb:b<=m)(hm:m<=n)(d:iH lt p m)(e:OY lt p a b):iH lt (kas_rev p a b) m:=by
 intro i j hij hj;rw[iG hp #[3],iG hp #[3]];split
 ·split
  ·exact e _ _ #[3] #[3] #[3] #[3]
  ·exact d _ _ #[3] #[3]
 ·split
  ·exact d _ _ #[3] #[3]
  ·exact d _ _ hij hj
theorem Lz(hp:cF n p)(hm:m<=n)(d:iH lt p m):zh lt (kas_rev p 0 m) m:=by intro i j hij hj;rw[iG hp hm,iG hp hm,if_pos #[3],if_pos #[3]];exact d _ _ #[3] #[3]
theorem iH.zero:iH lt p 1:=λi j h h'=>by omega
theorem pE(O:kT lt n):∀(f:Nat) (p:VF) (m q:Nat),cF n p->q+1<=m->m+f<=n->iH lt p m->OY lt p (m-(q+1)) m ->
  (kas_desc f p m q).Run lt n (λr=>cF n r.1/\r.2.2+1<=r.2.1/\r.2.1<=m+f/\iH lt r.1 r.2.1/\OY lt r.1 (r.2.1-(r.2.2+1)) r.2.1)
 |0,p,m,q,hp,hq,hm,d,e=>⟨hp,hq,R5 _,d,e⟩
 |f+1,p,m,q,hp,hq,hm,d,e=>by
  refine⟨hp.lt #[3],hp.lt #[3],?_⟩
  cases hc:lt (p.getD m 0) (p.getD (m-1) 0)with
  |true=>
   simp only[Tr];have h1:lt (pat p (m-1)) (pat p m)=false:=O.as _ _ (hp.lt #[3]) (hp.lt #[3]) hc;split
   ·have hd2:=tX (n:=n) hp (R5 m) #[3] d e;have hp2:=hp.rev (m-(q+1)) m;refine KasT.dY (λr hr=>⟨hr.1,hr.2.1,by have:=hr.2.2.1;omega,hr.2.2.2⟩) _ (pE O f _ (m+1) 0 hp2 #[3] #[3] ?_ ?_)
    ·refine hd2.more O hp2 #[3] #[3] ?_;rw[iG hp #[3],iG hp #[3],if_pos #[3],if_neg #[3]];refine O.tr _ _ _ (hp.lt #[3]) (hp.lt #[3]) (hp.lt #[3]) h1 ?_;exact e _ _ #[3] #[3] #[3] #[3]
    ·intro i j h1 h2 h3 h4;obtain rfl:i=m:=by omega
     obtain rfl:j=i:=by omega
     exact O.J7 (hp2.lt #[3])
   ·refine KasT.dY (λr hr=>⟨hr.1,hr.2.1,by have:=hr.2.2.1;omega,hr.2.2.2⟩) _ (pE O f _ (m+1) 0 hp #[3] #[3] (d.more O hp #[3] #[3] h1) ?_);intro i j h1 h2 h3 h4;obtain rfl:i=m:=by omega
    obtain rfl:j=i:=by omega
    exact O.J7 (hp.lt #[3])
  |false=>
   simp only[Sx,TK];refine⟨hp.lt #[3],hp.lt #[3],?_⟩
   cases hc2:lt (p.getD (m-1) 0) (p.getD m 0)with
   |true=>simp only[Tr];exact⟨hp,hq,by show m<=_;omega,d,e⟩
   |false=>
    simp only[Sx,TK];refine KasT.dY (λr hr=>⟨hr.1,hr.2.1,by have:=hr.2.2.1;omega,hr.2.2.2⟩) _ (pE O f _ (m+1) (q+1) hp #[3] #[3] (d.more O hp #[3] #[3] hc2) ?_);have J7:lt (pat p m) (pat p m)=false:=by exact O.J7 (hp.lt #[3])
    intro i j h1 h2 h3 h4;rcases Tw i m with hi|hi
    ·rcases Tw j m with hj|hj
     ·exact e _ _ #[3] hi #[3] hj
     ·obtain rfl:j=m:=by omega
      exact O.tr _ _ _ (hp.lt #[3]) (hp.lt (show j-1<n by omega)) (hp.lt #[3]) hc2 (e _ _ #[3] hi #[3] #[3])
    ·obtain rfl:i=m:=by omega
     rcases Tw j i with hj|hj
     ·exact O.tr _ _ _ (hp.lt #[3]) (hp.lt (show i-1<n by omega)) (hp.lt #[3]) (e _ _ #[3] #[3] #[3] hj) hc
     ·obtain rfl:j=i:=by omega
      exact J7
noncomputable def Ff(lt:Nat->Nat->Bool)(n:Nat)(r:Nat×VF):Prop:=cF n r.2/\1<=r.1/\r.1<=n/\zh lt r.2 r.1
theorem wC(O:kT lt n)(hp:cF n p)(h1:1<=m)(hm:m<=n)(d:iH lt p m):(kas_tail3 m n p).Run lt n (Ff lt n):=by refine KasT.run_bind _ (KasT.dY (λr hr=>?_) _ (xM O (hp.rev 0 m) _ m h1 #[3] (Lz hp hm d)));exact⟨hp.rev 0 m,by omega,by omega,hr.2.2.1⟩
theorem pF(O:kT lt n)(hp:cF n p)(h1:1<=m)(hm:m<n)(d:iH lt p (m+1)):(kas_descPart m n p).Run lt n (Ff lt n):=by
 refine KasT.run_bind _ (KasT.dY (λr hr=>?_) _ (pE O _ p _ 0 hp #[3] #[3] d ?_))
 ·split
  ·exact wC O (hr.1.rev _ _) #[3] #[3] (tX hr.1 (R5 _) #[3] hr.2.2.2.1 hr.2.2.2.2)
  ·exact wC O hr.1 #[3] #[3] hr.2.2.2.1
 ·intro i j h1 h2 h3 h4;obtain rfl:j=i:=by omega
  exact O.J7 (hp.lt #[3])
theorem DD(O:kT lt n)(hp:cF n p)(h1:1<=n):(kas_count n p).Run lt n (Ff lt n):=by
 unfold kas_count;refine KasT.run_bind _ (KasT.dY (λr hr=>?_) _ (xM O hp (n-1) 1 (R5 _) #[3] λi j h h'=>by omega));obtain⟨hr1,hr2,up,st⟩:=hr;split
 ·exact⟨hp,hr1,by omega,up⟩
 ·rename_i hne
  have hlt:r<n:=by
   grind
  have hs:=st #[3];split
  ·rename_i hgt;refine⟨hp.lt #[3],hp.lt #[3],?_⟩;dsimp only;split
   ·exact⟨hp,hr1,by show r<=n;omega,up⟩
   ·rename_i hc;have hc:lt (pat p 0) (pat p (r-1))=false:=by simpa using hc
    have eqs:OY lt p 0 r:=by
     have lo:∀i,i<r->lt (pat p i) (pat p 0)=false:=λi hi=>by
      rcases Nat.eq_zero_or_pos i with rfl|h
      ·exact O.J7 (hp.lt #[3])
      ·exact up 0 i h hi
     have hi:∀i,i<r->lt (pat p (r-1)) (pat p i)=false:=λi hi=>by
      rcases Tw i (r-1)with h|h
      ·exact up i (r-1) h #[3]
      ·obtain rfl:i=r-1:=by omega
       exact O.J7 (hp.lt #[3])
     intro i j _ h2 _ h4;have a1:lt (pat p 0) (pat p j)=false:=O.tr _ _ _ (hp.lt #[3]) (hp.lt (show r-1<n by omega)) (hp.lt #[3]) (hi j h4) hc;exact O.tr _ _ _ (hp.lt #[3]) (hp.lt (show 0<n by omega)) (hp.lt #[3]) a1 (lo i h2)
    have dn:iH lt (kas_rev p 0 r) r:=tX hp (R5 r) #[3] (λi j h h'=>eqs _ _ #[3] #[3] #[3] h') eqs;refine pF O (hp.rev 0 r) #[3] hlt (dn.more O (hp.rev 0 r) #[3] hlt ?_);rw[iG hp #[3],iG hp #[3],if_pos #[3],if_neg #[3]];refine O.tr _ _ _ (hp.lt #[3]) (hp.lt (show r-1<n by omega)) (hp.lt #[3]) (O.as _ _ (hp.lt #[3]) (hp.lt #[3]) hs) ?_;exact eqs _ _ #[3] #[3] #[3] #[3]
  ·obtain rfl:r=1:=by omega
   exact pF O hp #[3] hlt ((iH.zero).more O hp #[3] hlt (O.as _ _ (hp.lt #[3]) (hp.lt #[3]) hs))
theorem qB(O:kT lt n)(hp:cF n p)(hk:k<n)(u:zh lt p k):∀(f l r:Nat),l<=r->r<=k->r-l<=f ->
  (∀i,i<l->lt (pat p k) (pat p i)=false)->(∀i,r<=i->i<k->lt (pat p i) (pat p k)=false) ->
  (kas_place p k f l r).Run lt n (λm=>m<=k/\(∀i,i<m->lt (pat p k) (pat p i)=false)/\(∀i,m<=i->i<k->lt (pat p i) (pat p k)=false))
 |0,l,r,h1,h2,h3,a,b=>⟨by omega,a,λi hi=>b i #[3]⟩
 |f+1,l,r,h1,h2,h3,a,b=>by
  unfold kas_place;split
  ·exact⟨by omega,a,λi hi=>b i #[3]⟩
  ·rename_i hlr;refine⟨hp.lt hk,hp.lt #[3],?_⟩;dsimp only;split
   ·rename_i hc;refine qB O hp hk u f l ((l+r) / 2) #[3] #[3] #[3] a λi hi hik=>?_;have hm:lt (pat p ((l+r) / 2)) (pat p k)=false:=O.as _ _ (hp.lt hk) (hp.lt #[3]) hc;rcases Tw ((l+r) / 2) i with h|h
    ·exact O.tr _ _ _ (hp.lt hk) (hp.lt (show(l+r) / 2<n by omega)) (hp.lt #[3]) hm (u _ _ h hik)
    ·obtain rfl:i=(l+r) / 2:=by omega
     exact hm
   ·rename_i hc;have hc:lt (pat p k) (pat p ((l+r) / 2))=false:=by simpa using hc
    refine qB O hp hk u f ((l+r) / 2+1) r #[3] h2 #[3] (λi hi=>?_) b;rcases Tw i ((l+r) / 2)with h|h
    ·exact O.tr _ _ _ (hp.lt #[3]) (hp.lt (show(l+r) / 2<n by omega)) (hp.lt hk) (u _ _ h #[3]) hc
    ·obtain rfl:i=(l+r) / 2:=by omega
     exact hc
theorem B2(O:kT lt n):∀(f:Nat) (p:VF) (k:Nat),cF n p->k+f=n->zh lt p k->(kas_bin f p k).Run lt n (λp=>cF n p/\zh lt p n)
 |0,p,k,hp,hk,u=>⟨hp,by grind⟩
 |f+1,p,k,hp,hk,u=>by
  unfold kas_bin;refine KasT.run_bind _ (KasT.dY (λm hm=>?_) _ (qB O hp #[3] u k 0 k (Tf _) (R5 _) #[3] (λi h=>by omega) (λi h h'=>by omega)));obtain⟨hmk,lo,hi⟩:=hm;refine B2 O f _ (k+1) (hp.of (bubble_perm _ _ _)) #[3] ?_;intro i j hij hj;have hd:k-(k-m)=m:=by omega
  rw[B1 hp #[3] #[3],B1 hp #[3] #[3],hd];by_cases j1:j=m
  ·grind
  ·rw[if_neg j1];by_cases i1:i=m
   ·rw[if_pos i1,if_pos #[3]];exact hi _ #[3] #[3]
   ·rw[if_neg i1];by_cases j2:m<j/\j<=k
    ·rw[if_pos j2];by_cases i2:m<i/\i<=k
     ·rw[if_pos i2];exact u _ _ #[3] #[3]
     ·rw[if_neg i2];exact u _ _ #[3] #[3]
    ·rw[if_neg j2,if_neg #[3]];exact u _ _ hij #[3]
theorem tY(O:kT lt n)(h:1<=n):(kas_sort n).Run lt n (λp=>cF n p/\zh lt p n):=by
 refine KasT.run_bind _ (KasT.dY (λr hr=>?_) _ (DD O ⟨List.Perm.refl _⟩ h));obtain⟨hp,h1,h2,u⟩:=hr;split
 ·have:max r.1 1=r.1:=by omega
  rw[this];exact B2 O _ _ _ hp #[3] u
 ·refine⟨hp,?_⟩
  grind
end
end PySem.W
set_option maxHeartbeats 4000000
namespace PySem.W
open PySem PySem.Calls PyProof.Rows
section
variable {prog:VG} {w:World} {A:VH} {E:Vs} {s:VI}
noncomputable def Fg(prog:VG)(w:World)(A:VH)(vs:Vy)(lt:Nat->Nat->Bool)(s:VI):Prop:=
 wpAny #[14] A (keyKind' vs.toArray) (λκ s'=>s'=s/\∀i j C,i<vs.length->j<vs.length->C (lt i j) s ->
  wpAny #[14] A (keyLt' κ (vs.getD i Value.none) (vs.getD j Value.none)) C (λ_ _=>False) s) (λ_ _=>False) s
theorem Io{vs:Vy}(hl:vs.length<2):(vs.toArray.zip vs.toArray).map (·.2)=(((List.range vs.length).toArray).toList.map λi=>vs.getD i Value.none).toArray:=by
 rcases vs with _|⟨x,_|⟨y,vs⟩⟩
 ·simp
 ·simp
 grind
theorem vQ(ho:s.heap.get? a=some (seqObj "list" vs.toArray n))
 (O:kT lt vs.length)(h64:vs.length<64)
 (hk:∀h',(∀b o,b≠a->s.heap.get? b=some o->h'.get? b=some o)->2<=vs.length->Fg prog w A vs lt {s with heap:=h'})
 (h:∀p:VF,cF vs.length p->zh lt p vs.length->P (.done (.ret .none)) {s with heap:=sortedHeap s.heap a vs (p.toList.map λi=>vs.getD i Value.none).toArray}) :
  wpAny #[14] A (Builtin.«list.sort» ⟨[.ref a],[]⟩) P E s:=by
 rw[list_sort_plain];have ha:a<#[9]:=R7 ho;refine R0 (listItems_at ho rfl ?_);refine R0 (Ur ho rfl ?_);obtain⟨e1,ho1⟩:∃e1,(s.heap.update a (Obj.mapSeq λ_=>#[])).get? a=some (seqObj "list" #[] e1):=⟨_,get?_update_seq ho (λ_=>#[])⟩;refine R0 (seqEpoch_at ho1 rfl ?_);refine R0 (wpAny_newTuple ?_);refine R0 (wpAny_newList ?_);refine SH ?_;have ho6:(((s.heap.update a (Obj.mapSeq λ_=>#[])).push (seqObj "tuple" vs.toArray 0)).push (seqObj "list" #[] 0)).get? a=some (seqObj "list" #[] e1):=by rw[Tg _ _ _ (by rw[size_push',Uc];exact Sg (Th ha)),Tg _ _ _ (by rw[Uc];exact Sg ha)];exact ho1
 show wpAny #[14] A _ P E {s with heap:=((s.heap.update a (Obj.mapSeq λ_=>#[])).push (seqObj "tuple" vs.toArray 0)).push (seqObj "list" #[] 0)};dsimp only;by_cases h2:vs.toArray.size<2
 ·rw[if_pos h2,if_pos h2];refine R0 (R3 ?_);rw[StateT.run_pure];refine R0 (R3 ?_);dsimp only;refine R0 (seqEpoch_at ho6 rfl ?_);refine R0 (Ur ho6 rfl ?_ (hsz2:=by rw[Array.size_map];show(pairsOf vs).size<=_;rw[pairsOf_size,Td];omega));simp only[Vj,Sx,TK];have hl:vs.length<2:=by simpa using h2
  have e:(arrOf (SortSt.mk' general' (vs.toArray.zip vs.toArray) #[] 7 none)).map (·.2)=(((List.range vs.length).toArray).toList.map λi=>vs.getD i Value.none).toArray:=by show(vs.toArray.zip vs.toArray).map (·.2)=_;exact Io hl
  rw[e];exact R3 (h _ ⟨List.Perm.refl _⟩ λi j h1 h2=>by omega)
 ·rw[if_neg h2,if_neg h2];have hl:2<=vs.length:=by simp at h2;exact h2
  refine R0 (S3 (hk _ (λb o hb q=>?_) hl) (λκ s' hκ=>?_) λ_ _ x=>x.elim)
  ·have hbs:b<#[9]:=R7 q;rw[Tg _ _ _ (by rw[size_push',Uc];exact Sg (Th hbs)),Tg _ _ _ (by rw[Uc];exact Sg hbs),U8 _ _ _ _ hb];exact q
  ·obtain⟨rfl,hc⟩:=hκ
   refine R0 (S3 (kat_run (E:=E) (vs:=vs) (ks:=vs) (κ:=κ) (G:=λp s'=>s'={s with heap:=((s.heap.update a (Obj.mapSeq λ_=>#[])).push (seqObj "tuple" vs.toArray 0)).push (seqObj "list" #[] 0)}/\cF vs.length p/\zh lt p vs.length)
    (Q:=λst' s'=>s'={s with heap:=((s.heap.update a (Obj.mapSeq λ_=>#[])).push (seqObj "tuple" vs.toArray 0)).push (seqObj "list" #[] 0)}/\failedOf st'=none/\∃p,cF vs.length p/\zh lt p vs.length/\(arrOf st').map (·.2)=List.toArray (p.toList.map λi=>vs.getD i Value.none))
    rfl hl h64 (λp st' s' a1 a2 a3 a4=>⟨a4.1,a3,p,a4.2.1,a4.2.2,kat_snds rfl a2⟩) ?_) ?_ λ_ _ e=>e)
   ·refine KasT.AV (lt:=lt) (n:=vs.length) (P:=λp=>cF vs.length p/\zh lt p vs.length) (I:=λs'=>s'={s with heap:=((s.heap.update a (Obj.mapSeq λ_=>#[])).push (seqObj "tuple" vs.toArray 0)).push (seqObj "list" #[] 0)}) ?_ ?_ _ _ (tY O #[3]) rfl
    ·rintro i j C s' hi hj rfl q;exact hc i j C hi hj (q _ rfl)
    ·rintro p s' hp rfl;exact⟨rfl,hp⟩
   ·rintro⟨⟨⟩,st'⟩ s' ⟨rfl,hf,p,hp,hu,e⟩;dsimp only at hf e ⊢;rw[e];refine R0 (seqEpoch_at ho6 rfl ?_);refine R0 (Ur ho6 rfl ?_ (hsz2:=by rw[Si,Ss,Te,hp.size,Td];omega));rw[hf];simp only[Vj,Sx,TK];exact R3 (h p hp hu)
theorem tZ(hl:s.heap.IsList l vs.toArray)(O:kT lt vs.length)(h64:vs.length<64)
 (hk:∀h',(∀b o,s.heap.get? b=some o->h'.get? b=some o)->2<=vs.length->Fg prog w A.in1.in1 vs lt {s with heap:=h'})
 (h:∀p:VF,cF vs.length p->zh lt p vs.length->Q (.ref (#[9]+1)) {s with heap:=sortedAll s.heap vs (p.toList.map λi=>vs.getD i Value.none).toArray}) :
  wpAny #[14] A (call (.builtin "sorted") [.ref l]) Q E s:=by
 refine Calls.call_function_entry kind_sorted plain_sorted entry_sorted (args_sorted1 _) ?_;unfold Builtin.«sorted»;refine R0 (m:=checkCount "sorted" 1 1 _) (R3 ?_);refine R0 (collect_list hl ?_);refine R0 (wpAny_newList ?_)
 have hsz:#[1].objs.size=#[9]+1:=by
  simp_all
 have hoL:(#[1].push (seqObj "list" vs.toArray 0)).get? (#[9]+1)=some (seqObj "list" vs.toArray 0):=by rw[<- hsz];exact R8 _ rfl
 show wpAny _ _ _ _ _ {s with heap:=#[1].push (seqObj "list" vs.toArray 0)};rw[hsz];refine R0 (SH (SK slot_list_sort ⟨_,hoL,rfl⟩ entry_list_sort (vQ hoL O h64 (λh' k h2=>hk h' (λb o q=>?_) h2) λp a1 a2=>⟨_,rfl,?_⟩) (args_list_sort _)))
 ·have hlt:b<#[9]:=R7 q;refine k b o (Sg (Th hlt)) ?_;show(#[1].push (seqObj "list" vs.toArray 0)).get? b=some o;rw[Tg _ _ _ (by rw[hsz];exact Sg (Th hlt)),U8 _ _ _ _ (Sg hlt),Tg _ _ _ (Sg hlt)];exact q
 ·exact R3 ⟨_,rfl,h p a1 a2⟩
end
end PySem.W
namespace L2
open PySem PySem.Spec PyProof.Rows
open PySem.W (kT cF zh Fg tZ KatLex kat_lt kat_one kas_mapM kas_first_eq Looks pat)
noncomputable def nZ(x y:Str):Bool:=decide (x.cps.toList<y.cps.toList)
theorem xN(x:Str):nZ x x=false:=strKind.irrefl _
theorem AW(h:nZ x y=true)(h':nZ y z=true):nZ x z=true:=strKind.trans _ _ _ h h'
theorem Fh(h:nZ x y=true):nZ y x=false:=by
 cases e:nZ y x with
 |false=>rfl
 |true=>have:=AW h e;grind[xN]
theorem B3(h:nZ x y=false)(h':nZ y x=false):x=y:=by have e:=strKind.total x.cps.toList y.cps.toList h h';cases x;simp_all
section
variable {P:VG} {w:World} {A:VH} {E:Vs} {s:VI}
theorem zi{vs:Vy}(h2:1<=vs.length)(hT:∀v∈vs,Looks M s.heap (typeOf v) T)(hT2:(T==T)=true)(h:Q (some T) s) :
  wpAny M A (oneTypeOnly' vs.toArray) Q E s:=by
 obtain⟨v,rest,rfl⟩:∃v rest,vs=v::rest:=by
  match vs,h2 with
  |v::r,_=>exact⟨v,r,rfl⟩
 rw[oneTypeOnly'_eq,List.mapM_toArray,map_eq_pure_bind];refine R0 (R0 (kas_mapM (r:=T) _ (λv hv Q' hq=>(hT v hv).here hq) (R3 ?_)));have hall:((List.map (λ_=>T) (v::rest)).toArray.all λx=>x==T)=true:=by simp only[List.all_toArray,List.all_map,Sh];intro _ _;exact hT2
 have h0:(List.map (λ_=>T) (v::rest)).toArray[0]?=some T:=by simp
 rw[h0];simp only[hall,Tr];exact R3 h
end
section
variable {X:Cx} {k:Nat}
theorem jH{α:Type}(d:α):∀(xs:List α),(List.range xs.length).map (λi=>xs.getD i d)=xs
 | []=>rfl
 |x::xs=>by
  rw[SG,List.range_succ_eq_map,Sy,UC];have:=jH d xs
  conv=>rhs;rw[<- this]
  rfl
theorem DF(r:Vals vs us)(i:Nat)(hi:i<vs.length):RelV (vs.getD i .non) (us.getD i .none):=by
 obtain⟨u,h1,h2⟩:=r.get (i:=i) (x:=vs[i]) (by grind)
 simp_all
theorem qC(r:Vals vs us):∀(l:List Nat),(∀i∈l,i<vs.length)->Vals (l.map λi=>vs.getD i .non) (l.map λi=>us.getD i .none)
 | [],_=>.nil
 |i::l,h=>.cons (DF r i (h i (.head _))) (qC r l λj hj=>h j (.tail _ hj))
theorem qF(r:bg H ds vs)(dd:PyData):∀(l:List Nat),(∀i∈l,i<vs.length)->bg H (l.map λi=>ds.getD i dd) (l.map λi=>vs.getD i .non)
 | [],_=>bg.nil
 |i::l,h=>by
  refine bg.cons ?_ (qF r dd l λj hj=>h j (.tail _ hj));have hi:=h i (.head _);obtain⟨d,h1,h2⟩:=r.get (i:=i) (v:=vs[i]) (by grind)
  simp_all
end
end L2
namespace Ml
open PySem
structure Xc where
 cls:Str
 args:Vw
inductive D where
 |dat (d:PyData)
 |ref (i:Nat)
 |fS (t:Bool) (kvs:Vu)
 |set (xs:Vw)
 |fn (n:Str)
 |exc (x:Xc)
 |scr (ns:List Int)
 |ktup (xs:Vw)
 |rpr (x:Str)
inductive MO where
 |lst (xs:List D)
 |fS (t:Bool) (kvs:Vu)
 |ins (C:Str) (fs:List (Str×D))
 |tab (P:Addr) (q:Str)
noncomputable abbrev Hm:=List MO
noncomputable abbrev Fm:=List (Option D)
inductive R (α:Type) where
 |ok (a:α) (h:Hm)
 |exc (x:Xc) (h:Hm)
 |bad
noncomputable def R.bind{α β:Type}:R α->(α->Hm->R β)->R β
 |.ok a h,f=>f a h
 |.exc x h,_=>.exc x h
 |.bad,_=>.bad
noncomputable def R.vJ{α:Type}:R α->R α
 |.exc _ _=>.bad
 |r=>r
@[simp] theorem R.fm:(R.ok a h).vJ=.ok a h:=rfl
@[simp] theorem R.OZ:(R.bad:R α).vJ=.bad:=rfl
@[simp] theorem R.O0:(R.exc x h:R α).vJ=.bad:=rfl
@[simp] theorem R.bo{f:α->Hm->R β}:(R.ok a h).bind f=f a h:=rfl
@[simp] theorem R.Fi{f:α->Hm->R β}:(R.exc x h).bind f=.exc x h:=rfl
@[simp] theorem R.NR:R.bad.bind f=.bad:=rfl
theorem R.bind_assoc(r:R α)(f:α->Hm->R β)(g:β->Hm->R γ):(r.bind f).bind g=r.bind λa h=>(f a h).bind g:=by cases r<;>rfl
noncomputable abbrev ME:=Fm->Hm->R D
noncomputable abbrev MT:=Fm->Hm->R Bool
noncomputable abbrev MA:=Fm->Hm->R (List D)
inductive Fl where
 |nx (ρ:Fm)
 |rt (d:D)
 |bk (ρ:Fm)
 |ct (ρ:Fm)
noncomputable abbrev MS:=Fm->Hm->R Fl
noncomputable abbrev Fn:=List D->Hm->R D
noncomputable abbrev D.none:D:=.dat .none
noncomputable abbrev D.bool(b:Bool):D:=.dat (.bool b)
noncomputable abbrev D.int(i:Int):D:=.dat (.int i)
noncomputable abbrev D.str(s:Str):D:=.dat (.str s)
noncomputable def ae(i:Nat):ME:=λρ h=>match ρ[i]? with
 |some (some d)=>.ok d h
 |_=>.bad
noncomputable def aj(d:PyData):ME:=λ_ h=>.ok (.dat d) h
noncomputable def RI(n:Str):ME:=λ_ h=>.ok (.fn n) h
noncomputable def ai:MA:=λ_ h=>.ok [] h
noncomputable def aa(e:ME)(a:MA):MA:=λρ h=>(e ρ h).bind λx h1=>(a ρ h1).bind λxs h2=>.ok (x::xs) h2
noncomputable def ak(f:D->D->Hm->R D)(a b:ME):ME:=λρ h=>(a ρ h).bind λx h1=>(b ρ h1).bind λy h2=>f x y h2
noncomputable def wD(f:D->Hm->R D)(a:ME):ME:=λρ h=>(a ρ h).bind λx h1=>f x h1
noncomputable def ag(f:Fn)(a:MA):ME:=λρ h=>(a ρ h).bind λxs h1=>f xs h1
noncomputable def aM(e:ME):MT:=λρ h=>(e ρ h).bind λx h1=>match x with
 |.dat (.bool b)=>.ok b h1
 |_=>.bad
noncomputable def cY(t:MT):MT:=λρ h=>(t ρ h).bind λb h1=>.ok (!b) h1
noncomputable def Es(t u:MT):MT:=λρ h=>(t ρ h).bind λb h1=>if b then u ρ h1 else .ok false h1
noncomputable def pb(t u:MT):MT:=λρ h=>(t ρ h).bind λb h1=>if b then .ok true h1 else u ρ h1
noncomputable def Qd(a b:ME):ME:=λρ h=>(aM a ρ h).bind λc h1=>if c then b ρ h1 else .ok (.bool false) h1
noncomputable def RJ(a b:ME):ME:=λρ h=>(aM a ρ h).bind λc h1=>if c then .ok (.bool true) h1 else b ρ h1
noncomputable def Qe(a:ME):ME:=λρ h=>(aM a ρ h).bind λc h1=>.ok (.bool !c) h1
noncomputable def LA(t:MT)(a b:ME):ME:=λρ h=>(t ρ h).bind λc h1=>if c then a ρ h1 else b ρ h1
noncomputable def D.data:D->Option PyData
 |.dat d=>some d
 |_=>Option.none
noncomputable def ig:List D->Option Vw
 | []=>some []
 |x::xs=>match x.data,ig xs with
  |some d,some ds=>some (d::ds)
  |_,_=>Option.none
theorem qG(ds:Vw):ig (ds.map D.dat)=some ds:=by
 induction ds with
 |nil=>rfl
 |cons d ds ih=>simp[ig,D.data,ih]
noncomputable def iY(n:Nat):Bool:=decide (n<=16777216)
noncomputable def pG(xs:List D)(h:Hm):R D:=match ig xs with
 |some ds=>if iY ds.length then .ok (.dat (.tuple ds)) h else .bad
 |Option.none=>.bad
noncomputable def ij(xs:List D)(h:Hm):R D:=match ig xs with
 |some ds=>if iY ds.length then .ok (.dat (.list ds)) h else .bad
 |Option.none=>.bad
noncomputable def t5(xs:List D)(h:Hm):R D:=if iY xs.length then .ok (.ref h.length) (h++[.lst xs])else .bad
noncomputable def gG(a:MA):ME:=ag pG a
noncomputable def iD(a:MA):ME:=ag ij a
noncomputable def qH(a:MA):ME:=ag t5 a
noncomputable def bO:MS:=λρ h=>.ok (.nx ρ) h
noncomputable def aY(a b:MS):MS:=λρ h=>(a ρ h).bind λf h1=>match f with
 |.nx ρ1=>b ρ1 h1
 |f=>.ok f h1
noncomputable def cn(i:Nat)(e:ME):MS:=λρ h=>(e ρ h).bind λx h1=>.ok (.nx (ρ.set i (some x))) h1
noncomputable def gv(e:ME):MS:=λρ h=>(e ρ h).bind λ_ h1=>.ok (.nx ρ) h1
noncomputable def bF(e:ME):MS:=λρ h=>(e ρ h).bind λx h1=>.ok (.rt x) h1
noncomputable def iI(t:MT)(a b:MS):MS:=λρ h=>(t ρ h).bind λc h1=>if c then a ρ h1 else b ρ h1
noncomputable def LB:MS:=λρ h=>.ok (.bk ρ) h
noncomputable def NS:MS:=λρ h=>.ok (.ct ρ) h
noncomputable abbrev MG:=D->Fm->Hm->R Fm
noncomputable def ax(i:Nat):MG:=λx ρ h=>.ok (ρ.set i (some x)) h
noncomputable abbrev Fj:=List D->Fm->Hm->R Fm
noncomputable def jh:Fj:=λxs ρ h=>match xs with
 | []=>.ok ρ h
 |_=>.bad
noncomputable def cb(g:MG)(gs:Fj):Fj:=λxs ρ h=>match xs with
 | []=>.bad
 |x::xs=>(g x ρ h).bind λρ1 h1=>gs xs ρ1 h1
noncomputable def ji(gs:Fj):MG:=λx ρ h=>match x with
 |.dat (.tuple ds)=>gs (ds.map D.dat) ρ h
 |_=>.bad
noncomputable def ng(g:MG)(e:ME):MS:=λρ h=>(e ρ h).bind λx h1=>(g x ρ h1).bind λρ1 h2=>.ok (.nx ρ1) h2
noncomputable def kU:List Nat->List D->Fm->Option Fm
 | [],[],ρ=>some ρ
 |i::is,x::xs,ρ=>kU is xs (ρ.set i (some x))
 |_,_,_=>Option.none
noncomputable def xO(is:List Nat)(a:MA):MS:=λρ h=>(a ρ h).bind λxs h1=>match kU is xs ρ with
 |some ρ1=>.ok (.nx ρ1) h1
 |Option.none=>.bad
noncomputable def B4(e:ME):MA:=λρ h=>(e ρ h).bind λx h1=>match x with
 |.dat (.tuple ds)=>.ok (ds.map D.dat) h1
 |_=>.bad
noncomputable def Fo(e:ME):MA:=λρ h=>(e ρ h).bind λx h1=>match x with
 |.dat (.list ds)=>.ok (ds.map D.dat) h1
 |_=>.bad
noncomputable def signs(x:Str):List D:=(List.range x.cps.size).map λ(i:Nat)=>D.str ⟨#[x.cps.getD i 0]⟩
noncomputable def Fp(e:ME):MA:=λρ h=>(e ρ h).bind λx h1=>match x with
 |.dat (.str s)=>.ok (signs s) h1
 |_=>.bad
noncomputable def nums(lo:Int)(n:Nat):List D:=(List.range n).map λ(i:Nat)=>D.int (lo+(i:Int))
noncomputable def kB(a:MA):MA:=λρ h=>(a ρ h).bind λxs h1=>match xs with
 | [.dat (.int j)]=>if -(2^62)<=j/\j<2^62 then .ok (nums 0 j.toNat) h1 else .bad
 |_=>.bad
noncomputable def LD(a:MA):MA:=λρ h=>(a ρ h).bind λxs h1=>match xs with
 | [.dat (.int i),.dat (.int j)]=>if -(2^62)<=i/\i<2^62/\-(2^62)<=j/\j<2^62 then .ok (nums i (j-i).toNat) h1 else .bad
 |_=>.bad
noncomputable def xP:Vw->Vw->List D
 |x::xs,y::ys=>.dat (.tuple [x,y])::xP xs ys
 |_,_=>[]
noncomputable def wF(a:MA):MA:=λρ h=>(a ρ h).bind λxs h1=>match xs with
 | [.dat (.tuple ds),.dat (.tuple es)]=>.ok (xP ds es) h1
 |_=>.bad
noncomputable def dS(g:MG)(b:MS):List D->Fm->Hm->R Fl
 | [],ρ,h=>.ok (.nx ρ) h
 |x::xs,ρ,h=>(g x ρ h).vJ.bind λρ1 h1=>(b ρ1 h1).vJ.bind λf h2=>match f with
  |.nx ρ2=>dS g b xs ρ2 h2
  |.ct ρ2=>dS g b xs ρ2 h2
  |.bk ρ2=>.ok (.nx ρ2) h2
  |.rt d=>.ok (.rt d) h2
noncomputable def jI(it:MA)(g:MG)(b:MS):MS:=λρ h=>(it ρ h).vJ.bind λxs h1=>dS g b xs ρ h1
noncomputable def jJ(t:MT)(b:MS):Nat->Fm->Hm->R Fl
 |0,_,_=>.bad
 |n+1,ρ,h=>(t ρ h).vJ.bind λc h1=>if c then(b ρ h1).vJ.bind λf h2=>match f with
     |.nx ρ2=>jJ t b n ρ2 h2
     |.ct ρ2=>jJ t b n ρ2 h2
     |.bk ρ2=>.ok (.nx ρ2) h2
     |.rt d=>.ok (.rt d) h2
  else .ok (.nx ρ) h1
noncomputable def Fs(n:Nat)(t:MT)(b:MS):MS:=jJ t b n
noncomputable def iZ(n:Nat)(ρ:Fm)(g:MG)(t:MT)(e:ME):List D->Hm->R (List D)
 | [],h=>.ok [] h
 |x::xs,h=>(g x (List.replicate n none++ρ) h).vJ.bind λρ1 h1=>(t ρ1 h1).vJ.bind λc h2=>
  if c then(e ρ1 h2).vJ.bind λy h3=>(iZ n ρ g t e xs h3).bind λys h4=>.ok (y::ys) h4
  else iZ n ρ g t e xs h2
noncomputable def dh:MT:=λ_ h=>.ok true h
noncomputable def zj(n:Nat)(it:MA)(g:MG)(t:MT)(e:ME):MA:=λρ h=>(it ρ h).bind λxs h1=>if iY xs.length then iZ n ρ g t e xs h1 else .bad
noncomputable def bX(n:Nat)(it:MA)(g:MG)(t:MT)(e:ME):ME:=ag ij (zj n it g t e)
noncomputable def wG:Fl->Hm->R D
 |.rt d,h=>.ok d h
 |.nx _,h=>.ok D.none h
 |_,_=>.bad
noncomputable def bz(p n:Nat)(b:MS):Fn:=λxs h=>if xs.length=p then(b (xs.map some++List.replicate (n-p) none) h).bind wG else .bad
noncomputable def D.below(n:Nat):D->Bool
 |.ref i=>decide (i<n)
 |_=>true
noncomputable def MO.below(n:Nat):MO->Bool
 |.lst xs=>xs.all (D.below n)
 |.fS _ _=>true
 |.ins _ fs=>fs.all λp=>p.2.below n
 |.tab _ _=>true
noncomputable def gw(f:Fn):Fn:=λxs h=>match f xs h with
 |.ok d h'=>if d.below h.length&&(h'.take h.length).all (MO.below h.length)&&decide (h.length<=h'.length)then .ok d (h'.take h.length)else .bad
 |.exc x h'=>if(h'.take h.length).all (MO.below h.length)&&decide (h.length<=h'.length)then .exc x (h'.take h.length)else .bad
 |.bad=>.bad
noncomputable def jE(f:D->Option PyData):List D->Option Vw
 | []=>some []
 |x::xs=>match f x,jE f xs with
  |some d,some ds=>some (d::ds)
  |_,_=>Option.none
noncomputable def xQ(h:Hm):Nat->D->Option PyData
 |_,.dat d=>some d
 |_,.ktup xs=>some (.tuple xs)
 |n+1,.ref i=>match h[i]? with
  |some (.lst xs)=>(jE (xQ h n) xs).map .list
  |_=>Option.none
 |_,_=>Option.none
noncomputable abbrev wH(h:Hm)(x:D):Option PyData:=xQ h 3 x
@[simp] theorem xR(h:Hm)(n:Nat)(d:PyData):xQ h n (.dat d)=some d:=by cases n<;>rfl
noncomputable def listOf(x:D)(h:Hm):Option Vw:=match x with
 |.dat (.list ds)=>some ds
 |.ref i=>match h[i]? with
  |some (.lst ys)=>ig ys
  |_=>Option.none
 |_=>Option.none
noncomputable def dG(x y:D)(h:Hm):R D:=match x,y with
 |.dat (.int i),.dat (.int j)=>.ok (.int (i+j)) h
 |.dat (.str s),.dat (.str t)=>if iY (s.length+t.length)then .ok (.str (s++t)) h else .bad
 |.dat (.tuple xs),.dat (.tuple ys)=>if iY (xs.length+ys.length)then .ok (.dat (.tuple (xs++ys))) h else .bad
 |.dat (.list xs),.dat (.list ys)=>if iY (xs.length+ys.length)then .ok (.dat (.list (xs++ys))) h else .bad
 |_,_=>.bad
noncomputable def DH(x y:D)(h:Hm):R D:=match x,y with
 |.dat (.int i),.dat (.int j)=>.ok (.int (i-j)) h
 |_,_=>.bad
noncomputable def t6(i j:Int):Bool:=(decide (-(2^64)<i)&&decide (i<2^64)) || (decide (-(2^64)<j)&&decide (j<2^64))
noncomputable def fR(x y:D)(h:Hm):R D:=match x,y with
 |.dat (.int i),.dat (.int j)=>if t6 i j then .ok (.int (i*j)) h else .bad
 |.dat (.list xs),.dat (.int k)=>if iY (xs.length*k.toNat)&&decide (-(2^63)<=k)&&decide (k<2^63)then .ok (.dat (.list (List.replicate k.toNat xs).flatten)) h else .bad
 |_,_=>.bad
noncomputable def oMod(x y:D)(h:Hm):R D:=match x,y with
 |.dat (.int i),.dat (.int j)=>if 0<j then .ok (.int (i % j)) h else .bad
 |_,_=>.bad
noncomputable def iJ(x y:D)(h:Hm):R D:=match x,y with
 |.dat (.int i),.dat (.int j)=>if 0<j/\j<1073741824 then .ok (.int (i / j)) h else .bad
 |_,_=>.bad
noncomputable def Ip(x:D)(h:Hm):R D:=match x with
 |.dat (.int i)=>.ok (.int (-i)) h
 |_=>.bad
noncomputable def noDict(d:PyData):Bool:=!d.hasDict
noncomputable def eqQ(d e:PyData):Option Bool:=if noDict d&&noDict e&&decide (min d.depth e.depth<=40)then some (PyData.eqv d e)else Option.none
noncomputable def B5(d e:PyData):Option Bool:=match d,e with
 |.str _,.dict _=>some false
 |.tuple ds,.dict _=>if noDict (.tuple ds)then some false else Option.none
 |d,e=>eqQ d e
noncomputable def oEq(x y:D)(h:Hm):R D:=match x,y with
 |.rpr s,.rpr t=>.ok (.bool (decide (s=t))) h
 |x,y=>match wH h x,wH h y with
  |some d,some e=>match eqQ d e with
   |some b=>.ok (.bool b) h
   |Option.none=>.bad
  |_,_=>.bad
noncomputable def t7(x y:D)(h:Hm):R D:=match x,y with
 |.rpr s,.rpr t=>.ok (.bool (!decide (s=t))) h
 |x,y=>match wH h x,wH h y with
  |some d,some e=>match eqQ d e with
   |some b=>.ok (.bool !b) h
   |Option.none=>.bad
  |_,_=>.bad
noncomputable def nZ(x y:Str):Bool:=decide (x.cps.toList<y.cps.toList)
mutual
def cj:PyData->PyData->Option Bool
 |.int i,.int j=>some (decide (i<j))
 |.str x,.str y=>some (nZ x y)
 |.tuple xs,.tuple ys=>dH xs ys
 |_,_=>Option.none
def dH:Vw->Vw->Option Bool
 | [],[]=>some false
 | [],_::_=>some true
 |_::_,[]=>some false
 |x::xs,y::ys=>if PyData.eqv x y then dH xs ys else cj x y
end
noncomputable def oLt(x y:D)(h:Hm):R D:=match x,y with
 |.dat d,.dat e=>if noDict d&&noDict e&&decide (min d.depth e.depth<=40)then match cj d e with
  |some b=>.ok (.bool b) h
  |Option.none=>.bad
  else .bad
 |_,_=>.bad
noncomputable def oLe(x y:D)(h:Hm):R D:=match x,y with
 |.dat (.int i),.dat (.int j)=>.ok (.bool (decide (i<=j))) h
 |.dat (.str s),.dat (.str t)=>.ok (.bool (!nZ t s)) h
 |_,_=>.bad
noncomputable def Em(x y:D)(h:Hm):R D:=match x,y with
 |.dat (.int i),.dat (.int j)=>.ok (.bool (decide (j<i))) h
 |_,_=>.bad
noncomputable def RK(x y:D)(h:Hm):R D:=match x,y with
 |.dat (.int i),.dat (.int j)=>.ok (.bool (decide (j<=i))) h
 |_,_=>.bad
noncomputable def Ft(x:PyData):Vw->Option Bool
 | []=>some false
 |y::ys=>match B5 y x,Ft x ys with
  |some a,some b=>some (a || b)
  |_,_=>Option.none
noncomputable def og:PyData->Bool
 |.tuple _=>true
 |_=>false
noncomputable def t8:PyData->Bool
 |.str _=>true
 |_=>false
noncomputable def jo(k:PyData)(kvs:Vu):Bool:=kvs.any λp=>PyData.eqv p.1 k
noncomputable def fE(y:D)(h:Hm):Option (Bool×Vu):=match y with
 |.fS t kvs=>some (t,kvs)
 |.ref i=>match h[i]? with
  |some (.fS t kvs)=>some (t,kvs)
  |_=>Option.none
 |_=>Option.none
mutual
def bj:PyData->Bool
 |.str _=>true
 |.tuple ds=>dj ds
 |_=>false
def dj:Vw->Bool
 | []=>true
 |d::ds=>bj d&&dj ds
end
noncomputable def keyOk(t:Bool)(k:PyData):Bool:=if t then og k&&bj k&&decide (k.depth<=8)else t8 k
noncomputable def xS(x:D)(kvs:Vu)(t:Bool):Option Bool:=match x with
 |.dat d=>if keyOk t d then some (jo d kvs)else Option.none
 |_=>Option.none
noncomputable def gZ(x y:D)(h:Hm):Option Bool:=match y with
 |.dat (.str s)=>match x with
  |.dat (.str t)=>some (!(Builtin.Str.occurrences s t 0 s.length 1).isEmpty)
  |_=>Option.none
 |y=>match wH h x,wH h y with
  |some d,some (.tuple ds)=>Ft d ds
  |some d,some (.list ds)=>Ft d ds
  |_,_=>Option.none
noncomputable def findIn(x y:D)(h:Hm):Option Bool:=match fE y h with
 |some p=>xS x p.2 p.1
 |Option.none=>gZ x y h
noncomputable def t9(x y:D)(h:Hm):R D:=match findIn x y h with
 |some b=>.ok (.bool b) h
 |Option.none=>.bad
noncomputable def gx(x y:D)(h:Hm):R D:=match findIn x y h with
 |some b=>.ok (.bool !b) h
 |Option.none=>.bad
noncomputable def kW:PyData->Bool
 |.none|.bool _|.int _|.str _=>true
 |_=>false
noncomputable def dput(kvs:Vu)(k v:PyData):Vu:=
 if jo k kvs then kvs.map (λp=>if PyData.eqv p.1 k then(p.1,v)else p)else kvs++[(k,v)]
noncomputable def Fv(kvs:Vu)(k:PyData):Option PyData:=(kvs.find? λp=>PyData.eqv p.1 k).map (·.2)
noncomputable def wt(n:Nat)(i:Int):Option Nat:=if 0<=i then(if i<n then some i.toNat else Option.none)else if -(n:Int)<=i then some (i+n).toNat else Option.none
noncomputable def kL{α:Type}(xs:List α)(i:Int):Option α:=(wt xs.length i).bind λj=>xs[j]?
noncomputable def DJ(x y:D)(h:Hm):R D:=match y with
 |.dat (.int i)=>match x with
  |.dat (.tuple ds)=>match kL ds i with|some d=>.ok (.dat d) h|Option.none=>.bad
  |.dat (.list ds)=>match kL ds i with|some d=>.ok (.dat d) h|Option.none=>.bad
  |.ref j=>match h[j]? with
   |some (.lst xs)=>match kL xs i with|some d=>.ok d h|Option.none=>.bad
   |_=>.bad
  |.scr ns=>match kL ns i with|some n=>.ok (.int n) h|Option.none=>.bad
  |_=>.bad
 |_=>.bad
noncomputable def eK(x y:D)(h:Hm):R D:=match fE x h with
 |some p=>match y with
  |.dat (.str k)=>if p.1 then .bad else match Fv p.2 (.str k)with
   |some v=>.ok (.dat v) h
   |Option.none=>.bad
  |_=>.bad
 |Option.none=>DJ x y h
noncomputable def fx(n d:Nat):Option Int->Nat
 |Option.none=>d
 |some v=>if v<0 then(v+(n:Int)).toNat else min v.toNat n
noncomputable def cut{α:Type}(ds:List α)(lo hi:Option Int):List α:=(ds.drop (fx ds.length 0 lo)).take (fx ds.length ds.length hi-fx ds.length 0 lo)
noncomputable abbrev LF:=Fm->Hm->R (Option Int)
noncomputable def kC:LF:=λ_ h=>.ok Option.none h
noncomputable def ik(e:ME):LF:=λρ h=>(e ρ h).bind λx h1=>match x with
 |.dat (.int i)=>.ok (some i) h1
 |_=>.bad
noncomputable def NT(x:D)(lo hi:Option Int)(h:Hm):R D:=match x with
 |.dat (.tuple ds)=>.ok (.dat (.tuple (cut ds lo hi))) h
 |.dat (.list ds)=>.ok (.dat (.list (cut ds lo hi))) h
 |_=>.bad
noncomputable def DK(e:ME)(lo hi:LF):ME:=λρ h=>(e ρ h).bind λx h1=>(lo ρ h1).bind λl h2=>(hi ρ h2).bind λu h3=>NT x l u h3
noncomputable def gH:Fn:=λxs h=>match xs with
 | [.dat (.str s)]=>if iY s.length then .ok (.int s.length) h else .bad
 | [.dat (.tuple ds)]=>.ok (.int ds.length) h
 | [.dat (.list ds)]=>.ok (.int ds.length) h
 | [.ref i]=>match h[i]? with
  |some (.lst ys)=>.ok (.int ys.length) h
  |_=>.bad
 | [.scr ns]=>.ok (.int ns.length) h
 |_=>.bad
noncomputable def bools:Vw->Option (List Bool)
 | []=>some []
 |.bool b::ds=>(bools ds).map (b::·)
 |_=>Option.none
theorem wI(bs:List Bool):bools (bs.map .bool)=some bs:=by
 induction bs with
 |nil=>rfl
 |cons b bs ih=>simp[bools,ih]
noncomputable def kM:Fn:=λxs h=>match xs with
 | [.dat (.list ds)]=>match bools ds with
  |some bs=>.ok (.bool (bs.all id)) h
  |Option.none=>.bad
 |_=>.bad
noncomputable def sO:Fn:=λxs h=>match xs with
 | [.dat (.list ds)]=>match bools ds with
  |some bs=>.ok (.bool (bs.any id)) h
  |Option.none=>.bad
 |_=>.bad
noncomputable def isTup:PyData->Bool|.tuple _=>true|_=>false
noncomputable def isStr:PyData->Bool|.str _=>true|_=>false
noncomputable def isInt:PyData->Bool|.int _|.bool _=>true|_=>false
noncomputable def ua:PyData->Bool|.bool _=>true|_=>false
noncomputable def kX(f:PyData->Bool):D->Hm->R D:=λx h=>match x with
 |.dat d=>.ok (.bool (f d)) h
 |_=>.bad
noncomputable def dZ(x:Str):Vw:=(List.range x.cps.size).map λ(i:Nat)=>.str ⟨#[x.cps.getD i 0]⟩
noncomputable def oh:Fn:=λxs h=>match xs with
 | [.dat (.tuple ds)]=>.ok (.dat (.tuple ds)) h
 | [.dat (.str s)]=>if iY s.cps.size then .ok (.dat (.tuple (dZ s))) h else .bad
 | [x]=>match listOf x h with
  |some ds=>.ok (.dat (.tuple ds)) h
  |Option.none=>.bad
 |_=>.bad
noncomputable def i4:Fn:=λxs h=>match xs with
 | [.dat (.tuple ds)]=>.ok (.dat (.list ds)) h
 | [x]=>match listOf x h with
  |some ds=>.ok (.dat (.list ds)) h
  |Option.none=>.bad
 |_=>.bad
noncomputable def pH:Fn:=λxs h=>match xs with
 | [x]=>match fE x h with
  |some p=>.ok (.dat (.list (p.2.map (·.1)))) h
  |Option.none=>i4 [x] h
 |_=>.bad
noncomputable def AX(lt:PyData->PyData->Bool)(x:PyData):Vw->Vw
 | []=>[x]
 |y::ys=>if lt y x then y::AX lt x ys else x::y::ys
noncomputable def fF(lt:PyData->PyData->Bool):Vw->Vw
 | []=>[]
 |x::xs=>AX lt x (fF lt xs)
noncomputable def ltB(d e:PyData):Bool:=(cj d e).getD false
noncomputable def zk(d:PyData):Bool:=d.showable&&noDict d&&decide (d.depth<=40)&&iY d.shown.length
noncomputable def Fx(d:PyData):Bool:=match d with
 |.dict _=>d.showable&&decide (d.depth<=20)&&iY d.shown.length
 |_=>false
noncomputable def wJ:Fn:=λxs h=>match xs with
 | [x]=>match wH h x with
  |some d=>if zk d || Fx d then .ok (.rpr d.shown) h else .bad
  |Option.none=>.bad
 |_=>.bad
noncomputable def sY:Fn:=λxs h=>match xs with
 | [.dat (.int i),.dat (.int j)]=>if 0<j/\j<1073741824 then .ok (.dat (.tuple [.int (i / j),.int (i % j)])) h else .bad
 |_=>.bad
noncomputable def Iq:Fn:=λxs h=>match xs with
 | [.dat (.int i)]=>.ok (.int (if i<0 then -i else i)) h
 |_=>.bad
noncomputable def Fy:Fn:=λxs h=>match xs with
 | [.dat (.int i),.dat (.int j)]=>.ok (.int (if j>i then j else i)) h
 |_=>.bad
noncomputable def Fz:Fn:=λxs h=>match xs with
 | [.dat (.int i),.dat (.int j)]=>.ok (.int (if j<i then j else i)) h
 |_=>.bad
noncomputable def xT:Fn:=λxs h=>match xs with
 | [.dat (.int i)]=>.ok (.int i) h
 | [.dat (.bool b)]=>.ok (.int (if b then 1 else 0)) h
 |_=>.bad
noncomputable def dU(x y:D)(h:Hm):R D:=match x with
 |.ref i=>match h[i]? with
  |some (.lst xs)=>if decide (xs.length<16777216)then .ok D.none (h.set i (.lst (xs++[y])))else .bad
  |_=>.bad
 |_=>.bad
noncomputable def B6(x y v:D)(h:Hm):R Unit:=match x,y with
 |.ref i,.dat (.int k)=>match h[i]? with
  |some (.lst xs)=>match wt xs.length k with
   |some j=>.ok () (h.set i (.lst (xs.set j v)))
   |Option.none=>.bad
  |_=>.bad
 |_,_=>.bad
noncomputable def FA(i:Nat)(t:Bool)(kvs:Vu)(y v:D)(h:Hm):R Unit:=match y,v with
 |.dat k,.dat d=>if keyOk t k&&(t || kW d)&&decide (kvs.length<16777216)then .ok () (h.set i (.fS t (dput kvs k d)))else .bad
 |_,_=>.bad
noncomputable def oj(x y v:D)(h:Hm):R Unit:=match x with
 |.ref i=>match h[i]? with
  |some (.fS t kvs)=>FA i t kvs y v h
  |_=>B6 x y v h
 |_=>.bad
noncomputable def nS(eo ei:ME):MG:=λv ρ h=>(eo ρ h).bind λo h1=>(ei ρ h1).bind λi h2=>(oj o i v h2).bind λ_ h3=>.ok ρ h3
noncomputable def truth(x:D)(h:Hm):Option Bool:=match x with
 |.dat .none=>some false
 |.dat (.bool b)=>some b
 |.dat (.int i)=>some (i != 0)
 |.dat (.str s)=>if iY s.length then some ((s.length:Int) != 0)else Option.none
 |.dat (.tuple ds)=>some !ds.isEmpty
 |.dat (.list ds)=>some !ds.isEmpty
 |.ref i=>match h[i]? with
  |some (.lst xs)=>some !xs.isEmpty
  |_=>Option.none
 |_=>Option.none
noncomputable def aU(e:ME):MT:=λρ h=>(e ρ h).bind λx h1=>match truth x h1 with
 |some b=>.ok b h1
 |Option.none=>.bad
mutual
def eR:PyData->Bool
 |.str x=>PyData.strOk x
 |.list xs|.tuple xs=>cQ xs
 |_=>true
def cQ:Vw->Bool
 | []=>true
 |x::xs=>eR x&&cQ xs
end
mutual
theorem kY:∀{d:PyData},eR d=true->d.hasDict=false->d.canLay0=true
 |.none,_,_=>by rfl
 |.bool _,_,_=>by rfl
 |.int _,_,_=>by rfl
 |.str x,h,_=>by assumption
 |.tuple ds,h,k=>sZ h k
 |.list ds,h,k=>by simp[eR]at h;exact sZ h k
 |.dict _,_,k=>by trivial
theorem sZ:∀{ds:Vw},cQ ds=true->PyData.hasDictAll ds=false->PyData.canLayAll0 ds=true
 | [],_,_=>by rfl
 |d::ds,h,k=>by simp only[cQ,R4]at h;simp only[PyData.hasDictAll,Bool.or_eq_false_iff]at k;simp only[PyData.canLayAll0,R4];exact⟨kY h.1 k.1,sZ h.2 k.2⟩
end
mutual
def ay:PyData->Bool
 |.int _|.str _=>true
 |.tuple ds=>aD ds
 |_=>false
def aD:Vw->Bool
 | []=>true
 |d::ds=>ay d&&aD ds
end
theorem bp:∀{ds:Vw} {d:PyData},aD ds=true->d∈ds->ay d=true
 |_::_,d,h,m=>by
  simp[aD]at h;rcases Sf.mp m with rfl|m
  ·grind
  ·exact bp h.2 m
theorem kZ:∀{ds:Vw},(∀d∈ds,ay d=true)->aD ds=true
 | [],_=>by rfl
 |d::ds,h=>by simp[aD];exact⟨h d #[6],kZ λe m=>h e (by simp[m])⟩
mutual
theorem lb:∀{d e:PyData},ay d=true->ay e=true->(PyData.eqv d e=true<->d=e)
 |.int i,.int j,_,_=>by simp[PyData.eqv]
 |.str x,.str y,_,_=>by simp[PyData.eqv]
 |.tuple xs,.tuple ys,h,k=>by simp only[ay]at h k;simp only[PyData.eqv,PyData.tuple.injEq];exact wK h k
 |.int _,.str _,_,_=>by simp[PyData.eqv]
 |.int _,.tuple _,_,_=>by simp[PyData.eqv]
 |.str _,.int _,_,_=>by simp[PyData.eqv]
 |.str _,.tuple _,_,_=>by simp[PyData.eqv]
 |.tuple _,.int _,_,_=>by simp[PyData.eqv]
 |.tuple _,.str _,_,_=>by simp[PyData.eqv]
 |.none,_,h,_=>by simp[ay]at h
 |.bool _,_,h,_=>by simp[ay]at h
 |.list _,_,h,_=>by simp[ay]at h
 |.dict _,_,h,_=>by simp[ay]at h
 |.int _,.none,_,h=>by simp[ay]at h
 |.int _,.bool _,_,h=>by simp[ay]at h
 |.int _,.list _,_,h=>by simp[ay]at h
 |.int _,.dict _,_,h=>by simp[ay]at h
 |.str _,.none,_,h=>by simp[ay]at h
 |.str _,.bool _,_,h=>by simp[ay]at h
 |.str _,.list _,_,h=>by simp[ay]at h
 |.str _,.dict _,_,h=>by simp[ay]at h
 |.tuple _,.none,_,h=>by simp[ay]at h
 |.tuple _,.bool _,_,h=>by simp[ay]at h
 |.tuple _,.list _,_,h=>by simp[ay]at h
 |.tuple _,.dict _,_,h=>by simp[ay]at h
theorem wK:∀{xs ys:Vw},aD xs=true->aD ys=true->(PyData.eqvAll xs ys=true<->xs=ys)
 | [],[],_,_=>by simp[PyData.eqvAll]
 | [],_::_,_,_=>by simp[PyData.eqvAll]
 |_::_,[],_,_=>by simp[PyData.eqvAll]
 |x::xs,y::ys,h,k=>by simp only[aD,R4]at h k;simp only[PyData.eqvAll,R4,List.cons.injEq];rw[lb h.1 k.1,wK h.2 k.2]
end
mutual
theorem dA:∀{d:PyData},ay d=true->d.hasDict=false
 |.int _,_=>rfl
 |.str _,_=>rfl
 |.tuple ds,h=>jK h
 |.none,h=>by rfl
 |.bool _,h=>by rfl
 |.list _,h=>by trivial
 |.dict _,h=>by trivial
theorem jK:∀{ds:Vw},aD ds=true->PyData.hasDictAll ds=false
 | [],_=>rfl
 |d::ds,h=>by simp only[aD,R4]at h;simp only[PyData.hasDictAll,Bool.or_eq_false_iff];exact⟨dA h.1,jK h.2⟩
end
theorem bQ(h:ay d=true):PyData.eqv d d=true:=(lb h h).mpr rfl
theorem bH(h:ay d=true)(k:ay e=true)(ne:d≠e):PyData.eqv d e=false:=by
 cases q:PyData.eqv d e with
 |false=>rfl
 |true=>exact absurd ((lb h k).mp q) ne
theorem Qf{x y:Str}(h:x.cps.toList=y.cps.toList):x=y:=by
 obtain⟨⟨a⟩⟩:=x
 simp_all
theorem xN(x:Str):nZ x x=false:=S7 (List.lt_irrefl _)
theorem AW(h:nZ x y=true)(h':nZ y z=true):nZ x z=true:=Ud (List.lt_trans (Us h) (Us h'))
theorem Fh(h:nZ x y=true):nZ y x=false:=S7 λz=>List.lt_irrefl _ (List.lt_trans (Us h) z)
theorem B3(h:nZ x y=false)(h':nZ y x=false):x=y:=
 Qf (List.le_antisymm (List.not_lt.mp (of_decide_eq_false h')) (List.not_lt.mp (of_decide_eq_false h)))
mutual
theorem FC:∀{d e:PyData},ay d=true->ay e=true->cj d e=some true->cj e d=some false
 |.int i,.int j,_,_,h=>by grind[cj]
 |.str x,.str y,_,_,h=>by simp only[cj,T4]at h ⊢;exact Fh h
 |.tuple xs,.tuple ys,h,k,q=>by simp only[ay]at h k;simp only[cj]at q ⊢;exact B7 h k q
 |.int _,.str _,_,_,h=>by trivial
 |.int _,.tuple _,_,_,h=>by trivial
 |.str _,.int _,_,_,h=>by trivial
 |.str _,.tuple _,_,_,h=>by trivial
 |.tuple _,.int _,_,_,h=>by trivial
 |.tuple _,.str _,_,_,h=>by simp[cj]at h
 |.none,_,h,_,_=>by simp[ay]at h
 |.bool _,_,h,_,_=>by simp[ay]at h
 |.list _,_,h,_,_=>by simp[ay]at h
 |.dict _,_,h,_,_=>by simp[ay]at h
 |_,.none,_,h,_=>by simp[ay]at h
 |_,.bool _,_,h,_=>by simp[ay]at h
 |_,.list _,_,h,_=>by simp[ay]at h
 |_,.dict _,_,h,_=>by simp[ay]at h
theorem B7:∀{xs ys:Vw},aD xs=true->aD ys=true->dH xs ys=some true->dH ys xs=some false
 | [],[],_,_,h=>by simp[dH]at h
 | [],_::_,_,_,_=>by simp[dH]
 |_::_,[],_,_,h=>by simp[dH]at h
 |x::xs,y::ys,h,k,q=>by
  simp only[aD,R4]at h k;simp only[dH]at q ⊢;by_cases e:x=y
  ·subst e;rw[bQ h.1,if_pos rfl]at q ⊢;exact B7 h.2 k.2 q
  ·rw[bH h.1 k.1 e,if_neg #[6]]at q;rw[bH k.1 h.1 (λz=>e z.symm),if_neg #[6]];exact FC h.1 k.1 q
end
mutual
theorem B8:∀{d e:PyData},ay d=true->ay e=true->cj d e=some false->cj e d=some false->d=e
 |.int i,.int j,_,_,h,h'=>by grind[cj]
 |.str x,.str y,_,_,h,h'=>by simp only[cj,T4]at h h';rw[B3 h h']
 |.tuple xs,.tuple ys,h,k,q,q'=>by simp only[ay]at h k;simp only[cj]at q q';rw[zl h k q q']
 |.int _,.str _,_,_,h,_=>by trivial
 |.int _,.tuple _,_,_,h,_=>by trivial
 |.str _,.int _,_,_,h,_=>by trivial
 |.str _,.tuple _,_,_,h,_=>by trivial
 |.tuple _,.int _,_,_,h,_=>by simp[cj]at h
 |.tuple _,.str _,_,_,h,_=>by simp[cj]at h
 |.none,_,h,_,_,_=>by simp[ay]at h
 |.bool _,_,h,_,_,_=>by simp[ay]at h
 |.list _,_,h,_,_,_=>by simp[ay]at h
 |.dict _,_,h,_,_,_=>by simp[ay]at h
 |_,.none,_,h,_,_=>by simp[ay]at h
 |_,.bool _,_,h,_,_=>by simp[ay]at h
 |_,.list _,_,h,_,_=>by simp[ay]at h
 |_,.dict _,_,h,_,_=>by simp[ay]at h
theorem zl:∀{xs ys:Vw},aD xs=true->aD ys=true->dH xs ys=some false->dH ys xs=some false->xs=ys
 | [],[],_,_,_,_=>rfl
 | [],_::_,_,_,h,_=>by simp[dH]at h
 |_::_,[],_,_,_,h=>by simp[dH]at h
 |x::xs,y::ys,h,k,q,q'=>by
  simp only[aD,R4]at h k;simp only[dH]at q q';by_cases e:x=y
  ·subst e;rw[bQ h.1,if_pos rfl]at q q';rw[zl h.2 k.2 q q']
  ·rw[bH h.1 k.1 e,if_neg #[6]]at q;rw[bH k.1 h.1 (λz=>e z.symm),if_neg #[6]]at q';exact absurd (B8 h.1 k.1 q q') e
end
mutual
theorem Ir:∀{d:PyData},ay d=true->cj d d=some false
 |.int i,_=>by simp[cj]
 |.str x,_=>by simp[cj,xN]
 |.tuple xs,h=>zm h
 |.none,h=>by trivial
 |.bool _,h=>by trivial
 |.list _,h=>by trivial
 |.dict _,h=>by trivial
theorem zm:∀{xs:Vw},aD xs=true->dH xs xs=some false
 | [],_=>by rfl
 |x::xs,h=>by simp only[aD,R4]at h;simp only[dH];rw[bQ h.1,if_pos rfl];exact zm h.2
end
mutual
theorem FD:∀{d e f:PyData},ay d=true->ay e=true->ay f=true->cj d e=some true->cj e f=some true->cj d f=some true
 |.int i,.int j,.int k,_,_,_,h,h'=>by grind[cj]
 |.str x,.str y,.str z,_,_,_,h,h'=>by simp only[cj,T4]at h h' ⊢;exact AW h h'
 |.tuple xs,.tuple ys,.tuple zs,h,k,l,q,q'=>by simp only[ay]at h k l;simp only[cj]at q q' ⊢;exact B9 h k l q q'
 |.none,_,_,h,_,_,_,_=>by simp[ay]at h
 |.bool _,_,_,h,_,_,_,_=>by simp[ay]at h
 |.list _,_,_,h,_,_,_,_=>by simp[ay]at h
 |.dict _,_,_,h,_,_,_,_=>by simp[ay]at h
 |.int _,.none,_,_,_,_,h,_=>by simp[cj]at h
 |.int _,.bool _,_,_,_,_,h,_=>by simp[cj]at h
 |.int _,.str _,_,_,_,_,h,_=>by simp[cj]at h
 |.int _,.list _,_,_,_,_,h,_=>by simp[cj]at h
 |.int _,.tuple _,_,_,_,_,h,_=>by simp[cj]at h
 |.int _,.dict _,_,_,_,_,h,_=>by simp[cj]at h
 |.str _,.none,_,_,_,_,h,_=>by simp[cj]at h
 |.str _,.bool _,_,_,_,_,h,_=>by simp[cj]at h
 |.str _,.int _,_,_,_,_,h,_=>by simp[cj]at h
 |.str _,.list _,_,_,_,_,h,_=>by simp[cj]at h
 |.str _,.tuple _,_,_,_,_,h,_=>by simp[cj]at h
 |.str _,.dict _,_,_,_,_,h,_=>by simp[cj]at h
 |.tuple _,.none,_,_,_,_,h,_=>by simp[cj]at h
 |.tuple _,.bool _,_,_,_,_,h,_=>by simp[cj]at h
 |.tuple _,.int _,_,_,_,_,h,_=>by simp[cj]at h
 |.tuple _,.list _,_,_,_,_,h,_=>by simp[cj]at h
 |.tuple _,.str _,_,_,_,_,h,_=>by simp[cj]at h
 |.tuple _,.dict _,_,_,_,_,h,_=>by simp[cj]at h
 |.int _,.int _,.none,_,_,_,_,h=>by simp[cj]at h
 |.int _,.int _,.bool _,_,_,_,_,h=>by simp[cj]at h
 |.int _,.int _,.str _,_,_,_,_,h=>by simp[cj]at h
 |.int _,.int _,.list _,_,_,_,_,h=>by simp[cj]at h
 |.int _,.int _,.tuple _,_,_,_,_,h=>by simp[cj]at h
 |.int _,.int _,.dict _,_,_,_,_,h=>by simp[cj]at h
 |.str _,.str _,.none,_,_,_,_,h=>by simp[cj]at h
 |.str _,.str _,.bool _,_,_,_,_,h=>by simp[cj]at h
 |.str _,.str _,.int _,_,_,_,_,h=>by simp[cj]at h
 |.str _,.str _,.list _,_,_,_,_,h=>by simp[cj]at h
 |.str _,.str _,.tuple _,_,_,_,_,h=>by simp[cj]at h
 |.str _,.str _,.dict _,_,_,_,_,h=>by simp[cj]at h
 |.tuple _,.tuple _,.none,_,_,_,_,h=>by simp[cj]at h
 |.tuple _,.tuple _,.bool _,_,_,_,_,h=>by simp[cj]at h
 |.tuple _,.tuple _,.int _,_,_,_,_,h=>by simp[cj]at h
 |.tuple _,.tuple _,.list _,_,_,_,_,h=>by simp[cj]at h
 |.tuple _,.tuple _,.str _,_,_,_,_,h=>by simp[cj]at h
 |.tuple _,.tuple _,.dict _,_,_,_,_,h=>by simp[cj]at h
theorem B9:∀{xs ys zs:Vw},aD xs=true->aD ys=true->aD zs=true->dH xs ys=some true->dH ys zs=some true->dH xs zs=some true
 | [],[],_,_,_,_,h,_=>by simp[dH]at h
 | [],_::_,[],_,_,_,_,h=>by simp[dH]at h
 | [],_::_,_::_,_,_,_,_,_=>by simp[dH]
 |_::_,[],_,_,_,_,h,_=>by simp[dH]at h
 |_::_,_::_,[],_,_,_,_,h=>by simp[dH]at h
 |x::xs,y::ys,z::zs,h,k,l,q,q'=>by
  simp only[aD,R4]at h k l;simp only[dH]at q q' ⊢;by_cases e1:x=y
  ·subst e1;rw[bQ h.1,if_pos rfl]at q;by_cases e2:x=z
   ·subst e2;rw[bQ h.1,if_pos rfl]at q' ⊢;exact B9 h.2 k.2 l.2 q q'
   ·rw[bH h.1 l.1 e2,if_neg #[6]]at q' ⊢;exact q'
  ·rw[bH h.1 k.1 e1,if_neg #[6]]at q;by_cases e2:y=z
   ·subst e2;rw[bH h.1 k.1 e1,if_neg #[6]];exact q
   ·rw[bH k.1 l.1 e2,if_neg #[6]]at q';have q3:=FD h.1 k.1 l.1 q q';by_cases e3:x=z
    ·subst e3;rw[Ir h.1]at q3;cases q3
    ·rw[bH h.1 l.1 e3,if_neg #[6]];exact q3
end
noncomputable def eN(ds:Vw):Bool:=ds.all λa=>ds.all λb=>(cj a b).isSome
theorem fo(h:eN ds=true)(ha:a∈ds)(hb:b∈ds):cj a b=some (ltB a b):=by
 have:=Sh.mp (Sh.mp h a ha) b hb;unfold ltB
 cases q:cj a b with
 |none=>grind
 |some k=>rfl
noncomputable def ft:PyData->Bool|.tuple _=>true|_=>false
noncomputable def uc:PyData->Bool|.str _=>true|_=>false
noncomputable def lg(ds:Vw):Bool:=(ds.all uc || ds.all ft)&&aD ds&&eN ds&&decide (PyData.depthAll ds<=20)&&decide (ds.length<64)
noncomputable def fG:Fn:=λxs h=>match xs with
 | [x]=>match listOf x h with
  |some ds=>if lg ds then .ok (.dat (.list (fF ltB ds))) h else .bad
  |Option.none=>.bad
 |_=>.bad
theorem xU(c:eN ds=true)(t:aD ds=true)(ha:a∈ds)(hb:b∈ds)(h:ltB a b=true):ltB b a=false:=by have h1:=fo c ha hb;rw[h]at h1;unfold ltB;rw[FC (bp t ha) (bp t hb) h1];rfl
theorem pI(c:eN ds=true)(t:aD ds=true)(ha:a∈ds)(hb:b∈ds)(h:ltB b a=false):ltB a b=true\/a=b:=by
 cases q:ltB a b with
 |true=>grind
 |false=>have h1:=fo c ha hb;have h2:=fo c hb ha;rw[q]at h1;rw[h]at h2;exact .inr (B8 (bp t ha) (bp t hb) h1 h2)
theorem Ca(c:eN ds=true)(t:aD ds=true)(ha:a∈ds)(hb:b∈ds)(hd:d∈ds)(h:ltB b a=false)(h':ltB d b=false):ltB d a=false:=by
 rcases pI c t ha hb h with h1|rfl
 ·rcases pI c t hb hd h' with h2|rfl
  ·have q1:=fo c ha hb;have q2:=fo c hb hd;rw[h1]at q1;rw[h2]at q2;have q3:=FD (bp t ha) (bp t hb) (bp t hd) q1 q2;exact xU c t ha hd (by simp_all[ltB])
  grind
 grind
theorem qI(lt:PyData->PyData->Bool)(x:PyData):∀ys:Vw,(AX lt x ys).Perm (x::ys)
 | []=>.refl _
 |y::ys=>by
  unfold AX;split
  ·exact((qI lt x ys).cons y).trans (.swap x y ys)
  rfl
theorem b8(lt:PyData->PyData->Bool):∀xs:Vw,(fF lt xs).Perm xs
 | []=>.refl _
 |x::xs=>(qI lt x _).trans ((b8 lt xs).cons x)
noncomputable def Up(lt:PyData->PyData->Bool)(xs:Vw):Prop:=xs.Pairwise λa b=>lt b a=false
structure Ord(lt:PyData->PyData->Bool)(ds:Vw):Prop where
 as:∀{a b},a∈ds->b∈ds->lt a b=true->lt b a=false
 ntr:∀{a b d},a∈ds->b∈ds->d∈ds->lt b a=false->lt d b=false->lt d a=false
 tot:∀{a b},a∈ds->b∈ds->lt a b=false->lt b a=false->a=b
theorem Ord.sub(o:Ord lt ds)(h:∀e∈es,e∈ds):Ord lt es:=
 ⟨λa b=>o.as (h _ a) (h _ b),λa b d=>o.ntr (h _ a) (h _ b) (h _ d),λa b=>o.tot (h _ a) (h _ b)⟩
theorem Cb:∀{ys:Vw},Ord lt (x::ys)->Up lt ys->Up lt (AX lt x ys)
 | [],_,_=>by simp[AX,Up]
 |y::ys,o,u=>by
  unfold AX;unfold Up at u;rw[SN]at u;split
  ·rename_i h;refine SN.mpr ⟨λb hb=>?_,Cb (o.sub λe m=>by grind) u.2⟩;rcases Sf.mp ((qI lt x ys).mem_iff.mp hb)with rfl|hb
   ·exact o.as #[6] #[6] h
   grind
  ·have h':lt y x=false:=by grind
   refine SN.mpr ⟨λb hb=>?_,SN.mpr u⟩;rcases Sf.mp hb with rfl|hb
   ·exact h'
   ·exact o.ntr #[6] #[6] (by grind) h' (u.1 b hb)
theorem ud:∀{xs:Vw},Ord lt xs->Up lt (fF lt xs)
 | [],_=>by simp[fF,Up]
 |x::xs,o=>Cb (o.sub λe m=>by
     rcases Sf.mp m with rfl|m
     ·simp
     ·simp[(b8 lt xs).mem_iff.mp m]) (ud (o.sub λe m=>by simp[m]))
theorem wL:∀{xs ys:Vw},Ord lt xs->xs.Perm ys->Up lt xs->Up lt ys->xs=ys
 | [],ys,_,p,_,_=>by simp_all
 |x::xs,ys,o,p,u,v=>by
  cases ys with
  |nil=>simp_all
  |cons y ys=>
   have hx:x∈y::ys:=p.mem_iff.mp #[6];have hy:y∈x::xs:=p.mem_iff.mpr #[6]
   have e:x=y:=by
    rcases Sf.mp hx with e|hx
    ·exact e
    rcases Sf.mp hy with e|hy
    ·grind
    exact o.tot #[6] #[3] ((SN.mp v).1 x hx) ((SN.mp u).1 y hy)
   subst e;rw[wL (o.sub λe m=>by simp[m]) (List.perm_cons x |>.mp p) (SN.mp u).2 (SN.mp v).2]
theorem mL(c:eN ds=true)(t:aD ds=true):Ord ltB ds where
 as:=λa b=>xU c t a b
 ntr:=λa b d=>Ca c t a b d
 tot:=λ{a b} ha hb h h'=>by
  rcases pI c t ha hb h' with q|q
  ·grind
  grind
theorem FE(c:eN ds=true)(t:aD ds=true)(p:es.Perm ds)(u:Up ltB es):es=fF ltB ds:=
 wL ((mL c t).sub λe m=>p.mem_iff.mp m) (p.trans (b8 ltB ds).symm) u (ud (mL c t))
end Ml
namespace Ml
open PySem PySem.Spec L2
open Sem (wp)
mutual
theorem b9:∀{d:PyData},bj d=true->ay d=true
 |.str _,_=>by rfl
 |.tuple ds,h=>by simp[bj]at h;exact pJ h
 |.none,h=>by assumption
 |.bool _,h=>by assumption
 |.int _,h=>by rfl
 |.list _,h=>by assumption
 |.dict _,h=>by assumption
theorem pJ:∀{ds:Vw},dj ds=true->aD ds=true
 | [],_=>by rfl
 |d::ds,h=>by simp only[dj,R4]at h;simp only[aD,R4];exact⟨b9 h.1,pJ h.2⟩
end
mutual
def wM(w:World):PyData->Int
 |.str x=>hashStr w x
 |.tuple ds=>reduceHash (Builtin.Tuple.tupleHashOf (gI w ds))
 |_=>0
def gI(w:World):Vw->List Int
 | []=>[]
 |d::ds=>wM w d::gI w ds
end
mutual
def ue:PyData->Nat
 |.str _=>1
 |.tuple ds=>pK ds+1
 |_=>0
def pK:Vw->Nat
 | []=>0
 |d::ds=>ue d+pK ds
end
mutual
theorem wN(k:∀b o vs n,h.get? b=some o->o.cls=.type "tuple" -> o.data=.seq vs n->h'.get? b=some o):∀{d:PyData} {v:Value} {as:Vx},bj d=true->Reads h v d as->Reads h' v d as
 |.str _,_,_,_,.str x t=>.str x t
 |.tuple ds,_,_,t,.tuple h1 h2 h3 h4=>.tuple (k _ _ _ _ h1 h2 h3) h2 h3 (pL k t h4)
 |.none,_,_,t,_=>by trivial
 |.bool _,_,_,t,_=>by trivial
 |.int _,_,_,t,_=>by trivial
 |.list _,_,_,t,_=>by trivial
 |.dict _,_,_,t,_=>by trivial
theorem pL{h h':Heap}(k:∀b o vs n,h.get? b=some o->o.cls=.type "tuple" -> o.data=.seq vs n->h'.get? b=some o):∀{ds:Vw} {vs:Vy} {as:Vx},dj ds=true->ReadsAll h vs ds as->ReadsAll h' vs ds as
 | [],_,_,_,.nil=>.nil
 |d::ds,_,_,t,.cons r1 r2=>by simp only[dj,R4]at t;exact .cons (wN k t.1 r1) (pL k t.2 r2)
end
section
variable {P:VG} {w:World}
mutual
theorem uf:∀(d:PyData) (A:VH) (s:VI) (v:Value) (as:Vx) (Q:Int->VI->Prop) (E:Vs),bj d=true->Reads s.heap v d as->A.units+d.depth<cLine->Q (wM w d) {s with toks:=s.toks+ue d}->wpAny (model P w) A (pyHash v) Q E s
 |.str x,A,s,v,as,Q,E,_,r,hu,h=>by cases r;simp only[wM,ue]at h;exact wpAny_pyHash_str h
 |.tuple ds,A,s,v,as,Q,E,t,r,hu,h=>by
  cases r with
  |tuple ho hc hd hi=>
   rename_i a o items n;have hT:s.TypeIs (.ref a) "tuple" := ⟨o,ho,hc⟩;simp only[bj]at t;simp only[PyData.depth]at hu;simp only[wM,ue]at h;unfold pyHash
   first|unfold pyHashByItsType|skip
   first|refine R0 (wpAny_cRoomFor_or (.inr #[3]) ?_)|skip
   refine R0 (Uj hT UT.lookup ?_);show wpAny _ _ (if(some (Value.builtin "tuple.__hash__")==some Value.none)=true then _ else _) Q E s;rw[if_neg (by rw[beq_builtin_none];exact Sk)];refine R0 (Uj hT UT.lookup ?_);show wpAny _ _ (callSpecialIfBoundUnlessNone? (.ref a) "__hash__" _ >>= _) Q E s;refine R0 (wpAny_callSpecialIfBoundUnlessNone?_slot hT UT (SK UT hT F.entry_tuple_hash ?_ (F.args_tuple_hash_1 _)));show wpAny _ _ (Builtin.Tuple.tupleItemsOf (.ref a) >>= _) _ _ s;refine R0 (wpAny_tupleItemsOf ho hd ?_);refine R0 ?_;rw[<- UO];refine pM ds A.in1 s items.toList _ #[] _ _ _ t hi (by show A.units+1+_<_;omega) ?_ ?_
   ·intro x b s' R k
    first
     |exact R0 (S3 k (λc s2 q=>R3 q) λ_ _ z=>z)
     |exact R0 (S3 k (λc s2 q=>R0 (R3 (R3 q))) λ_ _ z=>z)
   ·show wpAny _ _ (retInt (Builtin.Tuple.tupleHashOf (#[]++(gI w ds).toArray).toList)) _ _ _;have e1:(#[]++(gI w ds).toArray).toList=gI w ds:=by simp
    rw[e1];refine wpAny_ret_mkInt ?_;show wpAny _ _ (if(decide (-(2:Int)^63<=Builtin.Tuple.tupleHashOf (gI w ds))&&decide (Builtin.Tuple.tupleHashOf (gI w ds)<2^63))=true then _ else _) Q E _;unfold reduceHash at h;by_cases hr:(decide (-(2:Int)^63<=Builtin.Tuple.tupleHashOf (gI w ds))&&decide (Builtin.Tuple.tupleHashOf (gI w ds)<2^63))=true
    ·rw[if_pos hr];rw[if_pos hr]at h;exact R3 (by simpa [Nat.add_assoc]using h)
    ·rw[if_neg hr];rw[if_neg hr]at h;exact R0 (TH (R3 (by simpa [Nat.add_assoc]using h)))
 |.none,_,_,_,_,_,_,t,_,_,_=>by simp[bj]at t
 |.bool _,_,_,_,_,_,_,t,_,_,_=>by simp[bj]at t
 |.int _,_,_,_,_,_,_,t,_,_,_=>by simp[bj]at t
 |.list _,_,_,_,_,_,_,t,_,_,_=>by simp[bj]at t
 |.dict _,_,_,_,_,_,_,t,_,_,_=>by simp[bj]at t
theorem pM:∀(ds:Vw) (A:VH) (s:VI) (vs:Vy) (as:Vx) (acc:Array Int) (R:Array Int->VI->Prop) (E':Vs) (body:Value->Array Int->Sem (ForInStep (Array Int))),dj ds=true->ReadsAll s.heap vs ds as->A.units+PyData.depthAll ds<cLine ->
  (∀(x:Value) (b:Array Int) (s':VI) (R':ForInStep (Array Int)->VI->Prop),wpAny (model P w) A (pyHash x) (λc s2=>R' (.yield (b.push c)) s2) E' s'->wpAny (model P w) A (body x b) R' E' s') ->
  R (acc++(gI w ds).toArray) {s with toks:=s.toks+pK ds}->wpAny (model P w) A (forIn vs acc body) R E' s
 | [],A,s,_,_,acc,R,E',body,_,.nil,_,hb,h=>by rw[Ve];simp only[gI,pK]at h;exact R3 (by simpa using h)
 |d::ds,A,s,_,_,acc,R,E',body,t,.cons r1 r2,hu,hb,h=>by simp only[dj,R4]at t;simp only[PyData.depthAll]at hu;rw[UI];refine R0 (hb _ _ _ _ ?_);refine uf d A s _ _ _ E' t.1 r1 #[3] ?_;refine pM ds A _ _ _ (acc.push (wM w d)) R E' body t.2 r2 #[3] hb ?_;simp only[gI,pK]at h;simpa [Nat.add_assoc]using h
end
mutual
theorem rF:∀(d:PyData) (n:Nat) (A:VH) (s:VI) (v:Value) (as:Vx) (Q:Bool->VI->Prop) (E:Vs),bj d=true->d.depth<=n->Reads s.heap v d as->Q true s->wpAny (model P w) A (eqIsQuiet n v) Q E s
 |.str x,n,A,s,v,as,Q,E,_,_,r,h=>by cases r;rw[eqIsQuiet_byValue n rfl];exact R3 h
 |.tuple ds,n,A,s,v,as,Q,E,t,hn,r,h=>by
  cases r with
  |tuple ho hc hd hi=>
   rename_i a o items k;have hT:s.TypeIs (.ref a) "tuple" := ⟨o,ho,hc⟩;simp only[bj]at t;simp only[PyData.depth]at hn;obtain⟨m,rfl⟩:∃m,n=m+1:=⟨n-1,by omega⟩;unfold eqIsQuiet;refine R0 (Uj hT F.slot_tuple_eq.lookup ?_);show wpAny _ _ (isInstance (.ref a) (.type "tuple") >>= _) _ _ s;refine R0 (wpAny_isInstance hT isSubtype_tuple_tuple ?_);simp only[Bool.not_true,Sx,TK];refine R0 (Tv ho hd ?_);refine R0 ?_;show wpAny _ _ (forIn items _ _) _ _ s;rw[<- UO];refine pN ds m A s items.toList _ _ E _ t #[3] hi ?_ ?_
   ·intro x s' R k;refine R0 (S3 k (λc s2 q=>?_) λ_ _ z=>z);obtain⟨rfl,q⟩:=q;simp only[Bool.not_true,Sx,TK];exact R3 q
   ·exact R3 h
 |.none,_,_,_,_,_,_,_,t,_,_,_=>by simp[bj]at t
 |.bool _,_,_,_,_,_,_,_,t,_,_,_=>by simp[bj]at t
 |.int _,_,_,_,_,_,_,_,t,_,_,_=>by simp[bj]at t
 |.list _,_,_,_,_,_,_,_,t,_,_,_=>by simp[bj]at t
 |.dict _,_,_,_,_,_,_,_,t,_,_,_=>by simp[bj]at t
theorem pN:∀(ds:Vw) (n:Nat) (A:VH) (s:VI) (vs:Vy) (as:Vx) (R:Option Bool×Unit->VI->Prop) (E:Vs) (body:Value->Option Bool×Unit->Sem (ForInStep (Option Bool×Unit))),dj ds=true->PyData.depthAll ds<=n->ReadsAll s.heap vs ds as ->
  (∀(x:Value) (s':VI) (R':ForInStep (Option Bool×Unit)->VI->Prop),wpAny (model P w) A (eqIsQuiet n x) (λc s2=>c=true/\R' (.yield (none,())) s2) E s'->wpAny (model P w) A (body x (none,())) R' E s') ->
  R (none,()) s->wpAny (model P w) A (forIn vs (none,()) body) R E s
 | [],n,A,s,_,_,R,E,body,_,_,.nil,hb,h=>by rw[Ve];exact R3 h
 |d::ds,n,A,s,_,_,R,E,body,t,hn,.cons r1 r2,hb,h=>by simp only[dj,R4]at t;simp only[PyData.depthAll]at hn;rw[UI];refine R0 (hb _ _ _ (rF d n A s _ _ _ E t.1 #[3] r1 ⟨rfl,?_⟩));exact pN ds n A s _ _ R E body t.2 #[3] r2 hb h
end
end
noncomputable def LG(h:Heap)(d:PyData)(a:Addr):Prop:=bj d=true/\d.depth<=8/\eR d=true/\∃as,Reads h (.ref a) d as
noncomputable instance Q3:DecidableEq PyData:=λa b=>Classical.propDecidable (a=b)
noncomputable def eT(P:VG)(w:World):HeapKind P w PyData where
 is:=LG
 hash:=wM w
 draws:=ue
 room:=λA=>A.units+20<cLine
 inj:=λ{h a x y} ⟨_,_,_,as,hx⟩ ⟨_,_,_,bs,hy⟩=>(PySem.Reads.unique hx _ _ hy).1
 keeps:=λ{h h' k a d o es ep} ⟨t,dp,so,as,r⟩ ho hd hs=>⟨t,dp,so,as,wN (λb ob vs n e c dd=>by
  have ne:b≠d:=λz=>by subst z;rw[ho]at e;cases e;rw[hd]at dd;cases dd
  exact(hs.2 b ne).trans e) t r⟩
 pyHash:=λ{A E s k a Q} hu ⟨t,dp,_,as,r⟩ h=>uf k A s _ as Q E t r #[3] h
 eqBool:=λ{A E s x y a b Q} hu ⟨t1,d1,s1,as,r1⟩ ⟨t2,d2,s2,bs,r2⟩ h=>by
  have hq:PyData.eqv x y=decide (x=y):=by
   by_cases e:x=y
   ·subst e;rw[Ud rfl];exact bQ (b9 t1)
   ·rw[S7 e];exact bH (b9 t1) (b9 t2) e
  have:=SeqAt.eqAt_reads x y A s _ _ _ _ r1 r2 (kY s1 (dA (b9 t1))) (kY s2 (dA (b9 t2))) #[3] P w E Q;rw[hq]at this;exact this h
 quiet:=λ{A E s k a Q} ⟨t,dp,_,as,r⟩ h=>rF k 8 A s _ as Q E t dp r h
noncomputable def dO(P:VG)(w:World)(xs:List (PyData×Addr×Value))(a:Addr):HO:=.ext λh=>xs.length<=sizeLine/\(a==sysModules)=false/\∃o es ep,h.get? a=some o/\o.ExactDict/\o.data=.dict es ep/\es.toList=xs.map (entryOfKey (eT P w))/\(xs.map (·.1)).Nodup
theorem FF(h1:xs.length<=sizeLine)(h2:(a==sysModules)=false)(h3:h.get? a=some o)(h4:o.ExactDict)(h5:o.data=.dict es ep)(h6:es.toList=xs.map (entryOfKey (eT P w)))(h7:(xs.map (·.1)).Nodup):bW P w H h a (dO P w xs a):=
 ⟨⟨h1,h2,o,es,ep,h3,h4,h5,h6,h7⟩,⟨o,h3⟩,by rintro g1 g2 ⟨k1,k2,o',es',ep',k3,k4⟩ hk;exact⟨k1,k2,o',es',ep',hk _ k3,k4⟩⟩
end Ml
namespace Ml
open PySem PySem.Spec L2
noncomputable def view(θ:Vx)(H:Hp):Hp:=λa=>if a∈θ then none else H a
theorem cM(h:view θ H a=some o):a∉θ/\H a=some o:=by
 simp_all[view]
theorem cZ(h:a∉θ):view θ H a=H a:=if_neg h
theorem aC(θ:Vx)(H:Hp):aW (view θ H) H:=λa o h=>(cM h).2
noncomputable def om(M:Hp)(p:PyData×PyData)(q:PyData×Addr×Value):Prop:=p.1=q.1/\bj p.1=true/\p.1.depth<=8/\eR p.1=true/\Rep M p.1 (.ref q.2.1)/\∃v,RelV v q.2.2/\Rep M p.2 v/\eR p.2=true
noncomputable def eU(P:VG)(w:World)(M G:Hp)(a:Addr)(t:Bool)(kvs:Vu):Prop:=
 (t=false/\∃ks,G a=some (.dK ks)/\bG ks=some kvs/\∀p∈kvs,eR p.1=true/\eR p.2=true)\/(t=true/\∃xs,G a=some (dO P w xs a)/\Paired (om M) kvs xs)
structure Gx where
 P:VG
 w:World
 mg:Str->Option Value
 K:Vz
noncomputable def LH:PyData->V
 |.int i=>.int i
 |.str x=>.str x
 |.bool b=>.bl b
 |_=>.non
noncomputable def FG(K:Vz)(a:Addr)(xs:Vw):Prop:=(∃(o:Obj) (its:VE) (n:Nat),K.lookup a=some o/\o.cls=.type "tuple" /\ o.data=.seq its n/\its.size<=sizeLine/\Vals (xs.map LH) its.toList)/\(∀x∈xs,(match x with|.int _|.str _|.bool _|.none=>true|_=>false)=true)/\cQ xs=true
noncomputable def NU(G:Gx)(x:Xc)(cls:Value)(da:Option Addr)(M:Hp):Prop:=G.mg x.cls=some cls/\da=none/\x.args=[]
noncomputable def bU(G:Gx)(θ:Vx)(H:Hp):D->V->Prop
 |.dat d,v=>Rep (view θ H) d v/\eR d=true
 |.ref i,v=>∃a,θ[i]?=some a/\v=.ref a
 |.fS t kvs,v=>∃a,v=.ref a/\eU G.P G.w (view θ H) (view θ H) a t kvs
 |.set _,_=>False
 |.fn n,v=>∃f,G.mg n=some (.ref f)/\v=.ref f
 |.scr ns,v=>∃a,v=.ref a/\gF G.K (view θ H) a (ns.map V.int)
 |.ktup xs,v=>∃a,v=.ref a/\FG G.K a xs
 |.rpr x,v=>v=.str x
 |.exc x,v=>∃a cls,v=.ref a/\view θ H a=some (.ext (eB a cls))/\NU G x cls none (view θ H)
noncomputable abbrev aV(G:Gx)(θ:Vx)(H:Hp):List D->List V->Prop:=Paired (bU G θ H)
noncomputable def TabAt(θ:Vx)(H:Hp)(P:Addr)(q:Str):Prop:=∃ps:VE,H P=some (.tbl ps)/\TriplesOk ps.toList/\∀(pos:Pos) (c:Value),codeAmong pos ps.toList=some c->∃b,c=.ref b/\b≠P/\view θ H b=some (.ext (recAt b q))
theorem TabAt.same(s:aW (view θ H) (view θ' H'))(e:∀o,H P=some o->H' P=some o)(x:TabAt θ H P q):TabAt θ' H' P q:=by obtain⟨ps,h1,h2,h3⟩:=x;exact⟨ps,e _ h1,h2,λpos c k=>by obtain⟨b,k1,k2,k3⟩:=h3 pos c k;exact⟨b,k1,k2,s _ _ k3⟩⟩
theorem TabAt.ok(x:TabAt θ H P q):wA H P q:=by obtain⟨ps,h1,h2,h3⟩:=x;exact⟨ps,h1,h2,λpos c k=>by obtain⟨b,k1,k2,k3⟩:=h3 pos c k;exact⟨b,k1,k2,(cM k3).2⟩⟩
noncomputable def AY(G:Gx)(θ:Vx)(H:Hp)(a:Addr):MO->Prop
 |.lst xs=>∃vs,H a=some (.lst vs)/\aV G θ H xs vs
 |.fS t kvs=>eU G.P G.w (view θ H) H a t kvs
 |.ins _ _=>False
 |.tab P q=>a=P/\TabAt θ H P q
structure W(G:Gx)(θ:Vx)(h:Hm)(H:Hp):Prop where
 len:θ.length=h.length
 nd:θ.Nodup
 obj:∀(i:Nat) (a:Addr) (o:MO),θ[i]?=some a->h[i]?=some o->AY G θ H a o
noncomputable def Fr(G:Gx)(θ:Vx)(H:Hp)(ρ:Fm)(σ:St):Prop:=ρ.length=σ.length/\∀(i:Nat) (d:D),ρ[i]?=some (some d)->∃v,σ[i]?=some (some v)/\bU G θ H d v
structure Ev(θ:Vx)(H:Hp)(θ':Vx)(H':Hp):Prop where
 pre:∃ext,θ'=θ++ext
 same:aW (view θ H) (view θ' H')
section
variable {G:Gx} {θ θ' θ'':Vx} {H H' H'':Hp} {h h':Hm} {d:D} {v:V} {ρ:Fm} {σ:St}
theorem Ev.refl:Ev θ H θ H:=⟨⟨[],by simp⟩,aW.refl _⟩
theorem Ev.trans(a:Ev θ H θ' H')(b:Ev θ' H' θ'' H''):Ev θ H θ'' H'':=by obtain⟨e1,rfl⟩:=a.pre;obtain⟨e2,rfl⟩:=b.pre;exact⟨⟨e1++e2,by simp⟩,a.same.trans b.same⟩
theorem Ev.get(a:Ev θ H θ' H'){i:Nat}{x:Addr}(e:θ[i]?=some x):θ'[i]?=some x:=by obtain⟨ext,rfl⟩:=a.pre;rw[Sl (by have:=R6.mp e;exact this.1)];exact e
theorem om.same(s:aW M M')(h:om M p q):om M' p q:=by obtain⟨h1,h2,h3,h4,h5,v,h6,h7,h8⟩:=h;exact⟨h1,h2,h3,h4,h5.same s,v,h6,h7.same s,h8⟩
theorem eU.same{M M' G G':Hp}(s:aW M M')(h:eU P w M G a t kvs)(e:∀o,G a=some o->G' a=some o):eU P w M' G' a t kvs:=by
 rcases h with⟨ht,ks,h1,h2⟩|⟨ht,xs,h1,h2⟩
 ·exact .inl ⟨ht,ks,e _ h1,h2⟩
 ·exact .inr ⟨ht,xs,e _ h1,Paired.C1 h2 λ_ _=>om.same s⟩
theorem eU.some{M G:Hp}(h:eU P w M G a t kvs):G a≠none:=by
 rcases h with⟨_,ks,h1,_⟩|⟨_,xs,h1,_⟩
 ·grind
 grind
theorem bU.ev(e:Ev θ H θ' H')(r:bU G θ H d v):bU G θ' H' d v:=by
 cases d with
 |dat d=>exact⟨r.1.same e.same,r.2⟩
 |ref i=>obtain⟨a,h1,h2⟩:=r;exact⟨a,e.get h1,h2⟩
 |fS t kvs=>obtain⟨a,h1,h2⟩:=r;exact⟨a,h1,h2.same e.same λo=>e.same a o⟩
 |set xs=>exact r
 |fn n=>exact r
 |scr ns=>obtain⟨a,h1,h2⟩:=r;exact⟨a,h1,e.same.seq h2⟩
 |ktup xs=>exact r
 |rpr x=>exact r
 |exc x=>obtain⟨a,c,h1,h2,h3⟩:=r;exact⟨a,c,h1,e.same _ _ h2,h3⟩
theorem aV.ev(e:Ev θ H θ' H')(r:aV G θ H ds vs):aV G θ' H' ds vs:=Paired.C1 r λ_ _=>bU.ev e
theorem Fr.ev(e:Ev θ H θ' H')(r:Fr G θ H ρ σ):Fr G θ' H' ρ σ:=⟨r.1,λi d q=>by obtain⟨v,h1,h2⟩:=r.2 i d q;exact⟨v,h1,h2.ev e⟩⟩
theorem Fr.set(r:Fr G θ H ρ σ)(q:bU G θ H d v):Fr G θ H (ρ.set i (some d)) (σ.set i (some v)):=by
 refine⟨by simp[r.1],λj e he=>?_⟩;by_cases hj:i=j
 ·subst hj;by_cases hl:i<ρ.length
  ·rw[Tb hl]at he;cases he;exact⟨v,by rw[Tb (by rw[<- r.1];exact hl)],q⟩
  simp_all
 ·rw[TR hj]at he ⊢;exact r.2 j e he
theorem Fr.replicate(n:Nat)(r:Fr G θ H ρ σ):Fr G θ H (List.replicate n none++ρ) (List.replicate n none++σ):=by
 refine⟨by simp[r.1],λi d e=>?_⟩;by_cases hi:i<n
 ·rw[Sl (by simp_all),T8]at e
  grind
 ·rw[SO (by simp;omega)]at e ⊢;simp at e ⊢;exact r.2 _ d e
theorem FH(hp:H p=none)(hn:p∉θ):Ev θ H θ (upd H p o):=⟨⟨[],by simp⟩,λa u q=>by
 obtain⟨h1,h2⟩:=cM q;rw[cZ h1,au (aB h2 hp)]
 exact h2⟩
theorem AY.some(o:MO)(r:AY G θ H a o):H a≠none:=by
 cases o with
 |lst xs=>obtain⟨vs,e,_⟩:=r;grind
 |fS t kvs=>exact eU.some r
 |ins=>trivial
 |tab P q=>obtain⟨rfl,ps,e,_⟩:=r;grind
theorem W.Cc(w:W G θ h H)(hp:H p=none):p∉θ:=λm=>by
 obtain⟨i,hi,e⟩:=S9.mp m;have hl:i<h.length:=by rw[<- w.len];exact hi
 exact AY.some _ (w.obj i p h[i] (by simp_all) (R9 hl)) hp
theorem W.put(w:W G θ h H)(hp:H p=none):Ev θ H θ (upd H p o)/\W G θ h (upd H p o)/\view θ (upd H p o) p=some o:=by
 have hn:=w.Cc hp;have e:=FH (o:=o) hp hn;refine⟨e,⟨w.len,w.nd,λi a m h1 h2=>?_⟩,by rw[cZ hn,aG]⟩;have r:=w.obj i a m h1 h2;have ha:a≠p:=λz=>by subst z;exact hn (SJ h1)
 cases m with
 |lst xs=>obtain⟨vs,q1,q2⟩:=r;exact⟨vs,by rw[au ha];exact q1,q2.ev e⟩
 |fS t kvs=>exact eU.same e.same r λo q=>by rw[au ha];exact q
 |ins=>trivial
 |tab P q=>obtain⟨rfl,x⟩:=r;exact⟨rfl,x.same e.same λo q=>by rw[au ha];exact q⟩
theorem W.grow(w:W G θ h H)(s:aW H H'):Ev θ H θ H'/\W G θ h H':=by
 have e:Ev θ H θ H':=⟨⟨[],by simp⟩,λa u q=>by
  obtain⟨h1,h2⟩:=cM q;rw[cZ h1]
  exact s _ _ h2⟩
 refine⟨e,⟨w.len,w.nd,λi a m h1 h2=>?_⟩⟩;have r:=w.obj i a m h1 h2
 cases m with
 |lst xs=>obtain⟨vs,q1,q2⟩:=r;exact⟨vs,s _ _ q1,q2.ev e⟩
 |fS t kvs=>exact eU.same e.same r λo q=>s _ _ q
 |ins=>trivial
 |tab P q=>obtain⟨rfl,x⟩:=r;exact⟨rfl,x.same e.same λo q=>s _ _ q⟩
theorem W.alloc(w:W G θ h H)(hp:H p=none)(ho:AY G (θ++[p]) (upd H p o) p m):Ev θ H (θ++[p]) (upd H p o)/\W G (θ++[p]) (h++[m]) (upd H p o):=by
 have hn:=w.Cc hp
 have e:Ev θ H (θ++[p]) (upd H p o):=⟨⟨[p],rfl⟩,λa u q=>by
  obtain⟨h1,h2⟩:=cM q;have ne:=aB h2 hp;rw[cZ (by grind),au ne]
  exact h2⟩
 refine⟨e,⟨by simp[w.len],?_,λi a m' h1 h2=>?_⟩⟩
 ·rw[List.nodup_append];exact⟨w.nd,by simp,λx hx y hy z=>by grind⟩
 ·by_cases hi:i<θ.length
  ·rw[Sl hi]at h1;rw[Sl (by rw[<- w.len];exact hi)]at h2;have r:=w.obj i a m' h1 h2;have ha:a≠p:=λz=>by subst z;exact hn (SJ h1)
   cases m' with
   |lst xs=>obtain⟨vs,q1,q2⟩:=r;exact⟨vs,by rw[au ha];exact q1,q2.ev e⟩
   |fS t kvs=>exact eU.same e.same r λo q=>by rw[au ha];exact q
   |ins=>exact r.elim
   |tab P q=>obtain⟨rfl,x⟩:=r;exact⟨rfl,x.same e.same λo q=>by rw[au ha];exact q⟩
  ·rw[SO #[3]]at h1;rw[SO (by rw[<- w.len];omega),<- w.len]at h2
   cases hk:i-θ.length with
   |zero=>rw[hk]at h1 h2;simp at h1 h2;subst h1;subst h2;exact ho
   |succ k=>rw[hk]at h1;simp at h1
theorem W.write(w:W G θ h H)(hi:θ[i]?=some p)(hl:i<h.length)(ho:AY G θ (upd H p o) p m):Ev θ H θ (upd H p o)/\W G θ (h.set i m) (upd H p o):=by
 have hm:p∈θ:=SJ hi
 have e:Ev θ H θ (upd H p o):=⟨⟨[],by simp⟩,λa u q=>by
  obtain⟨h1,h2⟩:=cM q;have ne:a≠p:=λz=>by grind
  simp_all[cZ,h1,au,ne]⟩
 refine⟨e,⟨by simp[w.len],w.nd,λj a m' h1 h2=>?_⟩⟩;by_cases hj:i=j
 ·simp_all
 ·rw[TR hj]at h2
  have ha:a≠p:=λz=>by
   subst z;obtain⟨l1,e1⟩:=R6.mp hi;obtain⟨l2,e2⟩:=R6.mp h1;have pw:=TQ.mp w.nd;rcases Nat.lt_or_gt_of_ne hj with z|z
   ·exact pw i j l1 l2 z (e1.trans e2.symm)
   ·exact pw j i l2 l1 z (e2.trans e1.symm)
  have r:=w.obj j a m' h1 h2
  cases m' with
  |lst xs=>obtain⟨vs,q1,q2⟩:=r;exact⟨vs,by rw[au ha];exact q1,q2.ev e⟩
  |fS t kvs=>exact eU.same e.same r λo q=>by rw[au ha];exact q
  |ins=>exact r.elim
  |tab P q=>obtain⟨rfl,x⟩:=r;exact⟨rfl,x.same e.same λo q=>by rw[au ha];exact q⟩
end
noncomputable abbrev XP:=Xc->Vx->Hm->Hp->Prop
noncomputable def aE{α:Type}(G:Gx)(E:XP)(θ:Vx)(H:Hp):R α->(α->Vx->Hm->Hp->Prop)->Prop
 |.ok a h',K=>∀θ' H',Ev θ H θ' H'->W G θ' h' H'->K a θ' h' H'
 |.exc x h',_=>∀θ' H',Ev θ H θ' H'->W G θ' h' H'->E x θ' h' H'
 |.bad,_=>False
section
variable {α β:Type} {G:Gx} {E E':XP} {θ θ':Vx} {H H':Hp} {h:Hm} {r:R α} {f:α->Hm->R β} {K K':α->Vx->Hm->Hp->Prop}
theorem aE.mono(p:aE G E θ H r K)(k:∀a θ' h' H',Ev θ H θ' H'->W G θ' h' H'->K a θ' h' H'->K' a θ' h' H'):aE G E θ H r K':=by
 cases r with
 |ok a h'=>exact λθ' H' e w=>k _ _ _ _ e w (p θ' H' e w)
 |exc x h'=>exact p
 |bad=>exact p
theorem aE.later(p:aE G E θ H r K)(e:Ev θ H θ' H'):aE G E θ' H' r K:=by
 cases r with
 |ok a h'=>exact λθ2 H2 e2 w=>p θ2 H2 (e.trans e2) w
 |exc x h'=>exact λθ2 H2 e2 w=>p θ2 H2 (e.trans e2) w
 |bad=>exact p
theorem aE.bind(p:aE G E θ H (r.bind f) L):aE G E θ H r λa θ1 h1 H1=>Ev θ H θ1 H1/\W G θ1 h1 H1/\aE G E θ1 H1 (f a h1) L:=by
 cases r with
 |ok a h'=>exact λθ1 H1 e w=>⟨e,w,aE.later p e⟩
 |exc x h'=>exact p
 |bad=>exact p
end
noncomputable def qJ(G:Gx)(E:XK):XP:=λx θ _ H=>∀cls da,NU G x cls da (view θ H)->E cls da H
noncomputable def KV(G:Gx)(Q:VK):D->Vx->Hm->Hp->Prop:=λd θ _ H=>∀v,bU G θ H d v->Q v H
noncomputable def RL(G:Gx)(Q:List V->Hp->Prop):List D->Vx->Hm->Hp->Prop:=λds θ _ H=>∀vs,aV G θ H ds vs->Q vs H
noncomputable def KS(G:Gx)(C:Ends):Fl->Vx->Hm->Hp->Prop:=λf θ _ H=>match f with
 |.nx ρ=>∀σ,Fr G θ H ρ σ->C.nx σ H
 |.rt d=>∀v,bU G θ H d v->C.rt v H
 |.bk ρ=>∀σ,Fr G θ H ρ σ->C.bk σ H
 |.ct ρ=>∀σ,Fr G θ H ρ σ->C.ct σ H
noncomputable def lE(G:Gx)(E:XK)(m:ME):TE:=λσ H Q=>∃θ h ρ,W G θ h H/\Fr G θ H ρ σ/\aE G (qJ G E) θ H (m ρ h) (KV G Q)
noncomputable def lT(G:Gx)(E:XK)(m:MT):TT:=λσ H Q=>∃θ h ρ,W G θ h H/\Fr G θ H ρ σ/\aE G (qJ G E) θ H (m ρ h) (λb _ _ H'=>Q b H')
noncomputable def lA(G:Gx)(E:XK)(m:MA):TA:=λσ H Q=>∃θ h ρ,W G θ h H/\Fr G θ H ρ σ/\aE G (qJ G E) θ H (m ρ h) (RL G Q)
noncomputable def lS(G:Gx)(E:XK)(m:MS):TS:=λC σ H=>∃θ h ρ,W G θ h H/\Fr G θ H ρ σ/\aE G (qJ G E) θ H (m ρ h) (KS G C)
noncomputable def lG(G:Gx)(E:XK)(g:MG):TG:=λv σ H Q=>∃θ h ρ d,W G θ h H/\Fr G θ H ρ σ/\bU G θ H d v/\aE G (qJ G E) θ H (g d ρ h) (λρ' θ' _ H'=>∀σ',Fr G θ' H' ρ' σ'->Q σ' H')
noncomputable abbrev _root_.L2.Cx.G(X:Cx):Gx:=⟨X.prog,X.w,X.mg,X.K⟩
@[irreducible] noncomputable def DE(X:Cx)(E:XK)(m:ME)(e:Expr):Prop:=PE X e (lE X.G E m)
theorem bC(X:Cx)(E:XK)(m:ME)(e:Expr):DE X E m e=(PE X e (lE X.G E m)):=by
 grind[DE]
@[irreducible] noncomputable def DT(X:Cx)(E:XK)(m:MT)(e:Expr):Prop:=PT X e (lT X.G E m)
theorem jq(X:Cx)(E:XK)(m:MT)(e:Expr):DT X E m e=(PT X e (lT X.G E m)):=by
 grind[DT]
@[irreducible] noncomputable def DA(X:Cx)(E:XK)(m:MA)(es:VB):Prop:=PA X es (lA X.G E m)
theorem gV(X:Cx)(E:XK)(m:MA)(es:VB):DA X E m es=(PA X es (lA X.G E m)):=by
 grind[DA]
@[irreducible] noncomputable def DS(X:Cx)(E:XK)(m:MS)(s:Stmt):Prop:=PS X s (lS X.G E m)
theorem jr(X:Cx)(E:XK)(m:MS)(s:Stmt):DS X E m s=(PS X s (lS X.G E m)):=by
 grind[DS]
@[irreducible] noncomputable def Cd(X:Cx)(E:XK)(m:MS)(s:List Stmt):Prop:=vL X s (lS X.G E m)
theorem jL(X:Cx)(E:XK)(m:MS)(s:List Stmt):Cd X E m s=(vL X s (lS X.G E m)):=by
 grind[Cd]
@[irreducible] noncomputable def DG(X:Cx)(E:XK)(m:MG)(e:Expr):Prop:=PG X e (lG X.G E m)
theorem nv(X:Cx)(E:XK)(m:MG)(e:Expr):DG X E m e=(PG X e (lG X.G E m)):=by
 grind[DG]
theorem PE.imp(h:PE X e t)(k:∀σ H Q,t' σ H Q->t σ H Q):PE X e t':=λpins s σ H Q I q=>h pins s σ H Q I (k _ _ _ q)
theorem PT.imp(h:PT X e t)(k:∀σ H Q,t' σ H Q->t σ H Q):PT X e t':=λpins s σ H Q I q=>h pins s σ H Q I (k _ _ _ q)
theorem PA.imp(h:PA X e t)(k:∀σ H Q,t' σ H Q->t σ H Q):PA X e t':=λpos pins s σ H Q I q=>h pos pins s σ H Q I (k _ _ _ q)
theorem PS.imp(h:PS X e t)(k:∀C σ H,t' C σ H->t C σ H):PS X e t':=λpins s σ H C I q=>h pins s σ H C I (k _ _ _ q)
theorem vL.imp(h:vL X e t)(k:∀C σ H,t' C σ H->t C σ H):vL X e t':=λpins s σ H C I q=>h pins s σ H C I (k _ _ _ q)
noncomputable def LJ(G:Gx)(E:XK)(f:D->D->Hm->R D):R2:=λx y H Q=>∃θ h d1 d2,W G θ h H/\bU G θ H d1 x/\bU G θ H d2 y/\aE G (qJ G E) θ H (f d1 d2 h) (KV G Q)
noncomputable def Q4(G:Gx)(E:XK)(f:D->Hm->R D):V->Hp->VK->Prop:=λx H Q=>∃θ h d1,W G θ h H/\bU G θ H d1 x/\aE G (qJ G E) θ H (f d1 h) (KV G Q)
noncomputable def Q5(G:Gx)(E:XK)(f:Fn):List V->Hp->VK->Prop:=λxs H Q=>∃θ h ds,W G θ h H/\aV G θ H ds xs/\aE G (qJ G E) θ H (f ds h) (KV G Q)
noncomputable def pO(X:Cx)(E:XK)(op:Value->Value->Sem Value)(f:D->D->Hm->R D):Prop:=iC X op (LJ X.G E f)
noncomputable def Q6(X:Cx)(E:XK)(op:Value->Sem Value)(f:D->Hm->R D):Prop:=OU X op (Q4 X.G E f)
noncomputable def o8(X:Cx)(E:XK)(v:Value)(f:Fn):Prop:=cX X v (Q5 X.G E f)
theorem iC.imp(h:iC X op r)(k:∀x y H Q,r' x y H Q->r x y H Q):iC X op r':=λpins s σ H x y v u Q I rx ry q=>h pins s σ H x y v u Q I rx ry (k _ _ _ _ q)
theorem cX.imp(h:cX X f r)(k:∀xs H Q,r' xs H Q->r xs H Q):cX X f r':=λpins s σ H xs us Q I r q=>h pins s σ H xs us Q I r (k _ _ _ q)
theorem pO.of(h:iC X op r)
 (k:∀θ hm H d1 d2 x y Q,W X.G θ hm H->bU X.G θ H d1 x->bU X.G θ H d2 y->aE X.G (qJ X.G E) θ H (f d1 d2 hm) (KV X.G Q)->r x y H Q):pO X E op f:=
 iC.imp h (by rintro x y H Q ⟨θ,hm,d1,d2,w,r1,r2,p⟩;exact k θ hm H d1 d2 x y Q w r1 r2 p)
theorem o8.of(h:cX X v r)
 (k:∀θ hm H ds xs Q,W X.G θ hm H->aV X.G θ H ds xs->aE X.G (qJ X.G E) θ H (f ds hm) (KV X.G Q)->r xs H Q):o8 X E v f:=
 cX.imp h (by rintro xs H Q ⟨θ,hm,ds,w,r1,p⟩;exact k θ hm H ds xs Q w r1 p)
section
variable {X:Cx} {E:XK} {m a b c:ME} {t u:MT} {e e1 e2 e3:Expr} {es:VB} {ma:MA} {pos:Pos} {i:Nat} {x:Str}
theorem LK(hN:X.N[i]?=some x)(hv:Eo X.env.scope x)(hd:(x==("__debug__" : Str))=false:=by decide)(hcd:(x==("__classdict__" : Str))=false:=by decide):DE X E (ae i) (.Name x pos):=by
 simp only[bC]at *
 exact PE.imp (xo hN hv hd hcd) (by
   rintro σ H Q ⟨θ,h,ρ,w,fr,p⟩;unfold ae at p
   cases e:ρ[i]? with
   |none=>rw[e]at p;exact p.elim
   |some o=>
    cases o with
    |none=>rw[e]at p;exact p.elim
    |some d=>
     rw[e]at p;obtain⟨v,h1,h2⟩:=fr.2 i d e
     exact⟨v,h1,p θ H Ev.refl w v h2⟩)
theorem FI(h:PE X e (tC v))(r:∀G,Rep G d v)(s:eR d=true):DE X E (aj d) e:=by simp[bC]at *;exact PE.imp h (by rintro σ H Q ⟨θ,hm,ρ,w,fr,p⟩;exact p θ H Ev.refl w v ⟨r _,s⟩)
theorem aA:DE X E (aj (.int k)) (.Constant (.int k) j pos):=FI tH (λ_=>rfl) #[5]
theorem bV:DE X E (aj (.bool k)) (.Constant (.bool k) j pos):=FI yT (λ_=>rfl) #[5]
theorem tf:DE X E (aj .none) (.Constant .none j pos):=FI Er (λ_=>rfl) #[5]
theorem oq(h:PyData.strOk k=true:=by decide +kernel):DE X E (aj (.str k)) (.Constant (.str k) j pos):=FI tI (λ_=>rfl) (by trivial)
theorem xV(h:lE G E (ak f a b) σ H Q):Nl (LJ G E f) (lE G E a) (lE G E b) σ H Q:=by obtain⟨θ,h,ρ,w,fr,p⟩:=h;refine⟨θ,h,ρ,w,fr,(aE.bind p).mono λx θ1 h1 H1 _ _ ⟨e1,w1,p1⟩ v r1=>?_⟩;exact⟨θ1,h1,ρ,w1,fr.ev e1,(aE.bind p1).mono (by rintro y θ2 h2 H2 _ _ ⟨e2,w2,p2⟩ u r2;exact⟨θ2,h2,x,y,w2,r1.ev e2,r2,p2⟩)⟩
theorem NV(h:lE G E (wD f a) σ H Q):QY (Q4 G E f) (lE G E a) σ H Q:=by obtain⟨θ,h,ρ,w,fr,p⟩:=h;exact⟨θ,h,ρ,w,fr,(aE.bind p).mono (by rintro x θ1 h1 H1 _ _ ⟨e1,w1,p1⟩ v r1;exact⟨θ1,h1,x,w1,r1,p1⟩)⟩
theorem Ce(h:lE G E (ag f ma) σ H Q):OW (Q5 G E f) (lA G E ma) σ H Q:=by obtain⟨θ,h,ρ,w,fr,p⟩:=h;exact⟨θ,h,ρ,w,fr,(aE.bind p).mono (by rintro xs θ1 h1 H1 _ _ ⟨e1,w1,p1⟩ vs r1;exact⟨θ1,h1,xs,w1,r1,p1⟩)⟩
theorem aQ(h:pO X E (binaryOp op) f)(ha:DE X E a e1)(hb:DE X E b e2):DE X E (ak f a b) (.BinOp e1 op e2 pos):=by simp[bC]at *;exact PE.imp (wg h ha hb) λ_ _ _=>xV
theorem NW(h:Q6 X E (unaryOp op) f)(ha:DE X E a e1):DE X E (wD f a) (.UnaryOp op e1 pos):=by simp[bC]at *;exact PE.imp (JW h ha) λ_ _ _=>NV
theorem eO(h:pO X E (compareOp op) f)(ha:DE X E a e1)(hb:DE X E b e2)(hm:behindInMarks op e2=false):DE X E (ak f a b) (.Compare e1 [op] [e2] pos):=by simp[bC]at *;exact PE.imp (Hy h ha hb hm) λ_ _ _=>xV
theorem cN(h:M3 X (LJ X.G E f))(ha:DE X E a e1)(hb:DE X E b e2)(hs:BO e2):DE X E (ak f a b) (.Subscript e1 e2 pos):=by simp[bC]at *;exact PE.imp (BP h ha hb hs) λ_ _ _=>xV
theorem Cf(h:lT G E (aM m) σ H Q):lE G E m σ H λx H'=>∃k,x=.bl k/\Q k H':=by
 obtain⟨θ,h,ρ,w,fr,p⟩:=h;refine⟨θ,h,ρ,w,fr,(aE.bind p).mono λx θ1 h1 H1 _ _ ⟨e1,w1,p1⟩ v r1=>?_⟩
 cases x with
 |dat d=>
  cases d with
  |bool k=>exact⟨k,r1.1,p1 θ1 H1 Ev.refl w1⟩
  |_=>trivial
 |_=>trivial
theorem bL(h:pO X E (compareOp op) f)(ha:DE X E a e1)(hb:DE X E b e2)(hm:behindInMarks op e2=false):DT X E (aM (ak f a b)) (.Compare e1 [op] [e2] pos):=by simp[bC,jq]at *;exact PT.imp (BI h ha hb hm) λ_ _ _ q=>xV (Cf q)
@[irreducible] noncomputable def DW(X:Cx)(E:XK)(t:MT)(e:Expr):Prop:=PW X e (lT X.G E t)
theorem zo(X:Cx)(E:XK)(t:MT)(e:Expr):DW X E t e=(PW X e (lT X.G E t)):=by
 grind[DW]
theorem DW.dt(h:DW X E t e):DT X E t e:=by simp[jq,zo]at *;exact PW.pt h
theorem PW.imp{t t':TT}(h:PW X e t)(k:∀σ H Q,t' σ H Q->t σ H Q):PW X e t':=λwh pins s σ H Q I q=>h wh pins s σ H Q I (k _ _ _ q)
theorem Iu(ha:DT X E t e):DW X E t (.BoolOp .And [e] pos):=by simp[jq,zo]at *;exact Ht ha
theorem gJ(ha:DT X E t e):DW X E t (.BoolOp .Or [e] pos):=by simp[jq,zo]at *;exact Et ha
theorem LL(ha:DT X E t e1)(hb:DW X E u (.BoolOp .And (e2::es) pos)):DW X E (Es t u) (.BoolOp .And (e1::e2::es) pos):=by
 simp[jq,zo]at *
 exact PW.imp (Kz ha hb) (by rintro σ H Q ⟨θ,h,ρ,w,fr,p⟩;exact⟨θ,h,ρ,w,fr,(aE.bind p).mono (by
   rintro c θ1 h1 H1 _ _ ⟨ev,w1,p1⟩
   cases c with
   |true=>exact⟨θ1,h1,ρ,w1,fr.ev ev,p1⟩
   |false=>exact p1 θ1 H1 Ev.refl w1)⟩)
theorem gW(ha:DT X E t e1)(hb:DW X E u (.BoolOp .Or (e2::es) pos)):DW X E (pb t u) (.BoolOp .Or (e1::e2::es) pos):=by
 simp[jq,zo]at *
 exact PW.imp (JU ha hb) (by rintro σ H Q ⟨θ,h,ρ,w,fr,p⟩;exact⟨θ,h,ρ,w,fr,(aE.bind p).mono (by
   rintro c θ1 h1 H1 _ _ ⟨ev,w1,p1⟩
   cases c with
   |true=>exact p1 θ1 H1 Ev.refl w1
   |false=>exact⟨θ1,h1,ρ,w1,fr.ev ev,p1⟩)⟩)
theorem cI(ha:DT X E t e):DT X E (cY t) (.UnaryOp .Not e pos):=by simp[jq]at *;exact PT.imp (Eu ha) (by rintro σ H Q ⟨θ,h,ρ,w,fr,p⟩;exact⟨θ,h,ρ,w,fr,(aE.bind p).mono (by rintro c θ1 h1 H1 _ _ ⟨ev,w1,p1⟩;exact p1 θ1 H1 Ev.refl w1)⟩)
theorem ou(h:DE X E m e):DE X E m (.BoolOp op [e] pos):=by simp[bC]at *;exact KA h
theorem NY(hc:DT X E t e1)(ha:DE X E a e2)(hb:DE X E b e3):DE X E (LA t a b) (.IfExp e1 e2 e3 pos):=by
 simp[bC,jq]at *
 exact PE.imp (yU hc ha hb) (by rintro σ H Q ⟨θ,h,ρ,w,fr,p⟩;exact⟨θ,h,ρ,w,fr,(aE.bind p).mono (by
   rintro c θ1 h1 H1 _ _ ⟨ev,w1,p1⟩
   cases c with
   |true=>exact⟨θ1,h1,ρ,w1,fr.ev ev,p1⟩
   |false=>exact⟨θ1,h1,ρ,w1,fr.ev ev,p1⟩)⟩)
theorem ah:DA X E ai []:=by simp[gV]at *;exact PA.imp dW (by rintro σ H Q ⟨θ,h,ρ,w,fr,p⟩;exact p θ H Ev.refl w _ .nil)
theorem af(ha:DE X E m e)(hr:DA X E ma es)(hs:#[2]:=by rfl):DA X E (aa m ma) (e::es):=by simp[bC,gV]at *;exact PA.imp (aZ ha hr hs) (by rintro σ H Q ⟨θ,h,ρ,w,fr,p⟩;exact⟨θ,h,ρ,w,fr,(aE.bind p).mono (by rintro x θ1 h1 H1 _ _ ⟨ev,w1,p1⟩ v r1;exact⟨θ1,h1,ρ,w1,fr.ev ev,(aE.bind p1).mono (by rintro xs θ2 h2 H2 _ _ ⟨ev2,w2,p2⟩ vs r2;exact p2 θ2 H2 Ev.refl w2 _ (.cons (r1.ev ev2) r2))⟩)⟩)
theorem pP:∀{xs:List D} {vs:List V} {ds:Vw},aV G θ H xs vs->ig xs=some ds->bg (view θ H) ds vs/\cQ ds=true
 | [],_,ds,.nil,e=>by cases e;exact⟨rfl,by rfl⟩
 |x::xs,_,ds,.cons r rs,e=>by
  unfold ig at e
  cases x with
  |dat d=>
   cases e2:ig xs with
   |none=>simp_all
   |some ds'=>simp[D.data,e2]at e;subst e;obtain⟨h1,h2⟩:=pP rs e2;exact⟨.cons r.1 h1,by simp[cQ,r.2,h2]⟩
  |_=>trivial
theorem xX:∀{ds:Vw} {vs:List V},bg (view θ H) ds vs->cQ ds=true->aV G θ H (ds.map D.dat) vs
 | [],_,h,_=>by cases h;exact .nil
 |d::ds,_,⟨v,vs,e,r,rs⟩,s=>by subst e;simp[cQ]at s;exact .cons ⟨r,s.1⟩ (xX rs s.2)
theorem de(h:iY n=true):n<=sizeLine:=by
 have:=Us h
 simp_all[T6]
theorem qK:∀{xs:List D} {ds:Vw},ig xs=some ds->ds.length=xs.length
 | [],ds,e=>by cases e;rfl
 |x::xs,ds,e=>by
  unfold ig at e
  cases e1:x.data with
  |none=>simp_all
  |some d=>
   cases e2:ig xs with
   |none=>simp_all
   |some ds'=>rw[e1,e2]at e;cases e;simp[qK e2]
theorem lj(h:DA X E ma es):DE X E (gG ma) (.Tuple es x1 pos):=by
 simp only[bC,gV]at *
 exact PE.imp (xt h) (by rintro σ H Q ⟨θ,h,ρ,w,fr,p⟩;exact⟨θ,h,ρ,w,fr,(aE.bind p).mono (by
   rintro xs θ1 h1 H1 _ _ ⟨ev,w1,p1⟩ vs r1;unfold pG at p1
   cases e:ig xs with
   |none=>rw[e]at p1;exact p1.elim
   |some ds=>
    rw[e]at p1;simp only at p1;split at p1
    ·rename_i hz;have hl:vs.length=xs.length:=(Sr r1).symm;refine⟨by rw[hl,<- qK e];exact de hz,λq hq=>?_⟩;obtain⟨e1,w2,g⟩:=w1.put (o:=.tup vs) hq;obtain⟨h1,h2⟩:=pP r1 e;exact p1 _ _ e1 w2 _ ⟨⟨q,vs,rfl,g,h1.same e1.same⟩,by assumption⟩
    ·trivial)⟩)
theorem oA(h:DA X E ma es):DE X E (iD ma) (.List es pos):=by
 simp only[bC,gV]at *
 exact PE.imp (jC h) (by rintro σ H Q ⟨θ,h,ρ,w,fr,p⟩;exact⟨θ,h,ρ,w,fr,(aE.bind p).mono (by
   rintro xs θ1 h1 H1 _ _ ⟨ev,w1,p1⟩ vs r1;unfold ij at p1
   cases e:ig xs with
   |none=>rw[e]at p1;exact p1.elim
   |some ds=>
    rw[e]at p1;simp only at p1;split at p1
    ·rename_i hz;have hl:vs.length=xs.length:=(Sr r1).symm;refine⟨by rw[hl,<- qK e];exact de hz,λq hq=>?_⟩;obtain⟨e1,w2,g⟩:=w1.put (o:=.lst vs) hq;obtain⟨h1,h2⟩:=pP r1 e;exact p1 _ _ e1 w2 _ ⟨⟨q,vs,rfl,g,h1.same e1.same⟩,by assumption⟩
    ·trivial)⟩)
theorem W.LN(w:W G θ h H)(r:aV G θ H xs vs)(hp:H p=none) :
  Ev θ H (θ++[p]) (upd H p (.lst vs))/\W G (θ++[p]) (h++[.lst xs]) (upd H p (.lst vs))/\bU G (θ++[p]) (upd H p (.lst vs)) (.ref h.length) (.ref p):=by
 have e:Ev θ H _ (upd H p (.lst vs)):=⟨⟨[p],rfl⟩,λa u q=>by
  obtain⟨h1,h2⟩:=cM q;have ne:=aB h2 hp;rw[cZ (by grind),au ne]
  exact h2⟩
 obtain⟨e1,w1⟩:=w.alloc (m:=.lst xs) hp ⟨vs,aG,r.ev e⟩;exact⟨e1,w1,p,by simp_all[w.len],rfl⟩
theorem qL(h:DA X E ma es):DE X E (qH ma) (.List es pos):=by
 simp[bC,gV]at *
 exact PE.imp (jC h) (by rintro σ H Q ⟨θ,h,ρ,w,fr,p⟩;exact⟨θ,h,ρ,w,fr,(aE.bind p).mono (by
   rintro xs θ1 h1 H1 _ _ ⟨ev,w1,p1⟩ vs r1;unfold t5 at p1;split at p1
   ·rename_i hz;have hl  := (Sr r1).symm;refine⟨by rw[hl];exact de hz,λq hq=>?_⟩;obtain⟨e1,w2,g⟩:=w1.LN r1 hq;exact p1 _ _ e1 w2 _ g
   ·trivial)⟩)
theorem FJ{id:String}(hc:o8 X E (.builtin id) f)(hg:Gl X x)(hm:X.mg x=none)(hv:bootBuiltins x=some (.builtin id)){p:Pos}(ha:DA X E ma (e::es))(hn:x ≠ "__name__" := by decide)(hdb:(x==("__debug__" : Str))=false:=by decide)
 (he:#[2]:=by rfl)(hpl:#[20].any (·.1)=false:=by rfl):DE X E (ag f ma) (.Call (.Name x p) (e::es) [] pos):=by
 simp only[bC,gV]at *;exact PE.imp (pf hc hg hm hv ha hn hdb he hpl) λ_ _ _=>Ce
theorem DL(hc:o8 X E (.type T) f)(hg:Gl X x)(hm:X.mg x=none)(hv:bootBuiltins x=some (.type T)){p:Pos}(ha:DA X E ma (e::es))(hn:x ≠ "__name__" := by decide)(hdb:(x==("__debug__" : Str))=false:=by decide)
 (he:#[2]:=by rfl)(hpl:#[20].any (·.1)=false:=by rfl):DE X E (ag f ma) (.Call (.Name x p) (e::es) [] pos):=by
 simp only[bC,gV]at *;exact PE.imp (Dg hc hg hm hv ha hn hdb he hpl) λ_ _ _=>Ce
end
section
variable {X:Cx} {E:XK} {m:ME} {a b:MS} {t:MT} {e e1:Expr} {st:Stmt} {sts:List Stmt} {ss ss':List Stmt} {ma:MA} {pos:Pos} {i:Nat} {x:Str} {g:MG}
theorem bK:Cd X E bO []:=by simp[jL]at *;exact vL.imp xp (by rintro C σ H ⟨θ,h,ρ,w,fr,p⟩;exact p θ H Ev.refl w σ fr)
theorem av(h:DS X E a st):Cd X E a [st]:=by simp[jr,jL]at *;exact mJ h
theorem aq(h1:DS X E a st)(h2:Cd X E b ss):Cd X E (aY a b) (st::ss):=by
 simp[jr,jL]at *
 exact vL.imp (gr h1 h2) (by rintro C σ H ⟨θ,h,ρ,w,fr,p⟩;exact⟨θ,h,ρ,w,fr,(aE.bind p).mono (by
   rintro f θ1 h1 H1 _ _ ⟨ev,w1,p1⟩
   cases f with
   |nx ρ1=>exact λσ1 fr1=>⟨θ1,h1,ρ1,w1,fr1,p1⟩
   |rt d=>exact p1 θ1 H1 Ev.refl w1
   |bk ρ1=>exact p1 θ1 H1 Ev.refl w1
   |ct ρ1=>exact p1 θ1 H1 Ev.refl w1)⟩)
theorem mM(he:DE X E m e)(hs:swapsWith e none pos.line X.env=pure false:=by rfl):DS X E (gv m) (.Expr e pos):=by simp[bC,jr]at *;exact PS.imp (Hu he hs) (by rintro C σ H ⟨θ,h,ρ,w,fr,p⟩;exact⟨θ,h,ρ,w,fr,(aE.bind p).mono (by rintro d θ1 h1 H1 _ _ ⟨ev,w1,p1⟩ v _;exact p1 θ1 H1 Ev.refl w1 σ (fr.ev ev))⟩)
theorem aL(he:DE X E m e):DS X E (bF m) (.Return (some e) pos):=by simp[bC,jr]at *;exact PS.imp (qu he) (by rintro C σ H ⟨θ,h,ρ,w,fr,p⟩;exact⟨θ,h,ρ,w,fr,(aE.bind p).mono (by rintro d θ1 h1 H1 _ _ ⟨ev,w1,p1⟩ v r;exact p1 θ1 H1 Ev.refl w1 v r)⟩)
theorem dI(hc:DT X E t e)(ha:Cd X E a ss)(hb:Cd X E b ss'):DS X E (iI t a b) (.If e ss ss' pos):=by
 simp[jq,jr,jL]at *
 exact PS.imp (Ex hc ha hb) (by rintro C σ H ⟨θ,h,ρ,w,fr,p⟩;exact⟨θ,h,ρ,w,fr,(aE.bind p).mono (by
   rintro c θ1 h1 H1 _ _ ⟨ev,w1,p1⟩
   cases c with
   |true=>exact⟨θ1,h1,ρ,w1,fr.ev ev,p1⟩
   |false=>exact⟨θ1,h1,ρ,w1,fr.ev ev,p1⟩)⟩)
theorem Iv(hN:X.N.Nodup)(hi:X.N[i]?=some x)(hx:Loc X.env.scope x)(hf:X.fn x=true\/X.env.scope.names.lookup x=some .local:=by first|exact .inl rfl|exact .inr rfl|assumption):DG X E (ax i) (.Name x pos):=by simp[nv]at *;exact by rintro pins s σ H v u Q I r ⟨θ,h,ρ,d,w,fr,rd,p⟩;exact Hv hN hi hx hf pins s σ H v u Q I r (p θ H Ev.refl w _ (fr.set rd))
noncomputable def Q7(G:Gx)(E:XK)(g:Fj):M0:=λvs σ H Q=>∃θ h ρ ds,W G θ h H/\Fr G θ H ρ σ/\aV G θ H ds vs/\aE G (qJ G E) θ H (g ds ρ h) (λρ' θ' _ H'=>∀σ',Fr G θ' H' ρ' σ'->Q σ' H')
@[irreducible] noncomputable def M4(X:Cx)(E:XK)(m:Fj)(es:VB):Prop:=M1 X es (Q7 X.G E m)
theorem AZ(X:Cx)(E:XK)(m:Fj)(es:VB):M4 X E m es=(M1 X es (Q7 X.G E m)):=by
 grind[M4]
theorem gh:M4 X E jh []:=by
 simp[AZ]at *
 exact by
  rintro pins s σ H vs us Q I r ⟨θ,h,ρ,ds,w,fr,rd,p⟩
  cases rd with
  |nil=>exact Hw pins s σ H [] us Q I r ⟨rfl,p θ H Ev.refl w σ fr⟩
  |cons=>trivial
theorem bM(h1:DG X E g e)(h2:M4 X E gs es)(hs:(assignEach (e::es) X.env).map (·.2)=assign e X.env::(assignEach es X.env).map (·.2):=by rfl):M4 X E (cb g gs) (e::es):=by
 simp[nv,AZ]at *
 exact by
   rintro pins s σ H vs us Q I r ⟨θ,h,ρ,ds,w,fr,rd,p⟩
   cases rd with
   |nil=>trivial
   |cons r1 rr=>exact Ey h1 h2 hs pins s σ H _ us Q I r ⟨_,_,rfl,θ,h,ρ,_,w,fr,r1,(aE.bind p).mono (by rintro ρ1 θ1 h1 H1 _ _ ⟨ev,w1,p1⟩ σ1 fr1;exact⟨θ1,h1,ρ1,_,w1,fr1,aV.ev ev rr,p1⟩)⟩
theorem gj(r:bU G θ H (.dat (.tuple ds)) v):∃a xs,v=.ref a/\view θ H a=some (.tup xs)/\bg (view θ H) ds xs/\aV G θ H (ds.map D.dat) xs:=by obtain⟨⟨a,xs,e,ha,rr⟩,s⟩:=r;exact⟨a,xs,e,ha,rr,xX rr (by assumption)⟩
theorem gk(r:bU G θ H (.dat (.list ds)) v):∃a xs,v=.ref a/\view θ H a=some (.lst xs)/\bg (view θ H) ds xs/\aV G θ H (ds.map D.dat) xs:=by obtain⟨⟨a,xs,e,ha,rr⟩,s⟩:=r;exact⟨a,xs,e,ha,rr,xX rr (by assumption)⟩
@[irreducible] noncomputable def wO(gs:Fj)(n:Nat):Prop:=∀xs ρ h,xs.length≠n->gs xs ρ h=.bad
theorem ug(gs:Fj)(n:Nat):wO gs n=(∀xs ρ h,xs.length≠n->gs xs ρ h=.bad):=by
 grind[wO]
theorem dQ:wO jh 0:=by
 simp[ug]at *
 exact λxs ρ h ne=>by
  cases xs with
  |nil=>grind
  |cons=>rfl
theorem aX{g:Nat}(t:wO gs n):wO (cb (ax g) gs) (n+1):=by
 simp[ug]at *
 exact λxs ρ h ne=>by
  cases xs with
  |nil=>rfl
  |cons x xs=>simp_all[cb,ax]
theorem i5{k n:Nat}(hc:X.calm=true)(h:M4 X E gs es)(tk:wO gs n)(hn:(assignEach es X.env).length=n:=by rfl)(hst:(assignEach es X.env).findIdx? (·.1)=none:=by rfl):DG X E (ji gs) (.Tuple es k pos):=by
 simp only[nv,AZ,ug]at *
 exact by
   rintro pins s σ H v u Q I r ⟨θ,hm,ρ,d,w,fr,rd,p⟩
   cases d with
   |dat d=>
    cases d with
    |tuple ds=>
     obtain⟨a,xs,e,ha,rr,rr2⟩:=gj rd
     have hl:xs.length=n:=by
      have h1:xs.length=ds.length:=rr.length;by_cases z:ds.length=n
      ·grind
      ·have p':=p;simp only[ji]at p';rw[tk (ds.map D.dat) ρ hm (by grind)]at p';exact p'.elim
     exact KG (n:=n) hc h hn hst pins s σ H v u Q I r ⟨a,xs,e,fW.of (aC _ _ _ _ ha),hl,θ,hm,ρ,_,w,fr,rr2,p⟩
    |_=>trivial
   |_=>exact p.elim
theorem LO(hN:X.N.Nodup)(hi:X.N[i]?=some x)(hx:Loc X.env.scope x)(he:DE X E m e)(hs:swapsWith e (some (.Name x pos')) pos.line X.env=pure false:=by rfl)(hf:X.fn x=true\/X.env.scope.names.lookup x=some .local:=by first|exact .inl rfl|exact .inr rfl|assumption) :
  DS X E (cn i m) (.Assign [.Name x pos'] e pos):=by
 simp[bC,jr]at *;exact PS.imp (qv hN hi hx he hs hf) (by rintro C σ H ⟨θ,h,ρ,w,fr,p⟩;exact⟨θ,h,ρ,w,fr,(aE.bind p).mono (by rintro d θ1 h1 H1 _ _ ⟨ev,w1,p1⟩ v r;exact p1 θ1 H1 Ev.refl w1 _ ((fr.ev ev).set r))⟩)
theorem ll(he:DE X E m e)(hg:DG X E g tg)(hs:swapsWithSole [tg] e pos.line X.env=pure false:=by rfl)(hw:swappedStores [tg] e X.env=pure none:=by rfl)
 (h1:(assignEach [tg] X.env).map (·.2)=[assign tg X.env]:=by rfl):DS X E (ng g m) (.Assign [tg] e pos):=by
 simp only[bC,jr,nv]at *;exact PS.imp (KI he hg hs hw h1) (by rintro C σ H ⟨θ,h,ρ,w,fr,p⟩;exact⟨θ,h,ρ,w,fr,(aE.bind p).mono (by rintro d θ1 h1 H1 _ _ ⟨ev,w1,p1⟩ v r;exact⟨θ1,h1,ρ,d,w1,fr.ev ev,r,(aE.bind p1).mono (by rintro ρ1 θ2 h2 H2 _ _ ⟨ev2,w2,p2⟩ σ2 fr2;exact p2 θ2 H2 Ev.refl w2 σ2 fr2)⟩)⟩)
theorem Iw(h:PS X st (Nj i j (lA X.G E ma))):DS X E (xO [i,j] ma) st:=by
 simp[jr]at *
 exact PS.imp h (by rintro C σ H ⟨θ,h,ρ,w,fr,p⟩;exact⟨θ,h,ρ,w,fr,(aE.bind p).mono (by
   rintro ds θ1 h1 H1 _ _ ⟨ev,w1,p1⟩ vs r
   cases r with
   |nil=>trivial
   |cons r1 rr=>
    cases rr with
    |nil=>trivial
    |cons r2 rr=>
     cases rr with
     |nil=>exact⟨_,_,rfl,p1 θ1 H1 Ev.refl w1 _ (((fr.ev ev).set r1).set r2)⟩
     |cons=>trivial)⟩)
noncomputable def rG(G:Gx)(θ:Vx)(H:Hp)(xs:List D)(J:It):Prop:=∀θ' h' H',Ev θ H θ' H'->W G θ' h' H' ->
 (∀(i:Nat) (d:D),xs[i]?=some d->J.go i H'/\∀x H2,J.yld i H' x H2->Ev θ' H' θ' H2/\W G θ' h' H2/\bU G θ' H2 d x)/\J.stop xs.length H'
noncomputable def lI(G:Gx)(E:XK)(m:MA):TI:=λσ H R=>∃θ h ρ,W G θ h H/\Fr G θ H ρ σ/\aE G (qJ G E) θ H (m ρ h) (λxs θ' _ H'=>∀J,rG G θ' H' xs J->R J H')
@[irreducible] noncomputable def DI(X:Cx)(E:XK)(m:MA)(tg e:Expr):Prop:=PI X tg e (lI X.G E m)
theorem lq(X:Cx)(E:XK)(m:MA)(tg e:Expr):DI X E m tg e=(PI X tg e (lI X.G E m)):=by
 grind[DI]
theorem PI.imp{t t':TI}(h:PI X tg e t)(k:∀σ H Q,t' σ H Q->t σ H Q):PI X tg e t':=λpins s σ H Q I q=>h pins s σ H Q I (k _ _ _ q)
theorem aV.get:∀{ds:List D} {vs:List V} {i:Nat} {d:D} {v:V},aV G θ H ds vs->ds[i]?=some d->vs[i]?=some v->bU G θ H d v
 |_,_,i,_,_,.nil,e,_=>by simp at e
 |_,_,0,_,_,.cons r _,e,e'=>by grind
 |_,_,i+1,d,v,.cons _ t,e,e'=>aV.get (i:=i) t (by simp_all) (by simp_all)
theorem aV.some(r:aV G θ H ds vs)(e:ds[i]?=some d):∃v,vs[i]?=some v/\bU G θ H d v:=by
 have hl  := Sr r;have hi:i<vs.length:=by rw[<- hl];exact(R6.mp e).1
 exact⟨vs[i],R9 hi,r.get e (R9 hi)⟩
theorem LP{a:Addr}(ha:view θ H a=some (.tup xs))(r:aV G θ H ds xs):rG G θ H ds (OS K a):=λθ' h' H' ev w=>by have ha':=aC _ _ _ _ (ev.same _ _ ha);have q:fW K H' a xs:=fW.of ha';refine⟨λi d e=>?_,⟨xs,q,by rw[<- Sr r];grind⟩⟩;obtain⟨v,ev',rv⟩:=r.some e;refine⟨⟨xs,v,q,ev'⟩,λx H2 ⟨e2,y⟩=>?_⟩;subst e2;have:=y xs q;rw[ev']at this;cases this;exact⟨Ev.refl,w,rv.ev ev⟩
theorem LQ{a:Addr}(ha:view θ H a=some (.lst xs))(r:aV G θ H ds xs):rG G θ H ds (OR K a):=λθ' h' H' ev w=>by have ha':=aC _ _ _ _ (ev.same _ _ ha);have q:gF K H' a xs:=gF.of ha';refine⟨λi d e=>?_,⟨xs,q,by rw[<- Sr r];grind⟩⟩;obtain⟨v,ev',rv⟩:=r.some e;refine⟨⟨xs,v,q,ev'⟩,λx H2 ⟨e2,y⟩=>?_⟩;subst e2;have:=y xs q;rw[ev']at this;cases this;exact⟨Ev.refl,w,rv.ev ev⟩
theorem LR(h:DE X E m e):DI X E (B4 m) tg e:=by
 simp[bC,lq]at *
 exact PI.imp (EB h) (by rintro σ H R ⟨θ,h,ρ,w,fr,p⟩;exact⟨θ,h,ρ,w,fr,(aE.bind p).mono (by
   rintro d θ1 h1 H1 _ _ ⟨ev,w1,p1⟩ v r
   cases d with
   |dat d=>
    cases d with
    |tuple ds=>obtain⟨a,xs,e,ha,_,rr⟩:=gj r;exact⟨a,e,⟨xs,fW.of (aC _ _ _ _ ha)⟩,p1 θ1 H1 Ev.refl w1 _ (LP ha rr)⟩
    |_=>trivial
   |_=>trivial)⟩)
theorem LS(h:DE X E m e):DI X E (Fo m) tg e:=by
 simp[bC,lq]at *
 exact PI.imp (BE h) (by rintro σ H R ⟨θ,h,ρ,w,fr,p⟩;exact⟨θ,h,ρ,w,fr,(aE.bind p).mono (by
   rintro d θ1 h1 H1 _ _ ⟨ev,w1,p1⟩ v r
   cases d with
   |dat d=>
    cases d with
    |list ds=>obtain⟨a,xs,e,ha,_,rr⟩:=gk r;exact⟨a,e,⟨xs,gF.of (aC _ _ _ _ ha)⟩,p1 θ1 H1 Ev.refl w1 _ (LQ ha rr)⟩
    |_=>trivial
   |_=>trivial)⟩)
theorem xY(s:PyData.strOk x=true):PyData.strOk ⟨#[x.cps.getD i 0]⟩=true:=by
 have q:=Array.all_eq_true.mp s;apply Array.all_eq_true.mpr;intro j hj;by_cases hi:i<x.cps.size
 ·simp_all
 simp_all
theorem LU(h:DE X E m e):DI X E (Fp m) tg e:=by
 simp only[bC,lq]at *
 exact PI.imp (Li h) (by rintro σ H R ⟨θ,h,ρ,w,fr,p⟩;exact⟨θ,h,ρ,w,fr,(aE.bind p).mono (by
   rintro d θ1 h1 H1 _ _ ⟨ev,w1,p1⟩ v r
   cases d with
   |dat d=>
    cases d with
    |str s=>obtain⟨r1,r2⟩:=r;refine⟨s,r1,p1 θ1 H1 Ev.refl w1 _ λθ' h' H' ev w=>⟨λi d e=>?_,by show(signs s).length=_;simp[signs]⟩⟩;simp only[signs,SD,SI]at e;obtain⟨j,e1,e2⟩:=e;obtain⟨hj,e3⟩:=R6.mp e1;simp at hj e3;subst e3;subst e2;refine⟨hj,λx H2 ⟨z1,z2⟩=>?_⟩;subst z1;subst z2;exact⟨Ev.refl,w,rfl,by simp only[eR];exact xY (by simpa [eR]using r2)⟩
    |_=>exact p1.elim
   |_=>exact p1.elim)⟩)
theorem Iy:rG G θ H (nums lo n) (OT lo n):=λθ' h' H' ev w=>by refine⟨λi d e=>?_,by show n<=(nums lo n).length;simp[nums]⟩;simp[nums]at e;obtain⟨j,e1,e2⟩:=e;obtain⟨hj,e3⟩:=R6.mp e1;simp at hj e3;subst e3;subst e2;refine⟨hj,λx H2 ⟨z1,z2⟩=>?_⟩;subst z1;subst z2;exact⟨Ev.refl,w,rfl,by rfl⟩
theorem bN(r:bU G θ H (.int j) v):v=.int j:=r.1
theorem pQ{tg a:Expr}(hg:Gl X "range")(hm:X.mg "range" = none)(ha:DA X E ma [a])(hs:starEach [a] X.env=[(false,eval a X.env)]:=by rfl):DI X E (kB ma) tg (.Call (.Name "range" p') [a] [] pos'):=by
 simp[gV,lq]at *
 exact PI.imp (C6 hg hm ha hs) (by rintro σ H R ⟨θ,h,ρ,w,fr,p⟩;exact⟨θ,h,ρ,w,fr,(aE.bind p).mono λds θ1 h1 H1 _ _ ⟨ev,w1,p1⟩ vs r=>by
   split at p1
   ·split at p1
    ·rename_i j _ hj
     cases r with
     |cons r1 rr=>cases rr;cases bN r1;exact⟨j,rfl,hj.1,hj.2,p1 θ1 H1 Ev.refl w1 _ Iy⟩
    ·trivial
   ·trivial⟩)
theorem zp:∀(xs ys:Vw),(xP xs ys).length=min xs.length ys.length
 | [],_=>by rfl
 |_::_,[]=>by rfl
 |x::xs,y::ys=>by simp[xP,zp xs ys]
theorem zq:∀(xs ys:Vw) (i:Nat) (d:D),(xP xs ys)[i]?=some d->∃x y,xs[i]?=some x/\ys[i]?=some y/\d=.dat (.tuple [x,y])
 | [],_,i,d,e=>by trivial
 |_::_,[],i,d,e=>by trivial
 |x::xs,y::ys,0,d,e=>by grind[xP]
 |x::xs,y::ys,i+1,d,e=>by simpa using zq xs ys i d (by assumption)
theorem pR:∀{ds:Vw} {i:Nat} {d:PyData},cQ ds=true->ds[i]?=some d->eR d=true
 | [],i,d,_,e=>by simp at e
 |x::xs,0,d,s,e=>by grind[cQ]
 |x::xs,i+1,d,s,e=>by simp[cQ]at s;exact pR (i:=i) s.2 (by simp_all)
theorem FK{kk:Nat}{es:VB}{tpos:Pos}{p' pos':Pos}(hg:Gl X "zip")(hm:X.mg "zip" = none)(ha:DA X E ma [e1,e2])(hs:starEach [e1,e2] X.env=[(false,eval e1 X.env),(false,eval e2 X.env)]:=by rfl)(hs2:starEach [e2] X.env=[(false,eval e2 X.env)]:=by rfl) :
  DI X E (wF ma) (.Tuple es kk tpos) (.Call (.Name "zip" p') [e1,e2] [] pos'):=by
 simp only[gV,lq]at *
 exact PI.imp (Le hg hm ha hs hs2) (by rintro σ H R ⟨θ,h,ρ,w,fr,p⟩;exact⟨θ,h,ρ,w,fr,(aE.bind p).mono λds θ1 h1 H1 _ _ ⟨ev,w1,p1⟩ vs r=>by
   split at p1
   ·rename_i xs ys _
    cases r with
    |cons r1 rr=>
     cases rr with
     |cons r2 rr=>
      cases rr;have s1:cQ xs=true:=by simpa [eR]using r1.2
      have s2:cQ ys=true:=by simpa [eR]using r2.2
      obtain⟨a1,us,rfl,ha1,q1,_⟩:=gj r1;obtain⟨a2,ws,rfl,ha2,q2,_⟩:=gj r2;refine⟨a1,a2,us,ws,rfl,fW.of (aC _ _ _ _ ha1),fW.of (aC _ _ _ _ ha2),p1 θ1 H1 Ev.refl w1 _ λθ' h' H' ev' w'=>?_⟩;have k1:fW X.K H' a1 us:=fW.of (aC _ _ _ _ (ev'.same _ _ ha1));have k2:fW X.K H' a2 ws:=fW.of (aC _ _ _ _ (ev'.same _ _ ha2));have l1:=q1.length;have l2:=q2.length;refine⟨λi d e=>?_,⟨us,ws,k1,k2,by rw[zp,l1,l2];omega⟩⟩;obtain⟨x,y,ex,ey,rfl⟩:=zq _ _ _ _ e;obtain⟨u,eu,ru⟩:=bg.get' q1 ex;obtain⟨z,ez,rz⟩:=bg.get' q2 ey;refine⟨⟨us,ws,u,z,k1,k2,eu,ez⟩,λv H2 ⟨pp,x',y',e1,hp,e2,c1,c2⟩=>?_⟩;have:=c1 us k1;rw[eu]at this;cases this;have:=c2 ws k2;rw[ez]at this;cases this;subst e1;subst e2;obtain⟨e3,w3,g3⟩:=w'.put (o:=.tup [u,z]) hp;exact⟨e3,w3,⟨pp,[u,z],rfl,g3,.cons (ru.same (ev'.same.trans e3.same)) (.one (rz.same (ev'.same.trans e3.same)))⟩,by simp[eR,cQ,pR s1 ex,pR s2 ey]⟩
   ·exact p1.elim⟩)
noncomputable abbrev iK:XK:=λ_ _ _=>False
theorem aE.dC{f:α->Hm->R β}(p:aE G F θ H (r.vJ.bind f) L) :
  aE G F' θ H r λa θ1 h1 H1=>Ev θ H θ1 H1/\W G θ1 h1 H1/\aE G F θ1 H1 (f a h1) L:=by
 cases r with
 |ok a h'=>exact λθ1 H1 e w=>⟨e,w,aE.later p e⟩
 |exc x h'=>trivial
 |bad=>trivial
theorem PS.C3{t:TS}(h:PS X.C3 st t):PS X st t:=λpins s σ H D I hw=>
 S3 (h pins s σ H D (I.pd _) hw) (λ_ _ q=>q.hZ) λ_ _ z=>False.elim z
end
end Ml
namespace L2
open PySem PySem.Spec PyProof.Rows
theorem El.RM{K:Vz}{st:Stmt}(F:El K x qual st f fd)(S:aH N ps (ao st))(len:∀vs H Q E,sp vs H Q E->vs.length=ps.length)
 (hbody:∀(cdv:Value) (A:VH) (outer:List Env) (s:VI) (H:Hp) (vs:List V) (Q:VK) (E:XK),bZ k (A.deeper (envOfC qual (ao st) #[9] f cdv))->sp vs H Q E ->
   ∃t,vL (fk (iF P w) P w K mg base N qual (ao st) f cdv A outer s H E) (bA st) t/\t {nx:=λ_ H'=>Q .non H',rt:=Q} (start N vs) H):jD P w K mg base (iF P w) (k+1) f fd ps sp:=by
 obtain⟨oc,od,kV,doc,pm,an,cdv,ct,osl,rfl,lk,hcd⟩:=F.ex;exact JZ lk hcd S len λA outer s H vs Q E hr hsp=>hbody cdv A outer s H vs Q E hr hsp
structure FN(P:VG)(w:World)(K:Vz)(mg:Vv)(base:Heap)(x:Str)(ps:VA)(k:Nat)(sp:Sp):Prop where
 ex:∃(f:Addr) (fd:FuncData),mg x=some (.ref f)/\PySem.W.keepIn K (.ref f)=true/\Binds K fd ps []/\jD P w K mg base (iF P w) k f fd ps sp
section
variable {X:Cx} {x:Str} {ps:VA} {k:Nat} {sp:Sp} {e:Expr} {es:VB} {t:TA} {p pos:Pos}
theorem LV(F:FN X.prog X.w X.K X.mg X.base x ps k sp)(hx:Passes (iF X.prog X.w) X E)(hr:bZ k X.A)(hg:Gl X x)(ha:PA X (e::es) t)(hdb:(x==("__debug__" : Str))=false:=by decide)(he:#[2]:=by rfl)
 (hpl:#[20].any (·.1)=false:=by rfl):PE X (.Call (.Name x p) (e::es) [] pos) (BJ sp [] E t):=by
 obtain⟨f,fd,h1,h2,h3,h4⟩:=F.ex;exact HC h4 hr hg h1 h2 h3 .nil hx ha hdb he hpl
end
end L2
namespace Ml
open PySem PySem.Spec L2
section
variable {X:Cx} {E:XK} {m:ME} {a b:MS} {t:MT} {e e1 tg:Expr} {st:Stmt} {ss ss':List Stmt} {ma it:MA} {pos:Pos} {i:Nat} {x:Str} {g:MG}
theorem FO(hJ:rG G θ1 H1 xs J)(w1:W G θ1 h1 H1)(fr:Fr G θ1 H1 ρ σ)(p1:aE G F θ1 H1 (dS g b xs ρ h1) (KS G C)) :
  ∃W':Nat->Nat->St->Hp->Prop,(∃m,W' 0 m σ H1)/\∀i m σ H,W' i m σ H ->
   (J.stop i H/\C.nx σ H)\/(J.go i H/\∃N:St->Hp->Prop,(∀σ' H',N σ' H'->∃m',m'<m/\W' (i+1) m' σ' H')/\∀x H',J.yld i H x H'->lG G iK g x σ H' λσ2 H2=>lS G iK b {C with nx:=N,ct:=N,bk:=C.nx} σ2 H2):=by
 refine⟨λi m σ H=>m=xs.length-i/\i<=xs.length/\∃θ' h' ρ',Ev θ1 H1 θ' H/\W G θ' h' H/\Fr G θ' H ρ' σ/\aE G F θ' H (dS g b (xs.drop i) ρ' h') (KS G C),⟨xs.length,by simp,Tf _,θ1,h1,ρ,Ev.refl,w1,fr,p1⟩,?_⟩;rintro i m σ H ⟨rfl,hi,θ',h',ρ',ev,w,fr',p⟩;obtain⟨j1,j2⟩:=hJ θ' h' H ev w;by_cases hlt:i<xs.length
 ·have ed:xs.drop i=xs[i]::xs.drop (i+1):=SS hlt;rw[ed]at p;obtain⟨g1,g2⟩:=j1 i xs[i] (R9 hlt);refine .inr ⟨g1,λσ2 H2=>i+1<=xs.length/\∃θ' h' ρ',Ev θ1 H1 θ' H2/\W G θ' h' H2/\Fr G θ' H2 ρ' σ2/\aE G F θ' H2 (dS g b (xs.drop (i+1)) ρ' h') (KS G C),λσ' H' q=>⟨xs.length-(i+1),by omega,rfl,q⟩,λx H2 y=>?_⟩;obtain⟨e2,w2,r2⟩:=g2 x H2 y;refine⟨θ',h',ρ',xs[i],w2,fr'.ev e2,r2,(aE.dC (p.later e2)).mono λρ3 θ3 h3 H3 _ _ ⟨e3,w3,p3⟩ σ3 fr3=>⟨θ3,h3,ρ3,w3,fr3,(aE.dC p3).mono λf θ4 h4 H4 _ _ ⟨e4,w4,p4⟩=>?_⟩⟩;have ev4:=(ev.trans e2).trans (e3.trans e4)
  cases f with
  |nx ρ5=>exact λσ5 fr5=>⟨hlt,θ4,h4,ρ5,ev4,w4,fr5,p4⟩
  |ct ρ5=>exact λσ5 fr5=>⟨hlt,θ4,h4,ρ5,ev4,w4,fr5,p4⟩
  |bk ρ5=>exact p4 θ4 H4 Ev.refl w4
  |rt d=>exact p4 θ4 H4 Ev.refl w4
 ·have hx:i=xs.length:=by omega
  subst hx;rw[Tc (R5 _)]at p;exact .inl ⟨j2,p θ' H Ev.refl w σ fr'⟩
theorem gK(hc:X.calm=true)(hi:DI X.C3 iK it tg e)(hg:DG X.C3 iK g tg)(hb:Cd X.C3 iK b body)(hs:∀x,foldedSetIterable e X.env x=pure x:=by intro _;rfl):DS X E (jI it g b) (.For tg e body [] pos):=by simp[jr,jL,nv,lq]at *;exact PS.C3 (PS.imp (KN PassesOwn.never hc hi hg hb hs) (by rintro C σ H ⟨θ,h,ρ,w,fr,p⟩;exact⟨θ,h,ρ,w,fr,(aE.dC p).mono (by rintro xs θ1 h1 H1 _ _ ⟨ev,w1,p1⟩ J hJ;exact FO hJ w1 (fr.ev ev) p1)⟩))
theorem FP(hc:DT X.C3 iK t e)(hb:Cd X.C3 iK b body):DS X E (Fs n t b) (.While e body [] pos):=by
 simp only[jq,jr,jL]at *
 exact PS.C3 (PS.imp (Ez PassesOwn.never hc hb) (by
   rintro C σ H ⟨θ,h,ρ,w,fr,p⟩;refine⟨λm σ H=>∃θ h ρ,W X.G θ h H/\Fr X.G θ H ρ σ/\aE X.G (qJ X.G E) θ H (jJ t b m ρ h) (KS X.G C),⟨n,θ,h,ρ,w,fr,p⟩,?_⟩;rintro m σ H ⟨θ,h,ρ,w,fr,p⟩
   cases m with
   |zero=>trivial
   |succ m=>
    refine⟨θ,h,ρ,w,fr,(aE.dC p).mono λc θ1 h1 H1 _ _ ⟨ev,w1,p1⟩=>?_⟩
    cases c with
    |false=>exact p1 θ1 H1 Ev.refl w1 σ (fr.ev ev)
    |true=>
     refine⟨λσ' H'=>∃θ h ρ,W X.G θ h H'/\Fr X.G θ H' ρ σ'/\aE X.G (qJ X.G E) θ H' (jJ t b m ρ h) (KS X.G C),λσ' H' q=>⟨m,Nat.lt_succ_self _,q⟩,θ1,h1,ρ,w1,fr.ev ev,(aE.dC p1).mono λf θ4 h4 H4 _ _ ⟨e4,w4,p4⟩=>?_⟩
     cases f with
     |nx ρ5=>exact λσ5 fr5=>⟨θ4,h4,ρ5,w4,fr5,p4⟩
     |ct ρ5=>exact λσ5 fr5=>⟨θ4,h4,ρ5,w4,fr5,p4⟩
     |bk ρ5=>exact p4 θ4 H4 Ev.refl w4
     |rt d=>exact p4 θ4 H4 Ev.refl w4))
theorem eV:∀{xs ys:List α} {us ws:List β},Paired G xs us->Paired G ys ws->Paired G (xs++ys) (us++ws)
 |_,_,_,_,.nil,s=>s
 |_,_,_,_,.cons r t,s=>.cons r (eV t s)
theorem DM(hJ:rG G θ1 H1 xs J)(w1:W G θ1 h1 H1)(fr:Fr G θ1 H1 ρ σ)(p1:aE G F θ1 H1 ((iZ n ρ g t m xs h1).bind mk) (KV G Q))
 (hmk:∀ys vs θ h H,ys.length<=xs.length->W G θ h H->aV G θ H ys vs->aE G F θ H (mk ys h) (KV G Q)->∀p,H p=none->Q (.ref p) (upd H p (.lst vs)))(hz:xs.length<=sizeLine) :
  BR n J (lG G iK g) (lT G iK t) (lE G iK m) σ H1 Q:=by
 refine⟨λi m' ys H=>m'=xs.length-i/\i<=xs.length/\∃θ' h' acc,acc.length<=i/\Ev θ1 H1 θ' H/\W G θ' h' H/\aV G θ' H acc ys/\aE G F θ' H ((iZ n ρ g t m (xs.drop i) h').bind λzs h2=>mk (acc++zs) h2) (KV G Q),
  ⟨xs.length,by simp,Tf _,θ1,h1,[],R5 _,Ev.refl,w1,.nil,p1⟩,?_⟩
 rintro i m' ys H ⟨rfl,hi,θ',h',acc,hacc,ev,w,ra,p⟩;obtain⟨j1,j2⟩:=hJ θ' h' H ev w;have hly:ys.length<=sizeLine:=by rw[<- show acc.length=ys.length from Sr ra];omega
 by_cases hlt:i<xs.length
 ·have ed:xs.drop i=xs[i]::xs.drop (i+1):=SS hlt;rw[ed]at p;obtain⟨g1,g2⟩:=j1 i xs[i] (R9 hlt);refine .inr ⟨g1,hly,λys2 H2=>i+1<=xs.length/\∃θ' h' acc,acc.length<=i+1/\Ev θ1 H1 θ' H2/\W G θ' h' H2/\aV G θ' H2 acc ys2/\aE G F θ' H2 ((iZ n ρ g t m (xs.drop (i+1)) h').bind λzs h2=>mk (acc++zs) h2) (KV G Q),λys' H' q=>⟨xs.length-(i+1),by omega,rfl,q⟩,λx H2 y=>?_⟩;obtain⟨e2,w2,r2⟩:=g2 x H2 y;have p2:=p.later e2;unfold iZ at p2;simp only[R.bind_assoc]at p2;refine⟨θ',h',_,xs[i],w2,((fr.ev ev).ev e2).replicate n,r2,(aE.dC p2).mono λρ3 θ3 h3 H3 _ _ ⟨e3,w3,p3⟩ σ3 fr3=>⟨θ3,h3,ρ3,w3,fr3,(aE.dC p3).mono λc θ4 h4 H4 _ _ ⟨e4,w4,p4⟩=>?_⟩⟩;have ev4:=(ev.trans e2).trans (e3.trans e4);have ra4:=aV.ev (e2.trans (e3.trans e4)) ra
  cases c with
  |false=>exact⟨hlt,θ4,h4,acc,by omega,ev4,w4,ra4,p4⟩
  |true=>
   simp only[Tr,R.bind_assoc]at p4;refine⟨θ4,h4,ρ3,w4,fr3.ev e4,(aE.dC p4).mono λy θ5 h5 H5 _ _ ⟨e5,w5,p5⟩ v5 r5=>⟨hlt,θ5,h5,acc++[y],by simp;omega,ev4.trans e5,w5,?_,?_⟩⟩
   ·exact eV (aV.ev e5 ra4) (.cons r5 .nil)
   ·simp only[R.bind_assoc,R.bo]at p5;simpa using p5
 ·have hx:i=xs.length:=by omega
  subst hx;rw[Tc (R5 _)]at p;simp only[iZ,R.bo,Ug]at p;exact .inl ⟨j2,hly,hmk acc ys θ' h' H hacc w ra p⟩
variable {own:VA} {scope:Scope} {elt:Expr} {ifs:VB}
@[irreducible] noncomputable def J8(X:Cx)(E:XK)(t:MT)(es:VB):Prop:=HL X es (lT X.G E t)
theorem qM(X:Cx)(E:XK)(t:MT)(es:VB):J8 X E t es=(HL X es (lT X.G E t)):=by
 grind[J8]
theorem fe:J8 X E dh []:=by simp[qM]at *;exact by rintro pins s σ H Q I ⟨θ,h,ρ,w,fr,p⟩;exact HM pins s σ H Q I (p θ H Ev.refl w)
theorem eE(h:DT X E t e):J8 X E t [e]:=by simp[jq,qM]at *;exact HN h
theorem Cg{mk:List D->Hm->R D}(h:lE G E (ag mk (zj n it g t m)) σ H Q)
 (hmk:∀ys vs θ h H,ys.length<=sizeLine->W G θ h H->aV G θ H ys vs->aE G (qJ G E) θ H (mk ys h) (KV G Q)->∀p,H p=none->Q (.ref p) (upd H p (.lst vs))) :
  yZ n (lI G E it) (lG G iK g) (lT G iK t) (lE G iK m) σ H Q:=by
 obtain⟨θ,h,ρ,w,fr,p⟩:=h;simp[ag,zj,R.bind_assoc]at p;refine⟨θ,h,ρ,w,fr,(aE.bind p).mono λxs θ1 h1 H1 _ _ ⟨ev,w1,p1⟩ J hJ=>?_⟩;split at p1
 ·rename_i hz;exact DM hJ w1 (fr.ev ev) p1 (λys vs θ h H hl=>hmk ys vs θ h H (Sd hl (de hz))) (de hz)
 ·trivial
theorem jM(ys:List D)(vs:List V)(θ:Vx)(h:Hm)(H:Hp)(w1:W G θ h H)(r1:aV G θ H ys vs)(p1:aE G F θ H (ij ys h) (KV G Q))(q:Addr)(hq:H q=none):Q (.ref q) (upd H q (.lst vs)):=by
 unfold ij at p1
 cases e:ig ys with
 |none=>rw[e]at p1;exact p1.elim
 |some ds=>
  rw[e]at p1;simp only at p1;split at p1
  ·obtain⟨e1,w2,g⟩:=w1.put hq;obtain⟨h1,h2⟩:=pP r1 e;exact p1 _ _ e1 w2 _ ⟨⟨q,vs,rfl,g,h1.same e1.same⟩,by assumption⟩
  ·trivial
theorem cA(own:VA)(CS:fD X.env.scope X.N own scope=true)(hc:X.calm=true)(hi:DI X E it tg e)(hg:∀C s2 H2 fp pins,DG #[11] iK g tg)
 (ht:∀C s2 H2 fp pins,J8 #[11] iK t ifs)(he:∀C s2 H2 fp pins,DE #[11] iK m elt)(hs:∀x,foldedSetIterable e X.env x=pure x:=by intro _;rfl) :
  DE X E (bX own.length it g t m) (.ListComp elt [⟨tg,e,ifs,0⟩] scope pos):=by
 simp[bC,nv,lq,qM]at *;exact PE.imp (BS own CS hc hi hg ht he hs) λσ H Q q=>Cg q λys vs θ h H _=>jM ys vs θ h H
theorem Iz{mk:List D->Hm->R D}(h:lS G E (cn i (ag mk (zj n it g t m))) C σ H)
 (hmk:∀Q ys vs θ h H,ys.length<=sizeLine->W G θ h H->aV G θ H ys vs->aE G (qJ G E) θ H (mk ys h) (KV G Q)->∀p,H p=none->Q (.ref p) (upd H p (.lst vs))) :
  C4 (yZ n (lI G E it) (lG G iK g) (lT G iK t) (lE G iK m)) (L2.ax i) C σ H:=by
 obtain⟨θ,h,ρ,w,fr,p⟩:=h;refine Cg ⟨θ,h,ρ,w,fr,(aE.bind p).mono (by rintro d θ1 h1 H1 _ _ ⟨ev,w1,p1⟩ v r;exact p1 θ1 H1 Ev.refl w1 _ ((fr.ev ev).set r))⟩ (hmk _)
theorem Ci(own:VA){pos' spos:Pos}(hN:X.N.Nodup)(hxi:X.N[i]?=some x)(hx:X.env.scope.names.lookup x=some .local)(CS:fD X.env.scope X.N own scope=true)(hc:X.calm=true)(hi:DI X E it tg e)(hg:∀C s2 H2 fp pins,DG #[11] iK g tg)
 (ht:∀C s2 H2 fp pins,J8 #[11] iK t ifs)(he:∀C s2 H2 fp pins,DE #[11] iK m elt)(hs:∀x,foldedSetIterable e X.env x=pure x:=by intro _;rfl)
 (hsw:swapsWith (.ListComp elt [⟨tg,e,ifs,0⟩] scope pos) (some (.Name x pos')) spos.line X.env=pure true:=by rfl):DS X E (cn i (bX own.length it g t m)) (.Assign [.Name x pos'] (.ListComp elt [⟨tg,e,ifs,0⟩] scope pos) spos):=by
 simp[bC,jr,nv,lq,qM]at *;exact PS.imp (HP own hN hxi hx CS hc hi hg ht he hs hsw) λC σ H q=>Iz q λQ ys vs θ h H _=>jM ys vs θ h H
end
noncomputable def Hg(G:Gx)(F:Fn):Sp:=λvs H Q E=>∃θ h ds,W G θ h H/\aV G θ H ds vs/\aE G (qJ G E) θ H (F ds h) (KV G Q)
noncomputable def FQ(F:Fn)(n:Nat):Prop:=∀ds h,ds.length≠n->F ds h=.bad
theorem Cj(ar:FQ F n):∀vs H Q E,Hg G F vs H Q E->vs.length=n:=by
 rintro vs H Q E ⟨θ,h,ds,w,r,p⟩;by_cases e:ds.length=n
 ·rw[<- e];exact(Sr r).symm
 ·rw[ar ds h e]at p;exact p.elim
theorem mO:FQ (bz p n b) p:=λds h e=>by simp[bz,e]
structure aT(P:VG)(w:World)(K:Vz)(mg:Vv)(base:Heap)(x:Str)(ps:VA)(k:Nat)(F:Fn):Prop where
 has:FN P w K mg base x ps k (Hg ⟨P,w,mg,K⟩ F)
 ar:FQ F ps.length
section
variable {P:VG} {w:World} {K:Vz} {mg:Vv} {base:Heap} {x qual:Str} {st:Stmt} {f:Addr} {fd:FuncData} {N ps:VA} {k:Nat} {b:MS} {F:Fn}
theorem Fr.start{n:Nat}(r:aV G θ H ds vs)(hl:ds.length=ps.length):Fr G θ H (ds.map some++List.replicate (N.length-ps.length) none) (start N vs):=by
 have hv:ds.length=vs.length:=Sr r;unfold L2.start;rw[<- hv,hl];refine⟨by simp_all,λi d e=>?_⟩;by_cases hi:i<ds.length
 ·rw[Sl (by simp_all)]at e;rw[Sl (by simp_all)];simp only[SD]at e ⊢
  cases e1:ds[i]? with
  |none=>grind
  |some d'=>rw[e1]at e;simp at e;subst e;obtain⟨v,e2,rv⟩:=r.some e1;exact⟨v,by simp_all,rv⟩
 ·rw[SO (by simpa using hi),T8]at e;split at e<;>cases e
theorem Q8(Fu:El K x qual st f fd)(S:aH N ps (ao st))(hbody:∀(cdv:Value) (A:VH) (outer:List Env) (s:VI) (H:Hp) (E:XK),bZ k (A.deeper (PyProof.Rows.envOfC qual (ao st) #[9] f cdv)) ->
   Cd (fk (iF P w) P w K mg base N qual (ao st) f cdv A outer s H E) E b (bA st)):jD P w K mg base (iF P w) (k+1) f fd ps (Hg ⟨P,w,mg,K⟩ (bz ps.length N.length b)):=by
 simp[jL]at *;refine Fu.RM S (Cj mO) λcdv A outer s H vs Q E hr ⟨θ,h,ds,w,r,p⟩=>⟨_,hbody cdv A outer s H E hr,?_⟩;unfold bz at p;split at p
 ·rename_i hl;refine⟨θ,h,_,w,Fr.start (n:=0) r hl,(aE.bind p).mono λfl θ1 h1 H1 _ _ ⟨ev,w1,p1⟩=>?_⟩
  cases fl with
  |nx ρ=>exact λσ fr=>p1 θ1 H1 Ev.refl w1 _ ⟨rfl,by rfl⟩
  |rt d=>exact p1 θ1 H1 Ev.refl w1
  |bk ρ=>trivial
  |ct ρ=>trivial
 ·trivial
theorem aT.mono(h:aT P w K mg base x ps j F)(l:j<=k):aT P w K mg base x ps k F:=by obtain⟨⟨f,fd,h1,h2,h3,h4⟩,ar⟩:=h;exact⟨⟨f,fd,h1,h2,h3,h4.mono l⟩,ar⟩
theorem aT.eq(h:aT P w K mg base x ps k F)(e:F=F'):aT P w K mg base x ps k F':=e▸h
end
section
variable {X:Cx} {E:XK} {x:Str} {ps:VA} {k:Nat} {F:Fn} {e:Expr} {es:VB} {ma:MA} {p pos:Pos}
theorem cJ:Passes (iF X.prog X.w) X iK:=by rintro _ _ _ _ _ _ _ ⟨_,_,_,_,_,_,_,_,_,_,_,_,_,h⟩;exact h.elim
theorem NZ(F':aT X.prog X.w X.K X.mg X.base x ps k F)(hx:Passes (iF X.prog X.w) X E)(hr:bZ k X.A)(hg:Gl X x)(ha:DA X E ma (e::es))(hdb:(x==("__debug__" : Str))=false:=by decide)(he:#[2]:=by rfl)
 (hpl:#[20].any (·.1)=false:=by rfl):DE X E (ag F ma) (.Call (.Name x p) (e::es) [] pos):=by
 simp only[bC,gV]at *;exact PE.imp (LV F'.has hx hr hg ha hdb he hpl) (by rintro σ H Q ⟨θ,h,ρ,w,fr,p⟩;exact⟨θ,h,ρ,w,fr,(aE.bind p).mono (by rintro xs θ1 h1 H1 _ _ ⟨ev,w1,p1⟩ vs r;exact⟨θ1,h1,xs,w1,by grind,p1⟩)⟩)
end
theorem DN(hx:(match x with|.int _|.str _|.bool _|.none=>true|_=>false)=true)(r:RelV (LH x) u):Reads h u x []:=by
 cases x with
 |none=>cases r;exact .none
 |bool b=>cases r;exact .bool b
 |int i=>obtain⟨t,rfl⟩:=r;exact .int i t
 |str s=>obtain⟨t,rfl⟩:=r;exact .str s t
 |_=>cases hx
theorem jN:∀{xs:Vw} {us:Vy},(∀x∈xs,(match x with|.int _|.str _|.bool _|.none=>true|_=>false)=true)->Vals (xs.map LH) us->ReadsAll h us xs []
 | [],us,_,r=>by cases r;exact .nil
 |x::xs,us,hx,r=>by
  cases r with
  |cons r1 r2=>exact .cons (DN (hx x #[6]) r1) (jN (λy m=>hx y (by simp[m])) r2)
section
variable {X:Cx} {pins:Vt} {σ:L2.St} {H:Hp} {s:VI} {θ:Vx} {hm:Hm}
theorem fH(I:#[10])(w:W X.G θ hm H):∀(n:Nat) {x:D} {v:V} {u:Value} {d:PyData},bU X.G θ H x v->RelV v u->xQ hm n x=some d->(∃as,Reads s.heap u d as)/\eR d=true:=by
 intro n
 induction n with
 |zero=>
  intro x v u d r rv e
  cases x with
  |dat d'=>simp only[xQ]at e;cases e;exact⟨Rep.reads I (r.1.same (aC _ _)) rv,r.2⟩
  |ktup xs=>simp only[xQ]at e;cases e;obtain⟨a,rfl,⟨o,its,k,hl,hc,hd,_,vs⟩,hx,hs⟩:=r;cases rv;exact⟨⟨_,.tuple (I.qr _ _ hl) hc hd (jN hx vs)⟩,by assumption⟩
  |_=>simp[xQ]at e
 |succ n ih=>
  intro x v u d r rv e
  cases x with
  |dat d'=>simp only[xQ]at e;cases e;exact⟨Rep.reads I (r.1.same (aC _ _)) rv,r.2⟩
  |ktup xs=>simp only[xQ]at e;cases e;obtain⟨a,rfl,⟨o,its,k,hl,hc,hd,_,vs⟩,hx,hs⟩:=r;cases rv;exact⟨⟨_,.tuple (I.qr _ _ hl) hc hd (jN hx vs)⟩,by simpa [eR]using hs⟩
  |ref i=>
   simp only[xQ]at e;obtain⟨a,ha,rfl⟩:=r;cases rv
   cases e1:hm[i]? with
   |none=>rw[e1]at e;cases e
   |some o=>
    rw[e1]at e
    cases o with
    |lst xs=>
     simp only at e;obtain⟨vs,hv,rs⟩:=w.obj i a _ ha e1;obtain⟨_,its,k,rvs,ho⟩:=I.hok a _ hv
     have all:∀{xs:List D} {vs:List V} {us:Vy} {ds:Vw},aV X.G θ H xs vs->Vals vs us->jE (xQ hm n) xs=some ds->(∃as,ReadsAll s.heap us ds as)/\cQ ds=true:=by
      intro xs
      induction xs with
      |nil=>intro vs us ds r1 r2 e;cases r1;cases r2;cases e;exact⟨⟨_,.nil⟩,by simp[cQ]⟩
      |cons x xs ihx=>
       intro vs us ds r1 r2 e
       cases r1 with
       |cons p1 p2=>
        cases r2 with
        |cons q1 q2=>
         unfold jE at e
         cases e2:xQ hm n x with
         |none=>rw[e2]at e;cases e
         |some d=>
          cases e3:jE (xQ hm n) xs with
          |none=>rw[e2,e3]at e;cases e
          |some ds'=>rw[e2,e3]at e;cases e;obtain⟨⟨as,z1⟩,s1⟩:=ih p1 q1 e2;obtain⟨⟨bs,z2⟩,s2⟩:=ihx p2 q2 e3;exact⟨⟨_,.cons z1 z2⟩,by simp[cQ,s1,s2]⟩
     cases e2:jE (xQ hm n) xs with
     |none=>rw[e2]at e;cases e
     |some ds=>rw[e2]at e;cases e;obtain⟨⟨as,z⟩,s1⟩:=all rs rvs e2;exact⟨⟨_,.list ho rfl rfl (by simpa using z)⟩,by simpa [eR]using s1⟩
    |_=>cases e
  |_=>simp[xQ]at e
end
end Ml
namespace PySem.SeqAt
open PySem PySem.MeetsSeq PySem.AutoSeq1
theorem uh(t:Addr)(its:VE)(m:Nat)(d2:Option Addr)(sl2:VC)(l:Addr)(es:VD)(n:Nat)(dd:Option Addr)(sl:VC) :
  Meets (Builtin.«tuple.__eq__» ⟨[.ref t,.ref l],[]⟩) (λ_ R s=>s.heap.get? t=some {cls:=.type "tuple",dict:=d2,data:=.seq its m,slots:=sl2}/\s.heap.get? l=some {cls:=.type "dict",dict:=dd,data:=.dict es n,slots:=sl}/\R (.ok (.ret .notImplemented)) s):=
 .of_wp λprog w A R s h=>by
  obtain⟨hp,g,d,tk,os⟩:=s;obtain⟨ht,hl,h⟩:=h;have f1:=F.sub_dict_tuple
  wp_walk using wpAny_loadPart' hl,U6 hl,wpAny_loadPart' ht,U6 ht
  grind
theorem ui(t:Addr)(its:VE)(m:Nat)(d2:Option Addr)(sl2:VC)(l:Addr)(es:VD)(n:Nat)(dd:Option Addr)(sl:VC) :
  Meets (Builtin.«dict.__eq__» ⟨[.ref l,.ref t],[]⟩) (λ_ R s=>s.heap.get? t=some {cls:=.type "tuple",dict:=d2,data:=.seq its m,slots:=sl2}/\s.heap.get? l=some {cls:=.type "dict",dict:=dd,data:=.dict es n,slots:=sl}/\R (.ok (.ret .notImplemented)) s):=
 .of_wp λprog w A R s h=>by
  obtain⟨hp,g,d,tk,os⟩:=s;obtain⟨ht,hl,h⟩:=h;have f1:=F.sub_tuple_dict
  wp_walk using wpAny_loadPart' hl,U6 hl,wpAny_loadPart' ht,U6 ht
  grind
theorem uj{h:Heap}(ht:h.get? t=some {cls:=.type "tuple",dict:=d2,data:=.seq its m,slots:=sl2})
 (hl:h.get? l=some {cls:=.type "dict",dict:=dd,data:=.dict es n,slots:=sl}):t≠l:=λe=>by
 grind
theorem RcAt.xZ(ht:s.heap.get? t=some {cls:=.type "tuple",dict:=d2,data:=.seq its m,slots:=sl2})
 (hl:s.heap.get? l=some {cls:=.type "dict",dict:=dd,data:=.dict es n,slots:=sl})(hu:A.units<cLine):RcAt A s (.ref t) (.ref l) false:=λprog w E Q h=>
 have ne  := uj ht hl
 rc_eq_decline_or ⟨_,ht,rfl⟩ ⟨_,hl,rfl⟩ #[4] F.sub_dict_tuple F.slot_tuple_eq Ux
  (λ_ hq=>Um F.slot_tuple_eq ⟨_,ht,rfl⟩ F.entry_tuple_eq (F.args_tuple_eq_2 _ _) (uh t its m d2 sl2 l es n dd sl) ⟨ht,hl,hq⟩)
  (λ_ hq=>Um Ux ⟨_,hl,rfl⟩ F.entry_dict_eq (F.args_dict_eq_2 _ _) (ui t its m d2 sl2 l es n dd sl) ⟨ht,hl,hq⟩)
  (λ_ hq=>wpAny_isSame_ref_other' ne ht hl (show Value.type "dict" ≠ Value.type "tuple" by decide) hq) (.inr hu) h
theorem EqAt.xZ(ht:s.heap.get? t=some {cls:=.type "tuple",dict:=d2,data:=.seq its m,slots:=sl2})
 (hl:s.heap.get? l=some {cls:=.type "dict",dict:=dd,data:=.dict es n,slots:=sl})(hu:A.units<cLine):EqAt A s (.ref t) (.ref l) false:=
 .of_refs (uj ht hl) (.xZ ht hl hu)
end PySem.SeqAt
namespace Ml
open PySem PySem.Spec L2
theorem A0(sa:eR d=true)(sb:eR e=true)(h:eqQ d e=some k):d.canLay0=true/\e.canLay0=true/\min d.depth e.depth<=40/\k=PyData.eqv d e:=by
 unfold eqQ at h;split at h
 ·rename_i hn;simp[noDict]at hn;cases h;exact⟨kY sa hn.1.1,kY sb hn.1.2,hn.2,rfl⟩
 grind
theorem LW(ra:Reads s.heap a d as)(rb:Reads s.heap b e bs)(sa:eR d=true)(sb:eR e=true)(hu:A.units+41<cLine)(h:B5 d e=some k):SeqAt.EqAt A s a b k/\d.canLay0=true:=by
 unfold B5 at h;split at h
 ·cases h;cases ra
  cases rb with
  | @dict a' o' es n kvs as1 bs1 h1 h2 h3 h4 h5=>obtain⟨oc,od,dat,osl⟩:=o';cases h2;cases h3;exact⟨SeqAt.EqAt.Im _ _ h1 #[3],by assumption⟩
 ·split at h
  ·rename_i hn;simp only[noDict,T5]at hn;cases h;have hl:=kY sa hn
   cases ra with
   | @tuple l o vs m xs as1 g1 g2 g3 g4=>
    obtain⟨oc2,od2,dat2,osl2⟩:=o;cases g2;cases g3
    cases rb with
    | @dict a' o' es n kvs as1 bs1 h1 h2 h3 h4 h5=>obtain⟨oc,od,dat,osl⟩:=o';cases h2;cases h3;exact⟨SeqAt.EqAt.xZ g1 h1 #[3],hl⟩
  grind
 ·obtain⟨l1,l2,l3,rfl⟩:=A0 sa sb h;exact⟨SeqAt.eqAt_reads _ _ A s a b as bs ra rb l1 l2 #[3],l1⟩
theorem aE.js(p:aE G E θ H (.ok d h) (KV G Q))(w:W G θ h H)(r:bU G θ H d v):Q v H:=p θ H Ev.refl w v r
theorem cC(b:Bool):bU G θ H (.bool b) (.bl b):=⟨rfl,by rfl⟩
theorem cq(i:Int):bU G θ H (.int i) (.int i):=⟨rfl,by rfl⟩
theorem DP:bU G θ H D.none .non:=⟨rfl,by rfl⟩
section
variable {X:Cx} {E:XK} {k:Nat}
theorem qN(hr:bZ k X.A):pO X E (compareOp .Eq) oEq:=by
 rintro pins s σ H x y v u Q I rx ry ⟨θ,h,d1,d2,w,r1,r2,p⟩;unfold oEq at p;split at p
 ·exact Nv pins s σ H x y v u Q I rx ry (by cases r1;cases r2;exact⟨rfl,by simpa using p.js w (cC _)⟩)
 ·cases e1:wH h d1 with
  |none=>rw[e1]at p;exact p.elim
  |some d=>
   cases e2:wH h d2 with
   |none=>rw[e1,e2]at p;exact p.elim
   |some e=>
    rw[e1,e2]at p;simp only at p
    cases e3:eqQ d e with
    |none=>rw[e3]at p;exact p.elim
    |some b=>rw[e3]at p;obtain⟨⟨as,z1⟩,s1⟩:=fH I w 3 r1 rx e1;obtain⟨⟨bs,z2⟩,s2⟩:=fH I w 3 r2 ry e2;obtain⟨l1,l2,l3,rfl⟩:=A0 s1 s2 e3;exact SeqAt.compareEq_reads z1 z2 l1 l2 (by have:=hr.units;omega) ⟨.bl _,H,I,rfl,p.js w (cC _)⟩
theorem zr(hr:bZ k X.A):pO X E (compareOp .NotEq) t7:=by
 rintro pins s σ H x y v u Q I rx ry ⟨θ,h,d1,d2,w,r1,r2,p⟩;unfold t7 at p;split at p
 ·exact JX pins s σ H x y v u Q I rx ry (by cases r1;cases r2;exact⟨rfl,by simpa using p.js w (cC _)⟩)
 ·cases e1:wH h d1 with
  |none=>rw[e1]at p;exact p.elim
  |some d=>
   cases e2:wH h d2 with
   |none=>rw[e1,e2]at p;exact p.elim
   |some e=>
    rw[e1,e2]at p;simp only at p
    cases e3:eqQ d e with
    |none=>rw[e3]at p;exact p.elim
    |some b=>rw[e3]at p;obtain⟨⟨as,z1⟩,s1⟩:=fH I w 3 r1 rx e1;obtain⟨⟨bs,z2⟩,s2⟩:=fH I w 3 r2 ry e2;obtain⟨l1,l2,l3,rfl⟩:=A0 s1 s2 e3;exact SeqAt.compareNe_reads z1 z2 l1 l2 (by have:=hr.units;omega) ⟨.bl _,H,I,rfl,p.js w (cC _)⟩
theorem x6(rx:Reads s.heap x d bs)(sx:eR d=true)(hu:A.units+41<cLine):∀{vs:Vy} {ds:Vw} {as:Vx} {b:Bool},ReadsAll s.heap vs ds as->cQ ds=true->Ft d ds=some b ->
  (∀y∈vs,SeqAt.EqAt A s y x ((B5 (SeqAt.readOf s.heap y) d).getD false))/\(vs.any λy=>(B5 (SeqAt.readOf s.heap y) d).getD false)=b
 | [],_,_,b,.nil,_,e=>by cases e;grind
 |v::vs,_,_,b,.cons (d:=d1) (ds:=ds) r1 r2,so,e=>by
  simp only[cQ,R4]at so;unfold Ft at e
  cases e1:B5 d1 d with
  |none=>simp_all
  |some b1=>
   cases e2:Ft d ds with
   |none=>simp_all
   |some b2=>
    rw[e1,e2]at e;cases e;obtain⟨h1,h2⟩:=x6 rx sx hu r2 so.2 e2;obtain⟨q1,q2⟩:=LW r1 rx so.1 sx hu e1;have er:SeqAt.readOf s.heap v=d1:=SeqAt.readOf_eq q2 r1
    grind
theorem FR(hr:bZ k X.A){σ:L2.St}(hsq:sq=.tuple ds\/sq=.list ds)(I:#[10])(z1:Reads s.heap v d as)(z2:Reads s.heap u sq bs)(s1:eR d=true)(s2:cQ ds=true)(e:Ft d ds=some b) :
  (Q (.bl b) H->wpAny #[12] X.A (compareOp .In v u) (EP X pins σ Q) X.xe s)/\(Q (.bl !b) H->wpAny #[12] X.A (compareOp .NotIn v u) (EP X pins σ Q) X.xe s):=by
 have hu:X.A.in1.units+41<cLine:=by have:=hr.units;grind
 rcases hsq with rfl|rfl
 ·cases z2 with
  |tuple h1 h2 h3 h4=>
   obtain⟨q1,q2⟩:=x6 (A:=X.A.in1) z1 s1 hu h4 s2 e;rename_i vs n;have q3:(vs.any λy=>(B5 (SeqAt.readOf s.heap y) d).getD false)=b:=by grind
   exact⟨λq=>SeqAt.in_tupleAt _ ⟨_,h1,h2,_,h3⟩ (λy m=>q1 y (TU.mpr m)) (by rw[q3];exact⟨.bl b,H,I,rfl,q⟩),λq=>SeqAt.notIn_tupleAt _ ⟨_,h1,h2,_,h3⟩ (λy m=>q1 y (TU.mpr m)) (by rw[q3];exact⟨.bl (!b),H,I,rfl,q⟩)⟩
 ·cases z2 with
  |list h1 h2 h3 h4=>
   obtain⟨q1,q2⟩:=x6 (A:=X.A.in1) z1 s1 hu h4 s2 e;rename_i vs n _;have q3:(vs.any λy=>(B5 (SeqAt.readOf s.heap y) d).getD false)=b:=by rw[<- q2,<- Array.any_toList]
   exact⟨λq=>SeqAt.in_listAt _ ⟨_,h1,h2,_,h3⟩ (λy m=>q1 y (TU.mpr m)) (by rw[q3];exact⟨.bl b,H,I,rfl,q⟩),λq=>SeqAt.notIn_listAt _ ⟨_,h1,h2,_,h3⟩ (λy m=>q1 y (TU.mpr m)) (by rw[q3];exact⟨.bl (!b),H,I,rfl,q⟩)⟩
end
end Ml
namespace PySem.SeqAt
open PySem.AutoSeq1 (wpAny_loadPart')
open PySem.MeetsSeq PySem.MeetsSeq2 PySem.MeetsSeq3
noncomputable def FT(A:VH)(s:VI)(y x:Value)(b:Bool):Prop:=
 ∀(prog:VG) (w:World) (E:Vs) (Q:Vs),Q (.bool b) s->wpAny #[14] A (richCompare .Lt y x) Q E s
inductive ny (A:VH) (s:VI):Vy->Vy->Bool->Prop
 |nil:ny A s [] [] false
 |left {w ws}:ny A s [] (w::ws) true
 |right {v vs}:ny A s (v::vs) [] false
 |eq {v vs w ws k}:EqAt A s v w true->ny A s vs ws k->ny A s (v::vs) (w::ws) k
 |ne {v vs w ws k}:EqAt A s v w false->FT A s v w k->ny A s (v::vs) (w::ws) k
theorem pT(l b:Addr)(its1 its2:VE)(n n2:Nat)(dd dd2:Option Addr)(sl sl2:VC)(k:Bool) :
  Meets (Builtin.«tuple.__lt__» ⟨[.ref l,.ref b],[]⟩) (λA R s=>s.heap.get? l=some {cls:=.type "tuple",dict:=dd,data:=.seq its1 n,slots:=sl}/\s.heap.get? b=some {cls:=.type "tuple",dict:=dd2,data:=.seq its2 n2,slots:=sl2}/\ny A.in1 s its1.toList its2.toList k/\R (.ok (.ret (.bool k))) s):=
 .of_wp λprog w A R s h=>by
  obtain⟨hp,g,d,tk,os⟩:=s;obtain⟨hl,hb,hx,h⟩:=h;have f2:=AutoSeq1.sub_tuple_tuple
  wp_walk using wpAny_loadPart' hl,wpAny_loadPart' hb,wpAny_forIn_list _ (λrest b s'=>b.1=none/\s'=⟨hp,g,d,tk,os⟩/\∃(vs ws:Vy),rest=vs.zip ws/\ny A.in1 ⟨hp,g,d,tk,os⟩ vs ws k/\vs.length+its2.size=ws.length+its1.size/\R (.ok (.ret (.bool k))) ⟨hp,g,d,tk,os⟩) _
  case turn=>
   rintro⟨y,x⟩ rest b s' ⟨hb',rfl,vs,ws,hz,hx,hlen,hR⟩
   cases hx with
   |nil=>rw[List.zip_nil_left]at hz;cases hz
   |left=>rw[List.zip_nil_left]at hz;cases hz
   |right=>rw[List.zip_nil_right]at hz;cases hz
   | @eq v vs w' ws k he hx'=>
    rw[TM]at hz;injection hz with hyx hrest;injection hyx with hy hx;subst hy hx;simp only[SG]at hlen;refine R0 (he prog w _ _ ?_)
    wp_walk
    exact⟨rfl,rfl,_,_,hrest,hx',by omega,hR⟩
   | @ne v vs w' ws k he hlt=>
    rw[TM]at hz;injection hz with hyx hrest;injection hyx with hy hx;subst hy hx;refine R0 (he prog w _ _ ?_);have hri:=hlt prog w
    wp_walk using hri
    exact⟨_,rfl,by simpa using hR⟩
  case fin=>
   rintro⟨b1,b2⟩ s' ⟨hb',rfl,vs,ws,hz,hx,hlen,hR⟩;simp only at hb';subst hb'
   have hv:k=decide (its1.size<its2.size):=by
    cases hx with
    |nil=>simp only[UK]at hlen;exact(S7 #[3]).symm
    |left=>simp only[UK,SG]at hlen;exact(Ud #[3]).symm
    |right=>simp only[UK,SG]at hlen;exact(S7 #[3]).symm
    |eq=>rw[TM]at hz;cases hz
    |ne=>rw[TM]at hz;cases hz
   rw[hv]at hR
   wp_walk
   exact⟨_,rfl,by simpa [Builtin.Tuple.tupleCompareSizes]using hR⟩
  case h=>exact⟨rfl,rfl,its1.toList,its2.toList,rfl,hx,by simp;omega,h⟩
theorem FT.tuples(h1:s.heap.IsTuple l its1)(h2:s.heap.IsTuple b its2)(hu:A.units<cLine)(hx:ny A.in1 s its1.toList its2.toList k):FT A s (.ref l) (.ref b) k:=λprog w E Q h=>by
 obtain⟨⟨c1,d1,e1,l1⟩,p1,g1,n1,z1⟩:=h1;obtain⟨⟨c2,d2,e2,l2⟩,p2,g2,n2,z2⟩:=h2;subst g1 z1 g2 z2
 exact richCompare_meets_room ⟨_,p1,rfl⟩ ⟨_,p2,rfl⟩ U1 PySem.F.entry_tuple_lt (PySem.F.args_tuple_lt_2 _ _) (pT l b _ _ n1 n2 d1 d2 l1 l2 k)
  ⟨p1,p2,hx,⟨(λx=>nomatch x),h⟩⟩ hu
end PySem.SeqAt
namespace Ml
open PySem PySem.Spec L2
open PySem.SeqAt
mutual
theorem pU:∀(d e:PyData) (A:VH) (s:VI) (a b:Value) (as bs:Vx) (k:Bool),Reads s.heap a d as->Reads s.heap b e bs->d.canLay0=true->e.canLay0=true->A.units+min d.depth e.depth<cLine->cj d e=some k->FT A s a b k
 |.int i,.int j,A,s,a,b,as,bs,k,ra,rb,_,_,_,h=>by cases ra;cases rb;simp only[cj]at h;cases h;exact λprog w E Q q=>(PyProof.Rows.lt_int q:wpAny #[14] A (compareOp .Lt _ _) Q E s)
 |.str x,.str y,A,s,a,b,as,bs,k,ra,rb,_,_,_,h=>by cases ra;cases rb;simp only[cj,nZ]at h;cases h;exact λprog w E Q q=>(PySem.P.lt_str q:wpAny #[14] A (compareOp .Lt _ _) Q E s)
 |.tuple xs,.tuple ys,A,s,a,b,as,bs,k,ra,rb,ha,hb,hu,h=>by
  cases ra with
  |tuple g1 g2 g3 g4=>
   cases rb with
   |tuple k1 k2 k3 k4=>simp only[cj]at h;simp only[PyData.canLay0]at ha hb;simp only[PyData.depth]at hu;exact FT.tuples ⟨_,g1,g2,_,g3⟩ ⟨_,k1,k2,_,k3⟩ #[3] (qO xs ys A.in1 s _ _ _ _ k g4 k4 ha hb (by show A.units+1+_<_;omega) h)
 |.none,_,_,_,_,_,_,_,_,_,_,_,_,_,h=>by simp[cj]at h
 |.bool _,_,_,_,_,_,_,_,_,_,_,_,_,_,h=>by simp[cj]at h
 |.list _,_,_,_,_,_,_,_,_,_,_,_,_,_,h=>by simp[cj]at h
 |.dict _,_,_,_,_,_,_,_,_,_,_,_,_,_,h=>by simp[cj]at h
 |.int _,.none,_,_,_,_,_,_,_,_,_,_,_,_,h=>by simp[cj]at h
 |.int _,.bool _,_,_,_,_,_,_,_,_,_,_,_,_,h=>by simp[cj]at h
 |.int _,.str _,_,_,_,_,_,_,_,_,_,_,_,_,h=>by simp[cj]at h
 |.int _,.list _,_,_,_,_,_,_,_,_,_,_,_,_,h=>by simp[cj]at h
 |.int _,.tuple _,_,_,_,_,_,_,_,_,_,_,_,_,h=>by simp[cj]at h
 |.int _,.dict _,_,_,_,_,_,_,_,_,_,_,_,_,h=>by simp[cj]at h
 |.str _,.none,_,_,_,_,_,_,_,_,_,_,_,_,h=>by simp[cj]at h
 |.str _,.bool _,_,_,_,_,_,_,_,_,_,_,_,_,h=>by simp[cj]at h
 |.str _,.int _,_,_,_,_,_,_,_,_,_,_,_,_,h=>by simp[cj]at h
 |.str _,.list _,_,_,_,_,_,_,_,_,_,_,_,_,h=>by simp[cj]at h
 |.str _,.tuple _,_,_,_,_,_,_,_,_,_,_,_,_,h=>by simp[cj]at h
 |.str _,.dict _,_,_,_,_,_,_,_,_,_,_,_,_,h=>by simp[cj]at h
 |.tuple _,.none,_,_,_,_,_,_,_,_,_,_,_,_,h=>by simp[cj]at h
 |.tuple _,.bool _,_,_,_,_,_,_,_,_,_,_,_,_,h=>by simp[cj]at h
 |.tuple _,.int _,_,_,_,_,_,_,_,_,_,_,_,_,h=>by simp[cj]at h
 |.tuple _,.str _,_,_,_,_,_,_,_,_,_,_,_,_,h=>by simp[cj]at h
 |.tuple _,.list _,_,_,_,_,_,_,_,_,_,_,_,_,h=>by simp[cj]at h
 |.tuple _,.dict _,_,_,_,_,_,_,_,_,_,_,_,_,h=>by simp[cj]at h
theorem qO:∀(xs ys:Vw) (A:VH) (s:VI) (vs ws:Vy) (as bs:Vx) (k:Bool),ReadsAll s.heap vs xs as->ReadsAll s.heap ws ys bs->PyData.canLayAll0 xs=true->PyData.canLayAll0 ys=true->A.units+min (PyData.depthAll xs) (PyData.depthAll ys)<cLine->dH xs ys=some k->ny A s vs ws k
 | [],[],A,s,vs,ws,as,bs,k,ra,rb,_,_,_,h=>by cases ra;cases rb;simp only[dH]at h;cases h;exact .nil
 | [],_::_,A,s,vs,ws,as,bs,k,ra,rb,_,_,_,h=>by cases ra;cases rb;simp only[dH]at h;cases h;exact .left
 |_::_,[],A,s,vs,ws,as,bs,k,ra,rb,_,_,_,h=>by cases ra;cases rb;simp only[dH]at h;cases h;exact .right
 |x::xs,y::ys,A,s,vs,ws,as,bs,k,ra,rb,ha,hb,hu,h=>by
  cases ra with
  |cons r1 r2=>
   cases rb with
   |cons q1 q2=>
    simp only[PyData.canLayAll0,R4]at ha hb;simp only[PyData.depthAll]at hu;have he:=eqAt_reads x y A s _ _ _ _ r1 q1 ha.1 hb.1 #[3];simp only[dH]at h
    cases hq:PyData.eqv x y with
    |true=>rw[hq]at he h;exact .eq he (qO xs ys A s _ _ _ _ k r2 q2 ha.2 hb.2 #[3] (by simpa using h))
    |false=>rw[hq]at he h;exact .ne he (pU x y A s _ _ _ _ k r1 q1 ha.1 hb.1 #[3] (by simpa using h))
end
section
variable {X:Cx} {E:XK} {k:Nat}
theorem FU(hr:bZ k X.A):pO X E (compareOp .Lt) oLt:=by
 rintro pins s σ H x y v u Q I rx ry ⟨θ,h,d1,d2,w,r1,r2,p⟩;unfold oLt at p
 cases d1 with
 |dat d=>
  cases d2 with
  |dat e=>
   simp only at p;split at p
   ·rename_i hn;simp only[R4,noDict,T5,Sv]at hn
    cases e3:cj d e with
    |none=>rw[e3]at p;exact p.elim
    |some b=>rw[e3]at p;obtain⟨⟨as,z1⟩,s1⟩:=fH I w 3 r1 rx (xR h 3 d);obtain⟨⟨bs,z2⟩,s2⟩:=fH I w 3 r2 ry (xR h 3 e);exact pU d e X.A s v u as bs b z1 z2 (kY s1 hn.1.1) (kY s2 hn.1.2) (by have:=hr.units;omega) e3 X.prog X.w X.xe _ ⟨.bl b,H,I,rfl,p.js w (cC b)⟩
   ·trivial
  |_=>trivial
 |_=>trivial
theorem J9(h:iC X op (rI C g))(k:∀θ hm H d1 d2 Q,W X.G θ hm H->aE X.G (qJ X.G E) θ H (f d1 d2 hm) (KV X.G Q)->∃i j,d1=.int i/\d2=.int j/\C i j/\Q (g i j) H):pO X E op f:=
 pO.of h λθ hm H d1 d2 x y Q w r1 r2 p=>by obtain⟨i,j,rfl,rfl,c,q⟩:=k θ hm H d1 d2 Q w p;exact⟨i,j,bN r1,bN r2,c,q⟩
theorem FV(h:iC X op (KP g))(k:∀θ hm H d1 d2 Q,W X.G θ hm H->aE X.G (qJ X.G E) θ H (f d1 d2 hm) (KV X.G Q)->∃i j,d1=.int i/\d2=.int j/\Q (g i j) H):pO X E op f:=
 pO.of h λθ hm H d1 d2 x y Q w r1 r2 p=>by obtain⟨i,j,rfl,rfl,q⟩:=k θ hm H d1 d2 Q w p;exact⟨i,j,bN r1,bN r2,q⟩
theorem Ka:pO X E (binaryOp .Sub) DH:=FV KW λθ hm H d1 d2 Q w p=>by
 unfold DH at p;split at p
 ·exact⟨_,_,rfl,rfl,p.js w (cq _)⟩
 ·trivial
theorem wQ:pO X E (binaryOp .Mod) oMod:=J9 KZ λθ hm H d1 d2 Q w p=>by
 unfold oMod at p;split at p
 ·split at p
  ·rename_i hj;exact⟨_,_,rfl,rfl,hj,p.js w (cq _)⟩
  ·trivial
 ·trivial
theorem uk:pO X E (binaryOp .FloorDiv) iJ:=J9 Hx λθ hm H d1 d2 Q w p=>by
 unfold iJ at p;split at p
 ·split at p
  ·rename_i hj;exact⟨_,_,rfl,rfl,hj,p.js w (cq _)⟩
  ·trivial
 ·trivial
theorem IA:pO X E (compareOp .Gt) Em:=FV Ny λθ hm H d1 d2 Q w p=>by
 unfold Em at p;split at p
 ·exact⟨_,_,rfl,rfl,p.js w (cC _)⟩
 ·trivial
theorem DQ:pO X E (compareOp .LtE) oLe:=pO.of (iC.or Nw Dq) λθ hm H d1 d2 x y Q w r1 r2 p=>by
 unfold oLe at p;split at p
 ·exact .inl ⟨_,_,bN r1,bN r2,p.js w (cC _)⟩
 ·exact .inr ⟨_,_,r1.1,r2.1,p.js w (cC _)⟩
 ·trivial
theorem N0:Q6 X E (unaryOp .USub) Ip:=by
 rintro pins s σ H x v Q I rx ⟨θ,h,d1,w,r1,p⟩;unfold Ip at p;split at p
 ·exact ED pins s σ H x v Q I rx ⟨_,bN r1,p.js w (cq _)⟩
 ·trivial
end
end Ml
set_option maxHeartbeats 1000000
namespace Ml
open PySem PySem.Spec L2 PyProof.Rows PySem.W
noncomputable def rH:PyData->Nat
 |.int _=>0
 |.str _=>1
 |_=>2
noncomputable def FX:Nat->String
 |0 => "int"
 |1 => "str"
 |_ => "tuple"
theorem um(h1:h.get? a=some o)(h2:o.cls=.type "tuple"):Looks M h (typeOf (.ref a)) (.type "tuple"):=by obtain⟨oc,od,dat,osl⟩:=o;cases h2;exact(Looks.ld h1).andThen .now
theorem DR(r:Reads h v d as)(t:ay d=true):Looks M h (typeOf v) (.type (FX (rH d))):=by
 cases r with
 |int i t=>exact .now
 |str x t=>exact .now
 |tuple h1 h2 h3 h4=>exact um h1 h2
 |_=>trivial
noncomputable def N3(h:Heap)(f:Option Value)(d:PyData):Prop:=match d with
 |.tuple []=>f=none
 |.tuple (x::_)=>∃u bs,f=some u/\Reads h u x bs
 |_=>False
section
variable {P:VG} {w:World} {A:VH} {E:Vs} {s:VI}
theorem rJ:∀{vs:Vy} {ds:Vw} {as:Vx} {Q:List (Option Value)->VI->Prop},ReadsAll s.heap vs ds as->ds.all ft=true->(∀fs,Paired (N3 s.heap) fs ds->Q fs s)->wpAny M A (vs.mapM firstOfTuple') Q E s
 |_,_,_,Q,.nil,_,h=>by rw[List.mapM_nil];exact R3 (h [] .nil)
 |_,_,_,Q,.cons r t,al,h=>by
  simp only[List.all_cons,R4]at al;rw[List.mapM_cons];refine R0 ?_
  cases r with
  |tuple h1 h2 h3 h4=>
   rename_i o its n xs;rw[kas_first_eq];refine R0 (Looks.here (um h1 h2) ?_);rw[if_neg (by first|decide|simp)];refine R0 (PyProof.Rows.listItems_at h1 h3 (R3 ?_));refine R0 (rJ t al.2 λfs hf=>R3 (h _ (.cons ?_ hf)));have e0:its[0]?=its.toList[0]?:=by simp
   rw[e0];generalize its.toList=l at h4
   cases h4 with
   |nil=>rfl
   |cons r1 r2=>exact⟨_,_,rfl,r1⟩
  |_=>simp[ft]at al
theorem rK(t:aD ds=true)(c:eN ds=true)(h1:.tuple (x::xs)∈ds)(h2:.tuple (y::ys)∈ds):rH x=rH y:=by
 have t1:=bp t h1;have t2:=bp t h2;simp[ay,aD]at t1 t2;have q:=fo c h1 h2;simp[cj,dH]at q;by_cases e:x=y
 ·rw[e]
 ·rw[bH t1.1 t2.1 e,if_neg #[6]]at q;cases x<;>cases y<;>first|rfl|trivial|rfl|rfl
theorem mQ:∀{fs:List (Option Value)} {ds:Vw},Paired (N3 h) fs ds->∀v∈fs.filterMap id,∃x xs bs,.tuple (x::xs)∈ds/\Reads h v x bs
 |_,_,.nil,v,hv=>by grind
 |_,_,.cons (a:=f) (l₁:=fs) (b:=d) r p,v,hv=>by
  cases d with
  |tuple ys=>
   cases ys with
   |nil=>obtain rfl:f=none:=r;obtain⟨x,xs,bs,m,q⟩:=mQ p v (by simp_all);exact⟨x,xs,bs,by simp[m],q⟩
   |cons y ys=>
    obtain⟨u,bs,rfl,q⟩:=r;rcases(show v=u\/some v∈fs by simp_all)with rfl|hv
    ·exact⟨y,ys,bs,by simp,q⟩
    ·obtain⟨x,xs,bs,m,q⟩:=mQ p v (by simpa using hv);exact⟨x,xs,bs,by simp[m],q⟩
  |_=>exact(show False from r).elim
theorem readsAll_len:∀{vs:Vy} {ds:Vw} {as:Vx},ReadsAll h vs ds as->vs.length=ds.length
 |_,_,_,.nil=>rfl
 |_,_,_,.cons _ t=>by simp[readsAll_len t]
theorem uo:∀{vs:Vy} {ds:Vw} {as:Vx},ReadsAll h vs ds as->ds.all ft=true->∀v∈vs,Looks M h (typeOf v) (.type "tuple")
 |_,_,_,.nil,_,v,hv=>by cases hv
 |_,_,_,.cons r1 r2,al,v,hv=>by
  simp only[List.all_cons,R4]at al;rcases Sf.mp hv with rfl|hv
  ·cases r1 with
   |tuple g1 g2 g3 g4=>exact um g1 g2
   |_=>grind[ft]
  ·exact uo r2 al.2 v hv
theorem DU(r:ReadsAll s.heap vs ds as)(al:ds.all ft=true)(t:aD ds=true)(c:eN ds=true)(h2:1<=vs.length)
 (h1:∀b,(b=true->∀x xs,.tuple (x::xs)∈ds->rH x≠2)->Q (tuples' b) s)(h3:Q general' s)(h4:Q oneType' s):wpAny M A (keyKind' vs.toArray) Q E s:=by
 rw[PyProof.Rows.kat_kind_eq,List.mapM_toArray,map_eq_pure_bind];refine R0 (R0 (rJ r al λfs hf=>R3 ?_));have hl:fs.length=ds.length:=Sr hf;have hl2:vs.length=ds.length:=readsAll_len r;split
 ·rename_i hall;refine R0 (TH ?_);have e:(fs.toArray.filterMap id)=(fs.filterMap id).toArray:=by simp
  rw[e];have hall':∀f∈fs,f.isSome=true:=by simpa using hall
  obtain⟨u,us,eu⟩:∃u us,fs.filterMap id=u::us:=by
   match fs,hl,hall' with
   | [],hl,_=>simp at hl;omega
   |none::_,_,ha=>have:=ha none (.head _);cases this
   |some x::r,_,_=>exact⟨x,r.filterMap id,by simp⟩
  obtain⟨x,xs,bs,mx,rx⟩:=mQ hf u (by rw[eu];simp);have tx:ay x=true:=by have:=bp t mx;simp only[ay,aD,R4]at this;exact this.1
  refine R0 (zi (T:=.type (FX (rH x))) (by rw[eu];simp) (λv hv=>?_) #[6] ?_)
  ·obtain⟨y,ys,bs,my,ry⟩:=mQ hf v hv;have ty:ay y=true:=by have:=bp t my;simp only[ay,aD,R4]at this;exact this.1
   rw[rK t c mx my];exact DR ry ty
  ·refine R3 (h1 _ λhb y ys my=>?_);rw[<- rK t c mx my];intro z;rw[z]at hb;exact absurd hb #[4]
 ·split
  ·exact R3 h3
  ·refine R0 (zi (T:=.type "tuple") h2 (λv hv=>?_) #[5] ?_)
   ·exact uo r al v hv
   ·exact R3 h4
theorem zt:∀{us vs:Vy} {xs ys:Vw} {as bs:Vx} (i:Nat) (fin k:Bool),ReadsAll s.heap us xs as->ReadsAll s.heap vs ys bs->aD xs=true->aD ys=true->PyData.canLayAll0 xs=true->PyData.canLayAll0 ys=true ->
  A.units+min (PyData.depthAll xs) (PyData.depthAll ys)<cLine->fin=decide (xs.length<ys.length)->(b=true->i=0->∀x∈xs.head?,rH x≠2)->dH xs ys=some k->Q k s->KatLex P w A b fin Q (us.zip vs) i s:=by
 intro us vs xs
 induction xs generalizing us vs with
 |nil=>
  intro ys as bs i fin k r q _ _ _ _ _ e _ h z;subst e;cases r
  cases q with
  |nil=>simp[dH]at h;subst h;exact PySem.W.kat_nil z
  |cons=>simp[dH]at h;subst h;exact PySem.W.kat_nil (by simpa using z)
 |cons x xs ih=>
  intro ys as bs i fin k r qq t1 t2 l1 l2 hu e hb h q
  cases r with
  |cons r1 r2=>cases qq with
   |nil=>subst e;simp[dH]at h;subst h;exact PySem.W.kat_nil (by simpa using q)
   | @cons _ _ y ys _ _ q1 q2=>
    rw[TM];refine PySem.W.kat_cons ?_;simp only[aD,PyData.canLayAll0,R4]at t1 t2 l1 l2;simp only[PyData.depthAll]at hu;refine SeqAt.eqAt_reads x y A s _ _ _ _ r1 q1 l1.1 l2.1 #[3] P w _ _ ?_;simp only[dH]at h
    cases hq:PyData.eqv x y with
    |true=>rw[hq,if_pos rfl]at h;exact PySem.W.kat_yes (ih (i+1) fin k r2 q2 t1.2 t2.2 l1.2 l2.2 #[3] (by rw[e];simp) (λ_ z=>by omega) h q)
    |false=>
     rw[hq,if_neg #[6]]at h;refine PySem.W.kat_no ?_;have fin2:wpAny (model P w) A (oneLt' false _ _) Q (λ_ _=>False) s:=kat_one _ _ (pU x y A s _ _ _ _ k r1 q1 l1.1 l2.1 #[3] h P w (λ_ _=>False) _ q)
     cases hbi:(b&&i==0)with
     |false=>exact fin2
     |true=>
      simp only[R4,beq_iff_eq]at hbi;have kx:=hb hbi.1 hbi.2 x #[6]
      cases x with
      |int i1=>
       cases y with
       |int j1=>cases r1;cases q1;simp only[cj]at h;cases h;exact oneLt_int q
       |_=>simp[cj]at h
      |str i1=>
       cases y with
       |str j1=>cases r1;cases q1;simp only[cj,nZ]at h;cases h;exact oneLt_str q
       |_=>simp[cj]at h
      |_=>exact absurd rfl kx
theorem A2(hu:A.units+41<cLine)(rx:Reads s.heap x (.tuple xs) as)(ry:Reads s.heap y (.tuple ys) bs)(t1:aD xs=true)(t2:aD ys=true)(l1:PyData.canLayAll0 xs=true)(l2:PyData.canLayAll0 ys=true)
 (hd:PyData.depthAll xs<=20)(h:dH xs ys=some k)(κ:SortKind)(hκ:(∃b,κ=tuples' b/\(b=true->∀x∈xs.head?,rH x≠2))\/κ=general'\/κ=oneType')(q:Q k s):wpAny (model P w) A (keyLt' κ x y) Q (λ_ _=>False) s:=by
 have ex:=rx;have ey:=ry
 cases rx with
 |tuple g1 g2 g3 g4=>
  rename_i o1 i1 n1
  cases ry with
  |tuple k1 k2 k3 k4=>
   rename_i o2 i2 n2;rcases hκ with⟨b,rfl,hb⟩|rfl|rfl
   ·refine kat_lt g1 g3 k1 k3 (zt 0 _ k g4 k4 t1 t2 l1 l2 #[3] ?_ (λhb' _=>hb hb') h q);have z1:=readsAll_len g4;have z2:=readsAll_len k4
    grind
   ·show wpAny (model P w) A (oneLt' false _ _) Q _ s;exact kat_one _ _ (pU (.tuple xs) (.tuple ys) A s _ _ _ _ k ex ey (by simpa [PyData.canLay0]using l1) (by simpa [PyData.canLay0]using l2) (by simp only[PyData.depth];omega) (by simpa [cj]using h) P w (λ_ _=>False) _ q)
   ·rw[keyLt'_oneType,oneLt'_eq];simp only[Tr];refine R0 (wpAny_cRoomFor #[3] ?_);obtain⟨c1,d1,e1,sl1⟩:=o1;obtain⟨c2,d2,e2,sl2⟩:=o2;cases g2;cases g3;cases k2;cases k3;refine R0 (wpAny_callSpecialIfBound?_slot ⟨_,g1,rfl⟩ U1 (Um U1 ⟨_,g1,rfl⟩ PySem.F.entry_tuple_lt (PySem.F.args_tuple_lt_2 _ _) (SeqAt.pT _ _ _ _ n1 n2 d1 d2 sl1 sl2 k) ⟨g1,k1,qO xs ys _ s _ _ _ _ k g4 k4 l1 l2 (by show A.units+1+_<_;omega) h,?_⟩));exact S0 q
theorem qP:∀{vs:Vy} {ds:Vw} {as:Vx} (i:Nat),ReadsAll h vs ds as->i<vs.length->∃bs,Reads h (vs.getD i .none) (ds.getD i .none) bs
 |_,_,_,i,.nil,hi=>by grind
 |_,_,_,0,.cons r1 _,_=>⟨_,r1⟩
 |_,_,_,i+1,.cons _ r2,hi=>by simpa using qP i r2 (by simp_all)
theorem getD_mem{α:Type}{xs:List α}{d:α}(h:i<xs.length):xs.getD i d∈xs:=by simp[h]
theorem uq:∀{ds:Vw} {d:PyData},PyData.canLayAll0 ds=true->d∈ds->d.canLay0=true
 |_::_,d,h,m=>by
  simp[PyData.canLayAll0]at h;rcases Sf.mp m with rfl|m
  ·grind
  ·exact uq h.2 m
theorem ur:∀{ds:Vw} {d:PyData},d∈ds->d.depth<=PyData.depthAll ds
 |_::_,d,m=>by
  rcases Sf.mp m with rfl|m
  ·exact Nat.le_max_left _ _
  ·exact Sd (ur m) (Nat.le_max_right _ _)
theorem DV(hu:A.units+41<cLine)(r:ReadsAll s.heap vs ds as)(al:ds.all ft=true)(t:aD ds=true)(c:eN ds=true)(l:PyData.canLayAll0 ds=true)(hd:PyData.depthAll ds<=20)(h2:1<=vs.length) :
  Fg P w A vs (λi j=>ltB (ds.getD i .none) (ds.getD j .none)) s:=by
 have hlen:=readsAll_len r
 have tup:∀{i:Nat},i<vs.length->∃xs bs,ds.getD i .none=.tuple xs/\.tuple xs∈ds/\Reads s.heap (vs.getD i .none) (.tuple xs) bs:=λ{i} hi=>by
  obtain⟨bs,q⟩:=qP i r hi;have m:ds.getD i .none∈ds:=getD_mem #[3];have a:=Sh.mp al _ m
  cases e:ds.getD i .none with
  |tuple xs=>grind
  |_=>rw[e]at a;simp[ft]at a
 have key:∀κ,((∃b,κ=tuples' b/\(b=true->∀x xs,.tuple (x::xs)∈ds->rH x≠2))\/κ=general'\/κ=oneType')->s=s/\∀i j C,i<vs.length->j<vs.length->C (ltB (ds.getD i .none) (ds.getD j .none)) s ->
   wpAny (model P w) A (keyLt' κ (vs.getD i Value.none) (vs.getD j Value.none)) C (λ_ _=>False) s:=λκ hκ=>⟨rfl,λi j C hi hj hC=>by
  obtain⟨xs,b1,e1,m1,q1⟩:=tup hi;obtain⟨ys,b2,e2,m2,q2⟩:=tup hj;have cc:=fo c m1 m2;have d1:=ur m1;have l1:=uq l m1;have l2:=uq l m2;have t1:=bp t m1;have t2:=bp t m2;simp only[PyData.depth]at d1;simp only[PyData.canLay0]at l1 l2;simp only[ay]at t1 t2;rw[e1,e2]at hC;refine A2 hu q1 q2 t1 t2 l1 l2 #[3] (by simpa [cj]using cc) κ ?_ hC;rcases hκ with⟨b,rfl,hb⟩|h|h
  ·refine .inl ⟨b,rfl,λhb' x hx=>?_⟩
   cases xs with
   |nil=>simp at hx
   |cons z zs=>simp at hx;subst hx;exact hb hb' z zs m1
  ·exact .inr (.inl h)
  ·exact .inr (.inr h)⟩
 exact DU r al t c h2 (λb hb=>key _ (.inl ⟨b,rfl,hb⟩)) (key _ (.inr (.inl rfl))) (key _ (.inr (.inr rfl)))
end
end Ml
namespace Ml
open PySem PySem.Spec L2
section
variable {X:Cx} {E:XK} {k:Nat} {θ:Vx} {hm:Hm} {H:Hp}
theorem pV(w:W G θ hm H)(r:bU G θ H x v)(e:listOf x hm=some ds):∃a vs,v=.ref a/\H a=some (.lst vs)/\bg (view θ H) ds vs/\cQ ds=true:=by
 unfold listOf at e;split at e
 ·cases e;obtain⟨⟨a,vs,rfl,ha,rr⟩,so⟩:=r;exact⟨a,vs,rfl,aC _ _ _ _ ha,rr,by assumption⟩
 ·obtain⟨a,ha,rfl⟩:=r;split at e
  ·rename_i ys hy;obtain⟨vs,hv,rs⟩:=w.obj _ _ _ ha hy;obtain⟨h1,h2⟩:=pP rs e
   simp_all
  grind
 grind
theorem DX(r:ReadsAll s.heap vs ds as)(al:ds.all uc=true)(h2:2<=vs.length):PySem.W.Fg P w A vs (λi j=>ltB (ds.getD i .none) (ds.getD j .none)) s:=by
 have hlen:=readsAll_len r
 have tup:∀{i:Nat},i<vs.length->∃x tk,ds.getD i .none=.str x/\vs.getD i .none=.str x tk:=λ{i} hi=>by
  obtain⟨bs,q⟩:=qP i r hi;have m:ds.getD i .none∈ds:=getD_mem #[3];have a:=Sh.mp al _ m
  cases e:ds.getD i .none with
  |str x=>rw[e]at q;generalize vs.getD i .none=z at q;cases q;exact⟨x,_,rfl,rfl⟩
  |_=>rw[e]at a;simp[uc]at a
 refine PySem.W.kas_kind h2 (T:=.type "str") (λv hv=>?_) #[4] #[4] ⟨rfl,λi j C hi hj hC=>?_⟩
 ·obtain⟨i,hi,e⟩:=S9.mp hv;obtain⟨x,tk,_,e2⟩:=tup hi;have:vs.getD i .none=v:=by simp[hi,e]
  rw[this]at e2;subst e2;exact .now
 ·obtain⟨x,t1,e1,f1⟩:=tup hi;obtain⟨y,t2,e2,f2⟩:=tup hj;rw[f1,f2,PyProof.Rows.keyLt'_oneType];simp only[e1,e2]at hC;exact PyProof.Rows.oneLt_str (by simpa [ltB,cj,nZ]using hC)
theorem Qg(o:Ord ltB ds):PySem.W.kT (λi j=>ltB (ds.getD i .none) (ds.getD j .none)) ds.length:=
 ⟨λa b ha hb h=>o.as (getD_mem ha) (getD_mem hb) h,λa b c ha hb hc h h'=>o.ntr (getD_mem ha) (getD_mem hb) (getD_mem hc) h h'⟩
theorem cu:∀{ds:Vw},cQ ds=true<->∀d∈ds,eR d=true
 | []=>by trivial
 |d::ds=>by simp[cQ,cu]
theorem wR(p:ds.Perm es)(h:cQ ds=true):cQ es=true:=cu.mpr λd m=>cu.mp h d (p.mem_iff.mpr m)
noncomputable def LX:List V->Hp->VK->Prop:=λxs H Q=>∃(a:Addr) (vs:List V) (M:Hp) (ds:Vw),xs=[.ref a]/\H a=some (.lst vs)/\aW M H/\bg M ds vs/\cQ ds=true/\lg ds=true /\
 ∀(p:Addr) (us:List V),H p=none->bg M (fF ltB ds) us->us.length<=sizeLine->Q (.ref p) (upd H p (.lst us))
theorem x8(hr:bZ k X.A):cX X (.builtin "sorted") LX:=by
 intro pins s σ H xs us Q I r h;obtain⟨a,vs,M,ds,rfl,ha,sm,rp,so,ok,q⟩:=h;simp only[lg,R4,Sv,U9]at ok;obtain⟨⟨⟨⟨kd,tr⟩,cm⟩,dp⟩,h64⟩:=ok
 cases r with
 |cons r rr=>
  cases rr;cases r;obtain⟨its,rv,pl,_⟩:=I.list (gF.of (K:=X.K) ha);have hlen:vs.length=ds.length:=rp.length;have hlen2:its.length=ds.length:=by grind[rv.length]
  obtain⟨as,ra⟩:=bg.reads I (rp.same sm) rv;have nd:PyData.hasDictAll ds=false:=jK tr;have la:=sZ so nd;have O:=Qg (mL cm tr);rw[<- hlen2]at O;refine PySem.W.tZ pl.isList O #[3] (λh' kp h2=>?_) λp hp hs=>?_
  ·have ra':ReadsAll h' its ds as:=PyProof.Rows.ReadsAll.keeps kp ra;rcases kd with kd|kd
   ·exact DX (s:={s with heap:=h'}) ra' kd h2
   ·exact DV (s:={s with heap:=h'}) (by have:=hr.un;show X.A.units+1+1+41<cLine;omega) ra' kd tr cm la dp #[3]
  ·have ge:#[9]<=#[9]+1:=Ui _;have nn:H (#[9]+1)=none:=I.hok.fresh ge;obtain⟨e,he⟩:=PyProof.Rows.sortedAll_at s.heap its (p.toList.map λi=>its.getD i Value.none).toArray;have hin:∀i∈p.toList,i<vs.length:=λi hi=>by have:=SM.mp (hp.perm.mem_iff.mp hi);omega
   have hlp:p.toList.length=ds.length:=by rw[hp.perm.length_eq,List.length_range,hlen2]
   have hz:(p.toList.map λi=>vs.getD i .non).length<=sizeLine:=by rw[Ss,hlp];exact Sd (Uy h64) #[4]
   refine⟨.ref _,_,I.laid (t':=s.toks) (o:=.lst (p.toList.map λi=>vs.getD i .non)) (λb o k=>PyProof.Rows.sortedAll_old k) ge ⟨hz,_,e,qC rv p.toList hin,by simpa [PyProof.Rows.seqObj]using he⟩,rfl,q _ _ nn ?_ hz⟩
   have e1:(p.toList.map λi=>ds.getD i .none)=fF ltB ds:=by
    refine FE cm tr ?_ ?_
    ·have:=hp.perm.map (λi=>ds.getD i .none);rw[hlen2,jH]at this;exact this
    ·unfold Up;rw[List.pairwise_map,TQ];intro i j hi hj hij;have e1:PySem.W.pat p i=p.toList[i]:=by simp only[Te]at hi;rw[PySem.W.qA,getElem?_pos p i hi];simp
     have e2:PySem.W.pat p j=p.toList[j]:=by simp only[Te]at hj;rw[PySem.W.qA,getElem?_pos p j hj];simp
     have:=hs i j hij (by rw[hlen2];omega);rw[e1,e2]at this;exact this
   rw[<- e1];exact qF rp .none p.toList hin
theorem uv(hr:bZ k X.A):o8 X E (.builtin "sorted") fG:=o8.of (x8 hr) λθ hm H ds xs Q w r p=>by
 unfold fG at p;split at p
 ·cases r with
  |cons r rr=>
   cases rr;split at p
   ·rename_i ys hy;split at p
    ·rename_i ok;obtain⟨a,vs,rfl,ha,rp,so⟩:=pV w r hy;refine⟨a,vs,view θ H,ys,rfl,ha,aC _ _,rp,so,ok,λq us hq ru hz=>?_⟩;obtain⟨e1,w1,g⟩:=w.put hq;refine p _ _ e1 w1 _ ⟨⟨q,us,rfl,g,ru.same e1.same⟩,?_⟩;exact wR (b8 _ _).symm so
    ·trivial
   ·trivial
 ·trivial
end
section
variable {X:Cx} {E:XK} {k:Nat} {θ:Vx} {hm:Hm} {H:Hp} {m:ME} {t:MT} {e e1 e2:Expr} {pos:Pos}
theorem fh(r:bU G θ H (.str x) v):v=.str x/\PyData.strOk x=true:=⟨r.1,by simpa [eR]using r.2⟩
theorem x9(h:PyData.strOk x=true)(h':PyData.strOk y=true):PyData.strOk (x++y)=true:=by have e:(x++y).cps=x.cps++y.cps:=rfl;unfold PyData.strOk at h h' ⊢;simp[e,h,h']
theorem zu(w:W G θ hm H)(x:Ext H (view θ H) H' M'):Ev θ H θ H'/\W G θ hm H'/\aW M' (view θ H'):=by
 obtain⟨e1,w1⟩:=w.grow x.sh;refine⟨e1,w1,λc o q=>?_⟩
 have nb:c∉θ:=λz=>by
  obtain⟨i,hi,ei⟩:=S9.mp z;have hl:i<hm.length:=by rw[<- w.len];exact hi
  have hn  := AY.some _ (w.obj i c hm[i] (by simp_all) (R9 hl));rw[x.old c hn]at q;exact(cM q).1 z
 rw[cZ nb];exact x.gs c o q
theorem eW:pO X E (binaryOp .Add) dG:=pO.of (iC.or KU (iC.or AA (iC.or Ij tL))) λθ hm H d1 d2 x y Q w r1 r2 p=>by
 unfold dG at p;split at p
 ·exact .inl ⟨_,_,bN r1,bN r2,p.js w (cq _)⟩
 ·split at p
  ·rename_i hz;obtain⟨e1,s1⟩:=fh r1;obtain⟨e2,s2⟩:=fh r2;exact .inr (.inl ⟨_,_,e1,e2,de hz,p.js w ⟨rfl,by simp only[eR];exact x9 s1 s2⟩⟩)
  ·exact p.elim
 ·split at p
  ·rename_i xs ys hz;refine .inr (.inr (.inl ⟨view θ H,xs,ys,aC _ _,r1.1,r2.1,de hz,λr H' M' ex rr=>?_⟩));obtain⟨e1,w1,sm⟩:=zu w ex;have s1:cQ xs=true:=by simpa [eR]using r1.2
   have s2:cQ ys=true:=by simpa [eR]using r2.2
   refine p _ _ e1 w1 _ ⟨rr.same sm,?_⟩;simp only[eR]
   exact cu.mpr λd m=>by
    rcases Sw.mp m with m|m
    ·exact cu.mp s1 d m
    ·exact cu.mp s2 d m
  ·exact p.elim
 ·split at p
  ·rename_i xs ys hz;have s1:cQ xs=true:=by simpa [eR]using r1.2
   have s2:cQ ys=true:=by simpa [eR]using r2.2
   obtain⟨a,us,rfl,ha,q1,_⟩:=gk r1;obtain⟨b,ws,rfl,hb,q2,_⟩:=gk r2;refine .inr (.inr (.inr ⟨a,b,us,ws,rfl,rfl,aC _ _ _ _ ha,aC _ _ _ _ hb,by rw[q1.length,q2.length];exact de hz,λq hq=>?_⟩));obtain⟨e1,w1,g⟩:=w.put (o:=.lst (us++ws)) hq;refine p _ _ e1 w1 _ ⟨⟨q,_,rfl,g,(q1.append q2).same e1.same⟩,?_⟩;simp only[eR]
   exact cu.mpr λd m=>by
    rcases Sw.mp m with m|m
    ·exact cu.mp s1 d m
    ·exact cu.mp s2 d m
  ·exact p.elim
 ·exact p.elim
theorem wU(r:bg M ds vs):∀n:Nat,bg M (List.replicate n ds).flatten (List.replicate n vs).flatten
 |0=>rfl
 |n+1=>r.append (wU r n)
theorem kD:pO X E (binaryOp .Mult) fR:=pO.of (iC.or KY Lc) λθ hm H d1 d2 x y Q w r1 r2 p=>by
 unfold fR at p;split at p
 ·split at p
  ·rename_i hc;refine .inl ⟨_,_,bN r1,bN r2,?_,p.js w (cq _)⟩;simp only[t6,U9,R4,Sv]at hc;exact hc
  ·exact p.elim
 ·split at p
  ·rename_i xs j hc;simp only[R4,Sv]at hc;have s1:cQ xs=true:=by simpa [eR]using r1.2
   obtain⟨a,us,rfl,ha,q1,_⟩:=gk r1;refine .inr ⟨a,j,us,rfl,bN r2,aC _ _ _ _ ha,hc.1.2,hc.2,by rw[q1.length];exact de hc.1.1,λq hq=>?_⟩;obtain⟨e1,w1,g⟩:=w.put (o:=.lst (List.replicate j.toNat us).flatten) hq;refine p _ _ e1 w1 _ ⟨⟨q,_,rfl,g,(wU q1 _).same e1.same⟩,?_⟩;simp only[eR];exact cu.mpr λd m=>by obtain⟨l,hl,hd⟩:=List.mem_flatten.mp m;rw[(List.mem_replicate.mp hl).2]at hd;exact cu.mp s1 d hd
  ·exact p.elim
 ·exact p.elim
theorem ya(f:α->β)(xs:List α)(i:Int):kL (xs.map f) i=(kL xs i).map f:=by
 unfold kL;rw[Ss]
 cases wt xs.length i with
 |none=>rfl
 |some j=>simp
theorem yb(r:aV G θ H ds vs)(e:kL ds i=some d):∃v,L2.kL vs i=some v/\bU G θ H d v:=by
 have hl  := Sr r;unfold L2.kL;rw[<- hl]
 change (wt ds.length i).bind _=_ at e
 show ∃v,(wt ds.length i).bind _=some v/\_
 cases hj:wt ds.length i with
 |none=>grind
 |some j=>rw[hj]at e;exact aV.some r e
theorem FY:M3 X (LJ X.G E DJ):=by
 rintro value slice pins s σ H x y v u Q I rx ry ⟨θ,h,d1,d2,w,r1,r2,p⟩ hs;unfold DJ at p;split at p
 ·rename_i i;have ey:=bN r2;split at p
  ·rename_i ds;split at p
   ·rename_i d he;obtain⟨a,us,rfl,ha,q1,q2⟩:=gj r1;obtain⟨z,e1,rz⟩:=yb (i:=i) (d:=.dat d) q2 (by rw[ya,he];rfl);exact K9 value slice pins s σ H _ y v u Q I rx ry ⟨a,us,i,z,rfl,ey,fW.of (aC _ _ _ _ ha),e1,p.js w rz⟩ hs
   ·exact p.elim
  ·rename_i ds;split at p
   ·rename_i d he;obtain⟨a,us,rfl,ha,q1,q2⟩:=gk r1;obtain⟨z,e1,rz⟩:=yb (i:=i) (d:=.dat d) q2 (by rw[ya,he];rfl);exact mK value slice pins s σ H _ y v u Q I rx ry ⟨a,us,i,z,rfl,ey,gF.of (aC _ _ _ _ ha),e1,p.js w rz⟩ hs
   ·exact p.elim
  ·rename_i j;split at p
   ·rename_i xs hx;split at p
    ·rename_i d he;obtain⟨a,ha,rfl⟩:=r1;obtain⟨vs,hv,rs⟩:=w.obj _ _ _ ha hx;obtain⟨z,e1,rz⟩:=yb rs he;exact mK value slice pins s σ H _ y v u Q I rx ry ⟨a,vs,i,z,rfl,ey,gF.of hv,e1,p.js w rz⟩ hs
    ·exact p.elim
   ·exact p.elim
  ·rename_i ns;split at p
   ·rename_i n he;obtain⟨a,rfl,hq⟩:=r1;have e1:L2.kL (ns.map V.int) i=some (.int n):=by have:=ya V.int ns i;rw[he]at this;exact this
    exact mK value slice pins s σ H _ y v u Q I rx ry ⟨a,_,i,_,rfl,ey,(aC _ _).seq hq,e1,p.js w (cq _)⟩ hs
   ·exact p.elim
  ·exact p.elim
 ·exact p.elim
noncomputable def lO(G:Gx)(E:XK)(m:LF):TO:=λσ H Q=>∃θ h ρ,W G θ h H/\Fr G θ H ρ σ/\aE G (qJ G E) θ H (m ρ h) (λo _ _ H'=>Q o H')
@[irreducible] noncomputable def DO(X:Cx)(E:XK)(m:LF)(e:Option Expr):Prop:=PO X e (lO X.G E m)
theorem Ck(X:Cx)(E:XK)(m:LF)(e:Option Expr):DO X E m e=(PO X e (lO X.G E m)):=by
 grind[DO]
theorem PO.imp{e:Option Expr}{t t':TO}(h:PO X e t)(k:∀σ H Q,t' σ H Q->t σ H Q):PO X e t':=λpins s σ H Q I q=>h pins s σ H Q I (k _ _ _ q)
theorem jO:DO X E kC none:=by simp[Ck]at *;exact PO.imp HF (by rintro σ H Q ⟨θ,h,ρ,w,fr,p⟩;exact p θ H Ev.refl w)
theorem gm(h:DE X E m e):DO X E (ik m) (some e):=by
 simp[bC,Ck]at *
 exact PO.imp (HG h) (by rintro σ H Q ⟨θ,h,ρ,w,fr,p⟩;exact⟨θ,h,ρ,w,fr,(aE.bind p).mono (by
  rintro d θ1 h1 H1 _ _ ⟨ev,w1,p1⟩ v r;split at p1
  ·exact⟨_,bN r,p1 θ1 H1 Ev.refl w1⟩
  ·trivial)⟩)
theorem IB(r:bg M ds vs)(lo hi:Option Int):bg M (cut ds lo hi) (yX vs lo hi):=by unfold cut yX;have e  := r.length;rw[e];exact(r.drop _).take _
theorem IC(h:x∈cut xs lo hi):x∈xs:=List.mem_of_mem_drop (U4 h)
theorem zv(h:cQ ds=true)(lo hi:Option Int):cQ (cut ds lo hi)=true:=cu.mpr λd m=>cu.mp h d (IC m)
noncomputable def Qh(G:Gx)(E:XK):V->Option Int->Option Int->Hp->VK->Prop:=λx lo hi H Q=>∃θ h d,W G θ h H/\bU G θ H d x/\aE G (qJ G E) θ H (NT d lo hi h) (KV G Q)
theorem ID:NB X (Qh X.G E):=by
 rintro pins s σ H x v vl vu lo hi sl Q I rx hs pl pu ⟨θ,h,d,w,r,p⟩;unfold NT at p;split at p
 ·rename_i ds;refine Ik pins s σ H x v vl vu lo hi sl Q I rx hs pl pu ⟨view θ H,ds,aC _ _,r.1,λr' H' M' ex rr=>?_⟩;obtain⟨e1,w1,sm⟩:=zu w ex;exact p _ _ e1 w1 _ ⟨rr.same sm,by simp only[eR];exact zv (by simpa [eR]using r.2) lo hi⟩
 ·rename_i ds;have so:cQ ds=true:=by simpa [eR]using r.2
  obtain⟨a,us,rfl,ha,q1,q2⟩:=gk r;refine HI pins s σ H _ v vl vu lo hi sl Q I rx hs pl pu ⟨a,us,rfl,gF.of (aC _ _ _ _ ha),λq hq=>?_⟩;obtain⟨e1,w1,g⟩:=w.put (o:=.lst (yX us lo hi)) hq;exact p _ _ e1 w1 _ ⟨⟨q,_,rfl,g,(IB q1 lo hi).same e1.same⟩,by simp only[eR];exact zv so lo hi⟩
 ·exact p.elim
theorem gy(he:DE X E m e)(hl:DO X E ml lo)(hu:DO X E mh hi):DE X E (DK m ml mh) (.Subscript e (.Slice lo hi none p2) pos):=by simp[bC,Ck]at *;exact PE.imp (EO ID he hl hu) (by rintro σ H Q ⟨θ,h,ρ,w,fr,p⟩;exact⟨θ,h,ρ,w,fr,(aE.bind p).mono (by rintro d θ1 h1 H1 _ _ ⟨ev,w1,p1⟩ v r;exact⟨θ1,h1,ρ,w1,fr.ev ev,(aE.bind p1).mono (by rintro l θ2 h2 H2 _ _ ⟨ev2,w2,p2⟩;exact⟨θ2,h2,ρ,w2,(fr.ev ev).ev ev2,(aE.bind p2).mono (by rintro u θ3 h3 H3 _ _ ⟨ev3,w3,p3⟩;exact⟨θ3,h3,d,w3,(r.ev ev2).ev ev3,p3⟩)⟩)⟩)⟩)
theorem lr:o8 X E (.builtin "len") gH:=o8.of EK λθ hm H ds xs Q w r p=>by
 unfold gH at p;split at p
 ·split at p
  ·rename_i hz
   cases r with
   |cons r rr=>cases rr;exact⟨_,_,rfl,by rw[(fh r).1];exact⟨de hz,rfl⟩,p.js w (cq _)⟩
  ·exact p.elim
 ·cases r with
  |cons r rr=>cases rr;obtain⟨a,us,rfl,ha,q1,_⟩:=gj r;exact⟨_,_,rfl,.inr ⟨us,fW.of (aC _ _ _ _ ha),q1.length.symm⟩,p.js w (cq _)⟩
 ·cases r with
  |cons r rr=>cases rr;obtain⟨a,us,rfl,ha,q1,_⟩:=gk r;exact⟨_,_,rfl,.inl ⟨us,gF.of (aC _ _ _ _ ha),q1.length.symm⟩,p.js w (cq _)⟩
 ·rename_i i;split at p
  ·rename_i ys hy
   cases r with
   |cons r rr=>cases rr;obtain⟨a,ha,rfl⟩:=r;obtain⟨vs,hv,rs⟩:=w.obj _ _ _ ha hy;exact⟨_,_,rfl,.inl ⟨vs,gF.of hv,Sr rs⟩,p.js w (cq _)⟩
  ·exact p.elim
 ·rename_i ns
  cases r with
  |cons r rr=>cases rr;obtain⟨a,rfl,hq⟩:=r;exact⟨_,_,rfl,.inl ⟨_,(aC _ _).seq hq,by simp⟩,p.js w (cq _)⟩
 ·exact p.elim
theorem oB:∀{ds:Vw} {vs:List V} {bs:List Bool},bg M ds vs->bools ds=some bs->vs=bs.map V.bl
 | [],_,bs,h,e=>by cases h;cases e;rfl
 |d::ds,_,bs,⟨v,vs,rfl,r,rs⟩,e=>by
  cases d with
  |bool b=>simp[bools]at e;obtain⟨bs',e1,e2⟩:=e;subst e2;rw[oB rs e1,r];rfl
  |_=>trivial
theorem nC(hc:X.calm=true):o8 X E (.builtin "all") kM:=o8.of (EZ hc) λθ hm H ds xs Q w r p=>by
 unfold kM at p;split at p
 ·split at p
  ·rename_i bs hb
   cases r with
   |cons r rr=>cases rr;obtain⟨a,us,rfl,ha,q1,_⟩:=gk r;rw[oB q1 hb]at ha;exact⟨a,bs,rfl,gF.of (aC _ _ _ _ ha),p.js w (cC _)⟩
  ·trivial
 ·trivial
end
end Ml
namespace L2
open PySem PySem.Spec PyProof.Rows
section
variable {X:Cx}
theorem any_range(bs:List Bool):((List.range bs.length).any λi=>(bs[i]?).getD true)=bs.any id:=by
 rw[TZ,Ta,Ta];constructor
 ·rintro⟨i,hi,h⟩;have hi':=SM.mp hi;simp only[hi',R9,Uu]at h;exact⟨bs[i],Uv hi',h⟩
 ·rintro⟨b,hb,h⟩;obtain⟨i,hi,e⟩:=S9.mp hb;refine⟨i,SM.mpr hi,?_⟩;simp only[hi,R9,Uu,e];exact h
theorem FZ(hc:X.calm=true):cX X (.builtin "any") (λxs H Q=>∃(l:Addr) (bs:List Bool),xs=[.ref l]/\gF X.K H l (bs.map V.bl)/\Q (.bl (bs.any id)) H):=by
 intro pins s σ H vs us Q I r h;obtain⟨l,bs,rfl,hq,q⟩:=h
 cases r with
 |cons r rr=>
  cases rr;cases r;obtain⟨its,rv,p,_⟩:=I.list hq;have pl:=p.isList;have hlt:l<#[9]:=by obtain⟨_,e,_⟩:=pl;exact R7 e
  refine call_any_walk (wpAny_pyIter_list pl ?_);refine⟨#[9],[#[9],l],[#[9]],its.toArray.size,_,_,λi=>(bs[i]?).getD true,rfl,Walks.list (A:=X.A.in1) (I.ok.hd hc) _ l (Sg hlt) its.toArray,⟨⟨_,R8 _ rfl,rfl,rfl⟩,pl.push _⟩,λi v s' Q' E' hP hQ=>?_,λh' tk hk=>?_⟩
  ·have hP':its[i]?=some v:=by simpa using hP
   have hi:i<(bs.map V.bl).length:=by rw[rv.length];exact(R6.mp hP').1
   obtain⟨u,hu,ru⟩:=rv.get (i:=i) (x:=(bs.map V.bl)[i]) (by simp[hi]);rw[hP']at hu;cases hu;rw[Ss]at hi;simp only[List.getElem_map]at ru;obtain rfl:v=Value.bool bs[i]:=ru;have hQ':=hQ;simp only[hi,R9,Uu]at hQ';exact S0 hQ'
  ·have e:((List.range its.toArray.size).any λi=>(bs[i]?).getD true)=bs.any id:=by
    rw[Si,<- rv.length,Ss];exact any_range bs
   rw[e];exact⟨.bl _,H,I.kept λb o e=>hk b o (λhm=>by rw[SF.mp hm]at e;exact Sj _ (R7 e)) (R1 _ e),rfl,q⟩
end
end L2
namespace Ml
open PySem PySem.Spec L2
section
variable {X:Cx} {E:XK} {k:Nat} {θ:Vx} {hm:Hm} {H:Hp} {m:ME} {t:MT} {e e1 e2:Expr} {pos:Pos} {ma:MA}
theorem Kb(hc:X.calm=true):o8 X E (.builtin "any") sO:=o8.of (FZ hc) λθ hm H ds xs Q w r p=>by
 unfold sO at p;split at p
 ·split at p
  ·rename_i bs hb
   cases r with
   |cons r rr=>cases rr;obtain⟨a,us,rfl,ha,q1,_⟩:=gk r;rw[oB q1 hb]at ha;exact⟨a,bs,rfl,gF.of (aC _ _ _ _ ha),p.js w (cC _)⟩
  ·trivial
 ·trivial
theorem LY(kit:∀d,PySem.W.kitOne X.K (.type (NK d)) (.type n)=some (f d))(bt:bootBuiltins T=some (.type n))(m1:X.mg "isinstance" = none)(m2:X.mg T=none)(h:DE X E m e){p p2:Pos}(g1:Gl X "isinstance" := by rfl)(g2:Gl X T:=by rfl)(hT:T ≠ "__name__" := by decide)(hT2:(T==("__debug__" : Str))=false:=by decide)
 (hs:starEach [e,.Name T p2] X.env=(false,eval e X.env)::starEach [.Name T p2] X.env:=by rfl)(hs2:starEach [.Name T p2] X.env=[(false,eval (.Name T p2) X.env)]:=by rfl)(hpl:(backTo pos (starEach [.Name T p2] X.env)).any (·.1)=false:=by rfl):DE X E (wD (kX f) m) (.Call (.Name "isinstance" p) [e,.Name T p2] [] pos):=by
 simp only[bC]at *
 exact PE.imp (pf E2 g1 m1 iW (aZ h (aZ (BC (v:=.ty n) g2 m2 bt rfl hT hT2) dW hs2) hs) #[4] #[4] hs hpl) (by rintro σ H Q ⟨θ,h,ρ,w,fr,p⟩;exact⟨θ,h,ρ,w,fr,(aE.bind p).mono (by
   rintro d θ1 h1 H1 _ _ ⟨ev,w1,p1⟩ v r
   cases d with
   |dat d=>exact⟨v,n,_,f d,rfl,(r.1.same (aC _ _)).ty,kit d,p1.js w1 (cC _)⟩
   |_=>trivial)⟩)
theorem uw(x:Str):∀(l:List Nat),bg M (l.map λi=>.str ⟨#[x.cps.getD i 0]⟩) (l.map (sgn x))
 | []=>rfl
 |i::l=>.cons rfl (uw x l)
theorem F0(h:PyData.strOk x=true):cQ (dZ x)=true:=cu.mpr λd m=>by obtain⟨i,_,rfl⟩:=SA.mp m;exact xY h
theorem yc(hc:X.calm=true):o8 X E (.type "tuple") oh:=o8.of (cX.or vN (zg hc)) λθ hm H ds xs Q w r p=>by
 unfold oh at p;split at p
 ·cases r with
  |cons r rr=>cases rr;obtain⟨a,us,e,ha,q1,_⟩:=gj r;subst e;exact .inl ⟨a,us,rfl,.inr ⟨fW.of (aC _ _ _ _ ha),p.js w r⟩⟩
 ·split at p
  ·rename_i s hz
   cases r with
   |cons r rr=>cases rr;obtain⟨e1,s1⟩:=fh r;subst e1;refine .inr ⟨s,rfl,de hz,λq hq=>?_⟩;obtain⟨e1,w1,g⟩:=w.put (o:=.tup ((List.range s.cps.size).map (sgn s))) hq;exact p _ _ e1 w1 _ ⟨⟨q,_,rfl,g,uw s _⟩,by simp only[eR];exact F0 s1⟩
  ·exact p.elim
 ·split at p
  ·rename_i ds hy
   cases r with
   |cons r rr=>cases rr;obtain⟨a,vs,rfl,ha,rp,so⟩:=pV w r hy;refine .inl ⟨a,vs,rfl,.inl ⟨gF.of ha,λq hq=>?_⟩⟩;obtain⟨e1,w1,g⟩:=w.put (o:=.tup vs) hq;exact p _ _ e1 w1 _ ⟨⟨q,_,rfl,g,rp.same e1.same⟩,by simpa [eR]using so⟩
  ·exact p.elim
 ·exact p.elim
theorem yd:o8 X E (.type "list") i4:=o8.of xy λθ hm H ds xs Q w r p=>by
 unfold i4 at p;split at p
 ·cases r with
  |cons r rr=>cases rr;have so:=r.2;obtain⟨a,us,e,ha,q1,_⟩:=gj r;subst e;refine⟨a,us,rfl,.inr (fW.of (aC _ _ _ _ ha)),λq hq=>?_⟩;obtain⟨e1,w1,g⟩:=w.put (o:=.lst us) hq;exact p _ _ e1 w1 _ ⟨⟨q,_,rfl,g,q1.same e1.same⟩,by assumption⟩
 ·split at p
  ·rename_i ds hy
   cases r with
   |cons r rr=>cases rr;obtain⟨a,vs,rfl,ha,rp,so⟩:=pV w r hy;refine⟨a,vs,rfl,.inl (gF.of ha),λq hq=>?_⟩;obtain⟨e1,w1,g⟩:=w.put (o:=.lst vs) hq;exact p _ _ e1 w1 _ ⟨⟨q,_,rfl,g,rp.same e1.same⟩,by simpa [eR]using so⟩
  ·exact p.elim
 ·exact p.elim
theorem F1:o8 X E (.builtin "divmod") sY:=o8.of yV λθ hm H ds xs Q w r p=>by
 unfold sY at p;split at p
 ·split at p
  ·rename_i i j hj
   cases r with
   |cons r1 rr=>
    cases rr with
    |cons r2 rr=>cases rr;cases bN r1;cases bN r2;refine⟨i,j,rfl,hj,λq hq=>?_⟩;obtain⟨e1,w1,g⟩:=w.put hq;exact p _ _ e1 w1 _ ⟨⟨q,_,rfl,g,.cons rfl (.one rfl)⟩,by rfl⟩
  ·trivial
 ·trivial
theorem N4:o8 X E (.builtin "abs") Iq:=o8.of EJ λθ hm H ds xs Q w r p=>by
 unfold Iq at p;split at p
 ·cases r with
  |cons r1 rr=>cases rr;cases bN r1;exact⟨_,rfl,p.js w (cq _)⟩
 ·trivial
theorem N6(hc:X.calm=true):o8 X E (.builtin "max") Fy:=o8.of (C8 hc) λθ hm H ds xs Q w r p=>by
 unfold Fy at p;split at p
 ·cases r with
  |cons r1 rr=>
   cases rr with
   |cons r2 rr=>cases rr;cases bN r1;cases bN r2;exact⟨_,_,rfl,p.js w (cq _)⟩
 ·exact p.elim
theorem N7(hc:X.calm=true):o8 X E (.builtin "min") Fz:=o8.of (C9 hc) λθ hm H ds xs Q w r p=>by
 unfold Fz at p;split at p
 ·cases r with
  |cons r1 rr=>
   cases rr with
   |cons r2 rr=>cases rr;cases bN r1;cases bN r2;exact⟨_,_,rfl,p.js w (cq _)⟩
 ·trivial
theorem Kc:o8 X E (.type "int") xT:=o8.of Dc λθ hm H ds xs Q w r p=>by
 unfold xT at p;split at p
 ·cases r with
  |cons r1 rr=>cases rr;cases bN r1;exact .inl ⟨_,rfl,p.js w (cq _)⟩
 ·cases r with
  |cons r1 rr=>cases rr;obtain⟨e1,_⟩:=r1;cases e1;exact .inr ⟨_,rfl,p.js w (cq _)⟩
 ·trivial
theorem F2(hr:bZ k X.A):o8 X E (.builtin "repr") wJ:=by
 rintro pins s σ H xs us Q I r ⟨θ,h,ds,w,rs,p⟩;unfold wJ at p;split at p
 ·rename_i x
  cases rs with
  |cons r1 rr=>
   cases rr
   cases r with
   |cons rv rr=>
    cases rr;rename_i v u;split at p
    ·rename_i d hd;obtain⟨⟨as,z⟩,so⟩:=fH I w 3 r1 rv hd;split at p
     ·rename_i ok;have fin:∀(h':Heap) (tk:Tok) (t':Nat),(∀b o,s.heap.get? b=some o->h'.get? b=some o)->EP X pins σ Q (.str d.shown tk) {s with heap:=h',toks:=t'}:=λh' tk t' hk=>⟨.str d.shown,H,I.kept hk,⟨_,rfl⟩,p.js w rfl⟩;have fin0:∀(tk:Tok) (t':Nat),EP X pins σ Q (.str d.shown tk) {s with toks:=t'}:=λtk t'=>⟨.str d.shown,H,I.tok _,⟨_,rfl⟩,p.js w rfl⟩;simp only[U9]at ok;rcases ok with ok|ok
      rotate_left
      ·unfold Fx at ok;split at ok
       ·rename_i kvs;simp only[R4,Sv]at ok
        cases x with
        |dat d'=>simp only[wH,xR,T4]at hd;subst hd;exact AL hr pins s σ H [v] [u] Q I (.cons rv .nil) ⟨kvs,v,rfl,r1.1.same (aC _ _),ok.1.1,ok.1.2,de ok.2,p.js w rfl⟩
        |ref i=>
         simp only[wH,xQ]at hd;split at hd
         ·simp only[SI]at hd;obtain⟨_,_,z⟩:=hd;cases z
         ·cases hd
        |ktup xs=>simp[wH,xQ]at hd
        |_=>simp[wH,xQ]at hd
       ·cases ok
      have hsz:d.shown.length<=sizeLine/\d.showable=true/\d.depth<=40:=by simp only[zk,R4,Sv]at ok;exact⟨de ok.2,ok.1.1.1,ok.1.2⟩
      have hn:∀{as:Vx},(d.hasDict=true->sysModules∉as):=λ{as} hd=>by simp only[zk,noDict,R4,T5]at ok;rw[ok.1.1.2]at hd;cases hd
      cases z with
      |none=>exact PySem.P.repr_of_none (by simpa [PyData.shown]using fin0 _ _)
      |bool b=>exact PySem.P.repr_of_bool (by simpa [PyData.shown]using fin0 _ _)
      |int i t=>exact PySem.P.repr_of_int (by simpa [PyData.showable]using hsz.2.1) (by simpa [PyData.shown]using fin0 _ _)
      |str x t=>exact PySem.P.repr_of_str (by simpa [PyData.shown]using fin0 _ _) (by simpa [PyData.shown]using hsz.1)
      |list h1 h2 h3 h4=>exact Vf (.list h1 h2 h3 h4) hsz.2.1 hn hr.gd (by have:=hr.units;omega) (λ_ _ e=>e) (λh' t tk hk=>fin h' t tk hk) hsz.1
      |tuple h1 h2 h3 h4=>exact Vf (.tuple h1 h2 h3 h4) hsz.2.1 hn hr.gd (by have:=hr.units;omega) (λ_ _ e=>e) (λh' t tk hk=>fin h' t tk hk) hsz.1
      |dict h1 h2 h3 h4 h5=>exact Vf (.dict h1 h2 h3 h4 h5) hsz.2.1 hn hr.gd (by have:=hr.units;omega) (λ_ _ e=>e) (λh' t tk hk=>fin h' t tk hk) hsz.1
     ·exact p.elim
    ·exact p.elim
 ·exact p.elim
end
section
variable {X:Cx} {E:XK} {k:Nat} {θ:Vx} {hm:Hm} {H:Hp} {m ma' mb:ME} {t:MT} {e e1 e2 o i:Expr} {es:VB} {pos:Pos} {ma:MA} {x:Str}
theorem cR(n:Nat)(h:Lit n e d)(s:eR d=true):DE X E (aj d) e:=by
 simp[bC]at *
 exact PE.imp (E5 n h) (by
   rintro σ H Q ⟨θ,hm,ρ,w,fr,p⟩ r H' N s1 nw rp;obtain⟨e1,w1⟩:=w.grow s1;refine p _ _ e1 w1 _ ⟨rp.same λc o q=>?_,s⟩;have nb  := w.Cc (nw c o q).1;rw[cZ nb]
   exact(nw c o q).2)
theorem Cm{p:Pos}(hm:∃t,X.mg x=some (.int n t))(hg:Gl X x:=by rfl)(hd:(x==("__debug__" : Str))=false:=by decide):DE X E (aj (.int n)) (.Name x p):=by obtain⟨t,hm⟩:=hm;exact FI (sV (v:=.int n) hg hm ⟨t,rfl⟩ hd) (λ_=>rfl) #[5]
noncomputable def Q9(xs:Vw):ME:=λ_ h=>.ok (.ktup xs) h
theorem IE{p:Pos}(hm:∃a,X.mg x=some (.ref a)/\FG X.K a xs)(hg:Gl X x:=by rfl)(hd:(x==("__debug__" : Str))=false:=by decide):DE X E (Q9 xs) (.Name x p):=by simp only[bC]at *;obtain⟨a,hm,kt⟩:=hm;exact PE.imp (sV (v:=.ref a) hg hm rfl hd) (by rintro σ H Q ⟨θ,hm,ρ,w,fr,p⟩;exact p.js w ⟨a,rfl,kt⟩)
theorem IF(kt:FG G.K a xs):rG G θ H (xs.map D.dat) (OS G.K a):=λθ' h' H' ev w=>by
 obtain⟨⟨o,its,n,hl,hc,hd,hz,rv⟩,fl,so⟩:=kt;have q:fW G.K H' a _:=.inr ⟨o,its,n,hl,hc,hd,hz,rv⟩;refine⟨λi d e=>?_,⟨_,q,by simp⟩⟩;rw[SD,SI]at e;obtain⟨y,ey,rfl⟩:=e;refine⟨⟨_,LH y,q,by simp[ey]⟩,λx H2 ⟨e2,z⟩=>?_⟩;subst e2;have:=z _ q;rw[SD,ey]at this;cases this;have hy:=fl y (SJ ey);refine⟨Ev.refl,w,?_,pR so ey⟩
 cases y with
 |none=>rfl
 |bool b=>rfl
 |int i=>rfl
 |str x=>rfl
 |_=>simp at hy
noncomputable def N8(e:ME):MA:=λρ h=>(e ρ h).bind λx h1=>match x with
 |.ktup xs=>.ok (xs.map D.dat) h1
 |_=>.bad
theorem IG(h:DE X E m e):DI X E (N8 m) tg e:=by
 simp[bC,lq]at *
 exact PI.imp (EB h) (by rintro σ H R ⟨θ,h,ρ,w,fr,p⟩;exact⟨θ,h,ρ,w,fr,(aE.bind p).mono (by
   rintro d θ1 h1 H1 _ _ ⟨ev,w1,p1⟩ v r
   cases d with
   |ktup xs=>obtain⟨a,e,kt⟩:=r;exact⟨a,e,⟨_,.inr kt.1⟩,p1 θ1 H1 Ev.refl w1 _ (IF kt)⟩
   |_=>trivial)⟩)
noncomputable def M5(x:D)(h:Hm):Bool:=match x with
 |.ref j=>match h[j]? with
  |some (.lst _)=>true
  |_=>false
 |_=>false
noncomputable def pW(f:D->D->Hm->R D)(a b:ME):ME:=λρ h=>(a ρ h).bind λx h1=>if M5 x h1 then(b ρ h1).bind λy h2=>f x y h2 else .bad
theorem IH{x:D}(e:M5 x h=true):∃j xs,x=.ref j/\h[j]?=some (.lst xs):=by
 unfold M5 at e;split at e
 ·split at e
  ·simp_all
  grind
 grind
theorem tj(w:W G θ hm H)(r:bU G θ H (.ref j) v)(e:hm[j]?=some (.lst xs)):∃a vs,v=.ref a/\θ[j]?=some a/\H a=some (.lst vs)/\aV G θ H xs vs:=by
 obtain⟨a,ha,rfl⟩:=r;obtain⟨vs,hv,rs⟩:=w.obj _ _ _ ha e
 simp_all
theorem aV.N9(q:bU G θ H d v):∀{xs:List D} {vs:List V} (n:Nat),aV G θ H xs vs->aV G θ H (xs.set n d) (vs.set n v)
 |_,_,_,.nil=>.nil
 |_,_,0,.cons _ t=>.cons q t
 |_,_,n+1,.cons r t=>.cons r (aV.N9 q n t)
theorem W.F3(w:W G θ hm H)(ha:θ[j]?=some a)(hl:j<hm.length)(r:aV G θ H xs vs):Ev θ H θ (upd H a (.lst vs))/\W G θ (hm.set j (.lst xs)) (upd H a (.lst vs)):=by
 have hmm  := SJ ha
 have e:Ev θ H θ (upd H a (.lst vs)):=⟨⟨[],by simp⟩,λb u q=>by
  obtain⟨h1,h2⟩:=cM q;have ne:b≠a:=λz=>by grind
  simp_all[cZ,au]⟩
 exact w.write ha hl ⟨vs,aG,r.ev e⟩
theorem mR{α:Type}{xs:List α}{i:Nat}{x:α}(h:xs[i]?=some x):i<xs.length:=(R6.mp h).1
theorem LZ(h:lE G E (pW f ma' mb) σ H Q)(k:∀θ h H d1 d2 x y,W G θ h H->bU G θ H d1 x->bU G θ H d2 y->aE G (qJ G E) θ H (f d1 d2 h) (KV G Q)->r x [y] H Q) :
  Q0 K "list" r (lE G E ma') (wj (lE G E mb) EL) σ H Q:=by
 obtain⟨θ,h,ρ,w,fr,p⟩:=h;refine⟨θ,h,ρ,w,fr,(aE.bind p).mono λd θ1 h1 H1 _ _ ⟨ev,w1,p1⟩ v r1=>?_⟩;split at p1
 ·rename_i hl;obtain⟨j,xs,rfl,hx⟩:=IH hl;obtain⟨a,vs,rfl,ha,hv,rs⟩:=tj w1 r1 hx;exact⟨.inl ⟨rfl,_,gF.of hv⟩,θ1,h1,ρ,w1,fr.ev ev,(aE.bind p1).mono (by rintro d2 θ2 h2 H2 _ _ ⟨ev2,w2,p2⟩ y r2;exact k θ2 h2 H2 _ d2 _ y w2 (r1.ev ev2) r2 p2)⟩
 ·trivial
theorem mS{apos cpos:Pos}(ho:DE X E ma' o)(ha:DE X E mb e)(hbase:attributeBase o "append" X.env (eval o X.env)=eval o X.env:=by rfl)
 (hfew:((backTo cpos (starEach [e] X.env)).all (λx=>!x.1)&&(backToKw cpos (keywordEach [] X.env)).all (λx=>x.1.isSome)&&decide ([e].length+([]:List Keyword).length+(if([]:List Keyword).isEmpty then 0 else 1)<30))=true:=by rfl)
 (hline:(apos.endLine==cpos.line)=true:=by rfl)(hs:starEach [e] X.env=(false,eval e X.env)::starEach [] X.env:=by rfl)(hplain:(backTo cpos (starEach [] X.env)).any (·.1)=false:=by rfl):DE X E (pW dU ma' mb) (.Call (.Attribute o "append" apos) [e] [] cpos):=by
 simp only[bC]at *
 exact PE.imp (ER UP PySem.F.slot_list_append PySem.F.type_list_append Di ho (aZ ha dW hs) hbase hfew hline hs hplain) λσ H Q q=>LZ q λθ h H d1 d2 x y w r1 r2 p=>by
   unfold dU at p;split at p
   ·rename_i j;split at p
    ·rename_i xs hx;split at p
     ·rename_i hz;obtain⟨a,vs,rfl,ha,hv,rs⟩:=tj w r1 hx;have hl:xs.length=vs.length:=Sr rs;obtain⟨e1,w1⟩:=w.F3 ha (mR hx) (eV rs (.cons r2 .nil));exact⟨a,vs,y,rfl,rfl,hv,by rw[<- hl,T6];exact Us hz,p _ _ e1 w1 _ DP⟩
     ·exact p.elim
    ·exact p.elim
   ·exact p.elim
theorem DY{x y v:V}(w:W G θ hm H)(r1:bU G θ H d1 x)(r2:bU G θ H d2 y)(rd:bU G θ H d v)(p:aE G F θ H (B6 d1 d2 d hm) (λ_ _ _ H'=>Q H')):J0 x y v H Q:=by
 cases d1 with
 |ref j=>
  cases d2 with
  |dat dd=>
   cases dd with
   |int kk=>
    simp only[B6]at p
    cases hx:hm[j]? with
    |none=>rw[hx]at p;exact p.elim
    |some oo=>
     rw[hx]at p
     cases oo with
     |lst xs=>
      simp only at p
      cases hn:wt xs.length kk with
      |none=>rw[hn]at p;exact p.elim
      |some n=>rw[hn]at p;obtain⟨a,vs,rfl,ha,hv,rs⟩:=tj w r1 hx;have hl:xs.length=vs.length:=Sr rs;obtain⟨e1,w3⟩:=w.F3 ha (mR hx) (aV.N9 rd n rs);exact⟨a,vs,kk,n,rfl,bN r2,hv,by rw[<- hl];exact hn,p _ _ e1 w3⟩
     |_=>exact p.elim
   |_=>exact p.elim
  |_=>exact p.elim
 |_=>exact p.elim
theorem Co{α β:Type}{xs:List α}{ys:List β}(h:xs.length=ys.length):(!xs.isEmpty)=!ys.isEmpty:=by
 grind
theorem ux(w:W G θ hm H)(r:bU G θ H d v)(e:truth d hm=some b):K5 G.K v H b:=by
 unfold truth at e;split at e
 ·cases e;cases r.1;rfl
 ·cases e;cases r.1;rfl
 ·cases e;cases r.1;rfl
 ·split at e
  ·rename_i hz;cases e;cases r.1;exact⟨de hz,rfl⟩
  grind
 ·cases e;obtain⟨a,us,rfl,ha,q1,_⟩:=gj r;exact .inr (.inl ⟨us,fW.of (aC _ _ _ _ ha),Co q1.length.symm⟩)
 ·cases e;obtain⟨a,us,rfl,ha,q1,_⟩:=gk r;exact .inl ⟨us,gF.of (aC _ _ _ _ ha),Co q1.length.symm⟩
 ·split at e
  ·rename_i xs hx;cases e;obtain⟨a,vs,rfl,ha,hv,rs⟩:=tj w r hx;refine .inl ⟨vs,gF.of hv,?_⟩;cases rs<;>rfl
  ·cases e
 grind
theorem br(h:DE X E m e)(he:∀whole,isTrue e X.env whole=(do let v <- whole;standAt e.pos;holding [v] (truthy v)):=by intro _;rfl):DT X E (aU m) e:=by
 simp[bC,jq]at *
 exact PT.imp (EI h he) (by rintro σ H Q ⟨θ,h,ρ,w,fr,p⟩;exact⟨θ,h,ρ,w,fr,(aE.bind p).mono (by
   rintro d θ1 h1 H1 _ _ ⟨ev,w1,p1⟩ v r;split at p1
   ·rename_i b hb;exact⟨b,ux w1 r hb,p1 θ1 H1 Ev.refl w1⟩
   ·trivial)⟩)
noncomputable def uy:D->Option PyData
 |.dat .none=>some .none
 |.dat (.bool b)=>some (.bool b)
 |_=>none
noncomputable def Qi:PyData->PyData->Bool
 |.none,.none=>true
 |.bool a,.bool b=>a==b
 |_,_=>false
noncomputable def oC(x y:D)(h:Hm):R D:=match uy y with
 |some e=>match x with
  |.dat d=>.ok (.bool !(Qi d e)) h
  |_=>.bad
 |none=>.bad
theorem L0{d e:PyData}(re:uy (.dat e)=some e)(r1:Rep M d v)(r2:Rep M e u)(ra:RelV v a)(rb:RelV u b):(a==b)=Qi d e/\PySem.plainIs a b=true:=by
 cases e with
 |none=>
  cases r2;cases rb
  cases d with
  |none=>cases r1;cases ra;exact⟨by decide,by decide⟩
  |bool c=>cases r1;cases ra;cases c<;>exact⟨by decide,by decide⟩
  |int c=>cases r1;obtain⟨t,rfl⟩:=ra;exact⟨rfl,rfl⟩
  |str c=>cases r1;obtain⟨t,rfl⟩:=ra;exact⟨rfl,rfl⟩
  |list c=>obtain⟨x,_,rfl,_⟩:=r1;cases ra;exact⟨rfl,rfl⟩
  |tuple c=>obtain⟨x,_,rfl,_⟩:=r1;cases ra;exact⟨rfl,rfl⟩
  |dict c=>obtain⟨x,_,rfl,_⟩:=r1;cases ra;exact⟨rfl,rfl⟩
 |bool f=>
  cases r2;cases rb
  cases d with
  |none=>cases r1;cases ra;cases f<;>exact⟨by decide,by decide⟩
  |bool c=>cases r1;cases ra;cases c<;>cases f<;>exact⟨by decide,by decide⟩
  |int c=>cases r1;obtain⟨t,rfl⟩:=ra;exact⟨rfl,rfl⟩
  |str c=>cases r1;obtain⟨t,rfl⟩:=ra;exact⟨rfl,rfl⟩
  |list c=>obtain⟨x,_,rfl,_⟩:=r1;cases ra;exact⟨rfl,rfl⟩
  |tuple c=>obtain⟨x,_,rfl,_⟩:=r1;cases ra;exact⟨rfl,rfl⟩
  |dict c=>obtain⟨x,_,rfl,_⟩:=r1;cases ra;exact⟨rfl,rfl⟩
 |_=>simp[uy]at re
theorem II:pO X E (compareOp .IsNot) oC:=by
 rintro pins s σ H x y v u Q I rx ry ⟨θ,h,d1,d2,w,r1,r2,p⟩;unfold oC at p;split at p
 ·rename_i e he;split at p
  ·have:d2=.dat e:=by unfold uy at he;split at he<;>cases he<;>rfl
   subst this;obtain⟨q1,q2⟩:=L0 he r1.1 r2.1 rx ry;exact PySem.wpAny_isNot_plain q2 (by rw[q1];exact⟨.bl _,H,I,rfl,p.js w (cC _)⟩)
  ·trivial
 ·trivial
theorem F4(hr:bZ k X.A){σ:L2.St}{x y:V}(I:#[10])(rx:RelV x v)(ry:RelV y u)(w:W X.G θ h H)(r1:bU X.G θ H d1 x)(r2:bU X.G θ H d2 y)(hb:gZ d1 d2 h=some b) :
  (Q (.bl b) H->wpAny #[12] X.A (compareOp .In v u) (EP X pins σ Q) X.xe s)/\(Q (.bl !b) H->wpAny #[12] X.A (compareOp .NotIn v u) (EP X pins σ Q) X.xe s):=by
 unfold gZ at hb;split at hb
 ·split at hb
  ·cases hb;exact⟨λq=>C7 pins s σ H x y v u Q I rx ry ⟨_,_,(fh r1).1,(fh r2).1,q⟩,λq=>xq pins s σ H x y v u Q I rx ry ⟨_,_,(fh r1).1,(fh r2).1,q⟩⟩
  grind
 ·split at hb
  ·rename_i d ds e1 e2;obtain⟨⟨as,z1⟩,s1⟩:=fH I w 3 r1 rx e1;obtain⟨⟨bs,z2⟩,s2⟩:=fH I w 3 r2 ry e2;exact FR hr (.inl rfl) I z1 z2 s1 (by assumption) hb
  ·rename_i d ds e1 e2;obtain⟨⟨as,z1⟩,s1⟩:=fH I w 3 r1 rx e1;obtain⟨⟨bs,z2⟩,s2⟩:=fH I w 3 r2 ry e2;exact FR hr (.inr rfl) I z1 z2 s1 (by simpa [eR]using s2) hb
  grind
end
end Ml
namespace PySem
open Sem (wp)
noncomputable def Heap.fi(h:Heap)(d:Addr)(es:VD)(ep:Nat):Prop:=∃o,h.get? d=some o/\o.ExactDict/\o.data=.dict es ep
theorem Heap.fi.typeIs{s:VI}(x:s.heap.fi d es ep):s.TypeIs (.ref d) "dict" := by obtain⟨o,ho,hc,_⟩:=x;exact⟨o,ho,hc.1⟩
theorem Heap.fi.at{h h':Heap}(x:h.fi d es ep)(e:∀o,h.get? d=some o->h'.get? d=some o):h'.fi d es ep:=by obtain⟨o,ho,r⟩:=x;exact⟨o,e _ ho,r⟩
section
variable {prog:VG} {w:World} {A:VH} {E:Vs} {s:VI} {d it:Addr} {es:VD} {ep i:Nat}
theorem F5(hd:(d==sysModules)=false)(hm:s.heap.fi d es ep)
 (hQ:Q (.ref #[9]) {s with heap:=s.heap.push {cls:=.type "dict_keyiterator",data:=.fields #[.ref d,.int 0 0,.int es.size 0,.int ep 0]}}):wpAny #[14] A (pyIter (.ref d)) Q E s:=by
 have hT:=hm.typeIs;obtain⟨o,ho,hc,hdat⟩:=hm;refine wpAny_pyIter_slot hT F.slot_dict_iter (SK F.slot_dict_iter hT F.entry_dict_iter ?_ (F.args_dict_iter_1 _));unfold Builtin.«dict.__iter__»;refine R0 ?_;unfold Builtin.Dict.dictSlotNone;refine R0 (wpAny_notOrdered_dict hT ?_);show wpAny _ _ (pure (Value.ref d)) _ _ s;refine R3 ?_;show wpAny _ _ (Builtin.Dict.showsAll d >>= _) _ _ s;unfold Builtin.Dict.showsAll;rw[if_neg (by simp_all)];refine R0 (R3 ?_);refine R0 (UU ho hdat ?_);refine R0 (wpAny_dictEpoch ho hdat ?_);refine R0 (Su (R3 ⟨_,rfl, "dict_keyiterator",_,⟨_,R8 _ rfl,rfl⟩,S6.lookup,?_⟩))
 grind[rawInt]
theorem F6(hit:s.heap.IsKeyIter it d i es.size ep)(hm:s.heap.fi d es ep)(hlt:i<es.size)
 (hQ:∀h',h'.IsKeyIter it d (i+1) es.size ep->Heap.SameBut it s.heap h'->Q (some es[i].key) {s with heap:=h'}):wpAny #[14] A (pyNext (.ref it)) Q E s:=by
 obtain⟨o,ho,hc,hd⟩:=id hit;obtain⟨od,hod,hcd,hdd⟩:=id hm;unfold pyNext
 refine R0 (Uq (Sz (name:=Str.ofString "__next__") hit.typeIs S6
  (SK S6 hit.typeIs F.entry_dict_keyiterator_next ?_ (F.args_dict_keyiterator_next_1 _))))
 refine R0 (R3 ?_);refine R0 ?_;refine R0 ?_
 first|refine R0 (Tt hit.typeIs (R3 ?_))|refine R0 (T7 hit.typeIs (R3 ?_))
 refine R0 (wpAny_fieldsOf ho hd ?_);have hown:Builtin.Dict_items.ownsTuple "dict_keyiterator" = false:=by decide
 simp only[hown,Sx,TK];show wpAny _ _ (if(Value.ref d==Value.none)=true then _ else _) _ _ s;rw[if_neg (show ¬ ((Value.ref d==Value.none)=true)from Sk)];refine R0 (R3 ?_);refine R0 (UU hod hdd ?_);rw[if_neg #[6]];refine R0 (R3 ?_);refine R0 (wpAny_dictEpoch hod hdd ?_);rw[if_neg #[6]];refine R3 ?_;simp only[show ¬ ((i:Int)<0)from by omega,TK,Tx,Tj hlt];refine R0 ?_
 first|refine R0 (Tt hit.typeIs (R3 ?_))|refine R0 (T7 hit.typeIs (R3 ?_))
 refine R0 (wpAny_isOneOf_keyiter hit.typeIs ?_);show wpAny _ _ (setField (.ref it) 1 (rawInt ((i:Int)+1)) >>= _) _ _ s;refine R0 (Vd ho hd #[6] ?_)
 have hit':(s.heap.update it (Obj.mapFields (·.setIfInBounds 1 (rawInt ((i:Int)+1))))).IsKeyIter it d (i+1) es.size ep:=
  ⟨_,U0 _ ho (Obj.isFreed_of_fields (UJ hd _)),(Obj.cls_mapFields ..).trans hc,by rw[UJ hd];simp[rawInt]⟩
 refine R0 (SH ?_);refine R0 (wpAny_isOneOf_keyiter (s:={s with heap:=s.heap.update it (Obj.mapFields (·.setIfInBounds 1 (rawInt ((i:Int)+1))))}) hit'.typeIs ?_);show wpAny _ _ (pure es[i].key) _ _ _;exact R3 (R3 ⟨_,rfl,R3 (hQ _ hit' (S4 ..))⟩)
theorem IJ(hh:A.handled=none)(hit:s.heap.IsKeyIter it d i es.size ep)(hm:s.heap.fi d es ep)(hge:es.size<=i)
 (hQ:∀h',Heap.ExtBut it s.heap h'->Q none {s with heap:=h'}):wpAny #[14] A (pyNext (.ref it)) Q E s:=by
 obtain⟨o,ho,hc,hd⟩:=id hit;obtain⟨od,hod,hcd,hdd⟩:=id hm;unfold pyNext
 refine R0 (Uq (Sz (name:=Str.ofString "__next__") hit.typeIs S6
  (SK S6 hit.typeIs F.entry_dict_keyiterator_next ?_ (F.args_dict_keyiterator_next_1 _))))
 refine R0 (R3 ?_);refine R0 ?_;refine R0 ?_
 first|refine R0 (Tt hit.typeIs (R3 ?_))|refine R0 (T7 hit.typeIs (R3 ?_))
 refine R0 (wpAny_fieldsOf ho hd ?_);have hown:Builtin.Dict_items.ownsTuple "dict_keyiterator" = false:=by decide
 simp only[hown,Sx,TK];show wpAny _ _ (if(Value.ref d==Value.none)=true then _ else _) _ _ s;rw[if_neg (show ¬ ((Value.ref d==Value.none)=true)from Sk)];refine R0 (R3 ?_);refine R0 (UU hod hdd ?_);rw[if_neg #[6]];refine R0 (R3 ?_);refine R0 (wpAny_dictEpoch hod hdd ?_);rw[if_neg #[6]];refine R3 ?_;simp only[show ¬ ((i:Int)<0)from by omega,TK,Tx,Array.getElem?_eq_none hge];refine R0 ?_
 first|refine R0 (Tt hit.typeIs (R3 ?_))|refine R0 (T7 hit.typeIs (R3 ?_))
 show wpAny _ _ (setField (.ref it) 0 .none >>= _) _ _ s;refine R0 (Vd ho hd #[6] ?_);show wpAny _ _ (newExc (.type "StopIteration") [] >>= _) _ _ _;refine R0 ?_;simp only[newExc,newTuple];refine R0 (Su ?_ (by size_fits));refine R0 (m:=firstArgMember _ _) (wpAny_of_eq (a:=Value.none) (by first|rfl | (simp only[firstArgMember];rfl)) ?_);refine Su ?_ (by size_fits);simp only[raiseNew];refine R0 (wpAny_handled ?_);rw[show A.in1.handled=none from hh];refine R0 (R3 (wpAny_throw ?_));refine R0 (wpAny_isInstance (T := "StopIteration") (b:=true) ⟨_,R8 _ rfl,rfl⟩ isSubtype_stop ?_);exact R3 (hQ _ (((S4 ..).extBut.push _).push _))
theorem Walks.IK(hh:A.handled=none)(I d:Addr)(hne:d≠I)(es:VD)(ep:Nat) :
  Walks prog w A I [I,d] [I] es.size (λi v=>∃e,es[i]?=some e/\v=e.key) (λi h=>h.IsKeyIter I d i es.size ep/\h.fi d es ep) where
 sub:=λb hb=>by grind
 frame:=λ_ _ _ st hk=>⟨st.1.at λo e=>hk I #[6] o e,st.2.at λo e=>hk d #[6] o e⟩
 item:=λi s Q E hi st hQ=>F6 st.1 st.2 hi λh' hit' hs'=>
  hQ _ h' s.toks ⟨es[i],Tj hi,rfl⟩ ⟨hit',st.2.at λo e=>hs'.extBut d o hne e⟩ λb o hb e=>hs'.extBut b o (λh=>hb (by simp[h])) e
 done:=λs Q E st hQ=>IJ hh st.1 st.2 (R5 _) λh' he'=>hQ h' s.toks λb o hb e=>he' b o (λh=>hb (by simp[h])) e
 self:=λ_ _ _ _ st hQ=>wpAny_pyIter_keyiter st.1 hQ
theorem IL(lo:(d==sysModules)=false):PySem.W.KdlSrc prog w "dict" d d es.size (λi v=>∃e,es[i]?=some e/\v=e.key) (λh=>h.fi d es ep) where
 type:=λ_ hm=>hm.typeIs
 there:=λ_ hm=>by obtain⟨_,ho,_⟩:=hm;exact⟨R7 ho,R7 ho⟩
 keep:=λ_ _ hm hk=>hm.at λo e=>hk d (.inl rfl) o e
 notList:=by decide
 notTuple:=by decide
 hint:=λ_ _ _ _ hm hq=>PySem.W.kdl_hint_dict hm.typeIs hq
 iter:=λ_ _ hh hm=>⟨_,_,(λ_ _ hq=>F5 lo hm hq),Walks.IK hh _ d (by obtain⟨_,ho,_⟩:=hm;exact Sg (R7 ho)) es ep,⟨⟨_,R8 _ rfl,rfl,rfl⟩,hm.at λo e=>R1 _ e⟩⟩
theorem F7(lo:(d==sysModules)=false)(hh:A.handled=none)(hm:s.heap.fi d es ep)(hn:es.size<=sizeLine)
 (hQ:∀h' tk c',(∀b o,s.heap.get? b=some o->h'.get? b=some o)->h'.get? #[9]=some {cls:=.type "list",dict:=none,data:=.seq (es.map (·.key)) c',slots:=#[]}->Q (.ref #[9]) {s with heap:=h',toks:=tk}) :
  wpAny #[14] A (call (.type "list") [.ref d]) Q E s:=
 PySem.W.kdl_call (IL lo) hh hm hn λh' tk acc' c' hk hS hacc=>by
  have e:acc'=es.map (·.key):=by
   apply Array.ext
   ·simp[hacc.1]
   ·intro j h1 h2;obtain⟨e,he,hv⟩:=hacc.2 j acc'[j] (Tj h1);have hj:j<es.size:=by simp_all
    simp_all
  simp_all
end
end PySem
namespace Ml
open PySem PySem.Spec L2
section
variable {X:Cx} {E:XK} {k:Nat} {θ:Vx} {hm:Hm} {H M:Hp} {pins:Vt} {σ:L2.St} {s:VI}
theorem jP:∀{ks:List (Key×V)} {kvs:Vu},bG ks=some kvs->jo (.str x) kvs=(ks.any λkv=>decide (kv.1=Sum.inr x))
 | [],kvs,e=>by cases e;rfl
 | (q,v)::ks,kvs,e=>by
  unfold bG at e
  cases e1:ib v with
  |none=>simp_all
  |some d=>
   cases e2:bG ks with
   |none=>simp_all
   |some ds=>
    rw[e1,e2]at e;cases e;have ih:=jP (x:=x) e2;unfold jo at ih ⊢;rw[Vm,Vm,ih]
    grind[Ds,PyData.eqv]
where
 key_lr' {a:Int} {b:Str}:decide ((Sum.inl a:Key)=Sum.inr b)=false:=S7 (λq=>nomatch q)
theorem Cp(q:Key)(x:Str):PyData.eqv (Ds q) (.str x)=decide (q=Sum.inr x):=by
 grind[Ds,PyData.eqv]
theorem uz(hv:ib u=some dv):∀{ks:List (Key×V)} {kvs:Vu},bG ks=some kvs ->
  bG (ks.map λkv=>if kv.1=Sum.inr x then(kv.1,u)else kv)=some (kvs.map λp=>if PyData.eqv p.1 (.str x)then(p.1,dv)else p)
 | [],kvs,e=>by cases e;rfl
 | (q,v)::ks,kvs,e=>by
  unfold bG at e
  cases e1:ib v with
  |none=>simp_all
  |some d=>
   cases e2:bG ks with
   |none=>simp_all
   |some ds=>
    rw[e1,e2]at e;cases e;have ih:=uz (x:=x) hv e2;rw[Sy,Sy,Cp];by_cases hq:q=Sum.inr x
    ·simp_all[bG,hv,ih]
    simp_all[hq,decide_false,TK,Sx,bG,e1,ih]
theorem rL(hv:ib u=some dv):∀{ks:List (Key×V)} {kvs:Vu},bG ks=some kvs->bG (ks++[(Sum.inr x,u)])=some (kvs++[(.str x,dv)])
 | [],kvs,e=>by simp_all[bG,hv,Ds]
 | (q,v)::ks,kvs,e=>by
  unfold bG at e
  cases e1:ib v with
  |none=>simp_all
  |some d=>
   cases e2:bG ks with
   |none=>simp_all
   |some ds=>rw[e1,e2]at e;cases e;have ih:=rL (x:=x) hv e2;rw[Vo];unfold bG;rw[e1,ih];rfl
theorem uA(hv:ib u=some dv)(e:bG ks=some kvs):bG (putK ks (Sum.inr x) u)=some (dput kvs (.str x) dv):=by
 unfold putK dput;rw[jP e];split
 ·exact uz hv e
 ·exact rL hv e
theorem jQ:∀{ks:List (Key×V)} {kvs:Vu},bG ks=some kvs->ks.length=kvs.length
 | [],kvs,e=>by cases e;rfl
 | (q,v)::ks,kvs,e=>by
  unfold bG at e
  cases e1:ib v with
  |none=>simp_all
  |some d=>
   cases e2:bG ks with
   |none=>simp_all
   |some ds=>rw[e1,e2]at e;cases e;simp[jQ e2]
theorem uB:∀{ks:List (Key×V)} {kvs:Vu} {d:PyData},bG ks=some kvs->Fv kvs (.str x)=some d->∃u,sN ks (Sum.inr x)=some u/\ib u=some d
 | [],kvs,d,e,g=>by cases e;grind[Fv]
 | (q,v)::ks,kvs,d,e,g=>by
  unfold bG at e
  cases e1:ib v with
  |none=>simp_all
  |some d'=>
   cases e2:bG ks with
   |none=>simp_all
   |some ds=>
    rw[e1,e2]at e;cases e;unfold Fv at g;rw[List.find?_cons,Cp]at g;by_cases hq:q=Sum.inr x
    ·simp only[hq,decide_true]at g;simp at g;subst g;exact⟨v,pk (p:=(q,v)) hq,e1⟩
    ·simp only[hq,decide_false]at g;obtain⟨u,h1,h2⟩:=uB (x:=x) e2 g;exact⟨u,by rw[pq (p:=(q,v)) hq];exact h1,h2⟩
theorem F8(h:ib u=some d):Rep M d u:=by
 cases u with
 |non=>cases h;rfl
 |bl b=>cases h;rfl
 |int i=>cases h;rfl
 |str x=>cases h;rfl
 |_=>cases h
theorem zw(f:kW d=true)(h:Rep M d u):ib u=some d:=by
 cases d with
 |none=>cases h;rfl
 |bool b=>cases h;rfl
 |int i=>cases h;rfl
 |str x=>cases h;rfl
 |_=>trivial
theorem jR(tq:bj q=true):∀{kvs:Vu} {xs:List (PyData×Addr×Value)},Paired (om M) kvs xs->jo q kvs=(atKey xs q).isSome
 |_,_,.nil=>rfl
 |_,_,.cons (a:=p) (b:=x) h t=>by
  have ih:=jR tq t;unfold jo at ih ⊢;unfold atKey at ih ⊢;rw[Vm,List.find?_cons,ih];by_cases e:x.1=q
  ·rw[Ud e,h.1,e,bQ (b9 tq)];rfl
  ·have  := bH (b9 h.2.1) (b9 tq) (by rw[h.1];exact e)
   simp_all
theorem Cq(I:#[10])(sm:aW M H)(t:bj d=true)(dp:d.depth<=8)(so:eR d=true)(r:Rep M d (.ref a)):LG s.heap d a:=by obtain⟨as,z⟩:=Rep.reads I (r.same sm) rfl;exact⟨t,dp,so,as,z⟩
theorem ye(I:#[10])(sm:aW M H):∀{kvs:Vu} {xs:List (PyData×Addr×Value)},Paired (om M) kvs xs->∀x∈xs,LG s.heap x.1 x.2.1
 |_,_,.nil,x,hx=>by cases hx
 |_,_,.cons h t,x,hx=>by
  rcases Sf.mp hx with rfl|hx
  ·obtain⟨e,t1,t2,t3,t4,_⟩:=h;rw[<- e];exact Cq I sm t1 t2 t3 t4
  ·exact ye I sm t x hx
theorem A3(I:#[10])(sm:aW M H)(ha:H a=some (dO X.prog X.w xs a))(r:Paired (om M) kvs xs) :
  kvs.length<=sizeLine/\(a==sysModules)=false/\s.heap.DictOfH (eT X.prog X.w) a xs:=by
 obtain⟨⟨h1,h2,o,es,ep,h3,h4,h5,h6,h7⟩,_⟩:=I.hok a _ ha;exact⟨by rw[Sr r];exact h1,h2,o,es,ep,h3,h4,h5,h6,ye I sm r,h7⟩
theorem L3(ha:H a=some (dO X.prog X.w xs a)):MZ (H a):=by rw[ha];exact True.intro
theorem zx(tq:bj q=true)(rv:RelV v u)(rd:Rep M dv v)(sd:eR dv=true):∀{kvs:Vu} {xs:List (PyData×Addr×Value)},Paired (om M) kvs xs ->
  Paired (om M) (kvs.map λp=>if PyData.eqv p.1 q then(p.1,dv)else p) (xs.map (putAt q u))
 |_,_,.nil=>.nil
 |_,_,.cons (a:=p) (b:=x) h t=>by
  rw[Sy,Sy];refine .cons ?_ (zx tq rv rd sd t);unfold putAt;by_cases e:x.1=q
  ·have e2:PyData.eqv p.1 q=true:=by rw[h.1,e];exact bQ (b9 tq)
   rw[if_pos e,if_pos e2];exact⟨h.1,h.2.1,h.2.2.1,h.2.2.2.1,h.2.2.2.2.1,v,rv,rd,sd⟩
  ·have e2  := bH (b9 h.2.1) (b9 tq) (by rw[h.1];exact e)
   grind
theorem zy(tq:bj q=true)(dq:q.depth<=8)(sq:eR q=true)(rq:Rep M q (.ref b))(rv:RelV v u)(rd:Rep M dv v)(sd:eR dv=true)(r:Paired (om M) kvs xs) :
  Paired (om M) (dput kvs q dv) (storedH xs q b u):=by
 unfold dput storedH;rw[jR tq r];split
 ·exact zx tq rv rd sd r
 ·exact eV r (.cons ⟨rfl,tq,dq,sq,rq,v,rv,rd,sd⟩ .nil)
theorem zz(kvs:Vu)(q v:PyData):(dput kvs q v).length<=kvs.length+1:=by
 unfold dput;split
 ·simp
 ·simp
theorem W.F9(w:W G θ hm H)(ha:θ[j]?=some a)(hl:j<hm.length)(r:eU G.P G.w (view θ H) (upd H a o) a t kvs):Ev θ H θ (upd H a o)/\W G θ (hm.set j (.fS t kvs)) (upd H a o):=by
 have hmm  := SJ ha
 have e:Ev θ H θ (upd H a o):=⟨⟨[],by simp⟩,λb u q=>by
  obtain⟨h1,h2⟩:=cM q;have ne:b≠a:=λz=>by grind
  simp_all[cZ,au]⟩
 exact w.write ha hl (eU.same e.same r λ_ q=>q)
noncomputable def Oa(G:Gx)(E:XK):V->V->V->Hp->(Hp->Prop)->Prop:=λx y v H Q=>∃θ h d1 d2 d,W G θ h H/\bU G θ H d1 x/\bU G θ H d2 y/\bU G θ H d v/\aE G (qJ G E) θ H (oj d1 d2 d h) (λ_ _ _ H'=>Q H')
theorem IM(hr:bZ k X.A):KD X (Oa X.G E):=by
 rintro pins s σ H x y v xv yv u Q I rx ry rv ⟨θ,h,d1,d2,d,w,r1,r2,rd,p⟩;unfold oj at p;split at p
 ·rename_i j;split at p
  ·rename_i t kvs hx;unfold FA at p;split at p
   ·rename_i q dv;split at p
    ·rename_i hc;simp only[R4,Sv,U9]at hc;obtain⟨a,ha,rfl⟩:=r1;cases rx;rcases w.obj _ _ _ ha hx with⟨rfl,ks,h1,h2,h3⟩|⟨rfl,xs,h1,h2⟩
     ·have hk:∃z,q=.str z:=by
       have:=hc.1.1;simp only[keyOk,Sx,TK]at this;cases q<;>first|exact⟨_,rfl⟩|simp[t8]at this
      obtain⟨z,rfl⟩:=hk;have fd:kW dv=true:=by rcases hc.1.2 with z|z;cases z;exact z
      have hv:=zw fd rd.1;obtain⟨e2,s2⟩:=fh r2;subst e2
      have so:∀p∈dput kvs (.str z) dv,eR p.1=true/\eR p.2=true:=λp hp=>by
       unfold dput at hp;split at hp
       ·obtain⟨p0,hp0,e0⟩:=SA.mp hp;split at e0
        ·subst e0;exact⟨(h3 p0 hp0).1,rd.2⟩
        ·subst e0;exact h3 p0 hp0
       ·rcases Sw.mp hp with hp|hp
        ·exact h3 p hp
        ·simp at hp;subst hp;exact⟨by simpa [eR]using s2,rd.2⟩
      obtain⟨e1,w1⟩:=w.F9 (o:=.dK (putK ks (Sum.inr z) v)) (t:=false) (kvs:=dput kvs (.str z) dv) ha (mR hx) (.inl ⟨rfl,_,aG,uA hv h2,so⟩);exact Dp (by have:=hr.units;omega) I (HR.k (k:=Sum.inr z) h1 (by rw[jQ h2,T6];exact hc.2)) ry rv λs' I'=>⟨_,I',p _ _ e1 w1⟩
     ·have hk:=hc.1.1;simp only[keyOk,Tr,R4,Sv]at hk
      obtain⟨b,vs,rfl,hb⟩:∃b vs,y=.ref b/\view θ H b=some (.tup vs):=by
       cases q with
       |tuple ds=>obtain⟨b,vs,e,hb,_⟩:=r2.1;exact⟨b,vs,e,hb⟩
       |_=>simp[og]at hk
      cases ry;obtain⟨hz,hsys,dd⟩:=A3 I (aC θ H) h1 h2;have hz2:xs.length<=sizeLine:=by rw[<- show kvs.length=xs.length from Sr h2];exact hz
      have kr:=zy (b:=b) (u:=u) hk.1.2 hk.2 r2.2 r2.1 rv rd.1 rd.2 h2;refine wpAny_setItem_heap (knd:=eT X.prog X.w) (hsz:=hz2) (by show X.A.units+1+20<cLine;have:=hr.units;omega) (Cq I (aC θ H) hk.1.2 hk.2 r2.2 r2.1) dd λh' dd' hs=>?_;obtain⟨o,es,ep,g1,g2,g3,g4,_,g5⟩:=dd';have hl2:(storedH xs q b u).length<=sizeLine:=by rw[<- show(dput kvs q dv).length=_ from Sr kr];have:=zz kvs q dv;rw[T6];omega
      refine⟨_,sW (t':=_) I (L3 h1) hs ⟨o,g1⟩ (FF (xs:=storedH xs q b u) hl2 hsys g1 g2 g3 g4 g5),?_⟩;obtain⟨e1,w1⟩:=w.F9 (o:=dO X.prog X.w (storedH xs q b u) a) (t:=true) (kvs:=dput kvs q dv) ha (mR hx) (.inr ⟨rfl,_,aG,kr⟩);exact p _ _ e1 w1
    ·exact p.elim
   ·exact p.elim
  ·exact set_list pins s σ H x y v xv yv u Q I rx ry rv (DY w r1 r2 rd p)
 ·exact p.elim
theorem yf(hr:bZ k X.A)(ho:DE X E ma' o)(hi:DE X E mb i)(ha:∀v,assign (.Subscript o i pos) X.env v=(do
   let ov <- holding [v] (eval o X.env)
   let iv <- holding [v,ov] (eval i X.env)
   standAt pos
   holding [v,ov,iv] (setItem ov iv v)
   release [v,ov,iv] []):=by intro _;rfl):DG X E (nS ma' mb) (.Subscript o i pos):=by
 simp[bC,nv]at *;exact by rintro pins s σ H v u Q I r ⟨θ,h,ρ,d,w,fr,rd,p⟩;exact KH ho hi (IM hr) ha pins s σ H v u Q I r ⟨θ,h,ρ,w,fr,(aE.bind p).mono (by rintro d1 θ1 h1 H1 _ _ ⟨ev,w1,p1⟩ x r1;exact⟨θ1,h1,ρ,w1,fr.ev ev,(aE.bind p1).mono (by rintro d2 θ2 h2 H2 _ _ ⟨ev2,w2,p2⟩ y r2;exact⟨θ2,h2,d1,d2,d,w2,r1.ev ev2,r2,rd.ev (ev.trans ev2),(aE.bind p2).mono (by rintro _ θ3 h3 H3 _ _ ⟨ev3,w3,p3⟩;exact p3 θ3 H3 Ev.refl w3 σ (((fr.ev ev).ev ev2).ev ev3))⟩)⟩)⟩
end
section
variable {X:Cx} {E:XK} {k:Nat} {θ:Vx} {hm:Hm} {H M:Hp} {pins:Vt} {σ:L2.St} {s:VI} {pos:Pos} {e:Expr}
theorem uC(w:W G θ hm H)(r:bU G θ H d v)(e:fE d hm=some (t,kvs)):∃a,v=.ref a/\eU G.P G.w (view θ H) H a t kvs:=by
 unfold fE at e;split at e
 ·cases e;obtain⟨a,h1,h2⟩:=r;exact⟨a,h1,h2.same (aW.refl _) λo q=>aC _ _ _ _ q⟩
 ·split at e
  ·rename_i hx;cases e;obtain⟨a,ha,h1⟩:=r;exact⟨a,h1,w.obj _ _ _ ha hx⟩
  grind
 grind
theorem IP(hr:bZ k X.A)(I:#[10])(rx:RelV x v)(w:W X.G θ h H)(r1:bU X.G θ H d1 x)(dc:eU X.prog X.w (view θ H) H a t kvs)(hb:xS d1 kvs t=some b) :
  (Q (.bl b) H->wpAny #[12] X.A (compareOp .In v (.ref a)) (EP X pins σ Q) X.xe s)/\(Q (.bl !b) H->wpAny #[12] X.A (compareOp .NotIn v (.ref a)) (EP X pins σ Q) X.xe s):=by
 unfold xS at hb;split at hb
 ·rename_i d;split at hb
  ·rename_i ok;cases hb;rcases dc with⟨rfl,ks,h1,h2,h3⟩|⟨rfl,xs,h1,h2⟩
   ·simp only[keyOk,Sx,TK]at ok
    cases d with
    |str z=>
     cases(fh r1).1
     exact⟨λq=>P8 (by have:=hr.units;omega) I (za.k (k:=Sum.inr z) h1) rx λs' I'=>⟨.bl _,H,I',rfl,by rw[<- pA,<- jP h2];exact q⟩,
      λq=>HU (by have:=hr.units;omega) I (za.k (k:=Sum.inr z) h1) rx λs' I'=>⟨.bl _,H,I',rfl,by rw[<- pA,<- jP h2];exact q⟩⟩
    |_=>simp[t8]at ok
   ·simp only[keyOk,Tr,R4,Sv]at ok
    cases d with
    |tuple ds=>
     obtain⟨c,vs,rfl,hc,_⟩:=id r1.1;cases rx;obtain⟨hz,hsys,dd⟩:=A3 I (aC θ H) h1 h2;have room:(eT X.prog X.w).room X.A.in1:=by show X.A.units+1+20<cLine;have:=hr.units;omega
     have tk:=Cq I (aC θ H) ok.1.2 ok.2 r1.2 r1.1
     exact⟨λq=>wpAny_in_heap (knd:=eT X.prog X.w) room tk hsys dd ⟨.bl _,H,I.tok _,rfl,by rw[<- jR ok.1.2 h2];exact q⟩,
      λq=>PyProof.Rows.wpAny_notIn_heap (knd:=eT X.prog X.w) room tk hsys dd ⟨.bl _,H,I.tok _,rfl,by rw[<- jR ok.1.2 h2];exact q⟩⟩
    |_=>simp[og]at ok
  grind
 grind
theorem Cr(hr:bZ k X.A)(I:#[10])(rx:RelV x v)(ry:RelV y u)(w:W X.G θ h H)(r1:bU X.G θ H d1 x)(r2:bU X.G θ H d2 y)(hb:findIn d1 d2 h=some b) :
  (Q (.bl b) H->wpAny #[12] X.A (compareOp .In v u) (EP X pins σ Q) X.xe s)/\(Q (.bl !b) H->wpAny #[12] X.A (compareOp .NotIn v u) (EP X pins σ Q) X.xe s):=by
 unfold findIn at hb;split at hb
 ·rename_i p hp;obtain⟨a,rfl,dc⟩:=uC w r2 hp;cases ry;exact IP hr I rx w r1 dc hb
 ·exact F4 hr I rx ry w r1 r2 hb
theorem zA(hr:bZ k X.A):pO X E (compareOp .In) t9:=by
 rintro pins s σ H x y v u Q I rx ry ⟨θ,h,d1,d2,w,r1,r2,p⟩;unfold t9 at p;split at p
 ·rename_i b hb;exact(Cr hr I rx ry w r1 r2 hb).1 (p.js w (cC _))
 ·trivial
theorem rM(hr:bZ k X.A):pO X E (compareOp .NotIn) gx:=by
 rintro pins s σ H x y v u Q I rx ry ⟨θ,h,d1,d2,w,r1,r2,p⟩;unfold gx at p;split at p
 ·rename_i b hb;exact(Cr hr I rx ry w r1 r2 hb).2 (p.js w (cC _))
 ·trivial
theorem Ga(h:∀p∈kvs,eR p.1=true/\eR p.2=true)(e:Fv kvs q=some d):eR d=true:=by
 obtain⟨p,hp,rfl⟩:=SI.mp e
 grind
theorem bf(hr:bZ k X.A):M3 X (LJ X.G E eK):=by
 rintro value slice pins s σ H x y v u Q I rx ry ⟨θ,h,d1,d2,w,r1,r2,p⟩ hs;unfold eK at p;split at p
 ·rename_i pp hp;obtain⟨t,kvs⟩:=pp;split at p
  ·rename_i z;split at p
   ·trivial
   ·rename_i ht;split at p
    ·rename_i d hd;obtain⟨a,rfl,dc⟩:=uC w r1 hp;cases rx;rcases dc with⟨_,ks,h1,h2,h3⟩|⟨z1,_⟩
     ·obtain⟨e2,s2⟩:=fh r2;subst e2;obtain⟨uu,g1,g2⟩:=uB h2 hd;have T:s.TypeIs (.ref a) "dict" := by obtain⟨_,_,vs,_,o,_,_,e,ex,_⟩:=I.hok a _ h1;exact⟨o,e,ex.1⟩
      exact PyProof.Rows.tail_any (ops:=[.ref a,u]) T PySem.F.slot_dict_getitem.lookup (Dn (by have:=hr.units;omega) I (by have:=za.k (k:=Sum.inr z) h1;rw[g1]at this;exact this) ry λw' s' I' rw'=>⟨uu,H,I',rw',p.js w ⟨F8 g2,Ga h3 hd⟩⟩) hs
     grind
    ·exact p.elim
  ·exact p.elim
 ·exact FY value slice pins s σ H x y v u Q I rx ry ⟨θ,h,d1,d2,w,r1,r2,p⟩ hs
end
section
variable {X:Cx} {E:XK} {k:Nat} {θ:Vx} {hm:Hm} {H M:Hp} {pins:Vt} {σ:L2.St} {s:VI} {pos:Pos} {e:Expr}
theorem wV:∀{kvs:Vu} {xs:List (PyData×Addr×Value)},Paired (om M) kvs xs->bg M (kvs.map (·.1)) (xs.map λx=>V.ref x.2.1)/\cQ (kvs.map (·.1))=true
 |_,_,.nil=>⟨rfl,rfl⟩
 |_,_,.cons h t=>by obtain⟨h1,h2⟩:=wV t;exact⟨.cons h.2.2.2.2.1 h1,by simp[cQ,h.2.2.2.1,h2]⟩
theorem wW:∀(xs:List (PyData×Addr×Value)),Vals (xs.map λx=>V.ref x.2.1) (xs.map λx=>Value.ref x.2.1)
 | []=>.nil
 |_::xs=>.cons rfl (wW xs)
theorem Cs:∀{ks:List (Key×V)} {vs:List (Key×Value)} {es:List DictEntry} {kvs:Vu},bG ks=some kvs->L2.KV ks vs->Pairs (cf P w) es vs->∃us:List V,Vals us (es.map (·.key))/\bg M (kvs.map (·.1)) us
 | [],_,es,kvs,e,r,p=>by
  cases e;cases r
  cases es with
  |nil=>exact⟨[],.nil,rfl⟩
  |cons _ _=>trivial
 | (q,v)::ks,_,es,kvs,e,r,p=>by
  cases r with
  |cons r1 r2=>
   rename_i q' vs';obtain⟨k',u⟩:=q';obtain⟨e1,e2⟩:=r1;simp only at e1 e2;subst e1
   cases p with
   |cons hk hv hr=>
    unfold bG at e
    cases e1:ib v with
    |none=>simp_all
    |some d=>
     cases e3:bG ks with
     |none=>rw[e1,e3]at e;cases e
     |some ds=>
      rw[e1,e3]at e;cases e;obtain⟨us,z1,z2⟩:=Cs e3 r2 hr;rcases ck hk with⟨i,t,rfl,hk'⟩|⟨x,t,rfl,hk'⟩
      ·exact⟨.int i::us,.cons ⟨t,hk'⟩ z1,.cons rfl z2⟩
      ·exact⟨.str x::us,.cons ⟨t,hk'⟩ z1,.cons rfl z2⟩
theorem Gb(hc:X.calm=true):o8 X E (.type "list") pH:=by
 rintro pins s σ H xs us Q I r ⟨θ,h,ds,w,rs,p⟩;unfold pH at p;split at p
 ·rename_i x;split at p
  ·rename_i pp hp;obtain⟨t,kvs⟩:=pp
   cases rs with
   |cons r1 rr=>
    cases rr;obtain⟨a,rfl,dc⟩:=uC w r1 hp
    cases r with
    |cons rv rr=>
     cases rr;cases rv
     have fin:∀(es:VD) (ep:Nat) (vs:List V),s.heap.fi a es ep->(a==sysModules)=false->kvs.length<=sizeLine->es.size=kvs.length->Vals vs (es.toList.map (·.key))->bg (view θ H) (kvs.map (·.1)) vs->cQ (kvs.map (·.1))=true ->
       wpAny #[12] X.A (call (.type "list") [.ref a]) (EP X pins σ Q) X.xe s:=λes ep vs raw hsys hz hsz hv hrp hso=>by
      refine F7 hsys (I.ok.hd hc) raw (by rw[hsz];exact hz) λh' tk c' hk hl=>?_;have hn:H #[9]=none:=I.hok.fresh (R5 _);obtain⟨e1,w1,g⟩:=w.put (o:=.lst vs) hn;have hlen:vs.length=kvs.length:=by have:=hrp.length;simpa using this
      refine⟨.ref #[9],upd H #[9] (.lst vs),I.laid (λb o q=>hk b o q) (R5 _) ⟨by rw[hlen];exact hz,es.toList.map (·.key),c',hv,?_⟩,rfl,p _ _ e1 w1 _ ⟨⟨_,vs,rfl,g,hrp.same e1.same⟩,by simpa [eR]using hso⟩⟩;rw[hl];have ee:es.map (·.key)=(es.toList.map (·.key)).toArray:=by apply Array.ext' ;simp
      rw[ee]
     rcases dc with⟨rfl,ks,h1,h2,h3⟩|⟨rfl,xs,h1,h2⟩
     ·obtain⟨z,ne,vs,rk,o,es,ep,ho,hx,hd,_,hpp,_⟩:=I.hok a _ h1;obtain⟨us,v1,v2⟩:=Cs (M:=view θ H) h2 rk hpp;have hl1:ks.length=kvs.length:=jQ h2;have hl2:es.size=kvs.length:=by have a1:=v1.length;have a2:=v2.length;simp at a1 a2;omega
      exact fin es ep us ⟨o,ho,hx,hd⟩ ne #[3] hl2 v1 v2 (cu.mpr λd m=>by obtain⟨p0,hp0,rfl⟩:=SA.mp m;exact(h3 p0 hp0).1)
     ·obtain⟨hz,hsys,dd⟩:=A3 I (aC θ H) h1 h2;obtain⟨o,es,ep,g1,g2,g3,g4,_,_⟩:=dd;obtain⟨k1,k2⟩:=wV h2;have hes:es.toList.map (·.key)=xs.map λx=>Value.ref x.2.1:=by rw[g4,UC];rfl
      have hl2:es.size=kvs.length:=by have:=Vl List.length g4;rw[Ss,<- show kvs.length=xs.length from Sr h2]at this;simpa using this
      exact fin es ep _ ⟨o,g1,g2,g3⟩ hsys hz hl2 (by rw[hes];exact wW xs) k1 k2
  ·exact yd (E:=E) pins s σ H xs us Q I r ⟨θ,h,_,w,rs,p⟩
 ·exact p.elim
noncomputable def Ct(t:Bool):ME:=λ_ h=>.ok (.ref h.length) (h++[.fS t []])
theorem W.L4(w:W G θ hm H)(hp:H p=none)(r:eU G.P G.w (view θ H) (upd H p o) p t []) :
  Ev θ H (θ++[p]) (upd H p o)/\W G (θ++[p]) (hm++[.fS t []]) (upd H p o)/\bU G (θ++[p]) (upd H p o) (.ref hm.length) (.ref p):=by
 have e:Ev θ H (θ++[p]) (upd H p o):=⟨⟨[p],rfl⟩,λa u q=>by
  obtain⟨h1,h2⟩:=cM q;have ne:=aB h2 hp;rw[cZ (by simp;exact⟨h1,ne⟩),au ne]
  exact h2⟩
 obtain⟨e1,w1⟩:=w.alloc (m:=.fS t []) hp (eU.same e.same r λ_ q=>q);exact⟨e1,w1,p,by rw[<- w.len];simp,rfl⟩
theorem Gd(h:Heap)(hb:sysModules<h.objs.size):bW P w H (h.push {cls:=.type "dict",data:=.dict #[]}) h.objs.size (dO P w [] h.objs.size):=
 FF (Tf _) (Uw.mpr (UD (Sg hb))) (R8 _ rfl) ⟨rfl,rfl,rfl⟩ rfl rfl List.nodup_nil
theorem IQ:DE X E (Ct true) (.Dict [] [] pos):=by simp[bC]at *;exact by rintro pins s σ H Q I ⟨θ,h,ρ,w,fr,p⟩;have hn  := I.hok.fresh (R5 _);obtain⟨e1,w1,g⟩:=w.L4 hn (.inr ⟨rfl,[],aG,.nil⟩);exact wpAny_Dict_empty ⟨.ref #[9],_,I.laid (λ_ _ q=>R1 _ q) (R5 _) (Gd s.heap I.big),rfl,p _ _ e1 w1 _ g⟩
end
theorem bU.take(r:bU G θ H d v)(hb:d.below n=true):bU G (θ.take n) H d v:=by
 have sm:aW _ (view (θ.take n) H):=λa o q=>by obtain⟨h1,h2⟩:=cM q;rw[cZ (λz=>h1 (U4 z))];exact h2
 cases d with
 |dat d=>exact⟨r.1.same sm,r.2⟩
 |ref i=>obtain⟨a,h1,h2⟩:=r;simp[D.below]at hb;exact⟨a,by simp_all,h2⟩
 |fS t kvs=>obtain⟨a,h1,h2⟩:=r;exact⟨a,h1,h2.same sm λo q=>sm _ _ q⟩
 |set xs=>exact r
 |fn n=>exact r
 |scr ns=>obtain⟨a,h1,h2⟩:=r;exact⟨a,h1,sm.seq h2⟩
 |ktup xs=>exact r
 |rpr x=>exact r
 |exc x=>obtain⟨a,c,h1,h2,h3⟩:=r;exact⟨a,c,h1,sm _ _ h2,h3⟩
theorem aV.take:∀{ds:List D} {vs:List V},aV G θ H ds vs->ds.all (D.below n)=true->aV G (θ.take n) H ds vs
 |_,_,.nil,_=>.nil
 |_,_,.cons r t,h=>by simp only[List.all_cons,R4]at h;exact .cons (r.take h.1) (aV.take t h.2)
theorem W.take(w:W G θ h H)(hb:(h.take n).all (MO.below n)=true):W G (θ.take n) (h.take n) H:=by
 have sm:aW _ (view (θ.take n) H):=λa o q=>by obtain⟨h1,h2⟩:=cM q;rw[cZ (λz=>h1 (U4 z))];exact h2
 refine⟨by simp[w.len],w.nd.sublist (Ul _ _),λi a o h1 h2=>?_⟩
 have hi:i<n:=by
  grind
 have mo:=Sh.mp hb o (SJ h2);rw[List.getElem?_take_of_lt hi]at h1 h2;have r:=w.obj i a o h1 h2
 cases o with
 |lst xs=>obtain⟨vs,q1,q2⟩:=r;exact⟨vs,q1,q2.take mo⟩
 |fS t kvs=>exact eU.same sm r λ_ q=>q
 |ins=>trivial
 |tab P q=>obtain⟨rfl,x⟩:=r;exact⟨rfl,x.same sm λ_ q=>q⟩
theorem Ev.take(e:Ev θ H θ' H')(hn:n=θ.length):Ev θ H (θ'.take n) H':=by
 obtain⟨ext,rfl⟩:=e.pre;have:(θ++ext).take n=θ:=by grind
 rw[this];refine⟨⟨[],by simp⟩,λa o q=>?_⟩;obtain⟨h1,h2⟩:=cM (e.same a o q);rw[cZ (λz=>h1 (Tu _ z))];exact h2
theorem aE.gw(w:W G θ h H)(p:aE G (qJ G E) θ H (gw F ds h) (KV G Q)):aE G (qJ G E) θ H (F ds h) (KV G Q):=by
 unfold Ml.gw at p
 cases e:F ds h with
 |bad=>simp_all
 |ok d h'=>
  rw[e]at p;simp only at p;split at p
  ·rename_i hc;simp only[R4]at hc;intro θ' H' ev w' v r;have w2:=w'.take hc.1.2;have ev2:=ev.take w.len.symm;exact p _ _ ev2 w2 v (r.take hc.1.1)
  ·trivial
 |exc x h'=>
  rw[e]at p;simp only at p;split at p
  ·rename_i hc;simp only[R4]at hc;intro θ' H' ev w' cls da xr;have w2:=w'.take hc.1;have ev2:=ev.take w.len.symm;exact p _ _ ev2 w2 cls da xr
  ·trivial
theorem aT.gw(h:aT P w K mg base x ps k F):aT P w K mg base x ps k (Ml.gw F):=by obtain⟨⟨f,fd,h1,h2,h3,h4⟩,ar⟩:=h;refine⟨⟨f,fd,h1,h2,h3,h4.imp (by rintro vs H Q E ⟨θ,hm,ds,w,r,p⟩;exact⟨θ,hm,ds,w,r,p.gw w⟩)⟩,λds hm l=>?_⟩;unfold Ml.gw;rw[ar ds hm l]
end Ml
namespace L2
open PySem PySem.Spec
section
variable {X:Cx} {a b:Expr} {rest:VB} {ta tb:TE} {pos:Pos}
theorem L5(ht:KO X r)(ha:PE X a ta)(hb:PE X (.BoolOp .Or (b::rest) pos) tb):PE X (.BoolOp .Or (a::b::rest) pos) (λσ H Q=>ta σ H λx H1=>r x H1 λc H2=>H2=H1/\if c=true then Q x H1 else tb σ H1 Q):=by
 intro pins s σ H Q I h;refine PyProof.Rows.BoolOp_or (bS (ha pins s σ H _ I h) λv s1 ⟨x,H1,I1,r1,q1⟩=>?_);refine bS (ht pins s1 σ H1 x v _ I1 r1 q1) λc s2 ⟨H2,I2,e,q2⟩=>?_;subst e
 cases c with
 |false=>exact hb pins s2 σ H2 Q I2 q2
 |true=>exact⟨x,H2,I2,r1,q2⟩
theorem IS(ht:KO X r)(ha:PE X a ta)(hb:PE X (.BoolOp .And (b::rest) pos) tb):PE X (.BoolOp .And (a::b::rest) pos) (λσ H Q=>ta σ H λx H1=>r x H1 λc H2=>H2=H1/\if c=true then tb σ H1 Q else Q x H1):=by
 intro pins s σ H Q I h;refine PyProof.Rows.BoolOp_and (bS (ha pins s σ H _ I h) λv s1 ⟨x,H1,I1,r1,q1⟩=>?_);refine bS (ht pins s1 σ H1 x v _ I1 r1 q1) λc s2 ⟨H2,I2,e,q2⟩=>?_;subst e
 cases c with
 |true=>exact hb pins s2 σ H2 Q I2 q2
 |false=>exact⟨x,H2,I2,r1,q2⟩
end
end L2
namespace Ml
open PySem PySem.Spec L2
section
variable {X:Cx} {E:XK} {m a b c:ME} {t u:MT} {e e1 e2 e3:Expr} {es:VB} {ma:MA} {pos:Pos} {i:Nat} {x:Str}
noncomputable def IT(a b:ME):ME:=λρ h=>(a ρ h).bind λx h1=>match truth x h1 with
 |some c=>if c then .ok x h1 else b ρ h1
 |none=>.bad
noncomputable def nE(a b:ME):ME:=λρ h=>(a ρ h).bind λx h1=>match truth x h1 with
 |some c=>if c then b ρ h1 else .ok x h1
 |none=>.bad
theorem L6(ha:DE X E a e1)(hb:DE X E b (.BoolOp .Or (e2::es) pos)):DE X E (IT a b) (.BoolOp .Or (e1::e2::es) pos):=by
 simp[bC]at *
 exact PE.imp (L5 Az ha hb) (by rintro σ H Q ⟨θ,h,ρ,w,fr,p⟩;exact⟨θ,h,ρ,w,fr,(aE.bind p).mono (by
   rintro d θ1 h1 H1 _ _ ⟨ev,w1,p1⟩ v r;split at p1
   ·rename_i b hb;refine⟨b,ux w1 r hb,rfl,?_⟩
    cases b with
    |true=>exact p1 θ1 H1 Ev.refl w1 v r
    |false=>exact⟨θ1,h1,ρ,w1,fr.ev ev,p1⟩
   ·trivial)⟩)
theorem mT(ha:DE X E a e1)(hb:DE X E b (.BoolOp .And (e2::es) pos)):DE X E (nE a b) (.BoolOp .And (e1::e2::es) pos):=by
 simp[bC]at *
 exact PE.imp (IS Az ha hb) (by rintro σ H Q ⟨θ,h,ρ,w,fr,p⟩;exact⟨θ,h,ρ,w,fr,(aE.bind p).mono (by
   rintro d θ1 h1 H1 _ _ ⟨ev,w1,p1⟩ v r;split at p1
   ·rename_i b hb;refine⟨b,ux w1 r hb,rfl,?_⟩
    cases b with
    |false=>exact p1 θ1 H1 Ev.refl w1 v r
    |true=>exact⟨θ1,h1,ρ,w1,fr.ev ev,p1⟩
   ·trivial)⟩)
noncomputable def lu(f g:D->D->Hm->R D)(a b c:ME):ME:=λρ h=>(a ρ h).bind λx h1=>(b ρ h1).bind λy h2=>(f x y h2).bind λz h3=>match z with
 |.dat (.bool k)=>if k then(c ρ h3).bind λw h4=>g y w h4 else .ok (.bool false) h3
 |_=>.bad
theorem zB(h:lE G E (lu f g a b c) σ H Q):Ax (LJ G E f) (LJ G E g) (lE G E a) (lE G E b) (lE G E c) σ H Q:=by
 obtain⟨θ,h,ρ,w,fr,p⟩:=h;refine⟨θ,h,ρ,w,fr,(aE.bind p).mono λx θ1 h1 H1 _ _ ⟨e1,w1,p1⟩ v r1=>?_⟩;refine⟨θ1,h1,ρ,w1,fr.ev e1,(aE.bind p1).mono λy θ2 h2 H2 _ _ ⟨e2,w2,p2⟩ u r2=>⟨θ2,h2,x,y,w2,r1.ev e2,r2,(aE.bind p2).mono λz θ3 h3 H3 _ _ ⟨e3,w3,p3⟩ z' r3=>?_⟩⟩
 cases z with
 |dat z=>
  cases z with
  |bool k=>
   refine⟨k,r3.1,?_⟩
   cases k with
   |true=>exact⟨θ3,h3,ρ,w3,(fr.ev e1).ev (e2.trans e3),(aE.bind p3).mono (by rintro w' θ4 h4 H4 _ _ ⟨e4,w4,p4⟩ q r4;exact⟨θ4,h4,y,w',w4,(r2.ev e3).ev e4,r4,p4⟩)⟩
   |false=>exact p3 θ3 H3 Ev.refl w3 _ ⟨rfl,by rfl⟩
  |_=>trivial
 |_=>trivial
theorem Ge(ho:pO X E (compareOp op) f)(ho':pO X E (compareOp op') g)(ha:DE X E a e1)(hb:DE X E b e2)(hc:DE X E c e3)
 (hm:lastMarks [op,op'] [e2,e3]=false:=by with_unfolding_all rfl):DE X E (lu f g a b c) (.Compare e1 [op,op'] [e2,e3] pos):=by
 simp[bC]at *;exact PE.imp (EF ho ho' ha hb hc hm) λ_ _ _=>zB
theorem zC(ho:pO X E (compareOp op) f)(ho':pO X E (compareOp op') g)(ha:DE X E a e1)(hb:DE X E b e2)(hc:DE X E c e3)
 (hm:lastMarks [op,op'] [e2,e3]=false:=by with_unfolding_all rfl):DT X E (aM (lu f g a b c)) (.Compare e1 [op,op'] [e2,e3] pos):=by
 simp[bC,jq]at *;exact PT.imp (EG ho ho' ha hb hc hm) λ_ _ _ q=>zB (Cf q)
end
section
variable {X:Cx} {E:XK} {m a b c:ME} {t u:MT} {e e1 e2 e3 tg:Expr} {es:VB} {ma:MA} {pos:Pos} {i:Nat} {x:Str} {ss:List Stmt} {st:Stmt}
theorem dv(i:Nat)(hN:X.N[i]?=some x:=by rfl)(hv:Eo X.env.scope x:=by first|exact Or.inl rfl|exact Or.inr (Or.inl rfl)|exact Or.inr (Or.inr rfl))(hd:(x==("__debug__" : Str))=false:=by decide)(hcd:(x==("__classdict__" : Str))=false:=by decide):DE X E (ae i) (.Name x pos):=LK hN hv hd hcd
theorem dg(i:Nat)(hN:X.N.Nodup)(hi:X.N[i]?=some x:=by rfl)(hx:Loc X.env.scope x:=by first|exact Or.inl rfl|exact Or.inr rfl)(hf:X.fn x=true\/X.env.scope.names.lookup x=some .local:=by first|exact .inl rfl|exact .inr rfl|assumption):DG X E (ax i) (.Name x pos):=Iv hN hi hx hf
noncomputable def aP(e:ME):MA:=λρ h=>match e ρ h with
 |.ok (.dat (.tuple ds)) h1=>.ok (ds.map D.dat) h1
 |.ok (.dat (.list ds)) h1=>.ok (ds.map D.dat) h1
 |.ok (.dat (.str s)) h1=>.ok (signs s) h1
 |.ok (.ktup ds) h1=>.ok (ds.map D.dat) h1
 |.exc x h1=>.exc x h1
 |_=>.bad
theorem bR(h:DE X E m e):DI X E (aP m) tg e:=by
 have at':=LR (tg:=tg) h;have al':=LS (tg:=tg) h;have as':=LU (tg:=tg) h;have ak':=IG (tg:=tg) h;simp only[lq]at *;rintro pins s σ H QI I ⟨θ,hm,ρ,w,fr,p⟩
 cases em:m ρ hm with
 |bad=>simp only[aP,em]at p;exact p.elim
 |exc x h1=>
  simp only[aP,em]at p;refine at' pins s σ H QI I ⟨θ,hm,ρ,w,fr,?_⟩
  simp_all[B4,em,R.Fi]
 |ok d h1=>
  cases d with
  |dat d=>
   cases d with
   |tuple ds=>
    simp only[aP,em]at p;refine at' pins s σ H QI I ⟨θ,hm,ρ,w,fr,?_⟩
    simp_all[B4,em,R.bo]
   |list ds=>simp only[aP,em]at p;refine al' pins s σ H QI I ⟨θ,hm,ρ,w,fr,?_⟩;simp only[Fo,em,R.bo];exact p
   |str ds=>simp only[aP,em]at p;refine as' pins s σ H QI I ⟨θ,hm,ρ,w,fr,?_⟩;simp only[Fp,em,R.bo];exact p
   |_=>simp only[aP,em]at p;exact p.elim
  |ktup ds=>simp only[aP,em]at p;refine ak' pins s σ H QI I ⟨θ,hm,ρ,w,fr,?_⟩;simp only[N8,em,R.bo];exact p
  |_=>simp only[aP,em]at p;exact p.elim
theorem IU:Cd X E (λ_ _=>.bad) ss:=by simp[jL]at *;exact by rintro pins s σ H C I ⟨θ,hm,ρ,w,fr,p⟩;exact p.elim
end
section
variable {X:Cx} {E:XK} {m:ME} {e:Expr} {es:VB} {ma:MA} {pos pos' p p2:Pos} {i:Nat} {x T:Str} {f:Fn} {id n:String} {g:PyData->Bool}
theorem eY(i:Nat)(hN:X.N.Nodup)(he:DE X E m e)(hi:X.N[i]?=some x:=by rfl)(hx:Loc X.env.scope x:=by first|exact Or.inl rfl|exact Or.inr rfl)(hs:swapsWith e (some (.Name x pos')) pos.line X.env=pure false:=by kernel_rfl)(hf:X.fn x=true\/X.env.scope.names.lookup x=some .local:=by first|exact .inl rfl|exact .inr rfl|assumption) :
  DS X E (cn i m) (.Assign [.Name x pos'] e pos):=LO hN hi hx he hs hf
theorem Ob{y:Str}{px py pt:Pos}{kt k2 pt2}(i j:Nat)(hN:X.N.Nodup)(ha:DA X E ma [a,b])(hc:X.calm=true:=by rfl)(hi:X.N[i]?=some x:=by rfl)(hj:X.N[j]?=some y:=by rfl)(hij:i≠j:=by decide)
 (hx:X.env.scope.names.lookup x=some .local:=by rfl)(hy:X.env.scope.names.lookup y=some .local:=by rfl)
 (hw:swappedStores [.Tuple [.Name x px,.Name y py] kt pt] (.Tuple [a,b] k2 pt2) X.env=pure (some [x,y]):=by kernel_rfl)
 (hs:swapsWithSole [.Tuple [.Name x px,.Name y py] kt pt] (.Tuple [a,b] k2 pt2) pos.line X.env=pure false:=by rfl) :
  DS X E (xO [i,j] ma) (.Assign [.Tuple [.Name x px,.Name y py] kt pt] (.Tuple [a,b] k2 pt2) pos):=by
 rw[gV]at ha;exact Iw (KJ hc hN hi hj hij hx hy ha hw hs)
theorem nF(hc:o8 X E (.builtin id) f)(hm:X.mg x=none)(hv:bootBuiltins x=some (.builtin id))(ha:DA X E ma (e::es))(hg:Gl X x:=by rfl)(hn:x ≠ "__name__" := by decide)(hdb:(x==("__debug__" : Str))=false:=by decide)
 (he:#[2]:=by rfl)(hpl:#[20].any (·.1)=false:=by rfl):DE X E (ag f ma) (.Call (.Name x p) (e::es) [] pos):=FJ hc hg hm hv ha hn hdb he hpl
theorem fS(hc:o8 X E (.type id) f)(hm:X.mg x=none)(hv:bootBuiltins x=some (.type id))(ha:DA X E ma (e::es))(hg:Gl X x:=by rfl)(hn:x ≠ "__name__" := by decide)(hdb:(x==("__debug__" : Str))=false:=by decide)
 (he:#[2]:=by rfl)(hpl:#[20].any (·.1)=false:=by rfl):DE X E (ag f ma) (.Call (.Name x p) (e::es) [] pos):=DL hc hg hm hv ha hn hdb he hpl
theorem uE(kit:∀d,PySem.W.kitOne X.K (.type (NK d)) (.type n)=some (g d))(bt:bootBuiltins T=some (.type n))(m1:X.mg "isinstance" = none)(m2:X.mg T=none)(h:DE X E m e)(g1:Gl X "isinstance" := by rfl)(g2:Gl X T:=by rfl)(hT:T ≠ "__name__" := by decide)(hT2:(T==("__debug__" : Str))=false:=by decide)
 (hs:starEach [e,.Name T p2] X.env=(false,eval e X.env)::starEach [.Name T p2] X.env:=by rfl)(hs2:starEach [.Name T p2] X.env=[(false,eval (.Name T p2) X.env)]:=by rfl)(hpl:(backTo pos (starEach [.Name T p2] X.env)).any (·.1)=false:=by rfl):DE X E (wD (kX g) m) (.Call (.Name "isinstance" p) [e,.Name T p2] [] pos):=LY kit bt m1 m2 h g1 g2 hT hT2 hs hs2 hpl
end
noncomputable def Df(K:Vz)(mg:Vv)(x:Str)(ps:VA)(st:Stmt):Prop:=∃f fd,mg x=some (.ref f)/\El K x x st f fd/\Binds K fd ps []
theorem bY{oc kV dc pm cd ct:Value}(X:K.In h)(G:h.Ns mainGlobals mg)
 (a:PySem.W.nsIn K mainGlobals x=some (some (.ref f)))(l:K.lookup f=some ⟨oc,od,.func (PySem.W.fnOf x x (fc st) (bA st) (ao st) .none kV dc pm an cd ct),sl⟩)(c:PySem.W.codeIn K cd x=true)(k:PySem.W.keepIn K (.ref f)=true)
 (hb:∀(kV doc pm:Value) (an:Option Addr) (cdv ct:Value) (us:Vy),us.length=ps.length->bindArgs (PySem.W.fnOf x x (fc st) (bA st) (ao st) .none kV doc pm an cdv ct) ⟨us,[]⟩=pure (ps.zip us)):Df K mg x ps st:=
 ⟨f,_,Sm X G a,xA l c k,(xA l c k).binds hb⟩
section
variable {P:VG} {w:World} {K:Vz} {mg:Vv} {base:Heap} {x:Str} {st:Stmt} {ps N:VA} {k:Nat} {b:MS} {F:Fn}
theorem Df.has(d:Df K mg x ps st)(S:aH N ps (ao st))(hbody:∀(f:Addr) (cdv:Value) (A:VH) (outer:List Env) (s:VI) (H:Hp) (E:XK),bZ k (A.deeper (PyProof.Rows.envOfC x (ao st) #[9] f cdv)) ->
   Cd (fk (iF P w) P w K mg base N x (ao st) f cdv A outer s H E) E b (bA st)):aT P w K mg base x ps (k+1) (bz ps.length N.length b):=by
 obtain⟨f,fd,h1,Fu,bd⟩:=d;exact⟨⟨f,fd,h1,Fu.kp,bd,Q8 Fu S (hbody f)⟩,mO⟩
end
theorem Gf:bootBuiltins "int" = some (.type "int"):=by rfl
theorem Gg:bootBuiltins "any" = some (.builtin "any"):=by rfl
theorem L7(h:jD P w K mg base (iF P w) k f fd ps (Hg ⟨P,w,mg,K⟩ F))(e:F=F'):jD P w K mg base (iF P w) k f fd ps (Hg ⟨P,w,mg,K⟩ F'):=e▸h
end Ml
namespace L2
open PySem PySem.Spec
noncomputable def pY(sc lscope:Scope):Bool:=lscope.names.all λx=>decide (x.2≠.free) || (decide (sc.names.lookup x.1=some .cell)&&decide (lscope.names.lookup x.1=some .free))
theorem pY.free(h:pY sc lscope=true)(m:(n,NameKind.free)∈lscope.names):sc.names.lookup n=some .cell/\lscope.names.lookup n=some .free:=by
 have:=Sh.mp h _ m
 grind
end L2
namespace Ml
open PySem PySem.Spec L2 PyProof.Rows
noncomputable abbrev L8:Vy:=[.type "ValueError",.type "Exception",.type "BaseException",.type "object"]
noncomputable abbrev Gh:String := "ValueError.__new__"
theorem Cu:∀{xs:List α} {ys:List β},PySem.Paired f xs ys->xs.length=ys.length
 |_,_,.nil=>rfl
 |_,_,.cons _ r=>by simp[Cu r]
noncomputable def yg(C:Str)(a:MA):MS:=λρ h=>(a ρ h).bind λxs h1=>if iY xs.length then .exc ⟨C,[]⟩ h1 else .bad
noncomputable def Qj(K:Vz)(mg:Vv)(x:Str):Prop:=∃C,mg x=some (.ref C)/\E6 K mg x C L8 Gh
section
variable {P:VG} {w:World} {K:Vz} {mg:Vv} {base:Heap} {N:VA} {qual:Str} {scope:Scope} {f:Addr} {cd:Value} {A:VH} {outer:List Env} {s:VI} {H:Hp} {E:XK}
theorem zD{np cpos pos:Pos}(c:Qj K mg x)(hr:bZ k (A.deeper (envOfC qual scope #[9] f cd)))
 (ha:DA #[15] E ma (e::es))(hg:Gl #[15] x:=by rfl)
 (he:starEach (e::es) (envOfC qual scope #[9] f cd)=(false,eval e (envOfC qual scope #[9] f cd))::starEach es (envOfC qual scope #[9] f cd):=by rfl)
 (hplain:(backTo cpos (starEach es (envOfC qual scope #[9] f cd))).any (·.1)=false:=by rfl)(hdb:(x==("__debug__" : Str))=false:=by decide) :
  DS #[15] E (yg x ma) (.Raise (some (.Call (.Name x np) (e::es) [] cpos)) none pos):=by
 obtain⟨C,hm,xc⟩:=c;simp only[jr,gV]at *;refine PS.imp (E7 xc PySem.F.excBase_ValueError hr.hd hg ha he hplain hdb) λCn σ H1 ⟨θ,h,ρ,w1,fr,p⟩=>⟨θ,h,ρ,w1,fr,(aE.bind p).mono λds θ1 h1 H2 _ _ ⟨ev,w2,p2⟩ vs r=>?_⟩;split at p2
 ·rename_i hz;exact⟨by have:=Cu r;rw[<- this];exact de hz,p2 θ1 H2 Ev.refl w2 (.ref C) none ⟨hm,rfl,rfl⟩⟩
 ·trivial
end
theorem IV{σ:L2.St}(I:#[10])(w:W X.G θ h H)(e:H b=some (.ext (recAt b q))):b∉θ:=λm=>by
 obtain⟨i,hi,ei⟩:=S9.mp m;have hl:i<h.length:=by grind[w.len]
 have r:=w.obj i b h[i] (by simp_all) (R9 hl)
 cases ho:h[i]with
 |lst xs=>rw[ho]at r;obtain⟨vs,e1,_⟩:=r;grind
 |ins C fs=>rw[ho]at r;exact r.elim
 |tab P q'=>rw[ho]at r;obtain⟨rfl,ps,e1,_⟩:=r;grind
 |fS t kvs=>
  rw[ho]at r;rcases r with⟨_,ks,e1,_⟩|⟨_,xs,e1,_⟩
  ·rw[e]at e1;cases e1
  ·rw[e]at e1;have k1:recAt b q s.heap:=(show bW X.prog X.w H s.heap b (.ext (recAt b q))from I.hok b _ e).1;unfold dO at e1;have e2:=congrFun (HO.ext.inj (S8 e1)) s.heap;have k2:=k1;rw[e2]at k2;obtain⟨_,_,o,es,ep,g1,g2,g3,_⟩:=k2;obtain⟨c1,oc,vs,t,z,g4,g5,g6⟩:=k1;cases z;rw[g1]at g4;cases g4;rw[g3]at g5;cases g5
theorem W.L9{σ:L2.St}{j:Nat}(I:#[10])(w:W X.G θ h H)(hj:h[j]?=some (.tab P q))(t1:wA H1 P q)(sm:aW (xH H P) (xH H1 P)):Ev θ H θ H1/\W X.G θ h H1:=by
 have hjl:=(R6.mp hj).1;have hjt:j<θ.length:=by grind[w.len]
 have r0:=w.obj j θ[j] _ (R9 hjt) hj;obtain⟨eP,tb⟩:=r0;have mP:P∈θ:=eP▸Uv hjt
 have keep:∀a o,a≠P->H a=some o->H1 a=some o:=λa o n e=>by
  have:=sm a o (by simp_all[xH,if_neg,n])
  simp_all[xH,this,if_neg,n]
 have e:Ev θ H θ H1:=⟨⟨[],by simp⟩,λa u k=>by
  obtain⟨h1,h2⟩:=cM k;rw[cZ h1]
  exact keep a u (λz=>h1 (z▸mP)) h2⟩
 refine⟨e,⟨w.len,w.nd,λi a m h1 h2=>?_⟩⟩;have r:=w.obj i a m h1 h2;by_cases ha:a=P
 ·subst ha
  cases m with
  |lst xs=>obtain⟨vs,q1,q2⟩:=r;obtain⟨ps,z,_⟩:=tb;rw[q1]at z;cases z
  |fS t kvs=>
   obtain⟨ps,z,_⟩:=tb;rcases r with⟨_,ks,e1,_⟩|⟨_,xs,e1,_⟩
   ·rw[e1]at z;cases z
   ·rw[e1]at z;cases z
  |ins=>exact r.elim
  |tab P' q'=>
   obtain⟨rfl,_⟩:=r
   have hij:i=j:=by
    obtain⟨l1,e1⟩:=R6.mp h1;rcases Nat.lt_trichotomy i j with z|z|z
    ·exact absurd (e1.trans eP.symm) (TQ.mp w.nd i j l1 hjt z)
    ·exact z
    ·exact absurd (eP.trans e1.symm) (TQ.mp w.nd j i hjt l1 z)
   subst hij;rw[hj]at h2;cases h2;obtain⟨ps,k1,k2,k3⟩:=t1;refine⟨rfl,ps,k1,k2,λpos c k=>?_⟩;obtain⟨b,k4,k5,k6⟩:=k3 pos c k;refine⟨b,k4,k5,?_⟩
   have nb:b∉θ:=by
    cases hb:H b with
    |none=>exact w.Cc hb
    |some o=>have:=keep b o k5 hb;rw[k6]at this;cases this;exact IV I w hb
   rw[cZ nb];exact k6
 ·have kp:∀o,H a=some o->H1 a=some o:=λo=>keep a o ha
  cases m with
  |lst xs=>obtain⟨vs,q1,q2⟩:=r;exact⟨vs,kp _ q1,q2.ev e⟩
  |fS t kvs=>exact eU.same e.same r kp
  |ins=>exact r.elim
  |tab P' q'=>obtain⟨rfl,x⟩:=r;exact⟨rfl,x.same e.same kp⟩
noncomputable def fX:VA:=["web", "lot", "name", "kind", "pair", "changes", "count", "shut", "way", "joint", "side", "deed"]
noncomputable def wordAt(j:Nat):Str:=fX.getD j ""
noncomputable def clsAt:Str->Option Nat:=λx=>(["NoWeb", "NoLot", "NoName", "NoKind", "NoPair", "NoChanges", "NoCount", "NoShut", "NoWay", "NoJoint", "NoSide", "NoDeed"]:VA).findIdx? (· == x)
noncomputable def pick(ρ:Fm)(idx:List Nat):Fm:=idx.map λi=>(ρ[i]?).join
noncomputable def Kd(cl:List Nat):R D->R D
 |.ok d h=>ij [d] h
 |.exc x h=>match clsAt x.cls with
  |some j=>if cl.contains j then .ok (.dat (.tuple [.str (wordAt j)])) h else .bad
  |none=>.bad
 |.bad=>.bad
noncomputable def gX(cl:List Nat)(j:Nat)(P:Addr)(q:Str)(idx:List Nat)(b:ME):ME:=λρ h=>match h[j]? with
 |some (.tab P' q')=>if P'=P/\q'=q/\(pick ρ idx).all Option.isSome=true then Kd cl (b (pick ρ idx) h)else .bad
 |_=>.bad
noncomputable def Gi(Q:VK):VK:=λx H1=>[x].length<=sizeLine/\∀p,H1 p=none->Q (.ref p) (upd H1 p (.lst [x]))
noncomputable def Cv(XE:VK->XK):(VK->XK->Prop)->VK->Prop:=λG Q=>G (Gi Q) (XE Q)
noncomputable def Cw(mg:Vv)(cl:List Nat)(XE:VK->XK):Prop:=∀(Q:VK) (cls:Value) (H:Hp) (x:Str) (j:Nat),clsAt x=some j->j∈cl->mg x=some cls->(∀H' t,aW H H'->H' t=none->Q (.ref t) (upd H' t (.tup [.str (wordAt j)])))->XE Q cls none H
theorem IW:∀j,PyData.strOk (wordAt j)=true:=by
 have:∀x∈fX,PyData.strOk x=true:=by decide +kernel
 intro j;unfold wordAt;rw[SQ]
 cases e:fX[j]? with
 |none=>exact(by decide +kernel:PyData.strOk "" = true)
 |some x=>exact this x (SJ e)
section
variable {X:Cx} {E:XK}
theorem tm{params:Arguments}{lpos p pos:Pos}(j:Nat)(idx:List Nat)(q:Str)(hq:X.env.qual ++ "<lambda>" = q)
 (F:xJ X.prog X.w X.K X.mg X.base g [pn] k (wB X.prog X.w X.K X.mg X.base (kl+1) (Cv XE)))(HX:Cw X.mg cl XE)(hr:bZ k X.A)(hcode:X.env.code=.ref c)(ht:PySem.W.codeHdIn X.K c P=true)(B:BMod X.base X.mg bm)
 (hbody:∀(f c':Addr) (clos:List (Str×Addr)) (A:VH) (outer:List Env) (s:VI) (H:Hp) (E':XK),bZ kl (A.deeper (jG #[16] lscope #[9] f (.ref c') clos))->DE (wz X.prog X.w X.K X.mg X.base N2 #[16] lscope f (.ref c') clos A outer s H E') E' b body)
 (hix:(List.range N2.length).all (λi=>match N2[i]?,idx[i]? with|some x,some n=>decide (X.N[n]?=some x)&&lscope.names.contains (x,NameKind.free)|_,_=>false)=true)
 (hN2:N2.length=idx.length:=by rfl)
 (hg:Gl X g:=by rfl)(S:tU lscope:=by exact⟨rfl,rfl,rfl,by decide +kernel⟩)(hdef:defaultsOf params X.env=([],[]):=by rfl)(hll:pY X.env.scope lscope=true:=by kernel_rfl)
 (hbind:∀clos pm c' ctv,bindArgs (PySem.W.kla_fn "<lambda>" #[16] params body lscope clos pm (.ref c') ctv) ⟨[],[]⟩=pure []:=by intro _ _ _ _;rfl)
 (hdb:(g==("__debug__" : Str))=false:=by decide)(hs:starEach [.Lambda params body lscope lpos] X.env=(false,eval (.Lambda params body lscope lpos) X.env)::starEach [] X.env:=by rfl) :
  DE X E (gX cl j P q idx b) (.Call (.Name g p) [.Lambda params body lscope lpos] [] pos):=by
 subst hq;simp only[bC]at *;intro pins s σ H Q I ⟨θ,h,ρ,w,fr,p⟩;unfold gX at p;split at p
 ·rename_i P' q' hj;split at p
  ·rename_i hc;obtain⟨rfl,rfl,hsome⟩:=hc
   have hix':∀(j:Nat) (x:Str),N2[j]?=some x->∃i,idx[j]?=some i/\X.N[i]?=some x/\(x,NameKind.free)∈lscope.names:=λjj x hx=>by
    have hl:=(R6.mp hx).1;have:=Sh.mp hix jj (SM.mpr hl);rw[hx]at this
    cases hi:idx[jj]? with
    |none=>rw[hi]at this;simp at this
    |some n=>rw[hi]at this;simp only[R4,Sv,List.contains_iff_mem]at this;exact⟨n,rfl,this.1,this.2⟩
   have all:∀i∈idx,∃d v,ρ[i]?=some (some d)/\σ[i]?=some (some v)/\bU X.G θ H d v:=λi hi=>by
    have:=Sh.mp hsome _ (List.mem_map_of_mem hi)
    cases e:ρ[i]? with
    |none=>rw[e]at this;simp at this
    |some o=>
     cases o with
     |none=>rw[e]at this;simp at this
     |some d=>obtain⟨v,h1,h2⟩:=fr.2 i d e;exact⟨d,v,rfl,h1,h2⟩
   obtain⟨vs,hvl,hvs,hfr⟩:∃vs:List V,vs.length=idx.length/\(∀(jj:Nat) (v:V),vs[jj]?=some v->∃i,idx[jj]?=some i/\σ[i]?=some (some v))/\Fr X.G θ H (pick ρ idx) (vs.map some):=by
    clear hsome p hix hN2 hix'
    induction idx with
    |nil=>exact⟨[],rfl,by simp,rfl,by simp[pick]⟩
    |cons i is ih=>
     obtain⟨vs,h1,h2,h3⟩:=ih (λi hi=>all i (Sb _ hi));obtain⟨d,v,e1,e2,e3⟩:=all i (SV ..);refine⟨v::vs,by simp[h1],λjj u hu=>?_,by simp[pick,h1],λjj d' hd=>?_⟩
     ·cases jj with
      |zero=>simp at hu;subst hu;exact⟨i,rfl,e2⟩
      |succ jj=>simp at hu;obtain⟨n,k1,k2⟩:=h2 jj u hu;exact⟨n,by simpa using k1,k2⟩
     ·cases jj with
      |zero=>simp[pick,e1]at hd;subst hd;exact⟨v,rfl,e3⟩
      |succ jj=>
       have:(pick ρ is)[jj]?=some (some d'):=by simpa [pick]using hd
       obtain⟨u,k1,k2⟩:=h3.2 jj d' this;exact⟨u,by simpa using k1,k2⟩
   have hjl:=(R6.mp hj).1;have hjt:j<θ.length:=by rw[w.len];exact hjl
   obtain⟨eP,tb⟩:=w.obj j θ[j] _ (R9 hjt) hj;refine DB (N2:=N2) (idx:=idx) (tb:=λE'=>lE X.G E' b) F hr hg hcode ht B S hdef (λn hn=>.inl (pY.free hll hn).1) (λx hx=>(pY.free hll hx).2) hbind hN2 hix' (λf c' clos A outer s H E' hr'=>hbody f c' clos A outer s H E' hr') hdb hs pins s σ H Q I ⟨vs,hvl,hvs,tb.ok,λH1 t1 sm=>?_⟩;obtain⟨ev,w1⟩:=w.L9 I hj t1 sm;refine⟨θ,h,pick ρ idx,w1,hfr.ev ev,?_⟩;have p':=p.later ev
   cases hb:b (pick ρ idx) h with
   |bad=>rw[hb]at p';exact p'.elim
   |ok d h'=>rw[hb]at p';refine λθ' H' ev' w' v r=>⟨by show 1<=sizeLine;decide,λq hq=>?_⟩;exact jM [d] [v] θ' h' H' w' (.cons r .nil) (p'.later ev') q hq
   |exc x h'=>
    rw[hb]at p';simp only[Kd]at p'
    cases hcl:clsAt x.cls with
    |none=>rw[hcl]at p';exact p'.elim
    |some jj=>
     rw[hcl]at p';simp only at p';split at p'
     ·rename_i hcj;refine λθ' H' ev' w' cls da xr=>?_;obtain⟨x1,rfl,_⟩:=xr;refine HX Q cls H' x.cls jj hcl (by simpa using hcj) x1 λH2 t sm2 ht2=>?_;obtain⟨ev2,w2⟩:=w'.grow sm2;obtain⟨ev3,w3,g3⟩:=w2.put (o:=.tup [.str (wordAt jj)]) ht2;exact p' θ' _ ((ev'.trans ev2).trans ev3) w3 _ ⟨⟨t,[.str (wordAt jj)],rfl,g3,.cons rfl .nil⟩,by simp[eR,cQ,IW]⟩
     ·exact p'.elim
  ·exact p.elim
 ·exact p.elim
end
end Ml
namespace L2
open PySem PySem.Spec PyProof.Rows
noncomputable def Oc(H:Hp)(P:Addr):Prop:=∀b,H b=none\/(b≠P/\∃o xs,H b=some (.frz o (.lst xs)))\/(b=P/\H b=some (.tbl #[]))
theorem DZ{K:Vz}
 (KX:K.In s₁.heap)(hns:s₁.heap.Ns mainGlobals mg)(hb:s₁.heap.Ns builtinsNs mb)(hbb:∀x:Str,x ≠ "__name__" -> mb x=bootBuiltins x)(hlim:s₁.heap.NoLimit)(hg:s₁.gens=#[])
 (ha:s₁.heap.get? a=some {cls:=.type "list",data:=.seq vs.toArray})(hi:IntsAre vs ns)(hl:ns.length<=sizeLine)(hr:bZ k callerA)
 (ht:PySem.W.codeHdIn K c Pt=true)(hPK:K.lookup Pt=none)(hP:s₁.heap.get? Pt=some (PySem.W.tabObj #[]))
 (hbm:∃bm ob,mg "__builtins__" = some (.ref bm)/\bm≠builtinsNs/\s₁.heap.get? bm=some ob/\ob.cls=.type "module" /\ ob.dict=some builtinsNs/\ob.data=.plain)
 (F:∀base:Heap,K.In base->base.Ns mainGlobals mg->(∃bm,BMod base mg bm)->jD P w K mg base CX k fa fd [x] sp)(hbind:∀(s:VI) (u:Value),BindsTo s fd ⟨[u],[]⟩ [(x,u)])
 (hsp:∀H:Hp,H Pt=some (.tbl #[])->gF K (xH H Pt) a (ns.map V.int)->sp [.ref a] H (λv _=>v=.bl true) λ_ _ _=>False)
 (hCX:∀H e s',CX [] H s₁ (λ_ _ _=>False) e s'->False) :
  codeAny (model P w) callerA (.call (.ref fa) ⟨[.ref a],[]⟩) (λr s'=>r=.ok (.ret (.bool true))/\OldK s₁.heap s'.heap/\s'.os=s₁.os/\AllBare s'.gens) s₁:=by
 have rv:=wu hi;have lenV:=hi.length;have hPo:s₁.heap.get? Pt=some {cls:=.none,data:=.fields #[]}:=hP
 have apart:a≠Pt:=λe=>by
  grind
 have ict:isCodeTable s₁.heap Pt:=((PySem.W.codeHd_of_K KX ht).tab hP).isCodeTable
 have core:∀H:Hp,Oc H Pt->H Pt=some (.tbl #[])->gF K (xH H Pt) a (ns.map V.int)->ky P w H s₁.heap->(∀b,H b≠none->b=a\/b=Pt)->(H a≠none->K.lookup a=none) ->
   codeAny (model P w) callerA (.call (.ref fa) ⟨[.ref a],[]⟩) (λr s'=>r=.ok (.ret (.bool true))/\OldK s₁.heap s'.heap/\s'.os=s₁.os/\AllBare s'.gens) s₁:=by
  intro H hO hT hS hok hA hK;have base_of:∀{b:Addr} {o:Obj},s₁.heap.get? b=some o->H b=none->(vK s₁.heap H).get? b=some o:=λe n=>En e n
  have noA:∀{b:Addr} {o:Obj} {es:VD} {ep:Nat},s₁.heap.get? b=some o->o.data=.dict es ep->H b=none:=λ{b o es ep} e d=>by
   cases q:H b with
   |none=>rfl
   |some u=>
    rcases hA b (by rw[q];simp)with e'|e'
    ·subst e';rw[ha]at e;cases e;have d':Data.seq vs.toArray _=Data.dict es ep:=d;cases d'
    ·subst e';rw[hPo]at e;cases e;have d':Data.fields #[]=Data.dict es ep:=d;cases d'
  have nsK:∀{b:Addr} {m:Vv},s₁.heap.Ns b m->(vK s₁.heap H).Ns b m:=λ{b m} ⟨o,es,ep,e,d,r⟩=>⟨o,es,ep,base_of e (noA e d),d,r⟩
  have hKb:K.In (vK s₁.heap H):=λb o e=>base_of (KX b o e) (by
   cases q:H b with
   |none=>rfl
   |some u=>
    rcases hA b (by rw[q];simp)with e'|e'
    ·subst e';rw[hK (by rw[q];simp)]at e;cases e
    ·subst e'
     rw[hPK]at e;cases e)
  have hBM:∃bm,BMod (vK s₁.heap H) mg bm:=by
   obtain⟨bm,ob,b1,b2,b3,b4,b5,b6⟩:=hbm;refine⟨bm,b1,b2,ob,base_of b3 ?_,b4,b5,b6⟩
   cases q:H bm with
   |none=>rfl
   |some u=>
    rcases hA bm (by rw[q];simp)with e'|e'
    ·subst e';rw[ha]at b3;cases b3;exact absurd (show Value.type "list" = Value.type "module" from b4) #[8]
    ·subst e';rw[hPo]at b3;cases b3;cases b4
  have hM:Mod K mg (vK s₁.heap H):=⟨hKb,nsK hns,⟨mb,nsK hb,hbb⟩,let ⟨mc,h1,h2⟩:=hlim;⟨mc,nsK h1,h2⟩⟩;have e0:xu P w K mg (vK s₁.heap H) callerA [] s₁ H:=⟨rfl,hM,λb o e=>Hq e,Nat.le_of_eq (C2 _ _),trivial,λb hb=>absurd (show b∈([]:Vx)from hb) #[6],hok,.of_eq hg⟩;refine UY ((F _ hKb (nsK hns) hBM).run callerA [] s₁ H ⟨[.ref a],[]⟩ [.ref a] [.ref a] _ _ hr e0 (hbind s₁ (.ref a)) (.cons rfl .nil) (hsp H hT hS)) λr s' h=>?_
  cases r with
  |error e=>exact(hCX H e s' h).elim
  |ok fl=>
   cases fl with
   |next=>exact False.elim h
   |brk=>exact False.elim h
   |cont=>exact False.elim h
   |ret u=>
    obtain⟨v,H',os,bare,un,hok',r',q⟩:=h;have q':v=.bl true:=q;subst q';obtain rfl:u=Value.bool true:=r'
    have fate:∀b o,s₁.heap.get? b=some o->asItWas s₁.heap s'.heap b o:=λb o e=>by
     rcases hO b with z|⟨_,ob,xs,z⟩|⟨e1,z⟩
     ·exact .inl (un.keep b o e z (by intro z;exact absurd (show b∈([]:Vx)from z) #[6]) #[6])
     ·have z2:=un.frzs b ob _ z;obtain⟨e1,_⟩:=hok b _ z;obtain⟨e2,_⟩:=hok' b _ z2;rw[e]at e1;cases e1;exact .inl e2
     ·subst e1;obtain⟨more,z2⟩:=un.tbls b #[] z;have e2:s'.heap.get? b=some {cls:=.none,data:=.fields (#[]++more)}:=hok' b _ z2;rw[e]at hPo;cases hPo;exact .inr (.inl ⟨ict,rfl,#[],more,rfl,e2⟩)
    refine⟨rfl,⟨fate,λb o e=>?_⟩,os,bare⟩;rcases hO b with z|⟨_,ob,xs,z⟩|⟨e1,z⟩
    ·exact⟨o,un.keep b o e z (by intro z;exact absurd (show b∈([]:Vx)from z) #[6]) #[6]⟩
    ·have z2:=un.frzs b ob _ z;obtain⟨e2,_⟩:=hok' b _ z2;exact⟨_,e2⟩
    ·obtain⟨more,z2⟩:=un.tbls b #[] z;exact⟨_,hok' b _ z2⟩
 cases hk:K.lookup a with
 |some o=>
  have e:=KX a o hk;rw[ha]at e;cases e;refine core (λb=>if b=Pt then some (.tbl #[])else none) (λb=>?_) (if_pos rfl) (.inr ⟨_,vs.toArray,_,hk,rfl,rfl,rfl,by rw[Si,lenV];exact hl,by simpa using rv⟩) (λb u z=>?_) (λb z=>?_) λz=>absurd (if_neg apart) z
  ·by_cases e1:b=Pt
   ·exact .inr (.inr ⟨e1,if_pos e1⟩)
   ·exact .inl (if_neg e1)
  ·by_cases e1:b=Pt
   ·have z':=(if_pos e1).symm.trans z;cases z';subst e1;exact hPo
   ·have z':=(if_neg e1).symm.trans z;cases z'
  ·by_cases e1:b=Pt
   ·exact .inr e1
   ·exact absurd (if_neg e1) z
 |none=>
  refine core (λb=>if b=Pt then some (.tbl #[])else if b=a then some (.frz {cls:=.type "list",data:=.seq vs.toArray} (.lst (ns.map V.int)))else none) (λb=>?_) (if_pos rfl) (.inl (.inr ⟨{cls:=.type "list",data:=.seq vs.toArray},by rw[AS apart,if_neg apart,if_pos rfl]⟩)) (λb u z=>?_) (λb z=>?_) λ_=>hk
  ·by_cases e1:b=Pt
   ·exact .inr (.inr ⟨e1,if_pos e1⟩)
   ·by_cases e2:b=a
    ·exact .inr (.inl ⟨e1,_,_,(if_neg e1).trans (if_pos e2)⟩)
    ·exact .inl ((if_neg e1).trans (if_neg e2))
  ·by_cases e1:b=Pt
   ·have z':=(if_pos e1).symm.trans z;cases z';subst e1;exact hPo
   ·by_cases e2:b=a
    ·have z':=((if_neg e1).trans (if_pos e2)).symm.trans z;cases z';subst e2;exact⟨ha,by rw[Ss];exact hl,vs,_,rv,ha⟩
    ·have z':=((if_neg e1).trans (if_neg e2)).symm.trans z;cases z'
  ·by_cases e1:b=Pt
   ·exact .inr e1
   ·by_cases e2:b=a
    ·exact .inl e2
    ·exact absurd ((if_neg e1).trans (if_neg e2)) z
theorem Gj{l:PySem.W.OpenLaw}{K:Params->Vz}{CX:World->HA}{sp:World->Sp}
 (hn:l.most=some n)(hn2:n<=sizeLine)(hdf:d.params.defaults=[])(hr:bZ k callerA)
 (hY:∀(w:World) (h:Heap),YP w h->(K w.params).In h)(hYt:∀(w:World) (h:Heap),YP w h->h.get? Pt=some (PySem.W.tabObj #[]))(hPK:∀w:World,(K w.params).lookup Pt=none)
 (F:∀(w:World) (mg:Vv) (fa:Addr) (h:Heap),(K w.params).In h->h.Ns mainGlobals mg->mg d.name=some (.ref fa) ->
   ∃(fd:FuncData) (c:Addr),PySem.W.codeHdIn (K w.params) c Pt=true/\(∀(s:VI) (u:Value),BindsTo s fd ⟨[u],[]⟩ [(x,u)]) /\
    ∀base:Heap,(K w.params).In base->base.Ns mainGlobals mg->(∃bm,BMod base mg bm)->jD l.prog w (K w.params) mg base (CX w) k fa fd [x] (sp w))
 (hsp:∀(w:World) (H:Hp) (a:Addr) (ns:List Int),ns.length<=n->H Pt=some (.tbl #[])->gF (K w.params) (xH H Pt) a (ns.map V.int)->sp w [.ref a] H (λv _=>v=.bl true) λ_ _ _=>False)
 (hCX:∀(w:World) (H:Hp) (s:VI) (e:Value) (s':VI),CX w [] H s (λ_ _ _=>False) e s'->False) :
  PySem.W.WalkO q loose XP YP l.row.toRowW d [] (λf vs=>PySem.call f vs):=by
 refine Att.yY hn hdf λw s₀ s₁ mg mb fa o pm cd doc a vs ns G Y ho hd hcd hmg hobj hints hlen hg=>?_;have KX:=hY w _ Y;obtain⟨fd,c,hc,hb,hF⟩:=F w mg fa _ KX G.T.g hmg;exact DZ KX G.T.g G.T.b G.T.builtins G.T.nolimit hg hobj hints (Sd hlen hn2) hr hc (hPK w) (hYt w _ Y) G.T.bmain hF hb (λH hT hS=>hsp w H a ns hlen hT hS) λH e s'=>hCX w H s₁ e s'
end L2
namespace Ml
open PySem PySem.Spec L2
noncomputable def M6(K:Vz)(mg:Vv)(x:Str)(ps:VA)(st:Stmt)(Pt:Addr):Prop:=∃(f c:Addr) (oc kV dc pm ct:Value) (od an:Option Addr) (osl:VC),mg x=some (.ref f)/\K.lookup f=some ⟨oc,od,.func (PySem.W.fnOf x x (fc st) (bA st) (ao st) .none kV dc pm an (.ref c) ct),osl⟩ /\
 PySem.W.codeIn K (.ref c) x=true/\PySem.W.codeHdIn K c Pt=true/\PySem.W.keepIn K (.ref f)=true/\Binds K (PySem.W.fnOf x x (fc st) (bA st) (ao st) .none kV dc pm an (.ref c) ct) ps []
theorem Ma{oc kV dc pm ct:Value}(X:K.In h)(G:h.Ns mainGlobals mg)
 (a:PySem.W.nsIn K mainGlobals x=some (some (.ref f)))(l:K.lookup f=some ⟨oc,od,.func (PySem.W.fnOf x x (fc st) (bA st) (ao st) .none kV dc pm an (.ref c) ct),sl⟩)(cd:PySem.W.codeIn K (.ref c) x=true)(ht:PySem.W.codeHdIn K c Pt=true)(k:PySem.W.keepIn K (.ref f)=true)
 (hb:∀(kV doc pm:Value) (an:Option Addr) (cdv ct:Value) (us:Vy),us.length=ps.length->bindArgs (PySem.W.fnOf x x (fc st) (bA st) (ao st) .none kV doc pm an cdv ct) ⟨us,[]⟩=pure (ps.zip us)):M6 K mg x ps st Pt:=
 ⟨f,c,_,_,_,_,_,_,_,_,Sm X G a,l,cd,ht,k,(xA (st:=st) l cd k).binds hb⟩
section
variable {P:VG} {w:World} {K:Vz} {mg:Vv} {base:Heap} {x:Str} {st:Stmt} {ps N:VA} {k:Nat} {b:MS} {F:Fn} {Pt:Addr}
theorem M6.has(d:M6 K mg x ps st Pt)(S:aH N ps (ao st))(hbody:∀(f c:Addr) (A:VH) (outer:List Env) (s:VI) (H:Hp) (E:XK),PySem.W.codeHdIn K c Pt=true->bZ k (A.deeper (PyProof.Rows.envOfC x (ao st) #[9] f (.ref c))) ->
   Cd (fk (iF P w) P w K mg base N x (ao st) f (.ref c) A outer s H E) E b (bA st)):aT P w K mg base x ps (k+1) (bz ps.length N.length b):=by
 simp only[jL]at *;obtain⟨f,c,oc,kV,dc,pm,ct,od,an,osl,h1,lk,hcd,ht,kp,bd⟩:=d;refine⟨⟨f,_,h1,kp,bd,?_⟩,mO⟩;refine JZ lk hcd S (Cj mO) λA outer s H vs Q E hr ⟨θ,h,ds,w,r,p⟩=>⟨_,hbody f c A outer s H E ht hr,?_⟩;unfold bz at p;split at p
 ·rename_i hl;refine⟨θ,h,_,w,Fr.start (N:=N) (n:=0) r hl,(aE.bind p).mono λfl θ1 h1 H1 _ _ ⟨ev,w1,p1⟩=>?_⟩
  cases fl with
  |nx ρ=>exact λσ fr=>p1 θ1 H1 Ev.refl w1 _ ⟨rfl,by rfl⟩
  |rt d=>exact p1 θ1 H1 Ev.refl w1
  |bk ρ=>trivial
  |ct ρ=>trivial
 ·exact p.elim
end
noncomputable def Gk(K:Vz)(Pt:Addr):Sp:=λvs H Q _=>∃(a:Addr) (ns:List Int),vs=[.ref a]/\gF K (xH H Pt) a (ns.map V.int)/\ns.length<=63/\H Pt=some (.tbl #[])/\∀H',Q (.bl true) H'
theorem Gm(P:Addr)(H:Hp):view [P] H=xH H P:=by grind[view,xH]
theorem D0(hp:∀ns:List Int,ns.length<=63->∃h,F [.scr ns] [.tab Pt q]=.ok (.bool true) h)(z:Gk G.K Pt vs H Q E):Hg G F vs H Q E:=by
 obtain⟨a,ns,rfl,hs,hl,ht,k⟩:=z;obtain⟨h',e⟩:=hp ns hl;refine⟨[Pt],[.tab Pt q],[.scr ns],⟨rfl,by simp,λi b o e1 e2=>?_⟩,.cons ⟨a,rfl,by grind[Gm]⟩ .nil,?_⟩
 ·cases i with
  |zero=>simp at e1 e2;subst e1;subst e2;exact⟨rfl,#[],ht,by trivial,λpos c e=>by trivial⟩
  |succ i=>grind
 ·rw[e];intro θ' H' _ _ v r;cases r.1
  grind
end Ml
namespace Wh
open PySem L2
noncomputable def Mb:Stmt->Expr
 |.Assign _ v _=>v
 |_=>.Constant .none 0 ⟨0,0,0,0⟩
noncomputable def Mc:Stmt->Pos
 |.Assign _ _ p=>p
 |_=>⟨0,0,0,0⟩
noncomputable def Od:Stmt->Pos
 |.Assign [.Name _ q] _ _=>q
 |_=>⟨0,0,0,0⟩
noncomputable def Oe:Expr->VB
 |.List es _=>es
 |_=>[]
noncomputable def Md:Expr->Pos
 |.List _ p=>p
 |_=>⟨0,0,0,0⟩
noncomputable abbrev Hh(l:List Stmt)(i:Nat):Stmt:=l.getD i (.Pass ⟨0,0,0,0⟩)
theorem Me{X:Cx}{i:Nat}{x:Str}{e:Expr}{d:PyData}{n:Nat}{q p lp:Pos}{es:VB}(he:e=.List es lp)(hl:Lit n e d)(hN:X.N.Nodup)(hi:X.N[i]?=some x)(hx:Loc X.env.scope x)(hf:X.fn x=true):PS X (.Assign [.Name x q] e p) (C4 (E4 d) (ax i)):=
 qv (i:=i) hN hi hx (@E5 X n e d hl) (by rw[he];rfl) (Or.inl hf)
theorem wX{H:Hp}:∀{ns:VA} {vs:List V},bg H (ns.map .str) vs->vs=ns.map V.str
 | [],_,h=>h
 |n::ns,_,⟨w,ws,e,h,r⟩=>by subst e;have h':w=.str n:=h;rw[h',wX r];rfl
structure IX(mg:Vv)(cs:Nat->Addr):Prop where
 ve:mg "ValueError" = none
 m0:mg "NoWeb" = some (.ref (cs 0))
 m1:mg "NoLot" = some (.ref (cs 1))
 m2:mg "NoName" = some (.ref (cs 2))
 m3:mg "NoKind" = some (.ref (cs 3))
 m4:mg "NoPair" = some (.ref (cs 4))
 m5:mg "NoChanges" = some (.ref (cs 5))
 m6:mg "NoCount" = some (.ref (cs 6))
 m7:mg "NoShut" = some (.ref (cs 7))
 m8:mg "NoWay" = some (.ref (cs 8))
 m9:mg "NoJoint" = some (.ref (cs 9))
 m10:mg "NoSide" = some (.ref (cs 10))
 m11:mg "NoDeed" = some (.ref (cs 11))
 m12:mg "TooMany" = some (.ref (cs 12))
 m13:mg "NoText" = some (.ref (cs 13))
structure Kind(K:Vz)(cs:Nat->Addr)(D:Addr)(j:Nat):Prop where
 ec:Lw K D
 lt:j<12
 k:∀i,i<14->PySem.W.kitOne K (.ref D) (.ref (cs i))=some (decide (i=j))
 v:PySem.W.kitOne K (.ref D) (.type "ValueError")=some true
noncomputable def marks(j:Nat):List Bool:=[decide (0=j),decide (1=j),decide (2=j),decide (3=j),decide (4=j),decide (5=j),decide (6=j),decide (7=j),decide (8=j),decide (9=j),decide (10=j),decide (11=j),decide (12=j),decide (13=j)]
theorem Gn:∀j,j<12->(marks j).countP (λb=>b)=1/\(marks j)[j]?=some true/\(∀m,m<j->(marks j)[m]?=some false)/\(marks j)[12]?=some false/\(marks j)[13]?=some false:=by decide
noncomputable abbrev fX:=Ml.fX
noncomputable abbrev wordAt:=Ml.wordAt
theorem D1:∀j,j<12->(fX++(["many", "text"]:VA))[j]?=some (wordAt j):=by decide +kernel
noncomputable def tu(K:Vz)(cs:Nat->Addr):Sp:=λvs H Q _=>∃a D j,vs=[.ref a]/\H a=some (.ext (eB a (.ref D)))/\Kind K cs D j/\∀H' t,aW H H'->H' t=none->Q (.ref t) (upd H' t (.tup [.str (wordAt j)]))
theorem Of:bootBuiltins "ValueError" = some (.type "ValueError"):=by decide +kernel
theorem fI{X:Cx}{x:Str}{C:Addr}{p p1 p2 pos:Pos}(K:Vz)(hK:X.K=K)(B:X.mg "isinstance" = none)(hN:X.N[0]?=some ("_law_e" : Str))(hv:Eo X.env.scope "_law_e")(hm:X.mg x=some (.ref C))(g1:Gl X "isinstance")(g2:Gl X x)(hd:(x==("__debug__" : Str))=false)
 (h1:starEach [.Name "_law_e" p1,.Name x p2] X.env=(false,eval (.Name "_law_e" p1) X.env)::starEach [.Name x p2] X.env)(h2:starEach [.Name x p2] X.env=(false,eval (.Name x p2) X.env)::starEach [] X.env)(h3:(backTo pos (starEach [.Name x p2] X.env)).any (·.1)=false) :
  PE X (.Call (.Name "isinstance" p) [.Name "_law_e" p1,.Name x p2] [] pos) (OW (J3 K) (wj (Hs 0) (wj (tC (.ref C)) EL))):=by
 subst hK;exact pf wy g1 B iW (aZ (xo hN hv #[4] #[4]) (aZ (sV g2 hm rfl hd) dW h2) h1) #[4] #[4] h1 h3
noncomputable def IY:Stmt->List Stmt
 |.Try b _ _ _ _=>b
 |_=>[]
noncomputable def Mf:Stmt->Pos
 |.Try _ _ _ _ p=>p
 |_=>⟨0,0,0,0⟩
noncomputable def Gp:Stmt->List Stmt
 |.Try _ [.ExceptHandler _ _ b _] _ _ _=>b
 |_=>[]
noncomputable def IZ:Stmt->Pos
 |.Try _ [.ExceptHandler _ _ _ p] _ _ _=>p
 |_=>⟨0,0,0,0⟩
noncomputable def Ja:Stmt->Pos
 |.Try _ [.ExceptHandler (some (.Name _ p)) _ _ _] _ _ _=>p
 |_=>⟨0,0,0,0⟩
noncomputable def Ra(K:Vz)(cs:Nat->Addr):TS:=KC (BJ (tu K cs) [] E0 (wj (Hs 1) EL))
noncomputable abbrev Gi:=Ml.Gi
noncomputable def zE(K:Vz)(cs:Nat->Addr)(WE:Addr)(Q:VK):XK:=λcls _ H'=>PySem.W.exmOne K cls (.ref WE)=some true/\∀(a:Addr) (σ':St),H' a=none->σ'.length=2 ->
 Ra K cs {nx:=λ_ H''=>Q .non H'',rt:=Q} (σ'.set 1 (some (.ref a))) (upd H' a (.ext (eB a cls)))
theorem Gq{K:Vz}{cs:Nat->Addr}{WE D:Addr}{Q:VK}{H:Hp}{j:Nat}(kd:Kind K cs D j)(hm:PySem.W.exmOne K (.ref D) (.ref WE)=some true)(k:∀H' t,aW H H'->H' t=none->Q (.ref t) (upd H' t (.tup [.str (wordAt j)]))):zE K cs WE Q (.ref D) none H:=by
 refine⟨hm,λa σ' ha hl=>?_⟩;have:(σ'.set 1 (some (.ref a)))[1]?=some (some (.ref a)):=by rw[Tb #[3]]
 refine⟨_,this,a,D,j,rfl,aG,kd,λH' t s ht=>k H' t (λb o e=>s b o ?_) ht⟩;rw[au (aB e ha)];exact e
noncomputable def Refs(K:Vz)(cs:Nat->Addr)(WE:Addr)(cl:List Nat):Prop:=∀j∈cl,Kind K cs (cs j) j/\PySem.W.exmOne K (.ref (cs j)) (.ref WE)=some true
theorem Mg{mg:Vv}{cs:Nat->Addr}(C:IX mg cs){x:Str}{j:Nat}(h:Ml.clsAt x=some j):mg x=some (.ref (cs j)):=by
 unfold Ml.clsAt at h;rw[List.findIdx?_eq_some_iff_getElem]at h;obtain⟨hl,e,_⟩:=h;have e:=eq_of_beq e
 match j,hl with
 |0,_=>exact e▸C.m0
 |1,_=>exact e▸C.m1
 |2,_=>exact e▸C.m2
 |3,_=>exact e▸C.m3
 |4,_=>exact e▸C.m4
 |5,_=>exact e▸C.m5
 |6,_=>exact e▸C.m6
 |7,_=>exact e▸C.m7
 |8,_=>exact e▸C.m8
 |9,_=>exact e▸C.m9
 |10,_=>exact e▸C.m10
 |11,_=>exact e▸C.m11
theorem Og{K:Vz}{mg:Vv}{cs:Nat->Addr}{WE:Addr}{cl:List Nat}(C:IX mg cs)(R:Refs K cs WE cl):Ml.Cw mg cl (zE K cs WE):=λQ cls H x j hx hj hm k=>by have e:=Mg C hx;rw[hm]at e;cases e;exact Gq (R j hj).1 (R j hj).2 k
noncomputable def Qk(l:Vx)(i:Nat):Addr:=l.getD i 0
noncomputable def kindB(K:Vz)(l:Vx)(D WE:Addr)(j:Nat):Bool:=decide (j<12)&&((List.range 14).all λi=>PySem.W.kitOne K (.ref D) (.ref (Qk l i))==some (decide (i=j)))&&(PySem.W.kitOne K (.ref D) (.type "ValueError")==some true)&&(PySem.W.exmOne K (.ref D) (.ref WE)==some true)
theorem zF{K:Vz}{l:Vx}{D WE:Addr}{j:Nat}(h:kindB K l D WE j=true)(e:Lw K D):Kind K (Qk l) D j/\PySem.W.exmOne K (.ref D) (.ref WE)=some true:=by simp only[kindB,R4,Sv,beq_iff_eq]at h;refine⟨⟨e,h.1.1.1,λi hi=>?_,h.1.2⟩,h.2⟩;have:=Sh.mp h.1.1.2 i (SM.mpr hi);simpa using this
end Wh
namespace Ml
open PySem
noncomputable def wY:MS:=aY (iI (pb (cY (aU (wD (kX isStr) (ae 0)))) (cY (aM (lu oLe oLe (aj (.int 1)) (ag gH #[18]) (aj (.int 6)))))) #[19] bO)
    (bF (ag kM (aa (bX 1 (aP (ae 0)) (ax 0) dh (lu oLe oLe (aj (.str "a")) (ae 0) (aj (.str "z")))) ai)))
noncomputable def jt:Fn:=bz 1 1 wY
noncomputable def rO:MS:=bF (ag kM (aa (bX 2 (wF (aa (ae 0) (aa (DK (ae 0) (ik (aj (.int 1))) kC) ai))) (ji (cb (ax 0) (cb (ax 1) jh))) dh (ak oLt (ae 0) (ae 1))) ai))
noncomputable def gz:Fn:=bz 1 1 rO
noncomputable def rP:MS:=aY (iI (pb (cY (aU (wD (kX isTup) (ae 0)))) (aM (ak Em (ag gH #[18]) (aj (.int 12))))) #[19] bO)
    (bF (nE (ag kM (aa (bX 1 (aP (ae 0)) (ax 0) dh (ag jt #[18])) ai)) (ag gz #[18])))
noncomputable def iL:Fn:=bz 1 1 rP
noncomputable def lz:MS:=aY (iI (pb (cY (aU (wD (kX isTup) (ae 0)))) (aM (ak t7 (ag gH #[18]) (aj (.int 2))))) #[19] bO)
    (bF (nE (ak t9 (ak eK (ae 0) (aj (.int 0))) (ae 1)) (ak t9 (ak eK (ae 0) (aj (.int 1))) (ae 1))))
noncomputable def dB:Fn:=bz 2 2 lz
noncomputable def i6:MS:=aY (iI (cY (aU (wD (kX isTup) (ae 0)))) #[19] bO)
    (bF (nE (ag kM (aa (bX 1 (aP (ae 0)) (ax 0) dh (ag dB (aa (ae 0) (aa (ae 2) ai)))) ai)) (ag gz #[18])))
noncomputable def dR:Fn:=bz 2 2 i6
noncomputable def uF:MS:=aY (iI (pb (cY (aU (wD (kX isTup) (ae 0)))) (aM (ak t7 (ag gH #[18]) (aj (.int 2))))) #[19] bO)
    (aY (ng (ji (cb (ax 1) (cb (ax 2) jh))) (ae 0))
    (bF (nE (ag iL (aa (ae 1) ai)) (ag dR (aa (ae 2) (aa (ae 1) ai))))))
noncomputable def fJ:Fn:=bz 1 3 uF
noncomputable def jS:MS:=iI (cY (aU (ag fJ #[18]))) (yg "NoWeb" (aa (aj (.str "no web, a tuple (names, strikes)")) ai)) bO
noncomputable def eF:Fn:=bz 1 1 jS
noncomputable def rQ:MS:=bF (ag kM (aa (bX 1 (aP (ae 0)) (ax 0) dh (ak t9 (ae 0) (ae 2))) ai))
noncomputable def cU:Fn:=bz 2 2 rQ
end Ml
namespace L2
open PySem PySem.Spec PyProof.Rows
theorem zG(I:Nat->VI->Prop)
 (turn:∀n s,I n s->wpAny #[14] A (pyNext it) (λr s1=>match r with
   |none=>R (.ok .next) s1
   |some v=>wpAny #[14] A (letOwnedTupleGo target it v) (λ_ s2=>wpAny #[14] A (assign target env v) (λ_ s3=>
     wpAny #[14] A (forIn ifs true λc r=>if r=true then do let ok <- isTrue c env (eval c env);pure (ForInStep.yield ok)else pure (ForInStep.yield r)) (λok s4=>
      if ok=true then wpAny #[14] A (eval kx env) (λx s5=>wpAny #[14] A (eval vx env) (λy s6=>
       wpAny #[14] A (dictSet D x y) (λ_ s7=>∃m,m<n/\I m s7) (λ_ _=>False) s6) (λ_ _=>False) s5) (λ_ _=>False) s4
      else ∃m,m<n/\I m s4) (λ_ _=>False) s3) (λ_ _=>False) s2) (λ_ _=>False) s1) (λ_ _=>False) s)
 (n:Nat)(h:I n s) :
  codeAny #[14] A (.compLoop (.DictComp kx vx [⟨target,iter,ifs,0⟩] scope pos) 0 it (.ref D) env) R s:=by
 refine codeAny_loop rfl I (λn s hI=>?_) n h;show wpAny _ A ((compTurn (.DictComp kx vx [⟨target,iter,ifs,0⟩] scope pos) 0 it (.ref D) env).onRaise (λx=>do noteFrame x env;theTreesLotGoes x)) _ _ s;refine wpAny_noted ?_;rw[compTurn_dict];refine S3 (E:=λ_ _=>False) (E':=_) (Q':=_) ?_ (λ_ _ q=>q) λ_ _ z=>z.elim;refine R0 (Uk (R0 (bS (turn n s hI) (λr s1 h1=>?_))))
 cases r with
 |none=>exact R3 h1
 |some v=>
  refine R0 (bS h1 λ_ s2 h2=>?_);refine R0 (bS h2 λ_ s3 h3=>R0 (bS h3 λok s4 h4=>?_))
  cases ok with
  |false=>exact R3 ⟨rfl,h4⟩
  |true=>exact R0 (R0 (bS h4 λx s5 h5=>R0 (SH (bS h5 λy s6 h6=>R0 (Uk (SH (bS h6 λ_ s7 h7=>R3 ⟨rfl,h7⟩)))))))
noncomputable def Oh{τ:Type}(P:VG)(w:World)(A:VH)(ok:τ->Obj->Prop)(t:τ)(y z:V)(H:Hp)(N:τ->Hp->Prop):Prop:=
 ∀(Y:Cx) (pins:Vt) (σ:St) (s:VI) (D:Addr) (o:Obj) (u r:Value) (Q:Unit->VI->Prop) (E:Vs),Y.prog=P->Y.w=w->Inv Y pins σ H s->s.heap.get? D=some o->ok t o->RelV y u->RelV z r ->
  (∀(h':Heap) (o':Obj) (tk:Nat) (t':τ),N t' H->h'.get? D=some o'->ok t' o'->Heap.SameBut D s.heap h'->Q () {s with heap:=h',toks:=tk})->wpAny (model P w) A (dictSet D u r) Q E s
noncomputable def A4{τ:Type}(P:VG)(w:World)(A:VH)(ok:τ->Obj->Prop)(t0:τ)(n:Nat)(J:It)(g:TG)(tc:TT)(tk tv:TE)(σ:St)(H:Hp)(Q:VK):Prop:=
 ∃W:Nat->Nat->τ->Hp->Prop,(∃m,W 0 m t0 H)/\∀i m t H,W i m t H ->
  (J.stop i H/\∀p o,H p=none->ok t o->∃ho,(∀H' h,h.get? p=some o->p≠sysModules->bW P w H' h p ho)/\Q (.ref p) (upd H p ho)) \/
  (J.go i H/\∃N:τ->Hp->Prop,(∀t' H',N t' H'->∃m',m'<m/\W (i+1) m' t' H')/\∀x H',J.yld i H x H'->g x (List.replicate n none++σ) H' λσ2 H2=>tc σ2 H2 λb H3=>
   if b=true then tk σ2 H3 λy H4=>tv σ2 H4 λz H5=>Oh P w A ok t y z H5 N else N t H3)
theorem zH{own:VA}{scope:Scope}{pins:Vt}{σ:St}{H2:Hp}{s2:VI}{fp:Vx}{it:Addr}{tn:Nat->Heap->Prop}{J:It}{kx vx tg iter:Expr}{ifs:VB}{pos:Pos}{g:TG}{tc:TT}{tk tv:TE}{Q:VK}
 {RR:Value->Addr->Result->VI->Prop}{E:Vs}(I:Inv X pins σ H2 s2)(CS:df X.env.scope X.N own scope)(hc:X.calm=true)(T:Turn X.prog X.w X.K tg J fp it tn)(st:tn 0 s2.heap)(hf:∀b∈fp,kP X pins H2 b)
 (hg:∀C s2 H2 fp pins,PG #[11] tg g)(ht:∀C s2 H2 fp pins,HL #[11] ifs tc)(hk:∀C s2 H2 fp pins,PE #[11] kx tk)(hv:∀C s2 H2 fp pins,PE #[11] vx tv)
 (ok0:ok t0 {cls:=.type "dict",dict:=none,data:=.dict #[]})(okd:∀t o,ok t o->∃es ep,o.data=.dict es ep)
 (hW:A4 X.prog X.w X.A ok t0 own.length J g tc tk tv σ H2 Q)
 (hR:∀D C H' s',Inv X pins σ H' s'->kP X pins H' C->(∃m,s'.heap.Ns C m)->Q (.ref D) H'->Kept X fp H2 H' s2 s'->RR (.ref D) C (.ok .next) s') :
  wpAny #[12] X.A newDict (λacc s3=>wpAny #[12] X.A (newFunctionEnv scope X.env.globals (cT X.env.cells scope.names []) [] X.env.qual none .none (some X.env)) (λcenv s4=>
   codeAny #[12] X.A (.compStart (.DictComp kx vx [⟨tg,iter,ifs,0⟩] scope pos) 0 (.ref it) acc {cenv with scope:=relabel scope X.env}) (RR acc cenv.locals) s4) E s3) E s2:=by
 refine Su (ni ?_);dsimp only;generalize hH:s2.heap.push {cls:=.type "dict",dict:=none,data:=.dict #[]}=h3;have hDC:h3.objs.size=s2.heap.objs.size+1:=by rw[<- hH,TN]
 have eC:({scope:=relabel scope X.env,locals:=h3.objs.size,globals:=X.env.globals,cells:=cellsFrom (h3.objs.size+1) scope.names (cT X.env.cells scope.names []),qual:=X.env.qual,func:=none,code:=X.env.code,frame:=X.env.frame,builtins:=X.env.builtins}:Env)=nV scope h3.objs.size X.env:=rfl;rw[eC];generalize eD:s2.heap.objs.size=D at *;generalize eCC:h3.objs.size=C at *;have hl:∀b∈fp,b<s2.heap.objs.size:=λb hb=>by obtain⟨o,e,_⟩:=T.obj 0 _ st b hb;exact R7 e
 have hC:s2.heap.objs.size<=C:=by omega
 generalize hH4:pushCells (h3.push {cls:=.type "dict",data:=.dict #[]}) scope.names=h4;have k34:∀b o,(h3.push {cls:=.type "dict",data:=.dict #[]}).get? b=some o->h4.get? b=some o:=λb o e=>by rw[<- hH4];exact pushCells_keeps _ _ b o e
 have k24:∀b o,s2.heap.get? b=some o->h4.get? b=some o:=λb o e=>k34 b o (R1 _ (by rw[<- hH];exact R1 _ e));have nsC:h4.Ns C λ_=>none:=by have:=Heap.Ns.new h3 (.type "dict");rw[eCC]at this;exact this.keeps k34
 have accD:h4.get? D=some {cls:=.type "dict",dict:=none,data:=.dict #[]}:=k34 _ _ (R1 _ (by rw[<- hH,<- eD];exact R8 _ rfl));have cellN:∀x c,(x,c)∈cellsFrom (C+1) scope.names []->h4.IsCell c none/\C+1<=c:=λx c hm=>by have ok:=cellsFrom_ok scope.names (h3.push {cls:=.type "dict",data:=.dict #[]}) (C+1) [] ⟨λ_ _ hm=>(nomatch hm),List.Pairwise.nil⟩ (by rw[TN];omega);rw[TN,eCC,hH4]at ok;exact ok.empty x c hm
 have hne:H2 D=none:=by rw[<- eD];exact I.hok.fresh (R5 _)
 have ok':#[11].Ok:=BQ I CS hC hf hl
 have rebase:∀{σ':St} {H':Hp} {ps:Vt} {s':VI},Inv #[11] ps σ' H' s'->Inv #[11] ps (List.replicate own.length none++σ) H' s':=λ{σ' H' ps s'} J'=>by
  obtain⟨m,hn,_⟩:=J'.loc;refine⟨J'.ok,J'.os,J'.bare,J'.base,⟨m,hn,pj I CS λc v z ⟨x,hx⟩=>?_⟩,J'.cell,J'.free,J'.freeC,J'.pin,J'.hok,?_⟩
  ·obtain⟨o,ho,hd⟩:=z;obtain⟨sl,e⟩:=J'.base.any ho (I.freeC x c hx) λhb=>(hf c hb).2.2.2.2.1 x c hx rfl;exact⟨_,e,hd⟩
  ·show(List.replicate own.length none++σ).length=(own++X.N).length;rw[SE,SE,Tn,I.len]
 have start:Inv #[11] [] (List.replicate own.length none++σ) H2 {s2 with heap:=h4}:=by
  have I4:Inv X pins σ H2 {s2 with heap:=h4}:=I.kept (t':=s2.toks) k24;refine⟨ok',rfl,I.bare,Un.kept k24,⟨_,nsC,pj I CS λc v z _=>z.keeps k24⟩,λx c h=>?_,I.hok.fresh hC,λx c h=>?_,λp hp=>?_,I4.hok,?_⟩
  ·rcases cK h with⟨a,_,_⟩|a
   ·exact⟨_,(cellN x c a).1⟩
   ·obtain⟨v,z⟩:=I.cell x c (gu I CS a).2;exact⟨v,z.keeps k24⟩
  ·rcases cK h with⟨_,_,a⟩|a
   ·exact I.hok.fresh (Sd hC (Sd (Ui _) a))
   ·exact I.freeC x c (gu I CS a).2
  ·have hp':p∈X.pn++pins:=by
    rcases Sw.mp hp with z|z
    ·exact z
    ·exact nomatch z
   obtain⟨e,n,ne,nf,d⟩:=I.pin p hp';refine⟨k24 _ _ e,n,Sg (Sa (R7 e) hC),λz=>?_,d⟩;rcases Sf.mp (I.iV _ z)with q|q
   ·exact ne q
   ·exact nf q
  ·show(List.replicate own.length none++σ).length=(own++X.N).length;rw[SE,SE,Tn,I.len]
 obtain⟨W,⟨m0,w0⟩,turn⟩:=hW
 have nfs:∀b,s2.heap.objs.size<=b->b∉#[11].fs:=λb hb z=>by
  rcases Sf.mp (I.iV b z)with q|q
  ·rw[q]at hb;exact absurd (Sa I.lt hb) (Sj _)
  ·exact I.Ep hb q
 have fpD:∀{H':Hp},H' D=none->kP #[11] [] H' D:=λ{H'} hn=>by
  refine⟨hn,Sg (by show D<C;omega),nfs D #[3],.inr (by show s2.heap.objs.size<=D;omega),λx c h z=>?_,λp hp z=>?_⟩
  ·rcases cK h with⟨_,_,a⟩|a
   ·rw[z]at a;exact absurd (Sa (show D<C+1 by omega) a) (Sj _)
   ·obtain⟨v,q⟩:=I.cell x c (gu I CS a).2;have:=q.lt;rw[z,eD]at this;exact Sj _ this
  ·have hp':p∈X.pn++pins:=by
    rcases Sw.mp hp with z|z
    ·exact z
    ·exact nomatch z
   have:=R7 (I.pin p hp').1;rw[z,eD]at this;exact Sj _ this
 have nD:D∉fp:=λz=>by have:=hl D z;rw[eD]at this;exact Sj _ this
 have stat:∀{H':Hp} {ps:Vt},(∀p∈ps,p.1=D)->(∀b∈fp,H' b=none)->∀b∈fp,kP #[11] ps H' b:=λ{H' ps} hps hn b hb=>by
  obtain⟨f0,f1,f2,f3,f4,f5⟩:=hf b hb;refine⟨hn b hb,(ok'.exf b hb).1,ok'.exfs b hb,.inl hb,(ok'.exf b hb).2,λp hp=>?_⟩;rcases Sw.mp hp with z|z
  ·exact f5 p z
  ·rw[hps p z];exact λq=>nD (q▸hb)
 let LI:Nat->VI->Prop:=λn s'=>∃i t o H',Inv #[11] [] (List.replicate own.length none++σ) H' s'/\tn i s'.heap/\(∀b∈fp,H' b=none)/\H' D=none /\
  s'.heap.get? D=some o/\ok t o/\W i n t H'
 have l0:LI m0 {s2 with heap:=h4}:=⟨0,t0,_,H2,start,T.keep _ _ _ st λb _ o e=>k24 b o e,λb hb=>(hf b hb).1,hne,accD,ok0,w0⟩
 have loop:codeAny #[12] X.A (.compLoop (.DictComp kx vx [⟨tg,iter,ifs,0⟩] scope pos) 0 (.ref it) (.ref D) (nV scope C X.env)) (RR (.ref D) C) {s2 with heap:=h4}:=by
  refine zG LI ?_ m0 l0;rintro n s3 ⟨i,t,oD,H3,I3,st3,fr3,d3,a3,v3,w3⟩;obtain⟨es0,ep0,dd3⟩:=okd t oD v3;rcases turn i n t H3 w3 with⟨stop,qn⟩|⟨go,NN,hNN,step⟩
  ·have I3p:=I3.pinned (fp:=[D]) (λb hb=>(SF.mp hb)▸fpD d3) λb hb=>⟨_,(SF.mp hb)▸a3,λv z=>(by rw[dd3]at z;cases z)⟩;refine bS (T.done #[11] rfl rfl rfl hc i _ s3 _ H3 _ I3p (stat (λp hp=>by have q:p∈fA [D] s3.heap:=hp;have:=(jk q).1;simpa using this) fr3) st3 stop) λr s4 ⟨hr,I4⟩=>?_;subst hr;have a4:s4.heap.get? D=_:=(I4.pin (D,_) (Se _ (Se _ (cV #[6] a3)))).1;have u4:Un (kK X.stack) fp H2 H3 s2.heap s4.heap:=I4.base;have hsys:D≠sysModules:=by rw[<- eD];exact UD (Sg I.big)
   obtain⟨ho,Ke,qD⟩:=qn D oD d3 v3
   have okD:ky X.prog X.w (upd H3 D ho) s4.heap:=λb o e=>by
    by_cases hb:b=D
    ·subst hb;rw[aG]at e;cases e;exact Ke _ _ a4 hsys
    ·rw[au hb]at e;exact(I4.hok b o e).nQ (λ_ _ _ q=>q) (λc q=>by rw[au (aB q d3)];exact q) λc xs q=>by rw[au (aB q d3)];exact q
   have nDo:∀b o,s2.heap.get? b=some o->b≠D:=λb o e=>by rw[<- eD];exact Sg (R7 e)
   have uD:Un (kK X.stack) fp H2 (upd H3 D ho) s2.heap s4.heap:=⟨u4.keep,u4.slot,λb o e n hx=>by rw[au (nDo b o e)];exact u4.free b o e n hx,u4.there,
    λb xs e=>by rw[au (aB e hne)];exact u4.tups b xs e,λb o xs e=>by rw[au (aB e hne)];exact u4.frzs b o xs e,λb ps e=>by rw[au (aB e hne)];exact u4.tbls b ps e⟩
   have kp:Kept X fp H2 (upd H3 D ho) s2 s4:=⟨I4.os,uD,okD,I4.bare⟩;have I5:Inv X pins σ (upd H3 D ho) s4:=kp.inv I hf;obtain⟨m,hn,_⟩:=I4.loc;refine hR D C _ s4 I5 ⟨by rw[au (show C≠D by omega)];exact I4.free,Uz (Sa I.lt hC),I.Ep hC,.inr (Sd I.sz hC),λx c e z=>?_,λp hp z=>?_⟩ ⟨m,hn⟩ qD kp
   ·obtain⟨v,q⟩:=I.cell x c e;exact absurd (Sa q.lt (by rw[z];exact hC)) (Sj _)
   ·exact absurd (Sa (R7 (I.pin p hp).1) (by rw[z];exact hC)) (Sj _)
  ·have I3p:=I3.pinned (fp:=[D]) (λb hb=>(SF.mp hb)▸fpD d3) λb hb=>⟨_,(SF.mp hb)▸a3,λv z=>(by rw[dd3]at z;cases z)⟩;have onlyD:∀p∈([]++fA [D] s3.heap),p.1=D:=λp hp=>by have q:p∈fA [D] s3.heap:=hp;have:=(jk q).1;simpa using this
   refine bS (T.item #[11] rfl rfl rfl hc i _ s3 _ H3 _ I3p (stat onlyD fr3) st3 go) λr s4 ⟨u,hr,h4'⟩=>?_;subst hr;refine bS h4' λ_ s5 ⟨x,H5,I5,r5,y5,st5,fr5⟩=>?_;have I5p:=I5.pinned (fp:=fp) (stat onlyD fr5) (T.obj _ _ st5)
   have cont:∀{s6:VI} {σ6:St} {H6:Hp},Inv #[11] (([]++fA [D] s3.heap)++fA fp s5.heap) σ6 H6 s6 ->
     Inv #[11] [] (List.replicate own.length none++σ) H6 s6/\tn (i+1) s6.heap/\(∀b∈fp,H6 b=none)/\H6 D=none/\s6.heap.get? D=some oD:=λ{s6 σ6 H6} I6=>by
    have pD:=I6.pin (D,_) (Se _ (Tu _ (Se _ (cV #[6] a3))));refine⟨rebase (I6.o9 λp hp=>nomatch hp),T.keep _ _ _ st5 λb hb o e=>(I6.pin (b,o) (Se _ (Se _ (cV hb e)))).1,λb hb=>?_,pD.2.1,pD.1⟩;obtain⟨o,e,_⟩:=T.obj _ _ st5 b hb;exact(I6.pin (b,o) (Se _ (Se _ (cV hb e)))).2.1
   refine bS (hg C s2 H2 fp pins _ s5 _ H5 x u _ I5p r5 (step x H5 y5)) λ_ s6 ⟨σ6,H6,I6,q6⟩=>?_;refine bS (ht C s2 H2 fp pins _ s6 σ6 H6 _ I6 q6) λb s7 ⟨H7,I7,q7⟩=>?_
   cases b with
   |false=>have q7':NN t H7:=q7;obtain⟨m',hm,w7⟩:=hNN _ _ q7';obtain⟨c1,c2,c3,c4,c5⟩:=cont I7;exact⟨m',hm,i+1,t,oD,H7,c1,c2,c3,c4,c5,v3,w7⟩
   |true=>refine bS (hk C s2 H2 fp pins _ s7 σ6 H7 _ I7 q7) λkv s8 ⟨y,H8,I8,r8,q8⟩=>?_;refine bS (hv C s2 H2 fp pins _ s8 σ6 H8 _ I8 q8) λvv s9 ⟨z,H9,I9,r9,q9⟩=>?_;obtain⟨c1,c2,c3,c4,c5⟩:=cont I9;refine q9 #[11] _ _ s9 D oD kv vv _ _ rfl rfl I9 c5 v3 r8 r9 λh' o' tk t' n' g' ok' sb=>?_;obtain⟨m',hm,w9⟩:=hNN _ _ n';obtain⟨f0,f1,f2,f3,f4,f5⟩:=fpD c4;exact⟨m',hm,i+1,t',o',H9,c1.turned (t':=tk) (λb o hb e=>(sb.2 b hb).trans e) f0 f1 f3 f4 f5,T.keep _ _ _ c2 λb hb o e=>(sb.2 b λz=>nD (z▸hb)).trans e,c3,c4,g',ok',w9⟩
 exact codeAny_compStart_dict loop (T.self X.A 0 {s2 with heap:=h4} _ _ (T.keep _ _ _ st λb _ o e=>k24 b o e) loop)
section
variable {X:Cx} {own:VA} {scope:Scope} {kx vx tg iter:Expr} {τ:Type} {ok:τ->Obj->Prop} {t0:τ} {ifs:VB} {pos:Pos} {wi:TI} {g:TG} {tc:TT} {tk tv:TE}
noncomputable def Gr{τ:Type}(P:VG)(w:World)(A:VH)(ok:τ->Obj->Prop)(t0:τ)(n:Nat)(wi:TI)(g:TG)(tc:TT)(tk tv:TE):TE:=λσ H Q=>wi σ H λJ H1=>A4 P w A ok t0 n J g tc tk tv σ H1 Q
theorem zI(own:VA)(CS:fD X.env.scope X.N own scope=true)(hc:X.calm=true)(hi:PI X tg iter wi)(hg:∀C s2 H2 fp pins,PG #[11] tg g)
 (ht:∀C s2 H2 fp pins,HL #[11] ifs tc)(hk:∀C s2 H2 fp pins,PE #[11] kx tk)(hv:∀C s2 H2 fp pins,PE #[11] vx tv)
 (ok0:ok t0 {cls:=.type "dict",dict:=none,data:=.dict #[]})(okd:∀t o,ok t o->∃es ep,o.data=.dict es ep)(hs:∀x,foldedSetIterable iter X.env x=pure x:=by intro _;rfl) :
  PE X (.DictComp kx vx [⟨tg,iter,ifs,0⟩] scope pos) (Gr X.prog X.w X.A ok t0 own.length wi g tc tk tv):=by
 intro pins s σ H Q I h;have CS:=df.of CS;refine UB rfl hs (gf λn hn=>I.ok.has n (CS.frees n hn)) CS.kind (nW CS) (bS (hi pins s σ H _ I h) λv s1 h1=>bS h1 λitv s2 h2=>?_);obtain⟨it,fp,tn,J,H2,e,I2,T,st2,f2,hW⟩:=h2;subst e;refine zH I2 CS hc T st2 f2 hg ht hk hv ok0 okd hW λD C H' s' I' fC ⟨m,hn⟩ q _=>?_;refine⟨m,hn,λh' hs'=>⟨.ref D,H',?_,rfl,q⟩⟩;obtain⟨f0,f1,_,f3,f4,f5⟩:=fC;exact I'.turned (λb o hb e=>(hs'.2 b hb).trans e) f0 f1 f3 f4 f5
end
end L2
namespace Ml
open PySem PySem.Spec L2
noncomputable def fK(tb:Bool)(n:Nat)(ρ:Fm)(g:MG)(c:MT)(k v:ME):List D->Vu->Hm->R Vu
 | [],acc,h=>.ok acc h
 |x::xs,acc,h=>(g x (List.replicate n none++ρ) h).vJ.bind λρ1 h1=>(c ρ1 h1).vJ.bind λb h2=>
  if b then(k ρ1 h2).vJ.bind λy h3=>(v ρ1 h3).vJ.bind λz h4=>match y,z with
   |.dat kd,.dat vd=>if keyOk tb kd&&(tb || kW vd)&&decide (acc.length<16777216)then fK tb n ρ g c k v xs (dput acc kd vd) h4 else .bad
   |_,_=>.bad
  else fK tb n ρ g c k v xs acc h2
noncomputable def qQ(tb:Bool)(n:Nat)(it:MA)(g:MG)(c:MT)(k v:ME):ME:=λρ h=>(it ρ h).bind λxs h1=>(fK tb n ρ g c k v xs [] h1).bind λkvs h2=>R.ok (D.fS tb kvs) h2
structure Jb(G:Gx)(A:VH){τ:Type}(tb:Bool)(ok:τ->Obj->Prop)(t0:τ)(Rl:Vu->τ->Vx->Hp->Prop):Prop where
 ok0:ok t0 {cls:=.type "dict",dict:=none,data:=.dict #[]}
 okd:∀t o,ok t o->∃es ep,o.data=.dict es ep
 nil:∀θ H,Rl [] t0 θ H
 ev:∀{acc t θ H θ' H'},Ev θ H θ' H'->Rl acc t θ H->Rl acc t θ' H'
 put:∀{acc t θ h H kd vd y z} {N:τ->Hp->Prop},W G θ h H->bU G θ H (.dat kd) y->bU G θ H (.dat vd) z->Rl acc t θ H->keyOk tb kd=true->(tb || kW vd)=true->acc.length<16777216 ->
  (∀t',Rl (dput acc kd vd) t' θ H->N t' H)->Oh G.P G.w A ok t y z H N
 fin:∀{acc t θ h H p o},W G θ h H->Rl acc t θ H->H p=none->ok t o->∃ho,(∀H' h,h.get? p=some o->p≠sysModules->bW G.P G.w H' h p ho)/\eU G.P G.w (view θ H) (upd H p ho) p tb acc
noncomputable def RN(P:VG)(w:World)(ks:List (Key×V))(o:Obj):Prop:=ks.length<=sizeLine/\(∃es ep,o.data=.dict es ep)/\∃vs,L2.KV ks vs/\∀(h:Heap) (a:Addr),h.get? a=some o->h.DictOf (cf P w) a vs
theorem Mh:Jb G A false (RN G.P G.w) [] λacc ks _ _=>bG ks=some acc/\∀p∈acc,eR p.1=true/\eR p.2=true where
 ok0:=⟨Tf _,⟨_,_,rfl⟩,[],.nil,λh a e=>Va.mpr ⟨_,e,(Va.mp (Heap.DictOf.new (knd:=cf G.P G.w) h)).elim (by
  rintro o ⟨e1,r⟩;have e2:(h.push {cls:=.type "dict",data:=.dict #[]}).get? h.objs.size=some {cls:=.type "dict",data:=.dict #[]}:=R8 _ rfl
  grind)⟩⟩
 okd:=λt o h=>h.2.1
 nil:=λθ H=>⟨rfl,λp hp=>nomatch hp⟩
 ev:=λ_ h=>h
 put:=λ{acc t θ h H kd vd y z N} w r1 r2 rl hk hf hl hN=>by
  intro Y pins σ s D o u r Q E eP ew I gD ⟨lt,_,vs,kv,dd⟩ ry rz cont;obtain⟨q,rfl⟩:∃q,kd=.str q:=by simp only[keyOk,Sx,TK]at hk;cases kd<;>first|exact⟨_,rfl⟩|simp[t8]at hk
  have fd:kW vd=true:=by simpa using hf
  have hv:=zw fd r2.1;obtain⟨e2,s2⟩:=fh r1;subst e2
  have so:∀p∈dput acc (.str q) vd,eR p.1=true/\eR p.2=true:=λp hp=>by
   unfold dput at hp;split at hp
   ·obtain⟨p0,hp0,e0⟩:=SA.mp hp;split at e0
    ·subst e0;exact⟨(rl.2 p0 hp0).1,r2.2⟩
    ·subst e0;exact rl.2 p0 hp0
   ·rcases Sw.mp hp with hp|hp
    ·exact rl.2 p hp
    ·simp at hp;subst hp;exact⟨by simpa [eR]using s2,r2.2⟩
  have hz:vs.length<=sizeLine:=by rw[<- kv.length];exact lt
  refine wpAny_dictSet_pairs (knd:=cf G.P G.w) (hsz:=hz) (tO (k:=Sum.inr q) ry) (dd _ _ gD) λh' dd' hs=>?_;obtain⟨o',g',rest⟩:=Va.mp dd';refine cont h' o' _ (putK t (Sum.inr q) z) (hN _ ⟨uA hv rl.1,so⟩) g' ⟨?_,?_,stored vs (Sum.inr q) r,kv.put (Sum.inr q) rz,λh2 a e2=>Va.mpr ⟨o',e2,rest⟩⟩ hs
  ·have:=iE t (Sum.inr q) z;rw[jQ rl.1,T6]at *;omega
  ·obtain⟨o2,es,ep,g1,g2,g3,_⟩:=dd';rw[g']at g1;cases g1;exact⟨es,ep,g3⟩
 fin:=λ{acc t θ h H p o} w rl hp ⟨lt,_,vs,kv,dd⟩=>⟨.dK t,λH' h2 e ne=>AI lt (Uw.mpr ne) kv (dd _ _ e),.inl ⟨rfl,t,aG,rl.1,rl.2⟩⟩
noncomputable def RO(P:VG)(w:World)(xs:List (PyData×Addr×Value))(o:Obj):Prop:=xs.length<=sizeLine/\∃es ep,o.ExactDict/\o.data=.dict es ep/\es.toList=xs.map (entryOfKey (eT P w))/\(xs.map (·.1)).Nodup
theorem Mi(hA:A.units+20<cLine):Jb G A true (RO G.P G.w) [] λacc xs θ H=>Paired (om (view θ H)) acc xs where
 ok0:=⟨Tf _,_,_,⟨rfl,rfl,rfl⟩,rfl,rfl,List.nodup_nil⟩
 okd:=by rintro t o ⟨_,es,ep,_,h,_⟩;exact⟨es,ep,h⟩
 nil:=λθ H=>.nil
 ev:=λe h=>Paired.C1 h λ_ _=>om.same e.same
 put:=λ{acc t θ h H kd vd y z N} w r1 r2 rl hk hf hl hN=>by
  intro Y pins σ s D o u r Q E eP ew I gD ⟨lt,es,ep,g2,g3,g4,g5⟩ ry rz cont;simp only[keyOk,Tr,R4,Sv]at hk
  obtain⟨b,vs,rfl,hb⟩:∃b vs,y=.ref b/\view θ H b=some (.tup vs):=by
   cases kd with
   |tuple ds=>obtain⟨b,vs,e,hb,_⟩:=r1.1;exact⟨b,vs,e,hb⟩
   |_=>simp[og]at hk
  cases ry;have dd:s.heap.DictOfH (eT G.P G.w) D t:=⟨o,es,ep,gD,g2,g3,g4,ye I (aC θ H) rl,g5⟩;have kr:=zy (b:=b) (u:=r) hk.1.2 hk.2 r1.2 r1.1 rz r2.1 r2.2 rl;refine wpAny_dictSet_heap (knd:=eT G.P G.w) (hsz:=lt) hA (Cq I (aC θ H) hk.1.2 hk.2 r1.2 r1.1) dd λh' dd' hs=>?_;obtain⟨o',es',ep',k1,k2,k3,k4,_,k5⟩:=dd';refine cont h' o' _ (storedH t kd b r) (hN _ kr) k1 ⟨?_,es',ep',k2,k3,k4,k5⟩ hs;rw[<- show(dput acc kd vd).length=_ from Sr kr];have:=zz acc kd vd
  grind[PySem.sizeLine_eq]
 fin:=λ{acc t θ h H p o} w rl hp ⟨lt,es,ep,g2,g3,g4,g5⟩=>⟨dO G.P G.w t p,λH' h2 e ne=>FF lt (Uw.mpr ne) e g2 g3 g4 g5,.inr ⟨rfl,t,aG,rl⟩⟩
section
variable {X:Cx} {E:XK} {mk mv:ME} {t:MT} {e tg kx vx:Expr} {ifs:VB} {it:MA} {pos:Pos} {i:Nat} {x:Str} {g:MG} {own:VA} {scope:Scope} {tb:Bool} {k:Nat}
theorem A5(AR:Jb G A tb ok t0 Rl){F:XP}{n:Nat}{θ1:Vx}{H1:Hp}{h1:Hm}{xs:List D}{J:It}{σ:L2.St}{ρ:Fm}{Q:VK}(hJ:rG G θ1 H1 xs J)(w1:W G θ1 h1 H1)(fr:Fr G θ1 H1 ρ σ)
 (p1:aE G F θ1 H1 ((fK tb n ρ g t mk mv xs [] h1).bind λkvs h2=>R.ok (D.fS tb kvs) h2) (Ml.KV G Q)) :
  A4 G.P G.w A ok t0 n J (lG G iK g) (lT G iK t) (lE G iK mk) (lE G iK mv) σ H1 Q:=by
 refine⟨λi m' a H=>m'=xs.length-i/\i<=xs.length/\∃θ' h' acc,Ev θ1 H1 θ' H/\W G θ' h' H/\Rl acc a θ' H/\aE G F θ' H ((fK tb n ρ g t mk mv (xs.drop i) acc h').bind λkvs h2=>R.ok (D.fS tb kvs) h2) (Ml.KV G Q),
  ⟨xs.length,by simp,Tf _,θ1,h1,[],Ev.refl,w1,AR.nil _ _,p1⟩,?_⟩
 rintro i m' a H ⟨rfl,hi,θ',h',acc,ev,w,ra,p⟩;obtain⟨j1,j2⟩:=hJ θ' h' H ev w;by_cases hlt:i<xs.length
 ·have ed:xs.drop i=xs[i]::xs.drop (i+1):=SS hlt;rw[ed]at p;obtain⟨g1,g2⟩:=j1 i xs[i] (R9 hlt);refine .inr ⟨g1,λa2 H2=>i+1<=xs.length/\∃θ' h' acc,Ev θ1 H1 θ' H2/\W G θ' h' H2/\Rl acc a2 θ' H2/\aE G F θ' H2 ((fK tb n ρ g t mk mv (xs.drop (i+1)) acc h').bind λkvs h2=>R.ok (D.fS tb kvs) h2) (Ml.KV G Q),λys' H' q=>⟨xs.length-(i+1),by omega,rfl,q⟩,λx H2 y=>?_⟩;obtain⟨e2,w2,r2⟩:=g2 x H2 y;have p2:=p.later e2;unfold fK at p2;simp only[R.bind_assoc]at p2;refine⟨θ',h',_,xs[i],w2,((fr.ev ev).ev e2).replicate n,r2,(aE.dC p2).mono λρ3 θ3 h3 H3 _ _ ⟨e3,w3,p3⟩ σ3 fr3=>⟨θ3,h3,ρ3,w3,fr3,(aE.dC p3).mono λc θ4 h4 H4 _ _ ⟨e4,w4,p4⟩=>?_⟩⟩;have ev4:=(ev.trans e2).trans (e3.trans e4);have ra4:=AR.ev (e2.trans (e3.trans e4)) ra
  cases c with
  |false=>exact⟨hlt,θ4,h4,acc,ev4,w4,ra4,p4⟩
  |true=>
   simp only[Tr,R.bind_assoc]at p4;refine⟨θ4,h4,ρ3,w4,fr3.ev e4,(aE.dC p4).mono λy θ5 h5 H5 _ _ ⟨e5,w5,p5⟩ v5 r5=>⟨θ5,h5,ρ3,w5,(fr3.ev e4).ev e5,(aE.dC p5).mono λz θ6 h6 H6 _ _ ⟨e6,w6,p6⟩ v6 r6=>?_⟩⟩;have ra6:=AR.ev (e5.trans e6) ra4;have r5':=bU.ev e6 r5
   cases y with
   |dat kd=>
    cases z with
    |dat vd=>
     simp only at p6;split at p6
     ·rename_i hc;simp only[R4,Sv]at hc;exact AR.put w6 r5' r6 ra6 hc.1.1 hc.1.2 hc.2 λt' rt=>⟨hlt,θ6,h6,_,ev4.trans (e5.trans e6),w6,rt,p6⟩
     ·exact p6.elim
    |_=>exact p6.elim
   |_=>exact p6.elim
 ·have hx:i=xs.length:=by omega
  subst hx;rw[Tc (R5 _)]at p;simp only[fK,R.bo]at p;refine .inl ⟨j2,λq o hq hok=>?_⟩;obtain⟨ho,h1,h2⟩:=AR.fin w ra hq hok;obtain⟨e3,w3,g3⟩:=w.put (o:=ho) hq;refine⟨ho,h1,p _ _ e3 w3 _ ⟨q,rfl,h2.same e3.same λo' e'=>?_⟩⟩;rw[aG]at e';rw[g3];exact e'
theorem zJ(AR:Jb G A tb ok t0 Rl){n:Nat}{σ:L2.St}{H:Hp}{Q:VK}(h:lE G E (qQ tb n it g t mk mv) σ H Q) :
  Gr G.P G.w A ok t0 n (lI G E it) (lG G iK g) (lT G iK t) (lE G iK mk) (lE G iK mv) σ H Q:=by
 obtain⟨θ,h,ρ,w,fr,p⟩:=h;exact⟨θ,h,ρ,w,fr,(aE.bind p).mono (by rintro xs θ1 h1 H1 _ _ ⟨ev,w1,p1⟩ J hJ;exact A5 AR hJ w1 (fr.ev ev) p1)⟩
theorem zK(own:VA)(tb:Bool)(hr:bZ k X.A)(CS:fD X.env.scope X.N own scope=true)(hc:X.calm=true)(hi:DI X E it tg e)(hg:∀C s2 H2 fp pins,DG #[11] iK g tg)
 (ht:∀C s2 H2 fp pins,J8 #[11] iK t ifs)(hk:∀C s2 H2 fp pins,DE #[11] iK mk kx)(hv:∀C s2 H2 fp pins,DE #[11] iK mv vx)(hs:∀x,foldedSetIterable e X.env x=pure x:=by intro _;rfl) :
  DE X E (qQ tb own.length it g t mk mv) (.DictComp kx vx [⟨tg,e,ifs,0⟩] scope pos):=by
 simp[bC,nv,lq,qM]at *
 cases tb with
 |false=>exact PE.imp (zI own CS hc hi hg ht hk hv (Mh (A:=X.A)).ok0 (Mh (A:=X.A)).okd hs) λσ H Q q=>zJ Mh q
 |true=>
  have hu:X.A.units+20<cLine:=by have:=hr.units;omega
  exact PE.imp (zI own CS hc hi hg ht hk hv (Mi hu).ok0 (Mi hu).okd hs) λσ H Q q=>zJ (Mi hu) q
end
end Ml
namespace Ml
open PySem
noncomputable def zL:MS:=bF (qQ false 2 (aP (ak eK (ae 0) (aj (.int 1)))) (ji (cb (ax 0) (cb (ax 1) jh))) (aM (ak t9 (ae 0) (ae 3))) (ae 1) (aj (.bool true)))
noncomputable def lC:Fn:=bz 2 2 zL
noncomputable def uG:MS:=aY (ng (ji (cb (ax 2) (cb (ax 3) jh))) (ae 0))
    (aY (cn 4 (ag lC (aa (ae 0) (aa (ae 1) ai))))
    (aY (cn 5 (qQ false 2 (aP (ae 3)) (ji (cb (ax 0) (cb (ax 1) jh))) (aM (ak gx (ae 0) (ae 6))) (ae 1) (aj (.bool true))))
    (bF (ag oh (aa (bX 1 (aP (ae 2)) (ax 0) (aM (ak gx (ae 0) (ae 6))) (ae 0)) ai)))))
noncomputable def eg:Fn:=bz 2 6 uG
noncomputable def Gs:MS:=aY (cn 2 (bX 2 (aP (ak eK (ae 0) (aj (.int 1)))) (ji (cb (ax 0) (cb (ax 1) jh))) (aM (ak oEq (ae 1) (ae 3))) (ae 0)))
    (aY (cn 3 (bX 2 (aP (ak eK (ae 0) (aj (.int 1)))) (ji (cb (ax 0) (cb (ax 1) jh))) (aM (ak oEq (ae 0) (ae 3))) (ae 1)))
    (bF (ak dG (ae 2) (ae 3))))
noncomputable def qR:Fn:=bz 2 4 Gs
end Ml
namespace L2
open PySem PySem.Spec PyProof.Rows
section
variable {X:Cx} {e:Expr} {es:VB} {p:Pos} {te:TE} {t:TA}
noncomputable def Oi(te:TE)(t:TA)(K:Vz):TA:=λσ H Q=>te σ H λx H1=>∃a vs,x=.ref a/\(H1 a=some (.lst vs)\/fW K H1 a vs)/\t σ H1 λus H2=>Q (vs++us) H2
theorem Jc(ha:PE X e te)(hr:PA X es t)(he:starEach (.Starred e p::es) X.env=(true,eval e X.env)::starEach es X.env:=by rfl):PA X (.Starred e p::es) (Oi te t X.K):=by
 intro pos pins s σ H Q I h;refine PySem.W.items_star (bS (ha pins s σ H _ I h) λu s1 ⟨x,H1,I1,r1,a,vs,hx,hseq,q1⟩=>?_) he;subst hx;cases r1;have key:∀(its:Vy),Vals vs its->∀h',(∀b o',s1.heap.get? b=some o'->h'.get? b=some o')->wpAny #[12] X.A (spliced #[20]) (λws s3=>AP X pins σ Q (its++ws) s3) X.xe {s1 with heap:=h'}:=λits rv h' hk=>by have I2:Inv X pins σ H1 {s1 with heap:=h'}:=I1.kept (t':=s1.toks) hk;exact bS (hr pos pins _ σ H1 _ I2 q1) (by rintro us s2 ⟨xs,H2,I3,r2,q2⟩;exact⟨vs++xs,H2,I3,rv.append r2,q2⟩)
 unfold PySem.W.StarOf notIterableAtAll;rcases hseq with hl|ht
 ·obtain⟨its,n,rv,eo,hz⟩:=I1.lst hl;have hT':s1.TypeIs (.ref a) "list" := ⟨_,eo,rfl⟩;refine R0 (Uj hT' PySem.F.slot_list_iter.lookup (R3 ⟨rfl,?_⟩));exact wpAny_collect_seq a (.inl rfl) eo rfl rfl (λh' hk=>by grind) (by rw[Si,<- rv.length];exact hz)
 ·obtain⟨its,rv,⟨o,eo,hc,n,hd⟩,hz⟩:=I1.tuple ht;have hT':s1.TypeIs (.ref a) "tuple" := ⟨o,eo,hc⟩;refine R0 (Uj hT' PySem.F.slot_tuple_iter.lookup (R3 ⟨rfl,?_⟩));exact wpAny_collect_seq a (.inr rfl) eo hc hd (λh' hk=>by simpa using key its rv h' hk) (by rw[Si,<- rv.length];exact hz)
end
end L2
namespace Ml
open PySem PySem.Spec L2
noncomputable def zM(x:D)(h:Hm):Option Vw:=match x with
 |.dat (.tuple ds)=>some ds
 |.ktup ds=>some ds
 |x=>listOf x h
noncomputable def zN(m:ME)(a:MA):MA:=λρ h=>(m ρ h).bind λx h1=>match zM x h1 with
 |some ds=>(a ρ h1).bind λys h2=>.ok (ds.map D.dat++ys) h2
 |Option.none=>.bad
section
variable {X:Cx} {E:XK} {m:ME} {a:MA} {e:Expr} {es:VB} {p:Pos}
theorem oE:∀{ds:Vw} {vs:List V},bg (view θ H) ds vs->cQ ds=true->aV G θ H (ds.map D.dat) vs
 | [],_,r,_=>by subst r;exact .nil
 |d::ds,_,r,s=>by simp[cQ]at s;obtain⟨w,ws,rfl,r1,r2⟩:=r;exact .cons ⟨r1,s.1⟩ (oE r2 s.2)
theorem wZ:∀{xs ys:List D} {vs us:List V},aV G θ H xs vs->aV G θ H ys us->aV G θ H (xs++ys) (vs++us)
 |_,_,_,_,.nil,r=>r
 |_,_,_,_,.cons a r,q=>.cons a (wZ r q)
theorem zO:∀{xs:Vw},(∀x∈xs,(match x with|.int _|.str _|.bool _|.none=>true|_=>false)=true)->cQ xs=true->aV G θ H (xs.map D.dat) (xs.map LH)
 | [],_,_=>.nil
 |d::ds,h,s=>by simp[cQ]at s;refine .cons ⟨?_,s.1⟩ (zO (λx m=>h x (Sb _ m)) s.2);have:=h d (SV ..);cases d<;>first|rfl|trivial
theorem Jd(hm:DE X E m e)(ha:DA X E a es)(he:starEach (.Starred e p::es) X.env=(true,eval e X.env)::starEach es X.env:=by rfl):DA X E (zN m a) (.Starred e p::es):=by
 simp only[bC,gV]at *;rintro pos pins s σ H Q I ⟨θ,h,ρ,w,fr,p⟩;refine Jc hm ha he pos pins s σ H Q I ⟨θ,h,ρ,w,fr,(aE.bind p).mono λd θ1 h1 H1 _ _ ⟨ev,w1,p1⟩ v r=>?_⟩;have fin:∀(b:Addr) (ds:Vw) (vs:List V),v=.ref b->(H1 b=some (.lst vs)\/fW X.K H1 b vs)->aV X.G θ1 H1 (ds.map D.dat) vs->zM d h1=some ds->∃a_1 vs,v=.ref a_1/\(H1 a_1=some (.lst vs)\/fW X.K H1 a_1 vs)/\lA X.G E a σ H1 λus H2=>Q (vs++us) H2:=λb ds vs e1 e2 e3 e4=>by rw[e4]at p1;refine⟨b,vs,e1,e2,θ1,h1,ρ,w1,fr.ev ev,(aE.bind p1).mono λys θ2 h2 H2 _ _ ⟨ev2,w2,p2⟩ us ru=>?_⟩;exact p2 θ2 H2 Ev.refl w2 _ (wZ (e3.ev ev2) ru)
 cases hs:zM d h1 with
 |none=>rw[hs]at p1;exact p1.elim
 |some ds=>
  have hs':=hs;unfold zM at hs;split at hs
  ·cases hs;obtain⟨⟨b,vs,rfl,hb,rr⟩,so⟩:=r;exact fin b ds vs rfl (.inr (.inl (.inl (aC _ _ _ _ hb)))) (oE rr (by simpa [eR]using so)) hs'
  ·cases hs;obtain⟨b,rfl,⟨o,its,n,k1,k2,k3,k4,k5⟩,k6,k7⟩:=r;exact fin b ds _ rfl (.inr (.inr ⟨o,its,n,k1,k2,k3,k4,k5⟩)) (zO k6 k7) hs'
  ·obtain⟨b,vs,rfl,hb,rr,so⟩:=pV w1 r hs;exact fin b ds vs rfl (.inl hb) (oE rr so) hs'
end
noncomputable def Gu:PyData->Value->Bool
 |.none,.none=>true
 |.bool b,.bool c=>b==c
 |.int i,.int j _=>i==j
 |.str x,.str y _=>x==y
 |_,_=>false
noncomputable def yh:Vw->Vy->Bool
 | [],[]=>true
 |d::ds,v::vs=>Gu d v&&yh ds vs
 |_,_=>false
noncomputable def Ql(K:Vz)(a:Addr)(xs:Vw):Bool:=match K.lookup a with
 |some o=>(match o.cls,o.data with
  |.type "tuple",.seq its _=>yh xs its.toList&&decide (its.size<=sizeLine)
  |_,_=>false)&&cQ xs
 |Option.none=>false
theorem Gv(h:Gu d v=true):RelV (LH d) v/\kW d=true:=by
 unfold Gu at h;split at h
 ·trivial
 ·have:=eq_of_beq h;subst this;exact⟨rfl,rfl⟩
 ·have:=eq_of_beq h;subst this;exact⟨⟨_,rfl⟩,rfl⟩
 ·have:=eq_of_beq h;subst this;exact⟨⟨_,rfl⟩,rfl⟩
 grind
theorem xa:∀{ds:Vw} {vs:Vy},yh ds vs=true->Vals (ds.map LH) vs/\∀x∈ds,kW x=true
 | [],[],_=>⟨.nil,by simp⟩
 | [],_::_,h=>by trivial
 |_::_,[],h=>by trivial
 |d::ds,v::vs,h=>by
  simp[yh]at h;obtain⟨h1,h2⟩:=Gv h.1;obtain⟨k1,k2⟩:=xa h.2;refine⟨.cons h1 k1,λx m=>?_⟩
  grind
theorem Mj(h:Ql K a xs=true):FG K a xs:=by
 unfold Ql at h;split at h
 ·rename_i o ho;simp at h;obtain⟨h,hs⟩:=h;split at h
  ·rename_i its n hc hd;simp at h;obtain⟨k1,k2⟩:=xa h.1;exact⟨⟨o,its,n,ho,hc,hd,h.2,k1⟩,λx m=>by have:=k2 x m;cases x<;>simp_all[kW],hs⟩
  grind
 grind
end Ml
namespace Ml
open PySem
noncomputable def kE:MS:=aY (cn 1 (aj (.list [.tuple []])))
    (aY (jI (aP (ak eK (ae 0) (aj (.int 0)))) (ax 2) (aY (cn 3 (ag qR (aa (ae 0) (aa (ae 2) ai))))
    (iI (aM (ak gx (ae 2) (ae 3))) (cn 1 (ak dG (ae 1) (bX 1 (aP (ae 1)) (ax 0) (cY (aU (ag sO (aa (bX 1 (aP (ae 0)) (ax 0) dh (ak t9 (ae 0) (ae 5))) ai)))) (gG (zN (ae 0) (aa (ae 3) ai)))))) bO)))
    (bF (ag fG (aa (ae 1) ai))))
noncomputable def bT:Fn:=bz 1 4 kE
noncomputable def nG:MS:=bF (ag cU (aa (ae 1) (aa (ag eg (aa (ae 0) (aa (ae 1) ai))) ai)))
noncomputable def gp:Fn:=bz 2 2 nG
noncomputable def uH:MS:=bF (ak oEq (ae 1) (ag eg (aa (ae 0) (aa (ae 1) ai))))
noncomputable def jT:Fn:=bz 2 2 uH
noncomputable def rR:MS:=aY (cn 2 (ag lC (aa (ae 0) (aa (ae 1) ai))))
    (bF (ag kM (aa (bX 1 (aP (ak eK (ae 0) (aj (.int 0)))) (ax 0) dh (IT (ak t9 (ae 0) (ae 2)) (ak t9 (ae 0) (ae 3)))) ai)))
noncomputable def iM:Fn:=bz 2 3 rR
noncomputable def sP:MS:=bF (bX 1 (aP (ag bT #[18])) (ax 0) (aU (ag gp (aa (ae 1) #[18]))) (ae 0))
noncomputable def cD:Fn:=bz 1 1 sP
noncomputable def yi:MS:=bF (bX 1 (aP (ag bT #[18])) (ax 0) (aU (ag jT (aa (ae 1) #[18]))) (ae 0))
noncomputable def fL:Fn:=bz 1 1 yi
noncomputable def kF:MS:=aY (cn 1 (aj (.tuple [])))
    (aY (cn 2 (ag eg (aa (ae 0) (aa (ae 1) ai))))
    (aY (Fs 20 (aM (ak t7 (ae 2) (ae 1))) (aY (cn 1 (ae 2))
    (cn 2 (ag eg (aa (ae 0) (aa (ae 1) ai))))))
    (bF (iD (aa (ae 1) ai)))))
noncomputable def cS:Fn:=bz 1 3 kF
end Ml
namespace L2
open PySem PySem.Spec PyProof.Rows
section
variable {X:Cx} {pos:Pos}
noncomputable def Oj(i j l:Nat)(ta:TA):TS:=λD σ H=>ta σ H λvs H1=>∃v w z,vs=[v,w,z]/\D.nx (((σ.set i (some v)).set j (some w)).set l (some z)) H1
theorem Je(hc:X.calm=true)(hN:X.N.Nodup)(hi:X.N[i]?=some x)(hj:X.N[j]?=some y)(hl:X.N[l]?=some z)(hij:i≠j)(hil:i≠l)(hjl:j≠l)
 (hx:X.env.scope.names.lookup x=some .local)(hy:X.env.scope.names.lookup y=some .local)(hz:X.env.scope.names.lookup z=some .local)(ha:PA X [a,b,c] ta)
 (hw:swappedStores [.Tuple [.Name x px,.Name y py,.Name z pz] kt pt] (.Tuple [a,b,c] k2 pt2) X.env=pure (some [x,y,z]))
 (hs:swapsWithSole [.Tuple [.Name x px,.Name y py,.Name z pz] kt pt] (.Tuple [a,b,c] k2 pt2) pos.line X.env=pure false:=by rfl) :
  PS X (.Assign [.Tuple [.Name x px,.Name y py,.Name z pz] kt pt] (.Tuple [a,b,c] k2 pt2) pos) (Oj i j l ta):=by
 intro pins s σ H D I h;rw[exec_Assign_arm];refine R0 (Uk ?_);rw[hs];refine R0 (R3 ?_);rw[if_neg #[4]];refine R0 (Tuple_ (bS (ha _ pins s σ H _ I h) λus s1 ⟨vs,H1,I1,r1,q1⟩=>?_));obtain⟨v,w,t,e1,q1⟩:=q1;subst e1
 obtain⟨u1,u2,u3,rfl,rv,rw',rt⟩:∃u1 u2 u3,us=[u1,u2,u3]/\RelV v u1/\RelV w u2/\RelV t u3:=by
  cases r1 with
  |cons p q=>
   cases q with
   |cons p' q'=>
    cases q' with
    |cons p2 q2=>cases q2;exact⟨_,_,_,rfl,p,p',p2⟩
 refine Su ?_ (by show 3<=sizeLine;decide);have I2:Inv X pins σ H1 {s1 with heap:=s1.heap.push {cls:=.type "tuple",data:=.seq [u1,u2,u3].toArray}}:=I1.kept (t':=s1.toks) λb o e=>R1 _ e;rw[hw];refine R0 (R3 ?_);show wpAny #[12] X.A (do rule "assign.swapped-stores";let items <- unpackItems (.ref s1.heap.objs.size) 3 none;assignInOrder [λv=>bindName X.env z v,λv=>bindName X.env y v,λv=>bindName X.env x v] items.reverse;pure Flow.next) _ _ _;refine R0 (TH (R0 (unpackItems_tuple (items:=#[u1,u2,u3]) (I.ok.hd hc) (IsTup.new s1.heap _) λh' hx'=>?_)));have I3:=I2.kept (h':=h') (t':=s1.toks) λb o e=>hx' b o (Sg (R7 e)) e;show wpAny _ _ (assignInOrder [λv=>bindName X.env z v,λv=>bindName X.env y v,λv=>bindName X.env x v] [u3,u2,u1] >>= λ_=>pure Flow.next) _ _ _;refine R0 (TJ (UW (gq I3 hN hl (.inl hz) rt (λs2 I4=>?_) (.inr hz))));refine TJ (UW (gq I4 hN hj (.inl hy) rw' (λs3 I5=>?_) (.inr hy)));refine TJ (UW (gq I5 hN hi (.inl hx) rv (λs4 I6=>assignInOrder_nil (R3 ?_)) (.inr hx)));have e:((σ.set l (some t)).set j (some w)).set i (some v)=((σ.set i (some v)).set j (some w)).set l (some t):=by rw[Vk _ _ hjl.symm,Vk _ _ (UD hil),Vk _ _ (UD hij)]
 rw[e]at I6;exact⟨_,H1,I6,q1⟩
end
end L2
namespace Ml
open PySem PySem.Spec L2
section
variable {X:Cx} {E:XK} {ma:MA} {pos:Pos} {x:Str}
theorem Ol{y z:Str}{px py pz pt:Pos}{kt k2 pt2}(i j l:Nat)(hN:X.N.Nodup)(ha:DA X E ma [a,b,c])(hc:X.calm=true:=by rfl)(hi:X.N[i]?=some x:=by rfl)(hj:X.N[j]?=some y:=by rfl)(hl:X.N[l]?=some z:=by rfl)(hij:i≠j:=by decide)(hil:i≠l:=by decide)(hjl:j≠l:=by decide)
 (hx:X.env.scope.names.lookup x=some .local:=by rfl)(hy:X.env.scope.names.lookup y=some .local:=by rfl)(hz:X.env.scope.names.lookup z=some .local:=by rfl)
 (hw:swappedStores [.Tuple [.Name x px,.Name y py,.Name z pz] kt pt] (.Tuple [a,b,c] k2 pt2) X.env=pure (some [x,y,z]):=by kernel_rfl)
 (hs:swapsWithSole [.Tuple [.Name x px,.Name y py,.Name z pz] kt pt] (.Tuple [a,b,c] k2 pt2) pos.line X.env=pure false:=by rfl) :
  DS X E (xO [i,j,l] ma) (.Assign [.Tuple [.Name x px,.Name y py,.Name z pz] kt pt] (.Tuple [a,b,c] k2 pt2) pos):=by
 rw[gV]at ha;rw[jr]
 exact PS.imp (Je hc hN hi hj hl hij hil hjl hx hy hz ha hw hs) (by rintro C σ H ⟨θ,h,ρ,w,fr,p⟩;exact⟨θ,h,ρ,w,fr,(aE.bind p).mono (by
   rintro ds θ1 h1 H1 _ _ ⟨ev,w1,p1⟩ vs r
   cases r with
   |nil=>trivial
   |cons r1 rr=>
    cases rr with
    |nil=>trivial
    |cons r2 rr=>
     cases rr with
     |nil=>exact p1.elim
     |cons r3 rr=>
      cases rr with
      |nil=>exact⟨_,_,_,rfl,p1 θ1 H1 Ev.refl w1 _ ((((fr.ev ev).set r1).set r2).set r3)⟩
      |cons=>exact p1.elim)⟩)
end
theorem kN{N ps:VA}{sc:Scope}(a:sc.kind=.function:=by rfl)(b:sc.isCoroutine=false:=by rfl)(c:sc.isGenerator=false:=by rfl)(d:N.Nodup:=by decide +kernel)(e:N.take ps.length=ps:=by rfl)
 (f:∀x∈ps,sc.names.lookup x=some .local\/sc.names.lookup x=some .cell:=by decide +kernel)(g:∀y∈sc.names,y.2≠.free:=by decide +kernel):aH N ps sc:=⟨a,b,c,d,e,f,g⟩
section
variable {X:Cx} {E:XK} {x:Str} {ps:VA} {k j:Nat} {F:Fn} {e e1 e2:Expr} {es:VB} {ma:MA} {m1 m2:ME} {p pos:Pos}
theorem fy(F':aT X.prog X.w X.K X.mg X.base x ps k F)(hx:Passes (iF X.prog X.w) X E)(hr:bZ j X.A)(ha:DA X E ma (e::es))(hk:k<=j:=by omega)(hg:Gl X x:=by rfl)(hdb:(x==("__debug__" : Str))=false:=by decide)(he:#[2]:=by rfl)
 (hpl:#[20].any (·.1)=false:=by rfl):DE X E (ag F ma) (.Call (.Name x p) (e::es) [] pos):=NZ F' hx (hr.mono hk) hg ha hdb he hpl
end
open Classical in
noncomputable def Gw(g:MG)(b:MS)(j:Nat)(all:List D):List D->Fm->Hm->R Fl
 | [],ρ,h=>if h[j]?=some (.lst all)then .ok (.nx ρ) h else .bad
 |x::xs,ρ,h=>if h[j]?=some (.lst all)then(g x ρ h).vJ.bind λρ1 h1=>(b ρ1 h1).vJ.bind λf h2=>match f with
  |.nx ρ2=>Gw g b j all xs ρ2 h2
  |.ct ρ2=>Gw g b j all xs ρ2 h2
  |.bk ρ2=>.ok (.nx ρ2) h2
  |.rt d=>.ok (.rt d) h2 else .bad
end Ml
namespace Ml
open PySem PySem.Spec L2
open Classical in
noncomputable def eG(n:Nat)(ρ:Fm)(g:MG)(t:MT)(e:ME)(j:Nat)(all:List D):List D->Hm->R (List D)
 | [],h=>if h[j]?=some (.lst all)then .ok [] h else .bad
 |x::xs,h=>if h[j]?=some (.lst all)then(g x (List.replicate n none++ρ) h).vJ.bind λρ1 h1=>(t ρ1 h1).vJ.bind λc h2=>
  if c then(e ρ1 h2).vJ.bind λy h3=>(eG n ρ g t e j all xs h3).bind λys h4=>.ok (y::ys) h4
  else eG n ρ g t e j all xs h2 else .bad
noncomputable def uI(n:Nat)(m:ME)(g:MG)(t:MT)(e:ME):ME:=λρ h=>(m ρ h).bind λx h1=>match x with
 |.ref j=>match h1[j]? with
  |some (.lst all)=>if iY all.length then(eG n ρ g t e j all all h1).bind ij else .bad
  |_=>.bad
 |_=>.bad
section
variable {X:Cx} {E:XK} {m em:ME} {e tg elt:Expr} {g:MG} {t:MT} {pos:Pos} {ifs:VB} {scope:Scope}
theorem A6{a:Addr}{j:Nat}{all:List D}{mk:List D->Hm->R D}(ha:θ1[j]?=some a)(w1:W G θ1 h1 H1)(fr:Fr G θ1 H1 ρ σ)(p1:aE G F θ1 H1 ((eG n ρ g t em j all all h1).bind mk) (KV G Q))
 (hmk:∀ys vs θ h H,ys.length<=all.length->W G θ h H->aV G θ H ys vs->aE G F θ H (mk ys h) (KV G Q)->∀p,H p=none->Q (.ref p) (upd H p (.lst vs)))(hz:all.length<=sizeLine) :
  BR n (OR G.K a) (lG G iK g) (lT G iK t) (lE G iK em) σ H1 Q:=by
 refine⟨λi m' ys H=>m'=all.length-i/\i<=all.length/\∃θ' h' acc,acc.length<=i/\Ev θ1 H1 θ' H/\W G θ' h' H/\aV G θ' H acc ys/\aE G F θ' H ((eG n ρ g t em j all (all.drop i) h').bind λzs h2=>mk (acc++zs) h2) (KV G Q),
  ⟨all.length,by simp,Tf _,θ1,h1,[],R5 _,Ev.refl,w1,.nil,p1⟩,?_⟩
 rintro i m' ys H ⟨rfl,hi,θ',h',acc,hacc,ev,w,ra,p⟩
 have hj:h'[j]?=some (.lst all):=by
  by_cases z:h'[j]?=some (.lst all)
  ·exact z
  ·exfalso;generalize all.drop i=ds at p
   cases ds with
   |nil=>unfold eG at p;rw[if_neg z]at p;exact p
   |cons x xs=>unfold eG at p;rw[if_neg z]at p;exact p
 obtain⟨vs,hv,rs⟩:=w.obj j a _ (ev.get ha) hj;have q:gF G.K H a vs:=gF.of hv;have hl:all.length=vs.length:=Sr rs;have hly:ys.length<=sizeLine:=by rw[<- show acc.length=ys.length from Sr ra];omega
 by_cases hlt:i<all.length
 ·have ed:all.drop i=all[i]::all.drop (i+1):=SS hlt;rw[ed]at p;unfold eG at p;rw[if_pos hj]at p;simp only[R.bind_assoc]at p;obtain⟨v,ev',rv⟩:=rs.some (R9 hlt);refine .inr ⟨⟨vs,v,q,ev'⟩,hly,λys2 H2=>i+1<=all.length/\∃θ' h' acc,acc.length<=i+1/\Ev θ1 H1 θ' H2/\W G θ' h' H2/\aV G θ' H2 acc ys2/\aE G F θ' H2 ((eG n ρ g t em j all (all.drop (i+1)) h').bind λzs h2=>mk (acc++zs) h2) (KV G Q),λys' H' q=>⟨all.length-(i+1),by omega,rfl,q⟩,λx H2 y=>?_⟩;obtain⟨e2,y⟩:=y;subst e2;have:=y vs q;rw[ev']at this;cases this;refine⟨θ',h',_,all[i],w,(fr.ev ev).replicate n,rv,(aE.dC p).mono λρ3 θ3 h3 H3 _ _ ⟨e3,w3,p3⟩ σ3 fr3=>⟨θ3,h3,ρ3,w3,fr3,(aE.dC p3).mono λc θ4 h4 H4 _ _ ⟨e4,w4,p4⟩=>?_⟩⟩;have ev4:=ev.trans (e3.trans e4);have ra4:=aV.ev (e3.trans e4) ra
  cases c with
  |false=>exact⟨hlt,θ4,h4,acc,by omega,ev4,w4,ra4,p4⟩
  |true=>
   simp only[Tr,R.bind_assoc]at p4;refine⟨θ4,h4,ρ3,w4,fr3.ev e4,(aE.dC p4).mono λy θ5 h5 H5 _ _ ⟨e5,w5,p5⟩ v5 r5=>⟨hlt,θ5,h5,acc++[y],by simp;omega,ev4.trans e5,w5,?_,?_⟩⟩
   ·exact eV (aV.ev e5 ra4) (.cons r5 .nil)
   ·simp only[R.bind_assoc,R.bo]at p5;simpa using p5
 ·have hx:i=all.length:=by omega
  subst hx;rw[Tc (R5 _)]at p;unfold eG at p;rw[if_pos hj]at p;simp only[R.bo,Ug]at p;exact .inl ⟨⟨vs,q,by rw[<- hl];exact R5 _⟩,hly,hmk acc ys θ' h' H hacc w ra p⟩
theorem Gy(own:VA)(CS:fD X.env.scope X.N own scope=true)(hc:X.calm=true)(hm:DE X E m e)(hg:∀C s2 H2 fp pins,DG #[11] iK g tg)
 (ht:∀C s2 H2 fp pins,J8 #[11] iK t ifs)(he:∀C s2 H2 fp pins,DE #[11] iK em elt)(hs:∀x,foldedSetIterable e X.env x=pure x:=by intro _;rfl) :
  DE X E (uI own.length m g t em) (.ListComp elt [⟨tg,e,ifs,0⟩] scope pos):=by
 simp[bC,nv,qM]at *;refine PE.imp (t:=yZ own.length (JV X.K (lE X.G E m)) (lG X.G iK g) (lT X.G iK t) (lE X.G iK em)) (BS own CS hc (BE hm) hg ht he hs) λσ H Q ⟨θ,h,ρ,w,fr,p⟩=>⟨θ,h,ρ,w,fr,(aE.bind p).mono λd θ1 h1 H1 _ _ ⟨ev,w1,p1⟩ v r=>?_⟩
 cases d with
 |ref j=>
  obtain⟨a,ha,rfl⟩:=r
  cases hj:h1[j]? with
  |none=>simp only[hj]at p1;exact p1.elim
  |some o=>
   cases o with
   |lst all=>
    simp only[hj]at p1;split at p1
    ·rename_i hz;obtain⟨vs,hv,rs⟩:=w1.obj j a _ ha hj;exact⟨a,rfl,⟨vs,gF.of hv⟩,A6 ha w1 (fr.ev ev) p1 (λys vs θ h H _=>jM ys vs θ h H) (de hz)⟩
    ·exact p1.elim
   |_=>simp only[hj]at p1;exact p1.elim
 |_=>exact p1.elim
end
end Ml
set_option maxHeartbeats 4000000
namespace PySem.W
open PySem PySem.Calls PyProof.Rows
noncomputable def KasT.ev(lt:Nat->Nat->Bool):KasT α->α
 |.ret a=>a
 |.ask i j k=>(k (lt i j)).ev lt
theorem KasT.Gz{P:α->Prop}:∀(t:KasT α),t.Run lt n P->t.Run lt n (λa=>a=t.ev lt/\P a)
 |.ret _,h=>⟨rfl,h⟩
 |.ask _ _ k,h=>⟨h.1,h.2.1,KasT.Gz (k _) h.2.2⟩
theorem KasT.Kf{P:α->Prop}:∀(t:KasT α),t.Run lt n P->P (t.ev lt)
 |.ret _,h=>h
 |.ask _ _ k,h=>KasT.Kf (k _) h.2.2
noncomputable def Mk(kz:List Int)(i j:Nat):Bool:=decide (kz.getD i 0<kz.getD j 0)
theorem Cy(kz:List Int)(n:Nat):kT (Mk kz) n:=⟨λa b _ _ h=>by simp only[Mk,Sv,decide_eq_false_iff_not]at *;omega,λa b c _ _ _ h h'=>by simp only[Mk,decide_eq_false_iff_not]at *;omega⟩
noncomputable def xb(kz:List Int):List Nat:=if kz.length<2 then List.range kz.length else((kas_sort kz.length).ev (Mk kz)).toList
theorem jU(kz:List Int):(xb kz).Perm (List.range kz.length):=by
 unfold xb;split
 ·exact List.Perm.refl _
 ·exact(KasT.Kf _ (tY (Cy kz kz.length) #[3])).1.perm
noncomputable def qS(kz:List Int)(vs:List β)(z:β):List β:=((xb kz.reverse).map λi=>vs.reverse.getD i z).reverse
theorem Cz:∀{as:List α} {bs:List β},as.length=bs.length->(as.zip bs).reverse=as.reverse.zip bs.reverse
 | [],[],_=>rfl
 |a::as,b::bs,h=>by
  have h':as.length=bs.length:=by simpa using h
  rw[TM,S5,Cz h',S5,S5,List.zip_append (by simp[h'])];rfl
theorem zP:∀{vs:Vy} {ns:List Int},IntsAre vs ns->IntsAre vs.reverse ns.reverse
 |_,_,.nil=>.nil
 |_,_,.cons n t h=>by rw[S5,S5];exact ksk_snoc (zP h)
section
variable {prog:VG} {w:World} {A:VH} {E:Vs} {s:VI} {P:PySem.Fin->VI->Prop} {a kS:Addr} {e e1:Nat} {vs:Vy} {kz:List Int} {keys:VE}
theorem uJ{st:SortSt}(ho:s.heap.get? a=some (seqObj "list" #[] e1))(hk:s.heap.get? kS=some (seqObj "list" keys e))(hka:kS≠a)(hz:keys.size<64)(hf:failedOf st=none){out:Vy}(he:(arrOf st).map (·.2)=out.reverse.toArray)(hz2:out.length<64)
 (h:∀h' tk c,(∀b o,b≠a->b≠kS->s.heap.get? b=some o->h'.get? b=some o)->h'.get? a=some (seqObj "list" out.toArray c)->P (.done (.ret .none)) {s with heap:=h',toks:=tk}) :
  wpAny #[14] A (ksk_tail a true e1 (.ref kS) st) P E s:=by
 have s1:=S4 s.heap kS (Obj.mapSeq λ_=>(#[]:VE));have na1:=(s1.2 a hka.symm).trans ho;have s2:=S4 (s.heap.update kS (Obj.mapSeq λ_=>(#[]:VE))) a (Obj.mapSeq λ_=>out.toArray);obtain⟨c2,hc2⟩:∃c2,((s.heap.update kS (Obj.mapSeq λ_=>(#[]:VE))).update a (Obj.mapSeq λ_=>out.toArray)).get? a=some (seqObj "list" out.toArray c2):=⟨_,get?_update_seq na1 λ_=>out.toArray⟩;have er:(if true=true then((arrOf st).map (·.2)).reverse else(arrOf st).map (·.2))=out.toArray:=by rw[if_pos rfl,he];simp
 unfold ksk_tail;dsimp only;refine R0 (Ur hk rfl ?_ (by rw[Td];omega) (Tf _));refine R0 (wpAny_letGo ?_);refine R0 (seqEpoch_at na1 rfl ?_);rw[er];refine R0 (Ur na1 rfl ?_ (Tf _) (by rw[Si,Td];omega));rw[hf];simp only[Vj,Sx,TK];exact R3 (h _ _ c2 (λb o hb hb2 e=>(s2.2 b hb).trans ((s1.2 b hb2).trans e)) hc2)
theorem D2(ho:s.heap.get? a=some (seqObj "list" #[] e1))(hk:s.heap.get? kS=some (seqObj "list" keys e))(hka:kS≠a)(hi:IntsAre keys.toList kz)(hlen:kz.length=vs.length)(h64:vs.length<64)
 (h:∀h' tk c,(∀b o,b≠a->b≠kS->s.heap.get? b=some o->h'.get? b=some o)->h'.get? a=some (seqObj "list" (qS kz vs Value.none).toArray c)->P (.done (.ret .none)) {s with heap:=h',toks:=tk}) :
  wpAny #[14] A (ksk_end a true vs.toArray e1 (.ref kS) keys) P E s:=by
 have hsz:keys.size=vs.length:=by have h1:=hi.length;rw[Te]at h1;omega
 have hout:(qS kz vs Value.none).length=vs.length:=by unfold qS;rw[Ti,Ss,(jU _).length_eq,List.length_range,Ti,hlen]
 have ez:(keys.zip vs.toArray).reverse=keys.toList.reverse.toArray.zip vs.reverse.toArray:=by apply Array.toList_inj.mp;rw[Array.toList_reverse,ksk_zip,ksk_zip,Cz (by simp[hsz])]
 unfold ksk_end;dsimp only;rw[if_pos rfl];refine R0 (TH ?_);rw[if_pos rfl];by_cases h2:vs.toArray.size<2
 ·rw[if_pos h2,if_pos h2];refine R0 (R3 ?_);rw[StateT.run_pure];refine R0 (R3 ?_);dsimp only;rw[Si]at h2;refine uJ ho hk hka #[3] rfl (out:=qS kz vs Value.none) ?_ #[3] h;show((keys.zip vs.toArray).reverse).map (·.2)=_;rw[ez];unfold qS xb;rw[Ti,if_pos #[3],List.reverse_reverse];rcases vs with _|⟨x,_|⟨y,vs⟩⟩
  ·have:kz=[]:=UM.mp hlen;subst this;simp
  ·match kz,hlen with
   | [k],_=>
    cases q:keys.toList with
    |nil=>rw[q]at hi;cases hi
    |cons u r=>
     rw[q]at hi
     cases hi with
     |cons _ _ hr=>cases hr;simp[List.range_succ]
  ·simp at h2;omega
 ·rw[if_neg h2,if_neg h2];rw[Si]at h2;rw[ksk_kind hi #[3],ez];refine R0 (R3 ?_);have hi2:=zP hi
  refine R0 (S3 (kat_run (E:=E) (vs:=vs.reverse) (ks:=keys.toList.reverse) (κ:=oneType') (G:=λp s'=>s'=s/\p=(kas_sort vs.reverse.length).ev (Mk kz.reverse))
   (Q:=λst' s'=>s'=s/\failedOf st'=none/\(arrOf st').map (·.2)=(qS kz vs Value.none).reverse.toArray)
   (by simp[hsz]) (by simp;omega) (by simpa using h64) (λp st' s' a1 a2 a3 a4=>⟨a4.1,a3,?_⟩) ?_) ?_ λ_ _ e=>e)
  ·rw[kat_snds (by simp[hsz]) a2,a4.2];unfold qS xb;rw[List.reverse_reverse,if_neg (by simp;omega)];simp[hlen]
  ·refine KasT.AV (lt:=Mk kz.reverse) (n:=vs.reverse.length) (P:=λp=>p=(kas_sort vs.reverse.length).ev (Mk kz.reverse)) (I:=λs'=>s'=s) ?_ ?_ _ _ (KasT.dY (λ_ q=>q.1) _ (KasT.Gz _ (tY (Cy _ _) (by simp;omega)))) rfl
   ·rintro i j C s' hi' hj rfl q;have hz:kz.reverse.length=vs.reverse.length:=by simp[hlen]
    obtain⟨t,e1⟩:=hi2.get i (kz.reverse.getD i 0) (by rw[SQ,R9 #[3]];rfl);obtain⟨u,e2⟩:=hi2.get j (kz.reverse.getD j 0) (by rw[SQ,R9 #[3]];rfl);unfold kas_ask;rw[SQ,SQ,e1,e2];exact kat_lt_int (q _ rfl)
   ·rintro p s' hp rfl;exact⟨rfl,hp⟩
  ·rintro⟨⟨⟩,st'⟩ s' ⟨rfl,hf,e⟩;dsimp only;exact uJ ho hk hka #[3] hf e #[3] h
theorem A7{f:Value}(ho:s.heap.get? a=some (seqObj "list" #[] e1))(hk:s.heap.get? kS=some (seqObj "list" #[] 0))(hka:kS≠a)(hlen:kz.length=vs.length)(h64:vs.length<64)
 (turn:∀(i:Nat) (v:Value) (k:Int),vs[i]?=some v->kz[i]?=some k->∀(h':Heap) (tk:Nat) (C:Vs),(∀b o,b≠a->b≠kS->s.heap.get? b=some o->h'.get? b=some o)->(∀t tk',C (.int k t) {s with heap:=h',toks:=tk'})->wpAny #[14] A (call f [v]) C (λ_ _=>False) {s with heap:=h',toks:=tk})
 (h:∀h' tk c,(∀b o,b≠a->b≠kS->s.heap.get? b=some o->h'.get? b=some o)->h'.get? a=some (seqObj "list" (qS kz vs Value.none).toArray c)->P (.done (.ret .none)) {s with heap:=h',toks:=tk}) :
  wpAny #[14] A (ksk_rest a f true vs.toArray e1 (.ref kS)) P E s:=by
 unfold ksk_rest;refine R0 (TH ?_)
 first
  |rw[List.forIn_toArray]
  | (rw[<- UO];simp only[List.toList_toArray])
  |rw[<- UO]
 refine R0 (ksk_fold (λi s'=>∃h' tk kA e,s'={s with heap:=h',toks:=tk}/\(∀b o,b≠a->b≠kS->s.heap.get? b=some o->h'.get? b=some o)/\h'.get? a=some (seqObj "list" #[] e1)/\h'.get? kS=some (seqObj "list" kA e)/\IntsAre kA.toList (kz.take i)) vs 0 s
  ⟨s.heap,s.toks,#[],0,rfl,λ_ _ _ _ e=>e,ho,hk,by simpa using IntsAre.nil⟩ ?step ?done)
 case step=>
  rintro j x s' hx ⟨h',tk,kA,e,rfl,kp,ho',hk',hi⟩;simp only[Nat.zero_add]at hi ⊢;have hj:j<vs.length:=(R6.mp hx).1;obtain⟨k,hkj⟩:∃k,kz[j]?=some k:=⟨_,R9 #[3]⟩;have hz:kA.size<=vs.length:=by have h1:=hi.length;rw[Te,Ub]at h1;omega
  refine R0 (Uq (S3 (turn j x k hx hkj h' tk (λv s''=>∃t tk',v=.int k t/\s''={s with heap:=h',toks:=tk'}) kp λt tk'=>⟨t,tk',rfl,rfl⟩) (λv s'' he=>?_) λ_ _ hF=>hF.elim));obtain⟨t2,tk2,rfl,rfl⟩:=he;dsimp only;have s1:=S4 h' kS (Obj.mapSeq (·.push (.int k t2)));obtain⟨c2,hc2⟩:∃c2,(h'.update kS (Obj.mapSeq (·.push (.int k t2)))).get? kS=some (seqObj "list" (kA.push (.int k t2)) c2):=⟨_,get?_update_seq hk' (·.push (.int k t2))⟩;have ek:kz.take (j+1)=kz.take j++[k]:=by rw[List.take_add_one,hkj];simp
  have ea:(kA.push (Value.int k t2)).toList=kA.toList++[Value.int k t2]:=by simp
  refine R0 (Ur hk' rfl ?_ (by rw[Td];omega) (Sd (Nat.le_of_eq (Array.size_push ..)) (by rw[Td];omega)));exact R3 ⟨rfl,_,_,kA.push (.int k t2),c2,rfl,λb o hb hb2 e=>(s1.2 b hb2).trans (kp b o hb hb2 e),(s1.2 a hka.symm).trans ho',hc2,by rw[ea,ek];exact ksk_snoc hi⟩
 case done=>
  rintro s' ⟨h',tk,kA,e,rfl,kp,ho',hk',hi⟩;have hi':IntsAre kA.toList kz:=by have e3:kz.take (0+vs.length)=kz:=List.take_of_length_le #[3];rw[e3]at hi;exact hi
  refine R0 (listItems_at hk' rfl ?_);exact D2 ho' hk' hka hi' hlen h64 λh3 tk3 c kp3 g3=>h h3 tk3 c (λb o hb hb2 e=>kp3 b o hb hb2 (kp b o hb hb2 e)) g3
theorem A8{f:Value}{n:Nat}(ho:s.heap.get? a=some (seqObj "list" vs.toArray n))(hlen:kz.length=vs.length)(h64:vs.length<64)
 (turn:∀(i:Nat) (v:Value) (k:Int),vs[i]?=some v->kz[i]?=some k->∀(h':Heap) (tk:Nat) (C:Vs),(∀b o,b≠a->s.heap.get? b=some o->h'.get? b=some o)->(∀t tk',C (.int k t) {s with heap:=h',toks:=tk'})->wpAny #[14] A (call f [v]) C (λ_ _=>False) {s with heap:=h',toks:=tk})
 (h:∀h' tk c,(∀b o,b≠a->s.heap.get? b=some o->h'.get? b=some o)->h'.get? a=some (seqObj "list" (qS kz vs Value.none).toArray c)->P (.done (.ret .none)) {s with heap:=h',toks:=tk}) :
  wpAny #[14] A (ksk_tree a f true) P E s:=by
 have ha:a<#[9]:=R7 ho;have s1:=S4 s.heap a (Obj.mapSeq λ_=>(#[]:VE));obtain⟨e1,ho1⟩:∃e1,(s.heap.update a (Obj.mapSeq λ_=>(#[]:VE))).get? a=some (seqObj "list" #[] e1):=⟨_,get?_update_seq ho λ_=>#[]⟩;have hkS:((s.heap.update a (Obj.mapSeq λ_=>(#[]:VE))).push (seqObj "tuple" vs.toArray 0)).objs.size=#[9]+1:=by rw[size_push',Uc]
 have up:∀b o,b≠a->s.heap.get? b=some o->(((s.heap.update a (Obj.mapSeq λ_=>(#[]:VE))).push (seqObj "tuple" vs.toArray 0)).push (seqObj "list" #[] 0)).get? b=some o:=λb o hb e=>R1 _ (R1 _ ((s1.2 b hb).trans e));unfold ksk_tree;refine R0 (listItems_at ho rfl ?_);refine R0 (Ur ho rfl ?_ (by rw[Si,Td];omega) (Tf _));refine R0 (seqEpoch_at ho1 rfl ?_);refine R0 (wpAny_newTuple ?_ (by show vs.length<=_;rw[Td];omega));refine R0 (wpAny_newList ?_ (Tf _));refine SH ?_;have nk:∀b o,s.heap.get? b=some o->b≠((s.heap.update a (Obj.mapSeq λ_=>(#[]:VE))).push (seqObj "tuple" vs.toArray 0)).objs.size:=λb o e=>by rw[hkS];exact Sg (Th (R7 e))
 refine A7 (s:={s with heap:=((s.heap.update a (Obj.mapSeq λ_=>(#[]:VE))).push (seqObj "tuple" vs.toArray 0)).push (seqObj "list" #[] 0)}) (kS:=((s.heap.update a (Obj.mapSeq λ_=>(#[]:VE))).push (seqObj "tuple" vs.toArray 0)).objs.size) (e1:=e1)
  (R1 _ (R1 _ ho1)) (R8 _ rfl) (by rw[hkS];exact Uz (Th ha)) hlen h64
  (λi v k hv hk h' tk C kp hC=>turn i v k hv hk h' tk C (λb o hb e=>kp b o hb (nk b o e) (up b o hb e)) hC)
  λh' tk c kp g=>h h' tk c (λb o hb e=>kp b o hb (nk b o e) (up b o hb e)) g
theorem A9{l:Addr}{f:String}{Q:Vs}(hl:s.heap.IsList l vs.toArray)(hlen:kz.length=vs.length)(h64:vs.length<64)
 (turn:∀(i:Nat) (v:Value) (k:Int),vs[i]?=some v->kz[i]?=some k->∀(h':Heap) (tk:Nat) (C:Vs),(∀b o,s.heap.get? b=some o->h'.get? b=some o)->(∀t tk',C (.int k t) {s with heap:=h',toks:=tk'})->wpAny #[14] A.in1.in1 (call (.builtin f) [v]) C (λ_ _=>False) {s with heap:=h',toks:=tk})
 (h:∀h' tk c,(∀b o,s.heap.get? b=some o->h'.get? b=some o)->h'.get? (#[9]+1)=some (seqObj "list" (qS kz vs Value.none).toArray c)->Q (.ref (#[9]+1)) {s with heap:=h',toks:=tk}) :
  wpAny #[14] A (call (.builtin "sorted") [.ref l] [(Str.ofString "key",.builtin f),(Str.ofString "reverse",.bool true)]) Q E s:=by
 refine call_function_entry_kw kind_sorted plain_sorted entry_sorted (ksk_s2 _ _ _) ?_;unfold Builtin.«sorted»;refine R0 (m:=checkCount "sorted" 1 1 _) (R3 ?_);refine R0 (collect_list hl ?_ (by rw[Td];omega));refine R0 (wpAny_newList ?_ (by rw[Td];omega));have hsz:#[1].objs.size=#[9]+1:=by rw[Uc,size_push']
 have hoL:(#[1].push (seqObj "list" vs.toArray 0)).get? (#[9]+1)=some (seqObj "list" vs.toArray 0):=by rw[<- hsz];exact R8 _ rfl
 have keep:∀b o,s.heap.get? b=some o->(#[1].push (seqObj "list" vs.toArray 0)).get? b=some o:=λb o q=>by have hlt:b<#[9]:=R7 q;rw[Tg _ _ _ (by rw[hsz];exact Sg (Th hlt)),U8 _ _ _ _ (Sg hlt),Tg _ _ _ (Sg hlt)];exact q
 show wpAny _ _ _ _ _ {s with heap:=#[1].push (seqObj "list" vs.toArray 0)};rw[hsz];have nl:∀b o,s.heap.get? b=some o->b≠#[9]+1:=λb o e=>Sg (Th (R7 e));refine R0 (SH (wpAny_call_entry_kw slot_list_sort ⟨_,hoL,rfl⟩ entry_list_sort ?body (ksk_l2 _ _ _)))
 case body=>
  show wpAny #[14] A.in1.in1 (Builtin.«list.sort» ⟨[.ref (#[9]+1)],[(Str.ofString "key",.builtin f),(Str.ofString "reverse",.bool true)]⟩) _ _ _;rw[ksk_t5]
  refine A8 (s:={s with heap:=#[1].push (seqObj "list" vs.toArray 0)}) hoL hlen h64
   (λi v k hv hk h' tk C kp hC=>turn i v k hv hk h' tk C (λb o e=>kp b o (nl b o e) (keep b o e)) hC) λh' tk c kp g=>⟨_,rfl,?_⟩
  exact R3 ⟨_,rfl,h h' tk c (λb o e=>kp b o (nl b o e) (keep b o e)) g⟩
end
end PySem.W
namespace HT
open PySem PySem.Spec PyProof.Rows
section
variable {prog:VG} {w:World} {A:VH} {E:Vs} {s:VI} {t sl:Addr} {items:VE} {vs:Value} {Q:Vs}
theorem GA{f:Nat->Option α}{g:Nat->α}:∀{l:List Nat},(∀m∈l,f m=some (g m))->l.filterMap f=l.map g
 | [],_=>rfl
 |a::l,h=>by rw[List.filterMap_cons,h a (.head _),Sy,GA λm hm=>h m (.tail _ hm)]
theorem GB(xs:VE):((List.range xs.size).filterMap λ(m:Nat)=>xs[(((xs.size:Int)-1)+(m:Int) * -1).toNat]?).toArray=xs.toList.reverse.toArray:=by
 congr 1
 have e:∀m∈List.range xs.size,xs[(((xs.size:Int)-1)+(m:Int) * -1).toNat]?=some (xs.toList.reverse.getD m .none):=by
  intro m hm;have hm:=SM.mp hm;have:(((xs.size:Int)-1)+(m:Int) * -1).toNat=xs.size-1-m:=by omega
  rw[this,Tj #[3]];simp[List.getElem?_reverse,hm,Tj (show xs.size-1-m<xs.size by omega)]
 rw[GA e];apply List.ext_getElem
 ·simp
 ·intro i h1 h2;simp at h1;simp[h1]
theorem pZ(ht:IsTup s.heap t items)(hs:s.heap.IsSliceOf sl .none .none vs)(ps:IsPart vs (some (-1)))
 (h:Q (.ref #[9]) {s with heap:=s.heap.push {cls:=.type "tuple",data:=.seq items.toList.reverse.toArray}})
 (hsz:items.size<=sizeLine):wpAny #[14] A (getItem (.ref t) (.ref sl)) Q E s:=by
 have hrev:sizeOk (.seq items.toList.reverse.toArray):=by show items.toList.reverse.toArray.size<=sizeLine;simpa using hsz
 obtain⟨os,hos,hcs,hds⟩:=id hs;have hTs:s.TypeIs (.ref sl) "slice" := ⟨os,hos,hcs⟩;unfold getItem
 try with_reducible refine SH ?_
 first|refine R0 (R3 ?_)|skip
 refine R0 (US ht.typeIs #[4] ?_)
 refine R0 (Sz (name:=Str.ofString "__getitem__") ht.typeIs So
  (SK So ht.typeIs entry_tuple_getitem ?_ (args_tuple_getitem _ _)))
 show wpAny _ _ (Builtin.Tuple.tupleItemsOf (.ref t) >>= _) _ _ s;refine R0 (tupleItemsOf_ ht ?_);refine R0 (wpAny_typeOf hTs ?_);rw[if_pos #[4]];refine R0 (R0 (R0 (SX hos hds rfl (R0 (SX hos hds rfl (R0 (SX hos hds rfl (R3 ?_))))))));refine R0 (nT ps ?_);refine R0 (slicePart_none (R0 (slicePart_none (R0 (R3 ?_)))));have e1:Builtin.Slice.sliceAdjust none none (-1) (items.size:Int)=((items.size:Int)-1,-1):=rfl
 have e2:Builtin.Slice.slicePlaces ((items.size:Int)-1) (-1) (-1)=items.size:=by
  unfold Builtin.Slice.slicePlaces;rw[if_neg #[3]];split
  ·simp
  ·omega
 show wpAny _ _ (match Builtin.Slice.sliceAdjust none none (-1) (items.size:Int)with | (lo,hi)=>pure (lo,(-1:Int),Builtin.Slice.slicePlaces lo hi (-1))) _ _ s;rw[e1];show wpAny _ _ (pure ((items.size:Int)-1,(-1:Int),Builtin.Slice.slicePlaces ((items.size:Int)-1) (-1) (-1))) _ _ s;rw[e2];refine R3 ?_;show wpAny _ _ (if((((items.size:Int)-1)==0&&(-1:Int)==1&&items.size==items.size)=true)then _ else _) _ _ s;rw[if_neg #[6],GB]
 first
  |exact R0 (m:=Builtin.Tuple.tupleExact _) (Su (R3 ⟨_,rfl,R3 h⟩) hrev)
  |exact R0 (m:=Builtin.Tuple.tupleExact _) (Su (R0 (R3 (R3 ⟨_,rfl,R3 h⟩))) hrev)
  |exact R0 (R0 (m:=Builtin.Tuple.tupleExact _) (Su (R3 (R3 ⟨_,rfl,R3 h⟩)) hrev))
  |exact R0 (R0 (m:=Builtin.Tuple.tupleExact _) (Su (R3 ⟨_,rfl,R3 h⟩) hrev))
end
end HT
namespace Ml
open PySem PySem.Spec L2 PyProof.Rows
noncomputable def Mm(e:ME):ME:=λρ h=>(e ρ h).bind λx h1=>match x with
 |.dat (.tuple ds)=>.ok (.dat (.tuple ds.reverse)) h1
 |_=>.bad
theorem rS{M:Hp}:∀{ds es:Vw} {vs us:List V},bg M ds vs->bg M es us->bg M (ds++es) (vs++us)
 | [],_,_,_,r,q=>by cases r;exact q
 |d::ds,_,_,_,⟨x,xs,rfl,r1,r2⟩,q=>⟨x,_,rfl,r1,rS r2 q⟩
theorem zQ{M:Hp}:∀{ds:Vw} {vs:List V},bg M ds vs->bg M ds.reverse vs.reverse
 | [],_,r=>by cases r;rfl
 |d::ds,_,⟨x,xs,rfl,r1,r2⟩=>by rw[S5,S5];exact rS (zQ r2) ⟨x,[],rfl,r1,rfl⟩
theorem rT:∀{vs us:List V} {xs ys:Vy},Vals vs xs->Vals us ys->Vals (vs++us) (xs++ys)
 |_,_,_,_,.nil,q=>q
 |_,_,_,_,.cons r1 r2,q=>.cons r1 (rT r2 q)
theorem zR:∀{vs:List V} {xs:Vy},Vals vs xs->Vals vs.reverse xs.reverse
 |_,_,.nil=>.nil
 |_,_,.cons r1 r2=>by rw[S5,S5];exact rT (zR r2) (.cons r1 .nil)
section
variable {X:Cx} {E:XK} {m:ME} {e c:Expr} {p1 p2 p3 p4 p5 pos:Pos} {k:Nat}
theorem Mn{cp:Nat}(he:DE X E m e):DE X E (Mm m) (.Subscript e (.Slice none none (some (.UnaryOp .USub (.Constant (.int 1) cp p1) p3)) p2) pos):=by
 have hst:DO X E (ik (wD Ip (aj (.int 1)))) (some (.UnaryOp .USub (.Constant (.int 1) cp p1) p3)):=gm (NW N0 aA);simp only[bC,Ck]at *;intro pins s σ H Q I ⟨θ,h,ρ,w,fr,p⟩;refine Subscript_ (bS (he pins s σ H (λv H1=>∃θ1 h1 d,W X.G θ1 h1 H1/\Fr X.G θ1 H1 ρ σ/\bU X.G θ1 H1 d v/\aE X.G (qJ X.G E) θ1 H1 (match d with|.dat (.tuple ds)=>R.ok (.dat (.tuple ds.reverse)) h1|_=>.bad) (KV X.G Q)) I ⟨θ,h,ρ,w,fr,(aE.bind p).mono λd θ1 h1 H1 _ _ ⟨ev,w1,q1⟩ v r=>⟨θ1,h1,d,w1,fr.ev ev,r,q1⟩⟩) λv s1 ⟨x,H1,I1,r1,θ1,h1,d,w1,fr1,rd,q1⟩=>?_);refine wpAny_Slice (R3 (R3 (bS (hst pins s1 σ H1 (λo H2=>o=some (-1)/\∃θ2,Ev θ1 H1 θ2 H2/\W X.G θ2 h1 H2) I1 ⟨θ1,h1,ρ,w1,fr1,λθ2 H2 ev w2=>⟨rfl,θ2,ev,w2⟩⟩) λvl s2 ⟨o,H2,I2,pl,eo,θ2,ev2,w2⟩=>?_)));subst eo;have I4:Inv X pins σ H2 {s2 with heap:=s2.heap.push {cls:=.type "slice",data:=.fields #[.none,.none,vl]}}:=I2.kept λb ob q=>R1 _ q;have q2:=aE.later q1 ev2;have rd2:=rd.ev ev2
 cases d with
 |dat d=>
  cases d with
  |tuple ds=>
   have so:cQ ds=true:=by simpa [eR]using rd2.2
   obtain⟨a,us,rfl,ha,q3,_⟩:=gj rd2;cases r1;obtain⟨its,rv,pt,hz⟩:=I4.tuple (fW.of (aC _ _ _ _ ha));refine tail_any pt.typeIs So.lookup (HT.pZ pt (Heap.IsSliceOf.new ..) pl ?_ (by simpa [rv.length]using hz)) #[5];obtain⟨e3,w3,g3⟩:=w2.put (o:=.tup us.reverse) (I4.hok.fresh (R5 _));refine⟨.ref _,_,I4.laid (t':=s2.toks) (o:=.tup us.reverse) (λb ob q=>R1 _ q) (R5 _) ?_,rfl,?_⟩
   ·exact⟨by simpa using hz,_,zR rv,IsTup.new _ _⟩
   ·exact q2 _ _ e3 w3 _ ⟨⟨_,us.reverse,rfl,g3,(zQ q3).same e3.same⟩,by simp only[eR];exact cu.mpr λd hd=>cu.mp so d (Vp.mp hd)⟩
  |_=>exact q2.elim
 |_=>exact q2.elim
noncomputable def xF:PyData->Int
 |.tuple ds=>ds.length
 |_=>0
noncomputable def Jf(kz:List Int):List Nat:=((PySem.W.xb kz.reverse).map λi=>kz.length-1-i).reverse
theorem Mo{kz:List Int}:∀i∈Jf kz,i<kz.length:=by intro i hi;unfold Jf at hi;rw[Vp]at hi;obtain⟨j,hj,rfl⟩:=SA.mp hi;have:=SM.mp ((PySem.W.jU _).mem_iff.mp hj);rw[Ti]at this;omega
theorem zS{β:Type}{kz:List Int}{vs:List β}(h:kz.length=vs.length)(z:β):PySem.W.qS kz vs z=(Jf kz).map λi=>vs.getD i z:=by unfold PySem.W.qS Jf;rw[List.map_reverse,UC];congr 1;refine List.map_congr_left λi hi=>?_;have:=SM.mp ((PySem.W.jU _).mem_iff.mp hi);rw[Ti]at this;show vs.reverse.getD i z=vs.getD (kz.length-1-i) z;rw[SQ,SQ,List.getElem?_reverse #[3],h]
noncomputable def uK(ds:Vw):Vw:=(Jf (ds.map xF)).map λi=>ds.getD i .none
theorem oF(ds:Vw):(uK ds).Perm ds:=by unfold uK;rw[<- zS #[6]];unfold PySem.W.qS;refine(List.reverse_perm _).trans ?_;have h1:=(PySem.W.jU (ds.map xF).reverse).map λi=>ds.reverse.getD i .none;have h2:=jH PyData.none ds.reverse;rw[Ti,Ss]at h1;rw[Ti]at h2;rw[h2]at h1;exact h1.trans (List.reverse_perm _)
noncomputable def oG:Fn:=λxs h=>match xs with
 | [x]=>match listOf x h with
  |some ds=>if ds.all ft&&decide (ds.length<64)then .ok (.dat (.list (uK ds))) h else .bad
  |Option.none=>.bad
 |_=>.bad
theorem GC(hm:X.mg "sorted" = none)(hm2:X.mg "len" = none){ma:MA}{cp:Nat}(ha:DA X E ma [e])(hg:Gl X "sorted" := by rfl)(hg2:Gl X "len" := by rfl)(hs:starEach [e] X.env=[(false,eval e X.env)]:=by rfl) :
  DE X E (ag oG ma) (.Call (.Name "sorted" p1) [e] [⟨some "key",.Name "len" p2,p3⟩,⟨some "reverse",.Constant (.bool true) cp p4,p5⟩] pos):=by
 simp only[bC,gV]at *;intro pins s σ H Q I ⟨θ,h,ρ,w,fr,p⟩;refine SU (nR I hg hm (by decide +kernel:bootBuiltins "sorted" = some (.builtin "sorted")) ?_);refine callWith_kw (bS (ha pos pins s σ H (λvs H1=>∃θ1 h1 ds,W X.G θ1 h1 H1/\aV X.G θ1 H1 ds vs/\aE X.G (qJ X.G E) θ1 H1 (oG ds h1) (Ml.KV X.G Q)) I ⟨θ,h,ρ,w,fr,(aE.bind p).mono λds θ1 h1 H1 _ _ ⟨ev,w1,q1⟩ vs r1=>⟨θ1,h1,ds,w1,r1,q1⟩⟩) λus s1 ⟨vs,H1,I1,r1,θ1,h1,ds,w1,rs,q1⟩=>?_) (by rw[hs];rfl) (by rw[hs];rfl);refine kws_cons (nR I1 hg2 hm2 (by decide +kernel:bootBuiltins "len" = some (.builtin "len")) ?_);refine kws_cons (bS (yT (X:=X) pins s1 σ H1 (λv H2=>v=.bl true/\H2=H1) I1 ⟨rfl,rfl⟩) λv s2 ⟨x,H2,I2,rx,ex,eh⟩=>?_);subst ex;subst eh;cases rx;refine kws_nil ?_;show wpAny _ _ (call (.builtin "sorted") us [(Str.ofString "key",.builtin "len"),(Str.ofString "reverse",.bool true)]) _ _ s2;unfold oG at q1;split at q1
 ·cases rs with
  |cons rs rr=>
   cases rr;split at q1
   ·rename_i ys hy;split at q1
    ·rename_i ok;simp only[R4,Sv]at ok;obtain⟨a,vs,rfl,hL,rp,so⟩:=pV w1 rs hy
     cases r1 with
     |cons z r1=>
      cases r1;cases z;obtain⟨its,rv,pl,_⟩:=I2.list (gF.of (K:=X.K) hL);have hlen:vs.length=ys.length:=rp.length;have hlen2:its.length=ys.length:=by rw[<- rv.length];exact hlen
      refine PySem.W.A9 (kz:=ys.map xF) pl.isList (by simp[hlen2]) #[3] (λi v n hv hn h' tk C kp hC=>?_) λh' tk c kp g=>?_
      ·have hi:i<ys.length:=by rw[<- hlen2];exact(R6.mp hv).1
       have I3:Inv X pins σ _ {s2 with heap:=h',toks:=tk}:=I2.kept kp;obtain⟨x,hx,rx⟩:=rp.get' (i:=i) (R9 hi);obtain⟨u,hu,ru⟩:=rv.get hx;rw[hv]at hu;cases hu;have hT:=Sh.mp ok.1 _ (Uv hi);rw[SD,R9 hi]at hn;cases hn;generalize ys[i]=y at rx hT hC
       cases y with
       |tuple es=>
        obtain⟨b,ws,rfl,hb,rw1⟩:=rx;cases ru;obtain⟨its2,rv2,pt,hz2⟩:=I3.tuple (fW.of (aC _ _ _ _ hb));have e1:its2.length=es.length:=by rw[<- rv2.length];exact rw1.length
        have hl:=qw;have hz3:=rv2.length;refine len_tuple pt (by simp only[Si];omega) ?_;have:=hC (tk+1) (tk+1+1);simpa [xF,e1]using this
       |_=>simp[ft]at hT
      ·have ge:s2.heap.objs.size<=s2.heap.objs.size+1:=Ui _;have nn:=I2.hok.fresh ge;rw[zS (by simp[hlen2])]at g;have hin:∀i∈Jf (ys.map xF),i<vs.length:=λi hi=>by have:=Mo i hi;simpa [hlen]using this
       have hz:((Jf (ys.map xF)).map λi=>vs.getD i .non).length<=sizeLine:=by have:=(oF ys).length_eq;unfold uK at this;rw[Ss]at this ⊢;rw[this];exact Sd (Uy ok.2) #[4]
       obtain⟨e1,w2,g2⟩:=w1.put (o:=.lst ((Jf (ys.map xF)).map λi=>vs.getD i .non)) nn;refine⟨.ref _,_,I2.laid (t':=tk) (o:=.lst ((Jf (ys.map xF)).map λi=>vs.getD i .non)) kp ge ⟨hz,_,c,qC rv _ hin,by simpa [PyProof.Rows.seqObj]using g⟩,rfl,q1 _ _ e1 w2 _ ⟨⟨_,_,rfl,g2,(qF rp .none _ hin).same e1.same⟩,?_⟩⟩;exact wR (oF ys).symm so
    ·exact q1.elim
   ·exact q1.elim
 ·exact q1.elim
end
end Ml
namespace Ml
open PySem
noncomputable def qT:MS:=aY (cn 1 (qH ai))
  (aY (jI (aP (ag oG (aa (ag cD #[18]) ai))) (ax 2) (iI (cY (aU (ag sO (aa (uI 1 (ae 1) (ax 0) dh (ag cU (aa (ae 3) #[18]))) ai)))) (gv (pW dU (ae 1) (ae 2))) bO))
  (bF (ag fG (aa (ae 1) ai))))
noncomputable def qU:Fn:=bz 1 3 qT
noncomputable def dk:Fn:=gw qU
noncomputable def vR:MS:=bF (bX 1 (aP (ag bT #[18])) (ax 0) (aU (ag iM (aa (ae 1) #[18]))) (ae 0))
noncomputable def eZ:Fn:=bz 1 1 vR
noncomputable def yj:Vw:=[.str "grounded",.str "preferred",.str "stable",.str "standing",.str "whole"]
noncomputable def vS:MS:=iI (aM (ak gx (ae 0) (Q9 yj))) (yg "NoKind" (aa (aj (.str "no kind of lots")) ai)) bO
noncomputable def e9:Fn:=bz 1 1 vS
end Ml
namespace L2
open PySem PySem.Spec PyProof.Rows
noncomputable def Jg(K:Vz)(mg:Vv)(a:Addr)(fs:List (Str×Str)):Prop:=
 ∃(o:Obj) (es:VD) (ep:Nat),K.lookup a=some o/\o.ExactDict/\o.data=.dict es ep/\(es.all λe=>isExactStrKey e.key)=true /\
  ∀k n,fs.lookup k=some n->∃f,mg n=some (.ref f)/\findBy (λk v=>v.isStr k) es k=some (.ref f)
theorem Jh(ho:s.heap.get? a=some o)(x:o.ExactDict)(hd:o.data=.dict es ep)
 (hall:(es.all λe=>isExactStrKey e.key)=true)(hf:findBy (λk v=>v.isStr k) es k=some v)(q:Q v {s with toks:=s.toks+1}):wpAny #[14] A (getItem (.ref a) (.str k tk)) Q E s:=by
 have ty:s.TypeIs (.ref a) "dict" := ⟨o,ho,x.1⟩;unfold getItem
 try with_reducible refine SH ?_
 refine R0 (US ty #[4] ?_)
 refine R0 (Sz (name:=Str.ofString "__getitem__") ty slot_dict_getitem
  (SK slot_dict_getitem ty entry_dict_getitem ?_ (args_dict_getitem _ _)))
 show wpAny _ _ (dictGet a (.str k tk) >>= _) _ _ s;refine R0 ?_;unfold dictGet
 try with_reducible refine SH ?_
 refine R0 (wpAny_pyHash_str (R0 (PyProof.Rows.KTD.kt_dictFind_strs (s:={s with toks:=s.toks+1}) ho hd hall ?_)));rw[findBy_of_findIdx?]at hf
 cases hi:es.findIdx? λe=>e.key.isStr k with
 |none=>rw[hi]at hf;cases hf
 |some i=>rw[hi]at hf;refine R0 (UU (s:={s with toks:=s.toks+1}) ho hd (R3 ?_));have hf':Option.map (λx:DictEntry=>x.val) es[i]?=some v:=hf;rw[hf'];exact R3 ⟨v,rfl,R3 q⟩
section
variable {X:Cx} {o i:Expr} {pos:Pos} {td ty:TE}
noncomputable def Om(fs:List (Str×Str))(a:Addr)(mg:Vv)(td ty:TE):TE:=λσ H Q=>td σ H λx H1=>ty σ H1 λy H2=>∃k n,x=.ref a/\y=.str k/\fs.lookup k=some n/\∀f,mg n=some (.ref f)->Q (.ref f) H2
theorem Mp(kf:Jg X.K X.mg a fs)(ho:PE X o td)(hi:PE X i ty)(hs:Lg i):PE X (.Subscript o i pos) (Om fs a X.mg td ty):=by intro pins s σ H Q I h;refine HV PySem.F.slot_dict_getitem.lookup hs (bS (ho pins s σ H _ I h) λu s1 ⟨x,H1,I1,rx,q1⟩=>bS (hi pins s1 σ H1 _ I1 q1) λiv s2 ⟨y,H2,I2,ry,k,n,ex,ey,lk,q2⟩=>?_);subst ex;subst ey;obtain rfl:u=Value.ref a:=rx;obtain⟨tk,rfl⟩:∃t,iv=Value.str k t:=ry;obtain⟨ob,es,ep,h1,h2,h3,h4,h5⟩:=kf;obtain⟨f,hf,hk⟩:=h5 k n lk;have g  := I2.qr a ob h1;exact⟨⟨ob,g,h2.1⟩,Jh g h2 h3 h4 hk ⟨.ref f,H2,I2.tok _,rfl,q2 f hf⟩⟩
end
noncomputable def Kg(K:Vz)(es:VD)(p:Str×Str):Bool:=match findBy (λk v=>v.isStr k) es p.1,PySem.W.nsIn K mainGlobals p.2 with
 |some (.ref f),some (some (.ref g))=>f==g
 |_,_=>false
noncomputable def Qm(K:Vz)(a:Addr)(fs:List (Str×Str)):Bool:=match K.lookup a with
 |some ⟨.type "dict",none,.dict es _,sl⟩=>sl.isEmpty&&(es.all λe=>isExactStrKey e.key)&&fs.all (Kg K es)
 |_=>false
theorem lookup_mem{fs:List (Str×Str)}(h:fs.lookup k=some n):(k,n)∈fs:=by
 induction fs with
 |nil=>cases h
 |cons p ps ih=>
  obtain⟨x,y⟩:=p;rw[Ts]at h
  cases q:k==x with
  |true=>rw[q]at h;cases h;rw[eq_of_beq q];exact SV ..
  |false=>rw[q]at h;exact Sb _ (ih h)
theorem Mq{K:Vz}(G:∀n v,PySem.W.nsIn K mainGlobals n=some (some v)->mg n=some v)(h:Qm K a fs=true):Jg K mg a fs:=by
 unfold Qm at h;split at h
 ·rename_i es ep sl e;simp only[R4]at h;obtain⟨⟨h1,h2⟩,h3⟩:=h;refine⟨_,es,ep,e,⟨rfl,rfl,?_⟩,rfl,h2,λk n hl=>?_⟩
  ·grind
  ·have:=Sh.mp h3 _ (lookup_mem hl);unfold Kg at this;split at this
   ·grind
   grind
 grind
end L2
namespace Ml
open PySem PySem.Spec L2
noncomputable def GD(fs:List (Str×Str))(m:ME):ME:=λρ h=>(m ρ h).bind λx h1=>match x with
 |.dat (.str k)=>match fs.lookup k with
  |some n=>.ok (.fn n) h1
  |Option.none=>.bad
 |_=>.bad
section
variable {X:Cx} {E:XK} {m:ME} {e:Expr} {x:Str} {pos p:Pos}
theorem Ji(hm:∃a,X.mg x=some (.ref a)/\Jg X.K X.mg a fs)(he:DE X E m e)(hs:Lg e)(hg:Gl X x:=by rfl)(hd:(x==("__debug__" : Str))=false:=by decide):DE X E (GD fs m) (.Subscript (.Name x p) e pos):=by
 simp only[bC]at *;obtain⟨a,hm,kf⟩:=hm
 exact PE.imp (Mp kf (sV (v:=.ref a) hg hm rfl hd) he hs) (by
  rintro σ H Q ⟨θ,h,ρ,w,fr,q⟩;refine⟨θ,h,ρ,w,fr,(aE.bind q).mono λd θ1 h1 H1 _ _ ⟨ev,w1,q1⟩ v r=>?_⟩
  cases d with
  |dat z=>
   cases z with
   |str k=>
    cases el:fs.lookup k with
    |none=>simp only[el]at q1;exact q1.elim
    |some n=>simp only[el]at q1;exact⟨k,n,rfl,r.1,el,λf hf=>q1 θ1 H1 Ev.refl w1 _ ⟨f,hf,rfl⟩⟩
   |_=>trivial
  |_=>exact q1.elim)
end
noncomputable def uL(i:Nat)(fs:List (Str×Fn))(ma:MA):ME:=λρ h=>match ρ[i]? with
 |some (some (.fn n))=>match fs.lookup n with
  |some F=>ag F ma ρ h
  |Option.none=>.bad
 |_=>.bad
inductive oH (P:VG) (w:World) (K:Vz) (mg:Vv) (base:Heap) (k:Nat):List (Str×Fn)->Prop
 |nil:oH P w K mg base k []
 |cons {n:Str} {ps:VA} {F:Fn} {fs:List (Str×Fn)}:aT P w K mg base n ps k F->oH P w K mg base k fs->oH P w K mg base k ((n,F)::fs)
theorem oH.get:∀{fs:List (Str×Fn)} {n:Str} {F:Fn},oH P w K mg base k fs->fs.lookup n=some F->∃ps,aT P w K mg base n ps k F
 |_,n,F,.cons (n:=m) h t,e=>by
  rw[Ts]at e
  cases q:n==m with
  |true=>
   rw[q]at e
   grind
  |false=>rw[q]at e;exact t.get e
section
variable {X:Cx} {E:XK} {x:Str} {k i:Nat} {fs:List (Str×Fn)} {e:Expr} {es:VB} {ma:MA} {p pos:Pos}
theorem GF(hs:oH X.prog X.w X.K X.mg X.base k fs)(hx:Passes (iF X.prog X.w) X E)(hr:bZ k X.A)(ha:DA X E ma (e::es))(hN:X.N[i]?=some x)(hv:Eo X.env.scope x)(hdb:(x==("__debug__" : Str))=false:=by decide)(hcd:(x==("__classdict__" : Str))=false:=by decide)
 (he:#[2]:=by rfl)(hpl:#[20].any (·.1)=false:=by rfl):DE X E (uL i fs ma) (.Call (.Name x p) (e::es) [] pos):=by
 simp only[bC,gV]at *;rintro pins s σ H Q I ⟨θ,h,ρ,w,fr,q⟩;unfold uL at q
 cases e1:ρ[i]? with
 |none=>rw[e1]at q;exact q.elim
 |some o=>
  cases o with
  |none=>rw[e1]at q;exact q.elim
  |some d=>
   rw[e1]at q;obtain⟨v,g1,g2⟩:=fr.2 i d e1
   cases d with
   |fn n=>
    cases el:fs.lookup n with
    |none=>simp only[el]at q;exact q.elim
    |some F=>
     simp only[el]at q;obtain⟨f,hf,rfl⟩:=g2;obtain⟨ps,F'⟩:=hs.get el;obtain⟨f',fd,h1,h2,h3,h4⟩:=F'.has.ex;have ef:f'=f:=by have z:X.mg n=some (.ref f):=hf;rw[h1]at z;cases z;rfl
     subst ef;obtain⟨m,hn,hl⟩:=I.loc;obtain⟨u,r,l⟩:=hl i x _ hN g1 hv;obtain rfl:u=Value.ref f':=r;have fin:wpAny #[12] X.A (callWith pos (.ref f') [] (backTo pos (starEach (e::es) X.env)) (backToKw pos (keywordEach [] X.env))) (EP X pins σ Q) X.xe s:=UE (h₀:=X.base) I.ok.mod.kin h2 (bS (ha pos pins s σ H _ I ⟨θ,h,ρ,w,fr,(aE.bind q).mono (by rintro xs θ1 h1 H1 _ _ ⟨ev,w1,p1⟩ vs r;exact show(Hg X.G F) (vs++[]) H1 Q E from⟨θ1,h1,xs,w1,by simpa using r,p1⟩)⟩) (by rintro us s1 ⟨vs,H1,I1,r,q⟩;exact⟨I1.qr,EM h4 hr h3 .nil hx I1 r q⟩)) he hpl;rcases l with⟨hk,hm⟩|⟨hk,c,hc,hcell⟩
     ·exact SU (Vg (wpAny_loadName_local I.ok.kind hk hn hm fin) hdb)
     ·rcases hk with hk|hk
      ·exact SU (Vg (wpAny_loadName_cell I.ok.kind hk hc hcell fin) hdb)
      ·exact SU (Vg (wpAny_loadName_free I.ok.kind hk hc hcell fin hcd) hdb)
   |_=>exact q.elim
theorem Mr(i:Nat)(hs:oH X.prog X.w X.K X.mg X.base k fs)(hx:Passes (iF X.prog X.w) X E)(hr:bZ k X.A)(ha:DA X E ma (e::es))(hN:X.N[i]?=some x:=by rfl)(hv:Eo X.env.scope x:=by first|exact Or.inl rfl|exact Or.inr (Or.inl rfl)|exact Or.inr (Or.inr rfl))(hdb:(x==("__debug__" : Str))=false:=by decide)(hcd:(x==("__classdict__" : Str))=false:=by decide)
 (he:#[2]:=by rfl)(hpl:#[20].any (·.1)=false:=by rfl):DE X E (uL i fs ma) (.Call (.Name x p) (e::es) [] pos):=GF hs hx hr ha hN hv hdb hcd he hpl
end
end Ml
namespace Ml
open PySem
noncomputable def mU:List (Str×Str):=[("grounded", "grounded_lots"),("preferred", "preferred_lots"),("stable", "stable_lots"),("standing", "standing_lots"),("whole", "whole_lots")]
noncomputable def yk:MS:=aY (gv (ag eF #[18]))
  (aY (gv (ag e9 (aa (ae 1) ai)))
  (aY (cn 2 (GD mU (ae 1)))
  (bF (uL 2 [("grounded_lots",cS),("preferred_lots",dk),("stable_lots",eZ),("standing_lots",cD),("whole_lots",fL)] #[18]))))
noncomputable def eQ:Fn:=bz 2 3 yk
noncomputable def lD:MS:=bF (ak t9 (ae 2) (ag eQ (aa (ae 0) (aa (ae 1) ai))))
noncomputable def bD:Fn:=bz 3 3 lD
noncomputable def rV:MS:=aY (iI (aM (ak oLt (ae 1) (ag gH #[18]))) (bF (ak eK (ae 0) (ae 1))) bO)
    (bF (aj (.int 0)))
noncomputable def iN:Fn:=bz 2 2 rV
noncomputable def uM:MS:=aY (cn 2 (aj (.list [.int 48271,.int 69621,.int 16807,.int 39373,.int 30269,.int 40014,.int 40692,.int 50021,.int 61687,.int 71993,.int 83869,.int 95561,.int 30307])))
    (aY (cn 3 (ak fR (ak dG (ak oMod (ae 0) (aj (.int 2147483647))) (aj (.int 12345))) (ak eK (ae 2) (ak oMod (ae 1) (aj (.int 13))))))
    (aY (cn 3 (ak dG (ak dG (ae 3) (ak fR (aj (.int 977)) (ae 1))) (ak fR (aj (.int 7919)) (ak iJ (ae 1) (aj (.int 13))))))
    (aY (cn 3 (ak oMod (ae 3) (aj (.int 1000000007))))
    (bF (ak iJ (ak oMod (ak dG (ak fR (ae 3) (ae 3)) (ak fR (aj (.int 48271)) (ae 1))) (aj (.int 1000000007))) (aj (.int 7)))))))
noncomputable def fY:Fn:=bz 2 4 uM
noncomputable def uN:MS:=aY (cn 3 (ag iN (aa (ae 0) (aa (ae 1) ai))))
    (aY (iI (Es (aM (ak oEq (ak oMod (ae 3) (aj (.int 2))) (aj (.int 0)))) (aM (ak oEq (ae 2) (aj (.int 0))))) (bF (qH (aa (ak iJ (ag Iq (aa (ae 3) ai)) (aj (.int 2))) ai))) bO)
    (aY (cn 4 (aj (.int 0)))
    (aY (jI (kB (aa (aj (.int 90)) ai)) (ax 5) (cn 4 (ak dG (ak fR (ae 4) (aj (.int 142857143))) (ag fY (aa (ae 3) (aa (ak dG (ak fR (aj (.int 90)) (ae 2)) (ae 5)) ai))))))
    (bF (qH (aa (ae 4) ai))))))
noncomputable def fu:Fn:=bz 3 6 uN
noncomputable def rW:MS:=aY (ng (ji (cb (ax 2) (cb (ax 3) jh))) (ag sY (aa (ak eK (ae 0) (aj (.int 0))) (aa (ae 1) ai))))
    (aY (ng (nS (ae 0) (aj (.int 0))) (ae 2))
    (bF (ae 3)))
noncomputable def aK:Fn:=bz 2 4 rW
noncomputable def uO:MS:=aY (cn 1 (aj (.list [.none,.bool true,.bool false,.int 0,.int 1,.int (-1),.int 7,.int (10^29),.str "",.str "a",.str "A",.str "a b",.str "abcdefg",.str "in",.tuple [],.list [],.dict []])))
    (aY (cn 1 (ak dG (ae 1) (aj (.list [.tuple [.str "a"],.list [.str "a"]]))))
    (aY (cn 1 (ak dG (ae 1) (aj (.list [.tuple [.str "b",.str "a"],.tuple [.str "a",.str "a"],.tuple [.tuple [],.tuple []],.tuple [.tuple [],.tuple [],.tuple []],.list [.tuple [],.tuple []],.tuple [.tuple [.str "a"],.tuple [.tuple [.str "a",.str "b"]]],.dict [(.str "a",.int 1)]]))))
    (bF (ak eK (ae 1) (ag aK (aa (ae 0) (aa (aj (.int 26)) ai)))))))
noncomputable def ej:Fn:=bz 1 2 uO
noncomputable def Ba:MS:=aY (xO [2,3,4] (aa (ag aK (aa (ae 0) (aa (ak dG (ae 1) (aj (.int 1))) ai))) (aa (ag aK (aa (ae 0) (aa (aj (.int 7)) ai))) (aa (Ct true) ai))))
    (aY (cn 5 (qH (aa (aj (.list [.str "a",.str "b",.str "c",.str "d",.str "e",.str "f",.str "g"])) ai)))
    (aY (gv (pW dU (ae 5) (aj (.list [.str "ann",.str "bo",.str "c",.str "dora",.str "elias",.str "f",.str "gwenda"]))))
    (aY (cn 5 (ak eK (ae 5) (ag aK (aa (ae 0) (aa (aj (.int 2)) ai)))))
    (aY (jI (kB (aa (ak eK (iD (aa (aj (.int 0)) (aa (ae 2) (aa (ak fR (aj (.int 2)) (ae 2)) (aa (ak fR (aj (.int 3)) (ae 2)) (aa (ae 2) (aa (ak iJ (ae 2) (aj (.int 2))) (aa (ak iJ (ae 2) (aj (.int 2))) ai)))))))) (ae 3)) ai)) (ax 6) (aY (xO [7,8] (aa (ak eK (ae 5) (ag aK (aa (ae 0) (aa (ae 2) ai)))) (aa (ak eK (ae 5) (ag aK (aa (ae 0) (aa (ae 2) ai)))) ai)))
    (iI (pb (aM (ak t7 (ae 7) (ae 8))) (aM (ak oEq (ag aK (aa (ae 0) (aa (aj (.int 3)) ai))) (aj (.int 0))))) (aY (ng (nS (ae 4) (gG (aa (ae 7) (aa (ae 8) ai)))) (aj (.bool true)))
    (ng (nS (ae 4) (LA (aM (ak oEq (ae 3) (aj (.int 4)))) (gG (aa (ae 8) (aa (ae 7) ai))) (gG (aa (ae 7) (aa (ae 8) ai))))) (aj (.bool true)))) bO)))
    (aY (jI (kB (aa (ak DH (ak fR (ae 2) (ag xT (aa (ak Em (ae 3) (aj (.int 4))) ai))) (ag xT (aa (nE (ak oEq (ae 3) (aj (.int 6))) (ak Em (ae 2) (aj (.int 0)))) ai))) ai)) (ax 9) (ng (nS (ae 4) (gG (aa (ak eK (ae 5) (ae 9)) (aa (ak eK (ae 5) (ak oMod (ak dG (ae 9) (aj (.int 1))) (ae 2))) ai)))) (aj (.bool true))))
    (bF (gG (aa (ag oh (aa (DK (ae 5) kC (ik (ae 2))) ai)) (aa (ag oh (aa (ag fG (aa (ag pH (aa (ae 4) ai)) ai)) ai)) ai)))))))))
noncomputable def oI:Fn:=bz 2 10 Ba
noncomputable def oJ:Fn:=gw oI
noncomputable def lF:MS:=aY (iI (pb (cY (aU (wD (kX isStr) (ae 0)))) (cY (aM (lu oLe oLe (aj (.int 1)) (ag gH #[18]) (aj (.int 6)))))) #[19] bO)
    (bF (ak oEq (bX 1 (aP (ae 0)) (ax 0) (aM (ak gx (ae 0) (aj (.str "abcdefghijklmnopqrstuvwxyz")))) (ae 0)) (aj (.list []))))
noncomputable def bJ:Fn:=bz 1 1 lF
noncomputable def p8:MS:=bF (ak oEq (bX 2 (wF (aa (ae 0) (aa (DK (ae 0) (ik (aj (.int 1))) kC) ai))) (ji (cb (ax 0) (cb (ax 1) jh))) (cY (aM (ak oLt (ae 0) (ae 1)))) (aj (.int 1))) (aj (.list [])))
noncomputable def dD:Fn:=bz 1 1 p8
noncomputable def nH:MS:=aY (iI (pb (cY (aU (wD (kX isTup) (ae 0)))) (pb (aM (ak t7 (ag gH #[18]) (aj (.int 2)))) (cY (aU (ag kM (aa (bX 1 (aP (ae 0)) (ax 0) dh (wD (kX isTup) (ae 0))) ai)))))) #[19] bO)
    (aY (ng (ji (cb (ax 1) (cb (ax 2) jh))) (ae 0))
    (aY (iI (pb (aM (ak Em (ag gH (aa (ae 1) ai)) (aj (.int 12)))) (pb (cY (aU (ag kM (aa (bX 1 (aP (ae 1)) (ax 0) dh (ag bJ #[18])) ai)))) (cY (aU (ag dD (aa (ae 1) ai)))))) #[19] bO)
    (aY (jI (aP (ae 2)) (ax 3) (aY (iI (pb (cY (aU (wD (kX isTup) (ae 3)))) (pb (aM (ak t7 (ag gH (aa (ae 3) ai)) (aj (.int 2)))) (cY (aU (ag kM (aa (bX 1 (aP (ae 3)) (ax 0) dh (ag bJ #[18])) ai)))))) #[19] bO)
    (iI (pb (aM (ak gx (ak eK (ae 3) (aj (.int 0))) (ae 1))) (aM (ak gx (ak eK (ae 3) (aj (.int 1))) (ae 1)))) #[19] bO)))
    (bF (ag dD (aa (ae 2) ai))))))
noncomputable def cW:Fn:=bz 1 4 nH
noncomputable def rY(f__law_bent_n:Fn):MS:=aY (cn 2 (ag aK (aa (ae 0) (aa (aj (.int 7)) ai))))
    (aY (iI (pb (cY (aU (wD (kX isTup) (ae 1)))) (pb (aM (ak oEq (ae 1) (aj (.tuple [])))) (aM (ak oLt (ae 2) (aj (.int 2)))))) (aY (cn 3 (aj (.list [.none,.str "",.str "a",.str "zz",.str "A",.str "abcdefg",.int 7,.tuple [],.tuple [.str "a",.str "a"],.list [],.bool true,.tuple [.str "a"],.str "in",.str "open"])))
    (bF (ak eK (ae 3) (ag aK (aa (ae 0) (aa (aj (.int 14)) ai)))))) bO)
    (aY (cn 4 (ag aK (aa (ae 0) (aa (ag gH (aa (ae 1) ai)) ai))))
    (aY (iI (aM (ak oLt (ae 2) (aj (.int 4)))) (bF (ak dG (ak dG (DK (ae 1) kC (ik (ae 4))) (gG (aa (ag f__law_bent_n (aa (ae 0) (aa (ak eK (ae 1) (ae 4)) ai))) ai))) (DK (ae 1) (ik (ak dG (ae 4) (aj (.int 1)))) kC))) bO)
    (bF (ak eK (iD (aa (ak dG (DK (ae 1) kC (ik (ae 4))) (DK (ae 1) (ik (ak dG (ae 4) (aj (.int 1)))) kC)) (aa (ag pH (aa (ae 1) ai)) (aa (ak dG (ae 1) (DK (ae 1) (ik (ae 4)) (ik (ak dG (ae 4) (aj (.int 1)))))) ai)))) (ak DH (ae 2) (aj (.int 4))))))))
noncomputable def cx:Nat->Fn
 |0=>bz 2 5 (λ_ _=>.bad)
 |n+1=>bz 2 5 (rY (cx n))
noncomputable def fM:MS:=aY (iI (pb (cY (aU (wD (kX isTup) (ae 1)))) (cY (aU (ag kM (aa (bX 1 (aP (ae 1)) (ax 0) dh (ag bJ #[18])) ai))))) #[19] bO)
    (bF (nE (ak oEq (bX 1 (aP (ae 1)) (ax 0) (aM (ak gx (ae 0) #[17])) (ae 0)) (aj (.list []))) (ag dD (aa (ae 1) ai))))
noncomputable def cy:Fn:=bz 2 2 fM
noncomputable def uP:MS:=aY (cn 2 (iD (aa (aj .none) (aa (ag i4 (aa #[17] ai)) (aa (aj (.tuple [.str "q"])) (aa (aj (.str "a")) (aa (ak dG #[17] #[17]) (aa (Mm #[17]) (aa (ae 1) (aa (aj (.tuple [.str "a",.str "a"])) (aa (ag (cx 5) (aa (ae 0) (aa #[17] ai))) ai)))))))))))
    (bF (bX 1 (aP (ak dG (ae 2) (iD (aa (ag ej #[18]) ai)))) (ax 0) (cY (aU (ag cy (aa (ae 2) #[18])))) (ae 0)))
noncomputable def il:Fn:=bz 2 3 uP
noncomputable abbrev gL:Addr:=438
noncomputable abbrev ip:Str:=("_law_right" : Str) ++ ".<locals>." ++ "<lambda>"
noncomputable def yl:MS:=aY (cn 1 (ag oJ (aa (ae 0) (aa (aj (.int 5)) ai))))
  (aY (cn 2 (ag wJ (aa (ae 1) ai)))
  (aY (jI (aP (ag il (aa (ae 0) (aa (ae 1) ai)))) (ax 3) (jI (aP (aj (.list [.str "grounded",.str "preferred",.str "stable",.str "standing",.str "whole"]))) (ax 4) (iI (aM (ak oC (ag bD (aa (ae 1) (aa (ae 4) (aa (ae 3) ai)))) (aj (.bool false)))) #[19] bO)))
  (aY (jI (aP (iD (aa (aj .none) (aa (aj (.tuple [])) (aa (iD (aa (ae 1) ai)) (aa #[17] (aa (ag i4 (aa (ae 1) ai)) (aa (gG (aa #[17] (aa (ak eK (ae 1) (aj (.int 1))) (aa (aj (.tuple [])) ai)))) (aa (ag (cx 5) (aa (ae 0) (aa (ae 1) ai))) (aa (ag ej #[18]) ai)))))))))) (ax 3) (iI (cY (aU (ag cW (aa (ae 3) ai)))) (aY (cn 5 (qH (aa (gX [0,3] 0 gL ip [3] (ag bD (aa (ae 0) (aa (aj .none) (aa (aj (.tuple [])) ai))))) ai)))
  (aY (gv (pW dU (ae 5) (gX [0,3] 0 gL ip [3] (ag eQ (aa (ae 0) (aa (aj (.str "whole")) ai))))))
  (iI (aM (ak t7 (ae 5) (ak fR (aj (.list [.tuple [.str "web"]])) (aj (.int 2))))) #[19] bO))) bO))
  (aY (jI (aP (aj (.list [.none,.str "",.str "Whole",.str "half",.str "peaceful",.str "ideal",.tuple [.str "whole"],.list [.str "whole"],.int 1,.bool true,.str "whole ",.dict []]))) (ax 3) (aY (cn 5 (qH (aa (gX [0,3] 0 gL ip [1,3] (ag bD (aa (ae 0) (aa (ae 1) (aa (aj .none) ai))))) ai)))
  (aY (gv (pW dU (ae 5) (gX [0,3] 0 gL ip [1,3] (ag eQ (aa (ae 0) (aa (ae 1) ai))))))
  (iI (aM (ak t7 (ae 5) (ak fR (aj (.list [.tuple [.str "kind"]])) (aj (.int 2))))) #[19] bO))))
  (bF (ak oEq (ag wJ (aa (ae 1) ai)) (ae 2)))))))
noncomputable def jV:Fn:=bz 1 6 yl
noncomputable def g9:Fn:=gw jV
noncomputable def Oo:MS:=aY (jI (kB (aa (ag Fy (aa (aj (.int 1)) (aa (ag Fz (aa (ag gH #[18]) (aa (aj (.int 4)) ai))) ai))) ai)) (ax 1) (jI (kB (aa (aj (.int 2)) ai)) (ax 2) (iI (cY (aU (ag g9 (aa (ag fu (aa (ae 0) (aa (ae 1) (aa (ae 2) ai)))) ai)))) #[19] bO)))
  (bF (aj (.bool true)))
noncomputable def CB:Fn:=bz 1 3 Oo
end Ml
namespace Stt
open PySem PySem.Spec L2 Ml
theorem uQ{α:Type}{l:List α}(h:i<l.length):List.Perm (l[i]::l.eraseIdx i) l:=by
 rw[List.eraseIdx_eq_take_drop_succ];have e:=List.take_append_drop i l;rw[SS h]at e
 conv=>rhs;rw[<- e]
 exact List.perm_middle.symm
end Stt
namespace Ml
open PySem PySem.Spec L2 Stt
theorem xf:∀{xs ys:Vw},xs.Nodup->(∀x∈xs,x∈ys)->xs.length<=ys.length
 | [],_,_,_=>Tf _
 |x::xs,ys,nd,h=>by
  classical
  obtain⟨n1,n2⟩:=UG.mp nd;have hx:=h x (SV ..);obtain⟨i,hi,e⟩:=List.getElem_of_mem hx;have p:=uQ hi
  have:=xf (ys:=ys.eraseIdx i) n2 λy hy=>by
   grind
  grind
end Ml
namespace K07
open PySem L2 Ml
noncomputable def top(i:Nat):Stmt:=PySem.Challenge.pw_everalike_k07_no_lots_and_no_kinds.main.body.getD i (.Pass ⟨0,0,0,0⟩)
structure Txt(K:Vz)(mg:Vv):Prop where
 n_all:mg "all" = none
 n_len:mg "len" = none
 n_isinstance:mg "isinstance" = none
 n_str:mg "str" = none
 n_zip:mg "zip" = none
 n_tuple:mg "tuple" = none
 n_sorted:mg "sorted" = none
 n_any:mg "any" = none
 n_range:mg "range" = none
 n_abs:mg "abs" = none
 n_divmod:mg "divmod" = none
 n_list:mg "list" = none
 n_int:mg "int" = none
 n_repr:mg "repr" = none
 n_max:mg "max" = none
 n_min:mg "min" = none
 i_LONGEST_NAME:∃t,mg "LONGEST_NAME" = some (.int 6 t)
 i_MOST_NAMES:∃t,mg "MOST_NAMES" = some (.int 12 t)
 x_NoWeb:Qj K mg "NoWeb"
 x_NoKind:Qj K mg "NoKind"
 f_FINDERS:∃a,mg "FINDERS" = some (.ref a)/\Jg K mg a mU
 t_KINDS:∃a,mg "KINDS" = some (.ref a)/\FG K a yj
section
variable {P:VG} {w:World} {K:Vz} {mg:Vv} {base:Heap} {XE:VK->XK} {bm:Addr}
noncomputable abbrev qV:Stmt:=top 19
noncomputable abbrev qW:VA:=["thing"]
theorem Bb:aH ["thing"] qW (ao qV):=kN
theorem ym:(["letter", "thing"]:VA).Nodup:=by decide +kernel
noncomputable abbrev xg(P:VG)(w:World)(K:Vz)(mg:Vv)(base:Heap):Prop:=aT P w K mg base "is_name" qW 1 jt
theorem D3(D:Df K mg "is_name" qW qV)(T:Txt K mg):xg P w K mg base:=
 aT.eq (Df.has (k:=0) D Bb (λf cdv A outer s H E hr=>
  aq (dI (DW.dt (gW (cI (br (uE (BW _) E3 T.n_isinstance T.n_str (dv 0)))) (gJ (cI (zC DQ DQ aA (nF lr T.n_len ic (af (dv 0) ah)) (Cm T.i_LONGEST_NAME)))))) (av (aL bV)) bK)
  (av (aL (nF (nC rfl) T.n_all iX (af (cA ["letter"] #[5] rfl (bR (dv 0)) (λ_ _ _ _ _=>dg 0 ym) (λ_ _ _ _ _=>fe) (λ_ _ _ _ _=>Ge DQ DQ oq (dv 0) oq)) ah)))))) #[7]
noncomputable abbrev lH:Stmt:=top 20
noncomputable abbrev lJ:VA:=["things"]
theorem yn:aH ["things"] lJ (ao lH):=kN
theorem lK:(["low", "high", "things"]:VA).Nodup:=by decide +kernel
noncomputable abbrev lL(P:VG)(w:World)(K:Vz)(mg:Vv)(base:Heap):Prop:=aT P w K mg base "is_rising" lJ 1 gz
theorem zT(D:Df K mg "is_rising" lJ lH)(T:Txt K mg):lL P w K mg base:=
 aT.eq (Df.has (k:=0) D yn (λf cdv A outer s H E hr=>
  av (aL (nF (nC rfl) T.n_all iX (af (cA ["low", "high"] #[5] rfl (FK #[5] T.n_zip (af (dv 0) (af (gy (dv 0) (gm aA) jO) ah))) (λ_ _ _ _ _=>i5 rfl (bM (dg 0 lK) (bM (dg 1 lK) gh)) (aX (aX dQ))) (λ_ _ _ _ _=>fe) (λ_ _ _ _ _=>eO (FU hr) (dv 0) (dv 1) #[5])) ah))))) #[7]
noncomputable abbrev lM:Stmt:=top 21
noncomputable abbrev lP:VA:=["thing"]
theorem yo:aH ["thing"] lP (ao lM):=kN
theorem uR:(["part", "thing"]:VA).Nodup:=by decide +kernel
noncomputable abbrev rZ(P:VG)(w:World)(K:Vz)(mg:Vv)(base:Heap):Prop:=aT P w K mg base "are_names" lP 2 iL
theorem zU(D:Df K mg "are_names" lP lM)(T:Txt K mg)(J20:lL P w K mg base)(J19:xg P w K mg base):rZ P w K mg base:=
 aT.eq (Df.has (k:=1) D yo (λf cdv A outer s H E hr=>
  aq (dI (DW.dt (gW (cI (br (uE (kit_tuple _) dF T.n_isinstance T.n_tuple (dv 0)))) (gJ (bL IA (nF lr T.n_len ic (af (dv 0) ah)) (Cm T.i_MOST_NAMES) #[5])))) (av (aL bV)) bK)
  (av (aL (mT (nF (nC rfl) T.n_all iX (af (cA ["part"] #[5] rfl (bR (dv 0)) (λ_ _ _ _ _=>dg 0 uR) (λ_ _ _ _ _=>fe) (λ_ _ _ _ _=>fy J19 cJ hr (af (dv 0) ah))) ah)) (ou (fy J20 aO hr (af (dv 0) ah)))))))) #[7]
noncomputable abbrev lQ:Stmt:=top 22
noncomputable abbrev lR:VA:=["thing", "names"]
theorem yp:aH ["thing", "names"] lR (ao lQ):=kN
noncomputable abbrev se(P:VG)(w:World)(K:Vz)(mg:Vv)(base:Heap):Prop:=aT P w K mg base "is_strike" lR 1 dB
theorem zV(D:Df K mg "is_strike" lR lQ)(T:Txt K mg):se P w K mg base:=
 aT.eq (Df.has (k:=0) D yp (λf cdv A outer s H E hr=>
  aq (dI (DW.dt (gW (cI (br (uE (kit_tuple _) dF T.n_isinstance T.n_tuple (dv 0)))) (gJ (bL (zr hr) (nF lr T.n_len ic (af (dv 0) ah)) aA #[5])))) (av (aL bV)) bK)
  (av (aL (mT (eO (zA hr) (cN (bf hr) (dv 0) aA (λ_ _=>rfl)) (dv 1) #[5]) (ou (eO (zA hr) (cN (bf hr) (dv 0) aA (λ_ _=>rfl)) (dv 1) #[5]))))))) #[7]
noncomputable abbrev i7:Stmt:=top 23
noncomputable abbrev i8:VA:=["thing", "names"]
theorem uS:aH ["thing", "names"] i8 (ao i7):=kN
theorem qY:(["part", "thing", "names"]:VA).Nodup:=by decide +kernel
noncomputable abbrev nI(P:VG)(w:World)(K:Vz)(mg:Vv)(base:Heap):Prop:=aT P w K mg base "are_strikes" i8 2 dR
theorem vT(D:Df K mg "are_strikes" i8 i7)(T:Txt K mg)(J20:lL P w K mg base)(J22:se P w K mg base):nI P w K mg base:=
 aT.eq (Df.has (k:=1) D uS (λf cdv A outer s H E hr=>
  aq (dI (cI (br (uE (kit_tuple _) dF T.n_isinstance T.n_tuple (dv 0)))) (av (aL bV)) bK)
  (av (aL (mT (nF (nC rfl) T.n_all iX (af (cA ["part"] #[5] rfl (bR (dv 0)) (λ_ _ _ _ _=>dg 0 qY) (λ_ _ _ _ _=>fe) (λ_ _ _ _ _=>fy J22 cJ hr (af (dv 0) (af (dv 2) ah)))) ah)) (ou (fy J20 aO hr (af (dv 0) ah)))))))) #[7]
noncomputable abbrev uT:Stmt:=top 24
noncomputable abbrev uU:VA:=["thing"]
theorem qZ:aH ["thing", "names", "strikes"] uU (ao uT):=kN
noncomputable abbrev zW(P:VG)(w:World)(K:Vz)(mg:Vv)(base:Heap):Prop:=aT P w K mg base "is_web" uU 3 fJ
theorem GG(D:Df K mg "is_web" uU uT)(T:Txt K mg)(J23:nI P w K mg base)(J21:rZ P w K mg base):zW P w K mg base:=
 aT.eq (Df.has (k:=2) D qZ (λf cdv A outer s H E hr=>
  aq (dI (DW.dt (gW (cI (br (uE (kit_tuple _) dF T.n_isinstance T.n_tuple (dv 0)))) (gJ (bL (zr hr) (nF lr T.n_len ic (af (dv 0) ah)) aA #[5])))) (av (aL bV)) bK)
  (aq (ll (dv 0) (i5 rfl (bM (dg 1 qZ.nd) (bM (dg 2 qZ.nd) gh)) (aX (aX dQ))))
  (av (aL (mT (fy J21 aO hr (af (dv 1) ah)) (ou (fy J23 aO hr (af (dv 2) (af (dv 1) ah)))))))))) #[7]
noncomputable abbrev lU:Stmt:=top 25
noncomputable abbrev lV:VA:=["thing"]
theorem yq:aH ["thing"] lV (ao lU):=kN
noncomputable abbrev si(P:VG)(w:World)(K:Vz)(mg:Vv)(base:Heap):Prop:=aT P w K mg base "check_web" lV 4 eF
theorem zX(D:Df K mg "check_web" lV lU)(T:Txt K mg)(J24:zW P w K mg base):si P w K mg base:=
 aT.eq (Df.has (k:=3) D yq (λf cdv A outer s H E hr=>
  av (dI (cI (br (fy J24 aO hr (af (dv 0) ah)))) (av (zD T.x_NoWeb hr (af oq ah))) bK))) #[7]
noncomputable abbrev lW:Stmt:=top 27
noncomputable abbrev lY:VA:=["lot", "others"]
theorem yr:aH ["lot", "others"] lY (ao lW):=kN
theorem uV:(["name", "lot", "others"]:VA).Nodup:=by decide +kernel
noncomputable abbrev lZ(P:VG)(w:World)(K:Vz)(mg:Vv)(base:Heap):Prop:=aT P w K mg base "is_within" lY 1 cU
theorem zY(D:Df K mg "is_within" lY lW)(T:Txt K mg):lZ P w K mg base:=
 aT.eq (Df.has (k:=0) D yr (λf cdv A outer s H E hr=>
  av (aL (nF (nC rfl) T.n_all iX (af (cA ["name"] #[5] rfl (bR (dv 0)) (λ_ _ _ _ _=>dg 0 uV) (λ_ _ _ _ _=>fe) (λ_ _ _ _ _=>eO (zA hr) (dv 0) (dv 2) #[5])) ah))))) #[7]
noncomputable abbrev uW:Stmt:=top 28
noncomputable abbrev uX:VA:=["web", "lot"]
theorem D4:aH ["web", "lot"] uX (ao uW):=kN
theorem sj:(["one", "other", "web", "lot"]:VA).Nodup:=by decide +kernel
noncomputable abbrev uY(P:VG)(w:World)(K:Vz)(mg:Vv)(base:Heap):Prop:=aT P w K mg base "hit_by" uX 1 lC
theorem GH(D:Df K mg "hit_by" uX uW)(T:Txt K mg):uY P w K mg base:=
 aT.eq (Df.has (k:=0) D D4 (λf cdv A outer s H E hr=>
  av (aL (zK ["one", "other"] false hr #[5] rfl (bR (cN (bf hr) (dv 0) aA (λ_ _=>rfl))) (λ_ _ _ _ _=>i5 rfl (bM (dg 0 sj) (bM (dg 1 sj) gh)) (aX (aX dQ))) (λ_ _ _ _ _=>eE (bL (zA hr) (dv 0) (dv 3) #[5])) (λ_ _ _ _ _=>dv 1) (λ_ _ _ _ _=>bV))))) #[7]
noncomputable abbrev oK:Stmt:=top 29
noncomputable abbrev oM:VA:=["web", "lot"]
theorem gA:aH ["web", "lot", "names", "strikes", "hit", "bare"] oM (ao oK):=kN
theorem vU:(["name", "web", "lot", "names", "strikes", "hit", "bare"]:VA).Nodup:=by decide +kernel
theorem nJ:(["one", "other", "web", "lot", "names", "strikes", "hit", "bare"]:VA).Nodup:=by decide +kernel
noncomputable abbrev jW(P:VG)(w:World)(K:Vz)(mg:Vv)(base:Heap):Prop:=aT P w K mg base "defended" oM 2 eg
theorem Bc(D:Df K mg "defended" oM oK)(T:Txt K mg)(J28:uY P w K mg base):jW P w K mg base:=
 aT.eq (Df.has (k:=1) D gA (λf cdv A outer s H E hr=>
  aq (ll (dv 0) (i5 rfl (bM (dg 2 gA.nd) (bM (dg 3 gA.nd) gh)) (aX (aX dQ))))
  (aq (eY 4 gA.nd (fy J28 aO hr (af (dv 0) (af (dv 1) ah))))
  (aq (eY 5 gA.nd (zK ["one", "other"] false hr #[5] rfl (bR (dv 3)) (λ_ _ _ _ _=>i5 rfl (bM (dg 0 nJ) (bM (dg 1 nJ) gh)) (aX (aX dQ))) (λ_ _ _ _ _=>eE (bL (rM hr) (dv 0) (dv 6) #[5])) (λ_ _ _ _ _=>dv 1) (λ_ _ _ _ _=>bV)))
  (av (aL (fS (yc rfl) T.n_tuple dF (af (cA ["name"] #[5] rfl (bR (dv 2)) (λ_ _ _ _ _=>dg 0 vU) (λ_ _ _ _ _=>eE (bL (rM hr) (dv 0) (dv 6) #[5])) (λ_ _ _ _ _=>dv 0)) ah)))))))) #[7]
noncomputable abbrev Bd:Stmt:=top 30
noncomputable abbrev Be:VA:=["web", "name"]
theorem yt:aH ["web", "name", "before", "behind"] Be (ao Bd):=kN
theorem mV:(["one", "other", "web", "name", "before", "behind"]:VA).Nodup:=by decide +kernel
noncomputable abbrev GI(P:VG)(w:World)(K:Vz)(mg:Vv)(base:Heap):Prop:=aT P w K mg base "foes" Be 1 qR
theorem Ms(D:Df K mg "foes" Be Bd)(T:Txt K mg):GI P w K mg base:=
 aT.eq (Df.has (k:=0) D yt (λf cdv A outer s H E hr=>
  aq (Ci (i:=2) ["one", "other"] yt.nd rfl rfl #[5] rfl (bR (cN (bf hr) (dv 0) aA (λ_ _=>rfl))) (λ_ _ _ _ _=>i5 rfl (bM (dg 0 mV) (bM (dg 1 mV) gh)) (aX (aX dQ))) (λ_ _ _ _ _=>eE (bL (qN hr) (dv 1) (dv 3) #[5])) (λ_ _ _ _ _=>dv 0))
  (aq (Ci (i:=3) ["one", "other"] yt.nd rfl rfl #[5] rfl (bR (cN (bf hr) (dv 0) aA (λ_ _=>rfl))) (λ_ _ _ _ _=>i5 rfl (bM (dg 0 mV) (bM (dg 1 mV) gh)) (aX (aX dQ))) (λ_ _ _ _ _=>eE (bL (qN hr) (dv 0) (dv 3) #[5])) (λ_ _ _ _ _=>dv 1))
  (av (aL (aQ eW (dv 2) (dv 3))))))) #[7]
noncomputable abbrev gM:Stmt:=top 31
noncomputable abbrev gN:VA:=["web"]
theorem dm:aH ["web", "found", "name", "against"] gN (ao gM):=kN
theorem oN:(["lot", "web", "found", "name", "against"]:VA).Nodup:=by decide +kernel
theorem oO:(["one", "lot", "web", "found", "name", "against"]:VA).Nodup:=by decide +kernel
noncomputable abbrev fj(P:VG)(w:World)(K:Vz)(mg:Vv)(base:Heap):Prop:=aT P w K mg base "peaceful_lots" gN 2 bT
theorem sQ(D:Df K mg "peaceful_lots" gN gM)(T:Txt K mg)(J30:GI P w K mg base):fj P w K mg base:=
 aT.eq (Df.has (k:=1) D dm (λf cdv A outer s H E hr=>
  aq (eY 1 dm.nd (cR 8 (d:=.list [.tuple []]) (Lit.of #[7]) #[8]))
  (aq (gK rfl (bR (cN (bf hr) (dv 0) aA (λ_ _=>rfl))) (dg 2 dm.nd) (aq (eY 3 dm.nd (fy J30 cJ hr (af (dv 0) (af (dv 2) ah))))
  (av (dI (bL (rM hr) (dv 2) (dv 3) #[5]) (av (eY 1 dm.nd (aQ eW (dv 1) (cA ["lot"] #[5] rfl (bR (dv 1)) (λ_ _ _ _ _=>dg 0 oN) (λ_ _ _ _ _=>eE (cI (br (nF (Kb rfl) T.n_any Gg (af (cA ["one"] #[5] rfl (bR (dv 0)) (λ_ _ _ _ _=>dg 0 oO) (λ_ _ _ _ _=>fe) (λ_ _ _ _ _=>eO (zA hr) (dv 0) (dv 5) #[5])) ah))))) (λ_ _ _ _ _=>lj (Jd (dv 0) (af (dv 3) ah))))))) bK))))
  (av (aL (nF (uv hr) T.n_sorted qz (af (dv 1) ah))))))) #[7]
noncomputable abbrev i9:Stmt:=top 32
noncomputable abbrev ja:VA:=["web", "lot"]
theorem uZ:aH ["web", "lot"] ja (ao i9):=kN
noncomputable abbrev nK(P:VG)(w:World)(K:Vz)(mg:Vv)(base:Heap):Prop:=aT P w K mg base "is_standing" ja 3 gp
theorem vV(D:Df K mg "is_standing" ja i9)(T:Txt K mg)(J27:lZ P w K mg base)(J29:jW P w K mg base):nK P w K mg base:=
 aT.eq (Df.has (k:=2) D uZ (λf cdv A outer s H E hr=>
  av (aL (fy J27 aO hr (af (dv 1) (af (fy J29 aO hr (af (dv 0) (af (dv 1) ah))) ah)))))) #[7]
noncomputable abbrev oP:Stmt:=top 33
noncomputable abbrev oQ:VA:=["web", "lot"]
theorem zZ:aH ["web", "lot"] oQ (ao oP):=kN
noncomputable abbrev u0(P:VG)(w:World)(K:Vz)(mg:Vv)(base:Heap):Prop:=aT P w K mg base "is_whole" oQ 3 jT
theorem Bf(D:Df K mg "is_whole" oQ oP)(T:Txt K mg)(J29:jW P w K mg base):u0 P w K mg base:=
 aT.eq (Df.has (k:=2) D zZ (λf cdv A outer s H E hr=>
  av (aL (eO (qN hr) (dv 1) (fy J29 aO hr (af (dv 0) (af (dv 1) ah))) #[5])))) #[7]
noncomputable abbrev md:Stmt:=top 34
noncomputable abbrev me:VA:=["web", "lot"]
theorem p9:aH ["web", "lot", "hit"] me (ao md):=kN
theorem u7:(["name", "web", "lot", "hit"]:VA).Nodup:=by decide +kernel
noncomputable abbrev sk(P:VG)(w:World)(K:Vz)(mg:Vv)(base:Heap):Prop:=aT P w K mg base "is_stable" me 2 iM
theorem Aa(D:Df K mg "is_stable" me md)(T:Txt K mg)(J28:uY P w K mg base):sk P w K mg base:=
 aT.eq (Df.has (k:=1) D p9 (λf cdv A outer s H E hr=>
  aq (eY 2 p9.nd (fy J28 aO hr (af (dv 0) (af (dv 1) ah))))
  (av (aL (nF (nC rfl) T.n_all iX (af (cA ["name"] #[5] rfl (bR (cN (bf hr) (dv 0) aA (λ_ _=>rfl))) (λ_ _ _ _ _=>dg 0 u7) (λ_ _ _ _ _=>fe) (λ_ _ _ _ _=>L6 (eO (zA hr) (dv 0) (dv 2) #[5]) (ou (eO (zA hr) (dv 0) (dv 3) #[5])))) ah)))))) #[7]
noncomputable abbrev gO:Stmt:=top 35
noncomputable abbrev gP:VA:=["web"]
theorem rf:aH ["web"] gP (ao gO):=kN
theorem oR:(["lot", "web"]:VA).Nodup:=by decide +kernel
noncomputable abbrev gQ(P:VG)(w:World)(K:Vz)(mg:Vv)(base:Heap):Prop:=aT P w K mg base "standing_lots" gP 4 cD
theorem sR(D:Df K mg "standing_lots" gP gO)(T:Txt K mg)(J31:fj P w K mg base)(J32:nK P w K mg base):gQ P w K mg base:=
 aT.eq (Df.has (k:=3) D rf (λf cdv A outer s H E hr=>
  av (aL (cA ["lot"] #[5] rfl (bR (fy J31 aO hr (af (dv 0) ah))) (λ_ _ _ _ _=>dg 0 oR) (λ_ _ _ _ _=>eE (br (fy J32 cJ hr (af (dv 1) (af (dv 0) ah))))) (λ_ _ _ _ _=>dv 0))))) #[7]
noncomputable abbrev jX:Stmt:=top 36
noncomputable abbrev jY:VA:=["web"]
theorem vW:aH ["web"] jY (ao jX):=kN
theorem sS:(["lot", "web"]:VA).Nodup:=by decide +kernel
noncomputable abbrev qa(P:VG)(w:World)(K:Vz)(mg:Vv)(base:Heap):Prop:=aT P w K mg base "whole_lots" jY 4 fL
theorem yu(D:Df K mg "whole_lots" jY jX)(T:Txt K mg)(J31:fj P w K mg base)(J33:u0 P w K mg base):qa P w K mg base:=
 aT.eq (Df.has (k:=3) D vW (λf cdv A outer s H E hr=>
  av (aL (cA ["lot"] #[5] rfl (bR (fy J31 aO hr (af (dv 0) ah))) (λ_ _ _ _ _=>dg 0 sS) (λ_ _ _ _ _=>eE (br (fy J33 cJ hr (af (dv 1) (af (dv 0) ah))))) (λ_ _ _ _ _=>dv 0))))) #[7]
noncomputable abbrev gR:Stmt:=top 37
noncomputable abbrev gS:VA:=["web"]
theorem du:aH ["web", "lot", "grown"] gS (ao gR):=kN
noncomputable abbrev kG(P:VG)(w:World)(K:Vz)(mg:Vv)(base:Heap):Prop:=aT P w K mg base "grounded_lots" gS 3 cS
theorem sT(D:Df K mg "grounded_lots" gS gR)(T:Txt K mg)(J29:jW P w K mg base):kG P w K mg base:=
 aT.eq (Df.has (k:=2) D du (λf cdv A outer s H E hr=>
  aq (eY 1 du.nd (cR 8 (d:=.tuple []) (Lit.of #[7]) #[8]))
  (aq (eY 2 du.nd (fy J29 aO hr (af (dv 0) (af (dv 1) ah))))
  (aq (FP (n:=20) (bL (zr hr) (dv 2) (dv 1) #[5]) (aq (eY 1 du.nd (dv 2))
  (av (eY 2 du.nd (fy J29 cJ hr (af (dv 0) (af (dv 1) ah)))))))
  (av (aL (oA (af (dv 1) ah)))))))) #[7]
noncomputable abbrev fZ:Stmt:=top 38
noncomputable abbrev f6:VA:=["web"]
theorem fN:aH ["web", "found", "lot"] f6 (ao fZ):=kN
theorem nh:(["other", "web", "found", "lot"]:VA).Nodup:=by decide +kernel
noncomputable abbrev ju(P:VG)(w:World)(K:Vz)(mg:Vv)(base:Heap):Prop:=aT P w K mg base "preferred_lots" f6 5 dk
theorem rg(D:Df K mg "preferred_lots" f6 fZ)(T:Txt K mg)(J35:gQ P w K mg base)(J27:lZ P w K mg base):ju P w K mg base:=
 aT.eq ((Df.has (k:=4) D fN (λf cdv A outer s H E hr=>
  aq (eY 1 fN.nd (qL ah))
  (aq (gK rfl (bR (GC T.n_sorted T.n_len (af (fy J35 cJ hr (af (dv 0) ah)) ah))) (dg 2 fN.nd) (av (dI (cI (br (nF (Kb rfl) T.n_any Gg (af (Gy ["other"] #[5] rfl (dv 1) (λ_ _ _ _ _=>dg 0 nh) (λ_ _ _ _ _=>fe) (λ_ _ _ _ _=>fy J27 cJ hr (af (dv 3) (af (dv 0) ah)))) ah)))) (av (mM (mS (dv 1) (dv 2)))) bK)))
  (av (aL (nF (uv hr) T.n_sorted qz (af (dv 1) ah))))))).gw) #[7]
noncomputable abbrev jb:Stmt:=top 39
noncomputable abbrev jc:VA:=["web"]
theorem u9:aH ["web"] jc (ao jb):=kN
theorem rh:(["lot", "web"]:VA).Nodup:=by decide +kernel
noncomputable abbrev nL(P:VG)(w:World)(K:Vz)(mg:Vv)(base:Heap):Prop:=aT P w K mg base "stable_lots" jc 3 eZ
theorem vX(D:Df K mg "stable_lots" jc jb)(T:Txt K mg)(J31:fj P w K mg base)(J34:sk P w K mg base):nL P w K mg base:=
 aT.eq (Df.has (k:=2) D u9 (λf cdv A outer s H E hr=>
  av (aL (cA ["lot"] #[5] rfl (bR (fy J31 aO hr (af (dv 0) ah))) (λ_ _ _ _ _=>dg 0 rh) (λ_ _ _ _ _=>eE (br (fy J34 cJ hr (af (dv 1) (af (dv 0) ah))))) (λ_ _ _ _ _=>dv 0))))) #[7]
noncomputable abbrev jZ:Stmt:=top 42
noncomputable abbrev j0:VA:=["thing"]
theorem vY:aH ["thing"] j0 (ao jZ):=kN
noncomputable abbrev qb(P:VG)(w:World)(K:Vz)(mg:Vv)(base:Heap):Prop:=aT P w K mg base "check_kind" j0 1 e9
theorem yw(D:Df K mg "check_kind" j0 jZ)(T:Txt K mg):qb P w K mg base:=
 aT.eq (Df.has (k:=0) D vY (λf cdv A outer s H E hr=>
  av (dI (bL (rM hr) (dv 0) (IE T.t_KINDS) #[5]) (av (zD T.x_NoKind hr (af oq ah))) bK))) #[7]
noncomputable abbrev Bg:Stmt:=top 43
noncomputable abbrev Bh:VA:=["web", "kind"]
theorem CC:aH ["web", "kind", "finder"] Bh (ao Bg):=kN
noncomputable abbrev Bi(P:VG)(w:World)(K:Vz)(mg:Vv)(base:Heap):Prop:=aT P w K mg base "lots" Bh 6 eQ
theorem Mt(D:Df K mg "lots" Bh Bg)(T:Txt K mg)(J37:kG P w K mg base)(J38:ju P w K mg base)(J39:nL P w K mg base)(J35:gQ P w K mg base)(J36:qa P w K mg base)(J42:qb P w K mg base)(J25:si P w K mg base):Bi P w K mg base:=
 aT.eq (Df.has (k:=5) D CC (λf cdv A outer s H E hr=>
  aq (mM (fy J25 aO hr (af (dv 0) ah)))
  (aq (mM (fy J42 aO hr (af (dv 1) ah)))
  (aq (eY 2 CC.nd (Ji T.f_FINDERS (dv 1) (λ_ _=>rfl)))
  (av (aL (Mr (k:=5) 2 (.cons (J37.mono #[4]) (.cons (J38.mono #[4]) (.cons (J39.mono #[4]) (.cons (J35.mono #[4]) (.cons (J36.mono #[4]) (.nil)))))) aO (hr.mono #[3]) (af (dv 0) ah)))))))) #[7]
noncomputable abbrev mf:Stmt:=top 44
noncomputable abbrev mi:VA:=["web", "kind", "thing"]
theorem yx:aH ["web", "kind", "thing"] mi (ao mf):=kN
noncomputable abbrev su(P:VG)(w:World)(K:Vz)(mg:Vv)(base:Heap):Prop:=aT P w K mg base "is_lot_of" mi 7 bD
theorem Ab(D:Df K mg "is_lot_of" mi mf)(T:Txt K mg)(J43:Bi P w K mg base):su P w K mg base:=
 aT.eq (Df.has (k:=6) D yx (λf cdv A outer s H E hr=>
  av (aL (eO (zA hr) (dv 2) (fy J43 aO hr (af (dv 0) (af (dv 1) ah))) #[5])))) #[7]
noncomputable abbrev mj:Stmt:=top 46
noncomputable abbrev mm:VA:=["_law_script", "_law_k"]
theorem yy:aH ["_law_script", "_law_k"] mm (ao mj):=kN
noncomputable abbrev sv(P:VG)(w:World)(K:Vz)(mg:Vv)(base:Heap):Prop:=aT P w K mg base "_law_cell" mm 1 iN
theorem Ac(D:Df K mg "_law_cell" mm mj)(T:Txt K mg):sv P w K mg base:=
 aT.eq (Df.has (k:=0) D yy (λf cdv A outer s H E hr=>
  aq (dI (bL (FU hr) (dv 1) (nF lr T.n_len ic (af (dv 0) ah)) #[5]) (av (aL (cN (bf hr) (dv 0) (dv 1) (λ_ _=>rfl)))) bK)
  (av (aL aA)))) #[7]
noncomputable abbrev oS:Stmt:=top 47
noncomputable abbrev oT:VA:=["_law_cell_here", "_law_k"]
theorem gB:aH ["_law_cell_here", "_law_k", "_law_some", "_law_stir"] oT (ao oS):=kN
noncomputable abbrev va(P:VG)(w:World)(K:Vz)(mg:Vv)(base:Heap):Prop:=aT P w K mg base "_law_mix" oT 1 fY
theorem Bj(D:Df K mg "_law_mix" oT oS)(T:Txt K mg):va P w K mg base:=
 aT.eq (Df.has (k:=0) D gB (λf cdv A outer s H E hr=>
  aq (eY 2 gB.nd (cR 8 (d:=.list [.int 48271,.int 69621,.int 16807,.int 39373,.int 30269,.int 40014,.int 40692,.int 50021,.int 61687,.int 71993,.int 83869,.int 95561,.int 30307]) (Lit.of #[7]) #[8]))
  (aq (eY 3 gB.nd (aQ kD (aQ eW (aQ wQ (dv 0) aA) aA) (cN (bf hr) (dv 2) (aQ wQ (dv 1) aA) (λ_ _=>rfl))))
  (aq (eY 3 gB.nd (aQ eW (aQ eW (dv 3) (aQ kD aA (dv 1))) (aQ kD aA (aQ uk (dv 1) aA))))
  (aq (eY 3 gB.nd (aQ wQ (dv 3) aA))
  (av (aL (aQ uk (aQ wQ (aQ eW (aQ kD (dv 3) (dv 3)) (aQ kD aA (dv 1))) aA) aA)))))))) #[7]
noncomputable abbrev oU:Stmt:=top 48
noncomputable abbrev oV:VA:=["_law_script", "_law_k", "_law_lap"]
theorem gC:aH ["_law_script", "_law_k", "_law_lap", "_law_cell_here", "_law_number", "_law_j"] oV (ao oU):=kN
noncomputable abbrev vb(P:VG)(w:World)(K:Vz)(mg:Vv)(base:Heap):Prop:=aT P w K mg base "_law_box" oV 2 fu
theorem Bk(D:Df K mg "_law_box" oV oU)(T:Txt K mg)(J47:va P w K mg base)(J46:sv P w K mg base):vb P w K mg base:=
 aT.eq (Df.has (k:=1) D gC (λf cdv A outer s H E hr=>
  aq (eY 3 gC.nd (fy J46 aO hr (af (dv 0) (af (dv 1) ah))))
  (aq (dI (DW.dt (LL (bL (qN hr) (aQ wQ (dv 3) aA) aA #[5]) (Iu (bL (qN hr) (dv 2) aA #[5])))) (av (aL (qL (af (aQ uk (nF N4 T.n_abs Lk (af (dv 3) ah)) aA) ah)))) bK)
  (aq (eY 4 gC.nd aA)
  (aq (gK rfl (pQ #[5] T.n_range (af aA ah)) (dg 5 gC.nd) (av (eY 4 gC.nd (aQ eW (aQ kD (dv 4) aA) (fy J47 cJ hr (af (dv 3) (af (aQ eW (aQ kD aA (dv 2)) (dv 5)) ah)))))))
  (av (aL (qL (af (dv 4) ah))))))))) #[7]
noncomputable abbrev mn:Stmt:=top 49
noncomputable abbrev mr:VA:=["_law_box_here", "_law_count"]
theorem j3:aH ["_law_box_here", "_law_count", "_law_left", "_law_digit"] mr (ao mn):=kN
noncomputable abbrev iO(P:VG)(w:World)(K:Vz)(mg:Vv)(base:Heap):Prop:=aT P w K mg base "_law_take" mr 1 aK
theorem Ad(D:Df K mg "_law_take" mr mn)(T:Txt K mg):iO P w K mg base:=
 aT.eq (Df.has (k:=0) D j3 (λf cdv A outer s H E hr=>
  aq (ll (nF F1 T.n_divmod Du (af (cN (bf hr) (dv 0) aA (λ_ _=>rfl)) (af (dv 1) ah))) (i5 rfl (bM (dg 2 j3.nd) (bM (dg 3 j3.nd) gh)) (aX (aX dQ))))
  (aq (ll (dv 2) (yf hr (dv 0) aA (λ_=>rfl)))
  (av (aL (dv 3)))))) #[7]
noncomputable abbrev oW:Stmt:=top 50
noncomputable abbrev oX:VA:=["_law_box_here"]
theorem iP:aH ["_law_box_here", "_law_some"] oX (ao oW):=kN
noncomputable abbrev oY(P:VG)(w:World)(K:Vz)(mg:Vv)(base:Heap):Prop:=aT P w K mg base "_law_odd" oX 2 ej
theorem Bl(D:Df K mg "_law_odd" oX oW)(T:Txt K mg)(J49:iO P w K mg base):oY P w K mg base:=
 aT.eq (Df.has (k:=1) D iP (λf cdv A outer s H E hr=>
  aq (eY 1 iP.nd (cR 8 (d:=.list [.none,.bool true,.bool false,.int 0,.int 1,.int (-1),.int 7,.int (10^29),.str "",.str "a",.str "A",.str "a b",.str "abcdefg",.str "in",.tuple [],.list [],.dict []]) (Lit.of #[7]) #[8]))
  (aq (eY 1 iP.nd (aQ eW (dv 1) (cR 8 (d:=.list [.tuple [.str "a"],.list [.str "a"]]) (Lit.of #[7]) #[8])))
  (aq (eY 1 iP.nd (aQ eW (dv 1) (cR 8 (d:=.list [.tuple [.str "b",.str "a"],.tuple [.str "a",.str "a"],.tuple [.tuple [],.tuple []],.tuple [.tuple [],.tuple [],.tuple []],.list [.tuple [],.tuple []],.tuple [.tuple [.str "a"],.tuple [.tuple [.str "a",.str "b"]]],.dict [(.str "a",.int 1)]]) (Lit.of #[7]) #[8])))
  (av (aL (cN (bf hr) (dv 1) (fy J49 aO hr (af (dv 0) (af aA ah))) (λ_ _=>rfl)))))))) #[7]
noncomputable abbrev oZ:Stmt:=top 51
noncomputable abbrev o3:VA:=["_law_box_here", "_law_most_names"]
theorem en:aH ["_law_box_here", "_law_most_names", "_law_count", "_law_way", "_law_seen", "_law_names", "_law_turn", "_law_one", "_law_other", "_law_at"] o3 (ao oZ):=kN
noncomputable abbrev vc(P:VG)(w:World)(K:Vz)(mg:Vv)(base:Heap):Prop:=aT P w K mg base "_law_web" o3 2 oJ
theorem Bm(D:Df K mg "_law_web" o3 oZ)(T:Txt K mg)(J49:iO P w K mg base):vc P w K mg base:=
 aT.eq ((Df.has (k:=1) D en (λf cdv A outer s H E hr=>
  aq (Ol 2 3 4 en.nd (af (fy J49 aO hr (af (dv 0) (af (aQ eW (dv 1) aA) ah))) (af (fy J49 aO hr (af (dv 0) (af aA ah))) (af IQ ah))))
  (aq (eY 5 en.nd (qL (af (cR 8 (d:=.list [.str "a",.str "b",.str "c",.str "d",.str "e",.str "f",.str "g"]) (Lit.of #[7]) #[8]) ah)))
  (aq (mM (mS (dv 5) (cR 8 (d:=.list [.str "ann",.str "bo",.str "c",.str "dora",.str "elias",.str "f",.str "gwenda"]) (Lit.of #[7]) #[8])))
  (aq (eY 5 en.nd (cN (bf hr) (dv 5) (fy J49 aO hr (af (dv 0) (af aA ah))) (λ_ _=>rfl)))
  (aq (gK rfl (pQ #[5] T.n_range (af (cN (bf hr) (oA (af aA (af (dv 2) (af (aQ kD aA (dv 2)) (af (aQ kD aA (dv 2)) (af (dv 2) (af (aQ uk (dv 2) aA) (af (aQ uk (dv 2) aA) ah)))))))) (dv 3) (λ_ _=>rfl)) ah)) (dg 6 en.nd) (aq (Ob 7 8 en.nd (af (cN (bf hr) (dv 5) (fy J49 cJ hr (af (dv 0) (af (dv 2) ah))) (λ_ _=>rfl)) (af (cN (bf hr) (dv 5) (fy J49 cJ hr (af (dv 0) (af (dv 2) ah))) (λ_ _=>rfl)) ah)))
  (av (dI (DW.dt (gW (bL (zr hr) (dv 7) (dv 8) #[5]) (gJ (bL (qN hr) (fy J49 cJ hr (af (dv 0) (af aA ah))) aA #[5])))) (aq (ll bV (yf hr (dv 4) (lj (af (dv 7) (af (dv 8) ah))) (λ_=>rfl)))
  (av (ll bV (yf hr (dv 4) (NY (bL (qN hr) (dv 3) aA #[5]) (lj (af (dv 8) (af (dv 7) ah))) (lj (af (dv 7) (af (dv 8) ah)))) (λ_=>rfl))))) bK))))
  (aq (gK rfl (pQ #[5] T.n_range (af (aQ Ka (aQ kD (dv 2) (fS Kc T.n_int Gf (af (eO IA (dv 3) aA #[5]) ah))) (fS Kc T.n_int Gf (af (mT (eO (qN hr) (dv 3) aA #[5]) (ou (eO IA (dv 2) aA #[5]))) ah))) ah)) (dg 9 en.nd) (av (ll bV (yf hr (dv 4) (lj (af (cN (bf hr) (dv 5) (dv 9) (λ_ _=>rfl)) (af (cN (bf hr) (dv 5) (aQ wQ (aQ eW (dv 9) aA) (dv 2)) (λ_ _=>rfl)) ah))) (λ_=>rfl)))))
  (av (aL (lj (af (fS (yc rfl) T.n_tuple dF (af (gy (dv 5) jO (gm (dv 2))) ah)) (af (fS (yc rfl) T.n_tuple dF (af (nF (uv hr) T.n_sorted qz (af (fS (Gb rfl) T.n_list sX (af (dv 4) ah)) ah)) ah)) ah)))))))))))).gw) #[7]
noncomputable abbrev iq:Stmt:=top 54
noncomputable abbrev iu:VA:=["_law_thing"]
theorem sU:aH ["_law_thing"] iu (ao iq):=kN
theorem qc:(["_law_sign", "_law_thing"]:VA).Nodup:=by decide +kernel
noncomputable abbrev iw(P:VG)(w:World)(K:Vz)(mg:Vv)(base:Heap):Prop:=aT P w K mg base "_law_is_name" iu 1 bJ
theorem vf(D:Df K mg "_law_is_name" iu iq)(T:Txt K mg):iw P w K mg base:=
 aT.eq (Df.has (k:=0) D sU (λf cdv A outer s H E hr=>
  aq (dI (DW.dt (gW (cI (br (uE (BW _) E3 T.n_isinstance T.n_str (dv 0)))) (gJ (cI (zC DQ DQ aA (nF lr T.n_len ic (af (dv 0) ah)) aA))))) (av (aL bV)) bK)
  (av (aL (eO (qN hr) (cA ["_law_sign"] #[5] rfl (bR (dv 0)) (λ_ _ _ _ _=>dg 0 qc) (λ_ _ _ _ _=>eE (bL (rM hr) (dv 0) oq #[5])) (λ_ _ _ _ _=>dv 0)) (cR 8 (d:=.list []) (Lit.of #[7]) #[8]) #[5]))))) #[7]
noncomputable abbrev j4:Stmt:=top 55
noncomputable abbrev j5:VA:=["_law_row"]
theorem vZ:aH ["_law_row"] j5 (ao j4):=kN
theorem kH:(["_law_one", "_law_other", "_law_row"]:VA).Nodup:=by decide +kernel
noncomputable abbrev j6(P:VG)(w:World)(K:Vz)(mg:Vv)(base:Heap):Prop:=aT P w K mg base "_law_rises" j5 1 dD
theorem yz(D:Df K mg "_law_rises" j5 j4)(T:Txt K mg):j6 P w K mg base:=
 aT.eq (Df.has (k:=0) D vZ (λf cdv A outer s H E hr=>
  av (aL (eO (qN hr) (cA ["_law_one", "_law_other"] #[5] rfl (FK #[5] T.n_zip (af (dv 0) (af (gy (dv 0) (gm aA) jO) ah))) (λ_ _ _ _ _=>i5 rfl (bM (dg 0 kH) (bM (dg 1 kH) gh)) (aX (aX dQ))) (λ_ _ _ _ _=>eE (cI (bL (FU hr) (dv 0) (dv 1) #[5]))) (λ_ _ _ _ _=>aA)) (cR 8 (d:=.list []) (Lit.of #[7]) #[8]) #[5])))) #[7]
noncomputable abbrev jd:Stmt:=top 56
noncomputable abbrev je:VA:=["_law_thing"]
theorem fO:aH ["_law_thing", "_law_names", "_law_pairs", "_law_pair"] je (ao jd):=kN
theorem jv:(["_law_one", "_law_thing", "_law_names", "_law_pairs", "_law_pair"]:VA).Nodup:=by decide +kernel
theorem rj:(["_law_piece", "_law_thing", "_law_names", "_law_pairs", "_law_pair"]:VA).Nodup:=by decide +kernel
noncomputable abbrev nM(P:VG)(w:World)(K:Vz)(mg:Vv)(base:Heap):Prop:=aT P w K mg base "_law_is_web" je 2 cW
theorem v7(D:Df K mg "_law_is_web" je jd)(T:Txt K mg)(J55:j6 P w K mg base)(J54:iw P w K mg base):nM P w K mg base:=
 aT.eq (Df.has (k:=1) D fO (λf cdv A outer s H E hr=>
  aq (dI (DW.dt (gW (cI (br (uE (kit_tuple _) dF T.n_isinstance T.n_tuple (dv 0)))) (gW (bL (zr hr) (nF lr T.n_len ic (af (dv 0) ah)) aA #[5]) (gJ (cI (br (nF (nC rfl) T.n_all iX (af (cA ["_law_piece"] #[5] rfl (bR (dv 0)) (λ_ _ _ _ _=>dg 0 rj) (λ_ _ _ _ _=>fe) (λ_ _ _ _ _=>uE (kit_tuple _) dF T.n_isinstance T.n_tuple (dv 0))) ah)))))))) (av (aL bV)) bK)
  (aq (ll (dv 0) (i5 rfl (bM (dg 1 fO.nd) (bM (dg 2 fO.nd) gh)) (aX (aX dQ))))
  (aq (dI (DW.dt (gW (bL IA (nF lr T.n_len ic (af (dv 1) ah)) aA #[5]) (gW (cI (br (nF (nC rfl) T.n_all iX (af (cA ["_law_one"] #[5] rfl (bR (dv 1)) (λ_ _ _ _ _=>dg 0 jv) (λ_ _ _ _ _=>fe) (λ_ _ _ _ _=>fy J54 cJ hr (af (dv 0) ah))) ah)))) (gJ (cI (br (fy J55 aO hr (af (dv 1) ah)))))))) (av (aL bV)) bK)
  (aq (gK rfl (bR (dv 2)) (dg 3 fO.nd) (aq (dI (DW.dt (gW (cI (br (uE (kit_tuple _) dF T.n_isinstance T.n_tuple (dv 3)))) (gW (bL (zr hr) (nF lr T.n_len ic (af (dv 3) ah)) aA #[5]) (gJ (cI (br (nF (nC rfl) T.n_all iX (af (cA ["_law_one"] #[5] rfl (bR (dv 3)) (λ_ _ _ _ _=>dg 0 jv) (λ_ _ _ _ _=>fe) (λ_ _ _ _ _=>fy J54 cJ hr (af (dv 0) ah))) ah)))))))) (av (aL bV)) bK)
  (av (dI (DW.dt (gW (bL (rM hr) (cN (bf hr) (dv 3) aA (λ_ _=>rfl)) (dv 1) #[5]) (gJ (bL (rM hr) (cN (bf hr) (dv 3) aA (λ_ _=>rfl)) (dv 1) #[5])))) (av (aL bV)) bK))))
  (av (aL (fy J55 aO hr (af (dv 2) ah))))))))) #[7]
noncomputable abbrev mz:Stmt:=top 57
noncomputable abbrev iQ:VA:=["_law_box_here", "_law_thing"]
theorem fP:aH ["_law_box_here", "_law_thing", "_law_way", "_law_odds", "_law_at"] iQ (ao mz):=kN
noncomputable abbrev sA(P:VG)(w:World)(K:Vz)(mg:Vv)(base:Heap):Prop:=aT P w K mg base "_law_bent" iQ 7 (cx 5)
theorem sC(D:Df K mg "_law_bent" iQ mz)(T:Txt K mg)(J49:iO P w K mg base):∀n:Nat,aT P w K mg base "_law_bent" iQ (2+n) (cx n)
 |0=>D.has fP (λ_ _ _ _ _ _ _ _=>IU)
 |n+1=>by
  have ih:=sC D T J49 n
  exact aT.eq (Df.has (k:=2+n) D fP (λf cdv A outer s H E hr=>
  aq (eY 2 fP.nd (fy J49 aO hr (af (dv 0) (af aA ah))))
  (aq (dI (DW.dt (gW (cI (br (uE (kit_tuple _) dF T.n_isinstance T.n_tuple (dv 1)))) (gW (bL (qN hr) (dv 1) (cR 8 (d:=.tuple []) (Lit.of #[7]) #[8]) #[5]) (gJ (bL (FU hr) (dv 2) aA #[5]))))) (aq (eY 3 fP.nd (cR 8 (d:=.list [.none,.str "",.str "a",.str "zz",.str "A",.str "abcdefg",.int 7,.tuple [],.tuple [.str "a",.str "a"],.list [],.bool true,.tuple [.str "a"],.str "in",.str "open"]) (Lit.of #[7]) #[8]))
  (av (aL (cN (bf hr) (dv 3) (fy J49 aO hr (af (dv 0) (af aA ah))) (λ_ _=>rfl))))) bK)
  (aq (eY 4 fP.nd (fy J49 aO hr (af (dv 0) (af (nF lr T.n_len ic (af (dv 1) ah)) ah))))
  (aq (dI (bL (FU hr) (dv 2) aA #[5]) (av (aL (aQ eW (aQ eW (gy (dv 1) jO (gm (dv 4))) (lj (af (fy ih aO hr (af (dv 0) (af (cN (bf hr) (dv 1) (dv 4) (λ_ _=>rfl)) ah))) ah))) (gy (dv 1) (gm (aQ eW (dv 4) aA)) jO)))) bK)
  (av (aL (cN (bf hr) (oA (af (aQ eW (gy (dv 1) jO (gm (dv 4))) (gy (dv 1) (gm (aQ eW (dv 4) aA)) jO)) (af (fS (Gb rfl) T.n_list sX (af (dv 1) ah)) (af (aQ eW (dv 1) (gy (dv 1) (gm (dv 4)) (gm (aQ eW (dv 4) aA)))) ah)))) (aQ Ka (dv 2) aA) (λ_ _=>rfl))))))))) #[7]
noncomputable abbrev jf:Stmt:=top 58
noncomputable abbrev jg:VA:=["_law_web_here", "_law_thing"]
theorem vg:aH ["_law_web_here", "_law_thing"] jg (ao jf):=kN
theorem jw:(["_law_one", "_law_web_here", "_law_thing"]:VA).Nodup:=by decide +kernel
noncomputable abbrev nN(P:VG)(w:World)(K:Vz)(mg:Vv)(base:Heap):Prop:=aT P w K mg base "_law_is_lot" jg 2 cy
theorem v8(D:Df K mg "_law_is_lot" jg jf)(T:Txt K mg)(J55:j6 P w K mg base)(J54:iw P w K mg base):nN P w K mg base:=
 aT.eq (Df.has (k:=1) D vg (λf cdv A outer s H E hr=>
  aq (dI (DW.dt (gW (cI (br (uE (kit_tuple _) dF T.n_isinstance T.n_tuple (dv 1)))) (gJ (cI (br (nF (nC rfl) T.n_all iX (af (cA ["_law_one"] #[5] rfl (bR (dv 1)) (λ_ _ _ _ _=>dg 0 jw) (λ_ _ _ _ _=>fe) (λ_ _ _ _ _=>fy J54 cJ hr (af (dv 0) ah))) ah))))))) (av (aL bV)) bK)
  (av (aL (mT (eO (qN hr) (cA ["_law_one"] #[5] rfl (bR (dv 1)) (λ_ _ _ _ _=>dg 0 jw) (λ_ _ _ _ _=>eE (bL (rM hr) (dv 0) (cN (bf hr) (dv 1) aA (λ_ _=>rfl)) #[5])) (λ_ _ _ _ _=>dv 0)) (cR 8 (d:=.list []) (Lit.of #[7]) #[8]) #[5]) (ou (fy J55 aO hr (af (dv 1) ah)))))))) #[7]
noncomputable abbrev ix:Stmt:=top 59
noncomputable abbrev iy:VA:=["_law_box_here", "_law_web_here"]
theorem kI:aH ["_law_box_here", "_law_web_here", "_law_some"] iy (ao ix):=kN
theorem qd:(["_law_one", "_law_box_here", "_law_web_here", "_law_some"]:VA).Nodup:=by decide +kernel
noncomputable abbrev mC(P:VG)(w:World)(K:Vz)(mg:Vv)(base:Heap):Prop:=aT P w K mg base "_law_no_lots" iy 8 il
theorem vh(D:Df K mg "_law_no_lots" iy ix)(T:Txt K mg)(J50:oY P w K mg base)(J58:nN P w K mg base)(J57:sA P w K mg base):mC P w K mg base:=
 aT.eq (Df.has (k:=7) D kI (λf cdv A outer s H E hr=>
  aq (eY 2 kI.nd (oA (af tf (af (fS yd T.n_list sX (af (cN (bf hr) (dv 1) aA (λ_ _=>rfl)) ah)) (af (cR 8 (d:=.tuple [.str "q"]) (Lit.of #[7]) #[8]) (af oq (af (aQ eW (cN (bf hr) (dv 1) aA (λ_ _=>rfl)) (cN (bf hr) (dv 1) aA (λ_ _=>rfl))) (af (Mn (cN (bf hr) (dv 1) aA (λ_ _=>rfl))) (af (dv 1) (af (cR 8 (d:=.tuple [.str "a",.str "a"]) (Lit.of #[7]) #[8]) (af (fy J57 aO hr (af (dv 0) (af (cN (bf hr) (dv 1) aA (λ_ _=>rfl)) ah))) ah)))))))))))
  (av (aL (cA ["_law_one"] #[5] rfl (bR (aQ eW (dv 2) (oA (af (fy J50 aO hr (af (dv 0) ah)) ah)))) (λ_ _ _ _ _=>dg 0 qd) (λ_ _ _ _ _=>eE (cI (br (fy J58 cJ hr (af (dv 2) (af (dv 0) ah)))))) (λ_ _ _ _ _=>dv 0)))))) #[7]
noncomputable abbrev dE:Stmt:=top 60
noncomputable abbrev j7:VA:=["_law_box_here"]
theorem cg:aH ["_law_box_here", "_law_web_here", "_law_ahead", "_law_bad", "_law_kind", "_law_words"] j7 (ao dE):=kN
noncomputable abbrev qe(P:VG)(w:World)(K:Vz)(mg:Vv)(base:Heap):Prop:=aT P w K mg base "_law_right" j7 10 g9
theorem yA(D:M6 K mg "_law_right" j7 dE gL)(T:Txt K mg)(J43:Bi P w K mg base)(J44:su P w K mg base)(J50:oY P w K mg base)(J57:sA P w K mg base)(J56:nM P w K mg base)(J59:mC P w K mg base)(J51:vc P w K mg base)(HS:xJ P w K mg base "_law_said" ["_law_call"] 9 (wB P w K mg base 8 (Cv XE)))(HX:Cw mg [0,3] XE)(BM:BMod base mg bm):qe P w K mg base:=
 aT.eq ((M6.has (k:=9) D cg (λf c A outer s H E ht hr=>
  aq (eY 1 cg.nd (fy J51 aO hr (af (dv 0) (af aA ah))))
  (aq (eY 2 cg.nd (nF (F2 hr) T.n_repr BX (af (dv 1) ah)))
  (aq (gK rfl (bR (fy J59 cJ hr (af (dv 0) (af (dv 1) ah)))) (dg 3 cg.nd) (av (gK rfl (bR (cR 8 (d:=.list [.str "grounded",.str "preferred",.str "stable",.str "standing",.str "whole"]) (Lit.of #[7]) #[8])) (dg 4 cg.nd) (av (dI (bL II (fy J44 cJ hr (af (dv 1) (af (dv 4) (af (dv 3) ah)))) bV #[5]) (av (aL bV)) bK)))))
  (aq (gK rfl (bR (oA (af tf (af (cR 8 (d:=.tuple []) (Lit.of #[7]) #[8]) (af (oA (af (dv 1) ah)) (af (cN (bf hr) (dv 1) aA (λ_ _=>rfl)) (af (fS yd T.n_list sX (af (dv 1) ah)) (af (lj (af (cN (bf hr) (dv 1) aA (λ_ _=>rfl)) (af (cN (bf hr) (dv 1) aA (λ_ _=>rfl)) (af (cR 8 (d:=.tuple []) (Lit.of #[7]) #[8]) ah)))) (af (fy J57 cJ hr (af (dv 0) (af (dv 1) ah))) (af (fy J50 cJ hr (af (dv 0) ah)) ah)))))))))) (dg 3 cg.nd) (av (dI (cI (br (fy J56 cJ hr (af (dv 3) ah)))) (aq (eY 5 cg.nd (qL (af (tm (X:=(fk (iF P w) P w K mg base ["_law_box_here", "_law_web_here", "_law_ahead", "_law_bad", "_law_kind", "_law_words"] "_law_right" (ao dE) f (.ref c) A outer s H E).C3) (cl:=[0,3]) (N2:=["_law_bad"]) 0 [3] ip rfl HS HX (hr.mono #[3]) rfl ht BM (λf c' clos A outer s H E' hr=>fy J44 pC hr (af (dv 0) (af tf (af (cR 8 (d:=.tuple []) (Lit.of #[7]) #[8]) ah)))) #[5]) ah)))
  (aq (mM (mS (dv 5) (tm (X:=(fk (iF P w) P w K mg base ["_law_box_here", "_law_web_here", "_law_ahead", "_law_bad", "_law_kind", "_law_words"] "_law_right" (ao dE) f (.ref c) A outer s H E).C3) (cl:=[0,3]) (N2:=["_law_bad"]) 0 [3] ip rfl HS HX (hr.mono #[3]) rfl ht BM (λf c' clos A outer s H E' hr=>fy J43 pC hr (af (dv 0) (af oq ah))) #[5])))
  (av (dI (bL (zr hr) (dv 5) (aQ kD (cR 8 (d:=.list [.tuple [.str "web"]]) (Lit.of #[7]) #[8]) aA) #[5]) (av (aL bV)) bK)))) bK)))
  (aq (gK rfl (bR (cR 8 (d:=.list [.none,.str "",.str "Whole",.str "half",.str "peaceful",.str "ideal",.tuple [.str "whole"],.list [.str "whole"],.int 1,.bool true,.str "whole ",.dict []]) (Lit.of #[7]) #[8])) (dg 3 cg.nd) (aq (eY 5 cg.nd (qL (af (tm (X:=(fk (iF P w) P w K mg base ["_law_box_here", "_law_web_here", "_law_ahead", "_law_bad", "_law_kind", "_law_words"] "_law_right" (ao dE) f (.ref c) A outer s H E).C3) (cl:=[0,3]) (N2:=["_law_web_here", "_law_bad"]) 0 [1,3] ip rfl HS HX (hr.mono #[3]) rfl ht BM (λf c' clos A outer s H E' hr=>fy J44 pC hr (af (dv 0) (af (dv 1) (af tf ah)))) #[5]) ah)))
  (aq (mM (mS (dv 5) (tm (X:=(fk (iF P w) P w K mg base ["_law_box_here", "_law_web_here", "_law_ahead", "_law_bad", "_law_kind", "_law_words"] "_law_right" (ao dE) f (.ref c) A outer s H E).C3) (cl:=[0,3]) (N2:=["_law_web_here", "_law_bad"]) 0 [1,3] ip rfl HS HX (hr.mono #[3]) rfl ht BM (λf c' clos A outer s H E' hr=>fy J43 pC hr (af (dv 0) (af (dv 1) ah))) #[5])))
  (av (dI (bL (zr hr) (dv 5) (aQ kD (cR 8 (d:=.list [.tuple [.str "kind"]]) (Lit.of #[7]) #[8]) aA) #[5]) (av (aL bV)) bK)))))
  (av (aL (eO (qN hr) (nF (F2 hr) T.n_repr BX (af (dv 1) ah)) (dv 2) #[5]))))))))).gw) #[7]
noncomputable abbrev qf:Stmt:=top 61
noncomputable abbrev Oq:VA:=["_law_script"]
theorem Bn:aH ["_law_script", "_law_k", "_law_lap"] Oq (ao qf):=kN
theorem Mu{f:Addr}{fd:FuncData}(Fu:El K "law" "law" qf f fd)(T:Txt K mg)(J60:qe P w K mg base)(J48:vb P w K mg base):jD P w K mg base (iF P w) 11 f fd ["_law_script"] (Hg ⟨P,w,mg,K⟩ CB):=
 L7 (Q8 (k:=10) Fu Bn (λcdv A outer s H E hr=>
  aq (gK rfl (pQ #[5] T.n_range (af (nF (N6 rfl) T.n_max Lm (af aA (af (nF (N7 rfl) T.n_min Ll (af (nF lr T.n_len ic (af (dv 0) ah)) (af aA ah))) ah))) ah)) (dg 1 Bn.nd) (av (gK rfl (pQ #[5] T.n_range (af aA ah)) (dg 2 Bn.nd) (av (dI (cI (br (fy J60 cJ hr (af (fy J48 cJ hr (af (dv 0) (af (dv 1) (af (dv 2) ah)))) ah)))) (av (aL bV)) bK)))))
  (av (aL bV)))) #[7]
end
end K07
namespace K07
open PySem L2 Wh
noncomputable abbrev gT:Stmt:=top 52
noncomputable abbrev xh:Stmt:=top 53
@[irreducible] noncomputable def M7:Stmt:=Hh (bA gT) 6
@[irreducible] noncomputable def eX:Expr:=Mb M7
@[irreducible] noncomputable def RP:VB:=Oe eX
@[irreducible] noncomputable def pX:Pos:=Mc M7
@[irreducible] noncomputable def qX:Pos:=Od M7
@[irreducible] noncomputable def lX:Pos:=Md eX
theorem Mv:M7=.Assign [.Name "_law_words" qX] eX pX:=by kernel_rfl
theorem Ot:eX=.List RP lX:=by kernel_rfl
theorem Qn:Lit 4 eX (.list (fX.map .str)):=Lit.of #[7]
noncomputable abbrev x0:Stmt:=Hh (bA gT) 0
noncomputable abbrev x1:Stmt:=Hh (bA gT) 1
noncomputable abbrev x2:Stmt:=Hh (bA gT) 2
noncomputable abbrev x3:Stmt:=Hh (bA gT) 3
noncomputable abbrev x4:Stmt:=Hh (bA gT) 4
noncomputable abbrev x5:Stmt:=Hh (bA gT) 5
noncomputable abbrev x7:Stmt:=Hh (bA gT) 7
theorem Ou:bA gT=[x0,x1,x2,x3,x4,x5,M7,x7]:=by kernel_rfl
theorem D5:aH ["_law_e", "_law_some", "_law_words"] ["_law_e"] (ao gT):=⟨rfl,rfl,rfl,by decide +kernel,rfl,by decide +kernel,by decide +kernel⟩
section
variable {P:VG} {w:World} {K:Vz} {mg:Vv} {base:Heap} {cs:Nat->Addr}
set_option maxHeartbeats 2000000 in
theorem GJ{f:Addr}{fd:FuncData}(F:El K "_law_which" "_law_which" gT f fd)(TB:mg "isinstance" = none)(C:IX mg cs):B0 P w K mg base 1 f fd ["_law_e"] (tu K cs):=by
 refine F.RH D5 (λvs H Q E h=>?_) (λcdv A outer s H vs Q E hr h=>?_)
 ·obtain⟨_,_,_,rfl,_⟩:=h;rfl
 ·obtain⟨a,D,j,rfl,ha,kd,k⟩:=h;rw[Ou]
  refine⟨_,(gr (st:=x0) (qv (i:=1) D5.nd rfl (Or.inl rfl) (jC (aZ (fI K rfl TB rfl (Or.inl rfl) C.m0 #[5] #[5] #[4] #[5] #[5] #[5]) (aZ (fI K rfl TB rfl (Or.inl rfl) C.m1 #[5] #[5] #[4] #[5] #[5] #[5]) (aZ (fI K rfl TB rfl (Or.inl rfl) C.m2 #[5] #[5] #[4] #[5] #[5] #[5]) (aZ (fI K rfl TB rfl (Or.inl rfl) C.m3 #[5] #[5] #[4] #[5] #[5] #[5]) dW))))))
   (gr (st:=x1) (qv (i:=1) D5.nd rfl (Or.inl rfl) (wg tL (pv 1) (jC (aZ (fI K rfl TB rfl (Or.inl rfl) C.m4 #[5] #[5] #[4] #[5] #[5] #[5]) (aZ (fI K rfl TB rfl (Or.inl rfl) C.m5 #[5] #[5] #[4] #[5] #[5] #[5]) (aZ (fI K rfl TB rfl (Or.inl rfl) C.m6 #[5] #[5] #[4] #[5] #[5] #[5]) (aZ (fI K rfl TB rfl (Or.inl rfl) C.m7 #[5] #[5] #[4] #[5] #[5] #[5]) dW)))))))
   (gr (st:=x2) (qv (i:=1) D5.nd rfl (Or.inl rfl) (wg tL (pv 1) (jC (aZ (fI K rfl TB rfl (Or.inl rfl) C.m8 #[5] #[5] #[4] #[5] #[5] #[5]) (aZ (fI K rfl TB rfl (Or.inl rfl) C.m9 #[5] #[5] #[4] #[5] #[5] #[5]) (aZ (fI K rfl TB rfl (Or.inl rfl) C.m10 #[5] #[5] #[4] #[5] #[5] #[5]) (aZ (fI K rfl TB rfl (Or.inl rfl) C.m11 #[5] #[5] #[4] #[5] #[5] #[5]) dW)))))))
   (gr (st:=x3) (qv (i:=1) D5.nd rfl (Or.inl rfl) (wg tL (pv 1) (jC (aZ (fI K rfl TB rfl (Or.inl rfl) C.m12 #[5] #[5] #[4] #[5] #[5] #[5]) (aZ (fI K rfl TB rfl (Or.inl rfl) C.m13 #[5] #[5] #[4] #[5] #[5] #[5]) dW)))))
   (gr (st:=x4) (Ex (PW.pt (JU (Eu (Au (pf wy #[5] TB iW (aZ (pv 0) (aZ (BC (v:=.ty "ValueError") #[5] C.ve Of rfl) dW))))) (Et (BI JX (ER UP PySem.F.slot_list_count PySem.F.type_list_count Dx (pv 1) (aZ yT dW)) tH (K4 _))))) (mJ (qu (xt (aZ tI dW)))) xp)
   (gr (st:=x5) (Ex (Au (BP mK (pv 1) tH (λ_ _=>rfl))) (mJ (qu ze)) xp)
   (gr (st:=M7) (t:=C4 (E4 (.list (fX.map .str))) (ax 2)) (by rw[Mv];exact Me Ot Qn D5.nd rfl (Or.inl rfl) rfl)
   (mJ (st:=x7) (qu (yU (Au (BP mK (pv 1) tH (λ_ _=>rfl))) ze (xt (aZ (BP mK (wg tL (pv 2) (jC (aZ tI (aZ tI dW)))) (ER UP PySem.F.slot_list_index PySem.F.type_list_index Dy (pv 1) (aZ yT dW)) (λ_ _=>rfl)) dW)))))))))))),?_⟩
  obtain⟨mk1,mk2,mk3,mk4,mk5⟩:=Gn j kd.lt;refine⟨_,rfl,a,D,_,_,_,rfl,rfl,ha,kd.ec,kd.k 0 #[4],_,rfl,a,D,_,_,_,rfl,rfl,ha,kd.ec,kd.k 1 #[4],_,rfl,a,D,_,_,_,rfl,rfl,ha,kd.ec,kd.k 2 #[4],_,rfl,a,D,_,_,_,rfl,rfl,ha,kd.ec,kd.k 3 #[4],by show 4<=sizeLine;decide,λp0 hp0=>?_⟩;have s0:=aW.new (o:=.lst [.bl (decide (0=j)),.bl (decide (1=j)),.bl (decide (2=j)),.bl (decide (3=j))]) hp0;have ha0:=s0 _ _ ha;have hl0:upd H p0 (.lst [.bl (decide (0=j)),.bl (decide (1=j)),.bl (decide (2=j)),.bl (decide (3=j))]) p0=some (.lst [.bl (decide (0=j)),.bl (decide (1=j)),.bl (decide (2=j)),.bl (decide (3=j))]):=aG;generalize upd H p0 (.lst [.bl (decide (0=j)),.bl (decide (1=j)),.bl (decide (2=j)),.bl (decide (3=j))])=H0 at s0 ha0 hl0 ⊢;refine⟨_,rfl,_,rfl,a,D,_,_,_,rfl,rfl,ha0,kd.ec,kd.k 4 #[4],_,rfl,a,D,_,_,_,rfl,rfl,ha0,kd.ec,kd.k 5 #[4],_,rfl,a,D,_,_,_,rfl,rfl,ha0,kd.ec,kd.k 6 #[4],_,rfl,a,D,_,_,_,rfl,rfl,ha0,kd.ec,kd.k 7 #[4],by show 4<=sizeLine;decide,λr1 hr1=>⟨p0,r1,_,_,rfl,rfl,(aW.new hr1) _ _ hl0,aG,by show 8<=sizeLine;decide,λp1 hp1=>?_⟩⟩;have t1:aW H (upd (upd H0 r1 (.lst [.bl (decide (4=j)),.bl (decide (5=j)),.bl (decide (6=j)),.bl (decide (7=j))])) p1 (.lst ([.bl (decide (0=j)),.bl (decide (1=j)),.bl (decide (2=j)),.bl (decide (3=j))]++[.bl (decide (4=j)),.bl (decide (5=j)),.bl (decide (6=j)),.bl (decide (7=j))]))):=(s0.trans (aW.new hr1)).trans (aW.new hp1);have ha1:=t1 _ _ ha;have hl1:upd (upd H0 r1 (.lst [.bl (decide (4=j)),.bl (decide (5=j)),.bl (decide (6=j)),.bl (decide (7=j))])) p1 (.lst ([.bl (decide (0=j)),.bl (decide (1=j)),.bl (decide (2=j)),.bl (decide (3=j))]++[.bl (decide (4=j)),.bl (decide (5=j)),.bl (decide (6=j)),.bl (decide (7=j))])) p1=some (.lst ([.bl (decide (0=j)),.bl (decide (1=j)),.bl (decide (2=j)),.bl (decide (3=j))]++[.bl (decide (4=j)),.bl (decide (5=j)),.bl (decide (6=j)),.bl (decide (7=j))])):=aG;generalize upd (upd H0 r1 (.lst [.bl (decide (4=j)),.bl (decide (5=j)),.bl (decide (6=j)),.bl (decide (7=j))])) p1 (.lst ([.bl (decide (0=j)),.bl (decide (1=j)),.bl (decide (2=j)),.bl (decide (3=j))]++[.bl (decide (4=j)),.bl (decide (5=j)),.bl (decide (6=j)),.bl (decide (7=j))]))=H1 at t1 ha1 hl1 ⊢;refine⟨_,rfl,_,rfl,a,D,_,_,_,rfl,rfl,ha1,kd.ec,kd.k 8 #[4],_,rfl,a,D,_,_,_,rfl,rfl,ha1,kd.ec,kd.k 9 #[4],_,rfl,a,D,_,_,_,rfl,rfl,ha1,kd.ec,kd.k 10 #[4],_,rfl,a,D,_,_,_,rfl,rfl,ha1,kd.ec,kd.k 11 #[4],by show 4<=sizeLine;decide,λr2 hr2=>⟨p1,r2,_,_,rfl,rfl,(aW.new hr2) _ _ hl1,aG,by show 12<=sizeLine;decide,λp2 hp2=>?_⟩⟩;have t2:aW H (upd (upd H1 r2 (.lst [.bl (decide (8=j)),.bl (decide (9=j)),.bl (decide (10=j)),.bl (decide (11=j))])) p2 (.lst (([.bl (decide (0=j)),.bl (decide (1=j)),.bl (decide (2=j)),.bl (decide (3=j))]++[.bl (decide (4=j)),.bl (decide (5=j)),.bl (decide (6=j)),.bl (decide (7=j))])++[.bl (decide (8=j)),.bl (decide (9=j)),.bl (decide (10=j)),.bl (decide (11=j))]))):=(t1.trans (aW.new hr2)).trans (aW.new hp2);have ha2:=t2 _ _ ha;have hl2:upd (upd H1 r2 (.lst [.bl (decide (8=j)),.bl (decide (9=j)),.bl (decide (10=j)),.bl (decide (11=j))])) p2 (.lst (([.bl (decide (0=j)),.bl (decide (1=j)),.bl (decide (2=j)),.bl (decide (3=j))]++[.bl (decide (4=j)),.bl (decide (5=j)),.bl (decide (6=j)),.bl (decide (7=j))])++[.bl (decide (8=j)),.bl (decide (9=j)),.bl (decide (10=j)),.bl (decide (11=j))])) p2=some (.lst (([.bl (decide (0=j)),.bl (decide (1=j)),.bl (decide (2=j)),.bl (decide (3=j))]++[.bl (decide (4=j)),.bl (decide (5=j)),.bl (decide (6=j)),.bl (decide (7=j))])++[.bl (decide (8=j)),.bl (decide (9=j)),.bl (decide (10=j)),.bl (decide (11=j))])):=aG;generalize upd (upd H1 r2 (.lst [.bl (decide (8=j)),.bl (decide (9=j)),.bl (decide (10=j)),.bl (decide (11=j))])) p2 (.lst (([.bl (decide (0=j)),.bl (decide (1=j)),.bl (decide (2=j)),.bl (decide (3=j))]++[.bl (decide (4=j)),.bl (decide (5=j)),.bl (decide (6=j)),.bl (decide (7=j))])++[.bl (decide (8=j)),.bl (decide (9=j)),.bl (decide (10=j)),.bl (decide (11=j))]))=H2 at t2 ha2 hl2 ⊢;refine⟨_,rfl,_,rfl,a,D,_,_,_,rfl,rfl,ha2,kd.ec,kd.k 12 #[4],_,rfl,a,D,_,_,_,rfl,rfl,ha2,kd.ec,kd.k 13 #[4],by show 2<=sizeLine;decide,λr3 hr3=>⟨p2,r3,_,_,rfl,rfl,(aW.new hr3) _ _ hl2,aG,by show 14<=sizeLine;decide,λp3 hp3=>?_⟩⟩;have t3:aW H (upd (upd H2 r3 (.lst [.bl (decide (12=j)),.bl (decide (13=j))])) p3 (.lst ((([.bl (decide (0=j)),.bl (decide (1=j)),.bl (decide (2=j)),.bl (decide (3=j))]++[.bl (decide (4=j)),.bl (decide (5=j)),.bl (decide (6=j)),.bl (decide (7=j))])++[.bl (decide (8=j)),.bl (decide (9=j)),.bl (decide (10=j)),.bl (decide (11=j))])++[.bl (decide (12=j)),.bl (decide (13=j))]))):=(t2.trans (aW.new hr3)).trans (aW.new hp3);have ha3:=t3 _ _ ha;have hl3:upd (upd H2 r3 (.lst [.bl (decide (12=j)),.bl (decide (13=j))])) p3 (.lst ((([.bl (decide (0=j)),.bl (decide (1=j)),.bl (decide (2=j)),.bl (decide (3=j))]++[.bl (decide (4=j)),.bl (decide (5=j)),.bl (decide (6=j)),.bl (decide (7=j))])++[.bl (decide (8=j)),.bl (decide (9=j)),.bl (decide (10=j)),.bl (decide (11=j))])++[.bl (decide (12=j)),.bl (decide (13=j))])) p3=some (.lst ((([.bl (decide (0=j)),.bl (decide (1=j)),.bl (decide (2=j)),.bl (decide (3=j))]++[.bl (decide (4=j)),.bl (decide (5=j)),.bl (decide (6=j)),.bl (decide (7=j))])++[.bl (decide (8=j)),.bl (decide (9=j)),.bl (decide (10=j)),.bl (decide (11=j))])++[.bl (decide (12=j)),.bl (decide (13=j))])):=aG;generalize upd (upd H2 r3 (.lst [.bl (decide (12=j)),.bl (decide (13=j))])) p3 (.lst ((([.bl (decide (0=j)),.bl (decide (1=j)),.bl (decide (2=j)),.bl (decide (3=j))]++[.bl (decide (4=j)),.bl (decide (5=j)),.bl (decide (6=j)),.bl (decide (7=j))])++[.bl (decide (8=j)),.bl (decide (9=j)),.bl (decide (10=j)),.bl (decide (11=j))])++[.bl (decide (12=j)),.bl (decide (13=j))]))=H3 at t3 ha3 hl3 ⊢;have hl:H3 p3=some (.lst ((marks j).map V.bl)):=hl3;refine⟨_,rfl,a,D,_,_,_,rfl,rfl,ha3,kd.ec,kd.v,_,rfl,?_⟩;refine HK ⟨_,rfl,.inl ⟨rfl,_,gF.of hl⟩,p3,marks j,rfl,rfl,hl,rfl,_,rfl,?_⟩;rw[mk1];refine HK ?_;have at12:kL ((marks j).map V.bl) (12:Nat)=some (V.bl false):=gc (by rw[SD,mk4];rfl);have at13:kL ((marks j).map V.bl) (13:Nat)=some (V.bl false):=gc (by rw[SD,mk5];rfl);refine⟨_,rfl,p3,_,12,.bl false,rfl,rfl,gF.of hl,at12,false,rfl,HK ?_⟩;intro rr H5 N5 s5 n5 h5;obtain⟨wa,wvs,rfl,hwa,rws⟩:=h5;have ew:wvs=fX.map V.str:=wX rws;subst ew;have hwa5:=n5.same _ _ hwa;have hl5:=s5 _ _ hl;refine⟨_,rfl,p3,_,13,.bl false,rfl,rfl,gF.of hl5,at13,false,rfl,HK ?_⟩;refine⟨_,rfl,by show 2<=sizeLine;decide,λp6 hp6=>⟨wa,p6,_,_,rfl,rfl,(aW.new hp6) _ _ hwa5,aG,by show 14<=sizeLine;decide,λp7 hp7=>?_⟩⟩;have s7:=(aW.new (o:=.lst [.str "many",.str "text"]) hp6).trans (aW.new (o:=.lst (fX.map V.str++[.str "many",.str "text"])) hp7);have hl7:=s7 _ _ hl5
  have ea:kL (fX.map V.str++[.str "many",.str "text"]) (j:Nat)=some (V.str (wordAt j)):=gc (by
   have:fX.map V.str++[.str "many",.str "text"]=(fX++(["many", "text"]:VA)).map V.str:=by rw[List.map_append];rfl
   rw[this,SD,D1 j kd.lt]
   rfl)
  refine⟨_,rfl,.inl ⟨rfl,_,gF.of hl7⟩,p3,marks j,j,rfl,rfl,hl7,mk2,mk3,Nat.lt_trans kd.lt #[4],p7,_,(j:Nat),.str (wordAt j),rfl,rfl,gF.of aG,ea,by show 1<=sizeLine;decide,λt ht=>?_⟩;exact k _ t ((t3.trans s5).trans s7) ht
end
noncomputable abbrev GK:Stmt:=Hh (bA xh) 0
theorem Ov:bA xh=[.Try (IY GK) [.ExceptHandler (some (.Name "WebError" (Ja GK))) (some "_law_e") (Hh (Gp GK) 0::[]) (IZ GK)] [] [] (Mf GK)]:=by kernel_rfl
theorem Qo:aH ["_law_call", "_law_e"] ["_law_call"] (ao xh):=⟨rfl,rfl,rfl,by decide +kernel,rfl,by decide +kernel,by decide +kernel⟩
section
variable {P:VG} {w:World} {K:Vz} {mg:Vv} {base:Heap} {cs:Nat->Addr} {WE:Addr}
theorem Jj{f:Addr}{fd:FuncData}(kl:Nat)(F:El K "_law_said" "_law_said" xh f fd)(hWE:mg "WebError" = some (.ref WE))(FW:AO P w K mg base "_law_which" ["_law_e"] 1 (tu K cs)) :
  E8 P w K mg base Dm (kl+2) f fd ["_law_call"] (wB P w K mg base (kl+1) (Ml.Cv (zE K cs WE))):=by
 obtain⟨oc,od,kV,doc,pm,an,cdv,ct,osl,rfl,lk,hcd⟩:=F.ex;rw[Ov]at lk ⊢;refine Ls (k:=kl+1) (N:=["_law_call", "_law_e"]) (i:=1) (DC:=WE) lk hcd Qo hWE rfl rfl rfl #[4] (λs vs H Q E h=>?_) (λA outer s H vs Q E hr h=>?_)
 ·obtain⟨_,_,rfl,_⟩:=h;rfl
 ·obtain⟨fl,G,rfl,LC,hM⟩:=h;refine⟨λEH=>KC (Nz (wj (NP G EH 0 H fl) EL)),Ra K cs,λEH XE hp=>?_,λa=>?_,?_⟩
  ·exact mJ (qu (jC (aZ (AQ (X:=(fk Dm P w K mg base ["_law_call", "_law_e"] "_law_said" (ao xh) f cdv A outer s H E).pd XE) (i:=0) rfl rfl #[4] #[4] rfl LC hr hp) dW)))
  ·exact mJ (qu (Lv FW ((hr.mono #[3]).held _) #[5] (aZ (pv 1) dW)))
  ·exact⟨rfl,rfl,hM⟩
end
end K07
namespace Ml
open PySem
@[simp] theorem Qp(i:Nat)(ρ:Fm)(h:Hm):ae i ρ h=(match ρ[i]? with
 |some (some d)=>.ok d h
 |_=>.bad):=rfl
@[simp] theorem Mw(d:PyData)(z0:Fm)(h:Hm):aj d z0 h=(.ok (.dat d) h):=rfl
@[simp] theorem Rb(n:Str)(z0:Fm)(h:Hm):RI n z0 h=(.ok (.fn n) h):=rfl
@[simp] theorem Qq (z0:Fm)(h:Hm):ai  z0 h=(.ok [] h):=rfl
@[simp] theorem O1(e:ME)(a:MA)(ρ:Fm)(h:Hm):aa e a ρ h=((e ρ h).bind λx h1=>(a ρ h1).bind λxs h2=>.ok (x::xs) h2):=rfl
@[simp] theorem Qr(f:D->D->Hm->R D)(a b:ME)(ρ:Fm)(h:Hm):ak f a b ρ h=((a ρ h).bind λx h1=>(b ρ h1).bind λy h2=>f x y h2):=rfl
@[simp] theorem Rc(f:D->Hm->R D)(a:ME)(ρ:Fm)(h:Hm):wD f a ρ h=((a ρ h).bind λx h1=>f x h1):=rfl
@[simp] theorem O6(f:Fn)(a:MA)(ρ:Fm)(h:Hm):ag f a ρ h=((a ρ h).bind λxs h1=>f xs h1):=rfl
@[simp] theorem O7(e:ME)(ρ:Fm)(h:Hm):aM e ρ h=((e ρ h).bind λx h1=>match x with
 |.dat (.bool b)=>.ok b h1
 |_=>.bad):=rfl
@[simp] theorem Qs(t:MT)(ρ:Fm)(h:Hm):cY t ρ h=((t ρ h).bind λb h1=>.ok (!b) h1):=rfl
@[simp] theorem Qt(t u:MT)(ρ:Fm)(h:Hm):Es t u ρ h=((t ρ h).bind λb h1=>if b then u ρ h1 else .ok false h1):=rfl
@[simp] theorem Rf(t u:MT)(ρ:Fm)(h:Hm):pb t u ρ h=((t ρ h).bind λb h1=>if b then .ok true h1 else u ρ h1):=rfl
@[simp] theorem Qu(a b:ME)(ρ:Fm)(h:Hm):Qd a b ρ h=((aM a ρ h).bind λc h1=>if c then b ρ h1 else .ok (.bool false) h1):=rfl
@[simp] theorem Rg(a b:ME)(ρ:Fm)(h:Hm):RJ a b ρ h=((aM a ρ h).bind λc h1=>if c then .ok (.bool true) h1 else b ρ h1):=rfl
@[simp] theorem Qv(a:ME)(ρ:Fm)(h:Hm):Qe a ρ h=((aM a ρ h).bind λc h1=>.ok (.bool !c) h1):=rfl
@[simp] theorem Rh(t:MT)(a b:ME)(ρ:Fm)(h:Hm):LA t a b ρ h=((t ρ h).bind λc h1=>if c then a ρ h1 else b ρ h1):=rfl
@[simp] theorem Qw(a:MA):gG a=(ag pG a:ME):=rfl
@[simp] theorem Qx(a:MA):iD a=(ag ij a:ME):=rfl
@[simp] theorem Qy(a:MA):qH a=(ag t5 a:ME):=rfl
@[simp] theorem O8 (ρ:Fm)(h:Hm):bO  ρ h=(.ok (.nx ρ) h):=rfl
@[simp] theorem Qz(a b:MS)(ρ:Fm)(h:Hm):aY a b ρ h=((a ρ h).bind λf h1=>match f with
 |.nx ρ1=>b ρ1 h1
 |f=>.ok f h1):=rfl
@[simp] theorem QA(i:Nat)(e:ME)(ρ:Fm)(h:Hm):cn i e ρ h=((e ρ h).bind λx h1=>.ok (.nx (ρ.set i (some x))) h1):=rfl
@[simp] theorem O9(e:ME)(ρ:Fm)(h:Hm):gv e ρ h=((e ρ h).bind λ_ h1=>.ok (.nx ρ) h1):=rfl
@[simp] theorem QB(e:ME)(ρ:Fm)(h:Hm):bF e ρ h=((e ρ h).bind λx h1=>.ok (.rt x) h1):=rfl
@[simp] theorem Ri(t:MT)(a b:MS)(ρ:Fm)(h:Hm):iI t a b ρ h=((t ρ h).bind λc h1=>if c then a ρ h1 else b ρ h1):=rfl
@[simp] theorem Ow (ρ:Fm)(h:Hm):LB  ρ h=(.ok (.bk ρ) h):=rfl
@[simp] theorem Pa (ρ:Fm)(h:Hm):NS  ρ h=(.ok (.ct ρ) h):=rfl
@[simp] theorem Pb(i:Nat)(x:D)(ρ:Fm)(h:Hm):ax i x ρ h=(.ok (ρ.set i (some x)) h):=rfl
@[simp] theorem QC (xs:List D)(ρ:Fm)(h:Hm):jh  xs ρ h=(match xs with
 | []=>.ok ρ h
 |_=>.bad):=rfl
@[simp] theorem Pc(g:MG)(gs:Fj)(xs:List D)(ρ:Fm)(h:Hm):cb g gs xs ρ h=(match xs with
 | []=>.bad
 |x::xs=>(g x ρ h).bind λρ1 h1=>gs xs ρ1 h1):=rfl
@[simp] theorem QD(gs:Fj)(x:D)(ρ:Fm)(h:Hm):ji gs x ρ h=(match x with
 |.dat (.tuple ds)=>gs (ds.map D.dat) ρ h
 |_=>.bad):=rfl
@[simp] theorem QE(g:MG)(e:ME)(ρ:Fm)(h:Hm):ng g e ρ h=((e ρ h).bind λx h1=>(g x ρ h1).bind λρ1 h2=>.ok (.nx ρ1) h2):=rfl
@[simp] theorem QF(is:List Nat)(a:MA)(ρ:Fm)(h:Hm):xO is a ρ h=((a ρ h).bind λxs h1=>match kU is xs ρ with
 |some ρ1=>.ok (.nx ρ1) h1
 |Option.none=>.bad):=rfl
@[simp] theorem Pd(e:ME)(ρ:Fm)(h:Hm):B4 e ρ h=((e ρ h).bind λx h1=>match x with
 |.dat (.tuple ds)=>.ok (ds.map D.dat) h1
 |_=>.bad):=rfl
@[simp] theorem Pe(e:ME)(ρ:Fm)(h:Hm):Fo e ρ h=((e ρ h).bind λx h1=>match x with
 |.dat (.list ds)=>.ok (ds.map D.dat) h1
 |_=>.bad):=rfl
@[simp] theorem Pf(e:ME)(ρ:Fm)(h:Hm):Fp e ρ h=((e ρ h).bind λx h1=>match x with
 |.dat (.str s)=>.ok (signs s) h1
 |_=>.bad):=rfl
@[simp] theorem Pg(e:ME)(ρ:Fm)(h:Hm):aP e ρ h=(match e ρ h with
 |.ok (.dat (.tuple ds)) h1=>.ok (ds.map D.dat) h1
 |.ok (.dat (.list ds)) h1=>.ok (ds.map D.dat) h1
 |.ok (.dat (.str s)) h1=>.ok (signs s) h1
 |.ok (.ktup ds) h1=>.ok (ds.map D.dat) h1
 |.exc x h1=>.exc x h1
 |_=>.bad):=rfl
@[simp] theorem Ph(a:MA)(ρ:Fm)(h:Hm):kB a ρ h=((a ρ h).bind λxs h1=>match xs with
 | [.dat (.int j)]=>if -(2^62)<=j/\j<2^62 then .ok (nums 0 j.toNat) h1 else .bad
 |_=>.bad):=rfl
@[simp] theorem Ox(a:MA)(ρ:Fm)(h:Hm):LD a ρ h=((a ρ h).bind λxs h1=>match xs with
 | [.dat (.int i),.dat (.int j)]=>if -(2^62)<=i/\i<2^62/\-(2^62)<=j/\j<2^62 then .ok (nums i (j-i).toNat) h1 else .bad
 |_=>.bad):=rfl
@[simp] theorem Pj(a:MA)(ρ:Fm)(h:Hm):wF a ρ h=((a ρ h).bind λxs h1=>match xs with
 | [.dat (.tuple ds),.dat (.tuple es)]=>.ok (xP ds es) h1
 |_=>.bad):=rfl
@[simp] theorem QG(it:MA)(g:MG)(b:MS)(ρ:Fm)(h:Hm):jI it g b ρ h=((it ρ h).vJ.bind λxs h1=>dS g b xs ρ h1):=rfl
@[simp] theorem Pk (z0:Fm)(h:Hm):dh  z0 h=(.ok true h):=rfl
@[simp] theorem Pl(p n:Nat)(b:MS)(xs:List D)(h:Hm):bz p n b xs h=(if xs.length=p then(b (xs.map some++List.replicate (n-p) none) h).bind wG else .bad):=rfl
@[simp] theorem Pm(x:D)(h:Hm):truth x h=(match x with
 |.dat .none=>some false
 |.dat (.bool b)=>some b
 |.dat (.int i)=>some (i != 0)
 |.dat (.str s)=>if iY s.length then some ((s.length:Int) != 0)else Option.none
 |.dat (.tuple ds)=>some !ds.isEmpty
 |.dat (.list ds)=>some !ds.isEmpty
 |.ref i=>match h[i]? with
  |some (.lst xs)=>some !xs.isEmpty
  |_=>Option.none
 |_=>Option.none:Option Bool):=rfl
@[simp] theorem Oy(e:ME)(ρ:Fm)(h:Hm):aU e ρ h=((e ρ h).bind λx h1=>match truth x h1 with
 |some b=>.ok b h1
 |Option.none=>.bad):=rfl
@[simp] theorem QH(a b:ME)(ρ:Fm)(h:Hm):IT a b ρ h=((a ρ h).bind λx h1=>match truth x h1 with
 |some c=>if c then .ok x h1 else b ρ h1
 |none=>.bad):=rfl
@[simp] theorem Pn(a b:ME)(ρ:Fm)(h:Hm):nE a b ρ h=((a ρ h).bind λx h1=>match truth x h1 with
 |some c=>if c then b ρ h1 else .ok x h1
 |none=>.bad):=rfl
@[simp] theorem Oz(f g:D->D->Hm->R D)(a b c:ME)(ρ:Fm)(h:Hm):lu f g a b c ρ h=((a ρ h).bind λx h1=>(b ρ h1).bind λy h2=>(f x y h2).bind λz h3=>match z with
 |.dat (.bool k)=>if k then(c ρ h3).bind λw h4=>g y w h4 else .ok (.bool false) h3
 |_=>.bad):=rfl
@[simp] theorem Rj(e:ME)(lo hi:LF)(ρ:Fm)(h:Hm):DK e lo hi ρ h=((e ρ h).bind λx h1=>(lo ρ h1).bind λl h2=>(hi ρ h2).bind λu h3=>NT x l u h3):=rfl
@[simp] theorem Po (z0:Fm)(h:Hm):kC  z0 h=(.ok Option.none h):=rfl
@[simp] theorem Pp(e:ME)(ρ:Fm)(h:Hm):ik e ρ h=((e ρ h).bind λx h1=>match x with
 |.dat (.int i)=>.ok (some i) h1
 |_=>.bad):=rfl
@[simp] theorem Rk(x:D)(lo hi:Option Int)(h:Hm):NT x lo hi h=(match x with
 |.dat (.tuple ds)=>.ok (.dat (.tuple (cut ds lo hi))) h
 |.dat (.list ds)=>.ok (.dat (.list (cut ds lo hi))) h
 |_=>.bad:R D):=rfl
@[simp] theorem QJ(f:PyData->Bool)(x:D)(h:Hm):kX f x h=(match x with
 |.dat d=>.ok (.bool (f d)) h
 |_=>.bad):=rfl
@[simp] theorem Mx(x y:D)(h:Hm):DH x y h=(match x,y with
 |.dat (.int i),.dat (.int j)=>.ok (.int (i-j)) h
 |_,_=>.bad:R D):=rfl
@[simp] theorem Rm(x y:D)(h:Hm):Em x y h=(match x,y with
 |.dat (.int i),.dat (.int j)=>.ok (.bool (decide (j<i))) h
 |_,_=>.bad:R D):=rfl
@[simp] theorem Rn(x y:D)(h:Hm):RK x y h=(match x,y with
 |.dat (.int i),.dat (.int j)=>.ok (.bool (decide (j<=i))) h
 |_,_=>.bad:R D):=rfl
@[simp] theorem QK(x:D)(h:Hm):Ip x h=(match x with
 |.dat (.int i)=>.ok (.int (-i)) h
 |_=>.bad:R D):=rfl
@[simp] theorem M8(ρ:Fm):kU [] [] ρ=some ρ:=rfl
@[simp] theorem M9(i:Nat)(is:List Nat)(x:D)(xs:List D)(ρ:Fm):kU (i::is) (x::xs) ρ=kU is xs (ρ.set i (some x)):=rfl
@[simp] theorem Na(i:Nat)(is:List Nat)(ρ:Fm):kU (i::is) [] ρ=none:=rfl
@[simp] theorem Nb(x:D)(xs:List D)(ρ:Fm):kU [] (x::xs) ρ=none:=rfl
@[simp] theorem Pq(d:D)(h:Hm):wG (.rt d) h=.ok d h:=rfl
@[simp] theorem Pr(ρ:Fm)(h:Hm):wG (.nx ρ) h=.ok D.none h:=rfl
@[simp] theorem Pu(ρ:Fm)(h:Hm):wG (.bk ρ) h=.bad:=rfl
@[simp] theorem Pw(ρ:Fm)(h:Hm):wG (.ct ρ) h=.bad:=rfl
@[simp] theorem Jk  : isTup .none=false:=rfl
@[simp] theorem Jl(b:Bool):isTup (.bool b)=false:=rfl
@[simp] theorem Kh(i:Int):isTup (.int i)=false:=rfl
@[simp] theorem Ki(s:Str):isTup (.str s)=false:=rfl
@[simp] theorem Hi(xs:Vw):isTup (.tuple xs)=true:=rfl
@[simp] theorem Jm(xs:Vw):isTup (.list xs)=false:=rfl
@[simp] theorem Jn(xs:Vu):isTup (.dict xs)=false:=rfl
@[simp] theorem Jo  : isStr .none=false:=rfl
@[simp] theorem Jp(b:Bool):isStr (.bool b)=false:=rfl
@[simp] theorem Kj(i:Int):isStr (.int i)=false:=rfl
@[simp] theorem Kk(s:Str):isStr (.str s)=true:=rfl
@[simp] theorem Hj(xs:Vw):isStr (.tuple xs)=false:=rfl
@[simp] theorem Jq(xs:Vw):isStr (.list xs)=false:=rfl
@[simp] theorem Jr(xs:Vu):isStr (.dict xs)=false:=rfl
@[simp] theorem Js  : isInt .none=false:=rfl
@[simp] theorem Jt(b:Bool):isInt (.bool b)=true:=rfl
@[simp] theorem Kl(i:Int):isInt (.int i)=true:=rfl
@[simp] theorem Km(s:Str):isInt (.str s)=false:=rfl
@[simp] theorem Hk(xs:Vw):isInt (.tuple xs)=false:=rfl
@[simp] theorem Ju(xs:Vw):isInt (.list xs)=false:=rfl
@[simp] theorem Jv(xs:Vu):isInt (.dict xs)=false:=rfl
@[simp] theorem Jw  : ua .none=false:=rfl
@[simp] theorem Jx(b:Bool):ua (.bool b)=true:=rfl
@[simp] theorem Kn(i:Int):ua (.int i)=false:=rfl
@[simp] theorem Ko(s:Str):ua (.str s)=false:=rfl
@[simp] theorem Hl(xs:Vw):ua (.tuple xs)=false:=rfl
@[simp] theorem Jy(xs:Vw):ua (.list xs)=false:=rfl
@[simp] theorem Jz(xs:Vu):ua (.dict xs)=false:=rfl
@[simp] theorem rep0{α:Type}(a:α):List.replicate 0 a=[]:=rfl
@[simp] theorem rep1{α:Type}(a:α):List.replicate 1 a=[a]:=rfl
@[simp] theorem rep2{α:Type}(a:α):List.replicate 2 a=[a,a]:=rfl
@[simp] theorem rep3{α:Type}(a:α):List.replicate 3 a=[a,a,a]:=rfl
@[simp] theorem RQ{α:Type}(a:α):List.replicate 4 a=[a,a,a,a]:=rfl
@[simp] theorem RS{α:Type}(a:α):List.replicate 5 a=[a,a,a,a,a]:=rfl
@[simp] theorem RT{α:Type}(a:α):List.replicate 6 a=[a,a,a,a,a,a]:=rfl
@[simp] theorem RU{α:Type}(a:α):List.replicate 7 a=[a,a,a,a,a,a,a]:=rfl
@[simp] theorem RV{α:Type}(a:α):List.replicate 8 a=[a,a,a,a,a,a,a,a]:=rfl
@[simp] theorem RW{α:Type}(a:α):List.replicate 9 a=[a,a,a,a,a,a,a,a,a]:=rfl
theorem sz(h:n<=16777216):iY n=true:=Ud h
@[simp] theorem jx(ds:Vw)(h:Hm)(hz:ds.length<=16777216):pG (ds.map D.dat) h=.ok (.dat (.tuple ds)) h:=by simp[pG,qG,sz hz]
theorem eI(ds:Vw)(h:Hm)(hz:ds.length<=16777216):ij (ds.map D.dat) h=.ok (.dat (.list ds)) h:=by simp[ij,qG,sz hz]
@[simp] theorem QL(h:Hm):pG [] h=.ok (.dat (.tuple [])) h:=jx [] h #[4]
@[simp] theorem QM(a:PyData)(h:Hm):pG [.dat a] h=.ok (.dat (.tuple [a])) h:=jx [a] h #[6]
@[simp] theorem My(a b:PyData)(h:Hm):pG [.dat a,.dat b] h=.ok (.dat (.tuple [a,b])) h:=jx [a,b] h #[6]
@[simp] theorem Mz(a b c:PyData)(h:Hm):pG [.dat a,.dat b,.dat c] h=.ok (.dat (.tuple [a,b,c])) h:=jx [a,b,c] h #[6]
@[simp] theorem QN(h:Hm):ij [] h=.ok (.dat (.list [])) h:=eI [] h #[4]
@[simp] theorem Bo(a:PyData)(h:Hm):ij [.dat a] h=.ok (.dat (.list [a])) h:=eI [a] h #[6]
@[simp] theorem QO(a b:PyData)(h:Hm):ij [.dat a,.dat b] h=.ok (.dat (.list [a,b])) h:=eI [a,b] h #[6]
@[simp] theorem QP(a b c:PyData)(h:Hm):ij [.dat a,.dat b,.dat c] h=.ok (.dat (.list [a,b,c])) h:=eI [a,b,c] h #[6]
theorem sD(c:D->Bool)(f:D->D):∀{xs:List D},(∀x∈xs,∃ρ1,g x (List.replicate n none++ρ) h=.ok ρ1 h/\t ρ1 h=.ok (c x) h/\(c x=true->e ρ1 h=.ok (f x) h))->iZ n ρ g t e xs h=.ok ((xs.filter c).map f) h
 | [],_=>rfl
 |x::xs,H=>by
  obtain⟨ρ1,h1,h2,h3⟩:=H x (SV ..);have ih:=sD c f λy hy=>H y (Sb _ hy);unfold iZ;rw[h1];simp;rw[h2];simp
  cases hc:c x with
  |false=>grind
  |true=>
   simp_all
theorem vi(hit:it ρ h=.ok xs h1)(hz:xs.length<=16777216)(c:D->Bool)(f:D->PyData)
 (H:∀x∈xs,∃ρ1,g x (List.replicate n none++ρ) h1=.ok ρ1 h1/\t ρ1 h1=.ok (c x) h1/\(c x=true->e ρ1 h1=.ok (.dat (f x)) h1)):bX n it g t e ρ h=.ok (.dat (.list ((xs.filter c).map f))) h1:=by
 unfold bX ag zj;rw[hit];simp[sz hz];rw[sD c _ H];have e1:(List.map (λx=>D.dat (f x)) (List.filter c xs))=((xs.filter c).map f).map D.dat:=by simp
 rw[e1]
 exact eI _ _ (by
  rw[Ss]
  exact Sd (To _ _) hz)
theorem dy{ds:Vw}(hit:it ρ h=.ok (ds.map D.dat) h1)(hz:ds.length<=16777216)(f:PyData->PyData)
 (H:∀x∈ds,∃ρ1,g (.dat x) (List.replicate n none++ρ) h1=.ok ρ1 h1/\e ρ1 h1=.ok (.dat (f x)) h1):bX n it g dh e ρ h=.ok (.dat (.list (ds.map f))) h1:=by
 have:=vi (n:=n) (t:=dh) (g:=g) (e:=e) hit (by grind) (λ_=>true) (λx=>match x with|.dat d=>f d|_=>.none) (λx hx=>by
  obtain⟨d,hd,rfl⟩:=SA.mp hx
  simp_all)
 rw[this,show _=λ_=>true from rfl,List.filter_eq_self.mpr (λ_ _=>rfl),UC];rfl
theorem eJ{ds:Vw}(hit:it ρ h=.ok (ds.map D.dat) h1)(hz:ds.length<=16777216)(c:PyData->Bool)(f:PyData->PyData)
 (H:∀x∈ds,∃ρ1,g (.dat x) (List.replicate n none++ρ) h1=.ok ρ1 h1/\t ρ1 h1=.ok (c x) h1/\(c x=true->e ρ1 h1=.ok (.dat (f x)) h1)):bX n it g t e ρ h=.ok (.dat (.list ((ds.filter c).map f))) h1:=by
 have:=vi (n:=n) (t:=t) (g:=g) (e:=e) hit (by grind) (λx=>match x with|.dat d=>c d|_=>false) (λx=>match x with|.dat d=>f d|_=>.none) (λx hx=>by
  obtain⟨d,hd,rfl⟩:=SA.mp hx
  grind)
 simp[this,List.filter_map,Function.comp_def]
theorem vj(bs:List Bool)(h:Hm):kM [.dat (.list (bs.map .bool))] h=.ok (.bool (bs.all id)) h:=by simp[kM,wI]
theorem vk(bs:List Bool)(h:Hm):sO [.dat (.list (bs.map .bool))] h=.ok (.bool (bs.any id)) h:=by simp[sO,wI]
theorem xi{ds:Vw}(hit:it ρ h=.ok (ds.map D.dat) h1)(hz:ds.length<=16777216)(f:PyData->Bool)
 (H:∀x∈ds,∃ρ1,g (.dat x) (List.replicate n none++ρ) h1=.ok ρ1 h1/\e ρ1 h1=.ok (.bool (f x)) h1):ag kM (aa (bX n it g dh e) ai) ρ h=.ok (.bool (ds.all f)) h1:=by
 unfold ag aa;rw[dy hit hz _ H];simp;have e1:ds.map (λx=>PyData.bool (f x))=(ds.map f).map .bool:=by simp
 rw[e1,vj]
 simp_all
theorem D6{ds:Vw}(hit:it ρ h=.ok (ds.map D.dat) h1)(hz:ds.length<=16777216)(f:PyData->Bool)
 (H:∀x∈ds,∃ρ1,g (.dat x) (List.replicate n none++ρ) h1=.ok ρ1 h1/\e ρ1 h1=.ok (.bool (f x)) h1):ag sO (aa (bX n it g dh e) ai) ρ h=.ok (.bool (ds.any f)) h1:=by
 unfold ag aa;rw[dy hit hz _ H];simp;have e1:ds.map (λx=>PyData.bool (f x))=(ds.map f).map .bool:=by simp
 rw[e1,vk]
 simp_all
theorem hV(I:Nat->Fm->Hm->Prop):∀(xs:List D) (i:Nat) (ρ:Fm) (h:Hm),(∀(j:Nat) (x:D),xs[j]?=some x->∀ρ h,I (i+j) ρ h->∃ρ1 h1 ρ2 h2,g x ρ h=.ok ρ1 h1/\(b ρ1 h1=.ok (.nx ρ2) h2\/b ρ1 h1=.ok (.ct ρ2) h2)/\I (i+j+1) ρ2 h2)->I i ρ h ->
  ∃ρ' h',dS g b xs ρ h=.ok (.nx ρ') h'/\I (i+xs.length) ρ' h'
 | [],i,ρ,h,_,a=>⟨ρ,h,rfl,by omega⟩
 |x::xs,i,ρ,h,H,a=>by
  obtain⟨ρ1,h1,ρ2,h2,e1,e2,a2⟩:=H 0 x rfl ρ h #[3]
  obtain⟨ρ',h',e3,a3⟩:=hV I xs (i+1) ρ2 h2 (λj y e ρ h a=>by
   have:=H (j+1) y (by simpa using e) ρ h (by rw[show i+(j+1)=i+1+j by omega];exact a)
   rwa [show i+(j+1)+1=i+1+j+1 by omega]at this) (by simpa using a2)
  refine⟨ρ',h',?_,by rw[SG,show i+(xs.length+1)=i+1+xs.length by omega];exact a3⟩;unfold dS;rw[e1];simp only[R.fm,R.bo];rcases e2 with e2|e2<;>rw[e2]<;>exact e3
mutual
def o4:PyData->Bool
 |.none|.bool _=>true
 |.int i=>decide (i.natAbs<10^30)
 |.str x=>PyData.strOk x
 |.tuple ds=>fT ds
 |.list ds=>fT ds
 |.dict _=>false
def fT:Vw->Bool
 | []=>true
 |d::ds=>o4 d&&fT ds
end
theorem D7(h:o4 (.int i)=true):PyData.showable (.int i)=true/\PyData.intsShort 31 (.int i)=true:=by
 simp only[o4,Sv]at h;refine⟨?_,?_⟩
 ·simp[PyData.showable];by_cases z:i.natAbs=0
  ·simp_all
  ·rw[Nat.log2_lt z]
   grind
 ·simp[PyData.intsShort];have e:=PySem.int_text_length_le10 #[4] h;show(Str.ofString _).length<=31;rw[ofString_length];exact e
mutual
theorem mW:∀{d:PyData},o4 d=true->d.showable=true/\d.intsShort 31=true
 |.none,_=>by trivial
 |.bool _,_=>by trivial
 |.int _,h=>D7 h
 |.str x,h=>by trivial
 |.tuple ds,h=>j8 h
 |.list ds,h=>j8 h
 |.dict _,h=>by trivial
theorem j8:∀{ds:Vw},fT ds=true->PyData.showableAll ds=true/\PyData.intsShortAll 31 ds=true
 | [],_=>by trivial
 |d::ds,h=>by simp only[fT,R4]at h;simp only[PyData.showableAll,PyData.intsShortAll,R4];exact⟨⟨(mW h.1).1,(j8 h.2).1⟩,(mW h.1).2,(j8 h.2).2⟩
end
mutual
theorem vm:∀{d:PyData},o4 d=true->d.canLay0=true
 |.none,_=>by rfl
 |.bool _,_=>by rfl
 |.int _,h=>by rfl
 |.str x,h=>by assumption
 |.tuple ds,h=>rm h
 |.list ds,h=>rm h
 |.dict _,h=>by assumption
theorem rm:∀{ds:Vw},fT ds=true->PyData.canLayAll0 ds=true
 | [],_=>by rfl
 |d::ds,h=>by simp only[fT,R4]at h;simp only[PyData.canLayAll0,R4];exact⟨vm h.1,rm h.2⟩
end
theorem hE:∀(a b:Vw),fT (a++b)=(fT a&&fT b)
 | [],b=>by rfl
 |d::a,b=>by simp[fT,hE a b,Bool.and_assoc]
theorem iR:∀(a b:Vw),PyData.weightAll (a++b)=PyData.weightAll a+PyData.weightAll b
 | [],b=>by simp[PyData.weightAll]
 |d::a,b=>by simp[PyData.weightAll,iR a b];omega
theorem iS:∀(a b:Vw),PyData.depthAll (a++b)=max (PyData.depthAll a) (PyData.depthAll b)
 | [],b=>by rfl
 |d::a,b=>by simp only[Vo,PyData.depthAll,iS a b];omega
theorem Ae:∀(a:Vw),a.length<=PyData.weightAll a
 | []=>by simp
 |d::a=>by
  have:=Ae a
  grind[PyData.weightAll,List.length_cons]
theorem xj:∀{ds:Vw} {d:PyData},fT ds=true->d∈ds->o4 d=true
 |e::ds,d,h,m=>by
  simp[fT]at h;rcases Sf.mp m with rfl|m
  ·grind
  ·exact xj h.2 m
theorem Af:∀{ds:Vw},(∀d∈ds,o4 d=true)->fT ds=true
 | [],_=>rfl
 |d::ds,h=>by simp[fT];exact⟨h d (SV ..),Af λe m=>h e (Sb _ m)⟩
theorem xk:∀{ds:Vw} {d:PyData},d∈ds->d.depth<=PyData.depthAll ds
 |e::ds,d,m=>by
  simp[PyData.depthAll];rcases Sf.mp m with rfl|m
  ·omega
  ·have:=xk m;omega
theorem gE:∀{ds:Vw} {m:Nat},(∀d∈ds,d.depth<=m)->PyData.depthAll ds<=m
 | [],m,_=>by simp[PyData.depthAll]
 |d::ds,m,h=>by simp[PyData.depthAll];have h1:=h d (SV ..);have h2:=gE λe q=>h e (Sb _ q);omega
theorem vn:∀{ds:Vw} {d:PyData},d∈ds->d.weight+1<=PyData.weightAll ds
 |e::ds,d,m=>by
  simp[PyData.weightAll];rcases Sf.mp m with rfl|m
  ·omega
  ·have:=vn m;omega
theorem qg:∀{ds:Vw} {n:Nat},(∀d∈ds,d.weight<=n)->PyData.weightAll ds<=ds.length*(n+1)
 | [],n,_=>by simp[PyData.weightAll]
 |d::ds,n,h=>by simp[PyData.weightAll,Nat.succ_mul];have h1:=h d (SV ..);have h2:=qg λe q=>h e (Sb _ q);omega
structure Ok(n m:Nat)(x:PyData):Prop where
 f:o4 x=true
 d:x.depth<=m
 w:x.weight<=n
structure fz(n m:Nat)(ds:Vw):Prop where
 f:fT ds=true
 d:PyData.depthAll ds<=m
 w:PyData.weightAll ds<=n
section
variable {n m n' m':Nat} {d x:PyData} {ds a b:Vw}
theorem fz.tup(o:fz n m ds):Ok n (m+1) (.tuple ds):=⟨by simpa [o4]using o.f,by simp[PyData.depth];have:=o.d;omega,o.w⟩
theorem fz.lst(o:fz n m ds):Ok n (m+1) (.list ds):=⟨by simpa [o4]using o.f,by simp[PyData.depth];have:=o.d;omega,o.w⟩
theorem Ok.items(o:Ok n m (.tuple ds)):fz n (m-1) ds:=⟨by simpa [o4]using o.f,by have:=o.d;grind[PyData.depth],by have:=o.w;grind[PyData.weight]⟩
theorem fz.append(x:fz n1 m a)(y:fz n2 m b):fz (n1+n2) m (a++b):=
 ⟨by rw[hE,x.f,y.f];rfl,by rw[iS];exact Nat.max_le.mpr ⟨x.d,y.d⟩,by rw[iR];exact Nat.add_le_add x.w y.w⟩
theorem fz.nil:fz 0 0 []:=⟨rfl,R5 _,R5 _⟩
theorem fz.one(x:Ok n m d):fz (n+1) m [d]:=⟨by simp[fT,x.f],by simp[PyData.depthAll];exact x.d,by simp[PyData.weightAll];exact x.w⟩
theorem fz.cons(x:Ok n m d)(y:fz n' m ds):fz (n+1+n') m (d::ds):=(fz.one x).append y
theorem fz.mono(x:fz n m a)(h1:n<=n')(h2:m<=m'):fz n' m' a:=⟨x.f,Sd x.d h2,Sd x.w h1⟩
theorem Ok.mono(x:Ok n m d)(h1:n<=n')(h2:m<=m'):Ok n' m' d:=⟨x.f,Sd x.d h2,Sd x.w h1⟩
theorem fz.mem(o:fz n m ds)(h:d∈ds):Ok n m d:=⟨xj o.f h,Sd (xk h) o.d,by have:=vn h;have:=o.w;omega⟩
theorem fz.len(o:fz n m ds):ds.length<=n:=Sd (Ae ds) o.w
theorem fz.of(h:∀d∈ds,Ok n m d):fz (ds.length*(n+1)) m ds:=⟨Af λd q=>(h d q).f,gE λd q=>(h d q).d,qg λd q=>(h d q).w⟩
theorem Ok.Nc(o:Ok n m d):noDict d=true:=by have:=PyData.hasDict_of_canLay d (vm o.f);simp[noDict,this]
theorem Ok.shown(o:Ok n m d)(h:n<=10000):d.shown.length<=16777216:=by
 have h1:=PyData.shown_le 31 #[4] d (PyData.leavesShort_of_canLay0 31 d (vm o.f) (mW o.f).2);have h2:=o.w
 grind
theorem Ok.rep(o:Ok n m d)(h:n<=10000)(h2:m<=40):zk d=true:=by have:=o.d;simp[zk];exact⟨⟨⟨(mW o.f).1,o.Nc⟩,by omega⟩,sz (o.shown h)⟩
theorem Ok.str(o:Ok n m (.str s)):s.length<=n:=o.w
theorem fz.split(o:fz n m ds)(z:Nat)(hz:z<ds.length):∃x,ds[z]?=some x/\fz (PyData.weightAll (ds.take z)) m (ds.take z)/\Ok x.weight m x/\fz (PyData.weightAll (ds.drop (z+1))) m (ds.drop (z+1))/\PyData.weightAll (ds.take z)+(x.weight+1)+PyData.weightAll (ds.drop (z+1))<=n:=by
 have e:ds=ds.take z++([ds[z]]++ds.drop (z+1)):=by rw[List.singleton_append,<- SS hz,List.take_append_drop]
 have f:=o.f;have d:=o.d;have w:=o.w;rw[e,hE,hE,R4,R4]at f;rw[e,iS,iS]at d;rw[e,iR,iR]at w;have f2:o4 ds[z]=true:=by simpa [fT]using f.2.1
 simp only[PyData.depthAll,PyData.weightAll]at d w;refine⟨ds[z],by simp[hz],⟨f.1,by omega,R5 _⟩,⟨f2,by omega,R5 _⟩,⟨f.2.2,by omega,R5 _⟩,by omega⟩
end
theorem Ag(o:Ok n m d)(h:Hm)(hn:n<=10000)(hm:m<=40):wJ [.dat d] h=.ok (.rpr d.shown) h:=by simp[wJ,o.rep hn hm]
theorem GL(ds:Vw)(z:Nat):cut ds none (some (z:Int))=ds.take z:=by
 grind[cut,fx]
theorem Ah(ds:Vw)(z:Nat):cut ds (some (z:Int)) none=ds.drop z:=by
 simp only[cut,fx];rw[if_neg #[3],Tx];by_cases h:z<=ds.length
 ·rw[Nat.min_eq_left h,List.take_of_length_le #[6]]
 ·rw[Nat.min_eq_right #[3],Tc (R5 _),Tc #[3]];simp
theorem JA(ds:Vw)(z:Nat)(x:PyData)(h:ds[z]?=some x):cut ds (some (z:Int)) (some ((z:Int)+1))=[x]:=by obtain⟨hz,e⟩:=R6.mp h;simp only[cut,fx];rw[if_neg #[3],if_neg #[3],Tx,show((z:Int)+1).toNat=z+1 by omega,Nat.min_eq_left #[3],Nat.min_eq_left #[3],Nat.add_sub_cancel_left,SS hz];simp[e]
theorem Ai(ds:Vw):cut ds (some 1) none=ds.drop 1:=Ah ds 1
theorem JB(xs:Vw):PyData.eqv (.list xs) (.list [])=xs.isEmpty:=by cases xs<;>simp[PyData.eqv,PyData.eqvAll]
theorem tw(o:fz n m xs)(h:Hm):oEq (.dat (.list xs)) (.dat (.list [])) h=.ok (.bool xs.isEmpty) h:=by
 have h1:PyData.hasDictAll xs=false:=by have:=o.lst.Nc;grind[noDict,PyData.hasDict]
 simp[oEq,eqQ,h1,JB,noDict,PyData.hasDict,PyData.hasDictAll,PyData.depth,PyData.depthAll]
theorem jy(o:fz n m xs)(h:Hm):oEq (.dat (.tuple xs)) (.dat (.tuple [])) h=.ok (.bool xs.isEmpty) h:=by
 have h1:PyData.hasDictAll xs=false:=by have:=o.tup.Nc;grind[noDict,PyData.hasDict]
 have e:PyData.eqv (.tuple xs) (.tuple [])=xs.isEmpty:=by cases xs<;>simp[PyData.eqv,PyData.eqvAll]
 simp[oEq,eqQ,h1,e,noDict,PyData.hasDict,PyData.hasDictAll,PyData.depth,PyData.depthAll]
noncomputable def az(c:Nat):Bool:=decide (97<=c)&&decide (c<=122)
noncomputable def isName:PyData->Bool
 |.str x=>decide (1<=x.length)&&decide (x.length<=6)&&x.cps.toList.all az
 |_=>false
theorem Ro(a c:Nat):decide ([a]<[c])=decide (a<c):=by
 rw[decide_eq_decide];constructor
 ·intro h
  cases h with
  |rel h=>exact h
  |cons h=>cases h
 ·intro h;exact .rel h
theorem QQ:("a" : Str).cps.toList=[97]:=by rfl
theorem QR:("z" : Str).cps.toList=[122]:=by rfl
theorem RX(c:Nat):(!nZ (⟨#[c]⟩:Str) ("a" : Str))=decide (97<=c):=by
 unfold nZ;rw[QQ,show(_:Str).cps.toList=[c]from rfl,Ro]
 grind
theorem ltZ(c:Nat):(!nZ ("z" : Str) (⟨#[c]⟩:Str))=decide (c<=122):=by
 unfold nZ;rw[QR,show(_:Str).cps.toList=[c]from rfl,Ro]
 grind
theorem vo(x:Str):signs x=(dZ x).map D.dat:=by simp[signs,dZ]
theorem vp(x:Str):(dZ x).length=x.length:=by simp[dZ];rfl
theorem vq(x:Str)(p:Nat->Bool)(q:PyData->Bool)(h:∀c,q (.str ⟨#[c]⟩)=p c):(dZ x).all q=x.cps.toList.all p:=by
 rw[TZ,Sh,Sh];constructor
 ·intro H c hc;obtain⟨i,hi,e⟩:=S9.mp hc
  have:=H (.str ⟨#[c]⟩) (by
   simp only[dZ,SA,SM];refine⟨i,by simpa using hi,?_⟩;have hi':i<x.cps.size:=by simpa using hi
   simp[Array.getD,hi']
   simpa using e)
  rw[h]at this;exact this
 ·intro H d hd;simp only[dZ,SA,SM]at hd;obtain⟨i,hi,rfl⟩:=hd;rw[h];apply H;have:x.cps.getD i 0=x.cps[i]:=by simp[Array.getD,hi]
  rw[this];simp
theorem mY(i j:Int)(h:Hm):oLe (.int i) (.int j) h=.ok (.bool (decide (i<=j))) h:=rfl
theorem CD(x y:Str)(h:Hm):oLe (.str x) (.str y) h=.ok (.bool (!nZ y x)) h:=rfl
theorem jz(h:Hm)(hz:x.length<=16777216):gH [.str x] h=.ok (.int x.length) h:=by simp[gH,sz hz]
@[simp] theorem OA(ds:Vw)(h:Hm):gH [.dat (.tuple ds)] h=.ok (.int ds.length) h:=rfl
@[simp] theorem OB(ds:Vw)(h:Hm):gH [.dat (.list ds)] h=.ok (.int ds.length) h:=rfl
noncomputable def bu{α:Type}(ds:List α)(f:α->Bool):Bool:=ds.all f
noncomputable def JC{α:Type}(ds:List α)(f:α->Bool):Bool:=ds.any f
theorem bE:bu ds f=true<->∀x∈ds,f x=true:=Sh
theorem f7:bu (a::ds) f=true<->f a=true/\bu ds f=true:=by simp[bu]
@[simp] theorem OC(f:α->Bool):bu [] f=true:=rfl
@[simp] theorem OD(f:α->Bool):JC [] f=false:=rfl
theorem dJ(ds:List α)(f:α->Bool)(h:Hm):kM [.dat (.list (ds.map λx=>.bool (f x)))] h=.ok (.bool (bu ds f)) h:=by
 unfold bu;have e1:ds.map (λx=>PyData.bool (f x))=(ds.map f).map .bool:=by simp
 rw[e1,vj]
 simp_all
theorem GN(ds:List α)(f:α->Bool)(h:Hm):sO [.dat (.list (ds.map λx=>.bool (f x)))] h=.ok (.bool (JC ds f)) h:=by
 unfold JC;have e1:ds.map (λx=>PyData.bool (f x))=(ds.map f).map .bool:=by simp
 rw[e1,vk]
 simp_all
theorem Bp(o:Ok n m d)(hn:n<=10000)(h:Hm):jt [.dat d] h=.ok (.bool (isName d)) h:=by
 unfold jt wY
 cases d with
 |str x=>
  have hx:x.length<=16777216:=Sd o.str #[3]
  have key:bX 1 (aP (ae 0)) (ax 0) dh (lu oLe oLe (aj (.str "a")) (ae 0) (aj (.str "z"))) [some (.str x)] h=.ok (.dat (.list ((dZ x).map λd=>.bool (match d with|.str y=>!nZ y "a" && !nZ "z" y|_=>false)))) h:=by
   refine dy (by simp[vo]) (by rw[vp];exact hx) _ λy hy=>?_;simp only[dZ,SA,SM]at hy;obtain⟨i,hi,rfl⟩:=hy;generalize (⟨#[x.cps.getD i 0]⟩:Str)=y;refine⟨_,rfl,?_⟩;by_cases z:nZ y "a" = true
   ·simp[CD,z]
   ·simp[CD,z]
  by_cases h1:1<=(x.length:Int)
  ·by_cases h2:(x.length:Int)<=6
   ·simp[jz h hx,mY,h1,h2,key,dJ];unfold bu;rw[vq x az _ (λc=>by simp only[az,RX,ltZ])];simp[isName,show 1<=x.length by omega,show x.length<=6 by omega]
   ·simp[jz h hx,mY,h1,h2,isName,show ¬ x.length<=6 by omega]
  ·simp[jz h hx,mY,h1,isName,show ¬ 1<=x.length by omega]
 |_=>simp[isName]
noncomputable def kO(ds:Vw):Bool:=bu (ds.zip ds.tail) λp=>ltB p.1 p.2
structure Hn(ds:Vw):Prop where
 nd:∀d∈ds,noDict d=true/\d.depth<=40
 lt:∀d∈ds,∀e∈ds,cj d e=some (ltB d e)
theorem GO(h1:noDict d=true)(h2:noDict e=true)(h3:d.depth<=40)(h4:cj d e=some (ltB d e))(h:Hm):oLt (.dat d) (.dat e) h=.ok (.bool (ltB d e)) h:=by simp[oLt,h1,h2,h4,show min d.depth e.depth<=40 by omega]
theorem j9(i j:Int)(h:Hm):oLt (.int i) (.int j) h=.ok (.bool (decide (i<j))) h:=by rfl
theorem vt(h:∀d∈ds,∃x,d=.str x):Hn ds:=⟨λd m=>by obtain⟨x,rfl⟩:=h d m;simp[noDict,PyData.hasDict,PyData.depth],λd m e m'=>by
 obtain⟨x,rfl⟩:=h d m
 grind[ltB,cj]⟩
theorem yB:∀(xs ys:Vw),xP xs ys=((xs.zip ys).map λp=>PyData.tuple [p.1,p.2]).map D.dat
 | [],_=>by rfl
 |_::_,[]=>by rfl
 |x::xs,y::ys=>by simp[xP,yB xs ys]
theorem CF{xs:Vw}(h:p∈xs.zip xs.tail):p.1∈xs/\p.2∈xs:=by have:=Uh h;exact⟨this.1,List.mem_of_mem_tail this.2⟩
theorem ka(c:Hn ds)(hz:ds.length<=16777216)(h:Hm):gz [.dat (.tuple ds)] h=.ok (.bool (kO ds)) h:=by
 unfold gz rO
 have key:bX 2 (wF (aa (ae 0) (aa (DK (ae 0) (ik (aj (.int 1))) kC) ai))) (ji (cb (ax 0) (cb (ax 1) jh))) dh (ak oLt (ae 0) (ae 1)) [some (.dat (.tuple ds))] h=.ok (.dat (.list ((ds.zip ds.tail).map λp=>.bool (ltB p.1 p.2)))) h:=by
  rw[dy (h1:=h) (ds:=(ds.zip ds.tail).map λp=>PyData.tuple [p.1,p.2]) (by simp[Ai,yB]) (by grind) (λd=>.bool (match d with|.tuple [a,b]=>ltB a b|_=>false)) λy hy=>?_]
  ·rw[UC];rfl
  ·obtain⟨p,hp,rfl⟩:=SA.mp hy;obtain⟨m1,m2⟩:=CF hp;refine⟨_,rfl,?_⟩;simp[GO (c.nd _ m1).1 (c.nd _ m2).1 (c.nd _ m1).2 (c.lt _ m1 _ m2)]
 simp[key,dJ,kO]
theorem all_filter(l:List α)(p:α->Bool)(f:α->β):((l.filter λx=>!p x).map f).isEmpty=bu l p:=by
 unfold bu
 induction l with
 |nil=>rfl
 |cons a l ih=>cases h:p a<;>simp[h,<- ih]
theorem JD(l:List α):fz (l.length*2) 0 (l.map λ_=>PyData.int 1):=by
 have:=fz.of (n:=1) (m:=0) (ds:=l.map λ_=>PyData.int 1) λd hd=>by obtain⟨_,_,rfl⟩:=SA.mp hd;exact⟨by decide,by decide,by trivial⟩
 simp_all
theorem qh(c:Hn ds)(hz:ds.length<=16777216)(h:Hm):dD [.dat (.tuple ds)] h=.ok (.bool (kO ds)) h:=by
 unfold dD p8
 have key:=eJ (n:=2) (it:=wF (aa (ae 0) (aa (DK (ae 0) (ik (aj (.int 1))) kC) ai))) (g:=ji (cb (ax 0) (cb (ax 1) jh))) (t:=cY (aM (ak oLt (ae 0) (ae 1)))) (e:=aj (.int 1)) (ρ:=[some (.dat (.tuple ds))]) (h:=h) (h1:=h)
  (ds:=(ds.zip ds.tail).map λp=>PyData.tuple [p.1,p.2]) (by simp[Ai,yB]) (by grind) (λd=>!(match d with|.tuple [a,b]=>ltB a b|_=>false)) (λ_=>.int 1) (λy hy=>by
   obtain⟨p,hp,rfl⟩:=SA.mp hy;obtain⟨m1,m2⟩:=CF hp;refine⟨_,rfl,?_,?_⟩
   ·simp[GO (c.nd _ m1).1 (c.nd _ m2).1 (c.nd _ m1).2 (c.lt _ m1 _ m2)]
   ·intro _;simp)
 simp[key,tw (JD _)];have e:=all_filter ((ds.zip ds.tail).map λp=>PyData.tuple [p.1,p.2]) (λd=>match d with|.tuple [a,b]=>ltB a b|_=>false) (λ_=>PyData.int 1);have e2:kO ds=bu ((ds.zip ds.tail).map λp=>PyData.tuple [p.1,p.2]) (λd=>match d with|.tuple [a,b]=>ltB a b|_=>false):=by simp only[kO,bu,List.all_map];rfl
 simp_all
noncomputable abbrev vw:Str := "abcdefghijklmnopqrstuvwxyz"
theorem D8:vw.cps.toList=(List.range 26).map (97+·):=by rfl
theorem D9(c:Nat):decide (c∈vw.cps.toList)=az c:=by
 rw[D8,az,TZ];simp;constructor
 ·omega
 ·intro _;exact⟨c-97,by omega,by omega⟩
theorem Ea(c:Nat)(h:Hm):gx (.str ⟨#[c]⟩) (.str vw) h=.ok (.bool (!az c)) h:=by simp only[gx,findIn,fE,gZ];rw[StrLaws.found_one,D9]
theorem Eb(hx:PyData.strOk x=true):∀d∈dZ x,Ok 1 0 d:=λd hd=>by simp only[dZ,SA]at hd;obtain⟨i,hi,rfl⟩:=hd;exact⟨xY hx,by simp[PyData.depth],by simp[PyData.weight]⟩
theorem fz.sub{ds es:Vw}(o:∀d∈ds,Ok n m d)(h:∀e∈es,e∈ds):fz (es.length*(n+1)) m es:=fz.of λd hd=>o d (h d hd)
noncomputable def Px:PyData->Bool
 |.str x=>az (x.cps.getD 0 0)
 |_=>false
theorem CG(c:Nat):Px (.str ⟨#[c]⟩)=az c:=by rfl
theorem iz(o:Ok n m d)(hn:n<=10000)(h:Hm):bJ [.dat d] h=.ok (.bool (isName d)) h:=by
 unfold bJ lF
 cases d with
 |str x=>
  have hx:x.length<=16777216:=Sd o.str #[3];have hs:PyData.strOk x=true:=by have:=o.f;simpa [o4]using this
  have key:=eJ (n:=1) (it:=aP (ae 0)) (g:=ax 0) (t:=aM (ak gx (ae 0) (aj (.str "abcdefghijklmnopqrstuvwxyz")))) (e:=ae 0) (ρ:=[some (.str x)]) (h:=h) (h1:=h) (ds:=dZ x) (by simp[vo]) (by rw[vp];exact hx)
   (λd=>!Px d) id (λy hy=>by
    simp only[dZ,SA,SM]at hy;obtain⟨i,hi,rfl⟩:=hy;generalize x.cps.getD i 0=c;refine⟨_,rfl,?_,λ_=>?_⟩
    ·simp[Ea,CG]
    ·simp)
  by_cases h1:1<=(x.length:Int)
  ·by_cases h2:(x.length:Int)<=6
   ·have ok:=fz.sub (es:=((dZ x).filter (λd=>!Px d)).map id) (Eb hs) (by simp;exact λe a _=>a);simp only[Vn]at key ok;have e1:=all_filter (dZ x) Px id;unfold bu at e1;rw[vq x az _ CG,Vn]at e1;simp[jz h hx,mY,h1,h2,key,tw ok,-List.isEmpty_eq_false_iff,-Vq];rw[e1];simp[isName,show 1<=x.length by omega,show x.length<=6 by omega]
   ·simp[jz h hx,mY,h1,h2,isName,show ¬ x.length<=6 by omega]
  ·simp[jz h hx,mY,h1,isName,show ¬ 1<=x.length by omega]
 |_=>simp[isName]
mutual
def cm:PyData->PyData->Bool
 |.str _,.str _=>true
 |.int _,.int _=>true
 |.tuple xs,.tuple ys=>Nd xs ys
 |_,_=>false
def Nd:Vw->Vw->Bool
 |x::xs,y::ys=>cm x y&&Nd xs ys
 |_,_=>true
end
mutual
theorem Bq:∀{d e:PyData},cm d e=true->(cj d e).isSome=true
 |.str _,e,h=>by cases e<;>simp_all[cm,cj]
 |.int _,e,h=>by cases e<;>simp_all[cm,cj]
 |.tuple xs,e,h=>by
  cases e with
  |tuple ys=>simp only[cj];exact CH h
  |_=>assumption
 |.none,_,h=>by assumption
 |.bool _,_,h=>by assumption
 |.list _,_,h=>by assumption
 |.dict _,_,h=>by assumption
theorem CH:∀{xs ys:Vw},Nd xs ys=true->(dH xs ys).isSome=true
 | [],[],_=>by rfl
 | [],_::_,_=>by rfl
 |_::_,[],_=>by rfl
 |x::xs,y::ys,h=>by
  simp only[Nd,R4]at h;unfold dH;split
  ·exact CH h.2
  ·exact Bq h.1
end
theorem JE(h:cm d e=true):cj d e=some (ltB d e):=by
 have:=Bq h;unfold ltB
 cases q:cj d e with
 |none=>grind
 |some b=>rfl
noncomputable def fv:PyData->Bool
 |.str _=>true
 |_=>false
theorem cz(h:fv d=true):∃x,d=.str x:=by cases d<;>simp_all[fv]
theorem qi:∀{xs ys:Vw},bu xs fv=true->bu ys fv=true->Nd xs ys=true
 | [],_,_,_=>by rfl
 |_::_,[],_,_=>by rfl
 |x::xs,y::ys,h,k=>by have h:=f7.mp h;have k:=f7.mp k;obtain⟨a,rfl⟩:=cz h.1;obtain⟨b,rfl⟩:=cz k.1;simp[Nd,cm,qi h.2 k.2]
theorem Hn.of(o:fz n m ds)(hm:m<=40)(h:∀d∈ds,∀e∈ds,cm d e=true):Hn ds:=⟨λd q=>⟨(o.mem q).Nc,by have:=(o.mem q).d;omega⟩,λd q e r=>JE (h d q e r)⟩
noncomputable def fU(ns:Vw)(d:PyData):Bool:=ns.any λy=>PyData.eqv y d
theorem vy(o:Ok n m d):∀{ns:Vw},bu ns fv=true->Ft d ns=some (fU ns d)
 | [],_=>rfl
 |y::ns,h=>by
  have h:=f7.mp h;obtain⟨x,rfl⟩:=cz h.1;have ih:=vy o h.2
  have e:B5 (.str x) d=some (PyData.eqv (.str x) d):=by
   have hd  := o.Nc;unfold B5;split
   ·rfl
   ·grind
   grind[eqQ,noDict,PyData.hasDict,PyData.depth]
  simp[Ft,e,ih,fU]
theorem mD(o:Ok n m d)(h:bu ns fv=true)(hm:Hm):t9 (.dat d) (.dat (.tuple ns)) hm=.ok (.bool (fU ns d)) hm:=by simp[t9,findIn,fE,gZ,vy o h]
theorem yC(o:Ok n m d)(h:bu ns fv=true)(hm:Hm):gx (.dat d) (.dat (.tuple ns)) hm=.ok (.bool (!fU ns d)) hm:=by simp[gx,findIn,fE,gZ,vy o h]
theorem kc(h:bu ns fv=true):fU ns d=true<->d∈ns:=by
 simp[fU];constructor
 ·rintro⟨y,hy,e⟩;obtain⟨x,rfl⟩:=cz (bE.mp h y hy);cases d<;>simp[PyData.eqv]at e
  grind
 ·intro q;obtain⟨x,rfl⟩:=cz (bE.mp h d q)
  grind[PyData.eqv]
theorem Br(h:isName d=true):fv d=true:=by cases d<;>simp_all[isName,fv]
theorem f9(h:bu ds isName=true):bu ds fv=true:=bE.mpr λd m=>Br (bE.mp h d m)
theorem vz(h:bu ds fv=true):∀d∈ds,∃x,d=.str x:=λd m=>cz (bE.mp h d m)
noncomputable def cG:PyData->Bool
 |.tuple ds=>decide (ds.length<=12)&&bu ds isName&&kO ds
 |_=>false
theorem ke(o:Ok n m d)(hn:n<=10000)(h:Hm):iL [.dat d] h=.ok (.bool (cG d)) h:=by
 unfold iL rP
 cases d with
 |tuple ds=>
  have hl:=o.items.len;have key:=dy (n:=1) (it:=aP (ae 0)) (g:=ax 0) (e:=ag jt #[18]) (ρ:=[some (.dat (.tuple ds))]) (h:=h) (h1:=h) (ds:=ds) #[6] #[3] (λx=>.bool (isName x)) (λx hx=>⟨_,rfl,by simp[Bp (o.items.mem hx) hn]⟩);by_cases h1:ds.length<=12
  ·by_cases h2:bu ds isName=true
   ·have:=ka (vt (vz (f9 h2))) #[3] h;simp[key,dJ,h1,show ¬ (12:Int)<ds.length by omega,h2,this,cG]
   ·simp[key,dJ,h1,show ¬ (12:Int)<ds.length by omega,h2,cG]
  ·simp[h1,show(12:Int)<ds.length by omega,cG]
 |_=>simp[cG]
noncomputable def gY(ns:Vw):PyData->Bool
 |.tuple ds=>bu ds (fU ns)&&kO ds
 |_=>false
theorem iT(i j:Int)(h:Hm):t7 (.int i) (.int j) h=.ok (.bool (!(i==j))) h:=by rfl
theorem kg(i j:Int)(h:Hm):oEq (.int i) (.int j) h=.ok (.bool (i==j)) h:=by rfl
noncomputable def cO:PyData->Vw
 |.tuple ds=>ds
 |_=>[]
theorem yD(h:cG d=true):∃ds,d=.tuple ds/\ds.length<=12/\bu ds isName=true/\kO ds=true:=by
 cases d<;>simp[cG]at h
 simp_all
@[simp] theorem Py(ds:Vw)(i:Int)(h:Hm):eK (.dat (.tuple ds)) (.int i) h=match kL ds i with|some d=>.ok (.dat d) h|none=>.bad:=rfl
@[simp] theorem JF(ds:Vw)(i:Int)(h:Hm):eK (.dat (.list ds)) (.int i) h=match kL ds i with|some d=>.ok (.dat d) h|none=>.bad:=rfl
@[simp] theorem Rp(a:α)(r:List α):kL (a::r) 0=some a:=by simp[kL,wt]
theorem gc{i:Nat}{a:α}(h:xs[i]?=some a):kL xs (i:Int)=some a:=by obtain⟨hi,e⟩:=R6.mp h;simp[kL,wt,hi,e]
@[simp] theorem Rq(a b:α)(r:List α):kL (a::b::r) 1=some b:=gc rfl
noncomputable def Wf(h:Hm):Prop:=∀o∈h,MO.below h.length o=true
structure Bx(i:Nat)(h:Hm):Prop where
 box:∃n:Int,h[i]?=some (.lst [.int n])
 wf:Wf h
noncomputable def Bs(i:Nat)(h h':Hm):Prop:=∃n:Int,h'=h.set i (.lst [.int n])
theorem Bx.lt(b:Bx i h):i<h.length:=by obtain⟨⟨n,e⟩,_⟩:=b;exact(R6.mp e).1
theorem Bx.refl(b:Bx i h):Bs i h h:=by obtain⟨⟨n,e⟩,_⟩:=b;refine⟨n,?_⟩;obtain⟨l,e⟩:=R6.mp e;rw[<- e];exact(List.set_getElem_self l).symm
theorem Bs.trans(a:Bs i h h')(b:Bs i h' h''):Bs i h h'':=by obtain⟨n,rfl⟩:=a;obtain⟨k,rfl⟩:=b;exact⟨k,by simp⟩
theorem Wf.set(w:Wf h)(b:MO.below h.length o=true):Wf (h.set i o):=λx hx=>by
 rw[List.length_set];rcases List.mem_or_eq_of_mem_set hx with m|rfl
 ·exact w x m
 grind
theorem D.kh(h:n<=m)(b:D.below n d=true):D.below m d=true:=by cases d<;>simp_all[D.below];omega
theorem MO.kh(h:n<=m)(b:MO.below n o=true):MO.below m o=true:=by
 cases o with
 |lst xs=>simp[MO.below]at b ⊢;exact λd q=>D.kh h (b d q)
 |fS t kvs=>rfl
 |ins C fs=>simp only[MO.below,Sh]at b ⊢;exact λd q=>D.kh h (b d q)
 |tab P q=>rfl
theorem Wf.push(w:Wf h)(b:MO.below (h.length+1) o=true):Wf (h++[o]):=λx hx=>by
 rw[SE,List.length_singleton];rcases Sw.mp hx with m|m
 ·exact MO.kh (Ui _) (w x m)
 grind
theorem Bs.bx(s:Bs i h h')(b:Bx i h):Bx i h':=by obtain⟨n,rfl⟩:=s;exact⟨⟨n,by rw[Tb b.lt]⟩,b.wf.set rfl⟩
theorem Bs.len(s:Bs i h h'):h'.length=h.length:=by obtain⟨n,rfl⟩:=s;simp
theorem Bx.push(b:Bx i h)(q:MO.below (h.length+1) o=true):Bx i (h++[o]):=by obtain⟨n,e⟩:=b.box;exact⟨⟨n,by rw[Sl b.lt];exact e⟩,b.wf.push q⟩
noncomputable def Dr{α:Type}(i:Nat)(h:Hm)(r:R α)(P:α->Prop):Prop:=∃a h',r=.ok a h'/\Bs i h h'/\P a
theorem ki(b:Bx i h)(h0:0<c)(h1:c<1073741824):Dr i h (aK [.ref i,.int c] h) λd=>∃k:Nat,d=.int k/\(k:Int)<c:=by
 obtain⟨⟨n,e⟩,_⟩:=b;have hl:=(R6.mp e).1;refine⟨.int (n % c),h.set i (.lst [.int (n / c)]),?_,⟨n / c,rfl⟩,(n % c).toNat,?_,?_⟩
 ·unfold aK rW;simp[eK,fE,DJ,e,sY,h0,h1,nS,oj,B6,wt]
 ·rw[Int.toNat_of_nonneg (Int.emod_nonneg _ #[3])]
 ·rw[Int.toNat_of_nonneg (Int.emod_nonneg _ #[3])];exact Int.emod_lt_of_pos _ h0
theorem JG(ns:List Int)(k:Nat)(h:Hm):∃z:Int,iN [.scr ns,.int k] h=.ok (.int z) h:=by
 unfold iN rV;by_cases hk:k<ns.length
 ·exact⟨ns[k],by simp[gH,j9,hk,eK,fE,DJ,gc _]⟩
 simp[gH,j9,hk]
noncomputable def vA:Vw:=[.int 48271,.int 69621,.int 16807,.int 39373,.int 30269,.int 40014,.int 40692,.int 50021,.int 61687,.int 71993,.int 83869,.int 95561,.int 30307]
theorem Aj(i:Int)(h0:0<=i)(h1:i<13):∃n:Int,kL vA i=some (.int n)/\0<=n/\n<100000:=by
 obtain⟨k,rfl⟩:=Int.eq_ofNat_of_zero_le h0;have hk:k<13:=by omega
 have all:∀k<13,∃n:Int,vA[k]?=some (.int n)/\0<=n/\n<100000:=by
  intro k hk
  match k,hk with
  |0,_=>exact⟨_,rfl,by decide,by decide⟩
  |1,_=>exact⟨_,rfl,by decide,by decide⟩
  |2,_=>exact⟨_,rfl,by decide,by decide⟩
  |3,_=>exact⟨_,rfl,by decide,by decide⟩
  |4,_=>exact⟨_,rfl,by decide,by decide⟩
  |5,_=>exact⟨_,rfl,by decide,by decide⟩
  |6,_=>exact⟨_,rfl,by decide,by decide⟩
  |7,_=>exact⟨_,rfl,by decide,by decide⟩
  |8,_=>exact⟨_,rfl,by decide,by decide⟩
  |9,_=>exact⟨_,rfl,by decide,by decide⟩
  |10,_=>exact⟨_,rfl,by decide,by decide⟩
  |11,_=>exact⟨_,rfl,by decide,by decide⟩
  |12,_=>exact⟨_,rfl,by decide,by decide⟩
 obtain⟨n,e,h⟩:=all k hk;exact⟨n,gc e,h⟩
theorem mE(h:Hm)(hj:0<j):oMod (.int i) (.int j) h=.ok (.int (i % j)) h:=by simp[oMod,hj]
theorem rn(h:Hm)(hj:0<j)(h2:j<1073741824):iJ (.int i) (.int j) h=.ok (.int (i / j)) h:=by simp[iJ,hj,h2]
theorem mF(h:Hm)(hj:t6 i j=true):fR (.int i) (.int j) h=.ok (.int (i*j)) h:=by simp[fR,hj]
@[simp] theorem OE(i j:Int)(h:Hm):dG (.int i) (.int j) h=.ok (.int (i+j)) h:=rfl
theorem yE(h0:-18446744073709551616<j)(h1:j<18446744073709551616):t6 i j=true:=by
 simp_all[t6]
theorem kj(h0:-18446744073709551616<i)(h1:i<18446744073709551616):t6 i j=true:=by
 simp_all[t6]
theorem MB(c:Int)(k:Nat)(h:Hm):∃z:Int,fY [.int c,.int k] h=.ok (.int z) h:=by
 unfold fY uM;obtain⟨n,e,n0,n1⟩:=Aj ((k:Int) % 13) (Int.emod_nonneg _ #[4]) (Int.emod_lt_of_pos _ #[4]);simp[vA]at e
 refine⟨_,by
  simp[mE,e,mF,yE (j:=n) #[3] #[3],rn,kj (i:=977) #[4] #[4],kj (i:=7919) #[4] #[4],kj (i:=48271) #[4] #[4],kj (i:=((c % 2147483647+12345)*n+977 * ↑k+7919*(↑k / 13)) % 1000000007) #[3] #[3]]
  rfl⟩
theorem MC(ns:List Int)(k l:Nat)(h:Hm):∃n:Int,fu [.scr ns,.int k,.int l] h=.ok (.ref h.length) (h++[.lst [.int n]]):=by
 unfold fu uN;obtain⟨c,ec⟩:=JG ns k h;have hn:nums 0 90=(List.range 90).map λ(i:Nat)=>D.int (0+(i:Int)):=rfl
 obtain⟨ρ',h',e,z,rfl,j,rfl⟩:=hV (g:=ax 5) (b:=cn 4 (ak dG (ak fR (ae 4) (aj (.int 142857143))) (ag fY (aa (ae 3) (aa (ak dG (ak fR (aj (.int 90)) (ae 2)) (ae 5)) ai)))))
  (λ_ ρ h'=>∃z:Int,h'=h/\∃j,ρ=[some (.scr ns),some (.int k),some (.int l),some (.int c),some (.int z),j]) (nums 0 90) 0 [some (.scr ns),some (.int k),some (.int l),some (.int c),some (.int 0),none] h (by
   rintro j x hx ρ h' ⟨z,eh,y,er⟩;subst eh;subst er;simp only[nums,SD,SI]at hx;obtain⟨i,_,rfl⟩:=hx;obtain⟨q,eq⟩:=MB c (90*l+i) h';refine⟨_,h',[some (.scr ns),some (.int k),some (.int l),some (.int c),some (.int (z*142857143+q)),some (.int i)],h',rfl,.inl ?_,_,rfl,_,rfl⟩;have e2:fY [.int c,.int (90*(l:Int)+i)] h'=.ok (.int q) h':=by rw[show(90:Int)*l+i=((90*l+i:Nat):Int)by omega];exact eq
   simp[mF,yE (i:=z) (j:=142857143) #[4] #[4],kj (i:=90) (j:=l) #[4] #[4],e2]) ⟨0,rfl,none,rfl⟩
 by_cases h1:c % 2=0/\(l:Int)=0
 ·exact⟨(if c<0 then -c else c) / 2,by simp[ec,mE,kg,h1.1,h1.2,Iq,rn,t5,sz]⟩
 ·refine⟨z,?_⟩;by_cases h2:c % 2=0
  ·have h3:¬ (l=0):=λq=>h1 ⟨h2,by omega⟩;simp[ec,mE,kg,h2,h3,e,t5,sz,show(-(2^62):Int)<=90/\(90:Int)<2^62 by decide]
  ·simp[ec,mE,kg,h2,e,t5,sz,show(-(2^62):Int)<=90/\(90:Int)<2^62 by decide]
noncomputable def Pz(n m:Nat)(x:PyData):Bool:=o4 x&&decide (x.depth<=m)&&decide (x.weight<=n)
theorem mG(h:Pz n m x=true):Ok n m x:=by simp[Pz]at h;exact⟨h.1.1,h.1.2,h.2⟩
noncomputable def CI(n m:Nat)(x:PyData):Prop:=Ok n m x\/x=.dict []\/x=.dict [(.str "a",.int 1)]
theorem CI.mono(o:CI n m x)(h1:n<=n')(h2:m<=m'):CI n' m' x:=o.imp (·.mono h1 h2) id
theorem CJ{k:Nat}(h:k<xs.length):∃x,kL xs (k:Int)=some x/\x∈xs:=⟨xs[k],gc (R9 h),Uv h⟩
theorem qj(h:Hm)(hz:xs.length+ys.length<=16777216):dG (.dat (.list xs)) (.dat (.list ys)) h=.ok (.dat (.list (xs++ys))) h:=by simp[dG,sz hz]
theorem mH(h:Hm)(hz:xs.length+ys.length<=16777216):dG (.dat (.tuple xs)) (.dat (.tuple ys)) h=.ok (.dat (.tuple (xs++ys))) h:=by simp[dG,sz hz]
noncomputable def CK:Vw:=[.none,.bool true,.bool false,.int 0,.int 1,.int (-1),.int 7,.int 100000000000000000000000000000,.str "",.str "a",.str "A",.str "a b",.str "abcdefg",.str "in",.tuple [],.list []]
noncomputable def CL:Vw:=[.tuple [.str "a"],.list [.str "a"],.tuple [.str "b",.str "a"],.tuple [.str "a",.str "a"],.tuple [.tuple [],.tuple []],.tuple [.tuple [],.tuple [],.tuple []],.list [.tuple [],.tuple []],.tuple [.tuple [.str "a"],.tuple [.tuple [.str "a",.str "b"]]]]
theorem CM:∀x∈CK++CL,Pz 200 3 x=true:=by decide +kernel
theorem GP(b:Bx i h):Dr i h (ej [.ref i] h) λd=>∃x,d=.dat x/\CI 200 3 x:=by
 unfold ej uO;obtain⟨d,h',e,s,k,rfl,hk⟩:=ki b (c:=26) #[4] #[4];obtain⟨x,ex,mx⟩:=CJ (xs:=CK++[.dict []]++CL++[.dict [(.str "a",.int 1)]]) (k:=k) (by have:(CK++[PyData.dict []]++CL++[PyData.dict [(.str "a",.int 1)]]).length=26:=rfl;omega);refine⟨.dat x,h',?_,s,x,rfl,?_⟩
 ·simp_all[CK,CL,Vo,List.nil_append,qj,e,ex]
 ·simp only[Sw,SF]at mx;rcases mx with((m|m)|m)|m
  ·exact .inl (mG (CM x (Tu _ m)))
  ·exact .inr (.inl m)
  ·exact .inl (mG (CM x (Se _ m)))
  ·exact .inr (.inr m)
noncomputable def CN:Vw:=[.none,.str "",.str "a",.str "zz",.str "A",.str "abcdefg",.int 7,.tuple [],.tuple [.str "a",.str "a"],.list [],.bool true,.tuple [.str "a"],.str "in",.str "open"]
theorem GQ:∀x∈CN,Pz 20 1 x=true:=by decide +kernel
theorem yF{i:Nat}:∀(q:Nat) {n m:Nat} {d:PyData} {h:Hm},Bx i h->Ok n m d->m<q->n<=5000->Dr i h (cx q [.ref i,.dat d] h) λr=>∃x,r=.dat x/\Ok (n+n+20) (m+1) x
 |0,n,m,d,h,b,o,hm,hn=>by omega
 |q+1,n,m,d,h,b,o,hm,hn=>by
  unfold cx rY;obtain⟨_,ha,ea,sa,w,rfl,hw⟩:=ki b (c:=7) #[4] #[4];have ba:=sa.bx b;obtain⟨_,hb,eb,sb,u,rfl,hu⟩:=ki ba (c:=14) #[4] #[4];obtain⟨x,ex,mx⟩:=CJ (xs:=CN) (k:=u) (by have:CN.length=14:=rfl;omega);have ox:Ok (n+n+20) (m+1) x:=(mG (GQ x mx)).mono #[3] #[3];simp only[CN]at ex
  cases d with
  |tuple ds=>
   by_cases hz:ds=[]
   ·subst hz;exact⟨.dat x,hb,by simp[ea,jy o.items,eb,ex],sa.trans sb,x,rfl,ox⟩
   by_cases h2:(w:Int)<2
   ·have hz1:ds.isEmpty=false:=by cases ds<;>simp_all
    exact⟨.dat x,hb,by simp[ea,jy o.items,hz1,j9,h2,eb,ex],sa.trans sb,x,rfl,ox⟩
   have hz1:ds.isEmpty=false:=by cases ds<;>simp_all
   have hl:0<ds.length:=List.length_pos_iff.mpr hz;have hl2:=o.items.len;have hm1:1<=m:=by have:=o.d;simp only[PyData.depth]at this;omega
   obtain⟨_,hc,ec,sc,z,rfl,hz2⟩:=ki ba (c:=ds.length) #[3] #[3];have bc:=sc.bx ba;have hzl:z<ds.length:=by omega
   obtain⟨y,ey,o1,oy,o2,ws⟩:=o.items.split z hzl;have ty:=gc ey;have c1:=GL ds z;have c2:cut ds (some ((z:Int)+1)) none=ds.drop (z+1):=by have:=Ah ds (z+1);simpa using this
   have c3:=JA ds z y ey;have l1:=o1.len;have l2:=o2.len;by_cases h4:(w:Int)<4
   ·obtain⟨_,hd,ed,sd,x',rfl,ox'⟩:=yF q (n:=y.weight) (m:=m-1) bc oy #[3] #[3];refine⟨.dat (.tuple (ds.take z++[x']++ds.drop (z+1))),hd,?_,(sa.trans sc).trans sd,_,rfl,?_⟩
    ·simp[ea,jy o.items,hz1,j9,h2,ec,h4,ty,ed,c1,c2];rw[mH _ (by simp at l1 ⊢;omega)];simp;rw[mH _ (by simp at l1 l2 ⊢;omega)];simp
    ·refine Ok.mono (((o1.mono (R5 _) (by omega:m-1<=m)).append (fz.one (ox'.mono (R5 _) (by omega:m-1+1<=m)))).append (o2.mono (R5 _) (by omega:m-1<=m))).tup #[3] (R5 _)
   ·have w4:(w:Int)-4=0\/(w:Int)-4=1\/(w:Int)-4=2:=by omega
    have a1:dG (.dat (.tuple (ds.take z))) (.dat (.tuple (ds.drop (z+1)))) hc=.ok (.dat (.tuple (ds.take z++ds.drop (z+1)))) hc:=mH _ (by simp at l1 l2 ⊢;omega);have a2:dG (.dat (.tuple ds)) (.dat (.tuple [y])) hc=.ok (.dat (.tuple (ds++[y]))) hc:=mH _ (by simp;omega);rcases w4 with e|e|e
    ·refine⟨.dat (.tuple (ds.take z++ds.drop (z+1))),hc,?_,sa.trans sc,_,rfl,Ok.mono ((o1.append o2).tup) #[3] #[3]⟩;simp[ea,jy o.items,hz1,j9,h2,ec,h4,c1,c2,c3,a1,a2,pH,i4,fE,e,kL,wt]
    ·refine⟨.dat (.list ds),hc,?_,sa.trans sc,_,rfl,Ok.mono (o.items.lst) #[3] #[3]⟩;simp[ea,jy o.items,hz1,j9,h2,ec,h4,c1,c2,c3,a1,a2,pH,i4,fE,e,kL,wt]
    ·refine⟨.dat (.tuple (ds++[y])),hc,?_,sa.trans sc,_,rfl,Ok.mono ((o.items.append (fz.one oy)).tup) #[3] #[3]⟩;simp[ea,jy o.items,hz1,j9,h2,ec,h4,c1,c2,c3,a1,a2,pH,i4,fE,e,kL,wt]
  |_=>exact⟨.dat x,hb,by simp[ea,eb,ex],sa.trans sb,x,rfl,ox⟩
noncomputable def dM(kvs:Vu):Vw:=kvs.map (·.1)
theorem rA:dM (dput kvs k v)=if jo k kvs then dM kvs else dM kvs++[k]:=by
 unfold dput dM;split
 ·rw[UC];congr 1
  funext p
  grind
 ·simp
theorem mZ(tk:ay k=true)(h:∀q∈dM kvs,ay q=true):jo k kvs=true<->k∈dM kvs:=by
 simp only[jo,Ta,dM,SA];constructor
 ·rintro⟨p,hp,e⟩;exact⟨p,hp,(lb (h _ (List.mem_map_of_mem hp)) tk).mp e⟩
 ·rintro⟨p,hp,rfl⟩;exact⟨p,hp,bQ tk⟩
theorem Bt(tk:ay k=true)(h:∀q∈dM kvs,ay q=true)(nd:(dM kvs).Nodup):(dM (dput kvs k v)).Nodup:=by
 rw[rA];split
 ·exact nd
 ·rename_i hk;refine List.nodup_append.mpr ⟨nd,by simp,?_⟩;intro a ha b hb;simp at hb;subst hb;rintro rfl;exact hk ((mZ tk h).mpr ha)
theorem Ak(h:q∈dM (dput kvs k v)):q∈dM kvs\/q=k:=by
 grind[rA]
theorem Al(kvs:Vu)(k v:PyData):(dput kvs k v).length<=kvs.length+1:=by unfold dput;split<;>simp
theorem yG:∀{ds:Vw},ds.Pairwise (λa b=>ltB a b=true)->kO ds=true
 | [],_=>rfl
 | [_],_=>rfl
 |a::b::r,h=>by rw[SN]at h;have ih:=yG h.2;exact f7.mpr ⟨h.1 b #[6],ih⟩
theorem Ec(c:eN ds=true)(t:aD ds=true)(nd:ds.Nodup):kO (fF ltB ds)=true:=by
 have p:=b8 ltB ds;have u:=ud (mL c t);refine yG ?_;refine UQ.mpr λ{a b} s=>?_;have both:=UQ.mp u s;have ha:=p.mem_iff.mp (s.subset (by simp:a∈[a,b]));have hb:=p.mem_iff.mp (s.subset (by simp:b∈[a,b]));rcases pI c t ha hb both with q|q
 ·exact q
 grind
theorem MD(c:eN ds=true)(t:aD ds=true)(hx:x∈ds)(hy:y∈ds)(hz:z∈ds)(h:ltB x y=true)(k:ltB y z=true):ltB x z=true:=by
 have h1:=xU c t hx hy h;have h2:=xU c t hy hz k;rcases pI c t hx hz (Ca c t hx hy hz h1 h2)with q|q
 ·exact q
 grind
theorem GR(c:eN ds=true)(t:aD ds=true):∀{es:Vw},(∀e∈es,e∈ds)->kO es=true->es.Pairwise λa b=>ltB a b=true
 | [],_,_=>.nil
 | [_],_,_=>by simp
 |a::b::r,s,h=>by
  unfold kO at h;simp at h;have h:=f7.mp h;have ih:=GR c t (λe m=>s e (Sb _ m)) (by grind[kO]);refine SN.mpr ⟨λd m=>?_,ih⟩;rcases Sf.mp m with rfl|m'
  ·grind
  ·exact MD c t (s a #[6]) (s b #[6]) (s d (by grind)) h.1 ((SN.mp ih).1 d m')
theorem Am(b:Bx i h)(e:f xs h=.ok (.dat x) (h1++t))(s:Bs i h h1):gw f xs h=.ok (.dat x) h1:=by
 have hl:=s.len;have w:=(s.bx b).wf;have e2  := Sh.mpr λo m=>hl▸w o m
 simp_all[gw,D.below]
namespace Nm
variable {c:Nat} {ns:Vw}
end Nm
theorem sE(h:fv d=true):bj d=true:=by cases d<;>simp_all[fv,bj]
theorem cP(h:fv d=true):ay d=true:=by cases d<;>simp_all[fv,ay]
theorem cL:∀{ds:Vw},bu ds fv=true->aD ds=true
 | [],_=>by rfl
 |d::ds,h=>by have h:=f7.mp h;simp[aD,cP,h,cL]
theorem o5(h:bu ds fv=true):PyData.depthAll ds=0:=by
 have:=gE (m:=0) λd q=>by obtain⟨x,rfl⟩:=cz (bE.mp h d q);simp[PyData.depth]
 omega
theorem xl(h:∀a∈ds,∀b∈ds,cm a b=true):eN ds=true:=Sh.mpr λa ha=>Sh.mpr λb hb=>Bq (h a ha b hb)
end Ml
namespace Ml
open PySem
theorem JH(e:a ρ h=.ok (.nx ρ1) h1):aY a b ρ h=b ρ1 h1:=by simp_all
theorem aS(ha:a ρ h=.ok x h1)(hb:b ρ h1=.ok y h2)(e:f x y h2=r):ak f a b ρ h=r:=by
 simp_all
theorem aF(he:e ρ h=.ok x h1)(ha:a ρ h1=.ok xs h2):aa e a ρ h=.ok (x::xs) h2:=by
 simp_all
theorem cH(ha:a ρ h=.ok xs h1):ag f a ρ h=f xs h1:=by simp_all
theorem CO(he:e ρ h=.ok x h1):cn i e ρ h=.ok (.nx (ρ.set i (some x))) h1:=by simp_all
section
variable {t u:MT} {a b:MS} {m:ME} {ρ:Fm} {h h1 h2:Hm} {x:D} {c d:Bool}
theorem dz(e:m ρ h=.ok (.bool c) h1):aM m ρ h=.ok c h1:=by simp_all
theorem Ed(e:m ρ h=.ok x h1)(k:Ml.truth x h1=some c):aU m ρ h=.ok c h1:=by simp only[aU,e,R.bo,k]
theorem nc(e:t ρ h=.ok c h1):cY t ρ h=.ok (!c) h1:=by simp_all
theorem OF(e:t ρ h=.ok true h1):iI t a b ρ h=a ρ h1:=by simp_all
theorem OG(e:t ρ h=.ok false h1):iI t a b ρ h=b ρ h1:=by simp_all
theorem fQ(e:it ρ h=.ok xs h1)(k:dS g a xs ρ h1=r):jI it g a ρ h=r:=by simp_all
theorem kn(e:m ρ h=.ok (.dat (.list ds)) h1):aP m ρ h=.ok (ds.map D.dat) h1:=by simp_all
theorem yH(e:m ρ h=.ok (.dat (.tuple ds)) h1):aP m ρ h=.ok (ds.map D.dat) h1:=by simp_all
theorem JI(e:m ρ h=.ok x h1):bF m ρ h=.ok (.rt x) h1:=by simp_all
end
theorem Ee(e:a ρ h=.ok [.dat (.int j)] h1)(q:(-(2^62):Int)<=j/\j<2^62):kB a ρ h=.ok (nums 0 j.toNat) h1:=by
 simp_all
theorem qk(e:a ρ h=.ok [.dat (.int (n:Int))] h1)(hn:n<1000000):kB a ρ h=.ok (nums 0 n) h1:=by
 have:=Ee e #[3]
 rwa [Tx]at this
noncomputable abbrev rB(d:PyData):Prop:=isName d=true
noncomputable abbrev PB(p:PyData):Prop:=∃a b,rB a/\rB b/\p=.tuple [a,b]
theorem cE(h:rB x):fv x=true:=by
 cases x with
 |str y=>rfl
 |_=>assumption
theorem GS(h:rB x):Ok 6 0 x:=by
 obtain⟨y,rfl⟩:=cz (cE h);simp only[rB,isName,R4,Sv]at h;refine⟨?_,by simp[PyData.depth],h.1.2⟩;simp only[o4,PyData.strOk];rw[Array.all_eq_true_iff_forall_mem];intro x hx;have:=Sh.mp h.2 x (by grind)
 grind[az]
theorem hU(h:PB p):bj p=true/\ay p=true/\og p=true/\ft p=true/\p.depth<=1/\Ok 14 1 p:=by obtain⟨a,b,ha,hb,rfl⟩:=h;have oa:=GS ha;have ob:=GS hb;have ok:Ok 14 1 _:=((fz.cons oa (fz.one ob)).mono #[3] (R5 _)).tup;exact⟨by simp[bj,dj,sE (cE ha),sE (cE hb)],by simp[ay,aD,cP (cE ha),cP (cE hb)],rfl,rfl,ok.d,ok⟩
structure Ho(U:PyData->Prop):Prop where
 c:∀a b,U a->U b->cm a b=true
 st:∀d,U d->bj d=true
 key:(∀d,U d->og d=true)\/(∀d,U d->t8 d=true)
 typ:(∀d,U d->uc d=true)\/(∀d,U d->ft d=true)
 dep:∀d,U d->d.depth<=1
theorem Kp:Ho PB:=⟨λp q hp hq=>by
  obtain⟨a,b,ha,hb,rfl⟩:=hp;obtain⟨c,d,hc,hd,rfl⟩:=hq
  exact qi (by simp[bu,cE ha,cE hb]) (by simp[bu,cE hc,cE hd]),λd m=>(hU m).1,.inl λd m=>(hU m).2.2.1,.inr λd m=>(hU m).2.2.2.1,λd m=>(hU m).2.2.2.2.1⟩
section
variable {U:PyData->Prop} {xs ys:Vw}
theorem Ho.t(u:Ho U)(h:U d):ay d=true:=b9 (u.st d h)
theorem Ho.EX(u:Ho U)(h:∀d∈xs,U d):aD xs=true:=kZ λd m=>u.t (h d m)
theorem Ho.cmp(u:Ho U)(h:∀d∈xs,U d):eN xs=true:=xl λa ha b hb=>u.c a b (h a ha) (h b hb)
structure Rw(U:PyData->Prop)(xs:Vw):Prop where
 sub:∀d∈xs,U d
 ris:xs.Pairwise λa b=>ltB a b=true
theorem yI(r:Rw U xs):kO xs=true:=yG r.ris
theorem JJ(u:Ho U)(h:∀d∈xs,U d)(nd:xs.Nodup):Rw U (fF ltB xs):=
 ⟨λd m=>h d ((b8 _ _).mem_iff.mp m),GR (u.cmp h) (u.EX h) (λd m=>(b8 _ _).mem_iff.mp m) (Ec (u.cmp h) (u.EX h) nd)⟩
theorem Ho.RY(u:Ho U)(h:∀d∈xs,U d)(l:xs.length<64):lg xs=true:=by
 have h1:(xs.all uc || xs.all ft)=true:=by
  rcases u.typ with k|k
  ·simp_all
  simp_all
 have h3:PyData.depthAll xs<=20:=Sd (gE λd m=>u.dep d (h d m)) #[4]
 simp_all[lg,u.EX,u.cmp]
end
structure Nr(ns:Vw):Prop extends Rw rB ns where
 le:ns.length<=12
structure Wb(k:Nat)(ns ss:Vw):Prop where
 nr:Nr ns
 sr:Rw PB ss
 cl:∀a b,.tuple [a,b]∈ss->a∈ns/\b∈ns
 le:ss.length<=k
section
variable {k:Nat} {ns ss:Vw}
theorem Wb.sd(w:Wb k ns ss):bu ns fv=true:=bE.mpr λd m=>cE (w.nr.sub d m)
theorem Wb.JK(w:Wb k ns ss)(h:a∈ns):Ok 6 0 a:=GS (w.nr.sub a h)
theorem Wb.Ke(w:Wb k ns ss):Ok 84 1 (.tuple ns):=by have:=w.nr.le;exact((fz.of λd m=>w.JK m).mono #[3] (R5 _)).tup
theorem Wb.QS(w:Wb k ns ss)(hk:k<=600):fz 9000 1 ss:=by have:=w.le;exact(fz.of λd m=>(hU (w.sr.sub d m)).2.2.2.2.2).mono #[3] (R5 _)
theorem Wb.names(w:Wb k ns ss):cG (.tuple ns)=true:=by have h1  := bE.mpr λd m=>w.nr.sub d m;simp[cG,w.nr.le,yI w.nr.toRw,h1]
theorem Wb.get(w:Wb k ns ss){p:PyData}(h:p∈ss):∃a b,p=.tuple [a,b]/\a∈ns/\b∈ns:=by obtain⟨a,b,_,_,rfl⟩:=w.sr.sub p h;exact⟨a,b,rfl,w.cl a b h⟩
theorem OH(h:Hm):t7 (D.int 2) (D.dat (.int 2)) h=.ok (.bool false) h:=by rfl
theorem Ef(w:Wb k ns ss)(ha:a∈ns)(hb:b∈ns)(h:Hm):dB [.dat (.tuple [a,b]),.dat (.tuple ns)] h=.ok (.bool true) h:=by unfold dB lz;simp[OH,mD (w.JK ha) w.sd,mD (w.JK hb) w.sd,(kc w.sd).mpr ha,(kc w.sd).mpr hb]
theorem Bu(w:Wb k ns ss)(hk:k<=600)(h:Hm):dR [.dat (.tuple ss),.dat (.tuple ns)] h=.ok (.bool true) h:=by
 unfold dR i6;have hl:=w.le
 have key:=dy (n:=1) (it:=aP (ae 0)) (g:=ax 0) (e:=ag dB (aa (ae 0) (aa (ae 2) ai))) (ρ:=[some (.dat (.tuple ss)),some (.dat (.tuple ns))]) (h:=h) (h1:=h) (ds:=ss) #[6] #[3] (λx=>.bool ((λ_=>true) x)) (λx hx=>⟨_,rfl,by
  obtain⟨a,b,rfl,ha,hb⟩:=w.get hx
  simp[Ef w ha hb]⟩)
 have al:bu ss (λ_=>true)=true:=bE.mpr λ_ _=>rfl;have cp:Hn ss:=Hn.of (w.QS hk) #[4] λd hd e he=>by obtain⟨a,b,rfl,ha,hb⟩:=w.get hd;obtain⟨a',b',rfl,ha',hb'⟩:=w.get he;have:=bE.mp w.sd;simp only[cm];exact qi (by simp[bu,this a ha,this b hb]) (by simp[bu,this a' ha',this b' hb'])
 have ir:=ka cp #[3] h;rw[yI w.sr]at ir;have bm:=dJ ss (λ_=>true) h
 simp_all
theorem MF(w:Wb k ns ss)(hk:k<=600)(h:Hm):fJ [.dat (.tuple [.tuple ns,.tuple ss])] h=.ok (.bool true) h:=by have e1:=ke w.Ke #[4] h;rw[w.names]at e1;unfold fJ uF;simp[OH,e1,Bu w hk h]
end
noncomputable def ql:PyData->PyData
 |.tuple [a,_]=>a
 |_=>.none
noncomputable def vB:PyData->PyData
 |.tuple [_,b]=>b
 |_=>.none
section
variable {a b:MS} {t:MT} {m m2:ME} {ρ ρ1:Fm} {h h1 h2:Hm} {r:R Fl} {x y:D} {i:Nat} {g:MG} {it:MA} {f:Fn} {ma:MA} {xs:List D}
theorem aR(e:a ρ h=.ok (.nx ρ1) h1)(k:b ρ1 h1=r):aY a b ρ h=r:=(JH e).trans k
theorem rC(e:a ρ h=.ok (.rt x) h1):aY a b ρ h=.ok (.rt x) h1:=by simp_all
theorem et(e:m ρ h=.ok x h1):cn i m ρ h=.ok (.nx (ρ.set i (some x))) h1:=CO e
theorem CP(e:m ρ h=.ok x h1):gv m ρ h=.ok (.nx ρ) h1:=by simp_all
theorem o6(e:m ρ h=.ok x h1)(k:g x ρ h1=.ok ρ1 h2):ng g m ρ h=.ok (.nx ρ1) h2:=by simp_all
theorem eA(e:m ρ h=.ok x h1):bF m ρ h=.ok (.rt x) h1:=JI e
theorem vC(e:t ρ h=.ok true h1)(k:a ρ h1=r):iI t a b ρ h=r:=(OF e).trans k
theorem vD(e:t ρ h=.ok false h1)(k:b ρ h1=r):iI t a b ρ h=r:=(OG e).trans k
theorem fV(l:xs.length=p)(e:b (xs.map some++List.replicate (n-p) none) h=.ok (.rt x) h1):bz p n b xs h=.ok x h1:=by
 simp_all
theorem aN(ha:ma ρ h=.ok xs h1)(k:f xs h1=.ok d h2):ag f ma ρ h=.ok d h2:=(cH ha).trans k
theorem tD{a b:PyData}(e1:m ρ h=.ok (.dat a) h1)(e2:m2 ρ h1=.ok (.dat b) h2):gG (aa m (aa m2 ai)) ρ h=.ok (.dat (.tuple [a,b])) h2:=(cH (aF e1 (aF e2 rfl))).trans (My _ _ _)
theorem Bv(e:t ρ h=.ok true h1):pb t u ρ h=.ok true h1:=by simp_all
theorem ko(e:t ρ h=.ok false h1)(k:u ρ h1=.ok c h2):pb t u ρ h=.ok c h2:=by simp_all
theorem MH(e:t ρ h=.ok c h1)(k:u ρ h1=.ok d h1):pb t u ρ h=.ok (c || d) h1:=by cases c<;>simp[e,k]
theorem iA(e:m ρ h=.ok (.bool c) h1):aU m ρ h=.ok c h1:=Ed e rfl
end
noncomputable def vE(ss lot:Vw)(x:PyData):Bool:=ss.any λp=>fU lot (ql p)&&PyData.eqv (vB p) x
noncomputable def nO(ss lot:Vw)(x:PyData):Bool:=ss.any λp=>!vE ss lot (ql p)&&PyData.eqv (vB p) x
noncomputable def sF(ns ss lot:Vw):Vw:=ns.filter λx=>!nO ss lot x
theorem kq{ρ:Fm}{c:MT}{h:Hm}{f:PyData->Bool}:∀{ps:Vw} {acc:Vu},(∀p∈ps,∃a b,p=.tuple [a,b]/\rB a/\rB b/\c (some (.dat a)::some (.dat b)::ρ) h=.ok (f p) h)->(∀q∈dM acc,rB q)->acc.length+ps.length<1000 ->
  ∃kvs,fK false 2 ρ (ji (cb (ax 0) (cb (ax 1) jh))) c (ae 1) (aj (.bool true)) (ps.map D.dat) acc h=.ok kvs h/\(∀q∈dM kvs,rB q)/\∀x,x∈dM kvs<->x∈dM acc\/∃p∈ps,f p=true/\vB p=x
 | [],acc,_,ha,_=>⟨acc,rfl,ha,by simp⟩
 |p::ps,acc,H,ha,hl=>by
  simp only[SG]at hl;obtain⟨a,b,rfl,na,nb,e⟩:=H p (.head _);have H2:=λq m=>H q (Sb _ m)
  cases hf:f (.tuple [a,b])with
  |false=>
   rw[hf]at e;obtain⟨kvs,e1,e2,e3⟩:=kq (ps:=ps) (acc:=acc) H2 ha #[3];refine⟨kvs,?_,e2,λx=>(e3 x).trans (or_congr_right ?_)⟩
   ·simp only[Sy];unfold fK;simp[e,e1]
   ·constructor
    ·rintro⟨q,m,r⟩;exact⟨q,Sb _ m,r⟩
    ·rintro⟨q,m,r1,r2⟩;rcases Sf.mp m with rfl|m
     ·rw[hf]at r1;cases r1
     ·exact⟨q,m,r1,r2⟩
  |true=>
   rw[hf]at e;have tb:=cP (cE nb);have ta:∀q∈dM acc,ay q=true:=λq m=>cP (cE (ha q m))
   have ha2:∀q∈dM (dput acc b (.bool true)),rB q:=λq m=>by
    rcases Ak m with m|rfl
    ·exact ha q m
    ·exact nb
   have hk:keyOk false b=true:=by obtain⟨y,rfl⟩:=cz (cE nb);rfl
   obtain⟨kvs,e1,e2,e3⟩:=kq (ps:=ps) (acc:=dput acc b (.bool true)) H2 ha2 (by have:=Al acc b (.bool true);omega);refine⟨kvs,?_,e2,λx=>(e3 x).trans ?_⟩
   ·simp only[Sy];unfold fK;simp[e,hk,kW,show acc.length<16777216 by omega,e1]
   ·have k1:x∈dM (dput acc b (.bool true))<->x∈dM acc\/b=x:=by
     rw[rA];split
     ·rename_i z;have:=(mZ tb ta).mp z;constructor
      ·exact .inl
      ·rintro(m|rfl)
       ·exact m
       ·exact this
     ·simp[eq_comm]
    rw[k1];constructor
    ·rintro((m|rfl)|⟨q,m,r⟩)
     ·exact .inl m
     ·exact .inr ⟨_,.head _,hf,rfl⟩
     ·exact .inr ⟨q,Sb _ m,r⟩
    ·rintro(m|⟨q,m,r1,r2⟩)
     ·exact .inl (.inl m)
     ·rcases Sf.mp m with rfl|m
      ·exact .inl (.inr r2)
      ·exact .inr ⟨q,m,r1,r2⟩
theorem Bw{kvs:Vu}{x:PyData}(hx:rB x)(h:Hm):t9 (.dat x) (.fS false kvs) h=.ok (.bool (jo x kvs)) h/\gx (.dat x) (.fS false kvs) h=.ok (.bool (!jo x kvs)) h:=by
 have hk:keyOk false x=true:=by obtain⟨y,rfl⟩:=cz (cE hx);rfl
 simp[t9,gx,findIn,fE,xS,hk]
theorem yJ{a b:PyData}(ha:rB a)(hb:rB b):PyData.eqv a b=true<->a=b:=lb (cP (cE ha)) (cP (cE hb))
section
variable {ns ss lot:Vw} {h:Hm}
noncomputable abbrev WD(ns ss:Vw):PyData:=.tuple [.tuple ns,.tuple ss]
theorem gb(w:Wb 25 ns ss)(hl:lot.Sublist ns):bu lot fv=true:=bE.mpr λd m=>bE.mp w.sd d (hl.subset m)
theorem GU(w:Wb 25 ns ss)(hl:lot.Sublist ns)(h:Hm):∃kvs,lC [.dat #[13],.dat (.tuple lot)] h=.ok (.fS false kvs) h/\∀x,rB x->jo x kvs=vE ss lot x:=by
 obtain⟨kvs,e1,e2,e3⟩:=kq (ρ:=[some (.dat #[13]),some (.dat (.tuple lot))]) (c:=aM (ak t9 (ae 0) (ae 3))) (h:=h) (f:=λp=>fU lot (ql p)) (ps:=ss) (acc:=[]) (λp m=>by
  obtain⟨a,b,rfl,ha,hb⟩:=w.get m
  exact⟨a,b,rfl,w.nr.sub a ha,w.nr.sub b hb,by simp[mD (w.JK ha) (gb w hl),ql]⟩) (by simp[dM]) (by have:=w.le;simp;omega)
 refine⟨kvs,?_,λx hx=>?_⟩
 ·unfold lC zL;simp[qQ,e1]
 ·rw[TZ,mZ (cP (cE hx)) (λq m=>cP (cE (e2 q m))),e3];unfold vE;rw[Ta];constructor
  ·rintro(m|⟨p,m,r1,r2⟩)
   ·simp[dM]at m
   ·refine⟨p,m,?_⟩;subst r2;obtain⟨a,b,rfl,ha,hb⟩:=w.get m;simp[r1,vB,(yJ (w.nr.sub b hb) (w.nr.sub b hb)).mpr rfl]
  ·rintro⟨p,m,r⟩;simp only[R4]at r;obtain⟨a,b,rfl,ha,hb⟩:=w.get m;exact .inr ⟨_,m,r.1,(yJ (w.nr.sub b hb) hx).mp r.2⟩
theorem yK(w:Wb 25 ns ss)(hl:lot.Sublist ns)(h:Hm):eg [.dat #[13],.dat (.tuple lot)] h=.ok (.dat (.tuple (sF ns ss lot))) h:=by
 obtain⟨kv,e1,e2⟩:=GU w hl h;have hc:sF ns ss lot=(ns.filter λx=>!nO ss lot x).map id:=by simp[sF]
 obtain⟨kw,f1,f2,f3⟩:=kq (ρ:=[some (.dat #[13]),some (.dat (.tuple lot)),some (.dat (.tuple ns)),some (.dat (.tuple ss)),some (.fS false kv),none]) (c:=aM (ak gx (ae 0) (ae 6))) (h:=h) (f:=λp=>!vE ss lot (ql p)) (ps:=ss) (acc:=[]) (λp m=>by
  obtain⟨a,b,rfl,ha,hb⟩:=w.get m
  exact⟨a,b,rfl,w.nr.sub a ha,w.nr.sub b hb,by simp[(Bw (w.nr.sub a ha) h).2,e2 a (w.nr.sub a ha),ql]⟩) (by simp[dM]) (by have:=w.le;simp;omega)
 have kb:∀x,rB x->jo x kw=nO ss lot x:=λx hx=>by
  rw[TZ,mZ (cP (cE hx)) (λq m=>cP (cE (f2 q m))),f3];unfold nO;rw[Ta];constructor
  ·rintro(m|⟨p,m,r1,r2⟩)
   ·simp[dM]at m
   ·refine⟨p,m,?_⟩;subst r2;obtain⟨a,b,rfl,ha,hb⟩:=w.get m;rw[R4];exact⟨r1,(yJ (w.nr.sub b hb) (w.nr.sub b hb)).mpr rfl⟩
  ·rintro⟨p,m,r⟩;simp only[R4]at r;obtain⟨a,b,rfl,ha,hb⟩:=w.get m;exact .inr ⟨_,m,r.1,(yJ (w.nr.sub b hb) hx).mp r.2⟩
 have key:=eJ (n:=1) (it:=aP (ae 2)) (g:=ax 0) (t:=aM (ak gx (ae 0) (ae 6))) (e:=ae 0) (ρ:=[some (.dat #[13]),some (.dat (.tuple lot)),some (.dat (.tuple ns)),some (.dat (.tuple ss)),some (.fS false kv),some (.fS false kw)]) (h:=h) (h1:=h) (ds:=ns) #[6] (by have:=w.nr.le;omega) (λx=>!nO ss lot x) id (λx hx=>⟨_,rfl,by simp[(Bw (w.nr.sub x hx) h).2,kb x (w.nr.sub x hx)],λ_=>rfl⟩);rw[<- hc]at key;unfold eg uG;refine fV rfl (aR (o6 rfl rfl) (aR (et (aN rfl e1)) (aR (et (x:=.fS false kw) ?_) (eA (aN (aF key rfl) rfl)))));simp[qQ,f1]
theorem ku:(sF ns ss lot).Sublist ns:=List.filter_sublist
theorem GV{xs ys:Vw}{x:PyData}(s:∀d∈xs,d∈ys)(h:fU xs x=true):fU ys x=true:=by unfold fU at *;rw[Ta]at *;obtain⟨y,hy,e⟩:=h;exact⟨y,s y hy,e⟩
theorem GW{lot2:Vw}(s:∀d∈lot,d∈lot2):(sF ns ss lot).Sublist (sF ns ss lot2):=by
 have hm:∀x,vE ss lot x=true->vE ss lot2 x=true:=λx q=>by unfold vE at *;rw[Ta]at *;obtain⟨p,m,r⟩:=q;rw[R4]at r;exact⟨p,m,by rw[R4];exact⟨GV s r.1,r.2⟩⟩
 have bm:∀x,nO ss lot2 x=true->nO ss lot x=true:=λx q=>by
  unfold nO at *;rw[Ta]at *;obtain⟨p,m,r⟩:=q;simp only[R4,T5]at r;refine⟨p,m,?_⟩;simp only[R4,T5];refine⟨?_,r.2⟩
  cases z:vE ss lot (ql p)with
  |false=>rfl
  |true=>rw[hm _ z]at r;exact absurd r.1 #[6]
 have e:sF ns ss lot=(sF ns ss lot2).filter λx=>!nO ss lot x:=by
  unfold sF;rw[List.filter_filter];refine List.filter_congr λx _=>?_
  cases z:nO ss lot2 x with
  |false=>simp
  |true=>simp[bm x z]
 rw[e];exact List.filter_sublist
end
noncomputable def tE(ns:Vw)(d:PyData):Prop:=∃xs,d=.tuple xs/\xs.Sublist ns
section
variable {ns ss lot:Vw} {h:Hm}
theorem GX{n m:Nat}{d:PyData}(o:Ok n m d)(hs:bu ns fv=true)(hm:Hm):gx (.dat d) (.dat (.list ns)) hm=.ok (.bool (!fU ns d)) hm:=by simp[gx,findIn,fE,gZ,vy o hs]
theorem JL{n m:Nat}{d:PyData}(o:Ok n m d)(hs:bu ns fv=true)(hm:Hm):t9 (.dat d) (.dat (.list ns)) hm=.ok (.bool (fU ns d)) hm:=by simp[t9,findIn,fE,gZ,vy o hs]
theorem Kq{a b:PyData}(ha:rB a)(hb:rB b)(h:Hm):oEq (.dat a) (.dat b) h=.ok (.bool (PyData.eqv a b)) h:=by obtain⟨x,rfl⟩:=cz (cE ha);obtain⟨y,rfl⟩:=cz (cE hb);simp[oEq,eqQ,noDict,PyData.hasDict,PyData.depth]
noncomputable def iU(ss:Vw)(x:PyData):Vw:=(ss.filter λp=>PyData.eqv (vB p) x).map ql++(ss.filter λp=>PyData.eqv (ql p) x).map vB
theorem JM{x:PyData}(w:Wb 25 ns ss)(hx:x∈ns)(h:Hm):qR [.dat #[13],.dat x] h=.ok (.dat (.list (iU ss x))) h/\∀f∈iU ss x,rB f:=by
 have hl:=w.le
 have k1:=eJ (n:=2) (it:=aP (ak eK (ae 0) (aj (.int 1)))) (g:=ji (cb (ax 0) (cb (ax 1) jh))) (t:=aM (ak oEq (ae 1) (ae 3))) (e:=ae 0) (ρ:=[some (.dat #[13]),some (.dat x),none,none]) (h:=h) (h1:=h) (ds:=ss) #[6] #[3] (λs=>PyData.eqv (vB s) x) ql (λs hs=>by
  obtain⟨a,b,rfl,ha,hb⟩:=w.get hs
  exact⟨_,rfl,by simp[Kq (w.nr.sub b hb) (w.nr.sub x hx),vB],λ_=>by rfl⟩)
 have k2:=eJ (n:=2) (it:=aP (ak eK (ae 0) (aj (.int 1)))) (g:=ji (cb (ax 0) (cb (ax 1) jh))) (t:=aM (ak oEq (ae 0) (ae 3))) (e:=ae 1) (ρ:=[some (.dat #[13]),some (.dat x),some (.dat (.list ((ss.filter λp=>PyData.eqv (vB p) x).map ql))),none]) (h:=h) (h1:=h) (ds:=ss) #[6] #[3] (λs=>PyData.eqv (ql s) x) vB (λs hs=>by
  obtain⟨a,b,rfl,ha,hb⟩:=w.get hs
  exact⟨_,rfl,by simp[Kq (w.nr.sub a ha) (w.nr.sub x hx),ql],λ_=>by rfl⟩)
 refine⟨?_,λf m=>?_⟩
 ·unfold qR Gs;refine fV rfl (aR (et k1) (aR (et k2) (eA (aS rfl rfl (qj h ?_)))));have a1:=To (λp=>PyData.eqv (vB p) x) ss;have a2:=To (λp=>PyData.eqv (ql p) x) ss;simp only[Ss];omega
 ·unfold iU at m;rcases Sw.mp m with m|m
  ·obtain⟨p,hp,rfl⟩:=SA.mp m;obtain⟨a,b,rfl,ha,hb⟩:=w.get (TV.mp hp).1;exact w.nr.sub a ha
  ·obtain⟨p,hp,rfl⟩:=SA.mp m;obtain⟨a,b,rfl,ha,hb⟩:=w.get (TV.mp hp).1;exact w.nr.sub b hb
theorem An(w:Wb 25 ns ss){fs:Vw}(hf:∀d∈fs,tE ns d)(hl:fs.length<64):lg fs=true:=by
 have st:∀d∈fs,∃xs,d=.tuple xs/\bu xs fv=true:=λd m=>by obtain⟨xs,rfl,s⟩:=hf d m;exact⟨xs,rfl,gb w s⟩
 have h1:fs.all ft=true:=Sh.mpr λd m=>by obtain⟨xs,rfl,_⟩:=st d m;rfl
 have h2:aD fs=true:=kZ λd m=>by obtain⟨xs,rfl,s⟩:=st d m;simp[ay,cL s]
 have h3:eN fs=true:=xl λa ha b hb=>by obtain⟨xs,rfl,s⟩:=st a ha;obtain⟨ys,rfl,t⟩:=st b hb;simpa [cm]using qi s t
 have h4:PyData.depthAll fs<=20:=Sd (gE (m:=1) λd m=>by
  obtain⟨xs,rfl,s⟩:=st d m
  simp[PyData.depth,o5 s]) #[4]
 simp[lg,-Sh,h1,h2,h3,h4,hl]
theorem GY(w:Wb 25 ns ss){fs:Vw}(hf:∀d∈fs,tE ns d)(hl:fs.length<64)(h:Hm):fG [.dat (.list fs)] h=.ok (.dat (.list (fF ltB fs))) h/\(∀d∈fF ltB fs,tE ns d)/\(fF ltB fs).length<64:=
 ⟨by simp[fG,listOf,An w hf hl],λd m=>hf d ((b8 _ _).mem_iff.mp m),by rw[(b8 _ _).length_eq];exact hl⟩
noncomputable abbrev Rr:MS:=(aY (cn 3 (ag qR (aa (ae 0) (aa (ae 2) ai))))
  (iI (aM (ak gx (ae 2) (ae 3))) (cn 1 (ak dG (ae 1) (bX 1 (aP (ae 1)) (ax 0) (cY (aU (ag sO (aa (bX 1 (aP (ae 0)) (ax 0) dh (ak t9 (ae 0) (ae 5))) ai)))) (gG (zN (ae 0) (aa (ae 3) ai)))))) bO))
theorem MI{x:PyData}{pre xs fs:Vw}{y3:Option D}(w:Wb 25 ns ss)(e:ns=pre++x::xs)(hf:∀d∈fs,tE pre d)(hl:fs.length<=2^pre.length)(hp:pre.length<=4)(h:Hm) :
  ∃fs' z3,Rr [some (.dat #[13]),some (.dat (.list fs)),some (.dat x),y3] h=.ok (.nx [some (.dat #[13]),some (.dat (.list fs')),some (.dat x),z3]) h/\(∀d∈fs',tE (pre++[x]) d)/\fs'.length<=2^(pre.length+1):=by
 have hx:x∈ns:=by rw[e];simp
 have sp:pre.Sublist ns:=by rw[e];exact List.sublist_append_left ..
 obtain⟨f1,f2⟩:=JM w hx h;have fsd:bu (iU ss x) fv=true:=bE.mpr λd m=>cE (f2 d m);have l2:(2:Nat)^pre.length<=16:=Sd (U5 #[4] hp) #[4];have lift:∀d,tE pre d->tE (pre++[x]) d:=λd ⟨ys,e1,s⟩=>⟨ys,e1,s.trans (List.sublist_append_left ..)⟩;have c1:aM (ak gx (ae 2) (ae 3)) [some (.dat #[13]),some (.dat (.list fs)),some (.dat x),some (.dat (.list (iU ss x)))] h=.ok (!fU (iU ss x) x) h:=dz (aS rfl rfl (GX (w.JK hx) fsd h));have st:cn 3 (ag qR (aa (ae 0) (aa (ae 2) ai))) [some (.dat #[13]),some (.dat (.list fs)),some (.dat x),y3] h=.ok (.nx [some (.dat #[13]),some (.dat (.list fs)),some (.dat x),some (.dat (.list (iU ss x)))]) h:=et (aN rfl f1)
 cases hc:(!fU (iU ss x) x)with
 |false=>rw[hc]at c1;exact⟨fs,_,aR st (vD c1 rfl),λd m=>lift d (hf d m),Sd hl (U5 #[4] #[3])⟩
 |true=>
  rw[hc]at c1
  have key:=eJ (n:=1) (it:=aP (ae 1)) (g:=ax 0) (t:=cY (aU (ag sO (aa (bX 1 (aP (ae 0)) (ax 0) dh (ak t9 (ae 0) (ae 5))) ai)))) (e:=gG (zN (ae 0) (aa (ae 3) ai))) (ρ:=[some (.dat #[13]),some (.dat (.list fs)),some (.dat x),some (.dat (.list (iU ss x)))]) (h:=h) (h1:=h) (ds:=fs) #[6] #[3] (λd=>!(cO d).any (fU (iU ss x))) (λd=>.tuple (cO d++[x])) (λd m=>by
   obtain⟨ys,rfl,sy⟩:=hf d m;have sn:=sy.trans sp;have ly:=sn.length_le;have lw:=w.nr.le;refine⟨_,rfl,nc (iA (D6 (n:=1) (ds:=ys) #[6] #[3] (fU (iU ss x)) λy hy=>⟨_,rfl,by simp[JL (w.JK (sn.subset hy)) fsd]⟩)),λ_=>?_⟩;have mk:=jx (ys++[x]) h (by simp;omega);rw[List.map_append]at mk;unfold gG;refine(cH (xs:=ys.map D.dat++[.dat x]) (h1:=h) ?_).trans mk
   simp[zN,zM])
  refine⟨fs++(fs.filter λd=>!(cO d).any (fU (iU ss x))).map λd=>.tuple (cO d++[x]),_,aR st (vC c1 (et (aS rfl key (qj h ?_)))),λd m=>?_,?_⟩
  ·have:=To (λd=>!(cO d).any (fU (iU ss x))) fs;rw[Ss];omega
  ·rcases Sw.mp m with m|m
   ·exact lift d (hf d m)
   ·obtain⟨q,hq,rfl⟩:=SA.mp m;obtain⟨ys,rfl,sy⟩:=hf q (TV.mp hq).1;exact⟨ys++[x],rfl,List.Sublist.append sy (List.Sublist.refl _)⟩
  ·have:=To (λd=>!(cO d).any (fU (iU ss x))) fs;rw[SE,Ss,Nat.pow_succ];omega
theorem GZ(w:Wb 25 ns ss)(l5:ns.length<=5)(h:Hm):∃ps,bT [.dat #[13]] h=.ok (.dat (.list ps)) h/\(∀d∈ps,tE ns d)/\ps.length<64:=by
 have loop:∀(xs pre fs:Vw) (y2 y3:Option D),ns=pre++xs->(∀d∈fs,tE pre d)->fs.length<=2^pre.length->∃fs' z2 z3,dS (ax 2) Rr (xs.map D.dat) [some (.dat #[13]),some (.dat (.list fs)),y2,y3] h=.ok (.nx [some (.dat #[13]),some (.dat (.list fs')),z2,z3]) h/\(∀d∈fs',tE ns d)/\fs'.length<=2^ns.length:=by
  intro xs
  induction xs with
  |nil=>intro pre fs y2 y3 e hf hl;rw[Ug]at e;subst e;exact⟨fs,y2,y3,rfl,hf,hl⟩
  |cons x xs ih=>
   intro pre fs y2 y3 e hf hl;have hp:pre.length<=4:=by have:=Vl List.length e;simp at this;omega
   obtain⟨fs1,z3,e1,hf1,hl1⟩:=MI (y3:=y3) w e hf hl hp h;obtain⟨fs2,u2,u3,e2,r⟩:=ih (pre++[x]) fs1 (some (.dat x)) z3 (by rw[e];simp) hf1 (by simpa using hl1);refine⟨fs2,u2,u3,?_,r⟩;simp only[Sy,dS,ax,R.fm,R.bo,Tp,Tq];rw[e1];simp only[R.fm,R.bo];exact e2
 obtain⟨fs,z2,z3,e,hf,hl⟩:=loop ns [] [.tuple []] none none rfl (by simpa [tE]using⟨[],rfl,List.Sublist.refl _⟩) #[6];have l2:fs.length<64:=UN (Sd hl (U5 #[4] l5)) #[4];obtain⟨s1,s2,s3⟩:=GY w hf l2 h;refine⟨_,?_,s2,s3⟩;unfold bT kE;exact fV rfl (aR (et rfl) (aR (fQ (yH rfl) e) (eA (aN rfl s1))))
end
noncomputable def iB(ns:Vw):PyData->Bool
 |.tuple [a,b]=>fU ns a&&fU ns b
 |_=>false
theorem yL{n m:Nat}{d:PyData}{ns:Vw}(o:Ok n m d)(hn:n<=10000)(hs:bu ns fv=true)(h:Hm):dB [.dat d,.dat (.tuple ns)] h=.ok (.bool (iB ns d)) h:=by
 unfold dB lz
 cases d with
 |tuple ds=>
  match ds,o with
  | [],o=>rfl
  | [_],o=>rfl
  |a::b::c::r,o=>rfl
  | [l,x],o=>
   have ol:=o.items.mem (d:=l) #[6];have ox:=o.items.mem (d:=x) #[6];by_cases h1:fU ns l=true
   ·simp[iT,mD ol hs,h1,iB,mD ox hs]
   ·simp[iT,mD ol hs,h1,iB]
 |_=>simp[iB]
theorem Ao{ns:Vw}(hs:bu ns fv=true){d:PyData}(h:iB ns d=true):∃x y:Str,d=.tuple [.str x,.str y]:=by
 unfold iB at h;split at h
 ·simp at h;obtain⟨x,rfl⟩:=cz (bE.mp hs _ ((kc hs).mp h.1));obtain⟨y,rfl⟩:=cz (bE.mp hs _ ((kc hs).mp h.2))
  grind
 grind
theorem OI{ns:Vw}(hs:bu ns fv=true){d e:PyData}(h:iB ns d=true)(k:iB ns e=true):cm d e=true:=by obtain⟨x,y,rfl⟩:=Ao hs h;obtain⟨z,w,rfl⟩:=Ao hs k;rfl
noncomputable def sG(ns:Vw):PyData->Bool
 |.tuple ds=>bu ds (iB ns)&&kO ds
 |_=>false
theorem G0{n m:Nat}{ds ns:Vw}(o:fz n m ds)(hm:m<=40)(hs:bu ns fv=true)(h:bu ds (iB ns)=true):Hn ds:=Hn.of o hm λd q e r=>OI hs (bE.mp h d q) (bE.mp h e r)
theorem vF{n m:Nat}{d:PyData}{ns:Vw}(o:Ok n m d)(hn:n<=10000)(hm:m<=40)(hs:bu ns fv=true)(h:Hm):dR [.dat d,.dat (.tuple ns)] h=.ok (.bool (sG ns d)) h:=by
 unfold dR i6
 cases d with
 |tuple ds=>
  have hl:=o.items.len;have key:=dy (n:=1) (it:=aP (ae 0)) (g:=ax 0) (e:=ag dB (aa (ae 0) (aa (ae 2) ai))) (ρ:=[some (.dat (.tuple ds)),some (.dat (.tuple ns))]) (h:=h) (h1:=h) (ds:=ds) #[6] #[3] (λx=>.bool (iB ns x)) (λx hx=>⟨_,rfl,by simp[yL (o.items.mem hx) hn hs]⟩);by_cases h2:bu ds (iB ns)=true
  ·have:=ka (G0 o.items #[3] hs h2) #[3] h;simp[key,dJ,h2,this,sG]
  ·simp[key,dJ,h2,sG]
 |_=>simp[sG]
noncomputable def fb:PyData->Bool
 |.tuple [a,b]=>cG a&&sG (cO a) b
 |_=>false
theorem Eg{n m:Nat}{d:PyData}(o:Ok n m d)(hn:n<=10000)(hm:m<=40)(h:Hm):fJ [.dat d] h=.ok (.bool (fb d)) h:=by
 unfold fJ uF
 cases d with
 |tuple ds=>
  match ds,o with
  | [],o=>rfl
  | [_],o=>rfl
  |a::b::c::r,o=>rfl
  | [a,b],o=>
   have oa:=o.items.mem (d:=a) #[6];have ob:=o.items.mem (d:=b) #[6];by_cases h1:cG a=true
   ·obtain⟨ns,rfl,h2,h3,h4⟩:=yD h1;have:=vF ob hn #[3] (f9 h3) h;simp[iT,ke oa hn,h1,this,fb,cO]
   ·simp[iT,ke oa hn,h1,fb]
 |_=>simp[fb]
theorem sI(kvs:Vu)(h:Hm):fJ [.dat (.dict kvs)] h=.ok (.bool false) h:=by rfl
theorem vG{ds:Vw}(c:Hn ds)(hz:ds.length<=16777216)(h:Hm):dD [.dat (.tuple ds)] h=.ok (.bool (kO ds)) h:=qh c hz h
theorem OJ{v:ME}{ρ:Fm}{h:Hm}{x y:PyData}{u:MT}{c:Bool}(e:v ρ h=.ok (.dat (.tuple [x,y])) h)(k:u ρ h=.ok c h):pb (cY (aU (wD (kX isTup) v))) (pb (aM (ak t7 (ag gH (aa v ai)) (aj (.int 2)))) u) ρ h=.ok c h:=
 ko (h1:=h) (by simp[e]) (ko (by simp[e,iT]) k)
theorem By{m:ME}{ρ:Fm}{h:Hm}{ds:Vw}{f:PyData->Bool}(e:m ρ h=.ok (.dat (.list (ds.map λx=>.bool (f x)))) h):cY (aU (ag kM (aa m ai))) ρ h=.ok (!bu ds f) h:=nc (iA (aN (xs:=[_]) (aF e rfl) (dJ ds f h)))
noncomputable abbrev Rt:MS:=aY (iI (pb (cY (aU (wD (kX isTup) (ae 3)))) (pb (aM (ak t7 (ag gH (aa (ae 3) ai)) (aj (.int 2)))) (cY (aU (ag kM (aa (bX 1 (aP (ae 3)) (ax 0) dh (ag bJ #[18])) ai)))))) #[19] bO)
  (iI (pb (aM (ak gx (ak eK (ae 3) (aj (.int 0))) (ae 1))) (aM (ak gx (ak eK (ae 3) (aj (.int 1))) (ae 1)))) #[19] bO)
theorem MJ{n m:Nat}{d:PyData}{ns:Vw}{a0 a2:Option D}(o:Ok n m d)(hn:n<=10000)(hs:bu ns isName=true)(h:Hm):Rt [a0,some (.dat (.tuple ns)),a2,some (.dat d)] h=if iB ns d=true then .ok (.nx [a0,some (.dat (.tuple ns)),a2,some (.dat d)]) h else .ok (.rt (.bool false)) h:=by
 have hs':=f9 hs
 cases d with
 |tuple ds=>
  match ds,o with
  | [],o=>rfl
  | [_],o=>rfl
  |a::b::c::r,o=>rfl
  | [x,y],o=>
   have ox:=o.items.mem (d:=x) #[6];have oy:=o.items.mem (d:=y) #[6];have key:=dy (n:=1) (it:=aP (ae 3)) (g:=ax 0) (e:=ag bJ #[18]) (ρ:=[a0,some (.dat (.tuple ns)),a2,some (.dat (.tuple [x,y]))]) (h:=h) (h1:=h) (ds:=[x,y]) #[6] #[6] (λx=>.bool (isName x)) (λz hz=>⟨_,rfl,by simp[iz (o.items.mem hz) hn]⟩);have nm:∀z,fU ns z=true->isName z=true:=λz q=>bE.mp hs _ ((kc hs').mp q);have c1:=OJ (v:=ae 3) rfl (By key);have c2:=MH (dz (aS (ρ:=[a0,some (.dat (.tuple ns)),a2,some (.dat (.tuple [x,y]))]) (a:=ak eK (ae 3) (aj (.int 0))) (aS rfl rfl rfl) (b:=ae 1) rfl (yC ox hs' h))) (dz (aS (a:=ak eK (ae 3) (aj (.int 1))) (aS rfl rfl rfl) (b:=ae 1) rfl (yC oy hs' h)));by_cases z:fU ns x=true/\fU ns y=true
   ·have e1:(!bu [x,y] isName)=false:=by simp[bu,nm x z.1,nm y z.2]
    have e2:(!fU ns x || !fU ns y)=false:=by simp[z]
    rw[e1]at c1;rw[e2]at c2;rw[if_pos (show iB ns (.tuple [x,y])=true by simp[iB,z])];exact aR (vD c1 rfl) (vD c2 rfl)
   ·have e2:(!fU ns x || !fU ns y)=true:=by cases h3:fU ns x<;>cases h4:fU ns y<;>simp_all
    rw[e2]at c2;rw[if_neg (show ¬ iB ns (.tuple [x,y])=true by simpa [iB]using z)]
    cases e1:bu [x,y] isName with
    |true=>rw[e1]at c1;exact aR (vD c1 rfl) (vC c2 rfl)
    |false=>rw[e1]at c1;exact rC (vC c1 rfl)
 |_=>simp[iB]
theorem CQ{ns:Vw}{a0 a2:Option D}{n m:Nat}(hn:n<=10000)(hs:bu ns isName=true)(h:Hm):∀{ds:Vw},(∀d∈ds,Ok n m d)->∀a3:Option D,∃b3,dS (ax 3) Rt (ds.map D.dat) [a0,some (.dat (.tuple ns)),a2,a3] h=if bu ds (iB ns)=true then .ok (.nx [a0,some (.dat (.tuple ns)),a2,b3]) h else .ok (.rt (.bool false)) h
 | [],_,a3=>⟨a3,by rfl⟩
 |d::ds,H,a3=>by
  have k:=MJ (a0:=a0) (a2:=a2) (H d #[6]) hn hs h;obtain⟨b3,e⟩:=CQ (a0:=a0) (a2:=a2) hn hs h (ds:=ds) (λx q=>H x (by simp[q])) (some (.dat d));refine⟨b3,?_⟩;simp only[Sy];unfold dS;simp only[ax,R.fm,R.bo,Tp,Tq,k];by_cases h1:iB ns d=true
  ·rw[show bu (d::ds) (iB ns)=bu ds (iB ns)by simp[bu,h1]];simp only[h1,Tr,R.fm,R.bo,e]
  ·simp[h1,bu]
theorem wb{n m:Nat}{d:PyData}(o:Ok n m d)(hn:n<=10000)(hm:m<=40)(h:Hm):cW [.dat d] h=.ok (.bool (fb d)) h:=by
 unfold cW nH
 cases d with
 |tuple ds=>
  match ds,o with
  | [],o=>simp[iT,fb]
  | [_],o=>simp[iT,fb]
  |a::b::c::r,o=>simp[iT,fb,show ¬ ((r.length:Int)+1+1+1=2)by omega]
  | [a,b],o=>
   have oa:=o.items.mem (d:=a) #[6];have ob:=o.items.mem (d:=b) #[6];have key:=dy (n:=1) (it:=aP (ae 0)) (g:=ax 0) (e:=wD (kX isTup) (ae 0)) (ρ:=[some (.dat (.tuple [a,b])),none,none,none]) (h:=h) (h1:=h) (ds:=[a,b]) #[6] #[6] (λx=>.bool (isTup x)) (λz hz=>⟨_,rfl,by simp⟩);have ea:=dJ [a,b] isTup h;have c0:=OJ (v:=ae 0) rfl (By key);by_cases ht:isTup a=true/\isTup b=true
   ·obtain⟨ta,tb⟩:=ht;cases a<;>simp[isTup]at ta;cases b<;>simp[isTup]at tb;rename_i ns ps;have k2:=dy (n:=1) (it:=aP (ae 1)) (g:=ax 0) (e:=ag bJ #[18]) (ρ:=[some (.dat (.tuple [.tuple ns,.tuple ps])),some (.dat (.tuple ns)),some (.dat (.tuple ps)),none]) (h:=h) (h1:=h) (ds:=ns) #[6] (by have:=oa.items.len;omega) (λx=>.bool (isName x)) (λz hz=>⟨_,rfl,by simp[iz (oa.items.mem hz) hn]⟩);have hl:=oa.items.len;have hl2:=ob.items.len;rw[show(!bu [PyData.tuple ns,.tuple ps] isTup)=false by simp[bu,isTup]]at c0;refine fV rfl (aR (vD c0 rfl) (aR (o6 (x:=.dat (.tuple [.tuple ns,.tuple ps])) rfl rfl) ?_));have bl:ag gH (aa (ae 1) ai) [some (.dat (.tuple [.tuple ns,.tuple ps])),some (.dat (.tuple ns)),some (.dat (.tuple ps)),none] h=.ok (.int ns.length) h:=by simp[gH,sz (show ns.length<=16777216 by omega)]
    have c1:=dz (aS (f:=Em) bl (b:=aj (.int 12)) rfl rfl);have c2:=By k2;by_cases h1:ns.length<=12
    ·rw[S7 (show ¬ (12:Int)<ns.length by omega)]at c1;by_cases h2:bu ns isName=true
     ·have c3:=nc (iA (aN (ρ:=[some (.dat (.tuple [.tuple ns,.tuple ps])),some (.dat (.tuple ns)),some (.dat (.tuple ps)),none]) (ma:=aa (ae 1) ai) rfl (vG (vt (vz (f9 h2))) #[3] h)));rw[h2]at c2;by_cases h3:kO ns=true
      ·rw[h3]at c3;obtain⟨b3,lp⟩:=CQ (a0:=some (.dat (.tuple [.tuple ns,.tuple ps]))) (a2:=some (.dat (.tuple ps))) hn h2 h (ds:=ps) (λd q=>ob.items.mem q) none;refine aR (vD (ko c1 (ko c2 c3)) rfl) ?_;by_cases h4:bu ps (iB ns)=true
       ·rw[if_pos h4]at lp;have r2:=vG (G0 ob.items #[3] (f9 h2) h4) #[3] h;rw[show fb (.tuple [.tuple ns,.tuple ps])=kO ps by simp[fb,cG,sG,cO,h1,h2,h3,h4]];exact aR (fQ (yH rfl) lp) (eA (aN rfl r2))
       ·rw[if_neg h4]at lp;rw[show fb (.tuple [.tuple ns,.tuple ps])=false by simp[fb,sG,cO,h4]];exact rC (by simp[jI,yH,lp])
      ·rw[Tz.mpr h3]at c3;rw[show fb (.tuple [.tuple ns,.tuple ps])=false by simp[fb,cG,h3]];exact rC (vC (ko c1 (ko c2 c3)) rfl)
     ·rw[Tz.mpr h2]at c2;rw[show fb (.tuple [.tuple ns,.tuple ps])=false by simp[fb,cG,h2]];exact rC (vC (ko c1 (Bv c2)) rfl)
    ·rw[Ud (show(12:Int)<ns.length by omega)]at c1;rw[show fb (.tuple [.tuple ns,.tuple ps])=false by simp[fb,cG,h1]];exact rC (vC (Bv c1) rfl)
   ·have e:bu [a,b] isTup=false:=Tz.mpr λq=>ht (by simpa [bu]using q);rw[e]at c0
    rw[show fb (.tuple [a,b])=false from Tz.mpr λq=>ht (by
     simp only[fb,R4]at q;obtain⟨q1,q2⟩:=q
     exact⟨by cases a<;>simp_all[cG,isTup],by cases b<;>simp_all[sG,isTup]⟩)]
    exact fV rfl (rC (vC c0 rfl))
 |_=>simp[fb]
theorem kJ(kvs:Vu)(h:Hm):cW [.dat (.dict kvs)] h=.ok (.bool false) h:=by rfl
section
variable {ns ss lot:Vw} {h:Hm}
theorem xm{xs ys:Vw}(w:Wb 25 ns ss)(sx:xs.Sublist ns)(sy:ys.Sublist ns)(h:Hm):cU [.dat (.tuple xs),.dat (.tuple ys)] h=.ok (.bool (xs.all (fU ys))) h:=by have lx:=sx.length_le;have ln:=w.nr.le;have key:=xi (n:=1) (it:=aP (ae 0)) (g:=ax 0) (e:=ak t9 (ae 0) (ae 2)) (ρ:=[some (.dat (.tuple xs)),some (.dat (.tuple ys))]) (h:=h) (h1:=h) (ds:=xs) #[6] #[3] (fU ys) (λx hx=>⟨_,rfl,by simp[mD (w.JK (sx.subset hx)) (gb w sy)]⟩);unfold cU rQ;exact fV rfl (eA key)
theorem G1(w:Wb 25 ns ss)(s:lot.Sublist ns)(h:Hm):gp [.dat #[13],.dat (.tuple lot)] h=.ok (.bool (lot.all (fU (sF ns ss lot)))) h:=by unfold gp nG;exact fV rfl (eA (aN (aF rfl (aF (aN rfl (yK w s h)) rfl)) (xm w s ku h)))
theorem CT{xs ys:Vw}(w:Wb 25 ns ss)(sx:xs.Sublist ns)(sy:ys.Sublist ns)(h:Hm):oEq (.dat (.tuple xs)) (.dat (.tuple ys)) h=.ok (.bool (PyData.eqv (.tuple xs) (.tuple ys))) h/\t7 (.dat (.tuple xs)) (.dat (.tuple ys)) h=.ok (.bool (!PyData.eqv (.tuple xs) (.tuple ys))) h:=by
 have t1:ay (.tuple xs)=true:=by simp[ay,cL (gb w sx)]
 have t2:ay (.tuple ys)=true:=by simp[ay,cL (gb w sy)]
 have d1:(PyData.tuple xs).depth<=1:=by simp[PyData.depth,o5 (gb w sx)]
 have m:min (PyData.tuple xs).depth (PyData.tuple ys).depth<=40:=by omega
 simp[oEq,t7,eqQ,noDict,dA t1,dA t2,m]
theorem G2(w:Wb 25 ns ss)(s:lot.Sublist ns)(h:Hm):jT [.dat #[13],.dat (.tuple lot)] h=.ok (.bool (PyData.eqv (.tuple lot) (.tuple (sF ns ss lot)))) h:=by unfold jT uH;exact fV rfl (eA (aS rfl (aN rfl (yK w s h)) (CT w s ku h).1))
theorem Eh(w:Wb 25 ns ss)(s:lot.Sublist ns)(h:Hm):iM [.dat #[13],.dat (.tuple lot)] h=.ok (.bool (ns.all λx=>fU lot x || vE ss lot x)) h:=by
 obtain⟨kv,e1,e2⟩:=GU w s h
 have key:=xi (n:=1) (it:=aP (ak eK (ae 0) (aj (.int 0)))) (g:=ax 0) (e:=IT (ak t9 (ae 0) (ae 2)) (ak t9 (ae 0) (ae 3))) (ρ:=[some (.dat #[13]),some (.dat (.tuple lot)),some (.fS false kv)]) (h:=h) (h1:=h) (ds:=ns) #[6] (by have:=w.nr.le;omega) (λx=>fU lot x || vE ss lot x) (λx hx=>⟨_,rfl,by
  have k:=e2 x (w.nr.sub x hx)
  cases q:fU lot x<;>simp[mD (w.JK hx) (gb w s),q,(Bw (w.nr.sub x hx) h).1,k]⟩)
 unfold iM rR;exact fV rfl (aR (et (aN rfl e1)) (eA key))
theorem Bz{f:Fn}{c:PyData->Bool}(w:Wb 25 ns ss)(l5:ns.length<=5)(H:∀lot,lot.Sublist ns->f [.dat #[13],.dat (.tuple lot)] h=.ok (.bool (c (.tuple lot))) h) :
  ∃ds,bz 1 1 (bF (bX 1 (aP (ag bT #[18])) (ax 0) (aU (ag f (aa (ae 1) #[18]))) (ae 0))) [.dat #[13]] h=.ok (.dat (.list ds)) h/\(∀d∈ds,tE ns d)/\ds.length<64:=by
 obtain⟨ps,e,hp,hl⟩:=GZ w l5 h
 have key:=eJ (n:=1) (it:=aP (ag bT #[18])) (g:=ax 0) (t:=aU (ag f (aa (ae 1) #[18]))) (e:=ae 0) (ρ:=[some (.dat #[13])]) (h:=h) (h1:=h) (ds:=ps) (kn (aN rfl e)) #[3] c id (λd m=>by
  obtain⟨lot,rfl,s⟩:=hp d m
  exact⟨_,rfl,iA (aN rfl (H lot s)),λ_=>rfl⟩)
 rw[Vn]at key;exact⟨_,fV rfl (eA key),λd m=>hp d (TV.mp m).1,UN (To ..) hl⟩
theorem sJ(w:Wb 25 ns ss)(l5:ns.length<=5)(h:Hm):∃ds,cD [.dat #[13]] h=.ok (.dat (.list ds)) h/\(∀d∈ds,tE ns d)/\ds.length<64:=
 Bz (c:=λd=>(cO d).all (fU (sF ns ss (cO d)))) w l5 λlot s=>G1 w s h
theorem Ei(w:Wb 25 ns ss)(l5:ns.length<=5)(h:Hm):∃ds,fL [.dat #[13]] h=.ok (.dat (.list ds)) h/\(∀d∈ds,tE ns d)/\ds.length<64:=
 Bz (c:=λd=>PyData.eqv (.tuple (cO d)) (.tuple (sF ns ss (cO d)))) w l5 λlot s=>G2 w s h
theorem BA(w:Wb 25 ns ss)(l5:ns.length<=5)(h:Hm):∃ds,eZ [.dat #[13]] h=.ok (.dat (.list ds)) h/\(∀d∈ds,tE ns d)/\ds.length<64:=
 Bz (c:=λd=>ns.all λx=>fU (cO d) x || vE ss (cO d) x) w l5 λlot s=>Eh w s h
noncomputable abbrev Ru:MS:=(aY (cn 1 (ae 2)) (cn 2 (ag eg (aa (ae 0) (aa (ae 1) ai)))))
theorem CU(w:Wb 25 ns ss)(h:Hm):∀(n:Nat) (lot:Vw),lot.Sublist ns->lot.Sublist (sF ns ss lot)->ns.length-lot.length<n ->
  ∃L M,L.Sublist ns/\jJ (aM (ak t7 (ae 2) (ae 1))) Ru n [some (.dat #[13]),some (.dat (.tuple lot)),some (.dat (.tuple (sF ns ss lot)))] h=.ok (.nx [some (.dat #[13]),some (.dat (.tuple L)),M]) h
 |0,_,_,_,hn=>by omega
 |n+1,lot,s,s2,hn=>by
  have c:=dz (aS (a:=ae 2) (b:=ae 1) (ρ:=[some (.dat #[13]),some (.dat (.tuple lot)),some (.dat (.tuple (sF ns ss lot)))]) (h:=h) rfl rfl (CT w (ku (ns:=ns) (ss:=ss) (lot:=lot)) s h).2);unfold jJ;rw[c];simp only[R.fm,R.bo];by_cases q:sF ns ss lot=lot
  ·have e:PyData.eqv (.tuple (sF ns ss lot)) (.tuple lot)=true:=by
    rw[q];exact bQ (by simp[ay,cL (gb w s)])
   rw[e];exact⟨lot,_,s,rfl⟩
  ·have e:PyData.eqv (.tuple (sF ns ss lot)) (.tuple lot)=false:=bH (by simp[ay,cL (gb w ku)]) (by simp[ay,cL (gb w s)]) (by simpa using q);rw[e]
   have lt:lot.length<(sF ns ss lot).length:=by
    rcases Tw lot.length (sF ns ss lot).length with z|z
    ·exact z
    ·exact absurd (s2.eq_of_length (Nat.le_antisymm s2.length_le z)).symm q
   have le:=(ku (ns:=ns) (ss:=ss) (lot:=lot)).length_le;obtain⟨L,M,sL,eL⟩:=CU w h n (sF ns ss lot) ku (GW λd m=>s2.subset m) #[3];refine⟨L,M,sL,?_⟩;have b:Ru [some (.dat #[13]),some (.dat (.tuple lot)),some (.dat (.tuple (sF ns ss lot)))] h=.ok (.nx [some (.dat #[13]),some (.dat (.tuple (sF ns ss lot))),some (.dat (.tuple (sF ns ss (sF ns ss lot))))]) h:=aR (et rfl) (et (aN rfl (yK w ku h)));simp only[Bool.not_false,Tr,b,R.fm,R.bo];exact eL
theorem Ej(w:Wb 25 ns ss)(l5:ns.length<=5)(h:Hm):∃ds,cS [.dat #[13]] h=.ok (.dat (.list ds)) h/\(∀d∈ds,tE ns d)/\ds.length<64:=by obtain⟨L,M,sL,e⟩:=CU w h 20 [] (Vr _) (Vr _) (by simp;omega);refine⟨[.tuple L],?_,λd m=>by rw[SF.mp m];exact⟨L,rfl,sL⟩,by simp⟩;unfold cS kF;exact fV rfl (aR (et rfl) (aR (et (aN rfl (yK w (Vr _) h))) (aR e (eA (by unfold iD;exact(cH (aF rfl rfl)).trans (Bo _ _))))))
noncomputable abbrev MK:MS:=(iI (cY (aU (ag sO (aa (uI 1 (ae 1) (ax 0) dh (ag cU (aa (ae 3) #[18]))) ai)))) (gv (pW dU (ae 1) (ae 2))) bO)
theorem Ap{x:PyData}{i:Nat}{lx:Vw}{ρ:Fm}{h:Hm}(w:Wb 25 ns ss)(sx:lx.Sublist ns)(e3:ρ[2]?=some (some (.dat (.tuple lx))))(all:List D)(hi:h[i]?=some (.lst all)):∀{fs:Vw},(∀d∈fs,tE ns d) ->
  eG 1 ρ (ax 0) dh (ag cU (aa (ae 3) #[18])) i all (fs.map D.dat) h=.ok (fs.map λd=>.bool (lx.all (fU (cO d)))) h
 | [],_=>by simp[eG,hi]
 |f::fs,hf=>by obtain⟨ys,rfl,sy⟩:=hf f (.head _);have ih:=Ap (x:=x) w sx e3 all hi (fs:=fs) λd m=>hf d (Sb _ m);have c:ag cU (aa (ae 3) #[18]) (some (.dat (.tuple ys))::ρ) h=.ok (.bool (lx.all (fU ys))) h:=aN (aF (x:=.dat (.tuple lx)) (by simp[e3]) rfl) (xm w sx sy h);simp only[Sy];unfold eG;have gn:ax 0 (.dat (.tuple ys)) (List.replicate 1 none++ρ) h=.ok (some (.dat (.tuple ys))::ρ) h:=rfl;rw[if_pos hi,gn];simp only[R.fm,R.bo,dh,Tr,c,ih];rfl
theorem yM(w:Wb 25 ns ss)(h0:Hm):∀(xs fs:Vw) (y2:Option D),(∀d∈xs,tE ns d)->(∀d∈fs,tE ns d)->xs.length+fs.length<64 ->
  ∃(fs':Vw) (z2:Option D),dS (ax 2) MK (xs.map D.dat) [some (.dat #[13]),some (.ref h0.length),y2] (h0++[.lst (fs.map D.dat)])=.ok (.nx [some (.dat #[13]),some (.ref h0.length),z2]) (h0++[.lst (fs'.map D.dat)])/\(∀d∈fs',tE ns d)/\fs'.length<64
 | [],fs,y2,_,hf,hl=>⟨fs,y2,rfl,hf,by simpa using hl⟩
 |x::xs,fs,y2,hx,hf,hl=>by
  simp only[SG]at hl;obtain⟨lx,rfl,sx⟩:=hx x (.head _);have gi:(h0++[MO.lst (fs.map D.dat)])[h0.length]?=some (.lst (fs.map D.dat)):=by simp
  have cl:=Ap (x:=.none) (ρ:=[some (.dat #[13]),some (.ref h0.length),some (.dat (.tuple lx))]) w sx rfl (fs.map D.dat) gi hf
  have ec:uI 1 (ae 1) (ax 0) dh (ag cU (aa (ae 3) #[18])) [some (.dat #[13]),some (.ref h0.length),some (.dat (.tuple lx))] (h0++[.lst (fs.map D.dat)])=.ok (.dat (.list (fs.map λd=>.bool (lx.all (fU (cO d)))))) (h0++[.lst (fs.map D.dat)]):=by
   have e2:(fs.map λd=>D.bool (lx.all (fU (cO d))))=(fs.map λd=>PyData.bool (lx.all (fU (cO d)))).map D.dat:=by simp
   rw[e2]at cl;have m:=eI (fs.map λd=>PyData.bool (lx.all (fU (cO d)))) (h0++[.lst (fs.map D.dat)]) (by simp;omega);unfold uI;simp only[ae,T9,Ua,R.bo,gi,show iY (fs.map D.dat).length=true from sz (by simp;omega),Tr];rw[cl];exact m
  have t:=nc (iA ((cH (f:=sO) (aF (a:=ai) ec rfl)).trans (GN fs (λd=>lx.all (fU (cO d))) (h0++[.lst (fs.map D.dat)]))));have hx2:=λd m=>hx d (Sb _ m)
  cases q:(!JC fs λd=>lx.all (fU (cO d)))with
  |false=>rw[q]at t;obtain⟨fs',z2,e,r⟩:=yM w h0 xs fs (some (.dat (.tuple lx))) hx2 hf #[3];refine⟨fs',z2,?_,r⟩;simp only[Sy,dS,ax,R.fm,R.bo,Tp,Tq];have st:MK [some (.dat #[13]),some (.ref h0.length),some (.dat (.tuple lx))] (h0++[.lst (fs.map D.dat)])=.ok (.nx [some (.dat #[13]),some (.ref h0.length),some (.dat (.tuple lx))]) (h0++[.lst (fs.map D.dat)]):=vD t rfl;rw[st];exact e
  |true=>
   rw[q]at t
   obtain⟨fs',z2,e,r⟩:=yM w h0 xs (fs++[.tuple lx]) (some (.dat (.tuple lx))) hx2 (λd m=>by
    rcases Sw.mp m with m|m
    ·exact hf d m
    ·rw[SF.mp m];exact⟨lx,rfl,sx⟩) (by simp;omega)
   refine⟨fs',z2,?_,r⟩;simp only[Sy,dS,ax,R.fm,R.bo,Tp,Tq];have ap:gv (pW dU (ae 1) (ae 2)) [some (.dat #[13]),some (.ref h0.length),some (.dat (.tuple lx))] (h0++[.lst (fs.map D.dat)])=.ok (.nx [some (.dat #[13]),some (.ref h0.length),some (.dat (.tuple lx))]) (h0++[.lst ((fs++[PyData.tuple lx]).map D.dat)]):=by unfold gv pW;simp only[ae,T9,Ua,R.bo,M5,gi,Tr];simp[dU,gi,show fs.length<16777216 by omega]
   have st:MK [some (.dat #[13]),some (.ref h0.length),some (.dat (.tuple lx))] (h0++[.lst (fs.map D.dat)])=.ok (.nx [some (.dat #[13]),some (.ref h0.length),some (.dat (.tuple lx))]) (h0++[.lst ((fs++[PyData.tuple lx]).map D.dat)]):=vC t ap;rw[st];exact e
theorem G3{f:Fn}{xs:List D}{x:PyData}{t:Hm}(w:Wf h)(e:f xs h=.ok (.dat x) (h++t)):gw f xs h=.ok (.dat x) h:=by
 have e1:(h++t).take h.length=h:=by simp
 have e2:h.all (MO.below h.length)=true:=Sh.mpr λo m=>w o m;simp only[gw,e,e1,e2,D.below,SE,Bool.and_self,Bool.true_and];simp
theorem JN(w:Wb 25 ns ss)(l5:ns.length<=5)(wf:Wf h):∃ds,dk [.dat #[13]] h=.ok (.dat (.list ds)) h/\(∀d∈ds,tE ns d)/\ds.length<64:=by
 obtain⟨S,eS,hS,lS⟩:=sJ w l5 (h++[.lst []]);have pS:=oF S;obtain⟨fs,z2,e,hf,hl⟩:=yM w h (uK S) [] none (λd m=>hS d (pS.mem_iff.mp m)) #[6] (by rw[pS.length_eq];simpa using lS);have so:=An w hf hl;refine⟨fF ltB fs,G3 (t:=[.lst (fs.map D.dat)]) wf ?_,λd m=>hf d ((b8 _ _).mem_iff.mp m),by rw[(b8 _ _).length_eq];exact hl⟩;have gi:(h++[MO.lst (fs.map D.dat)])[h.length]?=some (.lst (fs.map D.dat)):=by simp
 have tS:S.all ft=true:=Sh.mpr λd m=>by obtain⟨xs,rfl,_⟩:=hS d m;rfl
 have s1:cn 1 (qH ai) [some (.dat #[13]),none,none] h=.ok (.nx [some (.dat #[13]),some (.ref h.length),none]) (h++[.lst []]):=rfl;have c2:oG [.dat (.list S)] (h++[.lst []])=.ok (.dat (.list (uK S))) (h++[.lst []]):=by unfold oG;simp only[listOf,tS,Ud lS,Bool.and_self,Tr]
 have i2:aP (ag oG (aa (ag cD #[18]) ai)) [some (.dat #[13]),some (.ref h.length),none] (h++[.lst []])=.ok ((uK S).map D.dat) (h++[.lst []]):=kn (aN (xs:=[.dat (.list S)]) (aF (aN (xs:=[.dat #[13]]) rfl eS) rfl) c2);have s3:bF (ag fG (aa (ae 1) ai)) [some (.dat #[13]),some (.ref h.length),z2] (h++[.lst (fs.map D.dat)])=.ok (.rt (.dat (.list (fF ltB fs)))) (h++[.lst (fs.map D.dat)]):=by refine eA (aN (xs:=[.ref h.length]) rfl ?_);unfold fG;simp only[listOf,gi,qG,so,Tr]
 exact fV rfl (aR s1 (aR (fQ i2 e) s3))
end
noncomputable def nA:Vw:=[.str "a",.str "b",.str "c",.str "d",.str "e",.str "f",.str "g"]
noncomputable def nB:Vw:=[.str "ann",.str "bo",.str "c",.str "dora",.str "elias",.str "f",.str "gwenda"]
theorem ML{X:Vw}(h:X=nA\/X=nB):Rw rB X/\X.length=7:=by
 rcases h with rfl|rfl
 ·exact⟨⟨by decide +kernel,by decide +kernel⟩,rfl⟩
 ·exact⟨⟨by decide +kernel,by decide +kernel⟩,rfl⟩
theorem Rw.yN{U:PyData->Prop}{xs ys:Vw}(r:Rw U ys)(s:xs.Sublist ys):Rw U xs:=⟨λd m=>r.sub d (s.subset m),r.ris.sublist s⟩
noncomputable abbrev jA(kvs:Vu):Hm:=[.fS true kvs,.lst [.dat (.list nA),.dat (.list nB)]]
theorem RZ{i:Nat}{h:Hm}{kvs:Vu}(b:Bx i h):Bx i (h++jA kvs):=by have:=(b.push (o:=.fS true kvs) rfl).push (o:=.lst [.dat (.list nA),.dat (.list nB)]) rfl;simpa using this
theorem Bs.QT{i:Nat}{h h' t:Hm}(b:i<h.length)(s:Bs i (h++t) h'):∃h1,h'=h1++t/\Bs i h h1:=by obtain⟨n,rfl⟩:=s;exact⟨_,List.set_append_left _ _ b,n,rfl⟩
theorem CV{i:Nat}{h:Hm}{kvs:Vu}{c:Int}(b:Bx i h)(h0:0<c)(h1:c<1000):∃(k:Nat) (h1:Hm),aK [.ref i,.int c] (h++jA kvs)=.ok (.int k) (h1++jA kvs)/\Bs i h h1/\(k:Int)<c:=by obtain⟨_,h2,e,s,k,rfl,hk⟩:=ki (RZ (kvs:=kvs) b) h0 #[3];obtain⟨h3,rfl,s3⟩:=s.QT b.lt;exact⟨k,h3,e,s3,hk⟩
theorem qm{X:Vw}{k c:Nat}(h:k<c)(hc:c<=X.length):∃z,kL X (k:Int)=some z/\z∈X.take c:=
 ⟨X[k],gc (R9 #[3]),List.mem_take_iff_getElem.mpr ⟨k,by omega,rfl⟩⟩
structure Kv(ns:Vw)(kvs:Vu):Prop where
 nd:(dM kvs).Nodup
 mem:∀q∈dM kvs,∃a b,a∈ns/\b∈ns/\q=.tuple [a,b]
theorem Kv.pp{ns:Vw}{kvs:Vu}(k:Kv ns kvs)(r:Rw rB ns):∀q∈dM kvs,PB q:=λq m=>by obtain⟨a,b,ha,hb,rfl⟩:=k.mem q m;exact⟨a,b,r.sub a ha,r.sub b hb,rfl⟩
theorem Kv.len{ns:Vw}{kvs:Vu}(k:Kv ns kvs)(l:ns.length<=5):kvs.length<=25:=by
 have h1:=xf (ys:=ns.flatMap λa=>ns.map λb=>PyData.tuple [a,b]) k.nd λq m=>by obtain⟨a,b,ha,hb,rfl⟩:=k.mem q m;exact List.mem_flatMap.mpr ⟨a,ha,SA.mpr ⟨b,hb,rfl⟩⟩
 simp only[dM,Ss,List.length_flatMap]at h1;rw[List.map_const',List.sum_replicate_nat]at h1;exact Sd h1 (Nat.mul_le_mul l l)
theorem yO{ns:Vw}{kvs:Vu}{he:Hm}{a b:PyData}(k:Kv ns kvs)(r:Rw rB ns)(l:ns.length<=5)(ha:a∈ns)(hb:b∈ns) :
  ∃kvs',oj (.ref he.length) (.dat (.tuple [a,b])) (.bool true) (he++jA kvs)=.ok () (he++jA kvs')/\Kv ns kvs':=by
 have pt:=hU ⟨a,b,r.sub a ha,r.sub b hb,rfl⟩;have gt:(he++jA kvs)[he.length]?=some (.fS true kvs):=by simp
 have st:(he++jA kvs).set he.length (.fS true (dput kvs (.tuple [a,b]) (.bool true)))=he++jA (dput kvs (.tuple [a,b]) (.bool true)):=by simp
 have kk:keyOk true (.tuple [a,b])=true:=by have:=pt.2.2.2.2.1;simp[keyOk,og,pt.1];omega
 have kl:=k.len l;refine⟨dput kvs (.tuple [a,b]) (.bool true),by simp[oj,gt,FA,kk,kW,show kvs.length<16777216 by omega,st],Bt pt.2.1 (λq m=>(hU (k.pp r q m)).2.1) k.nd,λq m=>?_⟩;rcases Ak m with m|rfl
 ·exact k.mem q m
 ·exact⟨a,b,ha,hb,rfl⟩
noncomputable abbrev OK:MS:=(aY (xO [7,8] (aa (ak eK (ae 5) (ag aK (aa (ae 0) (aa (ae 2) ai)))) (aa (ak eK (ae 5) (ag aK (aa (ae 0) (aa (ae 2) ai)))) ai)))
  (iI (pb (aM (ak t7 (ae 7) (ae 8))) (aM (ak oEq (ag aK (aa (ae 0) (aa (aj (.int 3)) ai))) (aj (.int 0))))) (aY (ng (nS (ae 4) (gG (aa (ae 7) (aa (ae 8) ai)))) (aj (.bool true)))
  (ng (nS (ae 4) (LA (aM (ak oEq (ae 3) (aj (.int 4)))) (gG (aa (ae 8) (aa (ae 7) ai))) (gG (aa (ae 7) (aa (ae 8) ai))))) (aj (.bool true)))) bO))
noncomputable abbrev OL:MS:=(ng (nS (ae 4) (gG (aa (ak eK (ae 5) (ae 9)) (aa (ak eK (ae 5) (ak oMod (ak dG (ae 9) (aj (.int 1))) (ae 2))) ai)))) (aj (.bool true)))
noncomputable abbrev wρ(i c w p:Nat)(X:Vw)(y6 y7 y8 y9:Option D):Fm:=[some (.ref i),some (.int 5),some (.int c),some (.int w),some (.ref p),some (.dat (.list X)),y6,y7,y8,y9]
theorem G4{a b:PyData}(ha:rB a)(hb:rB b)(h:Hm):∃z,t7 (.dat a) (.dat b) h=.ok (.bool z) h:=by obtain⟨x,rfl⟩:=cz (cE ha);obtain⟨y,rfl⟩:=cz (cE hb);exact⟨!PyData.eqv (.str x) (.str y),by simp[t7,eqQ,noDict,PyData.hasDict,PyData.depth]⟩
theorem G5{X:Vw}{k:Int}{z:PyData}(e:kL X k=some z)(h:Hm):eK (.dat (.list X)) (.dat (.int k)) h=.ok (.dat z) h:=by simp[JF,e]
theorem G6{t:MT}{a b:ME}{c:Bool}{ρ:Fm}{h h1:Hm}{r:R D}(e:t ρ h=.ok c h1)(k:(if c then a else b) ρ h1=r):LA t a b ρ h=r:=by unfold LA;rw[e];cases c<;>exact k
theorem qo{eo ei:ME}{ρ:Fm}{h h1:Hm}{o k v:D}(e1:eo ρ h=.ok o h)(e2:ei ρ h=.ok k h)(e3:oj o k v h=.ok () h1):nS eo ei v ρ h=.ok ρ h1:=by simp[nS,e1,e2,e3]
theorem JO{i c w:Nat}{he:Hm}{X ns:Vw}{kvs:Vu}{y6 y7 y8 y9:Option D}(hX:X=nA\/X=nB)(hc:c<=5)(c0:0<c)(hns:ns=X.take c)(b:Bx i he)(k:Kv ns kvs) :
  ∃he' kvs' z7 z8,OK (wρ i c w he.length X y6 y7 y8 y9) (he++jA kvs)=.ok (.nx (wρ i c w he.length X y6 z7 z8 y9)) (he'++jA kvs')/\Bs i he he'/\Kv ns kvs':=by
 obtain⟨rX,lX⟩:=ML hX;have rN:Rw rB ns:=hns▸rX.yN (Ul _ _);have lN:ns.length<=5:=by rw[hns,Ub];omega
 obtain⟨u,h1,e1,s1,hu⟩:=CV b (kvs:=kvs) (c:=c) #[3] #[3];obtain⟨p,ep,mp⟩:=qm (X:=X) (k:=u) (c:=c) #[3] #[3];have b1:=s1.bx b;obtain⟨v,h2,e2,s2,hv⟩:=CV b1 (kvs:=kvs) (c:=c) #[3] #[3];obtain⟨q,eq,mq⟩:=qm (X:=X) (k:=v) (c:=c) #[3] #[3];have b2:=s2.bx b1;rw[<- hns]at mp mq;obtain⟨w0,h3,e3,s3,_⟩:=CV b2 (kvs:=kvs) (c:=3) #[4] #[4];have b3:=s3.bx b2;have fst:xO [7,8] (aa (ak eK (ae 5) (ag aK (aa (ae 0) (aa (ae 2) ai)))) (aa (ak eK (ae 5) (ag aK (aa (ae 0) (aa (ae 2) ai)))) ai)) (wρ i c w he.length X y6 y7 y8 y9) (he++jA kvs)=.ok (.nx (wρ i c w he.length X y6 (some (.dat p)) (some (.dat q)) y9)) (h2++jA kvs):=by simp[e1,e2,ep,eq]
 obtain⟨z,ne⟩:=G4 (rN.sub p mp) (rN.sub q mq) (h2++jA kvs)
 have puts:∀hh,Bx i hh->hh.length=he.length->∃kvs',(aY (ng (nS (ae 4) (gG (aa (ae 7) (aa (ae 8) ai)))) (aj (.bool true))) (ng (nS (ae 4) (LA (aM (ak oEq (ae 3) (aj (.int 4)))) (gG (aa (ae 8) (aa (ae 7) ai))) (gG (aa (ae 7) (aa (ae 8) ai))))) (aj (.bool true)))) (wρ i c w he.length X y6 (some (.dat p)) (some (.dat q)) y9) (hh++jA kvs)=.ok (.nx (wρ i c w he.length X y6 (some (.dat p)) (some (.dat q)) y9)) (hh++jA kvs')/\Kv ns kvs':=by
  intro hh bh lh;obtain⟨k1,q1,K1⟩:=yO (he:=hh) k rN lN mp mq;rw[lh]at q1;have w4:oEq (.int (w:Int)) (.int 4) (hh++jA k1)=.ok (.bool ((w:Int)==4)) (hh++jA k1):=kg _ _ _;by_cases q4:(w:Int)=4
  ·obtain⟨k2,q2,K2⟩:=yO (he:=hh) K1 rN lN mq mp;rw[lh]at q2;refine⟨k2,aR (o6 rfl (qo rfl (tD rfl rfl) q1)) (o6 rfl (qo rfl (G6 (dz (aS rfl rfl w4)) ?_) q2)),K2⟩;simp[q4]
  ·obtain⟨k2,q2,K2⟩:=yO (he:=hh) K1 rN lN mp mq;rw[lh]at q2;refine⟨k2,aR (o6 rfl (qo rfl (tD rfl rfl) q1)) (o6 rfl (qo rfl (G6 (dz (aS rfl rfl w4)) ?_) q2)),K2⟩;simp[q4]
 cases z with
 |true=>obtain⟨kvs',ek,K⟩:=puts h2 b2 (by rw[s2.len,s1.len]);exact⟨h2,kvs',_,_,aR fst (vC (Bv (dz (aS rfl rfl ne))) ek),s1.trans s2,K⟩
 |false=>
  have t3:aM (ak oEq (ag aK (aa (ae 0) (aa (aj (.int 3)) ai))) (aj (.int 0))) (wρ i c w he.length X y6 (some (.dat p)) (some (.dat q)) y9) (h2++jA kvs)=.ok ((w0:Int)==0) (h3++jA kvs):=dz (aS (aN rfl e3) rfl (kg _ _ _))
  cases hz:((w0:Int)==0)with
  |true=>rw[hz]at t3;obtain⟨kvs',ek,K⟩:=puts h3 b3 (by rw[s3.len,s2.len,s1.len]);exact⟨h3,kvs',_,_,aR fst (vC (ko (dz (aS rfl rfl ne)) t3) ek),(s1.trans s2).trans s3,K⟩
  |false=>rw[hz]at t3;exact⟨h3,kvs,_,_,aR fst (vD (ko (dz (aS rfl rfl ne)) t3) rfl),(s1.trans s2).trans s3,k⟩
theorem JP{i c w j:Nat}{he:Hm}{X ns:Vw}{kvs:Vu}{y6 y7 y8:Option D}(hX:X=nA\/X=nB)(hc:c<=5)(hj:j<c)(hns:ns=X.take c)(k:Kv ns kvs) :
  ∃kvs',OL (wρ i c w he.length X y6 y7 y8 (some (.int (0+(j:Int))))) (he++jA kvs)=.ok (.nx (wρ i c w he.length X y6 y7 y8 (some (.int (0+(j:Int)))))) (he++jA kvs')/\Kv ns kvs':=by
 obtain⟨rX,lX⟩:=ML hX;have rN:Rw rB ns:=hns▸rX.yN (Ul _ _);have lN:ns.length<=5:=by rw[hns,Ub];omega
 obtain⟨p,ep,mp⟩:=qm (X:=X) (k:=j) (c:=c) #[3] #[3];obtain⟨q,eq,mq⟩:=qm (X:=X) (k:=(j+1) % c) (c:=c) (Nat.mod_lt _ #[3]) #[3];rw[<- hns]at mp mq;obtain⟨k1,q1,K1⟩:=yO (he:=he) k rN lN mp mq;have em:oMod (.int ((j:Int)+1)) (.int c) (he++jA kvs)=.ok (.int (((j+1) % c:Nat):Int)) (he++jA kvs):=by rw[mE _ #[3]];simp
 rw[Int.zero_add];exact⟨k1,o6 rfl (qo rfl (tD (aS rfl rfl (G5 ep _)) (aS rfl (aS (aS rfl rfl rfl) rfl em) (G5 eq _))) q1),K1⟩
noncomputable abbrev OM:ME:=ak eK (iD (aa (aj (.int 0)) (aa (ae 2) (aa (ak fR (aj (.int 2)) (ae 2)) (aa (ak fR (aj (.int 3)) (ae 2)) (aa (ae 2) (aa (ak iJ (ae 2) (aj (.int 2))) (aa (ak iJ (ae 2) (aj (.int 2))) ai)))))))) (ae 3)
noncomputable abbrev ON:ME:=ak DH (ak fR (ae 2) (ag xT (aa (ak Em (ae 3) (aj (.int 4))) ai))) (ag xT (aa (nE (ak oEq (ae 3) (aj (.int 6))) (ak Em (ae 2) (aj (.int 0)))) ai))
theorem MM{i c w p:Nat}{X:Vw}{y6 y7 y8 y9:Option D}(hc:c<=5)(hw:w<7)(h:Hm):∃t:Nat,OM (wρ i c w p X y6 y7 y8 y9) h=.ok (.int t) h/\t<=15/\(0<t->0<c):=by
 have m2:fR (.int 2) (.int c) h=.ok (.int (2*(c:Int))) h:=mF _ (kj #[4] #[4]);have m3:fR (.int 3) (.int c) h=.ok (.int (3*(c:Int))) h:=mF _ (kj #[4] #[4]);have f2:iJ (.int c) (.int 2) h=.ok (.int ((c:Int) / 2)) h:=rn _ #[4] #[4];have el:iD (aa (aj (.int 0)) (aa (ae 2) (aa (ak fR (aj (.int 2)) (ae 2)) (aa (ak fR (aj (.int 3)) (ae 2)) (aa (ae 2) (aa (ak iJ (ae 2) (aj (.int 2))) (aa (ak iJ (ae 2) (aj (.int 2))) ai))))))) (wρ i c w p X y6 y7 y8 y9) h=.ok (.dat (.list [.int 0,.int c,.int (2*(c:Int)),.int (3*(c:Int)),.int c,.int ((c:Int) / 2),.int ((c:Int) / 2)])) h:=by unfold iD;exact(cH (aF rfl (aF rfl (aF (aS rfl rfl m2) (aF (aS rfl rfl m3) (aF rfl (aF (aS rfl rfl f2) (aF (aS rfl rfl f2) rfl)))))))).trans (eI [.int 0,.int c,.int (2*(c:Int)),.int (3*(c:Int)),.int c,.int ((c:Int) / 2),.int ((c:Int) / 2)] h #[6])
 have fin:∀t:Nat,kL [PyData.int 0,.int c,.int (2*(c:Int)),.int (3*(c:Int)),.int c,.int ((c:Int) / 2),.int ((c:Int) / 2)] (w:Int)=some (.int (t:Int))->OM (wρ i c w p X y6 y7 y8 y9) h=.ok (.int t) h:=λt e=>aS el rfl (G5 e h);have hw':w=0\/w=1\/w=2\/w=3\/w=4\/w=5\/w=6:=by omega
 rcases hw' with rfl|rfl|rfl|rfl|rfl|rfl|rfl
 ·exact⟨0,fin _ rfl,by omega,by omega⟩
 ·exact⟨c,fin _ rfl,by omega,by omega⟩
 ·exact⟨2*c,fin _ rfl,by omega,by omega⟩
 ·exact⟨3*c,fin _ rfl,by omega,by omega⟩
 ·exact⟨c,fin _ rfl,by omega,by omega⟩
 ·exact⟨c / 2,fin _ rfl,by omega,by omega⟩
 ·exact⟨c / 2,fin _ rfl,by omega,by omega⟩
theorem OO(b:Bool)(h:Hm):xT [.bool b] h=.ok (.int (if b then 1 else 0)) h:=by cases b<;>rfl
theorem JQ{i c w p:Nat}{X:Vw}{y6 y7 y8 y9:Option D}(hc:c<=5)(h:Hm):∃t:Nat,ON (wρ i c w p X y6 y7 y8 y9) h=.ok (.int t) h/\t<=c:=by
 have e1:ag xT (aa (ak Em (ae 3) (aj (.int 4))) ai) (wρ i c w p X y6 y7 y8 y9) h=.ok (.int (if decide ((4:Int)<w)then 1 else 0)) h:=aN (aF (aS rfl rfl rfl) rfl) (OO _ _);have e6:oEq (.int (w:Int)) (.int 6) h=.ok (.bool ((w:Int)==6)) h:=kg _ _ _;have m:∀z:Bool,fR (.int c) (.int (if z then 1 else 0)) h=.ok (.int ((c:Int)*(if z then 1 else 0))) h:=λz=>mF _ (by cases z<;>exact yE #[4] #[4])
 have e2:ag xT (aa (nE (ak oEq (ae 3) (aj (.int 6))) (ak Em (ae 2) (aj (.int 0)))) ai) (wρ i c w p X y6 y7 y8 y9) h=.ok (.int (if((w:Int)==6)&&decide ((0:Int)<c)then 1 else 0)) h:=by
  refine aN (aF (x:=.bool (((w:Int)==6)&&decide ((0:Int)<c))) ?_ rfl) (OO _ _);by_cases q6:(w:Int)=6
  ·have e66:oEq (D.int 6) (D.dat (.int 6)) h=.ok (.bool true) h:=kg 6 6 h;simp[q6,e66]
  ·simp[e6,q6]
 refine⟨c*(if decide ((4:Int)<w)then 1 else 0)-(if((w:Int)==6)&&decide ((0:Int)<c)then 1 else 0),aS (aS rfl e1 (m _)) e2 ?_,?_⟩
 ·simp only[Mx,R.ok.injEq,and_true];by_cases q1:(4:Int)<w
  ·by_cases q2:(w:Int)=6
   ·by_cases q3:0<c
    ·simp[q1,q2,q3];omega
    ·simp[q1,q2,q3]
   ·simp[q1,q2]
  ·have q2:¬ (w:Int)=6:=by omega
   simp[q1,q2]
 ·by_cases q1:(4:Int)<w
  ·simp[q1]
  ·simp[q1]
theorem MN{i:Nat}{h:Hm}(b:Bx i h):Dr i h (oJ [.ref i,.int 5] h) λd=>∃ns ss,d=.dat (.tuple [.tuple ns,.tuple ss])/\Wb 25 ns ss/\ns.length<=5:=by
 obtain⟨_,ha,ea,sa,c,rfl,hc⟩:=ki b (c:=6) #[4] #[4];have ba:=sa.bx b;obtain⟨_,hb,eb,sb,w,rfl,hw⟩:=ki ba (c:=7) #[4] #[4];have bb:=sb.bx ba;obtain⟨u,hd,ed,sd,hu⟩:=CV bb (kvs:=[]) (c:=2) #[4] #[4];have bd:=sd.bx bb
 obtain⟨X,eX,hX⟩:∃X,kL [D.dat (.list nA),D.dat (.list nB)] (u:Int)=some (.dat (.list X))/\(X=nA\/X=nB):=by
  have:u=0\/u=1:=by omega
  rcases this with rfl|rfl
  ·exact⟨nA,rfl,.inl rfl⟩
  ·exact⟨nB,rfl,.inr rfl⟩
 obtain⟨rX,lX⟩:=ML hX;obtain⟨ns,hns⟩:∃ns,ns=X.take c:=⟨_,rfl⟩;have rN:Rw rB ns:=hns▸rX.yN (Ul _ _);have lN:ns.length<=5:=by rw[hns,Ub];omega
 have ld:hd.length=hb.length:=sd.len;obtain⟨t1,k1,l1,p1⟩:=MM (i:=i) (p:=hb.length) (X:=X) (y6:=none) (y7:=none) (y8:=none) (y9:=none) (show c<=5 by omega) (show w<7 by omega) (hd++jA [])
 obtain⟨ρ',h',eL,he,kvs,rfl,sh,K,y6,y7,y8,rfl⟩:=hV (g:=ax 6) (b:=OK)
  (λj ρ hh=>∃he kvs,hh=he++jA kvs/\Bs i hd he/\Kv ns kvs/\∃y6 y7 y8,ρ=wρ i c w hb.length X y6 y7 y8 none)
  (nums 0 t1) 0 (wρ i c w hb.length X none none none none) (hd++jA []) (by
   rintro j x hx ρ hh ⟨he,kvs,rfl,s1,K,y6,y7,y8,rfl⟩;have hj:j<t1:=by simpa [nums]using(R6.mp hx).1
   have le:he.length=hb.length:=by rw[s1.len,ld]
   obtain⟨he',kvs',z7,z8,e,s2,K2⟩:=JO (y6:=some x) (y7:=y7) (y8:=y8) (y9:=none) hX (show c<=5 by omega) (p1 #[3]) hns (s1.bx bd) K (w:=w);rw[le]at e
   exact⟨_,_,_,_,rfl,.inl e,he',kvs',rfl,s1.trans s2,K2,_,_,_,rfl⟩) ⟨hd,[],rfl,bd.refl,⟨by simp[dM],by simp[dM]⟩,none,none,none,rfl⟩
 have bh:=sh.bx bd;have lh:he.length=hb.length:=by rw[sh.len,ld]
 obtain⟨t2,k2,l2⟩:=JQ (i:=i) (w:=w) (p:=hb.length) (X:=X) (y6:=y6) (y7:=y7) (y8:=y8) (y9:=none) (show c<=5 by omega) (he++jA kvs)
 obtain⟨ρ',h',eM,kvs2,rfl,K2,y9,rfl⟩:=hV (g:=ax 9) (b:=OL)
  (λj ρ hh=>∃kvs,hh=he++jA kvs/\Kv ns kvs/\∃y9,ρ=wρ i c w hb.length X y6 y7 y8 y9)
  (nums 0 t2) 0 (wρ i c w hb.length X y6 y7 y8 none) (he++jA kvs) (by
   rintro j x hx ρ hh ⟨kvs,rfl,K,y9,rfl⟩;simp only[nums,SD,SI]at hx;obtain⟨k,hk,rfl⟩:=hx;have hk2:=(R6.mp hk).1;have hk3:=(R6.mp hk).2;simp at hk2 hk3;obtain⟨kvs',e,K2⟩:=JP (i:=i) (he:=he) (w:=w) (y6:=y6) (y7:=y7) (y8:=y8) hX (show c<=5 by omega) (show k<c by omega) hns K;rw[lh]at e
   exact⟨_,_,_,_,rfl,.inl e,kvs',rfl,K2,_,rfl⟩) ⟨kvs,rfl,K,none,rfl⟩
 have pp:=K2.pp rN;have so:lg (dM kvs2)=true:=Kp.RY pp (by have:=K2.len lN;simp[dM];omega);have gt:(he++jA kvs2)[hb.length]?=some (.fS true kvs2):=by rw[<- lh];simp
 have res:=Am (f:=oI) (xs:=[.ref i,.int 5]) (h:=h) (h1:=he) (t:=jA kvs2) (x:=.tuple [.tuple ns,.tuple (fF ltB (dM kvs2))]) b (by
  unfold oI;have z1:xO [2,3,4] (aa (ag aK (aa (ae 0) (aa (ak dG (ae 1) (aj (.int 1))) ai))) (aa (ag aK (aa (ae 0) (aa (aj (.int 7)) ai))) (aa (Ct true) ai))) [some (D.ref i),some (.int 5),none,none,none,none,none,none,none,none] h=.ok (.nx [some (D.ref i),some (.int 5),some (.int c),some (.int w),some (.ref hb.length),none,none,none,none,none]) (hb++[.fS true []]):=by have ea':aK [.ref i,.int (5+1)] h=.ok (.int c) ha:=ea;simp[ea,eb,Ct]
  have z2:cn 5 (qH (aa (aj (.list [.str "a",.str "b",.str "c",.str "d",.str "e",.str "f",.str "g"])) ai)) [some (D.ref i),some (.int 5),some (.int c),some (.int w),some (.ref hb.length),none,none,none,none,none] (hb++[.fS true []])=.ok (.nx [some (D.ref i),some (.int 5),some (.int c),some (.int w),some (.ref hb.length),some (.ref (hb.length+1)),none,none,none,none]) (hb++[.fS true [],.lst [.dat (.list nA)]]):=by simp[t5,iY,nA]
  have g2:(hb++[MO.fS true [],.lst [.dat (.list nA)]])[hb.length+1]?=some (.lst [.dat (.list nA)]):=by simp
  have z3:gv (pW dU (ae 5) (aj (.list [.str "ann",.str "bo",.str "c",.str "dora",.str "elias",.str "f",.str "gwenda"]))) [some (D.ref i),some (.int 5),some (.int c),some (.int w),some (.ref hb.length),some (.ref (hb.length+1)),none,none,none,none] (hb++[.fS true [],.lst [.dat (.list nA)]])=.ok (.nx [some (D.ref i),some (.int 5),some (.int c),some (.int w),some (.ref hb.length),some (.ref (hb.length+1)),none,none,none,none]) (hb++jA []):=by unfold gv pW;simp only[ae,T9,Ua,R.bo,M5,g2,Tr,Mw];simp[dU,g2,nB]
  have g3:(hd++jA [])[hb.length+1]?=some (.lst [.dat (.list nA),.dat (.list nB)]):=by rw[<- ld];simp
  have z4:cn 5 (ak eK (ae 5) (ag aK (aa (ae 0) (aa (aj (.int 2)) ai)))) [some (D.ref i),some (.int 5),some (.int c),some (.int w),some (.ref hb.length),some (.ref (hb.length+1)),none,none,none,none] (hb++jA [])=.ok (.nx (wρ i c w hb.length X none none none none)) (hd++jA []):=by refine et (x:=.dat (.list X)) (aS rfl (aN rfl ed) ?_);simp only[eK,fE,g3,DJ,eX]
  have z7:bF (gG (aa (ag oh (aa (DK (ae 5) kC (ik (ae 2))) ai)) (aa (ag oh (aa (ag fG (aa (ag pH (aa (ae 4) ai)) ai)) ai)) ai))) (wρ i c w hb.length X y6 y7 y8 y9) (he++jA kvs2)=.ok (.rt (.dat (.tuple [.tuple ns,.tuple (fF ltB (dM kvs2))]))) (he++jA kvs2):=by
   have em:(List.map (λ(x:PyData×PyData)=>x.1) kvs2)=dM kvs2:=rfl;have ct:=GL X c;rw[<- hns]at ct;refine eA (tD (h1:=he++jA kvs2) (aN (h1:=he++jA kvs2) (xs:=[.dat (.list ns)]) ?_ rfl) (aN (h1:=he++jA kvs2) (xs:=[.dat (.list (fF ltB (dM kvs2)))]) ?_ rfl))
   ·simp[ct]
   ·simp[pH,fE,gt,em,fG,so,listOf]
  refine fV rfl (aR z1 (aR z2 (aR z3 (aR z4 (aR (fQ (qk (aF k1 rfl) #[3]) eL) (aR (fQ (qk (aF k2 rfl) #[3]) eM) z7))))))) (((sa.trans sb).trans sd).trans sh)
 refine⟨_,he,res,((sa.trans sb).trans sd).trans sh,ns,fF ltB (dM kvs2),rfl,⟨⟨rN,by omega⟩,JJ Kp pp K2.nd,λa b m=>?_,?_⟩,lN⟩
 ·obtain⟨a',b',h1,h2,e⟩:=K2.mem _ ((b8 ltB _).mem_iff.mp m);simp at e;obtain⟨rfl,rfl⟩:=e;exact⟨h1,h2⟩
 ·rw[(b8 ltB _).length_eq];simpa [dM]using K2.len lN
noncomputable abbrev xW:Xc:=⟨"NoWeb",[]⟩
noncomputable abbrev xK:Xc:=⟨"NoKind",[]⟩
noncomputable def o7:VA:=["grounded", "preferred", "stable", "standing", "whole"]
section
variable {ns ss:Vw} {h:Hm}
theorem CW(w:Wb 25 ns ss)(h:Hm):eF [.dat #[13]] h=.ok D.none h:=by simp[eF,jS,MF w #[4] h]
theorem JR(k:Str)(hk:k∈o7)(h:Hm):e9 [.dat (.str k)] h=.ok D.none h:=by simp only[o7,Sf,SY,UX]at hk;rcases hk with rfl|rfl|rfl|rfl|rfl<;>rfl
theorem JS(w:Wb 25 ns ss)(l5:ns.length<=5)(wf:Wf h)(k:Str)(hk:k∈o7):∃ds,eQ [.dat #[13],.dat (.str k)] h=.ok (.dat (.list ds)) h/\∀d∈ds,tE ns d:=by
 have c1:=CW w h;have c2:=JR k hk h
 have run:∀{n:Str} {F:Fn} {ds:Vw},mU.lookup k=some n->([("grounded_lots",cS),("preferred_lots",dk),("stable_lots",eZ),("standing_lots",cD),("whole_lots",fL)]:List (Str×Fn)).lookup n=some F->F [.dat #[13]] h=.ok (.dat (.list ds)) h->eQ [.dat #[13],.dat (.str k)] h=.ok (.dat (.list ds)) h:=by
  intro n F ds e1 e2 e3;unfold eQ yk;refine fV rfl (aR (CP (aN rfl c1)) (aR (CP (aN rfl c2)) (aR (et (x:=.fn n) (h1:=h) ?_) (eA ?_))))
  ·simp[GD,e1]
  ·unfold uL;show(match ([("grounded_lots",cS),("preferred_lots",dk),("stable_lots",eZ),("standing_lots",cD),("whole_lots",fL)]:List (Str×Fn)).lookup n with|some F=>_|none=>_)=_;rw[e2];exact aN rfl e3
 simp only[o7,Sf,SY,UX]at hk;rcases hk with rfl|rfl|rfl|rfl|rfl
 ·obtain⟨ds,e,hd,_⟩:=Ej w l5 h;exact⟨ds,run rfl rfl e,hd⟩
 ·obtain⟨ds,e,hd,_⟩:=JN w l5 wf;exact⟨ds,run rfl rfl e,hd⟩
 ·obtain⟨ds,e,hd,_⟩:=BA w l5 h;exact⟨ds,run rfl rfl e,hd⟩
 ·obtain⟨ds,e,hd,_⟩:=sJ w l5 h;exact⟨ds,run rfl rfl e,hd⟩
 ·obtain⟨ds,e,hd,_⟩:=Ei w l5 h;exact⟨ds,run rfl rfl e,hd⟩
theorem Aq:∀{xs ys:Vw},bu xs fv=true->PyData.eqvAll xs ys=true->ys=xs
 | [],[],_,_=>rfl
 | [],_::_,_,e=>by simp[PyData.eqvAll]at e
 |_::_,[],_,e=>by simp[PyData.eqvAll]at e
 |x::xs,y::ys,hs,e=>by have hs:=f7.mp hs;simp only[PyData.eqvAll,R4]at e;obtain⟨z,rfl⟩:=cz hs.1;rw[Aq hs.2 e.2];cases y<;>simp[PyData.eqv]at e;rw[e.1]
theorem JT(w:Wb 25 ns ss){d:PyData}(l:tE ns d):gY ns d=true:=by obtain⟨xs,rfl,s⟩:=l;have h1:bu xs (fU ns)=true:=bE.mpr λx m=>(kc w.sd).mpr (s.subset m);simp[gY,h1,yI (w.nr.toRw.yN s)]
theorem vH{n m:Nat}{d:PyData}(w:Wb 25 ns ss)(o:CI n m d)(hl:gY ns d=false):∀{ds:Vw},(∀x∈ds,tE ns x)->Ft d ds=some false
 | [],_=>rfl
 |x::ds,H=>by
  have ih:=vH w o hl (ds:=ds) λy q=>H y (Sb _ q);have lx:=JT w (H x (.head _));obtain⟨xs,rfl,s⟩:=H x (.head _);have tx:ay (.tuple xs)=true:=by simp[ay,cL (gb w s)]
  have e:B5 (.tuple xs) d=some false:=by
   rcases o with o|rfl|rfl
   ·have nd:=o.Nc;have ne:PyData.eqv (.tuple xs) d=false:=by refine Tz.mpr λq=>?_;cases d<;>simp[PyData.eqv]at q;rw[Aq (gb w s) q]at hl;rw[lx]at hl;cases hl
    have d1:(PyData.tuple xs).depth<=1:=by simp[PyData.depth,o5 (gb w s)]
    have m:min (PyData.tuple xs).depth d.depth<=40:=by omega
    unfold B5;split
    ·rename_i q;cases q
    ·simp[noDict,PyData.hasDict]at nd
    ·simp[eqQ,nd,noDict,dA tx,m,ne];simpa [noDict]using nd
   ·simp[B5,noDict,dA tx]
   ·simp[B5,noDict,dA tx]
  simp[Ft,e,ih]
theorem MP{n m:Nat}{d:PyData}(w:Wb 25 ns ss)(l5:ns.length<=5)(wf:Wf h)(k:Str)(hk:k∈o7)(o:CI n m d)(hl:gY ns d=false):bD [.dat #[13],.dat (.str k),.dat d] h=.ok (.bool false) h:=by obtain⟨ds,e,hd⟩:=JS w l5 wf k hk;unfold bD lD;refine fV rfl (eA (aS rfl (aN rfl e) ?_));have q:=vH w o hl hd;have dd:wH h (.dat d)=some d:=rfl;simp[t9,findIn,fE,gZ,q]
theorem G7{d:PyData}{x:D}(e:fJ [.dat d] h=.ok (.bool false) h):eQ [.dat d,x] h=.exc xW h:=by
 have c:eF [.dat d] h=.exc xW h:=by unfold eF jS;simp[e,yg,iY]
 unfold eQ yk;simp[c]
theorem G8{d:PyData}(w:Wb 25 ns ss)(e:e9 [.dat d] h=.exc xK h):eQ [.dat #[13],.dat d] h=.exc xK h:=by unfold eQ yk;simp[CW w h,e]
theorem Kr{a b c:D}{x:Xc}(e:eQ [a,b] h=.exc x h):bD [a,b,c] h=.exc x h:=by simp[bD,lD,e]
noncomputable def G9:Vw:=[.none,.str "",.str "Whole",.str "half",.str "peaceful",.str "ideal",.tuple [.str "whole"],.list [.str "whole"],.int 1,.bool true,.str "whole ",.dict []]
theorem OP:∀d∈G9,∀h:Hm,e9 [.dat d] h=.exc xK h:=by intro d m h;simp only[G9,Sf,SY,UX]at m;rcases m with rfl|rfl|rfl|rfl|rfl|rfl|rfl|rfl|rfl|rfl|rfl|rfl<;>rfl
theorem vI{n m:Nat}{d:PyData}(w:Wb 25 ns ss)(o:Ok n m d)(hn:n<=10000)(h:Hm):cy [.dat #[13],.dat d] h=.ok (.bool (gY ns d)) h:=by
 have hs':=w.sd;have hs:bu ns isName=true:=bE.mpr λd m=>w.nr.sub d m;unfold cy fM
 cases d with
 |tuple ds=>
  have hl:=o.items.len;have k1:=dy (n:=1) (it:=aP (ae 1)) (g:=ax 0) (e:=ag bJ #[18]) (ρ:=[some (.dat #[13]),some (.dat (.tuple ds))]) (h:=h) (h1:=h) (ds:=ds) #[6] #[3] (λx=>.bool (isName x)) (λx hx=>⟨_,rfl,by simp[iz (o.items.mem hx) hn]⟩);have k2:=eJ (n:=1) (it:=aP (ae 1)) (g:=ax 0) (t:=aM (ak gx (ae 0) #[17])) (e:=ae 0) (ρ:=[some (.dat #[13]),some (.dat (.tuple ds))]) (h:=h) (h1:=h) (ds:=ds) #[6] #[3] (λx=>!fU ns x) id (λx hx=>⟨_,rfl,by simp[yC (o.items.mem hx) hs'],by simp⟩);have ok:=fz.sub (es:=(ds.filter (λx=>!fU ns x)).map id) (λd hd=>o.items.mem hd) (by simp;exact λe a _=>a);have e1:=all_filter ds (fU ns) id;simp only[Vn]at k2 ok e1;have nm:bu ds (fU ns)=true->bu ds isName=true:=λq=>bE.mpr λd m=>bE.mp hs _ ((kc hs').mp (bE.mp q d m));by_cases h1:bu ds isName=true
  ·by_cases h2:bu ds (fU ns)=true
   ·have:=qh (vt (vz (f9 h1))) #[3] h;rw[h2]at e1;simp[k1,dJ,h1,k2,tw ok,-Vq,e1,this,gY,h2]
   ·have e2:=Tz.mpr h2;rw[e2]at e1;simp[k1,dJ,h1,k2,tw ok,-Vq,e1,gY,h2]
  ·have h2:¬ bu ds (fU ns)=true:=λq=>h1 (nm q);simp[k1,dJ,h1,gY,h2]
 |_=>simp[gY]
theorem Ar{n m:Nat}{d:PyData}(w:Wb 25 ns ss)(o:CI n m d)(hn:n<=10000)(h:Hm):cy [.dat #[13],.dat d] h=.ok (.bool (gY ns d)) h:=by
 rcases o with o|rfl|rfl
 ·exact vI w o hn h
 ·simp[cy,fM,gY]
 ·simp[cy,fM,gY]
theorem Ks(w:Wb 25 ns ss):Ok 500 3 #[13]:=by have l:=w.le;have o2:Ok 375 2 (.tuple ss):=((fz.of λd m=>(hU (w.sr.sub d m)).2.2.2.2.2).mono #[3] (R5 _)).tup;exact((fz.cons (w.Ke.mono (R5 _) (by decide:1<=2)) (fz.one o2)).tup).mono #[4] #[4]
end
noncomputable def qp:MO:=.tab gL ip
theorem Bs.As{i:Nat}{h h':Hm}(b:Bx i h)(s:Bs i h h')(t:h[0]?=some qp):h'[0]?=some qp:=by
 obtain⟨n,rfl⟩:=s;by_cases hi:i=0
 ·subst hi;obtain⟨⟨m,e⟩,_⟩:=b;rw[t]at e;cases e
 ·rw[TR hi];exact t
theorem Ek{i:Nat}{h:Hm}{ns ss:Vw}(b:Bx i h)(w:Wb 25 ns ss):Dr i h (il [.ref i,.dat #[13]] h) λd=>∃ls:Vw,d=.dat (.list ls)/\∀y∈ls,CI 1020 5 y/\gY ns y=false:=by
 have ln:=w.nr.le;obtain⟨_,hb,eb,sb,x,rfl,ox⟩:=yF 5 b w.Ke #[4] #[4];have bb:=sb.bx b;obtain⟨_,hc,ec,sc,y,rfl,oy⟩:=GP bb
 let L:Vw:=[.none,.list ns,.tuple [.str "q"],.str "a",.tuple (ns++ns),.tuple ns.reverse,WD ns ss,.tuple [.str "a",.str "a"],x]
 have on:fz 84 0 ns:=w.Ke.items
 have allL:∀d∈L++[y],CI 1020 5 d:=by
  intro d hd;simp only[L,Sw,Sf,SY,UX]at hd;rcases hd with(rfl|rfl|rfl|rfl|rfl|rfl|rfl|rfl|rfl)|rfl
  ·exact .inl (mG #[8])
  ·exact .inl (on.lst.mono #[4] #[4])
  ·exact .inl (mG #[8])
  ·exact .inl (mG #[8])
  ·exact .inl ((on.append on).tup.mono #[4] #[4])
  ·exact .inl ((fz.sub (es:=ns.reverse) (λd m=>w.JK m) (λd m=>Vp.mp m)).tup.mono (by simp;omega) #[4])
  ·exact .inl ((Ks w).mono #[4] #[4])
  ·exact .inl (mG #[8])
  ·exact .inl (ox.mono #[4] #[4])
  ·exact oy.mono #[4] #[4]
 have e1:cn 2 (iD (aa (aj .none) (aa (ag i4 (aa #[17] ai)) (aa (aj (.tuple [.str "q"])) (aa (aj (.str "a")) (aa (ak dG #[17] #[17]) (aa (Mm #[17]) (aa (ae 1) (aa (aj (.tuple [.str "a",.str "a"])) (aa (ag (cx 5) (aa (ae 0) (aa #[17] ai))) ai))))))))))
   [some (D.ref i),some (.dat #[13]),none] h=.ok (.nx [some (D.ref i),some (.dat #[13]),some (.dat (.list L))]) hb:=by
  have k5:ak dG #[17] #[17] [some (D.ref i),some (.dat #[13]),none] h=.ok (.dat (.tuple (ns++ns))) h:=aS rfl rfl (mH h #[3]);have k9:ag (cx 5) (aa (ae 0) (aa #[17] ai)) [some (D.ref i),some (.dat #[13]),none] h=.ok (.dat x) hb:=aN (xs:=[.ref i,.dat (.tuple ns)]) rfl eb;refine et ?_;unfold iD;exact(cH (aF rfl (aF rfl (aF rfl (aF rfl (aF k5 (aF rfl (aF rfl (aF rfl (aF k9 rfl)))))))))).trans (eI L hb (by simp[L]))
 have e2:aP (ak dG (ae 2) (iD (aa (ag ej #[18]) ai))) [some (D.ref i),some (.dat #[13]),some (.dat (.list L))] hb=.ok ((L++[y]).map D.dat) hc:=
  kn (aS rfl (by unfold iD;exact(cH (aF (aN (xs:=[.ref i]) rfl ec) rfl)).trans (Bo _ _)) (qj hc (by simp[L])))
 have key:=eJ (n:=1) (g:=ax 0) (t:=cY (aU (ag cy (aa (ae 2) #[18])))) (e:=ae 0) e2 (by simp[L]) (λd=>!gY ns d) id (λd m=>⟨_,rfl,nc (iA (aN rfl (Ar w (allL d m) #[4] hc))),λ_=>rfl⟩);rw[Vn]at key;refine⟨_,hc,fV rfl (aR e1 (eA key)),sb.trans sc,_,rfl,λz hz=>?_⟩;obtain⟨m,q⟩:=TV.mp hz;exact⟨allL z m,by simpa using q⟩
noncomputable abbrev ww(s:Str):PyData:=.tuple [.str s]
theorem CY{x:Xc}{s:Str}{idx:List Nat}{b:ME}{ρ:Fm}{h:Hm}(hx:(x=xW/\s = "web")\/(x=xK/\s = "kind"))(t:h[0]?=some qp)(hs:(pick ρ idx).all Option.isSome=true)(e:b (pick ρ idx) h=.exc x h):gX [0,3] 0 gL ip idx b ρ h=.ok (.dat (ww s)) h:=by unfold gX;rw[t];simp[qp,hs];rw[e];rcases hx with⟨rfl,rfl⟩|⟨rfl,rfl⟩<;>rfl
theorem QU{s:Str}{ρ:Fm}(h:Hm):ak fR (aj (.list [ww s])) (aj (.int 2)) ρ h=.ok (.dat (.list [ww s,ww s])) h:=by rfl
noncomputable abbrev QV(S1 S2:ME)(s:Str):MS:=(aY (cn 5 (qH (aa S1 ai))) (aY (gv (pW dU (ae 5) S2)) (iI (aM (ak t7 (ae 5) (ak fR (aj (.list [ww s])) (aj (.int 2))))) #[19] bO)))
theorem Ha{S1 S2:ME}{s:Str}{a0 a1 a2 a3 a4 a5:Option D}{h:Hm}(hs:s = "web" \/ s = "kind")(e1:S1 [a0,a1,a2,a3,a4,a5] h=.ok (.dat (ww s)) h)(e2:S2 [a0,a1,a2,a3,a4,some (.ref h.length)] (h++[.lst [.dat (ww s)]])=.ok (.dat (ww s)) (h++[.lst [.dat (ww s)]])) :
  QV S1 S2 s [a0,a1,a2,a3,a4,a5] h=.ok (.nx [a0,a1,a2,a3,a4,some (.ref h.length)]) (h++[.lst [.dat (ww s),.dat (ww s)]]):=by
 have s1:cn 5 (qH (aa S1 ai)) [a0,a1,a2,a3,a4,a5] h=.ok (.nx [a0,a1,a2,a3,a4,some (.ref h.length)]) (h++[.lst [.dat (ww s)]]):=by refine CO (x:=.ref h.length) ?_;unfold qH;exact(cH (aF e1 rfl)).trans rfl
 have g1:(h++[MO.lst [.dat (ww s)]])[h.length]?=some (.lst [.dat (ww s)]):=by simp
 have s2:gv (pW dU (ae 5) S2) [a0,a1,a2,a3,a4,some (.ref h.length)] (h++[.lst [.dat (ww s)]])=.ok (.nx [a0,a1,a2,a3,a4,some (.ref h.length)]) (h++[.lst [.dat (ww s),.dat (ww s)]]):=by unfold gv pW;simp only[ae,T9,Ua,R.bo,M5,g1,Tr,e2];simp[dU,g1]
 have g2:(h++[MO.lst [.dat (ww s),.dat (ww s)]])[h.length]?=some (.lst [.dat (ww s),.dat (ww s)]):=by simp
 have ne:t7 (.ref h.length) (.dat (.list [ww s,ww s])) (h++[.lst [.dat (ww s),.dat (ww s)]])=.ok (.bool false) (h++[.lst [.dat (ww s),.dat (ww s)]]):=by
  have q:eqQ (.list [ww s,ww s]) (.list [ww s,ww s])=some true:=by rcases hs with rfl|rfl<;>rfl
  have dd:wH (h++[.lst [.dat (ww s),.dat (ww s)]]) (.ref h.length)=some (.list [ww s,ww s]):=by simp[wH,xQ,jE,g2]
  have d2:wH (h++[.lst [.dat (ww s),.dat (ww s)]]) (.dat (.list [ww s,ww s]))=some (.list [ww s,ww s]):=by simp[wH]
  simp[t7,dd,d2,q]
 exact aR s1 (aR s2 (vD (dz (aS rfl (QU _) ne)) rfl))
theorem Hb{b:MS}{a0 a1 a2:Option D}{h0:Hm}:∀{ds:Vw} {t:Hm} {a3 a4 a5:Option D},(∀d∈ds,∀(t:Hm) (a4 a5:Option D),∃(t':Hm) (b4 b5:Option D),b [a0,a1,a2,some (.dat d),a4,a5] (h0++t)=.ok (.nx [a0,a1,a2,some (.dat d),b4,b5]) (h0++t')) ->
  ∃(t':Hm) (b3 b4 b5:Option D),dS (ax 3) b (ds.map D.dat) [a0,a1,a2,a3,a4,a5] (h0++t)=.ok (.nx [a0,a1,a2,b3,b4,b5]) (h0++t')
 | [],t,a3,a4,a5,_=>⟨t,a3,a4,a5,rfl⟩
 |d::ds,t,a3,a4,a5,H=>by obtain⟨t1,b4,b5,e⟩:=H d (.head _) t a4 a5;obtain⟨t2,c3,c4,c5,e2⟩:=Hb (ds:=ds) (t:=t1) (a3:=some (.dat d)) (a4:=b4) (a5:=b5) λx m=>H x (Sb _ m);refine⟨t2,c3,c4,c5,?_⟩;simp only[Sy,dS,ax,R.fm,R.bo,Tp,Tq];rw[e];simp only[R.fm,R.bo];exact e2
theorem Hc{n m:Nat}{d:PyData}(o:CI n m d)(hn:n<=10000)(hm:m<=40):∃b,∀h,fJ [.dat d] h=.ok (.bool b) h/\cW [.dat d] h=.ok (.bool b) h:=by
 rcases o with o|rfl|rfl
 ·exact⟨_,λh=>⟨Eg o hn hm h,wb o hn hm h⟩⟩
 ·exact⟨_,λh=>⟨sI _ h,kJ _ h⟩⟩
 ·exact⟨_,λh=>⟨sI _ h,kJ _ h⟩⟩
theorem MQ(a b c d e f g k:PyData)(h:Hm):ij [.dat a,.dat b,.dat c,.dat d,.dat e,.dat f,.dat g,.dat k] h=.ok (.dat (.list [a,b,c,d,e,f,g,k])) h:=eI [a,b,c,d,e,f,g,k] h #[6]
noncomputable abbrev Rv:MS:=(jI (aP (aj (.list [.str "grounded",.str "preferred",.str "stable",.str "standing",.str "whole"]))) (ax 4) (iI (aM (ak oC (ag bD (aa (ae 1) (aa (ae 4) (aa (ae 3) ai)))) (aj (.bool false)))) #[19] bO))
noncomputable abbrev Rx:MS:=(iI (cY (aU (ag cW (aa (ae 3) ai)))) (QV (gX [0,3] 0 gL ip [3] (ag bD (aa (ae 0) (aa (aj .none) (aa (aj (.tuple [])) ai))))) (gX [0,3] 0 gL ip [3] (ag eQ (aa (ae 0) (aa (aj (.str "whole")) ai)))) "web") bO)
noncomputable abbrev Ry:MS:=(QV (gX [0,3] 0 gL ip [1,3] (ag bD (aa (ae 0) (aa (ae 1) (aa (aj .none) ai))))) (gX [0,3] 0 gL ip [1,3] (ag eQ (aa (ae 0) (aa (ae 1) ai)))) "kind")
theorem MR{n m:Nat}{d:PyData}{ns ss:Vw}{h:Hm}{a0 a2 a4 a5:Option D}(w:Wb 25 ns ss)(l5:ns.length<=5)(wf:Wf h)(o:CI n m d)(hl:gY ns d=false) :
  ∃b4,Rv [a0,some (.dat #[13]),a2,some (.dat d),a4,a5] h=.ok (.nx [a0,some (.dat #[13]),a2,some (.dat d),b4,a5]) h:=by
 have go:∀{ks:VA},(∀k∈ks,k∈o7)->∀a4,∃b4,dS (ax 4) (iI (aM (ak oC (ag bD (aa (ae 1) (aa (ae 4) (aa (ae 3) ai)))) (aj (.bool false)))) #[19] bO) ((ks.map PyData.str).map D.dat) [a0,some (.dat #[13]),a2,some (.dat d),a4,a5] h=.ok (.nx [a0,some (.dat #[13]),a2,some (.dat d),b4,a5]) h:=by
  intro ks
  induction ks with
  |nil=>exact λ_ a4=>⟨a4,rfl⟩
  |cons k ks ih=>
   intro H a4;obtain⟨b4,e⟩:=ih (λx q=>H x (Sb _ q)) (some (.dat (.str k)));refine⟨b4,?_⟩;have e1:=MP (h:=h) w l5 wf k (H k (.head _)) o hl
   have st:iI (aM (ak oC (ag bD (aa (ae 1) (aa (ae 4) (aa (ae 3) ai)))) (aj (.bool false)))) #[19] bO [a0,some (.dat #[13]),a2,some (.dat d),some (.dat (.str k)),a5] h=.ok (.nx [a0,some (.dat #[13]),a2,some (.dat d),some (.dat (.str k)),a5]) h:=
    vD (h1:=h) (dz (aS (aN (xs:=[.dat #[13],.dat (.str k),.dat d]) rfl e1) rfl (by simp[oC,uy,Qi]))) rfl
   simp only[Sy,dS,ax,R.fm,R.bo,Tp,Tq];rw[st];exact e
 obtain⟨b4,e⟩:=go (ks:=o7) (λ_ q=>q) a4;exact⟨b4,fQ (kn rfl) e⟩
theorem MU{n m:Nat}{d:PyData}{h0:Hm}{a0 a1 a2:Option D}(t0:h0[0]?=some qp)(o:CI n m d)(hn:n<=10000)(hm:m<=40)(t:Hm)(a4 a5:Option D) :
  ∃(t':Hm) (b4 b5:Option D),Rx [a0,a1,a2,some (.dat d),a4,a5] (h0++t)=.ok (.nx [a0,a1,a2,some (.dat d),b4,b5]) (h0++t'):=by
 obtain⟨b,e⟩:=Hc o hn hm;have tt:∀t:Hm,(h0++t)[0]?=some qp:=λt=>by rw[Sl (R6.mp t0).1];exact t0
 have c:=nc (iA (aN (ma:=aa (ae 3) ai) (ρ:=[a0,a1,a2,some (.dat d),a4,a5]) rfl (e (h0++t)).2))
 cases b with
 |true=>exact⟨t,a4,a5,vD c rfl⟩
 |false=>
  have k:=Ha (s := "web") (a0:=a0) (a1:=a1) (a2:=a2) (a3:=some (.dat d)) (a4:=a4) (a5:=a5) (h:=h0++t) (.inl rfl)
   (S1:=gX [0,3] 0 gL ip [3] (ag bD (aa (ae 0) (aa (aj .none) (aa (aj (.tuple [])) ai)))))
   (S2:=gX [0,3] 0 gL ip [3] (ag eQ (aa (ae 0) (aa (aj (.str "whole")) ai))))
   (CY (.inl ⟨rfl,rfl⟩) (tt _) rfl ((cH (xs:=[.dat d,.dat .none,.dat (.tuple [])]) rfl).trans (Kr (G7 (e _).1))))
   (CY (.inl ⟨rfl,rfl⟩) (by rw[Uo];exact tt _) rfl ((cH (xs:=[.dat d,.dat (.str "whole")]) rfl).trans (G7 (e _).1)))
  rw[Uo]at k;exact⟨_,_,_,vC c k⟩
theorem MV{d:PyData}{ns ss:Vw}{h0:Hm}{a0 a2:Option D}(w:Wb 25 ns ss)(t0:h0[0]?=some qp)(hd:d∈G9)(t:Hm)(a4 a5:Option D) :
  ∃(t':Hm) (b4 b5:Option D),Ry [a0,some (.dat #[13]),a2,some (.dat d),a4,a5] (h0++t)=.ok (.nx [a0,some (.dat #[13]),a2,some (.dat d),b4,b5]) (h0++t'):=by
 have tt:∀t:Hm,(h0++t)[0]?=some qp:=λt=>by rw[Sl (R6.mp t0).1];exact t0
 have k:=Ha (s := "kind") (a0:=a0) (a1:=some (.dat #[13])) (a2:=a2) (a3:=some (.dat d)) (a4:=a4) (a5:=a5) (h:=h0++t) (.inr rfl)
   (S1:=gX [0,3] 0 gL ip [1,3] (ag bD (aa (ae 0) (aa (ae 1) (aa (aj .none) ai)))))
   (S2:=gX [0,3] 0 gL ip [1,3] (ag eQ (aa (ae 0) (aa (ae 1) ai))))
   (CY (.inr ⟨rfl,rfl⟩) (tt _) rfl ((cH (xs:=[.dat #[13],.dat d,.dat .none]) rfl).trans (Kr (G8 w (OP d hd _)))))
   (CY (.inr ⟨rfl,rfl⟩) (by rw[Uo];exact tt _) rfl ((cH (xs:=[.dat #[13],.dat d]) rfl).trans (G8 w (OP d hd _))))
 rw[Uo]at k;exact⟨_,_,_,k⟩
theorem Hd{i:Nat}{h:Hm}(b:Bx i h)(t0:h[0]?=some qp):Dr i h (g9 [.ref i] h) λd=>d=.bool true:=by
 obtain⟨_,ha,ea,sa,ns,ss,rfl,w,l5⟩:=MN b;have ba:=sa.bx b;have ta:=sa.As b t0;have ow:=Ks w;obtain⟨_,hb,eb,sb,ls,rfl,hls⟩:=Ek ba w;have bb:=sb.bx ba;have tb:=sb.As ba ta;obtain⟨_,hc,ec,sc,x,rfl,ox⟩:=yF 5 bb ow #[4] #[4];have bc:=sc.bx bb;obtain⟨_,hd,ed,sd,y,rfl,oy⟩:=GP bc;have bd:=sd.bx bc;have td:=sd.As bc (sc.As bb tb);have r1:=Ag ow ha #[4] #[4]
 have L1:∀{ds:Vw},(∀d∈ds,CI 1020 5 d/\gY ns d=false)->∀{a3 a4 a5:Option D},∃b3 b4,dS (ax 3) Rv (ds.map D.dat) [some (D.ref i),some (.dat #[13]),some (.rpr #[13].shown),a3,a4,a5] hb=.ok (.nx [some (D.ref i),some (.dat #[13]),some (.rpr #[13].shown),b3,b4,a5]) hb:=by
  intro ds
  induction ds with
  |nil=>exact λ_ a3 a4 a5=>⟨a3,a4,rfl⟩
  |cons d ds ih=>intro H a3 a4 a5;obtain⟨b4,e1⟩:=MR (h:=hb) (a0:=some (D.ref i)) (a2:=some (.rpr #[13].shown)) (a4:=a4) (a5:=a5) w l5 bb.wf (H d (.head _)).1 (H d (.head _)).2;obtain⟨c3,c4,e2⟩:=ih (λz q=>H z (Sb _ q)) (a3:=some (.dat d)) (a4:=b4) (a5:=a5);refine⟨c3,c4,?_⟩;simp only[Sy,dS,ax,R.fm,R.bo,Tp,Tq];rw[e1];simp only[R.fm,R.bo];exact e2
 obtain⟨b3,b4,e1⟩:=L1 hls (a3:=none) (a4:=none) (a5:=none);have o2:fz 499 2 [.tuple ns,.tuple ss]:=by have l:=w.le;have oz:Ok 375 2 (.tuple ss):=((fz.of λd m=>(hU (w.sr.sub d m)).2.2.2.2.2).mono #[3] (R5 _)).tup;exact(fz.cons (w.Ke.mono (R5 _) (by decide:1<=2)) (fz.one oz)).mono #[4] (R5 _)
 have e0:Ok 0 1 (.tuple []):=(fz.nil).tup
 let M:Vw:=[.none,.tuple [],.list [WD ns ss],.tuple ns,.list [.tuple ns,.tuple ss],.tuple [.tuple ns,.tuple ss,.tuple []],x,y]
 have allM:∀d∈M,CI 1020 5 d:=by
  intro d hd;simp only[M,Sf,SY,UX]at hd;rcases hd with rfl|rfl|rfl|rfl|rfl|rfl|rfl|rfl
  ·exact .inl (mG #[8])
  ·exact .inl (e0.mono #[4] #[4])
  ·exact .inl ((fz.one ow).lst.mono #[4] #[4])
  ·exact .inl (w.Ke.mono #[4] #[4])
  ·exact .inl (o2.lst.mono #[4] #[4])
  ·exact .inl ((o2.append (fz.one (e0.mono (R5 _) (by decide:1<=2)))).tup.mono #[4] #[4])
  ·exact .inl (ox.mono #[4] #[4])
  ·exact oy.mono #[4] #[4]
 obtain⟨t2,c3,c4,c5,e2⟩:=Hb (b:=Rx) (a0:=some (D.ref i)) (a1:=some (.dat #[13])) (a2:=some (.rpr #[13].shown)) (h0:=hd) (ds:=M) (t:=[]) (a3:=b3) (a4:=b4) (a5:=none) λd m t a4 a5=>MU td (allM d m) #[4] #[4] t a4 a5;rw[Ug]at e2;obtain⟨t3,d3,d4,d5,e3⟩:=Hb (b:=Ry) (a0:=some (D.ref i)) (a1:=some (.dat #[13])) (a2:=some (.rpr #[13].shown)) (h0:=hd) (ds:=G9) (t:=t2) (a3:=c3) (a4:=c4) (a5:=c5) λd m t a4 a5=>MV w td m t a4 a5;have r2:=Ag ow (hd++t3) #[4] #[4]
 have s4:iD (aa (aj .none) (aa (aj (.tuple [])) (aa (iD (aa (ae 1) ai)) (aa #[17] (aa (ag i4 (aa (ae 1) ai)) (aa (gG (aa #[17] (aa (ak eK (ae 1) (aj (.int 1))) (aa (aj (.tuple [])) ai)))) (aa (ag (cx 5) (aa (ae 0) (aa (ae 1) ai))) (aa (ag ej #[18]) ai)))))))) [some (D.ref i),some (.dat #[13]),some (.rpr #[13].shown),b3,b4,none] hb=.ok (.dat (.list M)) hd:=by
  have k3:iD (aa (ae 1) ai) [some (D.ref i),some (.dat #[13]),some (.rpr #[13].shown),b3,b4,none] hb=.ok (.dat (.list [WD ns ss])) hb:=by unfold iD;exact(cH (aF rfl rfl)).trans (Bo _ _)
  have k6:gG (aa #[17] (aa (ak eK (ae 1) (aj (.int 1))) (aa (aj (.tuple [])) ai))) [some (D.ref i),some (.dat #[13]),some (.rpr #[13].shown),b3,b4,none] hb=.ok (.dat (.tuple [.tuple ns,.tuple ss,.tuple []])) hb:=by unfold gG;exact(cH (aF rfl (aF rfl (aF rfl rfl)))).trans (Mz _ _ _ _)
  have k7:ag (cx 5) (aa (ae 0) (aa (ae 1) ai)) [some (D.ref i),some (.dat #[13]),some (.rpr #[13].shown),b3,b4,none] hb=.ok (.dat x) hc:=aN (xs:=[.ref i,.dat #[13]]) rfl ec;have k8:ag ej #[18] [some (D.ref i),some (.dat #[13]),some (.rpr #[13].shown),b3,b4,none] hc=.ok (.dat y) hd:=aN (xs:=[.ref i]) rfl ed;unfold iD at k3 ⊢;exact(cH (aF rfl (aF rfl (aF k3 (aF rfl (aF rfl (aF k6 (aF k7 (aF k8 rfl))))))))).trans (MQ _ _ _ _ _ _ _ _ _)
 have eq:oEq (.rpr #[13].shown) (.rpr #[13].shown) (hd++t3)=.ok (.bool true) (hd++t3):=by simp[oEq]
 have run:jV [.ref i] h=.ok (.dat (.bool true)) (hd++t3):=by unfold jV;refine fV rfl (aR (et (aN (xs:=[.ref i,.int 5]) rfl ea)) (aR (et (aN (xs:=[.dat #[13]]) rfl r1)) (aR (fQ (kn (aN (xs:=[.ref i,.dat #[13]]) rfl eb)) e1) (aR (fQ (kn s4) e2) (aR (fQ (kn (ds:=G9) rfl) e3) (eA (aS (aN (xs:=[.dat #[13]]) rfl r2) rfl eq)))))))
 exact⟨_,hd,Am b run (((sa.trans sb).trans sc).trans sd),((sa.trans sb).trans sc).trans sd,rfl⟩
theorem BB{right:Fn}{N:Nat}{ns:List Int}(PL:∀{i:Nat} {h:Hm},Bx i h->h[0]?=some qp->Dr i h (right [.ref i] h) λd=>d=.bool true) :
  ∀(h:Hm),Wf h->h[0]?=some qp->∃h' y1 y2,dS (ax 1) (jI (kB (aa (aj (.int 2)) ai)) (ax 2) (iI (cY (aU (ag right (aa (ag fu (aa (ae 0) (aa (ae 1) (aa (ae 2) ai)))) ai)))) #[19] bO)) (nums 0 N) [some (.scr ns),none,none] h=.ok (.nx [some (.scr ns),y1,y2]) h':=by
 intro h w t0
 obtain⟨ρ',h',e,⟨w',t'⟩,y1,y2,rfl⟩:=hV (g:=ax 1) (b:=jI (kB (aa (aj (.int 2)) ai)) (ax 2) (iI (cY (aU (ag right (aa (ag fu (aa (ae 0) (aa (ae 1) (aa (ae 2) ai)))) ai)))) #[19] bO))
  (λ_ ρ hh=>(Wf hh/\hh[0]?=some qp)/\∃y1 y2,ρ=[some (.scr ns),y1,y2]) (nums 0 N) 0 [some (.scr ns),none,none] h (λj x hx ρ hh ⟨⟨w,t1⟩,y1,y2,e2⟩=>by
   subst e2;simp only[nums,SD,SI]at hx;obtain⟨k,_,rfl⟩:=hx
   obtain⟨ρ',h',e,⟨w',t'⟩,z2,rfl⟩:=hV (g:=ax 2) (b:=iI (cY (aU (ag right (aa (ag fu (aa (ae 0) (aa (ae 1) (aa (ae 2) ai)))) ai)))) #[19] bO)
    (λ_ ρ hh=>(Wf hh/\hh[0]?=some qp)/\∃y2,ρ=[some (.scr ns),some (.int (0+(k:Int))),y2]) (nums 0 2) 0 [some (.scr ns),some (.int (0+(k:Int))),y2] hh (λj x hx ρ hh ⟨⟨w,t2⟩,y2,e2⟩=>by
     subst e2;simp only[nums,SD,SI]at hx;obtain⟨l,_,rfl⟩:=hx;obtain⟨n,eb⟩:=MC ns k l hh;have bx:Bx hh.length (hh++[.lst [.int n]]):=⟨⟨n,by simp⟩,w.push rfl⟩;have t3:(hh++[MO.lst [.int n]])[0]?=some qp:=by rw[Sl (R6.mp t2).1];exact t2
     obtain⟨_,h2,e2,s2,rfl⟩:=PL bx t3
     exact⟨_,hh,[some (.scr ns),some (.int (0+(k:Int))),some (.int (0+(l:Int)))],h2,rfl,.inl (by simp[eb,e2]),⟨(s2.bx bx).wf,s2.As bx t3⟩,_,rfl⟩) ⟨⟨w,t1⟩,y2,rfl⟩
   refine⟨_,hh,[some (.scr ns),some (.int (0+(k:Int))),z2],h',rfl,.inl ?_,⟨w',t'⟩,_,_,rfl⟩
   exact fQ (qk (n:=2) #[6] #[4]) e) ⟨⟨w,t0⟩,none,none,rfl⟩
 grind
theorem He:∀ns:List Int,ns.length<=63->∃h,CB [.scr ns] [.tab gL ip]=.ok (.bool true) h:=by
 intro ns hn;obtain⟨h',y1,y2,e⟩:=BB (right:=g9) (λb t=>Hd b t) (ns:=ns) (N:=max 1 (min ns.length 4)) [.tab gL ip] (λo m=>by simp at m;subst m;rfl) rfl
 have it:kB (aa (ag Fy (aa (aj (.int 1)) (aa (ag Fz (aa (ag gH #[18]) (aa (aj (.int 4)) ai))) ai))) ai) [some (.scr ns),none,none] [.tab gL ip]=.ok (nums 0 (max 1 (min ns.length 4))) [.tab gL ip]:=qk (by
   refine aF ?_ rfl;simp[gH,Fz,Fy]
   grind) #[3]
 exact⟨h',fV rfl (aR (fQ it e) (eA rfl))⟩
section
variable {P:Vy->Prop}
theorem QW(h:P []) us(hl:us.length=0):P us:=List.eq_nil_of_length_eq_zero hl▸h
theorem MW(h:∀a us,us.length=n->P (a::us)) us(hl:us.length=n+1):P us:=by
 cases us with
 |nil=>cases hl
 |cons a us=>exact h a us (Nat.succ.inj hl)
theorem all1(h:∀a,P [a]):∀us,us.length=1->P us:=MW λa=>QW (h a)
theorem all2(h:∀a b,P [a,b]):∀us,us.length=2->P us:=MW λa=>all1 (h a)
theorem OQ(h:∀a b c,P [a,b,c]):∀us,us.length=3->P us:=MW λa=>all2 (h a)
end
end Ml
namespace K07
open PySem L2 Ml
theorem MX{K:Vz}{h:Heap}{mg:Vv}{k0:Tok}{k1:Tok}{xc0:Addr}{xc1:Addr}{ta0:Addr}{fb0:Addr}(X:K.In h)(G:h.Ns mainGlobals mg)
 (z0:PySem.W.nsIn K mainGlobals "all" = some none)
 (z1:PySem.W.nsIn K mainGlobals "len" = some none)
 (z2:PySem.W.nsIn K mainGlobals "isinstance" = some none)
 (z3:PySem.W.nsIn K mainGlobals "str" = some none)
 (z4:PySem.W.nsIn K mainGlobals "zip" = some none)
 (z5:PySem.W.nsIn K mainGlobals "tuple" = some none)
 (z6:PySem.W.nsIn K mainGlobals "sorted" = some none)
 (z7:PySem.W.nsIn K mainGlobals "any" = some none)
 (z8:PySem.W.nsIn K mainGlobals "range" = some none)
 (z9:PySem.W.nsIn K mainGlobals "abs" = some none)
 (z10:PySem.W.nsIn K mainGlobals "divmod" = some none)
 (z11:PySem.W.nsIn K mainGlobals "list" = some none)
 (z12:PySem.W.nsIn K mainGlobals "int" = some none)
 (z13:PySem.W.nsIn K mainGlobals "repr" = some none)
 (z14:PySem.W.nsIn K mainGlobals "max" = some none)
 (z15:PySem.W.nsIn K mainGlobals "min" = some none)
 (a0:PySem.W.nsIn K mainGlobals "LONGEST_NAME" = some (some (.int 6 k0)))
 (a1:PySem.W.nsIn K mainGlobals "MOST_NAMES" = some (some (.int 12 k1)))
 (xn0:PySem.W.nsIn K mainGlobals "NoWeb" = some (some (.ref xc0)))(xe0:PySem.W.excIn K xc0 L8 Gh=true)
 (xn1:PySem.W.nsIn K mainGlobals "NoKind" = some (some (.ref xc1)))(xe1:PySem.W.excIn K xc1 L8 Gh=true)
 (fn0:PySem.W.nsIn K mainGlobals "FINDERS" = some (some (.ref fb0)))(fk0:Qm K fb0 mU=true)
 (tn0:PySem.W.nsIn K mainGlobals "KINDS" = some (some (.ref ta0)))(tk0:Ql K ta0 yj=true)
  : Txt K mg:=⟨Sn X G z0,Sn X G z1,Sn X G z2,Sn X G z3,Sn X G z4,Sn X G z5,Sn X G z6,Sn X G z7,Sn X G z8,Sn X G z9,Sn X G z10,Sn X G z11,Sn X G z12,Sn X G z13,Sn X G z14,Sn X G z15,⟨_,Sm X G a0⟩,⟨_,Sm X G a1⟩,⟨_,Sm X G xn0,⟨xn0,xe0⟩⟩,⟨_,Sm X G xn1,⟨xn1,xe1⟩⟩,⟨_,Sm X G fn0,Mq (λ_ _=>Sm X G) fk0⟩,⟨_,Sm X G tn0,Mj tk0⟩⟩
structure Hf(K:Vz)(mg:Vv)(cs:Nat->Addr)(WE:Addr):Prop where
 c:Wh.IX mg cs
 r:Wh.Refs K cs WE [0,3]
 we:mg "WebError" = some (.ref WE)
theorem MY{K:Vz}{h:Heap}{mg:Vv}{c0 c1 c2 c3 c4 c5 c6 c7 c8 c9 c10 c11 c12 c13 WE:Addr}(X:K.In h)(G:h.Ns mainGlobals mg)
 (n0:PySem.W.nsIn K mainGlobals "NoWeb" = some (some (.ref c0)))
 (n1:PySem.W.nsIn K mainGlobals "NoLot" = some (some (.ref c1)))
 (n2:PySem.W.nsIn K mainGlobals "NoName" = some (some (.ref c2)))
 (n3:PySem.W.nsIn K mainGlobals "NoKind" = some (some (.ref c3)))
 (n4:PySem.W.nsIn K mainGlobals "NoPair" = some (some (.ref c4)))
 (n5:PySem.W.nsIn K mainGlobals "NoChanges" = some (some (.ref c5)))
 (n6:PySem.W.nsIn K mainGlobals "NoCount" = some (some (.ref c6)))
 (n7:PySem.W.nsIn K mainGlobals "NoShut" = some (some (.ref c7)))
 (n8:PySem.W.nsIn K mainGlobals "NoWay" = some (some (.ref c8)))
 (n9:PySem.W.nsIn K mainGlobals "NoJoint" = some (some (.ref c9)))
 (n10:PySem.W.nsIn K mainGlobals "NoSide" = some (some (.ref c10)))
 (n11:PySem.W.nsIn K mainGlobals "NoDeed" = some (some (.ref c11)))
 (n12:PySem.W.nsIn K mainGlobals "TooMany" = some (some (.ref c12)))
 (n13:PySem.W.nsIn K mainGlobals "NoText" = some (some (.ref c13)))
 (we:PySem.W.nsIn K mainGlobals "WebError" = some (some (.ref WE)))(ve:PySem.W.nsIn K mainGlobals "ValueError" = some none)
 (i0:(PySem.W.clsIn K c0).isSome=true)(g0:PySem.W.findIn K (.ref c0) "__getattribute__" = some (some (.builtin "BaseException.__getattribute__")))(ga0:PySem.W.findIn K (.ref c0) "__getattr__" = some none)(be0:PySem.W.mroIn K c0 (.type "BaseException")=some true)(a0:PySem.W.findIn K (.ref c0) "__class__" = some (some (.builtin "object.__class__")))(m0:PySem.W.mroIn K c0 (.type "object")=some true)
 (k0:Wh.kindB K [c0,c1,c2,c3,c4,c5,c6,c7,c8,c9,c10,c11,c12,c13] c0 WE 0=true)
 (i3:(PySem.W.clsIn K c3).isSome=true)(g3:PySem.W.findIn K (.ref c3) "__getattribute__" = some (some (.builtin "BaseException.__getattribute__")))(ga3:PySem.W.findIn K (.ref c3) "__getattr__" = some none)(be3:PySem.W.mroIn K c3 (.type "BaseException")=some true)(a3:PySem.W.findIn K (.ref c3) "__class__" = some (some (.builtin "object.__class__")))(m3:PySem.W.mroIn K c3 (.type "object")=some true)
 (k3:Wh.kindB K [c0,c1,c2,c3,c4,c5,c6,c7,c8,c9,c10,c11,c12,c13] c3 WE 3=true)
 (sp:PySem.W.specialIn K (.builtin "object.__class__") "__get__" = some (some (.builtin "getset_descriptor.__get__")))(tk:PySem.W.takesIn K (.builtin "object.__class__")=some true):∃cs WE,Hf K mg cs WE:=by
 obtain⟨q0,e0⟩:=Wh.zF k0 ⟨i0,g0,ga0,be0,a0,sp,tk,m0⟩;obtain⟨q3,e3⟩:=Wh.zF k3 ⟨i3,g3,ga3,be3,a3,sp,tk,m3⟩;refine⟨Wh.Qk [c0,c1,c2,c3,c4,c5,c6,c7,c8,c9,c10,c11,c12,c13],WE,⟨Sn X G ve,Sm X G n0,Sm X G n1,Sm X G n2,Sm X G n3,Sm X G n4,Sm X G n5,Sm X G n6,Sm X G n7,Sm X G n8,Sm X G n9,Sm X G n10,Sm X G n11,Sm X G n12,Sm X G n13⟩,λj hj=>?_,Sm X G we⟩;simp only[Sf,SY,UX]at hj;rcases hj with rfl|rfl
 ·exact⟨q0,e0⟩
 ·exact⟨q3,e3⟩
theorem all_mk{l:PySem.W.OpenLaw}{w:World}{K:Vz}{h:Heap}{mg:Vv}{fa f:Addr}{od an:Option Addr}{sl:VC}{oc kV dc pm cd ct:Value}(X:K.In h)(G:h.Ns mainGlobals mg)(hfa:mg "law" = some (.ref fa))(T:Txt K mg)(CA:∃cs WE,Hf K mg cs WE)
 (d0:Df K mg "is_name" ["thing"] qV)
 (d1:Df K mg "is_rising" ["things"] lH)
 (d2:Df K mg "are_names" ["thing"] lM)
 (d3:Df K mg "is_strike" ["thing", "names"] lQ)
 (d4:Df K mg "are_strikes" ["thing", "names"] i7)
 (d5:Df K mg "is_web" ["thing"] uT)
 (d6:Df K mg "check_web" ["thing"] lU)
 (d7:Df K mg "is_within" ["lot", "others"] lW)
 (d8:Df K mg "hit_by" ["web", "lot"] uW)
 (d9:Df K mg "defended" ["web", "lot"] oK)
 (d10:Df K mg "foes" ["web", "name"] Bd)
 (d11:Df K mg "peaceful_lots" ["web"] gM)
 (d12:Df K mg "is_standing" ["web", "lot"] i9)
 (d13:Df K mg "is_whole" ["web", "lot"] oP)
 (d14:Df K mg "is_stable" ["web", "lot"] md)
 (d15:Df K mg "standing_lots" ["web"] gO)
 (d16:Df K mg "whole_lots" ["web"] jX)
 (d17:Df K mg "grounded_lots" ["web"] gR)
 (d18:Df K mg "preferred_lots" ["web"] fZ)
 (d19:Df K mg "stable_lots" ["web"] jb)
 (d20:Df K mg "check_kind" ["thing"] jZ)
 (d21:Df K mg "lots" ["web", "kind"] Bg)
 (d22:Df K mg "is_lot_of" ["web", "kind", "thing"] mf)
 (d23:Df K mg "_law_cell" ["_law_script", "_law_k"] mj)
 (d24:Df K mg "_law_mix" ["_law_cell_here", "_law_k"] oS)
 (d25:Df K mg "_law_box" ["_law_script", "_law_k", "_law_lap"] oU)
 (d26:Df K mg "_law_take" ["_law_box_here", "_law_count"] mn)
 (d27:Df K mg "_law_odd" ["_law_box_here"] oW)
 (d28:Df K mg "_law_web" ["_law_box_here", "_law_most_names"] oZ)
 (d29:Df K mg "_law_is_name" ["_law_thing"] iq)
 (d30:Df K mg "_law_rises" ["_law_row"] j4)
 (d31:Df K mg "_law_is_web" ["_law_thing"] jd)
 (d32:Df K mg "_law_bent" ["_law_box_here", "_law_thing"] mz)
 (d33:Df K mg "_law_is_lot" ["_law_web_here", "_law_thing"] jf)
 (d34:Df K mg "_law_no_lots" ["_law_box_here", "_law_web_here"] ix)
 (d35:M6 K mg "_law_right" ["_law_box_here"] dE gL)
 (dw:Df K mg "_law_which" ["_law_e"] gT)(ds:Df K mg "_law_said" ["_law_call"] xh)
 (a:PySem.W.nsIn K mainGlobals "law" = some (some (.ref f)))(l0:K.lookup f=some ⟨oc,od,.func (PySem.W.fnOf "law" "law" (fc qf) (bA qf) (ao qf) .none kV dc pm an cd ct),sl⟩)(c:PySem.W.codeIn K cd "law" = true)(k:PySem.W.keepIn K (.ref f)=true) :
  ∃(fd:FuncData) (c:Addr),PySem.W.codeHdIn K c gL=true/\(∀(s:VI) (v:Value),BindsTo s fd ⟨[v],[]⟩ [("_law_script",v)])/\∀base:Heap,K.In base->base.Ns mainGlobals mg->(∃bm,BMod base mg bm)->jD l.prog w K mg base (iF l.prog w) 11 fa fd ["_law_script"] (Hg ⟨l.prog,w,mg,K⟩ CB):=by
 have e:=hfa.symm.trans (Sm X G a);cases e;have FL:=xA (st:=qf) l0 c k;obtain⟨cs,WE,CA⟩:=CA;obtain⟨fB,cB,oB1,oB2,oB3,oB4,oB5,oB6,oB7,oB8,mB,lB,cdB,htB,kpB,bB⟩:=id d35;refine⟨PySem.W.fnOf "law" "law" (fc qf) (bA qf) (ao qf) .none kV dc pm an cd ct,cB,htB,λs v=>.of_eq rfl,λbase _ _ BM=>?_⟩;obtain⟨bm,BM⟩:=BM;obtain⟨fw,fdw,mw,Fw,bw⟩:=dw;obtain⟨fq,fdq,mq,Fq,bq⟩:=ds;have HW:AO l.prog w K mg base "_law_which" ["_law_e"] 1 (Wh.tu K cs):=⟨fw,fdw,mw,Fw.kp,bw,GJ Fw T.n_isinstance CA.c⟩;have HS:xJ l.prog w K mg base "_law_said" ["_law_call"] 9 (wB l.prog w K mg base 8 (Cv (Wh.zE K cs WE))):=⟨fq,fdq,mq,Fq.kp,bq,Jj 7 Fq CA.we HW⟩;have HX:Cw mg [0,3] (Wh.zE K cs WE):=Wh.Og CA.c CA.r;have H_is_name:=D3 (P:=l.prog) (w:=w) (base:=base) d0 T;have H_is_rising:=zT (P:=l.prog) (w:=w) (base:=base) d1 T;have H_are_names:=zU (P:=l.prog) (w:=w) (base:=base) d2 T H_is_rising H_is_name;have H_is_strike:=zV (P:=l.prog) (w:=w) (base:=base) d3 T;have H_are_strikes:=vT (P:=l.prog) (w:=w) (base:=base) d4 T H_is_rising H_is_strike;have H_is_web:=GG (P:=l.prog) (w:=w) (base:=base) d5 T H_are_strikes H_are_names;have H_check_web:=zX (P:=l.prog) (w:=w) (base:=base) d6 T H_is_web;have H_is_within:=zY (P:=l.prog) (w:=w) (base:=base) d7 T;have H_hit_by:=GH (P:=l.prog) (w:=w) (base:=base) d8 T
 have H_defended:=Bc (P:=l.prog) (w:=w) (base:=base) d9 T H_hit_by
 have H_foes:=Ms (P:=l.prog) (w:=w) (base:=base) d10 T;have H_peaceful_lots:=sQ (P:=l.prog) (w:=w) (base:=base) d11 T H_foes;have H_is_standing:=vV (P:=l.prog) (w:=w) (base:=base) d12 T H_is_within H_defended;have H_is_whole:=Bf (P:=l.prog) (w:=w) (base:=base) d13 T H_defended
 have H_is_stable:=Aa (P:=l.prog) (w:=w) (base:=base) d14 T H_hit_by
 have H_standing_lots:=sR (P:=l.prog) (w:=w) (base:=base) d15 T H_peaceful_lots H_is_standing;have H_whole_lots:=yu (P:=l.prog) (w:=w) (base:=base) d16 T H_peaceful_lots H_is_whole;have H_grounded_lots:=sT (P:=l.prog) (w:=w) (base:=base) d17 T H_defended;have H_preferred_lots:=rg (P:=l.prog) (w:=w) (base:=base) d18 T H_standing_lots H_is_within;have H_stable_lots:=vX (P:=l.prog) (w:=w) (base:=base) d19 T H_peaceful_lots H_is_stable;have H_check_kind:=yw (P:=l.prog) (w:=w) (base:=base) d20 T;have H_lots:=Mt (P:=l.prog) (w:=w) (base:=base) d21 T H_grounded_lots H_preferred_lots H_stable_lots H_standing_lots H_whole_lots H_check_kind H_check_web;have H_is_lot_of:=Ab (P:=l.prog) (w:=w) (base:=base) d22 T H_lots;have H__law_cell:=Ac (P:=l.prog) (w:=w) (base:=base) d23 T;have H__law_mix:=Bj (P:=l.prog) (w:=w) (base:=base) d24 T;have H__law_box:=Bk (P:=l.prog) (w:=w) (base:=base) d25 T H__law_mix H__law_cell;have H__law_take:=Ad (P:=l.prog) (w:=w) (base:=base) d26 T;have H__law_odd:=Bl (P:=l.prog) (w:=w) (base:=base) d27 T H__law_take;have H__law_web:=Bm (P:=l.prog) (w:=w) (base:=base) d28 T H__law_take;have H__law_is_name:=vf (P:=l.prog) (w:=w) (base:=base) d29 T;have H__law_rises:=yz (P:=l.prog) (w:=w) (base:=base) d30 T;have H__law_is_web:=v7 (P:=l.prog) (w:=w) (base:=base) d31 T H__law_rises H__law_is_name;have H__law_bent:=sC (P:=l.prog) (w:=w) (base:=base) d32 T H__law_take 5;have H__law_is_lot:=v8 (P:=l.prog) (w:=w) (base:=base) d33 T H__law_rises H__law_is_name;have H__law_no_lots:=vh (P:=l.prog) (w:=w) (base:=base) d34 T H__law_odd H__law_is_lot H__law_bent;have H__law_right:=yA (P:=l.prog) (w:=w) (base:=base) d35 T H_lots H_is_lot_of H__law_odd H__law_bent H__law_is_web H__law_no_lots H__law_web HS HX BM;exact Mu (P:=l.prog) (w:=w) (base:=base) FL T H__law_right H__law_box
theorem walk{l:PySem.W.OpenLaw}{q:VG}{loose:VA}{XP:(Vv)->Heap->Prop}{YP:World->Heap->Prop}{d:DefRec}{K:Params->Vz}(hn:l.most=some 63)(hdf:d.params.defaults=[])
 (hY:∀(w:World) (h:Heap),YP w h->(K w.params).In h)(hYt:∀(w:World) (h:Heap),YP w h->h.get? gL=some (PySem.W.tabObj #[]))(hPK:∀w:World,(K w.params).lookup gL=none)
 (F:∀(w:World) (mg:Vv) (fa:Addr) (h:Heap),(K w.params).In h->h.Ns mainGlobals mg->mg d.name=some (.ref fa) ->
   ∃(fd:FuncData) (c:Addr),PySem.W.codeHdIn (K w.params) c gL=true/\(∀(s:VI) (u:Value),BindsTo s fd ⟨[u],[]⟩ [("_law_script",u)])/\∀base:Heap,(K w.params).In base->base.Ns mainGlobals mg->(∃bm,BMod base mg bm)->jD l.prog w (K w.params) mg base (iF l.prog w) 11 fa fd ["_law_script"] (Hg ⟨l.prog,w,mg,K w.params⟩ CB)) :
  PySem.W.WalkO q loose XP YP l.row.toRowW d [] (λf vs=>PySem.call f vs):=
 L2.Gj (n:=63) (k:=11) (x := "_law_script") (CX:=λw=>iF l.prog w) (sp:=λw=>Gk (K w.params) gL) hn #[4] hdf ⟨rfl,by decide,by decide,rfl⟩ hY hYt hPK
  (λw mg fa h KX G hm=>by obtain⟨fd,c,ht,b,o⟩:=F w mg fa h KX G hm;exact⟨fd,c,ht,b,λbase k g bm=>(o base k g bm).imp λvs H Q E z=>D0 (q:=ip) He z⟩)
  (λ_ _ a ns hl hT hS=>⟨a,ns,rfl,hS,hl,hT,λ_=>rfl⟩) (by rintro w H s e s' ⟨_,_,_,_,_,_,_,_,_,_,_,_,_,z⟩;exact z)
end K07
open PySem PySem.W PyProof.Rows
structure PySem.W.Fast:Prop where
 (tw15661136171090181593 tw17913346274042176667 tw7060473624708008634 tw11380536460811927015 tw6662196695161514678 tw16045592176333165830 tw2121319213112617855 tw11752607406015547869 tw4461763611182233571 tw15867500060225051976 tw5497264249708401276 tw10032432675484266761 tw11703757403562936363 tw1109088991551017921 tw17248520722150200238 tw4289932000371533760 tw8886168021310107760 tw15141408657619042443 tw9384399624055576817 tw12372547178051768768 tw11456824245608974653 tw16818070498703580491 tw11918598125960390592 tw5135800803025572473 tw3206602363673040269 tw13330844055763467996 tw10944405154069322106 tw18364997692920685862 tw7651709823958366134 tw14641984861478087928 tw15978050803220053967 tw15793287465724913334 tw13300376711046166490 tw17910118498229591873 tw11816042054937477116 tw10264605564565563781 tw12232154706180847043 tw7171916910293061159 tw3011310007507848875 tw16023744881439544145 tw8314728339424691415 tw4691463842957522821 tw12260310585205669560 tw1270671108044589737 tw685127296878983080 tw17023164859707229035 tw14147078007216069278 tw16268660298874601202 tw8380973168539587423 tw14890915059516825875 tw15445556978790463835 tw12231478623414495465 tw8606195565580032722 tw6288575478120788274 tw1622818427394322112 tw15292518272103111940 tw5014770156855335328 tw9166154143211629768 tw6805657803042778051 tw4467042586929344784 tw18109015449533573454 tw14528109755484813449 tw12291996481027088167 tw3033122200424710741 tw1078062302226361577 tw13525262586070366502 tw15481842075866272308 tw14968651259618784761 tw12419248471786651005 tw6878856154565171374 tw97238256392144291 tw3168986825759729785 tw5866215774872279969 tw14501853746999789141 tw1109909127525367461 tw11712614688651541892 tw15025280653438077627 tw4503945277508801906 tw10941469149701443550 tw4988077262809969426 tw11547535862291751100 tw5068344048013570277 tw1933497944844531020 tw4340326763544606616 tw4522092386921469182 tw2981202032020323057 tw11045612374302767792 tw18391348606797488187 tw5768626182745576216 tw6676122859045985752 tw4752191942741549021 tw2893072387279698295 tw17124887600815717526 tw11034727667290109886 tw18101940077314941492 tw17647871556634926131 tw12712098353119867067 tw15835531163119457416 tw6975236921613488505 tw10972999479559340827 tw16897694647569740055 tw4452805418634776306 tw6079249302795578604 tw7795522122152060452 tw9516965949210242716 tw3793121422816879432 tw10695645035022648482 tw5889744306242623831 tw14732758309422602118 tw10311020240860588474 tw11910962949173657012 tw11323420990224307195 tw9161146458948191585 tw14970575245788675869 tw13264599128488617352 tw4577112997101335579 tw3497712768220347906 tw14016091889263418182 tw15729749427788880003 tw10927731241528143230 tw8738665051870031407 tw12096225479656230172 tw15056006622365434943 tw18353768293880950113 tw468216729147530804 tw17278208355541782739 tw7766653779864046995 tw8251087685192409262 tw7146192131346091736 tw1319784312378432143 tw3789211555116266654 tw18298424426765397668 tw583170100743224684 tw15230344959835388359 tw2846772879520670279 tw12604219505997428072 tw10752928295171105588 tw12151537485590790478 tw9648457665604276117 tw14478289172179990621 tw11242095703006350071 tw10618948813108238600 tw518740309015552051 tw16390527984401556353 tw18406546953524265349 tw1201935921922197771 tw5190259618463725607 tw12148190148287204159 tw18403666718161018429 tw1222638936630627505 tw8225202485560222732 tw7144327126934402648 tw4747802481556374680 tw1856373410237876959 tw18000515981369234769 tw15944892961928889262 tw15872450950849075743 tw13203047489211102905 tw11039631478354427513 tw10295940936425923198 tw10167491177235048011 tw7709894662700752417 tw3205134489435803942 tw7173938069084193201 tw18196733730023102871 tw3432857105032656904 tw7612289692393311502 tw8768145391161522732 tw7393845148733927832 tw3214971443090502909 tw13698326564388546230 tw12088190585891884870 tw8734719502892899978 tw3309676205556437274 tw5841732730595741062 tw5205791426139770614 tw11117948934016472571 tw5208745386388513878 tw3925281618806936379 tw351574230538400358 tw18302775187997696038 tw15100802429829925941 tw11783760666312020082 tw1366954298149037931 tw1293983461657959119 tw2710288500234556648 tw16399811647128340226 tw16575386609179067720 tw11238783582608316639 tw2834787486330800055 tw12546462022870455406 tw11031845611669629874 tw14526327069463051512 tw12340785220296411878 tw16093479638003102141 tw13177174357573819607 tw3426578753235126570 tw2224914949014302951 tw11436691144984284761 tw17587001840312966224 tw5778925966803030885 tw10000820201613973991 tw8676742049305064399 tw7338306649751244640 tw15898659737447850541 tw15328983217320672496 tw15180458936471741168 tw5567501233852268766 tw158202799471334505 tw12429847740804413670 tw6909426473557997419 tw5211149095201734202 tw430256396370706204 tw3283422136658131279 tw2159489585990671405 tw15994823467515515063 tw14888634178068456641 tw6398409335843930322 tw18333934852496406790 tw16228130343655309135 tw13582760269474069837 tw4316471613938396822 tw8498040970288638635 tw14009950539715951397 tw8657299643136464884 tw9978870417223134299 tw2917103342828481709 tw10888216583353597192 tw12833523020610509921 tw11514609147254422052 tw1761734597942882628 tw5545110582397805916 tw14157296324076528419 tw1511469628262869422 tw17372132595437228300 tw1703494388820544557 tw13468864740227954482 tw13480104677457579108 tw478346435718412388 tw9628702709762029054 tw7533303872653022229 tw4204394629162507266 tw12724767525505414502 tw8931764864441757181 tw1855986162173852628 tw1066354708794314728 tw16273861807518170717 tw9219620694613039051 tw15182415033659472619 tw17895684198890621311 tw2846241018433137806 tw9772642678644225629 tw9060726912565262200 tw3430329470400547661 tw17267859424400301943 tw4050341085099994213 tw10617614143485754630 tw15563320083824985727 tw7033339474524466211 tw7291314587363490808 tw4790557461059428867 tw8813944844379257944 tw5950860758535333336 tw15619680909618199150 tw12594189646585615252 tw4037662944852317596 tw3173136880367287336 tw8286932988616100526 tw1950810579094435953 tw17484831379811527200 tw10648892480327217050 tw8204325706421170103 tw17572146858190384777 tw13702484180602005377 tw12054256235194361739 tw469101478537733126 tw5060846102710498688 tw9414078302478139219 tw7537335917983578822 tw7209663622277265331 tw6169058534296520752 tw4902802875856285557 tw457846122458194310 tw4508093355630171374 tw3897583166606851200 tw18206167571398465729 tw16631094479546832111 tw15560144094247660960 tw15398104125033104009 tw15011799965877820156 tw15301453845391005357 tw13117629162882128912 tw10382884692569242354 tw388706082605144283 tw3109180478494501969 tw12338675940186927344 tw11983065183781129038 tw12619130423266396527 tw6507447625241893531 tw17264905188915611665:True)
set_option maxRecDepth 100000 in
set_option maxHeartbeats 0 in
theorem PySem.Challenge.cw_everalike_k07_no_lots_and_no_kinds_holds : PySem.Challenge.rw_everalike_k07_no_lots_and_no_kinds.Holds := by
 w_on;o_law;k_head;(case hw=>w_witness2)
 k_fill
 refine K07.walk (l:=PySem.Challenge.rw_everalike_k07_no_lots_and_no_kinds) rfl rfl (λw h Y=>PySem.W.km_in_of Y) (λw h Y=>PySem.W.km_tabs_of Y 438 #[6]) (λw=>by kernel_rfl) ?F
 case F=>
  intro w mg fa h KX G hmg
  refine' K07.all_mk KX G hmg ?T ?CA ?d0 ?d1 ?d2 ?d3 ?d4 ?d5 ?d6 ?d7 ?d8 ?d9 ?d10 ?d11 ?d12 ?d13 ?d14 ?d15 ?d16 ?d17 ?d18 ?d19 ?d20 ?d21 ?d22 ?d23 ?d24 ?d25 ?d26 ?d27 ?d28 ?d29 ?d30 ?d31 ?d32 ?d33 ?d34 ?d35 ?dw ?ds ?a ?l ?c ?k
  case T=>
   refine' K07.MX KX G ?zz0 ?zz1 ?zz2 ?zz3 ?zz4 ?zz5 ?zz6 ?zz7 ?zz8 ?zz9 ?zz10 ?zz11 ?zz12 ?zz13 ?zz14 ?zz15 ?aa0 ?aa1 ?xn0 ?xe0 ?xn1 ?xe1 ?fn0 ?fk0 ?tn0 ?tk0
   (case zz0=>k_is)
   (case zz1=>k_is)
   (case zz2=>k_is)
   (case zz3=>k_is)
   (case zz4=>k_is)
   (case zz5=>k_is)
   (case zz6=>k_is)
   (case zz7=>k_is)
   (case zz8=>k_is)
   (case zz9=>k_is)
   (case zz10=>k_is)
   (case zz11=>k_is)
   (case zz12=>k_is)
   (case zz13=>k_is)
   (case zz14=>k_is)
   (case zz15=>k_is)
   (case aa0=>k_is)
   (case aa1=>k_is)
   (case xn0=>k_is)
   (case xe0=>kernel_rfl)
   (case xn1=>k_is)
   (case xe1=>kernel_rfl)
   (case fn0=>k_is)
   (case fk0=>kernel_rfl)
   (case tn0=>k_is)
   (case tk0=>kernel_rfl)
  case CA=>
   refine' K07.MY KX G ?nc0 ?nc1 ?nc2 ?nc3 ?nc4 ?nc5 ?nc6 ?nc7 ?nc8 ?nc9 ?nc10 ?nc11 ?nc12 ?nc13 ?nwe ?nve ?ei0 ?eg0 ?ega0 ?ebe0 ?ea0 ?em0 ?kk0 ?ei3 ?eg3 ?ega3 ?ebe3 ?ea3 ?em3 ?kk3 ?esp ?etk
   (case nc0=>k_is)
   (case nc1=>k_is)
   (case nc2=>k_is)
   (case nc3=>k_is)
   (case nc4=>k_is)
   (case nc5=>k_is)
   (case nc6=>k_is)
   (case nc7=>k_is)
   (case nc8=>k_is)
   (case nc9=>k_is)
   (case nc10=>k_is)
   (case nc11=>k_is)
   (case nc12=>k_is)
   (case nc13=>k_is)
   (case nwe=>k_is)
   (case nve=>k_is)
   (case ei0=>kernel_rfl)
   (case eg0=>k_is)
   (case ega0=>k_is)
   (case ebe0=>k_is)
   (case ea0=>k_is)
   (case em0=>k_is)
   (case kk0=>kernel_rfl)
   (case ei3=>kernel_rfl)
   (case eg3=>k_is)
   (case ega3=>k_is)
   (case ebe3=>k_is)
   (case ea3=>k_is)
   (case em3=>k_is)
   (case kk3=>kernel_rfl)
   (case esp=>k_is)
   (case etk=>k_is)
  case d0=>
   refine' Ml.bY KX G ?a0 ?l0 ?c0 ?k0 (λ_ _ _ _ _ _=>Ml.all1 λ_=>rfl)
   (case a0=>k_is);(case l0=>k_is);(case c0=>k_is);(case k0=>k_is)
  case d1=>
   refine' Ml.bY KX G ?a1 ?l1 ?c1 ?k1 (λ_ _ _ _ _ _=>Ml.all1 λ_=>rfl)
   (case a1=>k_is);(case l1=>k_is);(case c1=>k_is);(case k1=>k_is)
  case d2=>
   refine' Ml.bY KX G ?a2 ?l2 ?c2 ?k2 (λ_ _ _ _ _ _=>Ml.all1 λ_=>rfl)
   (case a2=>k_is);(case l2=>k_is);(case c2=>k_is);(case k2=>k_is)
  case d3=>
   refine' Ml.bY KX G ?a3 ?l3 ?c3 ?k3 (λ_ _ _ _ _ _=>Ml.all2 λ_ _=>rfl)
   (case a3=>k_is);(case l3=>k_is);(case c3=>k_is);(case k3=>k_is)
  case d4=>
   refine' Ml.bY KX G ?a4 ?l4 ?c4 ?k4 (λ_ _ _ _ _ _=>Ml.all2 λ_ _=>rfl)
   (case a4=>k_is);(case l4=>k_is);(case c4=>k_is);(case k4=>k_is)
  case d5=>
   refine' Ml.bY KX G ?a5 ?l5 ?c5 ?k5 (λ_ _ _ _ _ _=>Ml.all1 λ_=>rfl)
   (case a5=>k_is);(case l5=>k_is);(case c5=>k_is);(case k5=>k_is)
  case d6=>
   refine' Ml.bY KX G ?a6 ?l6 ?c6 ?k6 (λ_ _ _ _ _ _=>Ml.all1 λ_=>rfl)
   (case a6=>k_is);(case l6=>k_is);(case c6=>k_is);(case k6=>k_is)
  case d7=>
   refine' Ml.bY KX G ?a7 ?l7 ?c7 ?k7 (λ_ _ _ _ _ _=>Ml.all2 λ_ _=>rfl)
   (case a7=>k_is);(case l7=>k_is);(case c7=>k_is);(case k7=>k_is)
  case d8=>
   refine' Ml.bY KX G ?a8 ?l8 ?c8 ?k8 (λ_ _ _ _ _ _=>Ml.all2 λ_ _=>rfl)
   (case a8=>k_is);(case l8=>k_is);(case c8=>k_is);(case k8=>k_is)
  case d9=>
   refine' Ml.bY KX G ?a9 ?l9 ?c9 ?k9 (λ_ _ _ _ _ _=>Ml.all2 λ_ _=>rfl)
   (case a9=>k_is);(case l9=>k_is);(case c9=>k_is);(case k9=>k_is)
  case d10=>
   refine' Ml.bY KX G ?a10 ?l10 ?c10 ?k10 (λ_ _ _ _ _ _=>Ml.all2 λ_ _=>rfl)
   (case a10=>k_is);(case l10=>k_is);(case c10=>k_is);(case k10=>k_is)
  case d11=>
   refine' Ml.bY KX G ?a11 ?l11 ?c11 ?k11 (λ_ _ _ _ _ _=>Ml.all1 λ_=>rfl)
   (case a11=>k_is);(case l11=>k_is);(case c11=>k_is);(case k11=>k_is)
  case d12=>
   refine' Ml.bY KX G ?a12 ?l12 ?c12 ?k12 (λ_ _ _ _ _ _=>Ml.all2 λ_ _=>rfl)
   (case a12=>k_is);(case l12=>k_is);(case c12=>k_is);(case k12=>k_is)
  case d13=>
   refine' Ml.bY KX G ?a13 ?l13 ?c13 ?k13 (λ_ _ _ _ _ _=>Ml.all2 λ_ _=>rfl)
   (case a13=>k_is);(case l13=>k_is);(case c13=>k_is);(case k13=>k_is)
  case d14=>
   refine' Ml.bY KX G ?a14 ?l14 ?c14 ?k14 (λ_ _ _ _ _ _=>Ml.all2 λ_ _=>rfl)
   (case a14=>k_is);(case l14=>k_is);(case c14=>k_is);(case k14=>k_is)
  case d15=>
   refine' Ml.bY KX G ?a15 ?l15 ?c15 ?k15 (λ_ _ _ _ _ _=>Ml.all1 λ_=>rfl)
   (case a15=>k_is);(case l15=>k_is);(case c15=>k_is);(case k15=>k_is)
  case d16=>
   refine' Ml.bY KX G ?a16 ?l16 ?c16 ?k16 (λ_ _ _ _ _ _=>Ml.all1 λ_=>rfl)
   (case a16=>k_is);(case l16=>k_is);(case c16=>k_is);(case k16=>k_is)
  case d17=>
   refine' Ml.bY KX G ?a17 ?l17 ?c17 ?k17 (λ_ _ _ _ _ _=>Ml.all1 λ_=>rfl)
   (case a17=>k_is);(case l17=>k_is);(case c17=>k_is);(case k17=>k_is)
  case d18=>
   refine' Ml.bY KX G ?a18 ?l18 ?c18 ?k18 (λ_ _ _ _ _ _=>Ml.all1 λ_=>rfl)
   (case a18=>k_is);(case l18=>k_is);(case c18=>k_is);(case k18=>k_is)
  case d19=>
   refine' Ml.bY KX G ?a19 ?l19 ?c19 ?k19 (λ_ _ _ _ _ _=>Ml.all1 λ_=>rfl)
   (case a19=>k_is);(case l19=>k_is);(case c19=>k_is);(case k19=>k_is)
  case d20=>
   refine' Ml.bY KX G ?a20 ?l20 ?c20 ?k20 (λ_ _ _ _ _ _=>Ml.all1 λ_=>rfl)
   (case a20=>k_is);(case l20=>k_is);(case c20=>k_is);(case k20=>k_is)
  case d21=>
   refine' Ml.bY KX G ?a21 ?l21 ?c21 ?k21 (λ_ _ _ _ _ _=>Ml.all2 λ_ _=>rfl)
   (case a21=>k_is);(case l21=>k_is);(case c21=>k_is);(case k21=>k_is)
  case d22=>
   refine' Ml.bY KX G ?a22 ?l22 ?c22 ?k22 (λ_ _ _ _ _ _=>Ml.OQ λ_ _ _=>rfl)
   (case a22=>k_is);(case l22=>k_is);(case c22=>k_is);(case k22=>k_is)
  case d23=>
   refine' Ml.bY KX G ?a23 ?l23 ?c23 ?k23 (λ_ _ _ _ _ _=>Ml.all2 λ_ _=>rfl)
   (case a23=>k_is);(case l23=>k_is);(case c23=>k_is);(case k23=>k_is)
  case d24=>
   refine' Ml.bY KX G ?a24 ?l24 ?c24 ?k24 (λ_ _ _ _ _ _=>Ml.all2 λ_ _=>rfl)
   (case a24=>k_is);(case l24=>k_is);(case c24=>k_is);(case k24=>k_is)
  case d25=>
   refine' Ml.bY KX G ?a25 ?l25 ?c25 ?k25 (λ_ _ _ _ _ _=>Ml.OQ λ_ _ _=>rfl)
   (case a25=>k_is);(case l25=>k_is);(case c25=>k_is);(case k25=>k_is)
  case d26=>
   refine' Ml.bY KX G ?a26 ?l26 ?c26 ?k26 (λ_ _ _ _ _ _=>Ml.all2 λ_ _=>rfl)
   (case a26=>k_is);(case l26=>k_is);(case c26=>k_is);(case k26=>k_is)
  case d27=>
   refine' Ml.bY KX G ?a27 ?l27 ?c27 ?k27 (λ_ _ _ _ _ _=>Ml.all1 λ_=>rfl)
   (case a27=>k_is);(case l27=>k_is);(case c27=>k_is);(case k27=>k_is)
  case d28=>
   refine' Ml.bY KX G ?a28 ?l28 ?c28 ?k28 (λ_ _ _ _ _ _=>Ml.all2 λ_ _=>rfl)
   (case a28=>k_is);(case l28=>k_is);(case c28=>k_is);(case k28=>k_is)
  case d29=>
   refine' Ml.bY KX G ?a29 ?l29 ?c29 ?k29 (λ_ _ _ _ _ _=>Ml.all1 λ_=>rfl)
   (case a29=>k_is);(case l29=>k_is);(case c29=>k_is);(case k29=>k_is)
  case d30=>
   refine' Ml.bY KX G ?a30 ?l30 ?c30 ?k30 (λ_ _ _ _ _ _=>Ml.all1 λ_=>rfl)
   (case a30=>k_is);(case l30=>k_is);(case c30=>k_is);(case k30=>k_is)
  case d31=>
   refine' Ml.bY KX G ?a31 ?l31 ?c31 ?k31 (λ_ _ _ _ _ _=>Ml.all1 λ_=>rfl)
   (case a31=>k_is);(case l31=>k_is);(case c31=>k_is);(case k31=>k_is)
  case d32=>
   refine' Ml.bY KX G ?a32 ?l32 ?c32 ?k32 (λ_ _ _ _ _ _=>Ml.all2 λ_ _=>rfl)
   (case a32=>k_is);(case l32=>k_is);(case c32=>k_is);(case k32=>k_is)
  case d33=>
   refine' Ml.bY KX G ?a33 ?l33 ?c33 ?k33 (λ_ _ _ _ _ _=>Ml.all2 λ_ _=>rfl)
   (case a33=>k_is);(case l33=>k_is);(case c33=>k_is);(case k33=>k_is)
  case d34=>
   refine' Ml.bY KX G ?a34 ?l34 ?c34 ?k34 (λ_ _ _ _ _ _=>Ml.all2 λ_ _=>rfl)
   (case a34=>k_is);(case l34=>k_is);(case c34=>k_is);(case k34=>k_is)
  case d35=>
   refine' Ml.Ma KX G ?dta ?dtl ?dtc ?dth ?dtk (λ_ _ _ _ _ _=>Ml.all1 λ_=>rfl)
   (case dta=>k_is)
   (case dtl=>k_is)
   (case dtc=>k_is)
   (case dth=>kernel_rfl)
   (case dtk=>k_is)
  case dw=>
   refine' Ml.bY KX G ?aw ?lw ?cw ?kw (λ_ _ _ _ _ _=>Ml.all1 λ_=>rfl)
   (case aw=>k_is);(case lw=>k_is);(case cw=>k_is);(case kw=>k_is)
  case ds=>
   refine' Ml.bY KX G ?as ?ls ?cs ?ks (λ_ _ _ _ _ _=>Ml.all1 λ_=>rfl)
   (case as=>k_is);(case ls=>k_is);(case cs=>k_is);(case ks=>k_is)
  (case a=>k_is);(case l=>k_is);(case c=>k_is);(case k=>k_is)
