import PyProof.Rows.All
import Wide.All
import OpenK.AllK
import Wide.FinOn
import Lean
import PyProof.EqAt
import PyProof.EqKinds
import PyProof.TupleCall
import KE.KSortTup
import PyProof.Rows.SortShellK
import PyProof.Rows.SortWalk
import KE.KDictList
import KE.KStar
import PyProof.ListMulRoad
import PyProof.FactsAll.tuple
import KE.KTab
import PyProof.DictCompW
import PySem.SetOps
import PyProof.SetScanFacts
import PyProof.SetNew
import PyProof.SetRoads
import PyProof.Rows.SetFrom
import PyProof.WalksMore
import PyProof.CollectWalk
import PySem.Challenge.RW_everalike_k14_fullest_webs_and_how_many
set_option linter.all false
namespace PySem
abbrev PQ:=@PySem.wpAny_bind
abbrev PR:=@PySem.Heap.get?_push_of_some
abbrev PU:=@PySem.wpAny_pure
abbrev PV:=@Bool.and_eq_true
abbrev PX:=@List.mem_append_right
abbrev PY:=@Nat.le_refl
abbrev PZ:=@List.mem_cons
abbrev P0:=@Nat.lt_of_lt_of_le
abbrev P1:=@PySem.Heap.lt_size
abbrev P4:=@PySem.Heap.get?_push_size
abbrev P5:=@List.mem_cons_of_mem
abbrev P6:=@Nat.le_trans
abbrev P7:=@List.size_toArray
abbrev P8:=@Bool.false_eq_true
abbrev P9:=@List.getElem?_eq_getElem
abbrev Qa:=@List.length_map
abbrev Qb:=@decide_eq_true_eq
abbrev Qc:=@List.all_eq_true
abbrev Qd:=@List.length_append
abbrev Qe:=@List.mem_cons_self
abbrev Qf:=@List.length_cons
abbrev Qg:=@List.mem_append
abbrev Qh:=@Nat.ne_of_lt
abbrev Qi:=@List.getElem?_eq_some_iff
abbrev Qj:=@decide_eq_true
abbrev Qk:=@Nat.lt_irrefl
abbrev Ql:=@decide_eq_false
abbrev Qm:=@List.mem_singleton
abbrev Qn:=@List.map_cons
abbrev Qo:=@List.not_mem_nil
abbrev Qp:=@List.mem_map
abbrev Qq:=@List.mem_of_getElem?
abbrev Qr:=@PySem.Paired.length
abbrev Qs:=@Bool.false_ne_true
abbrev Qt:=@Array.getElem?_toList
abbrev Qu:=@List.getElem?_append_left
abbrev Qv:=@PySem.Heap.size_push
abbrev Qw:=@Array.getElem?_eq_getElem
abbrev Qx:=@Array.getD_eq_getD_getElem?
abbrev Qy:=@PySem.wpAny_call_entry
abbrev Qz:=@List.getElem?_append_right
abbrev QA:=@List.mem_append_left
abbrev QB:=@if_true
abbrev QC:=@PySem.wpAny_callSpecial?_slot
abbrev QD:=@PySem.wpAny_newObj_type
abbrev QE:=@PySem.W.mg_none_of
abbrev QF:=@Option.map_eq_some_iff
abbrev QG:=@PySem.wpAny_holding
abbrev QH:=@List.mem_filter
abbrev QJ:=@List.length_nil
abbrev QK:=@if_false
abbrev QL:=@List.pairwise_cons
abbrev QM:=@Classical.byContradiction
abbrev QN:=@PyProof.Rows.slot_tuple_getitem
abbrev QO:=@List.mem_range
abbrev QP:=@List.set_cons_zero
abbrev QQ:=@Array.getElem?_eq_some_iff
abbrev QR:=@Array.length_toList
abbrev QS:=@of_decide_eq_true
abbrev QT:=@List.drop_eq_getElem_cons
abbrev QU:=@List.set_cons_succ
abbrev QV:=@Option.some.inj
abbrev QW:=@List.length_replicate
abbrev QX:=@PySem.wpAny_seqItems
abbrev QY:=@List.getElem?_map
abbrev QZ:=@PySem.wpAny_Call_Name_kw
abbrev Q0:=@List.getElem?_set_self
abbrev Q1:=@List.drop_of_length_le
abbrev Q3:=@Bool.eq_iff_iff
abbrev Q4:=@PySem.W.kia_one
abbrev Q5:=@PyProof.Rows.F.plain_set_update_loop
abbrev Q6:=@PySem.mem_of_lookup
abbrev Q7:=@PySem.wpAny_mono
abbrev Q8:=@Int.toNat_natCast
abbrev Q9:=@PySem.wpAny_standAt
abbrev Ra:=@PySem.wpAny_field
abbrev Rb:=@List.nil_append
abbrev Rc:=@or_false
abbrev Rf:=@Nat.zero_le
abbrev Rg:=@PyProof.Rows.ReadsAll.keeps
abbrev Rh:=@List.getElem?_cons_zero
abbrev Ri:=@List.getElem?_of_mem
abbrev Rj:=@List.filter_cons
abbrev Rk:=@beq_eq_false_iff_ne
abbrev Rm:=@PySem.wpAny_truthy_bool
abbrev Ro:=@PySem.sizeLine_eq
abbrev Rp:=@List.replicate_succ
abbrev Rq:=@Nat.le_succ
abbrev Rr:=@Nat.lt_succ_of_lt
abbrev Rt:=@Bool.not_true
abbrev Ru:=@Nat.mul_le_mul
abbrev Rv:=@List.nodup_cons
abbrev Rx:=@PySem.Heap.get?_update_self
abbrev Ry:=@Bool.or_eq_true
abbrev Rz:=@List.find?_cons
abbrev RA:=@PySem.wpAny_ite_split
abbrev RB:=@List.length_filter_le
abbrev RC:=@List.zip_cons_cons
abbrev RD:=@List.Pairwise.imp_of_mem
abbrev RE:=@List.lookup_cons
abbrev RF:=@List.pairwise_append
abbrev RG:=@List.getElem?_cons_succ
abbrev RH:=@PySem.wpAny_rule
abbrev RI:=@PyProof.Rows.callWith_type1
abbrev RJ:=@List.forIn_cons
abbrev RK:=@PySem.F.slot_tuple_iterator_next
abbrev RL:=@Nat.lt_succ_self
abbrev RM:=@List.map_nil
abbrev RN:=@PySem.wpAny_setField_rec
abbrev RO:=@Nat.lt_or_ge
abbrev RP:=@List.take_append_drop
abbrev RQ:=@List.forIn_nil
abbrev RS:=@List.pairwise_iff_getElem
abbrev RT:=@Bool.not_false
abbrev RU:=@List.pairwise_iff_forall_sublist
abbrev RV:=@congrArg
abbrev RW:=@Array.mem_toList_iff
abbrev RX:=@List.mem_iff_getElem
abbrev RY:=@PySem.Around.under_plainId
abbrev RZ:=@Nat.pow_le_pow_right
abbrev R0:=@List.getElem?_take_of_lt
abbrev R1:=@List.flatten_cons
abbrev R3:=@Option.some.injEq
abbrev R4:=@PySem.wpAny_comprehension_free
abbrev R5:=@PySem.Heap.get?_push_ne
abbrev R6:=@List.nodup_append
abbrev R7:=@PySem.sizeLine_eq
abbrev R8:=@List.filterMap_cons_some
abbrev R9:=@List.filterMap_cons
abbrev Sa:=@List.getElem?_replicate
abbrev Sb:=@List.length_eq_zero_iff
abbrev Sd:=@List.getElem_of_mem
abbrev Se:=@Bool.and_self
abbrev Sf:=@List.cons_append
abbrev Sg:=@PySem.Heap.get?_update_other
abbrev Sh:=@List.mem_filterMap
abbrev Si:=@PySem.Calls.spliced_cons
abbrev Sj:=@PySem.tupleKind_room_in1
abbrev Sk:=@PySem.PyData.tuple.injEq
abbrev Sl:=@decide_eq_true_iff
abbrev Sm:=@Nat.ne_of_gt
abbrev Sn:=@PySem.wpAny_of_eq
abbrev So:=@PySem.wpAny_specialOf
abbrev Sr:=@List.cons.injEq
abbrev Ss:=@Int.emod_nonneg
abbrev Su:=@PySem.codeAny_builtin
abbrev Sv:=@PySem.F.called_set
abbrev Sw:=@List.any_cons
abbrev Sx:=@PySem.F.slot_tuple_hash
abbrev Sy:=@Bool.not_eq_true'
abbrev Sz:=@List.pairwise_map
abbrev SD:=@PySem.W.mg_of
abbrev SE:=@List.length_eraseIdx_of_lt
abbrev SF:=@List.getElem?_set_ne
abbrev SG:=@List.mem_of_mem_take
abbrev SH:=@PyProof.Rows.F.entry_set_update_loop
abbrev SI:=@List.length_take
abbrev SJ:=@PySem.Heap.size_update
abbrev SK:=@PySem.Heap.SameBut.update
abbrev SM:=@PySem.F.slot_dict_eq_refl
abbrev SN:=@Int.toNat_of_nonneg
abbrev SO:=@PySem.F.args_tuple_add_2
abbrev SQ:=@PySem.call_meets
abbrev SR:=@PySem.SetTable.toList_insertAt
abbrev SU:=@List.filterMap_cons_none
abbrev SV:=@Ne.symm
abbrev SW:=@PyProof.Rows.assignInOrder_cons
abbrev SX:=@PySem.wpAny_pyIter_tuple
abbrev SY:=@PySem.wpAny_passesOwn
abbrev S3:=@PySem.F.entry_tuple_add
abbrev S4:=@PySem.wpAny_attempt
abbrev S5:=@Array.forIn_toList
abbrev S6:=@Int.emod_lt_of_pos
abbrev S7:=@PySem.W.cellsFrom_some
abbrev S8:=@PySem.F.slot_tuple_add
abbrev S9:=@PySem.wpAny_load
abbrev Ta:=@PySem.Calls.spliced_nil
abbrev Tb:=@beq_iff_eq
abbrev Tc:=@List.eraseIdx_eq_take_drop_succ
abbrev Td:=@PySem.wpAny_pyIter_slot
abbrev Te:=@List.filter_congr
abbrev Tf:=@Bool.false_and
abbrev Tg:=@PySem.Value.type.inj
abbrev Th:=@Nat.le_of_lt
abbrev Ti:=@PySem.codeAny_mono
abbrev Tj:=@PyProof.Rows.callWith_builtin1
abbrev Tn:=@PySem.wpAny_typeOf
abbrev To:=@List.length_singleton
abbrev Tp:=@PySem.F.slot_dict_get
abbrev Tq:=@List.getElem?_eq_none
abbrev Tr:=@PySem.F.slot_tuple_lt
abbrev Ts:=@List.set_append_right
abbrev Tt:=@List.length_drop
abbrev Tu:=@List.any_eq_true
abbrev Tv:=@PySem.wpAny_isInstance
abbrev Tw:=@Nat.le_add_right
abbrev Tx:=@Option.getD_some
abbrev Tz:=@PySem.SeqAt.eqAt_reads
abbrev TB:=@PySem.wpAny_askSetting
abbrev TC:=@PySem.wpAny_loadName_local
abbrev TF:=@PySem.wpAny_updateSeq_pair
abbrev TH:=@Bool.or_eq_false_iff
abbrev TJ:=@List.all_cons
abbrev TK:=@PySem.plainId_quiet
abbrev TL:=@Nat.mod_lt
abbrev TM:=@PySem.wpAny_loadName_cell
abbrev TN:=@List.append_nil
abbrev TQ:=@List.of_mem_zip
abbrev TR:=@Option.map_some
abbrev TU:=@PySem.F.slot_zip_next
abbrev TV:=@decide_true
abbrev TX:=@PySem.Heap.dictOf_iff
abbrev TY:=@List.filter_map
abbrev TZ:=@List.map_map
abbrev T3:=@getElem?_pos
abbrev T4:=@Nat.pow_succ
abbrev T5:=@PySem.repr_of_reads'
abbrev T6:=@PySem.isSubtype_type
abbrev T7:=@PySem.wpAny_Name
abbrev T8:=@List.take_sublist
abbrev T9:=@List.append_assoc
abbrev Ua:=@bne_self_eq_false
abbrev Ub:=@Option.isSome_map
abbrev Uc:=@List.length_range
abbrev Ud:=@Function.comp_def
abbrev Ue:=@List.flatMap_cons
abbrev Ug:=@Bool.false_or
abbrev Uh:=@List.getElem_mem
abbrev Ui:=@decide_false
abbrev Uj:=Value → Shared → Prop
abbrev Uk:=List (Addr × Obj)
abbrev Ul:=List (PyData × PyData)
abbrev Um:=Array (Int × Value)
abbrev Uo:=Str → Option Value
abbrev Uq:=List PyData
abbrev Ur:=List Addr
abbrev Us:=List Value
abbrev Ut:=PySem.W.Frag
abbrev Uu:=List Str
abbrev Uv:=List Expr
abbrev Uw:=Array (Option Value)
abbrev Ux:=Array DictEntry
abbrev Uy:=Array Value
abbrev Uz:=Array Nat
abbrev UA:=Program
abbrev UB:=SetTable
abbrev UC:=Around
abbrev UD:=Shared
end PySem
noncomputable section
set_option compiler.extract_closed false
set_option Elab.async false
set_option linter.all false
set_option maxRecDepth 100000
namespace L2
open PySem PySem.Spec PyProof.Rows
abbrev Key:=Sum Int Str
def q0:Key->Value->Bool
 | .inl k,v=>Value.isInt k v
 | .inr x,v=>Value.isStrOf x v
def Nh (w:World):Key->Int
 | .inl k=>hashInt k
 | .inr x=>hashStr w x
theorem cv:∀ {k:Key} {v:Value},q0 k v=true->(∃ i t,k=Sum.inl i/\v=Value.int i t)\/(∃ x t,k=Sum.inr x/\v=Value.str x t)
 | .inl i,v,h=>by obtain ⟨t,e⟩:=Value.isInt_shape (k:=i) (v:=v) h;exact .inl ⟨i,t,rfl,e⟩
 | .inr x,v,h=>by obtain ⟨t,e⟩:=Value.isStrOf_shape (x:=x) (v:=v) h;exact .inr ⟨x,t,rfl,e⟩
theorem BR (i:Int) (t:Tok):q0 (.inl i) (.int i t)=true:=by simp [q0,Value.isInt]
theorem BS (x:Str) (t:Tok):q0 (.inr x) (.str x t)=true:=by simp [q0,Value.isStrOf]
theorem IE (a b:Int):decide ((Sum.inl a:Key)=Sum.inl b)=(a == b):=by
 by_cases e:a=b
 ·subst e;simp
 ·have h:¬ (Sum.inl a:Key)=Sum.inl b:=λq=>e (Sum.inl.inj q);rw [Ql h];exact (Rk.mpr e).symm
theorem IF (a b:Str):decide ((Sum.inr a:Key)=Sum.inr b)=decide (a=b):=by
 by_cases e:a=b
 ·subst e;simp
 ·have h:¬ (Sum.inr a:Key)=Sum.inr b:=λq=>e (Sum.inr.inj q);rw [Ql h,Ql e]
theorem IG (a:Int) (b:Str):decide ((Sum.inl a:Key)=Sum.inr b)=false:=Ql (λq=>nomatch q)
theorem IH (a:Str) (b:Int):decide ((Sum.inr a:Key)=Sum.inl b)=false:=Ql (λq=>nomatch q)
noncomputable def bD (prog:UA) (w:World):PySem.KeyKind prog w Key where
 is:=q0
 hash:=Nh w
 inj:=λv a b ha hb=>by
  rcases cv ha with ⟨i,t,rfl,rfl⟩ | ⟨x,t,rfl,rfl⟩
  ·rcases cv hb with ⟨j,u,rfl,e⟩ | ⟨y,u,rfl,e⟩
   ·injection e with e1 _;rw [e1]
   ·exact nomatch e
  ·rcases cv hb with ⟨j,u,rfl,e⟩ | ⟨y,u,rfl,e⟩
   ·exact nomatch e
   ·injection e with e1 _;rw [e1]
 byValue:=λk v h=>by rcases cv h with ⟨i,t,rfl,rfl⟩ | ⟨x,t,rfl,rfl⟩<;>rfl
 pyHash:=λhv h=>by
  rcases cv hv with ⟨i,t,rfl,rfl⟩ | ⟨x,t,rfl,rfl⟩
  ·exact wpAny_pyHash_int h
  ·exact wpAny_pyHash_str h
 eqBool:=λhu hv h=>by
  rcases cv hu with ⟨i,t,rfl,rfl⟩ | ⟨x,t,rfl,rfl⟩
  ·rcases cv hv with ⟨j,u,rfl,rfl⟩ | ⟨y,u,rfl,rfl⟩
   ·rw [IE] at h;exact wpAny_eqBool_int h
   ·rw [IG] at h;exact SeqAt.EqAt.int_str i t y u _ _ _ _ h
  ·rcases cv hv with ⟨j,u,rfl,rfl⟩ | ⟨y,u,rfl,rfl⟩
   ·rw [IH] at h;exact SeqAt.EqAt.str_int x t j u _ _ _ _ h
   ·rw [IF] at h;exact wpAny_eqBool_str h
 «strs» := λk x t v h=>by
  rcases cv h with ⟨i,u,rfl,e⟩ | ⟨y,u,rfl,e⟩
  ·exact nomatch e
  ·injection e with e1 _;subst e1;cases v<;>rfl
theorem xt (prog:UA) (w:World) (i:Int) (t:Tok):(bD prog w).is (.inl i) (.int i t)=true:=BR i t
theorem xu (prog:UA) (w:World) (x:Str) (t:Tok):(bD prog w).is (.inr x) (.str x t)=true:=BS x t
inductive V where
 | non | bl (b:Bool) | int (i:Int) | str (x:Str) | byt (b:Array UInt8) | flt (b:UInt64) | ref (a:Addr) | ty (n:String)
 deriving DecidableEq
noncomputable def RelV:V->Value->Prop
 | .non,u=>u=Value.none
 | .bl b,u=>u=Value.bool b
 | .int i,u=>∃ t,u=Value.int i t
 | .str x,u=>∃ t,u=Value.str x t
 | .byt b,u=>∃ t,u=Value.bytes b t
 | .flt b,u=>∃ t,u=Value.float b t
 | .ref a,u=>u=Value.ref a
 | .ty n,u=>u=Value.type n
abbrev Vals:List V->Us->Prop:=Paired RelV
theorem Vals.length {xs:List V} {us:Us} (r:Vals xs us):xs.length=us.length:=Qr r
theorem Vals.get:∀ {xs:List V} {us:Us} {i:Nat} {x:V},Vals xs us->xs[i]?=some x->∃ u,us[i]?=some u/\RelV x u
 | _,_,_,_,.nil,e=>by simp at e
 | _,_,0,_,.cons r _,e=>by simp at e;subst e;exact ⟨_,rfl,r⟩
 | _,_,i+1,x,.cons _ t,e=>by obtain ⟨u,h1,h2⟩:=Vals.get (i:=i) (x:=x) t (by simpa using e);exact ⟨u,by simpa using h1,h2⟩
theorem Vals.set {x:V} {u:Value} (r:RelV x u):∀ {xs:List V} {us:Us} (i:Nat),Vals xs us->Vals (xs.set i x) (us.set i u)
 | _,_,_,.nil=>.nil
 | _,_,0,.cons _ t=>.cons r t
 | _,_,i+1,.cons q t=>.cons q (Vals.set r i t)
theorem Vals.append:∀ {xs ys:List V} {us ws:Us},Vals xs us->Vals ys ws->Vals (xs++ys) (us++ws)
 | _,_,_,_,.nil,s=>s
 | _,_,_,_,.cons r t,s=>.cons r (Vals.append t s)
theorem Vals.take:∀ {xs:List V} {us:Us} (n:Nat),Vals xs us->Vals (xs.take n) (us.take n)
 | _,_,0,_=>.nil
 | _,_,_+1,.nil=>.nil
 | _,_,n+1,.cons r t=>.cons r (Vals.take n t)
theorem Vals.drop:∀ {xs:List V} {us:Us} (n:Nat),Vals xs us->Vals (xs.drop n) (us.drop n)
 | _,_,0,r=>r
 | _,_,_+1,.nil=>.nil
 | _,_,n+1,.cons _ t=>Vals.drop n t
def oY:Option V->Option Value->Prop
 | some v,some u=>RelV v u
 | none,none=>True
 | _,_=>False
def KV {κ:Type}:List (κ×V)->List (κ×Value)->Prop:=Paired λ(p:κ×V) (q:κ×Value)=>p.1=q.1/\RelV p.2 q.2
def kV:Key->V
 | .inl i=>.int i
 | .inr x=>.str x
inductive HO where
 | lst (xs:List V)
 | tup (xs:List V)
 | dK (kvs:List (Key×V)) | dT (kvs:List (List Key×V))
 | set (S:Int->Bool) (n:Nat)
 | ins (C dx:Addr) (fs:List (Str×V))
 | own (x:Addr)
 | xd (fs:List (Str×V))
 | met (f x:Addr)
 | rng (lo hi:Int)
 | frz (o:Obj) (u:HO)
 | tbl (ps:Uy)
 | ext (φ:Heap->Prop)
abbrev Hp:=Addr->Option HO
def upd (H:Hp) (a:Addr) (o:HO):Hp:=λb=>if b=a then some o else H b
theorem aX {H:Hp} {a:Addr} {o:HO}:upd H a o a=some o:=by unfold upd;rw [if_pos rfl]
theorem ay {H:Hp} {a b:Addr} {o:HO} (h:b≠a):upd H a o b=H b:=by unfold upd;rw [if_neg h]
theorem Lm {H:Hp} {a b:Addr} {o u:HO} (h:H a=some o) (h':H b=some u) (d:o≠u):a≠b:=by intro e;subst e;rw [h] at h';exact d (QV h')
theorem aD {H:Hp} {a b:Addr} {o:HO} (h:H a=some o) (h':H b=none):a≠b:=by intro e;subst e;rw [h] at h';cases h'
section
variable (P:UA) (w:World)
noncomputable def cw (H:Hp) (h:Heap) (a:Addr):HO->Prop
 | .lst xs=>xs.length<=sizeLine/\∃ (its:Us) (n:Nat),Vals xs its/\h.get? a=some {cls:=.type "list",data:=.seq its.toArray n}
 | .tup xs=>xs.length<=sizeLine/\∃ its:Us,Vals xs its/\IsTup h a its.toArray
 | .dK kvs=>kvs.length<=sizeLine/\(a == sysModules)=false/\∃ vs,KV kvs vs/\h.DictOf (bD P w) a vs
 | .dT kvs=>kvs.length<=sizeLine/\(a == sysModules)=false/\∃ xs:List (List Key×Addr×Value),
   Paired (λ(p:List Key×V) (q:List Key×Addr×Value)=>p.1=q.1/\H q.2.1=some (.tup (p.1.map kV))/\RelV p.2 q.2.2) kvs xs /\
   ∃ o es ep,h.get? a=some o/\o.ExactDict/\o.data=.dict es ep/\es.toList=xs.map (entryOfKey (tupleKind (bD P w)))/\(xs.map (·.1)).Nodup
 | .set S n=>h.SetOf (intKind P w) a S n
 | .ins C dx fs=>H dx=some (.own a)/\fs.length<=1000/\dx≠a/\h.get? a=some (PySem.W.instObj C dx) /\
   ∃ mA,h.Ns1 dx mA/\(∀ f,oY (fs.lookup f) (mA f))/\PySem.Within mA (fs.map (·.1))
 | .own _=>∃ o,h.get? a=some o
 | .xd fs=>∃ mA,h.Ns1 a mA/\∀ f,oY (fs.lookup f) (mA f)
 | .rng lo hi=>∃ t u v,h.get? a=some {cls:=.type "range",data:=.fields #[.int lo t,.int hi u,.int 1 v]}
 | .frz o u=>h.get? a=some o/\cw H h a u
 | .tbl ps=>h.get? a=some {cls:=.none,data:=.fields ps}
 | .met f x=>h.get? a=some (PySem.W.methodObj (.ref f) (.ref x))
 | .ext φ=>φ h/\(∃ o,h.get? a=some o)/\∀ h1 h2:Heap,φ h1->(∀ o,h1.get? a=some o->h2.get? a=some o)->φ h2
def kq (H:Hp) (h:Heap):Prop:=∀ a o,H a=some o->cw P w H h a o
end
section
variable {P:UA} {w:World} {H H':Hp} {h h':Heap} {a:Addr} {o:HO}
theorem cw.lt (x:cw P w H h a o):a < h.objs.size:=by
 cases o with
 | lst xs=>obtain ⟨_,_,_,_,e⟩:=x;exact P1 e
 | tup xs=>obtain ⟨_,_,_,p⟩:=x;exact p.lt
 | dK kvs=>obtain ⟨_,_,_,_,o,_,_,e,_⟩:=x;exact P1 e
 | dT kvs=>obtain ⟨_,_,_,_,o,_,_,e,_⟩:=x;exact P1 e
 | set S n=>obtain ⟨o,_,_,_,e,_⟩:=x;exact P1 e
 | ins C dx fs=>obtain ⟨_,_,_,e,_⟩:=x;exact P1 e
 | own y=>obtain ⟨_,e⟩:=x;exact P1 e
 | xd fs=>obtain ⟨_,⟨_,_,_,e,_⟩,_⟩:=x;exact P1 e
 | rng lo hi=>obtain ⟨_,_,_,e⟩:=x;exact P1 e
 | frz ob u=>obtain ⟨e,_⟩:=x;exact P1 e
 | tbl ps=>exact P1 (show h.get? a=some _ from x)
 | met f y=>exact P1 (show h.get? a=some _ from x)
 | ext φ=>obtain ⟨_,⟨_,e⟩,_⟩:=x;exact P1 e
theorem Paired.tV {α β:Type} {F G:α->β->Prop}:∀ {l₁:List α} {l₂:List β},Paired F l₁ l₂->(∀ a b,F a b->G a b)->Paired G l₁ l₂
 | _,_,.nil,_=>.nil
 | _,_,.cons r t,f=>.cons (f _ _ r) (Paired.tV t f)
theorem cw.qG (x:cw P w H h a o) (k:∀ b u,(b=a\/H b=some (.own a))->h.get? b=some u->h'.get? b=some u)
  (ho:∀ b,H b=some (.own a)->H' b=some (.own a)) (ht:∀ b xs,H b=some (.tup xs)->H' b=some (.tup xs)):cw P w H' h' a o:=by
 induction o with
 | lst xs=>obtain ⟨z,its,n,r,e⟩:=x;exact ⟨z,its,n,r,k _ _ (.inl rfl) e⟩
 | tup xs=>obtain ⟨z,its,r,ob,e,c⟩:=x;exact ⟨z,its,r,ob,k _ _ (.inl rfl) e,c⟩
 | dK kvs=>obtain ⟨z,y,vs,r,ob,es,ep,e,c⟩:=x;exact ⟨z,y,vs,r,ob,es,ep,k _ _ (.inl rfl) e,c⟩
 | dT kvs=>obtain ⟨z,y,xs,r,ob,es,ep,e,c⟩:=x;exact ⟨z,y,xs,Paired.tV r λp q z=>⟨z.1,ht _ _ z.2.1,z.2.2⟩,ob,es,ep,k _ _ (.inl rfl) e,c⟩
 | set S n=>obtain ⟨ob,es,ep,t,e,c⟩:=x;exact ⟨ob,es,ep,t,k _ _ (.inl rfl) e,c⟩
 | ins C dx fs=>obtain ⟨d,z,ne,e,mA,⟨od,es,ep,e2,c⟩,r⟩:=x;exact ⟨ho _ d,z,ne,k _ _ (.inl rfl) e,mA,⟨od,es,ep,k _ _ (.inr d) e2,c⟩,r⟩
 | own y=>obtain ⟨ob,e⟩:=x;exact ⟨ob,k _ _ (.inl rfl) e⟩
 | xd fs=>obtain ⟨mA,⟨od,es,ep,e,c⟩,r⟩:=x;exact ⟨mA,⟨od,es,ep,k _ _ (.inl rfl) e,c⟩,r⟩
 | rng lo hi=>obtain ⟨t,u,v,e⟩:=x;exact ⟨t,u,v,k _ _ (.inl rfl) e⟩
 | frz ob u ih=>obtain ⟨e,q⟩:=x;exact ⟨k _ _ (.inl rfl) e,ih q⟩
 | tbl ps=>have e:h.get? a=some {cls:=.none,data:=.fields ps}:=x;show h'.get? a=some {cls:=.none,data:=.fields ps};exact k a _ (.inl rfl) e
 | met f y=>have e:h.get? a=some (PySem.W.methodObj (.ref f) (.ref y)):=x;show h'.get? a=some (PySem.W.methodObj (.ref f) (.ref y));exact k a _ (.inl rfl) e
 | ext φ=>obtain ⟨p,⟨o,e⟩,st⟩:=x;exact ⟨st _ _ p λo q=>k _ _ (.inl rfl) q,⟨o,k _ _ (.inl rfl) e⟩,st⟩
theorem kq.lt (x:kq P w H h) (e:H a=some o):a < h.objs.size:=(x a o e).lt
theorem kq.fresh (x:kq P w H h) (e:h.objs.size<=a):H a=none:=by
 cases q:H a with
 | none=>rfl
 | some u=>exact absurd (P0 (x.lt q) e) (Qk _)
theorem kq.kept (x:kq P w H h) (k:∀ b u,h.get? b=some u->h'.get? b=some u):kq P w H h':=λa o e=>
 (x a o e).qG (λb u _ q=>k b u q) (λ_ q=>q) λ_ _ q=>q
theorem kq.laid (x:kq P w H h) (k:∀ b u,h.get? b=some u->h'.get? b=some u) (hp:h.objs.size<=a) (new:cw P w (upd H a o) h' a o):kq P w (upd H a o) h':=λb u e=>by
 have hn:=x.fresh hp;by_cases hb:b=a
 ·subst hb;rw [aX] at e;cases e;exact new
 ·rw [ay hb] at e;exact (x b u e).qG (λc v _ q=>k c v q) (λc q=>by rw [ay (aD q hn)];exact q) λc xs q=>by rw [ay (aD q hn)];exact q
end
def Rd (H:Hp) (a:Addr) (u:HO):Prop:=H a=some u\/∃ o,H a=some (.frz o u)
theorem Rd.ok {P:UA} {w:World} {H:Hp} {h:Heap} {a:Addr} {u:HO} (r:Rd H a u) (x:kq P w H h):cw P w H h a u:=by
 rcases r with r | ⟨o,r⟩
 ·exact x a u r
 ·obtain ⟨_,q⟩:=x a _ r;exact q
def K4:Option HO->Prop
 | some (.lst _)=>True
 | some (.dK _)=>True
 | some (.dT _)=>True
 | some (.set _ _)=>True
 | some (.ins _ _ _)=>True
 | some (.ext _)=>True
 | _=>False
section
variable {P:UA} {w:World} {H:Hp} {h h':Heap} {x e:Addr} {o':HO}
theorem kq.write (ok:kq P w H h) (mu:K4 (H x)) (he:e=x\/H e=some (.own x)) (k:∀ b u,b≠e->h.get? b=some u->h'.get? b=some u) (heo:∃ u,h'.get? e=some u)
  (new:cw P w (upd H x o') h' x o'):kq P w (upd H x o') h':=λb u q=>by
 have nown:∀ c y,H c=some (.own y)->c≠x:=λc y r z=>by subst z;rw [r] at mu;exact mu
 have ntup:∀ c xs,H c=some (.tup xs)->c≠x:=λc xs r z=>by subst z;rw [r] at mu;exact mu
 by_cases hb:b=x
 ·subst hb;rw [aX] at q;cases q;exact new
 ·rw [ay hb] at q;by_cases hbe:b=e
  ·have q':H b=some (.own x):=by
    rcases he with z | z
    ·exact absurd (hbe.trans z) hb
    ·rw [hbe];exact z
   rw [q] at q';cases q';obtain ⟨v,hv⟩:=heo;exact ⟨v,by rw [hbe];exact hv⟩
  ·refine (ok b u q).qG (λc v hc r=>k c v ?_ r) (λc r=>by rw [ay (nown c b r)];exact r) λc xs r=>by rw [ay (ntup c xs r)];exact r
   rcases hc with rfl | hc
   ·exact hbe
   ·rintro rfl;rcases he with z | z
    ·exact nown c b hc z
    ·rw [hc] at z;cases z;exact hb rfl
end
structure Un (fs ex:Ur) (H H':Hp) (h h':Heap):Prop where
 keep:∀ b o,h.get? b=some o->H b=none->b∉fs->b∉ex->h'.get? b=some o
 slot:∀ b o,h.get? b=some o->H b=none->b∈fs->b∉ex->∃ sl,h'.get? b=some {o with slots:=sl}
 free:∀ b o,h.get? b=some o->H b=none->b∉ex->H' b=none
 there:∀ b o,h.get? b=some o->b∉ex->∃ o',h'.get? b=some o'
 tups:∀ b xs,H b=some (.tup xs)->H' b=some (.tup xs)
 frzs:∀ b o u,H b=some (.frz o u)->H' b=some (.frz o u)
 tbls:∀ b ps,H b=some (.tbl ps)->∃ more,H' b=some (.tbl (ps++more))
section
variable {fs fs' ex ex':Ur} {H H1 H2:Hp} {h h1 h2 h':Heap} {a x e:Addr} {o:HO}
theorem Un.any (u:Un fs ex H H1 h h1) {b:Addr} {ob:Obj} (q:h.get? b=some ob) (n:H b=none) (hx:b∉ex):∃ sl,h1.get? b=some {ob with slots:=sl}:=by
 by_cases hb:b∈fs
 ·exact u.slot b ob q n hb hx
 ·exact ⟨ob.slots,u.keep b ob q n hb hx⟩
theorem Un.kept (k:∀ b u,h.get? b=some u->h'.get? b=some u):Un fs ex H H h h':=
 ⟨λb ob q _ _ _=>k b ob q,λb ob q _ _ _=>⟨ob.slots,k b ob q⟩,λ_ _ _ n _=>n,λb ob q _=>⟨ob,k b ob q⟩,λ_ _ q=>q,λ_ _ _ q=>q,λ_ ps q=>⟨#[],by rw [q];simp⟩⟩
theorem Un.refl:Un fs ex H H h h:=Un.kept λ_ _ q=>q
theorem Un.laid (k:∀ b u,h.get? b=some u->h'.get? b=some u) (hp:h.objs.size<=a) (hn:H a=none):Un fs ex H (upd H a o) h h' where
 keep:=λb u q _ _ _=>k b u q
 slot:=λb u q _ _ _=>⟨u.slots,k b u q⟩
 free:=λb u q n _=>by rw [ay (Qh (P0 (P1 q) hp))];exact n
 there:=λb u q _=>⟨u,k b u q⟩
 tups:=λb xs q=>by rw [ay (aD q hn)];exact q
 frzs:=λb u xs q=>by rw [ay (aD q hn)];exact q
 tbls:=λb ps q=>⟨#[],by rw [ay (aD q hn),q];simp⟩
theorem Un.write (mu:K4 (H x)) (he:e=x\/H e=some (.own x)) (k:∀ b u,b≠e->h.get? b=some u->h'.get? b=some u) (heo:∃ u,h'.get? e=some u):Un fs ex H (upd H x o) h h':=by
 have hx:∀ b,H b=none->b≠x:=λb n z=>by subst z;rw [n] at mu;exact mu
 have hb:∀ b,H b=none->b≠e:=λb n z=>by
  subst z;rcases he with r | r
  ·exact hx b n r
  ·rw [n] at r;cases r
 have hm:∀ b u,H b=some u->¬ K4 (some u)->b≠x:=λb u q nm z=>by subst z;rw [q] at mu;exact nm mu
 refine ⟨λb u q n _ _=>k b u (hb b n) q,λb u q n _ _=>⟨u.slots,k b u (hb b n) q⟩,λb u q n _=>by rw [ay (hx b n)];exact n,λb u q _=>?_,
  λb xs q=>by rw [ay (hm b _ q λz=>z)];exact q,λb u xs q=>by rw [ay (hm b _ q λz=>z)];exact q,λb ps q=>⟨#[],by rw [ay (hm b _ q λz=>z),q];simp⟩⟩
 by_cases hbe:b=e
 ·subst hbe;exact heo
 ·exact ⟨u,k b u hbe q⟩
end
def BU (h:Heap) (H:Hp):Ur:=(List.range h.objs.size).filter λa=>(H a).isSome
def vJ (h:Heap) (H:Hp):Heap:=PySem.W.hideAll h (BU h H)
theorem BV (h:Heap) (H:Hp):(vJ h H).objs.size=h.objs.size:=PySem.W.hideAll_size _ _
theorem C2 {h:Heap} {H:Hp} {b:Addr} {o:Obj} (e:h.get? b=some o) (n:H b=none):(vJ h H).get? b=some o:=
 PySem.W.hideAll_get _ e λhm=>by have q:(H b).isSome=true:=(QH.mp hm).2;rw [n] at q;simp at q
theorem FX {h:Heap} {H:Hp} {b:Addr} {o:Obj} (e:(vJ h H).get? b=some o):h.get? b=some o/\H b=none:=by
 have e':h.get? b=some o:=PySem.W.of_hideAll (BU h H) e;refine ⟨e',?_⟩
 cases q:H b with
 | none=>rfl
 | some x=>have hm:b∈BU h H:=QH.mpr ⟨QO.mpr (P1 e'),by simp [q]⟩;have z:(vJ h H).get? b=none:=PySem.W.hideAll_none (BU h H) hm;rw [z] at e;cases e
def FY (g h:Heap) (L:Addr):Uk:=(List.range h.objs.size).filterMap λa=>if a=L\/(g.get? a).isSome=true then none else (h.get? a).map λo=>(a,o)
def rest (g h:Heap) (L d:Addr):Uk:=(FY g h L).filter λp=>decide (p.1≠d)
structure Mod (K:Ut) (mg:Uo) (base:Heap):Prop where
 kin:K.In base
 glob:base.Ns mainGlobals mg
 blt:∃ mb,base.Ns builtinsNs mb/\∀ x:Str,x ≠ "__name__" -> mb x=bootBuiltins x
 nolimit:base.NoLimit
structure Cx where
 prog:UA
 w:World
 K:Ut
 mg:Str->Option Value
 base:Heap
 A:UC
 N:Uu
 s₀:UD
 H₀:Hp
 env:Env
 outer:List Env
 stack:List Env
 ex:Ur
 fn:Str->Bool
 calm:Bool
 pn:Uk
 xe:Uj
def tS (l:List Env):Ur:=l.filterMap (·.frame)
abbrev Cx.fs (X:Cx):Ur:=tS X.outer
def FZ (sc:Scope) (x:Str):Prop:=sc.names.lookup x=some .local\/sc.names.lookup x=some .cell\/sc.names.lookup x=some .free
def Loc (sc:Scope) (x:Str):Prop:=sc.names.lookup x=some .local\/sc.names.lookup x=some .cell
def Look (env:Env) (h:Heap) (m:Uo) (x:Str) (u:Value):Prop:=
 (env.kindOf x=some .local/\m x=some u)\/((env.kindOf x=some .cell\/env.kindOf x=some .free)/\∃ c,env.cells.lookup x=some c/\h.IsCell c (some u))
structure Cx.Ok (X:Cx):Prop where
 mod:Mod X.K X.mg X.base
 kind:X.env.scope.kind=.function
 glob:X.env.globals=mainGlobals
 blt:X.env.builtins=builtinsNs
 above:X.s₀.heap.objs.size<=X.env.locals
 inj:∀ x y c,X.env.cells.lookup x=some c->X.env.cells.lookup y=some c->x=y
 has:∀ x,(X.env.kindOf x=some .cell\/X.env.kindOf x=some .free)->∃ c,X.env.cells.lookup x=some c
 cab:∀ x c,X.fn x=true->X.env.cells.lookup x=some c->X.s₀.heap.objs.size<=c
 hd:X.calm=true->X.A.handled=none
 frames:X.A.frames=some X.stack
 stk:X.stack=X.outer\/(X.stack=X.env::X.outer/\X.env.frame=some X.env.locals)
 exf:∀ b∈X.ex,b≠X.env.locals/\∀ x c,X.env.cells.lookup x=some c->c≠b
 bs:∀ b o,X.base.get? b=some o->X.s₀.heap.get? b=some o/\X.H₀ b=none
 bsz:X.base.objs.size<=X.s₀.heap.objs.size
 noex:∀ b o,X.base.get? b=some o->b∉X.ex
 exfs:∀ b∈X.ex,b∉X.fs
 oZ:X.s₀.heap.FunFrames X.base X.outer
 frf:∀ b∈X.fs,X.H₀ b=none
structure Inv (X:Cx) (pins:Uk) (σ:List (Option V)) (H:Hp) (s:UD):Prop where
 ok:X.Ok
 os:s.os=X.s₀.os
 bare:AllBare s.gens
 base:Un X.fs X.ex X.H₀ H X.s₀.heap s.heap
 loc:∃ m,s.heap.Ns X.env.locals m/\∀ (i:Nat) (x:Str) (v:V),X.N[i]?=some x->σ[i]?=some (some v)->FZ X.env.scope x->∃ u,RelV v u/\Look X.env s.heap m x u
 cell:∀ x c,X.env.cells.lookup x=some c->∃ v,s.heap.IsCell c v
 free:H X.env.locals=none
 freeC:∀ x c,X.env.cells.lookup x=some c->H c=none
 pin:∀ p∈X.pn++pins,s.heap.get? p.1=some p.2/\H p.1=none/\p.1≠X.env.locals/\p.1∉X.fs/\∀ v,p.2.data≠.cell v
 hok:kq X.prog X.w H s.heap
 len:σ.length=X.N.length
section
variable {X:Cx} {pins:Uk} {σ:List (Option V)} {H H':Hp} {s:UD} {h':Heap}
theorem Cx.Ok.Ni (ok:X.Ok) {b:Addr} {o:Obj} (e:X.base.get? b=some o):b∉X.fs:=λhb=>by have:=(ok.oZ.mem hb).1;rw [e] at this;cases this
theorem Inv.bs (I:Inv X pins σ H s):∀ b o,X.base.get? b=some o->s.heap.get? b=some o/\H b=none:=λb o e=>
 ⟨I.base.keep b o (I.ok.bs b o e).1 (I.ok.bs b o e).2 (I.ok.Ni e) (I.ok.noex b o e),I.base.free b o (I.ok.bs b o e).1 (I.ok.bs b o e).2 (I.ok.noex b o e)⟩
theorem Inv.bk (I:Inv X pins σ H s):∀ b o,X.base.get? b=some o->s.heap.get? b=some o:=λb o e=>(I.bs b o e).1
theorem Inv.mod (I:Inv X pins σ H s):Mod X.K X.mg X.base:=I.ok.mod
theorem Inv.tT (I:Inv X pins σ H s):X.K.In s.heap:=I.ok.mod.kin.keeps I.bk
theorem Inv.lt (I:Inv X pins σ H s):X.env.locals < s.heap.objs.size:=let ⟨_,hn,_⟩:=I.loc;hn.lt
theorem Inv.sz (I:Inv X pins σ H s):X.s₀.heap.objs.size<=s.heap.objs.size:=P6 I.ok.above (Th I.lt)
theorem Inv.zc (I:Inv X pins σ H s) {a:Addr} (h:s.heap.objs.size<=a):a∉X.fs:=λhb=>by obtain ⟨_,o,ho,_⟩:=I.ok.oZ.mem hb;exact absurd (P0 (P1 ho) (P6 I.sz h)) (Qk _)
theorem Inv.II (I:Inv X pins σ H s):∀ x c,X.env.cells.lookup x=some c->c≠X.env.locals:=λx c e z=>by obtain ⟨v,o,ho,hd⟩:=I.cell x c e;obtain ⟨m,⟨o',es,ep,ho',hd',_⟩,_⟩:=I.loc;rw [z,ho'] at ho;cases ho;rw [hd'] at hd;cases hd
theorem Inv.oZ (I:Inv X pins σ H s):s.heap.FunFrames X.base X.outer:=by
 have all:∀ (l:List Env),(∀ b∈tS l,b∈X.fs)->X.s₀.heap.FunFrames X.base l->s.heap.FunFrames X.base l:=by
  intro l
  induction l with
  | nil=>intro _ _;trivial
  | cons env r ih=>intro hs hl;obtain ⟨hk,⟨L,o,hf,hn,ho,hd⟩,hr⟩:=hl;have hL:L∈X.fs:=hs L (by unfold tS;rw [R9,hf];exact Qe);obtain ⟨sl,e⟩:=I.base.slot L o ho (I.ok.frf L hL) hL λz=>I.ok.exfs L z hL;exact ⟨hk,⟨L,_,hf,hn,e,hd⟩,ih (λb hb=>hs b (by unfold tS;rw [R9,hf];exact P5 _ hb)) hr⟩
 exact all X.outer (λ_ hb=>hb) I.ok.oZ
theorem Inv.stack (I:Inv X pins σ H s):s.heap.FunFrames X.base X.stack:=by
 rcases I.ok.stk with e | ⟨e,hf⟩
 ·rw [e];exact I.oZ
 ·rw [e];obtain ⟨m,hn,_⟩:=I.loc;refine .cons (by rw [I.ok.kind];decide) hf hn ?_ I.oZ;exact Heap.get?_none_of_le (P6 I.ok.bsz I.ok.above)
theorem Inv.iV (I:Inv X pins σ H s):∀ b∈tS X.stack,b∈X.env.locals::X.fs:=λb hb=>by
 rcases I.ok.stk with e | ⟨e,hf⟩
 ·rw [e] at hb;exact P5 _ hb
 ·rw [e] at hb;unfold tS at hb;rw [R9,hf] at hb;exact hb
theorem Inv.Az (I:Inv X pins σ H s):∀ b∈tS X.stack,H b=none:=λb hb=>by
 rcases PZ.mp (I.iV b hb) with e | hb
 ·rw [e];exact I.free
 ·obtain ⟨_,o,ho,_⟩:=I.ok.oZ.mem hb;exact I.base.free b o ho (I.ok.frf b hb) λz=>I.ok.exfs b z hb
theorem Inv.step {g':Array GenState} {t':Nat} {d':Drawn} {ch:Ur} (I:Inv X pins σ H s)
  (hch:∀ b∈ch,(b∈X.ex\/X.s₀.heap.objs.size<=b)/\b≠X.env.locals/\(∀ x c,X.env.cells.lookup x=some c->c≠b)/\∀ p∈X.pn++pins,p.1≠b)
  (keep:∀ b o,b≠X.env.locals->b∉X.fs->b∉ch->s.heap.get? b=some o->H b=none->h'.get? b=some o)
  (slot:∀ b o,b≠X.env.locals->b∈X.fs->b∉ch->s.heap.get? b=some o->H b=none->∃ sl,h'.get? b=some {o with slots:=sl}) (free:∀ b o,b∉ch->s.heap.get? b=some o->H b=none->H' b=none)
  (there:∀ b o,b∉ch->s.heap.get? b=some o->∃ o',h'.get? b=some o')
  (tups:∀ b xs,H b=some (.tup xs)->H' b=some (.tup xs)) (frzs:∀ b o u,H b=some (.frz o u)->H' b=some (.frz o u)) (tbls:∀ b ps,H b=some (.tbl ps)->∃ more,H' b=some (.tbl (ps++more)))
  (ns:∀ m,s.heap.Ns X.env.locals m->h'.Ns X.env.locals m) (hok:kq X.prog X.w H' h') (hg:AllBare g') :
  Inv X pins σ H' {s with heap:=h',gens:=g',drawn:=d',toks:=t'}:=by
 have neL:∀ b o,X.s₀.heap.get? b=some o->b≠X.env.locals:=λb o e=>Qh (P0 (P1 e) I.ok.above)
 have neC:∀ b o,X.s₀.heap.get? b=some o->b∉X.ex->b∉ch:=λb o e hx hb=>by
  rcases (hch b hb).1 with z | z
  ·exact hx z
  ·exact absurd (P0 (P1 e) z) (Qk _)
 have cellK:∀ x c,X.env.cells.lookup x=some c->∀ v,s.heap.IsCell c v->h'.IsCell c v:=λx c e v ⟨o,ho,hd⟩=>by
  have nch:c∉ch:=λz=>(hch c z).2.2.1 x c e rfl;by_cases hc:c∈X.fs
  ·obtain ⟨sl,q⟩:=slot c o (I.II x c e) hc nch ho (I.freeC x c e);exact ⟨_,q,hd⟩
  ·exact ⟨o,keep c o (I.II x c e) hc nch ho (I.freeC x c e),hd⟩
 refine ⟨I.ok,I.os,hg,⟨λb o e n hb hx=>?_,λb o e n hb hx=>?_,λb o e n hx=>?_,λb o e hx=>?_,λb xs e=>tups b xs (I.base.tups b xs e),λb o xs e=>frzs b o xs (I.base.frzs b o xs e),λb ps e=>?_⟩,?_,λx c e=>?_,?_,λx c e=>?_,λp hp=>?_,hok,I.len⟩
 ·exact keep b o (neL b o e) hb (neC b o e hx) (I.base.keep b o e n hb hx) (I.base.free b o e n hx)
 ·obtain ⟨sl,e1⟩:=I.base.slot b o e n hb hx;obtain ⟨sl',e2⟩:=slot b _ (neL b o e) hb (neC b o e hx) e1 (I.base.free b o e n hx);exact ⟨sl',e2⟩
 ·obtain ⟨o',e1⟩:=I.base.there b o e hx;exact free b o' (neC b o e hx) e1 (I.base.free b o e n hx)
 ·obtain ⟨o',e1⟩:=I.base.there b o e hx;exact there b o' (neC b o e hx) e1
 ·obtain ⟨m1,e1⟩:=I.base.tbls b ps e;obtain ⟨m2,e2⟩:=tbls b _ e1;exact ⟨m1++m2,by rw [e2,Array.append_assoc]⟩
 ·obtain ⟨m,hn,hl⟩:=I.loc;refine ⟨m,ns m hn,λi x v e1 e2 e3=>?_⟩;obtain ⟨u,r,l⟩:=hl i x v e1 e2 e3;refine ⟨u,r,?_⟩;rcases l with l | ⟨k,c,e,z⟩
  ·exact .inl l
  ·exact .inr ⟨k,c,e,cellK x c e _ z⟩
 ·obtain ⟨v,z⟩:=I.cell x c e;exact ⟨v,cellK x c e v z⟩
 ·obtain ⟨m,⟨o,_,_,ho,_⟩,_⟩:=I.loc;exact free _ o (λz=>(hch _ z).2.1 rfl) ho I.free
 ·obtain ⟨v,o,ho,hd⟩:=I.cell x c e;exact free c o (λz=>(hch c z).2.2.1 x c e rfl) ho (I.freeC x c e)
 ·obtain ⟨e,n,ne,nf,d⟩:=I.pin p hp;have nch:p.1∉ch:=λz=>(hch p.1 z).2.2.2 p hp rfl;exact ⟨keep p.1 p.2 ne nf nch e n,free p.1 p.2 nch e n,ne,nf,d⟩
theorem Inv.un {t':Nat} (I:Inv X pins σ H s) (u:Un X.fs [] H H' s.heap h') (hok:kq X.prog X.w H' h'):Inv X pins σ H' {s with heap:=h',toks:=t'}:=by
 obtain ⟨m,⟨o,es,ep,ho,r⟩,_⟩:=id I.loc;obtain ⟨sl,hL⟩:=u.any ho I.free (by simp)
 exact I.step (g':=s.gens) (d':=s.drawn) (ch:=[]) (λ_ z=>nomatch z) (λb o _ hb _ e n=>u.keep b o e n hb (by simp)) (λb o _ hb _ e n=>u.slot b o e n hb (by simp)) (λb o _ e n=>u.free b o e n (by simp)) (λb o _ e=>u.there b o e (by simp)) u.tups u.frzs u.tbls (λm' hm=>by
  obtain ⟨o',es',ep',ho',r'⟩:=hm;rw [ho] at ho';cases ho'
  exact ⟨_,es',ep',hL,r'⟩) hok I.bare
theorem Inv.call {g':Array GenState} {t':Nat} {d':Drawn} {ch:Ur} (I:Inv X pins σ H s) (u:Un (tS X.stack) ch H H' s.heap h') (hok:kq X.prog X.w H' h') (hg:AllBare g')
  (hch:∀ b∈ch,(b∈X.ex\/X.s₀.heap.objs.size<=b)/\b≠X.env.locals/\(∀ x c,X.env.cells.lookup x=some c->c≠b)/\∀ p∈X.pn++pins,p.1≠b) :
  Inv X pins σ H' {s with heap:=h',gens:=g',drawn:=d',toks:=t'}:=by
 obtain ⟨m,⟨o,es,ep,ho,r⟩,_⟩:=id I.loc;obtain ⟨sl,hL⟩:=u.any ho I.free λz=>(hch _ z).2.1 rfl
 exact I.step (ch:=ch) hch (λb o hL hb hc e n=>u.keep b o e n (λz=>(PZ.mp (I.iV b z)).elim hL hb) hc) (λb o _ _ hc e n=>u.any e n hc) (λb o hc e n=>u.free b o e n hc) (λb o hc e=>u.there b o e hc) u.tups u.frzs u.tbls (λm' hm=>by
  obtain ⟨o',es',ep',ho',r'⟩:=hm;rw [ho] at ho';cases ho'
  exact ⟨_,es',ep',hL,r'⟩) hok hg
theorem Inv.turned {t':Nat} {it:Addr} (I:Inv X pins σ H s) (k:∀ b o,b≠it->s.heap.get? b=some o->h'.get? b=some o) (hn:H it=none) (hL:it≠X.env.locals)
  (h1:it∈X.ex\/X.s₀.heap.objs.size<=it) (h2:∀ x c,X.env.cells.lookup x=some c->c≠it) (h3:∀ p∈X.pn++pins,p.1≠it):Inv X pins σ H {s with heap:=h',toks:=t'}:=by
 have nit:∀ b u,H b=some u->b≠it:=λb u e z=>by rw [z,hn] at e;cases e
 refine I.step (g':=s.gens) (d':=s.drawn) (ch:=[it]) (λb hb=>?_) (λb o _ _ hc e _=>k b o (λz=>hc (by simp [z])) e) (λb o _ _ hc e _=>⟨o.slots,k b o (λz=>hc (by simp [z])) e⟩) (λ_ _ _ _ n=>n)
  (λb o hc e=>⟨o,k b o (λz=>hc (by simp [z])) e⟩) (λ_ _ e=>e) (λ_ _ _ e=>e) (λb ps e=>⟨#[],by rw [e];simp⟩) (λm hm=>?_) (λb u e=>?_) I.bare
 ·have e:b=it:=by simpa using hb
  subst e;exact ⟨h1,hL,h2,h3⟩
 ·obtain ⟨o,es,ep,ho,r⟩:=hm;exact ⟨o,es,ep,k _ o (SV hL) ho,r⟩
 ·refine (I.hok b u e).qG (λc v hc q=>k c v ?_ q) (λ_ q=>q) λ_ _ q=>q;rcases hc with z | z
  ·rw [z];exact nit b u e
  ·exact nit c _ z
theorem Inv.tok (I:Inv X pins σ H s) (t:Nat):Inv X pins σ H {s with toks:=t}:=I.un (h':=s.heap) (t':=t) Un.refl I.hok
theorem Inv.kept {t':Nat} (I:Inv X pins σ H s) (k:∀ b u,s.heap.get? b=some u->h'.get? b=some u):Inv X pins σ H {s with heap:=h',toks:=t'}:=I.un (Un.kept k) (I.hok.kept k)
theorem Inv.laid {a:Addr} {o:HO} {t':Nat} (I:Inv X pins σ H s) (k:∀ b u,s.heap.get? b=some u->h'.get? b=some u) (hp:s.heap.objs.size<=a) (new:cw X.prog X.w (upd H a o) h' a o) :
  Inv X pins σ (upd H a o) {s with heap:=h',toks:=t'}:=I.un (Un.laid k hp (I.hok.fresh hp)) (I.hok.laid k hp new)
theorem Inv.write {x e:Addr} {o:HO} {t':Nat} (I:Inv X pins σ H s) (mu:K4 (H x)) (he:e=x\/H e=some (.own x)) (k:∀ b u,b≠e->s.heap.get? b=some u->h'.get? b=some u) (heo:∃ u,h'.get? e=some u)
  (new:cw X.prog X.w (upd H x o) h' x o):Inv X pins σ (upd H x o) {s with heap:=h',toks:=t'}:=I.un (Un.write mu he k heo) (I.hok.write mu he k heo new)
theorem Inv.jD {pins':Uk} (I:Inv X pins σ H s) (h:∀ p∈pins',s.heap.get? p.1=some p.2/\H p.1=none/\p.1≠X.env.locals/\p.1∉X.fs/\∀ v,p.2.data≠.cell v):Inv X pins' σ H s:=
 ⟨I.ok,I.os,I.bare,I.base,I.loc,I.cell,I.free,I.freeC,λp hp=>(Qg.mp hp).elim (λz=>I.pin p (QA _ z)) (h p),I.hok,I.len⟩
theorem xw {N:Uu} (hN:N.Nodup) {i j:Nat} {x:Str} (a:N[i]?=some x) (b:N[j]?=some x):i=j:=by obtain ⟨h1,e1⟩:=Qi.mp a;obtain ⟨h2,e2⟩:=Qi.mp b;exact (List.getElem_inj hN).mp (e1.trans e2.symm)
theorem o3 {M:Model} {A:UC} {E:Uj} {i:Nat} {x:Str} {v:V} {u:Value} {Q:Unit->UD->Prop} (I:Inv X pins σ H s) (hN:X.N.Nodup) (hi:X.N[i]?=some x) (hx:Loc X.env.scope x) (r:RelV v u)
  (h:∀ s',Inv X pins (σ.set i (some v)) H s'->(∃ a,Heap.SameBut a s.heap s'.heap/\(a=X.env.locals\/X.env.cells.lookup x=some a))->Q () s') (hf:X.fn x=true\/X.env.scope.names.lookup x=some .local:=by first | exact .inl rfl | exact .inr rfl | assumption):wpAny M A (storeName X.env x u) Q E s:=by
 obtain ⟨m,hn,hl⟩:=id I.loc;have hcls:(X.env.scope.kind == .class || (X.env.scope.kind == .module && X.env.locals != X.env.globals))=false:=by rw [I.ok.kind];rfl
 have hiσ:i < σ.length:=by rw [I.len];exact (Qi.mp hi).1
 have II:=I.II
 have tracked:∀ {a:Addr} {h':Heap},(∃ o,s.heap.get? a=some o/\H a=none)->Heap.SameBut a s.heap h'->kq X.prog X.w H h':=λ{a h'} ha hs b ob e=>by
  obtain ⟨_,_,hfree⟩:=ha;refine (I.hok b ob e).qG (λc w' hc q=>(hs.2 c ?_).trans q) (λ_ q=>q) λ_ _ q=>q;rintro rfl;rcases hc with rfl | hc
  ·rw [hfree] at e;cases e
  ·rw [hfree] at hc;cases hc
 rcases hx with hk | hk
 ·refine wpAny_storeName_local hk hn (λh' hn' hs=>?_) hcls;obtain ⟨oL,_,_,hoL,_⟩:=id hn;refine h _ ⟨I.ok,I.os,I.bare,⟨λb o e n hb hx=>?_,λb o e n hb hx=>?_,I.base.free,λb o e hx=>?_,I.base.tups,I.base.frzs,I.base.tbls⟩,⟨_,hn',λj y v' e1 e2 e3=>?_⟩,λy c e=>?_,I.free,I.freeC,λp hp=>?_,tracked ⟨oL,hoL,I.free⟩ hs,by simpa using I.len⟩ ⟨_,hs,.inl rfl⟩
  ·exact (hs.2 b (Qh (P0 (P1 e) I.ok.above))).trans (I.base.keep b o e n hb hx)
  ·obtain ⟨sl,e1⟩:=I.base.slot b o e n hb hx;exact ⟨sl,(hs.2 b (Qh (P0 (P1 e) I.ok.above))).trans e1⟩
  ·obtain ⟨o',e1⟩:=I.base.there b o e hx;exact ⟨o',(hs.2 b (Qh (P0 (P1 e) I.ok.above))).trans e1⟩
  ·by_cases hj:j=i
   ·subst hj;rw [hi] at e1;cases e1;rw [Q0 hiσ] at e2;cases e2;exact ⟨u,r,.inl ⟨hk,by simp⟩⟩
   ·rw [SF (SV hj)] at e2;obtain ⟨u',r',q⟩:=hl j y v' e1 e2 e3;refine ⟨u',r',?_⟩;rcases q with ⟨k,e⟩ | ⟨k,c,e,z⟩
    ·refine .inl ⟨k,?_⟩;have:y≠x:=λe=>hj (xw hN e1 (e▸hi));simp [this,e]
    ·exact .inr ⟨k,c,e,z.sameBut hs (II y c e)⟩
  ·obtain ⟨w',z⟩:=I.cell y c e;exact ⟨w',z.sameBut hs (II y c e)⟩
  ·obtain ⟨e,n,ne,nf,d⟩:=I.pin p hp;exact ⟨(hs.2 p.1 ne).trans e,n,ne,nf,d⟩
 ·have hfn:X.fn x=true:=by
   rcases hf with z | z
   ·exact z
   ·rw [z] at hk;cases hk
  obtain ⟨c,hc⟩:=I.ok.has x (.inl hk);obtain ⟨w',z⟩:=I.cell x c hc;refine wpAny_storeName_cell I.ok.kind hk hc z (λh' hc' hs=>?_);obtain ⟨oc,hoc,hocd⟩:=id z;refine h {s with heap:=h'} ⟨I.ok,I.os,I.bare,⟨λb o e n hb hx=>?_,λb o e n hb hx=>?_,I.base.free,λb o e hx=>?_,I.base.tups,I.base.frzs,I.base.tbls⟩,⟨m,hn.sameBut hs (SV (II x c hc)),λj y v' e1 e2 e3=>?_⟩,λy c' e=>?_,I.free,I.freeC,λp hp=>?_,tracked ⟨oc,hoc,I.freeC x c hc⟩ hs,by simpa using I.len⟩ ⟨c,hs,.inr hc⟩
  ·exact (hs.2 b (Qh (P0 (P1 e) (I.ok.cab x c hfn hc)))).trans (I.base.keep b o e n hb hx)
  ·obtain ⟨sl,e1⟩:=I.base.slot b o e n hb hx;exact ⟨sl,(hs.2 b (Qh (P0 (P1 e) (I.ok.cab x c hfn hc)))).trans e1⟩
  ·obtain ⟨o',e1⟩:=I.base.there b o e hx;exact ⟨o',(hs.2 b (Qh (P0 (P1 e) (I.ok.cab x c hfn hc)))).trans e1⟩
  ·by_cases hj:j=i
   ·subst hj;rw [hi] at e1;cases e1;rw [Q0 hiσ] at e2;cases e2;exact ⟨u,r,.inr ⟨.inl hk,c,hc,hc'⟩⟩
   ·rw [SF (SV hj)] at e2;obtain ⟨u',r',q⟩:=hl j y v' e1 e2 e3;refine ⟨u',r',?_⟩;rcases q with q | ⟨k,c',e,z'⟩
    ·exact .inl q
    ·refine .inr ⟨k,c',e,z'.sameBut hs ?_⟩;rintro rfl;exact hj (xw hN e1 (I.ok.inj _ _ _ e hc▸hi))
  ·by_cases hcc:c'=c
   ·subst hcc;exact ⟨_,hc'⟩
   ·obtain ⟨w2,z2⟩:=I.cell y c' e;exact ⟨w2,z2.sameBut hs hcc⟩
  ·obtain ⟨e,n,ne,nf,d⟩:=I.pin p hp;refine ⟨(hs.2 p.1 ?_).trans e,n,ne,nf,d⟩;intro q;rw [q,hoc] at e;have q':oc=p.2:=QV e;exact d w' (by rw [<- q'];exact hocd)
theorem jj {M:Model} {A:UC} {E:Uj} {i:Nat} {x:Str} {v:V} {u:Value} {Q:Unit->UD->Prop} (I:Inv X pins σ H s) (hN:X.N.Nodup) (hi:X.N[i]?=some x) (hx:Loc X.env.scope x) (r:RelV v u)
  (h:∀ s',Inv X pins (σ.set i (some v)) H s'->Q () s') (hf:X.fn x=true\/X.env.scope.names.lookup x=some .local:=by first | exact .inl rfl | exact .inr rfl | assumption):wpAny M A (storeName X.env x u) Q E s:=
 o3 I hN hi hx r (λs' I' _=>h s' I') hf
theorem Inv.HL {s':UD} {ch:Ur} (I:Inv X pins σ H s) (ho:s'.os=s.os) (u:Un (tS X.stack) ch H H' s.heap s'.heap) (hok:kq X.prog X.w H' s'.heap) (hg:AllBare s'.gens)
  (hch:∀ b∈ch,(b∈X.ex\/X.s₀.heap.objs.size<=b)/\b≠X.env.locals/\(∀ x c,X.env.cells.lookup x=some c->c≠b)/\∀ p∈X.pn++pins,p.1≠b):Inv X pins σ H' s':=by
 obtain ⟨h',g',d',t',o'⟩:=s';have e:o'=s.os:=ho;subst e;exact I.call (g':=g') (t':=t') (d':=d') u hok hg hch
end
abbrev XK:=Value->Option Addr->Hp->Prop
abbrev St:=List (Option V)
abbrev VK:=V->Hp->Prop
abbrev TE:=St->Hp->VK->Prop
abbrev TT:=St->Hp->(Bool->Hp->Prop)->Prop
abbrev TA:=St->Hp->(List V->Hp->Prop)->Prop
structure Ends where
 nx:St->Hp->Prop
 rt:VK
 bk:St->Hp->Prop:=λ_ _=>False
 ct:St->Hp->Prop:=λ_ _=>False
abbrev TS:=Ends->St->Hp->Prop
def EP (X:Cx) (pins:Uk) (σ:St) (Q:VK) (u:Value) (s':UD):Prop:=∃ v H',Inv X pins σ H' s'/\RelV v u/\Q v H'
def TP (X:Cx) (pins:Uk) (σ:St) (Q:Bool->Hp->Prop) (b:Bool) (s':UD):Prop:=∃ H',Inv X pins σ H' s'/\Q b H'
def AP (X:Cx) (pins:Uk) (σ:St) (Q:List V->Hp->Prop) (us:Us) (s':UD):Prop:=∃ vs H',Inv X pins σ H' s'/\Vals vs us/\Q vs H'
noncomputable def SP (X:Cx) (pins:Uk) (D:Ends) (f:Flow) (s':UD):Prop:=
 match f with
 | .next=>∃ σ' H',Inv X pins σ' H' s'/\D.nx σ' H'
 | .brk=>∃ σ' H',Inv X pins σ' H' s'/\D.bk σ' H'
 | .cont=>∃ σ' H',Inv X pins σ' H' s'/\D.ct σ' H'
 | .ret u=>∃ v σ' H',Inv X pins σ' H' s'/\RelV v u/\D.rt v H'
def PE (X:Cx) (e:Expr) (t:TE):Prop:=
 ∀ (pins:Uk) (s:UD) (σ:St) (H:Hp) (Q:VK),Inv X pins σ H s->t σ H Q->wpAny (model X.prog X.w) X.A (eval e X.env) (EP X pins σ Q) X.xe s
def PT (X:Cx) (e:Expr) (t:TT):Prop:=
 ∀ (pins:Uk) (s:UD) (σ:St) (H:Hp) (Q:Bool->Hp->Prop),Inv X pins σ H s->t σ H Q->wpAny (model X.prog X.w) X.A (isTrue e X.env (eval e X.env)) (TP X pins σ Q) X.xe s
def PW (X:Cx) (e:Expr) (t:TT):Prop:=
 ∀ (whole:Sem Value) (pins:Uk) (s:UD) (σ:St) (H:Hp) (Q:Bool->Hp->Prop),Inv X pins σ H s->t σ H Q->wpAny (model X.prog X.w) X.A (isTrue e X.env whole) (TP X pins σ Q) X.xe s
theorem PW.pt {X:Cx} {e:Expr} {t:TT} (h:PW X e t):PT X e t:=h _
def PA (X:Cx) (es:Uv) (t:TA):Prop:=
 ∀ (pos:Pos) (pins:Uk) (s:UD) (σ:St) (H:Hp) (Q:List V->Hp->Prop),Inv X pins σ H s->t σ H Q->wpAny (model X.prog X.w) X.A (spliced (backTo pos (starEach es X.env))) (AP X pins σ Q) X.xe s
def PS (X:Cx) (st:Stmt) (t:TS):Prop:=
 ∀ (pins:Uk) (s:UD) (σ:St) (H:Hp) (D:Ends),Inv X pins σ H s->t D σ H->wpAny (model X.prog X.w) X.A (exec st X.env) (SP X pins D) X.xe s
def za (X:Cx) (st:List Stmt) (t:TS):Prop:=
 ∀ (pins:Uk) (s:UD) (σ:St) (H:Hp) (D:Ends),Inv X pins σ H s->t D σ H->wpAny (model X.prog X.w) X.A (execs st X.env) (SP X pins D) X.xe s
theorem bq {α:Type} {t:Sem α} {Q Q':α->UD->Prop} {M:Model} {A:UC} {E:Uj} {s:UD} (h:wpAny M A t Q E s) (hQ:∀ a s,Q a s->Q' a s):wpAny M A t Q' E s:=Q7 h hQ λ_ _ x=>x
section
variable {X:Cx}
def Nj (i:Nat):TE:=λσ H Q=>∃ v,σ[i]?=some (some v)/\Q v H
def tC (v:V):TE:=λ_ H Q=>Q v H
theorem IJ {i:Nat} {x:Str} {pos:Pos} (hN:X.N[i]?=some x) (hv:FZ X.env.scope x) (hd:(x == ("__debug__" : Str))=false:=by decide) (hcd:(x == ("__classdict__" : Str))=false:=by decide):PE X (.Name x pos) (Nj i):=by
 intro pins s σ H Q I h;obtain ⟨v,e,h⟩:=h;obtain ⟨m,hn,hl⟩:=I.loc;obtain ⟨u,r,l⟩:=hl i x v hN e hv;have fin:EP X pins σ Q u s:=⟨v,H,I,r,h⟩;rcases l with ⟨hk,hm⟩ | ⟨hk,c,hc,hcell⟩
 ·exact T7 (TC I.ok.kind hk hn hm fin) hd
 ·rcases hk with hk | hk
  ·exact T7 (TM I.ok.kind hk hc hcell fin) hd
  ·exact T7 (wpAny_loadName_free I.ok.kind hk hc hcell fin hcd) hd
theorem o4 {i j pos}:PE X (.Constant (.int i) j pos) (tC (.int i)):=λ_ _ _ H _ I h=>wpAny_Constant_int ⟨.int i,H,I.tok _,⟨_,rfl⟩,h⟩
theorem HM {b j pos}:PE X (.Constant (.bool b) j pos) (tC (.bl b)):=λ_ _ _ H _ I h=>Constant_bool ⟨.bl b,H,I,rfl,h⟩
theorem IK {j pos}:PE X (.Constant .none j pos) (tC .non):=λ_ _ _ H _ I h=>Constant_none ⟨.non,H,I,rfl,h⟩
theorem ze {x j pos}:PE X (.Constant (.str x) j pos) (tC (.str x)):=λ_ _ _ H _ I h=>Calls.Constant_str ⟨.str x,H,I.tok _,⟨_,rfl⟩,h⟩
def Gl (X:Cx) (x:Str):Prop:=X.env.kindOf x=some .globalImplicit
theorem vK {E:Uj} {pins:Uk} {s:UD} {σ:St} {H:Hp} {x:Str} {u:Value} {pos:Pos} {Q:Uj} (I:Inv X pins σ H s) (hg:Gl X x) (hm:X.mg x=some u) (h:Q u s)
  (hd:(x == ("__debug__" : Str))=false:=by decide):wpAny (model X.prog X.w) X.A (eval (.Name x pos) X.env) Q E s:=
 Calls.Name_function_global I.ok.kind hg (Calls.loadGlobal_global (by rw [I.ok.glob];exact I.mod.glob.keeps I.bk) hm h) hd
theorem mT {E:Uj} {pins:Uk} {s:UD} {σ:St} {H:Hp} {x:Str} {u:Value} {pos:Pos} {Q:Uj} (I:Inv X pins σ H s) (hg:Gl X x) (hm:X.mg x=none) (hv:bootBuiltins x=some u) (h:Q u s)
  (hn:x ≠ "__name__" := by decide) (hd:(x == ("__debug__" : Str))=false:=by decide):wpAny (model X.prog X.w) X.A (eval (.Name x pos) X.env) Q E s:=by
 obtain ⟨mb,h1,h2⟩:=I.mod.blt;exact Calls.Name_function_global I.ok.kind hg (Calls.loadGlobal_builtin (by rw [I.ok.glob];exact I.mod.glob.keeps I.bk) hm (by rw [I.ok.blt];exact h1.keeps I.bk) ((h2 x hn).trans hv) h) hd
theorem vL {x:Str} {v:V} {u:Value} {pos:Pos} (hg:Gl X x) (hm:X.mg x=some u) (r:RelV v u) (hd:(x == ("__debug__" : Str))=false:=by decide):PE X (.Name x pos) (tC v):=
 λ_ _ _ H _ I h=>vK I hg hm ⟨v,H,I,r,h⟩ hd
theorem F0 {x:Str} {v:V} {u:Value} {pos:Pos} (hg:Gl X x) (hm:X.mg x=none) (hv:bootBuiltins x=some u) (r:RelV v u) (hn:x ≠ "__name__" := by decide) (hd:(x == ("__debug__" : Str))=false:=by decide):PE X (.Name x pos) (tC v):=
 λ_ _ _ H _ I h=>mT I hg hm hv ⟨v,H,I,r,h⟩ hn hd
variable {a b:Expr} {ta tb:TE} {pos:Pos}
variable {tA tB':TT} {rest:Uv}
def rf (t u:TT):TT:=λσ H Q=>t σ H λc H1=>if c=true then u σ H1 Q else Q false H1
def tW (t u:TT):TT:=λσ H Q=>t σ H λc H1=>if c=true then Q true H1 else u σ H1 Q
def iW (t:TT):TT:=λσ H Q=>t σ H λc H1=>Q (!c) H1
theorem F1 (ha:PT X a tA):PW X (.BoolOp .And [a] pos) tA:=by
 intro wh pins s σ H Q I h;refine isTrue_and (bq (ha pins s σ H Q I h) λc s1 e=>?_)
 cases c with
 | true=>exact isTrue_and_nil e
 | false=>exact e
theorem IL (ha:PT X a tA):PW X (.BoolOp .Or [a] pos) tA:=by
 intro wh pins s σ H Q I h;refine isTrue_or (bq (ha pins s σ H Q I h) λc s1 e=>?_)
 cases c with
 | false=>exact isTrue_or_nil e
 | true=>exact e
theorem IM (ha:PT X a tA) (hb:PW X (.BoolOp .And (b::rest) pos) tB'):PW X (.BoolOp .And (a::b::rest) pos) (rf tA tB'):=by
 intro wh pins s σ H Q I h;refine isTrue_and (bq (ha pins s σ H _ I h) λc s1 ⟨H1,I1,q1⟩=>?_)
 cases c with
 | true=>exact hb wh pins s1 σ H1 Q I1 q1
 | false=>exact ⟨H1,I1,q1⟩
theorem Ln (ha:PT X a tA) (hb:PW X (.BoolOp .Or (b::rest) pos) tB'):PW X (.BoolOp .Or (a::b::rest) pos) (tW tA tB'):=by
 intro wh pins s σ H Q I h;refine isTrue_or (bq (ha pins s σ H _ I h) λc s1 ⟨H1,I1,q1⟩=>?_)
 cases c with
 | true=>exact ⟨H1,I1,q1⟩
 | false=>exact hb wh pins s1 σ H1 Q I1 q1
theorem IP (ha:PT X a tA):PT X (.UnaryOp .Not a pos) (iW tA):=by intro pins s σ H Q I h;exact isTrue_not (ha pins s σ H (λc H1=>Q (!c) H1) I h)
theorem IQ {op} {t:TE} (h:PE X a t):PE X (.BoolOp op [a] pos) t:=λpins s σ H Q I hw=>BoolOp_one (h pins s σ H Q I hw)
end
def jk (K:Ut) (H:Hp) (a:Addr) (xs:List V):Prop:=
 Rd H a (.lst xs) \/
  ∃ (o:Obj) (its:Uy) (n:Nat),K.lookup a=some o/\o.cls=.type "list" /\ o.dict=none/\o.data=.seq its n/\its.size<=sizeLine/\Vals xs its.toList
def gE (K:Ut) (H:Hp) (a:Addr) (xs:List V):Prop:=
 Rd H a (.tup xs) \/
  ∃ (o:Obj) (its:Uy) (n:Nat),K.lookup a=some o/\o.cls=.type "tuple" /\ o.data=.seq its n/\its.size<=sizeLine/\Vals xs its.toList
def Nk:Value->Option V
 | .none=>some .non
 | .bool b=>some (.bl b)
 | .int i _=>some (.int i)
 | .str x _=>some (.str x)
 | .bytes b _=>some (.byt b)
 | .float b _=>some (.flt b)
 | .ref a=>some (.ref a)
 | .type n=>some (.ty n)
 | _=>none
theorem RelV.abs {x:V} {u:Value} (r:RelV x u):Nk u=some x:=by
 cases x with
 | non=>cases r;rfl
 | bl _=>cases r;rfl
 | int _=>obtain ⟨t,rfl⟩:=r;rfl
 | str _=>obtain ⟨t,rfl⟩:=r;rfl
 | byt _=>obtain ⟨t,rfl⟩:=r;rfl
 | flt _=>obtain ⟨t,rfl⟩:=r;rfl
 | ref _=>cases r;rfl
 | ty _=>cases r;rfl
theorem RelV.inj {x y:V} {u:Value} (r:RelV x u) (q:RelV y u):x=y:=QV (r.abs.symm.trans q.abs)
theorem Vals.inj:∀ {xs ys:List V} {us:Us},Vals xs us->Vals ys us->xs=ys
 | _,_,_,.nil,.nil=>rfl
 | _,_,_,.cons r t,.cons r' t'=>by rw [r.inj r',Vals.inj t t']
section
variable {X:Cx} {pins:Uk} {σ:St} {H:Hp} {s:UD} {a:Addr} {xs ys:List V}
theorem jk.of {K:Ut} (h:H a=some (.lst xs)):jk K H a xs:=.inl (.inl h)
theorem gE.of {K:Ut} (h:H a=some (.tup xs)):gE K H a xs:=.inl (.inl h)
theorem Inv.list (I:Inv X pins σ H s) (h:jk X.K H a xs):∃ its:Us,Vals xs its/\PlainL s.heap a its.toArray/\xs.length<=sizeLine:=by
 rcases h with h | ⟨o,its,n,hk,hc,hd,hs,hz,r⟩
 ·obtain ⟨z,its,n,r,e⟩:=h.ok I.hok;exact ⟨its,r,⟨_,n,e,rfl,rfl,rfl⟩,z⟩
 ·refine ⟨its.toList,r,⟨o,n,I.tT a o hk,hc,hd,by simpa using hs⟩,?_⟩;have e:=r.length;simp only [QR] at e;omega
theorem Inv.tuple (I:Inv X pins σ H s) (h:gE X.K H a xs):∃ its:Us,Vals xs its/\IsTup s.heap a its.toArray/\xs.length<=sizeLine:=by
 rcases h with h | ⟨o,its,n,hk,hc,hs,hz,r⟩
 ·obtain ⟨z,its,r,p⟩:=h.ok I.hok;exact ⟨its,r,p,z⟩
 ·refine ⟨its.toList,r,⟨o,I.tT a o hk,hc,n,by simpa using hs⟩,?_⟩;have e:=r.length;simp only [QR] at e;omega
theorem Inv.C3 (I:Inv X pins σ H s) (h:jk X.K H a xs) (h':jk X.K H a ys):xs=ys:=by
 obtain ⟨its,r,⟨o,n,e,_,_,d⟩,_⟩:=I.list h;obtain ⟨its',r',⟨o',n',e',_,_,d'⟩,_⟩:=I.list h';rw [e] at e';cases e';rw [d] at d';injection d' with d1 _;have:its=its':=by simpa using RV Array.toList d1
 subst this;exact r.inj r'
theorem Inv.o5 (I:Inv X pins σ H s) (h:gE X.K H a xs) (h':gE X.K H a ys):xs=ys:=by
 obtain ⟨its,r,⟨o,e,_,n,d⟩,_⟩:=I.tuple h;obtain ⟨its',r',⟨o',e',_,n',d'⟩,_⟩:=I.tuple h';rw [e] at e';cases e';rw [d] at d';injection d' with d1 _;have:its=its':=by simpa using RV Array.toList d1
 subst this;exact r.inj r'
end
abbrev Cx.tX (X:Cx) (E:Uj):Cx:={X with xe:=E}
abbrev Cx.La (X:Cx):Cx:=X.tX λ_ _=>False
theorem Cx.Ok.tX {X:Cx} (ok:X.Ok) (E:Uj):(X.tX E).Ok:=
 ⟨ok.mod,ok.kind,ok.glob,ok.blt,ok.above,ok.inj,ok.has,ok.cab,ok.hd,ok.frames,ok.stk,ok.exf,ok.bs,ok.bsz,ok.noex,ok.exfs,ok.oZ,ok.frf⟩
theorem Cx.Ok.ky {X:Cx} {E:Uj} (ok:(X.tX E).Ok):X.Ok:=
 ⟨ok.mod,ok.kind,ok.glob,ok.blt,ok.above,ok.inj,ok.has,ok.cab,ok.hd,ok.frames,ok.stk,ok.exf,ok.bs,ok.bsz,ok.noex,ok.exfs,ok.oZ,ok.frf⟩
section
variable {X:Cx} {pins:Uk} {σ:St} {H:Hp} {s:UD} {E:Uj}
theorem Inv.tX (I:Inv X pins σ H s) (E:Uj):Inv (X.tX E) pins σ H s:=⟨I.ok.tX E,I.os,I.bare,I.base,I.loc,I.cell,I.free,I.freeC,I.pin,I.hok,I.len⟩
theorem Inv.ky (I:Inv (X.tX E) pins σ H s):Inv X pins σ H s:=⟨I.ok.ky,I.os,I.bare,I.base,I.loc,I.cell,I.free,I.freeC,I.pin,I.hok,I.len⟩
theorem SP.ky {D:Ends} {f:Flow} {s':UD} (h:SP (X.tX E) pins D f s'):SP X pins D f s':=by
 cases f with
 | next=>obtain ⟨σ',H',I,q⟩:=h;exact ⟨σ',H',I.ky,q⟩
 | brk=>obtain ⟨σ',H',I,q⟩:=h;exact ⟨σ',H',I.ky,q⟩
 | cont=>obtain ⟨σ',H',I,q⟩:=h;exact ⟨σ',H',I.ky,q⟩
 | ret u=>obtain ⟨v,σ',H',I,r,q⟩:=h;exact ⟨v,σ',H',I.ky,r,q⟩
end
section
variable {X:Cx} {st:Stmt} {rest:List Stmt} {t u:TS} {e:Expr} {te:TE} {pos:Pos}
def Lo:TS:=λD σ H=>D.nx σ H
def Nl (t u:TS):TS:=λD σ H=>t {D with nx:=u D} σ H
theorem F2:za X [] Lo:=λ_ _ σ H _ I h=>wpAny_execs_nil ⟨σ,H,I,h⟩
theorem C4 (h1:PS X st t) (h2:za X rest u):za X (st::rest) (Nl t u):=by
 intro pins s σ H D I h;refine wpAny_execs_cons (bq (h1 pins s σ H {D with nx:=u D} I h) λf s1 q=>?_)
 cases f with
 | next=>obtain ⟨σ',H',I',q⟩:=q;exact h2 pins s1 σ' H' D I' q
 | ret v=>exact q
 | brk=>exact q
 | cont=>exact q
theorem F3 (h1:PS X st t):za X [st] t:=by
 intro pins s σ H D I h;refine wpAny_execs_cons (bq (h1 pins s σ H D I h) λf s1 q=>?_)
 cases f with
 | next=>exact wpAny_execs_nil q
 | ret v=>exact q
 | brk=>exact q
 | cont=>exact q
theorem Inv.quiet {pins:Uk} {σ:St} {H:Hp} {s:UD} (I:Inv X pins σ H s):interactive X.env=false:=by simp [interactive,I.ok.kind]
def Lp (te:TE):TS:=λD σ H=>te σ H λ_ H1=>D.nx σ H1
theorem F4 (he:PE X e te) (hs:swapsWith e none pos.line X.env=pure false:=by rfl):PS X (.Expr e pos) (Lp te):=by intro pins s σ H D I h;exact wpAny_Expr_any (bq (he pins s σ H _ I h) λv s1 ⟨x,H1,I1,r1,q1⟩=>⟨σ,H1,I1,q1⟩) I.quiet hs
def Nn (te:TE):TS:=λD σ H=>te σ H D.rt
theorem IS (he:PE X e te):PS X (.Return (some e) pos) (Nn te):=by intro pins s σ H D I h;exact wpAny_Return_some (bq (he pins s σ H _ I h) λv s1 ⟨x,H1,I1,r1,q1⟩=>⟨x,σ,H1,I1,r1,q1⟩)
def Np (c:TT) (t u:TS):TS:=λD σ H=>c σ H λb H1=>if b=true then t D σ H1 else u D σ H1
theorem Lq {c:Expr} {a b:List Stmt} {tc:TT} (hc:PT X c tc) (ha:za X a t) (hb:za X b u):PS X (.If c a b pos) (Np tc t u):=by
 intro pins s σ H D I h;refine wpAny_If (bq (hc pins s σ H _ I h) λd s1 ⟨H1,I1,q1⟩=>?_)
 cases d with
 | true=>exact ha pins s1 σ H1 D I1 q1
 | false=>exact hb pins s1 σ H1 D I1 q1
end
abbrev TG:=V->St->Hp->(St->Hp->Prop)->Prop
abbrev HN:=List V->St->Hp->(St->Hp->Prop)->Prop
noncomputable def PG (X:Cx) (target:Expr) (t:TG):Prop:=
 ∀ (pins:Uk) (s:UD) (σ:St) (H:Hp) (v:V) (u:Value) (Q:St->Hp->Prop),Inv X pins σ H s->RelV v u->t v σ H Q ->
  wpAny (model X.prog X.w) X.A (assign target X.env u) (λ_ s'=>∃ σ' H',Inv X pins σ' H' s'/\Q σ' H') X.xe s
noncomputable def Lb (X:Cx) (ts:Uv) (t:HN):Prop:=
 ∀ (pins:Uk) (s:UD) (σ:St) (H:Hp) (vs:List V) (us:Us) (Q:St->Hp->Prop),Inv X pins σ H s->Vals vs us->t vs σ H Q ->
  wpAny (model X.prog X.w) X.A (assignInOrder ((assignEach ts X.env).map (·.2)) us) (λ_ s'=>∃ σ' H',Inv X pins σ' H' s'/\Q σ' H') X.xe s
abbrev IT:=V->V->V->Hp->(Hp->Prop)->Prop
noncomputable def IU (X:Cx) (t:IT):Prop:=
 ∀ (pins:Uk) (s:UD) (σ:St) (H:Hp) (o i v:V) (ov iv u:Value) (Q:Hp->Prop),Inv X pins σ H s->RelV o ov->RelV i iv->RelV v u->t o i v H Q ->
  wpAny (model X.prog X.w) X.A (setItem ov iv u) (λ_ s'=>∃ H',Inv X pins σ H' s'/\Q H') X.xe s
abbrev Mx:=V->V->Hp->VK->Prop
def ON (X:Cx) (op:Operator) (t:Mx):Prop:=
 ∀ (pins:Uk) (s:UD) (σ:St) (H:Hp) (x y:V) (v u:Value) (Q:VK),Inv X pins σ H s->RelV x v->RelV y u->t x y H Q ->
  wpAny (model X.prog X.w) X.A (inplaceOp op v u) (EP X pins σ Q) X.xe s
section
variable {X:Cx} {pos:Pos}
def av (i:Nat):TG:=λv σ H Q=>Q (σ.set i (some v)) H
theorem F5 {i:Nat} {x:Str} (hN:X.N.Nodup) (hi:X.N[i]?=some x) (hx:Loc X.env.scope x) (hf:X.fn x=true\/X.env.scope.names.lookup x=some .local:=by first | exact .inl rfl | exact .inr rfl | assumption):PG X (.Name x pos) (av i):=by intro pins s σ H v u Q I r h;exact wpAny_assign_Name (jj I hN hi hx r (λs' I'=>⟨_,H,I',h⟩) hf)
def jE:HN:=λvs σ H Q=>vs=[]/\Q σ H
def cx (t:TG) (u:HN):HN:=λvs σ H Q=>∃ v r,vs=v::r/\t v σ H λσ' H'=>u r σ' H' Q
theorem F6:Lb X [] jE:=by intro pins s σ H vs us Q I r h;obtain ⟨e,h⟩:=h;subst e;cases r;exact assignInOrder_nil ⟨σ,H,I,h⟩
theorem C5 {e:Expr} {es:Uv} {t:TG} {u:HN} (h1:PG X e t) (h2:Lb X es u)
  (hs:(assignEach (e::es) X.env).map (·.2)=assign e X.env::(assignEach es X.env).map (·.2):=by rfl):Lb X (e::es) (cx t u):=by
 intro pins s σ H vs us Q I r h;obtain ⟨v,vr,e1,h⟩:=h;subst e1
 cases r with
 | cons r rr=>rw [hs];refine SW (bq (h1 pins s σ H _ _ _ I r h) λ_ s1 ⟨σ1,H1,I1,q1⟩=>?_);exact h2 pins s1 σ1 H1 _ _ Q I1 rr q1
def jF (K:Ut) (n:Nat) (t:HN):TG:=λv σ H Q=>∃ a xs,v=.ref a/\gE K H a xs/\xs.length=n/\t xs σ H Q
theorem IV {es:Uv} {k:Nat} {t:HN} {n:Nat} (hc:X.calm=true) (h:Lb X es t)
  (hn:(assignEach es X.env).length=n:=by rfl) (hst:(assignEach es X.env).findIdx? (·.1)=none:=by rfl):PG X (.Tuple es k pos) (jF X.K n t):=by
 intro pins s σ H v u Q I r hw;obtain ⟨a,xs,e1,hq,hl,hw⟩:=hw;subst e1;cases r;obtain ⟨its,rv,ht,hz⟩:=I.tuple hq;refine assign_Tuple_tuple (I.ok.hd hc) ht (by simp [hn,<- hl,rv.length]) hst λh' hx=>?_;have I1:Inv X pins σ H {s with heap:=h'}:=I.kept (t':=s.toks) λb o e=>hx b o (Qh (P1 e)) e;exact h pins _ σ H xs _ Q I1 (by simpa using rv) hw
def xx (to ti:TE) (t:IT):TG:=λv σ H Q=>to σ H λo H1=>ti σ H1 λi H2=>t o i v H2 λH3=>Q σ H3
theorem IW {o i:Expr} {to ti:TE} {t:IT} (ho:PE X o to) (hi:PE X i ti) (hs:IU X t)
  (ha:∀ v,assign (.Subscript o i pos) X.env v=(do
   let ov <- holding [v] (eval o X.env)
   let iv <- holding [v,ov] (eval i X.env)
   standAt pos
   holding [v,ov,iv] (setItem ov iv v)
   release [v,ov,iv] []):=by intro _;rfl):PG X (.Subscript o i pos) (xx to ti t):=by
 intro pins s σ H v u Q I r h;rw [ha];refine PQ (QG (bq (ho pins s σ H _ I h) λov s1 ⟨x,H1,I1,r1,q1⟩=>?_));refine PQ (QG (bq (hi pins s1 σ H1 _ I1 q1) λiv s2 ⟨y,H2,I2,r2,q2⟩=>?_));refine PQ (Q9 (PQ (QG (bq (hs pins s2 σ H2 x y v ov iv u _ I2 r1 r2 r q2) λ_ s3 ⟨H3,I3,q3⟩=>?_))));exact wpAny_release ⟨σ,H3,I3,q3⟩
def BW (te:TE) (g:TG):TS:=λD σ H=>te σ H λx H1=>g x σ H1 D.nx
theorem IX {tg e:Expr} {te:TE} {g:TG} (he:PE X e te) (hg:PG X tg g) (hs:swapsWithSole [tg] e pos.line X.env=pure false:=by rfl) (hw:swappedStores [tg] e X.env=pure none:=by rfl)
  (h1:(assignEach [tg] X.env).map (·.2)=[assign tg X.env]:=by rfl):PS X (.Assign [tg] e pos) (BW te g):=by
 intro pins s σ H D I h;refine wpAny_Assign_stores (bq (he pins s σ H _ I h) λv s1 ⟨x,H1,I1,r1,q1⟩=>?_) hs hw;rw [h1];exact bq (hg pins s1 σ H1 x v _ I1 r1 q1) λ_ s2 q=>q
theorem IY {i:Nat} {x:Str} {e:Expr} {te:TE} {pos':Pos} (hN:X.N.Nodup) (hi:X.N[i]?=some x) (hx:Loc X.env.scope x) (he:PE X e te) (hs:swapsWith e (some (.Name x pos')) pos.line X.env=pure false:=by rfl) (hf:X.fn x=true\/X.env.scope.names.lookup x=some .local:=by first | exact .inl rfl | exact .inr rfl | assumption) :
  PS X (.Assign [.Name x pos'] e pos) (BW te (av i)):=by
 intro pins s σ H D I h;refine wpAny_Assign_Name (bq (he pins s σ H _ I h) λv s1 ⟨y,H1,I1,r1,q1⟩=>?_) hs;exact jj I1 hN hi hx r1 (λs2 I2=>⟨_,H1,I2,q1⟩) hf
def Nq (i:Nat) (te:TE) (ti:Mx):TS:=λD σ H=>∃ x,σ[i]?=some (some x)/\te σ H λy H1=>ti x y H1 λz H2=>D.nx (σ.set i (some z)) H2
theorem IZ {i:Nat} {x:Str} {e:Expr} {te:TE} {op:Operator} {ti:Mx} {pos':Pos} (hN:X.N.Nodup) (hi:X.N[i]?=some x) (hx:Loc X.env.scope x) (he:PE X e te) (ho:ON X op ti) (hf:X.fn x=true\/X.env.scope.names.lookup x=some .local:=by first | exact .inl rfl | exact .inr rfl | assumption) :
  PS X (.AugAssign (.Name x pos') op e pos) (Nq i te ti):=by
 intro pins s σ H D I h;obtain ⟨v,e1,h⟩:=h;obtain ⟨m,hn,hl⟩:=I.loc;have vis:FZ X.env.scope x:=by rcases hx with k | k;exact .inl k;exact .inr (.inl k)
 obtain ⟨u,r,l⟩:=hl i x v hi e1 vis;refine wpAny_AugAssign_Name ?_;have go:wpAny (model X.prog X.w) X.A (eval e X.env) (λw s₂=>wpAny (model X.prog X.w) X.A (inplaceOp op u w) (λr s₃=>wpAny (model X.prog X.w) X.A (storeName X.env x r) (λ_=>SP X pins D .next) X.xe s₃) X.xe s₂) X.xe s:=by refine bq (he pins s σ H _ I h) λw s1 ⟨y,H1,I1,r1,q1⟩=>?_;refine bq (ho pins s1 σ H1 v y u w _ I1 r r1 q1) λz s2 ⟨zv,H2,I2,r2,q2⟩=>?_;exact jj I2 hN hi hx r2 (λs3 I3=>⟨_,H2,I3,q2⟩) hf
 rcases l with ⟨hk,hm⟩ | ⟨hk,c,hc,hcell⟩
 ·exact TC I.ok.kind hk hn hm go
 ·rcases hk with hk | hk
  ·exact TM I.ok.kind hk hc hcell go
  ·rcases hx with k | k
   ·have:X.env.scope.names.lookup x=some .free:=hk;rw [k] at this;cases this
   ·have:X.env.scope.names.lookup x=some .free:=hk;rw [k] at this;cases this
def Pk (f:Int->Int->Int):Mx:=λx y H Q=>∃ i j,x=.int i/\y=.int j/\Q (.int (f i j)) H
theorem I0:ON X .Add (Pk λi j=>i+j):=by intro pins s σ H x y v u Q I r1 r2 h;obtain ⟨i,j,e1,e2,q⟩:=h;subst e1;subst e2;obtain ⟨t,rfl⟩:=r1;obtain ⟨t',rfl⟩:=r2;exact iadd_int ⟨.int _,H,I.tok _,⟨_,rfl⟩,q⟩
end
structure It where
 go:Nat->Hp->Prop
 yld:Nat->Hp->V->Hp->Prop
 stop:Nat->Hp->Prop
def gN (X:Cx) (pins:Uk) (H:Hp) (b:Addr):Prop:=
 H b=none/\b≠X.env.locals/\b∉X.fs/\(b∈X.ex\/X.s₀.heap.objs.size<=b)/\(∀ x c,X.env.cells.lookup x=some c->c≠b)/\∀ p∈X.pn++pins,p.1≠b
theorem Inv.BX {X:Cx} {pins:Uk} {σ:St} {H H':Hp} {s:UD} {b:Addr} (I:Inv X pins σ H s) (hb:s.heap.objs.size<=b) (hn:H' b=none):gN X pins H' b:=by
 refine ⟨hn,Sm (P0 I.lt hb),I.zc hb,.inr (P6 I.sz hb),λx c e z=>?_,λp hp z=>?_⟩
 ·obtain ⟨v,q⟩:=I.cell x c e;exact absurd (P0 q.lt (by rw [z];exact hb)) (Qk _)
 ·exact absurd (P0 (P1 (I.pin p hp).1) (by rw [z];exact hb)) (Qk _)
structure Turn (P:UA) (w:World) (K:Ut) (tg:Expr) (J:It) (fp:Ur) (it:Addr) (tn:Nat->Heap->Prop):Prop where
 mem:it∈fp
 obj:∀ i h,tn i h->∀ b∈fp,∃ o,h.get? b=some o/\∀ v,o.data≠.cell v
 keep:∀ i h h',tn i h->(∀ b∈fp,∀ o,h.get? b=some o->h'.get? b=some o)->tn i h'
 item:∀ (X:Cx),X.prog=P->X.w=w->X.K=K->X.calm=true->∀ (i:Nat) (pins:Uk) (s:UD) (σ:St) (H:Hp) (E:Uj),Inv X pins σ H s->(∀ b∈fp,gN X pins H b)->tn i s.heap->J.go i H ->
  wpAny (model P w) X.A (pyNext (.ref it)) (λr s1=>∃ u,r=some u /\
   wpAny (model P w) X.A (letOwnedTupleGo tg (.ref it) u) (λ_ s2=>∃ x H',Inv X pins σ H' s2/\RelV x u/\J.yld i H x H'/\tn (i+1) s2.heap/\∀ b∈fp,H' b=none) E s1) E s
 done:∀ (X:Cx),X.prog=P->X.w=w->X.K=K->X.calm=true->∀ (i:Nat) (pins:Uk) (s:UD) (σ:St) (H:Hp) (E:Uj),Inv X pins σ H s->(∀ b∈fp,gN X pins H b)->tn i s.heap->J.stop i H ->
  wpAny (model P w) X.A (pyNext (.ref it)) (λr s1=>r=none/\Inv X pins σ H s1) E s
 self:∀ (A:UC) (i:Nat) (s:UD) (Q:Uj) (E:Uj),tn i s.heap->Q (.ref it) s->wpAny (model P w) A (pyIter (.ref it)) Q E s
abbrev TI:=St->Hp->(It->Hp->Prop)->Prop
noncomputable def OO (X:Cx) (pins:Uk) (σ:St) (tg:Expr) (R:It->Hp->Prop) (itv:Value) (s2:UD):Prop:=
 ∃ (it:Addr) (fp:Ur) (tn:Nat->Heap->Prop) (J:It) (H':Hp),itv=.ref it/\Inv X pins σ H' s2/\Turn X.prog X.w X.K tg J fp it tn/\tn 0 s2.heap/\(∀ b∈fp,gN X pins H' b)/\R J H'
noncomputable def PI (X:Cx) (tg iter:Expr) (wi:TI):Prop:=
 ∀ (pins:Uk) (s:UD) (σ:St) (H:Hp) (R:It->Hp->Prop),Inv X pins σ H s->wi σ H R ->
  wpAny (model X.prog X.w) X.A (eval iter X.env) (λv s1=>wpAny (model X.prog X.w) X.A (pyIter v) (OO X pins σ tg R) X.xe s1) X.xe s
theorem AA {M:Model} {A:UC} {E:Uj} {s:UD} {tg:Expr} {it:Addr} {u:Value} {o:Obj} {n:String} {vs:Uy} {Q:Unit->UD->Prop} (ho:s.heap.get? it=some o) (hc:o.cls=.type n) (hd:o.data=.fields vs)
  (hn:["enumerate", "zip", "dict_itemiterator", "dict_reverseitemiterator", "odict_iterator", "itertools.zip_longest", "itertools.pairwise"].contains n=false) (hQ:Q () s):wpAny M A (letOwnedTupleGo tg (.ref it) u) Q E s:=by
 unfold letOwnedTupleGo
 cases tg<;>first
  | exact PU hQ
  | (cases u<;>first
    | exact PU hQ
    | (refine PQ (S9 ho ?_)
       rw [hc,hd];show wpAny M A (if (["enumerate", "zip", "dict_itemiterator", "dict_reverseitemiterator", "odict_iterator", "itertools.zip_longest", "itertools.pairwise"].contains n && vs[0]? == some (rawInt _))=true then _ else _) Q E s;rw [if_neg (by intro h;rw [hn,Tf] at h;cases h)]
       exact PU hQ))
def Nt (K:Ut) (a:Addr):It:=
 ⟨λi H=>∃ xs x,jk K H a xs/\xs[i]?=some x,λi H x H'=>H'=H/\∀ xs,jk K H a xs->xs[i]?=some x,λi H=>∃ xs,jk K H a xs/\xs.length<=i⟩
def My (K:Ut) (a:Addr):It:=
 ⟨λi H=>∃ xs x,gE K H a xs/\xs[i]?=some x,λi H x H'=>H'=H/\∀ xs,gE K H a xs->xs[i]?=some x,λi H=>∃ xs,gE K H a xs/\xs.length<=i⟩
def Mz (lo:Int) (n:Nat):It:=⟨λi _=>i < n,λi H x H'=>H'=H/\x=.int (lo+i),λi _=>n<=i⟩
theorem BY {P:UA} {w:World} {K:Ut} {tg:Expr} (a it:Addr):Turn P w K tg (Nt K a) [it] it (λi h=>h.IsListIter it a i) where
 mem:=by simp
 obj:=λi h st b hb=>by
  have e:b=it:=by simpa using hb
  subst e;obtain ⟨o,e,c,d⟩:=st;exact ⟨o,e,λv z=>by rw [d] at z;cases z⟩
 keep:=λi h h' st k=>st.at λo e=>k it (by simp) o e
 item:=by intro X hP hw hK hc i pins s σ H E I hf st hg;subst hP hw hK;obtain ⟨xs,x,hq,hx⟩:=hg;obtain ⟨its,rv,p,hz⟩:=I.list hq;obtain ⟨u,hu,ru⟩:=rv.get hx;obtain ⟨f0,f1,f2,f3,f4,f5⟩:=hf it (by simp);refine wpAny_pyNext_list_item st p.isList (x:=u) (by simpa using hu) λh' st' sb=>?_;have I1:Inv X pins σ H {s with heap:=h'}:=I.turned (t':=s.toks) (λb o hb e=>(sb.2 b hb).trans e) f0 f1 f3 f4 f5;obtain ⟨o,e,c,d⟩:=id st';exact ⟨u,rfl,AA (s:={s with heap:=h'}) e c d (by decide) ⟨x,H,I1,ru,⟨rfl,λys hy=>by rw [I.C3 hy hq];exact hx⟩,st',λb hb=>(hf b hb).1⟩⟩
 done:=by intro X hP hw hK hc i pins s σ H E I hf st hg;subst hP hw hK;obtain ⟨xs,hq,hx⟩:=hg;obtain ⟨its,rv,p,hz⟩:=I.list hq;obtain ⟨f0,f1,f2,f3,f4,f5⟩:=hf it (by simp);have hl:=rv.length;exact wpAny_pyNext_list_end (I.ok.hd hc) st p.isList (by simp;omega) λh' eb=>⟨rfl,I.turned (t':=s.toks) (λb o hb e=>eb b o hb e) f0 f1 f3 f4 f5⟩
 self:=λ_ _ _ _ _ st h=>wpAny_pyIter_listiter st h
theorem zf {P:UA} {w:World} {K:Ut} {tg:Expr} (a it:Addr):Turn P w K tg (My K a) [it] it (λi h=>h.IsTupleIter it a i) where
 mem:=by simp
 obj:=λi h st b hb=>by
  have e:b=it:=by simpa using hb
  subst e;obtain ⟨o,e,c,d⟩:=st;exact ⟨o,e,λv z=>by rw [d] at z;cases z⟩
 keep:=λi h h' st k=>st.at λo e=>k it (by simp) o e
 item:=by intro X hP hw hK hc i pins s σ H E I hf st hg;subst hP hw hK;obtain ⟨xs,x,hq,hx⟩:=hg;obtain ⟨its,rv,p,hz⟩:=I.tuple hq;obtain ⟨u,hu,ru⟩:=rv.get hx;obtain ⟨f0,f1,f2,f3,f4,f5⟩:=hf it (by simp);refine wpAny_pyNext_tuple_item st (show s.heap.IsTuple a its.toArray from p) (x:=u) (by simpa using hu) λh' st' sb=>?_;have I1:Inv X pins σ H {s with heap:=h'}:=I.turned (t':=s.toks) (λb o hb e=>(sb.2 b hb).trans e) f0 f1 f3 f4 f5;obtain ⟨o,e,c,d⟩:=id st';exact ⟨u,rfl,AA (s:={s with heap:=h'}) e c d (by decide) ⟨x,H,I1,ru,⟨rfl,λys hy=>by rw [I.o5 hy hq];exact hx⟩,st',λb hb=>(hf b hb).1⟩⟩
 done:=by intro X hP hw hK hc i pins s σ H E I hf st hg;subst hP hw hK;obtain ⟨xs,hq,hx⟩:=hg;obtain ⟨its,rv,p,hz⟩:=I.tuple hq;obtain ⟨f0,f1,f2,f3,f4,f5⟩:=hf it (by simp);have hl:=rv.length;exact wpAny_pyNext_tuple_end (I.ok.hd hc) st (show s.heap.IsTuple a its.toArray from p) (by simp;omega) λh' eb=>⟨rfl,I.turned (t':=s.toks) (λb o hb e=>eb b o hb e) f0 f1 f3 f4 f5⟩
 self:=λ_ _ _ _ _ st h=>wpAny_pyIter_tupleiter st h
theorem zg {P:UA} {w:World} {K:Ut} {tg:Expr} (it:Addr) (lo:Int) (n:Nat):Turn P w K tg (Mz lo n) [it] it (λi h=>IsRangeIter h it (lo+(i:Nat) * 1) ((n:Int) - (i:Nat)) 1) where
 mem:=by simp
 obj:=λi h st b hb=>by
  have e:b=it:=by simpa using hb
  subst e
  exact ⟨_,st,λv z=>by
   have z':Data.fields _=Data.cell v:=z
   cases z'⟩
 keep:=λi h h' st k=>k it (by simp) _ st
 item:=by intro X hP hw hK hc i pins s σ H E I hf st hg;subst hP hw hK;obtain ⟨f0,f1,f2,f3,f4,f5⟩:=hf it (by simp);have W:=Walks.range (prog:=X.prog) (w:=X.w) (I.ok.hd hc) it lo 1 n;refine W.item i s _ _ hg st λv h' tk hv st' kk=>?_;obtain ⟨t,rfl⟩:=hv;have I1:Inv X pins σ H {s with heap:=h',toks:=tk}:=I.turned (λb o hb e=>kk b o (by simpa using hb) e) f0 f1 f3 f4 f5;refine ⟨_,rfl,AA (s:={s with heap:=h',toks:=tk}) (n := "range_iterator") st' rfl rfl (by decide) ⟨.int (lo+i),H,I1,⟨t,?_⟩,⟨rfl,rfl⟩,st',λb hb=>(hf b hb).1⟩⟩;rw [Int.mul_one]
 done:=by intro X hP hw hK hc i pins s σ H E I hf st hg;subst hP hw hK;obtain ⟨f0,f1,f2,f3,f4,f5⟩:=hf it (by simp);exact wpAny_pyNext_range_end (I.ok.hd hc) st (by have:n<=i:=hg;omega) λh' eb=>⟨rfl,I.turned (t':=s.toks) (λb o hb e=>eb b o hb e) f0 f1 f3 f4 f5⟩
 self:=λ_ _ _ _ _ st h=>wpAny_pyIter_rangeiter st h
section
variable {X:Cx} {tg:Expr}
def Lr (K:Ut) (tl:TE):TI:=λσ H R=>tl σ H λx H1=>∃ a,x=.ref a/\(∃ xs,jk K H1 a xs)/\R (Nt K a) H1
def Nu (K:Ut) (tl:TE):TI:=λσ H R=>tl σ H λx H1=>∃ a,x=.ref a/\(∃ xs,gE K H1 a xs)/\R (My K a) H1
theorem F7 {l:Expr} {tl:TE} (hl:PE X l tl):PI X tg l (Lr X.K tl):=by
 intro pins s σ H R I h;refine bq (hl pins s σ H _ I h) λv s1 ⟨x,H1,I1,r1,q1⟩=>?_;obtain ⟨a,e,⟨xs,hq⟩,q⟩:=q1;subst e;cases r1;obtain ⟨its,rv,p,hz⟩:=I1.list hq;refine wpAny_pyIter_list p.isList ?_;refine ⟨s1.heap.objs.size,[s1.heap.objs.size],_,_,H1,rfl,I1.kept (t':=s1.toks) λb o e=>PR _ e,BY a _,⟨_,P4 _ rfl,rfl,rfl⟩,λb hb=>?_,q⟩;have e:b=s1.heap.objs.size:=by simpa using hb
 subst e;exact I1.BX (PY _) (I1.hok.fresh (PY _))
theorem C6 {l:Expr} {tl:TE} (hl:PE X l tl):PI X tg l (Nu X.K tl):=by
 intro pins s σ H R I h;refine bq (hl pins s σ H _ I h) λv s1 ⟨x,H1,I1,r1,q1⟩=>?_;obtain ⟨a,e,⟨xs,hq⟩,q⟩:=q1;subst e;cases r1;obtain ⟨its,rv,p,hz⟩:=I1.tuple hq;refine SX (show s1.heap.IsTuple a its.toArray from p) ?_;refine ⟨s1.heap.objs.size,[s1.heap.objs.size],_,_,H1,rfl,I1.kept (t':=s1.toks) λb o e=>PR _ e,zf a _,⟨_,P4 _ rfl,rfl,rfl⟩,λb hb=>?_,q⟩;have e:b=s1.heap.objs.size:=by simpa using hb
 subst e;exact I1.BX (PY _) (I1.hok.fresh (PY _))
theorem C7 {pins:Uk} {σ:St} {H:Hp} {s:UD} {R:It->Hp->Prop} {E:Uj} {lo hi:Int} {t u v:Tok} {tk:Nat} (I:Inv X pins σ H s) (h1:-(2 ^ 62)<=lo) (h2:lo < 2 ^ 62) (h3:-(2 ^ 62)<=hi) (h4:hi < 2 ^ 62)
  (q:R (Mz lo (hi - lo).toNat) H):wpAny (model X.prog X.w) X.A (pyIter (.ref s.heap.objs.size)) (OO X pins σ tg R) E {s with heap:=s.heap.push {cls:=.type "range",data:=.fields #[.int lo t,.int hi u,.int 1 v]},toks:=tk}:=by
 refine wpAny_pyIter_range (IsRange.new ..) (small_one h1 h2 h3 h4) ?_;have I1:Inv X pins σ H {s with heap:=s.heap.push {cls:=.type "range",data:=.fields #[.int lo t,.int hi u,.int 1 v]},toks:=tk}:=I.kept λb o e=>PR _ e
 refine ⟨(s.heap.push {cls:=.type "range",data:=.fields #[.int lo t,.int hi u,.int 1 v]}).objs.size,[(s.heap.push {cls:=.type "range",data:=.fields #[.int lo t,.int hi u,.int 1 v]}).objs.size],_,_,H,rfl,
  I1.kept (t':=tk) λb o e=>PR _ e,zg _ lo (hi - lo).toNat,?_,λb hb=>?_,q⟩
 ·have e1:lo+((0:Nat):Int) * 1=lo:=by simp
  have e2:(((hi - lo).toNat:Nat):Int) - ((0:Nat):Int)=Builtin.Range.rangeSize lo hi 1:=by rw [rangeSize_one];split<;>omega
  show IsRangeIter _ _ (lo+((0:Nat):Int) * 1) ((((hi - lo).toNat:Nat):Int) - ((0:Nat):Int)) 1;rw [e1,e2];exact P4 _ rfl
 ·have e:b=(s.heap.push {cls:=.type "range",data:=.fields #[.int lo t,.int hi u,.int 1 v]}).objs.size:=by simpa using hb
  subst e;exact I1.BX (PY _) (I1.hok.fresh (PY _))
def Ls (ta:TA):TI:=λσ H R=>ta σ H λvs H1=>∃ j:Int,vs=[.int j]/\-(2 ^ 62)<=j/\j < 2 ^ 62/\R (Mz 0 j.toNat) H1
theorem BZ {a:Expr} {ta:TA} {p pos:Pos} (hg:Gl X "range") (hm:X.mg "range" = none) (ha:PA X [a] ta) (hs:starEach [a] X.env=[(false,eval a X.env)]:=by rfl):PI X tg (.Call (.Name "range" p) [a] [] pos) (Ls ta):=by
 intro pins s σ H R I h;refine Call_ (mT I hg hm boot_range (RI (bq (ha pos pins s σ H _ I h) λus s1 ⟨vs,H1,I1,r1,q1⟩=>?_) hs rfl));obtain ⟨j,e,q1,q2,q⟩:=q1;subst e
 cases r1 with
 | cons r rr=>cases rr;obtain ⟨t,rfl⟩:=r;exact call_range_1 (C7 I1 (by omega) (by omega) q1 q2 (by simpa using q))
noncomputable def Nv (wi:TI) (g:TG) (tb:TS):TS:=λD σ H=>wi σ H λJ H1=>∃ W:Nat->Nat->St->Hp->Prop,(∃ m,W 0 m σ H1)/\∀ i m σ H,W i m σ H ->
 (J.stop i H/\D.nx σ H)\/(J.go i H/\∃ N:St->Hp->Prop,(∀ σ' H',N σ' H'->∃ m',m' < m/\W (i+1) m' σ' H')/\∀ x H',J.yld i H x H'->g x σ H' λσ2 H2=>tb {D with nx:=N,ct:=N,bk:=D.nx} σ2 H2)
def bE (fp:Ur) (h:Heap):Uk:=fp.filterMap λb=>(h.get? b).map λo=>(b,o)
theorem aQ {fp:Ur} {h:Heap} {b:Addr} {o:Obj} (hb:b∈fp) (e:h.get? b=some o):(b,o)∈bE fp h:=Sh.mpr ⟨b,hb,by rw [e];rfl⟩
theorem dI {fp:Ur} {h:Heap} {p:Addr×Obj} (hp:p∈bE fp h):p.1∈fp/\h.get? p.1=some p.2:=by
 obtain ⟨b,hb,e⟩:=Sh.mp hp
 cases q:h.get? b with
 | none=>rw [q] at e;cases e
 | some o=>rw [q] at e;have e':(b,o)=p:=QV e;subst e';exact ⟨hb,q⟩
theorem Inv.pinned {pins:Uk} {σ:St} {H:Hp} {s:UD} {fp:Ur} (I:Inv X pins σ H s) (hf:∀ b∈fp,gN X pins H b) (ho:∀ b∈fp,∃ o,s.heap.get? b=some o/\∀ v,o.data≠.cell v):Inv X (pins++bE fp s.heap) σ H s:=
 I.jD λp hp=>(Qg.mp hp).elim (λz=>I.pin p (PX _ z)) λz=>by obtain ⟨hb,e⟩:=dI z;obtain ⟨f0,f1,f2,_⟩:=hf p.1 hb;obtain ⟨o,e',d⟩:=ho p.1 hb;rw [e] at e';cases e';exact ⟨e,f0,f1,f2,d⟩
theorem Inv.gY {pins pl:Uk} {σ:St} {H:Hp} {s:UD} (I:Inv X (pins++pl) σ H s):Inv X pins σ H s:=I.jD λp hp=>I.pin p (PX _ (QA _ hp))
theorem Ja {iter:Expr} {body:List Stmt} {wi:TI} {g:TG} {tb:TS} {pos:Pos} (hp:PassesOwn (model X.prog X.w) X.A X.env X.xe) (hc:X.calm=true) (hi:PI X tg iter wi) (hg:PG X tg g) (hb:za X body tb)
  (hs:∀ x,foldedSetIterable iter X.env x=pure x:=by intro _;rfl):PS X (.For tg iter body [] pos) (Nv wi g tb):=by
 intro pins s σ H D I h;refine wpAny_For (bq (hi pins s σ H _ I h) λv s1 h1=>bq h1 λitv s2 h2=>?_) hs;obtain ⟨it,fp,tn,J,H2,e,I2,T,st2,f2,W,⟨m0,w0⟩,turn⟩:=h2;subst e;have stat:∀ {H':Hp},(∀ b∈fp,H' b=none)->∀ b∈fp,gN X pins H' b:=λhn b hb=>⟨hn b hb,(f2 b hb).2⟩;refine codeAny_forLoop_any (λn s'=>∃ i σ' H',Inv X pins σ' H' s'/\tn i s'.heap/\(∀ b∈fp,H' b=none)/\W i n σ' H') ?_ m0 ⟨0,σ,H2,I2,st2,λb hb=>(f2 b hb).1,w0⟩;rintro n s3 ⟨i,σ3,H3,I3,st3,fr3,w3⟩;rcases turn i n σ3 H3 w3 with ⟨stop,qn⟩ | ⟨go,N,hN,step⟩
 ·refine SY hp (bq (T.done X rfl rfl rfl hc i pins s3 σ3 H3 X.xe I3 (stat fr3) st3 stop) λr s4 ⟨hr,I4⟩=>?_);subst hr;exact wpAny_execs_nil ⟨σ3,H3,I4,qn⟩
 ·refine SY hp (bq (T.item X rfl rfl rfl hc i pins s3 σ3 H3 X.xe I3 (stat fr3) st3 go) λr s4 ⟨u,hr,h4⟩=>?_);subst hr;refine SY hp (bq h4 λ_ s5 ⟨x,H5,I5,r5,y5,st5,fr5⟩=>?_);have I5':=I5.pinned (stat fr5) (T.obj _ _ st5);refine SY hp (bq (hg _ s5 σ3 H5 x u _ I5' r5 (step x H5 y5)) λ_ s6 ⟨σ6,H6,I6,q6⟩=>?_);refine SY hp (bq (hb _ s6 σ6 H6 _ I6 q6) λf s7 q7=>?_);have again:∀ {σ7:St} {H7:Hp},Inv X (pins++bE fp s5.heap) σ7 H7 s7->N σ7 H7->∃ m,m < n/\∃ i σ' H',Inv X pins σ' H' s7/\tn i s7.heap/\(∀ b∈fp,H' b=none)/\W i m σ' H':=λ{σ7 H7} I7 n7=>by obtain ⟨m',hm,w7⟩:=hN σ7 H7 n7;refine ⟨m',hm,i+1,σ7,H7,I7.gY,T.keep _ _ _ st5 λb hb o e=>(I7.pin (b,o) (PX _ (PX _ (aQ hb e)))).1,λb hb=>?_,w7⟩;obtain ⟨o,e,d⟩:=T.obj _ _ st5 b hb;exact (I7.pin (b,o) (PX _ (PX _ (aQ hb e)))).2.1
  cases f with
  | next=>obtain ⟨σ7,H7,I7,n7⟩:=q7;exact again I7 n7
  | cont=>obtain ⟨σ7,H7,I7,n7⟩:=q7;exact again I7 n7
  | brk=>obtain ⟨σ7,H7,I7,q7⟩:=q7;exact ⟨σ7,H7,I7.gY,q7⟩
  | ret v=>obtain ⟨x7,σ7,H7,I7,r7,q7⟩:=q7;exact ⟨x7,σ7,H7,I7.gY,r7,q7⟩
end
abbrev R2:=V->V->Hp->VK->Prop
def ik (X:Cx) (f:Value->Value->Sem Value) (r:R2):Prop:=
 ∀ (pins:Uk) (s:UD) (σ:St) (H:Hp) (x y:V) (v u:Value) (Q:VK),Inv X pins σ H s->RelV x v->RelV y u->r x y H Q ->
  wpAny (model X.prog X.w) X.A (f v u) (EP X pins σ Q) X.xe s
def Nw (X:Cx) (f:Value->Sem Value) (r:V->Hp->VK->Prop):Prop:=
 ∀ (pins:Uk) (s:UD) (σ:St) (H:Hp) (x:V) (v:Value) (Q:VK),Inv X pins σ H s->RelV x v->r x H Q ->
  wpAny (model X.prog X.w) X.A (f v) (EP X pins σ Q) X.xe s
def dz (X:Cx) (f:Value) (r:List V->Hp->VK->Prop):Prop:=
 ∀ (pins:Uk) (s:UD) (σ:St) (H:Hp) (xs:List V) (us:Us) (Q:VK),Inv X pins σ H s->Vals xs us->r xs H Q ->
  wpAny (model X.prog X.w) X.A (call f us) (EP X pins σ Q) X.xe s
def Jb (X:Cx) (r:V->Hp->(Bool->Hp->Prop)->Prop):Prop:=
 ∀ (pins:Uk) (s:UD) (σ:St) (H:Hp) (x:V) (v:Value) (Q:Bool->Hp->Prop),Inv X pins σ H s->RelV x v->r x H Q ->
  wpAny (model X.prog X.w) X.A (truthy v) (TP X pins σ Q) X.xe s
def Lu (r:R2) (ta tb:TE):TE:=λσ H Q=>ta σ H λx H1=>tb σ H1 λy H2=>r x y H2 Q
def Pl (r:V->Hp->VK->Prop) (ta:TE):TE:=λσ H Q=>ta σ H λx H1=>r x H1 Q
def rI (C:Int->Int->Prop) (g:Int->Int->V):R2:=λx y H Q=>∃ i j,x=.int i/\y=.int j/\C i j/\Q (g i j) H
def HP (g:Int->Int->V):R2:=λx y H Q=>∃ i j,x=.int i/\y=.int j/\Q (g i j) H
def rU (g:Int->V):V->Hp->VK->Prop:=λx H Q=>∃ i,x=.int i/\Q (g i) H
section
variable {X:Cx} {a b c:Expr} {ta tb tc:TE} {pos:Pos}
theorem Jc (ha:PE X a ta) (hb:PE X b tb) {pins:Uk} {s:UD} {σ:St} {H:Hp} {R:V->V->Hp->Prop} (I:Inv X pins σ H s)
  (h:ta σ H λx H1=>tb σ H1 λy H2=>R x y H2) {Q:Uj} {f:Value->Value->Sem Value}
  (hf:∀ v u s2 x y H2,Inv X pins σ H2 s2->RelV x v->RelV y u->R x y H2->wpAny (model X.prog X.w) X.A (f v u) Q X.xe s2) :
  wpAny (model X.prog X.w) X.A (eval a X.env) (λv s₁=>wpAny (model X.prog X.w) X.A (eval b X.env) (λu s₂=>wpAny (model X.prog X.w) X.A (f v u) Q X.xe s₂) X.xe s₁) X.xe s:=by
 refine bq (ha pins s σ H _ I h) λv s1 ⟨x,H1,I1,r1,q1⟩=>?_;refine bq (hb pins s1 σ H1 _ I1 q1) λu s2 ⟨y,H2,I2,r2,q2⟩=>?_;exact hf v u s2 x y H2 I2 r1 r2 q2
theorem HQ {op:Operator} {r:R2} (ho:ik X (binaryOp op) r) (ha:PE X a ta) (hb:PE X b tb):PE X (.BinOp a op b pos) (Lu r ta tb):=by intro pins s σ H Q I h;exact wpAny_BinOp (Jc ha hb I h λv u s2 x y H2 I2 rx ry q=>ho pins s2 σ H2 x y v u Q I2 rx ry q)
theorem Lv {op:UnaryOp} {r:V->Hp->VK->Prop} (ho:Nw X (unaryOp op) r) (ha:PE X a ta):PE X (.UnaryOp op a pos) (Pl r ta):=by intro pins s σ H Q I h;exact UnaryOp_ (bq (ha pins s σ H _ I h) λv s1 ⟨x,H1,I1,r1,q1⟩=>ho pins s1 σ H1 x v Q I1 r1 q1)
theorem MB {f:Value->Value->Sem Value} {C:Int->Int->Prop} {g:Int->Int->Int}
  (rule:∀ (i j:Int) (t u:Tok) (s:UD) (Q:Uj) (E:Uj),C i j->Q (.int (g i j) s.toks) {s with toks:=s.toks+1}->wpAny (model X.prog X.w) X.A (f (.int i t) (.int j u)) Q E s) :
  ik X f (rI C λi j=>.int (g i j)):=by
 intro pins s σ H x y v u Q I rx ry h;obtain ⟨i,j,rfl,rfl,hc,q⟩:=h;obtain ⟨t,rfl⟩:=rx;obtain ⟨t',rfl⟩:=ry;exact rule i j t t' s _ _ hc ⟨.int (g i j),H,I.tok _,⟨_,rfl⟩,q⟩
theorem Lw {f:Value->Value->Sem Value} {g:Int->Int->Int}
  (rule:∀ (i j:Int) (t u:Tok) (s:UD) (Q:Uj) (E:Uj),Q (.int (g i j) s.toks) {s with toks:=s.toks+1}->wpAny (model X.prog X.w) X.A (f (.int i t) (.int j u)) Q E s) :
  ik X f (HP λi j=>.int (g i j)):=by
 intro pins s σ H x y v u Q I rx ry h;obtain ⟨i,j,rfl,rfl,q⟩:=h;obtain ⟨t,rfl⟩:=rx;obtain ⟨t',rfl⟩:=ry;exact rule i j t t' s _ _ ⟨.int (g i j),H,I.tok _,⟨_,rfl⟩,q⟩
theorem Jd {f:Value->Value->Sem Value} {g:Int->Int->Bool}
  (rule:∀ (i j:Int) (t u:Tok) (s:UD) (Q:Uj) (E:Uj),Q (.bool (g i j)) s->wpAny (model X.prog X.w) X.A (f (.int i t) (.int j u)) Q E s) :
  ik X f (HP λi j=>.bl (g i j)):=by
 intro pins s σ H x y v u Q I rx ry h;obtain ⟨i,j,rfl,rfl,q⟩:=h;obtain ⟨t,rfl⟩:=rx;obtain ⟨t',rfl⟩:=ry;exact rule i j t t' s _ _ ⟨.bl (g i j),H,I,rfl,q⟩
def Lx (i j:Int):Prop:=0 < j/\j < 1073741824
def Ny (i j:Int):Prop:=0<=j/\j<=1000000/\i.natAbs < 2 ^ 64
def Je (i j:Int):Prop:=(-(2 ^ 64) < i/\i < 2 ^ 64)\/(-(2 ^ 64) < j/\j < 2 ^ 64)
theorem Je.ok {i j:Int} (h:Je i j):IntMulOk i j:=by
 rcases h with ⟨h1,h2⟩ | ⟨h1,h2⟩
 ·exact .of_left (intBits_le_64 h1 h2)
 ·exact .of_right (intBits_le_64 h1 h2)
theorem Jf:ik X (binaryOp .Add) (HP λi j=>.int (i+j)):=Lw λ_ _ _ _ _ _ _ q=>add_int q
theorem Jg:ik X (binaryOp .Sub) (HP λi j=>.int (i - j)):=Lw λ_ _ _ _ _ _ _ q=>sub_int q
theorem Jh:ik X (binaryOp .Mult) (rI Je λi j=>.int (i * j)):=MB λ_ _ _ _ _ _ _ hc q=>mul_int q hc.ok
theorem F8:ik X (binaryOp .FloorDiv) (rI Lx λi j=>.int (i / j)):=MB λi j _ _ _ _ _ hc q=>by have h1:(0:Int) < j:=hc.1;have h2:j < 1073741824:=hc.2;exact floordiv_int (by omega) (by rw [Int.fdiv_eq_ediv_of_nonneg i (by omega)];exact q) (.inl (PyProof.noPylong_small (by omega)))
theorem Ji:ik X (binaryOp .Mod) (rI (λ_ j=>0 < j) λi j=>.int (i % j)):=MB λi j _ _ _ _ _ hc q=>by have h1:(0:Int) < j:=hc;exact mod_int' (by omega) (by rw [Int.fmod_eq_emod_of_nonneg i (by omega)];exact q)
theorem Jj:ik X (binaryOp .Pow) (rI Ny λi j=>.int (i ^ j.toNat)):=MB λ_ _ _ _ _ _ _ hc q=>pow_int_small hc.1 hc.2.1 hc.2.2 q
theorem Pm {f:Value->Sem Value} {g:Int->Int}
  (rule:∀ (i:Int) (t:Tok) (s:UD) (Q:Uj) (E:Uj),Q (.int (g i) s.toks) {s with toks:=s.toks+1}->wpAny (model X.prog X.w) X.A (f (.int i t)) Q E s) :
  Nw X f (rU λi=>.int (g i)):=by
 intro pins s σ H x v Q I rx h;obtain ⟨i,rfl,q⟩:=h;obtain ⟨t,rfl⟩:=rx;exact rule i t s _ _ ⟨.int (g i),H,I.tok _,⟨_,rfl⟩,q⟩
theorem Jk:Nw X (unaryOp .USub) (rU λi=>.int (-i)):=Pm λ_ _ _ _ _ q=>neg_int q
end
noncomputable def Ly:V->V->Bool
 | .non,.non=>true | .non,.int _=>true | .int _,.non=>true | .non,.bl _=>true | .bl _,.non=>true | .non,.str _=>true | .str _,.non=>true
 | .int _,.int _=>true | .bl _,.bl _=>true | .str _,.str _=>true | .byt _,.byt _=>true
 | .int _,.str _=>true | .str _,.int _=>true | .bl _,.str _=>true | .str _,.bl _=>true
 | _,_=>false
def Pn:R2:=λx y H Q=>Ly x y=true/\Q (.bl (decide (x=y))) H
def Po:R2:=λx y H Q=>Ly x y=true/\Q (.bl (!decide (x=y))) H
theorem AB {i j:Int}:decide (V.int i=V.int j)=(i == j):=by rw [Q3];simp
theorem C8 {i j:Bool}:decide (V.bl i=V.bl j)=(i == j):=by rw [Q3];simp
theorem AD {i j:Str}:decide (V.str i=V.str j)=(i == j):=by rw [Q3];simp
theorem AE {i j:Array UInt8}:decide (V.byt i=V.byt j)=(i.toList == j.toList):=by rw [Q3];cases i;cases j;simp
section
variable {X:Cx} {a b c:Expr} {ta tb tc:TE} {pos:Pos}
theorem bw {pins:Uk} {σ:St} {H:Hp} {s:UD} {Q:VK} {k k':Bool} (I:Inv X pins σ H s) (q:Q (.bl k) H) (e:k=k'):EP X pins σ Q (.bool k') s:=by subst e;exact ⟨.bl k,H,I,rfl,q⟩
theorem Lz:ik X (compareOp .Eq) Pn:=by
 intro pins s σ H x y v u Q I rx ry h;obtain ⟨hs,q⟩:=h
 cases x with
 | non=>
  cases rx
  cases y with
  | non=>cases ry;exact PySem.EqNone.eq_none_none (bw I q (by simp))
  | bl j=>cases ry;exact PySem.EqNone.eq_none_bool (bw I q (by simp))
  | int j=>obtain ⟨t',rfl⟩:=ry;exact PySem.EqNone.eq_none_int (bw I q (by simp))
  | str j=>obtain ⟨t',rfl⟩:=ry;exact PySem.EqNone.eq_none_str (bw I q (by simp))
  | _=>exact absurd (show false=true from hs) Qs
 | bl i=>
  cases rx
  cases y with
  | non=>cases ry;exact PySem.EqNone.eq_bool_none (bw I q (by simp))
  | bl j=>cases ry;exact eq_bool (bw I q C8)
  | str j=>obtain ⟨t',rfl⟩:=ry;exact PySem.EqMixed.eq_bool_str (bw I q (by simp))
  | _=>exact absurd (show false=true from hs) Qs
 | int i=>
  obtain ⟨t,rfl⟩:=rx
  cases y with
  | non=>cases ry;exact PySem.EqNone.eq_int_none (bw I q (by simp))
  | int j=>obtain ⟨t',rfl⟩:=ry;exact eq_int (bw I q AB)
  | str j=>obtain ⟨t',rfl⟩:=ry;exact PySem.EqMixed.eq_int_str (bw I q (by simp))
  | _=>exact absurd (show false=true from hs) Qs
 | str i=>
  obtain ⟨t,rfl⟩:=rx
  cases y with
  | non=>cases ry;exact PySem.EqNone.eq_str_none (bw I q (by simp))
  | bl j=>cases ry;exact PySem.EqMixed.eq_str_bool (bw I q (by simp))
  | int j=>obtain ⟨t',rfl⟩:=ry;exact PySem.EqMixed.eq_str_int (bw I q (by simp))
  | str j=>obtain ⟨t',rfl⟩:=ry;exact eq_str (bw I q AD)
  | _=>exact absurd (show false=true from hs) Qs
 | byt i=>
  obtain ⟨t,rfl⟩:=rx
  cases y with
  | byt j=>obtain ⟨t',rfl⟩:=ry;exact PySem.W.eq_bytes (bw I q AE)
  | _=>exact absurd (show false=true from hs) Qs
 | _=>cases y<;>exact absurd (show false=true from hs) Qs
theorem LA:ik X (compareOp .NotEq) Po:=by
 intro pins s σ H x y v u Q I rx ry h;obtain ⟨hs,q⟩:=h
 cases x with
 | non=>
  cases rx
  cases y with
  | non=>cases ry;exact PySem.EqNone.ne_none_none (bw I q (by simp))
  | bl j=>cases ry;exact PySem.EqNone.ne_none_bool (bw I q (by simp))
  | int j=>obtain ⟨t',rfl⟩:=ry;exact PySem.EqNone.ne_none_int (bw I q (by simp))
  | str j=>obtain ⟨t',rfl⟩:=ry;exact PySem.EqNone.ne_none_str (bw I q (by simp))
  | _=>exact absurd (show false=true from hs) Qs
 | bl i=>
  cases rx
  cases y with
  | non=>cases ry;exact PySem.EqNone.ne_bool_none (bw I q (by simp))
  | bl j=>cases ry;exact ne_bool (bw I q (RV not C8))
  | str j=>obtain ⟨t',rfl⟩:=ry;exact PySem.EqMixed.ne_bool_str (bw I q (by simp))
  | _=>exact absurd (show false=true from hs) Qs
 | int i=>
  obtain ⟨t,rfl⟩:=rx
  cases y with
  | non=>cases ry;exact PySem.EqNone.ne_int_none (bw I q (by simp))
  | int j=>obtain ⟨t',rfl⟩:=ry;exact ne_int (bw I q (RV not AB))
  | str j=>obtain ⟨t',rfl⟩:=ry;exact PySem.EqMixed.ne_int_str (bw I q (by simp))
  | _=>exact absurd (show false=true from hs) Qs
 | str i=>
  obtain ⟨t,rfl⟩:=rx
  cases y with
  | non=>cases ry;exact PySem.EqNone.ne_str_none (bw I q (by simp))
  | bl j=>cases ry;exact PySem.EqMixed.ne_str_bool (bw I q (by simp))
  | int j=>obtain ⟨t',rfl⟩:=ry;exact PySem.EqMixed.ne_str_int (bw I q (by simp))
  | str j=>obtain ⟨t',rfl⟩:=ry;exact ne_str (bw I q (RV not AD))
  | _=>exact absurd (show false=true from hs) Qs
 | byt i=>
  obtain ⟨t,rfl⟩:=rx
  cases y with
  | byt j=>obtain ⟨t',rfl⟩:=ry;exact PySem.W.ne_bytes (bw I q (RV not AE))
  | _=>exact absurd (show false=true from hs) Qs
 | _=>cases y<;>exact absurd (show false=true from hs) Qs
theorem LB:ik X (compareOp .LtE) (HP λi j=>.bl (decide (i<=j))):=Jd λ_ _ _ _ _ _ _ q=>le_int q
theorem LC:ik X (compareOp .Gt) (HP λi j=>.bl (decide (j < i))):=Jd λ_ _ _ _ _ _ _ q=>gt_int q
theorem LD:ik X (compareOp .GtE) (HP λi j=>.bl (decide (j<=i))):=Jd λ_ _ _ _ _ _ _ q=>ge_int q
theorem B0:ik X (compareOp .In) (λx y H Q=>∃ i j,x=.str i/\y=.str j/\Q (.bl (!(Builtin.Str.occurrences j i 0 j.length 1).isEmpty)) H):=by intro pins s σ H x y v u Q I rx ry h;obtain ⟨i,j,rfl,rfl,q⟩:=h;obtain ⟨t,rfl⟩:=rx;obtain ⟨t',rfl⟩:=ry;exact in_str (bw I q rfl)
theorem vM:ik X (compareOp .NotIn) (λx y H Q=>∃ i j,x=.str i/\y=.str j/\Q (.bl (!(!(Builtin.Str.occurrences j i 0 j.length 1).isEmpty))) H):=by intro pins s σ H x y v u Q I rx ry h;obtain ⟨i,j,rfl,rfl,q⟩:=h;obtain ⟨t,rfl⟩:=rx;obtain ⟨t',rfl⟩:=ry;exact notIn_str (bw I q rfl)
theorem ik.or {f:Value->Value->Sem Value} {r r':R2} (h:ik X f r) (h':ik X f r'):ik X f (λx y H Q=>r x y H Q\/r' x y H Q):=by
 intro pins s σ H x y v u Q I rx ry q;rcases q with q | q
 ·exact h pins s σ H x y v u Q I rx ry q
 ·exact h' pins s σ H x y v u Q I rx ry q
theorem Nz (b:Expr) {op:CmpOp} (h:op≠.In:=by decide) (h2:op≠.NotIn:=by decide):behindInMarks op b=false:=by
 have e1:(op == CmpOp.In)=false:=by cases op<;>first | rfl | exact absurd rfl h
 have e2:(op == CmpOp.NotIn)=false:=by cases op<;>first | rfl | exact absurd rfl h2
 cases b<;>simp [behindInMarks,e1,e2]
theorem F9 {op:CmpOp} {r:R2} (ho:ik X (compareOp op) r) (ha:PE X a ta) (hb:PE X b tb) (hm:behindInMarks op b=false):PE X (.Compare a [op] [b] pos) (Lu r ta tb):=by intro pins s σ H Q I h;exact wpAny_Compare1 (Jc ha hb I h λv u s2 x y H2 I2 rx ry q=>ho pins s2 σ H2 x y v u Q I2 rx ry q) hm
def HR (t:TE):TT:=λσ H Q=>t σ H λx H'=>∃ k,x=.bl k/\Q k H'
theorem Ga {op:CmpOp} {r:R2} (ho:ik X (compareOp op) r) (ha:PE X a ta) (hb:PE X b tb) (hm:behindInMarks op b=false):PT X (.Compare a [op] [b] pos) (HR (Lu r ta tb)):=by
 intro pins s σ H Q I h
 refine wpAny_isTrue_Compare1 (bq (ha pins s σ H _ I h) λv s1 ⟨x,H1,I1,r1,q1⟩=>bq (hb pins s1 σ H1 _ I1 q1) λu s2 ⟨y,H2,I2,r2,q2⟩=>
  bq (ho pins s2 σ H2 x y v u _ I2 r1 r2 q2) λc s3 ⟨z,H3,I3,r3,k,e,q3⟩=>?_) hm
 subst e;cases r3;exact Rm ⟨H3,I3,q3⟩
def zh (r r':R2) (ta tb tc:TE):TE:=λσ H Q=>ta σ H λx H1=>tb σ H1 λy H2=>r x y H2 λz H3=>∃ k,z=.bl k /\
 (if k=true then tc σ H3 λw' H4=>r' y w' H4 Q else Q (.bl false) H3)
theorem C9 {op op':CmpOp} {r r':R2} (ho:ik X (compareOp op) r) (ho':ik X (compareOp op') r') (ha:PE X a ta) (hb:PE X b tb) (hc:PE X c tc)
  (hm:lastMarks [op,op'] [b,c]=false:=by with_unfolding_all rfl):PE X (.Compare a [op,op'] [b,c] pos) (zh r r' ta tb tc):=by
 intro pins s σ H Q I h
 refine Compare_chain (bq (ha pins s σ H _ I h) λv s1 ⟨x,H1,I1,r1,q1⟩=>chain_link (bq (hb pins s1 σ H1 _ I1 q1) λu s2 ⟨y,H2,I2,r2,q2⟩=>
  bq (ho pins s2 σ H2 x y v u _ I2 r1 r2 q2) λd s3 ⟨z,H3,I3,r3,k,e,q3⟩=>?_)) hm
 subst e;cases r3;refine Rm ?_
 cases k with
 | false=>exact ite_ff ⟨.bl false,H3,I3,rfl,q3⟩
 | true=>exact ite_tt (chain_last (bq (hc pins s3 σ H3 _ I3 q3) λw' s4 ⟨z',H4,I4,r4,q4⟩=>ho' pins s4 σ H4 y z' u w' Q I4 r2 r4 q4))
theorem Dc {op op':CmpOp} {r r':R2} (ho:ik X (compareOp op) r) (ho':ik X (compareOp op') r') (ha:PE X a ta) (hb:PE X b tb) (hc:PE X c tc)
  (hm:lastMarks [op,op'] [b,c]=false:=by with_unfolding_all rfl):PT X (.Compare a [op,op'] [b,c] pos) (HR (zh r r' ta tb tc)):=by
 intro pins s σ H Q I h
 refine isTrue_chain (bq (ha pins s σ H _ I h) λv s1 ⟨x,H1,I1,r1,q1⟩=>test_link (bq (hb pins s1 σ H1 _ I1 q1) λu s2 ⟨y,H2,I2,r2,q2⟩=>
  bq (ho pins s2 σ H2 x y v u _ I2 r1 r2 q2) λd s3 ⟨z,H3,I3,r3,k,e,q3⟩=>?_)) hm
 subst e;cases r3;refine Rm ?_
 cases k with
 | false=>obtain ⟨k',e',q'⟩:=q3;cases e';exact ite_ff ⟨H3,I3,q'⟩
 | true=>refine ite_tt (test_last (bq (hc pins s3 σ H3 _ I3 q3) λw' s4 ⟨z',H4,I4,r4,q4⟩=>bq (ho' pins s4 σ H4 y z' u w' _ I4 r2 r4 q4) λd' s5 ⟨z2,H5,I5,r5,k2,e2,q5⟩=>?_));subst e2;cases r5;exact Rm ⟨H5,I5,q5⟩
noncomputable def Jl (K:Ut) (x:V) (H:Hp) (k:Bool):Prop:=
 match x with
 | .non=>k=false
 | .bl b=>k=b
 | .int i=>k=(i != 0)
 | .str y=>y.length<=sizeLine/\k=((y.length:Int) != 0)
 | .byt y=>y.size<=sizeLine/\k=((y.size:Int) != 0)
 | .ref p=>(∃ xs,jk K H p xs/\k=!xs.isEmpty)\/(∃ xs,gE K H p xs/\k=!xs.isEmpty)\/∃ kvs,H p=some (.dK kvs)/\k=!kvs.isEmpty
 | _=>False
theorem zi {κ:Type} {kvs:List (κ×V)} {vs:List (κ×Value)} (r:KV kvs vs):(!vs.isEmpty)=!kvs.isEmpty:=by cases r<;>rfl
theorem rg {xs:List V} {its:Us} (r:Vals xs its):(!its.toArray.isEmpty)=!xs.isEmpty:=by cases r<;>simp
theorem rh:(sizeLine:Nat) < 2 ^ 63:=by rw [Ro];decide
theorem zj:Jb X (λx H Q=>∃ k,Jl X.K x H k/\Q k H):=by
 intro pins s σ H x v Q I rx h;obtain ⟨k,e,q⟩:=h;have hl:=rh;have hs:sizeLine=16777216:=Ro
 cases x with
 | non=>cases rx;have e':k=false:=e;subst e';exact truthy_none ⟨H,I,q⟩
 | bl b=>cases rx;have e':k=b:=e;subst e';exact Rm ⟨H,I,q⟩
 | int i=>obtain ⟨t,rfl⟩:=rx;have e':k=(i != 0):=e;subst e';exact PySem.P.truthy_int ⟨H,I,q⟩
 | str y=>obtain ⟨t,rfl⟩:=rx;obtain ⟨hy,e'⟩:y.length<=sizeLine/\k=((y.length:Int) != 0):=e;subst e';exact PySem.P.truthy_str (by omega) ⟨H,I.tok _,q⟩
 | byt y=>obtain ⟨t,rfl⟩:=rx;obtain ⟨hy,e'⟩:y.size<=sizeLine/\k=((y.size:Int) != 0):=e;subst e';exact PySem.W.truthy_bytes (by omega) ⟨H,I.tok _,q⟩
 | ref p=>
  cases rx;have e':(∃ xs,jk X.K H p xs/\k=!xs.isEmpty)\/(∃ xs,gE X.K H p xs/\k=!xs.isEmpty)\/∃ kvs,H p=some (.dK kvs)/\k=!kvs.isEmpty:=e;rcases e' with ⟨xs,hx,e'⟩ | ⟨xs,hx,e'⟩ | ⟨kvs,hx,e'⟩
  ·subst e';obtain ⟨its,r,pl,hz⟩:=I.list hx;have hlen:=r.length;exact wpAny_truthy_list pl.isList (by simp only [P7];omega) ⟨H,I.tok _,by rw [rg r];exact q⟩
  ·subst e';obtain ⟨its,r,pl,hz⟩:=I.tuple hx;have hlen:=r.length;exact truthy_tuple pl (by simp only [P7];omega) ⟨H,I.tok _,by rw [rg r];exact q⟩
  ·subst e';obtain ⟨hz,hS,vs,r,m⟩:kvs.length<=sizeLine/\(p == sysModules)=false/\∃ vs,KV kvs vs/\s.heap.DictOf (bD X.prog X.w) p vs:=I.hok p _ hx;have hlen:kvs.length=vs.length:=Qr r;exact wpAny_truthy_dict hS m (by omega) ⟨H,I.tok _,by rw [zi r];exact q⟩
 | _=>exact (show False from e).elim
theorem Dd (ha:PE X a ta) (he:∀ whole,isTrue a X.env whole=(do let v <- whole;standAt a.pos;holding [v] (truthy v))) :
  PT X a (λσ H Q=>ta σ H λx H'=>∃ k,Jl X.K x H' k/\Q k H'):=by
 intro pins s σ H Q I h;exact isTrue_plain (bq (ha pins s σ H _ I h) λv s1 ⟨x,H1,I1,r1,q1⟩=>zj pins s1 σ H1 x v Q I1 r1 q1) (he _)
theorem zk:ik X (binaryOp .Add) (λx y H Q=>∃ i j,x=.str i/\y=.str j/\i.length+j.length<=sizeLine/\Q (.str (i++j)) H):=by intro pins s σ H x y v u Q I rx ry h;obtain ⟨i,j,rfl,rfl,hz,q⟩:=h;obtain ⟨t,rfl⟩:=rx;obtain ⟨t',rfl⟩:=ry;exact add_str (λt' tk=>⟨.str (i++j),H,I.tok _,⟨_,rfl⟩,q⟩) hz
theorem vals1 {x:V} {us:Us} (r:Vals [x] us):∃ u,us=[u]/\RelV x u:=by
 cases r with
 | cons r1 r2=>cases r2;exact ⟨_,rfl,r1⟩
theorem vals2 {x y:V} {us:Us} (r:Vals [x,y] us):∃ u w',us=[u,w']/\RelV x u/\RelV y w':=by
 cases r with
 | cons r1 r2=>
  cases r2 with
  | cons r3 r4=>cases r4;exact ⟨_,_,rfl,r1,r3⟩
theorem B1 (hc:X.calm=true):dz X (.builtin "max") (λxs H Q=>∃ i j,xs=[.int i,.int j]/\Q (.int (if j > i then j else i)) H):=by
 intro pins s σ H xs us Q I r h;obtain ⟨i,j,rfl,q⟩:=h;obtain ⟨u,w',rfl,⟨t,rfl⟩,⟨t',rfl⟩⟩:=vals2 r;refine max_two_ints (I.ok.hd hc) λh' tk k=>⟨_,H,I.kept k,?_,q⟩;by_cases hj:j > i
 ·rw [if_pos hj,if_pos hj];exact ⟨_,rfl⟩
 ·rw [if_neg hj,if_neg hj];exact ⟨_,rfl⟩
theorem B2:dz X (.type "int") (λxs H Q=>(∃ i,xs=[.int i]/\Q (.int i) H)\/∃ k,xs=[.bl k]/\Q (.int (if k then 1 else 0)) H):=by
 intro pins s σ H xs us Q I r h;rcases h with ⟨i,rfl,q⟩ | ⟨k,rfl,q⟩
 ·obtain ⟨u,rfl,t,rfl⟩:=vals1 r;exact call_int_int ⟨.int i,H,I,⟨_,rfl⟩,q⟩
 ·obtain ⟨u,rfl,r1⟩:=vals1 r;cases r1;exact call_int_bool ⟨.int (if k then 1 else 0),H,I.tok _,⟨_,rfl⟩,q⟩
def NA (K:Ut) (x:V) (H:Hp) (n:Nat):Prop:=
 match x with
 | .str y=>y.length<=sizeLine/\n=y.length
 | .byt y=>y.size<=sizeLine/\n=y.size
 | .ref p=>(∃ xs,jk K H p xs/\n=xs.length)\/∃ xs,gE K H p xs/\n=xs.length
 | _=>False
theorem De:dz X (.builtin "len") (λxs H Q=>∃ x n,xs=[x]/\NA X.K x H n/\Q (.int n) H):=by
 intro pins s σ H xs us Q I r h;obtain ⟨x,n,rfl,e,q⟩:=h;obtain ⟨u,rfl,rx⟩:=vals1 r;have hl:=rh;have hs:sizeLine=16777216:=Ro
 cases x with
 | str y=>obtain ⟨t,rfl⟩:=rx;obtain ⟨hy,e'⟩:y.length<=sizeLine/\n=y.length:=e;subst e';exact len_str (by omega) ⟨.int _,H,I.tok _,⟨_,rfl⟩,q⟩
 | byt y=>obtain ⟨t,rfl⟩:=rx;obtain ⟨hy,e'⟩:y.size<=sizeLine/\n=y.size:=e;subst e';exact PySem.W.len_bytes (by omega) ⟨.int _,H,I.tok _,⟨_,rfl⟩,q⟩
 | ref p=>
  cases rx;have e':(∃ xs,jk X.K H p xs/\n=xs.length)\/∃ xs,gE X.K H p xs/\n=xs.length:=e;rcases e' with ⟨xs,hx,e'⟩ | ⟨xs,hx,e'⟩
  ·subst e';obtain ⟨its,r',pl,hz⟩:=I.list hx;have hlen:=r'.length;exact Calls.call_len_list pl.isList (by simp only [P7];omega) ⟨.int xs.length,H,I.tok _,⟨_,by simp only [P7];rw [hlen]⟩,q⟩
  ·subst e';obtain ⟨its,r',pl,hz⟩:=I.tuple hx;have hlen:=r'.length;exact len_tuple pl (by simp only [P7];omega) ⟨.int xs.length,H,I.tok _,⟨_,by simp only [P7];rw [hlen]⟩,q⟩
 | _=>exact (show False from e).elim
theorem xy:dz X (.builtin "divmod") (λxs H Q=>∃ i j,xs=[.int i,.int j]/\Lx i j/\∀ p,H p=none->Q (.ref p) (upd H p (.tup [.int (i / j),.int (i % j)]))):=by intro pins s σ H xs us Q I r h;obtain ⟨i,j,rfl,⟨h1,h2⟩,q⟩:=h;obtain ⟨u,w',rfl,⟨t,rfl⟩,⟨t',rfl⟩⟩:=vals2 r;refine divmod_int (by omega) ?_ (.inl (PyProof.noPylong_small (by omega)));rw [Int.fdiv_eq_ediv_of_nonneg i (by omega),Int.fmod_eq_emod_of_nonneg i (by omega)];have hn:H s.heap.objs.size=none:=I.hok.fresh (PY _);refine ⟨.ref s.heap.objs.size,_,?_,rfl,q _ hn⟩;refine I.laid (λb o e=>PR _ e) (PY _) ⟨by simp only [Qf,QJ];rw [Ro];decide,[.int (i / j) s.toks,.int (i % j) (s.toks+1)],.cons ⟨_,rfl⟩ (.cons ⟨_,rfl⟩ .nil),?_⟩;exact ⟨_,P4 s.heap rfl,rfl,0,rfl⟩
end
structure Jm (h:Heap) (x dx C:Addr) (mA:Uo):Prop where
 obj:h.get? x=some (PySem.W.instObj C dx)
 ns:h.Ns1 dx mA
 ne:dx≠x
theorem B3 {h:Heap} {dx:Addr} {mA:Uo} (n:h.Ns1 dx mA):∃ od,h.get? dx=some od/\∀ name,PySem.W.lookIn name od=some (mA name):=by
 obtain ⟨o,es,ep,ho,hd,hk,_,hm⟩:=n;refine ⟨o,ho,λname=>?_⟩;have e:=hm name;unfold nsFind findBy at e;rw [<- Array.find?_toList] at e;unfold PySem.W.lookIn;rw [hd];dsimp only;split
 ·rename_i y q;rw [q] at e;exact RV some e
 ·rename_i q;rw [q] at e;have a:es.toList.any (·.refKey)=false:=by rw [List.any_eq_false];intro y hy;obtain ⟨z,t,hkey⟩:=hk y (RW.mp hy);simp [DictEntry.refKey,hkey]
  have a':¬ es.toList.any (·.refKey)=true:=by rw [a];exact Qs
  rw [if_neg a'];exact RV some e
theorem Jm.look {h:Heap} {x dx C:Addr} {mA:Uo} (I:Jm h x dx C mA):∃ od,PySem.W.InstAt h x (PySem.W.instObj C dx) C (some od)/\∀ name,PySem.W.lookIn name od=some (mA name):=
 let ⟨od,ho,hl⟩:=B3 I.ns
 ⟨od,⟨I.obj,rfl,rfl,ho⟩,hl⟩
theorem oY.some_of {v:V} {o:Option Value} (r:oY (some v) o):∃ u,o=some u/\RelV v u:=by
 cases o with
 | none=>exact (show False from r).elim
 | some u=>exact ⟨u,rfl,r⟩
section
variable {P:UA} {w:World} {H H':Hp} {h h':Heap} {a C dx:Addr} {fs fs':List (Str×V)}
theorem Gb (hok:kq P w H h) (e:H a=some (.ins C dx fs)):∃ mA,Jm h a dx C mA/\(∀ f,oY (fs.lookup f) (mA f))/\PySem.Within mA (fs.map (·.1))/\fs.length<=1000/\H dx=some (.own a):=by obtain ⟨d,z,ne,ob,mA,n,r,q⟩:=(show cw P w H h a (.ins C dx fs) from hok a _ e);exact ⟨mA,⟨ob,n,ne⟩,r,q,z,d⟩
end
structure NB (K:Ut) (C:Addr):Prop where
 pg:PySem.W.plainGet K C Str.empty=true
 hd:PySem.W.hasDictIn K C=true
 po:PySem.W.plainOver K C=true
 sa:PySem.W.findIn K (.ref C) "__setattr__" = some (some (.builtin "object.__setattr__"))
theorem NB.get {K:Ut} {C:Addr} (c:NB K C) (f:Str):PySem.W.plainGet K C f=true:=c.pg
section
variable {X:Cx} {pins:Uk} {σ:St} {H:Hp} {s:UD} {A:UC} {E:Uj} {Q:Uj} {c:Value} {b:Bool}
inductive nK (K:Ut) (H:Hp):V->Value->Prop where
 | non:nK K H .non (.type "NoneType")
 | bl (x:Bool):nK K H (.bl x) (.type "bool")
 | int (i:Int):nK K H (.int i) (.type "int")
 | str (x:Str):nK K H (.str x) (.type "str")
 | flt (x:UInt64):nK K H (.flt x) (.type "float")
 | lst {a:Addr} {xs:List V} (e:H a=some (.lst xs)):nK K H (.ref a) (.type "list")
 | frz {a:Addr} {o:Obj} {xs:List V} (e:H a=some (.frz o (.lst xs))):nK K H (.ref a) (.type "list")
 | tup {a:Addr} {xs:List V} (e:H a=some (.tup xs)):nK K H (.ref a) (.type "tuple")
 | dK {a:Addr} {kvs:List (Key×V)} (e:H a=some (.dK kvs)):nK K H (.ref a) (.type "dict")
 | dT {a:Addr} {kvs:List (List Key×V)} (e:H a=some (.dT kvs)):nK K H (.ref a) (.type "dict")
 | ins {a C dx:Addr} {fs:List (Str×V)} (e:H a=some (.ins C dx fs)) (cl:NB K C) (ha:PySem.W.findIn K (.ref C) "__class__" = some (some (.builtin "object.__class__")))
   (hn:PySem.W.specialIn K (.builtin "object.__class__") "__get__" = some (some (.builtin "getset_descriptor.__get__"))) (htk:PySem.W.takesIn K (.builtin "object.__class__")=some true)
   (hm:PySem.W.mroIn K C (.type "object")=some true):nK K H (.ref a) (.ref C)
theorem B4 {x:V} {u t:Value} (I:Inv X pins σ H s) (rx:RelV x u) (ty:nK X.K H x t) (e:PySem.W.kitOne X.K t c=some b) (h:∀ tk,Q (.bool b) {s with toks:=tk}) :
  wpAny (model X.prog X.w) A (call (.builtin "isinstance") [u,c]) Q E s:=by
 cases ty with
 | non=>cases (show u=Value.none from rx);exact Q4 PySem.W.kitx_none I.tT True.intro e (λz=>nomatch z) h
 | bl y=>cases (show u=Value.bool y from rx);exact Q4 PySem.W.kitx_bool I.tT True.intro e (λz=>nomatch z) h
 | int i=>obtain ⟨t,q⟩:=(show ∃ t,u=Value.int i t from rx);cases q;exact Q4 PySem.W.kitx_int I.tT True.intro e (λz=>nomatch z) h
 | str y=>obtain ⟨t,q⟩:=(show ∃ t,u=Value.str y t from rx);cases q;exact Q4 PySem.W.kitx_str I.tT True.intro e (λz=>nomatch z) h
 | flt y=>obtain ⟨t,q⟩:=(show ∃ t,u=Value.float y t from rx);cases q;exact Q4 PySem.W.kitx_float I.tT True.intro e (λz=>nomatch z) h
 | @lst a xs ea=>cases (show u=Value.ref a from rx);obtain ⟨_,_,n,_,h1⟩:=(show cw X.prog X.w H s.heap a (.lst xs) from I.hok a _ ea);exact Q4 PySem.W.kitx_list I.tT ⟨_,h1,rfl⟩ e (λz=>nomatch z) h
 | @frz a ob xs ea=>cases (show u=Value.ref a from rx);obtain ⟨_,_,_,n,_,h1⟩:=(show cw X.prog X.w H s.heap a (.frz ob (.lst xs)) from I.hok a _ ea);exact Q4 PySem.W.kitx_list I.tT ⟨_,h1,rfl⟩ e (λz=>nomatch z) h
 | @tup a xs ea=>cases (show u=Value.ref a from rx);obtain ⟨_,_,_,p⟩:=(show cw X.prog X.w H s.heap a (.tup xs) from I.hok a _ ea);obtain ⟨o,h1,h2,_⟩:=p;exact Q4 PySem.W.kitx_tuple I.tT ⟨o,h1,h2⟩ e (λz=>nomatch z) h
 | @dK a kvs ea=>cases (show u=Value.ref a from rx);obtain ⟨_,_,vs,_,p⟩:=(show cw X.prog X.w H s.heap a (.dK kvs) from I.hok a _ ea);obtain ⟨o,es,ep,h1,h2,_⟩:=p;exact Q4 PySem.W.kitx_dict I.tT ⟨o,h1,h2.1⟩ e (λz=>nomatch z) h
 | @dT a kvs ea=>cases (show u=Value.ref a from rx);obtain ⟨_,_,xs,_,o,es,ep,h1,h2,_⟩:=(show cw X.prog X.w H s.heap a (.dT kvs) from I.hok a _ ea);exact Q4 PySem.W.kitx_dict I.tT ⟨o,h1,h2.1⟩ e (λz=>nomatch z) h
 | @ins a C dx fs ea cl ha hn htk hm=>cases (show u=Value.ref a from rx);obtain ⟨mA,O,_⟩:=Gb I.hok ea;obtain ⟨od,J,_⟩:=O.look;exact Q4 (PySem.W.kitx_own (cl.get _) cl.hd ha hn htk hm) I.tT J e (λz=>nomatch z) h
end
structure cg (k:Nat) (A:UC):Prop where
 hd:A.handled=none
 dp:A.depth+3 * k+5 < recursionLimit
 un:A.units+16 * k+200 < cLine
 gd:A.guards=some []
theorem cg.mono {j k:Nat} {A:UC} (r:cg k A) (h:j<=k):cg j A:=⟨r.hd,by have:=r.dp;omega,by have:=r.un;omega,r.gd⟩
theorem cg.deeper {k:Nat} {A:UC} (r:cg (k+1) A) (env:Env):cg k (A.deeper env):=
 ⟨r.hd,by have:=r.dp;show A.depth+1+3 * k+5 < _;omega,by have:=r.un;show A.units+3+16 * k+200 < _;omega,r.gd⟩
theorem cg.depth {k:Nat} {A:UC} (r:cg k A):A.depth < recursionLimit:=by have:=r.dp;omega
theorem cg.units {k:Nat} {A:UC} (r:cg k A):A.units+64 < cLine:=by have:=r.un;omega
def Jn:TA:=λ_ H Q=>Q [] H
def HS (ta:TE) (tr:TA):TA:=λσ H Q=>ta σ H λx H1=>tr σ H1 λxs H2=>Q (x::xs) H2
section
variable {X:Cx} {e:Expr} {es:Uv} {te:TE} {t:TA} {pos:Pos}
theorem rj:PA X [] Jn:=λ_ _ _ _ H Q I h=>Ta ⟨[],H,I,.nil,h⟩
theorem lC (ha:PE X e te) (hr:PA X es t) (hs:starEach (e::es) X.env=(false,eval e X.env)::starEach es X.env:=by rfl):PA X (e::es) (HS te t):=by intro pos pins s σ H Q I h;rw [hs];show wpAny _ _ (spliced ((false,eval e X.env)::backTo pos (starEach es X.env))) _ _ s;refine Si (bq (ha pins s σ H _ I h) λu s1 ⟨x,H1,I1,r1,q1⟩=>?_);exact bq (hr pos pins s1 σ H1 _ I1 q1) λus s2 ⟨xs,H2,I2,r2,q2⟩=>⟨x::xs,H2,I2,.cons r1 r2,q2⟩
def NC (t:TA):TE:=λσ H Q=>t σ H λxs H1=>xs.length<=sizeLine/\∀ p,H1 p=none->Q (.ref p) (upd H1 p (.tup xs))
def ND (t:TA):TE:=λσ H Q=>t σ H λxs H1=>xs.length<=sizeLine/\∀ p,H1 p=none->Q (.ref p) (upd H1 p (.lst xs))
theorem Dg {x1} (h:PA X es t):PE X (.Tuple es x1 pos) (NC t):=by intro pins s σ H Q I hq;refine wpAny_Tuple_spliced (bq (h pos pins s σ H _ I hq) λus s1 ⟨xs,H1,I1,r,z,q⟩=>⟨by rw [<- r.length];exact z,?_⟩);have hf:H1 s1.heap.objs.size=none:=I1.hok.fresh (PY _);refine ⟨.ref s1.heap.objs.size,upd H1 s1.heap.objs.size (.tup xs),I1.laid (t':=s1.toks) (λb u e=>PR _ e) (PY _) ?_,rfl,q _ hf⟩;exact ⟨z,us,r,⟨_,P4 _ rfl,rfl,_,rfl⟩⟩
theorem zl (h:PA X es t):PE X (.List es pos) (ND t):=by intro pins s σ H Q I hq;refine wpAny_List_spliced (bq (h pos pins s σ H _ I hq) λus s1 ⟨xs,H1,I1,r,z,q⟩=>⟨by rw [<- r.length];exact z,?_⟩);have hf:H1 s1.heap.objs.size=none:=I1.hok.fresh (PY _);refine ⟨.ref s1.heap.objs.size,upd H1 s1.heap.objs.size (.lst xs),I1.laid (t':=s1.toks) (λb u e=>PR _ e) (PY _) ?_,rfl,q _ hf⟩;exact ⟨z,us,0,r,P4 _ rfl⟩
end
abbrev Sp:=List V->Hp->VK->XK->Prop
abbrev CY:=List Env->Hp->UD->XK->Uj
structure Gd (P:UA) (w:World) (K:Ut) (mg:Uo) (base:Heap) (A:UC) (outer:List Env) (s:UD) (H:Hp):Prop where
 frames:A.frames=some outer
 mod:Mod K mg base
 bs:∀ b o,base.get? b=some o->s.heap.get? b=some o/\H b=none
 bsz:base.objs.size<=s.heap.objs.size
 oZ:s.heap.FunFrames base outer
 frf:∀ b∈tS outer,H b=none
 hok:kq P w H s.heap
 bare:AllBare s.gens
def CE (outer:List Env) (P:UA) (w:World) (H:Hp) (s:UD) (Q:VK) (u:Value) (s':UD):Prop:=
 ∃ v H',s'.os=s.os/\AllBare s'.gens/\Un (tS outer) [] H H' s.heap s'.heap/\kq P w H' s'.heap/\RelV v u/\Q v H'
def CR (CX:CY) (outer:List Env) (P:UA) (w:World) (H:Hp) (s:UD) (Q:VK) (E:XK) (r:Result) (s':UD):Prop:=
 match r with
 | .ok (.ret u)=>CE outer P w H s Q u s'
 | .ok _=>False
 | .error e=>CX outer H s E e s'
structure jl (P:UA) (w:World) (K:Ut) (mg:Uo) (base:Heap) (CX:CY) (k:Nat) (f:Addr) (fd:FuncData) (ps:Uu) (sp:Sp):Prop where
 len:∀ vs H Q E,sp vs H Q E->vs.length=ps.length
 run:∀ (A:UC) (outer:List Env) (s:UD) (H:Hp) (args:Args) (us:Us) (vs:List V) (Q:VK) (E:XK),cg k A->Gd P w K mg base A outer s H->BindsTo s fd args (ps.zip us)->Vals vs us->sp vs H Q E ->
  codeAny (model P w) A (.call (.ref f) args) (CR CX outer P w H s Q E) s
theorem jl.mono {P:UA} {w:World} {K:Ut} {mg:Uo} {base:Heap} {CX:CY} {j k:Nat} {f:Addr} {fd:FuncData} {ps:Uu} {sp:Sp} (F:jl P w K mg base CX j f fd ps sp) (h:j<=k) :
  jl P w K mg base CX k f fd ps sp:=⟨F.len,λA outer s H args us vs Q E hr=>F.run A outer s H args us vs Q E (hr.mono h)⟩
theorem jl.imp {P:UA} {w:World} {K:Ut} {mg:Uo} {base:Heap} {CX:CY} {k:Nat} {f:Addr} {fd:FuncData} {ps:Uu} {sp sp':Sp} (F:jl P w K mg base CX k f fd ps sp)
  (h:∀ vs H Q E,sp' vs H Q E->sp vs H Q E):jl P w K mg base CX k f fd ps sp':=
 ⟨λvs H Q E q=>F.len vs H Q E (h _ _ _ _ q),λA outer s H args us vs Q E hr he hb hv hs=>F.run A outer s H args us vs Q E hr he hb hv (h _ _ _ _ hs)⟩
section
variable {X:Cx} {pins:Uk} {σ:St} {H:Hp} {s s':UD}
theorem Inv.NF (I:Inv X pins σ H s):Gd X.prog X.w X.K X.mg X.base X.A X.stack s H:=
 ⟨I.ok.frames,I.ok.mod,I.bs,P6 I.ok.bsz I.sz,I.stack,I.Az,I.hok,I.bare⟩
theorem Inv.after {Q:VK} {u:Value} (I:Inv X pins σ H s) (h:CE X.stack X.prog X.w H s Q u s'):EP X pins σ Q u s':=by obtain ⟨v,H',os,bare,un,hok,r,q⟩:=h;obtain ⟨hh,g,d,t,os'⟩:=s';obtain rfl:os'=s.os:=os;exact ⟨v,H',I.call (h':=hh) (g':=g) (d':=d) (t':=t) (ch:=[]) un hok bare (λb z=>absurd z (by simp)),r,q⟩
end
def Dh (sp:Sp) (dvs:List V) (E:XK) (t:TA):TE:=λσ H Q=>t σ H λvs H1=>sp (vs++dvs) H1 Q E
def Binds (K:Ut) (fd:FuncData) (ps:Uu) (ds:Us):Prop:=
 ∀ (s:UD) (us:Us),K.In s.heap->(us++ds).length=ps.length->BindsTo s fd ⟨us,[]⟩ (ps.zip (us++ds))
theorem Binds.all {K:Ut} {fd:FuncData} {ps:Uu} (h:∀ us:Us,us.length=ps.length->bindArgs fd ⟨us,[]⟩=pure (ps.zip us)):Binds K fd ps []:=λs us _ hl=>by rw [TN] at hl ⊢;exact .of_eq (h us hl)
def Passes (CX:CY) (X:Cx) (E:XK):Prop:=∀ (pins:Uk) (σ:St) (H:Hp) (s:UD) (e:Value) (s':UD),Inv X pins σ H s->CX X.stack H s E e s'->X.xe e s'
section
variable {X:Cx} {CX:CY} {k:Nat} {f C:Addr} {fd:FuncData} {ps:Uu} {sp:Sp} {dvs:List V} {ds:Us} {E:XK} {x m:Str} {p pos apos:Pos} {e o:Expr} {es:Uv} {ta:TE} {t:TA}
theorem zm {pins:Uk} {σ:St} {H:Hp} {s:UD} {Q:VK} {us:Us} {vs:List V} (F:jl X.prog X.w X.K X.mg X.base CX k f fd ps sp) (hr:cg k X.A) (hb:Binds X.K fd ps ds) (hd:Vals dvs ds) (hx:Passes CX X E)
  (I:Inv X pins σ H s) (r:Vals vs us) (h:sp (vs++dvs) H Q E):wpAny (model X.prog X.w) X.A (call (.ref f) us) (EP X pins σ Q) X.xe s:=by
 have r2:Vals (vs++dvs) (us++ds):=r.append hd;have hl:(us++ds).length=ps.length:=by rw [<- r2.length];exact F.len _ _ _ _ h
 refine wpAny_call (Ti (F.run X.A X.stack s H ⟨us,[]⟩ (us++ds) (vs++dvs) Q E hr I.NF (hb s us I.tT hl) r2 h) λr s' hq=>?_)
 cases r with
 | error e=>exact hx pins σ H s e s' I hq
 | ok fl=>
  cases fl with
  | ret u=>exact I.after hq
  | next=>exact False.elim hq
  | brk=>exact False.elim hq
  | cont=>exact False.elim hq
theorem Ge (F:jl X.prog X.w X.K X.mg X.base CX k f fd ps sp) (hr:cg k X.A) (hg:Gl X x) (hm:X.mg x=some (.ref f)) (hk:PySem.W.keepIn X.K (.ref f)=true) (hb:Binds X.K fd ps ds) (hd:Vals dvs ds) (hx:Passes CX X E)
  (ha:PA X (e::es) t) (hdb:(x == ("__debug__" : Str))=false:=by decide) (he:starEach (e::es) X.env=(false,eval e X.env)::starEach es X.env:=by rfl) (hpl:(backTo pos (starEach es X.env)).any (·.1)=false:=by rfl) :
  PE X (.Call (.Name x p) (e::es) [] pos) (Dh sp dvs E t):=by
 intro pins s σ H Q I h;refine QZ (vK I hg hm ?_ hdb);refine PySem.W.callWith_K (h₀:=X.base) I.ok.mod.kin hk (bq (ha pos pins s σ H _ I h) λus s1 ⟨vs,H1,I1,r,q⟩=>⟨I1.tT,?_⟩) he hpl;exact zm F hr hb hd hx I1 r q
theorem Di (F:jl X.prog X.w X.K X.mg X.base CX k f fd ps sp) (hr:cg k X.A) (hg:Gl X x) (hm:X.mg x=some (.ref f)) (hk:PySem.W.keepIn X.K (.ref f)=true) (hb:Binds X.K fd ps ds) (hd:Vals dvs ds) (hx:Passes CX X E)
  (hdb:(x == ("__debug__" : Str))=false:=by decide):PE X (.Call (.Name x p) [] [] pos) (Dh sp dvs E Jn):=by
 intro pins s σ H Q I h;refine QZ (vK I hg hm ?_ hdb);exact PySem.W.callWith_K0 I.tT hk (zm (us:=[]) F hr hb hd hx I .nil h)
end
structure aP (N P:Uu) (sc:Scope):Prop where
 kind:sc.kind=.function
 co:sc.isCoroutine=false
 gen:sc.isGenerator=false
 nd:N.Nodup
 pre:N.take P.length=P
 par:∀ x∈P,sc.names.lookup x=some .local\/sc.names.lookup x=some .cell
 nofree:∀ y∈sc.names,y.2≠.free
theorem uG {kindOf:Str->Option NameKind} {x:Str}:∀ {binds:List (Str×Value)} {m:Uo},(∀ v,(x,v)∉binds)->bindL kindOf binds m x=m x
 | [],_,_=>rfl
 | (n,v)::r,m,h=>by
  unfold bindL;rw [uG λw hw=>h w (P5 _ hw)];split
  ·have:x≠n:=by rintro rfl;exact h v Qe
   simp [this]
  ·rfl
theorem uH {kindOf:Str->Option NameKind} {x:Str}:∀ {binds:List (Str×Value)} {m:Uo},(∀ v,(x,v)∉binds)->bindC kindOf binds m x=m x
 | [],_,_=>rfl
 | (n,v)::r,m,h=>by
  unfold bindC;rw [uH λw hw=>h w (P5 _ hw)];split
  ·rfl
  ·have:x≠n:=by rintro rfl;exact h v Qe
   simp [this]
theorem uI {kindOf:Str->Option NameKind} {x:Str} {v:Value}:∀ {P:Uu} {vs:Us} {i:Nat} {m:Uo},P.Nodup->P[i]?=some x->vs[i]?=some v->kindOf x=some .local ->
  bindL kindOf (P.zip vs) m x=some v
 | [],_,_,_,_,h,_,_=>by simp at h
 | _::_,[],_,_,_,_,h,_=>by simp at h
 | p::P,w::vs,0,m,nd,h1,h2,hk=>by simp at h1 h2;subst h1;subst h2;show bindL kindOf ((p,w)::P.zip vs) m p=_;unfold bindL;rw [uG λv hv=>(Rv.mp nd).1 (TQ hv).1,if_pos hk];simp
 | p::P,w::vs,i+1,m,nd,h1,h2,hk=>by show bindL kindOf ((p,w)::P.zip vs) m x=_;unfold bindL;exact uI (i:=i) (Rv.mp nd).2 (by simpa using h1) (by simpa using h2) hk
theorem uJ {kindOf:Str->Option NameKind} {x:Str} {v:Value}:∀ {P:Uu} {vs:Us} {i:Nat} {m:Uo},P.Nodup->P[i]?=some x->vs[i]?=some v->kindOf x≠some .local ->
  bindC kindOf (P.zip vs) m x=some v
 | [],_,_,_,_,h,_,_=>by simp at h
 | _::_,[],_,_,_,_,h,_=>by simp at h
 | p::P,w::vs,0,m,nd,h1,h2,hk=>by simp at h1 h2;subst h1;subst h2;show bindC kindOf ((p,w)::P.zip vs) m p=_;unfold bindC;rw [uH λv hv=>(Rv.mp nd).1 (TQ hv).1,if_neg hk];simp
 | p::P,w::vs,i+1,m,nd,h1,h2,hk=>by show bindC kindOf ((p,w)::P.zip vs) m x=_;unfold bindC;exact uJ (i:=i) (Rv.mp nd).2 (by simpa using h1) (by simpa using h2) hk
def start (N:Uu) (vs:List V):St:=vs.map some++List.replicate (N.length - vs.length) none
noncomputable def tY (CX:CY) (P:UA) (w:World) (K:Ut) (mg:Uo) (base:Heap) (N:Uu) (qual:Str) (scope:Scope) (f:Addr) (cd:Value) (A:UC) (outer:List Env) (s:UD) (H:Hp) (E:XK):Cx where
 prog:=P
 w:=w
 K:=K
 mg:=mg
 base:=base
 A:=A.deeper (envOfC qual scope s.heap.objs.size f cd)
 N:=N
 s₀:=s
 H₀:=H
 env:=envOfC qual scope s.heap.objs.size f cd
 outer:=outer
 stack:=envOfC qual scope s.heap.objs.size f cd::outer
 ex:=[]
 calm:=true
 fn:=λ_=>true
 pn:=[]
 xe:=λe s'=>wpAny (model P w) (A.deeper (envOfC qual scope s.heap.objs.size f cd)) (leaving (envOfC qual scope s.heap.objs.size f cd) e) (λ_ s''=>CX outer H s E e s'') (λe' s''=>CX outer H s E e' s'') s'
theorem xA {sc:Scope} {n:Nat} {x:Str} (h:sc.names.lookup x=some .cell):∃ c,(cellsFrom n sc.names []).lookup x=some c:=by have q:=S7 sc.names n [] (.inl h);exact Option.isSome_iff_exists.mp q
theorem B5 {CX:CY} {P:UA} {w:World} {K:Ut} {mg:Uo} {base:Heap} {N ps:Uu} {qual:Str} {scope:Scope} {f:Addr} {cd:Value} {A:UC} {outer:List Env} {s s1:UD} {H:Hp} {E:XK} {us:Us} {vs:List V}
  (S:aP N ps scope) (hd:A.handled=none) (e0:Gd P w K mg base A outer s H) (hl:vs.length=ps.length) (r:Vals vs us)
  (x:InCallC s s.heap.objs.size (bindL (envOfC qual scope s.heap.objs.size f cd).kindOf (ps.zip us) λ_=>none) (cellsFrom (s.heap.objs.size+1) scope.names []) (bindC (envOfC qual scope s.heap.objs.size f cd).kindOf (ps.zip us) λ_=>none) s1) :
  Inv (tY CX P w K mg base N qual scope f cd A outer s H E) [] (start N vs) H s1:=by
 have hpl:ps.length<=N.length:=by have:=RV List.length S.pre;rw [SI] at this;omega
 obtain ⟨h1,tk,rfl,hk⟩:=x.done;have noA:∀ b:Addr,b∉(tY CX P w K mg base N qual scope f cd A outer s H E).ex:=λb z=>absurd (show b∈([]:Ur) from z) (by simp)
 refine ⟨⟨e0.mod,S.kind,rfl,rfl,PY _,λy z c h1 h2=>?_,λy hy=>?_,λy c _ h=>?_,λ_=>hd,Around.frames_deeper e0.frames,.inr ⟨rfl,rfl⟩,λb z=>absurd z (noA b),e0.bs,e0.bsz,λb _ _=>noA b,λb z=>absurd z (noA b),e0.oZ,e0.frf⟩,
  rfl,e0.bare,Un.kept hk,⟨_,x.toInCall.ns,λi y v h1 h2 h3=>?_⟩,λy c h=>⟨_,x.cell y c h⟩,e0.hok.fresh (PY _),λy c h=>?_,λp hp=>absurd (show p∈([]:Uk) from hp) (by simp),e0.hok.kept hk,?_⟩
 ·exact name_of_addr x.apart (Q6 h1) (Q6 h2)
 ·have hy:scope.names.lookup y=some .cell\/scope.names.lookup y=some .free:=hy;rcases hy with hy | hy
  ·exact xA hy
  ·exact absurd rfl (S.nofree _ (Q6 hy))
 ·exact Th (x.above y c (Q6 h))
 ·have hi:i < vs.length:=by
   unfold start at h2;by_cases hi:i < vs.length
   ·exact hi
   ·rw [Qz (by simpa using hi)] at h2;rw [Sa] at h2;split at h2<;>cases h2
  have ha:vs[i]?=some v:=by
   unfold start at h2;rw [Qu (by simpa using hi),QY] at h2
   cases e:vs[i]? with
   | none=>rw [e] at h2;cases h2
   | some a=>rw [e] at h2;cases h2;rfl
  obtain ⟨u,hu,rv⟩:=r.get ha;have hp:ps[i]?=some y:=by rw [<- S.pre,R0 (by omega)];exact h1
  have ndP:ps.Nodup:=by rw [<- S.pre];exact S.nd.sublist (T8 _ _)
  refine ⟨u,rv,?_⟩;rcases S.par y (Qq hp) with k | k
  ·exact .inl ⟨k,uI ndP hp hu k⟩
  ·obtain ⟨c,e⟩:=xA (n:=s.heap.objs.size+1) k;refine .inr ⟨.inl k,c,e,?_⟩;have q:=x.cell y c e;rw [uJ ndP hp hu (by show scope.names.lookup y≠_;rw [k];decide)] at q;exact q
 ·exact e0.hok.fresh (Th (x.above y c (Q6 h)))
 ·unfold start;show _=N.length;rw [Qd,Qa,QW];omega
theorem LF {CX:CY} {P:UA} {w:World} {K:Ut} {mg:Uo} {base:Heap} {k:Nat} {f:Addr} {name qual:Str} {params:Arguments} {body:List Stmt} {scope:Scope} {dV kV doc pm cdv ct oc:Value} {an od:Option Addr}
  {osl:Uw} {N ps:Uu} {sp:Sp} (lk:K.lookup f=some ⟨oc,od,.func (PySem.W.fnOf name qual params body scope dV kV doc pm an cdv ct),osl⟩) (hcd:PySem.W.codeIn K cdv qual=true) (S:aP N ps scope)
  (len:∀ vs H Q E,sp vs H Q E->vs.length=ps.length)
  (hbody:∀ (A:UC) (outer:List Env) (s:UD) (H:Hp) (vs:List V) (Q:VK) (E:XK),cg k (A.deeper (envOfC qual scope s.heap.objs.size f cdv))->sp vs H Q E ->
   ∃ t,za (tY CX P w K mg base N qual scope f cdv A outer s H E) body t/\t {nx:=λ_ H'=>Q .non H',rt:=Q} (start N vs) H) :
  jl P w K mg base CX (k+1) f (PySem.W.fnOf name qual params body scope dV kV doc pm an cdv ct) ps sp:=by
 refine ⟨len,λA outer s H args us vs Q E hr e0 hb r hsp=>?_⟩;have hl:=len _ _ _ _ hsp;have KX:K.In s.heap:=e0.mod.kin.keeps λb o e=>(e0.bs b o e).1;have lim:s.heap.NoLimit:=e0.mod.nolimit.keeps λb o e=>(e0.bs b o e).1
 have hkind:∀ y∈ps.zip us,scope.names.lookup y.1=some .local\/(scope.names.lookup y.1=some .cell/\((cellsFrom (s.heap.objs.size+1) scope.names []).lookup y.1).isSome=true):=λ⟨n,v⟩ hy=>by
  rcases S.par n (TQ hy).1 with q | q
  ·exact .inl q
  ·exact .inr ⟨q,S7 _ _ _ (.inl q)⟩
 refine codeAny_call_function hr.depth (KX _ _ lk) rfl S.co S.gen rfl (PySem.W.codeRec_of KX hcd) (hb _ _ _ _ ?_);refine wpAny_newFunctionEnv_cells S.kind hkind λenv he s1 x=>?_;subst he;refine ⟨lim.keeps x.toInCall.keep,codeAny_func ?_⟩;obtain ⟨t,ht,hq⟩:=hbody A outer s H vs Q E (hr.deeper _) hsp;have I:Inv (tY CX P w K mg base N qual scope f cdv A outer s H E) [] (start N vs) H s1:=B5 S hr.hd e0 hl r x;refine Q7 (ht [] s1 (start N vs) H _ I hq) (λfl s' hs=>?_) λe s' hs=>hs
 have fin:∀ {σ':St} {H':Hp} {v:V} {u:Value},Inv (tY CX P w K mg base N qual scope f cdv A outer s H E) [] σ' H' s'->RelV v u->Q v H'->CE outer P w H s Q u s':=
  λ{σ' H' v u} J rv q=>⟨v,H',J.os,J.bare,J.base,J.hok,rv,q⟩
 cases fl with
 | ret u=>obtain ⟨v,σ',H',J,rv,q⟩:=hs;exact fin J rv q
 | next=>obtain ⟨σ',H',J,q⟩:=hs;exact fin (v:=V.non) (u:=Value.none) J rfl q
 | brk=>obtain ⟨_,_,_,q⟩:=hs;exact False.elim q
 | cont=>obtain ⟨_,_,_,q⟩:=hs;exact False.elim q
section
variable {X:Cx} {x:Str} {p pos:Pos} {e:Expr} {es:Uv} {t:TA} {id T:String} {r:List V->Hp->VK->Prop}
def NG (r:List V->Hp->VK->Prop) (t:TA):TE:=λσ H Q=>t σ H λvs H1=>r vs H1 Q
theorem xB (hc:dz X (.builtin id) r) (hg:Gl X x) (hm:X.mg x=none) (hv:bootBuiltins x=some (.builtin id)) (ha:PA X (e::es) t) (hn:x ≠ "__name__" := by decide) (hdb:(x == ("__debug__" : Str))=false:=by decide)
  (he:starEach (e::es) X.env=(false,eval e X.env)::starEach es X.env:=by rfl) (hpl:(backTo pos (starEach es X.env)).any (·.1)=false:=by rfl):PE X (.Call (.Name x p) (e::es) [] pos) (NG r t):=by
 intro pins s σ H Q I h;refine QZ (mT I hg hm hv ?_ hn hdb);exact Tj (bq (ha pos pins s σ H _ I h) λus s1 ⟨vs,H1,I1,r1,q1⟩=>hc pins s1 σ H1 vs us Q I1 r1 q1) he hpl
theorem B6 (hc:dz X (.type T) r) (hg:Gl X x) (hm:X.mg x=none) (hv:bootBuiltins x=some (.type T)) (ha:PA X (e::es) t) (hn:x ≠ "__name__" := by decide) (hdb:(x == ("__debug__" : Str))=false:=by decide)
  (he:starEach (e::es) X.env=(false,eval e X.env)::starEach es X.env:=by rfl) (hpl:(backTo pos (starEach es X.env)).any (·.1)=false:=by rfl):PE X (.Call (.Name x p) (e::es) [] pos) (NG r t):=by
 intro pins s σ H Q I h;refine QZ (mT I hg hm hv ?_ hn hdb);exact RI (bq (ha pos pins s σ H _ I h) λus s1 ⟨vs,H1,I1,r1,q1⟩=>hc pins s1 σ H1 vs us Q I1 r1 q1) he hpl
end
end L2
namespace HT
open PySem PyProof.Rows
section
variable {prog:UA} {w:World} {A:UC} {E:Uj} {s:UD}
theorem Gf {t b:Addr} {vs ws:Us} {Q:Uj} (ht:IsTup s.heap t vs.toArray) (hb:IsTup s.heap b ws.toArray) (hv:vs≠[])
  (h1:ws=[]->Q (.ref t) s) (h2:ws≠[]->Q (.ref s.heap.objs.size) {s with heap:=s.heap.push {cls:=.type "tuple",data:=.seq (vs++ws).toArray}})
  (hsz:vs.length+ws.length<=sizeLine):wpAny (model prog w) A (binaryOp .Add (.ref t) (.ref b)) Q E s:=by
 obtain ⟨⟨cls,dd,data,sl⟩,ho,hc,n,hd⟩:=id ht;obtain ⟨⟨cls2,dd2,data2,sl2⟩,ho2,hc2,n2,hd2⟩:=id hb;simp only at hc hd hc2 hd2;subst hc hd hc2 hd2;have e:vs.toArray++ws.toArray=(vs++ws).toArray:=by simp
 by_cases hw:ws=[]
 ·exact concat_meets ⟨_,ho,rfl⟩ ⟨_,ho2,rfl⟩ noFill_tuple_add seq_tuple_add S8 S3 (SO _ _)
   (tuple_addW1 t b vs.toArray ws.toArray n n2 dd dd2 sl sl2 (by simpa using hv) (by simp [hw])) ⟨ho,ho2,h1 hw⟩
 ·refine concat_meets ⟨_,ho,rfl⟩ ⟨_,ho2,rfl⟩ noFill_tuple_add seq_tuple_add S8 S3 (SO _ _)
   (tuple_addW2 t b vs.toArray ws.toArray n n2 dd dd2 sl sl2 (by simpa using hv) (by simpa using hw) (by rw [P7,P7];exact hsz)) ⟨ho,ho2,?_⟩
  rw [e];exact h2 hw
def eF (n d:Nat):Option Int->Nat
 | none=>d
 | some v=>if v < 0 then (v+(n:Int)).toNat else min v.toNat n
theorem Jo (n d:Nat) (hd:d<=n) (o:Option Int):eF n d o<=n:=by
 cases o with
 | none=>exact hd
 | some v=>
  show (if v < 0 then (v+(n:Int)).toNat else min v.toNat n)<=n;by_cases hv:v < 0
  ·rw [if_pos hv];omega
  ·rw [if_neg hv];exact Nat.min_le_right _ _
theorem AF (v:Int) (n d:Nat):(if v < 0 then max (v+(n:Int)) 0 else min v (n:Int))=((eF n d (some v):Nat):Int):=by
 show (if v < 0 then max (v+(n:Int)) 0 else min v (n:Int))=(((if v < 0 then (v+(n:Int)).toNat else min v.toNat n):Nat):Int);by_cases hv:v < 0
 ·simp only [if_pos hv];omega
 ·simp only [if_neg hv];omega
theorem zo (lo hi:Option Int) (n:Nat):Builtin.Slice.sliceAdjust lo hi 1 (n:Int)=(((eF n 0 lo:Nat):Int),((eF n n hi:Nat):Int)):=by
 have h1:¬ ((1:Int) < 0):=by omega
 unfold Builtin.Slice.sliceAdjust;simp only [h1,QK];refine Prod.ext ?_ ?_
 ·cases lo with
  | none=>rfl
  | some v=>exact AF v n 0
 ·cases hi with
  | none=>rfl
  | some v=>exact AF v n n
theorem zp (i j:Nat):Builtin.Slice.slicePlaces (i:Int) (j:Int) 1=j - i:=by
 unfold Builtin.Slice.slicePlaces;have h1:(1:Int) > 0:=by omega
 simp only [h1,QB,Int.ediv_one];split<;>omega
theorem rm {v:Value} {o:Option Int} {Q:Option Int->UD->Prop} (p:IsPart v o) (h:Q o s):wpAny (model prog w) A (Builtin.Slice.slicePartIndex v) Q E s:=by
 cases p with
 | none=>exact slicePart_none h
 | int i t=>exact slicePart_int h
theorem jm {sl:Addr} {vl vu:Value} {lo hi:Option Int} {n:Nat} {Q:Int×Int×Nat->UD->Prop} (hs:s.heap.IsSliceOf sl vl vu .none) (pl:IsPart vl lo) (pu:IsPart vu hi)
  (h:Q (((eF n 0 lo:Nat):Int),1,eF n n hi - eF n 0 lo) s):wpAny (model prog w) A (Builtin.Slice.sliceApplied (.ref sl) (pure (n:Int))) Q E s:=by
 obtain ⟨os,hos,hcs,hds⟩:=id hs;unfold Builtin.Slice.sliceApplied Builtin.Slice.sliceFields;refine PQ (PQ (Ra hos hds (x:=vl) rfl (PQ (Ra hos hds (x:=vu) rfl (PQ (Ra hos hds (x:=.none) rfl (PU ?_)))))));refine PQ (slicePart_none ?_);show wpAny _ _ (if ((1:Int) == 0)=true then _ else _) _ _ s;rw [if_neg (by decide)];refine PQ (rm pl (PQ (rm pu (PQ (PU ?_)))));show wpAny _ _ (match Builtin.Slice.sliceAdjust lo hi 1 (n:Int) with | (lo,hi)=>pure (lo,(1:Int),Builtin.Slice.slicePlaces lo hi 1)) _ _ s;rw [zo lo hi n];show wpAny _ _ (pure (((eF n 0 lo:Nat):Int),(1:Int),Builtin.Slice.slicePlaces ((eF n 0 lo:Nat):Int) ((eF n n hi:Nat):Int) 1)) _ _ s;rw [zp];exact PU h
theorem Dj (xs:Uy) (i k:Nat):((List.range k).filterMap λ(m:Nat)=>xs[((i:Int)+(m:Int) * 1).toNat]?).toArray=((xs.toList.drop i).take k).toArray:=by
 have e:(λ(m:Nat)=>xs[((i:Int)+(m:Int) * 1).toNat]?)=λm=>xs[i+m]?:=by
  funext m
  have:((i:Int)+(m:Int) * 1).toNat=i+m:=by omega
  rw [this]
 rw [e];have:=pick_run xs i k;rw [List.filterMap_map] at this;have e2:((λx=>xs[x]?)∘λx=>i+x)=λm=>xs[i+m]?:=rfl;rw [e2] at this;rw [this]
theorem nL {t sl:Addr} {items:Uy} {vl vu:Value} {lo hi:Option Int} {Q:Uj} (ht:IsTup s.heap t items) (hs:s.heap.IsSliceOf sl vl vu .none) (pl:IsPart vl lo) (pu:IsPart vu hi)
  (hw:¬ (eF items.size 0 lo=0/\eF items.size items.size hi=items.size))
  (h:Q (.ref s.heap.objs.size) {s with heap:=s.heap.push {cls:=.type "tuple",data:=.seq ((items.toList.drop (eF items.size 0 lo)).take (eF items.size items.size hi - eF items.size 0 lo)).toArray}})
  (hsz:items.size<=sizeLine):wpAny (model prog w) A (getItem (.ref t) (.ref sl)) Q E s:=by
 have htake:sizeOk (.seq ((items.toList.drop (eF items.size 0 lo)).take (eF items.size items.size hi - eF items.size 0 lo)).toArray):=by show ((items.toList.drop (eF items.size 0 lo)).take (eF items.size items.size hi - eF items.size 0 lo)).toArray.size<=sizeLine;rw [P7,SI,Tt,QR];omega
 have hj:eF items.size items.size hi<=items.size:=Jo _ _ (PY _) hi;obtain ⟨os,hos,hcs,hds⟩:=id hs;have hTs:s.TypeIs (.ref sl) "slice" := ⟨os,hos,hcs⟩;unfold getItem
 try with_reducible refine QG ?_
 first | refine PQ (PU ?_) | skip
 refine PQ (wpAny_sequenceKey ht.typeIs (by decide) ?_)
 refine PQ (QC (name:=Str.ofString "__getitem__") ht.typeIs QN
  (Qy QN ht.typeIs entry_tuple_getitem ?_ (args_tuple_getitem _ _)))
 show wpAny _ _ (Builtin.Tuple.tupleItemsOf (.ref t) >>= _) _ _ s;refine PQ (tupleItemsOf_ ht ?_);refine PQ (Tn hTs ?_);rw [if_pos (by decide)];refine PQ (jm hs pl pu ?_);have hno:¬ ((((eF items.size 0 lo:Nat):Int) == 0 && (1:Int) == 1 && (eF items.size items.size hi - eF items.size 0 lo) == items.size)=true):=by intro q;rw [PV,PV] at q;have q1:((eF items.size 0 lo:Nat):Int)=0:=eq_of_beq q.1.1;have q2:eF items.size items.size hi - eF items.size 0 lo=items.size:=eq_of_beq q.2;exact hw ⟨by omega,by omega⟩
 show wpAny _ _ (if (((eF items.size 0 lo:Nat):Int) == 0 && (1:Int) == 1 && (eF items.size items.size hi - eF items.size 0 lo) == items.size)=true then _ else _) _ _ s;rw [if_neg hno,Dj]
 first
  | exact PQ (m:=Builtin.Tuple.tupleExact _) (QD (PU ⟨_,rfl,PU h⟩) htake)
  | exact PQ (m:=Builtin.Tuple.tupleExact _) (QD (PQ (PU (PU ⟨_,rfl,PU h⟩))) htake)
  | exact PQ (PQ (m:=Builtin.Tuple.tupleExact _) (QD (PU (PU ⟨_,rfl,PU h⟩)) htake))
  | exact PQ (PQ (m:=Builtin.Tuple.tupleExact _) (QD (PU ⟨_,rfl,PU h⟩) htake))
end
end HT
namespace L2
open PySem PySem.Spec PyProof.Rows
abbrev TO:=St->Hp->(Option Int->Hp->Prop)->Prop
def PO (X:Cx) (e:Option Expr) (t:TO):Prop:=
 ∀ (pins:Uk) (s:UD) (σ:St) (H:Hp) (Q:Option Int->Hp->Prop),Inv X pins σ H s->t σ H Q ->
  wpAny (model X.prog X.w) X.A (evalPart e X.env) (λu s'=>∃ o H',Inv X pins σ H' s'/\IsPart u o/\Q o H') X.xe s
def Gg:TO:=λ_ H Q=>Q none H
def LG (t:TE):TO:=λσ H Q=>t σ H λx H1=>∃ i,x=.int i/\Q (some i) H1
section
variable {X:Cx} {e:Expr} {te:TE} {lo hi:Option Expr} {tl th:TO} {pos p2:Pos}
theorem Gh:PO X none Gg:=by intro pins s σ H Q I h;rw [evalPart_none];exact PU ⟨none,H,I,.none,h⟩
theorem Gi (h:PE X e te):PO X (some e) (LG te):=by intro pins s σ H Q I hw;rw [evalPart_some];refine bq (h pins s σ H _ I hw) λu s1 ⟨x,H1,I1,r1,q1⟩=>?_;obtain ⟨i,rfl,q⟩:=q1;obtain ⟨t,rfl⟩:=r1;exact ⟨some i,H1,I1,.int i t,q⟩
noncomputable def Lc (X:Cx) (r:V->Option Int->Option Int->Hp->VK->Prop):Prop:=
 ∀ (pins:Uk) (s:UD) (σ:St) (H:Hp) (x:V) (v vl vu:Value) (lo hi:Option Int) (sl:Addr) (Q:VK),Inv X pins σ H s->RelV x v->s.heap.IsSliceOf sl vl vu .none->IsPart vl lo->IsPart vu hi->r x lo hi H Q ->
  ∃ T id,typeLookup (.type T) "__getitem__" = pure (some (.builtin id))/\s.TypeIs v T/\wpAny (model X.prog X.w) X.A (getItem v (.ref sl)) (EP X pins σ Q) X.xe s
def Pp (r:V->Option Int->Option Int->Hp->VK->Prop) (te:TE) (tl th:TO):TE:=λσ H Q=>te σ H λx H1=>tl σ H1 λl H2=>th σ H2 λu H3=>r x l u H3 Q
theorem xC {r:V->Option Int->Option Int->Hp->VK->Prop} (hr:Lc X r) (he:PE X e te) (hl:PO X lo tl) (hu:PO X hi th):PE X (.Subscript e (.Slice lo hi none p2) pos) (Pp r te tl th):=by intro pins s σ H Q I h;refine Subscript_ (bq (he pins s σ H _ I h) λv s1 ⟨x,H1,I1,r1,q1⟩=>?_);refine wpAny_Slice (bq (hl pins s1 σ H1 _ I1 q1) λvl s2 ⟨l,H2,I2,pl,q2⟩=>bq (hu pins s2 σ H2 _ I2 q2) λvu s3 ⟨u,H3,I3,pu,q3⟩=>?_);rw [evalPart_none];refine PU ?_;have I4:Inv X pins σ H3 {s3 with heap:=s3.heap.push {cls:=.type "slice",data:=.fields #[vl,vu,.none]}}:=I3.kept (t':=s3.toks) λb ob q=>PR _ q;obtain ⟨T,id,hT,ht,hg⟩:=hr pins {s3 with heap:=s3.heap.push {cls:=.type "slice",data:=.fields #[vl,vu,.none]}} σ H3 x v vl vu l u s3.heap.objs.size Q I4 r1 (Heap.IsSliceOf.new ..) pl pu q3;show wpAny (model X.prog X.w) X.A (subscriptTail e (.Slice lo hi none p2) v (.ref s3.heap.objs.size)) (EP X pins σ Q) X.xe {s3 with heap:=s3.heap.push {cls:=.type "slice",data:=.fields #[vl,vu,.none]}};exact tail_any (ops:=[.ref s3.heap.objs.size,v]) ht hT hg (by with_unfolding_all rfl)
def rA (xs:List V) (lo hi:Option Int):List V:=(xs.drop (HT.eF xs.length 0 lo)).take (HT.eF xs.length xs.length hi - HT.eF xs.length 0 lo)
theorem pT (xs:List V) (lo hi:Option Int):(rA xs lo hi).length<=xs.length:=by unfold rA;rw [SI,Tt];omega
def NH (K:Ut):V->Option Int->Option Int->Hp->VK->Prop:=λx lo hi H Q=>∃ a xs,x=.ref a/\gE K H a xs /\
 ¬ (HT.eF xs.length 0 lo=0/\HT.eF xs.length xs.length hi=xs.length)/\∀ p,H p=none->Q (.ref p) (upd H p (.tup (rA xs lo hi)))
theorem Jp:Lc X (NH X.K):=by
 intro pins s σ H x v vl vu lo hi sl Q I rx hs pl pu h;obtain ⟨a,xs,rfl,hx,hw,q⟩:=h;cases rx;obtain ⟨its,r,ht,hz⟩:=I.tuple hx;have hlen:its.toArray.size=xs.length:=by rw [P7];exact r.length.symm
 refine ⟨"tuple",_,QN.lookup,ht.typeIs,?_⟩;refine HT.nL ht hs pl pu (by rw [hlen];exact hw) ?_ (by rw [hlen];exact hz);rw [hlen];refine ⟨.ref s.heap.objs.size,_,I.laid (t':=s.toks) (o:=.tup (rA xs lo hi)) (λb ob q=>PR _ q) (PY _) ?_,rfl,q _ (I.hok.fresh (PY _))⟩;exact ⟨P6 (pT xs lo hi) hz,_,(r.drop (HT.eF xs.length 0 lo)).take (HT.eF xs.length xs.length hi - HT.eF xs.length 0 lo),IsTup.new _ _⟩
def LH (K:Ut):R2:=λx y H Q=>∃ a b xs ys,x=.ref a/\y=.ref b/\gE K H a xs/\gE K H b ys/\xs≠[]/\xs.length+ys.length<=sizeLine /\
 (ys=[]->Q (.ref a) H)/\(ys≠[]->∀ p,H p=none->Q (.ref p) (upd H p (.tup (xs++ys))))
theorem Vals.vN {xs:List V} {us:Us} (r:Vals xs us):us=[]<->xs=[]:=by
 cases r with
 | nil=>simp
 | cons _ _=>simp
theorem Gj:ik X (binaryOp .Add) (LH X.K):=by intro pins s σ H x y v u Q I rx ry h;obtain ⟨a,b,xs,ys,rfl,rfl,ha,hb,hx,hz,q1,q2⟩:=h;cases rx;cases ry;obtain ⟨its,r1,p1,_⟩:=I.tuple ha;obtain ⟨its2,r2,p2,_⟩:=I.tuple hb;refine HT.Gf p1 p2 (λz=>hx (r1.vN.mp z)) (λz=>⟨.ref a,H,I,rfl,q1 (r2.vN.mp z)⟩) (λz=>?_) (by rw [<- r1.length,<- r2.length];exact hz);refine ⟨.ref s.heap.objs.size,_,I.laid (t':=s.toks) (o:=.tup (xs++ys)) (λb ob q=>PR _ q) (PY _) ?_,rfl,q2 (λw=>z (r2.vN.mpr w)) _ (I.hok.fresh (PY _))⟩;exact ⟨by rw [Qd];exact hz,_,r1.append r2,IsTup.new _ _⟩
end
def tZ (n:Nat) (i:Int):Option Nat:=if 0<=i then (if i < n then some i.toNat else none) else if -(n:Int)<=i then some (i+n).toNat else none
def mf {α:Type} (xs:List α) (i:Int):Option α:=(tZ xs.length i).bind λj=>xs[j]?
theorem AG {n:Nat} {i:Int} {j:Nat} (h:tZ n i=some j):seqIndex? i n=some j/\j < n/\-(n:Int)<=i/\i < n:=by
 unfold tZ at h;by_cases h0:0<=i
 ·rw [if_pos h0] at h;by_cases h1:i < n
  ·rw [if_pos h1] at h;have e:i.toNat=j:=QV h;exact ⟨by rw [seqIndex_of h0 h1,e],by omega,by omega,h1⟩
  ·rw [if_neg h1] at h;cases h
 ·rw [if_neg h0] at h;by_cases h1:-(n:Int)<=i
  ·rw [if_pos h1] at h;have e:(i+n).toNat=j:=QV h;exact ⟨by rw [seqIndex_neg (by omega) h1,e],by omega,h1,by omega⟩
  ·rw [if_neg h1] at h;cases h
theorem AH {α:Type} {xs:List α} {i:Int} {v:α} (h:mf xs i=some v):∃ j,seqIndex? i xs.length=some j/\xs[j]?=some v/\j < xs.length/\-(xs.length:Int)<=i/\i < xs.length:=by
 unfold mf at h
 cases e:tZ xs.length i with
 | none=>rw [e] at h;cases h
 | some j=>rw [e] at h;obtain ⟨h1,h2,h3,h4⟩:=AG e;exact ⟨j,h1,h,h2,h3,h4⟩
theorem qN {α:Type} {xs:List α} {j:Nat} {v:α} (h:xs[j]?=some v):mf xs (j:Int)=some v:=by
 have hj:j < xs.length:=(Qi.mp h).1;have e:tZ xs.length (j:Int)=some j:=by unfold tZ;rw [if_pos (by omega),if_pos (by omega)];simp
 unfold mf;rw [e];exact h
def AI (b:Expr):Prop:=∀ o i,subscripted b false o i=operate [o,i] (getItem o i)
noncomputable def Ld (X:Cx) (r:R2):Prop:=
 ∀ (value slice:Expr) (pins:Uk) (s:UD) (σ:St) (H:Hp) (x y:V) (v u:Value) (Q:VK),Inv X pins σ H s->RelV x v->RelV y u->r x y H Q ->
  subscripted slice false v u=operate [v,u] (getItem v u)->wpAny (model X.prog X.w) X.A (subscriptTail value slice v u) (EP X pins σ Q) X.xe s
noncomputable def Pq (X:Cx) (id:String) (r:V->List V->Hp->VK->Prop):Prop:=
 ∀ (pins:Uk) (s:UD) (σ:St) (H:Hp) (x:V) (xs:List V) (v:Value) (us:Us) (Q:VK),Inv X pins σ H s->RelV x v->Vals xs us->r x xs H Q ->
  wpAny (model X.prog X.w) X.A (call (.builtin id) (v::us)) (EP X pins σ Q) X.xe s
section
variable {X:Cx} {a b:Expr} {ta tb:TE} {pos:Pos}
theorem LJ {r:R2} (hr:Ld X r) (ha:PE X a ta) (hb:PE X b tb) (hs:AI b):PE X (.Subscript a b pos) (Lu r ta tb):=by intro pins s σ H Q I h;exact Subscript_ (Jc ha hb I h λv u s2 x y H2 I2 rx ry q=>hr a b pins s2 σ H2 x y v u Q I2 rx ry q (hs _ _))
def NI (K:Ut):R2:=λx y H Q=>∃ p xs i v,x=.ref p/\y=.int i/\jk K H p xs/\mf xs i=some v/\Q v H
def NJ (K:Ut):R2:=λx y H Q=>∃ p xs i v,x=.ref p/\y=.int i/\gE K H p xs/\mf xs i=some v/\Q v H
theorem vO:Ld X (NI X.K):=by
 intro value slice pins s σ H x y v u Q I rx ry h hs;obtain ⟨p,xs,i,z,rfl,rfl,hq,he,q⟩:=h;cases rx;obtain ⟨t,rfl⟩:=ry;obtain ⟨its,r,pl,hz⟩:=I.list hq;obtain ⟨j,h1,h2,h3,h4,h5⟩:=AH he;obtain ⟨w,ew,rw'⟩:=r.get h2;have hl:=r.length;have hn:=rh;have fin:EP X pins σ Q w s:=⟨z,H,I,rw',q⟩;by_cases h0:0<=i
 ·have hj:i.toNat=j:=by
   rw [seqIndex_of h0 h5] at h1;exact QV h1
  exact item_listR pl.isList h0 (by omega) (by rw [hj];simpa using ew) fin hs
 ·have hj:(i+(its.toArray.size:Int)).toNat=j:=by
   rw [seqIndex_neg (by omega) h4] at h1;rw [P7,<- hl];exact QV h1
  exact subscriptTail_builtinR (x:=w) pl.isList.typeIs slot_list_getitem.lookup
   (wpAny_getItem_list_neg (Q:=λr s'=>r=w/\EP X pins σ Q r s') pl.isList (by omega) (by rw [P7]<;>omega) (by omega) (by rw [hj];simpa using ew) ⟨rfl,fin⟩) hs
theorem Jq:Ld X (NJ X.K):=by
 intro value slice pins s σ H x y v u Q I rx ry h hs;obtain ⟨p,xs,i,z,rfl,rfl,hq,he,q⟩:=h;cases rx;obtain ⟨t,rfl⟩:=ry;obtain ⟨its,r,pl,hz⟩:=I.tuple hq;obtain ⟨j,h1,h2,h3,h4,h5⟩:=AH he;obtain ⟨w,ew,rw'⟩:=r.get h2;have hl:=r.length;have hn:=rh;have fin:EP X pins σ Q w s:=⟨z,H,I,rw',q⟩
 exact subscriptTail_builtinR (x:=w) pl.typeIs slot_tuple_getitem.lookup
  (getItem_tuple (j:=j) (Q:=λr s'=>r=w/\EP X pins σ Q r s') pl (by omega) (by omega) (by rw [P7,<- hl];exact h1) (by simpa using ew) ⟨rfl,fin⟩) hs
theorem zq (its:Us) (n j:Nat) (u:Value):Obj.mapSeq (·.setIfInBounds j u) {cls:=.type "list",data:=.seq its.toArray n}={cls:=.type "list",data:=.seq (its.set j u).toArray n}:=by simp [Obj.mapSeq]
theorem Inv.lst {pins:Uk} {σ:St} {H:Hp} {s:UD} {p:Addr} {xs:List V} (I:Inv X pins σ H s) (h:H p=some (.lst xs)) :
  ∃ (its:Us) (n:Nat),Vals xs its/\s.heap.get? p=some {cls:=.type "list",data:=.seq its.toArray n}/\xs.length<=sizeLine:=by
 obtain ⟨z,its,n,r,e⟩:=I.hok p _ h;exact ⟨its,n,r,e,z⟩
theorem Inv.Jr {pins:Uk} {σ:St} {H:Hp} {s:UD} {p:Addr} {xs ys:List V} {its its':Us} {n n':Nat} {f:Obj->Obj} (I:Inv X pins σ H s) (h:H p=some (.lst xs))
  (ho:s.heap.get? p=some {cls:=.type "list",data:=.seq its.toArray n}) (hf:f {cls:=.type "list",data:=.seq its.toArray n}={cls:=.type "list",data:=.seq its'.toArray n'}) (r:Vals ys its') (hz:ys.length<=sizeLine) (t:Nat) :
  Inv X pins σ (upd H p (.lst ys)) {s with heap:=s.heap.update p f,toks:=t}:=by
 have e:(s.heap.update p f).get? p=some {cls:=.type "list",data:=.seq its'.toArray n'}:=by rw [Rx f ho (by rw [hf]<;>rfl),hf]
 refine I.write (x:=p) (e:=p) (by rw [h];trivial) (.inl rfl) (λb u hb q=>(Sg _ _ (SV hb)).trans q) ⟨_,e⟩ ?_;exact ⟨hz,its',n',r,e⟩
def HU:V->V->V->Hp->(Hp->Prop)->Prop:=λo i v H Q=>∃ p xs k j,o=.ref p/\i=.int k/\H p=some (.lst xs)/\tZ xs.length k=some j/\Q (upd H p (.lst (xs.set j v)))
theorem set_list:IU X HU:=by
 intro pins s σ H o i v ov iv u Q I ro ri rv h;obtain ⟨p,xs,k,j,rfl,rfl,hp,hj,q⟩:=h;cases ro;obtain ⟨t,rfl⟩:=ri;obtain ⟨its,n,r,ho,hz⟩:=I.lst hp;obtain ⟨h1,h2,h3,h4⟩:=AG hj;have hl:=r.length;have hn:=rh
 have I':Inv X pins σ (upd H p (.lst (xs.set j v))) {s with heap:=s.heap.update p (Obj.mapSeq (·.setIfInBounds j u))}:=
  I.Jr hp ho (zq its n j u) (r.set rv j) (by rw [List.length_set];exact hz) s.toks
 by_cases h0:0<=k
 ·have hk:k.toNat=j:=by
   rw [seqIndex_of h0 h4] at h1;exact QV h1
  exact PySem.W.ki_setAt ho h0 (by omega) (by rw [P7,<- hl];exact h4) (by rw [hk];exact ⟨_,I',q⟩)
 ·have hk:(k+(its.toArray.size:Int)).toNat=j:=by
   rw [seqIndex_neg (by omega) h3] at h1;rw [P7,<- hl];exact QV h1
  exact PySem.W.ki_setBack ho (by omega) (by rw [P7,<- hl];exact h3) (by omega) (by rw [hk];exact ⟨_,I',q⟩)
theorem vP (lo hi:Option Int) (n:Nat):(sliceBounds lo hi none n).1=((HT.eF n 0 lo:Nat):Int)/\(sliceBounds lo hi none n).2.1=((HT.eF n n hi:Nat):Int)/\(sliceBounds lo hi none n).2.2=1:=by
 refine ⟨?_,?_,rfl⟩
 ·cases lo with
  | none=>simp [sliceBounds,HT.eF]
  | some i=>
   simp only [sliceBounds,HT.eF,Option.getD_none,show (1:Int) > 0 by decide,QB];by_cases h:i < 0
   ·simp only [h,QB]<;>omega
   ·simp only [h,QK]<;>omega
 ·cases hi with
  | none=>simp [sliceBounds,HT.eF]
  | some i=>
   simp only [sliceBounds,HT.eF,Option.getD_none,show (1:Int) > 0 by decide,QB];by_cases h:i < 0
   ·simp only [h,QB]<;>omega
   ·simp only [h,QK]<;>omega
theorem t9 (its:Us) (lo hi:Option Int):slicePick its.toArray lo hi none=((its.drop (HT.eF its.length 0 lo)).take (HT.eF its.length its.length hi - HT.eF its.length 0 lo)).toArray:=by obtain ⟨h1,h2,h3⟩:=vP lo hi its.toArray.size;unfold slicePick;rw [h1,h2,h3];simp only [sliceRange_one,pick_run,P7]<;>rfl
def NK (K:Ut):V->Option Int->Option Int->Hp->VK->Prop:=λx lo hi H Q=>∃ a xs,x=.ref a/\jk K H a xs/\∀ p,H p=none->Q (.ref p) (upd H p (.lst (rA xs lo hi)))
theorem AJ:Lc X (NK X.K):=by intro pins s σ H x v vl vu lo hi sl Q I rx hs pl pu h;obtain ⟨a,xs,rfl,hx,q⟩:=h;cases rx;obtain ⟨its,r,ht,hz⟩:=I.list hx;have hlen:=r.length;refine ⟨"list",_,slot_list_getitem.lookup,ht.isList.typeIs,?_⟩;refine wpAny_getItem_list_slice ht.isList hs pl pu .none (by simp) ?_ (by rw [P7]<;>omega);rw [t9,<- hlen];refine ⟨.ref s.heap.objs.size,_,I.laid (t':=s.toks) (o:=.lst (rA xs lo hi)) (λb ob q=>PR _ q) (PY _) ?_,rfl,q _ (I.hok.fresh (PY _))⟩;exact ⟨P6 (pT xs lo hi) hz,_,0,(r.drop (HT.eF xs.length 0 lo)).take (HT.eF xs.length xs.length hi - HT.eF xs.length 0 lo),P4 _ rfl⟩
theorem dz.or {f:Value} {r r':List V->Hp->VK->Prop} (h:dz X f r) (h':dz X f r'):dz X f (λxs H Q=>r xs H Q\/r' xs H Q):=by
 intro pins s σ H xs us Q I rs q;rcases q with q | q
 ·exact h pins s σ H xs us Q I rs q
 ·exact h' pins s σ H xs us Q I rs q
theorem vQ:dz X (.type "list") (λxs H Q=>∃ p ys,xs=[.ref p]/\(jk X.K H p ys\/gE X.K H p ys)/\∀ l,H l=none->Q (.ref l) (upd H l (.lst ys))):=by
 intro pins s σ H xs us Q I r h;obtain ⟨p,ys,rfl,hq,q⟩:=h;obtain ⟨u,rfl,rx⟩:=vals1 r;cases rx
 have fin:∀ (its:Us),Vals ys its->ys.length<=sizeLine->∀ (h':Heap) (c':Nat),(∀ b o',s.heap.get? b=some o'->h'.get? b=some o') ->
   h'.get? s.heap.objs.size=some {cls:=.type "list",dict:=none,data:=.seq its.toArray c',slots:=#[]}->EP X pins σ Q (.ref s.heap.objs.size) {s with heap:=h'}:=λits r' hz h' c' kp e=>
  ⟨.ref s.heap.objs.size,_,I.laid (t':=s.toks) kp (PY _) (show cw X.prog X.w _ h' _ (.lst ys) from ⟨hz,its,c',r',e⟩),rfl,q _ (I.hok.fresh (PY _))⟩
 rcases hq with hq | hq
 ·obtain ⟨its,r',pl,hz⟩:=I.list hq;have hlen:=r'.length;obtain ⟨o,ho,hc,n,hd⟩:=pl.isList;exact call_list_seq p (.inl rfl) ho hc hd (λh' c' kp e=>fin its r' hz h' c' kp e) (by simp only [P7]<;>omega)
 ·obtain ⟨its,r',pl,hz⟩:=I.tuple hq;have hlen:=r'.length;obtain ⟨o,ho,hc,n,hd⟩:=pl;exact call_list_seq p (.inr rfl) ho hc hd (λh' c' kp e=>fin its r' hz h' c' kp e) (by simp only [P7]<;>omega)
theorem ua:dz X (.type "tuple") (λxs H Q=>∃ p ys,xs=[.ref p]/\((jk X.K H p ys/\∀ l,H l=none->Q (.ref l) (upd H l (.tup ys)))\/(gE X.K H p ys/\Q (.ref p) H))):=by
 intro pins s σ H xs us Q I r h;obtain ⟨p,ys,rfl,h⟩:=h;obtain ⟨u,rfl,rx⟩:=vals1 r;cases rx;rcases h with ⟨hq,q⟩ | ⟨hq,q⟩
 ·obtain ⟨its,r',pl,hz⟩:=I.list hq;have hlen:=r'.length;refine call_tuple_list pl.isList (λh' kp=>?_) (by simp only [P7]<;>omega);have I1:Inv X pins σ H {s with heap:=h'}:=I.kept (t':=s.toks) kp
  have I2:Inv X pins σ (upd H h'.objs.size (.tup ys)) {s with heap:=h'.push {cls:=.type "tuple",data:=.seq its.toArray}}:=
   I1.laid (t':=s.toks) (λb o e=>PR _ e) (PY _) (show cw X.prog X.w _ _ _ (.tup ys) from ⟨hz,its,r',IsTup.new _ _⟩)
  exact ⟨.ref h'.objs.size,_,I2,rfl,q _ (I1.hok.fresh (PY _))⟩
 ·obtain ⟨its,r',pl,hz⟩:=I.tuple hq;exact call_tuple_same pl ⟨.ref p,H,I,rfl,q⟩
noncomputable def OP (K:Ut) (T:String) (x:V) (H:Hp):Prop:=match x with
 | .str _=>T = "str"
 | .int _=>T = "int"
 | .ref p=>(T = "list" /\ ∃ xs,jk K H p xs)\/(T = "tuple" /\ ∃ o,K.lookup p=some o/\o.cls=.type "tuple" /\ o.dict=none) \/
   (T = "dict" /\ ((∃ kvs,H p=some (.dK kvs))\/∃ kvs,H p=some (.dT kvs)))\/(T = "set" /\ ∃ S n,H p=some (.set S n))
 | _=>False
theorem Js {pins:Uk} {σ:St} {H:Hp} {s:UD} {T:String} {x:V} {v:Value} (I:Inv X pins σ H s) (r:RelV x v) (ty:OP X.K T x H) :
  s.TypeIs v T/\∀ a,v=.ref a->∃ ob,s.heap.get? a=some ob/\ob.dict=none:=by
 cases x with
 | str z=>obtain ⟨t,rfl⟩:=r;cases (show T = "str" from ty);exact ⟨typeIs_str s z t,λ_ e=>nomatch e⟩
 | int i=>obtain ⟨t,rfl⟩:=r;cases (show T = "int" from ty);exact ⟨typeIs_int s i t,λ_ e=>nomatch e⟩
 | ref p=>
  cases r;rcases ty with ⟨rfl,xs,hq⟩ | ⟨rfl,o,hk,hc,hd⟩ | ⟨rfl,hk⟩ | ⟨rfl,S,n,hk⟩
  ·obtain ⟨its,_,pl,_⟩:=I.list hq;refine ⟨pl.isList.typeIs,λa e=>?_⟩;cases e;obtain ⟨o,n,e,c,hd,_⟩:=pl;exact ⟨o,e,hd⟩
  ·refine ⟨⟨o,I.tT p o hk,hc⟩,λa e=>?_⟩;cases e;exact ⟨o,I.tT _ o hk,hd⟩
  ·have z:∃ o,s.heap.get? p=some o/\o.ExactDict:=by
    rcases hk with ⟨kvs,hk⟩ | ⟨kvs,hk⟩
    ·obtain ⟨_,_,_,_,o,_,_,e,ex,_⟩:=I.hok p _ hk;exact ⟨o,e,ex⟩
    ·obtain ⟨_,_,_,_,o,_,_,e,ex,_⟩:=I.hok p _ hk;exact ⟨o,e,ex⟩
   obtain ⟨o,e,ex⟩:=z;refine ⟨⟨o,e,ex.1⟩,λa e2=>?_⟩;cases e2;exact ⟨o,e,ex.2.1⟩
  ·obtain ⟨o,_,_,_,e,ex,_⟩:=I.hok p _ hk;refine ⟨⟨o,e,ex.1⟩,λa e2=>?_⟩;cases e2;exact ⟨o,e,ex.2.1⟩
 | _=>exact False.elim ty
def OQ (K:Ut) (T:String) (r:V->List V->Hp->VK->Prop) (to:TE) (t:TA):TE:=λσ H Q=>to σ H λx H1=>OP K T x H1/\t σ H1 λxs H2=>r x xs H2 Q
variable {o e:Expr} {es:Uv} {to:TE} {t:TA} {name:Str} {apos cpos:Pos} {T id:String} {r:V->List V->Hp->VK->Prop}
theorem HV (pa:PlainAttrs T) (slot:Slot T name id) (hty:typeOf (.builtin id)=pure (.type "method_descriptor")) (hm:Pq X id r) (ho:PE X o to) (ha:PA X (e::es) t)
  (hbase:attributeBase o name X.env (eval o X.env)=eval o X.env:=by rfl)
  (hfew:((backTo cpos (starEach (e::es) X.env)).all (λx=>!x.1) && (backToKw cpos (keywordEach [] X.env)).all (λx=>x.1.isSome)
   && decide ((e::es).length+([]:List Keyword).length+(if ([]:List Keyword).isEmpty then 0 else 1) < 30))=true:=by rfl)
  (hline:(apos.endLine == cpos.line)=true:=by rfl) (hs:starEach (e::es) X.env=(false,eval e X.env)::starEach es X.env:=by rfl) (hplain:(backTo cpos (starEach es X.env)).any (·.1)=false:=by rfl) :
  PE X (.Call (.Attribute o name apos) (e::es) [] cpos) (OQ X.K T r to t):=by
 intro pins s σ H Q I h;refine wpAny_Call_method_late hbase hfew hline rfl (bq (ho pins s σ H _ I h) λv s1 ⟨x,H1,I1,r1,ty,q1⟩=>?_);obtain ⟨h1,h2⟩:=Js I1 r1 ty;refine ⟨T,id,pa,slot,hty,h1,h2,?_⟩;have hA:=ha cpos pins s1 σ H1 _ I1 q1;rw [hs] at hA ⊢;refine Calls.callWith_builtin (by show (false || (backTo cpos (starEach es X.env)).any (·.1))=false;rw [hplain]<;>rfl) (Calls.evalArgs_plain ?_);exact bq hA λus s2 ⟨vs,H2,I2,r2,q2⟩=>hm pins s2 σ H2 x vs v us Q I2 r1 r2 q2
end
noncomputable def OR (X:Cx) (id:String) (r:V->List V->Hp->VK->Prop):Prop:=
 ∀ (pins:Uk) (s:UD) (σ:St) (H:Hp) (x:V) (xs:List V) (v:Value) (us:Us) (Q:VK),Inv X pins σ H s->RelV x v->Vals xs us->r x xs H Q ->
  wpAny (model X.prog X.w) X.A (call (.builtin id) (v::us)) (EP X pins σ Q) X.xe s
theorem Vals.one:∀ {x:V} {us:Us},Vals [x] us->∃ u,us=[u]/\RelV x u
 | _,_,.cons r .nil=>⟨_,rfl,r⟩
theorem Vals.eraseIdx:∀ {xs:List V} {us:Us} (i:Nat),Vals xs us->Vals (xs.eraseIdx i) (us.eraseIdx i)
 | _,_,_,.nil=>.nil
 | _,_,0,.cons _ t=>t
 | _,_,i+1,.cons r t=>.cons r (Vals.eraseIdx i t)
theorem Vals.rep {xs:List V} {us:Us} (h:Vals xs us):∀ k:Nat,Vals (List.replicate k xs).flatten (List.replicate k us).flatten
 | 0=>.nil
 | k+1=>by rw [Rp,Rp,R1,R1];exact Vals.append h (Vals.rep h k)
theorem uK {α:Type}:∀ (l:List α) (i:Nat),(l.eraseIdx i).length<=l.length
 | [],_=>PY _
 | _::_,0=>Rq _
 | _::r,i+1=>Nat.succ_le_succ (uK r i)
theorem foldl_rep (its:Us):∀ (k:Nat) (acc:Us),
  List.foldl (λx1 x2=>x1++x2) acc.toArray (List.replicate k its.toArray)=(acc++(List.replicate k its).flatten).toArray
 | 0,acc=>by simp
 | k+1,acc=>by
  have e:acc.toArray++its.toArray=(acc++its).toArray:=by simp
  have e2:(acc++its)++(List.replicate k its).flatten=acc++(List.replicate (k+1) its).flatten:=by rw [Rp,R1,T9]
  rw [<- e2,<- foldl_rep its k (acc++its),<- e,Rp,List.foldl_cons]
section
variable {X:Cx} {pins:Uk} {σ:St} {H:Hp} {s:UD} {l b:Addr} {xs ys zs:List V}
theorem Inv.LK {its its':Us} {n:Nat} {f:Uy->Uy} {t':Nat} (I:Inv X pins σ H s) (hH:H l=some (.lst xs))
  (e:s.heap.get? l=some {cls:=.type "list",data:=.seq its.toArray n}) (hf:f its.toArray=its'.toArray) (hv:Vals ys its') (hz:ys.length<=sizeLine) :
  Inv X pins σ (upd H l (.lst ys)) {s with heap:=s.heap.update l (Obj.mapSeq f),toks:=t'}:=by
 have q:=PySem.IsL.update e f;rw [hf] at q;refine I.write (x:=l) (e:=l) (by rw [hH];exact trivial) (.inl rfl) (λb' u hb hu=>(Sg s.heap (Obj.mapSeq f) (SV hb)).trans hu) ⟨_,q⟩ ?_;exact ⟨hz,its',_,hv,q⟩
theorem Inv.LL {its:Us} {t':Nat} (I:Inv X pins σ H s) (hv:Vals ys its) (hz:ys.length<=sizeLine) :
  Inv X pins σ (upd H s.heap.objs.size (.lst ys)) {s with heap:=s.heap.push {cls:=.type "list",data:=.seq its.toArray},toks:=t'}:=
 I.laid (λ_ _ q=>PR _ q) (PY _) ⟨hz,its,0,hv,P4 _ rfl⟩
theorem Inv.fresh (I:Inv X pins σ H s):H s.heap.objs.size=none:=I.hok.fresh (PY _)
theorem Inv.Dk (I:Inv X pins σ H s) (hH:H l=some (.lst xs)):xs.length<=sizeLine/\∃ (its:Us) (n:Nat),Vals xs its/\xs.length=its.length/\s.heap.get? l=some {cls:=.type "list",data:=.seq its.toArray n}:=by obtain ⟨z,its,n,r,e⟩:=I.hok l _ hH;exact ⟨z,its,n,r,r.length,e⟩
theorem Dn {n:Nat} (h:n<=sizeLine):Builtin.List.listTooLong n=false:=by unfold Builtin.List.listTooLong;exact Ql (by omega)
end
section
variable {X:Cx}
def Gk:V->List V->Hp->VK->Prop:=λx vs H Q=>∃ l xs y,x=.ref l/\vs=[y]/\H l=some (.lst xs)/\xs.length < sizeLine/\Q .non (upd H l (.lst (xs++[y])))
theorem B7:OR X "list.append" Gk:=by intro pins s σ H x vs v us Q I rx rv h;obtain ⟨l,xs,y,rfl,rfl,hH,hz,q⟩:=h;cases rx;obtain ⟨u,rfl,ru⟩:=rv.one;obtain ⟨z,its,n,r,hl,e⟩:=I.Dk hH;refine SQ F.slot_list_append ⟨_,e,rfl⟩ F.entry_list_append (F.args_list_append_2 _ _) (PySem.list_append l its.toArray n u (by rw [P7];omega)) ⟨e,?_⟩;refine ⟨.non,_,I.LK (its':=its++[u]) hH e (by simp) (r.append (.cons ru .nil)) ?_,rfl,q⟩;rw [Qd,To];omega
def Jt:V->List V->Hp->VK->Prop:=λx vs H Q=>∃ l xs i k y,x=.ref l/\vs=[.int i]/\H l=some (.lst xs)/\-(2 ^ 63)<=i/\i < 2 ^ 63/\seqIndex? i xs.length=some k/\xs[k]?=some y/\Q y (upd H l (.lst (xs.eraseIdx k)))
theorem Dq:OR X "list.pop" Jt:=by
 intro pins s σ H x vs v us Q I rx rv h;obtain ⟨l,xs,i,k,y,rfl,rfl,hH,h1,h2,hk,hy,q⟩:=h;cases rx;obtain ⟨u,rfl,ru⟩:=rv.one;obtain ⟨t,rfl⟩:=ru;obtain ⟨z,its,n,r,hl,e⟩:=I.Dk hH;obtain ⟨w,hw,rw'⟩:=r.get hy
 refine SQ F.slot_list_pop ⟨_,e,rfl⟩ F.entry_list_pop (F.args_list_pop_2 _ _)
  (MeetsSeq.list_pop_at l its.toArray n i t k w (fitsIndex_both h1 h2) (by rw [P7,<- hl];exact hk) (by rw [<- Qt];exact hw) (by rw [P7];omega)) ⟨e,?_⟩
 refine ⟨y,_,I.LK (its':=its.eraseIdx k) hH e ?_ (r.eraseIdx k) ?_,rw',q⟩
 ·show its.toArray.eraseIdxIfInBounds k=(its.eraseIdx k).toArray;rw [List.eraseIdxIfInBounds_toArray]
 ·have:=uK xs k;omega
def NL:R2:=λx y H Q=>∃ l b xs zs,x=.ref l/\y=.ref b/\H l=some (.lst xs)/\H b=some (.lst zs)/\xs.length+zs.length<=sizeLine/\∀ p,H p=none->Q (.ref p) (upd H p (.lst (xs++zs)))
theorem Ju:ik X (binaryOp .Add) NL:=by
 intro pins s σ H x y v u Q I rx ry h;obtain ⟨l,b,xs,zs,rfl,rfl,hH,hB,hz,q⟩:=h;cases rx;cases ry;obtain ⟨z,its,n,r,hl,e⟩:=I.Dk hH;obtain ⟨z2,its2,n2,r2,hl2,e2⟩:=I.Dk hB;refine PySem.P.add_list e e2 ?_ (by rw [P7,P7];omega);have ea:its.toArray++its2.toArray=(its++its2).toArray:=by simp
 rw [ea];exact ⟨.ref _,_,I.LL (t':=s.toks) (r.append r2) (by rw [Qd];omega),rfl,q _ I.fresh⟩
def NM:R2:=λx y H Q=>∃ l k xs,x=.ref l/\y=.int k/\H l=some (.lst xs)/\-(2 ^ 63)<=k/\k < 2 ^ 63/\xs.length * k.toNat<=sizeLine /\
 ∀ p,H p=none->Q (.ref p) (upd H p (.lst (List.replicate k.toNat xs).flatten))
theorem len_rep {α:Type} (xs:List α) (k:Nat):(List.replicate k xs).flatten.length=k * xs.length:=by
 induction k with
 | zero=>simp
 | succ k ih=>rw [Rp,R1,Qd,ih,Nat.succ_mul,Nat.add_comm]
theorem Jv:ik X (binaryOp .Mult) NM:=by
 intro pins s σ H x y v u Q I rx ry h;obtain ⟨l,k,xs,rfl,rfl,hH,h1,h2,hz,q⟩:=h;cases rx;obtain ⟨t,rfl⟩:=ry;obtain ⟨z,its,n,r,hl,e⟩:=I.Dk hH;have hlen:its.toArray.size * k.toNat<=sizeLine:=by rw [P7,<- hl];exact hz
 have hcap:¬ its.toArray.size * k.toNat > (2 ^ 63 - 1) / 8:=by
  have:(sizeLine:Nat)<=(2 ^ 63 - 1) / 8:=by decide
  omega
 have hfit:¬ (!Builtin.List.listFitsIndex k)=true:=by rw [fitsIndex_both h1 h2];exact Qs
 have hlong:¬ Builtin.List.listTooLong (its.toArray.size * k.toNat)=true:=by rw [Dn hlen];exact Qs
 have hnew:List.foldl (λx1 x2=>x1++x2) #[] (List.replicate (if its.toArray.isEmpty=true then 0 else k.toNat) its.toArray)=(List.replicate k.toNat its).flatten.toArray:=by
  have f0:∀ m:Nat,List.foldl (λx1 x2=>x1++x2) #[] (List.replicate m its.toArray)=(List.replicate m its).flatten.toArray:=λm=>by have:=foldl_rep its m [];rw [Rb] at this;exact this
  rw [f0]
  cases its with
  | nil=>simp
  | cons a r'=>rw [if_neg (by simp)]
 refine wpAny_binaryOp_repeat_ref (T := "list") (U := "int") (by decide) ⟨_,e,rfl⟩ (λs'=>typeIs_int s' k t) noFill_list_mul F.fills_int_mul F.slot_int_rmul repeat_list F.slot_int_index.lookup
  (SQ F.slot_int_rmul (typeIs_int s k t) F.entry_int_rmul (F.args_int_rmul_2 _ _) (int___rmul___int_list k t l its.toArray n)
   ⟨e,rfl,⟨_,e,rfl⟩,SQ F.slot_list_mul ⟨_,e,rfl⟩ F.entry_list_mul (F.args_list_mul_2 _ _) (AutoListH.list___mul___list_int_3 l its.toArray n k t hfit hcap hlong) ⟨e,?_⟩⟩)
 rw [hnew];exact ⟨.ref _,_,I.LL (t':=s.toks) (r.rep k.toNat) (by rw [len_rep,Nat.mul_comm];exact hz),rfl,q _ I.fresh⟩
end
end L2
namespace Att
open PySem PySem.W PySem.Calls PyProof.Rows
theorem qH {P:Params} {h:Heap}:∀ (ns:List Int) (vs:Us),WellAll P h vs (ns.map WData.int)->IntsAre vs ns:=by
 intro ns
 induction ns with
 | nil=>intro vs w;rw [RM] at w;cases w;exact .nil
 | cons n ns ih=>
  intro vs w;rw [Qn] at w
  cases w with
  | cons a b=>cases a;exact .cons _ _ (ih _ b)
theorem B8 {l:OpenLaw} {n:Nat} (hn:l.most=some n) {P:Params} {h:Heap} {args:List WData} {vals:Us}
  (hpre:l.row.toRowW.claim.pre args=true) (hwl:WellAll P h vals args) :
  ∃ a vs ns,vals=[Value.ref a]/\args=[WData.list (ns.map WData.int)]/\h.get? a=some {cls:=.type "list",data:=.seq vs.toArray}/\IntsAre vs ns/\ns.length<=n:=by
 have hsh:WShape.hasAll [] args [.list .int]=true:=(pre_splitW hpre).1;have hc:l.pre.holds [] {args:=args}=true:=(pre_splitW hpre).2;obtain ⟨d,r,rfl,h1,h2⟩:=hasAllW_cons hsh;obtain rfl:=hasAllW_nil h2;obtain ⟨xs,rfl,h3⟩:=hasW_list h1;obtain ⟨ns,rfl⟩:=items_int h3
 have hlen:ns.length<=n:=by
  unfold OpenLaw.pre at hc;have h4:(WTm.not (.lt (.lit (.int (n:Int))) (.len (.arg 0)))).holds [] {args:=[.list (ns.map .int)]}=true:=by have h4:=(holds_andW hc).1;rw [hn] at h4;exact h4
  have h5:=condW_of h4 (w_not (w_lt w_lit (w_len_list (w_arg rfl))));rw [Qa] at h5;refine Nat.le_of_not_lt λq=>?_;have q':(n:Int) < ((ns.length:Nat):Int):=by omega
  first
   | (rw [Qj q'] at h5;exact absurd h5 (by decide))
   | (simp at h5;omega)
 cases hwl with
 | cons w1 w2=>
  cases w2
  cases w1 with
  | list ho hall=>exact ⟨_,_,ns,rfl,rfl,ho,qH ns _ hall,hlen⟩
theorem B9 (l:OpenLaw) (args:List WData):l.row.toRowW.claim.post args (.bool true) args=true:=
 postW_of (r:=l.row.toRowW) (X:=(true == true))
  (show WShape.has [] (.bool true) .bool=true by first | rfl | decide | simp [WShape.has,WShape.arms,WShape.armsAll])
  (show (WTm.eq .res (.lit (.bool true))).value [] {args:=args,res:=some (.bool true),after:=args}=some (.bool (true == true)) from w_eq_bool (w_res rfl) w_lit) rfl
theorem xD {l:OpenLaw} {n:Nat} {q:UA} {loose:Uu} {XP:(Uo)->Heap->Prop} {YP:World->Heap->Prop} {d:DefRec}
  (hn:l.most=some n) (hdf:d.params.defaults=[])
  (call:∀ (w:World) (s₀ s₁:UD) (mg mb:Uo) (fa:Addr) (o:Obj) (pm cd doc:Value) (a:Addr) (vs:Us) (ns:List Int),
   Ground q loose [] XP w s₀ mg mb s₁.heap->YP w s₁.heap ->
   s₁.heap.get? fa=some o->o.data=.func (docDef d.name d.params d.body d.scope pm cd doc)->s₁.heap.CodeRec cd d.name->mg d.name=some (.ref fa) ->
   s₁.heap.get? a=some {cls:=.type "list",data:=.seq vs.toArray}->IntsAre vs ns->ns.length<=n->s₁.gens=#[] ->
   codeAny (model l.prog w) callerA (.call (.ref fa) ⟨[.ref a],[]⟩) (λr s'=>r=.ok (.ret (.bool true))/\OldK s₁.heap s'.heap/\s'.os=s₁.os/\AllBare s'.gens) s₁) :
  WalkO q loose XP YP l.row.toRowW d [] (λf vs=>PySem.call f vs):=by
 intro w s₀ s₁ mg mb G Y fa o pm cd doc dV kV ho hd hcd hD hmg hg args vals as hpre hlay hrd hwl hlo;obtain rfl:dV=.none:=Dflts.none hD hdf;obtain rfl:kV=.none:=Dflts.noKw hD;obtain ⟨a,vs,ns,rfl,rfl,hobj,hints,hlen⟩:=B8 hn hpre hwl;refine enter_call (Ti (call w s₀ s₁ mg mb fa o pm cd doc a vs ns G Y ho (fd_plain hd) hcd hmg hobj hints hlen hg) λr s' hq=>?_);obtain ⟨rfl,h2,h3,h4⟩:=hq;exact ⟨.inl ⟨.bool true,.bool true,[],rfl,λ_=>rfl,.bool true,B9 l _,λ_=>⟨List.Pairwise.nil,λ_ hm=>(nomatch hm)⟩⟩,h2,h3,h4⟩
end Att
namespace L2
open PySem PySem.Spec PyProof.Rows
theorem uL:∀ {vs:Us} {ns:List Int},IntsAre vs ns->Vals (ns.map V.int) vs
 | _,_,.nil=>.nil
 | _,_,.cons n t h=>.cons ⟨t,rfl⟩ (uL h)
def Jw (H:Hp):Prop:=∀ b,H b=none\/∃ o xs,H b=some (.frz o (.lst xs))
theorem Dr {P:UA} {w:World} {K:Ut} {mg mb:Uo} {CX:CY} {k:Nat} {fa a:Addr} {fd:FuncData} {x:Str} {sp:Sp} {s₁:UD} {vs:Us} {ns:List Int}
  (KX:K.In s₁.heap) (hns:s₁.heap.Ns mainGlobals mg) (hb:s₁.heap.Ns builtinsNs mb) (hbb:∀ x:Str,x ≠ "__name__" -> mb x=bootBuiltins x) (hlim:s₁.heap.NoLimit) (hg:s₁.gens=#[])
  (ha:s₁.heap.get? a=some {cls:=.type "list",data:=.seq vs.toArray}) (hi:IntsAre vs ns) (hl:ns.length<=sizeLine) (hr:cg k callerA)
  (F:∀ base:Heap,K.In base->base.Ns mainGlobals mg->jl P w K mg base CX k fa fd [x] sp) (hbind:∀ (s:UD) (u:Value),BindsTo s fd ⟨[u],[]⟩ [(x,u)])
  (hsp:∀ H:Hp,Jw H->jk K H a (ns.map V.int)->sp [.ref a] H (λv _=>v=.bl true) λ_ _ _=>False)
  (hCX:∀ H e s',CX [] H s₁ (λ_ _ _=>False) e s'->False) :
  codeAny (model P w) callerA (.call (.ref fa) ⟨[.ref a],[]⟩) (λr s'=>r=.ok (.ret (.bool true))/\OldK s₁.heap s'.heap/\s'.os=s₁.os/\AllBare s'.gens) s₁:=by
 have rv:=uL hi;have lenV:=hi.length
 have core:∀ H:Hp,Jw H->jk K H a (ns.map V.int)->kq P w H s₁.heap->(∀ b,H b≠none->b=a)->(H a≠none->K.lookup a=none) ->
   codeAny (model P w) callerA (.call (.ref fa) ⟨[.ref a],[]⟩) (λr s'=>r=.ok (.ret (.bool true))/\OldK s₁.heap s'.heap/\s'.os=s₁.os/\AllBare s'.gens) s₁:=by
  intro H hO hS hok hA hK;have base_of:∀ {b:Addr} {o:Obj},s₁.heap.get? b=some o->H b=none->(vJ s₁.heap H).get? b=some o:=λe n=>C2 e n
  have noA:∀ {b:Addr} {o:Obj} {es:Ux} {ep:Nat},s₁.heap.get? b=some o->o.data=.dict es ep->H b=none:=λ{b o es ep} e d=>by
   cases q:H b with
   | none=>rfl
   | some u=>have e':b=a:=hA b (by rw [q];simp);subst e';rw [ha] at e;cases e;have d':Data.seq vs.toArray _=Data.dict es ep:=d;cases d'
  have nsK:∀ {b:Addr} {m:Uo},s₁.heap.Ns b m->(vJ s₁.heap H).Ns b m:=λ{b m} ⟨o,es,ep,e,d,r⟩=>⟨o,es,ep,base_of e (noA e d),d,r⟩
  have hKb:K.In (vJ s₁.heap H):=λb o e=>base_of (KX b o e) (by
   cases q:H b with
   | none=>rfl
   | some u=>
    have e':b=a:=hA b (by rw [q];simp);subst e'
    rw [hK (by rw [q];simp)] at e;cases e)
  have hM:Mod K mg (vJ s₁.heap H):=⟨hKb,nsK hns,⟨mb,nsK hb,hbb⟩,let ⟨mc,h1,h2⟩:=hlim;⟨mc,nsK h1,h2⟩⟩;have e0:Gd P w K mg (vJ s₁.heap H) callerA [] s₁ H:=⟨rfl,hM,λb o e=>FX e,Nat.le_of_eq (BV _ _),trivial,λb hb=>absurd (show b∈([]:Ur) from hb) (by simp),hok,.of_eq hg⟩;refine Ti ((F _ hKb (nsK hns)).run callerA [] s₁ H ⟨[.ref a],[]⟩ [.ref a] [.ref a] _ _ hr e0 (hbind s₁ (.ref a)) (.cons rfl .nil) (hsp H hO hS)) λr s' h=>?_
  cases r with
  | error e=>exact (hCX H e s' h).elim
  | ok fl=>
   cases fl with
   | next=>exact False.elim h
   | brk=>exact False.elim h
   | cont=>exact False.elim h
   | ret u=>
    obtain ⟨v,H',os,bare,un,hok',r',q⟩:=h;have q':v=.bl true:=q;subst q';obtain rfl:u=Value.bool true:=r';refine ⟨rfl,OldK.of_keep λb o e=>?_,os,bare⟩
    cases q:H b with
    | none=>exact un.keep b o e q (by intro z;exact absurd (show b∈([]:Ur) from z) (by simp)) (by simp)
    | some u=>
     rcases hO b with z | ⟨ob,xs,z⟩
     ·rw [q] at z;cases z
     ·have z2:=un.frzs b ob _ z;obtain ⟨e1,_⟩:=hok b _ z;obtain ⟨e2,_⟩:=hok' b _ z2;rw [e] at e1;cases e1;exact e2
 cases hk:K.lookup a with
 | some o=>have e:=KX a o hk;rw [ha] at e;cases e;refine core (λ_=>none) (λ_=>.inl rfl) (.inr ⟨_,vs.toArray,_,hk,rfl,rfl,rfl,by rw [P7,lenV];exact hl,by simpa using rv⟩) (λb u z=>by have z':(none:Option HO)=some u:=z;cases z') (λb z=>absurd rfl z) λz=>absurd rfl z
 | none=>
  refine core (λb=>if b=a then some (.frz {cls:=.type "list",data:=.seq vs.toArray} (.lst (ns.map V.int))) else none) (λb=>?_) (.inl (.inr ⟨{cls:=.type "list",data:=.seq vs.toArray},if_pos rfl⟩)) (λb u z=>?_) (λb z=>?_) λ_=>hk
  ·by_cases hb:b=a
   ·exact .inr ⟨_,_,if_pos hb⟩
   ·exact .inl (if_neg hb)
  ·by_cases hb:b=a
   ·have z':=(if_pos hb).symm.trans z;cases z';subst hb;exact ⟨ha,by rw [Qa];exact hl,vs,_,rv,ha⟩
   ·have z':=(if_neg hb).symm.trans z;cases z'
  ·by_cases hb:b=a
   ·exact hb
   ·exact absurd (if_neg hb) z
theorem Gm {l:PySem.W.OpenLaw} {n k:Nat} {q:UA} {loose:Uu} {XP:(Uo)->Heap->Prop} {YP:World->Heap->Prop} {d:DefRec} {K:Params->Ut} {CX:World->CY} {sp:World->Sp} {x:Str}
  (hn:l.most=some n) (hn2:n<=sizeLine) (hdf:d.params.defaults=[]) (hr:cg k callerA)
  (hY:∀ (w:World) (h:Heap),YP w h->(K w.params).In h)
  (F:∀ (w:World) (mg:Uo) (fa:Addr) (h:Heap),(K w.params).In h->h.Ns mainGlobals mg->mg d.name=some (.ref fa) ->
   ∃ fd:FuncData,(∀ (s:UD) (u:Value),BindsTo s fd ⟨[u],[]⟩ [(x,u)]) /\
    ∀ base:Heap,(K w.params).In base->base.Ns mainGlobals mg->jl l.prog w (K w.params) mg base (CX w) k fa fd [x] (sp w))
  (hsp:∀ (w:World) (H:Hp) (a:Addr) (ns:List Int),ns.length<=n->Jw H->jk (K w.params) H a (ns.map V.int)->sp w [.ref a] H (λv _=>v=.bl true) λ_ _ _=>False)
  (hCX:∀ (w:World) (H:Hp) (s:UD) (e:Value) (s':UD),CX w [] H s (λ_ _ _=>False) e s'->False) :
  PySem.W.WalkO q loose XP YP l.row.toRowW d [] (λf vs=>PySem.call f vs):=by
 refine Att.xD hn hdf λw s₀ s₁ mg mb fa o pm cd doc a vs ns G Y ho hd hcd hmg hobj hints hlen hg=>?_;have KX:=hY w _ Y;obtain ⟨fd,hb,hF⟩:=F w mg fa _ KX G.T.g hmg;exact Dr KX G.T.g G.T.b G.T.builtins G.T.nolimit hg hobj hints (P6 hlen hn2) hr hF hb (λH hO hS=>hsp w H a ns hlen hO hS) λH e s'=>hCX w H s₁ e s'
end L2
namespace L2
open PySem PySem.Spec PyProof.Rows
def ip (s:Stmt):Arguments:=match s with
 | .FunctionDef _ a _ _ _ _ _ _ _ _=>a
 | _=>{posonlyargs:=[],args:=[],vararg:=none,kwonlyargs:=[],kw_defaults:=[],kwarg:=none,defaults:=[]}
def fb (s:Stmt):List Stmt:=match s with
 | .FunctionDef _ _ b _ _ _ _ _ _ _=>b
 | _=>[]
def aE (s:Stmt):Scope:=match s with
 | .FunctionDef _ _ _ _ _ _ sc _ _ _=>sc
 | _=>{kind:=.function,names:=[],isGenerator:=false,isCoroutine:=false}
structure HW (K:Ut) (x qual:Str) (st:Stmt) (f:Addr) (fd:FuncData):Prop where
 ex:∃ (oc:Value) (od:Option Addr) (kV doc pm:Value) (an:Option Addr) (cdv ct:Value) (osl:Uw),
  fd=PySem.W.fnOf x qual (ip st) (fb st) (aE st) .none kV doc pm an cdv ct/\K.lookup f=some ⟨oc,od,.func fd,osl⟩/\PySem.W.codeIn K cdv qual=true
 kp:PySem.W.keepIn K (.ref f)=true
section
variable {P:UA} {w:World} {K:Ut} {mg:Uo} {base:Heap}
theorem HW.binds {x qual:Str} {st:Stmt} {f:Addr} {fd:FuncData} {ps:Uu} (F:HW K x qual st f fd)
  (h:∀ (kV doc pm:Value) (an:Option Addr) (cdv ct:Value) (us:Us),us.length=ps.length->bindArgs (PySem.W.fnOf x qual (ip st) (fb st) (aE st) .none kV doc pm an cdv ct) ⟨us,[]⟩=pure (ps.zip us)):Binds K fd ps []:=by
 obtain ⟨oc,od,kV,doc,pm,an,cdv,ct,osl,rfl,lk,hcd⟩:=F.ex;exact .all (h kV doc pm an cdv ct)
theorem zr {x qual:Str} {st:Stmt} {f:Addr} {oc:Value} {od an:Option Addr} {osl:Uw} {kV doc pm cdv ct:Value} (l:K.lookup f=some ⟨oc,od,.func (PySem.W.fnOf x qual (ip st) (fb st) (aE st) .none kV doc pm an cdv ct),osl⟩)
  (c:PySem.W.codeIn K cdv qual=true) (k:PySem.W.keepIn K (.ref f)=true):HW K x qual st f (PySem.W.fnOf x qual (ip st) (fb st) (aE st) .none kV doc pm an cdv ct):=⟨⟨oc,od,kV,doc,pm,an,cdv,ct,osl,rfl,l,c⟩,k⟩
end
def bx (H H':Hp):Prop:=∀ b o,H b=some o->H' b=some o
theorem bx.refl (H:Hp):bx H H:=λ_ _ h=>h
theorem bx.trans {H H1 H2:Hp} (a:bx H H1) (b:bx H1 H2):bx H H2:=λc o h=>b c o (a c o h)
theorem bx.free {H H':Hp} (e:bx H H') {l:Addr} (h:H' l=Option.none):H l=Option.none:=by
 cases q:H l with
 | none=>rfl
 | some o=>rw [e l o q] at h;cases h
theorem bx.seq {K:Ut} {H H':Hp} {a:Addr} {xs:List V} (e:bx H H') (h:jk K H a xs):jk K H' a xs:=by
 rcases h with (h | ⟨o,h⟩) | h
 ·exact .inl (.inl (e _ _ h))
 ·exact .inl (.inr ⟨o,e _ _ h⟩)
 ·exact .inr h
def dX (cells:List (Str×Addr)):List (Str×NameKind)->List (Str×Addr)->List (Str×Addr)
 | [],acc=>acc
 | (n,k)::r,acc=>if k == .free then dX cells r ((n,(cells.lookup n).getD 0)::acc) else dX cells r acc
theorem mU {env:Env}:∀ (names:List (Str×NameKind)) (acc:List (Str×Addr)),(∀ n,(n,NameKind.free)∈names->∃ c,env.cells.lookup n=some c) ->
  (forIn (m:=Sem) names acc λ(x:Str×NameKind) (cs:List (Str×Addr))=>match x with
   | (name,kind)=>if (kind == NameKind.free)=true then (do let a <- cellOf env name;pure (ForInStep.yield ((name,a)::cs))) else pure (ForInStep.yield cs))=pure (dX env.cells names acc)
 | [],acc,_=>by rw [RQ];rfl
 | (n,k)::r,acc,h=>by
  rw [RJ];unfold dX;by_cases hk:(k == NameKind.free)=true
  ·obtain ⟨c,hc⟩:=h n (by have:=eq_of_beq hk;subst this;exact Qe);have e:cellOf env n=pure c:=by unfold cellOf;rw [hc]
   simp only [hk,QB];rw [e,hc];exact mU r _ λm hm=>h m (P5 _ hm)
  ·simp only [hk];exact mU r _ λm hm=>h m (P5 _ hm)
theorem gb {scope:Scope} {env:Env} (h:∀ n,(n,NameKind.free)∈scope.names->∃ c,env.cells.lookup n=some c):closureFor scope env=pure (dX env.cells scope.names []):=by have q:=mU (env:=env) scope.names [] h;unfold closureFor;exact (RV (λm=>m >>= λcs=>pure cs) q)
theorem lD {cells:List (Str×Addr)} {x:Str}:∀ {names:List (Str×NameKind)} {acc:List (Str×Addr)},(x,NameKind.free)∉names->(dX cells names acc).lookup x=acc.lookup x
 | [],_,_=>rfl
 | (n,k)::r,acc,h=>by
  unfold dX;by_cases hk:(k == NameKind.free)=true
  ·rw [if_pos hk,lD λz=>h (P5 _ z),RE]
   have:(x == n)=false:=by
    cases e:x == n with
    | false=>rfl
    | true=>have e1:=eq_of_beq e;have e2:=eq_of_beq hk;subst e1;subst e2;exact absurd Qe h
   rw [this]
  ·rw [if_neg hk,lD λz=>h (P5 _ z)]
theorem gZ {cells:List (Str×Addr)} {x:Str}:∀ {names:List (Str×NameKind)} {acc:List (Str×Addr)},(x,NameKind.free)∈names->(dX cells names acc).lookup x=some ((cells.lookup x).getD 0)
 | (n,k)::r,acc,h=>by
  unfold dX;by_cases hr:(x,NameKind.free)∈r
  ·by_cases hk:(k == NameKind.free)=true
   ·rw [if_pos hk];exact gZ hr
   ·rw [if_neg hk];exact gZ hr
  ·rcases PZ.mp h with e | e
   ·cases e;rw [if_pos (show (NameKind.free == NameKind.free)=true from rfl),lD hr,RE];simp
   ·exact absurd e hr
theorem du:∀ (names:List (Str×NameKind)) (n:Nat) (acc:List (Str×Addr)),cellsFrom n names acc=cellsFrom n names []++acc
 | [],_,_=>rfl
 | (x,k)::r,n,acc=>by
  unfold cellsFrom;by_cases hk:(k == NameKind.cell)=true
  ·rw [if_pos hk,if_pos hk,du r (n+1) ((x,n)::acc),du r (n+1) [(x,n)],T9];rfl
  ·rw [if_neg hk,if_neg hk];exact du r n acc
theorem gc {x:Str} {c:Addr}:∀ {names:List (Str×NameKind)} {n:Nat},(x,c)∈cellsFrom n names []->(x,NameKind.cell)∈names/\n<=c
 | [],_,h=>nomatch h
 | (y,k)::r,n,h=>by
  unfold cellsFrom at h;by_cases hk:(k == NameKind.cell)=true
  ·rw [if_pos hk,du] at h;rcases Qg.mp h with h | h
   ·obtain ⟨h1,h2⟩:=gc h;exact ⟨P5 _ h1,by omega⟩
   ·have e:(x,c)=(y,n):=by simpa using h
    cases e;have:=eq_of_beq hk;subst this;exact ⟨Qe,PY _⟩
  ·rw [if_neg hk] at h;obtain ⟨h1,h2⟩:=gc h;exact ⟨P5 _ h1,h2⟩
structure cy (sc:Scope) (N own:Uu) (scope:Scope):Prop where
 kind:scope.kind=.function
 frees:∀ n,(n,NameKind.free)∈scope.names->sc.names.lookup n=some .cell\/sc.names.lookup n=some .free
 own:∀ x∈own,(x,NameKind.free)∉scope.names
 out:∀ x∈N,scope.names.lookup x≠some .local/\scope.names.lookup x≠some .cell
 uniq:∀ p∈scope.names,scope.names.lookup p.1=some p.2
noncomputable def eG (sc:Scope) (N own:Uu) (scope:Scope):Bool:=
 (scope.kind == .function) && scope.names.all (λp=>p.2 != .free || (sc.names.lookup p.1 == some .cell) || (sc.names.lookup p.1 == some .free)) &&
 own.all (λx=>scope.names.all λp=>!(p.1 == x && p.2 == .free)) && N.all (λx=>scope.names.lookup x != some .local && scope.names.lookup x != some .cell) &&
 scope.names.all (λp=>scope.names.lookup p.1 == some p.2)
theorem cy.of {sc:Scope} {N own:Uu} {scope:Scope} (h:eG sc N own scope=true):cy sc N own scope:=by
 unfold eG at h;simp only [PV] at h;obtain ⟨⟨⟨⟨h1,h2⟩,h3⟩,h4⟩,h5⟩:=h;refine ⟨eq_of_beq h1,λn hn=>?_,λx hx hn=>?_,λx hx=>?_,λp hp=>?_⟩
 ·have:=Qc.mp h2 _ hn;simp only [Ry,Ua,P8,false_or] at this;rcases this with q | q
  ·exact .inl (eq_of_beq q)
  ·exact .inr (eq_of_beq q)
 ·have:=Qc.mp (Qc.mp h3 x hx) _ hn;simp at this
 ·have:=Qc.mp h4 x hx;simp only [PV,bne_iff_ne] at this;exact this
 ·exact eq_of_beq (Qc.mp h5 p hp)
theorem kz {env:Env} {x:Str}:∀ (names:List (Str×NameKind)),
  (names.map λ(n,k)=>if (k == NameKind.free && env.scope.kind == .function && env.kindOf n == some .cell) then (n,NameKind.cell) else (n,k)).lookup x
   = (names.lookup x).map λk=>if (k == NameKind.free && env.scope.kind == .function && env.kindOf x == some .cell) then NameKind.cell else k
 | []=>rfl
 | (n,k)::r=>by
  have ih:=kz (env:=env) (x:=x) r;rw [Qn];show List.lookup x ((if (k == NameKind.free && env.scope.kind == .function && env.kindOf n == some .cell)=true then (n,NameKind.cell) else (n,k))::_)=_;by_cases hc:(k == NameKind.free && env.scope.kind == .function && env.kindOf n == some .cell)=true
  ·rw [if_pos hc,RE,RE]
   cases hx:x == n with
   | true=>have:=eq_of_beq hx;subst this;exact RV some (if_pos hc).symm
   | false=>exact ih
  ·rw [if_neg hc,RE,RE]
   cases hx:x == n with
   | true=>have:=eq_of_beq hx;subst this;exact RV some (if_neg hc).symm
   | false=>exact ih
theorem mem_of_lookupK {names:List (Str×NameKind)} {x:Str} {k:NameKind} (h:names.lookup x=some k):(x,k)∈names:=Q6 h
noncomputable def iX (scope:Scope) (C:Addr) (env:Env):Env:=
 {scope:=relabel scope env,locals:=C,globals:=env.globals,cells:=cellsFrom (C+1) scope.names (dX env.cells scope.names []),qual:=env.qual,func:=none,code:=env.code,frame:=env.frame,builtins:=env.builtins}
theorem iY {M:Model} {A:UC} {E:Uj} {s:UD} {scope:Scope} {env:Env} {cl:List (Str×Addr)} {Q:Env->UD->Prop}
  (hQ:Q {scope:=scope,locals:=s.heap.objs.size,globals:=env.globals,cells:=cellsFrom (s.heap.objs.size+1) scope.names cl,qual:=env.qual,func:=none,code:=env.code,frame:=env.frame,builtins:=env.builtins}
   {s with heap:=pushCells (s.heap.push {cls:=.type "dict",data:=.dict #[]}) scope.names}) :
  wpAny M A (newFunctionEnv scope env.globals cl [] env.qual none .none (some env)) Q E s:=by
 simp only [newFunctionEnv,Option.isSome_some,QB];refine PQ (wpAny_alloc ?_);refine PQ (wpAny_layCells _ (λname kind cells=>by cases hkc:kind == NameKind.cell<;>simp [hkc]) _ _ _ _ ?_);rw [show ({s with heap:=s.heap.push {cls:=.type "dict",data:=.dict #[]}}:UD).heap.objs.size=s.heap.objs.size+1 from Qv ..];exact PU hQ
noncomputable def au (X:Cx) (own:Uu) (scope:Scope) (C:Addr) (s2:UD) (H2:Hp) (fp:Ur) (pins:Uk):Cx where
 prog:=X.prog
 w:=X.w
 K:=X.K
 mg:=X.mg
 base:=X.base
 A:=X.A
 N:=own++X.N
 s₀:=s2
 H₀:=H2
 env:=iX scope C X.env
 outer:=X.stack
 stack:=X.stack
 ex:=fp
 fn:=λx=>own.any (· == x)
 calm:=X.calm
 pn:=X.pn++pins
 xe:=λ_ _=>False
def Kept (X:Cx) (fp:Ur) (H H':Hp) (s s':UD):Prop:=s'.os=s.os/\Un (tS X.stack) fp H H' s.heap s'.heap/\kq X.prog X.w H' s'.heap/\AllBare s'.gens
theorem Kept.inv {X:Cx} {pins:Uk} {σ:St} {H H':Hp} {s s':UD} {fp:Ur} (k:Kept X fp H H' s s') (I:Inv X pins σ H s) (hf:∀ b∈fp,gN X pins H b):Inv X pins σ H' s':=
 I.HL k.1 k.2.1 k.2.2.1 k.2.2.2 λb hb=>⟨(hf b hb).2.2.2.1,(hf b hb).2.1,(hf b hb).2.2.2.2.1,(hf b hb).2.2.2.2.2⟩
section
variable {X:Cx} {own:Uu} {scope:Scope} {pins:Uk} {σ:St} {H2:Hp} {s2:UD} {fp:Ur}
theorem g6 (x:Str):(relabel scope X.env).names.lookup x=(scope.names.lookup x).map λk=>if (k == NameKind.free && X.env.scope.kind == .function && X.env.kindOf x == some .cell) then NameKind.cell else k:=
 kz _
theorem bz {C:Addr} {x:Str} {c:Addr} (h:(iX scope C X.env).cells.lookup x=some c):((x,c)∈cellsFrom (C+1) scope.names []/\(x,NameKind.cell)∈scope.names/\C+1<=c)\/(dX X.env.cells scope.names []).lookup x=some c:=by
 have h':(cellsFrom (C+1) scope.names (dX X.env.cells scope.names [])).lookup x=some c:=h;rw [du,List.lookup_append] at h'
 cases e:(cellsFrom (C+1) scope.names []).lookup x with
 | some d=>rw [e] at h';cases h';have m:=Q6 e;exact .inl ⟨m,gc m⟩
 | none=>rw [e] at h';exact .inr h'
theorem dE (I:Inv X pins σ H2 s2) (CS:cy X.env.scope X.N own scope) {x:Str} {c:Addr} (h:(dX X.env.cells scope.names []).lookup x=some c):(x,NameKind.free)∈scope.names/\X.env.cells.lookup x=some c:=by
 by_cases hf:(x,NameKind.free)∈scope.names
 ·refine ⟨hf,?_⟩;rw [gZ hf] at h;obtain ⟨d,hd⟩:=I.ok.has x (CS.frees x hf);rw [hd] at h;cases h;exact hd
 ·rw [lD hf] at h;cases h
theorem vR (I:Inv X pins σ H2 s2) (CS:cy X.env.scope X.N own scope) {C:Addr} (hC:s2.heap.objs.size<=C) (hf:∀ b∈fp,gN X pins H2 b) (hl:∀ b∈fp,b < s2.heap.objs.size):(au X own scope C s2 H2 fp pins).Ok:=by
 have old:∀ x c,(dX X.env.cells scope.names []).lookup x=some c->X.env.cells.lookup x=some c/\c < s2.heap.objs.size:=λx c h=>by obtain ⟨_,q⟩:=dE I CS h;obtain ⟨v,z⟩:=I.cell x c q;exact ⟨q,z.lt⟩
 refine ⟨I.ok.mod,CS.kind,I.ok.glob,I.ok.blt,hC,λx y c h1 h2=>?_,λx hx=>?_,λx c hx h=>?_,I.ok.hd,I.ok.frames,.inl rfl,λb hb=>⟨?_,λx c h=>?_⟩,I.bs,P6 I.ok.bsz I.sz,λb o e hb=>?_,λb hb z=>?_,I.stack,I.Az⟩
 ·rcases bz h1 with ⟨a1,_,a2⟩ | a1<;>rcases bz h2 with ⟨b1,_,b2⟩ | b1
  ·have ap:=(cellsFrom_ok scope.names {(default:Heap) with objs:=Array.replicate (C+1) default} (C+1) [] ⟨λ_ _ hm=>(nomatch hm),List.Pairwise.nil⟩ (by simp)).apart;simp only [Array.size_replicate] at ap;exact name_of_addr ap a1 b1
  ·exact absurd (P0 (old y c b1).2 (P6 hC (P6 (Rq _) a2))) (Qk _)
  ·exact absurd (P0 (old x c a1).2 (P6 hC (P6 (Rq _) b2))) (Qk _)
  ·exact I.ok.inj x y c (old x c a1).1 (old y c b1).1
 ·have hx':(relabel scope X.env).names.lookup x=some .cell\/(relabel scope X.env).names.lookup x=some .free:=hx;rw [g6] at hx';show ∃ c,(cellsFrom (C+1) scope.names (dX X.env.cells scope.names [])).lookup x=some c;refine Option.isSome_iff_exists.mp (S7 _ _ _ ?_)
  cases e:scope.names.lookup x with
  | none=>rw [e] at hx';simp at hx'
  | some k=>
   rw [e] at hx';by_cases hk:k=.free
   ·subst hk;exact .inr (by rw [gZ (mem_of_lookupK e)];rfl)
   ·have hb:(k == NameKind.free)=false:=by simpa using hk
    simp only [TR,hb,Tf,P8,QK,R3] at hx';rcases hx' with q | q
    ·exact .inl (by rw [q])
    ·exact absurd q hk
 ·obtain ⟨y,hy,e⟩:=Tu.mp hx;have:=eq_of_beq e;subst this;rcases bz h with ⟨_,_,a⟩ | a
  ·exact P6 hC (P6 (Rq _) a)
  ·exact absurd (dE I CS a).1 (CS.own _ hy)
 ·exact Qh (P0 (hl b hb) hC)
 ·rcases bz h with ⟨_,_,a⟩ | a
  ·exact SV (Qh (P0 (hl b hb) (P6 hC (P6 (Rq _) a))))
  ·exact (hf b hb).2.2.2.2.1 x c (old x c a).1
 ·rcases (hf b hb).2.2.2.1 with z | z
  ·exact I.ok.noex b o e z
  ·exact absurd (P0 (P1 e) (P6 I.ok.bsz z)) (Qk _)
 ·rcases PZ.mp (I.iV b z) with e | e
  ·exact (hf b hb).2.1 e
  ·exact (hf b hb).2.2.1 e
theorem jn (I:Inv X pins σ H2 s2) (CS:cy X.env.scope X.N own scope) {C:Addr} {h:Heap} (hc:∀ c v,s2.heap.IsCell c v->(∃ x,X.env.cells.lookup x=some c)->h.IsCell c v) {m:Uo} :
  ∀ (i:Nat) (x:Str) (v:V),(own++X.N)[i]?=some x->(List.replicate own.length (none:Option V)++σ)[i]?=some (some v)->FZ (relabel scope X.env) x->∃ u,RelV v u/\Look (iX scope C X.env) h m x u:=by
 intro i x v h1 h2 h3
 have hi:own.length<=i:=by
  by_cases hi:own.length<=i
  ·exact hi
  ·rw [Qu (by simpa using hi),Sa] at h2;split at h2<;>cases h2
 rw [Qz hi] at h1;rw [Qz (by simpa using hi),QW] at h2;have hN:=CS.out x (Qq h1)
 have hfr:scope.names.lookup x=some .free:=by
  unfold FZ at h3;rw [g6] at h3
  cases e:scope.names.lookup x with
  | none=>rw [e] at h3;simp at h3
  | some k=>
   rw [e] at h3 hN;by_cases hk:k=.free
   ·rw [hk]
   ·have hb:(k == NameKind.free)=false:=by simpa using hk
    simp only [TR,hb,Tf,P8,QK,R3] at h3;rcases h3 with q | q | q
    ·exact absurd (by rw [q]) hN.1
    ·exact absurd (by rw [q]) hN.2
    ·exact absurd q hk
 have hm:=mem_of_lookupK hfr;have hk:=CS.frees x hm;obtain ⟨mX,hn,hl⟩:=I.loc;obtain ⟨u,r,l⟩:=hl _ x v h1 h2 (hk.elim (λz=>.inr (.inl z)) λz=>.inr (.inr z));refine ⟨u,r,?_⟩;rcases l with ⟨z,_⟩ | ⟨_,c,hcx,z⟩
 ·have z':X.env.scope.names.lookup x=some .local:=z;rcases hk with q | q<;>rw [q] at z'<;>cases z'
 ·refine .inr ⟨?_,c,?_,hc c _ z ⟨x,hcx⟩⟩
  ·show (relabel scope X.env).names.lookup x=some .cell\/(relabel scope X.env).names.lookup x=some .free;rw [g6,hfr];simp only [TR];split
   ·exact .inl rfl
   ·exact .inr rfl
  ·show (cellsFrom (C+1) scope.names (dX X.env.cells scope.names [])).lookup x=some c;rw [du,List.lookup_append]
   have no:(cellsFrom (C+1) scope.names []).lookup x=none:=by
    cases e:(cellsFrom (C+1) scope.names []).lookup x with
    | none=>rfl
    | some d=>have:=CS.uniq _ (gc (Q6 e)).1;simp only [] at this;rw [hfr] at this;cases this
   rw [no,gZ hm,hcx];rfl
end
theorem zt {prog:UA} {w:World} {A:UC} {R:Result->UD->Prop} {s:UD} {elt target iter:Expr} {ifs:Uv} {scope:Scope} {pos:Pos} {it acc:Value} {env:Env} (I:Nat->UD->Prop)
  (turn:∀ n s,I n s->wpAny (model prog w) A (pyNext it) (λr s1=>match r with
   | none=>R (.ok .next) s1
   | some v=>wpAny (model prog w) A (letOwnedTupleGo target it v) (λ_ s2=>wpAny (model prog w) A (assign target env v) (λ_ s3=>
     wpAny (model prog w) A (forIn ifs true λc r=>if r=true then do let ok <- isTrue c env (eval c env);pure (ForInStep.yield ok) else pure (ForInStep.yield r)) (λok s4=>
      if ok=true then wpAny (model prog w) A (eval elt env) (λx s5=>
       wpAny (model prog w) A (call (.builtin "list.append") [acc,x]) (λ_ s6=>∃ m,m < n/\I m s6) (λ_ _=>False) s5) (λ_ _=>False) s4
      else ∃ m,m < n/\I m s4) (λ_ _=>False) s3) (λ_ _=>False) s2) (λ_ _=>False) s1) (λ_ _=>False) s)
  (n:Nat) (h:I n s) :
  codeAny (model prog w) A (.compLoop (.ListComp elt [⟨target,iter,ifs,0⟩] scope pos) 0 it acc env) R s:=by
 refine codeAny_loop rfl I (λn s hI=>?_) n h;show wpAny _ A ((compTurn (.ListComp elt [⟨target,iter,ifs,0⟩] scope pos) 0 it acc env).onRaise (λx=>do noteFrame x env;theTreesLotGoes x)) _ _ s;refine wpAny_noted ?_;rw [compTurn_list];refine Q7 (E:=λ_ _=>False) (E':=_) (Q':=_) ?_ (λ_ _ q=>q) λ_ _ z=>z.elim;refine PQ (Q9 (PQ (bq (turn n s hI) (λr s1 h1=>?_))))
 cases r with
 | none=>exact PU h1
 | some v=>
  refine PQ (bq h1 λ_ s2 h2=>?_);refine PQ (bq h2 λ_ s3 h3=>PQ (bq h3 λok s4 h4=>?_))
  cases ok with
  | false=>exact PU ⟨rfl,h4⟩
  | true=>exact PQ (PQ (bq h4 λx s5 h5=>PQ (bq h5 λ_ s6 h6=>PU (PU ⟨rfl,h6⟩))))
noncomputable def Ca (X:Cx) (ifs:Uv) (t:TT):Prop:=
 ∀ (pins:Uk) (s:UD) (σ:St) (H:Hp) (Q:Bool->Hp->Prop),Inv X pins σ H s->t σ H Q ->
  wpAny (model X.prog X.w) X.A (forIn ifs true λc r=>if r=true then do let ok <- isTrue c X.env (eval c X.env);pure (ForInStep.yield ok) else pure (ForInStep.yield r)) (TP X pins σ Q) X.xe s
def NO:TT:=λ_ H Q=>Q true H
theorem Gn {X:Cx}:Ca X [] NO:=λ_ _ _ H _ I h=>wpAny_tests_nil ⟨H,I,h⟩
theorem Gp {X:Cx} {c:Expr} {t:TT} (h:PT X c t):Ca X [c] t:=λpins s σ H Q I q=>wpAny_tests_one (h pins s σ H Q I q)
noncomputable def Ds (n:Nat) (J:It) (g:TG) (tc:TT) (te:TE) (σ:St) (H:Hp) (Q:VK):Prop:=
 ∃ W:Nat->Nat->List V->Hp->Prop,(∃ m,W 0 m [] H)/\∀ i m ys H,W i m ys H ->
  (J.stop i H/\ys.length<=sizeLine/\∀ p,H p=none->Q (.ref p) (upd H p (.lst ys))) \/
  (J.go i H/\ys.length<=sizeLine/\∃ N:List V->Hp->Prop,(∀ ys' H',N ys' H'->∃ m',m' < m/\W (i+1) m' ys' H')/\∀ x H',J.yld i H x H'->g x (List.replicate n none++σ) H' λσ2 H2=>tc σ2 H2 λb H3=>
   if b=true then te σ2 H3 λy H4=>N (ys++[y]) H4 else N ys H3)
theorem rB {X:Cx} {own:Uu} {scope:Scope} {pins:Uk} {σ:St} {H2:Hp} {s2:UD} {fp:Ur} {it:Addr} {tn:Nat->Heap->Prop} {J:It} {elt tg iter:Expr} {ifs:Uv} {pos:Pos} {g:TG} {tc:TT} {te:TE} {Q:VK}
  {RR:Value->Addr->Result->UD->Prop} {E:Uj} (I:Inv X pins σ H2 s2) (CS:cy X.env.scope X.N own scope) (hc:X.calm=true) (T:Turn X.prog X.w X.K tg J fp it tn) (st:tn 0 s2.heap) (hf:∀ b∈fp,gN X pins H2 b)
  (hg:∀ C s2 H2 fp pins,PG (au X own scope C s2 H2 fp pins) tg g) (ht:∀ C s2 H2 fp pins,Ca (au X own scope C s2 H2 fp pins) ifs tc) (he:∀ C s2 H2 fp pins,PE (au X own scope C s2 H2 fp pins) elt te)
  (hW:Ds own.length J g tc te σ H2 Q)
  (hR:∀ D C H' s',Inv X pins σ H' s'->gN X pins H' C->(∃ m,s'.heap.Ns C m)->Q (.ref D) H'->Kept X fp H2 H' s2 s'->RR (.ref D) C (.ok .next) s') :
  wpAny (model X.prog X.w) X.A (newList []) (λacc s3=>wpAny (model X.prog X.w) X.A (newFunctionEnv scope X.env.globals (dX X.env.cells scope.names []) [] X.env.qual none .none (some X.env)) (λcenv s4=>
   codeAny (model X.prog X.w) X.A (.compStart (.ListComp elt [⟨tg,iter,ifs,0⟩] scope pos) 0 (.ref it) acc {cenv with scope:=relabel scope X.env}) (RR acc cenv.locals) s4) E s3) E s2:=by
 refine QD (iY ?_);dsimp only;generalize hH:s2.heap.push {cls:=.type "list",dict:=none,data:=.seq ([]:Us).toArray}=h3;have hDC:h3.objs.size=s2.heap.objs.size+1:=by rw [<- hH,Qv]
 have eC:({scope:=relabel scope X.env,locals:=h3.objs.size,globals:=X.env.globals,cells:=cellsFrom (h3.objs.size+1) scope.names (dX X.env.cells scope.names []),qual:=X.env.qual,func:=none,code:=X.env.code,frame:=X.env.frame,builtins:=X.env.builtins}:Env)=iX scope h3.objs.size X.env:=rfl;rw [eC];generalize eD:s2.heap.objs.size=D at *;generalize eCC:h3.objs.size=C at *;have hl:∀ b∈fp,b < s2.heap.objs.size:=λb hb=>by obtain ⟨o,e,_⟩:=T.obj 0 _ st b hb;exact P1 e
 have hC:s2.heap.objs.size<=C:=by omega
 generalize hH4:pushCells (h3.push {cls:=.type "dict",data:=.dict #[]}) scope.names=h4;have k34:∀ b o,(h3.push {cls:=.type "dict",data:=.dict #[]}).get? b=some o->h4.get? b=some o:=λb o e=>by rw [<- hH4];exact pushCells_keeps _ _ b o e
 have k24:∀ b o,s2.heap.get? b=some o->h4.get? b=some o:=λb o e=>k34 b o (PR _ (by rw [<- hH];exact PR _ e));have nsC:h4.Ns C λ_=>none:=by have:=Heap.Ns.new h3 (.type "dict");rw [eCC] at this;exact this.keeps k34
 have accD:h4.get? D=some {cls:=.type "list",data:=.seq (([]:Us).toArray)}:=k34 _ _ (PR _ (by rw [<- hH,<- eD];exact P4 _ rfl));have cellN:∀ x c,(x,c)∈cellsFrom (C+1) scope.names []->h4.IsCell c none/\C+1<=c:=λx c hm=>by have ok:=cellsFrom_ok scope.names (h3.push {cls:=.type "dict",data:=.dict #[]}) (C+1) [] ⟨λ_ _ hm=>(nomatch hm),List.Pairwise.nil⟩ (by rw [Qv];omega);rw [Qv,eCC,hH4] at ok;exact ok.empty x c hm
 have hne:H2 D=none:=by rw [<- eD];exact I.hok.fresh (PY _)
 have ok':(au X own scope C s2 H2 fp pins).Ok:=vR I CS hC hf hl
 have rebase:∀ {σ':St} {H':Hp} {ps:Uk} {s':UD},Inv (au X own scope C s2 H2 fp pins) ps σ' H' s'->Inv (au X own scope C s2 H2 fp pins) ps (List.replicate own.length none++σ) H' s':=λ{σ' H' ps s'} J'=>by
  obtain ⟨m,hn,_⟩:=J'.loc;refine ⟨J'.ok,J'.os,J'.bare,J'.base,⟨m,hn,jn I CS λc v z ⟨x,hx⟩=>?_⟩,J'.cell,J'.free,J'.freeC,J'.pin,J'.hok,?_⟩
  ·obtain ⟨o,ho,hd⟩:=z;obtain ⟨sl,e⟩:=J'.base.any ho (I.freeC x c hx) λhb=>(hf c hb).2.2.2.2.1 x c hx rfl;exact ⟨_,e,hd⟩
  ·show (List.replicate own.length none++σ).length=(own++X.N).length;rw [Qd,Qd,QW,I.len]
 have start:Inv (au X own scope C s2 H2 fp pins) [] (List.replicate own.length none++σ) H2 {s2 with heap:=h4}:=by
  have I4:Inv X pins σ H2 {s2 with heap:=h4}:=I.kept (t':=s2.toks) k24;refine ⟨ok',rfl,I.bare,Un.kept k24,⟨_,nsC,jn I CS λc v z _=>z.keeps k24⟩,λx c h=>?_,I.hok.fresh hC,λx c h=>?_,λp hp=>?_,I4.hok,?_⟩
  ·rcases bz h with ⟨a,_,_⟩ | a
   ·exact ⟨_,(cellN x c a).1⟩
   ·obtain ⟨v,z⟩:=I.cell x c (dE I CS a).2;exact ⟨v,z.keeps k24⟩
  ·rcases bz h with ⟨_,_,a⟩ | a
   ·exact I.hok.fresh (P6 hC (P6 (Rq _) a))
   ·exact I.freeC x c (dE I CS a).2
  ·have hp':p∈X.pn++pins:=by
    rcases Qg.mp hp with z | z
    ·exact z
    ·exact nomatch z
   obtain ⟨e,n,ne,nf,d⟩:=I.pin p hp';refine ⟨k24 _ _ e,n,Qh (P0 (P1 e) hC),λz=>?_,d⟩;rcases PZ.mp (I.iV _ z) with q | q
   ·exact ne q
   ·exact nf q
  ·show (List.replicate own.length none++σ).length=(own++X.N).length;rw [Qd,Qd,QW,I.len]
 obtain ⟨W,⟨m0,w0⟩,turn⟩:=hW
 have nfs:∀ b,s2.heap.objs.size<=b->b∉(au X own scope C s2 H2 fp pins).fs:=λb hb z=>by
  rcases PZ.mp (I.iV b z) with q | q
  ·rw [q] at hb;exact absurd (P0 I.lt hb) (Qk _)
  ·exact I.zc hb q
 have fpD:∀ {H':Hp},H' D=none->gN (au X own scope C s2 H2 fp pins) [] H' D:=λ{H'} hn=>by
  refine ⟨hn,Qh (by show D < C;omega),nfs D (by omega),.inr (by show s2.heap.objs.size<=D;omega),λx c h z=>?_,λp hp z=>?_⟩
  ·rcases bz h with ⟨_,_,a⟩ | a
   ·rw [z] at a;exact absurd (P0 (show D < C+1 by omega) a) (Qk _)
   ·obtain ⟨v,q⟩:=I.cell x c (dE I CS a).2;have:=q.lt;rw [z,eD] at this;exact Qk _ this
  ·have hp':p∈X.pn++pins:=by
    rcases Qg.mp hp with z | z
    ·exact z
    ·exact nomatch z
   have:=P1 (I.pin p hp').1;rw [z,eD] at this;exact Qk _ this
 have nD:D∉fp:=λz=>by have:=hl D z;rw [eD] at this;exact Qk _ this
 have stat:∀ {H':Hp} {ps:Uk},(∀ p∈ps,p.1=D)->(∀ b∈fp,H' b=none)->∀ b∈fp,gN (au X own scope C s2 H2 fp pins) ps H' b:=λ{H' ps} hps hn b hb=>by
  obtain ⟨f0,f1,f2,f3,f4,f5⟩:=hf b hb;refine ⟨hn b hb,(ok'.exf b hb).1,ok'.exfs b hb,.inl hb,(ok'.exf b hb).2,λp hp=>?_⟩;rcases Qg.mp hp with z | z
  ·exact f5 p z
  ·rw [hps p z];exact λq=>nD (q▸hb)
 let LI:Nat->UD->Prop:=λn s'=>∃ i ys its k H',Inv (au X own scope C s2 H2 fp pins) [] (List.replicate own.length none++σ) H' s'/\tn i s'.heap/\(∀ b∈fp,H' b=none)/\H' D=none /\
  s'.heap.get? D=some {cls:=.type "list",data:=.seq (List.toArray its) k}/\Vals ys its/\W i n ys H'
 have l0:LI m0 {s2 with heap:=h4}:=⟨0,[],[],0,H2,start,T.keep _ _ _ st λb _ o e=>k24 b o e,λb hb=>(hf b hb).1,hne,accD,.nil,w0⟩
 have loop:codeAny (model X.prog X.w) X.A (.compLoop (.ListComp elt [⟨tg,iter,ifs,0⟩] scope pos) 0 (.ref it) (.ref D) (iX scope C X.env)) (RR (.ref D) C) {s2 with heap:=h4}:=by
  refine zt LI ?_ m0 l0;rintro n s3 ⟨i,ys,its,k,H3,I3,st3,fr3,d3,a3,v3,w3⟩;rcases turn i n ys H3 w3 with ⟨stop,hz,qn⟩ | ⟨go,hz,NN,hNN,step⟩
  ·have I3p:=I3.pinned (fp:=[D]) (λb hb=>(Qm.mp hb)▸fpD d3) λb hb=>⟨_,(Qm.mp hb)▸a3,λv z=>(by cases z)⟩;refine bq (T.done (au X own scope C s2 H2 fp pins) rfl rfl rfl hc i _ s3 _ H3 _ I3p (stat (λp hp=>by have q:p∈bE [D] s3.heap:=hp;have:=(dI q).1;simpa using this) fr3) st3 stop) λr s4 ⟨hr,I4⟩=>?_;subst hr;have a4:s4.heap.get? D=_:=(I4.pin (D,_) (PX _ (PX _ (aQ (by simp) a3)))).1;have u4:Un (tS X.stack) fp H2 H3 s2.heap s4.heap:=I4.base
   have okD:kq X.prog X.w (upd H3 D (.lst ys)) s4.heap:=λb o e=>by
    by_cases hb:b=D
    ·subst hb;rw [aX] at e;cases e;exact ⟨hz,its,k,v3,a4⟩
    ·rw [ay hb] at e;exact (I4.hok b o e).qG (λ_ _ _ q=>q) (λc q=>by rw [ay (aD q d3)];exact q) λc xs q=>by rw [ay (aD q d3)];exact q
   have nDo:∀ b o,s2.heap.get? b=some o->b≠D:=λb o e=>by rw [<- eD];exact Qh (P1 e)
   have uD:Un (tS X.stack) fp H2 (upd H3 D (.lst ys)) s2.heap s4.heap:=⟨u4.keep,u4.slot,λb o e n hx=>by rw [ay (nDo b o e)];exact u4.free b o e n hx,u4.there,
    λb xs e=>by rw [ay (aD e hne)];exact u4.tups b xs e,λb o xs e=>by rw [ay (aD e hne)];exact u4.frzs b o xs e,λb ps e=>by rw [ay (aD e hne)];exact u4.tbls b ps e⟩
   have kp:Kept X fp H2 (upd H3 D (.lst ys)) s2 s4:=⟨I4.os,uD,okD,I4.bare⟩;have I5:Inv X pins σ (upd H3 D (.lst ys)) s4:=kp.inv I hf;obtain ⟨m,hn,_⟩:=I4.loc;refine hR D C _ s4 I5 ⟨by rw [ay (show C≠D by omega)];exact I4.free,Sm (P0 I.lt hC),I.zc hC,.inr (P6 I.sz hC),λx c e z=>?_,λp hp z=>?_⟩ ⟨m,hn⟩ (qn D d3) kp
   ·obtain ⟨v,q⟩:=I.cell x c e;exact absurd (P0 q.lt (by rw [z];exact hC)) (Qk _)
   ·exact absurd (P0 (P1 (I.pin p hp).1) (by rw [z];exact hC)) (Qk _)
  ·have I3p:=I3.pinned (fp:=[D]) (λb hb=>(Qm.mp hb)▸fpD d3) λb hb=>⟨_,(Qm.mp hb)▸a3,λv z=>(by cases z)⟩;have onlyD:∀ p∈([]++bE [D] s3.heap),p.1=D:=λp hp=>by have q:p∈bE [D] s3.heap:=hp;have:=(dI q).1;simpa using this
   refine bq (T.item (au X own scope C s2 H2 fp pins) rfl rfl rfl hc i _ s3 _ H3 _ I3p (stat onlyD fr3) st3 go) λr s4 ⟨u,hr,h4'⟩=>?_;subst hr;refine bq h4' λ_ s5 ⟨x,H5,I5,r5,y5,st5,fr5⟩=>?_;have I5p:=I5.pinned (fp:=fp) (stat onlyD fr5) (T.obj _ _ st5)
   have cont:∀ {s6:UD} {σ6:St} {H6:Hp},Inv (au X own scope C s2 H2 fp pins) (([]++bE [D] s3.heap)++bE fp s5.heap) σ6 H6 s6 ->
     Inv (au X own scope C s2 H2 fp pins) [] (List.replicate own.length none++σ) H6 s6/\tn (i+1) s6.heap/\(∀ b∈fp,H6 b=none)/\H6 D=none/\s6.heap.get? D=some {cls:=.type "list",data:=.seq (List.toArray its) k}:=λ{s6 σ6 H6} I6=>by
    have pD:=I6.pin (D,_) (PX _ (QA _ (PX _ (aQ (by simp) a3))));refine ⟨rebase (I6.jD λp hp=>nomatch hp),T.keep _ _ _ st5 λb hb o e=>(I6.pin (b,o) (PX _ (PX _ (aQ hb e)))).1,λb hb=>?_,pD.2.1,pD.1⟩;obtain ⟨o,e,_⟩:=T.obj _ _ st5 b hb;exact (I6.pin (b,o) (PX _ (PX _ (aQ hb e)))).2.1
   refine bq (hg C s2 H2 fp pins _ s5 _ H5 x u _ I5p r5 (step x H5 y5)) λ_ s6 ⟨σ6,H6,I6,q6⟩=>?_;refine bq (ht C s2 H2 fp pins _ s6 σ6 H6 _ I6 q6) λb s7 ⟨H7,I7,q7⟩=>?_
   cases b with
   | false=>have q7':NN ys H7:=q7;obtain ⟨m',hm,w7⟩:=hNN _ _ q7';obtain ⟨c1,c2,c3,c4,c5⟩:=cont I7;exact ⟨m',hm,i+1,ys,its,k,H7,c1,c2,c3,c4,c5,v3,w7⟩
   | true=>refine bq (he C s2 H2 fp pins _ s7 σ6 H7 _ I7 q7) λv s8 ⟨y,H8,I8,r8,q8⟩=>?_;obtain ⟨m',hm,w8⟩:=hNN _ _ q8;obtain ⟨c1,c2,c3,c4,c5⟩:=cont I8;refine wpAny_list_append_plain ⟨k,c5⟩ (λh' hp hs=>?_) (by rw [P7,<- v3.length];exact hz);obtain ⟨k',e'⟩:=hp;obtain ⟨f0,f1,f2,f3,f4,f5⟩:=fpD c4;refine ⟨m',hm,i+1,ys++[y],its++[v],k',H8,c1.turned (t':=s8.toks) (λb o hb e=>(hs.2 b hb).trans e) f0 f1 f3 f4 f5,T.keep _ _ _ c2 λb hb o e=>(hs.2 b λz=>nD (z▸hb)).trans e,c3,c4,?_,v3.append (.cons r8 .nil),w8⟩;show h'.get? D=_;rw [e'];simp
 exact codeAny_compStart_list loop (T.self X.A 0 {s2 with heap:=h4} _ _ (T.keep _ _ _ st λb _ o e=>k24 b o e) loop)
section
variable {X:Cx} {own:Uu} {scope:Scope} {elt tg iter:Expr} {ifs:Uv} {pos:Pos} {wi:TI} {g:TG} {tc:TT} {te:TE}
def AK (n:Nat) (wi:TI) (g:TG) (tc:TT) (te:TE):TE:=λσ H Q=>wi σ H λJ H1=>Ds n J g tc te σ H1 Q
theorem jG {sc:Scope} {N:Uu} (CS:cy sc N own scope):∀ x∈scope.names,x.2=.local->scope.names.lookup x.1=some .local:=λx hx e=>by rw [CS.uniq x hx,e]
theorem Gq (own:Uu) (CS:eG X.env.scope X.N own scope=true) (hc:X.calm=true) (hi:PI X tg iter wi) (hg:∀ C s2 H2 fp pins,PG (au X own scope C s2 H2 fp pins) tg g)
  (ht:∀ C s2 H2 fp pins,Ca (au X own scope C s2 H2 fp pins) ifs tc) (he:∀ C s2 H2 fp pins,PE (au X own scope C s2 H2 fp pins) elt te) (hs:∀ x,foldedSetIterable iter X.env x=pure x:=by intro _;rfl) :
  PE X (.ListComp elt [⟨tg,iter,ifs,0⟩] scope pos) (AK own.length wi g tc te):=by
 intro pins s σ H Q I h;have CS:=cy.of CS;rw [eval_ListComp];refine R4 (use:=none) (g:=⟨tg,iter,ifs,0⟩) rfl hs (gb λn hn=>I.ok.has n (CS.frees n hn)) CS.kind (jG CS) (bq (hi pins s σ H _ I h) λv s1 h1=>bq h1 λitv s2 h2=>?_);obtain ⟨it,fp,tn,J,H2,e,I2,T,st2,f2,hW⟩:=h2;subst e;refine rB (RR:=λacc C=>compPost (model X.prog X.w) X.A X.xe none (EP X pins σ Q) acc C) I2 CS hc T st2 f2 hg ht he hW λD C H' s' I' fC ⟨m,hn⟩ q _=>?_;refine ⟨m,hn,λh' hs'=>⟨.ref D,H',?_,rfl,q⟩⟩;obtain ⟨f0,f1,_,f3,f4,f5⟩:=fC;exact I'.turned (t':=s'.toks) (λb o hb e=>(hs'.2 b hb).trans e) f0 f1 f3 f4 f5
theorem Gr (own:Uu) {i:Nat} {x:Str} {pos' spos:Pos} (hN:X.N.Nodup) (hxi:X.N[i]?=some x) (hx:X.env.scope.names.lookup x=some .local) (CS:eG X.env.scope X.N own scope=true) (hc:X.calm=true) (hi:PI X tg iter wi) (hg:∀ C s2 H2 fp pins,PG (au X own scope C s2 H2 fp pins) tg g)
  (ht:∀ C s2 H2 fp pins,Ca (au X own scope C s2 H2 fp pins) ifs tc) (he:∀ C s2 H2 fp pins,PE (au X own scope C s2 H2 fp pins) elt te) (hs:∀ x,foldedSetIterable iter X.env x=pure x:=by intro _;rfl)
  (hsw:swapsWith (.ListComp elt [⟨tg,iter,ifs,0⟩] scope pos) (some (.Name x pos')) spos.line X.env=pure true:=by rfl) :
  PS X (.Assign [.Name x pos'] (.ListComp elt [⟨tg,iter,ifs,0⟩] scope pos) spos) (BW (AK own.length wi g tc te) (av i)):=by
 intro pins s σ H D I h;have CS:=cy.of CS;rw [exec_Assign_Name_used _ _ _ _ hsw];refine PQ (Q9 (PQ ?_));show wpAny _ X.A (do let _ <- comprehension (.ListComp elt [⟨tg,iter,ifs,0⟩] scope pos) scope X.env _ (newList []) false (eval iter X.env) (some (assign (.Name x pos') X.env))) _ _ s
 refine PQ (bq (R4 (use:=some (assign (.Name x pos') X.env)) (Q:=λ_ s'=>SP X pins D .next s') (g:=⟨tg,iter,ifs,0⟩) rfl hs (gb λn hn=>I.ok.has n (CS.frees n hn)) CS.kind (jG CS)
  (bq (hi pins s σ H _ I h) λv s1 h1=>bq h1 λitv s2 h2=>?_)) λ_ s' hq=>PU (PU hq))
 obtain ⟨it,fp,tn,J,H2,e,I2,T,st2,f2,hW⟩:=h2;subst e;refine rB (Q:=λx H1=>av i x σ H1 D.nx) (RR:=λacc C=>compPost (model X.prog X.w) X.A X.xe (some (assign (.Name x pos') X.env)) (λ_ s'=>SP X pins D .next s') acc C) I2 CS hc T st2 f2 hg ht he hW λDl C H' s' I' fC ⟨m,hn⟩ q _=>?_;show wpAny _ _ (assign (.Name x pos') X.env (.ref Dl)) _ _ s';refine wpAny_assign_Name (o3 (v:=.ref Dl) I' hN hxi (.inl hx) rfl (λs'' I'' hsb=>?_) (.inr hx));obtain ⟨f0,f1,f2',f3,f4,f5⟩:=fC;obtain ⟨a,sb,ha⟩:=hsb
 have hCa:C≠a:=by
  rcases ha with e | e
  ·rw [e];exact f1
  ·exact (f4 x a e).symm
 refine ⟨m,hn.sameBut sb hCa,λh' hs'=>⟨_,H',?_,q⟩⟩;exact I''.turned (t':=s''.toks) (λb o hb e=>(hs'.2 b hb).trans e) f0 f1 f3 f4 f5
end
structure Nx (P:UA) (w:World) (i l:Addr) (st:Nat->Heap->Prop) (xs:Us):Prop where
 obj:∀ k h,st k h->∃ o vs,h.get? i=some o/\o.data=.fields vs
 keep:∀ k h h',st k h->(∀ o,h.get? i=some o->h'.get? i=some o)->(∀ o,h.get? l=some o->h'.get? l=some o)->st k h'
 item:∀ (A:UC) k (s:UD) x (Q:Uj) (E:Uj),st k s.heap->xs[k]?=some x->(∀ h',st (k+1) h'->Heap.SameBut i s.heap h'->Q x {s with heap:=h'}) ->
  wpAny (model P w) A (Builtin.SmallTypes.nextOf (.ref i)) Q E s
 done:∀ (A:UC) k (s:UD) (Q:Uj) (E:Uj),A.handled=none->st k s.heap->xs[k]?=none ->
  (∀ h' e,Heap.ExtBut i s.heap h'->(∃ o,h'.get? e=some o/\o.cls=.type "StopIteration")->E (.ref e) {s with heap:=h'})->wpAny (model P w) A (Builtin.SmallTypes.nextOf (.ref i)) Q E s
section
variable {P:UA} {w:World} {A:UC} {E:Uj} {s:UD}
theorem xE {h:Heap} {i l:Addr} {k:Nat} {its:Uy} (a:h.IsTupleIter i l k) (b:h.IsTuple l its):i≠l:=λe=>by obtain ⟨o,h1,c1,_⟩:=a;obtain ⟨o',h2,c2,_⟩:=b;rw [e,h2] at h1;cases h1;rw [c2] at c1;exact absurd c1 (by decide)
theorem zu {it t:Addr} {k:Nat} {its:Uy} {x:Value} {Q:Uj} (a:s.heap.IsTupleIter it t k) (b:s.heap.IsTuple t its) (hx:its[k]?=some x)
  (q:∀ h',h'.IsTupleIter it t (k+1)->Heap.SameBut it s.heap h'->Q x {s with heap:=h'}):wpAny (model P w) A (Builtin.SmallTypes.nextOf (.ref it)) Q E s:=by
 obtain ⟨oi,gi,ci,di⟩:=id a;obtain ⟨ot,gt,_,nt,dt⟩:=b;unfold Builtin.SmallTypes.nextOf;refine PQ (QC (name:=Str.ofString "__next__") a.typeIs RK (Qy RK a.typeIs F.entry_tuple_iterator_next ?_ (F.args_tuple_iterator_next_1 _)));show wpAny _ _ (field (Value.ref it) 0 >>= _) _ _ s;refine PQ (Ra (x:=Value.ref t) gi di rfl ?_);rw [if_neg (show ¬ (Value.ref t == Value.none)=true from Qs)];show wpAny _ _ (field (Value.ref it) 1 >>= _) _ _ s;refine PQ (Ra (x:=Value.int k 0) gi di rfl ?_);show wpAny _ _ (seqItems? (Value.ref t) >>= _) _ _ s;refine PQ (QX gt dt ?_);simp only [hx,Q8];refine PQ (wpAny_setField gi di (by simp) (PU ⟨x,rfl,PU (q _ ⟨_,Rx _ gi (Obj.isFreed_of_fields (Obj.data_mapFields di _)),(Obj.cls_mapFields ..).trans ci,?_⟩ (SK ..))⟩));rw [Obj.data_mapFields di];simp [rawInt]
theorem rC {it t:Addr} {k:Nat} {its:Uy} {Q:Uj} (hh:A.handled=none) (a:s.heap.IsTupleIter it t k) (b:s.heap.IsTuple t its) (hx:its[k]?=none)
  (q:∀ h' e,Heap.ExtBut it s.heap h'->(∃ o,h'.get? e=some o/\o.cls=.type "StopIteration")->E (.ref e) {s with heap:=h'}):wpAny (model P w) A (Builtin.SmallTypes.nextOf (.ref it)) Q E s:=by
 obtain ⟨oi,gi,ci,di⟩:=id a;obtain ⟨ot,gt,_,nt,dt⟩:=b;unfold Builtin.SmallTypes.nextOf;refine PQ (QC (name:=Str.ofString "__next__") a.typeIs RK (Qy RK a.typeIs F.entry_tuple_iterator_next ?_ (F.args_tuple_iterator_next_1 _)));show wpAny _ _ (field (Value.ref it) 0 >>= _) _ _ s;refine PQ (Ra (x:=Value.ref t) gi di rfl ?_);rw [if_neg (show ¬ (Value.ref t == Value.none)=true from Qs)];show wpAny _ _ (field (Value.ref it) 1 >>= _) _ _ s;refine PQ (Ra (x:=Value.int k 0) gi di rfl ?_);show wpAny _ _ (seqItems? (Value.ref t) >>= _) _ _ s;refine PQ (QX gt dt ?_);simp only [hx,Q8];refine PQ (RH (PQ (wpAny_setField gi di (by simp) ?_)));show wpAny _ _ (newExc (Value.type "StopIteration") [] >>= _) _ _ _;refine PQ ?_;simp only [newTuple,newExc];refine PQ (QD ?_ (by size_fits));refine PQ (m:=firstArgMember _ _) (Sn (a:=Value.none) (by first | rfl | (unfold firstArgMember;rfl)) ?_);refine QD ?_ (by size_fits);unfold raiseNew;refine PQ (wpAny_handled ?_);rw [show A.in1.handled=none from hh];exact PQ (PU (wpAny_throw (q _ _ (((SK ..).extBut.push _).push _) ⟨_,P4 _ rfl,rfl⟩)))
theorem vS (i l:Addr) (xs:Us):Nx P w i l (λk h=>h.IsTupleIter i l k/\h.IsTuple l xs.toArray) xs where
 obj:=λk h ⟨⟨o,a,_,c⟩,_⟩=>⟨o,_,a,c⟩
 keep:=λk h h' ⟨a,b⟩ k1 k2=>⟨a.at k1,let ⟨o,e,r⟩:=b;⟨o,k2 o e,r⟩⟩
 item:=λA k s x Q E ⟨a,b⟩ hx q=>zu a b (by simpa using hx) λh' a' sb=>q h' ⟨a',let ⟨o,e,r⟩:=b;⟨o,(sb.2 l (xE a b).symm).trans e,r⟩⟩ sb
 done:=λA k s Q E hh ⟨a,b⟩ hx q=>rC hh a b (by simpa using hx) q
structure ZA (z TI TO i1 i2 l1 l2:Addr):Prop where
 a1:TI≠z
 a2:TO≠z
 a3:i1≠z
 a4:i2≠z
 a5:TI≠TO
 a6:TI≠i1
 a7:TI≠i2
 a8:TO≠i1
 a9:TO≠i2
 b1:i1≠i2
 b2:l1≠z
 b3:l1≠TO
 b4:l1≠i2
 b5:l2≠z
 b6:l2≠TO
 b7:l2≠i1
variable {st1 st2:Nat->Heap->Prop} {xs ys:Us} {z TI TO i1 i2 l1 l2:Addr} {k:Nat} {a b:Value}
theorem aI {h h':Heap} {c d:Addr} {o:Obj} (sb:Heap.SameBut c h h') (ne:d≠c) (e:h.get? d=some o):h'.get? d=some o:=(sb.2 d ne).trans e
theorem Dt (D:ZA z TI TO i1 i2 l1 l2) (N1:Nx P w i1 l1 st1 xs) (N2:Nx P w i2 l2 st2 ys) {x y:Value} {Q:Uj} (hz:IsZip s.heap z TI TO .none) (hI:IsPair s.heap TI (.ref i1) (.ref i2)) (hO:IsPair s.heap TO a b)
  (s1:st1 k s.heap) (s2:st2 k s.heap) (hx:xs[k]?=some x) (hy:ys[k]?=some y)
  (q:∀ h',IsZip h' z TI TO (rawInt s.heap.objs.size)->IsPair h' TO x y->st1 (k+1) h'->st2 (k+1) h'->IsPair h' s.heap.objs.size x y ->
   (∀ c o,c≠z->c≠TO->c≠i1->c≠i2->s.heap.get? c=some o->h'.get? c=some o)->Q (.ref s.heap.objs.size) {s with heap:=h'}) :
  wpAny (model P w) A (Builtin.«zip.__next__» ⟨[.ref z],[]⟩) (λfin s'=>∃ v,fin=.done (.ret v)/\Q v s') E s:=by
 show wpAny _ _ (field (Value.ref z) 2 >>= _) _ _ _;refine PQ (Ra (x:=Value.bool false) hz rfl rfl ?_);show wpAny _ _ (field (Value.ref z) 3 >>= _) _ _ _;refine PQ (Ra (x:=Value.ref TI) hz rfl rfl ?_);refine PQ (QX hI rfl ?_);show wpAny _ _ (Builtin.SmallTypes.ownedTupleIsFree (Value.ref z) >>= _) _ _ _;refine PQ ?_;unfold Builtin.SmallTypes.ownedTupleIsFree;refine PQ (Ra (x:=Value.none) hz rfl rfl (PU ?_));simp only [QB];refine PQ (RH (PQ (Ra (x:=Value.ref TO) hz rfl rfl ?_)));refine PQ (RN hz (by simp) λg1 z1 e1=>?_);have z1:IsZip g1 z TI TO .ellipsis:=z1;refine PQ ?_;simp only [List.zipIdx_nil,List.zipIdx_cons,RQ,RJ];refine PQ (PQ (wpAny_onRaise ?_));show wpAny _ _ (Builtin.SmallTypes.nextOf (Value.ref i1) >>= _) _ _ _;refine PQ (N1.item _ k _ x _ _ (N1.keep _ _ _ s1 (λo=>aI e1 D.a3) λo=>aI e1 D.b2) hx λg2 t1 e2=>PU ?_);have O2:IsPair g2 TO a b:=aI e2 D.a8 (aI e1 D.a2 hO);refine PQ (QX O2 rfl (PQ (TF O2 λg3 O3 e3=>?_)));have O3:IsPair g3 TO x b:=O3;refine PQ (wpAny_letGo (PU (PQ (PQ (wpAny_onRaise ?_)))));show wpAny _ _ (Builtin.SmallTypes.nextOf (Value.ref i2) >>= _) _ _ _;refine PQ (N2.item _ k _ y _ _ (N2.keep _ _ _ s2 (λo e=>aI e3 D.a9.symm (aI e2 D.b1.symm (aI e1 D.a4 e))) λo e=>aI e3 D.b6 (aI e2 D.b7 (aI e1 D.b5 e))) hy λg4 t2 e4=>PU ?_);have O4:IsPair g4 TO x b:=aI e4 D.a9 O3;refine PQ (QX O4 rfl (PQ (TF O4 λg5 O5 e5=>?_)));have O5:IsPair g5 TO x y:=O5;refine PQ (wpAny_letGo (PU (PU (PQ (QX O5 rfl (PQ (wpAny_newTuple ?_)))))));have sz:g5.objs.size=s.heap.objs.size:=by rw [e5.1,e4.1,e3.1,e2.1,e1.1]
 have z5:IsZip g5 z TI TO .ellipsis:=aI e5 D.a2.symm (aI e4 D.a4.symm (aI e3 D.a2.symm (aI e2 D.a3.symm z1)));have zlt:z < g5.objs.size:=P1 z5;have u1:st1 (k+1) g5:=N1.keep _ _ _ t1 (λo e=>aI e5 D.a8.symm (aI e4 D.b1 (aI e3 D.a8.symm e))) λo e=>aI e5 D.b3 (aI e4 D.b4 (aI e3 D.b3 e));have u2:st2 (k+1) g5:=N2.keep _ _ _ t2 (λo e=>aI e5 D.a9.symm e) λo e=>aI e5 D.b6 e;show wpAny _ _ (Builtin.SmallTypes.ownedTupleHandOut (Value.ref z) (.ref g5.objs.size) >>= _) _ _ _;refine PQ ?_;unfold Builtin.SmallTypes.ownedTupleHandOut;have z6:IsZip (g5.push {cls:=.type "tuple",data:=.seq #[x,y]}) z TI TO .ellipsis:=PR _ z5;refine PQ (RN z6 (by simp) λg7 z7 e7=>?_);have z7:IsZip g7 z TI TO (rawInt g5.objs.size):=z7;refine RN z7 (by simp) λg8 z8 e8=>?_;have z8:IsZip g8 z TI TO (rawInt g5.objs.size):=z8;have up:∀ c o,c≠z->g5.get? c=some o->g8.get? c=some o:=λc o n e=>aI e8 n (aI e7 n (PR _ e));have nw:IsPair g8 g5.objs.size x y:=aI e8 (Sm zlt) (aI e7 (Sm zlt) (P4 _ rfl));rw [sz] at z8 nw;refine PU ⟨_,rfl,?_⟩;show Q (.ref g5.objs.size) _;rw [sz]
 exact q g8 z8 (up _ _ D.a2 O5) (N1.keep _ _ _ u1 (λo=>up _ o D.a3) λo=>up _ o D.b2) (N2.keep _ _ _ u2 (λo=>up _ o D.a4) λo=>up _ o D.b5) nw λc o n1 n2 n3 n4 e=>
  up c o n1 (aI e5 n2 (aI e4 n4 (aI e3 n2 (aI e2 n3 (aI e1 n1 e)))))
theorem Gs (hh:A.handled=none) (D:ZA z TI TO i1 i2 l1 l2) (N1:Nx P w i1 l1 st1 xs) (N2:Nx P w i2 l2 st2 ys) {Q:PySem.Fin->UD->Prop} (hz:IsZip s.heap z TI TO .none) (hI:IsPair s.heap TI (.ref i1) (.ref i2)) (hO:IsPair s.heap TO a b)
  (s1:st1 k s.heap) (s2:st2 k s.heap) (hend:xs[k]?=none\/ys[k]?=none)
  (q:∀ h' e,(∀ c o,c≠z->c≠TO->c≠i1->c≠i2->s.heap.get? c=some o->h'.get? c=some o)->(∃ o,h'.get? e=some o/\o.cls=.type "StopIteration")->E (.ref e) {s with heap:=h'}) :
  wpAny (model P w) A (Builtin.«zip.__next__» ⟨[.ref z],[]⟩) Q E s:=by
 show wpAny _ _ (field (Value.ref z) 2 >>= _) _ _ _;refine PQ (Ra (x:=Value.bool false) hz rfl rfl ?_);show wpAny _ _ (field (Value.ref z) 3 >>= _) _ _ _;refine PQ (Ra (x:=Value.ref TI) hz rfl rfl ?_);refine PQ (QX hI rfl ?_);show wpAny _ _ (Builtin.SmallTypes.ownedTupleIsFree (Value.ref z) >>= _) _ _ _;refine PQ ?_;unfold Builtin.SmallTypes.ownedTupleIsFree;refine PQ (Ra (x:=Value.none) hz rfl rfl (PU ?_));simp only [QB];refine PQ (RH (PQ (Ra (x:=Value.ref TO) hz rfl rfl ?_)));refine PQ (RN hz (by simp) λg1 z1 e1=>?_);have z1:IsZip g1 z TI TO .ellipsis:=z1;refine PQ ?_;simp only [List.zipIdx_nil,List.zipIdx_cons,RQ,RJ];refine PQ (PQ (wpAny_onRaise ?_));show wpAny _ _ (Builtin.SmallTypes.nextOf (Value.ref i1) >>= _) _ _ _;have t1:st1 k g1:=N1.keep _ _ _ s1 (λo=>aI e1 D.a3) λo=>aI e1 D.b2
 cases hx:xs[k]? with
 | none=>
  refine PQ (N1.done _ k _ _ _ hh t1 hx λg2 e e2 ⟨oe,he,ce⟩=>?_);have z2:IsZip g2 z TI TO .ellipsis:=e2 _ _ D.a3.symm z1;have ne:e≠z:=λr=>by rw [r,z2] at he;cases he;exact absurd (show Value.type "zip" = Value.type "StopIteration" from ce) (by decide)
  exact RN z2 (by simp) λg3 _ e3=>q g3 e (λc o n1 _ n3 _ r=>aI e3 n1 (e2 _ _ n3 (aI e1 n1 r))) ⟨oe,aI e3 ne he,ce⟩
 | some x=>
  have hy:ys[k]?=none:=by
   rcases hend with r | r
   ·rw [hx] at r;cases r
   ·exact r
  refine PQ (N1.item _ k _ x _ _ t1 hx λg2 t1 e2=>PU ?_);have O2:IsPair g2 TO a b:=aI e2 D.a8 (aI e1 D.a2 hO);refine PQ (QX O2 rfl (PQ (TF O2 λg3 O3 e3=>?_)));refine PQ (wpAny_letGo (PU (PQ (PQ (wpAny_onRaise ?_)))));show wpAny _ _ (Builtin.SmallTypes.nextOf (Value.ref i2) >>= _) _ _ _;refine PQ (N2.done _ k _ _ _ hh (N2.keep _ _ _ s2 (λo e=>aI e3 D.a9.symm (aI e2 D.b1.symm (aI e1 D.a4 e))) λo e=>aI e3 D.b6 (aI e2 D.b7 (aI e1 D.b5 e))) hy λg4 e e4 ⟨oe,he,ce⟩=>?_);have z4:IsZip g4 z TI TO .ellipsis:=e4 _ _ D.a4.symm (aI e3 D.a2.symm (aI e2 D.a3.symm z1));have ne:e≠z:=λr=>by rw [r,z4] at he;cases he;exact absurd (show Value.type "zip" = Value.type "StopIteration" from ce) (by decide)
  exact RN z4 (by simp) λg5 _ e5=>q g5 e (λc o n1 n2 n3 n4 r=>aI e5 n1 (e4 _ _ n4 (aI e3 n2 (aI e2 n3 (aI e1 n1 r))))) ⟨oe,aI e5 ne he,ce⟩
end
section
variable {P:UA} {w:World} {A:UC} {E:Uj} {s:UD}
structure LM (h h':Heap) (l1 l2:Addr):Prop where
 z:IsZip h' (h.objs.size+4) (h.objs.size+2) (h.objs.size+3) .none
 ti:IsPair h' (h.objs.size+2) (.ref h.objs.size) (.ref (h.objs.size+1))
 to:IsPair h' (h.objs.size+3) .none .none
 i1:h'.IsTupleIter h.objs.size l1 0
 i2:h'.IsTupleIter (h.objs.size+1) l2 0
 sz:h'.objs.size=h.objs.size+5
 keep:∀ c o,h.get? c=some o->h'.get? c=some o
abbrev mz (h:Heap) (u:Addr):Heap:=h.push {cls:=.type "tuple_iterator",data:=.fields #[.ref u,.int 0 0]}
abbrev HX (h:Heap) (a b:Addr):Heap:=h.push {cls:=.type "tuple",data:=.seq #[.ref a,.ref b]}
abbrev LN (h:Heap):Heap:=h.push {cls:=.type "tuple",data:=.seq #[.none,.none]}
abbrev Pr (h:Heap) (a b:Addr):Heap:=h.push {cls:=.type "zip",data:=.fields #[.none,.bool false,.bool false,.ref a,.ref b]}
abbrev zw (h:Heap) (l1 l2:Addr):Heap:=Pr (LN (HX (mz (mz h l1) l2) h.objs.size (mz h l1).objs.size)) (mz (mz h l1) l2).objs.size (HX (mz (mz h l1) l2) h.objs.size (mz h l1).objs.size).objs.size
theorem Du (h:Heap) (l1 l2:Addr):LM h (zw h l1 l2) l1 l2:=by
 have e1:(mz h l1).objs.size=h.objs.size+1:=Qv ..;have e2:(mz (mz h l1) l2).objs.size=h.objs.size+2:=by rw [Qv,e1]
 have e3:(HX (mz (mz h l1) l2) h.objs.size (mz h l1).objs.size).objs.size=h.objs.size+3:=by rw [Qv,e2]
 have e4:(LN (HX (mz (mz h l1) l2) h.objs.size (mz h l1).objs.size)).objs.size=h.objs.size+4:=by rw [Qv,e3]
 have p5:(zw h l1 l2).get? (LN (HX (mz (mz h l1) l2) h.objs.size (mz h l1).objs.size)).objs.size=some _:=P4 _ rfl;have p4:(zw h l1 l2).get? (HX (mz (mz h l1) l2) h.objs.size (mz h l1).objs.size).objs.size=some _:=PR _ (P4 _ rfl);have p3:(zw h l1 l2).get? (mz (mz h l1) l2).objs.size=some _:=PR _ (PR _ (P4 _ rfl));have p2:(zw h l1 l2).get? (mz h l1).objs.size=some _:=PR _ (PR _ (PR _ (P4 _ rfl)));have p1:(zw h l1 l2).get? h.objs.size=some _:=PR _ (PR _ (PR _ (PR _ (P4 _ rfl))));rw [e2,e3,e4] at p5;rw [e3] at p4;rw [e2,e1] at p3;rw [e1] at p2;exact ⟨p5,p3,p4,⟨_,p1,rfl,rfl⟩,⟨_,p2,rfl,rfl⟩,by rw [Qv,e4],λc o e=>PR _ (PR _ (PR _ (PR _ (PR _ e))))⟩
theorem xF (l1 l2:Addr) (xs ys:Uy) :
  Meets (Builtin.«zip.__new__» ⟨[.type "zip",.ref l1,.ref l2],[]⟩) (λ_ R s=>s.heap.IsTuple l1 xs/\s.heap.IsTuple l2 ys/\R (.ok (.ret (.ref (LN (HX (mz (mz s.heap l1) l2) s.heap.objs.size (mz s.heap l1).objs.size)).objs.size))) {s with heap:=zw s.heap l1 l2}):=
 .of_wp λprog w A R s h=>by
  obtain ⟨hp,g,d,tk,os⟩:=s;obtain ⟨t1,t2,h⟩:=h;have hsub:=sub_zip;have T1:Heap.IsTuple (Shared.heap ⟨hp,g,d,tk,os⟩) l1 xs:=t1;have T2:Heap.IsTuple (Shared.heap ⟨hp.push {cls:=.type "tuple_iterator",data:=.fields #[.ref l1,.int 0 0]},g,d,tk,os⟩) l2 ys:=Heap.IsTuple.push t2 _
  wp_walk using SX T1,SX T2
  exact ⟨_,rfl,h⟩
theorem vT {l1 l2:Addr} {xs ys:Uy} {Q:Uj} (t1:s.heap.IsTuple l1 xs) (t2:s.heap.IsTuple l2 ys) (q:∀ h',LM s.heap h' l1 l2->Q (.ref (s.heap.objs.size+4)) {s with heap:=h'}) :
  wpAny (model P w) A (call (.type "zip") [.ref l1,.ref l2]) Q E s:=by
 refine callType_new F.called_zip (by decide) (F.typeCall_zip_2 _ _) (F.newCall_zip_2 _ _) (λobj=>F.args_object_init_3 obj _ _) F.entry_zip_new (xF l1 l2 xs ys) ⟨t1,t2,?_⟩;have n:=Du s.heap l1 l2;have e4:(LN (HX (mz (mz s.heap l1) l2) s.heap.objs.size (mz s.heap l1).objs.size)).objs.size=s.heap.objs.size+4:=by have:=n.sz;rw [Qv] at this;omega
 show _/\_;rw [e4];exact ⟨⟨_,n.z,rfl⟩,q _ n⟩
theorem ub {z TI TO i1 i2 l1 l2:Addr} {k:Nat} {xs ys:Us} {x y a b:Value} {Q:Option Value->UD->Prop} (D:ZA z TI TO i1 i2 l1 l2) (hz:IsZip s.heap z TI TO .none) (hI:IsPair s.heap TI (.ref i1) (.ref i2)) (hO:IsPair s.heap TO a b)
  (t1:s.heap.IsTupleIter i1 l1 k) (t2:s.heap.IsTupleIter i2 l2 k) (h1:s.heap.IsTuple l1 xs.toArray) (h2:s.heap.IsTuple l2 ys.toArray) (hx:xs[k]?=some x) (hy:ys[k]?=some y)
  (q:∀ h',IsZip h' z TI TO (rawInt s.heap.objs.size)->IsPair h' TO x y->h'.IsTupleIter i1 l1 (k+1)->h'.IsTupleIter i2 l2 (k+1)->IsPair h' s.heap.objs.size x y ->
   (∀ c o,c≠z->c≠TO->c≠i1->c≠i2->s.heap.get? c=some o->h'.get? c=some o)->Q (some (.ref s.heap.objs.size)) {s with heap:=h'}):wpAny (model P w) A (pyNext (.ref z)) Q E s:=by
 have hT:s.TypeIs (.ref z) "zip" := ⟨_,hz,rfl⟩;unfold pyNext;refine PQ (S4 (QC (name:=Str.ofString "__next__") hT TU (Qy TU hT F.entry_zip_next ?_ (F.args_zip_next_1 _))));exact Dt D (vS i1 l1 xs) (vS i2 l2 ys) hz hI hO ⟨t1,h1⟩ ⟨t2,h2⟩ hx hy λh' a1 a2 a3 a4 a5 a6=>PU (q h' a1 a2 a3.1 a4.1 a5 a6)
theorem vU {z TI TO i1 i2 l1 l2:Addr} {k:Nat} {xs ys:Us} {a b:Value} {Q:Option Value->UD->Prop} (hh:A.handled=none) (D:ZA z TI TO i1 i2 l1 l2) (hz:IsZip s.heap z TI TO .none) (hI:IsPair s.heap TI (.ref i1) (.ref i2)) (hO:IsPair s.heap TO a b)
  (t1:s.heap.IsTupleIter i1 l1 k) (t2:s.heap.IsTupleIter i2 l2 k) (h1:s.heap.IsTuple l1 xs.toArray) (h2:s.heap.IsTuple l2 ys.toArray) (hend:xs[k]?=none\/ys[k]?=none)
  (q:∀ h',(∀ c o,c≠z->c≠TO->c≠i1->c≠i2->s.heap.get? c=some o->h'.get? c=some o)->Q none {s with heap:=h'}):wpAny (model P w) A (pyNext (.ref z)) Q E s:=by
 have hT:s.TypeIs (.ref z) "zip" := ⟨_,hz,rfl⟩;unfold pyNext;refine PQ (S4 (QC (name:=Str.ofString "__next__") hT TU (Qy TU hT F.entry_zip_next ?_ (F.args_zip_next_1 _))));refine Gs (A:=A.in1) hh D (vS i1 l1 xs) (vS i2 l2 ys) hz hI hO ⟨t1,h1⟩ ⟨t2,h2⟩ hend λh' e hk ⟨o,ho,hc⟩=>?_;exact PQ (Tv (T := "StopIteration") (b:=true) ⟨o,ho,hc⟩ isSubtype_stop (PU (q _ hk)))
end
noncomputable def OS (K:Ut) (a1 a2:Addr):It:=
 ⟨λi H=>∃ xs ys x y,gE K H a1 xs/\gE K H a2 ys/\xs[i]?=some x/\ys[i]?=some y,
  λi H v H'=>∃ p x y,v=.ref p/\H p=none/\H'=upd H p (.tup [x,y])/\(∀ xs,gE K H a1 xs->xs[i]?=some x)/\∀ ys,gE K H a2 ys->ys[i]?=some y,
  λi H=>∃ xs ys,gE K H a1 xs/\gE K H a2 ys/\(xs.length<=i\/ys.length<=i)⟩
theorem Dv {P:UA} {w:World} {K:Ut} {es:Uv} {kk:_} {tpos:Pos} (a1 a2 z TI TO i1 i2:Addr) (D:ZA z TI TO i1 i2 a1 a2):Turn P w K (.Tuple es kk tpos) (OS K a1 a2) [z,TI,TO,i1,i2] z
  (λk h=>IsZip h z TI TO .none/\IsPair h TI (.ref i1) (.ref i2)/\(∃ a b,IsPair h TO a b)/\h.IsTupleIter i1 a1 k/\h.IsTupleIter i2 a2 k) where
 mem:=Qe
 obj:=λk h st b hb=>by
  obtain ⟨hz,hI,⟨a,c,hO⟩,⟨o1,e1,_,d1⟩,⟨o2,e2,_,d2⟩⟩:=st;simp only [PZ,Qo,Rc] at hb;rcases hb with rfl | rfl | rfl | rfl | rfl
  ·exact ⟨_,hz,λv r=>by cases r⟩
  ·exact ⟨_,hI,λv r=>by cases r⟩
  ·exact ⟨_,hO,λv r=>by cases r⟩
  ·exact ⟨_,e1,λv r=>by rw [d1] at r;cases r⟩
  ·exact ⟨_,e2,λv r=>by rw [d2] at r;cases r⟩
 keep:=λk h h' st kp=>by obtain ⟨hz,hI,⟨a,c,hO⟩,t1,t2⟩:=st;exact ⟨kp z (by simp) _ hz,kp TI (by simp) _ hI,⟨a,c,kp TO (by simp) _ hO⟩,t1.at (kp i1 (by simp)),t2.at (kp i2 (by simp))⟩
 item:=by
  intro X hP hw hK hc i pins s σ H E I hf st hg;subst hP hw hK;obtain ⟨xs,ys,x,y,q1,q2,hx,hy⟩:=hg;obtain ⟨its1,r1,p1,_⟩:=I.tuple q1;obtain ⟨its2,r2,p2,_⟩:=I.tuple q2;obtain ⟨u1,hu1,ru1⟩:=r1.get hx;obtain ⟨u2,hu2,ru2⟩:=r2.get hy;obtain ⟨hz,hI,⟨a,c,hO⟩,t1,t2⟩:=st;refine ub D hz hI hO t1 t2 (show s.heap.IsTuple a1 its1.toArray from p1) (show s.heap.IsTuple a2 its2.toArray from p2) hu1 hu2 λh' z' o' t1' t2' nw kp=>?_;refine ⟨_,rfl,wpAny_letOwnedTupleGo_zip z' λh2 z2 sb=>?_⟩;have lt:∀ {b:Addr} {o:Obj},s.heap.get? b=some o->b≠s.heap.objs.size:=λe=>Qh (P1 e);have nz:s.heap.objs.size≠z:=(lt hz).symm;have hf0:H s.heap.objs.size=none:=I.hok.fresh (PY _);have hI2:IsPair h2 TI (.ref i1) (.ref i2):=aI sb D.a1 (kp _ _ D.a1 D.a5 D.a6 D.a7 hI);have kall:∀ b o,b∉[z,TI,TO,i1,i2]->s.heap.get? b=some o->h2.get? b=some o:=λb o hb e=>by simp only [PZ,Qo,Rc,not_or] at hb;exact aI sb hb.1 (kp b o hb.1 hb.2.2.1 hb.2.2.2.1 hb.2.2.2.2 e)
  have BU:∀ {b:Addr} {u:HO},H b=some u->b∉[z,TI,TO,i1,i2]:=λ{b u} e hb=>by rw [(hf b hb).1] at e;cases e
  have there:∀ b o,s.heap.get? b=some o->∃ o',h2.get? b=some o':=λb o e=>by
   by_cases hb:b∈[z,TI,TO,i1,i2]
   ·simp only [PZ,Qo,Rc] at hb;rcases hb with rfl | rfl | rfl | rfl | rfl
    ·exact ⟨_,z2⟩
    ·exact ⟨_,hI2⟩
    ·exact ⟨_,aI sb D.a2 o'⟩
    ·obtain ⟨_,e1,_⟩:=t1';exact ⟨_,aI sb D.a3 e1⟩
    ·obtain ⟨_,e1,_⟩:=t2';exact ⟨_,aI sb D.a4 e1⟩
   ·exact ⟨o,kall b o hb e⟩
  have hokN:kq X.prog X.w (upd H s.heap.objs.size (.tup [x,y])) h2:=λb u e=>by
   by_cases hb:b=s.heap.objs.size
   ·subst hb;rw [aX] at e;cases e;exact ⟨by show 2<=sizeLine;decide,[u1,u2],.cons ru1 (.cons ru2 .nil),⟨_,aI sb nz nw,rfl,_,rfl⟩⟩
   ·rw [ay hb] at e;refine (I.hok b u e).qG (λd v hd r=>kall d v ?_ r) (λd r=>by rw [ay (aD r hf0)];exact r) λd vs r=>by rw [ay (aD r hf0)];exact r
    rcases hd with rfl | hd
    ·exact BU e
    ·exact BU hd
  have I2:Inv X pins σ (upd H s.heap.objs.size (.tup [x,y])) {s with heap:=h2}:=by
   refine I.step (g':=s.gens) (d':=s.drawn) (t':=s.toks) (ch:=[z,TI,TO,i1,i2]) (λb hb=>⟨(hf b hb).2.2.2.1,(hf b hb).2.1,(hf b hb).2.2.2.2.1,(hf b hb).2.2.2.2.2⟩) (λb o _ _ hb e _=>kall b o hb e) (λb o _ _ hb e _=>⟨o.slots,kall b o hb e⟩)
    (λb o _ e n=>by rw [ay (lt e)];exact n) (λb o _ e=>there b o e) (λb vs e=>by rw [ay (aD e hf0)];exact e) (λb o v e=>by rw [ay (aD e hf0)];exact e) (λb ps e=>⟨#[],by rw [ay (aD e hf0),e];simp⟩) (λm hm=>?_) hokN I.bare
   obtain ⟨o,es',ep,e,r⟩:=hm;exact ⟨o,es',ep,kall _ o (λhb=>(hf _ hb).2.1 rfl) e,r⟩
  refine ⟨.ref s.heap.objs.size,_,I2,rfl,⟨_,x,y,rfl,hf0,rfl,λvs h=>by rw [I.o5 h q1];exact hx,λvs h=>by rw [I.o5 h q2];exact hy⟩,⟨z2,hI2,⟨_,_,aI sb D.a2 o'⟩,t1'.at λo e=>aI sb D.a3 e,t2'.at λo e=>aI sb D.a4 e⟩,λb hb=>?_⟩;have hb':=(hf b hb).1;by_cases e:b=s.heap.objs.size
  ·exfalso;simp only [PZ,Qo,Rc] at hb;rcases hb with r | r | r | r | r
   ·exact lt hz (r▸e)
   ·exact lt hI (r▸e)
   ·exact lt hO (r▸e)
   ·obtain ⟨_,e1,_⟩:=t1;exact lt e1 (r▸e)
   ·obtain ⟨_,e1,_⟩:=t2;exact lt e1 (r▸e)
  ·rw [ay e];exact hb'
 done:=by
  intro X hP hw hK hc i pins s σ H E I hf st hg;subst hP hw hK;obtain ⟨xs,ys,q1,q2,hl⟩:=hg;obtain ⟨its1,r1,p1,_⟩:=I.tuple q1;obtain ⟨its2,r2,p2,_⟩:=I.tuple q2;obtain ⟨hz,hI,⟨a,c,hO⟩,t1,t2⟩:=st;refine vU (I.ok.hd hc) D hz hI hO t1 t2 (show s.heap.IsTuple a1 its1.toArray from p1) (show s.heap.IsTuple a2 its2.toArray from p2) ?_ λh' kp=>⟨rfl,?_⟩
  ·have e1:=r1.length;have e2:=r2.length;rcases hl with r | r
   ·exact .inl (List.getElem?_eq_none_iff.mpr (by omega))
   ·exact .inr (List.getElem?_eq_none_iff.mpr (by omega))
  ·have kall:∀ b o,b∉[z,TI,TO,i1,i2]->s.heap.get? b=some o->h'.get? b=some o:=λb o hb e=>by
    simp only [PZ,Qo,Rc,not_or] at hb;exact kp b o hb.1 hb.2.2.1 hb.2.2.2.1 hb.2.2.2.2 e
   have BU:∀ {b:Addr} {u:HO},H b=some u->b∉[z,TI,TO,i1,i2]:=λ{b u} e hb=>by rw [(hf b hb).1] at e;cases e
   refine I.step (g':=s.gens) (d':=s.drawn) (t':=s.toks) (ch:=[z,TI,TO,i1,i2]) (λb hb=>⟨(hf b hb).2.2.2.1,(hf b hb).2.1,(hf b hb).2.2.2.2.1,(hf b hb).2.2.2.2.2⟩) (λb o _ _ hb e _=>kall b o hb e) (λb o _ _ hb e _=>⟨o.slots,kall b o hb e⟩)
    (λb o _ e n=>n) (λb o hb e=>⟨o,kall b o hb e⟩) (λb vs e=>e) (λb o v e=>e) (λb ps e=>⟨#[],by rw [e];simp⟩) (λm hm=>?_) (λb u e=>(I.hok b u e).qG (λd v hd r=>kall d v ?_ r) (λ_ r=>r) λ_ _ r=>r) I.bare
   ·obtain ⟨o,es',ep,e,r⟩:=hm;exact ⟨o,es',ep,kall _ o (λhb=>(hf _ hb).2.1 rfl) e,r⟩
   ·rcases hd with rfl | hd
    ·exact BU e
    ·exact BU hd
 self:=λ_ _ _ _ _ st h=>wpAny_pyIter_zip st.1 h
section
variable {X:Cx} {es:Uv} {kk:Nat} {tpos:Pos}
theorem NP (a b:Nat) (h:a≠b):@Ne Addr a b:=h
theorem LO (n a b:Nat) (h1:a < n) (h2:b < n):ZA (n+4) (n+2) (n+3) n (n+1) a b:=by constructor<;>refine NP _ _ ?_<;>omega
def NQ (K:Ut) (ta:TA):TI:=λσ H R=>ta σ H λvs H1=>∃ a1 a2 xs ys,vs=[.ref a1,.ref a2]/\gE K H1 a1 xs/\gE K H1 a2 ys/\R (OS K a1 a2) H1
theorem Jx {e1 e2:Expr} {ta:TA} {p pos:Pos} (hg:Gl X "zip") (hm:X.mg "zip" = none) (ha:PA X [e1,e2] ta) (hs:starEach [e1,e2] X.env=[(false,eval e1 X.env),(false,eval e2 X.env)]:=by rfl) (hs2:starEach [e2] X.env=[(false,eval e2 X.env)]:=by rfl) :
  PI X (.Tuple es kk tpos) (.Call (.Name "zip" p) [e1,e2] [] pos) (NQ X.K ta):=by
 intro pins s σ H R I h;refine Call_ (mT I hg hm (by decide +kernel:bootBuiltins "zip" = some (.type "zip")) (RI (bq (ha pos pins s σ H _ I h) λus s1 ⟨vs,H1,I1,r1,q1⟩=>?_) (by rw [hs,hs2]) (by rw [hs2];rfl)));obtain ⟨a1,a2,xs,ys,e,t1,t2,q⟩:=q1;subst e
 cases r1 with
 | cons r rr=>
  cases rr with
  | cons r' rr=>
   cases rr;cases r;cases r';obtain ⟨its1,v1,p1,_⟩:=I1.tuple t1;obtain ⟨its2,v2,p2,_⟩:=I1.tuple t2;have L1:a1 < s1.heap.objs.size:=by obtain ⟨_,e,_⟩:=p1;exact P1 e
   have L2:a2 < s1.heap.objs.size:=by obtain ⟨_,e,_⟩:=p2;exact P1 e
   refine vT (show s1.heap.IsTuple a1 its1.toArray from p1) (show s1.heap.IsTuple a2 its2.toArray from p2) λh' N=>?_;refine wpAny_pyIter_zip (s:={s1 with heap:=h'}) N.z ?_;have I2:Inv X pins σ H1 {s1 with heap:=h'}:=I1.kept (t':=s1.toks) N.keep;refine ⟨s1.heap.objs.size+4,[s1.heap.objs.size+4,s1.heap.objs.size+2,s1.heap.objs.size+3,s1.heap.objs.size,s1.heap.objs.size+1],_,_,H1,rfl,I2,Dv a1 a2 _ _ _ _ _ (LO _ _ _ L1 L2),⟨N.z,N.ti,⟨_,_,N.to⟩,N.i1,N.i2⟩,λb hb=>?_,q⟩
   have ge:s1.heap.objs.size<=b:=by
    simp only [PZ,Qo,Rc] at hb;rcases hb with rfl | rfl | rfl | rfl | rfl
    ·exact Tw _ _
    ·exact Tw _ _
    ·exact Tw _ _
    ·exact PY _
    ·exact Tw _ _
   exact I1.BX ge (I1.hok.fresh ge)
end
section
variable {κ:Type} [DecidableEq κ]
def o6 (kvs:List (κ×V)) (k:κ):Option V:=(kvs.find? λkv=>decide (kv.1=k)).map (·.2)
def putK (kvs:List (κ×V)) (k:κ) (v:V):List (κ×V):=
 if (kvs.any λkv=>decide (kv.1=k))=true then kvs.map (λkv=>if kv.1=k then (kv.1,v) else kv) else kvs++[(k,v)]
theorem nM {p:κ×V} {r:List (κ×V)} {k:κ} (e:p.1=k):o6 (p::r) k=some p.2:=by simp [o6,Rz,e]
theorem kA {p:κ×V} {r:List (κ×V)} {k:κ} (e:¬ p.1=k):o6 (p::r) k=o6 r k:=by simp [o6,Rz,e]
theorem nN (k:κ):∀ kvs:List (κ×V),(kvs.any λkv=>decide (kv.1=k))=(o6 kvs k).isSome
 | []=>rfl
 | p::r=>by
  rw [Sw];by_cases e:p.1=k
  ·simp only [nM e,Qj e,Bool.true_or,Option.isSome_some]
  ·rw [kA e,Ql e,Ug];exact nN k r
theorem iq (kvs:List (κ×V)) (k:κ) (v:V):(putK kvs k v).length<=kvs.length+1:=by
 unfold putK;split
 ·rw [Qa];omega
 ·rw [Qd,Qf,QJ];omega
theorem oY.jo {o:Option V} {u:Option Value} (r:oY o u):o.isSome=u.isSome:=by
 cases o with
 | none=>cases u with
  | none=>rfl
  | some _=>exact (show False from r).elim
 | some _=>cases u with
  | none=>exact (show False from r).elim
  | some _=>rfl
theorem oY.getD {o:Option V} {u:Option Value} {d:V} {d':Value} (r:oY o u) (rd:RelV d d'):RelV (o.getD d) (u.getD d'):=by
 cases o with
 | none=>cases u with
  | none=>exact rd
  | some _=>exact (show False from r).elim
 | some _=>cases u with
  | none=>exact (show False from r).elim
  | some _=>exact r
theorem KV.val {kvs:List (κ×V)} {vs:List (κ×Value)} (r:KV kvs vs) (k:κ):oY (o6 kvs k) (valueAt vs k):=by
 unfold KV at r
 induction r with
 | nil=>exact True.intro
 | @cons p q ps qs h t ih=>
  obtain ⟨h1,h2⟩:=h;by_cases e:p.1=k
  ·have e':q.1=k:=h1.symm.trans e;have b:valueAt (q::qs) k=some q.2:=by simp [valueAt,Rz,e']
   rw [nM e,b];exact h2
  ·have e':¬ q.1=k:=λz=>e (h1.trans z);have b:valueAt (q::qs) k=valueAt qs k:=by simp [valueAt,Rz,e']
   rw [kA e,b];exact ih
theorem KV.any {kvs:List (κ×V)} {vs:List (κ×Value)} (r:KV kvs vs) (k:κ):(kvs.any λkv=>decide (kv.1=k))=vs.any λkv=>decide (kv.1=k):=by
 unfold KV at r
 induction r with
 | nil=>rfl
 | cons h t ih=>rw [Sw,Sw,ih,h.1]
theorem KV.Jy {kvs:List (κ×V)} {vs:List (κ×Value)} (r:KV kvs vs) (k:κ) {y:V} {u:Value} (ry:RelV y u) :
  KV (kvs.map λkv=>if kv.1=k then (kv.1,y) else kv) (vs.map λkv=>if kv.1=k then (kv.1,u) else kv):=by
 unfold KV at r ⊢
 induction r with
 | nil=>exact .nil
 | @cons p q ps qs h t ih=>
  rw [Qn,Qn];refine .cons ?_ ih;obtain ⟨h1,h2⟩:=h;by_cases e:p.1=k
  ·rw [if_pos e,if_pos (h1.symm.trans e)];exact ⟨h1,ry⟩
  ·rw [if_neg e,if_neg (λz=>e (h1.trans z))];exact ⟨h1,h2⟩
theorem KV.put {kvs:List (κ×V)} {vs:List (κ×Value)} (r:KV kvs vs) (k:κ) {y:V} {u:Value} (ry:RelV y u):KV (putK kvs k y) (stored vs k u):=by
 unfold putK stored;rw [r.any k];by_cases e:(vs.any λkv=>decide (kv.1=k))=true
 ·rw [if_pos e,if_pos e];exact r.Jy k ry
 ·rw [if_neg e,if_neg e];exact Paired.snoc r ⟨rfl,ry⟩
theorem KV.length {kvs:List (κ×V)} {vs:List (κ×Value)} (r:KV kvs vs):kvs.length=vs.length:=Qr r
end
theorem pU {P:UA} {w:World} {k:Key} {u:Value} (r:RelV (kV k) u):(bD P w).is k u=true:=by
 cases k with
 | inl i=>obtain ⟨t,e⟩:=(show ∃ t,u=Value.int i t from r);subst e;exact xt P w i t
 | inr x=>obtain ⟨t,e⟩:=(show ∃ t,u=Value.str x t from r);subst e;exact xu P w x t
theorem uM {P:UA} {w:World}:∀ {ks:List Key} {us:Us},Vals (ks.map kV) us->ItemsAre (bD P w) ks us
 | [],_,r=>by rw [RM] at r;cases r;exact .nil
 | k::ks,_,r=>by
  rw [Qn] at r
  cases r with
  | cons h t=>exact .cons (pU h) (uM t)
abbrev KT (H:Hp):List (List Key×V)->List (List Key×Addr×Value)->Prop:=Paired λp q=>p.1=q.1/\H q.2.1=some (.tup (p.1.map kV))/\RelV p.2 q.2.2
theorem KT.val {H:Hp} {kvs:List (List Key×V)} {xs:List (List Key×Addr×Value)} (r:KT H kvs xs) (k:List Key):oY (o6 kvs k) ((atKey xs k).map (·.2)):=by
 induction r with
 | nil=>exact True.intro
 | @cons p q ps qs h t ih=>
  obtain ⟨h1,_,h2⟩:=h;by_cases e:p.1=k
  ·have e':q.1=k:=h1.symm.trans e;have b:atKey (q::qs) k=some q.2:=by simp [atKey,Rz,e']
   rw [nM e,b];exact h2
  ·have e':¬ q.1=k:=λz=>e (h1.trans z);have b:atKey (q::qs) k=atKey qs k:=by simp [atKey,Rz,e']
   rw [kA e,b];exact ih
theorem KT.Jy {H:Hp} {kvs:List (List Key×V)} {xs:List (List Key×Addr×Value)} (r:KT H kvs xs) (k:List Key) {y:V} {u:Value} (ry:RelV y u) :
  KT H (kvs.map λkv=>if kv.1=k then (kv.1,y) else kv) (xs.map (putAt k u)):=by
 induction r with
 | nil=>exact .nil
 | @cons p q ps qs h t ih=>
  rw [Qn,Qn];refine .cons ?_ ih;obtain ⟨h1,h2,h3⟩:=h;unfold putAt;by_cases e:p.1=k
  ·rw [if_pos e,if_pos (h1.symm.trans e)];exact ⟨h1,h2,ry⟩
  ·rw [if_neg e,if_neg (λz=>e (h1.trans z))];exact ⟨h1,h2,h3⟩
theorem KT.put {H:Hp} {kvs:List (List Key×V)} {xs:List (List Key×Addr×Value)} (r:KT H kvs xs) (k:List Key) {b:Addr} {y:V} {u:Value} (hb:H b=some (.tup (k.map kV))) (ry:RelV y u) :
  KT H (putK kvs k y) (storedH xs k b u):=by
 have e:(kvs.any λkv=>decide (kv.1=k))=(atKey xs k).isSome:=by rw [nN,(r.val k).jo,Ub]
 unfold putK storedH;rw [e];by_cases q:(atKey xs k).isSome=true
 ·rw [if_pos q,if_pos q];exact r.Jy k ry
 ·rw [if_neg q,if_neg q];exact Paired.snoc r ⟨rfl,hb,ry⟩
theorem KT.keeps {H H':Hp} {kvs:List (List Key×V)} {xs:List (List Key×Addr×Value)} (r:KT H kvs xs) (ht:∀ b ys,H b=some (.tup ys)->H' b=some (.tup ys)):KT H' kvs xs:=
 Paired.tV r λ_ _ z=>⟨z.1,ht _ _ z.2.1,z.2.2⟩
section
variable {P:UA} {w:World} {H:Hp} {h:Heap} {a:Addr}
theorem HY {u:HO} (ok:kq P w H h) (e:Rd H a u):cw P w H h a u:=e.ok ok
theorem uN {kvs:List (Key×V)} (ok:kq P w H h) (e:Rd H a (.dK kvs)):kvs.length<=sizeLine/\(a == sysModules)=false/\∃ vs,KV kvs vs/\h.DictOf (bD P w) a vs:=
 show cw P w H h a (.dK kvs) from HY ok e
theorem HZ {kvs:List (Key×V)} (ok:kq P w H h) (e:H a=some (.dK kvs)):kvs.length<=sizeLine/\(a == sysModules)=false/\∃ vs,KV kvs vs/\h.DictOf (bD P w) a vs:=uN ok (.inl e)
theorem o7 {ks:List Key} (ok:kq P w H h) (e:H a=some (.tup (ks.map kV))):(tupleKind (bD P w)).is h ks a:=by obtain ⟨_,its,r,o,h1,h2,n,h3⟩:=(show cw P w H h a (.tup (ks.map kV)) from ok a _ e);exact ⟨o,its.toArray,n,h1,h2,h3,by simpa using uM r⟩
theorem uO {kvs:List (List Key×V)} (ok:kq P w H h) (e:Rd H a (.dT kvs)):kvs.length<=sizeLine/\(a == sysModules)=false /\
  ∃ xs,KT H kvs xs/\h.DictOfH (tupleKind (bD P w)) a xs:=by
 obtain ⟨z,y,xs,r,o,es,ep,h1,h2,h3,h4,h5⟩:=(show cw P w H h a (.dT kvs) from HY ok e);refine ⟨z,y,xs,r,o,es,ep,h1,h2,h3,h4,λx hx=>?_,h5⟩
 have all:∀ {l:List (List Key×V)} {m:List (List Key×Addr×Value)},KT H l m->∀ x∈m,(tupleKind (bD P w)).is h x.1 x.2.1:=by
  intro l m q
  induction q with
  | nil=>intro x hx;exact nomatch hx
  | @cons p q ps qs hq t ih=>
   intro x hx;rcases PZ.mp hx with e | hx
   ·subst e;exact o7 ok (by rw [<- hq.1];exact hq.2.1)
   ·exact ih x hx
 exact all r x hx
theorem LP {kvs:List (List Key×V)} (ok:kq P w H h) (e:H a=some (.dT kvs)):kvs.length<=sizeLine/\(a == sysModules)=false /\
  ∃ xs,KT H kvs xs/\h.DictOfH (tupleKind (bD P w)) a xs:=uO ok (.inl e)
end
def uc (H:Hp) (a:Addr) (y:V) (r:Option V):Prop:=
 (∃ kvs k,Rd H a (.dK kvs)/\y=kV k/\r=o6 kvs k)\/∃ kvs k b,Rd H a (.dT kvs)/\y=.ref b/\H b=some (.tup (k.map kV))/\r=o6 kvs k
noncomputable def Gu (H:Hp) (a:Addr) (y v:V) (H':Hp):Prop:=
 (∃ kvs k,H a=some (.dK kvs)/\y=kV k/\kvs.length < sizeLine/\H'=upd H a (.dK (putK kvs k v))) \/
 ∃ kvs k b,H a=some (.dT kvs)/\y=.ref b/\H b=some (.tup (k.map kV))/\kvs.length < sizeLine/\H'=upd H a (.dT (putK kvs k v))
theorem uc.k {H:Hp} {a:Addr} {kvs:List (Key×V)} {k:Key} (e:H a=some (.dK kvs)):uc H a (kV k) (o6 kvs k):=.inl ⟨kvs,k,.inl e,rfl,rfl⟩
theorem Gu.k {H:Hp} {a:Addr} {kvs:List (Key×V)} {k:Key} {v:V} (e:H a=some (.dK kvs)) (hl:kvs.length < sizeLine):Gu H a (kV k) v (upd H a (.dK (putK kvs k v))):=.inl ⟨kvs,k,e,rfl,hl,rfl⟩
section
variable {X:Cx} {pins:Uk} {σ:St} {H:Hp} {s:UD} {a:Addr} {y v:V} {u r:Value} {o:Option V} {A:UC} {E:Uj}
theorem Inv.big (I:Inv X pins σ H s):sysModules < s.heap.objs.size:=by have h:mainGlobals < s.heap.objs.size:=(I.mod.glob.keeps I.bk).lt;exact Nat.lt_trans (by decide) h
theorem Cb {Q:Uj} (hu:A.units+1 < cLine) (I:Inv X pins σ H s) (g:uc H a y (some v)) (ry:RelV y u) (h:∀ w' s',Inv X pins σ H s'->RelV v w'->Q w' s') :
  wpAny (model X.prog X.w) A (getItem (.ref a) u) Q E s:=by
 rcases g with ⟨kvs,k,e,ey,l⟩ | ⟨kvs,k,b,e,ey,eb,l⟩
 ·subst ey;obtain ⟨z,hd,vs,rel,dd⟩:=uN I.hok e;obtain ⟨w',hw,rw'⟩:=oY.some_of (v:=v) (o:=valueAt vs k) (by rw [l];exact rel.val k);exact wpAny_getItem_of (pU ry) dd.mapOf hw (h w' _ (I.tok _) rw')
 ·subst ey;cases (show u=Value.ref b from ry);obtain ⟨z,hd,xs,rel,dd⟩:=uO I.hok e;obtain ⟨w',hw,rw'⟩:=oY.some_of (v:=v) (o:=(atKey xs k).map (·.2)) (by rw [l];exact rel.val k);obtain ⟨p,hp,hp2⟩:=QF.mp hw;refine wpAny_getItem_heap (Sj hu) (o7 I.hok eb) dd hp ?_;rw [hp2];exact h w' _ (I.tok _) rw'
theorem NR {Q:Uj} (hu:A.units+1 < cLine) (I:Inv X pins σ H s) (g:uc H a y o) (ry:RelV y u) (h:∀ s',Inv X pins σ H s'->Q (.bool o.isSome) s') :
  wpAny (model X.prog X.w) A (compareOp .In u (.ref a)) Q E s:=by
 rcases g with ⟨kvs,k,e,ey,l⟩ | ⟨kvs,k,b,e,ey,eb,l⟩
 ·subst ey;obtain ⟨z,hd,vs,rel,dd⟩:=uN I.hok e;refine wpAny_in_of (pU ry) hd dd.mapOf ?_;rw [<- (rel.val k).jo,<- l];exact h _ (I.tok _)
 ·subst ey;cases (show u=Value.ref b from ry);obtain ⟨z,hd,xs,rel,dd⟩:=uO I.hok e;refine wpAny_in_heap (Sj hu) (o7 I.hok eb) hd dd ?_;have q:=(rel.val k).jo;rw [Ub] at q;rw [<- q,<- l];exact h _ (I.tok _)
theorem Gv {Q:Uj} (hu:A.units+1 < cLine) (I:Inv X pins σ H s) (g:uc H a y o) (ry:RelV y u) (h:∀ s',Inv X pins σ H s'->Q (.bool (!o.isSome)) s') :
  wpAny (model X.prog X.w) A (compareOp .NotIn u (.ref a)) Q E s:=by
 rcases g with ⟨kvs,k,e,ey,l⟩ | ⟨kvs,k,b,e,ey,eb,l⟩
 ·subst ey;obtain ⟨z,hd,vs,rel,dd⟩:=uN I.hok e;refine wpAny_notIn_of (pU ry) hd dd.mapOf ?_;rw [<- (rel.val k).jo,<- l];exact h _ (I.tok _)
 ·subst ey;cases (show u=Value.ref b from ry);obtain ⟨z,hd,xs,rel,dd⟩:=uO I.hok e;refine wpAny_notIn_heap (Sj hu) (o7 I.hok eb) hd dd ?_;have q:=(rel.val k).jo;rw [Ub] at q;rw [<- q,<- l];exact h _ (I.tok _)
theorem qO {h':Heap} {t':Nat} {ob:HO} (I:Inv X pins σ H s) (mu:K4 (H a)) (hs:Heap.SameBut a s.heap h') (he:∃ q,h'.get? a=some q) (new:cw X.prog X.w (upd H a ob) h' a ob) :
  Inv X pins σ (upd H a ob) {s with heap:=h',toks:=t'}:=
 I.write (x:=a) (e:=a) mu (.inl rfl) (λb q hb z=>(hs.2 b hb).trans z) he new
theorem vV {P:UA} {w:World} {H':Hp} {h':Heap} {kvs:List (Key×V)} {vs:List (Key×Value)} (z:kvs.length<=sizeLine) (hd:(a == sysModules)=false) (rel:KV kvs vs) (dd:h'.DictOf (bD P w) a vs) :
  cw P w H' h' a (.dK kvs):=⟨z,hd,vs,rel,dd⟩
theorem Cc {H':Hp} {Q:Unit->UD->Prop} (hu:A.units+1 < cLine) (I:Inv X pins σ H s) (g:Gu H a y v H') (ry:RelV y u) (rv:RelV v r) (h:∀ s',Inv X pins σ H' s'->Q () s') :
  wpAny (model X.prog X.w) A (setItem (.ref a) u r) Q E s:=by
 rcases g with ⟨kvs,k,e,ey,l,eH⟩ | ⟨kvs,k,b,e,ey,eb,l,eH⟩
 ·subst ey eH;obtain ⟨z,hd,vs,rel,dd⟩:=HZ I.hok e;have hz:vs.length<=sizeLine:=by rw [<- rel.length];exact z
  have hl:(putK kvs k v).length<=sizeLine:=by have:=iq kvs k v;omega
  refine wpAny_setItem_pairs (hsz:=hz) (pU ry) dd λh' dd' hs=>h _ ?_;have he:∃ q,h'.get? a=some q:=let ⟨q,_,_,hq,_⟩:=dd';⟨q,hq⟩;exact qO I (by rw [e];exact True.intro) hs he (vV hl hd (rel.put k rv) dd')
 ·subst ey eH;cases (show u=Value.ref b from ry);obtain ⟨z,hd,xs,rel,dd⟩:=LP I.hok e;have hz:xs.length<=sizeLine:=by rw [<- Qr rel];exact z
  have hl:(putK kvs k v).length<=sizeLine:=by have:=iq kvs k v;omega
  refine wpAny_setItem_heap (hsz:=hz) (Sj hu) (o7 I.hok eb) dd λh' dd' hs=>h _ ?_;obtain ⟨q,es,ep,hq,h2,h3,h4,_,h5⟩:=dd';refine qO I (by rw [e];exact True.intro) hs ⟨q,hq⟩ ⟨hl,hd,_,(rel.put k eb rv).keeps λc ys ec=>?_,q,es,ep,hq,h2,h3,h4,h5⟩;rw [ay (Lm ec e (λz=>nomatch z))];exact ec
end
def Jz (i:Expr):Prop:=∀ ov iv,subscripted i false ov iv=operate [ov,iv] (getItem ov iv)
theorem Gw {prog:UA} {w:World} {A:UC} {E:Uj} {s:UD} {env:Env} {value slice:Expr} {pos:Pos} {T id:String} {Q:Uj}
  (hl:typeLookup (.type T) "__getitem__" = pure (some (.builtin id))) (hs:Jz slice)
  (h:wpAny (model prog w) A (eval value env) (λo s₁=>wpAny (model prog w) A (eval slice env) (λi s₂=>s₂.TypeIs o T/\wpAny (model prog w) A (getItem o i) Q E s₂) E s₁) E s) :
  wpAny (model prog w) A (eval (.Subscript value slice pos) env) Q E s:=by
 refine Subscript_ (Q7 h (λo s₁ h₁=>Q7 h₁ (λi s₂ h₂=>?_) λ_ _ x=>x) λ_ _ x=>x);obtain ⟨hT,h₂⟩:=h₂;unfold subscriptTail;refine PQ ?_;rw [getitemInPython_of_ne hT.not_modules];refine PQ (So hT hl ?_);have fin:wpAny (model prog w) A (subscripted slice false o i) (λr s₃=>wpAny (model prog w) A (letTemporaryGo value o r >>= λ_=>pure r) Q E s₃) E s₂:=by rw [hs o i];exact wpAny_operating (Q7 h₂ (λr s₃ h₃=>PQ (wpAny_letTemporaryGo (PU h₃))) λ_ _ x=>x)
 first
  | exact PU (PQ fin)
  | exact PQ (PU (PQ fin))
  | exact PQ fin
theorem xG {P:UA} {w:World} {H:Hp} (h:Heap) (hb:sysModules < h.objs.size):cw P w H (h.push {cls:=.type "dict",data:=.dict #[]}) h.objs.size (.dK []):=
 ⟨Rf _,Rk.mpr (SV (Qh hb)),[],.nil,Heap.DictOf.new h⟩
def JA:TE:=λ_ H Q=>∀ p,H p=none->Q (.ref p) (upd H p (.dK []))
section
variable {X:Cx} {pos:Pos}
theorem Dw:PE X (.Dict [] [] pos) JA:=λpins s σ H Q I h=>
 wpAny_Dict_empty ⟨.ref s.heap.objs.size,_,I.laid (a:=s.heap.objs.size) (o:=.dK []) (t':=s.toks) (λ_ _ q=>PR _ q) (PY _) (xG s.heap I.big),rfl,h _ (I.hok.fresh (PY _))⟩
end
def zx:List (TE×TE)->St->Hp->(List (V×V)->Hp->Prop)->Prop
 | [],_,H,Q=>Q [] H
 | (tk,tv)::r,σ,H,Q=>tk σ H λx H1=>tv σ H1 λy H2=>zx r σ H2 λps H3=>Q ((x,y)::ps) H3
abbrev VV:List (V×V)->List (Value×Value)->Prop:=Paired λp q=>RelV p.1 q.1/\RelV p.2 q.2
noncomputable def MC (X:Cx) (pos:Pos) (keys:List (Option Expr)) (values:Uv) (vW:List (TE×TE)):Prop:=
 ∀ (pins:Uk) (s:UD) (σ:St) (H:Hp) (Q:List (V×V)->Hp->Prop),Inv X pins σ H s->zx vW σ H Q ->
  wpAny (model X.prog X.w) X.A (evalPairs (pairTrees keys values X.env pos)) (λvs s'=>∃ ps H',Inv X pins σ H' s'/\VV ps vs/\Q ps H') X.xe s
theorem Gy {X:Cx} {pos:Pos}:MC X pos [] [] []:=λpins s σ H Q I h=>pairTrees_nil_walk ⟨[],H,I,.nil,h⟩
theorem Dx {X:Cx} {pos:Pos} {k v:Expr} {ks:List (Option Expr)} {vs:Uv} {tk tv:TE} {vW:List (TE×TE)} (hk:PE X k tk) (hv:PE X v tv) (hr:MC X pos ks vs vW) :
  MC X pos (some k::ks) (v::vs) ((tk,tv)::vW):=λpins s σ H Q I h=>
 pairTrees_cons_walk (bq (hk pins s σ H _ I h) λu s1 ⟨x,H1,I1,rx,q1⟩=>bq (hv pins s1 σ H1 _ I1 q1) λw2 s2 ⟨y,H2,I2,ry,q2⟩=>
  bq (hr pins s2 σ H2 _ I2 q2) λws s3 ⟨ps,H3,I3,rel,q3⟩=>⟨(x,y)::ps,H3,I3,.cons ⟨rx,ry⟩ rel,q3⟩)
def iZ (kvs more:List (Key×V)):List (Key×V):=more.foldl (λacc kv=>putK acc kv.1 kv.2) kvs
theorem KV.merge:∀ {more:List (Key×V)} {rs:List (Key×Value)} {kvs:List (Key×V)} {vs:List (Key×Value)},KV more rs->KV kvs vs->KV (iZ kvs more) (merged vs rs):=by
 intro more rs kvs vs r;unfold KV at r
 induction r generalizing kvs vs with
 | nil=>intro q;exact q
 | @cons p q ps qs h t ih=>
  intro r0;have e:KV (putK kvs p.1 p.2) (stored vs q.1 q.2):=by have:=r0.put p.1 h.2;rw [<- h.1];exact this
  exact ih e
theorem i6:∀ (more kvs:List (Key×V)),(iZ kvs more).length<=kvs.length+more.length
 | [],kvs=>by show kvs.length<=kvs.length+0;omega
 | p::r,kvs=>by have h1:=i6 r (putK kvs p.1 p.2);have h2:=iq kvs p.1 p.2;show (iZ (putK kvs p.1 p.2) r).length<=_;rw [Qf];omega
theorem mV {P:UA} {w:World}:∀ {kvs:List (Key×V)} {ws:List (Value×Value)},VV (kvs.map λkv=>(kV kv.1,kv.2)) ws->∃ rs,Carries (bD P w) ws rs/\KV kvs rs
 | [],_,r=>by rw [RM] at r;cases r;exact ⟨[],True.intro,.nil⟩
 | p::kvs,_,r=>by
  rw [Qn] at r
  cases r with
  | @cons a b as bs h t=>obtain ⟨rs,c,q⟩:=mV (P:=P) (w:=w) t;obtain ⟨b1,b2⟩:=b;exact ⟨(p.1,b2)::rs,⟨pU h.1,rfl,c⟩,.cons ⟨rfl,h.2⟩ q⟩
def LQ (vW:List (TE×TE)):TE:=λσ H Q=>∀ p,H p=none->zx vW σ (upd H p (.dK [])) λps H2=>H2 p=some (.dK [])/\∃ kvs:List (Key×V),ps=kvs.map (λkv=>(kV kv.1,kv.2))/\kvs.length<=15/\Q (.ref p) (upd H2 p (.dK (iZ [] kvs)))
theorem Gz {X:Cx} {pos:Pos} {keys:List (Option Expr)} {values:Uv} {vW:List (TE×TE)} (h:MC X pos keys values vW) (hall:keys.all (·.isSome)=true) (hl:keys.length=values.length) (h0:keys≠[])
  (h15:keys.length<=15):PE X (.Dict keys values pos) (LQ vW):=by
 intro pins s σ H Q I q;have hn:=I.hok.fresh (PY s.heap.objs.size);have I1:=I.laid (a:=s.heap.objs.size) (o:=.dK []) (h':=s.heap.push {cls:=.type "dict",data:=.dict #[]}) (t':=s.toks) (λ_ _ q=>PR _ q) (PY _) (xG s.heap I.big);refine wpAny_Dict_walk (knd:=bD X.prog X.w) hall hl h0 h15 (bq (h pins _ σ _ _ I1 (q _ hn)) λws s2 ⟨ps,H2,I2,rel,e,kvs,ep,lk,q2⟩=>?_);subst ep;obtain ⟨rs,c,rk⟩:=mV (P:=X.prog) (w:=X.w) rel;obtain ⟨z,hd,vs0,r0,dd⟩:=HZ I2.hok e;cases r0;refine ⟨rs,c,dd,λh' dd' hs=>⟨.ref s.heap.objs.size,_,?_,rfl,q2⟩⟩;have hz:(iZ [] kvs).length<=sizeLine:=by have h1:=i6 kvs [];rw [QJ] at h1;rw [Ro];omega
 have he:∃ q,h'.get? s.heap.objs.size=some q:=let ⟨q,_,_,hq,_⟩:=dd';⟨q,hq⟩;exact qO I2 (by rw [e];exact True.intro) hs he (vV hz hd (rk.merge .nil) dd')
structure M2 (X:Cx) (o:Expr) (m:Str) (apos:Pos) (e f:Expr) (cpos:Pos):Prop where
 base:attributeBase o m X.env (eval o X.env)=eval o X.env
 few:((backTo cpos (starEach [e,f] X.env)).all (λx=>!x.1) && (backToKw cpos (keywordEach [] X.env)).all (λx=>x.1.isSome)
  && decide (([e,f]:Uv).length+([]:List Keyword).length+(if ([]:List Keyword).isEmpty then 0 else 1) < 30))=true
 line:(apos.endLine == cpos.line)=true
 trees:backTo cpos (starEach [e,f] X.env)=[(false,eval e X.env),(false,eval f X.env)]
def OT (H:Hp) (a:Addr):Prop:=(∃ kvs,Rd H a (.dK kvs))\/∃ kvs,Rd H a (.dT kvs)
theorem JB {X:Cx} {pins:Uk} {σ:St} {H:Hp} {s:UD} {a:Addr} (I:Inv X pins σ H s) (d:OT H a) :
  s.TypeIs (.ref a) "dict" /\ (∀ b,Value.ref a=.ref b->∃ ob,s.heap.get? b=some ob/\ob.dict=none)/\(a == sysModules)=false:=by
 rcases d with ⟨kvs,e⟩ | ⟨kvs,e⟩
 ·obtain ⟨_,hd,vs,_,dd⟩:=uN I.hok e;refine ⟨dd.typeIs,λb q=>?_,hd⟩;cases q;obtain ⟨ob,_,_,h1,h2,_⟩:=dd;exact ⟨ob,h1,h2.2.1⟩
 ·obtain ⟨_,hd,xs,_,dd⟩:=uO I.hok e;refine ⟨dd.typeIs,λb q=>?_,hd⟩;cases q;obtain ⟨ob,_,_,h1,h2,_⟩:=dd;exact ⟨ob,h1,h2.2.1⟩
section
variable {X:Cx} {pins:Uk} {σ:St} {H:Hp} {s:UD} {a:Addr} {y d:V} {u r:Value} {o:Option V} {A:UC} {E:Uj}
theorem JC {Q:Uj} (hu:A.units+1 < cLine) (I:Inv X pins σ H s) (g:uc H a y o) (ry:RelV y u) (rd:RelV d r) (h:∀ w' s',Inv X pins σ H s'->RelV (o.getD d) w'->Q w' s') :
  wpAny (model X.prog X.w) A (call (.builtin "dict.get") [.ref a,u,r]) Q E s:=by
 rcases g with ⟨kvs,k,e,ey,l⟩ | ⟨kvs,k,b,e,ey,eb,l⟩
 ·subst ey;obtain ⟨z,hd,vs,rel,dd⟩:=uN I.hok e;refine call_meetsIn Tp dd.typeIs PySem.F.entry_dict_get (PySem.F.args_dict_get_3 _ _ _) (meets_dict_get_default (bD X.prog X.w) a (pU ry) hd r) ⟨_,dd.mapOf,h _ _ (I.tok _) ?_⟩;rw [l];exact (rel.val k).getD rd
 ·subst ey;cases (show u=Value.ref b from ry);obtain ⟨z,hd,xs,rel,dd⟩:=uO I.hok e;refine call_meetsIn Tp dd.typeIs PySem.F.entry_dict_get (PySem.F.args_dict_get_3 _ _ _) (meetsH_dict_get_default (tupleKind (bD X.prog X.w)) a b hd r) ⟨Sj hu,k,xs,o7 I.hok eb,dd,h _ _ (I.tok _) ?_⟩;rw [l];exact (rel.val k).getD rd
end
def JD (td ty tx:TE):TE:=λσ H Q=>td σ H λx H1=>∃ a,x=.ref a/\OT H1 a/\ty σ H1 λy H2=>tx σ H2 λz H3=>∃ o,uc H3 a y o/\Q (o.getD z) H3
section
variable {X:Cx} {o e f:Expr} {apos cpos:Pos} {td ty tx:TE}
theorem Dy (hu:X.A.units+1 < cLine) (ho:PE X o td) (he:PE X e ty) (hf:PE X f tx) (m:M2 X o "get" apos e f cpos):PE X (.Call (.Attribute o "get" apos) [e,f] [] cpos) (JD td ty tx):=by
 intro pins s σ H Q I h;refine wpAny_Call_method m.base m.few m.line PySem.F.plainAttrs_dict Tp PySem.F.type_dict_get (bq (ho pins s σ H _ I h) λu s1 ⟨x,H1,I1,rx,a,ex,d,q1⟩=>?_);subst ex;obtain rfl:u=Value.ref a:=rx;obtain ⟨t1,t2,_⟩:=JB I1 d;refine ⟨t1,t2,?_⟩;rw [m.trees]
 refine Calls.callWith_builtin rfl (Calls.evalArgs_plain (Si (bq (he pins s1 σ H1 _ I1 q1) λiv s2 ⟨y,H2,I2,ry,q2⟩=>
  Si (bq (hf pins s2 σ H2 _ I2 q2) λfv s3 ⟨z,H3,I3,rz,ov,g,q3⟩=>Ta ?_))))
 exact JC hu I3 g ry rz λw' s4 I4 rw'=>⟨_,H3,I4,rw',q3⟩
end
theorem rD {P:UA} {w:World} {K:Ut} {tg:Expr} {it:Addr} {n:Nat} {Pv:Nat->Value->Prop} {St:Nat->Heap->Prop} {f:Nat->V} (W:∀ A:UC,A.handled=none->Walks P w A it [it] [it] n Pv St)
  (ob:∀ i h,St i h->∃ (o:Obj) (m:String) (vs:Uy),h.get? it=some o/\o.cls=.type m/\o.data=.fields vs/\["enumerate", "zip", "dict_itemiterator", "dict_reverseitemiterator", "odict_iterator", "itertools.zip_longest", "itertools.pairwise"].contains m=false)
  (rel:∀ i v,i < n->Pv i v->RelV (f i) v) (sf:∀ (A:UC) (i:Nat) (s:UD) (Q:Uj) (E:Uj),St i s.heap->Q (.ref it) s->wpAny (model P w) A (pyIter (.ref it)) Q E s):Turn P w K tg ⟨λi _=>i < n,λi H x H'=>H'=H/\x=f i,λi _=>i=n⟩ [it] it St where
 mem:=by simp
 obj:=λi h st b hb=>by
  have e:b=it:=by simpa using hb
  subst e;obtain ⟨o,m,vs,e,_,d,_⟩:=ob i h st;exact ⟨o,e,λv z=>by rw [d] at z;cases z⟩
 keep:=λi h h' st k=>(W {handled:=none,depth:=0,frames:=none,guards:=none,units:=0} rfl).frame i h h' st λb hb o e=>k b hb o e
 item:=by intro X hP hw hK hc i pins s σ H E I hf st hg;subst hP hw hK;obtain ⟨f0,f1,f2,f3,f4,f5⟩:=hf it (by simp);refine (W X.A (I.ok.hd hc)).item i s _ _ hg st λv h' tk hv st' kk=>?_;have I1:Inv X pins σ H {s with heap:=h',toks:=tk}:=I.turned (λb o hb e=>kk b o (by simpa using hb) e) f0 f1 f3 f4 f5;obtain ⟨o,m,vs,e,c,d,nm⟩:=ob _ _ st';exact ⟨v,rfl,AA (s:={s with heap:=h',toks:=tk}) e c d nm ⟨f i,H,I1,rel i v hg hv,⟨rfl,rfl⟩,st',λb hb=>(hf b hb).1⟩⟩
 done:=by intro X hP hw hK hc i pins s σ H E I hf st hg;subst hP hw hK;obtain ⟨f0,f1,f2,f3,f4,f5⟩:=hf it (by simp);have hg':i=n:=hg;subst hg';exact (W X.A (I.ok.hd hc)).done s _ _ st λh' tk kk=>⟨rfl,I.turned (λb o hb e=>kk b o (by simpa using hb) e) f0 f1 f3 f4 f5⟩
 self:=sf
def sgn (x:Str) (i:Nat):V:=.str ⟨#[x.cps.getD i 0]⟩
def NS (x:Str):It:=⟨λi _=>i < x.cps.size,λi H v H'=>H'=H/\v=sgn x i,λi _=>i=x.cps.size⟩
theorem vX {x:Str} (i:Nat) (v:Value) (hi:i < x.cps.size) (h:SignAt x i v):RelV (sgn x i) v:=by
 obtain ⟨c,u,e,rfl⟩:=h;refine ⟨u,?_⟩;have:x.cps.getD i 0=c:=by rw [Qx,e];rfl
 rw [this]
section
variable {X:Cx} {tg:Expr}
def NT (tl:TE):TI:=λσ H R=>tl σ H λv H1=>∃ x,v=.str x/\R (NS x) H1
theorem JE {l:Expr} {tl:TE} (hl:PE X l tl):PI X tg l (NT tl):=by
 intro pins s σ H R I h;refine bq (hl pins s σ H _ I h) λv s1 ⟨x,H1,I1,r1,q1⟩=>?_;obtain ⟨x,e,q⟩:=q1;subst e;obtain ⟨t,rfl⟩:=r1
 have fp:∀ b∈[s1.heap.objs.size],gN X pins H1 b:=λb hb=>by
  have e:b=s1.heap.objs.size:=by simpa using hb
  subst e;exact I1.BX (PY _) (I1.hok.fresh (PY _))
 cases ha:x.cps.all (· < 128) with
 | false=>
  refine wpAny_pyIter_wide ha ?_
  refine ⟨s1.heap.objs.size,[s1.heap.objs.size],_,NS x,H1,rfl,I1.kept (t':=s1.toks) λb o e=>PR _ e,
   rD (λA hA=>Walks.strWide hA _ x t) (λi h ⟨o,e,c,d⟩=>⟨o,_,_,e,c,d,by decide⟩) vX λA i s Q E st h=>wpAny_pyIter_striter_wide st h,⟨_,P4 _ rfl,rfl,rfl⟩,fp,q⟩
 | true=>
  refine wpAny_pyIter_ascii ha ?_
  refine ⟨s1.heap.objs.size,[s1.heap.objs.size],_,NS x,H1,rfl,I1.kept (t':=s1.toks) λb o e=>PR _ e,
   rD (λA hA=>Walks.strAscii hA _ x t) (λi h ⟨o,e,c,d⟩=>⟨o,_,_,e,c,d,by decide⟩) vX λA i s Q E st h=>wpAny_pyIter_striter_ascii st h,⟨_,P4 _ rfl,rfl,rfl⟩,fp,q⟩
end
section
variable {X:Cx}
theorem all_range (bs:List Bool):((List.range bs.length).all λi=>(bs[i]?).getD true)=bs.all id:=by
 rw [Q3];simp only [Qc,QO,id];constructor
 ·intro h b hb;obtain ⟨i,hi,rfl⟩:=RX.mp hb;simpa [hi] using h i hi
 ·intro h i hi;simp only [hi,P9,Tx];exact h _ (Uh hi)
theorem Dz (hc:X.calm=true):dz X (.builtin "all") (λxs H Q=>∃ (l:Addr) (bs:List Bool),xs=[.ref l]/\jk X.K H l (bs.map V.bl)/\Q (.bl (bs.all id)) H):=by
 intro pins s σ H vs us Q I r h;obtain ⟨l,bs,rfl,hq,q⟩:=h
 cases r with
 | cons r rr=>
  cases rr;cases r;obtain ⟨its,rv,p,_⟩:=I.list hq;have pl:=p.isList;have hlt:l < s.heap.objs.size:=by obtain ⟨_,e,_⟩:=pl;exact P1 e
  refine call_all_walk (wpAny_pyIter_list pl ?_);refine ⟨s.heap.objs.size,[s.heap.objs.size,l],[s.heap.objs.size],its.toArray.size,_,_,λi=>(bs[i]?).getD true,rfl,Walks.list (A:=X.A.in1) (I.ok.hd hc) _ l (Qh hlt) its.toArray,⟨⟨_,P4 _ rfl,rfl,rfl⟩,pl.push _⟩,λi v s' Q' E' hP hQ=>?_,λh' tk hk=>?_⟩
  ·have hP':its[i]?=some v:=by simpa using hP
   have hi:i < (bs.map V.bl).length:=by rw [rv.length];exact (Qi.mp hP').1
   obtain ⟨u,hu,ru⟩:=rv.get (i:=i) (x:=(bs.map V.bl)[i]) (by simp [hi]);rw [hP'] at hu;cases hu;rw [Qa] at hi;simp only [List.getElem_map] at ru;obtain rfl:v=Value.bool bs[i]:=ru;have hQ':=hQ;simp only [hi,P9,Tx] at hQ';exact Rm hQ'
  ·have e:((List.range its.toArray.size).all λi=>(bs[i]?).getD true)=bs.all id:=by
    rw [P7,<- rv.length,Qa];exact all_range bs
   rw [e];exact ⟨.bl _,H,I.kept λb o e=>hk b o (λhm=>by rw [Qm.mp hm] at e;exact Qk _ (P1 e)) (PR _ e),rfl,q⟩
theorem Cd:ik X (compareOp .LtE) (λx y H Q=>∃ i j,x=.str i/\y=.str j/\Q (.bl (!decide (j.cps.toList < i.cps.toList))) H):=by intro pins s σ H x y v u Q I rx ry h;obtain ⟨i,j,rfl,rfl,q⟩:=h;obtain ⟨t,rfl⟩:=rx;obtain ⟨t',rfl⟩:=ry;exact P.le_str ⟨.bl _,H,I,rfl,q⟩
end
def fN:V->Option PyData
 | .non=>some .none
 | .bl b=>some (.bool b)
 | .int i=>some (.int i)
 | .str x=>some (.str x)
 | _=>none
def ud:Key->PyData
 | .inl i=>.int i
 | .inr x=>.str x
def aR:List (Key×V)->Option (Ul)
 | []=>some []
 | (k,v)::r=>match fN v,aR r with
  | some d,some ds=>some ((ud k,d)::ds)
  | _,_=>none
mutual
def Rep (H:Hp):PyData->V->Prop
 | .none,v=>v=.non
 | .bool b,v=>v=.bl b
 | .int i,v=>v=.int i
 | .str x,v=>v=.str x
 | .tuple ds,v=>∃ a vs,v=.ref a/\H a=some (.tup vs)/\bc H ds vs
 | .list ds,v=>∃ a vs,v=.ref a/\H a=some (.lst vs)/\bc H ds vs
 | .dict kvs,v=>∃ a ks,v=.ref a/\H a=some (.dK ks)/\aR ks=some kvs
def bc (H:Hp):Uq->List V->Prop
 | [],vs=>vs=[]
 | d::ds,vs=>∃ w ws,vs=w::ws/\Rep H d w/\bc H ds ws
end
mutual
theorem Rep.same {H H':Hp} (s:bx H H'):∀ {d:PyData} {v:V},Rep H d v->Rep H' d v
 | .none,_,h=>h
 | .bool _,_,h=>h
 | .int _,_,h=>h
 | .str _,_,h=>h
 | .tuple ds,_,⟨a,vs,e,h,r⟩=>⟨a,vs,e,s _ _ h,bc.same s r⟩
 | .list ds,_,⟨a,vs,e,h,r⟩=>⟨a,vs,e,s _ _ h,bc.same s r⟩
 | .dict _,_,⟨a,ks,e,h,r⟩=>⟨a,ks,e,s _ _ h,r⟩
theorem bc.same {H H':Hp} (s:bx H H'):∀ {ds:Uq} {vs:List V},bc H ds vs->bc H' ds vs
 | [],_,h=>h
 | _::_,_,⟨w,ws,e,h,r⟩=>⟨w,ws,e,Rep.same s h,bc.same s r⟩
end
theorem bc.length {H:Hp}:∀ {ds:Uq} {vs:List V},bc H ds vs->vs.length=ds.length
 | [],_,h=>by cases h;rfl
 | _::ds,_,⟨w,ws,e,_,r⟩=>by rw [e,Qf,Qf,bc.length r]
theorem bc.get {H:Hp}:∀ {ds:Uq} {vs:List V} {i:Nat} {v:V},bc H ds vs->vs[i]?=some v->∃ d,ds[i]?=some d/\Rep H d v
 | [],_,i,v,h,e=>by cases h;simp at e
 | d::ds,_,0,v,⟨w,ws,e0,h,r⟩,e=>by subst e0;simp at e;subst e;exact ⟨d,rfl,h⟩
 | d::ds,_,i+1,v,⟨w,ws,e0,h,r⟩,e=>by subst e0;obtain ⟨u,e1,e2⟩:=bc.get (i:=i) r (by simpa using e);exact ⟨u,by simpa using e1,e2⟩
theorem bc.get' {H:Hp}:∀ {ds:Uq} {vs:List V} {i:Nat} {d:PyData},bc H ds vs->ds[i]?=some d->∃ v,vs[i]?=some v/\Rep H d v
 | [],_,i,v,h,e=>by simp at e
 | d::ds,_,0,v,⟨w,ws,e0,h,r⟩,e=>by subst e0;simp at e;subst e;exact ⟨w,rfl,h⟩
 | d::ds,_,i+1,v,⟨w,ws,e0,h,r⟩,e=>by subst e0;obtain ⟨u,e1,e2⟩:=bc.get' (i:=i) r (by simpa using e);exact ⟨u,by simpa using e1,e2⟩
theorem bc.append {H:Hp}:∀ {ds es:Uq} {vs us:List V},bc H ds vs->bc H es us->bc H (ds++es) (vs++us)
 | [],_,_,_,h,r=>by cases h;exact r
 | d::ds,_,_,_,⟨w,ws,e,h,q⟩,r=>by subst e;exact ⟨w,_,rfl,h,bc.append q r⟩
theorem bc.nil {H:Hp}:bc H [] []:=rfl
theorem bc.cons {H:Hp} {d:PyData} {ds:Uq} {v:V} {vs:List V} (h:Rep H d v) (r:bc H ds vs):bc H (d::ds) (v::vs):=⟨v,vs,rfl,h,r⟩
theorem bc.one {H:Hp} {d:PyData} {v:V} (h:Rep H d v):bc H [d] [v]:=.cons h .nil
theorem bc.take {H:Hp}:∀ {ds:Uq} {vs:List V} (n:Nat),bc H ds vs->bc H (ds.take n) (vs.take n)
 | [],_,n,h=>by cases h;simp [bc]
 | d::ds,_,0,⟨w,ws,e,h,r⟩=>by subst e;exact rfl
 | d::ds,_,n+1,⟨w,ws,e,h,r⟩=>by subst e;exact .cons h (bc.take n r)
theorem bc.drop {H:Hp}:∀ {ds:Uq} {vs:List V} (n:Nat),bc H ds vs->bc H (ds.drop n) (vs.drop n)
 | [],_,n,h=>by cases h;simp [bc]
 | d::ds,_,0,h=>h
 | d::ds,_,n+1,⟨w,ws,e,h,r⟩=>by subst e;exact bc.drop n r
theorem zy {h:Heap} {v:V} {u:Value} {d:PyData} (e:fN v=some d) (r:RelV v u):Reads h u d []:=by
 cases v with
 | non=>cases e;cases r;exact .none
 | bl b=>cases e;cases r;exact .bool b
 | int i=>cases e;obtain ⟨t,rfl⟩:=r;exact .int i t
 | str x=>cases e;obtain ⟨t,rfl⟩:=r;exact .str x t
 | _=>cases e
theorem Ce {h:Heap} {k:Key} {u:Value} (e:q0 k u=true):Reads h u (ud k) []:=by
 rcases cv e with ⟨i,t,rfl,rfl⟩ | ⟨x,t,rfl,rfl⟩
 ·exact .int i t
 ·exact .str x t
theorem kB {P:UA} {w:World} {h:Heap}:∀ {ks:List (Key×V)} {vs:List (Key×Value)} {es:List DictEntry} {kvs:Ul},aR ks=some kvs->KV ks vs->Pairs (bD P w) es vs ->
  ReadsAll h (es.map (·.key)) (kvs.map (·.1)) []/\ReadsAll h (es.map (·.val)) (kvs.map (·.2)) []
 | [],_,es,kvs,e,r,p=>by
  cases e;cases r
  cases es with
  | nil=>exact ⟨.nil,.nil⟩
  | cons _ _=>exact (by cases p)
 | (k,v)::ks,_,es,kvs,e,r,p=>by
  cases r with
  | cons r1 r2=>
   rename_i q vs';obtain ⟨k',u⟩:=q;obtain ⟨e1,e2⟩:=r1;simp only at e1 e2;subst e1
   cases p with
   | cons hk hv hr=>
    unfold aR at e
    cases e1:fN v with
    | none=>rw [e1] at e;cases e
    | some d=>
     cases e3:aR ks with
     | none=>rw [e1,e3] at e;cases e
     | some ds=>rw [e1,e3] at e;cases e;obtain ⟨z1,z2⟩:=kB e3 r2 hr;exact ⟨.cons (as:=[]) (bs:=[]) (Ce hk) z1,.cons (as:=[]) (bs:=[]) (by show Reads h (DictEntry.val _) d [];rw [hv];exact zy e1 e2) z2⟩
section
variable {X:Cx} {pins:Uk} {σ:St} {H:Hp} {s:UD}
mutual
theorem Rep.reads (I:Inv X pins σ H s):∀ {d:PyData} {v:V} {u:Value},Rep H d v->RelV v u->∃ as,Reads s.heap u d as
 | .none,_,u,h,r=>by cases h;cases r;exact ⟨_,.none⟩
 | .bool b,_,u,h,r=>by cases h;cases r;exact ⟨_,.bool b⟩
 | .int i,_,u,h,r=>by cases h;obtain ⟨t,rfl⟩:=r;exact ⟨_,.int i t⟩
 | .str x,_,u,h,r=>by cases h;obtain ⟨t,rfl⟩:=r;exact ⟨_,.str x t⟩
 | .tuple ds,_,u,⟨a,vs,e,h,q⟩,r=>by subst e;cases r;obtain ⟨_,its,rv,o,ho,hc,n,hd⟩:=I.hok a _ h;obtain ⟨as,z⟩:=bc.reads I q rv;exact ⟨_,.tuple ho hc hd (by simpa using z)⟩
 | .list ds,_,u,⟨a,vs,e,h,q⟩,r=>by subst e;cases r;obtain ⟨_,its,n,rv,ho⟩:=I.hok a _ h;obtain ⟨as,z⟩:=bc.reads I q rv;exact ⟨_,.list ho rfl rfl (by simpa using z)⟩
 | .dict kvs,_,u,⟨a,ks,e,h,q⟩,r=>by subst e;cases r;obtain ⟨_,_,vs,rk,o,es,ep,ho,hx,hd,_,hp,_⟩:=I.hok a _ h;obtain ⟨z1,z2⟩:=kB (P:=X.prog) (w:=X.w) (h:=s.heap) q rk hp;exact ⟨_,.dict ho hx.1 hd z1 z2⟩
theorem bc.reads (I:Inv X pins σ H s):∀ {ds:Uq} {vs:List V} {us:Us},bc H ds vs->Vals vs us->∃ as,ReadsAll s.heap us ds as
 | [],_,us,h,r=>by cases h;cases r;exact ⟨_,.nil⟩
 | d::ds,_,us,⟨w,ws,e,h,q⟩,r=>by
  subst e
  cases r with
  | cons r1 r2=>obtain ⟨as,z⟩:=Rep.reads I h r1;obtain ⟨bs,y⟩:=bc.reads I q r2;exact ⟨_,.cons z y⟩
end
end
section
variable {X:Cx} {k:Nat}
def JF:List V->Hp->VK->Prop:=λxs H Q=>∃ kvs v,xs=[v]/\Rep H (.dict kvs) v/\(PyData.dict kvs).showable=true/\(PyData.dict kvs).depth<=20/\(PyData.dict kvs).shown.length<=sizeLine/\Q (.str (PyData.dict kvs).shown) H
theorem zz (hr:cg k X.A):dz X (.builtin "repr") JF:=by
 intro pins s σ H vs us Q I r h;obtain ⟨kvs,v,rfl,h1,hs,hd,hz,q⟩:=h;obtain ⟨a,ks,rfl,ha,e⟩:=h1
 cases r with
 | cons r rr=>
  cases rr;cases r;obtain ⟨_,ne,vs,rk,o,es,ep,ho,hx,hdd,_,hp,_⟩:=I.hok a _ ha;obtain ⟨z1,z2⟩:=kB (P:=X.prog) (w:=X.w) (h:=s.heap) e rk hp;refine T5 (Reads.dict ho hx.1 hdd z1 z2) hs (λ_ hm=>?_) hr.gd (by have:=hr.units;omega) (λ_ _ e=>e) (λh' t tk hk=>⟨.str _,H,I.kept hk,⟨_,rfl⟩,q⟩) hz;have:sysModules=a:=by simpa using hm
  rw [<- this] at ne;simp at ne
def LR:PyData->String
 | .none => "NoneType"
 | .bool _ => "bool"
 | .int _ => "int"
 | .str _ => "str"
 | .tuple _ => "tuple"
 | .list _ => "list"
 | .dict _ => "dict"
theorem Rep.ty {H:Hp} {K:Ut} {d:PyData} {v:V} (h:Rep H d v):nK K H v (.type (LR d)):=by
 cases d with
 | none=>cases h;exact .non
 | bool b=>cases h;exact .bl b
 | int i=>cases h;exact .int i
 | str x=>cases h;exact .str x
 | tuple ds=>obtain ⟨a,vs,rfl,e,_⟩:=h;exact .tup e
 | list ds=>obtain ⟨a,vs,rfl,e,_⟩:=h;exact .lst e
 | dict ds=>obtain ⟨a,ks,rfl,e,_⟩:=h;exact .dK e
theorem DB:dz X (.builtin "isinstance") (λxs H Q=>∃ x n t b,xs=[x,.ty n]/\nK X.K H x t/\PySem.W.kitOne X.K t (.type n)=some b/\Q (.bl b) H):=by
 intro pins s σ H vs us Q I r h;obtain ⟨x,n,t,b,rfl,ty,e,q⟩:=h
 cases r with
 | cons r rr=>
  cases rr with
  | cons r' rr=>cases rr;cases r';exact B4 I r ty e λtk=>⟨.bl b,H,I.tok _,rfl,q⟩
theorem kit_tuple (K:Ut) (d:PyData):PySem.W.kitOne K (.type (LR d)) (.type "tuple")=some (match d with | .tuple _=>true | _=>false):=by cases d<;>first | rfl | decide
theorem GA (K:Ut) (d:PyData):PySem.W.kitOne K (.type (LR d)) (.type "str")=some (match d with | .str _=>true | _=>false):=by cases d<;>first | rfl | decide
end
theorem bx.upd {H H':Hp} {p:Addr} {o:HO} (s:bx H H') (hp:H' p=none):bx H (upd H' p o):=λb u e=>by rw [ay (aD (s b u e) hp)];exact s b u e
theorem bx.new {H:Hp} {p:Addr} {o:HO} (hp:H p=none):bx H (L2.upd H p o):=(bx.refl H).upd hp
theorem ue:bootBuiltins "isinstance" = some (.builtin "isinstance"):=by decide +kernel
theorem i7:bootBuiltins "len" = some (.builtin "len"):=by decide +kernel
theorem vY:bootBuiltins "all" = some (.builtin "all"):=by decide +kernel
theorem qP:bootBuiltins "repr" = some (.builtin "repr"):=by decide +kernel
theorem Cf:bootBuiltins "sorted" = some (.builtin "sorted"):=by decide +kernel
theorem Cg:bootBuiltins "divmod" = some (.builtin "divmod"):=by decide +kernel
theorem JG:bootBuiltins "max" = some (.builtin "max"):=by decide +kernel
theorem JH:bootBuiltins "str" = some (.type "str"):=by decide +kernel
theorem cV:bootBuiltins "tuple" = some (.type "tuple"):=by decide +kernel
theorem AL:bootBuiltins "list" = some (.type "list"):=by decide +kernel
section
variable {X:Cx} {e e2:Expr} {te te2:TE} {t:TA} {p p2 pos:Pos}
def isTup:PyData->Bool | .tuple _=>true | _=>false
def isStr:PyData->Bool | .str _=>true | _=>false
end
def kC (f:Expr->Option PyData):Uv->Option (Uq)
 | []=>some []
 | e::es=>match f e,kC f es with
  | some d,some ds=>some (d::ds)
  | _,_=>none
noncomputable def qI:Nat->Expr->Option PyData
 | 0,_=>none
 | n+1,e=>match e with
  | .Constant .none _ _=>some .none
  | .Constant (.bool b) _ _=>some (.bool b)
  | .Constant (.int i) _ _=>some (.int i)
  | .Constant (.str x) _ _=>some (.str x)
  | .Tuple es _ _=>if es.length<=1000 then (kC (qI n) es).map .tuple else none
  | .List es _=>if es.length<=1000 then (kC (qI n) es).map .list else none
  | .UnaryOp .USub (.Constant (.int i) _ _) _=>some (.int (-i))
  | .BinOp (.Constant (.int a) _ _) .Pow (.Constant (.int b) _ _) _=>if 0<=b/\b<=1000000/\a.natAbs < 2 ^ 64 then some (.int (a ^ b.toNat)) else none
  | .Dict [] [] _=>some (.dict [])
  | .Dict [some (.Constant (.str k) _ _)] [.Constant (.int i) _ _] _=>some (.dict [(.str k,.int i)])
  | _=>none
abbrev uP (n:Nat) (es:Uv):Option (Uq):=kC (qI n) es
def iu (H H' N:Hp):Prop:=∀ c o,N c=some o->H c=none/\H' c=some o
def JI (d:PyData):TE:=λ_ H Q=>∀ r H' N,bx H H'->iu H H' N->Rep N d r->Q r H'
def LS (ds:Uq):TA:=λ_ H Q=>∀ rs H' N,bx H H'->iu H H' N->bc N ds rs->Q rs H'
def uf:Hp:=λ_=>none
theorem iu.no {H H':Hp}:iu H H' uf:=λ_ _ e=>by cases e
def mW (N M:Hp):Hp:=λc=>match N c with | some o=>some o | none=>M c
theorem JJ {N M:Hp}:bx N (mW N M):=λc o e=>by simp only [mW,e]
theorem JK {H H1 H2 N M:Hp} (n:iu H H1 N) (m:iu H1 H2 M):bx M (mW N M):=λc o e=>by
 have h1:=(m c o e).1
 cases q:N c with
 | none=>simp only [mW,q,e]
 | some u=>rw [(n c u q).2] at h1;cases h1
theorem iu.plus {H H1 H2 N M:Hp} (s1:bx H H1) (s2:bx H1 H2) (n:iu H H1 N) (m:iu H1 H2 M):iu H H2 (mW N M):=λc o e=>by
 cases q:N c with
 | some u=>simp only [mW,q] at e;cases e;exact ⟨(n c _ q).1,s2 _ _ (n c _ q).2⟩
 | none=>simp only [mW,q] at e;exact ⟨s1.free (m c o e).1,(m c o e).2⟩
theorem iu.put {H H1 N:Hp} {p:Addr} {o:HO} (s1:bx H H1) (n:iu H H1 N) (hp:H1 p=none):iu H (upd H1 p o) (upd N p o)/\bx N (upd N p o):=by
 have np:∀ c u,N c=some u->c≠p:=λc u e z=>by subst z;rw [(n c u e).2] at hp;cases hp
 refine ⟨λc u e=>?_,λc u e=>by rw [ay (np c u e)];exact e⟩;by_cases hc:c=p
 ·subst hc;rw [aX] at e;cases e;exact ⟨s1.free hp,aX⟩
 ·rw [ay hc] at e;exact ⟨(n c u e).1,by rw [ay hc];exact (n c u e).2⟩
theorem jH:∀ {es:Uv} {n:Nat} {ds:Uq},uP n es=some ds->ds.length=es.length
 | [],n,ds,h=>by unfold uP kC at h;cases h;rfl
 | e::es,n,ds,h=>by
  unfold uP kC at h;split at h
  ·rename_i d ds' h1 h2;cases h;rw [Qf,Qf,jH h2]
  ·cases h
section
variable {X:Cx}
theorem vZ {n:Nat} (ih:∀ (e:Expr) (d:PyData),qI n e=some d->PE X e (JI d)/\∀ es:Uv,starEach (e::es) X.env=(false,eval e X.env)::starEach es X.env):∀ (es:Uv) (ds:Uq),uP n es=some ds->PA X es (LS ds)
 | [],ds,h=>by unfold uP kC at h;cases h;intro pos pins s σ H Q I q;exact rj pos pins s σ H Q I (q [] H uf (bx.refl H) .no rfl)
 | e::es,ds,h=>by
  unfold uP kC at h;split at h
  ·rename_i d ds' h1 h2;cases h;obtain ⟨a,b⟩:=ih e d h1;intro pos pins s σ H Q I q;refine lC a (vZ ih es ds' h2) (b es) pos pins s σ H Q I λr H1 N1 s1 n1 hr rs H2 N2 s2 n2 hrs=>q _ H2 _ (s1.trans s2) (n1.plus s1 s2 n2) (.cons (hr.same JJ) (hrs.same (JK n1 n2)))
  ·cases h
theorem zA:∀ (n:Nat) (e:Expr) (d:PyData),qI n e=some d->PE X e (JI d)/\∀ es:Uv,starEach (e::es) X.env=(false,eval e X.env)::starEach es X.env:=by
 intro n
 induction n with
 | zero=>intro e d h;unfold qI at h;cases h
 | succ n ih=>
  intro e d h;unfold qI at h;split at h
  ·cases h;exact ⟨λpins s σ H Q I q=>IK pins s σ H Q I (q _ H uf (bx.refl H) .no rfl),λ_=>rfl⟩
  ·cases h;exact ⟨λpins s σ H Q I q=>HM pins s σ H Q I (q _ H uf (bx.refl H) .no rfl),λ_=>rfl⟩
  ·cases h;exact ⟨λpins s σ H Q I q=>o4 pins s σ H Q I (q _ H uf (bx.refl H) .no rfl),λ_=>rfl⟩
  ·cases h;exact ⟨λpins s σ H Q I q=>ze pins s σ H Q I (q _ H uf (bx.refl H) .no rfl),λ_=>rfl⟩
  ·rename_i es k' p';split at h
   ·rename_i hl
    cases h1:kC (qI n) es with
    | none=>rw [h1] at h;cases h
    | some ds=>rw [h1] at h;cases h;refine ⟨λpins s σ H Q I q=>Dg (vZ ih es ds h1) pins s σ H Q I λrs H1 N1 s1 n1 hrs=>⟨?_,λp hp=>q _ _ _ (s1.upd hp) (n1.put s1 hp).1 ⟨p,rs,rfl,aX,hrs.same (n1.put s1 hp).2⟩⟩,λ_=>rfl⟩;rw [hrs.length,jH h1];exact P6 hl (by decide)
   ·cases h
  ·rename_i es p';split at h
   ·rename_i hl
    cases h1:kC (qI n) es with
    | none=>rw [h1] at h;cases h
    | some ds=>rw [h1] at h;cases h;refine ⟨λpins s σ H Q I q=>zl (vZ ih es ds h1) pins s σ H Q I λrs H1 N1 s1 n1 hrs=>⟨?_,λp hp=>q _ _ _ (s1.upd hp) (n1.put s1 hp).1 ⟨p,rs,rfl,aX,hrs.same (n1.put s1 hp).2⟩⟩,λ_=>rfl⟩;rw [hrs.length,jH h1];exact P6 hl (by decide)
   ·cases h
  ·cases h;exact ⟨λpins s σ H Q I q=>Lv Jk o4 pins s σ H Q I ⟨_,rfl,q _ H uf (bx.refl H) .no rfl⟩,λ_=>rfl⟩
  ·split at h
   ·rename_i hl;cases h;exact ⟨λpins s σ H Q I q=>HQ Jj o4 o4 pins s σ H Q I ⟨_,_,rfl,rfl,hl,q _ H uf (bx.refl H) .no rfl⟩,λ_=>rfl⟩
   ·cases h
  ·cases h;exact ⟨λpins s σ H Q I q=>Dw pins s σ H Q I λp hp=>q _ _ (upd uf p (.dK [])) (bx.new hp) (iu.put (bx.refl H) .no hp).1 ⟨p,[],rfl,aX,rfl⟩,λ_=>rfl⟩
  ·rename_i k k1 p1 i i1 p2 p3;cases h;refine ⟨λpins s σ H Q I q=>Gz (Dx ze o4 Gy) rfl rfl (by simp) (by show 1<=15;decide) pins s σ H Q I λp hp=>⟨aX,[(Sum.inr k,V.int i)],rfl,by show 1<=15;decide,?_⟩,λ_=>rfl⟩;refine q _ _ (upd uf p (.dK [(Sum.inr k,V.int i)])) (λb o e=>?_) (λc o e=>?_) ⟨p,[(Sum.inr k,V.int i)],rfl,aX,rfl⟩
   ·rw [ay (aD e hp),ay (aD e hp)];exact e
   ·by_cases hc:c=p
    ·subst hc;rw [aX] at e;cases e;exact ⟨hp,aX⟩
    ·rw [ay hc] at e;cases e
  ·cases h
@[irreducible] def Lit (n:Nat) (e:Expr) (d:PyData):Prop:=qI n e=some d
theorem Lit.of {n:Nat} {e:Expr} {d:PyData} (h:qI n e=some d):Lit n e d:=by unfold Lit;exact h
theorem Lit.eq {n:Nat} {e:Expr} {d:PyData} (h:Lit n e d):qI n e=some d:=by unfold Lit at h;exact h
theorem JL (n:Nat) {e:Expr} {d:PyData} (h:Lit n e d):PE X e (JI d):=(zA n e d h.eq).1
end
section
variable {X:Cx} {k:Nat}
def cutD (ds:Uq) (lo hi:Option Int):Uq:=(ds.drop (HT.eF ds.length 0 lo)).take (HT.eF ds.length ds.length hi - HT.eF ds.length 0 lo)
theorem ug {P:UA} {w:World} {A:UC} {E:Uj} {s:UD} {t sl:Addr} {items:Uy} {vl vu:Value} {lo hi:Option Int} {Q:Uj} (ht:IsTup s.heap t items) (hs:s.heap.IsSliceOf sl vl vu .none) (pl:IsPart vl lo) (pu:IsPart vu hi)
  (h0:HT.eF items.size 0 lo=0) (h1:HT.eF items.size items.size hi=items.size) (q:Q (.ref t) s):wpAny (model P w) A (getItem (.ref t) (.ref sl)) Q E s:=by
 obtain ⟨os,hos,hcs,hds⟩:=id hs;have hTs:s.TypeIs (.ref sl) "slice" := ⟨os,hos,hcs⟩;unfold getItem
 try with_reducible refine QG ?_
 first | refine PQ (PU ?_) | skip
 refine PQ (wpAny_sequenceKey ht.typeIs (by decide) ?_);refine PQ (QC (name:=Str.ofString "__getitem__") ht.typeIs QN (Qy QN ht.typeIs entry_tuple_getitem ?_ (args_tuple_getitem _ _)));show wpAny _ _ (Builtin.Tuple.tupleItemsOf (.ref t) >>= _) _ _ s;refine PQ (tupleItemsOf_ ht (PQ (Tn hTs ?_)));rw [if_pos (by decide)];refine PQ (HT.jm hs pl pu ?_);rw [h0,h1];show wpAny _ _ (if ((((0:Nat):Int) == 0 && (1:Int) == 1 && (items.size - 0) == items.size)=true) then _ else _) _ _ s;rw [if_pos (by simp)];unfold Builtin.Tuple.tupleIsExact;refine PQ (PQ (Tn ht.typeIs (PU ?_)))
 first
  | exact PQ (RH (PQ (PU (PU ⟨_,rfl,PU q⟩))))
  | exact PQ (RH (PU ⟨_,rfl,PU q⟩))
  | (rw [if_pos (by decide)];exact PQ (RH (PQ (PU (PU ⟨_,rfl,PU q⟩)))))
  | (rw [if_pos (by decide)];exact PQ (RH (PU ⟨_,rfl,PU q⟩)))
end
noncomputable def tU (P:UA) (w:World):CY:=λouter H s E e s'=>
 ∃ (a:Addr) (cls:Value) (t:Addr) (B:Heap) (H':Hp),e=.ref a/\s'.os=s.os/\AllBare s'.gens/\Un (tS outer) [] H H' s.heap s'.heap/\kq P w H' s'.heap/\Heap.FlyingW B outer a cls (.ref t) s'.heap /\
  (∀ b o,s.heap.get? b=some o->b∉tS outer->∃ o',s'.heap.get? b=some o'/\B.get? b=some o')/\(∀ b u,H' b=some u->∃ o',s'.heap.get? b=some o'/\B.get? b=some o')/\E cls none H'
section
variable {P:UA} {w:World} {K:Ut} {mg:Uo} {base:Heap} {N:Uu} {qual:Str} {scope:Scope} {f:Addr} {cd:Value} {A:UC} {outer:List Env} {s:UD} {H:Hp} {E:XK}
theorem cj:Passes (tU P w) (tY (tU P w) P w K mg base N qual scope f cd A outer s H E) E:=by
 intro pins σ H1 s1 e s' I ⟨a,cls,t,B,H',e1,os,bare,un,hok,fl,old,BU,q⟩;subst e1;have J:=I.HL os un hok bare (λb z=>nomatch z);have hfr:(A.deeper (envOfC qual scope s.heap.objs.size f cd)).frames=some (envOfC qual scope s.heap.objs.size f cd::outer):=I.ok.frames;have noA:∀ b:Addr,b∉(tY (tU P w) P w K mg base N qual scope f cd A outer s H E).ex:=λb z=>nomatch z
 have inB:∀ b o,s.heap.get? b=some o->b∉tS outer->∃ o',s'.heap.get? b=some o'/\B.get? b=some o':=λb o e hb=>by
  obtain ⟨o1,e1⟩:=I.base.there b o e (noA b);refine old b o1 e1 λz=>?_;rcases PZ.mp (I.iV b z) with z | z
  ·have z2:b=s.heap.objs.size:=z;exact absurd (P1 e) (by rw [z2];exact Qk _)
  ·exact hb z
 refine wpAny_leaves_onW hfr rfl fl λh' fl' up=>?_;refine ⟨a,cls,t,B,H',rfl,os.trans I.os,bare,⟨λb o e n hb _=>?_,λb o e n hb _=>?_,λb o e n _=>J.base.free b o e n (noA b),λb o e _=>?_,J.base.tups,J.base.frzs,J.base.tbls⟩,λb u e=>?_,fl',λb o e hb=>?_,λb u e=>?_,q⟩
 ·have e2:=J.base.keep b o e n hb (noA b);obtain ⟨o',e3,e4⟩:=inB b o e hb;rw [e2] at e3;cases e3;exact fl'.1 b o e4
 ·obtain ⟨sl,e2⟩:=J.base.slot b o e n hb (noA b);obtain ⟨_,o',e3,nf⟩:=J.oZ.mem hb;rw [e2] at e3;cases e3;obtain ⟨sl',e4⟩:=up b _ e2 nf;exact ⟨sl',e4⟩
 ·by_cases hb:b∈tS outer
  ·obtain ⟨o2,e2⟩:=J.base.there b o e (noA b);obtain ⟨_,o',e3,nf⟩:=J.oZ.mem hb;obtain ⟨sl',e4⟩:=up b _ e3 nf;exact ⟨_,e4⟩
  ·obtain ⟨o',e3,e4⟩:=inB b o e hb;exact ⟨o',fl'.1 b o' e4⟩
 ·refine (hok b u e).qG (λc v hc z=>?_) (λ_ z=>z) λ_ _ z=>z
  have:∃ u',H' c=some u':=by
   rcases hc with hc | hc
   ·exact ⟨u,hc▸e⟩
   ·exact ⟨_,hc⟩
  obtain ⟨u',hu⟩:=this;obtain ⟨o',e3,e4⟩:=BU c u' hu;rw [z] at e3;cases e3;exact fl'.1 c v e4
 ·obtain ⟨o',e3,e4⟩:=inB b o e hb;exact ⟨o',fl'.1 b o' e4,e4⟩
 ·obtain ⟨o',e3,e4⟩:=BU b u e;exact ⟨o',fl'.1 b o' e4,e4⟩
end
def GB (a:Addr) (cls:Value):Heap->Prop:=λh=>∃ o,h.get? a=some o/\o.cls=cls
structure Ext (H G H' G':Hp):Prop where
 sh:bx H H'
 sg:bx G G'
 gs:bx G' H'
 old:∀ c,H c≠none->G' c=G c
theorem Ext.refl {H G:Hp} (s:bx G H):Ext H G H G:=⟨bx.refl H,bx.refl G,s,λ_ _=>rfl⟩
theorem Ext.new {H G:Hp} {p:Addr} {o:HO} (s:bx G H) (hp:H p=none):Ext H G (upd H p o) (upd G p o):=by
 refine ⟨bx.new hp,bx.new (s.free hp),λc u e=>?_,λc hc=>ay λz=>hc (z▸hp)⟩;by_cases h:c=p
 ·subst h;rw [aX] at e ⊢;exact e
 ·rw [ay h] at e ⊢;exact s c u e
section
variable {X:Cx} {k:Nat}
def LU:R2:=λx y H Q=>∃ G ds es,bx G H/\Rep G (.tuple ds) x/\Rep G (.tuple es) y/\ds.length+es.length<=sizeLine/\∀ r H' G',Ext H G H' G'->Rep G' (.tuple (ds++es)) r->Q r H'
theorem GC:ik X (binaryOp .Add) LU:=by
 intro pins s σ H x y v u Q I rx ry h;obtain ⟨G,ds,es,sg,h1,h2,hz,q⟩:=h;obtain ⟨a,vs,rfl,ha,r1⟩:=id h1;obtain ⟨b,us,rfl,hb,r2⟩:=id h2;by_cases hv:vs=[]
 ·subst hv;have hd:ds=[]:=Sb.mp r1.length.symm;subst hd;cases rx;cases ry;obtain ⟨its1,v1,⟨⟨c1,d1,e1,l1⟩,p1,g1,n1,z1⟩,_⟩:=I.tuple (gE.of (K:=X.K) (sg _ _ ha));obtain ⟨its2,v2,⟨⟨c2,d2,e2,l2⟩,p2,g2,n2,z2⟩,_⟩:=I.tuple (gE.of (K:=X.K) (sg _ _ hb));simp only at g1 z1 g2 z2;subst g1 z1 g2 z2;cases v1;exact concat_meets ⟨_,p1,rfl⟩ ⟨_,p2,rfl⟩ noFill_tuple_add seq_tuple_add S8 S3 (SO _ _) (tuple_addW0 a b _ _ n1 n2 d1 d2 l1 l2 rfl) ⟨p1,p2,⟨.ref b,H,I,rfl,q _ H G (Ext.refl sg) h2⟩⟩
 ·refine Gj pins s σ H _ _ v u Q I rx ry ⟨a,b,vs,us,rfl,rfl,gE.of (sg _ _ ha),gE.of (sg _ _ hb),hv,by rw [r1.length,r2.length];exact hz,λe=>?_,λe p hp=>?_⟩
  ·subst e;have he:es=[]:=Sb.mp r2.length.symm;subst he;exact q _ H G (Ext.refl sg) (by rw [TN];exact h1)
  ·have x:=Ext.new (o:=.tup (vs++us)) sg hp;exact q _ _ _ x ⟨p,_,rfl,aX,bc.append (r1.same x.sg) (r2.same x.sg)⟩
def NU:V->Option Int->Option Int->Hp->VK->Prop:=λx lo hi H Q=>∃ G ds,bx G H/\Rep G (.tuple ds) x/\∀ r H' G',Ext H G H' G'->Rep G' (.tuple (cutD ds lo hi)) r->Q r H'
theorem GD:Lc X NU:=by
 intro pins s σ H x v vl vu lo hi sl Q I rx hs pl pu h;obtain ⟨G,ds,sg,h1,q⟩:=h;obtain ⟨a,xs,rfl,ha,r1⟩:=id h1;cases rx;obtain ⟨its,rv,ht,hz⟩:=I.tuple (gE.of (K:=X.K) (sg _ _ ha));have hl:its.toArray.size=xs.length:=by rw [P7];exact rv.length.symm
 by_cases hw:HT.eF xs.length 0 lo=0/\HT.eF xs.length xs.length hi=xs.length
 ·refine ⟨"tuple",_,QN.lookup,ht.typeIs,ug ht hs pl pu (by rw [hl];exact hw.1) (by rw [hl];exact hw.2) ⟨.ref a,H,I,rfl,q _ H G (Ext.refl sg) ?_⟩⟩;have e:cutD ds lo hi=ds:=by unfold cutD;rw [<- r1.length,hw.1,hw.2,List.drop_zero,Nat.sub_zero,r1.length,List.take_length]
  rw [e];exact h1
 ·refine Jp pins s σ H (.ref a) _ vl vu lo hi sl Q I rfl hs pl pu ⟨a,xs,rfl,gE.of (sg _ _ ha),hw,λp hp=>?_⟩;have x:=Ext.new (o:=.tup (rA xs lo hi)) sg hp;refine q _ _ _ x ⟨p,_,rfl,aX,?_⟩;have e:cutD ds lo hi=(ds.drop (HT.eF xs.length 0 lo)).take (HT.eF xs.length xs.length hi - HT.eF xs.length 0 lo):=by unfold cutD;rw [r1.length]
  rw [e];exact ((r1.same x.sg).drop _).take _
end
theorem Vals.H0:∀ (us:Us) (f:Nat->V),(∀ j v,us[j]?=some v->RelV (f j) v)->Vals ((List.range us.length).map f) us
 | [],_,_=>.nil
 | u::us,f,h=>by rw [Qf,List.range_succ_eq_map,Qn,TZ];exact .cons (h 0 u rfl) (Vals.H0 us (f∘Nat.succ) λj v e=>h (j+1) v e)
section
variable {X:Cx}
theorem xH (hc:X.calm=true):dz X (.type "tuple") (λxs H Q=>∃ x,xs=[.str x]/\x.cps.size<=sizeLine/\∀ p,H p=none->Q (.ref p) (upd H p (.tup ((List.range x.cps.size).map (sgn x))))):=by
 intro pins s σ H xs us Q I r h;obtain ⟨x,rfl,hz,q⟩:=h;obtain ⟨u,rfl,rx⟩:=vals1 r;obtain ⟨t,rfl⟩:=rx;refine call_tuple_str (I.ok.hd hc) x t (λh' tk acc kp hacc=>?_) hz;have I1:Inv X pins σ H {s with heap:=h',toks:=tk}:=I.kept (t':=tk) kp
 have hv:Vals ((List.range x.cps.size).map (sgn x)) acc.toList:=by
  have e:acc.toList.length=x.cps.size:=by rw [QR,hacc.1]
  rw [<- e];refine Vals.H0 _ _ λj v ev=>vX j v ?_ (hacc.2 j v (by simpa using ev));rw [<- e];exact (Qi.mp ev).1
 have I2:Inv X pins σ (upd H h'.objs.size (.tup ((List.range x.cps.size).map (sgn x)))) {s with heap:=h'.push {cls:=.type "tuple",data:=.seq acc},toks:=tk}:=by refine I1.laid (t':=tk) (λb o e=>PR _ e) (PY _) (show cw X.prog X.w _ _ _ (.tup _) from ⟨by rw [Qa,Uc];exact hz,acc.toList,hv,?_⟩);have:=IsTup.new h' acc;simpa using this
 exact ⟨.ref h'.objs.size,_,I2,rfl,q _ (I1.hok.fresh (PY _))⟩
end
def recAt (c:Addr) (q:Str):Heap->Prop:=λh=>h.CodeRec (.ref c) q
end L2
namespace PySem.SeqAt
open PySem PySem.MeetsSeq PySem.AutoSeq1
theorem rE (b:Str) (u:Tok) (l:Addr) (es:Ux) (n:Nat) (dd:Option Addr) (sl:Uw) :
  Meets (Builtin.«str.__eq__» ⟨[.str b u,.ref l],[]⟩) (λ_ R s=>s.heap.get? l=some {cls:=.type "dict",dict:=dd,data:=.dict es n,slots:=sl}/\R (.ok (.ret .notImplemented)) s):=
 .of_wp λprog w A R s h=>by
  obtain ⟨hp,g,d,tk,os⟩:=s;obtain ⟨hl,h⟩:=h
  wp_walk using wpAny_loadPart' hl,S9 hl
  exact ⟨_,rfl,h⟩
theorem rF (b:Str) (u:Tok) (l:Addr) (es:Ux) (n:Nat) (dd:Option Addr) (sl:Uw) :
  Meets (Builtin.«dict.__eq__» ⟨[.ref l,.str b u],[]⟩) (λ_ R s=>s.heap.get? l=some {cls:=.type "dict",dict:=dd,data:=.dict es n,slots:=sl}/\R (.ok (.ret .notImplemented)) s):=
 .of_wp λprog w A R s h=>by
  obtain ⟨hp,g,d,tk,os⟩:=s;obtain ⟨hl,h⟩:=h;have f1:=F.sub_str_dict
  wp_walk using wpAny_loadPart' hl,S9 hl
  exact ⟨_,rfl,h⟩
theorem EqAt.GF {A:UC} {s:UD} {l:Addr} {es:Ux} {n:Nat} {dd:Option Addr} {sl:Uw} (b:Str) (u:Tok) (hl:s.heap.get? l=some {cls:=.type "dict",dict:=dd,data:=.dict es n,slots:=sl}) (hu:A.units < cLine):EqAt A s (.str b u) (.ref l) false:=λprog w E Q h=>by
 unfold eqBool;refine QG (RA (λhab=>absurd (eq_of_beq hab) nofun) (λ_=>PQ ?_))
 refine rc_eq_decline_or (k:=false) (typeIs_str s b u) ⟨_,hl,rfl⟩ (by decide) F.sub_dict_str F.slot_str_eq SM
  (λ_ hq=>SQ F.slot_str_eq (typeIs_str s b u) F.entry_str_eq (F.args_str_eq_2 _ _) (rE b u l es n dd sl) ⟨hl,hq⟩)
  (λ_ hq=>SQ SM ⟨_,hl,rfl⟩ F.entry_dict_eq (F.args_dict_eq_2 _ _) (rF b u l es n dd sl) ⟨hl,hq⟩)
  (λ_ hq=>Sn (rfl:isSame (.str b u) (.ref l)=pure false) hq) (.inr hu) (Rm h)
end PySem.SeqAt
set_option maxHeartbeats 4000000
namespace PySem.W
open PySem PySem.Calls PyProof.Rows
def KasT.Run {α:Type} (lt:Nat->Nat->Bool) (n:Nat):KasT α->(α->Prop)->Prop
 | .ret a,P=>P a
 | .ask i j k,P=>i < n/\j < n/\(k (lt i j)).Run lt n P
theorem KasT.run_bind {α β:Type} {lt:Nat->Nat->Bool} {n:Nat} {f:α->KasT β} {P:β->Prop} :
  ∀ (t:KasT α),t.Run lt n (λa=>(f a).Run lt n P)->(t.bind f).Run lt n P
 | .ret _,h=>h
 | .ask _ _ k,h=>⟨h.1,h.2.1,KasT.run_bind (k _) h.2.2⟩
theorem KasT.eI {α:Type} {lt:Nat->Nat->Bool} {n:Nat} {P Q:α->Prop} (hq:∀ a,P a->Q a) :
  ∀ (t:KasT α),t.Run lt n P->t.Run lt n Q
 | .ret a,h=>hq a h
 | .ask _ _ k,h=>⟨h.1,h.2.1,KasT.eI hq (k _) h.2.2⟩
theorem KasT.DC {α:Type} {lt:Nat->Nat->Bool} {n:Nat} {P:α->Prop} {Q:α->UD->Prop} {I:UD->Prop}
  {cmp:Nat->Nat->(Bool->UD->Prop)->UD->Prop}
  (hc:∀ i j C s,i < n->j < n->I s->(∀ s',I s'->C (lt i j) s')->cmp i j C s) (hq:∀ a s,P a->I s->Q a s) :
  ∀ (t:KasT α) (s:UD),t.Run lt n P->I s->t.kasWp cmp Q s
 | .ret a,s,h,hi=>hq a s h hi
 | .ask i j k,s,h,hi=>hc i j _ s h.1 h.2.1 hi (λs' hs'=>KasT.DC hc hq (k _) s' h.2.2 hs')
structure mi (lt:Nat->Nat->Bool) (n:Nat):Prop where
 as:∀ a b,a < n->b < n->lt a b=true->lt b a=false
 tr:∀ a b c,a < n->b < n->c < n->lt b a=false->lt c b=false->lt c a=false
abbrev pat (p:Uz) (k:Nat):Nat:=p.getD k 0
theorem i8 (p:Uz) (k:Nat):pat p k=p[k]?.getD 0:=by show p.getD k 0=_;simp [Qx]
structure ck (n:Nat) (p:Uz):Prop where
 perm:p.toList.Perm (List.range n)
theorem ck.size {n:Nat} {p:Uz} (h:ck n p):p.size=n:=by have:=h.perm.length_eq;simpa using this
theorem ck.lt {n:Nat} {p:Uz} (h:ck n p) {k:Nat} (hk:k < n):pat p k < n:=by
 have hs:k < p.size:=by rw [h.size];exact hk
 have e:pat p k=p[k]:=by rw [i8,T3 p k hs];rfl
 rw [e];have:p[k]∈p.toList:=by simp
 exact QO.mp (h.perm.mem_iff.mp this)
theorem ck.of {n:Nat} {p q:Uz} (h:ck n p) (e:q.Perm p):ck n q:=
 ⟨(Array.perm_iff_toList_perm.mp e).trans h.perm⟩
theorem ck.rev {n:Nat} {p:Uz} (h:ck n p) (i j:Nat):ck n (kas_rev p i j):=h.of (mirror_perm _ _ _ _)
theorem iw {n:Nat} {p:Uz} (h:ck n p) {i j:Nat} (hj:j<=n) (k:Nat) :
  pat (kas_rev p i j) k=if i<=k/\k < j then pat p (i+j - 1 - k) else pat p k:=by
 rw [i8];unfold kas_rev;rw [getElem?_mirror_all (by rw [h.size];exact hj)];split<;>rw [i8]
theorem AM {n:Nat} {p:Uz} (h:ck n p) {k d:Nat} (hk:k < n) (hd:d<=k) (i:Nat) :
  pat (bubble p k d) i=if i=k - d then pat p k else if k - d < i/\i<=k then pat p (i - 1) else pat p i:=by
 rw [i8,getElem?_bubble (by rw [h.size];exact hk) d hd];split
 ·rw [i8]
 ·split<;>rw [i8]
section
variable {lt:Nat->Nat->Bool} {n:Nat}
def xI (lt:Nat->Nat->Bool) (p:Uz) (m:Nat):Prop:=∀ i j,i < j->j < m->lt (pat p j) (pat p i)=false
def iy (lt:Nat->Nat->Bool) (p:Uz) (m:Nat):Prop:=∀ i j,i < j->j < m->lt (pat p i) (pat p j)=false
theorem mi.NV (O:mi lt n) {x:Nat} (hx:x < n):lt x x=false:=by
 cases hh:lt x x with
 | false=>rfl
 | true=>have:=O.as _ _ hx hx hh;rw [hh] at this;exact this
theorem xI.more (O:mi lt n) {p:Uz} (hp:ck n p) {m:Nat} (h1:1<=m) (hm:m < n) (u:xI lt p m) (h:lt (pat p m) (pat p (m - 1))=false):xI lt p (m+1):=by
 intro i j hij hj;rcases RO j m with h' | h'
 ·exact u i j hij h'
 ·obtain rfl:j=m:=by omega
  rcases RO i (j - 1) with h'' | h''
  ·exact O.tr _ _ _ (hp.lt (by omega)) (hp.lt (by omega)) (hp.lt hm) (u i (j - 1) h'' (by omega)) h
  ·obtain rfl:i=j - 1:=by omega
   exact h
theorem iy.more (O:mi lt n) {p:Uz} (hp:ck n p) {m:Nat} (h1:1<=m) (hm:m < n) (u:iy lt p m) (h:lt (pat p (m - 1)) (pat p m)=false):iy lt p (m+1):=by
 intro i j hij hj;rcases RO j m with h' | h'
 ·exact u i j hij h'
 ·obtain rfl:j=m:=by omega
  rcases RO i (j - 1) with h'' | h''
  ·exact O.tr _ _ _ (hp.lt hm) (hp.lt (by omega)) (hp.lt (by omega)) h (u i (j - 1) h'' (by omega))
  ·obtain rfl:i=j - 1:=by omega
   exact h
theorem v7 (O:mi lt n) {p:Uz} (hp:ck n p):∀ (f m:Nat),1<=m->m+f<=n->xI lt p m ->
  (kas_asc p f m).Run lt n (λr=>m<=r/\r<=m+f/\xI lt p r/\(r < m+f->lt (pat p r) (pat p (r - 1))=true))
 | 0,m,h1,hm,u=>⟨PY _,PY _,u,λh=>absurd h (Qk _)⟩
 | f+1,m,h1,hm,u=>by
  refine ⟨hp.lt (by omega),hp.lt (by omega),?_⟩
  cases hc:lt (pat p m) (pat p (m - 1)) with
  | true=>simp only [QB];exact ⟨PY _,by omega,u,λ_=>hc⟩
  | false=>have hc':=hc;simp only [P8,QK];refine KasT.eI (λr hr=>?_) _ (v7 O hp f (m+1) (by omega) (by omega) (u.more O hp h1 (by omega) hc'));exact ⟨by omega,by omega,hr.2.2.1,λh=>hr.2.2.2 (by omega)⟩
def MD (lt:Nat->Nat->Bool) (p:Uz) (a b:Nat):Prop:=∀ i j,a<=i->i < b->a<=j->j < b->lt (pat p i) (pat p j)=false
theorem rG {p:Uz} (hp:ck n p) {a b m:Nat} (hb:b<=m) (hm:m<=n) (d:iy lt p m) (e:MD lt p a b):iy lt (kas_rev p a b) m:=by
 intro i j hij hj;rw [iw hp (by omega),iw hp (by omega)];split
 ·split
  ·exact e _ _ (by omega) (by omega) (by omega) (by omega)
  ·exact d _ _ (by omega) (by omega)
 ·split
  ·exact d _ _ (by omega) (by omega)
  ·exact d _ _ hij hj
theorem JM {p:Uz} (hp:ck n p) {m:Nat} (hm:m<=n) (d:iy lt p m):xI lt (kas_rev p 0 m) m:=by intro i j hij hj;rw [iw hp hm,iw hp hm,if_pos (by omega),if_pos (by omega)];exact d _ _ (by omega) (by omega)
theorem iy.zero {p:Uz}:iy lt p 1:=λi j h h'=>by omega
theorem nO (O:mi lt n):∀ (f:Nat) (p:Uz) (m q:Nat),ck n p->q+1<=m->m+f<=n->iy lt p m->MD lt p (m - (q+1)) m ->
  (kas_desc f p m q).Run lt n (λr=>ck n r.1/\r.2.2+1<=r.2.1/\r.2.1<=m+f/\iy lt r.1 r.2.1/\MD lt r.1 (r.2.1 - (r.2.2+1)) r.2.1)
 | 0,p,m,q,hp,hq,hm,d,e=>⟨hp,hq,PY _,d,e⟩
 | f+1,p,m,q,hp,hq,hm,d,e=>by
  refine ⟨hp.lt (by omega),hp.lt (by omega),?_⟩
  cases hc:lt (p.getD m 0) (p.getD (m - 1) 0) with
  | true=>
   simp only [QB];have h1:lt (pat p (m - 1)) (pat p m)=false:=O.as _ _ (hp.lt (by omega)) (hp.lt (by omega)) hc;split
   ·have hd2:=rG (n:=n) hp (PY m) (by omega) d e;have hp2:=hp.rev (m - (q+1)) m;refine KasT.eI (λr hr=>⟨hr.1,hr.2.1,by have:=hr.2.2.1;omega,hr.2.2.2⟩) _ (nO O f _ (m+1) 0 hp2 (by omega) (by omega) ?_ ?_)
    ·refine hd2.more O hp2 (by omega) (by omega) ?_;rw [iw hp (by omega),iw hp (by omega),if_pos (by omega),if_neg (by omega)];refine O.tr _ _ _ (hp.lt (by omega)) (hp.lt (by omega)) (hp.lt (by omega)) h1 ?_;exact e _ _ (by omega) (by omega) (by omega) (by omega)
    ·intro i j h1 h2 h3 h4;obtain rfl:i=m:=by omega
     obtain rfl:j=i:=by omega
     cases hh:lt (pat (kas_rev p (j - (q+1)) j) j) (pat (kas_rev p (j - (q+1)) j) j) with
     | false=>rfl
     | true=>exact (O.as _ _ (hp2.lt (by omega)) (hp2.lt (by omega)) hh).symm.trans hh▸rfl
   ·refine KasT.eI (λr hr=>⟨hr.1,hr.2.1,by have:=hr.2.2.1;omega,hr.2.2.2⟩) _ (nO O f _ (m+1) 0 hp (by omega) (by omega) (d.more O hp (by omega) (by omega) h1) ?_);intro i j h1 h2 h3 h4;obtain rfl:i=m:=by omega
    obtain rfl:j=i:=by omega
    cases hh:lt (pat p j) (pat p j) with
    | false=>rfl
    | true=>exact (O.as _ _ (hp.lt (by omega)) (hp.lt (by omega)) hh).symm.trans hh▸rfl
  | false=>
   simp only [P8,QK];refine ⟨hp.lt (by omega),hp.lt (by omega),?_⟩
   cases hc2:lt (p.getD (m - 1) 0) (p.getD m 0) with
   | true=>simp only [QB];exact ⟨hp,hq,by show m<=_;omega,d,e⟩
   | false=>
    simp only [P8,QK];refine KasT.eI (λr hr=>⟨hr.1,hr.2.1,by have:=hr.2.2.1;omega,hr.2.2.2⟩) _ (nO O f _ (m+1) (q+1) hp (by omega) (by omega) (d.more O hp (by omega) (by omega) hc2) ?_)
    have NV:lt (pat p m) (pat p m)=false:=by
     cases hh:lt (pat p m) (pat p m) with
     | false=>rfl
     | true=>exact (O.as _ _ (hp.lt (by omega)) (hp.lt (by omega)) hh).symm.trans hh▸rfl
    intro i j h1 h2 h3 h4;rcases RO i m with hi | hi
    ·rcases RO j m with hj | hj
     ·exact e _ _ (by omega) hi (by omega) hj
     ·obtain rfl:j=m:=by omega
      exact O.tr _ _ _ (hp.lt (by omega)) (hp.lt (show j - 1 < n by omega)) (hp.lt (by omega)) hc2 (e _ _ (by omega) hi (by omega) (by omega))
    ·obtain rfl:i=m:=by omega
     rcases RO j i with hj | hj
     ·exact O.tr _ _ _ (hp.lt (by omega)) (hp.lt (show i - 1 < n by omega)) (hp.lt (by omega)) (e _ _ (by omega) (by omega) (by omega) hj) hc
     ·obtain rfl:j=i:=by omega
      exact NV
def DD (lt:Nat->Nat->Bool) (n:Nat) (r:Nat×Uz):Prop:=ck n r.2/\1<=r.1/\r.1<=n/\xI lt r.2 r.1
theorem uQ (O:mi lt n) {p:Uz} (hp:ck n p) {m:Nat} (h1:1<=m) (hm:m<=n) (d:iy lt p m):(kas_tail3 m n p).Run lt n (DD lt n):=by unfold kas_tail3;refine KasT.run_bind _ (KasT.eI (λr hr=>?_) _ (v7 O (hp.rev 0 m) (n - m) m h1 (by omega) (JM hp hm d)));exact ⟨hp.rev 0 m,by show 1<=r;omega,by show r<=n;omega,hr.2.2.1⟩
theorem nP (O:mi lt n) {p:Uz} (hp:ck n p) {m:Nat} (h1:1<=m) (hm:m < n) (d:iy lt p (m+1)):(kas_descPart m n p).Run lt n (DD lt n):=by
 unfold kas_descPart;refine KasT.run_bind _ (KasT.eI (λr hr=>?_) _ (nO O (n - (m+1)) p (m+1) 0 hp (by omega) (by omega) d ?_))
 ·split
  ·exact uQ O (hr.1.rev _ _) (by omega) (by omega) (rG hr.1 (PY _) (by omega) hr.2.2.2.1 hr.2.2.2.2)
  ·exact uQ O hr.1 (by omega) (by omega) hr.2.2.2.1
 ·intro i j h1 h2 h3 h4;obtain rfl:i=m:=by omega
  obtain rfl:j=i:=by omega
  cases hh:lt (pat p j) (pat p j) with
  | false=>rfl
  | true=>exact (O.as _ _ (hp.lt (by omega)) (hp.lt (by omega)) hh).symm.trans hh▸rfl
theorem Ci (O:mi lt n) {p:Uz} (hp:ck n p) (h1:1<=n):(kas_count n p).Run lt n (DD lt n):=by
 unfold kas_count;refine KasT.run_bind _ (KasT.eI (λr hr=>?_) _ (v7 O hp (n - 1) 1 (PY _) (by omega) λi j h h'=>by omega));obtain ⟨hr1,hr2,up,st⟩:=hr;split
 ·exact ⟨hp,hr1,by show r<=n;omega,up⟩
 ·rename_i hne;have hlt:r < n:=by have:r≠n:=λe=>hne (by simp [e]);omega
  have hs:=st (by omega);split
  ·rename_i hgt;refine ⟨hp.lt (by omega),hp.lt (by omega),?_⟩;dsimp only;split
   ·exact ⟨hp,hr1,by show r<=n;omega,up⟩
   ·rename_i hc;have hc:lt (pat p 0) (pat p (r - 1))=false:=by simpa using hc
    have eqs:MD lt p 0 r:=by
     have lo:∀ i,i < r->lt (pat p i) (pat p 0)=false:=λi hi=>by
      rcases Nat.eq_zero_or_pos i with rfl | h
      ·cases hh:lt (pat p 0) (pat p 0) with
       | false=>rfl
       | true=>exact (O.as _ _ (hp.lt (by omega)) (hp.lt (by omega)) hh).symm.trans hh▸rfl
      ·exact up 0 i h hi
     have hi:∀ i,i < r->lt (pat p (r - 1)) (pat p i)=false:=λi hi=>by
      rcases RO i (r - 1) with h | h
      ·exact up i (r - 1) h (by omega)
      ·obtain rfl:i=r - 1:=by omega
       exact O.NV (hp.lt (by omega))
     intro i j _ h2 _ h4;have a1:lt (pat p 0) (pat p j)=false:=O.tr _ _ _ (hp.lt (by omega)) (hp.lt (show r - 1 < n by omega)) (hp.lt (by omega)) (hi j h4) hc;exact O.tr _ _ _ (hp.lt (by omega)) (hp.lt (show 0 < n by omega)) (hp.lt (by omega)) a1 (lo i h2)
    have dn:iy lt (kas_rev p 0 r) r:=rG hp (PY r) (by omega) (λi j h h'=>eqs _ _ (by omega) (by omega) (by omega) h') eqs;refine nP O (hp.rev 0 r) (by omega) hlt (dn.more O (hp.rev 0 r) (by omega) hlt ?_);rw [iw hp (by omega),iw hp (by omega),if_pos (by omega),if_neg (by omega)];refine O.tr _ _ _ (hp.lt (by omega)) (hp.lt (show r - 1 < n by omega)) (hp.lt (by omega)) (O.as _ _ (hp.lt (by omega)) (hp.lt (by omega)) hs) ?_;exact eqs _ _ (by omega) (by omega) (by omega) (by omega)
  ·obtain rfl:r=1:=by omega
   exact nP O hp (by omega) hlt ((iy.zero).more O hp (by omega) hlt (O.as _ _ (hp.lt (by omega)) (hp.lt (by omega)) hs))
theorem o8 (O:mi lt n) {p:Uz} (hp:ck n p) {k:Nat} (hk:k < n) (u:xI lt p k):∀ (f l r:Nat),l<=r->r<=k->r - l<=f ->
  (∀ i,i < l->lt (pat p k) (pat p i)=false)->(∀ i,r<=i->i < k->lt (pat p i) (pat p k)=false) ->
  (kas_place p k f l r).Run lt n (λm=>m<=k/\(∀ i,i < m->lt (pat p k) (pat p i)=false)/\(∀ i,m<=i->i < k->lt (pat p i) (pat p k)=false))
 | 0,l,r,h1,h2,h3,a,b=>⟨by show l<=k;omega,a,λi hi=>b i (by omega)⟩
 | f+1,l,r,h1,h2,h3,a,b=>by
  unfold kas_place;split
  ·exact ⟨by show l<=k;omega,a,λi hi=>b i (by omega)⟩
  ·rename_i hlr;refine ⟨hp.lt hk,hp.lt (by omega),?_⟩;dsimp only;split
   ·rename_i hc;refine o8 O hp hk u f l ((l+r) / 2) (by omega) (by omega) (by omega) a λi hi hik=>?_;have hm:lt (pat p ((l+r) / 2)) (pat p k)=false:=O.as _ _ (hp.lt hk) (hp.lt (by omega)) hc;rcases RO ((l+r) / 2) i with h | h
    ·exact O.tr _ _ _ (hp.lt hk) (hp.lt (show (l+r) / 2 < n by omega)) (hp.lt (by omega)) hm (u _ _ h hik)
    ·obtain rfl:i=(l+r) / 2:=by omega
     exact hm
   ·rename_i hc;have hc:lt (pat p k) (pat p ((l+r) / 2))=false:=by simpa using hc
    refine o8 O hp hk u f ((l+r) / 2+1) r (by omega) h2 (by omega) (λi hi=>?_) b;rcases RO i ((l+r) / 2) with h | h
    ·exact O.tr _ _ _ (hp.lt (by omega)) (hp.lt (show (l+r) / 2 < n by omega)) (hp.lt hk) (u _ _ h (by omega)) hc
    ·obtain rfl:i=(l+r) / 2:=by omega
     exact hc
theorem AN (O:mi lt n):∀ (f:Nat) (p:Uz) (k:Nat),ck n p->k+f=n->xI lt p k->(kas_bin f p k).Run lt n (λp=>ck n p/\xI lt p n)
 | 0,p,k,hp,hk,u=>⟨hp,by obtain rfl:k=n:=by omega
                         exact u⟩
 | f+1,p,k,hp,hk,u=>by
  unfold kas_bin;refine KasT.run_bind _ (KasT.eI (λm hm=>?_) _ (o8 O hp (by omega) u k 0 k (Rf _) (PY _) (by omega) (λi h=>by omega) (λi h h'=>by omega)));obtain ⟨hmk,lo,hi⟩:=hm;refine AN O f _ (k+1) (hp.of (bubble_perm _ _ _)) (by omega) ?_;intro i j hij hj;have hd:k - (k - m)=m:=by omega
  rw [AM hp (by omega) (by omega),AM hp (by omega) (by omega),hd];by_cases j1:j=m
  ·rw [if_pos j1,if_neg (show ¬ i=m by omega),if_neg (by omega)];exact lo i (by omega)
  ·rw [if_neg j1];by_cases i1:i=m
   ·rw [if_pos i1,if_pos (by omega)];exact hi _ (by omega) (by omega)
   ·rw [if_neg i1];by_cases j2:m < j/\j<=k
    ·rw [if_pos j2];by_cases i2:m < i/\i<=k
     ·rw [if_pos i2];exact u _ _ (by omega) (by omega)
     ·rw [if_neg i2];exact u _ _ (by omega) (by omega)
    ·rw [if_neg j2,if_neg (by omega)];exact u _ _ hij (by omega)
theorem DF (O:mi lt n) (h:1<=n):(kas_sort n).Run lt n (λp=>ck n p/\xI lt p n):=by
 unfold kas_sort;refine KasT.run_bind _ (KasT.eI (λr hr=>?_) _ (Ci O (p:=List.toArray (List.range n)) ⟨List.Perm.refl _⟩ h));obtain ⟨hp,h1,h2,u⟩:=hr;split
 ·rename_i hlt;have:max r.1 1=r.1:=by omega
  rw [this];exact AN O _ _ _ hp (by omega) u
 ·refine ⟨hp,?_⟩;have e:r.1=n:=by omega
  rw [e] at u;exact u
end
end PySem.W
set_option maxHeartbeats 4000000
namespace PySem.W
open PySem PySem.Calls PyProof.Rows
section
variable {prog:UA} {w:World} {A:UC} {E:Uj} {s:UD}
noncomputable def DH (prog:UA) (w:World) (A:UC) (vs:Us) (lt:Nat->Nat->Bool) (s:UD):Prop:=
 wpAny (model prog w) A (keyKind' vs.toArray) (λκ s'=>s'=s/\∀ i j C,i < vs.length->j < vs.length->C (lt i j) s ->
  wpAny (model prog w) A (keyLt' κ (vs.getD i Value.none) (vs.getD j Value.none)) C (λ_ _=>False) s) (λ_ _=>False) s
theorem mB {a:Addr} {vs:Us} {lt:Nat->Nat->Bool} {n:Nat} {P:PySem.Fin->UD->Prop} (ho:s.heap.get? a=some (seqObj "list" vs.toArray n))
  (O:mi lt vs.length) (h64:vs.length < 64)
  (hk:∀ h',(∀ b o,b≠a->s.heap.get? b=some o->h'.get? b=some o)->2<=vs.length->DH prog w A vs lt {s with heap:=h'})
  (h:∀ p:Uz,ck vs.length p->xI lt p vs.length->P (.done (.ret .none)) {s with heap:=sortedHeap s.heap a vs (p.toList.map λi=>vs.getD i Value.none).toArray}) :
  wpAny (model prog w) A (Builtin.«list.sort» ⟨[.ref a],[]⟩) P E s:=by
 rw [list_sort_plain];have ha:a < s.heap.objs.size:=P1 ho;refine PQ (listItems_at ho rfl ?_);refine PQ (listUpdate_at ho rfl ?_);obtain ⟨e1,ho1⟩:∃ e1,(s.heap.update a (Obj.mapSeq λ_=>#[])).get? a=some (seqObj "list" #[] e1):=⟨_,get?_update_seq ho (λ_=>#[])⟩;refine PQ (seqEpoch_at ho1 rfl ?_);refine PQ (wpAny_newTuple ?_);refine PQ (wpAny_newList ?_);refine QG ?_;have ho6:(((s.heap.update a (Obj.mapSeq λ_=>#[])).push (seqObj "tuple" vs.toArray 0)).push (seqObj "list" #[] 0)).get? a=some (seqObj "list" #[] e1):=by rw [R5 _ _ _ (by rw [size_push',SJ];exact Qh (Rr ha)),R5 _ _ _ (by rw [SJ];exact Qh ha)];exact ho1
 show wpAny (model prog w) A _ P E {s with heap:=((s.heap.update a (Obj.mapSeq λ_=>#[])).push (seqObj "tuple" vs.toArray 0)).push (seqObj "list" #[] 0)};dsimp only;by_cases h2:vs.toArray.size < 2
 ·rw [if_pos h2,if_pos h2];refine PQ (PU ?_);rw [StateT.run_pure];refine PQ (PU ?_);dsimp only;refine PQ (seqEpoch_at ho6 rfl ?_);refine PQ (listUpdate_at ho6 rfl ?_ (hsz2:=by rw [Array.size_map];show (pairsOf vs).size<=_;rw [pairsOf_size,Ro];omega));simp only [Ua,P8,QK];have hl:vs.length < 2:=by simpa using h2
  have e:(arrOf (SortSt.mk' general' (vs.toArray.zip vs.toArray) #[] 7 none)).map (·.2)=(((List.range vs.length).toArray).toList.map λi=>vs.getD i Value.none).toArray:=by
   show (vs.toArray.zip vs.toArray).map (·.2)=_
   match vs,hl with
   | [],_=>simp
   | [x],_=>simp [List.range_succ]
  rw [e];exact PU (h _ ⟨List.Perm.refl _⟩ λi j h1 h2=>by omega)
 ·rw [if_neg h2,if_neg h2];have hl:2<=vs.length:=by simp at h2;exact h2
  refine PQ (Q7 (hk _ (λb o hb q=>?_) hl) (λκ s' hκ=>?_) λ_ _ x=>x.elim)
  ·have hbs:b < s.heap.objs.size:=P1 q;rw [R5 _ _ _ (by rw [size_push',SJ];exact Qh (Rr hbs)),R5 _ _ _ (by rw [SJ];exact Qh hbs),Heap.get?_update_ne _ _ _ _ hb];exact q
  ·obtain ⟨rfl,hc⟩:=hκ
   refine PQ (Q7 (kat_run (E:=E) (vs:=vs) (ks:=vs) (κ:=κ) (G:=λp s'=>s'={s with heap:=((s.heap.update a (Obj.mapSeq λ_=>#[])).push (seqObj "tuple" vs.toArray 0)).push (seqObj "list" #[] 0)}/\ck vs.length p/\xI lt p vs.length)
    (Q:=λst' s'=>s'={s with heap:=((s.heap.update a (Obj.mapSeq λ_=>#[])).push (seqObj "tuple" vs.toArray 0)).push (seqObj "list" #[] 0)}/\failedOf st'=none/\∃ p,ck vs.length p/\xI lt p vs.length/\(arrOf st').map (·.2)=List.toArray (p.toList.map λi=>vs.getD i Value.none))
    rfl hl h64 (λp st' s' a1 a2 a3 a4=>⟨a4.1,a3,p,a4.2.1,a4.2.2,kat_snds rfl a2⟩) ?_) ?_ λ_ _ e=>e)
   ·refine KasT.DC (lt:=lt) (n:=vs.length) (P:=λp=>ck vs.length p/\xI lt p vs.length) (I:=λs'=>s'={s with heap:=((s.heap.update a (Obj.mapSeq λ_=>#[])).push (seqObj "tuple" vs.toArray 0)).push (seqObj "list" #[] 0)}) ?_ ?_ _ _ (DF O (by omega)) rfl
    ·rintro i j C s' hi hj rfl q;exact hc i j C hi hj (q _ rfl)
    ·rintro p s' hp rfl;exact ⟨rfl,hp⟩
   ·rintro ⟨⟨⟩,st'⟩ s' ⟨rfl,hf,p,hp,hu,e⟩;dsimp only at hf e ⊢;rw [e];refine PQ (seqEpoch_at ho6 rfl ?_);refine PQ (listUpdate_at ho6 rfl ?_ (hsz2:=by rw [P7,Qa,QR,hp.size,Ro];omega));rw [hf];simp only [Ua,P8,QK];exact PU (h p hp hu)
theorem rH {l:Addr} {vs:Us} {lt:Nat->Nat->Bool} {Q:Uj} (hl:s.heap.IsList l vs.toArray) (O:mi lt vs.length) (h64:vs.length < 64)
  (hk:∀ h',(∀ b o,s.heap.get? b=some o->h'.get? b=some o)->2<=vs.length->DH prog w A.in1.in1 vs lt {s with heap:=h'})
  (h:∀ p:Uz,ck vs.length p->xI lt p vs.length->Q (.ref (s.heap.objs.size+1)) {s with heap:=sortedAll s.heap vs (p.toList.map λi=>vs.getD i Value.none).toArray}) :
  wpAny (model prog w) A (call (.builtin "sorted") [.ref l]) Q E s:=by
 refine Calls.call_function_entry kind_sorted plain_sorted entry_sorted (args_sorted1 _) ?_;unfold Builtin.«sorted»;refine PQ (m:=checkCount "sorted" 1 1 _) (PU ?_);refine PQ (collect_list hl ?_);refine PQ (wpAny_newList ?_);have hsz:((s.heap.push (seqObj "list" #[] 0)).update s.heap.objs.size (Obj.mapSeq (·++vs.toArray))).objs.size=s.heap.objs.size+1:=by rw [SJ,size_push']
 have hoL:(((s.heap.push (seqObj "list" #[] 0)).update s.heap.objs.size (Obj.mapSeq (·++vs.toArray))).push (seqObj "list" vs.toArray 0)).get? (s.heap.objs.size+1)=some (seqObj "list" vs.toArray 0):=by rw [<- hsz];exact P4 _ rfl
 show wpAny _ _ _ _ _ {s with heap:=((s.heap.push (seqObj "list" #[] 0)).update s.heap.objs.size (Obj.mapSeq (·++vs.toArray))).push (seqObj "list" vs.toArray 0)};rw [hsz];refine PQ (QG (Qy slot_list_sort ⟨_,hoL,rfl⟩ entry_list_sort (mB hoL O h64 (λh' k h2=>hk h' (λb o q=>?_) h2) λp a1 a2=>⟨_,rfl,?_⟩) (args_list_sort _)))
 ·have hlt:b < s.heap.objs.size:=P1 q;refine k b o (Qh (Rr hlt)) ?_;show (((s.heap.push (seqObj "list" #[] 0)).update s.heap.objs.size (Obj.mapSeq (·++vs.toArray))).push (seqObj "list" vs.toArray 0)).get? b=some o;rw [R5 _ _ _ (by rw [hsz];exact Qh (Rr hlt)),Heap.get?_update_ne _ _ _ _ (Qh hlt),R5 _ _ _ (Qh hlt)];exact q
 ·exact PU ⟨_,rfl,h p a1 a2⟩
end
end PySem.W
namespace L2
open PySem PySem.Spec PyProof.Rows
open PySem.W (mi ck xI DH rH KatLex kat_lt kat_one kas_mapM kas_first_eq Looks pat)
def mY (x y:Str):Bool:=decide (x.cps.toList < y.cps.toList)
theorem v8 (x:Str):mY x x=false:=strKind.irrefl _
theorem zB {x y z:Str} (h:mY x y=true) (h':mY y z=true):mY x z=true:=strKind.trans _ _ _ h h'
theorem DJ {x y:Str} (h:mY x y=true):mY y x=false:=by
 cases e:mY y x with
 | false=>rfl
 | true=>have:=zB h e;rw [v8] at this;exact this.symm
theorem AO {x y:Str} (h:mY x y=false) (h':mY y x=false):x=y:=by have e:=strKind.total x.cps.toList y.cps.toList h h';cases x;cases y;simpa using e
section
variable {P:UA} {w:World} {A:UC} {E:Uj} {s:UD}
theorem xJ {M:Model} {vs:Us} {T:Value} {Q:Option Value->UD->Prop} (h2:1<=vs.length) (hT:∀ v∈vs,Looks M s.heap (typeOf v) T) (hT2:(T == T)=true) (h:Q (some T) s) :
  wpAny M A (oneTypeOnly' vs.toArray) Q E s:=by
 obtain ⟨v,rest,rfl⟩:∃ v rest,vs=v::rest:=by
  match vs,h2 with
  | v::r,_=>exact ⟨v,r,rfl⟩
 rw [oneTypeOnly'_eq,List.mapM_toArray,map_eq_pure_bind];refine PQ (PQ (kas_mapM (r:=T) _ (λv hv Q' hq=>(hT v hv).here hq) (PU ?_)));have hall:((List.map (λ_=>T) (v::rest)).toArray.all λx=>x == T)=true:=by simp only [List.all_toArray,List.all_map,Qc];intro _ _;exact hT2
 have h0:(List.map (λ_=>T) (v::rest)).toArray[0]?=some T:=by simp
 rw [h0];simp only [hall,QB];exact PU h
end
section
variable {X:Cx} {k:Nat}
theorem jI {α:Type} (d:α):∀ (xs:List α),(List.range xs.length).map (λi=>xs.getD i d)=xs
 | []=>rfl
 | x::xs=>by
  rw [Qf,List.range_succ_eq_map,Qn,TZ];have:=jI d xs;simp only [List.getD_cons_zero,Sr,true_and]
  conv=>rhs;rw [<- this]
  exact List.map_congr_left λi _=>by simp
theorem Cj {vs:List V} {us:Us} (r:Vals vs us) (i:Nat) (hi:i < vs.length):RelV (vs.getD i .non) (us.getD i .none):=by
 obtain ⟨u,h1,h2⟩:=r.get (i:=i) (x:=vs[i]) (by simp [hi]);have e1:vs.getD i .non=vs[i]:=by simp [hi]
 have e2:us.getD i .none=u:=by simp [List.getD,h1]
 rw [e1,e2];exact h2
theorem uR {vs:List V} {us:Us} (r:Vals vs us):∀ (l:List Nat),(∀ i∈l,i < vs.length)->Vals (l.map λi=>vs.getD i .non) (l.map λi=>us.getD i .none)
 | [],_=>.nil
 | i::l,h=>.cons (Cj r i (h i (.head _))) (uR r l λj hj=>h j (.tail _ hj))
theorem uS {ds:Uq} {vs:List V} (r:bc H ds vs) (dd:PyData):∀ (l:List Nat),(∀ i∈l,i < vs.length)->bc H (l.map λi=>ds.getD i dd) (l.map λi=>vs.getD i .non)
 | [],_=>bc.nil
 | i::l,h=>by
  refine bc.cons ?_ (uS r dd l λj hj=>h j (.tail _ hj));have hi:=h i (.head _);obtain ⟨d,h1,h2⟩:=r.get (i:=i) (v:=vs[i]) (by simp [hi]);have e1:vs.getD i .non=vs[i]:=by simp [hi]
  have e2:ds.getD i dd=d:=by simp [List.getD,h1]
  show Rep H (ds.getD i dd) (vs.getD i .non);rw [e1,e2];exact h2
end
end L2
namespace Ml
open PySem
structure Xc where
 cls:Str
 args:Uq
inductive D where
 | dat (d:PyData)
 | ref (i:Nat)
 | jC (t:Bool) (kvs:Ul)
 | set (xs:Uq)
 | fn (n:Str)
 | exc (x:Xc)
 | scr (ns:List Int)
 | ktup (xs:Uq)
 | rpr (x:Str)
inductive MO where
 | lst (xs:List D)
 | jC (t:Bool) (kvs:Ul)
 | ins (C:Str) (fs:List (Str×D))
 | tab (P:Addr) (q:Str)
abbrev Hm:=List MO
abbrev Fm:=List (Option D)
inductive R (α:Type) where
 | ok (a:α) (h:Hm)
 | exc (x:Xc) (h:Hm)
 | bad
def R.bind {α β:Type}:R α->(α->Hm->R β)->R β
 | .ok a h,f=>f a h
 | .exc x h,_=>.exc x h
 | .bad,_=>.bad
def R.uh {α:Type}:R α->R α
 | .exc _ _=>.bad
 | r=>r
@[simp] theorem R.aZ {α:Type} {a:α} {h:Hm}:(R.ok a h).uh=.ok a h:=rfl
@[simp] theorem R.MF {α:Type}:(R.bad:R α).uh=.bad:=rfl
@[simp] theorem R.MH {α:Type} {x:Xc} {h:Hm}:(R.exc x h:R α).uh=.bad:=rfl
@[simp] theorem R.ak {α β:Type} {a:α} {h:Hm} {f:α->Hm->R β}:(R.ok a h).bind f=f a h:=rfl
@[simp] theorem R.DK {α β:Type} {x:Xc} {h:Hm} {f:α->Hm->R β}:(R.exc x h).bind f=.exc x h:=rfl
@[simp] theorem R.LV {α β:Type} {f:α->Hm->R β}:R.bad.bind f=.bad:=rfl
theorem R.bind_assoc {α β γ:Type} (r:R α) (f:α->Hm->R β) (g:β->Hm->R γ):(r.bind f).bind g=r.bind λa h=>(f a h).bind g:=by cases r<;>rfl
abbrev ME:=Fm->Hm->R D
abbrev MT:=Fm->Hm->R Bool
abbrev MA:=Fm->Hm->R (List D)
inductive Fl where
 | nx (ρ:Fm)
 | rt (d:D)
 | bk (ρ:Fm)
 | ct (ρ:Fm)
abbrev MS:=Fm->Hm->R Fl
abbrev Fn:=List D->Hm->R D
abbrev D.none:D:=.dat .none
abbrev D.bool (b:Bool):D:=.dat (.bool b)
abbrev D.int (i:Int):D:=.dat (.int i)
abbrev D.str (s:Str):D:=.dat (.str s)
def ab (i:Nat):ME:=λρ h=>match ρ[i]? with
 | some (some d)=>.ok d h
 | _=>.bad
def aj (d:PyData):ME:=λ_ h=>.ok (.dat d) h
def Pt (n:Str):ME:=λ_ h=>.ok (.fn n) h
def ah:MA:=λ_ h=>.ok [] h
def aa (e:ME) (a:MA):MA:=λρ h=>(e ρ h).bind λx h1=>(a ρ h1).bind λxs h2=>.ok (x::xs) h2
def aq (f:D->D->Hm->R D) (a b:ME):ME:=λρ h=>(a ρ h).bind λx h1=>(b ρ h1).bind λy h2=>f x y h2
def Ia (f:D->Hm->R D) (a:ME):ME:=λρ h=>(a ρ h).bind λx h1=>f x h1
def af (f:Fn) (a:MA):ME:=λρ h=>(a ρ h).bind λxs h1=>f xs h1
def aN (e:ME):MT:=λρ h=>(e ρ h).bind λx h1=>match x with
 | .dat (.bool b)=>.ok b h1
 | _=>.bad
def iW (t:MT):MT:=λρ h=>(t ρ h).bind λb h1=>.ok (!b) h1
def rf (t u:MT):MT:=λρ h=>(t ρ h).bind λb h1=>if b then u ρ h1 else .ok false h1
def tW (t u:MT):MT:=λρ h=>(t ρ h).bind λb h1=>if b then .ok true h1 else u ρ h1
def NW (a b:ME):ME:=λρ h=>(aN a ρ h).bind λc h1=>if c then b ρ h1 else .ok (.bool false) h1
def Pu (a b:ME):ME:=λρ h=>(aN a ρ h).bind λc h1=>if c then .ok (.bool true) h1 else b ρ h1
def NX (a:ME):ME:=λρ h=>(aN a ρ h).bind λc h1=>.ok (.bool !c) h1
def Py (t:MT) (a b:ME):ME:=λρ h=>(t ρ h).bind λc h1=>if c then a ρ h1 else b ρ h1
def D.data:D->Option PyData
 | .dat d=>some d
 | _=>Option.none
def g9:List D->Option (Uq)
 | []=>some []
 | x::xs=>match x.data,g9 xs with
  | some d,some ds=>some (d::ds)
  | _,_=>Option.none
theorem lF (ds:Uq):g9 (ds.map D.dat)=some ds:=by
 induction ds with
 | nil=>rfl
 | cons d ds ih=>simp [g9,D.data,ih]
def kj (n:Nat):Bool:=decide (n<=16777216)
def kD (xs:List D) (h:Hm):R D:=match g9 xs with
 | some ds=>if kj ds.length then .ok (.dat (.tuple ds)) h else .bad
 | Option.none=>.bad
def fO (xs:List D) (h:Hm):R D:=match g9 xs with
 | some ds=>if kj ds.length then .ok (.dat (.list ds)) h else .bad
 | Option.none=>.bad
def DL (xs:List D) (h:Hm):R D:=if kj xs.length then .ok (.ref h.length) (h++[.lst xs]) else .bad
def bV (a:MA):ME:=af kD a
def qJ (a:MA):ME:=af fO a
def v9 (a:MA):ME:=af DL a
def cW:MS:=λρ h=>.ok (.nx ρ) h
def bg (a b:MS):MS:=λρ h=>(a ρ h).bind λf h1=>match f with
 | .nx ρ1=>b ρ1 h1
 | f=>.ok f h1
def bF (i:Nat) (e:ME):MS:=λρ h=>(e ρ h).bind λx h1=>.ok (.nx (ρ.set i (some x))) h1
def mC (e:ME):MS:=λρ h=>(e ρ h).bind λ_ h1=>.ok (.nx ρ) h1
def cz (e:ME):MS:=λρ h=>(e ρ h).bind λx h1=>.ok (.rt x) h1
def mZ (t:MT) (a b:MS):MS:=λρ h=>(t ρ h).bind λc h1=>if c then a ρ h1 else b ρ h1
def JN:MS:=λρ h=>.ok (.bk ρ) h
def LW:MS:=λρ h=>.ok (.ct ρ) h
abbrev MG:=D->Fm->Hm->R Fm
def av (i:Nat):MG:=λx ρ h=>.ok (ρ.set i (some x)) h
abbrev AQ:=List D->Fm->Hm->R Fm
def jE:AQ:=λxs ρ h=>match xs with
 | []=>.ok ρ h
 | _=>.bad
def cx (g:MG) (gs:AQ):AQ:=λxs ρ h=>match xs with
 | []=>.bad
 | x::xs=>(g x ρ h).bind λρ1 h1=>gs xs ρ1 h1
def jF (gs:AQ):MG:=λx ρ h=>match x with
 | .dat (.tuple ds)=>gs (ds.map D.dat) ρ h
 | _=>.bad
def nQ (g:MG) (e:ME):MS:=λρ h=>(e ρ h).bind λx h1=>(g x ρ h1).bind λρ1 h2=>.ok (.nx ρ1) h2
def kE:List Nat->List D->Fm->Option Fm
 | [],[],ρ=>some ρ
 | i::is,x::xs,ρ=>kE is xs (ρ.set i (some x))
 | _,_,_=>Option.none
def DM (is:List Nat) (a:MA):MS:=λρ h=>(a ρ h).bind λxs h1=>match kE is xs ρ with
 | some ρ1=>.ok (.nx ρ1) h1
 | Option.none=>.bad
def AS (e:ME):MA:=λρ h=>(e ρ h).bind λx h1=>match x with
 | .dat (.tuple ds)=>.ok (ds.map D.dat) h1
 | _=>.bad
def DN (e:ME):MA:=λρ h=>(e ρ h).bind λx h1=>match x with
 | .dat (.list ds)=>.ok (ds.map D.dat) h1
 | _=>.bad
def signs (x:Str):List D:=(List.range x.cps.size).map λ(i:Nat)=>D.str ⟨#[x.cps.getD i 0]⟩
def DP (e:ME):MA:=λρ h=>(e ρ h).bind λx h1=>match x with
 | .dat (.str s)=>.ok (signs s) h1
 | _=>.bad
def nums (lo:Int) (n:Nat):List D:=(List.range n).map λ(i:Nat)=>D.int (lo+(i:Int))
def kF (a:MA):MA:=λρ h=>(a ρ h).bind λxs h1=>match xs with
 | [.dat (.int j)]=>if -(2 ^ 62)<=j/\j < 2 ^ 62 then .ok (nums 0 j.toNat) h1 else .bad
 | _=>.bad
def JO (a:MA):MA:=λρ h=>(a ρ h).bind λxs h1=>match xs with
 | [.dat (.int i),.dat (.int j)]=>if -(2 ^ 62)<=i/\i < 2 ^ 62/\-(2 ^ 62)<=j/\j < 2 ^ 62 then .ok (nums i (j - i).toNat) h1 else .bad
 | _=>.bad
def mj:Uq->Uq->List D
 | x::xs,y::ys=>.dat (.tuple [x,y])::mj xs ys
 | _,_=>[]
def AU (a:MA):MA:=λρ h=>(a ρ h).bind λxs h1=>match xs with
 | [.dat (.tuple ds),.dat (.tuple es)]=>.ok (mj ds es) h1
 | _=>.bad
noncomputable def bP (g:MG) (b:MS):List D->Fm->Hm->R Fl
 | [],ρ,h=>.ok (.nx ρ) h
 | x::xs,ρ,h=>(g x ρ h).uh.bind λρ1 h1=>(b ρ1 h1).uh.bind λf h2=>match f with
  | .nx ρ2=>bP g b xs ρ2 h2
  | .ct ρ2=>bP g b xs ρ2 h2
  | .bk ρ2=>.ok (.nx ρ2) h2
  | .rt d=>.ok (.rt d) h2
def kl (it:MA) (g:MG) (b:MS):MS:=λρ h=>(it ρ h).uh.bind λxs h1=>bP g b xs ρ h1
noncomputable def dZ (n:Nat) (ρ:Fm) (g:MG) (t:MT) (e:ME):List D->Hm->R (List D)
 | [],h=>.ok [] h
 | x::xs,h=>(g x (List.replicate n none++ρ) h).uh.bind λρ1 h1=>(t ρ1 h1).uh.bind λc h2=>
  if c then (e ρ1 h2).uh.bind λy h3=>(dZ n ρ g t e xs h3).bind λys h4=>.ok (y::ys) h4
  else dZ n ρ g t e xs h2
def cJ:MT:=λ_ h=>.ok true h
def mD (n:Nat) (it:MA) (g:MG) (t:MT) (e:ME):MA:=λρ h=>(it ρ h).bind λxs h1=>if kj xs.length then dZ n ρ g t e xs h1 else .bad
def cf (n:Nat) (it:MA) (g:MG) (t:MT) (e:ME):ME:=af fO (mD n it g t e)
def rJ:Fl->Hm->R D
 | .rt d,h=>.ok d h
 | .nx _,h=>.ok D.none h
 | _,_=>.bad
def bA (p n:Nat) (b:MS):Fn:=λxs h=>if xs.length=p then (b (xs.map some++List.replicate (n - p) none) h).bind rJ else .bad
def D.below (n:Nat):D->Bool
 | .ref i=>decide (i < n)
 | _=>true
def MO.below (n:Nat):MO->Bool
 | .lst xs=>xs.all (D.below n)
 | .jC _ _=>true
 | .ins _ fs=>fs.all λp=>p.2.below n
 | .tab _ _=>true
noncomputable def gq (f:Fn):Fn:=λxs h=>match f xs h with
 | .ok d h'=>if d.below h.length && (h'.take h.length).all (MO.below h.length) && decide (h.length<=h'.length) then .ok d (h'.take h.length) else .bad
 | .exc x h'=>if (h'.take h.length).all (MO.below h.length) && decide (h.length<=h'.length) then .exc x (h'.take h.length) else .bad
 | .bad=>.bad
def kC (f:D->Option PyData):List D->Option (Uq)
 | []=>some []
 | x::xs=>match f x,kC f xs with
  | some d,some ds=>some (d::ds)
  | _,_=>Option.none
def xq (h:Hm):Nat->D->Option PyData
 | _,.dat d=>some d
 | _,.ktup xs=>some (.tuple xs)
 | n+1,.ref i=>match h[i]? with
  | some (.lst xs)=>(kC (xq h n) xs).map .list
  | _=>Option.none
 | _,_=>Option.none
abbrev pV (h:Hm) (x:D):Option PyData:=xq h 3 x
@[simp] theorem lH (h:Hm) (n:Nat) (d:PyData):xq h n (.dat d)=some d:=by cases n<;>rfl
def listOf (x:D) (h:Hm):Option (Uq):=match x with
 | .dat (.list ds)=>some ds
 | .ref i=>match h[i]? with
  | some (.lst ys)=>g9 ys
  | _=>Option.none
 | _=>Option.none
noncomputable def dJ (x y:D) (h:Hm):R D:=match x,y with
 | .dat (.int i),.dat (.int j)=>.ok (.int (i+j)) h
 | .dat (.str s),.dat (.str t)=>if kj (s.length+t.length) then .ok (.str (s++t)) h else .bad
 | .dat (.tuple xs),.dat (.tuple ys)=>if kj (xs.length+ys.length) then .ok (.dat (.tuple (xs++ys))) h else .bad
 | .dat (.list xs),.dat (.list ys)=>if kj (xs.length+ys.length) then .ok (.dat (.list (xs++ys))) h else .bad
 | _,_=>.bad
def wa (x y:D) (h:Hm):R D:=match x,y with
 | .dat (.int i),.dat (.int j)=>.ok (.int (i - j)) h
 | _,_=>.bad
def uT (i j:Int):Bool:=(decide (-(2 ^ 64) < i) && decide (i < 2 ^ 64)) || (decide (-(2 ^ 64) < j) && decide (j < 2 ^ 64))
noncomputable def kG (x y:D) (h:Hm):R D:=match x,y with
 | .dat (.int i),.dat (.int j)=>if uT i j then .ok (.int (i * j)) h else .bad
 | .dat (.list xs),.dat (.int k)=>if kj (xs.length * k.toNat) && decide (-(2 ^ 63)<=k) && decide (k < 2 ^ 63) then .ok (.dat (.list (List.replicate k.toNat xs).flatten)) h else .bad
 | _,_=>.bad
def oMod (x y:D) (h:Hm):R D:=match x,y with
 | .dat (.int i),.dat (.int j)=>if 0 < j then .ok (.int (i % j)) h else .bad
 | _,_=>.bad
def uU (x y:D) (h:Hm):R D:=match x,y with
 | .dat (.int i),.dat (.int j)=>if 0 < j/\j < 1073741824 then .ok (.int (i / j)) h else .bad
 | _,_=>.bad
def NY (x:D) (h:Hm):R D:=match x with
 | .dat (.int i)=>.ok (.int (-i)) h
 | _=>.bad
def noDict (d:PyData):Bool:=!d.hasDict
def eqQ (d e:PyData):Option Bool:=if noDict d && noDict e && decide (min d.depth e.depth<=40) then some (PyData.eqv d e) else Option.none
def Ck (d e:PyData):Option Bool:=match d,e with
 | .str _,.dict _=>some false
 | .tuple ds,.dict _=>if noDict (.tuple ds) then some false else Option.none
 | d,e=>eqQ d e
def oEq (x y:D) (h:Hm):R D:=match x,y with
 | .rpr s,.rpr t=>.ok (.bool (decide (s=t))) h
 | x,y=>match pV h x,pV h y with
  | some d,some e=>match eqQ d e with
   | some b=>.ok (.bool b) h
   | Option.none=>.bad
  | _,_=>.bad
def m6 (x y:D) (h:Hm):R D:=match x,y with
 | .rpr s,.rpr t=>.ok (.bool (!decide (s=t))) h
 | x,y=>match pV h x,pV h y with
  | some d,some e=>match eqQ d e with
   | some b=>.ok (.bool !b) h
   | Option.none=>.bad
  | _,_=>.bad
def mY (x y:Str):Bool:=decide (x.cps.toList < y.cps.toList)
mutual
def bG:PyData->PyData->Option Bool
 | .int i,.int j=>some (decide (i < j))
 | .str x,.str y=>some (mY x y)
 | .tuple xs,.tuple ys=>cE xs ys
 | _,_=>Option.none
def cE:Uq->Uq->Option Bool
 | [],[]=>some false
 | [],_::_=>some true
 | _::_,[]=>some false
 | x::xs,y::ys=>if PyData.eqv x y then cE xs ys else bG x y
end
def oLt (x y:D) (h:Hm):R D:=match x,y with
 | .dat d,.dat e=>if noDict d && noDict e && decide (min d.depth e.depth<=40) then match bG d e with
  | some b=>.ok (.bool b) h
  | Option.none=>.bad
  else .bad
 | _,_=>.bad
def oLe (x y:D) (h:Hm):R D:=match x,y with
 | .dat (.int i),.dat (.int j)=>.ok (.bool (decide (i<=j))) h
 | .dat (.str s),.dat (.str t)=>.ok (.bool (!mY t s)) h
 | _,_=>.bad
def MI (x y:D) (h:Hm):R D:=match x,y with
 | .dat (.int i),.dat (.int j)=>.ok (.bool (decide (j < i))) h
 | _,_=>.bad
def LX (x y:D) (h:Hm):R D:=match x,y with
 | .dat (.int i),.dat (.int j)=>.ok (.bool (decide (j<=i))) h
 | _,_=>.bad
def CZ (x:PyData):Uq->Option Bool
 | []=>some false
 | y::ys=>match Ck y x,CZ x ys with
  | some a,some b=>some (a || b)
  | _,_=>Option.none
def fS:PyData->Bool
 | .tuple _=>true
 | _=>false
def fT:PyData->Bool
 | .str _=>true
 | _=>false
def nR (k:PyData) (kvs:Ul):Bool:=kvs.any λp=>PyData.eqv p.1 k
def jq (y:D) (h:Hm):Option (Bool×Ul):=match y with
 | .jC t kvs=>some (t,kvs)
 | .ref i=>match h[i]? with
  | some (.jC t kvs)=>some (t,kvs)
  | _=>Option.none
 | _=>Option.none
mutual
def aw:PyData->Bool
 | .str _=>true
 | .tuple ds=>aY ds
 | _=>false
def aY:Uq->Bool
 | []=>true
 | d::ds=>aw d && aY ds
end
def keyOk (t:Bool) (k:PyData):Bool:=if t then fS k && aw k && decide (k.depth<=8) else fT k
def wb (x:D) (kvs:Ul) (t:Bool):Option Bool:=match x with
 | .dat d=>if keyOk t d then some (nR d kvs) else Option.none
 | _=>Option.none
noncomputable def nS (x y:D) (h:Hm):Option Bool:=match y with
 | .dat (.str s)=>match x with
  | .dat (.str t)=>some (!(Builtin.Str.occurrences s t 0 s.length 1).isEmpty)
  | _=>Option.none
 | y=>match pV h x,pV h y with
  | some d,some (.tuple ds)=>CZ d ds
  | some d,some (.list ds)=>CZ d ds
  | _,_=>Option.none
def findIn (x y:D) (h:Hm):Option Bool:=match jq y h with
 | some p=>wb x p.2 p.1
 | Option.none=>nS x y h
def oX (x y:D) (h:Hm):R D:=match findIn x y h with
 | some b=>.ok (.bool b) h
 | Option.none=>.bad
def ui (x y:D) (h:Hm):R D:=match findIn x y h with
 | some b=>.ok (.bool !b) h
 | Option.none=>.bad
def kH:PyData->Bool
 | .none | .bool _ | .int _ | .str _=>true
 | _=>false
def dput (kvs:Ul) (k v:PyData):Ul:=
 if nR k kvs then kvs.map (λp=>if PyData.eqv p.1 k then (p.1,v) else p) else kvs++[(k,v)]
def rK (kvs:Ul) (k:PyData):Option PyData:=(kvs.find? λp=>PyData.eqv p.1 k).map (·.2)
def tZ (n:Nat) (i:Int):Option Nat:=if 0<=i then (if i < n then some i.toNat else Option.none) else if -(n:Int)<=i then some (i+n).toNat else Option.none
def mf {α:Type} (xs:List α) (i:Int):Option α:=(tZ xs.length i).bind λj=>xs[j]?
noncomputable def wc (x y:D) (h:Hm):R D:=match y with
 | .dat (.int i)=>match x with
  | .dat (.tuple ds)=>match mf ds i with | some d=>.ok (.dat d) h | Option.none=>.bad
  | .dat (.list ds)=>match mf ds i with | some d=>.ok (.dat d) h | Option.none=>.bad
  | .ref j=>match h[j]? with
   | some (.lst xs)=>match mf xs i with | some d=>.ok d h | Option.none=>.bad
   | _=>.bad
  | .scr ns=>match mf ns i with | some n=>.ok (.int n) h | Option.none=>.bad
  | _=>.bad
 | _=>.bad
def dY (x y:D) (h:Hm):R D:=match jq x h with
 | some p=>match y with
  | .dat (.str k)=>if p.1 then .bad else match rK p.2 (.str k) with
   | some v=>.ok (.dat v) h
   | Option.none=>.bad
  | _=>.bad
 | Option.none=>wc x y h
def eF (n d:Nat):Option Int->Nat
 | Option.none=>d
 | some v=>if v < 0 then (v+(n:Int)).toNat else min v.toNat n
def cut {α:Type} (ds:List α) (lo hi:Option Int):List α:=(ds.drop (eF ds.length 0 lo)).take (eF ds.length ds.length hi - eF ds.length 0 lo)
abbrev FQ:=Fm->Hm->R (Option Int)
def AV:FQ:=λ_ h=>.ok Option.none h
def mE (e:ME):FQ:=λρ h=>(e ρ h).bind λx h1=>match x with
 | .dat (.int i)=>.ok (some i) h1
 | _=>.bad
def LY (x:D) (lo hi:Option Int) (h:Hm):R D:=match x with
 | .dat (.tuple ds)=>.ok (.dat (.tuple (cut ds lo hi))) h
 | .dat (.list ds)=>.ok (.dat (.list (cut ds lo hi))) h
 | _=>.bad
def MJ (e:ME) (lo hi:FQ):ME:=λρ h=>(e ρ h).bind λx h1=>(lo ρ h1).bind λl h2=>(hi ρ h2).bind λu h3=>LY x l u h3
noncomputable def fc:Fn:=λxs h=>match xs with
 | [.dat (.str s)]=>if kj s.length then .ok (.int s.length) h else .bad
 | [.dat (.tuple ds)]=>.ok (.int ds.length) h
 | [.dat (.list ds)]=>.ok (.int ds.length) h
 | [.ref i]=>match h[i]? with
  | some (.lst ys)=>.ok (.int ys.length) h
  | _=>.bad
 | [.scr ns]=>.ok (.int ns.length) h
 | _=>.bad
def bools:Uq->Option (List Bool)
 | []=>some []
 | .bool b::ds=>(bools ds).map (b::·)
 | _=>Option.none
theorem Cm (bs:List Bool):bools (bs.map .bool)=some bs:=by
 induction bs with
 | nil=>rfl
 | cons b bs ih=>simp [bools,ih]
def we:Fn:=λxs h=>match xs with
 | [.dat (.list ds)]=>match bools ds with
  | some bs=>.ok (.bool (bs.all id)) h
  | Option.none=>.bad
 | _=>.bad
def isTup:PyData->Bool | .tuple _=>true | _=>false
def isStr:PyData->Bool | .str _=>true | _=>false
def isInt:PyData->Bool | .int _ | .bool _=>true | _=>false
def rL:PyData->Bool | .bool _=>true | _=>false
def xK (f:PyData->Bool):D->Hm->R D:=λx h=>match x with
 | .dat d=>.ok (.bool (f d)) h
 | _=>.bad
def hE (x:Str):Uq:=(List.range x.cps.size).map λ(i:Nat)=>.str ⟨#[x.cps.getD i 0]⟩
noncomputable def fe:Fn:=λxs h=>match xs with
 | [.dat (.tuple ds)]=>.ok (.dat (.tuple ds)) h
 | [.dat (.str s)]=>if kj s.cps.size then .ok (.dat (.tuple (hE s))) h else .bad
 | [x]=>match listOf x h with
  | some ds=>.ok (.dat (.tuple ds)) h
  | Option.none=>.bad
 | _=>.bad
def rM:Fn:=λxs h=>match xs with
 | [.dat (.tuple ds)]=>.ok (.dat (.list ds)) h
 | [x]=>match listOf x h with
  | some ds=>.ok (.dat (.list ds)) h
  | Option.none=>.bad
 | _=>.bad
def zC (lt:PyData->PyData->Bool) (x:PyData):Uq->Uq
 | []=>[x]
 | y::ys=>if lt y x then y::zC lt x ys else x::y::ys
def cQ (lt:PyData->PyData->Bool):Uq->Uq
 | []=>[]
 | x::xs=>zC lt x (cQ lt xs)
def ltB (d e:PyData):Bool:=(bG d e).getD false
def xM (d:PyData):Bool:=d.showable && noDict d && decide (d.depth<=40) && kj d.shown.length
def DQ (d:PyData):Bool:=match d with
 | .dict _=>d.showable && decide (d.depth<=20) && kj d.shown.length
 | _=>false
def gI:Fn:=λxs h=>match xs with
 | [x]=>match pV h x with
  | some d=>if xM d || DQ d then .ok (.rpr d.shown) h else .bad
  | Option.none=>.bad
 | _=>.bad
def nU:Fn:=λxs h=>match xs with
 | [.dat (.int i),.dat (.int j)]=>if 0 < j/\j < 1073741824 then .ok (.dat (.tuple [.int (i / j),.int (i % j)])) h else .bad
 | _=>.bad
def Cn:Fn:=λxs h=>match xs with
 | [.dat (.int i),.dat (.int j)]=>.ok (.int (if j > i then j else i)) h
 | _=>.bad
def DR:Fn:=λxs h=>match xs with
 | [.dat (.int i)]=>.ok (.int i) h
 | [.dat (.bool b)]=>.ok (.int (if b then 1 else 0)) h
 | _=>.bad
def gf (x y:D) (h:Hm):R D:=match x with
 | .ref i=>match h[i]? with
  | some (.lst xs)=>if decide (xs.length < 16777216) then .ok D.none (h.set i (.lst (xs++[y]))) else .bad
  | _=>.bad
 | _=>.bad
noncomputable def o9 (x y:D) (h:Hm):R D:=match x,y with
 | .ref i,.dat (.int k)=>match h[i]? with
  | some (.lst xs)=>if 0<=k/\k < xs.length/\k < 1000000 then match xs[k.toNat]? with
    | some d=>.ok d (h.set i (.lst (xs.eraseIdx k.toNat)))
    | Option.none=>.bad
   else .bad
  | _=>.bad
 | _,_=>.bad
def AW (x y v:D) (h:Hm):R Unit:=match x,y with
 | .ref i,.dat (.int k)=>match h[i]? with
  | some (.lst xs)=>match tZ xs.length k with
   | some j=>.ok () (h.set i (.lst (xs.set j v)))
   | Option.none=>.bad
  | _=>.bad
 | _,_=>.bad
def Ib (i:Nat) (t:Bool) (kvs:Ul) (y v:D) (h:Hm):R Unit:=match y,v with
 | .dat k,.dat d=>if keyOk t k && (t || kH d) && decide (kvs.length < 16777216) then .ok () (h.set i (.jC t (dput kvs k d))) else .bad
 | _,_=>.bad
def wg (x y v:D) (h:Hm):R Unit:=match x with
 | .ref i=>match h[i]? with
  | some (.jC t kvs)=>Ib i t kvs y v h
  | _=>AW x y v h
 | _=>.bad
def xx (eo ei:ME):MG:=λv ρ h=>(eo ρ h).bind λo h1=>(ei ρ h1).bind λi h2=>(wg o i v h2).bind λ_ h3=>.ok ρ h3
noncomputable def truth (x:D) (h:Hm):Option Bool:=match x with
 | .dat .none=>some false
 | .dat (.bool b)=>some b
 | .dat (.int i)=>some (i != 0)
 | .dat (.str s)=>if kj s.length then some ((s.length:Int) != 0) else Option.none
 | .dat (.tuple ds)=>some !ds.isEmpty
 | .dat (.list ds)=>some !ds.isEmpty
 | .ref i=>match h[i]? with
  | some (.lst xs)=>some !xs.isEmpty
  | _=>Option.none
 | _=>Option.none
def cn (e:ME):MT:=λρ h=>(e ρ h).bind λx h1=>match truth x h1 with
 | some b=>.ok b h1
 | Option.none=>.bad
mutual
def cb:PyData->Bool
 | .str x=>PyData.strOk x
 | .list xs | .tuple xs=>cD xs
 | _=>true
def cD:Uq->Bool
 | []=>true
 | x::xs=>cb x && cD xs
end
mutual
theorem i9:∀ {d:PyData},cb d=true->d.hasDict=false->d.canLay0=true
 | .none,_,_=>by simp [PyData.canLay0]
 | .bool _,_,_=>by simp [PyData.canLay0]
 | .int _,_,_=>by simp [PyData.canLay0]
 | .str x,h,_=>by simp only [cb] at h;simpa [PyData.canLay0] using h
 | .tuple ds,h,k=>by simp only [cb] at h;simp only [PyData.hasDict] at k;simp only [PyData.canLay0];exact nV h k
 | .list ds,h,k=>by simp only [cb] at h;simp only [PyData.hasDict] at k;simp only [PyData.canLay0];exact nV h k
 | .dict _,_,k=>by simp [PyData.hasDict] at k
theorem nV:∀ {ds:Uq},cD ds=true->PyData.hasDictAll ds=false->PyData.canLayAll0 ds=true
 | [],_,_=>by simp [PyData.canLayAll0]
 | d::ds,h,k=>by simp only [cD,PV] at h;simp only [PyData.hasDictAll,TH] at k;simp only [PyData.canLayAll0,PV];exact ⟨i9 h.1 k.1,nV h.2 k.2⟩
end
mutual
def ag:PyData->Bool
 | .int _ | .str _=>true
 | .tuple ds=>ao ds
 | _=>false
def ao:Uq->Bool
 | []=>true
 | d::ds=>ag d && ao ds
end
theorem aM:∀ {ds:Uq} {d:PyData},ao ds=true->d∈ds->ag d=true
 | _::_,d,h,m=>by
  simp only [ao,PV] at h;rcases PZ.mp m with rfl | m
  ·exact h.1
  ·exact aM h.2 m
theorem iz:∀ {ds:Uq},(∀ d∈ds,ag d=true)->ao ds=true
 | [],_=>by simp [ao]
 | d::ds,h=>by simp only [ao,PV];exact ⟨h d (by simp),iz λe m=>h e (by simp [m])⟩
mutual
theorem kI:∀ {d e:PyData},ag d=true->ag e=true->(PyData.eqv d e=true<->d=e)
 | .int i,.int j,_,_=>by simp [PyData.eqv]
 | .str x,.str y,_,_=>by simp [PyData.eqv]
 | .tuple xs,.tuple ys,h,k=>by simp only [ag] at h k;simp only [PyData.eqv,Sk];exact uV h k
 | .int _,.str _,_,_=>by simp [PyData.eqv]
 | .int _,.tuple _,_,_=>by simp [PyData.eqv]
 | .str _,.int _,_,_=>by simp [PyData.eqv]
 | .str _,.tuple _,_,_=>by simp [PyData.eqv]
 | .tuple _,.int _,_,_=>by simp [PyData.eqv]
 | .tuple _,.str _,_,_=>by simp [PyData.eqv]
 | .none,_,h,_=>by simp [ag] at h
 | .bool _,_,h,_=>by simp [ag] at h
 | .list _,_,h,_=>by simp [ag] at h
 | .dict _,_,h,_=>by simp [ag] at h
 | .int _,.none,_,h=>by simp [ag] at h
 | .int _,.bool _,_,h=>by simp [ag] at h
 | .int _,.list _,_,h=>by simp [ag] at h
 | .int _,.dict _,_,h=>by simp [ag] at h
 | .str _,.none,_,h=>by simp [ag] at h
 | .str _,.bool _,_,h=>by simp [ag] at h
 | .str _,.list _,_,h=>by simp [ag] at h
 | .str _,.dict _,_,h=>by simp [ag] at h
 | .tuple _,.none,_,h=>by simp [ag] at h
 | .tuple _,.bool _,_,h=>by simp [ag] at h
 | .tuple _,.list _,_,h=>by simp [ag] at h
 | .tuple _,.dict _,_,h=>by simp [ag] at h
theorem uV:∀ {xs ys:Uq},ao xs=true->ao ys=true->(PyData.eqvAll xs ys=true<->xs=ys)
 | [],[],_,_=>by simp [PyData.eqvAll]
 | [],_::_,_,_=>by simp [PyData.eqvAll]
 | _::_,[],_,_=>by simp [PyData.eqvAll]
 | x::xs,y::ys,h,k=>by simp only [ao,PV] at h k;simp only [PyData.eqvAll,PV,Sr];rw [kI h.1 k.1,uV h.2 k.2]
end
mutual
theorem bW:∀ {d:PyData},ag d=true->d.hasDict=false
 | .int _,_=>rfl
 | .str _,_=>rfl
 | .tuple ds,h=>by simp only [ag] at h;simp only [PyData.hasDict];exact ff h
 | .none,h=>by simp [ag] at h
 | .bool _,h=>by simp [ag] at h
 | .list _,h=>by simp [ag] at h
 | .dict _,h=>by simp [ag] at h
theorem ff:∀ {ds:Uq},ao ds=true->PyData.hasDictAll ds=false
 | [],_=>rfl
 | d::ds,h=>by simp only [ao,PV] at h;simp only [PyData.hasDictAll,TH];exact ⟨bW h.1,ff h.2⟩
end
theorem aU {d:PyData} (h:ag d=true):PyData.eqv d d=true:=(kI h h).mpr rfl
theorem aS {d e:PyData} (h:ag d=true) (k:ag e=true) (ne:d≠e):PyData.eqv d e=false:=by
 cases q:PyData.eqv d e with
 | false=>rfl
 | true=>exact absurd ((kI h k).mp q) ne
theorem NZ {x y:Str} (h:x.cps.toList=y.cps.toList):x=y:=by obtain ⟨⟨a⟩⟩:=x;obtain ⟨⟨b⟩⟩:=y;simp at h;subst h;rfl
theorem v8 (x:Str):mY x x=false:=Ql (List.lt_irrefl _)
theorem zB {x y z:Str} (h:mY x y=true) (h':mY y z=true):mY x z=true:=Qj (List.lt_trans (QS h) (QS h'))
theorem DJ {x y:Str} (h:mY x y=true):mY y x=false:=Ql λz=>List.lt_irrefl _ (List.lt_trans (QS h) z)
theorem AO {x y:Str} (h:mY x y=false) (h':mY y x=false):x=y:=
 NZ (List.le_antisymm (List.not_lt.mp (of_decide_eq_false h')) (List.not_lt.mp (of_decide_eq_false h)))
mutual
theorem DU:∀ {d e:PyData},ag d=true->ag e=true->bG d e=some true->bG e d=some false
 | .int i,.int j,_,_,h=>by simp [bG] at h ⊢;omega
 | .str x,.str y,_,_,h=>by simp only [bG,R3] at h ⊢;exact DJ h
 | .tuple xs,.tuple ys,h,k,q=>by simp only [ag] at h k;simp only [bG] at q ⊢;exact AX h k q
 | .int _,.str _,_,_,h=>by simp [bG] at h
 | .int _,.tuple _,_,_,h=>by simp [bG] at h
 | .str _,.int _,_,_,h=>by simp [bG] at h
 | .str _,.tuple _,_,_,h=>by simp [bG] at h
 | .tuple _,.int _,_,_,h=>by simp [bG] at h
 | .tuple _,.str _,_,_,h=>by simp [bG] at h
 | .none,_,h,_,_=>by simp [ag] at h
 | .bool _,_,h,_,_=>by simp [ag] at h
 | .list _,_,h,_,_=>by simp [ag] at h
 | .dict _,_,h,_,_=>by simp [ag] at h
 | _,.none,_,h,_=>by simp [ag] at h
 | _,.bool _,_,h,_=>by simp [ag] at h
 | _,.list _,_,h,_=>by simp [ag] at h
 | _,.dict _,_,h,_=>by simp [ag] at h
theorem AX:∀ {xs ys:Uq},ao xs=true->ao ys=true->cE xs ys=some true->cE ys xs=some false
 | [],[],_,_,h=>by simp [cE] at h
 | [],_::_,_,_,_=>by simp [cE]
 | _::_,[],_,_,h=>by simp [cE] at h
 | x::xs,y::ys,h,k,q=>by
  simp only [ao,PV] at h k;simp only [cE] at q ⊢;by_cases e:x=y
  ·subst e;rw [aU h.1,if_pos rfl] at q ⊢;exact AX h.2 k.2 q
  ·rw [aS h.1 k.1 e,if_neg (by simp)] at q;rw [aS k.1 h.1 (λz=>e z.symm),if_neg (by simp)];exact DU h.1 k.1 q
end
mutual
theorem AY:∀ {d e:PyData},ag d=true->ag e=true->bG d e=some false->bG e d=some false->d=e
 | .int i,.int j,_,_,h,h'=>by simp [bG] at h h';congr 1;omega
 | .str x,.str y,_,_,h,h'=>by simp only [bG,R3] at h h';rw [AO h h']
 | .tuple xs,.tuple ys,h,k,q,q'=>by simp only [ag] at h k;simp only [bG] at q q';rw [xN h k q q']
 | .int _,.str _,_,_,h,_=>by simp [bG] at h
 | .int _,.tuple _,_,_,h,_=>by simp [bG] at h
 | .str _,.int _,_,_,h,_=>by simp [bG] at h
 | .str _,.tuple _,_,_,h,_=>by simp [bG] at h
 | .tuple _,.int _,_,_,h,_=>by simp [bG] at h
 | .tuple _,.str _,_,_,h,_=>by simp [bG] at h
 | .none,_,h,_,_,_=>by simp [ag] at h
 | .bool _,_,h,_,_,_=>by simp [ag] at h
 | .list _,_,h,_,_,_=>by simp [ag] at h
 | .dict _,_,h,_,_,_=>by simp [ag] at h
 | _,.none,_,h,_,_=>by simp [ag] at h
 | _,.bool _,_,h,_,_=>by simp [ag] at h
 | _,.list _,_,h,_,_=>by simp [ag] at h
 | _,.dict _,_,h,_,_=>by simp [ag] at h
theorem xN:∀ {xs ys:Uq},ao xs=true->ao ys=true->cE xs ys=some false->cE ys xs=some false->xs=ys
 | [],[],_,_,_,_=>rfl
 | [],_::_,_,_,h,_=>by simp [cE] at h
 | _::_,[],_,_,_,h=>by simp [cE] at h
 | x::xs,y::ys,h,k,q,q'=>by
  simp only [ao,PV] at h k;simp only [cE] at q q';by_cases e:x=y
  ·subst e;rw [aU h.1,if_pos rfl] at q q';rw [xN h.2 k.2 q q']
  ·rw [aS h.1 k.1 e,if_neg (by simp)] at q;rw [aS k.1 h.1 (λz=>e z.symm),if_neg (by simp)] at q';exact absurd (AY h.1 k.1 q q') e
end
mutual
theorem AZ:∀ {d:PyData},ag d=true->bG d d=some false
 | .int i,_=>by simp [bG]
 | .str x,_=>by simp [bG,v8]
 | .tuple xs,h=>by simp only [ag] at h;simp only [bG];exact xO h
 | .none,h=>by simp [ag] at h
 | .bool _,h=>by simp [ag] at h
 | .list _,h=>by simp [ag] at h
 | .dict _,h=>by simp [ag] at h
theorem xO:∀ {xs:Uq},ao xs=true->cE xs xs=some false
 | [],_=>by simp [cE]
 | x::xs,h=>by simp only [ao,PV] at h;simp only [cE];rw [aU h.1,if_pos rfl];exact xO h.2
end
mutual
theorem DV:∀ {d e f:PyData},ag d=true->ag e=true->ag f=true->bG d e=some true->bG e f=some true->bG d f=some true
 | .int i,.int j,.int k,_,_,_,h,h'=>by simp [bG] at h h' ⊢;omega
 | .str x,.str y,.str z,_,_,_,h,h'=>by simp only [bG,R3] at h h' ⊢;exact zB h h'
 | .tuple xs,.tuple ys,.tuple zs,h,k,l,q,q'=>by simp only [ag] at h k l;simp only [bG] at q q' ⊢;exact A0 h k l q q'
 | .none,_,_,h,_,_,_,_=>by simp [ag] at h
 | .bool _,_,_,h,_,_,_,_=>by simp [ag] at h
 | .list _,_,_,h,_,_,_,_=>by simp [ag] at h
 | .dict _,_,_,h,_,_,_,_=>by simp [ag] at h
 | .int _,.none,_,_,_,_,h,_=>by simp [bG] at h
 | .int _,.bool _,_,_,_,_,h,_=>by simp [bG] at h
 | .int _,.str _,_,_,_,_,h,_=>by simp [bG] at h
 | .int _,.list _,_,_,_,_,h,_=>by simp [bG] at h
 | .int _,.tuple _,_,_,_,_,h,_=>by simp [bG] at h
 | .int _,.dict _,_,_,_,_,h,_=>by simp [bG] at h
 | .str _,.none,_,_,_,_,h,_=>by simp [bG] at h
 | .str _,.bool _,_,_,_,_,h,_=>by simp [bG] at h
 | .str _,.int _,_,_,_,_,h,_=>by simp [bG] at h
 | .str _,.list _,_,_,_,_,h,_=>by simp [bG] at h
 | .str _,.tuple _,_,_,_,_,h,_=>by simp [bG] at h
 | .str _,.dict _,_,_,_,_,h,_=>by simp [bG] at h
 | .tuple _,.none,_,_,_,_,h,_=>by simp [bG] at h
 | .tuple _,.bool _,_,_,_,_,h,_=>by simp [bG] at h
 | .tuple _,.int _,_,_,_,_,h,_=>by simp [bG] at h
 | .tuple _,.list _,_,_,_,_,h,_=>by simp [bG] at h
 | .tuple _,.str _,_,_,_,_,h,_=>by simp [bG] at h
 | .tuple _,.dict _,_,_,_,_,h,_=>by simp [bG] at h
 | .int _,.int _,.none,_,_,_,_,h=>by simp [bG] at h
 | .int _,.int _,.bool _,_,_,_,_,h=>by simp [bG] at h
 | .int _,.int _,.str _,_,_,_,_,h=>by simp [bG] at h
 | .int _,.int _,.list _,_,_,_,_,h=>by simp [bG] at h
 | .int _,.int _,.tuple _,_,_,_,_,h=>by simp [bG] at h
 | .int _,.int _,.dict _,_,_,_,_,h=>by simp [bG] at h
 | .str _,.str _,.none,_,_,_,_,h=>by simp [bG] at h
 | .str _,.str _,.bool _,_,_,_,_,h=>by simp [bG] at h
 | .str _,.str _,.int _,_,_,_,_,h=>by simp [bG] at h
 | .str _,.str _,.list _,_,_,_,_,h=>by simp [bG] at h
 | .str _,.str _,.tuple _,_,_,_,_,h=>by simp [bG] at h
 | .str _,.str _,.dict _,_,_,_,_,h=>by simp [bG] at h
 | .tuple _,.tuple _,.none,_,_,_,_,h=>by simp [bG] at h
 | .tuple _,.tuple _,.bool _,_,_,_,_,h=>by simp [bG] at h
 | .tuple _,.tuple _,.int _,_,_,_,_,h=>by simp [bG] at h
 | .tuple _,.tuple _,.list _,_,_,_,_,h=>by simp [bG] at h
 | .tuple _,.tuple _,.str _,_,_,_,_,h=>by simp [bG] at h
 | .tuple _,.tuple _,.dict _,_,_,_,_,h=>by simp [bG] at h
theorem A0:∀ {xs ys zs:Uq},ao xs=true->ao ys=true->ao zs=true->cE xs ys=some true->cE ys zs=some true->cE xs zs=some true
 | [],[],_,_,_,_,h,_=>by simp [cE] at h
 | [],_::_,[],_,_,_,_,h=>by simp [cE] at h
 | [],_::_,_::_,_,_,_,_,_=>by simp [cE]
 | _::_,[],_,_,_,_,h,_=>by simp [cE] at h
 | _::_,_::_,[],_,_,_,_,h=>by simp [cE] at h
 | x::xs,y::ys,z::zs,h,k,l,q,q'=>by
  simp only [ao,PV] at h k l;simp only [cE] at q q' ⊢;by_cases e1:x=y
  ·subst e1;rw [aU h.1,if_pos rfl] at q;by_cases e2:x=z
   ·subst e2;rw [aU h.1,if_pos rfl] at q' ⊢;exact A0 h.2 k.2 l.2 q q'
   ·rw [aS h.1 l.1 e2,if_neg (by simp)] at q' ⊢;exact q'
  ·rw [aS h.1 k.1 e1,if_neg (by simp)] at q;by_cases e2:y=z
   ·subst e2;rw [aS h.1 k.1 e1,if_neg (by simp)];exact q
   ·rw [aS k.1 l.1 e2,if_neg (by simp)] at q';have q3:=DV h.1 k.1 l.1 q q';by_cases e3:x=z
    ·subst e3;rw [AZ h.1] at q3;cases q3
    ·rw [aS h.1 l.1 e3,if_neg (by simp)];exact q3
end
def dw (ds:Uq):Bool:=ds.all λa=>ds.all λb=>(bG a b).isSome
theorem eU {ds:Uq} (h:dw ds=true) {a b:PyData} (ha:a∈ds) (hb:b∈ds):bG a b=some (ltB a b):=by
 have:=Qc.mp (Qc.mp h a ha) b hb;unfold ltB
 cases q:bG a b with
 | none=>rw [q] at this;cases this
 | some k=>rfl
def gF:PyData->Bool | .tuple _=>true | _=>false
def rN:PyData->Bool | .str _=>true | _=>false
def fg (ds:Uq):Bool:=(ds.all rN || ds.all gF) && ao ds && dw ds && decide (PyData.depthAll ds<=20) && decide (ds.length < 64)
def lJ:Fn:=λxs h=>match xs with
 | [x]=>match listOf x h with
  | some ds=>if fg ds then .ok (.dat (.list (cQ ltB ds))) h else .bad
  | Option.none=>.bad
 | _=>.bad
theorem pb {ds:Uq} (c:dw ds=true) (t:ao ds=true) {a b:PyData} (ha:a∈ds) (hb:b∈ds) (h:ltB a b=true):ltB b a=false:=by have h1:=eU c ha hb;rw [h] at h1;unfold ltB;rw [DU (aM t ha) (aM t hb) h1];rfl
theorem nW {ds:Uq} (c:dw ds=true) (t:ao ds=true) {a b:PyData} (ha:a∈ds) (hb:b∈ds) (h:ltB b a=false):ltB a b=true\/a=b:=by
 cases q:ltB a b with
 | true=>exact .inl rfl
 | false=>have h1:=eU c ha hb;have h2:=eU c hb ha;rw [q] at h1;rw [h] at h2;exact .inr (AY (aM t ha) (aM t hb) h1 h2)
theorem A1 {ds:Uq} (c:dw ds=true) (t:ao ds=true) {a b d:PyData} (ha:a∈ds) (hb:b∈ds) (hd:d∈ds) (h:ltB b a=false) (h':ltB d b=false):ltB d a=false:=by
 rcases nW c t ha hb h with h1 | rfl
 ·rcases nW c t hb hd h' with h2 | rfl
  ·have q1:=eU c ha hb;have q2:=eU c hb hd;rw [h1] at q1;rw [h2] at q2;have q3:=DV (aM t ha) (aM t hb) (aM t hd) q1 q2;exact pb c t ha hd (by unfold ltB;rw [q3];rfl)
  ·exact pb c t ha hb h1
 ·exact h'
theorem pe (lt:PyData->PyData->Bool) (x:PyData):∀ ys:Uq,(zC lt x ys).Perm (x::ys)
 | []=>.refl _
 | y::ys=>by
  unfold zC;split
  ·exact ((pe lt x ys).cons y).trans (.swap x y ys)
  ·exact .refl _
theorem bR (lt:PyData->PyData->Bool):∀ xs:Uq,(cQ lt xs).Perm xs
 | []=>.refl _
 | x::xs=>(pe lt x _).trans ((bR lt xs).cons x)
def Up (lt:PyData->PyData->Bool) (xs:Uq):Prop:=xs.Pairwise λa b=>lt b a=false
structure Ord (lt:PyData->PyData->Bool) (ds:Uq):Prop where
 as:∀ {a b},a∈ds->b∈ds->lt a b=true->lt b a=false
 ntr:∀ {a b d},a∈ds->b∈ds->d∈ds->lt b a=false->lt d b=false->lt d a=false
 tot:∀ {a b},a∈ds->b∈ds->lt a b=false->lt b a=false->a=b
theorem Ord.sub {lt:PyData->PyData->Bool} {ds es:Uq} (o:Ord lt ds) (h:∀ e∈es,e∈ds):Ord lt es:=
 ⟨λa b=>o.as (h _ a) (h _ b),λa b d=>o.ntr (h _ a) (h _ b) (h _ d),λa b=>o.tot (h _ a) (h _ b)⟩
theorem A3 {lt:PyData->PyData->Bool} {x:PyData}:∀ {ys:Uq},Ord lt (x::ys)->Up lt ys->Up lt (zC lt x ys)
 | [],_,_=>by simp [zC,Up]
 | y::ys,o,u=>by
  unfold zC;unfold Up at u;rw [QL] at u;split
  ·rename_i h;refine QL.mpr ⟨λb hb=>?_,A3 (o.sub λe m=>by simp at m ⊢;rcases m with rfl | m<;>simp [*]) u.2⟩;rcases PZ.mp ((pe lt x ys).mem_iff.mp hb) with rfl | hb
   ·exact o.as (by simp) (by simp) h
   ·exact u.1 b hb
  ·rename_i h;have h':lt y x=false:=by simpa using h
   refine QL.mpr ⟨λb hb=>?_,QL.mpr u⟩;rcases PZ.mp hb with rfl | hb
   ·exact h'
   ·exact o.ntr (by simp) (by simp) (by simp [hb]) h' (u.1 b hb)
theorem rO {lt:PyData->PyData->Bool}:∀ {xs:Uq},Ord lt xs->Up lt (cQ lt xs)
 | [],_=>by simp [cQ,Up]
 | x::xs,o=>A3 (o.sub λe m=>by
     rcases PZ.mp m with rfl | m
     ·simp
     ·simp [(bR lt xs).mem_iff.mp m]) (rO (o.sub λe m=>by simp [m]))
theorem pf {lt:PyData->PyData->Bool}:∀ {xs ys:Uq},Ord lt xs->xs.Perm ys->Up lt xs->Up lt ys->xs=ys
 | [],ys,_,p,_,_=>by rw [List.nil_perm.mp p]
 | x::xs,ys,o,p,u,v=>by
  cases ys with
  | nil=>exact absurd p (by simp)
  | cons y ys=>
   have hx:x∈y::ys:=p.mem_iff.mp (by simp);have hy:y∈x::xs:=p.mem_iff.mpr (by simp)
   have e:x=y:=by
    rcases PZ.mp hx with e | hx
    ·exact e
    rcases PZ.mp hy with e | hy
    ·exact e.symm
    exact o.tot (by simp) (by simp [hy]) ((QL.mp v).1 x hx) ((QL.mp u).1 y hy)
   subst e;rw [pf (o.sub λe m=>by simp [m]) (List.perm_cons x |>.mp p) (QL.mp u).2 (QL.mp v).2]
theorem gV {ds:Uq} (c:dw ds=true) (t:ao ds=true):Ord ltB ds where
 as:=λa b=>pb c t a b
 ntr:=λa b d=>A1 c t a b d
 tot:=λ{a b} ha hb h h'=>by
  rcases nW c t ha hb h' with q | q
  ·rw [q] at h;cases h
  ·exact q
theorem xP {ds es:Uq} (c:dw ds=true) (t:ao ds=true) (p:es.Perm ds) (u:Up ltB es):es=cQ ltB ds:=
 pf ((gV c t).sub λe m=>p.mem_iff.mp m) (p.trans (bR ltB ds).symm) u (rO (gV c t))
end Ml
namespace Ml
open PySem PySem.Spec L2
open Sem (wp)
mutual
theorem aV:∀ {d:PyData},aw d=true->ag d=true
 | .str _,_=>by simp [ag]
 | .tuple ds,h=>by simp only [aw] at h;simp only [ag];exact nX h
 | .none,h=>by simp [aw] at h
 | .bool _,h=>by simp [aw] at h
 | .int _,h=>by simp [aw] at h
 | .list _,h=>by simp [aw] at h
 | .dict _,h=>by simp [aw] at h
theorem nX:∀ {ds:Uq},aY ds=true->ao ds=true
 | [],_=>by simp [ao]
 | d::ds,h=>by simp only [aY,PV] at h;simp only [ao,PV];exact ⟨aV h.1,nX h.2⟩
end
mutual
def pW (w:World):PyData->Int
 | .str x=>hashStr w x
 | .tuple ds=>reduceHash (Builtin.Tuple.tupleHashOf (gG w ds))
 | _=>0
def gG (w:World):Uq->List Int
 | []=>[]
 | d::ds=>pW w d::gG w ds
end
mutual
def m7:PyData->Nat
 | .str _=>1
 | .tuple ds=>nY ds+1
 | _=>0
def nY:Uq->Nat
 | []=>0
 | d::ds=>m7 d+nY ds
end
mutual
theorem jr {h h':Heap} (k:∀ b o vs n,h.get? b=some o->o.cls=.type "tuple" -> o.data=.seq vs n->h'.get? b=some o):∀ {d:PyData} {v:Value} {as:Ur},aw d=true->Reads h v d as->Reads h' v d as
 | .str _,_,_,_,.str x t=>.str x t
 | .tuple ds,_,_,t,.tuple h1 h2 h3 h4=>by simp only [aw] at t;exact .tuple (k _ _ _ _ h1 h2 h3) h2 h3 (nZ k t h4)
 | .none,_,_,t,_=>by simp [aw] at t
 | .bool _,_,_,t,_=>by simp [aw] at t
 | .int _,_,_,t,_=>by simp [aw] at t
 | .list _,_,_,t,_=>by simp [aw] at t
 | .dict _,_,_,t,_=>by simp [aw] at t
theorem nZ {h h':Heap} (k:∀ b o vs n,h.get? b=some o->o.cls=.type "tuple" -> o.data=.seq vs n->h'.get? b=some o):∀ {ds:Uq} {vs:Us} {as:Ur},aY ds=true->ReadsAll h vs ds as->ReadsAll h' vs ds as
 | [],_,_,_,.nil=>.nil
 | d::ds,_,_,t,.cons r1 r2=>by simp only [aY,PV] at t;exact .cons (jr k t.1 r1) (nZ k t.2 r2)
end
section
variable {P:UA} {w:World}
mutual
theorem m8:∀ (d:PyData) (A:UC) (s:UD) (v:Value) (as:Ur) (Q:Int->UD->Prop) (E:Uj),aw d=true->Reads s.heap v d as->A.units+d.depth < cLine->Q (pW w d) {s with toks:=s.toks+m7 d}->wpAny (model P w) A (pyHash v) Q E s
 | .str x,A,s,v,as,Q,E,_,r,hu,h=>by cases r;simp only [pW,m7] at h;exact wpAny_pyHash_str h
 | .tuple ds,A,s,v,as,Q,E,t,r,hu,h=>by
  cases r with
  | tuple ho hc hd hi=>
   rename_i a o items n;have hT:s.TypeIs (.ref a) "tuple" := ⟨o,ho,hc⟩;simp only [aw] at t;simp only [PyData.depth] at hu;simp only [pW,m7] at h;unfold pyHash
   first | unfold pyHashByItsType | skip
   first | refine PQ (wpAny_cRoomFor_or (.inr (by omega)) ?_) | skip
   refine PQ (So hT Sx.lookup ?_);show wpAny _ _ (if (some (Value.builtin "tuple.__hash__") == some Value.none)=true then _ else _) Q E s;rw [if_neg (by rw [beq_builtin_none];exact Qs)];refine PQ (So hT Sx.lookup ?_);show wpAny _ _ (callSpecialIfBoundUnlessNone? (.ref a) "__hash__" _ >>= _) Q E s;refine PQ (wpAny_callSpecialIfBoundUnlessNone?_slot hT Sx (Qy Sx hT F.entry_tuple_hash ?_ (F.args_tuple_hash_1 _)));show wpAny _ _ (Builtin.Tuple.tupleItemsOf (.ref a) >>= _) _ _ s;refine PQ (wpAny_tupleItemsOf ho hd ?_);refine PQ ?_;rw [<- S5];refine n0 ds A.in1 s items.toList _ #[] _ _ _ t hi (by show A.units+1+_ < _;omega) ?_ ?_
   ·intro x b s' R k
    first
     | exact PQ (Q7 k (λc s2 q=>PU q) λ_ _ z=>z)
     | exact PQ (Q7 k (λc s2 q=>PQ (PU (PU q))) λ_ _ z=>z)
   ·show wpAny _ _ (retInt (Builtin.Tuple.tupleHashOf (#[]++(gG w ds).toArray).toList)) _ _ _;have e1:(#[]++(gG w ds).toArray).toList=gG w ds:=by simp
    rw [e1];refine wpAny_ret_mkInt ?_;show wpAny _ _ (if (decide (-(2:Int) ^ 63<=Builtin.Tuple.tupleHashOf (gG w ds)) && decide (Builtin.Tuple.tupleHashOf (gG w ds) < 2 ^ 63))=true then _ else _) Q E _;unfold reduceHash at h;by_cases hr:(decide (-(2:Int) ^ 63<=Builtin.Tuple.tupleHashOf (gG w ds)) && decide (Builtin.Tuple.tupleHashOf (gG w ds) < 2 ^ 63))=true
    ·rw [if_pos hr];rw [if_pos hr] at h;exact PU (by simpa [Nat.add_assoc] using h)
    ·rw [if_neg hr];rw [if_neg hr] at h;exact PQ (RH (PU (by simpa [Nat.add_assoc] using h)))
 | .none,_,_,_,_,_,_,t,_,_,_=>by simp [aw] at t
 | .bool _,_,_,_,_,_,_,t,_,_,_=>by simp [aw] at t
 | .int _,_,_,_,_,_,_,t,_,_,_=>by simp [aw] at t
 | .list _,_,_,_,_,_,_,t,_,_,_=>by simp [aw] at t
 | .dict _,_,_,_,_,_,_,t,_,_,_=>by simp [aw] at t
theorem n0:∀ (ds:Uq) (A:UC) (s:UD) (vs:Us) (as:Ur) (acc:Array Int) (R:Array Int->UD->Prop) (E':Uj) (body:Value->Array Int->Sem (ForInStep (Array Int))),aY ds=true->ReadsAll s.heap vs ds as->A.units+PyData.depthAll ds < cLine ->
  (∀ (x:Value) (b:Array Int) (s':UD) (R':ForInStep (Array Int)->UD->Prop),wpAny (model P w) A (pyHash x) (λc s2=>R' (.yield (b.push c)) s2) E' s'->wpAny (model P w) A (body x b) R' E' s') ->
  R (acc++(gG w ds).toArray) {s with toks:=s.toks+nY ds}->wpAny (model P w) A (forIn vs acc body) R E' s
 | [],A,s,_,_,acc,R,E',body,_,.nil,_,hb,h=>by rw [RQ];simp only [gG,nY] at h;exact PU (by simpa using h)
 | d::ds,A,s,_,_,acc,R,E',body,t,.cons r1 r2,hu,hb,h=>by simp only [aY,PV] at t;simp only [PyData.depthAll] at hu;rw [RJ];refine PQ (hb _ _ _ _ ?_);refine m8 d A s _ _ _ E' t.1 r1 (by omega) ?_;refine n0 ds A _ _ _ (acc.push (pW w d)) R E' body t.2 r2 (by omega) hb ?_;simp only [gG,nY] at h;simpa [Nat.add_assoc] using h
end
mutual
theorem iA:∀ (d:PyData) (n:Nat) (A:UC) (s:UD) (v:Value) (as:Ur) (Q:Bool->UD->Prop) (E:Uj),aw d=true->d.depth<=n->Reads s.heap v d as->Q true s->wpAny (model P w) A (eqIsQuiet n v) Q E s
 | .str x,n,A,s,v,as,Q,E,_,_,r,h=>by cases r;rw [eqIsQuiet_byValue n rfl];exact PU h
 | .tuple ds,n,A,s,v,as,Q,E,t,hn,r,h=>by
  cases r with
  | tuple ho hc hd hi=>
   rename_i a o items k;have hT:s.TypeIs (.ref a) "tuple" := ⟨o,ho,hc⟩;simp only [aw] at t;simp only [PyData.depth] at hn;obtain ⟨m,rfl⟩:∃ m,n=m+1:=⟨n - 1,by omega⟩;unfold eqIsQuiet;refine PQ (So hT F.slot_tuple_eq.lookup ?_);show wpAny _ _ (isInstance (.ref a) (.type "tuple") >>= _) _ _ s;refine PQ (Tv hT isSubtype_tuple_tuple ?_);simp only [Rt,P8,QK];refine PQ (QX ho hd ?_);refine PQ ?_;show wpAny _ _ (forIn items _ _) _ _ s;rw [<- S5];refine n5 ds m A s items.toList _ _ E _ t (by omega) hi ?_ ?_
   ·intro x s' R k;refine PQ (Q7 k (λc s2 q=>?_) λ_ _ z=>z);obtain ⟨rfl,q⟩:=q;simp only [Rt,P8,QK];exact PU q
   ·exact PU h
 | .none,_,_,_,_,_,_,_,t,_,_,_=>by simp [aw] at t
 | .bool _,_,_,_,_,_,_,_,t,_,_,_=>by simp [aw] at t
 | .int _,_,_,_,_,_,_,_,t,_,_,_=>by simp [aw] at t
 | .list _,_,_,_,_,_,_,_,t,_,_,_=>by simp [aw] at t
 | .dict _,_,_,_,_,_,_,_,t,_,_,_=>by simp [aw] at t
theorem n5:∀ (ds:Uq) (n:Nat) (A:UC) (s:UD) (vs:Us) (as:Ur) (R:Option Bool×Unit->UD->Prop) (E:Uj) (body:Value->Option Bool×Unit->Sem (ForInStep (Option Bool×Unit))),aY ds=true->PyData.depthAll ds<=n->ReadsAll s.heap vs ds as ->
  (∀ (x:Value) (s':UD) (R':ForInStep (Option Bool×Unit)->UD->Prop),wpAny (model P w) A (eqIsQuiet n x) (λc s2=>c=true/\R' (.yield (none,())) s2) E s'->wpAny (model P w) A (body x (none,())) R' E s') ->
  R (none,()) s->wpAny (model P w) A (forIn vs (none,()) body) R E s
 | [],n,A,s,_,_,R,E,body,_,_,.nil,hb,h=>by rw [RQ];exact PU h
 | d::ds,n,A,s,_,_,R,E,body,t,hn,.cons r1 r2,hb,h=>by simp only [aY,PV] at t;simp only [PyData.depthAll] at hn;rw [RJ];refine PQ (hb _ _ _ (iA d n A s _ _ _ E t.1 (by omega) r1 ⟨rfl,?_⟩));exact n5 ds n A s _ _ R E body t.2 (by omega) r2 hb h
end
end
def JP (h:Heap) (d:PyData) (a:Addr):Prop:=aw d=true/\d.depth<=8/\cb d=true/\∃ as,Reads h (.ref a) d as
noncomputable instance OU:DecidableEq PyData:=λa b=>Classical.propDecidable (a=b)
noncomputable def eJ (P:UA) (w:World):HeapKind P w PyData where
 is:=JP
 hash:=pW w
 draws:=m7
 room:=λA=>A.units+20 < cLine
 inj:=λ{h a x y} ⟨_,_,_,as,hx⟩ ⟨_,_,_,bs,hy⟩=>(PySem.Reads.unique hx _ _ hy).1
 keeps:=λ{h h' k a d o es ep} ⟨t,dp,so,as,r⟩ ho hd hs=>⟨t,dp,so,as,jr (λb ob vs n e c dd=>by
  have ne:b≠d:=λz=>by subst z;rw [ho] at e;cases e;rw [hd] at dd;cases dd
  exact (hs.2 b ne).trans e) t r⟩
 pyHash:=λ{A E s k a Q} hu ⟨t,dp,_,as,r⟩ h=>m8 k A s _ as Q E t r (by omega) h
 eqBool:=λ{A E s x y a b Q} hu ⟨t1,d1,s1,as,r1⟩ ⟨t2,d2,s2,bs,r2⟩ h=>by
  have hq:PyData.eqv x y=decide (x=y):=by
   by_cases e:x=y
   ·subst e;rw [Qj rfl];exact aU (aV t1)
   ·rw [Ql e];exact aS (aV t1) (aV t2) e
  have:=Tz x y A s _ _ _ _ r1 r2 (i9 s1 (bW (aV t1))) (i9 s2 (bW (aV t2))) (by omega) P w E Q;rw [hq] at this;exact this h
 quiet:=λ{A E s k a Q} ⟨t,dp,_,as,r⟩ h=>iA k 8 A s _ as Q E t dp r h
def dO (P:UA) (w:World) (xs:List (PyData×Addr×Value)) (a:Addr):HO:=.ext λh=>xs.length<=sizeLine/\(a == sysModules)=false/\∃ o es ep,h.get? a=some o/\o.ExactDict/\o.data=.dict es ep/\es.toList=xs.map (entryOfKey (eJ P w))/\(xs.map (·.1)).Nodup
theorem Ic {P:UA} {w:World} {xs:List (PyData×Addr×Value)} {a:Addr} {H:Hp} {h:Heap} {o:Obj} {es:Ux} {ep:Nat} (h1:xs.length<=sizeLine) (h2:(a == sysModules)=false) (h3:h.get? a=some o) (h4:o.ExactDict) (h5:o.data=.dict es ep) (h6:es.toList=xs.map (entryOfKey (eJ P w))) (h7:(xs.map (·.1)).Nodup):cw P w H h a (dO P w xs a):=
 ⟨⟨h1,h2,o,es,ep,h3,h4,h5,h6,h7⟩,⟨o,h3⟩,λg1 g2 ⟨k1,k2,o',es',ep',k3,k4⟩ hk=>⟨k1,k2,o',es',ep',hk _ k3,k4⟩⟩
end Ml
namespace Ml
open PySem PySem.Spec L2
def view (θ:Ur) (H:Hp):Hp:=λa=>if a∈θ then none else H a
theorem cX {θ:Ur} {H:Hp} {a:Addr} {o:HO} (h:view θ H a=some o):a∉θ/\H a=some o:=by
 unfold view at h;split at h
 ·cases h
 ·exact ⟨by assumption,h⟩
theorem dM {θ:Ur} {H:Hp} {a:Addr} (h:a∉θ):view θ H a=H a:=if_neg h
theorem aA (θ:Ur) (H:Hp):bx (view θ H) H:=λa o h=>(cX h).2
def n6 (M:Hp) (p:PyData×PyData) (q:PyData×Addr×Value):Prop:=p.1=q.1/\aw p.1=true/\p.1.depth<=8/\cb p.1=true/\Rep M p.1 (.ref q.2.1)/\∃ v,RelV v q.2.2/\Rep M p.2 v/\cb p.2=true
def fP (P:UA) (w:World) (M G:Hp) (a:Addr) (t:Bool) (kvs:Ul):Prop:=
 (t=false/\∃ ks,G a=some (.dK ks)/\aR ks=some kvs/\∀ p∈kvs,cb p.1=true/\cb p.2=true)\/(t=true/\∃ xs,G a=some (dO P w xs a)/\Paired (n6 M) kvs xs)
structure Gx where
 P:UA
 w:World
 mg:Str->Option Value
 K:Ut
def Ie:PyData->V
 | .int i=>.int i
 | .str x=>.str x
 | .bool b=>.bl b
 | _=>.non
noncomputable def DX (K:Ut) (a:Addr) (xs:Uq):Prop:=(∃ (o:Obj) (its:Uy) (n:Nat),K.lookup a=some o/\o.cls=.type "tuple" /\ o.data=.seq its n/\its.size<=sizeLine/\Vals (xs.map Ie) its.toList)/\(∀ x∈xs,(match x with | .int _ | .str _ | .bool _ | .none=>true | _=>false)=true)/\cD xs=true
def LZ (G:Gx) (x:Xc) (cls:Value) (da:Option Addr) (M:Hp):Prop:=G.mg x.cls=some cls/\da=none/\x.args=[]
noncomputable def bQ (G:Gx) (θ:Ur) (H:Hp):D->V->Prop
 | .dat d,v=>Rep (view θ H) d v/\cb d=true
 | .ref i,v=>∃ a,θ[i]?=some a/\v=.ref a
 | .jC t kvs,v=>∃ a,v=.ref a/\fP G.P G.w (view θ H) (view θ H) a t kvs
 | .set _,_=>False
 | .fn n,v=>∃ f,G.mg n=some (.ref f)/\v=.ref f
 | .scr ns,v=>∃ a,v=.ref a/\jk G.K (view θ H) a (ns.map V.int)
 | .ktup xs,v=>∃ a,v=.ref a/\DX G.K a xs
 | .rpr x,v=>v=.str x
 | .exc x,v=>∃ a cls,v=.ref a/\view θ H a=some (.ext (GB a cls))/\LZ G x cls none (view θ H)
abbrev aO (G:Gx) (θ:Ur) (H:Hp):List D->List V->Prop:=Paired (bQ G θ H)
def TabAt (θ:Ur) (H:Hp) (P:Addr) (q:Str):Prop:=∃ ps:Uy,H P=some (.tbl ps)/\TriplesOk ps.toList/\∀ (pos:Pos) (c:Value),codeAmong pos ps.toList=some c->∃ b,c=.ref b/\b≠P/\view θ H b=some (.ext (recAt b q))
theorem TabAt.same {θ θ':Ur} {H H':Hp} {P:Addr} {q:Str} (s:bx (view θ H) (view θ' H')) (e:∀ o,H P=some o->H' P=some o) (x:TabAt θ H P q):TabAt θ' H' P q:=by obtain ⟨ps,h1,h2,h3⟩:=x;exact ⟨ps,e _ h1,h2,λpos c k=>let ⟨b,k1,k2,k3⟩:=h3 pos c k;⟨b,k1,k2,s _ _ k3⟩⟩
def zD (G:Gx) (θ:Ur) (H:Hp) (a:Addr):MO->Prop
 | .lst xs=>∃ vs,H a=some (.lst vs)/\aO G θ H xs vs
 | .jC t kvs=>fP G.P G.w (view θ H) H a t kvs
 | .ins _ _=>False
 | .tab P q=>a=P/\TabAt θ H P q
structure W (G:Gx) (θ:Ur) (h:Hm) (H:Hp):Prop where
 len:θ.length=h.length
 nd:θ.Nodup
 obj:∀ (i:Nat) (a:Addr) (o:MO),θ[i]?=some a->h[i]?=some o->zD G θ H a o
def Fr (G:Gx) (θ:Ur) (H:Hp) (ρ:Fm) (σ:St):Prop:=ρ.length=σ.length/\∀ (i:Nat) (d:D),ρ[i]?=some (some d)->∃ v,σ[i]?=some (some v)/\bQ G θ H d v
structure Ev (θ:Ur) (H:Hp) (θ':Ur) (H':Hp):Prop where
 pre:∃ ext,θ'=θ++ext
 same:bx (view θ H) (view θ' H')
section
variable {G:Gx} {θ θ' θ'':Ur} {H H' H'':Hp} {h h':Hm} {d:D} {v:V} {ρ:Fm} {σ:St}
theorem Ev.refl:Ev θ H θ H:=⟨⟨[],by simp⟩,bx.refl _⟩
theorem Ev.trans (a:Ev θ H θ' H') (b:Ev θ' H' θ'' H''):Ev θ H θ'' H'':=by obtain ⟨e1,rfl⟩:=a.pre;obtain ⟨e2,rfl⟩:=b.pre;exact ⟨⟨e1++e2,by simp⟩,a.same.trans b.same⟩
theorem Ev.get (a:Ev θ H θ' H') {i:Nat} {x:Addr} (e:θ[i]?=some x):θ'[i]?=some x:=by obtain ⟨ext,rfl⟩:=a.pre;rw [Qu (by have:=Qi.mp e;exact this.1)];exact e
theorem n6.same {M M':Hp} (s:bx M M') {p:PyData×PyData} {q:PyData×Addr×Value} (h:n6 M p q):n6 M' p q:=by obtain ⟨h1,h2,h3,h4,h5,v,h6,h7,h8⟩:=h;exact ⟨h1,h2,h3,h4,h5.same s,v,h6,h7.same s,h8⟩
theorem fP.same {P:UA} {w:World} {M M' G G':Hp} (s:bx M M') {a:Addr} {t:Bool} {kvs:Ul} (h:fP P w M G a t kvs) (e:∀ o,G a=some o->G' a=some o):fP P w M' G' a t kvs:=by
 rcases h with ⟨ht,ks,h1,h2⟩ | ⟨ht,xs,h1,h2⟩
 ·exact .inl ⟨ht,ks,e _ h1,h2⟩
 ·exact .inr ⟨ht,xs,e _ h1,Paired.tV h2 λ_ _=>n6.same s⟩
theorem fP.some {P:UA} {w:World} {M G:Hp} {a:Addr} {t:Bool} {kvs:Ul} (h:fP P w M G a t kvs):G a≠none:=by
 rcases h with ⟨_,ks,h1,_⟩ | ⟨_,xs,h1,_⟩
 ·rw [h1];exact λz=>nomatch z
 ·rw [h1];exact λz=>nomatch z
theorem bQ.ev (e:Ev θ H θ' H') (r:bQ G θ H d v):bQ G θ' H' d v:=by
 cases d with
 | dat d=>exact ⟨r.1.same e.same,r.2⟩
 | ref i=>obtain ⟨a,h1,h2⟩:=r;exact ⟨a,e.get h1,h2⟩
 | jC t kvs=>obtain ⟨a,h1,h2⟩:=r;exact ⟨a,h1,h2.same e.same λo=>e.same a o⟩
 | set xs=>exact r
 | fn n=>exact r
 | scr ns=>obtain ⟨a,h1,h2⟩:=r;exact ⟨a,h1,e.same.seq h2⟩
 | ktup xs=>exact r
 | rpr x=>exact r
 | exc x=>obtain ⟨a,c,h1,h2,h3⟩:=r;exact ⟨a,c,h1,e.same _ _ h2,h3⟩
theorem aO.ev (e:Ev θ H θ' H') {ds:List D} {vs:List V} (r:aO G θ H ds vs):aO G θ' H' ds vs:=Paired.tV r λ_ _=>bQ.ev e
theorem Fr.ev (e:Ev θ H θ' H') (r:Fr G θ H ρ σ):Fr G θ' H' ρ σ:=⟨r.1,λi d q=>let ⟨v,h1,h2⟩:=r.2 i d q;⟨v,h1,h2.ev e⟩⟩
theorem Fr.set {i:Nat} (r:Fr G θ H ρ σ) (q:bQ G θ H d v):Fr G θ H (ρ.set i (some d)) (σ.set i (some v)):=by
 refine ⟨by simp [r.1],λj e he=>?_⟩;by_cases hj:i=j
 ·subst hj;by_cases hl:i < ρ.length
  ·rw [Q0 hl] at he;cases he;exact ⟨v,by rw [Q0 (by rw [<- r.1];exact hl)],q⟩
  ·rw [Tq (by simp;omega)] at he;cases he
 ·rw [SF hj] at he ⊢;exact r.2 j e he
theorem Fr.replicate (n:Nat) (r:Fr G θ H ρ σ):Fr G θ H (List.replicate n none++ρ) (List.replicate n none++σ):=by
 refine ⟨by simp [r.1],λi d e=>?_⟩;by_cases hi:i < n
 ·rw [Qu (by simp;exact hi),Sa] at e;split at e<;>cases e
 ·rw [Qz (by simp;omega)] at e ⊢;simp at e ⊢;exact r.2 _ d e
theorem DY {p:Addr} {o:HO} (hp:H p=none) (hn:p∉θ):Ev θ H θ (upd H p o):=⟨⟨[],by simp⟩,λa u q=>by
 obtain ⟨h1,h2⟩:=cX q;rw [dM h1,ay (aD h2 hp)]
 exact h2⟩
theorem zD.some (o:MO) {a:Addr} (r:zD G θ H a o):H a≠none:=by
 cases o with
 | lst xs=>obtain ⟨vs,e,_⟩:=r;rw [e];exact λz=>nomatch z
 | jC t kvs=>exact fP.some r
 | ins=>exact r.elim
 | tab P q=>obtain ⟨rfl,ps,e,_⟩:=r;rw [e];exact λz=>nomatch z
theorem W.DZ (w:W G θ h H) {p:Addr} (hp:H p=none):p∉θ:=λm=>by
 obtain ⟨i,hi,e⟩:=RX.mp m;have hl:i < h.length:=by rw [<- w.len];exact hi
 exact zD.some _ (w.obj i p h[i] (by rw [P9 hi,e]) (P9 hl)) hp
theorem W.put (w:W G θ h H) {p:Addr} {o:HO} (hp:H p=none):Ev θ H θ (upd H p o)/\W G θ h (upd H p o)/\view θ (upd H p o) p=some o:=by
 have hn:=w.DZ hp;have e:=DY (o:=o) hp hn;refine ⟨e,⟨w.len,w.nd,λi a m h1 h2=>?_⟩,by rw [dM hn,aX]⟩;have r:=w.obj i a m h1 h2;have ha:a≠p:=λz=>by subst z;exact hn (Qq h1)
 cases m with
 | lst xs=>obtain ⟨vs,q1,q2⟩:=r;exact ⟨vs,by rw [ay ha];exact q1,q2.ev e⟩
 | jC t kvs=>exact fP.same e.same r λo q=>by rw [ay ha];exact q
 | ins=>exact r.elim
 | tab P q=>obtain ⟨rfl,x⟩:=r;exact ⟨rfl,x.same e.same λo q=>by rw [ay ha];exact q⟩
theorem W.grow (w:W G θ h H) (s:bx H H'):Ev θ H θ H'/\W G θ h H':=by
 have e:Ev θ H θ H':=⟨⟨[],by simp⟩,λa u q=>by
  obtain ⟨h1,h2⟩:=cX q;rw [dM h1]
  exact s _ _ h2⟩
 refine ⟨e,⟨w.len,w.nd,λi a m h1 h2=>?_⟩⟩;have r:=w.obj i a m h1 h2
 cases m with
 | lst xs=>obtain ⟨vs,q1,q2⟩:=r;exact ⟨vs,s _ _ q1,q2.ev e⟩
 | jC t kvs=>exact fP.same e.same r λo q=>s _ _ q
 | ins=>exact r.elim
 | tab P q=>obtain ⟨rfl,x⟩:=r;exact ⟨rfl,x.same e.same λo q=>s _ _ q⟩
theorem W.alloc (w:W G θ h H) {p:Addr} {o:HO} {m:MO} (hp:H p=none) (ho:zD G (θ++[p]) (upd H p o) p m):Ev θ H (θ++[p]) (upd H p o)/\W G (θ++[p]) (h++[m]) (upd H p o):=by
 have hn:=w.DZ hp
 have e:Ev θ H (θ++[p]) (upd H p o):=⟨⟨[p],rfl⟩,λa u q=>by
  obtain ⟨h1,h2⟩:=cX q;have ne:=aD h2 hp;rw [dM (by simp;exact ⟨h1,ne⟩),ay ne]
  exact h2⟩
 refine ⟨e,⟨by simp [w.len],?_,λi a m' h1 h2=>?_⟩⟩
 ·rw [R6];exact ⟨w.nd,by simp,λx hx y hy z=>by simp at hy;subst hy;subst z;exact hn hx⟩
 ·by_cases hi:i < θ.length
  ·rw [Qu hi] at h1;rw [Qu (by rw [<- w.len];exact hi)] at h2;have r:=w.obj i a m' h1 h2;have ha:a≠p:=λz=>by subst z;exact hn (Qq h1)
   cases m' with
   | lst xs=>obtain ⟨vs,q1,q2⟩:=r;exact ⟨vs,by rw [ay ha];exact q1,q2.ev e⟩
   | jC t kvs=>exact fP.same e.same r λo q=>by rw [ay ha];exact q
   | ins=>exact r.elim
   | tab P q=>obtain ⟨rfl,x⟩:=r;exact ⟨rfl,x.same e.same λo q=>by rw [ay ha];exact q⟩
  ·rw [Qz (by omega)] at h1;rw [Qz (by rw [<- w.len];omega),<- w.len] at h2
   cases hk:i - θ.length with
   | zero=>rw [hk] at h1 h2;simp at h1 h2;subst h1;subst h2;exact ho
   | succ k=>rw [hk] at h1;simp at h1
theorem W.write (w:W G θ h H) {i:Nat} {p:Addr} {o:HO} {m:MO} (hi:θ[i]?=some p) (hl:i < h.length) (ho:zD G θ (upd H p o) p m):Ev θ H θ (upd H p o)/\W G θ (h.set i m) (upd H p o):=by
 have hm:p∈θ:=Qq hi
 have e:Ev θ H θ (upd H p o):=⟨⟨[],by simp⟩,λa u q=>by
  obtain ⟨h1,h2⟩:=cX q;have ne:a≠p:=λz=>by subst z;exact h1 hm
  rw [dM h1,ay ne]
  exact h2⟩
 refine ⟨e,⟨by simp [w.len],w.nd,λj a m' h1 h2=>?_⟩⟩;by_cases hj:i=j
 ·subst hj;rw [hi] at h1;cases h1;rw [Q0 hl] at h2;cases h2;exact ho
 ·rw [SF hj] at h2
  have ha:a≠p:=λz=>by
   subst z;obtain ⟨l1,e1⟩:=Qi.mp hi;obtain ⟨l2,e2⟩:=Qi.mp h1;have pw:=RS.mp w.nd;rcases Nat.lt_or_gt_of_ne hj with z | z
   ·exact pw i j l1 l2 z (e1.trans e2.symm)
   ·exact pw j i l2 l1 z (e2.trans e1.symm)
  have r:=w.obj j a m' h1 h2
  cases m' with
  | lst xs=>obtain ⟨vs,q1,q2⟩:=r;exact ⟨vs,by rw [ay ha];exact q1,q2.ev e⟩
  | jC t kvs=>exact fP.same e.same r λo q=>by rw [ay ha];exact q
  | ins=>exact r.elim
  | tab P q=>obtain ⟨rfl,x⟩:=r;exact ⟨rfl,x.same e.same λo q=>by rw [ay ha];exact q⟩
end
abbrev XP:=Xc->Ur->Hm->Hp->Prop
def aC {α:Type} (G:Gx) (E:XP) (θ:Ur) (H:Hp):R α->(α->Ur->Hm->Hp->Prop)->Prop
 | .ok a h',K=>∀ θ' H',Ev θ H θ' H'->W G θ' h' H'->K a θ' h' H'
 | .exc x h',_=>∀ θ' H',Ev θ H θ' H'->W G θ' h' H'->E x θ' h' H'
 | .bad,_=>False
section
variable {α β:Type} {G:Gx} {E E':XP} {θ θ':Ur} {H H':Hp} {h:Hm} {r:R α} {f:α->Hm->R β} {K K':α->Ur->Hm->Hp->Prop}
theorem aC.mono (p:aC G E θ H r K) (k:∀ a θ' h' H',Ev θ H θ' H'->W G θ' h' H'->K a θ' h' H'->K' a θ' h' H'):aC G E θ H r K':=by
 cases r with
 | ok a h'=>exact λθ' H' e w=>k _ _ _ _ e w (p θ' H' e w)
 | exc x h'=>exact p
 | bad=>exact p
theorem aC.later (p:aC G E θ H r K) (e:Ev θ H θ' H'):aC G E θ' H' r K:=by
 cases r with
 | ok a h'=>exact λθ2 H2 e2 w=>p θ2 H2 (e.trans e2) w
 | exc x h'=>exact λθ2 H2 e2 w=>p θ2 H2 (e.trans e2) w
 | bad=>exact p
theorem aC.bind {L:β->Ur->Hm->Hp->Prop} (p:aC G E θ H (r.bind f) L):aC G E θ H r λa θ1 h1 H1=>Ev θ H θ1 H1/\W G θ1 h1 H1/\aC G E θ1 H1 (f a h1) L:=by
 cases r with
 | ok a h'=>exact λθ1 H1 e w=>⟨e,w,aC.later p e⟩
 | exc x h'=>exact p
 | bad=>exact p
end
def m9 (G:Gx) (E:XK):XP:=λx θ _ H=>∀ cls da,LZ G x cls da (view θ H)->E cls da H
def KV (G:Gx) (Q:VK):D->Ur->Hm->Hp->Prop:=λd θ _ H=>∀ v,bQ G θ H d v->Q v H
def Pz (G:Gx) (Q:List V->Hp->Prop):List D->Ur->Hm->Hp->Prop:=λds θ _ H=>∀ vs,aO G θ H ds vs->Q vs H
def KS (G:Gx) (C:Ends):Fl->Ur->Hm->Hp->Prop:=λf θ _ H=>match f with
 | .nx ρ=>∀ σ,Fr G θ H ρ σ->C.nx σ H
 | .rt d=>∀ v,bQ G θ H d v->C.rt v H
 | .bk ρ=>∀ σ,Fr G θ H ρ σ->C.bk σ H
 | .ct ρ=>∀ σ,Fr G θ H ρ σ->C.ct σ H
def lE (G:Gx) (E:XK) (m:ME):TE:=λσ H Q=>∃ θ h ρ,W G θ h H/\Fr G θ H ρ σ/\aC G (m9 G E) θ H (m ρ h) (KV G Q)
def lT (G:Gx) (E:XK) (m:MT):TT:=λσ H Q=>∃ θ h ρ,W G θ h H/\Fr G θ H ρ σ/\aC G (m9 G E) θ H (m ρ h) (λb _ _ H'=>Q b H')
def lA (G:Gx) (E:XK) (m:MA):TA:=λσ H Q=>∃ θ h ρ,W G θ h H/\Fr G θ H ρ σ/\aC G (m9 G E) θ H (m ρ h) (Pz G Q)
def lS (G:Gx) (E:XK) (m:MS):TS:=λC σ H=>∃ θ h ρ,W G θ h H/\Fr G θ H ρ σ/\aC G (m9 G E) θ H (m ρ h) (KS G C)
def lG (G:Gx) (E:XK) (g:MG):TG:=λv σ H Q=>∃ θ h ρ d,W G θ h H/\Fr G θ H ρ σ/\bQ G θ H d v/\aC G (m9 G E) θ H (g d ρ h) (λρ' θ' _ H'=>∀ σ',Fr G θ' H' ρ' σ'->Q σ' H')
abbrev _root_.L2.Cx.G (X:Cx):Gx:=⟨X.prog,X.w,X.mg,X.K⟩
@[irreducible] def DE (X:Cx) (E:XK) (m:ME) (e:Expr):Prop:=PE X e (lE X.G E m)
theorem bj (X:Cx) (E:XK) (m:ME) (e:Expr):DE X E m e=(PE X e (lE X.G E m)):=by unfold DE;rfl
@[irreducible] def DT (X:Cx) (E:XK) (m:MT) (e:Expr):Prop:=PT X e (lT X.G E m)
theorem kJ (X:Cx) (E:XK) (m:MT) (e:Expr):DT X E m e=(PT X e (lT X.G E m)):=by unfold DT;rfl
@[irreducible] def DA (X:Cx) (E:XK) (m:MA) (es:Uv):Prop:=PA X es (lA X.G E m)
theorem j9 (X:Cx) (E:XK) (m:MA) (es:Uv):DA X E m es=(PA X es (lA X.G E m)):=by unfold DA;rfl
@[irreducible] def DS (X:Cx) (E:XK) (m:MS) (s:Stmt):Prop:=PS X s (lS X.G E m)
theorem jt (X:Cx) (E:XK) (m:MS) (s:Stmt):DS X E m s=(PS X s (lS X.G E m)):=by unfold DS;rfl
@[irreducible] def D0 (X:Cx) (E:XK) (m:MS) (s:List Stmt):Prop:=za X s (lS X.G E m)
theorem ph (X:Cx) (E:XK) (m:MS) (s:List Stmt):D0 X E m s=(za X s (lS X.G E m)):=by unfold D0;rfl
@[irreducible] def DG (X:Cx) (E:XK) (m:MG) (e:Expr):Prop:=PG X e (lG X.G E m)
theorem mF (X:Cx) (E:XK) (m:MG) (e:Expr):DG X E m e=(PG X e (lG X.G E m)):=by unfold DG;rfl
theorem PE.imp {X:Cx} {e:Expr} {t t':TE} (h:PE X e t) (k:∀ σ H Q,t' σ H Q->t σ H Q):PE X e t':=λpins s σ H Q I q=>h pins s σ H Q I (k _ _ _ q)
theorem PT.imp {X:Cx} {e:Expr} {t t':TT} (h:PT X e t) (k:∀ σ H Q,t' σ H Q->t σ H Q):PT X e t':=λpins s σ H Q I q=>h pins s σ H Q I (k _ _ _ q)
theorem PA.imp {X:Cx} {e:Uv} {t t':TA} (h:PA X e t) (k:∀ σ H Q,t' σ H Q->t σ H Q):PA X e t':=λpos pins s σ H Q I q=>h pos pins s σ H Q I (k _ _ _ q)
theorem PS.imp {X:Cx} {e:Stmt} {t t':TS} (h:PS X e t) (k:∀ C σ H,t' C σ H->t C σ H):PS X e t':=λpins s σ H C I q=>h pins s σ H C I (k _ _ _ q)
theorem za.imp {X:Cx} {e:List Stmt} {t t':TS} (h:za X e t) (k:∀ C σ H,t' C σ H->t C σ H):za X e t':=λpins s σ H C I q=>h pins s σ H C I (k _ _ _ q)
def JQ (G:Gx) (E:XK) (f:D->D->Hm->R D):R2:=λx y H Q=>∃ θ h d1 d2,W G θ h H/\bQ G θ H d1 x/\bQ G θ H d2 y/\aC G (m9 G E) θ H (f d1 d2 h) (KV G Q)
def OV (G:Gx) (E:XK) (f:Fn):List V->Hp->VK->Prop:=λxs H Q=>∃ θ h ds,W G θ h H/\aO G θ H ds xs/\aC G (m9 G E) θ H (f ds h) (KV G Q)
def n8 (X:Cx) (E:XK) (op:Value->Value->Sem Value) (f:D->D->Hm->R D):Prop:=ik X op (JQ X.G E f)
def rP (X:Cx) (E:XK) (v:Value) (f:Fn):Prop:=dz X v (OV X.G E f)
theorem ik.imp {X:Cx} {op:Value->Value->Sem Value} {r r':R2} (h:ik X op r) (k:∀ x y H Q,r' x y H Q->r x y H Q):ik X op r':=λpins s σ H x y v u Q I rx ry q=>h pins s σ H x y v u Q I rx ry (k _ _ _ _ q)
theorem dz.imp {X:Cx} {f:Value} {r r':List V->Hp->VK->Prop} (h:dz X f r) (k:∀ xs H Q,r' xs H Q->r xs H Q):dz X f r':=λpins s σ H xs us Q I r q=>h pins s σ H xs us Q I r (k _ _ _ q)
theorem n8.of {X:Cx} {E:XK} {op:Value->Value->Sem Value} {r:R2} {f:D->D->Hm->R D} (h:ik X op r)
  (k:∀ θ hm H d1 d2 x y Q,W X.G θ hm H->bQ X.G θ H d1 x->bQ X.G θ H d2 y->aC X.G (m9 X.G E) θ H (f d1 d2 hm) (KV X.G Q)->r x y H Q):n8 X E op f:=
 ik.imp h λx y H Q ⟨θ,hm,d1,d2,w,r1,r2,p⟩=>k θ hm H d1 d2 x y Q w r1 r2 p
theorem rP.of {X:Cx} {E:XK} {v:Value} {r:List V->Hp->VK->Prop} {f:Fn} (h:dz X v r)
  (k:∀ θ hm H ds xs Q,W X.G θ hm H->aO X.G θ H ds xs->aC X.G (m9 X.G E) θ H (f ds hm) (KV X.G Q)->r xs H Q):rP X E v f:=
 dz.imp h λxs H Q ⟨θ,hm,ds,w,r1,p⟩=>k θ hm H ds xs Q w r1 p
section
variable {X:Cx} {E:XK} {m a b c:ME} {t u:MT} {e e1 e2 e3:Expr} {es:Uv} {ma:MA} {pos:Pos} {i:Nat} {x:Str}
theorem JR (hN:X.N[i]?=some x) (hv:FZ X.env.scope x) (hd:(x == ("__debug__" : Str))=false:=by decide) (hcd:(x == ("__classdict__" : Str))=false:=by decide):DE X E (ab i) (.Name x pos):=by
 simp only [bj] at *
 exact PE.imp (IJ hN hv hd hcd) λσ H Q ⟨θ,h,ρ,w,fr,p⟩=>by
   unfold ab at p
   cases e:ρ[i]? with
   | none=>rw [e] at p;exact p.elim
   | some o=>
    cases o with
    | none=>rw [e] at p;exact p.elim
    | some d=>rw [e] at p;obtain ⟨v,h1,h2⟩:=fr.2 i d e;exact ⟨v,h1,p θ H Ev.refl w v h2⟩
theorem GG {v:V} {d:PyData} (h:PE X e (tC v)) (r:∀ G,Rep G d v) (s:cb d=true):DE X E (aj d) e:=by simp only [bj] at *;exact PE.imp h λσ H Q ⟨θ,hm,ρ,w,fr,p⟩=>p θ H Ev.refl w v ⟨r _,s⟩
theorem aJ {k:Int} {j:Nat}:DE X E (aj (.int k)) (.Constant (.int k) j pos):=GG o4 (λ_=>rfl) (by simp [cb])
theorem fh {k:Bool} {j:Nat}:DE X E (aj (.bool k)) (.Constant (.bool k) j pos):=GG HM (λ_=>rfl) (by simp [cb])
theorem dF {k:Str} {j:Nat} (h:PyData.strOk k=true:=by decide +kernel):DE X E (aj (.str k)) (.Constant (.str k) j pos):=GG ze (λ_=>rfl) (by simp [cb,h])
theorem wj {G:Gx} {f:D->D->Hm->R D} {σ:St} {H:Hp} {Q:VK} (h:lE G E (aq f a b) σ H Q):Lu (JQ G E f) (lE G E a) (lE G E b) σ H Q:=by obtain ⟨θ,h,ρ,w,fr,p⟩:=h;refine ⟨θ,h,ρ,w,fr,(aC.bind p).mono λx θ1 h1 H1 _ _ ⟨e1,w1,p1⟩ v r1=>?_⟩;exact ⟨θ1,h1,ρ,w1,fr.ev e1,(aC.bind p1).mono λy θ2 h2 H2 _ _ ⟨e2,w2,p2⟩ u r2=>⟨θ2,h2,x,y,w2,r1.ev e2,r2,p2⟩⟩
theorem A4 {G:Gx} {f:Fn} {σ:St} {H:Hp} {Q:VK} (h:lE G E (af f ma) σ H Q):NG (OV G E f) (lA G E ma) σ H Q:=by obtain ⟨θ,h,ρ,w,fr,p⟩:=h;exact ⟨θ,h,ρ,w,fr,(aC.bind p).mono λxs θ1 h1 H1 _ _ ⟨e1,w1,p1⟩ vs r1=>⟨θ1,h1,xs,w1,r1,p1⟩⟩
theorem cq {op:Operator} {f:D->D->Hm->R D} (h:n8 X E (binaryOp op) f) (ha:DE X E a e1) (hb:DE X E b e2):DE X E (aq f a b) (.BinOp e1 op e2 pos):=by simp only [bj] at *;exact PE.imp (HQ h ha hb) λ_ _ _=>wj
theorem dG {op:CmpOp} {f:D->D->Hm->R D} (h:n8 X E (compareOp op) f) (ha:DE X E a e1) (hb:DE X E b e2) (hm:behindInMarks op e2=false):DE X E (aq f a b) (.Compare e1 [op] [e2] pos):=by simp only [bj] at *;exact PE.imp (F9 h ha hb hm) λ_ _ _=>wj
theorem cF {f:D->D->Hm->R D} (h:Ld X (JQ X.G E f)) (ha:DE X E a e1) (hb:DE X E b e2) (hs:AI e2):DE X E (aq f a b) (.Subscript e1 e2 pos):=by simp only [bj] at *;exact PE.imp (LJ h ha hb hs) λ_ _ _=>wj
theorem A5 {G:Gx} {σ:St} {H:Hp} {Q:Bool->Hp->Prop} (h:lT G E (aN m) σ H Q):lE G E m σ H λx H'=>∃ k,x=.bl k/\Q k H':=by
 obtain ⟨θ,h,ρ,w,fr,p⟩:=h;refine ⟨θ,h,ρ,w,fr,(aC.bind p).mono λx θ1 h1 H1 _ _ ⟨e1,w1,p1⟩ v r1=>?_⟩
 cases x with
 | dat d=>
  cases d with
  | bool k=>exact ⟨k,r1.1,p1 θ1 H1 Ev.refl w1⟩
  | _=>exact p1.elim
 | _=>exact p1.elim
theorem cH {op:CmpOp} {f:D->D->Hm->R D} (h:n8 X E (compareOp op) f) (ha:DE X E a e1) (hb:DE X E b e2) (hm:behindInMarks op e2=false):DT X E (aN (aq f a b)) (.Compare e1 [op] [e2] pos):=by simp only [bj,kJ] at *;exact PT.imp (Ga h ha hb hm) λ_ _ _ q=>wj (A5 q)
@[irreducible] def DW (X:Cx) (E:XK) (t:MT) (e:Expr):Prop:=PW X e (lT X.G E t)
theorem xQ (X:Cx) (E:XK) (t:MT) (e:Expr):DW X E t e=(PW X e (lT X.G E t)):=by unfold DW;rfl
theorem DW.dt (h:DW X E t e):DT X E t e:=by simp only [kJ,xQ] at *;exact PW.pt h
theorem PW.imp {X:Cx} {e:Expr} {t t':TT} (h:PW X e t) (k:∀ σ H Q,t' σ H Q->t σ H Q):PW X e t':=λwh pins s σ H Q I q=>h wh pins s σ H Q I (k _ _ _ q)
theorem A6 (ha:DT X E t e):DW X E t (.BoolOp .And [e] pos):=by simp only [kJ,xQ] at *;exact F1 ha
theorem kK (ha:DT X E t e):DW X E t (.BoolOp .Or [e] pos):=by simp only [kJ,xQ] at *;exact IL ha
theorem D1 (ha:DT X E t e1) (hb:DW X E u (.BoolOp .And (e2::es) pos)):DW X E (rf t u) (.BoolOp .And (e1::e2::es) pos):=by
 simp only [kJ,xQ] at *
 exact PW.imp (IM ha hb) λσ H Q ⟨θ,h,ρ,w,fr,p⟩=>⟨θ,h,ρ,w,fr,(aC.bind p).mono λc θ1 h1 H1 _ _ ⟨ev,w1,p1⟩=>by
   cases c with
   | true=>exact ⟨θ1,h1,ρ,w1,fr.ev ev,p1⟩
   | false=>exact p1 θ1 H1 Ev.refl w1⟩
theorem pX (ha:DT X E t e1) (hb:DW X E u (.BoolOp .Or (e2::es) pos)):DW X E (tW t u) (.BoolOp .Or (e1::e2::es) pos):=by
 simp only [kJ,xQ] at *
 exact PW.imp (Ln ha hb) λσ H Q ⟨θ,h,ρ,w,fr,p⟩=>⟨θ,h,ρ,w,fr,(aC.bind p).mono λc θ1 h1 H1 _ _ ⟨ev,w1,p1⟩=>by
   cases c with
   | true=>exact p1 θ1 H1 Ev.refl w1
   | false=>exact ⟨θ1,h1,ρ,w1,fr.ev ev,p1⟩⟩
theorem ja (ha:DT X E t e):DT X E (iW t) (.UnaryOp .Not e pos):=by simp only [kJ] at *;exact PT.imp (IP ha) λσ H Q ⟨θ,h,ρ,w,fr,p⟩=>⟨θ,h,ρ,w,fr,(aC.bind p).mono λc θ1 h1 H1 _ _ ⟨ev,w1,p1⟩=>p1 θ1 H1 Ev.refl w1⟩
theorem fi {op} (h:DE X E m e):DE X E m (.BoolOp op [e] pos):=by simp only [bj] at *;exact IQ h
theorem ai:DA X E ah []:=by simp only [j9] at *;exact PA.imp rj λσ H Q ⟨θ,h,ρ,w,fr,p⟩=>p θ H Ev.refl w _ .nil
theorem ae (ha:DE X E m e) (hr:DA X E ma es) (hs:starEach (e::es) X.env=(false,eval e X.env)::starEach es X.env:=by rfl):DA X E (aa m ma) (e::es):=by
 simp only [bj,j9] at *
 exact PA.imp (lC ha hr hs) λσ H Q ⟨θ,h,ρ,w,fr,p⟩=>⟨θ,h,ρ,w,fr,(aC.bind p).mono λx θ1 h1 H1 _ _ ⟨ev,w1,p1⟩ v r1=>
   ⟨θ1,h1,ρ,w1,fr.ev ev,(aC.bind p1).mono λxs θ2 h2 H2 _ _ ⟨ev2,w2,p2⟩ vs r2=>p2 θ2 H2 Ev.refl w2 _ (.cons (r1.ev ev2) r2)⟩⟩
theorem lK {G:Gx} {θ:Ur} {H:Hp}:∀ {xs:List D} {vs:List V} {ds:Uq},aO G θ H xs vs->g9 xs=some ds->bc (view θ H) ds vs/\cD ds=true
 | [],_,ds,.nil,e=>by cases e;exact ⟨rfl,by simp [cD]⟩
 | x::xs,_,ds,.cons r rs,e=>by
  unfold g9 at e
  cases x with
  | dat d=>
   cases e2:g9 xs with
   | none=>simp [D.data,e2] at e
   | some ds'=>simp [D.data,e2] at e;subst e;obtain ⟨h1,h2⟩:=lK rs e2;exact ⟨.cons r.1 h1,by simp [cD,r.2,h2]⟩
  | _=>simp [D.data] at e
theorem wk {G:Gx} {θ:Ur} {H:Hp}:∀ {ds:Uq} {vs:List V},bc (view θ H) ds vs->cD ds=true->aO G θ H (ds.map D.dat) vs
 | [],_,h,_=>by cases h;exact .nil
 | d::ds,_,⟨v,vs,e,r,rs⟩,s=>by subst e;simp only [cD,PV] at s;exact .cons ⟨r,s.1⟩ (wk rs s.2)
theorem cR {n:Nat} (h:kj n=true):n<=sizeLine:=by have:=QS h;rw [R7];exact this
theorem pj:∀ {xs:List D} {ds:Uq},g9 xs=some ds->ds.length=xs.length
 | [],ds,e=>by cases e;rfl
 | x::xs,ds,e=>by
  unfold g9 at e
  cases e1:x.data with
  | none=>rw [e1] at e;cases e
  | some d=>
   cases e2:g9 xs with
   | none=>rw [e1,e2] at e;cases e
   | some ds'=>rw [e1,e2] at e;cases e;simp [pj e2]
theorem bI {x1} (h:DA X E ma es):DE X E (bV ma) (.Tuple es x1 pos):=by
 simp only [bj,j9] at *
 exact PE.imp (Dg h) λσ H Q ⟨θ,h,ρ,w,fr,p⟩=>⟨θ,h,ρ,w,fr,(aC.bind p).mono λxs θ1 h1 H1 _ _ ⟨ev,w1,p1⟩ vs r1=>by
   unfold kD at p1
   cases e:g9 xs with
   | none=>rw [e] at p1;exact p1.elim
   | some ds=>
    rw [e] at p1;simp only at p1;split at p1
    ·rename_i hz;have hl:vs.length=xs.length:=(Qr r1).symm;refine ⟨by rw [hl,<- pj e];exact cR hz,λq hq=>?_⟩;obtain ⟨e1,w2,g⟩:=w1.put (o:=.tup vs) hq;obtain ⟨h1,h2⟩:=lK r1 e;exact p1 _ _ e1 w2 _ ⟨⟨q,vs,rfl,g,h1.same e1.same⟩,by simp [cb,h2]⟩
    ·exact p1.elim⟩
theorem wm (h:DA X E ma es):DE X E (qJ ma) (.List es pos):=by
 simp only [bj,j9] at *
 exact PE.imp (zl h) λσ H Q ⟨θ,h,ρ,w,fr,p⟩=>⟨θ,h,ρ,w,fr,(aC.bind p).mono λxs θ1 h1 H1 _ _ ⟨ev,w1,p1⟩ vs r1=>by
   unfold fO at p1
   cases e:g9 xs with
   | none=>rw [e] at p1;exact p1.elim
   | some ds=>
    rw [e] at p1;simp only at p1;split at p1
    ·rename_i hz;have hl:vs.length=xs.length:=(Qr r1).symm;refine ⟨by rw [hl,<- pj e];exact cR hz,λq hq=>?_⟩;obtain ⟨e1,w2,g⟩:=w1.put (o:=.lst vs) hq;obtain ⟨h1,h2⟩:=lK r1 e;exact p1 _ _ e1 w2 _ ⟨⟨q,vs,rfl,g,h1.same e1.same⟩,by simp [cb,h2]⟩
    ·exact p1.elim⟩
theorem W.JS {G:Gx} {θ:Ur} {h:Hm} {H:Hp} {xs:List D} {vs:List V} (w:W G θ h H) (r:aO G θ H xs vs) {p:Addr} (hp:H p=none) :
  Ev θ H (θ++[p]) (upd H p (.lst vs))/\W G (θ++[p]) (h++[.lst xs]) (upd H p (.lst vs))/\bQ G (θ++[p]) (upd H p (.lst vs)) (.ref h.length) (.ref p):=by
 have e:Ev θ H (θ++[p]) (upd H p (.lst vs)):=⟨⟨[p],rfl⟩,λa u q=>by
  obtain ⟨h1,h2⟩:=cX q;have ne:=aD h2 hp;rw [dM (by simp;exact ⟨h1,ne⟩),ay ne]
  exact h2⟩
 obtain ⟨e1,w1⟩:=w.alloc (o:=.lst vs) (m:=.lst xs) hp ⟨vs,aX,r.ev e⟩;exact ⟨e1,w1,p,by rw [<- w.len];simp,rfl⟩
theorem wo (h:DA X E ma es):DE X E (v9 ma) (.List es pos):=by
 simp only [bj,j9] at *
 exact PE.imp (zl h) λσ H Q ⟨θ,h,ρ,w,fr,p⟩=>⟨θ,h,ρ,w,fr,(aC.bind p).mono λxs θ1 h1 H1 _ _ ⟨ev,w1,p1⟩ vs r1=>by
   unfold DL at p1;split at p1
   ·rename_i hz;have hl:vs.length=xs.length:=(Qr r1).symm;refine ⟨by rw [hl];exact cR hz,λq hq=>?_⟩;obtain ⟨e1,w2,g⟩:=w1.JS r1 hq;exact p1 _ _ e1 w2 _ g
   ·exact p1.elim⟩
theorem D2 {id:String} {f:Fn} (hc:rP X E (.builtin id) f) (hg:Gl X x) (hm:X.mg x=none) (hv:bootBuiltins x=some (.builtin id)) {p:Pos} (ha:DA X E ma (e::es)) (hn:x ≠ "__name__" := by decide) (hdb:(x == ("__debug__" : Str))=false:=by decide)
  (he:starEach (e::es) X.env=(false,eval e X.env)::starEach es X.env:=by rfl) (hpl:(backTo pos (starEach es X.env)).any (·.1)=false:=by rfl):DE X E (af f ma) (.Call (.Name x p) (e::es) [] pos):=by
 simp only [bj,j9] at *;exact PE.imp (xB hc hg hm hv ha hn hdb he hpl) λ_ _ _=>A4
theorem Co {T:String} {f:Fn} (hc:rP X E (.type T) f) (hg:Gl X x) (hm:X.mg x=none) (hv:bootBuiltins x=some (.type T)) {p:Pos} (ha:DA X E ma (e::es)) (hn:x ≠ "__name__" := by decide) (hdb:(x == ("__debug__" : Str))=false:=by decide)
  (he:starEach (e::es) X.env=(false,eval e X.env)::starEach es X.env:=by rfl) (hpl:(backTo pos (starEach es X.env)).any (·.1)=false:=by rfl):DE X E (af f ma) (.Call (.Name x p) (e::es) [] pos):=by
 simp only [bj,j9] at *;exact PE.imp (B6 hc hg hm hv ha hn hdb he hpl) λ_ _ _=>A4
end
section
variable {X:Cx} {E:XK} {m:ME} {a b:MS} {t:MT} {e e1:Expr} {st:Stmt} {sts:List Stmt} {ss ss':List Stmt} {ma:MA} {pos:Pos} {i:Nat} {x:Str} {g:MG}
theorem cS:D0 X E cW []:=by simp only [ph] at *;exact za.imp F2 λC σ H ⟨θ,h,ρ,w,fr,p⟩=>p θ H Ev.refl w σ fr
theorem aG (h:DS X E a st):D0 X E a [st]:=by simp only [jt,ph] at *;exact F3 h
theorem ax (h1:DS X E a st) (h2:D0 X E b ss):D0 X E (bg a b) (st::ss):=by
 simp only [jt,ph] at *
 exact za.imp (C4 h1 h2) λC σ H ⟨θ,h,ρ,w,fr,p⟩=>⟨θ,h,ρ,w,fr,(aC.bind p).mono λf θ1 h1 H1 _ _ ⟨ev,w1,p1⟩=>by
   cases f with
   | nx ρ1=>exact λσ1 fr1=>⟨θ1,h1,ρ1,w1,fr1,p1⟩
   | rt d=>exact p1 θ1 H1 Ev.refl w1
   | bk ρ1=>exact p1 θ1 H1 Ev.refl w1
   | ct ρ1=>exact p1 θ1 H1 Ev.refl w1⟩
theorem n9 (he:DE X E m e) (hs:swapsWith e none pos.line X.env=pure false:=by rfl):DS X E (mC m) (.Expr e pos):=by simp only [bj,jt] at *;exact PS.imp (F4 he hs) λC σ H ⟨θ,h,ρ,w,fr,p⟩=>⟨θ,h,ρ,w,fr,(aC.bind p).mono λd θ1 h1 H1 _ _ ⟨ev,w1,p1⟩ v _=>p1 θ1 H1 Ev.refl w1 σ (fr.ev ev)⟩
theorem ba (he:DE X E m e):DS X E (cz m) (.Return (some e) pos):=by simp only [bj,jt] at *;exact PS.imp (IS he) λC σ H ⟨θ,h,ρ,w,fr,p⟩=>⟨θ,h,ρ,w,fr,(aC.bind p).mono λd θ1 h1 H1 _ _ ⟨ev,w1,p1⟩ v r=>p1 θ1 H1 Ev.refl w1 v r⟩
theorem hG (hc:DT X E t e) (ha:D0 X E a ss) (hb:D0 X E b ss'):DS X E (mZ t a b) (.If e ss ss' pos):=by
 simp only [kJ,jt,ph] at *
 exact PS.imp (Lq hc ha hb) λC σ H ⟨θ,h,ρ,w,fr,p⟩=>⟨θ,h,ρ,w,fr,(aC.bind p).mono λc θ1 h1 H1 _ _ ⟨ev,w1,p1⟩=>by
   cases c with
   | true=>exact ⟨θ1,h1,ρ,w1,fr.ev ev,p1⟩
   | false=>exact ⟨θ1,h1,ρ,w1,fr.ev ev,p1⟩⟩
theorem GH (hN:X.N.Nodup) (hi:X.N[i]?=some x) (hx:Loc X.env.scope x) (hf:X.fn x=true\/X.env.scope.names.lookup x=some .local:=by first | exact .inl rfl | exact .inr rfl | assumption):DG X E (av i) (.Name x pos):=by simp only [mF] at *;exact λpins s σ H v u Q I r ⟨θ,h,ρ,d,w,fr,rd,p⟩=>F5 hN hi hx hf pins s σ H v u Q I r (p θ H Ev.refl w _ (fr.set rd))
def OW (G:Gx) (E:XK) (g:AQ):HN:=λvs σ H Q=>∃ θ h ρ ds,W G θ h H/\Fr G θ H ρ σ/\aO G θ H ds vs/\aC G (m9 G E) θ H (g ds ρ h) (λρ' θ' _ H'=>∀ σ',Fr G θ' H' ρ' σ'->Q σ' H')
@[irreducible] def Le (X:Cx) (E:XK) (m:AQ) (es:Uv):Prop:=Lb X es (OW X.G E m)
theorem zE (X:Cx) (E:XK) (m:AQ) (es:Uv):Le X E m es=(Lb X es (OW X.G E m)):=by unfold Le;rfl
theorem iB:Le X E jE []:=by
 simp only [zE] at *
 exact λpins s σ H vs us Q I r ⟨θ,h,ρ,ds,w,fr,rd,p⟩=>by
  cases rd with
  | nil=>exact F6 pins s σ H [] us Q I r ⟨rfl,p θ H Ev.refl w σ fr⟩
  | cons=>exact p.elim
theorem bX {gs:AQ} {es:Uv} (h1:DG X E g e) (h2:Le X E gs es) (hs:(assignEach (e::es) X.env).map (·.2)=assign e X.env::(assignEach es X.env).map (·.2):=by rfl):Le X E (cx g gs) (e::es):=by
 simp only [mF,zE] at *
 exact λpins s σ H vs us Q I r ⟨θ,h,ρ,ds,w,fr,rd,p⟩=>by
   cases rd with
   | nil=>exact p.elim
   | cons r1 rr=>exact C5 h1 h2 hs pins s σ H _ us Q I r ⟨_,_,rfl,θ,h,ρ,_,w,fr,r1,(aC.bind p).mono λρ1 θ1 h1 H1 _ _ ⟨ev,w1,p1⟩ σ1 fr1=>⟨θ1,h1,ρ1,_,w1,fr1,aO.ev ev rr,p1⟩⟩
theorem gO {G:Gx} {θ:Ur} {H:Hp} {ds:Uq} {v:V} (r:bQ G θ H (.dat (.tuple ds)) v):∃ a xs,v=.ref a/\view θ H a=some (.tup xs)/\bc (view θ H) ds xs/\aO G θ H (ds.map D.dat) xs:=by obtain ⟨⟨a,xs,e,ha,rr⟩,s⟩:=r;exact ⟨a,xs,e,ha,rr,wk rr (by simpa [cb] using s)⟩
theorem gP {G:Gx} {θ:Ur} {H:Hp} {ds:Uq} {v:V} (r:bQ G θ H (.dat (.list ds)) v):∃ a xs,v=.ref a/\view θ H a=some (.lst xs)/\bc (view θ H) ds xs/\aO G θ H (ds.map D.dat) xs:=by obtain ⟨⟨a,xs,e,ha,rr⟩,s⟩:=r;exact ⟨a,xs,e,ha,rr,wk rr (by simpa [cb] using s)⟩
@[irreducible] def uW (gs:AQ) (n:Nat):Prop:=∀ xs ρ h,xs.length≠n->gs xs ρ h=.bad
theorem rQ (gs:AQ) (n:Nat):uW gs n=(∀ xs ρ h,xs.length≠n->gs xs ρ h=.bad):=by unfold uW;rfl
theorem eV:uW jE 0:=by
 simp only [rQ] at *
 exact λxs ρ h ne=>by
  cases xs with
  | nil=>exact absurd rfl ne
  | cons=>rfl
theorem bo {g:Nat} {gs:AQ} {n:Nat} (t:uW gs n):uW (cx (av g) gs) (n+1):=by
 simp only [rQ] at *
 exact λxs ρ h ne=>by
  cases xs with
  | nil=>rfl
  | cons x xs=>simp only [cx,av,R.ak];exact t xs _ h (by simpa using ne)
theorem kL {es:Uv} {k n:Nat} {gs:AQ} (hc:X.calm=true) (h:Le X E gs es) (tk:uW gs n) (hn:(assignEach es X.env).length=n:=by rfl) (hst:(assignEach es X.env).findIdx? (·.1)=none:=by rfl):DG X E (jF gs) (.Tuple es k pos):=by
 simp only [mF,zE,rQ] at *
 exact λpins s σ H v u Q I r ⟨θ,hm,ρ,d,w,fr,rd,p⟩=>by
   cases d with
   | dat d=>
    cases d with
    | tuple ds=>
     obtain ⟨a,xs,e,ha,rr,rr2⟩:=gO rd
     have hl:xs.length=n:=by
      have h1:xs.length=ds.length:=rr.length;by_cases z:ds.length=n
      ·rw [h1,z]
      ·have p':=p;simp only [jF] at p';rw [tk (ds.map D.dat) ρ hm (by simpa using z)] at p';exact p'.elim
     exact IV (n:=n) hc h hn hst pins s σ H v u Q I r ⟨a,xs,e,gE.of (aA _ _ _ _ ha),hl,θ,hm,ρ,_,w,fr,rr2,p⟩
    | _=>exact p.elim
   | _=>exact p.elim
theorem JT (hN:X.N.Nodup) (hi:X.N[i]?=some x) (hx:Loc X.env.scope x) (he:DE X E m e) {pos':Pos} (hs:swapsWith e (some (.Name x pos')) pos.line X.env=pure false:=by rfl) (hf:X.fn x=true\/X.env.scope.names.lookup x=some .local:=by first | exact .inl rfl | exact .inr rfl | assumption) :
  DS X E (bF i m) (.Assign [.Name x pos'] e pos):=by
 simp only [bj,jt] at *;exact PS.imp (IY hN hi hx he hs hf) λC σ H ⟨θ,h,ρ,w,fr,p⟩=>⟨θ,h,ρ,w,fr,(aC.bind p).mono λd θ1 h1 H1 _ _ ⟨ev,w1,p1⟩ v r=>p1 θ1 H1 Ev.refl w1 _ ((fr.ev ev).set r)⟩
theorem nc {tg:Expr} (he:DE X E m e) (hg:DG X E g tg) (hs:swapsWithSole [tg] e pos.line X.env=pure false:=by rfl) (hw:swappedStores [tg] e X.env=pure none:=by rfl)
  (h1:(assignEach [tg] X.env).map (·.2)=[assign tg X.env]:=by rfl):DS X E (nQ g m) (.Assign [tg] e pos):=by
 simp only [bj,jt,mF] at *
 exact PS.imp (IX he hg hs hw h1) λC σ H ⟨θ,h,ρ,w,fr,p⟩=>⟨θ,h,ρ,w,fr,(aC.bind p).mono λd θ1 h1 H1 _ _ ⟨ev,w1,p1⟩ v r=>
   ⟨θ1,h1,ρ,d,w1,fr.ev ev,r,(aC.bind p1).mono λρ1 θ2 h2 H2 _ _ ⟨ev2,w2,p2⟩ σ2 fr2=>p2 θ2 H2 Ev.refl w2 σ2 fr2⟩⟩
def og (G:Gx) (θ:Ur) (H:Hp) (xs:List D) (J:It):Prop:=∀ θ' h' H',Ev θ H θ' H'->W G θ' h' H' ->
 (∀ (i:Nat) (d:D),xs[i]?=some d->J.go i H'/\∀ x H2,J.yld i H' x H2->Ev θ' H' θ' H2/\W G θ' h' H2/\bQ G θ' H2 d x)/\J.stop xs.length H'
def lI (G:Gx) (E:XK) (m:MA):TI:=λσ H R=>∃ θ h ρ,W G θ h H/\Fr G θ H ρ σ/\aC G (m9 G E) θ H (m ρ h) (λxs θ' _ H'=>∀ J,og G θ' H' xs J->R J H')
@[irreducible] def DI (X:Cx) (E:XK) (m:MA) (tg e:Expr):Prop:=PI X tg e (lI X.G E m)
theorem ka (X:Cx) (E:XK) (m:MA) (tg e:Expr):DI X E m tg e=(PI X tg e (lI X.G E m)):=by unfold DI;rfl
theorem PI.imp {tg e:Expr} {t t':TI} (h:PI X tg e t) (k:∀ σ H Q,t' σ H Q->t σ H Q):PI X tg e t':=λpins s σ H Q I q=>h pins s σ H Q I (k _ _ _ q)
theorem aO.get {G:Gx} {θ:Ur} {H:Hp}:∀ {ds:List D} {vs:List V} {i:Nat} {d:D} {v:V},aO G θ H ds vs->ds[i]?=some d->vs[i]?=some v->bQ G θ H d v
 | _,_,i,_,_,.nil,e,_=>by simp at e
 | _,_,0,_,_,.cons r _,e,e'=>by simp at e e';subst e;subst e';exact r
 | _,_,i+1,d,v,.cons _ t,e,e'=>aO.get (i:=i) t (by simpa using e) (by simpa using e')
theorem aO.some {G:Gx} {θ:Ur} {H:Hp} {ds:List D} {vs:List V} {i:Nat} {d:D} (r:aO G θ H ds vs) (e:ds[i]?=some d):∃ v,vs[i]?=some v/\bQ G θ H d v:=by
 have hl:ds.length=vs.length:=Qr r;have hi:i < vs.length:=by rw [<- hl];exact (Qi.mp e).1
 exact ⟨vs[i],P9 hi,r.get e (P9 hi)⟩
theorem JU {G:Gx} {K:Ut} {θ:Ur} {H:Hp} {ds:List D} {a:Addr} {xs:List V} (ha:view θ H a=some (.tup xs)) (r:aO G θ H ds xs):og G θ H ds (My K a):=λθ' h' H' ev w=>by have ha':=aA _ _ _ _ (ev.same _ _ ha);have q:gE K H' a xs:=gE.of ha';refine ⟨λi d e=>?_,⟨xs,q,by rw [<- show ds.length=xs.length from Qr r];exact PY _⟩⟩;obtain ⟨v,ev',rv⟩:=r.some e;refine ⟨⟨xs,v,q,ev'⟩,λx H2 ⟨e2,y⟩=>?_⟩;subst e2;have:=y xs q;rw [ev'] at this;cases this;exact ⟨Ev.refl,w,rv.ev ev⟩
theorem JV {G:Gx} {K:Ut} {θ:Ur} {H:Hp} {ds:List D} {a:Addr} {xs:List V} (ha:view θ H a=some (.lst xs)) (r:aO G θ H ds xs):og G θ H ds (Nt K a):=λθ' h' H' ev w=>by have ha':=aA _ _ _ _ (ev.same _ _ ha);have q:jk K H' a xs:=jk.of ha';refine ⟨λi d e=>?_,⟨xs,q,by rw [<- show ds.length=xs.length from Qr r];exact PY _⟩⟩;obtain ⟨v,ev',rv⟩:=r.some e;refine ⟨⟨xs,v,q,ev'⟩,λx H2 ⟨e2,y⟩=>?_⟩;subst e2;have:=y xs q;rw [ev'] at this;cases this;exact ⟨Ev.refl,w,rv.ev ev⟩
theorem JW {tg:Expr} (h:DE X E m e):DI X E (AS m) tg e:=by
 simp only [bj,ka] at *
 exact PI.imp (C6 h) λσ H R ⟨θ,h,ρ,w,fr,p⟩=>⟨θ,h,ρ,w,fr,(aC.bind p).mono λd θ1 h1 H1 _ _ ⟨ev,w1,p1⟩ v r=>by
   cases d with
   | dat d=>
    cases d with
    | tuple ds=>obtain ⟨a,xs,e,ha,_,rr⟩:=gO r;exact ⟨a,e,⟨xs,gE.of (aA _ _ _ _ ha)⟩,p1 θ1 H1 Ev.refl w1 _ (JU ha rr)⟩
    | _=>exact p1.elim
   | _=>exact p1.elim⟩
theorem JX {tg:Expr} (h:DE X E m e):DI X E (DN m) tg e:=by
 simp only [bj,ka] at *
 exact PI.imp (F7 h) λσ H R ⟨θ,h,ρ,w,fr,p⟩=>⟨θ,h,ρ,w,fr,(aC.bind p).mono λd θ1 h1 H1 _ _ ⟨ev,w1,p1⟩ v r=>by
   cases d with
   | dat d=>
    cases d with
    | list ds=>obtain ⟨a,xs,e,ha,_,rr⟩:=gP r;exact ⟨a,e,⟨xs,jk.of (aA _ _ _ _ ha)⟩,p1 θ1 H1 Ev.refl w1 _ (JV ha rr)⟩
    | _=>exact p1.elim
   | _=>exact p1.elim⟩
theorem A7 {x:Str} {i:Nat} (s:PyData.strOk x=true):PyData.strOk ⟨#[x.cps.getD i 0]⟩=true:=by
 have q:=Array.all_eq_true.mp s;simp only [PyData.strOk];apply Array.all_eq_true.mpr;intro j hj;simp only [P7,Qf,QJ] at hj;have:j=0:=by omega
 subst this;simp only [List.getElem_toArray,List.getElem_cons_zero];by_cases hi:i < x.cps.size
 ·have:=q i hi;simpa [Array.getD,hi] using this
 ·simp [Array.getD,hi]
theorem JY {tg:Expr} (h:DE X E m e):DI X E (DP m) tg e:=by
 simp only [bj,ka] at *
 exact PI.imp (JE h) λσ H R ⟨θ,h,ρ,w,fr,p⟩=>⟨θ,h,ρ,w,fr,(aC.bind p).mono λd θ1 h1 H1 _ _ ⟨ev,w1,p1⟩ v r=>by
   cases d with
   | dat d=>
    cases d with
    | str s=>obtain ⟨r1,r2⟩:=r;refine ⟨s,r1,p1 θ1 H1 Ev.refl w1 _ λθ' h' H' ev w=>⟨λi d e=>?_,by show (signs s).length=_;simp [signs]⟩⟩;simp only [signs,QY,QF] at e;obtain ⟨j,e1,e2⟩:=e;obtain ⟨hj,e3⟩:=Qi.mp e1;simp at hj e3;subst e3;subst e2;refine ⟨hj,λx H2 ⟨z1,z2⟩=>?_⟩;subst z1;subst z2;exact ⟨Ev.refl,w,rfl,by simp only [cb];exact A7 (by simpa [cb] using r2)⟩
    | _=>exact p1.elim
   | _=>exact p1.elim⟩
theorem GI {G:Gx} {θ:Ur} {H:Hp} {lo:Int} {n:Nat}:og G θ H (nums lo n) (Mz lo n):=λθ' h' H' ev w=>by refine ⟨λi d e=>?_,by show n<=(nums lo n).length;simp [nums]⟩;simp only [nums,QY,QF] at e;obtain ⟨j,e1,e2⟩:=e;obtain ⟨hj,e3⟩:=Qi.mp e1;simp at hj e3;subst e3;subst e2;refine ⟨hj,λx H2 ⟨z1,z2⟩=>?_⟩;subst z1;subst z2;exact ⟨Ev.refl,w,rfl,by simp [cb]⟩
theorem bJ {G:Gx} {θ:Ur} {H:Hp} {j:Int} {v:V} (r:bQ G θ H (.int j) v):v=.int j:=r.1
theorem A8 {tg a:Expr} {p' pos':Pos} (hg:Gl X "range") (hm:X.mg "range" = none) (ha:DA X E ma [a]) (hs:starEach [a] X.env=[(false,eval a X.env)]:=by rfl):DI X E (kF ma) tg (.Call (.Name "range" p') [a] [] pos'):=by
 simp only [j9,ka] at *
 exact PI.imp (BZ hg hm ha hs) λσ H R ⟨θ,h,ρ,w,fr,p⟩=>⟨θ,h,ρ,w,fr,(aC.bind p).mono λds θ1 h1 H1 _ _ ⟨ev,w1,p1⟩ vs r=>by
   split at p1
   ·split at p1
    ·rename_i j _ hj
     cases r with
     | cons r1 rr=>cases rr;cases bJ r1;exact ⟨j,rfl,hj.1,hj.2,p1 θ1 H1 Ev.refl w1 _ GI⟩
    ·exact p1.elim
   ·exact p1.elim⟩
theorem xR:∀ (xs ys:Uq),(mj xs ys).length=min xs.length ys.length
 | [],_=>by simp [mj]
 | _::_,[]=>by simp [mj]
 | x::xs,y::ys=>by simp [mj,xR xs ys]
theorem xS:∀ (xs ys:Uq) (i:Nat) (d:D),(mj xs ys)[i]?=some d->∃ x y,xs[i]?=some x/\ys[i]?=some y/\d=.dat (.tuple [x,y])
 | [],_,i,d,e=>by simp [mj] at e
 | _::_,[],i,d,e=>by simp [mj] at e
 | x::xs,y::ys,0,d,e=>by simp [mj] at e;exact ⟨x,y,rfl,rfl,e.symm⟩
 | x::xs,y::ys,i+1,d,e=>by simpa using xS xs ys i d (by simpa [mj] using e)
theorem oh:∀ {ds:Uq} {i:Nat} {d:PyData},cD ds=true->ds[i]?=some d->cb d=true
 | [],i,d,_,e=>by simp at e
 | x::xs,0,d,s,e=>by simp [cD] at s e;subst e;exact s.1
 | x::xs,i+1,d,s,e=>by simp [cD] at s;exact oh (i:=i) s.2 (by simpa using e)
theorem JZ {kk:Nat} {es:Uv} {tpos:Pos} {e1 e2:Expr} {p' pos':Pos} (hg:Gl X "zip") (hm:X.mg "zip" = none) (ha:DA X E ma [e1,e2]) (hs:starEach [e1,e2] X.env=[(false,eval e1 X.env),(false,eval e2 X.env)]:=by rfl) (hs2:starEach [e2] X.env=[(false,eval e2 X.env)]:=by rfl) :
  DI X E (AU ma) (.Tuple es kk tpos) (.Call (.Name "zip" p') [e1,e2] [] pos'):=by
 simp only [j9,ka] at *
 exact PI.imp (Jx hg hm ha hs hs2) λσ H R ⟨θ,h,ρ,w,fr,p⟩=>⟨θ,h,ρ,w,fr,(aC.bind p).mono λds θ1 h1 H1 _ _ ⟨ev,w1,p1⟩ vs r=>by
   split at p1
   ·rename_i xs ys _
    cases r with
    | cons r1 rr=>
     cases rr with
     | cons r2 rr=>
      cases rr;have s1:cD xs=true:=by simpa [cb] using r1.2
      have s2:cD ys=true:=by simpa [cb] using r2.2
      obtain ⟨a1,us,rfl,ha1,q1,_⟩:=gO r1;obtain ⟨a2,ws,rfl,ha2,q2,_⟩:=gO r2;refine ⟨a1,a2,us,ws,rfl,gE.of (aA _ _ _ _ ha1),gE.of (aA _ _ _ _ ha2),p1 θ1 H1 Ev.refl w1 _ λθ' h' H' ev' w'=>?_⟩;have k1:gE X.K H' a1 us:=gE.of (aA _ _ _ _ (ev'.same _ _ ha1));have k2:gE X.K H' a2 ws:=gE.of (aA _ _ _ _ (ev'.same _ _ ha2));have l1:=q1.length;have l2:=q2.length;refine ⟨λi d e=>?_,⟨us,ws,k1,k2,by rw [xR,l1,l2];omega⟩⟩;obtain ⟨x,y,ex,ey,rfl⟩:=xS _ _ _ _ e;obtain ⟨u,eu,ru⟩:=bc.get' q1 ex;obtain ⟨z,ez,rz⟩:=bc.get' q2 ey;refine ⟨⟨us,ws,u,z,k1,k2,eu,ez⟩,λv H2 ⟨pp,x',y',e1,hp,e2,c1,c2⟩=>?_⟩;have:=c1 us k1;rw [eu] at this;cases this;have:=c2 ws k2;rw [ez] at this;cases this;subst e1;subst e2;obtain ⟨e3,w3,g3⟩:=w'.put (o:=.tup [u,z]) hp;exact ⟨e3,w3,⟨pp,[u,z],rfl,g3,.cons (ru.same (ev'.same.trans e3.same)) (.one (rz.same (ev'.same.trans e3.same)))⟩,by simp [cb,cD,oh s1 ex,oh s2 ey]⟩
   ·exact p1.elim⟩
abbrev cY:XK:=λ_ _ _=>False
theorem aC.cK {α β:Type} {G:Gx} {F:XP} {θ:Ur} {H:Hp} {r:R α} {f:α->Hm->R β} {L:β->Ur->Hm->Hp->Prop} (p:aC G F θ H (r.uh.bind f) L) {F':XP} :
  aC G F' θ H r λa θ1 h1 H1=>Ev θ H θ1 H1/\W G θ1 h1 H1/\aC G F θ1 H1 (f a h1) L:=by
 cases r with
 | ok a h'=>exact λθ1 H1 e w=>⟨e,w,aC.later p e⟩
 | exc x h'=>exact p.elim
 | bad=>exact p.elim
theorem PS.La {X:Cx} {st:Stmt} {t:TS} (h:PS X.La st t):PS X st t:=λpins s σ H D I hw=>
 Q7 (h pins s σ H D (I.tX _) hw) (λ_ _ q=>q.ky) λ_ _ z=>False.elim z
end
end Ml
namespace L2
open PySem PySem.Spec PyProof.Rows
theorem HW.PB {P:UA} {w:World} {K:Ut} {mg:Uo} {base:Heap} {x qual:Str} {st:Stmt} {f:Addr} {fd:FuncData} {N ps:Uu} {k:Nat} {sp:Sp} (F:HW K x qual st f fd) (S:aP N ps (aE st)) (len:∀ vs H Q E,sp vs H Q E->vs.length=ps.length)
  (hbody:∀ (cdv:Value) (A:UC) (outer:List Env) (s:UD) (H:Hp) (vs:List V) (Q:VK) (E:XK),cg k (A.deeper (envOfC qual (aE st) s.heap.objs.size f cdv))->sp vs H Q E ->
   ∃ t,za (tY (tU P w) P w K mg base N qual (aE st) f cdv A outer s H E) (fb st) t/\t {nx:=λ_ H'=>Q .non H',rt:=Q} (start N vs) H):jl P w K mg base (tU P w) (k+1) f fd ps sp:=by
 obtain ⟨oc,od,kV,doc,pm,an,cdv,ct,osl,rfl,lk,hcd⟩:=F.ex;exact LF lk hcd S len λA outer s H vs Q E hr hsp=>hbody cdv A outer s H vs Q E hr hsp
structure D3 (P:UA) (w:World) (K:Ut) (mg:Uo) (base:Heap) (x:Str) (ps:Uu) (k:Nat) (sp:Sp):Prop where
 ex:∃ (f:Addr) (fd:FuncData),mg x=some (.ref f)/\PySem.W.keepIn K (.ref f)=true/\Binds K fd ps []/\jl P w K mg base (tU P w) k f fd ps sp
section
variable {X:Cx} {x:Str} {ps:Uu} {k:Nat} {sp:Sp} {e:Expr} {es:Uv} {t:TA} {p pos:Pos}
theorem J0 {E:XK} (F:D3 X.prog X.w X.K X.mg X.base x ps k sp) (hx:Passes (tU X.prog X.w) X E) (hr:cg k X.A) (hg:Gl X x) (ha:PA X (e::es) t) (hdb:(x == ("__debug__" : Str))=false:=by decide) (he:starEach (e::es) X.env=(false,eval e X.env)::starEach es X.env:=by rfl)
  (hpl:(backTo pos (starEach es X.env)).any (·.1)=false:=by rfl):PE X (.Call (.Name x p) (e::es) [] pos) (Dh sp [] E t):=by
 obtain ⟨f,fd,h1,h2,h3,h4⟩:=F.ex;exact Ge h4 hr hg h1 h2 h3 .nil hx ha hdb he hpl
end
end L2
namespace Ml
open PySem PySem.Spec L2
section
variable {X:Cx} {E:XK} {m:ME} {a b:MS} {t:MT} {e e1 tg:Expr} {st:Stmt} {ss ss':List Stmt} {ma it:MA} {pos:Pos} {i:Nat} {x:Str} {g:MG}
theorem D4 {G:Gx} {F:XP} {θ1:Ur} {H1:Hp} {h1:Hm} {xs:List D} {J:It} {C:Ends} {σ:St} {ρ:Fm} (hJ:og G θ1 H1 xs J) (w1:W G θ1 h1 H1) (fr:Fr G θ1 H1 ρ σ) (p1:aC G F θ1 H1 (bP g b xs ρ h1) (KS G C)) :
  ∃ W':Nat->Nat->St->Hp->Prop,(∃ m,W' 0 m σ H1)/\∀ i m σ H,W' i m σ H ->
   (J.stop i H/\C.nx σ H)\/(J.go i H/\∃ N:St->Hp->Prop,(∀ σ' H',N σ' H'->∃ m',m' < m/\W' (i+1) m' σ' H')/\∀ x H',J.yld i H x H'->lG G cY g x σ H' λσ2 H2=>lS G cY b {C with nx:=N,ct:=N,bk:=C.nx} σ2 H2):=by
 refine ⟨λi m σ H=>m=xs.length - i/\i<=xs.length/\∃ θ' h' ρ',Ev θ1 H1 θ' H/\W G θ' h' H/\Fr G θ' H ρ' σ/\aC G F θ' H (bP g b (xs.drop i) ρ' h') (KS G C),⟨xs.length,by simp,Rf _,θ1,h1,ρ,Ev.refl,w1,fr,p1⟩,?_⟩;rintro i m σ H ⟨rfl,hi,θ',h',ρ',ev,w,fr',p⟩;obtain ⟨j1,j2⟩:=hJ θ' h' H ev w;by_cases hlt:i < xs.length
 ·have ed:xs.drop i=xs[i]::xs.drop (i+1):=QT hlt;rw [ed] at p;obtain ⟨g1,g2⟩:=j1 i xs[i] (P9 hlt);refine .inr ⟨g1,λσ2 H2=>i+1<=xs.length/\∃ θ' h' ρ',Ev θ1 H1 θ' H2/\W G θ' h' H2/\Fr G θ' H2 ρ' σ2/\aC G F θ' H2 (bP g b (xs.drop (i+1)) ρ' h') (KS G C),λσ' H' q=>⟨xs.length - (i+1),by omega,rfl,q⟩,λx H2 y=>?_⟩;obtain ⟨e2,w2,r2⟩:=g2 x H2 y;refine ⟨θ',h',ρ',xs[i],w2,fr'.ev e2,r2,(aC.cK (p.later e2)).mono λρ3 θ3 h3 H3 _ _ ⟨e3,w3,p3⟩ σ3 fr3=>⟨θ3,h3,ρ3,w3,fr3,(aC.cK p3).mono λf θ4 h4 H4 _ _ ⟨e4,w4,p4⟩=>?_⟩⟩;have ev4:=(ev.trans e2).trans (e3.trans e4)
  cases f with
  | nx ρ5=>exact λσ5 fr5=>⟨hlt,θ4,h4,ρ5,ev4,w4,fr5,p4⟩
  | ct ρ5=>exact λσ5 fr5=>⟨hlt,θ4,h4,ρ5,ev4,w4,fr5,p4⟩
  | bk ρ5=>exact p4 θ4 H4 Ev.refl w4
  | rt d=>exact p4 θ4 H4 Ev.refl w4
 ·have hx:i=xs.length:=by omega
  subst hx;rw [Q1 (PY _)] at p;exact .inl ⟨j2,p θ' H Ev.refl w σ fr'⟩
theorem jb {body:List Stmt} (hc:X.calm=true) (hi:DI X.La cY it tg e) (hg:DG X.La cY g tg) (hb:D0 X.La cY b body) (hs:∀ x,foldedSetIterable e X.env x=pure x:=by intro _;rfl):DS X E (kl it g b) (.For tg e body [] pos):=by simp only [jt,ph,mF,ka] at *;exact PS.La (PS.imp (Ja PassesOwn.never hc hi hg hb hs) λC σ H ⟨θ,h,ρ,w,fr,p⟩=>⟨θ,h,ρ,w,fr,(aC.cK p).mono λxs θ1 h1 H1 _ _ ⟨ev,w1,p1⟩ J hJ=>D4 hJ w1 (fr.ev ev) p1⟩)
theorem eK {α β:Type} {G:α->β->Prop}:∀ {xs ys:List α} {us ws:List β},Paired G xs us->Paired G ys ws->Paired G (xs++ys) (us++ws)
 | _,_,_,_,.nil,s=>s
 | _,_,_,_,.cons r t,s=>.cons r (eK t s)
theorem Cp {G:Gx} {F:XP} {n:Nat} {θ1:Ur} {H1:Hp} {h1:Hm} {xs:List D} {J:It} {σ:St} {ρ:Fm} {Q:VK} {mk:List D->Hm->R D} (hJ:og G θ1 H1 xs J) (w1:W G θ1 h1 H1) (fr:Fr G θ1 H1 ρ σ) (p1:aC G F θ1 H1 ((dZ n ρ g t m xs h1).bind mk) (KV G Q))
  (hmk:∀ ys vs θ h H,ys.length<=xs.length->W G θ h H->aO G θ H ys vs->aC G F θ H (mk ys h) (KV G Q)->∀ p,H p=none->Q (.ref p) (upd H p (.lst vs))) (hz:xs.length<=sizeLine) :
  Ds n J (lG G cY g) (lT G cY t) (lE G cY m) σ H1 Q:=by
 refine ⟨λi m' ys H=>m'=xs.length - i/\i<=xs.length/\∃ θ' h' acc,acc.length<=i/\Ev θ1 H1 θ' H/\W G θ' h' H/\aO G θ' H acc ys/\aC G F θ' H ((dZ n ρ g t m (xs.drop i) h').bind λzs h2=>mk (acc++zs) h2) (KV G Q),
  ⟨xs.length,by simp,Rf _,θ1,h1,[],PY _,Ev.refl,w1,.nil,p1⟩,?_⟩
 rintro i m' ys H ⟨rfl,hi,θ',h',acc,hacc,ev,w,ra,p⟩;obtain ⟨j1,j2⟩:=hJ θ' h' H ev w;have hly:ys.length<=sizeLine:=by rw [<- show acc.length=ys.length from Qr ra];omega
 by_cases hlt:i < xs.length
 ·have ed:xs.drop i=xs[i]::xs.drop (i+1):=QT hlt;rw [ed] at p;obtain ⟨g1,g2⟩:=j1 i xs[i] (P9 hlt);refine .inr ⟨g1,hly,λys2 H2=>i+1<=xs.length/\∃ θ' h' acc,acc.length<=i+1/\Ev θ1 H1 θ' H2/\W G θ' h' H2/\aO G θ' H2 acc ys2/\aC G F θ' H2 ((dZ n ρ g t m (xs.drop (i+1)) h').bind λzs h2=>mk (acc++zs) h2) (KV G Q),λys' H' q=>⟨xs.length - (i+1),by omega,rfl,q⟩,λx H2 y=>?_⟩;obtain ⟨e2,w2,r2⟩:=g2 x H2 y;have p2:=p.later e2;unfold dZ at p2;simp only [R.bind_assoc] at p2;refine ⟨θ',h',_,xs[i],w2,((fr.ev ev).ev e2).replicate n,r2,(aC.cK p2).mono λρ3 θ3 h3 H3 _ _ ⟨e3,w3,p3⟩ σ3 fr3=>⟨θ3,h3,ρ3,w3,fr3,(aC.cK p3).mono λc θ4 h4 H4 _ _ ⟨e4,w4,p4⟩=>?_⟩⟩;have ev4:=(ev.trans e2).trans (e3.trans e4);have ra4:=aO.ev (e2.trans (e3.trans e4)) ra
  cases c with
  | false=>exact ⟨hlt,θ4,h4,acc,by omega,ev4,w4,ra4,p4⟩
  | true=>
   simp only [QB,R.bind_assoc] at p4;refine ⟨θ4,h4,ρ3,w4,fr3.ev e4,(aC.cK p4).mono λy θ5 h5 H5 _ _ ⟨e5,w5,p5⟩ v5 r5=>⟨hlt,θ5,h5,acc++[y],by simp;omega,ev4.trans e5,w5,?_,?_⟩⟩
   ·exact eK (aO.ev e5 ra4) (.cons r5 .nil)
   ·simp only [R.bind_assoc,R.ak] at p5;simpa using p5
 ·have hx:i=xs.length:=by omega
  subst hx;rw [Q1 (PY _)] at p;simp only [dZ,R.ak,TN] at p;exact .inl ⟨j2,hly,hmk acc ys θ' h' H hacc w ra p⟩
variable {own:Uu} {scope:Scope} {elt:Expr} {ifs:Uv}
@[irreducible] def GJ (X:Cx) (E:XK) (t:MT) (es:Uv):Prop:=Ca X es (lT X.G E t)
theorem pq (X:Cx) (E:XK) (t:MT) (es:Uv):GJ X E t es=(Ca X es (lT X.G E t)):=by unfold GJ;rfl
theorem fj:GJ X E cJ []:=by simp only [pq] at *;exact λpins s σ H Q I ⟨θ,h,ρ,w,fr,p⟩=>Gn pins s σ H Q I (p θ H Ev.refl w)
theorem iC (h:DT X E t e):GJ X E t [e]:=by simp only [kJ,pq] at *;exact Gp h
theorem A9 {G:Gx} {n:Nat} {mk:List D->Hm->R D} {σ:St} {H:Hp} {Q:VK} (h:lE G E (af mk (mD n it g t m)) σ H Q)
  (hmk:∀ ys vs θ h H,ys.length<=sizeLine->W G θ h H->aO G θ H ys vs->aC G (m9 G E) θ H (mk ys h) (KV G Q)->∀ p,H p=none->Q (.ref p) (upd H p (.lst vs))) :
  AK n (lI G E it) (lG G cY g) (lT G cY t) (lE G cY m) σ H Q:=by
 obtain ⟨θ,h,ρ,w,fr,p⟩:=h;simp only [af,mD,R.bind_assoc] at p;refine ⟨θ,h,ρ,w,fr,(aC.bind p).mono λxs θ1 h1 H1 _ _ ⟨ev,w1,p1⟩ J hJ=>?_⟩;split at p1
 ·rename_i hz;exact Cp hJ w1 (fr.ev ev) p1 (λys vs θ h H hl=>hmk ys vs θ h H (P6 hl (cR hz))) (cR hz)
 ·exact p1.elim
theorem ng {G:Gx} {F:XP} {Q:VK} (ys:List D) (vs:List V) (θ:Ur) (h:Hm) (H:Hp) (w1:W G θ h H) (r1:aO G θ H ys vs) (p1:aC G F θ H (fO ys h) (KV G Q)) (q:Addr) (hq:H q=none):Q (.ref q) (upd H q (.lst vs)):=by
 unfold fO at p1
 cases e:g9 ys with
 | none=>rw [e] at p1;exact p1.elim
 | some ds=>
  rw [e] at p1;simp only at p1;split at p1
  ·obtain ⟨e1,w2,g⟩:=w1.put (o:=.lst vs) hq;obtain ⟨h1,h2⟩:=lK r1 e;exact p1 _ _ e1 w2 _ ⟨⟨q,vs,rfl,g,h1.same e1.same⟩,by simp [cb,h2]⟩
  ·exact p1.elim
theorem eQ (own:Uu) (CS:eG X.env.scope X.N own scope=true) (hc:X.calm=true) (hi:DI X E it tg e) (hg:∀ C s2 H2 fp pins,DG (au X own scope C s2 H2 fp pins) cY g tg)
  (ht:∀ C s2 H2 fp pins,GJ (au X own scope C s2 H2 fp pins) cY t ifs) (he:∀ C s2 H2 fp pins,DE (au X own scope C s2 H2 fp pins) cY m elt) (hs:∀ x,foldedSetIterable e X.env x=pure x:=by intro _;rfl) :
  DE X E (cf own.length it g t m) (.ListComp elt [⟨tg,e,ifs,0⟩] scope pos):=by
 simp only [bj,mF,ka,pq] at *;exact PE.imp (Gq (g:=lG X.G cY g) (tc:=lT X.G cY t) (te:=lE X.G cY m) own CS hc hi hg ht he hs) λσ H Q q=>A9 q λys vs θ h H _=>ng ys vs θ h H
theorem GK {G:Gx} {n:Nat} {mk:List D->Hm->R D} {C:Ends} {σ:St} {H:Hp} (h:lS G E (bF i (af mk (mD n it g t m))) C σ H)
  (hmk:∀ Q ys vs θ h H,ys.length<=sizeLine->W G θ h H->aO G θ H ys vs->aC G (m9 G E) θ H (mk ys h) (KV G Q)->∀ p,H p=none->Q (.ref p) (upd H p (.lst vs))) :
  BW (AK n (lI G E it) (lG G cY g) (lT G cY t) (lE G cY m)) (L2.av i) C σ H:=by
 obtain ⟨θ,h,ρ,w,fr,p⟩:=h;refine A9 (Q:=λx H1=>L2.av i x σ H1 C.nx) ⟨θ,h,ρ,w,fr,(aC.bind p).mono λd θ1 h1 H1 _ _ ⟨ev,w1,p1⟩ v r=>p1 θ1 H1 Ev.refl w1 _ ((fr.ev ev).set r)⟩ (hmk _)
theorem wq (own:Uu) {pos' spos:Pos} (hN:X.N.Nodup) (hxi:X.N[i]?=some x) (hx:X.env.scope.names.lookup x=some .local) (CS:eG X.env.scope X.N own scope=true) (hc:X.calm=true) (hi:DI X E it tg e) (hg:∀ C s2 H2 fp pins,DG (au X own scope C s2 H2 fp pins) cY g tg)
  (ht:∀ C s2 H2 fp pins,GJ (au X own scope C s2 H2 fp pins) cY t ifs) (he:∀ C s2 H2 fp pins,DE (au X own scope C s2 H2 fp pins) cY m elt) (hs:∀ x,foldedSetIterable e X.env x=pure x:=by intro _;rfl)
  (hsw:swapsWith (.ListComp elt [⟨tg,e,ifs,0⟩] scope pos) (some (.Name x pos')) spos.line X.env=pure true:=by rfl):DS X E (bF i (cf own.length it g t m)) (.Assign [.Name x pos'] (.ListComp elt [⟨tg,e,ifs,0⟩] scope pos) spos):=by
 simp only [bj,jt,mF,ka,pq] at *;exact PS.imp (Gr (g:=lG X.G cY g) (tc:=lT X.G cY t) (te:=lE X.G cY m) own hN hxi hx CS hc hi hg ht he hs hsw) λC σ H q=>GK q λQ ys vs θ h H _=>ng ys vs θ h H
end
def FR (G:Gx) (F:Fn):Sp:=λvs H Q E=>∃ θ h ds,W G θ h H/\aO G θ H ds vs/\aC G (m9 G E) θ H (F ds h) (KV G Q)
def D5 (F:Fn) (n:Nat):Prop:=∀ ds h,ds.length≠n->F ds h=.bad
theorem GL {G:Gx} {F:Fn} {n:Nat} (ar:D5 F n):∀ vs H Q E,FR G F vs H Q E->vs.length=n:=λvs H Q E ⟨θ,h,ds,w,r,p⟩=>by
 by_cases e:ds.length=n
 ·rw [<- e];exact (Qr r).symm
 ·rw [ar ds h e] at p;exact p.elim
theorem uX {p n:Nat} {b:MS}:D5 (bA p n b) p:=λds h e=>by unfold bA;rw [if_neg e]
structure bh (P:UA) (w:World) (K:Ut) (mg:Uo) (base:Heap) (x:Str) (ps:Uu) (k:Nat) (F:Fn):Prop where
 has:D3 P w K mg base x ps k (FR ⟨P,w,mg,K⟩ F)
 ar:D5 F ps.length
section
variable {P:UA} {w:World} {K:Ut} {mg:Uo} {base:Heap} {x qual:Str} {st:Stmt} {f:Addr} {fd:FuncData} {N ps:Uu} {k:Nat} {b:MS} {F:Fn}
theorem Fr.start {G:Gx} {θ:Ur} {H:Hp} {ds:List D} {vs:List V} {n:Nat} (r:aO G θ H ds vs) (hl:ds.length=ps.length):Fr G θ H (ds.map some++List.replicate (N.length - ps.length) none) (start N vs):=by
 have hv:ds.length=vs.length:=Qr r;unfold L2.start;rw [<- hv,hl];refine ⟨by simp [<- hv,hl],λi d e=>?_⟩;by_cases hi:i < ds.length
 ·rw [Qu (by simpa using hi)] at e;rw [Qu (by simpa [<- hv] using hi)];simp only [QY] at e ⊢
  cases e1:ds[i]? with
  | none=>rw [e1] at e;cases e
  | some d'=>rw [e1] at e;simp at e;subst e;obtain ⟨v,e2,rv⟩:=r.some e1;exact ⟨v,by rw [e2];rfl,rv⟩
 ·rw [Qz (by simpa using hi),Sa] at e;split at e<;>cases e
theorem OX (Fu:HW K x qual st f fd) (S:aP N ps (aE st)) (hbody:∀ (cdv:Value) (A:UC) (outer:List Env) (s:UD) (H:Hp) (E:XK),cg k (A.deeper (PyProof.Rows.envOfC qual (aE st) s.heap.objs.size f cdv)) ->
   D0 (tY (tU P w) P w K mg base N qual (aE st) f cdv A outer s H E) E b (fb st)):jl P w K mg base (tU P w) (k+1) f fd ps (FR ⟨P,w,mg,K⟩ (bA ps.length N.length b)):=by
 simp only [ph] at *;refine Fu.PB S (GL uX) λcdv A outer s H vs Q E hr ⟨θ,h,ds,w,r,p⟩=>⟨_,hbody cdv A outer s H E hr,?_⟩;unfold bA at p;split at p
 ·rename_i hl;refine ⟨θ,h,_,w,Fr.start (N:=N) (n:=0) r hl,(aC.bind p).mono λfl θ1 h1 H1 _ _ ⟨ev,w1,p1⟩=>?_⟩
  cases fl with
  | nx ρ=>exact λσ fr=>p1 θ1 H1 Ev.refl w1 _ ⟨rfl,by simp [cb]⟩
  | rt d=>exact p1 θ1 H1 Ev.refl w1
  | bk ρ=>exact p1.elim
  | ct ρ=>exact p1.elim
 ·exact p.elim
theorem bh.mono {j:Nat} (h:bh P w K mg base x ps j F) (l:j<=k):bh P w K mg base x ps k F:=by obtain ⟨⟨f,fd,h1,h2,h3,h4⟩,ar⟩:=h;exact ⟨⟨f,fd,h1,h2,h3,h4.mono l⟩,ar⟩
theorem bh.eq {F':Fn} (h:bh P w K mg base x ps k F) (e:F=F'):bh P w K mg base x ps k F':=e▸h
end
section
variable {X:Cx} {E:XK} {x:Str} {ps:Uu} {k:Nat} {F:Fn} {e:Expr} {es:Uv} {ma:MA} {p pos:Pos}
theorem cu:Passes (tU X.prog X.w) X cY:=λ_ _ _ _ _ _ _ ⟨_,_,_,_,_,_,_,_,_,_,_,_,_,h⟩=>h.elim
theorem L0 (F':bh X.prog X.w X.K X.mg X.base x ps k F) (hx:Passes (tU X.prog X.w) X E) (hr:cg k X.A) (hg:Gl X x) (ha:DA X E ma (e::es)) (hdb:(x == ("__debug__" : Str))=false:=by decide) (he:starEach (e::es) X.env=(false,eval e X.env)::starEach es X.env:=by rfl)
  (hpl:(backTo pos (starEach es X.env)).any (·.1)=false:=by rfl):DE X E (af F ma) (.Call (.Name x p) (e::es) [] pos):=by
 simp only [bj,j9] at *;exact PE.imp (J0 F'.has hx hr hg ha hdb he hpl) λσ H Q ⟨θ,h,ρ,w,fr,p⟩=>⟨θ,h,ρ,w,fr,(aC.bind p).mono λxs θ1 h1 H1 _ _ ⟨ev,w1,p1⟩ vs r=>⟨θ1,h1,xs,w1,by simpa using r,p1⟩⟩
theorem J1 (F':bh X.prog X.w X.K X.mg X.base x [] k F) (hx:Passes (tU X.prog X.w) X E) (hr:cg k X.A) (hg:Gl X x) (hdb:(x == ("__debug__" : Str))=false:=by decide):DE X E (af F ah) (.Call (.Name x p) [] [] pos):=by simp only [bj] at *;obtain ⟨f,fd,h1,h2,h3,h4⟩:=F'.has.ex;exact PE.imp (Di h4 hr hg h1 h2 h3 .nil hx hdb) λσ H Q ⟨θ,h,ρ,w,fr,p⟩=>⟨θ,h,[],w,.nil,p⟩
end
theorem Cq {h:Heap} {x:PyData} {u:Value} (hx:(match x with | .int _ | .str _ | .bool _ | .none=>true | _=>false)=true) (r:RelV (Ie x) u):Reads h u x []:=by
 cases x with
 | none=>cases r;exact .none
 | bool b=>cases r;exact .bool b
 | int i=>obtain ⟨t,rfl⟩:=r;exact .int i t
 | str s=>obtain ⟨t,rfl⟩:=r;exact .str s t
 | _=>cases hx
theorem jJ {h:Heap}:∀ {xs:Uq} {us:Us},(∀ x∈xs,(match x with | .int _ | .str _ | .bool _ | .none=>true | _=>false)=true)->Vals (xs.map Ie) us->ReadsAll h us xs []
 | [],us,_,r=>by cases r;exact .nil
 | x::xs,us,hx,r=>by
  cases r with
  | cons r1 r2=>exact .cons (as:=[]) (bs:=[]) (Cq (hx x (by simp)) r1) (jJ (λy m=>hx y (by simp [m])) r2)
section
variable {X:Cx} {pins:Uk} {σ:L2.St} {H:Hp} {s:UD} {θ:Ur} {hm:Hm}
theorem fk (I:Inv X pins σ H s) (w:W X.G θ hm H):∀ (n:Nat) {x:D} {v:V} {u:Value} {d:PyData},bQ X.G θ H x v->RelV v u->xq hm n x=some d->(∃ as,Reads s.heap u d as)/\cb d=true:=by
 intro n
 induction n with
 | zero=>
  intro x v u d r rv e
  cases x with
  | dat d'=>simp only [xq] at e;cases e;exact ⟨Rep.reads I (r.1.same (aA _ _)) rv,r.2⟩
  | ktup xs=>simp only [xq] at e;cases e;obtain ⟨a,rfl,⟨o,its,k,hl,hc,hd,_,vs⟩,hx,hs⟩:=r;cases rv;exact ⟨⟨_,.tuple (I.tT _ _ hl) hc hd (jJ hx vs)⟩,by simpa [cb] using hs⟩
  | _=>simp [xq] at e
 | succ n ih=>
  intro x v u d r rv e
  cases x with
  | dat d'=>simp only [xq] at e;cases e;exact ⟨Rep.reads I (r.1.same (aA _ _)) rv,r.2⟩
  | ktup xs=>simp only [xq] at e;cases e;obtain ⟨a,rfl,⟨o,its,k,hl,hc,hd,_,vs⟩,hx,hs⟩:=r;cases rv;exact ⟨⟨_,.tuple (I.tT _ _ hl) hc hd (jJ hx vs)⟩,by simpa [cb] using hs⟩
  | ref i=>
   simp only [xq] at e;obtain ⟨a,ha,rfl⟩:=r;cases rv
   cases e1:hm[i]? with
   | none=>rw [e1] at e;cases e
   | some o=>
    rw [e1] at e
    cases o with
    | lst xs=>
     simp only at e;obtain ⟨vs,hv,rs⟩:=w.obj i a _ ha e1;obtain ⟨_,its,k,rvs,ho⟩:=I.hok a _ hv
     have all:∀ {xs:List D} {vs:List V} {us:Us} {ds:Uq},aO X.G θ H xs vs->Vals vs us->kC (xq hm n) xs=some ds->(∃ as,ReadsAll s.heap us ds as)/\cD ds=true:=by
      intro xs
      induction xs with
      | nil=>intro vs us ds r1 r2 e;cases r1;cases r2;cases e;exact ⟨⟨_,.nil⟩,by simp [cD]⟩
      | cons x xs ihx=>
       intro vs us ds r1 r2 e
       cases r1 with
       | cons p1 p2=>
        cases r2 with
        | cons q1 q2=>
         unfold kC at e
         cases e2:xq hm n x with
         | none=>rw [e2] at e;cases e
         | some d=>
          cases e3:kC (xq hm n) xs with
          | none=>rw [e2,e3] at e;cases e
          | some ds'=>rw [e2,e3] at e;cases e;obtain ⟨⟨as,z1⟩,s1⟩:=ih p1 q1 e2;obtain ⟨⟨bs,z2⟩,s2⟩:=ihx p2 q2 e3;exact ⟨⟨_,.cons z1 z2⟩,by simp [cD,s1,s2]⟩
     cases e2:kC (xq hm n) xs with
     | none=>rw [e2] at e;cases e
     | some ds=>rw [e2] at e;cases e;obtain ⟨⟨as,z⟩,s1⟩:=all rs rvs e2;exact ⟨⟨_,.list ho rfl rfl (by simpa using z)⟩,by simpa [cb] using s1⟩
    | _=>cases e
  | _=>simp [xq] at e
end
end Ml
namespace PySem.SeqAt
open PySem PySem.MeetsSeq PySem.AutoSeq1
theorem rR (t:Addr) (its:Uy) (m:Nat) (d2:Option Addr) (sl2:Uw) (l:Addr) (es:Ux) (n:Nat) (dd:Option Addr) (sl:Uw) :
  Meets (Builtin.«tuple.__eq__» ⟨[.ref t,.ref l],[]⟩) (λ_ R s=>s.heap.get? t=some {cls:=.type "tuple",dict:=d2,data:=.seq its m,slots:=sl2}/\s.heap.get? l=some {cls:=.type "dict",dict:=dd,data:=.dict es n,slots:=sl}/\R (.ok (.ret .notImplemented)) s):=
 .of_wp λprog w A R s h=>by
  obtain ⟨hp,g,d,tk,os⟩:=s;obtain ⟨ht,hl,h⟩:=h;have f1:=F.sub_dict_tuple
  wp_walk using wpAny_loadPart' hl,S9 hl,wpAny_loadPart' ht,S9 ht
  exact ⟨_,rfl,h⟩
theorem rS (t:Addr) (its:Uy) (m:Nat) (d2:Option Addr) (sl2:Uw) (l:Addr) (es:Ux) (n:Nat) (dd:Option Addr) (sl:Uw) :
  Meets (Builtin.«dict.__eq__» ⟨[.ref l,.ref t],[]⟩) (λ_ R s=>s.heap.get? t=some {cls:=.type "tuple",dict:=d2,data:=.seq its m,slots:=sl2}/\s.heap.get? l=some {cls:=.type "dict",dict:=dd,data:=.dict es n,slots:=sl}/\R (.ok (.ret .notImplemented)) s):=
 .of_wp λprog w A R s h=>by
  obtain ⟨hp,g,d,tk,os⟩:=s;obtain ⟨ht,hl,h⟩:=h;have f1:=F.sub_tuple_dict
  wp_walk using wpAny_loadPart' hl,S9 hl,wpAny_loadPart' ht,S9 ht
  exact ⟨_,rfl,h⟩
theorem rT {t:Addr} {h:Heap} {its:Uy} {m:Nat} {d2:Option Addr} {sl2:Uw} {l:Addr} {es:Ux} {n:Nat} {dd:Option Addr} {sl:Uw} (ht:h.get? t=some {cls:=.type "tuple",dict:=d2,data:=.seq its m,slots:=sl2})
  (hl:h.get? l=some {cls:=.type "dict",dict:=dd,data:=.dict es n,slots:=sl}):t≠l:=λe=>by
 subst e;rw [ht] at hl;have:=RV Obj.cls (QV hl);exact absurd (show Value.type "tuple" = Value.type "dict" from this) (by decide)
theorem RcAt.wt {A:UC} {s:UD} {t:Addr} {its:Uy} {m:Nat} {d2:Option Addr} {sl2:Uw} {l:Addr} {es:Ux} {n:Nat} {dd:Option Addr} {sl:Uw} (ht:s.heap.get? t=some {cls:=.type "tuple",dict:=d2,data:=.seq its m,slots:=sl2})
  (hl:s.heap.get? l=some {cls:=.type "dict",dict:=dd,data:=.dict es n,slots:=sl}) (hu:A.units < cLine):RcAt A s (.ref t) (.ref l) false:=λprog w E Q h=>
 have ne:t≠l:=rT ht hl
 rc_eq_decline_or (k:=false) ⟨_,ht,rfl⟩ ⟨_,hl,rfl⟩ (by decide) F.sub_dict_tuple F.slot_tuple_eq SM
  (λ_ hq=>SQ F.slot_tuple_eq ⟨_,ht,rfl⟩ F.entry_tuple_eq (F.args_tuple_eq_2 _ _) (rR t its m d2 sl2 l es n dd sl) ⟨ht,hl,hq⟩)
  (λ_ hq=>SQ SM ⟨_,hl,rfl⟩ F.entry_dict_eq (F.args_dict_eq_2 _ _) (rS t its m d2 sl2 l es n dd sl) ⟨ht,hl,hq⟩)
  (λ_ hq=>wpAny_isSame_ref_other' ne ht hl (show Value.type "dict" ≠ Value.type "tuple" by decide) hq) (.inr hu) h
theorem EqAt.wt {A:UC} {s:UD} {t:Addr} {its:Uy} {m:Nat} {d2:Option Addr} {sl2:Uw} {l:Addr} {es:Ux} {n:Nat} {dd:Option Addr} {sl:Uw} (ht:s.heap.get? t=some {cls:=.type "tuple",dict:=d2,data:=.seq its m,slots:=sl2})
  (hl:s.heap.get? l=some {cls:=.type "dict",dict:=dd,data:=.dict es n,slots:=sl}) (hu:A.units < cLine):EqAt A s (.ref t) (.ref l) false:=
 .of_refs (rT ht hl) (.wt ht hl hu)
end PySem.SeqAt
namespace Ml
open PySem PySem.Spec L2
theorem zF {d e:PyData} {k:Bool} (sa:cb d=true) (sb:cb e=true) (h:eqQ d e=some k):d.canLay0=true/\e.canLay0=true/\min d.depth e.depth<=40/\k=PyData.eqv d e:=by
 unfold eqQ at h;split at h
 ·rename_i hn;simp only [PV,noDict,Sy,Qb] at hn;cases h;exact ⟨i9 sa hn.1.1,i9 sb hn.1.2,hn.2,rfl⟩
 ·cases h
theorem Ka {A:UC} {s:UD} {a b:Value} {d e:PyData} {as bs:Ur} {k:Bool} (ra:Reads s.heap a d as) (rb:Reads s.heap b e bs) (sa:cb d=true) (sb:cb e=true) (hu:A.units+41 < cLine) (h:Ck d e=some k):SeqAt.EqAt A s a b k/\d.canLay0=true:=by
 unfold Ck at h;split at h
 ·cases h;cases ra
  cases rb with
  | @dict a' o' es n kvs as1 bs1 h1 h2 h3 h4 h5=>obtain ⟨oc,od,dat,osl⟩:=o';cases h2;cases h3;exact ⟨SeqAt.EqAt.GF _ _ h1 (by omega),by simpa [PyData.canLay0,cb] using sa⟩
 ·split at h
  ·rename_i hn;simp only [noDict,Sy] at hn;cases h;have hl:=i9 sa hn
   cases ra with
   | @tuple l o vs m xs as1 g1 g2 g3 g4=>
    obtain ⟨oc2,od2,dat2,osl2⟩:=o;cases g2;cases g3
    cases rb with
    | @dict a' o' es n kvs as1 bs1 h1 h2 h3 h4 h5=>obtain ⟨oc,od,dat,osl⟩:=o';cases h2;cases h3;exact ⟨SeqAt.EqAt.wt g1 h1 (by omega),hl⟩
  ·cases h
 ·obtain ⟨l1,l2,l3,rfl⟩:=zF sa sb h;exact ⟨Tz _ _ A s a b as bs ra rb l1 l2 (by omega),l1⟩
theorem aC.km {G:Gx} {E:XP} {θ:Ur} {H:Hp} {h:Hm} {d:D} {Q:VK} (p:aC G E θ H (.ok d h) (KV G Q)) (w:W G θ h H) {v:V} (r:bQ G θ H d v):Q v H:=p θ H Ev.refl w v r
theorem cA {G:Gx} {θ:Ur} {H:Hp} (b:Bool):bQ G θ H (.bool b) (.bl b):=⟨rfl,by simp [cb]⟩
theorem cB {G:Gx} {θ:Ur} {H:Hp} (i:Int):bQ G θ H (.int i) (.int i):=⟨rfl,by simp [cb]⟩
theorem Cr {G:Gx} {θ:Ur} {H:Hp}:bQ G θ H D.none .non:=⟨rfl,by simp [cb]⟩
section
variable {X:Cx} {E:XK} {k:Nat}
theorem Cs (hr:cg k X.A):n8 X E (compareOp .Eq) oEq:=by
 intro pins s σ H x y v u Q I rx ry ⟨θ,h,d1,d2,w,r1,r2,p⟩;unfold oEq at p;split at p
 ·exact Lz pins s σ H x y v u Q I rx ry (by cases r1;cases r2;exact ⟨rfl,by simpa using p.km w (cA _)⟩)
 ·cases e1:pV h d1 with
  | none=>rw [e1] at p;exact p.elim
  | some d=>
   cases e2:pV h d2 with
   | none=>rw [e1,e2] at p;exact p.elim
   | some e=>
    rw [e1,e2] at p;simp only at p
    cases e3:eqQ d e with
    | none=>rw [e3] at p;exact p.elim
    | some b=>rw [e3] at p;obtain ⟨⟨as,z1⟩,s1⟩:=fk I w 3 r1 rx e1;obtain ⟨⟨bs,z2⟩,s2⟩:=fk I w 3 r2 ry e2;obtain ⟨l1,l2,l3,rfl⟩:=zF s1 s2 e3;exact SeqAt.compareEq_reads z1 z2 l1 l2 (by have:=hr.units;omega) ⟨.bl _,H,I,rfl,p.km w (cA _)⟩
theorem xT (hr:cg k X.A):n8 X E (compareOp .NotEq) m6:=by
 intro pins s σ H x y v u Q I rx ry ⟨θ,h,d1,d2,w,r1,r2,p⟩;unfold m6 at p;split at p
 ·exact LA pins s σ H x y v u Q I rx ry (by cases r1;cases r2;exact ⟨rfl,by simpa using p.km w (cA _)⟩)
 ·cases e1:pV h d1 with
  | none=>rw [e1] at p;exact p.elim
  | some d=>
   cases e2:pV h d2 with
   | none=>rw [e1,e2] at p;exact p.elim
   | some e=>
    rw [e1,e2] at p;simp only at p
    cases e3:eqQ d e with
    | none=>rw [e3] at p;exact p.elim
    | some b=>rw [e3] at p;obtain ⟨⟨as,z1⟩,s1⟩:=fk I w 3 r1 rx e1;obtain ⟨⟨bs,z2⟩,s2⟩:=fk I w 3 r2 ry e2;obtain ⟨l1,l2,l3,rfl⟩:=zF s1 s2 e3;exact SeqAt.compareNe_reads z1 z2 l1 l2 (by have:=hr.units;omega) ⟨.bl _,H,I,rfl,p.km w (cA _)⟩
theorem wu {A:UC} {s:UD} {x:Value} {d:PyData} {bs:Ur} (rx:Reads s.heap x d bs) (sx:cb d=true) (hu:A.units+41 < cLine):∀ {vs:Us} {ds:Uq} {as:Ur} {b:Bool},ReadsAll s.heap vs ds as->cD ds=true->CZ d ds=some b ->
  (∀ y∈vs,SeqAt.EqAt A s y x ((Ck (SeqAt.readOf s.heap y) d).getD false))/\(vs.any λy=>(Ck (SeqAt.readOf s.heap y) d).getD false)=b
 | [],_,_,b,.nil,_,e=>by cases e;exact ⟨λy m=>by simp at m,rfl⟩
 | v::vs,_,_,b,.cons (d:=d1) (ds:=ds) r1 r2,so,e=>by
  simp only [cD,PV] at so;unfold CZ at e
  cases e1:Ck d1 d with
  | none=>rw [e1] at e;cases e
  | some b1=>
   cases e2:CZ d ds with
   | none=>rw [e1,e2] at e;cases e
   | some b2=>
    rw [e1,e2] at e;cases e;obtain ⟨h1,h2⟩:=wu rx sx hu r2 so.2 e2;obtain ⟨q1,q2⟩:=Ka r1 rx so.1 sx hu e1;have er:SeqAt.readOf s.heap v=d1:=SeqAt.readOf_eq q2 r1;refine ⟨λy m=>?_,?_⟩
    ·rcases PZ.mp m with z | z
     ·subst z;rw [er,e1];exact q1
     ·exact h1 y z
    ·rw [Sw,h2,er,e1];rfl
theorem D6 (hr:cg k X.A) {pins:Uk} {s:UD} {σ:L2.St} {H:Hp} {v u:Value} {Q:VK} {d:PyData} {ds:Uq} {as bs:Ur} {b:Bool} {sq:PyData} (hsq:sq=.tuple ds\/sq=.list ds) (I:Inv X pins σ H s) (z1:Reads s.heap v d as) (z2:Reads s.heap u sq bs) (s1:cb d=true) (s2:cD ds=true) (e:CZ d ds=some b) :
  (Q (.bl b) H->wpAny (model X.prog X.w) X.A (compareOp .In v u) (EP X pins σ Q) X.xe s)/\(Q (.bl !b) H->wpAny (model X.prog X.w) X.A (compareOp .NotIn v u) (EP X pins σ Q) X.xe s):=by
 have hu:X.A.in1.units+41 < cLine:=by have:=hr.units;show X.A.units+1+41 < cLine;omega
 rcases hsq with rfl | rfl
 ·cases z2 with
  | tuple h1 h2 h3 h4=>
   obtain ⟨q1,q2⟩:=wu (A:=X.A.in1) z1 s1 hu h4 s2 e;rename_i vs n;have q3:(vs.any λy=>(Ck (SeqAt.readOf s.heap y) d).getD false)=b:=by rw [<- q2,<- Array.any_toList]
   exact ⟨λq=>SeqAt.in_tupleAt _ ⟨_,h1,h2,_,h3⟩ (λy m=>q1 y (RW.mpr m)) (by rw [q3];exact ⟨.bl b,H,I,rfl,q⟩),λq=>SeqAt.notIn_tupleAt _ ⟨_,h1,h2,_,h3⟩ (λy m=>q1 y (RW.mpr m)) (by rw [q3];exact ⟨.bl (!b),H,I,rfl,q⟩)⟩
 ·cases z2 with
  | list h1 h2 h3 h4=>
   obtain ⟨q1,q2⟩:=wu (A:=X.A.in1) z1 s1 hu h4 s2 e;rename_i vs n _;have q3:(vs.any λy=>(Ck (SeqAt.readOf s.heap y) d).getD false)=b:=by rw [<- q2,<- Array.any_toList]
   exact ⟨λq=>SeqAt.in_listAt _ ⟨_,h1,h2,_,h3⟩ (λy m=>q1 y (RW.mpr m)) (by rw [q3];exact ⟨.bl b,H,I,rfl,q⟩),λq=>SeqAt.notIn_listAt _ ⟨_,h1,h2,_,h3⟩ (λy m=>q1 y (RW.mpr m)) (by rw [q3];exact ⟨.bl (!b),H,I,rfl,q⟩)⟩
end
end Ml
namespace PySem.SeqAt
open PySem.AutoSeq1 (wpAny_loadPart')
open PySem.MeetsSeq PySem.MeetsSeq2 PySem.MeetsSeq3
def D7 (A:UC) (s:UD) (y x:Value) (b:Bool):Prop:=
 ∀ (prog:UA) (w:World) (E:Uj) (Q:Uj),Q (.bool b) s->wpAny (model prog w) A (richCompare .Lt y x) Q E s
inductive mG (A:UC) (s:UD):Us->Us->Bool->Prop
 | nil:mG A s [] [] false
 | left {w ws}:mG A s [] (w::ws) true
 | right {v vs}:mG A s (v::vs) [] false
 | eq {v vs w ws k}:EqAt A s v w true->mG A s vs ws k->mG A s (v::vs) (w::ws) k
 | ne {v vs w ws k}:EqAt A s v w false->D7 A s v w k->mG A s (v::vs) (w::ws) k
theorem oj (l b:Addr) (its1 its2:Uy) (n n2:Nat) (dd dd2:Option Addr) (sl sl2:Uw) (k:Bool) :
  Meets (Builtin.«tuple.__lt__» ⟨[.ref l,.ref b],[]⟩) (λA R s=>s.heap.get? l=some {cls:=.type "tuple",dict:=dd,data:=.seq its1 n,slots:=sl}/\s.heap.get? b=some {cls:=.type "tuple",dict:=dd2,data:=.seq its2 n2,slots:=sl2}/\mG A.in1 s its1.toList its2.toList k/\R (.ok (.ret (.bool k))) s):=
 .of_wp λprog w A R s h=>by
  obtain ⟨hp,g,d,tk,os⟩:=s;obtain ⟨hl,hb,hx,h⟩:=h;have f2:=AutoSeq1.sub_tuple_tuple
  wp_walk using wpAny_loadPart' hl,wpAny_loadPart' hb,wpAny_forIn_list _ (λrest b s'=>b.1=none/\s'=⟨hp,g,d,tk,os⟩/\∃ (vs ws:Us),rest=vs.zip ws/\mG A.in1 ⟨hp,g,d,tk,os⟩ vs ws k/\vs.length+its2.size=ws.length+its1.size/\R (.ok (.ret (.bool k))) ⟨hp,g,d,tk,os⟩) _
  case turn=>
   rintro ⟨y,x⟩ rest b s' ⟨hb',rfl,vs,ws,hz,hx,hlen,hR⟩
   cases hx with
   | nil=>rw [List.zip_nil_left] at hz;cases hz
   | left=>rw [List.zip_nil_left] at hz;cases hz
   | right=>rw [List.zip_nil_right] at hz;cases hz
   | @eq v vs w' ws k he hx'=>
    rw [RC] at hz;injection hz with hyx hrest;injection hyx with hy hx;subst hy hx;simp only [Qf] at hlen;refine PQ (he prog w _ _ ?_)
    wp_walk
    exact ⟨rfl,rfl,_,_,hrest,hx',by omega,hR⟩
   | @ne v vs w' ws k he hlt=>
    rw [RC] at hz;injection hz with hyx hrest;injection hyx with hy hx;subst hy hx;refine PQ (he prog w _ _ ?_);have hri:=hlt prog w
    wp_walk using hri
    exact ⟨_,rfl,by simpa using hR⟩
  case fin=>
   rintro ⟨b1,b2⟩ s' ⟨hb',rfl,vs,ws,hz,hx,hlen,hR⟩;simp only at hb';subst hb'
   have hv:k=decide (its1.size < its2.size):=by
    cases hx with
    | nil=>simp only [QJ] at hlen;exact (Ql (by omega)).symm
    | left=>simp only [QJ,Qf] at hlen;exact (Qj (by omega)).symm
    | right=>simp only [QJ,Qf] at hlen;exact (Ql (by omega)).symm
    | eq=>rw [RC] at hz;cases hz
    | ne=>rw [RC] at hz;cases hz
   rw [hv] at hR
   wp_walk
   exact ⟨_,rfl,by simpa [Builtin.Tuple.tupleCompareSizes] using hR⟩
  case h=>exact ⟨rfl,rfl,its1.toList,its2.toList,rfl,hx,by simp;omega,h⟩
theorem D7.tuples {A:UC} {s:UD} {l b:Addr} {its1 its2:Uy} {k:Bool} (h1:s.heap.IsTuple l its1) (h2:s.heap.IsTuple b its2) (hu:A.units < cLine) (hx:mG A.in1 s its1.toList its2.toList k):D7 A s (.ref l) (.ref b) k:=λprog w E Q h=>by
 obtain ⟨⟨c1,d1,e1,l1⟩,p1,g1,n1,z1⟩:=h1;obtain ⟨⟨c2,d2,e2,l2⟩,p2,g2,n2,z2⟩:=h2;simp only at g1 z1 g2 z2;subst g1 z1 g2 z2
 exact richCompare_meets_room (op:=.Lt) ⟨_,p1,rfl⟩ ⟨_,p2,rfl⟩ Tr PySem.F.entry_tuple_lt (PySem.F.args_tuple_lt_2 _ _) (oj l b _ _ n1 n2 d1 d2 l1 l2 k)
  ⟨p1,p2,hx,show Value.bool k≠Value.notImplemented/\Q (.bool k) s from ⟨(λx=>nomatch x),h⟩⟩ hu
end PySem.SeqAt
namespace Ml
open PySem PySem.Spec L2
open PySem.SeqAt
mutual
theorem om:∀ (d e:PyData) (A:UC) (s:UD) (a b:Value) (as bs:Ur) (k:Bool),Reads s.heap a d as->Reads s.heap b e bs->d.canLay0=true->e.canLay0=true->A.units+min d.depth e.depth < cLine->bG d e=some k->D7 A s a b k
 | .int i,.int j,A,s,a,b,as,bs,k,ra,rb,_,_,_,h=>by cases ra;cases rb;simp only [bG] at h;cases h;exact λprog w E Q q=>(PyProof.Rows.lt_int q:wpAny (model prog w) A (compareOp .Lt _ _) Q E s)
 | .str x,.str y,A,s,a,b,as,bs,k,ra,rb,_,_,_,h=>by cases ra;cases rb;simp only [bG,mY] at h;cases h;exact λprog w E Q q=>(PySem.P.lt_str q:wpAny (model prog w) A (compareOp .Lt _ _) Q E s)
 | .tuple xs,.tuple ys,A,s,a,b,as,bs,k,ra,rb,ha,hb,hu,h=>by
  cases ra with
  | tuple g1 g2 g3 g4=>
   cases rb with
   | tuple k1 k2 k3 k4=>simp only [bG] at h;simp only [PyData.canLay0] at ha hb;simp only [PyData.depth] at hu;exact D7.tuples ⟨_,g1,g2,_,g3⟩ ⟨_,k1,k2,_,k3⟩ (by omega) (pv xs ys A.in1 s _ _ _ _ k g4 k4 ha hb (by show A.units+1+_ < _;omega) h)
 | .none,_,_,_,_,_,_,_,_,_,_,_,_,_,h=>by simp [bG] at h
 | .bool _,_,_,_,_,_,_,_,_,_,_,_,_,_,h=>by simp [bG] at h
 | .list _,_,_,_,_,_,_,_,_,_,_,_,_,_,h=>by simp [bG] at h
 | .dict _,_,_,_,_,_,_,_,_,_,_,_,_,_,h=>by simp [bG] at h
 | .int _,.none,_,_,_,_,_,_,_,_,_,_,_,_,h=>by simp [bG] at h
 | .int _,.bool _,_,_,_,_,_,_,_,_,_,_,_,_,h=>by simp [bG] at h
 | .int _,.str _,_,_,_,_,_,_,_,_,_,_,_,_,h=>by simp [bG] at h
 | .int _,.list _,_,_,_,_,_,_,_,_,_,_,_,_,h=>by simp [bG] at h
 | .int _,.tuple _,_,_,_,_,_,_,_,_,_,_,_,_,h=>by simp [bG] at h
 | .int _,.dict _,_,_,_,_,_,_,_,_,_,_,_,_,h=>by simp [bG] at h
 | .str _,.none,_,_,_,_,_,_,_,_,_,_,_,_,h=>by simp [bG] at h
 | .str _,.bool _,_,_,_,_,_,_,_,_,_,_,_,_,h=>by simp [bG] at h
 | .str _,.int _,_,_,_,_,_,_,_,_,_,_,_,_,h=>by simp [bG] at h
 | .str _,.list _,_,_,_,_,_,_,_,_,_,_,_,_,h=>by simp [bG] at h
 | .str _,.tuple _,_,_,_,_,_,_,_,_,_,_,_,_,h=>by simp [bG] at h
 | .str _,.dict _,_,_,_,_,_,_,_,_,_,_,_,_,h=>by simp [bG] at h
 | .tuple _,.none,_,_,_,_,_,_,_,_,_,_,_,_,h=>by simp [bG] at h
 | .tuple _,.bool _,_,_,_,_,_,_,_,_,_,_,_,_,h=>by simp [bG] at h
 | .tuple _,.int _,_,_,_,_,_,_,_,_,_,_,_,_,h=>by simp [bG] at h
 | .tuple _,.str _,_,_,_,_,_,_,_,_,_,_,_,_,h=>by simp [bG] at h
 | .tuple _,.list _,_,_,_,_,_,_,_,_,_,_,_,_,h=>by simp [bG] at h
 | .tuple _,.dict _,_,_,_,_,_,_,_,_,_,_,_,_,h=>by simp [bG] at h
theorem pv:∀ (xs ys:Uq) (A:UC) (s:UD) (vs ws:Us) (as bs:Ur) (k:Bool),ReadsAll s.heap vs xs as->ReadsAll s.heap ws ys bs->PyData.canLayAll0 xs=true->PyData.canLayAll0 ys=true->A.units+min (PyData.depthAll xs) (PyData.depthAll ys) < cLine->cE xs ys=some k->mG A s vs ws k
 | [],[],A,s,vs,ws,as,bs,k,ra,rb,_,_,_,h=>by cases ra;cases rb;simp only [cE] at h;cases h;exact .nil
 | [],_::_,A,s,vs,ws,as,bs,k,ra,rb,_,_,_,h=>by cases ra;cases rb;simp only [cE] at h;cases h;exact .left
 | _::_,[],A,s,vs,ws,as,bs,k,ra,rb,_,_,_,h=>by cases ra;cases rb;simp only [cE] at h;cases h;exact .right
 | x::xs,y::ys,A,s,vs,ws,as,bs,k,ra,rb,ha,hb,hu,h=>by
  cases ra with
  | cons r1 r2=>
   cases rb with
   | cons q1 q2=>
    simp only [PyData.canLayAll0,PV] at ha hb;simp only [PyData.depthAll] at hu;have he:=eqAt_reads x y A s _ _ _ _ r1 q1 ha.1 hb.1 (by omega);simp only [cE] at h
    cases hq:PyData.eqv x y with
    | true=>rw [hq] at he h;exact .eq he (pv xs ys A s _ _ _ _ k r2 q2 ha.2 hb.2 (by omega) (by simpa using h))
    | false=>rw [hq] at he h;exact .ne he (om x y A s _ _ _ _ k r1 q1 ha.1 hb.1 (by omega) (by simpa using h))
end
section
variable {X:Cx} {E:XK} {k:Nat}
theorem GN (hr:cg k X.A):n8 X E (compareOp .Lt) oLt:=by
 intro pins s σ H x y v u Q I rx ry ⟨θ,h,d1,d2,w,r1,r2,p⟩;unfold oLt at p
 cases d1 with
 | dat d=>
  cases d2 with
  | dat e=>
   simp only at p;split at p
   ·rename_i hn;simp only [PV,noDict,Sy,Qb] at hn
    cases e3:bG d e with
    | none=>rw [e3] at p;exact p.elim
    | some b=>rw [e3] at p;obtain ⟨⟨as,z1⟩,s1⟩:=fk I w 3 r1 rx (lH h 3 d);obtain ⟨⟨bs,z2⟩,s2⟩:=fk I w 3 r2 ry (lH h 3 e);exact om d e X.A s v u as bs b z1 z2 (i9 s1 hn.1.1) (i9 s2 hn.1.2) (by have:=hr.units;omega) e3 X.prog X.w X.xe _ ⟨.bl b,H,I,rfl,p.km w (cA b)⟩
   ·exact p.elim
  | _=>exact p.elim
 | _=>exact p.elim
theorem Ig {op:Value->Value->Sem Value} {f:D->D->Hm->R D} {C:Int->Int->Prop} {g:Int->Int->V} (h:ik X op (rI C g)) (k:∀ θ hm H d1 d2 Q,W X.G θ hm H->aC X.G (m9 X.G E) θ H (f d1 d2 hm) (KV X.G Q)->∃ i j,d1=.int i/\d2=.int j/\C i j/\Q (g i j) H):n8 X E op f:=
 n8.of h λθ hm H d1 d2 x y Q w r1 r2 p=>by obtain ⟨i,j,rfl,rfl,c,q⟩:=k θ hm H d1 d2 Q w p;exact ⟨i,j,bJ r1,bJ r2,c,q⟩
theorem zG {op:Value->Value->Sem Value} {f:D->D->Hm->R D} {g:Int->Int->V} (h:ik X op (HP g)) (k:∀ θ hm H d1 d2 Q,W X.G θ hm H->aC X.G (m9 X.G E) θ H (f d1 d2 hm) (KV X.G Q)->∃ i j,d1=.int i/\d2=.int j/\Q (g i j) H):n8 X E op f:=
 n8.of h λθ hm H d1 d2 x y Q w r1 r2 p=>by obtain ⟨i,j,rfl,rfl,q⟩:=k θ hm H d1 d2 Q w p;exact ⟨i,j,bJ r1,bJ r2,q⟩
theorem Ih:n8 X E (binaryOp .Sub) wa:=zG Jg λθ hm H d1 d2 Q w p=>by
 unfold wa at p;split at p
 ·exact ⟨_,_,rfl,rfl,p.km w (cB _)⟩
 ·exact p.elim
theorem xU:n8 X E (binaryOp .Mod) oMod:=Ig Ji λθ hm H d1 d2 Q w p=>by
 unfold oMod at p;split at p
 ·split at p
  ·rename_i hj;exact ⟨_,_,rfl,rfl,hj,p.km w (cB _)⟩
  ·exact p.elim
 ·exact p.elim
theorem Kb:n8 X E (binaryOp .FloorDiv) uU:=Ig F8 λθ hm H d1 d2 Q w p=>by
 unfold uU at p;split at p
 ·split at p
  ·rename_i hj;exact ⟨_,_,rfl,rfl,hj,p.km w (cB _)⟩
  ·exact p.elim
 ·exact p.elim
theorem N0:n8 X E (compareOp .Gt) MI:=zG LC λθ hm H d1 d2 Q w p=>by
 unfold MI at p;split at p
 ·exact ⟨_,_,rfl,rfl,p.km w (cA _)⟩
 ·exact p.elim
theorem N3:n8 X E (compareOp .GtE) LX:=zG LD λθ hm H d1 d2 Q w p=>by
 unfold LX at p;split at p
 ·exact ⟨_,_,rfl,rfl,p.km w (cA _)⟩
 ·exact p.elim
theorem GO:n8 X E (compareOp .LtE) oLe:=n8.of (ik.or LB Cd) λθ hm H d1 d2 x y Q w r1 r2 p=>by
 unfold oLe at p;split at p
 ·exact .inl ⟨_,_,bJ r1,bJ r2,p.km w (cA _)⟩
 ·exact .inr ⟨_,_,r1.1,r2.1,p.km w (cA _)⟩
 ·exact p.elim
end
end Ml
set_option maxHeartbeats 1000000
namespace Ml
open PySem PySem.Spec L2 PyProof.Rows PySem.W
def pY:PyData->Nat
 | .int _=>0
 | .str _=>1
 | _=>2
def D8:Nat->String
 | 0 => "int"
 | 1 => "str"
 | _ => "tuple"
theorem rV {M:Model} {h:Heap} {a:Addr} {o:Obj} (h1:h.get? a=some o) (h2:o.cls=.type "tuple"):Looks M h (typeOf (.ref a)) (.type "tuple"):=by obtain ⟨oc,od,dat,osl⟩:=o;cases h2;exact (Looks.ld h1).andThen .now
theorem Ct {M:Model} {h:Heap} {v:Value} {d:PyData} {as:Ur} (r:Reads h v d as) (t:ag d=true):Looks M h (typeOf v) (.type (D8 (pY d))):=by
 cases r with
 | int i t=>exact .now
 | str x t=>exact .now
 | tuple h1 h2 h3 h4=>exact rV h1 h2
 | _=>simp [ag] at t
def L3 (h:Heap) (f:Option Value) (d:PyData):Prop:=match d with
 | .tuple []=>f=none
 | .tuple (x::_)=>∃ u bs,f=some u/\Reads h u x bs
 | _=>False
section
variable {P:UA} {w:World} {A:UC} {E:Uj} {s:UD}
theorem pZ {M:Model}:∀ {vs:Us} {ds:Uq} {as:Ur} {Q:List (Option Value)->UD->Prop},ReadsAll s.heap vs ds as->ds.all gF=true->(∀ fs,Paired (L3 s.heap) fs ds->Q fs s)->wpAny M A (vs.mapM firstOfTuple') Q E s
 | _,_,_,Q,.nil,_,h=>by rw [List.mapM_nil];exact PU (h [] .nil)
 | _,_,_,Q,.cons r t,al,h=>by
  simp only [TJ,PV] at al;rw [List.mapM_cons];refine PQ ?_
  cases r with
  | tuple h1 h2 h3 h4=>
   rename_i o its n xs;rw [kas_first_eq];refine PQ (Looks.here (rV h1 h2) ?_);rw [if_neg (by first | decide | simp)];refine PQ (PyProof.Rows.listItems_at h1 h3 (PU ?_));refine PQ (pZ t al.2 λfs hf=>PU (h _ (.cons ?_ hf)));have e0:its[0]?=its.toList[0]?:=by simp
   rw [e0];generalize its.toList=l at h4
   cases h4 with
   | nil=>rfl
   | cons r1 r2=>exact ⟨_,_,rfl,r1⟩
  | _=>simp [gF] at al
theorem qa {ds:Uq} (t:ao ds=true) (c:dw ds=true) {x y:PyData} {xs ys:Uq} (h1:.tuple (x::xs)∈ds) (h2:.tuple (y::ys)∈ds):pY x=pY y:=by
 have t1:=aM t h1;have t2:=aM t h2;simp only [ag,ao,PV] at t1 t2;have q:=eU c h1 h2;simp only [bG,cE] at q;by_cases e:x=y
 ·rw [e]
 ·rw [aS t1.1 t2.1 e,if_neg (by simp)] at q;cases x<;>cases y<;>first | rfl | (simp [bG] at q) | (simp [ag] at t1) | (simp [ag] at t2)
theorem lL {h:Heap}:∀ {fs:List (Option Value)} {ds:Uq},Paired (L3 h) fs ds->∀ v∈fs.filterMap id,∃ x xs bs,.tuple (x::xs)∈ds/\Reads h v x bs
 | _,_,.nil,v,hv=>by simp at hv
 | _,_,.cons (a:=f) (l₁:=fs) (b:=d) r p,v,hv=>by
  cases d with
  | tuple ys=>
   cases ys with
   | nil=>obtain rfl:f=none:=r;obtain ⟨x,xs,bs,m,q⟩:=lL p v (by simpa using hv);exact ⟨x,xs,bs,by simp [m],q⟩
   | cons y ys=>
    obtain ⟨u,bs,rfl,q⟩:=r;rcases (show v=u\/some v∈fs by simpa using hv) with rfl | hv
    ·exact ⟨y,ys,bs,by simp,q⟩
    ·obtain ⟨x,xs,bs,m,q⟩:=lL p v (by simpa using hv);exact ⟨x,xs,bs,by simp [m],q⟩
  | _=>exact (show False from r).elim
theorem readsAll_len {h:Heap}:∀ {vs:Us} {ds:Uq} {as:Ur},ReadsAll h vs ds as->vs.length=ds.length
 | _,_,_,.nil=>rfl
 | _,_,_,.cons _ t=>by simp [readsAll_len t]
theorem rW {M:Model} {h:Heap}:∀ {vs:Us} {ds:Uq} {as:Ur},ReadsAll h vs ds as->ds.all gF=true->∀ v∈vs,Looks M h (typeOf v) (.type "tuple")
 | _,_,_,.nil,_,v,hv=>by cases hv
 | _,_,_,.cons r1 r2,al,v,hv=>by
  simp only [TJ,PV] at al;rcases PZ.mp hv with rfl | hv
  ·cases r1 with
   | tuple g1 g2 g3 g4=>exact rV g1 g2
   | _=>simp [gF] at al
  ·exact rW r2 al.2 v hv
theorem Cu {M:Model} {vs:Us} {ds:Uq} {as:Ur} {Q:SortKind->UD->Prop} (r:ReadsAll s.heap vs ds as) (al:ds.all gF=true) (t:ao ds=true) (c:dw ds=true) (h2:1<=vs.length)
  (h1:∀ b,(b=true->∀ x xs,.tuple (x::xs)∈ds->pY x≠2)->Q (tuples' b) s) (h3:Q general' s) (h4:Q oneType' s):wpAny M A (keyKind' vs.toArray) Q E s:=by
 rw [PyProof.Rows.kat_kind_eq,List.mapM_toArray,map_eq_pure_bind];refine PQ (PQ (pZ r al λfs hf=>PU ?_));have hl:fs.length=ds.length:=Qr hf;have hl2:vs.length=ds.length:=readsAll_len r;split
 ·rename_i hall;refine PQ (RH ?_);have e:(fs.toArray.filterMap id)=(fs.filterMap id).toArray:=by simp
  rw [e];have hall':∀ f∈fs,f.isSome=true:=by simpa using hall
  obtain ⟨u,us,eu⟩:∃ u us,fs.filterMap id=u::us:=by
   match fs,hl,hall' with
   | [],hl,_=>simp at hl;omega
   | none::_,_,ha=>have:=ha none (.head _);cases this
   | some x::r,_,_=>exact ⟨x,r.filterMap id,by simp⟩
  obtain ⟨x,xs,bs,mx,rx⟩:=lL hf u (by rw [eu];simp);have tx:ag x=true:=by have:=aM t mx;simp only [ag,ao,PV] at this;exact this.1
  refine PQ (xJ (T:=.type (D8 (pY x))) (by rw [eu];simp) (λv hv=>?_) (by simp) ?_)
  ·obtain ⟨y,ys,bs,my,ry⟩:=lL hf v hv;have ty:ag y=true:=by have:=aM t my;simp only [ag,ao,PV] at this;exact this.1
   rw [qa t c mx my];exact Ct ry ty
  ·refine PU (h1 _ λhb y ys my=>?_);rw [<- qa t c mx my];intro z;rw [z] at hb;exact absurd hb (by decide)
 ·split
  ·exact PU h3
  ·refine PQ (xJ (T:=.type "tuple") h2 (λv hv=>?_) (by rfl) ?_)
   ·exact rW r al v hv
   ·exact PU h4
theorem qb {b:Bool} {Q:Bool->UD->Prop}:∀ {us vs:Us} {xs ys:Uq} {as bs:Ur} (i:Nat) (fin k:Bool),ReadsAll s.heap us xs as->ReadsAll s.heap vs ys bs->ao xs=true->ao ys=true->PyData.canLayAll0 xs=true->PyData.canLayAll0 ys=true ->
  A.units+min (PyData.depthAll xs) (PyData.depthAll ys) < cLine->fin=decide (xs.length < ys.length)->(b=true->i=0->∀ x∈xs.head?,pY x≠2)->cE xs ys=some k->Q k s->KatLex P w A b fin Q (us.zip vs) i s
 | _,_,_,_,_,_,i,fin,k,.nil,.nil,_,_,_,_,_,e,_,h,q=>by subst e;simp [cE] at h;subst h;exact PySem.W.kat_nil q
 | _,_,_,_,_,_,i,fin,k,.nil,.cons _ _,_,_,_,_,_,e,_,h,q=>by subst e;simp [cE] at h;subst h;exact PySem.W.kat_nil (by simpa using q)
 | _,_,_,_,_,_,i,fin,k,.cons _ _,.nil,_,_,_,_,_,e,_,h,q=>by subst e;simp [cE] at h;subst h;exact PySem.W.kat_nil (by simpa using q)
 | _,_,_,_,_,_,i,fin,k,.cons (d:=x) (ds:=xs) r1 r2,.cons (d:=y) (ds:=ys) q1 q2,t1,t2,l1,l2,hu,e,hb,h,q=>by
  rw [RC];refine PySem.W.kat_cons ?_;simp only [ao,PyData.canLayAll0,PV] at t1 t2 l1 l2;simp only [PyData.depthAll] at hu;refine Tz x y A s _ _ _ _ r1 q1 l1.1 l2.1 (by omega) P w _ _ ?_;simp only [cE] at h
  cases hq:PyData.eqv x y with
  | true=>rw [hq,if_pos rfl] at h;exact PySem.W.kat_yes (qb (i+1) fin k r2 q2 t1.2 t2.2 l1.2 l2.2 (by omega) (by rw [e];simp) (λ_ z=>by omega) h q)
  | false=>
   rw [hq,if_neg (by simp)] at h;refine PySem.W.kat_no ?_;have fin2:wpAny (model P w) A (oneLt' false _ _) Q (λ_ _=>False) s:=kat_one _ _ (om x y A s _ _ _ _ k r1 q1 l1.1 l2.1 (by omega) h P w (λ_ _=>False) _ q)
   cases hbi:(b && i == 0) with
   | false=>exact fin2
   | true=>
    simp only [PV,Tb] at hbi;have kx:=hb hbi.1 hbi.2 x (by simp)
    cases x with
    | int i1=>
     cases y with
     | int j1=>cases r1;cases q1;simp only [bG] at h;cases h;exact oneLt_int q
     | _=>simp [bG] at h
    | str i1=>
     cases y with
     | str j1=>cases r1;cases q1;simp only [bG,mY] at h;cases h;exact oneLt_str q
     | _=>simp [bG] at h
    | _=>exact absurd rfl kx
theorem zH (hu:A.units+41 < cLine) {x y:Value} {xs ys:Uq} {as bs:Ur} {k:Bool} {Q:Bool->UD->Prop} (rx:Reads s.heap x (.tuple xs) as) (ry:Reads s.heap y (.tuple ys) bs) (t1:ao xs=true) (t2:ao ys=true) (l1:PyData.canLayAll0 xs=true) (l2:PyData.canLayAll0 ys=true)
  (hd:PyData.depthAll xs<=20) (h:cE xs ys=some k) (κ:SortKind) (hκ:(∃ b,κ=tuples' b/\(b=true->∀ x∈xs.head?,pY x≠2))\/κ=general'\/κ=oneType') (q:Q k s):wpAny (model P w) A (keyLt' κ x y) Q (λ_ _=>False) s:=by
 have ex:=rx;have ey:=ry
 cases rx with
 | tuple g1 g2 g3 g4=>
  rename_i o1 i1 n1
  cases ry with
  | tuple k1 k2 k3 k4=>
   rename_i o2 i2 n2;rcases hκ with ⟨b,rfl,hb⟩ | rfl | rfl
   ·refine kat_lt g1 g3 k1 k3 (qb 0 _ k g4 k4 t1 t2 l1 l2 (by omega) ?_ (λhb' _=>hb hb') h q);have z1:=readsAll_len g4;have z2:=readsAll_len k4;simp at z1 z2;rw [z1,z2]
   ·show wpAny (model P w) A (oneLt' false _ _) Q _ s;exact kat_one _ _ (om (.tuple xs) (.tuple ys) A s _ _ _ _ k ex ey (by simpa [PyData.canLay0] using l1) (by simpa [PyData.canLay0] using l2) (by simp only [PyData.depth];omega) (by simpa [bG] using h) P w (λ_ _=>False) _ q)
   ·rw [keyLt'_oneType,oneLt'_eq];simp only [QB];refine PQ (wpAny_cRoomFor (by omega) ?_);obtain ⟨c1,d1,e1,sl1⟩:=o1;obtain ⟨c2,d2,e2,sl2⟩:=o2;cases g2;cases g3;cases k2;cases k3;refine PQ (wpAny_callSpecialIfBound?_slot ⟨_,g1,rfl⟩ Tr (SQ Tr ⟨_,g1,rfl⟩ PySem.F.entry_tuple_lt (PySem.F.args_tuple_lt_2 _ _) (SeqAt.oj _ _ _ _ n1 n2 d1 d2 sl1 sl2 k) ⟨g1,k1,pv xs ys _ s _ _ _ _ k g4 k4 l1 l2 (by show A.units+1+_ < _;omega) h,?_⟩));exact Rm q
theorem pA {h:Heap}:∀ {vs:Us} {ds:Uq} {as:Ur} (i:Nat),ReadsAll h vs ds as->i < vs.length->∃ bs,Reads h (vs.getD i .none) (ds.getD i .none) bs
 | _,_,_,i,.nil,hi=>by simp at hi
 | _,_,_,0,.cons r1 _,_=>⟨_,r1⟩
 | _,_,_,i+1,.cons _ r2,hi=>by simpa using pA i r2 (by simpa using hi)
theorem getD_mem {α:Type} {xs:List α} {i:Nat} {d:α} (h:i < xs.length):xs.getD i d∈xs:=by simp [h]
theorem rX:∀ {ds:Uq} {d:PyData},PyData.canLayAll0 ds=true->d∈ds->d.canLay0=true
 | _::_,d,h,m=>by
  simp only [PyData.canLayAll0,PV] at h;rcases PZ.mp m with rfl | m
  ·exact h.1
  ·exact rX h.2 m
theorem rY:∀ {ds:Uq} {d:PyData},d∈ds->d.depth<=PyData.depthAll ds
 | _::_,d,m=>by
  simp only [PyData.depthAll];rcases PZ.mp m with rfl | m
  ·exact Nat.le_max_left _ _
  ·exact P6 (rY m) (Nat.le_max_right _ _)
theorem uY (hu:A.units+41 < cLine) {vs:Us} {ds:Uq} {as:Ur} (r:ReadsAll s.heap vs ds as) (al:ds.all gF=true) (t:ao ds=true) (c:dw ds=true) (l:PyData.canLayAll0 ds=true) (hd:PyData.depthAll ds<=20) (h2:1<=vs.length) :
  DH P w A vs (λi j=>ltB (ds.getD i .none) (ds.getD j .none)) s:=by
 have hlen:=readsAll_len r
 have tup:∀ {i:Nat},i < vs.length->∃ xs bs,ds.getD i .none=.tuple xs/\.tuple xs∈ds/\Reads s.heap (vs.getD i .none) (.tuple xs) bs:=λ{i} hi=>by
  obtain ⟨bs,q⟩:=pA i r hi;have m:ds.getD i .none∈ds:=getD_mem (by omega);have a:=Qc.mp al _ m
  cases e:ds.getD i .none with
  | tuple xs=>exact ⟨xs,bs,rfl,e▸m,e▸q⟩
  | _=>rw [e] at a;simp [gF] at a
 have key:∀ κ,((∃ b,κ=tuples' b/\(b=true->∀ x xs,.tuple (x::xs)∈ds->pY x≠2))\/κ=general'\/κ=oneType')->s=s/\∀ i j C,i < vs.length->j < vs.length->C (ltB (ds.getD i .none) (ds.getD j .none)) s ->
   wpAny (model P w) A (keyLt' κ (vs.getD i Value.none) (vs.getD j Value.none)) C (λ_ _=>False) s:=λκ hκ=>⟨rfl,λi j C hi hj hC=>by
  obtain ⟨xs,b1,e1,m1,q1⟩:=tup hi;obtain ⟨ys,b2,e2,m2,q2⟩:=tup hj;have cc:=eU c m1 m2;have d1:=rY m1;have l1:=rX l m1;have l2:=rX l m2;have t1:=aM t m1;have t2:=aM t m2;simp only [PyData.depth] at d1;simp only [PyData.canLay0] at l1 l2;simp only [ag] at t1 t2;rw [e1,e2] at hC;refine zH hu q1 q2 t1 t2 l1 l2 (by omega) (by simpa [bG] using cc) κ ?_ hC;rcases hκ with ⟨b,rfl,hb⟩ | h | h
  ·refine .inl ⟨b,rfl,λhb' x hx=>?_⟩
   cases xs with
   | nil=>simp at hx
   | cons z zs=>simp at hx;subst hx;exact hb hb' z zs m1
  ·exact .inr (.inl h)
  ·exact .inr (.inr h)⟩
 exact Cu r al t c h2 (λb hb=>key _ (.inl ⟨b,rfl,hb⟩)) (key _ (.inr (.inl rfl))) (key _ (.inr (.inr rfl)))
end
end Ml
namespace Ml
open PySem PySem.Spec L2
section
variable {X:Cx} {E:XK} {k:Nat} {θ:Ur} {hm:Hm} {H:Hp}
theorem qQ {G:Gx} (w:W G θ hm H) {x:D} {v:V} {ds:Uq} (r:bQ G θ H x v) (e:listOf x hm=some ds):∃ a vs,v=.ref a/\H a=some (.lst vs)/\bc (view θ H) ds vs/\cD ds=true:=by
 unfold listOf at e;split at e
 ·cases e;obtain ⟨⟨a,vs,rfl,ha,rr⟩,so⟩:=r;exact ⟨a,vs,rfl,aA _ _ _ _ ha,rr,by simpa [cb] using so⟩
 ·obtain ⟨a,ha,rfl⟩:=r;split at e
  ·rename_i ys hy;obtain ⟨vs,hv,rs⟩:=w.obj _ _ _ ha hy;obtain ⟨h1,h2⟩:=lK rs e;exact ⟨a,vs,rfl,hv,h1,h2⟩
  ·cases e
 ·cases e
theorem uZ {P:UA} {w:World} {A:UC} {s:UD} {vs:Us} {ds:Uq} {as:Ur} (r:ReadsAll s.heap vs ds as) (al:ds.all rN=true) (h2:2<=vs.length):PySem.W.DH P w A vs (λi j=>ltB (ds.getD i .none) (ds.getD j .none)) s:=by
 have hlen:=readsAll_len r
 have tup:∀ {i:Nat},i < vs.length->∃ x tk,ds.getD i .none=.str x/\vs.getD i .none=.str x tk:=λ{i} hi=>by
  obtain ⟨bs,q⟩:=pA i r hi;have m:ds.getD i .none∈ds:=getD_mem (by omega);have a:=Qc.mp al _ m
  cases e:ds.getD i .none with
  | str x=>rw [e] at q;generalize vs.getD i .none=z at q;cases q;exact ⟨x,_,rfl,rfl⟩
  | _=>rw [e] at a;simp [rN] at a
 refine PySem.W.kas_kind h2 (T:=.type "str") (λv hv=>?_) (by decide) (by decide) ⟨rfl,λi j C hi hj hC=>?_⟩
 ·obtain ⟨i,hi,e⟩:=RX.mp hv;obtain ⟨x,tk,_,e2⟩:=tup hi;have:vs.getD i .none=v:=by simp [hi,e]
  rw [this] at e2;subst e2;exact .now
 ·obtain ⟨x,t1,e1,f1⟩:=tup hi;obtain ⟨y,t2,e2,f2⟩:=tup hj;rw [f1,f2,PyProof.Rows.keyLt'_oneType];simp only [e1,e2] at hC;exact PyProof.Rows.oneLt_str (by simpa [ltB,bG,mY] using hC)
theorem L4 {ds:Uq} (o:Ord ltB ds):PySem.W.mi (λi j=>ltB (ds.getD i .none) (ds.getD j .none)) ds.length:=
 ⟨λa b ha hb h=>o.as (getD_mem ha) (getD_mem hb) h,λa b c ha hb hc h h'=>o.ntr (getD_mem ha) (getD_mem hb) (getD_mem hc) h h'⟩
theorem bB:∀ {ds:Uq},cD ds=true<->∀ d∈ds,cb d=true
 | []=>by simp [cD]
 | d::ds=>by simp [cD,bB (ds:=ds)]
theorem u0 {ds es:Uq} (p:ds.Perm es) (h:cD ds=true):cD es=true:=bB.mpr λd m=>bB.mp h d (p.mem_iff.mpr m)
noncomputable def Kc:List V->Hp->VK->Prop:=λxs H Q=>∃ (a:Addr) (vs:List V) (M:Hp) (ds:Uq),xs=[.ref a]/\H a=some (.lst vs)/\bx M H/\bc M ds vs/\cD ds=true/\fg ds=true /\
 ∀ (p:Addr) (us:List V),H p=none->bc M (cQ ltB ds) us->us.length<=sizeLine->Q (.ref p) (upd H p (.lst us))
theorem wx (hr:cg k X.A):dz X (.builtin "sorted") Kc:=by
 intro pins s σ H xs us Q I r h;obtain ⟨a,vs,M,ds,rfl,ha,sm,rp,so,ok,q⟩:=h;simp only [fg,PV,Qb,Ry] at ok;obtain ⟨⟨⟨⟨kd,tr⟩,cm⟩,dp⟩,h64⟩:=ok
 cases r with
 | cons r rr=>
  cases rr;cases r;obtain ⟨its,rv,pl,_⟩:=I.list (jk.of (K:=X.K) ha);have hlen:vs.length=ds.length:=rp.length;have hlen2:its.length=ds.length:=by rw [<- rv.length];exact hlen
  obtain ⟨as,ra⟩:=bc.reads I (rp.same sm) rv;have nd:PyData.hasDictAll ds=false:=ff tr;have la:=nV so nd;have O:=L4 (gV cm tr);rw [<- hlen2] at O;refine PySem.W.rH pl.isList O (by omega) (λh' kp h2=>?_) λp hp hs=>?_
  ·have ra':ReadsAll h' its ds as:=Rg kp ra;rcases kd with kd | kd
   ·exact uZ (s:={s with heap:=h'}) ra' kd h2
   ·exact uY (s:={s with heap:=h'}) (by have:=hr.un;show X.A.units+1+1+41 < cLine;omega) ra' kd tr cm la dp (by omega)
  ·have ge:s.heap.objs.size<=s.heap.objs.size+1:=Rq _;have nn:H (s.heap.objs.size+1)=none:=I.hok.fresh ge;obtain ⟨e,he⟩:=PyProof.Rows.sortedAll_at s.heap its (p.toList.map λi=>its.getD i Value.none).toArray;have hin:∀ i∈p.toList,i < vs.length:=λi hi=>by have:=QO.mp (hp.perm.mem_iff.mp hi);omega
   have hlp:p.toList.length=ds.length:=by rw [hp.perm.length_eq,Uc,hlen2]
   have hz:(p.toList.map λi=>vs.getD i .non).length<=sizeLine:=by rw [Qa,hlp];exact P6 (Th h64) (by decide)
   refine ⟨.ref _,_,I.laid (t':=s.toks) (o:=.lst (p.toList.map λi=>vs.getD i .non)) (λb o k=>PyProof.Rows.sortedAll_old k) ge ⟨hz,_,e,uR rv p.toList hin,by simpa [PyProof.Rows.seqObj] using he⟩,rfl,q _ _ nn ?_ hz⟩
   have e1:(p.toList.map λi=>ds.getD i .none)=cQ ltB ds:=by
    refine xP cm tr ?_ ?_
    ·have:=hp.perm.map (λi=>ds.getD i .none);rw [hlen2,jI] at this;exact this
    ·unfold Up;rw [Sz,RS];intro i j hi hj hij;have e1:PySem.W.pat p i=p.toList[i]:=by simp only [QR] at hi;rw [PySem.W.i8,T3 p i hi];simp
     have e2:PySem.W.pat p j=p.toList[j]:=by simp only [QR] at hj;rw [PySem.W.i8,T3 p j hj];simp
     have:=hs i j hij (by rw [hlen2];omega);rw [e1,e2] at this;exact this
   rw [<- e1];exact uS rp .none p.toList hin
theorem D9 (hr:cg k X.A):rP X E (.builtin "sorted") lJ:=rP.of (wx hr) λθ hm H ds xs Q w r p=>by
 unfold lJ at p;split at p
 ·rename_i x
  cases r with
  | cons r rr=>
   cases rr;split at p
   ·rename_i ys hy;split at p
    ·rename_i ok;obtain ⟨a,vs,rfl,ha,rp,so⟩:=qQ w r hy;refine ⟨a,vs,view θ H,ys,rfl,ha,aA _ _,rp,so,ok,λq us hq ru hz=>?_⟩;obtain ⟨e1,w1,g⟩:=w.put (o:=.lst us) hq;refine p _ _ e1 w1 _ ⟨⟨q,us,rfl,g,ru.same e1.same⟩,?_⟩;simp only [cb];exact u0 (bR _ _).symm so
    ·exact p.elim
   ·exact p.elim
 ·exact p.elim
end
section
variable {X:Cx} {E:XK} {k:Nat} {θ:Ur} {hm:Hm} {H:Hp} {m:ME} {t:MT} {e e1 e2:Expr} {pos:Pos}
theorem dA {G:Gx} {x:Str} {v:V} (r:bQ G θ H (.str x) v):v=.str x/\PyData.strOk x=true:=⟨r.1,by simpa [cb] using r.2⟩
theorem wy {x y:Str} (h:PyData.strOk x=true) (h':PyData.strOk y=true):PyData.strOk (x++y)=true:=by have e:(x++y).cps=x.cps++y.cps:=rfl;unfold PyData.strOk at h h' ⊢;rw [e,Array.all_append,h,h'];rfl
theorem xV {G:Gx} {H' M':Hp} (w:W G θ hm H) (x:Ext H (view θ H) H' M'):Ev θ H θ H'/\W G θ hm H'/\bx M' (view θ H'):=by
 obtain ⟨e1,w1⟩:=w.grow x.sh;refine ⟨e1,w1,λc o q=>?_⟩
 have nb:c∉θ:=λz=>by
  obtain ⟨i,hi,ei⟩:=RX.mp z;have hl:i < hm.length:=by rw [<- w.len];exact hi
  have hn:H c≠none:=zD.some _ (w.obj i c hm[i] (by rw [P9 hi,ei]) (P9 hl));rw [x.old c hn] at q;exact (cX q).1 z
 rw [dM nb];exact x.gs c o q
theorem kb:n8 X E (binaryOp .Add) dJ:=n8.of (ik.or Jf (ik.or zk (ik.or GC Ju))) λθ hm H d1 d2 x y Q w r1 r2 p=>by
 unfold dJ at p;split at p
 ·exact .inl ⟨_,_,bJ r1,bJ r2,p.km w (cB _)⟩
 ·split at p
  ·rename_i hz;obtain ⟨e1,s1⟩:=dA r1;obtain ⟨e2,s2⟩:=dA r2;exact .inr (.inl ⟨_,_,e1,e2,cR hz,p.km w ⟨rfl,by simp only [cb];exact wy s1 s2⟩⟩)
  ·exact p.elim
 ·split at p
  ·rename_i xs ys hz;refine .inr (.inr (.inl ⟨view θ H,xs,ys,aA _ _,r1.1,r2.1,cR hz,λr H' M' ex rr=>?_⟩));obtain ⟨e1,w1,sm⟩:=xV w ex;have s1:cD xs=true:=by simpa [cb] using r1.2
   have s2:cD ys=true:=by simpa [cb] using r2.2
   refine p _ _ e1 w1 _ ⟨rr.same sm,?_⟩;simp only [cb]
   exact bB.mpr λd m=>by
    rcases Qg.mp m with m | m
    ·exact bB.mp s1 d m
    ·exact bB.mp s2 d m
  ·exact p.elim
 ·split at p
  ·rename_i xs ys hz;have s1:cD xs=true:=by simpa [cb] using r1.2
   have s2:cD ys=true:=by simpa [cb] using r2.2
   obtain ⟨a,us,rfl,ha,q1,_⟩:=gP r1;obtain ⟨b,ws,rfl,hb,q2,_⟩:=gP r2;refine .inr (.inr (.inr ⟨a,b,us,ws,rfl,rfl,aA _ _ _ _ ha,aA _ _ _ _ hb,by rw [q1.length,q2.length];exact cR hz,λq hq=>?_⟩));obtain ⟨e1,w1,g⟩:=w.put (o:=.lst (us++ws)) hq;refine p _ _ e1 w1 _ ⟨⟨q,_,rfl,g,(q1.append q2).same e1.same⟩,?_⟩;simp only [cb]
   exact bB.mpr λd m=>by
    rcases Qg.mp m with m | m
    ·exact bB.mp s1 d m
    ·exact bB.mp s2 d m
  ·exact p.elim
 ·exact p.elim
theorem u5 {M:Hp} {ds:Uq} {vs:List V} (r:bc M ds vs):∀ n:Nat,bc M (List.replicate n ds).flatten (List.replicate n vs).flatten
 | 0=>rfl
 | n+1=>by rw [Rp,Rp,R1,R1];exact r.append (u5 r n)
theorem Ba:n8 X E (binaryOp .Mult) kG:=n8.of (ik.or Jh Jv) λθ hm H d1 d2 x y Q w r1 r2 p=>by
 unfold kG at p;split at p
 ·split at p
  ·rename_i hc;refine .inl ⟨_,_,bJ r1,bJ r2,?_,p.km w (cB _)⟩;simp only [uT,Ry,PV,Qb] at hc;exact hc
  ·exact p.elim
 ·split at p
  ·rename_i xs j hc;simp only [PV,Qb] at hc;have s1:cD xs=true:=by simpa [cb] using r1.2
   obtain ⟨a,us,rfl,ha,q1,_⟩:=gP r1;refine .inr ⟨a,j,us,rfl,bJ r2,aA _ _ _ _ ha,hc.1.2,hc.2,by rw [q1.length];exact cR hc.1.1,λq hq=>?_⟩;obtain ⟨e1,w1,g⟩:=w.put (o:=.lst (List.replicate j.toNat us).flatten) hq;refine p _ _ e1 w1 _ ⟨⟨q,_,rfl,g,(u5 q1 _).same e1.same⟩,?_⟩;simp only [cb];exact bB.mpr λd m=>by obtain ⟨l,hl,hd⟩:=List.mem_flatten.mp m;rw [(List.mem_replicate.mp hl).2] at hd;exact bB.mp s1 d hd
  ·exact p.elim
 ·exact p.elim
theorem qR {α β:Type} (f:α->β) (xs:List α) (i:Int):mf (xs.map f) i=(mf xs i).map f:=by
 unfold mf;rw [Qa]
 cases tZ xs.length i with
 | none=>rfl
 | some j=>simp
theorem wz {G:Gx} {ds:List D} {vs:List V} {i:Int} {d:D} (r:aO G θ H ds vs) (e:mf ds i=some d):∃ v,L2.mf vs i=some v/\bQ G θ H d v:=by
 have hl:ds.length=vs.length:=Qr r;unfold mf at e;unfold L2.mf;rw [<- hl]
 change (tZ ds.length i).bind _=_ at e
 show ∃ v,(tZ ds.length i).bind (λj=>vs[j]?)=some v/\_
 cases hj:tZ ds.length i with
 | none=>rw [hj] at e;cases e
 | some j=>rw [hj] at e;exact aO.some r e
theorem Ea:Ld X (JQ X.G E wc):=by
 intro value slice pins s σ H x y v u Q I rx ry ⟨θ,h,d1,d2,w,r1,r2,p⟩ hs;unfold wc at p;split at p
 ·rename_i i;have ey:=bJ r2;split at p
  ·rename_i ds;split at p
   ·rename_i d he;obtain ⟨a,us,rfl,ha,q1,q2⟩:=gO r1;obtain ⟨z,e1,rz⟩:=wz (i:=i) (d:=.dat d) q2 (by rw [qR,he];rfl);exact Jq value slice pins s σ H _ y v u Q I rx ry ⟨a,us,i,z,rfl,ey,gE.of (aA _ _ _ _ ha),e1,p.km w rz⟩ hs
   ·exact p.elim
  ·rename_i ds;split at p
   ·rename_i d he;obtain ⟨a,us,rfl,ha,q1,q2⟩:=gP r1;obtain ⟨z,e1,rz⟩:=wz (i:=i) (d:=.dat d) q2 (by rw [qR,he];rfl);exact vO value slice pins s σ H _ y v u Q I rx ry ⟨a,us,i,z,rfl,ey,jk.of (aA _ _ _ _ ha),e1,p.km w rz⟩ hs
   ·exact p.elim
  ·rename_i j;split at p
   ·rename_i xs hx;split at p
    ·rename_i d he;obtain ⟨a,ha,rfl⟩:=r1;obtain ⟨vs,hv,rs⟩:=w.obj _ _ _ ha hx;obtain ⟨z,e1,rz⟩:=wz rs he;exact vO value slice pins s σ H _ y v u Q I rx ry ⟨a,vs,i,z,rfl,ey,jk.of hv,e1,p.km w rz⟩ hs
    ·exact p.elim
   ·exact p.elim
  ·rename_i ns;split at p
   ·rename_i n he;obtain ⟨a,rfl,hq⟩:=r1;have e1:L2.mf (ns.map V.int) i=some (.int n):=by have:=qR V.int ns i;rw [he] at this;exact this
    exact vO value slice pins s σ H _ y v u Q I rx ry ⟨a,_,i,_,rfl,ey,(aA _ _).seq hq,e1,p.km w (cB _)⟩ hs
   ·exact p.elim
  ·exact p.elim
 ·exact p.elim
def lO (G:Gx) (E:XK) (m:FQ):TO:=λσ H Q=>∃ θ h ρ,W G θ h H/\Fr G θ H ρ σ/\aC G (m9 G E) θ H (m ρ h) (λo _ _ H'=>Q o H')
@[irreducible] def DO (X:Cx) (E:XK) (m:FQ) (e:Option Expr):Prop:=PO X e (lO X.G E m)
theorem Bb (X:Cx) (E:XK) (m:FQ) (e:Option Expr):DO X E m e=(PO X e (lO X.G E m)):=by unfold DO;rfl
theorem PO.imp {X:Cx} {e:Option Expr} {t t':TO} (h:PO X e t) (k:∀ σ H Q,t' σ H Q->t σ H Q):PO X e t':=λpins s σ H Q I q=>h pins s σ H Q I (k _ _ _ q)
theorem GP:DO X E AV none:=by simp only [Bb] at *;exact PO.imp Gh λσ H Q ⟨θ,h,ρ,w,fr,p⟩=>p θ H Ev.refl w
theorem wA (h:DE X E m e):DO X E (mE m) (some e):=by
 simp only [bj,Bb] at *
 exact PO.imp (Gi h) λσ H Q ⟨θ,h,ρ,w,fr,p⟩=>⟨θ,h,ρ,w,fr,(aC.bind p).mono λd θ1 h1 H1 _ _ ⟨ev,w1,p1⟩ v r=>by
  split at p1
  ·exact ⟨_,bJ r,p1 θ1 H1 Ev.refl w1⟩
  ·exact p1.elim⟩
theorem Bc {M:Hp} {ds:Uq} {vs:List V} (r:bc M ds vs) (lo hi:Option Int):bc M (cut ds lo hi) (rA vs lo hi):=by unfold cut rA;have e:vs.length=ds.length:=r.length;rw [e];exact (r.drop _).take _
theorem Bd {α:Type} {xs:List α} {lo hi:Option Int} {x:α} (h:x∈cut xs lo hi):x∈xs:=List.mem_of_mem_drop (SG h)
theorem rZ {ds:Uq} (h:cD ds=true) (lo hi:Option Int):cD (cut ds lo hi)=true:=bB.mpr λd m=>bB.mp h d (Bd m)
def N4 (G:Gx) (E:XK):V->Option Int->Option Int->Hp->VK->Prop:=λx lo hi H Q=>∃ θ h d,W G θ h H/\bQ G θ H d x/\aC G (m9 G E) θ H (LY d lo hi h) (KV G Q)
theorem GQ:Lc X (N4 X.G E):=by
 intro pins s σ H x v vl vu lo hi sl Q I rx hs pl pu ⟨θ,h,d,w,r,p⟩;unfold LY at p;split at p
 ·rename_i ds;refine GD pins s σ H x v vl vu lo hi sl Q I rx hs pl pu ⟨view θ H,ds,aA _ _,r.1,λr' H' M' ex rr=>?_⟩;obtain ⟨e1,w1,sm⟩:=xV w ex;exact p _ _ e1 w1 _ ⟨rr.same sm,by simp only [cb];exact rZ (by simpa [cb] using r.2) lo hi⟩
 ·rename_i ds;have so:cD ds=true:=by simpa [cb] using r.2
  obtain ⟨a,us,rfl,ha,q1,q2⟩:=gP r;refine AJ pins s σ H _ v vl vu lo hi sl Q I rx hs pl pu ⟨a,us,rfl,jk.of (aA _ _ _ _ ha),λq hq=>?_⟩;obtain ⟨e1,w1,g⟩:=w.put (o:=.lst (rA us lo hi)) hq;exact p _ _ e1 w1 _ ⟨⟨q,_,rfl,g,(Bc q1 lo hi).same e1.same⟩,by simp only [cb];exact rZ so lo hi⟩
 ·exact p.elim
theorem Eb {lo hi:Option Expr} {ml mh:FQ} {p2:Pos} (he:DE X E m e) (hl:DO X E ml lo) (hu:DO X E mh hi):DE X E (MJ m ml mh) (.Subscript e (.Slice lo hi none p2) pos):=by
 simp only [bj,Bb] at *
 exact PE.imp (xC GQ he hl hu) λσ H Q ⟨θ,h,ρ,w,fr,p⟩=>⟨θ,h,ρ,w,fr,(aC.bind p).mono λd θ1 h1 H1 _ _ ⟨ev,w1,p1⟩ v r=>
   ⟨θ1,h1,ρ,w1,fr.ev ev,(aC.bind p1).mono λl θ2 h2 H2 _ _ ⟨ev2,w2,p2⟩=>⟨θ2,h2,ρ,w2,(fr.ev ev).ev ev2,(aC.bind p2).mono λu θ3 h3 H3 _ _ ⟨ev3,w3,p3⟩=>⟨θ3,h3,d,w3,(r.ev ev2).ev ev3,p3⟩⟩⟩⟩
theorem mH:rP X E (.builtin "len") fc:=rP.of De λθ hm H ds xs Q w r p=>by
 unfold fc at p;split at p
 ·split at p
  ·rename_i hz
   cases r with
   | cons r rr=>cases rr;exact ⟨_,_,rfl,by rw [(dA r).1];exact ⟨cR hz,rfl⟩,p.km w (cB _)⟩
  ·exact p.elim
 ·cases r with
  | cons r rr=>cases rr;obtain ⟨a,us,rfl,ha,q1,_⟩:=gO r;exact ⟨_,_,rfl,.inr ⟨us,gE.of (aA _ _ _ _ ha),q1.length.symm⟩,p.km w (cB _)⟩
 ·cases r with
  | cons r rr=>cases rr;obtain ⟨a,us,rfl,ha,q1,_⟩:=gP r;exact ⟨_,_,rfl,.inl ⟨us,jk.of (aA _ _ _ _ ha),q1.length.symm⟩,p.km w (cB _)⟩
 ·rename_i i;split at p
  ·rename_i ys hy
   cases r with
   | cons r rr=>cases rr;obtain ⟨a,ha,rfl⟩:=r;obtain ⟨vs,hv,rs⟩:=w.obj _ _ _ ha hy;exact ⟨_,_,rfl,.inl ⟨vs,jk.of hv,Qr rs⟩,p.km w (cB _)⟩
  ·exact p.elim
 ·rename_i ns
  cases r with
  | cons r rr=>cases rr;obtain ⟨a,rfl,hq⟩:=r;exact ⟨_,_,rfl,.inl ⟨_,(aA _ _).seq hq,by simp⟩,p.km w (cB _)⟩
 ·exact p.elim
theorem si {M:Hp}:∀ {ds:Uq} {vs:List V} {bs:List Bool},bc M ds vs->bools ds=some bs->vs=bs.map V.bl
 | [],_,bs,h,e=>by cases h;cases e;rfl
 | d::ds,_,bs,⟨v,vs,rfl,r,rs⟩,e=>by
  cases d with
  | bool b=>simp only [bools,QF] at e;obtain ⟨bs',e1,e2⟩:=e;subst e2;rw [si rs e1,show v=V.bl b from r];rfl
  | _=>simp [bools] at e
theorem Be (hc:X.calm=true):rP X E (.builtin "all") we:=rP.of (Dz hc) λθ hm H ds xs Q w r p=>by
 unfold we at p;split at p
 ·split at p
  ·rename_i bs hb
   cases r with
   | cons r rr=>cases rr;obtain ⟨a,us,rfl,ha,q1,_⟩:=gP r;rw [si q1 hb] at ha;exact ⟨a,bs,rfl,jk.of (aA _ _ _ _ ha),p.km w (cA _)⟩
  ·exact p.elim
 ·exact p.elim
end
section
variable {X:Cx} {E:XK} {k:Nat} {θ:Ur} {hm:Hm} {H:Hp} {m:ME} {t:MT} {e e1 e2:Expr} {pos:Pos} {ma:MA}
theorem Ke {T:Str} {n:String} {f:PyData->Bool} (kit:∀ d,PySem.W.kitOne X.K (.type (LR d)) (.type n)=some (f d)) (bt:bootBuiltins T=some (.type n)) (m1:X.mg "isinstance" = none) (m2:X.mg T=none) (h:DE X E m e) {p p2:Pos} (g1:Gl X "isinstance" := by rfl) (g2:Gl X T:=by rfl) (hT:T ≠ "__name__" := by decide) (hT2:(T == ("__debug__" : Str))=false:=by decide)
  (hs:starEach [e,.Name T p2] X.env=(false,eval e X.env)::starEach [.Name T p2] X.env:=by rfl) (hs2:starEach [.Name T p2] X.env=[(false,eval (.Name T p2) X.env)]:=by rfl) (hpl:(backTo pos (starEach [.Name T p2] X.env)).any (·.1)=false:=by rfl):DE X E (Ia (xK f) m) (.Call (.Name "isinstance" p) [e,.Name T p2] [] pos):=by
 simp only [bj] at *
 exact PE.imp (xB DB g1 m1 ue (lC h (lC (F0 (v:=.ty n) g2 m2 bt rfl hT hT2) rj hs2) hs) (by decide) (by decide) hs hpl) λσ H Q ⟨θ,h,ρ,w,fr,p⟩=>⟨θ,h,ρ,w,fr,(aC.bind p).mono λd θ1 h1 H1 _ _ ⟨ev,w1,p1⟩ v r=>by
   cases d with
   | dat d=>exact ⟨v,n,_,f d,rfl,(r.1.same (aA _ _)).ty,kit d,p1.km w1 (cA _)⟩
   | _=>exact p1.elim⟩
theorem sj {M:Hp} (x:Str):∀ (l:List Nat),bc M (l.map λi=>.str ⟨#[x.cps.getD i 0]⟩) (l.map (sgn x))
 | []=>rfl
 | i::l=>.cons rfl (sj x l)
theorem Ec {x:Str} (h:PyData.strOk x=true):cD (hE x)=true:=bB.mpr λd m=>by obtain ⟨i,_,rfl⟩:=Qp.mp m;simp only [cb];exact A7 h
theorem iD (hc:X.calm=true):rP X E (.type "tuple") fe:=rP.of (dz.or ua (xH hc)) λθ hm H ds xs Q w r p=>by
 unfold fe at p;split at p
 ·cases r with
  | cons r rr=>cases rr;obtain ⟨a,us,e,ha,q1,_⟩:=gO r;subst e;exact .inl ⟨a,us,rfl,.inr ⟨gE.of (aA _ _ _ _ ha),p.km w r⟩⟩
 ·split at p
  ·rename_i s hz
   cases r with
   | cons r rr=>cases rr;obtain ⟨e1,s1⟩:=dA r;subst e1;refine .inr ⟨s,rfl,cR hz,λq hq=>?_⟩;obtain ⟨e1,w1,g⟩:=w.put (o:=.tup ((List.range s.cps.size).map (sgn s))) hq;exact p _ _ e1 w1 _ ⟨⟨q,_,rfl,g,sj s _⟩,by simp only [cb];exact Ec s1⟩
  ·exact p.elim
 ·split at p
  ·rename_i ds hy
   cases r with
   | cons r rr=>cases rr;obtain ⟨a,vs,rfl,ha,rp,so⟩:=qQ w r hy;refine .inl ⟨a,vs,rfl,.inl ⟨jk.of ha,λq hq=>?_⟩⟩;obtain ⟨e1,w1,g⟩:=w.put (o:=.tup vs) hq;exact p _ _ e1 w1 _ ⟨⟨q,_,rfl,g,rp.same e1.same⟩,by simpa [cb] using so⟩
  ·exact p.elim
 ·exact p.elim
theorem Bf:rP X E (.type "list") rM:=rP.of vQ λθ hm H ds xs Q w r p=>by
 unfold rM at p;split at p
 ·cases r with
  | cons r rr=>cases rr;have so:=r.2;obtain ⟨a,us,e,ha,q1,_⟩:=gO r;subst e;refine ⟨a,us,rfl,.inr (gE.of (aA _ _ _ _ ha)),λq hq=>?_⟩;obtain ⟨e1,w1,g⟩:=w.put (o:=.lst us) hq;exact p _ _ e1 w1 _ ⟨⟨q,_,rfl,g,q1.same e1.same⟩,by simpa [cb] using so⟩
 ·split at p
  ·rename_i ds hy
   cases r with
   | cons r rr=>cases rr;obtain ⟨a,vs,rfl,ha,rp,so⟩:=qQ w r hy;refine ⟨a,vs,rfl,.inl (jk.of ha),λq hq=>?_⟩;obtain ⟨e1,w1,g⟩:=w.put (o:=.lst vs) hq;exact p _ _ e1 w1 _ ⟨⟨q,_,rfl,g,rp.same e1.same⟩,by simpa [cb] using so⟩
  ·exact p.elim
 ·exact p.elim
theorem Ed:rP X E (.builtin "divmod") nU:=rP.of xy λθ hm H ds xs Q w r p=>by
 unfold nU at p;split at p
 ·split at p
  ·rename_i i j hj
   cases r with
   | cons r1 rr=>
    cases rr with
    | cons r2 rr=>cases rr;cases bJ r1;cases bJ r2;refine ⟨i,j,rfl,hj,λq hq=>?_⟩;obtain ⟨e1,w1,g⟩:=w.put (o:=.tup [.int (i / j),.int (i % j)]) hq;exact p _ _ e1 w1 _ ⟨⟨q,_,rfl,g,.cons rfl (.one rfl)⟩,by simp [cb,cD]⟩
  ·exact p.elim
 ·exact p.elim
theorem L5 (hc:X.calm=true):rP X E (.builtin "max") Cn:=rP.of (B1 hc) λθ hm H ds xs Q w r p=>by
 unfold Cn at p;split at p
 ·cases r with
  | cons r1 rr=>
   cases rr with
   | cons r2 rr=>cases rr;cases bJ r1;cases bJ r2;exact ⟨_,_,rfl,p.km w (cB _)⟩
 ·exact p.elim
theorem L6:rP X E (.type "int") DR:=rP.of B2 λθ hm H ds xs Q w r p=>by
 unfold DR at p;split at p
 ·cases r with
  | cons r1 rr=>cases rr;cases bJ r1;exact .inl ⟨_,rfl,p.km w (cB _)⟩
 ·cases r with
  | cons r1 rr=>cases rr;obtain ⟨e1,_⟩:=r1;cases e1;exact .inr ⟨_,rfl,p.km w (cB _)⟩
 ·exact p.elim
theorem wB (hr:cg k X.A):rP X E (.builtin "repr") gI:=by
 intro pins s σ H xs us Q I r ⟨θ,h,ds,w,rs,p⟩;unfold gI at p;split at p
 ·rename_i x
  cases rs with
  | cons r1 rr=>
   cases rr
   cases r with
   | cons rv rr=>
    cases rr;rename_i v u;split at p
    ·rename_i d hd;obtain ⟨⟨as,z⟩,so⟩:=fk I w 3 r1 rv hd;split at p
     ·rename_i ok;have fin:∀ (h':Heap) (tk:Tok) (t':Nat),(∀ b o,s.heap.get? b=some o->h'.get? b=some o)->EP X pins σ Q (.str d.shown tk) {s with heap:=h',toks:=t'}:=λh' tk t' hk=>⟨.str d.shown,H,I.kept hk,⟨_,rfl⟩,p.km w rfl⟩;have fin0:∀ (tk:Tok) (t':Nat),EP X pins σ Q (.str d.shown tk) {s with toks:=t'}:=λtk t'=>⟨.str d.shown,H,I.tok _,⟨_,rfl⟩,p.km w rfl⟩;simp only [Ry] at ok;rcases ok with ok | ok
      rotate_left
      ·unfold DQ at ok;split at ok
       ·rename_i kvs;simp only [PV,Qb] at ok
        cases x with
        | dat d'=>simp only [pV,lH,R3] at hd;subst hd;exact zz hr pins s σ H [v] [u] Q I (.cons rv .nil) ⟨kvs,v,rfl,r1.1.same (aA _ _),ok.1.1,ok.1.2,cR ok.2,p.km w rfl⟩
        | ref i=>
         simp only [pV,xq] at hd;split at hd
         ·simp only [QF] at hd;obtain ⟨_,_,z⟩:=hd;cases z
         ·cases hd
        | ktup xs=>simp [pV,xq] at hd
        | _=>simp [pV,xq] at hd
       ·cases ok
      have hsz:d.shown.length<=sizeLine/\d.showable=true/\d.depth<=40:=by simp only [xM,PV,Qb] at ok;exact ⟨cR ok.2,ok.1.1.1,ok.1.2⟩
      have hn:∀ {as:Ur},(d.hasDict=true->sysModules∉as):=λ{as} hd=>by simp only [xM,noDict,PV,Sy] at ok;rw [ok.1.1.2] at hd;cases hd
      cases z with
      | none=>exact PySem.P.repr_of_none (by simpa [PyData.shown] using fin0 _ _)
      | bool b=>exact PySem.P.repr_of_bool (by simpa [PyData.shown] using fin0 _ _)
      | int i t=>exact PySem.P.repr_of_int (by simpa [PyData.showable] using hsz.2.1) (by simpa [PyData.shown] using fin0 _ _)
      | str x t=>exact PySem.P.repr_of_str (by simpa [PyData.shown] using fin0 _ _) (by simpa [PyData.shown] using hsz.1)
      | list h1 h2 h3 h4=>exact T5 (.list h1 h2 h3 h4) hsz.2.1 hn hr.gd (by have:=hr.units;omega) (λ_ _ e=>e) (λh' t tk hk=>fin h' t tk hk) hsz.1
      | tuple h1 h2 h3 h4=>exact T5 (.tuple h1 h2 h3 h4) hsz.2.1 hn hr.gd (by have:=hr.units;omega) (λ_ _ e=>e) (λh' t tk hk=>fin h' t tk hk) hsz.1
      | dict h1 h2 h3 h4 h5=>exact T5 (.dict h1 h2 h3 h4 h5) hsz.2.1 hn hr.gd (by have:=hr.units;omega) (λ_ _ e=>e) (λh' t tk hk=>fin h' t tk hk) hsz.1
     ·exact p.elim
    ·exact p.elim
 ·exact p.elim
end
section
variable {X:Cx} {E:XK} {k:Nat} {θ:Ur} {hm:Hm} {H:Hp} {m ma' mb:ME} {t:MT} {e e1 e2 o i:Expr} {es:Uv} {pos:Pos} {ma:MA} {x:Str}
theorem fo (n:Nat) {d:PyData} (h:Lit n e d) (s:cb d=true):DE X E (aj d) e:=by simp only [bj] at *;exact PE.imp (JL n h) λσ H Q ⟨θ,hm,ρ,w,fr,p⟩ r H' N s1 nw rp=>by obtain ⟨e1,w1⟩:=w.grow s1;refine p _ _ e1 w1 _ ⟨rp.same λc o q=>?_,s⟩;have nb:c∉θ:=w.DZ (nw c o q).1;rw [dM nb];exact (nw c o q).2
theorem Bg {n:Int} {p:Pos} (hm:∃ t,X.mg x=some (.int n t)) (hg:Gl X x:=by rfl) (hd:(x == ("__debug__" : Str))=false:=by decide):DE X E (aj (.int n)) (.Name x p):=by obtain ⟨t,hm⟩:=hm;exact GG (vL (v:=.int n) hg hm ⟨t,rfl⟩ hd) (λ_=>rfl) (by simp [cb])
def OY (xs:Uq):ME:=λ_ h=>.ok (.ktup xs) h
theorem GR {xs:Uq} {p:Pos} (hm:∃ a,X.mg x=some (.ref a)/\DX X.K a xs) (hg:Gl X x:=by rfl) (hd:(x == ("__debug__" : Str))=false:=by decide):DE X E (OY xs) (.Name x p):=by simp only [bj] at *;obtain ⟨a,hm,kt⟩:=hm;exact PE.imp (vL (v:=.ref a) hg hm rfl hd) λσ H Q ⟨θ,hm,ρ,w,fr,p⟩=>p.km w ⟨a,rfl,kt⟩
theorem GS {G:Gx} {xs:Uq} {a:Addr} (kt:DX G.K a xs):og G θ H (xs.map D.dat) (My G.K a):=λθ' h' H' ev w=>by
 obtain ⟨⟨o,its,n,hl,hc,hd,hz,rv⟩,fl,so⟩:=kt;have q:gE G.K H' a (xs.map Ie):=.inr ⟨o,its,n,hl,hc,hd,hz,rv⟩;refine ⟨λi d e=>?_,⟨_,q,by simp⟩⟩;rw [QY,QF] at e;obtain ⟨y,ey,rfl⟩:=e;refine ⟨⟨_,Ie y,q,by simp [ey]⟩,λx H2 ⟨e2,z⟩=>?_⟩;subst e2;have:=z _ q;rw [QY,ey] at this;cases this;have hy:=fl y (Qq ey);refine ⟨Ev.refl,w,?_,oh so ey⟩
 cases y with
 | none=>rfl
 | bool b=>rfl
 | int i=>rfl
 | str x=>rfl
 | _=>simp at hy
def L7 (e:ME):MA:=λρ h=>(e ρ h).bind λx h1=>match x with
 | .ktup xs=>.ok (xs.map D.dat) h1
 | _=>.bad
theorem GU {tg:Expr} (h:DE X E m e):DI X E (L7 m) tg e:=by
 simp only [bj,ka] at *
 exact PI.imp (C6 h) λσ H R ⟨θ,h,ρ,w,fr,p⟩=>⟨θ,h,ρ,w,fr,(aC.bind p).mono λd θ1 h1 H1 _ _ ⟨ev,w1,p1⟩ v r=>by
   cases d with
   | ktup xs=>obtain ⟨a,e,kt⟩:=r;exact ⟨a,e,⟨_,.inr kt.1⟩,p1 θ1 H1 Ev.refl w1 _ (GS kt)⟩
   | _=>exact p1.elim⟩
def Kf (x:D) (h:Hm):Bool:=match x with
 | .ref j=>match h[j]? with
  | some (.lst _)=>true
  | _=>false
 | _=>false
def oq (f:D->D->Hm->R D) (a b:ME):ME:=λρ h=>(a ρ h).bind λx h1=>if Kf x h1 then (b ρ h1).bind λy h2=>f x y h2 else .bad
theorem GV {x:D} {h:Hm} (e:Kf x h=true):∃ j xs,x=.ref j/\h[j]?=some (.lst xs):=by
 unfold Kf at e;split at e
 ·rename_i j;split at e
  ·rename_i xs hx;exact ⟨j,xs,rfl,hx⟩
  ·cases e
 ·cases e
theorem ou {G:Gx} {j:Nat} {xs:List D} {v:V} (w:W G θ hm H) (r:bQ G θ H (.ref j) v) (e:hm[j]?=some (.lst xs)):∃ a vs,v=.ref a/\θ[j]?=some a/\H a=some (.lst vs)/\aO G θ H xs vs:=by obtain ⟨a,ha,rfl⟩:=r;obtain ⟨vs,hv,rs⟩:=w.obj _ _ _ ha e;exact ⟨a,vs,rfl,ha,hv,rs⟩
theorem aO.erase {G:Gx}:∀ {xs:List D} {vs:List V} (n:Nat),aO G θ H xs vs->aO G θ H (xs.eraseIdx n) (vs.eraseIdx n)
 | _,_,_,.nil=>.nil
 | _,_,0,.cons _ t=>t
 | _,_,n+1,.cons r t=>.cons r (aO.erase n t)
theorem aO.L8 {G:Gx} {d:D} {v:V} (q:bQ G θ H d v):∀ {xs:List D} {vs:List V} (n:Nat),aO G θ H xs vs->aO G θ H (xs.set n d) (vs.set n v)
 | _,_,_,.nil=>.nil
 | _,_,0,.cons _ t=>.cons q t
 | _,_,n+1,.cons r t=>.cons r (aO.L8 q n t)
theorem W.zI {G:Gx} {j:Nat} {a:Addr} {xs:List D} {vs:List V} (w:W G θ hm H) (ha:θ[j]?=some a) (hl:j < hm.length) (r:aO G θ H xs vs):Ev θ H θ (upd H a (.lst vs))/\W G θ (hm.set j (.lst xs)) (upd H a (.lst vs)):=by
 have hmm:a∈θ:=Qq ha
 have e:Ev θ H θ (upd H a (.lst vs)):=⟨⟨[],by simp⟩,λb u q=>by
  obtain ⟨h1,h2⟩:=cX q;have ne:b≠a:=λz=>by subst z;exact h1 hmm
  rw [dM h1,ay ne]
  exact h2⟩
 exact w.write ha hl ⟨vs,aX,r.ev e⟩
theorem gW {α:Type} {xs:List α} {i:Nat} {x:α} (h:xs[i]?=some x):i < xs.length:=(Qi.mp h).1
theorem Ee {G:Gx} {K:Ut} {f:D->D->Hm->R D} {r:V->List V->Hp->VK->Prop} {σ:L2.St} {H:Hp} {Q:VK} (h:lE G E (oq f ma' mb) σ H Q) (k:∀ θ h H d1 d2 x y,W G θ h H->bQ G θ H d1 x->bQ G θ H d2 y->aC G (m9 G E) θ H (f d1 d2 h) (KV G Q)->r x [y] H Q) :
  OQ K "list" r (lE G E ma') (HS (lE G E mb) Jn) σ H Q:=by
 obtain ⟨θ,h,ρ,w,fr,p⟩:=h;refine ⟨θ,h,ρ,w,fr,(aC.bind p).mono λd θ1 h1 H1 _ _ ⟨ev,w1,p1⟩ v r1=>?_⟩;split at p1
 ·rename_i hl;obtain ⟨j,xs,rfl,hx⟩:=GV hl;obtain ⟨a,vs,rfl,ha,hv,rs⟩:=ou w1 r1 hx;exact ⟨.inl ⟨rfl,_,jk.of hv⟩,θ1,h1,ρ,w1,fr.ev ev,(aC.bind p1).mono λd2 θ2 h2 H2 _ _ ⟨ev2,w2,p2⟩ y r2=>k θ2 h2 H2 _ d2 _ y w2 (r1.ev ev2) r2 p2⟩
 ·exact p1.elim
theorem pB {apos cpos:Pos} (ho:DE X E ma' o) (ha:DE X E mb e) (hbase:attributeBase o "append" X.env (eval o X.env)=eval o X.env:=by rfl)
  (hfew:((backTo cpos (starEach [e] X.env)).all (λx=>!x.1) && (backToKw cpos (keywordEach [] X.env)).all (λx=>x.1.isSome) && decide ([e].length+([]:List Keyword).length+(if ([]:List Keyword).isEmpty then 0 else 1) < 30))=true:=by rfl)
  (hline:(apos.endLine == cpos.line)=true:=by rfl) (hs:starEach [e] X.env=(false,eval e X.env)::starEach [] X.env:=by rfl) (hplain:(backTo cpos (starEach [] X.env)).any (·.1)=false:=by rfl):DE X E (oq gf ma' mb) (.Call (.Attribute o "append" apos) [e] [] cpos):=by
 simp only [bj] at *
 exact PE.imp (HV PySem.F.plainAttrs_list PySem.F.slot_list_append PySem.F.type_list_append B7 ho (lC ha rj hs) hbase hfew hline hs hplain) λσ H Q q=>Ee q λθ h H d1 d2 x y w r1 r2 p=>by
   unfold gf at p;split at p
   ·rename_i j;split at p
    ·rename_i xs hx;split at p
     ·rename_i hz;obtain ⟨a,vs,rfl,ha,hv,rs⟩:=ou w r1 hx;have hl:xs.length=vs.length:=Qr rs;obtain ⟨e1,w1⟩:=w.zI ha (gW hx) (eK rs (.cons r2 .nil));exact ⟨a,vs,y,rfl,rfl,hv,by rw [<- hl,R7];exact QS hz,p _ _ e1 w1 _ Cr⟩
     ·exact p.elim
    ·exact p.elim
   ·exact p.elim
theorem Ef {apos cpos:Pos} (ho:DE X E ma' o) (ha:DE X E mb e) (hbase:attributeBase o "pop" X.env (eval o X.env)=eval o X.env:=by rfl)
  (hfew:((backTo cpos (starEach [e] X.env)).all (λx=>!x.1) && (backToKw cpos (keywordEach [] X.env)).all (λx=>x.1.isSome) && decide ([e].length+([]:List Keyword).length+(if ([]:List Keyword).isEmpty then 0 else 1) < 30))=true:=by rfl)
  (hline:(apos.endLine == cpos.line)=true:=by rfl) (hs:starEach [e] X.env=(false,eval e X.env)::starEach [] X.env:=by rfl) (hplain:(backTo cpos (starEach [] X.env)).any (·.1)=false:=by rfl):DE X E (oq o9 ma' mb) (.Call (.Attribute o "pop" apos) [e] [] cpos):=by
 simp only [bj] at *
 exact PE.imp (HV PySem.F.plainAttrs_list PySem.F.slot_list_pop PySem.F.type_list_pop Dq ho (lC ha rj hs) hbase hfew hline hs hplain) λσ H Q q=>Ee q λθ h H d1 d2 x y w r1 r2 p=>by
   unfold o9 at p;split at p
   ·rename_i j kk;split at p
    ·rename_i xs hx;split at p
     ·rename_i hz;split at p
      ·rename_i d hd;obtain ⟨a,vs,rfl,ha,hv,rs⟩:=ou w r1 hx;have hl:xs.length=vs.length:=Qr rs;obtain ⟨z,ez,rz⟩:=rs.some hd;obtain ⟨e1,w1⟩:=w.zI ha (gW hx) (aO.erase kk.toNat rs);refine ⟨a,vs,kk,kk.toNat,z,rfl,by rw [bJ r2],hv,by omega,by omega,?_,ez,p _ _ e1 w1 _ (rz.ev e1)⟩;exact PySem.seqIndex_of hz.1 (by omega)
      ·exact p.elim
     ·exact p.elim
    ·exact p.elim
   ·exact p.elim
theorem Cv {G:Gx} {F:XP} {d1 d2 d:D} {x y v:V} {Q:Hp->Prop} (w:W G θ hm H) (r1:bQ G θ H d1 x) (r2:bQ G θ H d2 y) (rd:bQ G θ H d v) (p:aC G F θ H (AW d1 d2 d hm) (λ_ _ _ H'=>Q H')):HU x y v H Q:=by
 cases d1 with
 | ref j=>
  cases d2 with
  | dat dd=>
   cases dd with
   | int kk=>
    simp only [AW] at p
    cases hx:hm[j]? with
    | none=>rw [hx] at p;exact p.elim
    | some oo=>
     rw [hx] at p
     cases oo with
     | lst xs=>
      simp only at p
      cases hn:tZ xs.length kk with
      | none=>rw [hn] at p;exact p.elim
      | some n=>rw [hn] at p;obtain ⟨a,vs,rfl,ha,hv,rs⟩:=ou w r1 hx;have hl:xs.length=vs.length:=Qr rs;obtain ⟨e1,w3⟩:=w.zI ha (gW hx) (aO.L8 rd n rs);exact ⟨a,vs,kk,n,rfl,bJ r2,hv,by rw [<- hl];exact hn,p _ _ e1 w3⟩
     | _=>exact p.elim
   | _=>exact p.elim
  | _=>exact p.elim
 | _=>exact p.elim
theorem Bh {α β:Type} {xs:List α} {ys:List β} (h:xs.length=ys.length):(!xs.isEmpty)=!ys.isEmpty:=by cases xs<;>cases ys<;>simp_all
theorem sk {G:Gx} {d:D} {v:V} {b:Bool} (w:W G θ hm H) (r:bQ G θ H d v) (e:truth d hm=some b):Jl G.K v H b:=by
 unfold truth at e;split at e
 ·cases e;cases r.1;rfl
 ·cases e;cases r.1;rfl
 ·cases e;cases r.1;rfl
 ·split at e
  ·rename_i hz;cases e;cases r.1;exact ⟨cR hz,rfl⟩
  ·cases e
 ·cases e;obtain ⟨a,us,rfl,ha,q1,_⟩:=gO r;exact .inr (.inl ⟨us,gE.of (aA _ _ _ _ ha),Bh q1.length.symm⟩)
 ·cases e;obtain ⟨a,us,rfl,ha,q1,_⟩:=gP r;exact .inl ⟨us,jk.of (aA _ _ _ _ ha),Bh q1.length.symm⟩
 ·split at e
  ·rename_i xs hx;cases e;obtain ⟨a,vs,rfl,ha,hv,rs⟩:=ou w r hx;refine .inl ⟨vs,jk.of hv,?_⟩;cases rs<;>rfl
  ·cases e
 ·cases e
theorem dH (h:DE X E m e) (he:∀ whole,isTrue e X.env whole=(do let v <- whole;standAt e.pos;holding [v] (truthy v)):=by intro _;rfl):DT X E (cn m) e:=by
 simp only [bj,kJ] at *
 exact PT.imp (Dd h he) λσ H Q ⟨θ,h,ρ,w,fr,p⟩=>⟨θ,h,ρ,w,fr,(aC.bind p).mono λd θ1 h1 H1 _ _ ⟨ev,w1,p1⟩ v r=>by
   split at p1
   ·rename_i b hb;exact ⟨b,sk w1 r hb,p1 θ1 H1 Ev.refl w1⟩
   ·exact p1.elim⟩
theorem Eg (hr:cg k X.A) {pins:Uk} {s:UD} {σ:L2.St} {H:Hp} {x y:V} {v u:Value} {Q:VK} {θ:Ur} {h:Hm} {d1 d2:D} {b:Bool} (I:Inv X pins σ H s) (rx:RelV x v) (ry:RelV y u) (w:W X.G θ h H) (r1:bQ X.G θ H d1 x) (r2:bQ X.G θ H d2 y) (hb:nS d1 d2 h=some b) :
  (Q (.bl b) H->wpAny (model X.prog X.w) X.A (compareOp .In v u) (EP X pins σ Q) X.xe s)/\(Q (.bl !b) H->wpAny (model X.prog X.w) X.A (compareOp .NotIn v u) (EP X pins σ Q) X.xe s):=by
 unfold nS at hb;split at hb
 ·split at hb
  ·cases hb;exact ⟨λq=>B0 pins s σ H x y v u Q I rx ry ⟨_,_,(dA r1).1,(dA r2).1,q⟩,λq=>vM pins s σ H x y v u Q I rx ry ⟨_,_,(dA r1).1,(dA r2).1,q⟩⟩
  ·cases hb
 ·split at hb
  ·rename_i d ds e1 e2;obtain ⟨⟨as,z1⟩,s1⟩:=fk I w 3 r1 rx e1;obtain ⟨⟨bs,z2⟩,s2⟩:=fk I w 3 r2 ry e2;exact D6 hr (.inl rfl) I z1 z2 s1 (by simpa [cb] using s2) hb
  ·rename_i d ds e1 e2;obtain ⟨⟨as,z1⟩,s1⟩:=fk I w 3 r1 rx e1;obtain ⟨⟨bs,z2⟩,s2⟩:=fk I w 3 r2 ry e2;exact D6 hr (.inr rfl) I z1 z2 s1 (by simpa [cb] using s2) hb
  ·cases hb
end
section
variable {X:Cx} {E:XK} {k:Nat} {θ:Ur} {hm:Hm} {H M:Hp} {pins:Uk} {σ:L2.St} {s:UD}
theorem jK {x:Str}:∀ {ks:List (Key×V)} {kvs:Ul},aR ks=some kvs->nR (.str x) kvs=(ks.any λkv=>decide (kv.1=Sum.inr x))
 | [],kvs,e=>by cases e;rfl
 | (q,v)::ks,kvs,e=>by
  unfold aR at e
  cases e1:fN v with
  | none=>rw [e1] at e;cases e
  | some d=>
   cases e2:aR ks with
   | none=>rw [e1,e2] at e;cases e
   | some ds=>
    rw [e1,e2] at e;cases e;have ih:=jK (x:=x) e2;unfold nR at ih ⊢;rw [Sw,Sw,ih];congr 1
    cases q with
    | inl i=>rw [key_lr'];simp [ud,PyData.eqv]
    | inr y=>
     simp only [ud,PyData.eqv];by_cases e:y=x
     ·subst e;simp
     ·have:¬ (Sum.inr y:Key)=Sum.inr x:=λz=>e (Sum.inr.inj z);rw [Ql this];simpa using e
where
 key_lr' {a:Int} {b:Str}:decide ((Sum.inl a:Key)=Sum.inr b)=false:=Ql (λq=>nomatch q)
theorem wC (q:Key) (x:Str):PyData.eqv (ud q) (.str x)=decide (q=Sum.inr x):=by
 cases q with
 | inl i=>rw [Ql (λz=>nomatch z)];simp [ud,PyData.eqv]
 | inr y=>
  simp only [ud,PyData.eqv];by_cases e:y=x
  ·subst e;simp
  ·rw [Ql (λz=>e (Sum.inr.inj z))];simpa using e
theorem su {x:Str} {u:V} {dv:PyData} (hv:fN u=some dv):∀ {ks:List (Key×V)} {kvs:Ul},aR ks=some kvs ->
  aR (ks.map λkv=>if kv.1=Sum.inr x then (kv.1,u) else kv)=some (kvs.map λp=>if PyData.eqv p.1 (.str x) then (p.1,dv) else p)
 | [],kvs,e=>by cases e;rfl
 | (q,v)::ks,kvs,e=>by
  unfold aR at e
  cases e1:fN v with
  | none=>rw [e1] at e;cases e
  | some d=>
   cases e2:aR ks with
   | none=>rw [e1,e2] at e;cases e
   | some ds=>
    rw [e1,e2] at e;cases e;have ih:=su (x:=x) hv e2;rw [Qn,Qn,wC];by_cases hq:q=Sum.inr x
    ·simp only [hq,TV,QB];unfold aR;rw [hv,ih]
    ·simp only [hq,Ui,QK,P8];unfold aR;rw [e1,ih]
theorem qc {x:Str} {u:V} {dv:PyData} (hv:fN u=some dv):∀ {ks:List (Key×V)} {kvs:Ul},aR ks=some kvs->aR (ks++[(Sum.inr x,u)])=some (kvs++[(.str x,dv)])
 | [],kvs,e=>by cases e;simp [aR,hv,ud]
 | (q,v)::ks,kvs,e=>by
  unfold aR at e
  cases e1:fN v with
  | none=>rw [e1] at e;cases e
  | some d=>
   cases e2:aR ks with
   | none=>rw [e1,e2] at e;cases e
   | some ds=>rw [e1,e2] at e;cases e;have ih:=qc (x:=x) hv e2;rw [Sf];unfold aR;rw [e1,ih];rfl
theorem nh {x:Str} {u:V} {dv:PyData} (hv:fN u=some dv) {ks:List (Key×V)} {kvs:Ul} (e:aR ks=some kvs):aR (putK ks (Sum.inr x) u)=some (dput kvs (.str x) dv):=by
 unfold putK dput;rw [jK e];split
 ·exact su hv e
 ·exact qc hv e
theorem jL:∀ {ks:List (Key×V)} {kvs:Ul},aR ks=some kvs->ks.length=kvs.length
 | [],kvs,e=>by cases e;rfl
 | (q,v)::ks,kvs,e=>by
  unfold aR at e
  cases e1:fN v with
  | none=>rw [e1] at e;cases e
  | some d=>
   cases e2:aR ks with
   | none=>rw [e1,e2] at e;cases e
   | some ds=>rw [e1,e2] at e;cases e;simp [jL e2]
theorem ni {x:Str}:∀ {ks:List (Key×V)} {kvs:Ul} {d:PyData},aR ks=some kvs->rK kvs (.str x)=some d->∃ u,o6 ks (Sum.inr x)=some u/\fN u=some d
 | [],kvs,d,e,g=>by cases e;simp [rK] at g
 | (q,v)::ks,kvs,d,e,g=>by
  unfold aR at e
  cases e1:fN v with
  | none=>rw [e1] at e;cases e
  | some d'=>
   cases e2:aR ks with
   | none=>rw [e1,e2] at e;cases e
   | some ds=>
    rw [e1,e2] at e;cases e;unfold rK at g;rw [Rz,wC] at g;by_cases hq:q=Sum.inr x
    ·simp only [hq,TV] at g;simp at g;subst g;exact ⟨v,nM (p:=(q,v)) hq,e1⟩
    ·simp only [hq,Ui] at g;obtain ⟨u,h1,h2⟩:=ni (x:=x) e2 g;exact ⟨u,by rw [kA (p:=(q,v)) hq];exact h1,h2⟩
theorem xW {u:V} {d:PyData} (h:fN u=some d):Rep M d u:=by
 cases u with
 | non=>cases h;rfl
 | bl b=>cases h;rfl
 | int i=>cases h;rfl
 | str x=>cases h;rfl
 | _=>cases h
theorem sv {u:V} {d:PyData} (f:kH d=true) (h:Rep M d u):fN u=some d:=by
 cases d with
 | none=>cases h;rfl
 | bool b=>cases h;rfl
 | int i=>cases h;rfl
 | str x=>cases h;rfl
 | _=>simp [kH] at f
theorem jM {q:PyData} (tq:aw q=true):∀ {kvs:Ul} {xs:List (PyData×Addr×Value)},Paired (n6 M) kvs xs->nR q kvs=(atKey xs q).isSome
 | _,_,.nil=>rfl
 | _,_,.cons (a:=p) (b:=x) h t=>by
  have ih:=jM tq t;unfold nR at ih ⊢;unfold atKey at ih ⊢;rw [Sw,Rz,ih];by_cases e:x.1=q
  ·rw [Qj e,h.1,e,aU (aV tq)];rfl
  ·have:PyData.eqv p.1 q=false:=aS (aV h.2.1) (aV tq) (by rw [h.1];exact e);rw [this,Ql e];simp
theorem Bi (I:Inv X pins σ H s) {d:PyData} {a:Addr} (sm:bx M H) (t:aw d=true) (dp:d.depth<=8) (so:cb d=true) (r:Rep M d (.ref a)):JP s.heap d a:=by obtain ⟨as,z⟩:=Rep.reads I (r.same sm) rfl;exact ⟨t,dp,so,as,z⟩
theorem wD (I:Inv X pins σ H s) (sm:bx M H):∀ {kvs:Ul} {xs:List (PyData×Addr×Value)},Paired (n6 M) kvs xs->∀ x∈xs,JP s.heap x.1 x.2.1
 | _,_,.nil,x,hx=>by cases hx
 | _,_,.cons h t,x,hx=>by
  rcases PZ.mp hx with rfl | hx
  ·obtain ⟨e,t1,t2,t3,t4,_⟩:=h;rw [<- e];exact Bi I sm t1 t2 t3 t4
  ·exact wD I sm t x hx
theorem Eh (I:Inv X pins σ H s) {xs:List (PyData×Addr×Value)} {kvs:Ul} {a:Addr} (sm:bx M H) (ha:H a=some (dO X.prog X.w xs a)) (r:Paired (n6 M) kvs xs) :
  kvs.length<=sizeLine/\(a == sysModules)=false/\s.heap.DictOfH (eJ X.prog X.w) a xs:=by
 obtain ⟨⟨h1,h2,o,es,ep,h3,h4,h5,h6,h7⟩,_⟩:=I.hok a _ ha;exact ⟨by rw [show kvs.length=xs.length from Qr r];exact h1,h2,o,es,ep,h3,h4,h5,h6,wD I sm r,h7⟩
theorem Kg {xs:List (PyData×Addr×Value)} {a:Addr} (ha:H a=some (dO X.prog X.w xs a)):K4 (H a):=by rw [ha];exact True.intro
theorem xX {q dv:PyData} {u:Value} {v:V} (tq:aw q=true) (rv:RelV v u) (rd:Rep M dv v) (sd:cb dv=true):∀ {kvs:Ul} {xs:List (PyData×Addr×Value)},Paired (n6 M) kvs xs ->
  Paired (n6 M) (kvs.map λp=>if PyData.eqv p.1 q then (p.1,dv) else p) (xs.map (putAt q u))
 | _,_,.nil=>.nil
 | _,_,.cons (a:=p) (b:=x) h t=>by
  rw [Qn,Qn];refine .cons ?_ (xX tq rv rd sd t);unfold putAt;by_cases e:x.1=q
  ·have e2:PyData.eqv p.1 q=true:=by rw [h.1,e];exact aU (aV tq)
   rw [if_pos e,if_pos e2];exact ⟨h.1,h.2.1,h.2.2.1,h.2.2.2.1,h.2.2.2.2.1,v,rv,rd,sd⟩
  ·have e2:PyData.eqv p.1 q=false:=aS (aV h.2.1) (aV tq) (by rw [h.1];exact e);rw [if_neg e,e2,if_neg (by simp)];exact h
theorem xY {q dv:PyData} {b:Addr} {u:Value} {v:V} (tq:aw q=true) (dq:q.depth<=8) (sq:cb q=true) (rq:Rep M q (.ref b)) (rv:RelV v u) (rd:Rep M dv v) (sd:cb dv=true) {kvs:Ul} {xs:List (PyData×Addr×Value)} (r:Paired (n6 M) kvs xs) :
  Paired (n6 M) (dput kvs q dv) (storedH xs q b u):=by
 unfold dput storedH;rw [jM tq r];split
 ·exact xX tq rv rd sd r
 ·exact eK r (.cons ⟨rfl,tq,dq,sq,rq,v,rv,rd,sd⟩ .nil)
theorem xZ (kvs:Ul) (q v:PyData):(dput kvs q v).length<=kvs.length+1:=by
 unfold dput;split
 ·simp
 ·simp
theorem W.Ei {G:Gx} {j:Nat} {a:Addr} {o:HO} {t:Bool} {kvs:Ul} (w:W G θ hm H) (ha:θ[j]?=some a) (hl:j < hm.length) (r:fP G.P G.w (view θ H) (upd H a o) a t kvs):Ev θ H θ (upd H a o)/\W G θ (hm.set j (.jC t kvs)) (upd H a o):=by
 have hmm:a∈θ:=Qq ha
 have e:Ev θ H θ (upd H a o):=⟨⟨[],by simp⟩,λb u q=>by
  obtain ⟨h1,h2⟩:=cX q;have ne:b≠a:=λz=>by subst z;exact h1 hmm
  rw [dM h1,ay ne]
  exact h2⟩
 exact w.write ha hl (fP.same e.same r λ_ q=>q)
def L9 (G:Gx) (E:XK):V->V->V->Hp->(Hp->Prop)->Prop:=λx y v H Q=>∃ θ h d1 d2 d,W G θ h H/\bQ G θ H d1 x/\bQ G θ H d2 y/\bQ G θ H d v/\aC G (m9 G E) θ H (wg d1 d2 d h) (λ_ _ _ H'=>Q H')
theorem GW (hr:cg k X.A):IU X (L9 X.G E):=by
 intro pins s σ H x y v xv yv u Q I rx ry rv ⟨θ,h,d1,d2,d,w,r1,r2,rd,p⟩;unfold wg at p;split at p
 ·rename_i j;split at p
  ·rename_i t kvs hx;unfold Ib at p;split at p
   ·rename_i q dv;split at p
    ·rename_i hc;simp only [PV,Qb,Ry] at hc;obtain ⟨a,ha,rfl⟩:=r1;cases rx;rcases w.obj _ _ _ ha hx with ⟨rfl,ks,h1,h2,h3⟩ | ⟨rfl,xs,h1,h2⟩
     ·have hk:∃ z,q=.str z:=by
       have:=hc.1.1;simp only [keyOk,P8,QK] at this;cases q<;>first | exact ⟨_,rfl⟩ | simp [fT] at this
      obtain ⟨z,rfl⟩:=hk;have fd:kH dv=true:=by rcases hc.1.2 with z | z;cases z;exact z
      have hv:=sv fd rd.1;obtain ⟨e2,s2⟩:=dA r2;subst e2
      have so:∀ p∈dput kvs (.str z) dv,cb p.1=true/\cb p.2=true:=λp hp=>by
       unfold dput at hp;split at hp
       ·obtain ⟨p0,hp0,e0⟩:=Qp.mp hp;split at e0
        ·subst e0;exact ⟨(h3 p0 hp0).1,rd.2⟩
        ·subst e0;exact h3 p0 hp0
       ·rcases Qg.mp hp with hp | hp
        ·exact h3 p hp
        ·simp at hp;subst hp;exact ⟨by simpa [cb] using s2,rd.2⟩
      obtain ⟨e1,w1⟩:=w.Ei (o:=.dK (putK ks (Sum.inr z) v)) (t:=false) (kvs:=dput kvs (.str z) dv) ha (gW hx) (.inl ⟨rfl,_,aX,nh hv h2,so⟩);exact Cc (by have:=hr.units;omega) I (Gu.k (k:=Sum.inr z) h1 (by rw [jL h2,R7];exact hc.2)) ry rv λs' I'=>⟨_,I',p _ _ e1 w1⟩
     ·have hk:=hc.1.1;simp only [keyOk,QB,PV,Qb] at hk
      obtain ⟨b,vs,rfl,hb⟩:∃ b vs,y=.ref b/\view θ H b=some (.tup vs):=by
       cases q with
       | tuple ds=>obtain ⟨b,vs,e,hb,_⟩:=r2.1;exact ⟨b,vs,e,hb⟩
       | _=>simp [fS] at hk
      cases ry;obtain ⟨hz,hsys,dd⟩:=Eh I (aA θ H) h1 h2;have hz2:xs.length<=sizeLine:=by rw [<- show kvs.length=xs.length from Qr h2];exact hz
      have kr:=xY (b:=b) (u:=u) hk.1.2 hk.2 r2.2 r2.1 rv rd.1 rd.2 h2;refine wpAny_setItem_heap (knd:=eJ X.prog X.w) (hsz:=hz2) (by show X.A.units+1+20 < cLine;have:=hr.units;omega) (Bi I (aA θ H) hk.1.2 hk.2 r2.2 r2.1) dd λh' dd' hs=>?_;obtain ⟨o,es,ep,g1,g2,g3,g4,_,g5⟩:=dd';have hl2:(storedH xs q b u).length<=sizeLine:=by rw [<- show (dput kvs q dv).length=_ from Qr kr];have:=xZ kvs q dv;rw [R7];omega
      refine ⟨_,qO (t':=_) I (Kg h1) hs ⟨o,g1⟩ (Ic (xs:=storedH xs q b u) hl2 hsys g1 g2 g3 g4 g5),?_⟩;obtain ⟨e1,w1⟩:=w.Ei (o:=dO X.prog X.w (storedH xs q b u) a) (t:=true) (kvs:=dput kvs q dv) ha (gW hx) (.inr ⟨rfl,_,aX,kr⟩);exact p _ _ e1 w1
    ·exact p.elim
   ·exact p.elim
  ·exact set_list pins s σ H x y v xv yv u Q I rx ry rv (Cv w r1 r2 rd p)
 ·exact p.elim
theorem Ej {ma' mb:ME} {o i:Expr} {pos:Pos} (hr:cg k X.A) (ho:DE X E ma' o) (hi:DE X E mb i) (ha:∀ v,assign (.Subscript o i pos) X.env v=(do
   let ov <- holding [v] (eval o X.env)
   let iv <- holding [v,ov] (eval i X.env)
   standAt pos
   holding [v,ov,iv] (setItem ov iv v)
   release [v,ov,iv] []):=by intro _;rfl):DG X E (xx ma' mb) (.Subscript o i pos):=by
 simp only [bj,mF] at *
 exact λpins s σ H v u Q I r ⟨θ,h,ρ,d,w,fr,rd,p⟩=>IW ho hi (GW (E:=E) hr) ha pins s σ H v u Q I r ⟨θ,h,ρ,w,fr,(aC.bind p).mono λd1 θ1 h1 H1 _ _ ⟨ev,w1,p1⟩ x r1=>
   ⟨θ1,h1,ρ,w1,fr.ev ev,(aC.bind p1).mono λd2 θ2 h2 H2 _ _ ⟨ev2,w2,p2⟩ y r2=>
    ⟨θ2,h2,d1,d2,d,w2,r1.ev ev2,r2,rd.ev (ev.trans ev2),(aC.bind p2).mono λ_ θ3 h3 H3 _ _ ⟨ev3,w3,p3⟩=>p3 θ3 H3 Ev.refl w3 σ (((fr.ev ev).ev ev2).ev ev3)⟩⟩⟩
end
section
variable {X:Cx} {E:XK} {k:Nat} {θ:Ur} {hm:Hm} {H M:Hp} {pins:Uk} {σ:L2.St} {s:UD} {pos:Pos} {e:Expr}
theorem x5 {G:Gx} {d:D} {v:V} {t:Bool} {kvs:Ul} (w:W G θ hm H) (r:bQ G θ H d v) (e:jq d hm=some (t,kvs)):∃ a,v=.ref a/\fP G.P G.w (view θ H) H a t kvs:=by
 unfold jq at e;split at e
 ·cases e;obtain ⟨a,h1,h2⟩:=r;exact ⟨a,h1,h2.same (bx.refl _) λo q=>aA _ _ _ _ q⟩
 ·split at e
  ·rename_i hx;cases e;obtain ⟨a,ha,h1⟩:=r;exact ⟨a,h1,w.obj _ _ _ ha hx⟩
  ·cases e
 ·cases e
theorem GX (hr:cg k X.A) {x:V} {v:Value} {Q:VK} {h:Hm} {d1:D} {b t:Bool} {kvs:Ul} {a:Addr} (I:Inv X pins σ H s) (rx:RelV x v) (w:W X.G θ h H) (r1:bQ X.G θ H d1 x) (dc:fP X.prog X.w (view θ H) H a t kvs) (hb:wb d1 kvs t=some b) :
  (Q (.bl b) H->wpAny (model X.prog X.w) X.A (compareOp .In v (.ref a)) (EP X pins σ Q) X.xe s)/\(Q (.bl !b) H->wpAny (model X.prog X.w) X.A (compareOp .NotIn v (.ref a)) (EP X pins σ Q) X.xe s):=by
 unfold wb at hb;split at hb
 ·rename_i d;split at hb
  ·rename_i ok;cases hb;rcases dc with ⟨rfl,ks,h1,h2,h3⟩ | ⟨rfl,xs,h1,h2⟩
   ·simp only [keyOk,P8,QK] at ok
    cases d with
    | str z=>
     cases (dA r1).1
     exact ⟨λq=>NR (by have:=hr.units;omega) I (uc.k (k:=Sum.inr z) h1) rx λs' I'=>⟨.bl _,H,I',rfl,by rw [<- nN,<- jK h2];exact q⟩,
      λq=>Gv (by have:=hr.units;omega) I (uc.k (k:=Sum.inr z) h1) rx λs' I'=>⟨.bl _,H,I',rfl,by rw [<- nN,<- jK h2];exact q⟩⟩
    | _=>simp [fT] at ok
   ·simp only [keyOk,QB,PV,Qb] at ok
    cases d with
    | tuple ds=>
     obtain ⟨c,vs,rfl,hc,_⟩:=id r1.1;cases rx;obtain ⟨hz,hsys,dd⟩:=Eh I (aA θ H) h1 h2;have room:(eJ X.prog X.w).room X.A.in1:=by show X.A.units+1+20 < cLine;have:=hr.units;omega
     have tk:=Bi I (aA θ H) ok.1.2 ok.2 r1.2 r1.1
     exact ⟨λq=>wpAny_in_heap (knd:=eJ X.prog X.w) room tk hsys dd ⟨.bl _,H,I.tok _,rfl,by rw [<- jM ok.1.2 h2];exact q⟩,
      λq=>PyProof.Rows.wpAny_notIn_heap (knd:=eJ X.prog X.w) room tk hsys dd ⟨.bl _,H,I.tok _,rfl,by rw [<- jM ok.1.2 h2];exact q⟩⟩
    | _=>simp [fS] at ok
  ·cases hb
 ·cases hb
theorem Bj (hr:cg k X.A) {x y:V} {v u:Value} {Q:VK} {h:Hm} {d1 d2:D} {b:Bool} (I:Inv X pins σ H s) (rx:RelV x v) (ry:RelV y u) (w:W X.G θ h H) (r1:bQ X.G θ H d1 x) (r2:bQ X.G θ H d2 y) (hb:findIn d1 d2 h=some b) :
  (Q (.bl b) H->wpAny (model X.prog X.w) X.A (compareOp .In v u) (EP X pins σ Q) X.xe s)/\(Q (.bl !b) H->wpAny (model X.prog X.w) X.A (compareOp .NotIn v u) (EP X pins σ Q) X.xe s):=by
 unfold findIn at hb;split at hb
 ·rename_i p hp;obtain ⟨t,kvs⟩:=p;obtain ⟨a,rfl,dc⟩:=x5 w r2 hp;cases ry;exact GX hr I rx w r1 dc hb
 ·exact Eg hr I rx ry w r1 r2 hb
theorem nj (hr:cg k X.A):n8 X E (compareOp .In) oX:=by
 intro pins s σ H x y v u Q I rx ry ⟨θ,h,d1,d2,w,r1,r2,p⟩;unfold oX at p;split at p
 ·rename_i b hb;exact (Bj hr I rx ry w r1 r2 hb).1 (p.km w (cA _))
 ·exact p.elim
theorem Ek (hr:cg k X.A):n8 X E (compareOp .NotIn) ui:=by
 intro pins s σ H x y v u Q I rx ry ⟨θ,h,d1,d2,w,r1,r2,p⟩;unfold ui at p;split at p
 ·rename_i b hb;exact (Bj hr I rx ry w r1 r2 hb).2 (p.km w (cA _))
 ·exact p.elim
theorem Em {kvs:Ul} {q d:PyData} (h:∀ p∈kvs,cb p.1=true/\cb p.2=true) (e:rK kvs q=some d):cb d=true:=by unfold rK at e;obtain ⟨p,hp,rfl⟩:=QF.mp e;exact (h p (List.mem_of_find?_eq_some hp)).2
theorem bf (hr:cg k X.A):Ld X (JQ X.G E dY):=by
 intro value slice pins s σ H x y v u Q I rx ry ⟨θ,h,d1,d2,w,r1,r2,p⟩ hs;unfold dY at p;split at p
 ·rename_i pp hp;obtain ⟨t,kvs⟩:=pp;split at p
  ·rename_i z;split at p
   ·exact p.elim
   ·rename_i ht;split at p
    ·rename_i d hd;obtain ⟨a,rfl,dc⟩:=x5 w r1 hp;cases rx;rcases dc with ⟨_,ks,h1,h2,h3⟩ | ⟨z1,_⟩
     ·obtain ⟨e2,s2⟩:=dA r2;subst e2;obtain ⟨uu,g1,g2⟩:=ni h2 hd;have T:s.TypeIs (.ref a) "dict" := by obtain ⟨_,_,vs,_,o,_,_,e,ex,_⟩:=I.hok a _ h1;exact ⟨o,e,ex.1⟩
      exact PyProof.Rows.tail_any (ops:=[.ref a,u]) T PySem.F.slot_dict_getitem.lookup (Cb (by have:=hr.units;omega) I (by have:=uc.k (k:=Sum.inr z) h1;rw [g1] at this;exact this) ry λw' s' I' rw'=>⟨uu,H,I',rw',p.km w ⟨xW g2,Em h3 hd⟩⟩) hs
     ·exact absurd z1 ht
    ·exact p.elim
  ·exact p.elim
 ·exact Ea value slice pins s σ H x y v u Q I rx ry ⟨θ,h,d1,d2,w,r1,r2,p⟩ hs
end
theorem bQ.take {G:Gx} {θ:Ur} {H:Hp} {n:Nat} {d:D} {v:V} (r:bQ G θ H d v) (hb:d.below n=true):bQ G (θ.take n) H d v:=by
 have sm:bx (view θ H) (view (θ.take n) H):=λa o q=>by obtain ⟨h1,h2⟩:=cX q;rw [dM (λz=>h1 (SG z))];exact h2
 cases d with
 | dat d=>exact ⟨r.1.same sm,r.2⟩
 | ref i=>obtain ⟨a,h1,h2⟩:=r;simp only [D.below,Qb] at hb;exact ⟨a,by rw [R0 hb];exact h1,h2⟩
 | jC t kvs=>obtain ⟨a,h1,h2⟩:=r;exact ⟨a,h1,h2.same sm λo q=>sm _ _ q⟩
 | set xs=>exact r
 | fn n=>exact r
 | scr ns=>obtain ⟨a,h1,h2⟩:=r;exact ⟨a,h1,sm.seq h2⟩
 | ktup xs=>exact r
 | rpr x=>exact r
 | exc x=>obtain ⟨a,c,h1,h2,h3⟩:=r;exact ⟨a,c,h1,sm _ _ h2,h3⟩
theorem aO.take {G:Gx} {θ:Ur} {H:Hp} {n:Nat}:∀ {ds:List D} {vs:List V},aO G θ H ds vs->ds.all (D.below n)=true->aO G (θ.take n) H ds vs
 | _,_,.nil,_=>.nil
 | _,_,.cons r t,h=>by simp only [TJ,PV] at h;exact .cons (r.take h.1) (aO.take t h.2)
theorem W.take {G:Gx} {θ:Ur} {H:Hp} {h:Hm} {n:Nat} (w:W G θ h H) (hb:(h.take n).all (MO.below n)=true):W G (θ.take n) (h.take n) H:=by
 have sm:bx (view θ H) (view (θ.take n) H):=λa o q=>by obtain ⟨h1,h2⟩:=cX q;rw [dM (λz=>h1 (SG z))];exact h2
 refine ⟨by simp [w.len],w.nd.sublist (T8 _ _),λi a o h1 h2=>?_⟩;have hi:i < n:=by have:=gW h1;simp at this;omega
 have mo:=Qc.mp hb o (Qq h2);rw [R0 hi] at h1 h2;have r:=w.obj i a o h1 h2
 cases o with
 | lst xs=>obtain ⟨vs,q1,q2⟩:=r;exact ⟨vs,q1,q2.take mo⟩
 | jC t kvs=>exact fP.same sm r λ_ q=>q
 | ins=>exact r.elim
 | tab P q=>obtain ⟨rfl,x⟩:=r;exact ⟨rfl,x.same sm λ_ q=>q⟩
theorem Ev.take {θ θ':Ur} {H H':Hp} (e:Ev θ H θ' H') {n:Nat} (hn:n=θ.length):Ev θ H (θ'.take n) H':=by
 obtain ⟨ext,rfl⟩:=e.pre;have:(θ++ext).take n=θ:=by rw [hn];simp
 rw [this];refine ⟨⟨[],by simp⟩,λa o q=>?_⟩;obtain ⟨h1,h2⟩:=cX (e.same a o q);rw [dM (λz=>h1 (QA _ z))];exact h2
theorem aC.gq {G:Gx} {E:XK} {θ:Ur} {H:Hp} {h:Hm} {F:Fn} {ds:List D} {Q:VK} (w:W G θ h H) (p:aC G (m9 G E) θ H (gq F ds h) (KV G Q)):aC G (m9 G E) θ H (F ds h) (KV G Q):=by
 unfold Ml.gq at p
 cases e:F ds h with
 | bad=>rw [e] at p;exact p
 | ok d h'=>
  rw [e] at p;simp only at p;split at p
  ·rename_i hc;simp only [PV,Qb] at hc;intro θ' H' ev w' v r;have w2:=w'.take hc.1.2;have ev2:=ev.take (n:=h.length) w.len.symm;exact p _ _ ev2 w2 v (r.take hc.1.1)
  ·exact p.elim
 | exc x h'=>
  rw [e] at p;simp only at p;split at p
  ·rename_i hc;simp only [PV,Qb] at hc;intro θ' H' ev w' cls da xr;have w2:=w'.take hc.1;have ev2:=ev.take (n:=h.length) w.len.symm;exact p _ _ ev2 w2 cls da xr
  ·exact p.elim
theorem bh.gq {P:UA} {w:World} {K:Ut} {mg:Uo} {base:Heap} {x:Str} {ps:Uu} {k:Nat} {F:Fn} (h:bh P w K mg base x ps k F):bh P w K mg base x ps k (Ml.gq F):=by obtain ⟨⟨f,fd,h1,h2,h3,h4⟩,ar⟩:=h;refine ⟨⟨f,fd,h1,h2,h3,h4.imp λvs H Q E ⟨θ,hm,ds,w,r,p⟩=>⟨θ,hm,ds,w,r,p.gq w⟩⟩,λds hm l=>?_⟩;unfold Ml.gq;rw [ar ds hm l]
end Ml
namespace L2
open PySem PySem.Spec
section
variable {X:Cx} {a b:Expr} {rest:Uv} {ta tb:TE} {pos:Pos}
theorem Kh {r:V->Hp->(Bool->Hp->Prop)->Prop} (ht:Jb X r) (ha:PE X a ta) (hb:PE X (.BoolOp .Or (b::rest) pos) tb):PE X (.BoolOp .Or (a::b::rest) pos) (λσ H Q=>ta σ H λx H1=>r x H1 λc H2=>H2=H1/\if c=true then Q x H1 else tb σ H1 Q):=by
 intro pins s σ H Q I h;refine PyProof.Rows.BoolOp_or (bq (ha pins s σ H _ I h) λv s1 ⟨x,H1,I1,r1,q1⟩=>?_);refine bq (ht pins s1 σ H1 x v _ I1 r1 q1) λc s2 ⟨H2,I2,e,q2⟩=>?_;subst e
 cases c with
 | false=>exact hb pins s2 σ H2 Q I2 q2
 | true=>exact ⟨x,H2,I2,r1,q2⟩
theorem GY {r:V->Hp->(Bool->Hp->Prop)->Prop} (ht:Jb X r) (ha:PE X a ta) (hb:PE X (.BoolOp .And (b::rest) pos) tb):PE X (.BoolOp .And (a::b::rest) pos) (λσ H Q=>ta σ H λx H1=>r x H1 λc H2=>H2=H1/\if c=true then tb σ H1 Q else Q x H1):=by
 intro pins s σ H Q I h;refine PyProof.Rows.BoolOp_and (bq (ha pins s σ H _ I h) λv s1 ⟨x,H1,I1,r1,q1⟩=>?_);refine bq (ht pins s1 σ H1 x v _ I1 r1 q1) λc s2 ⟨H2,I2,e,q2⟩=>?_;subst e
 cases c with
 | true=>exact hb pins s2 σ H2 Q I2 q2
 | false=>exact ⟨x,H2,I2,r1,q2⟩
end
end L2
namespace Ml
open PySem PySem.Spec L2
section
variable {X:Cx} {E:XK} {m a b c:ME} {t u:MT} {e e1 e2 e3:Expr} {es:Uv} {ma:MA} {pos:Pos} {i:Nat} {x:Str}
def Cw (a b:ME):ME:=λρ h=>(a ρ h).bind λx h1=>match truth x h1 with
 | some c=>if c then .ok x h1 else b ρ h1
 | none=>.bad
def ke (a b:ME):ME:=λρ h=>(a ρ h).bind λx h1=>match truth x h1 with
 | some c=>if c then b ρ h1 else .ok x h1
 | none=>.bad
theorem wF (ha:DE X E a e1) (hb:DE X E b (.BoolOp .Or (e2::es) pos)):DE X E (Cw a b) (.BoolOp .Or (e1::e2::es) pos):=by
 simp only [bj] at *
 exact PE.imp (Kh zj ha hb) λσ H Q ⟨θ,h,ρ,w,fr,p⟩=>⟨θ,h,ρ,w,fr,(aC.bind p).mono λd θ1 h1 H1 _ _ ⟨ev,w1,p1⟩ v r=>by
   split at p1
   ·rename_i b hb;refine ⟨b,sk w1 r hb,rfl,?_⟩
    cases b with
    | true=>exact p1 θ1 H1 Ev.refl w1 v r
    | false=>exact ⟨θ1,h1,ρ,w1,fr.ev ev,p1⟩
   ·exact p1.elim⟩
theorem gg (ha:DE X E a e1) (hb:DE X E b (.BoolOp .And (e2::es) pos)):DE X E (ke a b) (.BoolOp .And (e1::e2::es) pos):=by
 simp only [bj] at *
 exact PE.imp (GY zj ha hb) λσ H Q ⟨θ,h,ρ,w,fr,p⟩=>⟨θ,h,ρ,w,fr,(aC.bind p).mono λd θ1 h1 H1 _ _ ⟨ev,w1,p1⟩ v r=>by
   split at p1
   ·rename_i b hb;refine ⟨b,sk w1 r hb,rfl,?_⟩
    cases b with
    | false=>exact p1 θ1 H1 Ev.refl w1 v r
    | true=>exact ⟨θ1,h1,ρ,w1,fr.ev ev,p1⟩
   ·exact p1.elim⟩
def nk (f g:D->D->Hm->R D) (a b c:ME):ME:=λρ h=>(a ρ h).bind λx h1=>(b ρ h1).bind λy h2=>(f x y h2).bind λz h3=>match z with
 | .dat (.bool k)=>if k then (c ρ h3).bind λw h4=>g y w h4 else .ok (.bool false) h3
 | _=>.bad
theorem x6 {G:Gx} {f g:D->D->Hm->R D} {σ:St} {H:Hp} {Q:VK} (h:lE G E (nk f g a b c) σ H Q):zh (JQ G E f) (JQ G E g) (lE G E a) (lE G E b) (lE G E c) σ H Q:=by
 obtain ⟨θ,h,ρ,w,fr,p⟩:=h;refine ⟨θ,h,ρ,w,fr,(aC.bind p).mono λx θ1 h1 H1 _ _ ⟨e1,w1,p1⟩ v r1=>?_⟩;refine ⟨θ1,h1,ρ,w1,fr.ev e1,(aC.bind p1).mono λy θ2 h2 H2 _ _ ⟨e2,w2,p2⟩ u r2=>⟨θ2,h2,x,y,w2,r1.ev e2,r2,(aC.bind p2).mono λz θ3 h3 H3 _ _ ⟨e3,w3,p3⟩ z' r3=>?_⟩⟩
 cases z with
 | dat z=>
  cases z with
  | bool k=>
   refine ⟨k,r3.1,?_⟩
   cases k with
   | true=>exact ⟨θ3,h3,ρ,w3,(fr.ev e1).ev (e2.trans e3),(aC.bind p3).mono λw' θ4 h4 H4 _ _ ⟨e4,w4,p4⟩ q r4=>⟨θ4,h4,y,w',w4,(r2.ev e3).ev e4,r4,p4⟩⟩
   | false=>exact p3 θ3 H3 Ev.refl w3 _ ⟨rfl,by simp [cb]⟩
  | _=>exact p3.elim
 | _=>exact p3.elim
theorem En {op op':CmpOp} {f g:D->D->Hm->R D} (ho:n8 X E (compareOp op) f) (ho':n8 X E (compareOp op') g) (ha:DE X E a e1) (hb:DE X E b e2) (hc:DE X E c e3)
  (hm:lastMarks [op,op'] [e2,e3]=false:=by with_unfolding_all rfl):DE X E (nk f g a b c) (.Compare e1 [op,op'] [e2,e3] pos):=by
 simp only [bj] at *;exact PE.imp (C9 ho ho' ha hb hc hm) λ_ _ _=>x6
theorem Eo {op op':CmpOp} {f g:D->D->Hm->R D} (ho:n8 X E (compareOp op) f) (ho':n8 X E (compareOp op') g) (ha:DE X E a e1) (hb:DE X E b e2) (hc:DE X E c e3)
  (hm:lastMarks [op,op'] [e2,e3]=false:=by with_unfolding_all rfl):DT X E (aN (nk f g a b c)) (.Compare e1 [op,op'] [e2,e3] pos):=by
 simp only [bj,kJ] at *;exact PT.imp (Dc ho ho' ha hb hc hm) λ_ _ _ q=>x6 (A5 q)
end
section
variable {X:Cx} {E:XK} {m a b c:ME} {t u:MT} {e e1 e2 e3 tg:Expr} {es:Uv} {ma:MA} {pos:Pos} {i:Nat} {x:Str} {ss:List Stmt} {st:Stmt}
theorem dv (i:Nat) (hN:X.N[i]?=some x:=by rfl) (hv:FZ X.env.scope x:=by first | exact Or.inl rfl | exact Or.inr (Or.inl rfl) | exact Or.inr (Or.inr rfl)) (hd:(x == ("__debug__" : Str))=false:=by decide) (hcd:(x == ("__classdict__" : Str))=false:=by decide):DE X E (ab i) (.Name x pos):=JR hN hv hd hcd
theorem dg (i:Nat) (hN:X.N.Nodup) (hi:X.N[i]?=some x:=by rfl) (hx:Loc X.env.scope x:=by first | exact Or.inl rfl | exact Or.inr rfl) (hf:X.fn x=true\/X.env.scope.names.lookup x=some .local:=by first | exact .inl rfl | exact .inr rfl | assumption):DG X E (av i) (.Name x pos):=GH hN hi hx hf
noncomputable def aL (e:ME):MA:=λρ h=>match e ρ h with
 | .ok (.dat (.tuple ds)) h1=>.ok (ds.map D.dat) h1
 | .ok (.dat (.list ds)) h1=>.ok (ds.map D.dat) h1
 | .ok (.dat (.str s)) h1=>.ok (signs s) h1
 | .ok (.ktup ds) h1=>.ok (ds.map D.dat) h1
 | .exc x h1=>.exc x h1
 | _=>.bad
theorem bY (h:DE X E m e):DI X E (aL m) tg e:=by
 have at':=JW (tg:=tg) h;have al':=JX (tg:=tg) h;have as':=JY (tg:=tg) h;have ak':=GU (tg:=tg) h;simp only [ka] at *;intro pins s σ H QI I ⟨θ,hm,ρ,w,fr,p⟩
 cases em:m ρ hm with
 | bad=>simp only [aL,em] at p;exact p.elim
 | exc x h1=>simp only [aL,em] at p;refine at' pins s σ H QI I ⟨θ,hm,ρ,w,fr,?_⟩;simp only [AS,em,R.DK];exact p
 | ok d h1=>
  cases d with
  | dat d=>
   cases d with
   | tuple ds=>simp only [aL,em] at p;refine at' pins s σ H QI I ⟨θ,hm,ρ,w,fr,?_⟩;simp only [AS,em,R.ak];exact p
   | list ds=>simp only [aL,em] at p;refine al' pins s σ H QI I ⟨θ,hm,ρ,w,fr,?_⟩;simp only [DN,em,R.ak];exact p
   | str ds=>simp only [aL,em] at p;refine as' pins s σ H QI I ⟨θ,hm,ρ,w,fr,?_⟩;simp only [DP,em,R.ak];exact p
   | _=>simp only [aL,em] at p;exact p.elim
  | ktup ds=>simp only [aL,em] at p;refine ak' pins s σ H QI I ⟨θ,hm,ρ,w,fr,?_⟩;simp only [L7,em,R.ak];exact p
  | _=>simp only [aL,em] at p;exact p.elim
end
section
variable {X:Cx} {E:XK} {m:ME} {e:Expr} {es:Uv} {ma:MA} {pos pos' p p2:Pos} {i:Nat} {x T:Str} {f:Fn} {id n:String} {g:PyData->Bool}
theorem gr (i:Nat) (hN:X.N.Nodup) (he:DE X E m e) (hi:X.N[i]?=some x:=by rfl) (hx:Loc X.env.scope x:=by first | exact Or.inl rfl | exact Or.inr rfl) (hs:swapsWith e (some (.Name x pos')) pos.line X.env=pure false:=by kernel_rfl) (hf:X.fn x=true\/X.env.scope.names.lookup x=some .local:=by first | exact .inl rfl | exact .inr rfl | assumption) :
  DS X E (bF i m) (.Assign [.Name x pos'] e pos):=JT hN hi hx he hs hf
theorem uj (hc:rP X E (.builtin id) f) (hm:X.mg x=none) (hv:bootBuiltins x=some (.builtin id)) (ha:DA X E ma (e::es)) (hg:Gl X x:=by rfl) (hn:x ≠ "__name__" := by decide) (hdb:(x == ("__debug__" : Str))=false:=by decide)
  (he:starEach (e::es) X.env=(false,eval e X.env)::starEach es X.env:=by rfl) (hpl:(backTo pos (starEach es X.env)).any (·.1)=false:=by rfl):DE X E (af f ma) (.Call (.Name x p) (e::es) [] pos):=D2 hc hg hm hv ha hn hdb he hpl
theorem jC (hc:rP X E (.type id) f) (hm:X.mg x=none) (hv:bootBuiltins x=some (.type id)) (ha:DA X E ma (e::es)) (hg:Gl X x:=by rfl) (hn:x ≠ "__name__" := by decide) (hdb:(x == ("__debug__" : Str))=false:=by decide)
  (he:starEach (e::es) X.env=(false,eval e X.env)::starEach es X.env:=by rfl) (hpl:(backTo pos (starEach es X.env)).any (·.1)=false:=by rfl):DE X E (af f ma) (.Call (.Name x p) (e::es) [] pos):=Co hc hg hm hv ha hn hdb he hpl
theorem Ep (kit:∀ d,PySem.W.kitOne X.K (.type (LR d)) (.type n)=some (g d)) (bt:bootBuiltins T=some (.type n)) (m1:X.mg "isinstance" = none) (m2:X.mg T=none) (h:DE X E m e) (g1:Gl X "isinstance" := by rfl) (g2:Gl X T:=by rfl) (hT:T ≠ "__name__" := by decide) (hT2:(T == ("__debug__" : Str))=false:=by decide)
  (hs:starEach [e,.Name T p2] X.env=(false,eval e X.env)::starEach [.Name T p2] X.env:=by rfl) (hs2:starEach [.Name T p2] X.env=[(false,eval (.Name T p2) X.env)]:=by rfl) (hpl:(backTo pos (starEach [.Name T p2] X.env)).any (·.1)=false:=by rfl):DE X E (Ia (xK g) m) (.Call (.Name "isinstance" p) [e,.Name T p2] [] pos):=Ke kit bt m1 m2 h g1 g2 hT hT2 hs hs2 hpl
end
def Df (K:Ut) (mg:Uo) (x:Str) (ps:Uu) (st:Stmt):Prop:=∃ f fd,mg x=some (.ref f)/\HW K x x st f fd/\Binds K fd ps []
theorem cG {K:Ut} {h:Heap} {mg:Uo} {x:Str} {ps:Uu} {st:Stmt} {f:Addr} {od an:Option Addr} {sl:Uw} {oc kV dc pm cd ct:Value} (X:K.In h) (G:h.Ns mainGlobals mg)
  (a:PySem.W.nsIn K mainGlobals x=some (some (.ref f))) (l:K.lookup f=some ⟨oc,od,.func (PySem.W.fnOf x x (ip st) (fb st) (aE st) .none kV dc pm an cd ct),sl⟩) (c:PySem.W.codeIn K cd x=true) (k:PySem.W.keepIn K (.ref f)=true)
  (hb:∀ (kV doc pm:Value) (an:Option Addr) (cdv ct:Value) (us:Us),us.length=ps.length->bindArgs (PySem.W.fnOf x x (ip st) (fb st) (aE st) .none kV doc pm an cdv ct) ⟨us,[]⟩=pure (ps.zip us)):Df K mg x ps st:=
 ⟨f,_,SD X G a,zr l c k,(zr l c k).binds hb⟩
section
variable {P:UA} {w:World} {K:Ut} {mg:Uo} {base:Heap} {x:Str} {st:Stmt} {ps N:Uu} {k:Nat} {b:MS} {F:Fn}
theorem Df.has (d:Df K mg x ps st) (S:aP N ps (aE st)) (hbody:∀ (f:Addr) (cdv:Value) (A:UC) (outer:List Env) (s:UD) (H:Hp) (E:XK),cg k (A.deeper (PyProof.Rows.envOfC x (aE st) s.heap.objs.size f cdv)) ->
   D0 (tY (tU P w) P w K mg base N x (aE st) f cdv A outer s H E) E b (fb st)):bh P w K mg base x ps (k+1) (bA ps.length N.length b):=by
 obtain ⟨f,fd,h1,Fu,bd⟩:=d;exact ⟨⟨f,fd,h1,Fu.kp,bd,OX Fu S (hbody f)⟩,uX⟩
end
theorem Ki:bootBuiltins "int" = some (.type "int"):=by decide +kernel
theorem Kj {P:UA} {w:World} {K:Ut} {mg:Uo} {base:Heap} {k:Nat} {f:Addr} {fd:FuncData} {ps:Uu} {F F':Fn} (h:jl P w K mg base (tU P w) k f fd ps (FR ⟨P,w,mg,K⟩ F)) (e:F=F'):jl P w K mg base (tU P w) k f fd ps (FR ⟨P,w,mg,K⟩ F'):=e▸h
theorem Er (H:Hp):view [] H=H:=by funext a;simp [view]
def Ii (K:Ut):Sp:=λvs H Q _=>∃ (a:Addr) (ns:List Int),vs=[.ref a]/\jk K H a (ns.map V.int)/\ns.length<=63/\∀ H',Q (.bl true) H'
theorem Es {G:Gx} {F:Fn} (hp:∀ ns:List Int,ns.length<=63->∃ h,F [.scr ns] []=.ok (.bool true) h) {vs:List V} {H:Hp} {Q:VK} {E:XK} (z:Ii G.K vs H Q E):FR G F vs H Q E:=by obtain ⟨a,ns,rfl,hs,hl,q⟩:=z;obtain ⟨h',e⟩:=hp ns hl;refine ⟨[],[],[.scr ns],⟨rfl,.nil,λi a o e=>by simp at e⟩,.cons ⟨a,rfl,by rw [Er];exact hs⟩ .nil,?_⟩;rw [e];intro θ' H' _ _ v r;cases r.1;exact q H'
end Ml
namespace Ml
open PySem
noncomputable def u6:MS:=bg (mZ (tW (iW (cn (Ia (xK isStr) (ab 0)))) (iW (aN (nk oLe oLe (aj (.int 1)) (af fc (aa (ab 0) (ah))) (aj (.int 6)))))) (cz (aj (.bool false))) (cW))
    (cz (af we (aa (cf 1 (aL (ab 0)) (av 0) (cJ) (nk oLe oLe (aj (.str "a")) (ab 0) (aj (.str "z")))) (ah))))
def ju:Fn:=bA 1 1 u6
def qd:MS:=cz (af we (aa (cf 2 (AU (aa (ab 0) (aa (MJ (ab 0) (mE (aj (.int 1))) (AV)) (ah)))) (jF (cx (av 0) (cx (av 1) (jE)))) (cJ) (aq oLt (ab 0) (ab 1))) (ah)))
def gu:Fn:=bA 1 1 qd
noncomputable def qe:MS:=bg (mZ (tW (iW (cn (Ia (xK isTup) (ab 0)))) (aN (aq MI (af fc (aa (ab 0) (ah))) (aj (.int 12))))) (cz (aj (.bool false))) (cW))
    (cz (ke (af we (aa (cf 1 (aL (ab 0)) (av 0) (cJ) (af ju (aa (ab 0) (ah)))) (ah))) (af gu (aa (ab 0) (ah)))))
def iE:Fn:=bA 1 1 qe
def qf:MS:=bg (mZ (tW (iW (cn (Ia (xK isTup) (ab 0)))) (aN (aq m6 (af fc (aa (ab 0) (ah))) (aj (.int 2))))) (cz (aj (.bool false))) (cW))
    (cz (ke (aq oX (aq dY (ab 0) (aj (.int 0))) (ab 1)) (aq oX (aq dY (ab 0) (aj (.int 1))) (ab 1))))
def gv:Fn:=bA 2 2 qf
def mI:MS:=bg (mZ (iW (cn (Ia (xK isTup) (ab 0)))) (cz (aj (.bool false))) (cW))
    (cz (ke (af we (aa (cf 1 (aL (ab 0)) (av 0) (cJ) (af gv (aa (ab 0) (aa (ab 2) (ah))))) (ah))) (af gu (aa (ab 0) (ah)))))
def gh:Fn:=bA 2 2 mI
noncomputable def x8:MS:=bg (mZ (tW (iW (cn (Ia (xK isTup) (ab 0)))) (aN (aq m6 (af fc (aa (ab 0) (ah))) (aj (.int 2))))) (cz (aj (.bool false))) (cW))
    (bg (nQ (jF (cx (av 1) (cx (av 2) (jE)))) (ab 0))
    (cz (ke (af iE (aa (ab 1) (ah))) (af gh (aa (ab 2) (aa (ab 1) (ah)))))))
def ow:Fn:=bA 1 3 x8
end Ml
namespace Ml
open PySem PySem.Spec L2
section
variable {X:Cx} {E:XK} {st:Stmt}
def Kk:MS:=λ_ _=>.bad
theorem Et:DS X E Kk st:=by simp only [jt] at *;exact λpins s σ H C I ⟨θ,hm,ρ,w,fr,p⟩=>p.elim
end
end Ml
namespace Ml
open PySem
def qg:MS:=mZ (iW (cn (af ow (aa (ab 0) (ah))))) (Kk) (cW)
def gw:Fn:=bA 1 1 qg
def wG:Uq:=[.str "grounded",.str "preferred",.str "stable",.str "standing",.str "whole"]
def wH:MS:=mZ (aN (aq ui (ab 0) (OY wG))) (Kk) (cW)
def jN:Fn:=bA 1 1 wH
def iF:MS:=cz (aq oX (bV (aa (ab 1) (aa (ab 1) (ah)))) (ab 0))
def bK:Fn:=bA 3 3 iF
def gJ:MS:=cz (ke (aq oX (bV (aa (ab 1) (aa (ab 1) (ah)))) (ab 0)) (Cw (aq oX (bV (aa (ab 2) (aa (ab 1) (ah)))) (ab 0)) (aq oX (bV (aa (ab 2) (aa (ab 2) (ah)))) (ab 0))))
def bb:Fn:=bA 3 3 gJ
def jv:MS:=cz (ke (aq oX (bV (aa (ab 1) (aa (ab 1) (ah)))) (ab 0)) (aq oX (bV (aa (ab 2) (aa (ab 2) (ah)))) (ab 0)))
def bS:Fn:=bA 3 3 jv
def gK:MS:=cz (ke (aq oX (bV (aa (ab 2) (aa (ab 2) (ah)))) (ab 0)) (Cw (aq oX (bV (aa (ab 1) (aa (ab 1) (ah)))) (ab 0)) (aq oX (bV (aa (ab 2) (aa (ab 1) (ah)))) (ab 0))))
def bu:Fn:=bA 3 3 gK
end Ml
namespace Ml
open PySem PySem.Spec L2
def u7 (x:D) (h:Hm):Option (Uq):=match x with
 | .dat (.tuple ds)=>some ds
 | .ktup ds=>some ds
 | x=>listOf x h
section
variable {X:Cx} {E:XK} {m:ME} {a:MA} {e:Expr} {es:Uv} {p:Pos}
theorem x9 {G:Gx} {θ:Ur} {H:Hp}:∀ {xs:Uq},(∀ x∈xs,(match x with | .int _ | .str _ | .bool _ | .none=>true | _=>false)=true)->cD xs=true->aO G θ H (xs.map D.dat) (xs.map Ie)
 | [],_,_=>.nil
 | d::ds,h,s=>by simp only [cD,PV] at s;refine .cons ⟨?_,s.1⟩ (x9 (λx m=>h x (P5 _ m)) s.2);have:=h d (Qe ..);cases d<;>first | rfl | simp at this
end
end Ml
namespace L2
open PySem PySem.Spec PyProof.Rows
section
variable {prog:UA} {w:World} {A:UC} {R:Result->UD->Prop} {s:UD} {elt target iter target2 iter2:Expr} {ifs ifs2:Uv} {scope:Scope} {pos:Pos} {it acc:Value} {env:Env}
theorem ya:compTurn (.ListComp elt [⟨target,iter,ifs,0⟩,⟨target2,iter2,ifs2,0⟩] scope pos) 0 it acc env=(do
   standAt iter.pos
   match <- pyNext it with
   | none=>pure (.done .next)
   | some v=>
    letOwnedTupleGo target it v
    assign target env v
    let mut ok:=true
    for c in ifs do
     if ok then ok <- isTrue c env (eval c env)
    if ok then
     let x <- eval iter2 env
     standAt iter2.pos
     let x <- foldedSetIterable iter2 env x
     let _ <- runOwn (.compStart (.ListComp elt [⟨target,iter,ifs,0⟩,⟨target2,iter2,ifs2,0⟩] scope pos) 1 (<- holding [x] (pyIter x)) acc env) env
    again (.compLoop (.ListComp elt [⟨target,iter,ifs,0⟩,⟨target2,iter2,ifs2,0⟩] scope pos) 0 it acc env)):=by rfl
theorem yb:compTurn (.ListComp elt [⟨target,iter,ifs,0⟩,⟨target2,iter2,ifs2,0⟩] scope pos) 1 it acc env=(do
   standAt iter2.pos
   match <- pyNext it with
   | none=>pure (.done .next)
   | some v=>
    letOwnedTupleGo target2 it v
    assign target2 env v
    let mut ok:=true
    for c in ifs2 do
     if ok then ok <- isTrue c env (eval c env)
    if ok then
     (do let _ <- call (.builtin "list.append") [acc,<- eval elt env])
    again (.compLoop (.ListComp elt [⟨target,iter,ifs,0⟩,⟨target2,iter2,ifs2,0⟩] scope pos) 1 it acc env)):=by rfl
theorem uk (I:Nat->UD->Prop)
  (turn:∀ n s,I n s->wpAny (model prog w) A (pyNext it) (λr s1=>match r with
   | none=>R (.ok .next) s1
   | some v=>wpAny (model prog w) A (letOwnedTupleGo target2 it v) (λ_ s2=>wpAny (model prog w) A (assign target2 env v) (λ_ s3=>
     wpAny (model prog w) A (forIn ifs2 true λc r=>if r=true then do let ok <- isTrue c env (eval c env);pure (ForInStep.yield ok) else pure (ForInStep.yield r)) (λok s4=>
      if ok=true then wpAny (model prog w) A (eval elt env) (λx s5=>
       wpAny (model prog w) A (call (.builtin "list.append") [acc,x]) (λ_ s6=>∃ m,m < n/\I m s6) (λ_ _=>False) s5) (λ_ _=>False) s4
      else ∃ m,m < n/\I m s4) (λ_ _=>False) s3) (λ_ _=>False) s2) (λ_ _=>False) s1) (λ_ _=>False) s)
  (n:Nat) (h:I n s) :
  codeAny (model prog w) A (.compLoop (.ListComp elt [⟨target,iter,ifs,0⟩,⟨target2,iter2,ifs2,0⟩] scope pos) 1 it acc env) R s:=by
 refine codeAny_loop rfl I (λn s hI=>?_) n h;show wpAny _ A ((compTurn (.ListComp elt [⟨target,iter,ifs,0⟩,⟨target2,iter2,ifs2,0⟩] scope pos) 1 it acc env).onRaise (λx=>do noteFrame x env;theTreesLotGoes x)) _ _ s;refine wpAny_noted ?_;rw [yb];refine Q7 (E:=λ_ _=>False) (E':=_) (Q':=_) ?_ (λ_ _ q=>q) λ_ _ z=>z.elim;refine PQ (Q9 (PQ (bq (turn n s hI) (λr s1 h1=>?_))))
 cases r with
 | none=>exact PU h1
 | some v=>
  refine PQ (bq h1 λ_ s2 h2=>?_);refine PQ (bq h2 λ_ s3 h3=>PQ (bq h3 λok s4 h4=>?_))
  cases ok with
  | false=>exact PU ⟨rfl,h4⟩
  | true=>exact PQ (PQ (bq h4 λx s5 h5=>PQ (bq h5 λ_ s6 h6=>PU (PU ⟨rfl,h6⟩))))
theorem um (hs:∀ x,foldedSetIterable iter2 env x=pure x) (I:Nat->UD->Prop)
  (turn:∀ n s,I n s->wpAny (model prog w) A (pyNext it) (λr s1=>match r with
   | none=>R (.ok .next) s1
   | some v=>wpAny (model prog w) A (letOwnedTupleGo target it v) (λ_ s2=>wpAny (model prog w) A (assign target env v) (λ_ s3=>
     wpAny (model prog w) A (forIn ifs true λc r=>if r=true then do let ok <- isTrue c env (eval c env);pure (ForInStep.yield ok) else pure (ForInStep.yield r)) (λok s4=>
      if ok=true then wpAny (model prog w) A (eval iter2 env) (λx s5=>
       wpAny (model prog w) A (pyIter x) (λit2 s6=>codeAny (model prog w) (A.mark none) (.compStart (.ListComp elt [⟨target,iter,ifs,0⟩,⟨target2,iter2,ifs2,0⟩] scope pos) 1 it2 acc env) (λr s7=>match r with | .ok _=>∃ m,m < n/\I m s7 | .error _=>False) s6) (λ_ _=>False) s5) (λ_ _=>False) s4
      else ∃ m,m < n/\I m s4) (λ_ _=>False) s3) (λ_ _=>False) s2) (λ_ _=>False) s1) (λ_ _=>False) s)
  (n:Nat) (h:I n s) :
  codeAny (model prog w) A (.compLoop (.ListComp elt [⟨target,iter,ifs,0⟩,⟨target2,iter2,ifs2,0⟩] scope pos) 0 it acc env) R s:=by
 refine codeAny_loop rfl I (λn s hI=>?_) n h;show wpAny _ A ((compTurn (.ListComp elt [⟨target,iter,ifs,0⟩,⟨target2,iter2,ifs2,0⟩] scope pos) 0 it acc env).onRaise (λx=>do noteFrame x env;theTreesLotGoes x)) _ _ s;refine wpAny_noted ?_;rw [ya];refine Q7 (E:=λ_ _=>False) (E':=_) (Q':=_) ?_ (λ_ _ q=>q) λ_ _ z=>z.elim;refine PQ (Q9 (PQ (bq (turn n s hI) (λr s1 h1=>?_))))
 cases r with
 | none=>exact PU h1
 | some v=>
  refine PQ (bq h1 λ_ s2 h2=>?_);refine PQ (bq h2 λ_ s3 h3=>PQ (bq h3 λok s4 h4=>?_))
  cases ok with
  | false=>exact PU ⟨rfl,h4⟩
  | true=>
   refine PQ (bq h4 λx s5 h5=>PQ (Q9 (PQ (Sn (hs x) (PQ (QG (bq h5 λit2 s6 h6=>?_)))))));refine PQ (wpAny_runOwn (Ti h6 λr s7 h7=>?_))
   cases r with
   | error e=>exact h7.elim
   | ok f=>exact PU ⟨rfl,h7⟩
theorem wI {R:Result->UD->Prop}
  (h0:codeAny (model prog w) A (.compLoop (.ListComp elt [⟨target,iter,ifs,0⟩,⟨target2,iter2,ifs2,0⟩] scope pos) 1 it acc env) R s)
  (h:wpAny (model prog w) A (pyIter it) (λit' s'=>codeAny (model prog w) A (.compLoop (.ListComp elt [⟨target,iter,ifs,0⟩,⟨target2,iter2,ifs2,0⟩] scope pos) 1 it' acc env) R s')
   (notedBy (model prog w) A env λx s'=>R (.error x) s') s) :
  codeAny (model prog w) A (.compStart (.ListComp elt [⟨target,iter,ifs,0⟩,⟨target2,iter2,ifs2,0⟩] scope pos) 1 it acc env) R s:=by
 refine codeAny_of_tree ?_;show wpAny _ _ ((compStart (.ListComp elt [⟨target,iter,ifs,0⟩,⟨target2,iter2,ifs2,0⟩] scope pos) 1 it acc env).onRaise (λx=>do noteFrame x env;standAt theWindowsPlace)) _ _ s;refine wpAny_notedAt ?_;unfold compStart;show wpAny _ _ (ask >>= _) _ _ s;refine PQ (TB (wpAny_ite ?_));split
 ·first
   | exact PQ (PU (PU (And.intro rfl h0)))
   | exact PU (And.intro rfl h0)
 ·first
   | exact PQ (RH (PQ (Q9 (PQ (Q7 h (λit' s' h'=>PU (And.intro rfl h')) λ_ _ x=>x)))))
   | (refine PQ (RH ?_);show wpAny _ _ (standAt iter2.pos >>= _) _ _ s;exact PQ (Q9 (PQ (Q7 h (λit' s' h'=>PU (And.intro rfl h')) λ_ _ x=>x))))
end
noncomputable def zJ (n:Nat) (J:It) (g:TG) (tc:TT) (wi2:TI) (g2:TG) (tc2:TT) (te:TE) (σ:St) (H:Hp) (Q:VK):Prop:=
 ∃ W:Nat->Nat->List V->Hp->Prop,(∃ m,W 0 m [] H)/\∀ i m ys H,W i m ys H ->
  (J.stop i H/\ys.length<=sizeLine/\∀ p,H p=none->Q (.ref p) (upd H p (.lst ys))) \/
  (J.go i H/\ys.length<=sizeLine/\∃ N:List V->Hp->Prop,(∀ ys' H',N ys' H'->∃ m',m' < m/\W (i+1) m' ys' H')/\∀ x H',J.yld i H x H'->g x (List.replicate n none++σ) H' λσ2 H2=>tc σ2 H2 λb H3=>
   if b=true then wi2 σ2 H3 λJ2 H4=>∃ W2:Nat->Nat->St->List V->Hp->Prop,(∃ m2,W2 0 m2 σ2 ys H4)/\∀ i2 m2 σ3 zs H5,W2 i2 m2 σ3 zs H5 ->
    (J2.stop i2 H5/\N zs H5) \/
    (J2.go i2 H5/\zs.length<=sizeLine/\∃ N2:St->List V->Hp->Prop,(∀ σ' zs' H',N2 σ' zs' H'->∃ m',m' < m2/\W2 (i2+1) m' σ' zs' H')/\∀ x2 H6,J2.yld i2 H5 x2 H6->g2 x2 σ3 H6 λσ4 H7=>tc2 σ4 H7 λb2 H8=>
     if b2=true then te σ4 H8 λy H9=>N2 σ4 (zs++[y]) H9 else N2 σ4 zs H8)
   else N ys H3)
theorem yc {X:Cx} {own:Uu} {scope:Scope} {pins:Uk} {σ:St} {H2:Hp} {s2:UD} {fp:Ur} {it:Addr} {tn:Nat->Heap->Prop} {J:It} {elt tg iter tg2 iter2:Expr} {ifs ifs2:Uv} {pos:Pos} {g g2:TG} {tc tc2:TT} {wi2:TI} {te:TE} {Q:VK}
  {RR:Value->Addr->Result->UD->Prop} {E:Uj} (I:Inv X pins σ H2 s2) (CS:cy X.env.scope X.N own scope) (hc:X.calm=true) (T:Turn X.prog X.w X.K tg J fp it tn) (st:tn 0 s2.heap) (hf:∀ b∈fp,gN X pins H2 b)
  (hg:∀ C s2 H2 fp pins,PG (au X own scope C s2 H2 fp pins) tg g) (ht:∀ C s2 H2 fp pins,Ca (au X own scope C s2 H2 fp pins) ifs tc) (he:∀ C s2 H2 fp pins,PE (au X own scope C s2 H2 fp pins) elt te) (hi2:∀ C s2 H2 fp pins,PI (au X own scope C s2 H2 fp pins) tg2 iter2 wi2) (hg2:∀ C s2 H2 fp pins,PG (au X own scope C s2 H2 fp pins) tg2 g2) (ht2:∀ C s2 H2 fp pins,Ca (au X own scope C s2 H2 fp pins) ifs2 tc2) (hs2:∀ (env:Env) x,foldedSetIterable iter2 env x=pure x)
  (hW:zJ own.length J g tc wi2 g2 tc2 te σ H2 Q)
  (hR:∀ D C H' s',Inv X pins σ H' s'->gN X pins H' C->(∃ m,s'.heap.Ns C m)->Q (.ref D) H'->Kept X fp H2 H' s2 s'->RR (.ref D) C (.ok .next) s') :
  wpAny (model X.prog X.w) X.A (newList []) (λacc s3=>wpAny (model X.prog X.w) X.A (newFunctionEnv scope X.env.globals (dX X.env.cells scope.names []) [] X.env.qual none .none (some X.env)) (λcenv s4=>
   codeAny (model X.prog X.w) X.A (.compStart (.ListComp elt [⟨tg,iter,ifs,0⟩,⟨tg2,iter2,ifs2,0⟩] scope pos) 0 (.ref it) acc {cenv with scope:=relabel scope X.env}) (RR acc cenv.locals) s4) E s3) E s2:=by
 refine QD (iY ?_);dsimp only;generalize hH:s2.heap.push {cls:=.type "list",dict:=none,data:=.seq ([]:Us).toArray}=h3;have hDC:h3.objs.size=s2.heap.objs.size+1:=by rw [<- hH,Qv]
 have eC:({scope:=relabel scope X.env,locals:=h3.objs.size,globals:=X.env.globals,cells:=cellsFrom (h3.objs.size+1) scope.names (dX X.env.cells scope.names []),qual:=X.env.qual,func:=none,code:=X.env.code,frame:=X.env.frame,builtins:=X.env.builtins}:Env)=iX scope h3.objs.size X.env:=rfl;rw [eC];generalize eD:s2.heap.objs.size=D at *;generalize eCC:h3.objs.size=C at *;have hl:∀ b∈fp,b < s2.heap.objs.size:=λb hb=>by obtain ⟨o,e,_⟩:=T.obj 0 _ st b hb;exact P1 e
 have hC:s2.heap.objs.size<=C:=by omega
 generalize hH4:pushCells (h3.push {cls:=.type "dict",data:=.dict #[]}) scope.names=h4;have k34:∀ b o,(h3.push {cls:=.type "dict",data:=.dict #[]}).get? b=some o->h4.get? b=some o:=λb o e=>by rw [<- hH4];exact pushCells_keeps _ _ b o e
 have k24:∀ b o,s2.heap.get? b=some o->h4.get? b=some o:=λb o e=>k34 b o (PR _ (by rw [<- hH];exact PR _ e));have nsC:h4.Ns C λ_=>none:=by have:=Heap.Ns.new h3 (.type "dict");rw [eCC] at this;exact this.keeps k34
 have accD:h4.get? D=some {cls:=.type "list",data:=.seq (([]:Us).toArray)}:=k34 _ _ (PR _ (by rw [<- hH,<- eD];exact P4 _ rfl));have cellN:∀ x c,(x,c)∈cellsFrom (C+1) scope.names []->h4.IsCell c none/\C+1<=c:=λx c hm=>by have ok:=cellsFrom_ok scope.names (h3.push {cls:=.type "dict",data:=.dict #[]}) (C+1) [] ⟨λ_ _ hm=>(nomatch hm),List.Pairwise.nil⟩ (by rw [Qv];omega);rw [Qv,eCC,hH4] at ok;exact ok.empty x c hm
 have hne:H2 D=none:=by rw [<- eD];exact I.hok.fresh (PY _)
 have ok':(au X own scope C s2 H2 fp pins).Ok:=vR I CS hC hf hl
 have rebase:∀ {σ':St} {H':Hp} {ps:Uk} {s':UD},Inv (au X own scope C s2 H2 fp pins) ps σ' H' s'->Inv (au X own scope C s2 H2 fp pins) ps (List.replicate own.length none++σ) H' s':=λ{σ' H' ps s'} J'=>by
  obtain ⟨m,hn,_⟩:=J'.loc;refine ⟨J'.ok,J'.os,J'.bare,J'.base,⟨m,hn,jn I CS λc v z ⟨x,hx⟩=>?_⟩,J'.cell,J'.free,J'.freeC,J'.pin,J'.hok,?_⟩
  ·obtain ⟨o,ho,hd⟩:=z;obtain ⟨sl,e⟩:=J'.base.any ho (I.freeC x c hx) λhb=>(hf c hb).2.2.2.2.1 x c hx rfl;exact ⟨_,e,hd⟩
  ·show (List.replicate own.length none++σ).length=(own++X.N).length;rw [Qd,Qd,QW,I.len]
 have start:Inv (au X own scope C s2 H2 fp pins) [] (List.replicate own.length none++σ) H2 {s2 with heap:=h4}:=by
  have I4:Inv X pins σ H2 {s2 with heap:=h4}:=I.kept (t':=s2.toks) k24;refine ⟨ok',rfl,I.bare,Un.kept k24,⟨_,nsC,jn I CS λc v z _=>z.keeps k24⟩,λx c h=>?_,I.hok.fresh hC,λx c h=>?_,λp hp=>?_,I4.hok,?_⟩
  ·rcases bz h with ⟨a,_,_⟩ | a
   ·exact ⟨_,(cellN x c a).1⟩
   ·obtain ⟨v,z⟩:=I.cell x c (dE I CS a).2;exact ⟨v,z.keeps k24⟩
  ·rcases bz h with ⟨_,_,a⟩ | a
   ·exact I.hok.fresh (P6 hC (P6 (Rq _) a))
   ·exact I.freeC x c (dE I CS a).2
  ·have hp':p∈X.pn++pins:=by
    rcases Qg.mp hp with z | z
    ·exact z
    ·exact nomatch z
   obtain ⟨e,n,ne,nf,d⟩:=I.pin p hp';refine ⟨k24 _ _ e,n,Qh (P0 (P1 e) hC),λz=>?_,d⟩;rcases PZ.mp (I.iV _ z) with q | q
   ·exact ne q
   ·exact nf q
  ·show (List.replicate own.length none++σ).length=(own++X.N).length;rw [Qd,Qd,QW,I.len]
 obtain ⟨W,⟨m0,w0⟩,turn⟩:=hW
 have nfs:∀ b,s2.heap.objs.size<=b->b∉(au X own scope C s2 H2 fp pins).fs:=λb hb z=>by
  rcases PZ.mp (I.iV b z) with q | q
  ·rw [q] at hb;exact absurd (P0 I.lt hb) (Qk _)
  ·exact I.zc hb q
 have fpD:∀ {H':Hp},H' D=none->gN (au X own scope C s2 H2 fp pins) [] H' D:=λ{H'} hn=>by
  refine ⟨hn,Qh (by show D < C;omega),nfs D (by omega),.inr (by show s2.heap.objs.size<=D;omega),λx c h z=>?_,λp hp z=>?_⟩
  ·rcases bz h with ⟨_,_,a⟩ | a
   ·rw [z] at a;exact absurd (P0 (show D < C+1 by omega) a) (Qk _)
   ·obtain ⟨v,q⟩:=I.cell x c (dE I CS a).2;have:=q.lt;rw [z,eD] at this;exact Qk _ this
  ·have hp':p∈X.pn++pins:=by
    rcases Qg.mp hp with z | z
    ·exact z
    ·exact nomatch z
   have:=P1 (I.pin p hp').1;rw [z,eD] at this;exact Qk _ this
 have nD:D∉fp:=λz=>by have:=hl D z;rw [eD] at this;exact Qk _ this
 have stat:∀ {H':Hp} {ps:Uk},(∀ p∈ps,p.1=D)->(∀ b∈fp,H' b=none)->∀ b∈fp,gN (au X own scope C s2 H2 fp pins) ps H' b:=λ{H' ps} hps hn b hb=>by
  obtain ⟨f0,f1,f2,f3,f4,f5⟩:=hf b hb;refine ⟨hn b hb,(ok'.exf b hb).1,ok'.exfs b hb,.inl hb,(ok'.exf b hb).2,λp hp=>?_⟩;rcases Qg.mp hp with z | z
  ·exact f5 p z
  ·rw [hps p z];exact λq=>nD (q▸hb)
 let LI:Nat->UD->Prop:=λn s'=>∃ i ys its k H',Inv (au X own scope C s2 H2 fp pins) [] (List.replicate own.length none++σ) H' s'/\tn i s'.heap/\(∀ b∈fp,H' b=none)/\H' D=none /\
  s'.heap.get? D=some {cls:=.type "list",data:=.seq (List.toArray its) k}/\Vals ys its/\W i n ys H'
 have l0:LI m0 {s2 with heap:=h4}:=⟨0,[],[],0,H2,start,T.keep _ _ _ st λb _ o e=>k24 b o e,λb hb=>(hf b hb).1,hne,accD,.nil,w0⟩
 have loop:codeAny (model X.prog X.w) X.A (.compLoop (.ListComp elt [⟨tg,iter,ifs,0⟩,⟨tg2,iter2,ifs2,0⟩] scope pos) 0 (.ref it) (.ref D) (iX scope C X.env)) (RR (.ref D) C) {s2 with heap:=h4}:=by
  refine um (hs2 _) LI ?_ m0 l0;rintro n s3 ⟨i,ys,its,k,H3,I3,st3,fr3,d3,a3,v3,w3⟩;rcases turn i n ys H3 w3 with ⟨stop,hz,qn⟩ | ⟨go,hz,NN,hNN,step⟩
  ·have I3p:=I3.pinned (fp:=[D]) (λb hb=>(Qm.mp hb)▸fpD d3) λb hb=>⟨_,(Qm.mp hb)▸a3,λv z=>(by cases z)⟩;refine bq (T.done (au X own scope C s2 H2 fp pins) rfl rfl rfl hc i _ s3 _ H3 _ I3p (stat (λp hp=>by have q:p∈bE [D] s3.heap:=hp;have:=(dI q).1;simpa using this) fr3) st3 stop) λr s4 ⟨hr,I4⟩=>?_;subst hr;have a4:s4.heap.get? D=_:=(I4.pin (D,_) (PX _ (PX _ (aQ (by simp) a3)))).1;have u4:Un (tS X.stack) fp H2 H3 s2.heap s4.heap:=I4.base
   have okD:kq X.prog X.w (upd H3 D (.lst ys)) s4.heap:=λb o e=>by
    by_cases hb:b=D
    ·subst hb;rw [aX] at e;cases e;exact ⟨hz,its,k,v3,a4⟩
    ·rw [ay hb] at e;exact (I4.hok b o e).qG (λ_ _ _ q=>q) (λc q=>by rw [ay (aD q d3)];exact q) λc xs q=>by rw [ay (aD q d3)];exact q
   have nDo:∀ b o,s2.heap.get? b=some o->b≠D:=λb o e=>by rw [<- eD];exact Qh (P1 e)
   have uD:Un (tS X.stack) fp H2 (upd H3 D (.lst ys)) s2.heap s4.heap:=⟨u4.keep,u4.slot,λb o e n hx=>by rw [ay (nDo b o e)];exact u4.free b o e n hx,u4.there,
    λb xs e=>by rw [ay (aD e hne)];exact u4.tups b xs e,λb o xs e=>by rw [ay (aD e hne)];exact u4.frzs b o xs e,λb ps e=>by rw [ay (aD e hne)];exact u4.tbls b ps e⟩
   have kp:Kept X fp H2 (upd H3 D (.lst ys)) s2 s4:=⟨I4.os,uD,okD,I4.bare⟩;have I5:Inv X pins σ (upd H3 D (.lst ys)) s4:=kp.inv I hf;obtain ⟨m,hn,_⟩:=I4.loc;refine hR D C _ s4 I5 ⟨by rw [ay (show C≠D by omega)];exact I4.free,Sm (P0 I.lt hC),I.zc hC,.inr (P6 I.sz hC),λx c e z=>?_,λp hp z=>?_⟩ ⟨m,hn⟩ (qn D d3) kp
   ·obtain ⟨v,q⟩:=I.cell x c e;exact absurd (P0 q.lt (by rw [z];exact hC)) (Qk _)
   ·exact absurd (P0 (P1 (I.pin p hp).1) (by rw [z];exact hC)) (Qk _)
  ·have I3p:=I3.pinned (fp:=[D]) (λb hb=>(Qm.mp hb)▸fpD d3) λb hb=>⟨_,(Qm.mp hb)▸a3,λv z=>(by cases z)⟩;have onlyD:∀ p∈([]++bE [D] s3.heap),p.1=D:=λp hp=>by have q:p∈bE [D] s3.heap:=hp;have:=(dI q).1;simpa using this
   refine bq (T.item (au X own scope C s2 H2 fp pins) rfl rfl rfl hc i _ s3 _ H3 _ I3p (stat onlyD fr3) st3 go) λr s4 ⟨u,hr,h4'⟩=>?_;subst hr;refine bq h4' λ_ s5 ⟨x,H5,I5,r5,y5,st5,fr5⟩=>?_;have I5p:=I5.pinned (fp:=fp) (stat onlyD fr5) (T.obj _ _ st5)
   have cont:∀ {s6:UD} {σ6:St} {H6:Hp},Inv (au X own scope C s2 H2 fp pins) (([]++bE [D] s3.heap)++bE fp s5.heap) σ6 H6 s6 ->
     Inv (au X own scope C s2 H2 fp pins) [] (List.replicate own.length none++σ) H6 s6/\tn (i+1) s6.heap/\(∀ b∈fp,H6 b=none)/\H6 D=none/\s6.heap.get? D=some {cls:=.type "list",data:=.seq (List.toArray its) k}:=λ{s6 σ6 H6} I6=>by
    have pD:=I6.pin (D,_) (PX _ (QA _ (PX _ (aQ (by simp) a3))));refine ⟨rebase (I6.jD λp hp=>nomatch hp),T.keep _ _ _ st5 λb hb o e=>(I6.pin (b,o) (PX _ (PX _ (aQ hb e)))).1,λb hb=>?_,pD.2.1,pD.1⟩;obtain ⟨o,e,_⟩:=T.obj _ _ st5 b hb;exact (I6.pin (b,o) (PX _ (PX _ (aQ hb e)))).2.1
   refine bq (hg C s2 H2 fp pins _ s5 _ H5 x u _ I5p r5 (step x H5 y5)) λ_ s6 ⟨σ6,H6,I6,q6⟩=>?_;refine bq (ht C s2 H2 fp pins _ s6 σ6 H6 _ I6 q6) λb s7 ⟨H7,I7,q7⟩=>?_
   cases b with
   | false=>have q7':NN ys H7:=q7;obtain ⟨m',hm,w7⟩:=hNN _ _ q7';obtain ⟨c1,c2,c3,c4,c5⟩:=cont I7;exact ⟨m',hm,i+1,ys,its,k,H7,c1,c2,c3,c4,c5,v3,w7⟩
   | true=>
    have pmD:(D,_)∈(([]++bE [D] s3.heap)++bE fp s5.heap):=QA _ (PX _ (aQ (by simp) a3))
    have fpD2:∀ {H':Hp},H' D=none->gN (au X own scope C s2 H2 fp pins) (bE fp s5.heap) H' D:=λ{H'} hn=>by
     obtain ⟨f0,f1,f2,f3,f4,f5⟩:=fpD hn;refine ⟨f0,f1,f2,f3,f4,λp hp=>?_⟩;rcases Qg.mp hp with z | z
     ·exact f5 p (QA _ z)
     ·exact λq=>nD (q▸(dI z).1)
    have cont2:∀ {s6:UD} {σ6:St} {H6:Hp},Inv (au X own scope C s2 H2 fp pins) (bE fp s5.heap) σ6 H6 s6->Inv (au X own scope C s2 H2 fp pins) [] (List.replicate own.length none++σ) H6 s6/\tn (i+1) s6.heap/\(∀ b∈fp,H6 b=none):=λ{s6 σ6 H6} I6=>by refine ⟨rebase (I6.jD λp hp=>nomatch hp),T.keep _ _ _ st5 λb hb o e=>(I6.pin (b,o) (PX _ (aQ hb e))).1,λb hb=>?_⟩;obtain ⟨o,e,_⟩:=T.obj _ _ st5 b hb;exact (I6.pin (b,o) (PX _ (aQ hb e))).2.1
    refine bq (hi2 C s2 H2 fp pins _ s7 σ6 H7 _ I7 q7) λv s8 h8=>bq h8 λitv s9 h9=>?_;obtain ⟨it2,fp2,tn2,J2,H9,e9,I9,T2,st9,f9,W2,⟨m2,w2⟩,turn2⟩:=h9;subst e9;have pD9:=I9.pin (D,_) (PX _ pmD);have neD:∀ b∈fp2,D≠b:=λb hb=>(f9 b hb).2.2.2.2.2 (D,_) (PX _ pmD)
    have stat2:∀ {H':Hp} {ps:Uk},(∀ p∈ps,p.1=D)->(∀ b∈fp2,H' b=none)->∀ b∈fp2,gN (au X own scope C s2 H2 fp pins) (bE fp s5.heap++ps) H' b:=λ{H' ps} hps hn b hb=>by
     obtain ⟨g0,g1,g2',g3,g4,g5⟩:=f9 b hb;refine ⟨hn b hb,g1,g2',g3,g4,λp hp=>?_⟩;rcases Qg.mp hp with z | z
     ·exact g5 p (QA _ z)
     ·rcases Qg.mp z with z | z
      ·exact g5 p (PX _ (PX _ z))
      ·rw [hps p z];exact neD b hb
    let LI2:Nat->UD->Prop:=λn' s'=>∃ i2 σ3 zs its2 k2 H',Inv (au X own scope C s2 H2 fp pins) (bE fp s5.heap) σ3 H' s'/\tn2 i2 s'.heap/\(∀ b∈fp2,H' b=none)/\H' D=none /\
     s'.heap.get? D=some {cls:=.type "list",data:=.seq (List.toArray its2) k2}/\Vals zs its2/\W2 i2 n' σ3 zs H'
    have i0:LI2 m2 s9:=⟨0,σ6,ys,its,k,H9,I9.jD (λp hp=>I9.pin p (PX _ (PX _ hp))),st9,λb hb=>(f9 b hb).1,pD9.2.1,pD9.1,v3,w2⟩
    have loop2:codeAny (model X.prog X.w) X.A (.compLoop (.ListComp elt [⟨tg,iter,ifs,0⟩,⟨tg2,iter2,ifs2,0⟩] scope pos) 1 (.ref it2) (.ref D) (iX scope C X.env)) (λr s7=>match r with | .ok _=>∃ m,m < n/\LI m s7 | .error _=>False) s9:=by
     refine uk LI2 ?_ m2 i0;rintro n2 t3 ⟨i2,σ3,zs,its2,k2,K3,J3,st3',fr3',d3',a3',v3',w3'⟩;have J3p:=J3.pinned (fp:=[D]) (λb hb=>(Qm.mp hb)▸fpD2 d3') λb hb=>⟨_,(Qm.mp hb)▸a3',λv z=>(by cases z)⟩;have onlyD2:∀ p∈bE [D] t3.heap,p.1=D:=λp hp=>by have:=(dI hp).1;simpa using this
     rcases turn2 i2 n2 σ3 zs K3 w3' with ⟨stop2,qn2⟩ | ⟨go2,hz2,NN2,hNN2,step2⟩
     ·refine bq (T2.done (au X own scope C s2 H2 fp pins) rfl rfl rfl hc i2 _ t3 _ K3 _ J3p (stat2 onlyD2 fr3') st3' stop2) λr t4 ⟨hr,J4⟩=>?_;subst hr;have a4':t4.heap.get? D=_:=(J4.pin (D,_) (PX _ (PX _ (aQ (by simp) a3')))).1;obtain ⟨m',hm,w4⟩:=hNN _ _ qn2;obtain ⟨c1,c2,c3⟩:=cont2 J4.gY;exact ⟨m',hm,i+1,zs,its2,k2,K3,c1,c2,c3,d3',a4',v3',w4⟩
     ·refine bq (T2.item (au X own scope C s2 H2 fp pins) rfl rfl rfl hc i2 _ t3 _ K3 _ J3p (stat2 onlyD2 fr3') st3' go2) λr t4 ⟨u2,hr,h4''⟩=>?_;subst hr;refine bq h4'' λ_ t5 ⟨x2,K5,J5,r5',y5',st5',fr5'⟩=>?_;have J5p:=J5.pinned (fp:=fp2) (stat2 onlyD2 fr5') (T2.obj _ _ st5')
      have contI:∀ {t6:UD} {τ6:St} {K6:Hp},Inv (au X own scope C s2 H2 fp pins) ((bE fp s5.heap++bE [D] t3.heap)++bE fp2 t5.heap) τ6 K6 t6 ->
        Inv (au X own scope C s2 H2 fp pins) (bE fp s5.heap) τ6 K6 t6/\tn2 (i2+1) t6.heap/\(∀ b∈fp2,K6 b=none)/\K6 D=none/\t6.heap.get? D=some {cls:=.type "list",data:=.seq (List.toArray its2) k2}:=λ{t6 τ6 K6} J6=>by
       have pD:=J6.pin (D,_) (PX _ (QA _ (PX _ (aQ (by simp) a3'))));refine ⟨J6.gY.gY,T2.keep _ _ _ st5' λb hb o e=>(J6.pin (b,o) (PX _ (PX _ (aQ hb e)))).1,λb hb=>?_,pD.2.1,pD.1⟩;obtain ⟨o,e,_⟩:=T2.obj _ _ st5' b hb;exact (J6.pin (b,o) (PX _ (PX _ (aQ hb e)))).2.1
      refine bq (hg2 C s2 H2 fp pins _ t5 _ K5 x2 u2 _ J5p r5' (step2 x2 K5 y5')) λ_ t6 ⟨τ6,K6,J6,q6'⟩=>?_;refine bq (ht2 C s2 H2 fp pins _ t6 τ6 K6 _ J6 q6') λb2 t7 ⟨K7,J7,q7'⟩=>?_
      cases b2 with
      | false=>have q7'':NN2 τ6 zs K7:=q7';obtain ⟨m',hm,w7⟩:=hNN2 _ _ _ q7'';obtain ⟨c1,c2,c3,c4,c5⟩:=contI J7;exact ⟨m',hm,i2+1,τ6,zs,its2,k2,K7,c1,c2,c3,c4,c5,v3',w7⟩
      | true=>refine bq (he C s2 H2 fp pins _ t7 τ6 K7 _ J7 q7') λv t8 ⟨y,K8,J8,r8,q8⟩=>?_;obtain ⟨m',hm,w8⟩:=hNN2 _ _ _ q8;obtain ⟨c1,c2,c3,c4,c5⟩:=contI J8;refine wpAny_list_append_plain ⟨k2,c5⟩ (λh' hp hs=>?_) (by rw [P7,<- v3'.length];exact hz2);obtain ⟨k',e'⟩:=hp;obtain ⟨f0,f1,f2,f3,f4,f5⟩:=fpD2 c4;refine ⟨m',hm,i2+1,τ6,zs++[y],its2++[v],k',K8,c1.turned (t':=t8.toks) (λb o hb e=>(hs.2 b hb).trans e) f0 f1 f3 f4 f5,T2.keep _ _ _ c2 λb hb o e=>(hs.2 b λz=>neD b hb z.symm).trans e,c3,c4,?_,v3'.append (.cons r8 .nil),w8⟩;show h'.get? D=_;rw [e'];simp
    exact wI loop2 (T2.self _ 0 s9 _ _ st9 loop2)
 exact codeAny_compStart_list loop (T.self X.A 0 {s2 with heap:=h4} _ _ (T.keep _ _ _ st λb _ o e=>k24 b o e) loop)
section
variable {X:Cx} {own:Uu} {scope:Scope} {elt tg iter tg2 iter2:Expr} {ifs ifs2:Uv} {pos:Pos} {wi wi2:TI} {g g2:TG} {tc tc2:TT} {te:TE}
def zK (n:Nat) (wi:TI) (g:TG) (tc:TT) (wi2:TI) (g2:TG) (tc2:TT) (te:TE):TE:=λσ H Q=>wi σ H λJ H1=>zJ n J g tc wi2 g2 tc2 te σ H1 Q
theorem Eu (own:Uu) {i:Nat} {x:Str} {pos' spos:Pos} (hN:X.N.Nodup) (hxi:X.N[i]?=some x) (hx:X.env.scope.names.lookup x=some .local) (CS:eG X.env.scope X.N own scope=true) (hc:X.calm=true) (hi:PI X tg iter wi) (hg:∀ C s2 H2 fp pins,PG (au X own scope C s2 H2 fp pins) tg g)
  (ht:∀ C s2 H2 fp pins,Ca (au X own scope C s2 H2 fp pins) ifs tc) (he:∀ C s2 H2 fp pins,PE (au X own scope C s2 H2 fp pins) elt te) (hi2:∀ C s2 H2 fp pins,PI (au X own scope C s2 H2 fp pins) tg2 iter2 wi2) (hg2:∀ C s2 H2 fp pins,PG (au X own scope C s2 H2 fp pins) tg2 g2) (ht2:∀ C s2 H2 fp pins,Ca (au X own scope C s2 H2 fp pins) ifs2 tc2) (hs:∀ x,foldedSetIterable iter X.env x=pure x:=by intro _;rfl) (hs2:∀ (env:Env) x,foldedSetIterable iter2 env x=pure x:=by intro _ _;rfl)
  (hsw:swapsWith (.ListComp elt [⟨tg,iter,ifs,0⟩,⟨tg2,iter2,ifs2,0⟩] scope pos) (some (.Name x pos')) spos.line X.env=pure true:=by rfl) :
  PS X (.Assign [.Name x pos'] (.ListComp elt [⟨tg,iter,ifs,0⟩,⟨tg2,iter2,ifs2,0⟩] scope pos) spos) (BW (zK own.length wi g tc wi2 g2 tc2 te) (av i)):=by
 intro pins s σ H D I h;have CS:=cy.of CS;rw [exec_Assign_Name_used _ _ _ _ hsw];refine PQ (Q9 (PQ ?_));show wpAny _ X.A (do let _ <- comprehension (.ListComp elt [⟨tg,iter,ifs,0⟩,⟨tg2,iter2,ifs2,0⟩] scope pos) scope X.env _ (newList []) false (eval iter X.env) (some (assign (.Name x pos') X.env))) _ _ s
 refine PQ (bq (R4 (use:=some (assign (.Name x pos') X.env)) (Q:=λ_ s'=>SP X pins D .next s') (g:=⟨tg,iter,ifs,0⟩) rfl hs (gb λn hn=>I.ok.has n (CS.frees n hn)) CS.kind (jG CS)
  (bq (hi pins s σ H _ I h) λv s1 h1=>bq h1 λitv s2 h2=>?_)) λ_ s' hq=>PU (PU hq))
 obtain ⟨it,fp,tn,J,H2,e,I2,T,st2,f2,hW⟩:=h2;subst e;refine yc (Q:=λx H1=>av i x σ H1 D.nx) (RR:=λacc C=>compPost (model X.prog X.w) X.A X.xe (some (assign (.Name x pos') X.env)) (λ_ s'=>SP X pins D .next s') acc C) I2 CS hc T st2 f2 hg ht he hi2 hg2 ht2 hs2 hW λDl C H' s' I' fC ⟨m,hn⟩ q _=>?_;show wpAny _ _ (assign (.Name x pos') X.env (.ref Dl)) _ _ s';refine wpAny_assign_Name (o3 (v:=.ref Dl) I' hN hxi (.inl hx) rfl (λs'' I'' hsb=>?_) (.inr hx));obtain ⟨f0,f1,f2',f3,f4,f5⟩:=fC;obtain ⟨a,sb,ha⟩:=hsb
 have hCa:C≠a:=by
  rcases ha with e | e
  ·rw [e];exact f1
  ·exact (f4 x a e).symm
 refine ⟨m,hn.sameBut sb hCa,λh' hs'=>⟨_,H',?_,q⟩⟩;exact I''.turned (t':=s''.toks) (λb o hb e=>(hs'.2 b hb).trans e) f0 f1 f3 f4 f5
end
end L2
namespace Ml
open PySem PySem.Spec L2
noncomputable def jO (g2:MG) (t2:MT) (e:ME):List D->Fm->Hm->R (List D)
 | [],_,h=>.ok [] h
 | y::ys,ρ,h=>(g2 y ρ h).uh.bind λρ1 h1=>(t2 ρ1 h1).uh.bind λc h2=>
  if c then (e ρ1 h2).uh.bind λz h3=>(jO g2 t2 e ys ρ1 h3).bind λzs h4=>.ok (z::zs) h4
  else jO g2 t2 e ys ρ1 h2
noncomputable def eR (n:Nat) (ρ:Fm) (g:MG) (t:MT) (it2:MA) (g2:MG) (t2:MT) (e:ME):List D->Nat->Hm->R (List D)
 | [],_,h=>.ok [] h
 | x::xs,k,h=>(g x (List.replicate n none++ρ) h).uh.bind λρ1 h1=>(t ρ1 h1).uh.bind λc h2=>
  if c then (it2 ρ1 h2).uh.bind λys h3=>if kj (k+ys.length) then (jO g2 t2 e ys ρ1 h3).bind λzs h4=>(eR n ρ g t it2 g2 t2 e xs (k+zs.length) h4).bind λws h5=>.ok (zs++ws) h5 else .bad
  else eR n ρ g t it2 g2 t2 e xs k h2
def sy (n:Nat) (it:MA) (g:MG) (t:MT) (it2:MA) (g2:MG) (t2:MT) (e:ME):MA:=λρ h=>(it ρ h).bind λxs h1=>if kj xs.length then eR n ρ g t it2 g2 t2 e xs 0 h1 else .bad
def wJ (n:Nat) (it:MA) (g:MG) (t:MT) (it2:MA) (g2:MG) (t2:MT) (e:ME):ME:=af fO (sy n it g t it2 g2 t2 e)
section
variable {X:Cx} {E:XK} {it it2:MA} {g g2:MG} {t t2:MT} {m:ME}
theorem zL {G:Gx} {F:XP} {n:Nat} {θ1:Ur} {H1:Hp} {h1:Hm} {xs:List D} {J:It} {σ:St} {ρ:Fm} {Q:VK} {mk:List D->Hm->R D} (hJ:og G θ1 H1 xs J) (w1:W G θ1 h1 H1) (fr:Fr G θ1 H1 ρ σ) (p1:aC G F θ1 H1 ((eR n ρ g t it2 g2 t2 m xs 0 h1).bind mk) (KV G Q))
  (hmk:∀ ys vs θ h H,ys.length<=sizeLine->W G θ h H->aO G θ H ys vs->aC G F θ H (mk ys h) (KV G Q)->∀ p,H p=none->Q (.ref p) (upd H p (.lst vs))) :
  zJ n J (lG G cY g) (lT G cY t) (lI G cY it2) (lG G cY g2) (lT G cY t2) (lE G cY m) σ H1 Q:=by
 refine ⟨λi m' ys H=>m'=xs.length - i/\i<=xs.length/\∃ θ' h' acc,acc.length<=sizeLine/\Ev θ1 H1 θ' H/\W G θ' h' H/\aO G θ' H acc ys/\aC G F θ' H ((eR n ρ g t it2 g2 t2 m (xs.drop i) acc.length h').bind λzs h2=>mk (acc++zs) h2) (KV G Q),
  ⟨xs.length,by simp,Rf _,θ1,h1,[],Rf _,Ev.refl,w1,.nil,p1⟩,?_⟩
 rintro i m' ys H ⟨rfl,hi,θ',h',acc,hacc,ev,w,ra,p⟩;obtain ⟨j1,j2⟩:=hJ θ' h' H ev w;have hly:ys.length<=sizeLine:=by rw [<- show acc.length=ys.length from Qr ra];omega
 by_cases hlt:i < xs.length
 ·have ed:xs.drop i=xs[i]::xs.drop (i+1):=QT hlt;rw [ed] at p;obtain ⟨g1,g2'⟩:=j1 i xs[i] (P9 hlt);refine .inr ⟨g1,hly,λys2 H2=>i+1<=xs.length/\∃ θ' h' acc,acc.length<=sizeLine/\Ev θ1 H1 θ' H2/\W G θ' h' H2/\aO G θ' H2 acc ys2/\aC G F θ' H2 ((eR n ρ g t it2 g2 t2 m (xs.drop (i+1)) acc.length h').bind λzs h2=>mk (acc++zs) h2) (KV G Q),λys' H' q=>⟨xs.length - (i+1),by omega,rfl,q⟩,λx H2 y=>?_⟩;obtain ⟨e2,w2,r2⟩:=g2' x H2 y;have p2:=p.later e2;unfold eR at p2;simp only [R.bind_assoc] at p2;refine ⟨θ',h',_,xs[i],w2,((fr.ev ev).ev e2).replicate n,r2,(aC.cK p2).mono λρ3 θ3 h3 H3 _ _ ⟨e3,w3,p3⟩ σ3 fr3=>⟨θ3,h3,ρ3,w3,fr3,(aC.cK p3).mono λc θ4 h4 H4 _ _ ⟨e4,w4,p4⟩=>?_⟩⟩;have ev4:=(ev.trans e2).trans (e3.trans e4);have ra4:=aO.ev (e2.trans (e3.trans e4)) ra
  cases c with
  | false=>exact ⟨hlt,θ4,h4,acc,hacc,ev4,w4,ra4,p4⟩
  | true=>
   simp only [QB,R.bind_assoc] at p4;refine ⟨θ4,h4,ρ3,w4,fr3.ev e4,(aC.cK p4).mono λzs θ5 h5 H5 _ _ ⟨e5,w5,p5⟩ J2 hJ2=>?_⟩;have fr5:=(fr3.ev e4).ev e5;have ra5:=aO.ev e5 ra4;split at p5
   ·rename_i hz;have hz':=cR hz;simp only [R.bind_assoc,R.ak] at p5
    refine ⟨λi2 m2 τ us K=>m2=zs.length - i2/\i2<=zs.length/\∃ θ6 h6 acc6 ρ6,acc6.length<=acc.length+i2/\Ev θ5 H5 θ6 K/\W G θ6 h6 K/\aO G θ6 K acc6 us/\Fr G θ6 K ρ6 τ/\aC G F θ6 K ((jO g2 t2 m (zs.drop i2) ρ6 h6).bind λvs h7=>(eR n ρ g t it2 g2 t2 m (xs.drop (i+1)) (acc6.length+vs.length) h7).bind λws h8=>mk (acc6++(vs++ws)) h8) (KV G Q),
     ⟨zs.length,by simp,Rf _,θ5,h5,acc,ρ3,by omega,Ev.refl,w5,ra5,fr5,p5⟩,?_⟩
    rintro i2 m2 τ us K ⟨rfl,hi2,θ6,h6,acc6,ρ6,hacc6,ev6,w6,ra6,fr6,p6⟩;obtain ⟨k1,k2⟩:=hJ2 θ6 h6 K ev6 w6;have hlu:us.length<=sizeLine:=by rw [<- show acc6.length=us.length from Qr ra6];omega
    by_cases hlt2:i2 < zs.length
    ·have ed2:zs.drop i2=zs[i2]::zs.drop (i2+1):=QT hlt2;rw [ed2] at p6;obtain ⟨l1,l2⟩:=k1 i2 zs[i2] (P9 hlt2);refine .inr ⟨l1,hlu,λτ' us' K'=>i2+1<=zs.length/\∃ θ6 h6 acc6 ρ6,acc6.length<=acc.length+(i2+1)/\Ev θ5 H5 θ6 K'/\W G θ6 h6 K'/\aO G θ6 K' acc6 us'/\Fr G θ6 K' ρ6 τ'/\aC G F θ6 K' ((jO g2 t2 m (zs.drop (i2+1)) ρ6 h6).bind λvs h7=>(eR n ρ g t it2 g2 t2 m (xs.drop (i+1)) (acc6.length+vs.length) h7).bind λws h8=>mk (acc6++(vs++ws)) h8) (KV G Q),λτ' us' K' q=>⟨zs.length - (i2+1),by omega,rfl,q⟩,λx2 K2 y2=>?_⟩;obtain ⟨e7,w7,r7⟩:=l2 x2 K2 y2;have p7:=p6.later e7;unfold jO at p7;simp only [R.bind_assoc] at p7;refine ⟨θ6,h6,_,zs[i2],w7,fr6.ev e7,r7,(aC.cK p7).mono λρ8 θ8 h8 K8 _ _ ⟨e8,w8,p8⟩ τ8 fr8=>⟨θ8,h8,ρ8,w8,fr8,(aC.cK p8).mono λc2 θ9 h9 K9 _ _ ⟨e9,w9,p9⟩=>?_⟩⟩;have ev9:=(ev6.trans e7).trans (e8.trans e9);have ra9:=aO.ev (e7.trans (e8.trans e9)) ra6
     cases c2 with
     | false=>exact ⟨hlt2,θ9,h9,acc6,ρ8,by omega,ev9,w9,ra9,fr8.ev e9,p9⟩
     | true=>
      simp only [QB,R.bind_assoc] at p9;refine ⟨θ9,h9,ρ8,w9,fr8.ev e9,(aC.cK p9).mono λy3 θ10 h10 K10 _ _ ⟨e10,w10,p10⟩ v10 r10=>⟨hlt2,θ10,h10,acc6++[y3],ρ8,by simp;omega,ev9.trans e10,w10,?_,(fr8.ev e9).ev e10,?_⟩⟩
      ·exact eK (aO.ev e10 ra9) (.cons r10 .nil)
      ·simp only [R.bind_assoc,R.ak] at p10;have e11:∀ vs:List D,(acc6++[y3]).length+vs.length=acc6.length+(y3::vs).length:=λvs=>by simp;omega
       simp only [e11];simpa using p10
    ·have hx:i2=zs.length:=by omega
     subst hx;rw [Q1 (PY _)] at p6;simp only [jO,R.ak,Rb,QJ,Nat.add_zero] at p6;exact .inl ⟨k2,hlt,θ6,h6,acc6,by omega,ev4.trans (e5.trans ev6),w6,ra6,p6⟩
   ·exact p5.elim
 ·have hx:i=xs.length:=by omega
  subst hx;rw [Q1 (PY _)] at p;simp only [eR,R.ak,TN] at p;exact .inl ⟨j2,hly,hmk acc ys θ' h' H hacc w ra p⟩
end
section
variable {X:Cx} {E:XK} {it it2:MA} {g g2:MG} {t t2:MT} {m:ME} {own:Uu} {scope:Scope} {elt tg e tg2 e2:Expr} {ifs ifs2:Uv} {pos:Pos} {i:Nat} {x:Str}
theorem Ew {G:Gx} {n:Nat} {mk:List D->Hm->R D} {σ:St} {H:Hp} {Q:VK} (h:lE G E (af mk (sy n it g t it2 g2 t2 m)) σ H Q)
  (hmk:∀ ys vs θ h H,ys.length<=sizeLine->W G θ h H->aO G θ H ys vs->aC G (m9 G E) θ H (mk ys h) (KV G Q)->∀ p,H p=none->Q (.ref p) (upd H p (.lst vs))) :
  zK n (lI G E it) (lG G cY g) (lT G cY t) (lI G cY it2) (lG G cY g2) (lT G cY t2) (lE G cY m) σ H Q:=by
 obtain ⟨θ,h,ρ,w,fr,p⟩:=h;simp only [af,sy,R.bind_assoc] at p;refine ⟨θ,h,ρ,w,fr,(aC.bind p).mono λxs θ1 h1 H1 _ _ ⟨ev,w1,p1⟩ J hJ=>?_⟩;split at p1
 ·exact zL hJ w1 (fr.ev ev) p1 hmk
 ·exact p1.elim
theorem Ex {G:Gx} {n:Nat} {mk:List D->Hm->R D} {C:Ends} {σ:St} {H:Hp} (h:lS G E (bF i (af mk (sy n it g t it2 g2 t2 m))) C σ H)
  (hmk:∀ Q ys vs θ h H,ys.length<=sizeLine->W G θ h H->aO G θ H ys vs->aC G (m9 G E) θ H (mk ys h) (KV G Q)->∀ p,H p=none->Q (.ref p) (upd H p (.lst vs))) :
  BW (zK n (lI G E it) (lG G cY g) (lT G cY t) (lI G cY it2) (lG G cY g2) (lT G cY t2) (lE G cY m)) (L2.av i) C σ H:=by
 obtain ⟨θ,h,ρ,w,fr,p⟩:=h;refine Ew (Q:=λx H1=>L2.av i x σ H1 C.nx) ⟨θ,h,ρ,w,fr,(aC.bind p).mono λd θ1 h1 H1 _ _ ⟨ev,w1,p1⟩ v r=>p1 θ1 H1 Ev.refl w1 _ ((fr.ev ev).set r)⟩ (hmk _)
theorem Ey (own:Uu) {pos' spos:Pos} (hN:X.N.Nodup) (hxi:X.N[i]?=some x) (hx:X.env.scope.names.lookup x=some .local) (CS:eG X.env.scope X.N own scope=true) (hc:X.calm=true) (hi:DI X E it tg e) (hg:∀ C s2 H2 fp pins,DG (au X own scope C s2 H2 fp pins) cY g tg)
  (ht:∀ C s2 H2 fp pins,GJ (au X own scope C s2 H2 fp pins) cY t ifs) (hi2:∀ C s2 H2 fp pins,DI (au X own scope C s2 H2 fp pins) cY it2 tg2 e2) (hg2:∀ C s2 H2 fp pins,DG (au X own scope C s2 H2 fp pins) cY g2 tg2)
  (ht2:∀ C s2 H2 fp pins,GJ (au X own scope C s2 H2 fp pins) cY t2 ifs2) (he:∀ C s2 H2 fp pins,DE (au X own scope C s2 H2 fp pins) cY m elt) (hs:∀ x,foldedSetIterable e X.env x=pure x:=by intro _;rfl) (hs2:∀ (env:Env) x,foldedSetIterable e2 env x=pure x:=by intro _ _;rfl)
  (hsw:swapsWith (.ListComp elt [⟨tg,e,ifs,0⟩,⟨tg2,e2,ifs2,0⟩] scope pos) (some (.Name x pos')) spos.line X.env=pure true:=by rfl):DS X E (bF i (wJ own.length it g t it2 g2 t2 m)) (.Assign [.Name x pos'] (.ListComp elt [⟨tg,e,ifs,0⟩,⟨tg2,e2,ifs2,0⟩] scope pos) spos):=by
 simp only [bj,jt,mF,ka,pq] at *;exact PS.imp (Eu (g:=lG X.G cY g) (tc:=lT X.G cY t) (wi2:=lI X.G cY it2) (g2:=lG X.G cY g2) (tc2:=lT X.G cY t2) (te:=lE X.G cY m) own hN hxi hx CS hc hi hg ht he hi2 hg2 ht2 hs hs2 hsw) λC σ H q=>Ex q λQ ys vs θ h H _=>ng ys vs θ h H
end
def Ez:PyData->Value->Bool
 | .none,.none=>true
 | .bool b,.bool c=>b == c
 | .int i,.int j _=>i == j
 | .str x,.str y _=>x == y
 | _,_=>false
def pC:Uq->Us->Bool
 | [],[]=>true
 | d::ds,v::vs=>Ez d v && pC ds vs
 | _,_=>false
def N5 (K:Ut) (a:Addr) (xs:Uq):Bool:=match K.lookup a with
 | some o=>(match o.cls,o.data with
  | .type "tuple",.seq its _=>pC xs its.toList && decide (its.size<=sizeLine)
  | _,_=>false) && cD xs
 | Option.none=>false
theorem EA {d:PyData} {v:Value} (h:Ez d v=true):RelV (Ie d) v/\kH d=true:=by
 unfold Ez at h;split at h
 ·exact ⟨rfl,rfl⟩
 ·have:=eq_of_beq h;subst this;exact ⟨rfl,rfl⟩
 ·have:=eq_of_beq h;subst this;exact ⟨⟨_,rfl⟩,rfl⟩
 ·have:=eq_of_beq h;subst this;exact ⟨⟨_,rfl⟩,rfl⟩
 ·cases h
theorem u9:∀ {ds:Uq} {vs:Us},pC ds vs=true->Vals (ds.map Ie) vs/\∀ x∈ds,kH x=true
 | [],[],_=>⟨.nil,by simp⟩
 | [],_::_,h=>by simp [pC] at h
 | _::_,[],h=>by simp [pC] at h
 | d::ds,v::vs,h=>by
  simp only [pC,PV] at h;obtain ⟨h1,h2⟩:=EA h.1;obtain ⟨k1,k2⟩:=u9 h.2;refine ⟨.cons h1 k1,λx m=>?_⟩;rcases PZ.mp m with rfl | m
  ·exact h2
  ·exact k2 x m
theorem Kl {K:Ut} {a:Addr} {xs:Uq} (h:N5 K a xs=true):DX K a xs:=by
 unfold N5 at h;split at h
 ·rename_i o ho;simp only [PV] at h;obtain ⟨h,hs⟩:=h;split at h
  ·rename_i its n hc hd;simp only [PV,Qb] at h;obtain ⟨k1,k2⟩:=u9 h.1;exact ⟨⟨o,its,n,ho,hc,hd,h.2,k1⟩,λx m=>by have:=k2 x m;cases x<;>simp_all [kH],hs⟩
  ·cases h
 ·cases h
end Ml
namespace Ml
open PySem
def fq:Uq->Uq
 | []=>[]
 | x::xs=>if xs.any (PyData.eqv x) then fq xs else x::fq xs
def setOk (ds:Uq):Bool:=(ds.all fS || ds.all fT) && aY ds && decide (PyData.depthAll ds<=8) && decide (ds.length<=120)
def eL:Fn:=λxs h=>match xs with
 | [x]=>match u7 x h with
  | some ds=>if setOk ds && fg (fq ds) then .ok (.dat (.list (cQ ltB (fq ds)))) h else .bad
  | Option.none=>.bad
 | _=>.bad
def C0 (ds es:Uq):Uq:=fq (ds++es)
theorem va:∀ {ds:Uq},aY ds=true<->∀ d∈ds,aw d=true
 | []=>by simp [aY]
 | d::ds=>by simp [aY,va (ds:=ds)]
theorem Bk {ds:Uq} {x:PyData} (hd:∀ d∈ds,aw d=true) (hx:aw x=true):ds.any (PyData.eqv x)=true<->x∈ds:=by
 rw [Tu];constructor
 ·rintro ⟨y,hy,e⟩;rw [(kI (aV hx) (aV (hd y hy))).mp e];exact hy
 ·exact λh=>⟨x,h,aU (aV hx)⟩
theorem jw:∀ {ds:Uq},(∀ d∈ds,aw d=true)->∀ d,d∈fq ds<->d∈ds
 | [],_,d=>by simp [fq]
 | x::xs,h,d=>by
  have hx:=h x (Qe ..);have hxs:∀ d∈xs,aw d=true:=λd m=>h d (P5 _ m);have ih:=jw hxs d;unfold fq;split
  ·rename_i z;rw [Bk hxs hx] at z;rw [ih,PZ];constructor
   ·exact .inr
   ·rintro (rfl | q)
    ·exact z
    ·exact q
  ·rw [PZ,ih,PZ]
theorem iG:∀ {ds:Uq},(∀ d∈ds,aw d=true)->(fq ds).Nodup
 | [],_=>by simp [fq]
 | x::xs,h=>by
  have hx:=h x (Qe ..);have hxs:∀ d∈xs,aw d=true:=λd m=>h d (P5 _ m);unfold fq;split
  ·exact iG hxs
  ·rename_i z;refine Rv.mpr ⟨λq=>z ?_,iG hxs⟩;rw [Bk hxs hx];exact (jw hxs x).mp q
end Ml
namespace L2
open PySem PySem.Spec PyProof.Rows
section
variable {X:Cx} {pos:Pos}
def Ma (i j l:Nat) (ta:TA):TS:=λD σ H=>ta σ H λvs H1=>∃ v w z,vs=[v,w,z]/\D.nx (((σ.set i (some v)).set j (some w)).set l (some z)) H1
theorem GZ {i j l:Nat} {x y z:Str} {a b c:Expr} {ta:TA} {px py pz pt:Pos} {kt k2 pt2} (hc:X.calm=true) (hN:X.N.Nodup) (hi:X.N[i]?=some x) (hj:X.N[j]?=some y) (hl:X.N[l]?=some z) (hij:i≠j) (hil:i≠l) (hjl:j≠l)
  (hx:X.env.scope.names.lookup x=some .local) (hy:X.env.scope.names.lookup y=some .local) (hz:X.env.scope.names.lookup z=some .local) (ha:PA X [a,b,c] ta)
  (hw:swappedStores [.Tuple [.Name x px,.Name y py,.Name z pz] kt pt] (.Tuple [a,b,c] k2 pt2) X.env=pure (some [x,y,z]))
  (hs:swapsWithSole [.Tuple [.Name x px,.Name y py,.Name z pz] kt pt] (.Tuple [a,b,c] k2 pt2) pos.line X.env=pure false:=by rfl) :
  PS X (.Assign [.Tuple [.Name x px,.Name y py,.Name z pz] kt pt] (.Tuple [a,b,c] k2 pt2) pos) (Ma i j l ta):=by
 intro pins s σ H D I h;rw [exec_Assign_arm];refine PQ (Q9 ?_);rw [hs];refine PQ (PU ?_);rw [if_neg (by decide)];refine PQ (Tuple_ (bq (ha _ pins s σ H _ I h) λus s1 ⟨vs,H1,I1,r1,q1⟩=>?_));obtain ⟨v,w,t,e1,q1⟩:=q1;subst e1
 obtain ⟨u1,u2,u3,rfl,rv,rw',rt⟩:∃ u1 u2 u3,us=[u1,u2,u3]/\RelV v u1/\RelV w u2/\RelV t u3:=by
  cases r1 with
  | cons p q=>
   cases q with
   | cons p' q'=>
    cases q' with
    | cons p2 q2=>cases q2;exact ⟨_,_,_,rfl,p,p',p2⟩
 refine QD ?_ (by show 3<=sizeLine;decide);have I2:Inv X pins σ H1 {s1 with heap:=s1.heap.push {cls:=.type "tuple",data:=.seq [u1,u2,u3].toArray}}:=I1.kept (t':=s1.toks) λb o e=>PR _ e;rw [hw];refine PQ (PU ?_);show wpAny (model X.prog X.w) X.A (do rule "assign.swapped-stores";let items <- unpackItems (.ref s1.heap.objs.size) 3 none;assignInOrder [λv=>bindName X.env z v,λv=>bindName X.env y v,λv=>bindName X.env x v] items.reverse;pure Flow.next) _ _ _;refine PQ (RH (PQ (unpackItems_tuple (items:=#[u1,u2,u3]) (I.ok.hd hc) (IsTup.new s1.heap _) λh' hx'=>?_)));have I3:=I2.kept (h':=h') (t':=s1.toks) λb o e=>hx' b o (Qh (P1 e)) e;show wpAny _ _ (assignInOrder [λv=>bindName X.env z v,λv=>bindName X.env y v,λv=>bindName X.env x v] [u3,u2,u1] >>= λ_=>pure Flow.next) _ _ _;refine PQ (SW (wpAny_bindName (jj I3 hN hl (.inl hz) rt (λs2 I4=>?_) (.inr hz))));refine SW (wpAny_bindName (jj I4 hN hj (.inl hy) rw' (λs3 I5=>?_) (.inr hy)));refine SW (wpAny_bindName (jj I5 hN hi (.inl hx) rv (λs4 I6=>assignInOrder_nil (PU ?_)) (.inr hx)));have e:((σ.set l (some t)).set j (some w)).set i (some v)=((σ.set i (some v)).set j (some w)).set l (some t):=by rw [List.set_comm _ _ hjl.symm,List.set_comm _ _ (SV hil),List.set_comm _ _ (SV hij)]
 rw [e] at I6;exact ⟨_,H1,I6,q1⟩
end
end L2
namespace Ml
open PySem PySem.Spec L2
section
variable {X:Cx} {E:XK} {ma:MA} {pos:Pos} {x:Str}
theorem Mb {a b c:Expr} {y z:Str} {px py pz pt:Pos} {kt k2 pt2} (i j l:Nat) (hN:X.N.Nodup) (ha:DA X E ma [a,b,c]) (hc:X.calm=true:=by rfl) (hi:X.N[i]?=some x:=by rfl) (hj:X.N[j]?=some y:=by rfl) (hl:X.N[l]?=some z:=by rfl) (hij:i≠j:=by decide) (hil:i≠l:=by decide) (hjl:j≠l:=by decide)
  (hx:X.env.scope.names.lookup x=some .local:=by rfl) (hy:X.env.scope.names.lookup y=some .local:=by rfl) (hz:X.env.scope.names.lookup z=some .local:=by rfl)
  (hw:swappedStores [.Tuple [.Name x px,.Name y py,.Name z pz] kt pt] (.Tuple [a,b,c] k2 pt2) X.env=pure (some [x,y,z]):=by kernel_rfl)
  (hs:swapsWithSole [.Tuple [.Name x px,.Name y py,.Name z pz] kt pt] (.Tuple [a,b,c] k2 pt2) pos.line X.env=pure false:=by rfl) :
  DS X E (DM [i,j,l] ma) (.Assign [.Tuple [.Name x px,.Name y py,.Name z pz] kt pt] (.Tuple [a,b,c] k2 pt2) pos):=by
 rw [j9] at ha;rw [jt]
 exact PS.imp (GZ hc hN hi hj hl hij hil hjl hx hy hz ha hw hs) λC σ H ⟨θ,h,ρ,w,fr,p⟩=>⟨θ,h,ρ,w,fr,(aC.bind p).mono λds θ1 h1 H1 _ _ ⟨ev,w1,p1⟩ vs r=>by
   cases r with
   | nil=>exact p1.elim
   | cons r1 rr=>
    cases rr with
    | nil=>exact p1.elim
    | cons r2 rr=>
     cases rr with
     | nil=>exact p1.elim
     | cons r3 rr=>
      cases rr with
      | nil=>exact ⟨_,_,_,rfl,p1 θ1 H1 Ev.refl w1 _ ((((fr.ev ev).set r1).set r2).set r3)⟩
      | cons=>exact p1.elim⟩
end
def EB (i:Nat) (m:ME):MS:=λρ h=>match ρ[i]? with
 | some (some (.dat (.int a)))=>(m ρ h).bind λy h1=>match y with
  | .dat (.int b)=>.ok (.nx (ρ.set i (some (.int (a+b))))) h1
  | _=>.bad
 | _=>.bad
section
variable {X:Cx} {E:XK} {m:ME} {e:Expr} {x:Str} {i:Nat} {pos pos':Pos}
theorem Km (hN:X.N.Nodup) (hi:X.N[i]?=some x) (hx:Loc X.env.scope x) (he:DE X E m e) (hf:X.fn x=true\/X.env.scope.names.lookup x=some .local:=by first | exact .inl rfl | exact .inr rfl | assumption) :
  DS X E (EB i m) (.AugAssign (.Name x pos') .Add e pos):=by
 simp only [bj,jt] at *
 exact PS.imp (IZ hN hi hx he I0 hf) λC σ H ⟨θ,h,ρ,w,fr,p⟩=>by
  unfold EB at p
  cases e1:ρ[i]? with
  | none=>rw [e1] at p;exact p.elim
  | some o=>
   cases o with
   | none=>rw [e1] at p;exact p.elim
   | some d=>
    rw [e1] at p;obtain ⟨v,h1,h2⟩:=fr.2 i d e1
    cases d with
    | dat q=>
     cases q with
     | int a=>
      have hv:v=.int a:=bJ h2;refine ⟨v,h1,θ,h,ρ,w,fr,(aC.bind p).mono λy θ1 h1' H1 _ _ ⟨ev,w1,p1⟩ u r=>?_⟩
      cases y with
      | dat q2=>
       cases q2 with
       | int b=>have hu:u=.int b:=bJ r;refine ⟨a,b,hv,hu,p1 θ1 H1 Ev.refl w1 _ ((fr.ev ev).set (cB _))⟩
       | _=>exact p1.elim
      | _=>exact p1.elim
     | _=>exact p.elim
    | _=>exact p.elim
theorem N6 (i:Nat) (hN:X.N.Nodup) (he:DE X E m e) (hi:X.N[i]?=some x:=by rfl) (hx:Loc X.env.scope x:=by first | exact Or.inl rfl | exact Or.inr rfl) (hf:X.fn x=true\/X.env.scope.names.lookup x=some .local:=by first | exact Or.inl rfl | exact Or.inr rfl) :
  DS X E (EB i m) (.AugAssign (.Name x pos') .Add e pos):=Km hN hi hx he hf
end
end Ml
namespace L2
open PySem PySem.Spec PyProof.Rows
noncomputable def G0 (K:Ut) (mg:Uo) (a:Addr) (fs:List (Str×Str)):Prop:=
 ∃ (o:Obj) (es:Ux) (ep:Nat),K.lookup a=some o/\o.ExactDict/\o.data=.dict es ep/\(es.all λe=>isExactStrKey e.key)=true /\
  ∀ k n,fs.lookup k=some n->∃ f,mg n=some (.ref f)/\findBy (λk v=>v.isStr k) es k=some (.ref f)
theorem G1 {prog:UA} {w:World} {A:UC} {E:Uj} {s:UD} {a:Addr} {o:Obj} {es:Ux} {ep:Nat} {k:Str} {tk:Tok} {v:Value} {Q:Uj} (ho:s.heap.get? a=some o) (x:o.ExactDict) (hd:o.data=.dict es ep)
  (hall:(es.all λe=>isExactStrKey e.key)=true) (hf:findBy (λk v=>v.isStr k) es k=some v) (q:Q v {s with toks:=s.toks+1}):wpAny (model prog w) A (getItem (.ref a) (.str k tk)) Q E s:=by
 have ty:s.TypeIs (.ref a) "dict" := ⟨o,ho,x.1⟩;unfold getItem
 try with_reducible refine QG ?_
 refine PQ (wpAny_sequenceKey ty (by decide) ?_)
 refine PQ (QC (name:=Str.ofString "__getitem__") ty slot_dict_getitem
  (Qy slot_dict_getitem ty entry_dict_getitem ?_ (args_dict_getitem _ _)))
 show wpAny _ _ (dictGet a (.str k tk) >>= _) _ _ s;refine PQ ?_;unfold dictGet
 try with_reducible refine QG ?_
 refine PQ (wpAny_pyHash_str (PQ (PyProof.Rows.KTD.kt_dictFind_strs (s:={s with toks:=s.toks+1}) ho hd hall ?_)));rw [findBy_of_findIdx?] at hf
 cases hi:es.findIdx? λe=>e.key.isStr k with
 | none=>rw [hi] at hf;cases hf
 | some i=>rw [hi] at hf;refine PQ (wpAny_dictEntries (s:={s with toks:=s.toks+1}) ho hd (PU ?_));have hf':Option.map (λx:DictEntry=>x.val) es[i]?=some v:=hf;rw [hf'];exact PU ⟨v,rfl,PU q⟩
section
variable {X:Cx} {o i:Expr} {pos:Pos} {td ty:TE}
def Mc (fs:List (Str×Str)) (a:Addr) (mg:Uo) (td ty:TE):TE:=λσ H Q=>td σ H λx H1=>ty σ H1 λy H2=>∃ k n,x=.ref a/\y=.str k/\fs.lookup k=some n/\∀ f,mg n=some (.ref f)->Q (.ref f) H2
theorem Kn {a:Addr} {fs:List (Str×Str)} (kf:G0 X.K X.mg a fs) (ho:PE X o td) (hi:PE X i ty) (hs:Jz i):PE X (.Subscript o i pos) (Mc fs a X.mg td ty):=by intro pins s σ H Q I h;refine Gw PySem.F.slot_dict_getitem.lookup hs (bq (ho pins s σ H _ I h) λu s1 ⟨x,H1,I1,rx,q1⟩=>bq (hi pins s1 σ H1 _ I1 q1) λiv s2 ⟨y,H2,I2,ry,k,n,ex,ey,lk,q2⟩=>?_);subst ex;subst ey;obtain rfl:u=Value.ref a:=rx;obtain ⟨tk,rfl⟩:∃ t,iv=Value.str k t:=ry;obtain ⟨ob,es,ep,h1,h2,h3,h4,h5⟩:=kf;obtain ⟨f,hf,hk⟩:=h5 k n lk;have g:s2.heap.get? a=some ob:=I2.tT a ob h1;exact ⟨⟨ob,g,h2.1⟩,G1 g h2 h3 h4 hk ⟨.ref f,H2,I2.tok _,rfl,q2 f hf⟩⟩
end
def Ij (K:Ut) (es:Ux) (p:Str×Str):Bool:=match findBy (λk v=>v.isStr k) es p.1,PySem.W.nsIn K mainGlobals p.2 with
 | some (.ref f),some (some (.ref g))=>f == g
 | _,_=>false
def N7 (K:Ut) (a:Addr) (fs:List (Str×Str)):Bool:=match K.lookup a with
 | some ⟨.type "dict",none,.dict es _,sl⟩=>sl.isEmpty && (es.all λe=>isExactStrKey e.key) && fs.all (Ij K es)
 | _=>false
theorem lookup_mem {fs:List (Str×Str)} {k n:Str} (h:fs.lookup k=some n):(k,n)∈fs:=by
 induction fs with
 | nil=>cases h
 | cons p ps ih=>
  obtain ⟨x,y⟩:=p;rw [RE] at h
  cases q:k == x with
  | true=>rw [q] at h;cases h;rw [eq_of_beq q];exact Qe ..
  | false=>rw [q] at h;exact P5 _ (ih h)
theorem Ko {K:Ut} {mg:Uo} {a:Addr} {fs:List (Str×Str)} (G:∀ n v,PySem.W.nsIn K mainGlobals n=some (some v)->mg n=some v) (h:N7 K a fs=true):G0 K mg a fs:=by
 unfold N7 at h;split at h
 ·rename_i es ep sl e;simp only [PV] at h;obtain ⟨⟨h1,h2⟩,h3⟩:=h;refine ⟨_,es,ep,e,⟨rfl,rfl,?_⟩,rfl,h2,λk n hl=>?_⟩
  ·exact Array.isEmpty_iff.mp h1
  ·have:=Qc.mp h3 _ (lookup_mem hl);unfold Ij at this;split at this
   ·rename_i f g q1 q2;have:=eq_of_beq this;subst this;exact ⟨_,G _ _ q2,q1⟩
   ·cases this
 ·cases h
end L2
namespace Ml
open PySem PySem.Spec L2
def sA (fs:List (Str×Str)) (m:ME):ME:=λρ h=>(m ρ h).bind λx h1=>match x with
 | .dat (.str k)=>match fs.lookup k with
  | some n=>.ok (.fn n) h1
  | Option.none=>.bad
 | _=>.bad
section
variable {X:Cx} {E:XK} {m:ME} {e:Expr} {x:Str} {pos p:Pos}
theorem Bl {fs:List (Str×Str)} (hm:∃ a,X.mg x=some (.ref a)/\G0 X.K X.mg a fs) (he:DE X E m e) (hs:Jz e) (hg:Gl X x:=by rfl) (hd:(x == ("__debug__" : Str))=false:=by decide):DE X E (sA fs m) (.Subscript (.Name x p) e pos):=by
 simp only [bj] at *;obtain ⟨a,hm,kf⟩:=hm
 exact PE.imp (Kn kf (vL (v:=.ref a) hg hm rfl hd) he hs) λσ H Q ⟨θ,h,ρ,w,fr,q⟩=>by
  refine ⟨θ,h,ρ,w,fr,(aC.bind q).mono λd θ1 h1 H1 _ _ ⟨ev,w1,q1⟩ v r=>?_⟩
  cases d with
  | dat z=>
   cases z with
   | str k=>
    cases el:fs.lookup k with
    | none=>simp only [el] at q1;exact q1.elim
    | some n=>simp only [el] at q1;exact ⟨k,n,rfl,r.1,el,λf hf=>q1 θ1 H1 Ev.refl w1 _ ⟨f,hf,rfl⟩⟩
   | _=>exact q1.elim
  | _=>exact q1.elim
end
def jP (i:Nat) (fs:List (Str×Fn)) (ma:MA):ME:=λρ h=>match ρ[i]? with
 | some (some (.fn n))=>match fs.lookup n with
  | some F=>af F ma ρ h
  | Option.none=>.bad
 | _=>.bad
inductive nq (P:UA) (w:World) (K:Ut) (mg:Uo) (base:Heap) (k:Nat):List (Str×Fn)->Prop
 | nil:nq P w K mg base k []
 | cons {n:Str} {ps:Uu} {F:Fn} {fs:List (Str×Fn)}:bh P w K mg base n ps k F->nq P w K mg base k fs->nq P w K mg base k ((n,F)::fs)
theorem nq.get {P:UA} {w:World} {K:Ut} {mg:Uo} {base:Heap} {k:Nat}:∀ {fs:List (Str×Fn)} {n:Str} {F:Fn},nq P w K mg base k fs->fs.lookup n=some F->∃ ps,bh P w K mg base n ps k F
 | _,n,F,.cons (n:=m) h t,e=>by
  rw [RE] at e
  cases q:n == m with
  | true=>rw [q] at e;cases e;rw [eq_of_beq q];exact ⟨_,h⟩
  | false=>rw [q] at e;exact t.get e
section
variable {X:Cx} {E:XK} {x:Str} {k i:Nat} {fs:List (Str×Fn)} {e:Expr} {es:Uv} {ma:MA} {p pos:Pos}
theorem EC (hs:nq X.prog X.w X.K X.mg X.base k fs) (hx:Passes (tU X.prog X.w) X E) (hr:cg k X.A) (ha:DA X E ma (e::es)) (hN:X.N[i]?=some x) (hv:FZ X.env.scope x) (hdb:(x == ("__debug__" : Str))=false:=by decide) (hcd:(x == ("__classdict__" : Str))=false:=by decide)
  (he:starEach (e::es) X.env=(false,eval e X.env)::starEach es X.env:=by rfl) (hpl:(backTo pos (starEach es X.env)).any (·.1)=false:=by rfl):DE X E (jP i fs ma) (.Call (.Name x p) (e::es) [] pos):=by
 simp only [bj,j9] at *;intro pins s σ H Q I ⟨θ,h,ρ,w,fr,q⟩;unfold jP at q
 cases e1:ρ[i]? with
 | none=>rw [e1] at q;exact q.elim
 | some o=>
  cases o with
  | none=>rw [e1] at q;exact q.elim
  | some d=>
   rw [e1] at q;obtain ⟨v,g1,g2⟩:=fr.2 i d e1
   cases d with
   | fn n=>
    cases el:fs.lookup n with
    | none=>simp only [el] at q;exact q.elim
    | some F=>
     simp only [el] at q;obtain ⟨f,hf,rfl⟩:=g2;obtain ⟨ps,F'⟩:=hs.get el;obtain ⟨f',fd,h1,h2,h3,h4⟩:=F'.has.ex;have ef:f'=f:=by have z:X.mg n=some (.ref f):=hf;rw [h1] at z;cases z;rfl
     subst ef;obtain ⟨m,hn,hl⟩:=I.loc;obtain ⟨u,r,l⟩:=hl i x _ hN g1 hv;obtain rfl:u=Value.ref f':=r;have fin:wpAny (model X.prog X.w) X.A (callWith pos (.ref f') [] (backTo pos (starEach (e::es) X.env)) (backToKw pos (keywordEach [] X.env))) (EP X pins σ Q) X.xe s:=PySem.W.callWith_K (h₀:=X.base) I.ok.mod.kin h2 (bq (ha pos pins s σ H _ I ⟨θ,h,ρ,w,fr,(aC.bind q).mono λxs θ1 h1 H1 _ _ ⟨ev,w1,p1⟩ vs r=>show (FR X.G F) (vs++[]) H1 Q E from ⟨θ1,h1,xs,w1,by simpa using r,p1⟩⟩) λus s1 ⟨vs,H1,I1,r,q⟩=>⟨I1.tT,zm h4 hr h3 .nil hx I1 r q⟩) he hpl;rcases l with ⟨hk,hm⟩ | ⟨hk,c,hc,hcell⟩
     ·exact QZ (T7 (TC I.ok.kind hk hn hm fin) hdb)
     ·rcases hk with hk | hk
      ·exact QZ (T7 (TM I.ok.kind hk hc hcell fin) hdb)
      ·exact QZ (T7 (wpAny_loadName_free I.ok.kind hk hc hcell fin hcd) hdb)
   | _=>exact q.elim
theorem ED (i:Nat) (hs:nq X.prog X.w X.K X.mg X.base k fs) (hx:Passes (tU X.prog X.w) X E) (hr:cg k X.A) (ha:DA X E ma (e::es)) (hN:X.N[i]?=some x:=by rfl) (hv:FZ X.env.scope x:=by first | exact Or.inl rfl | exact Or.inr (Or.inl rfl) | exact Or.inr (Or.inr rfl)) (hdb:(x == ("__debug__" : Str))=false:=by decide) (hcd:(x == ("__classdict__" : Str))=false:=by decide)
  (he:starEach (e::es) X.env=(false,eval e X.env)::starEach es X.env:=by rfl) (hpl:(backTo pos (starEach es X.env)).any (·.1)=false:=by rfl):DE X E (jP i fs ma) (.Call (.Name x p) (e::es) [] pos):=EC hs hx hr ha hN hv hdb hcd he hpl
end
end Ml
namespace L2
open PySem PySem.Spec PyProof.Rows
theorem yd {prog:UA} {w:World} {A:UC} {R:Result->UD->Prop} {s:UD} {kx vx target iter:Expr} {ifs:Uv} {scope:Scope} {pos:Pos} {it:Value} {D:Addr} {env:Env} (I:Nat->UD->Prop)
  (turn:∀ n s,I n s->wpAny (model prog w) A (pyNext it) (λr s1=>match r with
   | none=>R (.ok .next) s1
   | some v=>wpAny (model prog w) A (letOwnedTupleGo target it v) (λ_ s2=>wpAny (model prog w) A (assign target env v) (λ_ s3=>
     wpAny (model prog w) A (forIn ifs true λc r=>if r=true then do let ok <- isTrue c env (eval c env);pure (ForInStep.yield ok) else pure (ForInStep.yield r)) (λok s4=>
      if ok=true then wpAny (model prog w) A (eval kx env) (λx s5=>wpAny (model prog w) A (eval vx env) (λy s6=>
       wpAny (model prog w) A (dictSet D x y) (λ_ s7=>∃ m,m < n/\I m s7) (λ_ _=>False) s6) (λ_ _=>False) s5) (λ_ _=>False) s4
      else ∃ m,m < n/\I m s4) (λ_ _=>False) s3) (λ_ _=>False) s2) (λ_ _=>False) s1) (λ_ _=>False) s)
  (n:Nat) (h:I n s) :
  codeAny (model prog w) A (.compLoop (.DictComp kx vx [⟨target,iter,ifs,0⟩] scope pos) 0 it (.ref D) env) R s:=by
 refine codeAny_loop rfl I (λn s hI=>?_) n h;show wpAny _ A ((compTurn (.DictComp kx vx [⟨target,iter,ifs,0⟩] scope pos) 0 it (.ref D) env).onRaise (λx=>do noteFrame x env;theTreesLotGoes x)) _ _ s;refine wpAny_noted ?_;rw [compTurn_dict];refine Q7 (E:=λ_ _=>False) (E':=_) (Q':=_) ?_ (λ_ _ q=>q) λ_ _ z=>z.elim;refine PQ (Q9 (PQ (bq (turn n s hI) (λr s1 h1=>?_))))
 cases r with
 | none=>exact PU h1
 | some v=>
  refine PQ (bq h1 λ_ s2 h2=>?_);refine PQ (bq h2 λ_ s3 h3=>PQ (bq h3 λok s4 h4=>?_))
  cases ok with
  | false=>exact PU ⟨rfl,h4⟩
  | true=>exact PQ (PQ (bq h4 λx s5 h5=>PQ (QG (bq h5 λy s6 h6=>PQ (Q9 (QG (bq h6 λ_ s7 h7=>PU ⟨rfl,h7⟩)))))))
noncomputable def Md {τ:Type} (P:UA) (w:World) (A:UC) (ok:τ->Obj->Prop) (t:τ) (y z:V) (H:Hp) (N:τ->Hp->Prop):Prop:=
 ∀ (Y:Cx) (pins:Uk) (σ:St) (s:UD) (D:Addr) (o:Obj) (u r:Value) (Q:Unit->UD->Prop) (E:Uj),Y.prog=P->Y.w=w->Inv Y pins σ H s->s.heap.get? D=some o->ok t o->RelV y u->RelV z r ->
  (∀ (h':Heap) (o':Obj) (tk:Nat) (t':τ),N t' H->h'.get? D=some o'->ok t' o'->Heap.SameBut D s.heap h'->Q () {s with heap:=h',toks:=tk})->wpAny (model P w) A (dictSet D u r) Q E s
noncomputable def zM {τ:Type} (P:UA) (w:World) (A:UC) (ok:τ->Obj->Prop) (t0:τ) (n:Nat) (J:It) (g:TG) (tc:TT) (tk tv:TE) (σ:St) (H:Hp) (Q:VK):Prop:=
 ∃ W:Nat->Nat->τ->Hp->Prop,(∃ m,W 0 m t0 H)/\∀ i m t H,W i m t H ->
  (J.stop i H/\∀ p o,H p=none->ok t o->∃ ho,(∀ H' h,h.get? p=some o->p≠sysModules->cw P w H' h p ho)/\Q (.ref p) (upd H p ho)) \/
  (J.go i H/\∃ N:τ->Hp->Prop,(∀ t' H',N t' H'->∃ m',m' < m/\W (i+1) m' t' H')/\∀ x H',J.yld i H x H'->g x (List.replicate n none++σ) H' λσ2 H2=>tc σ2 H2 λb H3=>
   if b=true then tk σ2 H3 λy H4=>tv σ2 H4 λz H5=>Md P w A ok t y z H5 N else N t H3)
theorem ye {X:Cx} {τ:Type} {ok:τ->Obj->Prop} {t0:τ} {own:Uu} {scope:Scope} {pins:Uk} {σ:St} {H2:Hp} {s2:UD} {fp:Ur} {it:Addr} {tn:Nat->Heap->Prop} {J:It} {kx vx tg iter:Expr} {ifs:Uv} {pos:Pos} {g:TG} {tc:TT} {tk tv:TE} {Q:VK}
  {RR:Value->Addr->Result->UD->Prop} {E:Uj} (I:Inv X pins σ H2 s2) (CS:cy X.env.scope X.N own scope) (hc:X.calm=true) (T:Turn X.prog X.w X.K tg J fp it tn) (st:tn 0 s2.heap) (hf:∀ b∈fp,gN X pins H2 b)
  (hg:∀ C s2 H2 fp pins,PG (au X own scope C s2 H2 fp pins) tg g) (ht:∀ C s2 H2 fp pins,Ca (au X own scope C s2 H2 fp pins) ifs tc) (hk:∀ C s2 H2 fp pins,PE (au X own scope C s2 H2 fp pins) kx tk) (hv:∀ C s2 H2 fp pins,PE (au X own scope C s2 H2 fp pins) vx tv)
  (ok0:ok t0 {cls:=.type "dict",dict:=none,data:=.dict #[]}) (okd:∀ t o,ok t o->∃ es ep,o.data=.dict es ep)
  (hW:zM X.prog X.w X.A ok t0 own.length J g tc tk tv σ H2 Q)
  (hR:∀ D C H' s',Inv X pins σ H' s'->gN X pins H' C->(∃ m,s'.heap.Ns C m)->Q (.ref D) H'->Kept X fp H2 H' s2 s'->RR (.ref D) C (.ok .next) s') :
  wpAny (model X.prog X.w) X.A newDict (λacc s3=>wpAny (model X.prog X.w) X.A (newFunctionEnv scope X.env.globals (dX X.env.cells scope.names []) [] X.env.qual none .none (some X.env)) (λcenv s4=>
   codeAny (model X.prog X.w) X.A (.compStart (.DictComp kx vx [⟨tg,iter,ifs,0⟩] scope pos) 0 (.ref it) acc {cenv with scope:=relabel scope X.env}) (RR acc cenv.locals) s4) E s3) E s2:=by
 refine QD (iY ?_);dsimp only;generalize hH:s2.heap.push {cls:=.type "dict",dict:=none,data:=.dict #[]}=h3;have hDC:h3.objs.size=s2.heap.objs.size+1:=by rw [<- hH,Qv]
 have eC:({scope:=relabel scope X.env,locals:=h3.objs.size,globals:=X.env.globals,cells:=cellsFrom (h3.objs.size+1) scope.names (dX X.env.cells scope.names []),qual:=X.env.qual,func:=none,code:=X.env.code,frame:=X.env.frame,builtins:=X.env.builtins}:Env)=iX scope h3.objs.size X.env:=rfl;rw [eC];generalize eD:s2.heap.objs.size=D at *;generalize eCC:h3.objs.size=C at *;have hl:∀ b∈fp,b < s2.heap.objs.size:=λb hb=>by obtain ⟨o,e,_⟩:=T.obj 0 _ st b hb;exact P1 e
 have hC:s2.heap.objs.size<=C:=by omega
 generalize hH4:pushCells (h3.push {cls:=.type "dict",data:=.dict #[]}) scope.names=h4;have k34:∀ b o,(h3.push {cls:=.type "dict",data:=.dict #[]}).get? b=some o->h4.get? b=some o:=λb o e=>by rw [<- hH4];exact pushCells_keeps _ _ b o e
 have k24:∀ b o,s2.heap.get? b=some o->h4.get? b=some o:=λb o e=>k34 b o (PR _ (by rw [<- hH];exact PR _ e));have nsC:h4.Ns C λ_=>none:=by have:=Heap.Ns.new h3 (.type "dict");rw [eCC] at this;exact this.keeps k34
 have accD:h4.get? D=some {cls:=.type "dict",dict:=none,data:=.dict #[]}:=k34 _ _ (PR _ (by rw [<- hH,<- eD];exact P4 _ rfl));have cellN:∀ x c,(x,c)∈cellsFrom (C+1) scope.names []->h4.IsCell c none/\C+1<=c:=λx c hm=>by have ok:=cellsFrom_ok scope.names (h3.push {cls:=.type "dict",data:=.dict #[]}) (C+1) [] ⟨λ_ _ hm=>(nomatch hm),List.Pairwise.nil⟩ (by rw [Qv];omega);rw [Qv,eCC,hH4] at ok;exact ok.empty x c hm
 have hne:H2 D=none:=by rw [<- eD];exact I.hok.fresh (PY _)
 have ok':(au X own scope C s2 H2 fp pins).Ok:=vR I CS hC hf hl
 have rebase:∀ {σ':St} {H':Hp} {ps:Uk} {s':UD},Inv (au X own scope C s2 H2 fp pins) ps σ' H' s'->Inv (au X own scope C s2 H2 fp pins) ps (List.replicate own.length none++σ) H' s':=λ{σ' H' ps s'} J'=>by
  obtain ⟨m,hn,_⟩:=J'.loc;refine ⟨J'.ok,J'.os,J'.bare,J'.base,⟨m,hn,jn I CS λc v z ⟨x,hx⟩=>?_⟩,J'.cell,J'.free,J'.freeC,J'.pin,J'.hok,?_⟩
  ·obtain ⟨o,ho,hd⟩:=z;obtain ⟨sl,e⟩:=J'.base.any ho (I.freeC x c hx) λhb=>(hf c hb).2.2.2.2.1 x c hx rfl;exact ⟨_,e,hd⟩
  ·show (List.replicate own.length none++σ).length=(own++X.N).length;rw [Qd,Qd,QW,I.len]
 have start:Inv (au X own scope C s2 H2 fp pins) [] (List.replicate own.length none++σ) H2 {s2 with heap:=h4}:=by
  have I4:Inv X pins σ H2 {s2 with heap:=h4}:=I.kept (t':=s2.toks) k24;refine ⟨ok',rfl,I.bare,Un.kept k24,⟨_,nsC,jn I CS λc v z _=>z.keeps k24⟩,λx c h=>?_,I.hok.fresh hC,λx c h=>?_,λp hp=>?_,I4.hok,?_⟩
  ·rcases bz h with ⟨a,_,_⟩ | a
   ·exact ⟨_,(cellN x c a).1⟩
   ·obtain ⟨v,z⟩:=I.cell x c (dE I CS a).2;exact ⟨v,z.keeps k24⟩
  ·rcases bz h with ⟨_,_,a⟩ | a
   ·exact I.hok.fresh (P6 hC (P6 (Rq _) a))
   ·exact I.freeC x c (dE I CS a).2
  ·have hp':p∈X.pn++pins:=by
    rcases Qg.mp hp with z | z
    ·exact z
    ·exact nomatch z
   obtain ⟨e,n,ne,nf,d⟩:=I.pin p hp';refine ⟨k24 _ _ e,n,Qh (P0 (P1 e) hC),λz=>?_,d⟩;rcases PZ.mp (I.iV _ z) with q | q
   ·exact ne q
   ·exact nf q
  ·show (List.replicate own.length none++σ).length=(own++X.N).length;rw [Qd,Qd,QW,I.len]
 obtain ⟨W,⟨m0,w0⟩,turn⟩:=hW
 have nfs:∀ b,s2.heap.objs.size<=b->b∉(au X own scope C s2 H2 fp pins).fs:=λb hb z=>by
  rcases PZ.mp (I.iV b z) with q | q
  ·rw [q] at hb;exact absurd (P0 I.lt hb) (Qk _)
  ·exact I.zc hb q
 have fpD:∀ {H':Hp},H' D=none->gN (au X own scope C s2 H2 fp pins) [] H' D:=λ{H'} hn=>by
  refine ⟨hn,Qh (by show D < C;omega),nfs D (by omega),.inr (by show s2.heap.objs.size<=D;omega),λx c h z=>?_,λp hp z=>?_⟩
  ·rcases bz h with ⟨_,_,a⟩ | a
   ·rw [z] at a;exact absurd (P0 (show D < C+1 by omega) a) (Qk _)
   ·obtain ⟨v,q⟩:=I.cell x c (dE I CS a).2;have:=q.lt;rw [z,eD] at this;exact Qk _ this
  ·have hp':p∈X.pn++pins:=by
    rcases Qg.mp hp with z | z
    ·exact z
    ·exact nomatch z
   have:=P1 (I.pin p hp').1;rw [z,eD] at this;exact Qk _ this
 have nD:D∉fp:=λz=>by have:=hl D z;rw [eD] at this;exact Qk _ this
 have stat:∀ {H':Hp} {ps:Uk},(∀ p∈ps,p.1=D)->(∀ b∈fp,H' b=none)->∀ b∈fp,gN (au X own scope C s2 H2 fp pins) ps H' b:=λ{H' ps} hps hn b hb=>by
  obtain ⟨f0,f1,f2,f3,f4,f5⟩:=hf b hb;refine ⟨hn b hb,(ok'.exf b hb).1,ok'.exfs b hb,.inl hb,(ok'.exf b hb).2,λp hp=>?_⟩;rcases Qg.mp hp with z | z
  ·exact f5 p z
  ·rw [hps p z];exact λq=>nD (q▸hb)
 let LI:Nat->UD->Prop:=λn s'=>∃ i t o H',Inv (au X own scope C s2 H2 fp pins) [] (List.replicate own.length none++σ) H' s'/\tn i s'.heap/\(∀ b∈fp,H' b=none)/\H' D=none /\
  s'.heap.get? D=some o/\ok t o/\W i n t H'
 have l0:LI m0 {s2 with heap:=h4}:=⟨0,t0,_,H2,start,T.keep _ _ _ st λb _ o e=>k24 b o e,λb hb=>(hf b hb).1,hne,accD,ok0,w0⟩
 have loop:codeAny (model X.prog X.w) X.A (.compLoop (.DictComp kx vx [⟨tg,iter,ifs,0⟩] scope pos) 0 (.ref it) (.ref D) (iX scope C X.env)) (RR (.ref D) C) {s2 with heap:=h4}:=by
  refine yd LI ?_ m0 l0;rintro n s3 ⟨i,t,oD,H3,I3,st3,fr3,d3,a3,v3,w3⟩;obtain ⟨es0,ep0,dd3⟩:=okd t oD v3;rcases turn i n t H3 w3 with ⟨stop,qn⟩ | ⟨go,NN,hNN,step⟩
  ·have I3p:=I3.pinned (fp:=[D]) (λb hb=>(Qm.mp hb)▸fpD d3) λb hb=>⟨_,(Qm.mp hb)▸a3,λv z=>(by rw [dd3] at z;cases z)⟩;refine bq (T.done (au X own scope C s2 H2 fp pins) rfl rfl rfl hc i _ s3 _ H3 _ I3p (stat (λp hp=>by have q:p∈bE [D] s3.heap:=hp;have:=(dI q).1;simpa using this) fr3) st3 stop) λr s4 ⟨hr,I4⟩=>?_;subst hr;have a4:s4.heap.get? D=_:=(I4.pin (D,_) (PX _ (PX _ (aQ (by simp) a3)))).1;have u4:Un (tS X.stack) fp H2 H3 s2.heap s4.heap:=I4.base;have hsys:D≠sysModules:=by rw [<- eD];exact SV (Qh I.big)
   obtain ⟨ho,MK,qD⟩:=qn D oD d3 v3
   have okD:kq X.prog X.w (upd H3 D ho) s4.heap:=λb o e=>by
    by_cases hb:b=D
    ·subst hb;rw [aX] at e;cases e;exact MK _ _ a4 hsys
    ·rw [ay hb] at e;exact (I4.hok b o e).qG (λ_ _ _ q=>q) (λc q=>by rw [ay (aD q d3)];exact q) λc xs q=>by rw [ay (aD q d3)];exact q
   have nDo:∀ b o,s2.heap.get? b=some o->b≠D:=λb o e=>by rw [<- eD];exact Qh (P1 e)
   have uD:Un (tS X.stack) fp H2 (upd H3 D ho) s2.heap s4.heap:=⟨u4.keep,u4.slot,λb o e n hx=>by rw [ay (nDo b o e)];exact u4.free b o e n hx,u4.there,
    λb xs e=>by rw [ay (aD e hne)];exact u4.tups b xs e,λb o xs e=>by rw [ay (aD e hne)];exact u4.frzs b o xs e,λb ps e=>by rw [ay (aD e hne)];exact u4.tbls b ps e⟩
   have kp:Kept X fp H2 (upd H3 D ho) s2 s4:=⟨I4.os,uD,okD,I4.bare⟩;have I5:Inv X pins σ (upd H3 D ho) s4:=kp.inv I hf;obtain ⟨m,hn,_⟩:=I4.loc;refine hR D C _ s4 I5 ⟨by rw [ay (show C≠D by omega)];exact I4.free,Sm (P0 I.lt hC),I.zc hC,.inr (P6 I.sz hC),λx c e z=>?_,λp hp z=>?_⟩ ⟨m,hn⟩ qD kp
   ·obtain ⟨v,q⟩:=I.cell x c e;exact absurd (P0 q.lt (by rw [z];exact hC)) (Qk _)
   ·exact absurd (P0 (P1 (I.pin p hp).1) (by rw [z];exact hC)) (Qk _)
  ·have I3p:=I3.pinned (fp:=[D]) (λb hb=>(Qm.mp hb)▸fpD d3) λb hb=>⟨_,(Qm.mp hb)▸a3,λv z=>(by rw [dd3] at z;cases z)⟩;have onlyD:∀ p∈([]++bE [D] s3.heap),p.1=D:=λp hp=>by have q:p∈bE [D] s3.heap:=hp;have:=(dI q).1;simpa using this
   refine bq (T.item (au X own scope C s2 H2 fp pins) rfl rfl rfl hc i _ s3 _ H3 _ I3p (stat onlyD fr3) st3 go) λr s4 ⟨u,hr,h4'⟩=>?_;subst hr;refine bq h4' λ_ s5 ⟨x,H5,I5,r5,y5,st5,fr5⟩=>?_;have I5p:=I5.pinned (fp:=fp) (stat onlyD fr5) (T.obj _ _ st5)
   have cont:∀ {s6:UD} {σ6:St} {H6:Hp},Inv (au X own scope C s2 H2 fp pins) (([]++bE [D] s3.heap)++bE fp s5.heap) σ6 H6 s6 ->
     Inv (au X own scope C s2 H2 fp pins) [] (List.replicate own.length none++σ) H6 s6/\tn (i+1) s6.heap/\(∀ b∈fp,H6 b=none)/\H6 D=none/\s6.heap.get? D=some oD:=λ{s6 σ6 H6} I6=>by
    have pD:=I6.pin (D,_) (PX _ (QA _ (PX _ (aQ (by simp) a3))));refine ⟨rebase (I6.jD λp hp=>nomatch hp),T.keep _ _ _ st5 λb hb o e=>(I6.pin (b,o) (PX _ (PX _ (aQ hb e)))).1,λb hb=>?_,pD.2.1,pD.1⟩;obtain ⟨o,e,_⟩:=T.obj _ _ st5 b hb;exact (I6.pin (b,o) (PX _ (PX _ (aQ hb e)))).2.1
   refine bq (hg C s2 H2 fp pins _ s5 _ H5 x u _ I5p r5 (step x H5 y5)) λ_ s6 ⟨σ6,H6,I6,q6⟩=>?_;refine bq (ht C s2 H2 fp pins _ s6 σ6 H6 _ I6 q6) λb s7 ⟨H7,I7,q7⟩=>?_
   cases b with
   | false=>have q7':NN t H7:=q7;obtain ⟨m',hm,w7⟩:=hNN _ _ q7';obtain ⟨c1,c2,c3,c4,c5⟩:=cont I7;exact ⟨m',hm,i+1,t,oD,H7,c1,c2,c3,c4,c5,v3,w7⟩
   | true=>refine bq (hk C s2 H2 fp pins _ s7 σ6 H7 _ I7 q7) λkv s8 ⟨y,H8,I8,r8,q8⟩=>?_;refine bq (hv C s2 H2 fp pins _ s8 σ6 H8 _ I8 q8) λvv s9 ⟨z,H9,I9,r9,q9⟩=>?_;obtain ⟨c1,c2,c3,c4,c5⟩:=cont I9;refine q9 (au X own scope C s2 H2 fp pins) _ _ s9 D oD kv vv _ _ rfl rfl I9 c5 v3 r8 r9 λh' o' tk t' n' g' ok' sb=>?_;obtain ⟨m',hm,w9⟩:=hNN _ _ n';obtain ⟨f0,f1,f2,f3,f4,f5⟩:=fpD c4;exact ⟨m',hm,i+1,t',o',H9,c1.turned (t':=tk) (λb o hb e=>(sb.2 b hb).trans e) f0 f1 f3 f4 f5,T.keep _ _ _ c2 λb hb o e=>(sb.2 b λz=>nD (z▸hb)).trans e,c3,c4,g',ok',w9⟩
 exact codeAny_compStart_dict loop (T.self X.A 0 {s2 with heap:=h4} _ _ (T.keep _ _ _ st λb _ o e=>k24 b o e) loop)
section
variable {X:Cx} {own:Uu} {scope:Scope} {kx vx tg iter:Expr} {τ:Type} {ok:τ->Obj->Prop} {t0:τ} {ifs:Uv} {pos:Pos} {wi:TI} {g:TG} {tc:TT} {tk tv:TE}
def EE {τ:Type} (P:UA) (w:World) (A:UC) (ok:τ->Obj->Prop) (t0:τ) (n:Nat) (wi:TI) (g:TG) (tc:TT) (tk tv:TE):TE:=λσ H Q=>wi σ H λJ H1=>zM P w A ok t0 n J g tc tk tv σ H1 Q
theorem yf (own:Uu) (CS:eG X.env.scope X.N own scope=true) (hc:X.calm=true) (hi:PI X tg iter wi) (hg:∀ C s2 H2 fp pins,PG (au X own scope C s2 H2 fp pins) tg g)
  (ht:∀ C s2 H2 fp pins,Ca (au X own scope C s2 H2 fp pins) ifs tc) (hk:∀ C s2 H2 fp pins,PE (au X own scope C s2 H2 fp pins) kx tk) (hv:∀ C s2 H2 fp pins,PE (au X own scope C s2 H2 fp pins) vx tv)
  (ok0:ok t0 {cls:=.type "dict",dict:=none,data:=.dict #[]}) (okd:∀ t o,ok t o->∃ es ep,o.data=.dict es ep) (hs:∀ x,foldedSetIterable iter X.env x=pure x:=by intro _;rfl) :
  PE X (.DictComp kx vx [⟨tg,iter,ifs,0⟩] scope pos) (EE X.prog X.w X.A ok t0 own.length wi g tc tk tv):=by
 intro pins s σ H Q I h;have CS:=cy.of CS;rw [arm_eval_DictComp];refine R4 (use:=none) (g:=⟨tg,iter,ifs,0⟩) rfl hs (gb λn hn=>I.ok.has n (CS.frees n hn)) CS.kind (jG CS) (bq (hi pins s σ H _ I h) λv s1 h1=>bq h1 λitv s2 h2=>?_);obtain ⟨it,fp,tn,J,H2,e,I2,T,st2,f2,hW⟩:=h2;subst e;refine ye (RR:=λacc C=>compPost (model X.prog X.w) X.A X.xe none (EP X pins σ Q) acc C) I2 CS hc T st2 f2 hg ht hk hv ok0 okd hW λD C H' s' I' fC ⟨m,hn⟩ q _=>?_;refine ⟨m,hn,λh' hs'=>⟨.ref D,H',?_,rfl,q⟩⟩;obtain ⟨f0,f1,_,f3,f4,f5⟩:=fC;exact I'.turned (t':=s'.toks) (λb o hb e=>(hs'.2 b hb).trans e) f0 f1 f3 f4 f5
end
end L2
namespace Ml
open PySem PySem.Spec L2
noncomputable def fu (tb:Bool) (n:Nat) (ρ:Fm) (g:MG) (c:MT) (k v:ME):List D->Ul->Hm->R (Ul)
 | [],acc,h=>.ok acc h
 | x::xs,acc,h=>(g x (List.replicate n none++ρ) h).uh.bind λρ1 h1=>(c ρ1 h1).uh.bind λb h2=>
  if b then (k ρ1 h2).uh.bind λy h3=>(v ρ1 h3).uh.bind λz h4=>match y,z with
   | .dat kd,.dat vd=>if keyOk tb kd && (tb || kH vd) && decide (acc.length < 16777216) then fu tb n ρ g c k v xs (dput acc kd vd) h4 else .bad
   | _,_=>.bad
  else fu tb n ρ g c k v xs acc h2
def nu (tb:Bool) (n:Nat) (it:MA) (g:MG) (c:MT) (k v:ME):ME:=λρ h=>(it ρ h).bind λxs h1=>(fu tb n ρ g c k v xs [] h1).bind λkvs h2=>R.ok (D.jC tb kvs) h2
structure G2 (G:Gx) (A:UC) {τ:Type} (tb:Bool) (ok:τ->Obj->Prop) (t0:τ) (Rl:Ul->τ->Ur->Hp->Prop):Prop where
 ok0:ok t0 {cls:=.type "dict",dict:=none,data:=.dict #[]}
 okd:∀ t o,ok t o->∃ es ep,o.data=.dict es ep
 nil:∀ θ H,Rl [] t0 θ H
 ev:∀ {acc t θ H θ' H'},Ev θ H θ' H'->Rl acc t θ H->Rl acc t θ' H'
 put:∀ {acc t θ h H kd vd y z} {N:τ->Hp->Prop},W G θ h H->bQ G θ H (.dat kd) y->bQ G θ H (.dat vd) z->Rl acc t θ H->keyOk tb kd=true->(tb || kH vd)=true->acc.length < 16777216 ->
  (∀ t',Rl (dput acc kd vd) t' θ H->N t' H)->Md G.P G.w A ok t y z H N
 fin:∀ {acc t θ h H p o},W G θ h H->Rl acc t θ H->H p=none->ok t o->∃ ho,(∀ H' h,h.get? p=some o->p≠sysModules->cw G.P G.w H' h p ho)/\fP G.P G.w (view θ H) (upd H p ho) p tb acc
def PC (P:UA) (w:World) (ks:List (Key×V)) (o:Obj):Prop:=ks.length<=sizeLine/\(∃ es ep,o.data=.dict es ep)/\∃ vs,L2.KV ks vs/\∀ (h:Heap) (a:Addr),h.get? a=some o->h.DictOf (bD P w) a vs
theorem G3 {G:Gx} {A:UC}:G2 G A false (PC G.P G.w) [] λacc ks _ _=>aR ks=some acc/\∀ p∈acc,cb p.1=true/\cb p.2=true where
 ok0:=⟨Rf _,⟨_,_,rfl⟩,[],.nil,λh a e=>TX.mpr ⟨_,e,(TX.mp (Heap.DictOf.new (knd:=bD G.P G.w) h)).elim λo ⟨e1,r⟩=>by
  have e2:(h.push {cls:=.type "dict",data:=.dict #[]}).get? h.objs.size=some {cls:=.type "dict",data:=.dict #[]}:=P4 _ rfl;rw [e2] at e1;cases e1
  exact r⟩⟩
 okd:=λt o h=>h.2.1
 nil:=λθ H=>⟨rfl,λp hp=>nomatch hp⟩
 ev:=λ_ h=>h
 put:=λ{acc t θ h H kd vd y z N} w r1 r2 rl hk hf hl hN=>by
  intro Y pins σ s D o u r Q E eP ew I gD ⟨lt,_,vs,kv,dd⟩ ry rz cont;obtain ⟨q,rfl⟩:∃ q,kd=.str q:=by simp only [keyOk,P8,QK] at hk;cases kd<;>first | exact ⟨_,rfl⟩ | simp [fT] at hk
  have fd:kH vd=true:=by simpa using hf
  have hv:=sv fd r2.1;obtain ⟨e2,s2⟩:=dA r1;subst e2
  have so:∀ p∈dput acc (.str q) vd,cb p.1=true/\cb p.2=true:=λp hp=>by
   unfold dput at hp;split at hp
   ·obtain ⟨p0,hp0,e0⟩:=Qp.mp hp;split at e0
    ·subst e0;exact ⟨(rl.2 p0 hp0).1,r2.2⟩
    ·subst e0;exact rl.2 p0 hp0
   ·rcases Qg.mp hp with hp | hp
    ·exact rl.2 p hp
    ·simp at hp;subst hp;exact ⟨by simpa [cb] using s2,r2.2⟩
  have hz:vs.length<=sizeLine:=by rw [<- kv.length];exact lt
  refine wpAny_dictSet_pairs (knd:=bD G.P G.w) (hsz:=hz) (pU (k:=Sum.inr q) ry) (dd _ _ gD) λh' dd' hs=>?_;obtain ⟨o',g',rest⟩:=TX.mp dd';refine cont h' o' _ (putK t (Sum.inr q) z) (hN _ ⟨nh hv rl.1,so⟩) g' ⟨?_,?_,stored vs (Sum.inr q) r,kv.put (Sum.inr q) rz,λh2 a e2=>TX.mpr ⟨o',e2,rest⟩⟩ hs
  ·have:=iq t (Sum.inr q) z;rw [jL rl.1,R7] at *;omega
  ·obtain ⟨o2,es,ep,g1,g2,g3,_⟩:=dd';rw [g'] at g1;cases g1;exact ⟨es,ep,g3⟩
 fin:=λ{acc t θ h H p o} w rl hp ⟨lt,_,vs,kv,dd⟩=>⟨.dK t,λH' h2 e ne=>vV lt (Rk.mpr ne) kv (dd _ _ e),.inl ⟨rfl,t,aX,rl.1,rl.2⟩⟩
def PD (P:UA) (w:World) (xs:List (PyData×Addr×Value)) (o:Obj):Prop:=xs.length<=sizeLine/\∃ es ep,o.ExactDict/\o.data=.dict es ep/\es.toList=xs.map (entryOfKey (eJ P w))/\(xs.map (·.1)).Nodup
theorem Kp {G:Gx} {A:UC} (hA:A.units+20 < cLine):G2 G A true (PD G.P G.w) [] λacc xs θ H=>Paired (n6 (view θ H)) acc xs where
 ok0:=⟨Rf _,_,_,⟨rfl,rfl,rfl⟩,rfl,rfl,List.nodup_nil⟩
 okd:=λt o ⟨_,es,ep,_,h,_⟩=>⟨es,ep,h⟩
 nil:=λθ H=>.nil
 ev:=λe h=>Paired.tV h λ_ _=>n6.same e.same
 put:=λ{acc t θ h H kd vd y z N} w r1 r2 rl hk hf hl hN=>by
  intro Y pins σ s D o u r Q E eP ew I gD ⟨lt,es,ep,g2,g3,g4,g5⟩ ry rz cont;simp only [keyOk,QB,PV,Qb] at hk
  obtain ⟨b,vs,rfl,hb⟩:∃ b vs,y=.ref b/\view θ H b=some (.tup vs):=by
   cases kd with
   | tuple ds=>obtain ⟨b,vs,e,hb,_⟩:=r1.1;exact ⟨b,vs,e,hb⟩
   | _=>simp [fS] at hk
  cases ry;have dd:s.heap.DictOfH (eJ G.P G.w) D t:=⟨o,es,ep,gD,g2,g3,g4,wD I (aA θ H) rl,g5⟩;have kr:=xY (b:=b) (u:=r) hk.1.2 hk.2 r1.2 r1.1 rz r2.1 r2.2 rl;refine wpAny_dictSet_heap (knd:=eJ G.P G.w) (hsz:=lt) hA (Bi I (aA θ H) hk.1.2 hk.2 r1.2 r1.1) dd λh' dd' hs=>?_;obtain ⟨o',es',ep',k1,k2,k3,k4,_,k5⟩:=dd';refine cont h' o' _ (storedH t kd b r) (hN _ kr) k1 ⟨?_,es',ep',k2,k3,k4,k5⟩ hs;rw [<- show (dput acc kd vd).length=_ from Qr kr];have:=xZ acc kd vd;rw [R7];omega
 fin:=λ{acc t θ h H p o} w rl hp ⟨lt,es,ep,g2,g3,g4,g5⟩=>⟨dO G.P G.w t p,λH' h2 e ne=>Ic lt (Rk.mpr ne) e g2 g3 g4 g5,.inr ⟨rfl,t,aX,rl⟩⟩
section
variable {X:Cx} {E:XK} {mk mv:ME} {t:MT} {e tg kx vx:Expr} {ifs:Uv} {it:MA} {pos:Pos} {i:Nat} {x:Str} {g:MG} {own:Uu} {scope:Scope} {tb:Bool} {k:Nat}
theorem zN {G:Gx} {A:UC} {τ:Type} {ok:τ->Obj->Prop} {t0:τ} {Rl:Ul->τ->Ur->Hp->Prop} (AR:G2 G A tb ok t0 Rl) {F:XP} {n:Nat} {θ1:Ur} {H1:Hp} {h1:Hm} {xs:List D} {J:It} {σ:L2.St} {ρ:Fm} {Q:VK} (hJ:og G θ1 H1 xs J) (w1:W G θ1 h1 H1) (fr:Fr G θ1 H1 ρ σ)
  (p1:aC G F θ1 H1 ((fu tb n ρ g t mk mv xs [] h1).bind λkvs h2=>R.ok (D.jC tb kvs) h2) (Ml.KV G Q)) :
  zM G.P G.w A ok t0 n J (lG G cY g) (lT G cY t) (lE G cY mk) (lE G cY mv) σ H1 Q:=by
 refine ⟨λi m' a H=>m'=xs.length - i/\i<=xs.length/\∃ θ' h' acc,Ev θ1 H1 θ' H/\W G θ' h' H/\Rl acc a θ' H/\aC G F θ' H ((fu tb n ρ g t mk mv (xs.drop i) acc h').bind λkvs h2=>R.ok (D.jC tb kvs) h2) (Ml.KV G Q),
  ⟨xs.length,by simp,Rf _,θ1,h1,[],Ev.refl,w1,AR.nil _ _,p1⟩,?_⟩
 rintro i m' a H ⟨rfl,hi,θ',h',acc,ev,w,ra,p⟩;obtain ⟨j1,j2⟩:=hJ θ' h' H ev w;by_cases hlt:i < xs.length
 ·have ed:xs.drop i=xs[i]::xs.drop (i+1):=QT hlt;rw [ed] at p;obtain ⟨g1,g2⟩:=j1 i xs[i] (P9 hlt);refine .inr ⟨g1,λa2 H2=>i+1<=xs.length/\∃ θ' h' acc,Ev θ1 H1 θ' H2/\W G θ' h' H2/\Rl acc a2 θ' H2/\aC G F θ' H2 ((fu tb n ρ g t mk mv (xs.drop (i+1)) acc h').bind λkvs h2=>R.ok (D.jC tb kvs) h2) (Ml.KV G Q),λys' H' q=>⟨xs.length - (i+1),by omega,rfl,q⟩,λx H2 y=>?_⟩;obtain ⟨e2,w2,r2⟩:=g2 x H2 y;have p2:=p.later e2;unfold fu at p2;simp only [R.bind_assoc] at p2;refine ⟨θ',h',_,xs[i],w2,((fr.ev ev).ev e2).replicate n,r2,(aC.cK p2).mono λρ3 θ3 h3 H3 _ _ ⟨e3,w3,p3⟩ σ3 fr3=>⟨θ3,h3,ρ3,w3,fr3,(aC.cK p3).mono λc θ4 h4 H4 _ _ ⟨e4,w4,p4⟩=>?_⟩⟩;have ev4:=(ev.trans e2).trans (e3.trans e4);have ra4:=AR.ev (e2.trans (e3.trans e4)) ra
  cases c with
  | false=>exact ⟨hlt,θ4,h4,acc,ev4,w4,ra4,p4⟩
  | true=>
   simp only [QB,R.bind_assoc] at p4;refine ⟨θ4,h4,ρ3,w4,fr3.ev e4,(aC.cK p4).mono λy θ5 h5 H5 _ _ ⟨e5,w5,p5⟩ v5 r5=>⟨θ5,h5,ρ3,w5,(fr3.ev e4).ev e5,(aC.cK p5).mono λz θ6 h6 H6 _ _ ⟨e6,w6,p6⟩ v6 r6=>?_⟩⟩;have ra6:=AR.ev (e5.trans e6) ra4;have r5':=bQ.ev e6 r5
   cases y with
   | dat kd=>
    cases z with
    | dat vd=>
     simp only at p6;split at p6
     ·rename_i hc;simp only [PV,Qb] at hc;exact AR.put w6 r5' r6 ra6 hc.1.1 hc.1.2 hc.2 λt' rt=>⟨hlt,θ6,h6,_,ev4.trans (e5.trans e6),w6,rt,p6⟩
     ·exact p6.elim
    | _=>exact p6.elim
   | _=>exact p6.elim
 ·have hx:i=xs.length:=by omega
  subst hx;rw [Q1 (PY _)] at p;simp only [fu,R.ak] at p;refine .inl ⟨j2,λq o hq hok=>?_⟩;obtain ⟨ho,h1,h2⟩:=AR.fin w ra hq hok;obtain ⟨e3,w3,g3⟩:=w.put (o:=ho) hq;refine ⟨ho,h1,p _ _ e3 w3 _ ⟨q,rfl,h2.same e3.same λo' e'=>?_⟩⟩;rw [aX] at e';rw [g3];exact e'
theorem yg {G:Gx} {A:UC} {τ:Type} {ok:τ->Obj->Prop} {t0:τ} {Rl:Ul->τ->Ur->Hp->Prop} (AR:G2 G A tb ok t0 Rl) {n:Nat} {σ:L2.St} {H:Hp} {Q:VK} (h:lE G E (nu tb n it g t mk mv) σ H Q) :
  EE G.P G.w A ok t0 n (lI G E it) (lG G cY g) (lT G cY t) (lE G cY mk) (lE G cY mv) σ H Q:=by
 obtain ⟨θ,h,ρ,w,fr,p⟩:=h;simp only [nu] at p;exact ⟨θ,h,ρ,w,fr,(aC.bind p).mono λxs θ1 h1 H1 _ _ ⟨ev,w1,p1⟩ J hJ=>zN AR hJ w1 (fr.ev ev) p1⟩
theorem yh (own:Uu) (tb:Bool) (hr:cg k X.A) (CS:eG X.env.scope X.N own scope=true) (hc:X.calm=true) (hi:DI X E it tg e) (hg:∀ C s2 H2 fp pins,DG (au X own scope C s2 H2 fp pins) cY g tg)
  (ht:∀ C s2 H2 fp pins,GJ (au X own scope C s2 H2 fp pins) cY t ifs) (hk:∀ C s2 H2 fp pins,DE (au X own scope C s2 H2 fp pins) cY mk kx) (hv:∀ C s2 H2 fp pins,DE (au X own scope C s2 H2 fp pins) cY mv vx) (hs:∀ x,foldedSetIterable e X.env x=pure x:=by intro _;rfl) :
  DE X E (nu tb own.length it g t mk mv) (.DictComp kx vx [⟨tg,e,ifs,0⟩] scope pos):=by
 simp only [bj,mF,ka,pq] at *
 cases tb with
 | false=>exact PE.imp (yf (g:=lG X.G cY g) (tc:=lT X.G cY t) (tk:=lE X.G cY mk) (tv:=lE X.G cY mv) own CS hc hi hg ht hk hv (G3 (G:=X.G) (A:=X.A)).ok0 (G3 (G:=X.G) (A:=X.A)).okd hs) λσ H Q q=>yg G3 q
 | true=>
  have hu:X.A.units+20 < cLine:=by have:=hr.units;omega
  exact PE.imp (yf (g:=lG X.G cY g) (tc:=lT X.G cY t) (tk:=lE X.G cY mk) (tv:=lE X.G cY mv) own CS hc hi hg ht hk hv (Kp (G:=X.G) hu).ok0 (Kp (G:=X.G) hu).okd hs) λσ H Q q=>yg (Kp hu) q
end
end Ml
namespace Ml
open PySem
def nv:List (Str×Str):=[("grounded", "idle_for_grounded"),("preferred", "idle_for_standing"),("stable", "idle_for_stable"),("standing", "idle_for_standing"),("whole", "idle_for_whole")]
noncomputable def EF:MS:=bg (mC (af gw (aa (ab 0) (ah))))
    (bg (mC (af jN (aa (ab 1) (ah))))
    (bg (bF 2 (sA nv (ab 1)))
    (bg (nQ (jF (cx (av 3) (cx (av 4) (jE)))) (ab 0))
    (bg (bF 5 (nu true 1 (aL (ab 4)) (av 0) (cJ) (ab 0) (aj (.bool true))))
    (bg (bF 6 (cf 2 (aL (ab 4)) (jF (cx (av 0) (cx (av 1) (jE)))) (tW (aN (aq oEq (ab 0) (ab 1))) (iW (cn (jP 4 [("idle_for_grounded",bu),("idle_for_standing",bb),("idle_for_stable",bK),("idle_for_whole",bS)] (aa (ab 7) (aa (ab 0) (aa (ab 1) (ah)))))))) (bV (aa (ab 0) (aa (ab 1) (ah))))))
    (cz (bV (aa (ab 3) (aa (af fe (aa (ab 6) (ah))) (ah))))))))))
def ox:Fn:=bA 2 7 EF
noncomputable def Cy:MS:=bg (nQ (jF (cx (av 2) (cx (av 3) (jE)))) (af ox (aa (ab 0) (aa (ab 1) (ah)))))
    (bg (bF 4 (sA nv (ab 1)))
    (bg (bF 5 (nu true 1 (aL (ab 3)) (av 0) (cJ) (ab 0) (aj (.bool true))))
    (bg (bF 6 (wJ 2 (aL (ab 2)) (av 0) (cJ) (aL (ab 4)) (av 1) (tW (aN (aq oX (bV (aa (ab 0) (aa (ab 1) (ah)))) (ab 7))) (rf (aN (aq m6 (ab 0) (ab 1))) (cn (jP 6 [("idle_for_grounded",bu),("idle_for_standing",bb),("idle_for_stable",bK),("idle_for_whole",bS)] (aa (ab 7) (aa (ab 0) (aa (ab 1) (ah)))))))) (bV (aa (ab 0) (aa (ab 1) (ah))))))
    (cz (bV (aa (ab 2) (aa (af fe (aa (ab 6) (ah))) (ah))))))))
def dN:Fn:=bA 2 7 Cy
noncomputable def zO:MS:=bg (bF 2 (aq dY (af ox (aa (ab 0) (aa (ab 1) (ah)))) (aj (.int 1))))
    (bg (bF 3 (aj (.int 1)))
    (bg (kl (aL (aq dY (af dN (aa (ab 0) (aa (ab 1) (ah)))) (aj (.int 1)))) (av 4) (mZ (aN (aq ui (ab 4) (ab 2))) (EB 3 (ab 3)) (cW)))
    (cz (ab 3))))
def hU:Fn:=bA 2 5 zO
def qh:MS:=bg (mZ (aN (aq oLt (ab 1) (af fc (aa (ab 0) (ah))))) (cz (aq dY (ab 0) (ab 1))) (cW))
    (cz (aj (.int 0)))
def eW:Fn:=bA 2 2 qh
def sC:MS:=bg (bF 1 (af Cn (aa (ab 0) (aa (aq wa (aj (.int 0)) (ab 0)) (ah)))))
    (cz (v9 (aa (ab 1) (aa (af DR (aa (aq LX (ab 1) (aj (.int (10 ^ 18)))) (ah))) (ah)))))
def hV:Fn:=bA 1 2 sC
noncomputable def kM:MS:=bg (mZ (aN (aq oEq (aq dY (ab 0) (aj (.int 1))) (aj (.int 1)))) (bg (nQ (jF (cx (av 2) (cx (av 3) (jE)))) (af nU (aa (aq dY (ab 0) (aj (.int 0))) (aa (ab 1) (ah)))))
    (bg (nQ (xx (ab 0) (aj (.int 0))) (ab 2))
    (cz (ab 3)))) (cW))
    (bg (bF 4 (aq oMod (aq kG (aq dJ (aq oMod (aq dY (ab 0) (aj (.int 0))) (aj (.int 2147483647))) (aj (.int 40503))) (aj (.int 69621))) (aj (.int 2147483629))))
    (bg (bF 4 (aq oMod (aq dJ (aq kG (ab 4) (ab 4)) (aj (.int 7817))) (aj (.int 2147483587))))
    (bg (nQ (xx (ab 0) (aj (.int 0))) (aq oMod (aq dJ (aq kG (ab 4) (aj (.int 48271))) (aj (.int 11))) (aj (.int 2147483629))))
    (cz (aq oMod (aq uU (aq dY (ab 0) (aj (.int 0))) (aj (.int 32))) (ab 1))))))
def aK:Fn:=bA 2 5 kM
noncomputable def oy:MS:=bg (bF 2 (v9 (aa (aj (.str "a")) (aa (aj (.str "aa")) (aa (aj (.str "ab")) (aa (aj (.str "abcdef")) (aa (aj (.str "b")) (aa (aj (.str "c")) (aa (aj (.str "d")) (aa (aj (.str "e")) (aa (aj (.str "m")) (aa (aj (.str "x")) (aa (aj (.str "zz")) (aa (aj (.str "zzzzzz")) (ah)))))))))))))))
    (cz (af fe (aa (af lJ (aa (cf 1 (kF (aa (af aK (aa (ab 0) (aa (aq dJ (ab 1) (aj (.int 1))) (ah)))) (ah))) (av 0) (cJ) (oq o9 (ab 3) (af aK (aa (ab 1) (aa (af fc (aa (ab 3) (ah))) (ah)))))) (ah))) (ah))))
def jQ:Fn:=bA 2 3 oy
def jR:Fn:=gq jQ
noncomputable def zP:MS:=bg (nQ (jF (cx (av 2) (cx (av 3) (cx (av 4) (jE))))) (bV (aa (af jR (aa (ab 0) (aa (ab 1) (ah)))) (aa (aq dY (aj (.list [.int 1,.int 2,.int 3,.int 5])) (af aK (aa (ab 0) (aa (aj (.int 4)) (ah))))) (aa (aj (.list [])) (ah))))))
    (bg (kl (aL (ab 2)) (av 5) (bF 4 (aq dJ (ab 4) (cf 1 (aL (ab 2)) (av 0) (aN (aq oLt (af aK (aa (ab 1) (aa (aj (.int 8)) (ah)))) (ab 4))) (bV (aa (ab 6) (aa (ab 0) (ah))))))))
    (cz (bV (aa (ab 2) (aa (af fe (aa (ab 4) (ah))) (ah))))))
def jS:Fn:=bA 2 6 zP
def yi:MS:=bg (bF 1 (aj (.list [.tuple []])))
    (bg (kl (aL (ab 0)) (av 2) (bF 1 (aq dJ (ab 1) (cf 1 (aL (ab 1)) (av 0) (cJ) (aq dJ (ab 0) (bV (aa (ab 3) (ah))))))))
    (cz (ab 1)))
def iH:Fn:=bA 1 3 yi
def uo:MS:=cz (aq oEq (cf 1 (aL (ab 0)) (av 0) (aN (aq ui (ab 0) (ab 2))) (ab 0)) (aj (.list [])))
def eM:Fn:=bA 2 2 uo
def mn:MS:=cz (aj (.list [.str "stable",.str "standing",.str "preferred",.str "whole",.str "grounded"]))
def cL:Fn:=bA 0 0 mn
end Ml
namespace L2
open PySem PySem.Spec
theorem Inv.adopt {X:Cx} {pins:Uk} {σ:St} {H:Hp} {s:UD} {D:Addr} {o:HO} (I:Inv X pins σ H s) (f:gN X pins H D) (new:cw X.prog X.w (upd H D o) s.heap D o):Inv X pins σ (upd H D o) s:=by
 obtain ⟨f0,f1,f2,f3,f4,f5⟩:=f;have u:=I.base;refine ⟨I.ok,I.os,I.bare,⟨u.keep,u.slot,λb ob e n hx=>?_,u.there,λb xs e=>?_,λb ob xs e=>?_,λb ps e=>?_⟩,I.loc,I.cell,by rw [ay (SV f1)];exact I.free,λx c e=>by rw [ay (f4 x c e)];exact I.freeC x c e,λp hp=>?_,λb ob e=>?_,I.len⟩
 ·rw [ay]
  ·exact u.free b ob e n hx
  ·rintro rfl;rcases f3 with z | z
   ·exact hx z
   ·exact absurd (P0 (P1 e) z) (Qk _)
 ·have:=u.tups b xs e;rw [ay (aD this f0)];exact this
 ·have:=u.frzs b ob xs e;rw [ay (aD this f0)];exact this
 ·obtain ⟨more,this⟩:=u.tbls b ps e;exact ⟨more,by rw [ay (aD this f0)];exact this⟩
 ·obtain ⟨h1,h2,h3⟩:=I.pin p hp;exact ⟨h1,by rw [ay (f5 p hp)];exact h2,h3⟩
 ·by_cases hb:b=D
  ·subst hb;rw [aX] at e;cases e;exact new
  ·rw [ay hb] at e;exact (I.hok b ob e).qG (λ_ _ _ q=>q) (λc q=>by rw [ay (aD q f0)];exact q) λc xs q=>by rw [ay (aD q f0)];exact q
end L2
namespace Ml
open PySem PySem.Spec L2
def jT:List (Str×ME)->Fm->Hm->R (Ul)
 | [],_,h=>.ok [] h
 | (k,e)::r,ρ,h=>(e ρ h).bind λy h1=>match y with
  | .dat d=>if kH d then (jT r ρ h1).bind λkvs h2=>.ok ((.str k,d)::kvs) h2 else .bad
  | _=>.bad
def yj (acc kvs:Ul):Ul:=kvs.foldl (λacc kv=>dput acc kv.1 kv.2) acc
def EG (kes:List (Str×ME)):ME:=λρ h=>(jT kes ρ h).bind λkvs h1=>.ok (.jC false (yj [] kvs)) h1
def Bm (kvs:Ul) (ks:List (Key×V)):Prop:=aR ks=some kvs/\∀ p∈kvs,cb p.1=true/\cb p.2=true
def OZ (G:Gx) (E:XK) (kes:List (Str×ME)) (σ:L2.St) (H:Hp) (Q:List (Key×V)->Hp->Prop):Prop:=
 ∃ θ h ρ,W G θ h H/\Fr G θ H ρ σ/\aC G (m9 G E) θ H (jT kes ρ h) (λkvs _ _ H'=>∀ ks,Bm kvs ks->Q ks H')
@[irreducible] def Lf (X:Cx) (E:XK) (kes:List (Str×ME)) (pos:Pos) (keys:List (Option Expr)) (values:Uv):Prop:=
 ∀ (pins:Uk) (s:UD) (σ:L2.St) (H:Hp) (Q:List (Key×V)->Hp->Prop),Inv X pins σ H s->OZ X.G E kes σ H Q ->
  wpAny (model X.prog X.w) X.A (evalPairs (pairTrees keys values X.env pos)) (λvs s'=>∃ ks H',Inv X pins σ H' s'/\VV (ks.map λkv=>(kV kv.1,kv.2)) vs/\Q ks H') X.xe s
theorem zQ (X:Cx) (E:XK) (kes:List (Str×ME)) (pos:Pos) (keys:List (Option Expr)) (values:Uv):Lf X E kes pos keys values =
 ∀ (pins:Uk) (s:UD) (σ:L2.St) (H:Hp) (Q:List (Key×V)->Hp->Prop),Inv X pins σ H s->OZ X.G E kes σ H Q ->
  wpAny (model X.prog X.w) X.A (evalPairs (pairTrees keys values X.env pos)) (λvs s'=>∃ ks H',Inv X pins σ H' s'/\VV (ks.map λkv=>(kV kv.1,kv.2)) vs/\Q ks H') X.xe s:=by
 unfold Lf;rfl
theorem qi:∀ {more:List (Key×V)} {kvs:Ul} {acc:List (Key×V)} {akv:Ul},aR more=some kvs->(∀ p∈more,∃ x,p.1=Sum.inr x)->aR acc=some akv->aR (iZ acc more)=some (yj akv kvs)
 | [],kvs,acc,akv,e,_,a=>by cases e;exact a
 | (q,v)::more,kvs,acc,akv,e,hx,a=>by
  unfold aR at e
  cases e1:fN v with
  | none=>rw [e1] at e;cases e
  | some d=>
   cases e2:aR more with
   | none=>rw [e1,e2] at e;cases e
   | some ds=>rw [e1,e2] at e;cases e;obtain ⟨x,rfl⟩:=hx (q,v) (by simp);show aR (iZ (putK acc (Sum.inr x) v) more)=some (yj (dput akv (.str x) d) ds);exact qi e2 (λp m=>hx p (by simp [m])) (nh e1 a)
theorem EH {acc:Ul} {k v:PyData} (ha:∀ p∈acc,cb p.1=true/\cb p.2=true) (hk:cb k=true) (hv:cb v=true):∀ p∈dput acc k v,cb p.1=true/\cb p.2=true:=by
 intro p hp;unfold dput at hp;split at hp
 ·obtain ⟨p0,hp0,e0⟩:=Qp.mp hp;split at e0
  ·subst e0;exact ⟨(ha p0 hp0).1,hv⟩
  ·subst e0;exact ha p0 hp0
 ·rcases Qg.mp hp with hp | hp
  ·exact ha p hp
  ·simp at hp;subst hp;exact ⟨hk,hv⟩
theorem vb:∀ {kvs acc:Ul},(∀ p∈acc,cb p.1=true/\cb p.2=true)->(∀ p∈kvs,cb p.1=true/\cb p.2=true)->∀ p∈yj acc kvs,cb p.1=true/\cb p.2=true
 | [],acc,ha,_=>ha
 | q::kvs,acc,ha,hk=>vb (kvs:=kvs) (acc:=dput acc q.1 q.2) (EH ha (hk q (by simp)).1 (hk q (by simp)).2) λp m=>hk p (by simp [m])
section
variable {X:Cx} {E:XK} {m md mk mx:ME} {e k v o f:Expr} {ks:List (Option Expr)} {vs:Uv} {kes:List (Str×ME)} {pos apos cpos:Pos} {x:Str} {n:Nat}
theorem G4:Lf X E [] pos [] []:=by simp only [zQ];exact λpins s σ H Q I ⟨θ,h,ρ,w,fr,p⟩=>pairTrees_nil_walk ⟨[],H,I,.nil,p θ H Ev.refl w [] ⟨rfl,λp m=>nomatch m⟩⟩
theorem sD (hk:DE X E (aj (.str x)) k) (hv:DE X E m v) (hr:Lf X E kes pos ks vs):Lf X E ((x,m)::kes) pos (some k::ks) (v::vs):=by
 simp only [zQ,bj] at *;intro pins s σ H Q I ⟨θ,h,ρ,w,fr,p⟩;refine pairTrees_cons_walk (bq (hk pins s σ H (λu H1=>(u=.str x/\PyData.strOk x=true)/\∃ θ1,W X.G θ1 h H1/\Fr X.G θ1 H1 ρ σ/\aC X.G (m9 X.G E) θ1 H1 (jT ((x,m)::kes) ρ h) (λkvs _ _ H'=>∀ ks,Bm kvs ks->Q ks H')) I ⟨θ,h,ρ,w,fr,λθ1 H1 ev w1 u r=>⟨dA r,θ1,w1,fr.ev ev,p.later ev⟩⟩) λu s1 ⟨y,H1,I1,ry,⟨ey,sx⟩,θ1,w1,fr1,p1⟩=>?_);subst ey;refine bq (hv pins s1 σ H1 (λz H2=>∃ d θ2 h2,fN z=some d/\cb d=true/\W X.G θ2 h2 H2/\Fr X.G θ2 H2 ρ σ/\aC X.G (m9 X.G E) θ2 H2 (jT kes ρ h2) (λkvs _ _ H'=>∀ ks,Bm ((.str x,d)::kvs) ks->Q ks H')) I1 ⟨θ1,h,ρ,w1,fr1,(aC.bind (r:=m ρ h) p1).mono λz θ2 h2 H2 _ _ ⟨ev,w2,p2⟩ v r=>?_⟩) λu2 s2 ⟨z,H2,I2,rz,d,θ2,h2,sz,so,w2,fr2,p2⟩=>?_
 ·cases z with
  | dat d=>
   simp only at p2;split at p2
   ·rename_i fd;refine ⟨d,θ2,h2,sv fd r.1,r.2,w2,fr1.ev ev,(aC.bind p2).mono λkvs θ3 h3 H3 _ _ ⟨ev3,w3,p3⟩=>p3 θ3 H3 Ev.refl w3⟩
   ·exact p2.elim
  | _=>exact p2.elim
 ·refine bq (hr pins s2 σ H2 (λks H3=>Q ((Sum.inr x,z)::ks) H3) I2 ⟨θ2,h2,ρ,w2,fr2,p2.mono λkvs θ3 h3 H3 _ _ q ks rk=>q _ ⟨by unfold aR;rw [sz,rk.1];rfl,λp hp=>?_⟩⟩) λws s3 ⟨ks,H3,I3,rel,q3⟩=>⟨(Sum.inr x,z)::ks,H3,I3,.cons ⟨ry,rz⟩ rel,q3⟩;rcases PZ.mp hp with rfl | hp
  ·exact ⟨by simpa [cb] using sx,so⟩
  ·exact rk.2 p hp
theorem Bn:∀ {ks:List (Key×V)} {kvs:Ul},aR ks=some kvs->(∀ p∈kvs,fT p.1=true)->∀ p∈ks,∃ x,p.1=Sum.inr x
 | [],_,_,_,p,hp=>nomatch hp
 | (q,v)::ks,kvs,e,hs,p,hp=>by
  unfold aR at e
  cases e1:fN v with
  | none=>rw [e1] at e;cases e
  | some d=>
   cases e2:aR ks with
   | none=>rw [e1,e2] at e;cases e
   | some ds=>
    rw [e1,e2] at e;cases e;rcases PZ.mp hp with rfl | hp
    ·have:=hs (ud q,d) (by simp)
     cases q with
     | inl i=>simp [ud,fT] at this
     | inr x=>exact ⟨x,rfl⟩
    ·exact Bn e2 (λp m=>hs p (by simp [m])) p hp
theorem vc:∀ {kes:List (Str×ME)} {ρ:Fm} {h:Hm} {kvs:Ul} {h':Hm},jT kes ρ h=.ok kvs h'->kvs.length=kes.length/\∀ p∈kvs,fT p.1=true
 | [],ρ,h,kvs,h',e=>by cases e;exact ⟨rfl,λp m=>nomatch m⟩
 | (k,m)::kes,ρ,h,kvs,h',e=>by
  unfold jT at e
  cases e1:m ρ h with
  | bad=>rw [e1] at e;cases e
  | exc x h1=>rw [e1] at e;cases e
  | ok y h1=>
   rw [e1] at e;simp only [R.ak] at e;split at e
   ·split at e
    ·cases e2:jT kes ρ h1 with
     | bad=>rw [e2] at e;cases e
     | exc x h1=>rw [e2] at e;cases e
     | ok kv2 h2=>rw [e2] at e;cases e;obtain ⟨q1,q2⟩:=vc e2;exact ⟨by simp [q1],λp hp=>by rcases PZ.mp hp with rfl | hp;rfl;exact q2 p hp⟩
    ·cases e
   ·cases e
theorem G5 (hp:Lf X E kes pos ks vs) (hall:ks.all (·.isSome)=true:=by rfl) (hl:ks.length=vs.length:=by rfl) (hk:ks.length=kes.length:=by rfl) (h0:ks≠[]:=by simp) (h15:ks.length<=15:=by decide):DE X E (EG kes) (.Dict ks vs pos):=by
 simp only [zQ,bj] at *;intro pins s σ H Q I ⟨θ,h,ρ,w,fr,p⟩;have hD:H s.heap.objs.size=none:=I.hok.fresh (PY _);have fD:=I.BX (b:=s.heap.objs.size) (PY _) hD;have I1:Inv X pins σ H {s with heap:=s.heap.push {cls:=.type "dict",data:=.dict #[]}}:=I.kept (t':=s.toks) λb u q=>PR _ q;have gD:(s.heap.push {cls:=.type "dict",data:=.dict #[]}).get? s.heap.objs.size=some {cls:=.type "dict",data:=.dict #[]}:=P4 _ rfl;have I1p:=I1.pinned (fp:=[s.heap.objs.size]) (λb hb=>(Qm.mp hb)▸fD) λb hb=>⟨_,(Qm.mp hb)▸gD,λv z=>by cases z⟩;refine wpAny_Dict_walk (knd:=bD X.prog X.w) hall hl h0 h15 (bq (hp _ _ σ H (λks2 H2=>∃ θ2 h2 kvs,W X.G θ2 h2 H2/\Bm kvs ks2/\(kvs.length=kes.length/\∀ p∈kvs,fT p.1=true)/\aC X.G (m9 X.G E) θ2 H2 (R.ok (D.jC false (yj [] kvs)) h2) (Ml.KV X.G Q)) I1p ⟨θ,h,ρ,w,fr,?_⟩) λws s2 ⟨ks2,H2,I2,rel,θ2,h2,kvs,w2,rk,dk,p2⟩=>?_)
 ·unfold EG at p
  cases e:jT kes ρ h with
  | bad=>rw [e] at p;exact p.elim
  | exc x h1=>rw [e] at p;exact p
  | ok kvs h1=>rw [e] at p;exact λθ2 H2 ev w2 ks2 rk=>⟨θ2,h1,kvs,w2,rk,vc e,aC.later p ev⟩
 obtain ⟨rs,c,rkv⟩:=mV (P:=X.prog) (w:=X.w) rel;have pD:=I2.pin (s.heap.objs.size,_) (PX _ (PX _ (aQ (by simp) gD)));obtain ⟨g2,n2,_⟩:=pD;have d0:s2.heap.DictOf (bD X.prog X.w) s.heap.objs.size []:=(G3 (G:=X.G) (A:=X.A)).ok0.2.2.elim λvs0 ⟨kv0,q⟩=>by cases kv0;exact q _ _ g2
 refine ⟨rs,c,d0,λh' dd' hs=>?_⟩;have hz:(iZ [] ks2).length<=sizeLine:=by have h1:=i6 ks2 [];rw [QJ,jL rk.1,dk.1,<- hk] at h1;rw [Ro];omega
 have I3:=(I2.gY).turned (t':=s2.toks+ws.length) (λb ob hb e=>(hs.2 b hb).trans e) n2 fD.2.1 fD.2.2.2.1 fD.2.2.2.2.1 fD.2.2.2.2.2;have ne:s.heap.objs.size≠sysModules:=SV (Qh I.big);have I4:=I3.adopt (D:=s.heap.objs.size) (o:=.dK (iZ [] ks2)) ⟨n2,fD.2⟩ (vV hz (Rk.mpr ne) (rkv.merge .nil) dd');obtain ⟨e3,w3,g3⟩:=w2.put (o:=.dK (iZ [] ks2)) n2;exact ⟨.ref s.heap.objs.size,_,I4,rfl,p2 _ _ e3 w3 _ ⟨_,rfl,.inl ⟨rfl,_,g3,qi rk.1 (Bn rk.1 dk.2) rfl,vb (λp m=>nomatch m) rk.2⟩⟩⟩
def Me (d k x:D) (h:Hm):R D:=match d,k with
 | .jC false kvs,.dat (.str s)=>match rK kvs (.str s) with
  | some v=>.ok (.dat v) h
  | Option.none=>.ok x h
 | _,_=>.bad
def EI:D->Bool
 | .jC false _=>true
 | _=>false
def Mf (d k x:ME):ME:=λρ h=>(d ρ h).bind λy h1=>if EI y then (k ρ h1).bind λz h2=>(x ρ h2).bind λu h3=>Me y z u h3 else .bad
theorem qj {x:Str}:∀ {ks:List (Key×V)} {kvs:Ul},aR ks=some kvs->rK kvs (.str x)=none->o6 ks (Sum.inr x)=none
 | [],kvs,e,g=>by cases e;rfl
 | (q,v)::ks,kvs,e,g=>by
  unfold aR at e
  cases e1:fN v with
  | none=>rw [e1] at e;cases e
  | some d'=>
   cases e2:aR ks with
   | none=>rw [e1,e2] at e;cases e
   | some ds=>
    rw [e1,e2] at e;cases e;unfold rK at g;rw [Rz,wC] at g;by_cases hq:q=Sum.inr x
    ·simp [hq] at g
    ·simp only [hq,Ui] at g;rw [kA (p:=(q,v)) hq];exact qj (x:=x) e2 g
theorem Kq (hr:cg n X.A) (hd:DE X E md o) (hk:DE X E mk e) (hx:DE X E mx f) (mm:M2 X o "get" apos e f cpos):DE X E (Mf md mk mx) (.Call (.Attribute o "get" apos) [e,f] [] cpos):=by
 simp only [bj] at *;refine PE.imp (Dy (by have:=hr.units;omega) hd hk hx mm) λσ H Q ⟨θ,h,ρ,w,fr,p⟩=>⟨θ,h,ρ,w,fr,(aC.bind p).mono λy θ1 h1 H1 _ _ ⟨ev,w1,p1⟩ v r=>?_⟩;split at p1
 ·rename_i hy
  cases y with
  | jC t kvs=>
   have ht:t=false:=by cases t with | false=>rfl | true=>simp [EI] at hy
   subst ht;obtain ⟨a,rfl,dc⟩:=r;have dc1:=dc.same (G':=H1) (bx.refl _) λob q=>aA _ _ _ _ q;refine ⟨a,rfl,?_,θ1,h1,ρ,w1,fr.ev ev,(aC.bind p1).mono λz θ2 h2 H2 _ _ ⟨ev2,w2,p2⟩ u ru=>⟨θ2,h2,ρ,w2,(fr.ev ev).ev ev2,(aC.bind p2).mono λx θ3 h3 H3 _ _ ⟨ev3,w3,p3⟩ ux rx=>?_⟩⟩
   ·rcases dc1 with ⟨_,ks,q,_⟩ | ⟨z,xs,q,_⟩
    ·exact .inl ⟨ks,.inl q⟩
    ·cases z
   ·have dc3:=(dc.same (G':=view θ3 H3) (ev2.trans ev3).same λob q=>(ev2.trans ev3).same _ _ q).same (G':=H3) (bx.refl _) λob q=>aA _ _ _ _ q;unfold Me at p3
    cases z with
    | dat zd=>
     cases zd with
     | str q=>
      obtain ⟨eu,_⟩:=dA ru;subst eu;rcases dc3 with ⟨_,ks,q1,q2,q3⟩ | ⟨z,_⟩
      ·simp only at p3
       cases g:rK kvs (.str q) with
       | some v=>rw [g] at p3;obtain ⟨u,q4,q5⟩:=ni q2 g;refine ⟨some u,.inl ⟨ks,Sum.inr q,.inl q1,rfl,q4.symm⟩,p3 θ3 H3 Ev.refl w3 u ⟨xW q5,?_⟩⟩;unfold rK at g;obtain ⟨pr,hp,e'⟩:=QF.mp g;rw [<- e'];exact (q3 pr (List.mem_of_find?_eq_some hp)).2
       | none=>rw [g] at p3;exact ⟨none,.inl ⟨ks,Sum.inr q,.inl q1,rfl,(qj q2 g).symm⟩,p3 θ3 H3 Ev.refl w3 ux rx⟩
      ·cases z
     | _=>exact p3.elim
    | _=>exact p3.elim
  | _=>simp [EI] at hy
 ·exact p1.elim
end
end Ml
namespace Ml
open PySem
noncomputable def sE:MS:=bg (DM [4,5,6] (aa (aq oX (bV (aa (ab 2) (aa (ab 2) (ah)))) (aq dY (ab 0) (aj (.int 1)))) (aa (aq oX (bV (aa (ab 3) (aa (ab 3) (ah)))) (aq dY (ab 0) (aj (.int 1)))) (aa (aq oX (bV (aa (ab 3) (aa (ab 2) (ah)))) (aq dY (ab 0) (aj (.int 1)))) (ah)))))
    (cz (Mf (EG [("stable",ab 4),("whole",ke (ab 4) (ab 5)),("grounded",ke (ab 5) (Cw (ab 4) (ab 6)))]) (ab 1) (ke (ab 4) (Cw (ab 6) (ab 5)))))
def bZ:Fn:=bA 4 7 sE
noncomputable def uq:MS:=bg (bF 2 (v9 (ah)))
    (bg (kl (aL (aq dY (ab 0) (aj (.int 1)))) (jF (cx (av 3) (cx (av 4) (jE)))) (mZ (tW (aN (aq oEq (ab 3) (ab 4))) (iW (cn (af bZ (aa (ab 0) (aa (ab 1) (aa (ab 3) (aa (ab 4) (ah))))))))) (mC (oq gf (ab 2) (bV (aa (ab 3) (aa (ab 4) (ah)))))) (cW)))
    (cz (bV (aa (aq dY (ab 0) (aj (.int 0))) (aa (af fe (aa (ab 2) (ah))) (ah))))))
def ur:Fn:=bA 2 5 uq
def bH:Fn:=gq ur
noncomputable def jx:MS:=bg (bF 2 (v9 (aa (aj (.tuple [.tuple [],.tuple []])) (aa (aj (.tuple [.tuple [.str "a"],.tuple [.tuple [.str "a",.str "a"]]])) (aa (aj (.tuple [.tuple [.str "a",.str "b"],.tuple [.tuple [.str "a",.str "b"],.tuple [.str "b",.str "a"]]])) (ah))))))
    (bg (mC (oq gf (ab 2) (aj (.tuple [.tuple [.str "a",.str "b",.str "c"],.tuple [.tuple [.str "a",.str "b"],.tuple [.str "b",.str "c"],.tuple [.str "c",.str "a"]]]))))
    (bg (mC (oq gf (ab 2) (aj (.tuple [.tuple [.str "a",.str "b",.str "c",.str "d"],.tuple [.tuple [.str "a",.str "b"],.tuple [.str "b",.str "c"],.tuple [.str "c",.str "d"],.tuple [.str "d",.str "a"]]]))))
    (cz (qJ (aa (af jS (aa (ab 0) (aa (ab 1) (ah)))) (aa (af jS (aa (ab 0) (aa (ab 1) (ah)))) (aa (aq dY (ab 2) (af aK (aa (ab 0) (aa (aj (.int 5)) (ah))))) (ah))))))))
def fU:Fn:=bA 2 3 jx
def dP:Fn:=gq fU
noncomputable def sF:MS:=bg (bF 2 (aj (.list [])))
    (bg (kl (aL (aq dY (ab 0) (aj (.int 0)))) (av 3) (bF 2 (aq dJ (ab 2) (cf 1 (aL (aq dY (ab 0) (aj (.int 0)))) (av 0) (rf (aN (aq m6 (ab 4) (ab 0))) (cn (af bZ (aa (ab 1) (aa (ab 2) (aa (ab 4) (aa (ab 0) (ah)))))))) (bV (aa (ab 4) (aa (ab 0) (ah))))))))
    (cz (bV (aa (aq dY (ab 0) (aj (.int 0))) (aa (af fe (aa (af eL (aa (aq dJ (af rM (aa (aq dY (ab 0) (aj (.int 1))) (ah))) (ab 2)) (ah))) (ah))) (ah))))))
def fw:Fn:=bA 2 4 sF
noncomputable def uv:MS:=bg (bF 2 (cf 1 (aL (aq dY (ab 1) (aj (.int 0)))) (av 0) (aN (aq oEq (af aK (aa (ab 1) (aa (aj (.int 2)) (ah)))) (aj (.int 0)))) (bV (aa (ab 0) (aa (ab 0) (ah))))))
    (cz (bV (aa (aq dY (ab 1) (aj (.int 0))) (aa (af fe (aa (af eL (aa (aq dJ (af rM (aa (aq dY (ab 1) (aj (.int 1))) (ah))) (ab 2)) (ah))) (ah))) (ah)))))
def eN:Fn:=bA 2 3 uv
noncomputable def qK:MS:=bg (bF 1 (aj (.list [])))
    (bg (kl (aL (ab 0)) (av 2) (bF 1 (aq dJ (ab 1) (cf 1 (aL (ab 0)) (av 0) (cJ) (bV (aa (ab 3) (aa (ab 0) (ah))))))))
    (cz (cf 1 (aL (af iH (aa (ab 1) (ah)))) (av 0) (cJ) (bV (aa (ab 1) (aa (af fe (aa (ab 0) (ah))) (ah)))))))
def cZ:Fn:=bA 1 3 qK
end Ml
namespace Ml
open PySem PySem.Spec L2
def N8 (x:D) (lo hi:Option Int) (h:Hm):R D:=match x with
 | .scr ns=>.ok (.dat (.list (cut (ns.map PyData.int) lo hi))) h
 | _=>.bad
def EJ (e:ME) (lo hi:FQ):ME:=λρ h=>(e ρ h).bind λx h1=>(lo ρ h1).bind λl h2=>(hi ρ h2).bind λu h3=>N8 x l u h3
section
variable {X:Cx} {E:XK} {m:ME} {e:Expr} {pos:Pos}
def Mg (G:Gx) (E:XK):V->Option Int->Option Int->Hp->VK->Prop:=λx lo hi H Q=>∃ θ h d,W G θ h H/\bQ G θ H d x/\aC G (m9 G E) θ H (N8 d lo hi h) (KV G Q)
theorem ve {M:Hp}:∀ (ns:List Int),bc M (ns.map PyData.int) (ns.map V.int)
 | []=>rfl
 | n::ns=>⟨_,_,rfl,rfl,ve ns⟩
theorem Kr:Lc X (Mg X.G E):=by
 intro pins s σ H x v vl vu lo hi sl Q I rx hs pl pu ⟨θ,h,d,w,r,p⟩;unfold N8 at p;split at p
 ·rename_i ns;obtain ⟨a,rfl,sq⟩:=r;refine AJ pins s σ H _ v vl vu lo hi sl Q I rx hs pl pu ⟨a,ns.map V.int,rfl,(aA θ H).seq sq,λq hq=>?_⟩;obtain ⟨e1,w1,g⟩:=w.put (o:=.lst (rA (ns.map V.int) lo hi)) hq;refine p _ _ e1 w1 _ ⟨⟨q,_,rfl,g,(Bc (ve ns) lo hi).same e1.same⟩,?_⟩;simp only [cb];exact rZ (bB.mpr λd m=>by obtain ⟨n,_,rfl⟩:=Qp.mp m;rfl) lo hi
 ·exact p.elim
theorem Cz {lo hi:Option Expr} {ml mh:FQ} {p2:Pos} (he:DE X E m e) (hl:DO X E ml lo) (hu:DO X E mh hi):DE X E (EJ m ml mh) (.Subscript e (.Slice lo hi none p2) pos):=by
 simp only [bj,Bb] at *
 exact PE.imp (xC Kr he hl hu) λσ H Q ⟨θ,h,ρ,w,fr,p⟩=>⟨θ,h,ρ,w,fr,(aC.bind p).mono λd θ1 h1 H1 _ _ ⟨ev,w1,p1⟩ v r=>
   ⟨θ1,h1,ρ,w1,fr.ev ev,(aC.bind p1).mono λl θ2 h2 H2 _ _ ⟨ev2,w2,p2⟩=>⟨θ2,h2,ρ,w2,(fr.ev ev).ev ev2,(aC.bind p2).mono λu θ3 h3 H3 _ _ ⟨ev3,w3,p3⟩=>⟨θ3,h3,d,w3,(r.ev ev2).ev ev3,p3⟩⟩⟩⟩
end
end Ml
namespace Ml
open PySem
noncomputable def Mh:MS:=bg (kl (aL (aq dJ (qJ (aa (af eW (aa (ab 0) (aa (aj (.int 0)) (ah)))) (ah))) (EJ (ab 0) (mE (aj (.int 1))) (mE (aj (.int 3)))))) (av 1) (bg (bF 2 (af hV (aa (ab 1) (ah))))
    (kl (aL (af dP (aa (ab 2) (aa (aj (.int 6)) (ah))))) (av 3) (bg (bF 4 (af eN (aa (ab 2) (aa (ab 3) (ah)))))
    (bg (bF 5 (af gI (aa (ab 4) (ah))))
    (bg (kl (aL (af cL ah)) (av 6) (bg (bF 7 (af fw (aa (ab 4) (aa (ab 6) (ah)))))
    (bg (bF 8 (aj (.int 1)))
    (bg (kl (kF (aa (aq wa (af fc (aa (aq dY (ab 7) (aj (.int 1))) (ah))) (af fc (aa (aq dY (af bH (aa (ab 4) (aa (ab 6) (ah)))) (aj (.int 1))) (ah)))) (ah))) (av 9) (bF 8 (aq kG (aj (.int 2)) (ab 8))))
    (bg (mZ (aN (aq m6 (af gI (aa (qJ (aa (af dN (aa (ab 4) (aa (ab 6) (ah)))) (aa (af dN (aa (ab 4) (aa (ab 6) (ah)))) (aa (af hU (aa (ab 4) (aa (ab 6) (ah)))) (ah))))) (ah))) (af gI (aa (qJ (aa (ab 7) (aa (ab 7) (aa (ab 8) (ah))))) (ah))))) (cz (aj (.bool false))) (cW))
    (mZ (aN (aq oLt (af fc (aa (aq dY (ab 4) (aj (.int 0))) (ah))) (aj (.int 3)))) (bg (bF 10 (af bH (aa (ab 4) (aa (ab 6) (ah)))))
    (bg (bF 11 (cf 1 (aL (af cZ (aa (aq dY (ab 4) (aj (.int 0))) (ah)))) (av 0) (aN (aq oEq (af bH (aa (ab 0) (aa (ab 7) (ah)))) (ab 11))) (ab 0)))
    (mZ (tW (aN (aq m6 (af fc (aa (ab 11) (ah))) (ab 8))) (aN (aq m6 (cf 1 (aL (ab 11)) (av 0) (iW (cn (af eM (aa (aq dY (ab 0) (aj (.int 1))) (aa (aq dY (ab 8) (aj (.int 1))) (ah)))))) (ab 0)) (aj (.list []))))) (cz (aj (.bool false))) (cW)))) (cW)))))))
    (mZ (aN (aq m6 (af gI (aa (ab 4) (ah))) (ab 5))) (cz (aj (.bool false))) (cW))))))))
    (cz (aj (.bool true)))
def Bo:Fn:=bA 1 12 Mh
end Ml
namespace Stt
open PySem
abbrev oz (xs:Uz):Prop:=xs.toList.Pairwise (· < ·)
theorem qS {xs:Uz} (r:oz xs) {i k:Nat} (hi:i < k) (hk:k < xs.size):xs[i]'(by omega) < xs[k]:=by have:=RS.mp r i k (by simpa using (by omega:i < xs.size)) (by simpa using hk) hi;simpa using this
theorem sG {xs:Uz} (r:oz xs) (j:Nat):∀ (fuel lo hi:Nat),lo<=hi->hi<=xs.size->hi - lo<=fuel->(∀ i (h:i < xs.size),i < lo->xs[i] < j)->(∀ i (h:i < xs.size),hi<=i->j<=xs[i]) ->
  (∀ i (h:i < xs.size),i < SetTable.below.go xs j fuel lo hi->xs[i] < j)/\(∀ i (h:i < xs.size),SetTable.below.go xs j fuel lo hi<=i->j<=xs[i])/\SetTable.below.go xs j fuel lo hi<=xs.size
 | 0,lo,hi,h1,h2,h3,a,b=>by
  have:lo=hi:=by omega
  subst this;simp only [SetTable.below.go];exact ⟨a,b,h2⟩
 | fuel+1,lo,hi,h1,h2,h3,a,b=>by
  simp only [SetTable.below.go];split
  ·rename_i hlt;have hm:(lo+hi) / 2 < xs.size:=by omega
   simp only [Array.getD,hm,dif_pos];split
   ·rename_i hx;refine sG r j fuel _ hi (by omega) h2 (by omega) (λi h hi'=>?_) b;by_cases e:i=(lo+hi) / 2
    ·subst e;exact hx
    ·have:=qS r (i:=i) (k:=(lo+hi) / 2) (by omega) hm;have hx':xs[(lo+hi) / 2] < j:=hx;omega
   ·rename_i hx;refine sG r j fuel lo _ (by omega) (by omega) (by omega) a λi h hi'=>?_;have hx':¬ xs[(lo+hi) / 2] < j:=hx;by_cases e:i=(lo+hi) / 2
    ·subst e;omega
    ·have:=qS r (i:=(lo+hi) / 2) (k:=i) (by omega) h;omega
  ·have:lo=hi:=by omega
   subst this;exact ⟨a,b,h2⟩
theorem hX {xs:Uz} (r:oz xs) (j:Nat):(∀ i (h:i < xs.size),i < SetTable.below xs j->xs[i] < j)/\(∀ i (h:i < xs.size),SetTable.below xs j<=i->j<=xs[i])/\SetTable.below xs j<=xs.size:=
 sG r j xs.size 0 xs.size (by omega) (by omega) (by omega) (λ_ _ h=>by omega) λ_ _ h=>by omega
theorem below_at {xs:Uz} (r:oz xs) {i j:Nat} (h:xs[i]?=some j):SetTable.below xs j=i:=by
 obtain ⟨hi,e⟩:=QQ.mp h;obtain ⟨a,b,c⟩:=hX r j;by_cases h1:i < SetTable.below xs j
 ·have:=a i hi h1;omega
 ·by_cases h2:SetTable.below xs j=i
  ·exact h2
  ·have hb:SetTable.below xs j < xs.size:=by omega
   have:=b _ hb (PY _);have:=qS r (i:=SetTable.below xs j) (k:=i) (by omega) hi;omega
theorem hZ {xs:Uz} (r:oz xs) {j:Nat}:j∈xs.toList<->xs[SetTable.below xs j]?=some j:=by
 constructor
 ·intro h;obtain ⟨i,hi,e⟩:=Sd h;have:xs[i]?=some j:=by rw [<- Qt,P9 hi,e]
  rw [below_at r this];exact this
 ·intro h;rw [<- Qt] at h;exact Qq h
theorem jU {xs:Uz} (r:oz xs) {j:Nat}:SetTable.has xs j=true<->j∈xs.toList:=by unfold SetTable.has;rw [hZ r,Tb]
theorem lM {t:UB} (r:oz t.place) {j i:Nat}:t.slot j=.live i<->t.place[i]?=some j:=by
 unfold SetTable.slot;constructor
 ·intro h;dsimp only at h;split at h
  ·rename_i e;have:=eq_of_beq e;cases h;exact this
  ·split at h<;>cases h
 ·intro h;have e:=below_at r h;dsimp only;rw [e,h];simp
theorem jV {t:UB} (r:oz t.place) (rd:oz t.dummies) {j:Nat}:t.slot j=.empty<->j∉t.place.toList/\j∉t.dummies.toList:=by
 rw [hZ r,<- jU rd];unfold SetTable.slot;dsimp only;by_cases h:t.place[SetTable.below t.place j]?=some j
 ·simp [h]
 ·have:(t.place[SetTable.below t.place j]? == some j)=false:=by rw [Rk];exact h
  rw [this];simp only [P8,QK];by_cases h2:SetTable.has t.dummies j=true
  ·simp [h2]
  ·simp [h2,h]
theorem zR {t:UB} (r:oz t.place) (rd:oz t.dummies) {j:Nat}:t.slot j=.dummy->j∈t.dummies.toList:=by
 rw [<- jU rd];unfold SetTable.slot;dsimp only;split
 ·intro h;cases h
 ·split
  ·intro _;assumption
  ·intro h;cases h
theorem sH {xs:Uz} (r:oz xs) {j:Nat} (h:j∉xs.toList):oz (SetTable.insertAt xs (SetTable.below xs j) j):=by
 obtain ⟨a,b,c⟩:=hX r j;unfold oz;rw [SR];have r':xs.toList.Pairwise (· < ·):=r;rw [<- RP (SetTable.below xs j) xs.toList,RF] at r';obtain ⟨r1,r2,r3⟩:=r';rw [RF];refine ⟨r1,QL.mpr ⟨λx hx=>?_,r2⟩,λx hx y hy=>?_⟩
 ·obtain ⟨i,hi,e⟩:=Sd hx;simp at hi e;have:=b (SetTable.below xs j+i) (by omega) (by omega);have hne:xs[SetTable.below xs j+i]'(by omega)≠j:=λz=>h (by rw [<- z];simp);omega
 ·have hxj:x < j:=by
   obtain ⟨i,hi,e⟩:=Sd hx;simp at hi e;have:=a i (by omega) (by omega);omega
  rcases PZ.mp hy with rfl | hy
  ·exact hxj
  ·exact r3 x hx y hy
theorem vf {xs:Uz} (r:oz xs) (p:Nat):oz (SetTable.eraseAt xs p):=by
 unfold oz SetTable.eraseAt;simp only [Array.toList_append,Array.toList_extract,List.extract_eq_take_drop,List.drop_zero,Nat.sub_zero];have r':xs.toList.Pairwise (· < ·):=r;rw [<- RP p xs.toList,RF] at r';rw [RF];refine ⟨r'.1,?_,λx hx y hy=>?_⟩
 ·refine List.Pairwise.sublist ?_ r;exact (T8 _ _).trans (List.drop_sublist _ _)
 ·refine r'.2.2 x hx y ?_;have:=SG hy;rw [<- List.drop_drop] at this;exact List.mem_of_mem_drop this
structure Pc where
 j:Nat
 more:Nat
 i:Nat
 pt:Nat
def pc (p:SetTable.Probe):Pc:=⟨p.j,p.more,p.i,p.perturb⟩
def dB (mask i pt:Nat):Pc:=⟨i,SetTable.runEnd mask i - i,i,pt⟩
def yk (mask:Nat) (c:Pc):Pc:=dB mask (SetTable.leap mask c.i c.pt).1 (SetTable.leap mask c.i c.pt).2
def step (mask:Nat) (c:Pc):Pc:=if c.more > 0 then ⟨c.j+1,c.more - 1,c.i,c.pt⟩ else yk mask c
theorem zS (t:UB) (p:SetTable.Probe):pc (t.advance p)=step t.mask (pc p):=by unfold SetTable.advance step pc;dsimp only;split<;>rfl
theorem jc (t:UB) (p:SetTable.Probe):(t.advance p).dummy=p.dummy:=by unfold SetTable.advance;dsimp only;split<;>rfl
def steps (mask:Nat):Nat->Pc->Pc
 | 0,c=>c
 | n+1,c=>steps mask n (step mask c)
theorem lN (mask:Nat):∀ (m n:Nat) (c:Pc),steps mask (m+n) c=steps mask n (steps mask m c)
 | 0,n,c=>by simp [steps]
 | m+1,n,c=>by rw [show m+1+n=(m+n)+1 by omega];simp only [steps];exact lN mask m n _
theorem wK (mask:Nat):∀ (k:Nat) (c:Pc),c.more=k->steps mask (k+1) c=yk mask c
 | 0,c,h=>by simp [steps,step,h]
 | k+1,c,h=>by
  have e:step mask c=⟨c.j+1,c.more - 1,c.i,c.pt⟩:=by unfold step;rw [if_pos (by omega)]
  simp only [steps];have:=wK mask k (step mask c) (by rw [e];simp [h]);simp only [steps] at this;rw [this,e];rfl
theorem vg (mask i:Nat):SetTable.runEnd mask i - i<=9:=by unfold SetTable.runEnd;split<;>omega
def eX (mask:Nat):Nat->Pc->Pc
 | 0,c=>c
 | n+1,c=>eX mask n (yk mask c)
theorem qk (mask:Nat):∀ (n:Nat) (c:Pc),c.more<=9->∃ m,m<=10 * n/\steps mask m c=eX mask n c
 | 0,c,_=>⟨0,by omega,rfl⟩
 | n+1,c,h=>by obtain ⟨m,hm,e⟩:=qk mask n (yk mask c) (vg _ _);refine ⟨c.more+1+m,by omega,?_⟩;rw [lN,wK mask c.more c rfl,e];rfl
theorem lP (mask:Nat):∀ (m n:Nat) (c:Pc),eX mask (m+n) c=eX mask n (eX mask m c)
 | 0,n,c=>by simp [eX]
 | m+1,n,c=>by rw [show m+1+n=(m+n)+1 by omega];simp only [eX];exact lP mask m n _
theorem yl (mask:Nat):∀ (n:Nat) (c:Pc),(eX mask n c).pt=c.pt / 32 ^ n
 | 0,c=>by simp [eX]
 | n+1,c=>by simp only [eX];rw [yl mask n];show c.pt / 32 / 32 ^ n=_;rw [Nat.div_div_eq_div_mul,T4,Nat.mul_comm]
def Bp (m:Nat):Nat->Nat->Nat
 | 0,i=>i
 | n+1,i=>Bp m n ((i * 5+1) % m)
theorem qT (m:Nat):∀ (a b i:Nat),Bp m (a+b) i=Bp m b (Bp m a i)
 | 0,b,i=>by simp [Bp]
 | a+1,b,i=>by rw [show a+1+b=(a+b)+1 by omega];simp only [Bp];exact qT m a b _
def cover (m:Nat):Nat->Nat->Nat->Nat
 | 0,_,acc=>acc
 | n+1,i,acc=>cover m n ((i * 5+1) % m) (acc ||| 1 <<< i)
theorem vh (m:Nat):∀ (n i acc e:Nat),(cover m n i acc).testBit e=true->acc.testBit e=true\/∃ a,a < n/\Bp m a i=e
 | 0,i,acc,e,h=>.inl h
 | n+1,i,acc,e,h=>by
  rcases vh m n _ _ e h with h | ⟨a,ha,h⟩
  ·rw [Nat.testBit_or,Ry] at h;rcases h with h | h
   ·exact .inl h
   ·refine .inr ⟨0,by omega,?_⟩;rw [Nat.shiftLeft_eq,Nat.one_mul,Nat.testBit_two_pow] at h;simpa [Bp] using h
  ·exact .inr ⟨a+1,by omega,h⟩
def sizeOk (m:Nat):Bool:=cover m m 0 0 == 2 ^ m - 1 && Bp m m 0 == 0 && decide (8<=m/\m<=1024) && decide (m % 2=0)
theorem EK {m:Nat} (h:sizeOk m=true) {i e:Nat} (hi:i < m) (he:e < m):∃ n,n < m/\Bp m n i=e:=by
 unfold sizeOk at h;simp only [PV,Tb,Qb] at h;obtain ⟨⟨⟨h1,h2⟩,h3⟩,_⟩:=h
 have key:∀ x,x < m->∃ a,a < m/\Bp m a 0=x:=λx hx=>by
  rcases vh m m 0 0 x (by rw [h1];simp [Nat.testBit_two_pow_sub_one,hx]) with z | z
  ·simp at z
  ·exact z
 obtain ⟨a,ha,ea⟩:=key i hi;obtain ⟨b,hb,eb⟩:=key e he;by_cases hab:a<=b
 ·exact ⟨b - a,by omega,by rw [<- ea,<- qT,show a+(b - a)=b by omega,eb]⟩
 ·exact ⟨(m - a)+b,by omega,by rw [<- ea,<- qT,show a+((m - a)+b)=m+b by omega,qT,h2,eb]⟩
theorem Ik:sizeOk 8=true/\sizeOk 16=true/\sizeOk 32=true/\sizeOk 64=true/\sizeOk 128=true/\sizeOk 256=true/\sizeOk 512=true/\sizeOk 1024=true:=by decide +kernel
theorem vi {mask:Nat}:∀ (n:Nat) (c:Pc),c.pt=0->(eX mask n c).i=Bp (mask+1) n c.i
 | 0,c,_=>rfl
 | n+1,c,h=>by simp only [eX,Bp];rw [vi n (yk mask c) (by show c.pt / 32=0;rw [h])];show Bp _ n ((c.i * 5+1+c.pt / 32) % (mask+1))=_;rw [h]
theorem G6 (mask n:Nat) (c:Pc):(eX mask (n+1) c).j=(eX mask (n+1) c).i:=by rw [lP];rfl
theorem vj {mask:Nat} (h:sizeOk (mask+1)=true) {c:Pc} (hp:c.pt < 2 ^ 64) {e:Nat} (he:e<=mask):∃ n,n<=mask+12/\(eX mask (n+1) c).j=e:=by
 have h0:(eX mask 13 c).pt=0:=by rw [yl];exact Nat.div_eq_of_lt (Nat.lt_trans hp (by decide))
 have hi:(eX mask 13 c).i < mask+1:=by show (eX mask (12+1) c).i < mask+1;rw [lP];exact TL _ (by omega)
 obtain ⟨n,hn,en⟩:=EK h hi (Nat.lt_succ_of_le he);refine ⟨12+n,by omega,?_⟩;rw [show 12+n+1=(12+n)+1 from rfl,G6,show 12+n+1=13+n by omega,lP,vi n _ h0,en]
theorem Bq (h:Int):SetTable.bits h < 2 ^ 64:=by unfold SetTable.bits;have h1:=Ss h (b:=(2 ^ 64:Int)) (by decide);have h2:=S6 h (b:=(2 ^ 64:Int)) (by decide);omega
def c0 (mask:Nat) (h:Int):Pc:=dB mask (SetTable.bits h % (mask+1)) (SetTable.bits h)
def sq (mask:Nat) (h:Int) (n:Nat):Nat:=(steps mask n (c0 mask h)).j
theorem CA {mask:Nat} (hs:sizeOk (mask+1)=true) (h:Int) {e:Nat} (he:e<=mask):∃ n,n<=10 * (mask+13)/\sq mask h n=e:=by obtain ⟨n,hn,en⟩:=vj hs (c:=c0 mask h) (Bq h) he;obtain ⟨m,hm,em⟩:=qk mask (n+1) (c0 mask h) (vg _ _);exact ⟨m,by omega,by unfold sq;rw [em,en]⟩
theorem least {P:Nat->Prop}:∀ (N:Nat),P N->∃ n,n<=N/\P n/\∀ m,m < n->¬ P m:=by
 intro N
 induction N using Nat.strongRecOn with
 | _ N ih=>
  intro h;by_cases z:∃ m,m < N/\P m
  ·obtain ⟨m,hm,pm⟩:=z;obtain ⟨n,h1,h2,h3⟩:=ih m hm pm;exact ⟨n,by omega,h2,h3⟩
  ·exact ⟨N,PY _,h,λm hm pm=>z ⟨m,hm,pm⟩⟩
theorem zT:∀ (n:Nat) (l:List Nat),(∀ e,e < n->e∈l)->n<=l.length
 | 0,_,_=>Rf _
 | n+1,l,h=>by have hm:=h n (by omega);have:=zT n (l.erase n) λe he=>(List.mem_erase_of_ne (by omega)).mpr (h e (by omega));rw [List.length_erase_of_mem hm] at this;have:=List.length_pos_of_mem hm;omega
theorem zU (mask n:Nat) (c:Pc):steps mask (n+1) c=step mask (steps mask n c):=by rw [lN];rfl
structure Tab (es:Um) (t:UB):Prop where
 rp:oz t.place
 rd:oz t.dummies
 sz:t.place.size=es.size
 tf:t.fill * 5 < t.mask * 3
 bp:∀ j∈t.place.toList,j<=t.mask
 bd:∀ j∈t.dummies.toList,j<=t.mask
 dj:∀ j∈t.dummies.toList,j∉t.place.toList
 sm:sizeOk (t.mask+1)=true
 rc:∀ (i:Nat) (e:Int×Value) (j:Nat),es[i]?=some e->t.place[i]?=some j->∃ n,sq t.mask e.1 n=j/\∀ m,m < n->t.slot (sq t.mask e.1 m)≠.empty
theorem Tab.fits {es:Um} {t:UB} (T:Tab es t):t.fits es.size=true:=by have:=T.tf;simp only [SetTable.fits,PV,Tb,Qb];exact ⟨T.sz,by omega⟩
theorem Tab.odd {es:Um} {t:UB} (T:Tab es t):t.gaveWay=false:=by have h:=T.sm;unfold SetTable.gaveWay;rw [Rk];intro z;unfold sizeOk at h;simp only [PV,Tb,Qb] at h;obtain ⟨⟨⟨h1,h2⟩,h3⟩,h4⟩:=h;omega
theorem Tab.le {es:Um} {t:UB} (T:Tab es t):t.mask<=1023:=by have h:=T.sm;unfold sizeOk at h;simp only [PV,Tb,Qb] at h;omega
theorem Tab.free {es:Um} {t:UB} (T:Tab es t) (h:Int):∃ N,N<=10 * (t.mask+13)/\t.slot (sq t.mask h N)=.empty/\∀ m,m < N->t.slot (sq t.mask h m)≠.empty:=by
 have:∃ e,e<=t.mask/\t.slot e=.empty:=by
  apply QM;intro z;have:=zT (t.mask+1) (t.place.toList++t.dummies.toList) λe he=>by apply QM;intro hn;rw [Qg,not_or] at hn;exact z ⟨e,by omega,(jV T.rp T.rd).mpr hn⟩
  have tf:=T.tf;unfold SetTable.fill at tf;simp only [Qd,QR] at this;omega
 obtain ⟨e,he,hs⟩:=this;obtain ⟨n,hn,en⟩:=CA T.sm h he;obtain ⟨N,h1,h2,h3⟩:=least (P:=λn=>t.slot (sq t.mask h n)=.empty) n (by rw [en];exact hs);exact ⟨N,by omega,h2,h3⟩
def Dm (t:UB) (h:Int) (n:Nat) (d:Option Nat):Prop:=d=none\/∃ m,m < n/\d=some (sq t.mask h m)/\t.slot (sq t.mask h m)=.dummy
theorem Dm.mono {t:UB} {h:Int} {n n':Nat} {d:Option Nat} (x:Dm t h n d) (hn:n<=n'):Dm t h n' d:=by
 rcases x with x | ⟨m,a,b,c⟩
 ·exact .inl x
 ·exact .inr ⟨m,by omega,b,c⟩
theorem qU {t:UB} {hashAt:Nat->Int} {h:Int} {N:Nat} (hN:t.slot (sq t.mask h N)=.empty) (hne:∀ m,m < N->t.slot (sq t.mask h m)≠.empty) :
  ∀ (fuel n:Nat) (p:SetTable.Probe),n<=N->N - n < fuel->pc p=steps t.mask n (c0 t.mask h)->Dm t h n p.dummy ->
   (∃ d,SetTable.probe.go t hashAt h fuel p=some (.empty (sq t.mask h N) d)/\Dm t h N d/\∀ m,n<=m->m < N->∀ i,t.slot (sq t.mask h m)=.live i->hashAt i≠h) \/
   (∃ k i q,SetTable.probe.go t hashAt h fuel p=some (.candidate (sq t.mask h k) i q)/\n<=k/\k < N/\t.slot (sq t.mask h k)=.live i/\hashAt i=h/\pc q=steps t.mask (k+1) (c0 t.mask h)/\Dm t h (k+1) q.dummy /\
    ∀ m,n<=m->m < k->∀ i,t.slot (sq t.mask h m)=.live i->hashAt i≠h)
 | 0,n,p,h1,h2,h3,h4=>by omega
 | fuel+1,n,p,h1,h2,h3,h4=>by
  have ej:p.j=sq t.mask h n:=by have:=RV Pc.j h3;exact this
  have nx:∀ (p':SetTable.Probe),pc p'=pc p->n < N->pc (t.advance p')=steps t.mask (n+1) (c0 t.mask h):=λp' e _=>by rw [zS,e,h3,zU]
  simp only [SetTable.probe.go];rw [ej];by_cases e:n=N
  ·subst e;rw [hN];exact .inl ⟨p.dummy,rfl,h4,λm a b=>by omega⟩
  ·have hlt:n < N:=by omega
   cases hs:t.slot (sq t.mask h n) with
   | empty=>exact absurd hs (hne n hlt)
   | dummy=>
    dsimp only;rcases qU hN hne fuel (n+1) (t.advance {p with j:=sq t.mask h n,dummy:=some (sq t.mask h n)}) hlt (by omega) (nx _ (by unfold pc;rw [ej]) hlt) (by rw [jc];exact .inr ⟨n,by omega,rfl,hs⟩) with ⟨d,a,b,c⟩ | ⟨k,i,q,a,b,c,d,e',f,g,r⟩
    ·refine .inl ⟨d,a,b,λm h5 h6 i h7=>?_⟩;by_cases z:m=n
     ·subst z;rw [hs] at h7;cases h7
     ·exact c m (by omega) h6 i h7
    ·refine .inr ⟨k,i,q,a,by omega,c,d,e',f,g,λm h5 h6 i h7=>?_⟩;by_cases z:m=n
     ·subst z;rw [hs] at h7;cases h7
     ·exact r m (by omega) h6 i h7
   | live i=>
    dsimp only;by_cases hh:hashAt i=h
    ·rw [if_pos (by simpa using hh)];refine .inr ⟨n,i,t.advance p,rfl,by omega,hlt,hs,hh,nx p rfl hlt,?_,λm a b=>by omega⟩;rw [jc];exact h4.mono (by omega)
    ·rw [if_neg (by simpa using hh)];rcases qU hN hne fuel (n+1) (t.advance p) hlt (by omega) (nx _ rfl hlt) (by rw [jc];exact h4.mono (by omega)) with ⟨d,a,b,c⟩ | ⟨k,i',q,a,b,c,d,e',f,g,r⟩
     ·refine .inl ⟨d,a,b,λm h5 h6 i' h7=>?_⟩;by_cases z:m=n
      ·subst z;rw [hs] at h7;cases h7;exact hh
      ·exact c m (by omega) h6 i' h7
     ·refine .inr ⟨k,i',q,a,by omega,c,d,e',f,g,λm h5 h6 i' h7=>?_⟩;by_cases z:m=n
      ·subst z;rw [hs] at h7;cases h7;exact hh
      ·exact r m (by omega) h6 i' h7
theorem vk {xs:Uz} (r:oz xs) {j x:Nat} (hj:j∈xs.toList):x∈(SetTable.eraseAt xs (SetTable.below xs j)).toList<->x∈xs.toList/\x≠j:=by
 have hb:=(hZ r).mp hj;obtain ⟨hl,e⟩:=QQ.mp hb;have sp:xs.toList=xs.toList.take (SetTable.below xs j)++j::xs.toList.drop (SetTable.below xs j+1):=by have e1:=(RP (SetTable.below xs j) xs.toList).symm;rw [QT (by simpa using hl)] at e1;rw [Array.getElem_toList,e] at e1;exact e1
 have se:(SetTable.eraseAt xs (SetTable.below xs j)).toList=xs.toList.take (SetTable.below xs j)++xs.toList.drop (SetTable.below xs j+1):=by unfold SetTable.eraseAt;simp only [Array.toList_append,Array.toList_extract,List.extract_eq_take_drop,List.drop_zero,Nat.sub_zero];congr 1;rw [List.take_of_length_le];simp
 have nd:xs.toList.Nodup:=List.Pairwise.imp (λh=>Qh h) r;rw [sp] at nd;rw [se];have nd2:=(R6.mp nd);have nd3:=Rv.mp nd2.2.1;constructor
 ·intro h;refine ⟨by rw [sp];rcases Qg.mp h with h | h;exact QA _ h;exact PX _ (P5 _ h),λz=>?_⟩;subst z;rcases Qg.mp h with h | h
  ·exact nd2.2.2 x h x (Qe ..) rfl
  ·exact nd3.1 h
 ·rintro ⟨h,ne⟩;rw [sp] at h;rcases Qg.mp h with h | h
  ·exact QA _ h
  ·rcases PZ.mp h with h | h
   ·exact absurd h ne
   ·exact PX _ h
theorem sI {α:Type} {xs:Array α} {p:Nat} (hp:p < xs.size):(SetTable.eraseAt xs p).size=xs.size - 1:=by unfold SetTable.eraseAt;simp;omega
theorem iI {α:Type} {xs:Array α} {p:Nat} {x:α}:(SetTable.insertAt xs p x).size=xs.size+1:=by have:=(SetTable.insertAt_perm xs p x).length_eq;simpa using this
theorem sJ {α:Type} {xs:Array α} {p:Nat} {x y:α}:y∈(SetTable.insertAt xs p x).toList<->y=x\/y∈xs.toList:=by rw [(SetTable.insertAt_perm xs p x).mem_iff];simp [or_comm]
theorem sL {α:Type} {xs:Array α} {p:Nat} {x:α} (hp:p<=xs.size) (i:Nat):(SetTable.insertAt xs p x)[i]?=if i < p then xs[i]? else if i=p then some x else xs[i - 1]?:=by
 rw [<- Qt,SR];have hl:(xs.toList.take p).length=p:=by simp;omega
 by_cases h1:i < p
 ·rw [if_pos h1,Qu (by omega),R0 h1,Qt]
 ·rw [if_neg h1,Qz (by omega),hl];by_cases h2:i=p
  ·subst h2;simp
  ·rw [if_neg h2,show i - p=(i - p - 1)+1 by omega,RG,List.getElem?_drop,<- Qt];congr 1;omega
theorem vm {es:Um} {t:UB} (T:Tab es t) {s:Nat} (hs:∀ i,t.slot s≠.live i) (x:Nat) (h:(t.put s).1.slot x=.empty):t.slot x=.empty:=by
 have hp:s∉t.place.toList:=λz=>by have:=(hZ T.rp).mp z;exact hs _ ((lM T.rp).mpr this)
 have rp':oz (t.put s).1.place:=sH T.rp hp
 have rd':oz (t.put s).1.dummies:=by
  show oz (if SetTable.has t.dummies s=true then _ else _);split
  ·exact vf T.rd _
  ·exact T.rd
 rw [jV rp' rd'] at h;rw [jV T.rp T.rd];obtain ⟨h1,h2⟩:=h;have h1':x≠s/\x∉t.place.toList:=by have:x∉(SetTable.insertAt t.place (SetTable.below t.place s) s).toList:=h1;rw [sJ,not_or] at this;exact this
 refine ⟨h1'.2,λz=>h2 ?_⟩;show x∈(if SetTable.has t.dummies s=true then _ else _:Uz).toList;split
 ·rename_i hd;exact (vk T.rd ((jU T.rd).mp hd)).mpr ⟨z,h1'.1⟩
 ·exact z
structure uw (es:Um) (t:UB):Prop where
 rp:oz t.place
 rd:oz t.dummies
 sz:t.place.size=es.size
 fl:t.fill<=t.mask
 bp:∀ j∈t.place.toList,j<=t.mask
 bd:∀ j∈t.dummies.toList,j<=t.mask
 dj:∀ j∈t.dummies.toList,j∉t.place.toList
 sm:sizeOk (t.mask+1)=true
 rc:∀ (i:Nat) (e:Int×Value) (j:Nat),es[i]?=some e->t.place[i]?=some j->∃ n,sq t.mask e.1 n=j/\∀ m,m < n->t.slot (sq t.mask e.1 m)≠.empty
theorem uw.fits {es:Um} {t:UB} (T:uw es t):t.fits es.size=true:=by simp only [SetTable.fits,PV,Tb,Qb];exact ⟨T.sz,T.fl⟩
theorem uw.tab {es:Um} {t:UB} (T:uw es t) (h:t.fill * 5 < t.mask * 3):Tab es t:=⟨T.rp,T.rd,T.sz,h,T.bp,T.bd,T.dj,T.sm,T.rc⟩
theorem uw.flags {es:Um} {t t':UB} (T:uw es t) (h1:t'.mask=t.mask) (h2:t'.place=t.place) (h3:t'.dummies=t.dummies):uw es t':=by obtain ⟨a,b,c,d,e,f,l⟩:=t;obtain ⟨a',b',c',d',e',f',l'⟩:=t';dsimp only at h1 h2 h3;subst h1 h2 h3;exact ⟨T.rp,T.rd,T.sz,T.fl,T.bp,T.bd,T.dj,T.sm,T.rc⟩
theorem Tab.N9 {es:Um} {t:UB} (T:Tab es t):uw es t:=⟨T.rp,T.rd,T.sz,by have:=T.tf;omega,T.bp,T.bd,T.dj,T.sm,T.rc⟩
theorem G7 {es:Um} {t:UB} (T:Tab es t) {s n:Nat} {h:Int} {x:Value} (hs:∀ i,t.slot s≠.live i) (hm:s<=t.mask) (hn:sq t.mask h n=s) (hp:∀ m,m < n->t.slot (sq t.mask h m)≠.empty) :
  uw (SetTable.insertAt es (t.put s).2 (h,x)) (t.put s).1/\(t.slot s=.dummy->(t.put s).1.fill=t.fill):=by
 have nip:s∉t.place.toList:=λz=>by have:=(hZ T.rp).mp z;exact hs _ ((lM T.rp).mpr this)
 have rp':oz (t.put s).1.place:=sH T.rp nip
 have rd':oz (t.put s).1.dummies:=by
  show oz (if SetTable.has t.dummies s=true then _ else _);split
  ·exact vf T.rd _
  ·exact T.rd
 have mp:∀ y,y∈(t.put s).1.place.toList<->y=s\/y∈t.place.toList:=λy=>sJ
 have md:∀ y,y∈(t.put s).1.dummies.toList->y∈t.dummies.toList/\y≠s:=λy hy=>by
  have hy:y∈(if SetTable.has t.dummies s=true then SetTable.eraseAt t.dummies (SetTable.below t.dummies s) else t.dummies).toList:=hy;split at hy
  ·rename_i hd;exact (vk T.rd ((jU T.rd).mp hd)).mp hy
  ·rename_i hd;exact ⟨hy,λz=>hd ((jU T.rd).mpr (z▸hy))⟩
 have ple:SetTable.below t.place s<=t.place.size:=(hX T.rp s).2.2;have psz:(t.put s).1.place.size=t.place.size+1:=iI;have tf:=T.tf;unfold SetTable.fill at tf;have hmask:7<=t.mask:=by have h:=T.sm;unfold sizeOk at h;simp only [PV,Tb,Qb] at h;omega
 have dsz:(t.put s).1.dummies.size<=t.dummies.size:=by
  show (if SetTable.has t.dummies s=true then SetTable.eraseAt t.dummies (SetTable.below t.dummies s) else t.dummies).size<=_;split
  ·rename_i hd;have hb:=(hZ T.rd).mp ((jU T.rd).mp hd);rw [sI (QQ.mp hb).1];omega
  ·exact PY _
 refine ⟨⟨rp',rd',?_,?_,λj hj=>?_,λj hj=>T.bd j (md j hj).1,λj hj hj'=>?_,T.sm,λi e j hi hj=>?_⟩,λhd=>?_⟩
 ·rw [psz,iI,T.sz]
 ·unfold SetTable.fill;rw [psz];show t.place.size+1+(t.put s).1.dummies.size<=t.mask;omega
 ·rcases (mp j).mp hj with rfl | hj
  ·exact hm
  ·exact T.bp j hj
 ·obtain ⟨d1,d2⟩:=md j hj;rcases (mp j).mp hj' with z | z
  ·exact d2 z
  ·exact T.dj j d1 z
 ·have hj':(SetTable.insertAt t.place (SetTable.below t.place s) s)[i]?=some j:=hj;have hi':(SetTable.insertAt es (SetTable.below t.place s) (h,x))[i]?=some e:=hi;rw [sL ple] at hj';rw [sL (by rw [<- T.sz];exact ple)] at hi';have old:∀ i',es[i']?=some e->t.place[i']?=some j->∃ n,sq t.mask e.1 n=j/\∀ m,m < n->(t.put s).1.slot (sq t.mask e.1 m)≠.empty:=λi' a b=>by obtain ⟨n',n1,n2⟩:=T.rc i' e j a b;exact ⟨n',n1,λm hm' z=>n2 m hm' (vm T hs _ z)⟩
  show ∃ n,sq t.mask e.1 n=j/\∀ m,m < n->(t.put s).1.slot (sq t.mask e.1 m)≠.empty;by_cases h1:i < SetTable.below t.place s
  ·rw [if_pos h1] at hi' hj';exact old i hi' hj'
  ·rw [if_neg h1] at hi' hj';by_cases h2:i=SetTable.below t.place s
   ·rw [if_pos h2] at hi' hj';cases hi';cases hj';exact ⟨n,hn,λm hm' z=>hp m hm' (vm T hs _ z)⟩
   ·rw [if_neg h2] at hi' hj';exact old _ hi' hj'
 ·have hd':=zR T.rp T.rd hd;have hh:=(jU T.rd).mpr hd';unfold SetTable.fill;rw [psz];have:(t.put s).1.dummies.size=t.dummies.size - 1:=by show (if SetTable.has t.dummies s=true then SetTable.eraseAt t.dummies (SetTable.below t.dummies s) else t.dummies).size=_;rw [if_pos hh];exact sI (QQ.mp ((hZ T.rd).mp hd')).1
  rw [this];have:0 < t.dummies.size:=by have:=List.length_pos_of_mem hd';simpa using this
  omega
def ym (owner:Array (Option Nat)) (j:Nat):Prop:=(owner.getD j (some 0)).isNone=false
theorem pE (mask:Nat):∀ (k:Nat) (c:Pc),k<=c.more->steps mask k c=⟨c.j+k,c.more - k,c.i,c.pt⟩
 | 0,c,_=>by simp [steps]
 | k+1,c,h=>by
  have e:step mask c=⟨c.j+1,c.more - 1,c.i,c.pt⟩:=by unfold step;rw [if_pos (by omega)]
  simp only [steps];rw [e,pE mask k _ (by show k<=c.more - 1;omega)];simp only [Pc.mk.injEq,and_true];omega
theorem vn {mask:Nat} {owner:Array (Option Nat)}:∀ (fuel i pt:Nat),(∃ n,n < fuel/\¬ ym owner (eX mask n (dB mask i pt)).j) ->
  ∃ n,SetTable.layClean.free mask owner fuel i pt=some (steps mask n (dB mask i pt)).j/\¬ ym owner (steps mask n (dB mask i pt)).j/\∀ m,m < n->ym owner (steps mask m (dB mask i pt)).j
 | 0,i,pt,⟨n,hn,_⟩=>by omega
 | fuel+1,i,pt,⟨n,hn,hf⟩=>by
  have hre:SetTable.runEnd mask i+1 - i=(dB mask i pt).more+1:=by
   show _=SetTable.runEnd mask i - i+1;have:i<=SetTable.runEnd mask i:=by unfold SetTable.runEnd;split<;>omega
   omega
  simp only [SetTable.layClean.free];rw [hre]
  cases hfi:(List.range ((dB mask i pt).more+1)).find? λk=>(owner.getD (i+k) (some 0)).isNone with
  | some k=>
   dsimp only;obtain ⟨h1,h2,h3⟩:=List.find?_range_eq_some.mp hfi;have hk:k<=(dB mask i pt).more:=by have:=QO.mp h2;omega
   have es:∀ m,m<=k->(steps mask m (dB mask i pt)).j=i+m:=λm hm=>by rw [pE mask m _ (by omega)];rfl
   refine ⟨k,by rw [es k (PY _)],?_,λm hm=>?_⟩
   ·rw [es k (PY _)];unfold ym;rw [h1];simp
   ·rw [es m (by omega)];have:=h3 m hm;simpa [ym] using this
  | none=>
   dsimp only;have h1:=List.find?_range_eq_none.mp hfi;have occ:∀ m,m < (dB mask i pt).more+1->ym owner (steps mask m (dB mask i pt)).j:=λm hm=>by rw [pE mask m _ (by omega)];have:=h1 m hm;show ym owner (i+m);simpa [ym] using this
   have hn0:n≠0:=λz=>by subst z;have:=occ 0 (by omega);exact hf this
   obtain ⟨n',rfl⟩:∃ n',n=n'+1:=⟨n - 1,by omega⟩;have tl:=wK mask (dB mask i pt).more (dB mask i pt) rfl;obtain ⟨q,q1,q2,q3⟩:=vn (mask:=mask) (owner:=owner) fuel (SetTable.leap mask i pt).1 (SetTable.leap mask i pt).2 ⟨n',by omega,hf⟩;have es:∀ m,steps mask ((dB mask i pt).more+1+m) (dB mask i pt)=steps mask m (dB mask (SetTable.leap mask i pt).1 (SetTable.leap mask i pt).2):=λm=>by rw [lN,tl];rfl
   refine ⟨(dB mask i pt).more+1+q,by rw [es];exact q1,by rw [es];exact q2,λm hm=>?_⟩;by_cases hmm:m < (dB mask i pt).more+1
   ·exact occ m hmm
   ·have:=q3 (m - ((dB mask i pt).more+1)) (by omega);rw [<- es] at this;rw [show m=(dB mask i pt).more+1+(m - ((dB mask i pt).more+1)) by omega];exact this
def cC (mask:Nat) (owner:Array (Option Nat)):List (Nat×Nat):=(List.range (mask+1)).filterMap λj=>(owner.getD j none).map (j,·)
theorem yn {α β:Type} {f g:α->Option β}:∀ {l:List α},(∀ x∈l,g x=f x)->l.filterMap g=l.filterMap f
 | [],_=>rfl
 | a::l,h=>by have ih:=yn (l:=l) λx hx=>h x (P5 _ hx);rw [R9,R9,h a (Qe ..),ih]
theorem EL {α β:Type} {f g:α->Option β} {j:α} {v:β} (hf:f j=none) (hg:g j=some v):∀ {l:List α},l.Nodup->j∈l->(∀ x∈l,x≠j->f x=g x)->List.Perm (l.filterMap g) (v::l.filterMap f)
 | [],_,h,_=>by simp at h
 | a::l,nd,h,e=>by
  obtain ⟨n1,n2⟩:=Rv.mp nd;by_cases z:a=j
  ·subst z;rw [R8 hg,SU hf];have:l.filterMap g=l.filterMap f:=yn λx hx=>(e x (P5 _ hx) (λq=>n1 (q▸hx))).symm;rw [this]
  ·have hj:j∈l:=by
    rcases PZ.mp h with q | q
    ·exact absurd q.symm z
    ·exact q
   have ih:=EL hf hg n2 hj λx hx=>e x (P5 _ hx);have ea:=e a (Qe ..) z
   cases hfa:f a with
   | none=>rw [SU (by rw [<- ea];exact hfa),SU hfa];exact ih
   | some b=>rw [R8 (by rw [<- ea];exact hfa),R8 hfa];exact (ih.cons b).trans (.swap _ _ _)
structure Own (mask:Nat) (hs:List Int) (js:List Nat) (owner:Array (Option Nat)):Prop where
 sz:owner.size=mask+1
 ln:js.length=hs.length
 lv:List.Perm (cC mask owner) (js.zip (List.range hs.length))
 rc:∀ (k:Nat) (h:Int) (j:Nat),hs[k]?=some h->js[k]?=some j->∃ n,sq mask h n=j/\∀ m,m < n->ym owner (sq mask h m)
noncomputable def G8 (mask:Nat) (acc:Option (Array (Option Nat)×Nat)) (h:Int):Option (Array (Option Nat)×Nat):=do
    let (owner,k) <- acc
    let j <- SetTable.layClean.free mask owner (SetTable.turns mask) (SetTable.bits h % (mask+1)) (SetTable.bits h)
    pure (owner.setIfInBounds j (some k),k+1)
theorem EM {mask:Nat} (hm:sizeOk (mask+1)=true) {hs:List Int} {js:List Nat} {owner:Array (Option Nat)} (O:Own mask hs js owner) (hl:hs.length<=mask) (h:Int) :
  ∃ j owner',G8 mask (some (owner,hs.length)) h=some (owner',hs.length+1)/\Own mask (hs++[h]) (js++[j]) owner':=by
 have occ_iff:∀ j,ym owner j<->owner[j]?≠some none:=λj=>by
  unfold ym;rw [Qx]
  cases owner[j]? with
  | none=>simp
  | some o=>cases o<;>simp
 have hfree:∃ e,e<=mask/\¬ ym owner e:=by
  apply QM;intro z
  have hp:=zT (mask+1) ((cC mask owner).map (·.1)) λe he=>by
   have ho:ym owner e:=QM λq=>z ⟨e,by omega,q⟩;rw [occ_iff] at ho;have hlt:e < owner.size:=by rw [O.sz];exact he
   rw [Qw hlt] at ho
   cases hv:owner[e] with
   | none=>rw [hv] at ho;exact absurd rfl ho
   | some k=>refine Qp.mpr ⟨(e,k),Sh.mpr ⟨e,QO.mpr he,?_⟩,rfl⟩;simp [Array.getD,hlt,hv]
  rw [Qa,O.lv.length_eq,List.length_zip,O.ln] at hp;simp at hp;omega
 obtain ⟨e,he,hne⟩:=hfree;obtain ⟨n,hn,en⟩:=vj hm (c:=c0 mask h) (Bq h) he
 obtain ⟨q,q1,q2,q3⟩:=vn (mask:=mask) (owner:=owner) (SetTable.turns mask) (SetTable.bits h % (mask+1)) (SetTable.bits h) ⟨n+1,by unfold SetTable.turns;omega,by
  have:(eX mask (n+1) (dB mask (SetTable.bits h % (mask+1)) (SetTable.bits h))).j=e:=en
  rw [this];exact hne⟩
 generalize hj:(steps mask q (dB mask (SetTable.bits h % (mask+1)) (SetTable.bits h))).j=j at q1 q2;have hjn:owner[j]?=some none:=QM λz=>q2 ((occ_iff j).mpr z);have hjl:j < owner.size:=(QQ.mp hjn).1
 have get':∀ x,(owner.setIfInBounds j (some hs.length))[x]?=if x=j then some (some hs.length) else owner[x]?:=λx=>by
  rw [Array.getElem?_setIfInBounds];by_cases z:j=x
  ·subst z;simp [hjl]
  ·rw [if_neg z,if_neg (λq=>z q.symm)]
 have occ':∀ x,ym owner x->ym (owner.setIfInBounds j (some hs.length)) x:=λx hx=>by
  unfold ym at hx ⊢;rw [Qx] at hx ⊢;rw [get'];by_cases z:x=j
  ·rw [if_pos z];rfl
  ·rw [if_neg z];exact hx
 refine ⟨j,owner.setIfInBounds j (some hs.length),?_,⟨by simp [O.sz],by simp [O.ln],?_,λk h' j' a b=>?_⟩⟩
 ·unfold G8;simp only [Option.bind_eq_bind,Option.bind_some];rw [q1];rfl
 ·have hp:List.Perm (cC mask (owner.setIfInBounds j (some hs.length))) ((j,hs.length)::cC mask owner):=by
   refine EL (j:=j) ?_ ?_ List.nodup_range (QO.mpr (by rw [<- O.sz];exact hjl)) λx _ hx=>?_
   ·rw [Qx,hjn];rfl
   ·rw [Qx,get',if_pos rfl];rfl
   ·rw [Qx,Qx,get',if_neg hx]
  refine hp.trans ((O.lv.cons _).trans ?_);rw [Qd,To,List.range_succ,List.zip_append (by simp [O.ln])];exact (List.perm_append_singleton _ _).symm
 ·by_cases z:k < hs.length
  ·rw [Qu z] at a;rw [Qu (by rw [O.ln];exact z)] at b;obtain ⟨n',n1,n2⟩:=O.rc k h' j' a b;exact ⟨n',n1,λm hm'=>occ' _ (n2 m hm')⟩
  ·have hk:k=hs.length:=by
    have:=(Qi.mp a).1;simp at this;omega
   subst hk;rw [Qz (PY _)] at a;rw [<- O.ln,Qz (PY _)] at b;simp at a b;subst a;subst b;exact ⟨q,hj,λm hm'=>occ' _ (q3 m hm')⟩
theorem Br {mask:Nat} (hm:sizeOk (mask+1)=true):∀ (hs2 hs:List Int) (js:List Nat) (owner:Array (Option Nat)),Own mask hs js owner->(hs++hs2).length<=mask+1 ->
  ∃ js' owner',hs2.foldl (G8 mask) (some (owner,hs.length))=some (owner',(hs++hs2).length)/\Own mask (hs++hs2) js' owner'
 | [],hs,js,owner,O,_=>⟨js,owner,by simp,by simpa using O⟩
 | h::hs2,hs,js,owner,O,hl=>by obtain ⟨j,owner',e,O'⟩:=EM hm O (by simp at hl;omega) h;obtain ⟨js',owner2,e2,O2⟩:=Br hm hs2 (hs++[h]) _ _ O' (by simpa using hl);refine ⟨js',owner2,?_,by simpa using O2⟩;rw [List.foldl_cons,e];simpa using e2
theorem yo (mask:Nat) (hashes:Array Int):SetTable.layClean mask hashes=(hashes.toList.foldl (G8 mask) (some (Array.replicate (mask+1) none,0))).map (·.1):=by unfold SetTable.layClean;rw [<- Array.foldl_toList];rfl
theorem G9 (mask:Nat):Own mask [] [] (Array.replicate (mask+1) none):=by
 refine ⟨by simp,rfl,?_,λk h j a=>by simp at a⟩;have:cC mask (Array.replicate (mask+1) none)=[]:=by unfold cC;rw [List.filterMap_eq_nil_iff];intro j _;rw [Qx,Array.getElem?_replicate];split<;>rfl
 rw [this];exact .nil
theorem zV {α:Type} {es:Array α}:∀ {l:List (Nat×Nat)},(∀ p∈l,p.2 < es.size)->((l.map (·.2)).filterMap (λk=>es[k]?)).length=l.length/\∀ (i:Nat) (p:Nat×Nat),l[i]?=some p->((l.map (·.2)).filterMap (λk=>es[k]?))[i]?=es[p.2]?
 | [],_=>⟨rfl,λi p h=>by simp at h⟩
 | a::l,h=>by
  obtain ⟨h1,h2⟩:=zV (l:=l) λp hp=>h p (P5 _ hp);have ha:=h a (Qe ..);rw [Qn,R8 (Qw ha)];refine ⟨by rw [Qf,h1,Qf],λi p hi=>?_⟩
  cases i with
  | zero=>simp at hi;subst hi;simp
  | succ i=>simpa using h2 i p (by simpa using hi)
theorem Ha {es:Um} {mask:Nat} (hm:sizeOk (mask+1)=true) (hn:es.size * 5 < mask * 3) (finger moves:Nat) (led plain:Bool) :
  ∃ t' order,SetTable.laid mask finger moves led plain (es.map (·.1))=some (t',order)/\Tab (order.filterMap (es[·]?)) t'/\List.Perm (order.filterMap (es[·]?)).toList es.toList/\t'.mask=mask/\t'.led=led/\List.Perm order.toList (List.range es.size):=by
 obtain ⟨js,owner,e,O⟩:=Br hm (es.map (·.1)).toList [] [] _ (G9 mask) (by simp;omega);simp only [Rb,QJ] at e O;have hlen:(es.map (·.1)).toList.length=es.size:=by simp
 have hsnd:List.Perm ((cC mask owner).map (·.2)) (List.range es.size):=by have:=O.lv.map (·.2);rw [hlen] at this;refine this.trans ?_;rw [List.map_snd_zip (by rw [O.ln,hlen];simp)]
 have hbelow:∀ p∈cC mask owner,p.2 < es.size:=λp hp=>by have:=hsnd.mem_iff.mp (Qp.mpr ⟨p,hp,rfl⟩);exact QO.mp this
 obtain ⟨g1,g2⟩:=zV (es:=es) hbelow;have hfst:((cC mask owner).map (·.1)).Pairwise (· < ·):=by rw [Sz];unfold cC;rw [List.pairwise_filterMap];refine List.Pairwise.imp ?_ List.pairwise_lt_range;intro a b hab x hx y hy;rw [QF] at hx hy;obtain ⟨_,_,rfl⟩:=hx;obtain ⟨_,_,rfl⟩:=hy;exact hab
 have hmem:∀ p∈cC mask owner,p.1<=mask/\owner.getD p.1 none=some p.2:=λp hp=>by obtain ⟨j,hj,ej⟩:=Sh.mp hp;rw [QF] at ej;obtain ⟨k,hk,rfl⟩:=ej;exact ⟨by have:=QO.mp hj;omega,hk⟩
 refine ⟨{mask,place:=((cC mask owner).map (·.1)).toArray,dummies:=#[],finger,led,moves,plain},((cC mask owner).map (·.2)).toArray,?_,?_,?_,rfl,rfl,by simpa using hsnd⟩
 ·unfold SetTable.laid;rw [yo,e];rfl
 ·have efm:((((cC mask owner).map (·.2)).toArray.filterMap (es[·]?)):Array _)=(((cC mask owner).map (·.2)).filterMap (λk=>es[k]?)).toArray:=by simp
  have llen:(cC mask owner).length=es.size:=by have:=hsnd.length_eq;simpa using this
  refine ⟨hfst,List.Pairwise.nil,?_,?_,λj hj=>?_,λj hj=>by simp at hj,λj hj=>by simp at hj,hm,λi e' j h1 h2=>?_⟩
  ·rw [efm,P7,P7,g1,Qa]
  ·show (((cC mask owner).map (·.1)).toArray.size+0) * 5 < mask * 3;simp only [P7,Qa,llen,Nat.add_zero];exact hn
  ·obtain ⟨p,hp,rfl⟩:=Qp.mp (by simpa using hj:j∈(cC mask owner).map (·.1));exact (hmem p hp).1
  ·rw [efm] at h1;have h2':((cC mask owner).map (·.1))[i]?=some j:=by simpa using h2
   rw [QY,QF] at h2';obtain ⟨p,hp,rfl⟩:=h2';have h1':(((cC mask owner).map (·.2)).filterMap (λk=>es[k]?))[i]?=some e':=by simpa using h1
   rw [g2 i p hp] at h1';have pm:=Qq hp;have pz:=O.lv.mem_iff.mp pm;rw [hlen] at pz;obtain ⟨k,hk,ek⟩:=Sd pz;rw [List.getElem_zip] at ek;simp only [List.getElem_range] at ek;have ek1:js[k]?=some p.1:=by rw [<- RV Prod.fst ek];exact P9 _
   have ek2:p.2=k:=(RV Prod.snd ek).symm;obtain ⟨n,n1,n2⟩:=O.rc k e'.1 p.1 (by simp only [Array.toList_map,QY,Qt];rw [<- ek2,h1'];rfl) ek1;refine ⟨n,n1,λm hm' z=>?_⟩;have oc:=n2 m hm';have z':SetTable.slot {mask,place:=((cC mask owner).map (·.1)).toArray,dummies:=#[],finger,led,moves,plain} (sq mask e'.1 m)=.empty:=z;rw [jV (t:={mask,place:=((cC mask owner).map (·.1)).toArray,dummies:=#[],finger,led,moves,plain}) hfst List.Pairwise.nil] at z';by_cases hin:sq mask e'.1 m < owner.size
   ·unfold ym at oc;rw [Qx,Qw hin] at oc;simp only [Tx] at oc
    cases hv:owner[sq mask e'.1 m] with
    | none=>rw [hv] at oc;simp at oc
    | some k'=>refine z'.1 ?_;have:sq mask e'.1 m∈(cC mask owner).map (·.1):=Qp.mpr ⟨(sq mask e'.1 m,k'),Sh.mpr ⟨_,QO.mpr (by rw [<- O.sz];exact hin),by simp [Array.getD,hin,hv]⟩,rfl⟩;simpa using this
   ·exfalso
    have bound:∀ q (c:Pc),c.j+c.more<=mask->(steps mask q c).j+(steps mask q c).more<=mask:=by
     intro q
     induction q with
     | zero=>intro c hc;exact hc
     | succ q ih=>
      intro c hc;simp only [steps];refine ih _ ?_;unfold step;split
      ·show c.j+1+(c.more - 1)<=mask;omega
      ·show (SetTable.leap mask c.i c.pt).1+(SetTable.runEnd mask (SetTable.leap mask c.i c.pt).1 - (SetTable.leap mask c.i c.pt).1)<=mask;have:(SetTable.leap mask c.i c.pt).1 < mask+1:=TL _ (by omega);unfold SetTable.runEnd;split<;>omega
    have hb:=bound m (c0 mask e'.1) (by
     show SetTable.bits e'.1 % (mask+1)+(SetTable.runEnd mask (SetTable.bits e'.1 % (mask+1)) - SetTable.bits e'.1 % (mask+1))<=mask;have:SetTable.bits e'.1 % (mask+1) < mask+1:=TL _ (by omega);unfold SetTable.runEnd
     split<;>omega)
    have:sq mask e'.1 m<=mask:=by unfold sq;omega
    rw [O.sz] at hin;omega
 ·rw [Array.toList_filterMap];refine (hsnd.filterMap _).trans ?_;rw [filterMap_getElem?_range]
theorem oA:∀ n,n < 1024->(n < SetTable.sizeAbove n/\SetTable.sizeAbove n∈[8,16,32,64,128,256,512,1024]):=by decide +kernel
theorem CB {m:Nat} (h:m∈[8,16,32,64,128,256,512,1024]):sizeOk m=true:=by obtain ⟨a,b,c,d,e,f,g,i⟩:=Ik;simp only [PZ,Qo,Rc] at h;rcases h with h | h | h | h | h | h | h | h<;>(rw [h];assumption)
theorem CC {es:Um} {t:UB} {wanted:Nat} (hw:wanted < 1024) (hn:es.size * 5 < wanted * 3\/es.size<=4) :
  ∃ t' order,t.relaid (es.map (·.1)) wanted=some (t',order)/\Tab (order.filterMap (es[·]?)) t'/\List.Perm (order.filterMap (es[·]?)).toList es.toList/\t'.led=t.led/\List.Perm order.toList (List.range es.size)/\t'.mask+1=SetTable.sizeAbove wanted/\SetTable.sizeAbove wanted<=1024:=by
 obtain ⟨h1,h2⟩:=oA wanted hw;have h8:8<=SetTable.sizeAbove wanted:=by simp only [PZ,Qo,Rc] at h2;omega
 have e:SetTable.sizeAbove wanted - 1+1=SetTable.sizeAbove wanted:=by omega
 obtain ⟨t',order,a,b,c,d,f,g⟩:=Ha (es:=es) (mask:=SetTable.sizeAbove wanted - 1) (by rw [e];exact CB h2) (by omega) t.finger (t.movedTo (SetTable.sizeAbove wanted - 1)) t.led t.plain;exact ⟨t',order,a,b,c,f,g,by rw [d,e],by simp only [PZ,Qo,Rc] at h2;omega⟩
end Stt
namespace Stt
open PySem PySem.Spec L2 Ml
structure El (vp:Value->Prop) (w:World) (h:Heap) (md:Bool) (e:Int×Value) (d:PyData):Prop where
 tr:aw d=true
 dp:d.depth<=8
 so:cb d=true
 hs:e.1=pW w d
 kd:fS d=md
 rd:∃ as,Reads h e.2 d as
 vl:vp e.2
abbrev bL (es:Um) (ep:Nat) (t:UB):Obj:={cls:=.type "set",dict:=none,data:=.set es ep t,slots:=#[]}
abbrev cI (w:World):Bool:=w.params.followText "set-order"
structure fQ (vp:Value->Prop) (w:World) (h:Heap) (a:Addr) (md:Bool) (ds:Uq) (es:Um) (ep:Nat) (t:UB):Prop where
 ob:h.get? a=some (bL es ep t)
 tb:Tab es t
 ld:t.led=true\/cI w=true
 nd:ds.Nodup
 ln:ds.length<=120
 el:Paired (El vp w h md) es.toList ds
def kg (vp:Value->Prop) (w:World) (h:Heap) (a:Addr) (md:Bool) (ds:Uq):Prop:=∃ es ep t,fQ vp w h a md ds es ep t
theorem El.keep {vp:Value->Prop} {w:World} {h h':Heap} {md:Bool} {e:Int×Value} {d:PyData} (x:El vp w h md e d) (k:∀ b o vs n,h.get? b=some o->o.cls=.type "tuple" -> o.data=.seq vs n->h'.get? b=some o):El vp w h' md e d:=
 ⟨x.tr,x.dp,x.so,x.hs,x.kd,let ⟨as,r⟩:=x.rd;⟨as,jr k x.tr r⟩,x.vl⟩
theorem fQ.size {vp:Value->Prop} {w:World} {h:Heap} {a:Addr} {md:Bool} {ds:Uq} {es:Um} {ep:Nat} {t:UB} (S:fQ vp w h a md ds es ep t):es.size=ds.length:=by have:=Qr S.el;simpa using this
theorem fV {α β:Type} {R:α->β->Prop}:∀ {xs:List α} {ys:List β},Paired R xs ys->∀ {i:Nat} {x:α},xs[i]?=some x->∃ y,ys[i]?=some y/\R x y
 | _,_,.nil,i,x,h=>by simp at h
 | _,_,.cons r _,0,x,h=>by simp at h;subst h;exact ⟨_,rfl,r⟩
 | _,_,.cons _ t,i+1,x,h=>by simpa using fV t (i:=i) (by simpa using h)
theorem iJ {α β:Type} {R:α->β->Prop}:∀ {xs:List α} {ys:List β},Paired R xs ys->∀ {i:Nat} {y:β},ys[i]?=some y->∃ x,xs[i]?=some x/\R x y
 | _,_,.nil,i,x,h=>by simp at h
 | _,_,.cons r _,0,x,h=>by simp at h;subst h;exact ⟨_,rfl,r⟩
 | _,_,.cons _ t,i+1,x,h=>by simpa using iJ t (i:=i) (by simpa using h)
theorem fQ.get {vp:Value->Prop} {w:World} {h:Heap} {a:Addr} {md:Bool} {ds:Uq} {es:Um} {ep:Nat} {t:UB} (S:fQ vp w h a md ds es ep t) {i:Nat} {e:Int×Value} (he:es[i]?=some e):∃ d,ds[i]?=some d/\El vp w h md e d:=by rw [<- Qt] at he;exact fV S.el he
section
variable {P:UA} {w:World} {A:UC} {E:Uj} {s:UD} {vp:Value->Prop}
theorem Mi {md md':Bool} {e e':Int×Value} {d d':PyData} (x:El vp w s.heap md e d) (y:El vp w s.heap md' e' d') (hu:A.units+20 < cLine) {Q:Bool->UD->Prop} (h:Q (decide (d=d')) s):wpAny (model P w) A (eqBool e.2 e'.2) Q E s:=by
 obtain ⟨as,r1⟩:=x.rd;obtain ⟨bs,r2⟩:=y.rd
 have hq:PyData.eqv d d'=decide (d=d'):=by
  by_cases z:d=d'
  ·subst z;rw [Qj rfl];exact aU (aV x.tr)
  ·rw [Ql z];exact aS (aV x.tr) (aV y.tr) z
 have:=Tz d d' A s _ _ _ _ r1 r2 (i9 x.so (bW (aV x.tr))) (i9 y.so (bW (aV y.tr))) (by have:=x.dp;omega) P w E Q;rw [hq] at this;exact this h
mutual
theorem kN:∀ (d:PyData) (n:Nat) (A:UC) (s:UD) (v:Value) (as:Ur) (Q:Bool->UD->Prop) (E:Uj),aw d=true->d.depth<=n->Reads s.heap v d as->Q false s->wpAny (model P w) A (ofAClassStatement n v) Q E s
 | .str x,n,A,s,v,as,Q,E,_,_,r,h=>by cases r;unfold ofAClassStatement;exact PU h
 | .tuple ds,n,A,s,v,as,Q,E,t,hn,r,h=>by
  cases r with
  | tuple ho hc hd hi=>
   rename_i a o items k;have hT:s.TypeIs (.ref a) "tuple" := ⟨o,ho,hc⟩;simp only [aw] at t;simp only [PyData.depth] at hn;obtain ⟨m,rfl⟩:∃ m,n=m+1:=⟨n - 1,by omega⟩;unfold ofAClassStatement;refine PQ (Tn hT ?_);show wpAny _ _ (if ("tuple" == "tuple")=true then _ else _) _ _ s;rw [if_pos (by decide)];refine PQ (PU ?_);simp only [Rt,P8,QK];refine PQ (QX ho hd ?_);refine PQ ?_;show wpAny _ _ (forIn items _ _) _ _ s;rw [<- S5];refine mJ ds m A s items.toList _ _ E _ t (by omega) hi ?_ ?_
   ·intro x s' R k;refine PQ (Q7 k (λc s2 q=>?_) λ_ _ z=>z);obtain ⟨rfl,q⟩:=q;simp only [P8,QK];exact PU q
   ·exact PU h
 | .none,_,_,_,_,_,_,_,t,_,_,_=>by simp [aw] at t
 | .bool _,_,_,_,_,_,_,_,t,_,_,_=>by simp [aw] at t
 | .int _,_,_,_,_,_,_,_,t,_,_,_=>by simp [aw] at t
 | .list _,_,_,_,_,_,_,_,t,_,_,_=>by simp [aw] at t
 | .dict _,_,_,_,_,_,_,_,t,_,_,_=>by simp [aw] at t
theorem mJ:∀ (ds:Uq) (n:Nat) (A:UC) (s:UD) (vs:Us) (as:Ur) (R:Option Bool×Unit->UD->Prop) (E:Uj) (body:Value->Option Bool×Unit->Sem (ForInStep (Option Bool×Unit))),aY ds=true->PyData.depthAll ds<=n->ReadsAll s.heap vs ds as ->
  (∀ (x:Value) (s':UD) (R':ForInStep (Option Bool×Unit)->UD->Prop),wpAny (model P w) A (ofAClassStatement n x) (λc s2=>c=false/\R' (.yield (none,())) s2) E s'->wpAny (model P w) A (body x (none,())) R' E s') ->
  R (none,()) s->wpAny (model P w) A (forIn vs (none,()) body) R E s
 | [],n,A,s,_,_,R,E,body,_,_,.nil,hb,h=>by rw [RQ];exact PU h
 | d::ds,n,A,s,_,_,R,E,body,t,hn,.cons r1 r2,hb,h=>by simp only [aY,PV] at t;simp only [PyData.depthAll] at hn;rw [RJ];refine PQ (hb _ _ _ (kN d n A s _ _ _ E t.1 (by omega) r1 ⟨rfl,?_⟩));exact mJ ds n A s _ _ R E body t.2 (by omega) r2 hb h
end
theorem vo {body:Value->Option Bool×Unit->Sem (ForInStep (Option Bool×Unit))} {G:Value->Prop} {R:Option Bool×Unit->UD->Prop} (hb:∀ y,G y->∀ R':ForInStep (Option Bool×Unit)->UD->Prop,R' (.yield (none,())) s->wpAny (model P w) A (body y (none,())) R' E s) :
  ∀ ys:Us,(∀ y∈ys,G y)->R (none,()) s->wpAny (model P w) A (forIn ys (none,()) body) R E s
 | [],_,h=>by rw [RQ];exact PU h
 | y::ys,g,h=>by rw [RJ];refine PQ (hb y (g y (Qe ..)) _ ?_);exact vo hb ys (λz hz=>g z (P5 _ hz)) h
theorem EN {md:Bool} {x:Value} {h0:Int} {d:PyData} (hx:El vp w s.heap md (h0,x) d) {Q:Bool->UD->Prop} (hq:Q false s) (ys:Us) (hys:∀ y∈ys,∃ h1 d1,El vp w s.heap md (h1,y) d1):wpAny (model P w) A (searchCouldBeSeen x ys) Q E s:=by
 unfold searchCouldBeSeen;refine PQ (vo (G:=λy=>∃ h1 d1,El vp w s.heap md (h1,y) d1) (λy gy R' hR=>?_) ys hys (PU hq));obtain ⟨h1,d1,hy⟩:=gy;obtain ⟨as,r1⟩:=hx.rd;obtain ⟨bs,r2⟩:=hy.rd;dsimp only;refine RA (λ_=>PU hR) λ_=>?_
 ·skip
  refine PQ (iA d 8 A s x as _ E hx.tr hx.dp r1 ?_);simp only [Rt,P8,QK];refine PQ (iA d1 8 A s y bs _ E hy.tr hy.dp r2 ?_);simp only [Rt,P8,QK];refine PQ (kN d 8 A s x as _ E hx.tr hx.dp r1 ?_);simp only [P8,QK];refine PQ (kN d1 8 A s y bs _ E hy.tr hy.dp r2 ?_);simp only [P8,QK];exact PU hR
theorem yp {h:Heap} {e:Int×Value} {d:PyData} (x:El vp w h true e d):isSame e.2 e.2=pure true:=by
 obtain ⟨as,r⟩:=x.rd;have k:=x.kd;obtain ⟨e1,v⟩:=e;dsimp only at r ⊢
 cases r with
 | tuple=>simp [isSame]
 | _=>simp [fS] at k
def Lg (es:Um) (i:Nat):Int:=(es[i]?.map (·.1)).getD 0
theorem eO {a:Addr} {es:Um} {ep:Nat} {t:UB} {Q:(Um×Nat×UB)->UD->Prop} (ho:s.heap.get? a=some (bL es ep t)) (hf:t.fits es.size=true) (h:Q (es,ep,t) s):wpAny (model P w) A (setState a) Q E s:=wpAny_setState_of ho rfl hf h
def cg (t:UB) (h:Int) (slot:Nat) (wd:Bool):Prop:=(t.slot slot=if wd=true then .dummy else .empty)/\∃ n,sq t.mask h n=slot/\∀ m,m < n->t.slot (sq t.mask h m)≠.empty
theorem yq {a:Addr} {ds:Uq} {es:Um} {ep:Nat} {t:UB} {x:Value} {h0:Int} {d:PyData} {adding:Bool} (S:fQ vp w s.heap a true ds es ep t) (hx:El vp w s.heap true (h0,x) d) (hu:A.units+20 < cLine)
  {N:Nat} (hN:t.slot (sq t.mask h0 N)=.empty) (hne:∀ m,m < N->t.slot (sq t.mask h0 m)≠.empty) (hNl:N < 10 * SetTable.turns t.mask) {Q:SetFound->UD->Prop}
  (q1:d∉ds->∀ slot wd,cg t h0 slot wd->Q (.free slot wd) s) (q2:d∈ds->∀ i,ds[i]?=some d->Q (.there (if adding=true then none else some i)) s) :
  ∀ (fuel n:Nat) (st:Option SetTable.Probe),n<=N->N - n < fuel->pc (st.getD (t.probeStart h0))=steps t.mask n (c0 t.mask h0)->Dm t h0 n (st.getD (t.probeStart h0)).dummy ->
   (∀ m,m < n->∀ i,t.slot (sq t.mask h0 m)=.live i->ds[i]?≠some d)->wpAny (model P w) A (setSearchFrom a x h0 adding fuel st) Q E s
 | 0,n,st,h1,h2,h3,h4,h5=>by omega
 | fuel+1,n,st,h1,h2,h3,h4,h5=>by
  have T:=S.tb;have hsh:∀ (i:Nat) (e:Int×Value),es[i]?=some e->Lg es i=e.1:=λi e he=>by unfold Lg;rw [he];rfl
  have hlive:∀ (j i:Nat),t.slot j=.live i->∃ e d',es[i]?=some e/\ds[i]?=some d'/\El vp w s.heap true e d':=λj i hl=>by
   have hp:=(lM T.rp).mp hl;have hi:i < es.size:=by rw [<- T.sz];exact (QQ.mp hp).1
   obtain ⟨d',h1,h2⟩:=S.get (Qw hi);exact ⟨es[i],d',Qw hi,h1,h2⟩
  have hdiff:∀ (m i:Nat),t.slot (sq t.mask h0 m)=.live i->Lg es i≠h0->ds[i]?≠some d:=λm i hl hh z=>by obtain ⟨e,d',e1,e2,e3⟩:=hlive _ i hl;rw [e2] at z;cases z;rw [hsh i e e1,e3.hs] at hh;exact hh hx.hs.symm
  unfold setSearchFrom;refine PQ (eO S.ob T.fits ?_);dsimp only;rw [T.odd];simp only [P8,QK];have hg:=qU (hashAt:=Lg es) hN hne (10 * SetTable.turns t.mask) n (st.getD (t.probeStart h0)) h1 (by omega) h3 h4;have hpr:∀ met,SetTable.probe.go t (Lg es) h0 (10 * SetTable.turns t.mask) (st.getD (t.probeStart h0))=some met->t.probe (Lg es) h0 (st.getD (t.probeStart h0))=some met:=λ_ e=>e;rcases hg with ⟨dm,e1,e2,e3⟩ | ⟨k,i,q,e1,e2,e3,e4,e5,e6,e7,e8⟩
  ·
   have hnd:d∉ds:=λhm=>by
    obtain ⟨i,hi⟩:=Ri hm;obtain ⟨e,he,hel⟩:=iJ S.el hi;rw [Qt] at he;have hil:i < t.place.size:=by rw [T.sz];exact (QQ.mp he).1
    obtain ⟨n',n1,n2⟩:=T.rc i e t.place[i] he (Qw hil);have hh:e.1=h0:=hel.hs.trans hx.hs.symm;rw [hh] at n1 n2;have hsl:t.slot (sq t.mask h0 n')=.live i:=(lM T.rp).mpr (by rw [n1];exact Qw hil)
    have hnN:n' < N:=by
     apply QM;intro z;by_cases z2:n'=N
     ·rw [z2,hN] at hsl;cases hsl
     ·exact n2 N (by omega) hN
    by_cases z:n' < n
    ·exact h5 n' z i hsl hi
    ·exact e3 n' (by omega) hnN i hsl (by rw [hsh i e he];exact hh)
   split
   case h_2 hno=>exact absurd (hpr _ e1) (hno _)
   rename_i met hmet;have hme:=hmet.symm.trans (hpr _ e1);cases hme;dsimp only;rcases e2 with rfl | ⟨m,m1,rfl,m3⟩
   ·exact PU (q1 hnd _ false ⟨by simpa using hN,N,rfl,hne⟩)
   ·dsimp only;rw [m3];have:(adding && (SetTable.Slot.dummy != SetTable.Slot.dummy))=false:=by cases adding<;>rfl
    rw [this];simp only [P8,QK];exact PU (q1 hnd _ true ⟨by simpa using m3,m,rfl,λm' hm'=>hne m' (by omega)⟩)
  ·
   split
   case h_2 hno=>exact absurd (hpr _ e1) (hno _)
   rename_i met hmet;have hme:=hmet.symm.trans (hpr _ e1);cases hme;dsimp only;obtain ⟨e,d',f1,f2,f3⟩:=hlive _ i e4
   have go:wpAny (model P w) A (do
     let some (_,y):=es[i]? | unsupported "internal:set-entry"
     let equal <- holding [y] (eqBool y x)
     let (es',_,t') <- setState a
     if adding && equal then return SetFound.there none
     let some same:=t'.sameMemory t.moves t.mask | unsupported "set.changed-during-lookup:is-the-new-block-at-the-old-address"
     let still <- match (if same then t'.slot (sq t.mask h0 k) else .empty) with
      | .live i'=>match es'[i']? with
       | some (_,y')=>do pure (if <- isSame y' y then some i' else none)
       | none=>pure none
      | _=>pure none
     match still with
     | none=>rule "set.search.anew";setSearchFrom a x h0 adding fuel none
     | some i'=>if equal then return .there (some i') else setSearchFrom a x h0 adding fuel (some q)) Q E s:=by
    rw [f1];obtain ⟨he,y⟩:=e;dsimp only;refine PQ (QG (Mi f3 hx hu ?_));refine PQ (eO S.ob T.fits ?_);dsimp only;have hsm:t.sameMemory t.moves t.mask=some true:=by unfold SetTable.sameMemory;simp
    by_cases z:d'=d
    ·subst z;have hm:d'∈ds:=Qq f2;have Q2:=q2 hm i f2
     cases adding with
     | true=>simp only [TV,Se,QB] at Q2 ⊢;exact PU Q2
     | false=>simp only [Tf,P8,QK] at Q2 ⊢;rw [hsm];dsimp only;rw [if_pos rfl,e4];dsimp only;rw [f1];dsimp only;refine PQ (Sn (a:=true) (yp f3) ?_);refine PQ (PU ?_);simp only [TV,QB];exact PU Q2
    ·simp only [Ql z,Bool.and_false,P8,QK];rw [hsm];dsimp only;rw [if_pos rfl,e4];dsimp only;rw [f1];dsimp only;refine PQ (Sn (a:=true) (yp f3) ?_);refine PQ (PU ?_);simp only [QB];refine yq S hx hu hN hne hNl q1 q2 fuel (k+1) (some q) (by omega) (by omega) e6 e7 λm hm i' hi'=>?_;by_cases z1:m < n
     ·exact h5 m z1 i' hi'
     ·by_cases z2:m=k
      ·subst z2;rw [e4] at hi';cases hi';rw [f2];exact λq=>z (QV q)
      ·exact hdiff m i' hi' (e8 m (by omega) (by omega) i' hi')
   by_cases hl:t.led=true
   ·rw [hl];simp only [Rt,P8,QK];exact go
   ·have hl':t.led=false:=by simpa using hl
    rw [hl'];simp only [RT,QB];refine PQ (EN hx ?_ _ λy hy=>?_)
    ·simp only [P8,QK];exact go
    ·obtain ⟨e',he',rfl⟩:=Qp.mp hy;have hm:e'∈es.toList:=by have:=he';simp at this;simpa using this.1
     obtain ⟨i',hi'⟩:=Ri hm;obtain ⟨d2,_,hd2⟩:=fV S.el hi';exact ⟨e'.1,d2,hd2⟩
end
theorem ql {α β:Type} {R:α->β->Prop}:∀ {xs:List α} {ys:List β} (p:Nat),Paired R xs ys->Paired R (xs.take p) (ys.take p)/\Paired R (xs.drop p) (ys.drop p)
 | _,_,0,h=>⟨by simp;exact .nil,by simpa using h⟩
 | _,_,p+1,.nil=>⟨by simp;exact .nil,by simp;exact .nil⟩
 | _,_,p+1,.cons r t=>by obtain ⟨a,b⟩:=ql p t;exact ⟨by simp only [List.take_succ_cons];exact .cons r a,by simpa using b⟩
theorem sM {α β:Type} {R:α->β->Prop}:∀ {xs us:List α} {ys vs:List β},Paired R xs ys->Paired R us vs->Paired R (xs++us) (ys++vs)
 | _,_,_,_,.nil,h=>h
 | _,_,_,_,.cons r t,h=>.cons r (sM t h)
theorem uy {α β:Type} {R:α->β->Prop} {xs:Array α} {ys:List β} (p:Nat) {x:α} {y:β} (h:Paired R xs.toList ys) (r:R x y):Paired R (SetTable.insertAt xs p x).toList (ys.take p++y::ys.drop p):=by rw [SR];obtain ⟨a,b⟩:=ql p h;exact sM a (.cons r b)
theorem qm {α β:Type} {R:α->β->Prop} {xs xs':List α} (p:List.Perm xs xs'):∀ {ys:List β},Paired R xs ys->∃ ys',List.Perm ys ys'/\Paired R xs' ys':=by
 induction p with
 | nil=>exact λh=>⟨_,.refl _,h⟩
 | cons x _ ih=>
  intro ys h
  cases h with
  | cons r t=>obtain ⟨ys',a,b⟩:=ih t;exact ⟨_,a.cons _,.cons r b⟩
 | swap x y l=>
  intro ys h
  cases h with
  | cons r t=>
   cases t with
   | cons r' t=>exact ⟨_,.swap _ _ _,.cons r' (.cons r t)⟩
 | trans _ _ ih1 ih2=>intro ys h;obtain ⟨y1,a,b⟩:=ih1 h;obtain ⟨y2,c,d⟩:=ih2 b;exact ⟨y2,a.trans c,d⟩
theorem sN (ds:Uq) (p:Nat) (d:PyData):List.Perm (ds.take p++d::ds.drop p) (d::ds):=by have:=RP p ds;exact List.perm_middle.trans (by rw [this])
theorem Bs {ds ds':Uq} (p:List.Perm ds ds') (h:ds.Nodup):ds'.Nodup:=p.nodup_iff.mp h
section
variable {P:UA} {w:World} {A:UC} {E:Uj} {s:UD} {vp:Value->Prop}
theorem El.text {h:Heap} {e:Int×Value} {d:PyData} (x:El vp w h false e d):∃ y t,d=.str y/\e.2=.str y t/\e.1=hashStr w y:=by
 obtain ⟨as,r⟩:=x.rd;have k:=x.kd;have t:=x.tr;have hs:=x.hs;obtain ⟨e1,v⟩:=e;dsimp only at r hs ⊢
 cases r with
 | str y u=>exact ⟨y,u,rfl,rfl,hs⟩
 | tuple=>simp [fS] at k
 | _=>simp [aw] at t
theorem El.refs {h:Heap} {e:Int×Value} {d:PyData} (x:El vp w h true e d):∃ a,e.2=.ref a:=by
 obtain ⟨as,r⟩:=x.rd;have k:=x.kd;obtain ⟨e1,v⟩:=e;dsimp only at r ⊢
 cases r with
 | tuple=>exact ⟨_,rfl⟩
 | _=>simp [fS] at k
theorem yr {h:Heap} {es:List (Int×Value)} {ds:Uq} (p:Paired (El vp w h false) es ds):ElemsOf (strKind P w) es:=by intro e he;obtain ⟨i,hi⟩:=Ri he;obtain ⟨d,_,x⟩:=fV p hi;obtain ⟨y,t,e1,e2,e3⟩:=x.text;exact ⟨⟨y,by rw [e2];show Value.isStrOf y (.str y t)=true;simp [Value.isStrOf],e3⟩,by rw [e2];rfl⟩
theorem EO {h:Heap} {es:List (Int×Value)} {ds:Uq} (p:Paired (El vp w h false) es ds) (y:Str) :
  match es.findIdx? (λe=>(strKind P w).is y e.2) with
  | some j=>ds[j]?=some (.str y)
  | none=>PyData.str y∉ds:=by
 have hk:∀ {e:Int×Value} {d:PyData},El vp w h false e d->((strKind P w).is y e.2=true<->d=.str y):=λ{e d} x=>by
  obtain ⟨z,t,rfl,e2,_⟩:=x.text;rw [e2];show Value.isStrOf y (.str z t)=true<->_;constructor
  ·intro q;obtain ⟨u,hu⟩:=Value.isStrOf_shape q;injection hu with hu;rw [hu]
  ·intro q;cases q;simp [Value.isStrOf]
 cases hr:es.findIdx? (λe=>(strKind P w).is y e.2) with
 | some j=>obtain ⟨hj,hp,_⟩:=List.findIdx?_eq_some_iff_getElem.mp hr;obtain ⟨d,h1,h2⟩:=fV p (P9 hj);show ds[j]?=_;rw [h1,(hk h2).mp hp]
 | none=>show PyData.str y∉ds;intro hm;obtain ⟨i,hi⟩:=Ri hm;obtain ⟨e,h1,h2⟩:=iJ p hi;have:=List.findIdx?_eq_none_iff.mp hr e (Qq h1);rw [(hk h2).mpr rfl] at this;cases this
theorem fQ.scan {h:Heap} {a:Addr} {ds:Uq} {es:Um} {ep:Nat} {t:UB} (S:fQ vp w h a false ds es ep t) {x:Value} {y:Str} {u:Tok} (hx:x=.str y u):byScan x es=true:=
 byScan_of (prog:=default) (w:=w) (knd:=strKind default w) (by rw [hx];rfl) (by rw [S.size];have:=S.ln;show _ < 4096;omega) (yr S.el)
theorem Ks {b:Addr} {es:Um}:byScan (.ref b) es=false:=rfl
end
section
variable {P:UA} {w:World} {A:UC} {E:Uj} {s:UD} {vp:Value->Prop}
theorem yt {α:Type} {body:α->Option Bool×Unit->Sem (ForInStep (Option Bool×Unit))} {G:α->Prop} {R:Option Bool×Unit->UD->Prop} (hb:∀ y,G y->∀ R':ForInStep (Option Bool×Unit)->UD->Prop,R' (.yield (none,())) s->R' (.done (some false,())) s->wpAny (model P w) A (body y (none,())) R' E s) :
  ∀ ys:List α,(∀ y∈ys,G y)->R (none,()) s->R (some false,()) s->wpAny (model P w) A (forIn ys (none,()) body) R E s
 | [],_,h,_=>by rw [RQ];exact PU h
 | y::ys,g,h,h'=>by
  rw [RJ];refine PQ (hb y (g y (Qe ..)) _ ?_ ?_)
  ·exact yt hb ys (λz hz=>g z (P5 _ hz)) h h'
  ·exact PU h'
mutual
theorem vq:∀ (d:PyData) (n:Nat) (v:Value) (as:Ur) (Q:Bool->UD->Prop),aw d=true->d.depth<=n->Reads s.heap v d as->(∀ b,Q b s)->wpAny (model P w) A (hashByValue n v) Q E s
 | .str x,n,v,as,Q,_,_,r,h=>by
  cases r;have:hashByValue n (.str x ‹_›)=pure false:=by cases n<;>rfl
  rw [this];exact PU (h _)
 | .tuple ds,n,v,as,Q,t,hn,r,h=>by
  cases r with
  | tuple ho hc hd hi=>
   rename_i a o items k;have hT:s.TypeIs (.ref a) "tuple" := ⟨o,ho,hc⟩;simp only [aw] at t;simp only [PyData.depth] at hn;obtain ⟨m,rfl⟩:∃ m,n=m+1:=⟨n - 1,by omega⟩;unfold hashByValue;refine PQ (So hT Sx.lookup ?_);dsimp only;refine PQ (QX ho hd ?_);simp only [Tx];refine PQ ?_;rw [<- S5];refine yt (G:=λy=>∃ d' as',aw d'=true/\d'.depth<=m/\Reads s.heap y d' as'/\∀ Q':Bool->UD->Prop,(∀ b,Q' b s)->wpAny (model P w) A (hashByValue m y) Q' E s) (λy ⟨d',as',g1,g2,g3,g4⟩ R' r1 r2=>?_) items.toList ?_ (PU (h _)) (PU (h _))
   ·refine PQ (g4 _ λb=>?_);cases b
    ·exact PU r2
    ·exact PU r1
   ·exact sO ds m items.toList _ t (by omega) hi
 | .none,_,_,_,_,t,_,_,_=>by simp [aw] at t
 | .bool _,_,_,_,_,t,_,_,_=>by simp [aw] at t
 | .int _,_,_,_,_,t,_,_,_=>by simp [aw] at t
 | .list _,_,_,_,_,t,_,_,_=>by simp [aw] at t
 | .dict _,_,_,_,_,t,_,_,_=>by simp [aw] at t
theorem sO:∀ (ds:Uq) (m:Nat) (vs:Us) (as:Ur),aY ds=true->PyData.depthAll ds<=m->ReadsAll s.heap vs ds as->∀ y∈vs,∃ d' as',aw d'=true/\d'.depth<=m/\Reads s.heap y d' as'/\∀ Q':Bool->UD->Prop,(∀ b,Q' b s)->wpAny (model P w) A (hashByValue m y) Q' E s
 | [],m,_,_,_,_,.nil,y,hy=>by simp at hy
 | d::ds,m,_,_,t,hn,.cons r1 r2,y,hy=>by
  simp only [aY,PV] at t;simp only [PyData.depthAll] at hn;rcases PZ.mp hy with rfl | hy
  ·exact ⟨d,_,t.1,by omega,r1,λQ' h=>vq d m _ _ Q' t.1 (by omega) r1 h⟩
  ·exact sO ds m _ _ t.2 (by omega) r2 y hy
end
theorem O0 {md:Bool} {e:Int×Value} {d:PyData} (x:El vp w s.heap md e d) {Q:Bool->UD->Prop} (h:∀ b,Q b s):wpAny (model P w) A (hashByValue 8 e.2) Q E s:=by obtain ⟨as,r⟩:=x.rd;exact vq d 8 _ as Q x.tr x.dp r h
theorem oB {h h':Heap} {a:Addr} {es:Um} {ep:Nat} {t:UB} (ho:h.get? a=some (bL es ep t)) (sb:Heap.SameBut a h h'):∀ b o vs n,h.get? b=some o->o.cls=.type "tuple" -> o.data=.seq vs n->h'.get? b=some o:=λb o vs n e c _=>by refine (sb.2 b λz=>?_).trans e;rw [z,ho] at e;cases e;exact absurd (Tg c) (by decide)
theorem oC {a:Addr} {es es':Um} {ep:Nat} {t t':UB} {Q:Unit->UD->Prop} (ho:s.heap.get? a=some (bL es ep t)) (hz:es'.size<=1000)
  (h:∀ h',h'.get? a=some (bL es' (ep+1) t')->Heap.SameBut a s.heap h'->Q () {s with heap:=h'}):wpAny (model P w) A (storeSet a es' t') Q E s:=by
 refine wpAny_storeSet_of ho rfl (h _ ?_ (SK ..)) (by rw [Ro];omega);have:=Rx (Obj.putSet es' t') ho (by rw [putSet_of es' t' rfl];rfl);rw [putSet_of es' t' rfl] at this;exact this
structure pF (vp:Value->Prop) (w:World) (h:Heap) (md:Bool) (ds:Uq) (es:Um) (t:UB):Prop where
 tb:uw es t
 ld:t.led=true\/cI w=true
 nd:ds.Nodup
 ln:ds.length<=120
 el:Paired (El vp w h md) es.toList ds
theorem pF.size {h:Heap} {md:Bool} {ds:Uq} {es:Um} {t:UB} (S:pF vp w h md ds es t):es.size=ds.length:=by have:=Qr S.el;simpa using this
theorem pF.keep {h h':Heap} {md:Bool} {ds:Uq} {es:Um} {t:UB} (S:pF vp w h md ds es t) (k:∀ b o vs n,h.get? b=some o->o.cls=.type "tuple" -> o.data=.seq vs n->h'.get? b=some o):pF vp w h' md ds es t:=
 ⟨S.tb,S.ld,S.nd,S.ln,Paired.tV S.el λ_ _ x=>El.keep x k⟩
theorem sP {md:Bool} {h:Heap} {a:Addr} {ds:Uq} {es:Um} {ep:Nat} {t:UB} {x:Value} {h0:Int} {d:PyData} {slot:Nat} {wd:Bool} (S:fQ vp w h a md ds es ep t) (hx:El vp w h md (h0,x) d) (hn:d∉ds) (hl:ds.length < 120) (R:cg t h0 slot wd) (pl:Bool) :
  ∃ ds',List.Perm ds' (d::ds)/\pF vp w h md ds' (SetTable.insertAt es (t.put slot).2 (h0,x)) {(t.put slot).1 with plain:=pl}/\((!wd && ({(t.put slot).1 with plain:=pl}:UB).tooFull)=false->({(t.put slot).1 with plain:=pl}:UB).fill * 5 < ({(t.put slot).1 with plain:=pl}:UB).mask * 3):=by
 obtain ⟨r1,n,r2,r3⟩:=R;have hs:∀ i,t.slot slot≠.live i:=λi z=>by rw [r1] at z;split at z<;>cases z
 have hm:slot<=t.mask:=by
  rw [<- r2];unfold sq
  have bound:∀ q (c:Pc),c.j+c.more<=t.mask->(steps t.mask q c).j+(steps t.mask q c).more<=t.mask:=by
   intro q
   induction q with
   | zero=>intro c hc;exact hc
   | succ q ih=>
    intro c hc;simp only [steps];refine ih _ ?_;unfold step;split
    ·show c.j+1+(c.more - 1)<=t.mask;omega
    ·show (SetTable.leap t.mask c.i c.pt).1+(SetTable.runEnd t.mask (SetTable.leap t.mask c.i c.pt).1 - (SetTable.leap t.mask c.i c.pt).1)<=t.mask;have:(SetTable.leap t.mask c.i c.pt).1 < t.mask+1:=TL _ (by omega);unfold SetTable.runEnd;split<;>omega
  have hb:=bound n (c0 t.mask h0) (by
   show SetTable.bits h0 % (t.mask+1)+(SetTable.runEnd t.mask (SetTable.bits h0 % (t.mask+1)) - SetTable.bits h0 % (t.mask+1))<=t.mask;have:SetTable.bits h0 % (t.mask+1) < t.mask+1:=TL _ (by omega);unfold SetTable.runEnd
   split<;>omega)
  omega
 obtain ⟨T1,T2⟩:=G7 (x:=x) S.tb hs hm r2 r3;refine ⟨_,sN ds (t.put slot).2 d,⟨T1.flags rfl rfl rfl,S.ld,?_,?_,uy _ S.el hx⟩,λhq=>?_⟩
 ·exact Bs (sN ds _ d).symm (Rv.mpr ⟨hn,S.nd⟩)
 ·rw [(sN ds _ d).length_eq];simp;omega
 ·cases wd with
  | true=>have:=T2 (by simpa using r1);show (t.put slot).1.fill * 5 < t.mask * 3;rw [this];exact S.tb.tf
  | false=>simp only [RT,Bool.true_and] at hq;unfold SetTable.tooFull at hq;simp only [decide_eq_false_iff_not] at hq;exact Nat.lt_of_not_le hq
theorem qo {md:Bool} {h:Heap} {ds:Uq} {es:Um} {t:UB} (S:pF vp w h md ds es t) {wanted:Nat} (hw:wanted < 1024) (hn:es.size * 5 < wanted * 3\/es.size<=4) :
  ∃ t' order ds',t.relaid (es.map (·.1)) wanted=some (t',order)/\List.Perm ds' ds/\pF vp w h md ds' (order.filterMap (es[·]?)) t'/\Tab (order.filterMap (es[·]?)) t'/\List.Perm order.toList (List.range es.size)/\t'.mask+1=SetTable.sizeAbove wanted:=by
 obtain ⟨t',order,e1,e2,e3,e4,e5,e6,_⟩:=CC (es:=es) (t:=t) hw hn;obtain ⟨ds',p1,p2⟩:=qm e3.symm S.el;exact ⟨t',order,ds',e1,p1.symm,⟨e2.N9,by rw [e4];exact S.ld,Bs p1 S.nd,by rw [<- p1.length_eq];exact S.ln,p2⟩,e2,e5,e6⟩
theorem yu {n:Nat} (h:n<=121):SetTable.grown n < 1024/\(n * 5 < SetTable.grown n * 3\/n<=4):=by unfold SetTable.grown;rw [if_neg (by omega)];omega
theorem pF.at {md:Bool} {h:Heap} {a:Addr} {ds:Uq} {es:Um} {ep:Nat} {t:UB} (S:pF vp w h md ds es t) (T:Tab es t) (ho:h.get? a=some (bL es ep t)):fQ vp w h a md ds es ep t:=⟨ho,T,S.ld,S.nd,S.ln,S.el⟩
theorem ER {md:Bool} {a:Addr} {ds:Uq} {es:Um} {ep:Nat} {t:UB} {wanted:Nat} {Q:Unit->UD->Prop} (ho:s.heap.get? a=some (bL es ep t)) (S:pF vp w s.heap md ds es t) (hw:wanted < 1024) (hn:es.size * 5 < wanted * 3\/es.size<=4)
  (h:∀ h' ds' es' ep' t',Heap.SameBut a s.heap h'->fQ vp w h' a md ds' es' ep' t'->List.Perm ds' ds->t'.mask+1=SetTable.sizeAbove wanted->Q () {s with heap:=h'}):wpAny (model P w) A (setRelay a wanted) Q E s:=by
 unfold setRelay;refine PQ (eO ho S.tb.fits ?_);dsimp only;have hsz:=(oA wanted hw).2;have hsl:¬ SetTable.sizeAbove wanted > sizeLine:=by rw [Ro];simp only [PZ,Qo,Rc] at hsz;omega
 rw [if_neg hsl];obtain ⟨t',order,ds',e1,e2,e3,e4,_,e5⟩:=qo S hw hn;refine PQ ?_;rw [e1];show wpAny _ _ (if ((order.filterMap (es[·]?)).size != es.size)=true then _ else pure (order.filterMap (es[·]?),t')) _ _ _;have hse:(order.filterMap (es[·]?)).size=es.size:=by rw [e3.size,S.size,e2.length_eq]
 rw [if_neg (by simp [hse])];refine PU ?_;dsimp only;refine oC ho (by rw [hse,S.size];have:=S.ln;omega) λh' g1 g2=>?_;exact h h' ds' _ _ t' g2 ((e3.keep (oB ho g2)).at e4 g1) e2 e5
end
section
variable {P:UA} {w:World} {A:UC} {E:Uj} {s:UD} {vp:Value->Prop}
theorem ES {md:Bool} {a:Addr} {ds:Uq} {es:Um} {ep:Nat} {t:UB} {x:Value} {h0:Int} {d:PyData} {slot:Nat} {wd:Bool} (S:fQ vp w s.heap a md ds es ep t) (hx:El vp w s.heap md (h0,x) d) (hn:d∉ds) (hl:ds.length < 120) (R:cg t h0 slot wd) (pl:Bool) {R':Bool->UD->Prop}
  (q:∀ h' ds',Heap.SameBut a s.heap h'->kg vp w h' a md ds'->List.Perm ds' (d::ds)->R' true {s with heap:=h'}) :
  wpAny (model P w) A (do
   storeSet a (SetTable.insertAt es (t.put slot).2 (h0,x)) {(t.put slot).1 with plain:=pl}
   if (!wd && ({(t.put slot).1 with plain:=pl}:UB).tooFull)=true then do
    setRelay a (SetTable.grown (es.size+1))
    pure true
   else pure true) R' E s:=by
 obtain ⟨ds',p1,H,p3⟩:=sP S hx hn hl R pl;have hsz:(SetTable.insertAt es (t.put slot).2 (h0,x)).size=es.size+1:=iI;have hle:=S.ln;have hes:=S.size;refine PQ (oC S.ob (by rw [hsz];omega) λh' g1 g2=>?_);have H':=H.keep (oB S.ob g2);by_cases hf:(!wd && ({(t.put slot).1 with plain:=pl}:UB).tooFull)=true
 ·rw [if_pos hf];obtain ⟨k1,k2⟩:=yu (n:=es.size+1) (by omega);refine PQ (ER g1 H' k1 (by rw [hsz];exact k2) λh2 ds2 es2 ep2 t2 f1 f2 f3 _=>PU ?_);exact q h2 ds2 (g2.trans f1) ⟨_,_,_,f2⟩ (f3.trans p1)
 ·rw [if_neg hf];exact PU (q h' ds' g2 ⟨_,_,_,H'.at (H'.tb.tab (p3 (by simpa using hf))) g1⟩ p1)
theorem CD {es:Um} {t:UB} (T:Tab es t) (h0:Int):∃ slot wd,t.freeSlot h0=some (slot,wd)/\cg t h0 slot wd:=by
 obtain ⟨N,n1,n2,n3⟩:=T.free h0;have hg:=qU (hashAt:=λ_=>h0+1) n2 n3 (10 * SetTable.turns t.mask) 0 (t.probeStart h0) (by omega) (by unfold SetTable.turns;omega) rfl (.inl rfl);rcases hg with ⟨dm,e1,e2,_⟩ | ⟨k,i,q,_,_,_,_,e5,_⟩
 ·have hp:t.probe (λ_=>h0+1) h0 (t.probeStart h0)=some (.empty (sq t.mask h0 N) dm):=e1;unfold SetTable.freeSlot;rw [hp];rcases e2 with rfl | ⟨m,m1,rfl,m3⟩
  ·exact ⟨_,_,rfl,by simpa using n2,N,rfl,n3⟩
  ·exact ⟨_,_,rfl,by simpa using m3,m,rfl,λm' hm'=>n3 m' (by omega)⟩
 ·omega
theorem yw {md:Bool} {h:Heap} {ds:Uq} {es:Um} {t:UB} (S:pF vp w h md ds es t) {wanted:Nat} (hw:wanted < 1024) (hn:es.size * 5 < wanted * 3\/es.size<=4) :
  ∃ es' t' ds',relayAll t es wanted=(es',t',false)/\List.Perm ds' ds/\pF vp w h md ds' es' t'/\Tab es' t'/\es'.size=es.size:=by
 obtain ⟨t',order,ds',e1,e2,e3,e4,e5,_⟩:=qo S hw hn;have hse:(order.filterMap (es[·]?)).size=es.size:=by rw [e3.size,S.size,e2.length_eq]
 refine ⟨_,_,ds',?_,e2,e3,e4,hse⟩;unfold relayAll;rw [e1];dsimp only;rw [if_pos];simp only [coversAll,PV];exact ⟨List.isPerm_iff.mpr e5,e4.fits⟩
theorem Kt {md:Bool} {a:Addr} {ds:Uq} {x:Value} {h0:Int} {d:PyData} {Q:Bool->UD->Prop} (S:kg vp w s.heap a md ds) (hx:El vp w s.heap md (h0,x) d) (hu:A.units+20 < cLine) (hl:ds.length < 120)
  (q1:d∈ds->Q false s) (q2:d∉ds->∀ h' ds',Heap.SameBut a s.heap h'->kg vp w h' a md ds'->List.Perm ds' (d::ds)->Q true {s with heap:=h'}) :
  wpAny (model P w) A (setAddHashed a x h0) Q E s:=by
 obtain ⟨es,ep,t,S⟩:=S;unfold setAddHashed setAddHashedIn;refine QG (PQ (eO S.ob S.tb.fits ?_));dsimp only
 cases md with
 | true=>
  obtain ⟨b,hb⟩:=hx.refs;dsimp only at hb;subst hb;rw [Ks];simp only [P8,QK];obtain ⟨N,n1,n2,n3⟩:=S.tb.free h0;have hle:=S.tb.le;unfold setSearch;refine PQ (yq (N:=N) (adding:=true) S hx hu n2 n3 (by unfold SetTable.turns;omega) (λhn slot wd R=>?_) (λhm i hi=>?_) 100000 0 none (by omega) (by omega) rfl (.inl rfl) λm hm=>by omega)
  ·dsimp only;refine PQ (eO S.ob S.tb.fits ?_);dsimp only
   have fin:∀ pl,wpAny (model P w) A (do
     storeSet a (SetTable.insertAt es (t.put slot).2 (h0,.ref b)) {(t.put slot).1 with plain:=pl}
     if (!wd && ({(t.put slot).1 with plain:=pl}:UB).tooFull)=true then do
      setRelay a (SetTable.grown (es.size+1))
      pure true
     else pure true) Q E s:=λpl=>ES S hx hn hl R pl (q2 hn)
   refine RA (λ_=>PQ (O0 hx λbv=>?_)) λ_=>PQ (PU (fin (t.put slot).1.plain))
   cases bv with
   | true=>exact fin (t.put slot).1.plain
   | false=>exact fin false
  ·simp only [QB];exact PU (q1 hm)
 | false=>
  obtain ⟨y,u,rfl,e2,e3⟩:=hx.text;dsimp only at e2 e3;rw [S.scan e2];simp only [QB];unfold setAddByScan;refine PQ ?_;refine PQ (RH ?_);have hk:(strKind P w).is y x=true:=by rw [e2];show Value.isStrOf y (.str y u)=true;simp [Value.isStrOf]
  have ti:=EO (P:=P) S.el y;rw [show h0=(strKind P w).hash y from e3];refine PQ (wpAny_setScan_of (knd:=strKind P w) hk S.ob rfl S.tb.fits (yr S.el) ?_);rw [<- show h0=(strKind P w).hash y from e3]
  cases hr:es.toList.findIdx? (λe=>(strKind P w).is y e.2) with
  | some j=>rw [hr] at ti;dsimp only at ti ⊢;exact PU (PU (q1 (Qq ti)))
  | none=>
   rw [hr] at ti;dsimp only at ti ⊢;obtain ⟨slot,wd,f1,R⟩:=CD S.tb h0;obtain ⟨ds1,_,H1,_⟩:=sP S hx ti hl R (t.put slot).1.plain;have hfit:(t.put slot).1.fits (SetTable.insertAt es (t.put slot).2 (h0,x)).size=true:=H1.tb.fits;have hlay:layNew t es h0 x=(SetTable.insertAt es (t.put slot).2 (h0,x),(t.put slot).1,wd,false):=by unfold layNew;rw [f1];dsimp only;unfold SetTable.orStandIn;rw [if_pos hfit,hfit];rfl
   rw [hlay];dsimp only;refine PQ (PU ?_);have hsz:(SetTable.insertAt es (t.put slot).2 (h0,x)).size=es.size+1:=iI;have hle:=S.ln;have hes:=S.size
   have fin:∀ pl,wpAny (model P w) A (do
     storeSet a (SetTable.insertAt es (t.put slot).2 (h0,x)) {(t.put slot).1 with plain:=pl}
     if (!wd && ({(t.put slot).1 with plain:=pl}:UB).tooFull)=true then do
      (match (relayAll {(t.put slot).1 with plain:=pl} (SetTable.insertAt es (t.put slot).2 (h0,x)) (SetTable.grown (SetTable.insertAt es (t.put slot).2 (h0,x)).size)).2.2 with | true=>rule "set.scan.the-table-gave-way" | false=>pure ())
      storeSet a (relayAll {(t.put slot).1 with plain:=pl} (SetTable.insertAt es (t.put slot).2 (h0,x)) (SetTable.grown (SetTable.insertAt es (t.put slot).2 (h0,x)).size)).1 (relayAll {(t.put slot).1 with plain:=pl} (SetTable.insertAt es (t.put slot).2 (h0,x)) (SetTable.grown (SetTable.insertAt es (t.put slot).2 (h0,x)).size)).2.1
      pure (some true)
     else pure (some true)) (λr s'=>wpAny (model P w) A (match r with | some added=>pure added | none=>setAddHashedIn a x h0 99999) Q E s') E s:=λpl=>by
    obtain ⟨ds',p1,H,p3⟩:=sP S hx ti hl R pl;refine PQ (oC S.ob (by rw [hsz];omega) λh' g1 g2=>?_);have H':=H.keep (oB S.ob g2);by_cases hf:(!wd && ({(t.put slot).1 with plain:=pl}:UB).tooFull)=true
    ·rw [if_pos hf];obtain ⟨k1,k2⟩:=yu (n:=es.size+1) (by omega);obtain ⟨es2,t2,ds2,m1,m2,m3,m4,m5⟩:=yw (wanted:=SetTable.grown (SetTable.insertAt es (t.put slot).2 (h0,x)).size) H' (by rw [hsz];exact k1) (by rw [hsz];exact k2);rw [m1];dsimp only;refine PQ (PU ?_);refine PQ (oC (s:={s with heap:=h'}) g1 (by rw [m5,hsz];omega) λh2 g3 g4=>PU (PU ?_));exact q2 ti h2 ds2 (g2.trans g4) ⟨_,_,_,(m3.keep (oB g1 g4)).at m4 g3⟩ (m2.trans p1)
    ·rw [if_neg hf];exact PU (PU (q2 ti h' ds' g2 ⟨_,_,_,H'.at (H'.tb.tab (p3 (by simpa using hf))) g1⟩ p1))
   refine RA (λ_=>PQ (O0 hx λbv=>?_)) λ_=>PQ (PU (fin (t.put slot).1.plain))
   cases bv with
   | true=>exact fin (t.put slot).1.plain
   | false=>exact fin false
end
theorem fx {α:Type} {l:List α} {i:Nat} (h:i < l.length):List.Perm (l[i]::l.eraseIdx i) l:=by
 rw [Tc];have e:=RP i l;rw [QT h] at e
 conv=>rhs;rw [<- e]
 exact List.perm_middle.symm
theorem Bt {α:Type} (next:Nat->Nat):∀ (fuel k:Nat) (left:List α) (out:Array α),fuel=left.length->List.Perm (pickOrder.go next fuel k left out).toList (out.toList++left)
 | 0,k,left,out,h=>by have:left=[]:=Sb.mp h.symm;subst this;simp [pickOrder.go]
 | fuel+1,k,left,out,h=>by
  have hpos:0 < left.length:=by omega
  have hlt:next k % left.length < left.length:=TL _ hpos;simp only [pickOrder.go];rw [P9 hlt];dsimp only;refine (Bt next fuel (k+1) _ _ (by rw [SE hlt];omega)).trans ?_;rw [Array.toList_push,T9,List.singleton_append];refine List.Perm.append_left _ ?_;exact fx hlt
theorem CF {α:Type} (next:Nat->Nat) (xs:Array α):List.Perm (pickOrder next xs).toList xs.toList:=by unfold pickOrder;simpa using Bt next xs.size 0 xs.toList #[] (by simp)
section
variable {P:UA} {w:World} {A:UC} {E:Uj} {s:UD} {vp:Value->Prop}
theorem wL {src:Source} {n:Nat} {Q:Nat->UD->Prop} (hn:n≠0) (h:∀ i,i < n->Q i {s with drawn:=s.drawn.bump src}):wpAny (model P w) A (choose src n) Q E s:=λΓ p hΓ=>by unfold choose;rw [Sem.wp_choose];exact ⟨hn,h _ (TL _ (Nat.pos_of_ne_zero hn))⟩
theorem Bu {α:Type}:∀ (n:Nat) (xs:List α) (s:UD) (Q:List α->UD->Prop),n=xs.length->(∀ L dr,List.Perm L xs->Q L {s with drawn:=dr})->wpAny (model P w) A (drawOrder n xs) Q E s
 | 0,xs,s,Q,h,q=>by have:xs=[]:=Sb.mp h.symm;subst this;exact PU (q [] s.drawn (.refl _))
 | n+1,[],s,Q,h,q=>by simp at h
 | n+1,x::xs,s,Q,h,q=>by unfold drawOrder;refine PQ (wL (by simp) λi hi=>?_);rw [P9 hi];dsimp only;refine PQ (Bu n _ _ _ (by rw [SE hi];omega) λL dr p=>PU ?_);exact q _ dr ((p.cons _).trans (fx hi))
theorem lQ {Q:Bool->UD->Prop} (h:Q (cI w) s):wpAny (model P w) A setsByText Q E s:=by unfold setsByText;exact PQ (TB (PU h))
end
section
variable {P:UA} {w:World} {A:UC} {E:Uj} {s:UD} {vp:Value->Prop}
theorem fQ.keep {h h':Heap} {a:Addr} {md:Bool} {ds:Uq} {es:Um} {ep:Nat} {t:UB} (S:fQ vp w h a md ds es ep t) (k:∀ b o,h.get? b=some o->h'.get? b=some o):fQ vp w h' a md ds es ep t:=
 ⟨k _ _ S.ob,S.tb,S.ld,S.nd,S.ln,Paired.tV S.el λ_ _ x=>El.keep x λb o _ _ e _ _=>k b o e⟩
end
section
variable {P:UA} {w:World} {A:UC} {E:Uj} {s:UD} {vp:Value->Prop}
theorem ET {h:Heap} {a:Addr} {led:Bool} {md:Bool} (ho:h.get? a=some (bL #[] 0 (.fresh 0 0 led))) (hl:led=true\/cI w=true):kg vp w h a md []:=
 ⟨#[],0,_,ho,⟨List.Pairwise.nil,List.Pairwise.nil,rfl,(by decide:(0:Nat) * 5 < 7 * 3),λj hj=>by simp [SetTable.fresh] at hj,λj hj=>by simp [SetTable.fresh] at hj,λj hj=>by simp [SetTable.fresh] at hj,Ik.1,λi e j h1=>by simp at h1⟩,hl,List.nodup_nil,by simp,.nil⟩
end
theorem sub_tuple_set:isSubtype (.type "tuple") (.type "set")=pure false:=by rw [T6];kernel_rfl
theorem sub_tuple_frozenset:isSubtype (.type "tuple") (.type "frozenset")=pure false:=by rw [T6];kernel_rfl
def Ku (md:Bool) (d:PyData):Prop:=aw d=true/\d.depth<=8/\cb d=true/\fS d=md
section
variable {P:UA} {w:World} {A:UC} {E:Uj} {s:UD} {vp:Value->Prop}
theorem EU {R:Result->UD->Prop} {I:Addr} {fp wr:Ur} {n:Nat} {Pv:Nat->Value->Prop} {St:Nat->Heap->Prop} {md:Bool} {ys:Uq} {h0:Heap} (W:Walks P w A.in1 I fp wr n Pv St) (S:Addr) (hSf:S∉fp) (hn:n=ys.length) (hl:n<=120) (hu:A.in1.units+20 < cLine)
  (hv:∀ i v,Pv i v->∃ y,ys[i]?=some y/\Ku md y/\vp v/\∃ as,Reads h0 v y as) (hw:∀ b o,h0.get? b=some o->b∉wr) (hS0:h0.get? S=none) (hit:∀ i h,St i h->∀ b∈wr,∀ o,h.get? b=some o->o.cls≠.type "tuple") :
  ∀ (k i:Nat) (s:UD) (ds:Uq),n - i=k->i<=n->St i s.heap->kg vp w s.heap S md ds->(∀ d,d∈ds<->d∈ys.take i)->ds.length<=i->(∀ b o,h0.get? b=some o->s.heap.get? b=some o) ->
   (∀ h' tk ds',kg vp w h' S md ds'->(∀ d,d∈ds'<->d∈ys)->(∀ b o,h0.get? b=some o->h'.get? b=some o)->R (.ok (.ret .none)) {s with heap:=h',toks:=tk}) ->
   codeAny (model P w) A (.builtin "set.update.loop" ⟨[.ref S,.ref I],[]⟩) R s:=by
 have hSw:S∉wr:=λh=>hSf (W.sub _ h);intro k
 induction k with
 | zero=>
  intro i s ds hk hi hst hS hm hd h0k hR;have hin:i=n:=by omega
  subst hin;refine Su SH ?_;rw [RY Q5 _];show wpAny _ A.in1 (pyNext (.ref I) >>= _) _ _ s;refine PQ (W.done s _ _ hst λh' tk kp=>?_);show wpAny _ A.in1 (ret Value.none) _ _ _;obtain ⟨es,ep,t,S'⟩:=hS;have kt:∀ b o vs n,s.heap.get? b=some o->o.cls=.type "tuple" -> o.data=.seq vs n->h'.get? b=some o:=λb o vs n e c _=>kp b o (λz=>hit _ _ hst b z o e c) e;exact PU (hR h' tk ds ⟨es,ep,t,kp _ _ hSw S'.ob,S'.tb,S'.ld,S'.nd,S'.ln,Paired.tV S'.el λ_ _ x=>El.keep x kt⟩ (λd=>by rw [hm,hn,List.take_length]) λb o e=>kp b o (hw b o e) (h0k b o e))
 | succ k ih=>
  intro i s ds hk hi hst hS hm hd h0k hR;have hlt:i < n:=by omega
  refine Su SH ?_;rw [RY Q5 _];show wpAny _ A.in1 (pyNext (.ref I) >>= _) _ _ s;refine PQ (W.item i s _ _ hlt hst λv h1 tk1 hP hst' kp=>?_);obtain ⟨y,hy,⟨y1,y2,y3,y4⟩,vy,as,ry⟩:=hv i v hP;obtain ⟨es,ep,t,S'⟩:=hS;have kt:∀ b o vs n,s.heap.get? b=some o->o.cls=.type "tuple" -> o.data=.seq vs n->h1.get? b=some o:=λb o vs n e c _=>kp b o (λz=>hit _ _ hst b z o e c) e;have h0k1:∀ b o,h0.get? b=some o->h1.get? b=some o:=λb o e=>kp b o (hw b o e) (h0k b o e);have S1:kg vp w h1 S md ds:=⟨es,ep,t,kp _ _ hSw S'.ob,S'.tb,S'.ld,S'.nd,S'.ln,Paired.tV S'.el λ_ _ x=>El.keep x kt⟩;have r1:Reads h1 v y as:=jr (λb o vs n e _ _=>h0k1 b o e) y1 ry;have ey:El vp w h1 md (pW w y,v) y:=⟨y1,y2,y3,rfl,y4,⟨as,r1⟩,vy⟩;show wpAny _ A.in1 (holding [v] (setAdd S v) >>= _) _ _ _;refine PQ (QG ?_);unfold setAdd;refine QG ?_;refine PQ (m8 y A.in1 {s with heap:=h1,toks:=tk1} v as _ _ y1 r1 (by omega) ?_);have htk:ys.take (i+1)=ys.take i++[y]:=by rw [List.take_add_one,hy];rfl
  refine Kt (s:={s with heap:=h1,toks:=tk1+m7 y}) S1 ey hu (by omega) (λhmem=>?_) λhnm h2 ds2 sb S2 p2=>?_
  ·refine PU ⟨TK Q5 _,ih (i+1) _ ds (by omega) hlt hst' S1 (λd=>?_) (by omega) h0k1 λh' tk ds' a b c=>hR h' tk ds' a b c⟩;rw [htk,Qg,<- hm];constructor
   ·exact .inl
   ·rintro (z | z)
    ·exact z
    ·rw [Qm.mp z];exact hmem
  ·obtain ⟨es1,ep1,t1,S1'⟩:=S1;refine PU ⟨TK Q5 _,ih (i+1) {s with heap:=h2,toks:=tk1+m7 y} ds2 (by omega) hlt (W.frame _ _ _ hst' λb hb o e=>(sb.2 b λz=>hSf (z▸hb)).trans e) S2 (λd=>?_) (by rw [p2.length_eq];simp;omega) (λb o e=>(sb.2 b λz=>?_).trans (h0k1 b o e)) λh' tk ds' a b c=>hR h' tk ds' a b c⟩
   ·rw [p2.mem_iff,htk,Qg,<- hm,PZ,Qm];exact Or.comm
   ·rw [z,hS0] at e;cases e
theorem sQ (a:Value) {Q₁:Uj} (h:Q₁ (.ref s.heap.objs.size) {s with heap:=s.heap.push (bL #[] 0 (.fresh 0 0 (!cI w)))}) :
  codeAny (model P w) A (.call (.builtin "set.__new__") ⟨[.type "set",a],[]⟩) (wants Q₁ E) s:=by
 refine codeAny_of_tree ?_;show wpAny _ A.in1 (do checkBuiltinCall "set.__new__" ⟨[.type "set",a],[]⟩;again (.builtin "set.__new__" ⟨[.type "set",a],[]⟩)) _ _ s;refine PQ (Sn (F.newCall_set_1 a) (PU ⟨TK F.plain_set_new _,Su F.entry_set_new ?_⟩));rw [RY F.plain_set_new _];unfold Builtin.«set.__new__» Builtin.Frozenset.newClass;have hsub:=sub_set_self;obtain ⟨hp,g,d,tk,os⟩:=s;dsimp only
 wp_walk
 refine TB (PU ?_);dsimp only;simp only [newObj];refine PQ (wpAny_alloc (PU ?_));exact PU h
structure Src (P:UA) (w:World) (T:String) (l:Addr) (items:Uy) (OK:Heap->Prop):Prop where
 ob:∀ h,OK h->∃ od n sl,h.get? l=some {cls:=.type T,dict:=od,data:=.seq items n,slots:=sl}
 kp:∀ h h',OK h->(∀ o,h.get? l=some o->h'.get? l=some o)->OK h'
 s1:isSubtype (.type T) (.type "set")=pure false
 s2:isSubtype (.type T) (.type "frozenset")=pure false
 nd:(Value.type T == Value.type "dict")=false
 it:∀ (A:UC) (E:Uj) (s:UD),A.handled=none->OK s.heap->∃ (oI:Obj) (St:Nat->Heap->Prop),oI.cls≠.type "tuple" /\
  (∀ Q:Uj,Q (.ref s.heap.objs.size) {s with heap:=s.heap.push oI}->wpAny (model P w) A (pyIter (.ref l)) Q E s) /\
  (∀ A':UC,A'.handled=none->Walks P w A' s.heap.objs.size [s.heap.objs.size,l] [s.heap.objs.size] items.size (λi v=>items[i]?=some v) St)/\St 0 (s.heap.push oI)/\(∀ i h,St i h->∀ o,h.get? s.heap.objs.size=some o->o.cls≠.type "tuple")
theorem src_list (l:Addr) (items:Uy):Src P w "list" l items (λh=>h.IsList l items) where
 ob:=λh ⟨⟨c,d,da,sl⟩,ho,hc,n,hd⟩=>⟨d,n,sl,by cases hc;cases hd;exact ho⟩
 kp:=λh h' x k=>x.at k
 s1:=F.sub_list_set
 s2:=F.sub_list_frozenset
 nd:=by decide
 it:=λA E s hh hl=>by
  have hlS:l < s.heap.objs.size:=by obtain ⟨_,e,_⟩:=hl;exact P1 e
  exact ⟨{cls:=.type "list_iterator",data:=.fields #[.ref l,.int 0 0]},_,λz=>absurd (Tg z) (by decide),λQ q=>wpAny_pyIter_list hl q,λA' h'=>Walks.list h' _ l (Qh hlS) items,⟨⟨_,P4 _ rfl,rfl,rfl⟩,hl.push _⟩,λi h ⟨⟨o',e,c,_⟩,_⟩ o eo=>by
   rw [e] at eo;cases eo;rw [c]
   exact λz=>absurd (Tg z) (by decide)⟩
theorem src_tuple (l:Addr) (items:Uy):Src P w "tuple" l items (λh=>h.IsTuple l items) where
 ob:=λh ⟨⟨c,d,da,sl⟩,ho,hc,n,hd⟩=>⟨d,n,sl,by cases hc;cases hd;exact ho⟩
 kp:=λh h' ⟨o,e,r⟩ k=>⟨o,k _ e,r⟩
 s1:=sub_tuple_set
 s2:=sub_tuple_frozenset
 nd:=by decide
 it:=λA E s hh hl=>by
  have hlS:l < s.heap.objs.size:=by obtain ⟨_,e,_⟩:=hl;exact P1 e
  exact ⟨{cls:=.type "tuple_iterator",data:=.fields #[.ref l,.int 0 0]},_,λz=>absurd (Tg z) (by decide),λQ q=>SX hl q,λA' h'=>Walks.tuple h' _ l (Qh hlS) items,⟨⟨_,P4 _ rfl,rfl,rfl⟩,hl.push _⟩,λi h ⟨⟨o',e,c,_⟩,_⟩ o eo=>by
   rw [e] at eo;cases eo;rw [c]
   exact λz=>absurd (Tg z) (by decide)⟩
end
section
variable {P:UA} {w:World} {A:UC} {E:Uj} {s:UD} {vp:Value->Prop}
theorem readsAll_get {h:Heap}:∀ {vs:Us} {ds:Uq} {as:Ur},ReadsAll h vs ds as->∀ {i:Nat} {v:Value},vs[i]?=some v->∃ d bs,ds[i]?=some d/\Reads h v d bs
 | _,_,_,.nil,i,v,e=>by simp at e
 | _,_,_,.cons r _,0,v,e=>by simp at e;subst e;exact ⟨_,_,rfl,r⟩
 | _,_,_,.cons _ t,i+1,v,e=>by simpa using readsAll_get t (i:=i) (by simpa using e)
set_option maxHeartbeats 3200000 in
theorem EV {T:String} {l:Addr} {items:Uy} {OK:Heap->Prop} {md:Bool} {ys:Uq} {as:Ur} {Q:Uj} (K:Src P w T l items OK) (hh:A.handled=none) (hl:OK s.heap) (hr:ReadsAll s.heap items.toList ys as) (he:∀ y∈ys,Ku md y) (hvp:∀ v∈items.toList,vp v) (hn:ys.length<=120) (hu:A.units+25 < cLine)
  (h:∀ h' tk ds,kg vp w h' s.heap.objs.size md ds->(∀ d,d∈ds<->d∈ys)->(∀ b o,s.heap.get? b=some o->h'.get? b=some o)->Q (.ref s.heap.objs.size) {s with heap:=h',toks:=tk}) :
  wpAny (model P w) A (call (.type "set") [.ref l]) Q E s:=by
 have hr0:=hr;have hlen:items.size=ys.length:=by have:=readsAll_len hr;simpa using this
 obtain ⟨c,tl,hmro⟩:=Sv.mro;have hmade:=Sv.made;have hsub:=Sv.sub;refine wpAny_call (codeAny_of_tree ?_);show wpAny _ _ (callAny (.type "set") _) _ _ _;refine PU ⟨Code.quiet_builtin _ (by decide +kernel),Su F.entry_type_call ?_⟩;rw [Around.under_plain (weight_type_call_type "set" [.ref l] []) rfl];have h1:=Sv.notType;have h2:=Sv.canCreate;have hct:=F.typeCall_set_1 (.ref l)
 repeat (any_goals (first | assumption | wp_step))
 refine Ti (sQ (.ref l) (E:=E) (Q₁:=λobj s₁=>obj=.ref s.heap.objs.size/\s₁={s with heap:=s.heap.push (bL #[] 0 (.fresh 0 0 (!cI w)))}) ⟨rfl,rfl⟩) λr s₁ hr=>?_
 cases r with
 | error e=>exact hr
 | ok fl=>
  cases fl with
  | ret obj=>
   obtain ⟨rfl,rfl⟩:=hr;have hS:(s.heap.push (bL #[] 0 (.fresh 0 0 (!cI w)))).get? s.heap.objs.size=some (bL #[] 0 (.fresh 0 0 (!cI w))):=P4 _ rfl;have hT:Shared.TypeIs {s with heap:=s.heap.push (bL #[] 0 (.fresh 0 0 (!cI w)))} (.ref s.heap.objs.size) "set" := ⟨_,hS,rfl⟩;have hli:=Sv.init.lookup;have hbi:=Sv.init.bind (.ref s.heap.objs.size)
   repeat (any_goals (first | assumption | wp_step))
   refine Ti (codeAny_call_builtin (R:=wants (λr s₂=>r=.none/\∃ h' tk ds,s₂={s with heap:=h',toks:=tk}/\kg vp w h' s.heap.objs.size md ds/\(∀ d,d∈ds<->d∈ys)/\(∀ b o,s.heap.get? b=some o->h'.get? b=some o)) E) Sv.init.plain F.entry_set_init (check_set_init_1 hT ?_)) λr₂ s₂ hr₂=>?_
   ·obtain ⟨odict,nl,oslots,hol⟩:=K.ob _ hl;have hol':(s.heap.push (bL #[] 0 (.fresh 0 0 (!cI w)))).get? l=some {cls:=.type T,dict:=odict,data:=.seq items nl,slots:=oslots}:=PR _ hol;have hsls:=K.s1;have hslf:=K.s2;have hne:=K.nd;have hl1:OK (s.heap.push (bL #[] 0 (.fresh 0 0 (!cI w)))):=K.kp _ _ hl λo e=>PR _ e;have hh3:A.in1.in1.in1.handled=none:=by simp [hh]
    obtain ⟨oI,St,i1,i2,i3,i4,i5⟩:=K.it A.in1.in1 (λe s'=>wants (λr s₂=>r=.none/\∃ h' tk ds,s₂={s with heap:=h',toks:=tk}/\kg vp w h' s.heap.objs.size md ds/\(∀ d,d∈ds<->d∈ys)/\(∀ b o,s.heap.get? b=some o->h'.get? b=some o)) E (.error e) s') {s with heap:=s.heap.push (bL #[] 0 (.fresh 0 0 (!cI w)))} (by simp [hh]) hl1;unfold Builtin.«set.__init__» noKeywords Builtin.Frozenset.updateFrom;generalize hPI:pyIter=PI
    wp_walk
    subst hPI;refine i2 _ ?_;refine PQ (wpAny_runValue ?_);have hlS:l < s.heap.objs.size:=P1 hol;have hsz:(s.heap.push (bL #[] 0 (.fresh 0 0 (!cI w)))).objs.size=s.heap.objs.size+1:=Qv _ _;have hSf:s.heap.objs.size∉[(s.heap.push (bL #[] 0 (.fresh 0 0 (!cI w)))).objs.size,l]:=by rw [hsz];simp only [PZ,Qm,Qo,Rc,not_or];exact ⟨Qh (RL _),Sm hlS⟩
    have hS0:s.heap.get? s.heap.objs.size=none:=by
     cases e:s.heap.get? s.heap.objs.size with
     | none=>rfl
     | some o=>exact absurd (P1 e) (Qk _)
    refine EU (vp:=vp) (A:=A.in1.in1) (h0:=s.heap) (ys:=ys) (md:=md) (i3 A.in1.in1.in1 hh3) s.heap.objs.size hSf hlen (by omega) (by show A.units+1+1+1+20 < cLine;omega) (λi v hv=>?_) (λb o e hb=>?_) hS0 (λi h st b hb o e=>?_) (items.size - 0) 0 _ [] rfl (Rf _) i4 (ET (PR _ hS) ?_) (λd=>by simp) (Rf _) (λb o e=>PR _ (PR _ e)) λh' tk ds g1 g2 g3=>?_
    ·obtain ⟨d,bs,e1,e2⟩:=readsAll_get hr0 (i:=i) (by rw [Qt];exact hv);exact ⟨d,e1,he d (Qq e1),hvp v (Qq (by rw [Qt];exact hv)),bs,e2⟩
    ·have:=P1 e;rw [Qm.mp hb] at this;have e2:(s.heap.push (bL #[] 0 (.fresh 0 0 (!cI w)))).objs.size < s.heap.objs.size:=this;rw [hsz] at e2;exact absurd e2 (Nat.not_lt.mpr (Rq _))
    ·exact i5 i h st o (by rw [Qm.mp hb] at e;exact e)
    ·cases cI w
     ·exact .inl rfl
     ·exact .inr rfl
    ·refine PU ?_;show wpAny _ _ (ret Value.none) _ _ _;exact PU ⟨rfl,h',tk,ds,rfl,g1,g2,g3⟩
   ·cases r₂ with
    | error e=>exact hr₂
    | ok fl₂=>
     cases fl₂ with
     | ret r=>
      obtain ⟨rfl,h',tk,ds,rfl,hS',hm',hk'⟩:=hr₂
      repeat (any_goals (first | assumption | wp_step))
      exact h _ _ _ hS' hm' hk'
     | _=>exact hr₂.elim
  | _=>exact hr.elim
end
abbrev iK (v:Value) (i:Nat) (o:Value) (n ep:Nat):Obj:={cls:=.type "set_iterator",dict:=none,data:=.fields #[v,.int i 0,o,.int n 0,.int ep 0],slots:=#[]}
theorem sR:entryFor table "set.__iter__" = some Builtin.«frozenset.__iter__» := entryFor_alias (id' := "frozenset.__iter__") (by kernel_rfl) rfl (by decide +kernel) (by kernel_rfl)
theorem gj:entryFor table "set_iterator.__next__" = some Builtin.«set_iterator.__next__» := entryFor_of_tree (by kernel_rfl)
theorem bM:Slot "set_iterator" "__next__" "set_iterator.__next__" :=
 .of (owner := "set_iterator") (n := "__next__") (by rw [typeLookup_type,builtinLookup_eq_fast];kernel_rfl) (by decide +kernel) (by decide +kernel) (by decide +kernel)
  (by first | exact .inl (by decide +kernel) | exact .inr (by decide +kernel)) (by rw [T6];kernel_rfl)
theorem yx:Manifest.owners.lookup (String.ofList ['r', 'o', 't', 'a', 'r', 'e', 't', 'i', '_', 't', 'e', 's'].reverse)=some Manifest.sig_set_iterator:=by kernel_rfl
theorem gQ (a:Value):argsOk "set_iterator.__next__" ⟨[a],[]⟩:=by unfold argsOk;rw [signature?_of (id := "set_iterator.__next__") (n:=['_', '_', 't', 'x', 'e', 'n', '_', '_']) (o:=['r', 'o', 't', 'a', 'r', 'e', 't', 'i', '_', 't', 'e', 's']) (by kernel_rfl) yx];kernel_rfl
section
variable {P:UA} {w:World} {A:UC} {E:Uj} {s:UD} {vp:Value->Prop}
theorem pG {I:Addr} {v:Value} {i:Nat} {o:Value} {n ep:Nat} {k:Nat} {x:Value} {Q:Unit->UD->Prop} (hit:s.heap.get? I=some (iK v i o n ep)) (hk:k < 5)
  (q:∀ h',h'.get? I=some {cls:=.type "set_iterator",dict:=none,data:=.fields ((#[v,.int i 0,o,.int n 0,.int ep 0]:Uy).setIfInBounds k x),slots:=#[]}->Heap.SameBut I s.heap h'->Q () {s with heap:=h'}):wpAny (model P w) A (setField (.ref I) k x) Q E s:=by
 refine wpAny_setField hit rfl (by simpa using hk) (q _ ?_ (SK ..));have:=Rx (Obj.mapFields (·.setIfInBounds k x)) hit (Obj.isFreed_of_fields (Obj.data_mapFields rfl _));rw [this];rfl
theorem fz {I:Addr} {v:Value} {i:Nat} {o:Value} {n ep:Nat} (hit:s.heap.get? I=some (iK v i o n ep)):s.TypeIs (.ref I) "set_iterator" := ⟨_,hit,rfl⟩
theorem Bv {I:Addr} {h0:Heap} {B:Builtin->Prop} {Q:Option Value->UD->Prop} (hh:A.handled=none) (hQ:∀ h',Heap.ExtBut I h0 h'->Q none {s with heap:=h'}) (he:Heap.ExtBut I h0 s.heap) :
  wpAny (model P w) A.in1 (newExc (.type "StopIteration") [] >>= λe=>(raiseNew e:Sem PySem.Fin)) (λfin s'=>∃ r,fin=.done (.ret r)/\wpAny (model P w) A (pure (some r)) Q E s') (λe s'=>wpAny (model P w) A (do if <- isInstance e (.type "StopIteration") then pure none else throw e) Q E s') s:=by
 refine PQ ?_;simp only [newExc,newTuple];refine PQ (QD ?_ (by size_fits));refine PQ (m:=firstArgMember _ _) (Sn (a:=Value.none) (by first | rfl | (simp only [firstArgMember];rfl)) ?_);refine QD ?_ (by size_fits);simp only [raiseNew];refine PQ (wpAny_handled ?_);rw [show A.in1.handled=none from hh];refine PQ (PU (wpAny_throw ?_));refine PQ (Tv (T := "StopIteration") (b:=true) ⟨_,P4 _ rfl,rfl⟩ isSubtype_stop ?_);exact PU (hQ _ ((he.push _).push _))
end
section
variable {P:UA} {w:World} {A:UC} {E:Uj} {s:UD} {vp:Value->Prop}
variable {I a T:Addr} {i n ep sl:Nat} {es:Um} {t:UB}
theorem qV {v:Value} {Q:PySem.Fin->UD->Prop} {E':Uj} (hit:s.heap.get? I=some (iK v i (.ref a) n ep)) (ob:s.heap.get? a=some (bL es ep t)) (ft:t.fits es.size=true) (hn:es.size=n)
  (q:wpAny (model P w) A (match v with
   | .int slot _=>do
    match <- setNext a slot.toNat i ep with
    | some (x,next)=>
     setField (.ref I) 0 (rawInt next)
     setField (.ref I) 1 (rawInt ((i:Int)+1))
     ret x
    | none=>setField (.ref I) 2 .none;raiseNew (<- newExc (.type "StopIteration") [])
   | first=>do
    let some places <- seqItems? first | unsupported "internal:set_iterator"
    match places[i]? with
    | some (.int place _)=>
     let x <- setNextDrawn a place.toNat ep
     setField (.ref I) 1 (rawInt ((i:Int)+1))
     ret x
    | some _=>unsupported "internal:set_iterator"
    | none=>setField (.ref I) 0 (rawInt 0);setField (.ref I) 2 .none;raiseNew (<- newExc (.type "StopIteration") [])) Q E' s) :
  wpAny (model P w) A (Builtin.«set_iterator.__next__» ⟨[.ref I],[]⟩) Q E' s:=by
 unfold Builtin.«set_iterator.__next__»;refine PQ (Sn (a:=(Value.ref I,[])) rfl ?_);dsimp only;refine PQ (wpAny_fieldsOf hit rfl ?_);dsimp only;refine PQ (wpAny_setEntries_of ob rfl ft ?_);rw [if_neg (by simp [hn])];simp only [Q8];cases v<;>exact q
theorem yy {x:Value} {nx:Nat} {Q:Option Value->UD->Prop} (hit:s.heap.get? I=some (iK (.int sl 0) i (.ref a) n ep)) (ob:s.heap.get? a=some (bL es ep t)) (ft:t.fits es.size=true) (hn:es.size=n)
  (hs:∀ (A':UC) (Q':Option (Value×Nat)->UD->Prop) (E':Uj),Q' (some (x,nx)) s->wpAny (model P w) A' (setNext a sl i ep) Q' E' s)
  (q:∀ h',h'.get? I=some (iK (.int nx 0) (i+1) (.ref a) n ep)->Heap.SameBut I s.heap h'->Q (some x) {s with heap:=h'}):wpAny (model P w) A (pyNext (.ref I)) Q E s:=by
 unfold pyNext;refine PQ (S4 (QC (name:=Str.ofString "__next__") (fz hit) bM (Qy bM (fz hit) gj ?_ (gQ _))));refine qV hit ob ft hn ?_;dsimp only;simp only [Q8];refine PQ (hs _ _ _ ?_);dsimp only;refine PQ (pG hit (by omega) λh1 g1 b1=>?_);have g1':h1.get? I=some (iK (.int nx 0) i (.ref a) n ep):=g1;refine PQ (pG (s:={s with heap:=h1}) g1' (by omega) λh2 g2 b2=>?_);exact PU ⟨_,rfl,PU (q h2 g2 (b1.trans b2))⟩
theorem Bw {Q:Option Value->UD->Prop} (hh:A.handled=none) (hit:s.heap.get? I=some (iK (.int sl 0) i (.ref a) n ep)) (ob:s.heap.get? a=some (bL es ep t)) (ft:t.fits es.size=true) (hn:es.size=n)
  (hs:∀ (A':UC) (Q':Option (Value×Nat)->UD->Prop) (E':Uj),Q' none s->wpAny (model P w) A' (setNext a sl i ep) Q' E' s)
  (q:∀ h',Heap.ExtBut I s.heap h'->Q none {s with heap:=h'}):wpAny (model P w) A (pyNext (.ref I)) Q E s:=by
 unfold pyNext;refine PQ (S4 (QC (name:=Str.ofString "__next__") (fz hit) bM (Qy bM (fz hit) gj ?_ (gQ _))));refine qV hit ob ft hn ?_;dsimp only;simp only [Q8];refine PQ (hs _ _ _ ?_);dsimp only;refine PQ (pG hit (by omega) λh1 g1 b1=>?_);exact Bv (s:={s with heap:=h1}) (h0:=s.heap) (B:=λ_=>True) hh q b1.extBut
theorem EW {pl:Uy} {place:Nat} {x:Int×Value} {Q:Option Value->UD->Prop} (hit:s.heap.get? I=some (iK (.ref T) i (.ref a) n ep)) (ob:s.heap.get? a=some (bL es ep t)) (ft:t.fits es.size=true) (hn:es.size=n) (hT:s.heap.IsTuple T pl) (hp:pl[i]?=some (rawInt place)) (hx:es[place]?=some x)
  (q:∀ h',h'.get? I=some (iK (.ref T) (i+1) (.ref a) n ep)->Heap.SameBut I s.heap h'->Q (some x.2) {s with heap:=h'}):wpAny (model P w) A (pyNext (.ref I)) Q E s:=by
 unfold pyNext;refine PQ (S4 (QC (name:=Str.ofString "__next__") (fz hit) bM (Qy bM (fz hit) gj ?_ (gQ _))));refine qV hit ob ft hn ?_;dsimp only;obtain ⟨oT,gT,cT,nT,dT⟩:=hT;refine PQ (QX gT dT ?_);dsimp only;rw [hp];show wpAny _ _ (setNextDrawn a (Int.toNat (place:Nat)) ep >>= _) _ _ _;rw [Q8];unfold setNextDrawn;refine PQ (PQ (eO ob ft ?_));dsimp only;rw [if_neg (by simp),hx];refine PU ?_;refine PQ (pG hit (by omega) λh1 g1 b1=>?_);exact PU ⟨_,rfl,PU (q h1 g1 b1)⟩
theorem Hb {pl:Uy} {Q:Option Value->UD->Prop} (hh:A.handled=none) (hit:s.heap.get? I=some (iK (.ref T) i (.ref a) n ep)) (ob:s.heap.get? a=some (bL es ep t)) (ft:t.fits es.size=true) (hn:es.size=n) (hT:s.heap.IsTuple T pl) (hp:pl[i]?=none)
  (q:∀ h',Heap.ExtBut I s.heap h'->Q none {s with heap:=h'}):wpAny (model P w) A (pyNext (.ref I)) Q E s:=by
 unfold pyNext;refine PQ (S4 (QC (name:=Str.ofString "__next__") (fz hit) bM (Qy bM (fz hit) gj ?_ (gQ _))));refine qV hit ob ft hn ?_;dsimp only;obtain ⟨oT,gT,cT,nT,dT⟩:=hT;refine PQ (QX gT dT ?_);dsimp only;rw [hp];dsimp only;refine PQ (pG hit (by omega) λh1 g1 b1=>?_);have g1':h1.get? I=some (iK (rawInt 0) i (.ref a) n ep):=g1;refine PQ (pG (s:={s with heap:=h1}) g1' (by omega) λh2 g2 b2=>?_);exact Bv (s:={s with heap:=h2}) (h0:=s.heap) (B:=λ_=>True) hh q (b1.trans b2).extBut
theorem vt {L:Um} {Q:Option (Value×Nat)->UD->Prop} (ob:s.heap.get? a=some (bL es ep t)) (ft:t.fits es.size=true) (hb:cI w=true) (hL:L=pickOrder (w.params.setOrder a ep) es) (h:Q ((L[i]?).map λe=>(e.2,sl)) s):wpAny (model P w) A (setNext a sl i ep) Q E s:=by unfold setNext;refine PQ (eO ob ft ?_);dsimp only;refine PQ (lQ ?_);rw [if_pos hb,if_neg (by simp)];unfold setWalk;refine PQ (PQ (eO ob ft ?_));dsimp only;refine PQ (lQ ?_);rw [if_pos hb];refine PQ (TB (PU (PU ?_)));rw [hL] at h;exact h
theorem sS {Q:Option (Value×Nat)->UD->Prop} (ob:s.heap.get? a=some (bL es ep t)) (ft:t.fits es.size=true) (hb:cI w=false) (hd:(!t.plain && decide (es.size > 1))=false) (hl:t.led=true)
  (h:Q (match es[SetTable.below t.place sl]?,t.place[SetTable.below t.place sl]? with | some (_,x),some j=>some (x,j+1) | _,_=>none) s):wpAny (model P w) A (setNext a sl i ep) Q E s:=by
 unfold setNext;refine PQ (eO ob ft ?_);dsimp only;refine PQ (lQ ?_);rw [if_neg (by rw [hb];simp)];refine RA (λz=>absurd z (by show ¬ (!t.plain && decide (es.size > 1))=true;rw [hd];simp)) λ_=>?_;refine PQ (m:=(if (!t.led && !es.isEmpty)=true then unsupported "set:maker-not-led" else pure ())) ?_;rw [hl];simp only [Rt,Tf,P8,QK];exact PU (PU h)
end
theorem dQ:Slot "set_iterator" "__iter__" "set_iterator.__iter__" :=
 .of (owner := "set_iterator") (n := "__iter__") (by rw [typeLookup_type,builtinLookup_eq_fast];kernel_rfl) (by decide +kernel) (by decide +kernel) (by decide +kernel)
  (by first | exact .inl (by decide +kernel) | exact .inr (by decide +kernel)) (by rw [T6];kernel_rfl)
theorem jd:entryFor table "set_iterator.__iter__" = some Builtin.«dict_keyiterator.__iter__» := entryFor_alias (id' := "dict_keyiterator.__iter__") (by kernel_rfl) rfl (by decide +kernel) (by kernel_rfl)
theorem jW (a:Value):argsOk "set_iterator.__iter__" ⟨[a],[]⟩:=by unfold argsOk;rw [signature?_of (id := "set_iterator.__iter__") (n:=['_', '_', 'r', 'e', 't', 'i', '_', '_']) (o:=['r', 'o', 't', 'a', 'r', 'e', 't', 'i', '_', 't', 'e', 's']) (by kernel_rfl) yx];kernel_rfl
def slotAt (place:Uz):Nat->Nat
 | 0=>0
 | i+1=>place.getD i 0+1
theorem sT {xs:Uz} (r:oz xs):∀ i,i<=xs.size->SetTable.below xs (slotAt xs i)=i
 | 0,_=>by
  obtain ⟨a,_,c⟩:=hX r (slotAt xs 0);apply QM;intro z;have h0:0 < SetTable.below xs (slotAt xs 0):=by omega
  have:=a 0 (by omega) h0;simp [slotAt] at this
 | i+1,h=>by
  have hi:i < xs.size:=by omega
  have e:slotAt xs (i+1)=xs[i]+1:=by simp [slotAt,Array.getD,hi]
  rw [e];obtain ⟨a,b,c⟩:=hX r (xs[i]+1);apply QM;intro z;by_cases h1:SetTable.below xs (xs[i]+1)<=i
  ·have:=b i hi h1;omega
  ·have h2:i+1 < SetTable.below xs (xs[i]+1):=by omega
   have h3:i+1 < xs.size:=by omega
   have:=a (i+1) h3 h2;have:=qS r (i:=i) (k:=i+1) (by omega) h3;omega
section
variable {P:UA} {w:World} {A:UC} {E:Uj} {s:UD} {vp:Value->Prop}
theorem wM {I:Addr} {Q:Uj} (hT:s.TypeIs (.ref I) "set_iterator") (h:Q (.ref I) s):wpAny (model P w) A (Builtin.«dict_keyiterator.__iter__» ⟨[.ref I],[]⟩) (λfin s'=>∃ v,fin=.done (.ret v)/\∃ T' r,s'.TypeIs v T'/\typeLookup (.type T') (Str.ofString "__next__")=pure (some r)/\Q v s') E s:=by show wpAny _ _ (ret (.ref I)) _ _ s;exact PU ⟨_,rfl, "set_iterator",_,hT,bM.lookup,h⟩
noncomputable def Hc (P:UA) (w:World) (s:UD) (a:Addr) (es:Um) (Q:Uj):Prop:=
 ∀ (L:List (Int×Value)) (I:Addr) (h':Heap) (dr:Drawn) (fp:Ur) (St:Nat->Heap->Prop),List.Perm L es.toList->(∀ b∈fp,b < h'.objs.size)->I∈fp->(∀ b∈fp,b=a\/s.heap.objs.size<=b)->s.heap.objs.size<=I->(∀ b o,s.heap.get? b=some o->h'.get? b=some o) ->
  (∀ A':UC,A'.handled=none->Walks P w A' I fp [I] L.length (λi v=>∃ e,L[i]?=some e/\v=e.2) St)->St 0 h'->Q (.ref I) {s with heap:=h',drawn:=dr}
theorem EX {md:Bool} {a:Addr} {ds:Uq} {es:Um} {ep:Nat} {t:UB} {Q:Uj} (S:fQ vp w s.heap a md ds es ep t) (q:Hc P w s a es Q):wpAny (model P w) A (pyIter (.ref a)) Q E s:=by
 have hT:s.TypeIs (.ref a) "set" := ⟨_,S.ob,rfl⟩;have hes:=S.size;have hln:=S.ln;have la:a < s.heap.objs.size:=P1 S.ob;refine Td hT F.slot_set_iter (Qy F.slot_set_iter hT sR ?_ (F.args_set_iter_1 _));unfold Builtin.«frozenset.__iter__»;refine PQ (Sn (a:=a) rfl ?_);unfold Builtin.Frozenset.sizeOf;refine PQ (PQ (wpAny_setEntries_of S.ob rfl S.tb.fits (PU ?_)));unfold setDrawn;refine PQ (PQ (eO S.ob S.tb.fits ?_));dsimp only;refine PQ (lQ (PU ?_));have fits:=S.tb.fits;by_cases hd:(!cI w && (!t.plain && decide (es.size > 1)))=true
 ·
  refine RA (λ_=>?_) λz=>absurd hd z;refine PQ (Bu es.size (List.range es.size) s _ (by simp) λidx dr p=>?_);have hil:idx.length=es.size:=by have:=p.length_eq;simpa using this
  refine PQ (wpAny_newTuple (hsz:=by rw [Qa,hil,Ro];omega) ?_);refine PQ (wpAny_setEpoch_of (s:={s with heap:=s.heap.push _,drawn:=dr}) (PR _ S.ob) rfl fits ?_);refine PQ (QD (PU ⟨_,rfl, "set_iterator",_,⟨_,P4 _ rfl,rfl⟩,bM.lookup,?_⟩));generalize hob:({cls:=.type "tuple",data:=.seq (idx.map λ(i:Nat)=>rawInt i).toArray}:Obj)=oT;have hsz:(s.heap.push oT).objs.size=s.heap.objs.size+1:=Qv _ _;have hin:∀ k∈idx,k < es.size:=λk hk=>QO.mp (p.mem_iff.mp hk);have hget:∀ i k,idx[i]?=some k->∃ e,es[k]?=some e:=λi k e=>⟨_,Qw (hin k (Qq e))⟩;obtain ⟨g1,g2⟩:=zV (es:=es) (l:=idx.map λk=>(0,k)) (λp hp=>by obtain ⟨k,hk,rfl⟩:=Qp.mp hp;exact hin k hk);have em:(idx.map λk=>((0:Nat),k)).map (·.2)=idx:=by rw [TZ];exact List.map_id idx
  rw [em] at g1 g2;have hLp:List.Perm (idx.filterMap λk=>es[k]?) es.toList:=(p.filterMap _).trans (by rw [filterMap_getElem?_range]);have hLn:(idx.filterMap λk=>es[k]?).length=es.size:=by rw [hLp.length_eq];simp
  refine q (idx.filterMap λk=>es[k]?) (s.heap.push oT).objs.size _ dr [(s.heap.push oT).objs.size,s.heap.objs.size,a] (λi h=>h.get? (s.heap.push oT).objs.size=some (iK (.ref s.heap.objs.size) i (.ref a) es.size ep)/\h.IsTuple s.heap.objs.size (idx.map λ(i:Nat)=>rawInt i).toArray/\h.get? a=some (bL es ep t)) hLp (λb hb=>?_) (Qe ..) (λb hb=>by simp only [PZ,Qo,Rc] at hb;rcases hb with rfl | rfl | rfl;exact .inr (by rw [hsz];exact Rq _);exact .inr (PY _);exact .inl rfl) (by rw [hsz];exact Rq _) (λb o e=>PR _ (PR _ e)) (λA' hh=>?_) ⟨?_,?_,?_⟩
  ·rw [Qv,hsz];simp only [PZ,Qo,Rc] at hb;rcases hb with rfl | rfl | rfl
   ·rw [hsz];exact RL _
   ·exact P0 (RL _) (Rq _)
   ·exact P0 la (by omega)
  ·have n1:s.heap.objs.size≠(s.heap.push oT).objs.size:=by rw [hsz];exact Qh (RL _)
   have n2:a≠(s.heap.push oT).objs.size:=by rw [hsz];exact Qh (Rr la)
   refine ⟨λb hb=>by simp at hb;simp [hb],λi h h' ⟨x1,⟨o,x2,x3⟩,x4⟩ k=>⟨k _ (by simp) _ x1,⟨o,k _ (by simp) _ x2,x3⟩,k _ (by simp) _ x4⟩,λi s' Q' E' hi ⟨x1,x2,x3⟩ hQ=>?_,λs' Q' E' ⟨x1,x2,x3⟩ hQ=>?_,λi s' Q' E' ⟨x1,_,_⟩ hQ=>?_⟩
   ·rw [hLn] at hi;have hi2:i < idx.length:=by omega
    have ek:=P9 hi2;obtain ⟨e,he⟩:=hget i _ ek;refine EW (x:=e) x1 x3 fits rfl x2 (place:=idx[i]) (by simp [ek]) he λh' y1 sb=>hQ e.2 h' s'.toks ⟨e,?_,rfl⟩ ⟨y1,?_,(sb.2 a n2).trans x3⟩ λb o hb eo=>(sb.2 b λz=>hb (by simp [z])).trans eo
    ·rw [g2 i (0,idx[i]) (by simp [ek])];exact he
    ·obtain ⟨o,x2,x4⟩:=x2;exact ⟨o,(sb.2 _ n1).trans x2,x4⟩
   ·rw [hLn] at x1;refine Hb hh x1 x3 fits rfl x2 (by simp;omega) λh' eb=>hQ h' s'.toks λb o hb eo=>eb b o (λz=>hb (by simp [z])) eo
   ·have hT':s'.TypeIs (.ref (s.heap.push oT).objs.size) "set_iterator" := fz x1;exact Td hT' dQ (Qy dQ hT' jd (wM hT' hQ) (jW _))
  ·exact P4 _ rfl
  ·subst hob;exact ⟨_,PR _ (P4 _ rfl),rfl,_,rfl⟩
  ·exact PR _ (PR _ S.ob)
 ·refine RA (λz=>absurd z hd) λ_=>?_;refine PQ (PU ?_);refine PQ (wpAny_setEpoch_of S.ob rfl fits ?_);refine PQ (QD (PU ⟨_,rfl, "set_iterator",_,⟨_,P4 _ rfl,rfl⟩,bM.lookup,?_⟩));have na:a≠s.heap.objs.size:=Qh la;by_cases hb:cI w=true
  ·
   have pk:=CF (w.params.setOrder a ep) es;have pkn:(pickOrder (w.params.setOrder a ep) es).toList.length=es.size:=by rw [pk.length_eq];simp
   refine q (pickOrder (w.params.setOrder a ep) es).toList s.heap.objs.size _ s.drawn [s.heap.objs.size,a] (λi h=>h.get? s.heap.objs.size=some (iK (.int ((0:Nat):Int) 0) i (.ref a) es.size ep)/\h.get? a=some (bL es ep t)) pk (λb hb=>?_) (Qe ..) (λb hb=>by simp only [PZ,Qo,Rc] at hb;rcases hb with rfl | rfl;exact .inr (PY _);exact .inl rfl) (PY _) (λb o e=>PR _ e) (λA' hh=>?_) ⟨P4 _ rfl,PR _ S.ob⟩
   ·rw [Qv];simp only [PZ,Qo,Rc] at hb;rcases hb with rfl | rfl
    ·exact RL _
    ·exact Rr la
   ·refine ⟨λb hb=>by simp at hb;simp [hb],λi h h' ⟨x1,x4⟩ k=>⟨k _ (by simp) _ x1,k _ (by simp) _ x4⟩,λi s' Q' E' hi ⟨x1,x3⟩ hQ=>?_,λs' Q' E' ⟨x1,x3⟩ hQ=>?_,λi s' Q' E' ⟨x1,_⟩ hQ=>?_⟩
    ·have ek:=P9 hi;generalize (pickOrder (w.params.setOrder a ep) es).toList[i]=e at ek;refine yy (x:=e.2) (nx:=0) x1 x3 fits rfl (λA2 Q2 E2 h2=>vt x3 fits hb rfl ?_) λh' y1 sb=>hQ e.2 h' s'.toks ⟨e,ek,rfl⟩ ⟨y1,(sb.2 a na).trans x3⟩ λb o hb eo=>(sb.2 b λz=>hb (by simp [z])).trans eo;rw [<- Qt,ek];exact h2
    ·refine Bw hh x1 x3 fits rfl (λA2 Q2 E2 h2=>vt x3 fits hb rfl ?_) λh' eb=>hQ h' s'.toks λb o hb eo=>eb b o (λz=>hb (by simp [z])) eo;rw [<- Qt,Tq (PY _)];exact h2
    ·have hT':s'.TypeIs (.ref s.heap.objs.size) "set_iterator" := fz x1;exact Td hT' dQ (Qy dQ hT' jd (wM hT' hQ) (jW _))
  ·
   have hb':cI w=false:=by simpa using hb
   have hd':(!t.plain && decide (es.size > 1))=false:=by rw [hb'] at hd;simpa using hd
   have hled:t.led=true:=by
    rcases S.ld with z | z
    ·exact z
    ·exact absurd z hb
   have hps:t.place.size=es.size:=S.tb.sz;refine q es.toList s.heap.objs.size _ s.drawn [s.heap.objs.size,a] (λi h=>h.get? s.heap.objs.size=some (iK (.int ((slotAt t.place i:Nat):Int) 0) i (.ref a) es.size ep)/\h.get? a=some (bL es ep t)) (.refl _) (λb hb=>?_) (Qe ..) (λb hb=>by simp only [PZ,Qo,Rc] at hb;rcases hb with rfl | rfl;exact .inr (PY _);exact .inl rfl) (PY _) (λb o e=>PR _ e) (λA' hh=>?_) ⟨P4 _ rfl,PR _ S.ob⟩
   ·rw [Qv];simp only [PZ,Qo,Rc] at hb;rcases hb with rfl | rfl
    ·exact RL _
    ·exact Rr la
   ·refine ⟨λb hb=>by simp at hb;simp [hb],λi h h' ⟨x1,x4⟩ k=>⟨k _ (by simp) _ x1,k _ (by simp) _ x4⟩,λi s' Q' E' hi ⟨x1,x3⟩ hQ=>?_,λs' Q' E' ⟨x1,x3⟩ hQ=>?_,λi s' Q' E' ⟨x1,_⟩ hQ=>?_⟩
    ·have hi':i < es.size:=by simpa using hi
     have ek:=Qw hi';have ep':=Qw (show i < t.place.size by omega);refine yy (x:=es[i].2) (nx:=slotAt t.place (i+1)) x1 x3 fits rfl (λA2 Q2 E2 h2=>sS x3 fits hb' hd' hled ?_) λh' y1 sb=>hQ es[i].2 h' s'.toks ⟨es[i],by rw [Qt];exact ek,rfl⟩ ⟨y1,(sb.2 a na).trans x3⟩ λb o hb eo=>(sb.2 b λz=>hb (by simp [z])).trans eo;rw [sT S.tb.rp i (by omega),ek,ep'];have:slotAt t.place (i+1)=t.place[i]'(by omega)+1:=by simp [slotAt,Array.getD,show i < t.place.size by omega]
     rw [this] at h2;exact h2
    ·have hl:es.toList.length=es.size:=by simp
     rw [hl] at x1;refine Bw hh x1 x3 fits rfl (λA2 Q2 E2 h2=>sS x3 fits hb' hd' hled ?_) λh' eb=>hQ h' s'.toks λb o hb eo=>eb b o (λz=>hb (by simp [z])) eo;rw [sT S.tb.rp es.size (by omega),Array.getElem?_eq_none (PY _)];exact h2
    ·have hT':s'.TypeIs (.ref s.heap.objs.size) "set_iterator" := fz x1;exact Td hT' dQ (Qy dQ hT' jd (wM hT' hQ) (jW _))
end
section
variable {P:UA} {w:World} {A:UC} {E:Uj} {s:UD} {vp:Value->Prop}
theorem EY {r:Addr} {Q:Bool->UD->Prop} (hT:s.TypeIs (.ref r) "set") (h:Q false s):wpAny (model P w) A (Builtin.List.listLengthHint (.ref r)) Q E s:=by
 unfold Builtin.List.listLengthHint;refine PQ (So hT PySem.F.slot_set_len.lookup ?_);generalize hid:("set.__len__" : String)=id0
 wp_delta
 rw [show splitId id0=some ("set", "__len__") from by subst hid;decide +kernel];subst hid;refine PQ (Tv (T := "set") (b:=true) hT sub_set_self ?_);refine RA (λhab=>absurd hab (by decide)) (λ_=>?_);refine RA (λ_=>?_) (λhab=>absurd (by decide +kernel) hab);refine PQ (Tn hT ?_);exact PU h
theorem yz {md:Bool} {a:Addr} {ds:Uq} {es:Um} {ep:Nat} {t:UB} {Q:Us->UD->Prop} (S:fQ vp w s.heap a md ds es ep t) (hh:A.handled=none)
  (q:∀ (L:List (Int×Value)) h' dr tk,s.heap.objs.size < h'.objs.size->List.Perm L es.toList->(∀ b o,s.heap.get? b=some o->h'.get? b=some o)->Q (L.map (·.2)) {s with heap:=h',drawn:=dr,toks:=tk}):wpAny (model P w) A (collect (.ref a)) Q E s:=by
 have hes:=S.size;have hln:=S.ln;unfold collect;refine PQ (wpAny_runValue (Su F.entry_proto_collect ?_));rw [RY F.plain_proto_collect _];show wpAny _ A.in1 (newList [] >>= λl=>again (.builtin "list.__iadd__" ⟨[l,.ref a],[]⟩)) _ _ s;refine PQ (QD ?_);refine PU ⟨TK F.plain_list_iadd _,Su F.entry_list_iadd ?_⟩;rw [RY F.plain_list_iadd _];have hS₁:(s.heap.push {cls:=.type "list",data:=.seq ([]:Us).toArray}).get? s.heap.objs.size=some {cls:=.type "list",data:=.seq ([]:Us).toArray}:=P4 _ rfl;have la:=P1 S.ob;have h1:Builtin.List.listSameRef (.ref s.heap.objs.size) (.ref a)=false:=by simp [Builtin.List.listSameRef,Sm la]
 have S1:fQ vp w (s.heap.push {cls:=.type "list",data:=.seq ([]:Us).toArray}) a md ds es ep t:=S.keep λb o e=>PR _ e;show wpAny _ A.in1 (Builtin.List.listExtendWith (.ref s.heap.objs.size) (.ref a) (.ref s.heap.objs.size)) _ _ _;unfold Builtin.List.listExtendWith;refine PQ (Tn (T := "set") ⟨_,S1.ob,rfl⟩ ?_);rw [if_neg (by rw [h1];decide)];refine PQ (EX (s:={s with heap:=s.heap.push {cls:=.type "list",data:=.seq ([]:Us).toArray}}) S1 λL I h' dr fp St p f1 f2 f5 f3 f4 W st=>?_);have hS2:=f4 _ _ hS₁;refine PQ (QG (EY (s:={s with heap:=h',drawn:=dr}) ⟨_,f4 _ _ S1.ob,rfl⟩ ?_));rw [if_pos (by decide)];have hLn:L.length=es.size:=by rw [p.length_eq];simp
 have hSf:s.heap.objs.size∉fp:=λhm=>by
  rcases f5 _ hm with z | z
  ·exact absurd la (by rw [<- z];exact Qk _)
  ·have z':(s.heap.push {cls:=.type "list",data:=.seq ([]:Us).toArray}).objs.size<=s.heap.objs.size:=z;rw [Qv] at z';exact absurd z' (Nat.not_le.mpr (RL _))
 refine PQ (RH ?_);refine PQ ?_;show wpAny _ _ (updateSeq s.heap.objs.size (·.push .none) >>= λ_=>updateSeq s.heap.objs.size (·.pop)) _ _ _;refine PQ (wpAny_updateSeq hS2 rfl ?_);have hS3:=Rx (Obj.mapSeq (·.push Value.none)) hS2 rfl;refine wpAny_updateSeq (hz:=by seq_fits) hS3 rfl ?_;have hS4:=Rx (Obj.mapSeq (·.pop)) hS3 rfl;have oth:∀ b o,b≠s.heap.objs.size->h'.get? b=some o->((h'.update s.heap.objs.size (Obj.mapSeq (·.push Value.none))).update s.heap.objs.size (Obj.mapSeq (·.pop))).get? b=some o:=λb o hb e=>(Sg _ _ (SV hb)).trans ((Sg _ _ (SV hb)).trans e);have st2:=(W A.in1 hh).frame 0 _ _ st λb hb o e=>oth b o (λz=>hSf (z▸hb)) e;refine PU ⟨TK F.plain_extend_loop _,codeAny_extend_loopS (W A.in1 hh).toS (by rw [hLn,Ro];omega) _ hSf _ L.length 0 _ _ _ rfl (Rf _) st2 hS4 (ItemsOf.nil _) λs' acc' c' hm hS' hacc=>?_⟩;show wpAny _ A (load s.heap.objs.size >>= _) _ _ s';refine PQ (S9 hS' ?_);refine PU ?_
 have e1:acc'.toList=L.map (·.2):=by
  apply List.ext_getElem?;intro j;rw [Qt,QY];by_cases hj:j < acc'.size
  ·obtain ⟨e,he,hv⟩:=hacc.2 j acc'[j] (Qw hj);rw [Qw hj,he,hv];rfl
  ·rw [Array.getElem?_eq_none (by omega),Tq (by rw [<- hacc.1];omega)];rfl
 rw [e1];obtain ⟨hp2,g2,d2,tk2,os2⟩:=s';have eg:g2=s.gens:=hm.gens;have ed:d2=dr:=hm.drawn;have eo:os2=s.os:=hm.os;subst eg;subst ed;subst eo;refine q L hp2 d2 tk2 (P1 hS') p λb o e=>hm.heap b o (λz=>?_) (oth b o (Qh (P1 e)) (f4 _ _ (PR _ e)));have lb:=P1 e;rcases PZ.mp z with z | z
 ·rw [z] at lb;exact Qk _ lb
 ·rw [Qm.mp z] at lb;have f3':(s.heap.push {cls:=.type "list",data:=.seq ([]:Us).toArray}).objs.size<=I:=f3;rw [Qv] at f3';exact absurd (P0 lb (Nat.le_of_succ_le f3')) (Qk _)
end
theorem qp {h:Heap}:∀ {vs:Us} {ds:Uq},Paired (λv d=>∃ as,Reads h v d as) vs ds->∃ as,ReadsAll h vs ds as
 | _,_,.nil=>⟨_,.nil⟩
 | _,_,.cons ⟨_,r⟩ t=>let ⟨_,q⟩:=qp t;⟨_,.cons r q⟩
theorem mK {h:Heap} {vs:Us} {ds:Uq} {as:Ur} (r:ReadsAll h vs ds as):∀ (p:List Nat),(∀ i∈p,i < vs.length)->∃ bs,ReadsAll h (p.map λi=>vs.getD i .none) (p.map λi=>ds.getD i .none) bs
 | [],_=>⟨_,.nil⟩
 | i::p,hp=>by
  have hi:=hp i (Qe ..);obtain ⟨bs,q⟩:=mK r p λj hj=>hp j (P5 _ hj);obtain ⟨d,cs,e1,e2⟩:=readsAll_get r (P9 hi);refine ⟨_,.cons (as:=cs) ?_ q⟩;have x1:vs.getD i .none=vs[i]:=by simp [hi]
  have x2:ds.getD i .none=d:=by rw [List.getD_eq_getElem?_getD,e1];rfl
  show Reads h (vs.getD i .none) (ds.getD i .none) cs;rw [x1,x2];exact e2
section
variable {P:UA} {w:World} {A:UC} {E:Uj} {s:UD} {vp:Value->Prop}
theorem yA {ds es:Uq} (p:List.Perm ds es) (h:dw ds=true):dw es=true:=by unfold dw at h ⊢;rw [Qc] at h ⊢;intro a ha;have:=h a (p.mem_iff.mpr ha);rw [Qc] at this ⊢;exact λb hb=>this b (p.mem_iff.mpr hb)
theorem yB {ds es:Uq} {f:PyData->Bool} (p:List.Perm ds es) (h:ds.all f=true):es.all f=true:=by rw [Qc] at h ⊢;exact λa ha=>h a (p.mem_iff.mpr ha)
theorem fA:∀ {ds:Uq} {n:Nat},PyData.depthAll ds<=n<->∀ d∈ds,d.depth<=n
 | [],n=>by simp [PyData.depthAll]
 | d::ds,n=>by simp only [PyData.depthAll,PZ,forall_eq_or_imp];rw [<- fA (ds:=ds)];omega
theorem vw {ds:Uq}:ao ds=true<->∀ d∈ds,ag d=true:=⟨λh d m=>aM h m,iz⟩
theorem zW {md:Bool} {a:Addr} {ds zs:Uq} {Q:Uj} (S:kg vp w s.heap a md ds) (hh:A.handled=none) (pz:List.Perm ds zs) (ok:fg zs=true) (hu:A.units+60 < cLine)
  (q:∀ h' dr tk p us e,s.heap.objs.size<=p->(∀ b o,s.heap.get? b=some o->h'.get? b=some o)->h'.get? p=some (PyProof.Rows.seqObj "list" (us:Us).toArray e)->(∃ as,ReadsAll h' us (cQ ltB zs) as)->(∀ u∈us,vp u)->Q (.ref p) {s with heap:=h',drawn:=dr,toks:=tk}):wpAny (model P w) A (call (.builtin "sorted") [.ref a]) Q E s:=by
 obtain ⟨es,ep,t,S⟩:=S;simp only [fg,PV,Qb,Ry] at ok;obtain ⟨⟨⟨⟨kd,tr⟩,cm⟩,dp⟩,h64⟩:=ok;refine Calls.call_function_entry PyProof.Rows.kind_sorted PyProof.Rows.plain_sorted PyProof.Rows.entry_sorted (PyProof.Rows.args_sorted1 _) ?_;unfold Builtin.«sorted»;refine PQ (m:=checkCount "sorted" 1 1 _) (PU ?_);refine PQ (yz S (by simp [hh]) λL h1 dr tk sz1 pL k1=>?_);obtain ⟨ds1,p1,e1⟩:=qm pL.symm S.el;have pd:List.Perm ds1 zs:=p1.symm.trans pz;have hLd:L.length=ds1.length:=Qr e1;have hdz:ds1.length=zs.length:=pd.length_eq;generalize hvs:L.map (·.2)=vs;have hvl:vs.length=zs.length:=by rw [<- hvs,Qa,hLd,hdz]
 obtain ⟨as,ra⟩:∃ as,ReadsAll h1 vs ds1 as:=by
  refine qp ?_;rw [<- hvs]
  have:∀ {l:List (Int×Value)} {ys:Uq},Paired (El vp w s.heap md) l ys->Paired (λv d=>∃ as,Reads h1 v d as) (l.map (·.2)) ys:=by
   intro l ys h
   induction h with
   | nil=>exact .nil
   | cons r _ ih=>exact .cons (let ⟨as,x⟩:=r.rd;⟨as,jr (λb o _ _ e _ _=>k1 b o e) r.tr x⟩) ih
  exact this e1
 refine PQ (wpAny_newList (hsz:=by rw [hvl,Ro];omega) ?_);have hoL:(h1.push (PyProof.Rows.seqObj "list" vs.toArray 0)).get? h1.objs.size=some (PyProof.Rows.seqObj "list" vs.toArray 0):=P4 _ rfl;have tr1:ao ds1=true:=vw.mpr λd m=>vw.mp tr d (pd.mem_iff.mp m);have cm1:=yA pd.symm cm;have O:=L4 (gV cm1 tr1);rw [hdz,<- hvl] at O;refine PQ (QG (Qy PyProof.Rows.slot_list_sort ⟨_,hoL,rfl⟩ PyProof.Rows.entry_list_sort (PySem.W.mB hoL O (by omega) (λh' k h2=>?_) λp a1 a2=>⟨_,rfl,?_⟩) (PyProof.Rows.args_list_sort _)))
 ·have ra':ReadsAll h' vs ds1 as:=Rg (λb o e=>k b o (Qh (P1 e)) (PR _ e)) ra
  have la:PyData.canLayAll0 ds1=true:=nV (bB.mpr λd m=>by
   obtain ⟨i,hi⟩:=Ri m;obtain ⟨e,_,x⟩:=iJ e1 hi
   exact x.so) (ff tr1)
  rcases kd with kd | kd
  ·exact uZ (s:={s with heap:=h',drawn:=dr,toks:=tk}) ra' (yB pd.symm kd) h2
  ·exact uY (s:={s with heap:=h',drawn:=dr,toks:=tk}) (by show A.units+1+1+41 < cLine;omega) ra' (yB pd.symm kd) tr1 cm1 la (fA.mpr λd m=>fA.mp dp d (pd.mem_iff.mp m)) (by omega)
 ·obtain ⟨e,he⟩:=PyProof.Rows.sortedHeap_at (out:=(p.toList.map λi=>vs.getD i Value.none).toArray) hoL;have kp:∀ b o,h1.get? b=some o->(PyProof.Rows.sortedHeap (h1.push (PyProof.Rows.seqObj "list" vs.toArray 0)) h1.objs.size vs (p.toList.map λi=>vs.getD i Value.none).toArray).get? b=some o:=λb o eb=>by rw [PyProof.Rows.sortedHeap_old (Qh (P1 eb)) (by rw [Qv];exact Rr (P1 eb))];exact PR _ eb
  have hin:∀ i∈p.toList,i < vs.length:=λi hi=>QO.mp (a1.perm.mem_iff.mp hi);obtain ⟨bs,rb⟩:=mK ra p.toList hin
  have e1':(p.toList.map λi=>ds1.getD i .none)=cQ ltB zs:=by
   refine xP cm tr ?_ ?_
   ·have:=a1.perm.map (λi=>ds1.getD i .none);rw [hvl,<- hdz,jI] at this;exact this.trans pd
   ·have hlp:p.toList.length=vs.length:=by rw [a1.perm.length_eq,Uc]
    unfold Up;rw [Sz,RS];intro i j hi hj hij;have x1:PySem.W.pat p i=p.toList[i]:=by simp only [QR] at hi;rw [PySem.W.i8,T3 p i hi];simp
    have x2:PySem.W.pat p j=p.toList[j]:=by simp only [QR] at hj;rw [PySem.W.i8,T3 p j hj];simp
    have:=a2 i j hij (by omega);rw [x1,x2] at this;exact this
  rw [e1'] at rb;refine PU ⟨_,rfl,q _ dr tk h1.objs.size (p.toList.map λi=>vs.getD i Value.none) e (Th sz1) (λb o eb=>kp b o (k1 b o eb)) he ⟨bs,Rg kp rb⟩ λu hu=>?_⟩;obtain ⟨i,hi,rfl⟩:=Qp.mp hu;have hil:=hin i hi;have eu:vs.getD i Value.none=vs[i]:=by simp [hil]
  have hmem:vs[i]∈L.map (·.2):=by rw [hvs];exact Uh hil
  obtain ⟨e',he',e2⟩:=Qp.mp hmem;obtain ⟨j,hj⟩:=Ri he';obtain ⟨d',_,x⟩:=fV e1 hj;rw [eu,<- e2];exact x.vl
end
end Stt
namespace Ml
open PySem PySem.Spec L2 Stt
theorem _root_.L2.Inv.dr {X:Cx} {pins:Uk} {σ:St} {H:Hp} {s:UD} (I:L2.Inv X pins σ H s) (dr:Drawn):L2.Inv X pins σ H {s with drawn:=dr}:=⟨I.ok,I.os,I.bare,I.base,I.loc,I.cell,I.free,I.freeC,I.pin,I.hok,I.len⟩
structure EZ (X:Cx) (M:Hp) (s:UD) (b:Addr) (ds:Uq) (vs:List V) (its:Us):Prop where
 src:∃ T OK,Src X.prog X.w T b its.toArray OK/\OK s.heap
 rep:bc M ds vs
 val:Vals vs its
 so:cD ds=true
theorem Hd {X:Cx} {θ:Ur} {hm:Hm} {H:Hp} {pins:Uk} {σ:St} {s:UD} {d:D} {v:V} {ds:Uq} (I:L2.Inv X pins σ H s) (w:W X.G θ hm H) (r:bQ X.G θ H d v) (e:u7 d hm=some ds) :
  ∃ b vs its,v=.ref b/\EZ X (view θ H) s b ds vs its:=by
 have tup:∀ (b:Addr) (vs:List V),v=.ref b->gE X.K H b vs->bc (view θ H) ds vs->cD ds=true->∃ b vs its,v=.ref b/\EZ X (view θ H) s b ds vs its:=λb vs e1 e2 e3 e4=>by obtain ⟨its,rv,pl,_⟩:=I.tuple e2;exact ⟨b,vs,its,e1,⟨"tuple",_,src_tuple b its.toArray,pl⟩,e3,rv,e4⟩
 have hs:=e;unfold u7 at hs;split at hs
 ·cases hs;obtain ⟨⟨b,vs,rfl,hb,rr⟩,so⟩:=r;exact tup b vs rfl (.inl (.inl (aA _ _ _ _ hb))) rr (by simpa [cb] using so)
 ·cases hs;obtain ⟨b,rfl,⟨o,its,n,k1,k2,k3,k4,k5⟩,k6,k7⟩:=r;refine tup b _ rfl (.inr ⟨o,its,n,k1,k2,k3,k4,k5⟩) (lK (x9 (G:=X.G) (θ:=θ) (H:=H) k6 k7) (lF _)).1 k7
 ·obtain ⟨b,vs,rfl,hb,rr,so⟩:=qQ w r hs;obtain ⟨its,n,rv,eo,hz⟩:=I.lst hb;exact ⟨b,vs,its,rfl,⟨"list",_,src_list b its.toArray,⟨_,eo,rfl,n,rfl⟩⟩,rr,rv,so⟩
theorem sU {M:Hp} {h:Heap} {ds:Uq} {vs:List V} {its:Us} (rp:bc M ds vs) (rv:Vals vs its) {as:Ur} (ra:ReadsAll h its ds as):∀ {us:Us} {zs:Uq} {bs:Ur},ReadsAll h us zs bs->(∀ u∈us,u∈its)->∃ ws,Vals ws us/\bc M zs ws
 | _,_,_,.nil,_=>⟨[],.nil,rfl⟩
 | _,_,_,.cons r t,hu=>by obtain ⟨ws,q1,q2⟩:=sU rp rv ra t λu m=>hu u (P5 _ m);obtain ⟨i,hi⟩:=Ri (hu _ (Qe ..));obtain ⟨d,cs,e1,e2⟩:=readsAll_get ra hi;obtain ⟨x,e3,e4⟩:=bc.get' rp e1;obtain ⟨u',e5,e6⟩:=rv.get e3;rw [hi] at e5;cases e5;have:=(PySem.Reads.unique r _ _ e2).1;subst this;exact ⟨x::ws,.cons e6 q1,.cons e4 q2⟩
theorem E0 {ds:Uq} (h:setOk ds=true) (so:cD ds=true):∃ md,ds.length<=120/\(∀ d∈ds,aw d=true)/\∀ d∈ds,Ku md d:=by
 simp only [setOk,PV,Qb,Ry] at h;obtain ⟨⟨⟨h1,h2⟩,h3⟩,h4⟩:=h;have t:=va.mp h2;rcases h1 with h1 | h1
 ·exact ⟨true,h4,t,λd m=>⟨t d m,fA.mp h3 d m,bB.mp so d m,Qc.mp h1 d m⟩⟩
 ·refine ⟨false,h4,t,λd m=>⟨t d m,fA.mp h3 d m,bB.mp so d m,?_⟩⟩;have:=Qc.mp h1 d m;cases d<;>simp [fT] at this<;>rfl
section
variable {X:Cx} {E:XK} {m m2:ME} {e e2:Expr} {k:Nat} {pins:Uk} {σ:St} {H:Hp} {s:UD} {θ:Ur} {hm:Hm} {Q:VK} {p1 p2 p3 p4 p5 p6 pos:Pos}
theorem zX {M:Hp} {vp:Value->Prop} {md:Bool} {a:Addr} {dsS zs ds:Uq} {vs:List V} {its:Us} {s':UD} {as:Ur} (I:L2.Inv X pins σ H s) (w:W X.G θ hm H) (sm:M=view θ H) (hk:∀ b o,s.heap.get? b=some o->s'.heap.get? b=some o) (hs:∃ h tk dr,s'={s with heap:=h,toks:=tk,drawn:=dr}) (hsz:s.heap.objs.size<=s'.heap.objs.size)
  (S:kg vp X.w s'.heap a md dsS) (hh:X.A.handled=none) (pz:List.Perm dsS zs) (ok:fg zs=true) (so:cD zs=true) (hu:X.A.units+60 < cLine) (rp:bc M ds vs) (rv:Vals vs its) (ra:ReadsAll s'.heap its ds as) (hvp:∀ v,vp v->v∈its)
  (q:aC X.G (m9 X.G E) θ H (.ok (.dat (.list (cQ ltB zs))) hm) (KV X.G Q)):wpAny (model X.prog X.w) X.A (call (.builtin "sorted") [.ref a]) (EP X pins σ Q) X.xe s':=by
 obtain ⟨h1,tk1,dr1,rfl⟩:=hs;refine zW S hh pz ok hu λh' dr tk p us e' hp kp he ⟨bs,rb⟩ vu=>?_;have ra':ReadsAll h' its ds as:=Rg kp ra;obtain ⟨ws,q1,q2⟩:=sU rp rv ra' rb λu m=>hvp u (vu u m);have hpp:s.heap.objs.size<=p:=P6 hsz hp;have hn:H p=none:=I.hok.fresh hpp;obtain ⟨ev,w1,g⟩:=w.put (o:=.lst ws) hn;have hlen:ws.length<=sizeLine:=by have x1:=q2.length;have x2:(cQ ltB zs).length=zs.length:=(bR _ _).length_eq;simp only [fg,PV,Qb] at ok;rw [Ro];omega
 have I2:L2.Inv X pins σ (upd H p (.lst ws)) {s with heap:=h',toks:=tk}:=I.laid (t':=tk) (λb o eb=>kp b o (hk b o eb)) hpp ⟨hlen,us,e',q1,he⟩;subst sm;exact ⟨.ref p,_,I2.dr dr,rfl,q _ _ ev w1 _ ⟨⟨p,ws,rfl,g,q2.same ev.same⟩,by simp only [cb];exact u0 (bR _ _).symm so⟩⟩
theorem sV (hc:X.calm=true) (hr:L2.cg k X.A) (hm1:X.mg "sorted" = none) (hm2:X.mg "set" = none) (ha:DE X E m e) (hg:Gl X "sorted" := by rfl) (hg2:Gl X "set" := by rfl) (hs:starEach [e] X.env=[(false,eval e X.env)]:=by rfl)
  (hs3:starEach [.Call (.Name "set" p2) [e] [] p3] X.env=[(false,eval (.Call (.Name "set" p2) [e] [] p3) X.env)]:=by rfl) :
  DE X E (af eL (aa m ah)) (.Call (.Name "sorted" p1) [.Call (.Name "set" p2) [e] [] p3] [] pos):=by
 simp only [bj] at *;intro pins s σ H Q I ⟨θ,h,ρ,w,fr,p⟩;refine QZ (mT I hg hm1 (by decide +kernel:bootBuiltins "sorted" = some (.builtin "sorted")) ?_);refine Tj ?_ (by rw [hs3];rfl) (by rfl);rw [hs3];show wpAny _ _ (spliced ((false,eval (.Call (.Name "set" p2) [e] [] p3) X.env)::[])) _ _ s;refine Si ?_;refine QZ (mT I hg2 hm2 (by decide +kernel:bootBuiltins "set" = some (.type "set")) ?_);refine RI ?_ (by rw [hs];rfl) (by rfl);rw [hs];show wpAny _ _ (spliced ((false,eval e X.env)::[])) _ _ s;simp only [af,aa,ah,R.bind_assoc,R.ak] at p;refine Si (bq (ha pins s σ H (λv H1=>∃ θ1 h1 d,W X.G θ1 h1 H1/\bQ X.G θ1 H1 d v/\aC X.G (m9 X.G E) θ1 H1 (eL [d] h1) (Ml.KV X.G Q)) I ⟨θ,h,ρ,w,fr,(aC.bind p).mono λd θ1 h1 H1 _ _ ⟨ev,w1,q1⟩ v r1=>⟨θ1,h1,d,w1,r1,q1⟩⟩) λu s1 ⟨v,H1,I1,rv1,θ1,h1,d,w1,r1,q1⟩=>?_);refine Ta ?_
 cases hsq:u7 d h1 with
 | none=>simp only [eL,hsq] at q1;exact q1.elim
 | some ds=>
  have hds:=hsq;simp only [eL,hsq] at q1;by_cases hc2:(setOk ds && fg (fq ds))=true
  ·rw [if_pos hc2] at q1
   ·skip
    simp only [PV] at hc2;obtain ⟨b,vs,its,rfl,SS⟩:=Hd I1 w1 r1 hds;cases rv1;obtain ⟨T,OK,src,hok⟩:=SS.src;obtain ⟨as,ra⟩:=bc.reads I1 (SS.rep.same (aA _ _)) SS.val;obtain ⟨md,hl,ht,hel⟩:=E0 hc2.1 SS.so;have hun:=hr.un;refine EV (vp:=λv=>v∈its) (md:=md) (ys:=ds) (as:=as) src (I1.ok.hd hc) hok (by simpa using ra) hel (λv m=>by simpa using m) hl (by omega) λh' tk dsS S md' kp=>?_;refine Ta ?_;have S0:=S;obtain ⟨_,_,_,SA⟩:=S0;refine zX (s:=s1) (s':={s1 with heap:=h',toks:=tk}) I1 w1 rfl kp ⟨h',tk,s1.drawn,rfl⟩ (Th (P1 SA.ob)) S (I1.ok.hd hc) ?_ hc2.2 ?_ (by omega) SS.rep SS.val (Rg kp ra) (λv hv=>hv) q1
    ·refine (List.perm_ext_iff_of_nodup SA.nd (iG ht)).mpr λd=>?_;rw [md',jw ht]
    ·exact bB.mpr λd m=>bB.mp SS.so d ((jw ht d).mp m)
  ·rw [if_neg hc2] at q1;exact q1.elim
end
theorem vz:∀ {xs ys:Uq},xs.Nodup->(∀ x∈xs,x∈ys)->xs.length<=ys.length
 | [],_,_,_=>Rf _
 | x::xs,ys,nd,h=>by
  classical
  obtain ⟨n1,n2⟩:=Rv.mp nd;have hx:=h x (Qe ..);obtain ⟨i,hi,e⟩:=Sd hx;have p:=fx hi;rw [e] at p
  have:=vz (xs:=xs) (ys:=ys.eraseIdx i) n2 λy hy=>by
   have:=p.mem_iff.mpr (h y (P5 _ hy));rcases PZ.mp this with z | z
   ·exact absurd hy (z▸n1)
   ·exact z
  have pl:=p.length_eq;simp only [Qf] at pl ⊢;omega
end Ml
namespace Ml
open PySem PySem.Spec L2
theorem nJ {N ps:Uu} {sc:Scope} (a:sc.kind=.function:=by rfl) (b:sc.isCoroutine=false:=by rfl) (c:sc.isGenerator=false:=by rfl) (d:N.Nodup:=by decide +kernel) (e:N.take ps.length=ps:=by rfl)
  (f:∀ x∈ps,sc.names.lookup x=some .local\/sc.names.lookup x=some .cell:=by decide +kernel) (g:∀ y∈sc.names,y.2≠.free:=by decide +kernel):aP N ps sc:=⟨a,b,c,d,e,f,g⟩
section
variable {X:Cx} {E:XK} {x:Str} {ps:Uu} {k j:Nat} {F:Fn} {e e1 e2:Expr} {es:Uv} {ma:MA} {m1 m2:ME} {p pos:Pos}
theorem ko (F':bh X.prog X.w X.K X.mg X.base x ps k F) (hx:Passes (tU X.prog X.w) X E) (hr:cg j X.A) (ha:DA X E ma (e::es)) (hk:k<=j:=by omega) (hg:Gl X x:=by rfl) (hdb:(x == ("__debug__" : Str))=false:=by decide) (he:starEach (e::es) X.env=(false,eval e X.env)::starEach es X.env:=by rfl)
  (hpl:(backTo pos (starEach es X.env)).any (·.1)=false:=by rfl):DE X E (af F ma) (.Call (.Name x p) (e::es) [] pos):=L0 F' hx (hr.mono hk) hg ha hdb he hpl
end
end Ml
namespace K14
open PySem L2 Ml
def top (i:Nat):Stmt:=PySem.Challenge.pw_everalike_k14_fullest_webs_and_how_many.main.body.getD i (.Pass ⟨0,0,0,0⟩)
structure Txt (K:Ut) (mg:Uo):Prop where
 n_all:mg "all" = none
 n_len:mg "len" = none
 n_isinstance:mg "isinstance" = none
 n_str:mg "str" = none
 n_zip:mg "zip" = none
 n_tuple:mg "tuple" = none
 n_int:mg "int" = none
 n_max:mg "max" = none
 n_divmod:mg "divmod" = none
 n_sorted:mg "sorted" = none
 n_range:mg "range" = none
 n_set:mg "set" = none
 n_list:mg "list" = none
 n_repr:mg "repr" = none
 i_LONGEST_NAME:∃ t,mg "LONGEST_NAME" = some (.int 6 t)
 i_MOST_NAMES:∃ t,mg "MOST_NAMES" = some (.int 12 t)
 f_IDLE:∃ a,mg "IDLE" = some (.ref a)/\G0 K mg a nv
 t_KINDS:∃ a,mg "KINDS" = some (.ref a)/\DX K a wG
section
variable {P:UA} {w:World} {K:Ut} {mg:Uo} {base:Heap} {XE:VK->XK} {bm:Addr}
abbrev pH:Stmt:=top 7
abbrev lR:Uu:=["thing"]
theorem zY:aP ["thing"] lR (aE pH):=nJ
theorem wN:(["letter", "thing"]:Uu).Nodup:=by decide +kernel
abbrev vA (P:UA) (w:World) (K:Ut) (mg:Uo) (base:Heap):Prop:=bh P w K mg base "is_name" lR 1 ju
theorem CG (D:Df K mg "is_name" lR pH) (T:Txt K mg):vA P w K mg base:=
 bh.eq (Df.has (k:=0) D zY (λf cdv A outer s H E hr=>
  ax (hG (DW.dt (pX (ja (dH (Ep (GA _) JH T.n_isinstance T.n_str (dv 0)))) (kK (ja (Eo GO GO (aJ) (uj mH T.n_len i7 (ae (dv 0) (ai))) (Bg T.i_LONGEST_NAME)))))) (aG (ba (fh))) (cS))
  (aG (ba (uj (Be rfl) T.n_all vY (ae (eQ ["letter"] (by rfl) rfl (bY (dv 0)) (λ_ _ _ _ _=>dg 0 wN) (λ_ _ _ _ _=>fj) (λ_ _ _ _ _=>En GO GO (dF) (dv 0) (dF))) (ai))))))) (by kernel_rfl)
abbrev kO:Stmt:=top 8
abbrev iL:Uu:=["things"]
theorem wO:aP ["things"] iL (aE kO):=nJ
theorem kP:(["low", "high", "things"]:Uu).Nodup:=by decide +kernel
abbrev kQ (P:UA) (w:World) (K:Ut) (mg:Uo) (base:Heap):Prop:=bh P w K mg base "is_rising" iL 1 gu
theorem yC (D:Df K mg "is_rising" iL kO) (T:Txt K mg):kQ P w K mg base:=
 bh.eq (Df.has (k:=0) D wO (λf cdv A outer s H E hr=>
  aG (ba (uj (Be rfl) T.n_all vY (ae (eQ ["low", "high"] (by rfl) rfl (JZ (by rfl) T.n_zip (ae (dv 0) (ae (Eb (dv 0) (wA (aJ)) (GP)) (ai)))) (λ_ _ _ _ _=>kL rfl (bX (dg 0 kP) (bX (dg 1 kP) (iB))) (bo (bo (eV)))) (λ_ _ _ _ _=>fj) (λ_ _ _ _ _=>dG (GN hr) (dv 0) (dv 1) (by rfl))) (ai)))))) (by kernel_rfl)
abbrev kR:Stmt:=top 9
abbrev iM:Uu:=["thing"]
theorem wQ:aP ["thing"] iM (aE kR):=nJ
theorem sW:(["part", "thing"]:Uu).Nodup:=by decide +kernel
abbrev qq (P:UA) (w:World) (K:Ut) (mg:Uo) (base:Heap):Prop:=bh P w K mg base "are_names" iM 2 iE
theorem yD (D:Df K mg "are_names" iM kR) (T:Txt K mg) (J8:kQ P w K mg base) (J7:vA P w K mg base):qq P w K mg base:=
 bh.eq (Df.has (k:=1) D wQ (λf cdv A outer s H E hr=>
  ax (hG (DW.dt (pX (ja (dH (Ep (kit_tuple _) cV T.n_isinstance T.n_tuple (dv 0)))) (kK (cH N0 (uj mH T.n_len i7 (ae (dv 0) (ai))) (Bg T.i_MOST_NAMES) (by rfl))))) (aG (ba (fh))) (cS))
  (aG (ba (gg (uj (Be rfl) T.n_all vY (ae (eQ ["part"] (by rfl) rfl (bY (dv 0)) (λ_ _ _ _ _=>dg 0 sW) (λ_ _ _ _ _=>fj) (λ_ _ _ _ _=>ko J7 cu hr (ae (dv 0) (ai)))) (ai))) (fi (ko J8 cj hr (ae (dv 0) (ai))))))))) (by kernel_rfl)
abbrev kS:Stmt:=top 10
abbrev iN:Uu:=["thing", "names"]
theorem wR:aP ["thing", "names"] iN (aE kS):=nJ
abbrev qr (P:UA) (w:World) (K:Ut) (mg:Uo) (base:Heap):Prop:=bh P w K mg base "is_strike" iN 1 gv
theorem yE (D:Df K mg "is_strike" iN kS) (T:Txt K mg):qr P w K mg base:=
 bh.eq (Df.has (k:=0) D wR (λf cdv A outer s H E hr=>
  ax (hG (DW.dt (pX (ja (dH (Ep (kit_tuple _) cV T.n_isinstance T.n_tuple (dv 0)))) (kK (cH (xT hr) (uj mH T.n_len i7 (ae (dv 0) (ai))) (aJ) (by rfl))))) (aG (ba (fh))) (cS))
  (aG (ba (gg (dG (nj hr) (cF (bf hr) (dv 0) (aJ) (λ_ _=>rfl)) (dv 1) (by rfl)) (fi (dG (nj hr) (cF (bf hr) (dv 0) (aJ) (λ_ _=>rfl)) (dv 1) (by rfl)))))))) (by kernel_rfl)
abbrev je:Stmt:=top 11
abbrev gk:Uu:=["thing", "names"]
theorem sX:aP ["thing", "names"] gk (aE je):=nJ
theorem pI:(["part", "thing", "names"]:Uu).Nodup:=by decide +kernel
abbrev mL (P:UA) (w:World) (K:Ut) (mg:Uo) (base:Heap):Prop:=bh P w K mg base "are_strikes" gk 2 gh
theorem uz (D:Df K mg "are_strikes" gk je) (T:Txt K mg) (J8:kQ P w K mg base) (J10:qr P w K mg base):mL P w K mg base:=
 bh.eq (Df.has (k:=1) D sX (λf cdv A outer s H E hr=>
  ax (hG (ja (dH (Ep (kit_tuple _) cV T.n_isinstance T.n_tuple (dv 0)))) (aG (ba (fh))) (cS))
  (aG (ba (gg (uj (Be rfl) T.n_all vY (ae (eQ ["part"] (by rfl) rfl (bY (dv 0)) (λ_ _ _ _ _=>dg 0 pI) (λ_ _ _ _ _=>fj) (λ_ _ _ _ _=>ko J10 cu hr (ae (dv 0) (ae (dv 2) (ai))))) (ai))) (fi (ko J8 cj hr (ae (dv 0) (ai))))))))) (by kernel_rfl)
abbrev sY:Stmt:=top 12
abbrev oE:Uu:=["thing"]
theorem pJ:aP ["thing", "names", "strikes"] oE (aE sY):=nJ
abbrev yF (P:UA) (w:World) (K:Ut) (mg:Uo) (base:Heap):Prop:=bh P w K mg base "is_web" oE 3 ow
theorem E1 (D:Df K mg "is_web" oE sY) (T:Txt K mg) (J11:mL P w K mg base) (J9:qq P w K mg base):yF P w K mg base:=
 bh.eq (Df.has (k:=2) D pJ (λf cdv A outer s H E hr=>
  ax (hG (DW.dt (pX (ja (dH (Ep (kit_tuple _) cV T.n_isinstance T.n_tuple (dv 0)))) (kK (cH (xT hr) (uj mH T.n_len i7 (ae (dv 0) (ai))) (aJ) (by rfl))))) (aG (ba (fh))) (cS))
  (ax (nc (dv 0) (kL rfl (bX (dg 1 pJ.nd) (bX (dg 2 pJ.nd) (iB))) (bo (bo (eV)))))
  (aG (ba (gg (ko J9 cj hr (ae (dv 1) (ai))) (fi (ko J11 cj hr (ae (dv 2) (ae (dv 1) (ai))))))))))) (by kernel_rfl)
abbrev kT:Stmt:=top 13
abbrev iO:Uu:=["thing"]
theorem wU:aP ["thing"] iO (aE kT):=nJ
abbrev qt (P:UA) (w:World) (K:Ut) (mg:Uo) (base:Heap):Prop:=bh P w K mg base "check_web" iO 4 gw
theorem yG (D:Df K mg "check_web" iO kT) (T:Txt K mg) (J12:yF P w K mg base):qt P w K mg base:=
 bh.eq (Df.has (k:=3) D wU (λf cdv A outer s H E hr=>
  aG (hG (ja (dH (ko J12 cj hr (ae (dv 0) (ai))))) (aG (Et)) (cS)))) (by kernel_rfl)
abbrev jX:Stmt:=top 16
abbrev gR:Uu:=["thing"]
theorem uA:aP ["thing"] gR (aE jX):=nJ
abbrev oF (P:UA) (w:World) (K:Ut) (mg:Uo) (base:Heap):Prop:=bh P w K mg base "check_kind" gR 1 jN
theorem wV (D:Df K mg "check_kind" gR jX) (T:Txt K mg):oF P w K mg base:=
 bh.eq (Df.has (k:=0) D uA (λf cdv A outer s H E hr=>
  aG (hG (cH (Ek hr) (dv 0) (GR T.t_KINDS) (by rfl)) (aG (Et)) (cS)))) (by kernel_rfl)
abbrev fB:Stmt:=top 18
abbrev dC:Uu:=["strikes", "one", "other"]
theorem ny:aP ["strikes", "one", "other"] dC (aE fB):=nJ
abbrev fE (P:UA) (w:World) (K:Ut) (mg:Uo) (base:Heap):Prop:=bh P w K mg base "idle_for_stable" dC 1 bK
theorem oG (D:Df K mg "idle_for_stable" dC fB) (T:Txt K mg):fE P w K mg base:=
 bh.eq (Df.has (k:=0) D ny (λf cdv A outer s H E hr=>
  aG (ba (dG (nj hr) (bI (ae (dv 1) (ae (dv 1) (ai)))) (dv 0) (by rfl))))) (by kernel_rfl)
abbrev ee:Stmt:=top 19
abbrev cM:Uu:=["strikes", "one", "other"]
theorem kU:aP ["strikes", "one", "other"] cM (aE ee):=nJ
abbrev eh (P:UA) (w:World) (K:Ut) (mg:Uo) (base:Heap):Prop:=bh P w K mg base "idle_for_standing" cM 1 bb
theorem mq (D:Df K mg "idle_for_standing" cM ee) (T:Txt K mg):eh P w K mg base:=
 bh.eq (Df.has (k:=0) D kU (λf cdv A outer s H E hr=>
  aG (ba (gg (dG (nj hr) (bI (ae (dv 1) (ae (dv 1) (ai)))) (dv 0) (by rfl)) (fi (wF (dG (nj hr) (bI (ae (dv 2) (ae (dv 1) (ai)))) (dv 0) (by rfl)) (fi (dG (nj hr) (bI (ae (dv 2) (ae (dv 2) (ai)))) (dv 0) (by rfl))))))))) (by kernel_rfl)
abbrev fW:Stmt:=top 20
abbrev dR:Uu:=["strikes", "one", "other"]
theorem oH:aP ["strikes", "one", "other"] dR (aE fW):=nJ
abbrev fX (P:UA) (w:World) (K:Ut) (mg:Uo) (base:Heap):Prop:=bh P w K mg base "idle_for_whole" dR 1 bS
theorem pK (D:Df K mg "idle_for_whole" dR fW) (T:Txt K mg):fX P w K mg base:=
 bh.eq (Df.has (k:=0) D oH (λf cdv A outer s H E hr=>
  aG (ba (gg (dG (nj hr) (bI (ae (dv 1) (ae (dv 1) (ai)))) (dv 0) (by rfl)) (fi (dG (nj hr) (bI (ae (dv 2) (ae (dv 2) (ai)))) (dv 0) (by rfl))))))) (by kernel_rfl)
abbrev et:Stmt:=top 21
abbrev cN:Uu:=["strikes", "one", "other"]
theorem kW:aP ["strikes", "one", "other"] cN (aE et):=nJ
abbrev eA (P:UA) (w:World) (K:Ut) (mg:Uo) (base:Heap):Prop:=bh P w K mg base "idle_for_grounded" cN 1 bu
theorem mr (D:Df K mg "idle_for_grounded" cN et) (T:Txt K mg):eA P w K mg base:=
 bh.eq (Df.has (k:=0) D kW (λf cdv A outer s H E hr=>
  aG (ba (gg (dG (nj hr) (bI (ae (dv 2) (ae (dv 2) (ai)))) (dv 0) (by rfl)) (fi (wF (dG (nj hr) (bI (ae (dv 1) (ae (dv 1) (ai)))) (dv 0) (by rfl)) (fi (dG (nj hr) (bI (ae (dv 2) (ae (dv 1) (ai)))) (dv 0) (by rfl))))))))) (by kernel_rfl)
abbrev sZ:Stmt:=top 23
abbrev oJ:Uu:=["web", "kind"]
theorem gX:aP ["web", "kind", "idle", "names", "strikes", "there", "kept"] oJ (aE sZ):=nJ
theorem qu:(["one", "other", "web", "kind", "idle", "names", "strikes", "there", "kept"]:Uu).Nodup:=by decide +kernel
theorem yH:(["strike", "web", "kind", "idle", "names", "strikes", "there", "kept"]:Uu).Nodup:=by decide +kernel
abbrev tj (P:UA) (w:World) (K:Ut) (mg:Uo) (base:Heap):Prop:=bh P w K mg base "kernel" oJ 5 ox
theorem E3 (D:Df K mg "kernel" oJ sZ) (T:Txt K mg) (J21:eA P w K mg base) (J19:eh P w K mg base) (J18:fE P w K mg base) (J20:fX P w K mg base) (J16:oF P w K mg base) (J13:qt P w K mg base):tj P w K mg base:=
 bh.eq (Df.has (k:=4) D gX (λf cdv A outer s H E hr=>
  ax (n9 (ko J13 cj hr (ae (dv 0) (ai))))
  (ax (n9 (ko J16 cj hr (ae (dv 1) (ai))))
  (ax (gr 2 gX.nd (Bl T.f_IDLE (dv 1) (λ_ _=>rfl)))
  (ax (nc (dv 0) (kL rfl (bX (dg 3 gX.nd) (bX (dg 4 gX.nd) (iB))) (bo (bo (eV)))))
  (ax (gr 5 gX.nd (yh ["strike"] true hr (by rfl) rfl (bY (dv 4)) (λ_ _ _ _ _=>dg 0 yH) (λ_ _ _ _ _=>fj) (λ_ _ _ _ _=>dv 0) (λ_ _ _ _ _=>fh)))
  (ax (wq (i:=6) ["one", "other"] gX.nd rfl rfl (by rfl) rfl (bY (dv 4)) (λ_ _ _ _ _=>kL rfl (bX (dg 0 qu) (bX (dg 1 qu) (iB))) (bo (bo (eV)))) (λ_ _ _ _ _=>iC (DW.dt (pX (cH (Cs hr) (dv 0) (dv 1) (by rfl)) (kK (ja (dH (ED (k:=1) 4 (.cons (J21.mono (by decide)) (.cons (J19.mono (by decide)) (.cons (J18.mono (by decide)) (.cons (J20.mono (by decide)) (.nil))))) cu (hr.mono (by omega)) (ae (dv 7) (ae (dv 0) (ae (dv 1) (ai))))))))))) (λ_ _ _ _ _=>bI (ae (dv 0) (ae (dv 1) (ai)))))
  (aG (ba (bI (ae (dv 3) (ae (jC (iD rfl) T.n_tuple cV (ae (dv 6) (ai))) (ai))))))))))))) (by kernel_rfl)
abbrev pM:Stmt:=top 24
abbrev lU:Uu:=["web", "kind"]
theorem fY:aP ["web", "kind", "names", "strikes", "idle", "there", "full"] lU (aE pM):=nJ
theorem oK:(["one", "other", "web", "kind", "names", "strikes", "idle", "there", "full"]:Uu).Nodup:=by decide +kernel
theorem wW:(["strike", "web", "kind", "names", "strikes", "idle", "there", "full"]:Uu).Nodup:=by decide +kernel
abbrev pN (P:UA) (w:World) (K:Ut) (mg:Uo) (base:Heap):Prop:=bh P w K mg base "fullest" lU 6 dN
theorem CH (D:Df K mg "fullest" lU pM) (T:Txt K mg) (J21:eA P w K mg base) (J19:eh P w K mg base) (J18:fE P w K mg base) (J20:fX P w K mg base) (J23:tj P w K mg base):pN P w K mg base:=
 bh.eq (Df.has (k:=5) D fY (λf cdv A outer s H E hr=>
  ax (nc (ko J23 cj hr (ae (dv 0) (ae (dv 1) (ai)))) (kL rfl (bX (dg 2 fY.nd) (bX (dg 3 fY.nd) (iB))) (bo (bo (eV)))))
  (ax (gr 4 fY.nd (Bl T.f_IDLE (dv 1) (λ_ _=>rfl)))
  (ax (gr 5 fY.nd (yh ["strike"] true hr (by rfl) rfl (bY (dv 3)) (λ_ _ _ _ _=>dg 0 wW) (λ_ _ _ _ _=>fj) (λ_ _ _ _ _=>dv 0) (λ_ _ _ _ _=>fh)))
  (ax (Ey (i:=6) ["one", "other"] fY.nd rfl rfl (by rfl) rfl (bY (dv 2)) (λ_ _ _ _ _=>dg 0 oK) (λ_ _ _ _ _=>fj) (λ_ _ _ _ _=>bY (dv 4)) (λ_ _ _ _ _=>dg 1 oK) (λ_ _ _ _ _=>iC (DW.dt (pX (cH (nj hr) (bI (ae (dv 0) (ae (dv 1) (ai)))) (dv 7) (by rfl)) (kK (DW.dt (D1 (cH (xT hr) (dv 0) (dv 1) (by rfl)) (A6 (dH (ED (k:=1) 6 (.cons (J21.mono (by decide)) (.cons (J19.mono (by decide)) (.cons (J18.mono (by decide)) (.cons (J20.mono (by decide)) (.nil))))) cu (hr.mono (by omega)) (ae (dv 7) (ae (dv 0) (ae (dv 1) (ai))))))))))))) (λ_ _ _ _ _=>bI (ae (dv 0) (ae (dv 1) (ai)))))
  (aG (ba (bI (ae (dv 2) (ae (jC (iD rfl) T.n_tuple cV (ae (dv 6) (ai))) (ai))))))))))) (by kernel_rfl)
abbrev nA:Stmt:=top 25
abbrev jY:Uu:=["web", "kind"]
theorem gx:aP ["web", "kind", "kept", "many", "strike"] jY (aE nA):=nJ
abbrev tm (P:UA) (w:World) (K:Ut) (mg:Uo) (base:Heap):Prop:=bh P w K mg base "how_many" jY 7 hU
theorem zZ (D:Df K mg "how_many" jY nA) (T:Txt K mg) (J24:pN P w K mg base) (J23:tj P w K mg base):tm P w K mg base:=
 bh.eq (Df.has (k:=6) D gx (λf cdv A outer s H E hr=>
  ax (gr 2 gx.nd (cF (bf hr) (ko J23 cj hr (ae (dv 0) (ae (dv 1) (ai)))) (aJ) (λ_ _=>rfl)))
  (ax (gr 3 gx.nd (aJ))
  (ax (jb rfl (bY (cF (bf hr) (ko J24 cu hr (ae (dv 0) (ae (dv 1) (ai)))) (aJ) (λ_ _=>rfl))) (dg 4 gx.nd) (aG (hG (cH (Ek hr) (dv 4) (dv 2) (by rfl)) (aG (N6 3 gx.nd (dv 3))) (cS))))
  (aG (ba (dv 3))))))) (by kernel_rfl)
abbrev kX:Stmt:=top 27
abbrev iP:Uu:=["_law_script", "_law_k"]
theorem wX:aP ["_law_script", "_law_k"] iP (aE kX):=nJ
abbrev qv (P:UA) (w:World) (K:Ut) (mg:Uo) (base:Heap):Prop:=bh P w K mg base "_law_cell" iP 1 eW
theorem yI (D:Df K mg "_law_cell" iP kX) (T:Txt K mg):qv P w K mg base:=
 bh.eq (Df.has (k:=0) D wX (λf cdv A outer s H E hr=>
  ax (hG (cH (GN hr) (dv 1) (uj mH T.n_len i7 (ae (dv 0) (ai))) (by rfl)) (aG (ba (cF (bf hr) (dv 0) (dv 1) (λ_ _=>rfl)))) (cS))
  (aG (ba (aJ))))) (by kernel_rfl)
abbrev nB:Stmt:=top 28
abbrev jZ:Uu:=["_law_cell_here"]
theorem qw:aP ["_law_cell_here", "_law_more"] jZ (aE nB):=nJ
abbrev tp (P:UA) (w:World) (K:Ut) (mg:Uo) (base:Heap):Prop:=bh P w K mg base "_law_pen" jZ 1 hV
theorem Aa (D:Df K mg "_law_pen" jZ nB) (T:Txt K mg):tp P w K mg base:=
 bh.eq (Df.has (k:=0) D qw (λf cdv A outer s H E hr=>
  ax (gr 1 qw.nd (uj (L5 rfl) T.n_max JG (ae (dv 0) (ae (cq Ih (aJ) (dv 0)) (ai)))))
  (aG (ba (wo (ae (dv 1) (ae (jC L6 T.n_int Ki (ae (dG N3 (dv 1) (fo 8 (d:=.int (10 ^ 18)) (Lit.of (by kernel_rfl)) (by decide +kernel)) (by rfl)) (ai))) (ai)))))))) (by kernel_rfl)
abbrev kY:Stmt:=top 29
abbrev iQ:Uu:=["_law_pen_here", "_law_many"]
theorem fF:aP ["_law_pen_here", "_law_many", "_law_rest", "_law_drawn", "_law_stir"] iQ (aE kY):=nJ
abbrev gz (P:UA) (w:World) (K:Ut) (mg:Uo) (base:Heap):Prop:=bh P w K mg base "_law_draw" iQ 1 aK
theorem yJ (D:Df K mg "_law_draw" iQ kY) (T:Txt K mg):gz P w K mg base:=
 bh.eq (Df.has (k:=0) D fF (λf cdv A outer s H E hr=>
  ax (hG (cH (Cs hr) (cF (bf hr) (dv 0) (aJ) (λ_ _=>rfl)) (aJ) (by rfl)) (ax (nc (uj Ed T.n_divmod Cg (ae (cF (bf hr) (dv 0) (aJ) (λ_ _=>rfl)) (ae (dv 1) (ai)))) (kL rfl (bX (dg 2 fF.nd) (bX (dg 3 fF.nd) (iB))) (bo (bo (eV)))))
  (ax (nc (dv 2) (Ej hr (dv 0) (aJ) (λ_=>rfl)))
  (aG (ba (dv 3))))) (cS))
  (ax (gr 4 fF.nd (cq xU (cq Ba (cq kb (cq xU (cF (bf hr) (dv 0) (aJ) (λ_ _=>rfl)) (aJ)) (aJ)) (aJ)) (aJ)))
  (ax (gr 4 fF.nd (cq xU (cq kb (cq Ba (dv 4) (dv 4)) (aJ)) (aJ)))
  (ax (nc (cq xU (cq kb (cq Ba (dv 4) (aJ)) (aJ)) (aJ)) (Ej hr (dv 0) (aJ) (λ_=>rfl)))
  (aG (ba (cq xU (cq Kb (cF (bf hr) (dv 0) (aJ) (λ_ _=>rfl)) (aJ)) (dv 1))))))))) (by kernel_rfl)
abbrev j0:Stmt:=top 30
abbrev gS:Uu:=["_law_pen_here", "_law_most"]
theorem mM:aP ["_law_pen_here", "_law_most", "_law_left"] gS (aE j0):=nJ
theorem qL:(["_law_lap", "_law_pen_here", "_law_most", "_law_left"]:Uu).Nodup:=by decide +kernel
abbrev oM (P:UA) (w:World) (K:Ut) (mg:Uo) (base:Heap):Prop:=bh P w K mg base "_law_names" gS 2 jR
theorem wY (D:Df K mg "_law_names" gS j0) (T:Txt K mg) (J29:gz P w K mg base):oM P w K mg base:=
 bh.eq ((Df.has (k:=1) D mM (λf cdv A outer s H E hr=>
  ax (gr 2 mM.nd (wo (ae (dF) (ae (dF) (ae (dF) (ae (dF) (ae (dF) (ae (dF) (ae (dF) (ae (dF) (ae (dF) (ae (dF) (ae (dF) (ae (dF) (ai)))))))))))))))
  (aG (ba (jC (iD rfl) T.n_tuple cV (ae (uj (D9 hr) T.n_sorted Cf (ae (eQ ["_law_lap"] (by rfl) rfl (A8 (by rfl) T.n_range (ae (ko J29 cj hr (ae (dv 0) (ae (cq kb (dv 1) (aJ)) (ai)))) (ai))) (λ_ _ _ _ _=>dg 0 qL) (λ_ _ _ _ _=>fj) (λ_ _ _ _ _=>Ef (dv 3) (ko J29 cu hr (ae (dv 1) (ae (uj mH T.n_len i7 (ae (dv 3) (ai))) (ai)))))) (ai))) (ai))))))).gq) (by kernel_rfl)
abbrev nC:Stmt:=top 31
abbrev j3:Uu:=["_law_pen_here", "_law_most"]
theorem eY:aP ["_law_pen_here", "_law_most", "_law_names_here", "_law_share", "_law_strikes", "_law_one"] j3 (aE nC):=nJ
theorem uB:(["_law_other", "_law_pen_here", "_law_most", "_law_names_here", "_law_share", "_law_strikes", "_law_one"]:Uu).Nodup:=by decide +kernel
abbrev tu (P:UA) (w:World) (K:Ut) (mg:Uo) (base:Heap):Prop:=bh P w K mg base "_law_web" j3 3 jS
theorem Ab (D:Df K mg "_law_web" j3 nC) (T:Txt K mg) (J29:gz P w K mg base) (J30:oM P w K mg base):tu P w K mg base:=
 bh.eq (Df.has (k:=2) D eY (λf cdv A outer s H E hr=>
  ax (nc (bI (ae (ko J30 cj hr (ae (dv 0) (ae (dv 1) (ai)))) (ae (cF (bf hr) (fo 8 (d:=.list [.int 1,.int 2,.int 3,.int 5]) (Lit.of (by kernel_rfl)) (by decide +kernel)) (ko J29 cj hr (ae (dv 0) (ae (aJ) (ai)))) (λ_ _=>rfl)) (ae (fo 8 (d:=.list []) (Lit.of (by kernel_rfl)) (by decide +kernel)) (ai))))) (kL rfl (bX (dg 2 eY.nd) (bX (dg 3 eY.nd) (bX (dg 4 eY.nd) (iB)))) (bo (bo (bo (eV))))))
  (ax (jb rfl (bY (dv 2)) (dg 5 eY.nd) (aG (gr 4 eY.nd (cq kb (dv 4) (eQ ["_law_other"] (by rfl) rfl (bY (dv 2)) (λ_ _ _ _ _=>dg 0 uB) (λ_ _ _ _ _=>iC (cH (GN hr) (ko J29 cu hr (ae (dv 1) (ae (aJ) (ai)))) (dv 4) (by rfl))) (λ_ _ _ _ _=>bI (ae (dv 6) (ae (dv 0) (ai)))))))))
  (aG (ba (bI (ae (dv 2) (ae (jC (iD rfl) T.n_tuple cV (ae (dv 4) (ai))) (ai))))))))) (by kernel_rfl)
abbrev kZ:Stmt:=top 32
abbrev iR:Uu:=["_law_names_here"]
theorem gU:aP ["_law_names_here", "_law_got", "_law_name"] iR (aE kZ):=nJ
theorem tw:(["_law_lot", "_law_names_here", "_law_got", "_law_name"]:Uu).Nodup:=by decide +kernel
abbrev qx (P:UA) (w:World) (K:Ut) (mg:Uo) (base:Heap):Prop:=bh P w K mg base "_law_lots" iR 1 iH
theorem yK (D:Df K mg "_law_lots" iR kZ) (T:Txt K mg):qx P w K mg base:=
 bh.eq (Df.has (k:=0) D gU (λf cdv A outer s H E hr=>
  ax (gr 1 gU.nd (fo 8 (d:=.list [.tuple []]) (Lit.of (by kernel_rfl)) (by decide +kernel)))
  (ax (jb rfl (bY (dv 0)) (dg 2 gU.nd) (aG (gr 1 gU.nd (cq kb (dv 1) (eQ ["_law_lot"] (by rfl) rfl (bY (dv 1)) (λ_ _ _ _ _=>dg 0 tw) (λ_ _ _ _ _=>fj) (λ_ _ _ _ _=>cq kb (dv 0) (bI (ae (dv 3) (ai)))))))))
  (aG (ba (dv 1)))))) (by kernel_rfl)
abbrev jf:Stmt:=top 33
abbrev gm:Uu:=["_law_one", "_law_other"]
theorem tB:aP ["_law_one", "_law_other"] gm (aE jf):=nJ
theorem pO:(["_law_name", "_law_one", "_law_other"]:Uu).Nodup:=by decide +kernel
abbrev mN (P:UA) (w:World) (K:Ut) (mg:Uo) (base:Heap):Prop:=bh P w K mg base "_law_within" gm 1 eM
theorem uC (D:Df K mg "_law_within" gm jf) (T:Txt K mg):mN P w K mg base:=
 bh.eq (Df.has (k:=0) D tB (λf cdv A outer s H E hr=>
  aG (ba (dG (Cs hr) (eQ ["_law_name"] (by rfl) rfl (bY (dv 0)) (λ_ _ _ _ _=>dg 0 pO) (λ_ _ _ _ _=>iC (cH (Ek hr) (dv 0) (dv 2) (by rfl))) (λ_ _ _ _ _=>dv 0)) (fo 8 (d:=.list []) (Lit.of (by kernel_rfl)) (by decide +kernel)) (by rfl))))) (by kernel_rfl)
abbrev eB:Stmt:=top 34
abbrev cO:Uu:=[]
theorem lg:aP [] cO (aE eB):=nJ
abbrev gL (P:UA) (w:World) (K:Ut) (mg:Uo) (base:Heap):Prop:=bh P w K mg base "_law_kernel_kinds" cO 1 cL
theorem mw (D:Df K mg "_law_kernel_kinds" cO eB) (T:Txt K mg):gL P w K mg base:=
 bh.eq (Df.has (k:=0) D lg (λf cdv A outer s H E hr=>
  aG (ba (fo 8 (d:=.list [.str "stable",.str "standing",.str "preferred",.str "whole",.str "grounded"]) (Lit.of (by kernel_rfl)) (by decide +kernel))))) (by kernel_rfl)
abbrev ia:Stmt:=top 35
abbrev fG:Uu:=["_law_web_here", "_law_kind", "_law_one", "_law_other"]
theorem kh:aP ["_law_web_here", "_law_kind", "_law_one", "_law_other", "_law_mine", "_law_its", "_law_back"] fG (aE ia):=nJ
abbrev ib (P:UA) (w:World) (K:Ut) (mg:Uo) (base:Heap):Prop:=bh P w K mg base "_law_is_idle" fG 1 bZ
theorem tD (D:Df K mg "_law_is_idle" fG ia) (T:Txt K mg):ib P w K mg base:=
 bh.eq (Df.has (k:=0) D kh (λf cdv A outer s H E hr=>
  ax (Mb 4 5 6 kh.nd (ae (dG (nj hr) (bI (ae (dv 2) (ae (dv 2) (ai)))) (cF (bf hr) (dv 0) (aJ) (λ_ _=>rfl)) (by rfl)) (ae (dG (nj hr) (bI (ae (dv 3) (ae (dv 3) (ai)))) (cF (bf hr) (dv 0) (aJ) (λ_ _=>rfl)) (by rfl)) (ae (dG (nj hr) (bI (ae (dv 3) (ae (dv 2) (ai)))) (cF (bf hr) (dv 0) (aJ) (λ_ _=>rfl)) (by rfl)) (ai)))))
  (aG (ba (Kq hr (G5 (sD dF (dv 4) (sD dF (gg (dv 4) (fi (dv 5))) (sD dF (gg (dv 5) (fi (wF (dv 4) (fi (dv 6))))) (G4))))) (dv 1) (gg (dv 4) (fi (wF (dv 6) (fi (dv 5))))) ⟨rfl,rfl,rfl,rfl⟩))))) (by kernel_rfl)
abbrev jg:Stmt:=top 36
abbrev gn:Uu:=["_law_web_here", "_law_kind"]
theorem fH:aP ["_law_web_here", "_law_kind", "_law_kept", "_law_one", "_law_other"] gn (aE jg):=nJ
abbrev mO (P:UA) (w:World) (K:Ut) (mg:Uo) (base:Heap):Prop:=bh P w K mg base "_law_kernel" gn 2 bH
theorem uE (D:Df K mg "_law_kernel" gn jg) (T:Txt K mg) (J35:ib P w K mg base):mO P w K mg base:=
 bh.eq ((Df.has (k:=1) D fH (λf cdv A outer s H E hr=>
  ax (gr 2 fH.nd (wo (ai)))
  (ax (jb rfl (bY (cF (bf hr) (dv 0) (aJ) (λ_ _=>rfl))) (kL rfl (bX (dg 3 fH.nd) (bX (dg 4 fH.nd) (iB))) (bo (bo (eV)))) (aG (hG (DW.dt (pX (cH (Cs hr) (dv 3) (dv 4) (by rfl)) (kK (ja (dH (ko J35 cu hr (ae (dv 0) (ae (dv 1) (ae (dv 3) (ae (dv 4) (ai))))))))))) (aG (n9 (pB (dv 2) (bI (ae (dv 3) (ae (dv 4) (ai))))))) (cS))))
  (aG (ba (bI (ae (cF (bf hr) (dv 0) (aJ) (λ_ _=>rfl)) (ae (jC (iD rfl) T.n_tuple cV (ae (dv 2) (ai))) (ai))))))))).gq) (by kernel_rfl)
abbrev fZ:Stmt:=top 37
abbrev dS:Uu:=["_law_pen_here", "_law_most"]
theorem iS:aP ["_law_pen_here", "_law_most", "_law_some"] dS (aE fZ):=nJ
abbrev jy (P:UA) (w:World) (K:Ut) (mg:Uo) (base:Heap):Prop:=bh P w K mg base "_law_some_webs" dS 4 dP
theorem pP (D:Df K mg "_law_some_webs" dS fZ) (T:Txt K mg) (J29:gz P w K mg base) (J31:tu P w K mg base):jy P w K mg base:=
 bh.eq ((Df.has (k:=3) D iS (λf cdv A outer s H E hr=>
  ax (gr 2 iS.nd (wo (ae (fo 8 (d:=.tuple [.tuple [],.tuple []]) (Lit.of (by kernel_rfl)) (by decide +kernel)) (ae (fo 8 (d:=.tuple [.tuple [.str "a"],.tuple [.tuple [.str "a",.str "a"]]]) (Lit.of (by kernel_rfl)) (by decide +kernel)) (ae (fo 8 (d:=.tuple [.tuple [.str "a",.str "b"],.tuple [.tuple [.str "a",.str "b"],.tuple [.str "b",.str "a"]]]) (Lit.of (by kernel_rfl)) (by decide +kernel)) (ai))))))
  (ax (n9 (pB (dv 2) (fo 8 (d:=.tuple [.tuple [.str "a",.str "b",.str "c"],.tuple [.tuple [.str "a",.str "b"],.tuple [.str "b",.str "c"],.tuple [.str "c",.str "a"]]]) (Lit.of (by kernel_rfl)) (by decide +kernel))))
  (ax (n9 (pB (dv 2) (fo 8 (d:=.tuple [.tuple [.str "a",.str "b",.str "c",.str "d"],.tuple [.tuple [.str "a",.str "b"],.tuple [.str "b",.str "c"],.tuple [.str "c",.str "d"],.tuple [.str "d",.str "a"]]]) (Lit.of (by kernel_rfl)) (by decide +kernel))))
  (aG (ba (wm (ae (ko J31 cj hr (ae (dv 0) (ae (dv 1) (ai)))) (ae (ko J31 cj hr (ae (dv 0) (ae (dv 1) (ai)))) (ae (cF (bf hr) (dv 2) (ko J29 cj hr (ae (dv 0) (ae (aJ) (ai)))) (λ_ _=>rfl)) (ai))))))))))).gq) (by kernel_rfl)
abbrev ic:Stmt:=top 38
abbrev fI:Uu:=["_law_web_here", "_law_kind"]
theorem eS:aP ["_law_web_here", "_law_kind", "_law_more", "_law_one"] fI (aE ic):=nJ
theorem oN:(["_law_other", "_law_web_here", "_law_kind", "_law_more", "_law_one"]:Uu).Nodup:=by decide +kernel
abbrev lh (P:UA) (w:World) (K:Ut) (mg:Uo) (base:Heap):Prop:=bh P w K mg base "_law_fullest" fI 2 fw
theorem tE (D:Df K mg "_law_fullest" fI ic) (T:Txt K mg) (J35:ib P w K mg base):lh P w K mg base:=
 bh.eq (Df.has (k:=1) D eS (λf cdv A outer s H E hr=>
  ax (gr 2 eS.nd (fo 8 (d:=.list []) (Lit.of (by kernel_rfl)) (by decide +kernel)))
  (ax (jb rfl (bY (cF (bf hr) (dv 0) (aJ) (λ_ _=>rfl))) (dg 3 eS.nd) (aG (gr 2 eS.nd (cq kb (dv 2) (eQ ["_law_other"] (by rfl) rfl (bY (cF (bf hr) (dv 0) (aJ) (λ_ _=>rfl))) (λ_ _ _ _ _=>dg 0 oN) (λ_ _ _ _ _=>iC (DW.dt (D1 (cH (xT hr) (dv 4) (dv 0) (by rfl)) (A6 (dH (ko J35 cu hr (ae (dv 1) (ae (dv 2) (ae (dv 4) (ae (dv 0) (ai))))))))))) (λ_ _ _ _ _=>bI (ae (dv 4) (ae (dv 0) (ai)))))))))
  (aG (ba (bI (ae (cF (bf hr) (dv 0) (aJ) (λ_ _=>rfl)) (ae (jC (iD rfl) T.n_tuple cV (ae (sV rfl hr T.n_sorted T.n_set (cq kb (jC Bf T.n_list AL (ae (cF (bf hr) (dv 0) (aJ) (λ_ _=>rfl)) (ai))) (dv 2))) (ai))) (ai))))))))) (by kernel_rfl)
abbrev jh:Stmt:=top 39
abbrev gp:Uu:=["_law_pen_here", "_law_web_here"]
theorem lj:aP ["_law_pen_here", "_law_web_here", "_law_more"] gp (aE jh):=nJ
theorem pQ:(["_law_name", "_law_pen_here", "_law_web_here", "_law_more"]:Uu).Nodup:=by decide +kernel
abbrev mP (P:UA) (w:World) (K:Ut) (mg:Uo) (base:Heap):Prop:=bh P w K mg base "_law_selves" gp 2 eN
theorem uF (D:Df K mg "_law_selves" gp jh) (T:Txt K mg) (J29:gz P w K mg base):mP P w K mg base:=
 bh.eq (Df.has (k:=1) D lj (λf cdv A outer s H E hr=>
  ax (wq (i:=2) ["_law_name"] lj.nd rfl rfl (by rfl) rfl (bY (cF (bf hr) (dv 1) (aJ) (λ_ _=>rfl))) (λ_ _ _ _ _=>dg 0 pQ) (λ_ _ _ _ _=>iC (cH (Cs hr) (ko J29 cu hr (ae (dv 1) (ae (aJ) (ai)))) (aJ) (by rfl))) (λ_ _ _ _ _=>bI (ae (dv 0) (ae (dv 0) (ai)))))
  (aG (ba (bI (ae (cF (bf hr) (dv 1) (aJ) (λ_ _=>rfl)) (ae (jC (iD rfl) T.n_tuple cV (ae (sV rfl hr T.n_sorted T.n_set (cq kb (jC Bf T.n_list AL (ae (cF (bf hr) (dv 1) (aJ) (λ_ _=>rfl)) (ai))) (dv 2))) (ai))) (ai)))))))) (by kernel_rfl)
abbrev gH:Stmt:=top 40
abbrev eT:Uu:=["_law_names_here"]
theorem dU:aP ["_law_names_here", "_law_pairs", "_law_first"] eT (aE gH):=nJ
theorem nE:(["_law_rows", "_law_names_here", "_law_pairs", "_law_first"]:Uu).Nodup:=by decide +kernel
theorem nF:(["_law_second", "_law_names_here", "_law_pairs", "_law_first"]:Uu).Nodup:=by decide +kernel
abbrev ki (P:UA) (w:World) (K:Ut) (mg:Uo) (base:Heap):Prop:=bh P w K mg base "_law_all_webs" eT 2 cZ
theorem qM (D:Df K mg "_law_all_webs" eT gH) (T:Txt K mg) (J32:qx P w K mg base):ki P w K mg base:=
 bh.eq (Df.has (k:=1) D dU (λf cdv A outer s H E hr=>
  ax (gr 1 dU.nd (fo 8 (d:=.list []) (Lit.of (by kernel_rfl)) (by decide +kernel)))
  (ax (jb rfl (bY (dv 0)) (dg 2 dU.nd) (aG (gr 1 dU.nd (cq kb (dv 1) (eQ ["_law_second"] (by rfl) rfl (bY (dv 0)) (λ_ _ _ _ _=>dg 0 nF) (λ_ _ _ _ _=>fj) (λ_ _ _ _ _=>bI (ae (dv 3) (ae (dv 0) (ai)))))))))
  (aG (ba (eQ ["_law_rows"] (by rfl) rfl (bY (ko J32 cj hr (ae (dv 1) (ai)))) (λ_ _ _ _ _=>dg 0 nE) (λ_ _ _ _ _=>fj) (λ_ _ _ _ _=>bI (ae (dv 1) (ae (jC (iD rfl) T.n_tuple cV (ae (dv 0) (ai))) (ai)))))))))) (by kernel_rfl)
abbrev oO:Stmt:=top 41
abbrev Mj:Uu:=["_law_script"]
theorem f6:aP ["_law_script", "_law_cell_here", "_law_pen_here", "_law_plain", "_law_web_here", "_law_stood", "_law_kind", "_law_due", "_law_many", "_law_lap", "_law_least", "_law_some"] Mj (aE oO):=nJ
theorem yL:(["_law_one", "_law_script", "_law_cell_here", "_law_pen_here", "_law_plain", "_law_web_here", "_law_stood", "_law_kind", "_law_due", "_law_many", "_law_lap", "_law_least", "_law_some"]:Uu).Nodup:=by decide +kernel
theorem Kv {f:Addr} {fd:FuncData} (Fu:HW K "law" "law" oO f fd) (T:Txt K mg) (J27:qv P w K mg base) (J37:jy P w K mg base) (J34:gL P w K mg base) (J33:mN P w K mg base) (J40:ki P w K mg base) (J36:mO P w K mg base) (J25:tm P w K mg base) (J24:pN P w K mg base) (J38:lh P w K mg base) (J39:mP P w K mg base) (J28:tp P w K mg base):jl P w K mg base (tU P w) 8 f fd ["_law_script"] (FR ⟨P,w,mg,K⟩ Bo):=
 Kj (OX (k:=7) Fu f6 (λcdv A outer s H E hr=>
  ax (jb rfl (bY (cq kb (wm (ae (ko J27 cu hr (ae (dv 0) (ae (aJ) (ai)))) (ai))) (Cz (dv 0) (wA (aJ)) (wA (aJ))))) (dg 1 f6.nd) (ax (gr 2 f6.nd (ko J28 cu hr (ae (dv 1) (ai))))
  (aG (jb rfl (bY (ko J37 cu hr (ae (dv 2) (ae (aJ) (ai))))) (dg 3 f6.nd) (ax (gr 4 f6.nd (ko J39 cu hr (ae (dv 2) (ae (dv 3) (ai)))))
  (ax (gr 5 f6.nd (uj (wB hr) T.n_repr qP (ae (dv 4) (ai))))
  (ax (jb rfl (bY (J1 J34 cu (hr.mono (by omega)) (by rfl))) (dg 6 f6.nd) (ax (gr 7 f6.nd (ko J38 cu hr (ae (dv 4) (ae (dv 6) (ai)))))
  (ax (gr 8 f6.nd (aJ))
  (ax (jb rfl (A8 (by rfl) T.n_range (ae (cq Ih (uj mH T.n_len i7 (ae (cF (bf hr) (dv 7) (aJ) (λ_ _=>rfl)) (ai))) (uj mH T.n_len i7 (ae (cF (bf hr) (ko J36 cu hr (ae (dv 4) (ae (dv 6) (ai)))) (aJ) (λ_ _=>rfl)) (ai)))) (ai))) (dg 9 f6.nd) (aG (gr 8 f6.nd (cq Ba (aJ) (dv 8)))))
  (ax (hG (cH (xT hr) (uj (wB hr) T.n_repr qP (ae (wm (ae (ko J24 cu hr (ae (dv 4) (ae (dv 6) (ai)))) (ae (ko J24 cu hr (ae (dv 4) (ae (dv 6) (ai)))) (ae (ko J25 cu hr (ae (dv 4) (ae (dv 6) (ai)))) (ai))))) (ai))) (uj (wB hr) T.n_repr qP (ae (wm (ae (dv 7) (ae (dv 7) (ae (dv 8) (ai))))) (ai))) (by rfl)) (aG (ba (fh))) (cS))
  (aG (hG (cH (GN hr) (uj mH T.n_len i7 (ae (cF (bf hr) (dv 4) (aJ) (λ_ _=>rfl)) (ai))) (aJ) (by rfl)) (ax (gr 10 f6.nd (ko J36 cu hr (ae (dv 4) (ae (dv 6) (ai)))))
  (ax (wq (i:=11) ["_law_one"] f6.nd rfl rfl (by rfl) rfl (bY (ko J40 cu hr (ae (cF (bf hr) (dv 4) (aJ) (λ_ _=>rfl)) (ai)))) (λ_ _ _ _ _=>dg 0 yL) (λ_ _ _ _ _=>iC (cH (Cs hr) (ko J36 cu hr (ae (dv 0) (ae (dv 7) (ai)))) (dv 11) (by rfl))) (λ_ _ _ _ _=>dv 0))
  (aG (hG (DW.dt (pX (cH (xT hr) (uj mH T.n_len i7 (ae (dv 11) (ai))) (dv 8) (by rfl)) (kK (cH (xT hr) (eQ ["_law_one"] (by rfl) rfl (bY (dv 11)) (λ_ _ _ _ _=>dg 0 yL) (λ_ _ _ _ _=>iC (ja (dH (ko J33 cu hr (ae (cF (bf hr) (dv 0) (aJ) (λ_ _=>rfl)) (ae (cF (bf hr) (dv 8) (aJ) (λ_ _=>rfl)) (ai))))))) (λ_ _ _ _ _=>dv 0)) (fo 8 (d:=.list []) (Lit.of (by kernel_rfl)) (by decide +kernel)) (by rfl))))) (aG (ba (fh))) (cS))))) (cS))))))))
  (aG (hG (cH (xT hr) (uj (wB hr) T.n_repr qP (ae (dv 4) (ai))) (dv 5) (by rfl)) (aG (ba (fh))) (cS))))))))))
  (aG (ba (fh))))) (by kernel_rfl)
end
end K14
namespace Ml
open PySem
@[simp] theorem Oa (i:Nat) (ρ:Fm) (h:Hm):ab i ρ h=(match ρ[i]? with
 | some (some d)=>.ok d h
 | _=>.bad):=rfl
@[simp] theorem Ob (d:PyData) (z0:Fm) (h:Hm):aj d z0 h=(.ok (.dat d) h):=rfl
@[simp] theorem O1 (n:Str) (z0:Fm) (h:Hm):Pt n z0 h=(.ok (.fn n) h):=rfl
@[simp] theorem Oc  (z0:Fm) (h:Hm):ah  z0 h=(.ok [] h):=rfl
@[simp] theorem ML (e:ME) (a:MA) (ρ:Fm) (h:Hm):aa e a ρ h=((e ρ h).bind λx h1=>(a ρ h1).bind λxs h2=>.ok (x::xs) h2):=rfl
@[simp] theorem Od (f:D->D->Hm->R D) (a b:ME) (ρ:Fm) (h:Hm):aq f a b ρ h=((a ρ h).bind λx h1=>(b ρ h1).bind λy h2=>f x y h2):=rfl
@[simp] theorem O6 (f:D->Hm->R D) (a:ME) (ρ:Fm) (h:Hm):Ia f a ρ h=((a ρ h).bind λx h1=>f x h1):=rfl
@[simp] theorem MM (f:Fn) (a:MA) (ρ:Fm) (h:Hm):af f a ρ h=((a ρ h).bind λxs h1=>f xs h1):=rfl
@[simp] theorem MN (e:ME) (ρ:Fm) (h:Hm):aN e ρ h=((e ρ h).bind λx h1=>match x with
 | .dat (.bool b)=>.ok b h1
 | _=>.bad):=rfl
@[simp] theorem Oe (t:MT) (ρ:Fm) (h:Hm):iW t ρ h=((t ρ h).bind λb h1=>.ok (!b) h1):=rfl
@[simp] theorem Of (t u:MT) (ρ:Fm) (h:Hm):rf t u ρ h=((t ρ h).bind λb h1=>if b then u ρ h1 else .ok false h1):=rfl
@[simp] theorem O7 (t u:MT) (ρ:Fm) (h:Hm):tW t u ρ h=((t ρ h).bind λb h1=>if b then .ok true h1 else u ρ h1):=rfl
@[simp] theorem Og (a b:ME) (ρ:Fm) (h:Hm):NW a b ρ h=((aN a ρ h).bind λc h1=>if c then b ρ h1 else .ok (.bool false) h1):=rfl
@[simp] theorem O8 (a b:ME) (ρ:Fm) (h:Hm):Pu a b ρ h=((aN a ρ h).bind λc h1=>if c then .ok (.bool true) h1 else b ρ h1):=rfl
@[simp] theorem Oh (a:ME) (ρ:Fm) (h:Hm):NX a ρ h=((aN a ρ h).bind λc h1=>.ok (.bool !c) h1):=rfl
@[simp] theorem O9 (t:MT) (a b:ME) (ρ:Fm) (h:Hm):Py t a b ρ h=((t ρ h).bind λc h1=>if c then a ρ h1 else b ρ h1):=rfl
@[simp] theorem Oi (a:MA):bV a=(af kD a:ME):=rfl
@[simp] theorem Oj (a:MA):qJ a=(af fO a:ME):=rfl
@[simp] theorem Ol (a:MA):v9 a=(af DL a:ME):=rfl
@[simp] theorem MP  (ρ:Fm) (h:Hm):cW  ρ h=(.ok (.nx ρ) h):=rfl
@[simp] theorem Om (a b:MS) (ρ:Fm) (h:Hm):bg a b ρ h=((a ρ h).bind λf h1=>match f with
 | .nx ρ1=>b ρ1 h1
 | f=>.ok f h1):=rfl
@[simp] theorem Oo (i:Nat) (e:ME) (ρ:Fm) (h:Hm):bF i e ρ h=((e ρ h).bind λx h1=>.ok (.nx (ρ.set i (some x))) h1):=rfl
@[simp] theorem MQ (e:ME) (ρ:Fm) (h:Hm):mC e ρ h=((e ρ h).bind λ_ h1=>.ok (.nx ρ) h1):=rfl
@[simp] theorem Oq (e:ME) (ρ:Fm) (h:Hm):cz e ρ h=((e ρ h).bind λx h1=>.ok (.rt x) h1):=rfl
@[simp] theorem Pa (t:MT) (a b:MS) (ρ:Fm) (h:Hm):mZ t a b ρ h=((t ρ h).bind λc h1=>if c then a ρ h1 else b ρ h1):=rfl
@[simp] theorem Mk  (ρ:Fm) (h:Hm):JN  ρ h=(.ok (.bk ρ) h):=rfl
@[simp] theorem MR  (ρ:Fm) (h:Hm):LW  ρ h=(.ok (.ct ρ) h):=rfl
@[simp] theorem MU (i:Nat) (x:D) (ρ:Fm) (h:Hm):av i x ρ h=(.ok (ρ.set i (some x)) h):=rfl
@[simp] theorem Ot  (xs:List D) (ρ:Fm) (h:Hm):jE  xs ρ h=(match xs with
 | []=>.ok ρ h
 | _=>.bad):=rfl
@[simp] theorem MV (g:MG) (gs:AQ) (xs:List D) (ρ:Fm) (h:Hm):cx g gs xs ρ h=(match xs with
 | []=>.bad
 | x::xs=>(g x ρ h).bind λρ1 h1=>gs xs ρ1 h1):=rfl
@[simp] theorem Ou (gs:AQ) (x:D) (ρ:Fm) (h:Hm):jF gs x ρ h=(match x with
 | .dat (.tuple ds)=>gs (ds.map D.dat) ρ h
 | _=>.bad):=rfl
@[simp] theorem Ov (g:MG) (e:ME) (ρ:Fm) (h:Hm):nQ g e ρ h=((e ρ h).bind λx h1=>(g x ρ h1).bind λρ1 h2=>.ok (.nx ρ1) h2):=rfl
@[simp] theorem Ow (is:List Nat) (a:MA) (ρ:Fm) (h:Hm):DM is a ρ h=((a ρ h).bind λxs h1=>match kE is xs ρ with
 | some ρ1=>.ok (.nx ρ1) h1
 | Option.none=>.bad):=rfl
@[simp] theorem MW (e:ME) (ρ:Fm) (h:Hm):AS e ρ h=((e ρ h).bind λx h1=>match x with
 | .dat (.tuple ds)=>.ok (ds.map D.dat) h1
 | _=>.bad):=rfl
@[simp] theorem MX (e:ME) (ρ:Fm) (h:Hm):DN e ρ h=((e ρ h).bind λx h1=>match x with
 | .dat (.list ds)=>.ok (ds.map D.dat) h1
 | _=>.bad):=rfl
@[simp] theorem MY (e:ME) (ρ:Fm) (h:Hm):DP e ρ h=((e ρ h).bind λx h1=>match x with
 | .dat (.str s)=>.ok (signs s) h1
 | _=>.bad):=rfl
@[simp] theorem MZ (e:ME) (ρ:Fm) (h:Hm):aL e ρ h=(match e ρ h with
 | .ok (.dat (.tuple ds)) h1=>.ok (ds.map D.dat) h1
 | .ok (.dat (.list ds)) h1=>.ok (ds.map D.dat) h1
 | .ok (.dat (.str s)) h1=>.ok (signs s) h1
 | .ok (.ktup ds) h1=>.ok (ds.map D.dat) h1
 | .exc x h1=>.exc x h1
 | _=>.bad):=rfl
@[simp] theorem M0 (a:MA) (ρ:Fm) (h:Hm):kF a ρ h=((a ρ h).bind λxs h1=>match xs with
 | [.dat (.int j)]=>if -(2 ^ 62)<=j/\j < 2 ^ 62 then .ok (nums 0 j.toNat) h1 else .bad
 | _=>.bad):=rfl
@[simp] theorem Mm (a:MA) (ρ:Fm) (h:Hm):JO a ρ h=((a ρ h).bind λxs h1=>match xs with
 | [.dat (.int i),.dat (.int j)]=>if -(2 ^ 62)<=i/\i < 2 ^ 62/\-(2 ^ 62)<=j/\j < 2 ^ 62 then .ok (nums i (j - i).toNat) h1 else .bad
 | _=>.bad):=rfl
@[simp] theorem M1 (a:MA) (ρ:Fm) (h:Hm):AU a ρ h=((a ρ h).bind λxs h1=>match xs with
 | [.dat (.tuple ds),.dat (.tuple es)]=>.ok (mj ds es) h1
 | _=>.bad):=rfl
@[simp] theorem Ox (it:MA) (g:MG) (b:MS) (ρ:Fm) (h:Hm):kl it g b ρ h=((it ρ h).uh.bind λxs h1=>bP g b xs ρ h1):=rfl
@[simp] theorem M3  (z0:Fm) (h:Hm):cJ  z0 h=(.ok true h):=rfl
@[simp] theorem M4 (p n:Nat) (b:MS) (xs:List D) (h:Hm):bA p n b xs h=(if xs.length=p then (b (xs.map some++List.replicate (n - p) none) h).bind rJ else .bad):=rfl
@[simp] theorem M5 (x:D) (h:Hm):truth x h=(match x with
 | .dat .none=>some false
 | .dat (.bool b)=>some b
 | .dat (.int i)=>some (i != 0)
 | .dat (.str s)=>if kj s.length then some ((s.length:Int) != 0) else Option.none
 | .dat (.tuple ds)=>some !ds.isEmpty
 | .dat (.list ds)=>some !ds.isEmpty
 | .ref i=>match h[i]? with
  | some (.lst xs)=>some !xs.isEmpty
  | _=>Option.none
 | _=>Option.none:Option Bool):=rfl
@[simp] theorem Mn (e:ME) (ρ:Fm) (h:Hm):cn e ρ h=((e ρ h).bind λx h1=>match truth x h1 with
 | some b=>.ok b h1
 | Option.none=>.bad):=rfl
@[simp] theorem Oy (a b:ME) (ρ:Fm) (h:Hm):Cw a b ρ h=((a ρ h).bind λx h1=>match truth x h1 with
 | some c=>if c then .ok x h1 else b ρ h1
 | none=>.bad):=rfl
@[simp] theorem M6 (a b:ME) (ρ:Fm) (h:Hm):ke a b ρ h=((a ρ h).bind λx h1=>match truth x h1 with
 | some c=>if c then b ρ h1 else .ok x h1
 | none=>.bad):=rfl
@[simp] theorem Mo (f g:D->D->Hm->R D) (a b c:ME) (ρ:Fm) (h:Hm):nk f g a b c ρ h=((a ρ h).bind λx h1=>(b ρ h1).bind λy h2=>(f x y h2).bind λz h3=>match z with
 | .dat (.bool k)=>if k then (c ρ h3).bind λw h4=>g y w h4 else .ok (.bool false) h3
 | _=>.bad):=rfl
@[simp] theorem Pb (e:ME) (lo hi:FQ) (ρ:Fm) (h:Hm):MJ e lo hi ρ h=((e ρ h).bind λx h1=>(lo ρ h1).bind λl h2=>(hi ρ h2).bind λu h3=>LY x l u h3):=rfl
@[simp] theorem M7  (z0:Fm) (h:Hm):AV  z0 h=(.ok Option.none h):=rfl
@[simp] theorem M8 (e:ME) (ρ:Fm) (h:Hm):mE e ρ h=((e ρ h).bind λx h1=>match x with
 | .dat (.int i)=>.ok (some i) h1
 | _=>.bad):=rfl
@[simp] theorem Pd (x:D) (lo hi:Option Int) (h:Hm):LY x lo hi h=(match x with
 | .dat (.tuple ds)=>.ok (.dat (.tuple (cut ds lo hi))) h
 | .dat (.list ds)=>.ok (.dat (.list (cut ds lo hi))) h
 | _=>.bad:R D):=rfl
@[simp] theorem Oz (f:PyData->Bool) (x:D) (h:Hm):xK f x h=(match x with
 | .dat d=>.ok (.bool (f d)) h
 | _=>.bad):=rfl
@[simp] theorem OA (x y:D) (h:Hm):wa x y h=(match x,y with
 | .dat (.int i),.dat (.int j)=>.ok (.int (i - j)) h
 | _,_=>.bad:R D):=rfl
@[simp] theorem Pe (x y:D) (h:Hm):MI x y h=(match x,y with
 | .dat (.int i),.dat (.int j)=>.ok (.bool (decide (j < i))) h
 | _,_=>.bad:R D):=rfl
@[simp] theorem Pf (x y:D) (h:Hm):LX x y h=(match x,y with
 | .dat (.int i),.dat (.int j)=>.ok (.bool (decide (j<=i))) h
 | _,_=>.bad:R D):=rfl
@[simp] theorem OB (x:D) (h:Hm):NY x h=(match x with
 | .dat (.int i)=>.ok (.int (-i)) h
 | _=>.bad:R D):=rfl
@[simp] theorem Lh (ρ:Fm):kE [] [] ρ=some ρ:=rfl
@[simp] theorem Li (i:Nat) (is:List Nat) (x:D) (xs:List D) (ρ:Fm):kE (i::is) (x::xs) ρ=kE is xs (ρ.set i (some x)):=rfl
@[simp] theorem Lj (i:Nat) (is:List Nat) (ρ:Fm):kE (i::is) [] ρ=none:=rfl
@[simp] theorem Lk (x:D) (xs:List D) (ρ:Fm):kE [] (x::xs) ρ=none:=rfl
@[simp] theorem M9 (d:D) (h:Hm):rJ (.rt d) h=.ok d h:=rfl
@[simp] theorem Na (ρ:Fm) (h:Hm):rJ (.nx ρ) h=.ok D.none h:=rfl
@[simp] theorem Nb (ρ:Fm) (h:Hm):rJ (.bk ρ) h=.bad:=rfl
@[simp] theorem Nc (ρ:Fm) (h:Hm):rJ (.ct ρ) h=.bad:=rfl
@[simp] theorem He  : isTup .none=false:=rfl
@[simp] theorem Hf (b:Bool):isTup (.bool b)=false:=rfl
@[simp] theorem Il (i:Int):isTup (.int i)=false:=rfl
@[simp] theorem Im (s:Str):isTup (.str s)=false:=rfl
@[simp] theorem FT (xs:Uq):isTup (.tuple xs)=true:=rfl
@[simp] theorem Hg (xs:Uq):isTup (.list xs)=false:=rfl
@[simp] theorem Hh (xs:Ul):isTup (.dict xs)=false:=rfl
@[simp] theorem Hi  : isStr .none=false:=rfl
@[simp] theorem Hj (b:Bool):isStr (.bool b)=false:=rfl
@[simp] theorem Io (i:Int):isStr (.int i)=false:=rfl
@[simp] theorem Ip (s:Str):isStr (.str s)=true:=rfl
@[simp] theorem FU (xs:Uq):isStr (.tuple xs)=false:=rfl
@[simp] theorem Hk (xs:Uq):isStr (.list xs)=false:=rfl
@[simp] theorem Hl (xs:Ul):isStr (.dict xs)=false:=rfl
@[simp] theorem Hn  : isInt .none=false:=rfl
@[simp] theorem Ho (b:Bool):isInt (.bool b)=true:=rfl
@[simp] theorem Iq (i:Int):isInt (.int i)=true:=rfl
@[simp] theorem Ir (s:Str):isInt (.str s)=false:=rfl
@[simp] theorem FV (xs:Uq):isInt (.tuple xs)=false:=rfl
@[simp] theorem Hq (xs:Uq):isInt (.list xs)=false:=rfl
@[simp] theorem Hr (xs:Ul):isInt (.dict xs)=false:=rfl
@[simp] theorem Hs  : rL .none=false:=rfl
@[simp] theorem Ht (b:Bool):rL (.bool b)=true:=rfl
@[simp] theorem Iu (i:Int):rL (.int i)=false:=rfl
@[simp] theorem Iv (s:Str):rL (.str s)=false:=rfl
@[simp] theorem FW (xs:Uq):rL (.tuple xs)=false:=rfl
@[simp] theorem Hu (xs:Uq):rL (.list xs)=false:=rfl
@[simp] theorem Hv (xs:Ul):rL (.dict xs)=false:=rfl
@[simp] theorem rep0 {α:Type} (a:α):List.replicate 0 a=[]:=rfl
@[simp] theorem rep1 {α:Type} (a:α):List.replicate 1 a=[a]:=rfl
@[simp] theorem rep2 {α:Type} (a:α):List.replicate 2 a=[a,a]:=rfl
@[simp] theorem rep3 {α:Type} (a:α):List.replicate 3 a=[a,a,a]:=rfl
@[simp] theorem PF {α:Type} (a:α):List.replicate 4 a=[a,a,a,a]:=rfl
@[simp] theorem PH {α:Type} (a:α):List.replicate 5 a=[a,a,a,a,a]:=rfl
@[simp] theorem PJ {α:Type} (a:α):List.replicate 6 a=[a,a,a,a,a,a]:=rfl
@[simp] theorem PK {α:Type} (a:α):List.replicate 7 a=[a,a,a,a,a,a,a]:=rfl
@[simp] theorem PL {α:Type} (a:α):List.replicate 8 a=[a,a,a,a,a,a,a,a]:=rfl
@[simp] theorem PM {α:Type} (a:α):List.replicate 9 a=[a,a,a,a,a,a,a,a,a]:=rfl
theorem sz {n:Nat} (h:n<=16777216):kj n=true:=Qj h
@[simp] theorem lV (ds:Uq) (h:Hm) (hz:ds.length<=16777216):kD (ds.map D.dat) h=.ok (.dat (.tuple ds)) h:=by simp [kD,lF,sz hz]
theorem dW (ds:Uq) (h:Hm) (hz:ds.length<=16777216):fO (ds.map D.dat) h=.ok (.dat (.list ds)) h:=by simp [fO,lF,sz hz]
@[simp] theorem OC (h:Hm):kD [] h=.ok (.dat (.tuple [])) h:=lV [] h (by decide)
@[simp] theorem Kw (a:PyData) (h:Hm):kD [.dat a] h=.ok (.dat (.tuple [a])) h:=lV [a] h (by simp)
@[simp] theorem Kx (a b:PyData) (h:Hm):kD [.dat a,.dat b] h=.ok (.dat (.tuple [a,b])) h:=lV [a,b] h (by simp)
@[simp] theorem Ky (a b c:PyData) (h:Hm):kD [.dat a,.dat b,.dat c] h=.ok (.dat (.tuple [a,b,c])) h:=lV [a,b,c] h (by simp)
@[simp] theorem OD (h:Hm):fO [] h=.ok (.dat (.list [])) h:=dW [] h (by decide)
@[simp] theorem Kz (a:PyData) (h:Hm):fO [.dat a] h=.ok (.dat (.list [a])) h:=dW [a] h (by simp)
@[simp] theorem OE (a b:PyData) (h:Hm):fO [.dat a,.dat b] h=.ok (.dat (.list [a,b])) h:=dW [a,b] h (by simp)
@[simp] theorem Ac (a b c:PyData) (h:Hm):fO [.dat a,.dat b,.dat c] h=.ok (.dat (.list [a,b,c])) h:=dW [a,b,c] h (by simp)
theorem qy {n:Nat} {ρ:Fm} {g:MG} {t:MT} {e:ME} {h:Hm} (c:D->Bool) (f:D->D):∀ {xs:List D},(∀ x∈xs,∃ ρ1,g x (List.replicate n none++ρ) h=.ok ρ1 h/\t ρ1 h=.ok (c x) h/\(c x=true->e ρ1 h=.ok (f x) h))->dZ n ρ g t e xs h=.ok ((xs.filter c).map f) h
 | [],_=>rfl
 | x::xs,H=>by
  obtain ⟨ρ1,h1,h2,h3⟩:=H x (Qe ..);have ih:=qy c f (xs:=xs) λy hy=>H y (P5 _ hy);unfold dZ;rw [h1];simp only [R.aZ,R.ak];rw [h2];simp only [R.aZ,R.ak]
  cases hc:c x with
  | false=>simp only [P8,QK,Rj,hc];exact ih
  | true=>simp only [QB,Rj,hc];rw [h3 hc];simp only [R.aZ,R.ak];rw [ih];rfl
theorem tF {n:Nat} {it:MA} {g:MG} {t:MT} {e:ME} {ρ:Fm} {h h1:Hm} {xs:List D} (hit:it ρ h=.ok xs h1) (hz:xs.length<=16777216) (c:D->Bool) (f:D->PyData)
  (H:∀ x∈xs,∃ ρ1,g x (List.replicate n none++ρ) h1=.ok ρ1 h1/\t ρ1 h1=.ok (c x) h1/\(c x=true->e ρ1 h1=.ok (.dat (f x)) h1)):cf n it g t e ρ h=.ok (.dat (.list ((xs.filter c).map f))) h1:=by
 unfold cf af mD;rw [hit];simp only [R.ak,sz hz,QB];rw [qy c (λx=>.dat (f x)) H];simp only [R.ak];have e1:(List.map (λx=>D.dat (f x)) (List.filter c xs))=((xs.filter c).map f).map D.dat:=by simp
 rw [e1]
 exact dW _ _ (by
  rw [Qa]
  exact P6 (RB _ _) hz)
theorem f7 {n:Nat} {it:MA} {g:MG} {e:ME} {ρ:Fm} {h h1:Hm} {ds:Uq} (hit:it ρ h=.ok (ds.map D.dat) h1) (hz:ds.length<=16777216) (f:PyData->PyData)
  (H:∀ x∈ds,∃ ρ1,g (.dat x) (List.replicate n none++ρ) h1=.ok ρ1 h1/\e ρ1 h1=.ok (.dat (f x)) h1):cf n it g cJ e ρ h=.ok (.dat (.list (ds.map f))) h1:=by
 have:=tF (n:=n) (t:=cJ) (g:=g) (e:=e) hit (by simpa using hz) (λ_=>true) (λx=>match x with | .dat d=>f d | _=>.none) (λx hx=>by
  obtain ⟨d,hd,rfl⟩:=Qp.mp hx;obtain ⟨ρ1,a,b⟩:=H d hd
  exact ⟨ρ1,a,rfl,λ_=>b⟩)
 rw [this,show (λ_:D=>true)=λ_=>true from rfl,List.filter_eq_self.mpr (λ_ _=>rfl),TZ];rfl
theorem jz {n:Nat} {it:MA} {g:MG} {t:MT} {e:ME} {ρ:Fm} {h h1:Hm} {ds:Uq} (hit:it ρ h=.ok (ds.map D.dat) h1) (hz:ds.length<=16777216) (c:PyData->Bool) (f:PyData->PyData)
  (H:∀ x∈ds,∃ ρ1,g (.dat x) (List.replicate n none++ρ) h1=.ok ρ1 h1/\t ρ1 h1=.ok (c x) h1/\(c x=true->e ρ1 h1=.ok (.dat (f x)) h1)):cf n it g t e ρ h=.ok (.dat (.list ((ds.filter c).map f))) h1:=by
 have:=tF (n:=n) (t:=t) (g:=g) (e:=e) hit (by simpa using hz) (λx=>match x with | .dat d=>c d | _=>false) (λx=>match x with | .dat d=>f d | _=>.none) (λx hx=>by
  obtain ⟨d,hd,rfl⟩:=Qp.mp hx;obtain ⟨ρ1,a,b,k⟩:=H d hd
  exact ⟨ρ1,a,b,k⟩)
 rw [this];simp [TY,Ud]
theorem Ad (bs:List Bool) (h:Hm):we [.dat (.list (bs.map .bool))] h=.ok (.bool (bs.all id)) h:=by simp [we,Cm]
theorem j4 {n:Nat} {ρ:Fm} {g:MG} {t:MT} {e:ME} (I:Hm->Prop) (f:D->D->Prop):∀ {xs:List D} {h:Hm},(∀ x∈xs,∀ h,I h->∃ ρ1 h1 c h2,g x (List.replicate n none++ρ) h=.ok ρ1 h1/\t ρ1 h1=.ok c h2/\((c=false/\I h2)\/(c=true/\∃ y h3,e ρ1 h2=.ok y h3/\f x y/\I h3)))->I h ->
  ∃ ys zs h',dZ n ρ g t e xs h=.ok ys h'/\I h'/\zs.Sublist xs/\PySem.Paired f zs ys
 | [],h,_,a=>⟨[],[],h,rfl,a,.slnil,.nil⟩
 | x::xs,h,H,a=>by
  obtain ⟨ρ1,h1,c,h2,e1,e2,k⟩:=H x (Qe ..) h a;unfold dZ;rw [e1];simp only [R.aZ,R.ak];rw [e2];simp only [R.aZ,R.ak];rcases k with ⟨rfl,a2⟩ | ⟨rfl,y,h3,e3,fy,a3⟩
  ·obtain ⟨ys,zs,h',q1,q2,q3,q4⟩:=j4 I f (xs:=xs) (λy hy=>H y (P5 _ hy)) a2;exact ⟨ys,zs,h',by simpa using q1,q2,.cons _ q3,q4⟩
  ·obtain ⟨ys,zs,h',q1,q2,q3,q4⟩:=j4 I f (xs:=xs) (λy hy=>H y (P5 _ hy)) a3;refine ⟨y::ys,x::zs,h',?_,q2,.cons_cons _ q3,.cons fy q4⟩;simp only [QB];rw [e3];simp only [R.aZ,R.ak];rw [q1];rfl
mutual
def jA:PyData->Bool
 | .none | .bool _=>true
 | .int i=>decide (i.natAbs < 10 ^ 30)
 | .str x=>PyData.strOk x
 | .tuple ds=>fR ds
 | .list ds=>fR ds
 | .dict _=>false
def fR:Uq->Bool
 | []=>true
 | d::ds=>jA d && fR ds
end
theorem CI {i:Int} (h:jA (.int i)=true):PyData.showable (.int i)=true/\PyData.intsShort 31 (.int i)=true:=by
 simp only [jA,Qb] at h;refine ⟨?_,?_⟩
 ·simp only [PyData.showable,Qb];by_cases z:i.natAbs=0
  ·rw [z];decide
  ·rw [Nat.log2_lt z];exact P0 h (P6 (by decide:10 ^ 30<=2 ^ 100) (RZ (by decide) (by decide)))
 ·simp only [PyData.intsShort,Qb];have e:=PySem.int_text_length_le10 (k:=30) (by decide) h;show (Str.ofString (toString i)).length<=31;rw [ofString_length];exact e
mutual
theorem lW:∀ {d:PyData},jA d=true->d.showable=true/\d.intsShort 31=true
 | .none,_=>by simp [PyData.showable,PyData.intsShort]
 | .bool _,_=>by simp [PyData.showable,PyData.intsShort]
 | .int _,h=>CI h
 | .str x,h=>by simp [PyData.showable,PyData.intsShort]
 | .tuple ds,h=>by simp only [jA] at h;simp only [PyData.showable,PyData.intsShort];exact j5 h
 | .list ds,h=>by simp only [jA] at h;simp only [PyData.showable,PyData.intsShort];exact j5 h
 | .dict _,h=>by simp [jA] at h
theorem j5:∀ {ds:Uq},fR ds=true->PyData.showableAll ds=true/\PyData.intsShortAll 31 ds=true
 | [],_=>by simp [PyData.showableAll,PyData.intsShortAll]
 | d::ds,h=>by simp only [fR,PV] at h;simp only [PyData.showableAll,PyData.intsShortAll,PV];exact ⟨⟨(lW h.1).1,(j5 h.2).1⟩,(lW h.1).2,(j5 h.2).2⟩
end
mutual
theorem tG:∀ {d:PyData},jA d=true->d.canLay0=true
 | .none,_=>by simp [PyData.canLay0]
 | .bool _,_=>by simp [PyData.canLay0]
 | .int _,h=>by simp [PyData.canLay0]
 | .str x,h=>by simpa [PyData.canLay0,jA] using h
 | .tuple ds,h=>by simp only [jA] at h;simp only [PyData.canLay0];exact pR h
 | .list ds,h=>by simp only [jA] at h;simp only [PyData.canLay0];exact pR h
 | .dict _,h=>by simp [jA] at h
theorem pR:∀ {ds:Uq},fR ds=true->PyData.canLayAll0 ds=true
 | [],_=>by simp [PyData.canLayAll0]
 | d::ds,h=>by simp only [fR,PV] at h;simp only [PyData.canLayAll0,PV];exact ⟨tG h.1,pR h.2⟩
end
theorem oP:∀ (a b:Uq),fR (a++b)=(fR a && fR b)
 | [],b=>by simp [fR]
 | d::a,b=>by simp [fR,oP a b,Bool.and_assoc]
theorem qz:∀ (a b:Uq),PyData.weightAll (a++b)=PyData.weightAll a+PyData.weightAll b
 | [],b=>by simp [PyData.weightAll]
 | d::a,b=>by simp [PyData.weightAll,qz a b];omega
theorem qA:∀ (a b:Uq),PyData.depthAll (a++b)=max (PyData.depthAll a) (PyData.depthAll b)
 | [],b=>by simp [PyData.depthAll]
 | d::a,b=>by simp only [Sf,PyData.depthAll,qA a b];omega
theorem yM:∀ (a:Uq),a.length<=PyData.weightAll a
 | []=>by simp
 | d::a=>by have:=yM a;rw [PyData.weightAll,Qf];omega
theorem vB:∀ {ds:Uq} {d:PyData},fR ds=true->d∈ds->jA d=true
 | e::ds,d,h,m=>by
  simp only [fR,PV] at h;rcases PZ.mp m with rfl | m
  ·exact h.1
  ·exact vB h.2 m
theorem yN:∀ {ds:Uq},(∀ d∈ds,jA d=true)->fR ds=true
 | [],_=>rfl
 | d::ds,h=>by simp only [fR,PV];exact ⟨h d (Qe ..),yN λe m=>h e (P5 _ m)⟩
theorem vC:∀ {ds:Uq} {d:PyData},d∈ds->d.depth<=PyData.depthAll ds
 | e::ds,d,m=>by
  simp only [PyData.depthAll];rcases PZ.mp m with rfl | m
  ·omega
  ·have:=vC m;omega
theorem eZ:∀ {ds:Uq} {m:Nat},(∀ d∈ds,d.depth<=m)->PyData.depthAll ds<=m
 | [],m,_=>by simp [PyData.depthAll]
 | d::ds,m,h=>by simp only [PyData.depthAll];have h1:=h d (Qe ..);have h2:=eZ (ds:=ds) (m:=m) λe q=>h e (P5 _ q);omega
theorem tH:∀ {ds:Uq} {d:PyData},d∈ds->d.weight+1<=PyData.weightAll ds
 | e::ds,d,m=>by
  simp only [PyData.weightAll];rcases PZ.mp m with rfl | m
  ·omega
  ·have:=tH m;omega
theorem oQ:∀ {ds:Uq} {n:Nat},(∀ d∈ds,d.weight<=n)->PyData.weightAll ds<=ds.length * (n+1)
 | [],n,_=>by simp [PyData.weightAll]
 | d::ds,n,h=>by simp only [PyData.weightAll,Qf,Nat.succ_mul];have h1:=h d (Qe ..);have h2:=oQ (ds:=ds) (n:=n) λe q=>h e (P5 _ q);omega
structure Ok (n m:Nat) (x:PyData):Prop where
 f:jA x=true
 d:x.depth<=m
 w:x.weight<=n
structure ku (n m:Nat) (ds:Uq):Prop where
 f:fR ds=true
 d:PyData.depthAll ds<=m
 w:PyData.weightAll ds<=n
section
variable {n m n' m':Nat} {d x:PyData} {ds a b:Uq}
theorem ku.tup (o:ku n m ds):Ok n (m+1) (.tuple ds):=⟨by simpa only [jA] using o.f,by simp only [PyData.depth];have:=o.d;omega,by simp only [PyData.weight];exact o.w⟩
theorem ku.lst (o:ku n m ds):Ok n (m+1) (.list ds):=⟨by simpa only [jA] using o.f,by simp only [PyData.depth];have:=o.d;omega,by simp only [PyData.weight];exact o.w⟩
theorem Ok.items (o:Ok n m (.tuple ds)):ku n (m - 1) ds:=⟨by simpa only [jA] using o.f,by have:=o.d;simp only [PyData.depth] at this;omega,by have:=o.w;simpa only [PyData.weight] using this⟩
theorem ku.append {n1 n2:Nat} (x:ku n1 m a) (y:ku n2 m b):ku (n1+n2) m (a++b):=
 ⟨by rw [oP,x.f,y.f];rfl,by rw [qA];exact Nat.max_le.mpr ⟨x.d,y.d⟩,by rw [qz];exact Nat.add_le_add x.w y.w⟩
theorem ku.one (x:Ok n m d):ku (n+1) m [d]:=⟨by simp [fR,x.f],by simp [PyData.depthAll];exact x.d,by simp [PyData.weightAll];exact x.w⟩
theorem ku.cons (x:Ok n m d) (y:ku n' m ds):ku (n+1+n') m (d::ds):=(ku.one x).append y
theorem ku.mono (x:ku n m a) (h1:n<=n') (h2:m<=m'):ku n' m' a:=⟨x.f,P6 x.d h2,P6 x.w h1⟩
theorem Ok.mono (x:Ok n m d) (h1:n<=n') (h2:m<=m'):Ok n' m' d:=⟨x.f,P6 x.d h2,P6 x.w h1⟩
theorem ku.mem (o:ku n m ds) (h:d∈ds):Ok n m d:=⟨vB o.f h,P6 (vC h) o.d,by have:=tH h;have:=o.w;omega⟩
theorem ku.len (o:ku n m ds):ds.length<=n:=P6 (yM ds) o.w
theorem ku.of (h:∀ d∈ds,Ok n m d):ku (ds.length * (n+1)) m ds:=⟨yN λd q=>(h d q).f,eZ λd q=>(h d q).d,oQ λd q=>(h d q).w⟩
theorem Ok.OF (o:Ok n m d):noDict d=true:=by have:=PyData.hasDict_of_canLay d (tG o.f);simp [noDict,this]
theorem Ok.shown (o:Ok n m d) (h:n<=10000):d.shown.length<=16777216:=by have h1:=PyData.shown_le 31 (by decide) d (PyData.leavesShort_of_canLay0 31 d (tG o.f) (lW o.f).2);have h2:=o.w;exact P6 (by omega:_<=400000) (by decide)
theorem Ok.rep (o:Ok n m d) (h:n<=10000) (h2:m<=40):xM d=true:=by have:=o.d;simp only [xM,PV,Qb];exact ⟨⟨⟨(lW o.f).1,o.OF⟩,by omega⟩,sz (o.shown h)⟩
theorem Ok.str {s:Str} (o:Ok n m (.str s)):s.length<=n:=o.w
end
theorem yO {n m:Nat} {d:PyData} (o:Ok n m d) (h:Hm) (hn:n<=10000) (hm:m<=40):gI [.dat d] h=.ok (.rpr d.shown) h:=by simp [gI,pV,o.rep hn hm]
theorem E4 (ds:Uq) (z:Nat):cut ds (some (z:Int)) none=ds.drop z:=by
 simp only [cut,eF];rw [if_neg (by omega),Q8];by_cases h:z<=ds.length
 ·rw [Nat.min_eq_left h,List.take_of_length_le (by rw [Tt];exact PY _)]
 ·rw [Nat.min_eq_right (by omega),Q1 (PY _),Q1 (by omega)];simp
theorem E5 (ds:Uq):cut ds (some 1) none=ds.drop 1:=E4 ds 1
def az (c:Nat):Bool:=decide (97<=c) && decide (c<=122)
def isName:PyData->Bool
 | .str x=>decide (1<=x.length) && decide (x.length<=6) && x.cps.toList.all az
 | _=>false
theorem Pg (a c:Nat):decide ([a] < [c])=decide (a < c):=by
 rw [decide_eq_decide];constructor
 ·intro h
  cases h with
  | rel h=>exact h
  | cons h=>cases h
 ·intro h;exact .rel h
theorem OG:("a" : Str).cps.toList=[97]:=by decide +kernel
theorem OH:("z" : Str).cps.toList=[122]:=by decide +kernel
theorem PN (c:Nat):(!mY (⟨#[c]⟩:Str) ("a" : Str))=decide (97<=c):=by
 unfold mY;rw [OG,show (⟨#[c]⟩:Str).cps.toList=[c] from rfl,Pg];by_cases h:c < 97
 ·rw [Qj h,Ql (by omega)];rfl
 ·rw [Ql h,Qj (by omega)];rfl
theorem ltZ (c:Nat):(!mY ("z" : Str) (⟨#[c]⟩:Str))=decide (c<=122):=by
 unfold mY;rw [OH,show (⟨#[c]⟩:Str).cps.toList=[c] from rfl,Pg];by_cases h:122 < c
 ·rw [Qj h,Ql (by omega)];rfl
 ·rw [Ql h,Qj (by omega)];rfl
theorem Ae (x:Str):signs x=(hE x).map D.dat:=by simp [signs,hE]
theorem Af (x:Str):(hE x).length=x.length:=by simp [hE];rfl
theorem Ag (x:Str) (p:Nat->Bool) (q:PyData->Bool) (h:∀ c,q (.str ⟨#[c]⟩)=p c):(hE x).all q=x.cps.toList.all p:=by
 rw [Q3,Qc,Qc];constructor
 ·intro H c hc;obtain ⟨i,hi,e⟩:=RX.mp hc
  have:=H (.str ⟨#[c]⟩) (by
   simp only [hE,Qp,QO];refine ⟨i,by simpa using hi,?_⟩;have hi':i < x.cps.size:=by simpa using hi
   simp [Array.getD,hi']
   simpa using e)
  rw [h] at this;exact this
 ·intro H d hd;simp only [hE,Qp,QO] at hd;obtain ⟨i,hi,rfl⟩:=hd;rw [h];apply H;have:x.cps.getD i 0=x.cps[i]:=by simp [Array.getD,hi]
  rw [this];simp
theorem wZ (i j:Int) (h:Hm):oLe (.int i) (.int j) h=.ok (.bool (decide (i<=j))) h:=rfl
theorem Bx (x y:Str) (h:Hm):oLe (.str x) (.str y) h=.ok (.bool (!mY y x)) h:=rfl
theorem tI {x:Str} (h:Hm) (hz:x.length<=16777216):fc [.str x] h=.ok (.int x.length) h:=by simp [fc,sz hz]
@[simp] theorem Mp (ds:Uq) (h:Hm):fc [.dat (.tuple ds)] h=.ok (.int ds.length) h:=rfl
@[simp] theorem Mq (ds:Uq) (h:Hm):fc [.dat (.list ds)] h=.ok (.int ds.length) h:=rfl
def gA {α:Type} (ds:List α) (f:α->Bool):Bool:=ds.all f
def OI {α:Type} (ds:List α) (f:α->Bool):Bool:=ds.any f
theorem fJ {α:Type} {ds:List α} {f:α->Bool}:gA ds f=true<->∀ x∈ds,f x=true:=Qc
theorem jB {α:Type} {a:α} {ds:List α} {f:α->Bool}:gA (a::ds) f=true<->f a=true/\gA ds f=true:=by simp [gA]
@[simp] theorem Mr {α:Type} (f:α->Bool):gA [] f=true:=rfl
@[simp] theorem Ms {α:Type} (f:α->Bool):OI [] f=false:=rfl
theorem lu {α:Type} (ds:List α) (f:α->Bool) (h:Hm):we [.dat (.list (ds.map λx=>.bool (f x)))] h=.ok (.bool (gA ds f)) h:=by
 unfold gA;have e1:ds.map (λx=>PyData.bool (f x))=(ds.map f).map .bool:=by simp
 rw [e1,Ad];simp [List.all_map,Ud]
theorem Ah {n m:Nat} {d:PyData} (o:Ok n m d) (hn:n<=10000) (h:Hm):ju [.dat d] h=.ok (.bool (isName d)) h:=by
 unfold ju u6
 cases d with
 | str x=>
  have hx:x.length<=16777216:=P6 o.str (by omega)
  have key:cf 1 (aL (ab 0)) (av 0) cJ (nk oLe oLe (aj (.str "a")) (ab 0) (aj (.str "z"))) [some (.str x)] h=.ok (.dat (.list ((hE x).map λd=>.bool (match d with | .str y=>!mY y "a" && !mY "z" y | _=>false)))) h:=by
   refine f7 (by simp [Ae]) (by rw [Af];exact hx) _ λy hy=>?_;simp only [hE,Qp,QO] at hy;obtain ⟨i,hi,rfl⟩:=hy;generalize (⟨#[x.cps.getD i 0]⟩:Str)=y;refine ⟨_,rfl,?_⟩;by_cases z:mY y "a" = true
   ·simp [Bx,z]
   ·simp [Bx,z]
  by_cases h1:1<=(x.length:Int)
  ·by_cases h2:(x.length:Int)<=6
   ·simp [tI h hx,wZ,h1,h2,key,lu];unfold gA;rw [Ag x az _ (λc=>by simp only [az,PN,ltZ])];simp [isName,show 1<=x.length by omega,show x.length<=6 by omega]
   ·simp [tI h hx,wZ,h1,h2,isName,show ¬ x.length<=6 by omega]
  ·simp [tI h hx,wZ,h1,isName,show ¬ 1<=x.length by omega]
 | _=>simp [isName]
def nG (ds:Uq):Bool:=gA (ds.zip ds.tail) λp=>ltB p.1 p.2
structure Ll (ds:Uq):Prop where
 nd:∀ d∈ds,noDict d=true/\d.depth<=40
 lt:∀ d∈ds,∀ e∈ds,bG d e=some (ltB d e)
theorem KA {d e:PyData} (h1:noDict d=true) (h2:noDict e=true) (h3:d.depth<=40) (h4:bG d e=some (ltB d e)) (h:Hm):oLt (.dat d) (.dat e) h=.ok (.bool (ltB d e)) h:=by simp [oLt,h1,h2,h4,show min d.depth e.depth<=40 by omega]
theorem qW (i j:Int) (h:Hm):oLt (.int i) (.int j) h=.ok (.bool (decide (i < j))) h:=by simp [oLt,noDict,PyData.hasDict,PyData.depth,bG]
theorem E6 {ds:Uq} (h:∀ d∈ds,∃ x,d=.str x):Ll ds:=⟨λd m=>by obtain ⟨x,rfl⟩:=h d m;exact ⟨by simp [noDict,PyData.hasDict],by simp [PyData.depth]⟩,λd m e m'=>by
 obtain ⟨x,rfl⟩:=h d m;obtain ⟨y,rfl⟩:=h e m'
 simp [ltB,bG]⟩
theorem By:∀ (xs ys:Uq),mj xs ys=((xs.zip ys).map λp=>PyData.tuple [p.1,p.2]).map D.dat
 | [],_=>by simp [mj]
 | _::_,[]=>by simp [mj]
 | x::xs,y::ys=>by simp [mj,By xs ys]
theorem Hw {xs:Uq} {p:PyData×PyData} (h:p∈xs.zip xs.tail):p.1∈xs/\p.2∈xs:=by obtain ⟨a,b⟩:=p;have:=TQ h;exact ⟨this.1,List.mem_of_mem_tail this.2⟩
theorem oR {ds:Uq} (c:Ll ds) (hz:ds.length<=16777216) (h:Hm):gu [.dat (.tuple ds)] h=.ok (.bool (nG ds)) h:=by
 unfold gu qd
 have key:cf 2 (AU (aa (ab 0) (aa (MJ (ab 0) (mE (aj (.int 1))) (AV)) (ah)))) (jF (cx (av 0) (cx (av 1) (jE)))) (cJ) (aq oLt (ab 0) (ab 1)) [some (.dat (.tuple ds))] h=.ok (.dat (.list ((ds.zip ds.tail).map λp=>.bool (ltB p.1 p.2)))) h:=by
  rw [f7 (h1:=h) (ds:=(ds.zip ds.tail).map λp=>PyData.tuple [p.1,p.2]) (by simp [E5,By]) (by simp;omega) (λd=>.bool (match d with | .tuple [a,b]=>ltB a b | _=>false)) λy hy=>?_]
  ·rw [TZ];rfl
  ·obtain ⟨p,hp,rfl⟩:=Qp.mp hy;obtain ⟨m1,m2⟩:=Hw hp;refine ⟨_,rfl,?_⟩;simp [KA (c.nd _ m1).1 (c.nd _ m2).1 (c.nd _ m1).2 (c.lt _ m1 _ m2)]
 simp [key,lu,nG]
mutual
def cm:PyData->PyData->Bool
 | .str _,.str _=>true
 | .int _,.int _=>true
 | .tuple xs,.tuple ys=>Iw xs ys
 | _,_=>false
def Iw:Uq->Uq->Bool
 | x::xs,y::ys=>cm x y && Iw xs ys
 | _,_=>true
end
mutual
theorem Ai:∀ {d e:PyData},cm d e=true->(bG d e).isSome=true
 | .str _,e,h=>by cases e<;>simp_all [cm,bG]
 | .int _,e,h=>by cases e<;>simp_all [cm,bG]
 | .tuple xs,e,h=>by
  cases e with
  | tuple ys=>simp only [cm] at h;simp only [bG];exact Bz h
  | _=>simp [cm] at h
 | .none,_,h=>by simp [cm] at h
 | .bool _,_,h=>by simp [cm] at h
 | .list _,_,h=>by simp [cm] at h
 | .dict _,_,h=>by simp [cm] at h
theorem Bz:∀ {xs ys:Uq},Iw xs ys=true->(cE xs ys).isSome=true
 | [],[],_=>by simp [cE]
 | [],_::_,_=>by simp [cE]
 | _::_,[],_=>by simp [cE]
 | x::xs,y::ys,h=>by
  simp only [Iw,PV] at h;unfold cE;split
  ·exact Bz h.2
  ·exact Ai h.1
end
theorem Hx {d e:PyData} (h:cm d e=true):bG d e=some (ltB d e):=by
 have:=Ai h;unfold ltB
 cases q:bG d e with
 | none=>rw [q] at this;cases this
 | some b=>rfl
def lx:PyData->Bool
 | .str _=>true
 | _=>false
theorem de {d:PyData} (h:lx d=true):∃ x,d=.str x:=by cases d<;>simp_all [lx]
theorem tJ:∀ {xs ys:Uq},gA xs lx=true->gA ys lx=true->Iw xs ys=true
 | [],_,_,_=>by simp [Iw]
 | _::_,[],_,_=>by simp [Iw]
 | x::xs,y::ys,h,k=>by have h:=jB.mp h;have k:=jB.mp k;obtain ⟨a,rfl⟩:=de h.1;obtain ⟨b,rfl⟩:=de k.1;simp [Iw,cm,tJ h.2 k.2]
theorem Ll.of {n m:Nat} {ds:Uq} (o:ku n m ds) (hm:m<=40) (h:∀ d∈ds,∀ e∈ds,cm d e=true):Ll ds:=⟨λd q=>⟨(o.mem q).OF,by have:=(o.mem q).d;omega⟩,λd q e r=>Hx (h d q e r)⟩
def Mt (ns:Uq) (d:PyData):Bool:=ns.any λy=>PyData.eqv y d
theorem E7 {n m:Nat} {d:PyData} (o:Ok n m d):∀ {ns:Uq},gA ns lx=true->CZ d ns=some (Mt ns d)
 | [],_=>rfl
 | y::ns,h=>by
  have h:=jB.mp h;obtain ⟨x,rfl⟩:=de h.1;have ih:=E7 o h.2
  have e:Ck (.str x) d=some (PyData.eqv (.str x) d):=by
   have hd:noDict d=true:=o.OF;unfold Ck;split
   ·simp [noDict,PyData.hasDict] at hd
   ·simp [noDict,PyData.hasDict] at hd
   ·simp [eqQ,noDict,PyData.hasDict,PyData.depth];simpa [noDict] using hd
  simp [CZ,e,ih,Mt]
theorem E8 {n m:Nat} {d:PyData} {ns:Uq} (o:Ok n m d) (h:gA ns lx=true) (hm:Hm):oX (.dat d) (.dat (.tuple ns)) hm=.ok (.bool (Mt ns d)) hm:=by simp [oX,findIn,jq,nS,pV,E7 o h]
theorem BA {ns:Uq} (h:gA ns lx=true) {d:PyData}:Mt ns d=true<->d∈ns:=by
 simp only [Mt,Tu];constructor
 ·rintro ⟨y,hy,e⟩;obtain ⟨x,rfl⟩:=de (fJ.mp h y hy);cases d<;>simp [PyData.eqv] at e;subst e;exact hy
 ·intro q;obtain ⟨x,rfl⟩:=de (fJ.mp h d q);exact ⟨_,q,by simp [PyData.eqv]⟩
theorem Aj {d:PyData} (h:isName d=true):lx d=true:=by cases d<;>simp_all [isName,lx]
theorem Ak {ds:Uq} (h:gA ds isName=true):gA ds lx=true:=fJ.mpr λd m=>Aj (fJ.mp h d m)
theorem E9 {ds:Uq} (h:gA ds lx=true):∀ d∈ds,∃ x,d=.str x:=λd m=>de (fJ.mp h d m)
def ie:PyData->Bool
 | .tuple ds=>decide (ds.length<=12) && gA ds isName && nG ds
 | _=>false
theorem xa {n m:Nat} {d:PyData} (o:Ok n m d) (hn:n<=10000) (h:Hm):iE [.dat d] h=.ok (.bool (ie d)) h:=by
 unfold iE qe
 cases d with
 | tuple ds=>
  have hl:=o.items.len;have key:=f7 (n:=1) (it:=aL (ab 0)) (g:=av 0) (e:=af ju (aa (ab 0) (ah))) (ρ:=[some (.dat (.tuple ds))]) (h:=h) (h1:=h) (ds:=ds) (by simp) (by omega) (λx=>.bool (isName x)) (λx hx=>⟨_,rfl,by simp [Ah (o.items.mem hx) hn]⟩);by_cases h1:ds.length<=12
  ·by_cases h2:gA ds isName=true
   ·have:=oR (E6 (E9 (Ak h2))) (by omega) h;simp [key,lu,h1,show ¬ (12:Int) < ds.length by omega,h2,this,ie]
   ·simp [key,lu,h1,show ¬ (12:Int) < ds.length by omega,h2,ie]
  ·simp [h1,show (12:Int) < ds.length by omega,ie]
 | _=>simp [ie]
@[simp] theorem Nd (ds:Uq) (i:Int) (h:Hm):dY (.dat (.tuple ds)) (.int i) h=match mf ds i with | some d=>.ok (.dat d) h | none=>.bad:=rfl
@[simp] theorem Nf (ds:Uq) (i:Int) (h:Hm):dY (.dat (.list ds)) (.int i) h=match mf ds i with | some d=>.ok (.dat d) h | none=>.bad:=rfl
@[simp] theorem Ph {α:Type} (a:α) (r:List α):mf (a::r) 0=some a:=by simp [mf,tZ]
theorem qN {α:Type} {xs:List α} {i:Nat} {a:α} (h:xs[i]?=some a):mf xs (i:Int)=some a:=by obtain ⟨hi,e⟩:=Qi.mp h;simp [mf,tZ,hi,e]
@[simp] theorem Pj {α:Type} (a b:α) (r:List α):mf (a::b::r) 1=some b:=by show mf _ ((1:Nat):Int)=_;exact qN rfl
def Wf (h:Hm):Prop:=∀ o∈h,MO.below h.length o=true
theorem Wf.set {h:Hm} (w:Wf h) {i:Nat} {o:MO} (b:MO.below h.length o=true):Wf (h.set i o):=λx hx=>by
 rw [List.length_set];rcases List.mem_or_eq_of_mem_set hx with m | rfl
 ·exact w x m
 ·exact b
theorem D.j6 {n m:Nat} (h:n<=m) {d:D} (b:D.below n d=true):D.below m d=true:=by cases d<;>simp_all [D.below];omega
theorem MO.j6 {n m:Nat} (h:n<=m) {o:MO} (b:MO.below n o=true):MO.below m o=true:=by
 cases o with
 | lst xs=>simp only [MO.below,Qc] at b ⊢;exact λd q=>D.j6 h (b d q)
 | jC t kvs=>rfl
 | ins C fs=>simp only [MO.below,Qc] at b ⊢;exact λd q=>D.j6 h (b d q)
 | tab P q=>rfl
theorem Wf.push {h:Hm} (w:Wf h) {o:MO} (b:MO.below (h.length+1) o=true):Wf (h++[o]):=λx hx=>by
 rw [Qd,To];rcases Qg.mp hx with m | m
 ·exact MO.j6 (Rq _) (w x m)
 ·simp at m;subst m;exact b
theorem Hy (ns:List Int) (k:Nat) (h:Hm):∃ z:Int,eW [.scr ns,.int k] h=.ok (.int z) h:=by
 unfold eW qh;by_cases hk:k < ns.length
 ·exact ⟨ns[k],by simp [fc,qW,hk,dY,jq,wc,qN (P9 hk)]⟩
 ·exact ⟨0,by simp [fc,qW,hk]⟩
@[simp] theorem Mu (i j:Int) (h:Hm):dJ (.int i) (.int j) h=.ok (.int (i+j)) h:=rfl
theorem BB {α:Type} {xs:List α} {k:Nat} (h:k < xs.length):∃ x,mf xs (k:Int)=some x/\x∈xs:=⟨xs[k],qN (P9 h),Uh h⟩
theorem ig {xs ys:Uq} (h:Hm) (hz:xs.length+ys.length<=16777216):dJ (.dat (.list xs)) (.dat (.list ys)) h=.ok (.dat (.list (xs++ys))) h:=by simp [dJ,sz hz]
theorem Fb {xs ys:Uq} (h:Hm) (hz:xs.length+ys.length<=16777216):dJ (.dat (.tuple xs)) (.dat (.tuple ys)) h=.ok (.dat (.tuple (xs++ys))) h:=by simp [dJ,sz hz]
theorem xb:∀ {ds:Uq},ds.Pairwise (λa b=>ltB a b=true)->nG ds=true
 | [],_=>rfl
 | [_],_=>rfl
 | a::b::r,h=>by rw [QL] at h;have ih:=xb h.2;unfold nG at ih ⊢;simp only [List.tail_cons,RC] at ih ⊢;exact jB.mpr ⟨h.1 b (by simp),ih⟩
theorem CJ {ds:Uq} (c:dw ds=true) (t:ao ds=true) (nd:ds.Nodup):nG (cQ ltB ds)=true:=by
 have p:=bR ltB ds;have u:=rO (gV c t);have nd':(cQ ltB ds).Nodup:=p.nodup_iff.mpr nd;refine xb ?_;unfold Up at u;refine RU.mpr λ{a b} s=>?_;have both:=RU.mp u s;have bn:=RU.mp nd' s;have ha:=p.mem_iff.mp (s.subset (by simp:a∈[a,b]));have hb:=p.mem_iff.mp (s.subset (by simp:b∈[a,b]));rcases nW c t ha hb both with q | q
 ·exact q
 ·exact absurd q bn
theorem KC {ds:Uq} (c:dw ds=true) (t:ao ds=true) {x y z:PyData} (hx:x∈ds) (hy:y∈ds) (hz:z∈ds) (h:ltB x y=true) (k:ltB y z=true):ltB x z=true:=by
 have h1:=pb c t hx hy h;have h2:=pb c t hy hz k;rcases nW c t hx hz (A1 c t hx hy hz h1 h2) with q | q
 ·exact q
 ·subst q;rw [k] at h1;cases h1
theorem Al {ds:Uq} (c:dw ds=true) (t:ao ds=true):∀ {es:Uq},(∀ e∈es,e∈ds)->nG es=true->es.Pairwise λa b=>ltB a b=true
 | [],_,_=>.nil
 | [_],_,_=>by simp
 | a::b::r,s,h=>by
  unfold nG at h;simp only [List.tail_cons,RC] at h;have h:=jB.mp h;have ih:=Al c t (es:=b::r) (λe m=>s e (P5 _ m)) (by unfold nG;simpa using h.2);refine QL.mpr ⟨λd m=>?_,ih⟩;rcases PZ.mp m with rfl | m'
  ·exact h.1
  ·exact KC c t (s a (by simp)) (s b (by simp)) (s d (by simp [m'])) h.1 ((QL.mp ih).1 d m')
namespace Nm
variable {c:Nat} {ns:Uq}
end Nm
theorem ly {d:PyData} (h:lx d=true):aw d=true:=by cases d<;>simp_all [lx,aw]
theorem tK {d:PyData} (h:lx d=true):ag d=true:=by cases d<;>simp_all [lx,ag]
theorem CK {ds:Uq} (h:∀ a∈ds,∀ b∈ds,cm a b=true):dw ds=true:=Qc.mpr λa ha=>Qc.mpr λb hb=>Ai (h a ha b hb)
end Ml
namespace Ml
open PySem
theorem BC {ns:Uq} {zs:List D} (s:zs.Sublist (ns.map D.dat)):∃ ls:Uq,zs=ls.map D.dat/\ls.Sublist ns:=by obtain ⟨ls,h1,h2⟩:=List.sublist_map_iff.mp s;exact ⟨ls,h2,h1⟩
theorem lX {a b:MS} {ρ ρ1:Fm} {h h1:Hm} (e:a ρ h=.ok (.nx ρ1) h1):bg a b ρ h=b ρ1 h1:=by simp [bg,e]
theorem aB {f:D->D->Hm->R D} {a b:ME} {ρ:Fm} {h h1 h2:Hm} {x y:D} {r:R D} (ha:a ρ h=.ok x h1) (hb:b ρ h1=.ok y h2) (e:f x y h2=r):aq f a b ρ h=r:=by subst e;simp only [aq,ha,hb,R.ak]
theorem aF {e:ME} {a:MA} {ρ:Fm} {h h1 h2:Hm} {x:D} {xs:List D} (he:e ρ h=.ok x h1) (ha:a ρ h1=.ok xs h2):aa e a ρ h=.ok (x::xs) h2:=by simp only [aa,he,ha,R.ak]
theorem bN {f:Fn} {a:MA} {ρ:Fm} {h h1:Hm} {xs:List D} (ha:a ρ h=.ok xs h1):af f a ρ h=f xs h1:=by simp only [af,ha,R.ak]
theorem qX {i:Nat} {e:ME} {ρ:Fm} {h h1:Hm} {x:D} (he:e ρ h=.ok x h1):bF i e ρ h=.ok (.nx (ρ.set i (some x))) h1:=by simp only [bF,he,R.ak]
section
variable {t u:MT} {a b:MS} {m:ME} {ρ:Fm} {h h1 h2:Hm} {x:D} {c d:Bool}
theorem b0 (e:m ρ h=.ok (.bool c) h1):aN m ρ h=.ok c h1:=by simp [aN,e]
theorem vD (e:m ρ h=.ok x h1) (k:Ml.truth x h1=some c):cn m ρ h=.ok c h1:=by simp only [cn,e,R.ak,k]
theorem xc (e:t ρ h=.ok c h1):iW t ρ h=.ok (!c) h1:=by simp [iW,e]
theorem Iy (e:t ρ h=.ok true h1):mZ t a b ρ h=a ρ h1:=by simp [mZ,e]
theorem Iz (e:t ρ h=.ok false h1):mZ t a b ρ h=b ρ h1:=by simp [mZ,e]
theorem fK {it:MA} {g:MG} {xs:List D} {r:R Fl} (e:it ρ h=.ok xs h1) (k:bP g a xs ρ h1=r):kl it g a ρ h=r:=by subst k;simp only [kl,e,R.aZ,R.ak]
theorem iT {ds:Uq} (e:m ρ h=.ok (.dat (.list ds)) h1):aL m ρ h=.ok (ds.map D.dat) h1:=by simp only [aL,e]
theorem dD {ds:Uq} (e:m ρ h=.ok (.dat (.tuple ds)) h1):aL m ρ h=.ok (ds.map D.dat) h1:=by simp only [aL,e]
theorem xf (e:m ρ h=.ok x h1):cz m ρ h=.ok (.rt x) h1:=by simp only [cz,e,R.ak]
end
theorem CL {a:MA} {ρ:Fm} {h h1:Hm} {j:Int} (e:a ρ h=.ok [.dat (.int j)] h1) (q:(-(2 ^ 62):Int)<=j/\j < 2 ^ 62):kF a ρ h=.ok (nums 0 j.toNat) h1:=by unfold kF;rw [e];simp only [R.ak];rw [if_pos q]
theorem yP {a:MA} {ρ:Fm} {h h1:Hm} {n:Nat} (e:a ρ h=.ok [.dat (.int (n:Int))] h1) (hn:n < 1000000):kF a ρ h=.ok (nums 0 n) h1:=by
 have:=CL e (by omega)
 rwa [Q8] at this
abbrev Am (d:PyData):Prop:=isName d=true
abbrev Fc (p:PyData):Prop:=∃ a b,Am a/\Am b/\p=.tuple [a,b]
theorem eE {x:PyData} (h:Am x):lx x=true:=by
 cases x with
 | str y=>rfl
 | _=>exact absurd h (by simp [Am,isName])
theorem Fd {x:PyData} (h:Am x):Ok 6 0 x:=by obtain ⟨y,rfl⟩:=de (eE h);simp only [Am,isName,PV,Qb] at h;refine ⟨?_,by simp [PyData.depth],by simp only [PyData.weight];exact h.1.2⟩;simp only [jA,PyData.strOk];rw [Array.all_eq_true_iff_forall_mem];intro x hx;have:=Qc.mp h.2 x (by simpa using hx);simp only [az,PV,Qb] at this;exact Qj (by omega)
theorem j7 {p:PyData} (h:Fc p):aw p=true/\ag p=true/\fS p=true/\gF p=true/\p.depth<=1/\Ok 14 1 p:=by obtain ⟨a,b,ha,hb,rfl⟩:=h;have oa:=Fd ha;have ob:=Fd hb;have ok:Ok 14 1 (.tuple [a,b]):=((ku.cons oa (ku.one ob)).mono (by omega) (PY _)).tup;exact ⟨by simp [aw,aY,ly (eE ha),ly (eE hb)],by simp [ag,ao,tK (eE ha),tK (eE hb)],rfl,rfl,ok.d,ok⟩
structure tL (U:PyData->Prop):Prop where
 c:∀ a b,U a->U b->cm a b=true
 st:∀ d,U d->aw d=true
 key:(∀ d,U d->fS d=true)\/(∀ d,U d->fT d=true)
 typ:(∀ d,U d->rN d=true)\/(∀ d,U d->gF d=true)
 dep:∀ d,U d->d.depth<=1
theorem mQ:tL Am:=⟨λa b ha hb=>by
  obtain ⟨x,rfl⟩:=de (eE ha);obtain ⟨y,rfl⟩:=de (eE hb)
  rfl,λd m=>ly (eE m),.inr λd m=>by obtain ⟨x,rfl⟩:=de (eE m);rfl,.inl λd m=>by obtain ⟨x,rfl⟩:=de (eE m);rfl,λd m=>by obtain ⟨x,rfl⟩:=de (eE m);simp [PyData.depth]⟩
theorem df:tL Fc:=⟨λp q hp hq=>by
  obtain ⟨a,b,ha,hb,rfl⟩:=hp;obtain ⟨c,d,hc,hd,rfl⟩:=hq;simp only [cm]
  exact tJ (by simp [gA,eE ha,eE hb]) (by simp [gA,eE hc,eE hd]),λd m=>(j7 m).1,.inl λd m=>(j7 m).2.2.1,.inr λd m=>(j7 m).2.2.2.1,λd m=>(j7 m).2.2.2.2.1⟩
section
variable {U:PyData->Prop} {xs ys:Uq}
theorem tL.t (u:tL U) {d:PyData} (h:U d):ag d=true:=aV (u.st d h)
theorem tL.vW (u:tL U) (h:∀ d∈xs,U d):ao xs=true:=iz λd m=>u.t (h d m)
theorem tL.cmp (u:tL U) (h:∀ d∈xs,U d):dw xs=true:=CK λa ha b hb=>u.c a b (h a ha) (h b hb)
structure Rw (U:PyData->Prop) (xs:Uq):Prop where
 sub:∀ d∈xs,U d
 ris:xs.Pairwise λa b=>ltB a b=true
theorem Fe {a b:PyData} (t:ag a=true) (h:ltB a b=true):a≠b:=λe=>by subst e;have:=AZ t;unfold ltB at h;rw [this] at h;cases h
theorem lB (u:tL U) (r:Rw U xs):xs.Nodup:=RD (λ{a b} ha hb l=>Fe (u.t (r.sub a ha)) l) r.ris
theorem IA (u:tL U) (r:Rw U xs):Up ltB xs:=by unfold Up;exact RD (λ{a b} ha hb l=>pb (u.cmp r.sub) (u.vW r.sub) ha hb l) r.ris
theorem BD (r:Rw U xs):nG xs=true:=xb r.ris
theorem yQ (u:tL U) (r:Rw U xs) (q:Rw U ys) (h:∀ d,d∈xs<->d∈ys):xs=ys:=
 pf (gV (u.cmp r.sub) (u.vW r.sub)) ((List.perm_ext_iff_of_nodup (lB u r) (lB u q)).mpr h) (IA u r) (IA u q)
theorem BE (u:tL U) (h:∀ d∈xs,U d) (nd:xs.Nodup):Rw U (cQ ltB xs):=
 ⟨λd m=>h d ((bR _ _).mem_iff.mp m),Al (u.cmp h) (u.vW h) (λd m=>(bR _ _).mem_iff.mp m) (CJ (u.cmp h) (u.vW h) nd)⟩
theorem Ff (u:tL U) (h:∀ d∈xs,U d) (q:nG xs=true):Rw U xs:=⟨h,Al (u.cmp h) (u.vW h) (λ_ m=>m) q⟩
theorem mR:∀ {ds:Uq},(∀ d∈ds,aw d=true)->aY ds=true
 | [],_=>by simp [aY]
 | d::ds,h=>by simp [aY,h d (by simp),mR (ds:=ds) λe m=>h e (by simp [m])]
theorem tL.set (u:tL U) (h:∀ d∈xs,U d) (l:xs.length<=120):setOk xs=true:=by
 have h1:(xs.all fS || xs.all fT)=true:=by
  rcases u.key with k | k
  ·rw [Qc.mpr λd m=>k d (h d m)];rfl
  ·rw [show xs.all fT=true from Qc.mpr λd m=>k d (h d m)];simp
 have h2:aY xs=true:=mR λd m=>u.st d (h d m);have h3:PyData.depthAll xs<=8:=P6 (eZ λd m=>u.dep d (h d m)) (by decide);simp only [setOk,h1,h2,Qj h3,Qj l,Se]
theorem tL.OJ (u:tL U) (h:∀ d∈xs,U d) (l:xs.length < 64):fg xs=true:=by
 have h1:(xs.all rN || xs.all gF)=true:=by
  rcases u.typ with k | k
  ·rw [Qc.mpr λd m=>k d (h d m)];rfl
  ·rw [show xs.all gF=true from Qc.mpr λd m=>k d (h d m)];simp
 have h3:PyData.depthAll xs<=20:=P6 (eZ λd m=>u.dep d (h d m)) (by decide);simp only [fg,h1,u.vW h,u.cmp h,Qj h3,Qj l,Se]
def un (xs ys:Uq):Uq:=cQ ltB (C0 xs ys)
theorem Fg (u:tL U) (r:∀ d∈xs,U d) (q:∀ d∈ys,U d):(∀ d,d∈C0 xs ys<->d∈xs\/d∈ys)/\(C0 xs ys).Nodup/\(C0 xs ys).length<=xs.length+ys.length:=by
 have hs:∀ d∈xs++ys,aw d=true:=λd m=>by
  rcases Qg.mp m with z | z
  ·exact u.st d (r d z)
  ·exact u.st d (q d z)
 have hm:∀ d,d∈C0 xs ys<->d∈xs\/d∈ys:=λd=>by unfold C0;rw [jw hs,Qg]
 have nd:(C0 xs ys).Nodup:=iG hs;refine ⟨hm,nd,?_⟩;have:=vz nd (ys:=xs++ys) λd m=>Qg.mpr ((hm d).mp m);simpa using this
theorem IB (u:tL U) (r:∀ d∈xs,U d) (q:∀ d∈ys,U d):Rw U (un xs ys)/\(∀ d,d∈un xs ys<->d∈xs\/d∈ys)/\(un xs ys).length<=xs.length+ys.length:=by obtain ⟨h1,h2,h3⟩:=Fg u r q;refine ⟨BE u (λd m=>((h1 d).mp m).elim (r d) (q d)) h2,λd=>(bR _ _).mem_iff.trans (h1 d),?_⟩;unfold un;rw [(bR _ _).length_eq];exact h3
theorem CM (u:tL U) (r:∀ d∈xs,U d) (q:∀ d∈ys,U d) (l:xs.length+ys.length < 64) (h:Hm):eL [.dat (.list (xs++ys))] h=.ok (.dat (.list (un xs ys))) h:=by obtain ⟨h1,h2,h3⟩:=Fg u r q;have s2:setOk (xs++ys)=true:=u.set (λd m=>(Qg.mp m).elim (r d) (q d)) (by simp;omega);have s3:fg (fq (xs++ys))=true:=u.OJ (xs:=C0 xs ys) (λd m=>((h1 d).mp m).elim (r d) (q d)) (by omega);simp only [eL,u7,listOf,s2,s3,Se,QB,un,C0]
end
structure Nr (ns:Uq):Prop extends Rw Am ns where
 le:ns.length<=12
structure Wb (k:Nat) (ns ss:Uq):Prop where
 nr:Nr ns
 sr:Rw Fc ss
 cl:∀ a b,.tuple [a,b]∈ss->a∈ns/\b∈ns
 le:ss.length<=k
section
variable {k:Nat} {ns ss:Uq}
theorem Wb.sd (w:Wb k ns ss):gA ns lx=true:=fJ.mpr λd m=>eE (w.nr.sub d m)
theorem Wb.OL (w:Wb k ns ss) {a:PyData} (h:a∈ns):Ok 6 0 a:=Fd (w.nr.sub a h)
theorem Wb.MK (w:Wb k ns ss):Ok 84 1 (.tuple ns):=by have:=w.nr.le;exact ((ku.of λd m=>w.OL m).mono (by omega) (PY _)).tup
theorem Wb.OM (w:Wb k ns ss) (hk:k<=600):ku 9000 1 ss:=by have:=w.le;exact (ku.of λd m=>(j7 (w.sr.sub d m)).2.2.2.2.2).mono (by omega) (PY _)
theorem Wb.names (w:Wb k ns ss):ie (.tuple ns)=true:=by have h1:gA ns isName=true:=fJ.mpr λd m=>w.nr.sub d m;simp [ie,w.nr.le,BD w.nr.toRw,h1]
theorem Wb.get (w:Wb k ns ss) {p:PyData} (h:p∈ss):∃ a b,p=.tuple [a,b]/\a∈ns/\b∈ns:=by obtain ⟨a,b,_,_,rfl⟩:=w.sr.sub p h;exact ⟨a,b,rfl,w.cl a b h⟩
theorem Mv (h:Hm):m6 (D.int 2) (D.dat (.int 2)) h=.ok (.bool false) h:=by simp [m6,pV,eqQ,noDict,PyData.hasDict,PyData.depth,PyData.eqv]
theorem CN (w:Wb k ns ss) {a b:PyData} (ha:a∈ns) (hb:b∈ns) (h:Hm):gv [.dat (.tuple [a,b]),.dat (.tuple ns)] h=.ok (.bool true) h:=by unfold gv qf;simp [Mv,E8 (w.OL ha) w.sd,E8 (w.OL hb) w.sd,(BA w.sd).mpr ha,(BA w.sd).mpr hb]
theorem An (w:Wb k ns ss) (hk:k<=600) (h:Hm):gh [.dat (.tuple ss),.dat (.tuple ns)] h=.ok (.bool true) h:=by
 unfold gh mI;have hl:=w.le
 have key:=f7 (n:=1) (it:=aL (ab 0)) (g:=av 0) (e:=af gv (aa (ab 0) (aa (ab 2) (ah)))) (ρ:=[some (.dat (.tuple ss)),some (.dat (.tuple ns))]) (h:=h) (h1:=h) (ds:=ss) (by simp) (by omega) (λx=>.bool ((λ_=>true) x)) (λx hx=>⟨_,rfl,by
  obtain ⟨a,b,rfl,ha,hb⟩:=w.get hx
  simp [CN w ha hb]⟩)
 have al:gA ss (λ_=>true)=true:=fJ.mpr λ_ _=>rfl;have cp:Ll ss:=Ll.of (w.OM hk) (by decide) λd hd e he=>by obtain ⟨a,b,rfl,ha,hb⟩:=w.get hd;obtain ⟨a',b',rfl,ha',hb'⟩:=w.get he;have:=fJ.mp w.sd;simp only [cm];exact tJ (by simp [gA,this a ha,this b hb]) (by simp [gA,this a' ha',this b' hb'])
 have ir:=oR cp (by omega) h;rw [BD w.sr] at ir;have bm:=lu ss (λ_=>true) h;rw [al] at bm;simp only [] at key;simp [key,bm,ir]
theorem KD (w:Wb k ns ss) (hk:k<=600) (h:Hm):ow [.dat (.tuple [.tuple ns,.tuple ss])] h=.ok (.bool true) h:=by have e1:=xa w.MK (by decide) h;rw [w.names] at e1;unfold ow x8;simp [Mv,e1,An w hk h]
theorem KG (w:Wb k ns ss) (hk:k<=600) (h:Hm):gw [.dat (.tuple [.tuple ns,.tuple ss])] h=.ok D.none h:=by unfold gw qg;simp [KD w hk h]
end
section
variable {k1 k2:Nat} {n1 s1 n2 s2:Uq}
theorem Hz (w1:Wb k1 n1 s1):ag (.tuple [.tuple n1,.tuple s1])=true:=by simp [ag,ao,mQ.vW w1.nr.sub,df.vW w1.sr.sub]
theorem KH (w1:Wb k1 n1 s1):(PyData.tuple [.tuple n1,.tuple s1]).depth<=40:=by have a:=eZ (m:=1) (ds:=n1) λd m=>mQ.dep d (w1.nr.sub d m);have b:=eZ (m:=1) (ds:=s1) λd m=>df.dep d (w1.sr.sub d m);simp only [PyData.depth,PyData.depthAll];omega
end
def KI:PyData->PyData
 | .tuple [a,_]=>a
 | _=>.none
def KJ:PyData->PyData
 | .tuple [_,b]=>b
 | _=>.none
theorem nH (n:Nat) (ds:Uq):MO.below n (.lst (ds.map D.dat))=true:=by simp [MO.below,D.below]
theorem Ao {n:Nat} {ρ ρ1:Fm} {g:MG} {t:MT} {e:ME} {x y:D} {xs ys:List D} {h h1 h2 h3 h4:Hm} (hg:g x (List.replicate n none++ρ) h=.ok ρ1 h1) (ht:t ρ1 h1=.ok true h2) (he:e ρ1 h2=.ok y h3) (hr:dZ n ρ g t e xs h3=.ok ys h4):dZ n ρ g t e (x::xs) h=.ok (y::ys) h4:=by unfold dZ;rw [hg];simp only [R.aZ,R.ak];rw [ht];simp only [R.aZ,R.ak,QB];rw [he];simp only [R.aZ,R.ak];rw [hr];rfl
theorem tM {one:PyData}:∀ {ls:Uq} {ys:List D},PySem.Paired (λx y=>∃ d,x=.dat d/\y=.dat (.tuple [one,d])) (ls.map D.dat) ys->ys=(ls.map λy=>PyData.tuple [one,y]).map D.dat
 | [],ys,h=>by cases h;rfl
 | l::ls,ys,h=>by
  cases h with
  | cons a b=>obtain ⟨d,e,rfl⟩:=a;cases e;rw [tM b];rfl
structure Pw (pre ns acc:Uq):Prop where
 ris:acc.Pairwise λa b=>ltB a b=true
 mem:∀ p∈acc,∃ a b,p=.tuple [a,b]/\a∈pre/\b∈ns
 len:acc.length<=pre.length * ns.length
theorem Fh {x a b:PyData} (tx:ag x=true) (ta:ag a=true) (tb:ag b=true) (h:ltB a b=true):ltB (.tuple [x,a]) (.tuple [x,b])=true:=by have n:=aS ta tb (Fe ta h);simpa [ltB,bG,cE,aU tx,n] using h
theorem BF {a b x y:PyData} (ta:ag a=true) (tb:ag b=true) (h:ltB a b=true):ltB (.tuple [a,x]) (.tuple [b,y])=true:=by have n:=aS ta tb (Fe ta h);simpa [ltB,bG,cE,n] using h
theorem Pw.step {pre ns acc ls xs:Uq} {one:PyData} (r:Rw Am ns) (e:ns=pre++one::xs) (P:Pw pre ns acc) (sl:ls.Sublist ns):Pw (pre++[one]) ns (acc++ls.map λy=>.tuple [one,y]):=by
 have tr:∀ d∈ns,ag d=true:=λd m=>mQ.t (r.sub d m);have ho:one∈ns:=by rw [e];simp
 have hp:∀ a∈pre,a∈ns:=λa m=>by rw [e];simp [m]
 refine ⟨RF.mpr ⟨P.ris,Sz.mpr (RD (λ{a b} ha hb l=>Fh (tr one ho) (tr a (sl.subset ha)) (tr b (sl.subset hb)) l) (r.ris.sublist sl)),λp hp' q hq=>?_⟩,λp m=>?_,?_⟩
 ·obtain ⟨a,b,rfl,ha,hb⟩:=P.mem p hp';obtain ⟨y,hy,rfl⟩:=Qp.mp hq;have rr:=r.ris;rw [e] at rr;exact BF (tr a (hp a ha)) (tr one ho) ((RF.mp rr).2.2 a ha one (by simp))
 ·rcases Qg.mp m with z | z
  ·obtain ⟨a,b,rfl,ha,hb⟩:=P.mem p z;exact ⟨a,b,rfl,by simp [ha],hb⟩
  ·obtain ⟨y,hy,rfl⟩:=Qp.mp z;exact ⟨one,y,rfl,by simp,sl.subset hy⟩
 ·have l1:=P.len;have l2:=sl.length_le;simp only [Qd,Qa,Qf,QJ,Nat.add_mul];omega
abbrev Rel:=PyData->PyData->Bool
def rows (ns:Uq) (r:Rel):Uq:=ns.flatMap λa=>(ns.filter (r a)).map λb=>.tuple [a,b]
abbrev br (ns:Uq) (r:Rel):PyData:=.tuple [.tuple ns,.tuple (rows ns r)]
section
variable {ns:Uq} {r q:Rel} {a b:PyData}
theorem bT {p:PyData}:p∈rows ns r<->∃ a b,p=.tuple [a,b]/\a∈ns/\b∈ns/\r a b=true:=by
 unfold rows;rw [List.mem_flatMap];constructor
 ·rintro ⟨a,ha,m⟩;obtain ⟨b,hb,rfl⟩:=Qp.mp m;obtain ⟨h1,h2⟩:=QH.mp hb;exact ⟨a,b,rfl,ha,h1,h2⟩
 ·rintro ⟨a,b,rfl,ha,hb,h⟩;exact ⟨a,ha,Qp.mpr ⟨b,QH.mpr ⟨hb,h⟩,rfl⟩⟩
theorem bC:.tuple [a,b]∈rows ns r<->a∈ns/\b∈ns/\r a b=true:=by
 rw [bT];constructor
 ·rintro ⟨x,y,e,h⟩;simp only [Sk,Sr,and_true] at e;obtain ⟨rfl,rfl⟩:=e;exact h
 ·exact λh=>⟨a,b,rfl,h⟩
theorem cU (R:Nr ns) (h:a∈ns):ag a=true:=mQ.t (R.sub a h)
theorem aW (R:Nr ns):Rw Fc (rows ns r):=by
 refine ⟨λp m=>?_,?_⟩
 ·obtain ⟨a,b,rfl,ha,hb,_⟩:=bT.mp m;exact ⟨a,b,R.sub a ha,R.sub b hb,rfl⟩
 ·refine List.pairwise_flatMap.mpr ⟨λa ha=>Sz.mpr ?_,?_⟩
  ·exact RD (λ{x y} hx hy l=>Fh (cU R ha) (cU R ((QH.mp hx).1)) (cU R ((QH.mp hy).1)) l) (R.ris.filter _)
  ·refine RD (λ{x y} hx hy l p hp q hq=>?_) R.ris;obtain ⟨b,_,rfl⟩:=Qp.mp hp;obtain ⟨c,_,rfl⟩:=Qp.mp hq;exact BF (cU R hx) (cU R hy) l
theorem BG {xs:Uq} {n:Nat} {f:PyData->Uq} (h:∀ a,(f a).length<=n):(xs.flatMap f).length<=xs.length * n:=by
 induction xs with
 | nil=>simp
 | cons x xs ih=>rw [Ue,Qd,Qf,Nat.add_mul];have:=h x;omega
theorem gB:(rows ns r).length<=ns.length * ns.length:=BG λa=>by rw [Qa];exact RB _ _
theorem qY (R:Nr ns) {k:Nat} (hk:ns.length * ns.length<=k):Wb k ns (rows ns r):=
 ⟨R,aW R,λa b m=>⟨(bC.mp m).1,(bC.mp m).2.1⟩,P6 gB hk⟩
theorem tN (h:∀ a∈ns,∀ b∈ns,r a b=q a b):rows ns r=rows ns q:=by
 have k:∀ xs:Uq,(∀ a∈xs,a∈ns)->xs.flatMap (λa=>(ns.filter (r a)).map λb=>PyData.tuple [a,b])=xs.flatMap (λa=>(ns.filter (q a)).map λb=>PyData.tuple [a,b]):=by
  intro xs
  induction xs with
  | nil=>intro _;rfl
  | cons x xs ih=>intro hs;rw [Ue,Ue,ih λa m=>hs a (by simp [m]),Te λb hb=>h x (hs x (by simp)) b hb]
 exact k ns λ_ m=>m
theorem yR (h:rows ns r=rows ns q) (ha:a∈ns) (hb:b∈ns):r a b=q a b:=by
 have e:(.tuple [a,b]∈rows ns r)<->(.tuple [a,b]∈rows ns q):=by rw [h]
 rw [bC,bC] at e;simp only [ha,hb,true_and] at e;exact Q3.mpr e
def gC (ss:Uq):Rel:=λa b=>decide (.tuple [a,b]∈ss)
theorem qZ {k:Nat} {ss:Uq} (w:Wb k ns ss):ss=rows ns (gC ss):=by
 refine yQ df w.sr (aW w.nr) λp=>?_;rw [bT];constructor
 ·intro m;obtain ⟨a,b,rfl,ha,hb⟩:=w.get m;exact ⟨a,b,rfl,ha,hb,Qj m⟩
 ·rintro ⟨a,b,rfl,_,_,h⟩;exact QS h
theorem yS (R:Nr ns):ag (br ns r)=true:=Hz (qY R (PY _))
theorem HA (R:Nr ns):(br ns r).depth<=40:=KH (qY R (PY _))
theorem yT {d e:PyData} (td:ag d=true) (te:ag e=true) (l:min d.depth e.depth<=40) (h:Hm):oEq (.dat d) (.dat e) h=.ok (.bool (decide (d=e))) h:=by
 have q:PyData.eqv d e=decide (d=e):=by
  by_cases z:d=e
  ·subst z;rw [Qj rfl];exact aU td
  ·rw [Ql z];exact aS td te z
 have l':=Qj l;simp only [oEq,pV,lH,eqQ,noDict,bW td,bW te,l',q,RT,Se,QB]
theorem yU {d e:PyData} (td:ag d=true) (te:ag e=true) (l:min d.depth e.depth<=40) (h:Hm):m6 (.dat d) (.dat e) h=.ok (.bool !(decide (d=e))) h:=by
 have q:PyData.eqv d e=decide (d=e):=by
  by_cases z:d=e
  ·subst z;rw [Qj rfl];exact aU td
  ·rw [Ql z];exact aS td te z
 have l':=Qj l;simp only [m6,pV,lH,eqQ,noDict,bW td,bW te,l',q,RT,Se,QB]
theorem KL (h:Hm) {n2:Uq} (R:Nr ns) (R2:Nr n2):oEq (.dat (br ns r)) (.dat (br n2 q)) h=.ok (.bool (decide (br ns r=br n2 q))) h:=yT (yS R) (yS R2) (by have:=HA (r:=r) R;omega) h
theorem Fi {d e:PyData} (td:ag d=true) (te:ag e=true) (l:d.depth<=40):Ck d e=some (decide (d=e)):=by
 have q:PyData.eqv d e=decide (d=e):=by
  by_cases z:d=e
  ·subst z;rw [Qj rfl];exact aU td
  ·rw [Ql z];exact aS td te z
 have l':decide (min d.depth e.depth<=40)=true:=Qj (by omega)
 have:Ck d e=eqQ d e:=by
  unfold Ck;split
  ·rename_i k;simp [ag] at te
  ·rename_i k;simp [ag] at te
  ·rfl
 rw [this];simp only [eqQ,noDict,bW td,bW te,l',q,RT,Se,QB]
theorem yV {d:PyData} (td:ag d=true):∀ {ds:Uq},ao ds=true->(∀ e∈ds,e.depth<=40)->CZ d ds=some (decide (d∈ds))
 | [],_,_=>by simp [CZ]
 | e::ds,t,l=>by
  simp only [ao,PV] at t;have ih:=yV td t.2 λx m=>l x (P5 _ m);unfold CZ;rw [Fi t.1 td (l e (by simp)),ih];by_cases z:e=d
  ·subst z;simp
  ·have z':¬ d=e:=λy=>z y.symm;simp [z,z']
theorem oS {d:PyData} (td:ag d=true) {ds:Uq} (t:ao ds=true) (l:∀ e∈ds,e.depth<=40) (h:Hm):findIn (.dat d) (.dat (.tuple ds)) h=some (decide (d∈ds))/\findIn (.dat d) (.dat (.list ds)) h=some (decide (d∈ds)):=by simp only [findIn,jq,nS,pV,lH,yV td t l,and_self]
theorem HB {d:PyData} (td:ag d=true) {ds:Uq} (t:ao ds=true) (l:∀ e∈ds,e.depth<=40) (h:Hm):oX (.dat d) (.dat (.tuple ds)) h=.ok (.bool (decide (d∈ds))) h:=by simp only [oX,(oS td t l h).1]
theorem yW {d:PyData} (td:ag d=true) {ds:Uq} (t:ao ds=true) (l:∀ e∈ds,e.depth<=40) (h:Hm):ui (.dat d) (.dat (.tuple ds)) h=.ok (.bool !(decide (d∈ds))) h:=by simp only [ui,(oS td t l h).1]
theorem Ap {U:PyData->Prop} {xs:Uq} (u:tL U) (R:Rw U xs):∀ e∈xs,e.depth<=40:=λe m=>P6 (u.dep e (R.sub e m)) (by decide)
theorem vE {U:PyData->Prop} {xs:Uq} (u:tL U) (R:Rw U xs):ao xs=true:=u.vW R.sub
theorem BH (R:Nr ns) (ha:a∈ns) (hb:b∈ns):ag (.tuple [a,b])=true:=by simp [ag,ao,cU R ha,cU R hb]
theorem xg (R:Nr ns) (ha:a∈ns) (hb:b∈ns) (h:Hm):oX (.dat (.tuple [a,b])) (.dat (.tuple (rows ns r))) h=.ok (.bool (r a b)) h:=by
 have:decide (.tuple [a,b]∈rows ns r)=r a b:=by rw [Q3,Sl,bC];simp [ha,hb]
 rw [HB (BH R ha hb) (vE df (aW R)) (Ap df (aW R)),this]
end
inductive Kd where
 | stable
 | standing
 | preferred
 | whole
 | grounded
def Kd.nm:Kd->Str
 | .stable => "stable"
 | .standing => "standing"
 | .preferred => "preferred"
 | .whole => "whole"
 | .grounded => "grounded"
def Kd.I:Kd->Bool->Bool->Bool->Bool
 | .stable,x,_,_=>x
 | .standing,x,y,z=>x && (z || y)
 | .preferred,x,y,z=>x && (z || y)
 | .whole,x,y,_=>x && y
 | .grounded,x,y,z=>y && (x || z)
def ji (kd:Kd) (r:Rel):Rel:=λa b=>kd.I (r a a) (r b b) (r b a)
def dh (kd:Kd) (r:Rel):Rel:=λa b=>r a b && (decide (a=b) || !ji kd r a b)
def ij (kd:Kd) (r:Rel):Rel:=λa b=>dh kd r a b || (!decide (a=b) && ji kd (dh kd r) a b)
theorem Kd.back {kd:Kd} {x y z z' w:Bool} (h:kd.I x y z≠kd.I x y z'):kd.I y x w=false:=by cases kd<;>cases x<;>cases y<;>simp_all [Kd.I]
section
variable {ns:Uq} {r q:Rel} {a b:PyData} {kd:Kd}
theorem KN (kd:Kd) (h:Hm):jN [.dat (.str kd.nm)] h=.ok D.none h:=by cases kd<;>kernel_rfl
def yX (ns:Uq) (r:Rel):D:=.jC true ((rows ns r).map λp=>(p,.bool true))
theorem vF {ds:Uq} (t:ao ds=true) {d:PyData} (td:ag d=true) {v:PyData}:nR d (ds.map λp=>(p,v))=decide (d∈ds):=by
 unfold nR;rw [List.any_map];rw [Q3,Sl,Tu];constructor
 ·rintro ⟨x,hx,e⟩;have:=(kI (aM t hx) td).mp e;subst this;exact hx
 ·exact λm=>⟨d,m,aU td⟩
theorem Fj {p:PyData} (h:Fc p):keyOk true p=true:=by obtain ⟨h1,h2,h3,h4,h5,_⟩:=j7 h;have:p.depth<=8:=P6 h5 (by decide);simp [keyOk,h1,h3,this]
theorem Mw (Rn:Nr ns) (ha:a∈ns) (hb:b∈ns):Fc (.tuple [a,b]):=⟨a,b,Rn.sub a ha,Rn.sub b hb,rfl⟩
theorem xh (Rn:Nr ns) (ha:a∈ns) (hb:b∈ns) (h:Hm):oX (.dat (.tuple [a,b])) (yX ns r) h=.ok (.bool (r a b)) h:=by
 have e:decide (.tuple [a,b]∈rows ns r)=r a b:=by rw [Q3,Sl,bC];simp [ha,hb]
 simp only [oX,findIn,jq,yX,wb,Fj (Mw Rn ha hb),QB,vF (vE df (aW Rn)) (BH Rn ha hb),e]
theorem vG {ρ:Fm} {h:Hm}:∀ {ss acc:Uq},(∀ d∈acc++ss,Fc d)->(acc++ss).Nodup->acc.length+ss.length < 1000->fu true 1 ρ (av 0) cJ (ab 0) (aj (.bool true)) (ss.map D.dat) (acc.map λp=>(p,.bool true)) h=.ok ((acc++ss).map λp=>(p,.bool true)) h
 | [],acc,_,_,_=>by simp [fu]
 | d::ss,acc,hs,nd,hl=>by
  simp only [Qf] at hl;have ih:=vG (ρ:=ρ) (h:=h) (ss:=ss) (acc:=acc++[d]) (by simpa using hs) (by simpa using nd) (by simp;omega);have hd:Fc d:=hs d (by simp);have ta:ao acc=true:=iz λx m=>df.t (hs x (by simp [m]));have kn:nR d (acc.map λp=>(p,PyData.bool true))=false:=by rw [vF ta (df.t hd)];refine Ql λm=>?_;exact (R6.mp nd).2.2 d m d (by simp) rfl
  have lt:decide ((acc.map λp=>(p,PyData.bool true)).length < 16777216)=true:=Qj (by rw [Qa];omega);have dp:dput (acc.map λp=>(p,PyData.bool true)) d (.bool true)=(acc++[d]).map λp=>(p,.bool true):=by simp [dput,kn]
  simp only [Qn,fu,av,R.aZ,R.ak,cJ,QB,rep1,Sf,Rb,QP,ab,Rh,aj,Fj hd,Bool.true_or,Bool.true_and,lt,dp];rw [ih];simp
theorem lY (hn:ns.length<=12):(rows ns r).length<=144:=P6 gB (Ru hn hn)
theorem Fo (Rn:Nr ns) {ρ:Fm} {h:Hm} {m:ME} (e:m ρ h=.ok (.dat (.tuple (rows ns r))) h):nu true 1 (aL m) (av 0) (cJ) (ab 0) (aj (.bool true)) ρ h=.ok (yX ns r) h:=by have l:=lY (r:=r) (Rn.le);have:=vG (ρ:=ρ) (h:=h) (ss:=rows ns r) (acc:=[]) (by simpa using (aW Rn).sub) (by simpa using lB df (aW Rn)) (by simp;omega);simp only [RM,Rb] at this;unfold nu;rw [dD e];simp only [R.ak,this,yX]
theorem HC (Rn:Nr ns) (ha:a∈ns) (hb:b∈ns) (h:Hm) :
  bK [yX ns r,.dat a,.dat b] h=.ok (.bool (ji .stable r a b)) h/\bb [yX ns r,.dat a,.dat b] h=.ok (.bool (ji .standing r a b)) h /\
  bS [yX ns r,.dat a,.dat b] h=.ok (.bool (ji .whole r a b)) h/\bu [yX ns r,.dat a,.dat b] h=.ok (.bool (ji .grounded r a b)) h:=by
 have e1:=xh (r:=r) Rn ha ha h;have e2:=xh (r:=r) Rn hb hb h;have e3:=xh (r:=r) Rn hb ha h;refine ⟨?_,?_,?_,?_⟩
 ·simp [bK,iF,e1,ji,Kd.I]
 ·cases x1:r a a<;>cases x2:r b b<;>cases x3:r b a<;>rw [x1] at e1<;>rw [x2] at e2<;>rw [x3] at e3<;>simp [bb,gJ,e1,e2,e3,ji,Kd.I,x1,x2,x3]
 ·cases x1:r a a<;>cases x2:r b b<;>rw [x1] at e1<;>rw [x2] at e2<;>simp [bS,jv,e1,e2,ji,Kd.I,x1,x2]
 ·cases x1:r a a<;>cases x2:r b b<;>cases x3:r b a<;>rw [x1] at e1<;>rw [x2] at e2<;>rw [x3] at e3<;>simp [bu,gK,e1,e2,e3,ji,Kd.I,x1,x2,x3]
def Kd.fn:Kd->Str
 | .stable => "idle_for_stable"
 | .standing => "idle_for_standing"
 | .preferred => "idle_for_standing"
 | .whole => "idle_for_whole"
 | .grounded => "idle_for_grounded"
theorem BI {m:ME} {ρ:Fm} {h:Hm} (kd:Kd) (e:m ρ h=.ok (.dat (.str kd.nm)) h):sA nv m ρ h=.ok (.fn kd.fn) h:=by unfold sA;rw [e];simp only [R.ak];cases kd<;>kernel_rfl
abbrev qB:List (Str×Fn):=[("idle_for_grounded",bu),("idle_for_standing",bb),("idle_for_stable",bK),("idle_for_whole",bS)]
theorem yY (Rn:Nr ns) (ha:a∈ns) (hb:b∈ns) {i:Nat} {ma:MA} {ρ:Fm} {h:Hm} (ei:ρ[i]?=some (some (.fn kd.fn))) (em:ma ρ h=.ok [yX ns r,.dat a,.dat b] h):jP i qB ma ρ h=.ok (.bool (ji kd r a b)) h:=by
 obtain ⟨k1,k2,k3,k4⟩:=HC (r:=r) Rn ha hb h;unfold jP;rw [ei];cases kd
 ·have:qB.lookup (Kd.fn .stable)=some bK:=by kernel_rfl
  simp only [this];rw [bN em,k1]
 ·have:qB.lookup (Kd.fn .standing)=some bb:=by kernel_rfl
  simp only [this];rw [bN em,k2]
 ·have:qB.lookup (Kd.fn .preferred)=some bb:=by kernel_rfl
  simp only [this];rw [bN em,k2];rfl
 ·have:qB.lookup (Kd.fn .whole)=some bS:=by kernel_rfl
  simp only [this];rw [bN em,k3]
 ·have:qB.lookup (Kd.fn .grounded)=some bu:=by kernel_rfl
  simp only [this];rw [bN em,k4]
end
section
variable {a b:MS} {t:MT} {m m2:ME} {ρ ρ1:Fm} {h h1 h2:Hm} {r:R Fl} {x y:D} {i:Nat} {g:MG} {it:MA} {f:Fn} {ma:MA} {xs:List D}
theorem aT (e:a ρ h=.ok (.nx ρ1) h1) (k:b ρ1 h1=r):bg a b ρ h=r:=(lX e).trans k
theorem bU (e:m ρ h=.ok x h1):bF i m ρ h=.ok (.nx (ρ.set i (some x))) h1:=qX e
theorem oU (e:m ρ h=.ok x h1):mC m ρ h=.ok (.nx ρ) h1:=by simp only [mC,e,R.ak]
theorem Aq (e:m ρ h=.ok x h1) (k:g x ρ h1=.ok ρ1 h2):nQ g m ρ h=.ok (.nx ρ1) h2:=by simp only [nQ,e,R.ak,k]
theorem fL (e:m ρ h=.ok x h1):cz m ρ h=.ok (.rt x) h1:=xf e
theorem KO (e:t ρ h=.ok true h1) (k:a ρ h1=r):mZ t a b ρ h=r:=(Iy e).trans k
theorem CO (e:t ρ h=.ok false h1) (k:b ρ h1=r):mZ t a b ρ h=r:=(Iz e).trans k
theorem iU {p n:Nat} (l:xs.length=p) (e:b (xs.map some++List.replicate (n - p) none) h=.ok (.rt x) h1):bA p n b xs h=.ok x h1:=by unfold bA;rw [if_pos l,e];rfl
theorem aH {d:D} (ha:ma ρ h=.ok xs h1) (k:f xs h1=.ok d h2):af f ma ρ h=.ok d h2:=(bN ha).trans k
theorem cP {a b:PyData} (e1:m ρ h=.ok (.dat a) h1) (e2:m2 ρ h1=.ok (.dat b) h2):bV (aa m (aa m2 ah)) ρ h=.ok (.dat (.tuple [a,b])) h2:=(bN (aF e1 (aF e2 rfl))).trans (Kx _ _ _)
theorem KP {u:MT} {c:Bool} (e:t ρ h=.ok false h1) (k:u ρ h1=.ok c h2):tW t u ρ h=.ok c h2:=by simp [tW,e,k]
theorem Fp {u:MT} {c d:Bool} (e:t ρ h=.ok c h1) (k:u ρ h1=.ok d h1):tW t u ρ h=.ok (c || d) h1:=by cases c<;>simp [tW,e,k]
theorem BJ {u:MT} {c d:Bool} (e:t ρ h=.ok c h1) (k:u ρ h1=.ok d h1):rf t u ρ h=.ok (c && d) h1:=by cases c<;>simp [rf,e,k]
theorem oV {c:Bool} (e:m ρ h=.ok (.bool c) h1):cn m ρ h=.ok c h1:=vD e rfl
end
section
variable {ns:Uq} {r q:Rel} {a b:PyData} {kd:Kd}
theorem qC (Rn:Nr ns) (c:Rel) {f:PyData->Bool} (hf:∀ a∈ns,∀ b∈ns,f (.tuple [a,b])=c a b):(rows ns r).filter f=rows ns λa b=>r a b && c a b:=by
 have s:Rw Fc ((rows ns r).filter f):=⟨λd m=>(aW Rn).sub d (QH.mp m).1,(aW Rn).ris.filter _⟩;refine yQ df s (aW Rn) λp=>?_;rw [QH,bT,bT];constructor
 ·rintro ⟨⟨a,b,rfl,ha,hb,h⟩,k⟩;exact ⟨a,b,rfl,ha,hb,by rw [h,<- hf a ha b hb,k];rfl⟩
 ·rintro ⟨a,b,rfl,ha,hb,h⟩;simp only [PV] at h;exact ⟨⟨a,b,rfl,ha,hb,h.1⟩,by rw [hf a ha b hb];exact h.2⟩
theorem BK (ha:ag a=true) (hb:ag b=true) (la:a.depth<=40) (h:Hm):oEq (.dat a) (.dat b) h=.ok (.bool (decide (a=b))) h:=yT ha hb (by omega) h
theorem xi (Rn:Nr ns) (ha:a∈ns):a.depth<=40:=P6 (mQ.dep a (Rn.sub a ha)) (by decide)
theorem Fq (Rn:Nr ns) (h:Hm):gw [.dat (br ns r)] h=.ok D.none h:=KG (qY Rn (PY _)) (by have:=Rn.le;exact P6 (Ru this this) (by decide)) h
def Ar (kd:Kd) (r:Rel) (p:PyData):Bool:=decide (KI p=KJ p) || !ji kd r (KI p) (KJ p)
theorem vH (Rn:Nr ns) (kd:Kd) (h:Hm):ox [.dat (br ns r),.dat (.str kd.nm)] h=.ok (.dat (br ns (dh kd r))) h:=by
 have l:=lY (r:=r) (Rn.le)
 have key:=jz (n:=2) (it:=aL (ab 4)) (g:=jF (cx (av 0) (cx (av 1) (jE)))) (t:=tW (aN (aq oEq (ab 0) (ab 1))) (iW (cn (jP 4 qB (aa (ab 7) (aa (ab 0) (aa (ab 1) (ah)))))))) (e:=bV (aa (ab 0) (aa (ab 1) (ah))))
  (ρ:=[some (.dat (br ns r)),some (.dat (.str kd.nm)),some (.fn kd.fn),some (.dat (.tuple ns)),some (.dat (.tuple (rows ns r))),some (yX ns r),none]) (h:=h) (h1:=h) (ds:=rows ns r) (dD (by rfl)) (by omega) (Ar kd r) (λp=>p) (λp hp=>by
   obtain ⟨a,b,rfl,ha,hb,hr⟩:=bT.mp hp;refine ⟨[some (.dat a),some (.dat b),some (.dat (br ns r)),some (.dat (.str kd.nm)),some (.fn kd.fn),some (.dat (.tuple ns)),some (.dat (.tuple (rows ns r))),some (yX ns r),none],rfl,?_,λ_=>by simp⟩;have e1:aN (aq oEq (ab 0) (ab 1)) [some (.dat a),some (.dat b),some (.dat (br ns r)),some (.dat (.str kd.nm)),some (.fn kd.fn),some (.dat (.tuple ns)),some (.dat (.tuple (rows ns r))),some (yX ns r),none] h=.ok (decide (a=b)) h:=b0 (aB rfl rfl (BK (cU Rn ha) (cU Rn hb) (xi Rn ha) h));have e2:=yY (r:=r) (kd:=kd) Rn ha hb (i:=4) (ma:=aa (ab 7) (aa (ab 0) (aa (ab 1) (ah)))) (ρ:=[some (.dat a),some (.dat b),some (.dat (br ns r)),some (.dat (.str kd.nm)),some (.fn kd.fn),some (.dat (.tuple ns)),some (.dat (.tuple (rows ns r))),some (yX ns r),none]) (h:=h) rfl rfl;have e3:=xc (vD e2 (c:=ji kd r a b) rfl);unfold tW;rw [e1];simp only [R.ak,Ar,KI,KJ];by_cases z:a=b
   ·simp [z]
   ·simp only [z,Ui,P8,QK,Ug]
    exact e3)
 have fl:(rows ns r).filter (Ar kd r)=rows ns (dh kd r):=qC Rn (λa b=>decide (a=b) || !ji kd r a b) λa _ b _=>rfl;rw [List.map_id',fl] at key;have l2:=lY (r:=dh kd r) (Rn.le);have t1:=Fq (r:=r) Rn h;have t2:=KN kd h;have t4:sA nv (ab 1) [some (.dat (br ns r)),some (.dat (.str kd.nm)),none,none,none,none,none] h=.ok (.fn kd.fn) h:=BI kd rfl;have t5:=Fo (r:=r) Rn (ρ:=[some (.dat (br ns r)),some (.dat (.str kd.nm)),some (.fn kd.fn),some (.dat (.tuple ns)),some (.dat (.tuple (rows ns r))),none,none]) (h:=h) (m:=ab 4) rfl;exact iU rfl (aT (oU (aH (xs:=[.dat (br ns r)]) rfl t1)) (aT (oU (aH (xs:=[.dat (.str kd.nm)]) rfl t2)) (aT (bU t4) (aT (Aq (x:=.dat (br ns r)) rfl rfl) (aT (bU t5) (aT (bU key) (fL (cP (a:=.tuple ns) rfl (aH (xs:=[.dat (.list (rows ns (dh kd r)))]) rfl rfl)))))))))
end
theorem qE {g2:MG} {t2:MT} {e:ME} {h:Hm} (I:Fm->Prop) (c:D->Bool) (f:D->D):∀ {ys:List D} {ρ:Fm},(∀ y∈ys,∀ ρ,I ρ->∃ ρ1,g2 y ρ h=.ok ρ1 h/\t2 ρ1 h=.ok (c y) h/\(c y=true->e ρ1 h=.ok (f y) h)/\I ρ1)->I ρ->jO g2 t2 e ys ρ h=.ok ((ys.filter c).map f) h
 | [],ρ,_,_=>rfl
 | y::ys,ρ,H,i=>by
  obtain ⟨ρ1,h1,h2,h3,i1⟩:=H y (Qe ..) ρ i;have ih:=qE I c f (ys:=ys) (λz hz=>H z (P5 _ hz)) i1;unfold jO;rw [h1];simp only [R.aZ,R.ak];rw [h2];simp only [R.aZ,R.ak]
  cases hc:c y with
  | false=>simp only [P8,QK,Rj,hc];exact ih
  | true=>simp only [QB,Rj,hc];rw [h3 hc];simp only [R.aZ,R.ak];rw [ih];rfl
theorem As {n:Nat} {it it2:MA} {g g2:MG} {t2:MT} {e:ME} {ρ:Fm} {h:Hm} {ds es:Uq} (hit:it ρ h=.ok (ds.map D.dat) h) (hz:ds.length * es.length+es.length<=100000) (hd:ds.length<=100000) (I:PyData->Fm->Prop) (c:PyData->PyData->Bool) (f:PyData->PyData->PyData)
  (H:∀ a∈ds,∃ ρ1,g (.dat a) (List.replicate n none++ρ) h=.ok ρ1 h/\it2 ρ1 h=.ok (es.map D.dat) h/\I a ρ1) (H2:∀ a∈ds,∀ b∈es,∀ ρ,I a ρ->∃ ρ1,g2 (.dat b) ρ h=.ok ρ1 h/\t2 ρ1 h=.ok (c a b) h/\(c a b=true->e ρ1 h=.ok (.dat (f a b)) h)/\I a ρ1) :
  wJ n it g cJ it2 g2 t2 e ρ h=.ok (.dat (.list (ds.flatMap λa=>(es.filter (c a)).map (f a)))) h:=by
 have go:∀ (xs:Uq) (k:Nat),(∀ a∈xs,a∈ds)->k+xs.length * es.length+es.length<=200000->eR n ρ g cJ it2 g2 t2 e (xs.map D.dat) k h=.ok ((xs.flatMap λa=>(es.filter (c a)).map (f a)).map D.dat) h:=by
  intro xs
  induction xs with
  | nil=>intro k _ _;rfl
  | cons a xs ih=>
   intro k hs hk;obtain ⟨ρ1,q1,q2,q3⟩:=H a (hs a (by simp))
   have inn:=qE (I a) (λy=>match y with | .dat b=>c a b | _=>false) (λy=>match y with | .dat b=>.dat (f a b) | _=>.dat .none) (ys:=es.map D.dat) (ρ:=ρ1) (g2:=g2) (t2:=t2) (e:=e) (h:=h) (λy hy ρ' i=>by
    obtain ⟨b,hb,rfl⟩:=Qp.mp hy;obtain ⟨ρ2,z1,z2,z3,z4⟩:=H2 a (hs a (by simp)) b hb ρ' i
    exact ⟨ρ2,z1,z2,z3,z4⟩) q3
   have fm:((es.map D.dat).filter (λy=>match y with | .dat b=>c a b | _=>false)).map (λy=>match y with | .dat b=>D.dat (f a b) | _=>.dat .none)=((es.filter (c a)).map (f a)).map D.dat:=by simp [TY,Ud]
   rw [fm] at inn;have lf:(es.filter (c a)).length<=es.length:=RB _ _;simp only [Qf,Nat.add_mul] at hk;have ih':=ih (k+((es.filter (c a)).map (f a)).length) (λb m=>hs b (by simp [m])) (by rw [Qa];omega);simp only [Qn];unfold eR;rw [q1];simp only [R.aZ,R.ak,cJ,QB];rw [q2];simp only [R.aZ,R.ak,Qa,sz (show k+es.length<=16777216 by omega),QB];rw [inn];simp only [R.ak,Qa];rw [Qa] at ih';rw [ih'];simp
 have g0:=go ds 0 (λ_ m=>m) (by omega);unfold wJ af sy;rw [hit];simp only [R.ak,Qa,sz (show ds.length<=16777216 by omega),QB];rw [g0];simp only [R.ak];refine dW _ h ?_;have:=BG (xs:=ds) (n:=es.length) (f:=λa=>(es.filter (c a)).map (f a)) λa=>by rw [Qa];exact RB _ _
 omega
section
variable {ns:Uq} {r q:Rel} {a b:PyData} {kd:Kd}
theorem nI (Rn:Nr ns) (kd:Kd) (h:Hm):dN [.dat (br ns r),.dat (.str kd.nm)] h=.ok (.dat (br ns (ij kd r))) h:=by
 have ln:=Rn.le;have lq:=Ru ln ln
 have key:=As (n:=2) (it:=aL (ab 2)) (it2:=aL (ab 4)) (g:=av 0) (g2:=av 1) (t2:=tW (aN (aq oX (bV (aa (ab 0) (aa (ab 1) (ah)))) (ab 7))) (rf (aN (aq m6 (ab 0) (ab 1))) (cn (jP 6 qB (aa (ab 7) (aa (ab 0) (aa (ab 1) (ah)))))))) (e:=bV (aa (ab 0) (aa (ab 1) (ah))))
  (ρ:=[some (.dat (br ns r)),some (.dat (.str kd.nm)),some (.dat (.tuple ns)),some (.dat (.tuple (rows ns (dh kd r)))),some (.fn kd.fn),some (yX ns (dh kd r)),none]) (h:=h) (ds:=ns) (es:=ns) (dD (by rfl)) (by omega) (by omega)
  (λa ρ=>∃ o,ρ=[some (.dat a),o,some (.dat (br ns r)),some (.dat (.str kd.nm)),some (.dat (.tuple ns)),some (.dat (.tuple (rows ns (dh kd r)))),some (.fn kd.fn),some (yX ns (dh kd r)),none]) (ij kd r) (λa b=>.tuple [a,b])
  (λa ha=>⟨_,rfl,dD (by rfl),none,rfl⟩)
  (λa ha b hb ρ ⟨o,e⟩=>by
   subst e;refine ⟨[some (.dat a),some (.dat b),some (.dat (br ns r)),some (.dat (.str kd.nm)),some (.dat (.tuple ns)),some (.dat (.tuple (rows ns (dh kd r)))),some (.fn kd.fn),some (yX ns (dh kd r)),none],rfl,?_,λ_=>cP rfl rfl,some (.dat b),rfl⟩;have e2:=yY (r:=dh kd r) (kd:=kd) Rn ha hb (i:=6) (ma:=aa (ab 7) (aa (ab 0) (aa (ab 1) (ah)))) (ρ:=[some (.dat a),some (.dat b),some (.dat (br ns r)),some (.dat (.str kd.nm)),some (.dat (.tuple ns)),some (.dat (.tuple (rows ns (dh kd r)))),some (.fn kd.fn),some (yX ns (dh kd r)),none]) (h:=h) rfl rfl
   exact Fp (b0 (aB (cP rfl rfl) rfl (xh Rn ha hb h))) (BJ (b0 (aB rfl rfl (yU (cU Rn ha) (cU Rn hb) (by have:=xi Rn ha;omega) h))) (oV e2)))
 have t4:sA nv (ab 1) [some (.dat (br ns r)),some (.dat (.str kd.nm)),some (.dat (.tuple ns)),some (.dat (.tuple (rows ns (dh kd r)))),none,none,none] h=.ok (.fn kd.fn) h:=BI kd rfl;have t5:=Fo (r:=dh kd r) Rn (ρ:=[some (.dat (br ns r)),some (.dat (.str kd.nm)),some (.dat (.tuple ns)),some (.dat (.tuple (rows ns (dh kd r)))),some (.fn kd.fn),none,none]) (h:=h) (m:=ab 3) rfl;exact iU rfl (aT (Aq (aH (xs:=[.dat (br ns r),.dat (.str kd.nm)]) rfl (vH Rn kd h)) rfl) (aT (bU t4) (aT (bU t5) (aT (bU key) (fL (cP (a:=.tuple ns) rfl (aH (xs:=[.dat (.list (rows ns (ij kd r)))]) rfl rfl)))))))
def gap (ns:Uq) (k f:Rel):Uq:=(rows ns f).filter λp=>!decide (p∈rows ns k)
theorem CP (Rn:Nr ns) {p:PyData} (hp:p∈rows ns q) (h:Hm):ui (.dat p) (.dat (.tuple (rows ns r))) h=.ok (.bool !(decide (p∈rows ns r))) h:=
 yW (aM (vE df (aW Rn)) hp) (vE df (aW Rn)) (Ap df (aW Rn)) h
abbrev Au:MS:=mZ (aN (aq ui (ab 4) (ab 2))) (EB 3 (ab 3)) (cW)
theorem xj (Rn:Nr ns) {k f:Rel} {a0 a1:Option D} {h:Hm}:∀ {xs:Uq} {n:Nat},(∀ p∈xs,p∈rows ns f)->∀ a4:Option D,∃ b4,bP (av 4) Au (xs.map D.dat) [a0,a1,some (.dat (.tuple (rows ns k))),some (.int ((2 ^ n:Nat):Int)),a4] h=.ok (.nx [a0,a1,some (.dat (.tuple (rows ns k))),some (.int ((2 ^ (n+(xs.filter λp=>!decide (p∈rows ns k)).length):Nat):Int)),b4]) h
 | [],n,_,a4=>⟨a4,by simp [bP]⟩
 | p::xs,n,hs,a4=>by
  have hp:=hs p (by simp);have e:=CP (r:=k) Rn hp h;by_cases z:p∈rows ns k
  ·obtain ⟨b4,ih⟩:=xj Rn (k:=k) (f:=f) (a0:=a0) (a1:=a1) (h:=h) (xs:=xs) (n:=n) (λq m=>hs q (by simp [m])) (some (.dat p));refine ⟨b4,?_⟩;rw [Qj z] at e;have st:Au [a0,a1,some (.dat (.tuple (rows ns k))),some (.int ((2 ^ n:Nat):Int)),some (.dat p)] h=.ok (.nx [a0,a1,some (.dat (.tuple (rows ns k))),some (.int ((2 ^ n:Nat):Int)),some (.dat p)]) h:=CO (b0 (aB rfl rfl e)) rfl;simp only [Qn,bP,av,R.aZ,R.ak,QU,QP];rw [st];simp only [R.aZ,R.ak,Rj,Qj z,Rt,P8,QK];exact ih
  ·obtain ⟨b4,ih⟩:=xj Rn (k:=k) (f:=f) (a0:=a0) (a1:=a1) (h:=h) (xs:=xs) (n:=n+1) (λq m=>hs q (by simp [m])) (some (.dat p));refine ⟨b4,?_⟩;rw [Ql z] at e;have dbl:((2 ^ n:Nat):Int)+((2 ^ n:Nat):Int)=((2 ^ (n+1):Nat):Int):=by rw [T4];omega
   have st:Au [a0,a1,some (.dat (.tuple (rows ns k))),some (.int ((2 ^ n:Nat):Int)),some (.dat p)] h=.ok (.nx [a0,a1,some (.dat (.tuple (rows ns k))),some (.int ((2 ^ (n+1):Nat):Int)),some (.dat p)]) h:=by rw [<- dbl];exact KO (b0 (aB rfl rfl e)) rfl
   simp only [Qn,bP,av,R.aZ,R.ak,QU,QP];rw [st];simp only [R.aZ,R.ak,Rj,Ql z,RT,QB,Qf];rw [ih,show n+1+(List.filter (λp=>!decide (p∈rows ns k)) xs).length=n+((List.filter (λp=>!decide (p∈rows ns k)) xs).length+1) by omega]
theorem HD (Rn:Nr ns) (kd:Kd) (h:Hm):hU [.dat (br ns r),.dat (.str kd.nm)] h=.ok (.int ((2 ^ (gap ns (dh kd r) (ij kd r)).length:Nat):Int)) h:=by obtain ⟨b4,lp⟩:=xj Rn (k:=dh kd r) (f:=ij kd r) (a0:=some (.dat (br ns r))) (a1:=some (.dat (.str kd.nm))) (h:=h) (xs:=rows ns (ij kd r)) (n:=0) (λ_ m=>m) none;rw [Nat.zero_add] at lp;exact iU rfl (aT (bU (aB (aH (xs:=[.dat (br ns r),.dat (.str kd.nm)]) rfl (vH Rn kd h)) (y:=.int 1) rfl rfl)) (aT (bU (x:=.int 1) rfl) (aT (fK (dD (aB (aH (xs:=[.dat (br ns r),.dat (.str kd.nm)]) rfl (nI Rn kd h)) (y:=.int 1) rfl rfl)) lp) (fL rfl))))
end
section
variable {ns:Uq} {r q:Rel} {a b x y:PyData} {kd:Kd}
def CQ (ns:Uq) (kd:Kd) (r q:Rel):Prop:=∀ a∈ns,∀ b∈ns,(a=b\/ji kd r a b=false)->q a b=r a b
theorem CQ.ji (A:CQ ns kd r q) (ha:a∈ns) (hb:b∈ns):ji kd q a b=ji kd r a b:=by
 have e1:=A a ha a ha (.inl rfl);have e2:=A b hb b hb (.inl rfl);unfold Ml.ji;rw [e1,e2];by_cases h:kd.I (r a a) (r b b) (q b a)=kd.I (r a a) (r b b) (r b a)
 ·exact h
 ·have:q b a=r b a:=A b hb a ha (.inr (Kd.back h));rw [this]
theorem CQ.dh (A:CQ ns kd r q) (ha:a∈ns) (hb:b∈ns):dh kd q a b=dh kd r a b:=by
 have e:=A.ji ha hb;unfold Ml.dh;rw [e];by_cases z:a=b
 ·rw [A a ha b hb (.inl z)]
 ·cases w:Ml.ji kd r a b with
  | true=>simp [z]
  | false=>rw [A a ha b hb (.inr w)]
theorem fM:CQ ns kd r (dh kd r):=λa ha b hb h=>by
 unfold dh;rcases h with z | z
 ·simp [z]
 ·simp [z]
theorem HE:CQ ns kd r (ij kd r):=λa ha b hb h=>by
 have k:=fM (r:=r) (kd:=kd) a ha b hb h;unfold ij;rcases h with z | z
 ·simp [z];subst z;exact k
 ·rw [(fM (ns:=ns)).ji ha hb,z,k];simp
theorem CQ.ij (A:CQ ns kd r q) (ha:a∈ns) (hb:b∈ns):ij kd q a b=ij kd r a b:=by unfold Ml.ij;rw [A.dh ha hb,(fM (ns:=ns) (r:=q)).ji ha hb,(fM (ns:=ns) (r:=r)).ji ha hb,A.ji ha hb]
theorem BL (h:dh kd r a b=true):r a b=true:=by unfold dh at h;simp only [PV] at h;exact h.1
theorem xk (ha:a∈ns) (hb:b∈ns) (h:r a b=true):ij kd r a b=true:=by
 unfold ij;rw [(fM (ns:=ns)).ji ha hb];unfold dh;rw [h];by_cases z:a=b
 ·simp [z]
 ·cases ji kd r a b<;>simp [z]
theorem KQ (h1:∀ a∈ns,∀ b∈ns,dh kd r a b=true->q a b=true) (h2:∀ a∈ns,∀ b∈ns,q a b=true->ij kd r a b=true):CQ ns kd r q:=λa ha b hb h=>by
 have k:=fM (r:=r) (kd:=kd) a ha b hb h;have f:=HE (r:=r) (kd:=kd) a ha b hb h
 cases e:r a b with
 | true=>exact h1 a ha b hb (by rw [k,e])
 | false=>
  cases e2:q a b with
  | false=>rfl
  | true=>have:=h2 a ha b hb e2;rw [f,e] at this;exact this.symm
theorem CQ.Fs (A:CQ ns kd r q):rows ns (Ml.dh kd q)=rows ns (Ml.dh kd r):=tN λa ha b hb=>A.dh ha hb
end
structure Px (i:Nat) (h:Hm):Prop where
 box:∃ n f:Int,h[i]?=some (.lst [.int n,.int f])
 wf:Wf h
def Ps (i:Nat) (h h':Hm):Prop:=∃ n f:Int,h'=h.set i (.lst [.int n,.int f])
theorem Px.lt {i:Nat} {h:Hm} (b:Px i h):i < h.length:=by obtain ⟨⟨n,f,e⟩,_⟩:=b;exact (Qi.mp e).1
theorem Px.refl {i:Nat} {h:Hm} (b:Px i h):Ps i h h:=by obtain ⟨⟨n,f,e⟩,_⟩:=b;refine ⟨n,f,?_⟩;obtain ⟨l,e⟩:=Qi.mp e;rw [<- e];exact (List.set_getElem_self l).symm
theorem Ps.trans {i:Nat} {h h' h'':Hm} (a:Ps i h h') (b:Ps i h' h''):Ps i h h'':=by obtain ⟨n,f,rfl⟩:=a;obtain ⟨k,g,rfl⟩:=b;exact ⟨k,g,by rw [List.set_set]⟩
theorem Ps.px {i:Nat} {h h':Hm} (s:Ps i h h') (b:Px i h):Px i h':=by obtain ⟨n,f,rfl⟩:=s;exact ⟨⟨n,f,by rw [Q0 b.lt]⟩,b.wf.set rfl⟩
theorem Ps.len {i:Nat} {h h':Hm} (s:Ps i h h'):h'.length=h.length:=by obtain ⟨n,f,rfl⟩:=s;simp
theorem Px.push {i:Nat} {h:Hm} (b:Px i h) {o:MO} (q:MO.below (h.length+1) o=true):Px i (h++[o]):=by obtain ⟨n,f,e⟩:=b.box;exact ⟨⟨n,f,by rw [Qu b.lt];exact e⟩,b.wf.push q⟩
theorem Ps.pop {i:Nat} {h h':Hm} {o:MO} (b:i < h.length) (s:Ps i (h++[o]) h'):∃ h1,h'=h1++[o]/\Ps i h h1:=by obtain ⟨n,f,rfl⟩:=s;exact ⟨_,by rw [List.set_append_left _ _ b],n,f,rfl⟩
def Dp {α:Type} (i:Nat) (h:Hm) (r:R α) (P:α->Prop):Prop:=∃ a h',r=.ok a h'/\Ps i h h'/\P a
section
variable {α β:Type} {i:Nat} {h:Hm} {r:R α} {f:α->Hm->R β} {P P':α->Prop} {Q:β->Prop}
theorem Dp.ok {a:α} (b:Px i h) (p:P a):Dp i h (.ok a h) P:=⟨a,h,rfl,b.refl,p⟩
end
theorem yZ {f:Fn} {xs:List D} {i:Nat} {h h1 t:Hm} {x:PyData} (b:Px i h) (e:f xs h=.ok (.dat x) (h1++t)) (s:Ps i h h1):gq f xs h=.ok (.dat x) h1:=by
 have hl:=s.len;have w:=(s.px b).wf;have e1:(h1++t).take h.length=h1:=by rw [<- hl,List.take_left'];rfl
 unfold gq;rw [e];have:(h1.all (MO.below h.length))=true:=by rw [<- hl];exact Qc.mpr λo m=>w o m
 simp [e1,D.below,this,hl]
theorem tO {i j:Int} (h0:0<=j) (hj:j < 1000000000000) (h:Hm):kG (.int i) (.int j) h=.ok (.int (i * j)) h:=by
 have:uT i j=true:=by unfold uT;rw [show decide (-(2 ^ 64) < j)=true from Qj (by omega),show decide (j < 2 ^ 64)=true from Qj (by omega)];simp
 simp [kG,this]
theorem oW {i j:Int} (h0:0 < j) (h:Hm):oMod (.int i) (.int j) h=.ok (.int (i % j)) h:=by simp [oMod,h0]
theorem Ft {i j:Int} (h0:0 < j) (h1:j < 1073741824) (h:Hm):uU (.int i) (.int j) h=.ok (.int (i / j)) h:=by simp [uU,h0,h1]
theorem tP {i j:Int} (h:Hm):dJ (.int i) (.int j) h=.ok (.int (i+j)) h:=rfl
theorem xl {i j:Int} (h:Hm):oEq (.int i) (.int j) h=.ok (.bool (decide (i=j))) h:=by simp [oEq,pV,eqQ,noDict,PyData.hasDict,PyData.depth,PyData.eqv];rfl
theorem lZ {i:Nat} {h:Hm} (b:Px i h) {c:Int} (h0:0 < c) (h1:c < 1073741824):Dp i h (aK [.ref i,.int c] h) λd=>∃ k:Nat,d=.int k/\(k:Int) < c:=by
 obtain ⟨⟨n,f,e⟩,_⟩:=b;have hl:=(Qi.mp e).1;have i0:∀ a b c d:Option D,aq dY (ab 0) (aj (.int 0)) [some (.ref i),a,b,c,d] h=.ok (.int n) h:=λa b c d=>by simp [dY,jq,wc,e,mf,tZ]
 have i1:∀ a b c d:Option D,aq dY (ab 0) (aj (.int 1)) [some (.ref i),a,b,c,d] h=.ok (.int f) h:=λa b c d=>by simp [dY,jq,wc,e,mf,tZ]
 have st:∀ (m:Int) (a b c d:Option D),xx (ab 0) (aj (.int 0)) (.int m) [some (.ref i),a,b,c,d] h=.ok [some (.ref i),a,b,c,d] (h.set i (.lst [.int m,.int f])):=λm a b c d=>by simp [xx,wg,e,AW,tZ]
 by_cases hf:f=1
 ·refine ⟨.int (n % c),h.set i (.lst [.int (n / c),.int f]),?_,⟨_,_,rfl⟩,(n % c).toNat,?_,?_⟩
  ·have t1:aN (aq oEq (aq dY (ab 0) (aj (.int 1))) (aj (.int 1))) [some (.ref i),some (.int c),none,none,none] h=.ok true h:=b0 (aB (i1 _ _ _ _) rfl (by rw [xl];simp [hf]));have t2:af nU (aa (aq dY (ab 0) (aj (.int 0))) (aa (ab 1) (ah))) [some (.ref i),some (.int c),none,none,none] h=.ok (.dat (.tuple [.int (n / c),.int (n % c)])) h:=(bN (aF (i0 _ _ _ _) (aF rfl rfl))).trans (by simp [nU,h0,h1]);unfold aK kM bA;simp only [Qf,QJ,QB,Qn,RM,Sf,Rb,show 5 - 2=3 from rfl,rep3];unfold bg;rw [Iy t1];simp only [nQ,t2,R.ak,jF,Qn,RM,cx,av,jE,QU,QP];simp only [ab,RG,Rh,R.ak,st];rfl
  ·rw [SN (Ss _ (by omega))]
  ·rw [SN (Ss _ (by omega))];exact S6 _ h0
 ·generalize hA:(n % 2147483647+40503) * 69621 % 2147483629=A;generalize hB:(A * A+7817) % 2147483587=B;generalize hC:(B * 48271+11) % 2147483629=C;have a0:0<=A:=by rw [<- hA];exact Ss _ (by decide)
  have a1:A < 2147483629:=by rw [<- hA];exact S6 _ (by decide)
  refine ⟨.int (C / 32 % c),h.set i (.lst [.int C,.int f]),?_,⟨_,_,rfl⟩,(C / 32 % c).toNat,?_,?_⟩
  ·have t1:aN (aq oEq (aq dY (ab 0) (aj (.int 1))) (aj (.int 1))) [some (.ref i),some (.int c),none,none,none] h=.ok false h:=b0 (aB (i1 _ _ _ _) rfl (by rw [xl];simp [hf]));have t2:bF 4 (aq oMod (aq kG (aq dJ (aq oMod (aq dY (ab 0) (aj (.int 0))) (aj (.int 2147483647))) (aj (.int 40503))) (aj (.int 69621))) (aj (.int 2147483629))) [some (.ref i),some (.int c),none,none,none] h=.ok (.nx [some (.ref i),some (.int c),none,none,some (.int A)]) h:=by rw [<- hA];exact (qX (aB (aB (aB (aB (i0 _ _ _ _) rfl (oW (by decide) h)) rfl (tP h)) rfl (tO (by decide) (by decide) h)) rfl (oW (by decide) h))).trans rfl
   have t3:bF 4 (aq oMod (aq dJ (aq kG (ab 4) (ab 4)) (aj (.int 7817))) (aj (.int 2147483587))) [some (.ref i),some (.int c),none,none,some (.int A)] h=.ok (.nx [some (.ref i),some (.int c),none,none,some (.int B)]) h:=by rw [<- hB];exact (qX (aB (aB (aB rfl rfl (tO a0 (by omega) h)) rfl (tP h)) rfl (oW (by decide) h))).trans rfl
   have t4:nQ (xx (ab 0) (aj (.int 0))) (aq oMod (aq dJ (aq kG (ab 4) (aj (.int 48271))) (aj (.int 11))) (aj (.int 2147483629))) [some (.ref i),some (.int c),none,none,some (.int B)] h=.ok (.nx [some (.ref i),some (.int c),none,none,some (.int B)]) (h.set i (.lst [.int C,.int f])):=by
    have q:aq oMod (aq dJ (aq kG (ab 4) (aj (.int 48271))) (aj (.int 11))) (aj (.int 2147483629)) [some (.ref i),some (.int c),none,none,some (.int B)] h=.ok (.int C) h:=by rw [<- hC];exact aB (aB (aB rfl rfl (tO (by decide) (by decide) h)) rfl (tP h)) rfl (oW (by decide) h)
    simp only [nQ,q,R.ak,st]
   have g:(h.set i (.lst [.int C,.int f]))[i]?=some (.lst [.int C,.int f]):=by rw [Q0 hl]
   have t5:aq oMod (aq uU (aq dY (ab 0) (aj (.int 0))) (aj (.int 32))) (ab 1) [some (.ref i),some (.int c),none,none,some (.int B)] (h.set i (.lst [.int C,.int f]))=.ok (.int (C / 32 % c)) (h.set i (.lst [.int C,.int f])):=by
    have q:aq dY (ab 0) (aj (.int 0)) [some (.ref i),some (.int c),none,none,some (.int B)] (h.set i (.lst [.int C,.int f]))=.ok (.int C) (h.set i (.lst [.int C,.int f])):=by simp only [aq,ab,aj,R.ak,Rh,dY,jq,wc,g,mf,tZ];rfl
    exact aB (aB q rfl (Ft (by decide) (by decide) _)) rfl (oW h0 _)
   unfold aK kM bA;simp only [Qf,QJ,QB,Qn,RM,Sf,Rb,show 5 - 2=3 from rfl,rep3];rw [lX ((Iz t1).trans rfl),lX t2,lX t3,lX t4,xf t5];rfl
  ·rw [SN (Ss _ (by omega))]
  ·rw [SN (Ss _ (by omega))];exact S6 _ h0
theorem KR (z:Int) {h:Hm} (w:Wf h):∃ n f:Int,hV [.int z] h=.ok (.ref h.length) (h++[.lst [.int n,.int f]])/\Px h.length (h++[.lst [.int n,.int f]]):=by
 obtain ⟨n,hn⟩:∃ n:Int,Cn [.int z,.int (0 - z)] h=.ok (.int n) h:=by unfold Cn;exact ⟨_,rfl⟩
 refine ⟨n,if 10 ^ 18<=n then 1 else 0,?_,⟨⟨n,if 10 ^ 18<=n then 1 else 0,by simp⟩,w.push rfl⟩⟩;unfold hV sC bA;simp only [Qf,QJ,QB,Qn,RM,Sf,Rb,show 2 - 1=1 from rfl,rep1];have t1:bF 1 (af Cn (aa (ab 0) (aa (aq wa (aj (.int 0)) (ab 0)) (ah)))) [some (.int z),none] h=.ok (.nx [some (.int z),some (.int n)]) h:=(qX ((bN (aF rfl (aF rfl rfl))).trans hn)).trans rfl;rw [lX t1];have t2:∀ b:Bool,DR [.bool b] h=.ok (.int (if b then 1 else 0)) h:=λb=>rfl;have t3:af DR (aa (aq LX (ab 1) (aj (.int (10 ^ 18)))) (ah)) [some (.int z),some (.int n)] h=.ok (.int (if 10 ^ 18<=n then 1 else 0)) h:=by refine (bN (aF (aB rfl rfl rfl) rfl)).trans ?_;rw [t2];simp
 refine (RV (λr=>R.bind r rJ) (xf (m:=v9 _) ((bN (aF rfl (aF t3 rfl))).trans rfl))).trans rfl
def tQ:Uq:=[.str "a",.str "aa",.str "ab",.str "abcdef",.str "b",.str "c",.str "d",.str "e",.str "m",.str "x",.str "zz",.str "zzzzzz"]
theorem BM:∀ d∈tQ,Am d:=Qc.mp (show tQ.all isName=true by decide +kernel)
theorem HF:tQ.Nodup:=lB mQ (Ff mQ BM (by decide +kernel))
abbrev Fv:ME:=oq o9 (ab 3) (af aK (aa (ab 1) (aa (af fc (aa (ab 3) (ah))) (ah))))
theorem HG {i k L:Nat} {m:Int} {he h3:Hm} {left:Uq} {x:D} (hL:he.length=L) (l3:h3.length=L) (hk:k < left.length) (h12:left.length<=12)
  (e2:aK [.ref i,.int (left.length:Int)] (he++[.lst (left.map D.dat)])=.ok (.int k) (h3++[.lst (left.map D.dat)])) :
  Fv [some x,some (.ref i),some (.int m),some (.ref L)] (he++[.lst (left.map D.dat)])=.ok (.dat left[k]) (h3++[.lst ((left.eraseIdx k).map D.dat)]):=by
 have g1:(he++[MO.lst (left.map D.dat)])[L]?=some (.lst (left.map D.dat)):=by subst hL;simp
 have g2:(h3++[MO.lst (left.map D.dat)])[L]?=some (.lst (left.map D.dat)):=by subst l3;simp
 have bl:fc [.ref L] (he++[.lst (left.map D.dat)])=.ok (.int (left.length:Int)) (he++[.lst (left.map D.dat)]):=by simp [fc,g1]
 have il:Kf (.ref L) (he++[.lst (left.map D.dat)])=true:=by simp [Kf,g1]
 have mp:o9 (.ref L) (.int (k:Int)) (h3++[.lst (left.map D.dat)])=.ok (.dat left[k]) (h3++[.lst ((left.eraseIdx k).map D.dat)]):=by
  have c:(0:Int)<=k/\(k:Int) < (left.map D.dat).length/\(k:Int) < 1000000:=by simp;omega
  have st:(h3++[MO.lst (left.map D.dat)]).set L (.lst ((left.map D.dat).eraseIdx k))=h3++[.lst ((left.eraseIdx k).map D.dat)]:=by subst l3;rw [Ts _ _ (PY _)];simp [Tc]
  simp only [o9,g2,if_pos c,Q8,QY,P9 hk,TR,st]
 unfold Fv;simp only [oq,af,aa,ah,ab,R.ak,Rh,RG,il,QB,bl,e2,mp]
theorem IC {i L:Nat} {m:Int}:∀ {xs:List D} {left:Uq} {he:Hm},Px i he->he.length=L->xs.length<=left.length->left.length<=12 ->
  ∃ (he':Hm) (out left':Uq),dZ 1 [some (.ref i),some (.int m),some (.ref L)] (av 0) cJ Fv xs (he++[.lst (left.map D.dat)])=.ok (out.map D.dat) (he'++[.lst (left'.map D.dat)])/\Ps i he he'/\out.length=xs.length/\(out++left').Perm left
 | [],left,he,b,_,_,_=>⟨he,[],left,rfl,b.refl,rfl,List.Perm.refl _⟩
 | x::xs,left,he,b,hL,hl,h12=>by
  simp only [Qf] at hl;have bp:Px i (he++[.lst (left.map D.dat)]):=b.push (nH _ _);obtain ⟨_,h2,e2,s2,k,rfl,hk⟩:=lZ bp (c:=(left.length:Int)) (by omega) (by omega);obtain ⟨h3,rfl,s3⟩:=s2.pop b.lt;have b3:=s3.px b;have l3:h3.length=L:=by rw [s3.len,hL]
  have hk':k < left.length:=by omega
  have ll:=SE hk';obtain ⟨he',out,left',q1,q2,q3,q4⟩:=IC (i:=i) (L:=L) (m:=m) (xs:=xs) (left:=left.eraseIdx k) (he:=h3) b3 l3 (by omega) (by omega);have ep:=HG (x:=x) (m:=m) hL l3 hk' h12 e2;refine ⟨he',left[k]::out,left',?_,s3.trans q2,by simp [q3],?_⟩
  ·exact Ao (by rfl) (by rfl) ep q1
  ·exact (List.Perm.cons _ q4).trans (Stt.fx hk')
theorem Fw {i:Nat} {h:Hm} (b:Px i h) {m:Nat} (hm:m<=11):Dp i h (jR [.ref i,.int (m:Int)] h) λd=>∃ ns:Uq,d=.dat (.tuple ns)/\Nr ns/\ns.length<=m:=by
 have b1:Px i (h++[.lst (tQ.map D.dat)]):=b.push (nH _ _);obtain ⟨_,h2',e2,s2',c,rfl,hc⟩:=lZ b1 (c:=(m:Int)+1) (by omega) (by omega);obtain ⟨h2,rfl,s2⟩:=s2'.pop b.lt;have b2:=s2.px b;have ln:(nums 0 c).length=c:=by simp [nums]
 obtain ⟨h3,out,left,q1,q2,q3,q4⟩:=IC (i:=i) (L:=h.length) (m:=(m:Int)) (xs:=nums 0 c) (left:=tQ) (he:=h2) b2 s2.len (by rw [ln];simp [tQ];omega) (by decide);have on:out.length=c:=by rw [q3,ln]
 have onm:∀ d∈out,Am d:=λd m=>BM d (q4.mem_iff.mp (QA _ m));have ond:out.Nodup:=(R6.mp (q4.nodup_iff.mpr HF)).1;have rw0:Rw Am (cQ ltB out):=BE mQ onm ond;have so:fg out=true:=mQ.OJ onm (by omega);have nl:(cQ ltB out).length=c:=by rw [(bR _ _).length_eq,on]
 have rn:Nr (cQ ltB out):=⟨rw0,by omega⟩
 have ra:mD 1 (kF (aa (af aK (aa (ab 0) (aa (aq dJ (ab 1) (aj (.int 1))) (ah)))) (ah))) (av 0) (cJ) Fv [some (.ref i),some (.int (m:Int)),some (.ref h.length)] (h++[.lst (tQ.map D.dat)])=.ok (out.map D.dat) (h3++[.lst (left.map D.dat)]):=by
  have e1:aa (af aK (aa (ab 0) (aa (aq dJ (ab 1) (aj (.int 1))) (ah)))) (ah) [some (.ref i),some (.int (m:Int)),some (.ref h.length)] (h++[.lst (tQ.map D.dat)])=.ok [.dat (.int (c:Int))] (h2++[.lst (tQ.map D.dat)]):=
   aF (aH (aF rfl (aF (aB rfl rfl rfl) rfl)) e2) rfl
  unfold mD;rw [yP e1 (by omega)];simp only [R.ak];rw [if_pos (by rw [ln];exact sz (by omega))];exact q1
 have m1:=(bN (f:=fO) ra).trans (dW out _ (by omega));have m2:lJ [.dat (.list out)] (h3++[.lst (left.map D.dat)])=.ok (.dat (.list (cQ ltB out))) (h3++[.lst (left.map D.dat)]):=by simp [lJ,listOf,so]
 have t1:bF 2 (v9 (aa (aj (.str "a")) (aa (aj (.str "aa")) (aa (aj (.str "ab")) (aa (aj (.str "abcdef")) (aa (aj (.str "b")) (aa (aj (.str "c")) (aa (aj (.str "d")) (aa (aj (.str "e")) (aa (aj (.str "m")) (aa (aj (.str "x")) (aa (aj (.str "zz")) (aa (aj (.str "zzzzzz")) (ah)))))))))))))) [some (.ref i),some (.int (m:Int)),none] h=.ok (.nx [some (.ref i),some (.int (m:Int)),some (.ref h.length)]) (h++[.lst (tQ.map D.dat)]):=rfl;have m3:af lJ (aa (cf 1 (kF (aa (af aK (aa (ab 0) (aa (aq dJ (ab 1) (aj (.int 1))) (ah)))) (ah))) (av 0) (cJ) Fv) (ah)) [some (.ref i),some (.int (m:Int)),some (.ref h.length)] (h++[.lst (tQ.map D.dat)])=.ok (.dat (.list (cQ ltB out))) (h3++[.lst (left.map D.dat)]):=aH (aF m1 rfl) m2;have m4:fe [.dat (.list (cQ ltB out))] (h3++[.lst (left.map D.dat)])=.ok (.dat (.tuple (cQ ltB out))) (h3++[.lst (left.map D.dat)]):=rfl;have run:jQ [.ref i,.int (m:Int)] h=.ok (.dat (.tuple (cQ ltB out))) (h3++[.lst (left.map D.dat)]):=by unfold jQ oy;exact iU rfl (aT t1 (fL (aH (aF m3 rfl) m4)))
 exact ⟨_,h3,yZ b run (s2.trans q2),s2.trans q2,cQ ltB out,rfl,rn,by omega⟩
theorem Fx {i:Nat} {h:Hm} (b:Px i h) {ns:Uq} {s:Int} {one:PyData} (hz:ns.length<=16777216) {ρ:Fm} (e2:∀ h,aL (ab 2) ρ h=.ok (ns.map D.dat) h) (e0:ρ[0]?=some (some (.ref i))) (e3:ρ[3]?=some (some (.int s))) (e5:ρ[5]?=some (some (.dat one))) :
  Dp i h (cf 1 (aL (ab 2)) (av 0) (aN (aq oLt (af aK (aa (ab 1) (aa (aj (.int 8)) (ah)))) (ab 4))) (bV (aa (ab 6) (aa (ab 0) (ah)))) ρ h) λd=>∃ ls:Uq,d=.dat (.list (ls.map λy=>.tuple [one,y]))/\ls.Sublist ns:=by
 unfold cf
 obtain ⟨ys,zs,h',q1,q2,q3,q4⟩:=j4 (n:=1) (ρ:=ρ) (g:=av 0) (t:=aN (aq oLt (af aK (aa (ab 1) (aa (aj (.int 8)) (ah)))) (ab 4))) (e:=bV (aa (ab 6) (aa (ab 0) (ah)))) (Ps i h) (λx y=>∃ d,x=.dat d/\y=.dat (.tuple [one,d])) (xs:=ns.map D.dat) (h:=h) (λx hx h1 s1=>by
  obtain ⟨d,hd,rfl⟩:=Qp.mp hx;obtain ⟨_,h2,e2,s2,k,rfl,hk⟩:=lZ (s1.px b) (c:=8) (by decide) (by decide);refine ⟨some (.dat d)::ρ,h1,decide ((k:Int) < s),h2,rfl,?_,?_⟩
  ·simp [e0,e2,e3,qW]
  ·cases hc:decide ((k:Int) < s) with
   | false=>exact .inl ⟨rfl,s1.trans s2⟩
   | true=>exact .inr ⟨rfl,.dat (.tuple [one,d]),h2,by simp [e5],⟨d,rfl,rfl⟩,s1.trans s2⟩) b.refl
 obtain ⟨ls,rfl,sl⟩:=BC q3;rw [tM q4] at q1;have ea:mD 1 (aL (ab 2)) (av 0) (aN (aq oLt (af aK (aa (ab 1) (aa (aj (.int 8)) (ah)))) (ab 4))) (bV (aa (ab 6) (aa (ab 0) (ah)))) ρ h=.ok ((ls.map λy=>PyData.tuple [one,y]).map D.dat) h':=by unfold mD;rw [e2];simp only [R.ak,Qa,sz hz,QB];exact q1
 refine ⟨.dat (.list (ls.map λy=>.tuple [one,y])),h',?_,q2,ls,rfl,sl⟩;rw [bN ea];exact dW _ h' (by rw [Qa];exact P6 sl.length_le hz)
abbrev Fy:MS:=bF 4 (aq dJ (ab 4) (cf 1 (aL (ab 2)) (av 0) (aN (aq oLt (af aK (aa (ab 1) (aa (aj (.int 8)) (ah)))) (ab 4))) (bV (aa (ab 6) (aa (ab 0) (ah))))))
theorem Fz {i:Nat} {ns:Uq} {s m:Int} (r:Nr ns):∀ {xs pre acc:Uq} {h:Hm},ns=pre++xs->Px i h->Pw pre ns acc->∀ a5:Option D,Dp i h (bP (av 5) Fy (xs.map D.dat) [some (.ref i),some (.int m),some (.dat (.tuple ns)),some (.int s),some (.dat (.list acc)),a5] h) λf=>∃ (acc':Uq) (b5:Option D),f=.nx [some (.ref i),some (.int m),some (.dat (.tuple ns)),some (.int s),some (.dat (.list acc')),b5]/\Pw ns ns acc'
 | [],pre,acc,h,e,b,P,a5=>by
  have e':ns=pre:=by simpa using e
  exact Dp.ok b ⟨acc,a5,rfl,by rw [<- e'] at P;exact P⟩
 | x::xs,pre,acc,h,e,b,P,a5=>by
  have l12:=r.le;obtain ⟨_,h2,e2,s2,ls,rfl,sl⟩:=Fx (h:=h) b (ns:=ns) (s:=s) (one:=x) (ρ:=[some (.ref i),some (.int m),some (.dat (.tuple ns)),some (.int s),some (.dat (.list acc)),some (.dat x)]) (by omega) (λh=>dD rfl) rfl rfl rfl;have P2:=P.step r.toRw e sl;obtain ⟨f,h3,e3,s3,k⟩:=Fz (s:=s) (m:=m) r (xs:=xs) (pre:=pre++[x]) (acc:=acc++ls.map λy=>.tuple [x,y]) (by simp [e]) (s2.px b) P2 (some (.dat x));refine ⟨f,h3,?_,s2.trans s3,k⟩
  have lp:acc.length+(ls.map λy=>PyData.tuple [x,y]).length<=16777216:=by
   have l1:=P2.len;have l3:(pre++[x]).length<=12:=by have:(pre++x::xs).length<=12:=e▸l12;simp only [Qd,Qf,QJ] at this ⊢;omega
   have l4:(pre++[x]).length * ns.length<=12 * 12:=Ru l3 l12;simp only [Qd] at l1 l4 ⊢;omega
  have eb:Fy [some (.ref i),some (.int m),some (.dat (.tuple ns)),some (.int s),some (.dat (.list acc)),some (.dat x)] h=.ok (.nx [some (.ref i),some (.int m),some (.dat (.tuple ns)),some (.int s),some (.dat (.list (acc++ls.map λy=>.tuple [x,y]))),some (.dat x)]) h2:=
   bU (aB (x:=.dat (.list acc)) rfl e2 (ig h2 lp))
  simp only [Qn,bP,av,R.aZ,R.ak,QU,QP];rw [eb];simp only [R.aZ,R.ak];exact e3
theorem FA {i:Nat} {h:Hm} (b:Px i h) {m:Nat} (hm:m<=11):Dp i h (jS [.ref i,.int (m:Int)] h) λd=>∃ (ns:Uq) (r:Rel),d=.dat (br ns r)/\Nr ns/\ns.length<=m:=by
 obtain ⟨_,h2,e2,s2,ns,rfl,rn,nl⟩:=Fw b hm;have b2:=s2.px b;obtain ⟨_,h4,e4,s4,u,rfl,hu⟩:=lZ b2 (c:=4) (by decide) (by decide);obtain ⟨sh,esh⟩:∃ s:Int,mf [PyData.int 1,.int 2,.int 3,.int 5] (u:Int)=some (.int s):=by obtain ⟨x,ex,mx⟩:=BB (xs:=[PyData.int 1,.int 2,.int 3,.int 5]) (k:=u) (by simp;omega);simp only [PZ,Qo,Rc] at mx;rcases mx with rfl | rfl | rfl | rfl<;>exact ⟨_,ex⟩
 obtain ⟨_,h5,e5,s5,ss,b5,rfl,P⟩:=Fz (i:=i) (s:=sh) (m:=(m:Int)) rn (xs:=ns) (pre:=[]) (acc:=[]) rfl (s4.px b2) ⟨.nil,by simp,by simp⟩ none
 have w:Wb (ns.length * ns.length) ns ss:=by
  refine ⟨rn,⟨λp m=>?_,P.ris⟩,λx y m=>?_,P.len⟩
  ·obtain ⟨x,y,rfl,hx,hy⟩:=P.mem p m;exact ⟨x,y,rn.sub x hx,rn.sub y hy,rfl⟩
  ·obtain ⟨x',y',e,hx,hy⟩:=P.mem _ m;simp only [Sk,Sr,and_true] at e;obtain ⟨rfl,rfl⟩:=e;exact ⟨hx,hy⟩
 refine ⟨.dat (.tuple [.tuple ns,.tuple ss]),h5,?_,(s2.trans s4).trans s5,ns,gC ss,by rw [br,<- qZ w],rn,nl⟩;have i1:aq dY (aj (.list [.int 1,.int 2,.int 3,.int 5])) (af aK (aa (ab 0) (aa (aj (.int 4)) (ah)))) [some (.ref i),some (.int (m:Int)),none,none,none,none] h2=.ok (.int sh) h4:=aB rfl (aH (xs:=[.ref i,.int 4]) rfl e4) (by simp only [dY,jq,wc,esh])
 exact iU rfl (aT (Aq (x:=.dat (.tuple [.tuple ns,.int sh,.list []])) ((bN (f:=kD) (aF (aH (xs:=[.ref i,.int (m:Int)]) rfl e2) (aF i1 (aF (x:=.dat (.list [])) rfl rfl)))).trans (Ky _ _ _ _)) rfl)
  (aT (fK (dD (ds:=ns) rfl) e5) (fL (cP (a:=.tuple ns) (b:=.tuple ss) rfl (aH (xs:=[.dat (.list ss)]) rfl rfl)))))
theorem qF:∀ {ls:Uq} {ys:List D},PySem.Paired (λx y=>∃ d,x=.dat d/\y=.dat (.tuple [d,d])) (ls.map D.dat) ys->ys=(ls.map λy=>PyData.tuple [y,y]).map D.dat
 | [],ys,h=>by cases h;rfl
 | l::ls,ys,h=>by
  cases h with
  | cons a b=>obtain ⟨d,e,rfl⟩:=a;cases e;rw [qF b];rfl
theorem CT {i:Nat} {h:Hm} (b:Px i h) {ns:Uq} {r:Rel} (Rn:Nr ns) (nl:ns.length<=7):Dp i h (eN [.ref i,.dat (br ns r)] h) λd=>∃ q:Rel,d=.dat (br ns q):=by
 obtain ⟨ys,zs,h',q1,q2,q3,q4⟩:=j4 (n:=1) (ρ:=[some (.ref i),some (.dat (br ns r)),none]) (g:=av 0) (t:=aN (aq oEq (af aK (aa (ab 1) (aa (aj (.int 2)) (ah)))) (aj (.int 0)))) (e:=bV (aa (ab 0) (aa (ab 0) (ah)))) (Ps i h) (λx y=>∃ d,x=.dat d/\y=.dat (.tuple [d,d])) (xs:=ns.map D.dat) (h:=h) (λx hx h1 s1=>by
  obtain ⟨d,hd,rfl⟩:=Qp.mp hx;obtain ⟨_,h2,e2,s2,k,rfl,hk⟩:=lZ (s1.px b) (c:=2) (by decide) (by decide);refine ⟨[some (.dat d),some (.ref i),some (.dat (br ns r)),none],h1,decide ((k:Int)=0),h2,rfl,b0 (aB (aH (xs:=[.ref i,.int 2]) rfl e2) rfl (xl h2)),?_⟩
  cases hc:decide ((k:Int)=0) with
  | false=>exact .inl ⟨rfl,s1.trans s2⟩
  | true=>exact .inr ⟨rfl,.dat (.tuple [d,d]),h2,cP rfl rfl,⟨d,rfl,rfl⟩,s1.trans s2⟩) b.refl
 obtain ⟨ls,rfl,sl⟩:=BC q3;rw [qF q4] at q1;have ll:=sl.length_le;have lr:(rows ns r).length<=49:=P6 gB (Ru nl nl);have lm:(ls.map λy=>PyData.tuple [y,y]).length=ls.length:=Qa ..;have ea:cf 1 (aL (aq dY (ab 1) (aj (.int 0)))) (av 0) (aN (aq oEq (af aK (aa (ab 1) (aa (aj (.int 2)) (ah)))) (aj (.int 0)))) (bV (aa (ab 0) (aa (ab 0) (ah)))) [some (.ref i),some (.dat (br ns r)),none] h=.ok (.dat (.list (ls.map λy=>.tuple [y,y]))) h':=by unfold cf;refine aH (xs:=(ls.map λy=>PyData.tuple [y,y]).map D.dat) (h1:=h') ?_ (dW _ h' (by omega));unfold mD;rw [dD (ds:=ns) rfl];simp only [R.ak,Qa,sz (show ns.length<=16777216 by omega),QB];exact q1
 have sub2:∀ d∈ls.map (λy=>PyData.tuple [y,y]),∃ a,d=.tuple [a,a]/\a∈ns:=λd m=>by obtain ⟨a,ha,rfl⟩:=Qp.mp m;exact ⟨a,rfl,sl.subset ha⟩
 have in2:∀ d∈ls.map (λy=>PyData.tuple [y,y]),Fc d:=λd m=>by obtain ⟨a,rfl,ha⟩:=sub2 d m;exact ⟨a,a,Rn.sub a ha,Rn.sub a ha,rfl⟩
 obtain ⟨u1,u2,u3⟩:=IB df (aW (r:=r) Rn).sub in2
 have w:Wb 100 ns (un (rows ns r) (ls.map λy=>.tuple [y,y])):=⟨Rn,u1,λx y m=>by
  rcases (u2 _).mp m with z | z
  ·exact ⟨(bC.mp z).1,(bC.mp z).2.1⟩
  ·obtain ⟨a,e,ha⟩:=sub2 _ z;simp only [Sk,Sr,and_true] at e;obtain ⟨rfl,rfl⟩:=e
   exact ⟨ha,ha⟩,by omega⟩
 have so:=CM df (aW (r:=r) Rn).sub in2 (by omega) h';refine ⟨.dat (.tuple [.tuple ns,.tuple (un (rows ns r) (ls.map λy=>.tuple [y,y]))]),h',?_,q2,gC _,by rw [br,<- qZ w]⟩;have bl:rM [.dat (.tuple (rows ns r))] h'=.ok (.dat (.list (rows ns r))) h':=rfl;exact iU rfl (aT (bU ea) (fL (cP (a:=.tuple ns) rfl (aH (aF (aH (aF (aB (aH (xs:=[.dat (.tuple (rows ns r))]) rfl bl) (y:=.dat (.list (ls.map λy=>.tuple [y,y]))) rfl (ig h' (by omega))) rfl) so) rfl) rfl))))
noncomputable def gM:Uq:=[.tuple [.tuple [],.tuple []],.tuple [.tuple [.str "a"],.tuple [.tuple [.str "a",.str "a"]]],.tuple [.tuple [.str "a",.str "b"],.tuple [.tuple [.str "a",.str "b"],.tuple [.str "b",.str "a"]]],
 .tuple [.tuple [.str "a",.str "b",.str "c"],.tuple [.tuple [.str "a",.str "b"],.tuple [.str "b",.str "c"],.tuple [.str "c",.str "a"]]],.tuple [.tuple [.str "a",.str "b",.str "c",.str "d"],.tuple [.tuple [.str "a",.str "b"],.tuple [.str "b",.str "c"],.tuple [.str "c",.str "d"],.tuple [.str "d",.str "a"]]]]
theorem xm {xs:Uq} (h:xs.all isName=true):∀ d∈xs,Am d:=Qc.mp h
theorem KU {ns ss:Uq} (h1:∀ d∈ns,Am d) (hl:ns.length<=12) (h2:nG ns=true) (h3:∀ d∈ss,∃ a b,d=.tuple [a,b]/\a∈ns/\b∈ns) (h4:nG ss=true):Nr ns/\∃ r,PyData.tuple [.tuple ns,.tuple ss]=br ns r:=by
 have rn:Nr ns:=⟨Ff mQ h1 h2,hl⟩;have sp:∀ d∈ss,Fc d:=λd m=>by obtain ⟨a,b,rfl,ha,hb⟩:=h3 d m;exact ⟨a,b,h1 a ha,h1 b hb,rfl⟩
 have w:Wb ss.length ns ss:=⟨rn,Ff df sp h4,λa b m=>by
  obtain ⟨x,y,e,hx,hy⟩:=h3 _ m;simp only [Sk,Sr,and_true] at e;obtain ⟨rfl,rfl⟩:=e
  exact ⟨hx,hy⟩,PY _⟩
 exact ⟨rn,gC ss,by rw [br,<- qZ w]⟩
theorem FC {d:PyData} (h:d∈gM):∃ (ns:Uq) (r:Rel),d=br ns r/\Nr ns/\ns.length<=4:=by
 have:∃ ns ss:Uq,d=.tuple [.tuple ns,.tuple ss]/\ns.length<=4/\(∀ d∈ns,Am d)/\nG ns=true/\(∀ d∈ss,∃ a b,d=.tuple [a,b]/\a∈ns/\b∈ns)/\nG ss=true:=by
  simp only [gM,PZ,Qo,Rc] at h;rcases h with rfl | rfl | rfl | rfl | rfl
  ·exact ⟨_,_,rfl,by decide,by simp,by decide +kernel,by simp,by decide +kernel⟩
  ·exact ⟨_,_,rfl,by decide,xm (by decide +kernel),by decide +kernel,by simp,by decide +kernel⟩
  ·exact ⟨_,_,rfl,by decide,xm (by decide +kernel),by decide +kernel,(λd m=>by simp only [PZ,Qo,Rc] at m;rcases m with rfl | rfl<;>exact ⟨_,_,rfl,by simp,by simp⟩),by decide +kernel⟩
  ·exact ⟨_,_,rfl,by decide,xm (by decide +kernel),by decide +kernel,(λd m=>by simp only [PZ,Qo,Rc] at m;rcases m with rfl | rfl | rfl<;>exact ⟨_,_,rfl,by simp,by simp⟩),by decide +kernel⟩
  ·exact ⟨_,_,rfl,by decide,xm (by decide +kernel),by decide +kernel,(λd m=>by simp only [PZ,Qo,Rc] at m;rcases m with rfl | rfl | rfl | rfl<;>exact ⟨_,_,rfl,by simp,by simp⟩),by decide +kernel⟩
 obtain ⟨ns,ss,rfl,l,h1,h2,h3,h4⟩:=this;obtain ⟨rn,r,e⟩:=KU h1 (by omega) h2 h3 h4;exact ⟨ns,r,e,rn,l⟩
theorem xn {i:Nat} {h:Hm} (b:Px i h) {m:Nat} (hm:m<=11):Dp i h (dP [.ref i,.int (m:Int)] h) λd=>∃ (n1 n2 n3:Uq) (r1 r2 r3:Rel),d=.dat (.list [br n1 r1,br n2 r2,br n3 r3])/\Nr n1/\Nr n2/\Nr n3/\n1.length<=m/\n2.length<=m/\n3.length<=4:=by
 have b1:Px i (h++[.lst (gM.map D.dat)]):=b.push (nH _ _);obtain ⟨_,h2,e2,s2,n1,r1,rfl,rn1,l1⟩:=FA b1 hm;have b2:=s2.px b1;obtain ⟨_,h3,e3,s3,n2,r2,rfl,rn2,l2⟩:=FA b2 hm;have b3:=s3.px b2;obtain ⟨_,h4,e4,s4,u,rfl,hu⟩:=lZ b3 (c:=5) (by decide) (by decide);have sa:=(s2.trans s3).trans s4;obtain ⟨h5,rfl,s5⟩:=sa.pop b.lt;obtain ⟨x,ex,mx⟩:=BB (xs:=gM) (k:=u) (by simp [gM];omega);obtain ⟨n3,r3,rfl,rn3,l3⟩:=FC mx;have l5:=s5.len;have gi:(h5++[MO.lst (gM.map D.dat)])[h.length]?=some (.lst (gM.map D.dat)):=by rw [<- l5];simp
 have t1:bF 2 (v9 (aa (aj (.tuple [.tuple [],.tuple []])) (aa (aj (.tuple [.tuple [.str "a"],.tuple [.tuple [.str "a",.str "a"]]])) (aa (aj (.tuple [.tuple [.str "a",.str "b"],.tuple [.tuple [.str "a",.str "b"],.tuple [.str "b",.str "a"]]])) (ah))))) [some (.ref i),some (.int (m:Int)),none] h=.ok (.nx [some (.ref i),some (.int (m:Int)),some (.ref h.length)]) (h++[.lst ((gM.take 3).map D.dat)]):=rfl
 have ap:∀ (k:Nat) (d:PyData),k < 5->oq gf (ab 2) (aj d) [some (.ref i),some (.int (m:Int)),some (.ref h.length)] (h++[.lst ((gM.take k).map D.dat)])=.ok D.none (h++[.lst ((gM.take k++[d]).map D.dat)]):=λk d hk=>by
  have g:(h++[MO.lst ((gM.take k).map D.dat)])[h.length]?=some (.lst ((gM.take k).map D.dat)):=by simp
  have c:decide (((gM.take k).map D.dat).length < 16777216)=true:=Qj (by rw [Qa,SI];omega);simp only [oq,ab,RG,Rh,R.ak,Kf,g,QB,aj,gf,c];rw [Ts _ _ (PY _)];simp
 have ix:aq dY (ab 2) (af aK (aa (ab 0) (aa (aj (.int 5)) (ah)))) [some (.ref i),some (.int (m:Int)),some (.ref h.length)] h3=.ok (.dat (br n3 r3)) (h5++[.lst (gM.map D.dat)]):=by
  refine aB (x:=.ref h.length) rfl (aH (xs:=[.ref i,.int 5]) rfl e4) ?_;have am:mf (gM.map D.dat) (u:Int)=some (.dat (br n3 r3)):=by rw [qR,ex];rfl
  simp only [dY,jq,gi,wc,am]
 have run:fU [.ref i,.int (m:Int)] h=.ok (.dat (.list [br n1 r1,br n2 r2,br n3 r3])) (h5++[.lst (gM.map D.dat)]):=by unfold fU jx;refine iU rfl (aT t1 (aT (oU (ap 3 _ (by decide))) (aT (oU (ap 4 _ (by decide))) (fL ?_))));exact (bN (f:=fO) (aF (aH (xs:=[.ref i,.int (m:Int)]) rfl e2) (aF (aH (xs:=[.ref i,.int (m:Int)]) rfl e3) (aF ix rfl)))).trans (Ac _ _ _ _)
 exact ⟨_,h5,yZ b run s5,s5,n1,n2,n3,r1,r2,r3,rfl,rn1,rn2,rn3,l1,l2,l3⟩
section
variable {ns:Uq} {r q:Rel} {a b x y:PyData} {kd:Kd}
theorem FD {xs:Uq} (t:ao xs=true) (h:Hm):oEq (.dat (.list xs)) (.dat (.list [])) h=.ok (.bool (decide (xs=[]))) h:=by
 cases xs with
 | nil=>simp [oEq,pV,eqQ,noDict,PyData.hasDict,PyData.hasDictAll,PyData.depth,PyData.depthAll,PyData.eqv,PyData.eqvAll]
 | cons x xs=>have:=ff t;simp only [PyData.hasDictAll,TH] at this;simp [oEq,pV,eqQ,noDict,PyData.hasDict,this,PyData.hasDictAll,PyData.depth,PyData.depthAll,PyData.eqv,PyData.eqvAll]
theorem CU {xs ys:Uq} (tx:ao xs=true) (ty:ao ys=true) (dy:∀ e∈ys,e.depth<=40) (hl:xs.length<=1000) (hs:∀ d∈xs,d∈ys) (h:Hm):eM [.dat (.tuple xs),.dat (.tuple ys)] h=.ok (.bool true) h:=by
 have key:=jz (n:=1) (it:=aL (ab 0)) (g:=av 0) (t:=aN (aq ui (ab 0) (ab 2))) (e:=ab 0) (ρ:=[some (.dat (.tuple xs)),some (.dat (.tuple ys))]) (h:=h) (h1:=h) (ds:=xs) (dD rfl) (by omega) (λ_=>false) id (λd hd=>⟨_,rfl,b0 (aB rfl rfl (by rw [yW (aM tx hd) ty dy h,Qj (hs d hd)];rfl)),λz=>by cases z⟩);have f0:xs.filter (λ_=>false)=[]:=by simp
 rw [f0] at key;have e0:=FD (xs:=[]) (by simp [ao]) h;rw [Qj (rfl:([]:Uq)=[])] at e0;exact iU rfl (fL (aB key (y:=.dat (.list [])) rfl e0))
end
theorem FE {ns zs:Uq} {r:Rel} (Rn:Nr ns) (s:zs.Sublist (rows ns r)):zs=rows ns (gC zs):=
 qZ (k:=zs.length) ⟨Rn,⟨λd m=>(aW Rn).sub d (s.subset m),(aW Rn).ris.sublist s⟩,λa b m=>⟨(bC.mp (s.subset m)).1,(bC.mp (s.subset m)).2.1⟩,PY _⟩
theorem FF {g:MG} {b:MS} {ds:Uq} {h:Hm} (I:Fm->Prop) (H:∀ d∈ds,∀ ρ,I ρ->∃ ρ1 ρ2,g (.dat d) ρ h=.ok ρ1 h/\b ρ1 h=.ok (.nx ρ2) h/\I ρ2) {ρ:Fm} (i:I ρ):∃ ρ',bP g b (ds.map D.dat) ρ h=.ok (.nx ρ') h/\I ρ':=by
 induction ds generalizing ρ with
 | nil=>exact ⟨ρ,rfl,i⟩
 | cons d ds ih=>obtain ⟨ρ1,ρ2,e1,e2,i2⟩:=H d (by simp) ρ i;obtain ⟨ρ',e3,i3⟩:=ih (λx m=>H x (by simp [m])) i2;refine ⟨ρ',?_,i3⟩;simp only [Qn];unfold bP;rw [e1];simp only [R.aZ,R.ak];rw [e2];simp only [R.aZ,R.ak];exact e3
def Ng:Uq:=[.str "stable",.str "standing",.str "preferred",.str "whole",.str "grounded"]
theorem KW {d:PyData} (h:d∈Ng):∃ kd:Kd,d=.str kd.nm:=by
 simp only [Ng,PZ,Qo,Rc] at h;rcases h with rfl | rfl | rfl | rfl | rfl
 ·exact ⟨.stable,rfl⟩
 ·exact ⟨.standing,rfl⟩
 ·exact ⟨.preferred,rfl⟩
 ·exact ⟨.whole,rfl⟩
 ·exact ⟨.grounded,rfl⟩
section
variable {ns:Uq} {r q:Rel} {a b x y:PyData} {kd:Kd}
theorem vI (Rn:Nr ns) (kd:Kd) (ha:a∈ns) (hb:b∈ns) (h:Hm):bZ [.dat (br ns r),.dat (.str kd.nm),.dat a,.dat b] h=.ok (.bool (ji kd r a b)) h:=by
 have ix:∀ ρ:Fm,ρ[0]?=some (some (.dat (br ns r)))->aq dY (ab 0) (aj (.int 1)) ρ h=.ok (.dat (.tuple (rows ns r))) h:=λρ e=>aB (x:=.dat (br ns r)) (by simp [ab,e]) (y:=.int 1) rfl rfl
 have p1:DM [4,5,6] (aa (aq oX (bV (aa (ab 2) (aa (ab 2) (ah)))) (aq dY (ab 0) (aj (.int 1)))) (aa (aq oX (bV (aa (ab 3) (aa (ab 3) (ah)))) (aq dY (ab 0) (aj (.int 1)))) (aa (aq oX (bV (aa (ab 3) (aa (ab 2) (ah)))) (aq dY (ab 0) (aj (.int 1)))) (ah)))) [some (.dat (br ns r)),some (.dat (.str kd.nm)),some (.dat a),some (.dat b),none,none,none] h =
   .ok (.nx [some (.dat (br ns r)),some (.dat (.str kd.nm)),some (.dat a),some (.dat b),some (.bool (r a a)),some (.bool (r b b)),some (.bool (r b a))]) h:=by
  unfold DM;rw [aF (aB (cP rfl rfl) (ix _ rfl) (xg Rn ha ha h)) (aF (aB (cP rfl rfl) (ix _ rfl) (xg Rn hb hb h)) (aF (aB (cP rfl rfl) (ix _ rfl) (xg Rn hb ha h)) rfl))];rfl
 refine iU rfl (aT p1 (fL ?_));unfold ji;cases kd<;>cases r a a<;>cases r b b<;>cases r b a<;>kernel_rfl
abbrev Fk (ns:Uq) (r:Rel) (kd:Kd) (L:Nat) (x y:Option D):Fm:=[some (.dat (br ns r)),some (.dat (.str kd.nm)),some (.ref L),x,y]
abbrev hK (h:Hm) (acc:Uq):Hm:=h++[.lst (acc.map D.dat)]
abbrev Av:MS:=mZ (tW (aN (aq oEq (ab 3) (ab 4))) (iW (cn (af bZ (aa (ab 0) (aa (ab 1) (aa (ab 3) (aa (ab 4) (ah))))))))) (mC (oq gf (ab 2) (bV (aa (ab 3) (aa (ab 4) (ah)))))) (cW)
theorem xo (Rn:Nr ns) {h:Hm}:∀ {xs acc:Uq},(∀ p∈xs,p∈rows ns r)->acc.length+xs.length<=1000->∀ a3 a4:Option D,∃ b3 b4,bP (jF (cx (av 3) (cx (av 4) (jE)))) Av (xs.map D.dat) (Fk ns r kd h.length a3 a4) (hK h acc)=.ok (.nx (Fk ns r kd h.length b3 b4)) (hK h (acc++xs.filter (Ar kd r)))
 | [],acc,_,_,a3,a4=>⟨a3,a4,by simp [bP]⟩
 | p::xs,acc,hs,hl,a3,a4=>by
  obtain ⟨a,b,rfl,ha,hb,_⟩:=bT.mp (hs p (by simp));simp only [Qf] at hl;have e1:aN (aq oEq (ab 3) (ab 4)) (Fk ns r kd h.length (some (.dat a)) (some (.dat b))) (hK h acc)=.ok (decide (a=b)) (hK h acc):=b0 (aB rfl rfl (BK (cU Rn ha) (cU Rn hb) (xi Rn ha) _));have e2:iW (cn (af bZ (aa (ab 0) (aa (ab 1) (aa (ab 3) (aa (ab 4) (ah))))))) (Fk ns r kd h.length (some (.dat a)) (some (.dat b))) (hK h acc)=.ok (!ji kd r a b) (hK h acc):=xc (oV (aH (xs:=[.dat (br ns r),.dat (.str kd.nm),.dat a,.dat b]) rfl (vI Rn kd ha hb _)));have e3:=Fp e1 e2;have kc:Ar kd r (.tuple [a,b])=(decide (a=b) || !ji kd r a b):=rfl;rw [<- kc] at e3
  cases z:Ar kd r (.tuple [a,b]) with
  | false=>rw [z] at e3;obtain ⟨b3,b4,ih⟩:=xo Rn (h:=h) (xs:=xs) (acc:=acc) (λq m=>hs q (by simp [m])) (by omega) (some (.dat a)) (some (.dat b));refine ⟨b3,b4,?_⟩;have st:Av (Fk ns r kd h.length (some (.dat a)) (some (.dat b))) (hK h acc)=.ok (.nx (Fk ns r kd h.length (some (.dat a)) (some (.dat b)))) (hK h acc):=CO e3 rfl;simp only [Qn,bP,jF,RM,cx,av,jE,R.ak,R.aZ,QU,QP];rw [st];simp only [R.aZ,R.ak,Rj,z,P8,QK];exact ih
  | true=>
   rw [z] at e3;obtain ⟨b3,b4,ih⟩:=xo Rn (h:=h) (xs:=xs) (acc:=acc++[.tuple [a,b]]) (λq m=>hs q (by simp [m])) (by simp;omega) (some (.dat a)) (some (.dat b));refine ⟨b3,b4,?_⟩
   have ap:oq gf (ab 2) (bV (aa (ab 3) (aa (ab 4) (ah)))) (Fk ns r kd h.length (some (.dat a)) (some (.dat b))) (hK h acc)=.ok D.none (hK h (acc++[PyData.tuple [a,b]])):=by
    have g:(h++[MO.lst (acc.map D.dat)])[h.length]?=some (.lst (acc.map D.dat)):=by simp
    have c:decide ((acc.map D.dat).length < 16777216)=true:=Qj (by rw [Qa];omega);have t:bV (aa (ab 3) (aa (ab 4) (ah))) (Fk ns r kd h.length (some (.dat a)) (some (.dat b))) (hK h acc)=.ok (.dat (.tuple [a,b])) (hK h acc):=cP rfl rfl;simp only [oq,ab,RG,Rh,R.ak,Kf,g,QB];rw [t];simp only [R.ak,gf,g,c,QB];rw [Ts _ _ (PY _)];simp
   have st:Av (Fk ns r kd h.length (some (.dat a)) (some (.dat b))) (hK h acc)=.ok (.nx (Fk ns r kd h.length (some (.dat a)) (some (.dat b)))) (hK h (acc++[PyData.tuple [a,b]])):=KO e3 (oU ap);simp only [Qn,bP,jF,RM,cx,av,jE,R.ak,R.aZ,QU,QP];rw [st];simp only [R.aZ,R.ak,Rj,z,QB];rw [ih];simp
theorem FG {f:Fn} {xs:List D} {h t:Hm} {x:PyData} (w:Wf h) (e:f xs h=.ok (.dat x) (h++t)):gq f xs h=.ok (.dat x) h:=by
 unfold gq;rw [e];have:(h.all (MO.below h.length))=true:=Qc.mpr λo m=>w o m;have e1:(h++t).take h.length=h:=by rw [List.take_left'];rfl
 simp [e1,D.below,this]
theorem tR (Rn:Nr ns) (kd:Kd) {h:Hm} (w:Wf h):bH [.dat (br ns r),.dat (.str kd.nm)] h=.ok (.dat (br ns (dh kd r))) h:=by
 have l:=lY (r:=r) (Rn.le);obtain ⟨b3,b4,lp⟩:=xo (r:=r) Rn (kd:=kd) (h:=h) (xs:=rows ns r) (acc:=[]) (λ_ m=>m) (by simp;omega) none none;have fl:(rows ns r).filter (Ar kd r)=rows ns (dh kd r):=qC Rn (λa b=>decide (a=b) || !ji kd r a b) λa _ b _=>rfl;rw [Rb,fl] at lp;have l2:=lY (r:=dh kd r) (Rn.le);have g:(h++[MO.lst ((rows ns (dh kd r)).map D.dat)])[h.length]?=some (.lst ((rows ns (dh kd r)).map D.dat)):=by simp
 have bt:fe [.ref h.length] (h++[.lst ((rows ns (dh kd r)).map D.dat)])=.ok (.dat (.tuple (rows ns (dh kd r)))) (h++[.lst ((rows ns (dh kd r)).map D.dat)]):=by simp only [fe,listOf,g,lF]
 refine FG (t:=[.lst ((rows ns (dh kd r)).map D.dat)]) w ?_;exact iU rfl (aT (bU (x:=.ref h.length) (h1:=h++[MO.lst (List.map D.dat [])]) rfl) (aT (fK (dD (aB (x:=.dat (br ns r)) rfl (y:=.int 1) rfl rfl)) lp) (fL (cP (a:=.tuple ns) (aB (x:=.dat (br ns r)) rfl (y:=.int 0) rfl rfl) (aH (xs:=[.ref h.length]) rfl bt)))))
end
section
variable {ns:Uq} {r q:Rel} {a b x y:PyData} {kd:Kd}
theorem CV {U:PyData->Prop} {xs ys:Uq} (u:tL U) (r:∀ d∈xs,U d) (q:∀ d∈ys,U d) (l:xs.length+ys.length<=120) (l2:(un xs ys).length < 64) (h:Hm):eL [.dat (.list (xs++ys))] h=.ok (.dat (.list (un xs ys))) h:=by
 obtain ⟨h1,h2,h3⟩:=Fg u r q;have l3:(C0 xs ys).length < 64:=by unfold un at l2;rw [(bR _ _).length_eq] at l2;exact l2
 have s2:setOk (xs++ys)=true:=u.set (λd m=>(Qg.mp m).elim (r d) (q d)) (by simp;omega);have s3:fg (fq (xs++ys))=true:=u.OJ (xs:=C0 xs ys) (λd m=>((h1 d).mp m).elim (r d) (q d)) l3;simp only [eL,u7,listOf,s2,s3,Se,QB,un,C0]
theorem HH (Rn:Nr ns):un (rows ns r) (rows ns q)=rows ns λa b=>r a b || q a b:=by
 obtain ⟨u1,u2,u3⟩:=IB df (aW (r:=r) Rn).sub (aW (r:=q) Rn).sub;refine yQ df u1 (aW Rn) λp=>?_;rw [u2,bT,bT,bT];constructor
 ·rintro (⟨a,b,rfl,ha,hb,h⟩ | ⟨a,b,rfl,ha,hb,h⟩)
  ·exact ⟨a,b,rfl,ha,hb,by simp [h]⟩
  ·exact ⟨a,b,rfl,ha,hb,by simp [h]⟩
 ·rintro ⟨a,b,rfl,ha,hb,h⟩;simp only [Ry] at h;exact h.elim (λh=>.inl ⟨a,b,rfl,ha,hb,h⟩) λh=>.inr ⟨a,b,rfl,ha,hb,h⟩
def C1 (kd:Kd) (r:Rel):Rel:=λa b=>!decide (a=b) && ji kd r a b
theorem KY:rows ns (λa b=>r a b || C1 kd r a b)=rows ns (ij kd r):=tN λa ha b hb=>by
 unfold ij C1;rw [(fM (ns:=ns)).ji ha hb];unfold dh;by_cases z:a=b
 ·simp [z]
 ·cases r a b<;>cases ji kd r a b<;>simp [z]
abbrev Aw:MS:=bF 2 (aq dJ (ab 2) (cf 1 (aL (aq dY (ab 0) (aj (.int 0)))) (av 0) (rf (aN (aq m6 (ab 4) (ab 0))) (cn (af bZ (aa (ab 1) (aa (ab 2) (aa (ab 4) (aa (ab 0) (ah)))))))) (bV (aa (ab 4) (aa (ab 0) (ah))))))
theorem BN (Rn:Nr ns) {h:Hm}:∀ {xs acc:Uq},(∀ p∈xs,p∈ns)->acc.length+xs.length * 12<=1000->∀ a3:Option D,∃ b3,bP (av 3) Aw (xs.map D.dat) [some (.dat (br ns r)),some (.dat (.str kd.nm)),some (.dat (.list acc)),a3] h=.ok (.nx [some (.dat (br ns r)),some (.dat (.str kd.nm)),some (.dat (.list (acc++xs.flatMap λa=>(ns.filter (C1 kd r a)).map λb=>PyData.tuple [a,b]))),b3]) h
 | [],acc,_,_,a3=>⟨a3,by simp [bP]⟩
 | a::xs,acc,hs,hl,a3=>by
  have ha:=hs a (by simp);have ln:=Rn.le;simp only [Qf] at hl
  have key:=jz (n:=1) (it:=aL (aq dY (ab 0) (aj (.int 0)))) (g:=av 0) (t:=rf (aN (aq m6 (ab 4) (ab 0))) (cn (af bZ (aa (ab 1) (aa (ab 2) (aa (ab 4) (aa (ab 0) (ah)))))))) (e:=bV (aa (ab 4) (aa (ab 0) (ah))))
   (ρ:=[some (.dat (br ns r)),some (.dat (.str kd.nm)),some (.dat (.list acc)),some (.dat a)]) (h:=h) (h1:=h) (ds:=ns) (dD (aB (x:=.dat (br ns r)) rfl (y:=.int 0) rfl rfl)) (by omega) (C1 kd r a) (λb=>.tuple [a,b]) (λb hb=>⟨_,rfl,
    BJ (b0 (aB rfl rfl (yU (cU Rn ha) (cU Rn hb) (by have:=xi Rn ha;omega) h))) (oV (aH (xs:=[.dat (br ns r),.dat (.str kd.nm),.dat a,.dat b]) rfl (vI Rn kd ha hb h))),λ_=>cP rfl rfl⟩)
  have lf:((ns.filter (C1 kd r a)).map λb=>PyData.tuple [a,b]).length<=12:=by rw [Qa];exact P6 (RB _ _) ln
  obtain ⟨b3,ih⟩:=BN Rn (h:=h) (xs:=xs) (acc:=acc++(ns.filter (C1 kd r a)).map λb=>PyData.tuple [a,b]) (λq m=>hs q (by simp [m])) (by rw [Qd];omega) (some (.dat a));refine ⟨b3,?_⟩;have st:Aw [some (.dat (br ns r)),some (.dat (.str kd.nm)),some (.dat (.list acc)),some (.dat a)] h=.ok (.nx [some (.dat (br ns r)),some (.dat (.str kd.nm)),some (.dat (.list (acc++(ns.filter (C1 kd r a)).map λb=>PyData.tuple [a,b]))),some (.dat a)]) h:=bU (aB rfl key (ig h (by omega)));simp only [Qn,bP,av,R.aZ,R.ak,QU,QP];rw [st];simp only [R.aZ,R.ak];rw [ih];simp
theorem y0 (Rn:Nr ns) (nl:ns.length<=7) (kd:Kd) (h:Hm):fw [.dat (br ns r),.dat (.str kd.nm)] h=.ok (.dat (br ns (ij kd r))) h:=by
 obtain ⟨b3,lp⟩:=BN (r:=r) (kd:=kd) Rn (h:=h) (xs:=ns) (acc:=[]) (λ_ m=>m) (by simp;omega) none;have lr:∀ r:Rel,(rows ns r).length<=49:=λr=>P6 gB (Ru nl nl);have lr1:=lr r;have lr2:=lr (C1 kd r);have e:=HH (r:=r) (q:=C1 kd r) Rn;rw [KY] at e;have so:=CV df (aW (r:=r) Rn).sub (aW (r:=C1 kd r) Rn).sub (by omega) (by rw [e];have:=lr (ij kd r);omega) h;rw [e] at so;have lp':bP (av 3) Aw (ns.map D.dat) [some (.dat (br ns r)),some (.dat (.str kd.nm)),some (.dat (.list [])),none] h=.ok (.nx [some (.dat (br ns r)),some (.dat (.str kd.nm)),some (.dat (.list (rows ns (C1 kd r)))),b3]) h:=lp
 exact iU rfl (aT (bU (x:=.dat (.list [])) rfl) (aT (fK (dD (aB (x:=.dat (br ns r)) rfl (y:=.int 0) rfl rfl)) lp') (fL (cP (a:=.tuple ns) (aB (x:=.dat (br ns r)) rfl (y:=.int 0) rfl rfl)
  (aH (aF (aH (aF (aB (aH (xs:=[.dat (.tuple (rows ns r))]) (aF (aB (x:=.dat (br ns r)) rfl (y:=.int 1) rfl rfl) rfl) (d:=.dat (.list (rows ns r))) rfl) (y:=.dat (.list (rows ns (C1 kd r)))) rfl (ig h (by omega))) rfl) so) rfl) rfl)))))
end
def bO (ps:Uq):List (Uq):=ps.foldl (λgot p=>got++got.map (·++[p])) [[]]
theorem j8 (ps:Uq) (p:PyData):bO (ps++[p])=bO ps++(bO ps).map (·++[p]):=by simp [bO,List.foldl_append]
theorem xp {P:Uq->Prop} (h0:P []) (h1:∀ ps p,P ps->P (ps++[p])):∀ ps,P ps:=λps=>by
 rw [<- List.reverse_reverse ps]
 induction ps.reverse with
 | nil=>exact h0
 | cons p ps ih=>rw [List.reverse_cons];exact h1 _ _ ih
theorem me:∀ ps:Uq,∀ zs∈bO ps,zs.Sublist ps:=xp (λzs m=>by simp [bO] at m;subst m;exact List.Sublist.slnil) λps p ih zs m=>by
 rw [j8] at m;rcases Qg.mp m with m | m
 ·exact (ih zs m).trans (List.sublist_append_left _ _)
 ·obtain ⟨z,hz,rfl⟩:=Qp.mp m;exact (ih z hz).append (List.Sublist.refl _)
theorem pS:∀ ps:Uq,(bO ps).length=2 ^ ps.length:=xp rfl λps p ih=>by rw [j8,Qd,Qa,ih,Qd];simp [T4];omega
def zb (must may:PyData->Bool) (ps zs:Uq):Bool:=ps.all λp=>(!must p || decide (p∈zs)) && (!decide (p∈zs) || may p)
theorem KZ {ps:Uq} {f g:PyData->Bool} (h:∀ x∈ps,f x=g x):ps.all f=ps.all g:=by
 induction ps with
 | nil=>rfl
 | cons p ps ih=>rw [TJ,TJ,h p (by simp),ih λx m=>h x (by simp [m])]
theorem y6 {must may:PyData->Bool} {ps zs:Uq} {p:PyData} (hp:p∉ps) (hz:p∉zs):zb must may (ps++[p]) zs=(zb must may ps zs && !must p)/\zb must may (ps++[p]) (zs++[p])=(zb must may ps zs && may p):=by
 unfold zb;constructor
 ·simp [List.all_append,hz]
 ·rw [List.all_append];congr 1
  ·refine KZ λx m=>?_;have ne:x≠p:=λe=>by subst e;exact hp m
   simp [ne]
  ·simp
theorem Ax {must may:PyData->Bool} (hm:∀ p,must p=true->may p=true):∀ ps:Uq,ps.Nodup->((bO ps).filter (zb must may ps)).length=2 ^ (ps.filter λp=>may p && !must p).length:=xp (λ_=>by simp [bO,zb]) λps p ih nd=>by
 have hp:p∉ps:=λm=>(R6.mp nd).2.2 p m p (by simp) rfl;have ih:=ih (R6.mp nd).1;have hz:∀ zs∈bO ps,p∉zs:=λzs m q=>hp ((me ps zs m).subset q);rw [j8,List.filter_append,Qd,TY,Qa];have e1:(bO ps).filter (zb must may (ps++[p]))=(bO ps).filter (λzs=>zb must may ps zs && !must p):=Te λzs m=>(y6 hp (hz zs m)).1;have e2:(bO ps).filter (zb must may (ps++[p])∘λx=>x++[p])=(bO ps).filter (λzs=>zb must may ps zs && may p):=Te λzs m=>(y6 hp (hz zs m)).2;rw [e1,e2,List.filter_append,Qd];have f0:∀ l:List (Uq),l.filter (λzs=>zb must may ps zs && false)=[]:=λl=>by simp
 have f1:∀ l:List (Uq),l.filter (λzs=>zb must may ps zs && true)=l.filter (zb must may ps):=λl=>by simp
 cases a:must p with
 | true=>rw [hm p a,Rt,f0,f1,ih];simp [a]
 | false=>
  cases c:may p with
  | true=>rw [RT,f1,ih];simp [a,c,T4];omega
  | false=>rw [RT,f0,f1,ih];simp [a,c]
abbrev FH:MS:=bF 1 (aq dJ (ab 1) (cf 1 (aL (ab 1)) (av 0) (cJ) (aq dJ (ab 0) (bV (aa (ab 3) (ah))))))
theorem BO {a0:Option D} {h:Hm}:∀ {qs ps:Uq},ps.length+qs.length<=12->∀ a2:Option D,∃ b2,bP (av 2) FH (qs.map D.dat) [a0,some (.dat (.list ((bO ps).map .tuple))),a2] h=.ok (.nx [a0,some (.dat (.list ((bO (ps++qs)).map .tuple))),b2]) h
 | [],ps,_,a2=>⟨a2,by simp [bP]⟩
 | q::qs,ps,hl,a2=>by
  simp only [Qf] at hl;obtain ⟨b2,ih⟩:=BO (a0:=a0) (h:=h) (qs:=qs) (ps:=ps++[q]) (by simp;omega) (some (.dat q));refine ⟨b2,?_⟩;have ll:(bO ps).length<=4096:=by rw [pS];exact RZ (by decide) (show ps.length<=12 by omega)
  have key:=f7 (n:=1) (it:=aL (ab 1)) (g:=av 0) (e:=aq dJ (ab 0) (bV (aa (ab 3) (ah)))) (ρ:=[a0,some (.dat (.list ((bO ps).map .tuple))),some (.dat q)]) (h:=h) (h1:=h) (ds:=(bO ps).map .tuple) (iT rfl) (by rw [Qa];omega) (λd=>match d with | .tuple zs=>.tuple (zs++[q]) | d=>d) (λd hd=>by
   obtain ⟨zs,hz,rfl⟩:=Qp.mp hd;have lz:=(me ps zs hz).length_le
   exact ⟨_,rfl,aB (x:=.dat (.tuple zs)) rfl ((bN (f:=kD) (aF (x:=.dat q) rfl rfl)).trans (Kw _ h)) (Fb h (by simp;omega))⟩)
  have em:((bO ps).map PyData.tuple).map (λd=>match d with | .tuple zs=>PyData.tuple (zs++[q]) | d=>d)=((bO ps).map (·++[q])).map .tuple:=by simp
  rw [em] at key;have st:FH [a0,some (.dat (.list ((bO ps).map .tuple))),some (.dat q)] h=.ok (.nx [a0,some (.dat (.list ((bO (ps++[q])).map .tuple))),some (.dat q)]) h:=by rw [j8,List.map_append];exact bU (aB (x:=.dat (.list ((bO ps).map .tuple))) rfl key (ig h (by simp;omega)))
  simp only [Qn,bP,av,R.aZ,R.ak,QU,QP];rw [st];simp only [R.aZ,R.ak];rw [ih];simp
theorem HI {ps:Uq} (hl:ps.length<=12) (h:Hm):iH [.dat (.list ps)] h=.ok (.dat (.list ((bO ps).map .tuple))) h:=by obtain ⟨b2,lp⟩:=BO (a0:=some (.dat (.list ps))) (h:=h) (qs:=ps) (ps:=[]) (by simp;omega) none;exact iU rfl (aT (bU (x:=.dat (.list [.tuple []])) rfl) (aT (fK (iT rfl) lp) (fL rfl)))
abbrev allR:Rel:=λ_ _=>true
theorem FI {ns:Uq}:(ns.flatMap λa=>ns.map λb=>PyData.tuple [a,b])=rows ns allR:=by have e:∀ a,ns.filter (allR a)=ns:=λa=>List.filter_eq_self.mpr λ_ _=>rfl;simp only [rows,e]
theorem FJ {i:Nat} {g:MG} {b:MS} (I:Fm->Prop):∀ {ds:Uq} {h:Hm} {ρ:Fm},Px i h->(∀ d∈ds,∀ ρ h,Px i h->I ρ->∃ ρ1 ρ2 h2,g (.dat d) ρ h=.ok ρ1 h/\b ρ1 h=.ok (.nx ρ2) h2/\Ps i h h2/\I ρ2)->I ρ->∃ ρ' h',bP g b (ds.map D.dat) ρ h=.ok (.nx ρ') h'/\Ps i h h'/\I ρ'
 | [],h,ρ,p,_,a=>⟨ρ,h,rfl,p.refl,a⟩
 | d::ds,h,ρ,p,H,a=>by obtain ⟨ρ1,ρ2,h2,e1,e2,s2,a2⟩:=H d (by simp) ρ h p a;obtain ⟨ρ',h',e3,s3,a3⟩:=FJ (i:=i) (g:=g) (b:=b) I (ds:=ds) (s2.px p) (λx m=>H x (by simp [m])) a2;refine ⟨ρ',h',?_,s2.trans s3,a3⟩;simp only [Qn];unfold bP;rw [e1];simp only [R.aZ,R.ak];rw [e2];simp only [R.aZ,R.ak];exact e3
theorem FK (ns:List Int) (hi:Int) {ρ:Fm} (e0:ρ[0]?=some (some (.scr ns))) (hn:ns.length<=63) (h:Hm):∃ ds:Uq,aL (aq dJ (qJ (aa (af eW (aa (ab 0) (aa (aj (.int 0)) (ah)))) (ah))) (EJ (ab 0) (mE (aj (.int 1))) (mE (aj (.int hi))))) ρ h=.ok (ds.map D.dat) h/\∀ d∈ds,∃ z:Int,d=.int z:=by
 obtain ⟨z,ez⟩:=Hy ns 0 h;have ev:ab 0 ρ h=.ok (.scr ns) h:=by simp [ab,e0]
 have l1:qJ (aa (af eW (aa (ab 0) (aa (aj (.int 0)) (ah)))) (ah)) ρ h=.ok (.dat (.list [.int z])) h:=(bN (f:=fO) (aF (aH (aF ev (aF (x:=.int 0) rfl rfl)) ez) rfl)).trans (Kz _ h);have l2:EJ (ab 0) (mE (aj (.int 1))) (mE (aj (.int hi))) ρ h=.ok (.dat (.list (cut (ns.map PyData.int) (some 1) (some hi)))) h:=by unfold EJ;rw [ev];rfl
 have lc:(cut (ns.map PyData.int) (some 1) (some hi)).length<=63:=by unfold cut;rw [SI,Tt,Qa];omega
 refine ⟨.int z::cut (ns.map PyData.int) (some 1) (some hi),iT (aB l1 l2 (ig h (by simp;omega))),λd m=>?_⟩;rcases PZ.mp m with rfl | m
 ·exact ⟨z,rfl⟩
 ·obtain ⟨k,_,rfl⟩:=Qp.mp (Bd m);exact ⟨k,rfl⟩
theorem y7 {g:MG} {b:MS} (I:Fm->Prop) {ds:Uq} (hd:∀ d∈ds,∃ z:Int,d=.int z) (H:∀ (z:Int) ρ h,Wf h->I ρ->∃ ρ1 ρ2 h2,g (.int z) ρ h=.ok ρ1 h/\b ρ1 h=.ok (.nx ρ2) h2/\Wf h2/\I ρ2):∀ {h:Hm} {ρ:Fm},Wf h->I ρ->∃ ρ' h',bP g b (ds.map D.dat) ρ h=.ok (.nx ρ') h'/\I ρ':=by
 induction ds with
 | nil=>exact λ{h ρ} w a=>⟨ρ,h,rfl,a⟩
 | cons d ds ih=>intro h ρ w a;obtain ⟨z,rfl⟩:=hd d (by simp);obtain ⟨ρ1,ρ2,h2,e1,e2,w2,a2⟩:=H z ρ h w a;obtain ⟨ρ',h',e3,a3⟩:=ih (λx m=>hd x (by simp [m])) w2 a2;refine ⟨ρ',h',?_,a3⟩;simp only [Qn];unfold bP;rw [e1];simp only [R.aZ,R.ak];rw [e2];simp only [R.aZ,R.ak];exact e3
section
variable {ns:Uq} {r q:Rel} {a b:PyData} {kd:Kd}
abbrev FN:MS:=bF 1 (aq dJ (ab 1) (cf 1 (aL (ab 0)) (av 0) (cJ) (bV (aa (ab 3) (aa (ab 0) (ah))))))
theorem BP {h:Hm} (nl:ns.length<=12):∀ {xs acc:Uq},acc.length+xs.length * 12<=1000->∀ a2:Option D,∃ b2,bP (av 2) FN (xs.map D.dat) [some (.dat (.tuple ns)),some (.dat (.list acc)),a2] h=.ok (.nx [some (.dat (.tuple ns)),some (.dat (.list (acc++xs.flatMap λa=>ns.map λb=>PyData.tuple [a,b]))),b2]) h
 | [],acc,_,a2=>⟨a2,by simp [bP]⟩
 | x::xs,acc,hl,a2=>by simp only [Qf] at hl;have key:=f7 (n:=1) (it:=aL (ab 0)) (g:=av 0) (e:=bV (aa (ab 3) (aa (ab 0) (ah)))) (ρ:=[some (.dat (.tuple ns)),some (.dat (.list acc)),some (.dat x)]) (h:=h) (h1:=h) (ds:=ns) (dD rfl) (by omega) (λb=>.tuple [x,b]) (λb _=>⟨_,rfl,cP rfl rfl⟩);obtain ⟨b2,ih⟩:=BP (h:=h) nl (xs:=xs) (acc:=acc++ns.map λb=>PyData.tuple [x,b]) (by simp;omega) (some (.dat x));refine ⟨b2,?_⟩;have st:FN [some (.dat (.tuple ns)),some (.dat (.list acc)),some (.dat x)] h=.ok (.nx [some (.dat (.tuple ns)),some (.dat (.list (acc++ns.map λb=>PyData.tuple [x,b]))),some (.dat x)]) h:=bU (aB (x:=.dat (.list acc)) rfl key (ig h (by simp;omega)));simp only [Qn,bP,av,R.aZ,R.ak,QU,QP];rw [st];simp only [R.aZ,R.ak];rw [ih];simp
theorem y8 (nl:ns.length<=2) (h:Hm):cZ [.dat (.tuple ns)] h=.ok (.dat (.list ((bO (rows ns allR)).map λzs=>.tuple [.tuple ns,.tuple zs]))) h:=by
 obtain ⟨b2,lp⟩:=BP (ns:=ns) (h:=h) (by omega) (xs:=ns) (acc:=[]) (by simp;omega) none;rw [Rb,FI] at lp;have lr:(rows ns allR).length<=4:=P6 gB (Ru nl nl);have ll:(bO (rows ns allR)).length<=16:=by rw [pS];exact RZ (by decide) lr
 have key:=f7 (n:=1) (it:=aL (af iH (aa (ab 1) (ah)))) (g:=av 0) (e:=bV (aa (ab 1) (aa (af fe (aa (ab 0) (ah))) (ah)))) (ρ:=[some (.dat (.tuple ns)),some (.dat (.list (rows ns allR))),b2]) (h:=h) (h1:=h) (ds:=(bO (rows ns allR)).map .tuple) (iT (aH (xs:=[.dat (.list (rows ns allR))]) rfl (HI (by omega) h))) (by rw [Qa];omega) (λd=>.tuple [.tuple ns,d]) (λd hd=>by
  obtain ⟨zs,hz,rfl⟩:=Qp.mp hd
  exact ⟨_,rfl,cP (a:=.tuple ns) rfl (aH (xs:=[.dat (.tuple zs)]) rfl rfl)⟩)
 have em:((bO (rows ns allR)).map PyData.tuple).map (λd=>PyData.tuple [.tuple ns,d])=(bO (rows ns allR)).map λzs=>.tuple [.tuple ns,.tuple zs]:=by simp
 rw [em] at key;exact iU rfl (aT (bU (x:=.dat (.list [])) rfl) (aT (fK (dD rfl) lp) (fL key)))
theorem HJ (Rn:Nr ns) (hs:∀ a∈ns,∀ b∈ns,r a b=true->q a b=true):(rows ns q).length=(rows ns r).length+(gap ns r q).length:=by
 have e:(rows ns q).filter (λp=>decide (p∈rows ns r))=rows ns r:=by refine yQ df ⟨λd m=>(aW Rn).sub d (QH.mp m).1,(aW Rn).ris.filter _⟩ (aW Rn) λd=>?_;rw [QH,Sl];refine ⟨λh=>h.2,λm=>⟨?_,m⟩⟩;obtain ⟨a,b,rfl,ha,hb,h⟩:=bT.mp m;exact bC.mpr ⟨ha,hb,hs a ha b hb h⟩
 have pt:∀ (l:Uq) (f:PyData->Bool),l.length=(l.filter f).length+(l.filter λx=>!f x).length:=λl f=>by
  induction l with
  | nil=>rfl
  | cons x l ih=>cases hx:f x<;>simp [Rj,hx,ih]<;>omega
 have:=pt (rows ns q) (λp=>decide (p∈rows ns r));rw [e] at this;exact this
theorem BQ (ha:a∈ns) (hb:b∈ns) (h:dh kd r a b=true):ij kd r a b=true:=xk ha hb (BL h)
theorem FO (Rn:Nr ns) (nl:ns.length<=2):(((bO (rows ns allR)).map λzs=>PyData.tuple [.tuple ns,.tuple zs]).filter λw=>match w with | .tuple [_,.tuple zs]=>decide (br ns (dh kd (gC zs))=br ns (dh kd r)) | _=>false).length=2 ^ (gap ns (dh kd r) (ij kd r)).length:=by
 rw [TY,Qa];have nd:=lB df (aW (r:=allR) Rn)
 have ct:=Ax (must:=λp=>decide (p∈rows ns (dh kd r))) (may:=λp=>decide (p∈rows ns (ij kd r))) (λp h=>by
  obtain ⟨a,b,rfl,ha,hb,k⟩:=bT.mp (QS h)
  exact Qj (bC.mpr ⟨ha,hb,BQ ha hb k⟩)) (rows ns allR) nd
 have e1:(bO (rows ns allR)).filter ((λw=>match w with | .tuple [_,.tuple zs]=>decide (br ns (dh kd (gC zs))=br ns (dh kd r)) | _=>false)∘λzs=>PyData.tuple [.tuple ns,.tuple zs])=(bO (rows ns allR)).filter (zb (λp=>decide (p∈rows ns (dh kd r))) (λp=>decide (p∈rows ns (ij kd r))) (rows ns allR)):=Te λzs m=>by
  have sl:=me _ zs m;show decide (br ns (dh kd (gC zs))=br ns (dh kd r))=_;rw [Q3,Sl];unfold zb;rw [Qc];constructor
  ·intro e p hp
   have A:CQ ns kd r (gC zs):=λa ha b hb z=>by
    have h:∀ a∈ns,∀ b∈ns,dh kd (gC zs) a b=dh kd r a b:=λa ha b hb=>yR (by simpa [br] using e) ha hb;have i1:ji kd (gC zs) a b=ji kd r a b:=by rw [<- (fM (ns:=ns) (r:=gC zs) (kd:=kd)).ji ha hb,<- (fM (ns:=ns) (r:=r) (kd:=kd)).ji ha hb];unfold ji;rw [h a ha a ha,h b hb b hb,h b hb a ha]
    have k1:=fM (ns:=ns) (r:=r) (kd:=kd) a ha b hb z;have k2:=fM (ns:=ns) (r:=gC zs) (kd:=kd) a ha b hb (z.imp id λz=>by rw [i1];exact z);rw [<- k1,<- k2,h a ha b hb]
   obtain ⟨a,b,rfl,ha,hb,_⟩:=bT.mp hp;have f1:=A.ij ha hb;have f2:=A.dh ha hb;by_cases z:PyData.tuple [a,b]∈zs
   ·have:ij kd (gC zs) a b=true:=xk ha hb (Qj z);rw [f1] at this;simp [z,bC,ha,hb,this]
   ·have:dh kd r a b=false:=by
     cases k:dh kd r a b with
     | false=>rfl
     | true=>rw [k] at f2;exact absurd (QS (BL f2)) z
    simp [z,bC,ha,hb,this]
  ·intro al
   have A:CQ ns kd r (gC zs):=KQ (λa ha b hb k=>by
     have:=al (.tuple [a,b]) (bC.mpr ⟨ha,hb,rfl⟩);have m:PyData.tuple [a,b]∈rows ns (dh kd r):=bC.mpr ⟨ha,hb,k⟩;simp only [m,TV,Rt,Ug,PV] at this
     exact this.1) λa ha b hb k=>by
    have:=al (.tuple [a,b]) (bC.mpr ⟨ha,hb,rfl⟩);have m:PyData.tuple [a,b]∈zs:=QS k;simp only [m,TV,Rt,Ug,PV] at this;exact (bC.mp (QS this.2)).2.2
   simp only [br,A.Fs]
 rw [e1,ct];congr 2;refine yQ df ⟨λd m=>(aW Rn).sub d (QH.mp m).1,(aW Rn).ris.filter _⟩ ⟨λd m=>(aW Rn).sub d (QH.mp m).1,(aW Rn).ris.filter _⟩ λd=>?_;unfold gap;rw [QH,QH];simp only [PV,Qb,Sy,decide_eq_false_iff_not];constructor
 ·exact λh=>h.2
 ·intro h;refine ⟨?_,h⟩;obtain ⟨a,b,rfl,ha,hb,_⟩:=bT.mp h.1;exact bC.mpr ⟨ha,hb,rfl⟩
end
theorem Ay {ns:Uq} {r:Rel} (Rn:Nr ns) (nl:ns.length<=7):Ok 900 3 (br ns r):=by have o1:Ok 84 1 (.tuple ns):=(qY (r:=r) Rn (PY _)).MK;have lr:(rows ns r).length<=49:=P6 gB (Ru nl nl);have o2:Ok 740 2 (.tuple (rows ns r)):=((ku.of λd m=>(j7 ((aW Rn).sub d m)).2.2.2.2.2).mono (by omega) (PY _)).tup;exact ((ku.cons (o1.mono (PY _) (by decide)) (ku.one o2)).mono (by omega) (PY _)).tup
section
variable {ns:Uq} {r q:Rel} {kd:Kd}
theorem y9 {h:Hm} {a0 a1 a2 a3 a4 a5 a6 a7 a10 a11:Option D}:∀ {xs:List D} {n:Nat} (a9:Option D),∃ b9,bP (av 9) (bF 8 (aq kG (aj (.int 2)) (ab 8))) xs [a0,a1,a2,a3,a4,a5,a6,a7,some (.int ((2 ^ n:Nat):Int)),a9,a10,a11] h=.ok (.nx [a0,a1,a2,a3,a4,a5,a6,a7,some (.int ((2 ^ (n+xs.length):Nat):Int)),b9,a10,a11]) h
 | [],n,a9=>⟨a9,by simp [bP]⟩
 | x::xs,n,a9=>by
  obtain ⟨b9,ih⟩:=y9 (h:=h) (a0:=a0) (a1:=a1) (a2:=a2) (a3:=a3) (a4:=a4) (a5:=a5) (a6:=a6) (a7:=a7) (a10:=a10) (a11:=a11) (xs:=xs) (n:=n+1) (some x);refine ⟨b9,?_⟩
  have mo:kG (.int 2) (.int ((2 ^ n:Nat):Int)) h=.ok (.int ((2 ^ (n+1):Nat):Int)) h:=by
   have m2:uT 2 ((2 ^ n:Nat):Int)=true:=by unfold uT;rw [show decide (-(2 ^ 64) < (2:Int))=true by decide,show decide ((2:Int) < 2 ^ 64)=true by decide];rfl
   have e:2 * ((2 ^ n:Nat):Int)=((2 ^ (n+1):Nat):Int):=by rw [T4];omega
   simp only [kG,m2,QB,e]
  have st:bF 8 (aq kG (aj (.int 2)) (ab 8)) [a0,a1,a2,a3,a4,a5,a6,a7,some (.int ((2 ^ n:Nat):Int)),some x,a10,a11] h=.ok (.nx [a0,a1,a2,a3,a4,a5,a6,a7,some (.int ((2 ^ (n+1):Nat):Int)),some x,a10,a11]) h:=bU (aB rfl rfl mo);simp only [bP,av,R.aZ,R.ak,QU,QP];rw [st];simp only [R.aZ,R.ak,Qf];rw [ih,show n+1+xs.length=n+(xs.length+1) by omega]
abbrev ID (a0 a1 a2 a3:Option D) (ns:Uq) (r:Rel) (a5:Option D) (kd:Kd) (a7 a8 a9 a10 a11:Option D):Fm:=[a0,a1,a2,a3,some (.dat (br ns r)),a5,some (.dat (.str kd.nm)),a7,a8,a9,a10,a11]
abbrev HK:MS:=bg (bF 7 (af fw (aa (ab 4) (aa (ab 6) (ah)))))
  (bg (bF 8 (aj (.int 1)))
  (bg (kl (kF (aa (aq wa (af fc (aa (aq dY (ab 7) (aj (.int 1))) (ah))) (af fc (aa (aq dY (af bH (aa (ab 4) (aa (ab 6) (ah)))) (aj (.int 1))) (ah)))) (ah))) (av 9) (bF 8 (aq kG (aj (.int 2)) (ab 8))))
  (bg (mZ (aN (aq m6 (af gI (aa (qJ (aa (af dN (aa (ab 4) (aa (ab 6) (ah)))) (aa (af dN (aa (ab 4) (aa (ab 6) (ah)))) (aa (af hU (aa (ab 4) (aa (ab 6) (ah)))) (ah))))) (ah))) (af gI (aa (qJ (aa (ab 7) (aa (ab 7) (aa (ab 8) (ah))))) (ah))))) (cz (aj (.bool false))) (cW))
  (mZ (aN (aq oLt (af fc (aa (aq dY (ab 4) (aj (.int 0))) (ah))) (aj (.int 3)))) (bg (bF 10 (af bH (aa (ab 4) (aa (ab 6) (ah)))))
  (bg (bF 11 (cf 1 (aL (af cZ (aa (aq dY (ab 4) (aj (.int 0))) (ah)))) (av 0) (aN (aq oEq (af bH (aa (ab 0) (aa (ab 7) (ah)))) (ab 11))) (ab 0)))
  (mZ (tW (aN (aq m6 (af fc (aa (ab 11) (ah))) (ab 8))) (aN (aq m6 (cf 1 (aL (ab 11)) (av 0) (iW (cn (af eM (aa (aq dY (ab 0) (aj (.int 1))) (aa (aq dY (ab 8) (aj (.int 1))) (ah)))))) (ab 0)) (aj (.list []))))) (cz (aj (.bool false))) (cW)))) (cW)))))
theorem CW {i:Int} (h:Hm):m6 (.int i) (.int i) h=.ok (.bool false) h:=by simp [m6,pV,eqQ,noDict,PyData.hasDict,PyData.depth,PyData.eqv]
theorem K0 (Rn:Nr ns) (nl:ns.length<=6) {h:Hm} (w:Wf h) (a0 a1 a2 a3 a5 a7 a8 a9 a10 a11:Option D):∃ b7 b8 b9 b10 b11,HK (ID a0 a1 a2 a3 ns r a5 kd a7 a8 a9 a10 a11) h=.ok (.nx (ID a0 a1 a2 a3 ns r a5 kd b7 b8 b9 b10 b11)) h:=by
 have lf:=y0 (r:=r) Rn (by omega) kd h;have lk:=tR (r:=r) Rn kd w;have gl:=HJ (r:=dh kd r) (q:=ij kd r) Rn λa ha b hb k=>BQ ha hb k;generalize hg:(gap ns (dh kd r) (ij kd r)).length=G at gl;have lrf:(rows ns (ij kd r)).length<=36:=P6 gB (Ru nl nl);have mo:=HD (r:=r) Rn kd h;rw [hg] at mo;have ln:(nums 0 G).length=G:=by simp [nums]
 obtain ⟨b9,dl⟩:=y9 (h:=h) (a0:=a0) (a1:=a1) (a2:=a2) (a3:=a3) (a4:=some (.dat (br ns r))) (a5:=a5) (a6:=some (.dat (.str kd.nm))) (a7:=some (.dat (br ns (ij kd r)))) (a10:=a10) (a11:=a11) (xs:=nums 0 G) (n:=0) a9;rw [ln,Nat.zero_add] at dl;have it:kF (aa (aq wa (af fc (aa (aq dY (ab 7) (aj (.int 1))) (ah))) (af fc (aa (aq dY (af bH (aa (ab 4) (aa (ab 6) (ah)))) (aj (.int 1))) (ah)))) (ah)) (ID a0 a1 a2 a3 ns r a5 kd (some (.dat (br ns (ij kd r)))) (some (.int 1)) a9 a10 a11) h=.ok (nums 0 G) h:=by refine yP (aF (aB (aH (aF (aB (x:=.dat (br ns (ij kd r))) rfl (y:=.int 1) rfl rfl) rfl) (d:=.int ((rows ns (ij kd r)).length:Int)) rfl) (aH (aF (aB (aH (xs:=[.dat (br ns r),.dat (.str kd.nm)]) rfl lk) (y:=.int 1) rfl rfl) rfl) (d:=.int ((rows ns (dh kd r)).length:Int)) rfl) ?_) rfl) (by omega);simp only [wa];rw [show ((rows ns (ij kd r)).length:Int) - ((rows ns (dh kd r)).length:Int)=(G:Int) by omega]
 have g36:(2 ^ G:Nat)<=2 ^ 36:=RZ (by decide) (by omega)
 have oi:Ok 40 0 (.int ((2 ^ G:Nat):Int)):=by
  refine ⟨?_,by simp [PyData.depth],?_⟩
  ·simp only [jA,Qb,Int.natAbs_natCast];exact Nat.lt_of_le_of_lt g36 (by decide)
  ·simp [PyData.weight];split<;>omega
 have ok3:Ok 2000 4 (.list [br ns (ij kd r),br ns (ij kd r),.int ((2 ^ G:Nat):Int)]):=((ku.cons (Ay Rn (by omega)) (ku.cons (Ay Rn (by omega)) (ku.one (oi.mono (PY _) (by decide))))).mono (by omega) (PY _)).lst;have rp:=yO ok3 h (by decide) (by decide);have i1:mZ (aN (aq m6 (af gI (aa (qJ (aa (af dN (aa (ab 4) (aa (ab 6) (ah)))) (aa (af dN (aa (ab 4) (aa (ab 6) (ah)))) (aa (af hU (aa (ab 4) (aa (ab 6) (ah)))) (ah))))) (ah))) (af gI (aa (qJ (aa (ab 7) (aa (ab 7) (aa (ab 8) (ah))))) (ah))))) (cz (aj (.bool false))) (cW) (ID a0 a1 a2 a3 ns r a5 kd (some (.dat (br ns (ij kd r)))) (some (.int ((2 ^ G:Nat):Int))) b9 a10 a11) h=.ok (.nx (ID a0 a1 a2 a3 ns r a5 kd (some (.dat (br ns (ij kd r)))) (some (.int ((2 ^ G:Nat):Int))) b9 a10 a11)) h:=by refine CO (h1:=h) (b0 (aB (aH (aF ((bN (f:=fO) (aF (aH (xs:=[.dat (br ns r),.dat (.str kd.nm)]) rfl (nI Rn kd h)) (aF (aH (xs:=[.dat (br ns r),.dat (.str kd.nm)]) rfl (nI Rn kd h)) (aF (aH (xs:=[.dat (br ns r),.dat (.str kd.nm)]) rfl mo) rfl)))).trans (Ac _ _ _ _)) rfl) rp) (aH (aF ((bN (f:=fO) (aF (x:=.dat (br ns (ij kd r))) rfl (aF (x:=.dat (br ns (ij kd r))) rfl (aF (x:=.int ((2 ^ G:Nat):Int)) rfl rfl)))).trans (Ac _ _ _ _)) rfl) rp) (f:=m6) (by simp [m6]))) rfl
 have c3:aN (aq oLt (af fc (aa (aq dY (ab 4) (aj (.int 0))) (ah))) (aj (.int 3))) (ID a0 a1 a2 a3 ns r a5 kd (some (.dat (br ns (ij kd r)))) (some (.int ((2 ^ G:Nat):Int))) b9 a10 a11) h=.ok (decide ((ns.length:Int) < 3)) h:=b0 (aB (aH (aF (aB (x:=.dat (br ns r)) rfl (y:=.int 0) rfl rfl) rfl) (d:=.int (ns.length:Int)) rfl) (y:=.int 3) rfl (qW _ _ h));by_cases z:(ns.length:Int) < 3
 ·rw [Qj z] at c3;have l2:ns.length<=2:=by omega
  have lr4:(rows ns allR).length<=4:=P6 gB (Ru l2 l2);have ll:(bO (rows ns allR)).length<=16:=by rw [pS];exact RZ (by decide) lr4
  generalize hC:(λw:PyData=>match w with | .tuple [_,.tuple zs]=>decide (br ns (dh kd (gC zs))=br ns (dh kd r)) | _=>false)=C;have sl:(((bO (rows ns allR)).map λzs=>PyData.tuple [.tuple ns,.tuple zs]).filter C).length=2 ^ G:=by rw [<- hC,<- hg];exact FO Rn l2
  have each:∀ d∈(bO (rows ns allR)).map (λzs=>PyData.tuple [.tuple ns,.tuple zs]),∃ p:Rel,d=br ns p/\C d=decide (br ns (dh kd p)=br ns (dh kd r)):=λd hd=>by obtain ⟨zs,hz,rfl⟩:=Qp.mp hd;exact ⟨gC zs,by rw [br,<- FE Rn (me _ zs hz)],by rw [<- hC]⟩
  have key:=jz (n:=1) (it:=aL (af cZ (aa (aq dY (ab 4) (aj (.int 0))) (ah)))) (g:=av 0) (t:=aN (aq oEq (af bH (aa (ab 0) (aa (ab 7) (ah)))) (ab 11))) (e:=ab 0) (ρ:=ID a0 a1 a2 a3 ns r a5 kd (some (.dat (br ns (ij kd r)))) (some (.int ((2 ^ G:Nat):Int))) b9 (some (.dat (br ns (dh kd r)))) a11) (h:=h) (h1:=h) (ds:=(bO (rows ns allR)).map λzs=>.tuple [.tuple ns,.tuple zs]) (iT (aH (aF (aB (x:=.dat (br ns r)) rfl (y:=.int 0) rfl rfl) rfl) (y8 l2 h))) (by rw [Qa];omega) C id (λd hd=>by
   obtain ⟨p,rfl,ec⟩:=each d hd;refine ⟨_,rfl,?_,λ_=>rfl⟩;rw [ec]
   exact b0 (aB (aH (xs:=[.dat (br ns p),.dat (.str kd.nm)]) rfl (tR Rn kd w)) (y:=.dat (br ns (dh kd r))) rfl (KL h Rn Rn)))
  rw [List.map_id] at key;generalize hS:((bO (rows ns allR)).map λzs=>PyData.tuple [.tuple ns,.tuple zs]).filter C=S at key sl;have ls:S.length<=16:=by rw [<- hS];exact P6 (RB _ _) (by rw [Qa];exact ll)
  have mS:∀ d∈S,∃ p:Rel,d=br ns p/\br ns (dh kd p)=br ns (dh kd r):=λd hd=>by rw [<- hS] at hd;obtain ⟨m,c⟩:=QH.mp hd;obtain ⟨p,rfl,ec⟩:=each d m;rw [ec] at c;exact ⟨p,rfl,QS c⟩
  have nil:=jz (n:=1) (it:=aL (ab 11)) (g:=av 0) (t:=iW (cn (af eM (aa (aq dY (ab 0) (aj (.int 1))) (aa (aq dY (ab 8) (aj (.int 1))) (ah)))))) (e:=ab 0) (ρ:=ID a0 a1 a2 a3 ns r a5 kd (some (.dat (br ns (ij kd r)))) (some (.int ((2 ^ G:Nat):Int))) b9 (some (.dat (br ns (dh kd r)))) (some (.dat (.list S)))) (h:=h) (h1:=h) (ds:=S) (iT rfl) (by omega) (λ_=>false) id (λd hd=>by
   obtain ⟨p,rfl,ek⟩:=mS d hd;have lp:=lY (r:=p) Rn.le
   have wi:=CU (vE df (aW (r:=p) Rn)) (vE df (aW (r:=ij kd r) Rn)) (Ap df (aW Rn)) (by omega) (λd m=>by
    obtain ⟨a,b,rfl,ha,hb,k⟩:=bT.mp m;have h:∀ a∈ns,∀ b∈ns,dh kd p a b=dh kd r a b:=λa ha b hb=>yR (by simpa [br] using ek) ha hb
    have f:ij kd p a b=ij kd r a b:=by
     have i1:ji kd (dh kd p) a b=ji kd (dh kd r) a b:=by unfold ji;rw [h a ha a ha,h b hb b hb,h b hb a ha]
     unfold ij;rw [h a ha b hb,i1]
    exact bC.mpr ⟨ha,hb,by rw [<- f];exact xk ha hb k⟩) h
   exact ⟨_,rfl,xc (oV (aH (aF (aB (x:=.dat (br ns p)) rfl (y:=.int 1) rfl rfl) (aF (aB (x:=.dat (br ns (ij kd r))) rfl (y:=.int 1) rfl rfl) rfl)) wi)),λz=>by cases z⟩)
  have f0:S.filter (λ_=>false)=[]:=by simp
  rw [f0] at nil;have e0:m6 (.dat (.list [])) (.dat (.list [])) h=.ok (.bool false) h:=by simp [m6,pV,eqQ,noDict,PyData.hasDict,PyData.hasDictAll,PyData.depth,PyData.depthAll,PyData.eqv,PyData.eqvAll]
  have bl:fc [.dat (.list S)] h=.ok (.int ((2 ^ G:Nat):Int)) h:=by rw [<- sl];rfl
  exact ⟨_,_,_,_,_,aT (bU (aH (xs:=[.dat (br ns r),.dat (.str kd.nm)]) rfl lf)) (aT (bU (x:=.int 1) rfl) (aT (fK it dl) (aT i1 (KO c3 (aT (bU (aH (xs:=[.dat (br ns r),.dat (.str kd.nm)]) rfl lk)) (aT (bU key) (CO (KP (b0 (aB (aH (xs:=[.dat (.list S)]) rfl bl) (y:=.int ((2 ^ G:Nat):Int)) rfl (CW h))) (b0 (aB nil (y:=.dat (.list [])) rfl e0))) rfl)))))))⟩
 ·rw [Ql z] at c3;exact ⟨_,_,_,_,_,aT (bU (aH (xs:=[.dat (br ns r),.dat (.str kd.nm)]) rfl lf)) (aT (bU (x:=.int 1) rfl) (aT (fK it dl) (aT i1 (CO c3 rfl))))⟩
end
theorem FP:∀ ns:List Int,ns.length<=63->∃ h,Bo [.scr ns] []=.ok (.bool true) h:=by
 intro ns hn;obtain ⟨ds,ec,hd⟩:=FK ns 3 (ρ:=[some (.scr ns),none,none,none,none,none,none,none,none,none,none,none]) rfl hn []
 obtain ⟨ρ',h',e,_⟩:=y7 (g:=av 1) (b:=bg (bF 2 (af hV (aa (ab 1) (ah))))
  (kl (aL (af dP (aa (ab 2) (aa (aj (.int 6)) (ah))))) (av 3) (bg (bF 4 (af eN (aa (ab 2) (aa (ab 3) (ah)))))
  (bg (bF 5 (af gI (aa (ab 4) (ah))))
  (bg (kl (aL (af cL ah)) (av 6) HK)
  (mZ (aN (aq m6 (af gI (aa (ab 4) (ah))) (ab 5))) (cz (aj (.bool false))) (cW)))))))
  (λρ=>∃ a1 a2 a3 a4 a5 a6 a7 a8 a9 a10 a11,ρ=[some (.scr ns),a1,a2,a3,a4,a5,a6,a7,a8,a9,a10,a11]) hd (λz ρ h w ⟨a1,a2,a3,a4,a5,a6,a7,a8,a9,a10,a11,e⟩=>by
   subst e;obtain ⟨n,f,ep,px⟩:=KR z w;obtain ⟨_,h2,e2,s2,n1,n2,n3,r1,r2,r3,rfl,rn1,rn2,rn3,l1,l2,l3⟩:=xn px (m:=6) (by decide);have p2:=s2.px px
   obtain ⟨ρ3,h3,e3,s3,b3,b4,b5,b6,b7,b8,b9,b10,b11,rfl⟩:=FJ (i:=h.length) (g:=av 3) (b:=bg (bF 4 (af eN (aa (ab 2) (aa (ab 3) (ah)))))
    (bg (bF 5 (af gI (aa (ab 4) (ah))))
    (bg (kl (aL (af cL ah)) (av 6) HK)
    (mZ (aN (aq m6 (af gI (aa (ab 4) (ah))) (ab 5))) (cz (aj (.bool false))) (cW)))))
    (λρ=>∃ b3 b4 b5 b6 b7 b8 b9 b10 b11,ρ=[some (.scr ns),some (.int z),some (.ref h.length),b3,b4,b5,b6,b7,b8,b9,b10,b11]) (ds:=[br n1 r1,br n2 r2,br n3 r3]) (ρ:=[some (.scr ns),some (.int z),some (.ref h.length),a3,a4,a5,a6,a7,a8,a9,a10,a11]) p2 (λd hd ρ hh p ⟨b3,b4,b5,b6,b7,b8,b9,b10,b11,e⟩=>by
     subst e
     obtain ⟨N,r,rfl,rn,ln⟩:∃ (N:Uq) (r:Rel),d=br N r/\Nr N/\N.length<=6:=by
      simp only [PZ,Qo,Rc] at hd;rcases hd with rfl | rfl | rfl
      ·exact ⟨_,_,rfl,rn1,by omega⟩
      ·exact ⟨_,_,rfl,rn2,by omega⟩
      ·exact ⟨_,_,rfl,rn3,by omega⟩
     obtain ⟨_,h4,e4,s4,q,rfl⟩:=CT p (r:=r) rn (by omega);have p4:=s4.px p;have rp:=yO (Ay (r:=q) rn (by omega)) h4 (by decide) (by decide)
     obtain ⟨ρ5,e5,c6,c7,c8,c9,c10,c11,rfl⟩:=FF (g:=av 6) (b:=HK) (ds:=Ng) (h:=h4)
      (λρ=>∃ c6 c7 c8 c9 c10 c11,ρ=[some (.scr ns),some (.int z),some (.ref h.length),some (.dat (br N r)),some (.dat (br N q)),some (.rpr (br N q).shown),c6,c7,c8,c9,c10,c11]) (λd hd ρ ⟨c6,c7,c8,c9,c10,c11,e⟩=>by
       subst e;obtain ⟨kd,rfl⟩:=KW hd;obtain ⟨d7,d8,d9,d10,d11,e⟩:=K0 (r:=q) (kd:=kd) rn ln p4.wf (some (.scr ns)) (some (.int z)) (some (.ref h.length)) (some (.dat (br N r))) (some (.rpr (br N q).shown)) c7 c8 c9 c10 c11
       exact ⟨_,_,rfl,e,_,_,_,_,_,_,rfl⟩) (ρ:=[some (.scr ns),some (.int z),some (.ref h.length),some (.dat (br N r)),some (.dat (br N q)),some (.rpr (br N q).shown),b6,b7,b8,b9,b10,b11]) ⟨_,_,_,_,_,_,rfl⟩
     exact ⟨_,_,h4,rfl,aT (bU (aH (xs:=[.ref h.length,.dat (br N r)]) rfl e4)) (aT (bU (aH (xs:=[.dat (br N q)]) rfl rp)) (aT (fK (iT (ds:=Ng) rfl) e5) (CO (h1:=h4) (b0 (aB (aH (xs:=[.dat (br N q)]) rfl rp) (y:=.rpr (br N q).shown) rfl (f:=m6) (by simp [m6]))) rfl))),s4,_,_,_,_,_,_,_,_,_,rfl⟩) ⟨_,_,_,_,_,_,_,_,_,rfl⟩
   exact ⟨_,_,h3,rfl,aT (bU (aH (xs:=[.int z]) rfl ep)) (fK (iT (aH (xs:=[.ref h.length,.int 6]) rfl e2)) e3),(s3.px p2).wf,_,_,_,_,_,_,_,_,_,_,_,rfl⟩) (h:=[]) (ρ:=[some (.scr ns),none,none,none,none,none,none,none,none,none,none,none]) (λo m=>by cases m) ⟨_,_,_,_,_,_,_,_,_,_,_,rfl⟩
 exact ⟨h',iU rfl (aT (fK ec e) (fL rfl))⟩
end Ml
namespace K14
open PySem L2 Ml
theorem K1 {K:Ut} {h:Heap} {mg:Uo} {ta0:Addr} {fb0:Addr} {k0:Tok} {k1:Tok} (X:K.In h) (G:h.Ns mainGlobals mg)
  (z0:PySem.W.nsIn K mainGlobals "all" = some none)
  (z1:PySem.W.nsIn K mainGlobals "len" = some none)
  (z2:PySem.W.nsIn K mainGlobals "isinstance" = some none)
  (z3:PySem.W.nsIn K mainGlobals "str" = some none)
  (z4:PySem.W.nsIn K mainGlobals "zip" = some none)
  (z5:PySem.W.nsIn K mainGlobals "tuple" = some none)
  (z6:PySem.W.nsIn K mainGlobals "int" = some none)
  (z7:PySem.W.nsIn K mainGlobals "max" = some none)
  (z8:PySem.W.nsIn K mainGlobals "divmod" = some none)
  (z9:PySem.W.nsIn K mainGlobals "sorted" = some none)
  (z10:PySem.W.nsIn K mainGlobals "range" = some none)
  (z11:PySem.W.nsIn K mainGlobals "set" = some none)
  (z12:PySem.W.nsIn K mainGlobals "list" = some none)
  (z13:PySem.W.nsIn K mainGlobals "repr" = some none)
  (a0:PySem.W.nsIn K mainGlobals "LONGEST_NAME" = some (some (.int 6 k0)))
  (a1:PySem.W.nsIn K mainGlobals "MOST_NAMES" = some (some (.int 12 k1)))
  (fn0:PySem.W.nsIn K mainGlobals "IDLE" = some (some (.ref fb0))) (fk0:N7 K fb0 nv=true)
  (tn0:PySem.W.nsIn K mainGlobals "KINDS" = some (some (.ref ta0))) (tk0:N5 K ta0 wG=true)
  : Txt K mg:=⟨QE X G z0,QE X G z1,QE X G z2,QE X G z3,QE X G z4,QE X G z5,QE X G z6,QE X G z7,QE X G z8,QE X G z9,QE X G z10,QE X G z11,QE X G z12,QE X G z13,⟨_,SD X G a0⟩,⟨_,SD X G a1⟩,⟨_,SD X G fn0,Ko (λ_ _=>SD X G) fk0⟩,⟨_,SD X G tn0,Kl tk0⟩⟩
theorem all_mk {l:PySem.W.OpenLaw} {w:World} {K:Ut} {h:Heap} {mg:Uo} {fa f:Addr} {od an:Option Addr} {sl:Uw} {oc kV dc pm cd ct:Value} (X:K.In h) (G:h.Ns mainGlobals mg) (hfa:mg "law" = some (.ref fa)) (T:Txt K mg)
  (d0:Df K mg "is_name" lR pH)
  (d1:Df K mg "is_rising" iL kO)
  (d2:Df K mg "are_names" iM kR)
  (d3:Df K mg "is_strike" iN kS)
  (d4:Df K mg "are_strikes" gk je)
  (d5:Df K mg "is_web" oE sY)
  (d6:Df K mg "check_web" iO kT)
  (d7:Df K mg "check_kind" gR jX)
  (d8:Df K mg "idle_for_stable" dC fB)
  (d9:Df K mg "idle_for_standing" cM ee)
  (d10:Df K mg "idle_for_whole" dR fW)
  (d11:Df K mg "idle_for_grounded" cN et)
  (d12:Df K mg "kernel" oJ sZ)
  (d13:Df K mg "fullest" lU pM)
  (d14:Df K mg "how_many" jY nA)
  (d15:Df K mg "_law_cell" iP kX)
  (d16:Df K mg "_law_pen" jZ nB)
  (d17:Df K mg "_law_draw" iQ kY)
  (d18:Df K mg "_law_names" gS j0)
  (d19:Df K mg "_law_web" j3 nC)
  (d20:Df K mg "_law_lots" iR kZ)
  (d21:Df K mg "_law_within" gm jf)
  (d22:Df K mg "_law_kernel_kinds" cO eB)
  (d23:Df K mg "_law_is_idle" fG ia)
  (d24:Df K mg "_law_kernel" gn jg)
  (d25:Df K mg "_law_some_webs" dS fZ)
  (d26:Df K mg "_law_fullest" fI ic)
  (d27:Df K mg "_law_selves" gp jh)
  (d28:Df K mg "_law_all_webs" eT gH)
  (a:PySem.W.nsIn K mainGlobals "law" = some (some (.ref f))) (l0:K.lookup f=some ⟨oc,od,.func (PySem.W.fnOf "law" "law" (ip oO) (fb oO) (aE oO) .none kV dc pm an cd ct),sl⟩) (c:PySem.W.codeIn K cd "law" = true) (k:PySem.W.keepIn K (.ref f)=true) :
  ∃ fd:FuncData,(∀ (s:UD) (v:Value),BindsTo s fd ⟨[v],[]⟩ [("_law_script",v)])/\∀ base:Heap,K.In base->base.Ns mainGlobals mg->jl l.prog w K mg base (tU l.prog w) 8 fa fd ["_law_script"] (FR ⟨l.prog,w,mg,K⟩ Bo):=by
 have e:=hfa.symm.trans (SD X G a);cases e;have FL:=zr (st:=oO) l0 c k;refine ⟨PySem.W.fnOf "law" "law" (ip oO) (fb oO) (aE oO) .none kV dc pm an cd ct,λs v=>.of_eq rfl,λbase _ _=>?_⟩;have J7:=CG (P:=l.prog) (w:=w) (base:=base) d0 T;have J8:=yC (P:=l.prog) (w:=w) (base:=base) d1 T;have J9:=yD (P:=l.prog) (w:=w) (base:=base) d2 T J8 J7;have J10:=yE (P:=l.prog) (w:=w) (base:=base) d3 T;have J11:=uz (P:=l.prog) (w:=w) (base:=base) d4 T J8 J10;have J12:=E1 (P:=l.prog) (w:=w) (base:=base) d5 T J11 J9;have J13:=yG (P:=l.prog) (w:=w) (base:=base) d6 T J12;have J16:=wV (P:=l.prog) (w:=w) (base:=base) d7 T;have J18:=oG (P:=l.prog) (w:=w) (base:=base) d8 T;have J19:=mq (P:=l.prog) (w:=w) (base:=base) d9 T;have J20:=pK (P:=l.prog) (w:=w) (base:=base) d10 T;have J21:=mr (P:=l.prog) (w:=w) (base:=base) d11 T;have J23:=E3 (P:=l.prog) (w:=w) (base:=base) d12 T J21 J19 J18 J20 J16 J13;have J24:=CH (P:=l.prog) (w:=w) (base:=base) d13 T J21 J19 J18 J20 J23;have J25:=zZ (P:=l.prog) (w:=w) (base:=base) d14 T J24 J23;have J27:=yI (P:=l.prog) (w:=w) (base:=base) d15 T;have J28:=Aa (P:=l.prog) (w:=w) (base:=base) d16 T;have J29:=yJ (P:=l.prog) (w:=w) (base:=base) d17 T;have J30:=wY (P:=l.prog) (w:=w) (base:=base) d18 T J29;have J31:=Ab (P:=l.prog) (w:=w) (base:=base) d19 T J29 J30;have J32:=yK (P:=l.prog) (w:=w) (base:=base) d20 T;have J33:=uC (P:=l.prog) (w:=w) (base:=base) d21 T;have J34:=mw (P:=l.prog) (w:=w) (base:=base) d22 T;have J35:=tD (P:=l.prog) (w:=w) (base:=base) d23 T;have J36:=uE (P:=l.prog) (w:=w) (base:=base) d24 T J35;have J37:=pP (P:=l.prog) (w:=w) (base:=base) d25 T J29 J31;have J38:=tE (P:=l.prog) (w:=w) (base:=base) d26 T J35;have J39:=uF (P:=l.prog) (w:=w) (base:=base) d27 T J29;have J40:=qM (P:=l.prog) (w:=w) (base:=base) d28 T J32;exact Kv (P:=l.prog) (w:=w) (base:=base) FL T J27 J37 J34 J33 J40 J36 J25 J24 J38 J39 J28
theorem walk {l:PySem.W.OpenLaw} {q:UA} {loose:Uu} {XP:(Uo)->Heap->Prop} {YP:World->Heap->Prop} {d:DefRec} {K:Params->Ut} (hn:l.most=some 63) (hdf:d.params.defaults=[])
  (hY:∀ (w:World) (h:Heap),YP w h->(K w.params).In h)
  (F:∀ (w:World) (mg:Uo) (fa:Addr) (h:Heap),(K w.params).In h->h.Ns mainGlobals mg->mg d.name=some (.ref fa) ->
   ∃ fd:FuncData,(∀ (s:UD) (u:Value),BindsTo s fd ⟨[u],[]⟩ [("_law_script",u)])/\∀ base:Heap,(K w.params).In base->base.Ns mainGlobals mg->jl l.prog w (K w.params) mg base (tU l.prog w) 8 fa fd ["_law_script"] (FR ⟨l.prog,w,mg,K w.params⟩ Bo)) :
  PySem.W.WalkO q loose XP YP l.row.toRowW d [] (λf vs=>PySem.call f vs):=
 L2.Gm (n:=63) (k:=8) (x := "_law_script") (CX:=λw=>tU l.prog w) (sp:=λw=>Ii (K w.params)) hn (by decide) hdf ⟨rfl,by decide,by decide,rfl⟩ hY
  (λw mg fa h KX G hm=>let ⟨fd,b,o⟩:=F w mg fa h KX G hm;⟨fd,b,λbase k g=>(o base k g).imp λvs H Q E z=>Es FP z⟩)
  (λw H a ns hl _ hS=>⟨a,ns,rfl,hS,hl,λ_=>rfl⟩) λw H s e s' ⟨_,_,_,_,_,_,_,_,_,_,_,_,_,z⟩=>z
end K14
open PySem PySem.W PyProof.Rows
namespace PySem.W.Fast
def tw3991838993581615436:=()
def tw6533872410621163336:=()
def tw6608071585609381169:=()
def tw17067394478702534512:=()
def tw16393049807230015319:=()
def tw6671472283415345601:=()
def tw6013719279097570616:=()
def tw4700186961368976175:=()
def tw10647906245330593115:=()
def tw9534984405184581997:=()
def tw18327410034084821063:=()
def tw8048885930765331303:=()
def tw17958895785777084352:=()
def tw1888908997635667766:=()
def tw9143604637922718415:=()
def tw4978135726827792508:=()
def tw17318748738620269651:=()
def tw4252090238566969217:=()
def tw8237836428210250481:=()
def tw2218798852155231455:=()
def tw8269635850075634653:=()
def tw17671276661257454973:=()
def tw10582979421234987450:=()
def tw6684386305638710422:=()
def tw8704073354313029542:=()
def tw11909033696469034390:=()
def tw17664279671362619393:=()
def tw4435297607620866490:=()
def tw10899317868437295398:=()
def tw17750819889180693894:=()
def tw10262690039882588382:=()
def tw16854372020675187312:=()
def tw10530381627111099815:=()
def tw17432078506084055216:=()
def tw12519526316325788161:=()
def tw6238006964455631312:=()
def tw16142681141334957767:=()
def tw18004368303340688344:=()
def tw10532705592024698366:=()
def tw7314764777034521104:=()
def tw811066477739309436:=()
def tw12911286287205353707:=()
def tw13665842186157667941:=()
def tw7190264341796792644:=()
def tw15076477447097779940:=()
def tw16767014616333217250:=()
def tw15531022957475749123:=()
def tw13907699661395900365:=()
def tw1462025872464857324:=()
def tw1758160032420557433:=()
def tw12460112348356826396:=()
def tw9133214099014980543:=()
def tw11933219060725312482:=()
def tw1189928858290520348:=()
def tw6103996134850210087:=()
def tw16148628583724492986:=()
def tw1834056045582668883:=()
def tw3438299805018711067:=()
def tw3583543092589036328:=()
def tw1276103979088500984:=()
def tw15074990346120571503:=()
def tw5139667535985950842:=()
def tw16248620237359864914:=()
def tw12668642748796773243:=()
def tw3460368576809183465:=()
def tw1486547642515542995:=()
def tw5099928856036566977:=()
def tw5652801953653226438:=()
def tw16361678151019424243:=()
def tw6902288509634118202:=()
def tw1307247814001416073:=()
def tw11659333425981751070:=()
def tw12712133318602420529:=()
def tw17602172185139795403:=()
def tw1292486765880773561:=()
def tw15175045888494296094:=()
def tw1077754730289459620:=()
def tw3826434110424111506:=()
def tw14440192184876881284:=()
def tw10048468059986554388:=()
def tw5003550355355571961:=()
def tw14378166460742532728:=()
def tw18024478380298301284:=()
def tw13301153953473512554:=()
def tw6744916122572095296:=()
def tw7332657631488892624:=()
def tw11776304267782003367:=()
def tw11508948161669563839:=()
def tw9873060972193300693:=()
def tw3096273370083182993:=()
def tw12144311826819934224:=()
def tw13141405457056328765:=()
def tw56032250607635959:=()
def tw11797233277244194796:=()
def tw13923845251927439402:=()
def tw16516745078571685730:=()
def tw6875517975312941965:=()
def tw3605419702131518987:=()
def tw4558588911214097975:=()
def tw7361308280874062368:=()
def tw10166143408727749349:=()
def tw10293242550968506561:=()
def tw11603818821336848650:=()
def tw7481108794943571365:=()
def tw12247540806626889601:=()
def tw18399367938544032225:=()
def tw9072931776670263067:=()
def tw6220728133713976732:=()
def tw12109799880409809480:=()
def tw18374707081843212103:=()
def tw1749546905766639183:=()
def tw15716569179080500631:=()
def tw15247583814044614210:=()
def tw10970161604153681582:=()
def tw706255706061125619:=()
def tw7716179024505029101:=()
def tw18023967055723261913:=()
def tw16105522389805490387:=()
def tw16957902598535059255:=()
def tw3800493123345642352:=()
def tw312119070475965472:=()
def tw11900200003012258394:=()
def tw14936045061968063292:=()
def tw7053685782057482072:=()
def tw14397857140245670953:=()
def tw3830165843991826204:=()
def tw12553630271257393598:=()
def tw16495299652475010355:=()
def tw14847335013474822451:=()
def tw465676784021255945:=()
def tw2748784458447628739:=()
def tw2087721712913642984:=()
def tw9007250730852057390:=()
def tw5011830507515489140:=()
def tw9091106439148465678:=()
def tw7418349753914237589:=()
def tw6951241092714798352:=()
def tw17060692250474044020:=()
def tw18430042883130867348:=()
def tw11888880951041024355:=()
def tw6353114820064192724:=()
def tw12932410474127845724:=()
def tw15172335392165430594:=()
def tw8269342305507155233:=()
def tw18106743639996102670:=()
def tw1402577951001167017:=()
def tw11938560693958453260:=()
def tw15511977571996382339:=()
def tw386605166972165964:=()
def tw9872261842098856662:=()
def tw3048776286331718908:=()
def tw12099996321111911065:=()
def tw8409945153468711986:=()
def tw8122922882787102714:=()
def tw3099243997525140497:=()
def tw768387244118503706:=()
def tw566691768203832780:=()
def tw16329907067360500952:=()
def tw12601552784946143462:=()
def tw17451105634411907396:=()
def tw1473286452253708119:=()
def tw14712402471855767640:=()
def tw2328360928265661826:=()
def tw1249272377485531442:=()
def tw12379209099816241070:=()
def tw9407312403634521858:=()
def tw937160011697890918:=()
def tw9342935094586309869:=()
def tw8832856258667139356:=()
def tw8438699906176468903:=()
def tw7996970153864000030:=()
def tw7333412247733453410:=()
def tw6296279719896211052:=()
def tw6079468695403918029:=()
def tw5971492764863966947:=()
def tw5099942777546749375:=()
def tw487391155107875142:=()
def tw3848170706238528122:=()
def tw3713492250248589379:=()
def tw3262990982562375827:=()
def tw300451501307437772:=()
def tw3001984960104829819:=()
def tw263638336742322881:=()
def tw203467822507553408:=()
def tw18419533130341297704:=()
def tw18153427287162392188:=()
def tw18045114682907345462:=()
def tw17902076928333263006:=()
def tw17806468985884415207:=()
def tw17620773494498289408:=()
def tw17194326786019141561:=()
def tw16846984382282105715:=()
def tw1661021122742747056:=()
def tw16250930399870740631:=()
def tw16185368216954483543:=()
def tw16144765154349950509:=()
def tw15938339772188147495:=()
def tw14879528371236354306:=()
def tw14797885954792716322:=()
def tw14719395780707926337:=()
def tw14416482179925828653:=()
def tw14307789989486242109:=()
def tw14216912379288411888:=()
def tw14181232642437974748:=()
def tw14141691091546797919:=()
def tw13991736684122510242:=()
def tw13875991484724361569:=()
def tw13710390697435305545:=()
def tw13450976981012935650:=()
def tw12558991074645578971:=()
def tw12540672845629219825:=()
def tw1220337244048311754:=()
def tw11869084229129608212:=()
def tw11528762338004103119:=()
def tw11478689742136641811:=()
def tw11253819126485510089:=()
def tw11075622204557235554:=()
def tw10486086123853544725:=()
def tw10107312345846891963:=()
end PySem.W.Fast
set_option maxRecDepth 100000 in
set_option maxHeartbeats 0 in
theorem PySem.Challenge.cw_everalike_k14_fullest_webs_and_how_many_holds : PySem.Challenge.rw_everalike_k14_fullest_webs_and_how_many.Holds := by
 w_on;o_law;k_head;(case hw=>w_witness2)
 k_fill
 refine K14.walk (l:=PySem.Challenge.rw_everalike_k14_fullest_webs_and_how_many) rfl rfl (λw h Y=>PySem.W.kIn_of Y) ?F
 case F=>
  intro w mg fa h KX G hmg
  refine' K14.all_mk KX G hmg ?T ?d0 ?d1 ?d2 ?d3 ?d4 ?d5 ?d6 ?d7 ?d8 ?d9 ?d10 ?d11 ?d12 ?d13 ?d14 ?d15 ?d16 ?d17 ?d18 ?d19 ?d20 ?d21 ?d22 ?d23 ?d24 ?d25 ?d26 ?d27 ?d28 ?a ?l ?c ?k
  case T=>
   refine' K14.K1 KX G ?zz0 ?zz1 ?zz2 ?zz3 ?zz4 ?zz5 ?zz6 ?zz7 ?zz8 ?zz9 ?zz10 ?zz11 ?zz12 ?zz13 ?aa0 ?aa1 ?fn0 ?fk0 ?tn0 ?tk0
   (case zz0=>k_is)
   (case zz1=>k_is)
   (case zz2=>k_is)
   (case zz3=>k_is)
   (case zz4=>k_is)
   (case zz5=>k_is)
   (case zz6=>k_is)
   (case zz7=>k_is)
   (case zz8=>k_is)
   (case zz9=>k_is)
   (case zz10=>k_is)
   (case zz11=>k_is)
   (case zz12=>k_is)
   (case zz13=>k_is)
   (case aa0=>k_is)
   (case aa1=>k_is)
   (case fn0=>k_is)
   (case fk0=>kernel_rfl)
   (case tn0=>k_is)
   (case tk0=>kernel_rfl)
  case d0=>
   refine' Ml.cG KX G ?a0 ?l0 ?c0 ?k0 (λ_ _ _ _ _ _ us hl=>match us,hl with | [_],_=>rfl)
   (case a0=>k_is);(case l0=>k_is);(case c0=>k_is);(case k0=>k_is)
  case d1=>
   refine' Ml.cG KX G ?a1 ?l1 ?c1 ?k1 (λ_ _ _ _ _ _ us hl=>match us,hl with | [_],_=>rfl)
   (case a1=>k_is);(case l1=>k_is);(case c1=>k_is);(case k1=>k_is)
  case d2=>
   refine' Ml.cG KX G ?a2 ?l2 ?c2 ?k2 (λ_ _ _ _ _ _ us hl=>match us,hl with | [_],_=>rfl)
   (case a2=>k_is);(case l2=>k_is);(case c2=>k_is);(case k2=>k_is)
  case d3=>
   refine' Ml.cG KX G ?a3 ?l3 ?c3 ?k3 (λ_ _ _ _ _ _ us hl=>match us,hl with | [_,_],_=>rfl)
   (case a3=>k_is);(case l3=>k_is);(case c3=>k_is);(case k3=>k_is)
  case d4=>
   refine' Ml.cG KX G ?a4 ?l4 ?c4 ?k4 (λ_ _ _ _ _ _ us hl=>match us,hl with | [_,_],_=>rfl)
   (case a4=>k_is);(case l4=>k_is);(case c4=>k_is);(case k4=>k_is)
  case d5=>
   refine' Ml.cG KX G ?a5 ?l5 ?c5 ?k5 (λ_ _ _ _ _ _ us hl=>match us,hl with | [_],_=>rfl)
   (case a5=>k_is);(case l5=>k_is);(case c5=>k_is);(case k5=>k_is)
  case d6=>
   refine' Ml.cG KX G ?a6 ?l6 ?c6 ?k6 (λ_ _ _ _ _ _ us hl=>match us,hl with | [_],_=>rfl)
   (case a6=>k_is);(case l6=>k_is);(case c6=>k_is);(case k6=>k_is)
  case d7=>
   refine' Ml.cG KX G ?a7 ?l7 ?c7 ?k7 (λ_ _ _ _ _ _ us hl=>match us,hl with | [_],_=>rfl)
   (case a7=>k_is);(case l7=>k_is);(case c7=>k_is);(case k7=>k_is)
  case d8=>
   refine' Ml.cG KX G ?a8 ?l8 ?c8 ?k8 (λ_ _ _ _ _ _ us hl=>match us,hl with | [_,_,_],_=>rfl)
   (case a8=>k_is);(case l8=>k_is);(case c8=>k_is);(case k8=>k_is)
  case d9=>
   refine' Ml.cG KX G ?a9 ?l9 ?c9 ?k9 (λ_ _ _ _ _ _ us hl=>match us,hl with | [_,_,_],_=>rfl)
   (case a9=>k_is);(case l9=>k_is);(case c9=>k_is);(case k9=>k_is)
  case d10=>
   refine' Ml.cG KX G ?a10 ?l10 ?c10 ?k10 (λ_ _ _ _ _ _ us hl=>match us,hl with | [_,_,_],_=>rfl)
   (case a10=>k_is);(case l10=>k_is);(case c10=>k_is);(case k10=>k_is)
  case d11=>
   refine' Ml.cG KX G ?a11 ?l11 ?c11 ?k11 (λ_ _ _ _ _ _ us hl=>match us,hl with | [_,_,_],_=>rfl)
   (case a11=>k_is);(case l11=>k_is);(case c11=>k_is);(case k11=>k_is)
  case d12=>
   refine' Ml.cG KX G ?a12 ?l12 ?c12 ?k12 (λ_ _ _ _ _ _ us hl=>match us,hl with | [_,_],_=>rfl)
   (case a12=>k_is);(case l12=>k_is);(case c12=>k_is);(case k12=>k_is)
  case d13=>
   refine' Ml.cG KX G ?a13 ?l13 ?c13 ?k13 (λ_ _ _ _ _ _ us hl=>match us,hl with | [_,_],_=>rfl)
   (case a13=>k_is);(case l13=>k_is);(case c13=>k_is);(case k13=>k_is)
  case d14=>
   refine' Ml.cG KX G ?a14 ?l14 ?c14 ?k14 (λ_ _ _ _ _ _ us hl=>match us,hl with | [_,_],_=>rfl)
   (case a14=>k_is);(case l14=>k_is);(case c14=>k_is);(case k14=>k_is)
  case d15=>
   refine' Ml.cG KX G ?a15 ?l15 ?c15 ?k15 (λ_ _ _ _ _ _ us hl=>match us,hl with | [_,_],_=>rfl)
   (case a15=>k_is);(case l15=>k_is);(case c15=>k_is);(case k15=>k_is)
  case d16=>
   refine' Ml.cG KX G ?a16 ?l16 ?c16 ?k16 (λ_ _ _ _ _ _ us hl=>match us,hl with | [_],_=>rfl)
   (case a16=>k_is);(case l16=>k_is);(case c16=>k_is);(case k16=>k_is)
  case d17=>
   refine' Ml.cG KX G ?a17 ?l17 ?c17 ?k17 (λ_ _ _ _ _ _ us hl=>match us,hl with | [_,_],_=>rfl)
   (case a17=>k_is);(case l17=>k_is);(case c17=>k_is);(case k17=>k_is)
  case d18=>
   refine' Ml.cG KX G ?a18 ?l18 ?c18 ?k18 (λ_ _ _ _ _ _ us hl=>match us,hl with | [_,_],_=>rfl)
   (case a18=>k_is);(case l18=>k_is);(case c18=>k_is);(case k18=>k_is)
  case d19=>
   refine' Ml.cG KX G ?a19 ?l19 ?c19 ?k19 (λ_ _ _ _ _ _ us hl=>match us,hl with | [_,_],_=>rfl)
   (case a19=>k_is);(case l19=>k_is);(case c19=>k_is);(case k19=>k_is)
  case d20=>
   refine' Ml.cG KX G ?a20 ?l20 ?c20 ?k20 (λ_ _ _ _ _ _ us hl=>match us,hl with | [_],_=>rfl)
   (case a20=>k_is);(case l20=>k_is);(case c20=>k_is);(case k20=>k_is)
  case d21=>
   refine' Ml.cG KX G ?a21 ?l21 ?c21 ?k21 (λ_ _ _ _ _ _ us hl=>match us,hl with | [_,_],_=>rfl)
   (case a21=>k_is);(case l21=>k_is);(case c21=>k_is);(case k21=>k_is)
  case d22=>
   refine' Ml.cG KX G ?a22 ?l22 ?c22 ?k22 (λ_ _ _ _ _ _ us hl=>match us,hl with | [],_=>rfl)
   (case a22=>k_is);(case l22=>k_is);(case c22=>k_is);(case k22=>k_is)
  case d23=>
   refine' Ml.cG KX G ?a23 ?l23 ?c23 ?k23 (λ_ _ _ _ _ _ us hl=>match us,hl with | [_,_,_,_],_=>rfl)
   (case a23=>k_is);(case l23=>k_is);(case c23=>k_is);(case k23=>k_is)
  case d24=>
   refine' Ml.cG KX G ?a24 ?l24 ?c24 ?k24 (λ_ _ _ _ _ _ us hl=>match us,hl with | [_,_],_=>rfl)
   (case a24=>k_is);(case l24=>k_is);(case c24=>k_is);(case k24=>k_is)
  case d25=>
   refine' Ml.cG KX G ?a25 ?l25 ?c25 ?k25 (λ_ _ _ _ _ _ us hl=>match us,hl with | [_,_],_=>rfl)
   (case a25=>k_is);(case l25=>k_is);(case c25=>k_is);(case k25=>k_is)
  case d26=>
   refine' Ml.cG KX G ?a26 ?l26 ?c26 ?k26 (λ_ _ _ _ _ _ us hl=>match us,hl with | [_,_],_=>rfl)
   (case a26=>k_is);(case l26=>k_is);(case c26=>k_is);(case k26=>k_is)
  case d27=>
   refine' Ml.cG KX G ?a27 ?l27 ?c27 ?k27 (λ_ _ _ _ _ _ us hl=>match us,hl with | [_,_],_=>rfl)
   (case a27=>k_is);(case l27=>k_is);(case c27=>k_is);(case k27=>k_is)
  case d28=>
   refine' Ml.cG KX G ?a28 ?l28 ?c28 ?k28 (λ_ _ _ _ _ _ us hl=>match us,hl with | [_],_=>rfl)
   (case a28=>k_is);(case l28=>k_is);(case c28=>k_is);(case k28=>k_is)
  (case a=>k_is);(case l=>k_is);(case c=>k_is);(case k=>k_is)
