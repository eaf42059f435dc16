import PyProof.Rows.All
import Wide.All
import OpenK.AllK
import Wide.FinOn
import Lean
import PyProof.EqAt
import PyProof.EqKinds
import PyProof.TupleCall
import KE.KSortTup
import PyProof.Rows.SortShellK
import PyProof.Rows.SortWalk
import KE.KDictList
import KE.KStar
import PyProof.ListMulRoad
import PyProof.FactsAll.tuple
import KE.KTab
import PyProof.DictCompW
import PySem.SetOps
import PyProof.SetScanFacts
import PyProof.SetNew
import PyProof.SetRoads
import PyProof.Rows.SetFrom
import PyProof.WalksMore
import PyProof.CollectWalk
import PySem.Challenge.RW_everalike_k22_kinds_in_which_webs_are_al
set_option linter.all false
namespace PySem
abbrev Ph:=@PySem.wpAny_bind
abbrev Pj:=@PySem.Heap.get?_push_of_some
abbrev Pk:=@PySem.wpAny_pure
abbrev Pl:=@Bool.and_eq_true
abbrev Pm:=@Nat.le_refl
abbrev Pn:=@List.mem_cons
abbrev Po:=@PySem.Heap.get?_push_size
abbrev Pp:=@PySem.Heap.lt_size
abbrev Pq:=@Nat.le_trans
abbrev Pr:=@List.mem_cons_of_mem
abbrev Pt:=@Nat.lt_of_lt_of_le
abbrev Pu:=@List.size_toArray
abbrev Py:=@decide_eq_true_eq
abbrev Pz:=@List.getElem?_eq_getElem
abbrev PB:=@Bool.false_eq_true
abbrev PD:=@List.mem_append_right
abbrev PF:=@List.getElem?_eq_some_iff
abbrev PH:=@List.all_eq_true
abbrev PJ:=@List.mem_cons_self
abbrev PL:=@List.mem_append
abbrev PM:=@Nat.ne_of_lt
abbrev PN:=@decide_eq_true
abbrev PQ:=@List.length_cons
abbrev PR:=@decide_eq_false
abbrev PU:=@List.length_append
abbrev PV:=@List.mem_singleton
abbrev PX:=@List.length_map
abbrev PY:=@List.getElem?_append_left
abbrev PZ:=@Nat.lt_irrefl
abbrev P0:=@List.mem_of_getElem?
abbrev P1:=@List.not_mem_nil
abbrev P4:=@PySem.Paired.length
abbrev P5:=@Bool.false_ne_true
abbrev P6:=@Array.getElem?_toList
abbrev P7:=@Array.getElem?_eq_getElem
abbrev P8:=@List.mem_map
abbrev P9:=@List.map_cons
abbrev Qa:=@PySem.wpAny_call_entry
abbrev Qb:=@Array.getD_eq_getD_getElem?
abbrev Qc:=@PySem.Heap.size_push
abbrev Qd:=@List.getElem?_append_right
abbrev Qe:=@if_true
abbrev Qf:=@PySem.wpAny_callSpecial?_slot
abbrev Qg:=@PySem.W.mg_none_of
abbrev Qh:=@Option.map_eq_some_iff
abbrev Qi:=@PySem.wpAny_newObj_type
abbrev Qj:=@Array.length_toList
abbrev Qk:=@PySem.wpAny_holding
abbrev Ql:=@List.length_nil
abbrev Qm:=@if_false
abbrev Qn:=@List.pairwise_cons
abbrev Qo:=@List.mem_range
abbrev Qp:=@Classical.byContradiction
abbrev Qq:=@PyProof.Rows.slot_tuple_getitem
abbrev Qr:=@Array.getElem?_eq_some_iff
abbrev Qs:=@List.mem_filter
abbrev Qt:=@Option.some.inj
abbrev Qu:=@PyProof.Rows.ReadsAll.keeps
abbrev Qv:=@PySem.wpAny_seqItems
abbrev Qw:=@List.getElem?_map
abbrev Qx:=@Nat.lt_succ_of_lt
abbrev Qy:=@List.mem_append_left
abbrev Qz:=@PySem.wpAny_Call_Name_kw
abbrev QA:=@List.getElem?_set_self
abbrev QB:=@Bool.eq_iff_iff
abbrev QC:=@PySem.W.kia_one
abbrev QD:=@List.drop_eq_getElem_cons
abbrev QE:=@PyProof.Rows.F.plain_set_update_loop
abbrev QF:=@PySem.mem_of_lookup
abbrev QG:=@Int.toNat_natCast
abbrev QH:=@PySem.sizeLine_eq
abbrev QJ:=@PySem.wpAny_field
abbrev QK:=@Bool.or_eq_true
abbrev QL:=@List.set_cons_zero
abbrev QM:=@List.getElem?_of_mem
abbrev QN:=@List.drop_of_length_le
abbrev QO:=@beq_eq_false_iff_ne
abbrev QP:=@PySem.wpAny_truthy_bool
abbrev QQ:=@List.replicate_succ
abbrev QR:=@Nat.le_succ
abbrev QS:=@Nat.zero_le
abbrev QT:=@PySem.Heap.get?_push_ne
abbrev QU:=@or_false
abbrev QV:=@List.pairwise_iff_getElem
abbrev QW:=@List.nodup_cons
abbrev QX:=@List.length_replicate
abbrev QY:=@PySem.Heap.get?_update_self
abbrev QZ:=@List.find?_cons
abbrev Q0:=@PySem.wpAny_ite_split
abbrev Q1:=@List.length_filter_le
abbrev Q3:=@List.zip_cons_cons
abbrev Q4:=@List.Pairwise.imp_of_mem
abbrev Q5:=@List.set_cons_succ
abbrev Q6:=@List.lookup_cons
abbrev Q7:=@List.pairwise_append
abbrev Q8:=@List.getElem?_cons_zero
abbrev Q9:=@PySem.wpAny_mono
abbrev Ra:=@PyProof.Rows.callWith_type1
abbrev Rb:=@List.nil_append
abbrev Rc:=@List.forIn_cons
abbrev Rf:=@PySem.codeAny_builtin
abbrev Rg:=@PySem.F.slot_tuple_iterator_next
abbrev Rh:=@Nat.lt_succ_self
abbrev Ri:=@List.map_nil
abbrev Rj:=@PySem.wpAny_setField_rec
abbrev Rk:=@Nat.lt_or_ge
abbrev Rm:=@List.take_append_drop
abbrev Ro:=@Bool.and_self
abbrev Rp:=@List.forIn_nil
abbrev Rr:=@Nat.mul_le_mul
abbrev Rt:=@List.pairwise_iff_forall_sublist
abbrev Rv:=@congrArg
abbrev Rx:=@Array.mem_toList_iff
abbrev Ry:=@List.mem_iff_getElem
abbrev Rz:=@PySem.Around.under_plainId
abbrev RA:=@List.getElem?_take_of_lt
abbrev RB:=@List.flatten_cons
abbrev RC:=@Option.some.injEq
abbrev RD:=@PySem.wpAny_rule
abbrev RE:=@of_decide_eq_true
abbrev RF:=@List.nodup_append
abbrev RG:=@PySem.sizeLine_eq
abbrev RH:=@List.pairwise_map
abbrev RI:=@List.filterMap_cons_some
abbrev RJ:=@List.filterMap_cons
abbrev RK:=@List.getElem?_replicate
abbrev RL:=@List.length_eq_zero_iff
abbrev RM:=@List.getElem_of_mem
abbrev RN:=@List.getElem?_cons_succ
abbrev RO:=@PySem.Heap.size_update
abbrev RP:=@List.cons_append
abbrev RQ:=@PySem.Heap.get?_update_other
abbrev RS:=@List.mem_filterMap
abbrev RT:=@PySem.Calls.spliced_cons
abbrev RU:=@PySem.tupleKind_room_in1
abbrev RV:=@PySem.PyData.tuple.injEq
abbrev RW:=@decide_eq_true_iff
abbrev RX:=@PySem.wpAny_specialOf
abbrev RY:=@List.cons.injEq
abbrev RZ:=@Int.emod_nonneg
abbrev R0:=@PySem.F.called_set
abbrev R3:=@List.any_cons
abbrev R4:=@PySem.F.slot_tuple_hash
abbrev R5:=@Bool.not_true
abbrev R6:=@Bool.not_eq_true'
abbrev R7:=@PySem.W.mg_of
abbrev R8:=@List.length_eraseIdx_of_lt
abbrev R9:=@List.getElem?_set_ne
abbrev Sa:=@List.mem_of_mem_take
abbrev Sb:=@PySem.Calls.call_function_entry
abbrev Sd:=@PyProof.Rows.F.entry_set_update_loop
abbrev Se:=@List.any_eq_true
abbrev Sf:=@PySem.Heap.SameBut.update
abbrev Sg:=@PySem.wpAny_of_eq
abbrev Sh:=@PySem.F.slot_dict_eq_refl
abbrev Si:=@Int.toNat_of_nonneg
abbrev Sj:=@Nat.le_of_lt
abbrev Sk:=@Nat.ne_of_gt
abbrev Sl:=@PySem.wpAny_load
abbrev Sm:=@PySem.F.args_tuple_add_2
abbrev Sn:=@PySem.wpAny_typeOf
abbrev So:=@PySem.call_meets
abbrev Sr:=@PySem.wpAny_comprehension_free
abbrev Ss:=@getElem?_pos
abbrev Su:=@PySem.SetTable.toList_insertAt
abbrev Sv:=@List.filterMap_cons_none
abbrev Sw:=@Ne.symm
abbrev Sx:=@PyProof.Rows.assignInOrder_cons
abbrev Sy:=@PySem.wpAny_standAt
abbrev Sz:=@PySem.wpAny_pyIter_tuple
abbrev SD:=@PySem.wpAny_passesOwn
abbrev SE:=@PySem.F.entry_tuple_add
abbrev SF:=@Option.map_some
abbrev SG:=@PySem.wpAny_attempt
abbrev SH:=@Array.forIn_toList
abbrev SI:=@Int.emod_lt_of_pos
abbrev SJ:=@PySem.W.cellsFrom_some
abbrev SK:=@PySem.F.slot_tuple_add
abbrev SM:=@PySem.Calls.spliced_nil
abbrev SN:=@List.length_range
abbrev SO:=@beq_iff_eq
abbrev SQ:=@List.eraseIdx_eq_take_drop_succ
abbrev SR:=@PySem.wpAny_pyIter_slot
abbrev SU:=@Bool.false_and
abbrev SV:=@Bool.not_false
abbrev SW:=@PySem.Value.type.inj
abbrev SX:=@PyProof.Rows.callWith_builtin1
abbrev SY:=@List.length_singleton
abbrev S3:=@PySem.F.slot_dict_get
abbrev S4:=@List.getElem?_eq_none
abbrev S5:=@PySem.F.slot_tuple_lt
abbrev S6:=@List.set_append_right
abbrev S7:=@List.length_take
abbrev S8:=@List.length_drop
abbrev S9:=@PySem.wpAny_isInstance
abbrev Ta:=@Nat.le_add_right
abbrev Tb:=@Option.getD_some
abbrev Tc:=@PySem.SeqAt.eqAt_reads
abbrev Td:=@List.filter_cons
abbrev Te:=@PySem.wpAny_updateSeq_pair
abbrev Tf:=@PySem.wpAny_newList
abbrev Tg:=@List.all_cons
abbrev Th:=@PySem.plainId_quiet
abbrev Ti:=@Nat.mod_lt
abbrev Tj:=@List.of_mem_zip
abbrev Tn:=@PySem.F.slot_zip_next
abbrev To:=@PySem.Heap.get?_update_ne
abbrev Tp:=@PySem.Heap.dictOf_iff
abbrev Tq:=@List.length_pos_iff
abbrev Tr:=@PySem.codeAny_mono
abbrev Ts:=@List.map_map
abbrev Tt:=@PySem.repr_of_reads'
abbrev Tu:=@PySem.isSubtype_type
abbrev Tv:=@PySem.wpAny_Name
abbrev Tw:=@List.take_sublist
abbrev Tx:=@List.append_assoc
abbrev Tz:=@bne_self_eq_false
abbrev TB:=@Option.isSome_map
abbrev TC:=@List.flatMap_cons
abbrev TF:=@Bool.true_and
abbrev TH:=@List.map_id
abbrev TJ:=@Nat.min_le_right
abbrev TK:=@List.getElem_mem
abbrev TL:=@decide_false
end PySem
set_option Elab.async false
set_option linter.all false
set_option maxRecDepth 100000
namespace L2
open PySem PySem.Spec PyProof.Rows
abbrev Key:=Sum Int Str
def rj:Key->Value->Bool
 | .inl k,v=>Value.isInt k v
 | .inr x,v=>Value.isStrOf x v
def MV (w:World):Key->Int
 | .inl k=>hashInt k
 | .inr x=>hashStr w x
theorem cu:∀ {k:Key} {v:Value},rj k v=true->(∃ i t,k=Sum.inl i/\v=Value.int i t)\/(∃ x t,k=Sum.inr x/\v=Value.str x t)
 | .inl i,v,h=>by
  obtain ⟨t,e⟩:=Value.isInt_shape (k:=i) (v:=v) h
  exact .inl ⟨i,t,rfl,e⟩
 | .inr x,v,h=>by
  obtain ⟨t,e⟩:=Value.isStrOf_shape (x:=x) (v:=v) h
  exact .inr ⟨x,t,rfl,e⟩
theorem BF (i:Int) (t:Tok):rj (.inl i) (.int i t)=true:=by simp [rj,Value.isInt]
theorem BG (x:Str) (t:Tok):rj (.inr x) (.str x t)=true:=by simp [rj,Value.isStrOf]
theorem Im (a b:Int):decide ((Sum.inl a:Key)=Sum.inl b)=(a == b):=by
 by_cases e:a=b
 ·subst e;simp
 ·have h:¬ (Sum.inl a:Key)=Sum.inl b:=fun q=>e (Sum.inl.inj q)
  rw [PR h]
  exact (QO.mpr e).symm
theorem Io (a b:Str):decide ((Sum.inr a:Key)=Sum.inr b)=decide (a=b):=by
 by_cases e:a=b
 ·subst e;simp
 ·have h:¬ (Sum.inr a:Key)=Sum.inr b:=fun q=>e (Sum.inr.inj q)
  rw [PR h,PR e]
theorem Ip (a:Int) (b:Str):decide ((Sum.inl a:Key)=Sum.inr b)=false:=PR (fun q=>nomatch q)
theorem Iq (a:Str) (b:Int):decide ((Sum.inr a:Key)=Sum.inl b)=false:=PR (fun q=>nomatch q)
def bH (prog:Program) (w:World):PySem.KeyKind prog w Key where
 is:=rj
 hash:=MV w
 inj:=fun v a b ha hb=>by
  rcases cu ha with ⟨i,t,rfl,rfl⟩ | ⟨x,t,rfl,rfl⟩
  ·rcases cu hb with ⟨j,u,rfl,e⟩ | ⟨y,u,rfl,e⟩
   ·injection e with e1 _;rw [e1]
   ·exact nomatch e
  ·rcases cu hb with ⟨j,u,rfl,e⟩ | ⟨y,u,rfl,e⟩
   ·exact nomatch e
   ·injection e with e1 _;rw [e1]
 byValue:=fun k v h=>by
  rcases cu h with ⟨i,t,rfl,rfl⟩ | ⟨x,t,rfl,rfl⟩<;>rfl
 pyHash:=fun hv h=>by
  rcases cu hv with ⟨i,t,rfl,rfl⟩ | ⟨x,t,rfl,rfl⟩
  ·exact wpAny_pyHash_int h
  ·exact wpAny_pyHash_str h
 eqBool:=fun hu hv h=>by
  rcases cu hu with ⟨i,t,rfl,rfl⟩ | ⟨x,t,rfl,rfl⟩
  ·rcases cu hv with ⟨j,u,rfl,rfl⟩ | ⟨y,u,rfl,rfl⟩
   ·rw [Im] at h;exact wpAny_eqBool_int h
   ·rw [Ip] at h;exact SeqAt.EqAt.int_str i t y u _ _ _ _ h
  ·rcases cu hv with ⟨j,u,rfl,rfl⟩ | ⟨y,u,rfl,rfl⟩
   ·rw [Iq] at h;exact SeqAt.EqAt.str_int x t j u _ _ _ _ h
   ·rw [Io] at h;exact wpAny_eqBool_str h
 «strs» := fun k x t v h=>by
  rcases cu h with ⟨i,u,rfl,e⟩ | ⟨y,u,rfl,e⟩
  ·exact nomatch e
  ·injection e with e1 _
   subst e1
   cases v<;>rfl
theorem xh (prog:Program) (w:World) (i:Int) (t:Tok):(bH prog w).is (.inl i) (.int i t)=true:=BF i t
theorem xi (prog:Program) (w:World) (x:Str) (t:Tok):(bH prog w).is (.inr x) (.str x t)=true:=BG x t
inductive V where
 | non | bl (b:Bool) | int (i:Int) | str (x:Str) | byt (b:Array UInt8) | flt (b:UInt64) | ref (a:Addr) | ty (n:String)
 deriving DecidableEq
def RelV:V->Value->Prop
 | .non,u=>u=Value.none
 | .bl b,u=>u=Value.bool b
 | .int i,u=>∃ t,u=Value.int i t
 | .str x,u=>∃ t,u=Value.str x t
 | .byt b,u=>∃ t,u=Value.bytes b t
 | .flt b,u=>∃ t,u=Value.float b t
 | .ref a,u=>u=Value.ref a
 | .ty n,u=>u=Value.type n
abbrev Vals:List V->List Value->Prop:=Paired RelV
theorem Vals.length {xs:List V} {us:List Value} (r:Vals xs us):xs.length=us.length:=P4 r
theorem Vals.get:∀ {xs:List V} {us:List Value} {i:Nat} {x:V},Vals xs us->xs[i]?=some x->∃ u,us[i]?=some u/\RelV x u
 | _,_,_,_,.nil,e=>by simp at e
 | _,_,0,_,.cons r _,e=>by simp at e;subst e;exact ⟨_,rfl,r⟩
 | _,_,i+1,x,.cons _ t,e=>by
  obtain ⟨u,h1,h2⟩:=Vals.get (i:=i) (x:=x) t (by simpa using e)
  exact ⟨u,by simpa using h1,h2⟩
theorem Vals.set {x:V} {u:Value} (r:RelV x u):∀ {xs:List V} {us:List Value} (i:Nat),Vals xs us->Vals (xs.set i x) (us.set i u)
 | _,_,_,.nil=>.nil
 | _,_,0,.cons _ t=>.cons r t
 | _,_,i+1,.cons q t=>.cons q (Vals.set r i t)
theorem Vals.append:∀ {xs ys:List V} {us ws:List Value},Vals xs us->Vals ys ws->Vals (xs++ys) (us++ws)
 | _,_,_,_,.nil,s=>s
 | _,_,_,_,.cons r t,s=>.cons r (Vals.append t s)
theorem Vals.take:∀ {xs:List V} {us:List Value} (n:Nat),Vals xs us->Vals (xs.take n) (us.take n)
 | _,_,0,_=>.nil
 | _,_,_+1,.nil=>.nil
 | _,_,n+1,.cons r t=>.cons r (Vals.take n t)
theorem Vals.drop:∀ {xs:List V} {us:List Value} (n:Nat),Vals xs us->Vals (xs.drop n) (us.drop n)
 | _,_,0,r=>r
 | _,_,_+1,.nil=>.nil
 | _,_,n+1,.cons _ t=>Vals.drop n t
def oV:Option V->Option Value->Prop
 | some v,some u=>RelV v u
 | none,none=>True
 | _,_=>False
def KV {κ:Type}:List (κ×V)->List (κ×Value)->Prop:=Paired fun (p:κ×V) (q:κ×Value)=>p.1=q.1/\RelV p.2 q.2
def kV:Key->V
 | .inl i=>.int i
 | .inr x=>.str x
inductive HO where
 | lst (xs:List V)
 | tup (xs:List V)
 | dK (kvs:List (Key×V)) | dT (kvs:List (List Key×V))
 | set (S:Int->Bool) (n:Nat)
 | ins (C dx:Addr) (fs:List (Str×V))
 | own (x:Addr)
 | xd (fs:List (Str×V))
 | met (f x:Addr)
 | rng (lo hi:Int)
 | frz (o:Obj) (u:HO)
 | tbl (ps:Array Value)
 | ext (φ:Heap->Prop)
abbrev Hp:=Addr->Option HO
def upd (H:Hp) (a:Addr) (o:HO):Hp:=fun b=>if b=a then some o else H b
theorem aY {H:Hp} {a:Addr} {o:HO}:upd H a o a=some o:=by unfold upd;rw [if_pos rfl]
theorem aD {H:Hp} {a b:Addr} {o:HO} (h:b≠a):upd H a o b=H b:=by unfold upd;rw [if_neg h]
theorem KW {H:Hp} {a b:Addr} {o u:HO} (h:H a=some o) (h':H b=some u) (d:o≠u):a≠b:=by
 intro e;subst e;rw [h] at h';exact d (Qt h')
theorem aH {H:Hp} {a b:Addr} {o:HO} (h:H a=some o) (h':H b=none):a≠b:=by
 intro e;subst e;rw [h] at h';cases h'
section
variable (P:Program) (w:World)
def cv (H:Hp) (h:Heap) (a:Addr):HO->Prop
 | .lst xs=>xs.length<=sizeLine/\∃ (its:List Value) (n:Nat),Vals xs its/\h.get? a=some {cls:=.type "list",data:=.seq its.toArray n}
 | .tup xs=>xs.length<=sizeLine/\∃ its:List Value,Vals xs its/\IsTup h a its.toArray
 | .dK kvs=>kvs.length<=sizeLine/\(a == sysModules)=false/\∃ vs,KV kvs vs/\h.DictOf (bH P w) a vs
 | .dT kvs=>kvs.length<=sizeLine/\(a == sysModules)=false/\∃ xs:List (List Key×Addr×Value),
   Paired (fun (p:List Key×V) (q:List Key×Addr×Value)=>p.1=q.1/\H q.2.1=some (.tup (p.1.map kV))/\RelV p.2 q.2.2) kvs xs /\
   ∃ o es ep,h.get? a=some o/\o.ExactDict/\o.data=.dict es ep/\es.toList=xs.map (entryOfKey (tupleKind (bH P w)))/\(xs.map (·.1)).Nodup
 | .set S n=>h.SetOf (intKind P w) a S n
 | .ins C dx fs=>H dx=some (.own a)/\fs.length<=1000/\dx≠a/\h.get? a=some (PySem.W.instObj C dx) /\
   ∃ mA,h.Ns1 dx mA/\(∀ f,oV (fs.lookup f) (mA f))/\PySem.Within mA (fs.map (·.1))
 | .own _=>∃ o,h.get? a=some o
 | .xd fs=>∃ mA,h.Ns1 a mA/\∀ f,oV (fs.lookup f) (mA f)
 | .rng lo hi=>∃ t u v,h.get? a=some {cls:=.type "range",data:=.fields #[.int lo t,.int hi u,.int 1 v]}
 | .frz o u=>h.get? a=some o/\cv H h a u
 | .tbl ps=>h.get? a=some {cls:=.none,data:=.fields ps}
 | .met f x=>h.get? a=some (PySem.W.methodObj (.ref f) (.ref x))
 | .ext φ=>φ h/\(∃ o,h.get? a=some o)/\∀ h1 h2:Heap,φ h1->(∀ o,h1.get? a=some o->h2.get? a=some o)->φ h2
def km (H:Hp) (h:Heap):Prop:=∀ a o,H a=some o->cv P w H h a o
end
section
variable {P:Program} {w:World} {H H':Hp} {h h':Heap} {a:Addr} {o:HO}
theorem cv.lt (x:cv P w H h a o):a < h.objs.size:=by
 cases o with
 | lst xs=>obtain ⟨_,_,_,_,e⟩:=x;exact Pp e
 | tup xs=>obtain ⟨_,_,_,p⟩:=x;exact p.lt
 | dK kvs=>obtain ⟨_,_,_,_,o,_,_,e,_⟩:=x;exact Pp e
 | dT kvs=>obtain ⟨_,_,_,_,o,_,_,e,_⟩:=x;exact Pp e
 | set S n=>obtain ⟨o,_,_,_,e,_⟩:=x;exact Pp e
 | ins C dx fs=>obtain ⟨_,_,_,e,_⟩:=x;exact Pp e
 | own y=>obtain ⟨_,e⟩:=x;exact Pp e
 | xd fs=>obtain ⟨_,⟨_,_,_,e,_⟩,_⟩:=x;exact Pp e
 | rng lo hi=>obtain ⟨_,_,_,e⟩:=x;exact Pp e
 | frz ob u=>obtain ⟨e,_⟩:=x;exact Pp e
 | tbl ps=>exact Pp (show h.get? a=some _ from x)
 | met f y=>exact Pp (show h.get? a=some _ from x)
 | ext φ=>obtain ⟨_,⟨_,e⟩,_⟩:=x;exact Pp e
theorem Paired.t8 {α β:Type} {F G:α->β->Prop}:∀ {l₁:List α} {l₂:List β},Paired F l₁ l₂->(∀ a b,F a b->G a b)->Paired G l₁ l₂
 | _,_,.nil,_=>.nil
 | _,_,.cons r t,f=>.cons (f _ _ r) (Paired.t8 t f)
theorem cv.rm (x:cv P w H h a o) (k:∀ b u,(b=a\/H b=some (.own a))->h.get? b=some u->h'.get? b=some u)
  (ho:∀ b,H b=some (.own a)->H' b=some (.own a)) (ht:∀ b xs,H b=some (.tup xs)->H' b=some (.tup xs)):cv P w H' h' a o:=by
 induction o with
 | lst xs=>obtain ⟨z,its,n,r,e⟩:=x;exact ⟨z,its,n,r,k _ _ (.inl rfl) e⟩
 | tup xs=>obtain ⟨z,its,r,ob,e,c⟩:=x;exact ⟨z,its,r,ob,k _ _ (.inl rfl) e,c⟩
 | dK kvs=>obtain ⟨z,y,vs,r,ob,es,ep,e,c⟩:=x;exact ⟨z,y,vs,r,ob,es,ep,k _ _ (.inl rfl) e,c⟩
 | dT kvs=>
  obtain ⟨z,y,xs,r,ob,es,ep,e,c⟩:=x
  exact ⟨z,y,xs,Paired.t8 r fun p q z=>⟨z.1,ht _ _ z.2.1,z.2.2⟩,ob,es,ep,k _ _ (.inl rfl) e,c⟩
 | set S n=>obtain ⟨ob,es,ep,t,e,c⟩:=x;exact ⟨ob,es,ep,t,k _ _ (.inl rfl) e,c⟩
 | ins C dx fs=>
  obtain ⟨d,z,ne,e,mA,⟨od,es,ep,e2,c⟩,r⟩:=x
  exact ⟨ho _ d,z,ne,k _ _ (.inl rfl) e,mA,⟨od,es,ep,k _ _ (.inr d) e2,c⟩,r⟩
 | own y=>obtain ⟨ob,e⟩:=x;exact ⟨ob,k _ _ (.inl rfl) e⟩
 | xd fs=>obtain ⟨mA,⟨od,es,ep,e,c⟩,r⟩:=x;exact ⟨mA,⟨od,es,ep,k _ _ (.inl rfl) e,c⟩,r⟩
 | rng lo hi=>obtain ⟨t,u,v,e⟩:=x;exact ⟨t,u,v,k _ _ (.inl rfl) e⟩
 | frz ob u ih=>obtain ⟨e,q⟩:=x;exact ⟨k _ _ (.inl rfl) e,ih q⟩
 | tbl ps=>
  have e:h.get? a=some {cls:=.none,data:=.fields ps}:=x
  show h'.get? a=some {cls:=.none,data:=.fields ps}
  exact k a _ (.inl rfl) e
 | met f y=>
  have e:h.get? a=some (PySem.W.methodObj (.ref f) (.ref y)):=x
  show h'.get? a=some (PySem.W.methodObj (.ref f) (.ref y))
  exact k a _ (.inl rfl) e
 | ext φ=>obtain ⟨p,⟨o,e⟩,st⟩:=x;exact ⟨st _ _ p fun o q=>k _ _ (.inl rfl) q,⟨o,k _ _ (.inl rfl) e⟩,st⟩
theorem km.lt (x:km P w H h) (e:H a=some o):a < h.objs.size:=(x a o e).lt
theorem km.fresh (x:km P w H h) (e:h.objs.size<=a):H a=none:=by
 cases q:H a with
 | none=>rfl
 | some u=>exact absurd (Pt (x.lt q) e) (PZ _)
theorem km.kept (x:km P w H h) (k:∀ b u,h.get? b=some u->h'.get? b=some u):km P w H h':=fun a o e=>
 (x a o e).rm (fun b u _ q=>k b u q) (fun _ q=>q) fun _ _ q=>q
theorem km.laid (x:km P w H h) (k:∀ b u,h.get? b=some u->h'.get? b=some u) (hp:h.objs.size<=a) (new:cv P w (upd H a o) h' a o):km P w (upd H a o) h':=fun b u e=>by
 have hn:=x.fresh hp
 by_cases hb:b=a
 ·subst hb;rw [aY] at e;cases e;exact new
 ·rw [aD hb] at e
  exact (x b u e).rm (fun c v _ q=>k c v q) (fun c q=>by rw [aD (aH q hn)];exact q) fun c xs q=>by rw [aD (aH q hn)];exact q
end
def Rd (H:Hp) (a:Addr) (u:HO):Prop:=H a=some u\/∃ o,H a=some (.frz o u)
theorem Rd.ok {P:Program} {w:World} {H:Hp} {h:Heap} {a:Addr} {u:HO} (r:Rd H a u) (x:km P w H h):cv P w H h a u:=by
 rcases r with r | ⟨o,r⟩
 ·exact x a u r
 ·obtain ⟨_,q⟩:=x a _ r
  exact q
def KA:Option HO->Prop
 | some (.lst _)=>True
 | some (.dK _)=>True
 | some (.dT _)=>True
 | some (.set _ _)=>True
 | some (.ins _ _ _)=>True
 | some (.ext _)=>True
 | _=>False
section
variable {P:Program} {w:World} {H:Hp} {h h':Heap} {x e:Addr} {o':HO}
theorem km.write (ok:km P w H h) (mu:KA (H x)) (he:e=x\/H e=some (.own x)) (k:∀ b u,b≠e->h.get? b=some u->h'.get? b=some u) (heo:∃ u,h'.get? e=some u)
  (new:cv P w (upd H x o') h' x o'):km P w (upd H x o') h':=fun b u q=>by
 have nown:∀ c y,H c=some (.own y)->c≠x:=fun c y r z=>by subst z;rw [r] at mu;exact mu
 have ntup:∀ c xs,H c=some (.tup xs)->c≠x:=fun c xs r z=>by subst z;rw [r] at mu;exact mu
 by_cases hb:b=x
 ·subst hb;rw [aY] at q;cases q;exact new
 ·rw [aD hb] at q
  by_cases hbe:b=e
  ·have q':H b=some (.own x):=by
    rcases he with z | z
    ·exact absurd (hbe.trans z) hb
    ·rw [hbe];exact z
   rw [q] at q';cases q'
   obtain ⟨v,hv⟩:=heo
   exact ⟨v,by rw [hbe];exact hv⟩
  ·refine (ok b u q).rm (fun c v hc r=>k c v ?_ r) (fun c r=>by rw [aD (nown c b r)];exact r) fun c xs r=>by rw [aD (ntup c xs r)];exact r
   rcases hc with rfl | hc
   ·exact hbe
   ·rintro rfl
    rcases he with z | z
    ·exact nown c b hc z
    ·rw [hc] at z;cases z;exact hb rfl
end
structure Un (fs ex:List Addr) (H H':Hp) (h h':Heap):Prop where
 keep:∀ b o,h.get? b=some o->H b=none->b∉fs->b∉ex->h'.get? b=some o
 slot:∀ b o,h.get? b=some o->H b=none->b∈fs->b∉ex->∃ sl,h'.get? b=some {o with slots:=sl}
 free:∀ b o,h.get? b=some o->H b=none->b∉ex->H' b=none
 there:∀ b o,h.get? b=some o->b∉ex->∃ o',h'.get? b=some o'
 tups:∀ b xs,H b=some (.tup xs)->H' b=some (.tup xs)
 frzs:∀ b o u,H b=some (.frz o u)->H' b=some (.frz o u)
 tbls:∀ b ps,H b=some (.tbl ps)->∃ more,H' b=some (.tbl (ps++more))
section
variable {fs fs' ex ex':List Addr} {H H1 H2:Hp} {h h1 h2 h':Heap} {a x e:Addr} {o:HO}
theorem Un.any (u:Un fs ex H H1 h h1) {b:Addr} {ob:Obj} (q:h.get? b=some ob) (n:H b=none) (hx:b∉ex):∃ sl,h1.get? b=some {ob with slots:=sl}:=by
 by_cases hb:b∈fs
 ·exact u.slot b ob q n hb hx
 ·exact ⟨ob.slots,u.keep b ob q n hb hx⟩
theorem Un.kept (k:∀ b u,h.get? b=some u->h'.get? b=some u):Un fs ex H H h h':=
 ⟨fun b ob q _ _ _=>k b ob q,fun b ob q _ _ _=>⟨ob.slots,k b ob q⟩,fun _ _ _ n _=>n,fun b ob q _=>⟨ob,k b ob q⟩,fun _ _ q=>q,fun _ _ _ q=>q,fun _ ps q=>⟨#[],by rw [q];simp⟩⟩
theorem Un.refl:Un fs ex H H h h:=Un.kept fun _ _ q=>q
theorem Un.laid (k:∀ b u,h.get? b=some u->h'.get? b=some u) (hp:h.objs.size<=a) (hn:H a=none):Un fs ex H (upd H a o) h h' where
 keep:=fun b u q _ _ _=>k b u q
 slot:=fun b u q _ _ _=>⟨u.slots,k b u q⟩
 free:=fun b u q n _=>by rw [aD (PM (Pt (Pp q) hp))];exact n
 there:=fun b u q _=>⟨u,k b u q⟩
 tups:=fun b xs q=>by rw [aD (aH q hn)];exact q
 frzs:=fun b u xs q=>by rw [aD (aH q hn)];exact q
 tbls:=fun b ps q=>⟨#[],by rw [aD (aH q hn),q];simp⟩
theorem Un.write (mu:KA (H x)) (he:e=x\/H e=some (.own x)) (k:∀ b u,b≠e->h.get? b=some u->h'.get? b=some u) (heo:∃ u,h'.get? e=some u):Un fs ex H (upd H x o) h h':=by
 have hx:∀ b,H b=none->b≠x:=fun b n z=>by subst z;rw [n] at mu;exact mu
 have hb:∀ b,H b=none->b≠e:=fun b n z=>by
  subst z
  rcases he with r | r
  ·exact hx b n r
  ·rw [n] at r;cases r
 have hm:∀ b u,H b=some u->¬ KA (some u)->b≠x:=fun b u q nm z=>by subst z;rw [q] at mu;exact nm mu
 refine ⟨fun b u q n _ _=>k b u (hb b n) q,fun b u q n _ _=>⟨u.slots,k b u (hb b n) q⟩,fun b u q n _=>by rw [aD (hx b n)];exact n,fun b u q _=>?_,
  fun b xs q=>by rw [aD (hm b _ q fun z=>z)];exact q,fun b u xs q=>by rw [aD (hm b _ q fun z=>z)];exact q,fun b ps q=>⟨#[],by rw [aD (hm b _ q fun z=>z),q];simp⟩⟩
 by_cases hbe:b=e
 ·subst hbe;exact heo
 ·exact ⟨u,k b u hbe q⟩
end
def BH (h:Heap) (H:Hp):List Addr:=(List.range h.objs.size).filter fun a=>(H a).isSome
def vO (h:Heap) (H:Hp):Heap:=PySem.W.hideAll h (BH h H)
theorem BI (h:Heap) (H:Hp):(vO h H).objs.size=h.objs.size:=PySem.W.hideAll_size _ _
theorem CH {h:Heap} {H:Hp} {b:Addr} {o:Obj} (e:h.get? b=some o) (n:H b=none):(vO h H).get? b=some o:=
 PySem.W.hideAll_get _ e fun hm=>by
  have q:(H b).isSome=true:=(Qs.mp hm).2
  rw [n] at q;simp at q
theorem Fz {h:Heap} {H:Hp} {b:Addr} {o:Obj} (e:(vO h H).get? b=some o):h.get? b=some o/\H b=none:=by
 have e':h.get? b=some o:=PySem.W.of_hideAll (BH h H) e
 refine ⟨e',?_⟩
 cases q:H b with
 | none=>rfl
 | some x=>
  have hm:b∈BH h H:=Qs.mpr ⟨Qo.mpr (Pp e'),by simp [q]⟩
  have z:(vO h H).get? b=none:=PySem.W.hideAll_none (BH h H) hm
  rw [z] at e;cases e
def FA (g h:Heap) (L:Addr):List (Addr×Obj):=(List.range h.objs.size).filterMap fun a=>if a=L\/(g.get? a).isSome=true then none else (h.get? a).map fun o=>(a,o)
def rest (g h:Heap) (L d:Addr):List (Addr×Obj):=(FA g h L).filter fun p=>decide (p.1≠d)
structure Mod (K:PySem.W.Frag) (mg:Str->Option Value) (base:Heap):Prop where
 kin:K.In base
 glob:base.Ns mainGlobals mg
 blt:∃ mb,base.Ns builtinsNs mb/\∀ x:Str,x ≠ "__name__" -> mb x=bootBuiltins x
 nolimit:base.NoLimit
structure Cx where
 prog:Program
 w:World
 K:PySem.W.Frag
 mg:Str->Option Value
 base:Heap
 A:Around
 N:List Str
 s₀:Shared
 H₀:Hp
 env:Env
 outer:List Env
 stack:List Env
 ex:List Addr
 fn:Str->Bool
 calm:Bool
 pn:List (Addr×Obj)
 xe:Value->Shared->Prop
def uK (l:List Env):List Addr:=l.filterMap (·.frame)
abbrev Cx.fs (X:Cx):List Addr:=uK X.outer
def Hw (sc:Scope) (x:Str):Prop:=sc.names.lookup x=some .local\/sc.names.lookup x=some .cell\/sc.names.lookup x=some .free
def Loc (sc:Scope) (x:Str):Prop:=sc.names.lookup x=some .local\/sc.names.lookup x=some .cell
def Look (env:Env) (h:Heap) (m:Str->Option Value) (x:Str) (u:Value):Prop:=
 (env.kindOf x=some .local/\m x=some u)\/((env.kindOf x=some .cell\/env.kindOf x=some .free)/\∃ c,env.cells.lookup x=some c/\h.IsCell c (some u))
structure Cx.Ok (X:Cx):Prop where
 mod:Mod X.K X.mg X.base
 kind:X.env.scope.kind=.function
 glob:X.env.globals=mainGlobals
 blt:X.env.builtins=builtinsNs
 above:X.s₀.heap.objs.size<=X.env.locals
 inj:∀ x y c,X.env.cells.lookup x=some c->X.env.cells.lookup y=some c->x=y
 has:∀ x,(X.env.kindOf x=some .cell\/X.env.kindOf x=some .free)->∃ c,X.env.cells.lookup x=some c
 cab:∀ x c,X.fn x=true->X.env.cells.lookup x=some c->X.s₀.heap.objs.size<=c
 hd:X.calm=true->X.A.handled=none
 frames:X.A.frames=some X.stack
 stk:X.stack=X.outer\/(X.stack=X.env::X.outer/\X.env.frame=some X.env.locals)
 exf:∀ b∈X.ex,b≠X.env.locals/\∀ x c,X.env.cells.lookup x=some c->c≠b
 bs:∀ b o,X.base.get? b=some o->X.s₀.heap.get? b=some o/\X.H₀ b=none
 bsz:X.base.objs.size<=X.s₀.heap.objs.size
 noex:∀ b o,X.base.get? b=some o->b∉X.ex
 exfs:∀ b∈X.ex,b∉X.fs
 oW:X.s₀.heap.FunFrames X.base X.outer
 frf:∀ b∈X.fs,X.H₀ b=none
structure Inv (X:Cx) (pins:List (Addr×Obj)) (σ:List (Option V)) (H:Hp) (s:Shared):Prop where
 ok:X.Ok
 os:s.os=X.s₀.os
 bare:AllBare s.gens
 base:Un X.fs X.ex X.H₀ H X.s₀.heap s.heap
 loc:∃ m,s.heap.Ns X.env.locals m/\∀ (i:Nat) (x:Str) (v:V),X.N[i]?=some x->σ[i]?=some (some v)->Hw X.env.scope x->∃ u,RelV v u/\Look X.env s.heap m x u
 cell:∀ x c,X.env.cells.lookup x=some c->∃ v,s.heap.IsCell c v
 free:H X.env.locals=none
 freeC:∀ x c,X.env.cells.lookup x=some c->H c=none
 pin:∀ p∈X.pn++pins,s.heap.get? p.1=some p.2/\H p.1=none/\p.1≠X.env.locals/\p.1∉X.fs/\∀ v,p.2.data≠.cell v
 hok:km X.prog X.w H s.heap
 len:σ.length=X.N.length
section
variable {X:Cx} {pins:List (Addr×Obj)} {σ:List (Option V)} {H H':Hp} {s:Shared} {h':Heap}
theorem Cx.Ok.MW (ok:X.Ok) {b:Addr} {o:Obj} (e:X.base.get? b=some o):b∉X.fs:=fun hb=>by
 have:=(ok.oW.mem hb).1
 rw [e] at this;cases this
theorem Inv.bs (I:Inv X pins σ H s):∀ b o,X.base.get? b=some o->s.heap.get? b=some o/\H b=none:=fun b o e=>
 ⟨I.base.keep b o (I.ok.bs b o e).1 (I.ok.bs b o e).2 (I.ok.MW e) (I.ok.noex b o e),I.base.free b o (I.ok.bs b o e).1 (I.ok.bs b o e).2 (I.ok.noex b o e)⟩
theorem Inv.bk (I:Inv X pins σ H s):∀ b o,X.base.get? b=some o->s.heap.get? b=some o:=fun b o e=>(I.bs b o e).1
theorem Inv.mod (I:Inv X pins σ H s):Mod X.K X.mg X.base:=I.ok.mod
theorem Inv.tY (I:Inv X pins σ H s):X.K.In s.heap:=I.ok.mod.kin.keeps I.bk
theorem Inv.lt (I:Inv X pins σ H s):X.env.locals < s.heap.objs.size:=let ⟨_,hn,_⟩:=I.loc;hn.lt
theorem Inv.sz (I:Inv X pins σ H s):X.s₀.heap.objs.size<=s.heap.objs.size:=Pq I.ok.above (Sj I.lt)
theorem Inv.CI (I:Inv X pins σ H s) {a:Addr} (h:s.heap.objs.size<=a):a∉X.fs:=fun hb=>by
 obtain ⟨_,o,ho,_⟩:=I.ok.oW.mem hb
 exact absurd (Pt (Pp ho) (Pq I.sz h)) (PZ _)
theorem Inv.Ir (I:Inv X pins σ H s):∀ x c,X.env.cells.lookup x=some c->c≠X.env.locals:=fun x c e z=>by
 obtain ⟨v,o,ho,hd⟩:=I.cell x c e
 obtain ⟨m,⟨o',es,ep,ho',hd',_⟩,_⟩:=I.loc
 rw [z,ho'] at ho;cases ho;rw [hd'] at hd;cases hd
theorem Inv.oW (I:Inv X pins σ H s):s.heap.FunFrames X.base X.outer:=by
 have all:∀ (l:List Env),(∀ b∈uK l,b∈X.fs)->X.s₀.heap.FunFrames X.base l->s.heap.FunFrames X.base l:=by
  intro l
  induction l with
  | nil=>intro _ _;trivial
  | cons env r ih=>
   intro hs hl
   obtain ⟨hk,⟨L,o,hf,hn,ho,hd⟩,hr⟩:=hl
   have hL:L∈X.fs:=hs L (by unfold uK;rw [RJ,hf];exact PJ)
   obtain ⟨sl,e⟩:=I.base.slot L o ho (I.ok.frf L hL) hL fun z=>I.ok.exfs L z hL
   exact ⟨hk,⟨L,_,hf,hn,e,hd⟩,ih (fun b hb=>hs b (by unfold uK;rw [RJ,hf];exact Pr _ hb)) hr⟩
 exact all X.outer (fun _ hb=>hb) I.ok.oW
theorem Inv.stack (I:Inv X pins σ H s):s.heap.FunFrames X.base X.stack:=by
 rcases I.ok.stk with e | ⟨e,hf⟩
 ·rw [e];exact I.oW
 ·rw [e]
  obtain ⟨m,hn,_⟩:=I.loc
  refine .cons (by rw [I.ok.kind];decide) hf hn ?_ I.oW
  exact Heap.get?_none_of_le (Pq I.ok.bsz I.ok.above)
theorem Inv.ko (I:Inv X pins σ H s):∀ b∈uK X.stack,b∈X.env.locals::X.fs:=fun b hb=>by
 rcases I.ok.stk with e | ⟨e,hf⟩
 ·rw [e] at hb;exact Pr _ hb
 ·rw [e] at hb
  unfold uK at hb
  rw [RJ,hf] at hb
  exact hb
theorem Inv.Ak (I:Inv X pins σ H s):∀ b∈uK X.stack,H b=none:=fun b hb=>by
 rcases Pn.mp (I.ko b hb) with e | hb
 ·rw [e];exact I.free
 ·obtain ⟨_,o,ho,_⟩:=I.ok.oW.mem hb
  exact I.base.free b o ho (I.ok.frf b hb) fun z=>I.ok.exfs b z hb
theorem Inv.step {g':Array GenState} {t':Nat} {d':Drawn} {ch:List Addr} (I:Inv X pins σ H s)
  (hch:∀ b∈ch,(b∈X.ex\/X.s₀.heap.objs.size<=b)/\b≠X.env.locals/\(∀ x c,X.env.cells.lookup x=some c->c≠b)/\∀ p∈X.pn++pins,p.1≠b)
  (keep:∀ b o,b≠X.env.locals->b∉X.fs->b∉ch->s.heap.get? b=some o->H b=none->h'.get? b=some o)
  (slot:∀ b o,b≠X.env.locals->b∈X.fs->b∉ch->s.heap.get? b=some o->H b=none->∃ sl,h'.get? b=some {o with slots:=sl}) (free:∀ b o,b∉ch->s.heap.get? b=some o->H b=none->H' b=none)
  (there:∀ b o,b∉ch->s.heap.get? b=some o->∃ o',h'.get? b=some o')
  (tups:∀ b xs,H b=some (.tup xs)->H' b=some (.tup xs)) (frzs:∀ b o u,H b=some (.frz o u)->H' b=some (.frz o u)) (tbls:∀ b ps,H b=some (.tbl ps)->∃ more,H' b=some (.tbl (ps++more)))
  (ns:∀ m,s.heap.Ns X.env.locals m->h'.Ns X.env.locals m) (hok:km X.prog X.w H' h') (hg:AllBare g') :
  Inv X pins σ H' {s with heap:=h',gens:=g',drawn:=d',toks:=t'}:=by
 have neL:∀ b o,X.s₀.heap.get? b=some o->b≠X.env.locals:=fun b o e=>PM (Pt (Pp e) I.ok.above)
 have neC:∀ b o,X.s₀.heap.get? b=some o->b∉X.ex->b∉ch:=fun b o e hx hb=>by
  rcases (hch b hb).1 with z | z
  ·exact hx z
  ·exact absurd (Pt (Pp e) z) (PZ _)
 have cellK:∀ x c,X.env.cells.lookup x=some c->∀ v,s.heap.IsCell c v->h'.IsCell c v:=fun x c e v ⟨o,ho,hd⟩=>by
  have nch:c∉ch:=fun z=>(hch c z).2.2.1 x c e rfl
  by_cases hc:c∈X.fs
  ·obtain ⟨sl,q⟩:=slot c o (I.Ir x c e) hc nch ho (I.freeC x c e)
   exact ⟨_,q,hd⟩
  ·exact ⟨o,keep c o (I.Ir x c e) hc nch ho (I.freeC x c e),hd⟩
 refine ⟨I.ok,I.os,hg,⟨fun b o e n hb hx=>?_,fun b o e n hb hx=>?_,fun b o e n hx=>?_,fun b o e hx=>?_,fun b xs e=>tups b xs (I.base.tups b xs e),fun b o xs e=>frzs b o xs (I.base.frzs b o xs e),fun b ps e=>?_⟩,?_,fun x c e=>?_,?_,fun x c e=>?_,fun p hp=>?_,hok,I.len⟩
 ·exact keep b o (neL b o e) hb (neC b o e hx) (I.base.keep b o e n hb hx) (I.base.free b o e n hx)
 ·obtain ⟨sl,e1⟩:=I.base.slot b o e n hb hx
  obtain ⟨sl',e2⟩:=slot b _ (neL b o e) hb (neC b o e hx) e1 (I.base.free b o e n hx)
  exact ⟨sl',e2⟩
 ·obtain ⟨o',e1⟩:=I.base.there b o e hx
  exact free b o' (neC b o e hx) e1 (I.base.free b o e n hx)
 ·obtain ⟨o',e1⟩:=I.base.there b o e hx
  exact there b o' (neC b o e hx) e1
 ·obtain ⟨m1,e1⟩:=I.base.tbls b ps e
  obtain ⟨m2,e2⟩:=tbls b _ e1
  exact ⟨m1++m2,by rw [e2,Array.append_assoc]⟩
 ·obtain ⟨m,hn,hl⟩:=I.loc
  refine ⟨m,ns m hn,fun i x v e1 e2 e3=>?_⟩
  obtain ⟨u,r,l⟩:=hl i x v e1 e2 e3
  refine ⟨u,r,?_⟩
  rcases l with l | ⟨k,c,e,z⟩
  ·exact .inl l
  ·exact .inr ⟨k,c,e,cellK x c e _ z⟩
 ·obtain ⟨v,z⟩:=I.cell x c e
  exact ⟨v,cellK x c e v z⟩
 ·obtain ⟨m,⟨o,_,_,ho,_⟩,_⟩:=I.loc
  exact free _ o (fun z=>(hch _ z).2.1 rfl) ho I.free
 ·obtain ⟨v,o,ho,hd⟩:=I.cell x c e
  exact free c o (fun z=>(hch c z).2.2.1 x c e rfl) ho (I.freeC x c e)
 ·obtain ⟨e,n,ne,nf,d⟩:=I.pin p hp
  have nch:p.1∉ch:=fun z=>(hch p.1 z).2.2.2 p hp rfl
  exact ⟨keep p.1 p.2 ne nf nch e n,free p.1 p.2 nch e n,ne,nf,d⟩
theorem Inv.un {t':Nat} (I:Inv X pins σ H s) (u:Un X.fs [] H H' s.heap h') (hok:km X.prog X.w H' h'):Inv X pins σ H' {s with heap:=h',toks:=t'}:=by
 obtain ⟨m,⟨o,es,ep,ho,r⟩,_⟩:=id I.loc
 obtain ⟨sl,hL⟩:=u.any ho I.free (by simp)
 exact I.step (g':=s.gens) (d':=s.drawn) (ch:=[]) (fun _ z=>nomatch z) (fun b o _ hb _ e n=>u.keep b o e n hb (by simp)) (fun b o _ hb _ e n=>u.slot b o e n hb (by simp)) (fun b o _ e n=>u.free b o e n (by simp)) (fun b o _ e=>u.there b o e (by simp)) u.tups u.frzs u.tbls (fun m' hm=>by
  obtain ⟨o',es',ep',ho',r'⟩:=hm
  rw [ho] at ho';cases ho'
  exact ⟨_,es',ep',hL,r'⟩) hok I.bare
theorem Inv.call {g':Array GenState} {t':Nat} {d':Drawn} {ch:List Addr} (I:Inv X pins σ H s) (u:Un (uK X.stack) ch H H' s.heap h') (hok:km X.prog X.w H' h') (hg:AllBare g')
  (hch:∀ b∈ch,(b∈X.ex\/X.s₀.heap.objs.size<=b)/\b≠X.env.locals/\(∀ x c,X.env.cells.lookup x=some c->c≠b)/\∀ p∈X.pn++pins,p.1≠b) :
  Inv X pins σ H' {s with heap:=h',gens:=g',drawn:=d',toks:=t'}:=by
 obtain ⟨m,⟨o,es,ep,ho,r⟩,_⟩:=id I.loc
 obtain ⟨sl,hL⟩:=u.any ho I.free fun z=>(hch _ z).2.1 rfl
 exact I.step (ch:=ch) hch (fun b o hL hb hc e n=>u.keep b o e n (fun z=>(Pn.mp (I.ko b z)).elim hL hb) hc) (fun b o _ _ hc e n=>u.any e n hc) (fun b o hc e n=>u.free b o e n hc) (fun b o hc e=>u.there b o e hc) u.tups u.frzs u.tbls (fun m' hm=>by
  obtain ⟨o',es',ep',ho',r'⟩:=hm
  rw [ho] at ho';cases ho'
  exact ⟨_,es',ep',hL,r'⟩) hok hg
theorem Inv.turned {t':Nat} {it:Addr} (I:Inv X pins σ H s) (k:∀ b o,b≠it->s.heap.get? b=some o->h'.get? b=some o) (hn:H it=none) (hL:it≠X.env.locals)
  (h1:it∈X.ex\/X.s₀.heap.objs.size<=it) (h2:∀ x c,X.env.cells.lookup x=some c->c≠it) (h3:∀ p∈X.pn++pins,p.1≠it):Inv X pins σ H {s with heap:=h',toks:=t'}:=by
 have nit:∀ b u,H b=some u->b≠it:=fun b u e z=>by rw [z,hn] at e;cases e
 refine I.step (g':=s.gens) (d':=s.drawn) (ch:=[it]) (fun b hb=>?_) (fun b o _ _ hc e _=>k b o (fun z=>hc (by simp [z])) e) (fun b o _ _ hc e _=>⟨o.slots,k b o (fun z=>hc (by simp [z])) e⟩) (fun _ _ _ _ n=>n)
  (fun b o hc e=>⟨o,k b o (fun z=>hc (by simp [z])) e⟩) (fun _ _ e=>e) (fun _ _ _ e=>e) (fun b ps e=>⟨#[],by rw [e];simp⟩) (fun m hm=>?_) (fun b u e=>?_) I.bare
 ·have e:b=it:=by simpa using hb
  subst e
  exact ⟨h1,hL,h2,h3⟩
 ·obtain ⟨o,es,ep,ho,r⟩:=hm
  exact ⟨o,es,ep,k _ o (Sw hL) ho,r⟩
 ·refine (I.hok b u e).rm (fun c v hc q=>k c v ?_ q) (fun _ q=>q) fun _ _ q=>q
  rcases hc with z | z
  ·rw [z];exact nit b u e
  ·exact nit c _ z
theorem Inv.tok (I:Inv X pins σ H s) (t:Nat):Inv X pins σ H {s with toks:=t}:=I.un (h':=s.heap) (t':=t) Un.refl I.hok
theorem Inv.kept {t':Nat} (I:Inv X pins σ H s) (k:∀ b u,s.heap.get? b=some u->h'.get? b=some u):Inv X pins σ H {s with heap:=h',toks:=t'}:=I.un (Un.kept k) (I.hok.kept k)
theorem Inv.laid {a:Addr} {o:HO} {t':Nat} (I:Inv X pins σ H s) (k:∀ b u,s.heap.get? b=some u->h'.get? b=some u) (hp:s.heap.objs.size<=a) (new:cv X.prog X.w (upd H a o) h' a o) :
  Inv X pins σ (upd H a o) {s with heap:=h',toks:=t'}:=I.un (Un.laid k hp (I.hok.fresh hp)) (I.hok.laid k hp new)
theorem Inv.write {x e:Addr} {o:HO} {t':Nat} (I:Inv X pins σ H s) (mu:KA (H x)) (he:e=x\/H e=some (.own x)) (k:∀ b u,b≠e->s.heap.get? b=some u->h'.get? b=some u) (heo:∃ u,h'.get? e=some u)
  (new:cv X.prog X.w (upd H x o) h' x o):Inv X pins σ (upd H x o) {s with heap:=h',toks:=t'}:=I.un (Un.write mu he k heo) (I.hok.write mu he k heo new)
theorem Inv.qL {pins':List (Addr×Obj)} (I:Inv X pins σ H s) (h:∀ p∈pins',s.heap.get? p.1=some p.2/\H p.1=none/\p.1≠X.env.locals/\p.1∉X.fs/\∀ v,p.2.data≠.cell v):Inv X pins' σ H s:=
 ⟨I.ok,I.os,I.bare,I.base,I.loc,I.cell,I.free,I.freeC,fun p hp=>(PL.mp hp).elim (fun z=>I.pin p (Qy _ z)) (h p),I.hok,I.len⟩
theorem xj {N:List Str} (hN:N.Nodup) {i j:Nat} {x:Str} (a:N[i]?=some x) (b:N[j]?=some x):i=j:=by
 obtain ⟨h1,e1⟩:=PF.mp a
 obtain ⟨h2,e2⟩:=PF.mp b
 exact (List.getElem_inj hN).mp (e1.trans e2.symm)
theorem uL {M:Model} {A:Around} {E:Value->Shared->Prop} {i:Nat} {x:Str} {v:V} {u:Value} {Q:Unit->Shared->Prop} (I:Inv X pins σ H s) (hN:X.N.Nodup) (hi:X.N[i]?=some x) (hx:Loc X.env.scope x) (r:RelV v u)
  (h:∀ s',Inv X pins (σ.set i (some v)) H s'->(∃ a,Heap.SameBut a s.heap s'.heap/\(a=X.env.locals\/X.env.cells.lookup x=some a))->Q () s') (hf:X.fn x=true\/X.env.scope.names.lookup x=some .local:=by first | exact .inl rfl | exact .inr rfl | assumption):wpAny M A (storeName X.env x u) Q E s:=by
 obtain ⟨m,hn,hl⟩:=id I.loc
 have hcls:(X.env.scope.kind == .class || (X.env.scope.kind == .module && X.env.locals != X.env.globals))=false:=by rw [I.ok.kind];rfl
 have hiσ:i < σ.length:=by rw [I.len];exact (PF.mp hi).1
 have Ir:=I.Ir
 have tracked:∀ {a:Addr} {h':Heap},(∃ o,s.heap.get? a=some o/\H a=none)->Heap.SameBut a s.heap h'->km X.prog X.w H h':=fun {a h'} ha hs b ob e=>by
  obtain ⟨_,_,hfree⟩:=ha
  refine (I.hok b ob e).rm (fun c w' hc q=>(hs.2 c ?_).trans q) (fun _ q=>q) fun _ _ q=>q
  rintro rfl
  rcases hc with rfl | hc
  ·rw [hfree] at e;cases e
  ·rw [hfree] at hc;cases hc
 rcases hx with hk | hk
 ·refine wpAny_storeName_local hk hn (fun h' hn' hs=>?_) hcls
  obtain ⟨oL,_,_,hoL,_⟩:=id hn
  refine h _ ⟨I.ok,I.os,I.bare,⟨fun b o e n hb hx=>?_,fun b o e n hb hx=>?_,I.base.free,fun b o e hx=>?_,I.base.tups,I.base.frzs,I.base.tbls⟩,⟨_,hn',fun j y v' e1 e2 e3=>?_⟩,fun y c e=>?_,I.free,I.freeC,fun p hp=>?_,tracked ⟨oL,hoL,I.free⟩ hs,by simpa using I.len⟩ ⟨_,hs,.inl rfl⟩
  ·exact (hs.2 b (PM (Pt (Pp e) I.ok.above))).trans (I.base.keep b o e n hb hx)
  ·obtain ⟨sl,e1⟩:=I.base.slot b o e n hb hx
   exact ⟨sl,(hs.2 b (PM (Pt (Pp e) I.ok.above))).trans e1⟩
  ·obtain ⟨o',e1⟩:=I.base.there b o e hx
   exact ⟨o',(hs.2 b (PM (Pt (Pp e) I.ok.above))).trans e1⟩
  ·by_cases hj:j=i
   ·subst hj
    rw [hi] at e1;cases e1
    rw [QA hiσ] at e2
    cases e2
    exact ⟨u,r,.inl ⟨hk,by simp⟩⟩
   ·rw [R9 (Sw hj)] at e2
    obtain ⟨u',r',q⟩:=hl j y v' e1 e2 e3
    refine ⟨u',r',?_⟩
    rcases q with ⟨k,e⟩ | ⟨k,c,e,z⟩
    ·refine .inl ⟨k,?_⟩
     have:y≠x:=fun e=>hj (xj hN e1 (e▸hi))
     simp [this,e]
    ·exact .inr ⟨k,c,e,z.sameBut hs (Ir y c e)⟩
  ·obtain ⟨w',z⟩:=I.cell y c e
   exact ⟨w',z.sameBut hs (Ir y c e)⟩
  ·obtain ⟨e,n,ne,nf,d⟩:=I.pin p hp
   exact ⟨(hs.2 p.1 ne).trans e,n,ne,nf,d⟩
 ·have hfn:X.fn x=true:=by
   rcases hf with z | z
   ·exact z
   ·rw [z] at hk;cases hk
  obtain ⟨c,hc⟩:=I.ok.has x (.inl hk)
  obtain ⟨w',z⟩:=I.cell x c hc
  refine wpAny_storeName_cell I.ok.kind hk hc z (fun h' hc' hs=>?_)
  obtain ⟨oc,hoc,hocd⟩:=id z
  refine h {s with heap:=h'} ⟨I.ok,I.os,I.bare,⟨fun b o e n hb hx=>?_,fun b o e n hb hx=>?_,I.base.free,fun b o e hx=>?_,I.base.tups,I.base.frzs,I.base.tbls⟩,⟨m,hn.sameBut hs (Sw (Ir x c hc)),fun j y v' e1 e2 e3=>?_⟩,fun y c' e=>?_,I.free,I.freeC,fun p hp=>?_,tracked ⟨oc,hoc,I.freeC x c hc⟩ hs,by simpa using I.len⟩ ⟨c,hs,.inr hc⟩
  ·exact (hs.2 b (PM (Pt (Pp e) (I.ok.cab x c hfn hc)))).trans (I.base.keep b o e n hb hx)
  ·obtain ⟨sl,e1⟩:=I.base.slot b o e n hb hx
   exact ⟨sl,(hs.2 b (PM (Pt (Pp e) (I.ok.cab x c hfn hc)))).trans e1⟩
  ·obtain ⟨o',e1⟩:=I.base.there b o e hx
   exact ⟨o',(hs.2 b (PM (Pt (Pp e) (I.ok.cab x c hfn hc)))).trans e1⟩
  ·by_cases hj:j=i
   ·subst hj
    rw [hi] at e1;cases e1
    rw [QA hiσ] at e2
    cases e2
    exact ⟨u,r,.inr ⟨.inl hk,c,hc,hc'⟩⟩
   ·rw [R9 (Sw hj)] at e2
    obtain ⟨u',r',q⟩:=hl j y v' e1 e2 e3
    refine ⟨u',r',?_⟩
    rcases q with q | ⟨k,c',e,z'⟩
    ·exact .inl q
    ·refine .inr ⟨k,c',e,z'.sameBut hs ?_⟩
     rintro rfl
     exact hj (xj hN e1 (I.ok.inj _ _ _ e hc▸hi))
  ·by_cases hcc:c'=c
   ·subst hcc;exact ⟨_,hc'⟩
   ·obtain ⟨w2,z2⟩:=I.cell y c' e
    exact ⟨w2,z2.sameBut hs hcc⟩
  ·obtain ⟨e,n,ne,nf,d⟩:=I.pin p hp
   refine ⟨(hs.2 p.1 ?_).trans e,n,ne,nf,d⟩
   intro q
   rw [q,hoc] at e
   have q':oc=p.2:=Qt e
   exact d w' (by rw [<- q'];exact hocd)
theorem kq {M:Model} {A:Around} {E:Value->Shared->Prop} {i:Nat} {x:Str} {v:V} {u:Value} {Q:Unit->Shared->Prop} (I:Inv X pins σ H s) (hN:X.N.Nodup) (hi:X.N[i]?=some x) (hx:Loc X.env.scope x) (r:RelV v u)
  (h:∀ s',Inv X pins (σ.set i (some v)) H s'->Q () s') (hf:X.fn x=true\/X.env.scope.names.lookup x=some .local:=by first | exact .inl rfl | exact .inr rfl | assumption):wpAny M A (storeName X.env x u) Q E s:=
 uL I hN hi hx r (fun s' I' _=>h s' I') hf
theorem Inv.Hx {s':Shared} {ch:List Addr} (I:Inv X pins σ H s) (ho:s'.os=s.os) (u:Un (uK X.stack) ch H H' s.heap s'.heap) (hok:km X.prog X.w H' s'.heap) (hg:AllBare s'.gens)
  (hch:∀ b∈ch,(b∈X.ex\/X.s₀.heap.objs.size<=b)/\b≠X.env.locals/\(∀ x c,X.env.cells.lookup x=some c->c≠b)/\∀ p∈X.pn++pins,p.1≠b):Inv X pins σ H' s':=by
 obtain ⟨h',g',d',t',o'⟩:=s'
 have e:o'=s.os:=ho
 subst e
 exact I.call (g':=g') (t':=t') (d':=d') u hok hg hch
end
abbrev XK:=Value->Option Addr->Hp->Prop
abbrev St:=List (Option V)
abbrev VK:=V->Hp->Prop
abbrev TE:=St->Hp->VK->Prop
abbrev TT:=St->Hp->(Bool->Hp->Prop)->Prop
abbrev TA:=St->Hp->(List V->Hp->Prop)->Prop
structure Ends where
 nx:St->Hp->Prop
 rt:VK
 bk:St->Hp->Prop:=fun _ _=>False
 ct:St->Hp->Prop:=fun _ _=>False
abbrev TS:=Ends->St->Hp->Prop
def EP (X:Cx) (pins:List (Addr×Obj)) (σ:St) (Q:VK) (u:Value) (s':Shared):Prop:=∃ v H',Inv X pins σ H' s'/\RelV v u/\Q v H'
def TP (X:Cx) (pins:List (Addr×Obj)) (σ:St) (Q:Bool->Hp->Prop) (b:Bool) (s':Shared):Prop:=∃ H',Inv X pins σ H' s'/\Q b H'
def AP (X:Cx) (pins:List (Addr×Obj)) (σ:St) (Q:List V->Hp->Prop) (us:List Value) (s':Shared):Prop:=∃ vs H',Inv X pins σ H' s'/\Vals vs us/\Q vs H'
def SP (X:Cx) (pins:List (Addr×Obj)) (D:Ends) (f:Flow) (s':Shared):Prop:=
 match f with
 | .next=>∃ σ' H',Inv X pins σ' H' s'/\D.nx σ' H'
 | .brk=>∃ σ' H',Inv X pins σ' H' s'/\D.bk σ' H'
 | .cont=>∃ σ' H',Inv X pins σ' H' s'/\D.ct σ' H'
 | .ret u=>∃ v σ' H',Inv X pins σ' H' s'/\RelV v u/\D.rt v H'
def PE (X:Cx) (e:Expr) (t:TE):Prop:=
 ∀ (pins:List (Addr×Obj)) (s:Shared) (σ:St) (H:Hp) (Q:VK),Inv X pins σ H s->t σ H Q->wpAny (model X.prog X.w) X.A (eval e X.env) (EP X pins σ Q) X.xe s
def PT (X:Cx) (e:Expr) (t:TT):Prop:=
 ∀ (pins:List (Addr×Obj)) (s:Shared) (σ:St) (H:Hp) (Q:Bool->Hp->Prop),Inv X pins σ H s->t σ H Q->wpAny (model X.prog X.w) X.A (isTrue e X.env (eval e X.env)) (TP X pins σ Q) X.xe s
def PW (X:Cx) (e:Expr) (t:TT):Prop:=
 ∀ (whole:Sem Value) (pins:List (Addr×Obj)) (s:Shared) (σ:St) (H:Hp) (Q:Bool->Hp->Prop),Inv X pins σ H s->t σ H Q->wpAny (model X.prog X.w) X.A (isTrue e X.env whole) (TP X pins σ Q) X.xe s
theorem PW.pt {X:Cx} {e:Expr} {t:TT} (h:PW X e t):PT X e t:=h _
def PA (X:Cx) (es:List Expr) (t:TA):Prop:=
 ∀ (pos:Pos) (pins:List (Addr×Obj)) (s:Shared) (σ:St) (H:Hp) (Q:List V->Hp->Prop),Inv X pins σ H s->t σ H Q->wpAny (model X.prog X.w) X.A (spliced (backTo pos (starEach es X.env))) (AP X pins σ Q) X.xe s
def PS (X:Cx) (st:Stmt) (t:TS):Prop:=
 ∀ (pins:List (Addr×Obj)) (s:Shared) (σ:St) (H:Hp) (D:Ends),Inv X pins σ H s->t D σ H->wpAny (model X.prog X.w) X.A (exec st X.env) (SP X pins D) X.xe s
def yR (X:Cx) (st:List Stmt) (t:TS):Prop:=
 ∀ (pins:List (Addr×Obj)) (s:Shared) (σ:St) (H:Hp) (D:Ends),Inv X pins σ H s->t D σ H->wpAny (model X.prog X.w) X.A (execs st X.env) (SP X pins D) X.xe s
theorem bV {α:Type} {t:Sem α} {Q Q':α->Shared->Prop} {M:Model} {A:Around} {E:Value->Shared->Prop} {s:Shared} (h:wpAny M A t Q E s) (hQ:∀ a s,Q a s->Q' a s):wpAny M A t Q' E s:=Q9 h hQ fun _ _ x=>x
section
variable {X:Cx}
def MX (i:Nat):TE:=fun σ H Q=>∃ v,σ[i]?=some (some v)/\Q v H
def tC (v:V):TE:=fun _ H Q=>Q v H
theorem Iu {i:Nat} {x:Str} {pos:Pos} (hN:X.N[i]?=some x) (hv:Hw X.env.scope x) (hd:(x == ("__debug__" : Str))=false:=by decide) (hcd:(x == ("__classdict__" : Str))=false:=by decide):PE X (.Name x pos) (MX i):=by
 intro pins s σ H Q I h
 obtain ⟨v,e,h⟩:=h
 obtain ⟨m,hn,hl⟩:=I.loc
 obtain ⟨u,r,l⟩:=hl i x v hN e hv
 have fin:EP X pins σ Q u s:=⟨v,H,I,r,h⟩
 rcases l with ⟨hk,hm⟩ | ⟨hk,c,hc,hcell⟩
 ·exact Tv (wpAny_loadName_local I.ok.kind hk hn hm fin) hd
 ·rcases hk with hk | hk
  ·exact Tv (wpAny_loadName_cell I.ok.kind hk hc hcell fin) hd
  ·exact Tv (wpAny_loadName_free I.ok.kind hk hc hcell fin hcd) hd
theorem oX {i j pos}:PE X (.Constant (.int i) j pos) (tC (.int i)):=fun _ _ _ H _ I h=>wpAny_Constant_int ⟨.int i,H,I.tok _,⟨_,rfl⟩,h⟩
theorem Hy {b j pos}:PE X (.Constant (.bool b) j pos) (tC (.bl b)):=fun _ _ _ H _ I h=>Constant_bool ⟨.bl b,H,I,rfl,h⟩
theorem Iv {j pos}:PE X (.Constant .none j pos) (tC .non):=fun _ _ _ H _ I h=>Constant_none ⟨.non,H,I,rfl,h⟩
theorem yS {x j pos}:PE X (.Constant (.str x) j pos) (tC (.str x)):=fun _ _ _ H _ I h=>Calls.Constant_str ⟨.str x,H,I.tok _,⟨_,rfl⟩,h⟩
def Gl (X:Cx) (x:Str):Prop:=X.env.kindOf x=some .globalImplicit
theorem vP {E:Value->Shared->Prop} {pins:List (Addr×Obj)} {s:Shared} {σ:St} {H:Hp} {x:Str} {u:Value} {pos:Pos} {Q:Value->Shared->Prop} (I:Inv X pins σ H s) (hg:Gl X x) (hm:X.mg x=some u) (h:Q u s)
  (hd:(x == ("__debug__" : Str))=false:=by decide):wpAny (model X.prog X.w) X.A (eval (.Name x pos) X.env) Q E s:=
 Calls.Name_function_global I.ok.kind hg (Calls.loadGlobal_global (by rw [I.ok.glob];exact I.mod.glob.keeps I.bk) hm h) hd
theorem mP {E:Value->Shared->Prop} {pins:List (Addr×Obj)} {s:Shared} {σ:St} {H:Hp} {x:Str} {u:Value} {pos:Pos} {Q:Value->Shared->Prop} (I:Inv X pins σ H s) (hg:Gl X x) (hm:X.mg x=none) (hv:bootBuiltins x=some u) (h:Q u s)
  (hn:x ≠ "__name__" := by decide) (hd:(x == ("__debug__" : Str))=false:=by decide):wpAny (model X.prog X.w) X.A (eval (.Name x pos) X.env) Q E s:=by
 obtain ⟨mb,h1,h2⟩:=I.mod.blt
 exact Calls.Name_function_global I.ok.kind hg (Calls.loadGlobal_builtin (by rw [I.ok.glob];exact I.mod.glob.keeps I.bk) hm (by rw [I.ok.blt];exact h1.keeps I.bk) ((h2 x hn).trans hv) h) hd
theorem vQ {x:Str} {v:V} {u:Value} {pos:Pos} (hg:Gl X x) (hm:X.mg x=some u) (r:RelV v u) (hd:(x == ("__debug__" : Str))=false:=by decide):PE X (.Name x pos) (tC v):=
 fun _ _ _ H _ I h=>vP I hg hm ⟨v,H,I,r,h⟩ hd
theorem FC {x:Str} {v:V} {u:Value} {pos:Pos} (hg:Gl X x) (hm:X.mg x=none) (hv:bootBuiltins x=some u) (r:RelV v u) (hn:x ≠ "__name__" := by decide) (hd:(x == ("__debug__" : Str))=false:=by decide):PE X (.Name x pos) (tC v):=
 fun _ _ _ H _ I h=>mP I hg hm hv ⟨v,H,I,r,h⟩ hn hd
variable {a b:Expr} {ta tb:TE} {pos:Pos}
variable {tA tB':TT} {rest:List Expr}
def vR (t u:TT):TT:=fun σ H Q=>t σ H fun c H1=>if c=true then u σ H1 Q else Q false H1
def yT (t u:TT):TT:=fun σ H Q=>t σ H fun c H1=>if c=true then Q true H1 else u σ H1 Q
def ki (t:TT):TT:=fun σ H Q=>t σ H fun c H1=>Q (!c) H1
theorem FD (ha:PT X a tA):PW X (.BoolOp .And [a] pos) tA:=by
 intro wh pins s σ H Q I h
 refine isTrue_and (bV (ha pins s σ H Q I h) fun c s1 e=>?_)
 cases c with
 | true=>exact isTrue_and_nil e
 | false=>exact e
theorem Iw (ha:PT X a tA):PW X (.BoolOp .Or [a] pos) tA:=by
 intro wh pins s σ H Q I h
 refine isTrue_or (bV (ha pins s σ H Q I h) fun c s1 e=>?_)
 cases c with
 | false=>exact isTrue_or_nil e
 | true=>exact e
theorem Iy (ha:PT X a tA) (hb:PW X (.BoolOp .And (b::rest) pos) tB'):PW X (.BoolOp .And (a::b::rest) pos) (vR tA tB'):=by
 intro wh pins s σ H Q I h
 refine isTrue_and (bV (ha pins s σ H _ I h) fun c s1 ⟨H1,I1,q1⟩=>?_)
 cases c with
 | true=>exact hb wh pins s1 σ H1 Q I1 q1
 | false=>exact ⟨H1,I1,q1⟩
theorem KY (ha:PT X a tA) (hb:PW X (.BoolOp .Or (b::rest) pos) tB'):PW X (.BoolOp .Or (a::b::rest) pos) (yT tA tB'):=by
 intro wh pins s σ H Q I h
 refine isTrue_or (bV (ha pins s σ H _ I h) fun c s1 ⟨H1,I1,q1⟩=>?_)
 cases c with
 | true=>exact ⟨H1,I1,q1⟩
 | false=>exact hb wh pins s1 σ H1 Q I1 q1
theorem Iz (ha:PT X a tA):PT X (.UnaryOp .Not a pos) (ki tA):=by
 intro pins s σ H Q I h
 exact isTrue_not (ha pins s σ H (fun c H1=>Q (!c) H1) I h)
theorem IA {op} {t:TE} (h:PE X a t):PE X (.BoolOp op [a] pos) t:=fun pins s σ H Q I hw=>BoolOp_one (h pins s σ H Q I hw)
end
def iw (K:PySem.W.Frag) (H:Hp) (a:Addr) (xs:List V):Prop:=
 Rd H a (.lst xs) \/
  ∃ (o:Obj) (its:Array Value) (n:Nat),K.lookup a=some o/\o.cls=.type "list" /\ o.dict=none/\o.data=.seq its n/\its.size<=sizeLine/\Vals xs its.toList
def gx (K:PySem.W.Frag) (H:Hp) (a:Addr) (xs:List V):Prop:=
 Rd H a (.tup xs) \/
  ∃ (o:Obj) (its:Array Value) (n:Nat),K.lookup a=some o/\o.cls=.type "tuple" /\ o.data=.seq its n/\its.size<=sizeLine/\Vals xs its.toList
def MY:Value->Option V
 | .none=>some .non
 | .bool b=>some (.bl b)
 | .int i _=>some (.int i)
 | .str x _=>some (.str x)
 | .bytes b _=>some (.byt b)
 | .float b _=>some (.flt b)
 | .ref a=>some (.ref a)
 | .type n=>some (.ty n)
 | _=>none
theorem RelV.abs {x:V} {u:Value} (r:RelV x u):MY u=some x:=by
 cases x with
 | non=>cases r;rfl
 | bl _=>cases r;rfl
 | int _=>obtain ⟨t,rfl⟩:=r;rfl
 | str _=>obtain ⟨t,rfl⟩:=r;rfl
 | byt _=>obtain ⟨t,rfl⟩:=r;rfl
 | flt _=>obtain ⟨t,rfl⟩:=r;rfl
 | ref _=>cases r;rfl
 | ty _=>cases r;rfl
theorem RelV.inj {x y:V} {u:Value} (r:RelV x u) (q:RelV y u):x=y:=Qt (r.abs.symm.trans q.abs)
theorem Vals.inj:∀ {xs ys:List V} {us:List Value},Vals xs us->Vals ys us->xs=ys
 | _,_,_,.nil,.nil=>rfl
 | _,_,_,.cons r t,.cons r' t'=>by rw [r.inj r',Vals.inj t t']
section
variable {X:Cx} {pins:List (Addr×Obj)} {σ:St} {H:Hp} {s:Shared} {a:Addr} {xs ys:List V}
theorem iw.of {K:PySem.W.Frag} (h:H a=some (.lst xs)):iw K H a xs:=.inl (.inl h)
theorem gx.of {K:PySem.W.Frag} (h:H a=some (.tup xs)):gx K H a xs:=.inl (.inl h)
theorem Inv.list (I:Inv X pins σ H s) (h:iw X.K H a xs):∃ its:List Value,Vals xs its/\PlainL s.heap a its.toArray/\xs.length<=sizeLine:=by
 rcases h with h | ⟨o,its,n,hk,hc,hd,hs,hz,r⟩
 ·obtain ⟨z,its,n,r,e⟩:=h.ok I.hok
  exact ⟨its,r,⟨_,n,e,rfl,rfl,rfl⟩,z⟩
 ·refine ⟨its.toList,r,⟨o,n,I.tY a o hk,hc,hd,by simpa using hs⟩,?_⟩
  have e:=r.length
  simp only [Qj] at e
  omega
theorem Inv.tuple (I:Inv X pins σ H s) (h:gx X.K H a xs):∃ its:List Value,Vals xs its/\IsTup s.heap a its.toArray/\xs.length<=sizeLine:=by
 rcases h with h | ⟨o,its,n,hk,hc,hs,hz,r⟩
 ·obtain ⟨z,its,r,p⟩:=h.ok I.hok
  exact ⟨its,r,p,z⟩
 ·refine ⟨its.toList,r,⟨o,I.tY a o hk,hc,n,by simpa using hs⟩,?_⟩
  have e:=r.length
  simp only [Qj] at e
  omega
theorem Inv.CJ (I:Inv X pins σ H s) (h:iw X.K H a xs) (h':iw X.K H a ys):xs=ys:=by
 obtain ⟨its,r,⟨o,n,e,_,_,d⟩,_⟩:=I.list h
 obtain ⟨its',r',⟨o',n',e',_,_,d'⟩,_⟩:=I.list h'
 rw [e] at e';cases e'
 rw [d] at d'
 injection d' with d1 _
 have:its=its':=by simpa using Rv Array.toList d1
 subst this
 exact r.inj r'
theorem Inv.oY (I:Inv X pins σ H s) (h:gx X.K H a xs) (h':gx X.K H a ys):xs=ys:=by
 obtain ⟨its,r,⟨o,e,_,n,d⟩,_⟩:=I.tuple h
 obtain ⟨its',r',⟨o',e',_,n',d'⟩,_⟩:=I.tuple h'
 rw [e] at e';cases e'
 rw [d] at d'
 injection d' with d1 _
 have:its=its':=by simpa using Rv Array.toList d1
 subst this
 exact r.inj r'
end
abbrev Cx.ua (X:Cx) (E:Value->Shared->Prop):Cx:={X with xe:=E}
abbrev Cx.Fq (X:Cx):Cx:=X.ua fun _ _=>False
theorem Cx.Ok.ua {X:Cx} (ok:X.Ok) (E:Value->Shared->Prop):(X.ua E).Ok:=
 ⟨ok.mod,ok.kind,ok.glob,ok.blt,ok.above,ok.inj,ok.has,ok.cab,ok.hd,ok.frames,ok.stk,ok.exf,ok.bs,ok.bsz,ok.noex,ok.exfs,ok.oW,ok.frf⟩
theorem Cx.Ok.ku {X:Cx} {E:Value->Shared->Prop} (ok:(X.ua E).Ok):X.Ok:=
 ⟨ok.mod,ok.kind,ok.glob,ok.blt,ok.above,ok.inj,ok.has,ok.cab,ok.hd,ok.frames,ok.stk,ok.exf,ok.bs,ok.bsz,ok.noex,ok.exfs,ok.oW,ok.frf⟩
section
variable {X:Cx} {pins:List (Addr×Obj)} {σ:St} {H:Hp} {s:Shared} {E:Value->Shared->Prop}
theorem Inv.ua (I:Inv X pins σ H s) (E:Value->Shared->Prop):Inv (X.ua E) pins σ H s:=⟨I.ok.ua E,I.os,I.bare,I.base,I.loc,I.cell,I.free,I.freeC,I.pin,I.hok,I.len⟩
theorem Inv.ku (I:Inv (X.ua E) pins σ H s):Inv X pins σ H s:=⟨I.ok.ku,I.os,I.bare,I.base,I.loc,I.cell,I.free,I.freeC,I.pin,I.hok,I.len⟩
theorem SP.ku {D:Ends} {f:Flow} {s':Shared} (h:SP (X.ua E) pins D f s'):SP X pins D f s':=by
 cases f with
 | next=>obtain ⟨σ',H',I,q⟩:=h;exact ⟨σ',H',I.ku,q⟩
 | brk=>obtain ⟨σ',H',I,q⟩:=h;exact ⟨σ',H',I.ku,q⟩
 | cont=>obtain ⟨σ',H',I,q⟩:=h;exact ⟨σ',H',I.ku,q⟩
 | ret u=>obtain ⟨v,σ',H',I,r,q⟩:=h;exact ⟨v,σ',H',I.ku,r,q⟩
end
section
variable {X:Cx} {st:Stmt} {rest:List Stmt} {t u:TS} {e:Expr} {te:TE} {pos:Pos}
def KZ:TS:=fun D σ H=>D.nx σ H
def MZ (t u:TS):TS:=fun D σ H=>t {D with nx:=u D} σ H
theorem FE:yR X [] KZ:=fun _ _ σ H _ I h=>wpAny_execs_nil ⟨σ,H,I,h⟩
theorem CK (h1:PS X st t) (h2:yR X rest u):yR X (st::rest) (MZ t u):=by
 intro pins s σ H D I h
 refine wpAny_execs_cons (bV (h1 pins s σ H {D with nx:=u D} I h) fun f s1 q=>?_)
 cases f with
 | next=>
  obtain ⟨σ',H',I',q⟩:=q
  exact h2 pins s1 σ' H' D I' q
 | ret v=>exact q
 | brk=>exact q
 | cont=>exact q
theorem FF (h1:PS X st t):yR X [st] t:=by
 intro pins s σ H D I h
 refine wpAny_execs_cons (bV (h1 pins s σ H D I h) fun f s1 q=>?_)
 cases f with
 | next=>exact wpAny_execs_nil q
 | ret v=>exact q
 | brk=>exact q
 | cont=>exact q
theorem Inv.quiet {pins:List (Addr×Obj)} {σ:St} {H:Hp} {s:Shared} (I:Inv X pins σ H s):interactive X.env=false:=by simp [interactive,I.ok.kind]
def K0 (te:TE):TS:=fun D σ H=>te σ H fun _ H1=>D.nx σ H1
theorem FG (he:PE X e te) (hs:swapsWith e none pos.line X.env=pure false:=by rfl):PS X (.Expr e pos) (K0 te):=by
 intro pins s σ H D I h
 exact wpAny_Expr_any (bV (he pins s σ H _ I h) fun v s1 ⟨x,H1,I1,r1,q1⟩=>⟨σ,H1,I1,q1⟩) I.quiet hs
def M0 (te:TE):TS:=fun D σ H=>te σ H D.rt
theorem IB (he:PE X e te):PS X (.Return (some e) pos) (M0 te):=by
 intro pins s σ H D I h
 exact wpAny_Return_some (bV (he pins s σ H _ I h) fun v s1 ⟨x,H1,I1,r1,q1⟩=>⟨x,σ,H1,I1,r1,q1⟩)
def M1 (c:TT) (t u:TS):TS:=fun D σ H=>c σ H fun b H1=>if b=true then t D σ H1 else u D σ H1
theorem K1 {c:Expr} {a b:List Stmt} {tc:TT} (hc:PT X c tc) (ha:yR X a t) (hb:yR X b u):PS X (.If c a b pos) (M1 tc t u):=by
 intro pins s σ H D I h
 refine wpAny_If (bV (hc pins s σ H _ I h) fun d s1 ⟨H1,I1,q1⟩=>?_)
 cases d with
 | true=>exact ha pins s1 σ H1 D I1 q1
 | false=>exact hb pins s1 σ H1 D I1 q1
end
abbrev TG:=V->St->Hp->(St->Hp->Prop)->Prop
abbrev Hz:=List V->St->Hp->(St->Hp->Prop)->Prop
def PG (X:Cx) (target:Expr) (t:TG):Prop:=
 ∀ (pins:List (Addr×Obj)) (s:Shared) (σ:St) (H:Hp) (v:V) (u:Value) (Q:St->Hp->Prop),Inv X pins σ H s->RelV v u->t v σ H Q ->
  wpAny (model X.prog X.w) X.A (assign target X.env u) (fun _ s'=>∃ σ' H',Inv X pins σ' H' s'/\Q σ' H') X.xe s
def KC (X:Cx) (ts:List Expr) (t:Hz):Prop:=
 ∀ (pins:List (Addr×Obj)) (s:Shared) (σ:St) (H:Hp) (vs:List V) (us:List Value) (Q:St->Hp->Prop),Inv X pins σ H s->Vals vs us->t vs σ H Q ->
  wpAny (model X.prog X.w) X.A (assignInOrder ((assignEach ts X.env).map (·.2)) us) (fun _ s'=>∃ σ' H',Inv X pins σ' H' s'/\Q σ' H') X.xe s
abbrev IC:=V->V->V->Hp->(Hp->Prop)->Prop
def ID (X:Cx) (t:IC):Prop:=
 ∀ (pins:List (Addr×Obj)) (s:Shared) (σ:St) (H:Hp) (o i v:V) (ov iv u:Value) (Q:Hp->Prop),Inv X pins σ H s->RelV o ov->RelV i iv->RelV v u->t o i v H Q ->
  wpAny (model X.prog X.w) X.A (setItem ov iv u) (fun _ s'=>∃ H',Inv X pins σ H' s'/\Q H') X.xe s
section
variable {X:Cx} {pos:Pos}
def aB (i:Nat):TG:=fun v σ H Q=>Q (σ.set i (some v)) H
theorem FH {i:Nat} {x:Str} (hN:X.N.Nodup) (hi:X.N[i]?=some x) (hx:Loc X.env.scope x) (hf:X.fn x=true\/X.env.scope.names.lookup x=some .local:=by first | exact .inl rfl | exact .inr rfl | assumption):PG X (.Name x pos) (aB i):=by
 intro pins s σ H v u Q I r h
 exact wpAny_assign_Name (kq I hN hi hx r (fun s' I'=>⟨_,H,I',h⟩) hf)
def ip:Hz:=fun vs σ H Q=>vs=[]/\Q σ H
def bR (t:TG) (u:Hz):Hz:=fun vs σ H Q=>∃ v r,vs=v::r/\t v σ H fun σ' H'=>u r σ' H' Q
theorem FI:KC X [] ip:=by
 intro pins s σ H vs us Q I r h
 obtain ⟨e,h⟩:=h
 subst e
 cases r
 exact assignInOrder_nil ⟨σ,H,I,h⟩
theorem CL {e:Expr} {es:List Expr} {t:TG} {u:Hz} (h1:PG X e t) (h2:KC X es u)
  (hs:(assignEach (e::es) X.env).map (·.2)=assign e X.env::(assignEach es X.env).map (·.2):=by rfl):KC X (e::es) (bR t u):=by
 intro pins s σ H vs us Q I r h
 obtain ⟨v,vr,e1,h⟩:=h
 subst e1
 cases r with
 | cons r rr=>
  rw [hs]
  refine Sx (bV (h1 pins s σ H _ _ _ I r h) fun _ s1 ⟨σ1,H1,I1,q1⟩=>?_)
  exact h2 pins s1 σ1 H1 _ _ Q I1 rr q1
def iq (K:PySem.W.Frag) (n:Nat) (t:Hz):TG:=fun v σ H Q=>∃ a xs,v=.ref a/\gx K H a xs/\xs.length=n/\t xs σ H Q
theorem IE {es:List Expr} {k:Nat} {t:Hz} {n:Nat} (hc:X.calm=true) (h:KC X es t)
  (hn:(assignEach es X.env).length=n:=by rfl) (hst:(assignEach es X.env).findIdx? (·.1)=none:=by rfl):PG X (.Tuple es k pos) (iq X.K n t):=by
 intro pins s σ H v u Q I r hw
 obtain ⟨a,xs,e1,hq,hl,hw⟩:=hw
 subst e1
 cases r
 obtain ⟨its,rv,ht,hz⟩:=I.tuple hq
 refine assign_Tuple_tuple (I.ok.hd hc) ht (by simp [hn,<- hl,rv.length]) hst fun h' hx=>?_
 have I1:Inv X pins σ H {s with heap:=h'}:=I.kept (t':=s.toks) fun b o e=>hx b o (PM (Pp e)) e
 exact h pins _ σ H xs _ Q I1 (by simpa using rv) hw
def xk (to ti:TE) (t:IC):TG:=fun v σ H Q=>to σ H fun o H1=>ti σ H1 fun i H2=>t o i v H2 fun H3=>Q σ H3
theorem IF {o i:Expr} {to ti:TE} {t:IC} (ho:PE X o to) (hi:PE X i ti) (hs:ID X t)
  (ha:∀ v,assign (.Subscript o i pos) X.env v=(do
   let ov <- holding [v] (eval o X.env)
   let iv <- holding [v,ov] (eval i X.env)
   standAt pos
   holding [v,ov,iv] (setItem ov iv v)
   release [v,ov,iv] []):=by intro _;rfl):PG X (.Subscript o i pos) (xk to ti t):=by
 intro pins s σ H v u Q I r h
 rw [ha]
 refine Ph (Qk (bV (ho pins s σ H _ I h) fun ov s1 ⟨x,H1,I1,r1,q1⟩=>?_))
 refine Ph (Qk (bV (hi pins s1 σ H1 _ I1 q1) fun iv s2 ⟨y,H2,I2,r2,q2⟩=>?_))
 refine Ph (Sy (Ph (Qk (bV (hs pins s2 σ H2 x y v ov iv u _ I2 r1 r2 r q2) fun _ s3 ⟨H3,I3,q3⟩=>?_))))
 exact wpAny_release ⟨σ,H3,I3,q3⟩
def FJ (te:TE) (g:TG):TS:=fun D σ H=>te σ H fun x H1=>g x σ H1 D.nx
theorem IG {tg e:Expr} {te:TE} {g:TG} (he:PE X e te) (hg:PG X tg g) (hs:swapsWithSole [tg] e pos.line X.env=pure false:=by rfl) (hw:swappedStores [tg] e X.env=pure none:=by rfl)
  (h1:(assignEach [tg] X.env).map (·.2)=[assign tg X.env]:=by rfl):PS X (.Assign [tg] e pos) (FJ te g):=by
 intro pins s σ H D I h
 refine wpAny_Assign_stores (bV (he pins s σ H _ I h) fun v s1 ⟨x,H1,I1,r1,q1⟩=>?_) hs hw
 rw [h1]
 exact bV (hg pins s1 σ H1 x v _ I1 r1 q1) fun _ s2 q=>q
theorem IH {i:Nat} {x:Str} {e:Expr} {te:TE} {pos':Pos} (hN:X.N.Nodup) (hi:X.N[i]?=some x) (hx:Loc X.env.scope x) (he:PE X e te) (hs:swapsWith e (some (.Name x pos')) pos.line X.env=pure false:=by rfl) (hf:X.fn x=true\/X.env.scope.names.lookup x=some .local:=by first | exact .inl rfl | exact .inr rfl | assumption) :
  PS X (.Assign [.Name x pos'] e pos) (FJ te (aB i)):=by
 intro pins s σ H D I h
 refine wpAny_Assign_Name (bV (he pins s σ H _ I h) fun v s1 ⟨y,H1,I1,r1,q1⟩=>?_) hs
 exact kq I1 hN hi hx r1 (fun s2 I2=>⟨_,H1,I2,q1⟩) hf
end
structure It where
 go:Nat->Hp->Prop
 yld:Nat->Hp->V->Hp->Prop
 stop:Nat->Hp->Prop
def kj (X:Cx) (pins:List (Addr×Obj)) (H:Hp) (b:Addr):Prop:=
 H b=none/\b≠X.env.locals/\b∉X.fs/\(b∈X.ex\/X.s₀.heap.objs.size<=b)/\(∀ x c,X.env.cells.lookup x=some c->c≠b)/\∀ p∈X.pn++pins,p.1≠b
theorem Inv.BJ {X:Cx} {pins:List (Addr×Obj)} {σ:St} {H H':Hp} {s:Shared} {b:Addr} (I:Inv X pins σ H s) (hb:s.heap.objs.size<=b) (hn:H' b=none):kj X pins H' b:=by
 refine ⟨hn,Sk (Pt I.lt hb),I.CI hb,.inr (Pq I.sz hb),fun x c e z=>?_,fun p hp z=>?_⟩
 ·obtain ⟨v,q⟩:=I.cell x c e
  exact absurd (Pt q.lt (by rw [z];exact hb)) (PZ _)
 ·exact absurd (Pt (Pp (I.pin p hp).1) (by rw [z];exact hb)) (PZ _)
structure Turn (P:Program) (w:World) (K:PySem.W.Frag) (tg:Expr) (J:It) (fp:List Addr) (it:Addr) (tn:Nat->Heap->Prop):Prop where
 mem:it∈fp
 obj:∀ i h,tn i h->∀ b∈fp,∃ o,h.get? b=some o/\∀ v,o.data≠.cell v
 keep:∀ i h h',tn i h->(∀ b∈fp,∀ o,h.get? b=some o->h'.get? b=some o)->tn i h'
 item:∀ (X:Cx),X.prog=P->X.w=w->X.K=K->X.calm=true->∀ (i:Nat) (pins:List (Addr×Obj)) (s:Shared) (σ:St) (H:Hp) (E:Value->Shared->Prop),Inv X pins σ H s->(∀ b∈fp,kj X pins H b)->tn i s.heap->J.go i H ->
  wpAny (model P w) X.A (pyNext (.ref it)) (fun r s1=>∃ u,r=some u /\
   wpAny (model P w) X.A (letOwnedTupleGo tg (.ref it) u) (fun _ s2=>∃ x H',Inv X pins σ H' s2/\RelV x u/\J.yld i H x H'/\tn (i+1) s2.heap/\∀ b∈fp,H' b=none) E s1) E s
 done:∀ (X:Cx),X.prog=P->X.w=w->X.K=K->X.calm=true->∀ (i:Nat) (pins:List (Addr×Obj)) (s:Shared) (σ:St) (H:Hp) (E:Value->Shared->Prop),Inv X pins σ H s->(∀ b∈fp,kj X pins H b)->tn i s.heap->J.stop i H ->
  wpAny (model P w) X.A (pyNext (.ref it)) (fun r s1=>r=none/\Inv X pins σ H s1) E s
 self:∀ (A:Around) (i:Nat) (s:Shared) (Q:Value->Shared->Prop) (E:Value->Shared->Prop),tn i s.heap->Q (.ref it) s->wpAny (model P w) A (pyIter (.ref it)) Q E s
abbrev TI:=St->Hp->(It->Hp->Prop)->Prop
def Ol (X:Cx) (pins:List (Addr×Obj)) (σ:St) (tg:Expr) (R:It->Hp->Prop) (itv:Value) (s2:Shared):Prop:=
 ∃ (it:Addr) (fp:List Addr) (tn:Nat->Heap->Prop) (J:It) (H':Hp),itv=.ref it/\Inv X pins σ H' s2/\Turn X.prog X.w X.K tg J fp it tn/\tn 0 s2.heap/\(∀ b∈fp,kj X pins H' b)/\R J H'
def PI (X:Cx) (tg iter:Expr) (wi:TI):Prop:=
 ∀ (pins:List (Addr×Obj)) (s:Shared) (σ:St) (H:Hp) (R:It->Hp->Prop),Inv X pins σ H s->wi σ H R ->
  wpAny (model X.prog X.w) X.A (eval iter X.env) (fun v s1=>wpAny (model X.prog X.w) X.A (pyIter v) (Ol X pins σ tg R) X.xe s1) X.xe s
theorem Al {M:Model} {A:Around} {E:Value->Shared->Prop} {s:Shared} {tg:Expr} {it:Addr} {u:Value} {o:Obj} {n:String} {vs:Array Value} {Q:Unit->Shared->Prop} (ho:s.heap.get? it=some o) (hc:o.cls=.type n) (hd:o.data=.fields vs)
  (hn:["enumerate", "zip", "dict_itemiterator", "dict_reverseitemiterator", "odict_iterator", "itertools.zip_longest", "itertools.pairwise"].contains n=false) (hQ:Q () s):wpAny M A (letOwnedTupleGo tg (.ref it) u) Q E s:=by
 unfold letOwnedTupleGo
 cases tg<;>first
  | exact Pk hQ
  | (cases u<;>first
    | exact Pk hQ
    | (refine Ph (Sl ho ?_)
       rw [hc,hd]
       show wpAny M A (if (["enumerate", "zip", "dict_itemiterator", "dict_reverseitemiterator", "odict_iterator", "itertools.zip_longest", "itertools.pairwise"].contains n && vs[0]? == some (rawInt _))=true then _ else _) Q E s
       rw [if_neg (by intro h;rw [hn,SU] at h;cases h)]
       exact Pk hQ))
def KD (K:PySem.W.Frag) (a:Addr):It:=
 ⟨fun i H=>∃ xs x,iw K H a xs/\xs[i]?=some x,fun i H x H'=>H'=H/\∀ xs,iw K H a xs->xs[i]?=some x,fun i H=>∃ xs,iw K H a xs/\xs.length<=i⟩
def Mc (K:PySem.W.Frag) (a:Addr):It:=
 ⟨fun i H=>∃ xs x,gx K H a xs/\xs[i]?=some x,fun i H x H'=>H'=H/\∀ xs,gx K H a xs->xs[i]?=some x,fun i H=>∃ xs,gx K H a xs/\xs.length<=i⟩
def Md (lo:Int) (n:Nat):It:=⟨fun i _=>i < n,fun i H x H'=>H'=H/\x=.int (lo+i),fun i _=>n<=i⟩
theorem BK {P:Program} {w:World} {K:PySem.W.Frag} {tg:Expr} (a it:Addr):Turn P w K tg (KD K a) [it] it (fun i h=>h.IsListIter it a i) where
 mem:=by simp
 obj:=fun i h st b hb=>by
  have e:b=it:=by simpa using hb
  subst e
  obtain ⟨o,e,c,d⟩:=st
  exact ⟨o,e,fun v z=>by rw [d] at z;cases z⟩
 keep:=fun i h h' st k=>st.at fun o e=>k it (by simp) o e
 item:=by
  intro X hP hw hK hc i pins s σ H E I hf st hg
  subst hP hw hK
  obtain ⟨xs,x,hq,hx⟩:=hg
  obtain ⟨its,rv,p,hz⟩:=I.list hq
  obtain ⟨u,hu,ru⟩:=rv.get hx
  obtain ⟨f0,f1,f2,f3,f4,f5⟩:=hf it (by simp)
  refine wpAny_pyNext_list_item st p.isList (x:=u) (by simpa using hu) fun h' st' sb=>?_
  have I1:Inv X pins σ H {s with heap:=h'}:=I.turned (t':=s.toks) (fun b o hb e=>(sb.2 b hb).trans e) f0 f1 f3 f4 f5
  obtain ⟨o,e,c,d⟩:=id st'
  exact ⟨u,rfl,Al (s:={s with heap:=h'}) e c d (by decide) ⟨x,H,I1,ru,⟨rfl,fun ys hy=>by rw [I.CJ hy hq];exact hx⟩,st',fun b hb=>(hf b hb).1⟩⟩
 done:=by
  intro X hP hw hK hc i pins s σ H E I hf st hg
  subst hP hw hK
  obtain ⟨xs,hq,hx⟩:=hg
  obtain ⟨its,rv,p,hz⟩:=I.list hq
  obtain ⟨f0,f1,f2,f3,f4,f5⟩:=hf it (by simp)
  have hl:=rv.length
  exact wpAny_pyNext_list_end (I.ok.hd hc) st p.isList (by simp;omega) fun h' eb=>⟨rfl,I.turned (t':=s.toks) (fun b o hb e=>eb b o hb e) f0 f1 f3 f4 f5⟩
 self:=fun _ _ _ _ _ st h=>wpAny_pyIter_listiter st h
theorem yU {P:Program} {w:World} {K:PySem.W.Frag} {tg:Expr} (a it:Addr):Turn P w K tg (Mc K a) [it] it (fun i h=>h.IsTupleIter it a i) where
 mem:=by simp
 obj:=fun i h st b hb=>by
  have e:b=it:=by simpa using hb
  subst e
  obtain ⟨o,e,c,d⟩:=st
  exact ⟨o,e,fun v z=>by rw [d] at z;cases z⟩
 keep:=fun i h h' st k=>st.at fun o e=>k it (by simp) o e
 item:=by
  intro X hP hw hK hc i pins s σ H E I hf st hg
  subst hP hw hK
  obtain ⟨xs,x,hq,hx⟩:=hg
  obtain ⟨its,rv,p,hz⟩:=I.tuple hq
  obtain ⟨u,hu,ru⟩:=rv.get hx
  obtain ⟨f0,f1,f2,f3,f4,f5⟩:=hf it (by simp)
  refine wpAny_pyNext_tuple_item st (show s.heap.IsTuple a its.toArray from p) (x:=u) (by simpa using hu) fun h' st' sb=>?_
  have I1:Inv X pins σ H {s with heap:=h'}:=I.turned (t':=s.toks) (fun b o hb e=>(sb.2 b hb).trans e) f0 f1 f3 f4 f5
  obtain ⟨o,e,c,d⟩:=id st'
  exact ⟨u,rfl,Al (s:={s with heap:=h'}) e c d (by decide) ⟨x,H,I1,ru,⟨rfl,fun ys hy=>by rw [I.oY hy hq];exact hx⟩,st',fun b hb=>(hf b hb).1⟩⟩
 done:=by
  intro X hP hw hK hc i pins s σ H E I hf st hg
  subst hP hw hK
  obtain ⟨xs,hq,hx⟩:=hg
  obtain ⟨its,rv,p,hz⟩:=I.tuple hq
  obtain ⟨f0,f1,f2,f3,f4,f5⟩:=hf it (by simp)
  have hl:=rv.length
  exact wpAny_pyNext_tuple_end (I.ok.hd hc) st (show s.heap.IsTuple a its.toArray from p) (by simp;omega) fun h' eb=>⟨rfl,I.turned (t':=s.toks) (fun b o hb e=>eb b o hb e) f0 f1 f3 f4 f5⟩
 self:=fun _ _ _ _ _ st h=>wpAny_pyIter_tupleiter st h
theorem yV {P:Program} {w:World} {K:PySem.W.Frag} {tg:Expr} (it:Addr) (lo:Int) (n:Nat):Turn P w K tg (Md lo n) [it] it (fun i h=>IsRangeIter h it (lo+(i:Nat) * 1) ((n:Int) - (i:Nat)) 1) where
 mem:=by simp
 obj:=fun i h st b hb=>by
  have e:b=it:=by simpa using hb
  subst e
  exact ⟨_,st,fun v z=>by
   have z':Data.fields _=Data.cell v:=z
   cases z'⟩
 keep:=fun i h h' st k=>k it (by simp) _ st
 item:=by
  intro X hP hw hK hc i pins s σ H E I hf st hg
  subst hP hw hK
  obtain ⟨f0,f1,f2,f3,f4,f5⟩:=hf it (by simp)
  have W:=Walks.range (prog:=X.prog) (w:=X.w) (I.ok.hd hc) it lo 1 n
  refine W.item i s _ _ hg st fun v h' tk hv st' kk=>?_
  obtain ⟨t,rfl⟩:=hv
  have I1:Inv X pins σ H {s with heap:=h',toks:=tk}:=I.turned (fun b o hb e=>kk b o (by simpa using hb) e) f0 f1 f3 f4 f5
  refine ⟨_,rfl,Al (s:={s with heap:=h',toks:=tk}) (n := "range_iterator") st' rfl rfl (by decide) ⟨.int (lo+i),H,I1,⟨t,?_⟩,⟨rfl,rfl⟩,st',fun b hb=>(hf b hb).1⟩⟩
  rw [Int.mul_one]
 done:=by
  intro X hP hw hK hc i pins s σ H E I hf st hg
  subst hP hw hK
  obtain ⟨f0,f1,f2,f3,f4,f5⟩:=hf it (by simp)
  exact wpAny_pyNext_range_end (I.ok.hd hc) st (by have:n<=i:=hg;omega) fun h' eb=>⟨rfl,I.turned (t':=s.toks) (fun b o hb e=>eb b o hb e) f0 f1 f3 f4 f5⟩
 self:=fun _ _ _ _ _ st h=>wpAny_pyIter_rangeiter st h
section
variable {X:Cx} {tg:Expr}
def K2 (K:PySem.W.Frag) (tl:TE):TI:=fun σ H R=>tl σ H fun x H1=>∃ a,x=.ref a/\(∃ xs,iw K H1 a xs)/\R (KD K a) H1
def M3 (K:PySem.W.Frag) (tl:TE):TI:=fun σ H R=>tl σ H fun x H1=>∃ a,x=.ref a/\(∃ xs,gx K H1 a xs)/\R (Mc K a) H1
theorem Am {l:Expr} {tl:TE} (hl:PE X l tl):PI X tg l (K2 X.K tl):=by
 intro pins s σ H R I h
 refine bV (hl pins s σ H _ I h) fun v s1 ⟨x,H1,I1,r1,q1⟩=>?_
 obtain ⟨a,e,⟨xs,hq⟩,q⟩:=q1
 subst e
 cases r1
 obtain ⟨its,rv,p,hz⟩:=I1.list hq
 refine wpAny_pyIter_list p.isList ?_
 refine ⟨s1.heap.objs.size,[s1.heap.objs.size],_,_,H1,rfl,I1.kept (t':=s1.toks) fun b o e=>Pj _ e,BK a _,⟨_,Po _ rfl,rfl,rfl⟩,fun b hb=>?_,q⟩
 have e:b=s1.heap.objs.size:=by simpa using hb
 subst e
 exact I1.BJ (Pm _) (I1.hok.fresh (Pm _))
theorem CM {l:Expr} {tl:TE} (hl:PE X l tl):PI X tg l (M3 X.K tl):=by
 intro pins s σ H R I h
 refine bV (hl pins s σ H _ I h) fun v s1 ⟨x,H1,I1,r1,q1⟩=>?_
 obtain ⟨a,e,⟨xs,hq⟩,q⟩:=q1
 subst e
 cases r1
 obtain ⟨its,rv,p,hz⟩:=I1.tuple hq
 refine Sz (show s1.heap.IsTuple a its.toArray from p) ?_
 refine ⟨s1.heap.objs.size,[s1.heap.objs.size],_,_,H1,rfl,I1.kept (t':=s1.toks) fun b o e=>Pj _ e,yU a _,⟨_,Po _ rfl,rfl,rfl⟩,fun b hb=>?_,q⟩
 have e:b=s1.heap.objs.size:=by simpa using hb
 subst e
 exact I1.BJ (Pm _) (I1.hok.fresh (Pm _))
theorem CN {pins:List (Addr×Obj)} {σ:St} {H:Hp} {s:Shared} {R:It->Hp->Prop} {E:Value->Shared->Prop} {lo hi:Int} {t u v:Tok} {tk:Nat} (I:Inv X pins σ H s) (h1:-(2 ^ 62)<=lo) (h2:lo < 2 ^ 62) (h3:-(2 ^ 62)<=hi) (h4:hi < 2 ^ 62)
  (q:R (Md lo (hi - lo).toNat) H):wpAny (model X.prog X.w) X.A (pyIter (.ref s.heap.objs.size)) (Ol X pins σ tg R) E {s with heap:=s.heap.push {cls:=.type "range",data:=.fields #[.int lo t,.int hi u,.int 1 v]},toks:=tk}:=by
 refine wpAny_pyIter_range (IsRange.new ..) (small_one h1 h2 h3 h4) ?_
 have I1:Inv X pins σ H {s with heap:=s.heap.push {cls:=.type "range",data:=.fields #[.int lo t,.int hi u,.int 1 v]},toks:=tk}:=I.kept fun b o e=>Pj _ e
 refine ⟨(s.heap.push {cls:=.type "range",data:=.fields #[.int lo t,.int hi u,.int 1 v]}).objs.size,[(s.heap.push {cls:=.type "range",data:=.fields #[.int lo t,.int hi u,.int 1 v]}).objs.size],_,_,H,rfl,
  I1.kept (t':=tk) fun b o e=>Pj _ e,yV _ lo (hi - lo).toNat,?_,fun b hb=>?_,q⟩
 ·have e1:lo+((0:Nat):Int) * 1=lo:=by simp
  have e2:(((hi - lo).toNat:Nat):Int) - ((0:Nat):Int)=Builtin.Range.rangeSize lo hi 1:=by rw [rangeSize_one];split<;>omega
  show IsRangeIter _ _ (lo+((0:Nat):Int) * 1) ((((hi - lo).toNat:Nat):Int) - ((0:Nat):Int)) 1
  rw [e1,e2]
  exact Po _ rfl
 ·have e:b=(s.heap.push {cls:=.type "range",data:=.fields #[.int lo t,.int hi u,.int 1 v]}).objs.size:=by simpa using hb
  subst e
  exact I1.BJ (Pm _) (I1.hok.fresh (Pm _))
def K3 (ta:TA):TI:=fun σ H R=>ta σ H fun vs H1=>∃ j:Int,vs=[.int j]/\-(2 ^ 62)<=j/\j < 2 ^ 62/\R (Md 0 j.toNat) H1
theorem BL {a:Expr} {ta:TA} {p pos:Pos} (hg:Gl X "range") (hm:X.mg "range" = none) (ha:PA X [a] ta) (hs:starEach [a] X.env=[(false,eval a X.env)]:=by rfl):PI X tg (.Call (.Name "range" p) [a] [] pos) (K3 ta):=by
 intro pins s σ H R I h
 refine Call_ (mP I hg hm boot_range (Ra (bV (ha pos pins s σ H _ I h) fun us s1 ⟨vs,H1,I1,r1,q1⟩=>?_) hs rfl))
 obtain ⟨j,e,q1,q2,q⟩:=q1
 subst e
 cases r1 with
 | cons r rr=>
  cases rr
  obtain ⟨t,rfl⟩:=r
  exact call_range_1 (CN I1 (by omega) (by omega) q1 q2 (by simpa using q))
def M4 (wi:TI) (g:TG) (tb:TS):TS:=fun D σ H=>wi σ H fun J H1=>∃ W:Nat->Nat->St->Hp->Prop,(∃ m,W 0 m σ H1)/\∀ i m σ H,W i m σ H ->
 (J.stop i H/\D.nx σ H)\/(J.go i H/\∃ N:St->Hp->Prop,(∀ σ' H',N σ' H'->∃ m',m' < m/\W (i+1) m' σ' H')/\∀ x H',J.yld i H x H'->g x σ H' fun σ2 H2=>tb {D with nx:=N,ct:=N,bk:=D.nx} σ2 H2)
def fe (fp:List Addr) (h:Heap):List (Addr×Obj):=fp.filterMap fun b=>(h.get? b).map fun o=>(b,o)
theorem cB {fp:List Addr} {h:Heap} {b:Addr} {o:Obj} (hb:b∈fp) (e:h.get? b=some o):(b,o)∈fe fp h:=RS.mpr ⟨b,hb,by rw [e];rfl⟩
theorem jm {fp:List Addr} {h:Heap} {p:Addr×Obj} (hp:p∈fe fp h):p.1∈fp/\h.get? p.1=some p.2:=by
 obtain ⟨b,hb,e⟩:=RS.mp hp
 cases q:h.get? b with
 | none=>rw [q] at e;cases e
 | some o=>
  rw [q] at e
  have e':(b,o)=p:=Qt e
  subst e'
  exact ⟨hb,q⟩
theorem Inv.pinned {pins:List (Addr×Obj)} {σ:St} {H:Hp} {s:Shared} {fp:List Addr} (I:Inv X pins σ H s) (hf:∀ b∈fp,kj X pins H b) (ho:∀ b∈fp,∃ o,s.heap.get? b=some o/\∀ v,o.data≠.cell v):Inv X (pins++fe fp s.heap) σ H s:=
 I.qL fun p hp=>(PL.mp hp).elim (fun z=>I.pin p (PD _ z)) fun z=>by
  obtain ⟨hb,e⟩:=jm z
  obtain ⟨f0,f1,f2,_⟩:=hf p.1 hb
  obtain ⟨o,e',d⟩:=ho p.1 hb
  rw [e] at e';cases e'
  exact ⟨e,f0,f1,f2,d⟩
theorem Inv.nG {pins pl:List (Addr×Obj)} {σ:St} {H:Hp} {s:Shared} (I:Inv X (pins++pl) σ H s):Inv X pins σ H s:=I.qL fun p hp=>I.pin p (PD _ (Qy _ hp))
theorem CO {iter:Expr} {body:List Stmt} {wi:TI} {g:TG} {tb:TS} {pos:Pos} (hp:PassesOwn (model X.prog X.w) X.A X.env X.xe) (hc:X.calm=true) (hi:PI X tg iter wi) (hg:PG X tg g) (hb:yR X body tb)
  (hs:∀ x,foldedSetIterable iter X.env x=pure x:=by intro _;rfl):PS X (.For tg iter body [] pos) (M4 wi g tb):=by
 intro pins s σ H D I h
 refine wpAny_For (bV (hi pins s σ H _ I h) fun v s1 h1=>bV h1 fun itv s2 h2=>?_) hs
 obtain ⟨it,fp,tn,J,H2,e,I2,T,st2,f2,W,⟨m0,w0⟩,turn⟩:=h2
 subst e
 have stat:∀ {H':Hp},(∀ b∈fp,H' b=none)->∀ b∈fp,kj X pins H' b:=fun hn b hb=>⟨hn b hb,(f2 b hb).2⟩
 refine codeAny_forLoop_any (fun n s'=>∃ i σ' H',Inv X pins σ' H' s'/\tn i s'.heap/\(∀ b∈fp,H' b=none)/\W i n σ' H') ?_ m0 ⟨0,σ,H2,I2,st2,fun b hb=>(f2 b hb).1,w0⟩
 rintro n s3 ⟨i,σ3,H3,I3,st3,fr3,w3⟩
 rcases turn i n σ3 H3 w3 with ⟨stop,qn⟩ | ⟨go,N,hN,step⟩
 ·refine SD hp (bV (T.done X rfl rfl rfl hc i pins s3 σ3 H3 X.xe I3 (stat fr3) st3 stop) fun r s4 ⟨hr,I4⟩=>?_)
  subst hr
  exact wpAny_execs_nil ⟨σ3,H3,I4,qn⟩
 ·refine SD hp (bV (T.item X rfl rfl rfl hc i pins s3 σ3 H3 X.xe I3 (stat fr3) st3 go) fun r s4 ⟨u,hr,h4⟩=>?_)
  subst hr
  refine SD hp (bV h4 fun _ s5 ⟨x,H5,I5,r5,y5,st5,fr5⟩=>?_)
  have I5':=I5.pinned (stat fr5) (T.obj _ _ st5)
  refine SD hp (bV (hg _ s5 σ3 H5 x u _ I5' r5 (step x H5 y5)) fun _ s6 ⟨σ6,H6,I6,q6⟩=>?_)
  refine SD hp (bV (hb _ s6 σ6 H6 _ I6 q6) fun f s7 q7=>?_)
  have again:∀ {σ7:St} {H7:Hp},Inv X (pins++fe fp s5.heap) σ7 H7 s7->N σ7 H7->∃ m,m < n/\∃ i σ' H',Inv X pins σ' H' s7/\tn i s7.heap/\(∀ b∈fp,H' b=none)/\W i m σ' H':=fun {σ7 H7} I7 n7=>by
   obtain ⟨m',hm,w7⟩:=hN σ7 H7 n7
   refine ⟨m',hm,i+1,σ7,H7,I7.nG,T.keep _ _ _ st5 fun b hb o e=>(I7.pin (b,o) (PD _ (PD _ (cB hb e)))).1,fun b hb=>?_,w7⟩
   obtain ⟨o,e,d⟩:=T.obj _ _ st5 b hb
   exact (I7.pin (b,o) (PD _ (PD _ (cB hb e)))).2.1
  cases f with
  | next=>obtain ⟨σ7,H7,I7,n7⟩:=q7;exact again I7 n7
  | cont=>obtain ⟨σ7,H7,I7,n7⟩:=q7;exact again I7 n7
  | brk=>obtain ⟨σ7,H7,I7,q7⟩:=q7;exact ⟨σ7,H7,I7.nG,q7⟩
  | ret v=>obtain ⟨x7,σ7,H7,I7,r7,q7⟩:=q7;exact ⟨x7,σ7,H7,I7.nG,r7,q7⟩
end
abbrev R2:=V->V->Hp->VK->Prop
def ik (X:Cx) (f:Value->Value->Sem Value) (r:R2):Prop:=
 ∀ (pins:List (Addr×Obj)) (s:Shared) (σ:St) (H:Hp) (x y:V) (v u:Value) (Q:VK),Inv X pins σ H s->RelV x v->RelV y u->r x y H Q ->
  wpAny (model X.prog X.w) X.A (f v u) (EP X pins σ Q) X.xe s
def M5 (X:Cx) (f:Value->Sem Value) (r:V->Hp->VK->Prop):Prop:=
 ∀ (pins:List (Addr×Obj)) (s:Shared) (σ:St) (H:Hp) (x:V) (v:Value) (Q:VK),Inv X pins σ H s->RelV x v->r x H Q ->
  wpAny (model X.prog X.w) X.A (f v) (EP X pins σ Q) X.xe s
def df (X:Cx) (f:Value) (r:List V->Hp->VK->Prop):Prop:=
 ∀ (pins:List (Addr×Obj)) (s:Shared) (σ:St) (H:Hp) (xs:List V) (us:List Value) (Q:VK),Inv X pins σ H s->Vals xs us->r xs H Q ->
  wpAny (model X.prog X.w) X.A (call f us) (EP X pins σ Q) X.xe s
def II (X:Cx) (r:V->Hp->(Bool->Hp->Prop)->Prop):Prop:=
 ∀ (pins:List (Addr×Obj)) (s:Shared) (σ:St) (H:Hp) (x:V) (v:Value) (Q:Bool->Hp->Prop),Inv X pins σ H s->RelV x v->r x H Q ->
  wpAny (model X.prog X.w) X.A (truthy v) (TP X pins σ Q) X.xe s
def K4 (r:R2) (ta tb:TE):TE:=fun σ H Q=>ta σ H fun x H1=>tb σ H1 fun y H2=>r x y H2 Q
def OR (r:V->Hp->VK->Prop) (ta:TE):TE:=fun σ H Q=>ta σ H fun x H1=>r x H1 Q
def rI (C:Int->Int->Prop) (g:Int->Int->V):R2:=fun x y H Q=>∃ i j,x=.int i/\y=.int j/\C i j/\Q (g i j) H
def HA (g:Int->Int->V):R2:=fun x y H Q=>∃ i j,x=.int i/\y=.int j/\Q (g i j) H
def rU (g:Int->V):V->Hp->VK->Prop:=fun x H Q=>∃ i,x=.int i/\Q (g i) H
section
variable {X:Cx} {a b c:Expr} {ta tb tc:TE} {pos:Pos}
theorem IJ (ha:PE X a ta) (hb:PE X b tb) {pins:List (Addr×Obj)} {s:Shared} {σ:St} {H:Hp} {R:V->V->Hp->Prop} (I:Inv X pins σ H s)
  (h:ta σ H fun x H1=>tb σ H1 fun y H2=>R x y H2) {Q:Value->Shared->Prop} {f:Value->Value->Sem Value}
  (hf:∀ v u s2 x y H2,Inv X pins σ H2 s2->RelV x v->RelV y u->R x y H2->wpAny (model X.prog X.w) X.A (f v u) Q X.xe s2) :
  wpAny (model X.prog X.w) X.A (eval a X.env) (fun v s₁=>wpAny (model X.prog X.w) X.A (eval b X.env) (fun u s₂=>wpAny (model X.prog X.w) X.A (f v u) Q X.xe s₂) X.xe s₁) X.xe s:=by
 refine bV (ha pins s σ H _ I h) fun v s1 ⟨x,H1,I1,r1,q1⟩=>?_
 refine bV (hb pins s1 σ H1 _ I1 q1) fun u s2 ⟨y,H2,I2,r2,q2⟩=>?_
 exact hf v u s2 x y H2 I2 r1 r2 q2
theorem HB {op:Operator} {r:R2} (ho:ik X (binaryOp op) r) (ha:PE X a ta) (hb:PE X b tb):PE X (.BinOp a op b pos) (K4 r ta tb):=by
 intro pins s σ H Q I h
 exact wpAny_BinOp (IJ ha hb I h fun v u s2 x y H2 I2 rx ry q=>ho pins s2 σ H2 x y v u Q I2 rx ry q)
theorem K5 {op:UnaryOp} {r:V->Hp->VK->Prop} (ho:M5 X (unaryOp op) r) (ha:PE X a ta):PE X (.UnaryOp op a pos) (OR r ta):=by
 intro pins s σ H Q I h
 exact UnaryOp_ (bV (ha pins s σ H _ I h) fun v s1 ⟨x,H1,I1,r1,q1⟩=>ho pins s1 σ H1 x v Q I1 r1 q1)
theorem Me {f:Value->Value->Sem Value} {C:Int->Int->Prop} {g:Int->Int->Int}
  (rule:∀ (i j:Int) (t u:Tok) (s:Shared) (Q:Value->Shared->Prop) (E:Value->Shared->Prop),C i j->Q (.int (g i j) s.toks) {s with toks:=s.toks+1}->wpAny (model X.prog X.w) X.A (f (.int i t) (.int j u)) Q E s) :
  ik X f (rI C fun i j=>.int (g i j)):=by
 intro pins s σ H x y v u Q I rx ry h
 obtain ⟨i,j,rfl,rfl,hc,q⟩:=h
 obtain ⟨t,rfl⟩:=rx
 obtain ⟨t',rfl⟩:=ry
 exact rule i j t t' s _ _ hc ⟨.int (g i j),H,I.tok _,⟨_,rfl⟩,q⟩
theorem K6 {f:Value->Value->Sem Value} {g:Int->Int->Int}
  (rule:∀ (i j:Int) (t u:Tok) (s:Shared) (Q:Value->Shared->Prop) (E:Value->Shared->Prop),Q (.int (g i j) s.toks) {s with toks:=s.toks+1}->wpAny (model X.prog X.w) X.A (f (.int i t) (.int j u)) Q E s) :
  ik X f (HA fun i j=>.int (g i j)):=by
 intro pins s σ H x y v u Q I rx ry h
 obtain ⟨i,j,rfl,rfl,q⟩:=h
 obtain ⟨t,rfl⟩:=rx
 obtain ⟨t',rfl⟩:=ry
 exact rule i j t t' s _ _ ⟨.int (g i j),H,I.tok _,⟨_,rfl⟩,q⟩
theorem IK {f:Value->Value->Sem Value} {g:Int->Int->Bool}
  (rule:∀ (i j:Int) (t u:Tok) (s:Shared) (Q:Value->Shared->Prop) (E:Value->Shared->Prop),Q (.bool (g i j)) s->wpAny (model X.prog X.w) X.A (f (.int i t) (.int j u)) Q E s) :
  ik X f (HA fun i j=>.bl (g i j)):=by
 intro pins s σ H x y v u Q I rx ry h
 obtain ⟨i,j,rfl,rfl,q⟩:=h
 obtain ⟨t,rfl⟩:=rx
 obtain ⟨t',rfl⟩:=ry
 exact rule i j t t' s _ _ ⟨.bl (g i j),H,I,rfl,q⟩
def K7 (i j:Int):Prop:=0 < j/\j < 1073741824
def M6 (i j:Int):Prop:=0<=j/\j<=1000000/\i.natAbs < 2 ^ 64
def IL (i j:Int):Prop:=(-(2 ^ 64) < i/\i < 2 ^ 64)\/(-(2 ^ 64) < j/\j < 2 ^ 64)
theorem IL.ok {i j:Int} (h:IL i j):IntMulOk i j:=by
 rcases h with ⟨h1,h2⟩ | ⟨h1,h2⟩
 ·exact .of_left (intBits_le_64 h1 h2)
 ·exact .of_right (intBits_le_64 h1 h2)
theorem IM:ik X (binaryOp .Add) (HA fun i j=>.int (i+j)):=K6 fun _ _ _ _ _ _ _ q=>add_int q
theorem IP:ik X (binaryOp .Sub) (HA fun i j=>.int (i - j)):=K6 fun _ _ _ _ _ _ _ q=>sub_int q
theorem IQ:ik X (binaryOp .Mult) (rI IL fun i j=>.int (i * j)):=Me fun _ _ _ _ _ _ _ hc q=>mul_int q hc.ok
theorem FK:ik X (binaryOp .FloorDiv) (rI K7 fun i j=>.int (i / j)):=Me fun i j _ _ _ _ _ hc q=>by
 have h1:(0:Int) < j:=hc.1
 have h2:j < 1073741824:=hc.2
 exact floordiv_int (by omega) (by rw [Int.fdiv_eq_ediv_of_nonneg i (by omega)];exact q) (.inl (PyProof.noPylong_small (by omega)))
theorem IS:ik X (binaryOp .Mod) (rI (fun _ j=>0 < j) fun i j=>.int (i % j)):=Me fun i j _ _ _ _ _ hc q=>by
 have h1:(0:Int) < j:=hc
 exact mod_int' (by omega) (by rw [Int.fmod_eq_emod_of_nonneg i (by omega)];exact q)
theorem IT:ik X (binaryOp .Pow) (rI M6 fun i j=>.int (i ^ j.toNat)):=Me fun _ _ _ _ _ _ _ hc q=>pow_int_small hc.1 hc.2.1 hc.2.2 q
theorem OS {f:Value->Sem Value} {g:Int->Int}
  (rule:∀ (i:Int) (t:Tok) (s:Shared) (Q:Value->Shared->Prop) (E:Value->Shared->Prop),Q (.int (g i) s.toks) {s with toks:=s.toks+1}->wpAny (model X.prog X.w) X.A (f (.int i t)) Q E s) :
  M5 X f (rU fun i=>.int (g i)):=by
 intro pins s σ H x v Q I rx h
 obtain ⟨i,rfl,q⟩:=h
 obtain ⟨t,rfl⟩:=rx
 exact rule i t s _ _ ⟨.int (g i),H,I.tok _,⟨_,rfl⟩,q⟩
theorem IU:M5 X (unaryOp .USub) (rU fun i=>.int (-i)):=OS fun _ _ _ _ _ q=>neg_int q
end
def K8:V->V->Bool
 | .non,.non=>true | .non,.int _=>true | .int _,.non=>true | .non,.bl _=>true | .bl _,.non=>true | .non,.str _=>true | .str _,.non=>true
 | .int _,.int _=>true | .bl _,.bl _=>true | .str _,.str _=>true | .byt _,.byt _=>true
 | .int _,.str _=>true | .str _,.int _=>true | .bl _,.str _=>true | .str _,.bl _=>true
 | _,_=>false
def OT:R2:=fun x y H Q=>K8 x y=true/\Q (.bl (decide (x=y))) H
def OU:R2:=fun x y H Q=>K8 x y=true/\Q (.bl (!decide (x=y))) H
theorem An {i j:Int}:decide (V.int i=V.int j)=(i == j):=by
 rw [QB]
 simp
theorem CP {i j:Bool}:decide (V.bl i=V.bl j)=(i == j):=by
 rw [QB]
 simp
theorem Ao {i j:Str}:decide (V.str i=V.str j)=(i == j):=by
 rw [QB]
 simp
theorem Ap {i j:Array UInt8}:decide (V.byt i=V.byt j)=(i.toList == j.toList):=by
 rw [QB]
 cases i
 cases j
 simp
section
variable {X:Cx} {a b c:Expr} {ta tb tc:TE} {pos:Pos}
theorem br {pins:List (Addr×Obj)} {σ:St} {H:Hp} {s:Shared} {Q:VK} {k k':Bool} (I:Inv X pins σ H s) (q:Q (.bl k) H) (e:k=k'):EP X pins σ Q (.bool k') s:=by
 subst e
 exact ⟨.bl k,H,I,rfl,q⟩
theorem K9:ik X (compareOp .Eq) OT:=by
 intro pins s σ H x y v u Q I rx ry h
 obtain ⟨hs,q⟩:=h
 cases x with
 | non=>
  cases rx
  cases y with
  | non=>cases ry;exact PySem.EqNone.eq_none_none (br I q (by simp))
  | bl j=>cases ry;exact PySem.EqNone.eq_none_bool (br I q (by simp))
  | int j=>obtain ⟨t',rfl⟩:=ry;exact PySem.EqNone.eq_none_int (br I q (by simp))
  | str j=>obtain ⟨t',rfl⟩:=ry;exact PySem.EqNone.eq_none_str (br I q (by simp))
  | _=>exact absurd (show false=true from hs) P5
 | bl i=>
  cases rx
  cases y with
  | non=>cases ry;exact PySem.EqNone.eq_bool_none (br I q (by simp))
  | bl j=>cases ry;exact eq_bool (br I q CP)
  | str j=>obtain ⟨t',rfl⟩:=ry;exact PySem.EqMixed.eq_bool_str (br I q (by simp))
  | _=>exact absurd (show false=true from hs) P5
 | int i=>
  obtain ⟨t,rfl⟩:=rx
  cases y with
  | non=>cases ry;exact PySem.EqNone.eq_int_none (br I q (by simp))
  | int j=>obtain ⟨t',rfl⟩:=ry;exact eq_int (br I q An)
  | str j=>obtain ⟨t',rfl⟩:=ry;exact PySem.EqMixed.eq_int_str (br I q (by simp))
  | _=>exact absurd (show false=true from hs) P5
 | str i=>
  obtain ⟨t,rfl⟩:=rx
  cases y with
  | non=>cases ry;exact PySem.EqNone.eq_str_none (br I q (by simp))
  | bl j=>cases ry;exact PySem.EqMixed.eq_str_bool (br I q (by simp))
  | int j=>obtain ⟨t',rfl⟩:=ry;exact PySem.EqMixed.eq_str_int (br I q (by simp))
  | str j=>obtain ⟨t',rfl⟩:=ry;exact eq_str (br I q Ao)
  | _=>exact absurd (show false=true from hs) P5
 | byt i=>
  obtain ⟨t,rfl⟩:=rx
  cases y with
  | byt j=>obtain ⟨t',rfl⟩:=ry;exact PySem.W.eq_bytes (br I q Ap)
  | _=>exact absurd (show false=true from hs) P5
 | _=>cases y<;>exact absurd (show false=true from hs) P5
theorem La:ik X (compareOp .NotEq) OU:=by
 intro pins s σ H x y v u Q I rx ry h
 obtain ⟨hs,q⟩:=h
 cases x with
 | non=>
  cases rx
  cases y with
  | non=>cases ry;exact PySem.EqNone.ne_none_none (br I q (by simp))
  | bl j=>cases ry;exact PySem.EqNone.ne_none_bool (br I q (by simp))
  | int j=>obtain ⟨t',rfl⟩:=ry;exact PySem.EqNone.ne_none_int (br I q (by simp))
  | str j=>obtain ⟨t',rfl⟩:=ry;exact PySem.EqNone.ne_none_str (br I q (by simp))
  | _=>exact absurd (show false=true from hs) P5
 | bl i=>
  cases rx
  cases y with
  | non=>cases ry;exact PySem.EqNone.ne_bool_none (br I q (by simp))
  | bl j=>cases ry;exact ne_bool (br I q (Rv not CP))
  | str j=>obtain ⟨t',rfl⟩:=ry;exact PySem.EqMixed.ne_bool_str (br I q (by simp))
  | _=>exact absurd (show false=true from hs) P5
 | int i=>
  obtain ⟨t,rfl⟩:=rx
  cases y with
  | non=>cases ry;exact PySem.EqNone.ne_int_none (br I q (by simp))
  | int j=>obtain ⟨t',rfl⟩:=ry;exact ne_int (br I q (Rv not An))
  | str j=>obtain ⟨t',rfl⟩:=ry;exact PySem.EqMixed.ne_int_str (br I q (by simp))
  | _=>exact absurd (show false=true from hs) P5
 | str i=>
  obtain ⟨t,rfl⟩:=rx
  cases y with
  | non=>cases ry;exact PySem.EqNone.ne_str_none (br I q (by simp))
  | bl j=>cases ry;exact PySem.EqMixed.ne_str_bool (br I q (by simp))
  | int j=>obtain ⟨t',rfl⟩:=ry;exact PySem.EqMixed.ne_str_int (br I q (by simp))
  | str j=>obtain ⟨t',rfl⟩:=ry;exact ne_str (br I q (Rv not Ao))
  | _=>exact absurd (show false=true from hs) P5
 | byt i=>
  obtain ⟨t,rfl⟩:=rx
  cases y with
  | byt j=>obtain ⟨t',rfl⟩:=ry;exact PySem.W.ne_bytes (br I q (Rv not Ap))
  | _=>exact absurd (show false=true from hs) P5
 | _=>cases y<;>exact absurd (show false=true from hs) P5
theorem Lb:ik X (compareOp .LtE) (HA fun i j=>.bl (decide (i<=j))):=IK fun _ _ _ _ _ _ _ q=>le_int q
theorem Lc:ik X (compareOp .Gt) (HA fun i j=>.bl (decide (j < i))):=IK fun _ _ _ _ _ _ _ q=>gt_int q
theorem Ld:ik X (compareOp .GtE) (HA fun i j=>.bl (decide (j<=i))):=IK fun _ _ _ _ _ _ _ q=>ge_int q
theorem BM:ik X (compareOp .In) (fun x y H Q=>∃ i j,x=.str i/\y=.str j/\Q (.bl (!(Builtin.Str.occurrences j i 0 j.length 1).isEmpty)) H):=by
 intro pins s σ H x y v u Q I rx ry h
 obtain ⟨i,j,rfl,rfl,q⟩:=h
 obtain ⟨t,rfl⟩:=rx
 obtain ⟨t',rfl⟩:=ry
 exact in_str (br I q rfl)
theorem vS:ik X (compareOp .NotIn) (fun x y H Q=>∃ i j,x=.str i/\y=.str j/\Q (.bl (!(!(Builtin.Str.occurrences j i 0 j.length 1).isEmpty))) H):=by
 intro pins s σ H x y v u Q I rx ry h
 obtain ⟨i,j,rfl,rfl,q⟩:=h
 obtain ⟨t,rfl⟩:=rx
 obtain ⟨t',rfl⟩:=ry
 exact notIn_str (br I q rfl)
theorem ik.or {f:Value->Value->Sem Value} {r r':R2} (h:ik X f r) (h':ik X f r'):ik X f (fun x y H Q=>r x y H Q\/r' x y H Q):=by
 intro pins s σ H x y v u Q I rx ry q
 rcases q with q | q
 ·exact h pins s σ H x y v u Q I rx ry q
 ·exact h' pins s σ H x y v u Q I rx ry q
theorem M7 (b:Expr) {op:CmpOp} (h:op≠.In:=by decide) (h2:op≠.NotIn:=by decide):behindInMarks op b=false:=by
 have e1:(op == CmpOp.In)=false:=by cases op<;>first | rfl | exact absurd rfl h
 have e2:(op == CmpOp.NotIn)=false:=by cases op<;>first | rfl | exact absurd rfl h2
 cases b<;>simp [behindInMarks,e1,e2]
theorem FN {op:CmpOp} {r:R2} (ho:ik X (compareOp op) r) (ha:PE X a ta) (hb:PE X b tb) (hm:behindInMarks op b=false):PE X (.Compare a [op] [b] pos) (K4 r ta tb):=by
 intro pins s σ H Q I h
 exact wpAny_Compare1 (IJ ha hb I h fun v u s2 x y H2 I2 rx ry q=>ho pins s2 σ H2 x y v u Q I2 rx ry q) hm
def HC (t:TE):TT:=fun σ H Q=>t σ H fun x H'=>∃ k,x=.bl k/\Q k H'
theorem FO {op:CmpOp} {r:R2} (ho:ik X (compareOp op) r) (ha:PE X a ta) (hb:PE X b tb) (hm:behindInMarks op b=false):PT X (.Compare a [op] [b] pos) (HC (K4 r ta tb)):=by
 intro pins s σ H Q I h
 refine wpAny_isTrue_Compare1 (bV (ha pins s σ H _ I h) fun v s1 ⟨x,H1,I1,r1,q1⟩=>bV (hb pins s1 σ H1 _ I1 q1) fun u s2 ⟨y,H2,I2,r2,q2⟩=>
  bV (ho pins s2 σ H2 x y v u _ I2 r1 r2 q2) fun c s3 ⟨z,H3,I3,r3,k,e,q3⟩=>?_) hm
 subst e
 cases r3
 exact QP ⟨H3,I3,q3⟩
def yW (r r':R2) (ta tb tc:TE):TE:=fun σ H Q=>ta σ H fun x H1=>tb σ H1 fun y H2=>r x y H2 fun z H3=>∃ k,z=.bl k /\
 (if k=true then tc σ H3 fun w' H4=>r' y w' H4 Q else Q (.bl false) H3)
theorem CQ {op op':CmpOp} {r r':R2} (ho:ik X (compareOp op) r) (ho':ik X (compareOp op') r') (ha:PE X a ta) (hb:PE X b tb) (hc:PE X c tc)
  (hm:lastMarks [op,op'] [b,c]=false:=by with_unfolding_all rfl):PE X (.Compare a [op,op'] [b,c] pos) (yW r r' ta tb tc):=by
 intro pins s σ H Q I h
 refine Compare_chain (bV (ha pins s σ H _ I h) fun v s1 ⟨x,H1,I1,r1,q1⟩=>chain_link (bV (hb pins s1 σ H1 _ I1 q1) fun u s2 ⟨y,H2,I2,r2,q2⟩=>
  bV (ho pins s2 σ H2 x y v u _ I2 r1 r2 q2) fun d s3 ⟨z,H3,I3,r3,k,e,q3⟩=>?_)) hm
 subst e
 cases r3
 refine QP ?_
 cases k with
 | false=>exact ite_ff ⟨.bl false,H3,I3,rfl,q3⟩
 | true=>exact ite_tt (chain_last (bV (hc pins s3 σ H3 _ I3 q3) fun w' s4 ⟨z',H4,I4,r4,q4⟩=>ho' pins s4 σ H4 y z' u w' Q I4 r2 r4 q4))
theorem CT {op op':CmpOp} {r r':R2} (ho:ik X (compareOp op) r) (ho':ik X (compareOp op') r') (ha:PE X a ta) (hb:PE X b tb) (hc:PE X c tc)
  (hm:lastMarks [op,op'] [b,c]=false:=by with_unfolding_all rfl):PT X (.Compare a [op,op'] [b,c] pos) (HC (yW r r' ta tb tc)):=by
 intro pins s σ H Q I h
 refine isTrue_chain (bV (ha pins s σ H _ I h) fun v s1 ⟨x,H1,I1,r1,q1⟩=>test_link (bV (hb pins s1 σ H1 _ I1 q1) fun u s2 ⟨y,H2,I2,r2,q2⟩=>
  bV (ho pins s2 σ H2 x y v u _ I2 r1 r2 q2) fun d s3 ⟨z,H3,I3,r3,k,e,q3⟩=>?_)) hm
 subst e
 cases r3
 refine QP ?_
 cases k with
 | false=>
  obtain ⟨k',e',q'⟩:=q3
  cases e'
  exact ite_ff ⟨H3,I3,q'⟩
 | true=>
  refine ite_tt (test_last (bV (hc pins s3 σ H3 _ I3 q3) fun w' s4 ⟨z',H4,I4,r4,q4⟩=>bV (ho' pins s4 σ H4 y z' u w' _ I4 r2 r4 q4) fun d' s5 ⟨z2,H5,I5,r5,k2,e2,q5⟩=>?_))
  subst e2
  cases r5
  exact QP ⟨H5,I5,q5⟩
def IV (K:PySem.W.Frag) (x:V) (H:Hp) (k:Bool):Prop:=
 match x with
 | .non=>k=false
 | .bl b=>k=b
 | .int i=>k=(i != 0)
 | .str y=>y.length<=sizeLine/\k=((y.length:Int) != 0)
 | .byt y=>y.size<=sizeLine/\k=((y.size:Int) != 0)
 | .ref p=>(∃ xs,iw K H p xs/\k=!xs.isEmpty)\/(∃ xs,gx K H p xs/\k=!xs.isEmpty)\/∃ kvs,H p=some (.dK kvs)/\k=!kvs.isEmpty
 | _=>False
theorem yX {κ:Type} {kvs:List (κ×V)} {vs:List (κ×Value)} (r:KV kvs vs):(!vs.isEmpty)=!kvs.isEmpty:=by
 cases r<;>rfl
theorem rA {xs:List V} {its:List Value} (r:Vals xs its):(!its.toArray.isEmpty)=!xs.isEmpty:=by
 cases r<;>simp
theorem rB:(sizeLine:Nat) < 2 ^ 63:=by rw [QH];decide
theorem yY:II X (fun x H Q=>∃ k,IV X.K x H k/\Q k H):=by
 intro pins s σ H x v Q I rx h
 obtain ⟨k,e,q⟩:=h
 have hl:=rB
 have hs:sizeLine=16777216:=QH
 cases x with
 | non=>
  cases rx
  have e':k=false:=e
  subst e'
  exact truthy_none ⟨H,I,q⟩
 | bl b=>
  cases rx
  have e':k=b:=e
  subst e'
  exact QP ⟨H,I,q⟩
 | int i=>
  obtain ⟨t,rfl⟩:=rx
  have e':k=(i != 0):=e
  subst e'
  exact PySem.P.truthy_int ⟨H,I,q⟩
 | str y=>
  obtain ⟨t,rfl⟩:=rx
  obtain ⟨hy,e'⟩:y.length<=sizeLine/\k=((y.length:Int) != 0):=e
  subst e'
  exact PySem.P.truthy_str (by omega) ⟨H,I.tok _,q⟩
 | byt y=>
  obtain ⟨t,rfl⟩:=rx
  obtain ⟨hy,e'⟩:y.size<=sizeLine/\k=((y.size:Int) != 0):=e
  subst e'
  exact PySem.W.truthy_bytes (by omega) ⟨H,I.tok _,q⟩
 | ref p=>
  cases rx
  have e':(∃ xs,iw X.K H p xs/\k=!xs.isEmpty)\/(∃ xs,gx X.K H p xs/\k=!xs.isEmpty)\/∃ kvs,H p=some (.dK kvs)/\k=!kvs.isEmpty:=e
  rcases e' with ⟨xs,hx,e'⟩ | ⟨xs,hx,e'⟩ | ⟨kvs,hx,e'⟩
  ·subst e'
   obtain ⟨its,r,pl,hz⟩:=I.list hx
   have hlen:=r.length
   exact wpAny_truthy_list pl.isList (by simp only [Pu];omega) ⟨H,I.tok _,by rw [rA r];exact q⟩
  ·subst e'
   obtain ⟨its,r,pl,hz⟩:=I.tuple hx
   have hlen:=r.length
   exact truthy_tuple pl (by simp only [Pu];omega) ⟨H,I.tok _,by rw [rA r];exact q⟩
  ·subst e'
   obtain ⟨hz,hS,vs,r,m⟩:kvs.length<=sizeLine/\(p == sysModules)=false/\∃ vs,KV kvs vs/\s.heap.DictOf (bH X.prog X.w) p vs:=I.hok p _ hx
   have hlen:kvs.length=vs.length:=P4 r
   exact wpAny_truthy_dict hS m (by omega) ⟨H,I.tok _,by rw [yX r];exact q⟩
 | _=>exact (show False from e).elim
theorem CU (ha:PE X a ta) (he:∀ whole,isTrue a X.env whole=(do let v <- whole;standAt a.pos;holding [v] (truthy v))) :
  PT X a (fun σ H Q=>ta σ H fun x H'=>∃ k,IV X.K x H' k/\Q k H'):=by
 intro pins s σ H Q I h
 exact isTrue_plain (bV (ha pins s σ H _ I h) fun v s1 ⟨x,H1,I1,r1,q1⟩=>yY pins s1 σ H1 x v Q I1 r1 q1) (he _)
theorem yZ:ik X (binaryOp .Add) (fun x y H Q=>∃ i j,x=.str i/\y=.str j/\i.length+j.length<=sizeLine/\Q (.str (i++j)) H):=by
 intro pins s σ H x y v u Q I rx ry h
 obtain ⟨i,j,rfl,rfl,hz,q⟩:=h
 obtain ⟨t,rfl⟩:=rx
 obtain ⟨t',rfl⟩:=ry
 exact add_str (fun t' tk=>⟨.str (i++j),H,I.tok _,⟨_,rfl⟩,q⟩) hz
theorem vals1 {x:V} {us:List Value} (r:Vals [x] us):∃ u,us=[u]/\RelV x u:=by
 cases r with
 | cons r1 r2=>cases r2;exact ⟨_,rfl,r1⟩
theorem vals2 {x y:V} {us:List Value} (r:Vals [x,y] us):∃ u w',us=[u,w']/\RelV x u/\RelV y w':=by
 cases r with
 | cons r1 r2=>
  cases r2 with
  | cons r3 r4=>cases r4;exact ⟨_,_,rfl,r1,r3⟩
theorem BN (hc:X.calm=true):df X (.builtin "max") (fun xs H Q=>∃ i j,xs=[.int i,.int j]/\Q (.int (if j > i then j else i)) H):=by
 intro pins s σ H xs us Q I r h
 obtain ⟨i,j,rfl,q⟩:=h
 obtain ⟨u,w',rfl,⟨t,rfl⟩,⟨t',rfl⟩⟩:=vals2 r
 refine max_two_ints (I.ok.hd hc) fun h' tk k=>⟨_,H,I.kept k,?_,q⟩
 by_cases hj:j > i
 ·rw [if_pos hj,if_pos hj];exact ⟨_,rfl⟩
 ·rw [if_neg hj,if_neg hj];exact ⟨_,rfl⟩
theorem BO:df X (.type "int") (fun xs H Q=>(∃ i,xs=[.int i]/\Q (.int i) H)\/∃ k,xs=[.bl k]/\Q (.int (if k then 1 else 0)) H):=by
 intro pins s σ H xs us Q I r h
 rcases h with ⟨i,rfl,q⟩ | ⟨k,rfl,q⟩
 ·obtain ⟨u,rfl,t,rfl⟩:=vals1 r
  exact call_int_int ⟨.int i,H,I,⟨_,rfl⟩,q⟩
 ·obtain ⟨u,rfl,r1⟩:=vals1 r
  cases r1
  exact call_int_bool ⟨.int (if k then 1 else 0),H,I.tok _,⟨_,rfl⟩,q⟩
def M8 (K:PySem.W.Frag) (x:V) (H:Hp) (n:Nat):Prop:=
 match x with
 | .str y=>y.length<=sizeLine/\n=y.length
 | .byt y=>y.size<=sizeLine/\n=y.size
 | .ref p=>(∃ xs,iw K H p xs/\n=xs.length)\/∃ xs,gx K H p xs/\n=xs.length
 | _=>False
theorem CV:df X (.builtin "len") (fun xs H Q=>∃ x n,xs=[x]/\M8 X.K x H n/\Q (.int n) H):=by
 intro pins s σ H xs us Q I r h
 obtain ⟨x,n,rfl,e,q⟩:=h
 obtain ⟨u,rfl,rx⟩:=vals1 r
 have hl:=rB
 have hs:sizeLine=16777216:=QH
 cases x with
 | str y=>
  obtain ⟨t,rfl⟩:=rx
  obtain ⟨hy,e'⟩:y.length<=sizeLine/\n=y.length:=e
  subst e'
  exact len_str (by omega) ⟨.int _,H,I.tok _,⟨_,rfl⟩,q⟩
 | byt y=>
  obtain ⟨t,rfl⟩:=rx
  obtain ⟨hy,e'⟩:y.size<=sizeLine/\n=y.size:=e
  subst e'
  exact PySem.W.len_bytes (by omega) ⟨.int _,H,I.tok _,⟨_,rfl⟩,q⟩
 | ref p=>
  cases rx
  have e':(∃ xs,iw X.K H p xs/\n=xs.length)\/∃ xs,gx X.K H p xs/\n=xs.length:=e
  rcases e' with ⟨xs,hx,e'⟩ | ⟨xs,hx,e'⟩
  ·subst e'
   obtain ⟨its,r',pl,hz⟩:=I.list hx
   have hlen:=r'.length
   exact Calls.call_len_list pl.isList (by simp only [Pu];omega) ⟨.int xs.length,H,I.tok _,⟨_,by simp only [Pu];rw [hlen]⟩,q⟩
  ·subst e'
   obtain ⟨its,r',pl,hz⟩:=I.tuple hx
   have hlen:=r'.length
   exact len_tuple pl (by simp only [Pu];omega) ⟨.int xs.length,H,I.tok _,⟨_,by simp only [Pu];rw [hlen]⟩,q⟩
 | _=>exact (show False from e).elim
theorem xl:df X (.builtin "divmod") (fun xs H Q=>∃ i j,xs=[.int i,.int j]/\K7 i j/\∀ p,H p=none->Q (.ref p) (upd H p (.tup [.int (i / j),.int (i % j)]))):=by
 intro pins s σ H xs us Q I r h
 obtain ⟨i,j,rfl,⟨h1,h2⟩,q⟩:=h
 obtain ⟨u,w',rfl,⟨t,rfl⟩,⟨t',rfl⟩⟩:=vals2 r
 refine divmod_int (by omega) ?_ (.inl (PyProof.noPylong_small (by omega)))
 rw [Int.fdiv_eq_ediv_of_nonneg i (by omega),Int.fmod_eq_emod_of_nonneg i (by omega)]
 have hn:H s.heap.objs.size=none:=I.hok.fresh (Pm _)
 refine ⟨.ref s.heap.objs.size,_,?_,rfl,q _ hn⟩
 refine I.laid (fun b o e=>Pj _ e) (Pm _) ⟨by simp only [PQ,Ql];rw [QH];decide,[.int (i / j) s.toks,.int (i % j) (s.toks+1)],.cons ⟨_,rfl⟩ (.cons ⟨_,rfl⟩ .nil),?_⟩
 exact ⟨_,Po s.heap rfl,rfl,0,rfl⟩
end
structure IW (h:Heap) (x dx C:Addr) (mA:Str->Option Value):Prop where
 obj:h.get? x=some (PySem.W.instObj C dx)
 ns:h.Ns1 dx mA
 ne:dx≠x
theorem BP {h:Heap} {dx:Addr} {mA:Str->Option Value} (n:h.Ns1 dx mA):∃ od,h.get? dx=some od/\∀ name,PySem.W.lookIn name od=some (mA name):=by
 obtain ⟨o,es,ep,ho,hd,hk,_,hm⟩:=n
 refine ⟨o,ho,fun name=>?_⟩
 have e:=hm name
 unfold nsFind findBy at e
 rw [<- Array.find?_toList] at e
 unfold PySem.W.lookIn
 rw [hd]
 dsimp only
 split
 ·rename_i y q
  rw [q] at e
  exact Rv some e
 ·rename_i q
  rw [q] at e
  have a:es.toList.any (·.refKey)=false:=by
   rw [List.any_eq_false]
   intro y hy
   obtain ⟨z,t,hkey⟩:=hk y (Rx.mp hy)
   simp [DictEntry.refKey,hkey]
  have a':¬ es.toList.any (·.refKey)=true:=by rw [a];exact P5
  rw [if_neg a']
  exact Rv some e
theorem IW.look {h:Heap} {x dx C:Addr} {mA:Str->Option Value} (I:IW h x dx C mA):∃ od,PySem.W.InstAt h x (PySem.W.instObj C dx) C (some od)/\∀ name,PySem.W.lookIn name od=some (mA name):=
 let ⟨od,ho,hl⟩:=BP I.ns
 ⟨od,⟨I.obj,rfl,rfl,ho⟩,hl⟩
theorem oV.some_of {v:V} {o:Option Value} (r:oV (some v) o):∃ u,o=some u/\RelV v u:=by
 cases o with
 | none=>exact (show False from r).elim
 | some u=>exact ⟨u,rfl,r⟩
section
variable {P:Program} {w:World} {H H':Hp} {h h':Heap} {a C dx:Addr} {fs fs':List (Str×V)}
theorem FP (hok:km P w H h) (e:H a=some (.ins C dx fs)):∃ mA,IW h a dx C mA/\(∀ f,oV (fs.lookup f) (mA f))/\PySem.Within mA (fs.map (·.1))/\fs.length<=1000/\H dx=some (.own a):=by
 obtain ⟨d,z,ne,ob,mA,n,r,q⟩:=(show cv P w H h a (.ins C dx fs) from hok a _ e)
 exact ⟨mA,⟨ob,n,ne⟩,r,q,z,d⟩
end
structure M9 (K:PySem.W.Frag) (C:Addr):Prop where
 pg:PySem.W.plainGet K C Str.empty=true
 hd:PySem.W.hasDictIn K C=true
 po:PySem.W.plainOver K C=true
 sa:PySem.W.findIn K (.ref C) "__setattr__" = some (some (.builtin "object.__setattr__"))
theorem M9.get {K:PySem.W.Frag} {C:Addr} (c:M9 K C) (f:Str):PySem.W.plainGet K C f=true:=c.pg
section
variable {X:Cx} {pins:List (Addr×Obj)} {σ:St} {H:Hp} {s:Shared} {A:Around} {E:Value->Shared->Prop} {Q:Value->Shared->Prop} {c:Value} {b:Bool}
inductive nH (K:PySem.W.Frag) (H:Hp):V->Value->Prop where
 | non:nH K H .non (.type "NoneType")
 | bl (x:Bool):nH K H (.bl x) (.type "bool")
 | int (i:Int):nH K H (.int i) (.type "int")
 | str (x:Str):nH K H (.str x) (.type "str")
 | flt (x:UInt64):nH K H (.flt x) (.type "float")
 | lst {a:Addr} {xs:List V} (e:H a=some (.lst xs)):nH K H (.ref a) (.type "list")
 | frz {a:Addr} {o:Obj} {xs:List V} (e:H a=some (.frz o (.lst xs))):nH K H (.ref a) (.type "list")
 | tup {a:Addr} {xs:List V} (e:H a=some (.tup xs)):nH K H (.ref a) (.type "tuple")
 | dK {a:Addr} {kvs:List (Key×V)} (e:H a=some (.dK kvs)):nH K H (.ref a) (.type "dict")
 | dT {a:Addr} {kvs:List (List Key×V)} (e:H a=some (.dT kvs)):nH K H (.ref a) (.type "dict")
 | ins {a C dx:Addr} {fs:List (Str×V)} (e:H a=some (.ins C dx fs)) (cl:M9 K C) (ha:PySem.W.findIn K (.ref C) "__class__" = some (some (.builtin "object.__class__")))
   (hn:PySem.W.specialIn K (.builtin "object.__class__") "__get__" = some (some (.builtin "getset_descriptor.__get__"))) (htk:PySem.W.takesIn K (.builtin "object.__class__")=some true)
   (hm:PySem.W.mroIn K C (.type "object")=some true):nH K H (.ref a) (.ref C)
theorem BQ {x:V} {u t:Value} (I:Inv X pins σ H s) (rx:RelV x u) (ty:nH X.K H x t) (e:PySem.W.kitOne X.K t c=some b) (h:∀ tk,Q (.bool b) {s with toks:=tk}) :
  wpAny (model X.prog X.w) A (call (.builtin "isinstance") [u,c]) Q E s:=by
 cases ty with
 | non=>cases (show u=Value.none from rx);exact QC PySem.W.kitx_none I.tY True.intro e (fun z=>nomatch z) h
 | bl y=>cases (show u=Value.bool y from rx);exact QC PySem.W.kitx_bool I.tY True.intro e (fun z=>nomatch z) h
 | int i=>obtain ⟨t,q⟩:=(show ∃ t,u=Value.int i t from rx);cases q;exact QC PySem.W.kitx_int I.tY True.intro e (fun z=>nomatch z) h
 | str y=>obtain ⟨t,q⟩:=(show ∃ t,u=Value.str y t from rx);cases q;exact QC PySem.W.kitx_str I.tY True.intro e (fun z=>nomatch z) h
 | flt y=>obtain ⟨t,q⟩:=(show ∃ t,u=Value.float y t from rx);cases q;exact QC PySem.W.kitx_float I.tY True.intro e (fun z=>nomatch z) h
 | @lst a xs ea=>
  cases (show u=Value.ref a from rx)
  obtain ⟨_,_,n,_,h1⟩:=(show cv X.prog X.w H s.heap a (.lst xs) from I.hok a _ ea)
  exact QC PySem.W.kitx_list I.tY ⟨_,h1,rfl⟩ e (fun z=>nomatch z) h
 | @frz a ob xs ea=>
  cases (show u=Value.ref a from rx)
  obtain ⟨_,_,_,n,_,h1⟩:=(show cv X.prog X.w H s.heap a (.frz ob (.lst xs)) from I.hok a _ ea)
  exact QC PySem.W.kitx_list I.tY ⟨_,h1,rfl⟩ e (fun z=>nomatch z) h
 | @tup a xs ea=>
  cases (show u=Value.ref a from rx)
  obtain ⟨_,_,_,p⟩:=(show cv X.prog X.w H s.heap a (.tup xs) from I.hok a _ ea)
  obtain ⟨o,h1,h2,_⟩:=p
  exact QC PySem.W.kitx_tuple I.tY ⟨o,h1,h2⟩ e (fun z=>nomatch z) h
 | @dK a kvs ea=>
  cases (show u=Value.ref a from rx)
  obtain ⟨_,_,vs,_,p⟩:=(show cv X.prog X.w H s.heap a (.dK kvs) from I.hok a _ ea)
  obtain ⟨o,es,ep,h1,h2,_⟩:=p
  exact QC PySem.W.kitx_dict I.tY ⟨o,h1,h2.1⟩ e (fun z=>nomatch z) h
 | @dT a kvs ea=>
  cases (show u=Value.ref a from rx)
  obtain ⟨_,_,xs,_,o,es,ep,h1,h2,_⟩:=(show cv X.prog X.w H s.heap a (.dT kvs) from I.hok a _ ea)
  exact QC PySem.W.kitx_dict I.tY ⟨o,h1,h2.1⟩ e (fun z=>nomatch z) h
 | @ins a C dx fs ea cl ha hn htk hm=>
  cases (show u=Value.ref a from rx)
  obtain ⟨mA,O,_⟩:=FP I.hok ea
  obtain ⟨od,J,_⟩:=O.look
  exact QC (PySem.W.kitx_own (cl.get _) cl.hd ha hn htk hm) I.tY J e (fun z=>nomatch z) h
end
structure cg (k:Nat) (A:Around):Prop where
 hd:A.handled=none
 dp:A.depth+3 * k+5 < recursionLimit
 un:A.units+16 * k+200 < cLine
 gd:A.guards=some []
theorem cg.mono {j k:Nat} {A:Around} (r:cg k A) (h:j<=k):cg j A:=⟨r.hd,by have:=r.dp;omega,by have:=r.un;omega,r.gd⟩
theorem cg.deeper {k:Nat} {A:Around} (r:cg (k+1) A) (env:Env):cg k (A.deeper env):=
 ⟨r.hd,by have:=r.dp;show A.depth+1+3 * k+5 < _;omega,by have:=r.un;show A.units+3+16 * k+200 < _;omega,r.gd⟩
theorem cg.depth {k:Nat} {A:Around} (r:cg k A):A.depth < recursionLimit:=by have:=r.dp;omega
theorem cg.units {k:Nat} {A:Around} (r:cg k A):A.units+64 < cLine:=by have:=r.un;omega
def IX:TA:=fun _ H Q=>Q [] H
def HD (ta:TE) (tr:TA):TA:=fun σ H Q=>ta σ H fun x H1=>tr σ H1 fun xs H2=>Q (x::xs) H2
section
variable {X:Cx} {e:Expr} {es:List Expr} {te:TE} {t:TA} {pos:Pos}
theorem rC:PA X [] IX:=fun _ _ _ _ H Q I h=>SM ⟨[],H,I,.nil,h⟩
theorem lD (ha:PE X e te) (hr:PA X es t) (hs:starEach (e::es) X.env=(false,eval e X.env)::starEach es X.env:=by rfl):PA X (e::es) (HD te t):=by
 intro pos pins s σ H Q I h
 rw [hs]
 show wpAny _ _ (spliced ((false,eval e X.env)::backTo pos (starEach es X.env))) _ _ s
 refine RT (bV (ha pins s σ H _ I h) fun u s1 ⟨x,H1,I1,r1,q1⟩=>?_)
 exact bV (hr pos pins s1 σ H1 _ I1 q1) fun us s2 ⟨xs,H2,I2,r2,q2⟩=>⟨x::xs,H2,I2,.cons r1 r2,q2⟩
def Na (t:TA):TE:=fun σ H Q=>t σ H fun xs H1=>xs.length<=sizeLine/\∀ p,H1 p=none->Q (.ref p) (upd H1 p (.tup xs))
def Nb (t:TA):TE:=fun σ H Q=>t σ H fun xs H1=>xs.length<=sizeLine/\∀ p,H1 p=none->Q (.ref p) (upd H1 p (.lst xs))
theorem CW {x1} (h:PA X es t):PE X (.Tuple es x1 pos) (Na t):=by
 intro pins s σ H Q I hq
 refine wpAny_Tuple_spliced (bV (h pos pins s σ H _ I hq) fun us s1 ⟨xs,H1,I1,r,z,q⟩=>⟨by rw [<- r.length];exact z,?_⟩)
 have hf:H1 s1.heap.objs.size=none:=I1.hok.fresh (Pm _)
 refine ⟨.ref s1.heap.objs.size,upd H1 s1.heap.objs.size (.tup xs),I1.laid (t':=s1.toks) (fun b u e=>Pj _ e) (Pm _) ?_,rfl,q _ hf⟩
 exact ⟨z,us,r,⟨_,Po _ rfl,rfl,_,rfl⟩⟩
theorem y0 (h:PA X es t):PE X (.List es pos) (Nb t):=by
 intro pins s σ H Q I hq
 refine wpAny_List_spliced (bV (h pos pins s σ H _ I hq) fun us s1 ⟨xs,H1,I1,r,z,q⟩=>⟨by rw [<- r.length];exact z,?_⟩)
 have hf:H1 s1.heap.objs.size=none:=I1.hok.fresh (Pm _)
 refine ⟨.ref s1.heap.objs.size,upd H1 s1.heap.objs.size (.lst xs),I1.laid (t':=s1.toks) (fun b u e=>Pj _ e) (Pm _) ?_,rfl,q _ hf⟩
 exact ⟨z,us,0,r,Po _ rfl⟩
end
abbrev Sp:=List V->Hp->VK->XK->Prop
abbrev CC:=List Env->Hp->Shared->XK->Value->Shared->Prop
structure FQ (P:Program) (w:World) (K:PySem.W.Frag) (mg:Str->Option Value) (base:Heap) (A:Around) (outer:List Env) (s:Shared) (H:Hp):Prop where
 frames:A.frames=some outer
 mod:Mod K mg base
 bs:∀ b o,base.get? b=some o->s.heap.get? b=some o/\H b=none
 bsz:base.objs.size<=s.heap.objs.size
 oW:s.heap.FunFrames base outer
 frf:∀ b∈uK outer,H b=none
 hok:km P w H s.heap
 bare:AllBare s.gens
def CE (outer:List Env) (P:Program) (w:World) (H:Hp) (s:Shared) (Q:VK) (u:Value) (s':Shared):Prop:=
 ∃ v H',s'.os=s.os/\AllBare s'.gens/\Un (uK outer) [] H H' s.heap s'.heap/\km P w H' s'.heap/\RelV v u/\Q v H'
def CR (CX:CC) (outer:List Env) (P:Program) (w:World) (H:Hp) (s:Shared) (Q:VK) (E:XK) (r:Result) (s':Shared):Prop:=
 match r with
 | .ok (.ret u)=>CE outer P w H s Q u s'
 | .ok _=>False
 | .error e=>CX outer H s E e s'
structure jn (P:Program) (w:World) (K:PySem.W.Frag) (mg:Str->Option Value) (base:Heap) (CX:CC) (k:Nat) (f:Addr) (fd:FuncData) (ps:List Str) (sp:Sp):Prop where
 len:∀ vs H Q E,sp vs H Q E->vs.length=ps.length
 run:∀ (A:Around) (outer:List Env) (s:Shared) (H:Hp) (args:Args) (us:List Value) (vs:List V) (Q:VK) (E:XK),cg k A->FQ P w K mg base A outer s H->BindsTo s fd args (ps.zip us)->Vals vs us->sp vs H Q E ->
  codeAny (model P w) A (.call (.ref f) args) (CR CX outer P w H s Q E) s
theorem jn.mono {P:Program} {w:World} {K:PySem.W.Frag} {mg:Str->Option Value} {base:Heap} {CX:CC} {j k:Nat} {f:Addr} {fd:FuncData} {ps:List Str} {sp:Sp} (F:jn P w K mg base CX j f fd ps sp) (h:j<=k) :
  jn P w K mg base CX k f fd ps sp:=⟨F.len,fun A outer s H args us vs Q E hr=>F.run A outer s H args us vs Q E (hr.mono h)⟩
theorem jn.imp {P:Program} {w:World} {K:PySem.W.Frag} {mg:Str->Option Value} {base:Heap} {CX:CC} {k:Nat} {f:Addr} {fd:FuncData} {ps:List Str} {sp sp':Sp} (F:jn P w K mg base CX k f fd ps sp)
  (h:∀ vs H Q E,sp' vs H Q E->sp vs H Q E):jn P w K mg base CX k f fd ps sp':=
 ⟨fun vs H Q E q=>F.len vs H Q E (h _ _ _ _ q),fun A outer s H args us vs Q E hr he hb hv hs=>F.run A outer s H args us vs Q E hr he hb hv (h _ _ _ _ hs)⟩
section
variable {X:Cx} {pins:List (Addr×Obj)} {σ:St} {H:Hp} {s s':Shared}
theorem Inv.Nc (I:Inv X pins σ H s):FQ X.prog X.w X.K X.mg X.base X.A X.stack s H:=
 ⟨I.ok.frames,I.ok.mod,I.bs,Pq I.ok.bsz I.sz,I.stack,I.Ak,I.hok,I.bare⟩
theorem Inv.after {Q:VK} {u:Value} (I:Inv X pins σ H s) (h:CE X.stack X.prog X.w H s Q u s'):EP X pins σ Q u s':=by
 obtain ⟨v,H',os,bare,un,hok,r,q⟩:=h
 obtain ⟨hh,g,d,t,os'⟩:=s'
 obtain rfl:os'=s.os:=os
 exact ⟨v,H',I.call (h':=hh) (g':=g) (d':=d) (t':=t) (ch:=[]) un hok bare (fun b z=>absurd z (by simp)),r,q⟩
end
def CY (sp:Sp) (dvs:List V) (E:XK) (t:TA):TE:=fun σ H Q=>t σ H fun vs H1=>sp (vs++dvs) H1 Q E
def Binds (K:PySem.W.Frag) (fd:FuncData) (ps:List Str) (ds:List Value):Prop:=
 ∀ (s:Shared) (us:List Value),K.In s.heap->(us++ds).length=ps.length->BindsTo s fd ⟨us,[]⟩ (ps.zip (us++ds))
theorem Binds.all {K:PySem.W.Frag} {fd:FuncData} {ps:List Str} (h:∀ us:List Value,us.length=ps.length->bindArgs fd ⟨us,[]⟩=pure (ps.zip us)):Binds K fd ps []:=fun s us _ hl=>by
 rw [List.append_nil] at hl ⊢
 exact .of_eq (h us hl)
def Passes (CX:CC) (X:Cx) (E:XK):Prop:=∀ (pins:List (Addr×Obj)) (σ:St) (H:Hp) (s:Shared) (e:Value) (s':Shared),Inv X pins σ H s->CX X.stack H s E e s'->X.xe e s'
section
variable {X:Cx} {CX:CC} {k:Nat} {f C:Addr} {fd:FuncData} {ps:List Str} {sp:Sp} {dvs:List V} {ds:List Value} {E:XK} {x m:Str} {p pos apos:Pos} {e o:Expr} {es:List Expr} {ta:TE} {t:TA}
theorem y6 {pins:List (Addr×Obj)} {σ:St} {H:Hp} {s:Shared} {Q:VK} {us:List Value} {vs:List V} (F:jn X.prog X.w X.K X.mg X.base CX k f fd ps sp) (hr:cg k X.A) (hb:Binds X.K fd ps ds) (hd:Vals dvs ds) (hx:Passes CX X E)
  (I:Inv X pins σ H s) (r:Vals vs us) (h:sp (vs++dvs) H Q E):wpAny (model X.prog X.w) X.A (call (.ref f) us) (EP X pins σ Q) X.xe s:=by
 have r2:Vals (vs++dvs) (us++ds):=r.append hd
 have hl:(us++ds).length=ps.length:=by rw [<- r2.length];exact F.len _ _ _ _ h
 refine wpAny_call (Tr (F.run X.A X.stack s H ⟨us,[]⟩ (us++ds) (vs++dvs) Q E hr I.Nc (hb s us I.tY hl) r2 h) fun r s' hq=>?_)
 cases r with
 | error e=>exact hx pins σ H s e s' I hq
 | ok fl=>
  cases fl with
  | ret u=>exact I.after hq
  | next=>exact False.elim hq
  | brk=>exact False.elim hq
  | cont=>exact False.elim hq
theorem FR (F:jn X.prog X.w X.K X.mg X.base CX k f fd ps sp) (hr:cg k X.A) (hg:Gl X x) (hm:X.mg x=some (.ref f)) (hk:PySem.W.keepIn X.K (.ref f)=true) (hb:Binds X.K fd ps ds) (hd:Vals dvs ds) (hx:Passes CX X E)
  (ha:PA X (e::es) t) (hdb:(x == ("__debug__" : Str))=false:=by decide) (he:starEach (e::es) X.env=(false,eval e X.env)::starEach es X.env:=by rfl) (hpl:(backTo pos (starEach es X.env)).any (·.1)=false:=by rfl) :
  PE X (.Call (.Name x p) (e::es) [] pos) (CY sp dvs E t):=by
 intro pins s σ H Q I h
 refine Qz (vP I hg hm ?_ hdb)
 refine PySem.W.callWith_K (h₀:=X.base) I.ok.mod.kin hk (bV (ha pos pins s σ H _ I h) fun us s1 ⟨vs,H1,I1,r,q⟩=>⟨I1.tY,?_⟩) he hpl
 exact y6 F hr hb hd hx I1 r q
theorem CZ (F:jn X.prog X.w X.K X.mg X.base CX k f fd ps sp) (hr:cg k X.A) (hg:Gl X x) (hm:X.mg x=some (.ref f)) (hk:PySem.W.keepIn X.K (.ref f)=true) (hb:Binds X.K fd ps ds) (hd:Vals dvs ds) (hx:Passes CX X E)
  (hdb:(x == ("__debug__" : Str))=false:=by decide):PE X (.Call (.Name x p) [] [] pos) (CY sp dvs E IX):=by
 intro pins s σ H Q I h
 refine Qz (vP I hg hm ?_ hdb)
 exact PySem.W.callWith_K0 I.tY hk (y6 (us:=[]) F hr hb hd hx I .nil h)
end
structure aO (N P:List Str) (sc:Scope):Prop where
 kind:sc.kind=.function
 co:sc.isCoroutine=false
 gen:sc.isGenerator=false
 nd:N.Nodup
 pre:N.take P.length=P
 par:∀ x∈P,sc.names.lookup x=some .local\/sc.names.lookup x=some .cell
 nofree:∀ y∈sc.names,y.2≠.free
theorem uM {kindOf:Str->Option NameKind} {x:Str}:∀ {binds:List (Str×Value)} {m:Str->Option Value},(∀ v,(x,v)∉binds)->bindL kindOf binds m x=m x
 | [],_,_=>rfl
 | (n,v)::r,m,h=>by
  unfold bindL
  rw [uM fun w hw=>h w (Pr _ hw)]
  split
  ·have:x≠n:=by rintro rfl;exact h v PJ
   simp [this]
  ·rfl
theorem uN {kindOf:Str->Option NameKind} {x:Str}:∀ {binds:List (Str×Value)} {m:Str->Option Value},(∀ v,(x,v)∉binds)->bindC kindOf binds m x=m x
 | [],_,_=>rfl
 | (n,v)::r,m,h=>by
  unfold bindC
  rw [uN fun w hw=>h w (Pr _ hw)]
  split
  ·rfl
  ·have:x≠n:=by rintro rfl;exact h v PJ
   simp [this]
theorem uO {kindOf:Str->Option NameKind} {x:Str} {v:Value}:∀ {P:List Str} {vs:List Value} {i:Nat} {m:Str->Option Value},P.Nodup->P[i]?=some x->vs[i]?=some v->kindOf x=some .local ->
  bindL kindOf (P.zip vs) m x=some v
 | [],_,_,_,_,h,_,_=>by simp at h
 | _::_,[],_,_,_,_,h,_=>by simp at h
 | p::P,w::vs,0,m,nd,h1,h2,hk=>by
  simp at h1 h2;subst h1;subst h2
  show bindL kindOf ((p,w)::P.zip vs) m p=_
  unfold bindL
  rw [uM fun v hv=>(QW.mp nd).1 (Tj hv).1,if_pos hk]
  simp
 | p::P,w::vs,i+1,m,nd,h1,h2,hk=>by
  show bindL kindOf ((p,w)::P.zip vs) m x=_
  unfold bindL
  exact uO (i:=i) (QW.mp nd).2 (by simpa using h1) (by simpa using h2) hk
theorem uP {kindOf:Str->Option NameKind} {x:Str} {v:Value}:∀ {P:List Str} {vs:List Value} {i:Nat} {m:Str->Option Value},P.Nodup->P[i]?=some x->vs[i]?=some v->kindOf x≠some .local ->
  bindC kindOf (P.zip vs) m x=some v
 | [],_,_,_,_,h,_,_=>by simp at h
 | _::_,[],_,_,_,_,h,_=>by simp at h
 | p::P,w::vs,0,m,nd,h1,h2,hk=>by
  simp at h1 h2;subst h1;subst h2
  show bindC kindOf ((p,w)::P.zip vs) m p=_
  unfold bindC
  rw [uN fun v hv=>(QW.mp nd).1 (Tj hv).1,if_neg hk]
  simp
 | p::P,w::vs,i+1,m,nd,h1,h2,hk=>by
  show bindC kindOf ((p,w)::P.zip vs) m x=_
  unfold bindC
  exact uP (i:=i) (QW.mp nd).2 (by simpa using h1) (by simpa using h2) hk
def start (N:List Str) (vs:List V):St:=vs.map some++List.replicate (N.length - vs.length) none
def ub (CX:CC) (P:Program) (w:World) (K:PySem.W.Frag) (mg:Str->Option Value) (base:Heap) (N:List Str) (qual:Str) (scope:Scope) (f:Addr) (cd:Value) (A:Around) (outer:List Env) (s:Shared) (H:Hp) (E:XK):Cx where
 prog:=P
 w:=w
 K:=K
 mg:=mg
 base:=base
 A:=A.deeper (envOfC qual scope s.heap.objs.size f cd)
 N:=N
 s₀:=s
 H₀:=H
 env:=envOfC qual scope s.heap.objs.size f cd
 outer:=outer
 stack:=envOfC qual scope s.heap.objs.size f cd::outer
 ex:=[]
 calm:=true
 fn:=fun _=>true
 pn:=[]
 xe:=fun e s'=>wpAny (model P w) (A.deeper (envOfC qual scope s.heap.objs.size f cd)) (leaving (envOfC qual scope s.heap.objs.size f cd) e) (fun _ s''=>CX outer H s E e s'') (fun e' s''=>CX outer H s E e' s'') s'
theorem xm {sc:Scope} {n:Nat} {x:Str} (h:sc.names.lookup x=some .cell):∃ c,(cellsFrom n sc.names []).lookup x=some c:=by
 have q:=SJ sc.names n [] (.inl h)
 exact Option.isSome_iff_exists.mp q
theorem BR {CX:CC} {P:Program} {w:World} {K:PySem.W.Frag} {mg:Str->Option Value} {base:Heap} {N ps:List Str} {qual:Str} {scope:Scope} {f:Addr} {cd:Value} {A:Around} {outer:List Env} {s s1:Shared} {H:Hp} {E:XK} {us:List Value} {vs:List V}
  (S:aO N ps scope) (hd:A.handled=none) (e0:FQ P w K mg base A outer s H) (hl:vs.length=ps.length) (r:Vals vs us)
  (x:InCallC s s.heap.objs.size (bindL (envOfC qual scope s.heap.objs.size f cd).kindOf (ps.zip us) fun _=>none) (cellsFrom (s.heap.objs.size+1) scope.names []) (bindC (envOfC qual scope s.heap.objs.size f cd).kindOf (ps.zip us) fun _=>none) s1) :
  Inv (ub CX P w K mg base N qual scope f cd A outer s H E) [] (start N vs) H s1:=by
 have hpl:ps.length<=N.length:=by have:=Rv List.length S.pre;rw [S7] at this;omega
 obtain ⟨h1,tk,rfl,hk⟩:=x.done
 have noA:∀ b:Addr,b∉(ub CX P w K mg base N qual scope f cd A outer s H E).ex:=fun b z=>absurd (show b∈([]:List Addr) from z) (by simp)
 refine ⟨⟨e0.mod,S.kind,rfl,rfl,Pm _,fun y z c h1 h2=>?_,fun y hy=>?_,fun y c _ h=>?_,fun _=>hd,Around.frames_deeper e0.frames,.inr ⟨rfl,rfl⟩,fun b z=>absurd z (noA b),e0.bs,e0.bsz,fun b _ _=>noA b,fun b z=>absurd z (noA b),e0.oW,e0.frf⟩,
  rfl,e0.bare,Un.kept hk,⟨_,x.toInCall.ns,fun i y v h1 h2 h3=>?_⟩,fun y c h=>⟨_,x.cell y c h⟩,e0.hok.fresh (Pm _),fun y c h=>?_,fun p hp=>absurd (show p∈([]:List (Addr×Obj)) from hp) (by simp),e0.hok.kept hk,?_⟩
 ·exact name_of_addr x.apart (QF h1) (QF h2)
 ·have hy:scope.names.lookup y=some .cell\/scope.names.lookup y=some .free:=hy
  rcases hy with hy | hy
  ·exact xm hy
  ·exact absurd rfl (S.nofree _ (QF hy))
 ·exact Sj (x.above y c (QF h))
 ·have hi:i < vs.length:=by
   unfold start at h2
   by_cases hi:i < vs.length
   ·exact hi
   ·rw [Qd (by simpa using hi)] at h2
    rw [RK] at h2
    split at h2<;>cases h2
  have ha:vs[i]?=some v:=by
   unfold start at h2
   rw [PY (by simpa using hi),Qw] at h2
   cases e:vs[i]? with
   | none=>rw [e] at h2;cases h2
   | some a=>rw [e] at h2;cases h2;rfl
  obtain ⟨u,hu,rv⟩:=r.get ha
  have hp:ps[i]?=some y:=by
   rw [<- S.pre,RA (by omega)];exact h1
  have ndP:ps.Nodup:=by rw [<- S.pre];exact S.nd.sublist (Tw _ _)
  refine ⟨u,rv,?_⟩
  rcases S.par y (P0 hp) with k | k
  ·exact .inl ⟨k,uO ndP hp hu k⟩
  ·obtain ⟨c,e⟩:=xm (n:=s.heap.objs.size+1) k
   refine .inr ⟨.inl k,c,e,?_⟩
   have q:=x.cell y c e
   rw [uP ndP hp hu (by show scope.names.lookup y≠_;rw [k];decide)] at q
   exact q
 ·exact e0.hok.fresh (Sj (x.above y c (QF h)))
 ·unfold start
  show _=N.length
  rw [PU,PX,QX]
  omega
theorem Le {CX:CC} {P:Program} {w:World} {K:PySem.W.Frag} {mg:Str->Option Value} {base:Heap} {k:Nat} {f:Addr} {name qual:Str} {params:Arguments} {body:List Stmt} {scope:Scope} {dV kV doc pm cdv ct oc:Value} {an od:Option Addr}
  {osl:Array (Option Value)} {N ps:List Str} {sp:Sp} (lk:K.lookup f=some ⟨oc,od,.func (PySem.W.fnOf name qual params body scope dV kV doc pm an cdv ct),osl⟩) (hcd:PySem.W.codeIn K cdv qual=true) (S:aO N ps scope)
  (len:∀ vs H Q E,sp vs H Q E->vs.length=ps.length)
  (hbody:∀ (A:Around) (outer:List Env) (s:Shared) (H:Hp) (vs:List V) (Q:VK) (E:XK),cg k (A.deeper (envOfC qual scope s.heap.objs.size f cdv))->sp vs H Q E ->
   ∃ t,yR (ub CX P w K mg base N qual scope f cdv A outer s H E) body t/\t {nx:=fun _ H'=>Q .non H',rt:=Q} (start N vs) H) :
  jn P w K mg base CX (k+1) f (PySem.W.fnOf name qual params body scope dV kV doc pm an cdv ct) ps sp:=by
 refine ⟨len,fun A outer s H args us vs Q E hr e0 hb r hsp=>?_⟩
 have hl:=len _ _ _ _ hsp
 have KX:K.In s.heap:=e0.mod.kin.keeps fun b o e=>(e0.bs b o e).1
 have lim:s.heap.NoLimit:=e0.mod.nolimit.keeps fun b o e=>(e0.bs b o e).1
 have hkind:∀ y∈ps.zip us,scope.names.lookup y.1=some .local\/(scope.names.lookup y.1=some .cell/\((cellsFrom (s.heap.objs.size+1) scope.names []).lookup y.1).isSome=true):=fun ⟨n,v⟩ hy=>by
  rcases S.par n (Tj hy).1 with q | q
  ·exact .inl q
  ·exact .inr ⟨q,SJ _ _ _ (.inl q)⟩
 refine codeAny_call_function hr.depth (KX _ _ lk) rfl S.co S.gen rfl (PySem.W.codeRec_of KX hcd) (hb _ _ _ _ ?_)
 refine wpAny_newFunctionEnv_cells S.kind hkind fun env he s1 x=>?_
 subst he
 refine ⟨lim.keeps x.toInCall.keep,codeAny_func ?_⟩
 obtain ⟨t,ht,hq⟩:=hbody A outer s H vs Q E (hr.deeper _) hsp
 have I:Inv (ub CX P w K mg base N qual scope f cdv A outer s H E) [] (start N vs) H s1:=BR S hr.hd e0 hl r x
 refine Q9 (ht [] s1 (start N vs) H _ I hq) (fun fl s' hs=>?_) fun e s' hs=>hs
 have fin:∀ {σ':St} {H':Hp} {v:V} {u:Value},Inv (ub CX P w K mg base N qual scope f cdv A outer s H E) [] σ' H' s'->RelV v u->Q v H'->CE outer P w H s Q u s':=
  fun {σ' H' v u} J rv q=>⟨v,H',J.os,J.bare,J.base,J.hok,rv,q⟩
 cases fl with
 | ret u=>
  obtain ⟨v,σ',H',J,rv,q⟩:=hs
  exact fin J rv q
 | next=>
  obtain ⟨σ',H',J,q⟩:=hs
  exact fin (v:=V.non) (u:=Value.none) J rfl q
 | brk=>
  obtain ⟨_,_,_,q⟩:=hs
  exact False.elim q
 | cont=>
  obtain ⟨_,_,_,q⟩:=hs
  exact False.elim q
section
variable {X:Cx} {x:Str} {p pos:Pos} {e:Expr} {es:List Expr} {t:TA} {id T:String} {r:List V->Hp->VK->Prop}
def Nd (r:List V->Hp->VK->Prop) (t:TA):TE:=fun σ H Q=>t σ H fun vs H1=>r vs H1 Q
theorem xn (hc:df X (.builtin id) r) (hg:Gl X x) (hm:X.mg x=none) (hv:bootBuiltins x=some (.builtin id)) (ha:PA X (e::es) t) (hn:x ≠ "__name__" := by decide) (hdb:(x == ("__debug__" : Str))=false:=by decide)
  (he:starEach (e::es) X.env=(false,eval e X.env)::starEach es X.env:=by rfl) (hpl:(backTo pos (starEach es X.env)).any (·.1)=false:=by rfl):PE X (.Call (.Name x p) (e::es) [] pos) (Nd r t):=by
 intro pins s σ H Q I h
 refine Qz (mP I hg hm hv ?_ hn hdb)
 exact SX (bV (ha pos pins s σ H _ I h) fun us s1 ⟨vs,H1,I1,r1,q1⟩=>hc pins s1 σ H1 vs us Q I1 r1 q1) he hpl
theorem BS (hc:df X (.type T) r) (hg:Gl X x) (hm:X.mg x=none) (hv:bootBuiltins x=some (.type T)) (ha:PA X (e::es) t) (hn:x ≠ "__name__" := by decide) (hdb:(x == ("__debug__" : Str))=false:=by decide)
  (he:starEach (e::es) X.env=(false,eval e X.env)::starEach es X.env:=by rfl) (hpl:(backTo pos (starEach es X.env)).any (·.1)=false:=by rfl):PE X (.Call (.Name x p) (e::es) [] pos) (Nd r t):=by
 intro pins s σ H Q I h
 refine Qz (mP I hg hm hv ?_ hn hdb)
 exact Ra (bV (ha pos pins s σ H _ I h) fun us s1 ⟨vs,H1,I1,r1,q1⟩=>hc pins s1 σ H1 vs us Q I1 r1 q1) he hpl
end
end L2
namespace HT
open PySem PyProof.Rows
section
variable {prog:Program} {w:World} {A:Around} {E:Value->Shared->Prop} {s:Shared}
theorem FT {t b:Addr} {vs ws:List Value} {Q:Value->Shared->Prop} (ht:IsTup s.heap t vs.toArray) (hb:IsTup s.heap b ws.toArray) (hv:vs≠[])
  (h1:ws=[]->Q (.ref t) s) (h2:ws≠[]->Q (.ref s.heap.objs.size) {s with heap:=s.heap.push {cls:=.type "tuple",data:=.seq (vs++ws).toArray}})
  (hsz:vs.length+ws.length<=sizeLine):wpAny (model prog w) A (binaryOp .Add (.ref t) (.ref b)) Q E s:=by
 obtain ⟨⟨cls,dd,data,sl⟩,ho,hc,n,hd⟩:=id ht
 obtain ⟨⟨cls2,dd2,data2,sl2⟩,ho2,hc2,n2,hd2⟩:=id hb
 simp only at hc hd hc2 hd2
 subst hc hd hc2 hd2
 have e:vs.toArray++ws.toArray=(vs++ws).toArray:=by simp
 by_cases hw:ws=[]
 ·exact concat_meets ⟨_,ho,rfl⟩ ⟨_,ho2,rfl⟩ noFill_tuple_add seq_tuple_add SK SE (Sm _ _)
   (tuple_addW1 t b vs.toArray ws.toArray n n2 dd dd2 sl sl2 (by simpa using hv) (by simp [hw])) ⟨ho,ho2,h1 hw⟩
 ·refine concat_meets ⟨_,ho,rfl⟩ ⟨_,ho2,rfl⟩ noFill_tuple_add seq_tuple_add SK SE (Sm _ _)
   (tuple_addW2 t b vs.toArray ws.toArray n n2 dd dd2 sl sl2 (by simpa using hv) (by simpa using hw) (by rw [Pu,Pu];exact hsz)) ⟨ho,ho2,?_⟩
  rw [e]
  exact h2 hw
def eI (n d:Nat):Option Int->Nat
 | none=>d
 | some v=>if v < 0 then (v+(n:Int)).toNat else min v.toNat n
theorem IY (n d:Nat) (hd:d<=n) (o:Option Int):eI n d o<=n:=by
 cases o with
 | none=>exact hd
 | some v=>
  show (if v < 0 then (v+(n:Int)).toNat else min v.toNat n)<=n
  by_cases hv:v < 0
  ·rw [if_pos hv];omega
  ·rw [if_neg hv];exact TJ _ _
theorem Aq (v:Int) (n d:Nat):(if v < 0 then max (v+(n:Int)) 0 else min v (n:Int))=((eI n d (some v):Nat):Int):=by
 show (if v < 0 then max (v+(n:Int)) 0 else min v (n:Int))=(((if v < 0 then (v+(n:Int)).toNat else min v.toNat n):Nat):Int)
 by_cases hv:v < 0
 ·simp only [if_pos hv];omega
 ·simp only [if_neg hv];omega
theorem y7 (lo hi:Option Int) (n:Nat):Builtin.Slice.sliceAdjust lo hi 1 (n:Int)=(((eI n 0 lo:Nat):Int),((eI n n hi:Nat):Int)):=by
 have h1:¬ ((1:Int) < 0):=by omega
 unfold Builtin.Slice.sliceAdjust
 simp only [h1,Qm]
 refine Prod.ext ?_ ?_
 ·cases lo with
  | none=>rfl
  | some v=>exact Aq v n 0
 ·cases hi with
  | none=>rfl
  | some v=>exact Aq v n n
theorem y8 (i j:Nat):Builtin.Slice.slicePlaces (i:Int) (j:Int) 1=j - i:=by
 unfold Builtin.Slice.slicePlaces
 have h1:(1:Int) > 0:=by omega
 simp only [h1,Qe,Int.ediv_one]
 split<;>omega
theorem rD {v:Value} {o:Option Int} {Q:Option Int->Shared->Prop} (p:IsPart v o) (h:Q o s):wpAny (model prog w) A (Builtin.Slice.slicePartIndex v) Q E s:=by
 cases p with
 | none=>exact slicePart_none h
 | int i t=>exact slicePart_int h
theorem jo {sl:Addr} {vl vu:Value} {lo hi:Option Int} {n:Nat} {Q:Int×Int×Nat->Shared->Prop} (hs:s.heap.IsSliceOf sl vl vu .none) (pl:IsPart vl lo) (pu:IsPart vu hi)
  (h:Q (((eI n 0 lo:Nat):Int),1,eI n n hi - eI n 0 lo) s):wpAny (model prog w) A (Builtin.Slice.sliceApplied (.ref sl) (pure (n:Int))) Q E s:=by
 obtain ⟨os,hos,hcs,hds⟩:=id hs
 unfold Builtin.Slice.sliceApplied Builtin.Slice.sliceFields
 refine Ph (Ph (QJ hos hds (x:=vl) rfl (Ph (QJ hos hds (x:=vu) rfl (Ph (QJ hos hds (x:=.none) rfl (Pk ?_)))))))
 refine Ph (slicePart_none ?_)
 show wpAny _ _ (if ((1:Int) == 0)=true then _ else _) _ _ s
 rw [if_neg (by decide)]
 refine Ph (rD pl (Ph (rD pu (Ph (Pk ?_)))))
 show wpAny _ _ (match Builtin.Slice.sliceAdjust lo hi 1 (n:Int) with | (lo,hi)=>pure (lo,(1:Int),Builtin.Slice.slicePlaces lo hi 1)) _ _ s
 rw [y7 lo hi n]
 show wpAny _ _ (pure (((eI n 0 lo:Nat):Int),(1:Int),Builtin.Slice.slicePlaces ((eI n 0 lo:Nat):Int) ((eI n n hi:Nat):Int) 1)) _ _ s
 rw [y8]
 exact Pk h
theorem C0 (xs:Array Value) (i k:Nat):((List.range k).filterMap fun (m:Nat)=>xs[((i:Int)+(m:Int) * 1).toNat]?).toArray=((xs.toList.drop i).take k).toArray:=by
 have e:(fun (m:Nat)=>xs[((i:Int)+(m:Int) * 1).toNat]?)=fun m=>xs[i+m]?:=by
  funext m
  have:((i:Int)+(m:Int) * 1).toNat=i+m:=by omega
  rw [this]
 rw [e]
 have:=pick_run xs i k
 rw [List.filterMap_map] at this
 have e2:((fun x=>xs[x]?)∘fun x=>i+x)=fun m=>xs[i+m]?:=rfl
 rw [e2] at this
 rw [this]
theorem nI {t sl:Addr} {items:Array Value} {vl vu:Value} {lo hi:Option Int} {Q:Value->Shared->Prop} (ht:IsTup s.heap t items) (hs:s.heap.IsSliceOf sl vl vu .none) (pl:IsPart vl lo) (pu:IsPart vu hi)
  (hw:¬ (eI items.size 0 lo=0/\eI items.size items.size hi=items.size))
  (h:Q (.ref s.heap.objs.size) {s with heap:=s.heap.push {cls:=.type "tuple",data:=.seq ((items.toList.drop (eI items.size 0 lo)).take (eI items.size items.size hi - eI items.size 0 lo)).toArray}})
  (hsz:items.size<=sizeLine):wpAny (model prog w) A (getItem (.ref t) (.ref sl)) Q E s:=by
 have htake:sizeOk (.seq ((items.toList.drop (eI items.size 0 lo)).take (eI items.size items.size hi - eI items.size 0 lo)).toArray):=by
  show ((items.toList.drop (eI items.size 0 lo)).take (eI items.size items.size hi - eI items.size 0 lo)).toArray.size<=sizeLine
  rw [Pu,S7,S8,Qj]
  omega
 have hj:eI items.size items.size hi<=items.size:=IY _ _ (Pm _) hi
 obtain ⟨os,hos,hcs,hds⟩:=id hs
 have hTs:s.TypeIs (.ref sl) "slice" := ⟨os,hos,hcs⟩
 unfold getItem
 try with_reducible refine Qk ?_
 first | refine Ph (Pk ?_) | skip
 refine Ph (wpAny_sequenceKey ht.typeIs (by decide) ?_)
 refine Ph (Qf (name:=Str.ofString "__getitem__") ht.typeIs Qq
  (Qa Qq ht.typeIs entry_tuple_getitem ?_ (args_tuple_getitem _ _)))
 show wpAny _ _ (Builtin.Tuple.tupleItemsOf (.ref t) >>= _) _ _ s
 refine Ph (tupleItemsOf_ ht ?_)
 refine Ph (Sn hTs ?_)
 rw [if_pos (by decide)]
 refine Ph (jo hs pl pu ?_)
 have hno:¬ ((((eI items.size 0 lo:Nat):Int) == 0 && (1:Int) == 1 && (eI items.size items.size hi - eI items.size 0 lo) == items.size)=true):=by
  intro q
  rw [Pl,Pl] at q
  have q1:((eI items.size 0 lo:Nat):Int)=0:=eq_of_beq q.1.1
  have q2:eI items.size items.size hi - eI items.size 0 lo=items.size:=eq_of_beq q.2
  exact hw ⟨by omega,by omega⟩
 show wpAny _ _ (if (((eI items.size 0 lo:Nat):Int) == 0 && (1:Int) == 1 && (eI items.size items.size hi - eI items.size 0 lo) == items.size)=true then _ else _) _ _ s
 rw [if_neg hno,C0]
 first
  | exact Ph (m:=Builtin.Tuple.tupleExact _) (Qi (Pk ⟨_,rfl,Pk h⟩) htake)
  | exact Ph (m:=Builtin.Tuple.tupleExact _) (Qi (Ph (Pk (Pk ⟨_,rfl,Pk h⟩))) htake)
  | exact Ph (Ph (m:=Builtin.Tuple.tupleExact _) (Qi (Pk (Pk ⟨_,rfl,Pk h⟩)) htake))
  | exact Ph (Ph (m:=Builtin.Tuple.tupleExact _) (Qi (Pk ⟨_,rfl,Pk h⟩) htake))
end
end HT
namespace L2
open PySem PySem.Spec PyProof.Rows
abbrev TO:=St->Hp->(Option Int->Hp->Prop)->Prop
def PO (X:Cx) (e:Option Expr) (t:TO):Prop:=
 ∀ (pins:List (Addr×Obj)) (s:Shared) (σ:St) (H:Hp) (Q:Option Int->Hp->Prop),Inv X pins σ H s->t σ H Q ->
  wpAny (model X.prog X.w) X.A (evalPart e X.env) (fun u s'=>∃ o H',Inv X pins σ H' s'/\IsPart u o/\Q o H') X.xe s
def FU:TO:=fun _ H Q=>Q none H
def Lf (t:TE):TO:=fun σ H Q=>t σ H fun x H1=>∃ i,x=.int i/\Q (some i) H1
section
variable {X:Cx} {e:Expr} {te:TE} {lo hi:Option Expr} {tl th:TO} {pos p2:Pos}
theorem FV:PO X none FU:=by
 intro pins s σ H Q I h
 rw [evalPart_none]
 exact Pk ⟨none,H,I,.none,h⟩
theorem FW (h:PE X e te):PO X (some e) (Lf te):=by
 intro pins s σ H Q I hw
 rw [evalPart_some]
 refine bV (h pins s σ H _ I hw) fun u s1 ⟨x,H1,I1,r1,q1⟩=>?_
 obtain ⟨i,rfl,q⟩:=q1
 obtain ⟨t,rfl⟩:=r1
 exact ⟨some i,H1,I1,.int i t,q⟩
def KG (X:Cx) (r:V->Option Int->Option Int->Hp->VK->Prop):Prop:=
 ∀ (pins:List (Addr×Obj)) (s:Shared) (σ:St) (H:Hp) (x:V) (v vl vu:Value) (lo hi:Option Int) (sl:Addr) (Q:VK),Inv X pins σ H s->RelV x v->s.heap.IsSliceOf sl vl vu .none->IsPart vl lo->IsPart vu hi->r x lo hi H Q ->
  ∃ T id,typeLookup (.type T) "__getitem__" = pure (some (.builtin id))/\s.TypeIs v T/\wpAny (model X.prog X.w) X.A (getItem v (.ref sl)) (EP X pins σ Q) X.xe s
def OV (r:V->Option Int->Option Int->Hp->VK->Prop) (te:TE) (tl th:TO):TE:=fun σ H Q=>te σ H fun x H1=>tl σ H1 fun l H2=>th σ H2 fun u H3=>r x l u H3 Q
theorem xo {r:V->Option Int->Option Int->Hp->VK->Prop} (hr:KG X r) (he:PE X e te) (hl:PO X lo tl) (hu:PO X hi th):PE X (.Subscript e (.Slice lo hi none p2) pos) (OV r te tl th):=by
 intro pins s σ H Q I h
 refine Subscript_ (bV (he pins s σ H _ I h) fun v s1 ⟨x,H1,I1,r1,q1⟩=>?_)
 refine wpAny_Slice (bV (hl pins s1 σ H1 _ I1 q1) fun vl s2 ⟨l,H2,I2,pl,q2⟩=>bV (hu pins s2 σ H2 _ I2 q2) fun vu s3 ⟨u,H3,I3,pu,q3⟩=>?_)
 rw [evalPart_none]
 refine Pk ?_
 have I4:Inv X pins σ H3 {s3 with heap:=s3.heap.push {cls:=.type "slice",data:=.fields #[vl,vu,.none]}}:=I3.kept (t':=s3.toks) fun b ob q=>Pj _ q
 obtain ⟨T,id,hT,ht,hg⟩:=hr pins {s3 with heap:=s3.heap.push {cls:=.type "slice",data:=.fields #[vl,vu,.none]}} σ H3 x v vl vu l u s3.heap.objs.size Q I4 r1 (Heap.IsSliceOf.new ..) pl pu q3
 show wpAny (model X.prog X.w) X.A (subscriptTail e (.Slice lo hi none p2) v (.ref s3.heap.objs.size)) (EP X pins σ Q) X.xe {s3 with heap:=s3.heap.push {cls:=.type "slice",data:=.fields #[vl,vu,.none]}}
 exact tail_any (ops:=[.ref s3.heap.objs.size,v]) ht hT hg (by with_unfolding_all rfl)
def rE (xs:List V) (lo hi:Option Int):List V:=(xs.drop (HT.eI xs.length 0 lo)).take (HT.eI xs.length xs.length hi - HT.eI xs.length 0 lo)
theorem pV (xs:List V) (lo hi:Option Int):(rE xs lo hi).length<=xs.length:=by
 unfold rE
 rw [S7,S8]
 omega
def Nf (K:PySem.W.Frag):V->Option Int->Option Int->Hp->VK->Prop:=fun x lo hi H Q=>∃ a xs,x=.ref a/\gx K H a xs /\
 ¬ (HT.eI xs.length 0 lo=0/\HT.eI xs.length xs.length hi=xs.length)/\∀ p,H p=none->Q (.ref p) (upd H p (.tup (rE xs lo hi)))
theorem IZ:KG X (Nf X.K):=by
 intro pins s σ H x v vl vu lo hi sl Q I rx hs pl pu h
 obtain ⟨a,xs,rfl,hx,hw,q⟩:=h
 cases rx
 obtain ⟨its,r,ht,hz⟩:=I.tuple hx
 have hlen:its.toArray.size=xs.length:=by rw [Pu];exact r.length.symm
 refine ⟨"tuple",_,Qq.lookup,ht.typeIs,?_⟩
 refine HT.nI ht hs pl pu (by rw [hlen];exact hw) ?_ (by rw [hlen];exact hz)
 rw [hlen]
 refine ⟨.ref s.heap.objs.size,_,I.laid (t':=s.toks) (o:=.tup (rE xs lo hi)) (fun b ob q=>Pj _ q) (Pm _) ?_,rfl,q _ (I.hok.fresh (Pm _))⟩
 exact ⟨Pq (pV xs lo hi) hz,_,(r.drop (HT.eI xs.length 0 lo)).take (HT.eI xs.length xs.length hi - HT.eI xs.length 0 lo),IsTup.new _ _⟩
def Lg (K:PySem.W.Frag):R2:=fun x y H Q=>∃ a b xs ys,x=.ref a/\y=.ref b/\gx K H a xs/\gx K H b ys/\xs≠[]/\xs.length+ys.length<=sizeLine /\
 (ys=[]->Q (.ref a) H)/\(ys≠[]->∀ p,H p=none->Q (.ref p) (upd H p (.tup (xs++ys))))
theorem Vals.vT {xs:List V} {us:List Value} (r:Vals xs us):us=[]<->xs=[]:=by
 cases r with
 | nil=>simp
 | cons _ _=>simp
theorem FX:ik X (binaryOp .Add) (Lg X.K):=by
 intro pins s σ H x y v u Q I rx ry h
 obtain ⟨a,b,xs,ys,rfl,rfl,ha,hb,hx,hz,q1,q2⟩:=h
 cases rx
 cases ry
 obtain ⟨its,r1,p1,_⟩:=I.tuple ha
 obtain ⟨its2,r2,p2,_⟩:=I.tuple hb
 refine HT.FT p1 p2 (fun z=>hx (r1.vT.mp z)) (fun z=>⟨.ref a,H,I,rfl,q1 (r2.vT.mp z)⟩) (fun z=>?_) (by rw [<- r1.length,<- r2.length];exact hz)
 refine ⟨.ref s.heap.objs.size,_,I.laid (t':=s.toks) (o:=.tup (xs++ys)) (fun b ob q=>Pj _ q) (Pm _) ?_,rfl,q2 (fun w=>z (r2.vT.mpr w)) _ (I.hok.fresh (Pm _))⟩
 exact ⟨by rw [PU];exact hz,_,r1.append r2,IsTup.new _ _⟩
end
def uc (n:Nat) (i:Int):Option Nat:=if 0<=i then (if i < n then some i.toNat else none) else if -(n:Int)<=i then some (i+n).toNat else none
def mf {α:Type} (xs:List α) (i:Int):Option α:=(uc xs.length i).bind fun j=>xs[j]?
theorem Ar {n:Nat} {i:Int} {j:Nat} (h:uc n i=some j):seqIndex? i n=some j/\j < n/\-(n:Int)<=i/\i < n:=by
 unfold uc at h
 by_cases h0:0<=i
 ·rw [if_pos h0] at h
  by_cases h1:i < n
  ·rw [if_pos h1] at h
   have e:i.toNat=j:=Qt h
   exact ⟨by rw [seqIndex_of h0 h1,e],by omega,by omega,h1⟩
  ·rw [if_neg h1] at h;cases h
 ·rw [if_neg h0] at h
  by_cases h1:-(n:Int)<=i
  ·rw [if_pos h1] at h
   have e:(i+n).toNat=j:=Qt h
   exact ⟨by rw [seqIndex_neg (by omega) h1,e],by omega,h1,by omega⟩
  ·rw [if_neg h1] at h;cases h
theorem As {α:Type} {xs:List α} {i:Int} {v:α} (h:mf xs i=some v):∃ j,seqIndex? i xs.length=some j/\xs[j]?=some v/\j < xs.length/\-(xs.length:Int)<=i/\i < xs.length:=by
 unfold mf at h
 cases e:uc xs.length i with
 | none=>rw [e] at h;cases h
 | some j=>
  rw [e] at h
  obtain ⟨h1,h2,h3,h4⟩:=Ar e
  exact ⟨j,h1,h,h2,h3,h4⟩
theorem qM {α:Type} {xs:List α} {j:Nat} {v:α} (h:xs[j]?=some v):mf xs (j:Int)=some v:=by
 have hj:j < xs.length:=(PF.mp h).1
 have e:uc xs.length (j:Int)=some j:=by
  unfold uc
  rw [if_pos (by omega),if_pos (by omega)];simp
 unfold mf;rw [e];exact h
def Au (b:Expr):Prop:=∀ o i,subscripted b false o i=operate [o,i] (getItem o i)
def KH (X:Cx) (r:R2):Prop:=
 ∀ (value slice:Expr) (pins:List (Addr×Obj)) (s:Shared) (σ:St) (H:Hp) (x y:V) (v u:Value) (Q:VK),Inv X pins σ H s->RelV x v->RelV y u->r x y H Q ->
  subscripted slice false v u=operate [v,u] (getItem v u)->wpAny (model X.prog X.w) X.A (subscriptTail value slice v u) (EP X pins σ Q) X.xe s
def OW (X:Cx) (id:String) (r:V->List V->Hp->VK->Prop):Prop:=
 ∀ (pins:List (Addr×Obj)) (s:Shared) (σ:St) (H:Hp) (x:V) (xs:List V) (v:Value) (us:List Value) (Q:VK),Inv X pins σ H s->RelV x v->Vals xs us->r x xs H Q ->
  wpAny (model X.prog X.w) X.A (call (.builtin id) (v::us)) (EP X pins σ Q) X.xe s
section
variable {X:Cx} {a b:Expr} {ta tb:TE} {pos:Pos}
theorem Lh {r:R2} (hr:KH X r) (ha:PE X a ta) (hb:PE X b tb) (hs:Au b):PE X (.Subscript a b pos) (K4 r ta tb):=by
 intro pins s σ H Q I h
 exact Subscript_ (IJ ha hb I h fun v u s2 x y H2 I2 rx ry q=>hr a b pins s2 σ H2 x y v u Q I2 rx ry q (hs _ _))
def Ng (K:PySem.W.Frag):R2:=fun x y H Q=>∃ p xs i v,x=.ref p/\y=.int i/\iw K H p xs/\mf xs i=some v/\Q v H
def Nh (K:PySem.W.Frag):R2:=fun x y H Q=>∃ p xs i v,x=.ref p/\y=.int i/\gx K H p xs/\mf xs i=some v/\Q v H
theorem vU:KH X (Ng X.K):=by
 intro value slice pins s σ H x y v u Q I rx ry h hs
 obtain ⟨p,xs,i,z,rfl,rfl,hq,he,q⟩:=h
 cases rx
 obtain ⟨t,rfl⟩:=ry
 obtain ⟨its,r,pl,hz⟩:=I.list hq
 obtain ⟨j,h1,h2,h3,h4,h5⟩:=As he
 obtain ⟨w,ew,rw'⟩:=r.get h2
 have hl:=r.length
 have hn:=rB
 have fin:EP X pins σ Q w s:=⟨z,H,I,rw',q⟩
 by_cases h0:0<=i
 ·have hj:i.toNat=j:=by
   rw [seqIndex_of h0 h5] at h1
   exact Qt h1
  exact item_listR pl.isList h0 (by omega) (by rw [hj];simpa using ew) fin hs
 ·have hj:(i+(its.toArray.size:Int)).toNat=j:=by
   rw [seqIndex_neg (by omega) h4] at h1
   rw [Pu,<- hl]
   exact Qt h1
  exact subscriptTail_builtinR (x:=w) pl.isList.typeIs slot_list_getitem.lookup
   (wpAny_getItem_list_neg (Q:=fun r s'=>r=w/\EP X pins σ Q r s') pl.isList (by omega) (by rw [Pu]<;>omega) (by omega) (by rw [hj];simpa using ew) ⟨rfl,fin⟩) hs
theorem I0:KH X (Nh X.K):=by
 intro value slice pins s σ H x y v u Q I rx ry h hs
 obtain ⟨p,xs,i,z,rfl,rfl,hq,he,q⟩:=h
 cases rx
 obtain ⟨t,rfl⟩:=ry
 obtain ⟨its,r,pl,hz⟩:=I.tuple hq
 obtain ⟨j,h1,h2,h3,h4,h5⟩:=As he
 obtain ⟨w,ew,rw'⟩:=r.get h2
 have hl:=r.length
 have hn:=rB
 have fin:EP X pins σ Q w s:=⟨z,H,I,rw',q⟩
 exact subscriptTail_builtinR (x:=w) pl.typeIs slot_tuple_getitem.lookup
  (getItem_tuple (j:=j) (Q:=fun r s'=>r=w/\EP X pins σ Q r s') pl (by omega) (by omega) (by rw [Pu,<- hl];exact h1) (by simpa using ew) ⟨rfl,fin⟩) hs
theorem y9 (its:List Value) (n j:Nat) (u:Value):Obj.mapSeq (·.setIfInBounds j u) {cls:=.type "list",data:=.seq its.toArray n}={cls:=.type "list",data:=.seq (its.set j u).toArray n}:=by
 simp [Obj.mapSeq]
theorem Inv.lst {pins:List (Addr×Obj)} {σ:St} {H:Hp} {s:Shared} {p:Addr} {xs:List V} (I:Inv X pins σ H s) (h:H p=some (.lst xs)) :
  ∃ (its:List Value) (n:Nat),Vals xs its/\s.heap.get? p=some {cls:=.type "list",data:=.seq its.toArray n}/\xs.length<=sizeLine:=by
 obtain ⟨z,its,n,r,e⟩:=I.hok p _ h
 exact ⟨its,n,r,e,z⟩
theorem Inv.Ja {pins:List (Addr×Obj)} {σ:St} {H:Hp} {s:Shared} {p:Addr} {xs ys:List V} {its its':List Value} {n n':Nat} {f:Obj->Obj} (I:Inv X pins σ H s) (h:H p=some (.lst xs))
  (ho:s.heap.get? p=some {cls:=.type "list",data:=.seq its.toArray n}) (hf:f {cls:=.type "list",data:=.seq its.toArray n}={cls:=.type "list",data:=.seq its'.toArray n'}) (r:Vals ys its') (hz:ys.length<=sizeLine) (t:Nat) :
  Inv X pins σ (upd H p (.lst ys)) {s with heap:=s.heap.update p f,toks:=t}:=by
 have e:(s.heap.update p f).get? p=some {cls:=.type "list",data:=.seq its'.toArray n'}:=by
  rw [QY f ho (by rw [hf]<;>rfl),hf]
 refine I.write (x:=p) (e:=p) (by rw [h];trivial) (.inl rfl) (fun b u hb q=>(RQ _ _ (Sw hb)).trans q) ⟨_,e⟩ ?_
 exact ⟨hz,its',n',r,e⟩
def HE:V->V->V->Hp->(Hp->Prop)->Prop:=fun o i v H Q=>∃ p xs k j,o=.ref p/\i=.int k/\H p=some (.lst xs)/\uc xs.length k=some j/\Q (upd H p (.lst (xs.set j v)))
theorem set_list:ID X HE:=by
 intro pins s σ H o i v ov iv u Q I ro ri rv h
 obtain ⟨p,xs,k,j,rfl,rfl,hp,hj,q⟩:=h
 cases ro
 obtain ⟨t,rfl⟩:=ri
 obtain ⟨its,n,r,ho,hz⟩:=I.lst hp
 obtain ⟨h1,h2,h3,h4⟩:=Ar hj
 have hl:=r.length
 have hn:=rB
 have I':Inv X pins σ (upd H p (.lst (xs.set j v))) {s with heap:=s.heap.update p (Obj.mapSeq (·.setIfInBounds j u))}:=
  I.Ja hp ho (y9 its n j u) (r.set rv j) (by rw [List.length_set];exact hz) s.toks
 by_cases h0:0<=k
 ·have hk:k.toNat=j:=by
   rw [seqIndex_of h0 h4] at h1
   exact Qt h1
  exact PySem.W.ki_setAt ho h0 (by omega) (by rw [Pu,<- hl];exact h4) (by rw [hk];exact ⟨_,I',q⟩)
 ·have hk:(k+(its.toArray.size:Int)).toNat=j:=by
   rw [seqIndex_neg (by omega) h3] at h1
   rw [Pu,<- hl]
   exact Qt h1
  exact PySem.W.ki_setBack ho (by omega) (by rw [Pu,<- hl];exact h3) (by omega) (by rw [hk];exact ⟨_,I',q⟩)
theorem vV (lo hi:Option Int) (n:Nat):(sliceBounds lo hi none n).1=((HT.eI n 0 lo:Nat):Int)/\(sliceBounds lo hi none n).2.1=((HT.eI n n hi:Nat):Int)/\(sliceBounds lo hi none n).2.2=1:=by
 refine ⟨?_,?_,rfl⟩
 ·cases lo with
  | none=>simp [sliceBounds,HT.eI]
  | some i=>
   simp only [sliceBounds,HT.eI,Option.getD_none,show (1:Int) > 0 by decide,Qe]
   by_cases h:i < 0
   ·simp only [h,Qe]<;>omega
   ·simp only [h,Qm]<;>omega
 ·cases hi with
  | none=>simp [sliceBounds,HT.eI]
  | some i=>
   simp only [sliceBounds,HT.eI,Option.getD_none,show (1:Int) > 0 by decide,Qe]
   by_cases h:i < 0
   ·simp only [h,Qe]<;>omega
   ·simp only [h,Qm]<;>omega
theorem ud (its:List Value) (lo hi:Option Int):slicePick its.toArray lo hi none=((its.drop (HT.eI its.length 0 lo)).take (HT.eI its.length its.length hi - HT.eI its.length 0 lo)).toArray:=by
 obtain ⟨h1,h2,h3⟩:=vV lo hi its.toArray.size
 unfold slicePick
 rw [h1,h2,h3]
 simp only [sliceRange_one,pick_run,Pu]<;>rfl
def Ni (K:PySem.W.Frag):V->Option Int->Option Int->Hp->VK->Prop:=fun x lo hi H Q=>∃ a xs,x=.ref a/\iw K H a xs/\∀ p,H p=none->Q (.ref p) (upd H p (.lst (rE xs lo hi)))
theorem Av:KG X (Ni X.K):=by
 intro pins s σ H x v vl vu lo hi sl Q I rx hs pl pu h
 obtain ⟨a,xs,rfl,hx,q⟩:=h
 cases rx
 obtain ⟨its,r,ht,hz⟩:=I.list hx
 have hlen:=r.length
 refine ⟨"list",_,slot_list_getitem.lookup,ht.isList.typeIs,?_⟩
 refine wpAny_getItem_list_slice ht.isList hs pl pu .none (by simp) ?_ (by rw [Pu]<;>omega)
 rw [ud,<- hlen]
 refine ⟨.ref s.heap.objs.size,_,I.laid (t':=s.toks) (o:=.lst (rE xs lo hi)) (fun b ob q=>Pj _ q) (Pm _) ?_,rfl,q _ (I.hok.fresh (Pm _))⟩
 exact ⟨Pq (pV xs lo hi) hz,_,0,(r.drop (HT.eI xs.length 0 lo)).take (HT.eI xs.length xs.length hi - HT.eI xs.length 0 lo),Po _ rfl⟩
theorem df.or {f:Value} {r r':List V->Hp->VK->Prop} (h:df X f r) (h':df X f r'):df X f (fun xs H Q=>r xs H Q\/r' xs H Q):=by
 intro pins s σ H xs us Q I rs q
 rcases q with q | q
 ·exact h pins s σ H xs us Q I rs q
 ·exact h' pins s σ H xs us Q I rs q
theorem vW:df X (.type "list") (fun xs H Q=>∃ p ys,xs=[.ref p]/\(iw X.K H p ys\/gx X.K H p ys)/\∀ l,H l=none->Q (.ref l) (upd H l (.lst ys))):=by
 intro pins s σ H xs us Q I r h
 obtain ⟨p,ys,rfl,hq,q⟩:=h
 obtain ⟨u,rfl,rx⟩:=vals1 r
 cases rx
 have fin:∀ (its:List Value),Vals ys its->ys.length<=sizeLine->∀ (h':Heap) (c':Nat),(∀ b o',s.heap.get? b=some o'->h'.get? b=some o') ->
   h'.get? s.heap.objs.size=some {cls:=.type "list",dict:=none,data:=.seq its.toArray c',slots:=#[]}->EP X pins σ Q (.ref s.heap.objs.size) {s with heap:=h'}:=fun its r' hz h' c' kp e=>
  ⟨.ref s.heap.objs.size,_,I.laid (t':=s.toks) kp (Pm _) (show cv X.prog X.w _ h' _ (.lst ys) from ⟨hz,its,c',r',e⟩),rfl,q _ (I.hok.fresh (Pm _))⟩
 rcases hq with hq | hq
 ·obtain ⟨its,r',pl,hz⟩:=I.list hq
  have hlen:=r'.length
  obtain ⟨o,ho,hc,n,hd⟩:=pl.isList
  exact call_list_seq p (.inl rfl) ho hc hd (fun h' c' kp e=>fin its r' hz h' c' kp e) (by simp only [Pu]<;>omega)
 ·obtain ⟨its,r',pl,hz⟩:=I.tuple hq
  have hlen:=r'.length
  obtain ⟨o,ho,hc,n,hd⟩:=pl
  exact call_list_seq p (.inr rfl) ho hc hd (fun h' c' kp e=>fin its r' hz h' c' kp e) (by simp only [Pu]<;>omega)
theorem ue:df X (.type "tuple") (fun xs H Q=>∃ p ys,xs=[.ref p]/\((iw X.K H p ys/\∀ l,H l=none->Q (.ref l) (upd H l (.tup ys)))\/(gx X.K H p ys/\Q (.ref p) H))):=by
 intro pins s σ H xs us Q I r h
 obtain ⟨p,ys,rfl,h⟩:=h
 obtain ⟨u,rfl,rx⟩:=vals1 r
 cases rx
 rcases h with ⟨hq,q⟩ | ⟨hq,q⟩
 ·obtain ⟨its,r',pl,hz⟩:=I.list hq
  have hlen:=r'.length
  refine call_tuple_list pl.isList (fun h' kp=>?_) (by simp only [Pu]<;>omega)
  have I1:Inv X pins σ H {s with heap:=h'}:=I.kept (t':=s.toks) kp
  have I2:Inv X pins σ (upd H h'.objs.size (.tup ys)) {s with heap:=h'.push {cls:=.type "tuple",data:=.seq its.toArray}}:=
   I1.laid (t':=s.toks) (fun b o e=>Pj _ e) (Pm _) (show cv X.prog X.w _ _ _ (.tup ys) from ⟨hz,its,r',IsTup.new _ _⟩)
  exact ⟨.ref h'.objs.size,_,I2,rfl,q _ (I1.hok.fresh (Pm _))⟩
 ·obtain ⟨its,r',pl,hz⟩:=I.tuple hq
  exact call_tuple_same pl ⟨.ref p,H,I,rfl,q⟩
def Om (K:PySem.W.Frag) (T:String) (x:V) (H:Hp):Prop:=match x with
 | .str _=>T = "str"
 | .int _=>T = "int"
 | .ref p=>(T = "list" /\ ∃ xs,iw K H p xs)\/(T = "tuple" /\ ∃ o,K.lookup p=some o/\o.cls=.type "tuple" /\ o.dict=none) \/
   (T = "dict" /\ ((∃ kvs,H p=some (.dK kvs))\/∃ kvs,H p=some (.dT kvs)))\/(T = "set" /\ ∃ S n,H p=some (.set S n))
 | _=>False
theorem Jb {pins:List (Addr×Obj)} {σ:St} {H:Hp} {s:Shared} {T:String} {x:V} {v:Value} (I:Inv X pins σ H s) (r:RelV x v) (ty:Om X.K T x H) :
  s.TypeIs v T/\∀ a,v=.ref a->∃ ob,s.heap.get? a=some ob/\ob.dict=none:=by
 cases x with
 | str z=>
  obtain ⟨t,rfl⟩:=r
  cases (show T = "str" from ty)
  exact ⟨typeIs_str s z t,fun _ e=>nomatch e⟩
 | int i=>
  obtain ⟨t,rfl⟩:=r
  cases (show T = "int" from ty)
  exact ⟨typeIs_int s i t,fun _ e=>nomatch e⟩
 | ref p=>
  cases r
  rcases ty with ⟨rfl,xs,hq⟩ | ⟨rfl,o,hk,hc,hd⟩ | ⟨rfl,hk⟩ | ⟨rfl,S,n,hk⟩
  ·obtain ⟨its,_,pl,_⟩:=I.list hq
   refine ⟨pl.isList.typeIs,fun a e=>?_⟩
   cases e
   obtain ⟨o,n,e,c,hd,_⟩:=pl
   exact ⟨o,e,hd⟩
  ·refine ⟨⟨o,I.tY p o hk,hc⟩,fun a e=>?_⟩
   cases e
   exact ⟨o,I.tY _ o hk,hd⟩
  ·have z:∃ o,s.heap.get? p=some o/\o.ExactDict:=by
    rcases hk with ⟨kvs,hk⟩ | ⟨kvs,hk⟩
    ·obtain ⟨_,_,_,_,o,_,_,e,ex,_⟩:=I.hok p _ hk
     exact ⟨o,e,ex⟩
    ·obtain ⟨_,_,_,_,o,_,_,e,ex,_⟩:=I.hok p _ hk
     exact ⟨o,e,ex⟩
   obtain ⟨o,e,ex⟩:=z
   refine ⟨⟨o,e,ex.1⟩,fun a e2=>?_⟩
   cases e2
   exact ⟨o,e,ex.2.1⟩
  ·obtain ⟨o,_,_,_,e,ex,_⟩:=I.hok p _ hk
   refine ⟨⟨o,e,ex.1⟩,fun a e2=>?_⟩
   cases e2
   exact ⟨o,e,ex.2.1⟩
 | _=>exact False.elim ty
def Oo (K:PySem.W.Frag) (T:String) (r:V->List V->Hp->VK->Prop) (to:TE) (t:TA):TE:=fun σ H Q=>to σ H fun x H1=>Om K T x H1/\t σ H1 fun xs H2=>r x xs H2 Q
variable {o e:Expr} {es:List Expr} {to:TE} {t:TA} {name:Str} {apos cpos:Pos} {T id:String} {r:V->List V->Hp->VK->Prop}
theorem HF (pa:PlainAttrs T) (slot:Slot T name id) (hty:typeOf (.builtin id)=pure (.type "method_descriptor")) (hm:OW X id r) (ho:PE X o to) (ha:PA X (e::es) t)
  (hbase:attributeBase o name X.env (eval o X.env)=eval o X.env:=by rfl)
  (hfew:((backTo cpos (starEach (e::es) X.env)).all (fun x=>!x.1) && (backToKw cpos (keywordEach [] X.env)).all (fun x=>x.1.isSome)
   && decide ((e::es).length+([]:List Keyword).length+(if ([]:List Keyword).isEmpty then 0 else 1) < 30))=true:=by rfl)
  (hline:(apos.endLine == cpos.line)=true:=by rfl) (hs:starEach (e::es) X.env=(false,eval e X.env)::starEach es X.env:=by rfl) (hplain:(backTo cpos (starEach es X.env)).any (·.1)=false:=by rfl) :
  PE X (.Call (.Attribute o name apos) (e::es) [] cpos) (Oo X.K T r to t):=by
 intro pins s σ H Q I h
 refine wpAny_Call_method_late hbase hfew hline rfl (bV (ho pins s σ H _ I h) fun v s1 ⟨x,H1,I1,r1,ty,q1⟩=>?_)
 obtain ⟨h1,h2⟩:=Jb I1 r1 ty
 refine ⟨T,id,pa,slot,hty,h1,h2,?_⟩
 have hA:=ha cpos pins s1 σ H1 _ I1 q1
 rw [hs] at hA ⊢
 refine Calls.callWith_builtin (by show (false || (backTo cpos (starEach es X.env)).any (·.1))=false;rw [hplain]<;>rfl) (Calls.evalArgs_plain ?_)
 exact bV hA fun us s2 ⟨vs,H2,I2,r2,q2⟩=>hm pins s2 σ H2 x vs v us Q I2 r1 r2 q2
end
def Oq (X:Cx) (id:String) (r:V->List V->Hp->VK->Prop):Prop:=
 ∀ (pins:List (Addr×Obj)) (s:Shared) (σ:St) (H:Hp) (x:V) (xs:List V) (v:Value) (us:List Value) (Q:VK),Inv X pins σ H s->RelV x v->Vals xs us->r x xs H Q ->
  wpAny (model X.prog X.w) X.A (call (.builtin id) (v::us)) (EP X pins σ Q) X.xe s
theorem Vals.one:∀ {x:V} {us:List Value},Vals [x] us->∃ u,us=[u]/\RelV x u
 | _,_,.cons r .nil=>⟨_,rfl,r⟩
theorem Vals.eraseIdx:∀ {xs:List V} {us:List Value} (i:Nat),Vals xs us->Vals (xs.eraseIdx i) (us.eraseIdx i)
 | _,_,_,.nil=>.nil
 | _,_,0,.cons _ t=>t
 | _,_,i+1,.cons r t=>.cons r (Vals.eraseIdx i t)
theorem Vals.rep {xs:List V} {us:List Value} (h:Vals xs us):∀ k:Nat,Vals (List.replicate k xs).flatten (List.replicate k us).flatten
 | 0=>.nil
 | k+1=>by
  rw [QQ,QQ,RB,RB]
  exact Vals.append h (Vals.rep h k)
theorem uQ {α:Type}:∀ (l:List α) (i:Nat),(l.eraseIdx i).length<=l.length
 | [],_=>Pm _
 | _::_,0=>QR _
 | _::r,i+1=>Nat.succ_le_succ (uQ r i)
theorem foldl_rep (its:List Value):∀ (k:Nat) (acc:List Value),
  List.foldl (fun x1 x2=>x1++x2) acc.toArray (List.replicate k its.toArray)=(acc++(List.replicate k its).flatten).toArray
 | 0,acc=>by simp
 | k+1,acc=>by
  have e:acc.toArray++its.toArray=(acc++its).toArray:=by simp
  have e2:(acc++its)++(List.replicate k its).flatten=acc++(List.replicate (k+1) its).flatten:=by
   rw [QQ,RB,Tx]
  rw [<- e2,<- foldl_rep its k (acc++its),<- e,QQ,List.foldl_cons]
section
variable {X:Cx} {pins:List (Addr×Obj)} {σ:St} {H:Hp} {s:Shared} {l b:Addr} {xs ys zs:List V}
theorem Inv.Li {its its':List Value} {n:Nat} {f:Array Value->Array Value} {t':Nat} (I:Inv X pins σ H s) (hH:H l=some (.lst xs))
  (e:s.heap.get? l=some {cls:=.type "list",data:=.seq its.toArray n}) (hf:f its.toArray=its'.toArray) (hv:Vals ys its') (hz:ys.length<=sizeLine) :
  Inv X pins σ (upd H l (.lst ys)) {s with heap:=s.heap.update l (Obj.mapSeq f),toks:=t'}:=by
 have q:=PySem.IsL.update e f
 rw [hf] at q
 refine I.write (x:=l) (e:=l) (by rw [hH];exact trivial) (.inl rfl) (fun b' u hb hu=>(RQ s.heap (Obj.mapSeq f) (Sw hb)).trans hu) ⟨_,q⟩ ?_
 exact ⟨hz,its',_,hv,q⟩
theorem Inv.Lj {its:List Value} {t':Nat} (I:Inv X pins σ H s) (hv:Vals ys its) (hz:ys.length<=sizeLine) :
  Inv X pins σ (upd H s.heap.objs.size (.lst ys)) {s with heap:=s.heap.push {cls:=.type "list",data:=.seq its.toArray},toks:=t'}:=
 I.laid (fun _ _ q=>Pj _ q) (Pm _) ⟨hz,its,0,hv,Po _ rfl⟩
theorem Inv.fresh (I:Inv X pins σ H s):H s.heap.objs.size=none:=I.hok.fresh (Pm _)
theorem Inv.C1 (I:Inv X pins σ H s) (hH:H l=some (.lst xs)):xs.length<=sizeLine/\∃ (its:List Value) (n:Nat),Vals xs its/\xs.length=its.length/\s.heap.get? l=some {cls:=.type "list",data:=.seq its.toArray n}:=by
 obtain ⟨z,its,n,r,e⟩:=I.hok l _ hH
 exact ⟨z,its,n,r,r.length,e⟩
theorem C2 {n:Nat} (h:n<=sizeLine):Builtin.List.listTooLong n=false:=by
 unfold Builtin.List.listTooLong
 exact PR (by omega)
end
section
variable {X:Cx}
def FY:V->List V->Hp->VK->Prop:=fun x vs H Q=>∃ l xs y,x=.ref l/\vs=[y]/\H l=some (.lst xs)/\xs.length < sizeLine/\Q .non (upd H l (.lst (xs++[y])))
theorem BU:Oq X "list.append" FY:=by
 intro pins s σ H x vs v us Q I rx rv h
 obtain ⟨l,xs,y,rfl,rfl,hH,hz,q⟩:=h
 cases rx
 obtain ⟨u,rfl,ru⟩:=rv.one
 obtain ⟨z,its,n,r,hl,e⟩:=I.C1 hH
 refine So F.slot_list_append ⟨_,e,rfl⟩ F.entry_list_append (F.args_list_append_2 _ _) (PySem.list_append l its.toArray n u (by rw [Pu];omega)) ⟨e,?_⟩
 refine ⟨.non,_,I.Li (its':=its++[u]) hH e (by simp) (r.append (.cons ru .nil)) ?_,rfl,q⟩
 rw [PU,SY]
 omega
def Jc:V->List V->Hp->VK->Prop:=fun x vs H Q=>∃ l xs i k y,x=.ref l/\vs=[.int i]/\H l=some (.lst xs)/\-(2 ^ 63)<=i/\i < 2 ^ 63/\seqIndex? i xs.length=some k/\xs[k]?=some y/\Q y (upd H l (.lst (xs.eraseIdx k)))
theorem C3:Oq X "list.pop" Jc:=by
 intro pins s σ H x vs v us Q I rx rv h
 obtain ⟨l,xs,i,k,y,rfl,rfl,hH,h1,h2,hk,hy,q⟩:=h
 cases rx
 obtain ⟨u,rfl,ru⟩:=rv.one
 obtain ⟨t,rfl⟩:=ru
 obtain ⟨z,its,n,r,hl,e⟩:=I.C1 hH
 obtain ⟨w,hw,rw'⟩:=r.get hy
 refine So F.slot_list_pop ⟨_,e,rfl⟩ F.entry_list_pop (F.args_list_pop_2 _ _)
  (MeetsSeq.list_pop_at l its.toArray n i t k w (fitsIndex_both h1 h2) (by rw [Pu,<- hl];exact hk) (by rw [<- P6];exact hw) (by rw [Pu];omega)) ⟨e,?_⟩
 refine ⟨y,_,I.Li (its':=its.eraseIdx k) hH e ?_ (r.eraseIdx k) ?_,rw',q⟩
 ·show its.toArray.eraseIdxIfInBounds k=(its.eraseIdx k).toArray
  rw [List.eraseIdxIfInBounds_toArray]
 ·have:=uQ xs k
  omega
def Nj:R2:=fun x y H Q=>∃ l b xs zs,x=.ref l/\y=.ref b/\H l=some (.lst xs)/\H b=some (.lst zs)/\xs.length+zs.length<=sizeLine/\∀ p,H p=none->Q (.ref p) (upd H p (.lst (xs++zs)))
theorem Jd:ik X (binaryOp .Add) Nj:=by
 intro pins s σ H x y v u Q I rx ry h
 obtain ⟨l,b,xs,zs,rfl,rfl,hH,hB,hz,q⟩:=h
 cases rx
 cases ry
 obtain ⟨z,its,n,r,hl,e⟩:=I.C1 hH
 obtain ⟨z2,its2,n2,r2,hl2,e2⟩:=I.C1 hB
 refine PySem.P.add_list e e2 ?_ (by rw [Pu,Pu];omega)
 have ea:its.toArray++its2.toArray=(its++its2).toArray:=by simp
 rw [ea]
 exact ⟨.ref _,_,I.Lj (t':=s.toks) (r.append r2) (by rw [PU];omega),rfl,q _ I.fresh⟩
def Nk:R2:=fun x y H Q=>∃ l k xs,x=.ref l/\y=.int k/\H l=some (.lst xs)/\-(2 ^ 63)<=k/\k < 2 ^ 63/\xs.length * k.toNat<=sizeLine /\
 ∀ p,H p=none->Q (.ref p) (upd H p (.lst (List.replicate k.toNat xs).flatten))
theorem len_rep {α:Type} (xs:List α) (k:Nat):(List.replicate k xs).flatten.length=k * xs.length:=by
 induction k with
 | zero=>simp
 | succ k ih=>rw [QQ,RB,PU,ih,Nat.succ_mul,Nat.add_comm]
theorem Je:ik X (binaryOp .Mult) Nk:=by
 intro pins s σ H x y v u Q I rx ry h
 obtain ⟨l,k,xs,rfl,rfl,hH,h1,h2,hz,q⟩:=h
 cases rx
 obtain ⟨t,rfl⟩:=ry
 obtain ⟨z,its,n,r,hl,e⟩:=I.C1 hH
 have hlen:its.toArray.size * k.toNat<=sizeLine:=by rw [Pu,<- hl];exact hz
 have hcap:¬ its.toArray.size * k.toNat > (2 ^ 63 - 1) / 8:=by
  have:(sizeLine:Nat)<=(2 ^ 63 - 1) / 8:=by decide
  omega
 have hfit:¬ (!Builtin.List.listFitsIndex k)=true:=by
  rw [fitsIndex_both h1 h2]
  exact P5
 have hlong:¬ Builtin.List.listTooLong (its.toArray.size * k.toNat)=true:=by
  rw [C2 hlen]
  exact P5
 have hnew:List.foldl (fun x1 x2=>x1++x2) #[] (List.replicate (if its.toArray.isEmpty=true then 0 else k.toNat) its.toArray)=(List.replicate k.toNat its).flatten.toArray:=by
  have f0:∀ m:Nat,List.foldl (fun x1 x2=>x1++x2) #[] (List.replicate m its.toArray)=(List.replicate m its).flatten.toArray:=fun m=>by
   have:=foldl_rep its m []
   rw [Rb] at this
   exact this
  rw [f0]
  cases its with
  | nil=>simp
  | cons a r'=>rw [if_neg (by simp)]
 refine wpAny_binaryOp_repeat_ref (T := "list") (U := "int") (by decide) ⟨_,e,rfl⟩ (fun s'=>typeIs_int s' k t) noFill_list_mul F.fills_int_mul F.slot_int_rmul repeat_list F.slot_int_index.lookup
  (So F.slot_int_rmul (typeIs_int s k t) F.entry_int_rmul (F.args_int_rmul_2 _ _) (int___rmul___int_list k t l its.toArray n)
   ⟨e,rfl,⟨_,e,rfl⟩,So F.slot_list_mul ⟨_,e,rfl⟩ F.entry_list_mul (F.args_list_mul_2 _ _) (AutoListH.list___mul___list_int_3 l its.toArray n k t hfit hcap hlong) ⟨e,?_⟩⟩)
 rw [hnew]
 exact ⟨.ref _,_,I.Lj (t':=s.toks) (r.rep k.toNat) (by rw [len_rep,Nat.mul_comm];exact hz),rfl,q _ I.fresh⟩
end
end L2
namespace Att
open PySem PySem.W PySem.Calls PyProof.Rows
theorem qB {P:Params} {h:Heap}:∀ (ns:List Int) (vs:List Value),WellAll P h vs (ns.map WData.int)->IntsAre vs ns:=by
 intro ns
 induction ns with
 | nil=>
  intro vs w
  rw [Ri] at w
  cases w
  exact .nil
 | cons n ns ih=>
  intro vs w
  rw [P9] at w
  cases w with
  | cons a b=>
   cases a
   exact .cons _ _ (ih _ b)
theorem BV {l:OpenLaw} {n:Nat} (hn:l.most=some n) {P:Params} {h:Heap} {args:List WData} {vals:List Value}
  (hpre:l.row.toRowW.claim.pre args=true) (hwl:WellAll P h vals args) :
  ∃ a vs ns,vals=[Value.ref a]/\args=[WData.list (ns.map WData.int)]/\h.get? a=some {cls:=.type "list",data:=.seq vs.toArray}/\IntsAre vs ns/\ns.length<=n:=by
 have hsh:WShape.hasAll [] args [.list .int]=true:=(pre_splitW hpre).1
 have hc:l.pre.holds [] {args:=args}=true:=(pre_splitW hpre).2
 obtain ⟨d,r,rfl,h1,h2⟩:=hasAllW_cons hsh
 obtain rfl:=hasAllW_nil h2
 obtain ⟨xs,rfl,h3⟩:=hasW_list h1
 obtain ⟨ns,rfl⟩:=items_int h3
 have hlen:ns.length<=n:=by
  unfold OpenLaw.pre at hc
  have h4:(WTm.not (.lt (.lit (.int (n:Int))) (.len (.arg 0)))).holds [] {args:=[.list (ns.map .int)]}=true:=by
   have h4:=(holds_andW hc).1
   rw [hn] at h4
   exact h4
  have h5:=condW_of h4 (w_not (w_lt w_lit (w_len_list (w_arg rfl))))
  rw [PX] at h5
  refine Nat.le_of_not_lt fun q=>?_
  have q':(n:Int) < ((ns.length:Nat):Int):=by omega
  first
   | (rw [PN q'] at h5;exact absurd h5 (by decide))
   | (simp at h5;omega)
 cases hwl with
 | cons w1 w2=>
  cases w2
  cases w1 with
  | list ho hall=>exact ⟨_,_,ns,rfl,rfl,ho,qB ns _ hall,hlen⟩
theorem BW (l:OpenLaw) (args:List WData):l.row.toRowW.claim.post args (.bool true) args=true:=
 postW_of (r:=l.row.toRowW) (X:=(true == true))
  (show WShape.has [] (.bool true) .bool=true by first | rfl | decide | simp [WShape.has,WShape.arms,WShape.armsAll])
  (show (WTm.eq .res (.lit (.bool true))).value [] {args:=args,res:=some (.bool true),after:=args}=some (.bool (true == true)) from w_eq_bool (w_res rfl) w_lit) rfl
theorem xp {l:OpenLaw} {n:Nat} {q:Program} {loose:List Str} {XP:(Str->Option Value)->Heap->Prop} {YP:World->Heap->Prop} {d:DefRec}
  (hn:l.most=some n) (hdf:d.params.defaults=[])
  (call:∀ (w:World) (s₀ s₁:Shared) (mg mb:Str->Option Value) (fa:Addr) (o:Obj) (pm cd doc:Value) (a:Addr) (vs:List Value) (ns:List Int),
   Ground q loose [] XP w s₀ mg mb s₁.heap->YP w s₁.heap ->
   s₁.heap.get? fa=some o->o.data=.func (docDef d.name d.params d.body d.scope pm cd doc)->s₁.heap.CodeRec cd d.name->mg d.name=some (.ref fa) ->
   s₁.heap.get? a=some {cls:=.type "list",data:=.seq vs.toArray}->IntsAre vs ns->ns.length<=n->s₁.gens=#[] ->
   codeAny (model l.prog w) callerA (.call (.ref fa) ⟨[.ref a],[]⟩) (fun r s'=>r=.ok (.ret (.bool true))/\OldK s₁.heap s'.heap/\s'.os=s₁.os/\AllBare s'.gens) s₁) :
  WalkO q loose XP YP l.row.toRowW d [] (fun f vs=>PySem.call f vs):=by
 intro w s₀ s₁ mg mb G Y fa o pm cd doc dV kV ho hd hcd hD hmg hg args vals as hpre hlay hrd hwl hlo
 obtain rfl:dV=.none:=Dflts.none hD hdf
 obtain rfl:kV=.none:=Dflts.noKw hD
 obtain ⟨a,vs,ns,rfl,rfl,hobj,hints,hlen⟩:=BV hn hpre hwl
 refine enter_call (Tr (call w s₀ s₁ mg mb fa o pm cd doc a vs ns G Y ho (fd_plain hd) hcd hmg hobj hints hlen hg) fun r s' hq=>?_)
 obtain ⟨rfl,h2,h3,h4⟩:=hq
 exact ⟨.inl ⟨.bool true,.bool true,[],rfl,fun _=>rfl,.bool true,BW l _,fun _=>⟨List.Pairwise.nil,fun _ hm=>(nomatch hm)⟩⟩,h2,h3,h4⟩
end Att
namespace L2
open PySem PySem.Spec PyProof.Rows
theorem uR:∀ {vs:List Value} {ns:List Int},IntsAre vs ns->Vals (ns.map V.int) vs
 | _,_,.nil=>.nil
 | _,_,.cons n t h=>.cons ⟨t,rfl⟩ (uR h)
def Jf (H:Hp):Prop:=∀ b,H b=none\/∃ o xs,H b=some (.frz o (.lst xs))
theorem C4 {P:Program} {w:World} {K:PySem.W.Frag} {mg mb:Str->Option Value} {CX:CC} {k:Nat} {fa a:Addr} {fd:FuncData} {x:Str} {sp:Sp} {s₁:Shared} {vs:List Value} {ns:List Int}
  (KX:K.In s₁.heap) (hns:s₁.heap.Ns mainGlobals mg) (hb:s₁.heap.Ns builtinsNs mb) (hbb:∀ x:Str,x ≠ "__name__" -> mb x=bootBuiltins x) (hlim:s₁.heap.NoLimit) (hg:s₁.gens=#[])
  (ha:s₁.heap.get? a=some {cls:=.type "list",data:=.seq vs.toArray}) (hi:IntsAre vs ns) (hl:ns.length<=sizeLine) (hr:cg k callerA)
  (F:∀ base:Heap,K.In base->base.Ns mainGlobals mg->jn P w K mg base CX k fa fd [x] sp) (hbind:∀ (s:Shared) (u:Value),BindsTo s fd ⟨[u],[]⟩ [(x,u)])
  (hsp:∀ H:Hp,Jf H->iw K H a (ns.map V.int)->sp [.ref a] H (fun v _=>v=.bl true) fun _ _ _=>False)
  (hCX:∀ H e s',CX [] H s₁ (fun _ _ _=>False) e s'->False) :
  codeAny (model P w) callerA (.call (.ref fa) ⟨[.ref a],[]⟩) (fun r s'=>r=.ok (.ret (.bool true))/\OldK s₁.heap s'.heap/\s'.os=s₁.os/\AllBare s'.gens) s₁:=by
 have rv:=uR hi
 have lenV:=hi.length
 have core:∀ H:Hp,Jf H->iw K H a (ns.map V.int)->km P w H s₁.heap->(∀ b,H b≠none->b=a)->(H a≠none->K.lookup a=none) ->
   codeAny (model P w) callerA (.call (.ref fa) ⟨[.ref a],[]⟩) (fun r s'=>r=.ok (.ret (.bool true))/\OldK s₁.heap s'.heap/\s'.os=s₁.os/\AllBare s'.gens) s₁:=by
  intro H hO hS hok hA hK
  have base_of:∀ {b:Addr} {o:Obj},s₁.heap.get? b=some o->H b=none->(vO s₁.heap H).get? b=some o:=fun e n=>CH e n
  have noA:∀ {b:Addr} {o:Obj} {es:Array DictEntry} {ep:Nat},s₁.heap.get? b=some o->o.data=.dict es ep->H b=none:=fun {b o es ep} e d=>by
   cases q:H b with
   | none=>rfl
   | some u=>
    have e':b=a:=hA b (by rw [q];simp)
    subst e'
    rw [ha] at e;cases e
    have d':Data.seq vs.toArray _=Data.dict es ep:=d
    cases d'
  have nsK:∀ {b:Addr} {m:Str->Option Value},s₁.heap.Ns b m->(vO s₁.heap H).Ns b m:=fun {b m} ⟨o,es,ep,e,d,r⟩=>⟨o,es,ep,base_of e (noA e d),d,r⟩
  have hKb:K.In (vO s₁.heap H):=fun b o e=>base_of (KX b o e) (by
   cases q:H b with
   | none=>rfl
   | some u=>
    have e':b=a:=hA b (by rw [q];simp)
    subst e'
    rw [hK (by rw [q];simp)] at e;cases e)
  have hM:Mod K mg (vO s₁.heap H):=⟨hKb,nsK hns,⟨mb,nsK hb,hbb⟩,let ⟨mc,h1,h2⟩:=hlim;⟨mc,nsK h1,h2⟩⟩
  have e0:FQ P w K mg (vO s₁.heap H) callerA [] s₁ H:=⟨rfl,hM,fun b o e=>Fz e,Nat.le_of_eq (BI _ _),trivial,fun b hb=>absurd (show b∈([]:List Addr) from hb) (by simp),hok,.of_eq hg⟩
  refine Tr ((F _ hKb (nsK hns)).run callerA [] s₁ H ⟨[.ref a],[]⟩ [.ref a] [.ref a] _ _ hr e0 (hbind s₁ (.ref a)) (.cons rfl .nil) (hsp H hO hS)) fun r s' h=>?_
  cases r with
  | error e=>exact (hCX H e s' h).elim
  | ok fl=>
   cases fl with
   | next=>exact False.elim h
   | brk=>exact False.elim h
   | cont=>exact False.elim h
   | ret u=>
    obtain ⟨v,H',os,bare,un,hok',r',q⟩:=h
    have q':v=.bl true:=q
    subst q'
    obtain rfl:u=Value.bool true:=r'
    refine ⟨rfl,OldK.of_keep fun b o e=>?_,os,bare⟩
    cases q:H b with
    | none=>exact un.keep b o e q (by intro z;exact absurd (show b∈([]:List Addr) from z) (by simp)) (by simp)
    | some u=>
     rcases hO b with z | ⟨ob,xs,z⟩
     ·rw [q] at z;cases z
     ·have z2:=un.frzs b ob _ z
      obtain ⟨e1,_⟩:=hok b _ z
      obtain ⟨e2,_⟩:=hok' b _ z2
      rw [e] at e1;cases e1
      exact e2
 cases hk:K.lookup a with
 | some o=>
  have e:=KX a o hk
  rw [ha] at e
  cases e
  refine core (fun _=>none) (fun _=>.inl rfl) (.inr ⟨_,vs.toArray,_,hk,rfl,rfl,rfl,by rw [Pu,lenV];exact hl,by simpa using rv⟩) (fun b u z=>by have z':(none:Option HO)=some u:=z;cases z') (fun b z=>absurd rfl z) fun z=>absurd rfl z
 | none=>
  refine core (fun b=>if b=a then some (.frz {cls:=.type "list",data:=.seq vs.toArray} (.lst (ns.map V.int))) else none) (fun b=>?_) (.inl (.inr ⟨{cls:=.type "list",data:=.seq vs.toArray},if_pos rfl⟩)) (fun b u z=>?_) (fun b z=>?_) fun _=>hk
  ·by_cases hb:b=a
   ·exact .inr ⟨_,_,if_pos hb⟩
   ·exact .inl (if_neg hb)
  ·by_cases hb:b=a
   ·have z':=(if_pos hb).symm.trans z
    cases z'
    subst hb
    exact ⟨ha,by rw [PX];exact hl,vs,_,rv,ha⟩
   ·have z':=(if_neg hb).symm.trans z
    cases z'
  ·by_cases hb:b=a
   ·exact hb
   ·exact absurd (if_neg hb) z
theorem FZ {l:PySem.W.OpenLaw} {n k:Nat} {q:Program} {loose:List Str} {XP:(Str->Option Value)->Heap->Prop} {YP:World->Heap->Prop} {d:DefRec} {K:Params->PySem.W.Frag} {CX:World->CC} {sp:World->Sp} {x:Str}
  (hn:l.most=some n) (hn2:n<=sizeLine) (hdf:d.params.defaults=[]) (hr:cg k callerA)
  (hY:∀ (w:World) (h:Heap),YP w h->(K w.params).In h)
  (F:∀ (w:World) (mg:Str->Option Value) (fa:Addr) (h:Heap),(K w.params).In h->h.Ns mainGlobals mg->mg d.name=some (.ref fa) ->
   ∃ fd:FuncData,(∀ (s:Shared) (u:Value),BindsTo s fd ⟨[u],[]⟩ [(x,u)]) /\
    ∀ base:Heap,(K w.params).In base->base.Ns mainGlobals mg->jn l.prog w (K w.params) mg base (CX w) k fa fd [x] (sp w))
  (hsp:∀ (w:World) (H:Hp) (a:Addr) (ns:List Int),ns.length<=n->Jf H->iw (K w.params) H a (ns.map V.int)->sp w [.ref a] H (fun v _=>v=.bl true) fun _ _ _=>False)
  (hCX:∀ (w:World) (H:Hp) (s:Shared) (e:Value) (s':Shared),CX w [] H s (fun _ _ _=>False) e s'->False) :
  PySem.W.WalkO q loose XP YP l.row.toRowW d [] (fun f vs=>PySem.call f vs):=by
 refine Att.xp hn hdf fun w s₀ s₁ mg mb fa o pm cd doc a vs ns G Y ho hd hcd hmg hobj hints hlen hg=>?_
 have KX:=hY w _ Y
 obtain ⟨fd,hb,hF⟩:=F w mg fa _ KX G.T.g hmg
 exact C4 KX G.T.g G.T.b G.T.builtins G.T.nolimit hg hobj hints (Pq hlen hn2) hr hF hb (fun H hO hS=>hsp w H a ns hlen hO hS) fun H e s'=>hCX w H s₁ e s'
end L2
namespace L2
open PySem PySem.Spec PyProof.Rows
def iy (s:Stmt):Arguments:=match s with
 | .FunctionDef _ a _ _ _ _ _ _ _ _=>a
 | _=>{posonlyargs:=[],args:=[],vararg:=none,kwonlyargs:=[],kw_defaults:=[],kwarg:=none,defaults:=[]}
def ff (s:Stmt):List Stmt:=match s with
 | .FunctionDef _ _ b _ _ _ _ _ _ _=>b
 | _=>[]
def aE (s:Stmt):Scope:=match s with
 | .FunctionDef _ _ _ _ _ _ sc _ _ _=>sc
 | _=>{kind:=.function,names:=[],isGenerator:=false,isCoroutine:=false}
structure HG (K:PySem.W.Frag) (x qual:Str) (st:Stmt) (f:Addr) (fd:FuncData):Prop where
 ex:∃ (oc:Value) (od:Option Addr) (kV doc pm:Value) (an:Option Addr) (cdv ct:Value) (osl:Array (Option Value)),
  fd=PySem.W.fnOf x qual (iy st) (ff st) (aE st) .none kV doc pm an cdv ct/\K.lookup f=some ⟨oc,od,.func fd,osl⟩/\PySem.W.codeIn K cdv qual=true
 kp:PySem.W.keepIn K (.ref f)=true
section
variable {P:Program} {w:World} {K:PySem.W.Frag} {mg:Str->Option Value} {base:Heap}
theorem HG.binds {x qual:Str} {st:Stmt} {f:Addr} {fd:FuncData} {ps:List Str} (F:HG K x qual st f fd)
  (h:∀ (kV doc pm:Value) (an:Option Addr) (cdv ct:Value) (us:List Value),us.length=ps.length->bindArgs (PySem.W.fnOf x qual (iy st) (ff st) (aE st) .none kV doc pm an cdv ct) ⟨us,[]⟩=pure (ps.zip us)):Binds K fd ps []:=by
 obtain ⟨oc,od,kV,doc,pm,an,cdv,ct,osl,rfl,lk,hcd⟩:=F.ex
 exact .all (h kV doc pm an cdv ct)
theorem za {x qual:Str} {st:Stmt} {f:Addr} {oc:Value} {od an:Option Addr} {osl:Array (Option Value)} {kV doc pm cdv ct:Value} (l:K.lookup f=some ⟨oc,od,.func (PySem.W.fnOf x qual (iy st) (ff st) (aE st) .none kV doc pm an cdv ct),osl⟩)
  (c:PySem.W.codeIn K cdv qual=true) (k:PySem.W.keepIn K (.ref f)=true):HG K x qual st f (PySem.W.fnOf x qual (iy st) (ff st) (aE st) .none kV doc pm an cdv ct):=⟨⟨oc,od,kV,doc,pm,an,cdv,ct,osl,rfl,l,c⟩,k⟩
end
def bD (H H':Hp):Prop:=∀ b o,H b=some o->H' b=some o
theorem bD.refl (H:Hp):bD H H:=fun _ _ h=>h
theorem bD.trans {H H1 H2:Hp} (a:bD H H1) (b:bD H1 H2):bD H H2:=fun c o h=>b c o (a c o h)
theorem bD.free {H H':Hp} (e:bD H H') {l:Addr} (h:H' l=Option.none):H l=Option.none:=by
 cases q:H l with
 | none=>rfl
 | some o=>
  rw [e l o q] at h
  cases h
theorem bD.seq {K:PySem.W.Frag} {H H':Hp} {a:Addr} {xs:List V} (e:bD H H') (h:iw K H a xs):iw K H' a xs:=by
 rcases h with (h | ⟨o,h⟩) | h
 ·exact .inl (.inl (e _ _ h))
 ·exact .inl (.inr ⟨o,e _ _ h⟩)
 ·exact .inr h
def eW (cells:List (Str×Addr)):List (Str×NameKind)->List (Str×Addr)->List (Str×Addr)
 | [],acc=>acc
 | (n,k)::r,acc=>if k == .free then eW cells r ((n,(cells.lookup n).getD 0)::acc) else eW cells r acc
theorem mQ {env:Env}:∀ (names:List (Str×NameKind)) (acc:List (Str×Addr)),(∀ n,(n,NameKind.free)∈names->∃ c,env.cells.lookup n=some c) ->
  (forIn (m:=Sem) names acc fun (x:Str×NameKind) (cs:List (Str×Addr))=>match x with
   | (name,kind)=>if (kind == NameKind.free)=true then (do let a <- cellOf env name;pure (ForInStep.yield ((name,a)::cs))) else pure (ForInStep.yield cs))=pure (eW env.cells names acc)
 | [],acc,_=>by rw [Rp];rfl
 | (n,k)::r,acc,h=>by
  rw [Rc]
  unfold eW
  by_cases hk:(k == NameKind.free)=true
  ·obtain ⟨c,hc⟩:=h n (by have:=eq_of_beq hk;subst this;exact PJ)
   have e:cellOf env n=pure c:=by unfold cellOf;rw [hc]
   simp only [hk,Qe]
   rw [e,hc]
   exact mQ r _ fun m hm=>h m (Pr _ hm)
  ·simp only [hk]
   exact mQ r _ fun m hm=>h m (Pr _ hm)
theorem i6 {scope:Scope} {env:Env} (h:∀ n,(n,NameKind.free)∈scope.names->∃ c,env.cells.lookup n=some c):closureFor scope env=pure (eW env.cells scope.names []):=by
 have q:=mQ (env:=env) scope.names [] h
 unfold closureFor
 exact (Rv (fun m=>m >>= fun cs=>pure cs) q)
theorem lF {cells:List (Str×Addr)} {x:Str}:∀ {names:List (Str×NameKind)} {acc:List (Str×Addr)},(x,NameKind.free)∉names->(eW cells names acc).lookup x=acc.lookup x
 | [],_,_=>rfl
 | (n,k)::r,acc,h=>by
  unfold eW
  by_cases hk:(k == NameKind.free)=true
  ·rw [if_pos hk,lF fun z=>h (Pr _ z),Q6]
   have:(x == n)=false:=by
    cases e:x == n with
    | false=>rfl
    | true=>
     have e1:=eq_of_beq e
     have e2:=eq_of_beq hk
     subst e1;subst e2
     exact absurd PJ h
   rw [this]
  ·rw [if_neg hk,lF fun z=>h (Pr _ z)]
theorem g6 {cells:List (Str×Addr)} {x:Str}:∀ {names:List (Str×NameKind)} {acc:List (Str×Addr)},(x,NameKind.free)∈names->(eW cells names acc).lookup x=some ((cells.lookup x).getD 0)
 | (n,k)::r,acc,h=>by
  unfold eW
  by_cases hr:(x,NameKind.free)∈r
  ·by_cases hk:(k == NameKind.free)=true
   ·rw [if_pos hk];exact g6 hr
   ·rw [if_neg hk];exact g6 hr
  ·rcases Pn.mp h with e | e
   ·cases e
    rw [if_pos (show (NameKind.free == NameKind.free)=true from rfl),lF hr,Q6]
    simp
   ·exact absurd e hr
theorem dy:∀ (names:List (Str×NameKind)) (n:Nat) (acc:List (Str×Addr)),cellsFrom n names acc=cellsFrom n names []++acc
 | [],_,_=>rfl
 | (x,k)::r,n,acc=>by
  unfold cellsFrom
  by_cases hk:(k == NameKind.cell)=true
  ·rw [if_pos hk,if_pos hk,dy r (n+1) ((x,n)::acc),dy r (n+1) [(x,n)],Tx];rfl
  ·rw [if_neg hk,if_neg hk];exact dy r n acc
theorem fU {x:Str} {c:Addr}:∀ {names:List (Str×NameKind)} {n:Nat},(x,c)∈cellsFrom n names []->(x,NameKind.cell)∈names/\n<=c
 | [],_,h=>nomatch h
 | (y,k)::r,n,h=>by
  unfold cellsFrom at h
  by_cases hk:(k == NameKind.cell)=true
  ·rw [if_pos hk,dy] at h
   rcases PL.mp h with h | h
   ·obtain ⟨h1,h2⟩:=fU h
    exact ⟨Pr _ h1,by omega⟩
   ·have e:(x,c)=(y,n):=by simpa using h
    cases e
    have:=eq_of_beq hk
    subst this
    exact ⟨PJ,Pm _⟩
  ·rw [if_neg hk] at h
   obtain ⟨h1,h2⟩:=fU h
   exact ⟨Pr _ h1,h2⟩
structure cU (sc:Scope) (N own:List Str) (scope:Scope):Prop where
 kind:scope.kind=.function
 frees:∀ n,(n,NameKind.free)∈scope.names->sc.names.lookup n=some .cell\/sc.names.lookup n=some .free
 own:∀ x∈own,(x,NameKind.free)∉scope.names
 out:∀ x∈N,scope.names.lookup x≠some .local/\scope.names.lookup x≠some .cell
 uniq:∀ p∈scope.names,scope.names.lookup p.1=some p.2
def gm (sc:Scope) (N own:List Str) (scope:Scope):Bool:=
 (scope.kind == .function) && scope.names.all (fun p=>p.2 != .free || (sc.names.lookup p.1 == some .cell) || (sc.names.lookup p.1 == some .free)) &&
 own.all (fun x=>scope.names.all fun p=>!(p.1 == x && p.2 == .free)) && N.all (fun x=>scope.names.lookup x != some .local && scope.names.lookup x != some .cell) &&
 scope.names.all (fun p=>scope.names.lookup p.1 == some p.2)
theorem cU.of {sc:Scope} {N own:List Str} {scope:Scope} (h:gm sc N own scope=true):cU sc N own scope:=by
 unfold gm at h
 simp only [Pl] at h
 obtain ⟨⟨⟨⟨h1,h2⟩,h3⟩,h4⟩,h5⟩:=h
 refine ⟨eq_of_beq h1,fun n hn=>?_,fun x hx hn=>?_,fun x hx=>?_,fun p hp=>?_⟩
 ·have:=PH.mp h2 _ hn
  simp only [QK,Tz,PB,false_or] at this
  rcases this with q | q
  ·exact .inl (eq_of_beq q)
  ·exact .inr (eq_of_beq q)
 ·have:=PH.mp (PH.mp h3 x hx) _ hn
  simp at this
 ·have:=PH.mp h4 x hx
  simp only [Pl,bne_iff_ne] at this
  exact this
 ·exact eq_of_beq (PH.mp h5 p hp)
theorem ky {env:Env} {x:Str}:∀ (names:List (Str×NameKind)),
  (names.map fun (n,k)=>if (k == NameKind.free && env.scope.kind == .function && env.kindOf n == some .cell) then (n,NameKind.cell) else (n,k)).lookup x
   = (names.lookup x).map fun k=>if (k == NameKind.free && env.scope.kind == .function && env.kindOf x == some .cell) then NameKind.cell else k
 | []=>rfl
 | (n,k)::r=>by
  have ih:=ky (env:=env) (x:=x) r
  rw [P9]
  show List.lookup x ((if (k == NameKind.free && env.scope.kind == .function && env.kindOf n == some .cell)=true then (n,NameKind.cell) else (n,k))::_)=_
  by_cases hc:(k == NameKind.free && env.scope.kind == .function && env.kindOf n == some .cell)=true
  ·rw [if_pos hc,Q6,Q6]
   cases hx:x == n with
   | true=>have:=eq_of_beq hx;subst this;exact Rv some (if_pos hc).symm
   | false=>exact ih
  ·rw [if_neg hc,Q6,Q6]
   cases hx:x == n with
   | true=>have:=eq_of_beq hx;subst this;exact Rv some (if_neg hc).symm
   | false=>exact ih
theorem mem_of_lookupK {names:List (Str×NameKind)} {x:Str} {k:NameKind} (h:names.lookup x=some k):(x,k)∈names:=QF h
def mR (scope:Scope) (C:Addr) (env:Env):Env:=
 {scope:=relabel scope env,locals:=C,globals:=env.globals,cells:=cellsFrom (C+1) scope.names (eW env.cells scope.names []),qual:=env.qual,func:=none,code:=env.code,frame:=env.frame,builtins:=env.builtins}
theorem mz {M:Model} {A:Around} {E:Value->Shared->Prop} {s:Shared} {scope:Scope} {env:Env} {cl:List (Str×Addr)} {Q:Env->Shared->Prop}
  (hQ:Q {scope:=scope,locals:=s.heap.objs.size,globals:=env.globals,cells:=cellsFrom (s.heap.objs.size+1) scope.names cl,qual:=env.qual,func:=none,code:=env.code,frame:=env.frame,builtins:=env.builtins}
   {s with heap:=pushCells (s.heap.push {cls:=.type "dict",data:=.dict #[]}) scope.names}) :
  wpAny M A (newFunctionEnv scope env.globals cl [] env.qual none .none (some env)) Q E s:=by
 simp only [newFunctionEnv,Option.isSome_some,Qe]
 refine Ph (wpAny_alloc ?_)
 refine Ph (wpAny_layCells _ (fun name kind cells=>by cases hkc:kind == NameKind.cell<;>simp [hkc]) _ _ _ _ ?_)
 rw [show ({s with heap:=s.heap.push {cls:=.type "dict",data:=.dict #[]}}:Shared).heap.objs.size=s.heap.objs.size+1 from Qc ..]
 exact Pk hQ
def aK (X:Cx) (own:List Str) (scope:Scope) (C:Addr) (s2:Shared) (H2:Hp) (fp:List Addr) (pins:List (Addr×Obj)):Cx where
 prog:=X.prog
 w:=X.w
 K:=X.K
 mg:=X.mg
 base:=X.base
 A:=X.A
 N:=own++X.N
 s₀:=s2
 H₀:=H2
 env:=mR scope C X.env
 outer:=X.stack
 stack:=X.stack
 ex:=fp
 fn:=fun x=>own.any (· == x)
 calm:=X.calm
 pn:=X.pn++pins
 xe:=fun _ _=>False
def Kept (X:Cx) (fp:List Addr) (H H':Hp) (s s':Shared):Prop:=s'.os=s.os/\Un (uK X.stack) fp H H' s.heap s'.heap/\km X.prog X.w H' s'.heap/\AllBare s'.gens
theorem Kept.inv {X:Cx} {pins:List (Addr×Obj)} {σ:St} {H H':Hp} {s s':Shared} {fp:List Addr} (k:Kept X fp H H' s s') (I:Inv X pins σ H s) (hf:∀ b∈fp,kj X pins H b):Inv X pins σ H' s':=
 I.Hx k.1 k.2.1 k.2.2.1 k.2.2.2 fun b hb=>⟨(hf b hb).2.2.2.1,(hf b hb).2.1,(hf b hb).2.2.2.2.1,(hf b hb).2.2.2.2.2⟩
section
variable {X:Cx} {own:List Str} {scope:Scope} {pins:List (Addr×Obj)} {σ:St} {H2:Hp} {s2:Shared} {fp:List Addr}
theorem g9 (x:Str):(relabel scope X.env).names.lookup x=(scope.names.lookup x).map fun k=>if (k == NameKind.free && X.env.scope.kind == .function && X.env.kindOf x == some .cell) then NameKind.cell else k:=
 ky _
theorem cw {C:Addr} {x:Str} {c:Addr} (h:(mR scope C X.env).cells.lookup x=some c):((x,c)∈cellsFrom (C+1) scope.names []/\(x,NameKind.cell)∈scope.names/\C+1<=c)\/(eW X.env.cells scope.names []).lookup x=some c:=by
 have h':(cellsFrom (C+1) scope.names (eW X.env.cells scope.names [])).lookup x=some c:=h
 rw [dy,List.lookup_append] at h'
 cases e:(cellsFrom (C+1) scope.names []).lookup x with
 | some d=>
  rw [e] at h'
  cases h'
  have m:=QF e
  exact .inl ⟨m,fU m⟩
 | none=>
  rw [e] at h'
  exact .inr h'
theorem gn (I:Inv X pins σ H2 s2) (CS:cU X.env.scope X.N own scope) {x:Str} {c:Addr} (h:(eW X.env.cells scope.names []).lookup x=some c):(x,NameKind.free)∈scope.names/\X.env.cells.lookup x=some c:=by
 by_cases hf:(x,NameKind.free)∈scope.names
 ·refine ⟨hf,?_⟩
  rw [g6 hf] at h
  obtain ⟨d,hd⟩:=I.ok.has x (CS.frees x hf)
  rw [hd] at h
  cases h
  exact hd
 ·rw [lF hf] at h
  cases h
theorem Aw (I:Inv X pins σ H2 s2) (CS:cU X.env.scope X.N own scope) {C:Addr} (hC:s2.heap.objs.size<=C) (hf:∀ b∈fp,kj X pins H2 b) (hl:∀ b∈fp,b < s2.heap.objs.size):(aK X own scope C s2 H2 fp pins).Ok:=by
 have old:∀ x c,(eW X.env.cells scope.names []).lookup x=some c->X.env.cells.lookup x=some c/\c < s2.heap.objs.size:=fun x c h=>by
  obtain ⟨_,q⟩:=gn I CS h
  obtain ⟨v,z⟩:=I.cell x c q
  exact ⟨q,z.lt⟩
 refine ⟨I.ok.mod,CS.kind,I.ok.glob,I.ok.blt,hC,fun x y c h1 h2=>?_,fun x hx=>?_,fun x c hx h=>?_,I.ok.hd,I.ok.frames,.inl rfl,fun b hb=>⟨?_,fun x c h=>?_⟩,I.bs,Pq I.ok.bsz I.sz,fun b o e hb=>?_,fun b hb z=>?_,I.stack,I.Ak⟩
 ·rcases cw h1 with ⟨a1,_,a2⟩ | a1<;>rcases cw h2 with ⟨b1,_,b2⟩ | b1
  ·have ap:=(cellsFrom_ok scope.names {(default:Heap) with objs:=Array.replicate (C+1) default} (C+1) [] ⟨fun _ _ hm=>(nomatch hm),List.Pairwise.nil⟩ (by simp)).apart
   simp only [Array.size_replicate] at ap
   exact name_of_addr ap a1 b1
  ·exact absurd (Pt (old y c b1).2 (Pq hC (Pq (QR _) a2))) (PZ _)
  ·exact absurd (Pt (old x c a1).2 (Pq hC (Pq (QR _) b2))) (PZ _)
  ·exact I.ok.inj x y c (old x c a1).1 (old y c b1).1
 ·have hx':(relabel scope X.env).names.lookup x=some .cell\/(relabel scope X.env).names.lookup x=some .free:=hx
  rw [g9] at hx'
  show ∃ c,(cellsFrom (C+1) scope.names (eW X.env.cells scope.names [])).lookup x=some c
  refine Option.isSome_iff_exists.mp (SJ _ _ _ ?_)
  cases e:scope.names.lookup x with
  | none=>rw [e] at hx';simp at hx'
  | some k=>
   rw [e] at hx'
   by_cases hk:k=.free
   ·subst hk
    exact .inr (by rw [g6 (mem_of_lookupK e)];rfl)
   ·have hb:(k == NameKind.free)=false:=by simpa using hk
    simp only [SF,hb,SU,PB,Qm,RC] at hx'
    rcases hx' with q | q
    ·exact .inl (by rw [q])
    ·exact absurd q hk
 ·obtain ⟨y,hy,e⟩:=Se.mp hx
  have:=eq_of_beq e
  subst this
  rcases cw h with ⟨_,_,a⟩ | a
  ·exact Pq hC (Pq (QR _) a)
  ·exact absurd (gn I CS a).1 (CS.own _ hy)
 ·exact PM (Pt (hl b hb) hC)
 ·rcases cw h with ⟨_,_,a⟩ | a
  ·exact Sw (PM (Pt (hl b hb) (Pq hC (Pq (QR _) a))))
  ·exact (hf b hb).2.2.2.2.1 x c (old x c a).1
 ·rcases (hf b hb).2.2.2.1 with z | z
  ·exact I.ok.noex b o e z
  ·exact absurd (Pt (Pp e) (Pq I.ok.bsz z)) (PZ _)
 ·rcases Pn.mp (I.ko b z) with e | e
  ·exact (hf b hb).2.1 e
  ·exact (hf b hb).2.2.1 e
theorem nJ (I:Inv X pins σ H2 s2) (CS:cU X.env.scope X.N own scope) {C:Addr} {h:Heap} (hc:∀ c v,s2.heap.IsCell c v->(∃ x,X.env.cells.lookup x=some c)->h.IsCell c v) {m:Str->Option Value} :
  ∀ (i:Nat) (x:Str) (v:V),(own++X.N)[i]?=some x->(List.replicate own.length (none:Option V)++σ)[i]?=some (some v)->Hw (relabel scope X.env) x->∃ u,RelV v u/\Look (mR scope C X.env) h m x u:=by
 intro i x v h1 h2 h3
 have hi:own.length<=i:=by
  by_cases hi:own.length<=i
  ·exact hi
  ·rw [PY (by simpa using hi),RK] at h2
   split at h2<;>cases h2
 rw [Qd hi] at h1
 rw [Qd (by simpa using hi),QX] at h2
 have hN:=CS.out x (P0 h1)
 have hfr:scope.names.lookup x=some .free:=by
  unfold Hw at h3
  rw [g9] at h3
  cases e:scope.names.lookup x with
  | none=>rw [e] at h3;simp at h3
  | some k=>
   rw [e] at h3 hN
   by_cases hk:k=.free
   ·rw [hk]
   ·have hb:(k == NameKind.free)=false:=by simpa using hk
    simp only [SF,hb,SU,PB,Qm,RC] at h3
    rcases h3 with q | q | q
    ·exact absurd (by rw [q]) hN.1
    ·exact absurd (by rw [q]) hN.2
    ·exact absurd q hk
 have hm:=mem_of_lookupK hfr
 have hk:=CS.frees x hm
 obtain ⟨mX,hn,hl⟩:=I.loc
 obtain ⟨u,r,l⟩:=hl _ x v h1 h2 (hk.elim (fun z=>.inr (.inl z)) fun z=>.inr (.inr z))
 refine ⟨u,r,?_⟩
 rcases l with ⟨z,_⟩ | ⟨_,c,hcx,z⟩
 ·have z':X.env.scope.names.lookup x=some .local:=z
  rcases hk with q | q<;>rw [q] at z'<;>cases z'
 ·refine .inr ⟨?_,c,?_,hc c _ z ⟨x,hcx⟩⟩
  ·show (relabel scope X.env).names.lookup x=some .cell\/(relabel scope X.env).names.lookup x=some .free
   rw [g9,hfr]
   simp only [SF]
   split
   ·exact .inl rfl
   ·exact .inr rfl
  ·show (cellsFrom (C+1) scope.names (eW X.env.cells scope.names [])).lookup x=some c
   rw [dy,List.lookup_append]
   have no:(cellsFrom (C+1) scope.names []).lookup x=none:=by
    cases e:(cellsFrom (C+1) scope.names []).lookup x with
    | none=>rfl
    | some d=>
     have:=CS.uniq _ (fU (QF e)).1
     simp only [] at this
     rw [hfr] at this
     cases this
   rw [no,g6 hm,hcx]
   rfl
end
theorem zb {prog:Program} {w:World} {A:Around} {R:Result->Shared->Prop} {s:Shared} {elt target iter:Expr} {ifs:List Expr} {scope:Scope} {pos:Pos} {it acc:Value} {env:Env} (I:Nat->Shared->Prop)
  (turn:∀ n s,I n s->wpAny (model prog w) A (pyNext it) (fun r s1=>match r with
   | none=>R (.ok .next) s1
   | some v=>wpAny (model prog w) A (letOwnedTupleGo target it v) (fun _ s2=>wpAny (model prog w) A (assign target env v) (fun _ s3=>
     wpAny (model prog w) A (forIn ifs true fun c r=>if r=true then do let ok <- isTrue c env (eval c env);pure (ForInStep.yield ok) else pure (ForInStep.yield r)) (fun ok s4=>
      if ok=true then wpAny (model prog w) A (eval elt env) (fun x s5=>
       wpAny (model prog w) A (call (.builtin "list.append") [acc,x]) (fun _ s6=>∃ m,m < n/\I m s6) (fun _ _=>False) s5) (fun _ _=>False) s4
      else ∃ m,m < n/\I m s4) (fun _ _=>False) s3) (fun _ _=>False) s2) (fun _ _=>False) s1) (fun _ _=>False) s)
  (n:Nat) (h:I n s) :
  codeAny (model prog w) A (.compLoop (.ListComp elt [⟨target,iter,ifs,0⟩] scope pos) 0 it acc env) R s:=by
 refine codeAny_loop rfl I (fun n s hI=>?_) n h
 show wpAny _ A ((compTurn (.ListComp elt [⟨target,iter,ifs,0⟩] scope pos) 0 it acc env).onRaise (fun x=>do noteFrame x env;theTreesLotGoes x)) _ _ s
 refine wpAny_noted ?_
 rw [compTurn_list]
 refine Q9 (E:=fun _ _=>False) (E':=_) (Q':=_) ?_ (fun _ _ q=>q) fun _ _ z=>z.elim
 refine Ph (Sy (Ph (bV (turn n s hI) (fun r s1 h1=>?_))))
 cases r with
 | none=>exact Pk h1
 | some v=>
  refine Ph (bV h1 fun _ s2 h2=>?_)
  refine Ph (bV h2 fun _ s3 h3=>Ph (bV h3 fun ok s4 h4=>?_))
  cases ok with
  | false=>exact Pk ⟨rfl,h4⟩
  | true=>exact Ph (Ph (bV h4 fun x s5 h5=>Ph (bV h5 fun _ s6 h6=>Pk (Pk ⟨rfl,h6⟩))))
def F0 (X:Cx) (ifs:List Expr) (t:TT):Prop:=
 ∀ (pins:List (Addr×Obj)) (s:Shared) (σ:St) (H:Hp) (Q:Bool->Hp->Prop),Inv X pins σ H s->t σ H Q ->
  wpAny (model X.prog X.w) X.A (forIn ifs true fun c r=>if r=true then do let ok <- isTrue c X.env (eval c X.env);pure (ForInStep.yield ok) else pure (ForInStep.yield r)) (TP X pins σ Q) X.xe s
def Nl:TT:=fun _ H Q=>Q true H
theorem F1 {X:Cx}:F0 X [] Nl:=fun _ _ _ H _ I h=>wpAny_tests_nil ⟨H,I,h⟩
theorem F2 {X:Cx} {c:Expr} {t:TT} (h:PT X c t):F0 X [c] t:=fun pins s σ H Q I q=>wpAny_tests_one (h pins s σ H Q I q)
def C5 (n:Nat) (J:It) (g:TG) (tc:TT) (te:TE) (σ:St) (H:Hp) (Q:VK):Prop:=
 ∃ W:Nat->Nat->List V->Hp->Prop,(∃ m,W 0 m [] H)/\∀ i m ys H,W i m ys H ->
  (J.stop i H/\ys.length<=sizeLine/\∀ p,H p=none->Q (.ref p) (upd H p (.lst ys))) \/
  (J.go i H/\ys.length<=sizeLine/\∃ N:List V->Hp->Prop,(∀ ys' H',N ys' H'->∃ m',m' < m/\W (i+1) m' ys' H')/\∀ x H',J.yld i H x H'->g x (List.replicate n none++σ) H' fun σ2 H2=>tc σ2 H2 fun b H3=>
   if b=true then te σ2 H3 fun y H4=>N (ys++[y]) H4 else N ys H3)
theorem rF {X:Cx} {own:List Str} {scope:Scope} {pins:List (Addr×Obj)} {σ:St} {H2:Hp} {s2:Shared} {fp:List Addr} {it:Addr} {tn:Nat->Heap->Prop} {J:It} {elt tg iter:Expr} {ifs:List Expr} {pos:Pos} {g:TG} {tc:TT} {te:TE} {Q:VK}
  {RR:Value->Addr->Result->Shared->Prop} {E:Value->Shared->Prop} (I:Inv X pins σ H2 s2) (CS:cU X.env.scope X.N own scope) (hc:X.calm=true) (T:Turn X.prog X.w X.K tg J fp it tn) (st:tn 0 s2.heap) (hf:∀ b∈fp,kj X pins H2 b)
  (hg:∀ C s2 H2 fp pins,PG (aK X own scope C s2 H2 fp pins) tg g) (ht:∀ C s2 H2 fp pins,F0 (aK X own scope C s2 H2 fp pins) ifs tc) (he:∀ C s2 H2 fp pins,PE (aK X own scope C s2 H2 fp pins) elt te)
  (hW:C5 own.length J g tc te σ H2 Q)
  (hR:∀ D C H' s',Inv X pins σ H' s'->kj X pins H' C->(∃ m,s'.heap.Ns C m)->Q (.ref D) H'->Kept X fp H2 H' s2 s'->RR (.ref D) C (.ok .next) s') :
  wpAny (model X.prog X.w) X.A (newList []) (fun acc s3=>wpAny (model X.prog X.w) X.A (newFunctionEnv scope X.env.globals (eW X.env.cells scope.names []) [] X.env.qual none .none (some X.env)) (fun cenv s4=>
   codeAny (model X.prog X.w) X.A (.compStart (.ListComp elt [⟨tg,iter,ifs,0⟩] scope pos) 0 (.ref it) acc {cenv with scope:=relabel scope X.env}) (RR acc cenv.locals) s4) E s3) E s2:=by
 refine Qi (mz ?_)
 dsimp only
 generalize hH:s2.heap.push {cls:=.type "list",dict:=none,data:=.seq ([]:List Value).toArray}=h3
 have hDC:h3.objs.size=s2.heap.objs.size+1:=by rw [<- hH,Qc]
 have eC:({scope:=relabel scope X.env,locals:=h3.objs.size,globals:=X.env.globals,cells:=cellsFrom (h3.objs.size+1) scope.names (eW X.env.cells scope.names []),qual:=X.env.qual,func:=none,code:=X.env.code,frame:=X.env.frame,builtins:=X.env.builtins}:Env)=mR scope h3.objs.size X.env:=rfl
 rw [eC]
 generalize eD:s2.heap.objs.size=D at *
 generalize eCC:h3.objs.size=C at *
 have hl:∀ b∈fp,b < s2.heap.objs.size:=fun b hb=>by
  obtain ⟨o,e,_⟩:=T.obj 0 _ st b hb
  exact Pp e
 have hC:s2.heap.objs.size<=C:=by omega
 generalize hH4:pushCells (h3.push {cls:=.type "dict",data:=.dict #[]}) scope.names=h4
 have k34:∀ b o,(h3.push {cls:=.type "dict",data:=.dict #[]}).get? b=some o->h4.get? b=some o:=fun b o e=>by rw [<- hH4];exact pushCells_keeps _ _ b o e
 have k24:∀ b o,s2.heap.get? b=some o->h4.get? b=some o:=fun b o e=>k34 b o (Pj _ (by rw [<- hH];exact Pj _ e))
 have nsC:h4.Ns C fun _=>none:=by
  have:=Heap.Ns.new h3 (.type "dict")
  rw [eCC] at this
  exact this.keeps k34
 have accD:h4.get? D=some {cls:=.type "list",data:=.seq (([]:List Value).toArray)}:=k34 _ _ (Pj _ (by rw [<- hH,<- eD];exact Po _ rfl))
 have cellN:∀ x c,(x,c)∈cellsFrom (C+1) scope.names []->h4.IsCell c none/\C+1<=c:=fun x c hm=>by
  have ok:=cellsFrom_ok scope.names (h3.push {cls:=.type "dict",data:=.dict #[]}) (C+1) [] ⟨fun _ _ hm=>(nomatch hm),List.Pairwise.nil⟩ (by rw [Qc];omega)
  rw [Qc,eCC,hH4] at ok
  exact ok.empty x c hm
 have hne:H2 D=none:=by rw [<- eD];exact I.hok.fresh (Pm _)
 have ok':(aK X own scope C s2 H2 fp pins).Ok:=Aw I CS hC hf hl
 have rebase:∀ {σ':St} {H':Hp} {ps:List (Addr×Obj)} {s':Shared},Inv (aK X own scope C s2 H2 fp pins) ps σ' H' s'->Inv (aK X own scope C s2 H2 fp pins) ps (List.replicate own.length none++σ) H' s':=fun {σ' H' ps s'} J'=>by
  obtain ⟨m,hn,_⟩:=J'.loc
  refine ⟨J'.ok,J'.os,J'.bare,J'.base,⟨m,hn,nJ I CS fun c v z ⟨x,hx⟩=>?_⟩,J'.cell,J'.free,J'.freeC,J'.pin,J'.hok,?_⟩
  ·obtain ⟨o,ho,hd⟩:=z
   obtain ⟨sl,e⟩:=J'.base.any ho (I.freeC x c hx) fun hb=>(hf c hb).2.2.2.2.1 x c hx rfl
   exact ⟨_,e,hd⟩
  ·show (List.replicate own.length none++σ).length=(own++X.N).length
   rw [PU,PU,QX,I.len]
 have start:Inv (aK X own scope C s2 H2 fp pins) [] (List.replicate own.length none++σ) H2 {s2 with heap:=h4}:=by
  have I4:Inv X pins σ H2 {s2 with heap:=h4}:=I.kept (t':=s2.toks) k24
  refine ⟨ok',rfl,I.bare,Un.kept k24,⟨_,nsC,nJ I CS fun c v z _=>z.keeps k24⟩,fun x c h=>?_,I.hok.fresh hC,fun x c h=>?_,fun p hp=>?_,I4.hok,?_⟩
  ·rcases cw h with ⟨a,_,_⟩ | a
   ·exact ⟨_,(cellN x c a).1⟩
   ·obtain ⟨v,z⟩:=I.cell x c (gn I CS a).2
    exact ⟨v,z.keeps k24⟩
  ·rcases cw h with ⟨_,_,a⟩ | a
   ·exact I.hok.fresh (Pq hC (Pq (QR _) a))
   ·exact I.freeC x c (gn I CS a).2
  ·have hp':p∈X.pn++pins:=by
    rcases PL.mp hp with z | z
    ·exact z
    ·exact nomatch z
   obtain ⟨e,n,ne,nf,d⟩:=I.pin p hp'
   refine ⟨k24 _ _ e,n,PM (Pt (Pp e) hC),fun z=>?_,d⟩
   rcases Pn.mp (I.ko _ z) with q | q
   ·exact ne q
   ·exact nf q
  ·show (List.replicate own.length none++σ).length=(own++X.N).length
   rw [PU,PU,QX,I.len]
 obtain ⟨W,⟨m0,w0⟩,turn⟩:=hW
 have nfs:∀ b,s2.heap.objs.size<=b->b∉(aK X own scope C s2 H2 fp pins).fs:=fun b hb z=>by
  rcases Pn.mp (I.ko b z) with q | q
  ·rw [q] at hb;exact absurd (Pt I.lt hb) (PZ _)
  ·exact I.CI hb q
 have fpD:∀ {H':Hp},H' D=none->kj (aK X own scope C s2 H2 fp pins) [] H' D:=fun {H'} hn=>by
  refine ⟨hn,PM (by show D < C;omega),nfs D (by omega),.inr (by show s2.heap.objs.size<=D;omega),fun x c h z=>?_,fun p hp z=>?_⟩
  ·rcases cw h with ⟨_,_,a⟩ | a
   ·rw [z] at a;exact absurd (Pt (show D < C+1 by omega) a) (PZ _)
   ·obtain ⟨v,q⟩:=I.cell x c (gn I CS a).2
    have:=q.lt
    rw [z,eD] at this
    exact PZ _ this
  ·have hp':p∈X.pn++pins:=by
    rcases PL.mp hp with z | z
    ·exact z
    ·exact nomatch z
   have:=Pp (I.pin p hp').1
   rw [z,eD] at this
   exact PZ _ this
 have nD:D∉fp:=fun z=>by have:=hl D z;rw [eD] at this;exact PZ _ this
 have stat:∀ {H':Hp} {ps:List (Addr×Obj)},(∀ p∈ps,p.1=D)->(∀ b∈fp,H' b=none)->∀ b∈fp,kj (aK X own scope C s2 H2 fp pins) ps H' b:=fun {H' ps} hps hn b hb=>by
  obtain ⟨f0,f1,f2,f3,f4,f5⟩:=hf b hb
  refine ⟨hn b hb,(ok'.exf b hb).1,ok'.exfs b hb,.inl hb,(ok'.exf b hb).2,fun p hp=>?_⟩
  rcases PL.mp hp with z | z
  ·exact f5 p z
  ·rw [hps p z]
   exact fun q=>nD (q▸hb)
 let LI:Nat->Shared->Prop:=fun n s'=>∃ i ys its k H',Inv (aK X own scope C s2 H2 fp pins) [] (List.replicate own.length none++σ) H' s'/\tn i s'.heap/\(∀ b∈fp,H' b=none)/\H' D=none /\
  s'.heap.get? D=some {cls:=.type "list",data:=.seq (List.toArray its) k}/\Vals ys its/\W i n ys H'
 have l0:LI m0 {s2 with heap:=h4}:=⟨0,[],[],0,H2,start,T.keep _ _ _ st fun b _ o e=>k24 b o e,fun b hb=>(hf b hb).1,hne,accD,.nil,w0⟩
 have loop:codeAny (model X.prog X.w) X.A (.compLoop (.ListComp elt [⟨tg,iter,ifs,0⟩] scope pos) 0 (.ref it) (.ref D) (mR scope C X.env)) (RR (.ref D) C) {s2 with heap:=h4}:=by
  refine zb LI ?_ m0 l0
  rintro n s3 ⟨i,ys,its,k,H3,I3,st3,fr3,d3,a3,v3,w3⟩
  rcases turn i n ys H3 w3 with ⟨stop,hz,qn⟩ | ⟨go,hz,NN,hNN,step⟩
  ·have I3p:=I3.pinned (fp:=[D]) (fun b hb=>(PV.mp hb)▸fpD d3) fun b hb=>⟨_,(PV.mp hb)▸a3,fun v z=>(by cases z)⟩
   refine bV (T.done (aK X own scope C s2 H2 fp pins) rfl rfl rfl hc i _ s3 _ H3 _ I3p (stat (fun p hp=>by have q:p∈fe [D] s3.heap:=hp;have:=(jm q).1;simpa using this) fr3) st3 stop) fun r s4 ⟨hr,I4⟩=>?_
   subst hr
   have a4:s4.heap.get? D=_:=(I4.pin (D,_) (PD _ (PD _ (cB (by simp) a3)))).1
   have u4:Un (uK X.stack) fp H2 H3 s2.heap s4.heap:=I4.base
   have okD:km X.prog X.w (upd H3 D (.lst ys)) s4.heap:=fun b o e=>by
    by_cases hb:b=D
    ·subst hb
     rw [aY] at e
     cases e
     exact ⟨hz,its,k,v3,a4⟩
    ·rw [aD hb] at e
     exact (I4.hok b o e).rm (fun _ _ _ q=>q) (fun c q=>by rw [aD (aH q d3)];exact q) fun c xs q=>by rw [aD (aH q d3)];exact q
   have nDo:∀ b o,s2.heap.get? b=some o->b≠D:=fun b o e=>by rw [<- eD];exact PM (Pp e)
   have uD:Un (uK X.stack) fp H2 (upd H3 D (.lst ys)) s2.heap s4.heap:=⟨u4.keep,u4.slot,fun b o e n hx=>by rw [aD (nDo b o e)];exact u4.free b o e n hx,u4.there,
    fun b xs e=>by rw [aD (aH e hne)];exact u4.tups b xs e,fun b o xs e=>by rw [aD (aH e hne)];exact u4.frzs b o xs e,fun b ps e=>by rw [aD (aH e hne)];exact u4.tbls b ps e⟩
   have kp:Kept X fp H2 (upd H3 D (.lst ys)) s2 s4:=⟨I4.os,uD,okD,I4.bare⟩
   have I5:Inv X pins σ (upd H3 D (.lst ys)) s4:=kp.inv I hf
   obtain ⟨m,hn,_⟩:=I4.loc
   refine hR D C _ s4 I5 ⟨by rw [aD (show C≠D by omega)];exact I4.free,Sk (Pt I.lt hC),I.CI hC,.inr (Pq I.sz hC),fun x c e z=>?_,fun p hp z=>?_⟩ ⟨m,hn⟩ (qn D d3) kp
   ·obtain ⟨v,q⟩:=I.cell x c e
    exact absurd (Pt q.lt (by rw [z];exact hC)) (PZ _)
   ·exact absurd (Pt (Pp (I.pin p hp).1) (by rw [z];exact hC)) (PZ _)
  ·have I3p:=I3.pinned (fp:=[D]) (fun b hb=>(PV.mp hb)▸fpD d3) fun b hb=>⟨_,(PV.mp hb)▸a3,fun v z=>(by cases z)⟩
   have onlyD:∀ p∈([]++fe [D] s3.heap),p.1=D:=fun p hp=>by have q:p∈fe [D] s3.heap:=hp;have:=(jm q).1;simpa using this
   refine bV (T.item (aK X own scope C s2 H2 fp pins) rfl rfl rfl hc i _ s3 _ H3 _ I3p (stat onlyD fr3) st3 go) fun r s4 ⟨u,hr,h4'⟩=>?_
   subst hr
   refine bV h4' fun _ s5 ⟨x,H5,I5,r5,y5,st5,fr5⟩=>?_
   have I5p:=I5.pinned (fp:=fp) (stat onlyD fr5) (T.obj _ _ st5)
   have cont:∀ {s6:Shared} {σ6:St} {H6:Hp},Inv (aK X own scope C s2 H2 fp pins) (([]++fe [D] s3.heap)++fe fp s5.heap) σ6 H6 s6 ->
     Inv (aK X own scope C s2 H2 fp pins) [] (List.replicate own.length none++σ) H6 s6/\tn (i+1) s6.heap/\(∀ b∈fp,H6 b=none)/\H6 D=none/\s6.heap.get? D=some {cls:=.type "list",data:=.seq (List.toArray its) k}:=fun {s6 σ6 H6} I6=>by
    have pD:=I6.pin (D,_) (PD _ (Qy _ (PD _ (cB (by simp) a3))))
    refine ⟨rebase (I6.qL fun p hp=>nomatch hp),T.keep _ _ _ st5 fun b hb o e=>(I6.pin (b,o) (PD _ (PD _ (cB hb e)))).1,fun b hb=>?_,pD.2.1,pD.1⟩
    obtain ⟨o,e,_⟩:=T.obj _ _ st5 b hb
    exact (I6.pin (b,o) (PD _ (PD _ (cB hb e)))).2.1
   refine bV (hg C s2 H2 fp pins _ s5 _ H5 x u _ I5p r5 (step x H5 y5)) fun _ s6 ⟨σ6,H6,I6,q6⟩=>?_
   refine bV (ht C s2 H2 fp pins _ s6 σ6 H6 _ I6 q6) fun b s7 ⟨H7,I7,q7⟩=>?_
   cases b with
   | false=>
    have q7':NN ys H7:=q7
    obtain ⟨m',hm,w7⟩:=hNN _ _ q7'
    obtain ⟨c1,c2,c3,c4,c5⟩:=cont I7
    exact ⟨m',hm,i+1,ys,its,k,H7,c1,c2,c3,c4,c5,v3,w7⟩
   | true=>
    refine bV (he C s2 H2 fp pins _ s7 σ6 H7 _ I7 q7) fun v s8 ⟨y,H8,I8,r8,q8⟩=>?_
    obtain ⟨m',hm,w8⟩:=hNN _ _ q8
    obtain ⟨c1,c2,c3,c4,c5⟩:=cont I8
    refine wpAny_list_append_plain ⟨k,c5⟩ (fun h' hp hs=>?_) (by rw [Pu,<- v3.length];exact hz)
    obtain ⟨k',e'⟩:=hp
    obtain ⟨f0,f1,f2,f3,f4,f5⟩:=fpD c4
    refine ⟨m',hm,i+1,ys++[y],its++[v],k',H8,c1.turned (t':=s8.toks) (fun b o hb e=>(hs.2 b hb).trans e) f0 f1 f3 f4 f5,T.keep _ _ _ c2 fun b hb o e=>(hs.2 b fun z=>nD (z▸hb)).trans e,c3,c4,?_,v3.append (.cons r8 .nil),w8⟩
    show h'.get? D=_
    rw [e']
    simp
 exact codeAny_compStart_list loop (T.self X.A 0 {s2 with heap:=h4} _ _ (T.keep _ _ _ st fun b _ o e=>k24 b o e) loop)
section
variable {X:Cx} {own:List Str} {scope:Scope} {elt tg iter:Expr} {ifs:List Expr} {pos:Pos} {wi:TI} {g:TG} {tc:TT} {te:TE}
def Ax (n:Nat) (wi:TI) (g:TG) (tc:TT) (te:TE):TE:=fun σ H Q=>wi σ H fun J H1=>C5 n J g tc te σ H1 Q
theorem mS {sc:Scope} {N:List Str} (CS:cU sc N own scope):∀ x∈scope.names,x.2=.local->scope.names.lookup x.1=some .local:=fun x hx e=>by rw [CS.uniq x hx,e]
theorem F3 (own:List Str) (CS:gm X.env.scope X.N own scope=true) (hc:X.calm=true) (hi:PI X tg iter wi) (hg:∀ C s2 H2 fp pins,PG (aK X own scope C s2 H2 fp pins) tg g)
  (ht:∀ C s2 H2 fp pins,F0 (aK X own scope C s2 H2 fp pins) ifs tc) (he:∀ C s2 H2 fp pins,PE (aK X own scope C s2 H2 fp pins) elt te) (hs:∀ x,foldedSetIterable iter X.env x=pure x:=by intro _;rfl) :
  PE X (.ListComp elt [⟨tg,iter,ifs,0⟩] scope pos) (Ax own.length wi g tc te):=by
 intro pins s σ H Q I h
 have CS:=cU.of CS
 rw [eval_ListComp]
 refine Sr (use:=none) (g:=⟨tg,iter,ifs,0⟩) rfl hs (i6 fun n hn=>I.ok.has n (CS.frees n hn)) CS.kind (mS CS) (bV (hi pins s σ H _ I h) fun v s1 h1=>bV h1 fun itv s2 h2=>?_)
 obtain ⟨it,fp,tn,J,H2,e,I2,T,st2,f2,hW⟩:=h2
 subst e
 refine rF (RR:=fun acc C=>compPost (model X.prog X.w) X.A X.xe none (EP X pins σ Q) acc C) I2 CS hc T st2 f2 hg ht he hW fun D C H' s' I' fC ⟨m,hn⟩ q _=>?_
 refine ⟨m,hn,fun h' hs'=>⟨.ref D,H',?_,rfl,q⟩⟩
 obtain ⟨f0,f1,_,f3,f4,f5⟩:=fC
 exact I'.turned (t':=s'.toks) (fun b o hb e=>(hs'.2 b hb).trans e) f0 f1 f3 f4 f5
theorem F4 (own:List Str) {i:Nat} {x:Str} {pos' spos:Pos} (hN:X.N.Nodup) (hxi:X.N[i]?=some x) (hx:X.env.scope.names.lookup x=some .local) (CS:gm X.env.scope X.N own scope=true) (hc:X.calm=true) (hi:PI X tg iter wi) (hg:∀ C s2 H2 fp pins,PG (aK X own scope C s2 H2 fp pins) tg g)
  (ht:∀ C s2 H2 fp pins,F0 (aK X own scope C s2 H2 fp pins) ifs tc) (he:∀ C s2 H2 fp pins,PE (aK X own scope C s2 H2 fp pins) elt te) (hs:∀ x,foldedSetIterable iter X.env x=pure x:=by intro _;rfl)
  (hsw:swapsWith (.ListComp elt [⟨tg,iter,ifs,0⟩] scope pos) (some (.Name x pos')) spos.line X.env=pure true:=by rfl) :
  PS X (.Assign [.Name x pos'] (.ListComp elt [⟨tg,iter,ifs,0⟩] scope pos) spos) (FJ (Ax own.length wi g tc te) (aB i)):=by
 intro pins s σ H D I h
 have CS:=cU.of CS
 rw [exec_Assign_Name_used _ _ _ _ hsw]
 refine Ph (Sy (Ph ?_))
 show wpAny _ X.A (do let _ <- comprehension (.ListComp elt [⟨tg,iter,ifs,0⟩] scope pos) scope X.env _ (newList []) false (eval iter X.env) (some (assign (.Name x pos') X.env))) _ _ s
 refine Ph (bV (Sr (use:=some (assign (.Name x pos') X.env)) (Q:=fun _ s'=>SP X pins D .next s') (g:=⟨tg,iter,ifs,0⟩) rfl hs (i6 fun n hn=>I.ok.has n (CS.frees n hn)) CS.kind (mS CS)
  (bV (hi pins s σ H _ I h) fun v s1 h1=>bV h1 fun itv s2 h2=>?_)) fun _ s' hq=>Pk (Pk hq))
 obtain ⟨it,fp,tn,J,H2,e,I2,T,st2,f2,hW⟩:=h2
 subst e
 refine rF (Q:=fun x H1=>aB i x σ H1 D.nx) (RR:=fun acc C=>compPost (model X.prog X.w) X.A X.xe (some (assign (.Name x pos') X.env)) (fun _ s'=>SP X pins D .next s') acc C) I2 CS hc T st2 f2 hg ht he hW fun Dl C H' s' I' fC ⟨m,hn⟩ q _=>?_
 show wpAny _ _ (assign (.Name x pos') X.env (.ref Dl)) _ _ s'
 refine wpAny_assign_Name (uL (v:=.ref Dl) I' hN hxi (.inl hx) rfl (fun s'' I'' hsb=>?_) (.inr hx))
 obtain ⟨f0,f1,f2',f3,f4,f5⟩:=fC
 obtain ⟨a,sb,ha⟩:=hsb
 have hCa:C≠a:=by
  rcases ha with e | e
  ·rw [e];exact f1
  ·exact (f4 x a e).symm
 refine ⟨m,hn.sameBut sb hCa,fun h' hs'=>⟨_,H',?_,q⟩⟩
 exact I''.turned (t':=s''.toks) (fun b o hb e=>(hs'.2 b hb).trans e) f0 f1 f3 f4 f5
end
structure Nx (P:Program) (w:World) (i l:Addr) (st:Nat->Heap->Prop) (xs:List Value):Prop where
 obj:∀ k h,st k h->∃ o vs,h.get? i=some o/\o.data=.fields vs
 keep:∀ k h h',st k h->(∀ o,h.get? i=some o->h'.get? i=some o)->(∀ o,h.get? l=some o->h'.get? l=some o)->st k h'
 item:∀ (A:Around) k (s:Shared) x (Q:Value->Shared->Prop) (E:Value->Shared->Prop),st k s.heap->xs[k]?=some x->(∀ h',st (k+1) h'->Heap.SameBut i s.heap h'->Q x {s with heap:=h'}) ->
  wpAny (model P w) A (Builtin.SmallTypes.nextOf (.ref i)) Q E s
 done:∀ (A:Around) k (s:Shared) (Q:Value->Shared->Prop) (E:Value->Shared->Prop),A.handled=none->st k s.heap->xs[k]?=none ->
  (∀ h' e,Heap.ExtBut i s.heap h'->(∃ o,h'.get? e=some o/\o.cls=.type "StopIteration")->E (.ref e) {s with heap:=h'})->wpAny (model P w) A (Builtin.SmallTypes.nextOf (.ref i)) Q E s
section
variable {P:Program} {w:World} {A:Around} {E:Value->Shared->Prop} {s:Shared}
theorem xq {h:Heap} {i l:Addr} {k:Nat} {its:Array Value} (a:h.IsTupleIter i l k) (b:h.IsTuple l its):i≠l:=fun e=>by
 obtain ⟨o,h1,c1,_⟩:=a
 obtain ⟨o',h2,c2,_⟩:=b
 rw [e,h2] at h1;cases h1
 rw [c2] at c1
 exact absurd c1 (by decide)
theorem zc {it t:Addr} {k:Nat} {its:Array Value} {x:Value} {Q:Value->Shared->Prop} (a:s.heap.IsTupleIter it t k) (b:s.heap.IsTuple t its) (hx:its[k]?=some x)
  (q:∀ h',h'.IsTupleIter it t (k+1)->Heap.SameBut it s.heap h'->Q x {s with heap:=h'}):wpAny (model P w) A (Builtin.SmallTypes.nextOf (.ref it)) Q E s:=by
 obtain ⟨oi,gi,ci,di⟩:=id a
 obtain ⟨ot,gt,_,nt,dt⟩:=b
 unfold Builtin.SmallTypes.nextOf
 refine Ph (Qf (name:=Str.ofString "__next__") a.typeIs Rg (Qa Rg a.typeIs F.entry_tuple_iterator_next ?_ (F.args_tuple_iterator_next_1 _)))
 show wpAny _ _ (field (Value.ref it) 0 >>= _) _ _ s
 refine Ph (QJ (x:=Value.ref t) gi di rfl ?_)
 rw [if_neg (show ¬ (Value.ref t == Value.none)=true from P5)]
 show wpAny _ _ (field (Value.ref it) 1 >>= _) _ _ s
 refine Ph (QJ (x:=Value.int k 0) gi di rfl ?_)
 show wpAny _ _ (seqItems? (Value.ref t) >>= _) _ _ s
 refine Ph (Qv gt dt ?_)
 simp only [hx,QG]
 refine Ph (wpAny_setField gi di (by simp) (Pk ⟨x,rfl,Pk (q _ ⟨_,QY _ gi (Obj.isFreed_of_fields (Obj.data_mapFields di _)),(Obj.cls_mapFields ..).trans ci,?_⟩ (Sf ..))⟩))
 rw [Obj.data_mapFields di]
 simp [rawInt]
theorem rG {it t:Addr} {k:Nat} {its:Array Value} {Q:Value->Shared->Prop} (hh:A.handled=none) (a:s.heap.IsTupleIter it t k) (b:s.heap.IsTuple t its) (hx:its[k]?=none)
  (q:∀ h' e,Heap.ExtBut it s.heap h'->(∃ o,h'.get? e=some o/\o.cls=.type "StopIteration")->E (.ref e) {s with heap:=h'}):wpAny (model P w) A (Builtin.SmallTypes.nextOf (.ref it)) Q E s:=by
 obtain ⟨oi,gi,ci,di⟩:=id a
 obtain ⟨ot,gt,_,nt,dt⟩:=b
 unfold Builtin.SmallTypes.nextOf
 refine Ph (Qf (name:=Str.ofString "__next__") a.typeIs Rg (Qa Rg a.typeIs F.entry_tuple_iterator_next ?_ (F.args_tuple_iterator_next_1 _)))
 show wpAny _ _ (field (Value.ref it) 0 >>= _) _ _ s
 refine Ph (QJ (x:=Value.ref t) gi di rfl ?_)
 rw [if_neg (show ¬ (Value.ref t == Value.none)=true from P5)]
 show wpAny _ _ (field (Value.ref it) 1 >>= _) _ _ s
 refine Ph (QJ (x:=Value.int k 0) gi di rfl ?_)
 show wpAny _ _ (seqItems? (Value.ref t) >>= _) _ _ s
 refine Ph (Qv gt dt ?_)
 simp only [hx,QG]
 refine Ph (RD (Ph (wpAny_setField gi di (by simp) ?_)))
 show wpAny _ _ (newExc (Value.type "StopIteration") [] >>= _) _ _ _
 refine Ph ?_
 simp only [newTuple,newExc]
 refine Ph (Qi ?_ (by size_fits))
 refine Ph (m:=firstArgMember _ _) (Sg (a:=Value.none) (by first | rfl | (unfold firstArgMember;rfl)) ?_)
 refine Qi ?_ (by size_fits)
 unfold raiseNew
 refine Ph (wpAny_handled ?_)
 rw [show A.in1.handled=none from hh]
 exact Ph (Pk (wpAny_throw (q _ _ (((Sf ..).extBut.push _).push _) ⟨_,Po _ rfl,rfl⟩)))
theorem vX (i l:Addr) (xs:List Value):Nx P w i l (fun k h=>h.IsTupleIter i l k/\h.IsTuple l xs.toArray) xs where
 obj:=fun k h ⟨⟨o,a,_,c⟩,_⟩=>⟨o,_,a,c⟩
 keep:=fun k h h' ⟨a,b⟩ k1 k2=>⟨a.at k1,let ⟨o,e,r⟩:=b;⟨o,k2 o e,r⟩⟩
 item:=fun A k s x Q E ⟨a,b⟩ hx q=>zc a b (by simpa using hx) fun h' a' sb=>q h' ⟨a',let ⟨o,e,r⟩:=b;⟨o,(sb.2 l (xq a b).symm).trans e,r⟩⟩ sb
 done:=fun A k s Q E hh ⟨a,b⟩ hx q=>rG hh a b (by simpa using hx) q
structure ZA (z TI TO i1 i2 l1 l2:Addr):Prop where
 a1:TI≠z
 a2:TO≠z
 a3:i1≠z
 a4:i2≠z
 a5:TI≠TO
 a6:TI≠i1
 a7:TI≠i2
 a8:TO≠i1
 a9:TO≠i2
 b1:i1≠i2
 b2:l1≠z
 b3:l1≠TO
 b4:l1≠i2
 b5:l2≠z
 b6:l2≠TO
 b7:l2≠i1
variable {st1 st2:Nat->Heap->Prop} {xs ys:List Value} {z TI TO i1 i2 l1 l2:Addr} {k:Nat} {a b:Value}
theorem aJ {h h':Heap} {c d:Addr} {o:Obj} (sb:Heap.SameBut c h h') (ne:d≠c) (e:h.get? d=some o):h'.get? d=some o:=(sb.2 d ne).trans e
theorem C6 (D:ZA z TI TO i1 i2 l1 l2) (N1:Nx P w i1 l1 st1 xs) (N2:Nx P w i2 l2 st2 ys) {x y:Value} {Q:Value->Shared->Prop} (hz:IsZip s.heap z TI TO .none) (hI:IsPair s.heap TI (.ref i1) (.ref i2)) (hO:IsPair s.heap TO a b)
  (s1:st1 k s.heap) (s2:st2 k s.heap) (hx:xs[k]?=some x) (hy:ys[k]?=some y)
  (q:∀ h',IsZip h' z TI TO (rawInt s.heap.objs.size)->IsPair h' TO x y->st1 (k+1) h'->st2 (k+1) h'->IsPair h' s.heap.objs.size x y ->
   (∀ c o,c≠z->c≠TO->c≠i1->c≠i2->s.heap.get? c=some o->h'.get? c=some o)->Q (.ref s.heap.objs.size) {s with heap:=h'}) :
  wpAny (model P w) A (Builtin.«zip.__next__» ⟨[.ref z],[]⟩) (fun fin s'=>∃ v,fin=.done (.ret v)/\Q v s') E s:=by
 show wpAny _ _ (field (Value.ref z) 2 >>= _) _ _ _
 refine Ph (QJ (x:=Value.bool false) hz rfl rfl ?_)
 show wpAny _ _ (field (Value.ref z) 3 >>= _) _ _ _
 refine Ph (QJ (x:=Value.ref TI) hz rfl rfl ?_)
 refine Ph (Qv hI rfl ?_)
 show wpAny _ _ (Builtin.SmallTypes.ownedTupleIsFree (Value.ref z) >>= _) _ _ _
 refine Ph ?_
 unfold Builtin.SmallTypes.ownedTupleIsFree
 refine Ph (QJ (x:=Value.none) hz rfl rfl (Pk ?_))
 simp only [Qe]
 refine Ph (RD (Ph (QJ (x:=Value.ref TO) hz rfl rfl ?_)))
 refine Ph (Rj hz (by simp) fun g1 z1 e1=>?_)
 have z1:IsZip g1 z TI TO .ellipsis:=z1
 refine Ph ?_
 simp only [List.zipIdx_nil,List.zipIdx_cons,Rp,Rc]
 refine Ph (Ph (wpAny_onRaise ?_))
 show wpAny _ _ (Builtin.SmallTypes.nextOf (Value.ref i1) >>= _) _ _ _
 refine Ph (N1.item _ k _ x _ _ (N1.keep _ _ _ s1 (fun o=>aJ e1 D.a3) fun o=>aJ e1 D.b2) hx fun g2 t1 e2=>Pk ?_)
 have O2:IsPair g2 TO a b:=aJ e2 D.a8 (aJ e1 D.a2 hO)
 refine Ph (Qv O2 rfl (Ph (Te O2 fun g3 O3 e3=>?_)))
 have O3:IsPair g3 TO x b:=O3
 refine Ph (wpAny_letGo (Pk (Ph (Ph (wpAny_onRaise ?_)))))
 show wpAny _ _ (Builtin.SmallTypes.nextOf (Value.ref i2) >>= _) _ _ _
 refine Ph (N2.item _ k _ y _ _ (N2.keep _ _ _ s2 (fun o e=>aJ e3 D.a9.symm (aJ e2 D.b1.symm (aJ e1 D.a4 e))) fun o e=>aJ e3 D.b6 (aJ e2 D.b7 (aJ e1 D.b5 e))) hy fun g4 t2 e4=>Pk ?_)
 have O4:IsPair g4 TO x b:=aJ e4 D.a9 O3
 refine Ph (Qv O4 rfl (Ph (Te O4 fun g5 O5 e5=>?_)))
 have O5:IsPair g5 TO x y:=O5
 refine Ph (wpAny_letGo (Pk (Pk (Ph (Qv O5 rfl (Ph (wpAny_newTuple ?_)))))))
 have sz:g5.objs.size=s.heap.objs.size:=by rw [e5.1,e4.1,e3.1,e2.1,e1.1]
 have z5:IsZip g5 z TI TO .ellipsis:=aJ e5 D.a2.symm (aJ e4 D.a4.symm (aJ e3 D.a2.symm (aJ e2 D.a3.symm z1)))
 have zlt:z < g5.objs.size:=Pp z5
 have u1:st1 (k+1) g5:=N1.keep _ _ _ t1 (fun o e=>aJ e5 D.a8.symm (aJ e4 D.b1 (aJ e3 D.a8.symm e))) fun o e=>aJ e5 D.b3 (aJ e4 D.b4 (aJ e3 D.b3 e))
 have u2:st2 (k+1) g5:=N2.keep _ _ _ t2 (fun o e=>aJ e5 D.a9.symm e) fun o e=>aJ e5 D.b6 e
 show wpAny _ _ (Builtin.SmallTypes.ownedTupleHandOut (Value.ref z) (.ref g5.objs.size) >>= _) _ _ _
 refine Ph ?_
 unfold Builtin.SmallTypes.ownedTupleHandOut
 have z6:IsZip (g5.push {cls:=.type "tuple",data:=.seq #[x,y]}) z TI TO .ellipsis:=Pj _ z5
 refine Ph (Rj z6 (by simp) fun g7 z7 e7=>?_)
 have z7:IsZip g7 z TI TO (rawInt g5.objs.size):=z7
 refine Rj z7 (by simp) fun g8 z8 e8=>?_
 have z8:IsZip g8 z TI TO (rawInt g5.objs.size):=z8
 have up:∀ c o,c≠z->g5.get? c=some o->g8.get? c=some o:=fun c o n e=>aJ e8 n (aJ e7 n (Pj _ e))
 have nw:IsPair g8 g5.objs.size x y:=aJ e8 (Sk zlt) (aJ e7 (Sk zlt) (Po _ rfl))
 rw [sz] at z8 nw
 refine Pk ⟨_,rfl,?_⟩
 show Q (.ref g5.objs.size) _
 rw [sz]
 exact q g8 z8 (up _ _ D.a2 O5) (N1.keep _ _ _ u1 (fun o=>up _ o D.a3) fun o=>up _ o D.b2) (N2.keep _ _ _ u2 (fun o=>up _ o D.a4) fun o=>up _ o D.b5) nw fun c o n1 n2 n3 n4 e=>
  up c o n1 (aJ e5 n2 (aJ e4 n4 (aJ e3 n2 (aJ e2 n3 (aJ e1 n1 e)))))
theorem F5 (hh:A.handled=none) (D:ZA z TI TO i1 i2 l1 l2) (N1:Nx P w i1 l1 st1 xs) (N2:Nx P w i2 l2 st2 ys) {Q:PySem.Fin->Shared->Prop} (hz:IsZip s.heap z TI TO .none) (hI:IsPair s.heap TI (.ref i1) (.ref i2)) (hO:IsPair s.heap TO a b)
  (s1:st1 k s.heap) (s2:st2 k s.heap) (hend:xs[k]?=none\/ys[k]?=none)
  (q:∀ h' e,(∀ c o,c≠z->c≠TO->c≠i1->c≠i2->s.heap.get? c=some o->h'.get? c=some o)->(∃ o,h'.get? e=some o/\o.cls=.type "StopIteration")->E (.ref e) {s with heap:=h'}) :
  wpAny (model P w) A (Builtin.«zip.__next__» ⟨[.ref z],[]⟩) Q E s:=by
 show wpAny _ _ (field (Value.ref z) 2 >>= _) _ _ _
 refine Ph (QJ (x:=Value.bool false) hz rfl rfl ?_)
 show wpAny _ _ (field (Value.ref z) 3 >>= _) _ _ _
 refine Ph (QJ (x:=Value.ref TI) hz rfl rfl ?_)
 refine Ph (Qv hI rfl ?_)
 show wpAny _ _ (Builtin.SmallTypes.ownedTupleIsFree (Value.ref z) >>= _) _ _ _
 refine Ph ?_
 unfold Builtin.SmallTypes.ownedTupleIsFree
 refine Ph (QJ (x:=Value.none) hz rfl rfl (Pk ?_))
 simp only [Qe]
 refine Ph (RD (Ph (QJ (x:=Value.ref TO) hz rfl rfl ?_)))
 refine Ph (Rj hz (by simp) fun g1 z1 e1=>?_)
 have z1:IsZip g1 z TI TO .ellipsis:=z1
 refine Ph ?_
 simp only [List.zipIdx_nil,List.zipIdx_cons,Rp,Rc]
 refine Ph (Ph (wpAny_onRaise ?_))
 show wpAny _ _ (Builtin.SmallTypes.nextOf (Value.ref i1) >>= _) _ _ _
 have t1:st1 k g1:=N1.keep _ _ _ s1 (fun o=>aJ e1 D.a3) fun o=>aJ e1 D.b2
 cases hx:xs[k]? with
 | none=>
  refine Ph (N1.done _ k _ _ _ hh t1 hx fun g2 e e2 ⟨oe,he,ce⟩=>?_)
  have z2:IsZip g2 z TI TO .ellipsis:=e2 _ _ D.a3.symm z1
  have ne:e≠z:=fun r=>by
   rw [r,z2] at he
   cases he
   exact absurd (show Value.type "zip" = Value.type "StopIteration" from ce) (by decide)
  exact Rj z2 (by simp) fun g3 _ e3=>q g3 e (fun c o n1 _ n3 _ r=>aJ e3 n1 (e2 _ _ n3 (aJ e1 n1 r))) ⟨oe,aJ e3 ne he,ce⟩
 | some x=>
  have hy:ys[k]?=none:=by
   rcases hend with r | r
   ·rw [hx] at r;cases r
   ·exact r
  refine Ph (N1.item _ k _ x _ _ t1 hx fun g2 t1 e2=>Pk ?_)
  have O2:IsPair g2 TO a b:=aJ e2 D.a8 (aJ e1 D.a2 hO)
  refine Ph (Qv O2 rfl (Ph (Te O2 fun g3 O3 e3=>?_)))
  refine Ph (wpAny_letGo (Pk (Ph (Ph (wpAny_onRaise ?_)))))
  show wpAny _ _ (Builtin.SmallTypes.nextOf (Value.ref i2) >>= _) _ _ _
  refine Ph (N2.done _ k _ _ _ hh (N2.keep _ _ _ s2 (fun o e=>aJ e3 D.a9.symm (aJ e2 D.b1.symm (aJ e1 D.a4 e))) fun o e=>aJ e3 D.b6 (aJ e2 D.b7 (aJ e1 D.b5 e))) hy fun g4 e e4 ⟨oe,he,ce⟩=>?_)
  have z4:IsZip g4 z TI TO .ellipsis:=e4 _ _ D.a4.symm (aJ e3 D.a2.symm (aJ e2 D.a3.symm z1))
  have ne:e≠z:=fun r=>by
   rw [r,z4] at he
   cases he
   exact absurd (show Value.type "zip" = Value.type "StopIteration" from ce) (by decide)
  exact Rj z4 (by simp) fun g5 _ e5=>q g5 e (fun c o n1 n2 n3 n4 r=>aJ e5 n1 (e4 _ _ n4 (aJ e3 n2 (aJ e2 n3 (aJ e1 n1 r))))) ⟨oe,aJ e5 ne he,ce⟩
end
section
variable {P:Program} {w:World} {A:Around} {E:Value->Shared->Prop} {s:Shared}
structure Lk (h h':Heap) (l1 l2:Addr):Prop where
 z:IsZip h' (h.objs.size+4) (h.objs.size+2) (h.objs.size+3) .none
 ti:IsPair h' (h.objs.size+2) (.ref h.objs.size) (.ref (h.objs.size+1))
 to:IsPair h' (h.objs.size+3) .none .none
 i1:h'.IsTupleIter h.objs.size l1 0
 i2:h'.IsTupleIter (h.objs.size+1) l2 0
 sz:h'.objs.size=h.objs.size+5
 keep:∀ c o,h.get? c=some o->h'.get? c=some o
abbrev mB (h:Heap) (u:Addr):Heap:=h.push {cls:=.type "tuple_iterator",data:=.fields #[.ref u,.int 0 0]}
abbrev HH (h:Heap) (a b:Addr):Heap:=h.push {cls:=.type "tuple",data:=.seq #[.ref a,.ref b]}
abbrev Ll (h:Heap):Heap:=h.push {cls:=.type "tuple",data:=.seq #[.none,.none]}
abbrev OX (h:Heap) (a b:Addr):Heap:=h.push {cls:=.type "zip",data:=.fields #[.none,.bool false,.bool false,.ref a,.ref b]}
abbrev ze (h:Heap) (l1 l2:Addr):Heap:=OX (Ll (HH (mB (mB h l1) l2) h.objs.size (mB h l1).objs.size)) (mB (mB h l1) l2).objs.size (HH (mB (mB h l1) l2) h.objs.size (mB h l1).objs.size).objs.size
theorem C7 (h:Heap) (l1 l2:Addr):Lk h (ze h l1 l2) l1 l2:=by
 have e1:(mB h l1).objs.size=h.objs.size+1:=Qc ..
 have e2:(mB (mB h l1) l2).objs.size=h.objs.size+2:=by rw [Qc,e1]
 have e3:(HH (mB (mB h l1) l2) h.objs.size (mB h l1).objs.size).objs.size=h.objs.size+3:=by rw [Qc,e2]
 have e4:(Ll (HH (mB (mB h l1) l2) h.objs.size (mB h l1).objs.size)).objs.size=h.objs.size+4:=by rw [Qc,e3]
 have p5:(ze h l1 l2).get? (Ll (HH (mB (mB h l1) l2) h.objs.size (mB h l1).objs.size)).objs.size=some _:=Po _ rfl
 have p4:(ze h l1 l2).get? (HH (mB (mB h l1) l2) h.objs.size (mB h l1).objs.size).objs.size=some _:=Pj _ (Po _ rfl)
 have p3:(ze h l1 l2).get? (mB (mB h l1) l2).objs.size=some _:=Pj _ (Pj _ (Po _ rfl))
 have p2:(ze h l1 l2).get? (mB h l1).objs.size=some _:=Pj _ (Pj _ (Pj _ (Po _ rfl)))
 have p1:(ze h l1 l2).get? h.objs.size=some _:=Pj _ (Pj _ (Pj _ (Pj _ (Po _ rfl))))
 rw [e2,e3,e4] at p5
 rw [e3] at p4
 rw [e2,e1] at p3
 rw [e1] at p2
 exact ⟨p5,p3,p4,⟨_,p1,rfl,rfl⟩,⟨_,p2,rfl,rfl⟩,by rw [Qc,e4],fun c o e=>Pj _ (Pj _ (Pj _ (Pj _ (Pj _ e))))⟩
theorem xt (l1 l2:Addr) (xs ys:Array Value) :
  Meets (Builtin.«zip.__new__» ⟨[.type "zip",.ref l1,.ref l2],[]⟩) (fun _ R s=>s.heap.IsTuple l1 xs/\s.heap.IsTuple l2 ys/\R (.ok (.ret (.ref (Ll (HH (mB (mB s.heap l1) l2) s.heap.objs.size (mB s.heap l1).objs.size)).objs.size))) {s with heap:=ze s.heap l1 l2}):=
 .of_wp fun prog w A R s h=>by
  obtain ⟨hp,g,d,tk,os⟩:=s
  obtain ⟨t1,t2,h⟩:=h
  have hsub:=sub_zip
  have T1:Heap.IsTuple (Shared.heap ⟨hp,g,d,tk,os⟩) l1 xs:=t1
  have T2:Heap.IsTuple (Shared.heap ⟨hp.push {cls:=.type "tuple_iterator",data:=.fields #[.ref l1,.int 0 0]},g,d,tk,os⟩) l2 ys:=Heap.IsTuple.push t2 _
  wp_walk using Sz T1,Sz T2
  exact ⟨_,rfl,h⟩
theorem vY {l1 l2:Addr} {xs ys:Array Value} {Q:Value->Shared->Prop} (t1:s.heap.IsTuple l1 xs) (t2:s.heap.IsTuple l2 ys) (q:∀ h',Lk s.heap h' l1 l2->Q (.ref (s.heap.objs.size+4)) {s with heap:=h'}) :
  wpAny (model P w) A (call (.type "zip") [.ref l1,.ref l2]) Q E s:=by
 refine callType_new F.called_zip (by decide) (F.typeCall_zip_2 _ _) (F.newCall_zip_2 _ _) (fun obj=>F.args_object_init_3 obj _ _) F.entry_zip_new (xt l1 l2 xs ys) ⟨t1,t2,?_⟩
 have n:=C7 s.heap l1 l2
 have e4:(Ll (HH (mB (mB s.heap l1) l2) s.heap.objs.size (mB s.heap l1).objs.size)).objs.size=s.heap.objs.size+4:=by
  have:=n.sz
  rw [Qc] at this
  omega
 show _/\_
 rw [e4]
 exact ⟨⟨_,n.z,rfl⟩,q _ n⟩
theorem uf {z TI TO i1 i2 l1 l2:Addr} {k:Nat} {xs ys:List Value} {x y a b:Value} {Q:Option Value->Shared->Prop} (D:ZA z TI TO i1 i2 l1 l2) (hz:IsZip s.heap z TI TO .none) (hI:IsPair s.heap TI (.ref i1) (.ref i2)) (hO:IsPair s.heap TO a b)
  (t1:s.heap.IsTupleIter i1 l1 k) (t2:s.heap.IsTupleIter i2 l2 k) (h1:s.heap.IsTuple l1 xs.toArray) (h2:s.heap.IsTuple l2 ys.toArray) (hx:xs[k]?=some x) (hy:ys[k]?=some y)
  (q:∀ h',IsZip h' z TI TO (rawInt s.heap.objs.size)->IsPair h' TO x y->h'.IsTupleIter i1 l1 (k+1)->h'.IsTupleIter i2 l2 (k+1)->IsPair h' s.heap.objs.size x y ->
   (∀ c o,c≠z->c≠TO->c≠i1->c≠i2->s.heap.get? c=some o->h'.get? c=some o)->Q (some (.ref s.heap.objs.size)) {s with heap:=h'}):wpAny (model P w) A (pyNext (.ref z)) Q E s:=by
 have hT:s.TypeIs (.ref z) "zip" := ⟨_,hz,rfl⟩
 unfold pyNext
 refine Ph (SG (Qf (name:=Str.ofString "__next__") hT Tn (Qa Tn hT F.entry_zip_next ?_ (F.args_zip_next_1 _))))
 exact C6 D (vX i1 l1 xs) (vX i2 l2 ys) hz hI hO ⟨t1,h1⟩ ⟨t2,h2⟩ hx hy fun h' a1 a2 a3 a4 a5 a6=>Pk (q h' a1 a2 a3.1 a4.1 a5 a6)
theorem vZ {z TI TO i1 i2 l1 l2:Addr} {k:Nat} {xs ys:List Value} {a b:Value} {Q:Option Value->Shared->Prop} (hh:A.handled=none) (D:ZA z TI TO i1 i2 l1 l2) (hz:IsZip s.heap z TI TO .none) (hI:IsPair s.heap TI (.ref i1) (.ref i2)) (hO:IsPair s.heap TO a b)
  (t1:s.heap.IsTupleIter i1 l1 k) (t2:s.heap.IsTupleIter i2 l2 k) (h1:s.heap.IsTuple l1 xs.toArray) (h2:s.heap.IsTuple l2 ys.toArray) (hend:xs[k]?=none\/ys[k]?=none)
  (q:∀ h',(∀ c o,c≠z->c≠TO->c≠i1->c≠i2->s.heap.get? c=some o->h'.get? c=some o)->Q none {s with heap:=h'}):wpAny (model P w) A (pyNext (.ref z)) Q E s:=by
 have hT:s.TypeIs (.ref z) "zip" := ⟨_,hz,rfl⟩
 unfold pyNext
 refine Ph (SG (Qf (name:=Str.ofString "__next__") hT Tn (Qa Tn hT F.entry_zip_next ?_ (F.args_zip_next_1 _))))
 refine F5 (A:=A.in1) hh D (vX i1 l1 xs) (vX i2 l2 ys) hz hI hO ⟨t1,h1⟩ ⟨t2,h2⟩ hend fun h' e hk ⟨o,ho,hc⟩=>?_
 exact Ph (S9 (T := "StopIteration") (b:=true) ⟨o,ho,hc⟩ isSubtype_stop (Pk (q _ hk)))
end
def Ot (K:PySem.W.Frag) (a1 a2:Addr):It:=
 ⟨fun i H=>∃ xs ys x y,gx K H a1 xs/\gx K H a2 ys/\xs[i]?=some x/\ys[i]?=some y,
  fun i H v H'=>∃ p x y,v=.ref p/\H p=none/\H'=upd H p (.tup [x,y])/\(∀ xs,gx K H a1 xs->xs[i]?=some x)/\∀ ys,gx K H a2 ys->ys[i]?=some y,
  fun i H=>∃ xs ys,gx K H a1 xs/\gx K H a2 ys/\(xs.length<=i\/ys.length<=i)⟩
theorem C8 {P:Program} {w:World} {K:PySem.W.Frag} {es:List Expr} {kk:_} {tpos:Pos} (a1 a2 z TI TO i1 i2:Addr) (D:ZA z TI TO i1 i2 a1 a2):Turn P w K (.Tuple es kk tpos) (Ot K a1 a2) [z,TI,TO,i1,i2] z
  (fun k h=>IsZip h z TI TO .none/\IsPair h TI (.ref i1) (.ref i2)/\(∃ a b,IsPair h TO a b)/\h.IsTupleIter i1 a1 k/\h.IsTupleIter i2 a2 k) where
 mem:=PJ
 obj:=fun k h st b hb=>by
  obtain ⟨hz,hI,⟨a,c,hO⟩,⟨o1,e1,_,d1⟩,⟨o2,e2,_,d2⟩⟩:=st
  simp only [Pn,P1,QU] at hb
  rcases hb with rfl | rfl | rfl | rfl | rfl
  ·exact ⟨_,hz,fun v r=>by cases r⟩
  ·exact ⟨_,hI,fun v r=>by cases r⟩
  ·exact ⟨_,hO,fun v r=>by cases r⟩
  ·exact ⟨_,e1,fun v r=>by rw [d1] at r;cases r⟩
  ·exact ⟨_,e2,fun v r=>by rw [d2] at r;cases r⟩
 keep:=fun k h h' st kp=>by
  obtain ⟨hz,hI,⟨a,c,hO⟩,t1,t2⟩:=st
  exact ⟨kp z (by simp) _ hz,kp TI (by simp) _ hI,⟨a,c,kp TO (by simp) _ hO⟩,t1.at (kp i1 (by simp)),t2.at (kp i2 (by simp))⟩
 item:=by
  intro X hP hw hK hc i pins s σ H E I hf st hg
  subst hP hw hK
  obtain ⟨xs,ys,x,y,q1,q2,hx,hy⟩:=hg
  obtain ⟨its1,r1,p1,_⟩:=I.tuple q1
  obtain ⟨its2,r2,p2,_⟩:=I.tuple q2
  obtain ⟨u1,hu1,ru1⟩:=r1.get hx
  obtain ⟨u2,hu2,ru2⟩:=r2.get hy
  obtain ⟨hz,hI,⟨a,c,hO⟩,t1,t2⟩:=st
  refine uf D hz hI hO t1 t2 (show s.heap.IsTuple a1 its1.toArray from p1) (show s.heap.IsTuple a2 its2.toArray from p2) hu1 hu2 fun h' z' o' t1' t2' nw kp=>?_
  refine ⟨_,rfl,wpAny_letOwnedTupleGo_zip z' fun h2 z2 sb=>?_⟩
  have lt:∀ {b:Addr} {o:Obj},s.heap.get? b=some o->b≠s.heap.objs.size:=fun e=>PM (Pp e)
  have nz:s.heap.objs.size≠z:=(lt hz).symm
  have hf0:H s.heap.objs.size=none:=I.hok.fresh (Pm _)
  have hI2:IsPair h2 TI (.ref i1) (.ref i2):=aJ sb D.a1 (kp _ _ D.a1 D.a5 D.a6 D.a7 hI)
  have kall:∀ b o,b∉[z,TI,TO,i1,i2]->s.heap.get? b=some o->h2.get? b=some o:=fun b o hb e=>by
   simp only [Pn,P1,QU,not_or] at hb
   exact aJ sb hb.1 (kp b o hb.1 hb.2.2.1 hb.2.2.2.1 hb.2.2.2.2 e)
  have BH:∀ {b:Addr} {u:HO},H b=some u->b∉[z,TI,TO,i1,i2]:=fun {b u} e hb=>by
   rw [(hf b hb).1] at e;cases e
  have there:∀ b o,s.heap.get? b=some o->∃ o',h2.get? b=some o':=fun b o e=>by
   by_cases hb:b∈[z,TI,TO,i1,i2]
   ·simp only [Pn,P1,QU] at hb
    rcases hb with rfl | rfl | rfl | rfl | rfl
    ·exact ⟨_,z2⟩
    ·exact ⟨_,hI2⟩
    ·exact ⟨_,aJ sb D.a2 o'⟩
    ·obtain ⟨_,e1,_⟩:=t1'
     exact ⟨_,aJ sb D.a3 e1⟩
    ·obtain ⟨_,e1,_⟩:=t2'
     exact ⟨_,aJ sb D.a4 e1⟩
   ·exact ⟨o,kall b o hb e⟩
  have hokN:km X.prog X.w (upd H s.heap.objs.size (.tup [x,y])) h2:=fun b u e=>by
   by_cases hb:b=s.heap.objs.size
   ·subst hb
    rw [aY] at e
    cases e
    exact ⟨by show 2<=sizeLine;decide,[u1,u2],.cons ru1 (.cons ru2 .nil),⟨_,aJ sb nz nw,rfl,_,rfl⟩⟩
   ·rw [aD hb] at e
    refine (I.hok b u e).rm (fun d v hd r=>kall d v ?_ r) (fun d r=>by rw [aD (aH r hf0)];exact r) fun d vs r=>by rw [aD (aH r hf0)];exact r
    rcases hd with rfl | hd
    ·exact BH e
    ·exact BH hd
  have I2:Inv X pins σ (upd H s.heap.objs.size (.tup [x,y])) {s with heap:=h2}:=by
   refine I.step (g':=s.gens) (d':=s.drawn) (t':=s.toks) (ch:=[z,TI,TO,i1,i2]) (fun b hb=>⟨(hf b hb).2.2.2.1,(hf b hb).2.1,(hf b hb).2.2.2.2.1,(hf b hb).2.2.2.2.2⟩) (fun b o _ _ hb e _=>kall b o hb e) (fun b o _ _ hb e _=>⟨o.slots,kall b o hb e⟩)
    (fun b o _ e n=>by rw [aD (lt e)];exact n) (fun b o _ e=>there b o e) (fun b vs e=>by rw [aD (aH e hf0)];exact e) (fun b o v e=>by rw [aD (aH e hf0)];exact e) (fun b ps e=>⟨#[],by rw [aD (aH e hf0),e];simp⟩) (fun m hm=>?_) hokN I.bare
   obtain ⟨o,es',ep,e,r⟩:=hm
   exact ⟨o,es',ep,kall _ o (fun hb=>(hf _ hb).2.1 rfl) e,r⟩
  refine ⟨.ref s.heap.objs.size,_,I2,rfl,⟨_,x,y,rfl,hf0,rfl,fun vs h=>by rw [I.oY h q1];exact hx,fun vs h=>by rw [I.oY h q2];exact hy⟩,⟨z2,hI2,⟨_,_,aJ sb D.a2 o'⟩,t1'.at fun o e=>aJ sb D.a3 e,t2'.at fun o e=>aJ sb D.a4 e⟩,fun b hb=>?_⟩
  have hb':=(hf b hb).1
  by_cases e:b=s.heap.objs.size
  ·exfalso
   simp only [Pn,P1,QU] at hb
   rcases hb with r | r | r | r | r
   ·exact lt hz (r▸e)
   ·exact lt hI (r▸e)
   ·exact lt hO (r▸e)
   ·obtain ⟨_,e1,_⟩:=t1;exact lt e1 (r▸e)
   ·obtain ⟨_,e1,_⟩:=t2;exact lt e1 (r▸e)
  ·rw [aD e];exact hb'
 done:=by
  intro X hP hw hK hc i pins s σ H E I hf st hg
  subst hP hw hK
  obtain ⟨xs,ys,q1,q2,hl⟩:=hg
  obtain ⟨its1,r1,p1,_⟩:=I.tuple q1
  obtain ⟨its2,r2,p2,_⟩:=I.tuple q2
  obtain ⟨hz,hI,⟨a,c,hO⟩,t1,t2⟩:=st
  refine vZ (I.ok.hd hc) D hz hI hO t1 t2 (show s.heap.IsTuple a1 its1.toArray from p1) (show s.heap.IsTuple a2 its2.toArray from p2) ?_ fun h' kp=>⟨rfl,?_⟩
  ·have e1:=r1.length
   have e2:=r2.length
   rcases hl with r | r
   ·exact .inl (List.getElem?_eq_none_iff.mpr (by omega))
   ·exact .inr (List.getElem?_eq_none_iff.mpr (by omega))
  ·have kall:∀ b o,b∉[z,TI,TO,i1,i2]->s.heap.get? b=some o->h'.get? b=some o:=fun b o hb e=>by
    simp only [Pn,P1,QU,not_or] at hb
    exact kp b o hb.1 hb.2.2.1 hb.2.2.2.1 hb.2.2.2.2 e
   have BH:∀ {b:Addr} {u:HO},H b=some u->b∉[z,TI,TO,i1,i2]:=fun {b u} e hb=>by
    rw [(hf b hb).1] at e;cases e
   refine I.step (g':=s.gens) (d':=s.drawn) (t':=s.toks) (ch:=[z,TI,TO,i1,i2]) (fun b hb=>⟨(hf b hb).2.2.2.1,(hf b hb).2.1,(hf b hb).2.2.2.2.1,(hf b hb).2.2.2.2.2⟩) (fun b o _ _ hb e _=>kall b o hb e) (fun b o _ _ hb e _=>⟨o.slots,kall b o hb e⟩)
    (fun b o _ e n=>n) (fun b o hb e=>⟨o,kall b o hb e⟩) (fun b vs e=>e) (fun b o v e=>e) (fun b ps e=>⟨#[],by rw [e];simp⟩) (fun m hm=>?_) (fun b u e=>(I.hok b u e).rm (fun d v hd r=>kall d v ?_ r) (fun _ r=>r) fun _ _ r=>r) I.bare
   ·obtain ⟨o,es',ep,e,r⟩:=hm
    exact ⟨o,es',ep,kall _ o (fun hb=>(hf _ hb).2.1 rfl) e,r⟩
   ·rcases hd with rfl | hd
    ·exact BH e
    ·exact BH hd
 self:=fun _ _ _ _ _ st h=>wpAny_pyIter_zip st.1 h
section
variable {X:Cx} {es:List Expr} {kk:Nat} {tpos:Pos}
theorem Nn (a b:Nat) (h:a≠b):@Ne Addr a b:=h
theorem Lm (n a b:Nat) (h1:a < n) (h2:b < n):ZA (n+4) (n+2) (n+3) n (n+1) a b:=by
 constructor<;>refine Nn _ _ ?_<;>omega
def Np (K:PySem.W.Frag) (ta:TA):TI:=fun σ H R=>ta σ H fun vs H1=>∃ a1 a2 xs ys,vs=[.ref a1,.ref a2]/\gx K H1 a1 xs/\gx K H1 a2 ys/\R (Ot K a1 a2) H1
theorem Jg {e1 e2:Expr} {ta:TA} {p pos:Pos} (hg:Gl X "zip") (hm:X.mg "zip" = none) (ha:PA X [e1,e2] ta) (hs:starEach [e1,e2] X.env=[(false,eval e1 X.env),(false,eval e2 X.env)]:=by rfl) (hs2:starEach [e2] X.env=[(false,eval e2 X.env)]:=by rfl) :
  PI X (.Tuple es kk tpos) (.Call (.Name "zip" p) [e1,e2] [] pos) (Np X.K ta):=by
 intro pins s σ H R I h
 refine Call_ (mP I hg hm (by decide +kernel:bootBuiltins "zip" = some (.type "zip")) (Ra (bV (ha pos pins s σ H _ I h) fun us s1 ⟨vs,H1,I1,r1,q1⟩=>?_) (by rw [hs,hs2]) (by rw [hs2];rfl)))
 obtain ⟨a1,a2,xs,ys,e,t1,t2,q⟩:=q1
 subst e
 cases r1 with
 | cons r rr=>
  cases rr with
  | cons r' rr=>
   cases rr
   cases r
   cases r'
   obtain ⟨its1,v1,p1,_⟩:=I1.tuple t1
   obtain ⟨its2,v2,p2,_⟩:=I1.tuple t2
   have L1:a1 < s1.heap.objs.size:=by obtain ⟨_,e,_⟩:=p1;exact Pp e
   have L2:a2 < s1.heap.objs.size:=by obtain ⟨_,e,_⟩:=p2;exact Pp e
   refine vY (show s1.heap.IsTuple a1 its1.toArray from p1) (show s1.heap.IsTuple a2 its2.toArray from p2) fun h' N=>?_
   refine wpAny_pyIter_zip (s:={s1 with heap:=h'}) N.z ?_
   have I2:Inv X pins σ H1 {s1 with heap:=h'}:=I1.kept (t':=s1.toks) N.keep
   refine ⟨s1.heap.objs.size+4,[s1.heap.objs.size+4,s1.heap.objs.size+2,s1.heap.objs.size+3,s1.heap.objs.size,s1.heap.objs.size+1],_,_,H1,rfl,I2,C8 a1 a2 _ _ _ _ _ (Lm _ _ _ L1 L2),⟨N.z,N.ti,⟨_,_,N.to⟩,N.i1,N.i2⟩,fun b hb=>?_,q⟩
   have ge:s1.heap.objs.size<=b:=by
    simp only [Pn,P1,QU] at hb
    rcases hb with rfl | rfl | rfl | rfl | rfl
    ·exact Ta _ _
    ·exact Ta _ _
    ·exact Ta _ _
    ·exact Pm _
    ·exact Ta _ _
   exact I1.BJ ge (I1.hok.fresh ge)
end
section
variable {κ:Type} [DecidableEq κ]
def oZ (kvs:List (κ×V)) (k:κ):Option V:=(kvs.find? fun kv=>decide (kv.1=k)).map (·.2)
def putK (kvs:List (κ×V)) (k:κ) (v:V):List (κ×V):=
 if (kvs.any fun kv=>decide (kv.1=k))=true then kvs.map (fun kv=>if kv.1=k then (kv.1,v) else kv) else kvs++[(k,v)]
theorem nK {p:κ×V} {r:List (κ×V)} {k:κ} (e:p.1=k):oZ (p::r) k=some p.2:=by simp [oZ,QZ,e]
theorem kz {p:κ×V} {r:List (κ×V)} {k:κ} (e:¬ p.1=k):oZ (p::r) k=oZ r k:=by simp [oZ,QZ,e]
theorem nL (k:κ):∀ kvs:List (κ×V),(kvs.any fun kv=>decide (kv.1=k))=(oZ kvs k).isSome
 | []=>rfl
 | p::r=>by
  rw [R3]
  by_cases e:p.1=k
  ·simp only [nK e,PN e,Bool.true_or,Option.isSome_some]
  ·rw [kz e,PR e,Bool.false_or];exact nL k r
theorem iz (kvs:List (κ×V)) (k:κ) (v:V):(putK kvs k v).length<=kvs.length+1:=by
 unfold putK
 split
 ·rw [PX];omega
 ·rw [PU,PQ,Ql];omega
theorem oV.jq {o:Option V} {u:Option Value} (r:oV o u):o.isSome=u.isSome:=by
 cases o with
 | none=>cases u with
  | none=>rfl
  | some _=>exact (show False from r).elim
 | some _=>cases u with
  | none=>exact (show False from r).elim
  | some _=>rfl
theorem oV.getD {o:Option V} {u:Option Value} {d:V} {d':Value} (r:oV o u) (rd:RelV d d'):RelV (o.getD d) (u.getD d'):=by
 cases o with
 | none=>cases u with
  | none=>exact rd
  | some _=>exact (show False from r).elim
 | some _=>cases u with
  | none=>exact (show False from r).elim
  | some _=>exact r
theorem KV.val {kvs:List (κ×V)} {vs:List (κ×Value)} (r:KV kvs vs) (k:κ):oV (oZ kvs k) (valueAt vs k):=by
 unfold KV at r
 induction r with
 | nil=>exact True.intro
 | @cons p q ps qs h t ih=>
  obtain ⟨h1,h2⟩:=h
  by_cases e:p.1=k
  ·have e':q.1=k:=h1.symm.trans e
   have b:valueAt (q::qs) k=some q.2:=by simp [valueAt,QZ,e']
   rw [nK e,b];exact h2
  ·have e':¬ q.1=k:=fun z=>e (h1.trans z)
   have b:valueAt (q::qs) k=valueAt qs k:=by simp [valueAt,QZ,e']
   rw [kz e,b];exact ih
theorem KV.any {kvs:List (κ×V)} {vs:List (κ×Value)} (r:KV kvs vs) (k:κ):(kvs.any fun kv=>decide (kv.1=k))=vs.any fun kv=>decide (kv.1=k):=by
 unfold KV at r
 induction r with
 | nil=>rfl
 | cons h t ih=>rw [R3,R3,ih,h.1]
theorem KV.Jh {kvs:List (κ×V)} {vs:List (κ×Value)} (r:KV kvs vs) (k:κ) {y:V} {u:Value} (ry:RelV y u) :
  KV (kvs.map fun kv=>if kv.1=k then (kv.1,y) else kv) (vs.map fun kv=>if kv.1=k then (kv.1,u) else kv):=by
 unfold KV at r ⊢
 induction r with
 | nil=>exact .nil
 | @cons p q ps qs h t ih=>
  rw [P9,P9]
  refine .cons ?_ ih
  obtain ⟨h1,h2⟩:=h
  by_cases e:p.1=k
  ·rw [if_pos e,if_pos (h1.symm.trans e)];exact ⟨h1,ry⟩
  ·rw [if_neg e,if_neg (fun z=>e (h1.trans z))];exact ⟨h1,h2⟩
theorem KV.put {kvs:List (κ×V)} {vs:List (κ×Value)} (r:KV kvs vs) (k:κ) {y:V} {u:Value} (ry:RelV y u):KV (putK kvs k y) (stored vs k u):=by
 unfold putK stored
 rw [r.any k]
 by_cases e:(vs.any fun kv=>decide (kv.1=k))=true
 ·rw [if_pos e,if_pos e];exact r.Jh k ry
 ·rw [if_neg e,if_neg e];exact Paired.snoc r ⟨rfl,ry⟩
theorem KV.length {kvs:List (κ×V)} {vs:List (κ×Value)} (r:KV kvs vs):kvs.length=vs.length:=P4 r
end
theorem pW {P:Program} {w:World} {k:Key} {u:Value} (r:RelV (kV k) u):(bH P w).is k u=true:=by
 cases k with
 | inl i=>obtain ⟨t,e⟩:=(show ∃ t,u=Value.int i t from r);subst e;exact xh P w i t
 | inr x=>obtain ⟨t,e⟩:=(show ∃ t,u=Value.str x t from r);subst e;exact xi P w x t
theorem uS {P:Program} {w:World}:∀ {ks:List Key} {us:List Value},Vals (ks.map kV) us->ItemsAre (bH P w) ks us
 | [],_,r=>by rw [Ri] at r;cases r;exact .nil
 | k::ks,_,r=>by
  rw [P9] at r
  cases r with
  | cons h t=>exact .cons (pW h) (uS t)
abbrev KT (H:Hp):List (List Key×V)->List (List Key×Addr×Value)->Prop:=Paired fun p q=>p.1=q.1/\H q.2.1=some (.tup (p.1.map kV))/\RelV p.2 q.2.2
theorem KT.val {H:Hp} {kvs:List (List Key×V)} {xs:List (List Key×Addr×Value)} (r:KT H kvs xs) (k:List Key):oV (oZ kvs k) ((atKey xs k).map (·.2)):=by
 induction r with
 | nil=>exact True.intro
 | @cons p q ps qs h t ih=>
  obtain ⟨h1,_,h2⟩:=h
  by_cases e:p.1=k
  ·have e':q.1=k:=h1.symm.trans e
   have b:atKey (q::qs) k=some q.2:=by simp [atKey,QZ,e']
   rw [nK e,b];exact h2
  ·have e':¬ q.1=k:=fun z=>e (h1.trans z)
   have b:atKey (q::qs) k=atKey qs k:=by simp [atKey,QZ,e']
   rw [kz e,b];exact ih
theorem KT.Jh {H:Hp} {kvs:List (List Key×V)} {xs:List (List Key×Addr×Value)} (r:KT H kvs xs) (k:List Key) {y:V} {u:Value} (ry:RelV y u) :
  KT H (kvs.map fun kv=>if kv.1=k then (kv.1,y) else kv) (xs.map (putAt k u)):=by
 induction r with
 | nil=>exact .nil
 | @cons p q ps qs h t ih=>
  rw [P9,P9]
  refine .cons ?_ ih
  obtain ⟨h1,h2,h3⟩:=h
  unfold putAt
  by_cases e:p.1=k
  ·rw [if_pos e,if_pos (h1.symm.trans e)];exact ⟨h1,h2,ry⟩
  ·rw [if_neg e,if_neg (fun z=>e (h1.trans z))];exact ⟨h1,h2,h3⟩
theorem KT.put {H:Hp} {kvs:List (List Key×V)} {xs:List (List Key×Addr×Value)} (r:KT H kvs xs) (k:List Key) {b:Addr} {y:V} {u:Value} (hb:H b=some (.tup (k.map kV))) (ry:RelV y u) :
  KT H (putK kvs k y) (storedH xs k b u):=by
 have e:(kvs.any fun kv=>decide (kv.1=k))=(atKey xs k).isSome:=by
  rw [nL,(r.val k).jq,TB]
 unfold putK storedH
 rw [e]
 by_cases q:(atKey xs k).isSome=true
 ·rw [if_pos q,if_pos q];exact r.Jh k ry
 ·rw [if_neg q,if_neg q];exact Paired.snoc r ⟨rfl,hb,ry⟩
theorem KT.keeps {H H':Hp} {kvs:List (List Key×V)} {xs:List (List Key×Addr×Value)} (r:KT H kvs xs) (ht:∀ b ys,H b=some (.tup ys)->H' b=some (.tup ys)):KT H' kvs xs:=
 Paired.t8 r fun _ _ z=>⟨z.1,ht _ _ z.2.1,z.2.2⟩
section
variable {P:Program} {w:World} {H:Hp} {h:Heap} {a:Addr}
theorem HI {u:HO} (ok:km P w H h) (e:Rd H a u):cv P w H h a u:=e.ok ok
theorem uT {kvs:List (Key×V)} (ok:km P w H h) (e:Rd H a (.dK kvs)):kvs.length<=sizeLine/\(a == sysModules)=false/\∃ vs,KV kvs vs/\h.DictOf (bH P w) a vs:=
 show cv P w H h a (.dK kvs) from HI ok e
theorem HJ {kvs:List (Key×V)} (ok:km P w H h) (e:H a=some (.dK kvs)):kvs.length<=sizeLine/\(a == sysModules)=false/\∃ vs,KV kvs vs/\h.DictOf (bH P w) a vs:=uT ok (.inl e)
theorem o4 {ks:List Key} (ok:km P w H h) (e:H a=some (.tup (ks.map kV))):(tupleKind (bH P w)).is h ks a:=by
 obtain ⟨_,its,r,o,h1,h2,n,h3⟩:=(show cv P w H h a (.tup (ks.map kV)) from ok a _ e)
 exact ⟨o,its.toArray,n,h1,h2,h3,by simpa using uS r⟩
theorem uU {kvs:List (List Key×V)} (ok:km P w H h) (e:Rd H a (.dT kvs)):kvs.length<=sizeLine/\(a == sysModules)=false /\
  ∃ xs,KT H kvs xs/\h.DictOfH (tupleKind (bH P w)) a xs:=by
 obtain ⟨z,y,xs,r,o,es,ep,h1,h2,h3,h4,h5⟩:=(show cv P w H h a (.dT kvs) from HI ok e)
 refine ⟨z,y,xs,r,o,es,ep,h1,h2,h3,h4,fun x hx=>?_,h5⟩
 have all:∀ {l:List (List Key×V)} {m:List (List Key×Addr×Value)},KT H l m->∀ x∈m,(tupleKind (bH P w)).is h x.1 x.2.1:=by
  intro l m q
  induction q with
  | nil=>intro x hx;exact nomatch hx
  | @cons p q ps qs hq t ih=>
   intro x hx
   rcases Pn.mp hx with e | hx
   ·subst e
    exact o4 ok (by rw [<- hq.1];exact hq.2.1)
   ·exact ih x hx
 exact all r x hx
theorem Ln {kvs:List (List Key×V)} (ok:km P w H h) (e:H a=some (.dT kvs)):kvs.length<=sizeLine/\(a == sysModules)=false /\
  ∃ xs,KT H kvs xs/\h.DictOfH (tupleKind (bH P w)) a xs:=uU ok (.inl e)
end
def ug (H:Hp) (a:Addr) (y:V) (r:Option V):Prop:=
 (∃ kvs k,Rd H a (.dK kvs)/\y=kV k/\r=oZ kvs k)\/∃ kvs k b,Rd H a (.dT kvs)/\y=.ref b/\H b=some (.tup (k.map kV))/\r=oZ kvs k
def F6 (H:Hp) (a:Addr) (y v:V) (H':Hp):Prop:=
 (∃ kvs k,H a=some (.dK kvs)/\y=kV k/\kvs.length < sizeLine/\H'=upd H a (.dK (putK kvs k v))) \/
 ∃ kvs k b,H a=some (.dT kvs)/\y=.ref b/\H b=some (.tup (k.map kV))/\kvs.length < sizeLine/\H'=upd H a (.dT (putK kvs k v))
theorem ug.k {H:Hp} {a:Addr} {kvs:List (Key×V)} {k:Key} (e:H a=some (.dK kvs)):ug H a (kV k) (oZ kvs k):=.inl ⟨kvs,k,.inl e,rfl,rfl⟩
theorem F6.k {H:Hp} {a:Addr} {kvs:List (Key×V)} {k:Key} {v:V} (e:H a=some (.dK kvs)) (hl:kvs.length < sizeLine):F6 H a (kV k) v (upd H a (.dK (putK kvs k v))):=.inl ⟨kvs,k,e,rfl,hl,rfl⟩
section
variable {X:Cx} {pins:List (Addr×Obj)} {σ:St} {H:Hp} {s:Shared} {a:Addr} {y v:V} {u r:Value} {o:Option V} {A:Around} {E:Value->Shared->Prop}
theorem Inv.big (I:Inv X pins σ H s):sysModules < s.heap.objs.size:=by
 have h:mainGlobals < s.heap.objs.size:=(I.mod.glob.keeps I.bk).lt
 exact Nat.lt_trans (by decide) h
theorem BX {Q:Value->Shared->Prop} (hu:A.units+1 < cLine) (I:Inv X pins σ H s) (g:ug H a y (some v)) (ry:RelV y u) (h:∀ w' s',Inv X pins σ H s'->RelV v w'->Q w' s') :
  wpAny (model X.prog X.w) A (getItem (.ref a) u) Q E s:=by
 rcases g with ⟨kvs,k,e,ey,l⟩ | ⟨kvs,k,b,e,ey,eb,l⟩
 ·subst ey
  obtain ⟨z,hd,vs,rel,dd⟩:=uT I.hok e
  obtain ⟨w',hw,rw'⟩:=oV.some_of (v:=v) (o:=valueAt vs k) (by rw [l];exact rel.val k)
  exact wpAny_getItem_of (pW ry) dd.mapOf hw (h w' _ (I.tok _) rw')
 ·subst ey
  cases (show u=Value.ref b from ry)
  obtain ⟨z,hd,xs,rel,dd⟩:=uU I.hok e
  obtain ⟨w',hw,rw'⟩:=oV.some_of (v:=v) (o:=(atKey xs k).map (·.2)) (by rw [l];exact rel.val k)
  obtain ⟨p,hp,hp2⟩:=Qh.mp hw
  refine wpAny_getItem_heap (RU hu) (o4 I.hok eb) dd hp ?_
  rw [hp2]
  exact h w' _ (I.tok _) rw'
theorem Nq {Q:Value->Shared->Prop} (hu:A.units+1 < cLine) (I:Inv X pins σ H s) (g:ug H a y o) (ry:RelV y u) (h:∀ s',Inv X pins σ H s'->Q (.bool o.isSome) s') :
  wpAny (model X.prog X.w) A (compareOp .In u (.ref a)) Q E s:=by
 rcases g with ⟨kvs,k,e,ey,l⟩ | ⟨kvs,k,b,e,ey,eb,l⟩
 ·subst ey
  obtain ⟨z,hd,vs,rel,dd⟩:=uT I.hok e
  refine wpAny_in_of (pW ry) hd dd.mapOf ?_
  rw [<- (rel.val k).jq,<- l]
  exact h _ (I.tok _)
 ·subst ey
  cases (show u=Value.ref b from ry)
  obtain ⟨z,hd,xs,rel,dd⟩:=uU I.hok e
  refine wpAny_in_heap (RU hu) (o4 I.hok eb) hd dd ?_
  have q:=(rel.val k).jq
  rw [TB] at q
  rw [<- q,<- l]
  exact h _ (I.tok _)
theorem F7 {Q:Value->Shared->Prop} (hu:A.units+1 < cLine) (I:Inv X pins σ H s) (g:ug H a y o) (ry:RelV y u) (h:∀ s',Inv X pins σ H s'->Q (.bool (!o.isSome)) s') :
  wpAny (model X.prog X.w) A (compareOp .NotIn u (.ref a)) Q E s:=by
 rcases g with ⟨kvs,k,e,ey,l⟩ | ⟨kvs,k,b,e,ey,eb,l⟩
 ·subst ey
  obtain ⟨z,hd,vs,rel,dd⟩:=uT I.hok e
  refine wpAny_notIn_of (pW ry) hd dd.mapOf ?_
  rw [<- (rel.val k).jq,<- l]
  exact h _ (I.tok _)
 ·subst ey
  cases (show u=Value.ref b from ry)
  obtain ⟨z,hd,xs,rel,dd⟩:=uU I.hok e
  refine wpAny_notIn_heap (RU hu) (o4 I.hok eb) hd dd ?_
  have q:=(rel.val k).jq
  rw [TB] at q
  rw [<- q,<- l]
  exact h _ (I.tok _)
theorem qN {h':Heap} {t':Nat} {ob:HO} (I:Inv X pins σ H s) (mu:KA (H a)) (hs:Heap.SameBut a s.heap h') (he:∃ q,h'.get? a=some q) (new:cv X.prog X.w (upd H a ob) h' a ob) :
  Inv X pins σ (upd H a ob) {s with heap:=h',toks:=t'}:=
 I.write (x:=a) (e:=a) mu (.inl rfl) (fun b q hb z=>(hs.2 b hb).trans z) he new
theorem v7 {P:Program} {w:World} {H':Hp} {h':Heap} {kvs:List (Key×V)} {vs:List (Key×Value)} (z:kvs.length<=sizeLine) (hd:(a == sysModules)=false) (rel:KV kvs vs) (dd:h'.DictOf (bH P w) a vs) :
  cv P w H' h' a (.dK kvs):=⟨z,hd,vs,rel,dd⟩
theorem BY {H':Hp} {Q:Unit->Shared->Prop} (hu:A.units+1 < cLine) (I:Inv X pins σ H s) (g:F6 H a y v H') (ry:RelV y u) (rv:RelV v r) (h:∀ s',Inv X pins σ H' s'->Q () s') :
  wpAny (model X.prog X.w) A (setItem (.ref a) u r) Q E s:=by
 rcases g with ⟨kvs,k,e,ey,l,eH⟩ | ⟨kvs,k,b,e,ey,eb,l,eH⟩
 ·subst ey eH
  obtain ⟨z,hd,vs,rel,dd⟩:=HJ I.hok e
  have hz:vs.length<=sizeLine:=by rw [<- rel.length];exact z
  have hl:(putK kvs k v).length<=sizeLine:=by have:=iz kvs k v;omega
  refine wpAny_setItem_pairs (hsz:=hz) (pW ry) dd fun h' dd' hs=>h _ ?_
  have he:∃ q,h'.get? a=some q:=let ⟨q,_,_,hq,_⟩:=dd';⟨q,hq⟩
  exact qN I (by rw [e];exact True.intro) hs he (v7 hl hd (rel.put k rv) dd')
 ·subst ey eH
  cases (show u=Value.ref b from ry)
  obtain ⟨z,hd,xs,rel,dd⟩:=Ln I.hok e
  have hz:xs.length<=sizeLine:=by rw [<- P4 rel];exact z
  have hl:(putK kvs k v).length<=sizeLine:=by have:=iz kvs k v;omega
  refine wpAny_setItem_heap (hsz:=hz) (RU hu) (o4 I.hok eb) dd fun h' dd' hs=>h _ ?_
  obtain ⟨q,es,ep,hq,h2,h3,h4,_,h5⟩:=dd'
  refine qN I (by rw [e];exact True.intro) hs ⟨q,hq⟩ ⟨hl,hd,_,(rel.put k eb rv).keeps fun c ys ec=>?_,q,es,ep,hq,h2,h3,h4,h5⟩
  rw [aD (KW ec e (fun z=>nomatch z))]
  exact ec
end
def Ji (i:Expr):Prop:=∀ ov iv,subscripted i false ov iv=operate [ov,iv] (getItem ov iv)
theorem F8 {prog:Program} {w:World} {A:Around} {E:Value->Shared->Prop} {s:Shared} {env:Env} {value slice:Expr} {pos:Pos} {T id:String} {Q:Value->Shared->Prop}
  (hl:typeLookup (.type T) "__getitem__" = pure (some (.builtin id))) (hs:Ji slice)
  (h:wpAny (model prog w) A (eval value env) (fun o s₁=>wpAny (model prog w) A (eval slice env) (fun i s₂=>s₂.TypeIs o T/\wpAny (model prog w) A (getItem o i) Q E s₂) E s₁) E s) :
  wpAny (model prog w) A (eval (.Subscript value slice pos) env) Q E s:=by
 refine Subscript_ (Q9 h (fun o s₁ h₁=>Q9 h₁ (fun i s₂ h₂=>?_) fun _ _ x=>x) fun _ _ x=>x)
 obtain ⟨hT,h₂⟩:=h₂
 unfold subscriptTail
 refine Ph ?_
 rw [getitemInPython_of_ne hT.not_modules]
 refine Ph (RX hT hl ?_)
 have fin:wpAny (model prog w) A (subscripted slice false o i) (fun r s₃=>wpAny (model prog w) A (letTemporaryGo value o r >>= fun _=>pure r) Q E s₃) E s₂:=by
  rw [hs o i]
  exact wpAny_operating (Q9 h₂ (fun r s₃ h₃=>Ph (wpAny_letTemporaryGo (Pk h₃))) fun _ _ x=>x)
 first
  | exact Pk (Ph fin)
  | exact Ph (Pk (Ph fin))
  | exact Ph fin
theorem xu {P:Program} {w:World} {H:Hp} (h:Heap) (hb:sysModules < h.objs.size):cv P w H (h.push {cls:=.type "dict",data:=.dict #[]}) h.objs.size (.dK []):=
 ⟨QS _,QO.mpr (Sw (PM hb)),[],.nil,Heap.DictOf.new h⟩
def Jj:TE:=fun _ H Q=>∀ p,H p=none->Q (.ref p) (upd H p (.dK []))
section
variable {X:Cx} {pos:Pos}
theorem C9:PE X (.Dict [] [] pos) Jj:=fun pins s σ H Q I h=>
 wpAny_Dict_empty ⟨.ref s.heap.objs.size,_,I.laid (a:=s.heap.objs.size) (o:=.dK []) (t':=s.toks) (fun _ _ q=>Pj _ q) (Pm _) (xu s.heap I.big),rfl,h _ (I.hok.fresh (Pm _))⟩
end
def zf:List (TE×TE)->St->Hp->(List (V×V)->Hp->Prop)->Prop
 | [],_,H,Q=>Q [] H
 | (tk,tv)::r,σ,H,Q=>tk σ H fun x H1=>tv σ H1 fun y H2=>zf r σ H2 fun ps H3=>Q ((x,y)::ps) H3
abbrev VV:List (V×V)->List (Value×Value)->Prop:=Paired fun p q=>RelV p.1 q.1/\RelV p.2 q.2
def Mf (X:Cx) (pos:Pos) (keys:List (Option Expr)) (values:List Expr) (uh:List (TE×TE)):Prop:=
 ∀ (pins:List (Addr×Obj)) (s:Shared) (σ:St) (H:Hp) (Q:List (V×V)->Hp->Prop),Inv X pins σ H s->zf uh σ H Q ->
  wpAny (model X.prog X.w) X.A (evalPairs (pairTrees keys values X.env pos)) (fun vs s'=>∃ ps H',Inv X pins σ H' s'/\VV ps vs/\Q ps H') X.xe s
theorem F9 {X:Cx} {pos:Pos}:Mf X pos [] [] []:=fun pins s σ H Q I h=>pairTrees_nil_walk ⟨[],H,I,.nil,h⟩
theorem Dc {X:Cx} {pos:Pos} {k v:Expr} {ks:List (Option Expr)} {vs:List Expr} {tk tv:TE} {uh:List (TE×TE)} (hk:PE X k tk) (hv:PE X v tv) (hr:Mf X pos ks vs uh) :
  Mf X pos (some k::ks) (v::vs) ((tk,tv)::uh):=fun pins s σ H Q I h=>
 pairTrees_cons_walk (bV (hk pins s σ H _ I h) fun u s1 ⟨x,H1,I1,rx,q1⟩=>bV (hv pins s1 σ H1 _ I1 q1) fun w2 s2 ⟨y,H2,I2,ry,q2⟩=>
  bV (hr pins s2 σ H2 _ I2 q2) fun ws s3 ⟨ps,H3,I3,rel,q3⟩=>⟨(x,y)::ps,H3,I3,.cons ⟨rx,ry⟩ rel,q3⟩)
def i7 (kvs more:List (Key×V)):List (Key×V):=more.foldl (fun acc kv=>putK acc kv.1 kv.2) kvs
theorem KV.merge:∀ {more:List (Key×V)} {rs:List (Key×Value)} {kvs:List (Key×V)} {vs:List (Key×Value)},KV more rs->KV kvs vs->KV (i7 kvs more) (merged vs rs):=by
 intro more rs kvs vs r
 unfold KV at r
 induction r generalizing kvs vs with
 | nil=>intro q;exact q
 | @cons p q ps qs h t ih=>
  intro r0
  have e:KV (putK kvs p.1 p.2) (stored vs q.1 q.2):=by
   have:=r0.put p.1 h.2
   rw [<- h.1];exact this
  exact ih e
theorem i8:∀ (more kvs:List (Key×V)),(i7 kvs more).length<=kvs.length+more.length
 | [],kvs=>by show kvs.length<=kvs.length+0;omega
 | p::r,kvs=>by
  have h1:=i8 r (putK kvs p.1 p.2)
  have h2:=iz kvs p.1 p.2
  show (i7 (putK kvs p.1 p.2) r).length<=_
  rw [PQ];omega
theorem mT {P:Program} {w:World}:∀ {kvs:List (Key×V)} {ws:List (Value×Value)},VV (kvs.map fun kv=>(kV kv.1,kv.2)) ws->∃ rs,Carries (bH P w) ws rs/\KV kvs rs
 | [],_,r=>by rw [Ri] at r;cases r;exact ⟨[],True.intro,.nil⟩
 | p::kvs,_,r=>by
  rw [P9] at r
  cases r with
  | @cons a b as bs h t=>
   obtain ⟨rs,c,q⟩:=mT (P:=P) (w:=w) t
   obtain ⟨b1,b2⟩:=b
   exact ⟨(p.1,b2)::rs,⟨pW h.1,rfl,c⟩,.cons ⟨rfl,h.2⟩ q⟩
def Lo (uh:List (TE×TE)):TE:=fun σ H Q=>∀ p,H p=none->zf uh σ (upd H p (.dK [])) fun ps H2=>H2 p=some (.dK [])/\∃ kvs:List (Key×V),ps=kvs.map (fun kv=>(kV kv.1,kv.2))/\kvs.length<=15/\Q (.ref p) (upd H2 p (.dK (i7 [] kvs)))
theorem Ga {X:Cx} {pos:Pos} {keys:List (Option Expr)} {values:List Expr} {uh:List (TE×TE)} (h:Mf X pos keys values uh) (hall:keys.all (·.isSome)=true) (hl:keys.length=values.length) (h0:keys≠[])
  (h15:keys.length<=15):PE X (.Dict keys values pos) (Lo uh):=by
 intro pins s σ H Q I q
 have hn:=I.hok.fresh (Pm s.heap.objs.size)
 have I1:=I.laid (a:=s.heap.objs.size) (o:=.dK []) (h':=s.heap.push {cls:=.type "dict",data:=.dict #[]}) (t':=s.toks) (fun _ _ q=>Pj _ q) (Pm _) (xu s.heap I.big)
 refine wpAny_Dict_walk (knd:=bH X.prog X.w) hall hl h0 h15 (bV (h pins _ σ _ _ I1 (q _ hn)) fun ws s2 ⟨ps,H2,I2,rel,e,kvs,ep,lk,q2⟩=>?_)
 subst ep
 obtain ⟨rs,c,rk⟩:=mT (P:=X.prog) (w:=X.w) rel
 obtain ⟨z,hd,vs0,r0,dd⟩:=HJ I2.hok e
 cases r0
 refine ⟨rs,c,dd,fun h' dd' hs=>⟨.ref s.heap.objs.size,_,?_,rfl,q2⟩⟩
 have hz:(i7 [] kvs).length<=sizeLine:=by
  have h1:=i8 kvs []
  rw [Ql] at h1
  rw [QH];omega
 have he:∃ q,h'.get? s.heap.objs.size=some q:=let ⟨q,_,_,hq,_⟩:=dd';⟨q,hq⟩
 exact qN I2 (by rw [e];exact True.intro) hs he (v7 hz hd (rk.merge .nil) dd')
structure M2 (X:Cx) (o:Expr) (m:Str) (apos:Pos) (e f:Expr) (cpos:Pos):Prop where
 base:attributeBase o m X.env (eval o X.env)=eval o X.env
 few:((backTo cpos (starEach [e,f] X.env)).all (fun x=>!x.1) && (backToKw cpos (keywordEach [] X.env)).all (fun x=>x.1.isSome)
  && decide (([e,f]:List Expr).length+([]:List Keyword).length+(if ([]:List Keyword).isEmpty then 0 else 1) < 30))=true
 line:(apos.endLine == cpos.line)=true
 trees:backTo cpos (starEach [e,f] X.env)=[(false,eval e X.env),(false,eval f X.env)]
def Ou (H:Hp) (a:Addr):Prop:=(∃ kvs,Rd H a (.dK kvs))\/∃ kvs,Rd H a (.dT kvs)
theorem Jk {X:Cx} {pins:List (Addr×Obj)} {σ:St} {H:Hp} {s:Shared} {a:Addr} (I:Inv X pins σ H s) (d:Ou H a) :
  s.TypeIs (.ref a) "dict" /\ (∀ b,Value.ref a=.ref b->∃ ob,s.heap.get? b=some ob/\ob.dict=none)/\(a == sysModules)=false:=by
 rcases d with ⟨kvs,e⟩ | ⟨kvs,e⟩
 ·obtain ⟨_,hd,vs,_,dd⟩:=uT I.hok e
  refine ⟨dd.typeIs,fun b q=>?_,hd⟩
  cases q
  obtain ⟨ob,_,_,h1,h2,_⟩:=dd
  exact ⟨ob,h1,h2.2.1⟩
 ·obtain ⟨_,hd,xs,_,dd⟩:=uU I.hok e
  refine ⟨dd.typeIs,fun b q=>?_,hd⟩
  cases q
  obtain ⟨ob,_,_,h1,h2,_⟩:=dd
  exact ⟨ob,h1,h2.2.1⟩
section
variable {X:Cx} {pins:List (Addr×Obj)} {σ:St} {H:Hp} {s:Shared} {a:Addr} {y d:V} {u r:Value} {o:Option V} {A:Around} {E:Value->Shared->Prop}
theorem Jl {Q:Value->Shared->Prop} (hu:A.units+1 < cLine) (I:Inv X pins σ H s) (g:ug H a y o) (ry:RelV y u) (rd:RelV d r) (h:∀ w' s',Inv X pins σ H s'->RelV (o.getD d) w'->Q w' s') :
  wpAny (model X.prog X.w) A (call (.builtin "dict.get") [.ref a,u,r]) Q E s:=by
 rcases g with ⟨kvs,k,e,ey,l⟩ | ⟨kvs,k,b,e,ey,eb,l⟩
 ·subst ey
  obtain ⟨z,hd,vs,rel,dd⟩:=uT I.hok e
  refine call_meetsIn S3 dd.typeIs PySem.F.entry_dict_get (PySem.F.args_dict_get_3 _ _ _) (meets_dict_get_default (bH X.prog X.w) a (pW ry) hd r) ⟨_,dd.mapOf,h _ _ (I.tok _) ?_⟩
  rw [l]
  exact (rel.val k).getD rd
 ·subst ey
  cases (show u=Value.ref b from ry)
  obtain ⟨z,hd,xs,rel,dd⟩:=uU I.hok e
  refine call_meetsIn S3 dd.typeIs PySem.F.entry_dict_get (PySem.F.args_dict_get_3 _ _ _) (meetsH_dict_get_default (tupleKind (bH X.prog X.w)) a b hd r) ⟨RU hu,k,xs,o4 I.hok eb,dd,h _ _ (I.tok _) ?_⟩
  rw [l]
  exact (rel.val k).getD rd
end
def Jm (td ty tx:TE):TE:=fun σ H Q=>td σ H fun x H1=>∃ a,x=.ref a/\Ou H1 a/\ty σ H1 fun y H2=>tx σ H2 fun z H3=>∃ o,ug H3 a y o/\Q (o.getD z) H3
section
variable {X:Cx} {o e f:Expr} {apos cpos:Pos} {td ty tx:TE}
theorem Dd (hu:X.A.units+1 < cLine) (ho:PE X o td) (he:PE X e ty) (hf:PE X f tx) (m:M2 X o "get" apos e f cpos):PE X (.Call (.Attribute o "get" apos) [e,f] [] cpos) (Jm td ty tx):=by
 intro pins s σ H Q I h
 refine wpAny_Call_method m.base m.few m.line PySem.F.plainAttrs_dict S3 PySem.F.type_dict_get (bV (ho pins s σ H _ I h) fun u s1 ⟨x,H1,I1,rx,a,ex,d,q1⟩=>?_)
 subst ex
 obtain rfl:u=Value.ref a:=rx
 obtain ⟨t1,t2,_⟩:=Jk I1 d
 refine ⟨t1,t2,?_⟩
 rw [m.trees]
 refine Calls.callWith_builtin rfl (Calls.evalArgs_plain (RT (bV (he pins s1 σ H1 _ I1 q1) fun iv s2 ⟨y,H2,I2,ry,q2⟩=>
  RT (bV (hf pins s2 σ H2 _ I2 q2) fun fv s3 ⟨z,H3,I3,rz,ov,g,q3⟩=>SM ?_))))
 exact Jl hu I3 g ry rz fun w' s4 I4 rw'=>⟨_,H3,I4,rw',q3⟩
end
theorem rH {P:Program} {w:World} {K:PySem.W.Frag} {tg:Expr} {it:Addr} {n:Nat} {Pv:Nat->Value->Prop} {St:Nat->Heap->Prop} {f:Nat->V} (W:∀ A:Around,A.handled=none->Walks P w A it [it] [it] n Pv St)
  (ob:∀ i h,St i h->∃ (o:Obj) (m:String) (vs:Array Value),h.get? it=some o/\o.cls=.type m/\o.data=.fields vs/\["enumerate", "zip", "dict_itemiterator", "dict_reverseitemiterator", "odict_iterator", "itertools.zip_longest", "itertools.pairwise"].contains m=false)
  (rel:∀ i v,i < n->Pv i v->RelV (f i) v) (sf:∀ (A:Around) (i:Nat) (s:Shared) (Q:Value->Shared->Prop) (E:Value->Shared->Prop),St i s.heap->Q (.ref it) s->wpAny (model P w) A (pyIter (.ref it)) Q E s):Turn P w K tg ⟨fun i _=>i < n,fun i H x H'=>H'=H/\x=f i,fun i _=>i=n⟩ [it] it St where
 mem:=by simp
 obj:=fun i h st b hb=>by
  have e:b=it:=by simpa using hb
  subst e
  obtain ⟨o,m,vs,e,_,d,_⟩:=ob i h st
  exact ⟨o,e,fun v z=>by rw [d] at z;cases z⟩
 keep:=fun i h h' st k=>(W {handled:=none,depth:=0,frames:=none,guards:=none,units:=0} rfl).frame i h h' st fun b hb o e=>k b hb o e
 item:=by
  intro X hP hw hK hc i pins s σ H E I hf st hg
  subst hP hw hK
  obtain ⟨f0,f1,f2,f3,f4,f5⟩:=hf it (by simp)
  refine (W X.A (I.ok.hd hc)).item i s _ _ hg st fun v h' tk hv st' kk=>?_
  have I1:Inv X pins σ H {s with heap:=h',toks:=tk}:=I.turned (fun b o hb e=>kk b o (by simpa using hb) e) f0 f1 f3 f4 f5
  obtain ⟨o,m,vs,e,c,d,nm⟩:=ob _ _ st'
  exact ⟨v,rfl,Al (s:={s with heap:=h',toks:=tk}) e c d nm ⟨f i,H,I1,rel i v hg hv,⟨rfl,rfl⟩,st',fun b hb=>(hf b hb).1⟩⟩
 done:=by
  intro X hP hw hK hc i pins s σ H E I hf st hg
  subst hP hw hK
  obtain ⟨f0,f1,f2,f3,f4,f5⟩:=hf it (by simp)
  have hg':i=n:=hg
  subst hg'
  exact (W X.A (I.ok.hd hc)).done s _ _ st fun h' tk kk=>⟨rfl,I.turned (fun b o hb e=>kk b o (by simpa using hb) e) f0 f1 f3 f4 f5⟩
 self:=sf
def sgn (x:Str) (i:Nat):V:=.str ⟨#[x.cps.getD i 0]⟩
def Nt (x:Str):It:=⟨fun i _=>i < x.cps.size,fun i H v H'=>H'=H/\v=sgn x i,fun i _=>i=x.cps.size⟩
theorem v8 {x:Str} (i:Nat) (v:Value) (hi:i < x.cps.size) (h:SignAt x i v):RelV (sgn x i) v:=by
 obtain ⟨c,u,e,rfl⟩:=h
 refine ⟨u,?_⟩
 have:x.cps.getD i 0=c:=by rw [Qb,e];rfl
 rw [this]
section
variable {X:Cx} {tg:Expr}
def Nu (tl:TE):TI:=fun σ H R=>tl σ H fun v H1=>∃ x,v=.str x/\R (Nt x) H1
theorem Jn {l:Expr} {tl:TE} (hl:PE X l tl):PI X tg l (Nu tl):=by
 intro pins s σ H R I h
 refine bV (hl pins s σ H _ I h) fun v s1 ⟨x,H1,I1,r1,q1⟩=>?_
 obtain ⟨x,e,q⟩:=q1
 subst e
 obtain ⟨t,rfl⟩:=r1
 have fp:∀ b∈[s1.heap.objs.size],kj X pins H1 b:=fun b hb=>by
  have e:b=s1.heap.objs.size:=by simpa using hb
  subst e
  exact I1.BJ (Pm _) (I1.hok.fresh (Pm _))
 cases ha:x.cps.all (· < 128) with
 | false=>
  refine wpAny_pyIter_wide ha ?_
  refine ⟨s1.heap.objs.size,[s1.heap.objs.size],_,Nt x,H1,rfl,I1.kept (t':=s1.toks) fun b o e=>Pj _ e,
   rH (fun A hA=>Walks.strWide hA _ x t) (fun i h ⟨o,e,c,d⟩=>⟨o,_,_,e,c,d,by decide⟩) v8 fun A i s Q E st h=>wpAny_pyIter_striter_wide st h,⟨_,Po _ rfl,rfl,rfl⟩,fp,q⟩
 | true=>
  refine wpAny_pyIter_ascii ha ?_
  refine ⟨s1.heap.objs.size,[s1.heap.objs.size],_,Nt x,H1,rfl,I1.kept (t':=s1.toks) fun b o e=>Pj _ e,
   rH (fun A hA=>Walks.strAscii hA _ x t) (fun i h ⟨o,e,c,d⟩=>⟨o,_,_,e,c,d,by decide⟩) v8 fun A i s Q E st h=>wpAny_pyIter_striter_ascii st h,⟨_,Po _ rfl,rfl,rfl⟩,fp,q⟩
end
section
variable {X:Cx}
theorem all_range (bs:List Bool):((List.range bs.length).all fun i=>(bs[i]?).getD true)=bs.all id:=by
 rw [QB]
 simp only [PH,Qo,id]
 constructor
 ·intro h b hb
  obtain ⟨i,hi,rfl⟩:=Ry.mp hb
  simpa [hi] using h i hi
 ·intro h i hi
  simp only [hi,Pz,Tb]
  exact h _ (TK hi)
theorem De (hc:X.calm=true):df X (.builtin "all") (fun xs H Q=>∃ (l:Addr) (bs:List Bool),xs=[.ref l]/\iw X.K H l (bs.map V.bl)/\Q (.bl (bs.all id)) H):=by
 intro pins s σ H vs us Q I r h
 obtain ⟨l,bs,rfl,hq,q⟩:=h
 cases r with
 | cons r rr=>
  cases rr
  cases r
  obtain ⟨its,rv,p,_⟩:=I.list hq
  have pl:=p.isList
  have hlt:l < s.heap.objs.size:=by obtain ⟨_,e,_⟩:=pl;exact Pp e
  refine call_all_walk (wpAny_pyIter_list pl ?_)
  refine ⟨s.heap.objs.size,[s.heap.objs.size,l],[s.heap.objs.size],its.toArray.size,_,_,fun i=>(bs[i]?).getD true,rfl,Walks.list (A:=X.A.in1) (I.ok.hd hc) _ l (PM hlt) its.toArray,⟨⟨_,Po _ rfl,rfl,rfl⟩,pl.push _⟩,fun i v s' Q' E' hP hQ=>?_,fun h' tk hk=>?_⟩
  ·have hP':its[i]?=some v:=by simpa using hP
   have hi:i < (bs.map V.bl).length:=by rw [rv.length];exact (PF.mp hP').1
   obtain ⟨u,hu,ru⟩:=rv.get (i:=i) (x:=(bs.map V.bl)[i]) (by simp [hi])
   rw [hP'] at hu
   cases hu
   rw [PX] at hi
   simp only [List.getElem_map] at ru
   obtain rfl:v=Value.bool bs[i]:=ru
   have hQ':=hQ
   simp only [hi,Pz,Tb] at hQ'
   exact QP hQ'
  ·have e:((List.range its.toArray.size).all fun i=>(bs[i]?).getD true)=bs.all id:=by
    rw [Pu,<- rv.length,PX];exact all_range bs
   rw [e]
   exact ⟨.bl _,H,I.kept fun b o e=>hk b o (fun hm=>by rw [PV.mp hm] at e;exact PZ _ (Pp e)) (Pj _ e),rfl,q⟩
theorem BZ:ik X (compareOp .LtE) (fun x y H Q=>∃ i j,x=.str i/\y=.str j/\Q (.bl (!decide (j.cps.toList < i.cps.toList))) H):=by
 intro pins s σ H x y v u Q I rx ry h
 obtain ⟨i,j,rfl,rfl,q⟩:=h
 obtain ⟨t,rfl⟩:=rx
 obtain ⟨t',rfl⟩:=ry
 exact P.le_str ⟨.bl _,H,I,rfl,q⟩
end
def fG:V->Option PyData
 | .non=>some .none
 | .bl b=>some (.bool b)
 | .int i=>some (.int i)
 | .str x=>some (.str x)
 | _=>none
def ui:Key->PyData
 | .inl i=>.int i
 | .inr x=>.str x
def aP:List (Key×V)->Option (List (PyData×PyData))
 | []=>some []
 | (k,v)::r=>match fG v,aP r with
  | some d,some ds=>some ((ui k,d)::ds)
  | _,_=>none
mutual
def Rep (H:Hp):PyData->V->Prop
 | .none,v=>v=.non
 | .bool b,v=>v=.bl b
 | .int i,v=>v=.int i
 | .str x,v=>v=.str x
 | .tuple ds,v=>∃ a vs,v=.ref a/\H a=some (.tup vs)/\aZ H ds vs
 | .list ds,v=>∃ a vs,v=.ref a/\H a=some (.lst vs)/\aZ H ds vs
 | .dict kvs,v=>∃ a ks,v=.ref a/\H a=some (.dK ks)/\aP ks=some kvs
def aZ (H:Hp):List PyData->List V->Prop
 | [],vs=>vs=[]
 | d::ds,vs=>∃ w ws,vs=w::ws/\Rep H d w/\aZ H ds ws
end
mutual
theorem Rep.same {H H':Hp} (s:bD H H'):∀ {d:PyData} {v:V},Rep H d v->Rep H' d v
 | .none,_,h=>h
 | .bool _,_,h=>h
 | .int _,_,h=>h
 | .str _,_,h=>h
 | .tuple ds,_,⟨a,vs,e,h,r⟩=>⟨a,vs,e,s _ _ h,aZ.same s r⟩
 | .list ds,_,⟨a,vs,e,h,r⟩=>⟨a,vs,e,s _ _ h,aZ.same s r⟩
 | .dict _,_,⟨a,ks,e,h,r⟩=>⟨a,ks,e,s _ _ h,r⟩
theorem aZ.same {H H':Hp} (s:bD H H'):∀ {ds:List PyData} {vs:List V},aZ H ds vs->aZ H' ds vs
 | [],_,h=>h
 | _::_,_,⟨w,ws,e,h,r⟩=>⟨w,ws,e,Rep.same s h,aZ.same s r⟩
end
theorem aZ.length {H:Hp}:∀ {ds:List PyData} {vs:List V},aZ H ds vs->vs.length=ds.length
 | [],_,h=>by cases h;rfl
 | _::ds,_,⟨w,ws,e,_,r⟩=>by rw [e,PQ,PQ,aZ.length r]
theorem aZ.get {H:Hp}:∀ {ds:List PyData} {vs:List V} {i:Nat} {v:V},aZ H ds vs->vs[i]?=some v->∃ d,ds[i]?=some d/\Rep H d v
 | [],_,i,v,h,e=>by cases h;simp at e
 | d::ds,_,0,v,⟨w,ws,e0,h,r⟩,e=>by subst e0;simp at e;subst e;exact ⟨d,rfl,h⟩
 | d::ds,_,i+1,v,⟨w,ws,e0,h,r⟩,e=>by
  subst e0
  obtain ⟨u,e1,e2⟩:=aZ.get (i:=i) r (by simpa using e)
  exact ⟨u,by simpa using e1,e2⟩
theorem aZ.get' {H:Hp}:∀ {ds:List PyData} {vs:List V} {i:Nat} {d:PyData},aZ H ds vs->ds[i]?=some d->∃ v,vs[i]?=some v/\Rep H d v
 | [],_,i,v,h,e=>by simp at e
 | d::ds,_,0,v,⟨w,ws,e0,h,r⟩,e=>by subst e0;simp at e;subst e;exact ⟨w,rfl,h⟩
 | d::ds,_,i+1,v,⟨w,ws,e0,h,r⟩,e=>by
  subst e0
  obtain ⟨u,e1,e2⟩:=aZ.get' (i:=i) r (by simpa using e)
  exact ⟨u,by simpa using e1,e2⟩
theorem aZ.append {H:Hp}:∀ {ds es:List PyData} {vs us:List V},aZ H ds vs->aZ H es us->aZ H (ds++es) (vs++us)
 | [],_,_,_,h,r=>by cases h;exact r
 | d::ds,_,_,_,⟨w,ws,e,h,q⟩,r=>by subst e;exact ⟨w,_,rfl,h,aZ.append q r⟩
theorem aZ.nil {H:Hp}:aZ H [] []:=rfl
theorem aZ.cons {H:Hp} {d:PyData} {ds:List PyData} {v:V} {vs:List V} (h:Rep H d v) (r:aZ H ds vs):aZ H (d::ds) (v::vs):=⟨v,vs,rfl,h,r⟩
theorem aZ.one {H:Hp} {d:PyData} {v:V} (h:Rep H d v):aZ H [d] [v]:=.cons h .nil
theorem aZ.take {H:Hp}:∀ {ds:List PyData} {vs:List V} (n:Nat),aZ H ds vs->aZ H (ds.take n) (vs.take n)
 | [],_,n,h=>by cases h;simp [aZ]
 | d::ds,_,0,⟨w,ws,e,h,r⟩=>by subst e;exact rfl
 | d::ds,_,n+1,⟨w,ws,e,h,r⟩=>by subst e;exact .cons h (aZ.take n r)
theorem aZ.drop {H:Hp}:∀ {ds:List PyData} {vs:List V} (n:Nat),aZ H ds vs->aZ H (ds.drop n) (vs.drop n)
 | [],_,n,h=>by cases h;simp [aZ]
 | d::ds,_,0,h=>h
 | d::ds,_,n+1,⟨w,ws,e,h,r⟩=>by subst e;exact aZ.drop n r
theorem zg {h:Heap} {v:V} {u:Value} {d:PyData} (e:fG v=some d) (r:RelV v u):Reads h u d []:=by
 cases v with
 | non=>cases e;cases r;exact .none
 | bl b=>cases e;cases r;exact .bool b
 | int i=>cases e;obtain ⟨t,rfl⟩:=r;exact .int i t
 | str x=>cases e;obtain ⟨t,rfl⟩:=r;exact .str x t
 | _=>cases e
theorem B0 {h:Heap} {k:Key} {u:Value} (e:rj k u=true):Reads h u (ui k) []:=by
 rcases cu e with ⟨i,t,rfl,rfl⟩ | ⟨x,t,rfl,rfl⟩
 ·exact .int i t
 ·exact .str x t
theorem kA {P:Program} {w:World} {h:Heap}:∀ {ks:List (Key×V)} {vs:List (Key×Value)} {es:List DictEntry} {kvs:List (PyData×PyData)},aP ks=some kvs->KV ks vs->Pairs (bH P w) es vs ->
  ReadsAll h (es.map (·.key)) (kvs.map (·.1)) []/\ReadsAll h (es.map (·.val)) (kvs.map (·.2)) []
 | [],_,es,kvs,e,r,p=>by
  cases e
  cases r
  cases es with
  | nil=>exact ⟨.nil,.nil⟩
  | cons _ _=>exact (by cases p)
 | (k,v)::ks,_,es,kvs,e,r,p=>by
  cases r with
  | cons r1 r2=>
   rename_i q vs'
   obtain ⟨k',u⟩:=q
   obtain ⟨e1,e2⟩:=r1
   simp only at e1 e2
   subst e1
   cases p with
   | cons hk hv hr=>
    unfold aP at e
    cases e1:fG v with
    | none=>rw [e1] at e;cases e
    | some d=>
     cases e3:aP ks with
     | none=>rw [e1,e3] at e;cases e
     | some ds=>
      rw [e1,e3] at e
      cases e
      obtain ⟨z1,z2⟩:=kA e3 r2 hr
      exact ⟨.cons (as:=[]) (bs:=[]) (B0 hk) z1,.cons (as:=[]) (bs:=[]) (by show Reads h (DictEntry.val _) d [];rw [hv];exact zg e1 e2) z2⟩
section
variable {X:Cx} {pins:List (Addr×Obj)} {σ:St} {H:Hp} {s:Shared}
mutual
theorem Rep.reads (I:Inv X pins σ H s):∀ {d:PyData} {v:V} {u:Value},Rep H d v->RelV v u->∃ as,Reads s.heap u d as
 | .none,_,u,h,r=>by cases h;cases r;exact ⟨_,.none⟩
 | .bool b,_,u,h,r=>by cases h;cases r;exact ⟨_,.bool b⟩
 | .int i,_,u,h,r=>by cases h;obtain ⟨t,rfl⟩:=r;exact ⟨_,.int i t⟩
 | .str x,_,u,h,r=>by cases h;obtain ⟨t,rfl⟩:=r;exact ⟨_,.str x t⟩
 | .tuple ds,_,u,⟨a,vs,e,h,q⟩,r=>by
  subst e
  cases r
  obtain ⟨_,its,rv,o,ho,hc,n,hd⟩:=I.hok a _ h
  obtain ⟨as,z⟩:=aZ.reads I q rv
  exact ⟨_,.tuple ho hc hd (by simpa using z)⟩
 | .list ds,_,u,⟨a,vs,e,h,q⟩,r=>by
  subst e
  cases r
  obtain ⟨_,its,n,rv,ho⟩:=I.hok a _ h
  obtain ⟨as,z⟩:=aZ.reads I q rv
  exact ⟨_,.list ho rfl rfl (by simpa using z)⟩
 | .dict kvs,_,u,⟨a,ks,e,h,q⟩,r=>by
  subst e
  cases r
  obtain ⟨_,_,vs,rk,o,es,ep,ho,hx,hd,_,hp,_⟩:=I.hok a _ h
  obtain ⟨z1,z2⟩:=kA (P:=X.prog) (w:=X.w) (h:=s.heap) q rk hp
  exact ⟨_,.dict ho hx.1 hd z1 z2⟩
theorem aZ.reads (I:Inv X pins σ H s):∀ {ds:List PyData} {vs:List V} {us:List Value},aZ H ds vs->Vals vs us->∃ as,ReadsAll s.heap us ds as
 | [],_,us,h,r=>by cases h;cases r;exact ⟨_,.nil⟩
 | d::ds,_,us,⟨w,ws,e,h,q⟩,r=>by
  subst e
  cases r with
  | cons r1 r2=>
   obtain ⟨as,z⟩:=Rep.reads I h r1
   obtain ⟨bs,y⟩:=aZ.reads I q r2
   exact ⟨_,.cons z y⟩
end
end
section
variable {X:Cx} {k:Nat}
def Jo:List V->Hp->VK->Prop:=fun xs H Q=>∃ kvs v,xs=[v]/\Rep H (.dict kvs) v/\(PyData.dict kvs).showable=true/\(PyData.dict kvs).depth<=20/\(PyData.dict kvs).shown.length<=sizeLine/\Q (.str (PyData.dict kvs).shown) H
theorem zh (hr:cg k X.A):df X (.builtin "repr") Jo:=by
 intro pins s σ H vs us Q I r h
 obtain ⟨kvs,v,rfl,h1,hs,hd,hz,q⟩:=h
 obtain ⟨a,ks,rfl,ha,e⟩:=h1
 cases r with
 | cons r rr=>
  cases rr
  cases r
  obtain ⟨_,ne,vs,rk,o,es,ep,ho,hx,hdd,_,hp,_⟩:=I.hok a _ ha
  obtain ⟨z1,z2⟩:=kA (P:=X.prog) (w:=X.w) (h:=s.heap) e rk hp
  refine Tt (Reads.dict ho hx.1 hdd z1 z2) hs (fun _ hm=>?_) hr.gd (by have:=hr.units;omega) (fun _ _ e=>e) (fun h' t tk hk=>⟨.str _,H,I.kept hk,⟨_,rfl⟩,q⟩) hz
  have:sysModules=a:=by simpa using hm
  rw [<- this] at ne
  simp at ne
def Lp:PyData->String
 | .none => "NoneType"
 | .bool _ => "bool"
 | .int _ => "int"
 | .str _ => "str"
 | .tuple _ => "tuple"
 | .list _ => "list"
 | .dict _ => "dict"
theorem Rep.ty {H:Hp} {K:PySem.W.Frag} {d:PyData} {v:V} (h:Rep H d v):nH K H v (.type (Lp d)):=by
 cases d with
 | none=>cases h;exact .non
 | bool b=>cases h;exact .bl b
 | int i=>cases h;exact .int i
 | str x=>cases h;exact .str x
 | tuple ds=>obtain ⟨a,vs,rfl,e,_⟩:=h;exact .tup e
 | list ds=>obtain ⟨a,vs,rfl,e,_⟩:=h;exact .lst e
 | dict ds=>obtain ⟨a,ks,rfl,e,_⟩:=h;exact .dK e
theorem Dg:df X (.builtin "isinstance") (fun xs H Q=>∃ x n t b,xs=[x,.ty n]/\nH X.K H x t/\PySem.W.kitOne X.K t (.type n)=some b/\Q (.bl b) H):=by
 intro pins s σ H vs us Q I r h
 obtain ⟨x,n,t,b,rfl,ty,e,q⟩:=h
 cases r with
 | cons r rr=>
  cases rr with
  | cons r' rr=>
   cases rr
   cases r'
   exact BQ I r ty e fun tk=>⟨.bl b,H,I.tok _,rfl,q⟩
theorem kit_tuple (K:PySem.W.Frag) (d:PyData):PySem.W.kitOne K (.type (Lp d)) (.type "tuple")=some (match d with | .tuple _=>true | _=>false):=by
 cases d<;>first | rfl | decide
theorem Gb (K:PySem.W.Frag) (d:PyData):PySem.W.kitOne K (.type (Lp d)) (.type "str")=some (match d with | .str _=>true | _=>false):=by
 cases d<;>first | rfl | decide
end
theorem bD.upd {H H':Hp} {p:Addr} {o:HO} (s:bD H H') (hp:H' p=none):bD H (upd H' p o):=fun b u e=>by rw [aD (aH (s b u e) hp)];exact s b u e
theorem bD.new {H:Hp} {p:Addr} {o:HO} (hp:H p=none):bD H (L2.upd H p o):=(bD.refl H).upd hp
theorem uj:bootBuiltins "isinstance" = some (.builtin "isinstance"):=by decide +kernel
theorem i9:bootBuiltins "len" = some (.builtin "len"):=by decide +kernel
theorem v9:bootBuiltins "all" = some (.builtin "all"):=by decide +kernel
theorem qO:bootBuiltins "repr" = some (.builtin "repr"):=by decide +kernel
theorem lH:bootBuiltins "sorted" = some (.builtin "sorted"):=by decide +kernel
theorem B1:bootBuiltins "divmod" = some (.builtin "divmod"):=by decide +kernel
theorem Jp:bootBuiltins "max" = some (.builtin "max"):=by decide +kernel
theorem Jq:bootBuiltins "str" = some (.type "str"):=by decide +kernel
theorem cn:bootBuiltins "tuple" = some (.type "tuple"):=by decide +kernel
theorem Ay:bootBuiltins "list" = some (.type "list"):=by decide +kernel
section
variable {X:Cx} {e e2:Expr} {te te2:TE} {t:TA} {p p2 pos:Pos}
def isTup:PyData->Bool | .tuple _=>true | _=>false
def isStr:PyData->Bool | .str _=>true | _=>false
end
def jr (f:Expr->Option PyData):List Expr->Option (List PyData)
 | []=>some []
 | e::es=>match f e,jr f es with
  | some d,some ds=>some (d::ds)
  | _,_=>none
def qC:Nat->Expr->Option PyData
 | 0,_=>none
 | n+1,e=>match e with
  | .Constant .none _ _=>some .none
  | .Constant (.bool b) _ _=>some (.bool b)
  | .Constant (.int i) _ _=>some (.int i)
  | .Constant (.str x) _ _=>some (.str x)
  | .Tuple es _ _=>if es.length<=1000 then (jr (qC n) es).map .tuple else none
  | .List es _=>if es.length<=1000 then (jr (qC n) es).map .list else none
  | .UnaryOp .USub (.Constant (.int i) _ _) _=>some (.int (-i))
  | .BinOp (.Constant (.int a) _ _) .Pow (.Constant (.int b) _ _) _=>if 0<=b/\b<=1000000/\a.natAbs < 2 ^ 64 then some (.int (a ^ b.toNat)) else none
  | .Dict [] [] _=>some (.dict [])
  | .Dict [some (.Constant (.str k) _ _)] [.Constant (.int i) _ _] _=>some (.dict [(.str k,.int i)])
  | _=>none
abbrev uV (n:Nat) (es:List Expr):Option (List PyData):=jr (qC n) es
def iA (H H' N:Hp):Prop:=∀ c o,N c=some o->H c=none/\H' c=some o
def Jr (d:PyData):TE:=fun _ H Q=>∀ r H' N,bD H H'->iA H H' N->Rep N d r->Q r H'
def Lq (ds:List PyData):TA:=fun _ H Q=>∀ rs H' N,bD H H'->iA H H' N->aZ N ds rs->Q rs H'
def uk:Hp:=fun _=>none
theorem iA.no {H H':Hp}:iA H H' uk:=fun _ _ e=>by cases e
def mU (N M:Hp):Hp:=fun c=>match N c with | some o=>some o | none=>M c
theorem Js {N M:Hp}:bD N (mU N M):=fun c o e=>by simp only [mU,e]
theorem Jt {H H1 H2 N M:Hp} (n:iA H H1 N) (m:iA H1 H2 M):bD M (mU N M):=fun c o e=>by
 have h1:=(m c o e).1
 cases q:N c with
 | none=>simp only [mU,q,e]
 | some u=>rw [(n c u q).2] at h1;cases h1
theorem iA.plus {H H1 H2 N M:Hp} (s1:bD H H1) (s2:bD H1 H2) (n:iA H H1 N) (m:iA H1 H2 M):iA H H2 (mU N M):=fun c o e=>by
 cases q:N c with
 | some u=>
  simp only [mU,q] at e
  cases e
  exact ⟨(n c _ q).1,s2 _ _ (n c _ q).2⟩
 | none=>
  simp only [mU,q] at e
  exact ⟨s1.free (m c o e).1,(m c o e).2⟩
theorem iA.put {H H1 N:Hp} {p:Addr} {o:HO} (s1:bD H H1) (n:iA H H1 N) (hp:H1 p=none):iA H (upd H1 p o) (upd N p o)/\bD N (upd N p o):=by
 have np:∀ c u,N c=some u->c≠p:=fun c u e z=>by subst z;rw [(n c u e).2] at hp;cases hp
 refine ⟨fun c u e=>?_,fun c u e=>by rw [aD (np c u e)];exact e⟩
 by_cases hc:c=p
 ·subst hc
  rw [aY] at e
  cases e
  exact ⟨s1.free hp,aY⟩
 ·rw [aD hc] at e
  exact ⟨(n c u e).1,by rw [aD hc];exact (n c u e).2⟩
theorem jF:∀ {es:List Expr} {n:Nat} {ds:List PyData},uV n es=some ds->ds.length=es.length
 | [],n,ds,h=>by unfold uV jr at h;cases h;rfl
 | e::es,n,ds,h=>by
  unfold uV jr at h
  split at h
  ·rename_i d ds' h1 h2
   cases h
   rw [PQ,PQ,jF h2]
  ·cases h
section
variable {X:Cx}
theorem wa {n:Nat} (ih:∀ (e:Expr) (d:PyData),qC n e=some d->PE X e (Jr d)/\∀ es:List Expr,starEach (e::es) X.env=(false,eval e X.env)::starEach es X.env):∀ (es:List Expr) (ds:List PyData),uV n es=some ds->PA X es (Lq ds)
 | [],ds,h=>by
  unfold uV jr at h
  cases h
  intro pos pins s σ H Q I q
  exact rC pos pins s σ H Q I (q [] H uk (bD.refl H) .no rfl)
 | e::es,ds,h=>by
  unfold uV jr at h
  split at h
  ·rename_i d ds' h1 h2
   cases h
   obtain ⟨a,b⟩:=ih e d h1
   intro pos pins s σ H Q I q
   refine lD a (wa ih es ds' h2) (b es) pos pins s σ H Q I fun r H1 N1 s1 n1 hr rs H2 N2 s2 n2 hrs=>q _ H2 _ (s1.trans s2) (n1.plus s1 s2 n2) (.cons (hr.same Js) (hrs.same (Jt n1 n2)))
  ·cases h
theorem zi:∀ (n:Nat) (e:Expr) (d:PyData),qC n e=some d->PE X e (Jr d)/\∀ es:List Expr,starEach (e::es) X.env=(false,eval e X.env)::starEach es X.env:=by
 intro n
 induction n with
 | zero=>intro e d h;unfold qC at h;cases h
 | succ n ih=>
  intro e d h
  unfold qC at h
  split at h
  ·cases h;exact ⟨fun pins s σ H Q I q=>Iv pins s σ H Q I (q _ H uk (bD.refl H) .no rfl),fun _=>rfl⟩
  ·cases h;exact ⟨fun pins s σ H Q I q=>Hy pins s σ H Q I (q _ H uk (bD.refl H) .no rfl),fun _=>rfl⟩
  ·cases h;exact ⟨fun pins s σ H Q I q=>oX pins s σ H Q I (q _ H uk (bD.refl H) .no rfl),fun _=>rfl⟩
  ·cases h;exact ⟨fun pins s σ H Q I q=>yS pins s σ H Q I (q _ H uk (bD.refl H) .no rfl),fun _=>rfl⟩
  ·rename_i es k' p'
   split at h
   ·rename_i hl
    cases h1:jr (qC n) es with
    | none=>rw [h1] at h;cases h
    | some ds=>
     rw [h1] at h
     cases h
     refine ⟨fun pins s σ H Q I q=>CW (wa ih es ds h1) pins s σ H Q I fun rs H1 N1 s1 n1 hrs=>⟨?_,fun p hp=>q _ _ _ (s1.upd hp) (n1.put s1 hp).1 ⟨p,rs,rfl,aY,hrs.same (n1.put s1 hp).2⟩⟩,fun _=>rfl⟩
     rw [hrs.length,jF h1]
     exact Pq hl (by decide)
   ·cases h
  ·rename_i es p'
   split at h
   ·rename_i hl
    cases h1:jr (qC n) es with
    | none=>rw [h1] at h;cases h
    | some ds=>
     rw [h1] at h
     cases h
     refine ⟨fun pins s σ H Q I q=>y0 (wa ih es ds h1) pins s σ H Q I fun rs H1 N1 s1 n1 hrs=>⟨?_,fun p hp=>q _ _ _ (s1.upd hp) (n1.put s1 hp).1 ⟨p,rs,rfl,aY,hrs.same (n1.put s1 hp).2⟩⟩,fun _=>rfl⟩
     rw [hrs.length,jF h1]
     exact Pq hl (by decide)
   ·cases h
  ·cases h;exact ⟨fun pins s σ H Q I q=>K5 IU oX pins s σ H Q I ⟨_,rfl,q _ H uk (bD.refl H) .no rfl⟩,fun _=>rfl⟩
  ·split at h
   ·rename_i hl
    cases h
    exact ⟨fun pins s σ H Q I q=>HB IT oX oX pins s σ H Q I ⟨_,_,rfl,rfl,hl,q _ H uk (bD.refl H) .no rfl⟩,fun _=>rfl⟩
   ·cases h
  ·cases h;exact ⟨fun pins s σ H Q I q=>C9 pins s σ H Q I fun p hp=>q _ _ (upd uk p (.dK [])) (bD.new hp) (iA.put (bD.refl H) .no hp).1 ⟨p,[],rfl,aY,rfl⟩,fun _=>rfl⟩
  ·rename_i k k1 p1 i i1 p2 p3
   cases h
   refine ⟨fun pins s σ H Q I q=>Ga (Dc yS oX F9) rfl rfl (by simp) (by show 1<=15;decide) pins s σ H Q I fun p hp=>⟨aY,[(Sum.inr k,V.int i)],rfl,by show 1<=15;decide,?_⟩,fun _=>rfl⟩
   refine q _ _ (upd uk p (.dK [(Sum.inr k,V.int i)])) (fun b o e=>?_) (fun c o e=>?_) ⟨p,[(Sum.inr k,V.int i)],rfl,aY,rfl⟩
   ·rw [aD (aH e hp),aD (aH e hp)]
    exact e
   ·by_cases hc:c=p
    ·subst hc
     rw [aY] at e
     cases e
     exact ⟨hp,aY⟩
    ·rw [aD hc] at e
     cases e
  ·cases h
@[irreducible] def Lit (n:Nat) (e:Expr) (d:PyData):Prop:=qC n e=some d
theorem Lit.of {n:Nat} {e:Expr} {d:PyData} (h:qC n e=some d):Lit n e d:=by unfold Lit;exact h
theorem Lit.eq {n:Nat} {e:Expr} {d:PyData} (h:Lit n e d):qC n e=some d:=by unfold Lit at h;exact h
theorem Ju (n:Nat) {e:Expr} {d:PyData} (h:Lit n e d):PE X e (Jr d):=(zi n e d h.eq).1
end
section
variable {X:Cx} {k:Nat}
def cutD (ds:List PyData) (lo hi:Option Int):List PyData:=(ds.drop (HT.eI ds.length 0 lo)).take (HT.eI ds.length ds.length hi - HT.eI ds.length 0 lo)
theorem um {P:Program} {w:World} {A:Around} {E:Value->Shared->Prop} {s:Shared} {t sl:Addr} {items:Array Value} {vl vu:Value} {lo hi:Option Int} {Q:Value->Shared->Prop} (ht:IsTup s.heap t items) (hs:s.heap.IsSliceOf sl vl vu .none) (pl:IsPart vl lo) (pu:IsPart vu hi)
  (h0:HT.eI items.size 0 lo=0) (h1:HT.eI items.size items.size hi=items.size) (q:Q (.ref t) s):wpAny (model P w) A (getItem (.ref t) (.ref sl)) Q E s:=by
 obtain ⟨os,hos,hcs,hds⟩:=id hs
 have hTs:s.TypeIs (.ref sl) "slice" := ⟨os,hos,hcs⟩
 unfold getItem
 try with_reducible refine Qk ?_
 first | refine Ph (Pk ?_) | skip
 refine Ph (wpAny_sequenceKey ht.typeIs (by decide) ?_)
 refine Ph (Qf (name:=Str.ofString "__getitem__") ht.typeIs Qq (Qa Qq ht.typeIs entry_tuple_getitem ?_ (args_tuple_getitem _ _)))
 show wpAny _ _ (Builtin.Tuple.tupleItemsOf (.ref t) >>= _) _ _ s
 refine Ph (tupleItemsOf_ ht (Ph (Sn hTs ?_)))
 rw [if_pos (by decide)]
 refine Ph (HT.jo hs pl pu ?_)
 rw [h0,h1]
 show wpAny _ _ (if ((((0:Nat):Int) == 0 && (1:Int) == 1 && (items.size - 0) == items.size)=true) then _ else _) _ _ s
 rw [if_pos (by simp)]
 unfold Builtin.Tuple.tupleIsExact
 refine Ph (Ph (Sn ht.typeIs (Pk ?_)))
 first
  | exact Ph (RD (Ph (Pk (Pk ⟨_,rfl,Pk q⟩))))
  | exact Ph (RD (Pk ⟨_,rfl,Pk q⟩))
  | (rw [if_pos (by decide)];exact Ph (RD (Ph (Pk (Pk ⟨_,rfl,Pk q⟩)))))
  | (rw [if_pos (by decide)];exact Ph (RD (Pk ⟨_,rfl,Pk q⟩)))
end
def tZ (P:Program) (w:World):CC:=fun outer H s E e s'=>
 ∃ (a:Addr) (cls:Value) (t:Addr) (B:Heap) (H':Hp),e=.ref a/\s'.os=s.os/\AllBare s'.gens/\Un (uK outer) [] H H' s.heap s'.heap/\km P w H' s'.heap/\Heap.FlyingW B outer a cls (.ref t) s'.heap /\
  (∀ b o,s.heap.get? b=some o->b∉uK outer->∃ o',s'.heap.get? b=some o'/\B.get? b=some o')/\(∀ b u,H' b=some u->∃ o',s'.heap.get? b=some o'/\B.get? b=some o')/\E cls none H'
section
variable {P:Program} {w:World} {K:PySem.W.Frag} {mg:Str->Option Value} {base:Heap} {N:List Str} {qual:Str} {scope:Scope} {f:Addr} {cd:Value} {A:Around} {outer:List Env} {s:Shared} {H:Hp} {E:XK}
theorem aW:Passes (tZ P w) (ub (tZ P w) P w K mg base N qual scope f cd A outer s H E) E:=by
 intro pins σ H1 s1 e s' I ⟨a,cls,t,B,H',e1,os,bare,un,hok,fl,old,BH,q⟩
 subst e1
 have J:=I.Hx os un hok bare (fun b z=>nomatch z)
 have hfr:(A.deeper (envOfC qual scope s.heap.objs.size f cd)).frames=some (envOfC qual scope s.heap.objs.size f cd::outer):=I.ok.frames
 have noA:∀ b:Addr,b∉(ub (tZ P w) P w K mg base N qual scope f cd A outer s H E).ex:=fun b z=>nomatch z
 have inB:∀ b o,s.heap.get? b=some o->b∉uK outer->∃ o',s'.heap.get? b=some o'/\B.get? b=some o':=fun b o e hb=>by
  obtain ⟨o1,e1⟩:=I.base.there b o e (noA b)
  refine old b o1 e1 fun z=>?_
  rcases Pn.mp (I.ko b z) with z | z
  ·have z2:b=s.heap.objs.size:=z
   exact absurd (Pp e) (by rw [z2];exact PZ _)
  ·exact hb z
 refine wpAny_leaves_onW hfr rfl fl fun h' fl' up=>?_
 refine ⟨a,cls,t,B,H',rfl,os.trans I.os,bare,⟨fun b o e n hb _=>?_,fun b o e n hb _=>?_,fun b o e n _=>J.base.free b o e n (noA b),fun b o e _=>?_,J.base.tups,J.base.frzs,J.base.tbls⟩,fun b u e=>?_,fl',fun b o e hb=>?_,fun b u e=>?_,q⟩
 ·have e2:=J.base.keep b o e n hb (noA b)
  obtain ⟨o',e3,e4⟩:=inB b o e hb
  rw [e2] at e3;cases e3
  exact fl'.1 b o e4
 ·obtain ⟨sl,e2⟩:=J.base.slot b o e n hb (noA b)
  obtain ⟨_,o',e3,nf⟩:=J.oW.mem hb
  rw [e2] at e3;cases e3
  obtain ⟨sl',e4⟩:=up b _ e2 nf
  exact ⟨sl',e4⟩
 ·by_cases hb:b∈uK outer
  ·obtain ⟨o2,e2⟩:=J.base.there b o e (noA b)
   obtain ⟨_,o',e3,nf⟩:=J.oW.mem hb
   obtain ⟨sl',e4⟩:=up b _ e3 nf
   exact ⟨_,e4⟩
  ·obtain ⟨o',e3,e4⟩:=inB b o e hb
   exact ⟨o',fl'.1 b o' e4⟩
 ·refine (hok b u e).rm (fun c v hc z=>?_) (fun _ z=>z) fun _ _ z=>z
  have:∃ u',H' c=some u':=by
   rcases hc with hc | hc
   ·exact ⟨u,hc▸e⟩
   ·exact ⟨_,hc⟩
  obtain ⟨u',hu⟩:=this
  obtain ⟨o',e3,e4⟩:=BH c u' hu
  rw [z] at e3;cases e3
  exact fl'.1 c v e4
 ·obtain ⟨o',e3,e4⟩:=inB b o e hb
  exact ⟨o',fl'.1 b o' e4,e4⟩
 ·obtain ⟨o',e3,e4⟩:=BH b u e
  exact ⟨o',fl'.1 b o' e4,e4⟩
end
def Gd (a:Addr) (cls:Value):Heap->Prop:=fun h=>∃ o,h.get? a=some o/\o.cls=cls
structure Ext (H G H' G':Hp):Prop where
 sh:bD H H'
 sg:bD G G'
 gs:bD G' H'
 old:∀ c,H c≠none->G' c=G c
theorem Ext.refl {H G:Hp} (s:bD G H):Ext H G H G:=⟨bD.refl H,bD.refl G,s,fun _ _=>rfl⟩
theorem Ext.new {H G:Hp} {p:Addr} {o:HO} (s:bD G H) (hp:H p=none):Ext H G (upd H p o) (upd G p o):=by
 refine ⟨bD.new hp,bD.new (s.free hp),fun c u e=>?_,fun c hc=>aD fun z=>hc (z▸hp)⟩
 by_cases h:c=p
 ·subst h;rw [aY] at e ⊢;exact e
 ·rw [aD h] at e ⊢;exact s c u e
section
variable {X:Cx} {k:Nat}
def Lr:R2:=fun x y H Q=>∃ G ds es,bD G H/\Rep G (.tuple ds) x/\Rep G (.tuple es) y/\ds.length+es.length<=sizeLine/\∀ r H' G',Ext H G H' G'->Rep G' (.tuple (ds++es)) r->Q r H'
theorem Ge:ik X (binaryOp .Add) Lr:=by
 intro pins s σ H x y v u Q I rx ry h
 obtain ⟨G,ds,es,sg,h1,h2,hz,q⟩:=h
 obtain ⟨a,vs,rfl,ha,r1⟩:=id h1
 obtain ⟨b,us,rfl,hb,r2⟩:=id h2
 by_cases hv:vs=[]
 ·subst hv
  have hd:ds=[]:=RL.mp r1.length.symm
  subst hd
  cases rx
  cases ry
  obtain ⟨its1,v1,⟨⟨c1,d1,e1,l1⟩,p1,g1,n1,z1⟩,_⟩:=I.tuple (gx.of (K:=X.K) (sg _ _ ha))
  obtain ⟨its2,v2,⟨⟨c2,d2,e2,l2⟩,p2,g2,n2,z2⟩,_⟩:=I.tuple (gx.of (K:=X.K) (sg _ _ hb))
  simp only at g1 z1 g2 z2
  subst g1 z1 g2 z2
  cases v1
  exact concat_meets ⟨_,p1,rfl⟩ ⟨_,p2,rfl⟩ noFill_tuple_add seq_tuple_add SK SE (Sm _ _) (tuple_addW0 a b _ _ n1 n2 d1 d2 l1 l2 rfl) ⟨p1,p2,⟨.ref b,H,I,rfl,q _ H G (Ext.refl sg) h2⟩⟩
 ·refine FX pins s σ H _ _ v u Q I rx ry ⟨a,b,vs,us,rfl,rfl,gx.of (sg _ _ ha),gx.of (sg _ _ hb),hv,by rw [r1.length,r2.length];exact hz,fun e=>?_,fun e p hp=>?_⟩
  ·subst e
   have he:es=[]:=RL.mp r2.length.symm
   subst he
   exact q _ H G (Ext.refl sg) (by rw [List.append_nil];exact h1)
  ·have x:=Ext.new (o:=.tup (vs++us)) sg hp
   exact q _ _ _ x ⟨p,_,rfl,aY,aZ.append (r1.same x.sg) (r2.same x.sg)⟩
def Nv:V->Option Int->Option Int->Hp->VK->Prop:=fun x lo hi H Q=>∃ G ds,bD G H/\Rep G (.tuple ds) x/\∀ r H' G',Ext H G H' G'->Rep G' (.tuple (cutD ds lo hi)) r->Q r H'
theorem Gf:KG X Nv:=by
 intro pins s σ H x v vl vu lo hi sl Q I rx hs pl pu h
 obtain ⟨G,ds,sg,h1,q⟩:=h
 obtain ⟨a,xs,rfl,ha,r1⟩:=id h1
 cases rx
 obtain ⟨its,rv,ht,hz⟩:=I.tuple (gx.of (K:=X.K) (sg _ _ ha))
 have hl:its.toArray.size=xs.length:=by rw [Pu];exact rv.length.symm
 by_cases hw:HT.eI xs.length 0 lo=0/\HT.eI xs.length xs.length hi=xs.length
 ·refine ⟨"tuple",_,Qq.lookup,ht.typeIs,um ht hs pl pu (by rw [hl];exact hw.1) (by rw [hl];exact hw.2) ⟨.ref a,H,I,rfl,q _ H G (Ext.refl sg) ?_⟩⟩
  have e:cutD ds lo hi=ds:=by
   unfold cutD
   rw [<- r1.length,hw.1,hw.2,List.drop_zero,Nat.sub_zero,r1.length,List.take_length]
  rw [e]
  exact h1
 ·refine IZ pins s σ H (.ref a) _ vl vu lo hi sl Q I rfl hs pl pu ⟨a,xs,rfl,gx.of (sg _ _ ha),hw,fun p hp=>?_⟩
  have x:=Ext.new (o:=.tup (rE xs lo hi)) sg hp
  refine q _ _ _ x ⟨p,_,rfl,aY,?_⟩
  have e:cutD ds lo hi=(ds.drop (HT.eI xs.length 0 lo)).take (HT.eI xs.length xs.length hi - HT.eI xs.length 0 lo):=by
   unfold cutD
   rw [r1.length]
  rw [e]
  exact ((r1.same x.sg).drop _).take _
end
theorem Vals.HK:∀ (us:List Value) (f:Nat->V),(∀ j v,us[j]?=some v->RelV (f j) v)->Vals ((List.range us.length).map f) us
 | [],_,_=>.nil
 | u::us,f,h=>by
  rw [PQ,List.range_succ_eq_map,P9,Ts]
  exact .cons (h 0 u rfl) (Vals.HK us (f∘Nat.succ) fun j v e=>h (j+1) v e)
section
variable {X:Cx}
theorem xw (hc:X.calm=true):df X (.type "tuple") (fun xs H Q=>∃ x,xs=[.str x]/\x.cps.size<=sizeLine/\∀ p,H p=none->Q (.ref p) (upd H p (.tup ((List.range x.cps.size).map (sgn x))))):=by
 intro pins s σ H xs us Q I r h
 obtain ⟨x,rfl,hz,q⟩:=h
 obtain ⟨u,rfl,rx⟩:=vals1 r
 obtain ⟨t,rfl⟩:=rx
 refine call_tuple_str (I.ok.hd hc) x t (fun h' tk acc kp hacc=>?_) hz
 have I1:Inv X pins σ H {s with heap:=h',toks:=tk}:=I.kept (t':=tk) kp
 have hv:Vals ((List.range x.cps.size).map (sgn x)) acc.toList:=by
  have e:acc.toList.length=x.cps.size:=by rw [Qj,hacc.1]
  rw [<- e]
  refine Vals.HK _ _ fun j v ev=>v8 j v ?_ (hacc.2 j v (by simpa using ev))
  rw [<- e]
  exact (PF.mp ev).1
 have I2:Inv X pins σ (upd H h'.objs.size (.tup ((List.range x.cps.size).map (sgn x)))) {s with heap:=h'.push {cls:=.type "tuple",data:=.seq acc},toks:=tk}:=by
  refine I1.laid (t':=tk) (fun b o e=>Pj _ e) (Pm _) (show cv X.prog X.w _ _ _ (.tup _) from ⟨by rw [PX,SN];exact hz,acc.toList,hv,?_⟩)
  have:=IsTup.new h' acc
  simpa using this
 exact ⟨.ref h'.objs.size,_,I2,rfl,q _ (I1.hok.fresh (Pm _))⟩
end
def recAt (c:Addr) (q:Str):Heap->Prop:=fun h=>h.CodeRec (.ref c) q
end L2
namespace PySem.SeqAt
open PySem PySem.MeetsSeq PySem.AutoSeq1
theorem rJ (b:Str) (u:Tok) (l:Addr) (es:Array DictEntry) (n:Nat) (dd:Option Addr) (sl:Array (Option Value)) :
  Meets (Builtin.«str.__eq__» ⟨[.str b u,.ref l],[]⟩) (fun _ R s=>s.heap.get? l=some {cls:=.type "dict",dict:=dd,data:=.dict es n,slots:=sl}/\R (.ok (.ret .notImplemented)) s):=
 .of_wp fun prog w A R s h=>by
  obtain ⟨hp,g,d,tk,os⟩:=s
  obtain ⟨hl,h⟩:=h
  wp_walk using wpAny_loadPart' hl,Sl hl
  exact ⟨_,rfl,h⟩
theorem rK (b:Str) (u:Tok) (l:Addr) (es:Array DictEntry) (n:Nat) (dd:Option Addr) (sl:Array (Option Value)) :
  Meets (Builtin.«dict.__eq__» ⟨[.ref l,.str b u],[]⟩) (fun _ R s=>s.heap.get? l=some {cls:=.type "dict",dict:=dd,data:=.dict es n,slots:=sl}/\R (.ok (.ret .notImplemented)) s):=
 .of_wp fun prog w A R s h=>by
  obtain ⟨hp,g,d,tk,os⟩:=s
  obtain ⟨hl,h⟩:=h
  have f1:=F.sub_str_dict
  wp_walk using wpAny_loadPart' hl,Sl hl
  exact ⟨_,rfl,h⟩
theorem EqAt.Gg {A:Around} {s:Shared} {l:Addr} {es:Array DictEntry} {n:Nat} {dd:Option Addr} {sl:Array (Option Value)} (b:Str) (u:Tok) (hl:s.heap.get? l=some {cls:=.type "dict",dict:=dd,data:=.dict es n,slots:=sl}) (hu:A.units < cLine):EqAt A s (.str b u) (.ref l) false:=fun prog w E Q h=>by
 unfold eqBool
 refine Qk (Q0 (fun hab=>absurd (eq_of_beq hab) nofun) (fun _=>Ph ?_))
 refine rc_eq_decline_or (k:=false) (typeIs_str s b u) ⟨_,hl,rfl⟩ (by decide) F.sub_dict_str F.slot_str_eq Sh
  (fun _ hq=>So F.slot_str_eq (typeIs_str s b u) F.entry_str_eq (F.args_str_eq_2 _ _) (rJ b u l es n dd sl) ⟨hl,hq⟩)
  (fun _ hq=>So Sh ⟨_,hl,rfl⟩ F.entry_dict_eq (F.args_dict_eq_2 _ _) (rK b u l es n dd sl) ⟨hl,hq⟩)
  (fun _ hq=>Sg (rfl:isSame (.str b u) (.ref l)=pure false) hq) (.inr hu) (QP h)
end PySem.SeqAt
set_option maxHeartbeats 4000000
namespace PySem.W
open PySem PySem.Calls PyProof.Rows
def KasT.Run {α:Type} (lt:Nat->Nat->Bool) (n:Nat):KasT α->(α->Prop)->Prop
 | .ret a,P=>P a
 | .ask i j k,P=>i < n/\j < n/\(k (lt i j)).Run lt n P
theorem KasT.run_bind {α β:Type} {lt:Nat->Nat->Bool} {n:Nat} {f:α->KasT β} {P:β->Prop} :
  ∀ (t:KasT α),t.Run lt n (fun a=>(f a).Run lt n P)->(t.bind f).Run lt n P
 | .ret _,h=>h
 | .ask _ _ k,h=>⟨h.1,h.2.1,KasT.run_bind (k _) h.2.2⟩
theorem KasT.eJ {α:Type} {lt:Nat->Nat->Bool} {n:Nat} {P Q:α->Prop} (hq:∀ a,P a->Q a) :
  ∀ (t:KasT α),t.Run lt n P->t.Run lt n Q
 | .ret a,h=>hq a h
 | .ask _ _ k,h=>⟨h.1,h.2.1,KasT.eJ hq (k _) h.2.2⟩
theorem KasT.Dh {α:Type} {lt:Nat->Nat->Bool} {n:Nat} {P:α->Prop} {Q:α->Shared->Prop} {I:Shared->Prop}
  {cmp:Nat->Nat->(Bool->Shared->Prop)->Shared->Prop}
  (hc:∀ i j C s,i < n->j < n->I s->(∀ s',I s'->C (lt i j) s')->cmp i j C s) (hq:∀ a s,P a->I s->Q a s) :
  ∀ (t:KasT α) (s:Shared),t.Run lt n P->I s->t.kasWp cmp Q s
 | .ret a,s,h,hi=>hq a s h hi
 | .ask i j k,s,h,hi=>hc i j _ s h.1 h.2.1 hi (fun s' hs'=>KasT.Dh hc hq (k _) s' h.2.2 hs')
structure kB (lt:Nat->Nat->Bool) (n:Nat):Prop where
 as:∀ a b,a < n->b < n->lt a b=true->lt b a=false
 tr:∀ a b c,a < n->b < n->c < n->lt b a=false->lt c b=false->lt c a=false
abbrev pat (p:Array Nat) (k:Nat):Nat:=p.getD k 0
theorem gC (p:Array Nat) (k:Nat):pat p k=p[k]?.getD 0:=by
 show p.getD k 0=_
 simp [Qb]
structure cj (n:Nat) (p:Array Nat):Prop where
 perm:p.toList.Perm (List.range n)
theorem cj.size {n:Nat} {p:Array Nat} (h:cj n p):p.size=n:=by
 have:=h.perm.length_eq
 simpa using this
theorem cj.lt {n:Nat} {p:Array Nat} (h:cj n p) {k:Nat} (hk:k < n):pat p k < n:=by
 have hs:k < p.size:=by rw [h.size];exact hk
 have e:pat p k=p[k]:=by rw [gC,Ss p k hs];rfl
 rw [e]
 have:p[k]∈p.toList:=by simp
 exact Qo.mp (h.perm.mem_iff.mp this)
theorem cj.of {n:Nat} {p q:Array Nat} (h:cj n p) (e:q.Perm p):cj n q:=
 ⟨(Array.perm_iff_toList_perm.mp e).trans h.perm⟩
theorem cj.rev {n:Nat} {p:Array Nat} (h:cj n p) (i j:Nat):cj n (kas_rev p i j):=h.of (mirror_perm _ _ _ _)
theorem iB {n:Nat} {p:Array Nat} (h:cj n p) {i j:Nat} (hj:j<=n) (k:Nat) :
  pat (kas_rev p i j) k=if i<=k/\k < j then pat p (i+j - 1 - k) else pat p k:=by
 rw [gC]
 unfold kas_rev
 rw [getElem?_mirror_all (by rw [h.size];exact hj)]
 split<;>rw [gC]
theorem Az {n:Nat} {p:Array Nat} (h:cj n p) {k d:Nat} (hk:k < n) (hd:d<=k) (i:Nat) :
  pat (bubble p k d) i=if i=k - d then pat p k else if k - d < i/\i<=k then pat p (i - 1) else pat p i:=by
 rw [gC,getElem?_bubble (by rw [h.size];exact hk) d hd]
 split
 ·rw [gC]
 ·split<;>rw [gC]
section
variable {lt:Nat->Nat->Bool} {n:Nat}
def xf (lt:Nat->Nat->Bool) (p:Array Nat) (m:Nat):Prop:=∀ i j,i < j->j < m->lt (pat p j) (pat p i)=false
def iC (lt:Nat->Nat->Bool) (p:Array Nat) (m:Nat):Prop:=∀ i j,i < j->j < m->lt (pat p i) (pat p j)=false
theorem kB.Nw (O:kB lt n) {x:Nat} (hx:x < n):lt x x=false:=by
 cases hh:lt x x with
 | false=>rfl
 | true=>have:=O.as _ _ hx hx hh;rw [hh] at this;exact this
theorem xf.more (O:kB lt n) {p:Array Nat} (hp:cj n p) {m:Nat} (h1:1<=m) (hm:m < n) (u:xf lt p m) (h:lt (pat p m) (pat p (m - 1))=false):xf lt p (m+1):=by
 intro i j hij hj
 rcases Rk j m with h' | h'
 ·exact u i j hij h'
 ·obtain rfl:j=m:=by omega
  rcases Rk i (j - 1) with h'' | h''
  ·exact O.tr _ _ _ (hp.lt (by omega)) (hp.lt (by omega)) (hp.lt hm) (u i (j - 1) h'' (by omega)) h
  ·obtain rfl:i=j - 1:=by omega
   exact h
theorem iC.more (O:kB lt n) {p:Array Nat} (hp:cj n p) {m:Nat} (h1:1<=m) (hm:m < n) (u:iC lt p m) (h:lt (pat p (m - 1)) (pat p m)=false):iC lt p (m+1):=by
 intro i j hij hj
 rcases Rk j m with h' | h'
 ·exact u i j hij h'
 ·obtain rfl:j=m:=by omega
  rcases Rk i (j - 1) with h'' | h''
  ·exact O.tr _ _ _ (hp.lt hm) (hp.lt (by omega)) (hp.lt (by omega)) h (u i (j - 1) h'' (by omega))
  ·obtain rfl:i=j - 1:=by omega
   exact h
theorem wb (O:kB lt n) {p:Array Nat} (hp:cj n p):∀ (f m:Nat),1<=m->m+f<=n->xf lt p m ->
  (kas_asc p f m).Run lt n (fun r=>m<=r/\r<=m+f/\xf lt p r/\(r < m+f->lt (pat p r) (pat p (r - 1))=true))
 | 0,m,h1,hm,u=>⟨Pm _,Pm _,u,fun h=>absurd h (PZ _)⟩
 | f+1,m,h1,hm,u=>by
  refine ⟨hp.lt (by omega),hp.lt (by omega),?_⟩
  cases hc:lt (pat p m) (pat p (m - 1)) with
  | true=>
   simp only [Qe]
   exact ⟨Pm _,by omega,u,fun _=>hc⟩
  | false=>
   have hc':=hc
   simp only [PB,Qm]
   refine KasT.eJ (fun r hr=>?_) _ (wb O hp f (m+1) (by omega) (by omega) (u.more O hp h1 (by omega) hc'))
   exact ⟨by omega,by omega,hr.2.2.1,fun h=>hr.2.2.2 (by omega)⟩
def Mg (lt:Nat->Nat->Bool) (p:Array Nat) (a b:Nat):Prop:=∀ i j,a<=i->i < b->a<=j->j < b->lt (pat p i) (pat p j)=false
theorem rL {p:Array Nat} (hp:cj n p) {a b m:Nat} (hb:b<=m) (hm:m<=n) (d:iC lt p m) (e:Mg lt p a b):iC lt (kas_rev p a b) m:=by
 intro i j hij hj
 rw [iB hp (by omega),iB hp (by omega)]
 split
 ·split
  ·exact e _ _ (by omega) (by omega) (by omega) (by omega)
  ·exact d _ _ (by omega) (by omega)
 ·split
  ·exact d _ _ (by omega) (by omega)
  ·exact d _ _ hij hj
theorem Jv {p:Array Nat} (hp:cj n p) {m:Nat} (hm:m<=n) (d:iC lt p m):xf lt (kas_rev p 0 m) m:=by
 intro i j hij hj
 rw [iB hp hm,iB hp hm,if_pos (by omega),if_pos (by omega)]
 exact d _ _ (by omega) (by omega)
theorem iC.zero {p:Array Nat}:iC lt p 1:=fun i j h h'=>by omega
theorem nM (O:kB lt n):∀ (f:Nat) (p:Array Nat) (m q:Nat),cj n p->q+1<=m->m+f<=n->iC lt p m->Mg lt p (m - (q+1)) m ->
  (kas_desc f p m q).Run lt n (fun r=>cj n r.1/\r.2.2+1<=r.2.1/\r.2.1<=m+f/\iC lt r.1 r.2.1/\Mg lt r.1 (r.2.1 - (r.2.2+1)) r.2.1)
 | 0,p,m,q,hp,hq,hm,d,e=>⟨hp,hq,Pm _,d,e⟩
 | f+1,p,m,q,hp,hq,hm,d,e=>by
  refine ⟨hp.lt (by omega),hp.lt (by omega),?_⟩
  cases hc:lt (p.getD m 0) (p.getD (m - 1) 0) with
  | true=>
   simp only [Qe]
   have h1:lt (pat p (m - 1)) (pat p m)=false:=O.as _ _ (hp.lt (by omega)) (hp.lt (by omega)) hc
   split
   ·have hd2:=rL (n:=n) hp (Pm m) (by omega) d e
    have hp2:=hp.rev (m - (q+1)) m
    refine KasT.eJ (fun r hr=>⟨hr.1,hr.2.1,by have:=hr.2.2.1;omega,hr.2.2.2⟩) _ (nM O f _ (m+1) 0 hp2 (by omega) (by omega) ?_ ?_)
    ·refine hd2.more O hp2 (by omega) (by omega) ?_
     rw [iB hp (by omega),iB hp (by omega),if_pos (by omega),if_neg (by omega)]
     refine O.tr _ _ _ (hp.lt (by omega)) (hp.lt (by omega)) (hp.lt (by omega)) h1 ?_
     exact e _ _ (by omega) (by omega) (by omega) (by omega)
    ·intro i j h1 h2 h3 h4
     obtain rfl:i=m:=by omega
     obtain rfl:j=i:=by omega
     cases hh:lt (pat (kas_rev p (j - (q+1)) j) j) (pat (kas_rev p (j - (q+1)) j) j) with
     | false=>rfl
     | true=>exact (O.as _ _ (hp2.lt (by omega)) (hp2.lt (by omega)) hh).symm.trans hh▸rfl
   ·refine KasT.eJ (fun r hr=>⟨hr.1,hr.2.1,by have:=hr.2.2.1;omega,hr.2.2.2⟩) _ (nM O f _ (m+1) 0 hp (by omega) (by omega) (d.more O hp (by omega) (by omega) h1) ?_)
    intro i j h1 h2 h3 h4
    obtain rfl:i=m:=by omega
    obtain rfl:j=i:=by omega
    cases hh:lt (pat p j) (pat p j) with
    | false=>rfl
    | true=>exact (O.as _ _ (hp.lt (by omega)) (hp.lt (by omega)) hh).symm.trans hh▸rfl
  | false=>
   simp only [PB,Qm]
   refine ⟨hp.lt (by omega),hp.lt (by omega),?_⟩
   cases hc2:lt (p.getD (m - 1) 0) (p.getD m 0) with
   | true=>
    simp only [Qe]
    exact ⟨hp,hq,by show m<=_;omega,d,e⟩
   | false=>
    simp only [PB,Qm]
    refine KasT.eJ (fun r hr=>⟨hr.1,hr.2.1,by have:=hr.2.2.1;omega,hr.2.2.2⟩) _ (nM O f _ (m+1) (q+1) hp (by omega) (by omega) (d.more O hp (by omega) (by omega) hc2) ?_)
    have Nw:lt (pat p m) (pat p m)=false:=by
     cases hh:lt (pat p m) (pat p m) with
     | false=>rfl
     | true=>exact (O.as _ _ (hp.lt (by omega)) (hp.lt (by omega)) hh).symm.trans hh▸rfl
    intro i j h1 h2 h3 h4
    rcases Rk i m with hi | hi
    ·rcases Rk j m with hj | hj
     ·exact e _ _ (by omega) hi (by omega) hj
     ·obtain rfl:j=m:=by omega
      exact O.tr _ _ _ (hp.lt (by omega)) (hp.lt (show j - 1 < n by omega)) (hp.lt (by omega)) hc2 (e _ _ (by omega) hi (by omega) (by omega))
    ·obtain rfl:i=m:=by omega
     rcases Rk j i with hj | hj
     ·exact O.tr _ _ _ (hp.lt (by omega)) (hp.lt (show i - 1 < n by omega)) (hp.lt (by omega)) (e _ _ (by omega) (by omega) (by omega) hj) hc
     ·obtain rfl:j=i:=by omega
      exact Nw
def Di (lt:Nat->Nat->Bool) (n:Nat) (r:Nat×Array Nat):Prop:=cj n r.2/\1<=r.1/\r.1<=n/\xf lt r.2 r.1
theorem uW (O:kB lt n) {p:Array Nat} (hp:cj n p) {m:Nat} (h1:1<=m) (hm:m<=n) (d:iC lt p m):(kas_tail3 m n p).Run lt n (Di lt n):=by
 unfold kas_tail3
 refine KasT.run_bind _ (KasT.eJ (fun r hr=>?_) _ (wb O (hp.rev 0 m) (n - m) m h1 (by omega) (Jv hp hm d)))
 exact ⟨hp.rev 0 m,by show 1<=r;omega,by show r<=n;omega,hr.2.2.1⟩
theorem nN (O:kB lt n) {p:Array Nat} (hp:cj n p) {m:Nat} (h1:1<=m) (hm:m < n) (d:iC lt p (m+1)):(kas_descPart m n p).Run lt n (Di lt n):=by
 unfold kas_descPart
 refine KasT.run_bind _ (KasT.eJ (fun r hr=>?_) _ (nM O (n - (m+1)) p (m+1) 0 hp (by omega) (by omega) d ?_))
 ·split
  ·exact uW O (hr.1.rev _ _) (by omega) (by omega) (rL hr.1 (Pm _) (by omega) hr.2.2.2.1 hr.2.2.2.2)
  ·exact uW O hr.1 (by omega) (by omega) hr.2.2.2.1
 ·intro i j h1 h2 h3 h4
  obtain rfl:i=m:=by omega
  obtain rfl:j=i:=by omega
  cases hh:lt (pat p j) (pat p j) with
  | false=>rfl
  | true=>exact (O.as _ _ (hp.lt (by omega)) (hp.lt (by omega)) hh).symm.trans hh▸rfl
theorem B2 (O:kB lt n) {p:Array Nat} (hp:cj n p) (h1:1<=n):(kas_count n p).Run lt n (Di lt n):=by
 unfold kas_count
 refine KasT.run_bind _ (KasT.eJ (fun r hr=>?_) _ (wb O hp (n - 1) 1 (Pm _) (by omega) fun i j h h'=>by omega))
 obtain ⟨hr1,hr2,up,st⟩:=hr
 split
 ·exact ⟨hp,hr1,by show r<=n;omega,up⟩
 ·rename_i hne
  have hlt:r < n:=by
   have:r≠n:=fun e=>hne (by simp [e])
   omega
  have hs:=st (by omega)
  split
  ·rename_i hgt
   refine ⟨hp.lt (by omega),hp.lt (by omega),?_⟩
   dsimp only
   split
   ·exact ⟨hp,hr1,by show r<=n;omega,up⟩
   ·rename_i hc
    have hc:lt (pat p 0) (pat p (r - 1))=false:=by simpa using hc
    have eqs:Mg lt p 0 r:=by
     have lo:∀ i,i < r->lt (pat p i) (pat p 0)=false:=fun i hi=>by
      rcases Nat.eq_zero_or_pos i with rfl | h
      ·cases hh:lt (pat p 0) (pat p 0) with
       | false=>rfl
       | true=>exact (O.as _ _ (hp.lt (by omega)) (hp.lt (by omega)) hh).symm.trans hh▸rfl
      ·exact up 0 i h hi
     have hi:∀ i,i < r->lt (pat p (r - 1)) (pat p i)=false:=fun i hi=>by
      rcases Rk i (r - 1) with h | h
      ·exact up i (r - 1) h (by omega)
      ·obtain rfl:i=r - 1:=by omega
       exact O.Nw (hp.lt (by omega))
     intro i j _ h2 _ h4
     have a1:lt (pat p 0) (pat p j)=false:=O.tr _ _ _ (hp.lt (by omega)) (hp.lt (show r - 1 < n by omega)) (hp.lt (by omega)) (hi j h4) hc
     exact O.tr _ _ _ (hp.lt (by omega)) (hp.lt (show 0 < n by omega)) (hp.lt (by omega)) a1 (lo i h2)
    have dn:iC lt (kas_rev p 0 r) r:=rL hp (Pm r) (by omega) (fun i j h h'=>eqs _ _ (by omega) (by omega) (by omega) h') eqs
    refine nN O (hp.rev 0 r) (by omega) hlt (dn.more O (hp.rev 0 r) (by omega) hlt ?_)
    rw [iB hp (by omega),iB hp (by omega),if_pos (by omega),if_neg (by omega)]
    refine O.tr _ _ _ (hp.lt (by omega)) (hp.lt (show r - 1 < n by omega)) (hp.lt (by omega)) (O.as _ _ (hp.lt (by omega)) (hp.lt (by omega)) hs) ?_
    exact eqs _ _ (by omega) (by omega) (by omega) (by omega)
  ·obtain rfl:r=1:=by omega
   exact nN O hp (by omega) hlt ((iC.zero).more O hp (by omega) hlt (O.as _ _ (hp.lt (by omega)) (hp.lt (by omega)) hs))
theorem o5 (O:kB lt n) {p:Array Nat} (hp:cj n p) {k:Nat} (hk:k < n) (u:xf lt p k):∀ (f l r:Nat),l<=r->r<=k->r - l<=f ->
  (∀ i,i < l->lt (pat p k) (pat p i)=false)->(∀ i,r<=i->i < k->lt (pat p i) (pat p k)=false) ->
  (kas_place p k f l r).Run lt n (fun m=>m<=k/\(∀ i,i < m->lt (pat p k) (pat p i)=false)/\(∀ i,m<=i->i < k->lt (pat p i) (pat p k)=false))
 | 0,l,r,h1,h2,h3,a,b=>⟨by show l<=k;omega,a,fun i hi=>b i (by omega)⟩
 | f+1,l,r,h1,h2,h3,a,b=>by
  unfold kas_place
  split
  ·exact ⟨by show l<=k;omega,a,fun i hi=>b i (by omega)⟩
  ·rename_i hlr
   refine ⟨hp.lt hk,hp.lt (by omega),?_⟩
   dsimp only
   split
   ·rename_i hc
    refine o5 O hp hk u f l ((l+r) / 2) (by omega) (by omega) (by omega) a fun i hi hik=>?_
    have hm:lt (pat p ((l+r) / 2)) (pat p k)=false:=O.as _ _ (hp.lt hk) (hp.lt (by omega)) hc
    rcases Rk ((l+r) / 2) i with h | h
    ·exact O.tr _ _ _ (hp.lt hk) (hp.lt (show (l+r) / 2 < n by omega)) (hp.lt (by omega)) hm (u _ _ h hik)
    ·obtain rfl:i=(l+r) / 2:=by omega
     exact hm
   ·rename_i hc
    have hc:lt (pat p k) (pat p ((l+r) / 2))=false:=by simpa using hc
    refine o5 O hp hk u f ((l+r) / 2+1) r (by omega) h2 (by omega) (fun i hi=>?_) b
    rcases Rk i ((l+r) / 2) with h | h
    ·exact O.tr _ _ _ (hp.lt (by omega)) (hp.lt (show (l+r) / 2 < n by omega)) (hp.lt hk) (u _ _ h (by omega)) hc
    ·obtain rfl:i=(l+r) / 2:=by omega
     exact hc
theorem AA (O:kB lt n):∀ (f:Nat) (p:Array Nat) (k:Nat),cj n p->k+f=n->xf lt p k->(kas_bin f p k).Run lt n (fun p=>cj n p/\xf lt p n)
 | 0,p,k,hp,hk,u=>⟨hp,by obtain rfl:k=n:=by omega
                         exact u⟩
 | f+1,p,k,hp,hk,u=>by
  unfold kas_bin
  refine KasT.run_bind _ (KasT.eJ (fun m hm=>?_) _ (o5 O hp (by omega) u k 0 k (QS _) (Pm _) (by omega) (fun i h=>by omega) (fun i h h'=>by omega)))
  obtain ⟨hmk,lo,hi⟩:=hm
  refine AA O f _ (k+1) (hp.of (bubble_perm _ _ _)) (by omega) ?_
  intro i j hij hj
  have hd:k - (k - m)=m:=by omega
  rw [Az hp (by omega) (by omega),Az hp (by omega) (by omega),hd]
  by_cases j1:j=m
  ·rw [if_pos j1,if_neg (show ¬ i=m by omega),if_neg (by omega)]
   exact lo i (by omega)
  ·rw [if_neg j1]
   by_cases i1:i=m
   ·rw [if_pos i1,if_pos (by omega)]
    exact hi _ (by omega) (by omega)
   ·rw [if_neg i1]
    by_cases j2:m < j/\j<=k
    ·rw [if_pos j2]
     by_cases i2:m < i/\i<=k
     ·rw [if_pos i2]
      exact u _ _ (by omega) (by omega)
     ·rw [if_neg i2]
      exact u _ _ (by omega) (by omega)
    ·rw [if_neg j2,if_neg (by omega)]
     exact u _ _ hij (by omega)
theorem Dj (O:kB lt n) (h:1<=n):(kas_sort n).Run lt n (fun p=>cj n p/\xf lt p n):=by
 unfold kas_sort
 refine KasT.run_bind _ (KasT.eJ (fun r hr=>?_) _ (B2 O (p:=List.toArray (List.range n)) ⟨List.Perm.refl _⟩ h))
 obtain ⟨hp,h1,h2,u⟩:=hr
 split
 ·rename_i hlt
  have:max r.1 1=r.1:=by omega
  rw [this]
  exact AA O _ _ _ hp (by omega) u
 ·refine ⟨hp,?_⟩
  have e:r.1=n:=by omega
  rw [e] at u
  exact u
end
end PySem.W
set_option maxHeartbeats 4000000
namespace PySem.W
open PySem PySem.Calls PyProof.Rows
section
variable {prog:Program} {w:World} {A:Around} {E:Value->Shared->Prop} {s:Shared}
def B3 (prog:Program) (w:World) (A:Around) (vs:List Value) (lt:Nat->Nat->Bool) (s:Shared):Prop:=
 wpAny (model prog w) A (keyKind' vs.toArray) (fun κ s'=>s'=s/\∀ i j C,i < vs.length->j < vs.length->C (lt i j) s ->
  wpAny (model prog w) A (keyLt' κ (vs.getD i Value.none) (vs.getD j Value.none)) C (fun _ _=>False) s) (fun _ _=>False) s
theorem ja {a:Addr} {vs:List Value} {lt:Nat->Nat->Bool} {n:Nat} {P:PySem.Fin->Shared->Prop} (ho:s.heap.get? a=some (seqObj "list" vs.toArray n))
  (O:kB lt vs.length) (h64:vs.length < 64)
  (hk:∀ h',(∀ b o,b≠a->s.heap.get? b=some o->h'.get? b=some o)->2<=vs.length->B3 prog w A vs lt {s with heap:=h'})
  (h:∀ p:Array Nat,cj vs.length p->xf lt p vs.length->P (.done (.ret .none)) {s with heap:=sortedHeap s.heap a vs (p.toList.map fun i=>vs.getD i Value.none).toArray}) :
  wpAny (model prog w) A (Builtin.«list.sort» ⟨[.ref a],[]⟩) P E s:=by
 rw [list_sort_plain]
 have ha:a < s.heap.objs.size:=Pp ho
 refine Ph (listItems_at ho rfl ?_)
 refine Ph (listUpdate_at ho rfl ?_)
 obtain ⟨e1,ho1⟩:∃ e1,(s.heap.update a (Obj.mapSeq fun _=>#[])).get? a=some (seqObj "list" #[] e1):=⟨_,get?_update_seq ho (fun _=>#[])⟩
 refine Ph (seqEpoch_at ho1 rfl ?_)
 refine Ph (wpAny_newTuple ?_)
 refine Ph (Tf ?_)
 refine Qk ?_
 have ho6:(((s.heap.update a (Obj.mapSeq fun _=>#[])).push (seqObj "tuple" vs.toArray 0)).push (seqObj "list" #[] 0)).get? a=some (seqObj "list" #[] e1):=by
  rw [QT _ _ _ (by rw [size_push',RO];exact PM (Qx ha)),QT _ _ _ (by rw [RO];exact PM ha)]
  exact ho1
 show wpAny (model prog w) A _ P E {s with heap:=((s.heap.update a (Obj.mapSeq fun _=>#[])).push (seqObj "tuple" vs.toArray 0)).push (seqObj "list" #[] 0)}
 dsimp only
 by_cases h2:vs.toArray.size < 2
 ·rw [if_pos h2,if_pos h2]
  refine Ph (Pk ?_)
  rw [StateT.run_pure]
  refine Ph (Pk ?_)
  dsimp only
  refine Ph (seqEpoch_at ho6 rfl ?_)
  refine Ph (listUpdate_at ho6 rfl ?_ (hsz2:=by rw [Array.size_map];show (pairsOf vs).size<=_;rw [pairsOf_size,QH];omega))
  simp only [Tz,PB,Qm]
  have hl:vs.length < 2:=by simpa using h2
  have e:(arrOf (SortSt.mk' general' (vs.toArray.zip vs.toArray) #[] 7 none)).map (·.2)=(((List.range vs.length).toArray).toList.map fun i=>vs.getD i Value.none).toArray:=by
   show (vs.toArray.zip vs.toArray).map (·.2)=_
   match vs,hl with
   | [],_=>simp
   | [x],_=>simp [List.range_succ]
  rw [e]
  exact Pk (h _ ⟨List.Perm.refl _⟩ fun i j h1 h2=>by omega)
 ·rw [if_neg h2,if_neg h2]
  have hl:2<=vs.length:=by simp at h2;exact h2
  refine Ph (Q9 (hk _ (fun b o hb q=>?_) hl) (fun κ s' hκ=>?_) fun _ _ x=>x.elim)
  ·have hbs:b < s.heap.objs.size:=Pp q
   rw [QT _ _ _ (by rw [size_push',RO];exact PM (Qx hbs)),QT _ _ _ (by rw [RO];exact PM hbs),To _ _ _ _ hb]
   exact q
  ·obtain ⟨rfl,hc⟩:=hκ
   refine Ph (Q9 (kat_run (E:=E) (vs:=vs) (ks:=vs) (κ:=κ) (G:=fun p s'=>s'={s with heap:=((s.heap.update a (Obj.mapSeq fun _=>#[])).push (seqObj "tuple" vs.toArray 0)).push (seqObj "list" #[] 0)}/\cj vs.length p/\xf lt p vs.length)
    (Q:=fun st' s'=>s'={s with heap:=((s.heap.update a (Obj.mapSeq fun _=>#[])).push (seqObj "tuple" vs.toArray 0)).push (seqObj "list" #[] 0)}/\failedOf st'=none/\∃ p,cj vs.length p/\xf lt p vs.length/\(arrOf st').map (·.2)=List.toArray (p.toList.map fun i=>vs.getD i Value.none))
    rfl hl h64 (fun p st' s' a1 a2 a3 a4=>⟨a4.1,a3,p,a4.2.1,a4.2.2,kat_snds rfl a2⟩) ?_) ?_ fun _ _ e=>e)
   ·refine KasT.Dh (lt:=lt) (n:=vs.length) (P:=fun p=>cj vs.length p/\xf lt p vs.length) (I:=fun s'=>s'={s with heap:=((s.heap.update a (Obj.mapSeq fun _=>#[])).push (seqObj "tuple" vs.toArray 0)).push (seqObj "list" #[] 0)}) ?_ ?_ _ _ (Dj O (by omega)) rfl
    ·rintro i j C s' hi hj rfl q
     exact hc i j C hi hj (q _ rfl)
    ·rintro p s' hp rfl
     exact ⟨rfl,hp⟩
   ·rintro ⟨⟨⟩,st'⟩ s' ⟨rfl,hf,p,hp,hu,e⟩
    dsimp only at hf e ⊢
    rw [e]
    refine Ph (seqEpoch_at ho6 rfl ?_)
    refine Ph (listUpdate_at ho6 rfl ?_ (hsz2:=by rw [Pu,PX,Qj,hp.size,QH];omega))
    rw [hf]
    simp only [Tz,PB,Qm]
    exact Pk (h p hp hu)
theorem rM {l:Addr} {vs:List Value} {lt:Nat->Nat->Bool} {Q:Value->Shared->Prop} (hl:s.heap.IsList l vs.toArray) (O:kB lt vs.length) (h64:vs.length < 64)
  (hk:∀ h',(∀ b o,s.heap.get? b=some o->h'.get? b=some o)->2<=vs.length->B3 prog w A.in1.in1 vs lt {s with heap:=h'})
  (h:∀ p:Array Nat,cj vs.length p->xf lt p vs.length->Q (.ref (s.heap.objs.size+1)) {s with heap:=sortedAll s.heap vs (p.toList.map fun i=>vs.getD i Value.none).toArray}) :
  wpAny (model prog w) A (call (.builtin "sorted") [.ref l]) Q E s:=by
 refine Sb kind_sorted plain_sorted entry_sorted (args_sorted1 _) ?_
 unfold Builtin.«sorted»
 refine Ph (m:=checkCount "sorted" 1 1 _) (Pk ?_)
 refine Ph (collect_list hl ?_)
 refine Ph (Tf ?_)
 have hsz:((s.heap.push (seqObj "list" #[] 0)).update s.heap.objs.size (Obj.mapSeq (·++vs.toArray))).objs.size=s.heap.objs.size+1:=by
  rw [RO,size_push']
 have hoL:(((s.heap.push (seqObj "list" #[] 0)).update s.heap.objs.size (Obj.mapSeq (·++vs.toArray))).push (seqObj "list" vs.toArray 0)).get? (s.heap.objs.size+1)=some (seqObj "list" vs.toArray 0):=by
  rw [<- hsz];exact Po _ rfl
 show wpAny _ _ _ _ _ {s with heap:=((s.heap.push (seqObj "list" #[] 0)).update s.heap.objs.size (Obj.mapSeq (·++vs.toArray))).push (seqObj "list" vs.toArray 0)}
 rw [hsz]
 refine Ph (Qk (Qa slot_list_sort ⟨_,hoL,rfl⟩ entry_list_sort (ja hoL O h64 (fun h' k h2=>hk h' (fun b o q=>?_) h2) fun p a1 a2=>⟨_,rfl,?_⟩) (args_list_sort _)))
 ·have hlt:b < s.heap.objs.size:=Pp q
  refine k b o (PM (Qx hlt)) ?_
  show (((s.heap.push (seqObj "list" #[] 0)).update s.heap.objs.size (Obj.mapSeq (·++vs.toArray))).push (seqObj "list" vs.toArray 0)).get? b=some o
  rw [QT _ _ _ (by rw [hsz];exact PM (Qx hlt)),To _ _ _ _ (PM hlt),QT _ _ _ (PM hlt)]
  exact q
 ·exact Pk ⟨_,rfl,h p a1 a2⟩
end
end PySem.W
namespace L2
open PySem PySem.Spec PyProof.Rows
open PySem.W (kB cj xf B3 rM KatLex kat_lt kat_one kas_mapM kas_first_eq Looks pat)
def mV (x y:Str):Bool:=decide (x.cps.toList < y.cps.toList)
theorem wc (x:Str):mV x x=false:=strKind.irrefl _
theorem zj {x y z:Str} (h:mV x y=true) (h':mV y z=true):mV x z=true:=strKind.trans _ _ _ h h'
theorem Dk {x y:Str} (h:mV x y=true):mV y x=false:=by
 cases e:mV y x with
 | false=>rfl
 | true=>have:=zj h e;rw [wc] at this;exact this.symm
theorem AB {x y:Str} (h:mV x y=false) (h':mV y x=false):x=y:=by
 have e:=strKind.total x.cps.toList y.cps.toList h h'
 cases x;cases y
 simpa using e
section
variable {P:Program} {w:World} {A:Around} {E:Value->Shared->Prop} {s:Shared}
theorem xx {M:Model} {vs:List Value} {T:Value} {Q:Option Value->Shared->Prop} (h2:1<=vs.length) (hT:∀ v∈vs,Looks M s.heap (typeOf v) T) (hT2:(T == T)=true) (h:Q (some T) s) :
  wpAny M A (oneTypeOnly' vs.toArray) Q E s:=by
 obtain ⟨v,rest,rfl⟩:∃ v rest,vs=v::rest:=by
  match vs,h2 with
  | v::r,_=>exact ⟨v,r,rfl⟩
 rw [oneTypeOnly'_eq,List.mapM_toArray,map_eq_pure_bind]
 refine Ph (Ph (kas_mapM (r:=T) _ (fun v hv Q' hq=>(hT v hv).here hq) (Pk ?_)))
 have hall:((List.map (fun _=>T) (v::rest)).toArray.all fun x=>x == T)=true:=by
  simp only [List.all_toArray,List.all_map,PH]
  intro _ _
  exact hT2
 have h0:(List.map (fun _=>T) (v::rest)).toArray[0]?=some T:=by simp
 rw [h0]
 simp only [hall,Qe]
 exact Pk h
end
section
variable {X:Cx} {k:Nat}
theorem gP {α:Type} (d:α):∀ (xs:List α),(List.range xs.length).map (fun i=>xs.getD i d)=xs
 | []=>rfl
 | x::xs=>by
  rw [PQ,List.range_succ_eq_map,P9,Ts]
  have:=gP d xs
  simp only [List.getD_cons_zero,RY,true_and]
  conv=>rhs;rw [<- this]
  exact List.map_congr_left fun i _=>by simp
theorem B4 {vs:List V} {us:List Value} (r:Vals vs us) (i:Nat) (hi:i < vs.length):RelV (vs.getD i .non) (us.getD i .none):=by
 obtain ⟨u,h1,h2⟩:=r.get (i:=i) (x:=vs[i]) (by simp [hi])
 have e1:vs.getD i .non=vs[i]:=by simp [hi]
 have e2:us.getD i .none=u:=by simp [List.getD,h1]
 rw [e1,e2]
 exact h2
theorem o6 {vs:List V} {us:List Value} (r:Vals vs us):∀ (l:List Nat),(∀ i∈l,i < vs.length)->Vals (l.map fun i=>vs.getD i .non) (l.map fun i=>us.getD i .none)
 | [],_=>.nil
 | i::l,h=>.cons (B4 r i (h i (.head _))) (o6 r l fun j hj=>h j (.tail _ hj))
theorem o7 {ds:List PyData} {vs:List V} (r:aZ H ds vs) (dd:PyData):∀ (l:List Nat),(∀ i∈l,i < vs.length)->aZ H (l.map fun i=>ds.getD i dd) (l.map fun i=>vs.getD i .non)
 | [],_=>aZ.nil
 | i::l,h=>by
  refine aZ.cons ?_ (o7 r dd l fun j hj=>h j (.tail _ hj))
  have hi:=h i (.head _)
  obtain ⟨d,h1,h2⟩:=r.get (i:=i) (v:=vs[i]) (by simp [hi])
  have e1:vs.getD i .non=vs[i]:=by simp [hi]
  have e2:ds.getD i dd=d:=by simp [List.getD,h1]
  show Rep H (ds.getD i dd) (vs.getD i .non)
  rw [e1,e2]
  exact h2
end
end L2
namespace Ml
open PySem
structure Xc where
 cls:Str
 args:List PyData
inductive D where
 | dat (d:PyData)
 | ref (i:Nat)
 | iu (t:Bool) (kvs:List (PyData×PyData))
 | set (xs:List PyData)
 | fn (n:Str)
 | exc (x:Xc)
 | scr (ns:List Int)
 | ktup (xs:List PyData)
 | rpr (x:Str)
inductive MO where
 | lst (xs:List D)
 | iu (t:Bool) (kvs:List (PyData×PyData))
 | ins (C:Str) (fs:List (Str×D))
 | tab (P:Addr) (q:Str)
abbrev Hm:=List MO
abbrev Fm:=List (Option D)
inductive R (α:Type) where
 | ok (a:α) (h:Hm)
 | exc (x:Xc) (h:Hm)
 | bad
def R.bind {α β:Type}:R α->(α->Hm->R β)->R β
 | .ok a h,f=>f a h
 | .exc x h,_=>.exc x h
 | .bad,_=>.bad
def R.xg {α:Type}:R α->R α
 | .exc _ _=>.bad
 | r=>r
@[simp] theorem R.bI {α:Type} {a:α} {h:Hm}:(R.ok a h).xg=.ok a h:=rfl
@[simp] theorem R.Mh {α:Type}:(R.bad:R α).xg=.bad:=rfl
@[simp] theorem R.Mi {α:Type} {x:Xc} {h:Hm}:(R.exc x h:R α).xg=.bad:=rfl
@[simp] theorem R.ay {α β:Type} {a:α} {h:Hm} {f:α->Hm->R β}:(R.ok a h).bind f=f a h:=rfl
@[simp] theorem R.Dn {α β:Type} {x:Xc} {h:Hm} {f:α->Hm->R β}:(R.exc x h).bind f=.exc x h:=rfl
@[simp] theorem R.Ls {α β:Type} {f:α->Hm->R β}:R.bad.bind f=.bad:=rfl
theorem R.bind_assoc {α β γ:Type} (r:R α) (f:α->Hm->R β) (g:β->Hm->R γ):(r.bind f).bind g=r.bind fun a h=>(f a h).bind g:=by cases r<;>rfl
abbrev ME:=Fm->Hm->R D
abbrev MT:=Fm->Hm->R Bool
abbrev MA:=Fm->Hm->R (List D)
inductive Fl where
 | nx (ρ:Fm)
 | rt (d:D)
 | bk (ρ:Fm)
 | ct (ρ:Fm)
abbrev MS:=Fm->Hm->R Fl
abbrev Fn:=List D->Hm->R D
abbrev D.none:D:=.dat .none
abbrev D.bool (b:Bool):D:=.dat (.bool b)
abbrev D.int (i:Int):D:=.dat (.int i)
abbrev D.str (s:Str):D:=.dat (.str s)
def ae (i:Nat):ME:=fun ρ h=>match ρ[i]? with
 | some (some d)=>.ok d h
 | _=>.bad
def aj (d:PyData):ME:=fun _ h=>.ok (.dat d) h
def OY (n:Str):ME:=fun _ h=>.ok (.fn n) h
def ag:MA:=fun _ h=>.ok [] h
def aa (e:ME) (a:MA):MA:=fun ρ h=>(e ρ h).bind fun x h1=>(a ρ h1).bind fun xs h2=>.ok (x::xs) h2
def aq (f:D->D->Hm->R D) (a b:ME):ME:=fun ρ h=>(a ρ h).bind fun x h1=>(b ρ h1).bind fun y h2=>f x y h2
def HL (f:D->Hm->R D) (a:ME):ME:=fun ρ h=>(a ρ h).bind fun x h1=>f x h1
def af (f:Fn) (a:MA):ME:=fun ρ h=>(a ρ h).bind fun xs h1=>f xs h1
def aN (e:ME):MT:=fun ρ h=>(e ρ h).bind fun x h1=>match x with
 | .dat (.bool b)=>.ok b h1
 | _=>.bad
def ki (t:MT):MT:=fun ρ h=>(t ρ h).bind fun b h1=>.ok (!b) h1
def vR (t u:MT):MT:=fun ρ h=>(t ρ h).bind fun b h1=>if b then u ρ h1 else .ok false h1
def yT (t u:MT):MT:=fun ρ h=>(t ρ h).bind fun b h1=>if b then .ok true h1 else u ρ h1
def Ny (a b:ME):ME:=fun ρ h=>(aN a ρ h).bind fun c h1=>if c then b ρ h1 else .ok (.bool false) h1
def OZ (a b:ME):ME:=fun ρ h=>(aN a ρ h).bind fun c h1=>if c then .ok (.bool true) h1 else b ρ h1
def Nz (a:ME):ME:=fun ρ h=>(aN a ρ h).bind fun c h1=>.ok (.bool !c) h1
def O0 (t:MT) (a b:ME):ME:=fun ρ h=>(t ρ h).bind fun c h1=>if c then a ρ h1 else b ρ h1
def D.data:D->Option PyData
 | .dat d=>some d
 | _=>Option.none
def hE:List D->Option (List PyData)
 | []=>some []
 | x::xs=>match x.data,hE xs with
  | some d,some ds=>some (d::ds)
  | _,_=>Option.none
theorem lJ (ds:List PyData):hE (ds.map D.dat)=some ds:=by
 induction ds with
 | nil=>rfl
 | cons d ds ih=>simp [hE,D.data,ih]
def mi (n:Nat):Bool:=decide (n<=16777216)
def j8 (xs:List D) (h:Hm):R D:=match hE xs with
 | some ds=>if mi ds.length then .ok (.dat (.tuple ds)) h else .bad
 | Option.none=>.bad
def gH (xs:List D) (h:Hm):R D:=match hE xs with
 | some ds=>if mi ds.length then .ok (.dat (.list ds)) h else .bad
 | Option.none=>.bad
def AD (xs:List D) (h:Hm):R D:=if mi xs.length then .ok (.ref h.length) (h++[.lst xs]) else .bad
def bL (a:MA):ME:=af j8 a
def uo (a:MA):ME:=af gH a
def jG (a:MA):ME:=af AD a
def dI:MS:=fun ρ h=>.ok (.nx ρ) h
def bh (a b:MS):MS:=fun ρ h=>(a ρ h).bind fun f h1=>match f with
 | .nx ρ1=>b ρ1 h1
 | f=>.ok f h1
def bT (i:Nat) (e:ME):MS:=fun ρ h=>(e ρ h).bind fun x h1=>.ok (.nx (ρ.set i (some x))) h1
def gp (e:ME):MS:=fun ρ h=>(e ρ h).bind fun _ h1=>.ok (.nx ρ) h1
def cG (e:ME):MS:=fun ρ h=>(e ρ h).bind fun x h1=>.ok (.rt x) h1
def mW (t:MT) (a b:MS):MS:=fun ρ h=>(t ρ h).bind fun c h1=>if c then a ρ h1 else b ρ h1
def Jw:MS:=fun ρ h=>.ok (.bk ρ) h
def Lu:MS:=fun ρ h=>.ok (.ct ρ) h
abbrev MG:=D->Fm->Hm->R Fm
def aB (i:Nat):MG:=fun x ρ h=>.ok (ρ.set i (some x)) h
abbrev AE:=List D->Fm->Hm->R Fm
def ip:AE:=fun xs ρ h=>match xs with
 | []=>.ok ρ h
 | _=>.bad
def bR (g:MG) (gs:AE):AE:=fun xs ρ h=>match xs with
 | []=>.bad
 | x::xs=>(g x ρ h).bind fun ρ1 h1=>gs xs ρ1 h1
def iq (gs:AE):MG:=fun x ρ h=>match x with
 | .dat (.tuple ds)=>gs (ds.map D.dat) ρ h
 | _=>.bad
def kC (g:MG) (e:ME):MS:=fun ρ h=>(e ρ h).bind fun x h1=>(g x ρ h1).bind fun ρ1 h2=>.ok (.nx ρ1) h2
def kD:List Nat->List D->Fm->Option Fm
 | [],[],ρ=>some ρ
 | i::is,x::xs,ρ=>kD is xs (ρ.set i (some x))
 | _,_,_=>Option.none
def Dq (is:List Nat) (a:MA):MS:=fun ρ h=>(a ρ h).bind fun xs h1=>match kD is xs ρ with
 | some ρ1=>.ok (.nx ρ1) h1
 | Option.none=>.bad
def AF (e:ME):MA:=fun ρ h=>(e ρ h).bind fun x h1=>match x with
 | .dat (.tuple ds)=>.ok (ds.map D.dat) h1
 | _=>.bad
def Dr (e:ME):MA:=fun ρ h=>(e ρ h).bind fun x h1=>match x with
 | .dat (.list ds)=>.ok (ds.map D.dat) h1
 | _=>.bad
def signs (x:Str):List D:=(List.range x.cps.size).map fun (i:Nat)=>D.str ⟨#[x.cps.getD i 0]⟩
def Ds (e:ME):MA:=fun ρ h=>(e ρ h).bind fun x h1=>match x with
 | .dat (.str s)=>.ok (signs s) h1
 | _=>.bad
def nums (lo:Int) (n:Nat):List D:=(List.range n).map fun (i:Nat)=>D.int (lo+(i:Int))
def jt (a:MA):MA:=fun ρ h=>(a ρ h).bind fun xs h1=>match xs with
 | [.dat (.int j)]=>if -(2 ^ 62)<=j/\j < 2 ^ 62 then .ok (nums 0 j.toNat) h1 else .bad
 | _=>.bad
def Jx (a:MA):MA:=fun ρ h=>(a ρ h).bind fun xs h1=>match xs with
 | [.dat (.int i),.dat (.int j)]=>if -(2 ^ 62)<=i/\i < 2 ^ 62/\-(2 ^ 62)<=j/\j < 2 ^ 62 then .ok (nums i (j - i).toNat) h1 else .bad
 | _=>.bad
def mj:List PyData->List PyData->List D
 | x::xs,y::ys=>.dat (.tuple [x,y])::mj xs ys
 | _,_=>[]
def AG (a:MA):MA:=fun ρ h=>(a ρ h).bind fun xs h1=>match xs with
 | [.dat (.tuple ds),.dat (.tuple es)]=>.ok (mj ds es) h1
 | _=>.bad
def cV (g:MG) (b:MS):List D->Fm->Hm->R Fl
 | [],ρ,h=>.ok (.nx ρ) h
 | x::xs,ρ,h=>(g x ρ h).xg.bind fun ρ1 h1=>(b ρ1 h1).xg.bind fun f h2=>match f with
  | .nx ρ2=>cV g b xs ρ2 h2
  | .ct ρ2=>cV g b xs ρ2 h2
  | .bk ρ2=>.ok (.nx ρ2) h2
  | .rt d=>.ok (.rt d) h2
def qE (it:MA) (g:MG) (b:MS):MS:=fun ρ h=>(it ρ h).xg.bind fun xs h1=>cV g b xs ρ h1
def eh (n:Nat) (ρ:Fm) (g:MG) (t:MT) (e:ME):List D->Hm->R (List D)
 | [],h=>.ok [] h
 | x::xs,h=>(g x (List.replicate n none++ρ) h).xg.bind fun ρ1 h1=>(t ρ1 h1).xg.bind fun c h2=>
  if c then (e ρ1 h2).xg.bind fun y h3=>(eh n ρ g t e xs h3).bind fun ys h4=>.ok (y::ys) h4
  else eh n ρ g t e xs h2
def fH:MT:=fun _ h=>.ok true h
def mC (n:Nat) (it:MA) (g:MG) (t:MT) (e:ME):MA:=fun ρ h=>(it ρ h).bind fun xs h1=>if mi xs.length then eh n ρ g t e xs h1 else .bad
def cC (n:Nat) (it:MA) (g:MG) (t:MT) (e:ME):ME:=af gH (mC n it g t e)
def rN:Fl->Hm->R D
 | .rt d,h=>.ok d h
 | .nx _,h=>.ok D.none h
 | _,_=>.bad
def bE (p n:Nat) (b:MS):Fn:=fun xs h=>if xs.length=p then (b (xs.map some++List.replicate (n - p) none) h).bind rN else .bad
def D.below (n:Nat):D->Bool
 | .ref i=>decide (i < n)
 | _=>true
def MO.below (n:Nat):MO->Bool
 | .lst xs=>xs.all (D.below n)
 | .iu _ _=>true
 | .ins _ fs=>fs.all fun p=>p.2.below n
 | .tab _ _=>true
def gq (f:Fn):Fn:=fun xs h=>match f xs h with
 | .ok d h'=>if d.below h.length && (h'.take h.length).all (MO.below h.length) && decide (h.length<=h'.length) then .ok d (h'.take h.length) else .bad
 | .exc x h'=>if (h'.take h.length).all (MO.below h.length) && decide (h.length<=h'.length) then .exc x (h'.take h.length) else .bad
 | .bad=>.bad
def jr (f:D->Option PyData):List D->Option (List PyData)
 | []=>some []
 | x::xs=>match f x,jr f xs with
  | some d,some ds=>some (d::ds)
  | _,_=>Option.none
def uX (h:Hm):Nat->D->Option PyData
 | _,.dat d=>some d
 | _,.ktup xs=>some (.tuple xs)
 | n+1,.ref i=>match h[i]? with
  | some (.lst xs)=>(jr (uX h n) xs).map .list
  | _=>Option.none
 | _,_=>Option.none
abbrev qP (h:Hm) (x:D):Option PyData:=uX h 3 x
@[simp] theorem jH (h:Hm) (n:Nat) (d:PyData):uX h n (.dat d)=some d:=by cases n<;>rfl
def listOf (x:D) (h:Hm):Option (List PyData):=match x with
 | .dat (.list ds)=>some ds
 | .ref i=>match h[i]? with
  | some (.lst ys)=>hE ys
  | _=>Option.none
 | _=>Option.none
def dH (x y:D) (h:Hm):R D:=match x,y with
 | .dat (.int i),.dat (.int j)=>.ok (.int (i+j)) h
 | .dat (.str s),.dat (.str t)=>if mi (s.length+t.length) then .ok (.str (s++t)) h else .bad
 | .dat (.tuple xs),.dat (.tuple ys)=>if mi (xs.length+ys.length) then .ok (.dat (.tuple (xs++ys))) h else .bad
 | .dat (.list xs),.dat (.list ys)=>if mi (xs.length+ys.length) then .ok (.dat (.list (xs++ys))) h else .bad
 | _,_=>.bad
def Dt (x y:D) (h:Hm):R D:=match x,y with
 | .dat (.int i),.dat (.int j)=>.ok (.int (i - j)) h
 | _,_=>.bad
def AH (i j:Int):Bool:=(decide (-(2 ^ 64) < i) && decide (i < 2 ^ 64)) || (decide (-(2 ^ 64) < j) && decide (j < 2 ^ 64))
def kE (x y:D) (h:Hm):R D:=match x,y with
 | .dat (.int i),.dat (.int j)=>if AH i j then .ok (.int (i * j)) h else .bad
 | .dat (.list xs),.dat (.int k)=>if mi (xs.length * k.toNat) && decide (-(2 ^ 63)<=k) && decide (k < 2 ^ 63) then .ok (.dat (.list (List.replicate k.toNat xs).flatten)) h else .bad
 | _,_=>.bad
def oMod (x y:D) (h:Hm):R D:=match x,y with
 | .dat (.int i),.dat (.int j)=>if 0 < j then .ok (.int (i % j)) h else .bad
 | _,_=>.bad
def uY (x y:D) (h:Hm):R D:=match x,y with
 | .dat (.int i),.dat (.int j)=>if 0 < j/\j < 1073741824 then .ok (.int (i / j)) h else .bad
 | _,_=>.bad
def NA (x:D) (h:Hm):R D:=match x with
 | .dat (.int i)=>.ok (.int (-i)) h
 | _=>.bad
def noDict (d:PyData):Bool:=!d.hasDict
def eqQ (d e:PyData):Option Bool:=if noDict d && noDict e && decide (min d.depth e.depth<=40) then some (PyData.eqv d e) else Option.none
def B5 (d e:PyData):Option Bool:=match d,e with
 | .str _,.dict _=>some false
 | .tuple ds,.dict _=>if noDict (.tuple ds) then some false else Option.none
 | d,e=>eqQ d e
def oEq (x y:D) (h:Hm):R D:=match x,y with
 | .rpr s,.rpr t=>.ok (.bool (decide (s=t))) h
 | x,y=>match qP h x,qP h y with
  | some d,some e=>match eqQ d e with
   | some b=>.ok (.bool b) h
   | Option.none=>.bad
  | _,_=>.bad
def nE (x y:D) (h:Hm):R D:=match x,y with
 | .rpr s,.rpr t=>.ok (.bool (!decide (s=t))) h
 | x,y=>match qP h x,qP h y with
  | some d,some e=>match eqQ d e with
   | some b=>.ok (.bool !b) h
   | Option.none=>.bad
  | _,_=>.bad
def mV (x y:Str):Bool:=decide (x.cps.toList < y.cps.toList)
mutual
def bJ:PyData->PyData->Option Bool
 | .int i,.int j=>some (decide (i < j))
 | .str x,.str y=>some (mV x y)
 | .tuple xs,.tuple ys=>cH xs ys
 | _,_=>Option.none
def cH:List PyData->List PyData->Option Bool
 | [],[]=>some false
 | [],_::_=>some true
 | _::_,[]=>some false
 | x::xs,y::ys=>if PyData.eqv x y then cH xs ys else bJ x y
end
def oLt (x y:D) (h:Hm):R D:=match x,y with
 | .dat d,.dat e=>if noDict d && noDict e && decide (min d.depth e.depth<=40) then match bJ d e with
  | some b=>.ok (.bool b) h
  | Option.none=>.bad
  else .bad
 | _,_=>.bad
def oLe (x y:D) (h:Hm):R D:=match x,y with
 | .dat (.int i),.dat (.int j)=>.ok (.bool (decide (i<=j))) h
 | .dat (.str s),.dat (.str t)=>.ok (.bool (!mV t s)) h
 | _,_=>.bad
def Mj (x y:D) (h:Hm):R D:=match x,y with
 | .dat (.int i),.dat (.int j)=>.ok (.bool (decide (j < i))) h
 | _,_=>.bad
def Lv (x y:D) (h:Hm):R D:=match x,y with
 | .dat (.int i),.dat (.int j)=>.ok (.bool (decide (j<=i))) h
 | _,_=>.bad
def CD (x:PyData):List PyData->Option Bool
 | []=>some false
 | y::ys=>match B5 y x,CD x ys with
  | some a,some b=>some (a || b)
  | _,_=>Option.none
def fM:PyData->Bool
 | .tuple _=>true
 | _=>false
def fN:PyData->Bool
 | .str _=>true
 | _=>false
def nO (k:PyData) (kvs:List (PyData×PyData)):Bool:=kvs.any fun p=>PyData.eqv p.1 k
def gI (y:D) (h:Hm):Option (Bool×List (PyData×PyData)):=match y with
 | .iu t kvs=>some (t,kvs)
 | .ref i=>match h[i]? with
  | some (.iu t kvs)=>some (t,kvs)
  | _=>Option.none
 | _=>Option.none
mutual
def av:PyData->Bool
 | .str _=>true
 | .tuple ds=>aX ds
 | _=>false
def aX:List PyData->Bool
 | []=>true
 | d::ds=>av d && aX ds
end
def keyOk (t:Bool) (k:PyData):Bool:=if t then fM k && av k && decide (k.depth<=8) else fN k
def we (x:D) (kvs:List (PyData×PyData)) (t:Bool):Option Bool:=match x with
 | .dat d=>if keyOk t d then some (nO d kvs) else Option.none
 | _=>Option.none
def nP (x y:D) (h:Hm):Option Bool:=match y with
 | .dat (.str s)=>match x with
  | .dat (.str t)=>some (!(Builtin.Str.occurrences s t 0 s.length 1).isEmpty)
  | _=>Option.none
 | y=>match qP h x,qP h y with
  | some d,some (.tuple ds)=>CD d ds
  | some d,some (.list ds)=>CD d ds
  | _,_=>Option.none
def findIn (x y:D) (h:Hm):Option Bool:=match gI y h with
 | some p=>we x p.2 p.1
 | Option.none=>nP x y h
def nQ (x y:D) (h:Hm):R D:=match findIn x y h with
 | some b=>.ok (.bool b) h
 | Option.none=>.bad
def wg (x y:D) (h:Hm):R D:=match findIn x y h with
 | some b=>.ok (.bool !b) h
 | Option.none=>.bad
def kF:PyData->Bool
 | .none | .bool _ | .int _ | .str _=>true
 | _=>false
def dput (kvs:List (PyData×PyData)) (k v:PyData):List (PyData×PyData):=
 if nO k kvs then kvs.map (fun p=>if PyData.eqv p.1 k then (p.1,v) else p) else kvs++[(k,v)]
def rO (kvs:List (PyData×PyData)) (k:PyData):Option PyData:=(kvs.find? fun p=>PyData.eqv p.1 k).map (·.2)
def uc (n:Nat) (i:Int):Option Nat:=if 0<=i then (if i < n then some i.toNat else Option.none) else if -(n:Int)<=i then some (i+n).toNat else Option.none
def mf {α:Type} (xs:List α) (i:Int):Option α:=(uc xs.length i).bind fun j=>xs[j]?
def qF (x y:D) (h:Hm):R D:=match y with
 | .dat (.int i)=>match x with
  | .dat (.tuple ds)=>match mf ds i with | some d=>.ok (.dat d) h | Option.none=>.bad
  | .dat (.list ds)=>match mf ds i with | some d=>.ok (.dat d) h | Option.none=>.bad
  | .ref j=>match h[j]? with
   | some (.lst xs)=>match mf xs i with | some d=>.ok d h | Option.none=>.bad
   | _=>.bad
  | .scr ns=>match mf ns i with | some n=>.ok (.int n) h | Option.none=>.bad
  | _=>.bad
 | _=>.bad
def dQ (x y:D) (h:Hm):R D:=match gI x h with
 | some p=>match y with
  | .dat (.str k)=>if p.1 then .bad else match rO p.2 (.str k) with
   | some v=>.ok (.dat v) h
   | Option.none=>.bad
  | _=>.bad
 | Option.none=>qF x y h
def eI (n d:Nat):Option Int->Nat
 | Option.none=>d
 | some v=>if v < 0 then (v+(n:Int)).toNat else min v.toNat n
def cut {α:Type} (ds:List α) (lo hi:Option Int):List α:=(ds.drop (eI ds.length 0 lo)).take (eI ds.length ds.length hi - eI ds.length 0 lo)
abbrev Fs:=Fm->Hm->R (Option Int)
def AI:Fs:=fun _ h=>.ok Option.none h
def mD (e:ME):Fs:=fun ρ h=>(e ρ h).bind fun x h1=>match x with
 | .dat (.int i)=>.ok (some i) h1
 | _=>.bad
def Lw (x:D) (lo hi:Option Int) (h:Hm):R D:=match x with
 | .dat (.tuple ds)=>.ok (.dat (.tuple (cut ds lo hi))) h
 | .dat (.list ds)=>.ok (.dat (.list (cut ds lo hi))) h
 | _=>.bad
def Mk (e:ME) (lo hi:Fs):ME:=fun ρ h=>(e ρ h).bind fun x h1=>(lo ρ h1).bind fun l h2=>(hi ρ h2).bind fun u h3=>Lw x l u h3
def fO:Fn:=fun xs h=>match xs with
 | [.dat (.str s)]=>if mi s.length then .ok (.int s.length) h else .bad
 | [.dat (.tuple ds)]=>.ok (.int ds.length) h
 | [.dat (.list ds)]=>.ok (.int ds.length) h
 | [.ref i]=>match h[i]? with
  | some (.lst ys)=>.ok (.int ys.length) h
  | _=>.bad
 | [.scr ns]=>.ok (.int ns.length) h
 | _=>.bad
def bools:List PyData->Option (List Bool)
 | []=>some []
 | .bool b::ds=>(bools ds).map (b::·)
 | _=>Option.none
theorem B6 (bs:List Bool):bools (bs.map .bool)=some bs:=by
 induction bs with
 | nil=>rfl
 | cons b bs ih=>simp [bools,ih]
def wj:Fn:=fun xs h=>match xs with
 | [.dat (.list ds)]=>match bools ds with
  | some bs=>.ok (.bool (bs.all id)) h
  | Option.none=>.bad
 | _=>.bad
def isTup:PyData->Bool | .tuple _=>true | _=>false
def isStr:PyData->Bool | .str _=>true | _=>false
def isInt:PyData->Bool | .int _ | .bool _=>true | _=>false
def rP:PyData->Bool | .bool _=>true | _=>false
def xy (f:PyData->Bool):D->Hm->R D:=fun x h=>match x with
 | .dat d=>.ok (.bool (f d)) h
 | _=>.bad
def hG (x:Str):List PyData:=(List.range x.cps.size).map fun (i:Nat)=>.str ⟨#[x.cps.getD i 0]⟩
def cW:Fn:=fun xs h=>match xs with
 | [.dat (.tuple ds)]=>.ok (.dat (.tuple ds)) h
 | [.dat (.str s)]=>if mi s.cps.size then .ok (.dat (.tuple (hG s))) h else .bad
 | [x]=>match listOf x h with
  | some ds=>.ok (.dat (.tuple ds)) h
  | Option.none=>.bad
 | _=>.bad
def rQ:Fn:=fun xs h=>match xs with
 | [.dat (.tuple ds)]=>.ok (.dat (.list ds)) h
 | [x]=>match listOf x h with
  | some ds=>.ok (.dat (.list ds)) h
  | Option.none=>.bad
 | _=>.bad
def zk (lt:PyData->PyData->Bool) (x:PyData):List PyData->List PyData
 | []=>[x]
 | y::ys=>if lt y x then y::zk lt x ys else x::y::ys
def cx (lt:PyData->PyData->Bool):List PyData->List PyData
 | []=>[]
 | x::xs=>zk lt x (cx lt xs)
def ltB (d e:PyData):Bool:=(bJ d e).getD false
def xA (d:PyData):Bool:=d.showable && noDict d && decide (d.depth<=40) && mi d.shown.length
def Du (d:PyData):Bool:=match d with
 | .dict _=>d.showable && decide (d.depth<=20) && mi d.shown.length
 | _=>false
def iD:Fn:=fun xs h=>match xs with
 | [x]=>match qP h x with
  | some d=>if xA d || Du d then .ok (.rpr d.shown) h else .bad
  | Option.none=>.bad
 | _=>.bad
def nR:Fn:=fun xs h=>match xs with
 | [.dat (.int i),.dat (.int j)]=>if 0 < j/\j < 1073741824 then .ok (.dat (.tuple [.int (i / j),.int (i % j)])) h else .bad
 | _=>.bad
def B7:Fn:=fun xs h=>match xs with
 | [.dat (.int i),.dat (.int j)]=>.ok (.int (if j > i then j else i)) h
 | _=>.bad
def rR:Fn:=fun xs h=>match xs with
 | [.dat (.int i)]=>.ok (.int i) h
 | [.dat (.bool b)]=>.ok (.int (if b then 1 else 0)) h
 | _=>.bad
def dR (x y:D) (h:Hm):R D:=match x with
 | .ref i=>match h[i]? with
  | some (.lst xs)=>if decide (xs.length < 16777216) then .ok D.none (h.set i (.lst (xs++[y]))) else .bad
  | _=>.bad
 | _=>.bad
def o8 (x y:D) (h:Hm):R D:=match x,y with
 | .ref i,.dat (.int k)=>match h[i]? with
  | some (.lst xs)=>if 0<=k/\k < xs.length/\k < 1000000 then match xs[k.toNat]? with
    | some d=>.ok d (h.set i (.lst (xs.eraseIdx k.toNat)))
    | Option.none=>.bad
   else .bad
  | _=>.bad
 | _,_=>.bad
def AJ (x y v:D) (h:Hm):R Unit:=match x,y with
 | .ref i,.dat (.int k)=>match h[i]? with
  | some (.lst xs)=>match uc xs.length k with
   | some j=>.ok () (h.set i (.lst (xs.set j v)))
   | Option.none=>.bad
  | _=>.bad
 | _,_=>.bad
def HM (i:Nat) (t:Bool) (kvs:List (PyData×PyData)) (y v:D) (h:Hm):R Unit:=match y,v with
 | .dat k,.dat d=>if keyOk t k && (t || kF d) && decide (kvs.length < 16777216) then .ok () (h.set i (.iu t (dput kvs k d))) else .bad
 | _,_=>.bad
def wk (x y v:D) (h:Hm):R Unit:=match x with
 | .ref i=>match h[i]? with
  | some (.iu t kvs)=>HM i t kvs y v h
  | _=>AJ x y v h
 | _=>.bad
def xk (eo ei:ME):MG:=fun v ρ h=>(eo ρ h).bind fun o h1=>(ei ρ h1).bind fun i h2=>(wk o i v h2).bind fun _ h3=>.ok ρ h3
def truth (x:D) (h:Hm):Option Bool:=match x with
 | .dat .none=>some false
 | .dat (.bool b)=>some b
 | .dat (.int i)=>some (i != 0)
 | .dat (.str s)=>if mi s.length then some ((s.length:Int) != 0) else Option.none
 | .dat (.tuple ds)=>some !ds.isEmpty
 | .dat (.list ds)=>some !ds.isEmpty
 | .ref i=>match h[i]? with
  | some (.lst xs)=>some !xs.isEmpty
  | _=>Option.none
 | _=>Option.none
def cM (e:ME):MT:=fun ρ h=>(e ρ h).bind fun x h1=>match truth x h1 with
 | some b=>.ok b h1
 | Option.none=>.bad
mutual
def bY:PyData->Bool
 | .str x=>PyData.strOk x
 | .list xs | .tuple xs=>cy xs
 | _=>true
def cy:List PyData->Bool
 | []=>true
 | x::xs=>bY x && cy xs
end
mutual
theorem jb:∀ {d:PyData},bY d=true->d.hasDict=false->d.canLay0=true
 | .none,_,_=>by simp [PyData.canLay0]
 | .bool _,_,_=>by simp [PyData.canLay0]
 | .int _,_,_=>by simp [PyData.canLay0]
 | .str x,h,_=>by simp only [bY] at h;simpa [PyData.canLay0] using h
 | .tuple ds,h,k=>by simp only [bY] at h;simp only [PyData.hasDict] at k;simp only [PyData.canLay0];exact lK h k
 | .list ds,h,k=>by simp only [bY] at h;simp only [PyData.hasDict] at k;simp only [PyData.canLay0];exact lK h k
 | .dict _,_,k=>by simp [PyData.hasDict] at k
theorem lK:∀ {ds:List PyData},cy ds=true->PyData.hasDictAll ds=false->PyData.canLayAll0 ds=true
 | [],_,_=>by simp [PyData.canLayAll0]
 | d::ds,h,k=>by
  simp only [cy,Pl] at h
  simp only [PyData.hasDictAll,Bool.or_eq_false_iff] at k
  simp only [PyData.canLayAll0,Pl]
  exact ⟨jb h.1 k.1,lK h.2 k.2⟩
end
mutual
def ai:PyData->Bool
 | .int _ | .str _=>true
 | .tuple ds=>au ds
 | _=>false
def au:List PyData->Bool
 | []=>true
 | d::ds=>ai d && au ds
end
theorem aM:∀ {ds:List PyData} {d:PyData},au ds=true->d∈ds->ai d=true
 | _::_,d,h,m=>by
  simp only [au,Pl] at h
  rcases Pn.mp m with rfl | m
  ·exact h.1
  ·exact aM h.2 m
theorem iE:∀ {ds:List PyData},(∀ d∈ds,ai d=true)->au ds=true
 | [],_=>by simp [au]
 | d::ds,h=>by simp only [au,Pl];exact ⟨h d (by simp),iE fun e m=>h e (by simp [m])⟩
mutual
theorem kG:∀ {d e:PyData},ai d=true->ai e=true->(PyData.eqv d e=true<->d=e)
 | .int i,.int j,_,_=>by simp [PyData.eqv]
 | .str x,.str y,_,_=>by simp [PyData.eqv]
 | .tuple xs,.tuple ys,h,k=>by
  simp only [ai] at h k
  simp only [PyData.eqv,RV]
  exact uZ h k
 | .int _,.str _,_,_=>by simp [PyData.eqv]
 | .int _,.tuple _,_,_=>by simp [PyData.eqv]
 | .str _,.int _,_,_=>by simp [PyData.eqv]
 | .str _,.tuple _,_,_=>by simp [PyData.eqv]
 | .tuple _,.int _,_,_=>by simp [PyData.eqv]
 | .tuple _,.str _,_,_=>by simp [PyData.eqv]
 | .none,_,h,_=>by simp [ai] at h
 | .bool _,_,h,_=>by simp [ai] at h
 | .list _,_,h,_=>by simp [ai] at h
 | .dict _,_,h,_=>by simp [ai] at h
 | .int _,.none,_,h=>by simp [ai] at h
 | .int _,.bool _,_,h=>by simp [ai] at h
 | .int _,.list _,_,h=>by simp [ai] at h
 | .int _,.dict _,_,h=>by simp [ai] at h
 | .str _,.none,_,h=>by simp [ai] at h
 | .str _,.bool _,_,h=>by simp [ai] at h
 | .str _,.list _,_,h=>by simp [ai] at h
 | .str _,.dict _,_,h=>by simp [ai] at h
 | .tuple _,.none,_,h=>by simp [ai] at h
 | .tuple _,.bool _,_,h=>by simp [ai] at h
 | .tuple _,.list _,_,h=>by simp [ai] at h
 | .tuple _,.dict _,_,h=>by simp [ai] at h
theorem uZ:∀ {xs ys:List PyData},au xs=true->au ys=true->(PyData.eqvAll xs ys=true<->xs=ys)
 | [],[],_,_=>by simp [PyData.eqvAll]
 | [],_::_,_,_=>by simp [PyData.eqvAll]
 | _::_,[],_,_=>by simp [PyData.eqvAll]
 | x::xs,y::ys,h,k=>by
  simp only [au,Pl] at h k
  simp only [PyData.eqvAll,Pl,RY]
  rw [kG h.1 k.1,uZ h.2 k.2]
end
mutual
theorem bZ:∀ {d:PyData},ai d=true->d.hasDict=false
 | .int _,_=>rfl
 | .str _,_=>rfl
 | .tuple ds,h=>by simp only [ai] at h;simp only [PyData.hasDict];exact fg h
 | .none,h=>by simp [ai] at h
 | .bool _,h=>by simp [ai] at h
 | .list _,h=>by simp [ai] at h
 | .dict _,h=>by simp [ai] at h
theorem fg:∀ {ds:List PyData},au ds=true->PyData.hasDictAll ds=false
 | [],_=>rfl
 | d::ds,h=>by
  simp only [au,Pl] at h
  simp only [PyData.hasDictAll,Bool.or_eq_false_iff]
  exact ⟨bZ h.1,fg h.2⟩
end
theorem aS {d:PyData} (h:ai d=true):PyData.eqv d d=true:=(kG h h).mpr rfl
theorem aQ {d e:PyData} (h:ai d=true) (k:ai e=true) (ne:d≠e):PyData.eqv d e=false:=by
 cases q:PyData.eqv d e with
 | false=>rfl
 | true=>exact absurd ((kG h k).mp q) ne
theorem NB {x y:Str} (h:x.cps.toList=y.cps.toList):x=y:=by
 obtain ⟨⟨a⟩⟩:=x
 obtain ⟨⟨b⟩⟩:=y
 simp at h
 subst h
 rfl
theorem wc (x:Str):mV x x=false:=PR (List.lt_irrefl _)
theorem zj {x y z:Str} (h:mV x y=true) (h':mV y z=true):mV x z=true:=PN (List.lt_trans (RE h) (RE h'))
theorem Dk {x y:Str} (h:mV x y=true):mV y x=false:=PR fun z=>List.lt_irrefl _ (List.lt_trans (RE h) z)
theorem AB {x y:Str} (h:mV x y=false) (h':mV y x=false):x=y:=
 NB (List.le_antisymm (List.not_lt.mp (of_decide_eq_false h')) (List.not_lt.mp (of_decide_eq_false h)))
mutual
theorem Dv:∀ {d e:PyData},ai d=true->ai e=true->bJ d e=some true->bJ e d=some false
 | .int i,.int j,_,_,h=>by simp [bJ] at h ⊢;omega
 | .str x,.str y,_,_,h=>by simp only [bJ,RC] at h ⊢;exact Dk h
 | .tuple xs,.tuple ys,h,k,q=>by simp only [ai] at h k;simp only [bJ] at q ⊢;exact AK h k q
 | .int _,.str _,_,_,h=>by simp [bJ] at h
 | .int _,.tuple _,_,_,h=>by simp [bJ] at h
 | .str _,.int _,_,_,h=>by simp [bJ] at h
 | .str _,.tuple _,_,_,h=>by simp [bJ] at h
 | .tuple _,.int _,_,_,h=>by simp [bJ] at h
 | .tuple _,.str _,_,_,h=>by simp [bJ] at h
 | .none,_,h,_,_=>by simp [ai] at h
 | .bool _,_,h,_,_=>by simp [ai] at h
 | .list _,_,h,_,_=>by simp [ai] at h
 | .dict _,_,h,_,_=>by simp [ai] at h
 | _,.none,_,h,_=>by simp [ai] at h
 | _,.bool _,_,h,_=>by simp [ai] at h
 | _,.list _,_,h,_=>by simp [ai] at h
 | _,.dict _,_,h,_=>by simp [ai] at h
theorem AK:∀ {xs ys:List PyData},au xs=true->au ys=true->cH xs ys=some true->cH ys xs=some false
 | [],[],_,_,h=>by simp [cH] at h
 | [],_::_,_,_,_=>by simp [cH]
 | _::_,[],_,_,h=>by simp [cH] at h
 | x::xs,y::ys,h,k,q=>by
  simp only [au,Pl] at h k
  simp only [cH] at q ⊢
  by_cases e:x=y
  ·subst e
   rw [aS h.1,if_pos rfl] at q ⊢
   exact AK h.2 k.2 q
  ·rw [aQ h.1 k.1 e,if_neg (by simp)] at q
   rw [aQ k.1 h.1 (fun z=>e z.symm),if_neg (by simp)]
   exact Dv h.1 k.1 q
end
mutual
theorem AL:∀ {d e:PyData},ai d=true->ai e=true->bJ d e=some false->bJ e d=some false->d=e
 | .int i,.int j,_,_,h,h'=>by simp [bJ] at h h';congr 1;omega
 | .str x,.str y,_,_,h,h'=>by simp only [bJ,RC] at h h';rw [AB h h']
 | .tuple xs,.tuple ys,h,k,q,q'=>by simp only [ai] at h k;simp only [bJ] at q q';rw [xB h k q q']
 | .int _,.str _,_,_,h,_=>by simp [bJ] at h
 | .int _,.tuple _,_,_,h,_=>by simp [bJ] at h
 | .str _,.int _,_,_,h,_=>by simp [bJ] at h
 | .str _,.tuple _,_,_,h,_=>by simp [bJ] at h
 | .tuple _,.int _,_,_,h,_=>by simp [bJ] at h
 | .tuple _,.str _,_,_,h,_=>by simp [bJ] at h
 | .none,_,h,_,_,_=>by simp [ai] at h
 | .bool _,_,h,_,_,_=>by simp [ai] at h
 | .list _,_,h,_,_,_=>by simp [ai] at h
 | .dict _,_,h,_,_,_=>by simp [ai] at h
 | _,.none,_,h,_,_=>by simp [ai] at h
 | _,.bool _,_,h,_,_=>by simp [ai] at h
 | _,.list _,_,h,_,_=>by simp [ai] at h
 | _,.dict _,_,h,_,_=>by simp [ai] at h
theorem xB:∀ {xs ys:List PyData},au xs=true->au ys=true->cH xs ys=some false->cH ys xs=some false->xs=ys
 | [],[],_,_,_,_=>rfl
 | [],_::_,_,_,h,_=>by simp [cH] at h
 | _::_,[],_,_,_,h=>by simp [cH] at h
 | x::xs,y::ys,h,k,q,q'=>by
  simp only [au,Pl] at h k
  simp only [cH] at q q'
  by_cases e:x=y
  ·subst e
   rw [aS h.1,if_pos rfl] at q q'
   rw [xB h.2 k.2 q q']
  ·rw [aQ h.1 k.1 e,if_neg (by simp)] at q
   rw [aQ k.1 h.1 (fun z=>e z.symm),if_neg (by simp)] at q'
   exact absurd (AL h.1 k.1 q q') e
end
mutual
theorem AM:∀ {d:PyData},ai d=true->bJ d d=some false
 | .int i,_=>by simp [bJ]
 | .str x,_=>by simp [bJ,wc]
 | .tuple xs,h=>by simp only [ai] at h;simp only [bJ];exact xC h
 | .none,h=>by simp [ai] at h
 | .bool _,h=>by simp [ai] at h
 | .list _,h=>by simp [ai] at h
 | .dict _,h=>by simp [ai] at h
theorem xC:∀ {xs:List PyData},au xs=true->cH xs xs=some false
 | [],_=>by simp [cH]
 | x::xs,h=>by
  simp only [au,Pl] at h
  simp only [cH]
  rw [aS h.1,if_pos rfl]
  exact xC h.2
end
mutual
theorem Dw:∀ {d e f:PyData},ai d=true->ai e=true->ai f=true->bJ d e=some true->bJ e f=some true->bJ d f=some true
 | .int i,.int j,.int k,_,_,_,h,h'=>by simp [bJ] at h h' ⊢;omega
 | .str x,.str y,.str z,_,_,_,h,h'=>by simp only [bJ,RC] at h h' ⊢;exact zj h h'
 | .tuple xs,.tuple ys,.tuple zs,h,k,l,q,q'=>by simp only [ai] at h k l;simp only [bJ] at q q' ⊢;exact AN h k l q q'
 | .none,_,_,h,_,_,_,_=>by simp [ai] at h
 | .bool _,_,_,h,_,_,_,_=>by simp [ai] at h
 | .list _,_,_,h,_,_,_,_=>by simp [ai] at h
 | .dict _,_,_,h,_,_,_,_=>by simp [ai] at h
 | .int _,.none,_,_,_,_,h,_=>by simp [bJ] at h
 | .int _,.bool _,_,_,_,_,h,_=>by simp [bJ] at h
 | .int _,.str _,_,_,_,_,h,_=>by simp [bJ] at h
 | .int _,.list _,_,_,_,_,h,_=>by simp [bJ] at h
 | .int _,.tuple _,_,_,_,_,h,_=>by simp [bJ] at h
 | .int _,.dict _,_,_,_,_,h,_=>by simp [bJ] at h
 | .str _,.none,_,_,_,_,h,_=>by simp [bJ] at h
 | .str _,.bool _,_,_,_,_,h,_=>by simp [bJ] at h
 | .str _,.int _,_,_,_,_,h,_=>by simp [bJ] at h
 | .str _,.list _,_,_,_,_,h,_=>by simp [bJ] at h
 | .str _,.tuple _,_,_,_,_,h,_=>by simp [bJ] at h
 | .str _,.dict _,_,_,_,_,h,_=>by simp [bJ] at h
 | .tuple _,.none,_,_,_,_,h,_=>by simp [bJ] at h
 | .tuple _,.bool _,_,_,_,_,h,_=>by simp [bJ] at h
 | .tuple _,.int _,_,_,_,_,h,_=>by simp [bJ] at h
 | .tuple _,.list _,_,_,_,_,h,_=>by simp [bJ] at h
 | .tuple _,.str _,_,_,_,_,h,_=>by simp [bJ] at h
 | .tuple _,.dict _,_,_,_,_,h,_=>by simp [bJ] at h
 | .int _,.int _,.none,_,_,_,_,h=>by simp [bJ] at h
 | .int _,.int _,.bool _,_,_,_,_,h=>by simp [bJ] at h
 | .int _,.int _,.str _,_,_,_,_,h=>by simp [bJ] at h
 | .int _,.int _,.list _,_,_,_,_,h=>by simp [bJ] at h
 | .int _,.int _,.tuple _,_,_,_,_,h=>by simp [bJ] at h
 | .int _,.int _,.dict _,_,_,_,_,h=>by simp [bJ] at h
 | .str _,.str _,.none,_,_,_,_,h=>by simp [bJ] at h
 | .str _,.str _,.bool _,_,_,_,_,h=>by simp [bJ] at h
 | .str _,.str _,.int _,_,_,_,_,h=>by simp [bJ] at h
 | .str _,.str _,.list _,_,_,_,_,h=>by simp [bJ] at h
 | .str _,.str _,.tuple _,_,_,_,_,h=>by simp [bJ] at h
 | .str _,.str _,.dict _,_,_,_,_,h=>by simp [bJ] at h
 | .tuple _,.tuple _,.none,_,_,_,_,h=>by simp [bJ] at h
 | .tuple _,.tuple _,.bool _,_,_,_,_,h=>by simp [bJ] at h
 | .tuple _,.tuple _,.int _,_,_,_,_,h=>by simp [bJ] at h
 | .tuple _,.tuple _,.list _,_,_,_,_,h=>by simp [bJ] at h
 | .tuple _,.tuple _,.str _,_,_,_,_,h=>by simp [bJ] at h
 | .tuple _,.tuple _,.dict _,_,_,_,_,h=>by simp [bJ] at h
theorem AN:∀ {xs ys zs:List PyData},au xs=true->au ys=true->au zs=true->cH xs ys=some true->cH ys zs=some true->cH xs zs=some true
 | [],[],_,_,_,_,h,_=>by simp [cH] at h
 | [],_::_,[],_,_,_,_,h=>by simp [cH] at h
 | [],_::_,_::_,_,_,_,_,_=>by simp [cH]
 | _::_,[],_,_,_,_,h,_=>by simp [cH] at h
 | _::_,_::_,[],_,_,_,_,h=>by simp [cH] at h
 | x::xs,y::ys,z::zs,h,k,l,q,q'=>by
  simp only [au,Pl] at h k l
  simp only [cH] at q q' ⊢
  by_cases e1:x=y
  ·subst e1
   rw [aS h.1,if_pos rfl] at q
   by_cases e2:x=z
   ·subst e2
    rw [aS h.1,if_pos rfl] at q' ⊢
    exact AN h.2 k.2 l.2 q q'
   ·rw [aQ h.1 l.1 e2,if_neg (by simp)] at q' ⊢
    exact q'
  ·rw [aQ h.1 k.1 e1,if_neg (by simp)] at q
   by_cases e2:y=z
   ·subst e2
    rw [aQ h.1 k.1 e1,if_neg (by simp)]
    exact q
   ·rw [aQ k.1 l.1 e2,if_neg (by simp)] at q'
    have q3:=Dw h.1 k.1 l.1 q q'
    by_cases e3:x=z
    ·subst e3
     rw [AM h.1] at q3
     cases q3
    ·rw [aQ h.1 l.1 e3,if_neg (by simp)]
     exact q3
end
def dA (ds:List PyData):Bool:=ds.all fun a=>ds.all fun b=>(bJ a b).isSome
theorem eS {ds:List PyData} (h:dA ds=true) {a b:PyData} (ha:a∈ds) (hb:b∈ds):bJ a b=some (ltB a b):=by
 have:=PH.mp (PH.mp h a ha) b hb
 unfold ltB
 cases q:bJ a b with
 | none=>rw [q] at this;cases this
 | some k=>rfl
def gE:PyData->Bool | .tuple _=>true | _=>false
def rS:PyData->Bool | .str _=>true | _=>false
def cN (ds:List PyData):Bool:=(ds.all rS || ds.all gE) && au ds && dA ds && decide (PyData.depthAll ds<=20) && decide (ds.length < 64)
def dC:Fn:=fun xs h=>match xs with
 | [x]=>match listOf x h with
  | some ds=>if cN ds then .ok (.dat (.list (cx ltB ds))) h else .bad
  | Option.none=>.bad
 | _=>.bad
theorem o9 {ds:List PyData} (c:dA ds=true) (t:au ds=true) {a b:PyData} (ha:a∈ds) (hb:b∈ds) (h:ltB a b=true):ltB b a=false:=by
 have h1:=eS c ha hb
 rw [h] at h1
 unfold ltB
 rw [Dv (aM t ha) (aM t hb) h1]
 rfl
theorem nS {ds:List PyData} (c:dA ds=true) (t:au ds=true) {a b:PyData} (ha:a∈ds) (hb:b∈ds) (h:ltB b a=false):ltB a b=true\/a=b:=by
 cases q:ltB a b with
 | true=>exact .inl rfl
 | false=>
  have h1:=eS c ha hb
  have h2:=eS c hb ha
  rw [q] at h1
  rw [h] at h2
  exact .inr (AL (aM t ha) (aM t hb) h1 h2)
theorem AO {ds:List PyData} (c:dA ds=true) (t:au ds=true) {a b d:PyData} (ha:a∈ds) (hb:b∈ds) (hd:d∈ds) (h:ltB b a=false) (h':ltB d b=false):ltB d a=false:=by
 rcases nS c t ha hb h with h1 | rfl
 ·rcases nS c t hb hd h' with h2 | rfl
  ·have q1:=eS c ha hb
   have q2:=eS c hb hd
   rw [h1] at q1
   rw [h2] at q2
   have q3:=Dw (aM t ha) (aM t hb) (aM t hd) q1 q2
   exact o9 c t ha hd (by unfold ltB;rw [q3];rfl)
  ·exact o9 c t ha hb h1
 ·exact h'
theorem pb (lt:PyData->PyData->Bool) (x:PyData):∀ ys:List PyData,(zk lt x ys).Perm (x::ys)
 | []=>.refl _
 | y::ys=>by
  unfold zk
  split
  ·exact ((pb lt x ys).cons y).trans (.swap x y ys)
  ·exact .refl _
theorem bo (lt:PyData->PyData->Bool):∀ xs:List PyData,(cx lt xs).Perm xs
 | []=>.refl _
 | x::xs=>(pb lt x _).trans ((bo lt xs).cons x)
def Up (lt:PyData->PyData->Bool) (xs:List PyData):Prop:=xs.Pairwise fun a b=>lt b a=false
structure Ord (lt:PyData->PyData->Bool) (ds:List PyData):Prop where
 as:∀ {a b},a∈ds->b∈ds->lt a b=true->lt b a=false
 ntr:∀ {a b d},a∈ds->b∈ds->d∈ds->lt b a=false->lt d b=false->lt d a=false
 tot:∀ {a b},a∈ds->b∈ds->lt a b=false->lt b a=false->a=b
theorem Ord.sub {lt:PyData->PyData->Bool} {ds es:List PyData} (o:Ord lt ds) (h:∀ e∈es,e∈ds):Ord lt es:=
 ⟨fun a b=>o.as (h _ a) (h _ b),fun a b d=>o.ntr (h _ a) (h _ b) (h _ d),fun a b=>o.tot (h _ a) (h _ b)⟩
theorem AQ {lt:PyData->PyData->Bool} {x:PyData}:∀ {ys:List PyData},Ord lt (x::ys)->Up lt ys->Up lt (zk lt x ys)
 | [],_,_=>by simp [zk,Up]
 | y::ys,o,u=>by
  unfold zk
  unfold Up at u
  rw [Qn] at u
  split
  ·rename_i h
   refine Qn.mpr ⟨fun b hb=>?_,AQ (o.sub fun e m=>by simp at m ⊢;rcases m with rfl | m<;>simp [*]) u.2⟩
   rcases Pn.mp ((pb lt x ys).mem_iff.mp hb) with rfl | hb
   ·exact o.as (by simp) (by simp) h
   ·exact u.1 b hb
  ·rename_i h
   have h':lt y x=false:=by simpa using h
   refine Qn.mpr ⟨fun b hb=>?_,Qn.mpr u⟩
   rcases Pn.mp hb with rfl | hb
   ·exact h'
   ·exact o.ntr (by simp) (by simp) (by simp [hb]) h' (u.1 b hb)
theorem rT {lt:PyData->PyData->Bool}:∀ {xs:List PyData},Ord lt xs->Up lt (cx lt xs)
 | [],_=>by simp [cx,Up]
 | x::xs,o=>AQ (o.sub fun e m=>by
     rcases Pn.mp m with rfl | m
     ·simp
     ·simp [(bo lt xs).mem_iff.mp m]) (rT (o.sub fun e m=>by simp [m]))
theorem pe {lt:PyData->PyData->Bool}:∀ {xs ys:List PyData},Ord lt xs->xs.Perm ys->Up lt xs->Up lt ys->xs=ys
 | [],ys,_,p,_,_=>by rw [List.nil_perm.mp p]
 | x::xs,ys,o,p,u,v=>by
  cases ys with
  | nil=>exact absurd p (by simp)
  | cons y ys=>
   have hx:x∈y::ys:=p.mem_iff.mp (by simp)
   have hy:y∈x::xs:=p.mem_iff.mpr (by simp)
   have e:x=y:=by
    rcases Pn.mp hx with e | hx
    ·exact e
    rcases Pn.mp hy with e | hy
    ·exact e.symm
    exact o.tot (by simp) (by simp [hy]) ((Qn.mp v).1 x hx) ((Qn.mp u).1 y hy)
   subst e
   rw [pe (o.sub fun e m=>by simp [m]) (List.perm_cons x |>.mp p) (Qn.mp u).2 (Qn.mp v).2]
theorem fP {ds:List PyData} (c:dA ds=true) (t:au ds=true):Ord ltB ds where
 as:=fun a b=>o9 c t a b
 ntr:=fun a b d=>AO c t a b d
 tot:=fun {a b} ha hb h h'=>by
  rcases nS c t ha hb h' with q | q
  ·rw [q] at h;cases h
  ·exact q
theorem rV {ds es:List PyData} (c:dA ds=true) (t:au ds=true) (p:es.Perm ds) (u:Up ltB es):es=cx ltB ds:=
 pe ((fP c t).sub fun e m=>p.mem_iff.mp m) (p.trans (bo ltB ds).symm) u (rT (fP c t))
end Ml
namespace Ml
open PySem PySem.Spec L2
open Sem (wp)
mutual
theorem aT:∀ {d:PyData},av d=true->ai d=true
 | .str _,_=>by simp [ai]
 | .tuple ds,h=>by simp only [av] at h;simp only [ai];exact nU h
 | .none,h=>by simp [av] at h
 | .bool _,h=>by simp [av] at h
 | .int _,h=>by simp [av] at h
 | .list _,h=>by simp [av] at h
 | .dict _,h=>by simp [av] at h
theorem nU:∀ {ds:List PyData},aX ds=true->au ds=true
 | [],_=>by simp [au]
 | d::ds,h=>by simp only [aX,Pl] at h;simp only [au,Pl];exact ⟨aT h.1,nU h.2⟩
end
mutual
def pX (w:World):PyData->Int
 | .str x=>hashStr w x
 | .tuple ds=>reduceHash (Builtin.Tuple.tupleHashOf (gF w ds))
 | _=>0
def gF (w:World):List PyData->List Int
 | []=>[]
 | d::ds=>pX w d::gF w ds
end
mutual
def mY:PyData->Nat
 | .str _=>1
 | .tuple ds=>nV ds+1
 | _=>0
def nV:List PyData->Nat
 | []=>0
 | d::ds=>mY d+nV ds
end
mutual
theorem ju {h h':Heap} (k:∀ b o vs n,h.get? b=some o->o.cls=.type "tuple" -> o.data=.seq vs n->h'.get? b=some o):∀ {d:PyData} {v:Value} {as:List Addr},av d=true->Reads h v d as->Reads h' v d as
 | .str _,_,_,_,.str x t=>.str x t
 | .tuple ds,_,_,t,.tuple h1 h2 h3 h4=>by simp only [av] at t;exact .tuple (k _ _ _ _ h1 h2 h3) h2 h3 (nW k t h4)
 | .none,_,_,t,_=>by simp [av] at t
 | .bool _,_,_,t,_=>by simp [av] at t
 | .int _,_,_,t,_=>by simp [av] at t
 | .list _,_,_,t,_=>by simp [av] at t
 | .dict _,_,_,t,_=>by simp [av] at t
theorem nW {h h':Heap} (k:∀ b o vs n,h.get? b=some o->o.cls=.type "tuple" -> o.data=.seq vs n->h'.get? b=some o):∀ {ds:List PyData} {vs:List Value} {as:List Addr},aX ds=true->ReadsAll h vs ds as->ReadsAll h' vs ds as
 | [],_,_,_,.nil=>.nil
 | d::ds,_,_,t,.cons r1 r2=>by simp only [aX,Pl] at t;exact .cons (ju k t.1 r1) (nW k t.2 r2)
end
section
variable {P:Program} {w:World}
mutual
theorem mZ:∀ (d:PyData) (A:Around) (s:Shared) (v:Value) (as:List Addr) (Q:Int->Shared->Prop) (E:Value->Shared->Prop),av d=true->Reads s.heap v d as->A.units+d.depth < cLine->Q (pX w d) {s with toks:=s.toks+mY d}->wpAny (model P w) A (pyHash v) Q E s
 | .str x,A,s,v,as,Q,E,_,r,hu,h=>by
  cases r
  simp only [pX,mY] at h
  exact wpAny_pyHash_str h
 | .tuple ds,A,s,v,as,Q,E,t,r,hu,h=>by
  cases r with
  | tuple ho hc hd hi=>
   rename_i a o items n
   have hT:s.TypeIs (.ref a) "tuple" := ⟨o,ho,hc⟩
   simp only [av] at t
   simp only [PyData.depth] at hu
   simp only [pX,mY] at h
   unfold pyHash
   first | unfold pyHashByItsType | skip
   first | refine Ph (wpAny_cRoomFor_or (.inr (by omega)) ?_) | skip
   refine Ph (RX hT R4.lookup ?_)
   show wpAny _ _ (if (some (Value.builtin "tuple.__hash__") == some Value.none)=true then _ else _) Q E s
   rw [if_neg (by rw [beq_builtin_none];exact P5)]
   refine Ph (RX hT R4.lookup ?_)
   show wpAny _ _ (callSpecialIfBoundUnlessNone? (.ref a) "__hash__" _ >>= _) Q E s
   refine Ph (wpAny_callSpecialIfBoundUnlessNone?_slot hT R4 (Qa R4 hT F.entry_tuple_hash ?_ (F.args_tuple_hash_1 _)))
   show wpAny _ _ (Builtin.Tuple.tupleItemsOf (.ref a) >>= _) _ _ s
   refine Ph (wpAny_tupleItemsOf ho hd ?_)
   refine Ph ?_
   rw [<- SH]
   refine nX ds A.in1 s items.toList _ #[] _ _ _ t hi (by show A.units+1+_ < _;omega) ?_ ?_
   ·intro x b s' R k
    first
     | exact Ph (Q9 k (fun c s2 q=>Pk q) fun _ _ z=>z)
     | exact Ph (Q9 k (fun c s2 q=>Ph (Pk (Pk q))) fun _ _ z=>z)
   ·show wpAny _ _ (retInt (Builtin.Tuple.tupleHashOf (#[]++(gF w ds).toArray).toList)) _ _ _
    have e1:(#[]++(gF w ds).toArray).toList=gF w ds:=by simp
    rw [e1]
    refine wpAny_ret_mkInt ?_
    show wpAny _ _ (if (decide (-(2:Int) ^ 63<=Builtin.Tuple.tupleHashOf (gF w ds)) && decide (Builtin.Tuple.tupleHashOf (gF w ds) < 2 ^ 63))=true then _ else _) Q E _
    unfold reduceHash at h
    by_cases hr:(decide (-(2:Int) ^ 63<=Builtin.Tuple.tupleHashOf (gF w ds)) && decide (Builtin.Tuple.tupleHashOf (gF w ds) < 2 ^ 63))=true
    ·rw [if_pos hr]
     rw [if_pos hr] at h
     exact Pk (by simpa [Nat.add_assoc] using h)
    ·rw [if_neg hr]
     rw [if_neg hr] at h
     exact Ph (RD (Pk (by simpa [Nat.add_assoc] using h)))
 | .none,_,_,_,_,_,_,t,_,_,_=>by simp [av] at t
 | .bool _,_,_,_,_,_,_,t,_,_,_=>by simp [av] at t
 | .int _,_,_,_,_,_,_,t,_,_,_=>by simp [av] at t
 | .list _,_,_,_,_,_,_,t,_,_,_=>by simp [av] at t
 | .dict _,_,_,_,_,_,_,t,_,_,_=>by simp [av] at t
theorem nX:∀ (ds:List PyData) (A:Around) (s:Shared) (vs:List Value) (as:List Addr) (acc:Array Int) (R:Array Int->Shared->Prop) (E':Value->Shared->Prop) (body:Value->Array Int->Sem (ForInStep (Array Int))),aX ds=true->ReadsAll s.heap vs ds as->A.units+PyData.depthAll ds < cLine ->
  (∀ (x:Value) (b:Array Int) (s':Shared) (R':ForInStep (Array Int)->Shared->Prop),wpAny (model P w) A (pyHash x) (fun c s2=>R' (.yield (b.push c)) s2) E' s'->wpAny (model P w) A (body x b) R' E' s') ->
  R (acc++(gF w ds).toArray) {s with toks:=s.toks+nV ds}->wpAny (model P w) A (forIn vs acc body) R E' s
 | [],A,s,_,_,acc,R,E',body,_,.nil,_,hb,h=>by
  rw [Rp]
  simp only [gF,nV] at h
  exact Pk (by simpa using h)
 | d::ds,A,s,_,_,acc,R,E',body,t,.cons r1 r2,hu,hb,h=>by
  simp only [aX,Pl] at t
  simp only [PyData.depthAll] at hu
  rw [Rc]
  refine Ph (hb _ _ _ _ ?_)
  refine mZ d A s _ _ _ E' t.1 r1 (by omega) ?_
  refine nX ds A _ _ _ (acc.push (pX w d)) R E' body t.2 r2 (by omega) hb ?_
  simp only [gF,nV] at h
  simpa [Nat.add_assoc] using h
end
mutual
theorem iF:∀ (d:PyData) (n:Nat) (A:Around) (s:Shared) (v:Value) (as:List Addr) (Q:Bool->Shared->Prop) (E:Value->Shared->Prop),av d=true->d.depth<=n->Reads s.heap v d as->Q true s->wpAny (model P w) A (eqIsQuiet n v) Q E s
 | .str x,n,A,s,v,as,Q,E,_,_,r,h=>by
  cases r
  rw [eqIsQuiet_byValue n rfl]
  exact Pk h
 | .tuple ds,n,A,s,v,as,Q,E,t,hn,r,h=>by
  cases r with
  | tuple ho hc hd hi=>
   rename_i a o items k
   have hT:s.TypeIs (.ref a) "tuple" := ⟨o,ho,hc⟩
   simp only [av] at t
   simp only [PyData.depth] at hn
   obtain ⟨m,rfl⟩:∃ m,n=m+1:=⟨n - 1,by omega⟩
   unfold eqIsQuiet
   refine Ph (RX hT F.slot_tuple_eq.lookup ?_)
   show wpAny _ _ (isInstance (.ref a) (.type "tuple") >>= _) _ _ s
   refine Ph (S9 hT isSubtype_tuple_tuple ?_)
   simp only [R5,PB,Qm]
   refine Ph (Qv ho hd ?_)
   refine Ph ?_
   show wpAny _ _ (forIn items _ _) _ _ s
   rw [<- SH]
   refine nY ds m A s items.toList _ _ E _ t (by omega) hi ?_ ?_
   ·intro x s' R k
    refine Ph (Q9 k (fun c s2 q=>?_) fun _ _ z=>z)
    obtain ⟨rfl,q⟩:=q
    simp only [R5,PB,Qm]
    exact Pk q
   ·exact Pk h
 | .none,_,_,_,_,_,_,_,t,_,_,_=>by simp [av] at t
 | .bool _,_,_,_,_,_,_,_,t,_,_,_=>by simp [av] at t
 | .int _,_,_,_,_,_,_,_,t,_,_,_=>by simp [av] at t
 | .list _,_,_,_,_,_,_,_,t,_,_,_=>by simp [av] at t
 | .dict _,_,_,_,_,_,_,_,t,_,_,_=>by simp [av] at t
theorem nY:∀ (ds:List PyData) (n:Nat) (A:Around) (s:Shared) (vs:List Value) (as:List Addr) (R:Option Bool×Unit->Shared->Prop) (E:Value->Shared->Prop) (body:Value->Option Bool×Unit->Sem (ForInStep (Option Bool×Unit))),aX ds=true->PyData.depthAll ds<=n->ReadsAll s.heap vs ds as ->
  (∀ (x:Value) (s':Shared) (R':ForInStep (Option Bool×Unit)->Shared->Prop),wpAny (model P w) A (eqIsQuiet n x) (fun c s2=>c=true/\R' (.yield (none,())) s2) E s'->wpAny (model P w) A (body x (none,())) R' E s') ->
  R (none,()) s->wpAny (model P w) A (forIn vs (none,()) body) R E s
 | [],n,A,s,_,_,R,E,body,_,_,.nil,hb,h=>by
  rw [Rp]
  exact Pk h
 | d::ds,n,A,s,_,_,R,E,body,t,hn,.cons r1 r2,hb,h=>by
  simp only [aX,Pl] at t
  simp only [PyData.depthAll] at hn
  rw [Rc]
  refine Ph (hb _ _ _ (iF d n A s _ _ _ E t.1 (by omega) r1 ⟨rfl,?_⟩))
  exact nY ds n A s _ _ R E body t.2 (by omega) r2 hb h
end
end
def Jy (h:Heap) (d:PyData) (a:Addr):Prop:=av d=true/\d.depth<=8/\bY d=true/\∃ as,Reads h (.ref a) d as
noncomputable instance Ov:DecidableEq PyData:=fun a b=>Classical.propDecidable (a=b)
noncomputable def eK (P:Program) (w:World):HeapKind P w PyData where
 is:=Jy
 hash:=pX w
 draws:=mY
 room:=fun A=>A.units+20 < cLine
 inj:=fun {h a x y} ⟨_,_,_,as,hx⟩ ⟨_,_,_,bs,hy⟩=>(PySem.Reads.unique hx _ _ hy).1
 keeps:=fun {h h' k a d o es ep} ⟨t,dp,so,as,r⟩ ho hd hs=>⟨t,dp,so,as,ju (fun b ob vs n e c dd=>by
  have ne:b≠d:=fun z=>by
   subst z
   rw [ho] at e
   cases e
   rw [hd] at dd
   cases dd
  exact (hs.2 b ne).trans e) t r⟩
 pyHash:=fun {A E s k a Q} hu ⟨t,dp,_,as,r⟩ h=>mZ k A s _ as Q E t r (by omega) h
 eqBool:=fun {A E s x y a b Q} hu ⟨t1,d1,s1,as,r1⟩ ⟨t2,d2,s2,bs,r2⟩ h=>by
  have hq:PyData.eqv x y=decide (x=y):=by
   by_cases e:x=y
   ·subst e;rw [PN rfl];exact aS (aT t1)
   ·rw [PR e];exact aQ (aT t1) (aT t2) e
  have:=Tc x y A s _ _ _ _ r1 r2 (jb s1 (bZ (aT t1))) (jb s2 (bZ (aT t2))) (by omega) P w E Q
  rw [hq] at this
  exact this h
 quiet:=fun {A E s k a Q} ⟨t,dp,_,as,r⟩ h=>iF k 8 A s _ as Q E t dp r h
def dO (P:Program) (w:World) (xs:List (PyData×Addr×Value)) (a:Addr):HO:=.ext fun h=>xs.length<=sizeLine/\(a == sysModules)=false/\∃ o es ep,h.get? a=some o/\o.ExactDict/\o.data=.dict es ep/\es.toList=xs.map (entryOfKey (eK P w))/\(xs.map (·.1)).Nodup
theorem HN {P:Program} {w:World} {xs:List (PyData×Addr×Value)} {a:Addr} {H:Hp} {h:Heap} {o:Obj} {es:Array DictEntry} {ep:Nat} (h1:xs.length<=sizeLine) (h2:(a == sysModules)=false) (h3:h.get? a=some o) (h4:o.ExactDict) (h5:o.data=.dict es ep) (h6:es.toList=xs.map (entryOfKey (eK P w))) (h7:(xs.map (·.1)).Nodup):cv P w H h a (dO P w xs a):=
 ⟨⟨h1,h2,o,es,ep,h3,h4,h5,h6,h7⟩,⟨o,h3⟩,fun g1 g2 ⟨k1,k2,o',es',ep',k3,k4⟩ hk=>⟨k1,k2,o',es',ep',hk _ k3,k4⟩⟩
end Ml
namespace Ml
open PySem PySem.Spec L2
def view (θ:List Addr) (H:Hp):Hp:=fun a=>if a∈θ then none else H a
theorem dh {θ:List Addr} {H:Hp} {a:Addr} {o:HO} (h:view θ H a=some o):a∉θ/\H a=some o:=by
 unfold view at h
 split at h
 ·cases h
 ·exact ⟨by assumption,h⟩
theorem dS {θ:List Addr} {H:Hp} {a:Addr} (h:a∉θ):view θ H a=H a:=if_neg h
theorem aA (θ:List Addr) (H:Hp):bD (view θ H) H:=fun a o h=>(dh h).2
def nZ (M:Hp) (p:PyData×PyData) (q:PyData×Addr×Value):Prop:=p.1=q.1/\av p.1=true/\p.1.depth<=8/\bY p.1=true/\Rep M p.1 (.ref q.2.1)/\∃ v,RelV v q.2.2/\Rep M p.2 v/\bY p.2=true
def fI (P:Program) (w:World) (M G:Hp) (a:Addr) (t:Bool) (kvs:List (PyData×PyData)):Prop:=
 (t=false/\∃ ks,G a=some (.dK ks)/\aP ks=some kvs/\∀ p∈kvs,bY p.1=true/\bY p.2=true)\/(t=true/\∃ xs,G a=some (dO P w xs a)/\Paired (nZ M) kvs xs)
structure Gx where
 P:Program
 w:World
 mg:Str->Option Value
 K:PySem.W.Frag
def HP:PyData->V
 | .int i=>.int i
 | .str x=>.str x
 | .bool b=>.bl b
 | _=>.non
def Dx (K:PySem.W.Frag) (a:Addr) (xs:List PyData):Prop:=(∃ (o:Obj) (its:Array Value) (n:Nat),K.lookup a=some o/\o.cls=.type "tuple" /\ o.data=.seq its n/\its.size<=sizeLine/\Vals (xs.map HP) its.toList)/\(∀ x∈xs,(match x with | .int _ | .str _ | .bool _ | .none=>true | _=>false)=true)/\cy xs=true
def Lx (G:Gx) (x:Xc) (cls:Value) (da:Option Addr) (M:Hp):Prop:=G.mg x.cls=some cls/\da=none/\x.args=[]
def bS (G:Gx) (θ:List Addr) (H:Hp):D->V->Prop
 | .dat d,v=>Rep (view θ H) d v/\bY d=true
 | .ref i,v=>∃ a,θ[i]?=some a/\v=.ref a
 | .iu t kvs,v=>∃ a,v=.ref a/\fI G.P G.w (view θ H) (view θ H) a t kvs
 | .set _,_=>False
 | .fn n,v=>∃ f,G.mg n=some (.ref f)/\v=.ref f
 | .scr ns,v=>∃ a,v=.ref a/\iw G.K (view θ H) a (ns.map V.int)
 | .ktup xs,v=>∃ a,v=.ref a/\Dx G.K a xs
 | .rpr x,v=>v=.str x
 | .exc x,v=>∃ a cls,v=.ref a/\view θ H a=some (.ext (Gd a cls))/\Lx G x cls none (view θ H)
abbrev ba (G:Gx) (θ:List Addr) (H:Hp):List D->List V->Prop:=Paired (bS G θ H)
def TabAt (θ:List Addr) (H:Hp) (P:Addr) (q:Str):Prop:=∃ ps:Array Value,H P=some (.tbl ps)/\TriplesOk ps.toList/\∀ (pos:Pos) (c:Value),codeAmong pos ps.toList=some c->∃ b,c=.ref b/\b≠P/\view θ H b=some (.ext (recAt b q))
theorem TabAt.same {θ θ':List Addr} {H H':Hp} {P:Addr} {q:Str} (s:bD (view θ H) (view θ' H')) (e:∀ o,H P=some o->H' P=some o) (x:TabAt θ H P q):TabAt θ' H' P q:=by
 obtain ⟨ps,h1,h2,h3⟩:=x
 exact ⟨ps,e _ h1,h2,fun pos c k=>let ⟨b,k1,k2,k3⟩:=h3 pos c k;⟨b,k1,k2,s _ _ k3⟩⟩
def zl (G:Gx) (θ:List Addr) (H:Hp) (a:Addr):MO->Prop
 | .lst xs=>∃ vs,H a=some (.lst vs)/\ba G θ H xs vs
 | .iu t kvs=>fI G.P G.w (view θ H) H a t kvs
 | .ins _ _=>False
 | .tab P q=>a=P/\TabAt θ H P q
structure W (G:Gx) (θ:List Addr) (h:Hm) (H:Hp):Prop where
 len:θ.length=h.length
 nd:θ.Nodup
 obj:∀ (i:Nat) (a:Addr) (o:MO),θ[i]?=some a->h[i]?=some o->zl G θ H a o
def Fr (G:Gx) (θ:List Addr) (H:Hp) (ρ:Fm) (σ:St):Prop:=ρ.length=σ.length/\∀ (i:Nat) (d:D),ρ[i]?=some (some d)->∃ v,σ[i]?=some (some v)/\bS G θ H d v
structure Ev (θ:List Addr) (H:Hp) (θ':List Addr) (H':Hp):Prop where
 pre:∃ ext,θ'=θ++ext
 same:bD (view θ H) (view θ' H')
section
variable {G:Gx} {θ θ' θ'':List Addr} {H H' H'':Hp} {h h':Hm} {d:D} {v:V} {ρ:Fm} {σ:St}
theorem Ev.refl:Ev θ H θ H:=⟨⟨[],by simp⟩,bD.refl _⟩
theorem Ev.trans (a:Ev θ H θ' H') (b:Ev θ' H' θ'' H''):Ev θ H θ'' H'':=by
 obtain ⟨e1,rfl⟩:=a.pre
 obtain ⟨e2,rfl⟩:=b.pre
 exact ⟨⟨e1++e2,by simp⟩,a.same.trans b.same⟩
theorem Ev.get (a:Ev θ H θ' H') {i:Nat} {x:Addr} (e:θ[i]?=some x):θ'[i]?=some x:=by
 obtain ⟨ext,rfl⟩:=a.pre
 rw [PY (by have:=PF.mp e;exact this.1)]
 exact e
theorem nZ.same {M M':Hp} (s:bD M M') {p:PyData×PyData} {q:PyData×Addr×Value} (h:nZ M p q):nZ M' p q:=by
 obtain ⟨h1,h2,h3,h4,h5,v,h6,h7,h8⟩:=h
 exact ⟨h1,h2,h3,h4,h5.same s,v,h6,h7.same s,h8⟩
theorem fI.same {P:Program} {w:World} {M M' G G':Hp} (s:bD M M') {a:Addr} {t:Bool} {kvs:List (PyData×PyData)} (h:fI P w M G a t kvs) (e:∀ o,G a=some o->G' a=some o):fI P w M' G' a t kvs:=by
 rcases h with ⟨ht,ks,h1,h2⟩ | ⟨ht,xs,h1,h2⟩
 ·exact .inl ⟨ht,ks,e _ h1,h2⟩
 ·exact .inr ⟨ht,xs,e _ h1,Paired.t8 h2 fun _ _=>nZ.same s⟩
theorem fI.some {P:Program} {w:World} {M G:Hp} {a:Addr} {t:Bool} {kvs:List (PyData×PyData)} (h:fI P w M G a t kvs):G a≠none:=by
 rcases h with ⟨_,ks,h1,_⟩ | ⟨_,xs,h1,_⟩
 ·rw [h1];exact fun z=>nomatch z
 ·rw [h1];exact fun z=>nomatch z
theorem bS.ev (e:Ev θ H θ' H') (r:bS G θ H d v):bS G θ' H' d v:=by
 cases d with
 | dat d=>exact ⟨r.1.same e.same,r.2⟩
 | ref i=>obtain ⟨a,h1,h2⟩:=r;exact ⟨a,e.get h1,h2⟩
 | iu t kvs=>obtain ⟨a,h1,h2⟩:=r;exact ⟨a,h1,h2.same e.same fun o=>e.same a o⟩
 | set xs=>exact r
 | fn n=>exact r
 | scr ns=>obtain ⟨a,h1,h2⟩:=r;exact ⟨a,h1,e.same.seq h2⟩
 | ktup xs=>exact r
 | rpr x=>exact r
 | exc x=>obtain ⟨a,c,h1,h2,h3⟩:=r;exact ⟨a,c,h1,e.same _ _ h2,h3⟩
theorem ba.ev (e:Ev θ H θ' H') {ds:List D} {vs:List V} (r:ba G θ H ds vs):ba G θ' H' ds vs:=Paired.t8 r fun _ _=>bS.ev e
theorem Fr.ev (e:Ev θ H θ' H') (r:Fr G θ H ρ σ):Fr G θ' H' ρ σ:=⟨r.1,fun i d q=>let ⟨v,h1,h2⟩:=r.2 i d q;⟨v,h1,h2.ev e⟩⟩
theorem Fr.set {i:Nat} (r:Fr G θ H ρ σ) (q:bS G θ H d v):Fr G θ H (ρ.set i (some d)) (σ.set i (some v)):=by
 refine ⟨by simp [r.1],fun j e he=>?_⟩
 by_cases hj:i=j
 ·subst hj
  by_cases hl:i < ρ.length
  ·rw [QA hl] at he
   cases he
   exact ⟨v,by rw [QA (by rw [<- r.1];exact hl)],q⟩
  ·rw [S4 (by simp;omega)] at he
   cases he
 ·rw [R9 hj] at he ⊢
  exact r.2 j e he
theorem Fr.replicate (n:Nat) (r:Fr G θ H ρ σ):Fr G θ H (List.replicate n none++ρ) (List.replicate n none++σ):=by
 refine ⟨by simp [r.1],fun i d e=>?_⟩
 by_cases hi:i < n
 ·rw [PY (by simp;exact hi),RK] at e
  split at e<;>cases e
 ·rw [Qd (by simp;omega)] at e ⊢
  simp at e ⊢
  exact r.2 _ d e
theorem Dy {p:Addr} {o:HO} (hp:H p=none) (hn:p∉θ):Ev θ H θ (upd H p o):=⟨⟨[],by simp⟩,fun a u q=>by
 obtain ⟨h1,h2⟩:=dh q
 rw [dS h1,aD (aH h2 hp)]
 exact h2⟩
theorem zl.some (o:MO) {a:Addr} (r:zl G θ H a o):H a≠none:=by
 cases o with
 | lst xs=>obtain ⟨vs,e,_⟩:=r;rw [e];exact fun z=>nomatch z
 | iu t kvs=>exact fI.some r
 | ins=>exact r.elim
 | tab P q=>obtain ⟨rfl,ps,e,_⟩:=r;rw [e];exact fun z=>nomatch z
theorem W.Dz (w:W G θ h H) {p:Addr} (hp:H p=none):p∉θ:=fun m=>by
 obtain ⟨i,hi,e⟩:=Ry.mp m
 have hl:i < h.length:=by rw [<- w.len];exact hi
 exact zl.some _ (w.obj i p h[i] (by rw [Pz hi,e]) (Pz hl)) hp
theorem W.put (w:W G θ h H) {p:Addr} {o:HO} (hp:H p=none):Ev θ H θ (upd H p o)/\W G θ h (upd H p o)/\view θ (upd H p o) p=some o:=by
 have hn:=w.Dz hp
 have e:=Dy (o:=o) hp hn
 refine ⟨e,⟨w.len,w.nd,fun i a m h1 h2=>?_⟩,by rw [dS hn,aY]⟩
 have r:=w.obj i a m h1 h2
 have ha:a≠p:=fun z=>by subst z;exact hn (P0 h1)
 cases m with
 | lst xs=>obtain ⟨vs,q1,q2⟩:=r;exact ⟨vs,by rw [aD ha];exact q1,q2.ev e⟩
 | iu t kvs=>exact fI.same e.same r fun o q=>by rw [aD ha];exact q
 | ins=>exact r.elim
 | tab P q=>obtain ⟨rfl,x⟩:=r;exact ⟨rfl,x.same e.same fun o q=>by rw [aD ha];exact q⟩
theorem W.grow (w:W G θ h H) (s:bD H H'):Ev θ H θ H'/\W G θ h H':=by
 have e:Ev θ H θ H':=⟨⟨[],by simp⟩,fun a u q=>by
  obtain ⟨h1,h2⟩:=dh q
  rw [dS h1]
  exact s _ _ h2⟩
 refine ⟨e,⟨w.len,w.nd,fun i a m h1 h2=>?_⟩⟩
 have r:=w.obj i a m h1 h2
 cases m with
 | lst xs=>obtain ⟨vs,q1,q2⟩:=r;exact ⟨vs,s _ _ q1,q2.ev e⟩
 | iu t kvs=>exact fI.same e.same r fun o q=>s _ _ q
 | ins=>exact r.elim
 | tab P q=>obtain ⟨rfl,x⟩:=r;exact ⟨rfl,x.same e.same fun o q=>s _ _ q⟩
theorem W.alloc (w:W G θ h H) {p:Addr} {o:HO} {m:MO} (hp:H p=none) (ho:zl G (θ++[p]) (upd H p o) p m):Ev θ H (θ++[p]) (upd H p o)/\W G (θ++[p]) (h++[m]) (upd H p o):=by
 have hn:=w.Dz hp
 have e:Ev θ H (θ++[p]) (upd H p o):=⟨⟨[p],rfl⟩,fun a u q=>by
  obtain ⟨h1,h2⟩:=dh q
  have ne:=aH h2 hp
  rw [dS (by simp;exact ⟨h1,ne⟩),aD ne]
  exact h2⟩
 refine ⟨e,⟨by simp [w.len],?_,fun i a m' h1 h2=>?_⟩⟩
 ·rw [RF]
  exact ⟨w.nd,by simp,fun x hx y hy z=>by simp at hy;subst hy;subst z;exact hn hx⟩
 ·by_cases hi:i < θ.length
  ·rw [PY hi] at h1
   rw [PY (by rw [<- w.len];exact hi)] at h2
   have r:=w.obj i a m' h1 h2
   have ha:a≠p:=fun z=>by subst z;exact hn (P0 h1)
   cases m' with
   | lst xs=>obtain ⟨vs,q1,q2⟩:=r;exact ⟨vs,by rw [aD ha];exact q1,q2.ev e⟩
   | iu t kvs=>exact fI.same e.same r fun o q=>by rw [aD ha];exact q
   | ins=>exact r.elim
   | tab P q=>obtain ⟨rfl,x⟩:=r;exact ⟨rfl,x.same e.same fun o q=>by rw [aD ha];exact q⟩
  ·rw [Qd (by omega)] at h1
   rw [Qd (by rw [<- w.len];omega),<- w.len] at h2
   cases hk:i - θ.length with
   | zero=>
    rw [hk] at h1 h2
    simp at h1 h2
    subst h1
    subst h2
    exact ho
   | succ k=>
    rw [hk] at h1
    simp at h1
theorem W.write (w:W G θ h H) {i:Nat} {p:Addr} {o:HO} {m:MO} (hi:θ[i]?=some p) (hl:i < h.length) (ho:zl G θ (upd H p o) p m):Ev θ H θ (upd H p o)/\W G θ (h.set i m) (upd H p o):=by
 have hm:p∈θ:=P0 hi
 have e:Ev θ H θ (upd H p o):=⟨⟨[],by simp⟩,fun a u q=>by
  obtain ⟨h1,h2⟩:=dh q
  have ne:a≠p:=fun z=>by subst z;exact h1 hm
  rw [dS h1,aD ne]
  exact h2⟩
 refine ⟨e,⟨by simp [w.len],w.nd,fun j a m' h1 h2=>?_⟩⟩
 by_cases hj:i=j
 ·subst hj
  rw [hi] at h1
  cases h1
  rw [QA hl] at h2
  cases h2
  exact ho
 ·rw [R9 hj] at h2
  have ha:a≠p:=fun z=>by
   subst z
   obtain ⟨l1,e1⟩:=PF.mp hi
   obtain ⟨l2,e2⟩:=PF.mp h1
   have pw:=QV.mp w.nd
   rcases Nat.lt_or_gt_of_ne hj with z | z
   ·exact pw i j l1 l2 z (e1.trans e2.symm)
   ·exact pw j i l2 l1 z (e2.trans e1.symm)
  have r:=w.obj j a m' h1 h2
  cases m' with
  | lst xs=>obtain ⟨vs,q1,q2⟩:=r;exact ⟨vs,by rw [aD ha];exact q1,q2.ev e⟩
  | iu t kvs=>exact fI.same e.same r fun o q=>by rw [aD ha];exact q
  | ins=>exact r.elim
  | tab P q=>obtain ⟨rfl,x⟩:=r;exact ⟨rfl,x.same e.same fun o q=>by rw [aD ha];exact q⟩
end
abbrev XP:=Xc->List Addr->Hm->Hp->Prop
def aG {α:Type} (G:Gx) (E:XP) (θ:List Addr) (H:Hp):R α->(α->List Addr->Hm->Hp->Prop)->Prop
 | .ok a h',K=>∀ θ' H',Ev θ H θ' H'->W G θ' h' H'->K a θ' h' H'
 | .exc x h',_=>∀ θ' H',Ev θ H θ' H'->W G θ' h' H'->E x θ' h' H'
 | .bad,_=>False
section
variable {α β:Type} {G:Gx} {E E':XP} {θ θ':List Addr} {H H':Hp} {h:Hm} {r:R α} {f:α->Hm->R β} {K K':α->List Addr->Hm->Hp->Prop}
theorem aG.mono (p:aG G E θ H r K) (k:∀ a θ' h' H',Ev θ H θ' H'->W G θ' h' H'->K a θ' h' H'->K' a θ' h' H'):aG G E θ H r K':=by
 cases r with
 | ok a h'=>exact fun θ' H' e w=>k _ _ _ _ e w (p θ' H' e w)
 | exc x h'=>exact p
 | bad=>exact p
theorem aG.later (p:aG G E θ H r K) (e:Ev θ H θ' H'):aG G E θ' H' r K:=by
 cases r with
 | ok a h'=>exact fun θ2 H2 e2 w=>p θ2 H2 (e.trans e2) w
 | exc x h'=>exact fun θ2 H2 e2 w=>p θ2 H2 (e.trans e2) w
 | bad=>exact p
theorem aG.bind {L:β->List Addr->Hm->Hp->Prop} (p:aG G E θ H (r.bind f) L):aG G E θ H r fun a θ1 h1 H1=>Ev θ H θ1 H1/\W G θ1 h1 H1/\aG G E θ1 H1 (f a h1) L:=by
 cases r with
 | ok a h'=>exact fun θ1 H1 e w=>⟨e,w,aG.later p e⟩
 | exc x h'=>exact p
 | bad=>exact p
end
def n0 (G:Gx) (E:XK):XP:=fun x θ _ H=>∀ cls da,Lx G x cls da (view θ H)->E cls da H
def KV (G:Gx) (Q:VK):D->List Addr->Hm->Hp->Prop:=fun d θ _ H=>∀ v,bS G θ H d v->Q v H
def O1 (G:Gx) (Q:List V->Hp->Prop):List D->List Addr->Hm->Hp->Prop:=fun ds θ _ H=>∀ vs,ba G θ H ds vs->Q vs H
def KS (G:Gx) (C:Ends):Fl->List Addr->Hm->Hp->Prop:=fun f θ _ H=>match f with
 | .nx ρ=>∀ σ,Fr G θ H ρ σ->C.nx σ H
 | .rt d=>∀ v,bS G θ H d v->C.rt v H
 | .bk ρ=>∀ σ,Fr G θ H ρ σ->C.bk σ H
 | .ct ρ=>∀ σ,Fr G θ H ρ σ->C.ct σ H
def lE (G:Gx) (E:XK) (m:ME):TE:=fun σ H Q=>∃ θ h ρ,W G θ h H/\Fr G θ H ρ σ/\aG G (n0 G E) θ H (m ρ h) (KV G Q)
def lT (G:Gx) (E:XK) (m:MT):TT:=fun σ H Q=>∃ θ h ρ,W G θ h H/\Fr G θ H ρ σ/\aG G (n0 G E) θ H (m ρ h) (fun b _ _ H'=>Q b H')
def lA (G:Gx) (E:XK) (m:MA):TA:=fun σ H Q=>∃ θ h ρ,W G θ h H/\Fr G θ H ρ σ/\aG G (n0 G E) θ H (m ρ h) (O1 G Q)
def lS (G:Gx) (E:XK) (m:MS):TS:=fun C σ H=>∃ θ h ρ,W G θ h H/\Fr G θ H ρ σ/\aG G (n0 G E) θ H (m ρ h) (KS G C)
def lG (G:Gx) (E:XK) (g:MG):TG:=fun v σ H Q=>∃ θ h ρ d,W G θ h H/\Fr G θ H ρ σ/\bS G θ H d v/\aG G (n0 G E) θ H (g d ρ h) (fun ρ' θ' _ H'=>∀ σ',Fr G θ' H' ρ' σ'->Q σ' H')
abbrev _root_.L2.Cx.G (X:Cx):Gx:=⟨X.prog,X.w,X.mg,X.K⟩
@[irreducible] def DE (X:Cx) (E:XK) (m:ME) (e:Expr):Prop:=PE X e (lE X.G E m)
theorem bj (X:Cx) (E:XK) (m:ME) (e:Expr):DE X E m e=(PE X e (lE X.G E m)):=by
 unfold DE
 rfl
@[irreducible] def DT (X:Cx) (E:XK) (m:MT) (e:Expr):Prop:=PT X e (lT X.G E m)
theorem kH (X:Cx) (E:XK) (m:MT) (e:Expr):DT X E m e=(PT X e (lT X.G E m)):=by
 unfold DT
 rfl
@[irreducible] def DA (X:Cx) (E:XK) (m:MA) (es:List Expr):Prop:=PA X es (lA X.G E m)
theorem j9 (X:Cx) (E:XK) (m:MA) (es:List Expr):DA X E m es=(PA X es (lA X.G E m)):=by
 unfold DA
 rfl
@[irreducible] def DS (X:Cx) (E:XK) (m:MS) (s:Stmt):Prop:=PS X s (lS X.G E m)
theorem ka (X:Cx) (E:XK) (m:MS) (s:Stmt):DS X E m s=(PS X s (lS X.G E m)):=by
 unfold DS
 rfl
@[irreducible] def CF (X:Cx) (E:XK) (m:MS) (s:List Stmt):Prop:=yR X s (lS X.G E m)
theorem m6 (X:Cx) (E:XK) (m:MS) (s:List Stmt):CF X E m s=(yR X s (lS X.G E m)):=by
 unfold CF
 rfl
@[irreducible] def DG (X:Cx) (E:XK) (m:MG) (e:Expr):Prop:=PG X e (lG X.G E m)
theorem mE (X:Cx) (E:XK) (m:MG) (e:Expr):DG X E m e=(PG X e (lG X.G E m)):=by
 unfold DG
 rfl
theorem PE.imp {X:Cx} {e:Expr} {t t':TE} (h:PE X e t) (k:∀ σ H Q,t' σ H Q->t σ H Q):PE X e t':=fun pins s σ H Q I q=>h pins s σ H Q I (k _ _ _ q)
theorem PT.imp {X:Cx} {e:Expr} {t t':TT} (h:PT X e t) (k:∀ σ H Q,t' σ H Q->t σ H Q):PT X e t':=fun pins s σ H Q I q=>h pins s σ H Q I (k _ _ _ q)
theorem PA.imp {X:Cx} {e:List Expr} {t t':TA} (h:PA X e t) (k:∀ σ H Q,t' σ H Q->t σ H Q):PA X e t':=fun pos pins s σ H Q I q=>h pos pins s σ H Q I (k _ _ _ q)
theorem PS.imp {X:Cx} {e:Stmt} {t t':TS} (h:PS X e t) (k:∀ C σ H,t' C σ H->t C σ H):PS X e t':=fun pins s σ H C I q=>h pins s σ H C I (k _ _ _ q)
theorem yR.imp {X:Cx} {e:List Stmt} {t t':TS} (h:yR X e t) (k:∀ C σ H,t' C σ H->t C σ H):yR X e t':=fun pins s σ H C I q=>h pins s σ H C I (k _ _ _ q)
def Jz (G:Gx) (E:XK) (f:D->D->Hm->R D):R2:=fun x y H Q=>∃ θ h d1 d2,W G θ h H/\bS G θ H d1 x/\bS G θ H d2 y/\aG G (n0 G E) θ H (f d1 d2 h) (KV G Q)
def Ow (G:Gx) (E:XK) (f:Fn):List V->Hp->VK->Prop:=fun xs H Q=>∃ θ h ds,W G θ h H/\ba G θ H ds xs/\aG G (n0 G E) θ H (f ds h) (KV G Q)
def n5 (X:Cx) (E:XK) (op:Value->Value->Sem Value) (f:D->D->Hm->R D):Prop:=ik X op (Jz X.G E f)
def qG (X:Cx) (E:XK) (v:Value) (f:Fn):Prop:=df X v (Ow X.G E f)
theorem ik.imp {X:Cx} {op:Value->Value->Sem Value} {r r':R2} (h:ik X op r) (k:∀ x y H Q,r' x y H Q->r x y H Q):ik X op r':=fun pins s σ H x y v u Q I rx ry q=>h pins s σ H x y v u Q I rx ry (k _ _ _ _ q)
theorem df.imp {X:Cx} {f:Value} {r r':List V->Hp->VK->Prop} (h:df X f r) (k:∀ xs H Q,r' xs H Q->r xs H Q):df X f r':=fun pins s σ H xs us Q I r q=>h pins s σ H xs us Q I r (k _ _ _ q)
theorem n5.of {X:Cx} {E:XK} {op:Value->Value->Sem Value} {r:R2} {f:D->D->Hm->R D} (h:ik X op r)
  (k:∀ θ hm H d1 d2 x y Q,W X.G θ hm H->bS X.G θ H d1 x->bS X.G θ H d2 y->aG X.G (n0 X.G E) θ H (f d1 d2 hm) (KV X.G Q)->r x y H Q):n5 X E op f:=
 ik.imp h fun x y H Q ⟨θ,hm,d1,d2,w,r1,r2,p⟩=>k θ hm H d1 d2 x y Q w r1 r2 p
theorem qG.of {X:Cx} {E:XK} {v:Value} {r:List V->Hp->VK->Prop} {f:Fn} (h:df X v r)
  (k:∀ θ hm H ds xs Q,W X.G θ hm H->ba X.G θ H ds xs->aG X.G (n0 X.G E) θ H (f ds hm) (KV X.G Q)->r xs H Q):qG X E v f:=
 df.imp h fun xs H Q ⟨θ,hm,ds,w,r1,p⟩=>k θ hm H ds xs Q w r1 p
section
variable {X:Cx} {E:XK} {m a b c:ME} {t u:MT} {e e1 e2 e3:Expr} {es:List Expr} {ma:MA} {pos:Pos} {i:Nat} {x:Str}
theorem JA (hN:X.N[i]?=some x) (hv:Hw X.env.scope x) (hd:(x == ("__debug__" : Str))=false:=by decide) (hcd:(x == ("__classdict__" : Str))=false:=by decide):DE X E (ae i) (.Name x pos):=by
 simp only [bj] at *
 exact PE.imp (Iu hN hv hd hcd) fun σ H Q ⟨θ,h,ρ,w,fr,p⟩=>by
   unfold ae at p
   cases e:ρ[i]? with
   | none=>rw [e] at p;exact p.elim
   | some o=>
    cases o with
    | none=>rw [e] at p;exact p.elim
    | some d=>
     rw [e] at p
     obtain ⟨v,h1,h2⟩:=fr.2 i d e
     exact ⟨v,h1,p θ H Ev.refl w v h2⟩
theorem Gh {v:V} {d:PyData} (h:PE X e (tC v)) (r:∀ G,Rep G d v) (s:bY d=true):DE X E (aj d) e:=by
 simp only [bj] at *
 exact PE.imp h fun σ H Q ⟨θ,hm,ρ,w,fr,p⟩=>p θ H Ev.refl w v ⟨r _,s⟩
theorem aI {k:Int} {j:Nat}:DE X E (aj (.int k)) (.Constant (.int k) j pos):=Gh oX (fun _=>rfl) (by simp [bY])
theorem gQ {k:Bool} {j:Nat}:DE X E (aj (.bool k)) (.Constant (.bool k) j pos):=Gh Hy (fun _=>rfl) (by simp [bY])
theorem dJ {k:Str} {j:Nat} (h:PyData.strOk k=true:=by decide +kernel):DE X E (aj (.str k)) (.Constant (.str k) j pos):=Gh yS (fun _=>rfl) (by simp [bY,h])
theorem wm {G:Gx} {f:D->D->Hm->R D} {σ:St} {H:Hp} {Q:VK} (h:lE G E (aq f a b) σ H Q):K4 (Jz G E f) (lE G E a) (lE G E b) σ H Q:=by
 obtain ⟨θ,h,ρ,w,fr,p⟩:=h
 refine ⟨θ,h,ρ,w,fr,(aG.bind p).mono fun x θ1 h1 H1 _ _ ⟨e1,w1,p1⟩ v r1=>?_⟩
 exact ⟨θ1,h1,ρ,w1,fr.ev e1,(aG.bind p1).mono fun y θ2 h2 H2 _ _ ⟨e2,w2,p2⟩ u r2=>⟨θ2,h2,x,y,w2,r1.ev e2,r2,p2⟩⟩
theorem AS {G:Gx} {f:Fn} {σ:St} {H:Hp} {Q:VK} (h:lE G E (af f ma) σ H Q):Nd (Ow G E f) (lA G E ma) σ H Q:=by
 obtain ⟨θ,h,ρ,w,fr,p⟩:=h
 exact ⟨θ,h,ρ,w,fr,(aG.bind p).mono fun xs θ1 h1 H1 _ _ ⟨e1,w1,p1⟩ vs r1=>⟨θ1,h1,xs,w1,r1,p1⟩⟩
theorem b0 {op:Operator} {f:D->D->Hm->R D} (h:n5 X E (binaryOp op) f) (ha:DE X E a e1) (hb:DE X E b e2):DE X E (aq f a b) (.BinOp e1 op e2 pos):=by
 simp only [bj] at *
 exact PE.imp (HB h ha hb) fun _ _ _=>wm
theorem dB {op:CmpOp} {f:D->D->Hm->R D} (h:n5 X E (compareOp op) f) (ha:DE X E a e1) (hb:DE X E b e2) (hm:behindInMarks op e2=false):DE X E (aq f a b) (.Compare e1 [op] [e2] pos):=by
 simp only [bj] at *
 exact PE.imp (FN h ha hb hm) fun _ _ _=>wm
theorem cI {f:D->D->Hm->R D} (h:KH X (Jz X.G E f)) (ha:DE X E a e1) (hb:DE X E b e2) (hs:Au e2):DE X E (aq f a b) (.Subscript e1 e2 pos):=by
 simp only [bj] at *
 exact PE.imp (Lh h ha hb hs) fun _ _ _=>wm
theorem AU {G:Gx} {σ:St} {H:Hp} {Q:Bool->Hp->Prop} (h:lT G E (aN m) σ H Q):lE G E m σ H fun x H'=>∃ k,x=.bl k/\Q k H':=by
 obtain ⟨θ,h,ρ,w,fr,p⟩:=h
 refine ⟨θ,h,ρ,w,fr,(aG.bind p).mono fun x θ1 h1 H1 _ _ ⟨e1,w1,p1⟩ v r1=>?_⟩
 cases x with
 | dat d=>
  cases d with
  | bool k=>exact ⟨k,r1.1,p1 θ1 H1 Ev.refl w1⟩
  | _=>exact p1.elim
 | _=>exact p1.elim
theorem cO {op:CmpOp} {f:D->D->Hm->R D} (h:n5 X E (compareOp op) f) (ha:DE X E a e1) (hb:DE X E b e2) (hm:behindInMarks op e2=false):DT X E (aN (aq f a b)) (.Compare e1 [op] [e2] pos):=by
 simp only [bj,kH] at *
 exact PT.imp (FO h ha hb hm) fun _ _ _ q=>wm (AU q)
@[irreducible] def DW (X:Cx) (E:XK) (t:MT) (e:Expr):Prop:=PW X e (lT X.G E t)
theorem xD (X:Cx) (E:XK) (t:MT) (e:Expr):DW X E t e=(PW X e (lT X.G E t)):=by
 unfold DW
 rfl
theorem DW.dt (h:DW X E t e):DT X E t e:=by
 simp only [kH,xD] at *
 exact PW.pt h
theorem PW.imp {X:Cx} {e:Expr} {t t':TT} (h:PW X e t) (k:∀ σ H Q,t' σ H Q->t σ H Q):PW X e t':=fun wh pins s σ H Q I q=>h wh pins s σ H Q I (k _ _ _ q)
theorem Gi (ha:DT X E t e):DW X E t (.BoolOp .And [e] pos):=by
 simp only [kH,xD] at *
 exact FD ha
theorem pf (ha:DT X E t e):DW X E t (.BoolOp .Or [e] pos):=by
 simp only [kH,xD] at *
 exact Iw ha
theorem JB (ha:DT X E t e1) (hb:DW X E u (.BoolOp .And (e2::es) pos)):DW X E (vR t u) (.BoolOp .And (e1::e2::es) pos):=by
 simp only [kH,xD] at *
 exact PW.imp (Iy ha hb) fun σ H Q ⟨θ,h,ρ,w,fr,p⟩=>⟨θ,h,ρ,w,fr,(aG.bind p).mono fun c θ1 h1 H1 _ _ ⟨ev,w1,p1⟩=>by
   cases c with
   | true=>exact ⟨θ1,h1,ρ,w1,fr.ev ev,p1⟩
   | false=>exact p1 θ1 H1 Ev.refl w1⟩
theorem u0 (ha:DT X E t e1) (hb:DW X E u (.BoolOp .Or (e2::es) pos)):DW X E (yT t u) (.BoolOp .Or (e1::e2::es) pos):=by
 simp only [kH,xD] at *
 exact PW.imp (KY ha hb) fun σ H Q ⟨θ,h,ρ,w,fr,p⟩=>⟨θ,h,ρ,w,fr,(aG.bind p).mono fun c θ1 h1 H1 _ _ ⟨ev,w1,p1⟩=>by
   cases c with
   | true=>exact p1 θ1 H1 Ev.refl w1
   | false=>exact ⟨θ1,h1,ρ,w1,fr.ev ev,p1⟩⟩
theorem jI (ha:DT X E t e):DT X E (ki t) (.UnaryOp .Not e pos):=by
 simp only [kH] at *
 exact PT.imp (Iz ha) fun σ H Q ⟨θ,h,ρ,w,fr,p⟩=>⟨θ,h,ρ,w,fr,(aG.bind p).mono fun c θ1 h1 H1 _ _ ⟨ev,w1,p1⟩=>p1 θ1 H1 Ev.refl w1⟩
theorem fh {op} (h:DE X E m e):DE X E m (.BoolOp op [e] pos):=by
 simp only [bj] at *
 exact IA h
theorem ah:DA X E ag []:=by
 simp only [j9] at *
 exact PA.imp rC fun σ H Q ⟨θ,h,ρ,w,fr,p⟩=>p θ H Ev.refl w _ .nil
theorem ab (ha:DE X E m e) (hr:DA X E ma es) (hs:starEach (e::es) X.env=(false,eval e X.env)::starEach es X.env:=by rfl):DA X E (aa m ma) (e::es):=by
 simp only [bj,j9] at *
 exact PA.imp (lD ha hr hs) fun σ H Q ⟨θ,h,ρ,w,fr,p⟩=>⟨θ,h,ρ,w,fr,(aG.bind p).mono fun x θ1 h1 H1 _ _ ⟨ev,w1,p1⟩ v r1=>
   ⟨θ1,h1,ρ,w1,fr.ev ev,(aG.bind p1).mono fun xs θ2 h2 H2 _ _ ⟨ev2,w2,p2⟩ vs r2=>p2 θ2 H2 Ev.refl w2 _ (.cons (r1.ev ev2) r2)⟩⟩
theorem lL {G:Gx} {θ:List Addr} {H:Hp}:∀ {xs:List D} {vs:List V} {ds:List PyData},ba G θ H xs vs->hE xs=some ds->aZ (view θ H) ds vs/\cy ds=true
 | [],_,ds,.nil,e=>by cases e;exact ⟨rfl,by simp [cy]⟩
 | x::xs,_,ds,.cons r rs,e=>by
  unfold hE at e
  cases x with
  | dat d=>
   cases e2:hE xs with
   | none=>simp [D.data,e2] at e
   | some ds'=>
    simp [D.data,e2] at e
    subst e
    obtain ⟨h1,h2⟩:=lL rs e2
    exact ⟨.cons r.1 h1,by simp [cy,r.2,h2]⟩
  | _=>simp [D.data] at e
theorem wo {G:Gx} {θ:List Addr} {H:Hp}:∀ {ds:List PyData} {vs:List V},aZ (view θ H) ds vs->cy ds=true->ba G θ H (ds.map D.dat) vs
 | [],_,h,_=>by cases h;exact .nil
 | d::ds,_,⟨v,vs,e,r,rs⟩,s=>by
  subst e
  simp only [cy,Pl] at s
  exact .cons ⟨r,s.1⟩ (wo rs s.2)
theorem dD {n:Nat} (h:mi n=true):n<=sizeLine:=by
 have:=RE h
 rw [RG]
 exact this
theorem ph:∀ {xs:List D} {ds:List PyData},hE xs=some ds->ds.length=xs.length
 | [],ds,e=>by cases e;rfl
 | x::xs,ds,e=>by
  unfold hE at e
  cases e1:x.data with
  | none=>rw [e1] at e;cases e
  | some d=>
   cases e2:hE xs with
   | none=>rw [e1,e2] at e;cases e
   | some ds'=>rw [e1,e2] at e;cases e;simp [ph e2]
theorem bu {x1} (h:DA X E ma es):DE X E (bL ma) (.Tuple es x1 pos):=by
 simp only [bj,j9] at *
 exact PE.imp (CW h) fun σ H Q ⟨θ,h,ρ,w,fr,p⟩=>⟨θ,h,ρ,w,fr,(aG.bind p).mono fun xs θ1 h1 H1 _ _ ⟨ev,w1,p1⟩ vs r1=>by
   unfold j8 at p1
   cases e:hE xs with
   | none=>rw [e] at p1;exact p1.elim
   | some ds=>
    rw [e] at p1
    simp only at p1
    split at p1
    ·rename_i hz
     have hl:vs.length=xs.length:=(P4 r1).symm
     refine ⟨by rw [hl,<- ph e];exact dD hz,fun q hq=>?_⟩
     obtain ⟨e1,w2,g⟩:=w1.put (o:=.tup vs) hq
     obtain ⟨h1,h2⟩:=lL r1 e
     exact p1 _ _ e1 w2 _ ⟨⟨q,vs,rfl,g,h1.same e1.same⟩,by simp [bY,h2]⟩
    ·exact p1.elim⟩
theorem zm (h:DA X E ma es):DE X E (uo ma) (.List es pos):=by
 simp only [bj,j9] at *
 exact PE.imp (y0 h) fun σ H Q ⟨θ,h,ρ,w,fr,p⟩=>⟨θ,h,ρ,w,fr,(aG.bind p).mono fun xs θ1 h1 H1 _ _ ⟨ev,w1,p1⟩ vs r1=>by
   unfold gH at p1
   cases e:hE xs with
   | none=>rw [e] at p1;exact p1.elim
   | some ds=>
    rw [e] at p1
    simp only at p1
    split at p1
    ·rename_i hz
     have hl:vs.length=xs.length:=(P4 r1).symm
     refine ⟨by rw [hl,<- ph e];exact dD hz,fun q hq=>?_⟩
     obtain ⟨e1,w2,g⟩:=w1.put (o:=.lst vs) hq
     obtain ⟨h1,h2⟩:=lL r1 e
     exact p1 _ _ e1 w2 _ ⟨⟨q,vs,rfl,g,h1.same e1.same⟩,by simp [bY,h2]⟩
    ·exact p1.elim⟩
theorem W.JC {G:Gx} {θ:List Addr} {h:Hm} {H:Hp} {xs:List D} {vs:List V} (w:W G θ h H) (r:ba G θ H xs vs) {p:Addr} (hp:H p=none) :
  Ev θ H (θ++[p]) (upd H p (.lst vs))/\W G (θ++[p]) (h++[.lst xs]) (upd H p (.lst vs))/\bS G (θ++[p]) (upd H p (.lst vs)) (.ref h.length) (.ref p):=by
 have e:Ev θ H (θ++[p]) (upd H p (.lst vs)):=⟨⟨[p],rfl⟩,fun a u q=>by
  obtain ⟨h1,h2⟩:=dh q
  have ne:=aH h2 hp
  rw [dS (by simp;exact ⟨h1,ne⟩),aD ne]
  exact h2⟩
 obtain ⟨e1,w1⟩:=w.alloc (o:=.lst vs) (m:=.lst xs) hp ⟨vs,aY,r.ev e⟩
 exact ⟨e1,w1,p,by rw [<- w.len];simp,rfl⟩
theorem m7 (h:DA X E ma es):DE X E (jG ma) (.List es pos):=by
 simp only [bj,j9] at *
 exact PE.imp (y0 h) fun σ H Q ⟨θ,h,ρ,w,fr,p⟩=>⟨θ,h,ρ,w,fr,(aG.bind p).mono fun xs θ1 h1 H1 _ _ ⟨ev,w1,p1⟩ vs r1=>by
   unfold AD at p1
   split at p1
   ·rename_i hz
    have hl:vs.length=xs.length:=(P4 r1).symm
    refine ⟨by rw [hl];exact dD hz,fun q hq=>?_⟩
    obtain ⟨e1,w2,g⟩:=w1.JC r1 hq
    exact p1 _ _ e1 w2 _ g
   ·exact p1.elim⟩
theorem DB {id:String} {f:Fn} (hc:qG X E (.builtin id) f) (hg:Gl X x) (hm:X.mg x=none) (hv:bootBuiltins x=some (.builtin id)) {p:Pos} (ha:DA X E ma (e::es)) (hn:x ≠ "__name__" := by decide) (hdb:(x == ("__debug__" : Str))=false:=by decide)
  (he:starEach (e::es) X.env=(false,eval e X.env)::starEach es X.env:=by rfl) (hpl:(backTo pos (starEach es X.env)).any (·.1)=false:=by rfl):DE X E (af f ma) (.Call (.Name x p) (e::es) [] pos):=by
 simp only [bj,j9] at *
 exact PE.imp (xn hc hg hm hv ha hn hdb he hpl) fun _ _ _=>AS
theorem B8 {T:String} {f:Fn} (hc:qG X E (.type T) f) (hg:Gl X x) (hm:X.mg x=none) (hv:bootBuiltins x=some (.type T)) {p:Pos} (ha:DA X E ma (e::es)) (hn:x ≠ "__name__" := by decide) (hdb:(x == ("__debug__" : Str))=false:=by decide)
  (he:starEach (e::es) X.env=(false,eval e X.env)::starEach es X.env:=by rfl) (hpl:(backTo pos (starEach es X.env)).any (·.1)=false:=by rfl):DE X E (af f ma) (.Call (.Name x p) (e::es) [] pos):=by
 simp only [bj,j9] at *
 exact PE.imp (BS hc hg hm hv ha hn hdb he hpl) fun _ _ _=>AS
end
section
variable {X:Cx} {E:XK} {m:ME} {a b:MS} {t:MT} {e e1:Expr} {st:Stmt} {sts:List Stmt} {ss ss':List Stmt} {ma:MA} {pos:Pos} {i:Nat} {x:Str} {g:MG}
theorem cZ:CF X E dI []:=by
 simp only [m6] at *
 exact yR.imp FE fun C σ H ⟨θ,h,ρ,w,fr,p⟩=>p θ H Ev.refl w σ fr
theorem aF (h:DS X E a st):CF X E a [st]:=by
 simp only [ka,m6] at *
 exact FF h
theorem ax (h1:DS X E a st) (h2:CF X E b ss):CF X E (bh a b) (st::ss):=by
 simp only [ka,m6] at *
 exact yR.imp (CK h1 h2) fun C σ H ⟨θ,h,ρ,w,fr,p⟩=>⟨θ,h,ρ,w,fr,(aG.bind p).mono fun f θ1 h1 H1 _ _ ⟨ev,w1,p1⟩=>by
   cases f with
   | nx ρ1=>exact fun σ1 fr1=>⟨θ1,h1,ρ1,w1,fr1,p1⟩
   | rt d=>exact p1 θ1 H1 Ev.refl w1
   | bk ρ1=>exact p1 θ1 H1 Ev.refl w1
   | ct ρ1=>exact p1 θ1 H1 Ev.refl w1⟩
theorem fV (he:DE X E m e) (hs:swapsWith e none pos.line X.env=pure false:=by rfl):DS X E (gp m) (.Expr e pos):=by
 simp only [bj,ka] at *
 exact PS.imp (FG he hs) fun C σ H ⟨θ,h,ρ,w,fr,p⟩=>⟨θ,h,ρ,w,fr,(aG.bind p).mono fun d θ1 h1 H1 _ _ ⟨ev,w1,p1⟩ v _=>p1 θ1 H1 Ev.refl w1 σ (fr.ev ev)⟩
theorem bc (he:DE X E m e):DS X E (cG m) (.Return (some e) pos):=by
 simp only [bj,ka] at *
 exact PS.imp (IB he) fun C σ H ⟨θ,h,ρ,w,fr,p⟩=>⟨θ,h,ρ,w,fr,(aG.bind p).mono fun d θ1 h1 H1 _ _ ⟨ev,w1,p1⟩ v r=>p1 θ1 H1 Ev.refl w1 v r⟩
theorem gJ (hc:DT X E t e) (ha:CF X E a ss) (hb:CF X E b ss'):DS X E (mW t a b) (.If e ss ss' pos):=by
 simp only [kH,ka,m6] at *
 exact PS.imp (K1 hc ha hb) fun C σ H ⟨θ,h,ρ,w,fr,p⟩=>⟨θ,h,ρ,w,fr,(aG.bind p).mono fun c θ1 h1 H1 _ _ ⟨ev,w1,p1⟩=>by
   cases c with
   | true=>exact ⟨θ1,h1,ρ,w1,fr.ev ev,p1⟩
   | false=>exact ⟨θ1,h1,ρ,w1,fr.ev ev,p1⟩⟩
theorem Gj (hN:X.N.Nodup) (hi:X.N[i]?=some x) (hx:Loc X.env.scope x) (hf:X.fn x=true\/X.env.scope.names.lookup x=some .local:=by first | exact .inl rfl | exact .inr rfl | assumption):DG X E (aB i) (.Name x pos):=by
 simp only [mE] at *
 exact fun pins s σ H v u Q I r ⟨θ,h,ρ,d,w,fr,rd,p⟩=>FH hN hi hx hf pins s σ H v u Q I r (p θ H Ev.refl w _ (fr.set rd))
def Ox (G:Gx) (E:XK) (g:AE):Hz:=fun vs σ H Q=>∃ θ h ρ ds,W G θ h H/\Fr G θ H ρ σ/\ba G θ H ds vs/\aG G (n0 G E) θ H (g ds ρ h) (fun ρ' θ' _ H'=>∀ σ',Fr G θ' H' ρ' σ'->Q σ' H')
@[irreducible] def KI (X:Cx) (E:XK) (m:AE) (es:List Expr):Prop:=KC X es (Ox X.G E m)
theorem zo (X:Cx) (E:XK) (m:AE) (es:List Expr):KI X E m es=(KC X es (Ox X.G E m)):=by
 unfold KI
 rfl
theorem fW:KI X E ip []:=by
 simp only [zo] at *
 exact fun pins s σ H vs us Q I r ⟨θ,h,ρ,ds,w,fr,rd,p⟩=>by
  cases rd with
  | nil=>exact FI pins s σ H [] us Q I r ⟨rfl,p θ H Ev.refl w σ fr⟩
  | cons=>exact p.elim
theorem bw {gs:AE} {es:List Expr} (h1:DG X E g e) (h2:KI X E gs es) (hs:(assignEach (e::es) X.env).map (·.2)=assign e X.env::(assignEach es X.env).map (·.2):=by rfl):KI X E (bR g gs) (e::es):=by
 simp only [mE,zo] at *
 exact fun pins s σ H vs us Q I r ⟨θ,h,ρ,ds,w,fr,rd,p⟩=>by
   cases rd with
   | nil=>exact p.elim
   | cons r1 rr=>exact CL h1 h2 hs pins s σ H _ us Q I r ⟨_,_,rfl,θ,h,ρ,_,w,fr,r1,(aG.bind p).mono fun ρ1 θ1 h1 H1 _ _ ⟨ev,w1,p1⟩ σ1 fr1=>⟨θ1,h1,ρ1,_,w1,fr1,ba.ev ev rr,p1⟩⟩
theorem fX {G:Gx} {θ:List Addr} {H:Hp} {ds:List PyData} {v:V} (r:bS G θ H (.dat (.tuple ds)) v):∃ a xs,v=.ref a/\view θ H a=some (.tup xs)/\aZ (view θ H) ds xs/\ba G θ H (ds.map D.dat) xs:=by
 obtain ⟨⟨a,xs,e,ha,rr⟩,s⟩:=r
 exact ⟨a,xs,e,ha,rr,wo rr (by simpa [bY] using s)⟩
theorem gR {G:Gx} {θ:List Addr} {H:Hp} {ds:List PyData} {v:V} (r:bS G θ H (.dat (.list ds)) v):∃ a xs,v=.ref a/\view θ H a=some (.lst xs)/\aZ (view θ H) ds xs/\ba G θ H (ds.map D.dat) xs:=by
 obtain ⟨⟨a,xs,e,ha,rr⟩,s⟩:=r
 exact ⟨a,xs,e,ha,rr,wo rr (by simpa [bY] using s)⟩
@[irreducible] def u5 (gs:AE) (n:Nat):Prop:=∀ xs ρ h,xs.length≠n->gs xs ρ h=.bad
theorem rW (gs:AE) (n:Nat):u5 gs n=(∀ xs ρ h,xs.length≠n->gs xs ρ h=.bad):=by
 unfold u5
 rfl
theorem dz:u5 ip 0:=by
 simp only [rW] at *
 exact fun xs ρ h ne=>by
  cases xs with
  | nil=>exact absurd rfl ne
  | cons=>rfl
theorem aU {g:Nat} {gs:AE} {n:Nat} (t:u5 gs n):u5 (bR (aB g) gs) (n+1):=by
 simp only [rW] at *
 exact fun xs ρ h ne=>by
  cases xs with
  | nil=>rfl
  | cons x xs=>simp only [bR,aB,R.ay];exact t xs _ h (by simpa using ne)
theorem jc {es:List Expr} {k n:Nat} {gs:AE} (hc:X.calm=true) (h:KI X E gs es) (tk:u5 gs n) (hn:(assignEach es X.env).length=n:=by rfl) (hst:(assignEach es X.env).findIdx? (·.1)=none:=by rfl):DG X E (iq gs) (.Tuple es k pos):=by
 simp only [mE,zo,rW] at *
 exact fun pins s σ H v u Q I r ⟨θ,hm,ρ,d,w,fr,rd,p⟩=>by
   cases d with
   | dat d=>
    cases d with
    | tuple ds=>
     obtain ⟨a,xs,e,ha,rr,rr2⟩:=fX rd
     have hl:xs.length=n:=by
      have h1:xs.length=ds.length:=rr.length
      by_cases z:ds.length=n
      ·rw [h1,z]
      ·have p':=p
       simp only [iq] at p'
       rw [tk (ds.map D.dat) ρ hm (by simpa using z)] at p'
       exact p'.elim
     exact IE (n:=n) hc h hn hst pins s σ H v u Q I r ⟨a,xs,e,gx.of (aA _ _ _ _ ha),hl,θ,hm,ρ,_,w,fr,rr2,p⟩
    | _=>exact p.elim
   | _=>exact p.elim
theorem JD (hN:X.N.Nodup) (hi:X.N[i]?=some x) (hx:Loc X.env.scope x) (he:DE X E m e) {pos':Pos} (hs:swapsWith e (some (.Name x pos')) pos.line X.env=pure false:=by rfl) (hf:X.fn x=true\/X.env.scope.names.lookup x=some .local:=by first | exact .inl rfl | exact .inr rfl | assumption) :
  DS X E (bT i m) (.Assign [.Name x pos'] e pos):=by
 simp only [bj,ka] at *
 exact PS.imp (IH hN hi hx he hs hf) fun C σ H ⟨θ,h,ρ,w,fr,p⟩=>⟨θ,h,ρ,w,fr,(aG.bind p).mono fun d θ1 h1 H1 _ _ ⟨ev,w1,p1⟩ v r=>p1 θ1 H1 Ev.refl w1 _ ((fr.ev ev).set r)⟩
theorem jJ {tg:Expr} (he:DE X E m e) (hg:DG X E g tg) (hs:swapsWithSole [tg] e pos.line X.env=pure false:=by rfl) (hw:swappedStores [tg] e X.env=pure none:=by rfl)
  (h1:(assignEach [tg] X.env).map (·.2)=[assign tg X.env]:=by rfl):DS X E (kC g m) (.Assign [tg] e pos):=by
 simp only [bj,ka,mE] at *
 exact PS.imp (IG he hg hs hw h1) fun C σ H ⟨θ,h,ρ,w,fr,p⟩=>⟨θ,h,ρ,w,fr,(aG.bind p).mono fun d θ1 h1 H1 _ _ ⟨ev,w1,p1⟩ v r=>
   ⟨θ1,h1,ρ,d,w1,fr.ev ev,r,(aG.bind p1).mono fun ρ1 θ2 h2 H2 _ _ ⟨ev2,w2,p2⟩ σ2 fr2=>p2 θ2 H2 Ev.refl w2 σ2 fr2⟩⟩
def pY (G:Gx) (θ:List Addr) (H:Hp) (xs:List D) (J:It):Prop:=∀ θ' h' H',Ev θ H θ' H'->W G θ' h' H' ->
 (∀ (i:Nat) (d:D),xs[i]?=some d->J.go i H'/\∀ x H2,J.yld i H' x H2->Ev θ' H' θ' H2/\W G θ' h' H2/\bS G θ' H2 d x)/\J.stop xs.length H'
def lI (G:Gx) (E:XK) (m:MA):TI:=fun σ H R=>∃ θ h ρ,W G θ h H/\Fr G θ H ρ σ/\aG G (n0 G E) θ H (m ρ h) (fun xs θ' _ H'=>∀ J,pY G θ' H' xs J->R J H')
@[irreducible] def DI (X:Cx) (E:XK) (m:MA) (tg e:Expr):Prop:=PI X tg e (lI X.G E m)
theorem kI (X:Cx) (E:XK) (m:MA) (tg e:Expr):DI X E m tg e=(PI X tg e (lI X.G E m)):=by
 unfold DI
 rfl
theorem PI.imp {tg e:Expr} {t t':TI} (h:PI X tg e t) (k:∀ σ H Q,t' σ H Q->t σ H Q):PI X tg e t':=fun pins s σ H Q I q=>h pins s σ H Q I (k _ _ _ q)
theorem ba.get {G:Gx} {θ:List Addr} {H:Hp}:∀ {ds:List D} {vs:List V} {i:Nat} {d:D} {v:V},ba G θ H ds vs->ds[i]?=some d->vs[i]?=some v->bS G θ H d v
 | _,_,i,_,_,.nil,e,_=>by simp at e
 | _,_,0,_,_,.cons r _,e,e'=>by simp at e e';subst e;subst e';exact r
 | _,_,i+1,d,v,.cons _ t,e,e'=>ba.get (i:=i) t (by simpa using e) (by simpa using e')
theorem ba.some {G:Gx} {θ:List Addr} {H:Hp} {ds:List D} {vs:List V} {i:Nat} {d:D} (r:ba G θ H ds vs) (e:ds[i]?=some d):∃ v,vs[i]?=some v/\bS G θ H d v:=by
 have hl:ds.length=vs.length:=P4 r
 have hi:i < vs.length:=by rw [<- hl];exact (PF.mp e).1
 exact ⟨vs[i],Pz hi,r.get e (Pz hi)⟩
theorem JE {G:Gx} {K:PySem.W.Frag} {θ:List Addr} {H:Hp} {ds:List D} {a:Addr} {xs:List V} (ha:view θ H a=some (.tup xs)) (r:ba G θ H ds xs):pY G θ H ds (Mc K a):=fun θ' h' H' ev w=>by
 have ha':=aA _ _ _ _ (ev.same _ _ ha)
 have q:gx K H' a xs:=gx.of ha'
 refine ⟨fun i d e=>?_,⟨xs,q,by rw [<- show ds.length=xs.length from P4 r];exact Pm _⟩⟩
 obtain ⟨v,ev',rv⟩:=r.some e
 refine ⟨⟨xs,v,q,ev'⟩,fun x H2 ⟨e2,y⟩=>?_⟩
 subst e2
 have:=y xs q
 rw [ev'] at this
 cases this
 exact ⟨Ev.refl,w,rv.ev ev⟩
theorem JF {G:Gx} {K:PySem.W.Frag} {θ:List Addr} {H:Hp} {ds:List D} {a:Addr} {xs:List V} (ha:view θ H a=some (.lst xs)) (r:ba G θ H ds xs):pY G θ H ds (KD K a):=fun θ' h' H' ev w=>by
 have ha':=aA _ _ _ _ (ev.same _ _ ha)
 have q:iw K H' a xs:=iw.of ha'
 refine ⟨fun i d e=>?_,⟨xs,q,by rw [<- show ds.length=xs.length from P4 r];exact Pm _⟩⟩
 obtain ⟨v,ev',rv⟩:=r.some e
 refine ⟨⟨xs,v,q,ev'⟩,fun x H2 ⟨e2,y⟩=>?_⟩
 subst e2
 have:=y xs q
 rw [ev'] at this
 cases this
 exact ⟨Ev.refl,w,rv.ev ev⟩
theorem JG {tg:Expr} (h:DE X E m e):DI X E (AF m) tg e:=by
 simp only [bj,kI] at *
 exact PI.imp (CM h) fun σ H R ⟨θ,h,ρ,w,fr,p⟩=>⟨θ,h,ρ,w,fr,(aG.bind p).mono fun d θ1 h1 H1 _ _ ⟨ev,w1,p1⟩ v r=>by
   cases d with
   | dat d=>
    cases d with
    | tuple ds=>
     obtain ⟨a,xs,e,ha,_,rr⟩:=fX r
     exact ⟨a,e,⟨xs,gx.of (aA _ _ _ _ ha)⟩,p1 θ1 H1 Ev.refl w1 _ (JE ha rr)⟩
    | _=>exact p1.elim
   | _=>exact p1.elim⟩
theorem JH {tg:Expr} (h:DE X E m e):DI X E (Dr m) tg e:=by
 simp only [bj,kI] at *
 exact PI.imp (Am h) fun σ H R ⟨θ,h,ρ,w,fr,p⟩=>⟨θ,h,ρ,w,fr,(aG.bind p).mono fun d θ1 h1 H1 _ _ ⟨ev,w1,p1⟩ v r=>by
   cases d with
   | dat d=>
    cases d with
    | list ds=>
     obtain ⟨a,xs,e,ha,_,rr⟩:=gR r
     exact ⟨a,e,⟨xs,iw.of (aA _ _ _ _ ha)⟩,p1 θ1 H1 Ev.refl w1 _ (JF ha rr)⟩
    | _=>exact p1.elim
   | _=>exact p1.elim⟩
theorem AV {x:Str} {i:Nat} (s:PyData.strOk x=true):PyData.strOk ⟨#[x.cps.getD i 0]⟩=true:=by
 have q:=Array.all_eq_true.mp s
 simp only [PyData.strOk]
 apply Array.all_eq_true.mpr
 intro j hj
 simp only [Pu,PQ,Ql] at hj
 have:j=0:=by omega
 subst this
 simp only [List.getElem_toArray,List.getElem_cons_zero]
 by_cases hi:i < x.cps.size
 ·have:=q i hi
  simpa [Array.getD,hi] using this
 ·simp [Array.getD,hi]
theorem JI {tg:Expr} (h:DE X E m e):DI X E (Ds m) tg e:=by
 simp only [bj,kI] at *
 exact PI.imp (Jn h) fun σ H R ⟨θ,h,ρ,w,fr,p⟩=>⟨θ,h,ρ,w,fr,(aG.bind p).mono fun d θ1 h1 H1 _ _ ⟨ev,w1,p1⟩ v r=>by
   cases d with
   | dat d=>
    cases d with
    | str s=>
     obtain ⟨r1,r2⟩:=r
     refine ⟨s,r1,p1 θ1 H1 Ev.refl w1 _ fun θ' h' H' ev w=>⟨fun i d e=>?_,by show (signs s).length=_;simp [signs]⟩⟩
     simp only [signs,Qw,Qh] at e
     obtain ⟨j,e1,e2⟩:=e
     obtain ⟨hj,e3⟩:=PF.mp e1
     simp at hj e3
     subst e3
     subst e2
     refine ⟨hj,fun x H2 ⟨z1,z2⟩=>?_⟩
     subst z1
     subst z2
     exact ⟨Ev.refl,w,rfl,by simp only [bY];exact AV (by simpa [bY] using r2)⟩
    | _=>exact p1.elim
   | _=>exact p1.elim⟩
theorem Gk {G:Gx} {θ:List Addr} {H:Hp} {lo:Int} {n:Nat}:pY G θ H (nums lo n) (Md lo n):=fun θ' h' H' ev w=>by
 refine ⟨fun i d e=>?_,by show n<=(nums lo n).length;simp [nums]⟩
 simp only [nums,Qw,Qh] at e
 obtain ⟨j,e1,e2⟩:=e
 obtain ⟨hj,e3⟩:=PF.mp e1
 simp at hj e3
 subst e3
 subst e2
 refine ⟨hj,fun x H2 ⟨z1,z2⟩=>?_⟩
 subst z1
 subst z2
 exact ⟨Ev.refl,w,rfl,by simp [bY]⟩
theorem bW {G:Gx} {θ:List Addr} {H:Hp} {j:Int} {v:V} (r:bS G θ H (.int j) v):v=.int j:=r.1
theorem qQ {tg a:Expr} {p' pos':Pos} (hg:Gl X "range") (hm:X.mg "range" = none) (ha:DA X E ma [a]) (hs:starEach [a] X.env=[(false,eval a X.env)]:=by rfl):DI X E (jt ma) tg (.Call (.Name "range" p') [a] [] pos'):=by
 simp only [j9,kI] at *
 exact PI.imp (BL hg hm ha hs) fun σ H R ⟨θ,h,ρ,w,fr,p⟩=>⟨θ,h,ρ,w,fr,(aG.bind p).mono fun ds θ1 h1 H1 _ _ ⟨ev,w1,p1⟩ vs r=>by
   split at p1
   ·split at p1
    ·rename_i j _ hj
     cases r with
     | cons r1 rr=>
      cases rr
      cases bW r1
      exact ⟨j,rfl,hj.1,hj.2,p1 θ1 H1 Ev.refl w1 _ Gk⟩
    ·exact p1.elim
   ·exact p1.elim⟩
theorem xE:∀ (xs ys:List PyData),(mj xs ys).length=min xs.length ys.length
 | [],_=>by simp [mj]
 | _::_,[]=>by simp [mj]
 | x::xs,y::ys=>by simp [mj,xE xs ys]
theorem xF:∀ (xs ys:List PyData) (i:Nat) (d:D),(mj xs ys)[i]?=some d->∃ x y,xs[i]?=some x/\ys[i]?=some y/\d=.dat (.tuple [x,y])
 | [],_,i,d,e=>by simp [mj] at e
 | _::_,[],i,d,e=>by simp [mj] at e
 | x::xs,y::ys,0,d,e=>by simp [mj] at e;exact ⟨x,y,rfl,rfl,e.symm⟩
 | x::xs,y::ys,i+1,d,e=>by simpa using xF xs ys i d (by simpa [mj] using e)
theorem n6:∀ {ds:List PyData} {i:Nat} {d:PyData},cy ds=true->ds[i]?=some d->bY d=true
 | [],i,d,_,e=>by simp at e
 | x::xs,0,d,s,e=>by simp [cy] at s e;subst e;exact s.1
 | x::xs,i+1,d,s,e=>by simp [cy] at s;exact n6 (i:=i) s.2 (by simpa using e)
theorem JJ {kk:Nat} {es:List Expr} {tpos:Pos} {e1 e2:Expr} {p' pos':Pos} (hg:Gl X "zip") (hm:X.mg "zip" = none) (ha:DA X E ma [e1,e2]) (hs:starEach [e1,e2] X.env=[(false,eval e1 X.env),(false,eval e2 X.env)]:=by rfl) (hs2:starEach [e2] X.env=[(false,eval e2 X.env)]:=by rfl) :
  DI X E (AG ma) (.Tuple es kk tpos) (.Call (.Name "zip" p') [e1,e2] [] pos'):=by
 simp only [j9,kI] at *
 exact PI.imp (Jg hg hm ha hs hs2) fun σ H R ⟨θ,h,ρ,w,fr,p⟩=>⟨θ,h,ρ,w,fr,(aG.bind p).mono fun ds θ1 h1 H1 _ _ ⟨ev,w1,p1⟩ vs r=>by
   split at p1
   ·rename_i xs ys _
    cases r with
    | cons r1 rr=>
     cases rr with
     | cons r2 rr=>
      cases rr
      have s1:cy xs=true:=by simpa [bY] using r1.2
      have s2:cy ys=true:=by simpa [bY] using r2.2
      obtain ⟨a1,us,rfl,ha1,q1,_⟩:=fX r1
      obtain ⟨a2,ws,rfl,ha2,q2,_⟩:=fX r2
      refine ⟨a1,a2,us,ws,rfl,gx.of (aA _ _ _ _ ha1),gx.of (aA _ _ _ _ ha2),p1 θ1 H1 Ev.refl w1 _ fun θ' h' H' ev' w'=>?_⟩
      have k1:gx X.K H' a1 us:=gx.of (aA _ _ _ _ (ev'.same _ _ ha1))
      have k2:gx X.K H' a2 ws:=gx.of (aA _ _ _ _ (ev'.same _ _ ha2))
      have l1:=q1.length
      have l2:=q2.length
      refine ⟨fun i d e=>?_,⟨us,ws,k1,k2,by rw [xE,l1,l2];omega⟩⟩
      obtain ⟨x,y,ex,ey,rfl⟩:=xF _ _ _ _ e
      obtain ⟨u,eu,ru⟩:=aZ.get' q1 ex
      obtain ⟨z,ez,rz⟩:=aZ.get' q2 ey
      refine ⟨⟨us,ws,u,z,k1,k2,eu,ez⟩,fun v H2 ⟨pp,x',y',e1,hp,e2,c1,c2⟩=>?_⟩
      have:=c1 us k1
      rw [eu] at this
      cases this
      have:=c2 ws k2
      rw [ez] at this
      cases this
      subst e1
      subst e2
      obtain ⟨e3,w3,g3⟩:=w'.put (o:=.tup [u,z]) hp
      exact ⟨e3,w3,⟨pp,[u,z],rfl,g3,.cons (ru.same (ev'.same.trans e3.same)) (.one (rz.same (ev'.same.trans e3.same)))⟩,by simp [bY,cy,n6 s1 ex,n6 s2 ey]⟩
   ·exact p1.elim⟩
abbrev gz:XK:=fun _ _ _=>False
theorem aG.dU {α β:Type} {G:Gx} {F:XP} {θ:List Addr} {H:Hp} {r:R α} {f:α->Hm->R β} {L:β->List Addr->Hm->Hp->Prop} (p:aG G F θ H (r.xg.bind f) L) {F':XP} :
  aG G F' θ H r fun a θ1 h1 H1=>Ev θ H θ1 H1/\W G θ1 h1 H1/\aG G F θ1 H1 (f a h1) L:=by
 cases r with
 | ok a h'=>exact fun θ1 H1 e w=>⟨e,w,aG.later p e⟩
 | exc x h'=>exact p.elim
 | bad=>exact p.elim
theorem PS.Fq {X:Cx} {st:Stmt} {t:TS} (h:PS X.Fq st t):PS X st t:=fun pins s σ H D I hw=>
 Q9 (h pins s σ H D (I.ua _) hw) (fun _ _ q=>q.ku) fun _ _ z=>False.elim z
end
end Ml
namespace L2
open PySem PySem.Spec PyProof.Rows
theorem HG.O6 {P:Program} {w:World} {K:PySem.W.Frag} {mg:Str->Option Value} {base:Heap} {x qual:Str} {st:Stmt} {f:Addr} {fd:FuncData} {N ps:List Str} {k:Nat} {sp:Sp} (F:HG K x qual st f fd) (S:aO N ps (aE st)) (len:∀ vs H Q E,sp vs H Q E->vs.length=ps.length)
  (hbody:∀ (cdv:Value) (A:Around) (outer:List Env) (s:Shared) (H:Hp) (vs:List V) (Q:VK) (E:XK),cg k (A.deeper (envOfC qual (aE st) s.heap.objs.size f cdv))->sp vs H Q E ->
   ∃ t,yR (ub (tZ P w) P w K mg base N qual (aE st) f cdv A outer s H E) (ff st) t/\t {nx:=fun _ H'=>Q .non H',rt:=Q} (start N vs) H):jn P w K mg base (tZ P w) (k+1) f fd ps sp:=by
 obtain ⟨oc,od,kV,doc,pm,an,cdv,ct,osl,rfl,lk,hcd⟩:=F.ex
 exact Le lk hcd S len fun A outer s H vs Q E hr hsp=>hbody cdv A outer s H vs Q E hr hsp
structure DC (P:Program) (w:World) (K:PySem.W.Frag) (mg:Str->Option Value) (base:Heap) (x:Str) (ps:List Str) (k:Nat) (sp:Sp):Prop where
 ex:∃ (f:Addr) (fd:FuncData),mg x=some (.ref f)/\PySem.W.keepIn K (.ref f)=true/\Binds K fd ps []/\jn P w K mg base (tZ P w) k f fd ps sp
section
variable {X:Cx} {x:Str} {ps:List Str} {k:Nat} {sp:Sp} {e:Expr} {es:List Expr} {t:TA} {p pos:Pos}
theorem JK {E:XK} (F:DC X.prog X.w X.K X.mg X.base x ps k sp) (hx:Passes (tZ X.prog X.w) X E) (hr:cg k X.A) (hg:Gl X x) (ha:PA X (e::es) t) (hdb:(x == ("__debug__" : Str))=false:=by decide) (he:starEach (e::es) X.env=(false,eval e X.env)::starEach es X.env:=by rfl)
  (hpl:(backTo pos (starEach es X.env)).any (·.1)=false:=by rfl):PE X (.Call (.Name x p) (e::es) [] pos) (CY sp [] E t):=by
 obtain ⟨f,fd,h1,h2,h3,h4⟩:=F.ex
 exact FR h4 hr hg h1 h2 h3 .nil hx ha hdb he hpl
end
end L2
namespace Ml
open PySem PySem.Spec L2
section
variable {X:Cx} {E:XK} {m:ME} {a b:MS} {t:MT} {e e1 tg:Expr} {st:Stmt} {ss ss':List Stmt} {ma it:MA} {pos:Pos} {i:Nat} {x:Str} {g:MG}
theorem DD {G:Gx} {F:XP} {θ1:List Addr} {H1:Hp} {h1:Hm} {xs:List D} {J:It} {C:Ends} {σ:St} {ρ:Fm} (hJ:pY G θ1 H1 xs J) (w1:W G θ1 h1 H1) (fr:Fr G θ1 H1 ρ σ) (p1:aG G F θ1 H1 (cV g b xs ρ h1) (KS G C)) :
  ∃ W':Nat->Nat->St->Hp->Prop,(∃ m,W' 0 m σ H1)/\∀ i m σ H,W' i m σ H ->
   (J.stop i H/\C.nx σ H)\/(J.go i H/\∃ N:St->Hp->Prop,(∀ σ' H',N σ' H'->∃ m',m' < m/\W' (i+1) m' σ' H')/\∀ x H',J.yld i H x H'->lG G gz g x σ H' fun σ2 H2=>lS G gz b {C with nx:=N,ct:=N,bk:=C.nx} σ2 H2):=by
 refine ⟨fun i m σ H=>m=xs.length - i/\i<=xs.length/\∃ θ' h' ρ',Ev θ1 H1 θ' H/\W G θ' h' H/\Fr G θ' H ρ' σ/\aG G F θ' H (cV g b (xs.drop i) ρ' h') (KS G C),⟨xs.length,by simp,QS _,θ1,h1,ρ,Ev.refl,w1,fr,p1⟩,?_⟩
 rintro i m σ H ⟨rfl,hi,θ',h',ρ',ev,w,fr',p⟩
 obtain ⟨j1,j2⟩:=hJ θ' h' H ev w
 by_cases hlt:i < xs.length
 ·have ed:xs.drop i=xs[i]::xs.drop (i+1):=QD hlt
  rw [ed] at p
  obtain ⟨g1,g2⟩:=j1 i xs[i] (Pz hlt)
  refine .inr ⟨g1,fun σ2 H2=>i+1<=xs.length/\∃ θ' h' ρ',Ev θ1 H1 θ' H2/\W G θ' h' H2/\Fr G θ' H2 ρ' σ2/\aG G F θ' H2 (cV g b (xs.drop (i+1)) ρ' h') (KS G C),fun σ' H' q=>⟨xs.length - (i+1),by omega,rfl,q⟩,fun x H2 y=>?_⟩
  obtain ⟨e2,w2,r2⟩:=g2 x H2 y
  refine ⟨θ',h',ρ',xs[i],w2,fr'.ev e2,r2,(aG.dU (p.later e2)).mono fun ρ3 θ3 h3 H3 _ _ ⟨e3,w3,p3⟩ σ3 fr3=>⟨θ3,h3,ρ3,w3,fr3,(aG.dU p3).mono fun f θ4 h4 H4 _ _ ⟨e4,w4,p4⟩=>?_⟩⟩
  have ev4:=(ev.trans e2).trans (e3.trans e4)
  cases f with
  | nx ρ5=>exact fun σ5 fr5=>⟨hlt,θ4,h4,ρ5,ev4,w4,fr5,p4⟩
  | ct ρ5=>exact fun σ5 fr5=>⟨hlt,θ4,h4,ρ5,ev4,w4,fr5,p4⟩
  | bk ρ5=>exact p4 θ4 H4 Ev.refl w4
  | rt d=>exact p4 θ4 H4 Ev.refl w4
 ·have hx:i=xs.length:=by omega
  subst hx
  rw [QN (Pm _)] at p
  exact .inl ⟨j2,p θ' H Ev.refl w σ fr'⟩
theorem m8 {body:List Stmt} (hc:X.calm=true) (hi:DI X.Fq gz it tg e) (hg:DG X.Fq gz g tg) (hb:CF X.Fq gz b body) (hs:∀ x,foldedSetIterable e X.env x=pure x:=by intro _;rfl):DS X E (qE it g b) (.For tg e body [] pos):=by
 simp only [ka,m6,mE,kI] at *
 exact PS.Fq (PS.imp (CO PassesOwn.never hc hi hg hb hs) fun C σ H ⟨θ,h,ρ,w,fr,p⟩=>⟨θ,h,ρ,w,fr,(aG.dU p).mono fun xs θ1 h1 H1 _ _ ⟨ev,w1,p1⟩ J hJ=>DD hJ w1 (fr.ev ev) p1⟩)
theorem fY {α β:Type} {G:α->β->Prop}:∀ {xs ys:List α} {us ws:List β},Paired G xs us->Paired G ys ws->Paired G (xs++ys) (us++ws)
 | _,_,_,_,.nil,s=>s
 | _,_,_,_,.cons r t,s=>.cons r (fY t s)
theorem B9 {G:Gx} {F:XP} {n:Nat} {θ1:List Addr} {H1:Hp} {h1:Hm} {xs:List D} {J:It} {σ:St} {ρ:Fm} {Q:VK} {mk:List D->Hm->R D} (hJ:pY G θ1 H1 xs J) (w1:W G θ1 h1 H1) (fr:Fr G θ1 H1 ρ σ) (p1:aG G F θ1 H1 ((eh n ρ g t m xs h1).bind mk) (KV G Q))
  (hmk:∀ ys vs θ h H,ys.length<=xs.length->W G θ h H->ba G θ H ys vs->aG G F θ H (mk ys h) (KV G Q)->∀ p,H p=none->Q (.ref p) (upd H p (.lst vs))) (hz:xs.length<=sizeLine) :
  C5 n J (lG G gz g) (lT G gz t) (lE G gz m) σ H1 Q:=by
 refine ⟨fun i m' ys H=>m'=xs.length - i/\i<=xs.length/\∃ θ' h' acc,acc.length<=i/\Ev θ1 H1 θ' H/\W G θ' h' H/\ba G θ' H acc ys/\aG G F θ' H ((eh n ρ g t m (xs.drop i) h').bind fun zs h2=>mk (acc++zs) h2) (KV G Q),
  ⟨xs.length,by simp,QS _,θ1,h1,[],Pm _,Ev.refl,w1,.nil,p1⟩,?_⟩
 rintro i m' ys H ⟨rfl,hi,θ',h',acc,hacc,ev,w,ra,p⟩
 obtain ⟨j1,j2⟩:=hJ θ' h' H ev w
 have hly:ys.length<=sizeLine:=by rw [<- show acc.length=ys.length from P4 ra];omega
 by_cases hlt:i < xs.length
 ·have ed:xs.drop i=xs[i]::xs.drop (i+1):=QD hlt
  rw [ed] at p
  obtain ⟨g1,g2⟩:=j1 i xs[i] (Pz hlt)
  refine .inr ⟨g1,hly,fun ys2 H2=>i+1<=xs.length/\∃ θ' h' acc,acc.length<=i+1/\Ev θ1 H1 θ' H2/\W G θ' h' H2/\ba G θ' H2 acc ys2/\aG G F θ' H2 ((eh n ρ g t m (xs.drop (i+1)) h').bind fun zs h2=>mk (acc++zs) h2) (KV G Q),fun ys' H' q=>⟨xs.length - (i+1),by omega,rfl,q⟩,fun x H2 y=>?_⟩
  obtain ⟨e2,w2,r2⟩:=g2 x H2 y
  have p2:=p.later e2
  unfold eh at p2
  simp only [R.bind_assoc] at p2
  refine ⟨θ',h',_,xs[i],w2,((fr.ev ev).ev e2).replicate n,r2,(aG.dU p2).mono fun ρ3 θ3 h3 H3 _ _ ⟨e3,w3,p3⟩ σ3 fr3=>⟨θ3,h3,ρ3,w3,fr3,(aG.dU p3).mono fun c θ4 h4 H4 _ _ ⟨e4,w4,p4⟩=>?_⟩⟩
  have ev4:=(ev.trans e2).trans (e3.trans e4)
  have ra4:=ba.ev (e2.trans (e3.trans e4)) ra
  cases c with
  | false=>exact ⟨hlt,θ4,h4,acc,by omega,ev4,w4,ra4,p4⟩
  | true=>
   simp only [Qe,R.bind_assoc] at p4
   refine ⟨θ4,h4,ρ3,w4,fr3.ev e4,(aG.dU p4).mono fun y θ5 h5 H5 _ _ ⟨e5,w5,p5⟩ v5 r5=>⟨hlt,θ5,h5,acc++[y],by simp;omega,ev4.trans e5,w5,?_,?_⟩⟩
   ·exact fY (ba.ev e5 ra4) (.cons r5 .nil)
   ·simp only [R.bind_assoc,R.ay] at p5
    simpa using p5
 ·have hx:i=xs.length:=by omega
  subst hx
  rw [QN (Pm _)] at p
  simp only [eh,R.ay,List.append_nil] at p
  exact .inl ⟨j2,hly,hmk acc ys θ' h' H hacc w ra p⟩
variable {own:List Str} {scope:Scope} {elt:Expr} {ifs:List Expr}
@[irreducible] def JL (X:Cx) (E:XK) (t:MT) (es:List Expr):Prop:=F0 X es (lT X.G E t)
theorem rX (X:Cx) (E:XK) (t:MT) (es:List Expr):JL X E t es=(F0 X es (lT X.G E t)):=by
 unfold JL
 rfl
theorem lM:JL X E fH []:=by
 simp only [rX] at *
 exact fun pins s σ H Q I ⟨θ,h,ρ,w,fr,p⟩=>F1 pins s σ H Q I (p θ H Ev.refl w)
theorem gS (h:DT X E t e):JL X E t [e]:=by
 simp only [kH,rX] at *
 exact F2 h
theorem AW {G:Gx} {n:Nat} {mk:List D->Hm->R D} {σ:St} {H:Hp} {Q:VK} (h:lE G E (af mk (mC n it g t m)) σ H Q)
  (hmk:∀ ys vs θ h H,ys.length<=sizeLine->W G θ h H->ba G θ H ys vs->aG G (n0 G E) θ H (mk ys h) (KV G Q)->∀ p,H p=none->Q (.ref p) (upd H p (.lst vs))) :
  Ax n (lI G E it) (lG G gz g) (lT G gz t) (lE G gz m) σ H Q:=by
 obtain ⟨θ,h,ρ,w,fr,p⟩:=h
 simp only [af,mC,R.bind_assoc] at p
 refine ⟨θ,h,ρ,w,fr,(aG.bind p).mono fun xs θ1 h1 H1 _ _ ⟨ev,w1,p1⟩ J hJ=>?_⟩
 split at p1
 ·rename_i hz
  exact B9 hJ w1 (fr.ev ev) p1 (fun ys vs θ h H hl=>hmk ys vs θ h H (Pq hl (dD hz))) (dD hz)
 ·exact p1.elim
theorem rY {G:Gx} {F:XP} {Q:VK} (ys:List D) (vs:List V) (θ:List Addr) (h:Hm) (H:Hp) (w1:W G θ h H) (r1:ba G θ H ys vs) (p1:aG G F θ H (gH ys h) (KV G Q)) (q:Addr) (hq:H q=none):Q (.ref q) (upd H q (.lst vs)):=by
 unfold gH at p1
 cases e:hE ys with
 | none=>rw [e] at p1;exact p1.elim
 | some ds=>
  rw [e] at p1
  simp only at p1
  split at p1
  ·obtain ⟨e1,w2,g⟩:=w1.put (o:=.lst vs) hq
   obtain ⟨h1,h2⟩:=lL r1 e
   exact p1 _ _ e1 w2 _ ⟨⟨q,vs,rfl,g,h1.same e1.same⟩,by simp [bY,h2]⟩
  ·exact p1.elim
theorem fi (own:List Str) (CS:gm X.env.scope X.N own scope=true) (hc:X.calm=true) (hi:DI X E it tg e) (hg:∀ C s2 H2 fp pins,DG (aK X own scope C s2 H2 fp pins) gz g tg)
  (ht:∀ C s2 H2 fp pins,JL (aK X own scope C s2 H2 fp pins) gz t ifs) (he:∀ C s2 H2 fp pins,DE (aK X own scope C s2 H2 fp pins) gz m elt) (hs:∀ x,foldedSetIterable e X.env x=pure x:=by intro _;rfl) :
  DE X E (cC own.length it g t m) (.ListComp elt [⟨tg,e,ifs,0⟩] scope pos):=by
 simp only [bj,mE,kI,rX] at *
 exact PE.imp (F3 (g:=lG X.G gz g) (tc:=lT X.G gz t) (te:=lE X.G gz m) own CS hc hi hg ht he hs) fun σ H Q q=>AW q fun ys vs θ h H _=>rY ys vs θ h H
theorem Gm {G:Gx} {n:Nat} {mk:List D->Hm->R D} {C:Ends} {σ:St} {H:Hp} (h:lS G E (bT i (af mk (mC n it g t m))) C σ H)
  (hmk:∀ Q ys vs θ h H,ys.length<=sizeLine->W G θ h H->ba G θ H ys vs->aG G (n0 G E) θ H (mk ys h) (KV G Q)->∀ p,H p=none->Q (.ref p) (upd H p (.lst vs))) :
  FJ (Ax n (lI G E it) (lG G gz g) (lT G gz t) (lE G gz m)) (L2.aB i) C σ H:=by
 obtain ⟨θ,h,ρ,w,fr,p⟩:=h
 refine AW (Q:=fun x H1=>L2.aB i x σ H1 C.nx) ⟨θ,h,ρ,w,fr,(aG.bind p).mono fun d θ1 h1 H1 _ _ ⟨ev,w1,p1⟩ v r=>p1 θ1 H1 Ev.refl w1 _ ((fr.ev ev).set r)⟩ (hmk _)
theorem wq (own:List Str) {pos' spos:Pos} (hN:X.N.Nodup) (hxi:X.N[i]?=some x) (hx:X.env.scope.names.lookup x=some .local) (CS:gm X.env.scope X.N own scope=true) (hc:X.calm=true) (hi:DI X E it tg e) (hg:∀ C s2 H2 fp pins,DG (aK X own scope C s2 H2 fp pins) gz g tg)
  (ht:∀ C s2 H2 fp pins,JL (aK X own scope C s2 H2 fp pins) gz t ifs) (he:∀ C s2 H2 fp pins,DE (aK X own scope C s2 H2 fp pins) gz m elt) (hs:∀ x,foldedSetIterable e X.env x=pure x:=by intro _;rfl)
  (hsw:swapsWith (.ListComp elt [⟨tg,e,ifs,0⟩] scope pos) (some (.Name x pos')) spos.line X.env=pure true:=by rfl):DS X E (bT i (cC own.length it g t m)) (.Assign [.Name x pos'] (.ListComp elt [⟨tg,e,ifs,0⟩] scope pos) spos):=by
 simp only [bj,ka,mE,kI,rX] at *
 exact PS.imp (F4 (g:=lG X.G gz g) (tc:=lT X.G gz t) (te:=lE X.G gz m) own hN hxi hx CS hc hi hg ht he hs hsw) fun C σ H q=>Gm q fun Q ys vs θ h H _=>rY ys vs θ h H
end
def Ft (G:Gx) (F:Fn):Sp:=fun vs H Q E=>∃ θ h ds,W G θ h H/\ba G θ H ds vs/\aG G (n0 G E) θ H (F ds h) (KV G Q)
def DF (F:Fn) (n:Nat):Prop:=∀ ds h,ds.length≠n->F ds h=.bad
theorem Gn {G:Gx} {F:Fn} {n:Nat} (ar:DF F n):∀ vs H Q E,Ft G F vs H Q E->vs.length=n:=fun vs H Q E ⟨θ,h,ds,w,r,p⟩=>by
 by_cases e:ds.length=n
 ·rw [<- e];exact (P4 r).symm
 ·rw [ar ds h e] at p;exact p.elim
theorem u6 {p n:Nat} {b:MS}:DF (bE p n b) p:=fun ds h e=>by unfold bE;rw [if_neg e]
structure bg (P:Program) (w:World) (K:PySem.W.Frag) (mg:Str->Option Value) (base:Heap) (x:Str) (ps:List Str) (k:Nat) (F:Fn):Prop where
 has:DC P w K mg base x ps k (Ft ⟨P,w,mg,K⟩ F)
 ar:DF F ps.length
section
variable {P:Program} {w:World} {K:PySem.W.Frag} {mg:Str->Option Value} {base:Heap} {x qual:Str} {st:Stmt} {f:Addr} {fd:FuncData} {N ps:List Str} {k:Nat} {b:MS} {F:Fn}
theorem Fr.start {G:Gx} {θ:List Addr} {H:Hp} {ds:List D} {vs:List V} {n:Nat} (r:ba G θ H ds vs) (hl:ds.length=ps.length):Fr G θ H (ds.map some++List.replicate (N.length - ps.length) none) (start N vs):=by
 have hv:ds.length=vs.length:=P4 r
 unfold L2.start
 rw [<- hv,hl]
 refine ⟨by simp [<- hv,hl],fun i d e=>?_⟩
 by_cases hi:i < ds.length
 ·rw [PY (by simpa using hi)] at e
  rw [PY (by simpa [<- hv] using hi)]
  simp only [Qw] at e ⊢
  cases e1:ds[i]? with
  | none=>rw [e1] at e;cases e
  | some d'=>
   rw [e1] at e
   simp at e
   subst e
   obtain ⟨v,e2,rv⟩:=r.some e1
   exact ⟨v,by rw [e2];rfl,rv⟩
 ·rw [Qd (by simpa using hi),RK] at e
  split at e<;>cases e
theorem Oy (Fu:HG K x qual st f fd) (S:aO N ps (aE st)) (hbody:∀ (cdv:Value) (A:Around) (outer:List Env) (s:Shared) (H:Hp) (E:XK),cg k (A.deeper (PyProof.Rows.envOfC qual (aE st) s.heap.objs.size f cdv)) ->
   CF (ub (tZ P w) P w K mg base N qual (aE st) f cdv A outer s H E) E b (ff st)):jn P w K mg base (tZ P w) (k+1) f fd ps (Ft ⟨P,w,mg,K⟩ (bE ps.length N.length b)):=by
 simp only [m6] at *
 refine Fu.O6 S (Gn u6) fun cdv A outer s H vs Q E hr ⟨θ,h,ds,w,r,p⟩=>⟨_,hbody cdv A outer s H E hr,?_⟩
 unfold bE at p
 split at p
 ·rename_i hl
  refine ⟨θ,h,_,w,Fr.start (N:=N) (n:=0) r hl,(aG.bind p).mono fun fl θ1 h1 H1 _ _ ⟨ev,w1,p1⟩=>?_⟩
  cases fl with
  | nx ρ=>exact fun σ fr=>p1 θ1 H1 Ev.refl w1 _ ⟨rfl,by simp [bY]⟩
  | rt d=>exact p1 θ1 H1 Ev.refl w1
  | bk ρ=>exact p1.elim
  | ct ρ=>exact p1.elim
 ·exact p.elim
theorem bg.mono {j:Nat} (h:bg P w K mg base x ps j F) (l:j<=k):bg P w K mg base x ps k F:=by
 obtain ⟨⟨f,fd,h1,h2,h3,h4⟩,ar⟩:=h
 exact ⟨⟨f,fd,h1,h2,h3,h4.mono l⟩,ar⟩
theorem bg.eq {F':Fn} (h:bg P w K mg base x ps k F) (e:F=F'):bg P w K mg base x ps k F':=e▸h
end
section
variable {X:Cx} {E:XK} {x:Str} {ps:List Str} {k:Nat} {F:Fn} {e:Expr} {es:List Expr} {ma:MA} {p pos:Pos}
theorem bM:Passes (tZ X.prog X.w) X gz:=fun _ _ _ _ _ _ _ ⟨_,_,_,_,_,_,_,_,_,_,_,_,_,h⟩=>h.elim
theorem Ly (F':bg X.prog X.w X.K X.mg X.base x ps k F) (hx:Passes (tZ X.prog X.w) X E) (hr:cg k X.A) (hg:Gl X x) (ha:DA X E ma (e::es)) (hdb:(x == ("__debug__" : Str))=false:=by decide) (he:starEach (e::es) X.env=(false,eval e X.env)::starEach es X.env:=by rfl)
  (hpl:(backTo pos (starEach es X.env)).any (·.1)=false:=by rfl):DE X E (af F ma) (.Call (.Name x p) (e::es) [] pos):=by
 simp only [bj,j9] at *
 exact PE.imp (JK F'.has hx hr hg ha hdb he hpl) fun σ H Q ⟨θ,h,ρ,w,fr,p⟩=>⟨θ,h,ρ,w,fr,(aG.bind p).mono fun xs θ1 h1 H1 _ _ ⟨ev,w1,p1⟩ vs r=>⟨θ1,h1,xs,w1,by simpa using r,p1⟩⟩
theorem DH (F':bg X.prog X.w X.K X.mg X.base x [] k F) (hx:Passes (tZ X.prog X.w) X E) (hr:cg k X.A) (hg:Gl X x) (hdb:(x == ("__debug__" : Str))=false:=by decide):DE X E (af F ag) (.Call (.Name x p) [] [] pos):=by
 simp only [bj] at *
 obtain ⟨f,fd,h1,h2,h3,h4⟩:=F'.has.ex
 exact PE.imp (CZ h4 hr hg h1 h2 h3 .nil hx hdb) fun σ H Q ⟨θ,h,ρ,w,fr,p⟩=>⟨θ,h,[],w,.nil,p⟩
end
theorem Ca {h:Heap} {x:PyData} {u:Value} (hx:(match x with | .int _ | .str _ | .bool _ | .none=>true | _=>false)=true) (r:RelV (HP x) u):Reads h u x []:=by
 cases x with
 | none=>cases r;exact .none
 | bool b=>cases r;exact .bool b
 | int i=>obtain ⟨t,rfl⟩:=r;exact .int i t
 | str s=>obtain ⟨t,rfl⟩:=r;exact .str s t
 | _=>cases hx
theorem jK {h:Heap}:∀ {xs:List PyData} {us:List Value},(∀ x∈xs,(match x with | .int _ | .str _ | .bool _ | .none=>true | _=>false)=true)->Vals (xs.map HP) us->ReadsAll h us xs []
 | [],us,_,r=>by cases r;exact .nil
 | x::xs,us,hx,r=>by
  cases r with
  | cons r1 r2=>exact .cons (as:=[]) (bs:=[]) (Ca (hx x (by simp)) r1) (jK (fun y m=>hx y (by simp [m])) r2)
section
variable {X:Cx} {pins:List (Addr×Obj)} {σ:L2.St} {H:Hp} {s:Shared} {θ:List Addr} {hm:Hm}
theorem fj (I:Inv X pins σ H s) (w:W X.G θ hm H):∀ (n:Nat) {x:D} {v:V} {u:Value} {d:PyData},bS X.G θ H x v->RelV v u->uX hm n x=some d->(∃ as,Reads s.heap u d as)/\bY d=true:=by
 intro n
 induction n with
 | zero=>
  intro x v u d r rv e
  cases x with
  | dat d'=>simp only [uX] at e;cases e;exact ⟨Rep.reads I (r.1.same (aA _ _)) rv,r.2⟩
  | ktup xs=>
   simp only [uX] at e
   cases e
   obtain ⟨a,rfl,⟨o,its,k,hl,hc,hd,_,vs⟩,hx,hs⟩:=r
   cases rv
   exact ⟨⟨_,.tuple (I.tY _ _ hl) hc hd (jK hx vs)⟩,by simpa [bY] using hs⟩
  | _=>simp [uX] at e
 | succ n ih=>
  intro x v u d r rv e
  cases x with
  | dat d'=>simp only [uX] at e;cases e;exact ⟨Rep.reads I (r.1.same (aA _ _)) rv,r.2⟩
  | ktup xs=>
   simp only [uX] at e
   cases e
   obtain ⟨a,rfl,⟨o,its,k,hl,hc,hd,_,vs⟩,hx,hs⟩:=r
   cases rv
   exact ⟨⟨_,.tuple (I.tY _ _ hl) hc hd (jK hx vs)⟩,by simpa [bY] using hs⟩
  | ref i=>
   simp only [uX] at e
   obtain ⟨a,ha,rfl⟩:=r
   cases rv
   cases e1:hm[i]? with
   | none=>rw [e1] at e;cases e
   | some o=>
    rw [e1] at e
    cases o with
    | lst xs=>
     simp only at e
     obtain ⟨vs,hv,rs⟩:=w.obj i a _ ha e1
     obtain ⟨_,its,k,rvs,ho⟩:=I.hok a _ hv
     have all:∀ {xs:List D} {vs:List V} {us:List Value} {ds:List PyData},ba X.G θ H xs vs->Vals vs us->jr (uX hm n) xs=some ds->(∃ as,ReadsAll s.heap us ds as)/\cy ds=true:=by
      intro xs
      induction xs with
      | nil=>
       intro vs us ds r1 r2 e
       cases r1
       cases r2
       cases e
       exact ⟨⟨_,.nil⟩,by simp [cy]⟩
      | cons x xs ihx=>
       intro vs us ds r1 r2 e
       cases r1 with
       | cons p1 p2=>
        cases r2 with
        | cons q1 q2=>
         unfold jr at e
         cases e2:uX hm n x with
         | none=>rw [e2] at e;cases e
         | some d=>
          cases e3:jr (uX hm n) xs with
          | none=>rw [e2,e3] at e;cases e
          | some ds'=>
           rw [e2,e3] at e
           cases e
           obtain ⟨⟨as,z1⟩,s1⟩:=ih p1 q1 e2
           obtain ⟨⟨bs,z2⟩,s2⟩:=ihx p2 q2 e3
           exact ⟨⟨_,.cons z1 z2⟩,by simp [cy,s1,s2]⟩
     cases e2:jr (uX hm n) xs with
     | none=>rw [e2] at e;cases e
     | some ds=>
      rw [e2] at e
      cases e
      obtain ⟨⟨as,z⟩,s1⟩:=all rs rvs e2
      exact ⟨⟨_,.list ho rfl rfl (by simpa using z)⟩,by simpa [bY] using s1⟩
    | _=>cases e
  | _=>simp [uX] at e
end
end Ml
namespace PySem.SeqAt
open PySem PySem.MeetsSeq PySem.AutoSeq1
theorem rZ (t:Addr) (its:Array Value) (m:Nat) (d2:Option Addr) (sl2:Array (Option Value)) (l:Addr) (es:Array DictEntry) (n:Nat) (dd:Option Addr) (sl:Array (Option Value)) :
  Meets (Builtin.«tuple.__eq__» ⟨[.ref t,.ref l],[]⟩) (fun _ R s=>s.heap.get? t=some {cls:=.type "tuple",dict:=d2,data:=.seq its m,slots:=sl2}/\s.heap.get? l=some {cls:=.type "dict",dict:=dd,data:=.dict es n,slots:=sl}/\R (.ok (.ret .notImplemented)) s):=
 .of_wp fun prog w A R s h=>by
  obtain ⟨hp,g,d,tk,os⟩:=s
  obtain ⟨ht,hl,h⟩:=h
  have f1:=F.sub_dict_tuple
  wp_walk using wpAny_loadPart' hl,Sl hl,wpAny_loadPart' ht,Sl ht
  exact ⟨_,rfl,h⟩
theorem si (t:Addr) (its:Array Value) (m:Nat) (d2:Option Addr) (sl2:Array (Option Value)) (l:Addr) (es:Array DictEntry) (n:Nat) (dd:Option Addr) (sl:Array (Option Value)) :
  Meets (Builtin.«dict.__eq__» ⟨[.ref l,.ref t],[]⟩) (fun _ R s=>s.heap.get? t=some {cls:=.type "tuple",dict:=d2,data:=.seq its m,slots:=sl2}/\s.heap.get? l=some {cls:=.type "dict",dict:=dd,data:=.dict es n,slots:=sl}/\R (.ok (.ret .notImplemented)) s):=
 .of_wp fun prog w A R s h=>by
  obtain ⟨hp,g,d,tk,os⟩:=s
  obtain ⟨ht,hl,h⟩:=h
  have f1:=F.sub_tuple_dict
  wp_walk using wpAny_loadPart' hl,Sl hl,wpAny_loadPart' ht,Sl ht
  exact ⟨_,rfl,h⟩
theorem sj {t:Addr} {h:Heap} {its:Array Value} {m:Nat} {d2:Option Addr} {sl2:Array (Option Value)} {l:Addr} {es:Array DictEntry} {n:Nat} {dd:Option Addr} {sl:Array (Option Value)} (ht:h.get? t=some {cls:=.type "tuple",dict:=d2,data:=.seq its m,slots:=sl2})
  (hl:h.get? l=some {cls:=.type "dict",dict:=dd,data:=.dict es n,slots:=sl}):t≠l:=fun e=>by
 subst e
 rw [ht] at hl
 have:=Rv Obj.cls (Qt hl)
 exact absurd (show Value.type "tuple" = Value.type "dict" from this) (by decide)
theorem RcAt.wt {A:Around} {s:Shared} {t:Addr} {its:Array Value} {m:Nat} {d2:Option Addr} {sl2:Array (Option Value)} {l:Addr} {es:Array DictEntry} {n:Nat} {dd:Option Addr} {sl:Array (Option Value)} (ht:s.heap.get? t=some {cls:=.type "tuple",dict:=d2,data:=.seq its m,slots:=sl2})
  (hl:s.heap.get? l=some {cls:=.type "dict",dict:=dd,data:=.dict es n,slots:=sl}) (hu:A.units < cLine):RcAt A s (.ref t) (.ref l) false:=fun prog w E Q h=>
 have ne:t≠l:=sj ht hl
 rc_eq_decline_or (k:=false) ⟨_,ht,rfl⟩ ⟨_,hl,rfl⟩ (by decide) F.sub_dict_tuple F.slot_tuple_eq Sh
  (fun _ hq=>So F.slot_tuple_eq ⟨_,ht,rfl⟩ F.entry_tuple_eq (F.args_tuple_eq_2 _ _) (rZ t its m d2 sl2 l es n dd sl) ⟨ht,hl,hq⟩)
  (fun _ hq=>So Sh ⟨_,hl,rfl⟩ F.entry_dict_eq (F.args_dict_eq_2 _ _) (si t its m d2 sl2 l es n dd sl) ⟨ht,hl,hq⟩)
  (fun _ hq=>wpAny_isSame_ref_other' ne ht hl (show Value.type "dict" ≠ Value.type "tuple" by decide) hq) (.inr hu) h
theorem EqAt.wt {A:Around} {s:Shared} {t:Addr} {its:Array Value} {m:Nat} {d2:Option Addr} {sl2:Array (Option Value)} {l:Addr} {es:Array DictEntry} {n:Nat} {dd:Option Addr} {sl:Array (Option Value)} (ht:s.heap.get? t=some {cls:=.type "tuple",dict:=d2,data:=.seq its m,slots:=sl2})
  (hl:s.heap.get? l=some {cls:=.type "dict",dict:=dd,data:=.dict es n,slots:=sl}) (hu:A.units < cLine):EqAt A s (.ref t) (.ref l) false:=
 .of_refs (sj ht hl) (.wt ht hl hu)
end PySem.SeqAt
namespace Ml
open PySem PySem.Spec L2
theorem zp {d e:PyData} {k:Bool} (sa:bY d=true) (sb:bY e=true) (h:eqQ d e=some k):d.canLay0=true/\e.canLay0=true/\min d.depth e.depth<=40/\k=PyData.eqv d e:=by
 unfold eqQ at h
 split at h
 ·rename_i hn
  simp only [Pl,noDict,R6,Py] at hn
  cases h
  exact ⟨jb sa hn.1.1,jb sb hn.1.2,hn.2,rfl⟩
 ·cases h
theorem JM {A:Around} {s:Shared} {a b:Value} {d e:PyData} {as bs:List Addr} {k:Bool} (ra:Reads s.heap a d as) (rb:Reads s.heap b e bs) (sa:bY d=true) (sb:bY e=true) (hu:A.units+41 < cLine) (h:B5 d e=some k):SeqAt.EqAt A s a b k/\d.canLay0=true:=by
 unfold B5 at h
 split at h
 ·cases h
  cases ra
  cases rb with
  | @dict a' o' es n kvs as1 bs1 h1 h2 h3 h4 h5=>
   obtain ⟨oc,od,dat,osl⟩:=o'
   cases h2
   cases h3
   exact ⟨SeqAt.EqAt.Gg _ _ h1 (by omega),by simpa [PyData.canLay0,bY] using sa⟩
 ·split at h
  ·rename_i hn
   simp only [noDict,R6] at hn
   cases h
   have hl:=jb sa hn
   cases ra with
   | @tuple l o vs m xs as1 g1 g2 g3 g4=>
    obtain ⟨oc2,od2,dat2,osl2⟩:=o
    cases g2
    cases g3
    cases rb with
    | @dict a' o' es n kvs as1 bs1 h1 h2 h3 h4 h5=>
     obtain ⟨oc,od,dat,osl⟩:=o'
     cases h2
     cases h3
     exact ⟨SeqAt.EqAt.wt g1 h1 (by omega),hl⟩
  ·cases h
 ·obtain ⟨l1,l2,l3,rfl⟩:=zp sa sb h
  exact ⟨Tc _ _ A s a b as bs ra rb l1 l2 (by omega),l1⟩
theorem aG.kl {G:Gx} {E:XP} {θ:List Addr} {H:Hp} {h:Hm} {d:D} {Q:VK} (p:aG G E θ H (.ok d h) (KV G Q)) (w:W G θ h H) {v:V} (r:bS G θ H d v):Q v H:=p θ H Ev.refl w v r
theorem cz {G:Gx} {θ:List Addr} {H:Hp} (b:Bool):bS G θ H (.bool b) (.bl b):=⟨rfl,by simp [bY]⟩
theorem cJ {G:Gx} {θ:List Addr} {H:Hp} (i:Int):bS G θ H (.int i) (.int i):=⟨rfl,by simp [bY]⟩
theorem Cb {G:Gx} {θ:List Addr} {H:Hp}:bS G θ H D.none .non:=⟨rfl,by simp [bY]⟩
section
variable {X:Cx} {E:XK} {k:Nat}
theorem xG (hr:cg k X.A):n5 X E (compareOp .Eq) oEq:=by
 intro pins s σ H x y v u Q I rx ry ⟨θ,h,d1,d2,w,r1,r2,p⟩
 unfold oEq at p
 split at p
 ·exact K9 pins s σ H x y v u Q I rx ry (by cases r1;cases r2;exact ⟨rfl,by simpa using p.kl w (cz _)⟩)
 ·cases e1:qP h d1 with
  | none=>rw [e1] at p;exact p.elim
  | some d=>
   cases e2:qP h d2 with
   | none=>rw [e1,e2] at p;exact p.elim
   | some e=>
    rw [e1,e2] at p
    simp only at p
    cases e3:eqQ d e with
    | none=>rw [e3] at p;exact p.elim
    | some b=>
     rw [e3] at p
     obtain ⟨⟨as,z1⟩,s1⟩:=fj I w 3 r1 rx e1
     obtain ⟨⟨bs,z2⟩,s2⟩:=fj I w 3 r2 ry e2
     obtain ⟨l1,l2,l3,rfl⟩:=zp s1 s2 e3
     exact SeqAt.compareEq_reads z1 z2 l1 l2 (by have:=hr.units;omega) ⟨.bl _,H,I,rfl,p.kl w (cz _)⟩
theorem xH (hr:cg k X.A):n5 X E (compareOp .NotEq) nE:=by
 intro pins s σ H x y v u Q I rx ry ⟨θ,h,d1,d2,w,r1,r2,p⟩
 unfold nE at p
 split at p
 ·exact La pins s σ H x y v u Q I rx ry (by cases r1;cases r2;exact ⟨rfl,by simpa using p.kl w (cz _)⟩)
 ·cases e1:qP h d1 with
  | none=>rw [e1] at p;exact p.elim
  | some d=>
   cases e2:qP h d2 with
   | none=>rw [e1,e2] at p;exact p.elim
   | some e=>
    rw [e1,e2] at p
    simp only at p
    cases e3:eqQ d e with
    | none=>rw [e3] at p;exact p.elim
    | some b=>
     rw [e3] at p
     obtain ⟨⟨as,z1⟩,s1⟩:=fj I w 3 r1 rx e1
     obtain ⟨⟨bs,z2⟩,s2⟩:=fj I w 3 r2 ry e2
     obtain ⟨l1,l2,l3,rfl⟩:=zp s1 s2 e3
     exact SeqAt.compareNe_reads z1 z2 l1 l2 (by have:=hr.units;omega) ⟨.bl _,H,I,rfl,p.kl w (cz _)⟩
theorem wu {A:Around} {s:Shared} {x:Value} {d:PyData} {bs:List Addr} (rx:Reads s.heap x d bs) (sx:bY d=true) (hu:A.units+41 < cLine):∀ {vs:List Value} {ds:List PyData} {as:List Addr} {b:Bool},ReadsAll s.heap vs ds as->cy ds=true->CD d ds=some b ->
  (∀ y∈vs,SeqAt.EqAt A s y x ((B5 (SeqAt.readOf s.heap y) d).getD false))/\(vs.any fun y=>(B5 (SeqAt.readOf s.heap y) d).getD false)=b
 | [],_,_,b,.nil,_,e=>by cases e;exact ⟨fun y m=>by simp at m,rfl⟩
 | v::vs,_,_,b,.cons (d:=d1) (ds:=ds) r1 r2,so,e=>by
  simp only [cy,Pl] at so
  unfold CD at e
  cases e1:B5 d1 d with
  | none=>rw [e1] at e;cases e
  | some b1=>
   cases e2:CD d ds with
   | none=>rw [e1,e2] at e;cases e
   | some b2=>
    rw [e1,e2] at e
    cases e
    obtain ⟨h1,h2⟩:=wu rx sx hu r2 so.2 e2
    obtain ⟨q1,q2⟩:=JM r1 rx so.1 sx hu e1
    have er:SeqAt.readOf s.heap v=d1:=SeqAt.readOf_eq q2 r1
    refine ⟨fun y m=>?_,?_⟩
    ·rcases Pn.mp m with z | z
     ·subst z;rw [er,e1];exact q1
     ·exact h1 y z
    ·rw [R3,h2,er,e1];rfl
theorem DJ (hr:cg k X.A) {pins:List (Addr×Obj)} {s:Shared} {σ:L2.St} {H:Hp} {v u:Value} {Q:VK} {d:PyData} {ds:List PyData} {as bs:List Addr} {b:Bool} {sq:PyData} (hsq:sq=.tuple ds\/sq=.list ds) (I:Inv X pins σ H s) (z1:Reads s.heap v d as) (z2:Reads s.heap u sq bs) (s1:bY d=true) (s2:cy ds=true) (e:CD d ds=some b) :
  (Q (.bl b) H->wpAny (model X.prog X.w) X.A (compareOp .In v u) (EP X pins σ Q) X.xe s)/\(Q (.bl !b) H->wpAny (model X.prog X.w) X.A (compareOp .NotIn v u) (EP X pins σ Q) X.xe s):=by
 have hu:X.A.in1.units+41 < cLine:=by have:=hr.units;show X.A.units+1+41 < cLine;omega
 rcases hsq with rfl | rfl
 ·cases z2 with
  | tuple h1 h2 h3 h4=>
   obtain ⟨q1,q2⟩:=wu (A:=X.A.in1) z1 s1 hu h4 s2 e
   rename_i vs n
   have q3:(vs.any fun y=>(B5 (SeqAt.readOf s.heap y) d).getD false)=b:=by rw [<- q2,<- Array.any_toList]
   exact ⟨fun q=>SeqAt.in_tupleAt _ ⟨_,h1,h2,_,h3⟩ (fun y m=>q1 y (Rx.mpr m)) (by rw [q3];exact ⟨.bl b,H,I,rfl,q⟩),fun q=>SeqAt.notIn_tupleAt _ ⟨_,h1,h2,_,h3⟩ (fun y m=>q1 y (Rx.mpr m)) (by rw [q3];exact ⟨.bl (!b),H,I,rfl,q⟩)⟩
 ·cases z2 with
  | list h1 h2 h3 h4=>
   obtain ⟨q1,q2⟩:=wu (A:=X.A.in1) z1 s1 hu h4 s2 e
   rename_i vs n _
   have q3:(vs.any fun y=>(B5 (SeqAt.readOf s.heap y) d).getD false)=b:=by rw [<- q2,<- Array.any_toList]
   exact ⟨fun q=>SeqAt.in_listAt _ ⟨_,h1,h2,_,h3⟩ (fun y m=>q1 y (Rx.mpr m)) (by rw [q3];exact ⟨.bl b,H,I,rfl,q⟩),fun q=>SeqAt.notIn_listAt _ ⟨_,h1,h2,_,h3⟩ (fun y m=>q1 y (Rx.mpr m)) (by rw [q3];exact ⟨.bl (!b),H,I,rfl,q⟩)⟩
end
end Ml
namespace PySem.SeqAt
open PySem.AutoSeq1 (wpAny_loadPart')
open PySem.MeetsSeq PySem.MeetsSeq2 PySem.MeetsSeq3
def DK (A:Around) (s:Shared) (y x:Value) (b:Bool):Prop:=
 ∀ (prog:Program) (w:World) (E:Value->Shared->Prop) (Q:Value->Shared->Prop),Q (.bool b) s->wpAny (model prog w) A (richCompare .Lt y x) Q E s
inductive mF (A:Around) (s:Shared):List Value->List Value->Bool->Prop
 | nil:mF A s [] [] false
 | left {w ws}:mF A s [] (w::ws) true
 | right {v vs}:mF A s (v::vs) [] false
 | eq {v vs w ws k}:EqAt A s v w true->mF A s vs ws k->mF A s (v::vs) (w::ws) k
 | ne {v vs w ws k}:EqAt A s v w false->DK A s v w k->mF A s (v::vs) (w::ws) k
theorem n8 (l b:Addr) (its1 its2:Array Value) (n n2:Nat) (dd dd2:Option Addr) (sl sl2:Array (Option Value)) (k:Bool) :
  Meets (Builtin.«tuple.__lt__» ⟨[.ref l,.ref b],[]⟩) (fun A R s=>s.heap.get? l=some {cls:=.type "tuple",dict:=dd,data:=.seq its1 n,slots:=sl}/\s.heap.get? b=some {cls:=.type "tuple",dict:=dd2,data:=.seq its2 n2,slots:=sl2}/\mF A.in1 s its1.toList its2.toList k/\R (.ok (.ret (.bool k))) s):=
 .of_wp fun prog w A R s h=>by
  obtain ⟨hp,g,d,tk,os⟩:=s
  obtain ⟨hl,hb,hx,h⟩:=h
  have f2:=AutoSeq1.sub_tuple_tuple
  wp_walk using wpAny_loadPart' hl,wpAny_loadPart' hb,wpAny_forIn_list _ (fun rest b s'=>b.1=none/\s'=⟨hp,g,d,tk,os⟩/\∃ (vs ws:List Value),rest=vs.zip ws/\mF A.in1 ⟨hp,g,d,tk,os⟩ vs ws k/\vs.length+its2.size=ws.length+its1.size/\R (.ok (.ret (.bool k))) ⟨hp,g,d,tk,os⟩) _
  case turn=>
   rintro ⟨y,x⟩ rest b s' ⟨hb',rfl,vs,ws,hz,hx,hlen,hR⟩
   cases hx with
   | nil=>rw [List.zip_nil_left] at hz;cases hz
   | left=>rw [List.zip_nil_left] at hz;cases hz
   | right=>rw [List.zip_nil_right] at hz;cases hz
   | @eq v vs w' ws k he hx'=>
    rw [Q3] at hz
    injection hz with hyx hrest
    injection hyx with hy hx
    subst hy hx
    simp only [PQ] at hlen
    refine Ph (he prog w _ _ ?_)
    wp_walk
    exact ⟨rfl,rfl,_,_,hrest,hx',by omega,hR⟩
   | @ne v vs w' ws k he hlt=>
    rw [Q3] at hz
    injection hz with hyx hrest
    injection hyx with hy hx
    subst hy hx
    refine Ph (he prog w _ _ ?_)
    have hri:=hlt prog w
    wp_walk using hri
    exact ⟨_,rfl,by simpa using hR⟩
  case fin=>
   rintro ⟨b1,b2⟩ s' ⟨hb',rfl,vs,ws,hz,hx,hlen,hR⟩
   simp only at hb'
   subst hb'
   have hv:k=decide (its1.size < its2.size):=by
    cases hx with
    | nil=>simp only [Ql] at hlen;exact (PR (by omega)).symm
    | left=>simp only [Ql,PQ] at hlen;exact (PN (by omega)).symm
    | right=>simp only [Ql,PQ] at hlen;exact (PR (by omega)).symm
    | eq=>rw [Q3] at hz;cases hz
    | ne=>rw [Q3] at hz;cases hz
   rw [hv] at hR
   wp_walk
   exact ⟨_,rfl,by simpa [Builtin.Tuple.tupleCompareSizes] using hR⟩
  case h=>exact ⟨rfl,rfl,its1.toList,its2.toList,rfl,hx,by simp;omega,h⟩
theorem DK.tuples {A:Around} {s:Shared} {l b:Addr} {its1 its2:Array Value} {k:Bool} (h1:s.heap.IsTuple l its1) (h2:s.heap.IsTuple b its2) (hu:A.units < cLine) (hx:mF A.in1 s its1.toList its2.toList k):DK A s (.ref l) (.ref b) k:=fun prog w E Q h=>by
 obtain ⟨⟨c1,d1,e1,l1⟩,p1,g1,n1,z1⟩:=h1
 obtain ⟨⟨c2,d2,e2,l2⟩,p2,g2,n2,z2⟩:=h2
 simp only at g1 z1 g2 z2
 subst g1 z1 g2 z2
 exact richCompare_meets_room (op:=.Lt) ⟨_,p1,rfl⟩ ⟨_,p2,rfl⟩ S5 PySem.F.entry_tuple_lt (PySem.F.args_tuple_lt_2 _ _) (n8 l b _ _ n1 n2 d1 d2 l1 l2 k)
  ⟨p1,p2,hx,show Value.bool k≠Value.notImplemented/\Q (.bool k) s from ⟨(fun x=>nomatch x),h⟩⟩ hu
end PySem.SeqAt
namespace Ml
open PySem PySem.Spec L2
open PySem.SeqAt
mutual
theorem n9:∀ (d e:PyData) (A:Around) (s:Shared) (a b:Value) (as bs:List Addr) (k:Bool),Reads s.heap a d as->Reads s.heap b e bs->d.canLay0=true->e.canLay0=true->A.units+min d.depth e.depth < cLine->bJ d e=some k->DK A s a b k
 | .int i,.int j,A,s,a,b,as,bs,k,ra,rb,_,_,_,h=>by
  cases ra
  cases rb
  simp only [bJ] at h
  cases h
  exact fun prog w E Q q=>(PyProof.Rows.lt_int q:wpAny (model prog w) A (compareOp .Lt _ _) Q E s)
 | .str x,.str y,A,s,a,b,as,bs,k,ra,rb,_,_,_,h=>by
  cases ra
  cases rb
  simp only [bJ,mV] at h
  cases h
  exact fun prog w E Q q=>(PySem.P.lt_str q:wpAny (model prog w) A (compareOp .Lt _ _) Q E s)
 | .tuple xs,.tuple ys,A,s,a,b,as,bs,k,ra,rb,ha,hb,hu,h=>by
  cases ra with
  | tuple g1 g2 g3 g4=>
   cases rb with
   | tuple k1 k2 k3 k4=>
    simp only [bJ] at h
    simp only [PyData.canLay0] at ha hb
    simp only [PyData.depth] at hu
    exact DK.tuples ⟨_,g1,g2,_,g3⟩ ⟨_,k1,k2,_,k3⟩ (by omega) (pj xs ys A.in1 s _ _ _ _ k g4 k4 ha hb (by show A.units+1+_ < _;omega) h)
 | .none,_,_,_,_,_,_,_,_,_,_,_,_,_,h=>by simp [bJ] at h
 | .bool _,_,_,_,_,_,_,_,_,_,_,_,_,_,h=>by simp [bJ] at h
 | .list _,_,_,_,_,_,_,_,_,_,_,_,_,_,h=>by simp [bJ] at h
 | .dict _,_,_,_,_,_,_,_,_,_,_,_,_,_,h=>by simp [bJ] at h
 | .int _,.none,_,_,_,_,_,_,_,_,_,_,_,_,h=>by simp [bJ] at h
 | .int _,.bool _,_,_,_,_,_,_,_,_,_,_,_,_,h=>by simp [bJ] at h
 | .int _,.str _,_,_,_,_,_,_,_,_,_,_,_,_,h=>by simp [bJ] at h
 | .int _,.list _,_,_,_,_,_,_,_,_,_,_,_,_,h=>by simp [bJ] at h
 | .int _,.tuple _,_,_,_,_,_,_,_,_,_,_,_,_,h=>by simp [bJ] at h
 | .int _,.dict _,_,_,_,_,_,_,_,_,_,_,_,_,h=>by simp [bJ] at h
 | .str _,.none,_,_,_,_,_,_,_,_,_,_,_,_,h=>by simp [bJ] at h
 | .str _,.bool _,_,_,_,_,_,_,_,_,_,_,_,_,h=>by simp [bJ] at h
 | .str _,.int _,_,_,_,_,_,_,_,_,_,_,_,_,h=>by simp [bJ] at h
 | .str _,.list _,_,_,_,_,_,_,_,_,_,_,_,_,h=>by simp [bJ] at h
 | .str _,.tuple _,_,_,_,_,_,_,_,_,_,_,_,_,h=>by simp [bJ] at h
 | .str _,.dict _,_,_,_,_,_,_,_,_,_,_,_,_,h=>by simp [bJ] at h
 | .tuple _,.none,_,_,_,_,_,_,_,_,_,_,_,_,h=>by simp [bJ] at h
 | .tuple _,.bool _,_,_,_,_,_,_,_,_,_,_,_,_,h=>by simp [bJ] at h
 | .tuple _,.int _,_,_,_,_,_,_,_,_,_,_,_,_,h=>by simp [bJ] at h
 | .tuple _,.str _,_,_,_,_,_,_,_,_,_,_,_,_,h=>by simp [bJ] at h
 | .tuple _,.list _,_,_,_,_,_,_,_,_,_,_,_,_,h=>by simp [bJ] at h
 | .tuple _,.dict _,_,_,_,_,_,_,_,_,_,_,_,_,h=>by simp [bJ] at h
theorem pj:∀ (xs ys:List PyData) (A:Around) (s:Shared) (vs ws:List Value) (as bs:List Addr) (k:Bool),ReadsAll s.heap vs xs as->ReadsAll s.heap ws ys bs->PyData.canLayAll0 xs=true->PyData.canLayAll0 ys=true->A.units+min (PyData.depthAll xs) (PyData.depthAll ys) < cLine->cH xs ys=some k->mF A s vs ws k
 | [],[],A,s,vs,ws,as,bs,k,ra,rb,_,_,_,h=>by cases ra;cases rb;simp only [cH] at h;cases h;exact .nil
 | [],_::_,A,s,vs,ws,as,bs,k,ra,rb,_,_,_,h=>by cases ra;cases rb;simp only [cH] at h;cases h;exact .left
 | _::_,[],A,s,vs,ws,as,bs,k,ra,rb,_,_,_,h=>by cases ra;cases rb;simp only [cH] at h;cases h;exact .right
 | x::xs,y::ys,A,s,vs,ws,as,bs,k,ra,rb,ha,hb,hu,h=>by
  cases ra with
  | cons r1 r2=>
   cases rb with
   | cons q1 q2=>
    simp only [PyData.canLayAll0,Pl] at ha hb
    simp only [PyData.depthAll] at hu
    have he:=eqAt_reads x y A s _ _ _ _ r1 q1 ha.1 hb.1 (by omega)
    simp only [cH] at h
    cases hq:PyData.eqv x y with
    | true=>
     rw [hq] at he h
     exact .eq he (pj xs ys A s _ _ _ _ k r2 q2 ha.2 hb.2 (by omega) (by simpa using h))
    | false=>
     rw [hq] at he h
     exact .ne he (n9 x y A s _ _ _ _ k r1 q1 ha.1 hb.1 (by omega) (by simpa using h))
end
section
variable {X:Cx} {E:XK} {k:Nat}
theorem JN (hr:cg k X.A):n5 X E (compareOp .Lt) oLt:=by
 intro pins s σ H x y v u Q I rx ry ⟨θ,h,d1,d2,w,r1,r2,p⟩
 unfold oLt at p
 cases d1 with
 | dat d=>
  cases d2 with
  | dat e=>
   simp only at p
   split at p
   ·rename_i hn
    simp only [Pl,noDict,R6,Py] at hn
    cases e3:bJ d e with
    | none=>rw [e3] at p;exact p.elim
    | some b=>
     rw [e3] at p
     obtain ⟨⟨as,z1⟩,s1⟩:=fj I w 3 r1 rx (jH h 3 d)
     obtain ⟨⟨bs,z2⟩,s2⟩:=fj I w 3 r2 ry (jH h 3 e)
     exact n9 d e X.A s v u as bs b z1 z2 (jb s1 hn.1.1) (jb s2 hn.1.2) (by have:=hr.units;omega) e3 X.prog X.w X.xe _ ⟨.bl b,H,I,rfl,p.kl w (cz b)⟩
   ·exact p.elim
  | _=>exact p.elim
 | _=>exact p.elim
theorem HQ {op:Value->Value->Sem Value} {f:D->D->Hm->R D} {C:Int->Int->Prop} {g:Int->Int->V} (h:ik X op (rI C g)) (k:∀ θ hm H d1 d2 Q,W X.G θ hm H->aG X.G (n0 X.G E) θ H (f d1 d2 hm) (KV X.G Q)->∃ i j,d1=.int i/\d2=.int j/\C i j/\Q (g i j) H):n5 X E op f:=
 n5.of h fun θ hm H d1 d2 x y Q w r1 r2 p=>by
  obtain ⟨i,j,rfl,rfl,c,q⟩:=k θ hm H d1 d2 Q w p
  exact ⟨i,j,bW r1,bW r2,c,q⟩
theorem zq {op:Value->Value->Sem Value} {f:D->D->Hm->R D} {g:Int->Int->V} (h:ik X op (HA g)) (k:∀ θ hm H d1 d2 Q,W X.G θ hm H->aG X.G (n0 X.G E) θ H (f d1 d2 hm) (KV X.G Q)->∃ i j,d1=.int i/\d2=.int j/\Q (g i j) H):n5 X E op f:=
 n5.of h fun θ hm H d1 d2 x y Q w r1 r2 p=>by
  obtain ⟨i,j,rfl,rfl,q⟩:=k θ hm H d1 d2 Q w p
  exact ⟨i,j,bW r1,bW r2,q⟩
theorem Lz:n5 X E (binaryOp .Sub) Dt:=zq IP fun θ hm H d1 d2 Q w p=>by
 unfold Dt at p
 split at p
 ·exact ⟨_,_,rfl,rfl,p.kl w (cJ _)⟩
 ·exact p.elim
theorem xI:n5 X E (binaryOp .Mod) oMod:=HQ IS fun θ hm H d1 d2 Q w p=>by
 unfold oMod at p
 split at p
 ·split at p
  ·rename_i hj;exact ⟨_,_,rfl,rfl,hj,p.kl w (cJ _)⟩
  ·exact p.elim
 ·exact p.elim
theorem JO:n5 X E (binaryOp .FloorDiv) uY:=HQ FK fun θ hm H d1 d2 Q w p=>by
 unfold uY at p
 split at p
 ·split at p
  ·rename_i hj;exact ⟨_,_,rfl,rfl,hj,p.kl w (cJ _)⟩
  ·exact p.elim
 ·exact p.elim
theorem NC:n5 X E (compareOp .Gt) Mj:=zq Lc fun θ hm H d1 d2 Q w p=>by
 unfold Mj at p
 split at p
 ·exact ⟨_,_,rfl,rfl,p.kl w (cz _)⟩
 ·exact p.elim
theorem ND:n5 X E (compareOp .GtE) Lv:=zq Ld fun θ hm H d1 d2 Q w p=>by
 unfold Lv at p
 split at p
 ·exact ⟨_,_,rfl,rfl,p.kl w (cz _)⟩
 ·exact p.elim
theorem Gp:n5 X E (compareOp .LtE) oLe:=n5.of (ik.or Lb BZ) fun θ hm H d1 d2 x y Q w r1 r2 p=>by
 unfold oLe at p
 split at p
 ·exact .inl ⟨_,_,bW r1,bW r2,p.kl w (cz _)⟩
 ·exact .inr ⟨_,_,r1.1,r2.1,p.kl w (cz _)⟩
 ·exact p.elim
end
end Ml
set_option maxHeartbeats 1000000
namespace Ml
open PySem PySem.Spec L2 PyProof.Rows PySem.W
def pZ:PyData->Nat
 | .int _=>0
 | .str _=>1
 | _=>2
def DL:Nat->String
 | 0 => "int"
 | 1 => "str"
 | _ => "tuple"
theorem sk {M:Model} {h:Heap} {a:Addr} {o:Obj} (h1:h.get? a=some o) (h2:o.cls=.type "tuple"):Looks M h (typeOf (.ref a)) (.type "tuple"):=by
 obtain ⟨oc,od,dat,osl⟩:=o
 cases h2
 exact (Looks.ld h1).andThen .now
theorem Cc {M:Model} {h:Heap} {v:Value} {d:PyData} {as:List Addr} (r:Reads h v d as) (t:ai d=true):Looks M h (typeOf v) (.type (DL (pZ d))):=by
 cases r with
 | int i t=>exact .now
 | str x t=>exact .now
 | tuple h1 h2 h3 h4=>exact sk h1 h2
 | _=>simp [ai] at t
def LA (h:Heap) (f:Option Value) (d:PyData):Prop:=match d with
 | .tuple []=>f=none
 | .tuple (x::_)=>∃ u bs,f=some u/\Reads h u x bs
 | _=>False
section
variable {P:Program} {w:World} {A:Around} {E:Value->Shared->Prop} {s:Shared}
theorem p7 {M:Model}:∀ {vs:List Value} {ds:List PyData} {as:List Addr} {Q:List (Option Value)->Shared->Prop},ReadsAll s.heap vs ds as->ds.all gE=true->(∀ fs,Paired (LA s.heap) fs ds->Q fs s)->wpAny M A (vs.mapM firstOfTuple') Q E s
 | _,_,_,Q,.nil,_,h=>by rw [List.mapM_nil];exact Pk (h [] .nil)
 | _,_,_,Q,.cons r t,al,h=>by
  simp only [Tg,Pl] at al
  rw [List.mapM_cons]
  refine Ph ?_
  cases r with
  | tuple h1 h2 h3 h4=>
   rename_i o its n xs
   rw [kas_first_eq]
   refine Ph (Looks.here (sk h1 h2) ?_)
   rw [if_neg (by first | decide | simp)]
   refine Ph (PyProof.Rows.listItems_at h1 h3 (Pk ?_))
   refine Ph (p7 t al.2 fun fs hf=>Pk (h _ (.cons ?_ hf)))
   have e0:its[0]?=its.toList[0]?:=by simp
   rw [e0]
   generalize its.toList=l at h4
   cases h4 with
   | nil=>rfl
   | cons r1 r2=>exact ⟨_,_,rfl,r1⟩
  | _=>simp [gE] at al
theorem p8 {ds:List PyData} (t:au ds=true) (c:dA ds=true) {x y:PyData} {xs ys:List PyData} (h1:.tuple (x::xs)∈ds) (h2:.tuple (y::ys)∈ds):pZ x=pZ y:=by
 have t1:=aM t h1
 have t2:=aM t h2
 simp only [ai,au,Pl] at t1 t2
 have q:=eS c h1 h2
 simp only [bJ,cH] at q
 by_cases e:x=y
 ·rw [e]
 ·rw [aQ t1.1 t2.1 e,if_neg (by simp)] at q
  cases x<;>cases y<;>first | rfl | (simp [bJ] at q) | (simp [ai] at t1) | (simp [ai] at t2)
theorem lN {h:Heap}:∀ {fs:List (Option Value)} {ds:List PyData},Paired (LA h) fs ds->∀ v∈fs.filterMap id,∃ x xs bs,.tuple (x::xs)∈ds/\Reads h v x bs
 | _,_,.nil,v,hv=>by simp at hv
 | _,_,.cons (a:=f) (l₁:=fs) (b:=d) r p,v,hv=>by
  cases d with
  | tuple ys=>
   cases ys with
   | nil=>
    obtain rfl:f=none:=r
    obtain ⟨x,xs,bs,m,q⟩:=lN p v (by simpa using hv)
    exact ⟨x,xs,bs,by simp [m],q⟩
   | cons y ys=>
    obtain ⟨u,bs,rfl,q⟩:=r
    rcases (show v=u\/some v∈fs by simpa using hv) with rfl | hv
    ·exact ⟨y,ys,bs,by simp,q⟩
    ·obtain ⟨x,xs,bs,m,q⟩:=lN p v (by simpa using hv)
     exact ⟨x,xs,bs,by simp [m],q⟩
  | _=>exact (show False from r).elim
theorem readsAll_len {h:Heap}:∀ {vs:List Value} {ds:List PyData} {as:List Addr},ReadsAll h vs ds as->vs.length=ds.length
 | _,_,_,.nil=>rfl
 | _,_,_,.cons _ t=>by simp [readsAll_len t]
theorem su {M:Model} {h:Heap}:∀ {vs:List Value} {ds:List PyData} {as:List Addr},ReadsAll h vs ds as->ds.all gE=true->∀ v∈vs,Looks M h (typeOf v) (.type "tuple")
 | _,_,_,.nil,_,v,hv=>by cases hv
 | _,_,_,.cons r1 r2,al,v,hv=>by
  simp only [Tg,Pl] at al
  rcases Pn.mp hv with rfl | hv
  ·cases r1 with
   | tuple g1 g2 g3 g4=>exact sk g1 g2
   | _=>simp [gE] at al
  ·exact su r2 al.2 v hv
theorem Cd {M:Model} {vs:List Value} {ds:List PyData} {as:List Addr} {Q:SortKind->Shared->Prop} (r:ReadsAll s.heap vs ds as) (al:ds.all gE=true) (t:au ds=true) (c:dA ds=true) (h2:1<=vs.length)
  (h1:∀ b,(b=true->∀ x xs,.tuple (x::xs)∈ds->pZ x≠2)->Q (tuples' b) s) (h3:Q general' s) (h4:Q oneType' s):wpAny M A (keyKind' vs.toArray) Q E s:=by
 rw [PyProof.Rows.kat_kind_eq,List.mapM_toArray,map_eq_pure_bind]
 refine Ph (Ph (p7 r al fun fs hf=>Pk ?_))
 have hl:fs.length=ds.length:=P4 hf
 have hl2:vs.length=ds.length:=readsAll_len r
 split
 ·rename_i hall
  refine Ph (RD ?_)
  have e:(fs.toArray.filterMap id)=(fs.filterMap id).toArray:=by simp
  rw [e]
  have hall':∀ f∈fs,f.isSome=true:=by simpa using hall
  obtain ⟨u,us,eu⟩:∃ u us,fs.filterMap id=u::us:=by
   match fs,hl,hall' with
   | [],hl,_=>simp at hl;omega
   | none::_,_,ha=>have:=ha none (.head _);cases this
   | some x::r,_,_=>exact ⟨x,r.filterMap id,by simp⟩
  obtain ⟨x,xs,bs,mx,rx⟩:=lN hf u (by rw [eu];simp)
  have tx:ai x=true:=by have:=aM t mx;simp only [ai,au,Pl] at this;exact this.1
  refine Ph (xx (T:=.type (DL (pZ x))) (by rw [eu];simp) (fun v hv=>?_) (by simp) ?_)
  ·obtain ⟨y,ys,bs,my,ry⟩:=lN hf v hv
   have ty:ai y=true:=by have:=aM t my;simp only [ai,au,Pl] at this;exact this.1
   rw [p8 t c mx my]
   exact Cc ry ty
  ·refine Pk (h1 _ fun hb y ys my=>?_)
   rw [<- p8 t c mx my]
   intro z
   rw [z] at hb
   exact absurd hb (by decide)
 ·split
  ·exact Pk h3
  ·refine Ph (xx (T:=.type "tuple") h2 (fun v hv=>?_) (by rfl) ?_)
   ·exact su r al v hv
   ·exact Pk h4
theorem p9 {b:Bool} {Q:Bool->Shared->Prop}:∀ {us vs:List Value} {xs ys:List PyData} {as bs:List Addr} (i:Nat) (fin k:Bool),ReadsAll s.heap us xs as->ReadsAll s.heap vs ys bs->au xs=true->au ys=true->PyData.canLayAll0 xs=true->PyData.canLayAll0 ys=true ->
  A.units+min (PyData.depthAll xs) (PyData.depthAll ys) < cLine->fin=decide (xs.length < ys.length)->(b=true->i=0->∀ x∈xs.head?,pZ x≠2)->cH xs ys=some k->Q k s->KatLex P w A b fin Q (us.zip vs) i s
 | _,_,_,_,_,_,i,fin,k,.nil,.nil,_,_,_,_,_,e,_,h,q=>by subst e;simp [cH] at h;subst h;exact PySem.W.kat_nil q
 | _,_,_,_,_,_,i,fin,k,.nil,.cons _ _,_,_,_,_,_,e,_,h,q=>by subst e;simp [cH] at h;subst h;exact PySem.W.kat_nil (by simpa using q)
 | _,_,_,_,_,_,i,fin,k,.cons _ _,.nil,_,_,_,_,_,e,_,h,q=>by subst e;simp [cH] at h;subst h;exact PySem.W.kat_nil (by simpa using q)
 | _,_,_,_,_,_,i,fin,k,.cons (d:=x) (ds:=xs) r1 r2,.cons (d:=y) (ds:=ys) q1 q2,t1,t2,l1,l2,hu,e,hb,h,q=>by
  rw [Q3]
  refine PySem.W.kat_cons ?_
  simp only [au,PyData.canLayAll0,Pl] at t1 t2 l1 l2
  simp only [PyData.depthAll] at hu
  refine Tc x y A s _ _ _ _ r1 q1 l1.1 l2.1 (by omega) P w _ _ ?_
  simp only [cH] at h
  cases hq:PyData.eqv x y with
  | true=>
   rw [hq,if_pos rfl] at h
   exact PySem.W.kat_yes (p9 (i+1) fin k r2 q2 t1.2 t2.2 l1.2 l2.2 (by omega) (by rw [e];simp) (fun _ z=>by omega) h q)
  | false=>
   rw [hq,if_neg (by simp)] at h
   refine PySem.W.kat_no ?_
   have fin2:wpAny (model P w) A (oneLt' false _ _) Q (fun _ _=>False) s:=kat_one _ _ (n9 x y A s _ _ _ _ k r1 q1 l1.1 l2.1 (by omega) h P w (fun _ _=>False) _ q)
   cases hbi:(b && i == 0) with
   | false=>exact fin2
   | true=>
    simp only [Pl,SO] at hbi
    have kx:=hb hbi.1 hbi.2 x (by simp)
    cases x with
    | int i1=>
     cases y with
     | int j1=>cases r1;cases q1;simp only [bJ] at h;cases h;exact oneLt_int q
     | _=>simp [bJ] at h
    | str i1=>
     cases y with
     | str j1=>cases r1;cases q1;simp only [bJ,mV] at h;cases h;exact oneLt_str q
     | _=>simp [bJ] at h
    | _=>exact absurd rfl kx
theorem zr (hu:A.units+41 < cLine) {x y:Value} {xs ys:List PyData} {as bs:List Addr} {k:Bool} {Q:Bool->Shared->Prop} (rx:Reads s.heap x (.tuple xs) as) (ry:Reads s.heap y (.tuple ys) bs) (t1:au xs=true) (t2:au ys=true) (l1:PyData.canLayAll0 xs=true) (l2:PyData.canLayAll0 ys=true)
  (hd:PyData.depthAll xs<=20) (h:cH xs ys=some k) (κ:SortKind) (hκ:(∃ b,κ=tuples' b/\(b=true->∀ x∈xs.head?,pZ x≠2))\/κ=general'\/κ=oneType') (q:Q k s):wpAny (model P w) A (keyLt' κ x y) Q (fun _ _=>False) s:=by
 have ex:=rx
 have ey:=ry
 cases rx with
 | tuple g1 g2 g3 g4=>
  rename_i o1 i1 n1
  cases ry with
  | tuple k1 k2 k3 k4=>
   rename_i o2 i2 n2
   rcases hκ with ⟨b,rfl,hb⟩ | rfl | rfl
   ·refine kat_lt g1 g3 k1 k3 (p9 0 _ k g4 k4 t1 t2 l1 l2 (by omega) ?_ (fun hb' _=>hb hb') h q)
    have z1:=readsAll_len g4
    have z2:=readsAll_len k4
    simp at z1 z2
    rw [z1,z2]
   ·show wpAny (model P w) A (oneLt' false _ _) Q _ s
    exact kat_one _ _ (n9 (.tuple xs) (.tuple ys) A s _ _ _ _ k ex ey (by simpa [PyData.canLay0] using l1) (by simpa [PyData.canLay0] using l2) (by simp only [PyData.depth];omega) (by simpa [bJ] using h) P w (fun _ _=>False) _ q)
   ·rw [keyLt'_oneType,oneLt'_eq]
    simp only [Qe]
    refine Ph (wpAny_cRoomFor (by omega) ?_)
    obtain ⟨c1,d1,e1,sl1⟩:=o1
    obtain ⟨c2,d2,e2,sl2⟩:=o2
    cases g2
    cases g3
    cases k2
    cases k3
    refine Ph (wpAny_callSpecialIfBound?_slot ⟨_,g1,rfl⟩ S5 (So S5 ⟨_,g1,rfl⟩ PySem.F.entry_tuple_lt (PySem.F.args_tuple_lt_2 _ _) (SeqAt.n8 _ _ _ _ n1 n2 d1 d2 sl1 sl2 k) ⟨g1,k1,pj xs ys _ s _ _ _ _ k g4 k4 l1 l2 (by show A.units+1+_ < _;omega) h,?_⟩))
    exact QP q
theorem pq {h:Heap}:∀ {vs:List Value} {ds:List PyData} {as:List Addr} (i:Nat),ReadsAll h vs ds as->i < vs.length->∃ bs,Reads h (vs.getD i .none) (ds.getD i .none) bs
 | _,_,_,i,.nil,hi=>by simp at hi
 | _,_,_,0,.cons r1 _,_=>⟨_,r1⟩
 | _,_,_,i+1,.cons _ r2,hi=>by simpa using pq i r2 (by simpa using hi)
theorem getD_mem {α:Type} {xs:List α} {i:Nat} {d:α} (h:i < xs.length):xs.getD i d∈xs:=by simp [h]
theorem sv:∀ {ds:List PyData} {d:PyData},PyData.canLayAll0 ds=true->d∈ds->d.canLay0=true
 | _::_,d,h,m=>by
  simp only [PyData.canLayAll0,Pl] at h
  rcases Pn.mp m with rfl | m
  ·exact h.1
  ·exact sv h.2 m
theorem sy:∀ {ds:List PyData} {d:PyData},d∈ds->d.depth<=PyData.depthAll ds
 | _::_,d,m=>by
  simp only [PyData.depthAll]
  rcases Pn.mp m with rfl | m
  ·exact Nat.le_max_left _ _
  ·exact Pq (sy m) (Nat.le_max_right _ _)
theorem pv (hu:A.units+41 < cLine) {vs:List Value} {ds:List PyData} {as:List Addr} (r:ReadsAll s.heap vs ds as) (al:ds.all gE=true) (t:au ds=true) (c:dA ds=true) (l:PyData.canLayAll0 ds=true) (hd:PyData.depthAll ds<=20) (h2:1<=vs.length) :
  B3 P w A vs (fun i j=>ltB (ds.getD i .none) (ds.getD j .none)) s:=by
 have hlen:=readsAll_len r
 have tup:∀ {i:Nat},i < vs.length->∃ xs bs,ds.getD i .none=.tuple xs/\.tuple xs∈ds/\Reads s.heap (vs.getD i .none) (.tuple xs) bs:=fun {i} hi=>by
  obtain ⟨bs,q⟩:=pq i r hi
  have m:ds.getD i .none∈ds:=getD_mem (by omega)
  have a:=PH.mp al _ m
  cases e:ds.getD i .none with
  | tuple xs=>exact ⟨xs,bs,rfl,e▸m,e▸q⟩
  | _=>rw [e] at a;simp [gE] at a
 have key:∀ κ,((∃ b,κ=tuples' b/\(b=true->∀ x xs,.tuple (x::xs)∈ds->pZ x≠2))\/κ=general'\/κ=oneType')->s=s/\∀ i j C,i < vs.length->j < vs.length->C (ltB (ds.getD i .none) (ds.getD j .none)) s ->
   wpAny (model P w) A (keyLt' κ (vs.getD i Value.none) (vs.getD j Value.none)) C (fun _ _=>False) s:=fun κ hκ=>⟨rfl,fun i j C hi hj hC=>by
  obtain ⟨xs,b1,e1,m1,q1⟩:=tup hi
  obtain ⟨ys,b2,e2,m2,q2⟩:=tup hj
  have cc:=eS c m1 m2
  have d1:=sy m1
  have l1:=sv l m1
  have l2:=sv l m2
  have t1:=aM t m1
  have t2:=aM t m2
  simp only [PyData.depth] at d1
  simp only [PyData.canLay0] at l1 l2
  simp only [ai] at t1 t2
  rw [e1,e2] at hC
  refine zr hu q1 q2 t1 t2 l1 l2 (by omega) (by simpa [bJ] using cc) κ ?_ hC
  rcases hκ with ⟨b,rfl,hb⟩ | h | h
  ·refine .inl ⟨b,rfl,fun hb' x hx=>?_⟩
   cases xs with
   | nil=>simp at hx
   | cons z zs=>simp at hx;subst hx;exact hb hb' z zs m1
  ·exact .inr (.inl h)
  ·exact .inr (.inr h)⟩
 exact Cd r al t c h2 (fun b hb=>key _ (.inl ⟨b,rfl,hb⟩)) (key _ (.inr (.inl rfl))) (key _ (.inr (.inr rfl)))
end
end Ml
namespace Ml
open PySem PySem.Spec L2
section
variable {X:Cx} {E:XK} {k:Nat} {θ:List Addr} {hm:Hm} {H:Hp}
theorem qR {G:Gx} (w:W G θ hm H) {x:D} {v:V} {ds:List PyData} (r:bS G θ H x v) (e:listOf x hm=some ds):∃ a vs,v=.ref a/\H a=some (.lst vs)/\aZ (view θ H) ds vs/\cy ds=true:=by
 unfold listOf at e
 split at e
 ·cases e
  obtain ⟨⟨a,vs,rfl,ha,rr⟩,so⟩:=r
  exact ⟨a,vs,rfl,aA _ _ _ _ ha,rr,by simpa [bY] using so⟩
 ·obtain ⟨a,ha,rfl⟩:=r
  split at e
  ·rename_i ys hy
   obtain ⟨vs,hv,rs⟩:=w.obj _ _ _ ha hy
   obtain ⟨h1,h2⟩:=lL rs e
   exact ⟨a,vs,rfl,hv,h1,h2⟩
  ·cases e
 ·cases e
theorem pA {P:Program} {w:World} {A:Around} {s:Shared} {vs:List Value} {ds:List PyData} {as:List Addr} (r:ReadsAll s.heap vs ds as) (al:ds.all rS=true) (h2:2<=vs.length):PySem.W.B3 P w A vs (fun i j=>ltB (ds.getD i .none) (ds.getD j .none)) s:=by
 have hlen:=readsAll_len r
 have tup:∀ {i:Nat},i < vs.length->∃ x tk,ds.getD i .none=.str x/\vs.getD i .none=.str x tk:=fun {i} hi=>by
  obtain ⟨bs,q⟩:=pq i r hi
  have m:ds.getD i .none∈ds:=getD_mem (by omega)
  have a:=PH.mp al _ m
  cases e:ds.getD i .none with
  | str x=>rw [e] at q;generalize vs.getD i .none=z at q;cases q;exact ⟨x,_,rfl,rfl⟩
  | _=>rw [e] at a;simp [rS] at a
 refine PySem.W.kas_kind h2 (T:=.type "str") (fun v hv=>?_) (by decide) (by decide) ⟨rfl,fun i j C hi hj hC=>?_⟩
 ·obtain ⟨i,hi,e⟩:=Ry.mp hv
  obtain ⟨x,tk,_,e2⟩:=tup hi
  have:vs.getD i .none=v:=by simp [hi,e]
  rw [this] at e2
  subst e2
  exact .now
 ·obtain ⟨x,t1,e1,f1⟩:=tup hi
  obtain ⟨y,t2,e2,f2⟩:=tup hj
  rw [f1,f2,PyProof.Rows.keyLt'_oneType]
  simp only [e1,e2] at hC
  exact PyProof.Rows.oneLt_str (by simpa [ltB,bJ,mV] using hC)
theorem JP {ds:List PyData} (o:Ord ltB ds):PySem.W.kB (fun i j=>ltB (ds.getD i .none) (ds.getD j .none)) ds.length:=
 ⟨fun a b ha hb h=>o.as (getD_mem ha) (getD_mem hb) h,fun a b c ha hb hc h h'=>o.ntr (getD_mem ha) (getD_mem hb) (getD_mem hc) h h'⟩
theorem bF:∀ {ds:List PyData},cy ds=true<->∀ d∈ds,bY d=true
 | []=>by simp [cy]
 | d::ds=>by simp [cy,bF (ds:=ds)]
theorem pB {ds es:List PyData} (p:ds.Perm es) (h:cy ds=true):cy es=true:=bF.mpr fun d m=>bF.mp h d (p.mem_iff.mpr m)
def JQ:List V->Hp->VK->Prop:=fun xs H Q=>∃ (a:Addr) (vs:List V) (M:Hp) (ds:List PyData),xs=[.ref a]/\H a=some (.lst vs)/\bD M H/\aZ M ds vs/\cy ds=true/\cN ds=true /\
 ∀ (p:Addr) (us:List V),H p=none->aZ M (cx ltB ds) us->us.length<=sizeLine->Q (.ref p) (upd H p (.lst us))
theorem wx (hr:cg k X.A):df X (.builtin "sorted") JQ:=by
 intro pins s σ H xs us Q I r h
 obtain ⟨a,vs,M,ds,rfl,ha,sm,rp,so,ok,q⟩:=h
 simp only [cN,Pl,Py,QK] at ok
 obtain ⟨⟨⟨⟨kd,tr⟩,cm⟩,dp⟩,h64⟩:=ok
 cases r with
 | cons r rr=>
  cases rr
  cases r
  obtain ⟨its,rv,pl,_⟩:=I.list (iw.of (K:=X.K) ha)
  have hlen:vs.length=ds.length:=rp.length
  have hlen2:its.length=ds.length:=by rw [<- rv.length];exact hlen
  obtain ⟨as,ra⟩:=aZ.reads I (rp.same sm) rv
  have nd:PyData.hasDictAll ds=false:=fg tr
  have la:=lK so nd
  have O:=JP (fP cm tr)
  rw [<- hlen2] at O
  refine PySem.W.rM pl.isList O (by omega) (fun h' kp h2=>?_) fun p hp hs=>?_
  ·have ra':ReadsAll h' its ds as:=Qu kp ra
   rcases kd with kd | kd
   ·exact pA (s:={s with heap:=h'}) ra' kd h2
   ·exact pv (s:={s with heap:=h'}) (by have:=hr.un;show X.A.units+1+1+41 < cLine;omega) ra' kd tr cm la dp (by omega)
  ·have ge:s.heap.objs.size<=s.heap.objs.size+1:=QR _
   have nn:H (s.heap.objs.size+1)=none:=I.hok.fresh ge
   obtain ⟨e,he⟩:=PyProof.Rows.sortedAll_at s.heap its (p.toList.map fun i=>its.getD i Value.none).toArray
   have hin:∀ i∈p.toList,i < vs.length:=fun i hi=>by
    have:=Qo.mp (hp.perm.mem_iff.mp hi)
    omega
   have hlp:p.toList.length=ds.length:=by rw [hp.perm.length_eq,SN,hlen2]
   have hz:(p.toList.map fun i=>vs.getD i .non).length<=sizeLine:=by
    rw [PX,hlp]
    exact Pq (Sj h64) (by decide)
   refine ⟨.ref _,_,I.laid (t':=s.toks) (o:=.lst (p.toList.map fun i=>vs.getD i .non)) (fun b o k=>PyProof.Rows.sortedAll_old k) ge ⟨hz,_,e,o6 rv p.toList hin,by simpa [PyProof.Rows.seqObj] using he⟩,rfl,q _ _ nn ?_ hz⟩
   have e1:(p.toList.map fun i=>ds.getD i .none)=cx ltB ds:=by
    refine rV cm tr ?_ ?_
    ·have:=hp.perm.map (fun i=>ds.getD i .none)
     rw [hlen2,gP] at this
     exact this
    ·unfold Up
     rw [RH,QV]
     intro i j hi hj hij
     have e1:PySem.W.pat p i=p.toList[i]:=by simp only [Qj] at hi;rw [PySem.W.gC,Ss p i hi];simp
     have e2:PySem.W.pat p j=p.toList[j]:=by simp only [Qj] at hj;rw [PySem.W.gC,Ss p j hj];simp
     have:=hs i j hij (by rw [hlen2];omega)
     rw [e1,e2] at this
     exact this
   rw [<- e1]
   exact o7 rp .none p.toList hin
theorem sC (hr:cg k X.A):qG X E (.builtin "sorted") dC:=qG.of (wx hr) fun θ hm H ds xs Q w r p=>by
 unfold dC at p
 split at p
 ·rename_i x
  cases r with
  | cons r rr=>
   cases rr
   split at p
   ·rename_i ys hy
    split at p
    ·rename_i ok
     obtain ⟨a,vs,rfl,ha,rp,so⟩:=qR w r hy
     refine ⟨a,vs,view θ H,ys,rfl,ha,aA _ _,rp,so,ok,fun q us hq ru hz=>?_⟩
     obtain ⟨e1,w1,g⟩:=w.put (o:=.lst us) hq
     refine p _ _ e1 w1 _ ⟨⟨q,us,rfl,g,ru.same e1.same⟩,?_⟩
     simp only [bY]
     exact pB (bo _ _).symm so
    ·exact p.elim
   ·exact p.elim
 ·exact p.elim
end
section
variable {X:Cx} {E:XK} {k:Nat} {θ:List Addr} {hm:Hm} {H:Hp} {m:ME} {t:MT} {e e1 e2:Expr} {pos:Pos}
theorem dE {G:Gx} {x:Str} {v:V} (r:bS G θ H (.str x) v):v=.str x/\PyData.strOk x=true:=⟨r.1,by simpa [bY] using r.2⟩
theorem wy {x y:Str} (h:PyData.strOk x=true) (h':PyData.strOk y=true):PyData.strOk (x++y)=true:=by
 have e:(x++y).cps=x.cps++y.cps:=rfl
 unfold PyData.strOk at h h' ⊢
 rw [e,Array.all_append,h,h']
 rfl
theorem xJ {G:Gx} {H' M':Hp} (w:W G θ hm H) (x:Ext H (view θ H) H' M'):Ev θ H θ H'/\W G θ hm H'/\bD M' (view θ H'):=by
 obtain ⟨e1,w1⟩:=w.grow x.sh
 refine ⟨e1,w1,fun c o q=>?_⟩
 have nb:c∉θ:=fun z=>by
  obtain ⟨i,hi,ei⟩:=Ry.mp z
  have hl:i < hm.length:=by rw [<- w.len];exact hi
  have hn:H c≠none:=zl.some _ (w.obj i c hm[i] (by rw [Pz hi,ei]) (Pz hl))
  rw [x.old c hn] at q
  exact (dh q).1 z
 rw [dS nb]
 exact x.gs c o q
theorem iG:n5 X E (binaryOp .Add) dH:=n5.of (ik.or IM (ik.or yZ (ik.or Ge Jd))) fun θ hm H d1 d2 x y Q w r1 r2 p=>by
 unfold dH at p
 split at p
 ·exact .inl ⟨_,_,bW r1,bW r2,p.kl w (cJ _)⟩
 ·split at p
  ·rename_i hz
   obtain ⟨e1,s1⟩:=dE r1
   obtain ⟨e2,s2⟩:=dE r2
   exact .inr (.inl ⟨_,_,e1,e2,dD hz,p.kl w ⟨rfl,by simp only [bY];exact wy s1 s2⟩⟩)
  ·exact p.elim
 ·split at p
  ·rename_i xs ys hz
   refine .inr (.inr (.inl ⟨view θ H,xs,ys,aA _ _,r1.1,r2.1,dD hz,fun r H' M' ex rr=>?_⟩))
   obtain ⟨e1,w1,sm⟩:=xJ w ex
   have s1:cy xs=true:=by simpa [bY] using r1.2
   have s2:cy ys=true:=by simpa [bY] using r2.2
   refine p _ _ e1 w1 _ ⟨rr.same sm,?_⟩
   simp only [bY]
   exact bF.mpr fun d m=>by
    rcases PL.mp m with m | m
    ·exact bF.mp s1 d m
    ·exact bF.mp s2 d m
  ·exact p.elim
 ·split at p
  ·rename_i xs ys hz
   have s1:cy xs=true:=by simpa [bY] using r1.2
   have s2:cy ys=true:=by simpa [bY] using r2.2
   obtain ⟨a,us,rfl,ha,q1,_⟩:=gR r1
   obtain ⟨b,ws,rfl,hb,q2,_⟩:=gR r2
   refine .inr (.inr (.inr ⟨a,b,us,ws,rfl,rfl,aA _ _ _ _ ha,aA _ _ _ _ hb,by rw [q1.length,q2.length];exact dD hz,fun q hq=>?_⟩))
   obtain ⟨e1,w1,g⟩:=w.put (o:=.lst (us++ws)) hq
   refine p _ _ e1 w1 _ ⟨⟨q,_,rfl,g,(q1.append q2).same e1.same⟩,?_⟩
   simp only [bY]
   exact bF.mpr fun d m=>by
    rcases PL.mp m with m | m
    ·exact bF.mp s1 d m
    ·exact bF.mp s2 d m
  ·exact p.elim
 ·exact p.elim
theorem u7 {M:Hp} {ds:List PyData} {vs:List V} (r:aZ M ds vs):∀ n:Nat,aZ M (List.replicate n ds).flatten (List.replicate n vs).flatten
 | 0=>rfl
 | n+1=>by rw [QQ,QQ,RB,RB];exact r.append (u7 r n)
theorem xK:n5 X E (binaryOp .Mult) kE:=n5.of (ik.or IQ Je) fun θ hm H d1 d2 x y Q w r1 r2 p=>by
 unfold kE at p
 split at p
 ·split at p
  ·rename_i hc
   refine .inl ⟨_,_,bW r1,bW r2,?_,p.kl w (cJ _)⟩
   simp only [AH,QK,Pl,Py] at hc
   exact hc
  ·exact p.elim
 ·split at p
  ·rename_i xs j hc
   simp only [Pl,Py] at hc
   have s1:cy xs=true:=by simpa [bY] using r1.2
   obtain ⟨a,us,rfl,ha,q1,_⟩:=gR r1
   refine .inr ⟨a,j,us,rfl,bW r2,aA _ _ _ _ ha,hc.1.2,hc.2,by rw [q1.length];exact dD hc.1.1,fun q hq=>?_⟩
   obtain ⟨e1,w1,g⟩:=w.put (o:=.lst (List.replicate j.toNat us).flatten) hq
   refine p _ _ e1 w1 _ ⟨⟨q,_,rfl,g,(u7 q1 _).same e1.same⟩,?_⟩
   simp only [bY]
   exact bF.mpr fun d m=>by
    obtain ⟨l,hl,hd⟩:=List.mem_flatten.mp m
    rw [(List.mem_replicate.mp hl).2] at hd
    exact bF.mp s1 d hd
  ·exact p.elim
 ·exact p.elim
theorem qS {α β:Type} (f:α->β) (xs:List α) (i:Int):mf (xs.map f) i=(mf xs i).map f:=by
 unfold mf
 rw [PX]
 cases uc xs.length i with
 | none=>rfl
 | some j=>simp
theorem wz {G:Gx} {ds:List D} {vs:List V} {i:Int} {d:D} (r:ba G θ H ds vs) (e:mf ds i=some d):∃ v,L2.mf vs i=some v/\bS G θ H d v:=by
 have hl:ds.length=vs.length:=P4 r
 unfold mf at e
 unfold L2.mf
 rw [<- hl]
 change (uc ds.length i).bind _=_ at e
 show ∃ v,(uc ds.length i).bind (fun j=>vs[j]?)=some v/\_
 cases hj:uc ds.length i with
 | none=>rw [hj] at e;cases e
 | some j=>
  rw [hj] at e
  exact ba.some r e
theorem DM:KH X (Jz X.G E qF):=by
 intro value slice pins s σ H x y v u Q I rx ry ⟨θ,h,d1,d2,w,r1,r2,p⟩ hs
 unfold qF at p
 split at p
 ·rename_i i
  have ey:=bW r2
  split at p
  ·rename_i ds
   split at p
   ·rename_i d he
    obtain ⟨a,us,rfl,ha,q1,q2⟩:=fX r1
    obtain ⟨z,e1,rz⟩:=wz (i:=i) (d:=.dat d) q2 (by rw [qS,he];rfl)
    exact I0 value slice pins s σ H _ y v u Q I rx ry ⟨a,us,i,z,rfl,ey,gx.of (aA _ _ _ _ ha),e1,p.kl w rz⟩ hs
   ·exact p.elim
  ·rename_i ds
   split at p
   ·rename_i d he
    obtain ⟨a,us,rfl,ha,q1,q2⟩:=gR r1
    obtain ⟨z,e1,rz⟩:=wz (i:=i) (d:=.dat d) q2 (by rw [qS,he];rfl)
    exact vU value slice pins s σ H _ y v u Q I rx ry ⟨a,us,i,z,rfl,ey,iw.of (aA _ _ _ _ ha),e1,p.kl w rz⟩ hs
   ·exact p.elim
  ·rename_i j
   split at p
   ·rename_i xs hx
    split at p
    ·rename_i d he
     obtain ⟨a,ha,rfl⟩:=r1
     obtain ⟨vs,hv,rs⟩:=w.obj _ _ _ ha hx
     obtain ⟨z,e1,rz⟩:=wz rs he
     exact vU value slice pins s σ H _ y v u Q I rx ry ⟨a,vs,i,z,rfl,ey,iw.of hv,e1,p.kl w rz⟩ hs
    ·exact p.elim
   ·exact p.elim
  ·rename_i ns
   split at p
   ·rename_i n he
    obtain ⟨a,rfl,hq⟩:=r1
    have e1:L2.mf (ns.map V.int) i=some (.int n):=by
     have:=qS V.int ns i
     rw [he] at this
     exact this
    exact vU value slice pins s σ H _ y v u Q I rx ry ⟨a,_,i,_,rfl,ey,(aA _ _).seq hq,e1,p.kl w (cJ _)⟩ hs
   ·exact p.elim
  ·exact p.elim
 ·exact p.elim
def lO (G:Gx) (E:XK) (m:Fs):TO:=fun σ H Q=>∃ θ h ρ,W G θ h H/\Fr G θ H ρ σ/\aG G (n0 G E) θ H (m ρ h) (fun o _ _ H'=>Q o H')
@[irreducible] def DO (X:Cx) (E:XK) (m:Fs) (e:Option Expr):Prop:=PO X e (lO X.G E m)
theorem AX (X:Cx) (E:XK) (m:Fs) (e:Option Expr):DO X E m e=(PO X e (lO X.G E m)):=by
 unfold DO
 rfl
theorem PO.imp {X:Cx} {e:Option Expr} {t t':TO} (h:PO X e t) (k:∀ σ H Q,t' σ H Q->t σ H Q):PO X e t':=fun pins s σ H Q I q=>h pins s σ H Q I (k _ _ _ q)
theorem Gq:DO X E AI none:=by
 simp only [AX] at *
 exact PO.imp FV fun σ H Q ⟨θ,h,ρ,w,fr,p⟩=>p θ H Ev.refl w
theorem wA (h:DE X E m e):DO X E (mD m) (some e):=by
 simp only [bj,AX] at *
 exact PO.imp (FW h) fun σ H Q ⟨θ,h,ρ,w,fr,p⟩=>⟨θ,h,ρ,w,fr,(aG.bind p).mono fun d θ1 h1 H1 _ _ ⟨ev,w1,p1⟩ v r=>by
  split at p1
  ·exact ⟨_,bW r,p1 θ1 H1 Ev.refl w1⟩
  ·exact p1.elim⟩
theorem AY {M:Hp} {ds:List PyData} {vs:List V} (r:aZ M ds vs) (lo hi:Option Int):aZ M (cut ds lo hi) (rE vs lo hi):=by
 unfold cut rE
 have e:vs.length=ds.length:=r.length
 rw [e]
 exact (r.drop _).take _
theorem AZ {α:Type} {xs:List α} {lo hi:Option Int} {x:α} (h:x∈cut xs lo hi):x∈xs:=List.mem_of_mem_drop (Sa h)
theorem sD {ds:List PyData} (h:cy ds=true) (lo hi:Option Int):cy (cut ds lo hi)=true:=bF.mpr fun d m=>bF.mp h d (AZ m)
def NF (G:Gx) (E:XK):V->Option Int->Option Int->Hp->VK->Prop:=fun x lo hi H Q=>∃ θ h d,W G θ h H/\bS G θ H d x/\aG G (n0 G E) θ H (Lw d lo hi h) (KV G Q)
theorem Gr:KG X (NF X.G E):=by
 intro pins s σ H x v vl vu lo hi sl Q I rx hs pl pu ⟨θ,h,d,w,r,p⟩
 unfold Lw at p
 split at p
 ·rename_i ds
  refine Gf pins s σ H x v vl vu lo hi sl Q I rx hs pl pu ⟨view θ H,ds,aA _ _,r.1,fun r' H' M' ex rr=>?_⟩
  obtain ⟨e1,w1,sm⟩:=xJ w ex
  exact p _ _ e1 w1 _ ⟨rr.same sm,by simp only [bY];exact sD (by simpa [bY] using r.2) lo hi⟩
 ·rename_i ds
  have so:cy ds=true:=by simpa [bY] using r.2
  obtain ⟨a,us,rfl,ha,q1,q2⟩:=gR r
  refine Av pins s σ H _ v vl vu lo hi sl Q I rx hs pl pu ⟨a,us,rfl,iw.of (aA _ _ _ _ ha),fun q hq=>?_⟩
  obtain ⟨e1,w1,g⟩:=w.put (o:=.lst (rE us lo hi)) hq
  exact p _ _ e1 w1 _ ⟨⟨q,_,rfl,g,(AY q1 lo hi).same e1.same⟩,by simp only [bY];exact sD so lo hi⟩
 ·exact p.elim
theorem DN {lo hi:Option Expr} {ml mh:Fs} {p2:Pos} (he:DE X E m e) (hl:DO X E ml lo) (hu:DO X E mh hi):DE X E (Mk m ml mh) (.Subscript e (.Slice lo hi none p2) pos):=by
 simp only [bj,AX] at *
 exact PE.imp (xo Gr he hl hu) fun σ H Q ⟨θ,h,ρ,w,fr,p⟩=>⟨θ,h,ρ,w,fr,(aG.bind p).mono fun d θ1 h1 H1 _ _ ⟨ev,w1,p1⟩ v r=>
   ⟨θ1,h1,ρ,w1,fr.ev ev,(aG.bind p1).mono fun l θ2 h2 H2 _ _ ⟨ev2,w2,p2⟩=>⟨θ2,h2,ρ,w2,(fr.ev ev).ev ev2,(aG.bind p2).mono fun u θ3 h3 H3 _ _ ⟨ev3,w3,p3⟩=>⟨θ3,h3,d,w3,(r.ev ev2).ev ev3,p3⟩⟩⟩⟩
theorem mG:qG X E (.builtin "len") fO:=qG.of CV fun θ hm H ds xs Q w r p=>by
 unfold fO at p
 split at p
 ·split at p
  ·rename_i hz
   cases r with
   | cons r rr=>
    cases rr
    exact ⟨_,_,rfl,by rw [(dE r).1];exact ⟨dD hz,rfl⟩,p.kl w (cJ _)⟩
  ·exact p.elim
 ·cases r with
  | cons r rr=>
   cases rr
   obtain ⟨a,us,rfl,ha,q1,_⟩:=fX r
   exact ⟨_,_,rfl,.inr ⟨us,gx.of (aA _ _ _ _ ha),q1.length.symm⟩,p.kl w (cJ _)⟩
 ·cases r with
  | cons r rr=>
   cases rr
   obtain ⟨a,us,rfl,ha,q1,_⟩:=gR r
   exact ⟨_,_,rfl,.inl ⟨us,iw.of (aA _ _ _ _ ha),q1.length.symm⟩,p.kl w (cJ _)⟩
 ·rename_i i
  split at p
  ·rename_i ys hy
   cases r with
   | cons r rr=>
    cases rr
    obtain ⟨a,ha,rfl⟩:=r
    obtain ⟨vs,hv,rs⟩:=w.obj _ _ _ ha hy
    exact ⟨_,_,rfl,.inl ⟨vs,iw.of hv,P4 rs⟩,p.kl w (cJ _)⟩
  ·exact p.elim
 ·rename_i ns
  cases r with
  | cons r rr=>
   cases rr
   obtain ⟨a,rfl,hq⟩:=r
   exact ⟨_,_,rfl,.inl ⟨_,(aA _ _).seq hq,by simp⟩,p.kl w (cJ _)⟩
 ·exact p.elim
theorem sE {M:Hp}:∀ {ds:List PyData} {vs:List V} {bs:List Bool},aZ M ds vs->bools ds=some bs->vs=bs.map V.bl
 | [],_,bs,h,e=>by cases h;cases e;rfl
 | d::ds,_,bs,⟨v,vs,rfl,r,rs⟩,e=>by
  cases d with
  | bool b=>
   simp only [bools,Qh] at e
   obtain ⟨bs',e1,e2⟩:=e
   subst e2
   rw [sE rs e1,show v=V.bl b from r]
   rfl
  | _=>simp [bools] at e
theorem A0 (hc:X.calm=true):qG X E (.builtin "all") wj:=qG.of (De hc) fun θ hm H ds xs Q w r p=>by
 unfold wj at p
 split at p
 ·split at p
  ·rename_i bs hb
   cases r with
   | cons r rr=>
    cases rr
    obtain ⟨a,us,rfl,ha,q1,_⟩:=gR r
    rw [sE q1 hb] at ha
    exact ⟨a,bs,rfl,iw.of (aA _ _ _ _ ha),p.kl w (cz _)⟩
  ·exact p.elim
 ·exact p.elim
end
section
variable {X:Cx} {E:XK} {k:Nat} {θ:List Addr} {hm:Hm} {H:Hp} {m:ME} {t:MT} {e e1 e2:Expr} {pos:Pos} {ma:MA}
theorem JR {T:Str} {n:String} {f:PyData->Bool} (kit:∀ d,PySem.W.kitOne X.K (.type (Lp d)) (.type n)=some (f d)) (bt:bootBuiltins T=some (.type n)) (m1:X.mg "isinstance" = none) (m2:X.mg T=none) (h:DE X E m e) {p p2:Pos} (g1:Gl X "isinstance" := by rfl) (g2:Gl X T:=by rfl) (hT:T ≠ "__name__" := by decide) (hT2:(T == ("__debug__" : Str))=false:=by decide)
  (hs:starEach [e,.Name T p2] X.env=(false,eval e X.env)::starEach [.Name T p2] X.env:=by rfl) (hs2:starEach [.Name T p2] X.env=[(false,eval (.Name T p2) X.env)]:=by rfl) (hpl:(backTo pos (starEach [.Name T p2] X.env)).any (·.1)=false:=by rfl):DE X E (HL (xy f) m) (.Call (.Name "isinstance" p) [e,.Name T p2] [] pos):=by
 simp only [bj] at *
 exact PE.imp (xn Dg g1 m1 uj (lD h (lD (FC (v:=.ty n) g2 m2 bt rfl hT hT2) rC hs2) hs) (by decide) (by decide) hs hpl) fun σ H Q ⟨θ,h,ρ,w,fr,p⟩=>⟨θ,h,ρ,w,fr,(aG.bind p).mono fun d θ1 h1 H1 _ _ ⟨ev,w1,p1⟩ v r=>by
   cases d with
   | dat d=>exact ⟨v,n,_,f d,rfl,(r.1.same (aA _ _)).ty,kit d,p1.kl w1 (cz _)⟩
   | _=>exact p1.elim⟩
theorem sF {M:Hp} (x:Str):∀ (l:List Nat),aZ M (l.map fun i=>.str ⟨#[x.cps.getD i 0]⟩) (l.map (sgn x))
 | []=>rfl
 | i::l=>.cons rfl (sF x l)
theorem DP {x:Str} (h:PyData.strOk x=true):cy (hG x)=true:=bF.mpr fun d m=>by
 obtain ⟨i,_,rfl⟩:=P8.mp m
 simp only [bY]
 exact AV h
theorem eN (hc:X.calm=true):qG X E (.type "tuple") cW:=qG.of (df.or ue (xw hc)) fun θ hm H ds xs Q w r p=>by
 unfold cW at p
 split at p
 ·cases r with
  | cons r rr=>
   cases rr
   obtain ⟨a,us,e,ha,q1,_⟩:=fX r
   subst e
   exact .inl ⟨a,us,rfl,.inr ⟨gx.of (aA _ _ _ _ ha),p.kl w r⟩⟩
 ·split at p
  ·rename_i s hz
   cases r with
   | cons r rr=>
    cases rr
    obtain ⟨e1,s1⟩:=dE r
    subst e1
    refine .inr ⟨s,rfl,dD hz,fun q hq=>?_⟩
    obtain ⟨e1,w1,g⟩:=w.put (o:=.tup ((List.range s.cps.size).map (sgn s))) hq
    exact p _ _ e1 w1 _ ⟨⟨q,_,rfl,g,sF s _⟩,by simp only [bY];exact DP s1⟩
  ·exact p.elim
 ·split at p
  ·rename_i ds hy
   cases r with
   | cons r rr=>
    cases rr
    obtain ⟨a,vs,rfl,ha,rp,so⟩:=qR w r hy
    refine .inl ⟨a,vs,rfl,.inl ⟨iw.of ha,fun q hq=>?_⟩⟩
    obtain ⟨e1,w1,g⟩:=w.put (o:=.tup vs) hq
    exact p _ _ e1 w1 _ ⟨⟨q,_,rfl,g,rp.same e1.same⟩,by simpa [bY] using so⟩
  ·exact p.elim
 ·exact p.elim
theorem A1:qG X E (.type "list") rQ:=qG.of vW fun θ hm H ds xs Q w r p=>by
 unfold rQ at p
 split at p
 ·cases r with
  | cons r rr=>
   cases rr
   have so:=r.2
   obtain ⟨a,us,e,ha,q1,_⟩:=fX r
   subst e
   refine ⟨a,us,rfl,.inr (gx.of (aA _ _ _ _ ha)),fun q hq=>?_⟩
   obtain ⟨e1,w1,g⟩:=w.put (o:=.lst us) hq
   exact p _ _ e1 w1 _ ⟨⟨q,_,rfl,g,q1.same e1.same⟩,by simpa [bY] using so⟩
 ·split at p
  ·rename_i ds hy
   cases r with
   | cons r rr=>
    cases rr
    obtain ⟨a,vs,rfl,ha,rp,so⟩:=qR w r hy
    refine ⟨a,vs,rfl,.inl (iw.of ha),fun q hq=>?_⟩
    obtain ⟨e1,w1,g⟩:=w.put (o:=.lst vs) hq
    exact p _ _ e1 w1 _ ⟨⟨q,_,rfl,g,rp.same e1.same⟩,by simpa [bY] using so⟩
  ·exact p.elim
 ·exact p.elim
theorem DQ:qG X E (.builtin "divmod") nR:=qG.of xl fun θ hm H ds xs Q w r p=>by
 unfold nR at p
 split at p
 ·split at p
  ·rename_i i j hj
   cases r with
   | cons r1 rr=>
    cases rr with
    | cons r2 rr=>
     cases rr
     cases bW r1
     cases bW r2
     refine ⟨i,j,rfl,hj,fun q hq=>?_⟩
     obtain ⟨e1,w1,g⟩:=w.put (o:=.tup [.int (i / j),.int (i % j)]) hq
     exact p _ _ e1 w1 _ ⟨⟨q,_,rfl,g,.cons rfl (.one rfl)⟩,by simp [bY,cy]⟩
  ·exact p.elim
 ·exact p.elim
theorem LB (hc:X.calm=true):qG X E (.builtin "max") B7:=qG.of (BN hc) fun θ hm H ds xs Q w r p=>by
 unfold B7 at p
 split at p
 ·cases r with
  | cons r1 rr=>
   cases rr with
   | cons r2 rr=>
    cases rr
    cases bW r1
    cases bW r2
    exact ⟨_,_,rfl,p.kl w (cJ _)⟩
 ·exact p.elim
theorem HR:qG X E (.type "int") rR:=qG.of BO fun θ hm H ds xs Q w r p=>by
 unfold rR at p
 split at p
 ·cases r with
  | cons r1 rr=>
   cases rr
   cases bW r1
   exact .inl ⟨_,rfl,p.kl w (cJ _)⟩
 ·cases r with
  | cons r1 rr=>
   cases rr
   obtain ⟨e1,_⟩:=r1
   cases e1
   exact .inr ⟨_,rfl,p.kl w (cJ _)⟩
 ·exact p.elim
theorem wB (hr:cg k X.A):qG X E (.builtin "repr") iD:=by
 intro pins s σ H xs us Q I r ⟨θ,h,ds,w,rs,p⟩
 unfold iD at p
 split at p
 ·rename_i x
  cases rs with
  | cons r1 rr=>
   cases rr
   cases r with
   | cons rv rr=>
    cases rr
    rename_i v u
    split at p
    ·rename_i d hd
     obtain ⟨⟨as,z⟩,so⟩:=fj I w 3 r1 rv hd
     split at p
     ·rename_i ok
      have fin:∀ (h':Heap) (tk:Tok) (t':Nat),(∀ b o,s.heap.get? b=some o->h'.get? b=some o)->EP X pins σ Q (.str d.shown tk) {s with heap:=h',toks:=t'}:=fun h' tk t' hk=>⟨.str d.shown,H,I.kept hk,⟨_,rfl⟩,p.kl w rfl⟩
      have fin0:∀ (tk:Tok) (t':Nat),EP X pins σ Q (.str d.shown tk) {s with toks:=t'}:=fun tk t'=>⟨.str d.shown,H,I.tok _,⟨_,rfl⟩,p.kl w rfl⟩
      simp only [QK] at ok
      rcases ok with ok | ok
      rotate_left
      ·unfold Du at ok
       split at ok
       ·rename_i kvs
        simp only [Pl,Py] at ok
        cases x with
        | dat d'=>
         simp only [qP,jH,RC] at hd
         subst hd
         exact zh hr pins s σ H [v] [u] Q I (.cons rv .nil) ⟨kvs,v,rfl,r1.1.same (aA _ _),ok.1.1,ok.1.2,dD ok.2,p.kl w rfl⟩
        | ref i=>
         simp only [qP,uX] at hd
         split at hd
         ·simp only [Qh] at hd
          obtain ⟨_,_,z⟩:=hd
          cases z
         ·cases hd
        | ktup xs=>simp [qP,uX] at hd
        | _=>simp [qP,uX] at hd
       ·cases ok
      have hsz:d.shown.length<=sizeLine/\d.showable=true/\d.depth<=40:=by
       simp only [xA,Pl,Py] at ok
       exact ⟨dD ok.2,ok.1.1.1,ok.1.2⟩
      have hn:∀ {as:List Addr},(d.hasDict=true->sysModules∉as):=fun {as} hd=>by
       simp only [xA,noDict,Pl,R6] at ok
       rw [ok.1.1.2] at hd
       cases hd
      cases z with
      | none=>exact PySem.P.repr_of_none (by simpa [PyData.shown] using fin0 _ _)
      | bool b=>exact PySem.P.repr_of_bool (by simpa [PyData.shown] using fin0 _ _)
      | int i t=>exact PySem.P.repr_of_int (by simpa [PyData.showable] using hsz.2.1) (by simpa [PyData.shown] using fin0 _ _)
      | str x t=>exact PySem.P.repr_of_str (by simpa [PyData.shown] using fin0 _ _) (by simpa [PyData.shown] using hsz.1)
      | list h1 h2 h3 h4=>exact Tt (.list h1 h2 h3 h4) hsz.2.1 hn hr.gd (by have:=hr.units;omega) (fun _ _ e=>e) (fun h' t tk hk=>fin h' t tk hk) hsz.1
      | tuple h1 h2 h3 h4=>exact Tt (.tuple h1 h2 h3 h4) hsz.2.1 hn hr.gd (by have:=hr.units;omega) (fun _ _ e=>e) (fun h' t tk hk=>fin h' t tk hk) hsz.1
      | dict h1 h2 h3 h4 h5=>exact Tt (.dict h1 h2 h3 h4 h5) hsz.2.1 hn hr.gd (by have:=hr.units;omega) (fun _ _ e=>e) (fun h' t tk hk=>fin h' t tk hk) hsz.1
     ·exact p.elim
    ·exact p.elim
 ·exact p.elim
end
section
variable {X:Cx} {E:XK} {k:Nat} {θ:List Addr} {hm:Hm} {H:Hp} {m ma' mb:ME} {t:MT} {e e1 e2 o i:Expr} {es:List Expr} {pos:Pos} {ma:MA} {x:Str}
theorem jL (n:Nat) {d:PyData} (h:Lit n e d) (s:bY d=true):DE X E (aj d) e:=by
 simp only [bj] at *
 exact PE.imp (Ju n h) fun σ H Q ⟨θ,hm,ρ,w,fr,p⟩ r H' N s1 nw rp=>by
   obtain ⟨e1,w1⟩:=w.grow s1
   refine p _ _ e1 w1 _ ⟨rp.same fun c o q=>?_,s⟩
   have nb:c∉θ:=w.Dz (nw c o q).1
   rw [dS nb]
   exact (nw c o q).2
theorem A3 {n:Int} {p:Pos} (hm:∃ t,X.mg x=some (.int n t)) (hg:Gl X x:=by rfl) (hd:(x == ("__debug__" : Str))=false:=by decide):DE X E (aj (.int n)) (.Name x p):=by
 obtain ⟨t,hm⟩:=hm
 exact Gh (vQ (v:=.int n) hg hm ⟨t,rfl⟩ hd) (fun _=>rfl) (by simp [bY])
def Mm (xs:List PyData):ME:=fun _ h=>.ok (.ktup xs) h
theorem A4 {xs:List PyData} {p:Pos} (hm:∃ a,X.mg x=some (.ref a)/\Dx X.K a xs) (hg:Gl X x:=by rfl) (hd:(x == ("__debug__" : Str))=false:=by decide):DE X E (Mm xs) (.Name x p):=by
 simp only [bj] at *
 obtain ⟨a,hm,kt⟩:=hm
 exact PE.imp (vQ (v:=.ref a) hg hm rfl hd) fun σ H Q ⟨θ,hm,ρ,w,fr,p⟩=>p.kl w ⟨a,rfl,kt⟩
theorem Gs {G:Gx} {xs:List PyData} {a:Addr} (kt:Dx G.K a xs):pY G θ H (xs.map D.dat) (Mc G.K a):=fun θ' h' H' ev w=>by
 obtain ⟨⟨o,its,n,hl,hc,hd,hz,rv⟩,fl,so⟩:=kt
 have q:gx G.K H' a (xs.map HP):=.inr ⟨o,its,n,hl,hc,hd,hz,rv⟩
 refine ⟨fun i d e=>?_,⟨_,q,by simp⟩⟩
 rw [Qw,Qh] at e
 obtain ⟨y,ey,rfl⟩:=e
 refine ⟨⟨_,HP y,q,by simp [ey]⟩,fun x H2 ⟨e2,z⟩=>?_⟩
 subst e2
 have:=z _ q
 rw [Qw,ey] at this
 cases this
 have hy:=fl y (P0 ey)
 refine ⟨Ev.refl,w,?_,n6 so ey⟩
 cases y with
 | none=>rfl
 | bool b=>rfl
 | int i=>rfl
 | str x=>rfl
 | _=>simp at hy
def LC (e:ME):MA:=fun ρ h=>(e ρ h).bind fun x h1=>match x with
 | .ktup xs=>.ok (xs.map D.dat) h1
 | _=>.bad
theorem Gu {tg:Expr} (h:DE X E m e):DI X E (LC m) tg e:=by
 simp only [bj,kI] at *
 exact PI.imp (CM h) fun σ H R ⟨θ,h,ρ,w,fr,p⟩=>⟨θ,h,ρ,w,fr,(aG.bind p).mono fun d θ1 h1 H1 _ _ ⟨ev,w1,p1⟩ v r=>by
   cases d with
   | ktup xs=>
    obtain ⟨a,e,kt⟩:=r
    exact ⟨a,e,⟨_,.inr kt.1⟩,p1 θ1 H1 Ev.refl w1 _ (Gs kt)⟩
   | _=>exact p1.elim⟩
def JS (x:D) (h:Hm):Bool:=match x with
 | .ref j=>match h[j]? with
  | some (.lst _)=>true
  | _=>false
 | _=>false
def kJ (f:D->D->Hm->R D) (a b:ME):ME:=fun ρ h=>(a ρ h).bind fun x h1=>if JS x h1 then (b ρ h1).bind fun y h2=>f x y h2 else .bad
theorem Gv {x:D} {h:Hm} (e:JS x h=true):∃ j xs,x=.ref j/\h[j]?=some (.lst xs):=by
 unfold JS at e
 split at e
 ·rename_i j
  split at e
  ·rename_i xs hx
   exact ⟨j,xs,rfl,hx⟩
  ·cases e
 ·cases e
theorem og {G:Gx} {j:Nat} {xs:List D} {v:V} (w:W G θ hm H) (r:bS G θ H (.ref j) v) (e:hm[j]?=some (.lst xs)):∃ a vs,v=.ref a/\θ[j]?=some a/\H a=some (.lst vs)/\ba G θ H xs vs:=by
 obtain ⟨a,ha,rfl⟩:=r
 obtain ⟨vs,hv,rs⟩:=w.obj _ _ _ ha e
 exact ⟨a,vs,rfl,ha,hv,rs⟩
theorem ba.erase {G:Gx}:∀ {xs:List D} {vs:List V} (n:Nat),ba G θ H xs vs->ba G θ H (xs.eraseIdx n) (vs.eraseIdx n)
 | _,_,_,.nil=>.nil
 | _,_,0,.cons _ t=>t
 | _,_,n+1,.cons r t=>.cons r (ba.erase n t)
theorem ba.LD {G:Gx} {d:D} {v:V} (q:bS G θ H d v):∀ {xs:List D} {vs:List V} (n:Nat),ba G θ H xs vs->ba G θ H (xs.set n d) (vs.set n v)
 | _,_,_,.nil=>.nil
 | _,_,0,.cons _ t=>.cons q t
 | _,_,n+1,.cons r t=>.cons r (ba.LD q n t)
theorem W.zt {G:Gx} {j:Nat} {a:Addr} {xs:List D} {vs:List V} (w:W G θ hm H) (ha:θ[j]?=some a) (hl:j < hm.length) (r:ba G θ H xs vs):Ev θ H θ (upd H a (.lst vs))/\W G θ (hm.set j (.lst xs)) (upd H a (.lst vs)):=by
 have hmm:a∈θ:=P0 ha
 have e:Ev θ H θ (upd H a (.lst vs)):=⟨⟨[],by simp⟩,fun b u q=>by
  obtain ⟨h1,h2⟩:=dh q
  have ne:b≠a:=fun z=>by subst z;exact h1 hmm
  rw [dS h1,aD ne]
  exact h2⟩
 exact w.write ha hl ⟨vs,aY,r.ev e⟩
theorem gZ {α:Type} {xs:List α} {i:Nat} {x:α} (h:xs[i]?=some x):i < xs.length:=(PF.mp h).1
theorem DR {G:Gx} {K:PySem.W.Frag} {f:D->D->Hm->R D} {r:V->List V->Hp->VK->Prop} {σ:L2.St} {H:Hp} {Q:VK} (h:lE G E (kJ f ma' mb) σ H Q) (k:∀ θ h H d1 d2 x y,W G θ h H->bS G θ H d1 x->bS G θ H d2 y->aG G (n0 G E) θ H (f d1 d2 h) (KV G Q)->r x [y] H Q) :
  Oo K "list" r (lE G E ma') (HD (lE G E mb) IX) σ H Q:=by
 obtain ⟨θ,h,ρ,w,fr,p⟩:=h
 refine ⟨θ,h,ρ,w,fr,(aG.bind p).mono fun d θ1 h1 H1 _ _ ⟨ev,w1,p1⟩ v r1=>?_⟩
 split at p1
 ·rename_i hl
  obtain ⟨j,xs,rfl,hx⟩:=Gv hl
  obtain ⟨a,vs,rfl,ha,hv,rs⟩:=og w1 r1 hx
  exact ⟨.inl ⟨rfl,_,iw.of hv⟩,θ1,h1,ρ,w1,fr.ev ev,(aG.bind p1).mono fun d2 θ2 h2 H2 _ _ ⟨ev2,w2,p2⟩ y r2=>k θ2 h2 H2 _ d2 _ y w2 (r1.ev ev2) r2 p2⟩
 ·exact p1.elim
theorem pC {apos cpos:Pos} (ho:DE X E ma' o) (ha:DE X E mb e) (hbase:attributeBase o "append" X.env (eval o X.env)=eval o X.env:=by rfl)
  (hfew:((backTo cpos (starEach [e] X.env)).all (fun x=>!x.1) && (backToKw cpos (keywordEach [] X.env)).all (fun x=>x.1.isSome) && decide ([e].length+([]:List Keyword).length+(if ([]:List Keyword).isEmpty then 0 else 1) < 30))=true:=by rfl)
  (hline:(apos.endLine == cpos.line)=true:=by rfl) (hs:starEach [e] X.env=(false,eval e X.env)::starEach [] X.env:=by rfl) (hplain:(backTo cpos (starEach [] X.env)).any (·.1)=false:=by rfl):DE X E (kJ dR ma' mb) (.Call (.Attribute o "append" apos) [e] [] cpos):=by
 simp only [bj] at *
 exact PE.imp (HF PySem.F.plainAttrs_list PySem.F.slot_list_append PySem.F.type_list_append BU ho (lD ha rC hs) hbase hfew hline hs hplain) fun σ H Q q=>DR q fun θ h H d1 d2 x y w r1 r2 p=>by
   unfold dR at p
   split at p
   ·rename_i j
    split at p
    ·rename_i xs hx
     split at p
     ·rename_i hz
      obtain ⟨a,vs,rfl,ha,hv,rs⟩:=og w r1 hx
      have hl:xs.length=vs.length:=P4 rs
      obtain ⟨e1,w1⟩:=w.zt ha (gZ hx) (fY rs (.cons r2 .nil))
      exact ⟨a,vs,y,rfl,rfl,hv,by rw [<- hl,RG];exact RE hz,p _ _ e1 w1 _ Cb⟩
     ·exact p.elim
    ·exact p.elim
   ·exact p.elim
theorem DU {apos cpos:Pos} (ho:DE X E ma' o) (ha:DE X E mb e) (hbase:attributeBase o "pop" X.env (eval o X.env)=eval o X.env:=by rfl)
  (hfew:((backTo cpos (starEach [e] X.env)).all (fun x=>!x.1) && (backToKw cpos (keywordEach [] X.env)).all (fun x=>x.1.isSome) && decide ([e].length+([]:List Keyword).length+(if ([]:List Keyword).isEmpty then 0 else 1) < 30))=true:=by rfl)
  (hline:(apos.endLine == cpos.line)=true:=by rfl) (hs:starEach [e] X.env=(false,eval e X.env)::starEach [] X.env:=by rfl) (hplain:(backTo cpos (starEach [] X.env)).any (·.1)=false:=by rfl):DE X E (kJ o8 ma' mb) (.Call (.Attribute o "pop" apos) [e] [] cpos):=by
 simp only [bj] at *
 exact PE.imp (HF PySem.F.plainAttrs_list PySem.F.slot_list_pop PySem.F.type_list_pop C3 ho (lD ha rC hs) hbase hfew hline hs hplain) fun σ H Q q=>DR q fun θ h H d1 d2 x y w r1 r2 p=>by
   unfold o8 at p
   split at p
   ·rename_i j kk
    split at p
    ·rename_i xs hx
     split at p
     ·rename_i hz
      split at p
      ·rename_i d hd
       obtain ⟨a,vs,rfl,ha,hv,rs⟩:=og w r1 hx
       have hl:xs.length=vs.length:=P4 rs
       obtain ⟨z,ez,rz⟩:=rs.some hd
       obtain ⟨e1,w1⟩:=w.zt ha (gZ hx) (ba.erase kk.toNat rs)
       refine ⟨a,vs,kk,kk.toNat,z,rfl,by rw [bW r2],hv,by omega,by omega,?_,ez,p _ _ e1 w1 _ (rz.ev e1)⟩
       exact PySem.seqIndex_of hz.1 (by omega)
      ·exact p.elim
     ·exact p.elim
    ·exact p.elim
   ·exact p.elim
theorem Ce {G:Gx} {F:XP} {d1 d2 d:D} {x y v:V} {Q:Hp->Prop} (w:W G θ hm H) (r1:bS G θ H d1 x) (r2:bS G θ H d2 y) (rd:bS G θ H d v) (p:aG G F θ H (AJ d1 d2 d hm) (fun _ _ _ H'=>Q H')):HE x y v H Q:=by
 cases d1 with
 | ref j=>
  cases d2 with
  | dat dd=>
   cases dd with
   | int kk=>
    simp only [AJ] at p
    cases hx:hm[j]? with
    | none=>rw [hx] at p;exact p.elim
    | some oo=>
     rw [hx] at p
     cases oo with
     | lst xs=>
      simp only at p
      cases hn:uc xs.length kk with
      | none=>rw [hn] at p;exact p.elim
      | some n=>
       rw [hn] at p
       obtain ⟨a,vs,rfl,ha,hv,rs⟩:=og w r1 hx
       have hl:xs.length=vs.length:=P4 rs
       obtain ⟨e1,w3⟩:=w.zt ha (gZ hx) (ba.LD rd n rs)
       exact ⟨a,vs,kk,n,rfl,bW r2,hv,by rw [<- hl];exact hn,p _ _ e1 w3⟩
     | _=>exact p.elim
   | _=>exact p.elim
  | _=>exact p.elim
 | _=>exact p.elim
theorem A5 {α β:Type} {xs:List α} {ys:List β} (h:xs.length=ys.length):(!xs.isEmpty)=!ys.isEmpty:=by
 cases xs<;>cases ys<;>simp_all
theorem sG {G:Gx} {d:D} {v:V} {b:Bool} (w:W G θ hm H) (r:bS G θ H d v) (e:truth d hm=some b):IV G.K v H b:=by
 unfold truth at e
 split at e
 ·cases e;cases r.1;rfl
 ·cases e;cases r.1;rfl
 ·cases e;cases r.1;rfl
 ·split at e
  ·rename_i hz;cases e;cases r.1;exact ⟨dD hz,rfl⟩
  ·cases e
 ·cases e
  obtain ⟨a,us,rfl,ha,q1,_⟩:=fX r
  exact .inr (.inl ⟨us,gx.of (aA _ _ _ _ ha),A5 q1.length.symm⟩)
 ·cases e
  obtain ⟨a,us,rfl,ha,q1,_⟩:=gR r
  exact .inl ⟨us,iw.of (aA _ _ _ _ ha),A5 q1.length.symm⟩
 ·split at e
  ·rename_i xs hx
   cases e
   obtain ⟨a,vs,rfl,ha,hv,rs⟩:=og w r hx
   refine .inl ⟨vs,iw.of hv,?_⟩
   cases rs<;>rfl
  ·cases e
 ·cases e
theorem eL (h:DE X E m e) (he:∀ whole,isTrue e X.env whole=(do let v <- whole;standAt e.pos;holding [v] (truthy v)):=by intro _;rfl):DT X E (cM m) e:=by
 simp only [bj,kH] at *
 exact PT.imp (CU h he) fun σ H Q ⟨θ,h,ρ,w,fr,p⟩=>⟨θ,h,ρ,w,fr,(aG.bind p).mono fun d θ1 h1 H1 _ _ ⟨ev,w1,p1⟩ v r=>by
   split at p1
   ·rename_i b hb
    exact ⟨b,sG w1 r hb,p1 θ1 H1 Ev.refl w1⟩
   ·exact p1.elim⟩
theorem DV (hr:cg k X.A) {pins:List (Addr×Obj)} {s:Shared} {σ:L2.St} {H:Hp} {x y:V} {v u:Value} {Q:VK} {θ:List Addr} {h:Hm} {d1 d2:D} {b:Bool} (I:Inv X pins σ H s) (rx:RelV x v) (ry:RelV y u) (w:W X.G θ h H) (r1:bS X.G θ H d1 x) (r2:bS X.G θ H d2 y) (hb:nP d1 d2 h=some b) :
  (Q (.bl b) H->wpAny (model X.prog X.w) X.A (compareOp .In v u) (EP X pins σ Q) X.xe s)/\(Q (.bl !b) H->wpAny (model X.prog X.w) X.A (compareOp .NotIn v u) (EP X pins σ Q) X.xe s):=by
 unfold nP at hb
 split at hb
 ·split at hb
  ·cases hb
   exact ⟨fun q=>BM pins s σ H x y v u Q I rx ry ⟨_,_,(dE r1).1,(dE r2).1,q⟩,fun q=>vS pins s σ H x y v u Q I rx ry ⟨_,_,(dE r1).1,(dE r2).1,q⟩⟩
  ·cases hb
 ·split at hb
  ·rename_i d ds e1 e2
   obtain ⟨⟨as,z1⟩,s1⟩:=fj I w 3 r1 rx e1
   obtain ⟨⟨bs,z2⟩,s2⟩:=fj I w 3 r2 ry e2
   exact DJ hr (.inl rfl) I z1 z2 s1 (by simpa [bY] using s2) hb
  ·rename_i d ds e1 e2
   obtain ⟨⟨as,z1⟩,s1⟩:=fj I w 3 r1 rx e1
   obtain ⟨⟨bs,z2⟩,s2⟩:=fj I w 3 r2 ry e2
   exact DJ hr (.inr rfl) I z1 z2 s1 (by simpa [bY] using s2) hb
  ·cases hb
end
section
variable {X:Cx} {E:XK} {k:Nat} {θ:List Addr} {hm:Hm} {H M:Hp} {pins:List (Addr×Obj)} {σ:L2.St} {s:Shared}
theorem jM {x:Str}:∀ {ks:List (Key×V)} {kvs:List (PyData×PyData)},aP ks=some kvs->nO (.str x) kvs=(ks.any fun kv=>decide (kv.1=Sum.inr x))
 | [],kvs,e=>by cases e;rfl
 | (q,v)::ks,kvs,e=>by
  unfold aP at e
  cases e1:fG v with
  | none=>rw [e1] at e;cases e
  | some d=>
   cases e2:aP ks with
   | none=>rw [e1,e2] at e;cases e
   | some ds=>
    rw [e1,e2] at e
    cases e
    have ih:=jM (x:=x) e2
    unfold nO at ih ⊢
    rw [R3,R3,ih]
    congr 1
    cases q with
    | inl i=>rw [key_lr'];simp [ui,PyData.eqv]
    | inr y=>
     simp only [ui,PyData.eqv]
     by_cases e:y=x
     ·subst e;simp
     ·have:¬ (Sum.inr y:Key)=Sum.inr x:=fun z=>e (Sum.inr.inj z)
      rw [PR this]
      simpa using e
where
 key_lr' {a:Int} {b:Str}:decide ((Sum.inl a:Key)=Sum.inr b)=false:=PR (fun q=>nomatch q)
theorem wC (q:Key) (x:Str):PyData.eqv (ui q) (.str x)=decide (q=Sum.inr x):=by
 cases q with
 | inl i=>rw [PR (fun z=>nomatch z)];simp [ui,PyData.eqv]
 | inr y=>
  simp only [ui,PyData.eqv]
  by_cases e:y=x
  ·subst e;simp
  ·rw [PR (fun z=>e (Sum.inr.inj z))];simpa using e
theorem sH {x:Str} {u:V} {dv:PyData} (hv:fG u=some dv):∀ {ks:List (Key×V)} {kvs:List (PyData×PyData)},aP ks=some kvs ->
  aP (ks.map fun kv=>if kv.1=Sum.inr x then (kv.1,u) else kv)=some (kvs.map fun p=>if PyData.eqv p.1 (.str x) then (p.1,dv) else p)
 | [],kvs,e=>by cases e;rfl
 | (q,v)::ks,kvs,e=>by
  unfold aP at e
  cases e1:fG v with
  | none=>rw [e1] at e;cases e
  | some d=>
   cases e2:aP ks with
   | none=>rw [e1,e2] at e;cases e
   | some ds=>
    rw [e1,e2] at e
    cases e
    have ih:=sH (x:=x) hv e2
    rw [P9,P9,wC]
    by_cases hq:q=Sum.inr x
    ·simp only [hq,decide_true,Qe]
     unfold aP
     rw [hv,ih]
    ·simp only [hq,TL,Qm,PB]
     unfold aP
     rw [e1,ih]
theorem qa {x:Str} {u:V} {dv:PyData} (hv:fG u=some dv):∀ {ks:List (Key×V)} {kvs:List (PyData×PyData)},aP ks=some kvs->aP (ks++[(Sum.inr x,u)])=some (kvs++[(.str x,dv)])
 | [],kvs,e=>by cases e;simp [aP,hv,ui]
 | (q,v)::ks,kvs,e=>by
  unfold aP at e
  cases e1:fG v with
  | none=>rw [e1] at e;cases e
  | some d=>
   cases e2:aP ks with
   | none=>rw [e1,e2] at e;cases e
   | some ds=>
    rw [e1,e2] at e
    cases e
    have ih:=qa (x:=x) hv e2
    rw [RP]
    unfold aP
    rw [e1,ih]
    rfl
theorem m9 {x:Str} {u:V} {dv:PyData} (hv:fG u=some dv) {ks:List (Key×V)} {kvs:List (PyData×PyData)} (e:aP ks=some kvs):aP (putK ks (Sum.inr x) u)=some (dput kvs (.str x) dv):=by
 unfold putK dput
 rw [jM e]
 split
 ·exact sH hv e
 ·exact qa hv e
theorem jN:∀ {ks:List (Key×V)} {kvs:List (PyData×PyData)},aP ks=some kvs->ks.length=kvs.length
 | [],kvs,e=>by cases e;rfl
 | (q,v)::ks,kvs,e=>by
  unfold aP at e
  cases e1:fG v with
  | none=>rw [e1] at e;cases e
  | some d=>
   cases e2:aP ks with
   | none=>rw [e1,e2] at e;cases e
   | some ds=>rw [e1,e2] at e;cases e;simp [jN e2]
theorem nc {x:Str}:∀ {ks:List (Key×V)} {kvs:List (PyData×PyData)} {d:PyData},aP ks=some kvs->rO kvs (.str x)=some d->∃ u,oZ ks (Sum.inr x)=some u/\fG u=some d
 | [],kvs,d,e,g=>by cases e;simp [rO] at g
 | (q,v)::ks,kvs,d,e,g=>by
  unfold aP at e
  cases e1:fG v with
  | none=>rw [e1] at e;cases e
  | some d'=>
   cases e2:aP ks with
   | none=>rw [e1,e2] at e;cases e
   | some ds=>
    rw [e1,e2] at e
    cases e
    unfold rO at g
    rw [QZ,wC] at g
    by_cases hq:q=Sum.inr x
    ·simp only [hq,decide_true] at g
     simp at g
     subst g
     exact ⟨v,nK (p:=(q,v)) hq,e1⟩
    ·simp only [hq,TL] at g
     obtain ⟨u,h1,h2⟩:=nc (x:=x) e2 g
     exact ⟨u,by rw [kz (p:=(q,v)) hq];exact h1,h2⟩
theorem xM {u:V} {d:PyData} (h:fG u=some d):Rep M d u:=by
 cases u with
 | non=>cases h;rfl
 | bl b=>cases h;rfl
 | int i=>cases h;rfl
 | str x=>cases h;rfl
 | _=>cases h
theorem sI {u:V} {d:PyData} (f:kF d=true) (h:Rep M d u):fG u=some d:=by
 cases d with
 | none=>cases h;rfl
 | bool b=>cases h;rfl
 | int i=>cases h;rfl
 | str x=>cases h;rfl
 | _=>simp [kF] at f
theorem jO {q:PyData} (tq:av q=true):∀ {kvs:List (PyData×PyData)} {xs:List (PyData×Addr×Value)},Paired (nZ M) kvs xs->nO q kvs=(atKey xs q).isSome
 | _,_,.nil=>rfl
 | _,_,.cons (a:=p) (b:=x) h t=>by
  have ih:=jO tq t
  unfold nO at ih ⊢
  unfold atKey at ih ⊢
  rw [R3,QZ,ih]
  by_cases e:x.1=q
  ·rw [PN e,h.1,e,aS (aT tq)];rfl
  ·have:PyData.eqv p.1 q=false:=aQ (aT h.2.1) (aT tq) (by rw [h.1];exact e)
   rw [this,PR e]
   simp
theorem A6 (I:Inv X pins σ H s) {d:PyData} {a:Addr} (sm:bD M H) (t:av d=true) (dp:d.depth<=8) (so:bY d=true) (r:Rep M d (.ref a)):Jy s.heap d a:=by
 obtain ⟨as,z⟩:=Rep.reads I (r.same sm) rfl
 exact ⟨t,dp,so,as,z⟩
theorem wD (I:Inv X pins σ H s) (sm:bD M H):∀ {kvs:List (PyData×PyData)} {xs:List (PyData×Addr×Value)},Paired (nZ M) kvs xs->∀ x∈xs,Jy s.heap x.1 x.2.1
 | _,_,.nil,x,hx=>by cases hx
 | _,_,.cons h t,x,hx=>by
  rcases Pn.mp hx with rfl | hx
  ·obtain ⟨e,t1,t2,t3,t4,_⟩:=h
   rw [<- e]
   exact A6 I sm t1 t2 t3 t4
  ·exact wD I sm t x hx
theorem DX (I:Inv X pins σ H s) {xs:List (PyData×Addr×Value)} {kvs:List (PyData×PyData)} {a:Addr} (sm:bD M H) (ha:H a=some (dO X.prog X.w xs a)) (r:Paired (nZ M) kvs xs) :
  kvs.length<=sizeLine/\(a == sysModules)=false/\s.heap.DictOfH (eK X.prog X.w) a xs:=by
 obtain ⟨⟨h1,h2,o,es,ep,h3,h4,h5,h6,h7⟩,_⟩:=I.hok a _ ha
 exact ⟨by rw [show kvs.length=xs.length from P4 r];exact h1,h2,o,es,ep,h3,h4,h5,h6,wD I sm r,h7⟩
theorem JT {xs:List (PyData×Addr×Value)} {a:Addr} (ha:H a=some (dO X.prog X.w xs a)):KA (H a):=by rw [ha];exact True.intro
theorem xN {q dv:PyData} {u:Value} {v:V} (tq:av q=true) (rv:RelV v u) (rd:Rep M dv v) (sd:bY dv=true):∀ {kvs:List (PyData×PyData)} {xs:List (PyData×Addr×Value)},Paired (nZ M) kvs xs ->
  Paired (nZ M) (kvs.map fun p=>if PyData.eqv p.1 q then (p.1,dv) else p) (xs.map (putAt q u))
 | _,_,.nil=>.nil
 | _,_,.cons (a:=p) (b:=x) h t=>by
  rw [P9,P9]
  refine .cons ?_ (xN tq rv rd sd t)
  unfold putAt
  by_cases e:x.1=q
  ·have e2:PyData.eqv p.1 q=true:=by rw [h.1,e];exact aS (aT tq)
   rw [if_pos e,if_pos e2]
   exact ⟨h.1,h.2.1,h.2.2.1,h.2.2.2.1,h.2.2.2.2.1,v,rv,rd,sd⟩
  ·have e2:PyData.eqv p.1 q=false:=aQ (aT h.2.1) (aT tq) (by rw [h.1];exact e)
   rw [if_neg e,e2,if_neg (by simp)]
   exact h
theorem xO {q dv:PyData} {b:Addr} {u:Value} {v:V} (tq:av q=true) (dq:q.depth<=8) (sq:bY q=true) (rq:Rep M q (.ref b)) (rv:RelV v u) (rd:Rep M dv v) (sd:bY dv=true) {kvs:List (PyData×PyData)} {xs:List (PyData×Addr×Value)} (r:Paired (nZ M) kvs xs) :
  Paired (nZ M) (dput kvs q dv) (storedH xs q b u):=by
 unfold dput storedH
 rw [jO tq r]
 split
 ·exact xN tq rv rd sd r
 ·exact fY r (.cons ⟨rfl,tq,dq,sq,rq,v,rv,rd,sd⟩ .nil)
theorem xP (kvs:List (PyData×PyData)) (q v:PyData):(dput kvs q v).length<=kvs.length+1:=by
 unfold dput
 split
 ·simp
 ·simp
theorem W.DY {G:Gx} {j:Nat} {a:Addr} {o:HO} {t:Bool} {kvs:List (PyData×PyData)} (w:W G θ hm H) (ha:θ[j]?=some a) (hl:j < hm.length) (r:fI G.P G.w (view θ H) (upd H a o) a t kvs):Ev θ H θ (upd H a o)/\W G θ (hm.set j (.iu t kvs)) (upd H a o):=by
 have hmm:a∈θ:=P0 ha
 have e:Ev θ H θ (upd H a o):=⟨⟨[],by simp⟩,fun b u q=>by
  obtain ⟨h1,h2⟩:=dh q
  have ne:b≠a:=fun z=>by subst z;exact h1 hmm
  rw [dS h1,aD ne]
  exact h2⟩
 exact w.write ha hl (fI.same e.same r fun _ q=>q)
def LF (G:Gx) (E:XK):V->V->V->Hp->(Hp->Prop)->Prop:=fun x y v H Q=>∃ θ h d1 d2 d,W G θ h H/\bS G θ H d1 x/\bS G θ H d2 y/\bS G θ H d v/\aG G (n0 G E) θ H (wk d1 d2 d h) (fun _ _ _ H'=>Q H')
theorem Gw (hr:cg k X.A):ID X (LF X.G E):=by
 intro pins s σ H x y v xv yv u Q I rx ry rv ⟨θ,h,d1,d2,d,w,r1,r2,rd,p⟩
 unfold wk at p
 split at p
 ·rename_i j
  split at p
  ·rename_i t kvs hx
   unfold HM at p
   split at p
   ·rename_i q dv
    split at p
    ·rename_i hc
     simp only [Pl,Py,QK] at hc
     obtain ⟨a,ha,rfl⟩:=r1
     cases rx
     rcases w.obj _ _ _ ha hx with ⟨rfl,ks,h1,h2,h3⟩ | ⟨rfl,xs,h1,h2⟩
     ·have hk:∃ z,q=.str z:=by
       have:=hc.1.1
       simp only [keyOk,PB,Qm] at this
       cases q<;>first | exact ⟨_,rfl⟩ | simp [fN] at this
      obtain ⟨z,rfl⟩:=hk
      have fd:kF dv=true:=by rcases hc.1.2 with z | z;cases z;exact z
      have hv:=sI fd rd.1
      obtain ⟨e2,s2⟩:=dE r2
      subst e2
      have so:∀ p∈dput kvs (.str z) dv,bY p.1=true/\bY p.2=true:=fun p hp=>by
       unfold dput at hp
       split at hp
       ·obtain ⟨p0,hp0,e0⟩:=P8.mp hp
        split at e0
        ·subst e0;exact ⟨(h3 p0 hp0).1,rd.2⟩
        ·subst e0;exact h3 p0 hp0
       ·rcases PL.mp hp with hp | hp
        ·exact h3 p hp
        ·simp at hp;subst hp;exact ⟨by simpa [bY] using s2,rd.2⟩
      obtain ⟨e1,w1⟩:=w.DY (o:=.dK (putK ks (Sum.inr z) v)) (t:=false) (kvs:=dput kvs (.str z) dv) ha (gZ hx) (.inl ⟨rfl,_,aY,m9 hv h2,so⟩)
      exact BY (by have:=hr.units;omega) I (F6.k (k:=Sum.inr z) h1 (by rw [jN h2,RG];exact hc.2)) ry rv fun s' I'=>⟨_,I',p _ _ e1 w1⟩
     ·have hk:=hc.1.1
      simp only [keyOk,Qe,Pl,Py] at hk
      obtain ⟨b,vs,rfl,hb⟩:∃ b vs,y=.ref b/\view θ H b=some (.tup vs):=by
       cases q with
       | tuple ds=>obtain ⟨b,vs,e,hb,_⟩:=r2.1;exact ⟨b,vs,e,hb⟩
       | _=>simp [fM] at hk
      cases ry
      obtain ⟨hz,hsys,dd⟩:=DX I (aA θ H) h1 h2
      have hz2:xs.length<=sizeLine:=by rw [<- show kvs.length=xs.length from P4 h2];exact hz
      have kr:=xO (b:=b) (u:=u) hk.1.2 hk.2 r2.2 r2.1 rv rd.1 rd.2 h2
      refine wpAny_setItem_heap (knd:=eK X.prog X.w) (hsz:=hz2) (by show X.A.units+1+20 < cLine;have:=hr.units;omega) (A6 I (aA θ H) hk.1.2 hk.2 r2.2 r2.1) dd fun h' dd' hs=>?_
      obtain ⟨o,es,ep,g1,g2,g3,g4,_,g5⟩:=dd'
      have hl2:(storedH xs q b u).length<=sizeLine:=by
       rw [<- show (dput kvs q dv).length=_ from P4 kr]
       have:=xP kvs q dv
       rw [RG]
       omega
      refine ⟨_,qN (t':=_) I (JT h1) hs ⟨o,g1⟩ (HN (xs:=storedH xs q b u) hl2 hsys g1 g2 g3 g4 g5),?_⟩
      obtain ⟨e1,w1⟩:=w.DY (o:=dO X.prog X.w (storedH xs q b u) a) (t:=true) (kvs:=dput kvs q dv) ha (gZ hx) (.inr ⟨rfl,_,aY,kr⟩)
      exact p _ _ e1 w1
    ·exact p.elim
   ·exact p.elim
  ·exact set_list pins s σ H x y v xv yv u Q I rx ry rv (Ce w r1 r2 rd p)
 ·exact p.elim
theorem DZ {ma' mb:ME} {o i:Expr} {pos:Pos} (hr:cg k X.A) (ho:DE X E ma' o) (hi:DE X E mb i) (ha:∀ v,assign (.Subscript o i pos) X.env v=(do
   let ov <- holding [v] (eval o X.env)
   let iv <- holding [v,ov] (eval i X.env)
   standAt pos
   holding [v,ov,iv] (setItem ov iv v)
   release [v,ov,iv] []):=by intro _;rfl):DG X E (xk ma' mb) (.Subscript o i pos):=by
 simp only [bj,mE] at *
 exact fun pins s σ H v u Q I r ⟨θ,h,ρ,d,w,fr,rd,p⟩=>IF ho hi (Gw (E:=E) hr) ha pins s σ H v u Q I r ⟨θ,h,ρ,w,fr,(aG.bind p).mono fun d1 θ1 h1 H1 _ _ ⟨ev,w1,p1⟩ x r1=>
   ⟨θ1,h1,ρ,w1,fr.ev ev,(aG.bind p1).mono fun d2 θ2 h2 H2 _ _ ⟨ev2,w2,p2⟩ y r2=>
    ⟨θ2,h2,d1,d2,d,w2,r1.ev ev2,r2,rd.ev (ev.trans ev2),(aG.bind p2).mono fun _ θ3 h3 H3 _ _ ⟨ev3,w3,p3⟩=>p3 θ3 H3 Ev.refl w3 σ (((fr.ev ev).ev ev2).ev ev3)⟩⟩⟩
end
section
variable {X:Cx} {E:XK} {k:Nat} {θ:List Addr} {hm:Hm} {H M:Hp} {pins:List (Addr×Obj)} {σ:L2.St} {s:Shared} {pos:Pos} {e:Expr}
theorem xQ {G:Gx} {d:D} {v:V} {t:Bool} {kvs:List (PyData×PyData)} (w:W G θ hm H) (r:bS G θ H d v) (e:gI d hm=some (t,kvs)):∃ a,v=.ref a/\fI G.P G.w (view θ H) H a t kvs:=by
 unfold gI at e
 split at e
 ·cases e
  obtain ⟨a,h1,h2⟩:=r
  exact ⟨a,h1,h2.same (bD.refl _) fun o q=>aA _ _ _ _ q⟩
 ·split at e
  ·rename_i hx
   cases e
   obtain ⟨a,ha,h1⟩:=r
   exact ⟨a,h1,w.obj _ _ _ ha hx⟩
  ·cases e
 ·cases e
theorem Gy (hr:cg k X.A) {x:V} {v:Value} {Q:VK} {h:Hm} {d1:D} {b t:Bool} {kvs:List (PyData×PyData)} {a:Addr} (I:Inv X pins σ H s) (rx:RelV x v) (w:W X.G θ h H) (r1:bS X.G θ H d1 x) (dc:fI X.prog X.w (view θ H) H a t kvs) (hb:we d1 kvs t=some b) :
  (Q (.bl b) H->wpAny (model X.prog X.w) X.A (compareOp .In v (.ref a)) (EP X pins σ Q) X.xe s)/\(Q (.bl !b) H->wpAny (model X.prog X.w) X.A (compareOp .NotIn v (.ref a)) (EP X pins σ Q) X.xe s):=by
 unfold we at hb
 split at hb
 ·rename_i d
  split at hb
  ·rename_i ok
   cases hb
   rcases dc with ⟨rfl,ks,h1,h2,h3⟩ | ⟨rfl,xs,h1,h2⟩
   ·simp only [keyOk,PB,Qm] at ok
    cases d with
    | str z=>
     cases (dE r1).1
     exact ⟨fun q=>Nq (by have:=hr.units;omega) I (ug.k (k:=Sum.inr z) h1) rx fun s' I'=>⟨.bl _,H,I',rfl,by rw [<- nL,<- jM h2];exact q⟩,
      fun q=>F7 (by have:=hr.units;omega) I (ug.k (k:=Sum.inr z) h1) rx fun s' I'=>⟨.bl _,H,I',rfl,by rw [<- nL,<- jM h2];exact q⟩⟩
    | _=>simp [fN] at ok
   ·simp only [keyOk,Qe,Pl,Py] at ok
    cases d with
    | tuple ds=>
     obtain ⟨c,vs,rfl,hc,_⟩:=id r1.1
     cases rx
     obtain ⟨hz,hsys,dd⟩:=DX I (aA θ H) h1 h2
     have room:(eK X.prog X.w).room X.A.in1:=by show X.A.units+1+20 < cLine;have:=hr.units;omega
     have tk:=A6 I (aA θ H) ok.1.2 ok.2 r1.2 r1.1
     exact ⟨fun q=>wpAny_in_heap (knd:=eK X.prog X.w) room tk hsys dd ⟨.bl _,H,I.tok _,rfl,by rw [<- jO ok.1.2 h2];exact q⟩,
      fun q=>PyProof.Rows.wpAny_notIn_heap (knd:=eK X.prog X.w) room tk hsys dd ⟨.bl _,H,I.tok _,rfl,by rw [<- jO ok.1.2 h2];exact q⟩⟩
    | _=>simp [fM] at ok
  ·cases hb
 ·cases hb
theorem A7 (hr:cg k X.A) {x y:V} {v u:Value} {Q:VK} {h:Hm} {d1 d2:D} {b:Bool} (I:Inv X pins σ H s) (rx:RelV x v) (ry:RelV y u) (w:W X.G θ h H) (r1:bS X.G θ H d1 x) (r2:bS X.G θ H d2 y) (hb:findIn d1 d2 h=some b) :
  (Q (.bl b) H->wpAny (model X.prog X.w) X.A (compareOp .In v u) (EP X pins σ Q) X.xe s)/\(Q (.bl !b) H->wpAny (model X.prog X.w) X.A (compareOp .NotIn v u) (EP X pins σ Q) X.xe s):=by
 unfold findIn at hb
 split at hb
 ·rename_i p hp
  obtain ⟨t,kvs⟩:=p
  obtain ⟨a,rfl,dc⟩:=xQ w r2 hp
  cases ry
  exact Gy hr I rx w r1 dc hb
 ·exact DV hr I rx ry w r1 r2 hb
theorem ng (hr:cg k X.A):n5 X E (compareOp .In) nQ:=by
 intro pins s σ H x y v u Q I rx ry ⟨θ,h,d1,d2,w,r1,r2,p⟩
 unfold nQ at p
 split at p
 ·rename_i b hb
  exact (A7 hr I rx ry w r1 r2 hb).1 (p.kl w (cz _))
 ·exact p.elim
theorem D0 (hr:cg k X.A):n5 X E (compareOp .NotIn) wg:=by
 intro pins s σ H x y v u Q I rx ry ⟨θ,h,d1,d2,w,r1,r2,p⟩
 unfold wg at p
 split at p
 ·rename_i b hb
  exact (A7 hr I rx ry w r1 r2 hb).2 (p.kl w (cz _))
 ·exact p.elim
theorem D1 {kvs:List (PyData×PyData)} {q d:PyData} (h:∀ p∈kvs,bY p.1=true/\bY p.2=true) (e:rO kvs q=some d):bY d=true:=by
 unfold rO at e
 obtain ⟨p,hp,rfl⟩:=Qh.mp e
 exact (h p (List.mem_of_find?_eq_some hp)).2
theorem bf (hr:cg k X.A):KH X (Jz X.G E dQ):=by
 intro value slice pins s σ H x y v u Q I rx ry ⟨θ,h,d1,d2,w,r1,r2,p⟩ hs
 unfold dQ at p
 split at p
 ·rename_i pp hp
  obtain ⟨t,kvs⟩:=pp
  split at p
  ·rename_i z
   split at p
   ·exact p.elim
   ·rename_i ht
    split at p
    ·rename_i d hd
     obtain ⟨a,rfl,dc⟩:=xQ w r1 hp
     cases rx
     rcases dc with ⟨_,ks,h1,h2,h3⟩ | ⟨z1,_⟩
     ·obtain ⟨e2,s2⟩:=dE r2
      subst e2
      obtain ⟨uu,g1,g2⟩:=nc h2 hd
      have T:s.TypeIs (.ref a) "dict" := by
       obtain ⟨_,_,vs,_,o,_,_,e,ex,_⟩:=I.hok a _ h1
       exact ⟨o,e,ex.1⟩
      exact PyProof.Rows.tail_any (ops:=[.ref a,u]) T PySem.F.slot_dict_getitem.lookup (BX (by have:=hr.units;omega) I (by have:=ug.k (k:=Sum.inr z) h1;rw [g1] at this;exact this) ry fun w' s' I' rw'=>⟨uu,H,I',rw',p.kl w ⟨xM g2,D1 h3 hd⟩⟩) hs
     ·exact absurd z1 ht
    ·exact p.elim
  ·exact p.elim
 ·exact DM value slice pins s σ H x y v u Q I rx ry ⟨θ,h,d1,d2,w,r1,r2,p⟩ hs
end
theorem bS.take {G:Gx} {θ:List Addr} {H:Hp} {n:Nat} {d:D} {v:V} (r:bS G θ H d v) (hb:d.below n=true):bS G (θ.take n) H d v:=by
 have sm:bD (view θ H) (view (θ.take n) H):=fun a o q=>by
  obtain ⟨h1,h2⟩:=dh q
  rw [dS (fun z=>h1 (Sa z))]
  exact h2
 cases d with
 | dat d=>exact ⟨r.1.same sm,r.2⟩
 | ref i=>
  obtain ⟨a,h1,h2⟩:=r
  simp only [D.below,Py] at hb
  exact ⟨a,by rw [RA hb];exact h1,h2⟩
 | iu t kvs=>obtain ⟨a,h1,h2⟩:=r;exact ⟨a,h1,h2.same sm fun o q=>sm _ _ q⟩
 | set xs=>exact r
 | fn n=>exact r
 | scr ns=>obtain ⟨a,h1,h2⟩:=r;exact ⟨a,h1,sm.seq h2⟩
 | ktup xs=>exact r
 | rpr x=>exact r
 | exc x=>obtain ⟨a,c,h1,h2,h3⟩:=r;exact ⟨a,c,h1,sm _ _ h2,h3⟩
theorem ba.take {G:Gx} {θ:List Addr} {H:Hp} {n:Nat}:∀ {ds:List D} {vs:List V},ba G θ H ds vs->ds.all (D.below n)=true->ba G (θ.take n) H ds vs
 | _,_,.nil,_=>.nil
 | _,_,.cons r t,h=>by simp only [Tg,Pl] at h;exact .cons (r.take h.1) (ba.take t h.2)
theorem W.take {G:Gx} {θ:List Addr} {H:Hp} {h:Hm} {n:Nat} (w:W G θ h H) (hb:(h.take n).all (MO.below n)=true):W G (θ.take n) (h.take n) H:=by
 have sm:bD (view θ H) (view (θ.take n) H):=fun a o q=>by
  obtain ⟨h1,h2⟩:=dh q
  rw [dS (fun z=>h1 (Sa z))]
  exact h2
 refine ⟨by simp [w.len],w.nd.sublist (Tw _ _),fun i a o h1 h2=>?_⟩
 have hi:i < n:=by
  have:=gZ h1
  simp at this
  omega
 have mo:=PH.mp hb o (P0 h2)
 rw [RA hi] at h1 h2
 have r:=w.obj i a o h1 h2
 cases o with
 | lst xs=>obtain ⟨vs,q1,q2⟩:=r;exact ⟨vs,q1,q2.take mo⟩
 | iu t kvs=>exact fI.same sm r fun _ q=>q
 | ins=>exact r.elim
 | tab P q=>obtain ⟨rfl,x⟩:=r;exact ⟨rfl,x.same sm fun _ q=>q⟩
theorem Ev.take {θ θ':List Addr} {H H':Hp} (e:Ev θ H θ' H') {n:Nat} (hn:n=θ.length):Ev θ H (θ'.take n) H':=by
 obtain ⟨ext,rfl⟩:=e.pre
 have:(θ++ext).take n=θ:=by rw [hn];simp
 rw [this]
 refine ⟨⟨[],by simp⟩,fun a o q=>?_⟩
 obtain ⟨h1,h2⟩:=dh (e.same a o q)
 rw [dS (fun z=>h1 (Qy _ z))]
 exact h2
theorem aG.gq {G:Gx} {E:XK} {θ:List Addr} {H:Hp} {h:Hm} {F:Fn} {ds:List D} {Q:VK} (w:W G θ h H) (p:aG G (n0 G E) θ H (gq F ds h) (KV G Q)):aG G (n0 G E) θ H (F ds h) (KV G Q):=by
 unfold Ml.gq at p
 cases e:F ds h with
 | bad=>rw [e] at p;exact p
 | ok d h'=>
  rw [e] at p
  simp only at p
  split at p
  ·rename_i hc
   simp only [Pl,Py] at hc
   intro θ' H' ev w' v r
   have w2:=w'.take hc.1.2
   have ev2:=ev.take (n:=h.length) w.len.symm
   exact p _ _ ev2 w2 v (r.take hc.1.1)
  ·exact p.elim
 | exc x h'=>
  rw [e] at p
  simp only at p
  split at p
  ·rename_i hc
   simp only [Pl,Py] at hc
   intro θ' H' ev w' cls da xr
   have w2:=w'.take hc.1
   have ev2:=ev.take (n:=h.length) w.len.symm
   exact p _ _ ev2 w2 cls da xr
  ·exact p.elim
theorem bg.gq {P:Program} {w:World} {K:PySem.W.Frag} {mg:Str->Option Value} {base:Heap} {x:Str} {ps:List Str} {k:Nat} {F:Fn} (h:bg P w K mg base x ps k F):bg P w K mg base x ps k (Ml.gq F):=by
 obtain ⟨⟨f,fd,h1,h2,h3,h4⟩,ar⟩:=h
 refine ⟨⟨f,fd,h1,h2,h3,h4.imp fun vs H Q E ⟨θ,hm,ds,w,r,p⟩=>⟨θ,hm,ds,w,r,p.gq w⟩⟩,fun ds hm l=>?_⟩
 unfold Ml.gq
 rw [ar ds hm l]
end Ml
namespace L2
open PySem PySem.Spec
section
variable {X:Cx} {a b:Expr} {rest:List Expr} {ta tb:TE} {pos:Pos}
theorem JU {r:V->Hp->(Bool->Hp->Prop)->Prop} (ht:II X r) (ha:PE X a ta) (hb:PE X (.BoolOp .Or (b::rest) pos) tb):PE X (.BoolOp .Or (a::b::rest) pos) (fun σ H Q=>ta σ H fun x H1=>r x H1 fun c H2=>H2=H1/\if c=true then Q x H1 else tb σ H1 Q):=by
 intro pins s σ H Q I h
 refine PyProof.Rows.BoolOp_or (bV (ha pins s σ H _ I h) fun v s1 ⟨x,H1,I1,r1,q1⟩=>?_)
 refine bV (ht pins s1 σ H1 x v _ I1 r1 q1) fun c s2 ⟨H2,I2,e,q2⟩=>?_
 subst e
 cases c with
 | false=>exact hb pins s2 σ H2 Q I2 q2
 | true=>exact ⟨x,H2,I2,r1,q2⟩
theorem Gz {r:V->Hp->(Bool->Hp->Prop)->Prop} (ht:II X r) (ha:PE X a ta) (hb:PE X (.BoolOp .And (b::rest) pos) tb):PE X (.BoolOp .And (a::b::rest) pos) (fun σ H Q=>ta σ H fun x H1=>r x H1 fun c H2=>H2=H1/\if c=true then tb σ H1 Q else Q x H1):=by
 intro pins s σ H Q I h
 refine PyProof.Rows.BoolOp_and (bV (ha pins s σ H _ I h) fun v s1 ⟨x,H1,I1,r1,q1⟩=>?_)
 refine bV (ht pins s1 σ H1 x v _ I1 r1 q1) fun c s2 ⟨H2,I2,e,q2⟩=>?_
 subst e
 cases c with
 | true=>exact hb pins s2 σ H2 Q I2 q2
 | false=>exact ⟨x,H2,I2,r1,q2⟩
end
end L2
namespace Ml
open PySem PySem.Spec L2
section
variable {X:Cx} {E:XK} {m a b c:ME} {t u:MT} {e e1 e2 e3:Expr} {es:List Expr} {ma:MA} {pos:Pos} {i:Nat} {x:Str}
def Cf (a b:ME):ME:=fun ρ h=>(a ρ h).bind fun x h1=>match truth x h1 with
 | some c=>if c then .ok x h1 else b ρ h1
 | none=>.bad
def kb (a b:ME):ME:=fun ρ h=>(a ρ h).bind fun x h1=>match truth x h1 with
 | some c=>if c then b ρ h1 else .ok x h1
 | none=>.bad
theorem wF (ha:DE X E a e1) (hb:DE X E b (.BoolOp .Or (e2::es) pos)):DE X E (Cf a b) (.BoolOp .Or (e1::e2::es) pos):=by
 simp only [bj] at *
 exact PE.imp (JU yY ha hb) fun σ H Q ⟨θ,h,ρ,w,fr,p⟩=>⟨θ,h,ρ,w,fr,(aG.bind p).mono fun d θ1 h1 H1 _ _ ⟨ev,w1,p1⟩ v r=>by
   split at p1
   ·rename_i b hb
    refine ⟨b,sG w1 r hb,rfl,?_⟩
    cases b with
    | true=>exact p1 θ1 H1 Ev.refl w1 v r
    | false=>exact ⟨θ1,h1,ρ,w1,fr.ev ev,p1⟩
   ·exact p1.elim⟩
theorem fZ (ha:DE X E a e1) (hb:DE X E b (.BoolOp .And (e2::es) pos)):DE X E (kb a b) (.BoolOp .And (e1::e2::es) pos):=by
 simp only [bj] at *
 exact PE.imp (Gz yY ha hb) fun σ H Q ⟨θ,h,ρ,w,fr,p⟩=>⟨θ,h,ρ,w,fr,(aG.bind p).mono fun d θ1 h1 H1 _ _ ⟨ev,w1,p1⟩ v r=>by
   split at p1
   ·rename_i b hb
    refine ⟨b,sG w1 r hb,rfl,?_⟩
    cases b with
    | false=>exact p1 θ1 H1 Ev.refl w1 v r
    | true=>exact ⟨θ1,h1,ρ,w1,fr.ev ev,p1⟩
   ·exact p1.elim⟩
def nh (f g:D->D->Hm->R D) (a b c:ME):ME:=fun ρ h=>(a ρ h).bind fun x h1=>(b ρ h1).bind fun y h2=>(f x y h2).bind fun z h3=>match z with
 | .dat (.bool k)=>if k then (c ρ h3).bind fun w h4=>g y w h4 else .ok (.bool false) h3
 | _=>.bad
theorem xR {G:Gx} {f g:D->D->Hm->R D} {σ:St} {H:Hp} {Q:VK} (h:lE G E (nh f g a b c) σ H Q):yW (Jz G E f) (Jz G E g) (lE G E a) (lE G E b) (lE G E c) σ H Q:=by
 obtain ⟨θ,h,ρ,w,fr,p⟩:=h
 refine ⟨θ,h,ρ,w,fr,(aG.bind p).mono fun x θ1 h1 H1 _ _ ⟨e1,w1,p1⟩ v r1=>?_⟩
 refine ⟨θ1,h1,ρ,w1,fr.ev e1,(aG.bind p1).mono fun y θ2 h2 H2 _ _ ⟨e2,w2,p2⟩ u r2=>⟨θ2,h2,x,y,w2,r1.ev e2,r2,(aG.bind p2).mono fun z θ3 h3 H3 _ _ ⟨e3,w3,p3⟩ z' r3=>?_⟩⟩
 cases z with
 | dat z=>
  cases z with
  | bool k=>
   refine ⟨k,r3.1,?_⟩
   cases k with
   | true=>exact ⟨θ3,h3,ρ,w3,(fr.ev e1).ev (e2.trans e3),(aG.bind p3).mono fun w' θ4 h4 H4 _ _ ⟨e4,w4,p4⟩ q r4=>⟨θ4,h4,y,w',w4,(r2.ev e3).ev e4,r4,p4⟩⟩
   | false=>exact p3 θ3 H3 Ev.refl w3 _ ⟨rfl,by simp [bY]⟩
  | _=>exact p3.elim
 | _=>exact p3.elim
theorem D2 {op op':CmpOp} {f g:D->D->Hm->R D} (ho:n5 X E (compareOp op) f) (ho':n5 X E (compareOp op') g) (ha:DE X E a e1) (hb:DE X E b e2) (hc:DE X E c e3)
  (hm:lastMarks [op,op'] [e2,e3]=false:=by with_unfolding_all rfl):DE X E (nh f g a b c) (.Compare e1 [op,op'] [e2,e3] pos):=by
 simp only [bj] at *
 exact PE.imp (CQ ho ho' ha hb hc hm) fun _ _ _=>xR
theorem D3 {op op':CmpOp} {f g:D->D->Hm->R D} (ho:n5 X E (compareOp op) f) (ho':n5 X E (compareOp op') g) (ha:DE X E a e1) (hb:DE X E b e2) (hc:DE X E c e3)
  (hm:lastMarks [op,op'] [e2,e3]=false:=by with_unfolding_all rfl):DT X E (aN (nh f g a b c)) (.Compare e1 [op,op'] [e2,e3] pos):=by
 simp only [bj,kH] at *
 exact PT.imp (CT ho ho' ha hb hc hm) fun _ _ _ q=>xR (AU q)
end
section
variable {X:Cx} {E:XK} {m a b c:ME} {t u:MT} {e e1 e2 e3 tg:Expr} {es:List Expr} {ma:MA} {pos:Pos} {i:Nat} {x:Str} {ss:List Stmt} {st:Stmt}
theorem dv (i:Nat) (hN:X.N[i]?=some x:=by rfl) (hv:Hw X.env.scope x:=by first | exact Or.inl rfl | exact Or.inr (Or.inl rfl) | exact Or.inr (Or.inr rfl)) (hd:(x == ("__debug__" : Str))=false:=by decide) (hcd:(x == ("__classdict__" : Str))=false:=by decide):DE X E (ae i) (.Name x pos):=JA hN hv hd hcd
theorem dg (i:Nat) (hN:X.N.Nodup) (hi:X.N[i]?=some x:=by rfl) (hx:Loc X.env.scope x:=by first | exact Or.inl rfl | exact Or.inr rfl) (hf:X.fn x=true\/X.env.scope.names.lookup x=some .local:=by first | exact .inl rfl | exact .inr rfl | assumption):DG X E (aB i) (.Name x pos):=Gj hN hi hx hf
def bb (e:ME):MA:=fun ρ h=>match e ρ h with
 | .ok (.dat (.tuple ds)) h1=>.ok (ds.map D.dat) h1
 | .ok (.dat (.list ds)) h1=>.ok (ds.map D.dat) h1
 | .ok (.dat (.str s)) h1=>.ok (signs s) h1
 | .ok (.ktup ds) h1=>.ok (ds.map D.dat) h1
 | .exc x h1=>.exc x h1
 | _=>.bad
theorem dM (h:DE X E m e):DI X E (bb m) tg e:=by
 have at':=JG (tg:=tg) h
 have al':=JH (tg:=tg) h
 have as':=JI (tg:=tg) h
 have ak':=Gu (tg:=tg) h
 simp only [kI] at *
 intro pins s σ H QI I ⟨θ,hm,ρ,w,fr,p⟩
 cases em:m ρ hm with
 | bad=>simp only [bb,em] at p;exact p.elim
 | exc x h1=>
  simp only [bb,em] at p
  refine at' pins s σ H QI I ⟨θ,hm,ρ,w,fr,?_⟩
  simp only [AF,em,R.Dn]
  exact p
 | ok d h1=>
  cases d with
  | dat d=>
   cases d with
   | tuple ds=>
    simp only [bb,em] at p
    refine at' pins s σ H QI I ⟨θ,hm,ρ,w,fr,?_⟩
    simp only [AF,em,R.ay]
    exact p
   | list ds=>
    simp only [bb,em] at p
    refine al' pins s σ H QI I ⟨θ,hm,ρ,w,fr,?_⟩
    simp only [Dr,em,R.ay]
    exact p
   | str ds=>
    simp only [bb,em] at p
    refine as' pins s σ H QI I ⟨θ,hm,ρ,w,fr,?_⟩
    simp only [Ds,em,R.ay]
    exact p
   | _=>simp only [bb,em] at p;exact p.elim
  | ktup ds=>
   simp only [bb,em] at p
   refine ak' pins s σ H QI I ⟨θ,hm,ρ,w,fr,?_⟩
   simp only [LC,em,R.ay]
   exact p
  | _=>simp only [bb,em] at p;exact p.elim
end
section
variable {X:Cx} {E:XK} {m:ME} {e:Expr} {es:List Expr} {ma:MA} {pos pos' p p2:Pos} {i:Nat} {x T:Str} {f:Fn} {id n:String} {g:PyData->Bool}
theorem gU (i:Nat) (hN:X.N.Nodup) (he:DE X E m e) (hi:X.N[i]?=some x:=by rfl) (hx:Loc X.env.scope x:=by first | exact Or.inl rfl | exact Or.inr rfl) (hs:swapsWith e (some (.Name x pos')) pos.line X.env=pure false:=by kernel_rfl) (hf:X.fn x=true\/X.env.scope.names.lookup x=some .local:=by first | exact .inl rfl | exact .inr rfl | assumption) :
  DS X E (bT i m) (.Assign [.Name x pos'] e pos):=JD hN hi hx he hs hf
theorem qT (hc:qG X E (.builtin id) f) (hm:X.mg x=none) (hv:bootBuiltins x=some (.builtin id)) (ha:DA X E ma (e::es)) (hg:Gl X x:=by rfl) (hn:x ≠ "__name__" := by decide) (hdb:(x == ("__debug__" : Str))=false:=by decide)
  (he:starEach (e::es) X.env=(false,eval e X.env)::starEach es X.env:=by rfl) (hpl:(backTo pos (starEach es X.env)).any (·.1)=false:=by rfl):DE X E (af f ma) (.Call (.Name x p) (e::es) [] pos):=DB hc hg hm hv ha hn hdb he hpl
theorem iu (hc:qG X E (.type id) f) (hm:X.mg x=none) (hv:bootBuiltins x=some (.type id)) (ha:DA X E ma (e::es)) (hg:Gl X x:=by rfl) (hn:x ≠ "__name__" := by decide) (hdb:(x == ("__debug__" : Str))=false:=by decide)
  (he:starEach (e::es) X.env=(false,eval e X.env)::starEach es X.env:=by rfl) (hpl:(backTo pos (starEach es X.env)).any (·.1)=false:=by rfl):DE X E (af f ma) (.Call (.Name x p) (e::es) [] pos):=B8 hc hg hm hv ha hn hdb he hpl
theorem D4 (kit:∀ d,PySem.W.kitOne X.K (.type (Lp d)) (.type n)=some (g d)) (bt:bootBuiltins T=some (.type n)) (m1:X.mg "isinstance" = none) (m2:X.mg T=none) (h:DE X E m e) (g1:Gl X "isinstance" := by rfl) (g2:Gl X T:=by rfl) (hT:T ≠ "__name__" := by decide) (hT2:(T == ("__debug__" : Str))=false:=by decide)
  (hs:starEach [e,.Name T p2] X.env=(false,eval e X.env)::starEach [.Name T p2] X.env:=by rfl) (hs2:starEach [.Name T p2] X.env=[(false,eval (.Name T p2) X.env)]:=by rfl) (hpl:(backTo pos (starEach [.Name T p2] X.env)).any (·.1)=false:=by rfl):DE X E (HL (xy g) m) (.Call (.Name "isinstance" p) [e,.Name T p2] [] pos):=JR kit bt m1 m2 h g1 g2 hT hT2 hs hs2 hpl
end
def Df (K:PySem.W.Frag) (mg:Str->Option Value) (x:Str) (ps:List Str) (st:Stmt):Prop:=∃ f fd,mg x=some (.ref f)/\HG K x x st f fd/\Binds K fd ps []
theorem cK {K:PySem.W.Frag} {h:Heap} {mg:Str->Option Value} {x:Str} {ps:List Str} {st:Stmt} {f:Addr} {od an:Option Addr} {sl:Array (Option Value)} {oc kV dc pm cd ct:Value} (X:K.In h) (G:h.Ns mainGlobals mg)
  (a:PySem.W.nsIn K mainGlobals x=some (some (.ref f))) (l:K.lookup f=some ⟨oc,od,.func (PySem.W.fnOf x x (iy st) (ff st) (aE st) .none kV dc pm an cd ct),sl⟩) (c:PySem.W.codeIn K cd x=true) (k:PySem.W.keepIn K (.ref f)=true)
  (hb:∀ (kV doc pm:Value) (an:Option Addr) (cdv ct:Value) (us:List Value),us.length=ps.length->bindArgs (PySem.W.fnOf x x (iy st) (ff st) (aE st) .none kV doc pm an cdv ct) ⟨us,[]⟩=pure (ps.zip us)):Df K mg x ps st:=
 ⟨f,_,R7 X G a,za l c k,(za l c k).binds hb⟩
section
variable {P:Program} {w:World} {K:PySem.W.Frag} {mg:Str->Option Value} {base:Heap} {x:Str} {st:Stmt} {ps N:List Str} {k:Nat} {b:MS} {F:Fn}
theorem Df.has (d:Df K mg x ps st) (S:aO N ps (aE st)) (hbody:∀ (f:Addr) (cdv:Value) (A:Around) (outer:List Env) (s:Shared) (H:Hp) (E:XK),cg k (A.deeper (PyProof.Rows.envOfC x (aE st) s.heap.objs.size f cdv)) ->
   CF (ub (tZ P w) P w K mg base N x (aE st) f cdv A outer s H E) E b (ff st)):bg P w K mg base x ps (k+1) (bE ps.length N.length b):=by
 obtain ⟨f,fd,h1,Fu,bd⟩:=d
 exact ⟨⟨f,fd,h1,Fu.kp,bd,Oy Fu S (hbody f)⟩,u6⟩
end
theorem D5:bootBuiltins "int" = some (.type "int"):=by decide +kernel
theorem JV {P:Program} {w:World} {K:PySem.W.Frag} {mg:Str->Option Value} {base:Heap} {k:Nat} {f:Addr} {fd:FuncData} {ps:List Str} {F F':Fn} (h:jn P w K mg base (tZ P w) k f fd ps (Ft ⟨P,w,mg,K⟩ F)) (e:F=F'):jn P w K mg base (tZ P w) k f fd ps (Ft ⟨P,w,mg,K⟩ F'):=e▸h
theorem D6 (H:Hp):view [] H=H:=by funext a;simp [view]
def HS (K:PySem.W.Frag):Sp:=fun vs H Q _=>∃ (a:Addr) (ns:List Int),vs=[.ref a]/\iw K H a (ns.map V.int)/\ns.length<=63/\∀ H',Q (.bl true) H'
theorem D7 {G:Gx} {F:Fn} (hp:∀ ns:List Int,ns.length<=63->∃ h,F [.scr ns] []=.ok (.bool true) h) {vs:List V} {H:Hp} {Q:VK} {E:XK} (z:HS G.K vs H Q E):Ft G F vs H Q E:=by
 obtain ⟨a,ns,rfl,hs,hl,q⟩:=z
 obtain ⟨h',e⟩:=hp ns hl
 refine ⟨[],[],[.scr ns],⟨rfl,.nil,fun i a o e=>by simp at e⟩,.cons ⟨a,rfl,by rw [D6];exact hs⟩ .nil,?_⟩
 rw [e]
 intro θ' H' _ _ v r
 cases r.1
 exact q H'
end Ml
namespace Ml
open PySem
def u9:MS:=bh (mW (yT (ki (cM (HL (xy isStr) (ae 0)))) (ki (aN (nh oLe oLe (aj (.int 1)) (af fO (aa (ae 0) (ag))) (aj (.int 6)))))) (cG (aj (.bool false))) (dI))
    (cG (af wj (aa (cC 1 (bb (ae 0)) (aB 0) (fH) (nh oLe oLe (aj (.str "a")) (ae 0) (aj (.str "z")))) (ag))))
def jv:Fn:=bE 1 1 u9
def qb:MS:=cG (af wj (aa (cC 2 (AG (aa (ae 0) (aa (Mk (ae 0) (mD (aj (.int 1))) (AI)) (ag)))) (iq (bR (aB 0) (bR (aB 1) (ip)))) (fH) (aq oLt (ae 0) (ae 1))) (ag)))
def gr:Fn:=bE 1 1 qb
def qc:MS:=bh (mW (yT (ki (cM (HL (xy isTup) (ae 0)))) (aN (aq Mj (af fO (aa (ae 0) (ag))) (aj (.int 12))))) (cG (aj (.bool false))) (dI))
    (cG (kb (af wj (aa (cC 1 (bb (ae 0)) (aB 0) (fH) (af jv (aa (ae 0) (ag)))) (ag))) (af gr (aa (ae 0) (ag)))))
def iH:Fn:=bE 1 1 qc
def qd:MS:=bh (mW (yT (ki (cM (HL (xy isTup) (ae 0)))) (aN (aq nE (af fO (aa (ae 0) (ag))) (aj (.int 2))))) (cG (aj (.bool false))) (dI))
    (cG (kb (aq nQ (aq dQ (ae 0) (aj (.int 0))) (ae 1)) (aq nQ (aq dQ (ae 0) (aj (.int 1))) (ae 1))))
def gu:Fn:=bE 2 2 qd
def mH:MS:=bh (mW (ki (cM (HL (xy isTup) (ae 0)))) (cG (aj (.bool false))) (dI))
    (cG (kb (af wj (aa (cC 1 (bb (ae 0)) (aB 0) (fH) (af gu (aa (ae 0) (aa (ae 2) (ag))))) (ag))) (af gr (aa (ae 0) (ag)))))
def f6:Fn:=bE 2 2 mH
def xS:MS:=bh (mW (yT (ki (cM (HL (xy isTup) (ae 0)))) (aN (aq nE (af fO (aa (ae 0) (ag))) (aj (.int 2))))) (cG (aj (.bool false))) (dI))
    (bh (kC (iq (bR (aB 1) (bR (aB 2) (ip)))) (ae 0))
    (cG (kb (af iH (aa (ae 1) (ag))) (af f6 (aa (ae 2) (aa (ae 1) (ag)))))))
def oh:Fn:=bE 1 3 xS
end Ml
namespace Ml
open PySem PySem.Spec L2
section
variable {X:Cx} {E:XK} {st:Stmt}
def JW:MS:=fun _ _=>.bad
theorem D8:DS X E JW st:=by
 simp only [ka] at *
 exact fun pins s σ H C I ⟨θ,hm,ρ,w,fr,p⟩=>p.elim
end
end Ml
namespace Ml
open PySem
def qe:MS:=mW (ki (cM (af oh (aa (ae 0) (ag))))) (JW) (dI)
def cL:Fn:=bE 1 1 qe
def eO:List PyData:=[.str "grounded",.str "preferred",.str "stable",.str "standing",.str "whole"]
def wG:MS:=mW (aN (aq wg (ae 0) (Mm eO))) (JW) (dI)
def gV:Fn:=bE 1 1 wG
def iI:MS:=cG (aq nQ (bL (aa (ae 1) (aa (ae 1) (ag)))) (ae 0))
def ck:Fn:=bE 3 3 iI
def gK:MS:=cG (kb (aq nQ (bL (aa (ae 1) (aa (ae 1) (ag)))) (ae 0)) (Cf (aq nQ (bL (aa (ae 2) (aa (ae 1) (ag)))) (ae 0)) (aq nQ (bL (aa (ae 2) (aa (ae 2) (ag)))) (ae 0))))
def bq:Fn:=bE 3 3 gK
def jw:MS:=cG (kb (aq nQ (bL (aa (ae 1) (aa (ae 1) (ag)))) (ae 0)) (aq nQ (bL (aa (ae 2) (aa (ae 2) (ag)))) (ae 0)))
def cA:Fn:=bE 3 3 jw
def gM:MS:=cG (kb (aq nQ (bL (aa (ae 2) (aa (ae 2) (ag)))) (ae 0)) (Cf (aq nQ (bL (aa (ae 1) (aa (ae 1) (ag)))) (ae 0)) (aq nQ (bL (aa (ae 2) (aa (ae 1) (ag)))) (ae 0))))
def bP:Fn:=bE 3 3 gM
end Ml
namespace Ml
open PySem PySem.Spec L2
def sJ (x:D) (h:Hm):Option (List PyData):=match x with
 | .dat (.tuple ds)=>some ds
 | .ktup ds=>some ds
 | x=>listOf x h
section
variable {X:Cx} {E:XK} {m:ME} {a:MA} {e:Expr} {es:List Expr} {p:Pos}
theorem xT {G:Gx} {θ:List Addr} {H:Hp}:∀ {xs:List PyData},(∀ x∈xs,(match x with | .int _ | .str _ | .bool _ | .none=>true | _=>false)=true)->cy xs=true->ba G θ H (xs.map D.dat) (xs.map HP)
 | [],_,_=>.nil
 | d::ds,h,s=>by
  simp only [cy,Pl] at s
  refine .cons ⟨?_,s.1⟩ (xT (fun x m=>h x (Pr _ m)) s.2)
  have:=h d (PJ ..)
  cases d<;>first | rfl | simp at this
end
def D9:PyData->Value->Bool
 | .none,.none=>true
 | .bool b,.bool c=>b == c
 | .int i,.int j _=>i == j
 | .str x,.str y _=>x == y
 | _,_=>false
def pE:List PyData->List Value->Bool
 | [],[]=>true
 | d::ds,v::vs=>D9 d v && pE ds vs
 | _,_=>false
def NG (K:PySem.W.Frag) (a:Addr) (xs:List PyData):Bool:=match K.lookup a with
 | some o=>(match o.cls,o.data with
  | .type "tuple",.seq its _=>pE xs its.toList && decide (its.size<=sizeLine)
  | _,_=>false) && cy xs
 | Option.none=>false
theorem Ea {d:PyData} {v:Value} (h:D9 d v=true):RelV (HP d) v/\kF d=true:=by
 unfold D9 at h
 split at h
 ·exact ⟨rfl,rfl⟩
 ·have:=eq_of_beq h;subst this;exact ⟨rfl,rfl⟩
 ·have:=eq_of_beq h;subst this;exact ⟨⟨_,rfl⟩,rfl⟩
 ·have:=eq_of_beq h;subst this;exact ⟨⟨_,rfl⟩,rfl⟩
 ·cases h
theorem vc:∀ {ds:List PyData} {vs:List Value},pE ds vs=true->Vals (ds.map HP) vs/\∀ x∈ds,kF x=true
 | [],[],_=>⟨.nil,by simp⟩
 | [],_::_,h=>by simp [pE] at h
 | _::_,[],h=>by simp [pE] at h
 | d::ds,v::vs,h=>by
  simp only [pE,Pl] at h
  obtain ⟨h1,h2⟩:=Ea h.1
  obtain ⟨k1,k2⟩:=vc h.2
  refine ⟨.cons h1 k1,fun x m=>?_⟩
  rcases Pn.mp m with rfl | m
  ·exact h2
  ·exact k2 x m
theorem JX {K:PySem.W.Frag} {a:Addr} {xs:List PyData} (h:NG K a xs=true):Dx K a xs:=by
 unfold NG at h
 split at h
 ·rename_i o ho
  simp only [Pl] at h
  obtain ⟨h,hs⟩:=h
  split at h
  ·rename_i its n hc hd
   simp only [Pl,Py] at h
   obtain ⟨k1,k2⟩:=vc h.1
   exact ⟨⟨o,its,n,ho,hc,hd,h.2,k1⟩,fun x m=>by have:=k2 x m;cases x<;>simp_all [kF],hs⟩
  ·cases h
 ·cases h
end Ml
namespace Ml
open PySem
def eT:List PyData->List PyData
 | []=>[]
 | x::xs=>if xs.any (PyData.eqv x) then eT xs else x::eT xs
def setOk (ds:List PyData):Bool:=(ds.all fM || ds.all fN) && aX ds && decide (PyData.depthAll ds<=8) && decide (ds.length<=120)
def cX:Fn:=fun xs h=>match xs with
 | [x]=>match sJ x h with
  | some ds=>if setOk ds && cN (eT ds) then .ok (.dat (.list (cx ltB (eT ds)))) h else .bad
  | Option.none=>.bad
 | _=>.bad
def zu (ds es:List PyData):List PyData:=eT (ds++es)
theorem ve:∀ {ds:List PyData},aX ds=true<->∀ d∈ds,av d=true
 | []=>by simp [aX]
 | d::ds=>by simp [aX,ve (ds:=ds)]
theorem A8 {ds:List PyData} {x:PyData} (hd:∀ d∈ds,av d=true) (hx:av x=true):ds.any (PyData.eqv x)=true<->x∈ds:=by
 rw [Se]
 constructor
 ·rintro ⟨y,hy,e⟩
  rw [(kG (aT hx) (aT (hd y hy))).mp e]
  exact hy
 ·exact fun h=>⟨x,h,aS (aT hx)⟩
theorem jx:∀ {ds:List PyData},(∀ d∈ds,av d=true)->∀ d,d∈eT ds<->d∈ds
 | [],_,d=>by simp [eT]
 | x::xs,h,d=>by
  have hx:=h x (PJ ..)
  have hxs:∀ d∈xs,av d=true:=fun d m=>h d (Pr _ m)
  have ih:=jx hxs d
  unfold eT
  split
  ·rename_i z
   rw [A8 hxs hx] at z
   rw [ih,Pn]
   constructor
   ·exact .inr
   ·rintro (rfl | q)
    ·exact z
    ·exact q
  ·rw [Pn,ih,Pn]
theorem iJ:∀ {ds:List PyData},(∀ d∈ds,av d=true)->(eT ds).Nodup
 | [],_=>by simp [eT]
 | x::xs,h=>by
  have hx:=h x (PJ ..)
  have hxs:∀ d∈xs,av d=true:=fun d m=>h d (Pr _ m)
  unfold eT
  split
  ·exact iJ hxs
  ·rename_i z
   refine QW.mpr ⟨fun q=>z ?_,iJ hxs⟩
   rw [A8 hxs hx]
   exact (jx hxs x).mp q
end Ml
namespace L2
open PySem PySem.Spec PyProof.Rows
section
variable {X:Cx} {pos:Pos}
def LG (i j l:Nat) (ta:TA):TS:=fun D σ H=>ta σ H fun vs H1=>∃ v w z,vs=[v,w,z]/\D.nx (((σ.set i (some v)).set j (some w)).set l (some z)) H1
theorem GA {i j l:Nat} {x y z:Str} {a b c:Expr} {ta:TA} {px py pz pt:Pos} {kt k2 pt2} (hc:X.calm=true) (hN:X.N.Nodup) (hi:X.N[i]?=some x) (hj:X.N[j]?=some y) (hl:X.N[l]?=some z) (hij:i≠j) (hil:i≠l) (hjl:j≠l)
  (hx:X.env.scope.names.lookup x=some .local) (hy:X.env.scope.names.lookup y=some .local) (hz:X.env.scope.names.lookup z=some .local) (ha:PA X [a,b,c] ta)
  (hw:swappedStores [.Tuple [.Name x px,.Name y py,.Name z pz] kt pt] (.Tuple [a,b,c] k2 pt2) X.env=pure (some [x,y,z]))
  (hs:swapsWithSole [.Tuple [.Name x px,.Name y py,.Name z pz] kt pt] (.Tuple [a,b,c] k2 pt2) pos.line X.env=pure false:=by rfl) :
  PS X (.Assign [.Tuple [.Name x px,.Name y py,.Name z pz] kt pt] (.Tuple [a,b,c] k2 pt2) pos) (LG i j l ta):=by
 intro pins s σ H D I h
 rw [exec_Assign_arm]
 refine Ph (Sy ?_)
 rw [hs]
 refine Ph (Pk ?_)
 rw [if_neg (by decide)]
 refine Ph (Tuple_ (bV (ha _ pins s σ H _ I h) fun us s1 ⟨vs,H1,I1,r1,q1⟩=>?_))
 obtain ⟨v,w,t,e1,q1⟩:=q1
 subst e1
 obtain ⟨u1,u2,u3,rfl,rv,rw',rt⟩:∃ u1 u2 u3,us=[u1,u2,u3]/\RelV v u1/\RelV w u2/\RelV t u3:=by
  cases r1 with
  | cons p q=>
   cases q with
   | cons p' q'=>
    cases q' with
    | cons p2 q2=>
     cases q2
     exact ⟨_,_,_,rfl,p,p',p2⟩
 refine Qi ?_ (by show 3<=sizeLine;decide)
 have I2:Inv X pins σ H1 {s1 with heap:=s1.heap.push {cls:=.type "tuple",data:=.seq [u1,u2,u3].toArray}}:=I1.kept (t':=s1.toks) fun b o e=>Pj _ e
 rw [hw]
 refine Ph (Pk ?_)
 show wpAny (model X.prog X.w) X.A (do rule "assign.swapped-stores";let items <- unpackItems (.ref s1.heap.objs.size) 3 none;assignInOrder [fun v=>bindName X.env z v,fun v=>bindName X.env y v,fun v=>bindName X.env x v] items.reverse;pure Flow.next) _ _ _
 refine Ph (RD (Ph (unpackItems_tuple (items:=#[u1,u2,u3]) (I.ok.hd hc) (IsTup.new s1.heap _) fun h' hx'=>?_)))
 have I3:=I2.kept (h':=h') (t':=s1.toks) fun b o e=>hx' b o (PM (Pp e)) e
 show wpAny _ _ (assignInOrder [fun v=>bindName X.env z v,fun v=>bindName X.env y v,fun v=>bindName X.env x v] [u3,u2,u1] >>= fun _=>pure Flow.next) _ _ _
 refine Ph (Sx (wpAny_bindName (kq I3 hN hl (.inl hz) rt (fun s2 I4=>?_) (.inr hz))))
 refine Sx (wpAny_bindName (kq I4 hN hj (.inl hy) rw' (fun s3 I5=>?_) (.inr hy)))
 refine Sx (wpAny_bindName (kq I5 hN hi (.inl hx) rv (fun s4 I6=>assignInOrder_nil (Pk ?_)) (.inr hx)))
 have e:((σ.set l (some t)).set j (some w)).set i (some v)=((σ.set i (some v)).set j (some w)).set l (some t):=by
  rw [List.set_comm _ _ hjl.symm,List.set_comm _ _ (Sw hil),List.set_comm _ _ (Sw hij)]
 rw [e] at I6
 exact ⟨_,H1,I6,q1⟩
end
end L2
namespace Ml
open PySem PySem.Spec L2
section
variable {X:Cx} {E:XK} {ma:MA} {pos:Pos} {x:Str}
theorem LH {a b c:Expr} {y z:Str} {px py pz pt:Pos} {kt k2 pt2} (i j l:Nat) (hN:X.N.Nodup) (ha:DA X E ma [a,b,c]) (hc:X.calm=true:=by rfl) (hi:X.N[i]?=some x:=by rfl) (hj:X.N[j]?=some y:=by rfl) (hl:X.N[l]?=some z:=by rfl) (hij:i≠j:=by decide) (hil:i≠l:=by decide) (hjl:j≠l:=by decide)
  (hx:X.env.scope.names.lookup x=some .local:=by rfl) (hy:X.env.scope.names.lookup y=some .local:=by rfl) (hz:X.env.scope.names.lookup z=some .local:=by rfl)
  (hw:swappedStores [.Tuple [.Name x px,.Name y py,.Name z pz] kt pt] (.Tuple [a,b,c] k2 pt2) X.env=pure (some [x,y,z]):=by kernel_rfl)
  (hs:swapsWithSole [.Tuple [.Name x px,.Name y py,.Name z pz] kt pt] (.Tuple [a,b,c] k2 pt2) pos.line X.env=pure false:=by rfl) :
  DS X E (Dq [i,j,l] ma) (.Assign [.Tuple [.Name x px,.Name y py,.Name z pz] kt pt] (.Tuple [a,b,c] k2 pt2) pos):=by
 rw [j9] at ha
 rw [ka]
 exact PS.imp (GA hc hN hi hj hl hij hil hjl hx hy hz ha hw hs) fun C σ H ⟨θ,h,ρ,w,fr,p⟩=>⟨θ,h,ρ,w,fr,(aG.bind p).mono fun ds θ1 h1 H1 _ _ ⟨ev,w1,p1⟩ vs r=>by
   cases r with
   | nil=>exact p1.elim
   | cons r1 rr=>
    cases rr with
    | nil=>exact p1.elim
    | cons r2 rr=>
     cases rr with
     | nil=>exact p1.elim
     | cons r3 rr=>
      cases rr with
      | nil=>exact ⟨_,_,_,rfl,p1 θ1 H1 Ev.refl w1 _ ((((fr.ev ev).set r1).set r2).set r3)⟩
      | cons=>exact p1.elim⟩
end
end Ml
namespace L2
open PySem PySem.Spec PyProof.Rows
def GB (K:PySem.W.Frag) (mg:Str->Option Value) (a:Addr) (fs:List (Str×Str)):Prop:=
 ∃ (o:Obj) (es:Array DictEntry) (ep:Nat),K.lookup a=some o/\o.ExactDict/\o.data=.dict es ep/\(es.all fun e=>isExactStrKey e.key)=true /\
  ∀ k n,fs.lookup k=some n->∃ f,mg n=some (.ref f)/\findBy (fun k v=>v.isStr k) es k=some (.ref f)
theorem GC {prog:Program} {w:World} {A:Around} {E:Value->Shared->Prop} {s:Shared} {a:Addr} {o:Obj} {es:Array DictEntry} {ep:Nat} {k:Str} {tk:Tok} {v:Value} {Q:Value->Shared->Prop} (ho:s.heap.get? a=some o) (x:o.ExactDict) (hd:o.data=.dict es ep)
  (hall:(es.all fun e=>isExactStrKey e.key)=true) (hf:findBy (fun k v=>v.isStr k) es k=some v) (q:Q v {s with toks:=s.toks+1}):wpAny (model prog w) A (getItem (.ref a) (.str k tk)) Q E s:=by
 have ty:s.TypeIs (.ref a) "dict" := ⟨o,ho,x.1⟩
 unfold getItem
 try with_reducible refine Qk ?_
 refine Ph (wpAny_sequenceKey ty (by decide) ?_)
 refine Ph (Qf (name:=Str.ofString "__getitem__") ty slot_dict_getitem
  (Qa slot_dict_getitem ty entry_dict_getitem ?_ (args_dict_getitem _ _)))
 show wpAny _ _ (dictGet a (.str k tk) >>= _) _ _ s
 refine Ph ?_
 unfold dictGet
 try with_reducible refine Qk ?_
 refine Ph (wpAny_pyHash_str (Ph (PyProof.Rows.KTD.kt_dictFind_strs (s:={s with toks:=s.toks+1}) ho hd hall ?_)))
 rw [findBy_of_findIdx?] at hf
 cases hi:es.findIdx? fun e=>e.key.isStr k with
 | none=>rw [hi] at hf;cases hf
 | some i=>
  rw [hi] at hf
  refine Ph (wpAny_dictEntries (s:={s with toks:=s.toks+1}) ho hd (Pk ?_))
  have hf':Option.map (fun x:DictEntry=>x.val) es[i]?=some v:=hf
  rw [hf']
  exact Pk ⟨v,rfl,Pk q⟩
section
variable {X:Cx} {o i:Expr} {pos:Pos} {td ty:TE}
def LJ (fs:List (Str×Str)) (a:Addr) (mg:Str->Option Value) (td ty:TE):TE:=fun σ H Q=>td σ H fun x H1=>ty σ H1 fun y H2=>∃ k n,x=.ref a/\y=.str k/\fs.lookup k=some n/\∀ f,mg n=some (.ref f)->Q (.ref f) H2
theorem JY {a:Addr} {fs:List (Str×Str)} (kf:GB X.K X.mg a fs) (ho:PE X o td) (hi:PE X i ty) (hs:Ji i):PE X (.Subscript o i pos) (LJ fs a X.mg td ty):=by
 intro pins s σ H Q I h
 refine F8 PySem.F.slot_dict_getitem.lookup hs (bV (ho pins s σ H _ I h) fun u s1 ⟨x,H1,I1,rx,q1⟩=>bV (hi pins s1 σ H1 _ I1 q1) fun iv s2 ⟨y,H2,I2,ry,k,n,ex,ey,lk,q2⟩=>?_)
 subst ex
 subst ey
 obtain rfl:u=Value.ref a:=rx
 obtain ⟨tk,rfl⟩:∃ t,iv=Value.str k t:=ry
 obtain ⟨ob,es,ep,h1,h2,h3,h4,h5⟩:=kf
 obtain ⟨f,hf,hk⟩:=h5 k n lk
 have g:s2.heap.get? a=some ob:=I2.tY a ob h1
 exact ⟨⟨ob,g,h2.1⟩,GC g h2 h3 h4 hk ⟨.ref f,H2,I2.tok _,rfl,q2 f hf⟩⟩
end
def HU (K:PySem.W.Frag) (es:Array DictEntry) (p:Str×Str):Bool:=match findBy (fun k v=>v.isStr k) es p.1,PySem.W.nsIn K mainGlobals p.2 with
 | some (.ref f),some (some (.ref g))=>f == g
 | _,_=>false
def NH (K:PySem.W.Frag) (a:Addr) (fs:List (Str×Str)):Bool:=match K.lookup a with
 | some ⟨.type "dict",none,.dict es _,sl⟩=>sl.isEmpty && (es.all fun e=>isExactStrKey e.key) && fs.all (HU K es)
 | _=>false
theorem lookup_mem {fs:List (Str×Str)} {k n:Str} (h:fs.lookup k=some n):(k,n)∈fs:=by
 induction fs with
 | nil=>cases h
 | cons p ps ih=>
  obtain ⟨x,y⟩:=p
  rw [Q6] at h
  cases q:k == x with
  | true=>rw [q] at h;cases h;rw [eq_of_beq q];exact PJ ..
  | false=>rw [q] at h;exact Pr _ (ih h)
theorem JZ {K:PySem.W.Frag} {mg:Str->Option Value} {a:Addr} {fs:List (Str×Str)} (G:∀ n v,PySem.W.nsIn K mainGlobals n=some (some v)->mg n=some v) (h:NH K a fs=true):GB K mg a fs:=by
 unfold NH at h
 split at h
 ·rename_i es ep sl e
  simp only [Pl] at h
  obtain ⟨⟨h1,h2⟩,h3⟩:=h
  refine ⟨_,es,ep,e,⟨rfl,rfl,?_⟩,rfl,h2,fun k n hl=>?_⟩
  ·exact Array.isEmpty_iff.mp h1
  ·have:=PH.mp h3 _ (lookup_mem hl)
   unfold HU at this
   split at this
   ·rename_i f g q1 q2
    have:=eq_of_beq this
    subst this
    exact ⟨_,G _ _ q2,q1⟩
   ·cases this
 ·cases h
end L2
namespace Ml
open PySem PySem.Spec L2
def xU (fs:List (Str×Str)) (m:ME):ME:=fun ρ h=>(m ρ h).bind fun x h1=>match x with
 | .dat (.str k)=>match fs.lookup k with
  | some n=>.ok (.fn n) h1
  | Option.none=>.bad
 | _=>.bad
section
variable {X:Cx} {E:XK} {m:ME} {e:Expr} {x:Str} {pos p:Pos}
theorem GD {fs:List (Str×Str)} (hm:∃ a,X.mg x=some (.ref a)/\GB X.K X.mg a fs) (he:DE X E m e) (hs:Ji e) (hg:Gl X x:=by rfl) (hd:(x == ("__debug__" : Str))=false:=by decide):DE X E (xU fs m) (.Subscript (.Name x p) e pos):=by
 simp only [bj] at *
 obtain ⟨a,hm,kf⟩:=hm
 exact PE.imp (JY kf (vQ (v:=.ref a) hg hm rfl hd) he hs) fun σ H Q ⟨θ,h,ρ,w,fr,q⟩=>by
  refine ⟨θ,h,ρ,w,fr,(aG.bind q).mono fun d θ1 h1 H1 _ _ ⟨ev,w1,q1⟩ v r=>?_⟩
  cases d with
  | dat z=>
   cases z with
   | str k=>
    cases el:fs.lookup k with
    | none=>simp only [el] at q1;exact q1.elim
    | some n=>
     simp only [el] at q1
     exact ⟨k,n,rfl,r.1,el,fun f hf=>q1 θ1 H1 Ev.refl w1 _ ⟨f,hf,rfl⟩⟩
   | _=>exact q1.elim
  | _=>exact q1.elim
end
def ni (i:Nat) (fs:List (Str×Fn)) (ma:MA):ME:=fun ρ h=>match ρ[i]? with
 | some (some (.fn n))=>match fs.lookup n with
  | some F=>af F ma ρ h
  | Option.none=>.bad
 | _=>.bad
inductive nj (P:Program) (w:World) (K:PySem.W.Frag) (mg:Str->Option Value) (base:Heap) (k:Nat):List (Str×Fn)->Prop
 | nil:nj P w K mg base k []
 | cons {n:Str} {ps:List Str} {F:Fn} {fs:List (Str×Fn)}:bg P w K mg base n ps k F->nj P w K mg base k fs->nj P w K mg base k ((n,F)::fs)
theorem nj.get {P:Program} {w:World} {K:PySem.W.Frag} {mg:Str->Option Value} {base:Heap} {k:Nat}:∀ {fs:List (Str×Fn)} {n:Str} {F:Fn},nj P w K mg base k fs->fs.lookup n=some F->∃ ps,bg P w K mg base n ps k F
 | _,n,F,.cons (n:=m) h t,e=>by
  rw [Q6] at e
  cases q:n == m with
  | true=>
   rw [q] at e
   cases e
   rw [eq_of_beq q]
   exact ⟨_,h⟩
  | false=>
   rw [q] at e
   exact t.get e
section
variable {X:Cx} {E:XK} {x:Str} {k i:Nat} {fs:List (Str×Fn)} {e:Expr} {es:List Expr} {ma:MA} {p pos:Pos}
theorem Eb (hs:nj X.prog X.w X.K X.mg X.base k fs) (hx:Passes (tZ X.prog X.w) X E) (hr:cg k X.A) (ha:DA X E ma (e::es)) (hN:X.N[i]?=some x) (hv:Hw X.env.scope x) (hdb:(x == ("__debug__" : Str))=false:=by decide) (hcd:(x == ("__classdict__" : Str))=false:=by decide)
  (he:starEach (e::es) X.env=(false,eval e X.env)::starEach es X.env:=by rfl) (hpl:(backTo pos (starEach es X.env)).any (·.1)=false:=by rfl):DE X E (ni i fs ma) (.Call (.Name x p) (e::es) [] pos):=by
 simp only [bj,j9] at *
 intro pins s σ H Q I ⟨θ,h,ρ,w,fr,q⟩
 unfold ni at q
 cases e1:ρ[i]? with
 | none=>rw [e1] at q;exact q.elim
 | some o=>
  cases o with
  | none=>rw [e1] at q;exact q.elim
  | some d=>
   rw [e1] at q
   obtain ⟨v,g1,g2⟩:=fr.2 i d e1
   cases d with
   | fn n=>
    cases el:fs.lookup n with
    | none=>simp only [el] at q;exact q.elim
    | some F=>
     simp only [el] at q
     obtain ⟨f,hf,rfl⟩:=g2
     obtain ⟨ps,F'⟩:=hs.get el
     obtain ⟨f',fd,h1,h2,h3,h4⟩:=F'.has.ex
     have ef:f'=f:=by
      have z:X.mg n=some (.ref f):=hf
      rw [h1] at z
      cases z
      rfl
     subst ef
     obtain ⟨m,hn,hl⟩:=I.loc
     obtain ⟨u,r,l⟩:=hl i x _ hN g1 hv
     obtain rfl:u=Value.ref f':=r
     have fin:wpAny (model X.prog X.w) X.A (callWith pos (.ref f') [] (backTo pos (starEach (e::es) X.env)) (backToKw pos (keywordEach [] X.env))) (EP X pins σ Q) X.xe s:=PySem.W.callWith_K (h₀:=X.base) I.ok.mod.kin h2 (bV (ha pos pins s σ H _ I ⟨θ,h,ρ,w,fr,(aG.bind q).mono fun xs θ1 h1 H1 _ _ ⟨ev,w1,p1⟩ vs r=>show (Ft X.G F) (vs++[]) H1 Q E from ⟨θ1,h1,xs,w1,by simpa using r,p1⟩⟩) fun us s1 ⟨vs,H1,I1,r,q⟩=>⟨I1.tY,y6 h4 hr h3 .nil hx I1 r q⟩) he hpl
     rcases l with ⟨hk,hm⟩ | ⟨hk,c,hc,hcell⟩
     ·exact Qz (Tv (wpAny_loadName_local I.ok.kind hk hn hm fin) hdb)
     ·rcases hk with hk | hk
      ·exact Qz (Tv (wpAny_loadName_cell I.ok.kind hk hc hcell fin) hdb)
      ·exact Qz (Tv (wpAny_loadName_free I.ok.kind hk hc hcell fin hcd) hdb)
   | _=>exact q.elim
theorem J0 (i:Nat) (hs:nj X.prog X.w X.K X.mg X.base k fs) (hx:Passes (tZ X.prog X.w) X E) (hr:cg k X.A) (ha:DA X E ma (e::es)) (hN:X.N[i]?=some x:=by rfl) (hv:Hw X.env.scope x:=by first | exact Or.inl rfl | exact Or.inr (Or.inl rfl) | exact Or.inr (Or.inr rfl)) (hdb:(x == ("__debug__" : Str))=false:=by decide) (hcd:(x == ("__classdict__" : Str))=false:=by decide)
  (he:starEach (e::es) X.env=(false,eval e X.env)::starEach es X.env:=by rfl) (hpl:(backTo pos (starEach es X.env)).any (·.1)=false:=by rfl):DE X E (ni i fs ma) (.Call (.Name x p) (e::es) [] pos):=Eb hs hx hr ha hN hv hdb hcd he hpl
end
end Ml
namespace L2
open PySem PySem.Spec PyProof.Rows
theorem xV {prog:Program} {w:World} {A:Around} {R:Result->Shared->Prop} {s:Shared} {kx vx target iter:Expr} {ifs:List Expr} {scope:Scope} {pos:Pos} {it:Value} {D:Addr} {env:Env} (I:Nat->Shared->Prop)
  (turn:∀ n s,I n s->wpAny (model prog w) A (pyNext it) (fun r s1=>match r with
   | none=>R (.ok .next) s1
   | some v=>wpAny (model prog w) A (letOwnedTupleGo target it v) (fun _ s2=>wpAny (model prog w) A (assign target env v) (fun _ s3=>
     wpAny (model prog w) A (forIn ifs true fun c r=>if r=true then do let ok <- isTrue c env (eval c env);pure (ForInStep.yield ok) else pure (ForInStep.yield r)) (fun ok s4=>
      if ok=true then wpAny (model prog w) A (eval kx env) (fun x s5=>wpAny (model prog w) A (eval vx env) (fun y s6=>
       wpAny (model prog w) A (dictSet D x y) (fun _ s7=>∃ m,m < n/\I m s7) (fun _ _=>False) s6) (fun _ _=>False) s5) (fun _ _=>False) s4
      else ∃ m,m < n/\I m s4) (fun _ _=>False) s3) (fun _ _=>False) s2) (fun _ _=>False) s1) (fun _ _=>False) s)
  (n:Nat) (h:I n s) :
  codeAny (model prog w) A (.compLoop (.DictComp kx vx [⟨target,iter,ifs,0⟩] scope pos) 0 it (.ref D) env) R s:=by
 refine codeAny_loop rfl I (fun n s hI=>?_) n h
 show wpAny _ A ((compTurn (.DictComp kx vx [⟨target,iter,ifs,0⟩] scope pos) 0 it (.ref D) env).onRaise (fun x=>do noteFrame x env;theTreesLotGoes x)) _ _ s
 refine wpAny_noted ?_
 rw [compTurn_dict]
 refine Q9 (E:=fun _ _=>False) (E':=_) (Q':=_) ?_ (fun _ _ q=>q) fun _ _ z=>z.elim
 refine Ph (Sy (Ph (bV (turn n s hI) (fun r s1 h1=>?_))))
 cases r with
 | none=>exact Pk h1
 | some v=>
  refine Ph (bV h1 fun _ s2 h2=>?_)
  refine Ph (bV h2 fun _ s3 h3=>Ph (bV h3 fun ok s4 h4=>?_))
  cases ok with
  | false=>exact Pk ⟨rfl,h4⟩
  | true=>exact Ph (Ph (bV h4 fun x s5 h5=>Ph (Qk (bV h5 fun y s6 h6=>Ph (Sy (Qk (bV h6 fun _ s7 h7=>Pk ⟨rfl,h7⟩)))))))
def LK {τ:Type} (P:Program) (w:World) (A:Around) (ok:τ->Obj->Prop) (t:τ) (y z:V) (H:Hp) (N:τ->Hp->Prop):Prop:=
 ∀ (Y:Cx) (pins:List (Addr×Obj)) (σ:St) (s:Shared) (D:Addr) (o:Obj) (u r:Value) (Q:Unit->Shared->Prop) (E:Value->Shared->Prop),Y.prog=P->Y.w=w->Inv Y pins σ H s->s.heap.get? D=some o->ok t o->RelV y u->RelV z r ->
  (∀ (h':Heap) (o':Obj) (tk:Nat) (t':τ),N t' H->h'.get? D=some o'->ok t' o'->Heap.SameBut D s.heap h'->Q () {s with heap:=h',toks:=tk})->wpAny (model P w) A (dictSet D u r) Q E s
def zv {τ:Type} (P:Program) (w:World) (A:Around) (ok:τ->Obj->Prop) (t0:τ) (n:Nat) (J:It) (g:TG) (tc:TT) (tk tv:TE) (σ:St) (H:Hp) (Q:VK):Prop:=
 ∃ W:Nat->Nat->τ->Hp->Prop,(∃ m,W 0 m t0 H)/\∀ i m t H,W i m t H ->
  (J.stop i H/\∀ p o,H p=none->ok t o->∃ ho,(∀ H' h,h.get? p=some o->p≠sysModules->cv P w H' h p ho)/\Q (.ref p) (upd H p ho)) \/
  (J.go i H/\∃ N:τ->Hp->Prop,(∀ t' H',N t' H'->∃ m',m' < m/\W (i+1) m' t' H')/\∀ x H',J.yld i H x H'->g x (List.replicate n none++σ) H' fun σ2 H2=>tc σ2 H2 fun b H3=>
   if b=true then tk σ2 H3 fun y H4=>tv σ2 H4 fun z H5=>LK P w A ok t y z H5 N else N t H3)
theorem xW {X:Cx} {τ:Type} {ok:τ->Obj->Prop} {t0:τ} {own:List Str} {scope:Scope} {pins:List (Addr×Obj)} {σ:St} {H2:Hp} {s2:Shared} {fp:List Addr} {it:Addr} {tn:Nat->Heap->Prop} {J:It} {kx vx tg iter:Expr} {ifs:List Expr} {pos:Pos} {g:TG} {tc:TT} {tk tv:TE} {Q:VK}
  {RR:Value->Addr->Result->Shared->Prop} {E:Value->Shared->Prop} (I:Inv X pins σ H2 s2) (CS:cU X.env.scope X.N own scope) (hc:X.calm=true) (T:Turn X.prog X.w X.K tg J fp it tn) (st:tn 0 s2.heap) (hf:∀ b∈fp,kj X pins H2 b)
  (hg:∀ C s2 H2 fp pins,PG (aK X own scope C s2 H2 fp pins) tg g) (ht:∀ C s2 H2 fp pins,F0 (aK X own scope C s2 H2 fp pins) ifs tc) (hk:∀ C s2 H2 fp pins,PE (aK X own scope C s2 H2 fp pins) kx tk) (hv:∀ C s2 H2 fp pins,PE (aK X own scope C s2 H2 fp pins) vx tv)
  (ok0:ok t0 {cls:=.type "dict",dict:=none,data:=.dict #[]}) (okd:∀ t o,ok t o->∃ es ep,o.data=.dict es ep)
  (hW:zv X.prog X.w X.A ok t0 own.length J g tc tk tv σ H2 Q)
  (hR:∀ D C H' s',Inv X pins σ H' s'->kj X pins H' C->(∃ m,s'.heap.Ns C m)->Q (.ref D) H'->Kept X fp H2 H' s2 s'->RR (.ref D) C (.ok .next) s') :
  wpAny (model X.prog X.w) X.A newDict (fun acc s3=>wpAny (model X.prog X.w) X.A (newFunctionEnv scope X.env.globals (eW X.env.cells scope.names []) [] X.env.qual none .none (some X.env)) (fun cenv s4=>
   codeAny (model X.prog X.w) X.A (.compStart (.DictComp kx vx [⟨tg,iter,ifs,0⟩] scope pos) 0 (.ref it) acc {cenv with scope:=relabel scope X.env}) (RR acc cenv.locals) s4) E s3) E s2:=by
 refine Qi (mz ?_)
 dsimp only
 generalize hH:s2.heap.push {cls:=.type "dict",dict:=none,data:=.dict #[]}=h3
 have hDC:h3.objs.size=s2.heap.objs.size+1:=by rw [<- hH,Qc]
 have eC:({scope:=relabel scope X.env,locals:=h3.objs.size,globals:=X.env.globals,cells:=cellsFrom (h3.objs.size+1) scope.names (eW X.env.cells scope.names []),qual:=X.env.qual,func:=none,code:=X.env.code,frame:=X.env.frame,builtins:=X.env.builtins}:Env)=mR scope h3.objs.size X.env:=rfl
 rw [eC]
 generalize eD:s2.heap.objs.size=D at *
 generalize eCC:h3.objs.size=C at *
 have hl:∀ b∈fp,b < s2.heap.objs.size:=fun b hb=>by
  obtain ⟨o,e,_⟩:=T.obj 0 _ st b hb
  exact Pp e
 have hC:s2.heap.objs.size<=C:=by omega
 generalize hH4:pushCells (h3.push {cls:=.type "dict",data:=.dict #[]}) scope.names=h4
 have k34:∀ b o,(h3.push {cls:=.type "dict",data:=.dict #[]}).get? b=some o->h4.get? b=some o:=fun b o e=>by rw [<- hH4];exact pushCells_keeps _ _ b o e
 have k24:∀ b o,s2.heap.get? b=some o->h4.get? b=some o:=fun b o e=>k34 b o (Pj _ (by rw [<- hH];exact Pj _ e))
 have nsC:h4.Ns C fun _=>none:=by
  have:=Heap.Ns.new h3 (.type "dict")
  rw [eCC] at this
  exact this.keeps k34
 have accD:h4.get? D=some {cls:=.type "dict",dict:=none,data:=.dict #[]}:=k34 _ _ (Pj _ (by rw [<- hH,<- eD];exact Po _ rfl))
 have cellN:∀ x c,(x,c)∈cellsFrom (C+1) scope.names []->h4.IsCell c none/\C+1<=c:=fun x c hm=>by
  have ok:=cellsFrom_ok scope.names (h3.push {cls:=.type "dict",data:=.dict #[]}) (C+1) [] ⟨fun _ _ hm=>(nomatch hm),List.Pairwise.nil⟩ (by rw [Qc];omega)
  rw [Qc,eCC,hH4] at ok
  exact ok.empty x c hm
 have hne:H2 D=none:=by rw [<- eD];exact I.hok.fresh (Pm _)
 have ok':(aK X own scope C s2 H2 fp pins).Ok:=Aw I CS hC hf hl
 have rebase:∀ {σ':St} {H':Hp} {ps:List (Addr×Obj)} {s':Shared},Inv (aK X own scope C s2 H2 fp pins) ps σ' H' s'->Inv (aK X own scope C s2 H2 fp pins) ps (List.replicate own.length none++σ) H' s':=fun {σ' H' ps s'} J'=>by
  obtain ⟨m,hn,_⟩:=J'.loc
  refine ⟨J'.ok,J'.os,J'.bare,J'.base,⟨m,hn,nJ I CS fun c v z ⟨x,hx⟩=>?_⟩,J'.cell,J'.free,J'.freeC,J'.pin,J'.hok,?_⟩
  ·obtain ⟨o,ho,hd⟩:=z
   obtain ⟨sl,e⟩:=J'.base.any ho (I.freeC x c hx) fun hb=>(hf c hb).2.2.2.2.1 x c hx rfl
   exact ⟨_,e,hd⟩
  ·show (List.replicate own.length none++σ).length=(own++X.N).length
   rw [PU,PU,QX,I.len]
 have start:Inv (aK X own scope C s2 H2 fp pins) [] (List.replicate own.length none++σ) H2 {s2 with heap:=h4}:=by
  have I4:Inv X pins σ H2 {s2 with heap:=h4}:=I.kept (t':=s2.toks) k24
  refine ⟨ok',rfl,I.bare,Un.kept k24,⟨_,nsC,nJ I CS fun c v z _=>z.keeps k24⟩,fun x c h=>?_,I.hok.fresh hC,fun x c h=>?_,fun p hp=>?_,I4.hok,?_⟩
  ·rcases cw h with ⟨a,_,_⟩ | a
   ·exact ⟨_,(cellN x c a).1⟩
   ·obtain ⟨v,z⟩:=I.cell x c (gn I CS a).2
    exact ⟨v,z.keeps k24⟩
  ·rcases cw h with ⟨_,_,a⟩ | a
   ·exact I.hok.fresh (Pq hC (Pq (QR _) a))
   ·exact I.freeC x c (gn I CS a).2
  ·have hp':p∈X.pn++pins:=by
    rcases PL.mp hp with z | z
    ·exact z
    ·exact nomatch z
   obtain ⟨e,n,ne,nf,d⟩:=I.pin p hp'
   refine ⟨k24 _ _ e,n,PM (Pt (Pp e) hC),fun z=>?_,d⟩
   rcases Pn.mp (I.ko _ z) with q | q
   ·exact ne q
   ·exact nf q
  ·show (List.replicate own.length none++σ).length=(own++X.N).length
   rw [PU,PU,QX,I.len]
 obtain ⟨W,⟨m0,w0⟩,turn⟩:=hW
 have nfs:∀ b,s2.heap.objs.size<=b->b∉(aK X own scope C s2 H2 fp pins).fs:=fun b hb z=>by
  rcases Pn.mp (I.ko b z) with q | q
  ·rw [q] at hb;exact absurd (Pt I.lt hb) (PZ _)
  ·exact I.CI hb q
 have fpD:∀ {H':Hp},H' D=none->kj (aK X own scope C s2 H2 fp pins) [] H' D:=fun {H'} hn=>by
  refine ⟨hn,PM (by show D < C;omega),nfs D (by omega),.inr (by show s2.heap.objs.size<=D;omega),fun x c h z=>?_,fun p hp z=>?_⟩
  ·rcases cw h with ⟨_,_,a⟩ | a
   ·rw [z] at a;exact absurd (Pt (show D < C+1 by omega) a) (PZ _)
   ·obtain ⟨v,q⟩:=I.cell x c (gn I CS a).2
    have:=q.lt
    rw [z,eD] at this
    exact PZ _ this
  ·have hp':p∈X.pn++pins:=by
    rcases PL.mp hp with z | z
    ·exact z
    ·exact nomatch z
   have:=Pp (I.pin p hp').1
   rw [z,eD] at this
   exact PZ _ this
 have nD:D∉fp:=fun z=>by have:=hl D z;rw [eD] at this;exact PZ _ this
 have stat:∀ {H':Hp} {ps:List (Addr×Obj)},(∀ p∈ps,p.1=D)->(∀ b∈fp,H' b=none)->∀ b∈fp,kj (aK X own scope C s2 H2 fp pins) ps H' b:=fun {H' ps} hps hn b hb=>by
  obtain ⟨f0,f1,f2,f3,f4,f5⟩:=hf b hb
  refine ⟨hn b hb,(ok'.exf b hb).1,ok'.exfs b hb,.inl hb,(ok'.exf b hb).2,fun p hp=>?_⟩
  rcases PL.mp hp with z | z
  ·exact f5 p z
  ·rw [hps p z]
   exact fun q=>nD (q▸hb)
 let LI:Nat->Shared->Prop:=fun n s'=>∃ i t o H',Inv (aK X own scope C s2 H2 fp pins) [] (List.replicate own.length none++σ) H' s'/\tn i s'.heap/\(∀ b∈fp,H' b=none)/\H' D=none /\
  s'.heap.get? D=some o/\ok t o/\W i n t H'
 have l0:LI m0 {s2 with heap:=h4}:=⟨0,t0,_,H2,start,T.keep _ _ _ st fun b _ o e=>k24 b o e,fun b hb=>(hf b hb).1,hne,accD,ok0,w0⟩
 have loop:codeAny (model X.prog X.w) X.A (.compLoop (.DictComp kx vx [⟨tg,iter,ifs,0⟩] scope pos) 0 (.ref it) (.ref D) (mR scope C X.env)) (RR (.ref D) C) {s2 with heap:=h4}:=by
  refine xV LI ?_ m0 l0
  rintro n s3 ⟨i,t,oD,H3,I3,st3,fr3,d3,a3,v3,w3⟩
  obtain ⟨es0,ep0,dd3⟩:=okd t oD v3
  rcases turn i n t H3 w3 with ⟨stop,qn⟩ | ⟨go,NN,hNN,step⟩
  ·have I3p:=I3.pinned (fp:=[D]) (fun b hb=>(PV.mp hb)▸fpD d3) fun b hb=>⟨_,(PV.mp hb)▸a3,fun v z=>(by rw [dd3] at z;cases z)⟩
   refine bV (T.done (aK X own scope C s2 H2 fp pins) rfl rfl rfl hc i _ s3 _ H3 _ I3p (stat (fun p hp=>by have q:p∈fe [D] s3.heap:=hp;have:=(jm q).1;simpa using this) fr3) st3 stop) fun r s4 ⟨hr,I4⟩=>?_
   subst hr
   have a4:s4.heap.get? D=_:=(I4.pin (D,_) (PD _ (PD _ (cB (by simp) a3)))).1
   have u4:Un (uK X.stack) fp H2 H3 s2.heap s4.heap:=I4.base
   have hsys:D≠sysModules:=by rw [<- eD];exact Sw (PM I.big)
   obtain ⟨ho,Mn,qD⟩:=qn D oD d3 v3
   have okD:km X.prog X.w (upd H3 D ho) s4.heap:=fun b o e=>by
    by_cases hb:b=D
    ·subst hb
     rw [aY] at e
     cases e
     exact Mn _ _ a4 hsys
    ·rw [aD hb] at e
     exact (I4.hok b o e).rm (fun _ _ _ q=>q) (fun c q=>by rw [aD (aH q d3)];exact q) fun c xs q=>by rw [aD (aH q d3)];exact q
   have nDo:∀ b o,s2.heap.get? b=some o->b≠D:=fun b o e=>by rw [<- eD];exact PM (Pp e)
   have uD:Un (uK X.stack) fp H2 (upd H3 D ho) s2.heap s4.heap:=⟨u4.keep,u4.slot,fun b o e n hx=>by rw [aD (nDo b o e)];exact u4.free b o e n hx,u4.there,
    fun b xs e=>by rw [aD (aH e hne)];exact u4.tups b xs e,fun b o xs e=>by rw [aD (aH e hne)];exact u4.frzs b o xs e,fun b ps e=>by rw [aD (aH e hne)];exact u4.tbls b ps e⟩
   have kp:Kept X fp H2 (upd H3 D ho) s2 s4:=⟨I4.os,uD,okD,I4.bare⟩
   have I5:Inv X pins σ (upd H3 D ho) s4:=kp.inv I hf
   obtain ⟨m,hn,_⟩:=I4.loc
   refine hR D C _ s4 I5 ⟨by rw [aD (show C≠D by omega)];exact I4.free,Sk (Pt I.lt hC),I.CI hC,.inr (Pq I.sz hC),fun x c e z=>?_,fun p hp z=>?_⟩ ⟨m,hn⟩ qD kp
   ·obtain ⟨v,q⟩:=I.cell x c e
    exact absurd (Pt q.lt (by rw [z];exact hC)) (PZ _)
   ·exact absurd (Pt (Pp (I.pin p hp).1) (by rw [z];exact hC)) (PZ _)
  ·have I3p:=I3.pinned (fp:=[D]) (fun b hb=>(PV.mp hb)▸fpD d3) fun b hb=>⟨_,(PV.mp hb)▸a3,fun v z=>(by rw [dd3] at z;cases z)⟩
   have onlyD:∀ p∈([]++fe [D] s3.heap),p.1=D:=fun p hp=>by have q:p∈fe [D] s3.heap:=hp;have:=(jm q).1;simpa using this
   refine bV (T.item (aK X own scope C s2 H2 fp pins) rfl rfl rfl hc i _ s3 _ H3 _ I3p (stat onlyD fr3) st3 go) fun r s4 ⟨u,hr,h4'⟩=>?_
   subst hr
   refine bV h4' fun _ s5 ⟨x,H5,I5,r5,y5,st5,fr5⟩=>?_
   have I5p:=I5.pinned (fp:=fp) (stat onlyD fr5) (T.obj _ _ st5)
   have cont:∀ {s6:Shared} {σ6:St} {H6:Hp},Inv (aK X own scope C s2 H2 fp pins) (([]++fe [D] s3.heap)++fe fp s5.heap) σ6 H6 s6 ->
     Inv (aK X own scope C s2 H2 fp pins) [] (List.replicate own.length none++σ) H6 s6/\tn (i+1) s6.heap/\(∀ b∈fp,H6 b=none)/\H6 D=none/\s6.heap.get? D=some oD:=fun {s6 σ6 H6} I6=>by
    have pD:=I6.pin (D,_) (PD _ (Qy _ (PD _ (cB (by simp) a3))))
    refine ⟨rebase (I6.qL fun p hp=>nomatch hp),T.keep _ _ _ st5 fun b hb o e=>(I6.pin (b,o) (PD _ (PD _ (cB hb e)))).1,fun b hb=>?_,pD.2.1,pD.1⟩
    obtain ⟨o,e,_⟩:=T.obj _ _ st5 b hb
    exact (I6.pin (b,o) (PD _ (PD _ (cB hb e)))).2.1
   refine bV (hg C s2 H2 fp pins _ s5 _ H5 x u _ I5p r5 (step x H5 y5)) fun _ s6 ⟨σ6,H6,I6,q6⟩=>?_
   refine bV (ht C s2 H2 fp pins _ s6 σ6 H6 _ I6 q6) fun b s7 ⟨H7,I7,q7⟩=>?_
   cases b with
   | false=>
    have q7':NN t H7:=q7
    obtain ⟨m',hm,w7⟩:=hNN _ _ q7'
    obtain ⟨c1,c2,c3,c4,c5⟩:=cont I7
    exact ⟨m',hm,i+1,t,oD,H7,c1,c2,c3,c4,c5,v3,w7⟩
   | true=>
    refine bV (hk C s2 H2 fp pins _ s7 σ6 H7 _ I7 q7) fun kv s8 ⟨y,H8,I8,r8,q8⟩=>?_
    refine bV (hv C s2 H2 fp pins _ s8 σ6 H8 _ I8 q8) fun vv s9 ⟨z,H9,I9,r9,q9⟩=>?_
    obtain ⟨c1,c2,c3,c4,c5⟩:=cont I9
    refine q9 (aK X own scope C s2 H2 fp pins) _ _ s9 D oD kv vv _ _ rfl rfl I9 c5 v3 r8 r9 fun h' o' tk t' n' g' ok' sb=>?_
    obtain ⟨m',hm,w9⟩:=hNN _ _ n'
    obtain ⟨f0,f1,f2,f3,f4,f5⟩:=fpD c4
    exact ⟨m',hm,i+1,t',o',H9,c1.turned (t':=tk) (fun b o hb e=>(sb.2 b hb).trans e) f0 f1 f3 f4 f5,T.keep _ _ _ c2 fun b hb o e=>(sb.2 b fun z=>nD (z▸hb)).trans e,c3,c4,g',ok',w9⟩
 exact codeAny_compStart_dict loop (T.self X.A 0 {s2 with heap:=h4} _ _ (T.keep _ _ _ st fun b _ o e=>k24 b o e) loop)
section
variable {X:Cx} {own:List Str} {scope:Scope} {kx vx tg iter:Expr} {τ:Type} {ok:τ->Obj->Prop} {t0:τ} {ifs:List Expr} {pos:Pos} {wi:TI} {g:TG} {tc:TT} {tk tv:TE}
def Ec {τ:Type} (P:Program) (w:World) (A:Around) (ok:τ->Obj->Prop) (t0:τ) (n:Nat) (wi:TI) (g:TG) (tc:TT) (tk tv:TE):TE:=fun σ H Q=>wi σ H fun J H1=>zv P w A ok t0 n J g tc tk tv σ H1 Q
theorem xX (own:List Str) (CS:gm X.env.scope X.N own scope=true) (hc:X.calm=true) (hi:PI X tg iter wi) (hg:∀ C s2 H2 fp pins,PG (aK X own scope C s2 H2 fp pins) tg g)
  (ht:∀ C s2 H2 fp pins,F0 (aK X own scope C s2 H2 fp pins) ifs tc) (hk:∀ C s2 H2 fp pins,PE (aK X own scope C s2 H2 fp pins) kx tk) (hv:∀ C s2 H2 fp pins,PE (aK X own scope C s2 H2 fp pins) vx tv)
  (ok0:ok t0 {cls:=.type "dict",dict:=none,data:=.dict #[]}) (okd:∀ t o,ok t o->∃ es ep,o.data=.dict es ep) (hs:∀ x,foldedSetIterable iter X.env x=pure x:=by intro _;rfl) :
  PE X (.DictComp kx vx [⟨tg,iter,ifs,0⟩] scope pos) (Ec X.prog X.w X.A ok t0 own.length wi g tc tk tv):=by
 intro pins s σ H Q I h
 have CS:=cU.of CS
 rw [arm_eval_DictComp]
 refine Sr (use:=none) (g:=⟨tg,iter,ifs,0⟩) rfl hs (i6 fun n hn=>I.ok.has n (CS.frees n hn)) CS.kind (mS CS) (bV (hi pins s σ H _ I h) fun v s1 h1=>bV h1 fun itv s2 h2=>?_)
 obtain ⟨it,fp,tn,J,H2,e,I2,T,st2,f2,hW⟩:=h2
 subst e
 refine xW (RR:=fun acc C=>compPost (model X.prog X.w) X.A X.xe none (EP X pins σ Q) acc C) I2 CS hc T st2 f2 hg ht hk hv ok0 okd hW fun D C H' s' I' fC ⟨m,hn⟩ q _=>?_
 refine ⟨m,hn,fun h' hs'=>⟨.ref D,H',?_,rfl,q⟩⟩
 obtain ⟨f0,f1,_,f3,f4,f5⟩:=fC
 exact I'.turned (t':=s'.toks) (fun b o hb e=>(hs'.2 b hb).trans e) f0 f1 f3 f4 f5
end
end L2
namespace Ml
open PySem PySem.Spec L2
def fk (tb:Bool) (n:Nat) (ρ:Fm) (g:MG) (c:MT) (k v:ME):List D->List (PyData×PyData)->Hm->R (List (PyData×PyData))
 | [],acc,h=>.ok acc h
 | x::xs,acc,h=>(g x (List.replicate n none++ρ) h).xg.bind fun ρ1 h1=>(c ρ1 h1).xg.bind fun b h2=>
  if b then (k ρ1 h2).xg.bind fun y h3=>(v ρ1 h3).xg.bind fun z h4=>match y,z with
   | .dat kd,.dat vd=>if keyOk tb kd && (tb || kF vd) && decide (acc.length < 16777216) then fk tb n ρ g c k v xs (dput acc kd vd) h4 else .bad
   | _,_=>.bad
  else fk tb n ρ g c k v xs acc h2
def pF (tb:Bool) (n:Nat) (it:MA) (g:MG) (c:MT) (k v:ME):ME:=fun ρ h=>(it ρ h).bind fun xs h1=>(fk tb n ρ g c k v xs [] h1).bind fun kvs h2=>R.ok (D.iu tb kvs) h2
structure GF (G:Gx) (A:Around) {τ:Type} (tb:Bool) (ok:τ->Obj->Prop) (t0:τ) (Rl:List (PyData×PyData)->τ->List Addr->Hp->Prop):Prop where
 ok0:ok t0 {cls:=.type "dict",dict:=none,data:=.dict #[]}
 okd:∀ t o,ok t o->∃ es ep,o.data=.dict es ep
 nil:∀ θ H,Rl [] t0 θ H
 ev:∀ {acc t θ H θ' H'},Ev θ H θ' H'->Rl acc t θ H->Rl acc t θ' H'
 put:∀ {acc t θ h H kd vd y z} {N:τ->Hp->Prop},W G θ h H->bS G θ H (.dat kd) y->bS G θ H (.dat vd) z->Rl acc t θ H->keyOk tb kd=true->(tb || kF vd)=true->acc.length < 16777216 ->
  (∀ t',Rl (dput acc kd vd) t' θ H->N t' H)->LK G.P G.w A ok t y z H N
 fin:∀ {acc t θ h H p o},W G θ h H->Rl acc t θ H->H p=none->ok t o->∃ ho,(∀ H' h,h.get? p=some o->p≠sysModules->cv G.P G.w H' h p ho)/\fI G.P G.w (view θ H) (upd H p ho) p tb acc
def O7 (P:Program) (w:World) (ks:List (Key×V)) (o:Obj):Prop:=ks.length<=sizeLine/\(∃ es ep,o.data=.dict es ep)/\∃ vs,L2.KV ks vs/\∀ (h:Heap) (a:Addr),h.get? a=some o->h.DictOf (bH P w) a vs
theorem GG {G:Gx} {A:Around}:GF G A false (O7 G.P G.w) [] fun acc ks _ _=>aP ks=some acc/\∀ p∈acc,bY p.1=true/\bY p.2=true where
 ok0:=⟨QS _,⟨_,_,rfl⟩,[],.nil,fun h a e=>Tp.mpr ⟨_,e,(Tp.mp (Heap.DictOf.new (knd:=bH G.P G.w) h)).elim fun o ⟨e1,r⟩=>by
  have e2:(h.push {cls:=.type "dict",data:=.dict #[]}).get? h.objs.size=some {cls:=.type "dict",data:=.dict #[]}:=Po _ rfl
  rw [e2] at e1
  cases e1
  exact r⟩⟩
 okd:=fun t o h=>h.2.1
 nil:=fun θ H=>⟨rfl,fun p hp=>nomatch hp⟩
 ev:=fun _ h=>h
 put:=fun {acc t θ h H kd vd y z N} w r1 r2 rl hk hf hl hN=>by
  intro Y pins σ s D o u r Q E eP ew I gD ⟨lt,_,vs,kv,dd⟩ ry rz cont
  obtain ⟨q,rfl⟩:∃ q,kd=.str q:=by
   simp only [keyOk,PB,Qm] at hk
   cases kd<;>first | exact ⟨_,rfl⟩ | simp [fN] at hk
  have fd:kF vd=true:=by simpa using hf
  have hv:=sI fd r2.1
  obtain ⟨e2,s2⟩:=dE r1
  subst e2
  have so:∀ p∈dput acc (.str q) vd,bY p.1=true/\bY p.2=true:=fun p hp=>by
   unfold dput at hp
   split at hp
   ·obtain ⟨p0,hp0,e0⟩:=P8.mp hp
    split at e0
    ·subst e0;exact ⟨(rl.2 p0 hp0).1,r2.2⟩
    ·subst e0;exact rl.2 p0 hp0
   ·rcases PL.mp hp with hp | hp
    ·exact rl.2 p hp
    ·simp at hp;subst hp;exact ⟨by simpa [bY] using s2,r2.2⟩
  have hz:vs.length<=sizeLine:=by rw [<- kv.length];exact lt
  refine wpAny_dictSet_pairs (knd:=bH G.P G.w) (hsz:=hz) (pW (k:=Sum.inr q) ry) (dd _ _ gD) fun h' dd' hs=>?_
  obtain ⟨o',g',rest⟩:=Tp.mp dd'
  refine cont h' o' _ (putK t (Sum.inr q) z) (hN _ ⟨m9 hv rl.1,so⟩) g' ⟨?_,?_,stored vs (Sum.inr q) r,kv.put (Sum.inr q) rz,fun h2 a e2=>Tp.mpr ⟨o',e2,rest⟩⟩ hs
  ·have:=iz t (Sum.inr q) z
   rw [jN rl.1,RG] at *
   omega
  ·obtain ⟨o2,es,ep,g1,g2,g3,_⟩:=dd'
   rw [g'] at g1
   cases g1
   exact ⟨es,ep,g3⟩
 fin:=fun {acc t θ h H p o} w rl hp ⟨lt,_,vs,kv,dd⟩=>⟨.dK t,fun H' h2 e ne=>v7 lt (QO.mpr ne) kv (dd _ _ e),.inl ⟨rfl,t,aY,rl.1,rl.2⟩⟩
def O8 (P:Program) (w:World) (xs:List (PyData×Addr×Value)) (o:Obj):Prop:=xs.length<=sizeLine/\∃ es ep,o.ExactDict/\o.data=.dict es ep/\es.toList=xs.map (entryOfKey (eK P w))/\(xs.map (·.1)).Nodup
theorem J1 {G:Gx} {A:Around} (hA:A.units+20 < cLine):GF G A true (O8 G.P G.w) [] fun acc xs θ H=>Paired (nZ (view θ H)) acc xs where
 ok0:=⟨QS _,_,_,⟨rfl,rfl,rfl⟩,rfl,rfl,List.nodup_nil⟩
 okd:=fun t o ⟨_,es,ep,_,h,_⟩=>⟨es,ep,h⟩
 nil:=fun θ H=>.nil
 ev:=fun e h=>Paired.t8 h fun _ _=>nZ.same e.same
 put:=fun {acc t θ h H kd vd y z N} w r1 r2 rl hk hf hl hN=>by
  intro Y pins σ s D o u r Q E eP ew I gD ⟨lt,es,ep,g2,g3,g4,g5⟩ ry rz cont
  simp only [keyOk,Qe,Pl,Py] at hk
  obtain ⟨b,vs,rfl,hb⟩:∃ b vs,y=.ref b/\view θ H b=some (.tup vs):=by
   cases kd with
   | tuple ds=>obtain ⟨b,vs,e,hb,_⟩:=r1.1;exact ⟨b,vs,e,hb⟩
   | _=>simp [fM] at hk
  cases ry
  have dd:s.heap.DictOfH (eK G.P G.w) D t:=⟨o,es,ep,gD,g2,g3,g4,wD I (aA θ H) rl,g5⟩
  have kr:=xO (b:=b) (u:=r) hk.1.2 hk.2 r1.2 r1.1 rz r2.1 r2.2 rl
  refine wpAny_dictSet_heap (knd:=eK G.P G.w) (hsz:=lt) hA (A6 I (aA θ H) hk.1.2 hk.2 r1.2 r1.1) dd fun h' dd' hs=>?_
  obtain ⟨o',es',ep',k1,k2,k3,k4,_,k5⟩:=dd'
  refine cont h' o' _ (storedH t kd b r) (hN _ kr) k1 ⟨?_,es',ep',k2,k3,k4,k5⟩ hs
  rw [<- show (dput acc kd vd).length=_ from P4 kr]
  have:=xP acc kd vd
  rw [RG]
  omega
 fin:=fun {acc t θ h H p o} w rl hp ⟨lt,es,ep,g2,g3,g4,g5⟩=>⟨dO G.P G.w t p,fun H' h2 e ne=>HN lt (QO.mpr ne) e g2 g3 g4 g5,.inr ⟨rfl,t,aY,rl⟩⟩
section
variable {X:Cx} {E:XK} {mk mv:ME} {t:MT} {e tg kx vx:Expr} {ifs:List Expr} {it:MA} {pos:Pos} {i:Nat} {x:Str} {g:MG} {own:List Str} {scope:Scope} {tb:Bool} {k:Nat}
theorem zw {G:Gx} {A:Around} {τ:Type} {ok:τ->Obj->Prop} {t0:τ} {Rl:List (PyData×PyData)->τ->List Addr->Hp->Prop} (AR:GF G A tb ok t0 Rl) {F:XP} {n:Nat} {θ1:List Addr} {H1:Hp} {h1:Hm} {xs:List D} {J:It} {σ:L2.St} {ρ:Fm} {Q:VK} (hJ:pY G θ1 H1 xs J) (w1:W G θ1 h1 H1) (fr:Fr G θ1 H1 ρ σ)
  (p1:aG G F θ1 H1 ((fk tb n ρ g t mk mv xs [] h1).bind fun kvs h2=>R.ok (D.iu tb kvs) h2) (Ml.KV G Q)) :
  zv G.P G.w A ok t0 n J (lG G gz g) (lT G gz t) (lE G gz mk) (lE G gz mv) σ H1 Q:=by
 refine ⟨fun i m' a H=>m'=xs.length - i/\i<=xs.length/\∃ θ' h' acc,Ev θ1 H1 θ' H/\W G θ' h' H/\Rl acc a θ' H/\aG G F θ' H ((fk tb n ρ g t mk mv (xs.drop i) acc h').bind fun kvs h2=>R.ok (D.iu tb kvs) h2) (Ml.KV G Q),
  ⟨xs.length,by simp,QS _,θ1,h1,[],Ev.refl,w1,AR.nil _ _,p1⟩,?_⟩
 rintro i m' a H ⟨rfl,hi,θ',h',acc,ev,w,ra,p⟩
 obtain ⟨j1,j2⟩:=hJ θ' h' H ev w
 by_cases hlt:i < xs.length
 ·have ed:xs.drop i=xs[i]::xs.drop (i+1):=QD hlt
  rw [ed] at p
  obtain ⟨g1,g2⟩:=j1 i xs[i] (Pz hlt)
  refine .inr ⟨g1,fun a2 H2=>i+1<=xs.length/\∃ θ' h' acc,Ev θ1 H1 θ' H2/\W G θ' h' H2/\Rl acc a2 θ' H2/\aG G F θ' H2 ((fk tb n ρ g t mk mv (xs.drop (i+1)) acc h').bind fun kvs h2=>R.ok (D.iu tb kvs) h2) (Ml.KV G Q),fun ys' H' q=>⟨xs.length - (i+1),by omega,rfl,q⟩,fun x H2 y=>?_⟩
  obtain ⟨e2,w2,r2⟩:=g2 x H2 y
  have p2:=p.later e2
  unfold fk at p2
  simp only [R.bind_assoc] at p2
  refine ⟨θ',h',_,xs[i],w2,((fr.ev ev).ev e2).replicate n,r2,(aG.dU p2).mono fun ρ3 θ3 h3 H3 _ _ ⟨e3,w3,p3⟩ σ3 fr3=>⟨θ3,h3,ρ3,w3,fr3,(aG.dU p3).mono fun c θ4 h4 H4 _ _ ⟨e4,w4,p4⟩=>?_⟩⟩
  have ev4:=(ev.trans e2).trans (e3.trans e4)
  have ra4:=AR.ev (e2.trans (e3.trans e4)) ra
  cases c with
  | false=>exact ⟨hlt,θ4,h4,acc,ev4,w4,ra4,p4⟩
  | true=>
   simp only [Qe,R.bind_assoc] at p4
   refine ⟨θ4,h4,ρ3,w4,fr3.ev e4,(aG.dU p4).mono fun y θ5 h5 H5 _ _ ⟨e5,w5,p5⟩ v5 r5=>⟨θ5,h5,ρ3,w5,(fr3.ev e4).ev e5,(aG.dU p5).mono fun z θ6 h6 H6 _ _ ⟨e6,w6,p6⟩ v6 r6=>?_⟩⟩
   have ra6:=AR.ev (e5.trans e6) ra4
   have r5':=bS.ev e6 r5
   cases y with
   | dat kd=>
    cases z with
    | dat vd=>
     simp only at p6
     split at p6
     ·rename_i hc
      simp only [Pl,Py] at hc
      exact AR.put w6 r5' r6 ra6 hc.1.1 hc.1.2 hc.2 fun t' rt=>⟨hlt,θ6,h6,_,ev4.trans (e5.trans e6),w6,rt,p6⟩
     ·exact p6.elim
    | _=>exact p6.elim
   | _=>exact p6.elim
 ·have hx:i=xs.length:=by omega
  subst hx
  rw [QN (Pm _)] at p
  simp only [fk,R.ay] at p
  refine .inl ⟨j2,fun q o hq hok=>?_⟩
  obtain ⟨ho,h1,h2⟩:=AR.fin w ra hq hok
  obtain ⟨e3,w3,g3⟩:=w.put (o:=ho) hq
  refine ⟨ho,h1,p _ _ e3 w3 _ ⟨q,rfl,h2.same e3.same fun o' e'=>?_⟩⟩
  rw [aY] at e'
  rw [g3]
  exact e'
theorem xY {G:Gx} {A:Around} {τ:Type} {ok:τ->Obj->Prop} {t0:τ} {Rl:List (PyData×PyData)->τ->List Addr->Hp->Prop} (AR:GF G A tb ok t0 Rl) {n:Nat} {σ:L2.St} {H:Hp} {Q:VK} (h:lE G E (pF tb n it g t mk mv) σ H Q) :
  Ec G.P G.w A ok t0 n (lI G E it) (lG G gz g) (lT G gz t) (lE G gz mk) (lE G gz mv) σ H Q:=by
 obtain ⟨θ,h,ρ,w,fr,p⟩:=h
 simp only [pF] at p
 exact ⟨θ,h,ρ,w,fr,(aG.bind p).mono fun xs θ1 h1 H1 _ _ ⟨ev,w1,p1⟩ J hJ=>zw AR hJ w1 (fr.ev ev) p1⟩
theorem Ed (own:List Str) (tb:Bool) (hr:cg k X.A) (CS:gm X.env.scope X.N own scope=true) (hc:X.calm=true) (hi:DI X E it tg e) (hg:∀ C s2 H2 fp pins,DG (aK X own scope C s2 H2 fp pins) gz g tg)
  (ht:∀ C s2 H2 fp pins,JL (aK X own scope C s2 H2 fp pins) gz t ifs) (hk:∀ C s2 H2 fp pins,DE (aK X own scope C s2 H2 fp pins) gz mk kx) (hv:∀ C s2 H2 fp pins,DE (aK X own scope C s2 H2 fp pins) gz mv vx) (hs:∀ x,foldedSetIterable e X.env x=pure x:=by intro _;rfl) :
  DE X E (pF tb own.length it g t mk mv) (.DictComp kx vx [⟨tg,e,ifs,0⟩] scope pos):=by
 simp only [bj,mE,kI,rX] at *
 cases tb with
 | false=>exact PE.imp (xX (g:=lG X.G gz g) (tc:=lT X.G gz t) (tk:=lE X.G gz mk) (tv:=lE X.G gz mv) own CS hc hi hg ht hk hv (GG (G:=X.G) (A:=X.A)).ok0 (GG (G:=X.G) (A:=X.A)).okd hs) fun σ H Q q=>xY GG q
 | true=>
  have hu:X.A.units+20 < cLine:=by have:=hr.units;omega
  exact PE.imp (xX (g:=lG X.G gz g) (tc:=lT X.G gz t) (tk:=lE X.G gz mk) (tv:=lE X.G gz mv) own CS hc hi hg ht hk hv (J1 (G:=X.G) hu).ok0 (J1 (G:=X.G) hu).okd hs) fun σ H Q q=>xY (J1 hu) q
end
end Ml
namespace Ml
open PySem
def sL:List (Str×Str):=[("grounded", "idle_for_grounded"),("preferred", "idle_for_standing"),("stable", "idle_for_stable"),("standing", "idle_for_standing"),("whole", "idle_for_whole")]
def Ee:MS:=bh (gp (af cL (aa (ae 0) (ag))))
    (bh (gp (af gV (aa (ae 1) (ag))))
    (bh (bT 2 (xU sL (ae 1)))
    (bh (kC (iq (bR (aB 3) (bR (aB 4) (ip)))) (ae 0))
    (bh (bT 5 (pF true 1 (bb (ae 4)) (aB 0) (fH) (ae 0) (aj (.bool true))))
    (bh (bT 6 (cC 2 (bb (ae 4)) (iq (bR (aB 0) (bR (aB 1) (ip)))) (yT (aN (aq oEq (ae 0) (ae 1))) (ki (cM (ni 4 [("idle_for_grounded",bP),("idle_for_standing",bq),("idle_for_stable",ck),("idle_for_whole",cA)] (aa (ae 7) (aa (ae 0) (aa (ae 1) (ag)))))))) (bL (aa (ae 0) (aa (ae 1) (ag))))))
    (cG (bL (aa (ae 3) (aa (af cW (aa (ae 6) (ag))) (ag))))))))))
def oj:Fn:=bE 2 7 Ee
def xZ:MS:=bh (gp (af cL (aa (ae 0) (ag))))
    (bh (gp (af cL (aa (ae 1) (ag))))
    (bh (gp (af gV (aa (ae 2) (ag))))
    (cG (aq oEq (af oj (aa (ae 0) (aa (ae 2) (ag)))) (af oj (aa (ae 1) (aa (ae 2) (ag))))))))
def iK:Fn:=bE 3 3 xZ
def uq:MS:=bh (gp (af cL (aa (ae 0) (ag))))
    (bh (gp (af cL (aa (ae 1) (ag))))
    (cG (af cW (aa (cC 1 (bb (Mm eO)) (aB 0) (cM (af iK (aa (ae 1) (aa (ae 2) (aa (ae 0) (ag)))))) (ae 0)) (ag)))))
def bx:Fn:=bE 2 2 uq
def qf:MS:=bh (mW (aN (aq oLt (ae 1) (af fO (aa (ae 0) (ag))))) (cG (aq dQ (ae 0) (ae 1))) (dI))
    (cG (aj (.int 0)))
def eX:Fn:=bE 2 2 qf
def sM:MS:=bh (bT 1 (af B7 (aa (ae 0) (aa (aq Dt (aj (.int 0)) (ae 0)) (ag)))))
    (cG (jG (aa (ae 1) (aa (af rR (aa (aq Lv (ae 1) (aj (.int (10 ^ 18)))) (ag))) (ag)))))
def hU:Fn:=bE 1 2 sM
def kK:MS:=bh (mW (aN (aq oEq (aq dQ (ae 0) (aj (.int 1))) (aj (.int 1)))) (bh (kC (iq (bR (aB 2) (bR (aB 3) (ip)))) (af nR (aa (aq dQ (ae 0) (aj (.int 0))) (aa (ae 1) (ag)))))
    (bh (kC (xk (ae 0) (aj (.int 0))) (ae 2))
    (cG (ae 3)))) (dI))
    (bh (bT 4 (aq oMod (aq kE (aq dH (aq oMod (aq dQ (ae 0) (aj (.int 0))) (aj (.int 2147483647))) (aj (.int 40503))) (aj (.int 69621))) (aj (.int 2147483629))))
    (bh (bT 4 (aq oMod (aq dH (aq kE (ae 4) (ae 4)) (aj (.int 7817))) (aj (.int 2147483587))))
    (bh (kC (xk (ae 0) (aj (.int 0))) (aq oMod (aq dH (aq kE (ae 4) (aj (.int 48271))) (aj (.int 11))) (aj (.int 2147483629))))
    (cG (aq oMod (aq uY (aq dQ (ae 0) (aj (.int 0))) (aj (.int 32))) (ae 1))))))
def ao:Fn:=bE 2 5 kK
def om:MS:=bh (bT 2 (jG (aa (aj (.str "a")) (aa (aj (.str "aa")) (aa (aj (.str "ab")) (aa (aj (.str "abcdef")) (aa (aj (.str "b")) (aa (aj (.str "c")) (aa (aj (.str "d")) (aa (aj (.str "e")) (aa (aj (.str "m")) (aa (aj (.str "x")) (aa (aj (.str "zz")) (aa (aj (.str "zzzzzz")) (ag)))))))))))))))
    (cG (af cW (aa (af dC (aa (cC 1 (jt (aa (af ao (aa (ae 0) (aa (aq dH (ae 1) (aj (.int 1))) (ag)))) (ag))) (aB 0) (fH) (kJ o8 (ae 3) (af ao (aa (ae 1) (aa (af fO (aa (ae 3) (ag))) (ag)))))) (ag))) (ag))))
def jP:Fn:=bE 2 3 om
def jQ:Fn:=gq jP
def zx:MS:=bh (kC (iq (bR (aB 2) (bR (aB 3) (bR (aB 4) (ip))))) (bL (aa (af jQ (aa (ae 0) (aa (ae 1) (ag)))) (aa (aq dQ (aj (.list [.int 1,.int 2,.int 3,.int 5])) (af ao (aa (ae 0) (aa (aj (.int 4)) (ag))))) (aa (aj (.list [])) (ag))))))
    (bh (qE (bb (ae 2)) (aB 5) (bT 4 (aq dH (ae 4) (cC 1 (bb (ae 2)) (aB 0) (aN (aq oLt (af ao (aa (ae 1) (aa (aj (.int 8)) (ag)))) (ae 4))) (bL (aa (ae 6) (aa (ae 0) (ag))))))))
    (cG (bL (aa (ae 2) (aa (af cW (aa (ae 4) (ag))) (ag))))))
def eU:Fn:=bE 2 6 zx
def mn:MS:=cG (aj (.list [.str "stable",.str "standing",.str "preferred",.str "whole",.str "grounded"]))
def bQ:Fn:=bE 0 0 mn
end Ml
namespace L2
open PySem PySem.Spec
theorem Inv.adopt {X:Cx} {pins:List (Addr×Obj)} {σ:St} {H:Hp} {s:Shared} {D:Addr} {o:HO} (I:Inv X pins σ H s) (f:kj X pins H D) (new:cv X.prog X.w (upd H D o) s.heap D o):Inv X pins σ (upd H D o) s:=by
 obtain ⟨f0,f1,f2,f3,f4,f5⟩:=f
 have u:=I.base
 refine ⟨I.ok,I.os,I.bare,⟨u.keep,u.slot,fun b ob e n hx=>?_,u.there,fun b xs e=>?_,fun b ob xs e=>?_,fun b ps e=>?_⟩,I.loc,I.cell,by rw [aD (Sw f1)];exact I.free,fun x c e=>by rw [aD (f4 x c e)];exact I.freeC x c e,fun p hp=>?_,fun b ob e=>?_,I.len⟩
 ·rw [aD]
  ·exact u.free b ob e n hx
  ·rintro rfl
   rcases f3 with z | z
   ·exact hx z
   ·exact absurd (Pt (Pp e) z) (PZ _)
 ·have:=u.tups b xs e
  rw [aD (aH this f0)];exact this
 ·have:=u.frzs b ob xs e
  rw [aD (aH this f0)];exact this
 ·obtain ⟨more,this⟩:=u.tbls b ps e
  exact ⟨more,by rw [aD (aH this f0)];exact this⟩
 ·obtain ⟨h1,h2,h3⟩:=I.pin p hp
  exact ⟨h1,by rw [aD (f5 p hp)];exact h2,h3⟩
 ·by_cases hb:b=D
  ·subst hb
   rw [aY] at e
   cases e
   exact new
  ·rw [aD hb] at e
   exact (I.hok b ob e).rm (fun _ _ _ q=>q) (fun c q=>by rw [aD (aH q f0)];exact q) fun c xs q=>by rw [aD (aH q f0)];exact q
end L2
namespace Ml
open PySem PySem.Spec L2
def jR:List (Str×ME)->Fm->Hm->R (List (PyData×PyData))
 | [],_,h=>.ok [] h
 | (k,e)::r,ρ,h=>(e ρ h).bind fun y h1=>match y with
  | .dat d=>if kF d then (jR r ρ h1).bind fun kvs h2=>.ok ((.str k,d)::kvs) h2 else .bad
  | _=>.bad
def x5 (acc kvs:List (PyData×PyData)):List (PyData×PyData):=kvs.foldl (fun acc kv=>dput acc kv.1 kv.2) acc
def Ef (kes:List (Str×ME)):ME:=fun ρ h=>(jR kes ρ h).bind fun kvs h1=>.ok (.iu false (x5 [] kvs)) h1
def A9 (kvs:List (PyData×PyData)) (ks:List (Key×V)):Prop:=aP ks=some kvs/\∀ p∈kvs,bY p.1=true/\bY p.2=true
def Oz (G:Gx) (E:XK) (kes:List (Str×ME)) (σ:L2.St) (H:Hp) (Q:List (Key×V)->Hp->Prop):Prop:=
 ∃ θ h ρ,W G θ h H/\Fr G θ H ρ σ/\aG G (n0 G E) θ H (jR kes ρ h) (fun kvs _ _ H'=>∀ ks,A9 kvs ks->Q ks H')
@[irreducible] def KJ (X:Cx) (E:XK) (kes:List (Str×ME)) (pos:Pos) (keys:List (Option Expr)) (values:List Expr):Prop:=
 ∀ (pins:List (Addr×Obj)) (s:Shared) (σ:L2.St) (H:Hp) (Q:List (Key×V)->Hp->Prop),Inv X pins σ H s->Oz X.G E kes σ H Q ->
  wpAny (model X.prog X.w) X.A (evalPairs (pairTrees keys values X.env pos)) (fun vs s'=>∃ ks H',Inv X pins σ H' s'/\VV (ks.map fun kv=>(kV kv.1,kv.2)) vs/\Q ks H') X.xe s
theorem zy (X:Cx) (E:XK) (kes:List (Str×ME)) (pos:Pos) (keys:List (Option Expr)) (values:List Expr):KJ X E kes pos keys values =
 ∀ (pins:List (Addr×Obj)) (s:Shared) (σ:L2.St) (H:Hp) (Q:List (Key×V)->Hp->Prop),Inv X pins σ H s->Oz X.G E kes σ H Q ->
  wpAny (model X.prog X.w) X.A (evalPairs (pairTrees keys values X.env pos)) (fun vs s'=>∃ ks H',Inv X pins σ H' s'/\VV (ks.map fun kv=>(kV kv.1,kv.2)) vs/\Q ks H') X.xe s:=by
 unfold KJ
 rfl
theorem qg:∀ {more:List (Key×V)} {kvs:List (PyData×PyData)} {acc:List (Key×V)} {akv:List (PyData×PyData)},aP more=some kvs->(∀ p∈more,∃ x,p.1=Sum.inr x)->aP acc=some akv->aP (i7 acc more)=some (x5 akv kvs)
 | [],kvs,acc,akv,e,_,a=>by cases e;exact a
 | (q,v)::more,kvs,acc,akv,e,hx,a=>by
  unfold aP at e
  cases e1:fG v with
  | none=>rw [e1] at e;cases e
  | some d=>
   cases e2:aP more with
   | none=>rw [e1,e2] at e;cases e
   | some ds=>
    rw [e1,e2] at e
    cases e
    obtain ⟨x,rfl⟩:=hx (q,v) (by simp)
    show aP (i7 (putK acc (Sum.inr x) v) more)=some (x5 (dput akv (.str x) d) ds)
    exact qg e2 (fun p m=>hx p (by simp [m])) (m9 e1 a)
theorem Eg {acc:List (PyData×PyData)} {k v:PyData} (ha:∀ p∈acc,bY p.1=true/\bY p.2=true) (hk:bY k=true) (hv:bY v=true):∀ p∈dput acc k v,bY p.1=true/\bY p.2=true:=by
 intro p hp
 unfold dput at hp
 split at hp
 ·obtain ⟨p0,hp0,e0⟩:=P8.mp hp
  split at e0
  ·subst e0
   exact ⟨(ha p0 hp0).1,hv⟩
  ·subst e0
   exact ha p0 hp0
 ·rcases PL.mp hp with hp | hp
  ·exact ha p hp
  ·simp at hp
   subst hp
   exact ⟨hk,hv⟩
theorem vf:∀ {kvs acc:List (PyData×PyData)},(∀ p∈acc,bY p.1=true/\bY p.2=true)->(∀ p∈kvs,bY p.1=true/\bY p.2=true)->∀ p∈x5 acc kvs,bY p.1=true/\bY p.2=true
 | [],acc,ha,_=>ha
 | q::kvs,acc,ha,hk=>vf (kvs:=kvs) (acc:=dput acc q.1 q.2) (Eg ha (hk q (by simp)).1 (hk q (by simp)).2) fun p m=>hk p (by simp [m])
section
variable {X:Cx} {E:XK} {m md mk mx:ME} {e k v o f:Expr} {ks:List (Option Expr)} {vs:List Expr} {kes:List (Str×ME)} {pos apos cpos:Pos} {x:Str} {n:Nat}
theorem GH:KJ X E [] pos [] []:=by
 simp only [zy]
 exact fun pins s σ H Q I ⟨θ,h,ρ,w,fr,p⟩=>pairTrees_nil_walk ⟨[],H,I,.nil,p θ H Ev.refl w [] ⟨rfl,fun p m=>nomatch m⟩⟩
theorem sN (hk:DE X E (aj (.str x)) k) (hv:DE X E m v) (hr:KJ X E kes pos ks vs):KJ X E ((x,m)::kes) pos (some k::ks) (v::vs):=by
 simp only [zy,bj] at *
 intro pins s σ H Q I ⟨θ,h,ρ,w,fr,p⟩
 refine pairTrees_cons_walk (bV (hk pins s σ H (fun u H1=>(u=.str x/\PyData.strOk x=true)/\∃ θ1,W X.G θ1 h H1/\Fr X.G θ1 H1 ρ σ/\aG X.G (n0 X.G E) θ1 H1 (jR ((x,m)::kes) ρ h) (fun kvs _ _ H'=>∀ ks,A9 kvs ks->Q ks H')) I ⟨θ,h,ρ,w,fr,fun θ1 H1 ev w1 u r=>⟨dE r,θ1,w1,fr.ev ev,p.later ev⟩⟩) fun u s1 ⟨y,H1,I1,ry,⟨ey,sx⟩,θ1,w1,fr1,p1⟩=>?_)
 subst ey
 refine bV (hv pins s1 σ H1 (fun z H2=>∃ d θ2 h2,fG z=some d/\bY d=true/\W X.G θ2 h2 H2/\Fr X.G θ2 H2 ρ σ/\aG X.G (n0 X.G E) θ2 H2 (jR kes ρ h2) (fun kvs _ _ H'=>∀ ks,A9 ((.str x,d)::kvs) ks->Q ks H')) I1 ⟨θ1,h,ρ,w1,fr1,(aG.bind (r:=m ρ h) p1).mono fun z θ2 h2 H2 _ _ ⟨ev,w2,p2⟩ v r=>?_⟩) fun u2 s2 ⟨z,H2,I2,rz,d,θ2,h2,sz,so,w2,fr2,p2⟩=>?_
 ·cases z with
  | dat d=>
   simp only at p2
   split at p2
   ·rename_i fd
    refine ⟨d,θ2,h2,sI fd r.1,r.2,w2,fr1.ev ev,(aG.bind p2).mono fun kvs θ3 h3 H3 _ _ ⟨ev3,w3,p3⟩=>p3 θ3 H3 Ev.refl w3⟩
   ·exact p2.elim
  | _=>exact p2.elim
 ·refine bV (hr pins s2 σ H2 (fun ks H3=>Q ((Sum.inr x,z)::ks) H3) I2 ⟨θ2,h2,ρ,w2,fr2,p2.mono fun kvs θ3 h3 H3 _ _ q ks rk=>q _ ⟨by unfold aP;rw [sz,rk.1];rfl,fun p hp=>?_⟩⟩) fun ws s3 ⟨ks,H3,I3,rel,q3⟩=>⟨(Sum.inr x,z)::ks,H3,I3,.cons ⟨ry,rz⟩ rel,q3⟩
  rcases Pn.mp hp with rfl | hp
  ·exact ⟨by simpa [bY] using sx,so⟩
  ·exact rk.2 p hp
theorem Ba:∀ {ks:List (Key×V)} {kvs:List (PyData×PyData)},aP ks=some kvs->(∀ p∈kvs,fN p.1=true)->∀ p∈ks,∃ x,p.1=Sum.inr x
 | [],_,_,_,p,hp=>nomatch hp
 | (q,v)::ks,kvs,e,hs,p,hp=>by
  unfold aP at e
  cases e1:fG v with
  | none=>rw [e1] at e;cases e
  | some d=>
   cases e2:aP ks with
   | none=>rw [e1,e2] at e;cases e
   | some ds=>
    rw [e1,e2] at e
    cases e
    rcases Pn.mp hp with rfl | hp
    ·have:=hs (ui q,d) (by simp)
     cases q with
     | inl i=>simp [ui,fN] at this
     | inr x=>exact ⟨x,rfl⟩
    ·exact Ba e2 (fun p m=>hs p (by simp [m])) p hp
theorem vg:∀ {kes:List (Str×ME)} {ρ:Fm} {h:Hm} {kvs:List (PyData×PyData)} {h':Hm},jR kes ρ h=.ok kvs h'->kvs.length=kes.length/\∀ p∈kvs,fN p.1=true
 | [],ρ,h,kvs,h',e=>by cases e;exact ⟨rfl,fun p m=>nomatch m⟩
 | (k,m)::kes,ρ,h,kvs,h',e=>by
  unfold jR at e
  cases e1:m ρ h with
  | bad=>rw [e1] at e;cases e
  | exc x h1=>rw [e1] at e;cases e
  | ok y h1=>
   rw [e1] at e
   simp only [R.ay] at e
   split at e
   ·split at e
    ·cases e2:jR kes ρ h1 with
     | bad=>rw [e2] at e;cases e
     | exc x h1=>rw [e2] at e;cases e
     | ok kv2 h2=>
      rw [e2] at e
      cases e
      obtain ⟨q1,q2⟩:=vg e2
      exact ⟨by simp [q1],fun p hp=>by rcases Pn.mp hp with rfl | hp;rfl;exact q2 p hp⟩
    ·cases e
   ·cases e
theorem GI (hp:KJ X E kes pos ks vs) (hall:ks.all (·.isSome)=true:=by rfl) (hl:ks.length=vs.length:=by rfl) (hk:ks.length=kes.length:=by rfl) (h0:ks≠[]:=by simp) (h15:ks.length<=15:=by decide):DE X E (Ef kes) (.Dict ks vs pos):=by
 simp only [zy,bj] at *
 intro pins s σ H Q I ⟨θ,h,ρ,w,fr,p⟩
 have hD:H s.heap.objs.size=none:=I.hok.fresh (Pm _)
 have fD:=I.BJ (b:=s.heap.objs.size) (Pm _) hD
 have I1:Inv X pins σ H {s with heap:=s.heap.push {cls:=.type "dict",data:=.dict #[]}}:=I.kept (t':=s.toks) fun b u q=>Pj _ q
 have gD:(s.heap.push {cls:=.type "dict",data:=.dict #[]}).get? s.heap.objs.size=some {cls:=.type "dict",data:=.dict #[]}:=Po _ rfl
 have I1p:=I1.pinned (fp:=[s.heap.objs.size]) (fun b hb=>(PV.mp hb)▸fD) fun b hb=>⟨_,(PV.mp hb)▸gD,fun v z=>by cases z⟩
 refine wpAny_Dict_walk (knd:=bH X.prog X.w) hall hl h0 h15 (bV (hp _ _ σ H (fun ks2 H2=>∃ θ2 h2 kvs,W X.G θ2 h2 H2/\A9 kvs ks2/\(kvs.length=kes.length/\∀ p∈kvs,fN p.1=true)/\aG X.G (n0 X.G E) θ2 H2 (R.ok (D.iu false (x5 [] kvs)) h2) (Ml.KV X.G Q)) I1p ⟨θ,h,ρ,w,fr,?_⟩) fun ws s2 ⟨ks2,H2,I2,rel,θ2,h2,kvs,w2,rk,dk,p2⟩=>?_)
 ·unfold Ef at p
  cases e:jR kes ρ h with
  | bad=>rw [e] at p;exact p.elim
  | exc x h1=>rw [e] at p;exact p
  | ok kvs h1=>
   rw [e] at p
   exact fun θ2 H2 ev w2 ks2 rk=>⟨θ2,h1,kvs,w2,rk,vg e,aG.later p ev⟩
 obtain ⟨rs,c,rkv⟩:=mT (P:=X.prog) (w:=X.w) rel
 have pD:=I2.pin (s.heap.objs.size,_) (PD _ (PD _ (cB (by simp) gD)))
 obtain ⟨g2,n2,_⟩:=pD
 have d0:s2.heap.DictOf (bH X.prog X.w) s.heap.objs.size []:=(GG (G:=X.G) (A:=X.A)).ok0.2.2.elim fun vs0 ⟨kv0,q⟩=>by cases kv0;exact q _ _ g2
 refine ⟨rs,c,d0,fun h' dd' hs=>?_⟩
 have hz:(i7 [] ks2).length<=sizeLine:=by
  have h1:=i8 ks2 []
  rw [Ql,jN rk.1,dk.1,<- hk] at h1
  rw [QH];omega
 have I3:=(I2.nG).turned (t':=s2.toks+ws.length) (fun b ob hb e=>(hs.2 b hb).trans e) n2 fD.2.1 fD.2.2.2.1 fD.2.2.2.2.1 fD.2.2.2.2.2
 have ne:s.heap.objs.size≠sysModules:=Sw (PM I.big)
 have I4:=I3.adopt (D:=s.heap.objs.size) (o:=.dK (i7 [] ks2)) ⟨n2,fD.2⟩ (v7 hz (QO.mpr ne) (rkv.merge .nil) dd')
 obtain ⟨e3,w3,g3⟩:=w2.put (o:=.dK (i7 [] ks2)) n2
 exact ⟨.ref s.heap.objs.size,_,I4,rfl,p2 _ _ e3 w3 _ ⟨_,rfl,.inl ⟨rfl,_,g3,qg rk.1 (Ba rk.1 dk.2) rfl,vf (fun p m=>nomatch m) rk.2⟩⟩⟩
def LL (d k x:D) (h:Hm):R D:=match d,k with
 | .iu false kvs,.dat (.str s)=>match rO kvs (.str s) with
  | some v=>.ok (.dat v) h
  | Option.none=>.ok x h
 | _,_=>.bad
def Eh:D->Bool
 | .iu false _=>true
 | _=>false
def LM (d k x:ME):ME:=fun ρ h=>(d ρ h).bind fun y h1=>if Eh y then (k ρ h1).bind fun z h2=>(x ρ h2).bind fun u h3=>LL y z u h3 else .bad
theorem qh {x:Str}:∀ {ks:List (Key×V)} {kvs:List (PyData×PyData)},aP ks=some kvs->rO kvs (.str x)=none->oZ ks (Sum.inr x)=none
 | [],kvs,e,g=>by cases e;rfl
 | (q,v)::ks,kvs,e,g=>by
  unfold aP at e
  cases e1:fG v with
  | none=>rw [e1] at e;cases e
  | some d'=>
   cases e2:aP ks with
   | none=>rw [e1,e2] at e;cases e
   | some ds=>
    rw [e1,e2] at e
    cases e
    unfold rO at g
    rw [QZ,wC] at g
    by_cases hq:q=Sum.inr x
    ·simp [hq] at g
    ·simp only [hq,TL] at g
     rw [kz (p:=(q,v)) hq]
     exact qh (x:=x) e2 g
theorem J2 (hr:cg n X.A) (hd:DE X E md o) (hk:DE X E mk e) (hx:DE X E mx f) (mm:M2 X o "get" apos e f cpos):DE X E (LM md mk mx) (.Call (.Attribute o "get" apos) [e,f] [] cpos):=by
 simp only [bj] at *
 refine PE.imp (Dd (by have:=hr.units;omega) hd hk hx mm) fun σ H Q ⟨θ,h,ρ,w,fr,p⟩=>⟨θ,h,ρ,w,fr,(aG.bind p).mono fun y θ1 h1 H1 _ _ ⟨ev,w1,p1⟩ v r=>?_⟩
 split at p1
 ·rename_i hy
  cases y with
  | iu t kvs=>
   have ht:t=false:=by cases t with | false=>rfl | true=>simp [Eh] at hy
   subst ht
   obtain ⟨a,rfl,dc⟩:=r
   have dc1:=dc.same (G':=H1) (bD.refl _) fun ob q=>aA _ _ _ _ q
   refine ⟨a,rfl,?_,θ1,h1,ρ,w1,fr.ev ev,(aG.bind p1).mono fun z θ2 h2 H2 _ _ ⟨ev2,w2,p2⟩ u ru=>⟨θ2,h2,ρ,w2,(fr.ev ev).ev ev2,(aG.bind p2).mono fun x θ3 h3 H3 _ _ ⟨ev3,w3,p3⟩ ux rx=>?_⟩⟩
   ·rcases dc1 with ⟨_,ks,q,_⟩ | ⟨z,xs,q,_⟩
    ·exact .inl ⟨ks,.inl q⟩
    ·cases z
   ·have dc3:=(dc.same (G':=view θ3 H3) (ev2.trans ev3).same fun ob q=>(ev2.trans ev3).same _ _ q).same (G':=H3) (bD.refl _) fun ob q=>aA _ _ _ _ q
    unfold LL at p3
    cases z with
    | dat zd=>
     cases zd with
     | str q=>
      obtain ⟨eu,_⟩:=dE ru
      subst eu
      rcases dc3 with ⟨_,ks,q1,q2,q3⟩ | ⟨z,_⟩
      ·simp only at p3
       cases g:rO kvs (.str q) with
       | some v=>
        rw [g] at p3
        obtain ⟨u,q4,q5⟩:=nc q2 g
        refine ⟨some u,.inl ⟨ks,Sum.inr q,.inl q1,rfl,q4.symm⟩,p3 θ3 H3 Ev.refl w3 u ⟨xM q5,?_⟩⟩
        unfold rO at g
        obtain ⟨pr,hp,e'⟩:=Qh.mp g
        rw [<- e']
        exact (q3 pr (List.mem_of_find?_eq_some hp)).2
       | none=>
        rw [g] at p3
        exact ⟨none,.inl ⟨ks,Sum.inr q,.inl q1,rfl,(qh q2 g).symm⟩,p3 θ3 H3 Ev.refl w3 ux rx⟩
      ·cases z
     | _=>exact p3.elim
    | _=>exact p3.elim
  | _=>simp [Eh] at hy
 ·exact p1.elim
end
end Ml
namespace Ml
open PySem
def sO:MS:=bh (Dq [4,5,6] (aa (aq nQ (bL (aa (ae 2) (aa (ae 2) (ag)))) (aq dQ (ae 0) (aj (.int 1)))) (aa (aq nQ (bL (aa (ae 3) (aa (ae 3) (ag)))) (aq dQ (ae 0) (aj (.int 1)))) (aa (aq nQ (bL (aa (ae 3) (aa (ae 2) (ag)))) (aq dQ (ae 0) (aj (.int 1)))) (ag)))))
    (cG (LM (Ef [("stable",ae 4),("whole",kb (ae 4) (ae 5)),("grounded",kb (ae 5) (Cf (ae 4) (ae 6)))]) (ae 1) (kb (ae 4) (Cf (ae 6) (ae 5)))))
def cb:Fn:=bE 4 7 sO
def ur:MS:=bh (bT 2 (jG (ag)))
    (bh (qE (bb (aq dQ (ae 0) (aj (.int 1)))) (iq (bR (aB 3) (bR (aB 4) (ip)))) (mW (yT (aN (aq oEq (ae 3) (ae 4))) (ki (cM (af cb (aa (ae 0) (aa (ae 1) (aa (ae 3) (aa (ae 4) (ag))))))))) (gp (kJ dR (ae 2) (bL (aa (ae 3) (aa (ae 4) (ag)))))) (dI)))
    (cG (bL (aa (aq dQ (ae 0) (aj (.int 0))) (aa (af cW (aa (ae 2) (ag))) (ag))))))
def uv:Fn:=bE 2 5 ur
def bK:Fn:=gq uv
end Ml
set_option maxHeartbeats 4000000
namespace PySem.W
open PySem PySem.Calls PyProof.Rows
section
variable {prog:Program} {w:World} {A:Around} {E:Value->Shared->Prop} {s:Shared}
theorem x6 {l:Addr} {vs:List Value} {Q:List Value->Shared->Prop} (hl:s.heap.IsTuple l vs.toArray)
  (h:Q vs {s with heap:=(s.heap.push (seqObj "list" #[] 0)).update s.heap.objs.size (Obj.mapSeq (·++vs.toArray))}) (hz:vs.length<=sizeLine):wpAny (model prog w) A (collect (.ref l)) Q E s:=by
 obtain ⟨o,ho,hc,n,hd⟩:=id hl
 have gL:(s.heap.push (seqObj "list" #[] 0)).get? s.heap.objs.size=some (seqObj "list" #[] 0):=Po _ rfl
 have gT:(s.heap.push (seqObj "list" #[] 0)).get? l=some o:=Pj _ ho
 unfold collect
 refine Ph (wpAny_runValue (Rf entry_proto_collect' (Ph (Tf (Pk ⟨Code.quiet_builtin _ (by decide +kernel),Rf entry_list_iadd' ?_⟩)))))
 show wpAny _ _ (Builtin.List.listExtendWith (.ref s.heap.objs.size) (.ref l) (.ref s.heap.objs.size)) _ _ {s with heap:=s.heap.push (seqObj "list" #[] 0)}
 unfold Builtin.List.listExtendWith
 refine Ph (Sn (T := "tuple") ⟨o,gT,hc⟩ ?_)
 rw [if_pos (by rw [show (Value.type "tuple" == Value.type "tuple")=true from rfl];simp)]
 refine Ph (listItems_at gT hd (Ph (listItems_at (xs:=#[]) (n:=0) gL rfl ?_)))
 rw [if_neg (by simp)]
 refine Ph (listUpdate_at (xs:=#[]) (n:=0) gL rfl (Pk ?_) (QS _) (by show (#[]++vs.toArray).size<=sizeLine+1;simp only [Array.size_append,Pu,Ql];omega))
 show wpAny (model prog w) A (do
   let o <- load s.heap.objs.size
   match o.data with | .seq xs _=>pure xs.toList | _=>unsupported "internal:collect") Q E {s with heap:=(s.heap.push (seqObj "list" #[] 0)).update s.heap.objs.size (Obj.mapSeq (·++vs.toArray))}
 refine Ph (Sl (get?_update_seq gL _) ?_)
 have ev:((#[]:Array Value)++vs.toArray).toList=vs:=by simp
 show wpAny _ _ (pure ((#[]:Array Value)++vs.toArray).toList) Q E _
 rw [ev]
 exact Pk h
theorem x8 {l:Addr} {vs:List Value} {lt:Nat->Nat->Bool} {Q:Value->Shared->Prop} (hl:s.heap.IsTuple l vs.toArray) (O:kB lt vs.length) (h64:vs.length < 64)
  (hk:∀ h',(∀ b o,s.heap.get? b=some o->h'.get? b=some o)->2<=vs.length->B3 prog w A.in1.in1 vs lt {s with heap:=h'})
  (h:∀ p:Array Nat,cj vs.length p->xf lt p vs.length->Q (.ref (s.heap.objs.size+1)) {s with heap:=sortedAll s.heap vs (p.toList.map fun i=>vs.getD i Value.none).toArray}) :
  wpAny (model prog w) A (call (.builtin "sorted") [.ref l]) Q E s:=by
 refine Sb kind_sorted plain_sorted entry_sorted (args_sorted1 _) ?_
 unfold Builtin.«sorted»
 refine Ph (m:=checkCount "sorted" 1 1 _) (Pk ?_)
 refine Ph (x6 hl (hz:=by rw [QH];omega) ?_)
 refine Ph (Tf ?_)
 have hsz:((s.heap.push (seqObj "list" #[] 0)).update s.heap.objs.size (Obj.mapSeq (·++vs.toArray))).objs.size=s.heap.objs.size+1:=by
  rw [RO,size_push']
 have hoL:(((s.heap.push (seqObj "list" #[] 0)).update s.heap.objs.size (Obj.mapSeq (·++vs.toArray))).push (seqObj "list" vs.toArray 0)).get? (s.heap.objs.size+1)=some (seqObj "list" vs.toArray 0):=by
  rw [<- hsz];exact Po _ rfl
 show wpAny _ _ _ _ _ {s with heap:=((s.heap.push (seqObj "list" #[] 0)).update s.heap.objs.size (Obj.mapSeq (·++vs.toArray))).push (seqObj "list" vs.toArray 0)}
 rw [hsz]
 refine Ph (Qk (Qa slot_list_sort ⟨_,hoL,rfl⟩ entry_list_sort (ja hoL O h64 (fun h' k h2=>hk h' (fun b o q=>?_) h2) fun p a1 a2=>⟨_,rfl,?_⟩) (args_list_sort _)))
 ·have hlt:b < s.heap.objs.size:=Pp q
  refine k b o (PM (Qx hlt)) ?_
  show (((s.heap.push (seqObj "list" #[] 0)).update s.heap.objs.size (Obj.mapSeq (·++vs.toArray))).push (seqObj "list" vs.toArray 0)).get? b=some o
  rw [QT _ _ _ (by rw [hsz];exact PM (Qx hlt)),To _ _ _ _ (PM hlt),QT _ _ _ (PM hlt)]
  exact q
 ·exact Pk ⟨_,rfl,h p a1 a2⟩
end
end PySem.W
namespace Ml
open PySem PySem.Spec L2
section
variable {X:Cx} {E:XK} {k:Nat} {θ:List Addr} {hm:Hm} {H:Hp}
def J3:List V->Hp->VK->Prop:=fun xs H Q=>∃ (a:Addr) (vs:List V) (M:Hp) (ds:List PyData),xs=[.ref a]/\H a=some (.tup vs)/\bD M H/\aZ M ds vs/\cy ds=true/\cN ds=true /\
 ∀ (p:Addr) (us:List V),H p=none->aZ M (cx ltB ds) us->us.length<=sizeLine->Q (.ref p) (upd H p (.lst us))
theorem wH (hr:cg k X.A):df X (.builtin "sorted") J3:=by
 intro pins s σ H xs us Q I r h
 obtain ⟨a,vs,M,ds,rfl,ha,sm,rp,so,ok,q⟩:=h
 simp only [cN,Pl,Py,QK] at ok
 obtain ⟨⟨⟨⟨kd,tr⟩,cm⟩,dp⟩,h64⟩:=ok
 cases r with
 | cons r rr=>
  cases rr
  cases r
  obtain ⟨its,rv,pl,_⟩:=I.tuple (gx.of (K:=X.K) ha)
  have hlen:vs.length=ds.length:=rp.length
  have hlen2:its.length=ds.length:=by rw [<- rv.length];exact hlen
  obtain ⟨as,ra⟩:=aZ.reads I (rp.same sm) rv
  have nd:PyData.hasDictAll ds=false:=fg tr
  have la:=lK so nd
  have O:=JP (fP cm tr)
  rw [<- hlen2] at O
  refine PySem.W.x8 pl O (by omega) (fun h' kp h2=>?_) fun p hp hs=>?_
  ·have ra':ReadsAll h' its ds as:=Qu kp ra
   rcases kd with kd | kd
   ·exact pA (s:={s with heap:=h'}) ra' kd h2
   ·exact pv (s:={s with heap:=h'}) (by have:=hr.un;show X.A.units+1+1+41 < cLine;omega) ra' kd tr cm la dp (by omega)
  ·have ge:s.heap.objs.size<=s.heap.objs.size+1:=QR _
   have nn:H (s.heap.objs.size+1)=none:=I.hok.fresh ge
   obtain ⟨e,he⟩:=PyProof.Rows.sortedAll_at s.heap its (p.toList.map fun i=>its.getD i Value.none).toArray
   have hin:∀ i∈p.toList,i < vs.length:=fun i hi=>by
    have:=Qo.mp (hp.perm.mem_iff.mp hi)
    omega
   have hlp:p.toList.length=ds.length:=by rw [hp.perm.length_eq,SN,hlen2]
   have hz:(p.toList.map fun i=>vs.getD i .non).length<=sizeLine:=by
    rw [PX,hlp]
    exact Pq (Sj h64) (by decide)
   refine ⟨.ref _,_,I.laid (t':=s.toks) (o:=.lst (p.toList.map fun i=>vs.getD i .non)) (fun b o k=>PyProof.Rows.sortedAll_old k) ge ⟨hz,_,e,o6 rv p.toList hin,by simpa [PyProof.Rows.seqObj] using he⟩,rfl,q _ _ nn ?_ hz⟩
   have e1:(p.toList.map fun i=>ds.getD i .none)=cx ltB ds:=by
    refine rV cm tr ?_ ?_
    ·have:=hp.perm.map (fun i=>ds.getD i .none)
     rw [hlen2,gP] at this
     exact this
    ·unfold Up
     rw [RH,QV]
     intro i j hi hj hij
     have e1:PySem.W.pat p i=p.toList[i]:=by simp only [Qj] at hi;rw [PySem.W.gC,Ss p i hi];simp
     have e2:PySem.W.pat p j=p.toList[j]:=by simp only [Qj] at hj;rw [PySem.W.gC,Ss p j hj];simp
     have:=hs i j hij (by rw [hlen2];omega)
     rw [e1,e2] at this
     exact this
   rw [<- e1]
   exact o7 rp .none p.toList hin
def pG:Fn:=fun xs h=>match xs with
 | [.dat (.tuple ds)]=>if cN ds then .ok (.dat (.list (cx ltB ds))) h else .bad
 | _=>.bad
theorem GJ (hr:cg k X.A):qG X E (.builtin "sorted") pG:=qG.of (wH hr) fun θ hm H ds xs Q w r p=>by
 unfold pG at p
 split at p
 ·rename_i ys
  cases r with
  | cons r rr=>
   cases rr
   split at p
   ·rename_i ok
    have so:cy ys=true:=by simpa [bY] using r.2
    obtain ⟨a,vs,rfl,ha,rp,_⟩:=fX r
    refine ⟨a,vs,view θ H,ys,rfl,aA _ _ _ _ ha,aA _ _,rp,so,ok,fun q us hq ru hz=>?_⟩
    obtain ⟨e1,w1,g⟩:=w.put (o:=.lst us) hq
    refine p _ _ e1 w1 _ ⟨⟨q,us,rfl,g,ru.same e1.same⟩,?_⟩
    simp only [bY]
    exact pB (bo _ _).symm so
   ·exact p.elim
 ·exact p.elim
end
end Ml
namespace Ml
open PySem
def qH:MS:=bh (kC (iq (bR (aB 2) (bR (aB 3) (ip)))) (ae 1))
    (bh (qE (jt (aa (aq dH (aj (.int 1)) (af ao (aa (ae 0) (aa (aj (.int 2)) (ag))))) (ag))) (aB 4) (mW (aN (aq nE (ae 2) (aj (.tuple [])))) (bh (bT 5 (bL (aa (aq dQ (ae 2) (af ao (aa (ae 0) (aa (af fO (aa (ae 2) (ag))) (ag))))) (aa (aq dQ (ae 2) (af ao (aa (ae 0) (aa (af fO (aa (ae 2) (ag))) (ag))))) (ag)))))
    (mW (aN (aq nQ (ae 5) (ae 3))) (bT 3 (af cW (aa (cC 1 (bb (ae 3)) (aB 0) (aN (aq nE (ae 0) (ae 6))) (ae 0)) (ag)))) (bT 3 (af cW (aa (af pG (aa (aq dH (ae 3) (bL (aa (ae 5) (ag)))) (ag))) (ag)))))) (dI)))
    (bh (mW (aN (aq oEq (af ao (aa (ae 0) (aa (aj (.int 5)) (ag)))) (aj (.int 0)))) (bT 2 (af cW (aa (af cX (aa (aq dH (ae 2) (aj (.tuple [.str "q"]))) (ag))) (ag)))) (dI))
    (cG (bL (aa (ae 2) (aa (ae 3) (ag)))))))
def du:Fn:=bE 2 6 qH
def sP:MS:=bh (bT 2 (aj (.list [])))
    (bh (qE (bb (aq dQ (ae 0) (aj (.int 0)))) (aB 3) (bT 2 (aq dH (ae 2) (cC 1 (bb (aq dQ (ae 0) (aj (.int 0)))) (aB 0) (vR (aN (aq nE (ae 4) (ae 0))) (cM (af cb (aa (ae 1) (aa (ae 2) (aa (ae 4) (aa (ae 0) (ag)))))))) (bL (aa (ae 4) (aa (ae 0) (ag))))))))
    (cG (bL (aa (aq dQ (ae 0) (aj (.int 0))) (aa (af cW (aa (af cX (aa (aq dH (af rQ (aa (aq dQ (ae 0) (aj (.int 1))) (ag))) (ae 2)) (ag))) (ag))) (ag))))))
def fm:Fn:=bE 2 4 sP
def uw:MS:=bh (bT 2 (aq dH (cC 1 (bb (ae 0)) (aB 0) (aN (aq wg (ae 0) (ae 2))) (ae 0)) (cC 1 (bb (ae 1)) (aB 0) (aN (aq wg (ae 0) (ae 1))) (ae 0))))
    (cG (af cW (aa (af dC (aa (ae 2) (ag))) (ag))))
def f7:Fn:=bE 2 3 uw
def x9:MS:=bh (kC (iq (bR (aB 3) (bR (aB 4) (ip)))) (ae 1))
    (bh (qE (jt (aa (aq kE (af ao (aa (ae 0) (aa (aq dH (ae 2) (aj (.int 1))) (ag)))) (af rR (aa (aq nE (ae 3) (aj (.tuple []))) (ag)))) (ag))) (aB 5) (bh (bT 6 (bL (aa (aq dQ (ae 3) (af ao (aa (ae 0) (aa (af fO (aa (ae 3) (ag))) (ag))))) (aa (aq dQ (ae 3) (af ao (aa (ae 0) (aa (af fO (aa (ae 3) (ag))) (ag))))) (ag)))))
    (bT 4 (af f7 (aa (ae 4) (aa (bL (aa (ae 6) (ag))) (ag)))))))
    (cG (bL (aa (ae 3) (aa (ae 4) (ag))))))
def dN:Fn:=bE 3 7 x9
def uy:MS:=bh (bT 2 (cC 1 (bb (aq dQ (ae 1) (aj (.int 0)))) (aB 0) (aN (aq oEq (af ao (aa (ae 1) (aa (aj (.int 2)) (ag)))) (aj (.int 0)))) (bL (aa (ae 0) (aa (ae 0) (ag))))))
    (cG (bL (aa (aq dQ (ae 1) (aj (.int 0))) (aa (af cW (aa (af cX (aa (aq dH (af rQ (aa (aq dQ (ae 1) (aj (.int 1))) (ag))) (ae 2)) (ag))) (ag))) (ag)))))
def bX:Fn:=bE 2 3 uy
def zz:MS:=bh (bT 2 (af bX (aa (ae 0) (aa (af eU (aa (ae 0) (aa (ae 1) (ag)))) (ag)))))
    (bh (bT 3 (aq dQ (af bQ ag) (af ao (aa (ae 0) (aa (aj (.int 5)) (ag))))))
    (bh (bT 4 (jG (aa (af dN (aa (ae 0) (aa (ae 2) (aa (aj (.int 1)) (ag))))) (aa (af dN (aa (ae 0) (aa (ae 2) (aa (aj (.int 3)) (ag))))) (aa (af bK (aa (ae 2) (aa (ae 3) (ag)))) (aa (af fm (aa (ae 2) (aa (ae 3) (ag)))) (ag)))))))
    (bh (gp (kJ dR (ae 4) (bL (aa (aq dQ (ae 2) (aj (.int 0))) (aa (aq dQ (af bX (aa (ae 0) (aa (bL (aa (aq dQ (ae 2) (aj (.int 0))) (aa (aj (.tuple [])) (ag)))) (ag)))) (aj (.int 1))) (ag))))))
    (cG (bL (aa (ae 2) (aa (aq dQ (ae 4) (af ao (aa (ae 0) (aa (aj (.int 5)) (ag))))) (ag))))))))
def zA:Fn:=bE 2 5 zz
def jS:Fn:=gq zA
end Ml
namespace Ml
open PySem PySem.Spec L2
def NI (x:D) (lo hi:Option Int) (h:Hm):R D:=match x with
 | .scr ns=>.ok (.dat (.list (cut (ns.map PyData.int) lo hi))) h
 | _=>.bad
def Ei (e:ME) (lo hi:Fs):ME:=fun ρ h=>(e ρ h).bind fun x h1=>(lo ρ h1).bind fun l h2=>(hi ρ h2).bind fun u h3=>NI x l u h3
section
variable {X:Cx} {E:XK} {m:ME} {e:Expr} {pos:Pos}
def LN (G:Gx) (E:XK):V->Option Int->Option Int->Hp->VK->Prop:=fun x lo hi H Q=>∃ θ h d,W G θ h H/\bS G θ H d x/\aG G (n0 G E) θ H (NI d lo hi h) (KV G Q)
theorem vh {M:Hp}:∀ (ns:List Int),aZ M (ns.map PyData.int) (ns.map V.int)
 | []=>rfl
 | n::ns=>⟨_,_,rfl,rfl,vh ns⟩
theorem J4:KG X (LN X.G E):=by
 intro pins s σ H x v vl vu lo hi sl Q I rx hs pl pu ⟨θ,h,d,w,r,p⟩
 unfold NI at p
 split at p
 ·rename_i ns
  obtain ⟨a,rfl,sq⟩:=r
  refine Av pins s σ H _ v vl vu lo hi sl Q I rx hs pl pu ⟨a,ns.map V.int,rfl,(aA θ H).seq sq,fun q hq=>?_⟩
  obtain ⟨e1,w1,g⟩:=w.put (o:=.lst (rE (ns.map V.int) lo hi)) hq
  refine p _ _ e1 w1 _ ⟨⟨q,_,rfl,g,(AY (vh ns) lo hi).same e1.same⟩,?_⟩
  simp only [bY]
  exact sD (bF.mpr fun d m=>by obtain ⟨n,_,rfl⟩:=P8.mp m;rfl) lo hi
 ·exact p.elim
theorem Cg {lo hi:Option Expr} {ml mh:Fs} {p2:Pos} (he:DE X E m e) (hl:DO X E ml lo) (hu:DO X E mh hi):DE X E (Ei m ml mh) (.Subscript e (.Slice lo hi none p2) pos):=by
 simp only [bj,AX] at *
 exact PE.imp (xo J4 he hl hu) fun σ H Q ⟨θ,h,ρ,w,fr,p⟩=>⟨θ,h,ρ,w,fr,(aG.bind p).mono fun d θ1 h1 H1 _ _ ⟨ev,w1,p1⟩ v r=>
   ⟨θ1,h1,ρ,w1,fr.ev ev,(aG.bind p1).mono fun l θ2 h2 H2 _ _ ⟨ev2,w2,p2⟩=>⟨θ2,h2,ρ,w2,(fr.ev ev).ev ev2,(aG.bind p2).mono fun u θ3 h3 H3 _ _ ⟨ev3,w3,p3⟩=>⟨θ3,h3,d,w3,(r.ev ev2).ev ev3,p3⟩⟩⟩⟩
end
theorem nF {N ps:List Str} {sc:Scope} (a:sc.kind=.function:=by rfl) (b:sc.isCoroutine=false:=by rfl) (c:sc.isGenerator=false:=by rfl) (d:N.Nodup:=by decide +kernel) (e:N.take ps.length=ps:=by rfl)
  (f:∀ x∈ps,sc.names.lookup x=some .local\/sc.names.lookup x=some .cell:=by decide +kernel) (g:∀ y∈sc.names,y.2≠.free:=by decide +kernel):aO N ps sc:=⟨a,b,c,d,e,f,g⟩
section
variable {X:Cx} {E:XK} {x:Str} {ps:List Str} {k j:Nat} {F:Fn} {e e1 e2:Expr} {es:List Expr} {ma:MA} {m1 m2:ME} {p pos:Pos}
theorem f9 (F':bg X.prog X.w X.K X.mg X.base x ps k F) (hx:Passes (tZ X.prog X.w) X E) (hr:cg j X.A) (ha:DA X E ma (e::es)) (hk:k<=j:=by omega) (hg:Gl X x:=by rfl) (hdb:(x == ("__debug__" : Str))=false:=by decide) (he:starEach (e::es) X.env=(false,eval e X.env)::starEach es X.env:=by rfl)
  (hpl:(backTo pos (starEach es X.env)).any (·.1)=false:=by rfl):DE X E (af F ma) (.Call (.Name x p) (e::es) [] pos):=Ly F' hx (hr.mono hk) hg ha hdb he hpl
end
open Classical in
noncomputable def fQ (g:MG) (b:MS) (j:Nat) (all:List D):List D->Fm->Hm->R Fl
 | [],ρ,h=>if h[j]?=some (.lst all) then .ok (.nx ρ) h else .bad
 | x::xs,ρ,h=>if h[j]?=some (.lst all) then (g x ρ h).xg.bind fun ρ1 h1=>(b ρ1 h1).xg.bind fun f h2=>match f with
  | .nx ρ2=>fQ g b j all xs ρ2 h2
  | .ct ρ2=>fQ g b j all xs ρ2 h2
  | .bk ρ2=>.ok (.nx ρ2) h2
  | .rt d=>.ok (.rt d) h2 else .bad
noncomputable def ya (m:ME) (g:MG) (b:MS):MS:=fun ρ h=>(m ρ h).xg.bind fun x h1=>match x with
 | .ref j=>match h1[j]? with
  | some (.lst all)=>fQ g b j all all ρ h1
  | _=>.bad
 | _=>.bad
section
variable {X:Cx} {E:XK} {m:ME} {b:MS} {e tg:Expr} {g:MG} {pos:Pos}
theorem Ci {G:Gx} {F:XP} {θ1:List Addr} {H1:Hp} {h1:Hm} {all:List D} {j:Nat} {a:Addr} {C:Ends} {σ:L2.St} {ρ:Fm} (ha:θ1[j]?=some a) (w1:W G θ1 h1 H1) (fr:Fr G θ1 H1 ρ σ) (p1:aG G F θ1 H1 (fQ g b j all all ρ h1) (KS G C)) :
  ∃ W':Nat->Nat->L2.St->Hp->Prop,(∃ m,W' 0 m σ H1)/\∀ i m σ H,W' i m σ H ->
   ((KD G.K a).stop i H/\C.nx σ H)\/((KD G.K a).go i H/\∃ N:L2.St->Hp->Prop,(∀ σ' H',N σ' H'->∃ m',m' < m/\W' (i+1) m' σ' H')/\∀ x H',(KD G.K a).yld i H x H'->lG G gz g x σ H' fun σ2 H2=>lS G gz b {C with nx:=N,ct:=N,bk:=C.nx} σ2 H2):=by
 refine ⟨fun i m σ H=>m=all.length - i/\i<=all.length/\∃ θ' h' ρ',Ev θ1 H1 θ' H/\W G θ' h' H/\Fr G θ' H ρ' σ/\aG G F θ' H (fQ g b j all (all.drop i) ρ' h') (KS G C),⟨all.length,by simp,QS _,θ1,h1,ρ,Ev.refl,w1,fr,p1⟩,?_⟩
 rintro i m σ H ⟨rfl,hi,θ',h',ρ',ev,w,fr',p⟩
 have hj:h'[j]?=some (.lst all):=by
  by_cases z:h'[j]?=some (.lst all)
  ·exact z
  ·exfalso
   generalize all.drop i=ds at p
   cases ds with
   | nil=>unfold fQ at p;rw [if_neg z] at p;exact p
   | cons x xs=>unfold fQ at p;rw [if_neg z] at p;exact p
 obtain ⟨vs,hv,rs⟩:=w.obj j a _ (ev.get ha) hj
 have q:iw G.K H a vs:=iw.of hv
 have hl:all.length=vs.length:=P4 rs
 by_cases hlt:i < all.length
 ·have ed:all.drop i=all[i]::all.drop (i+1):=QD hlt
  rw [ed] at p
  simp only [fQ,hj,Qe] at p
  obtain ⟨v,ev',rv⟩:=rs.some (Pz hlt)
  refine .inr ⟨⟨vs,v,q,ev'⟩,fun σ2 H2=>i+1<=all.length/\∃ θ' h' ρ',Ev θ1 H1 θ' H2/\W G θ' h' H2/\Fr G θ' H2 ρ' σ2/\aG G F θ' H2 (fQ g b j all (all.drop (i+1)) ρ' h') (KS G C),fun σ' H' q=>⟨all.length - (i+1),by omega,rfl,q⟩,fun x H2 y=>?_⟩
  obtain ⟨e2,y⟩:=y
  subst e2
  have:=y vs q
  rw [ev'] at this
  cases this
  refine ⟨θ',h',ρ',all[i],w,fr',rv,(aG.dU p).mono fun ρ3 θ3 h3 H3 _ _ ⟨e3,w3,p3⟩ σ3 fr3=>⟨θ3,h3,ρ3,w3,fr3,(aG.dU p3).mono fun f θ4 h4 H4 _ _ ⟨e4,w4,p4⟩=>?_⟩⟩
  have ev4:=ev.trans (e3.trans e4)
  cases f with
  | nx ρ5=>exact fun σ5 fr5=>⟨hlt,θ4,h4,ρ5,ev4,w4,fr5,p4⟩
  | ct ρ5=>exact fun σ5 fr5=>⟨hlt,θ4,h4,ρ5,ev4,w4,fr5,p4⟩
  | bk ρ5=>exact p4 θ4 H4 Ev.refl w4
  | rt d=>exact p4 θ4 H4 Ev.refl w4
 ·have hx:i=all.length:=by omega
  subst hx
  rw [QN (Pm _)] at p
  simp only [fQ,hj,Qe] at p
  exact .inl ⟨⟨vs,q,by rw [<- hl];exact Pm _⟩,p θ' H Ev.refl w σ fr'⟩
theorem GK {body:List Stmt} (hc:X.calm=true) (hm:DE X.Fq gz m e) (hg:DG X.Fq gz g tg) (hb:CF X.Fq gz b body) (hs:∀ x,foldedSetIterable e X.env x=pure x:=by intro _;rfl):DS X E (ya m g b) (.For tg e body [] pos):=by
 simp only [ka,m6,mE,bj] at *
 refine PS.Fq (PS.imp (CO PassesOwn.never hc (Am hm) hg hb hs) fun C σ H ⟨θ,h,ρ,w,fr,p⟩=>⟨θ,h,ρ,w,fr,(aG.dU p).mono fun d θ1 h1 H1 _ _ ⟨ev,w1,p1⟩ v r=>?_⟩)
 cases d with
 | ref j=>
  obtain ⟨a,ha,rfl⟩:=r
  cases hj:h1[j]? with
  | none=>simp only [hj] at p1;exact p1.elim
  | some o=>
   cases o with
   | lst all=>
    simp only [hj] at p1
    obtain ⟨vs,hv,rs⟩:=w1.obj j a _ ha hj
    exact ⟨a,rfl,⟨vs,iw.of hv⟩,Ci ha w1 (fr.ev ev) p1⟩
   | _=>simp only [hj] at p1;exact p1.elim
 | _=>exact p1.elim
end
end Ml
namespace Ml
open PySem
noncomputable def LO:MS:=bh (qE (bb (aq dH (uo (aa (af eX (aa (ae 0) (aa (aj (.int 0)) (ag)))) (ag))) (Ei (ae 0) (mD (aj (.int 1))) (mD (aj (.int 3)))))) (aB 1) (bh (bT 2 (af hU (aa (ae 1) (ag))))
  (qE (jt (aa (aj (.int 6)) (ag))) (aB 3) (bh (kC (iq (bR (aB 4) (bR (aB 5) (ip)))) (af jS (aa (ae 2) (aa (aj (.int 6)) (ag)))))
  (bh (bT 6 (jG (aa (ae 5) (aa (af du (aa (ae 2) (aa (ae 4) (ag)))) (ag)))))
  (bh (mW (aN (aq oEq (af ao (aa (ae 2) (aa (aj (.int 3)) (ag)))) (aj (.int 0)))) (gp (kJ dR (ae 6) (af bX (aa (ae 2) (aa (af eU (aa (ae 2) (aa (aj (.int 4)) (ag)))) (ag)))))) (dI))
  (bh (bT 7 (af iD (aa (jG (aa (ae 4) (aa (ae 6) (ag)))) (ag))))
  (bh (ya (ae 6) (aB 8) (bh (bT 9 (cC 1 (bb (af dC (aa (af bQ ag) (ag)))) (aB 0) (aN (aq oEq (af bK (aa (ae 5) (aa (ae 0) (ag)))) (af bK (aa (ae 9) (aa (ae 0) (ag)))))) (ae 0)))
  (bh (bT 10 (uo (aa (af bx (aa (ae 4) (aa (ae 8) (ag)))) (aa (af bx (aa (ae 8) (aa (ae 4) (ag)))) (aa (af bx (aa (ae 4) (aa (ae 8) (ag)))) (ag))))))
  (mW (aN (aq nE (af iD (aa (ae 10) (ag))) (af iD (aa (aq kE (uo (aa (af cW (aa (ae 9) (ag))) (ag))) (aj (.int 3))) (ag))))) (cG (aj (.bool false))) (dI)))))
  (mW (aN (aq nE (af iD (aa (jG (aa (ae 4) (aa (ae 6) (ag)))) (ag))) (ae 7))) (cG (aj (.bool false))) (dI))))))))))
  (cG (aj (.bool true)))
noncomputable def Bb:Fn:=bE 1 11 LO
end Ml
namespace Stt
open PySem
abbrev oq (xs:Array Nat):Prop:=xs.toList.Pairwise (· < ·)
theorem qU {xs:Array Nat} (r:oq xs) {i k:Nat} (hi:i < k) (hk:k < xs.size):xs[i]'(by omega) < xs[k]:=by
 have:=QV.mp r i k (by simpa using (by omega:i < xs.size)) (by simpa using hk) hi
 simpa using this
theorem sQ {xs:Array Nat} (r:oq xs) (j:Nat):∀ (fuel lo hi:Nat),lo<=hi->hi<=xs.size->hi - lo<=fuel->(∀ i (h:i < xs.size),i < lo->xs[i] < j)->(∀ i (h:i < xs.size),hi<=i->j<=xs[i]) ->
  (∀ i (h:i < xs.size),i < SetTable.below.go xs j fuel lo hi->xs[i] < j)/\(∀ i (h:i < xs.size),SetTable.below.go xs j fuel lo hi<=i->j<=xs[i])/\SetTable.below.go xs j fuel lo hi<=xs.size
 | 0,lo,hi,h1,h2,h3,a,b=>by
  have:lo=hi:=by omega
  subst this
  simp only [SetTable.below.go]
  exact ⟨a,b,h2⟩
 | fuel+1,lo,hi,h1,h2,h3,a,b=>by
  simp only [SetTable.below.go]
  split
  ·rename_i hlt
   have hm:(lo+hi) / 2 < xs.size:=by omega
   simp only [Array.getD,hm,dif_pos]
   split
   ·rename_i hx
    refine sQ r j fuel _ hi (by omega) h2 (by omega) (fun i h hi'=>?_) b
    by_cases e:i=(lo+hi) / 2
    ·subst e;exact hx
    ·have:=qU r (i:=i) (k:=(lo+hi) / 2) (by omega) hm
     have hx':xs[(lo+hi) / 2] < j:=hx
     omega
   ·rename_i hx
    refine sQ r j fuel lo _ (by omega) (by omega) (by omega) a fun i h hi'=>?_
    have hx':¬ xs[(lo+hi) / 2] < j:=hx
    by_cases e:i=(lo+hi) / 2
    ·subst e;omega
    ·have:=qU r (i:=(lo+hi) / 2) (k:=i) (by omega) h
     omega
  ·have:lo=hi:=by omega
   subst this
   exact ⟨a,b,h2⟩
theorem hV {xs:Array Nat} (r:oq xs) (j:Nat):(∀ i (h:i < xs.size),i < SetTable.below xs j->xs[i] < j)/\(∀ i (h:i < xs.size),SetTable.below xs j<=i->j<=xs[i])/\SetTable.below xs j<=xs.size:=
 sQ r j xs.size 0 xs.size (by omega) (by omega) (by omega) (fun _ _ h=>by omega) fun _ _ h=>by omega
theorem below_at {xs:Array Nat} (r:oq xs) {i j:Nat} (h:xs[i]?=some j):SetTable.below xs j=i:=by
 obtain ⟨hi,e⟩:=Qr.mp h
 obtain ⟨a,b,c⟩:=hV r j
 by_cases h1:i < SetTable.below xs j
 ·have:=a i hi h1;omega
 ·by_cases h2:SetTable.below xs j=i
  ·exact h2
  ·have hb:SetTable.below xs j < xs.size:=by omega
   have:=b _ hb (Pm _)
   have:=qU r (i:=SetTable.below xs j) (k:=i) (by omega) hi
   omega
theorem hX {xs:Array Nat} (r:oq xs) {j:Nat}:j∈xs.toList<->xs[SetTable.below xs j]?=some j:=by
 constructor
 ·intro h
  obtain ⟨i,hi,e⟩:=RM h
  have:xs[i]?=some j:=by rw [<- P6,Pz hi,e]
  rw [below_at r this];exact this
 ·intro h
  rw [<- P6] at h
  exact P0 h
theorem jT {xs:Array Nat} (r:oq xs) {j:Nat}:SetTable.has xs j=true<->j∈xs.toList:=by
 unfold SetTable.has
 rw [hX r,SO]
theorem lP {t:SetTable} (r:oq t.place) {j i:Nat}:t.slot j=.live i<->t.place[i]?=some j:=by
 unfold SetTable.slot
 constructor
 ·intro h
  dsimp only at h
  split at h
  ·rename_i e
   have:=eq_of_beq e
   cases h
   exact this
  ·split at h<;>cases h
 ·intro h
  have e:=below_at r h
  dsimp only
  rw [e,h]
  simp
theorem jU {t:SetTable} (r:oq t.place) (rd:oq t.dummies) {j:Nat}:t.slot j=.empty<->j∉t.place.toList/\j∉t.dummies.toList:=by
 rw [hX r,<- jT rd]
 unfold SetTable.slot
 dsimp only
 by_cases h:t.place[SetTable.below t.place j]?=some j
 ·simp [h]
 ·have:(t.place[SetTable.below t.place j]? == some j)=false:=by rw [QO];exact h
  rw [this]
  simp only [PB,Qm]
  by_cases h2:SetTable.has t.dummies j=true
  ·simp [h2]
  ·simp [h2,h]
theorem zB {t:SetTable} (r:oq t.place) (rd:oq t.dummies) {j:Nat}:t.slot j=.dummy->j∈t.dummies.toList:=by
 rw [<- jT rd]
 unfold SetTable.slot
 dsimp only
 split
 ·intro h;cases h
 ·split
  ·intro _;assumption
  ·intro h;cases h
theorem sR {xs:Array Nat} (r:oq xs) {j:Nat} (h:j∉xs.toList):oq (SetTable.insertAt xs (SetTable.below xs j) j):=by
 obtain ⟨a,b,c⟩:=hV r j
 unfold oq
 rw [Su]
 have r':xs.toList.Pairwise (· < ·):=r
 rw [<- Rm (SetTable.below xs j) xs.toList,Q7] at r'
 obtain ⟨r1,r2,r3⟩:=r'
 rw [Q7]
 refine ⟨r1,Qn.mpr ⟨fun x hx=>?_,r2⟩,fun x hx y hy=>?_⟩
 ·obtain ⟨i,hi,e⟩:=RM hx
  simp at hi e
  have:=b (SetTable.below xs j+i) (by omega) (by omega)
  have hne:xs[SetTable.below xs j+i]'(by omega)≠j:=fun z=>h (by rw [<- z];simp)
  omega
 ·have hxj:x < j:=by
   obtain ⟨i,hi,e⟩:=RM hx
   simp at hi e
   have:=a i (by omega) (by omega)
   omega
  rcases Pn.mp hy with rfl | hy
  ·exact hxj
  ·exact r3 x hx y hy
theorem vi {xs:Array Nat} (r:oq xs) (p:Nat):oq (SetTable.eraseAt xs p):=by
 unfold oq SetTable.eraseAt
 simp only [Array.toList_append,Array.toList_extract,List.extract_eq_take_drop,List.drop_zero,Nat.sub_zero]
 have r':xs.toList.Pairwise (· < ·):=r
 rw [<- Rm p xs.toList,Q7] at r'
 rw [Q7]
 refine ⟨r'.1,?_,fun x hx y hy=>?_⟩
 ·refine List.Pairwise.sublist ?_ r
  exact (Tw _ _).trans (List.drop_sublist _ _)
 ·refine r'.2.2 x hx y ?_
  have:=Sa hy
  rw [<- List.drop_drop] at this
  exact List.mem_of_mem_drop this
structure Pc where
 j:Nat
 more:Nat
 i:Nat
 pt:Nat
def pc (p:SetTable.Probe):Pc:=⟨p.j,p.more,p.i,p.perturb⟩
def dF (mask i pt:Nat):Pc:=⟨i,SetTable.runEnd mask i - i,i,pt⟩
def yb (mask:Nat) (c:Pc):Pc:=dF mask (SetTable.leap mask c.i c.pt).1 (SetTable.leap mask c.i c.pt).2
def step (mask:Nat) (c:Pc):Pc:=if c.more > 0 then ⟨c.j+1,c.more - 1,c.i,c.pt⟩ else yb mask c
theorem zC (t:SetTable) (p:SetTable.Probe):pc (t.advance p)=step t.mask (pc p):=by
 unfold SetTable.advance step pc
 dsimp only
 split<;>rfl
theorem jd (t:SetTable) (p:SetTable.Probe):(t.advance p).dummy=p.dummy:=by
 unfold SetTable.advance
 dsimp only
 split<;>rfl
def steps (mask:Nat):Nat->Pc->Pc
 | 0,c=>c
 | n+1,c=>steps mask n (step mask c)
theorem lQ (mask:Nat):∀ (m n:Nat) (c:Pc),steps mask (m+n) c=steps mask n (steps mask m c)
 | 0,n,c=>by simp [steps]
 | m+1,n,c=>by rw [show m+1+n=(m+n)+1 by omega];simp only [steps];exact lQ mask m n _
theorem wI (mask:Nat):∀ (k:Nat) (c:Pc),c.more=k->steps mask (k+1) c=yb mask c
 | 0,c,h=>by simp [steps,step,h]
 | k+1,c,h=>by
  have e:step mask c=⟨c.j+1,c.more - 1,c.i,c.pt⟩:=by unfold step;rw [if_pos (by omega)]
  simp only [steps]
  have:=wI mask k (step mask c) (by rw [e];simp [h])
  simp only [steps] at this
  rw [this,e]
  rfl
theorem vj (mask i:Nat):SetTable.runEnd mask i - i<=9:=by unfold SetTable.runEnd;split<;>omega
def eY (mask:Nat):Nat->Pc->Pc
 | 0,c=>c
 | n+1,c=>eY mask n (yb mask c)
theorem qi (mask:Nat):∀ (n:Nat) (c:Pc),c.more<=9->∃ m,m<=10 * n/\steps mask m c=eY mask n c
 | 0,c,_=>⟨0,by omega,rfl⟩
 | n+1,c,h=>by
  obtain ⟨m,hm,e⟩:=qi mask n (yb mask c) (vj _ _)
  refine ⟨c.more+1+m,by omega,?_⟩
  rw [lQ,wI mask c.more c rfl,e]
  rfl
theorem lR (mask:Nat):∀ (m n:Nat) (c:Pc),eY mask (m+n) c=eY mask n (eY mask m c)
 | 0,n,c=>by simp [eY]
 | m+1,n,c=>by rw [show m+1+n=(m+n)+1 by omega];simp only [eY];exact lR mask m n _
theorem yc (mask:Nat):∀ (n:Nat) (c:Pc),(eY mask n c).pt=c.pt / 32 ^ n
 | 0,c=>by simp [eY]
 | n+1,c=>by
  simp only [eY]
  rw [yc mask n]
  show c.pt / 32 / 32 ^ n=_
  rw [Nat.div_div_eq_div_mul,Nat.pow_succ,Nat.mul_comm]
def Bc (m:Nat):Nat->Nat->Nat
 | 0,i=>i
 | n+1,i=>Bc m n ((i * 5+1) % m)
theorem qV (m:Nat):∀ (a b i:Nat),Bc m (a+b) i=Bc m b (Bc m a i)
 | 0,b,i=>by simp [Bc]
 | a+1,b,i=>by rw [show a+1+b=(a+b)+1 by omega];simp only [Bc];exact qV m a b _
def cover (m:Nat):Nat->Nat->Nat->Nat
 | 0,_,acc=>acc
 | n+1,i,acc=>cover m n ((i * 5+1) % m) (acc ||| 1 <<< i)
theorem vk (m:Nat):∀ (n i acc e:Nat),(cover m n i acc).testBit e=true->acc.testBit e=true\/∃ a,a < n/\Bc m a i=e
 | 0,i,acc,e,h=>.inl h
 | n+1,i,acc,e,h=>by
  rcases vk m n _ _ e h with h | ⟨a,ha,h⟩
  ·rw [Nat.testBit_or,QK] at h
   rcases h with h | h
   ·exact .inl h
   ·refine .inr ⟨0,by omega,?_⟩
    rw [Nat.shiftLeft_eq,Nat.one_mul,Nat.testBit_two_pow] at h
    simpa [Bc] using h
  ·exact .inr ⟨a+1,by omega,h⟩
def sizeOk (m:Nat):Bool:=cover m m 0 0 == 2 ^ m - 1 && Bc m m 0 == 0 && decide (8<=m/\m<=1024) && decide (m % 2=0)
theorem Ej {m:Nat} (h:sizeOk m=true) {i e:Nat} (hi:i < m) (he:e < m):∃ n,n < m/\Bc m n i=e:=by
 unfold sizeOk at h
 simp only [Pl,SO,Py] at h
 obtain ⟨⟨⟨h1,h2⟩,h3⟩,_⟩:=h
 have key:∀ x,x < m->∃ a,a < m/\Bc m a 0=x:=fun x hx=>by
  rcases vk m m 0 0 x (by rw [h1];simp [Nat.testBit_two_pow_sub_one,hx]) with z | z
  ·simp at z
  ·exact z
 obtain ⟨a,ha,ea⟩:=key i hi
 obtain ⟨b,hb,eb⟩:=key e he
 by_cases hab:a<=b
 ·exact ⟨b - a,by omega,by rw [<- ea,<- qV,show a+(b - a)=b by omega,eb]⟩
 ·exact ⟨(m - a)+b,by omega,by rw [<- ea,<- qV,show a+((m - a)+b)=m+b by omega,qV,h2,eb]⟩
theorem HV:sizeOk 8=true/\sizeOk 16=true/\sizeOk 32=true/\sizeOk 64=true/\sizeOk 128=true/\sizeOk 256=true/\sizeOk 512=true/\sizeOk 1024=true:=by decide +kernel
theorem vm {mask:Nat}:∀ (n:Nat) (c:Pc),c.pt=0->(eY mask n c).i=Bc (mask+1) n c.i
 | 0,c,_=>rfl
 | n+1,c,h=>by
  simp only [eY,Bc]
  rw [vm n (yb mask c) (by show c.pt / 32=0;rw [h])]
  show Bc _ n ((c.i * 5+1+c.pt / 32) % (mask+1))=_
  rw [h]
theorem GL (mask n:Nat) (c:Pc):(eY mask (n+1) c).j=(eY mask (n+1) c).i:=by
 rw [lR]
 rfl
theorem vo {mask:Nat} (h:sizeOk (mask+1)=true) {c:Pc} (hp:c.pt < 2 ^ 64) {e:Nat} (he:e<=mask):∃ n,n<=mask+12/\(eY mask (n+1) c).j=e:=by
 have h0:(eY mask 13 c).pt=0:=by
  rw [yc]
  exact Nat.div_eq_of_lt (Nat.lt_trans hp (by decide))
 have hi:(eY mask 13 c).i < mask+1:=by
  show (eY mask (12+1) c).i < mask+1
  rw [lR]
  exact Ti _ (by omega)
 obtain ⟨n,hn,en⟩:=Ej h hi (Nat.lt_succ_of_le he)
 refine ⟨12+n,by omega,?_⟩
 rw [show 12+n+1=(12+n)+1 from rfl,GL,show 12+n+1=13+n by omega,lR,vm n _ h0,en]
theorem Bd (h:Int):SetTable.bits h < 2 ^ 64:=by
 unfold SetTable.bits
 have h1:=RZ h (b:=(2 ^ 64:Int)) (by decide)
 have h2:=SI h (b:=(2 ^ 64:Int)) (by decide)
 omega
def c0 (mask:Nat) (h:Int):Pc:=dF mask (SetTable.bits h % (mask+1)) (SetTable.bits h)
def sq (mask:Nat) (h:Int) (n:Nat):Nat:=(steps mask n (c0 mask h)).j
theorem Cj {mask:Nat} (hs:sizeOk (mask+1)=true) (h:Int) {e:Nat} (he:e<=mask):∃ n,n<=10 * (mask+13)/\sq mask h n=e:=by
 obtain ⟨n,hn,en⟩:=vo hs (c:=c0 mask h) (Bd h) he
 obtain ⟨m,hm,em⟩:=qi mask (n+1) (c0 mask h) (vj _ _)
 exact ⟨m,by omega,by unfold sq;rw [em,en]⟩
theorem least {P:Nat->Prop}:∀ (N:Nat),P N->∃ n,n<=N/\P n/\∀ m,m < n->¬ P m:=by
 intro N
 induction N using Nat.strongRecOn with
 | _ N ih=>
  intro h
  by_cases z:∃ m,m < N/\P m
  ·obtain ⟨m,hm,pm⟩:=z
   obtain ⟨n,h1,h2,h3⟩:=ih m hm pm
   exact ⟨n,by omega,h2,h3⟩
  ·exact ⟨N,Pm _,h,fun m hm pm=>z ⟨m,hm,pm⟩⟩
theorem zD:∀ (n:Nat) (l:List Nat),(∀ e,e < n->e∈l)->n<=l.length
 | 0,_,_=>QS _
 | n+1,l,h=>by
  have hm:=h n (by omega)
  have:=zD n (l.erase n) fun e he=>(List.mem_erase_of_ne (by omega)).mpr (h e (by omega))
  rw [List.length_erase_of_mem hm] at this
  have:=List.length_pos_of_mem hm
  omega
theorem zE (mask n:Nat) (c:Pc):steps mask (n+1) c=step mask (steps mask n c):=by
 rw [lQ]
 rfl
structure Tab (es:Array (Int×Value)) (t:SetTable):Prop where
 rp:oq t.place
 rd:oq t.dummies
 sz:t.place.size=es.size
 tf:t.fill * 5 < t.mask * 3
 bp:∀ j∈t.place.toList,j<=t.mask
 bd:∀ j∈t.dummies.toList,j<=t.mask
 dj:∀ j∈t.dummies.toList,j∉t.place.toList
 sm:sizeOk (t.mask+1)=true
 rc:∀ (i:Nat) (e:Int×Value) (j:Nat),es[i]?=some e->t.place[i]?=some j->∃ n,sq t.mask e.1 n=j/\∀ m,m < n->t.slot (sq t.mask e.1 m)≠.empty
theorem Tab.fits {es:Array (Int×Value)} {t:SetTable} (T:Tab es t):t.fits es.size=true:=by
 have:=T.tf
 simp only [SetTable.fits,Pl,SO,Py]
 exact ⟨T.sz,by omega⟩
theorem Tab.odd {es:Array (Int×Value)} {t:SetTable} (T:Tab es t):t.gaveWay=false:=by
 have h:=T.sm
 unfold SetTable.gaveWay
 rw [QO]
 intro z
 unfold sizeOk at h
 simp only [Pl,SO,Py] at h
 obtain ⟨⟨⟨h1,h2⟩,h3⟩,h4⟩:=h
 omega
theorem Tab.le {es:Array (Int×Value)} {t:SetTable} (T:Tab es t):t.mask<=1023:=by
 have h:=T.sm
 unfold sizeOk at h
 simp only [Pl,SO,Py] at h
 omega
theorem Tab.free {es:Array (Int×Value)} {t:SetTable} (T:Tab es t) (h:Int):∃ N,N<=10 * (t.mask+13)/\t.slot (sq t.mask h N)=.empty/\∀ m,m < N->t.slot (sq t.mask h m)≠.empty:=by
 have:∃ e,e<=t.mask/\t.slot e=.empty:=by
  apply Qp
  intro z
  have:=zD (t.mask+1) (t.place.toList++t.dummies.toList) fun e he=>by
   apply Qp
   intro hn
   rw [PL,not_or] at hn
   exact z ⟨e,by omega,(jU T.rp T.rd).mpr hn⟩
  have tf:=T.tf
  unfold SetTable.fill at tf
  simp only [PU,Qj] at this
  omega
 obtain ⟨e,he,hs⟩:=this
 obtain ⟨n,hn,en⟩:=Cj T.sm h he
 obtain ⟨N,h1,h2,h3⟩:=least (P:=fun n=>t.slot (sq t.mask h n)=.empty) n (by rw [en];exact hs)
 exact ⟨N,by omega,h2,h3⟩
def Dm (t:SetTable) (h:Int) (n:Nat) (d:Option Nat):Prop:=d=none\/∃ m,m < n/\d=some (sq t.mask h m)/\t.slot (sq t.mask h m)=.dummy
theorem Dm.mono {t:SetTable} {h:Int} {n n':Nat} {d:Option Nat} (x:Dm t h n d) (hn:n<=n'):Dm t h n' d:=by
 rcases x with x | ⟨m,a,b,c⟩
 ·exact .inl x
 ·exact .inr ⟨m,by omega,b,c⟩
theorem qW {t:SetTable} {hashAt:Nat->Int} {h:Int} {N:Nat} (hN:t.slot (sq t.mask h N)=.empty) (hne:∀ m,m < N->t.slot (sq t.mask h m)≠.empty) :
  ∀ (fuel n:Nat) (p:SetTable.Probe),n<=N->N - n < fuel->pc p=steps t.mask n (c0 t.mask h)->Dm t h n p.dummy ->
   (∃ d,SetTable.probe.go t hashAt h fuel p=some (.empty (sq t.mask h N) d)/\Dm t h N d/\∀ m,n<=m->m < N->∀ i,t.slot (sq t.mask h m)=.live i->hashAt i≠h) \/
   (∃ k i q,SetTable.probe.go t hashAt h fuel p=some (.candidate (sq t.mask h k) i q)/\n<=k/\k < N/\t.slot (sq t.mask h k)=.live i/\hashAt i=h/\pc q=steps t.mask (k+1) (c0 t.mask h)/\Dm t h (k+1) q.dummy /\
    ∀ m,n<=m->m < k->∀ i,t.slot (sq t.mask h m)=.live i->hashAt i≠h)
 | 0,n,p,h1,h2,h3,h4=>by omega
 | fuel+1,n,p,h1,h2,h3,h4=>by
  have ej:p.j=sq t.mask h n:=by
   have:=Rv Pc.j h3
   exact this
  have nx:∀ (p':SetTable.Probe),pc p'=pc p->n < N->pc (t.advance p')=steps t.mask (n+1) (c0 t.mask h):=fun p' e _=>by
   rw [zC,e,h3,zE]
  simp only [SetTable.probe.go]
  rw [ej]
  by_cases e:n=N
  ·subst e
   rw [hN]
   exact .inl ⟨p.dummy,rfl,h4,fun m a b=>by omega⟩
  ·have hlt:n < N:=by omega
   cases hs:t.slot (sq t.mask h n) with
   | empty=>exact absurd hs (hne n hlt)
   | dummy=>
    dsimp only
    rcases qW hN hne fuel (n+1) (t.advance {p with j:=sq t.mask h n,dummy:=some (sq t.mask h n)}) hlt (by omega) (nx _ (by unfold pc;rw [ej]) hlt) (by rw [jd];exact .inr ⟨n,by omega,rfl,hs⟩) with ⟨d,a,b,c⟩ | ⟨k,i,q,a,b,c,d,e',f,g,r⟩
    ·refine .inl ⟨d,a,b,fun m h5 h6 i h7=>?_⟩
     by_cases z:m=n
     ·subst z;rw [hs] at h7;cases h7
     ·exact c m (by omega) h6 i h7
    ·refine .inr ⟨k,i,q,a,by omega,c,d,e',f,g,fun m h5 h6 i h7=>?_⟩
     by_cases z:m=n
     ·subst z;rw [hs] at h7;cases h7
     ·exact r m (by omega) h6 i h7
   | live i=>
    dsimp only
    by_cases hh:hashAt i=h
    ·rw [if_pos (by simpa using hh)]
     refine .inr ⟨n,i,t.advance p,rfl,by omega,hlt,hs,hh,nx p rfl hlt,?_,fun m a b=>by omega⟩
     rw [jd]
     exact h4.mono (by omega)
    ·rw [if_neg (by simpa using hh)]
     rcases qW hN hne fuel (n+1) (t.advance p) hlt (by omega) (nx _ rfl hlt) (by rw [jd];exact h4.mono (by omega)) with ⟨d,a,b,c⟩ | ⟨k,i',q,a,b,c,d,e',f,g,r⟩
     ·refine .inl ⟨d,a,b,fun m h5 h6 i' h7=>?_⟩
      by_cases z:m=n
      ·subst z;rw [hs] at h7;cases h7;exact hh
      ·exact c m (by omega) h6 i' h7
     ·refine .inr ⟨k,i',q,a,by omega,c,d,e',f,g,fun m h5 h6 i' h7=>?_⟩
      by_cases z:m=n
      ·subst z;rw [hs] at h7;cases h7;exact hh
      ·exact r m (by omega) h6 i' h7
theorem vq {xs:Array Nat} (r:oq xs) {j x:Nat} (hj:j∈xs.toList):x∈(SetTable.eraseAt xs (SetTable.below xs j)).toList<->x∈xs.toList/\x≠j:=by
 have hb:=(hX r).mp hj
 obtain ⟨hl,e⟩:=Qr.mp hb
 have sp:xs.toList=xs.toList.take (SetTable.below xs j)++j::xs.toList.drop (SetTable.below xs j+1):=by
  have e1:=(Rm (SetTable.below xs j) xs.toList).symm
  rw [QD (by simpa using hl)] at e1
  rw [Array.getElem_toList,e] at e1
  exact e1
 have se:(SetTable.eraseAt xs (SetTable.below xs j)).toList=xs.toList.take (SetTable.below xs j)++xs.toList.drop (SetTable.below xs j+1):=by
  unfold SetTable.eraseAt
  simp only [Array.toList_append,Array.toList_extract,List.extract_eq_take_drop,List.drop_zero,Nat.sub_zero]
  congr 1
  rw [List.take_of_length_le]
  simp
 have nd:xs.toList.Nodup:=List.Pairwise.imp (fun h=>PM h) r
 rw [sp] at nd
 rw [se]
 have nd2:=(RF.mp nd)
 have nd3:=QW.mp nd2.2.1
 constructor
 ·intro h
  refine ⟨by rw [sp];rcases PL.mp h with h | h;exact Qy _ h;exact PD _ (Pr _ h),fun z=>?_⟩
  subst z
  rcases PL.mp h with h | h
  ·exact nd2.2.2 x h x (PJ ..) rfl
  ·exact nd3.1 h
 ·rintro ⟨h,ne⟩
  rw [sp] at h
  rcases PL.mp h with h | h
  ·exact Qy _ h
  ·rcases Pn.mp h with h | h
   ·exact absurd h ne
   ·exact PD _ h
theorem sS {α:Type} {xs:Array α} {p:Nat} (hp:p < xs.size):(SetTable.eraseAt xs p).size=xs.size - 1:=by
 unfold SetTable.eraseAt
 simp
 omega
theorem iL {α:Type} {xs:Array α} {p:Nat} {x:α}:(SetTable.insertAt xs p x).size=xs.size+1:=by
 have:=(SetTable.insertAt_perm xs p x).length_eq
 simpa using this
theorem sT {α:Type} {xs:Array α} {p:Nat} {x y:α}:y∈(SetTable.insertAt xs p x).toList<->y=x\/y∈xs.toList:=by
 rw [(SetTable.insertAt_perm xs p x).mem_iff]
 simp [or_comm]
theorem sU {α:Type} {xs:Array α} {p:Nat} {x:α} (hp:p<=xs.size) (i:Nat):(SetTable.insertAt xs p x)[i]?=if i < p then xs[i]? else if i=p then some x else xs[i - 1]?:=by
 rw [<- P6,Su]
 have hl:(xs.toList.take p).length=p:=by simp;omega
 by_cases h1:i < p
 ·rw [if_pos h1,PY (by omega),RA h1,P6]
 ·rw [if_neg h1,Qd (by omega),hl]
  by_cases h2:i=p
  ·subst h2;simp
  ·rw [if_neg h2,show i - p=(i - p - 1)+1 by omega,RN,List.getElem?_drop,<- P6]
   congr 1
   omega
theorem vt {es:Array (Int×Value)} {t:SetTable} (T:Tab es t) {s:Nat} (hs:∀ i,t.slot s≠.live i) (x:Nat) (h:(t.put s).1.slot x=.empty):t.slot x=.empty:=by
 have hp:s∉t.place.toList:=fun z=>by
  have:=(hX T.rp).mp z
  exact hs _ ((lP T.rp).mpr this)
 have rp':oq (t.put s).1.place:=sR T.rp hp
 have rd':oq (t.put s).1.dummies:=by
  show oq (if SetTable.has t.dummies s=true then _ else _)
  split
  ·exact vi T.rd _
  ·exact T.rd
 rw [jU rp' rd'] at h
 rw [jU T.rp T.rd]
 obtain ⟨h1,h2⟩:=h
 have h1':x≠s/\x∉t.place.toList:=by
  have:x∉(SetTable.insertAt t.place (SetTable.below t.place s) s).toList:=h1
  rw [sT,not_or] at this
  exact this
 refine ⟨h1'.2,fun z=>h2 ?_⟩
 show x∈(if SetTable.has t.dummies s=true then _ else _:Array Nat).toList
 split
 ·rename_i hd
  exact (vq T.rd ((jT T.rd).mp hd)).mpr ⟨z,h1'.1⟩
 ·exact z
structure uz (es:Array (Int×Value)) (t:SetTable):Prop where
 rp:oq t.place
 rd:oq t.dummies
 sz:t.place.size=es.size
 fl:t.fill<=t.mask
 bp:∀ j∈t.place.toList,j<=t.mask
 bd:∀ j∈t.dummies.toList,j<=t.mask
 dj:∀ j∈t.dummies.toList,j∉t.place.toList
 sm:sizeOk (t.mask+1)=true
 rc:∀ (i:Nat) (e:Int×Value) (j:Nat),es[i]?=some e->t.place[i]?=some j->∃ n,sq t.mask e.1 n=j/\∀ m,m < n->t.slot (sq t.mask e.1 m)≠.empty
theorem uz.fits {es:Array (Int×Value)} {t:SetTable} (T:uz es t):t.fits es.size=true:=by
 simp only [SetTable.fits,Pl,SO,Py]
 exact ⟨T.sz,T.fl⟩
theorem uz.tab {es:Array (Int×Value)} {t:SetTable} (T:uz es t) (h:t.fill * 5 < t.mask * 3):Tab es t:=⟨T.rp,T.rd,T.sz,h,T.bp,T.bd,T.dj,T.sm,T.rc⟩
theorem uz.flags {es:Array (Int×Value)} {t t':SetTable} (T:uz es t) (h1:t'.mask=t.mask) (h2:t'.place=t.place) (h3:t'.dummies=t.dummies):uz es t':=by
 obtain ⟨a,b,c,d,e,f,l⟩:=t
 obtain ⟨a',b',c',d',e',f',l'⟩:=t'
 dsimp only at h1 h2 h3
 subst h1 h2 h3
 exact ⟨T.rp,T.rd,T.sz,T.fl,T.bp,T.bd,T.dj,T.sm,T.rc⟩
theorem Tab.NJ {es:Array (Int×Value)} {t:SetTable} (T:Tab es t):uz es t:=⟨T.rp,T.rd,T.sz,by have:=T.tf;omega,T.bp,T.bd,T.dj,T.sm,T.rc⟩
theorem GN {es:Array (Int×Value)} {t:SetTable} (T:Tab es t) {s n:Nat} {h:Int} {x:Value} (hs:∀ i,t.slot s≠.live i) (hm:s<=t.mask) (hn:sq t.mask h n=s) (hp:∀ m,m < n->t.slot (sq t.mask h m)≠.empty) :
  uz (SetTable.insertAt es (t.put s).2 (h,x)) (t.put s).1/\(t.slot s=.dummy->(t.put s).1.fill=t.fill):=by
 have nip:s∉t.place.toList:=fun z=>by
  have:=(hX T.rp).mp z
  exact hs _ ((lP T.rp).mpr this)
 have rp':oq (t.put s).1.place:=sR T.rp nip
 have rd':oq (t.put s).1.dummies:=by
  show oq (if SetTable.has t.dummies s=true then _ else _)
  split
  ·exact vi T.rd _
  ·exact T.rd
 have mp:∀ y,y∈(t.put s).1.place.toList<->y=s\/y∈t.place.toList:=fun y=>sT
 have md:∀ y,y∈(t.put s).1.dummies.toList->y∈t.dummies.toList/\y≠s:=fun y hy=>by
  have hy:y∈(if SetTable.has t.dummies s=true then SetTable.eraseAt t.dummies (SetTable.below t.dummies s) else t.dummies).toList:=hy
  split at hy
  ·rename_i hd
   exact (vq T.rd ((jT T.rd).mp hd)).mp hy
  ·rename_i hd
   exact ⟨hy,fun z=>hd ((jT T.rd).mpr (z▸hy))⟩
 have ple:SetTable.below t.place s<=t.place.size:=(hV T.rp s).2.2
 have psz:(t.put s).1.place.size=t.place.size+1:=iL
 have tf:=T.tf
 unfold SetTable.fill at tf
 have hmask:7<=t.mask:=by
  have h:=T.sm
  unfold sizeOk at h
  simp only [Pl,SO,Py] at h
  omega
 have dsz:(t.put s).1.dummies.size<=t.dummies.size:=by
  show (if SetTable.has t.dummies s=true then SetTable.eraseAt t.dummies (SetTable.below t.dummies s) else t.dummies).size<=_
  split
  ·rename_i hd
   have hb:=(hX T.rd).mp ((jT T.rd).mp hd)
   rw [sS (Qr.mp hb).1]
   omega
  ·exact Pm _
 refine ⟨⟨rp',rd',?_,?_,fun j hj=>?_,fun j hj=>T.bd j (md j hj).1,fun j hj hj'=>?_,T.sm,fun i e j hi hj=>?_⟩,fun hd=>?_⟩
 ·rw [psz,iL,T.sz]
 ·unfold SetTable.fill
  rw [psz]
  show t.place.size+1+(t.put s).1.dummies.size<=t.mask
  omega
 ·rcases (mp j).mp hj with rfl | hj
  ·exact hm
  ·exact T.bp j hj
 ·obtain ⟨d1,d2⟩:=md j hj
  rcases (mp j).mp hj' with z | z
  ·exact d2 z
  ·exact T.dj j d1 z
 ·have hj':(SetTable.insertAt t.place (SetTable.below t.place s) s)[i]?=some j:=hj
  have hi':(SetTable.insertAt es (SetTable.below t.place s) (h,x))[i]?=some e:=hi
  rw [sU ple] at hj'
  rw [sU (by rw [<- T.sz];exact ple)] at hi'
  have old:∀ i',es[i']?=some e->t.place[i']?=some j->∃ n,sq t.mask e.1 n=j/\∀ m,m < n->(t.put s).1.slot (sq t.mask e.1 m)≠.empty:=fun i' a b=>by
   obtain ⟨n',n1,n2⟩:=T.rc i' e j a b
   exact ⟨n',n1,fun m hm' z=>n2 m hm' (vt T hs _ z)⟩
  show ∃ n,sq t.mask e.1 n=j/\∀ m,m < n->(t.put s).1.slot (sq t.mask e.1 m)≠.empty
  by_cases h1:i < SetTable.below t.place s
  ·rw [if_pos h1] at hi' hj'
   exact old i hi' hj'
  ·rw [if_neg h1] at hi' hj'
   by_cases h2:i=SetTable.below t.place s
   ·rw [if_pos h2] at hi' hj'
    cases hi'
    cases hj'
    exact ⟨n,hn,fun m hm' z=>hp m hm' (vt T hs _ z)⟩
   ·rw [if_neg h2] at hi' hj'
    exact old _ hi' hj'
 ·have hd':=zB T.rp T.rd hd
  have hh:=(jT T.rd).mpr hd'
  unfold SetTable.fill
  rw [psz]
  have:(t.put s).1.dummies.size=t.dummies.size - 1:=by
   show (if SetTable.has t.dummies s=true then SetTable.eraseAt t.dummies (SetTable.below t.dummies s) else t.dummies).size=_
   rw [if_pos hh]
   exact sS (Qr.mp ((hX T.rd).mp hd')).1
  rw [this]
  have:0 < t.dummies.size:=by
   have:=List.length_pos_of_mem hd'
   simpa using this
  omega
def yd (owner:Array (Option Nat)) (j:Nat):Prop:=(owner.getD j (some 0)).isNone=false
theorem pH (mask:Nat):∀ (k:Nat) (c:Pc),k<=c.more->steps mask k c=⟨c.j+k,c.more - k,c.i,c.pt⟩
 | 0,c,_=>by simp [steps]
 | k+1,c,h=>by
  have e:step mask c=⟨c.j+1,c.more - 1,c.i,c.pt⟩:=by unfold step;rw [if_pos (by omega)]
  simp only [steps]
  rw [e,pH mask k _ (by show k<=c.more - 1;omega)]
  simp only [Pc.mk.injEq,and_true]
  omega
theorem vw {mask:Nat} {owner:Array (Option Nat)}:∀ (fuel i pt:Nat),(∃ n,n < fuel/\¬ yd owner (eY mask n (dF mask i pt)).j) ->
  ∃ n,SetTable.layClean.free mask owner fuel i pt=some (steps mask n (dF mask i pt)).j/\¬ yd owner (steps mask n (dF mask i pt)).j/\∀ m,m < n->yd owner (steps mask m (dF mask i pt)).j
 | 0,i,pt,⟨n,hn,_⟩=>by omega
 | fuel+1,i,pt,⟨n,hn,hf⟩=>by
  have hre:SetTable.runEnd mask i+1 - i=(dF mask i pt).more+1:=by
   show _=SetTable.runEnd mask i - i+1
   have:i<=SetTable.runEnd mask i:=by unfold SetTable.runEnd;split<;>omega
   omega
  simp only [SetTable.layClean.free]
  rw [hre]
  cases hfi:(List.range ((dF mask i pt).more+1)).find? fun k=>(owner.getD (i+k) (some 0)).isNone with
  | some k=>
   dsimp only
   obtain ⟨h1,h2,h3⟩:=List.find?_range_eq_some.mp hfi
   have hk:k<=(dF mask i pt).more:=by have:=Qo.mp h2;omega
   have es:∀ m,m<=k->(steps mask m (dF mask i pt)).j=i+m:=fun m hm=>by rw [pH mask m _ (by omega)];rfl
   refine ⟨k,by rw [es k (Pm _)],?_,fun m hm=>?_⟩
   ·rw [es k (Pm _)];unfold yd;rw [h1];simp
   ·rw [es m (by omega)]
    have:=h3 m hm
    simpa [yd] using this
  | none=>
   dsimp only
   have h1:=List.find?_range_eq_none.mp hfi
   have occ:∀ m,m < (dF mask i pt).more+1->yd owner (steps mask m (dF mask i pt)).j:=fun m hm=>by
    rw [pH mask m _ (by omega)]
    have:=h1 m hm
    show yd owner (i+m)
    simpa [yd] using this
   have hn0:n≠0:=fun z=>by
    subst z
    have:=occ 0 (by omega)
    exact hf this
   obtain ⟨n',rfl⟩:∃ n',n=n'+1:=⟨n - 1,by omega⟩
   have tl:=wI mask (dF mask i pt).more (dF mask i pt) rfl
   obtain ⟨q,q1,q2,q3⟩:=vw (mask:=mask) (owner:=owner) fuel (SetTable.leap mask i pt).1 (SetTable.leap mask i pt).2 ⟨n',by omega,hf⟩
   have es:∀ m,steps mask ((dF mask i pt).more+1+m) (dF mask i pt)=steps mask m (dF mask (SetTable.leap mask i pt).1 (SetTable.leap mask i pt).2):=fun m=>by
    rw [lQ,tl]
    rfl
   refine ⟨(dF mask i pt).more+1+q,by rw [es];exact q1,by rw [es];exact q2,fun m hm=>?_⟩
   by_cases hmm:m < (dF mask i pt).more+1
   ·exact occ m hmm
   ·have:=q3 (m - ((dF mask i pt).more+1)) (by omega)
    rw [<- es] at this
    rw [show m=(dF mask i pt).more+1+(m - ((dF mask i pt).more+1)) by omega]
    exact this
def cD (mask:Nat) (owner:Array (Option Nat)):List (Nat×Nat):=(List.range (mask+1)).filterMap fun j=>(owner.getD j none).map (j,·)
theorem ye {α β:Type} {f g:α->Option β}:∀ {l:List α},(∀ x∈l,g x=f x)->l.filterMap g=l.filterMap f
 | [],_=>rfl
 | a::l,h=>by
  have ih:=ye (l:=l) fun x hx=>h x (Pr _ hx)
  rw [RJ,RJ,h a (PJ ..),ih]
theorem Ek {α β:Type} {f g:α->Option β} {j:α} {v:β} (hf:f j=none) (hg:g j=some v):∀ {l:List α},l.Nodup->j∈l->(∀ x∈l,x≠j->f x=g x)->List.Perm (l.filterMap g) (v::l.filterMap f)
 | [],_,h,_=>by simp at h
 | a::l,nd,h,e=>by
  obtain ⟨n1,n2⟩:=QW.mp nd
  by_cases z:a=j
  ·subst z
   rw [RI hg,Sv hf]
   have:l.filterMap g=l.filterMap f:=ye fun x hx=>(e x (Pr _ hx) (fun q=>n1 (q▸hx))).symm
   rw [this]
  ·have hj:j∈l:=by
    rcases Pn.mp h with q | q
    ·exact absurd q.symm z
    ·exact q
   have ih:=Ek hf hg n2 hj fun x hx=>e x (Pr _ hx)
   have ea:=e a (PJ ..) z
   cases hfa:f a with
   | none=>rw [Sv (by rw [<- ea];exact hfa),Sv hfa];exact ih
   | some b=>
    rw [RI (by rw [<- ea];exact hfa),RI hfa]
    exact (ih.cons b).trans (.swap _ _ _)
structure Own (mask:Nat) (hs:List Int) (js:List Nat) (owner:Array (Option Nat)):Prop where
 sz:owner.size=mask+1
 ln:js.length=hs.length
 lv:List.Perm (cD mask owner) (js.zip (List.range hs.length))
 rc:∀ (k:Nat) (h:Int) (j:Nat),hs[k]?=some h->js[k]?=some j->∃ n,sq mask h n=j/\∀ m,m < n->yd owner (sq mask h m)
def GO (mask:Nat) (acc:Option (Array (Option Nat)×Nat)) (h:Int):Option (Array (Option Nat)×Nat):=do
    let (owner,k) <- acc
    let j <- SetTable.layClean.free mask owner (SetTable.turns mask) (SetTable.bits h % (mask+1)) (SetTable.bits h)
    pure (owner.setIfInBounds j (some k),k+1)
theorem Em {mask:Nat} (hm:sizeOk (mask+1)=true) {hs:List Int} {js:List Nat} {owner:Array (Option Nat)} (O:Own mask hs js owner) (hl:hs.length<=mask) (h:Int) :
  ∃ j owner',GO mask (some (owner,hs.length)) h=some (owner',hs.length+1)/\Own mask (hs++[h]) (js++[j]) owner':=by
 have occ_iff:∀ j,yd owner j<->owner[j]?≠some none:=fun j=>by
  unfold yd
  rw [Qb]
  cases owner[j]? with
  | none=>simp
  | some o=>cases o<;>simp
 have hfree:∃ e,e<=mask/\¬ yd owner e:=by
  apply Qp
  intro z
  have hp:=zD (mask+1) ((cD mask owner).map (·.1)) fun e he=>by
   have ho:yd owner e:=Qp fun q=>z ⟨e,by omega,q⟩
   rw [occ_iff] at ho
   have hlt:e < owner.size:=by rw [O.sz];exact he
   rw [P7 hlt] at ho
   cases hv:owner[e] with
   | none=>rw [hv] at ho;exact absurd rfl ho
   | some k=>
    refine P8.mpr ⟨(e,k),RS.mpr ⟨e,Qo.mpr he,?_⟩,rfl⟩
    simp [Array.getD,hlt,hv]
  rw [PX,O.lv.length_eq,List.length_zip,O.ln] at hp
  simp at hp
  omega
 obtain ⟨e,he,hne⟩:=hfree
 obtain ⟨n,hn,en⟩:=vo hm (c:=c0 mask h) (Bd h) he
 obtain ⟨q,q1,q2,q3⟩:=vw (mask:=mask) (owner:=owner) (SetTable.turns mask) (SetTable.bits h % (mask+1)) (SetTable.bits h) ⟨n+1,by unfold SetTable.turns;omega,by
  have:(eY mask (n+1) (dF mask (SetTable.bits h % (mask+1)) (SetTable.bits h))).j=e:=en
  rw [this];exact hne⟩
 generalize hj:(steps mask q (dF mask (SetTable.bits h % (mask+1)) (SetTable.bits h))).j=j at q1 q2
 have hjn:owner[j]?=some none:=Qp fun z=>q2 ((occ_iff j).mpr z)
 have hjl:j < owner.size:=(Qr.mp hjn).1
 have get':∀ x,(owner.setIfInBounds j (some hs.length))[x]?=if x=j then some (some hs.length) else owner[x]?:=fun x=>by
  rw [Array.getElem?_setIfInBounds]
  by_cases z:j=x
  ·subst z;simp [hjl]
  ·rw [if_neg z,if_neg (fun q=>z q.symm)]
 have occ':∀ x,yd owner x->yd (owner.setIfInBounds j (some hs.length)) x:=fun x hx=>by
  unfold yd at hx ⊢
  rw [Qb] at hx ⊢
  rw [get']
  by_cases z:x=j
  ·rw [if_pos z];rfl
  ·rw [if_neg z];exact hx
 refine ⟨j,owner.setIfInBounds j (some hs.length),?_,⟨by simp [O.sz],by simp [O.ln],?_,fun k h' j' a b=>?_⟩⟩
 ·unfold GO
  simp only [Option.bind_eq_bind,Option.bind_some]
  rw [q1]
  rfl
 ·have hp:List.Perm (cD mask (owner.setIfInBounds j (some hs.length))) ((j,hs.length)::cD mask owner):=by
   refine Ek (j:=j) ?_ ?_ List.nodup_range (Qo.mpr (by rw [<- O.sz];exact hjl)) fun x _ hx=>?_
   ·rw [Qb,hjn];rfl
   ·rw [Qb,get',if_pos rfl];rfl
   ·rw [Qb,Qb,get',if_neg hx]
  refine hp.trans ((O.lv.cons _).trans ?_)
  rw [PU,SY,List.range_succ,List.zip_append (by simp [O.ln])]
  exact (List.perm_append_singleton _ _).symm
 ·by_cases z:k < hs.length
  ·rw [PY z] at a
   rw [PY (by rw [O.ln];exact z)] at b
   obtain ⟨n',n1,n2⟩:=O.rc k h' j' a b
   exact ⟨n',n1,fun m hm'=>occ' _ (n2 m hm')⟩
  ·have hk:k=hs.length:=by
    have:=(PF.mp a).1
    simp at this
    omega
   subst hk
   rw [Qd (Pm _)] at a
   rw [<- O.ln,Qd (Pm _)] at b
   simp at a b
   subst a
   subst b
   exact ⟨q,hj,fun m hm'=>occ' _ (q3 m hm')⟩
theorem Be {mask:Nat} (hm:sizeOk (mask+1)=true):∀ (hs2 hs:List Int) (js:List Nat) (owner:Array (Option Nat)),Own mask hs js owner->(hs++hs2).length<=mask+1 ->
  ∃ js' owner',hs2.foldl (GO mask) (some (owner,hs.length))=some (owner',(hs++hs2).length)/\Own mask (hs++hs2) js' owner'
 | [],hs,js,owner,O,_=>⟨js,owner,by simp,by simpa using O⟩
 | h::hs2,hs,js,owner,O,hl=>by
  obtain ⟨j,owner',e,O'⟩:=Em hm O (by simp at hl;omega) h
  obtain ⟨js',owner2,e2,O2⟩:=Be hm hs2 (hs++[h]) _ _ O' (by simpa using hl)
  refine ⟨js',owner2,?_,by simpa using O2⟩
  rw [List.foldl_cons,e]
  simpa using e2
theorem yf (mask:Nat) (hashes:Array Int):SetTable.layClean mask hashes=(hashes.toList.foldl (GO mask) (some (Array.replicate (mask+1) none,0))).map (·.1):=by
 unfold SetTable.layClean
 rw [<- Array.foldl_toList]
 rfl
theorem GP (mask:Nat):Own mask [] [] (Array.replicate (mask+1) none):=by
 refine ⟨by simp,rfl,?_,fun k h j a=>by simp at a⟩
 have:cD mask (Array.replicate (mask+1) none)=[]:=by
  unfold cD
  rw [List.filterMap_eq_nil_iff]
  intro j _
  rw [Qb,Array.getElem?_replicate]
  split<;>rfl
 rw [this]
 exact .nil
theorem zF {α:Type} {es:Array α}:∀ {l:List (Nat×Nat)},(∀ p∈l,p.2 < es.size)->((l.map (·.2)).filterMap (fun k=>es[k]?)).length=l.length/\∀ (i:Nat) (p:Nat×Nat),l[i]?=some p->((l.map (·.2)).filterMap (fun k=>es[k]?))[i]?=es[p.2]?
 | [],_=>⟨rfl,fun i p h=>by simp at h⟩
 | a::l,h=>by
  obtain ⟨h1,h2⟩:=zF (l:=l) fun p hp=>h p (Pr _ hp)
  have ha:=h a (PJ ..)
  rw [P9,RI (P7 ha)]
  refine ⟨by rw [PQ,h1,PQ],fun i p hi=>?_⟩
  cases i with
  | zero=>simp at hi;subst hi;simp
  | succ i=>simpa using h2 i p (by simpa using hi)
theorem GQ {es:Array (Int×Value)} {mask:Nat} (hm:sizeOk (mask+1)=true) (hn:es.size * 5 < mask * 3) (finger moves:Nat) (led plain:Bool) :
  ∃ t' order,SetTable.laid mask finger moves led plain (es.map (·.1))=some (t',order)/\Tab (order.filterMap (es[·]?)) t'/\List.Perm (order.filterMap (es[·]?)).toList es.toList/\t'.mask=mask/\t'.led=led/\List.Perm order.toList (List.range es.size):=by
 obtain ⟨js,owner,e,O⟩:=Be hm (es.map (·.1)).toList [] [] _ (GP mask) (by simp;omega)
 simp only [Rb,Ql] at e O
 have hlen:(es.map (·.1)).toList.length=es.size:=by simp
 have hsnd:List.Perm ((cD mask owner).map (·.2)) (List.range es.size):=by
  have:=O.lv.map (·.2)
  rw [hlen] at this
  refine this.trans ?_
  rw [List.map_snd_zip (by rw [O.ln,hlen];simp)]
 have hbelow:∀ p∈cD mask owner,p.2 < es.size:=fun p hp=>by
  have:=hsnd.mem_iff.mp (P8.mpr ⟨p,hp,rfl⟩)
  exact Qo.mp this
 obtain ⟨g1,g2⟩:=zF (es:=es) hbelow
 have hfst:((cD mask owner).map (·.1)).Pairwise (· < ·):=by
  rw [RH]
  unfold cD
  rw [List.pairwise_filterMap]
  refine List.Pairwise.imp ?_ List.pairwise_lt_range
  intro a b hab x hx y hy
  rw [Qh] at hx hy
  obtain ⟨_,_,rfl⟩:=hx
  obtain ⟨_,_,rfl⟩:=hy
  exact hab
 have hmem:∀ p∈cD mask owner,p.1<=mask/\owner.getD p.1 none=some p.2:=fun p hp=>by
  obtain ⟨j,hj,ej⟩:=RS.mp hp
  rw [Qh] at ej
  obtain ⟨k,hk,rfl⟩:=ej
  exact ⟨by have:=Qo.mp hj;omega,hk⟩
 refine ⟨{mask,place:=((cD mask owner).map (·.1)).toArray,dummies:=#[],finger,led,moves,plain},((cD mask owner).map (·.2)).toArray,?_,?_,?_,rfl,rfl,by simpa using hsnd⟩
 ·unfold SetTable.laid
  rw [yf,e]
  rfl
 ·have efm:((((cD mask owner).map (·.2)).toArray.filterMap (es[·]?)):Array _)=(((cD mask owner).map (·.2)).filterMap (fun k=>es[k]?)).toArray:=by simp
  have llen:(cD mask owner).length=es.size:=by
   have:=hsnd.length_eq
   simpa using this
  refine ⟨hfst,List.Pairwise.nil,?_,?_,fun j hj=>?_,fun j hj=>by simp at hj,fun j hj=>by simp at hj,hm,fun i e' j h1 h2=>?_⟩
  ·rw [efm,Pu,Pu,g1,PX]
  ·show (((cD mask owner).map (·.1)).toArray.size+0) * 5 < mask * 3
   simp only [Pu,PX,llen,Nat.add_zero]
   exact hn
  ·obtain ⟨p,hp,rfl⟩:=P8.mp (by simpa using hj:j∈(cD mask owner).map (·.1))
   exact (hmem p hp).1
  ·rw [efm] at h1
   have h2':((cD mask owner).map (·.1))[i]?=some j:=by simpa using h2
   rw [Qw,Qh] at h2'
   obtain ⟨p,hp,rfl⟩:=h2'
   have h1':(((cD mask owner).map (·.2)).filterMap (fun k=>es[k]?))[i]?=some e':=by simpa using h1
   rw [g2 i p hp] at h1'
   have pm:=P0 hp
   have pz:=O.lv.mem_iff.mp pm
   rw [hlen] at pz
   obtain ⟨k,hk,ek⟩:=RM pz
   rw [List.getElem_zip] at ek
   simp only [List.getElem_range] at ek
   have ek1:js[k]?=some p.1:=by
    rw [<- Rv Prod.fst ek]
    exact Pz _
   have ek2:p.2=k:=(Rv Prod.snd ek).symm
   obtain ⟨n,n1,n2⟩:=O.rc k e'.1 p.1 (by simp only [Array.toList_map,Qw,P6];rw [<- ek2,h1'];rfl) ek1
   refine ⟨n,n1,fun m hm' z=>?_⟩
   have oc:=n2 m hm'
   have z':SetTable.slot {mask,place:=((cD mask owner).map (·.1)).toArray,dummies:=#[],finger,led,moves,plain} (sq mask e'.1 m)=.empty:=z
   rw [jU (t:={mask,place:=((cD mask owner).map (·.1)).toArray,dummies:=#[],finger,led,moves,plain}) hfst List.Pairwise.nil] at z'
   by_cases hin:sq mask e'.1 m < owner.size
   ·unfold yd at oc
    rw [Qb,P7 hin] at oc
    simp only [Tb] at oc
    cases hv:owner[sq mask e'.1 m] with
    | none=>rw [hv] at oc;simp at oc
    | some k'=>
     refine z'.1 ?_
     have:sq mask e'.1 m∈(cD mask owner).map (·.1):=P8.mpr ⟨(sq mask e'.1 m,k'),RS.mpr ⟨_,Qo.mpr (by rw [<- O.sz];exact hin),by simp [Array.getD,hin,hv]⟩,rfl⟩
     simpa using this
   ·exfalso
    have bound:∀ q (c:Pc),c.j+c.more<=mask->(steps mask q c).j+(steps mask q c).more<=mask:=by
     intro q
     induction q with
     | zero=>intro c hc;exact hc
     | succ q ih=>
      intro c hc
      simp only [steps]
      refine ih _ ?_
      unfold step
      split
      ·show c.j+1+(c.more - 1)<=mask
       omega
      ·show (SetTable.leap mask c.i c.pt).1+(SetTable.runEnd mask (SetTable.leap mask c.i c.pt).1 - (SetTable.leap mask c.i c.pt).1)<=mask
       have:(SetTable.leap mask c.i c.pt).1 < mask+1:=Ti _ (by omega)
       unfold SetTable.runEnd
       split<;>omega
    have hb:=bound m (c0 mask e'.1) (by
     show SetTable.bits e'.1 % (mask+1)+(SetTable.runEnd mask (SetTable.bits e'.1 % (mask+1)) - SetTable.bits e'.1 % (mask+1))<=mask
     have:SetTable.bits e'.1 % (mask+1) < mask+1:=Ti _ (by omega)
     unfold SetTable.runEnd
     split<;>omega)
    have:sq mask e'.1 m<=mask:=by unfold sq;omega
    rw [O.sz] at hin
    omega
 ·rw [Array.toList_filterMap]
  refine (hsnd.filterMap _).trans ?_
  rw [filterMap_getElem?_range]
theorem ou:∀ n,n < 1024->(n < SetTable.sizeAbove n/\SetTable.sizeAbove n∈[8,16,32,64,128,256,512,1024]):=by decide +kernel
theorem Ck {m:Nat} (h:m∈[8,16,32,64,128,256,512,1024]):sizeOk m=true:=by
 obtain ⟨a,b,c,d,e,f,g,i⟩:=HV
 simp only [Pn,P1,QU] at h
 rcases h with h | h | h | h | h | h | h | h<;>(rw [h];assumption)
theorem Cm {es:Array (Int×Value)} {t:SetTable} {wanted:Nat} (hw:wanted < 1024) (hn:es.size * 5 < wanted * 3\/es.size<=4) :
  ∃ t' order,t.relaid (es.map (·.1)) wanted=some (t',order)/\Tab (order.filterMap (es[·]?)) t'/\List.Perm (order.filterMap (es[·]?)).toList es.toList/\t'.led=t.led/\List.Perm order.toList (List.range es.size)/\t'.mask+1=SetTable.sizeAbove wanted/\SetTable.sizeAbove wanted<=1024:=by
 obtain ⟨h1,h2⟩:=ou wanted hw
 have h8:8<=SetTable.sizeAbove wanted:=by
  simp only [Pn,P1,QU] at h2
  omega
 have e:SetTable.sizeAbove wanted - 1+1=SetTable.sizeAbove wanted:=by omega
 obtain ⟨t',order,a,b,c,d,f,g⟩:=GQ (es:=es) (mask:=SetTable.sizeAbove wanted - 1) (by rw [e];exact Ck h2) (by omega) t.finger (t.movedTo (SetTable.sizeAbove wanted - 1)) t.led t.plain
 exact ⟨t',order,a,b,c,f,g,by rw [d,e],by simp only [Pn,P1,QU] at h2;omega⟩
end Stt
namespace Stt
open PySem PySem.Spec L2 Ml
structure El (vp:Value->Prop) (w:World) (h:Heap) (md:Bool) (e:Int×Value) (d:PyData):Prop where
 tr:av d=true
 dp:d.depth<=8
 so:bY d=true
 hs:e.1=pX w d
 kd:fM d=md
 rd:∃ as,Reads h e.2 d as
 vl:vp e.2
abbrev bN (es:Array (Int×Value)) (ep:Nat) (t:SetTable):Obj:={cls:=.type "set",dict:=none,data:=.set es ep t,slots:=#[]}
abbrev cP (w:World):Bool:=w.params.followText "set-order"
structure fJ (vp:Value->Prop) (w:World) (h:Heap) (a:Addr) (md:Bool) (ds:List PyData) (es:Array (Int×Value)) (ep:Nat) (t:SetTable):Prop where
 ob:h.get? a=some (bN es ep t)
 tb:Tab es t
 ld:t.led=true\/cP w=true
 nd:ds.Nodup
 ln:ds.length<=120
 el:Paired (El vp w h md) es.toList ds
def ke (vp:Value->Prop) (w:World) (h:Heap) (a:Addr) (md:Bool) (ds:List PyData):Prop:=∃ es ep t,fJ vp w h a md ds es ep t
theorem El.keep {vp:Value->Prop} {w:World} {h h':Heap} {md:Bool} {e:Int×Value} {d:PyData} (x:El vp w h md e d) (k:∀ b o vs n,h.get? b=some o->o.cls=.type "tuple" -> o.data=.seq vs n->h'.get? b=some o):El vp w h' md e d:=
 ⟨x.tr,x.dp,x.so,x.hs,x.kd,let ⟨as,r⟩:=x.rd;⟨as,ju k x.tr r⟩,x.vl⟩
theorem fJ.size {vp:Value->Prop} {w:World} {h:Heap} {a:Addr} {md:Bool} {ds:List PyData} {es:Array (Int×Value)} {ep:Nat} {t:SetTable} (S:fJ vp w h a md ds es ep t):es.size=ds.length:=by
 have:=P4 S.el
 simpa using this
theorem fR {α β:Type} {R:α->β->Prop}:∀ {xs:List α} {ys:List β},Paired R xs ys->∀ {i:Nat} {x:α},xs[i]?=some x->∃ y,ys[i]?=some y/\R x y
 | _,_,.nil,i,x,h=>by simp at h
 | _,_,.cons r _,0,x,h=>by simp at h;subst h;exact ⟨_,rfl,r⟩
 | _,_,.cons _ t,i+1,x,h=>by simpa using fR t (i:=i) (by simpa using h)
theorem iM {α β:Type} {R:α->β->Prop}:∀ {xs:List α} {ys:List β},Paired R xs ys->∀ {i:Nat} {y:β},ys[i]?=some y->∃ x,xs[i]?=some x/\R x y
 | _,_,.nil,i,x,h=>by simp at h
 | _,_,.cons r _,0,x,h=>by simp at h;subst h;exact ⟨_,rfl,r⟩
 | _,_,.cons _ t,i+1,x,h=>by simpa using iM t (i:=i) (by simpa using h)
theorem fJ.get {vp:Value->Prop} {w:World} {h:Heap} {a:Addr} {md:Bool} {ds:List PyData} {es:Array (Int×Value)} {ep:Nat} {t:SetTable} (S:fJ vp w h a md ds es ep t) {i:Nat} {e:Int×Value} (he:es[i]?=some e):∃ d,ds[i]?=some d/\El vp w h md e d:=by
 rw [<- P6] at he
 exact fR S.el he
section
variable {P:Program} {w:World} {A:Around} {E:Value->Shared->Prop} {s:Shared} {vp:Value->Prop}
theorem LP {md md':Bool} {e e':Int×Value} {d d':PyData} (x:El vp w s.heap md e d) (y:El vp w s.heap md' e' d') (hu:A.units+20 < cLine) {Q:Bool->Shared->Prop} (h:Q (decide (d=d')) s):wpAny (model P w) A (eqBool e.2 e'.2) Q E s:=by
 obtain ⟨as,r1⟩:=x.rd
 obtain ⟨bs,r2⟩:=y.rd
 have hq:PyData.eqv d d'=decide (d=d'):=by
  by_cases z:d=d'
  ·subst z;rw [PN rfl];exact aS (aT x.tr)
  ·rw [PR z];exact aQ (aT x.tr) (aT y.tr) z
 have:=Tc d d' A s _ _ _ _ r1 r2 (jb x.so (bZ (aT x.tr))) (jb y.so (bZ (aT y.tr))) (by have:=x.dp;omega) P w E Q
 rw [hq] at this
 exact this h
mutual
theorem kL:∀ (d:PyData) (n:Nat) (A:Around) (s:Shared) (v:Value) (as:List Addr) (Q:Bool->Shared->Prop) (E:Value->Shared->Prop),av d=true->d.depth<=n->Reads s.heap v d as->Q false s->wpAny (model P w) A (ofAClassStatement n v) Q E s
 | .str x,n,A,s,v,as,Q,E,_,_,r,h=>by
  cases r
  unfold ofAClassStatement
  exact Pk h
 | .tuple ds,n,A,s,v,as,Q,E,t,hn,r,h=>by
  cases r with
  | tuple ho hc hd hi=>
   rename_i a o items k
   have hT:s.TypeIs (.ref a) "tuple" := ⟨o,ho,hc⟩
   simp only [av] at t
   simp only [PyData.depth] at hn
   obtain ⟨m,rfl⟩:∃ m,n=m+1:=⟨n - 1,by omega⟩
   unfold ofAClassStatement
   refine Ph (Sn hT ?_)
   show wpAny _ _ (if ("tuple" == "tuple")=true then _ else _) _ _ s
   rw [if_pos (by decide)]
   refine Ph (Pk ?_)
   simp only [R5,PB,Qm]
   refine Ph (Qv ho hd ?_)
   refine Ph ?_
   show wpAny _ _ (forIn items _ _) _ _ s
   rw [<- SH]
   refine mI ds m A s items.toList _ _ E _ t (by omega) hi ?_ ?_
   ·intro x s' R k
    refine Ph (Q9 k (fun c s2 q=>?_) fun _ _ z=>z)
    obtain ⟨rfl,q⟩:=q
    simp only [PB,Qm]
    exact Pk q
   ·exact Pk h
 | .none,_,_,_,_,_,_,_,t,_,_,_=>by simp [av] at t
 | .bool _,_,_,_,_,_,_,_,t,_,_,_=>by simp [av] at t
 | .int _,_,_,_,_,_,_,_,t,_,_,_=>by simp [av] at t
 | .list _,_,_,_,_,_,_,_,t,_,_,_=>by simp [av] at t
 | .dict _,_,_,_,_,_,_,_,t,_,_,_=>by simp [av] at t
theorem mI:∀ (ds:List PyData) (n:Nat) (A:Around) (s:Shared) (vs:List Value) (as:List Addr) (R:Option Bool×Unit->Shared->Prop) (E:Value->Shared->Prop) (body:Value->Option Bool×Unit->Sem (ForInStep (Option Bool×Unit))),aX ds=true->PyData.depthAll ds<=n->ReadsAll s.heap vs ds as ->
  (∀ (x:Value) (s':Shared) (R':ForInStep (Option Bool×Unit)->Shared->Prop),wpAny (model P w) A (ofAClassStatement n x) (fun c s2=>c=false/\R' (.yield (none,())) s2) E s'->wpAny (model P w) A (body x (none,())) R' E s') ->
  R (none,()) s->wpAny (model P w) A (forIn vs (none,()) body) R E s
 | [],n,A,s,_,_,R,E,body,_,_,.nil,hb,h=>by
  rw [Rp]
  exact Pk h
 | d::ds,n,A,s,_,_,R,E,body,t,hn,.cons r1 r2,hb,h=>by
  simp only [aX,Pl] at t
  simp only [PyData.depthAll] at hn
  rw [Rc]
  refine Ph (hb _ _ _ (kL d n A s _ _ _ E t.1 (by omega) r1 ⟨rfl,?_⟩))
  exact mI ds n A s _ _ R E body t.2 (by omega) r2 hb h
end
theorem vz {body:Value->Option Bool×Unit->Sem (ForInStep (Option Bool×Unit))} {G:Value->Prop} {R:Option Bool×Unit->Shared->Prop} (hb:∀ y,G y->∀ R':ForInStep (Option Bool×Unit)->Shared->Prop,R' (.yield (none,())) s->wpAny (model P w) A (body y (none,())) R' E s) :
  ∀ ys:List Value,(∀ y∈ys,G y)->R (none,()) s->wpAny (model P w) A (forIn ys (none,()) body) R E s
 | [],_,h=>by
  rw [Rp]
  exact Pk h
 | y::ys,g,h=>by
  rw [Rc]
  refine Ph (hb y (g y (PJ ..)) _ ?_)
  exact vz hb ys (fun z hz=>g z (Pr _ hz)) h
theorem En {md:Bool} {x:Value} {h0:Int} {d:PyData} (hx:El vp w s.heap md (h0,x) d) {Q:Bool->Shared->Prop} (hq:Q false s) (ys:List Value) (hys:∀ y∈ys,∃ h1 d1,El vp w s.heap md (h1,y) d1):wpAny (model P w) A (searchCouldBeSeen x ys) Q E s:=by
 unfold searchCouldBeSeen
 refine Ph (vz (G:=fun y=>∃ h1 d1,El vp w s.heap md (h1,y) d1) (fun y gy R' hR=>?_) ys hys (Pk hq))
 obtain ⟨h1,d1,hy⟩:=gy
 obtain ⟨as,r1⟩:=hx.rd
 obtain ⟨bs,r2⟩:=hy.rd
 dsimp only
 refine Q0 (fun _=>Pk hR) fun _=>?_
 ·skip
  refine Ph (iF d 8 A s x as _ E hx.tr hx.dp r1 ?_)
  simp only [R5,PB,Qm]
  refine Ph (iF d1 8 A s y bs _ E hy.tr hy.dp r2 ?_)
  simp only [R5,PB,Qm]
  refine Ph (kL d 8 A s x as _ E hx.tr hx.dp r1 ?_)
  simp only [PB,Qm]
  refine Ph (kL d1 8 A s y bs _ E hy.tr hy.dp r2 ?_)
  simp only [PB,Qm]
  exact Pk hR
theorem yg {h:Heap} {e:Int×Value} {d:PyData} (x:El vp w h true e d):isSame e.2 e.2=pure true:=by
 obtain ⟨as,r⟩:=x.rd
 have k:=x.kd
 obtain ⟨e1,v⟩:=e
 dsimp only at r ⊢
 cases r with
 | tuple=>simp [isSame]
 | _=>simp [fM] at k
def KL (es:Array (Int×Value)) (i:Nat):Int:=(es[i]?.map (·.1)).getD 0
theorem eM {a:Addr} {es:Array (Int×Value)} {ep:Nat} {t:SetTable} {Q:(Array (Int×Value)×Nat×SetTable)->Shared->Prop} (ho:s.heap.get? a=some (bN es ep t)) (hf:t.fits es.size=true) (h:Q (es,ep,t) s):wpAny (model P w) A (setState a) Q E s:=wpAny_setState_of ho rfl hf h
def cg (t:SetTable) (h:Int) (slot:Nat) (wd:Bool):Prop:=(t.slot slot=if wd=true then .dummy else .empty)/\∃ n,sq t.mask h n=slot/\∀ m,m < n->t.slot (sq t.mask h m)≠.empty
theorem yh {a:Addr} {ds:List PyData} {es:Array (Int×Value)} {ep:Nat} {t:SetTable} {x:Value} {h0:Int} {d:PyData} {adding:Bool} (S:fJ vp w s.heap a true ds es ep t) (hx:El vp w s.heap true (h0,x) d) (hu:A.units+20 < cLine)
  {N:Nat} (hN:t.slot (sq t.mask h0 N)=.empty) (hne:∀ m,m < N->t.slot (sq t.mask h0 m)≠.empty) (hNl:N < 10 * SetTable.turns t.mask) {Q:SetFound->Shared->Prop}
  (q1:d∉ds->∀ slot wd,cg t h0 slot wd->Q (.free slot wd) s) (q2:d∈ds->∀ i,ds[i]?=some d->Q (.there (if adding=true then none else some i)) s) :
  ∀ (fuel n:Nat) (st:Option SetTable.Probe),n<=N->N - n < fuel->pc (st.getD (t.probeStart h0))=steps t.mask n (c0 t.mask h0)->Dm t h0 n (st.getD (t.probeStart h0)).dummy ->
   (∀ m,m < n->∀ i,t.slot (sq t.mask h0 m)=.live i->ds[i]?≠some d)->wpAny (model P w) A (setSearchFrom a x h0 adding fuel st) Q E s
 | 0,n,st,h1,h2,h3,h4,h5=>by omega
 | fuel+1,n,st,h1,h2,h3,h4,h5=>by
  have T:=S.tb
  have hsh:∀ (i:Nat) (e:Int×Value),es[i]?=some e->KL es i=e.1:=fun i e he=>by unfold KL;rw [he];rfl
  have hlive:∀ (j i:Nat),t.slot j=.live i->∃ e d',es[i]?=some e/\ds[i]?=some d'/\El vp w s.heap true e d':=fun j i hl=>by
   have hp:=(lP T.rp).mp hl
   have hi:i < es.size:=by rw [<- T.sz];exact (Qr.mp hp).1
   obtain ⟨d',h1,h2⟩:=S.get (P7 hi)
   exact ⟨es[i],d',P7 hi,h1,h2⟩
  have hdiff:∀ (m i:Nat),t.slot (sq t.mask h0 m)=.live i->KL es i≠h0->ds[i]?≠some d:=fun m i hl hh z=>by
   obtain ⟨e,d',e1,e2,e3⟩:=hlive _ i hl
   rw [e2] at z
   cases z
   rw [hsh i e e1,e3.hs] at hh
   exact hh hx.hs.symm
  unfold setSearchFrom
  refine Ph (eM S.ob T.fits ?_)
  dsimp only
  rw [T.odd]
  simp only [PB,Qm]
  have hg:=qW (hashAt:=KL es) hN hne (10 * SetTable.turns t.mask) n (st.getD (t.probeStart h0)) h1 (by omega) h3 h4
  have hpr:∀ met,SetTable.probe.go t (KL es) h0 (10 * SetTable.turns t.mask) (st.getD (t.probeStart h0))=some met->t.probe (KL es) h0 (st.getD (t.probeStart h0))=some met:=fun _ e=>e
  rcases hg with ⟨dm,e1,e2,e3⟩ | ⟨k,i,q,e1,e2,e3,e4,e5,e6,e7,e8⟩
  ·
   have hnd:d∉ds:=fun hm=>by
    obtain ⟨i,hi⟩:=QM hm
    obtain ⟨e,he,hel⟩:=iM S.el hi
    rw [P6] at he
    have hil:i < t.place.size:=by rw [T.sz];exact (Qr.mp he).1
    obtain ⟨n',n1,n2⟩:=T.rc i e t.place[i] he (P7 hil)
    have hh:e.1=h0:=hel.hs.trans hx.hs.symm
    rw [hh] at n1 n2
    have hsl:t.slot (sq t.mask h0 n')=.live i:=(lP T.rp).mpr (by rw [n1];exact P7 hil)
    have hnN:n' < N:=by
     apply Qp
     intro z
     by_cases z2:n'=N
     ·rw [z2,hN] at hsl;cases hsl
     ·exact n2 N (by omega) hN
    by_cases z:n' < n
    ·exact h5 n' z i hsl hi
    ·exact e3 n' (by omega) hnN i hsl (by rw [hsh i e he];exact hh)
   split
   case h_2 hno=>exact absurd (hpr _ e1) (hno _)
   rename_i met hmet
   have hme:=hmet.symm.trans (hpr _ e1)
   cases hme
   dsimp only
   rcases e2 with rfl | ⟨m,m1,rfl,m3⟩
   ·exact Pk (q1 hnd _ false ⟨by simpa using hN,N,rfl,hne⟩)
   ·dsimp only
    rw [m3]
    have:(adding && (SetTable.Slot.dummy != SetTable.Slot.dummy))=false:=by cases adding<;>rfl
    rw [this]
    simp only [PB,Qm]
    exact Pk (q1 hnd _ true ⟨by simpa using m3,m,rfl,fun m' hm'=>hne m' (by omega)⟩)
  ·
   split
   case h_2 hno=>exact absurd (hpr _ e1) (hno _)
   rename_i met hmet
   have hme:=hmet.symm.trans (hpr _ e1)
   cases hme
   dsimp only
   obtain ⟨e,d',f1,f2,f3⟩:=hlive _ i e4
   have go:wpAny (model P w) A (do
     let some (_,y):=es[i]? | unsupported "internal:set-entry"
     let equal <- holding [y] (eqBool y x)
     let (es',_,t') <- setState a
     if adding && equal then return SetFound.there none
     let some same:=t'.sameMemory t.moves t.mask | unsupported "set.changed-during-lookup:is-the-new-block-at-the-old-address"
     let still <- match (if same then t'.slot (sq t.mask h0 k) else .empty) with
      | .live i'=>match es'[i']? with
       | some (_,y')=>do pure (if <- isSame y' y then some i' else none)
       | none=>pure none
      | _=>pure none
     match still with
     | none=>rule "set.search.anew";setSearchFrom a x h0 adding fuel none
     | some i'=>if equal then return .there (some i') else setSearchFrom a x h0 adding fuel (some q)) Q E s:=by
    rw [f1]
    obtain ⟨he,y⟩:=e
    dsimp only
    refine Ph (Qk (LP f3 hx hu ?_))
    refine Ph (eM S.ob T.fits ?_)
    dsimp only
    have hsm:t.sameMemory t.moves t.mask=some true:=by unfold SetTable.sameMemory;simp
    by_cases z:d'=d
    ·subst z
     have hm:d'∈ds:=P0 f2
     have Q2:=q2 hm i f2
     cases adding with
     | true=>
      simp only [decide_true,Ro,Qe] at Q2 ⊢
      exact Pk Q2
     | false=>
      simp only [SU,PB,Qm] at Q2 ⊢
      rw [hsm]
      dsimp only
      rw [if_pos rfl,e4]
      dsimp only
      rw [f1]
      dsimp only
      refine Ph (Sg (a:=true) (yg f3) ?_)
      refine Ph (Pk ?_)
      simp only [decide_true,Qe]
      exact Pk Q2
    ·simp only [PR z,Bool.and_false,PB,Qm]
     rw [hsm]
     dsimp only
     rw [if_pos rfl,e4]
     dsimp only
     rw [f1]
     dsimp only
     refine Ph (Sg (a:=true) (yg f3) ?_)
     refine Ph (Pk ?_)
     simp only [Qe]
     refine yh S hx hu hN hne hNl q1 q2 fuel (k+1) (some q) (by omega) (by omega) e6 e7 fun m hm i' hi'=>?_
     by_cases z1:m < n
     ·exact h5 m z1 i' hi'
     ·by_cases z2:m=k
      ·subst z2
       rw [e4] at hi'
       cases hi'
       rw [f2]
       exact fun q=>z (Qt q)
      ·exact hdiff m i' hi' (e8 m (by omega) (by omega) i' hi')
   by_cases hl:t.led=true
   ·rw [hl]
    simp only [R5,PB,Qm]
    exact go
   ·have hl':t.led=false:=by simpa using hl
    rw [hl']
    simp only [SV,Qe]
    refine Ph (En hx ?_ _ fun y hy=>?_)
    ·simp only [PB,Qm]
     exact go
    ·obtain ⟨e',he',rfl⟩:=P8.mp hy
     have hm:e'∈es.toList:=by
      have:=he'
      simp at this
      simpa using this.1
     obtain ⟨i',hi'⟩:=QM hm
     obtain ⟨d2,_,hd2⟩:=fR S.el hi'
     exact ⟨e'.1,d2,hd2⟩
end
theorem qj {α β:Type} {R:α->β->Prop}:∀ {xs:List α} {ys:List β} (p:Nat),Paired R xs ys->Paired R (xs.take p) (ys.take p)/\Paired R (xs.drop p) (ys.drop p)
 | _,_,0,h=>⟨by simp;exact .nil,by simpa using h⟩
 | _,_,p+1,.nil=>⟨by simp;exact .nil,by simp;exact .nil⟩
 | _,_,p+1,.cons r t=>by
  obtain ⟨a,b⟩:=qj p t
  exact ⟨by simp only [List.take_succ_cons];exact .cons r a,by simpa using b⟩
theorem sV {α β:Type} {R:α->β->Prop}:∀ {xs us:List α} {ys vs:List β},Paired R xs ys->Paired R us vs->Paired R (xs++us) (ys++vs)
 | _,_,_,_,.nil,h=>h
 | _,_,_,_,.cons r t,h=>.cons r (sV t h)
theorem uA {α β:Type} {R:α->β->Prop} {xs:Array α} {ys:List β} (p:Nat) {x:α} {y:β} (h:Paired R xs.toList ys) (r:R x y):Paired R (SetTable.insertAt xs p x).toList (ys.take p++y::ys.drop p):=by
 rw [Su]
 obtain ⟨a,b⟩:=qj p h
 exact sV a (.cons r b)
theorem qk {α β:Type} {R:α->β->Prop} {xs xs':List α} (p:List.Perm xs xs'):∀ {ys:List β},Paired R xs ys->∃ ys',List.Perm ys ys'/\Paired R xs' ys':=by
 induction p with
 | nil=>exact fun h=>⟨_,.refl _,h⟩
 | cons x _ ih=>
  intro ys h
  cases h with
  | cons r t=>obtain ⟨ys',a,b⟩:=ih t;exact ⟨_,a.cons _,.cons r b⟩
 | swap x y l=>
  intro ys h
  cases h with
  | cons r t=>
   cases t with
   | cons r' t=>exact ⟨_,.swap _ _ _,.cons r' (.cons r t)⟩
 | trans _ _ ih1 ih2=>
  intro ys h
  obtain ⟨y1,a,b⟩:=ih1 h
  obtain ⟨y2,c,d⟩:=ih2 b
  exact ⟨y2,a.trans c,d⟩
theorem sW (ds:List PyData) (p:Nat) (d:PyData):List.Perm (ds.take p++d::ds.drop p) (d::ds):=by
 have:=Rm p ds
 exact List.perm_middle.trans (by rw [this])
theorem Bf {ds ds':List PyData} (p:List.Perm ds ds') (h:ds.Nodup):ds'.Nodup:=p.nodup_iff.mp h
section
variable {P:Program} {w:World} {A:Around} {E:Value->Shared->Prop} {s:Shared} {vp:Value->Prop}
theorem El.text {h:Heap} {e:Int×Value} {d:PyData} (x:El vp w h false e d):∃ y t,d=.str y/\e.2=.str y t/\e.1=hashStr w y:=by
 obtain ⟨as,r⟩:=x.rd
 have k:=x.kd
 have t:=x.tr
 have hs:=x.hs
 obtain ⟨e1,v⟩:=e
 dsimp only at r hs ⊢
 cases r with
 | str y u=>exact ⟨y,u,rfl,rfl,hs⟩
 | tuple=>simp [fM] at k
 | _=>simp [av] at t
theorem El.refs {h:Heap} {e:Int×Value} {d:PyData} (x:El vp w h true e d):∃ a,e.2=.ref a:=by
 obtain ⟨as,r⟩:=x.rd
 have k:=x.kd
 obtain ⟨e1,v⟩:=e
 dsimp only at r ⊢
 cases r with
 | tuple=>exact ⟨_,rfl⟩
 | _=>simp [fM] at k
theorem yi {h:Heap} {es:List (Int×Value)} {ds:List PyData} (p:Paired (El vp w h false) es ds):ElemsOf (strKind P w) es:=by
 intro e he
 obtain ⟨i,hi⟩:=QM he
 obtain ⟨d,_,x⟩:=fR p hi
 obtain ⟨y,t,e1,e2,e3⟩:=x.text
 exact ⟨⟨y,by rw [e2];show Value.isStrOf y (.str y t)=true;simp [Value.isStrOf],e3⟩,by rw [e2];rfl⟩
theorem Eo {h:Heap} {es:List (Int×Value)} {ds:List PyData} (p:Paired (El vp w h false) es ds) (y:Str) :
  match es.findIdx? (fun e=>(strKind P w).is y e.2) with
  | some j=>ds[j]?=some (.str y)
  | none=>PyData.str y∉ds:=by
 have hk:∀ {e:Int×Value} {d:PyData},El vp w h false e d->((strKind P w).is y e.2=true<->d=.str y):=fun {e d} x=>by
  obtain ⟨z,t,rfl,e2,_⟩:=x.text
  rw [e2]
  show Value.isStrOf y (.str z t)=true<->_
  constructor
  ·intro q
   obtain ⟨u,hu⟩:=Value.isStrOf_shape q
   injection hu with hu
   rw [hu]
  ·intro q
   cases q
   simp [Value.isStrOf]
 cases hr:es.findIdx? (fun e=>(strKind P w).is y e.2) with
 | some j=>
  obtain ⟨hj,hp,_⟩:=List.findIdx?_eq_some_iff_getElem.mp hr
  obtain ⟨d,h1,h2⟩:=fR p (Pz hj)
  show ds[j]?=_
  rw [h1,(hk h2).mp hp]
 | none=>
  show PyData.str y∉ds
  intro hm
  obtain ⟨i,hi⟩:=QM hm
  obtain ⟨e,h1,h2⟩:=iM p hi
  have:=List.findIdx?_eq_none_iff.mp hr e (P0 h1)
  rw [(hk h2).mpr rfl] at this
  cases this
theorem fJ.scan {h:Heap} {a:Addr} {ds:List PyData} {es:Array (Int×Value)} {ep:Nat} {t:SetTable} (S:fJ vp w h a false ds es ep t) {x:Value} {y:Str} {u:Tok} (hx:x=.str y u):byScan x es=true:=
 byScan_of (prog:=default) (w:=w) (knd:=strKind default w) (by rw [hx];rfl) (by rw [S.size];have:=S.ln;show _ < 4096;omega) (yi S.el)
theorem J5 {b:Addr} {es:Array (Int×Value)}:byScan (.ref b) es=false:=rfl
end
section
variable {P:Program} {w:World} {A:Around} {E:Value->Shared->Prop} {s:Shared} {vp:Value->Prop}
theorem yj {α:Type} {body:α->Option Bool×Unit->Sem (ForInStep (Option Bool×Unit))} {G:α->Prop} {R:Option Bool×Unit->Shared->Prop} (hb:∀ y,G y->∀ R':ForInStep (Option Bool×Unit)->Shared->Prop,R' (.yield (none,())) s->R' (.done (some false,())) s->wpAny (model P w) A (body y (none,())) R' E s) :
  ∀ ys:List α,(∀ y∈ys,G y)->R (none,()) s->R (some false,()) s->wpAny (model P w) A (forIn ys (none,()) body) R E s
 | [],_,h,_=>by
  rw [Rp]
  exact Pk h
 | y::ys,g,h,h'=>by
  rw [Rc]
  refine Ph (hb y (g y (PJ ..)) _ ?_ ?_)
  ·exact yj hb ys (fun z hz=>g z (Pr _ hz)) h h'
  ·exact Pk h'
mutual
theorem vA:∀ (d:PyData) (n:Nat) (v:Value) (as:List Addr) (Q:Bool->Shared->Prop),av d=true->d.depth<=n->Reads s.heap v d as->(∀ b,Q b s)->wpAny (model P w) A (hashByValue n v) Q E s
 | .str x,n,v,as,Q,_,_,r,h=>by
  cases r
  have:hashByValue n (.str x ‹_›)=pure false:=by cases n<;>rfl
  rw [this]
  exact Pk (h _)
 | .tuple ds,n,v,as,Q,t,hn,r,h=>by
  cases r with
  | tuple ho hc hd hi=>
   rename_i a o items k
   have hT:s.TypeIs (.ref a) "tuple" := ⟨o,ho,hc⟩
   simp only [av] at t
   simp only [PyData.depth] at hn
   obtain ⟨m,rfl⟩:∃ m,n=m+1:=⟨n - 1,by omega⟩
   unfold hashByValue
   refine Ph (RX hT R4.lookup ?_)
   dsimp only
   refine Ph (Qv ho hd ?_)
   simp only [Tb]
   refine Ph ?_
   rw [<- SH]
   refine yj (G:=fun y=>∃ d' as',av d'=true/\d'.depth<=m/\Reads s.heap y d' as'/\∀ Q':Bool->Shared->Prop,(∀ b,Q' b s)->wpAny (model P w) A (hashByValue m y) Q' E s) (fun y ⟨d',as',g1,g2,g3,g4⟩ R' r1 r2=>?_) items.toList ?_ (Pk (h _)) (Pk (h _))
   ·refine Ph (g4 _ fun b=>?_)
    cases b
    ·exact Pk r2
    ·exact Pk r1
   ·exact sX ds m items.toList _ t (by omega) hi
 | .none,_,_,_,_,t,_,_,_=>by simp [av] at t
 | .bool _,_,_,_,_,t,_,_,_=>by simp [av] at t
 | .int _,_,_,_,_,t,_,_,_=>by simp [av] at t
 | .list _,_,_,_,_,t,_,_,_=>by simp [av] at t
 | .dict _,_,_,_,_,t,_,_,_=>by simp [av] at t
theorem sX:∀ (ds:List PyData) (m:Nat) (vs:List Value) (as:List Addr),aX ds=true->PyData.depthAll ds<=m->ReadsAll s.heap vs ds as->∀ y∈vs,∃ d' as',av d'=true/\d'.depth<=m/\Reads s.heap y d' as'/\∀ Q':Bool->Shared->Prop,(∀ b,Q' b s)->wpAny (model P w) A (hashByValue m y) Q' E s
 | [],m,_,_,_,_,.nil,y,hy=>by simp at hy
 | d::ds,m,_,_,t,hn,.cons r1 r2,y,hy=>by
  simp only [aX,Pl] at t
  simp only [PyData.depthAll] at hn
  rcases Pn.mp hy with rfl | hy
  ·exact ⟨d,_,t.1,by omega,r1,fun Q' h=>vA d m _ _ Q' t.1 (by omega) r1 h⟩
  ·exact sX ds m _ _ t.2 (by omega) r2 y hy
end
theorem OA {md:Bool} {e:Int×Value} {d:PyData} (x:El vp w s.heap md e d) {Q:Bool->Shared->Prop} (h:∀ b,Q b s):wpAny (model P w) A (hashByValue 8 e.2) Q E s:=by
 obtain ⟨as,r⟩:=x.rd
 exact vA d 8 _ as Q x.tr x.dp r h
theorem ow {h h':Heap} {a:Addr} {es:Array (Int×Value)} {ep:Nat} {t:SetTable} (ho:h.get? a=some (bN es ep t)) (sb:Heap.SameBut a h h'):∀ b o vs n,h.get? b=some o->o.cls=.type "tuple" -> o.data=.seq vs n->h'.get? b=some o:=fun b o vs n e c _=>by
 refine (sb.2 b fun z=>?_).trans e
 rw [z,ho] at e
 cases e
 exact absurd (SW c) (by decide)
theorem ox {a:Addr} {es es':Array (Int×Value)} {ep:Nat} {t t':SetTable} {Q:Unit->Shared->Prop} (ho:s.heap.get? a=some (bN es ep t)) (hz:es'.size<=1000)
  (h:∀ h',h'.get? a=some (bN es' (ep+1) t')->Heap.SameBut a s.heap h'->Q () {s with heap:=h'}):wpAny (model P w) A (storeSet a es' t') Q E s:=by
 refine wpAny_storeSet_of ho rfl (h _ ?_ (Sf ..)) (by rw [QH];omega)
 have:=QY (Obj.putSet es' t') ho (by rw [putSet_of es' t' rfl];rfl)
 rw [putSet_of es' t' rfl] at this
 exact this
structure pI (vp:Value->Prop) (w:World) (h:Heap) (md:Bool) (ds:List PyData) (es:Array (Int×Value)) (t:SetTable):Prop where
 tb:uz es t
 ld:t.led=true\/cP w=true
 nd:ds.Nodup
 ln:ds.length<=120
 el:Paired (El vp w h md) es.toList ds
theorem pI.size {h:Heap} {md:Bool} {ds:List PyData} {es:Array (Int×Value)} {t:SetTable} (S:pI vp w h md ds es t):es.size=ds.length:=by
 have:=P4 S.el
 simpa using this
theorem pI.keep {h h':Heap} {md:Bool} {ds:List PyData} {es:Array (Int×Value)} {t:SetTable} (S:pI vp w h md ds es t) (k:∀ b o vs n,h.get? b=some o->o.cls=.type "tuple" -> o.data=.seq vs n->h'.get? b=some o):pI vp w h' md ds es t:=
 ⟨S.tb,S.ld,S.nd,S.ln,Paired.t8 S.el fun _ _ x=>El.keep x k⟩
theorem sY {md:Bool} {h:Heap} {a:Addr} {ds:List PyData} {es:Array (Int×Value)} {ep:Nat} {t:SetTable} {x:Value} {h0:Int} {d:PyData} {slot:Nat} {wd:Bool} (S:fJ vp w h a md ds es ep t) (hx:El vp w h md (h0,x) d) (hn:d∉ds) (hl:ds.length < 120) (R:cg t h0 slot wd) (pl:Bool) :
  ∃ ds',List.Perm ds' (d::ds)/\pI vp w h md ds' (SetTable.insertAt es (t.put slot).2 (h0,x)) {(t.put slot).1 with plain:=pl}/\((!wd && ({(t.put slot).1 with plain:=pl}:SetTable).tooFull)=false->({(t.put slot).1 with plain:=pl}:SetTable).fill * 5 < ({(t.put slot).1 with plain:=pl}:SetTable).mask * 3):=by
 obtain ⟨r1,n,r2,r3⟩:=R
 have hs:∀ i,t.slot slot≠.live i:=fun i z=>by rw [r1] at z;split at z<;>cases z
 have hm:slot<=t.mask:=by
  rw [<- r2]
  unfold sq
  have bound:∀ q (c:Pc),c.j+c.more<=t.mask->(steps t.mask q c).j+(steps t.mask q c).more<=t.mask:=by
   intro q
   induction q with
   | zero=>intro c hc;exact hc
   | succ q ih=>
    intro c hc
    simp only [steps]
    refine ih _ ?_
    unfold step
    split
    ·show c.j+1+(c.more - 1)<=t.mask
     omega
    ·show (SetTable.leap t.mask c.i c.pt).1+(SetTable.runEnd t.mask (SetTable.leap t.mask c.i c.pt).1 - (SetTable.leap t.mask c.i c.pt).1)<=t.mask
     have:(SetTable.leap t.mask c.i c.pt).1 < t.mask+1:=Ti _ (by omega)
     unfold SetTable.runEnd
     split<;>omega
  have hb:=bound n (c0 t.mask h0) (by
   show SetTable.bits h0 % (t.mask+1)+(SetTable.runEnd t.mask (SetTable.bits h0 % (t.mask+1)) - SetTable.bits h0 % (t.mask+1))<=t.mask
   have:SetTable.bits h0 % (t.mask+1) < t.mask+1:=Ti _ (by omega)
   unfold SetTable.runEnd
   split<;>omega)
  omega
 obtain ⟨T1,T2⟩:=GN (x:=x) S.tb hs hm r2 r3
 refine ⟨_,sW ds (t.put slot).2 d,⟨T1.flags rfl rfl rfl,S.ld,?_,?_,uA _ S.el hx⟩,fun hq=>?_⟩
 ·exact Bf (sW ds _ d).symm (QW.mpr ⟨hn,S.nd⟩)
 ·rw [(sW ds _ d).length_eq]
  simp
  omega
 ·cases wd with
  | true=>
   have:=T2 (by simpa using r1)
   show (t.put slot).1.fill * 5 < t.mask * 3
   rw [this]
   exact S.tb.tf
  | false=>
   simp only [SV,TF] at hq
   unfold SetTable.tooFull at hq
   simp only [decide_eq_false_iff_not] at hq
   exact Nat.lt_of_not_le hq
theorem ql {md:Bool} {h:Heap} {ds:List PyData} {es:Array (Int×Value)} {t:SetTable} (S:pI vp w h md ds es t) {wanted:Nat} (hw:wanted < 1024) (hn:es.size * 5 < wanted * 3\/es.size<=4) :
  ∃ t' order ds',t.relaid (es.map (·.1)) wanted=some (t',order)/\List.Perm ds' ds/\pI vp w h md ds' (order.filterMap (es[·]?)) t'/\Tab (order.filterMap (es[·]?)) t'/\List.Perm order.toList (List.range es.size)/\t'.mask+1=SetTable.sizeAbove wanted:=by
 obtain ⟨t',order,e1,e2,e3,e4,e5,e6,_⟩:=Cm (es:=es) (t:=t) hw hn
 obtain ⟨ds',p1,p2⟩:=qk e3.symm S.el
 exact ⟨t',order,ds',e1,p1.symm,⟨e2.NJ,by rw [e4];exact S.ld,Bf p1 S.nd,by rw [<- p1.length_eq];exact S.ln,p2⟩,e2,e5,e6⟩
theorem yk {n:Nat} (h:n<=121):SetTable.grown n < 1024/\(n * 5 < SetTable.grown n * 3\/n<=4):=by
 unfold SetTable.grown
 rw [if_neg (by omega)]
 omega
theorem pI.at {md:Bool} {h:Heap} {a:Addr} {ds:List PyData} {es:Array (Int×Value)} {ep:Nat} {t:SetTable} (S:pI vp w h md ds es t) (T:Tab es t) (ho:h.get? a=some (bN es ep t)):fJ vp w h a md ds es ep t:=⟨ho,T,S.ld,S.nd,S.ln,S.el⟩
theorem Ep {md:Bool} {a:Addr} {ds:List PyData} {es:Array (Int×Value)} {ep:Nat} {t:SetTable} {wanted:Nat} {Q:Unit->Shared->Prop} (ho:s.heap.get? a=some (bN es ep t)) (S:pI vp w s.heap md ds es t) (hw:wanted < 1024) (hn:es.size * 5 < wanted * 3\/es.size<=4)
  (h:∀ h' ds' es' ep' t',Heap.SameBut a s.heap h'->fJ vp w h' a md ds' es' ep' t'->List.Perm ds' ds->t'.mask+1=SetTable.sizeAbove wanted->Q () {s with heap:=h'}):wpAny (model P w) A (setRelay a wanted) Q E s:=by
 unfold setRelay
 refine Ph (eM ho S.tb.fits ?_)
 dsimp only
 have hsz:=(ou wanted hw).2
 have hsl:¬ SetTable.sizeAbove wanted > sizeLine:=by
  rw [QH]
  simp only [Pn,P1,QU] at hsz
  omega
 rw [if_neg hsl]
 obtain ⟨t',order,ds',e1,e2,e3,e4,_,e5⟩:=ql S hw hn
 refine Ph ?_
 rw [e1]
 show wpAny _ _ (if ((order.filterMap (es[·]?)).size != es.size)=true then _ else pure (order.filterMap (es[·]?),t')) _ _ _
 have hse:(order.filterMap (es[·]?)).size=es.size:=by rw [e3.size,S.size,e2.length_eq]
 rw [if_neg (by simp [hse])]
 refine Pk ?_
 dsimp only
 refine ox ho (by rw [hse,S.size];have:=S.ln;omega) fun h' g1 g2=>?_
 exact h h' ds' _ _ t' g2 ((e3.keep (ow ho g2)).at e4 g1) e2 e5
end
section
variable {P:Program} {w:World} {A:Around} {E:Value->Shared->Prop} {s:Shared} {vp:Value->Prop}
theorem Er {md:Bool} {a:Addr} {ds:List PyData} {es:Array (Int×Value)} {ep:Nat} {t:SetTable} {x:Value} {h0:Int} {d:PyData} {slot:Nat} {wd:Bool} (S:fJ vp w s.heap a md ds es ep t) (hx:El vp w s.heap md (h0,x) d) (hn:d∉ds) (hl:ds.length < 120) (R:cg t h0 slot wd) (pl:Bool) {R':Bool->Shared->Prop}
  (q:∀ h' ds',Heap.SameBut a s.heap h'->ke vp w h' a md ds'->List.Perm ds' (d::ds)->R' true {s with heap:=h'}) :
  wpAny (model P w) A (do
   storeSet a (SetTable.insertAt es (t.put slot).2 (h0,x)) {(t.put slot).1 with plain:=pl}
   if (!wd && ({(t.put slot).1 with plain:=pl}:SetTable).tooFull)=true then do
    setRelay a (SetTable.grown (es.size+1))
    pure true
   else pure true) R' E s:=by
 obtain ⟨ds',p1,H,p3⟩:=sY S hx hn hl R pl
 have hsz:(SetTable.insertAt es (t.put slot).2 (h0,x)).size=es.size+1:=iL
 have hle:=S.ln
 have hes:=S.size
 refine Ph (ox S.ob (by rw [hsz];omega) fun h' g1 g2=>?_)
 have H':=H.keep (ow S.ob g2)
 by_cases hf:(!wd && ({(t.put slot).1 with plain:=pl}:SetTable).tooFull)=true
 ·rw [if_pos hf]
  obtain ⟨k1,k2⟩:=yk (n:=es.size+1) (by omega)
  refine Ph (Ep g1 H' k1 (by rw [hsz];exact k2) fun h2 ds2 es2 ep2 t2 f1 f2 f3 _=>Pk ?_)
  exact q h2 ds2 (g2.trans f1) ⟨_,_,_,f2⟩ (f3.trans p1)
 ·rw [if_neg hf]
  exact Pk (q h' ds' g2 ⟨_,_,_,H'.at (H'.tb.tab (p3 (by simpa using hf))) g1⟩ p1)
theorem Cn {es:Array (Int×Value)} {t:SetTable} (T:Tab es t) (h0:Int):∃ slot wd,t.freeSlot h0=some (slot,wd)/\cg t h0 slot wd:=by
 obtain ⟨N,n1,n2,n3⟩:=T.free h0
 have hg:=qW (hashAt:=fun _=>h0+1) n2 n3 (10 * SetTable.turns t.mask) 0 (t.probeStart h0) (by omega) (by unfold SetTable.turns;omega) rfl (.inl rfl)
 rcases hg with ⟨dm,e1,e2,_⟩ | ⟨k,i,q,_,_,_,_,e5,_⟩
 ·have hp:t.probe (fun _=>h0+1) h0 (t.probeStart h0)=some (.empty (sq t.mask h0 N) dm):=e1
  unfold SetTable.freeSlot
  rw [hp]
  rcases e2 with rfl | ⟨m,m1,rfl,m3⟩
  ·exact ⟨_,_,rfl,by simpa using n2,N,rfl,n3⟩
  ·exact ⟨_,_,rfl,by simpa using m3,m,rfl,fun m' hm'=>n3 m' (by omega)⟩
 ·omega
theorem yl {md:Bool} {h:Heap} {ds:List PyData} {es:Array (Int×Value)} {t:SetTable} (S:pI vp w h md ds es t) {wanted:Nat} (hw:wanted < 1024) (hn:es.size * 5 < wanted * 3\/es.size<=4) :
  ∃ es' t' ds',relayAll t es wanted=(es',t',false)/\List.Perm ds' ds/\pI vp w h md ds' es' t'/\Tab es' t'/\es'.size=es.size:=by
 obtain ⟨t',order,ds',e1,e2,e3,e4,e5,_⟩:=ql S hw hn
 have hse:(order.filterMap (es[·]?)).size=es.size:=by rw [e3.size,S.size,e2.length_eq]
 refine ⟨_,_,ds',?_,e2,e3,e4,hse⟩
 unfold relayAll
 rw [e1]
 dsimp only
 rw [if_pos]
 simp only [coversAll,Pl]
 exact ⟨List.isPerm_iff.mpr e5,e4.fits⟩
theorem J6 {md:Bool} {a:Addr} {ds:List PyData} {x:Value} {h0:Int} {d:PyData} {Q:Bool->Shared->Prop} (S:ke vp w s.heap a md ds) (hx:El vp w s.heap md (h0,x) d) (hu:A.units+20 < cLine) (hl:ds.length < 120)
  (q1:d∈ds->Q false s) (q2:d∉ds->∀ h' ds',Heap.SameBut a s.heap h'->ke vp w h' a md ds'->List.Perm ds' (d::ds)->Q true {s with heap:=h'}) :
  wpAny (model P w) A (setAddHashed a x h0) Q E s:=by
 obtain ⟨es,ep,t,S⟩:=S
 unfold setAddHashed setAddHashedIn
 refine Qk (Ph (eM S.ob S.tb.fits ?_))
 dsimp only
 cases md with
 | true=>
  obtain ⟨b,hb⟩:=hx.refs
  dsimp only at hb
  subst hb
  rw [J5]
  simp only [PB,Qm]
  obtain ⟨N,n1,n2,n3⟩:=S.tb.free h0
  have hle:=S.tb.le
  unfold setSearch
  refine Ph (yh (N:=N) (adding:=true) S hx hu n2 n3 (by unfold SetTable.turns;omega) (fun hn slot wd R=>?_) (fun hm i hi=>?_) 100000 0 none (by omega) (by omega) rfl (.inl rfl) fun m hm=>by omega)
  ·dsimp only
   refine Ph (eM S.ob S.tb.fits ?_)
   dsimp only
   have fin:∀ pl,wpAny (model P w) A (do
     storeSet a (SetTable.insertAt es (t.put slot).2 (h0,.ref b)) {(t.put slot).1 with plain:=pl}
     if (!wd && ({(t.put slot).1 with plain:=pl}:SetTable).tooFull)=true then do
      setRelay a (SetTable.grown (es.size+1))
      pure true
     else pure true) Q E s:=fun pl=>Er S hx hn hl R pl (q2 hn)
   refine Q0 (fun _=>Ph (OA hx fun bv=>?_)) fun _=>Ph (Pk (fin (t.put slot).1.plain))
   cases bv with
   | true=>exact fin (t.put slot).1.plain
   | false=>exact fin false
  ·simp only [Qe]
   exact Pk (q1 hm)
 | false=>
  obtain ⟨y,u,rfl,e2,e3⟩:=hx.text
  dsimp only at e2 e3
  rw [S.scan e2]
  simp only [Qe]
  unfold setAddByScan
  refine Ph ?_
  refine Ph (RD ?_)
  have hk:(strKind P w).is y x=true:=by rw [e2];show Value.isStrOf y (.str y u)=true;simp [Value.isStrOf]
  have ti:=Eo (P:=P) S.el y
  rw [show h0=(strKind P w).hash y from e3]
  refine Ph (wpAny_setScan_of (knd:=strKind P w) hk S.ob rfl S.tb.fits (yi S.el) ?_)
  rw [<- show h0=(strKind P w).hash y from e3]
  cases hr:es.toList.findIdx? (fun e=>(strKind P w).is y e.2) with
  | some j=>
   rw [hr] at ti
   dsimp only at ti ⊢
   exact Pk (Pk (q1 (P0 ti)))
  | none=>
   rw [hr] at ti
   dsimp only at ti ⊢
   obtain ⟨slot,wd,f1,R⟩:=Cn S.tb h0
   obtain ⟨ds1,_,H1,_⟩:=sY S hx ti hl R (t.put slot).1.plain
   have hfit:(t.put slot).1.fits (SetTable.insertAt es (t.put slot).2 (h0,x)).size=true:=H1.tb.fits
   have hlay:layNew t es h0 x=(SetTable.insertAt es (t.put slot).2 (h0,x),(t.put slot).1,wd,false):=by
    unfold layNew
    rw [f1]
    dsimp only
    unfold SetTable.orStandIn
    rw [if_pos hfit,hfit]
    rfl
   rw [hlay]
   dsimp only
   refine Ph (Pk ?_)
   have hsz:(SetTable.insertAt es (t.put slot).2 (h0,x)).size=es.size+1:=iL
   have hle:=S.ln
   have hes:=S.size
   have fin:∀ pl,wpAny (model P w) A (do
     storeSet a (SetTable.insertAt es (t.put slot).2 (h0,x)) {(t.put slot).1 with plain:=pl}
     if (!wd && ({(t.put slot).1 with plain:=pl}:SetTable).tooFull)=true then do
      (match (relayAll {(t.put slot).1 with plain:=pl} (SetTable.insertAt es (t.put slot).2 (h0,x)) (SetTable.grown (SetTable.insertAt es (t.put slot).2 (h0,x)).size)).2.2 with | true=>rule "set.scan.the-table-gave-way" | false=>pure ())
      storeSet a (relayAll {(t.put slot).1 with plain:=pl} (SetTable.insertAt es (t.put slot).2 (h0,x)) (SetTable.grown (SetTable.insertAt es (t.put slot).2 (h0,x)).size)).1 (relayAll {(t.put slot).1 with plain:=pl} (SetTable.insertAt es (t.put slot).2 (h0,x)) (SetTable.grown (SetTable.insertAt es (t.put slot).2 (h0,x)).size)).2.1
      pure (some true)
     else pure (some true)) (fun r s'=>wpAny (model P w) A (match r with | some added=>pure added | none=>setAddHashedIn a x h0 99999) Q E s') E s:=fun pl=>by
    obtain ⟨ds',p1,H,p3⟩:=sY S hx ti hl R pl
    refine Ph (ox S.ob (by rw [hsz];omega) fun h' g1 g2=>?_)
    have H':=H.keep (ow S.ob g2)
    by_cases hf:(!wd && ({(t.put slot).1 with plain:=pl}:SetTable).tooFull)=true
    ·rw [if_pos hf]
     obtain ⟨k1,k2⟩:=yk (n:=es.size+1) (by omega)
     obtain ⟨es2,t2,ds2,m1,m2,m3,m4,m5⟩:=yl (wanted:=SetTable.grown (SetTable.insertAt es (t.put slot).2 (h0,x)).size) H' (by rw [hsz];exact k1) (by rw [hsz];exact k2)
     rw [m1]
     dsimp only
     refine Ph (Pk ?_)
     refine Ph (ox (s:={s with heap:=h'}) g1 (by rw [m5,hsz];omega) fun h2 g3 g4=>Pk (Pk ?_))
     exact q2 ti h2 ds2 (g2.trans g4) ⟨_,_,_,(m3.keep (ow g1 g4)).at m4 g3⟩ (m2.trans p1)
    ·rw [if_neg hf]
     exact Pk (Pk (q2 ti h' ds' g2 ⟨_,_,_,H'.at (H'.tb.tab (p3 (by simpa using hf))) g1⟩ p1))
   refine Q0 (fun _=>Ph (OA hx fun bv=>?_)) fun _=>Ph (Pk (fin (t.put slot).1.plain))
   cases bv with
   | true=>exact fin (t.put slot).1.plain
   | false=>exact fin false
end
theorem fo {α:Type} {l:List α} {i:Nat} (h:i < l.length):List.Perm (l[i]::l.eraseIdx i) l:=by
 rw [SQ]
 have e:=Rm i l
 rw [QD h] at e
 conv=>rhs;rw [<- e]
 exact List.perm_middle.symm
theorem Bg {α:Type} (next:Nat->Nat):∀ (fuel k:Nat) (left:List α) (out:Array α),fuel=left.length->List.Perm (pickOrder.go next fuel k left out).toList (out.toList++left)
 | 0,k,left,out,h=>by
  have:left=[]:=RL.mp h.symm
  subst this
  simp [pickOrder.go]
 | fuel+1,k,left,out,h=>by
  have hpos:0 < left.length:=by omega
  have hlt:next k % left.length < left.length:=Ti _ hpos
  simp only [pickOrder.go]
  rw [Pz hlt]
  dsimp only
  refine (Bg next fuel (k+1) _ _ (by rw [R8 hlt];omega)).trans ?_
  rw [Array.toList_push,Tx,List.singleton_append]
  refine List.Perm.append_left _ ?_
  exact fo hlt
theorem Co {α:Type} (next:Nat->Nat) (xs:Array α):List.Perm (pickOrder next xs).toList xs.toList:=by
 unfold pickOrder
 simpa using Bg next xs.size 0 xs.toList #[] (by simp)
section
variable {P:Program} {w:World} {A:Around} {E:Value->Shared->Prop} {s:Shared} {vp:Value->Prop}
theorem wJ {src:Source} {n:Nat} {Q:Nat->Shared->Prop} (hn:n≠0) (h:∀ i,i < n->Q i {s with drawn:=s.drawn.bump src}):wpAny (model P w) A (choose src n) Q E s:=fun Γ p hΓ=>by
 unfold choose
 rw [Sem.wp_choose]
 exact ⟨hn,h _ (Ti _ (Nat.pos_of_ne_zero hn))⟩
theorem Bh {α:Type}:∀ (n:Nat) (xs:List α) (s:Shared) (Q:List α->Shared->Prop),n=xs.length->(∀ L dr,List.Perm L xs->Q L {s with drawn:=dr})->wpAny (model P w) A (drawOrder n xs) Q E s
 | 0,xs,s,Q,h,q=>by
  have:xs=[]:=RL.mp h.symm
  subst this
  exact Pk (q [] s.drawn (.refl _))
 | n+1,[],s,Q,h,q=>by simp at h
 | n+1,x::xs,s,Q,h,q=>by
  unfold drawOrder
  refine Ph (wJ (by simp) fun i hi=>?_)
  rw [Pz hi]
  dsimp only
  refine Ph (Bh n _ _ _ (by rw [R8 hi];omega) fun L dr p=>Pk ?_)
  exact q _ dr ((p.cons _).trans (fo hi))
theorem lU {Q:Bool->Shared->Prop} (h:Q (cP w) s):wpAny (model P w) A setsByText Q E s:=by
 unfold setsByText
 exact Ph (wpAny_askSetting (Pk h))
end
section
variable {P:Program} {w:World} {A:Around} {E:Value->Shared->Prop} {s:Shared} {vp:Value->Prop}
theorem fJ.keep {h h':Heap} {a:Addr} {md:Bool} {ds:List PyData} {es:Array (Int×Value)} {ep:Nat} {t:SetTable} (S:fJ vp w h a md ds es ep t) (k:∀ b o,h.get? b=some o->h'.get? b=some o):fJ vp w h' a md ds es ep t:=
 ⟨k _ _ S.ob,S.tb,S.ld,S.nd,S.ln,Paired.t8 S.el fun _ _ x=>El.keep x fun b o _ _ e _ _=>k b o e⟩
end
section
variable {P:Program} {w:World} {A:Around} {E:Value->Shared->Prop} {s:Shared} {vp:Value->Prop}
theorem Es {h:Heap} {a:Addr} {led:Bool} {md:Bool} (ho:h.get? a=some (bN #[] 0 (.fresh 0 0 led))) (hl:led=true\/cP w=true):ke vp w h a md []:=
 ⟨#[],0,_,ho,⟨List.Pairwise.nil,List.Pairwise.nil,rfl,(by decide:(0:Nat) * 5 < 7 * 3),fun j hj=>by simp [SetTable.fresh] at hj,fun j hj=>by simp [SetTable.fresh] at hj,fun j hj=>by simp [SetTable.fresh] at hj,HV.1,fun i e j h1=>by simp at h1⟩,hl,List.nodup_nil,by simp,.nil⟩
end
theorem sub_tuple_set:isSubtype (.type "tuple") (.type "set")=pure false:=by rw [Tu];kernel_rfl
theorem sub_tuple_frozenset:isSubtype (.type "tuple") (.type "frozenset")=pure false:=by rw [Tu];kernel_rfl
def Ka (md:Bool) (d:PyData):Prop:=av d=true/\d.depth<=8/\bY d=true/\fM d=md
section
variable {P:Program} {w:World} {A:Around} {E:Value->Shared->Prop} {s:Shared} {vp:Value->Prop}
theorem Et {R:Result->Shared->Prop} {I:Addr} {fp wr:List Addr} {n:Nat} {Pv:Nat->Value->Prop} {St:Nat->Heap->Prop} {md:Bool} {ys:List PyData} {h0:Heap} (W:Walks P w A.in1 I fp wr n Pv St) (S:Addr) (hSf:S∉fp) (hn:n=ys.length) (hl:n<=120) (hu:A.in1.units+20 < cLine)
  (hv:∀ i v,Pv i v->∃ y,ys[i]?=some y/\Ka md y/\vp v/\∃ as,Reads h0 v y as) (hw:∀ b o,h0.get? b=some o->b∉wr) (hS0:h0.get? S=none) (hit:∀ i h,St i h->∀ b∈wr,∀ o,h.get? b=some o->o.cls≠.type "tuple") :
  ∀ (k i:Nat) (s:Shared) (ds:List PyData),n - i=k->i<=n->St i s.heap->ke vp w s.heap S md ds->(∀ d,d∈ds<->d∈ys.take i)->ds.length<=i->(∀ b o,h0.get? b=some o->s.heap.get? b=some o) ->
   (∀ h' tk ds',ke vp w h' S md ds'->(∀ d,d∈ds'<->d∈ys)->(∀ b o,h0.get? b=some o->h'.get? b=some o)->R (.ok (.ret .none)) {s with heap:=h',toks:=tk}) ->
   codeAny (model P w) A (.builtin "set.update.loop" ⟨[.ref S,.ref I],[]⟩) R s:=by
 have hSw:S∉wr:=fun h=>hSf (W.sub _ h)
 intro k
 induction k with
 | zero=>
  intro i s ds hk hi hst hS hm hd h0k hR
  have hin:i=n:=by omega
  subst hin
  refine Rf Sd ?_
  rw [Rz QE _]
  show wpAny _ A.in1 (pyNext (.ref I) >>= _) _ _ s
  refine Ph (W.done s _ _ hst fun h' tk kp=>?_)
  show wpAny _ A.in1 (ret Value.none) _ _ _
  obtain ⟨es,ep,t,S'⟩:=hS
  have kt:∀ b o vs n,s.heap.get? b=some o->o.cls=.type "tuple" -> o.data=.seq vs n->h'.get? b=some o:=fun b o vs n e c _=>kp b o (fun z=>hit _ _ hst b z o e c) e
  exact Pk (hR h' tk ds ⟨es,ep,t,kp _ _ hSw S'.ob,S'.tb,S'.ld,S'.nd,S'.ln,Paired.t8 S'.el fun _ _ x=>El.keep x kt⟩ (fun d=>by rw [hm,hn,List.take_length]) fun b o e=>kp b o (hw b o e) (h0k b o e))
 | succ k ih=>
  intro i s ds hk hi hst hS hm hd h0k hR
  have hlt:i < n:=by omega
  refine Rf Sd ?_
  rw [Rz QE _]
  show wpAny _ A.in1 (pyNext (.ref I) >>= _) _ _ s
  refine Ph (W.item i s _ _ hlt hst fun v h1 tk1 hP hst' kp=>?_)
  obtain ⟨y,hy,⟨y1,y2,y3,y4⟩,vy,as,ry⟩:=hv i v hP
  obtain ⟨es,ep,t,S'⟩:=hS
  have kt:∀ b o vs n,s.heap.get? b=some o->o.cls=.type "tuple" -> o.data=.seq vs n->h1.get? b=some o:=fun b o vs n e c _=>kp b o (fun z=>hit _ _ hst b z o e c) e
  have h0k1:∀ b o,h0.get? b=some o->h1.get? b=some o:=fun b o e=>kp b o (hw b o e) (h0k b o e)
  have S1:ke vp w h1 S md ds:=⟨es,ep,t,kp _ _ hSw S'.ob,S'.tb,S'.ld,S'.nd,S'.ln,Paired.t8 S'.el fun _ _ x=>El.keep x kt⟩
  have r1:Reads h1 v y as:=ju (fun b o vs n e _ _=>h0k1 b o e) y1 ry
  have ey:El vp w h1 md (pX w y,v) y:=⟨y1,y2,y3,rfl,y4,⟨as,r1⟩,vy⟩
  show wpAny _ A.in1 (holding [v] (setAdd S v) >>= _) _ _ _
  refine Ph (Qk ?_)
  unfold setAdd
  refine Qk ?_
  refine Ph (mZ y A.in1 {s with heap:=h1,toks:=tk1} v as _ _ y1 r1 (by omega) ?_)
  have htk:ys.take (i+1)=ys.take i++[y]:=by rw [List.take_add_one,hy];rfl
  refine J6 (s:={s with heap:=h1,toks:=tk1+mY y}) S1 ey hu (by omega) (fun hmem=>?_) fun hnm h2 ds2 sb S2 p2=>?_
  ·refine Pk ⟨Th QE _,ih (i+1) _ ds (by omega) hlt hst' S1 (fun d=>?_) (by omega) h0k1 fun h' tk ds' a b c=>hR h' tk ds' a b c⟩
   rw [htk,PL,<- hm]
   constructor
   ·exact .inl
   ·rintro (z | z)
    ·exact z
    ·rw [PV.mp z];exact hmem
  ·obtain ⟨es1,ep1,t1,S1'⟩:=S1
   refine Pk ⟨Th QE _,ih (i+1) {s with heap:=h2,toks:=tk1+mY y} ds2 (by omega) hlt (W.frame _ _ _ hst' fun b hb o e=>(sb.2 b fun z=>hSf (z▸hb)).trans e) S2 (fun d=>?_) (by rw [p2.length_eq];simp;omega) (fun b o e=>(sb.2 b fun z=>?_).trans (h0k1 b o e)) fun h' tk ds' a b c=>hR h' tk ds' a b c⟩
   ·rw [p2.mem_iff,htk,PL,<- hm,Pn,PV]
    exact Or.comm
   ·rw [z,hS0] at e
    cases e
theorem sZ (a:Value) {Q₁:Value->Shared->Prop} (h:Q₁ (.ref s.heap.objs.size) {s with heap:=s.heap.push (bN #[] 0 (.fresh 0 0 (!cP w)))}) :
  codeAny (model P w) A (.call (.builtin "set.__new__") ⟨[.type "set",a],[]⟩) (wants Q₁ E) s:=by
 refine codeAny_of_tree ?_
 show wpAny _ A.in1 (do checkBuiltinCall "set.__new__" ⟨[.type "set",a],[]⟩;again (.builtin "set.__new__" ⟨[.type "set",a],[]⟩)) _ _ s
 refine Ph (Sg (F.newCall_set_1 a) (Pk ⟨Th F.plain_set_new _,Rf F.entry_set_new ?_⟩))
 rw [Rz F.plain_set_new _]
 unfold Builtin.«set.__new__» Builtin.Frozenset.newClass
 have hsub:=sub_set_self
 obtain ⟨hp,g,d,tk,os⟩:=s
 dsimp only
 wp_walk
 refine wpAny_askSetting (Pk ?_)
 dsimp only
 simp only [newObj]
 refine Ph (wpAny_alloc (Pk ?_))
 exact Pk h
structure Src (P:Program) (w:World) (T:String) (l:Addr) (items:Array Value) (OK:Heap->Prop):Prop where
 ob:∀ h,OK h->∃ od n sl,h.get? l=some {cls:=.type T,dict:=od,data:=.seq items n,slots:=sl}
 kp:∀ h h',OK h->(∀ o,h.get? l=some o->h'.get? l=some o)->OK h'
 s1:isSubtype (.type T) (.type "set")=pure false
 s2:isSubtype (.type T) (.type "frozenset")=pure false
 nd:(Value.type T == Value.type "dict")=false
 it:∀ (A:Around) (E:Value->Shared->Prop) (s:Shared),A.handled=none->OK s.heap->∃ (oI:Obj) (St:Nat->Heap->Prop),oI.cls≠.type "tuple" /\
  (∀ Q:Value->Shared->Prop,Q (.ref s.heap.objs.size) {s with heap:=s.heap.push oI}->wpAny (model P w) A (pyIter (.ref l)) Q E s) /\
  (∀ A':Around,A'.handled=none->Walks P w A' s.heap.objs.size [s.heap.objs.size,l] [s.heap.objs.size] items.size (fun i v=>items[i]?=some v) St)/\St 0 (s.heap.push oI)/\(∀ i h,St i h->∀ o,h.get? s.heap.objs.size=some o->o.cls≠.type "tuple")
theorem src_list (l:Addr) (items:Array Value):Src P w "list" l items (fun h=>h.IsList l items) where
 ob:=fun h ⟨⟨c,d,da,sl⟩,ho,hc,n,hd⟩=>⟨d,n,sl,by cases hc;cases hd;exact ho⟩
 kp:=fun h h' x k=>x.at k
 s1:=F.sub_list_set
 s2:=F.sub_list_frozenset
 nd:=by decide
 it:=fun A E s hh hl=>by
  have hlS:l < s.heap.objs.size:=by obtain ⟨_,e,_⟩:=hl;exact Pp e
  exact ⟨{cls:=.type "list_iterator",data:=.fields #[.ref l,.int 0 0]},_,fun z=>absurd (SW z) (by decide),fun Q q=>wpAny_pyIter_list hl q,fun A' h'=>Walks.list h' _ l (PM hlS) items,⟨⟨_,Po _ rfl,rfl,rfl⟩,hl.push _⟩,fun i h ⟨⟨o',e,c,_⟩,_⟩ o eo=>by
   rw [e] at eo
   cases eo
   rw [c]
   exact fun z=>absurd (SW z) (by decide)⟩
theorem src_tuple (l:Addr) (items:Array Value):Src P w "tuple" l items (fun h=>h.IsTuple l items) where
 ob:=fun h ⟨⟨c,d,da,sl⟩,ho,hc,n,hd⟩=>⟨d,n,sl,by cases hc;cases hd;exact ho⟩
 kp:=fun h h' ⟨o,e,r⟩ k=>⟨o,k _ e,r⟩
 s1:=sub_tuple_set
 s2:=sub_tuple_frozenset
 nd:=by decide
 it:=fun A E s hh hl=>by
  have hlS:l < s.heap.objs.size:=by obtain ⟨_,e,_⟩:=hl;exact Pp e
  exact ⟨{cls:=.type "tuple_iterator",data:=.fields #[.ref l,.int 0 0]},_,fun z=>absurd (SW z) (by decide),fun Q q=>Sz hl q,fun A' h'=>Walks.tuple h' _ l (PM hlS) items,⟨⟨_,Po _ rfl,rfl,rfl⟩,hl.push _⟩,fun i h ⟨⟨o',e,c,_⟩,_⟩ o eo=>by
   rw [e] at eo
   cases eo
   rw [c]
   exact fun z=>absurd (SW z) (by decide)⟩
end
section
variable {P:Program} {w:World} {A:Around} {E:Value->Shared->Prop} {s:Shared} {vp:Value->Prop}
theorem readsAll_get {h:Heap}:∀ {vs:List Value} {ds:List PyData} {as:List Addr},ReadsAll h vs ds as->∀ {i:Nat} {v:Value},vs[i]?=some v->∃ d bs,ds[i]?=some d/\Reads h v d bs
 | _,_,_,.nil,i,v,e=>by simp at e
 | _,_,_,.cons r _,0,v,e=>by simp at e;subst e;exact ⟨_,_,rfl,r⟩
 | _,_,_,.cons _ t,i+1,v,e=>by simpa using readsAll_get t (i:=i) (by simpa using e)
set_option maxHeartbeats 3200000 in
theorem Eu {T:String} {l:Addr} {items:Array Value} {OK:Heap->Prop} {md:Bool} {ys:List PyData} {as:List Addr} {Q:Value->Shared->Prop} (K:Src P w T l items OK) (hh:A.handled=none) (hl:OK s.heap) (hr:ReadsAll s.heap items.toList ys as) (he:∀ y∈ys,Ka md y) (hvp:∀ v∈items.toList,vp v) (hn:ys.length<=120) (hu:A.units+25 < cLine)
  (h:∀ h' tk ds,ke vp w h' s.heap.objs.size md ds->(∀ d,d∈ds<->d∈ys)->(∀ b o,s.heap.get? b=some o->h'.get? b=some o)->Q (.ref s.heap.objs.size) {s with heap:=h',toks:=tk}) :
  wpAny (model P w) A (call (.type "set") [.ref l]) Q E s:=by
 have hr0:=hr
 have hlen:items.size=ys.length:=by
  have:=readsAll_len hr
  simpa using this
 obtain ⟨c,tl,hmro⟩:=R0.mro
 have hmade:=R0.made
 have hsub:=R0.sub
 refine wpAny_call (codeAny_of_tree ?_)
 show wpAny _ _ (callAny (.type "set") _) _ _ _
 refine Pk ⟨Code.quiet_builtin _ (by decide +kernel),Rf F.entry_type_call ?_⟩
 rw [Around.under_plain (weight_type_call_type "set" [.ref l] []) rfl]
 have h1:=R0.notType
 have h2:=R0.canCreate
 have hct:=F.typeCall_set_1 (.ref l)
 repeat (any_goals (first | assumption | wp_step))
 refine Tr (sZ (.ref l) (E:=E) (Q₁:=fun obj s₁=>obj=.ref s.heap.objs.size/\s₁={s with heap:=s.heap.push (bN #[] 0 (.fresh 0 0 (!cP w)))}) ⟨rfl,rfl⟩) fun r s₁ hr=>?_
 cases r with
 | error e=>exact hr
 | ok fl=>
  cases fl with
  | ret obj=>
   obtain ⟨rfl,rfl⟩:=hr
   have hS:(s.heap.push (bN #[] 0 (.fresh 0 0 (!cP w)))).get? s.heap.objs.size=some (bN #[] 0 (.fresh 0 0 (!cP w))):=Po _ rfl
   have hT:Shared.TypeIs {s with heap:=s.heap.push (bN #[] 0 (.fresh 0 0 (!cP w)))} (.ref s.heap.objs.size) "set" := ⟨_,hS,rfl⟩
   have hli:=R0.init.lookup
   have hbi:=R0.init.bind (.ref s.heap.objs.size)
   repeat (any_goals (first | assumption | wp_step))
   refine Tr (codeAny_call_builtin (R:=wants (fun r s₂=>r=.none/\∃ h' tk ds,s₂={s with heap:=h',toks:=tk}/\ke vp w h' s.heap.objs.size md ds/\(∀ d,d∈ds<->d∈ys)/\(∀ b o,s.heap.get? b=some o->h'.get? b=some o)) E) R0.init.plain F.entry_set_init (check_set_init_1 hT ?_)) fun r₂ s₂ hr₂=>?_
   ·obtain ⟨odict,nl,oslots,hol⟩:=K.ob _ hl
    have hol':(s.heap.push (bN #[] 0 (.fresh 0 0 (!cP w)))).get? l=some {cls:=.type T,dict:=odict,data:=.seq items nl,slots:=oslots}:=Pj _ hol
    have hsls:=K.s1
    have hslf:=K.s2
    have hne:=K.nd
    have hl1:OK (s.heap.push (bN #[] 0 (.fresh 0 0 (!cP w)))):=K.kp _ _ hl fun o e=>Pj _ e
    have hh3:A.in1.in1.in1.handled=none:=by simp [hh]
    obtain ⟨oI,St,i1,i2,i3,i4,i5⟩:=K.it A.in1.in1 (fun e s'=>wants (fun r s₂=>r=.none/\∃ h' tk ds,s₂={s with heap:=h',toks:=tk}/\ke vp w h' s.heap.objs.size md ds/\(∀ d,d∈ds<->d∈ys)/\(∀ b o,s.heap.get? b=some o->h'.get? b=some o)) E (.error e) s') {s with heap:=s.heap.push (bN #[] 0 (.fresh 0 0 (!cP w)))} (by simp [hh]) hl1
    unfold Builtin.«set.__init__» noKeywords Builtin.Frozenset.updateFrom
    generalize hPI:pyIter=PI
    wp_walk
    subst hPI
    refine i2 _ ?_
    refine Ph (wpAny_runValue ?_)
    have hlS:l < s.heap.objs.size:=Pp hol
    have hsz:(s.heap.push (bN #[] 0 (.fresh 0 0 (!cP w)))).objs.size=s.heap.objs.size+1:=Qc _ _
    have hSf:s.heap.objs.size∉[(s.heap.push (bN #[] 0 (.fresh 0 0 (!cP w)))).objs.size,l]:=by
     rw [hsz];simp only [Pn,PV,P1,QU,not_or]
     exact ⟨PM (Rh _),Sk hlS⟩
    have hS0:s.heap.get? s.heap.objs.size=none:=by
     cases e:s.heap.get? s.heap.objs.size with
     | none=>rfl
     | some o=>exact absurd (Pp e) (PZ _)
    refine Et (vp:=vp) (A:=A.in1.in1) (h0:=s.heap) (ys:=ys) (md:=md) (i3 A.in1.in1.in1 hh3) s.heap.objs.size hSf hlen (by omega) (by show A.units+1+1+1+20 < cLine;omega) (fun i v hv=>?_) (fun b o e hb=>?_) hS0 (fun i h st b hb o e=>?_) (items.size - 0) 0 _ [] rfl (QS _) i4 (Es (Pj _ hS) ?_) (fun d=>by simp) (QS _) (fun b o e=>Pj _ (Pj _ e)) fun h' tk ds g1 g2 g3=>?_
    ·obtain ⟨d,bs,e1,e2⟩:=readsAll_get hr0 (i:=i) (by rw [P6];exact hv)
     exact ⟨d,e1,he d (P0 e1),hvp v (P0 (by rw [P6];exact hv)),bs,e2⟩
    ·have:=Pp e
     rw [PV.mp hb] at this
     have e2:(s.heap.push (bN #[] 0 (.fresh 0 0 (!cP w)))).objs.size < s.heap.objs.size:=this
     rw [hsz] at e2
     exact absurd e2 (Nat.not_lt.mpr (QR _))
    ·exact i5 i h st o (by rw [PV.mp hb] at e;exact e)
    ·cases cP w
     ·exact .inl rfl
     ·exact .inr rfl
    ·refine Pk ?_
     show wpAny _ _ (ret Value.none) _ _ _
     exact Pk ⟨rfl,h',tk,ds,rfl,g1,g2,g3⟩
   ·cases r₂ with
    | error e=>exact hr₂
    | ok fl₂=>
     cases fl₂ with
     | ret r=>
      obtain ⟨rfl,h',tk,ds,rfl,hS',hm',hk'⟩:=hr₂
      repeat (any_goals (first | assumption | wp_step))
      exact h _ _ _ hS' hm' hk'
     | _=>exact hr₂.elim
  | _=>exact hr.elim
end
abbrev iN (v:Value) (i:Nat) (o:Value) (n ep:Nat):Obj:={cls:=.type "set_iterator",dict:=none,data:=.fields #[v,.int i 0,o,.int n 0,.int ep 0],slots:=#[]}
theorem tj:entryFor table "set.__iter__" = some Builtin.«frozenset.__iter__» := entryFor_alias (id' := "frozenset.__iter__") (by kernel_rfl) rfl (by decide +kernel) (by kernel_rfl)
theorem gb:entryFor table "set_iterator.__next__" = some Builtin.«set_iterator.__next__» := entryFor_of_tree (by kernel_rfl)
theorem bO:Slot "set_iterator" "__next__" "set_iterator.__next__" :=
 .of (owner := "set_iterator") (n := "__next__") (by rw [typeLookup_type,builtinLookup_eq_fast];kernel_rfl) (by decide +kernel) (by decide +kernel) (by decide +kernel)
  (by first | exact .inl (by decide +kernel) | exact .inr (by decide +kernel)) (by rw [Tu];kernel_rfl)
theorem ym:Manifest.owners.lookup (String.ofList ['r', 'o', 't', 'a', 'r', 'e', 't', 'i', '_', 't', 'e', 's'].reverse)=some Manifest.sig_set_iterator:=by kernel_rfl
theorem gW (a:Value):argsOk "set_iterator.__next__" ⟨[a],[]⟩:=by
 unfold argsOk;rw [signature?_of (id := "set_iterator.__next__") (n:=['_', '_', 't', 'x', 'e', 'n', '_', '_']) (o:=['r', 'o', 't', 'a', 'r', 'e', 't', 'i', '_', 't', 'e', 's']) (by kernel_rfl) ym];kernel_rfl
section
variable {P:Program} {w:World} {A:Around} {E:Value->Shared->Prop} {s:Shared} {vp:Value->Prop}
theorem pJ {I:Addr} {v:Value} {i:Nat} {o:Value} {n ep:Nat} {k:Nat} {x:Value} {Q:Unit->Shared->Prop} (hit:s.heap.get? I=some (iN v i o n ep)) (hk:k < 5)
  (q:∀ h',h'.get? I=some {cls:=.type "set_iterator",dict:=none,data:=.fields ((#[v,.int i 0,o,.int n 0,.int ep 0]:Array Value).setIfInBounds k x),slots:=#[]}->Heap.SameBut I s.heap h'->Q () {s with heap:=h'}):wpAny (model P w) A (setField (.ref I) k x) Q E s:=by
 refine wpAny_setField hit rfl (by simpa using hk) (q _ ?_ (Sf ..))
 have:=QY (Obj.mapFields (·.setIfInBounds k x)) hit (Obj.isFreed_of_fields (Obj.data_mapFields rfl _))
 rw [this]
 rfl
theorem fq {I:Addr} {v:Value} {i:Nat} {o:Value} {n ep:Nat} (hit:s.heap.get? I=some (iN v i o n ep)):s.TypeIs (.ref I) "set_iterator" := ⟨_,hit,rfl⟩
theorem Bi {I:Addr} {h0:Heap} {B:Builtin->Prop} {Q:Option Value->Shared->Prop} (hh:A.handled=none) (hQ:∀ h',Heap.ExtBut I h0 h'->Q none {s with heap:=h'}) (he:Heap.ExtBut I h0 s.heap) :
  wpAny (model P w) A.in1 (newExc (.type "StopIteration") [] >>= fun e=>(raiseNew e:Sem PySem.Fin)) (fun fin s'=>∃ r,fin=.done (.ret r)/\wpAny (model P w) A (pure (some r)) Q E s') (fun e s'=>wpAny (model P w) A (do if <- isInstance e (.type "StopIteration") then pure none else throw e) Q E s') s:=by
 refine Ph ?_
 simp only [newExc,newTuple]
 refine Ph (Qi ?_ (by size_fits))
 refine Ph (m:=firstArgMember _ _) (Sg (a:=Value.none) (by first | rfl | (simp only [firstArgMember];rfl)) ?_)
 refine Qi ?_ (by size_fits)
 simp only [raiseNew]
 refine Ph (wpAny_handled ?_)
 rw [show A.in1.handled=none from hh]
 refine Ph (Pk (wpAny_throw ?_))
 refine Ph (S9 (T := "StopIteration") (b:=true) ⟨_,Po _ rfl,rfl⟩ isSubtype_stop ?_)
 exact Pk (hQ _ ((he.push _).push _))
end
section
variable {P:Program} {w:World} {A:Around} {E:Value->Shared->Prop} {s:Shared} {vp:Value->Prop}
variable {I a T:Addr} {i n ep sl:Nat} {es:Array (Int×Value)} {t:SetTable}
theorem qX {v:Value} {Q:PySem.Fin->Shared->Prop} {E':Value->Shared->Prop} (hit:s.heap.get? I=some (iN v i (.ref a) n ep)) (ob:s.heap.get? a=some (bN es ep t)) (ft:t.fits es.size=true) (hn:es.size=n)
  (q:wpAny (model P w) A (match v with
   | .int slot _=>do
    match <- setNext a slot.toNat i ep with
    | some (x,next)=>
     setField (.ref I) 0 (rawInt next)
     setField (.ref I) 1 (rawInt ((i:Int)+1))
     ret x
    | none=>setField (.ref I) 2 .none;raiseNew (<- newExc (.type "StopIteration") [])
   | first=>do
    let some places <- seqItems? first | unsupported "internal:set_iterator"
    match places[i]? with
    | some (.int place _)=>
     let x <- setNextDrawn a place.toNat ep
     setField (.ref I) 1 (rawInt ((i:Int)+1))
     ret x
    | some _=>unsupported "internal:set_iterator"
    | none=>setField (.ref I) 0 (rawInt 0);setField (.ref I) 2 .none;raiseNew (<- newExc (.type "StopIteration") [])) Q E' s) :
  wpAny (model P w) A (Builtin.«set_iterator.__next__» ⟨[.ref I],[]⟩) Q E' s:=by
 unfold Builtin.«set_iterator.__next__»
 refine Ph (Sg (a:=(Value.ref I,[])) rfl ?_)
 dsimp only
 refine Ph (wpAny_fieldsOf hit rfl ?_)
 dsimp only
 refine Ph (wpAny_setEntries_of ob rfl ft ?_)
 rw [if_neg (by simp [hn])]
 simp only [QG]
 cases v<;>exact q
theorem yn {x:Value} {nx:Nat} {Q:Option Value->Shared->Prop} (hit:s.heap.get? I=some (iN (.int sl 0) i (.ref a) n ep)) (ob:s.heap.get? a=some (bN es ep t)) (ft:t.fits es.size=true) (hn:es.size=n)
  (hs:∀ (A':Around) (Q':Option (Value×Nat)->Shared->Prop) (E':Value->Shared->Prop),Q' (some (x,nx)) s->wpAny (model P w) A' (setNext a sl i ep) Q' E' s)
  (q:∀ h',h'.get? I=some (iN (.int nx 0) (i+1) (.ref a) n ep)->Heap.SameBut I s.heap h'->Q (some x) {s with heap:=h'}):wpAny (model P w) A (pyNext (.ref I)) Q E s:=by
 unfold pyNext
 refine Ph (SG (Qf (name:=Str.ofString "__next__") (fq hit) bO (Qa bO (fq hit) gb ?_ (gW _))))
 refine qX hit ob ft hn ?_
 dsimp only
 simp only [QG]
 refine Ph (hs _ _ _ ?_)
 dsimp only
 refine Ph (pJ hit (by omega) fun h1 g1 b1=>?_)
 have g1':h1.get? I=some (iN (.int nx 0) i (.ref a) n ep):=g1
 refine Ph (pJ (s:={s with heap:=h1}) g1' (by omega) fun h2 g2 b2=>?_)
 exact Pk ⟨_,rfl,Pk (q h2 g2 (b1.trans b2))⟩
theorem Bj {Q:Option Value->Shared->Prop} (hh:A.handled=none) (hit:s.heap.get? I=some (iN (.int sl 0) i (.ref a) n ep)) (ob:s.heap.get? a=some (bN es ep t)) (ft:t.fits es.size=true) (hn:es.size=n)
  (hs:∀ (A':Around) (Q':Option (Value×Nat)->Shared->Prop) (E':Value->Shared->Prop),Q' none s->wpAny (model P w) A' (setNext a sl i ep) Q' E' s)
  (q:∀ h',Heap.ExtBut I s.heap h'->Q none {s with heap:=h'}):wpAny (model P w) A (pyNext (.ref I)) Q E s:=by
 unfold pyNext
 refine Ph (SG (Qf (name:=Str.ofString "__next__") (fq hit) bO (Qa bO (fq hit) gb ?_ (gW _))))
 refine qX hit ob ft hn ?_
 dsimp only
 simp only [QG]
 refine Ph (hs _ _ _ ?_)
 dsimp only
 refine Ph (pJ hit (by omega) fun h1 g1 b1=>?_)
 exact Bi (s:={s with heap:=h1}) (h0:=s.heap) (B:=fun _=>True) hh q b1.extBut
theorem Ew {pl:Array Value} {place:Nat} {x:Int×Value} {Q:Option Value->Shared->Prop} (hit:s.heap.get? I=some (iN (.ref T) i (.ref a) n ep)) (ob:s.heap.get? a=some (bN es ep t)) (ft:t.fits es.size=true) (hn:es.size=n) (hT:s.heap.IsTuple T pl) (hp:pl[i]?=some (rawInt place)) (hx:es[place]?=some x)
  (q:∀ h',h'.get? I=some (iN (.ref T) (i+1) (.ref a) n ep)->Heap.SameBut I s.heap h'->Q (some x.2) {s with heap:=h'}):wpAny (model P w) A (pyNext (.ref I)) Q E s:=by
 unfold pyNext
 refine Ph (SG (Qf (name:=Str.ofString "__next__") (fq hit) bO (Qa bO (fq hit) gb ?_ (gW _))))
 refine qX hit ob ft hn ?_
 dsimp only
 obtain ⟨oT,gT,cT,nT,dT⟩:=hT
 refine Ph (Qv gT dT ?_)
 dsimp only
 rw [hp]
 show wpAny _ _ (setNextDrawn a (Int.toNat (place:Nat)) ep >>= _) _ _ _
 rw [QG]
 unfold setNextDrawn
 refine Ph (Ph (eM ob ft ?_))
 dsimp only
 rw [if_neg (by simp),hx]
 refine Pk ?_
 refine Ph (pJ hit (by omega) fun h1 g1 b1=>?_)
 exact Pk ⟨_,rfl,Pk (q h1 g1 b1)⟩
theorem GR {pl:Array Value} {Q:Option Value->Shared->Prop} (hh:A.handled=none) (hit:s.heap.get? I=some (iN (.ref T) i (.ref a) n ep)) (ob:s.heap.get? a=some (bN es ep t)) (ft:t.fits es.size=true) (hn:es.size=n) (hT:s.heap.IsTuple T pl) (hp:pl[i]?=none)
  (q:∀ h',Heap.ExtBut I s.heap h'->Q none {s with heap:=h'}):wpAny (model P w) A (pyNext (.ref I)) Q E s:=by
 unfold pyNext
 refine Ph (SG (Qf (name:=Str.ofString "__next__") (fq hit) bO (Qa bO (fq hit) gb ?_ (gW _))))
 refine qX hit ob ft hn ?_
 dsimp only
 obtain ⟨oT,gT,cT,nT,dT⟩:=hT
 refine Ph (Qv gT dT ?_)
 dsimp only
 rw [hp]
 dsimp only
 refine Ph (pJ hit (by omega) fun h1 g1 b1=>?_)
 have g1':h1.get? I=some (iN (rawInt 0) i (.ref a) n ep):=g1
 refine Ph (pJ (s:={s with heap:=h1}) g1' (by omega) fun h2 g2 b2=>?_)
 exact Bi (s:={s with heap:=h2}) (h0:=s.heap) (B:=fun _=>True) hh q (b1.trans b2).extBut
theorem vB {L:Array (Int×Value)} {Q:Option (Value×Nat)->Shared->Prop} (ob:s.heap.get? a=some (bN es ep t)) (ft:t.fits es.size=true) (hb:cP w=true) (hL:L=pickOrder (w.params.setOrder a ep) es) (h:Q ((L[i]?).map fun e=>(e.2,sl)) s):wpAny (model P w) A (setNext a sl i ep) Q E s:=by
 unfold setNext
 refine Ph (eM ob ft ?_)
 dsimp only
 refine Ph (lU ?_)
 rw [if_pos hb,if_neg (by simp)]
 unfold setWalk
 refine Ph (Ph (eM ob ft ?_))
 dsimp only
 refine Ph (lU ?_)
 rw [if_pos hb]
 refine Ph (wpAny_askSetting (Pk (Pk ?_)))
 rw [hL] at h
 exact h
theorem tm {Q:Option (Value×Nat)->Shared->Prop} (ob:s.heap.get? a=some (bN es ep t)) (ft:t.fits es.size=true) (hb:cP w=false) (hd:(!t.plain && decide (es.size > 1))=false) (hl:t.led=true)
  (h:Q (match es[SetTable.below t.place sl]?,t.place[SetTable.below t.place sl]? with | some (_,x),some j=>some (x,j+1) | _,_=>none) s):wpAny (model P w) A (setNext a sl i ep) Q E s:=by
 unfold setNext
 refine Ph (eM ob ft ?_)
 dsimp only
 refine Ph (lU ?_)
 rw [if_neg (by rw [hb];simp)]
 refine Q0 (fun z=>absurd z (by show ¬ (!t.plain && decide (es.size > 1))=true;rw [hd];simp)) fun _=>?_
 refine Ph (m:=(if (!t.led && !es.isEmpty)=true then unsupported "set:maker-not-led" else pure ())) ?_
 rw [hl]
 simp only [R5,SU,PB,Qm]
 exact Pk (Pk h)
end
theorem dW:Slot "set_iterator" "__iter__" "set_iterator.__iter__" :=
 .of (owner := "set_iterator") (n := "__iter__") (by rw [typeLookup_type,builtinLookup_eq_fast];kernel_rfl) (by decide +kernel) (by decide +kernel) (by decide +kernel)
  (by first | exact .inl (by decide +kernel) | exact .inr (by decide +kernel)) (by rw [Tu];kernel_rfl)
theorem je:entryFor table "set_iterator.__iter__" = some Builtin.«dict_keyiterator.__iter__» := entryFor_alias (id' := "dict_keyiterator.__iter__") (by kernel_rfl) rfl (by decide +kernel) (by kernel_rfl)
theorem jV (a:Value):argsOk "set_iterator.__iter__" ⟨[a],[]⟩:=by
 unfold argsOk;rw [signature?_of (id := "set_iterator.__iter__") (n:=['_', '_', 'r', 'e', 't', 'i', '_', '_']) (o:=['r', 'o', 't', 'a', 'r', 'e', 't', 'i', '_', 't', 'e', 's']) (by kernel_rfl) ym];kernel_rfl
def slotAt (place:Array Nat):Nat->Nat
 | 0=>0
 | i+1=>place.getD i 0+1
theorem tu {xs:Array Nat} (r:oq xs):∀ i,i<=xs.size->SetTable.below xs (slotAt xs i)=i
 | 0,_=>by
  obtain ⟨a,_,c⟩:=hV r (slotAt xs 0)
  apply Qp
  intro z
  have h0:0 < SetTable.below xs (slotAt xs 0):=by omega
  have:=a 0 (by omega) h0
  simp [slotAt] at this
 | i+1,h=>by
  have hi:i < xs.size:=by omega
  have e:slotAt xs (i+1)=xs[i]+1:=by simp [slotAt,Array.getD,hi]
  rw [e]
  obtain ⟨a,b,c⟩:=hV r (xs[i]+1)
  apply Qp
  intro z
  by_cases h1:SetTable.below xs (xs[i]+1)<=i
  ·have:=b i hi h1;omega
  ·have h2:i+1 < SetTable.below xs (xs[i]+1):=by omega
   have h3:i+1 < xs.size:=by omega
   have:=a (i+1) h3 h2
   have:=qU r (i:=i) (k:=i+1) (by omega) h3
   omega
section
variable {P:Program} {w:World} {A:Around} {E:Value->Shared->Prop} {s:Shared} {vp:Value->Prop}
theorem wK {I:Addr} {Q:Value->Shared->Prop} (hT:s.TypeIs (.ref I) "set_iterator") (h:Q (.ref I) s):wpAny (model P w) A (Builtin.«dict_keyiterator.__iter__» ⟨[.ref I],[]⟩) (fun fin s'=>∃ v,fin=.done (.ret v)/\∃ T' r,s'.TypeIs v T'/\typeLookup (.type T') (Str.ofString "__next__")=pure (some r)/\Q v s') E s:=by
 show wpAny _ _ (ret (.ref I)) _ _ s
 exact Pk ⟨_,rfl, "set_iterator",_,hT,bO.lookup,h⟩
def GS (P:Program) (w:World) (s:Shared) (a:Addr) (es:Array (Int×Value)) (Q:Value->Shared->Prop):Prop:=
 ∀ (L:List (Int×Value)) (I:Addr) (h':Heap) (dr:Drawn) (fp:List Addr) (St:Nat->Heap->Prop),List.Perm L es.toList->(∀ b∈fp,b < h'.objs.size)->I∈fp->(∀ b∈fp,b=a\/s.heap.objs.size<=b)->s.heap.objs.size<=I->(∀ b o,s.heap.get? b=some o->h'.get? b=some o) ->
  (∀ A':Around,A'.handled=none->Walks P w A' I fp [I] L.length (fun i v=>∃ e,L[i]?=some e/\v=e.2) St)->St 0 h'->Q (.ref I) {s with heap:=h',drawn:=dr}
theorem Ex {md:Bool} {a:Addr} {ds:List PyData} {es:Array (Int×Value)} {ep:Nat} {t:SetTable} {Q:Value->Shared->Prop} (S:fJ vp w s.heap a md ds es ep t) (q:GS P w s a es Q):wpAny (model P w) A (pyIter (.ref a)) Q E s:=by
 have hT:s.TypeIs (.ref a) "set" := ⟨_,S.ob,rfl⟩
 have hes:=S.size
 have hln:=S.ln
 have la:a < s.heap.objs.size:=Pp S.ob
 refine SR hT F.slot_set_iter (Qa F.slot_set_iter hT tj ?_ (F.args_set_iter_1 _))
 unfold Builtin.«frozenset.__iter__»
 refine Ph (Sg (a:=a) rfl ?_)
 unfold Builtin.Frozenset.sizeOf
 refine Ph (Ph (wpAny_setEntries_of S.ob rfl S.tb.fits (Pk ?_)))
 unfold setDrawn
 refine Ph (Ph (eM S.ob S.tb.fits ?_))
 dsimp only
 refine Ph (lU (Pk ?_))
 have fits:=S.tb.fits
 by_cases hd:(!cP w && (!t.plain && decide (es.size > 1)))=true
 ·
  refine Q0 (fun _=>?_) fun z=>absurd hd z
  refine Ph (Bh es.size (List.range es.size) s _ (by simp) fun idx dr p=>?_)
  have hil:idx.length=es.size:=by have:=p.length_eq;simpa using this
  refine Ph (wpAny_newTuple (hsz:=by rw [PX,hil,QH];omega) ?_)
  refine Ph (wpAny_setEpoch_of (s:={s with heap:=s.heap.push _,drawn:=dr}) (Pj _ S.ob) rfl fits ?_)
  refine Ph (Qi (Pk ⟨_,rfl, "set_iterator",_,⟨_,Po _ rfl,rfl⟩,bO.lookup,?_⟩))
  generalize hob:({cls:=.type "tuple",data:=.seq (idx.map fun (i:Nat)=>rawInt i).toArray}:Obj)=oT
  have hsz:(s.heap.push oT).objs.size=s.heap.objs.size+1:=Qc _ _
  have hin:∀ k∈idx,k < es.size:=fun k hk=>Qo.mp (p.mem_iff.mp hk)
  have hget:∀ i k,idx[i]?=some k->∃ e,es[k]?=some e:=fun i k e=>⟨_,P7 (hin k (P0 e))⟩
  obtain ⟨g1,g2⟩:=zF (es:=es) (l:=idx.map fun k=>(0,k)) (fun p hp=>by obtain ⟨k,hk,rfl⟩:=P8.mp hp;exact hin k hk)
  have em:(idx.map fun k=>((0:Nat),k)).map (·.2)=idx:=by rw [Ts];exact TH idx
  rw [em] at g1 g2
  have hLp:List.Perm (idx.filterMap fun k=>es[k]?) es.toList:=(p.filterMap _).trans (by rw [filterMap_getElem?_range])
  have hLn:(idx.filterMap fun k=>es[k]?).length=es.size:=by rw [hLp.length_eq];simp
  refine q (idx.filterMap fun k=>es[k]?) (s.heap.push oT).objs.size _ dr [(s.heap.push oT).objs.size,s.heap.objs.size,a] (fun i h=>h.get? (s.heap.push oT).objs.size=some (iN (.ref s.heap.objs.size) i (.ref a) es.size ep)/\h.IsTuple s.heap.objs.size (idx.map fun (i:Nat)=>rawInt i).toArray/\h.get? a=some (bN es ep t)) hLp (fun b hb=>?_) (PJ ..) (fun b hb=>by simp only [Pn,P1,QU] at hb;rcases hb with rfl | rfl | rfl;exact .inr (by rw [hsz];exact QR _);exact .inr (Pm _);exact .inl rfl) (by rw [hsz];exact QR _) (fun b o e=>Pj _ (Pj _ e)) (fun A' hh=>?_) ⟨?_,?_,?_⟩
  ·rw [Qc,hsz]
   simp only [Pn,P1,QU] at hb
   rcases hb with rfl | rfl | rfl
   ·rw [hsz];exact Rh _
   ·exact Pt (Rh _) (QR _)
   ·exact Pt la (by omega)
  ·have n1:s.heap.objs.size≠(s.heap.push oT).objs.size:=by rw [hsz];exact PM (Rh _)
   have n2:a≠(s.heap.push oT).objs.size:=by rw [hsz];exact PM (Qx la)
   refine ⟨fun b hb=>by simp at hb;simp [hb],fun i h h' ⟨x1,⟨o,x2,x3⟩,x4⟩ k=>⟨k _ (by simp) _ x1,⟨o,k _ (by simp) _ x2,x3⟩,k _ (by simp) _ x4⟩,fun i s' Q' E' hi ⟨x1,x2,x3⟩ hQ=>?_,fun s' Q' E' ⟨x1,x2,x3⟩ hQ=>?_,fun i s' Q' E' ⟨x1,_,_⟩ hQ=>?_⟩
   ·rw [hLn] at hi
    have hi2:i < idx.length:=by omega
    have ek:=Pz hi2
    obtain ⟨e,he⟩:=hget i _ ek
    refine Ew (x:=e) x1 x3 fits rfl x2 (place:=idx[i]) (by simp [ek]) he fun h' y1 sb=>hQ e.2 h' s'.toks ⟨e,?_,rfl⟩ ⟨y1,?_,(sb.2 a n2).trans x3⟩ fun b o hb eo=>(sb.2 b fun z=>hb (by simp [z])).trans eo
    ·rw [g2 i (0,idx[i]) (by simp [ek])]
     exact he
    ·obtain ⟨o,x2,x4⟩:=x2
     exact ⟨o,(sb.2 _ n1).trans x2,x4⟩
   ·rw [hLn] at x1
    refine GR hh x1 x3 fits rfl x2 (by simp;omega) fun h' eb=>hQ h' s'.toks fun b o hb eo=>eb b o (fun z=>hb (by simp [z])) eo
   ·have hT':s'.TypeIs (.ref (s.heap.push oT).objs.size) "set_iterator" := fq x1
    exact SR hT' dW (Qa dW hT' je (wK hT' hQ) (jV _))
  ·exact Po _ rfl
  ·subst hob
   exact ⟨_,Pj _ (Po _ rfl),rfl,_,rfl⟩
  ·exact Pj _ (Pj _ S.ob)
 ·refine Q0 (fun z=>absurd z hd) fun _=>?_
  refine Ph (Pk ?_)
  refine Ph (wpAny_setEpoch_of S.ob rfl fits ?_)
  refine Ph (Qi (Pk ⟨_,rfl, "set_iterator",_,⟨_,Po _ rfl,rfl⟩,bO.lookup,?_⟩))
  have na:a≠s.heap.objs.size:=PM la
  by_cases hb:cP w=true
  ·
   have pk:=Co (w.params.setOrder a ep) es
   have pkn:(pickOrder (w.params.setOrder a ep) es).toList.length=es.size:=by rw [pk.length_eq];simp
   refine q (pickOrder (w.params.setOrder a ep) es).toList s.heap.objs.size _ s.drawn [s.heap.objs.size,a] (fun i h=>h.get? s.heap.objs.size=some (iN (.int ((0:Nat):Int) 0) i (.ref a) es.size ep)/\h.get? a=some (bN es ep t)) pk (fun b hb=>?_) (PJ ..) (fun b hb=>by simp only [Pn,P1,QU] at hb;rcases hb with rfl | rfl;exact .inr (Pm _);exact .inl rfl) (Pm _) (fun b o e=>Pj _ e) (fun A' hh=>?_) ⟨Po _ rfl,Pj _ S.ob⟩
   ·rw [Qc]
    simp only [Pn,P1,QU] at hb
    rcases hb with rfl | rfl
    ·exact Rh _
    ·exact Qx la
   ·refine ⟨fun b hb=>by simp at hb;simp [hb],fun i h h' ⟨x1,x4⟩ k=>⟨k _ (by simp) _ x1,k _ (by simp) _ x4⟩,fun i s' Q' E' hi ⟨x1,x3⟩ hQ=>?_,fun s' Q' E' ⟨x1,x3⟩ hQ=>?_,fun i s' Q' E' ⟨x1,_⟩ hQ=>?_⟩
    ·have ek:=Pz hi
     generalize (pickOrder (w.params.setOrder a ep) es).toList[i]=e at ek
     refine yn (x:=e.2) (nx:=0) x1 x3 fits rfl (fun A2 Q2 E2 h2=>vB x3 fits hb rfl ?_) fun h' y1 sb=>hQ e.2 h' s'.toks ⟨e,ek,rfl⟩ ⟨y1,(sb.2 a na).trans x3⟩ fun b o hb eo=>(sb.2 b fun z=>hb (by simp [z])).trans eo
     rw [<- P6,ek]
     exact h2
    ·refine Bj hh x1 x3 fits rfl (fun A2 Q2 E2 h2=>vB x3 fits hb rfl ?_) fun h' eb=>hQ h' s'.toks fun b o hb eo=>eb b o (fun z=>hb (by simp [z])) eo
     rw [<- P6,S4 (Pm _)]
     exact h2
    ·have hT':s'.TypeIs (.ref s.heap.objs.size) "set_iterator" := fq x1
     exact SR hT' dW (Qa dW hT' je (wK hT' hQ) (jV _))
  ·
   have hb':cP w=false:=by simpa using hb
   have hd':(!t.plain && decide (es.size > 1))=false:=by rw [hb'] at hd;simpa using hd
   have hled:t.led=true:=by
    rcases S.ld with z | z
    ·exact z
    ·exact absurd z hb
   have hps:t.place.size=es.size:=S.tb.sz
   refine q es.toList s.heap.objs.size _ s.drawn [s.heap.objs.size,a] (fun i h=>h.get? s.heap.objs.size=some (iN (.int ((slotAt t.place i:Nat):Int) 0) i (.ref a) es.size ep)/\h.get? a=some (bN es ep t)) (.refl _) (fun b hb=>?_) (PJ ..) (fun b hb=>by simp only [Pn,P1,QU] at hb;rcases hb with rfl | rfl;exact .inr (Pm _);exact .inl rfl) (Pm _) (fun b o e=>Pj _ e) (fun A' hh=>?_) ⟨Po _ rfl,Pj _ S.ob⟩
   ·rw [Qc]
    simp only [Pn,P1,QU] at hb
    rcases hb with rfl | rfl
    ·exact Rh _
    ·exact Qx la
   ·refine ⟨fun b hb=>by simp at hb;simp [hb],fun i h h' ⟨x1,x4⟩ k=>⟨k _ (by simp) _ x1,k _ (by simp) _ x4⟩,fun i s' Q' E' hi ⟨x1,x3⟩ hQ=>?_,fun s' Q' E' ⟨x1,x3⟩ hQ=>?_,fun i s' Q' E' ⟨x1,_⟩ hQ=>?_⟩
    ·have hi':i < es.size:=by simpa using hi
     have ek:=P7 hi'
     have ep':=P7 (show i < t.place.size by omega)
     refine yn (x:=es[i].2) (nx:=slotAt t.place (i+1)) x1 x3 fits rfl (fun A2 Q2 E2 h2=>tm x3 fits hb' hd' hled ?_) fun h' y1 sb=>hQ es[i].2 h' s'.toks ⟨es[i],by rw [P6];exact ek,rfl⟩ ⟨y1,(sb.2 a na).trans x3⟩ fun b o hb eo=>(sb.2 b fun z=>hb (by simp [z])).trans eo
     rw [tu S.tb.rp i (by omega),ek,ep']
     have:slotAt t.place (i+1)=t.place[i]'(by omega)+1:=by simp [slotAt,Array.getD,show i < t.place.size by omega]
     rw [this] at h2
     exact h2
    ·have hl:es.toList.length=es.size:=by simp
     rw [hl] at x1
     refine Bj hh x1 x3 fits rfl (fun A2 Q2 E2 h2=>tm x3 fits hb' hd' hled ?_) fun h' eb=>hQ h' s'.toks fun b o hb eo=>eb b o (fun z=>hb (by simp [z])) eo
     rw [tu S.tb.rp es.size (by omega),Array.getElem?_eq_none (Pm _)]
     exact h2
    ·have hT':s'.TypeIs (.ref s.heap.objs.size) "set_iterator" := fq x1
     exact SR hT' dW (Qa dW hT' je (wK hT' hQ) (jV _))
end
section
variable {P:Program} {w:World} {A:Around} {E:Value->Shared->Prop} {s:Shared} {vp:Value->Prop}
theorem Ey {r:Addr} {Q:Bool->Shared->Prop} (hT:s.TypeIs (.ref r) "set") (h:Q false s):wpAny (model P w) A (Builtin.List.listLengthHint (.ref r)) Q E s:=by
 unfold Builtin.List.listLengthHint
 refine Ph (RX hT PySem.F.slot_set_len.lookup ?_)
 generalize hid:("set.__len__" : String)=id0
 wp_delta
 rw [show splitId id0=some ("set", "__len__") from by subst hid;decide +kernel]
 subst hid
 refine Ph (S9 (T := "set") (b:=true) hT sub_set_self ?_)
 refine Q0 (fun hab=>absurd hab (by decide)) (fun _=>?_)
 refine Q0 (fun _=>?_) (fun hab=>absurd (by decide +kernel) hab)
 refine Ph (Sn hT ?_)
 exact Pk h
theorem yo {md:Bool} {a:Addr} {ds:List PyData} {es:Array (Int×Value)} {ep:Nat} {t:SetTable} {Q:List Value->Shared->Prop} (S:fJ vp w s.heap a md ds es ep t) (hh:A.handled=none)
  (q:∀ (L:List (Int×Value)) h' dr tk,s.heap.objs.size < h'.objs.size->List.Perm L es.toList->(∀ b o,s.heap.get? b=some o->h'.get? b=some o)->Q (L.map (·.2)) {s with heap:=h',drawn:=dr,toks:=tk}):wpAny (model P w) A (collect (.ref a)) Q E s:=by
 have hes:=S.size
 have hln:=S.ln
 unfold collect
 refine Ph (wpAny_runValue (Rf F.entry_proto_collect ?_))
 rw [Rz F.plain_proto_collect _]
 show wpAny _ A.in1 (newList [] >>= fun l=>again (.builtin "list.__iadd__" ⟨[l,.ref a],[]⟩)) _ _ s
 refine Ph (Qi ?_)
 refine Pk ⟨Th F.plain_list_iadd _,Rf F.entry_list_iadd ?_⟩
 rw [Rz F.plain_list_iadd _]
 have hS₁:(s.heap.push {cls:=.type "list",data:=.seq ([]:List Value).toArray}).get? s.heap.objs.size=some {cls:=.type "list",data:=.seq ([]:List Value).toArray}:=Po _ rfl
 have la:=Pp S.ob
 have h1:Builtin.List.listSameRef (.ref s.heap.objs.size) (.ref a)=false:=by simp [Builtin.List.listSameRef,Sk la]
 have S1:fJ vp w (s.heap.push {cls:=.type "list",data:=.seq ([]:List Value).toArray}) a md ds es ep t:=S.keep fun b o e=>Pj _ e
 show wpAny _ A.in1 (Builtin.List.listExtendWith (.ref s.heap.objs.size) (.ref a) (.ref s.heap.objs.size)) _ _ _
 unfold Builtin.List.listExtendWith
 refine Ph (Sn (T := "set") ⟨_,S1.ob,rfl⟩ ?_)
 rw [if_neg (by rw [h1];decide)]
 refine Ph (Ex (s:={s with heap:=s.heap.push {cls:=.type "list",data:=.seq ([]:List Value).toArray}}) S1 fun L I h' dr fp St p f1 f2 f5 f3 f4 W st=>?_)
 have hS2:=f4 _ _ hS₁
 refine Ph (Qk (Ey (s:={s with heap:=h',drawn:=dr}) ⟨_,f4 _ _ S1.ob,rfl⟩ ?_))
 rw [if_pos (by decide)]
 have hLn:L.length=es.size:=by rw [p.length_eq];simp
 have hSf:s.heap.objs.size∉fp:=fun hm=>by
  rcases f5 _ hm with z | z
  ·exact absurd la (by rw [<- z];exact PZ _)
  ·have z':(s.heap.push {cls:=.type "list",data:=.seq ([]:List Value).toArray}).objs.size<=s.heap.objs.size:=z
   rw [Qc] at z'
   exact absurd z' (Nat.not_le.mpr (Rh _))
 refine Ph (RD ?_)
 refine Ph ?_
 show wpAny _ _ (updateSeq s.heap.objs.size (·.push .none) >>= fun _=>updateSeq s.heap.objs.size (·.pop)) _ _ _
 refine Ph (wpAny_updateSeq hS2 rfl ?_)
 have hS3:=QY (Obj.mapSeq (·.push Value.none)) hS2 rfl
 refine wpAny_updateSeq (hz:=by seq_fits) hS3 rfl ?_
 have hS4:=QY (Obj.mapSeq (·.pop)) hS3 rfl
 have oth:∀ b o,b≠s.heap.objs.size->h'.get? b=some o->((h'.update s.heap.objs.size (Obj.mapSeq (·.push Value.none))).update s.heap.objs.size (Obj.mapSeq (·.pop))).get? b=some o:=fun b o hb e=>(RQ _ _ (Sw hb)).trans ((RQ _ _ (Sw hb)).trans e)
 have st2:=(W A.in1 hh).frame 0 _ _ st fun b hb o e=>oth b o (fun z=>hSf (z▸hb)) e
 refine Pk ⟨Th F.plain_extend_loop _,codeAny_extend_loopS (W A.in1 hh).toS (by rw [hLn,QH];omega) _ hSf _ L.length 0 _ _ _ rfl (QS _) st2 hS4 (ItemsOf.nil _) fun s' acc' c' hm hS' hacc=>?_⟩
 show wpAny _ A (load s.heap.objs.size >>= _) _ _ s'
 refine Ph (Sl hS' ?_)
 refine Pk ?_
 have e1:acc'.toList=L.map (·.2):=by
  apply List.ext_getElem?
  intro j
  rw [P6,Qw]
  by_cases hj:j < acc'.size
  ·obtain ⟨e,he,hv⟩:=hacc.2 j acc'[j] (P7 hj)
   rw [P7 hj,he,hv]
   rfl
  ·rw [Array.getElem?_eq_none (by omega),S4 (by rw [<- hacc.1];omega)]
   rfl
 rw [e1]
 obtain ⟨hp2,g2,d2,tk2,os2⟩:=s'
 have eg:g2=s.gens:=hm.gens
 have ed:d2=dr:=hm.drawn
 have eo:os2=s.os:=hm.os
 subst eg;subst ed;subst eo
 refine q L hp2 d2 tk2 (Pp hS') p fun b o e=>hm.heap b o (fun z=>?_) (oth b o (PM (Pp e)) (f4 _ _ (Pj _ e)))
 have lb:=Pp e
 rcases Pn.mp z with z | z
 ·rw [z] at lb;exact PZ _ lb
 ·rw [PV.mp z] at lb
  have f3':(s.heap.push {cls:=.type "list",data:=.seq ([]:List Value).toArray}).objs.size<=I:=f3
  rw [Qc] at f3'
  exact absurd (Pt lb (Nat.le_of_succ_le f3')) (PZ _)
end
theorem qm {h:Heap}:∀ {vs:List Value} {ds:List PyData},Paired (fun v d=>∃ as,Reads h v d as) vs ds->∃ as,ReadsAll h vs ds as
 | _,_,.nil=>⟨_,.nil⟩
 | _,_,.cons ⟨_,r⟩ t=>let ⟨_,q⟩:=qm t;⟨_,.cons r q⟩
theorem mJ {h:Heap} {vs:List Value} {ds:List PyData} {as:List Addr} (r:ReadsAll h vs ds as):∀ (p:List Nat),(∀ i∈p,i < vs.length)->∃ bs,ReadsAll h (p.map fun i=>vs.getD i .none) (p.map fun i=>ds.getD i .none) bs
 | [],_=>⟨_,.nil⟩
 | i::p,hp=>by
  have hi:=hp i (PJ ..)
  obtain ⟨bs,q⟩:=mJ r p fun j hj=>hp j (Pr _ hj)
  obtain ⟨d,cs,e1,e2⟩:=readsAll_get r (Pz hi)
  refine ⟨_,.cons (as:=cs) ?_ q⟩
  have x1:vs.getD i .none=vs[i]:=by simp [hi]
  have x2:ds.getD i .none=d:=by rw [List.getD_eq_getElem?_getD,e1];rfl
  show Reads h (vs.getD i .none) (ds.getD i .none) cs
  rw [x1,x2]
  exact e2
section
variable {P:Program} {w:World} {A:Around} {E:Value->Shared->Prop} {s:Shared} {vp:Value->Prop}
theorem yp {ds es:List PyData} (p:List.Perm ds es) (h:dA ds=true):dA es=true:=by
 unfold dA at h ⊢
 rw [PH] at h ⊢
 intro a ha
 have:=h a (p.mem_iff.mpr ha)
 rw [PH] at this ⊢
 exact fun b hb=>this b (p.mem_iff.mpr hb)
theorem yq {ds es:List PyData} {f:PyData->Bool} (p:List.Perm ds es) (h:ds.all f=true):es.all f=true:=by
 rw [PH] at h ⊢
 exact fun a ha=>h a (p.mem_iff.mpr ha)
theorem fu:∀ {ds:List PyData} {n:Nat},PyData.depthAll ds<=n<->∀ d∈ds,d.depth<=n
 | [],n=>by simp [PyData.depthAll]
 | d::ds,n=>by
  simp only [PyData.depthAll,Pn,forall_eq_or_imp]
  rw [<- fu (ds:=ds)]
  omega
theorem vC {ds:List PyData}:au ds=true<->∀ d∈ds,ai d=true:=⟨fun h d m=>aM h m,iE⟩
theorem zG {md:Bool} {a:Addr} {ds zs:List PyData} {Q:Value->Shared->Prop} (S:ke vp w s.heap a md ds) (hh:A.handled=none) (pz:List.Perm ds zs) (ok:cN zs=true) (hu:A.units+60 < cLine)
  (q:∀ h' dr tk p us e,s.heap.objs.size<=p->(∀ b o,s.heap.get? b=some o->h'.get? b=some o)->h'.get? p=some (PyProof.Rows.seqObj "list" (us:List Value).toArray e)->(∃ as,ReadsAll h' us (cx ltB zs) as)->(∀ u∈us,vp u)->Q (.ref p) {s with heap:=h',drawn:=dr,toks:=tk}):wpAny (model P w) A (call (.builtin "sorted") [.ref a]) Q E s:=by
 obtain ⟨es,ep,t,S⟩:=S
 simp only [cN,Pl,Py,QK] at ok
 obtain ⟨⟨⟨⟨kd,tr⟩,cm⟩,dp⟩,h64⟩:=ok
 refine Sb PyProof.Rows.kind_sorted PyProof.Rows.plain_sorted PyProof.Rows.entry_sorted (PyProof.Rows.args_sorted1 _) ?_
 unfold Builtin.«sorted»
 refine Ph (m:=checkCount "sorted" 1 1 _) (Pk ?_)
 refine Ph (yo S (by simp [hh]) fun L h1 dr tk sz1 pL k1=>?_)
 obtain ⟨ds1,p1,e1⟩:=qk pL.symm S.el
 have pd:List.Perm ds1 zs:=p1.symm.trans pz
 have hLd:L.length=ds1.length:=P4 e1
 have hdz:ds1.length=zs.length:=pd.length_eq
 generalize hvs:L.map (·.2)=vs
 have hvl:vs.length=zs.length:=by rw [<- hvs,PX,hLd,hdz]
 obtain ⟨as,ra⟩:∃ as,ReadsAll h1 vs ds1 as:=by
  refine qm ?_
  rw [<- hvs]
  have:∀ {l:List (Int×Value)} {ys:List PyData},Paired (El vp w s.heap md) l ys->Paired (fun v d=>∃ as,Reads h1 v d as) (l.map (·.2)) ys:=by
   intro l ys h
   induction h with
   | nil=>exact .nil
   | cons r _ ih=>exact .cons (let ⟨as,x⟩:=r.rd;⟨as,ju (fun b o _ _ e _ _=>k1 b o e) r.tr x⟩) ih
  exact this e1
 refine Ph (Tf (hsz:=by rw [hvl,QH];omega) ?_)
 have hoL:(h1.push (PyProof.Rows.seqObj "list" vs.toArray 0)).get? h1.objs.size=some (PyProof.Rows.seqObj "list" vs.toArray 0):=Po _ rfl
 have tr1:au ds1=true:=vC.mpr fun d m=>vC.mp tr d (pd.mem_iff.mp m)
 have cm1:=yp pd.symm cm
 have O:=JP (fP cm1 tr1)
 rw [hdz,<- hvl] at O
 refine Ph (Qk (Qa PyProof.Rows.slot_list_sort ⟨_,hoL,rfl⟩ PyProof.Rows.entry_list_sort (PySem.W.ja hoL O (by omega) (fun h' k h2=>?_) fun p a1 a2=>⟨_,rfl,?_⟩) (PyProof.Rows.args_list_sort _)))
 ·have ra':ReadsAll h' vs ds1 as:=Qu (fun b o e=>k b o (PM (Pp e)) (Pj _ e)) ra
  have la:PyData.canLayAll0 ds1=true:=lK (bF.mpr fun d m=>by
   obtain ⟨i,hi⟩:=QM m
   obtain ⟨e,_,x⟩:=iM e1 hi
   exact x.so) (fg tr1)
  rcases kd with kd | kd
  ·exact pA (s:={s with heap:=h',drawn:=dr,toks:=tk}) ra' (yq pd.symm kd) h2
  ·exact pv (s:={s with heap:=h',drawn:=dr,toks:=tk}) (by show A.units+1+1+41 < cLine;omega) ra' (yq pd.symm kd) tr1 cm1 la (fu.mpr fun d m=>fu.mp dp d (pd.mem_iff.mp m)) (by omega)
 ·obtain ⟨e,he⟩:=PyProof.Rows.sortedHeap_at (out:=(p.toList.map fun i=>vs.getD i Value.none).toArray) hoL
  have kp:∀ b o,h1.get? b=some o->(PyProof.Rows.sortedHeap (h1.push (PyProof.Rows.seqObj "list" vs.toArray 0)) h1.objs.size vs (p.toList.map fun i=>vs.getD i Value.none).toArray).get? b=some o:=fun b o eb=>by
   rw [PyProof.Rows.sortedHeap_old (PM (Pp eb)) (by rw [Qc];exact Qx (Pp eb))]
   exact Pj _ eb
  have hin:∀ i∈p.toList,i < vs.length:=fun i hi=>Qo.mp (a1.perm.mem_iff.mp hi)
  obtain ⟨bs,rb⟩:=mJ ra p.toList hin
  have e1':(p.toList.map fun i=>ds1.getD i .none)=cx ltB zs:=by
   refine rV cm tr ?_ ?_
   ·have:=a1.perm.map (fun i=>ds1.getD i .none)
    rw [hvl,<- hdz,gP] at this
    exact this.trans pd
   ·have hlp:p.toList.length=vs.length:=by rw [a1.perm.length_eq,SN]
    unfold Up
    rw [RH,QV]
    intro i j hi hj hij
    have x1:PySem.W.pat p i=p.toList[i]:=by simp only [Qj] at hi;rw [PySem.W.gC,Ss p i hi];simp
    have x2:PySem.W.pat p j=p.toList[j]:=by simp only [Qj] at hj;rw [PySem.W.gC,Ss p j hj];simp
    have:=a2 i j hij (by omega)
    rw [x1,x2] at this
    exact this
  rw [e1'] at rb
  refine Pk ⟨_,rfl,q _ dr tk h1.objs.size (p.toList.map fun i=>vs.getD i Value.none) e (Sj sz1) (fun b o eb=>kp b o (k1 b o eb)) he ⟨bs,Qu kp rb⟩ fun u hu=>?_⟩
  obtain ⟨i,hi,rfl⟩:=P8.mp hu
  have hil:=hin i hi
  have eu:vs.getD i Value.none=vs[i]:=by simp [hil]
  have hmem:vs[i]∈L.map (·.2):=by rw [hvs];exact TK hil
  obtain ⟨e',he',e2⟩:=P8.mp hmem
  obtain ⟨j,hj⟩:=QM he'
  obtain ⟨d',_,x⟩:=fR e1 hj
  rw [eu,<- e2]
  exact x.vl
end
end Stt
namespace Ml
open PySem PySem.Spec L2 Stt
theorem _root_.L2.Inv.dr {X:Cx} {pins:List (Addr×Obj)} {σ:St} {H:Hp} {s:Shared} (I:L2.Inv X pins σ H s) (dr:Drawn):L2.Inv X pins σ H {s with drawn:=dr}:=⟨I.ok,I.os,I.bare,I.base,I.loc,I.cell,I.free,I.freeC,I.pin,I.hok,I.len⟩
structure Ez (X:Cx) (M:Hp) (s:Shared) (b:Addr) (ds:List PyData) (vs:List V) (its:List Value):Prop where
 src:∃ T OK,Src X.prog X.w T b its.toArray OK/\OK s.heap
 rep:aZ M ds vs
 val:Vals vs its
 so:cy ds=true
theorem GU {X:Cx} {θ:List Addr} {hm:Hm} {H:Hp} {pins:List (Addr×Obj)} {σ:St} {s:Shared} {d:D} {v:V} {ds:List PyData} (I:L2.Inv X pins σ H s) (w:W X.G θ hm H) (r:bS X.G θ H d v) (e:sJ d hm=some ds) :
  ∃ b vs its,v=.ref b/\Ez X (view θ H) s b ds vs its:=by
 have tup:∀ (b:Addr) (vs:List V),v=.ref b->gx X.K H b vs->aZ (view θ H) ds vs->cy ds=true->∃ b vs its,v=.ref b/\Ez X (view θ H) s b ds vs its:=fun b vs e1 e2 e3 e4=>by
  obtain ⟨its,rv,pl,_⟩:=I.tuple e2
  exact ⟨b,vs,its,e1,⟨"tuple",_,src_tuple b its.toArray,pl⟩,e3,rv,e4⟩
 have hs:=e
 unfold sJ at hs
 split at hs
 ·cases hs
  obtain ⟨⟨b,vs,rfl,hb,rr⟩,so⟩:=r
  exact tup b vs rfl (.inl (.inl (aA _ _ _ _ hb))) rr (by simpa [bY] using so)
 ·cases hs
  obtain ⟨b,rfl,⟨o,its,n,k1,k2,k3,k4,k5⟩,k6,k7⟩:=r
  refine tup b _ rfl (.inr ⟨o,its,n,k1,k2,k3,k4,k5⟩) (lL (xT (G:=X.G) (θ:=θ) (H:=H) k6 k7) (lJ _)).1 k7
 ·obtain ⟨b,vs,rfl,hb,rr,so⟩:=qR w r hs
  obtain ⟨its,n,rv,eo,hz⟩:=I.lst hb
  exact ⟨b,vs,its,rfl,⟨"list",_,src_list b its.toArray,⟨_,eo,rfl,n,rfl⟩⟩,rr,rv,so⟩
theorem tw {M:Hp} {h:Heap} {ds:List PyData} {vs:List V} {its:List Value} (rp:aZ M ds vs) (rv:Vals vs its) {as:List Addr} (ra:ReadsAll h its ds as):∀ {us:List Value} {zs:List PyData} {bs:List Addr},ReadsAll h us zs bs->(∀ u∈us,u∈its)->∃ ws,Vals ws us/\aZ M zs ws
 | _,_,_,.nil,_=>⟨[],.nil,rfl⟩
 | _,_,_,.cons r t,hu=>by
  obtain ⟨ws,q1,q2⟩:=tw rp rv ra t fun u m=>hu u (Pr _ m)
  obtain ⟨i,hi⟩:=QM (hu _ (PJ ..))
  obtain ⟨d,cs,e1,e2⟩:=readsAll_get ra hi
  obtain ⟨x,e3,e4⟩:=aZ.get' rp e1
  obtain ⟨u',e5,e6⟩:=rv.get e3
  rw [hi] at e5
  cases e5
  have:=(PySem.Reads.unique r _ _ e2).1
  subst this
  exact ⟨x::ws,.cons e6 q1,.cons e4 q2⟩
theorem EA {ds:List PyData} (h:setOk ds=true) (so:cy ds=true):∃ md,ds.length<=120/\(∀ d∈ds,av d=true)/\∀ d∈ds,Ka md d:=by
 simp only [setOk,Pl,Py,QK] at h
 obtain ⟨⟨⟨h1,h2⟩,h3⟩,h4⟩:=h
 have t:=ve.mp h2
 rcases h1 with h1 | h1
 ·exact ⟨true,h4,t,fun d m=>⟨t d m,fu.mp h3 d m,bF.mp so d m,PH.mp h1 d m⟩⟩
 ·refine ⟨false,h4,t,fun d m=>⟨t d m,fu.mp h3 d m,bF.mp so d m,?_⟩⟩
  have:=PH.mp h1 d m
  cases d<;>simp [fN] at this<;>rfl
section
variable {X:Cx} {E:XK} {m m2:ME} {e e2:Expr} {k:Nat} {pins:List (Addr×Obj)} {σ:St} {H:Hp} {s:Shared} {θ:List Addr} {hm:Hm} {Q:VK} {p1 p2 p3 p4 p5 p6 pos:Pos}
theorem zH {M:Hp} {vp:Value->Prop} {md:Bool} {a:Addr} {dsS zs ds:List PyData} {vs:List V} {its:List Value} {s':Shared} {as:List Addr} (I:L2.Inv X pins σ H s) (w:W X.G θ hm H) (sm:M=view θ H) (hk:∀ b o,s.heap.get? b=some o->s'.heap.get? b=some o) (hs:∃ h tk dr,s'={s with heap:=h,toks:=tk,drawn:=dr}) (hsz:s.heap.objs.size<=s'.heap.objs.size)
  (S:ke vp X.w s'.heap a md dsS) (hh:X.A.handled=none) (pz:List.Perm dsS zs) (ok:cN zs=true) (so:cy zs=true) (hu:X.A.units+60 < cLine) (rp:aZ M ds vs) (rv:Vals vs its) (ra:ReadsAll s'.heap its ds as) (hvp:∀ v,vp v->v∈its)
  (q:aG X.G (n0 X.G E) θ H (.ok (.dat (.list (cx ltB zs))) hm) (KV X.G Q)):wpAny (model X.prog X.w) X.A (call (.builtin "sorted") [.ref a]) (EP X pins σ Q) X.xe s':=by
 obtain ⟨h1,tk1,dr1,rfl⟩:=hs
 refine zG S hh pz ok hu fun h' dr tk p us e' hp kp he ⟨bs,rb⟩ vu=>?_
 have ra':ReadsAll h' its ds as:=Qu kp ra
 obtain ⟨ws,q1,q2⟩:=tw rp rv ra' rb fun u m=>hvp u (vu u m)
 have hpp:s.heap.objs.size<=p:=Pq hsz hp
 have hn:H p=none:=I.hok.fresh hpp
 obtain ⟨ev,w1,g⟩:=w.put (o:=.lst ws) hn
 have hlen:ws.length<=sizeLine:=by
  have x1:=q2.length
  have x2:(cx ltB zs).length=zs.length:=(bo _ _).length_eq
  simp only [cN,Pl,Py] at ok
  rw [QH]
  omega
 have I2:L2.Inv X pins σ (upd H p (.lst ws)) {s with heap:=h',toks:=tk}:=I.laid (t':=tk) (fun b o eb=>kp b o (hk b o eb)) hpp ⟨hlen,us,e',q1,he⟩
 subst sm
 exact ⟨.ref p,_,I2.dr dr,rfl,q _ _ ev w1 _ ⟨⟨p,ws,rfl,g,q2.same ev.same⟩,by simp only [bY];exact pB (bo _ _).symm so⟩⟩
theorem nk (hc:X.calm=true) (hr:L2.cg k X.A) (hm1:X.mg "sorted" = none) (hm2:X.mg "set" = none) (ha:DE X E m e) (hg:Gl X "sorted" := by rfl) (hg2:Gl X "set" := by rfl) (hs:starEach [e] X.env=[(false,eval e X.env)]:=by rfl)
  (hs3:starEach [.Call (.Name "set" p2) [e] [] p3] X.env=[(false,eval (.Call (.Name "set" p2) [e] [] p3) X.env)]:=by rfl) :
  DE X E (af cX (aa m ag)) (.Call (.Name "sorted" p1) [.Call (.Name "set" p2) [e] [] p3] [] pos):=by
 simp only [bj] at *
 intro pins s σ H Q I ⟨θ,h,ρ,w,fr,p⟩
 refine Qz (mP I hg hm1 (by decide +kernel:bootBuiltins "sorted" = some (.builtin "sorted")) ?_)
 refine SX ?_ (by rw [hs3];rfl) (by rfl)
 rw [hs3]
 show wpAny _ _ (spliced ((false,eval (.Call (.Name "set" p2) [e] [] p3) X.env)::[])) _ _ s
 refine RT ?_
 refine Qz (mP I hg2 hm2 (by decide +kernel:bootBuiltins "set" = some (.type "set")) ?_)
 refine Ra ?_ (by rw [hs];rfl) (by rfl)
 rw [hs]
 show wpAny _ _ (spliced ((false,eval e X.env)::[])) _ _ s
 simp only [af,aa,ag,R.bind_assoc,R.ay] at p
 refine RT (bV (ha pins s σ H (fun v H1=>∃ θ1 h1 d,W X.G θ1 h1 H1/\bS X.G θ1 H1 d v/\aG X.G (n0 X.G E) θ1 H1 (cX [d] h1) (Ml.KV X.G Q)) I ⟨θ,h,ρ,w,fr,(aG.bind p).mono fun d θ1 h1 H1 _ _ ⟨ev,w1,q1⟩ v r1=>⟨θ1,h1,d,w1,r1,q1⟩⟩) fun u s1 ⟨v,H1,I1,rv1,θ1,h1,d,w1,r1,q1⟩=>?_)
 refine SM ?_
 cases hsq:sJ d h1 with
 | none=>simp only [cX,hsq] at q1;exact q1.elim
 | some ds=>
  have hds:=hsq
  simp only [cX,hsq] at q1
  by_cases hc2:(setOk ds && cN (eT ds))=true
  ·rw [if_pos hc2] at q1
   ·skip
    simp only [Pl] at hc2
    obtain ⟨b,vs,its,rfl,SS⟩:=GU I1 w1 r1 hds
    cases rv1
    obtain ⟨T,OK,src,hok⟩:=SS.src
    obtain ⟨as,ra⟩:=aZ.reads I1 (SS.rep.same (aA _ _)) SS.val
    obtain ⟨md,hl,ht,hel⟩:=EA hc2.1 SS.so
    have hun:=hr.un
    refine Eu (vp:=fun v=>v∈its) (md:=md) (ys:=ds) (as:=as) src (I1.ok.hd hc) hok (by simpa using ra) hel (fun v m=>by simpa using m) hl (by omega) fun h' tk dsS S md' kp=>?_
    refine SM ?_
    have S0:=S
    obtain ⟨_,_,_,SA⟩:=S0
    refine zH (s:=s1) (s':={s1 with heap:=h',toks:=tk}) I1 w1 rfl kp ⟨h',tk,s1.drawn,rfl⟩ (Sj (Pp SA.ob)) S (I1.ok.hd hc) ?_ hc2.2 ?_ (by omega) SS.rep SS.val (Qu kp ra) (fun v hv=>hv) q1
    ·refine (List.perm_ext_iff_of_nodup SA.nd (iJ ht)).mpr fun d=>?_
     rw [md',jx ht]
    ·exact bF.mpr fun d m=>bF.mp SS.so d ((jx ht d).mp m)
  ·rw [if_neg hc2] at q1;exact q1.elim
end
theorem vD:∀ {xs ys:List PyData},xs.Nodup->(∀ x∈xs,x∈ys)->xs.length<=ys.length
 | [],_,_,_=>QS _
 | x::xs,ys,nd,h=>by
  classical
  obtain ⟨n1,n2⟩:=QW.mp nd
  have hx:=h x (PJ ..)
  obtain ⟨i,hi,e⟩:=RM hx
  have p:=fo hi
  rw [e] at p
  have:=vD (xs:=xs) (ys:=ys.eraseIdx i) n2 fun y hy=>by
   have:=p.mem_iff.mpr (h y (Pr _ hy))
   rcases Pn.mp this with z | z
   ·exact absurd hy (z▸n1)
   ·exact z
  have pl:=p.length_eq
  simp only [PQ] at pl ⊢
  omega
end Ml
namespace K22
open PySem L2 Ml
def top (i:Nat):Stmt:=PySem.Challenge.pw_everalike_k22_kinds_in_which_webs_are_al.main.body.getD i (.Pass ⟨0,0,0,0⟩)
structure Txt (K:PySem.W.Frag) (mg:Str->Option Value):Prop where
 n_all:mg "all" = none
 n_len:mg "len" = none
 n_isinstance:mg "isinstance" = none
 n_str:mg "str" = none
 n_zip:mg "zip" = none
 n_tuple:mg "tuple" = none
 n_int:mg "int" = none
 n_max:mg "max" = none
 n_divmod:mg "divmod" = none
 n_sorted:mg "sorted" = none
 n_range:mg "range" = none
 n_set:mg "set" = none
 n_list:mg "list" = none
 n_repr:mg "repr" = none
 i_LONGEST_NAME:∃ t,mg "LONGEST_NAME" = some (.int 6 t)
 i_MOST_NAMES:∃ t,mg "MOST_NAMES" = some (.int 12 t)
 f_IDLE:∃ a,mg "IDLE" = some (.ref a)/\GB K mg a sL
 t_KINDS:∃ a,mg "KINDS" = some (.ref a)/\Dx K a eO
section
variable {P:Program} {w:World} {K:PySem.W.Frag} {mg:Str->Option Value} {base:Heap} {XE:VK->XK} {bm:Addr}
abbrev pK:Stmt:=top 7
abbrev lV:List Str:=["thing"]
theorem zI:aO ["thing"] lV (aE pK):=nF
theorem wL:(["letter", "thing"]:List Str).Nodup:=by decide +kernel
abbrev vE (P:Program) (w:World) (K:PySem.W.Frag) (mg:Str->Option Value) (base:Heap):Prop:=bg P w K mg base "is_name" lV 1 jv
theorem Cp (D:Df K mg "is_name" lV pK) (T:Txt K mg):vE P w K mg base:=
 bg.eq (Df.has (k:=0) D zI (fun f cdv A outer s H E hr=>
  ax (gJ (DW.dt (u0 (jI (eL (D4 (Gb _) Jq T.n_isinstance T.n_str (dv 0)))) (pf (jI (D3 Gp Gp (aI) (qT mG T.n_len i9 (ab (dv 0) (ah))) (A3 T.i_LONGEST_NAME)))))) (aF (bc (gQ))) (cZ))
  (aF (bc (qT (A0 rfl) T.n_all v9 (ab (fi ["letter"] (by rfl) rfl (dM (dv 0)) (fun _ _ _ _ _=>dg 0 wL) (fun _ _ _ _ _=>lM) (fun _ _ _ _ _=>D2 Gp Gp (dJ) (dv 0) (dJ))) (ah))))))) (by kernel_rfl)
abbrev kM:Stmt:=top 8
abbrev iO:List Str:=["things"]
theorem wM:aO ["things"] iO (aE kM):=nF
theorem kN:(["low", "high", "things"]:List Str).Nodup:=by decide +kernel
abbrev kO (P:Program) (w:World) (K:PySem.W.Frag) (mg:Str->Option Value) (base:Heap):Prop:=bg P w K mg base "is_rising" iO 1 gr
theorem yr (D:Df K mg "is_rising" iO kM) (T:Txt K mg):kO P w K mg base:=
 bg.eq (Df.has (k:=0) D wM (fun f cdv A outer s H E hr=>
  aF (bc (qT (A0 rfl) T.n_all v9 (ab (fi ["low", "high"] (by rfl) rfl (JJ (by rfl) T.n_zip (ab (dv 0) (ab (DN (dv 0) (wA (aI)) (Gq)) (ah)))) (fun _ _ _ _ _=>jc rfl (bw (dg 0 kN) (bw (dg 1 kN) (fW))) (aU (aU (dz)))) (fun _ _ _ _ _=>lM) (fun _ _ _ _ _=>dB (JN hr) (dv 0) (dv 1) (by rfl))) (ah)))))) (by kernel_rfl)
abbrev kP:Stmt:=top 9
abbrev iP:List Str:=["thing"]
theorem wN:aO ["thing"] iP (aE kP):=nF
theorem tB:(["part", "thing"]:List Str).Nodup:=by decide +kernel
abbrev qo (P:Program) (w:World) (K:PySem.W.Frag) (mg:Str->Option Value) (base:Heap):Prop:=bg P w K mg base "are_names" iP 2 iH
theorem yt (D:Df K mg "are_names" iP kP) (T:Txt K mg) (J8:kO P w K mg base) (J7:vE P w K mg base):qo P w K mg base:=
 bg.eq (Df.has (k:=1) D wN (fun f cdv A outer s H E hr=>
  ax (gJ (DW.dt (u0 (jI (eL (D4 (kit_tuple _) cn T.n_isinstance T.n_tuple (dv 0)))) (pf (cO NC (qT mG T.n_len i9 (ab (dv 0) (ah))) (A3 T.i_MOST_NAMES) (by rfl))))) (aF (bc (gQ))) (cZ))
  (aF (bc (fZ (qT (A0 rfl) T.n_all v9 (ab (fi ["part"] (by rfl) rfl (dM (dv 0)) (fun _ _ _ _ _=>dg 0 tB) (fun _ _ _ _ _=>lM) (fun _ _ _ _ _=>f9 J7 bM hr (ab (dv 0) (ah)))) (ah))) (fh (f9 J8 aW hr (ab (dv 0) (ah))))))))) (by kernel_rfl)
abbrev kQ:Stmt:=top 10
abbrev iQ:List Str:=["thing", "names"]
theorem wO:aO ["thing", "names"] iQ (aE kQ):=nF
abbrev qp (P:Program) (w:World) (K:PySem.W.Frag) (mg:Str->Option Value) (base:Heap):Prop:=bg P w K mg base "is_strike" iQ 1 gu
theorem yu (D:Df K mg "is_strike" iQ kQ) (T:Txt K mg):qp P w K mg base:=
 bg.eq (Df.has (k:=0) D wO (fun f cdv A outer s H E hr=>
  ax (gJ (DW.dt (u0 (jI (eL (D4 (kit_tuple _) cn T.n_isinstance T.n_tuple (dv 0)))) (pf (cO (xH hr) (qT mG T.n_len i9 (ab (dv 0) (ah))) (aI) (by rfl))))) (aF (bc (gQ))) (cZ))
  (aF (bc (fZ (dB (ng hr) (cI (bf hr) (dv 0) (aI) (fun _ _=>rfl)) (dv 1) (by rfl)) (fh (dB (ng hr) (cI (bf hr) (dv 0) (aI) (fun _ _=>rfl)) (dv 1) (by rfl)))))))) (by kernel_rfl)
abbrev jf:Stmt:=top 11
abbrev gc:List Str:=["thing", "names"]
theorem tD:aO ["thing", "names"] gc (aE jf):=nF
theorem pM:(["part", "thing", "names"]:List Str).Nodup:=by decide +kernel
abbrev mK (P:Program) (w:World) (K:PySem.W.Frag) (mg:Str->Option Value) (base:Heap):Prop:=bg P w K mg base "are_strikes" gc 2 f6
theorem uB (D:Df K mg "are_strikes" gc jf) (T:Txt K mg) (J8:kO P w K mg base) (J10:qp P w K mg base):mK P w K mg base:=
 bg.eq (Df.has (k:=1) D tD (fun f cdv A outer s H E hr=>
  ax (gJ (jI (eL (D4 (kit_tuple _) cn T.n_isinstance T.n_tuple (dv 0)))) (aF (bc (gQ))) (cZ))
  (aF (bc (fZ (qT (A0 rfl) T.n_all v9 (ab (fi ["part"] (by rfl) rfl (dM (dv 0)) (fun _ _ _ _ _=>dg 0 pM) (fun _ _ _ _ _=>lM) (fun _ _ _ _ _=>f9 J10 bM hr (ab (dv 0) (ab (dv 2) (ah))))) (ah))) (fh (f9 J8 aW hr (ab (dv 0) (ah))))))))) (by kernel_rfl)
abbrev tE:Stmt:=top 12
abbrev oy:List Str:=["thing"]
theorem pN:aO ["thing", "names", "strikes"] oy (aE tE):=nF
abbrev yw (P:Program) (w:World) (K:PySem.W.Frag) (mg:Str->Option Value) (base:Heap):Prop:=bg P w K mg base "is_web" oy 3 oh
theorem EB (D:Df K mg "is_web" oy tE) (T:Txt K mg) (J11:mK P w K mg base) (J9:qo P w K mg base):yw P w K mg base:=
 bg.eq (Df.has (k:=2) D pN (fun f cdv A outer s H E hr=>
  ax (gJ (DW.dt (u0 (jI (eL (D4 (kit_tuple _) cn T.n_isinstance T.n_tuple (dv 0)))) (pf (cO (xH hr) (qT mG T.n_len i9 (ab (dv 0) (ah))) (aI) (by rfl))))) (aF (bc (gQ))) (cZ))
  (ax (jJ (dv 0) (jc rfl (bw (dg 1 pN.nd) (bw (dg 2 pN.nd) (fW))) (aU (aU (dz)))))
  (aF (bc (fZ (f9 J9 aW hr (ab (dv 1) (ah))) (fh (f9 J11 aW hr (ab (dv 2) (ab (dv 1) (ah))))))))))) (by kernel_rfl)
abbrev kR:Stmt:=top 13
abbrev iR:List Str:=["thing"]
theorem wQ:aO ["thing"] iR (aE kR):=nF
abbrev iS (P:Program) (w:World) (K:PySem.W.Frag) (mg:Str->Option Value) (base:Heap):Prop:=bg P w K mg base "check_web" iR 4 cL
theorem yx (D:Df K mg "check_web" iR kR) (T:Txt K mg) (J12:yw P w K mg base):iS P w K mg base:=
 bg.eq (Df.has (k:=3) D wQ (fun f cdv A outer s H E hr=>
  aF (gJ (jI (eL (f9 J12 aW hr (ab (dv 0) (ah))))) (aF (D8)) (cZ)))) (by kernel_rfl)
abbrev jW:Stmt:=top 16
abbrev gX:List Str:=["thing"]
theorem uC:aO ["thing"] gX (aE jW):=nF
abbrev jX (P:Program) (w:World) (K:PySem.W.Frag) (mg:Str->Option Value) (base:Heap):Prop:=bg P w K mg base "check_kind" gX 1 gV
theorem wR (D:Df K mg "check_kind" gX jW) (T:Txt K mg):jX P w K mg base:=
 bg.eq (Df.has (k:=0) D uC (fun f cdv A outer s H E hr=>
  aF (gJ (cO (D0 hr) (dv 0) (A4 T.t_KINDS) (by rfl)) (aF (D8)) (cZ)))) (by kernel_rfl)
abbrev fw:Stmt:=top 18
abbrev dG:List Str:=["strikes", "one", "other"]
theorem nq:aO ["strikes", "one", "other"] dG (aE fw):=nF
abbrev iT (P:Program) (w:World) (K:PySem.W.Frag) (mg:Str->Option Value) (base:Heap):Prop:=bg P w K mg base "idle_for_stable" dG 1 ck
theorem oz (D:Df K mg "idle_for_stable" dG fw) (T:Txt K mg):iT P w K mg base:=
 bg.eq (Df.has (k:=0) D nq (fun f cdv A outer s H E hr=>
  aF (bc (dB (ng hr) (bu (ab (dv 1) (ab (dv 1) (ah)))) (dv 0) (by rfl))))) (by kernel_rfl)
abbrev eA:Stmt:=top 19
abbrev cQ:List Str:=["strikes", "one", "other"]
theorem kS:aO ["strikes", "one", "other"] cQ (aE eA):=nF
abbrev gN (P:Program) (w:World) (K:PySem.W.Frag) (mg:Str->Option Value) (base:Heap):Prop:=bg P w K mg base "idle_for_standing" cQ 1 bq
theorem mq (D:Df K mg "idle_for_standing" cQ eA) (T:Txt K mg):gN P w K mg base:=
 bg.eq (Df.has (k:=0) D kS (fun f cdv A outer s H E hr=>
  aF (bc (fZ (dB (ng hr) (bu (ab (dv 1) (ab (dv 1) (ah)))) (dv 0) (by rfl)) (fh (wF (dB (ng hr) (bu (ab (dv 2) (ab (dv 1) (ah)))) (dv 0) (by rfl)) (fh (dB (ng hr) (bu (ab (dv 2) (ab (dv 2) (ah)))) (dv 0) (by rfl))))))))) (by kernel_rfl)
abbrev fS:Stmt:=top 20
abbrev dX:List Str:=["strikes", "one", "other"]
theorem oA:aO ["strikes", "one", "other"] dX (aE fS):=nF
abbrev jy (P:Program) (w:World) (K:PySem.W.Frag) (mg:Str->Option Value) (base:Heap):Prop:=bg P w K mg base "idle_for_whole" dX 1 cA
theorem pO (D:Df K mg "idle_for_whole" dX fS) (T:Txt K mg):jy P w K mg base:=
 bg.eq (Df.has (k:=0) D oA (fun f cdv A outer s H E hr=>
  aF (bc (fZ (dB (ng hr) (bu (ab (dv 1) (ab (dv 1) (ah)))) (dv 0) (by rfl)) (fh (dB (ng hr) (bu (ab (dv 2) (ab (dv 2) (ah)))) (dv 0) (by rfl))))))) (by kernel_rfl)
abbrev eB:Stmt:=top 21
abbrev cR:List Str:=["strikes", "one", "other"]
theorem kT:aO ["strikes", "one", "other"] cR (aE eB):=nF
abbrev gO (P:Program) (w:World) (K:PySem.W.Frag) (mg:Str->Option Value) (base:Heap):Prop:=bg P w K mg base "idle_for_grounded" cR 1 bP
theorem mr (D:Df K mg "idle_for_grounded" cR eB) (T:Txt K mg):gO P w K mg base:=
 bg.eq (Df.has (k:=0) D kT (fun f cdv A outer s H E hr=>
  aF (bc (fZ (dB (ng hr) (bu (ab (dv 2) (ab (dv 2) (ah)))) (dv 0) (by rfl)) (fh (wF (dB (ng hr) (bu (ab (dv 1) (ab (dv 1) (ah)))) (dv 0) (by rfl)) (fh (dB (ng hr) (bu (ab (dv 2) (ab (dv 1) (ah)))) (dv 0) (by rfl))))))))) (by kernel_rfl)
abbrev tF:Stmt:=top 23
abbrev oB:List Str:=["web", "kind"]
theorem g0:aO ["web", "kind", "idle", "names", "strikes", "there", "kept"] oB (aE tF):=nF
theorem qq:(["one", "other", "web", "kind", "idle", "names", "strikes", "there", "kept"]:List Str).Nodup:=by decide +kernel
theorem yy:(["strike", "web", "kind", "idle", "names", "strikes", "there", "kept"]:List Str).Nodup:=by decide +kernel
abbrev yz (P:Program) (w:World) (K:PySem.W.Frag) (mg:Str->Option Value) (base:Heap):Prop:=bg P w K mg base "kernel" oB 5 oj
theorem EC (D:Df K mg "kernel" oB tF) (T:Txt K mg) (J21:gO P w K mg base) (J19:gN P w K mg base) (J18:iT P w K mg base) (J20:jy P w K mg base) (J16:jX P w K mg base) (J13:iS P w K mg base):yz P w K mg base:=
 bg.eq (Df.has (k:=4) D g0 (fun f cdv A outer s H E hr=>
  ax (fV (f9 J13 aW hr (ab (dv 0) (ah))))
  (ax (fV (f9 J16 aW hr (ab (dv 1) (ah))))
  (ax (gU 2 g0.nd (GD T.f_IDLE (dv 1) (fun _ _=>rfl)))
  (ax (jJ (dv 0) (jc rfl (bw (dg 3 g0.nd) (bw (dg 4 g0.nd) (fW))) (aU (aU (dz)))))
  (ax (gU 5 g0.nd (Ed ["strike"] true hr (by rfl) rfl (dM (dv 4)) (fun _ _ _ _ _=>dg 0 yy) (fun _ _ _ _ _=>lM) (fun _ _ _ _ _=>dv 0) (fun _ _ _ _ _=>gQ)))
  (ax (wq (i:=6) ["one", "other"] g0.nd rfl rfl (by rfl) rfl (dM (dv 4)) (fun _ _ _ _ _=>jc rfl (bw (dg 0 qq) (bw (dg 1 qq) (fW))) (aU (aU (dz)))) (fun _ _ _ _ _=>gS (DW.dt (u0 (cO (xG hr) (dv 0) (dv 1) (by rfl)) (pf (jI (eL (J0 (k:=1) 4 (.cons (J21.mono (by decide)) (.cons (J19.mono (by decide)) (.cons (J18.mono (by decide)) (.cons (J20.mono (by decide)) (.nil))))) bM (hr.mono (by omega)) (ab (dv 7) (ab (dv 0) (ab (dv 1) (ah))))))))))) (fun _ _ _ _ _=>bu (ab (dv 0) (ab (dv 1) (ah)))))
  (aF (bc (bu (ab (dv 3) (ab (iu (eN rfl) T.n_tuple cn (ab (dv 6) (ah))) (ah))))))))))))) (by kernel_rfl)
abbrev kU:Stmt:=top 25
abbrev iU:List Str:=["one", "other", "kind"]
theorem wU:aO ["one", "other", "kind"] iU (aE kU):=nF
abbrev qr (P:Program) (w:World) (K:PySem.W.Frag) (mg:Str->Option Value) (base:Heap):Prop:=bg P w K mg base "are_alike" iU 6 iK
theorem yA (D:Df K mg "are_alike" iU kU) (T:Txt K mg) (J23:yz P w K mg base) (J16:jX P w K mg base) (J13:iS P w K mg base):qr P w K mg base:=
 bg.eq (Df.has (k:=5) D wU (fun f cdv A outer s H E hr=>
  ax (fV (f9 J13 aW hr (ab (dv 0) (ah))))
  (ax (fV (f9 J13 aW hr (ab (dv 1) (ah))))
  (ax (fV (f9 J16 aW hr (ab (dv 2) (ah))))
  (aF (bc (dB (xG hr) (f9 J23 aW hr (ab (dv 0) (ab (dv 2) (ah)))) (f9 J23 aW hr (ab (dv 1) (ab (dv 2) (ah)))) (by rfl)))))))) (by kernel_rfl)
abbrev jg:Stmt:=top 26
abbrev gf:List Str:=["one", "other"]
theorem tG:aO ["one", "other"] gf (aE jg):=nF
theorem pP:(["kind", "one", "other"]:List Str).Nodup:=by decide +kernel
abbrev mL (P:Program) (w:World) (K:PySem.W.Frag) (mg:Str->Option Value) (base:Heap):Prop:=bg P w K mg base "kinds_alike" gf 7 bx
theorem uE (D:Df K mg "kinds_alike" gf jg) (T:Txt K mg) (J25:qr P w K mg base) (J13:iS P w K mg base):mL P w K mg base:=
 bg.eq (Df.has (k:=6) D tG (fun f cdv A outer s H E hr=>
  ax (fV (f9 J13 aW hr (ab (dv 0) (ah))))
  (ax (fV (f9 J13 aW hr (ab (dv 1) (ah))))
  (aF (bc (iu (eN rfl) T.n_tuple cn (ab (fi ["kind"] (by rfl) rfl (dM (A4 T.t_KINDS)) (fun _ _ _ _ _=>dg 0 pP) (fun _ _ _ _ _=>gS (eL (f9 J25 bM hr (ab (dv 1) (ab (dv 2) (ab (dv 0) (ah))))))) (fun _ _ _ _ _=>dv 0)) (ah)))))))) (by kernel_rfl)
abbrev kW:Stmt:=top 28
abbrev iV:List Str:=["_law_script", "_law_k"]
theorem wV:aO ["_law_script", "_law_k"] iV (aE kW):=nF
abbrev qt (P:Program) (w:World) (K:PySem.W.Frag) (mg:Str->Option Value) (base:Heap):Prop:=bg P w K mg base "_law_cell" iV 1 eX
theorem yB (D:Df K mg "_law_cell" iV kW) (T:Txt K mg):qt P w K mg base:=
 bg.eq (Df.has (k:=0) D wV (fun f cdv A outer s H E hr=>
  ax (gJ (cO (JN hr) (dv 1) (qT mG T.n_len i9 (ab (dv 0) (ah))) (by rfl)) (aF (bc (cI (bf hr) (dv 0) (dv 1) (fun _ _=>rfl)))) (cZ))
  (aF (bc (aI))))) (by kernel_rfl)
abbrev nu:Stmt:=top 29
abbrev jY:List Str:=["_law_cell_here"]
theorem qu:aO ["_law_cell_here", "_law_more"] jY (aE nu):=nF
abbrev tH (P:Program) (w:World) (K:PySem.W.Frag) (mg:Str->Option Value) (base:Heap):Prop:=bg P w K mg base "_law_pen" jY 1 hU
theorem zJ (D:Df K mg "_law_pen" jY nu) (T:Txt K mg):tH P w K mg base:=
 bg.eq (Df.has (k:=0) D qu (fun f cdv A outer s H E hr=>
  ax (gU 1 qu.nd (qT (LB rfl) T.n_max Jp (ab (dv 0) (ab (b0 Lz (aI) (dv 0)) (ah)))))
  (aF (bc (m7 (ab (dv 1) (ab (iu HR T.n_int D5 (ab (dB ND (dv 1) (jL 8 (d:=.int (10 ^ 18)) (Lit.of (by kernel_rfl)) (by decide +kernel)) (by rfl)) (ah))) (ah)))))))) (by kernel_rfl)
abbrev kX:Stmt:=top 30
abbrev iW:List Str:=["_law_pen_here", "_law_many"]
theorem fx:aO ["_law_pen_here", "_law_many", "_law_rest", "_law_drawn", "_law_stir"] iW (aE kX):=nF
abbrev cY (P:Program) (w:World) (K:PySem.W.Frag) (mg:Str->Option Value) (base:Heap):Prop:=bg P w K mg base "_law_draw" iW 1 ao
theorem yC (D:Df K mg "_law_draw" iW kX) (T:Txt K mg):cY P w K mg base:=
 bg.eq (Df.has (k:=0) D fx (fun f cdv A outer s H E hr=>
  ax (gJ (cO (xG hr) (cI (bf hr) (dv 0) (aI) (fun _ _=>rfl)) (aI) (by rfl)) (ax (jJ (qT DQ T.n_divmod B1 (ab (cI (bf hr) (dv 0) (aI) (fun _ _=>rfl)) (ab (dv 1) (ah)))) (jc rfl (bw (dg 2 fx.nd) (bw (dg 3 fx.nd) (fW))) (aU (aU (dz)))))
  (ax (jJ (dv 2) (DZ hr (dv 0) (aI) (fun _=>rfl)))
  (aF (bc (dv 3))))) (cZ))
  (ax (gU 4 fx.nd (b0 xI (b0 xK (b0 iG (b0 xI (cI (bf hr) (dv 0) (aI) (fun _ _=>rfl)) (aI)) (aI)) (aI)) (aI)))
  (ax (gU 4 fx.nd (b0 xI (b0 iG (b0 xK (dv 4) (dv 4)) (aI)) (aI)))
  (ax (jJ (b0 xI (b0 iG (b0 xK (dv 4) (aI)) (aI)) (aI)) (DZ hr (dv 0) (aI) (fun _=>rfl)))
  (aF (bc (b0 xI (b0 JO (cI (bf hr) (dv 0) (aI) (fun _ _=>rfl)) (aI)) (dv 1))))))))) (by kernel_rfl)
abbrev jZ:Stmt:=top 31
abbrev gY:List Str:=["_law_pen_here", "_law_most"]
theorem mM:aO ["_law_pen_here", "_law_most", "_law_left"] gY (aE jZ):=nF
theorem qI:(["_law_lap", "_law_pen_here", "_law_most", "_law_left"]:List Str).Nodup:=by decide +kernel
abbrev oC (P:Program) (w:World) (K:PySem.W.Frag) (mg:Str->Option Value) (base:Heap):Prop:=bg P w K mg base "_law_names" gY 2 jQ
theorem wW (D:Df K mg "_law_names" gY jZ) (T:Txt K mg) (J30:cY P w K mg base):oC P w K mg base:=
 bg.eq ((Df.has (k:=1) D mM (fun f cdv A outer s H E hr=>
  ax (gU 2 mM.nd (m7 (ab (dJ) (ab (dJ) (ab (dJ) (ab (dJ) (ab (dJ) (ab (dJ) (ab (dJ) (ab (dJ) (ab (dJ) (ab (dJ) (ab (dJ) (ab (dJ) (ah)))))))))))))))
  (aF (bc (iu (eN rfl) T.n_tuple cn (ab (qT (sC hr) T.n_sorted lH (ab (fi ["_law_lap"] (by rfl) rfl (qQ (by rfl) T.n_range (ab (f9 J30 aW hr (ab (dv 0) (ab (b0 iG (dv 1) (aI)) (ah)))) (ah))) (fun _ _ _ _ _=>dg 0 qI) (fun _ _ _ _ _=>lM) (fun _ _ _ _ _=>DU (dv 3) (f9 J30 bM hr (ab (dv 1) (ab (qT mG T.n_len i9 (ab (dv 3) (ah))) (ah)))))) (ah))) (ah))))))).gq) (by kernel_rfl)
abbrev nv:Stmt:=top 32
abbrev j0:List Str:=["_law_pen_here", "_law_most"]
theorem eZ:aO ["_law_pen_here", "_law_most", "_law_names_here", "_law_share", "_law_strikes", "_law_one"] j0 (aE nv):=nF
theorem uF:(["_law_other", "_law_pen_here", "_law_most", "_law_names_here", "_law_share", "_law_strikes", "_law_one"]:List Str).Nodup:=by decide +kernel
abbrev ny (P:Program) (w:World) (K:PySem.W.Frag) (mg:Str->Option Value) (base:Heap):Prop:=bg P w K mg base "_law_web" j0 3 eU
theorem zK (D:Df K mg "_law_web" j0 nv) (T:Txt K mg) (J30:cY P w K mg base) (J31:oC P w K mg base):ny P w K mg base:=
 bg.eq (Df.has (k:=2) D eZ (fun f cdv A outer s H E hr=>
  ax (jJ (bu (ab (f9 J31 aW hr (ab (dv 0) (ab (dv 1) (ah)))) (ab (cI (bf hr) (jL 8 (d:=.list [.int 1,.int 2,.int 3,.int 5]) (Lit.of (by kernel_rfl)) (by decide +kernel)) (f9 J30 aW hr (ab (dv 0) (ab (aI) (ah)))) (fun _ _=>rfl)) (ab (jL 8 (d:=.list []) (Lit.of (by kernel_rfl)) (by decide +kernel)) (ah))))) (jc rfl (bw (dg 2 eZ.nd) (bw (dg 3 eZ.nd) (bw (dg 4 eZ.nd) (fW)))) (aU (aU (aU (dz))))))
  (ax (m8 rfl (dM (dv 2)) (dg 5 eZ.nd) (aF (gU 4 eZ.nd (b0 iG (dv 4) (fi ["_law_other"] (by rfl) rfl (dM (dv 2)) (fun _ _ _ _ _=>dg 0 uF) (fun _ _ _ _ _=>gS (cO (JN hr) (f9 J30 bM hr (ab (dv 1) (ab (aI) (ah)))) (dv 4) (by rfl))) (fun _ _ _ _ _=>bu (ab (dv 6) (ab (dv 0) (ah)))))))))
  (aF (bc (bu (ab (dv 2) (ab (iu (eN rfl) T.n_tuple cn (ab (dv 4) (ah))) (ah))))))))) (by kernel_rfl)
abbrev eE:Stmt:=top 33
abbrev cS:List Str:=[]
theorem kY:aO [] cS (aE eE):=nF
abbrev eF (P:Program) (w:World) (K:PySem.W.Frag) (mg:Str->Option Value) (base:Heap):Prop:=bg P w K mg base "_law_kernel_kinds" cS 1 bQ
theorem mw (D:Df K mg "_law_kernel_kinds" cS eE) (T:Txt K mg):eF P w K mg base:=
 bg.eq (Df.has (k:=0) D kY (fun f cdv A outer s H E hr=>
  aF (bc (jL 8 (d:=.list [.str "stable",.str "standing",.str "preferred",.str "whole",.str "grounded"]) (Lit.of (by kernel_rfl)) (by decide +kernel))))) (by kernel_rfl)
abbrev hZ:Stmt:=top 34
abbrev fz:List Str:=["_law_web_here", "_law_kind", "_law_one", "_law_other"]
theorem kg:aO ["_law_web_here", "_law_kind", "_law_one", "_law_other", "_law_mine", "_law_its", "_law_back"] fz (aE hZ):=nF
abbrev ia (P:Program) (w:World) (K:PySem.W.Frag) (mg:Str->Option Value) (base:Heap):Prop:=bg P w K mg base "_law_is_idle" fz 1 cb
theorem tI (D:Df K mg "_law_is_idle" fz hZ) (T:Txt K mg):ia P w K mg base:=
 bg.eq (Df.has (k:=0) D kg (fun f cdv A outer s H E hr=>
  ax (LH 4 5 6 kg.nd (ab (dB (ng hr) (bu (ab (dv 2) (ab (dv 2) (ah)))) (cI (bf hr) (dv 0) (aI) (fun _ _=>rfl)) (by rfl)) (ab (dB (ng hr) (bu (ab (dv 3) (ab (dv 3) (ah)))) (cI (bf hr) (dv 0) (aI) (fun _ _=>rfl)) (by rfl)) (ab (dB (ng hr) (bu (ab (dv 3) (ab (dv 2) (ah)))) (cI (bf hr) (dv 0) (aI) (fun _ _=>rfl)) (by rfl)) (ah)))))
  (aF (bc (J2 hr (GI (sN dJ (dv 4) (sN dJ (fZ (dv 4) (fh (dv 5))) (sN dJ (fZ (dv 5) (fh (wF (dv 4) (fh (dv 6))))) (GH))))) (dv 1) (fZ (dv 4) (fh (wF (dv 6) (fh (dv 5))))) ⟨rfl,rfl,rfl,rfl⟩))))) (by kernel_rfl)
abbrev jh:Stmt:=top 35
abbrev gg:List Str:=["_law_web_here", "_law_kind"]
theorem fA:aO ["_law_web_here", "_law_kind", "_law_kept", "_law_one", "_law_other"] gg (aE jh):=nF
abbrev ji (P:Program) (w:World) (K:PySem.W.Frag) (mg:Str->Option Value) (base:Heap):Prop:=bg P w K mg base "_law_kernel" gg 2 bK
theorem uG (D:Df K mg "_law_kernel" gg jh) (T:Txt K mg) (J34:ia P w K mg base):ji P w K mg base:=
 bg.eq ((Df.has (k:=1) D fA (fun f cdv A outer s H E hr=>
  ax (gU 2 fA.nd (m7 (ah)))
  (ax (m8 rfl (dM (cI (bf hr) (dv 0) (aI) (fun _ _=>rfl))) (jc rfl (bw (dg 3 fA.nd) (bw (dg 4 fA.nd) (fW))) (aU (aU (dz)))) (aF (gJ (DW.dt (u0 (cO (xG hr) (dv 3) (dv 4) (by rfl)) (pf (jI (eL (f9 J34 bM hr (ab (dv 0) (ab (dv 1) (ab (dv 3) (ab (dv 4) (ah))))))))))) (aF (fV (pC (dv 2) (bu (ab (dv 3) (ab (dv 4) (ah))))))) (cZ))))
  (aF (bc (bu (ab (cI (bf hr) (dv 0) (aI) (fun _ _=>rfl)) (ab (iu (eN rfl) T.n_tuple cn (ab (dv 2) (ah))) (ah))))))))).gq) (by kernel_rfl)
abbrev gG:Stmt:=top 36
abbrev eQ:List Str:=["_law_pen_here", "_law_web_here"]
theorem bG:aO ["_law_pen_here", "_law_web_here", "_law_names_here", "_law_strikes", "_law_lap", "_law_two_here"] eQ (aE gG):=nF
theorem nA:(["_law_one", "_law_pen_here", "_law_web_here", "_law_names_here", "_law_strikes", "_law_lap", "_law_two_here"]:List Str).Nodup:=by decide +kernel
abbrev kh (P:Program) (w:World) (K:PySem.W.Frag) (mg:Str->Option Value) (base:Heap):Prop:=bg P w K mg base "_law_near_web" eQ 2 du
theorem qJ (D:Df K mg "_law_near_web" eQ gG) (T:Txt K mg) (J30:cY P w K mg base):kh P w K mg base:=
 bg.eq (Df.has (k:=1) D bG (fun f cdv A outer s H E hr=>
  ax (jJ (dv 1) (jc rfl (bw (dg 2 bG.nd) (bw (dg 3 bG.nd) (fW))) (aU (aU (dz)))))
  (ax (m8 rfl (qQ (by rfl) T.n_range (ab (b0 iG (aI) (f9 J30 bM hr (ab (dv 0) (ab (aI) (ah))))) (ah))) (dg 4 bG.nd) (aF (gJ (cO (xH hr) (dv 2) (jL 8 (d:=.tuple []) (Lit.of (by kernel_rfl)) (by decide +kernel)) (by rfl)) (ax (gU 5 bG.nd (bu (ab (cI (bf hr) (dv 2) (f9 J30 bM hr (ab (dv 0) (ab (qT mG T.n_len i9 (ab (dv 2) (ah))) (ah)))) (fun _ _=>rfl)) (ab (cI (bf hr) (dv 2) (f9 J30 bM hr (ab (dv 0) (ab (qT mG T.n_len i9 (ab (dv 2) (ah))) (ah)))) (fun _ _=>rfl)) (ah)))))
  (aF (gJ (cO (ng hr) (dv 5) (dv 3) (by rfl)) (aF (gU 3 bG.nd (iu (eN rfl) T.n_tuple cn (ab (fi ["_law_one"] (by rfl) rfl (dM (dv 3)) (fun _ _ _ _ _=>dg 0 nA) (fun _ _ _ _ _=>gS (cO (xH hr) (dv 0) (dv 6) (by rfl))) (fun _ _ _ _ _=>dv 0)) (ah))))) (aF (gU 3 bG.nd (iu (eN rfl) T.n_tuple cn (ab (qT (GJ hr) T.n_sorted lH (ab (b0 iG (dv 3) (bu (ab (dv 5) (ah)))) (ah))) (ah)))))))) (cZ))))
  (ax (gJ (cO (xG hr) (f9 J30 aW hr (ab (dv 0) (ab (aI) (ah)))) (aI) (by rfl)) (aF (gU 2 bG.nd (iu (eN rfl) T.n_tuple cn (ab (nk rfl hr T.n_sorted T.n_set (b0 iG (dv 2) (jL 8 (d:=.tuple [.str "q"]) (Lit.of (by kernel_rfl)) (by decide +kernel)))) (ah))))) (cZ))
  (aF (bc (bu (ab (dv 2) (ab (dv 3) (ah)))))))))) (by kernel_rfl)
abbrev ib:Stmt:=top 37
abbrev fB:List Str:=["_law_web_here", "_law_kind"]
theorem eR:aO ["_law_web_here", "_law_kind", "_law_more", "_law_one"] fB (aE ib):=nF
theorem oE:(["_law_other", "_law_web_here", "_law_kind", "_law_more", "_law_one"]:List Str).Nodup:=by decide +kernel
abbrev kZ (P:Program) (w:World) (K:PySem.W.Frag) (mg:Str->Option Value) (base:Heap):Prop:=bg P w K mg base "_law_fullest" fB 2 fm
theorem tJ (D:Df K mg "_law_fullest" fB ib) (T:Txt K mg) (J34:ia P w K mg base):kZ P w K mg base:=
 bg.eq (Df.has (k:=1) D eR (fun f cdv A outer s H E hr=>
  ax (gU 2 eR.nd (jL 8 (d:=.list []) (Lit.of (by kernel_rfl)) (by decide +kernel)))
  (ax (m8 rfl (dM (cI (bf hr) (dv 0) (aI) (fun _ _=>rfl))) (dg 3 eR.nd) (aF (gU 2 eR.nd (b0 iG (dv 2) (fi ["_law_other"] (by rfl) rfl (dM (cI (bf hr) (dv 0) (aI) (fun _ _=>rfl))) (fun _ _ _ _ _=>dg 0 oE) (fun _ _ _ _ _=>gS (DW.dt (JB (cO (xH hr) (dv 4) (dv 0) (by rfl)) (Gi (eL (f9 J34 bM hr (ab (dv 1) (ab (dv 2) (ab (dv 4) (ab (dv 0) (ah))))))))))) (fun _ _ _ _ _=>bu (ab (dv 4) (ab (dv 0) (ah)))))))))
  (aF (bc (bu (ab (cI (bf hr) (dv 0) (aI) (fun _ _=>rfl)) (ab (iu (eN rfl) T.n_tuple cn (ab (nk rfl hr T.n_sorted T.n_set (b0 iG (iu A1 T.n_list Ay (ab (cI (bf hr) (dv 0) (aI) (fun _ _=>rfl)) (ah))) (dv 2))) (ah))) (ah))))))))) (by kernel_rfl)
abbrev jj:Stmt:=top 39
abbrev gh:List Str:=["_law_strikes", "_law_changes"]
theorem lg:aO ["_law_strikes", "_law_changes", "_law_left"] gh (aE jj):=nF
theorem jz:(["_law_one", "_law_strikes", "_law_changes", "_law_left"]:List Str).Nodup:=by decide +kernel
abbrev mN (P:Program) (w:World) (K:PySem.W.Frag) (mg:Str->Option Value) (base:Heap):Prop:=bg P w K mg base "_law_turned" gh 1 f7
theorem uH (D:Df K mg "_law_turned" gh jj) (T:Txt K mg):mN P w K mg base:=
 bg.eq (Df.has (k:=0) D lg (fun f cdv A outer s H E hr=>
  ax (gU 2 lg.nd (b0 iG (fi ["_law_one"] (by rfl) rfl (dM (dv 0)) (fun _ _ _ _ _=>dg 0 jz) (fun _ _ _ _ _=>gS (cO (D0 hr) (dv 0) (dv 2) (by rfl))) (fun _ _ _ _ _=>dv 0)) (fi ["_law_one"] (by rfl) rfl (dM (dv 1)) (fun _ _ _ _ _=>dg 0 jz) (fun _ _ _ _ _=>gS (cO (D0 hr) (dv 0) (dv 1) (by rfl))) (fun _ _ _ _ _=>dv 0))))
  (aF (bc (iu (eN rfl) T.n_tuple cn (ab (qT (sC hr) T.n_sorted lH (ab (dv 2) (ah))) (ah))))))) (by kernel_rfl)
abbrev lh:Stmt:=top 38
abbrev iX:List Str:=["_law_pen_here", "_law_web_here", "_law_far"]
theorem dY:aO ["_law_pen_here", "_law_web_here", "_law_far", "_law_names_here", "_law_strikes", "_law_again", "_law_two_here"] iX (aE lh):=nF
abbrev qv (P:Program) (w:World) (K:PySem.W.Frag) (mg:Str->Option Value) (base:Heap):Prop:=bg P w K mg base "_law_mate" iX 2 dN
theorem yD (D:Df K mg "_law_mate" iX lh) (T:Txt K mg) (J30:cY P w K mg base) (J39:mN P w K mg base):qv P w K mg base:=
 bg.eq (Df.has (k:=1) D dY (fun f cdv A outer s H E hr=>
  ax (jJ (dv 1) (jc rfl (bw (dg 3 dY.nd) (bw (dg 4 dY.nd) (fW))) (aU (aU (dz)))))
  (ax (m8 rfl (qQ (by rfl) T.n_range (ab (b0 xK (f9 J30 bM hr (ab (dv 0) (ab (b0 iG (dv 2) (aI)) (ah)))) (iu HR T.n_int D5 (ab (dB (xH hr) (dv 3) (jL 8 (d:=.tuple []) (Lit.of (by kernel_rfl)) (by decide +kernel)) (by rfl)) (ah)))) (ah))) (dg 5 dY.nd) (ax (gU 6 dY.nd (bu (ab (cI (bf hr) (dv 3) (f9 J30 bM hr (ab (dv 0) (ab (qT mG T.n_len i9 (ab (dv 3) (ah))) (ah)))) (fun _ _=>rfl)) (ab (cI (bf hr) (dv 3) (f9 J30 bM hr (ab (dv 0) (ab (qT mG T.n_len i9 (ab (dv 3) (ah))) (ah)))) (fun _ _=>rfl)) (ah)))))
  (aF (gU 4 dY.nd (f9 J39 bM hr (ab (dv 4) (ab (bu (ab (dv 6) (ah))) (ah))))))))
  (aF (bc (bu (ab (dv 3) (ab (dv 4) (ah))))))))) (by kernel_rfl)
abbrev jk:Stmt:=top 41
abbrev gj:List Str:=["_law_pen_here", "_law_web_here"]
theorem lj:aO ["_law_pen_here", "_law_web_here", "_law_more"] gj (aE jk):=nF
theorem pQ:(["_law_name", "_law_pen_here", "_law_web_here", "_law_more"]:List Str).Nodup:=by decide +kernel
abbrev jl (P:Program) (w:World) (K:PySem.W.Frag) (mg:Str->Option Value) (base:Heap):Prop:=bg P w K mg base "_law_selves" gj 2 bX
theorem uI (D:Df K mg "_law_selves" gj jk) (T:Txt K mg) (J30:cY P w K mg base):jl P w K mg base:=
 bg.eq (Df.has (k:=1) D lj (fun f cdv A outer s H E hr=>
  ax (wq (i:=2) ["_law_name"] lj.nd rfl rfl (by rfl) rfl (dM (cI (bf hr) (dv 1) (aI) (fun _ _=>rfl))) (fun _ _ _ _ _=>dg 0 pQ) (fun _ _ _ _ _=>gS (cO (xG hr) (f9 J30 bM hr (ab (dv 1) (ab (aI) (ah)))) (aI) (by rfl))) (fun _ _ _ _ _=>bu (ab (dv 0) (ab (dv 0) (ah)))))
  (aF (bc (bu (ab (cI (bf hr) (dv 1) (aI) (fun _ _=>rfl)) (ab (iu (eN rfl) T.n_tuple cn (ab (nk rfl hr T.n_sorted T.n_set (b0 iG (iu A1 T.n_list Ay (ab (cI (bf hr) (dv 1) (aI) (fun _ _=>rfl)) (ah))) (dv 2))) (ah))) (ah)))))))) (by kernel_rfl)
abbrev nB:Stmt:=top 40
abbrev j3:List Str:=["_law_pen_here", "_law_most"]
theorem iY:aO ["_law_pen_here", "_law_most", "_law_one", "_law_kind", "_law_some"] j3 (aE nB):=nF
abbrev tK (P:Program) (w:World) (K:PySem.W.Frag) (mg:Str->Option Value) (base:Heap):Prop:=bg P w K mg base "_law_two" j3 4 jS
theorem zL (D:Df K mg "_law_two" j3 nB) (T:Txt K mg) (J30:cY P w K mg base) (J41:jl P w K mg base) (J37:kZ P w K mg base) (J35:ji P w K mg base) (J38:qv P w K mg base) (J33:eF P w K mg base) (J32:ny P w K mg base):tK P w K mg base:=
 bg.eq ((Df.has (k:=3) D iY (fun f cdv A outer s H E hr=>
  ax (gU 2 iY.nd (f9 J41 aW hr (ab (dv 0) (ab (f9 J32 aW hr (ab (dv 0) (ab (dv 1) (ah)))) (ah)))))
  (ax (gU 3 iY.nd (cI (bf hr) (DH J33 aW (hr.mono (by omega)) (by rfl)) (f9 J30 aW hr (ab (dv 0) (ab (aI) (ah)))) (fun _ _=>rfl)))
  (ax (gU 4 iY.nd (m7 (ab (f9 J38 aW hr (ab (dv 0) (ab (dv 2) (ab (aI) (ah))))) (ab (f9 J38 aW hr (ab (dv 0) (ab (dv 2) (ab (aI) (ah))))) (ab (f9 J35 aW hr (ab (dv 2) (ab (dv 3) (ah)))) (ab (f9 J37 aW hr (ab (dv 2) (ab (dv 3) (ah)))) (ah)))))))
  (ax (fV (pC (dv 4) (bu (ab (cI (bf hr) (dv 2) (aI) (fun _ _=>rfl)) (ab (cI (bf hr) (f9 J41 aW hr (ab (dv 0) (ab (bu (ab (cI (bf hr) (dv 2) (aI) (fun _ _=>rfl)) (ab (jL 8 (d:=.tuple []) (Lit.of (by kernel_rfl)) (by decide +kernel)) (ah)))) (ah)))) (aI) (fun _ _=>rfl)) (ah))))))
  (aF (bc (bu (ab (dv 2) (ab (cI (bf hr) (dv 4) (f9 J30 aW hr (ab (dv 0) (ab (aI) (ah)))) (fun _ _=>rfl)) (ah))))))))))).gq) (by kernel_rfl)
abbrev oF:Stmt:=top 42
abbrev LQ:List Str:=["_law_script"]
theorem ic:aO ["_law_script", "_law_cell_here", "_law_pen_here", "_law_lap", "_law_one", "_law_other", "_law_some", "_law_stood", "_law_far", "_law_due", "_law_found"] LQ (aE oF):=nF
theorem ED:(["_law_kind", "_law_script", "_law_cell_here", "_law_pen_here", "_law_lap", "_law_one", "_law_other", "_law_some", "_law_stood", "_law_far", "_law_due", "_law_found"]:List Str).Nodup:=by decide +kernel
theorem Kb {f:Addr} {fd:FuncData} (Fu:HG K "law" "law" oF f fd) (T:Txt K mg) (J28:qt P w K mg base) (J26:mL P w K mg base) (J33:eF P w K mg base) (J35:ji P w K mg base) (J30:cY P w K mg base) (J41:jl P w K mg base) (J32:ny P w K mg base) (J36:kh P w K mg base) (J40:tK P w K mg base) (J29:tH P w K mg base):jn P w K mg base (tZ P w) 8 f fd ["_law_script"] (Ft ⟨P,w,mg,K⟩ Bb):=
 JV (Oy (k:=7) Fu ic (fun cdv A outer s H E hr=>
  ax (m8 rfl (dM (b0 iG (zm (ab (f9 J28 bM hr (ab (dv 0) (ab (aI) (ah)))) (ah))) (Cg (dv 0) (wA (aI)) (wA (aI))))) (dg 1 ic.nd) (ax (gU 2 ic.nd (f9 J29 bM hr (ab (dv 1) (ah))))
  (aF (m8 rfl (qQ (by rfl) T.n_range (ab (aI) (ah))) (dg 3 ic.nd) (ax (jJ (f9 J40 bM hr (ab (dv 2) (ab (aI) (ah)))) (jc rfl (bw (dg 4 ic.nd) (bw (dg 5 ic.nd) (fW))) (aU (aU (dz)))))
  (ax (gU 6 ic.nd (m7 (ab (dv 5) (ab (f9 J36 bM hr (ab (dv 2) (ab (dv 4) (ah)))) (ah)))))
  (ax (gJ (cO (xG hr) (f9 J30 bM hr (ab (dv 2) (ab (aI) (ah)))) (aI) (by rfl)) (aF (fV (pC (dv 6) (f9 J41 bM hr (ab (dv 2) (ab (f9 J32 bM hr (ab (dv 2) (ab (aI) (ah)))) (ah))))))) (cZ))
  (ax (gU 7 ic.nd (qT (wB hr) T.n_repr qO (ab (m7 (ab (dv 4) (ab (dv 6) (ah)))) (ah))))
  (ax (GK rfl (dv 6) (dg 8 ic.nd) (ax (wq (i:=9) ["_law_kind"] ic.nd rfl rfl (by rfl) rfl (dM (qT (sC hr) T.n_sorted lH (ab (DH J33 bM (hr.mono (by omega)) (by rfl)) (ah)))) (fun _ _ _ _ _=>dg 0 ED) (fun _ _ _ _ _=>gS (cO (xG hr) (f9 J35 bM hr (ab (dv 5) (ab (dv 0) (ah)))) (f9 J35 bM hr (ab (dv 9) (ab (dv 0) (ah)))) (by rfl))) (fun _ _ _ _ _=>dv 0))
  (ax (gU 10 ic.nd (zm (ab (f9 J26 bM hr (ab (dv 4) (ab (dv 8) (ah)))) (ab (f9 J26 bM hr (ab (dv 8) (ab (dv 4) (ah)))) (ab (f9 J26 bM hr (ab (dv 4) (ab (dv 8) (ah)))) (ah))))))
  (aF (gJ (cO (xH hr) (qT (wB hr) T.n_repr qO (ab (dv 10) (ah))) (qT (wB hr) T.n_repr qO (ab (b0 xK (zm (ab (iu (eN rfl) T.n_tuple cn (ab (dv 9) (ah))) (ah))) (aI)) (ah))) (by rfl)) (aF (bc (gQ))) (cZ))))))
  (aF (gJ (cO (xH hr) (qT (wB hr) T.n_repr qO (ab (m7 (ab (dv 4) (ab (dv 6) (ah)))) (ah))) (dv 7) (by rfl)) (aF (bc (gQ))) (cZ))))))))))))
  (aF (bc (gQ))))) (by kernel_rfl)
end
end K22
namespace Ml
open PySem
@[simp] theorem NK (i:Nat) (ρ:Fm) (h:Hm):ae i ρ h=(match ρ[i]? with
 | some (some d)=>.ok d h
 | _=>.bad):=rfl
@[simp] theorem NL (d:PyData) (z0:Fm) (h:Hm):aj d z0 h=(.ok (.dat d) h):=rfl
@[simp] theorem OB (n:Str) (z0:Fm) (h:Hm):OY n z0 h=(.ok (.fn n) h):=rfl
@[simp] theorem NM  (z0:Fm) (h:Hm):ag  z0 h=(.ok [] h):=rfl
@[simp] theorem Mo (e:ME) (a:MA) (ρ:Fm) (h:Hm):aa e a ρ h=((e ρ h).bind fun x h1=>(a ρ h1).bind fun xs h2=>.ok (x::xs) h2):=rfl
@[simp] theorem NO (f:D->D->Hm->R D) (a b:ME) (ρ:Fm) (h:Hm):aq f a b ρ h=((a ρ h).bind fun x h1=>(b ρ h1).bind fun y h2=>f x y h2):=rfl
@[simp] theorem OC (f:D->Hm->R D) (a:ME) (ρ:Fm) (h:Hm):HL f a ρ h=((a ρ h).bind fun x h1=>f x h1):=rfl
@[simp] theorem Mp (f:Fn) (a:MA) (ρ:Fm) (h:Hm):af f a ρ h=((a ρ h).bind fun xs h1=>f xs h1):=rfl
@[simp] theorem Mq (e:ME) (ρ:Fm) (h:Hm):aN e ρ h=((e ρ h).bind fun x h1=>match x with
 | .dat (.bool b)=>.ok b h1
 | _=>.bad):=rfl
@[simp] theorem NP (t:MT) (ρ:Fm) (h:Hm):ki t ρ h=((t ρ h).bind fun b h1=>.ok (!b) h1):=rfl
@[simp] theorem NQ (t u:MT) (ρ:Fm) (h:Hm):vR t u ρ h=((t ρ h).bind fun b h1=>if b then u ρ h1 else .ok false h1):=rfl
@[simp] theorem OD (t u:MT) (ρ:Fm) (h:Hm):yT t u ρ h=((t ρ h).bind fun b h1=>if b then .ok true h1 else u ρ h1):=rfl
@[simp] theorem NR (a b:ME) (ρ:Fm) (h:Hm):Ny a b ρ h=((aN a ρ h).bind fun c h1=>if c then b ρ h1 else .ok (.bool false) h1):=rfl
@[simp] theorem OE (a b:ME) (ρ:Fm) (h:Hm):OZ a b ρ h=((aN a ρ h).bind fun c h1=>if c then .ok (.bool true) h1 else b ρ h1):=rfl
@[simp] theorem NS (a:ME) (ρ:Fm) (h:Hm):Nz a ρ h=((aN a ρ h).bind fun c h1=>.ok (.bool !c) h1):=rfl
@[simp] theorem OF (t:MT) (a b:ME) (ρ:Fm) (h:Hm):O0 t a b ρ h=((t ρ h).bind fun c h1=>if c then a ρ h1 else b ρ h1):=rfl
@[simp] theorem NT (a:MA):bL a=(af j8 a:ME):=rfl
@[simp] theorem NU (a:MA):uo a=(af gH a:ME):=rfl
@[simp] theorem NV (a:MA):jG a=(af AD a:ME):=rfl
@[simp] theorem Mr  (ρ:Fm) (h:Hm):dI  ρ h=(.ok (.nx ρ) h):=rfl
@[simp] theorem NW (a b:MS) (ρ:Fm) (h:Hm):bh a b ρ h=((a ρ h).bind fun f h1=>match f with
 | .nx ρ1=>b ρ1 h1
 | f=>.ok f h1):=rfl
@[simp] theorem NX (i:Nat) (e:ME) (ρ:Fm) (h:Hm):bT i e ρ h=((e ρ h).bind fun x h1=>.ok (.nx (ρ.set i (some x))) h1):=rfl
@[simp] theorem Ms (e:ME) (ρ:Fm) (h:Hm):gp e ρ h=((e ρ h).bind fun _ h1=>.ok (.nx ρ) h1):=rfl
@[simp] theorem NY (e:ME) (ρ:Fm) (h:Hm):cG e ρ h=((e ρ h).bind fun x h1=>.ok (.rt x) h1):=rfl
@[simp] theorem OG (t:MT) (a b:MS) (ρ:Fm) (h:Hm):mW t a b ρ h=((t ρ h).bind fun c h1=>if c then a ρ h1 else b ρ h1):=rfl
@[simp] theorem LR  (ρ:Fm) (h:Hm):Jw  ρ h=(.ok (.bk ρ) h):=rfl
@[simp] theorem Mt  (ρ:Fm) (h:Hm):Lu  ρ h=(.ok (.ct ρ) h):=rfl
@[simp] theorem Mu (i:Nat) (x:D) (ρ:Fm) (h:Hm):aB i x ρ h=(.ok (ρ.set i (some x)) h):=rfl
@[simp] theorem NZ  (xs:List D) (ρ:Fm) (h:Hm):ip  xs ρ h=(match xs with
 | []=>.ok ρ h
 | _=>.bad):=rfl
@[simp] theorem Mv (g:MG) (gs:AE) (xs:List D) (ρ:Fm) (h:Hm):bR g gs xs ρ h=(match xs with
 | []=>.bad
 | x::xs=>(g x ρ h).bind fun ρ1 h1=>gs xs ρ1 h1):=rfl
@[simp] theorem N0 (gs:AE) (x:D) (ρ:Fm) (h:Hm):iq gs x ρ h=(match x with
 | .dat (.tuple ds)=>gs (ds.map D.dat) ρ h
 | _=>.bad):=rfl
@[simp] theorem N3 (g:MG) (e:ME) (ρ:Fm) (h:Hm):kC g e ρ h=((e ρ h).bind fun x h1=>(g x ρ h1).bind fun ρ1 h2=>.ok (.nx ρ1) h2):=rfl
@[simp] theorem N4 (is:List Nat) (a:MA) (ρ:Fm) (h:Hm):Dq is a ρ h=((a ρ h).bind fun xs h1=>match kD is xs ρ with
 | some ρ1=>.ok (.nx ρ1) h1
 | Option.none=>.bad):=rfl
@[simp] theorem Mw (e:ME) (ρ:Fm) (h:Hm):AF e ρ h=((e ρ h).bind fun x h1=>match x with
 | .dat (.tuple ds)=>.ok (ds.map D.dat) h1
 | _=>.bad):=rfl
@[simp] theorem Mx (e:ME) (ρ:Fm) (h:Hm):Dr e ρ h=((e ρ h).bind fun x h1=>match x with
 | .dat (.list ds)=>.ok (ds.map D.dat) h1
 | _=>.bad):=rfl
@[simp] theorem My (e:ME) (ρ:Fm) (h:Hm):Ds e ρ h=((e ρ h).bind fun x h1=>match x with
 | .dat (.str s)=>.ok (signs s) h1
 | _=>.bad):=rfl
@[simp] theorem Mz (e:ME) (ρ:Fm) (h:Hm):bb e ρ h=(match e ρ h with
 | .ok (.dat (.tuple ds)) h1=>.ok (ds.map D.dat) h1
 | .ok (.dat (.list ds)) h1=>.ok (ds.map D.dat) h1
 | .ok (.dat (.str s)) h1=>.ok (signs s) h1
 | .ok (.ktup ds) h1=>.ok (ds.map D.dat) h1
 | .exc x h1=>.exc x h1
 | _=>.bad):=rfl
@[simp] theorem MB (a:MA) (ρ:Fm) (h:Hm):jt a ρ h=((a ρ h).bind fun xs h1=>match xs with
 | [.dat (.int j)]=>if -(2 ^ 62)<=j/\j < 2 ^ 62 then .ok (nums 0 j.toNat) h1 else .bad
 | _=>.bad):=rfl
@[simp] theorem LS (a:MA) (ρ:Fm) (h:Hm):Jx a ρ h=((a ρ h).bind fun xs h1=>match xs with
 | [.dat (.int i),.dat (.int j)]=>if -(2 ^ 62)<=i/\i < 2 ^ 62/\-(2 ^ 62)<=j/\j < 2 ^ 62 then .ok (nums i (j - i).toNat) h1 else .bad
 | _=>.bad):=rfl
@[simp] theorem MC (a:MA) (ρ:Fm) (h:Hm):AG a ρ h=((a ρ h).bind fun xs h1=>match xs with
 | [.dat (.tuple ds),.dat (.tuple es)]=>.ok (mj ds es) h1
 | _=>.bad):=rfl
@[simp] theorem N5 (it:MA) (g:MG) (b:MS) (ρ:Fm) (h:Hm):qE it g b ρ h=((it ρ h).xg.bind fun xs h1=>cV g b xs ρ h1):=rfl
@[simp] theorem MD  (z0:Fm) (h:Hm):fH  z0 h=(.ok true h):=rfl
@[simp] theorem MF (p n:Nat) (b:MS) (xs:List D) (h:Hm):bE p n b xs h=(if xs.length=p then (b (xs.map some++List.replicate (n - p) none) h).bind rN else .bad):=rfl
@[simp] theorem MH (x:D) (h:Hm):truth x h=(match x with
 | .dat .none=>some false
 | .dat (.bool b)=>some b
 | .dat (.int i)=>some (i != 0)
 | .dat (.str s)=>if mi s.length then some ((s.length:Int) != 0) else Option.none
 | .dat (.tuple ds)=>some !ds.isEmpty
 | .dat (.list ds)=>some !ds.isEmpty
 | .ref i=>match h[i]? with
  | some (.lst xs)=>some !xs.isEmpty
  | _=>Option.none
 | _=>Option.none:Option Bool):=rfl
@[simp] theorem LU (e:ME) (ρ:Fm) (h:Hm):cM e ρ h=((e ρ h).bind fun x h1=>match truth x h1 with
 | some b=>.ok b h1
 | Option.none=>.bad):=rfl
@[simp] theorem N6 (a b:ME) (ρ:Fm) (h:Hm):Cf a b ρ h=((a ρ h).bind fun x h1=>match truth x h1 with
 | some c=>if c then .ok x h1 else b ρ h1
 | none=>.bad):=rfl
@[simp] theorem MI (a b:ME) (ρ:Fm) (h:Hm):kb a b ρ h=((a ρ h).bind fun x h1=>match truth x h1 with
 | some c=>if c then b ρ h1 else .ok x h1
 | none=>.bad):=rfl
@[simp] theorem LV (f g:D->D->Hm->R D) (a b c:ME) (ρ:Fm) (h:Hm):nh f g a b c ρ h=((a ρ h).bind fun x h1=>(b ρ h1).bind fun y h2=>(f x y h2).bind fun z h3=>match z with
 | .dat (.bool k)=>if k then (c ρ h3).bind fun w h4=>g y w h4 else .ok (.bool false) h3
 | _=>.bad):=rfl
@[simp] theorem OH (e:ME) (lo hi:Fs) (ρ:Fm) (h:Hm):Mk e lo hi ρ h=((e ρ h).bind fun x h1=>(lo ρ h1).bind fun l h2=>(hi ρ h2).bind fun u h3=>Lw x l u h3):=rfl
@[simp] theorem MJ  (z0:Fm) (h:Hm):AI  z0 h=(.ok Option.none h):=rfl
@[simp] theorem MK (e:ME) (ρ:Fm) (h:Hm):mD e ρ h=((e ρ h).bind fun x h1=>match x with
 | .dat (.int i)=>.ok (some i) h1
 | _=>.bad):=rfl
@[simp] theorem OI (x:D) (lo hi:Option Int) (h:Hm):Lw x lo hi h=(match x with
 | .dat (.tuple ds)=>.ok (.dat (.tuple (cut ds lo hi))) h
 | .dat (.list ds)=>.ok (.dat (.list (cut ds lo hi))) h
 | _=>.bad:R D):=rfl
@[simp] theorem N7 (f:PyData->Bool) (x:D) (h:Hm):xy f x h=(match x with
 | .dat d=>.ok (.bool (f d)) h
 | _=>.bad):=rfl
@[simp] theorem N8 (x y:D) (h:Hm):Dt x y h=(match x,y with
 | .dat (.int i),.dat (.int j)=>.ok (.int (i - j)) h
 | _,_=>.bad:R D):=rfl
@[simp] theorem OJ (x y:D) (h:Hm):Mj x y h=(match x,y with
 | .dat (.int i),.dat (.int j)=>.ok (.bool (decide (j < i))) h
 | _,_=>.bad:R D):=rfl
@[simp] theorem OL (x y:D) (h:Hm):Lv x y h=(match x,y with
 | .dat (.int i),.dat (.int j)=>.ok (.bool (decide (j<=i))) h
 | _,_=>.bad:R D):=rfl
@[simp] theorem N9 (x:D) (h:Hm):NA x h=(match x with
 | .dat (.int i)=>.ok (.int (-i)) h
 | _=>.bad:R D):=rfl
@[simp] theorem KN (ρ:Fm):kD [] [] ρ=some ρ:=rfl
@[simp] theorem KO (i:Nat) (is:List Nat) (x:D) (xs:List D) (ρ:Fm):kD (i::is) (x::xs) ρ=kD is xs (ρ.set i (some x)):=rfl
@[simp] theorem KP (i:Nat) (is:List Nat) (ρ:Fm):kD (i::is) [] ρ=none:=rfl
@[simp] theorem KQ (x:D) (xs:List D) (ρ:Fm):kD [] (x::xs) ρ=none:=rfl
@[simp] theorem ML (d:D) (h:Hm):rN (.rt d) h=.ok d h:=rfl
@[simp] theorem MM (ρ:Fm) (h:Hm):rN (.nx ρ) h=.ok D.none h:=rfl
@[simp] theorem MN (ρ:Fm) (h:Hm):rN (.bk ρ) h=.bad:=rfl
@[simp] theorem MP (ρ:Fm) (h:Hm):rN (.ct ρ) h=.bad:=rfl
@[simp] theorem GV  : isTup .none=false:=rfl
@[simp] theorem GW (b:Bool):isTup (.bool b)=false:=rfl
@[simp] theorem HW (i:Int):isTup (.int i)=false:=rfl
@[simp] theorem HX (s:Str):isTup (.str s)=false:=rfl
@[simp] theorem Fv (xs:List PyData):isTup (.tuple xs)=true:=rfl
@[simp] theorem GX (xs:List PyData):isTup (.list xs)=false:=rfl
@[simp] theorem GY (xs:List (PyData×PyData)):isTup (.dict xs)=false:=rfl
@[simp] theorem GZ  : isStr .none=false:=rfl
@[simp] theorem G0 (b:Bool):isStr (.bool b)=false:=rfl
@[simp] theorem HY (i:Int):isStr (.int i)=false:=rfl
@[simp] theorem HZ (s:Str):isStr (.str s)=true:=rfl
@[simp] theorem Fw (xs:List PyData):isStr (.tuple xs)=false:=rfl
@[simp] theorem G1 (xs:List PyData):isStr (.list xs)=false:=rfl
@[simp] theorem G2 (xs:List (PyData×PyData)):isStr (.dict xs)=false:=rfl
@[simp] theorem G3  : isInt .none=false:=rfl
@[simp] theorem G4 (b:Bool):isInt (.bool b)=true:=rfl
@[simp] theorem H0 (i:Int):isInt (.int i)=true:=rfl
@[simp] theorem Ia (s:Str):isInt (.str s)=false:=rfl
@[simp] theorem Fx (xs:List PyData):isInt (.tuple xs)=false:=rfl
@[simp] theorem G5 (xs:List PyData):isInt (.list xs)=false:=rfl
@[simp] theorem G6 (xs:List (PyData×PyData)):isInt (.dict xs)=false:=rfl
@[simp] theorem G7  : rP .none=false:=rfl
@[simp] theorem G8 (b:Bool):rP (.bool b)=true:=rfl
@[simp] theorem Ib (i:Int):rP (.int i)=false:=rfl
@[simp] theorem Ic (s:Str):rP (.str s)=false:=rfl
@[simp] theorem Fy (xs:List PyData):rP (.tuple xs)=false:=rfl
@[simp] theorem G9 (xs:List PyData):rP (.list xs)=false:=rfl
@[simp] theorem Ha (xs:List (PyData×PyData)):rP (.dict xs)=false:=rfl
@[simp] theorem rep0 {α:Type} (a:α):List.replicate 0 a=[]:=rfl
@[simp] theorem rep1 {α:Type} (a:α):List.replicate 1 a=[a]:=rfl
@[simp] theorem rep2 {α:Type} (a:α):List.replicate 2 a=[a,a]:=rfl
@[simp] theorem rep3 {α:Type} (a:α):List.replicate 3 a=[a,a,a]:=rfl
@[simp] theorem O9 {α:Type} (a:α):List.replicate 4 a=[a,a,a,a]:=rfl
@[simp] theorem Pa {α:Type} (a:α):List.replicate 5 a=[a,a,a,a,a]:=rfl
@[simp] theorem Pb {α:Type} (a:α):List.replicate 6 a=[a,a,a,a,a,a]:=rfl
@[simp] theorem Pd {α:Type} (a:α):List.replicate 7 a=[a,a,a,a,a,a,a]:=rfl
@[simp] theorem Pe {α:Type} (a:α):List.replicate 8 a=[a,a,a,a,a,a,a,a]:=rfl
@[simp] theorem Pf {α:Type} (a:α):List.replicate 9 a=[a,a,a,a,a,a,a,a,a]:=rfl
theorem sz {n:Nat} (h:n<=16777216):mi n=true:=PN h
@[simp] theorem lW (ds:List PyData) (h:Hm) (hz:ds.length<=16777216):j8 (ds.map D.dat) h=.ok (.dat (.tuple ds)) h:=by simp [j8,lJ,sz hz]
theorem fb (ds:List PyData) (h:Hm) (hz:ds.length<=16777216):gH (ds.map D.dat) h=.ok (.dat (.list ds)) h:=by simp [gH,lJ,sz hz]
@[simp] theorem Oa (h:Hm):j8 [] h=.ok (.dat (.tuple [])) h:=lW [] h (by decide)
@[simp] theorem EE (a:PyData) (h:Hm):j8 [.dat a] h=.ok (.dat (.tuple [a])) h:=lW [a] h (by simp)
@[simp] theorem Kc (a b:PyData) (h:Hm):j8 [.dat a,.dat b] h=.ok (.dat (.tuple [a,b])) h:=lW [a,b] h (by simp)
@[simp] theorem Ke (a b c:PyData) (h:Hm):j8 [.dat a,.dat b,.dat c] h=.ok (.dat (.tuple [a,b,c])) h:=lW [a,b,c] h (by simp)
@[simp] theorem Ob (h:Hm):gH [] h=.ok (.dat (.list [])) h:=fb [] h (by decide)
@[simp] theorem EF (a:PyData) (h:Hm):gH [.dat a] h=.ok (.dat (.list [a])) h:=fb [a] h (by simp)
@[simp] theorem Oc (a b:PyData) (h:Hm):gH [.dat a,.dat b] h=.ok (.dat (.list [a,b])) h:=fb [a,b] h (by simp)
@[simp] theorem Kf (a b c:PyData) (h:Hm):gH [.dat a,.dat b,.dat c] h=.ok (.dat (.list [a,b,c])) h:=fb [a,b,c] h (by simp)
theorem qw {n:Nat} {ρ:Fm} {g:MG} {t:MT} {e:ME} {h:Hm} (c:D->Bool) (f:D->D):∀ {xs:List D},(∀ x∈xs,∃ ρ1,g x (List.replicate n none++ρ) h=.ok ρ1 h/\t ρ1 h=.ok (c x) h/\(c x=true->e ρ1 h=.ok (f x) h))->eh n ρ g t e xs h=.ok ((xs.filter c).map f) h
 | [],_=>rfl
 | x::xs,H=>by
  obtain ⟨ρ1,h1,h2,h3⟩:=H x (PJ ..)
  have ih:=qw c f (xs:=xs) fun y hy=>H y (Pr _ hy)
  unfold eh
  rw [h1]
  simp only [R.bI,R.ay]
  rw [h2]
  simp only [R.bI,R.ay]
  cases hc:c x with
  | false=>simp only [PB,Qm,Td,hc];exact ih
  | true=>
   simp only [Qe,Td,hc]
   rw [h3 hc]
   simp only [R.bI,R.ay]
   rw [ih]
   rfl
theorem tL {n:Nat} {it:MA} {g:MG} {t:MT} {e:ME} {ρ:Fm} {h h1:Hm} {xs:List D} (hit:it ρ h=.ok xs h1) (hz:xs.length<=16777216) (c:D->Bool) (f:D->PyData)
  (H:∀ x∈xs,∃ ρ1,g x (List.replicate n none++ρ) h1=.ok ρ1 h1/\t ρ1 h1=.ok (c x) h1/\(c x=true->e ρ1 h1=.ok (.dat (f x)) h1)):cC n it g t e ρ h=.ok (.dat (.list ((xs.filter c).map f))) h1:=by
 unfold cC af mC
 rw [hit]
 simp only [R.ay,sz hz,Qe]
 rw [qw c (fun x=>.dat (f x)) H]
 simp only [R.ay]
 have e1:(List.map (fun x=>D.dat (f x)) (List.filter c xs))=((xs.filter c).map f).map D.dat:=by simp
 rw [e1]
 exact fb _ _ (by
  rw [PX]
  exact Pq (Q1 _ _) hz)
theorem lX {n:Nat} {it:MA} {g:MG} {e:ME} {ρ:Fm} {h h1:Hm} {ds:List PyData} (hit:it ρ h=.ok (ds.map D.dat) h1) (hz:ds.length<=16777216) (f:PyData->PyData)
  (H:∀ x∈ds,∃ ρ1,g (.dat x) (List.replicate n none++ρ) h1=.ok ρ1 h1/\e ρ1 h1=.ok (.dat (f x)) h1):cC n it g fH e ρ h=.ok (.dat (.list (ds.map f))) h1:=by
 have:=tL (n:=n) (t:=fH) (g:=g) (e:=e) hit (by simpa using hz) (fun _=>true) (fun x=>match x with | .dat d=>f d | _=>.none) (fun x hx=>by
  obtain ⟨d,hd,rfl⟩:=P8.mp hx
  obtain ⟨ρ1,a,b⟩:=H d hd
  exact ⟨ρ1,a,rfl,fun _=>b⟩)
 rw [this,show (fun _:D=>true)=fun _=>true from rfl,List.filter_eq_self.mpr (fun _ _=>rfl),Ts]
 rfl
theorem fT {n:Nat} {it:MA} {g:MG} {t:MT} {e:ME} {ρ:Fm} {h h1:Hm} {ds:List PyData} (hit:it ρ h=.ok (ds.map D.dat) h1) (hz:ds.length<=16777216) (c:PyData->Bool) (f:PyData->PyData)
  (H:∀ x∈ds,∃ ρ1,g (.dat x) (List.replicate n none++ρ) h1=.ok ρ1 h1/\t ρ1 h1=.ok (c x) h1/\(c x=true->e ρ1 h1=.ok (.dat (f x)) h1)):cC n it g t e ρ h=.ok (.dat (.list ((ds.filter c).map f))) h1:=by
 have:=tL (n:=n) (t:=t) (g:=g) (e:=e) hit (by simpa using hz) (fun x=>match x with | .dat d=>c d | _=>false) (fun x=>match x with | .dat d=>f d | _=>.none) (fun x hx=>by
  obtain ⟨d,hd,rfl⟩:=P8.mp hx
  obtain ⟨ρ1,a,b,k⟩:=H d hd
  exact ⟨ρ1,a,b,k⟩)
 rw [this]
 simp [List.filter_map,Function.comp_def]
theorem zM (bs:List Bool) (h:Hm):wj [.dat (.list (bs.map .bool))] h=.ok (.bool (bs.all id)) h:=by simp [wj,B6]
theorem j4 {n:Nat} {ρ:Fm} {g:MG} {t:MT} {e:ME} (I:Hm->Prop) (f:D->D->Prop):∀ {xs:List D} {h:Hm},(∀ x∈xs,∀ h,I h->∃ ρ1 h1 c h2,g x (List.replicate n none++ρ) h=.ok ρ1 h1/\t ρ1 h1=.ok c h2/\((c=false/\I h2)\/(c=true/\∃ y h3,e ρ1 h2=.ok y h3/\f x y/\I h3)))->I h ->
  ∃ ys zs h',eh n ρ g t e xs h=.ok ys h'/\I h'/\zs.Sublist xs/\PySem.Paired f zs ys
 | [],h,_,a=>⟨[],[],h,rfl,a,.slnil,.nil⟩
 | x::xs,h,H,a=>by
  obtain ⟨ρ1,h1,c,h2,e1,e2,k⟩:=H x (PJ ..) h a
  unfold eh
  rw [e1]
  simp only [R.bI,R.ay]
  rw [e2]
  simp only [R.bI,R.ay]
  rcases k with ⟨rfl,a2⟩ | ⟨rfl,y,h3,e3,fy,a3⟩
  ·obtain ⟨ys,zs,h',q1,q2,q3,q4⟩:=j4 I f (xs:=xs) (fun y hy=>H y (Pr _ hy)) a2
   exact ⟨ys,zs,h',by simpa using q1,q2,.cons _ q3,q4⟩
  ·obtain ⟨ys,zs,h',q1,q2,q3,q4⟩:=j4 I f (xs:=xs) (fun y hy=>H y (Pr _ hy)) a3
   refine ⟨y::ys,x::zs,h',?_,q2,.cons_cons _ q3,.cons fy q4⟩
   simp only [Qe]
   rw [e3]
   simp only [R.bI,R.ay]
   rw [q1]
   rfl
mutual
def jA:PyData->Bool
 | .none | .bool _=>true
 | .int i=>decide (i.natAbs < 10 ^ 30)
 | .str x=>PyData.strOk x
 | .tuple ds=>fK ds
 | .list ds=>fK ds
 | .dict _=>false
def fK:List PyData->Bool
 | []=>true
 | d::ds=>jA d && fK ds
end
theorem Cq {i:Int} (h:jA (.int i)=true):PyData.showable (.int i)=true/\PyData.intsShort 31 (.int i)=true:=by
 simp only [jA,Py] at h
 refine ⟨?_,?_⟩
 ·simp only [PyData.showable,Py]
  by_cases z:i.natAbs=0
  ·rw [z];decide
  ·rw [Nat.log2_lt z]
   exact Pt h (Pq (by decide:10 ^ 30<=2 ^ 100) (Nat.pow_le_pow_right (by decide) (by decide)))
 ·simp only [PyData.intsShort,Py]
  have e:=PySem.int_text_length_le10 (k:=30) (by decide) h
  show (Str.ofString (toString i)).length<=31
  rw [ofString_length];exact e
mutual
theorem lY:∀ {d:PyData},jA d=true->d.showable=true/\d.intsShort 31=true
 | .none,_=>by simp [PyData.showable,PyData.intsShort]
 | .bool _,_=>by simp [PyData.showable,PyData.intsShort]
 | .int _,h=>Cq h
 | .str x,h=>by simp [PyData.showable,PyData.intsShort]
 | .tuple ds,h=>by simp only [jA] at h;simp only [PyData.showable,PyData.intsShort];exact j5 h
 | .list ds,h=>by simp only [jA] at h;simp only [PyData.showable,PyData.intsShort];exact j5 h
 | .dict _,h=>by simp [jA] at h
theorem j5:∀ {ds:List PyData},fK ds=true->PyData.showableAll ds=true/\PyData.intsShortAll 31 ds=true
 | [],_=>by simp [PyData.showableAll,PyData.intsShortAll]
 | d::ds,h=>by
  simp only [fK,Pl] at h
  simp only [PyData.showableAll,PyData.intsShortAll,Pl]
  exact ⟨⟨(lY h.1).1,(j5 h.2).1⟩,(lY h.1).2,(j5 h.2).2⟩
end
mutual
theorem tM:∀ {d:PyData},jA d=true->d.canLay0=true
 | .none,_=>by simp [PyData.canLay0]
 | .bool _,_=>by simp [PyData.canLay0]
 | .int _,h=>by simp [PyData.canLay0]
 | .str x,h=>by simpa [PyData.canLay0,jA] using h
 | .tuple ds,h=>by simp only [jA] at h;simp only [PyData.canLay0];exact pR h
 | .list ds,h=>by simp only [jA] at h;simp only [PyData.canLay0];exact pR h
 | .dict _,h=>by simp [jA] at h
theorem pR:∀ {ds:List PyData},fK ds=true->PyData.canLayAll0 ds=true
 | [],_=>by simp [PyData.canLayAll0]
 | d::ds,h=>by
  simp only [fK,Pl] at h
  simp only [PyData.canLayAll0,Pl]
  exact ⟨tM h.1,pR h.2⟩
end
theorem oG:∀ (a b:List PyData),fK (a++b)=(fK a && fK b)
 | [],b=>by simp [fK]
 | d::a,b=>by simp [fK,oG a b,Bool.and_assoc]
theorem qx:∀ (a b:List PyData),PyData.weightAll (a++b)=PyData.weightAll a+PyData.weightAll b
 | [],b=>by simp [PyData.weightAll]
 | d::a,b=>by simp [PyData.weightAll,qx a b];omega
theorem qy:∀ (a b:List PyData),PyData.depthAll (a++b)=max (PyData.depthAll a) (PyData.depthAll b)
 | [],b=>by simp [PyData.depthAll]
 | d::a,b=>by simp only [RP,PyData.depthAll,qy a b];omega
theorem yE:∀ (a:List PyData),a.length<=PyData.weightAll a
 | []=>by simp
 | d::a=>by
  have:=yE a
  rw [PyData.weightAll,PQ]
  omega
theorem vF:∀ {ds:List PyData} {d:PyData},fK ds=true->d∈ds->jA d=true
 | e::ds,d,h,m=>by
  simp only [fK,Pl] at h
  rcases Pn.mp m with rfl | m
  ·exact h.1
  ·exact vF h.2 m
theorem yF:∀ {ds:List PyData},(∀ d∈ds,jA d=true)->fK ds=true
 | [],_=>rfl
 | d::ds,h=>by simp only [fK,Pl];exact ⟨h d (PJ ..),yF fun e m=>h e (Pr _ m)⟩
theorem vG:∀ {ds:List PyData} {d:PyData},d∈ds->d.depth<=PyData.depthAll ds
 | e::ds,d,m=>by
  simp only [PyData.depthAll]
  rcases Pn.mp m with rfl | m
  ·omega
  ·have:=vG m;omega
theorem fc:∀ {ds:List PyData} {m:Nat},(∀ d∈ds,d.depth<=m)->PyData.depthAll ds<=m
 | [],m,_=>by simp [PyData.depthAll]
 | d::ds,m,h=>by
  simp only [PyData.depthAll]
  have h1:=h d (PJ ..)
  have h2:=fc (ds:=ds) (m:=m) fun e q=>h e (Pr _ q)
  omega
theorem tN:∀ {ds:List PyData} {d:PyData},d∈ds->d.weight+1<=PyData.weightAll ds
 | e::ds,d,m=>by
  simp only [PyData.weightAll]
  rcases Pn.mp m with rfl | m
  ·omega
  ·have:=tN m;omega
theorem oH:∀ {ds:List PyData} {n:Nat},(∀ d∈ds,d.weight<=n)->PyData.weightAll ds<=ds.length * (n+1)
 | [],n,_=>by simp [PyData.weightAll]
 | d::ds,n,h=>by
  simp only [PyData.weightAll,PQ,Nat.succ_mul]
  have h1:=h d (PJ ..)
  have h2:=oH (ds:=ds) (n:=n) fun e q=>h e (Pr _ q)
  omega
structure Ok (n m:Nat) (x:PyData):Prop where
 f:jA x=true
 d:x.depth<=m
 w:x.weight<=n
structure jE (n m:Nat) (ds:List PyData):Prop where
 f:fK ds=true
 d:PyData.depthAll ds<=m
 w:PyData.weightAll ds<=n
section
variable {n m n' m':Nat} {d x:PyData} {ds a b:List PyData}
theorem jE.tup (o:jE n m ds):Ok n (m+1) (.tuple ds):=⟨by simpa only [jA] using o.f,by simp only [PyData.depth];have:=o.d;omega,by simp only [PyData.weight];exact o.w⟩
theorem jE.lst (o:jE n m ds):Ok n (m+1) (.list ds):=⟨by simpa only [jA] using o.f,by simp only [PyData.depth];have:=o.d;omega,by simp only [PyData.weight];exact o.w⟩
theorem Ok.items (o:Ok n m (.tuple ds)):jE n (m - 1) ds:=⟨by simpa only [jA] using o.f,by have:=o.d;simp only [PyData.depth] at this;omega,by have:=o.w;simpa only [PyData.weight] using this⟩
theorem jE.append {n1 n2:Nat} (x:jE n1 m a) (y:jE n2 m b):jE (n1+n2) m (a++b):=
 ⟨by rw [oG,x.f,y.f];rfl,by rw [qy];exact Nat.max_le.mpr ⟨x.d,y.d⟩,by rw [qx];exact Nat.add_le_add x.w y.w⟩
theorem jE.one (x:Ok n m d):jE (n+1) m [d]:=⟨by simp [fK,x.f],by simp [PyData.depthAll];exact x.d,by simp [PyData.weightAll];exact x.w⟩
theorem jE.cons (x:Ok n m d) (y:jE n' m ds):jE (n+1+n') m (d::ds):=(jE.one x).append y
theorem jE.mono (x:jE n m a) (h1:n<=n') (h2:m<=m'):jE n' m' a:=⟨x.f,Pq x.d h2,Pq x.w h1⟩
theorem Ok.mono (x:Ok n m d) (h1:n<=n') (h2:m<=m'):Ok n' m' d:=⟨x.f,Pq x.d h2,Pq x.w h1⟩
theorem jE.mem (o:jE n m ds) (h:d∈ds):Ok n m d:=⟨vF o.f h,Pq (vG h) o.d,by have:=tN h;have:=o.w;omega⟩
theorem jE.len (o:jE n m ds):ds.length<=n:=Pq (yE ds) o.w
theorem jE.of (h:∀ d∈ds,Ok n m d):jE (ds.length * (n+1)) m ds:=⟨yF fun d q=>(h d q).f,fc fun d q=>(h d q).d,oH fun d q=>(h d q).w⟩
theorem Ok.Od (o:Ok n m d):noDict d=true:=by
 have:=PyData.hasDict_of_canLay d (tM o.f)
 simp [noDict,this]
theorem Ok.shown (o:Ok n m d) (h:n<=10000):d.shown.length<=16777216:=by
 have h1:=PyData.shown_le 31 (by decide) d (PyData.leavesShort_of_canLay0 31 d (tM o.f) (lY o.f).2)
 have h2:=o.w
 exact Pq (by omega:_<=400000) (by decide)
theorem Ok.rep (o:Ok n m d) (h:n<=10000) (h2:m<=40):xA d=true:=by
 have:=o.d
 simp only [xA,Pl,Py]
 exact ⟨⟨⟨(lY o.f).1,o.Od⟩,by omega⟩,sz (o.shown h)⟩
theorem Ok.str {s:Str} (o:Ok n m (.str s)):s.length<=n:=o.w
end
theorem EG {n m:Nat} {d:PyData} (o:Ok n m d) (h:Hm) (hn:n<=10000) (hm:m<=40):iD [.dat d] h=.ok (.rpr d.shown) h:=by simp [iD,qP,o.rep hn hm]
theorem EH (ds:List PyData) (z:Nat):cut ds (some (z:Int)) none=ds.drop z:=by
 simp only [cut,eI]
 rw [if_neg (by omega),QG]
 by_cases h:z<=ds.length
 ·rw [Nat.min_eq_left h,List.take_of_length_le (by rw [S8];exact Pm _)]
 ·rw [Nat.min_eq_right (by omega),QN (Pm _),QN (by omega)]
  simp
theorem EI (ds:List PyData):cut ds (some 1) none=ds.drop 1:=EH ds 1
def az (c:Nat):Bool:=decide (97<=c) && decide (c<=122)
def isName:PyData->Bool
 | .str x=>decide (1<=x.length) && decide (x.length<=6) && x.cps.toList.all az
 | _=>false
theorem OM (a c:Nat):decide ([a] < [c])=decide (a < c):=by
 rw [decide_eq_decide]
 constructor
 ·intro h
  cases h with
  | rel h=>exact h
  | cons h=>cases h
 ·intro h
  exact .rel h
theorem Oe:("a" : Str).cps.toList=[97]:=by decide +kernel
theorem Of:("z" : Str).cps.toList=[122]:=by decide +kernel
theorem Pg (c:Nat):(!mV (⟨#[c]⟩:Str) ("a" : Str))=decide (97<=c):=by
 unfold mV
 rw [Oe,show (⟨#[c]⟩:Str).cps.toList=[c] from rfl,OM]
 by_cases h:c < 97
 ·rw [PN h,PR (by omega)];rfl
 ·rw [PR h,PN (by omega)];rfl
theorem ltZ (c:Nat):(!mV ("z" : Str) (⟨#[c]⟩:Str))=decide (c<=122):=by
 unfold mV
 rw [Of,show (⟨#[c]⟩:Str).cps.toList=[c] from rfl,OM]
 by_cases h:122 < c
 ·rw [PN h,PR (by omega)];rfl
 ·rw [PR h,PN (by omega)];rfl
theorem zN (x:Str):signs x=(hG x).map D.dat:=by simp [signs,hG]
theorem zO (x:Str):(hG x).length=x.length:=by simp [hG];rfl
theorem zP (x:Str) (p:Nat->Bool) (q:PyData->Bool) (h:∀ c,q (.str ⟨#[c]⟩)=p c):(hG x).all q=x.cps.toList.all p:=by
 rw [QB,PH,PH]
 constructor
 ·intro H c hc
  obtain ⟨i,hi,e⟩:=Ry.mp hc
  have:=H (.str ⟨#[c]⟩) (by
   simp only [hG,P8,Qo]
   refine ⟨i,by simpa using hi,?_⟩
   have hi':i < x.cps.size:=by simpa using hi
   simp [Array.getD,hi']
   simpa using e)
  rw [h] at this
  exact this
 ·intro H d hd
  simp only [hG,P8,Qo] at hd
  obtain ⟨i,hi,rfl⟩:=hd
  rw [h]
  apply H
  have:x.cps.getD i 0=x.cps[i]:=by simp [Array.getD,hi]
  rw [this]
  simp
theorem wX (i j:Int) (h:Hm):oLe (.int i) (.int j) h=.ok (.bool (decide (i<=j))) h:=rfl
theorem Bk (x y:Str) (h:Hm):oLe (.str x) (.str y) h=.ok (.bool (!mV y x)) h:=rfl
theorem tO {x:Str} (h:Hm) (hz:x.length<=16777216):fO [.str x] h=.ok (.int x.length) h:=by simp [fO,sz hz]
@[simp] theorem LW (ds:List PyData) (h:Hm):fO [.dat (.tuple ds)] h=.ok (.int ds.length) h:=rfl
@[simp] theorem LX (ds:List PyData) (h:Hm):fO [.dat (.list ds)] h=.ok (.int ds.length) h:=rfl
def gv {α:Type} (ds:List α) (f:α->Bool):Bool:=ds.all f
def Og {α:Type} (ds:List α) (f:α->Bool):Bool:=ds.any f
theorem fE {α:Type} {ds:List α} {f:α->Bool}:gv ds f=true<->∀ x∈ds,f x=true:=PH
theorem jB {α:Type} {a:α} {ds:List α} {f:α->Bool}:gv (a::ds) f=true<->f a=true/\gv ds f=true:=by simp [gv]
@[simp] theorem LY {α:Type} (f:α->Bool):gv [] f=true:=rfl
@[simp] theorem LZ {α:Type} (f:α->Bool):Og [] f=false:=rfl
theorem lx {α:Type} (ds:List α) (f:α->Bool) (h:Hm):wj [.dat (.list (ds.map fun x=>.bool (f x)))] h=.ok (.bool (gv ds f)) h:=by
 unfold gv
 have e1:ds.map (fun x=>PyData.bool (f x))=(ds.map f).map .bool:=by simp
 rw [e1,zM]
 simp [List.all_map,Function.comp_def]
theorem zQ {n m:Nat} {d:PyData} (o:Ok n m d) (hn:n<=10000) (h:Hm):jv [.dat d] h=.ok (.bool (isName d)) h:=by
 unfold jv u9
 cases d with
 | str x=>
  have hx:x.length<=16777216:=Pq o.str (by omega)
  have key:cC 1 (bb (ae 0)) (aB 0) fH (nh oLe oLe (aj (.str "a")) (ae 0) (aj (.str "z"))) [some (.str x)] h=.ok (.dat (.list ((hG x).map fun d=>.bool (match d with | .str y=>!mV y "a" && !mV "z" y | _=>false)))) h:=by
   refine lX (by simp [zN]) (by rw [zO];exact hx) _ fun y hy=>?_
   simp only [hG,P8,Qo] at hy
   obtain ⟨i,hi,rfl⟩:=hy
   generalize (⟨#[x.cps.getD i 0]⟩:Str)=y
   refine ⟨_,rfl,?_⟩
   by_cases z:mV y "a" = true
   ·simp [Bk,z]
   ·simp [Bk,z]
  by_cases h1:1<=(x.length:Int)
  ·by_cases h2:(x.length:Int)<=6
   ·simp [tO h hx,wX,h1,h2,key,lx]
    unfold gv
    rw [zP x az _ (fun c=>by simp only [az,Pg,ltZ])]
    simp [isName,show 1<=x.length by omega,show x.length<=6 by omega]
   ·simp [tO h hx,wX,h1,h2,isName,show ¬ x.length<=6 by omega]
  ·simp [tO h hx,wX,h1,isName,show ¬ 1<=x.length by omega]
 | _=>simp [isName]
def tP (ds:List PyData):Bool:=gv (ds.zip ds.tail) fun p=>ltB p.1 p.2
structure KR (ds:List PyData):Prop where
 nd:∀ d∈ds,noDict d=true/\d.depth<=40
 lt:∀ d∈ds,∀ e∈ds,bJ d e=some (ltB d e)
theorem Kg {d e:PyData} (h1:noDict d=true) (h2:noDict e=true) (h3:d.depth<=40) (h4:bJ d e=some (ltB d e)) (h:Hm):oLt (.dat d) (.dat e) h=.ok (.bool (ltB d e)) h:=by
 simp [oLt,h1,h2,h4,show min d.depth e.depth<=40 by omega]
theorem wY (i j:Int) (h:Hm):oLt (.int i) (.int j) h=.ok (.bool (decide (i < j))) h:=by
 simp [oLt,noDict,PyData.hasDict,PyData.depth,bJ]
theorem EJ {ds:List PyData} (h:∀ d∈ds,∃ x,d=.str x):KR ds:=⟨fun d m=>by obtain ⟨x,rfl⟩:=h d m;exact ⟨by simp [noDict,PyData.hasDict],by simp [PyData.depth]⟩,fun d m e m'=>by
 obtain ⟨x,rfl⟩:=h d m
 obtain ⟨y,rfl⟩:=h e m'
 simp [ltB,bJ]⟩
theorem Bl:∀ (xs ys:List PyData),mj xs ys=((xs.zip ys).map fun p=>PyData.tuple [p.1,p.2]).map D.dat
 | [],_=>by simp [mj]
 | _::_,[]=>by simp [mj]
 | x::xs,y::ys=>by simp [mj,Bl xs ys]
theorem Hb {xs:List PyData} {p:PyData×PyData} (h:p∈xs.zip xs.tail):p.1∈xs/\p.2∈xs:=by
 obtain ⟨a,b⟩:=p
 have:=Tj h
 exact ⟨this.1,List.mem_of_mem_tail this.2⟩
theorem oJ {ds:List PyData} (c:KR ds) (hz:ds.length<=16777216) (h:Hm):gr [.dat (.tuple ds)] h=.ok (.bool (tP ds)) h:=by
 unfold gr qb
 have key:cC 2 (AG (aa (ae 0) (aa (Mk (ae 0) (mD (aj (.int 1))) (AI)) (ag)))) (iq (bR (aB 0) (bR (aB 1) (ip)))) (fH) (aq oLt (ae 0) (ae 1)) [some (.dat (.tuple ds))] h=.ok (.dat (.list ((ds.zip ds.tail).map fun p=>.bool (ltB p.1 p.2)))) h:=by
  rw [lX (h1:=h) (ds:=(ds.zip ds.tail).map fun p=>PyData.tuple [p.1,p.2]) (by simp [EI,Bl]) (by simp;omega) (fun d=>.bool (match d with | .tuple [a,b]=>ltB a b | _=>false)) fun y hy=>?_]
  ·rw [Ts];rfl
  ·obtain ⟨p,hp,rfl⟩:=P8.mp hy
   obtain ⟨m1,m2⟩:=Hb hp
   refine ⟨_,rfl,?_⟩
   simp [Kg (c.nd _ m1).1 (c.nd _ m2).1 (c.nd _ m1).2 (c.lt _ m1 _ m2)]
 simp [key,lx,tP]
mutual
def cm:PyData->PyData->Bool
 | .str _,.str _=>true
 | .int _,.int _=>true
 | .tuple xs,.tuple ys=>Ie xs ys
 | _,_=>false
def Ie:List PyData->List PyData->Bool
 | x::xs,y::ys=>cm x y && Ie xs ys
 | _,_=>true
end
mutual
theorem zR:∀ {d e:PyData},cm d e=true->(bJ d e).isSome=true
 | .str _,e,h=>by cases e<;>simp_all [cm,bJ]
 | .int _,e,h=>by cases e<;>simp_all [cm,bJ]
 | .tuple xs,e,h=>by
  cases e with
  | tuple ys=>simp only [cm] at h;simp only [bJ];exact Bm h
  | _=>simp [cm] at h
 | .none,_,h=>by simp [cm] at h
 | .bool _,_,h=>by simp [cm] at h
 | .list _,_,h=>by simp [cm] at h
 | .dict _,_,h=>by simp [cm] at h
theorem Bm:∀ {xs ys:List PyData},Ie xs ys=true->(cH xs ys).isSome=true
 | [],[],_=>by simp [cH]
 | [],_::_,_=>by simp [cH]
 | _::_,[],_=>by simp [cH]
 | x::xs,y::ys,h=>by
  simp only [Ie,Pl] at h
  unfold cH
  split
  ·exact Bm h.2
  ·exact zR h.1
end
theorem Hc {d e:PyData} (h:cm d e=true):bJ d e=some (ltB d e):=by
 have:=zR h
 unfold ltB
 cases q:bJ d e with
 | none=>rw [q] at this;cases this
 | some b=>rfl
def ly:PyData->Bool
 | .str _=>true
 | _=>false
theorem dw {d:PyData} (h:ly d=true):∃ x,d=.str x:=by cases d<;>simp_all [ly]
theorem tQ:∀ {xs ys:List PyData},gv xs ly=true->gv ys ly=true->Ie xs ys=true
 | [],_,_,_=>by simp [Ie]
 | _::_,[],_,_=>by simp [Ie]
 | x::xs,y::ys,h,k=>by
  have h:=jB.mp h
  have k:=jB.mp k
  obtain ⟨a,rfl⟩:=dw h.1
  obtain ⟨b,rfl⟩:=dw k.1
  simp [Ie,cm,tQ h.2 k.2]
theorem KR.of {n m:Nat} {ds:List PyData} (o:jE n m ds) (hm:m<=40) (h:∀ d∈ds,∀ e∈ds,cm d e=true):KR ds:=⟨fun d q=>⟨(o.mem q).Od,by have:=(o.mem q).d;omega⟩,fun d q e r=>Hc (h d q e r)⟩
def L0 (ns:List PyData) (d:PyData):Bool:=ns.any fun y=>PyData.eqv y d
theorem EK {n m:Nat} {d:PyData} (o:Ok n m d):∀ {ns:List PyData},gv ns ly=true->CD d ns=some (L0 ns d)
 | [],_=>rfl
 | y::ns,h=>by
  have h:=jB.mp h
  obtain ⟨x,rfl⟩:=dw h.1
  have ih:=EK o h.2
  have e:B5 (.str x) d=some (PyData.eqv (.str x) d):=by
   have hd:noDict d=true:=o.Od
   unfold B5
   split
   ·simp [noDict,PyData.hasDict] at hd
   ·simp [noDict,PyData.hasDict] at hd
   ·simp [eqQ,noDict,PyData.hasDict,PyData.depth]
    simpa [noDict] using hd
  simp [CD,e,ih,L0]
theorem EL {n m:Nat} {d:PyData} {ns:List PyData} (o:Ok n m d) (h:gv ns ly=true) (hm:Hm):nQ (.dat d) (.dat (.tuple ns)) hm=.ok (.bool (L0 ns d)) hm:=by
 simp [nQ,findIn,gI,nP,qP,EK o h]
theorem Bn {ns:List PyData} (h:gv ns ly=true) {d:PyData}:L0 ns d=true<->d∈ns:=by
 simp only [L0,Se]
 constructor
 ·rintro ⟨y,hy,e⟩
  obtain ⟨x,rfl⟩:=dw (fE.mp h y hy)
  cases d<;>simp [PyData.eqv] at e
  subst e
  exact hy
 ·intro q
  obtain ⟨x,rfl⟩:=dw (fE.mp h d q)
  exact ⟨_,q,by simp [PyData.eqv]⟩
theorem zS {d:PyData} (h:isName d=true):ly d=true:=by cases d<;>simp_all [isName,ly]
theorem zT {ds:List PyData} (h:gv ds isName=true):gv ds ly=true:=fE.mpr fun d m=>zS (fE.mp h d m)
theorem EM {ds:List PyData} (h:gv ds ly=true):∀ d∈ds,∃ x,d=.str x:=fun d m=>dw (fE.mp h d m)
def ie:PyData->Bool
 | .tuple ds=>decide (ds.length<=12) && gv ds isName && tP ds
 | _=>false
theorem wZ {n m:Nat} {d:PyData} (o:Ok n m d) (hn:n<=10000) (h:Hm):iH [.dat d] h=.ok (.bool (ie d)) h:=by
 unfold iH qc
 cases d with
 | tuple ds=>
  have hl:=o.items.len
  have key:=lX (n:=1) (it:=bb (ae 0)) (g:=aB 0) (e:=af jv (aa (ae 0) (ag))) (ρ:=[some (.dat (.tuple ds))]) (h:=h) (h1:=h) (ds:=ds) (by simp) (by omega) (fun x=>.bool (isName x)) (fun x hx=>⟨_,rfl,by simp [zQ (o.items.mem hx) hn]⟩)
  by_cases h1:ds.length<=12
  ·by_cases h2:gv ds isName=true
   ·have:=oJ (EJ (EM (zT h2))) (by omega) h
    simp [key,lx,h1,show ¬ (12:Int) < ds.length by omega,h2,this,ie]
   ·simp [key,lx,h1,show ¬ (12:Int) < ds.length by omega,h2,ie]
  ·simp [h1,show (12:Int) < ds.length by omega,ie]
 | _=>simp [ie]
@[simp] theorem MQ (ds:List PyData) (i:Int) (h:Hm):dQ (.dat (.tuple ds)) (.int i) h=match mf ds i with | some d=>.ok (.dat d) h | none=>.bad:=rfl
@[simp] theorem MR (ds:List PyData) (i:Int) (h:Hm):dQ (.dat (.list ds)) (.int i) h=match mf ds i with | some d=>.ok (.dat d) h | none=>.bad:=rfl
@[simp] theorem ON {α:Type} (a:α) (r:List α):mf (a::r) 0=some a:=by simp [mf,uc]
theorem qM {α:Type} {xs:List α} {i:Nat} {a:α} (h:xs[i]?=some a):mf xs (i:Int)=some a:=by
 obtain ⟨hi,e⟩:=PF.mp h
 simp [mf,uc,hi,e]
@[simp] theorem OO {α:Type} (a b:α) (r:List α):mf (a::b::r) 1=some b:=by
 show mf _ ((1:Nat):Int)=_
 exact qM rfl
def Wf (h:Hm):Prop:=∀ o∈h,MO.below h.length o=true
theorem Wf.set {h:Hm} (w:Wf h) {i:Nat} {o:MO} (b:MO.below h.length o=true):Wf (h.set i o):=fun x hx=>by
 rw [List.length_set]
 rcases List.mem_or_eq_of_mem_set hx with m | rfl
 ·exact w x m
 ·exact b
theorem D.j6 {n m:Nat} (h:n<=m) {d:D} (b:D.below n d=true):D.below m d=true:=by
 cases d<;>simp_all [D.below]
 omega
theorem MO.j6 {n m:Nat} (h:n<=m) {o:MO} (b:MO.below n o=true):MO.below m o=true:=by
 cases o with
 | lst xs=>simp only [MO.below,PH] at b ⊢;exact fun d q=>D.j6 h (b d q)
 | iu t kvs=>rfl
 | ins C fs=>simp only [MO.below,PH] at b ⊢;exact fun d q=>D.j6 h (b d q)
 | tab P q=>rfl
theorem Wf.push {h:Hm} (w:Wf h) {o:MO} (b:MO.below (h.length+1) o=true):Wf (h++[o]):=fun x hx=>by
 rw [PU,SY]
 rcases PL.mp hx with m | m
 ·exact MO.j6 (QR _) (w x m)
 ·simp at m;subst m;exact b
theorem Hd (ns:List Int) (k:Nat) (h:Hm):∃ z:Int,eX [.scr ns,.int k] h=.ok (.int z) h:=by
 unfold eX qf
 by_cases hk:k < ns.length
 ·exact ⟨ns[k],by simp [fO,wY,hk,dQ,gI,qF,qM (Pz hk)]⟩
 ·exact ⟨0,by simp [fO,wY,hk]⟩
@[simp] theorem L5 (i j:Int) (h:Hm):dH (.int i) (.int j) h=.ok (.int (i+j)) h:=rfl
def OP (n m:Nat) (x:PyData):Bool:=jA x && decide (x.depth<=m) && decide (x.weight<=n)
theorem Kh {n m:Nat} {x:PyData} (h:OP n m x=true):Ok n m x:=by
 simp only [OP,Pl,Py] at h
 exact ⟨h.1.1,h.1.2,h.2⟩
theorem oK {α:Type} {xs:List α} {k:Nat} (h:k < xs.length):∃ x,mf xs (k:Int)=some x/\x∈xs:=⟨xs[k],qM (Pz h),TK h⟩
theorem jC {xs ys:List PyData} (h:Hm) (hz:xs.length+ys.length<=16777216):dH (.dat (.list xs)) (.dat (.list ys)) h=.ok (.dat (.list (xs++ys))) h:=by simp [dH,sz hz]
theorem yG {xs ys:List PyData} (h:Hm) (hz:xs.length+ys.length<=16777216):dH (.dat (.tuple xs)) (.dat (.tuple ys)) h=.ok (.dat (.tuple (xs++ys))) h:=by simp [dH,sz hz]
theorem xa:∀ {ds:List PyData},ds.Pairwise (fun a b=>ltB a b=true)->tP ds=true
 | [],_=>rfl
 | [_],_=>rfl
 | a::b::r,h=>by
  rw [Qn] at h
  have ih:=xa h.2
  unfold tP at ih ⊢
  simp only [List.tail_cons,Q3] at ih ⊢
  exact jB.mpr ⟨h.1 b (by simp),ih⟩
theorem Cr {ds:List PyData} (c:dA ds=true) (t:au ds=true) (nd:ds.Nodup):tP (cx ltB ds)=true:=by
 have p:=bo ltB ds
 have u:=rT (fP c t)
 have nd':(cx ltB ds).Nodup:=p.nodup_iff.mpr nd
 refine xa ?_
 unfold Up at u
 refine Rt.mpr fun {a b} s=>?_
 have both:=Rt.mp u s
 have bn:=Rt.mp nd' s
 have ha:=p.mem_iff.mp (s.subset (by simp:a∈[a,b]))
 have hb:=p.mem_iff.mp (s.subset (by simp:b∈[a,b]))
 rcases nS c t ha hb both with q | q
 ·exact q
 ·exact absurd q bn
theorem Ki {ds:List PyData} (c:dA ds=true) (t:au ds=true) {x y z:PyData} (hx:x∈ds) (hy:y∈ds) (hz:z∈ds) (h:ltB x y=true) (k:ltB y z=true):ltB x z=true:=by
 have h1:=o9 c t hx hy h
 have h2:=o9 c t hy hz k
 rcases nS c t hx hz (AO c t hx hy hz h1 h2) with q | q
 ·exact q
 ·subst q;rw [k] at h1;cases h1
theorem zU {ds:List PyData} (c:dA ds=true) (t:au ds=true):∀ {es:List PyData},(∀ e∈es,e∈ds)->tP es=true->es.Pairwise fun a b=>ltB a b=true
 | [],_,_=>.nil
 | [_],_,_=>by simp
 | a::b::r,s,h=>by
  unfold tP at h
  simp only [List.tail_cons,Q3] at h
  have h:=jB.mp h
  have ih:=zU c t (es:=b::r) (fun e m=>s e (Pr _ m)) (by unfold tP;simpa using h.2)
  refine Qn.mpr ⟨fun d m=>?_,ih⟩
  rcases Pn.mp m with rfl | m'
  ·exact h.1
  ·exact Ki c t (s a (by simp)) (s b (by simp)) (s d (by simp [m'])) h.1 ((Qn.mp ih).1 d m')
namespace Nm
variable {c:Nat} {ns:List PyData}
end Nm
theorem lz {d:PyData} (h:ly d=true):av d=true:=by cases d<;>simp_all [ly,av]
theorem tR {d:PyData} (h:ly d=true):ai d=true:=by cases d<;>simp_all [ly,ai]
theorem Cs {ds:List PyData} (h:∀ a∈ds,∀ b∈ds,cm a b=true):dA ds=true:=PH.mpr fun a ha=>PH.mpr fun b hb=>zR (h a ha b hb)
end Ml
namespace Ml
open PySem
theorem Bo {ns:List PyData} {zs:List D} (s:zs.Sublist (ns.map D.dat)):∃ ls:List PyData,zs=ls.map D.dat/\ls.Sublist ns:=by
 obtain ⟨ls,h1,h2⟩:=List.sublist_map_iff.mp s
 exact ⟨ls,h2,h1⟩
theorem lZ {a b:MS} {ρ ρ1:Fm} {h h1:Hm} (e:a ρ h=.ok (.nx ρ1) h1):bh a b ρ h=b ρ1 h1:=by simp [bh,e]
theorem aC {f:D->D->Hm->R D} {a b:ME} {ρ:Fm} {h h1 h2:Hm} {x y:D} {r:R D} (ha:a ρ h=.ok x h1) (hb:b ρ h1=.ok y h2) (e:f x y h2=r):aq f a b ρ h=r:=by
 subst e
 simp only [aq,ha,hb,R.ay]
theorem ak {e:ME} {a:MA} {ρ:Fm} {h h1 h2:Hm} {x:D} {xs:List D} (he:e ρ h=.ok x h1) (ha:a ρ h1=.ok xs h2):aa e a ρ h=.ok (x::xs) h2:=by
 simp only [aa,he,ha,R.ay]
theorem bz {f:Fn} {a:MA} {ρ:Fm} {h h1:Hm} {xs:List D} (ha:a ρ h=.ok xs h1):af f a ρ h=f xs h1:=by simp only [af,ha,R.ay]
theorem qY {i:Nat} {e:ME} {ρ:Fm} {h h1:Hm} {x:D} (he:e ρ h=.ok x h1):bT i e ρ h=.ok (.nx (ρ.set i (some x))) h1:=by simp only [bT,he,R.ay]
section
variable {t u:MT} {a b:MS} {m:ME} {ρ:Fm} {h h1 h2:Hm} {x:D} {c d:Bool}
theorem cf (e:m ρ h=.ok (.bool c) h1):aN m ρ h=.ok c h1:=by simp [aN,e]
theorem vH (e:m ρ h=.ok x h1) (k:Ml.truth x h1=some c):cM m ρ h=.ok c h1:=by simp only [cM,e,R.ay,k]
theorem Bp (e:t ρ h=.ok c h1):ki t ρ h=.ok (!c) h1:=by simp [ki,e]
theorem Ig (e:t ρ h=.ok true h1):mW t a b ρ h=a ρ h1:=by simp [mW,e]
theorem Ih (e:t ρ h=.ok false h1):mW t a b ρ h=b ρ h1:=by simp [mW,e]
theorem iZ {it:MA} {g:MG} {xs:List D} {r:R Fl} (e:it ρ h=.ok xs h1) (k:cV g a xs ρ h1=r):qE it g a ρ h=r:=by subst k;simp only [qE,e,R.bI,R.ay]
theorem Bq {ds:List PyData} (e:m ρ h=.ok (.dat (.list ds)) h1):bb m ρ h=.ok (ds.map D.dat) h1:=by simp only [bb,e]
theorem fF {ds:List PyData} (e:m ρ h=.ok (.dat (.tuple ds)) h1):bb m ρ h=.ok (ds.map D.dat) h1:=by simp only [bb,e]
theorem xb (e:m ρ h=.ok x h1):cG m ρ h=.ok (.rt x) h1:=by simp only [cG,e,R.ay]
end
theorem Ct {a:MA} {ρ:Fm} {h h1:Hm} {j:Int} (e:a ρ h=.ok [.dat (.int j)] h1) (q:(-(2 ^ 62):Int)<=j/\j < 2 ^ 62):jt a ρ h=.ok (nums 0 j.toNat) h1:=by
 unfold jt
 rw [e]
 simp only [R.ay]
 rw [if_pos q]
theorem oM {a:MA} {ρ:Fm} {h h1:Hm} {n:Nat} (e:a ρ h=.ok [.dat (.int (n:Int))] h1) (hn:n < 1000000):jt a ρ h=.ok (nums 0 n) h1:=by
 have:=Ct e (by omega)
 rwa [QG] at this
abbrev Br (d:PyData):Prop:=isName d=true
abbrev Cu (p:PyData):Prop:=∃ a b,Br a/\Br b/\p=.tuple [a,b]
theorem eG {x:PyData} (h:Br x):ly x=true:=by
 cases x with
 | str y=>rfl
 | _=>exact absurd h (by simp [Br,isName])
theorem EN {x:PyData} (h:Br x):Ok 6 0 x:=by
 obtain ⟨y,rfl⟩:=dw (eG h)
 simp only [Br,isName,Pl,Py] at h
 refine ⟨?_,by simp [PyData.depth],by simp only [PyData.weight];exact h.1.2⟩
 simp only [jA,PyData.strOk]
 rw [Array.all_eq_true_iff_forall_mem]
 intro x hx
 have:=PH.mp h.2 x (by simpa using hx)
 simp only [az,Pl,Py] at this
 exact PN (by omega)
theorem j7 {p:PyData} (h:Cu p):av p=true/\ai p=true/\fM p=true/\gE p=true/\p.depth<=1/\Ok 14 1 p:=by
 obtain ⟨a,b,ha,hb,rfl⟩:=h
 have oa:=EN ha
 have ob:=EN hb
 have ok:Ok 14 1 (.tuple [a,b]):=((jE.cons oa (jE.one ob)).mono (by omega) (Pm _)).tup
 exact ⟨by simp [av,aX,lz (eG ha),lz (eG hb)],by simp [ai,au,tR (eG ha),tR (eG hb)],rfl,rfl,ok.d,ok⟩
structure tS (U:PyData->Prop):Prop where
 c:∀ a b,U a->U b->cm a b=true
 st:∀ d,U d->av d=true
 key:(∀ d,U d->fM d=true)\/(∀ d,U d->fN d=true)
 typ:(∀ d,U d->rS d=true)\/(∀ d,U d->gE d=true)
 dep:∀ d,U d->d.depth<=1
theorem fL:tS Br:=⟨fun a b ha hb=>by
  obtain ⟨x,rfl⟩:=dw (eG ha)
  obtain ⟨y,rfl⟩:=dw (eG hb)
  rfl,fun d m=>lz (eG m),.inr fun d m=>by obtain ⟨x,rfl⟩:=dw (eG m);rfl,.inl fun d m=>by obtain ⟨x,rfl⟩:=dw (eG m);rfl,fun d m=>by obtain ⟨x,rfl⟩:=dw (eG m);simp [PyData.depth]⟩
theorem cF:tS Cu:=⟨fun p q hp hq=>by
  obtain ⟨a,b,ha,hb,rfl⟩:=hp
  obtain ⟨c,d,hc,hd,rfl⟩:=hq
  simp only [cm]
  exact tQ (by simp [gv,eG ha,eG hb]) (by simp [gv,eG hc,eG hd]),fun d m=>(j7 m).1,.inl fun d m=>(j7 m).2.2.1,.inr fun d m=>(j7 m).2.2.2.1,fun d m=>(j7 m).2.2.2.2.1⟩
section
variable {U:PyData->Prop} {xs ys:List PyData}
theorem tS.t (u:tS U) {d:PyData} (h:U d):ai d=true:=aT (u.st d h)
theorem tS.uh (u:tS U) (h:∀ d∈xs,U d):au xs=true:=iE fun d m=>u.t (h d m)
theorem tS.cmp (u:tS U) (h:∀ d∈xs,U d):dA xs=true:=Cs fun a ha b hb=>u.c a b (h a ha) (h b hb)
structure Rw (U:PyData->Prop) (xs:List PyData):Prop where
 sub:∀ d∈xs,U d
 ris:xs.Pairwise fun a b=>ltB a b=true
theorem EO {a b:PyData} (t:ai a=true) (h:ltB a b=true):a≠b:=fun e=>by
 subst e
 have:=AM t
 unfold ltB at h
 rw [this] at h
 cases h
theorem jD (u:tS U) (r:Rw U xs):xs.Nodup:=Q4 (fun {a b} ha hb l=>EO (u.t (r.sub a ha)) l) r.ris
theorem Ii (u:tS U) (r:Rw U xs):Up ltB xs:=by
 unfold Up
 exact Q4 (fun {a b} ha hb l=>o9 (u.cmp r.sub) (u.uh r.sub) ha hb l) r.ris
theorem Bs (r:Rw U xs):tP xs=true:=xa r.ris
theorem tT (u:tS U) (r:Rw U xs) (q:Rw U ys) (h:∀ d,d∈xs<->d∈ys):xs=ys:=
 pe (fP (u.cmp r.sub) (u.uh r.sub)) ((List.perm_ext_iff_of_nodup (jD u r) (jD u q)).mpr h) (Ii u r) (Ii u q)
theorem qZ (u:tS U) (h:∀ d∈xs,U d) (nd:xs.Nodup):Rw U (cx ltB xs):=
 ⟨fun d m=>h d ((bo _ _).mem_iff.mp m),zU (u.cmp h) (u.uh h) (fun d m=>(bo _ _).mem_iff.mp m) (Cr (u.cmp h) (u.uh h) nd)⟩
theorem Ij (u:tS U) (h:∀ d∈xs,U d) (q:tP xs=true):Rw U xs:=⟨h,zU (u.cmp h) (u.uh h) (fun _ m=>m) q⟩
theorem mO:∀ {ds:List PyData},(∀ d∈ds,av d=true)->aX ds=true
 | [],_=>by simp [aX]
 | d::ds,h=>by simp [aX,h d (by simp),mO (ds:=ds) fun e m=>h e (by simp [m])]
theorem tS.set (u:tS U) (h:∀ d∈xs,U d) (l:xs.length<=120):setOk xs=true:=by
 have h1:(xs.all fM || xs.all fN)=true:=by
  rcases u.key with k | k
  ·rw [PH.mpr fun d m=>k d (h d m)];rfl
  ·rw [show xs.all fN=true from PH.mpr fun d m=>k d (h d m)];simp
 have h2:aX xs=true:=mO fun d m=>u.st d (h d m)
 have h3:PyData.depthAll xs<=8:=Pq (fc fun d m=>u.dep d (h d m)) (by decide)
 simp only [setOk,h1,h2,PN h3,PN l,Ro]
theorem tS.KU (u:tS U) (h:∀ d∈xs,U d) (l:xs.length < 64):cN xs=true:=by
 have h1:(xs.all rS || xs.all gE)=true:=by
  rcases u.typ with k | k
  ·rw [PH.mpr fun d m=>k d (h d m)];rfl
  ·rw [show xs.all gE=true from PH.mpr fun d m=>k d (h d m)];simp
 have h3:PyData.depthAll xs<=20:=Pq (fc fun d m=>u.dep d (h d m)) (by decide)
 simp only [cN,h1,u.uh h,u.cmp h,PN h3,PN l,Ro]
def un (xs ys:List PyData):List PyData:=cx ltB (zu xs ys)
theorem Bt (u:tS U) (r:∀ d∈xs,U d) (q:∀ d∈ys,U d):(∀ d,d∈zu xs ys<->d∈xs\/d∈ys)/\(zu xs ys).Nodup/\(zu xs ys).length<=xs.length+ys.length:=by
 have hs:∀ d∈xs++ys,av d=true:=fun d m=>by
  rcases PL.mp m with z | z
  ·exact u.st d (r d z)
  ·exact u.st d (q d z)
 have hm:∀ d,d∈zu xs ys<->d∈xs\/d∈ys:=fun d=>by unfold zu;rw [jx hs,PL]
 have nd:(zu xs ys).Nodup:=iJ hs
 refine ⟨hm,nd,?_⟩
 have:=vD nd (ys:=xs++ys) fun d m=>PL.mpr ((hm d).mp m)
 simpa using this
theorem yH (u:tS U) (r:∀ d∈xs,U d) (q:∀ d∈ys,U d):Rw U (un xs ys)/\(∀ d,d∈un xs ys<->d∈xs\/d∈ys)/\(un xs ys).length<=xs.length+ys.length:=by
 obtain ⟨h1,h2,h3⟩:=Bt u r q
 refine ⟨qZ u (fun d m=>((h1 d).mp m).elim (r d) (q d)) h2,fun d=>(bo _ _).mem_iff.trans (h1 d),?_⟩
 unfold un
 rw [(bo _ _).length_eq]
 exact h3
theorem Cv (u:tS U) (r:∀ d∈xs,U d) (q:∀ d∈ys,U d) (l:xs.length+ys.length < 64) (h:Hm):cX [.dat (.list (xs++ys))] h=.ok (.dat (.list (un xs ys))) h:=by
 obtain ⟨h1,h2,h3⟩:=Bt u r q
 have s2:setOk (xs++ys)=true:=u.set (fun d m=>(PL.mp m).elim (r d) (q d)) (by simp;omega)
 have s3:cN (eT (xs++ys))=true:=u.KU (xs:=zu xs ys) (fun d m=>((h1 d).mp m).elim (r d) (q d)) (by omega)
 simp only [cX,sJ,listOf,s2,s3,Ro,Qe,un,zu]
end
structure Nr (ns:List PyData):Prop extends Rw Br ns where
 le:ns.length<=12
structure Wb (k:Nat) (ns ss:List PyData):Prop where
 nr:Nr ns
 sr:Rw Cu ss
 cl:∀ a b,.tuple [a,b]∈ss->a∈ns/\b∈ns
 le:ss.length<=k
section
variable {k:Nat} {ns ss:List PyData}
theorem Wb.sd (w:Wb k ns ss):gv ns ly=true:=fE.mpr fun d m=>eG (w.nr.sub d m)
theorem Wb.Oh (w:Wb k ns ss) {a:PyData} (h:a∈ns):Ok 6 0 a:=EN (w.nr.sub a h)
theorem Wb.Mn (w:Wb k ns ss):Ok 84 1 (.tuple ns):=by
 have:=w.nr.le
 exact ((jE.of fun d m=>w.Oh m).mono (by omega) (Pm _)).tup
theorem Wb.Oi (w:Wb k ns ss) (hk:k<=600):jE 9000 1 ss:=by
 have:=w.le
 exact (jE.of fun d m=>(j7 (w.sr.sub d m)).2.2.2.2.2).mono (by omega) (Pm _)
theorem Wb.names (w:Wb k ns ss):ie (.tuple ns)=true:=by
 have h1:gv ns isName=true:=fE.mpr fun d m=>w.nr.sub d m
 simp [ie,w.nr.le,Bs w.nr.toRw,h1]
theorem Wb.get (w:Wb k ns ss) {p:PyData} (h:p∈ss):∃ a b,p=.tuple [a,b]/\a∈ns/\b∈ns:=by
 obtain ⟨a,b,_,_,rfl⟩:=w.sr.sub p h
 exact ⟨a,b,rfl,w.cl a b h⟩
theorem L6 (h:Hm):nE (D.int 2) (D.dat (.int 2)) h=.ok (.bool false) h:=by
 simp [nE,qP,eqQ,noDict,PyData.hasDict,PyData.depth,PyData.eqv]
theorem Cw (w:Wb k ns ss) {a b:PyData} (ha:a∈ns) (hb:b∈ns) (h:Hm):gu [.dat (.tuple [a,b]),.dat (.tuple ns)] h=.ok (.bool true) h:=by
 unfold gu qd
 simp [L6,EL (w.Oh ha) w.sd,EL (w.Oh hb) w.sd,(Bn w.sd).mpr ha,(Bn w.sd).mpr hb]
theorem zV (w:Wb k ns ss) (hk:k<=600) (h:Hm):f6 [.dat (.tuple ss),.dat (.tuple ns)] h=.ok (.bool true) h:=by
 unfold f6 mH
 have hl:=w.le
 have key:=lX (n:=1) (it:=bb (ae 0)) (g:=aB 0) (e:=af gu (aa (ae 0) (aa (ae 2) (ag)))) (ρ:=[some (.dat (.tuple ss)),some (.dat (.tuple ns))]) (h:=h) (h1:=h) (ds:=ss) (by simp) (by omega) (fun x=>.bool ((fun _=>true) x)) (fun x hx=>⟨_,rfl,by
  obtain ⟨a,b,rfl,ha,hb⟩:=w.get hx
  simp [Cw w ha hb]⟩)
 have al:gv ss (fun _=>true)=true:=fE.mpr fun _ _=>rfl
 have cp:KR ss:=KR.of (w.Oi hk) (by decide) fun d hd e he=>by
  obtain ⟨a,b,rfl,ha,hb⟩:=w.get hd
  obtain ⟨a',b',rfl,ha',hb'⟩:=w.get he
  have:=fE.mp w.sd
  simp only [cm]
  exact tQ (by simp [gv,this a ha,this b hb]) (by simp [gv,this a' ha',this b' hb'])
 have ir:=oJ cp (by omega) h
 rw [Bs w.sr] at ir
 have bm:=lx ss (fun _=>true) h
 rw [al] at bm
 simp only [] at key
 simp [key,bm,ir]
theorem Kj (w:Wb k ns ss) (hk:k<=600) (h:Hm):oh [.dat (.tuple [.tuple ns,.tuple ss])] h=.ok (.bool true) h:=by
 have e1:=wZ w.Mn (by decide) h
 rw [w.names] at e1
 unfold oh xS
 simp [L6,e1,zV w hk h]
theorem Kk (w:Wb k ns ss) (hk:k<=600) (h:Hm):cL [.dat (.tuple [.tuple ns,.tuple ss])] h=.ok D.none h:=by
 unfold cL qe
 simp [Kj w hk h]
end
section
variable {k1 k2:Nat} {n1 s1 n2 s2:List PyData}
theorem He (w1:Wb k1 n1 s1):ai (.tuple [.tuple n1,.tuple s1])=true:=by
 simp [ai,au,fL.uh w1.nr.sub,cF.uh w1.sr.sub]
theorem Kl (w1:Wb k1 n1 s1):(PyData.tuple [.tuple n1,.tuple s1]).depth<=40:=by
 have a:=fc (m:=1) (ds:=n1) fun d m=>fL.dep d (w1.nr.sub d m)
 have b:=fc (m:=1) (ds:=s1) fun d m=>cF.dep d (w1.sr.sub d m)
 simp only [PyData.depth,PyData.depthAll]
 omega
end
def Km:PyData->PyData
 | .tuple [a,_]=>a
 | _=>.none
def Kn:PyData->PyData
 | .tuple [_,b]=>b
 | _=>.none
theorem dP (n:Nat) (ds:List PyData):MO.below n (.lst (ds.map D.dat))=true:=by
 simp [MO.below,D.below]
theorem zW {n:Nat} {ρ ρ1:Fm} {g:MG} {t:MT} {e:ME} {x y:D} {xs ys:List D} {h h1 h2 h3 h4:Hm} (hg:g x (List.replicate n none++ρ) h=.ok ρ1 h1) (ht:t ρ1 h1=.ok true h2) (he:e ρ1 h2=.ok y h3) (hr:eh n ρ g t e xs h3=.ok ys h4):eh n ρ g t e (x::xs) h=.ok (y::ys) h4:=by
 unfold eh
 rw [hg]
 simp only [R.bI,R.ay]
 rw [ht]
 simp only [R.bI,R.ay,Qe]
 rw [he]
 simp only [R.bI,R.ay]
 rw [hr]
 rfl
theorem tU {one:PyData}:∀ {ls:List PyData} {ys:List D},PySem.Paired (fun x y=>∃ d,x=.dat d/\y=.dat (.tuple [one,d])) (ls.map D.dat) ys->ys=(ls.map fun y=>PyData.tuple [one,y]).map D.dat
 | [],ys,h=>by
  cases h
  rfl
 | l::ls,ys,h=>by
  cases h with
  | cons a b=>
   obtain ⟨d,e,rfl⟩:=a
   cases e
   rw [tU b]
   rfl
structure Pw (pre ns acc:List PyData):Prop where
 ris:acc.Pairwise fun a b=>ltB a b=true
 mem:∀ p∈acc,∃ a b,p=.tuple [a,b]/\a∈pre/\b∈ns
 len:acc.length<=pre.length * ns.length
theorem ER {x a b:PyData} (tx:ai x=true) (ta:ai a=true) (tb:ai b=true) (h:ltB a b=true):ltB (.tuple [x,a]) (.tuple [x,b])=true:=by
 have n:=aQ ta tb (EO ta h)
 simpa [ltB,bJ,cH,aS tx,n] using h
theorem Bu {a b x y:PyData} (ta:ai a=true) (tb:ai b=true) (h:ltB a b=true):ltB (.tuple [a,x]) (.tuple [b,y])=true:=by
 have n:=aQ ta tb (EO ta h)
 simpa [ltB,bJ,cH,n] using h
theorem Pw.step {pre ns acc ls xs:List PyData} {one:PyData} (r:Rw Br ns) (e:ns=pre++one::xs) (P:Pw pre ns acc) (sl:ls.Sublist ns):Pw (pre++[one]) ns (acc++ls.map fun y=>.tuple [one,y]):=by
 have tr:∀ d∈ns,ai d=true:=fun d m=>fL.t (r.sub d m)
 have ho:one∈ns:=by rw [e];simp
 have hp:∀ a∈pre,a∈ns:=fun a m=>by rw [e];simp [m]
 refine ⟨Q7.mpr ⟨P.ris,RH.mpr (Q4 (fun {a b} ha hb l=>ER (tr one ho) (tr a (sl.subset ha)) (tr b (sl.subset hb)) l) (r.ris.sublist sl)),fun p hp' q hq=>?_⟩,fun p m=>?_,?_⟩
 ·obtain ⟨a,b,rfl,ha,hb⟩:=P.mem p hp'
  obtain ⟨y,hy,rfl⟩:=P8.mp hq
  have rr:=r.ris
  rw [e] at rr
  exact Bu (tr a (hp a ha)) (tr one ho) ((Q7.mp rr).2.2 a ha one (by simp))
 ·rcases PL.mp m with z | z
  ·obtain ⟨a,b,rfl,ha,hb⟩:=P.mem p z
   exact ⟨a,b,rfl,by simp [ha],hb⟩
  ·obtain ⟨y,hy,rfl⟩:=P8.mp z
   exact ⟨one,y,rfl,by simp,sl.subset hy⟩
 ·have l1:=P.len
  have l2:=sl.length_le
  simp only [PU,PX,PQ,Ql,Nat.add_mul]
  omega
abbrev Rel:=PyData->PyData->Bool
def rows (ns:List PyData) (r:Rel):List PyData:=ns.flatMap fun a=>(ns.filter (r a)).map fun b=>.tuple [a,b]
abbrev aL (ns:List PyData) (r:Rel):PyData:=.tuple [.tuple ns,.tuple (rows ns r)]
section
variable {ns:List PyData} {r q:Rel} {a b:PyData}
theorem bU {p:PyData}:p∈rows ns r<->∃ a b,p=.tuple [a,b]/\a∈ns/\b∈ns/\r a b=true:=by
 unfold rows
 rw [List.mem_flatMap]
 constructor
 ·rintro ⟨a,ha,m⟩
  obtain ⟨b,hb,rfl⟩:=P8.mp m
  obtain ⟨h1,h2⟩:=Qs.mp hb
  exact ⟨a,b,rfl,ha,h1,h2⟩
 ·rintro ⟨a,b,rfl,ha,hb,h⟩
  exact ⟨a,ha,P8.mpr ⟨b,Qs.mpr ⟨hb,h⟩,rfl⟩⟩
theorem gw:.tuple [a,b]∈rows ns r<->a∈ns/\b∈ns/\r a b=true:=by
 rw [bU]
 constructor
 ·rintro ⟨x,y,e,h⟩
  simp only [RV,RY,and_true] at e
  obtain ⟨rfl,rfl⟩:=e
  exact h
 ·exact fun h=>⟨a,b,rfl,h⟩
theorem dZ (R:Nr ns) (h:a∈ns):ai a=true:=fL.t (R.sub a h)
theorem aV (R:Nr ns):Rw Cu (rows ns r):=by
 refine ⟨fun p m=>?_,?_⟩
 ·obtain ⟨a,b,rfl,ha,hb,_⟩:=bU.mp m
  exact ⟨a,b,R.sub a ha,R.sub b hb,rfl⟩
 ·refine List.pairwise_flatMap.mpr ⟨fun a ha=>RH.mpr ?_,?_⟩
  ·exact Q4 (fun {x y} hx hy l=>ER (dZ R ha) (dZ R ((Qs.mp hx).1)) (dZ R ((Qs.mp hy).1)) l) (R.ris.filter _)
  ·refine Q4 (fun {x y} hx hy l p hp q hq=>?_) R.ris
   obtain ⟨b,_,rfl⟩:=P8.mp hp
   obtain ⟨c,_,rfl⟩:=P8.mp hq
   exact Bu (dZ R hx) (dZ R hy) l
theorem Hf {xs:List PyData} {n:Nat} {f:PyData->List PyData} (h:∀ a,(f a).length<=n):(xs.flatMap f).length<=xs.length * n:=by
 induction xs with
 | nil=>simp
 | cons x xs ih=>
  rw [TC,PU,PQ,Nat.add_mul]
  have:=h x
  omega
theorem ig:(rows ns r).length<=ns.length * ns.length:=Hf fun a=>by
 rw [PX]
 exact Q1 _ _
theorem q0 (R:Nr ns) {k:Nat} (hk:ns.length * ns.length<=k):Wb k ns (rows ns r):=
 ⟨R,aV R,fun a b m=>⟨(gw.mp m).1,(gw.mp m).2.1⟩,Pq ig hk⟩
theorem zX (h:∀ a∈ns,∀ b∈ns,r a b=q a b):rows ns r=rows ns q:=by
 have k:∀ xs:List PyData,(∀ a∈xs,a∈ns)->xs.flatMap (fun a=>(ns.filter (r a)).map fun b=>PyData.tuple [a,b])=xs.flatMap (fun a=>(ns.filter (q a)).map fun b=>PyData.tuple [a,b]):=by
  intro xs
  induction xs with
  | nil=>intro _;rfl
  | cons x xs ih=>
   intro hs
   rw [TC,TC,ih fun a m=>hs a (by simp [m]),List.filter_congr fun b hb=>h x (hs x (by simp)) b hb]
 exact k ns fun _ m=>m
noncomputable def ES (ss:List PyData):Rel:=fun a b=>decide (.tuple [a,b]∈ss)
theorem Bv {k:Nat} {ss:List PyData} (w:Wb k ns ss):ss=rows ns (ES ss):=by
 refine tT cF w.sr (aV w.nr) fun p=>?_
 rw [bU]
 constructor
 ·intro m
  obtain ⟨a,b,rfl,ha,hb⟩:=w.get m
  exact ⟨a,b,rfl,ha,hb,PN m⟩
 ·rintro ⟨a,b,rfl,_,_,h⟩
  exact RE h
theorem yI (R:Nr ns):ai (aL ns r)=true:=He (q0 R (Pm _))
theorem Hg (R:Nr ns):(aL ns r).depth<=40:=Kl (q0 R (Pm _))
theorem yJ {d e:PyData} (td:ai d=true) (te:ai e=true) (l:min d.depth e.depth<=40) (h:Hm):oEq (.dat d) (.dat e) h=.ok (.bool (decide (d=e))) h:=by
 have q:PyData.eqv d e=decide (d=e):=by
  by_cases z:d=e
  ·subst z;rw [PN rfl];exact aS td
  ·rw [PR z];exact aQ td te z
 have l':=PN l
 simp only [oEq,qP,jH,eqQ,noDict,bZ td,bZ te,l',q,SV,Ro,Qe]
theorem oN {d e:PyData} (td:ai d=true) (te:ai e=true) (l:min d.depth e.depth<=40) (h:Hm):nE (.dat d) (.dat e) h=.ok (.bool !(decide (d=e))) h:=by
 have q:PyData.eqv d e=decide (d=e):=by
  by_cases z:d=e
  ·subst z;rw [PN rfl];exact aS td
  ·rw [PR z];exact aQ td te z
 have l':=PN l
 simp only [nE,qP,jH,eqQ,noDict,bZ td,bZ te,l',q,SV,Ro,Qe]
theorem ET (h:Hm) {n2:List PyData} (R:Nr ns) (R2:Nr n2):oEq (.dat (aL ns r)) (.dat (aL n2 q)) h=.ok (.bool (decide (aL ns r=aL n2 q))) h:=yJ (yI R) (yI R2) (by have:=Hg (r:=r) R;omega) h
theorem EU {d e:PyData} (td:ai d=true) (te:ai e=true) (l:d.depth<=40):B5 d e=some (decide (d=e)):=by
 have q:PyData.eqv d e=decide (d=e):=by
  by_cases z:d=e
  ·subst z;rw [PN rfl];exact aS td
  ·rw [PR z];exact aQ td te z
 have l':decide (min d.depth e.depth<=40)=true:=PN (by omega)
 have:B5 d e=eqQ d e:=by
  unfold B5
  split
  ·rename_i k;simp [ai] at te
  ·rename_i k;simp [ai] at te
  ·rfl
 rw [this]
 simp only [eqQ,noDict,bZ td,bZ te,l',q,SV,Ro,Qe]
theorem yK {d:PyData} (td:ai d=true):∀ {ds:List PyData},au ds=true->(∀ e∈ds,e.depth<=40)->CD d ds=some (decide (d∈ds))
 | [],_,_=>by simp [CD]
 | e::ds,t,l=>by
  simp only [au,Pl] at t
  have ih:=yK td t.2 fun x m=>l x (Pr _ m)
  unfold CD
  rw [EU t.1 td (l e (by simp)),ih]
  by_cases z:e=d
  ·subst z;simp
  ·have z':¬ d=e:=fun y=>z y.symm
   simp [z,z']
theorem oO {d:PyData} (td:ai d=true) {ds:List PyData} (t:au ds=true) (l:∀ e∈ds,e.depth<=40) (h:Hm):findIn (.dat d) (.dat (.tuple ds)) h=some (decide (d∈ds))/\findIn (.dat d) (.dat (.list ds)) h=some (decide (d∈ds)):=by
 simp only [findIn,gI,nP,qP,jH,yK td t l,and_self]
theorem Hh {d:PyData} (td:ai d=true) {ds:List PyData} (t:au ds=true) (l:∀ e∈ds,e.depth<=40) (h:Hm):nQ (.dat d) (.dat (.tuple ds)) h=.ok (.bool (decide (d∈ds))) h:=by
 simp only [nQ,(oO td t l h).1]
theorem yL {d:PyData} (td:ai d=true) {ds:List PyData} (t:au ds=true) (l:∀ e∈ds,e.depth<=40) (h:Hm):wg (.dat d) (.dat (.tuple ds)) h=.ok (.bool !(decide (d∈ds))) h:=by
 simp only [wg,(oO td t l h).1]
theorem zY {U:PyData->Prop} {xs:List PyData} (u:tS U) (R:Rw U xs):∀ e∈xs,e.depth<=40:=fun e m=>Pq (u.dep e (R.sub e m)) (by decide)
theorem Bw {U:PyData->Prop} {xs:List PyData} (u:tS U) (R:Rw U xs):au xs=true:=u.uh R.sub
theorem rf (R:Nr ns) (ha:a∈ns) (hb:b∈ns):ai (.tuple [a,b])=true:=by simp [ai,au,dZ R ha,dZ R hb]
theorem rg (R:Nr ns) (ha:a∈ns) (hb:b∈ns) (h:Hm):nQ (.dat (.tuple [a,b])) (.dat (.tuple (rows ns r))) h=.ok (.bool (r a b)) h:=by
 have:decide (.tuple [a,b]∈rows ns r)=r a b:=by
  rw [QB,RW,gw];simp [ha,hb]
 rw [Hh (rf R ha hb) (Bw cF (aV R)) (zY cF (aV R)),this]
end
inductive Kd where
 | stable
 | standing
 | preferred
 | whole
 | grounded
def Kd.nm:Kd->Str
 | .stable => "stable"
 | .standing => "standing"
 | .preferred => "preferred"
 | .whole => "whole"
 | .grounded => "grounded"
def Kd.I:Kd->Bool->Bool->Bool->Bool
 | .stable,x,_,_=>x
 | .standing,x,y,z=>x && (z || y)
 | .preferred,x,y,z=>x && (z || y)
 | .whole,x,y,_=>x && y
 | .grounded,x,y,z=>y && (x || z)
def pS (kd:Kd) (r:Rel):Rel:=fun a b=>kd.I (r a a) (r b b) (r b a)
noncomputable def qK (kd:Kd) (r:Rel):Rel:=fun a b=>r a b && (decide (a=b) || !pS kd r a b)
noncomputable def L7 (kd:Kd) (r:Rel):Rel:=fun a b=>qK kd r a b || (!decide (a=b) && pS kd (qK kd r) a b)
theorem Kd.back {kd:Kd} {x y z z' w:Bool} (h:kd.I x y z≠kd.I x y z'):kd.I y x w=false:=by
 cases kd<;>cases x<;>cases y<;>simp_all [Kd.I]
section
variable {ns:List PyData} {r q:Rel} {a b:PyData} {kd:Kd}
theorem EV (kd:Kd) (h:Hm):gV [.dat (.str kd.nm)] h=.ok D.none h:=by
 cases kd<;>kernel_rfl
def Cy (ns:List PyData) (r:Rel):D:=.iu true ((rows ns r).map fun p=>(p,.bool true))
theorem vI {ds:List PyData} (t:au ds=true) {d:PyData} (td:ai d=true) {v:PyData}:nO d (ds.map fun p=>(p,v))=decide (d∈ds):=by
 unfold nO
 rw [List.any_map]
 rw [QB,RW,Se]
 constructor
 ·rintro ⟨x,hx,e⟩
  have:=(kG (aM t hx) td).mp e
  subst this
  exact hx
 ·exact fun m=>⟨d,m,aS td⟩
theorem EW {p:PyData} (h:Cu p):keyOk true p=true:=by
 obtain ⟨h1,h2,h3,h4,h5,_⟩:=j7 h
 have:p.depth<=8:=Pq h5 (by decide)
 simp [keyOk,h1,h3,this]
theorem yM (Rn:Nr ns) (ha:a∈ns) (hb:b∈ns):Cu (.tuple [a,b]):=⟨a,b,Rn.sub a ha,Rn.sub b hb,rfl⟩
theorem zZ (Rn:Nr ns) (ha:a∈ns) (hb:b∈ns) (h:Hm):nQ (.dat (.tuple [a,b])) (Cy ns r) h=.ok (.bool (r a b)) h:=by
 have e:decide (.tuple [a,b]∈rows ns r)=r a b:=by
  rw [QB,RW,gw];simp [ha,hb]
 simp only [nQ,findIn,gI,Cy,we,EW (yM Rn ha hb),Qe,vI (Bw cF (aV Rn)) (rf Rn ha hb),e]
theorem vJ {ρ:Fm} {h:Hm}:∀ {ss acc:List PyData},(∀ d∈acc++ss,Cu d)->(acc++ss).Nodup->acc.length+ss.length < 1000->fk true 1 ρ (aB 0) fH (ae 0) (aj (.bool true)) (ss.map D.dat) (acc.map fun p=>(p,.bool true)) h=.ok ((acc++ss).map fun p=>(p,.bool true)) h
 | [],acc,_,_,_=>by simp [fk]
 | d::ss,acc,hs,nd,hl=>by
  simp only [PQ] at hl
  have ih:=vJ (ρ:=ρ) (h:=h) (ss:=ss) (acc:=acc++[d]) (by simpa using hs) (by simpa using nd) (by simp;omega)
  have hd:Cu d:=hs d (by simp)
  have ta:au acc=true:=iE fun x m=>cF.t (hs x (by simp [m]))
  have kn:nO d (acc.map fun p=>(p,PyData.bool true))=false:=by
   rw [vI ta (cF.t hd)]
   refine PR fun m=>?_
   exact (RF.mp nd).2.2 d m d (by simp) rfl
  have lt:decide ((acc.map fun p=>(p,PyData.bool true)).length < 16777216)=true:=PN (by rw [PX];omega)
  have dp:dput (acc.map fun p=>(p,PyData.bool true)) d (.bool true)=(acc++[d]).map fun p=>(p,.bool true):=by simp [dput,kn]
  simp only [P9,fk,aB,R.bI,R.ay,fH,Qe,rep1,RP,Rb,QL,ae,Q8,aj,EW hd,Bool.true_or,TF,lt,dp]
  rw [ih]
  simp
theorem oP (hn:ns.length<=12):(rows ns r).length<=144:=Pq ig (Rr hn hn)
theorem Ko (Rn:Nr ns) {ρ:Fm} {h:Hm} {m:ME} (e:m ρ h=.ok (.dat (.tuple (rows ns r))) h):pF true 1 (bb m) (aB 0) (fH) (ae 0) (aj (.bool true)) ρ h=.ok (Cy ns r) h:=by
 have l:=oP (r:=r) (Rn.le)
 have:=vJ (ρ:=ρ) (h:=h) (ss:=rows ns r) (acc:=[]) (by simpa using (aV Rn).sub) (by simpa using jD cF (aV Rn)) (by simp;omega)
 simp only [Ri,Rb] at this
 unfold pF
 rw [fF e]
 simp only [R.ay,this,Cy]
theorem Hi (Rn:Nr ns) (ha:a∈ns) (hb:b∈ns) (h:Hm) :
  ck [Cy ns r,.dat a,.dat b] h=.ok (.bool (pS .stable r a b)) h/\bq [Cy ns r,.dat a,.dat b] h=.ok (.bool (pS .standing r a b)) h /\
  cA [Cy ns r,.dat a,.dat b] h=.ok (.bool (pS .whole r a b)) h/\bP [Cy ns r,.dat a,.dat b] h=.ok (.bool (pS .grounded r a b)) h:=by
 have e1:=zZ (r:=r) Rn ha ha h
 have e2:=zZ (r:=r) Rn hb hb h
 have e3:=zZ (r:=r) Rn hb ha h
 refine ⟨?_,?_,?_,?_⟩
 ·simp [ck,iI,e1,pS,Kd.I]
 ·cases x1:r a a<;>cases x2:r b b<;>cases x3:r b a<;>rw [x1] at e1<;>rw [x2] at e2<;>rw [x3] at e3<;>simp [bq,gK,e1,e2,e3,pS,Kd.I,x1,x2,x3]
 ·cases x1:r a a<;>cases x2:r b b<;>rw [x1] at e1<;>rw [x2] at e2<;>simp [cA,jw,e1,e2,pS,Kd.I,x1,x2]
 ·cases x1:r a a<;>cases x2:r b b<;>cases x3:r b a<;>rw [x1] at e1<;>rw [x2] at e2<;>rw [x3] at e3<;>simp [bP,gM,e1,e2,e3,pS,Kd.I,x1,x2,x3]
def Kd.fn:Kd->Str
 | .stable => "idle_for_stable"
 | .standing => "idle_for_standing"
 | .preferred => "idle_for_standing"
 | .whole => "idle_for_whole"
 | .grounded => "idle_for_grounded"
theorem Hj {m:ME} {ρ:Fm} {h:Hm} (kd:Kd) (e:m ρ h=.ok (.dat (.str kd.nm)) h):xU sL m ρ h=.ok (.fn kd.fn) h:=by
 unfold xU
 rw [e]
 simp only [R.ay]
 cases kd<;>kernel_rfl
abbrev tV:List (Str×Fn):=[("idle_for_grounded",bP),("idle_for_standing",bq),("idle_for_stable",ck),("idle_for_whole",cA)]
theorem EX (Rn:Nr ns) (ha:a∈ns) (hb:b∈ns) {i:Nat} {ma:MA} {ρ:Fm} {h:Hm} (ei:ρ[i]?=some (some (.fn kd.fn))) (em:ma ρ h=.ok [Cy ns r,.dat a,.dat b] h):ni i tV ma ρ h=.ok (.bool (pS kd r a b)) h:=by
 obtain ⟨k1,k2,k3,k4⟩:=Hi (r:=r) Rn ha hb h
 unfold ni
 rw [ei]
 cases kd
 ·have:tV.lookup (Kd.fn .stable)=some ck:=by kernel_rfl
  simp only [this]
  rw [bz em,k1]
 ·have:tV.lookup (Kd.fn .standing)=some bq:=by kernel_rfl
  simp only [this]
  rw [bz em,k2]
 ·have:tV.lookup (Kd.fn .preferred)=some bq:=by kernel_rfl
  simp only [this]
  rw [bz em,k2]
  rfl
 ·have:tV.lookup (Kd.fn .whole)=some cA:=by kernel_rfl
  simp only [this]
  rw [bz em,k3]
 ·have:tV.lookup (Kd.fn .grounded)=some bP:=by kernel_rfl
  simp only [this]
  rw [bz em,k4]
end
section
variable {a b:MS} {t:MT} {m m2:ME} {ρ ρ1:Fm} {h h1 h2:Hm} {r:R Fl} {x y:D} {i:Nat} {g:MG} {it:MA} {f:Fn} {ma:MA} {xs:List D}
theorem aR (e:a ρ h=.ok (.nx ρ1) h1) (k:b ρ1 h1=r):bh a b ρ h=r:=(lZ e).trans k
theorem cE (e:m ρ h=.ok x h1):bT i m ρ h=.ok (.nx (ρ.set i (some x))) h1:=qY e
theorem gk (e:m ρ h=.ok x h1):gp m ρ h=.ok (.nx ρ) h1:=by simp only [gp,e,R.ay]
theorem pT (e:m ρ h=.ok x h1) (k:g x ρ h1=.ok ρ1 h2):kC g m ρ h=.ok (.nx ρ1) h2:=by simp only [kC,e,R.ay,k]
theorem eV (e:m ρ h=.ok x h1):cG m ρ h=.ok (.rt x) h1:=xb e
theorem EY (e:t ρ h=.ok true h1) (k:a ρ h1=r):mW t a b ρ h=r:=(Ig e).trans k
theorem Aa (e:t ρ h=.ok false h1) (k:b ρ h1=r):mW t a b ρ h=r:=(Ih e).trans k
theorem ij {p n:Nat} (l:xs.length=p) (e:b (xs.map some++List.replicate (n - p) none) h=.ok (.rt x) h1):bE p n b xs h=.ok x h1:=by
 unfold bE
 rw [if_pos l,e]
 rfl
theorem aw {d:D} (ha:ma ρ h=.ok xs h1) (k:f xs h1=.ok d h2):af f ma ρ h=.ok d h2:=(bz ha).trans k
theorem cq {a b:PyData} (e1:m ρ h=.ok (.dat a) h1) (e2:m2 ρ h1=.ok (.dat b) h2):bL (aa m (aa m2 ag)) ρ h=.ok (.dat (.tuple [a,b])) h2:=(bz (ak e1 (ak e2 rfl))).trans (Kc _ _ _)
theorem Kp {u:MT} {c d:Bool} (e:t ρ h=.ok c h1) (k:u ρ h1=.ok d h1):yT t u ρ h=.ok (c || d) h1:=by cases c<;>simp [yT,e,k]
theorem Hk {u:MT} {c d:Bool} (e:t ρ h=.ok c h1) (k:u ρ h1=.ok d h1):vR t u ρ h=.ok (c && d) h1:=by cases c<;>simp [vR,e,k]
theorem tW {c:Bool} (e:m ρ h=.ok (.bool c) h1):cM m ρ h=.ok c h1:=vH e rfl
end
section
variable {ns:List PyData} {r q:Rel} {a b:PyData} {kd:Kd}
theorem qz (Rn:Nr ns) (c:Rel) {f:PyData->Bool} (hf:∀ a∈ns,∀ b∈ns,f (.tuple [a,b])=c a b):(rows ns r).filter f=rows ns fun a b=>r a b && c a b:=by
 have s:Rw Cu ((rows ns r).filter f):=⟨fun d m=>(aV Rn).sub d (Qs.mp m).1,(aV Rn).ris.filter _⟩
 refine tT cF s (aV Rn) fun p=>?_
 rw [Qs,bU,bU]
 constructor
 ·rintro ⟨⟨a,b,rfl,ha,hb,h⟩,k⟩
  exact ⟨a,b,rfl,ha,hb,by rw [h,<- hf a ha b hb,k];rfl⟩
 ·rintro ⟨a,b,rfl,ha,hb,h⟩
  simp only [Pl] at h
  exact ⟨⟨a,b,rfl,ha,hb,h.1⟩,by rw [hf a ha b hb];exact h.2⟩
theorem Bx (ha:ai a=true) (hb:ai b=true) (la:a.depth<=40) (h:Hm):oEq (.dat a) (.dat b) h=.ok (.bool (decide (a=b))) h:=yJ ha hb (by omega) h
theorem Ab (Rn:Nr ns) (ha:a∈ns):a.depth<=40:=Pq (fL.dep a (Rn.sub a ha)) (by decide)
theorem lB (Rn:Nr ns) (h:Hm):cL [.dat (aL ns r)] h=.ok D.none h:=Kk (q0 Rn (Pm _)) (by have:=Rn.le;exact Pq (Rr this this) (by decide)) h
noncomputable def Ac (kd:Kd) (r:Rel) (p:PyData):Bool:=decide (Km p=Kn p) || !pS kd r (Km p) (Kn p)
theorem vK (Rn:Nr ns) (kd:Kd) (h:Hm):oj [.dat (aL ns r),.dat (.str kd.nm)] h=.ok (.dat (aL ns (qK kd r))) h:=by
 have l:=oP (r:=r) (Rn.le)
 have key:=fT (n:=2) (it:=bb (ae 4)) (g:=iq (bR (aB 0) (bR (aB 1) (ip)))) (t:=yT (aN (aq oEq (ae 0) (ae 1))) (ki (cM (ni 4 tV (aa (ae 7) (aa (ae 0) (aa (ae 1) (ag)))))))) (e:=bL (aa (ae 0) (aa (ae 1) (ag))))
  (ρ:=[some (.dat (aL ns r)),some (.dat (.str kd.nm)),some (.fn kd.fn),some (.dat (.tuple ns)),some (.dat (.tuple (rows ns r))),some (Cy ns r),none]) (h:=h) (h1:=h) (ds:=rows ns r) (fF (by rfl)) (by omega) (Ac kd r) (fun p=>p) (fun p hp=>by
   obtain ⟨a,b,rfl,ha,hb,hr⟩:=bU.mp hp
   refine ⟨[some (.dat a),some (.dat b),some (.dat (aL ns r)),some (.dat (.str kd.nm)),some (.fn kd.fn),some (.dat (.tuple ns)),some (.dat (.tuple (rows ns r))),some (Cy ns r),none],rfl,?_,fun _=>by simp⟩
   have e1:aN (aq oEq (ae 0) (ae 1)) [some (.dat a),some (.dat b),some (.dat (aL ns r)),some (.dat (.str kd.nm)),some (.fn kd.fn),some (.dat (.tuple ns)),some (.dat (.tuple (rows ns r))),some (Cy ns r),none] h=.ok (decide (a=b)) h:=cf (aC rfl rfl (Bx (dZ Rn ha) (dZ Rn hb) (Ab Rn ha) h))
   have e2:=EX (r:=r) (kd:=kd) Rn ha hb (i:=4) (ma:=aa (ae 7) (aa (ae 0) (aa (ae 1) (ag)))) (ρ:=[some (.dat a),some (.dat b),some (.dat (aL ns r)),some (.dat (.str kd.nm)),some (.fn kd.fn),some (.dat (.tuple ns)),some (.dat (.tuple (rows ns r))),some (Cy ns r),none]) (h:=h) rfl rfl
   have e3:=Bp (vH e2 (c:=pS kd r a b) rfl)
   unfold yT
   rw [e1]
   simp only [R.ay,Ac,Km,Kn]
   by_cases z:a=b
   ·simp [z]
   ·simp only [z,TL,PB,Qm,Bool.false_or]
    exact e3)
 have fl:(rows ns r).filter (Ac kd r)=rows ns (qK kd r):=qz Rn (fun a b=>decide (a=b) || !pS kd r a b) fun a _ b _=>rfl
 rw [List.map_id',fl] at key
 have l2:=oP (r:=qK kd r) (Rn.le)
 have t1:=lB (r:=r) Rn h
 have t2:=EV kd h
 have t4:xU sL (ae 1) [some (.dat (aL ns r)),some (.dat (.str kd.nm)),none,none,none,none,none] h=.ok (.fn kd.fn) h:=Hj kd rfl
 have t5:=Ko (r:=r) Rn (ρ:=[some (.dat (aL ns r)),some (.dat (.str kd.nm)),some (.fn kd.fn),some (.dat (.tuple ns)),some (.dat (.tuple (rows ns r))),none,none]) (h:=h) (m:=ae 4) rfl
 exact ij rfl (aR (gk (aw (xs:=[.dat (aL ns r)]) rfl t1)) (aR (gk (aw (xs:=[.dat (.str kd.nm)]) rfl t2)) (aR (cE t4) (aR (pT (x:=.dat (aL ns r)) rfl rfl) (aR (cE t5) (aR (cE key) (eV (cq (a:=.tuple ns) rfl (aw (xs:=[.dat (.list (rows ns (qK kd r)))]) rfl rfl)))))))))
end
section
variable {ns:List PyData} {r q:Rel} {a b:PyData} {kd:Kd}
theorem EZ {n2:List PyData} (Rn:Nr ns) (R2:Nr n2) (kd:Kd) (h:Hm):iK [.dat (aL ns r),.dat (aL n2 q),.dat (.str kd.nm)] h=.ok (.bool (decide (aL ns (qK kd r)=aL n2 (qK kd q)))) h:=
 ij rfl (aR (gk (aw (xs:=[.dat (aL ns r)]) rfl (lB Rn h))) (aR (gk (aw (xs:=[.dat (aL n2 q)]) rfl (lB R2 h))) (aR (gk (aw (xs:=[.dat (.str kd.nm)]) rfl (EV kd h)))
  (eV (aC (aw (xs:=[.dat (aL ns r),.dat (.str kd.nm)]) rfl (vK Rn kd h)) (aw (xs:=[.dat (aL n2 q),.dat (.str kd.nm)]) rfl (vK R2 kd h)) (ET h Rn R2))))))
end
section
variable {ns:List PyData} {r q:Rel} {a b x y:PyData} {kd:Kd}
def Oj (ns:List PyData) (kd:Kd) (r q:Rel):Prop:=∀ a∈ns,∀ b∈ns,(a=b\/pS kd r a b=false)->q a b=r a b
theorem Oj.pS (A:Oj ns kd r q) (ha:a∈ns) (hb:b∈ns):pS kd q a b=pS kd r a b:=by
 have e1:=A a ha a ha (.inl rfl)
 have e2:=A b hb b hb (.inl rfl)
 unfold Ml.pS
 rw [e1,e2]
 by_cases h:kd.I (r a a) (r b b) (q b a)=kd.I (r a a) (r b b) (r b a)
 ·exact h
 ·have:q b a=r b a:=A b hb a ha (.inr (Kd.back h))
  rw [this]
theorem Hl:Oj ns kd r (qK kd r):=fun a ha b hb h=>by
 unfold qK
 rcases h with z | z
 ·simp [z]
 ·simp [z]
noncomputable def By (r:Rel) (x y:PyData):Rel:=fun a b=>if a=x/\b=y then !r a b else r a b
end
structure Px (i:Nat) (h:Hm):Prop where
 box:∃ n f:Int,h[i]?=some (.lst [.int n,.int f])
 wf:Wf h
def Ps (i:Nat) (h h':Hm):Prop:=∃ n f:Int,h'=h.set i (.lst [.int n,.int f])
theorem Px.lt {i:Nat} {h:Hm} (b:Px i h):i < h.length:=by
 obtain ⟨⟨n,f,e⟩,_⟩:=b
 exact (PF.mp e).1
theorem Px.refl {i:Nat} {h:Hm} (b:Px i h):Ps i h h:=by
 obtain ⟨⟨n,f,e⟩,_⟩:=b
 refine ⟨n,f,?_⟩
 obtain ⟨l,e⟩:=PF.mp e
 rw [<- e]
 exact (List.set_getElem_self l).symm
theorem Ps.trans {i:Nat} {h h' h'':Hm} (a:Ps i h h') (b:Ps i h' h''):Ps i h h'':=by
 obtain ⟨n,f,rfl⟩:=a
 obtain ⟨k,g,rfl⟩:=b
 exact ⟨k,g,by rw [List.set_set]⟩
theorem Ps.px {i:Nat} {h h':Hm} (s:Ps i h h') (b:Px i h):Px i h':=by
 obtain ⟨n,f,rfl⟩:=s
 exact ⟨⟨n,f,by rw [QA b.lt]⟩,b.wf.set rfl⟩
theorem Ps.len {i:Nat} {h h':Hm} (s:Ps i h h'):h'.length=h.length:=by
 obtain ⟨n,f,rfl⟩:=s
 simp
theorem Px.push {i:Nat} {h:Hm} (b:Px i h) {o:MO} (q:MO.below (h.length+1) o=true):Px i (h++[o]):=by
 obtain ⟨n,f,e⟩:=b.box
 exact ⟨⟨n,f,by rw [PY b.lt];exact e⟩,b.wf.push q⟩
theorem Ps.pop {i:Nat} {h h':Hm} {o:MO} (b:i < h.length) (s:Ps i (h++[o]) h'):∃ h1,h'=h1++[o]/\Ps i h h1:=by
 obtain ⟨n,f,rfl⟩:=s
 exact ⟨_,by rw [List.set_append_left _ _ b],n,f,rfl⟩
def Dp {α:Type} (i:Nat) (h:Hm) (r:R α) (P:α->Prop):Prop:=∃ a h',r=.ok a h'/\Ps i h h'/\P a
section
variable {α β:Type} {i:Nat} {h:Hm} {r:R α} {f:α->Hm->R β} {P P':α->Prop} {Q:β->Prop}
theorem Dp.ok {a:α} (b:Px i h) (p:P a):Dp i h (.ok a h) P:=⟨a,h,rfl,b.refl,p⟩
end
theorem yN {f:Fn} {xs:List D} {i:Nat} {h h1 t:Hm} {x:PyData} (b:Px i h) (e:f xs h=.ok (.dat x) (h1++t)) (s:Ps i h h1):gq f xs h=.ok (.dat x) h1:=by
 have hl:=s.len
 have w:=(s.px b).wf
 have e1:(h1++t).take h.length=h1:=by rw [<- hl,List.take_left'];rfl
 unfold gq
 rw [e]
 have:(h1.all (MO.below h.length))=true:=by rw [<- hl];exact PH.mpr fun o m=>w o m
 simp [e1,D.below,this,hl]
theorem oQ {i j:Int} (h0:0<=j) (hj:j < 1000000000000) (h:Hm):kE (.int i) (.int j) h=.ok (.int (i * j)) h:=by
 have:AH i j=true:=by
  unfold AH
  rw [show decide (-(2 ^ 64) < j)=true from PN (by omega),show decide (j < 2 ^ 64)=true from PN (by omega)]
  simp
 simp [kE,this]
theorem oR {i j:Int} (h0:0 < j) (h:Hm):oMod (.int i) (.int j) h=.ok (.int (i % j)) h:=by simp [oMod,h0]
theorem E0 {i j:Int} (h0:0 < j) (h1:j < 1073741824) (h:Hm):uY (.int i) (.int j) h=.ok (.int (i / j)) h:=by simp [uY,h0,h1]
theorem oS {i j:Int} (h:Hm):dH (.int i) (.int j) h=.ok (.int (i+j)) h:=rfl
theorem oU {i j:Int} (h:Hm):oEq (.int i) (.int j) h=.ok (.bool (decide (i=j))) h:=by
 simp [oEq,qP,eqQ,noDict,PyData.hasDict,PyData.depth,PyData.eqv]
 rfl
theorem ee {i:Nat} {h:Hm} (b:Px i h) {c:Int} (h0:0 < c) (h1:c < 1073741824):Dp i h (ao [.ref i,.int c] h) fun d=>∃ k:Nat,d=.int k/\(k:Int) < c:=by
 obtain ⟨⟨n,f,e⟩,_⟩:=b
 have hl:=(PF.mp e).1
 have i0:∀ a b c d:Option D,aq dQ (ae 0) (aj (.int 0)) [some (.ref i),a,b,c,d] h=.ok (.int n) h:=fun a b c d=>by simp [dQ,gI,qF,e,mf,uc]
 have i1:∀ a b c d:Option D,aq dQ (ae 0) (aj (.int 1)) [some (.ref i),a,b,c,d] h=.ok (.int f) h:=fun a b c d=>by simp [dQ,gI,qF,e,mf,uc]
 have st:∀ (m:Int) (a b c d:Option D),xk (ae 0) (aj (.int 0)) (.int m) [some (.ref i),a,b,c,d] h=.ok [some (.ref i),a,b,c,d] (h.set i (.lst [.int m,.int f])):=fun m a b c d=>by simp [xk,wk,e,AJ,uc]
 by_cases hf:f=1
 ·refine ⟨.int (n % c),h.set i (.lst [.int (n / c),.int f]),?_,⟨_,_,rfl⟩,(n % c).toNat,?_,?_⟩
  ·have t1:aN (aq oEq (aq dQ (ae 0) (aj (.int 1))) (aj (.int 1))) [some (.ref i),some (.int c),none,none,none] h=.ok true h:=cf (aC (i1 _ _ _ _) rfl (by rw [oU];simp [hf]))
   have t2:af nR (aa (aq dQ (ae 0) (aj (.int 0))) (aa (ae 1) (ag))) [some (.ref i),some (.int c),none,none,none] h=.ok (.dat (.tuple [.int (n / c),.int (n % c)])) h:=(bz (ak (i0 _ _ _ _) (ak rfl rfl))).trans (by simp [nR,h0,h1])
   unfold ao kK bE
   simp only [PQ,Ql,Qe,P9,Ri,RP,Rb,show 5 - 2=3 from rfl,rep3]
   unfold bh
   rw [Ig t1]
   simp only [kC,t2,R.ay,iq,P9,Ri,bR,aB,ip,Q5,QL]
   simp only [ae,RN,Q8,R.ay,st]
   rfl
  ·rw [Si (RZ _ (by omega))]
  ·rw [Si (RZ _ (by omega))]
   exact SI _ h0
 ·generalize hA:(n % 2147483647+40503) * 69621 % 2147483629=A
  generalize hB:(A * A+7817) % 2147483587=B
  generalize hC:(B * 48271+11) % 2147483629=C
  have a0:0<=A:=by rw [<- hA];exact RZ _ (by decide)
  have a1:A < 2147483629:=by rw [<- hA];exact SI _ (by decide)
  refine ⟨.int (C / 32 % c),h.set i (.lst [.int C,.int f]),?_,⟨_,_,rfl⟩,(C / 32 % c).toNat,?_,?_⟩
  ·have t1:aN (aq oEq (aq dQ (ae 0) (aj (.int 1))) (aj (.int 1))) [some (.ref i),some (.int c),none,none,none] h=.ok false h:=cf (aC (i1 _ _ _ _) rfl (by rw [oU];simp [hf]))
   have t2:bT 4 (aq oMod (aq kE (aq dH (aq oMod (aq dQ (ae 0) (aj (.int 0))) (aj (.int 2147483647))) (aj (.int 40503))) (aj (.int 69621))) (aj (.int 2147483629))) [some (.ref i),some (.int c),none,none,none] h=.ok (.nx [some (.ref i),some (.int c),none,none,some (.int A)]) h:=by
    rw [<- hA]
    exact (qY (aC (aC (aC (aC (i0 _ _ _ _) rfl (oR (by decide) h)) rfl (oS h)) rfl (oQ (by decide) (by decide) h)) rfl (oR (by decide) h))).trans rfl
   have t3:bT 4 (aq oMod (aq dH (aq kE (ae 4) (ae 4)) (aj (.int 7817))) (aj (.int 2147483587))) [some (.ref i),some (.int c),none,none,some (.int A)] h=.ok (.nx [some (.ref i),some (.int c),none,none,some (.int B)]) h:=by
    rw [<- hB]
    exact (qY (aC (aC (aC rfl rfl (oQ a0 (by omega) h)) rfl (oS h)) rfl (oR (by decide) h))).trans rfl
   have t4:kC (xk (ae 0) (aj (.int 0))) (aq oMod (aq dH (aq kE (ae 4) (aj (.int 48271))) (aj (.int 11))) (aj (.int 2147483629))) [some (.ref i),some (.int c),none,none,some (.int B)] h=.ok (.nx [some (.ref i),some (.int c),none,none,some (.int B)]) (h.set i (.lst [.int C,.int f])):=by
    have q:aq oMod (aq dH (aq kE (ae 4) (aj (.int 48271))) (aj (.int 11))) (aj (.int 2147483629)) [some (.ref i),some (.int c),none,none,some (.int B)] h=.ok (.int C) h:=by
     rw [<- hC]
     exact aC (aC (aC rfl rfl (oQ (by decide) (by decide) h)) rfl (oS h)) rfl (oR (by decide) h)
    simp only [kC,q,R.ay,st]
   have g:(h.set i (.lst [.int C,.int f]))[i]?=some (.lst [.int C,.int f]):=by rw [QA hl]
   have t5:aq oMod (aq uY (aq dQ (ae 0) (aj (.int 0))) (aj (.int 32))) (ae 1) [some (.ref i),some (.int c),none,none,some (.int B)] (h.set i (.lst [.int C,.int f]))=.ok (.int (C / 32 % c)) (h.set i (.lst [.int C,.int f])):=by
    have q:aq dQ (ae 0) (aj (.int 0)) [some (.ref i),some (.int c),none,none,some (.int B)] (h.set i (.lst [.int C,.int f]))=.ok (.int C) (h.set i (.lst [.int C,.int f])):=by simp only [aq,ae,aj,R.ay,Q8,dQ,gI,qF,g,mf,uc];rfl
    exact aC (aC q rfl (E0 (by decide) (by decide) _)) rfl (oR h0 _)
   unfold ao kK bE
   simp only [PQ,Ql,Qe,P9,Ri,RP,Rb,show 5 - 2=3 from rfl,rep3]
   rw [lZ ((Ih t1).trans rfl),lZ t2,lZ t3,lZ t4,xb t5]
   rfl
  ·rw [Si (RZ _ (by omega))]
  ·rw [Si (RZ _ (by omega))]
   exact SI _ h0
theorem Kq (z:Int) {h:Hm} (w:Wf h):∃ n f:Int,hU [.int z] h=.ok (.ref h.length) (h++[.lst [.int n,.int f]])/\Px h.length (h++[.lst [.int n,.int f]]):=by
 obtain ⟨n,hn⟩:∃ n:Int,B7 [.int z,.int (0 - z)] h=.ok (.int n) h:=by unfold B7;exact ⟨_,rfl⟩
 refine ⟨n,if 10 ^ 18<=n then 1 else 0,?_,⟨⟨n,if 10 ^ 18<=n then 1 else 0,by simp⟩,w.push rfl⟩⟩
 unfold hU sM bE
 simp only [PQ,Ql,Qe,P9,Ri,RP,Rb,show 2 - 1=1 from rfl,rep1]
 have t1:bT 1 (af B7 (aa (ae 0) (aa (aq Dt (aj (.int 0)) (ae 0)) (ag)))) [some (.int z),none] h=.ok (.nx [some (.int z),some (.int n)]) h:=(qY ((bz (ak rfl (ak rfl rfl))).trans hn)).trans rfl
 rw [lZ t1]
 have t2:∀ b:Bool,rR [.bool b] h=.ok (.int (if b then 1 else 0)) h:=fun b=>rfl
 have t3:af rR (aa (aq Lv (ae 1) (aj (.int (10 ^ 18)))) (ag)) [some (.int z),some (.int n)] h=.ok (.int (if 10 ^ 18<=n then 1 else 0)) h:=by
  refine (bz (ak (aC rfl rfl rfl) rfl)).trans ?_
  rw [t2]
  simp
 refine (Rv (fun r=>R.bind r rN) (xb (m:=jG _) ((bz (ak rfl (ak t3 rfl))).trans rfl))).trans rfl
def tX:List PyData:=[.str "a",.str "aa",.str "ab",.str "abcdef",.str "b",.str "c",.str "d",.str "e",.str "m",.str "x",.str "zz",.str "zzzzzz"]
theorem Bz:∀ d∈tX,Br d:=PH.mp (show tX.all isName=true by decide +kernel)
theorem Hn:tX.Nodup:=jD fL (Ij fL Bz (by decide +kernel))
abbrev E1:ME:=kJ o8 (ae 3) (af ao (aa (ae 1) (aa (af fO (aa (ae 3) (ag))) (ag))))
theorem Ho {i k L:Nat} {m:Int} {he h3:Hm} {left:List PyData} {x:D} (hL:he.length=L) (l3:h3.length=L) (hk:k < left.length) (h12:left.length<=12)
  (e2:ao [.ref i,.int (left.length:Int)] (he++[.lst (left.map D.dat)])=.ok (.int k) (h3++[.lst (left.map D.dat)])) :
  E1 [some x,some (.ref i),some (.int m),some (.ref L)] (he++[.lst (left.map D.dat)])=.ok (.dat left[k]) (h3++[.lst ((left.eraseIdx k).map D.dat)]):=by
 have g1:(he++[MO.lst (left.map D.dat)])[L]?=some (.lst (left.map D.dat)):=by subst hL;simp
 have g2:(h3++[MO.lst (left.map D.dat)])[L]?=some (.lst (left.map D.dat)):=by subst l3;simp
 have bl:fO [.ref L] (he++[.lst (left.map D.dat)])=.ok (.int (left.length:Int)) (he++[.lst (left.map D.dat)]):=by
  simp [fO,g1]
 have il:JS (.ref L) (he++[.lst (left.map D.dat)])=true:=by simp [JS,g1]
 have mp:o8 (.ref L) (.int (k:Int)) (h3++[.lst (left.map D.dat)])=.ok (.dat left[k]) (h3++[.lst ((left.eraseIdx k).map D.dat)]):=by
  have c:(0:Int)<=k/\(k:Int) < (left.map D.dat).length/\(k:Int) < 1000000:=by simp;omega
  have st:(h3++[MO.lst (left.map D.dat)]).set L (.lst ((left.map D.dat).eraseIdx k))=h3++[.lst ((left.eraseIdx k).map D.dat)]:=by
   subst l3
   rw [S6 _ _ (Pm _)]
   simp [SQ]
  simp only [o8,g2,if_pos c,QG,Qw,Pz hk,SF,st]
 unfold E1
 simp only [kJ,af,aa,ag,ae,R.ay,Q8,RN,il,Qe,bl,e2,mp]
theorem Ik {i L:Nat} {m:Int}:∀ {xs:List D} {left:List PyData} {he:Hm},Px i he->he.length=L->xs.length<=left.length->left.length<=12 ->
  ∃ (he':Hm) (out left':List PyData),eh 1 [some (.ref i),some (.int m),some (.ref L)] (aB 0) fH E1 xs (he++[.lst (left.map D.dat)])=.ok (out.map D.dat) (he'++[.lst (left'.map D.dat)])/\Ps i he he'/\out.length=xs.length/\(out++left').Perm left
 | [],left,he,b,_,_,_=>⟨he,[],left,rfl,b.refl,rfl,List.Perm.refl _⟩
 | x::xs,left,he,b,hL,hl,h12=>by
  simp only [PQ] at hl
  have bp:Px i (he++[.lst (left.map D.dat)]):=b.push (dP _ _)
  obtain ⟨_,h2,e2,s2,k,rfl,hk⟩:=ee bp (c:=(left.length:Int)) (by omega) (by omega)
  obtain ⟨h3,rfl,s3⟩:=s2.pop b.lt
  have b3:=s3.px b
  have l3:h3.length=L:=by rw [s3.len,hL]
  have hk':k < left.length:=by omega
  have ll:=R8 hk'
  obtain ⟨he',out,left',q1,q2,q3,q4⟩:=Ik (i:=i) (L:=L) (m:=m) (xs:=xs) (left:=left.eraseIdx k) (he:=h3) b3 l3 (by omega) (by omega)
  have ep:=Ho (x:=x) (m:=m) hL l3 hk' h12 e2
  refine ⟨he',left[k]::out,left',?_,s3.trans q2,by simp [q3],?_⟩
  ·exact zW (by rfl) (by rfl) ep q1
  ·exact (List.Perm.cons _ q4).trans (Stt.fo hk')
theorem E3 {i:Nat} {h:Hm} (b:Px i h) {m:Nat} (hm:m<=11):Dp i h (jQ [.ref i,.int (m:Int)] h) fun d=>∃ ns:List PyData,d=.dat (.tuple ns)/\Nr ns/\ns.length<=m:=by
 have b1:Px i (h++[.lst (tX.map D.dat)]):=b.push (dP _ _)
 obtain ⟨_,h2',e2,s2',c,rfl,hc⟩:=ee b1 (c:=(m:Int)+1) (by omega) (by omega)
 obtain ⟨h2,rfl,s2⟩:=s2'.pop b.lt
 have b2:=s2.px b
 have ln:(nums 0 c).length=c:=by simp [nums]
 obtain ⟨h3,out,left,q1,q2,q3,q4⟩:=Ik (i:=i) (L:=h.length) (m:=(m:Int)) (xs:=nums 0 c) (left:=tX) (he:=h2) b2 s2.len (by rw [ln];simp [tX];omega) (by decide)
 have on:out.length=c:=by rw [q3,ln]
 have onm:∀ d∈out,Br d:=fun d m=>Bz d (q4.mem_iff.mp (Qy _ m))
 have ond:out.Nodup:=(RF.mp (q4.nodup_iff.mpr Hn)).1
 have rw0:Rw Br (cx ltB out):=qZ fL onm ond
 have so:cN out=true:=fL.KU onm (by omega)
 have nl:(cx ltB out).length=c:=by rw [(bo _ _).length_eq,on]
 have rn:Nr (cx ltB out):=⟨rw0,by omega⟩
 have ra:mC 1 (jt (aa (af ao (aa (ae 0) (aa (aq dH (ae 1) (aj (.int 1))) (ag)))) (ag))) (aB 0) (fH) E1 [some (.ref i),some (.int (m:Int)),some (.ref h.length)] (h++[.lst (tX.map D.dat)])=.ok (out.map D.dat) (h3++[.lst (left.map D.dat)]):=by
  have e1:aa (af ao (aa (ae 0) (aa (aq dH (ae 1) (aj (.int 1))) (ag)))) (ag) [some (.ref i),some (.int (m:Int)),some (.ref h.length)] (h++[.lst (tX.map D.dat)])=.ok [.dat (.int (c:Int))] (h2++[.lst (tX.map D.dat)]):=
   ak (aw (ak rfl (ak (aC rfl rfl rfl) rfl)) e2) rfl
  unfold mC
  rw [oM e1 (by omega)]
  simp only [R.ay]
  rw [if_pos (by rw [ln];exact sz (by omega))]
  exact q1
 have m1:=(bz (f:=gH) ra).trans (fb out _ (by omega))
 have m2:dC [.dat (.list out)] (h3++[.lst (left.map D.dat)])=.ok (.dat (.list (cx ltB out))) (h3++[.lst (left.map D.dat)]):=by simp [dC,listOf,so]
 have t1:bT 2 (jG (aa (aj (.str "a")) (aa (aj (.str "aa")) (aa (aj (.str "ab")) (aa (aj (.str "abcdef")) (aa (aj (.str "b")) (aa (aj (.str "c")) (aa (aj (.str "d")) (aa (aj (.str "e")) (aa (aj (.str "m")) (aa (aj (.str "x")) (aa (aj (.str "zz")) (aa (aj (.str "zzzzzz")) (ag)))))))))))))) [some (.ref i),some (.int (m:Int)),none] h=.ok (.nx [some (.ref i),some (.int (m:Int)),some (.ref h.length)]) (h++[.lst (tX.map D.dat)]):=rfl
 have m3:af dC (aa (cC 1 (jt (aa (af ao (aa (ae 0) (aa (aq dH (ae 1) (aj (.int 1))) (ag)))) (ag))) (aB 0) (fH) E1) (ag)) [some (.ref i),some (.int (m:Int)),some (.ref h.length)] (h++[.lst (tX.map D.dat)])=.ok (.dat (.list (cx ltB out))) (h3++[.lst (left.map D.dat)]):=aw (ak m1 rfl) m2
 have m4:cW [.dat (.list (cx ltB out))] (h3++[.lst (left.map D.dat)])=.ok (.dat (.tuple (cx ltB out))) (h3++[.lst (left.map D.dat)]):=rfl
 have run:jP [.ref i,.int (m:Int)] h=.ok (.dat (.tuple (cx ltB out))) (h3++[.lst (left.map D.dat)]):=by
  unfold jP om
  exact ij rfl (aR t1 (eV (aw (ak m3 rfl) m4)))
 exact ⟨_,h3,yN b run (s2.trans q2),s2.trans q2,cx ltB out,rfl,rn,by omega⟩
theorem E4 {i:Nat} {h:Hm} (b:Px i h) {ns:List PyData} {s:Int} {one:PyData} (hz:ns.length<=16777216) {ρ:Fm} (e2:∀ h,bb (ae 2) ρ h=.ok (ns.map D.dat) h) (e0:ρ[0]?=some (some (.ref i))) (e3:ρ[3]?=some (some (.int s))) (e5:ρ[5]?=some (some (.dat one))) :
  Dp i h (cC 1 (bb (ae 2)) (aB 0) (aN (aq oLt (af ao (aa (ae 1) (aa (aj (.int 8)) (ag)))) (ae 4))) (bL (aa (ae 6) (aa (ae 0) (ag)))) ρ h) fun d=>∃ ls:List PyData,d=.dat (.list (ls.map fun y=>.tuple [one,y]))/\ls.Sublist ns:=by
 unfold cC
 obtain ⟨ys,zs,h',q1,q2,q3,q4⟩:=j4 (n:=1) (ρ:=ρ) (g:=aB 0) (t:=aN (aq oLt (af ao (aa (ae 1) (aa (aj (.int 8)) (ag)))) (ae 4))) (e:=bL (aa (ae 6) (aa (ae 0) (ag)))) (Ps i h) (fun x y=>∃ d,x=.dat d/\y=.dat (.tuple [one,d])) (xs:=ns.map D.dat) (h:=h) (fun x hx h1 s1=>by
  obtain ⟨d,hd,rfl⟩:=P8.mp hx
  obtain ⟨_,h2,e2,s2,k,rfl,hk⟩:=ee (s1.px b) (c:=8) (by decide) (by decide)
  refine ⟨some (.dat d)::ρ,h1,decide ((k:Int) < s),h2,rfl,?_,?_⟩
  ·simp [e0,e2,e3,wY]
  ·cases hc:decide ((k:Int) < s) with
   | false=>exact .inl ⟨rfl,s1.trans s2⟩
   | true=>exact .inr ⟨rfl,.dat (.tuple [one,d]),h2,by simp [e5],⟨d,rfl,rfl⟩,s1.trans s2⟩) b.refl
 obtain ⟨ls,rfl,sl⟩:=Bo q3
 rw [tU q4] at q1
 have ea:mC 1 (bb (ae 2)) (aB 0) (aN (aq oLt (af ao (aa (ae 1) (aa (aj (.int 8)) (ag)))) (ae 4))) (bL (aa (ae 6) (aa (ae 0) (ag)))) ρ h=.ok ((ls.map fun y=>PyData.tuple [one,y]).map D.dat) h':=by
  unfold mC
  rw [e2]
  simp only [R.ay,PX,sz hz,Qe]
  exact q1
 refine ⟨.dat (.list (ls.map fun y=>.tuple [one,y])),h',?_,q2,ls,rfl,sl⟩
 rw [bz ea]
 exact fb _ h' (by rw [PX];exact Pq sl.length_le hz)
abbrev E5:MS:=bT 4 (aq dH (ae 4) (cC 1 (bb (ae 2)) (aB 0) (aN (aq oLt (af ao (aa (ae 1) (aa (aj (.int 8)) (ag)))) (ae 4))) (bL (aa (ae 6) (aa (ae 0) (ag))))))
theorem E6 {i:Nat} {ns:List PyData} {s m:Int} (r:Nr ns):∀ {xs pre acc:List PyData} {h:Hm},ns=pre++xs->Px i h->Pw pre ns acc->∀ a5:Option D,Dp i h (cV (aB 5) E5 (xs.map D.dat) [some (.ref i),some (.int m),some (.dat (.tuple ns)),some (.int s),some (.dat (.list acc)),a5] h) fun f=>∃ (acc':List PyData) (b5:Option D),f=.nx [some (.ref i),some (.int m),some (.dat (.tuple ns)),some (.int s),some (.dat (.list acc')),b5]/\Pw ns ns acc'
 | [],pre,acc,h,e,b,P,a5=>by
  have e':ns=pre:=by simpa using e
  exact Dp.ok b ⟨acc,a5,rfl,by rw [<- e'] at P;exact P⟩
 | x::xs,pre,acc,h,e,b,P,a5=>by
  have l12:=r.le
  obtain ⟨_,h2,e2,s2,ls,rfl,sl⟩:=E4 (h:=h) b (ns:=ns) (s:=s) (one:=x) (ρ:=[some (.ref i),some (.int m),some (.dat (.tuple ns)),some (.int s),some (.dat (.list acc)),some (.dat x)]) (by omega) (fun h=>fF rfl) rfl rfl rfl
  have P2:=P.step r.toRw e sl
  obtain ⟨f,h3,e3,s3,k⟩:=E6 (s:=s) (m:=m) r (xs:=xs) (pre:=pre++[x]) (acc:=acc++ls.map fun y=>.tuple [x,y]) (by simp [e]) (s2.px b) P2 (some (.dat x))
  refine ⟨f,h3,?_,s2.trans s3,k⟩
  have lp:acc.length+(ls.map fun y=>PyData.tuple [x,y]).length<=16777216:=by
   have l1:=P2.len
   have l3:(pre++[x]).length<=12:=by
    have:(pre++x::xs).length<=12:=e▸l12
    simp only [PU,PQ,Ql] at this ⊢
    omega
   have l4:(pre++[x]).length * ns.length<=12 * 12:=Rr l3 l12
   simp only [PU] at l1 l4 ⊢
   omega
  have eb:E5 [some (.ref i),some (.int m),some (.dat (.tuple ns)),some (.int s),some (.dat (.list acc)),some (.dat x)] h=.ok (.nx [some (.ref i),some (.int m),some (.dat (.tuple ns)),some (.int s),some (.dat (.list (acc++ls.map fun y=>.tuple [x,y]))),some (.dat x)]) h2:=
   cE (aC (x:=.dat (.list acc)) rfl e2 (jC h2 lp))
  simp only [P9,cV,aB,R.bI,R.ay,Q5,QL]
  rw [eb]
  simp only [R.bI,R.ay]
  exact e3
theorem E7 {i:Nat} {h:Hm} (b:Px i h) {m:Nat} (hm:m<=11):Dp i h (eU [.ref i,.int (m:Int)] h) fun d=>∃ (ns:List PyData) (r:Rel),d=.dat (aL ns r)/\Nr ns/\ns.length<=m:=by
 obtain ⟨_,h2,e2,s2,ns,rfl,rn,nl⟩:=E3 b hm
 have b2:=s2.px b
 obtain ⟨_,h4,e4,s4,u,rfl,hu⟩:=ee b2 (c:=4) (by decide) (by decide)
 obtain ⟨sh,esh⟩:∃ s:Int,mf [PyData.int 1,.int 2,.int 3,.int 5] (u:Int)=some (.int s):=by
  obtain ⟨x,ex,mx⟩:=oK (xs:=[PyData.int 1,.int 2,.int 3,.int 5]) (k:=u) (by simp;omega)
  simp only [Pn,P1,QU] at mx
  rcases mx with rfl | rfl | rfl | rfl<;>exact ⟨_,ex⟩
 obtain ⟨_,h5,e5,s5,ss,b5,rfl,P⟩:=E6 (i:=i) (s:=sh) (m:=(m:Int)) rn (xs:=ns) (pre:=[]) (acc:=[]) rfl (s4.px b2) ⟨.nil,by simp,by simp⟩ none
 have w:Wb (ns.length * ns.length) ns ss:=by
  refine ⟨rn,⟨fun p m=>?_,P.ris⟩,fun x y m=>?_,P.len⟩
  ·obtain ⟨x,y,rfl,hx,hy⟩:=P.mem p m
   exact ⟨x,y,rn.sub x hx,rn.sub y hy,rfl⟩
  ·obtain ⟨x',y',e,hx,hy⟩:=P.mem _ m
   simp only [RV,RY,and_true] at e
   obtain ⟨rfl,rfl⟩:=e
   exact ⟨hx,hy⟩
 refine ⟨.dat (.tuple [.tuple ns,.tuple ss]),h5,?_,(s2.trans s4).trans s5,ns,ES ss,by rw [aL,<- Bv w],rn,nl⟩
 have i1:aq dQ (aj (.list [.int 1,.int 2,.int 3,.int 5])) (af ao (aa (ae 0) (aa (aj (.int 4)) (ag)))) [some (.ref i),some (.int (m:Int)),none,none,none,none] h2=.ok (.int sh) h4:=aC rfl (aw (xs:=[.ref i,.int 4]) rfl e4) (by simp only [dQ,gI,qF,esh])
 exact ij rfl (aR (pT (x:=.dat (.tuple [.tuple ns,.int sh,.list []])) ((bz (f:=j8) (ak (aw (xs:=[.ref i,.int (m:Int)]) rfl e2) (ak i1 (ak (x:=.dat (.list [])) rfl rfl)))).trans (Ke _ _ _ _)) rfl)
  (aR (iZ (fF (ds:=ns) rfl) e5) (eV (cq (a:=.tuple ns) (b:=.tuple ss) rfl (aw (xs:=[.dat (.list ss)]) rfl rfl)))))
theorem qA:∀ {ls:List PyData} {ys:List D},PySem.Paired (fun x y=>∃ d,x=.dat d/\y=.dat (.tuple [d,d])) (ls.map D.dat) ys->ys=(ls.map fun y=>PyData.tuple [y,y]).map D.dat
 | [],ys,h=>by cases h;rfl
 | l::ls,ys,h=>by
  cases h with
  | cons a b=>
   obtain ⟨d,e,rfl⟩:=a
   cases e
   rw [qA b]
   rfl
theorem pU {i:Nat} {h:Hm} (b:Px i h) {ns:List PyData} {r:Rel} (Rn:Nr ns) (nl:ns.length<=7):Dp i h (bX [.ref i,.dat (aL ns r)] h) fun d=>∃ q:Rel,d=.dat (aL ns q):=by
 obtain ⟨ys,zs,h',q1,q2,q3,q4⟩:=j4 (n:=1) (ρ:=[some (.ref i),some (.dat (aL ns r)),none]) (g:=aB 0) (t:=aN (aq oEq (af ao (aa (ae 1) (aa (aj (.int 2)) (ag)))) (aj (.int 0)))) (e:=bL (aa (ae 0) (aa (ae 0) (ag)))) (Ps i h) (fun x y=>∃ d,x=.dat d/\y=.dat (.tuple [d,d])) (xs:=ns.map D.dat) (h:=h) (fun x hx h1 s1=>by
  obtain ⟨d,hd,rfl⟩:=P8.mp hx
  obtain ⟨_,h2,e2,s2,k,rfl,hk⟩:=ee (s1.px b) (c:=2) (by decide) (by decide)
  refine ⟨[some (.dat d),some (.ref i),some (.dat (aL ns r)),none],h1,decide ((k:Int)=0),h2,rfl,cf (aC (aw (xs:=[.ref i,.int 2]) rfl e2) rfl (oU h2)),?_⟩
  cases hc:decide ((k:Int)=0) with
  | false=>exact .inl ⟨rfl,s1.trans s2⟩
  | true=>exact .inr ⟨rfl,.dat (.tuple [d,d]),h2,cq rfl rfl,⟨d,rfl,rfl⟩,s1.trans s2⟩) b.refl
 obtain ⟨ls,rfl,sl⟩:=Bo q3
 rw [qA q4] at q1
 have ll:=sl.length_le
 have lr:(rows ns r).length<=49:=Pq ig (Rr nl nl)
 have lm:(ls.map fun y=>PyData.tuple [y,y]).length=ls.length:=PX ..
 have ea:cC 1 (bb (aq dQ (ae 1) (aj (.int 0)))) (aB 0) (aN (aq oEq (af ao (aa (ae 1) (aa (aj (.int 2)) (ag)))) (aj (.int 0)))) (bL (aa (ae 0) (aa (ae 0) (ag)))) [some (.ref i),some (.dat (aL ns r)),none] h=.ok (.dat (.list (ls.map fun y=>.tuple [y,y]))) h':=by
  unfold cC
  refine aw (xs:=(ls.map fun y=>PyData.tuple [y,y]).map D.dat) (h1:=h') ?_ (fb _ h' (by omega))
  unfold mC
  rw [fF (ds:=ns) rfl]
  simp only [R.ay,PX,sz (show ns.length<=16777216 by omega),Qe]
  exact q1
 have sub2:∀ d∈ls.map (fun y=>PyData.tuple [y,y]),∃ a,d=.tuple [a,a]/\a∈ns:=fun d m=>by
  obtain ⟨a,ha,rfl⟩:=P8.mp m
  exact ⟨a,rfl,sl.subset ha⟩
 have in2:∀ d∈ls.map (fun y=>PyData.tuple [y,y]),Cu d:=fun d m=>by
  obtain ⟨a,rfl,ha⟩:=sub2 d m
  exact ⟨a,a,Rn.sub a ha,Rn.sub a ha,rfl⟩
 obtain ⟨u1,u2,u3⟩:=yH cF (aV (r:=r) Rn).sub in2
 have w:Wb 100 ns (un (rows ns r) (ls.map fun y=>.tuple [y,y])):=⟨Rn,u1,fun x y m=>by
  rcases (u2 _).mp m with z | z
  ·exact ⟨(gw.mp z).1,(gw.mp z).2.1⟩
  ·obtain ⟨a,e,ha⟩:=sub2 _ z
   simp only [RV,RY,and_true] at e
   obtain ⟨rfl,rfl⟩:=e
   exact ⟨ha,ha⟩,by omega⟩
 have so:=Cv cF (aV (r:=r) Rn).sub in2 (by omega) h'
 refine ⟨.dat (.tuple [.tuple ns,.tuple (un (rows ns r) (ls.map fun y=>.tuple [y,y]))]),h',?_,q2,ES _,by rw [aL,<- Bv w]⟩
 have bl:rQ [.dat (.tuple (rows ns r))] h'=.ok (.dat (.list (rows ns r))) h':=rfl
 exact ij rfl (aR (cE ea) (eV (cq (a:=.tuple ns) rfl (aw (ak (aw (ak (aC (aw (xs:=[.dat (.tuple (rows ns r))]) rfl bl) (y:=.dat (.list (ls.map fun y=>.tuple [y,y]))) rfl (jC h' (by omega))) rfl) so) rfl) rfl))))
theorem Kr {xs:List PyData} (h:xs.all isName=true):∀ d∈xs,Br d:=PH.mp h
section
variable {ns:List PyData} {r q:Rel} {a b x y:PyData} {kd:Kd}
theorem Ad (Rn:Nr ns) (hx:x∈ns) (hy:y∈ns):∀ d,d∈rows ns (By r x y)<->(d∈rows ns r/\d≠.tuple [x,y])\/(d=.tuple [x,y]/\d∉rows ns r):=fun d=>by
 rw [bU,bU]
 constructor
 ·rintro ⟨a,b,rfl,ha,hb,h⟩
  by_cases z:a=x/\b=y
  ·obtain ⟨rfl,rfl⟩:=z
   simp only [By,and_self,Qe] at h
   refine .inr ⟨rfl,?_⟩
   rintro ⟨a',b',e,_,_,h'⟩
   simp only [RV,RY,and_true] at e
   obtain ⟨rfl,rfl⟩:=e
   rw [h'] at h
   cases h
  ·simp only [By,z,Qm] at h
   exact .inl ⟨⟨a,b,rfl,ha,hb,h⟩,by simpa using z⟩
 ·rintro (⟨⟨a,b,rfl,ha,hb,h⟩,z⟩ | ⟨rfl,z⟩)
  ·have z':¬ (a=x/\b=y):=by simpa using z
   exact ⟨a,b,rfl,ha,hb,by simp only [By,z',Qm];exact h⟩
  ·refine ⟨x,y,rfl,hx,hy,?_⟩
   simp only [By,and_self,Qe]
   cases e:r x y with
   | false=>rfl
   | true=>exact absurd ⟨x,y,rfl,hx,hy,e⟩ z
theorem Cz (Rn:Nr ns) (hx:x∈ns) (hy:y∈ns) (nl:ns.length<=7) (h:Hm):f7 [.dat (.tuple (rows ns r)),.dat (.tuple [.tuple [x,y]])] h=.ok (.dat (.tuple (rows ns (By r x y)))) h:=by
 have lr:(rows ns r).length<=49:=Pq ig (Rr nl nl)
 have tr:=Bw cF (aV (r:=r) Rn)
 have t1:au [PyData.tuple [x,y]]=true:=by simp [au,rf Rn hx hy]
 have d1:∀ e∈[PyData.tuple [x,y]],e.depth<=40:=fun e m=>by
  rw [PV.mp m]
  exact Pq (cF.dep _ (yM Rn hx hy)) (by decide)
 have k1:=fT (n:=1) (it:=bb (ae 0)) (g:=aB 0) (t:=aN (aq wg (ae 0) (ae 2))) (e:=ae 0) (ρ:=[some (.dat (.tuple (rows ns r))),some (.dat (.tuple [.tuple [x,y]])),none]) (h:=h) (h1:=h) (ds:=rows ns r) (fF rfl) (by omega) (fun d=>!decide (d∈[PyData.tuple [x,y]])) id (fun d hd=>⟨_,rfl,cf (aC rfl rfl (yL (aM tr hd) t1 d1 h)),fun _=>rfl⟩)
 have k2:=fT (n:=1) (it:=bb (ae 1)) (g:=aB 0) (t:=aN (aq wg (ae 0) (ae 1))) (e:=ae 0) (ρ:=[some (.dat (.tuple (rows ns r))),some (.dat (.tuple [.tuple [x,y]])),none]) (h:=h) (h1:=h) (ds:=[PyData.tuple [x,y]]) (fF rfl) (by simp) (fun d=>!decide (d∈rows ns r)) id (fun d hd=>⟨_,rfl,cf (aC rfl rfl (yL (aM t1 hd) tr (zY cF (aV Rn)) h)),fun _=>rfl⟩)
 rw [TH] at k1 k2
 generalize hA:(rows ns r).filter (fun d=>!decide (d∈[PyData.tuple [x,y]]))=A at k1
 generalize hB:[PyData.tuple [x,y]].filter (fun d=>!decide (d∈rows ns r))=B at k2
 have la:A.length<=49:=by rw [<- hA];exact Pq (Q1 _ _) lr
 have lb:B.length<=1:=by rw [<- hB];exact Pq (Q1 _ _) (by simp)
 have ma:∀ d,d∈A<->d∈rows ns r/\d≠.tuple [x,y]:=fun d=>by rw [<- hA,Qs];simp
 have mb:∀ d,d∈B<->d=.tuple [x,y]/\d∉rows ns r:=fun d=>by rw [<- hB,Qs];simp
 have sub:∀ d∈A++B,Cu d:=fun d m=>by
  rcases PL.mp m with z | z
  ·exact (aV Rn).sub d ((ma d).mp z).1
  ·rw [((mb d).mp z).1];exact yM Rn hx hy
 have nd:(A++B).Nodup:=by
  refine RF.mpr ⟨?_,?_,fun p hp q hq e=>?_⟩
  ·rw [<- hA];exact List.Nodup.sublist List.filter_sublist (jD cF (aV Rn))
  ·rw [<- hB];exact List.Nodup.sublist List.filter_sublist (by simp)
  ·subst e
   exact ((ma p).mp hp).2 ((mb p).mp hq).1
 have so:cN (A++B)=true:=cF.KU sub (by simp;omega)
 have es:cx ltB (A++B)=rows ns (By r x y):=tT cF (qZ cF sub nd) (aV Rn) fun d=>by
  rw [(bo _ _).mem_iff,PL,ma,mb,Ad Rn hx hy]
 have bs:dC [.dat (.list (A++B))] h=.ok (.dat (.list (rows ns (By r x y)))) h:=by simp [dC,listOf,so,es]
 exact ij rfl (aR (cE (aC k1 k2 (jC h (by omega)))) (eV (aw (ak (aw (xs:=[.dat (.list (A++B))]) rfl bs) rfl) rfl)))
end
def Hq:List PyData:=[.str "stable",.str "standing",.str "preferred",.str "whole",.str "grounded"]
theorem Ks {d:PyData} (h:d∈Hq):∃ kd:Kd,d=.str kd.nm:=by
 simp only [Hq,Pn,P1,QU] at h
 rcases h with rfl | rfl | rfl | rfl | rfl
 ·exact ⟨.stable,rfl⟩
 ·exact ⟨.standing,rfl⟩
 ·exact ⟨.preferred,rfl⟩
 ·exact ⟨.whole,rfl⟩
 ·exact ⟨.grounded,rfl⟩
section
variable {ns:List PyData} {r q:Rel} {a b x y:PyData} {kd:Kd}
theorem vL (Rn:Nr ns) (kd:Kd) (ha:a∈ns) (hb:b∈ns) (h:Hm):cb [.dat (aL ns r),.dat (.str kd.nm),.dat a,.dat b] h=.ok (.bool (pS kd r a b)) h:=by
 have ix:∀ ρ:Fm,ρ[0]?=some (some (.dat (aL ns r)))->aq dQ (ae 0) (aj (.int 1)) ρ h=.ok (.dat (.tuple (rows ns r))) h:=fun ρ e=>aC (x:=.dat (aL ns r)) (by simp [ae,e]) (y:=.int 1) rfl rfl
 have p1:Dq [4,5,6] (aa (aq nQ (bL (aa (ae 2) (aa (ae 2) (ag)))) (aq dQ (ae 0) (aj (.int 1)))) (aa (aq nQ (bL (aa (ae 3) (aa (ae 3) (ag)))) (aq dQ (ae 0) (aj (.int 1)))) (aa (aq nQ (bL (aa (ae 3) (aa (ae 2) (ag)))) (aq dQ (ae 0) (aj (.int 1)))) (ag)))) [some (.dat (aL ns r)),some (.dat (.str kd.nm)),some (.dat a),some (.dat b),none,none,none] h =
   .ok (.nx [some (.dat (aL ns r)),some (.dat (.str kd.nm)),some (.dat a),some (.dat b),some (.bool (r a a)),some (.bool (r b b)),some (.bool (r b a))]) h:=by
  unfold Dq
  rw [ak (aC (cq rfl rfl) (ix _ rfl) (rg Rn ha ha h)) (ak (aC (cq rfl rfl) (ix _ rfl) (rg Rn hb hb h)) (ak (aC (cq rfl rfl) (ix _ rfl) (rg Rn hb ha h)) rfl))]
  rfl
 refine ij rfl (aR p1 (eV ?_))
 unfold pS
 cases kd<;>cases r a a<;>cases r b b<;>cases r b a<;>kernel_rfl
abbrev Fk (ns:List PyData) (r:Rel) (kd:Kd) (L:Nat) (x y:Option D):Fm:=[some (.dat (aL ns r)),some (.dat (.str kd.nm)),some (.ref L),x,y]
abbrev hK (h:Hm) (acc:List PyData):Hm:=h++[.lst (acc.map D.dat)]
abbrev Ae:MS:=mW (yT (aN (aq oEq (ae 3) (ae 4))) (ki (cM (af cb (aa (ae 0) (aa (ae 1) (aa (ae 3) (aa (ae 4) (ag))))))))) (gp (kJ dR (ae 2) (bL (aa (ae 3) (aa (ae 4) (ag)))))) (dI)
theorem xc (Rn:Nr ns) {h:Hm}:∀ {xs acc:List PyData},(∀ p∈xs,p∈rows ns r)->acc.length+xs.length<=1000->∀ a3 a4:Option D,∃ b3 b4,cV (iq (bR (aB 3) (bR (aB 4) (ip)))) Ae (xs.map D.dat) (Fk ns r kd h.length a3 a4) (hK h acc)=.ok (.nx (Fk ns r kd h.length b3 b4)) (hK h (acc++xs.filter (Ac kd r)))
 | [],acc,_,_,a3,a4=>⟨a3,a4,by simp [cV]⟩
 | p::xs,acc,hs,hl,a3,a4=>by
  obtain ⟨a,b,rfl,ha,hb,_⟩:=bU.mp (hs p (by simp))
  simp only [PQ] at hl
  have e1:aN (aq oEq (ae 3) (ae 4)) (Fk ns r kd h.length (some (.dat a)) (some (.dat b))) (hK h acc)=.ok (decide (a=b)) (hK h acc):=cf (aC rfl rfl (Bx (dZ Rn ha) (dZ Rn hb) (Ab Rn ha) _))
  have e2:ki (cM (af cb (aa (ae 0) (aa (ae 1) (aa (ae 3) (aa (ae 4) (ag))))))) (Fk ns r kd h.length (some (.dat a)) (some (.dat b))) (hK h acc)=.ok (!pS kd r a b) (hK h acc):=Bp (tW (aw (xs:=[.dat (aL ns r),.dat (.str kd.nm),.dat a,.dat b]) rfl (vL Rn kd ha hb _)))
  have e3:=Kp e1 e2
  have kc:Ac kd r (.tuple [a,b])=(decide (a=b) || !pS kd r a b):=rfl
  rw [<- kc] at e3
  cases z:Ac kd r (.tuple [a,b]) with
  | false=>
   rw [z] at e3
   obtain ⟨b3,b4,ih⟩:=xc Rn (h:=h) (xs:=xs) (acc:=acc) (fun q m=>hs q (by simp [m])) (by omega) (some (.dat a)) (some (.dat b))
   refine ⟨b3,b4,?_⟩
   have st:Ae (Fk ns r kd h.length (some (.dat a)) (some (.dat b))) (hK h acc)=.ok (.nx (Fk ns r kd h.length (some (.dat a)) (some (.dat b)))) (hK h acc):=Aa e3 rfl
   simp only [P9,cV,iq,Ri,bR,aB,ip,R.ay,R.bI,Q5,QL]
   rw [st]
   simp only [R.bI,R.ay,Td,z,PB,Qm]
   exact ih
  | true=>
   rw [z] at e3
   obtain ⟨b3,b4,ih⟩:=xc Rn (h:=h) (xs:=xs) (acc:=acc++[.tuple [a,b]]) (fun q m=>hs q (by simp [m])) (by simp;omega) (some (.dat a)) (some (.dat b))
   refine ⟨b3,b4,?_⟩
   have ap:kJ dR (ae 2) (bL (aa (ae 3) (aa (ae 4) (ag)))) (Fk ns r kd h.length (some (.dat a)) (some (.dat b))) (hK h acc)=.ok D.none (hK h (acc++[PyData.tuple [a,b]])):=by
    have g:(h++[MO.lst (acc.map D.dat)])[h.length]?=some (.lst (acc.map D.dat)):=by simp
    have c:decide ((acc.map D.dat).length < 16777216)=true:=PN (by rw [PX];omega)
    have t:bL (aa (ae 3) (aa (ae 4) (ag))) (Fk ns r kd h.length (some (.dat a)) (some (.dat b))) (hK h acc)=.ok (.dat (.tuple [a,b])) (hK h acc):=cq rfl rfl
    simp only [kJ,ae,RN,Q8,R.ay,JS,g,Qe]
    rw [t]
    simp only [R.ay,dR,g,c,Qe]
    rw [S6 _ _ (Pm _)]
    simp
   have st:Ae (Fk ns r kd h.length (some (.dat a)) (some (.dat b))) (hK h acc)=.ok (.nx (Fk ns r kd h.length (some (.dat a)) (some (.dat b)))) (hK h (acc++[PyData.tuple [a,b]])):=EY e3 (gk ap)
   simp only [P9,cV,iq,Ri,bR,aB,ip,R.ay,R.bI,Q5,QL]
   rw [st]
   simp only [R.bI,R.ay,Td,z,Qe]
   rw [ih]
   simp
theorem E8 {f:Fn} {xs:List D} {h t:Hm} {x:PyData} (w:Wf h) (e:f xs h=.ok (.dat x) (h++t)):gq f xs h=.ok (.dat x) h:=by
 unfold gq
 rw [e]
 have:(h.all (MO.below h.length))=true:=PH.mpr fun o m=>w o m
 have e1:(h++t).take h.length=h:=by rw [List.take_left'];rfl
 simp [e1,D.below,this]
theorem nC (Rn:Nr ns) (kd:Kd) {h:Hm} (w:Wf h):bK [.dat (aL ns r),.dat (.str kd.nm)] h=.ok (.dat (aL ns (qK kd r))) h:=by
 have l:=oP (r:=r) (Rn.le)
 obtain ⟨b3,b4,lp⟩:=xc (r:=r) Rn (kd:=kd) (h:=h) (xs:=rows ns r) (acc:=[]) (fun _ m=>m) (by simp;omega) none none
 have fl:(rows ns r).filter (Ac kd r)=rows ns (qK kd r):=qz Rn (fun a b=>decide (a=b) || !pS kd r a b) fun a _ b _=>rfl
 rw [Rb,fl] at lp
 have l2:=oP (r:=qK kd r) (Rn.le)
 have g:(h++[MO.lst ((rows ns (qK kd r)).map D.dat)])[h.length]?=some (.lst ((rows ns (qK kd r)).map D.dat)):=by simp
 have bt:cW [.ref h.length] (h++[.lst ((rows ns (qK kd r)).map D.dat)])=.ok (.dat (.tuple (rows ns (qK kd r)))) (h++[.lst ((rows ns (qK kd r)).map D.dat)]):=by simp only [cW,listOf,g,lJ]
 refine E8 (t:=[.lst ((rows ns (qK kd r)).map D.dat)]) w ?_
 exact ij rfl (aR (cE (x:=.ref h.length) (h1:=h++[MO.lst (List.map D.dat [])]) rfl) (aR (iZ (fF (aC (x:=.dat (aL ns r)) rfl (y:=.int 1) rfl rfl)) lp) (eV (cq (a:=.tuple ns) (aC (x:=.dat (aL ns r)) rfl (y:=.int 0) rfl rfl) (aw (xs:=[.ref h.length]) rfl bt)))))
end
section
variable {ns:List PyData} {r q:Rel} {a b x y:PyData} {kd:Kd}
theorem CA {U:PyData->Prop} {xs ys:List PyData} (u:tS U) (r:∀ d∈xs,U d) (q:∀ d∈ys,U d) (l:xs.length+ys.length<=120) (l2:(un xs ys).length < 64) (h:Hm):cX [.dat (.list (xs++ys))] h=.ok (.dat (.list (un xs ys))) h:=by
 obtain ⟨h1,h2,h3⟩:=Bt u r q
 have l3:(zu xs ys).length < 64:=by unfold un at l2;rw [(bo _ _).length_eq] at l2;exact l2
 have s2:setOk (xs++ys)=true:=u.set (fun d m=>(PL.mp m).elim (r d) (q d)) (by simp;omega)
 have s3:cN (eT (xs++ys))=true:=u.KU (xs:=zu xs ys) (fun d m=>((h1 d).mp m).elim (r d) (q d)) l3
 simp only [cX,sJ,listOf,s2,s3,Ro,Qe,un,zu]
theorem Hr (Rn:Nr ns):un (rows ns r) (rows ns q)=rows ns fun a b=>r a b || q a b:=by
 obtain ⟨u1,u2,u3⟩:=yH cF (aV (r:=r) Rn).sub (aV (r:=q) Rn).sub
 refine tT cF u1 (aV Rn) fun p=>?_
 rw [u2,bU,bU,bU]
 constructor
 ·rintro (⟨a,b,rfl,ha,hb,h⟩ | ⟨a,b,rfl,ha,hb,h⟩)
  ·exact ⟨a,b,rfl,ha,hb,by simp [h]⟩
  ·exact ⟨a,b,rfl,ha,hb,by simp [h]⟩
 ·rintro ⟨a,b,rfl,ha,hb,h⟩
  simp only [QK] at h
  exact h.elim (fun h=>.inl ⟨a,b,rfl,ha,hb,h⟩) fun h=>.inr ⟨a,b,rfl,ha,hb,h⟩
noncomputable def CG (kd:Kd) (r:Rel):Rel:=fun a b=>!decide (a=b) && pS kd r a b
theorem Kt:rows ns (fun a b=>r a b || CG kd r a b)=rows ns (L7 kd r):=zX fun a ha b hb=>by
 unfold L7 CG
 rw [(Hl (ns:=ns)).pS ha hb]
 unfold qK
 by_cases z:a=b
 ·simp [z]
 ·cases r a b<;>cases pS kd r a b<;>simp [z]
abbrev Af:MS:=bT 2 (aq dH (ae 2) (cC 1 (bb (aq dQ (ae 0) (aj (.int 0)))) (aB 0) (vR (aN (aq nE (ae 4) (ae 0))) (cM (af cb (aa (ae 1) (aa (ae 2) (aa (ae 4) (aa (ae 0) (ag)))))))) (bL (aa (ae 4) (aa (ae 0) (ag))))))
theorem BA (Rn:Nr ns) {h:Hm}:∀ {xs acc:List PyData},(∀ p∈xs,p∈ns)->acc.length+xs.length * 12<=1000->∀ a3:Option D,∃ b3,cV (aB 3) Af (xs.map D.dat) [some (.dat (aL ns r)),some (.dat (.str kd.nm)),some (.dat (.list acc)),a3] h=.ok (.nx [some (.dat (aL ns r)),some (.dat (.str kd.nm)),some (.dat (.list (acc++xs.flatMap fun a=>(ns.filter (CG kd r a)).map fun b=>PyData.tuple [a,b]))),b3]) h
 | [],acc,_,_,a3=>⟨a3,by simp [cV]⟩
 | a::xs,acc,hs,hl,a3=>by
  have ha:=hs a (by simp)
  have ln:=Rn.le
  simp only [PQ] at hl
  have key:=fT (n:=1) (it:=bb (aq dQ (ae 0) (aj (.int 0)))) (g:=aB 0) (t:=vR (aN (aq nE (ae 4) (ae 0))) (cM (af cb (aa (ae 1) (aa (ae 2) (aa (ae 4) (aa (ae 0) (ag)))))))) (e:=bL (aa (ae 4) (aa (ae 0) (ag))))
   (ρ:=[some (.dat (aL ns r)),some (.dat (.str kd.nm)),some (.dat (.list acc)),some (.dat a)]) (h:=h) (h1:=h) (ds:=ns) (fF (aC (x:=.dat (aL ns r)) rfl (y:=.int 0) rfl rfl)) (by omega) (CG kd r a) (fun b=>.tuple [a,b]) (fun b hb=>⟨_,rfl,
    Hk (cf (aC rfl rfl (oN (dZ Rn ha) (dZ Rn hb) (by have:=Ab Rn ha;omega) h))) (tW (aw (xs:=[.dat (aL ns r),.dat (.str kd.nm),.dat a,.dat b]) rfl (vL Rn kd ha hb h))),fun _=>cq rfl rfl⟩)
  have lf:((ns.filter (CG kd r a)).map fun b=>PyData.tuple [a,b]).length<=12:=by rw [PX];exact Pq (Q1 _ _) ln
  obtain ⟨b3,ih⟩:=BA Rn (h:=h) (xs:=xs) (acc:=acc++(ns.filter (CG kd r a)).map fun b=>PyData.tuple [a,b]) (fun q m=>hs q (by simp [m])) (by rw [PU];omega) (some (.dat a))
  refine ⟨b3,?_⟩
  have st:Af [some (.dat (aL ns r)),some (.dat (.str kd.nm)),some (.dat (.list acc)),some (.dat a)] h=.ok (.nx [some (.dat (aL ns r)),some (.dat (.str kd.nm)),some (.dat (.list (acc++(ns.filter (CG kd r a)).map fun b=>PyData.tuple [a,b]))),some (.dat a)]) h:=cE (aC rfl key (jC h (by omega)))
  simp only [P9,cV,aB,R.bI,R.ay,Q5,QL]
  rw [st]
  simp only [R.bI,R.ay]
  rw [ih]
  simp
theorem yO (Rn:Nr ns) (nl:ns.length<=7) (kd:Kd) (h:Hm):fm [.dat (aL ns r),.dat (.str kd.nm)] h=.ok (.dat (aL ns (L7 kd r))) h:=by
 obtain ⟨b3,lp⟩:=BA (r:=r) (kd:=kd) Rn (h:=h) (xs:=ns) (acc:=[]) (fun _ m=>m) (by simp;omega) none
 have lr:∀ r:Rel,(rows ns r).length<=49:=fun r=>Pq ig (Rr nl nl)
 have lr1:=lr r
 have lr2:=lr (CG kd r)
 have e:=Hr (r:=r) (q:=CG kd r) Rn
 rw [Kt] at e
 have so:=CA cF (aV (r:=r) Rn).sub (aV (r:=CG kd r) Rn).sub (by omega) (by rw [e];have:=lr (L7 kd r);omega) h
 rw [e] at so
 have lp':cV (aB 3) Af (ns.map D.dat) [some (.dat (aL ns r)),some (.dat (.str kd.nm)),some (.dat (.list [])),none] h=.ok (.nx [some (.dat (aL ns r)),some (.dat (.str kd.nm)),some (.dat (.list (rows ns (CG kd r)))),b3]) h:=lp
 exact ij rfl (aR (cE (x:=.dat (.list [])) rfl) (aR (iZ (fF (aC (x:=.dat (aL ns r)) rfl (y:=.int 0) rfl rfl)) lp') (eV (cq (a:=.tuple ns) (aC (x:=.dat (aL ns r)) rfl (y:=.int 0) rfl rfl)
  (aw (ak (aw (ak (aC (aw (xs:=[.dat (.tuple (rows ns r))]) (ak (aC (x:=.dat (aL ns r)) rfl (y:=.int 1) rfl rfl) rfl) (d:=.dat (.list (rows ns r))) rfl) (y:=.dat (.list (rows ns (CG kd r)))) rfl (jC h (by omega))) rfl) so) rfl) rfl)))))
abbrev Ag:MS:=bh (bT 6 (bL (aa (aq dQ (ae 3) (af ao (aa (ae 0) (aa (af fO (aa (ae 3) (ag))) (ag))))) (aa (aq dQ (ae 3) (af ao (aa (ae 0) (aa (af fO (aa (ae 3) (ag))) (ag))))) (ag)))))
  (bT 4 (af f7 (aa (ae 4) (aa (bL (aa (ae 6) (ag))) (ag)))))
theorem Il {i:Nat} {h:Hm} (b:Px i h) (hn:0 < ns.length) (nl:ns.length<=12) {ρ:Fm} (e0:ρ[0]?=some (some (.ref i))) (e3:ρ[3]?=some (some (.dat (.tuple ns)))):Dp i h (aq dQ (ae 3) (af ao (aa (ae 0) (aa (af fO (aa (ae 3) (ag))) (ag)))) ρ h) fun d=>∃ x,d=.dat x/\x∈ns:=by
 obtain ⟨_,h2,e2,s2,k,rfl,hk⟩:=ee b (c:=(ns.length:Int)) (by omega) (by omega)
 obtain ⟨x,ex,mx⟩:=oK (xs:=ns) (k:=k) (by omega)
 refine ⟨.dat x,h2,?_,s2,x,rfl,mx⟩
 have v0:∀ h:Hm,ae 0 ρ h=.ok (.ref i) h:=fun h=>by simp [ae,e0]
 have v3:∀ h:Hm,ae 3 ρ h=.ok (.dat (.tuple ns)) h:=fun h=>by simp [ae,e3]
 exact aC (v3 h) (aw (ak (v0 h) (ak (aw (ak (v3 h) rfl) (d:=.int (ns.length:Int)) rfl) rfl)) e2) (by simp only [dQ,gI,qF,ex])
theorem BB {i:Nat} (Rn:Nr ns) (nl:ns.length<=7) (hn:0 < ns.length) {a1 a2:Option D}:∀ {xs:List D} {q:Rel} {h:Hm},Px i h->∀ a5 a6:Option D,Dp i h (cV (aB 5) Ag xs [some (.ref i),a1,a2,some (.dat (.tuple ns)),some (.dat (.tuple (rows ns q))),a5,a6] h) fun f=>∃ (q':Rel) (b5 b6:Option D),f=.nx [some (.ref i),a1,a2,some (.dat (.tuple ns)),some (.dat (.tuple (rows ns q'))),b5,b6]
 | [],q,h,b,a5,a6=>Dp.ok b ⟨q,a5,a6,rfl⟩
 | x::xs,q,h,b,a5,a6=>by
  obtain ⟨_,h2,e2,s2,y,rfl,hy⟩:=Il b hn Rn.le (ρ:=[some (.ref i),a1,a2,some (.dat (.tuple ns)),some (.dat (.tuple (rows ns q))),some x,a6]) rfl rfl
  have b2:=s2.px b
  obtain ⟨_,h3,e3,s3,z,rfl,hz⟩:=Il b2 hn Rn.le (ρ:=[some (.ref i),a1,a2,some (.dat (.tuple ns)),some (.dat (.tuple (rows ns q))),some x,a6]) rfl rfl
  have b3:=s3.px b2
  obtain ⟨f,h4,e4,s4,k⟩:=BB Rn nl hn (a1:=a1) (a2:=a2) (xs:=xs) (q:=By q y z) b3 (some x) (some (.dat (.tuple [y,z])))
  refine ⟨f,h4,?_,(s2.trans s3).trans s4,k⟩
  have t1:bL (aa (ae 6) (ag)) [some (.ref i),a1,a2,some (.dat (.tuple ns)),some (.dat (.tuple (rows ns q))),some x,some (.dat (.tuple [y,z]))] h3=.ok (.dat (.tuple [.tuple [y,z]])) h3:=(bz (f:=j8) (ak (x:=.dat (.tuple [y,z])) rfl rfl)).trans (EE _ h3)
  have st:Ag [some (.ref i),a1,a2,some (.dat (.tuple ns)),some (.dat (.tuple (rows ns q))),some x,a6] h=.ok (.nx [some (.ref i),a1,a2,some (.dat (.tuple ns)),some (.dat (.tuple (rows ns (By q y z)))),some x,some (.dat (.tuple [y,z]))]) h3:=
   aR (cE (cq e2 e3)) (cE (aw (ak (x:=.dat (.tuple (rows ns q))) rfl (ak t1 rfl)) (Cz Rn hy hz nl h3)))
  simp only [cV,aB,R.bI,R.ay,Q5,QL]
  rw [st]
  simp only [R.bI,R.ay]
  exact e4
theorem BC {i:Nat} {h:Hm} (b:Px i h) (Rn:Nr ns) (nl:ns.length<=7) {m:Nat} (hm:m<=100):Dp i h (dN [.ref i,.dat (aL ns r),.int (m:Int)] h) fun d=>∃ q:Rel,d=.dat (aL ns q):=by
 obtain ⟨_,h2,e2,s2,k,rfl,hk⟩:=ee b (c:=(m:Int)+1) (by omega) (by omega)
 have b2:=s2.px b
 have t0:ai (.tuple ns)=true:=by simp only [ai];exact fL.uh Rn.sub
 have ne:nE (.dat (.tuple ns)) (.dat (.tuple [])) h2=.ok (.bool !(decide (PyData.tuple ns=.tuple []))) h2:=oN t0 rfl (Pq (TJ _ _) (by decide)) h2
 have ev:aq kE (af ao (aa (ae 0) (aa (aq dH (ae 2) (aj (.int 1))) (ag)))) (af rR (aa (aq nE (ae 3) (aj (.tuple []))) (ag))) [some (.ref i),some (.dat (aL ns r)),some (.int (m:Int)),some (.dat (.tuple ns)),some (.dat (.tuple (rows ns r))),none,none] h=.ok (.int ((k:Int) * (if ns=[] then 0 else 1))) h2:=by
  have bi:af rR (aa (aq nE (ae 3) (aj (.tuple []))) (ag)) [some (.ref i),some (.dat (aL ns r)),some (.int (m:Int)),some (.dat (.tuple ns)),some (.dat (.tuple (rows ns r))),none,none] h2=.ok (.int (if ns=[] then 0 else 1)) h2:=by
   refine (bz (ak (aC (x:=.dat (.tuple ns)) rfl (y:=.dat (.tuple [])) rfl ne) rfl)).trans ?_
   by_cases z:ns=[]
   ·simp [z,rR]
   ·simp [z,rR]
  refine aC (aw (xs:=[.ref i,.int ((m:Int)+1)]) rfl e2) bi (oQ ?_ ?_ h2)
  ·split<;>decide
  ·split<;>decide
 have fin:∀ (n:Nat) (h3:Hm) (q:Rel) (b5 b6:Option D),aq kE (af ao (aa (ae 0) (aa (aq dH (ae 2) (aj (.int 1))) (ag)))) (af rR (aa (aq nE (ae 3) (aj (.tuple []))) (ag))) [some (.ref i),some (.dat (aL ns r)),some (.int (m:Int)),some (.dat (.tuple ns)),some (.dat (.tuple (rows ns r))),none,none] h=.ok (.int (n:Int)) h2->n < 1000 ->
   cV (aB 5) Ag (nums 0 n) [some (.ref i),some (.dat (aL ns r)),some (.int (m:Int)),some (.dat (.tuple ns)),some (.dat (.tuple (rows ns r))),none,none] h2=.ok (.nx [some (.ref i),some (.dat (aL ns r)),some (.int (m:Int)),some (.dat (.tuple ns)),some (.dat (.tuple (rows ns q))),b5,b6]) h3->dN [.ref i,.dat (aL ns r),.int (m:Int)] h=.ok (.dat (aL ns q)) h3:=fun n h3 q b5 b6 en hn lp=>
  ij rfl (aR (pT (x:=.dat (aL ns r)) rfl rfl) (aR (iZ (oM (ak en rfl) (by omega)) lp) (eV (cq (a:=.tuple ns) rfl rfl))))
 by_cases z:ns=[]
 ·rw [if_pos z,Int.mul_zero] at ev
  exact ⟨_,h2,fin 0 h2 r none none ev (by decide) rfl,s2,r,rfl⟩
 ·rw [if_neg z,Int.mul_one] at ev
  obtain ⟨_,h3,e3,s3,q,b5,b6,rfl⟩:=BB Rn nl (Tq.mpr z) (a1:=some (.dat (aL ns r))) (a2:=some (.int (m:Int))) (xs:=nums 0 k) (q:=r) b2 none none
  exact ⟨_,h3,fin k h3 q b5 b6 ev (by omega) e3,s2.trans s3,q,rfl⟩
end
theorem Hs {ns:List PyData}:rows ns (fun _ _=>false)=[]:=List.eq_nil_iff_forall_not_mem.mpr fun p m=>by
 obtain ⟨a,b,_,_,_,h⟩:=bU.mp m
 cases h
theorem Ah {ma:MA} {ρ:Fm} {h h1:Hm} {xs:List D} (e:ma ρ h=.ok xs h1) (hz:xs.length<=1000):jG ma ρ h=.ok (.ref h1.length) (h1++[.lst xs]):=(bz e).trans (by simp [AD,sz (show xs.length<=16777216 by omega)])
theorem E9 {a b:ME} {ρ:Fm} {h h2:Hm} {xs:List D} {y:D} (l:h2.length=h.length) (ea:a ρ (h++[.lst xs])=.ok (.ref h.length) (h++[.lst xs])) (eb:b ρ (h++[.lst xs])=.ok y (h2++[.lst xs])) (hz:xs.length<=1000):kJ dR a b ρ (h++[.lst xs])=.ok D.none (h2++[.lst (xs++[y])]):=by
 have g:(h++[MO.lst xs])[h.length]?=some (.lst xs):=by simp
 have g2:(h2++[MO.lst xs])[h.length]?=some (.lst xs):=by rw [<- l];simp
 have c:decide (xs.length < 16777216)=true:=PN (by omega)
 simp only [kJ,ea,R.ay,JS,g,Qe,eb,dR,g2,c]
 rw [<- l,S6 _ _ (Pm _)]
 simp
theorem Ht {h:Hm} {L k:Nat} {ds:List PyData} (l:h.length=L) (hk:k < ds.length):∃ x,dQ (.ref L) (.int (k:Int)) (h++[.lst (ds.map D.dat)])=.ok (.dat x) (h++[.lst (ds.map D.dat)])/\x∈ds:=by
 obtain ⟨x,ex,mx⟩:=oK (xs:=ds) (k:=k) hk
 have g:(h++[MO.lst (ds.map D.dat)])[L]?=some (.lst (ds.map D.dat)):=by rw [<- l];simp
 have am:mf (ds.map D.dat) (k:Int)=some (.dat x):=by rw [qS,ex];rfl
 exact ⟨x,by simp only [dQ,gI,g,qF,am],mx⟩
theorem Ku {i:Nat} {h:Hm} (b:Px i h) {m:Nat} (hm:m<=7):Dp i h (jS [.ref i,.int (m:Int)] h) fun d=>∃ (ns:List PyData) (r q:Rel),d=.dat (.tuple [aL ns r,aL ns q])/\Nr ns/\ns.length<=m:=by
 obtain ⟨_,h1,e1,s1,ns,r0,rfl,rn,ln⟩:=E7 b (m:=m) (by omega)
 have b1:=s1.px b
 have nl:ns.length<=7:=by omega
 obtain ⟨_,h2,e2,s2,r,rfl⟩:=pU b1 (r:=r0) rn nl
 have b2:=s2.px b1
 obtain ⟨_,h3,e3,s3,u,rfl,hu⟩:=ee b2 (c:=5) (by decide) (by decide)
 have b3:=s3.px b2
 obtain ⟨kx,ek,mk⟩:=oK (xs:=Hq) (k:=u) (by simp [Hq];omega)
 obtain ⟨kd,rfl⟩:=Ks mk
 obtain ⟨_,h4,e4,s4,q1,rfl⟩:=BC b3 (r:=r) rn nl (m:=1) (by decide)
 have b4:=s4.px b3
 obtain ⟨_,h5,e5,s5,q2,rfl⟩:=BC b4 (r:=r) rn nl (m:=3) (by decide)
 have b5:=s5.px b4
 have k6:=nC (r:=r) rn kd b5.wf
 have k7:=yO (r:=r) rn nl kd h5
 generalize hL:[aL ns q1,aL ns q2,aL ns (qK kd r),aL ns (L7 kd r)]=L4
 have b6:Px i (h5++[.lst (L4.map D.dat)]):=b5.push (dP _ _)
 obtain ⟨_,h7',e7,s7',q5,rfl⟩:=pU b6 (r:=fun _ _=>false) rn nl
 obtain ⟨h7,rfl,s7⟩:=s7'.pop b5.lt
 have b7:=s7.px b5
 have b8:Px i (h7++[.lst ((L4++[aL ns q5]).map D.dat)]):=b7.push (dP _ _)
 obtain ⟨_,h9',e9,s9',v,rfl,hv⟩:=ee b8 (c:=5) (by decide) (by decide)
 obtain ⟨h9,rfl,s9⟩:=s9'.pop b7.lt
 have sAll:=((((((s1.trans s2).trans s3).trans s4).trans s5).trans s7).trans s9)
 have l4:L4.length=4:=by rw [<- hL];rfl
 obtain ⟨x,ex,mx⟩:=Ht (h:=h9) (L:=h5.length) (k:=v) (ds:=L4++[aL ns q5]) (by rw [s9.len,s7.len]) (by rw [PU,l4];simp;omega)
 obtain ⟨q,rfl⟩:∃ q,x=aL ns q:=by
  rw [<- hL] at mx
  simp only [PL,Pn,P1,QU] at mx
  rcases mx with (rfl | rfl | rfl | rfl) | rfl<;>exact ⟨_,rfl⟩
 refine ⟨.dat (.tuple [aL ns r,aL ns q]),h9,yN (t:=[.lst ((L4++[aL ns q5]).map D.dat)]) b ?_ sAll,sAll,ns,r,q,rfl,rn,ln⟩
 have t1:bT 3 (aq dQ (af bQ ag) (af ao (aa (ae 0) (aa (aj (.int 5)) (ag))))) [some (.ref i),some (.int (m:Int)),some (.dat (aL ns r)),none,none] h2=.ok (.nx [some (.ref i),some (.int (m:Int)),some (.dat (aL ns r)),some (.dat (.str kd.nm)),none]) h3:=
  cE (aC (x:=.dat (.list Hq)) rfl (aw (xs:=[.ref i,.int 5]) rfl e3) (by simp only [dQ,gI,qF,ek]))
 have t2:bT 4 (jG (aa (af dN (aa (ae 0) (aa (ae 2) (aa (aj (.int 1)) (ag))))) (aa (af dN (aa (ae 0) (aa (ae 2) (aa (aj (.int 3)) (ag))))) (aa (af bK (aa (ae 2) (aa (ae 3) (ag)))) (aa (af fm (aa (ae 2) (aa (ae 3) (ag)))) (ag)))))) [some (.ref i),some (.int (m:Int)),some (.dat (aL ns r)),some (.dat (.str kd.nm)),none] h3=.ok (.nx [some (.ref i),some (.int (m:Int)),some (.dat (aL ns r)),some (.dat (.str kd.nm)),some (.ref h5.length)]) (h5++[.lst (L4.map D.dat)]):=by
  rw [<- hL]
  exact cE (Ah (ak (aw (xs:=[.ref i,.dat (aL ns r),.int 1]) rfl e4) (ak (aw (xs:=[.ref i,.dat (aL ns r),.int 3]) rfl e5) (ak (aw (xs:=[.dat (aL ns r),.dat (.str kd.nm)]) rfl k6) (ak (aw (xs:=[.dat (aL ns r),.dat (.str kd.nm)]) rfl k7) rfl)))) (by simp))
 have w0:bL (aa (aq dQ (ae 2) (aj (.int 0))) (aa (aj (.tuple [])) (ag))) [some (.ref i),some (.int (m:Int)),some (.dat (aL ns r)),some (.dat (.str kd.nm)),some (.ref h5.length)] (h5++[.lst (L4.map D.dat)])=.ok (.dat (aL ns fun _ _=>false)) (h5++[.lst (L4.map D.dat)]):=by
  rw [show aL ns (fun _ _=>false)=PyData.tuple [.tuple ns,.tuple []] by simp only [aL,Hs]]
  exact cq (a:=.tuple ns) (aC (x:=.dat (aL ns r)) rfl (y:=.int 0) rfl rfl) rfl
 have t3:kJ dR (ae 4) (bL (aa (aq dQ (ae 2) (aj (.int 0))) (aa (aq dQ (af bX (aa (ae 0) (aa (bL (aa (aq dQ (ae 2) (aj (.int 0))) (aa (aj (.tuple [])) (ag)))) (ag)))) (aj (.int 1))) (ag)))) [some (.ref i),some (.int (m:Int)),some (.dat (aL ns r)),some (.dat (.str kd.nm)),some (.ref h5.length)] (h5++[.lst (L4.map D.dat)])=.ok D.none (h7++[.lst (L4.map D.dat++[.dat (aL ns q5)])]):=
  E9 s7.len rfl (cq (a:=.tuple ns) (aC (x:=.dat (aL ns r)) rfl (y:=.int 0) rfl rfl) (aC (aw (ak (x:=.ref i) rfl (ak w0 rfl)) e7) (y:=.int 1) rfl rfl)) (by rw [PX,l4];decide)
 have em:L4.map D.dat++[.dat (aL ns q5)]=(L4++[aL ns q5]).map D.dat:=by simp
 rw [em] at t3
 exact ij rfl (aR (cE (aw (ak (x:=.ref i) rfl (ak (aw (xs:=[.ref i,.int (m:Int)]) rfl e1) rfl)) e2)) (aR t1 (aR t2 (aR (gk t3) (eV (cq (a:=aL ns r) rfl (aC (x:=.ref h5.length) rfl (aw (xs:=[.ref i,.int 5]) rfl e9) ex)))))))
noncomputable def L8 (n:List PyData) (r:Rel):Rel:=fun a b=>decide (a∈n) && decide (b∈n) && r a b
section
variable {n1 n2 ns:List PyData} {r q p:Rel} {a b:PyData} {kd:Kd}
theorem BD:L8 ns r a b=true<->a∈ns/\b∈ns/\r a b=true:=by simp [L8,and_assoc]
theorem L9 (R1:Nr n1) (R2:Nr n2) (hl:(un n1 n2).length<=12):Nr (un n1 n2):=⟨(yH fL R1.sub R2.sub).1,hl⟩
theorem Kv (R1:Nr n1) (R2:Nr n2) {d:PyData}:d∈un n1 n2<->d∈n1\/d∈n2:=(yH fL R1.sub R2.sub).2.1 d
theorem Kw (R1:Nr n1) (R2:Nr n2):(un n1 n2).length<=n1.length+n2.length:=(yH fL R1.sub R2.sub).2.2
end
section
variable {ns:List PyData} {r q:Rel} {a b x y:PyData} {kd:Kd}
theorem Fb {i:Nat} {h:Hm} (b:Px i h) (hn:0 < ns.length) (nl:ns.length<=12) {ρ:Fm} {vp vn:ME} (v0:∀ h:Hm,vp ρ h=.ok (.ref i) h) (v3:∀ h:Hm,vn ρ h=.ok (.dat (.tuple ns)) h):Dp i h (aq dQ vn (af ao (aa vp (aa (af fO (aa vn (ag))) (ag)))) ρ h) fun d=>∃ x,d=.dat x/\x∈ns:=by
 obtain ⟨_,h2,e2,s2,k,rfl,hk⟩:=ee b (c:=(ns.length:Int)) (by omega) (by omega)
 obtain ⟨x,ex,mx⟩:=oK (xs:=ns) (k:=k) (by omega)
 exact ⟨.dat x,h2,aC (v3 h) (aw (ak (v0 h) (ak (aw (ak (v3 h) rfl) (d:=.int (ns.length:Int)) rfl) rfl)) e2) (by simp only [dQ,gI,qF,ex]),s2,x,rfl,mx⟩
theorem Hu (Rn:Nr ns) (hx:x∈ns) (hy:y∈ns) (h:.tuple [x,y]∈rows ns r):(rows ns r).filter (fun d=>!decide (d=.tuple [x,y]))=rows ns (By r x y):=by
 refine tT cF ⟨fun d m=>(aV Rn).sub d (Qs.mp m).1,(aV Rn).ris.filter _⟩ (aV Rn) fun d=>?_
 rw [Qs,Ad Rn hx hy]
 simp only [R6,decide_eq_false_iff_not]
 constructor
 ·exact fun w=>.inl w
 ·rintro (w | ⟨rfl,w⟩)
  ·exact w
  ·exact absurd h w
theorem Fc (Rn:Nr ns) (hx:x∈ns) (hy:y∈ns) (h:.tuple [x,y]∉rows ns r):cx ltB (rows ns r++[PyData.tuple [x,y]])=rows ns (By r x y):=by
 have sub:∀ d∈rows ns r++[PyData.tuple [x,y]],Cu d:=fun d m=>by
  rcases PL.mp m with z | z
  ·exact (aV Rn).sub d z
  ·rw [PV.mp z];exact yM Rn hx hy
 have nd:(rows ns r++[PyData.tuple [x,y]]).Nodup:=RF.mpr ⟨jD cF (aV Rn),by simp,fun p hp q hq e=>by
  rw [PV.mp hq] at e;subst e;exact h hp⟩
 refine tT cF (qZ cF sub nd) (aV Rn) fun d=>?_
 rw [(bo _ _).mem_iff,PL,Ad Rn hx hy,PV]
 constructor
 ·rintro (w | rfl)
  ·exact .inl ⟨w,fun z=>by subst z;exact h w⟩
  ·exact .inr ⟨rfl,h⟩
 ·rintro (w | w)
  ·exact .inl w.1
  ·exact .inr w.1
abbrev Fd:MS:=mW (aN (aq nE (ae 2) (aj (.tuple [])))) (bh (bT 5 (bL (aa (aq dQ (ae 2) (af ao (aa (ae 0) (aa (af fO (aa (ae 2) (ag))) (ag))))) (aa (aq dQ (ae 2) (af ao (aa (ae 0) (aa (af fO (aa (ae 2) (ag))) (ag))))) (ag)))))
  (mW (aN (aq nQ (ae 5) (ae 3))) (bT 3 (af cW (aa (cC 1 (bb (ae 3)) (aB 0) (aN (aq nE (ae 0) (ae 6))) (ae 0)) (ag)))) (bT 3 (af cW (aa (af pG (aa (aq dH (ae 3) (bL (aa (ae 5) (ag)))) (ag))) (ag)))))) (dI)
theorem ne_nil (Rn:Nr ns) (h:Hm):nE (.dat (.tuple ns)) (.dat (.tuple [])) h=.ok (.bool !(decide (ns=[]))) h:=by
 have t0:ai (.tuple ns)=true:=by simp only [ai];exact fL.uh Rn.sub
 have:=oN t0 (e:=.tuple []) rfl (Pq (TJ _ _) (by decide)) h
 rw [this]
 simp
theorem Hv {i:Nat} (Rn:Nr ns) (nl:ns.length<=7) {h:Hm} (b:Px i h) (a1 a4 a5:Option D):∃ (h':Hm) (q':Rel) (b5:Option D),Fd [some (.ref i),a1,some (.dat (.tuple ns)),some (.dat (.tuple (rows ns q))),a4,a5] h=.ok (.nx [some (.ref i),a1,some (.dat (.tuple ns)),some (.dat (.tuple (rows ns q'))),a4,b5]) h'/\Ps i h h':=by
 by_cases z:ns=[]
 ·refine ⟨h,q,a5,Aa (cf (aC (x:=.dat (.tuple ns)) rfl (y:=.dat (.tuple [])) rfl (by rw [ne_nil Rn,PN z];rfl))) rfl,b.refl⟩
 ·have lq:(rows ns q).length<=49:=Pq ig (Rr nl nl)
  obtain ⟨_,h2,e2,s2,y,rfl,hy⟩:=Fb b (Tq.mpr z) Rn.le (vp:=ae 0) (vn:=ae 2) (ρ:=[some (.ref i),a1,some (.dat (.tuple ns)),some (.dat (.tuple (rows ns q))),a4,a5]) (fun _=>rfl) (fun _=>rfl)
  obtain ⟨_,h3,e3,s3,w,rfl,hw⟩:=Fb (s2.px b) (Tq.mpr z) Rn.le (vp:=ae 0) (vn:=ae 2) (ρ:=[some (.ref i),a1,some (.dat (.tuple ns)),some (.dat (.tuple (rows ns q))),a4,a5]) (fun _=>rfl) (fun _=>rfl)
  refine ⟨h3,By q y w,some (.dat (.tuple [y,w])),EY (cf (aC (x:=.dat (.tuple ns)) rfl (y:=.dat (.tuple [])) rfl (by rw [ne_nil Rn,PR z];rfl))) (aR (cE (cq e2 e3)) ?_),s2.trans s3⟩
  have ei:=rg (r:=q) Rn hy hw h3
  have et:aN (aq nQ (ae 5) (ae 3)) [some (.ref i),a1,some (.dat (.tuple ns)),some (.dat (.tuple (rows ns q))),a4,some (.dat (.tuple [y,w]))] h3=.ok (q y w) h3:=cf (aC rfl rfl ei)
  cases k:q y w with
  | true=>
   rw [k] at et
   have m:.tuple [y,w]∈rows ns q:=gw.mpr ⟨hy,hw,k⟩
   have tp:=rf Rn hy hw
   have key:=fT (n:=1) (it:=bb (ae 3)) (g:=aB 0) (t:=aN (aq nE (ae 0) (ae 6))) (e:=ae 0) (ρ:=[some (.ref i),a1,some (.dat (.tuple ns)),some (.dat (.tuple (rows ns q))),a4,some (.dat (.tuple [y,w]))]) (h:=h3) (h1:=h3) (ds:=rows ns q) (fF rfl) (by omega) (fun d=>!decide (d=.tuple [y,w])) id (fun d hd=>⟨_,rfl,cf (aC rfl rfl (oN (aM (Bw cF (aV Rn)) hd) tp (by have:=zY cF (aV Rn) d hd;omega) h3)),fun _=>rfl⟩)
   rw [TH,Hu Rn hy hw m] at key
   exact EY et (cE (aw (ak key rfl) rfl))
  | false=>
   rw [k] at et
   have m:.tuple [y,w]∉rows ns q:=fun m=>by have:=(gw.mp m).2.2;rw [k] at this;cases this
   have t1:bL (aa (ae 5) (ag)) [some (.ref i),a1,some (.dat (.tuple ns)),some (.dat (.tuple (rows ns q))),a4,some (.dat (.tuple [y,w]))] h3=.ok (.dat (.tuple [.tuple [y,w]])) h3:=(bz (f:=j8) (ak (x:=.dat (.tuple [y,w])) rfl rfl)).trans (EE _ h3)
   have sub:∀ d∈rows ns q++[PyData.tuple [y,w]],Cu d:=fun d m=>by
    rcases PL.mp m with z | z
    ·exact (aV Rn).sub d z
    ·rw [PV.mp z];exact yM Rn hy hw
   have so:cN (rows ns q++[PyData.tuple [y,w]])=true:=cF.KU sub (by simp;omega)
   have bs:pG [.dat (.tuple (rows ns q++[PyData.tuple [y,w]]))] h3=.ok (.dat (.list (rows ns (By q y w)))) h3:=by
    rw [<- Fc Rn hy hw m]
    simp [pG,so]
   exact Aa et (cE (aw (ak (aw (ak (aC (x:=.dat (.tuple (rows ns q))) rfl t1 (yG h3 (by simp;omega))) rfl) bs) rfl) rfl))
theorem BE {i:Nat} (Rn:Nr ns) (nl:ns.length<=7) {a1:Option D}:∀ {xs:List D} {q:Rel} {h:Hm},Px i h->∀ a4 a5:Option D,Dp i h (cV (aB 4) Fd xs [some (.ref i),a1,some (.dat (.tuple ns)),some (.dat (.tuple (rows ns q))),a4,a5] h) fun f=>∃ (q':Rel) (b4 b5:Option D),f=.nx [some (.ref i),a1,some (.dat (.tuple ns)),some (.dat (.tuple (rows ns q'))),b4,b5]
 | [],q,h,b,a4,a5=>Dp.ok b ⟨q,a4,a5,rfl⟩
 | x::xs,q,h,b,a4,a5=>by
  obtain ⟨h2,q2,b5,e2,s2⟩:=Hv (q:=q) Rn nl b a1 (some x) a5
  obtain ⟨f,h4,e4,s4,k⟩:=BE Rn nl (a1:=a1) (xs:=xs) (q:=q2) (s2.px b) (some x) b5
  refine ⟨f,h4,?_,s2.trans s4,k⟩
  simp only [cV,aB,R.bI,R.ay,Q5,QL]
  rw [e2]
  simp only [R.bI,R.ay]
  exact e4
theorem Fe {n2:List PyData} (Rn:Nr ns) (R2:Nr n2) (hs:∀ d∈ns,d∈n2):rows n2 (L8 ns r)=rows ns r:=tT cF (aV R2) (aV Rn) fun d=>by
 rw [bU,bU]
 constructor
 ·rintro ⟨a,b,rfl,_,_,h⟩
  obtain ⟨x,y,z⟩:=BD.mp h
  exact ⟨a,b,rfl,x,y,z⟩
 ·rintro ⟨a,b,rfl,x,y,z⟩
  exact ⟨a,b,rfl,hs a x,hs b y,BD.mpr ⟨x,y,z⟩⟩
theorem Ff {i:Nat} {h:Hm} (b:Px i h) (Rn:Nr ns) (nl:ns.length<=6):Dp i h (du [.ref i,.dat (aL ns r)] h) fun d=>∃ (n2:List PyData) (q:Rel),d=.dat (aL n2 q)/\Nr n2/\n2.length<=7:=by
 obtain ⟨_,h2,e2,s2,k,rfl,hk⟩:=ee b (c:=2) (by decide) (by decide)
 have b2:=s2.px b
 obtain ⟨_,h3,e3,s3,q,b4,b5,rfl⟩:=BE Rn (by omega) (a1:=some (.dat (aL ns r))) (xs:=nums 0 (1+k)) (q:=r) b2 none none
 have b3:=s3.px b2
 obtain ⟨_,h4,e4,s4,u,rfl,hu⟩:=ee b3 (c:=5) (by decide) (by decide)
 have sA:=(s2.trans s3).trans s4
 have it:jt (aa (aq dH (aj (.int 1)) (af ao (aa (ae 0) (aa (aj (.int 2)) (ag))))) (ag)) [some (.ref i),some (.dat (aL ns r)),some (.dat (.tuple ns)),some (.dat (.tuple (rows ns r))),none,none] h=.ok (nums 0 (1+k)) h2:=by
  refine oM (ak (aC (x:=.int 1) rfl (aw (xs:=[.ref i,.int 2]) rfl e2) ?_) rfl) (by omega)
  rw [oS]
  simp
 have t4:aN (aq oEq (af ao (aa (ae 0) (aa (aj (.int 5)) (ag)))) (aj (.int 0))) [some (.ref i),some (.dat (aL ns r)),some (.dat (.tuple ns)),some (.dat (.tuple (rows ns q))),b4,b5] h3=.ok (decide ((u:Int)=0)) h4:=cf (aC (aw (xs:=[.ref i,.int 5]) rfl e4) rfl (oU h4))
 by_cases z:(u:Int)=0
 ·rw [PN z] at t4
  have Rq:Nr [PyData.str "q"]:=⟨Ij fL (Kr (by decide +kernel)) (by decide +kernel),by decide⟩
  have lu:=Kw Rn Rq
  have lu':(un ns [PyData.str "q"]).length<=7:=Pq lu (by simp;omega)
  have Ru:=L9 Rn Rq (by omega)
  have so:cX [.dat (.tuple (ns++[.str "q"]))] h4=.ok (.dat (.list (un ns [.str "q"]))) h4:=by
   obtain ⟨o1,o2,o3⟩:=Bt fL Rn.sub Rq.sub
   have l3:(zu ns [PyData.str "q"]).length < 64:=Nat.lt_of_le_of_lt o3 (by simp;omega)
   have sb:∀ d∈ns++[PyData.str "q"],Br d:=fun d m=>(PL.mp m).elim (Rn.sub d) (Rq.sub d)
   have s2:setOk (ns++[PyData.str "q"])=true:=fL.set sb (by simp;omega)
   have s3:cN (eT (ns++[PyData.str "q"]))=true:=fL.KU (xs:=zu ns [PyData.str "q"]) (fun d m=>((o1 d).mp m).elim (Rn.sub d) (Rq.sub d)) l3
   simp only [cX,sJ,s2,s3,Ro,Qe,un,zu]
  refine ⟨.dat (aL (un ns [.str "q"]) (L8 ns q)),h4,?_,sA,_,_,rfl,Ru,lu'⟩
  rw [show aL (un ns [PyData.str "q"]) (L8 ns q)=.tuple [.tuple (un ns [PyData.str "q"]),.tuple (rows ns q)] by simp only [aL,Fe Rn Ru fun d m=>(Kv Rn Rq).mpr (.inl m)]]
  exact ij rfl (aR (pT (x:=.dat (aL ns r)) rfl rfl) (aR (iZ it e3) (aR (EY t4 (cE (aw (ak (aw (ak (aC (x:=.dat (.tuple ns)) rfl (y:=.dat (.tuple [.str "q"])) rfl (yG h4 (by simp;omega))) rfl) so) rfl) rfl))) (eV (cq (a:=.tuple (un ns [.str "q"])) rfl rfl)))))
 ·rw [PR z] at t4
  refine ⟨.dat (aL ns q),h4,?_,sA,ns,q,rfl,Rn,by omega⟩
  exact ij rfl (aR (pT (x:=.dat (aL ns r)) rfl rfl) (aR (iZ it e3) (aR (Aa t4 rfl) (eV (cq (a:=.tuple ns) rfl rfl)))))
end
theorem Fg (ns:List Int) (hi:Int) {ρ:Fm} (e0:ρ[0]?=some (some (.scr ns))) (hn:ns.length<=63) (h:Hm):∃ ds:List PyData,bb (aq dH (uo (aa (af eX (aa (ae 0) (aa (aj (.int 0)) (ag)))) (ag))) (Ei (ae 0) (mD (aj (.int 1))) (mD (aj (.int hi))))) ρ h=.ok (ds.map D.dat) h/\∀ d∈ds,∃ z:Int,d=.int z:=by
 obtain ⟨z,ez⟩:=Hd ns 0 h
 have ev:ae 0 ρ h=.ok (.scr ns) h:=by simp [ae,e0]
 have l1:uo (aa (af eX (aa (ae 0) (aa (aj (.int 0)) (ag)))) (ag)) ρ h=.ok (.dat (.list [.int z])) h:=(bz (f:=gH) (ak (aw (ak ev (ak (x:=.int 0) rfl rfl)) ez) rfl)).trans (EF _ h)
 have l2:Ei (ae 0) (mD (aj (.int 1))) (mD (aj (.int hi))) ρ h=.ok (.dat (.list (cut (ns.map PyData.int) (some 1) (some hi)))) h:=by
  unfold Ei
  rw [ev]
  rfl
 have lc:(cut (ns.map PyData.int) (some 1) (some hi)).length<=63:=by
  unfold cut
  rw [S7,S8,PX]
  omega
 refine ⟨.int z::cut (ns.map PyData.int) (some 1) (some hi),Bq (aC l1 l2 (jC h (by simp;omega))),fun d m=>?_⟩
 rcases Pn.mp m with rfl | m
 ·exact ⟨z,rfl⟩
 ·obtain ⟨k,_,rfl⟩:=P8.mp (AZ m)
  exact ⟨k,rfl⟩
theorem yP {g:MG} {b:MS} (I:Fm->Prop) {ds:List PyData} (hd:∀ d∈ds,∃ z:Int,d=.int z) (H:∀ (z:Int) ρ h,Wf h->I ρ->∃ ρ1 ρ2 h2,g (.int z) ρ h=.ok ρ1 h/\b ρ1 h=.ok (.nx ρ2) h2/\Wf h2/\I ρ2):∀ {h:Hm} {ρ:Fm},Wf h->I ρ->∃ ρ' h',cV g b (ds.map D.dat) ρ h=.ok (.nx ρ') h'/\I ρ':=by
 induction ds with
 | nil=>exact fun {h ρ} w a=>⟨ρ,h,rfl,a⟩
 | cons d ds ih=>
  intro h ρ w a
  obtain ⟨z,rfl⟩:=hd d (by simp)
  obtain ⟨ρ1,ρ2,h2,e1,e2,w2,a2⟩:=H z ρ h w a
  obtain ⟨ρ',h',e3,a3⟩:=ih (fun x m=>hd x (by simp [m])) w2 a2
  refine ⟨ρ',h',?_,a3⟩
  simp only [P9]
  unfold cV
  rw [e1]
  simp only [R.bI,R.ay]
  rw [e2]
  simp only [R.bI,R.ay]
  exact e3
theorem Fh {i:Nat} {g:MG} {b:MS} (I:Fm->Prop):∀ {xs:List D} {h:Hm} {ρ:Fm},Px i h->(∀ x∈xs,∀ ρ h,Px i h->I ρ->∃ ρ1 ρ2 h2,g x ρ h=.ok ρ1 h/\b ρ1 h=.ok (.nx ρ2) h2/\Px i h2/\I ρ2)->I ρ->∃ ρ' h',cV g b xs ρ h=.ok (.nx ρ') h'/\Px i h'/\I ρ'
 | [],h,ρ,p,_,a=>⟨ρ,h,rfl,p,a⟩
 | d::ds,h,ρ,p,H,a=>by
  obtain ⟨ρ1,ρ2,h2,e1,e2,p2,a2⟩:=H d (by simp) ρ h p a
  obtain ⟨ρ',h',e3,p3,a3⟩:=Fh (i:=i) (g:=g) (b:=b) I (xs:=ds) p2 (fun x m=>H x (by simp [m])) a2
  refine ⟨ρ',h',?_,p3,a3⟩
  unfold cV
  rw [e1]
  simp only [R.bI,R.ay]
  rw [e2]
  simp only [R.bI,R.ay]
  exact e3
theorem vM {g:MG} {b:MS} {j:Nat} {h:Hm} {all:List D} (hj:h[j]?=some (.lst all)) (I:Fm->Prop):∀ {ds:List PyData} {ρ:Fm},(∀ d∈ds,∀ ρ,I ρ->∃ ρ1 ρ2,g (.dat d) ρ h=.ok ρ1 h/\b ρ1 h=.ok (.nx ρ2) h/\I ρ2)->I ρ->∃ ρ',fQ g b j all (ds.map D.dat) ρ h=.ok (.nx ρ') h/\I ρ'
 | [],ρ,_,a=>⟨ρ,by simp [fQ,hj],a⟩
 | d::ds,ρ,H,a=>by
  obtain ⟨ρ1,ρ2,e1,e2,a2⟩:=H d (by simp) ρ a
  obtain ⟨ρ',e3,a3⟩:=vM hj I (ds:=ds) (fun x m=>H x (by simp [m])) a2
  refine ⟨ρ',?_,a3⟩
  simp only [P9,fQ,hj,Qe]
  rw [e1]
  simp only [R.bI,R.ay]
  rw [e2]
  simp only [R.bI,R.ay]
  exact e3
theorem Kx {a b:Kd} (h:PyData.str a.nm=.str b.nm):a=b:=by
 have e:a.nm=b.nm:=by simpa using h
 cases a<;>cases b<;>first | rfl | exact absurd e (by decide +kernel)
theorem Ma (kd:Kd):Ok 12 0 (.str kd.nm):=by cases kd<;>exact Kh (by decide +kernel)
theorem me {d:PyData} (h:d∈eO):∃ kd:Kd,d=.str kd.nm:=by
 simp only [eO,Pn,P1,QU] at h
 rcases h with rfl | rfl | rfl | rfl | rfl
 ·exact ⟨.grounded,rfl⟩
 ·exact ⟨.preferred,rfl⟩
 ·exact ⟨.stable,rfl⟩
 ·exact ⟨.standing,rfl⟩
 ·exact ⟨.whole,rfl⟩
section
variable {n1 n2:List PyData} {r q:Rel}
def OQ:List Kd:=[.stable,.standing,.preferred,.whole,.grounded]
noncomputable def Fi (n1:List PyData) (r:Rel) (n2:List PyData) (q:Rel) (d:PyData):Bool:=OQ.any fun kd=>decide (d=.str kd.nm) && decide (aL n1 (qK kd r)=aL n2 (qK kd q))
theorem rh (kd:Kd):Fi n1 r n2 q (.str kd.nm)=decide (aL n1 (qK kd r)=aL n2 (qK kd q)):=by
 unfold Fi
 rw [QB,Se]
 constructor
 ·rintro ⟨k,_,h⟩
  simp only [Pl,Py] at h
  rw [Kx h.1]
  exact PN h.2
 ·exact fun h=>⟨kd,by cases kd<;>simp [OQ],by rw [h,PN (rfl:PyData.str kd.nm=.str kd.nm)];rfl⟩
noncomputable abbrev uJ (n1:List PyData) (r:Rel) (n2:List PyData) (q:Rel):List PyData:=eO.filter (Fi n1 r n2 q)
theorem Fj:uJ n2 q n1 r=uJ n1 r n2 q:=List.filter_congr fun d hd=>by
 obtain ⟨kd,rfl⟩:=me hd
 rw [rh,rh,QB,RW,RW]
 exact eq_comm
theorem Ai:Ok 70 1 (.tuple (uJ n1 r n2 q)):=by
 have l:(uJ n1 r n2 q).length<=5:=Q1 _ _
 exact ((jE.of fun d m=>by
  obtain ⟨kd,rfl⟩:=me (Qs.mp m).1
  exact Ma kd).mono (by omega) (Pm _)).tup
theorem lC (R1:Nr n1) (R2:Nr n2) (h:Hm):bx [.dat (aL n1 r),.dat (aL n2 q)] h=.ok (.dat (.tuple (uJ n1 r n2 q))) h:=by
 have key:=fT (n:=1) (it:=bb (Mm eO)) (g:=aB 0) (t:=cM (af iK (aa (ae 1) (aa (ae 2) (aa (ae 0) (ag)))))) (e:=ae 0) (ρ:=[some (.dat (aL n1 r)),some (.dat (aL n2 q))]) (h:=h) (h1:=h) (ds:=eO) rfl (by decide) (Fi n1 r n2 q) id (fun d hd=>by
  obtain ⟨kd,rfl⟩:=me hd
  refine ⟨_,rfl,?_,fun _=>rfl⟩
  rw [rh]
  exact tW (aw (xs:=[.dat (aL n1 r),.dat (aL n2 q),.dat (.str kd.nm)]) rfl (EZ R1 R2 kd h)))
 rw [TH] at key
 exact ij rfl (aR (gk (aw (xs:=[.dat (aL n1 r)]) rfl (lB R1 h))) (aR (gk (aw (xs:=[.dat (aL n2 q)]) rfl (lB R2 h))) (eV (aw (ak key rfl) rfl))))
theorem CB (h:Hm):dC [.dat (.list Hq)] h=.ok (.dat (.list eO)) h:=by
 have e1:cN Hq=true:=by decide +kernel
 have e2:cx ltB Hq=eO:=by kernel_rfl
 simp only [dC,listOf,e1,Qe,e2]
abbrev MU:MS:=bh (bT 9 (cC 1 (bb (af dC (aa (af bQ ag) (ag)))) (aB 0) (aN (aq oEq (af bK (aa (ae 5) (aa (ae 0) (ag)))) (af bK (aa (ae 9) (aa (ae 0) (ag)))))) (ae 0)))
  (bh (bT 10 (uo (aa (af bx (aa (ae 4) (aa (ae 8) (ag)))) (aa (af bx (aa (ae 8) (aa (ae 4) (ag)))) (aa (af bx (aa (ae 4) (aa (ae 8) (ag)))) (ag))))))
  (mW (aN (aq nE (af iD (aa (ae 10) (ag))) (af iD (aa (aq kE (uo (aa (af cW (aa (ae 9) (ag))) (ag))) (aj (.int 3))) (ag))))) (cG (aj (.bool false))) (dI)))
theorem Ky (R1:Nr n1) (R2:Nr n2) {h:Hm} (w:Wf h) (a0 a1 a2 a3 a5 a6 a7 a9 a10:Option D):∃ b9 b10,MU [a0,a1,a2,a3,some (.dat (aL n1 r)),a5,a6,a7,some (.dat (aL n2 q)),a9,a10] h=.ok (.nx [a0,a1,a2,a3,some (.dat (aL n1 r)),a5,a6,a7,some (.dat (aL n2 q)),b9,b10]) h:=by
 have key:=fT (n:=1) (it:=bb (af dC (aa (af bQ ag) (ag)))) (g:=aB 0) (t:=aN (aq oEq (af bK (aa (ae 5) (aa (ae 0) (ag)))) (af bK (aa (ae 9) (aa (ae 0) (ag)))))) (e:=ae 0) (ρ:=[a0,a1,a2,a3,some (.dat (aL n1 r)),a5,a6,a7,some (.dat (aL n2 q)),a9,a10]) (h:=h) (h1:=h) (ds:=eO) (Bq (aw (xs:=[.dat (.list Hq)]) rfl (CB h))) (by decide) (Fi n1 r n2 q) id (fun d hd=>by
  obtain ⟨kd,rfl⟩:=me hd
  refine ⟨_,rfl,?_,fun _=>rfl⟩
  rw [rh]
  exact cf (aC (aw (xs:=[.dat (aL n1 r),.dat (.str kd.nm)]) rfl (nC R1 kd w)) (aw (xs:=[.dat (aL n2 q),.dat (.str kd.nm)]) rfl (nC R2 kd w)) (ET h R1 R2)))
 rw [TH] at key
 have k1:=lC (r:=r) (q:=q) R1 R2 h
 have k2:=lC (r:=q) (q:=r) R2 R1 h
 rw [Fj] at k2
 have ok3:Ok 300 2 (.list [.tuple (uJ n1 r n2 q),.tuple (uJ n1 r n2 q),.tuple (uJ n1 r n2 q)]):=((jE.cons Ai (jE.cons Ai (jE.one Ai))).mono (by omega) (Pm _)).lst
 have rp:=EG ok3 h (by decide) (by decide)
 have s10:bT 10 (uo (aa (af bx (aa (ae 4) (aa (ae 8) (ag)))) (aa (af bx (aa (ae 8) (aa (ae 4) (ag)))) (aa (af bx (aa (ae 4) (aa (ae 8) (ag)))) (ag))))) [a0,a1,a2,a3,some (.dat (aL n1 r)),a5,a6,a7,some (.dat (aL n2 q)),some (.dat (.list (uJ n1 r n2 q))),a10] h=.ok (.nx [a0,a1,a2,a3,some (.dat (aL n1 r)),a5,a6,a7,some (.dat (aL n2 q)),some (.dat (.list (uJ n1 r n2 q))),some (.dat (.list [.tuple (uJ n1 r n2 q),.tuple (uJ n1 r n2 q),.tuple (uJ n1 r n2 q)]))]) h:=
  cE ((bz (f:=gH) (ak (aw (xs:=[.dat (aL n1 r),.dat (aL n2 q)]) rfl k1) (ak (aw (xs:=[.dat (aL n2 q),.dat (aL n1 r)]) rfl k2) (ak (aw (xs:=[.dat (aL n1 r),.dat (aL n2 q)]) rfl k1) rfl)))).trans (Kf _ _ _ _))
 refine ⟨_,_,aR (cE key) (aR s10 (Aa (h1:=h) (cf (aC (aw (xs:=[.dat (.list [.tuple (uJ n1 r n2 q),.tuple (uJ n1 r n2 q),.tuple (uJ n1 r n2 q)])]) rfl rp) (aw (ak (aC ((bz (f:=gH) (ak (aw (xs:=[.dat (.list (uJ n1 r n2 q))]) rfl (d:=.dat (.tuple (uJ n1 r n2 q))) rfl) rfl)).trans (EF _ _)) (y:=.int 3) rfl (f:=kE) (r:=.ok (.dat (.list [.tuple (uJ n1 r n2 q),.tuple (uJ n1 r n2 q),.tuple (uJ n1 r n2 q)])) h) ?_) rfl) rp) (f:=nE) ?_)) rfl))⟩
 ·rfl
 ·simp [nE]
end
theorem Fo {ns:List PyData} {r:Rel} (Rn:Nr ns) (nl:ns.length<=7):Ok 900 3 (aL ns r):=by
 have o1:Ok 84 1 (.tuple ns):=(q0 (r:=r) Rn (Pm _)).Mn
 have lr:(rows ns r).length<=49:=Pq ig (Rr nl nl)
 have o2:Ok 740 2 (.tuple (rows ns r)):=((jE.of fun d m=>(j7 ((aV Rn).sub d m)).2.2.2.2.2).mono (by omega) (Pm _)).tup
 exact ((jE.cons (o1.mono (Pm _) (by decide)) (jE.one o2)).mono (by omega) (Pm _)).tup
theorem vN (h:Hm) (n:Nat):∀ ds:List PyData,jr (uX h n) (ds.map D.dat)=some ds
 | []=>rfl
 | d::ds=>by simp [jr,vN h n ds]
theorem yQ {one:PyData} {L3:List PyData} {h:Hm} {L:Nat} {ρ:Fm} {va vb:ME} (hL:h[L]?=some (.lst (L3.map D.dat))) (ok:Ok 9000 9 (.list [one,.list L3])) (ea:va ρ h=.ok (.dat one) h) (eb:vb ρ h=.ok (.ref L) h) :
  af iD (aa (jG (aa va (aa vb ag))) ag) ρ h=.ok (.rpr (PyData.list [one,.list L3]).shown) (h++[.lst [.dat one,.ref L]]):=by
 have m:jG (aa va (aa vb ag)) ρ h=.ok (.ref h.length) (h++[.lst [.dat one,.ref L]]):=Ah (ak ea (ak eb rfl)) (by simp)
 have g1:(h++[MO.lst [.dat one,.ref L]])[h.length]?=some (.lst [.dat one,.ref L]):=by simp
 have hl:=(PF.mp hL).1
 have g2:(h++[MO.lst [.dat one,.ref L]])[L]?=some (.lst (L3.map D.dat)):=by rw [PY hl];exact hL
 have de:qP (h++[.lst [.dat one,.ref L]]) (.ref h.length)=some (.list [one,.list L3]):=by
  simp only [qP,uX,g1,jr,jH,g2,vN,SF]
 refine aw (ak m rfl) ?_
 simp only [iD,de,ok.rep (by decide) (by decide),Bool.true_or,Qe]
noncomputable abbrev Aj:MS:=bh (kC (iq (bR (aB 4) (bR (aB 5) (ip)))) (af jS (aa (ae 2) (aa (aj (.int 6)) (ag)))))
  (bh (bT 6 (jG (aa (ae 5) (aa (af du (aa (ae 2) (aa (ae 4) (ag)))) (ag)))))
  (bh (mW (aN (aq oEq (af ao (aa (ae 2) (aa (aj (.int 3)) (ag)))) (aj (.int 0)))) (gp (kJ dR (ae 6) (af bX (aa (ae 2) (aa (af eU (aa (ae 2) (aa (aj (.int 4)) (ag)))) (ag)))))) (dI))
  (bh (bT 7 (af iD (aa (jG (aa (ae 4) (aa (ae 6) (ag)))) (ag))))
  (bh (ya (ae 6) (aB 8) MU)
  (mW (aN (aq nE (af iD (aa (jG (aa (ae 4) (aa (ae 6) (ag)))) (ag))) (ae 7))) (cG (aj (.bool false))) (dI))))))
theorem Mb {i:Nat} {h:Hm} (b:Px i h) (a0 a1 a3 a4 a5 a6 a7 a8 a9 a10:Option D):∃ h' b4 b5 b6 b7 b8 b9 b10,Aj [a0,a1,some (.ref i),a3,a4,a5,a6,a7,a8,a9,a10] h=.ok (.nx [a0,a1,some (.ref i),a3,b4,b5,b6,b7,b8,b9,b10]) h'/\Px i h':=by
 obtain ⟨_,h1,e1,s1,ns,r,q,rfl,rn,ln⟩:=Ku b (m:=6) (by decide)
 have b1:=s1.px b
 obtain ⟨_,h2,e2,s2,n2,q2,rfl,rn2,ln2⟩:=Ff b1 (r:=r) rn ln
 have b2:=s2.px b1
 have b2':Px i (h2++[.lst ([aL ns q,aL n2 q2].map D.dat)]):=b2.push (dP _ _)
 obtain ⟨_,h3',e3,s3',u,rfl,hu⟩:=ee b2' (c:=3) (by decide) (by decide)
 obtain ⟨h3,rfl,s3⟩:=s3'.pop b2.lt
 have b3:=s3.px b2
 have l3:=s3.len
 have t6:bT 6 (jG (aa (ae 5) (aa (af du (aa (ae 2) (aa (ae 4) (ag)))) (ag)))) [a0,a1,some (.ref i),a3,some (.dat (aL ns r)),some (.dat (aL ns q)),a6,a7,a8,a9,a10] h1=.ok (.nx [a0,a1,some (.ref i),a3,some (.dat (aL ns r)),some (.dat (aL ns q)),some (.ref h2.length),a7,a8,a9,a10]) (h2++[.lst ([aL ns q,aL n2 q2].map D.dat)]):=
  cE (Ah (ak (x:=.dat (aL ns q)) rfl (ak (aw (xs:=[.ref i,.dat (aL ns r)]) rfl e2) rfl)) (by simp))
 obtain ⟨hA,L3,hpA,lA,bA,stp⟩:∃ (hA:Hm) (L3:List PyData),(∀ d∈L3,∃ (n:List PyData) (p:Rel),d=aL n p/\Nr n/\n.length<=7)/\(hA.length=h2.length/\L3.length<=3)/\Px i (hA++[.lst (L3.map D.dat)]) /\
   mW (aN (aq oEq (af ao (aa (ae 2) (aa (aj (.int 3)) (ag)))) (aj (.int 0)))) (gp (kJ dR (ae 6) (af bX (aa (ae 2) (aa (af eU (aa (ae 2) (aa (aj (.int 4)) (ag)))) (ag)))))) (dI) [a0,a1,some (.ref i),a3,some (.dat (aL ns r)),some (.dat (aL ns q)),some (.ref h2.length),a7,a8,a9,a10] (h2++[.lst ([aL ns q,aL n2 q2].map D.dat)])=.ok (.nx [a0,a1,some (.ref i),a3,some (.dat (aL ns r)),some (.dat (aL ns q)),some (.ref h2.length),a7,a8,a9,a10]) (hA++[.lst (L3.map D.dat)]):=by
  have t4:aN (aq oEq (af ao (aa (ae 2) (aa (aj (.int 3)) (ag)))) (aj (.int 0))) [a0,a1,some (.ref i),a3,some (.dat (aL ns r)),some (.dat (aL ns q)),some (.ref h2.length),a7,a8,a9,a10] (h2++[.lst ([aL ns q,aL n2 q2].map D.dat)])=.ok (decide ((u:Int)=0)) (h3++[.lst ([aL ns q,aL n2 q2].map D.dat)]):=cf (aC (aw (xs:=[.ref i,.int 3]) rfl e3) rfl (oU _))
  have two:∀ d∈[aL ns q,aL n2 q2],∃ (n:List PyData) (p:Rel),d=aL n p/\Nr n/\n.length<=7:=fun d m=>by
   simp only [Pn,P1,QU] at m
   rcases m with rfl | rfl
   ·exact ⟨_,_,rfl,rn,by omega⟩
   ·exact ⟨_,_,rfl,rn2,ln2⟩
  by_cases z:(u:Int)=0
  ·rw [PN z] at t4
   have b3':Px i (h3++[.lst ([aL ns q,aL n2 q2].map D.dat)]):=b3.push (dP _ _)
   obtain ⟨_,h4',e4,s4',n3,p0,rfl,rn3,ln3⟩:=E7 b3' (m:=4) (by decide)
   obtain ⟨_,h5',e5,s5',p,rfl⟩:=pU (s4'.px b3') (r:=p0) rn3 (by omega)
   obtain ⟨h5,rfl,s5⟩:=(s4'.trans s5').pop b3.lt
   have b5:=s5.px b3
   refine ⟨h5,[aL ns q,aL n2 q2]++[aL n3 p],fun d m=>?_,⟨by rw [s5.len,l3],by simp⟩,b5.push (dP _ _),?_⟩
   ·rcases PL.mp m with m | m
    ·exact two d m
    ·rw [PV.mp m];exact ⟨_,_,rfl,rn3,by omega⟩
   ·have ap:=E9 (a:=ae 6) (b:=af bX (aa (ae 2) (aa (af eU (aa (ae 2) (aa (aj (.int 4)) (ag)))) (ag)))) (ρ:=[a0,a1,some (.ref i),a3,some (.dat (aL ns r)),some (.dat (aL ns q)),some (.ref h2.length),a7,a8,a9,a10]) (h:=h3) (h2:=h5) (xs:=[aL ns q,aL n2 q2].map D.dat) (y:=.dat (aL n3 p)) s5.len (by rw [l3];rfl) (aw (ak (x:=.ref i) rfl (ak (aw (xs:=[.ref i,.int 4]) rfl e4) rfl)) e5) (by simp)
    exact EY t4 (gk ap)
  ·rw [PR z] at t4
   exact ⟨h3,[aL ns q,aL n2 q2],two,⟨l3,by simp⟩,b3.push (dP _ _),Aa t4 rfl⟩
 have gA:(hA++[MO.lst (L3.map D.dat)])[h2.length]?=some (.lst (L3.map D.dat)):=by rw [<- lA.1];simp
 have okL:Ok 9000 9 (.list [aL ns r,.list L3]):=by
  have o1:Ok 900 8 (aL ns r):=(Fo rn (by omega)).mono (Pm _) (by decide)
  have o3:Ok 2800 8 (.list L3):=((jE.of (n:=900) (m:=7) fun d m=>by
   obtain ⟨n,p,rfl,hn,hl⟩:=hpA d m
   exact (Fo hn hl).mono (Pm _) (by decide)).mono (by have:=lA.2;omega) (Pm _)).lst
  exact ((jE.cons o1 (jE.one o3)).mono (by omega) (Pm _)).lst
 have t7:=yQ (one:=aL ns r) (L3:=L3) (h:=hA++[.lst (L3.map D.dat)]) (L:=h2.length) (ρ:=[a0,a1,some (.ref i),a3,some (.dat (aL ns r)),some (.dat (aL ns q)),some (.ref h2.length),a7,a8,a9,a10]) (va:=ae 4) (vb:=ae 6) gA okL rfl rfl
 generalize hB:hA++[.lst (L3.map D.dat)]++[.lst [.dat (aL ns r),.ref h2.length]]=B at t7
 have hl1:h2.length < (hA++[MO.lst (L3.map D.dat)]).length:=(PF.mp gA).1
 have gB:B[h2.length]?=some (.lst (L3.map D.dat)):=by rw [<- hB,PY hl1];exact gA
 have bB:Px i B:=by
  rw [<- hB]
  refine bA.push ?_
  simp only [MO.below,Tg,List.all_nil,D.below,Bool.and_true,TF,Py]
  omega
 generalize hS:(PyData.list [aL ns r,.list L3]).shown=S at t7
 obtain ⟨ρ8,e8,c8,c9,c10,rfl⟩:=vM (g:=aB 8) (b:=MU) gB (fun ρ=>∃ c8 c9 c10,ρ=[a0,a1,some (.ref i),a3,some (.dat (aL ns r)),some (.dat (aL ns q)),some (.ref h2.length),some (.rpr S),c8,c9,c10]) (ds:=L3) (ρ:=[a0,a1,some (.ref i),a3,some (.dat (aL ns r)),some (.dat (aL ns q)),some (.ref h2.length),some (.rpr S),a8,a9,a10]) (fun d hd ρ ⟨c8,c9,c10,e⟩=>by
  subst e
  obtain ⟨n,p,rfl,hn,_⟩:=hpA d hd
  obtain ⟨b9,b10,e⟩:=Ky (r:=r) (q:=p) rn hn bB.wf a0 a1 (some (.ref i)) a3 (some (.dat (aL ns q))) (some (.ref h2.length)) (some (.rpr S)) c9 c10
  exact ⟨_,_,rfl,e,_,_,_,rfl⟩) ⟨_,_,_,rfl⟩
 have f8:ya (ae 6) (aB 8) MU [a0,a1,some (.ref i),a3,some (.dat (aL ns r)),some (.dat (aL ns q)),some (.ref h2.length),some (.rpr S),a8,a9,a10] B=.ok (.nx [a0,a1,some (.ref i),a3,some (.dat (aL ns r)),some (.dat (aL ns q)),some (.ref h2.length),some (.rpr S),c8,c9,c10]) B:=by
  have v6:ae 6 [a0,a1,some (.ref i),a3,some (.dat (aL ns r)),some (.dat (aL ns q)),some (.ref h2.length),some (.rpr S),a8,a9,a10] B=.ok (.ref h2.length) B:=rfl
  simp only [ya,v6,R.bI,R.ay,gB]
  exact e8
 have t9:=yQ (one:=aL ns r) (L3:=L3) (h:=B) (L:=h2.length) (ρ:=[a0,a1,some (.ref i),a3,some (.dat (aL ns r)),some (.dat (aL ns q)),some (.ref h2.length),some (.rpr S),c8,c9,c10]) (va:=ae 4) (vb:=ae 6) gB okL rfl rfl
 rw [hS] at t9
 have hl2:h2.length < B.length:=(PF.mp gB).1
 have bC:Px i (B++[.lst [.dat (aL ns r),.ref h2.length]]):=by
  refine bB.push ?_
  simp only [MO.below,Tg,List.all_nil,D.below,Bool.and_true,TF,Py]
  omega
 exact ⟨_,_,_,_,_,_,_,_,aR (pT (aw (xs:=[.ref i,.int 6]) rfl e1) rfl) (aR t6 (aR stp (aR (cE t7) (aR f8 (Aa (cf (aC t9 (b:=ae 7) (y:=.rpr S) rfl (f:=nE) (by simp [nE]))) rfl))))),bC⟩
theorem Fp:∀ ns:List Int,ns.length<=63->∃ h,Bb [.scr ns] []=.ok (.bool true) h:=by
 intro ns hn
 obtain ⟨ds,ec,hd⟩:=Fg ns 3 (ρ:=[some (.scr ns),none,none,none,none,none,none,none,none,none,none]) rfl hn []
 obtain ⟨ρ',h',e,_⟩:=yP (g:=aB 1) (b:=bh (bT 2 (af hU (aa (ae 1) (ag)))) (qE (jt (aa (aj (.int 6)) (ag))) (aB 3) Aj))
  (fun ρ=>∃ a1 a2 a3 a4 a5 a6 a7 a8 a9 a10,ρ=[some (.scr ns),a1,a2,a3,a4,a5,a6,a7,a8,a9,a10]) hd (fun z ρ h w ⟨a1,a2,a3,a4,a5,a6,a7,a8,a9,a10,e⟩=>by
   subst e
   obtain ⟨n,f,ep,px⟩:=Kq z w
   obtain ⟨ρ3,h3,e3,p3,b3,b4,b5,b6,b7,b8,b9,b10,rfl⟩:=Fh (i:=h.length) (g:=aB 3) (b:=Aj)
    (fun ρ=>∃ b3 b4 b5 b6 b7 b8 b9 b10,ρ=[some (.scr ns),some (.int z),some (.ref h.length),b3,b4,b5,b6,b7,b8,b9,b10]) (xs:=nums 0 6) (ρ:=[some (.scr ns),some (.int z),some (.ref h.length),a3,a4,a5,a6,a7,a8,a9,a10]) px (fun d hd ρ hh p ⟨b3,b4,b5,b6,b7,b8,b9,b10,e⟩=>by
     subst e
     obtain ⟨h',c4,c5,c6,c7,c8,c9,c10,e,p'⟩:=Mb p (some (.scr ns)) (some (.int z)) (some d) b4 b5 b6 b7 b8 b9 b10
     exact ⟨_,_,h',rfl,e,p',_,_,_,_,_,_,_,_,rfl⟩) ⟨_,_,_,_,_,_,_,_,rfl⟩
   exact ⟨_,_,h3,rfl,aR (cE (aw (xs:=[.int z]) rfl ep)) (iZ (oM (n:=6) (ak rfl rfl) (by decide)) e3),p3.wf,_,_,_,_,_,_,_,_,_,_,rfl⟩) (h:=[]) (ρ:=[some (.scr ns),none,none,none,none,none,none,none,none,none,none]) (fun o m=>by cases m) ⟨_,_,_,_,_,_,_,_,_,_,rfl⟩
 exact ⟨h',ij rfl (aR (iZ ec e) (eV rfl))⟩
end Ml
namespace K22
open PySem L2 Ml
theorem Kz {K:PySem.W.Frag} {h:Heap} {mg:Str->Option Value} {ta0:Addr} {fb0:Addr} {k0:Tok} {k1:Tok} (X:K.In h) (G:h.Ns mainGlobals mg)
  (z0:PySem.W.nsIn K mainGlobals "all" = some none)
  (z1:PySem.W.nsIn K mainGlobals "len" = some none)
  (z2:PySem.W.nsIn K mainGlobals "isinstance" = some none)
  (z3:PySem.W.nsIn K mainGlobals "str" = some none)
  (z4:PySem.W.nsIn K mainGlobals "zip" = some none)
  (z5:PySem.W.nsIn K mainGlobals "tuple" = some none)
  (z6:PySem.W.nsIn K mainGlobals "int" = some none)
  (z7:PySem.W.nsIn K mainGlobals "max" = some none)
  (z8:PySem.W.nsIn K mainGlobals "divmod" = some none)
  (z9:PySem.W.nsIn K mainGlobals "sorted" = some none)
  (z10:PySem.W.nsIn K mainGlobals "range" = some none)
  (z11:PySem.W.nsIn K mainGlobals "set" = some none)
  (z12:PySem.W.nsIn K mainGlobals "list" = some none)
  (z13:PySem.W.nsIn K mainGlobals "repr" = some none)
  (a0:PySem.W.nsIn K mainGlobals "LONGEST_NAME" = some (some (.int 6 k0)))
  (a1:PySem.W.nsIn K mainGlobals "MOST_NAMES" = some (some (.int 12 k1)))
  (fn0:PySem.W.nsIn K mainGlobals "IDLE" = some (some (.ref fb0))) (fk0:NH K fb0 sL=true)
  (tn0:PySem.W.nsIn K mainGlobals "KINDS" = some (some (.ref ta0))) (tk0:NG K ta0 eO=true)
  : Txt K mg:=⟨Qg X G z0,Qg X G z1,Qg X G z2,Qg X G z3,Qg X G z4,Qg X G z5,Qg X G z6,Qg X G z7,Qg X G z8,Qg X G z9,Qg X G z10,Qg X G z11,Qg X G z12,Qg X G z13,⟨_,R7 X G a0⟩,⟨_,R7 X G a1⟩,⟨_,R7 X G fn0,JZ (fun _ _=>R7 X G) fk0⟩,⟨_,R7 X G tn0,JX tk0⟩⟩
theorem all_mk {l:PySem.W.OpenLaw} {w:World} {K:PySem.W.Frag} {h:Heap} {mg:Str->Option Value} {fa f:Addr} {od an:Option Addr} {sl:Array (Option Value)} {oc kV dc pm cd ct:Value} (X:K.In h) (G:h.Ns mainGlobals mg) (hfa:mg "law" = some (.ref fa)) (T:Txt K mg)
  (d0:Df K mg "is_name" lV pK)
  (d1:Df K mg "is_rising" iO kM)
  (d2:Df K mg "are_names" iP kP)
  (d3:Df K mg "is_strike" iQ kQ)
  (d4:Df K mg "are_strikes" gc jf)
  (d5:Df K mg "is_web" oy tE)
  (d6:Df K mg "check_web" iR kR)
  (d7:Df K mg "check_kind" gX jW)
  (d8:Df K mg "idle_for_stable" dG fw)
  (d9:Df K mg "idle_for_standing" cQ eA)
  (d10:Df K mg "idle_for_whole" dX fS)
  (d11:Df K mg "idle_for_grounded" cR eB)
  (d12:Df K mg "kernel" oB tF)
  (d13:Df K mg "are_alike" iU kU)
  (d14:Df K mg "kinds_alike" gf jg)
  (d15:Df K mg "_law_cell" iV kW)
  (d16:Df K mg "_law_pen" jY nu)
  (d17:Df K mg "_law_draw" iW kX)
  (d18:Df K mg "_law_names" gY jZ)
  (d19:Df K mg "_law_web" j0 nv)
  (d20:Df K mg "_law_kernel_kinds" cS eE)
  (d21:Df K mg "_law_is_idle" fz hZ)
  (d22:Df K mg "_law_kernel" gg jh)
  (d23:Df K mg "_law_near_web" eQ gG)
  (d24:Df K mg "_law_fullest" fB ib)
  (d25:Df K mg "_law_turned" gh jj)
  (d26:Df K mg "_law_mate" iX lh)
  (d27:Df K mg "_law_selves" gj jk)
  (d28:Df K mg "_law_two" j3 nB)
  (a:PySem.W.nsIn K mainGlobals "law" = some (some (.ref f))) (l0:K.lookup f=some ⟨oc,od,.func (PySem.W.fnOf "law" "law" (iy oF) (ff oF) (aE oF) .none kV dc pm an cd ct),sl⟩) (c:PySem.W.codeIn K cd "law" = true) (k:PySem.W.keepIn K (.ref f)=true) :
  ∃ fd:FuncData,(∀ (s:Shared) (v:Value),BindsTo s fd ⟨[v],[]⟩ [("_law_script",v)])/\∀ base:Heap,K.In base->base.Ns mainGlobals mg->jn l.prog w K mg base (tZ l.prog w) 8 fa fd ["_law_script"] (Ft ⟨l.prog,w,mg,K⟩ Bb):=by
 have e:=hfa.symm.trans (R7 X G a)
 cases e
 have FL:=za (st:=oF) l0 c k
 refine ⟨PySem.W.fnOf "law" "law" (iy oF) (ff oF) (aE oF) .none kV dc pm an cd ct,fun s v=>.of_eq rfl,fun base _ _=>?_⟩
 have J7:=Cp (P:=l.prog) (w:=w) (base:=base) d0 T
 have J8:=yr (P:=l.prog) (w:=w) (base:=base) d1 T
 have J9:=yt (P:=l.prog) (w:=w) (base:=base) d2 T J8 J7
 have J10:=yu (P:=l.prog) (w:=w) (base:=base) d3 T
 have J11:=uB (P:=l.prog) (w:=w) (base:=base) d4 T J8 J10
 have J12:=EB (P:=l.prog) (w:=w) (base:=base) d5 T J11 J9
 have J13:=yx (P:=l.prog) (w:=w) (base:=base) d6 T J12
 have J16:=wR (P:=l.prog) (w:=w) (base:=base) d7 T
 have J18:=oz (P:=l.prog) (w:=w) (base:=base) d8 T
 have J19:=mq (P:=l.prog) (w:=w) (base:=base) d9 T
 have J20:=pO (P:=l.prog) (w:=w) (base:=base) d10 T
 have J21:=mr (P:=l.prog) (w:=w) (base:=base) d11 T
 have J23:=EC (P:=l.prog) (w:=w) (base:=base) d12 T J21 J19 J18 J20 J16 J13
 have J25:=yA (P:=l.prog) (w:=w) (base:=base) d13 T J23 J16 J13
 have J26:=uE (P:=l.prog) (w:=w) (base:=base) d14 T J25 J13
 have J28:=yB (P:=l.prog) (w:=w) (base:=base) d15 T
 have J29:=zJ (P:=l.prog) (w:=w) (base:=base) d16 T
 have J30:=yC (P:=l.prog) (w:=w) (base:=base) d17 T
 have J31:=wW (P:=l.prog) (w:=w) (base:=base) d18 T J30
 have J32:=zK (P:=l.prog) (w:=w) (base:=base) d19 T J30 J31
 have J33:=mw (P:=l.prog) (w:=w) (base:=base) d20 T
 have J34:=tI (P:=l.prog) (w:=w) (base:=base) d21 T
 have J35:=uG (P:=l.prog) (w:=w) (base:=base) d22 T J34
 have J36:=qJ (P:=l.prog) (w:=w) (base:=base) d23 T J30
 have J37:=tJ (P:=l.prog) (w:=w) (base:=base) d24 T J34
 have J39:=uH (P:=l.prog) (w:=w) (base:=base) d25 T
 have J38:=yD (P:=l.prog) (w:=w) (base:=base) d26 T J30 J39
 have J41:=uI (P:=l.prog) (w:=w) (base:=base) d27 T J30
 have J40:=zL (P:=l.prog) (w:=w) (base:=base) d28 T J30 J41 J37 J35 J38 J33 J32
 exact Kb (P:=l.prog) (w:=w) (base:=base) FL T J28 J26 J33 J35 J30 J41 J32 J36 J40 J29
theorem walk {l:PySem.W.OpenLaw} {q:Program} {loose:List Str} {XP:(Str->Option Value)->Heap->Prop} {YP:World->Heap->Prop} {d:DefRec} {K:Params->PySem.W.Frag} (hn:l.most=some 63) (hdf:d.params.defaults=[])
  (hY:∀ (w:World) (h:Heap),YP w h->(K w.params).In h)
  (F:∀ (w:World) (mg:Str->Option Value) (fa:Addr) (h:Heap),(K w.params).In h->h.Ns mainGlobals mg->mg d.name=some (.ref fa) ->
   ∃ fd:FuncData,(∀ (s:Shared) (u:Value),BindsTo s fd ⟨[u],[]⟩ [("_law_script",u)])/\∀ base:Heap,(K w.params).In base->base.Ns mainGlobals mg->jn l.prog w (K w.params) mg base (tZ l.prog w) 8 fa fd ["_law_script"] (Ft ⟨l.prog,w,mg,K w.params⟩ Bb)) :
  PySem.W.WalkO q loose XP YP l.row.toRowW d [] (fun f vs=>PySem.call f vs):=
 L2.FZ (n:=63) (k:=8) (x := "_law_script") (CX:=fun w=>tZ l.prog w) (sp:=fun w=>HS (K w.params)) hn (by decide) hdf ⟨rfl,by decide,by decide,rfl⟩ hY
  (fun w mg fa h KX G hm=>let ⟨fd,b,o⟩:=F w mg fa h KX G hm;⟨fd,b,fun base k g=>(o base k g).imp fun vs H Q E z=>D7 Fp z⟩)
  (fun w H a ns hl _ hS=>⟨a,ns,rfl,hS,hl,fun _=>rfl⟩) fun w H s e s' ⟨_,_,_,_,_,_,_,_,_,_,_,_,_,z⟩=>z
end K22
open PySem PySem.W PyProof.Rows
def PySem.W.Fast.tw11720695697757802882 : Unit := ()
def PySem.W.Fast.tw7558696676597370662 : Unit := ()
def PySem.W.Fast.tw6160675874003150375 : Unit := ()
def PySem.W.Fast.tw11156957297161223888 : Unit := ()
def PySem.W.Fast.tw6152174784306833104 : Unit := ()
def PySem.W.Fast.tw3765277127500470392 : Unit := ()
def PySem.W.Fast.tw3436267133629964882 : Unit := ()
def PySem.W.Fast.tw7644418256787300337 : Unit := ()
def PySem.W.Fast.tw15719513254642628288 : Unit := ()
def PySem.W.Fast.tw10346313142258740363 : Unit := ()
def PySem.W.Fast.tw6363469541368742507 : Unit := ()
def PySem.W.Fast.tw9107014396986024392 : Unit := ()
def PySem.W.Fast.tw8943625325625746193 : Unit := ()
def PySem.W.Fast.tw12972950239560388548 : Unit := ()
def PySem.W.Fast.tw2832851624340193753 : Unit := ()
def PySem.W.Fast.tw5307239406731927474 : Unit := ()
def PySem.W.Fast.tw274568828470986942 : Unit := ()
def PySem.W.Fast.tw11591039743127526837 : Unit := ()
def PySem.W.Fast.tw2830166784152089256 : Unit := ()
def PySem.W.Fast.tw14350094708279926391 : Unit := ()
def PySem.W.Fast.tw3103409626710304871 : Unit := ()
def PySem.W.Fast.tw14999876398551704873 : Unit := ()
def PySem.W.Fast.tw1543421809475881847 : Unit := ()
def PySem.W.Fast.tw8152128665522554331 : Unit := ()
def PySem.W.Fast.tw13407425344630959249 : Unit := ()
def PySem.W.Fast.tw14411238836013024568 : Unit := ()
def PySem.W.Fast.tw15693257713962487566 : Unit := ()
def PySem.W.Fast.tw3227111621335035448 : Unit := ()
def PySem.W.Fast.tw3855741494786160698 : Unit := ()
def PySem.W.Fast.tw9043495629306115848 : Unit := ()
def PySem.W.Fast.tw2463236547512290103 : Unit := ()
def PySem.W.Fast.tw9092174111625131511 : Unit := ()
def PySem.W.Fast.tw2200774282686552603 : Unit := ()
def PySem.W.Fast.tw18024630839117815979 : Unit := ()
def PySem.W.Fast.tw17932453798431636913 : Unit := ()
def PySem.W.Fast.tw14145132113137678254 : Unit := ()
def PySem.W.Fast.tw9221782648501613559 : Unit := ()
def PySem.W.Fast.tw12018253447618974158 : Unit := ()
def PySem.W.Fast.tw16706729580570289910 : Unit := ()
def PySem.W.Fast.tw17841784409182146784 : Unit := ()
def PySem.W.Fast.tw17989677939910149998 : Unit := ()
def PySem.W.Fast.tw7740567276919033522 : Unit := ()
def PySem.W.Fast.tw17161918242088545859 : Unit := ()
def PySem.W.Fast.tw11251518738844747958 : Unit := ()
def PySem.W.Fast.tw1203777210981786082 : Unit := ()
def PySem.W.Fast.tw16409819673437221558 : Unit := ()
def PySem.W.Fast.tw10299325221199911578 : Unit := ()
def PySem.W.Fast.tw508603032759270636 : Unit := ()
def PySem.W.Fast.tw573760321592524524 : Unit := ()
def PySem.W.Fast.tw1396825980510160805 : Unit := ()
def PySem.W.Fast.tw1632473360449876104 : Unit := ()
def PySem.W.Fast.tw17660010763224057387 : Unit := ()
def PySem.W.Fast.tw1619599494035157551 : Unit := ()
def PySem.W.Fast.tw9631315796347792969 : Unit := ()
def PySem.W.Fast.tw4081463662468490529 : Unit := ()
def PySem.W.Fast.tw16632167204589274898 : Unit := ()
def PySem.W.Fast.tw5428925204782670385 : Unit := ()
def PySem.W.Fast.tw4773204913161042116 : Unit := ()
def PySem.W.Fast.tw12078003785872016646 : Unit := ()
def PySem.W.Fast.tw3275549141903818539 : Unit := ()
def PySem.W.Fast.tw13404823504137884118 : Unit := ()
def PySem.W.Fast.tw1593224936529939001 : Unit := ()
def PySem.W.Fast.tw501554895963623684 : Unit := ()
def PySem.W.Fast.tw2240070868109470684 : Unit := ()
def PySem.W.Fast.tw9364563643857589815 : Unit := ()
def PySem.W.Fast.tw921098442455299846 : Unit := ()
def PySem.W.Fast.tw13092022493106260255 : Unit := ()
def PySem.W.Fast.tw4925327368210005096 : Unit := ()
def PySem.W.Fast.tw12493614031351449621 : Unit := ()
def PySem.W.Fast.tw15759734017711447876 : Unit := ()
def PySem.W.Fast.tw18014472748427680383 : Unit := ()
def PySem.W.Fast.tw15356081428231724992 : Unit := ()
def PySem.W.Fast.tw6934914236837259815 : Unit := ()
def PySem.W.Fast.tw11633287954102925357 : Unit := ()
def PySem.W.Fast.tw11617961720915912943 : Unit := ()
def PySem.W.Fast.tw10772840669932086034 : Unit := ()
def PySem.W.Fast.tw8886407281619808218 : Unit := ()
def PySem.W.Fast.tw12049722477399039644 : Unit := ()
def PySem.W.Fast.tw9472135356900735994 : Unit := ()
def PySem.W.Fast.tw6948667447140581578 : Unit := ()
def PySem.W.Fast.tw6241517473445711279 : Unit := ()
def PySem.W.Fast.tw12676176686043884630 : Unit := ()
def PySem.W.Fast.tw7871146666058736154 : Unit := ()
def PySem.W.Fast.tw5492857092205947508 : Unit := ()
def PySem.W.Fast.tw7884442846654799952 : Unit := ()
def PySem.W.Fast.tw17447382936475203389 : Unit := ()
def PySem.W.Fast.tw8959814989169836209 : Unit := ()
def PySem.W.Fast.tw10077304182495330990 : Unit := ()
def PySem.W.Fast.tw4708858139775036489 : Unit := ()
def PySem.W.Fast.tw18377035130866172211 : Unit := ()
def PySem.W.Fast.tw17970996000884199879 : Unit := ()
def PySem.W.Fast.tw15351922853081409902 : Unit := ()
def PySem.W.Fast.tw14819868017877413659 : Unit := ()
def PySem.W.Fast.tw4243601094305415169 : Unit := ()
def PySem.W.Fast.tw8458932570590345954 : Unit := ()
def PySem.W.Fast.tw687123359047641294 : Unit := ()
def PySem.W.Fast.tw5653130082241637941 : Unit := ()
def PySem.W.Fast.tw98073368239543148 : Unit := ()
def PySem.W.Fast.tw1346789837039794795 : Unit := ()
def PySem.W.Fast.tw2532216212711065537 : Unit := ()
def PySem.W.Fast.tw18417672182224794051 : Unit := ()
def PySem.W.Fast.tw12412986804121502156 : Unit := ()
def PySem.W.Fast.tw17906172823763924279 : Unit := ()
def PySem.W.Fast.tw5760657130374176515 : Unit := ()
def PySem.W.Fast.tw15898335202136006558 : Unit := ()
def PySem.W.Fast.tw15631282716996863127 : Unit := ()
def PySem.W.Fast.tw2826943914557680274 : Unit := ()
def PySem.W.Fast.tw1930986300505596989 : Unit := ()
def PySem.W.Fast.tw6635922673662178790 : Unit := ()
def PySem.W.Fast.tw584539764934367508 : Unit := ()
def PySem.W.Fast.tw8267310262502964825 : Unit := ()
def PySem.W.Fast.tw4355070713299154718 : Unit := ()
def PySem.W.Fast.tw16085127725320988769 : Unit := ()
def PySem.W.Fast.tw8535108413119494864 : Unit := ()
def PySem.W.Fast.tw7361155688032353420 : Unit := ()
def PySem.W.Fast.tw18410609850639629943 : Unit := ()
def PySem.W.Fast.tw2195143737676739791 : Unit := ()
def PySem.W.Fast.tw2109344205365246987 : Unit := ()
def PySem.W.Fast.tw13389873380250089906 : Unit := ()
def PySem.W.Fast.tw14467419341725058149 : Unit := ()
def PySem.W.Fast.tw13926002543883921089 : Unit := ()
def PySem.W.Fast.tw16185800349033624206 : Unit := ()
def PySem.W.Fast.tw5509462342497218062 : Unit := ()
def PySem.W.Fast.tw4934392574471281342 : Unit := ()
def PySem.W.Fast.tw2820114612876756436 : Unit := ()
def PySem.W.Fast.tw13031008674610934646 : Unit := ()
def PySem.W.Fast.tw2384584829836563935 : Unit := ()
def PySem.W.Fast.tw11978288822035917074 : Unit := ()
def PySem.W.Fast.tw17521885928863696085 : Unit := ()
def PySem.W.Fast.tw15612321044410370261 : Unit := ()
def PySem.W.Fast.tw13510583361685863167 : Unit := ()
def PySem.W.Fast.tw8508005171555224293 : Unit := ()
def PySem.W.Fast.tw4841566892149982277 : Unit := ()
def PySem.W.Fast.tw6247957409129218922 : Unit := ()
def PySem.W.Fast.tw9425544255333806960 : Unit := ()
def PySem.W.Fast.tw17733506393211162483 : Unit := ()
def PySem.W.Fast.tw1741923279808935022 : Unit := ()
def PySem.W.Fast.tw10004240700671267946 : Unit := ()
def PySem.W.Fast.tw14315795534656220478 : Unit := ()
def PySem.W.Fast.tw12149089513821659210 : Unit := ()
def PySem.W.Fast.tw16314373523630998341 : Unit := ()
def PySem.W.Fast.tw14392275703516874250 : Unit := ()
def PySem.W.Fast.tw11489471026753883858 : Unit := ()
def PySem.W.Fast.tw9446670924192736652 : Unit := ()
def PySem.W.Fast.tw6311083025827617136 : Unit := ()
def PySem.W.Fast.tw16741158016706948447 : Unit := ()
def PySem.W.Fast.tw14695192103243903191 : Unit := ()
def PySem.W.Fast.tw14799418884563931842 : Unit := ()
def PySem.W.Fast.tw4643677117446486247 : Unit := ()
def PySem.W.Fast.tw3719407814460148610 : Unit := ()
def PySem.W.Fast.tw10583028241367799800 : Unit := ()
def PySem.W.Fast.tw6960079295682640399 : Unit := ()
def PySem.W.Fast.tw13136417072007572274 : Unit := ()
def PySem.W.Fast.tw7243865897761961799 : Unit := ()
def PySem.W.Fast.tw1539904121708413316 : Unit := ()
def PySem.W.Fast.tw10600370239269454844 : Unit := ()
def PySem.W.Fast.tw17631836562777649252 : Unit := ()
def PySem.W.Fast.tw7262522682877011784 : Unit := ()
def PySem.W.Fast.tw1492020085472136694 : Unit := ()
def PySem.W.Fast.tw10758479039325555970 : Unit := ()
def PySem.W.Fast.tw10757631786099578938 : Unit := ()
def PySem.W.Fast.tw7507561699110809249 : Unit := ()
def PySem.W.Fast.tw6188784836918835830 : Unit := ()
def PySem.W.Fast.tw4388645738362260812 : Unit := ()
def PySem.W.Fast.tw3248426891747957200 : Unit := ()
def PySem.W.Fast.tw17385057745560596220 : Unit := ()
def PySem.W.Fast.tw9523117014451542389 : Unit := ()
def PySem.W.Fast.tw9436723104157943053 : Unit := ()
def PySem.W.Fast.tw9015296043912929220 : Unit := ()
def PySem.W.Fast.tw8934474932452954421 : Unit := ()
def PySem.W.Fast.tw8756297749349325759 : Unit := ()
def PySem.W.Fast.tw8653113044059328779 : Unit := ()
def PySem.W.Fast.tw8427292732756203522 : Unit := ()
def PySem.W.Fast.tw8136600637983394914 : Unit := ()
def PySem.W.Fast.tw8070761919041957301 : Unit := ()
def PySem.W.Fast.tw7610684272223965165 : Unit := ()
def PySem.W.Fast.tw6558691056090787154 : Unit := ()
def PySem.W.Fast.tw5776908249892713132 : Unit := ()
def PySem.W.Fast.tw5114883432516746432 : Unit := ()
def PySem.W.Fast.tw4909019588931226175 : Unit := ()
def PySem.W.Fast.tw4860430490173777767 : Unit := ()
def PySem.W.Fast.tw4476478855796391424 : Unit := ()
def PySem.W.Fast.tw4439839809722954969 : Unit := ()
def PySem.W.Fast.tw3984210594885100059 : Unit := ()
def PySem.W.Fast.tw331611745469336225 : Unit := ()
def PySem.W.Fast.tw3266667057074403293 : Unit := ()
def PySem.W.Fast.tw2887573174779506325 : Unit := ()
def PySem.W.Fast.tw2872279973375034264 : Unit := ()
def PySem.W.Fast.tw2524292043327918794 : Unit := ()
def PySem.W.Fast.tw2393063846228941318 : Unit := ()
def PySem.W.Fast.tw1840347309784909437 : Unit := ()
def PySem.W.Fast.tw18064447516263363532 : Unit := ()
def PySem.W.Fast.tw17882694960412611937 : Unit := ()
def PySem.W.Fast.tw17759419961763218885 : Unit := ()
def PySem.W.Fast.tw17458209587560687768 : Unit := ()
def PySem.W.Fast.tw16622206833684499243 : Unit := ()
def PySem.W.Fast.tw16453717752236961344 : Unit := ()
def PySem.W.Fast.tw16306460248692477170 : Unit := ()
def PySem.W.Fast.tw16264505029435836017 : Unit := ()
def PySem.W.Fast.tw15888329119151855005 : Unit := ()
def PySem.W.Fast.tw15653417634767676780 : Unit := ()
def PySem.W.Fast.tw15215500402197509906 : Unit := ()
def PySem.W.Fast.tw1504347412085359296 : Unit := ()
def PySem.W.Fast.tw14305128054070552244 : Unit := ()
def PySem.W.Fast.tw14144876223720782942 : Unit := ()
def PySem.W.Fast.tw13836870313194977028 : Unit := ()
def PySem.W.Fast.tw13819267847673838775 : Unit := ()
def PySem.W.Fast.tw13633083016678853289 : Unit := ()
def PySem.W.Fast.tw1327623967056393459 : Unit := ()
def PySem.W.Fast.tw13145605134010170441 : Unit := ()
def PySem.W.Fast.tw1268467026366007262 : Unit := ()
def PySem.W.Fast.tw12339982781189532107 : Unit := ()
def PySem.W.Fast.tw12123415156689288936 : Unit := ()
def PySem.W.Fast.tw11990935404081065969 : Unit := ()
def PySem.W.Fast.tw11663601240272403695 : Unit := ()
def PySem.W.Fast.tw11349192064747291569 : Unit := ()
def PySem.W.Fast.tw11020335594800167157 : Unit := ()
def PySem.W.Fast.tw11004687692013837361 : Unit := ()
def PySem.W.Fast.tw10912287031801272108 : Unit := ()
def PySem.W.Fast.tw10727888846718963579 : Unit := ()
def PySem.W.Fast.tw10327625637899724765 : Unit := ()
set_option maxRecDepth 100000 in
set_option maxHeartbeats 0 in
theorem PySem.Challenge.cw_everalike_k22_kinds_in_which_webs_are_al_holds : PySem.Challenge.rw_everalike_k22_kinds_in_which_webs_are_al.Holds := by
 w_on;o_law;k_head;(case hw=>w_witness2)
 k_fill
 refine K22.walk (l:=PySem.Challenge.rw_everalike_k22_kinds_in_which_webs_are_al) rfl rfl (fun w h Y=>PySem.W.kIn_of Y) ?F
 case F=>
  intro w mg fa h KX G hmg
  refine' K22.all_mk KX G hmg ?T ?d0 ?d1 ?d2 ?d3 ?d4 ?d5 ?d6 ?d7 ?d8 ?d9 ?d10 ?d11 ?d12 ?d13 ?d14 ?d15 ?d16 ?d17 ?d18 ?d19 ?d20 ?d21 ?d22 ?d23 ?d24 ?d25 ?d26 ?d27 ?d28 ?a ?l ?c ?k
  case T=>
   refine' K22.Kz KX G ?zz0 ?zz1 ?zz2 ?zz3 ?zz4 ?zz5 ?zz6 ?zz7 ?zz8 ?zz9 ?zz10 ?zz11 ?zz12 ?zz13 ?aa0 ?aa1 ?fn0 ?fk0 ?tn0 ?tk0
   (case zz0=>k_is)
   (case zz1=>k_is)
   (case zz2=>k_is)
   (case zz3=>k_is)
   (case zz4=>k_is)
   (case zz5=>k_is)
   (case zz6=>k_is)
   (case zz7=>k_is)
   (case zz8=>k_is)
   (case zz9=>k_is)
   (case zz10=>k_is)
   (case zz11=>k_is)
   (case zz12=>k_is)
   (case zz13=>k_is)
   (case aa0=>k_is)
   (case aa1=>k_is)
   (case fn0=>k_is)
   (case fk0=>kernel_rfl)
   (case tn0=>k_is)
   (case tk0=>kernel_rfl)
  case d0=>
   refine' Ml.cK KX G ?a0 ?l0 ?c0 ?k0 (fun _ _ _ _ _ _ us hl=>match us,hl with | [_],_=>rfl)
   (case a0=>k_is);(case l0=>k_is);(case c0=>k_is);(case k0=>k_is)
  case d1=>
   refine' Ml.cK KX G ?a1 ?l1 ?c1 ?k1 (fun _ _ _ _ _ _ us hl=>match us,hl with | [_],_=>rfl)
   (case a1=>k_is);(case l1=>k_is);(case c1=>k_is);(case k1=>k_is)
  case d2=>
   refine' Ml.cK KX G ?a2 ?l2 ?c2 ?k2 (fun _ _ _ _ _ _ us hl=>match us,hl with | [_],_=>rfl)
   (case a2=>k_is);(case l2=>k_is);(case c2=>k_is);(case k2=>k_is)
  case d3=>
   refine' Ml.cK KX G ?a3 ?l3 ?c3 ?k3 (fun _ _ _ _ _ _ us hl=>match us,hl with | [_,_],_=>rfl)
   (case a3=>k_is);(case l3=>k_is);(case c3=>k_is);(case k3=>k_is)
  case d4=>
   refine' Ml.cK KX G ?a4 ?l4 ?c4 ?k4 (fun _ _ _ _ _ _ us hl=>match us,hl with | [_,_],_=>rfl)
   (case a4=>k_is);(case l4=>k_is);(case c4=>k_is);(case k4=>k_is)
  case d5=>
   refine' Ml.cK KX G ?a5 ?l5 ?c5 ?k5 (fun _ _ _ _ _ _ us hl=>match us,hl with | [_],_=>rfl)
   (case a5=>k_is);(case l5=>k_is);(case c5=>k_is);(case k5=>k_is)
  case d6=>
   refine' Ml.cK KX G ?a6 ?l6 ?c6 ?k6 (fun _ _ _ _ _ _ us hl=>match us,hl with | [_],_=>rfl)
   (case a6=>k_is);(case l6=>k_is);(case c6=>k_is);(case k6=>k_is)
  case d7=>
   refine' Ml.cK KX G ?a7 ?l7 ?c7 ?k7 (fun _ _ _ _ _ _ us hl=>match us,hl with | [_],_=>rfl)
   (case a7=>k_is);(case l7=>k_is);(case c7=>k_is);(case k7=>k_is)
  case d8=>
   refine' Ml.cK KX G ?a8 ?l8 ?c8 ?k8 (fun _ _ _ _ _ _ us hl=>match us,hl with | [_,_,_],_=>rfl)
   (case a8=>k_is);(case l8=>k_is);(case c8=>k_is);(case k8=>k_is)
  case d9=>
   refine' Ml.cK KX G ?a9 ?l9 ?c9 ?k9 (fun _ _ _ _ _ _ us hl=>match us,hl with | [_,_,_],_=>rfl)
   (case a9=>k_is);(case l9=>k_is);(case c9=>k_is);(case k9=>k_is)
  case d10=>
   refine' Ml.cK KX G ?a10 ?l10 ?c10 ?k10 (fun _ _ _ _ _ _ us hl=>match us,hl with | [_,_,_],_=>rfl)
   (case a10=>k_is);(case l10=>k_is);(case c10=>k_is);(case k10=>k_is)
  case d11=>
   refine' Ml.cK KX G ?a11 ?l11 ?c11 ?k11 (fun _ _ _ _ _ _ us hl=>match us,hl with | [_,_,_],_=>rfl)
   (case a11=>k_is);(case l11=>k_is);(case c11=>k_is);(case k11=>k_is)
  case d12=>
   refine' Ml.cK KX G ?a12 ?l12 ?c12 ?k12 (fun _ _ _ _ _ _ us hl=>match us,hl with | [_,_],_=>rfl)
   (case a12=>k_is);(case l12=>k_is);(case c12=>k_is);(case k12=>k_is)
  case d13=>
   refine' Ml.cK KX G ?a13 ?l13 ?c13 ?k13 (fun _ _ _ _ _ _ us hl=>match us,hl with | [_,_,_],_=>rfl)
   (case a13=>k_is);(case l13=>k_is);(case c13=>k_is);(case k13=>k_is)
  case d14=>
   refine' Ml.cK KX G ?a14 ?l14 ?c14 ?k14 (fun _ _ _ _ _ _ us hl=>match us,hl with | [_,_],_=>rfl)
   (case a14=>k_is);(case l14=>k_is);(case c14=>k_is);(case k14=>k_is)
  case d15=>
   refine' Ml.cK KX G ?a15 ?l15 ?c15 ?k15 (fun _ _ _ _ _ _ us hl=>match us,hl with | [_,_],_=>rfl)
   (case a15=>k_is);(case l15=>k_is);(case c15=>k_is);(case k15=>k_is)
  case d16=>
   refine' Ml.cK KX G ?a16 ?l16 ?c16 ?k16 (fun _ _ _ _ _ _ us hl=>match us,hl with | [_],_=>rfl)
   (case a16=>k_is);(case l16=>k_is);(case c16=>k_is);(case k16=>k_is)
  case d17=>
   refine' Ml.cK KX G ?a17 ?l17 ?c17 ?k17 (fun _ _ _ _ _ _ us hl=>match us,hl with | [_,_],_=>rfl)
   (case a17=>k_is);(case l17=>k_is);(case c17=>k_is);(case k17=>k_is)
  case d18=>
   refine' Ml.cK KX G ?a18 ?l18 ?c18 ?k18 (fun _ _ _ _ _ _ us hl=>match us,hl with | [_,_],_=>rfl)
   (case a18=>k_is);(case l18=>k_is);(case c18=>k_is);(case k18=>k_is)
  case d19=>
   refine' Ml.cK KX G ?a19 ?l19 ?c19 ?k19 (fun _ _ _ _ _ _ us hl=>match us,hl with | [_,_],_=>rfl)
   (case a19=>k_is);(case l19=>k_is);(case c19=>k_is);(case k19=>k_is)
  case d20=>
   refine' Ml.cK KX G ?a20 ?l20 ?c20 ?k20 (fun _ _ _ _ _ _ us hl=>match us,hl with | [],_=>rfl)
   (case a20=>k_is);(case l20=>k_is);(case c20=>k_is);(case k20=>k_is)
  case d21=>
   refine' Ml.cK KX G ?a21 ?l21 ?c21 ?k21 (fun _ _ _ _ _ _ us hl=>match us,hl with | [_,_,_,_],_=>rfl)
   (case a21=>k_is);(case l21=>k_is);(case c21=>k_is);(case k21=>k_is)
  case d22=>
   refine' Ml.cK KX G ?a22 ?l22 ?c22 ?k22 (fun _ _ _ _ _ _ us hl=>match us,hl with | [_,_],_=>rfl)
   (case a22=>k_is);(case l22=>k_is);(case c22=>k_is);(case k22=>k_is)
  case d23=>
   refine' Ml.cK KX G ?a23 ?l23 ?c23 ?k23 (fun _ _ _ _ _ _ us hl=>match us,hl with | [_,_],_=>rfl)
   (case a23=>k_is);(case l23=>k_is);(case c23=>k_is);(case k23=>k_is)
  case d24=>
   refine' Ml.cK KX G ?a24 ?l24 ?c24 ?k24 (fun _ _ _ _ _ _ us hl=>match us,hl with | [_,_],_=>rfl)
   (case a24=>k_is);(case l24=>k_is);(case c24=>k_is);(case k24=>k_is)
  case d25=>
   refine' Ml.cK KX G ?a25 ?l25 ?c25 ?k25 (fun _ _ _ _ _ _ us hl=>match us,hl with | [_,_],_=>rfl)
   (case a25=>k_is);(case l25=>k_is);(case c25=>k_is);(case k25=>k_is)
  case d26=>
   refine' Ml.cK KX G ?a26 ?l26 ?c26 ?k26 (fun _ _ _ _ _ _ us hl=>match us,hl with | [_,_,_],_=>rfl)
   (case a26=>k_is);(case l26=>k_is);(case c26=>k_is);(case k26=>k_is)
  case d27=>
   refine' Ml.cK KX G ?a27 ?l27 ?c27 ?k27 (fun _ _ _ _ _ _ us hl=>match us,hl with | [_,_],_=>rfl)
   (case a27=>k_is);(case l27=>k_is);(case c27=>k_is);(case k27=>k_is)
  case d28=>
   refine' Ml.cK KX G ?a28 ?l28 ?c28 ?k28 (fun _ _ _ _ _ _ us hl=>match us,hl with | [_,_],_=>rfl)
   (case a28=>k_is);(case l28=>k_is);(case c28=>k_is);(case k28=>k_is)
  (case a=>k_is);(case l=>k_is);(case c=>k_is);(case k=>k_is)
