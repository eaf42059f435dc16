import PyProof.Rows.All
import Wide.All
import OpenK.AllK
import Wide.FinOn
import Lean
import PyProof.EqAt
import PyProof.EqKinds
import PyProof.TupleCall
import KE.KSortTup
import PyProof.Rows.SortShellK
import PyProof.Rows.SortWalk
import KE.KDictList
import KE.KStar
import PyProof.ListMulRoad
import PyProof.FactsAll.tuple
import KE.KTab
import PyProof.DictCompW
import PySem.SetOps
import PyProof.SetScanFacts
import PyProof.SetNew
import PyProof.SetRoads
import PyProof.Rows.SetFrom
import PyProof.WalksMore
import PyProof.CollectWalk
import PySem.Challenge.RW_everalike_k15_whole_webs_of_one_kernel
set_option linter.all false
namespace PySem
abbrev NC:=@PySem.wpAny_bind
abbrev ND:=@PySem.wpAny_pure
abbrev NF:=@PySem.Heap.get?_push_of_some
abbrev NG:=@Bool.and_eq_true
abbrev NH:=@List.mem_append_right
abbrev NI:=@Nat.le_refl
abbrev NJ:=@List.mem_cons
abbrev NK:=@PySem.Heap.lt_size
abbrev NL:=@PySem.Heap.get?_push_size
abbrev NM:=@Nat.lt_of_lt_of_le
abbrev NO:=@List.mem_cons_of_mem
abbrev NP:=@Bool.false_eq_true
abbrev NQ:=@List.size_toArray
abbrev NR:=@List.getElem?_eq_getElem
abbrev NS:=@Nat.le_trans
abbrev NT:=@List.all_eq_true
abbrev NU:=@List.mem_cons_self
abbrev NV:=@decide_eq_true
abbrev NW:=@decide_eq_false
abbrev NX:=@List.mem_append
abbrev NY:=@List.getElem?_eq_some_iff
abbrev NZ:=@List.length_map
abbrev N0:=@Nat.ne_of_lt
abbrev N3:=@List.length_cons
abbrev N4:=@List.length_append
abbrev N5:=@Nat.lt_irrefl
abbrev N6:=@Array.getElem?_eq_getElem
abbrev N7:=@decide_eq_true_eq
abbrev N8:=@List.mem_singleton
abbrev N9:=@List.not_mem_nil
abbrev Oa:=@Bool.false_ne_true
abbrev Ob:=@List.map_cons
abbrev Oc:=@PySem.Paired.length
abbrev Od:=@List.mem_of_getElem?
abbrev Oe:=@List.mem_map
abbrev Of:=@PySem.wpAny_call_entry
abbrev Og:=@Array.getElem?_toList
abbrev Oh:=@List.getElem?_append_left
abbrev Oi:=@PySem.Heap.size_push
abbrev Oj:=@PySem.wpAny_callSpecial?_slot
abbrev Ol:=@Array.getD_eq_getD_getElem?
abbrev Om:=@PySem.wpAny_newObj_type
abbrev Oo:=@List.getElem?_append_right
abbrev Oq:=@List.mem_append_left
abbrev Ot:=@if_true
abbrev Ou:=@if_false
abbrev Ov:=@List.pairwise_iff_forall_sublist
abbrev Ow:=@PySem.wpAny_holding
abbrev Ox:=@PySem.W.mg_none_of
abbrev Oy:=@List.pairwise_cons
abbrev Oz:=@Classical.byContradiction
abbrev OA:=@Option.map_eq_some_iff
abbrev OB:=@List.length_nil
abbrev OC:=@PyProof.Rows.slot_tuple_getitem
abbrev OD:=@List.mem_range
abbrev OE:=@Array.getElem?_eq_some_iff
abbrev OF:=@Array.length_toList
abbrev OG:=@Int.toNat_natCast
abbrev OH:=@List.drop_eq_getElem_cons
abbrev OI:=@Option.some.inj
abbrev OJ:=@List.length_replicate
abbrev OL:=@PySem.wpAny_seqItems
abbrev OM:=@List.getElem?_map
abbrev ON:=@PySem.wpAny_Call_Name_kw
abbrev OO:=@List.getElem?_set_self
abbrev OP:=@List.drop_of_length_le
abbrev OQ:=@Bool.eq_iff_iff
abbrev OR:=@PySem.W.kia_one
abbrev OS:=@PyProof.Rows.F.plain_set_update_loop
abbrev OT:=@PySem.mem_of_lookup
abbrev OU:=@PySem.wpAny_mono
abbrev OV:=@PySem.Heap.get?_update_self
abbrev OW:=@or_false
abbrev OX:=@PySem.F.slot_dict_keyiterator_next
abbrev OY:=@List.mem_filter
abbrev OZ:=@PySem.wpAny_field
abbrev O0:=@Nat.zero_le
abbrev O1:=@PyProof.Rows.ReadsAll.keeps
abbrev O6:=@List.getElem?_of_mem
abbrev O7:=@PySem.wpAny_truthy_bool
abbrev O8:=@List.replicate_succ
abbrev O9:=@Nat.le_succ
abbrev Pa:=@Nat.lt_succ_of_lt
abbrev Pb:=@of_decide_eq_true
abbrev Pd:=@PySem.wpAny_standAt
abbrev Pe:=@List.nodup_cons
abbrev Pf:=@PySem.wpAny_ite_split
abbrev Pg:=@List.length_filter_le
abbrev Ph:=@List.zip_cons_cons
abbrev Pj:=@List.set_cons_zero
abbrev Pk:=@PySem.sizeLine_eq
abbrev Pl:=@List.lookup_cons
abbrev Pm:=@PySem.wpAny_typeNameOfWhole_keyiter
abbrev Pn:=@List.filter_cons
abbrev Po:=@List.pairwise_append
abbrev Pp:=@List.getElem?_cons_zero
abbrev Pq:=@beq_eq_false_iff_ne
abbrev Pr:=@PyProof.Rows.callWith_type1
abbrev Pt:=@List.nil_append
abbrev Pu:=@List.forIn_cons
abbrev Py:=@PySem.Heap.SameBut.update
abbrev Pz:=@List.find?_cons
abbrev PB:=@PySem.F.slot_tuple_iterator_next
abbrev PD:=@PySem.wpAny_rule
abbrev PF:=@Nat.lt_succ_self
abbrev PH:=@congrArg
abbrev PJ:=@PySem.wpAny_setField_rec
abbrev PL:=@Nat.lt_or_ge
abbrev PM:=@PySem.PyData.tuple.injEq
abbrev PN:=@Bool.not_true
abbrev PQ:=@List.take_append_drop
abbrev PR:=@List.set_cons_succ
abbrev PU:=@List.forIn_nil
abbrev PV:=@List.pairwise_iff_getElem
abbrev PX:=@Array.mem_toList_iff
abbrev PY:=@List.mem_iff_getElem
abbrev PZ:=@PySem.Around.under_plainId
abbrev P0:=@List.getElem?_take_of_lt
abbrev P1:=@List.flatten_cons
abbrev P4:=@Bool.or_eq_true
abbrev P5:=@PySem.wpAny_comprehension_free
abbrev P6:=@PySem.Heap.get?_push_ne
abbrev P7:=@List.cons.injEq
abbrev P8:=@PySem.sizeLine_eq
abbrev P9:=@PySem.wpAny_typeNameOf_keyiter
abbrev Qa:=@List.filterMap_cons_some
abbrev Qb:=@List.filterMap_cons
abbrev Qc:=@List.getElem?_replicate
abbrev Qd:=@PySem.wpAny_of_eq
abbrev Qe:=@PySem.wpAny_attempt
abbrev Qf:=@List.length_eq_zero_iff
abbrev Qg:=@List.getElem_of_mem
abbrev Qh:=@List.getElem?_cons_succ
abbrev Qi:=@List.cons_append
abbrev Qj:=@Bool.not_false
abbrev Qk:=@PySem.Heap.get?_update_other
abbrev Ql:=@List.mem_filterMap
abbrev Qm:=@PySem.Obj.data_mapFields
abbrev Qn:=@Nat.ne_of_gt
abbrev Qo:=@List.map_nil
abbrev Qp:=@PySem.wpAny_specialOf
abbrev Qq:=@Int.emod_nonneg
abbrev Qr:=@PySem.codeAny_builtin
abbrev Qs:=@PySem.F.called_set
abbrev Qt:=@Option.some.injEq
abbrev Qu:=@List.any_cons
abbrev Qv:=@PySem.F.slot_tuple_hash
abbrev Qw:=@List.nodup_append
abbrev Qx:=@List.pairwise_map
abbrev Qy:=@PySem.wpAny_pyIter_slot
abbrev Qz:=@PySem.W.mg_of
abbrev QA:=@Bool.and_self
abbrev QB:=@List.length_eraseIdx_of_lt
abbrev QC:=@List.getElem?_set_ne
abbrev QD:=@List.mem_of_mem_take
abbrev QE:=@PyProof.Rows.F.entry_set_update_loop
abbrev QF:=@Nat.mul_le_mul
abbrev QG:=@List.length_take
abbrev QH:=@PySem.wpAny_isInstance
abbrev QJ:=@PySem.Heap.size_update
abbrev QK:=@PySem.F.slot_dict_eq_refl
abbrev QL:=@Int.toNat_of_nonneg
abbrev QM:=@PySem.F.args_tuple_add_2
abbrev QN:=@PySem.call_meets
abbrev QO:=@PySem.SetTable.toList_insertAt
abbrev QP:=@List.filterMap_cons_none
abbrev QQ:=@List.Pairwise.imp_of_mem
abbrev QR:=@PySem.wpAny_pyIter_tuple
abbrev QS:=@PySem.wpAny_passesOwn
abbrev QT:=@PySem.F.entry_tuple_add
abbrev QU:=@PySem.tupleKind_room_in1
abbrev QV:=@Array.forIn_toList
abbrev QW:=@Int.emod_lt_of_pos
abbrev QX:=@decide_eq_true_iff
abbrev QY:=@PySem.W.cellsFrom_some
abbrev QZ:=@PySem.F.slot_tuple_add
abbrev Q0:=@Array.getElem?_eq_none
abbrev Q1:=@PySem.wpAny_load
abbrev Q3:=@beq_iff_eq
abbrev Q4:=@PySem.wpAny_dictEntries
abbrev Q5:=@List.eraseIdx_eq_take_drop_succ
abbrev Q6:=@Bool.false_and
abbrev Q7:=@PySem.wpAny_setField
abbrev Q8:=@PySem.Value.type.inj
abbrev Q9:=@Nat.le_of_lt
abbrev Ra:=@PySem.codeAny_mono
abbrev Rb:=@PyProof.Rows.callWith_builtin1
abbrev Rc:=@PySem.wpAny_typeOf
abbrev Rf:=@List.length_singleton
abbrev Rg:=@PySem.Obj.isFreed_of_fields
abbrev Rh:=@List.map_map
abbrev Ri:=@List.getElem?_eq_none
abbrev Rj:=@PySem.F.slot_tuple_lt
abbrev Rk:=@Ne.symm
abbrev Rm:=@List.length_drop
abbrev Ro:=@List.any_eq_true
abbrev Rp:=@Nat.le_add_right
abbrev Rq:=@Option.getD_some
abbrev Rr:=@PySem.SeqAt.eqAt_reads
abbrev Rt:=@PySem.wpAny_askSetting
abbrev Ru:=@PySem.wpAny_loadName_local
abbrev Rv:=@PySem.wpAny_updateSeq_pair
abbrev Rx:=@Bool.or_eq_false_iff
abbrev Ry:=@PySem.plainId_quiet
abbrev Rz:=@Nat.mod_lt
abbrev RA:=@PySem.wpAny_loadName_cell
abbrev RB:=@List.append_nil
abbrev RC:=@List.of_mem_zip
abbrev RD:=@Option.map_some
abbrev RE:=@PySem.F.slot_zip_next
abbrev RF:=@PySem.Heap.dictOf_iff
abbrev RG:=@getElem?_pos
abbrev RH:=@PySem.isSubtype_type
abbrev RI:=@PySem.wpAny_Name
abbrev RJ:=@List.take_sublist
abbrev RK:=@List.append_assoc
abbrev RL:=@bne_self_eq_false
abbrev RM:=@Option.isSome_map
abbrev RN:=@List.length_range
abbrev RO:=@Bool.not_eq_true'
abbrev RP:=@Function.comp_def
abbrev RQ:=@List.flatMap_cons
abbrev RS:=@List.getElem_mem
abbrev RT:=@Nat.pow_succ
end PySem
set_option Elab.async false
set_option linter.all false
set_option maxRecDepth 100000
namespace L2
open PySem PySem.Spec PyProof.Rows
abbrev Key:=Sum Int Str
def pH:Key->Value->Bool
 | .inl k,v=>Value.isInt k v
 | .inr x,v=>Value.isStrOf x v
def Ld (w:World):Key->Int
 | .inl k=>hashInt k
 | .inr x=>hashStr w x
theorem bU:∀ {k:Key} {v:Value},pH k v=true->(∃ i t,k=Sum.inl i/\v=Value.int i t)\/(∃ x t,k=Sum.inr x/\v=Value.str x t)
 | .inl i,v,h=>by
  obtain ⟨t,e⟩:=Value.isInt_shape (k:=i) (v:=v) h
  exact .inl ⟨i,t,rfl,e⟩
 | .inr x,v,h=>by
  obtain ⟨t,e⟩:=Value.isStrOf_shape (x:=x) (v:=v) h
  exact .inr ⟨x,t,rfl,e⟩
theorem Ah (i:Int) (t:Tok):pH (.inl i) (.int i t)=true:=by simp [pH,Value.isInt]
theorem Ai (x:Str) (t:Tok):pH (.inr x) (.str x t)=true:=by simp [pH,Value.isStrOf]
theorem GC (a b:Int):decide ((Sum.inl a:Key)=Sum.inl b)=(a == b):=by
 by_cases e:a=b
 ·subst e;simp
 ·have h:¬ (Sum.inl a:Key)=Sum.inl b:=fun q=>e (Sum.inl.inj q)
  rw [NW h]
  exact (Pq.mpr e).symm
theorem GD (a b:Str):decide ((Sum.inr a:Key)=Sum.inr b)=decide (a=b):=by
 by_cases e:a=b
 ·subst e;simp
 ·have h:¬ (Sum.inr a:Key)=Sum.inr b:=fun q=>e (Sum.inr.inj q)
  rw [NW h,NW e]
theorem GF (a:Int) (b:Str):decide ((Sum.inl a:Key)=Sum.inr b)=false:=NW (fun q=>nomatch q)
theorem GG (a:Str) (b:Int):decide ((Sum.inr a:Key)=Sum.inl b)=false:=NW (fun q=>nomatch q)
def bS (prog:Program) (w:World):PySem.KeyKind prog w Key where
 is:=pH
 hash:=Ld w
 inj:=fun v a b ha hb=>by
  rcases bU ha with ⟨i,t,rfl,rfl⟩ | ⟨x,t,rfl,rfl⟩
  ·rcases bU hb with ⟨j,u,rfl,e⟩ | ⟨y,u,rfl,e⟩
   ·injection e with e1 _;rw [e1]
   ·exact nomatch e
  ·rcases bU hb with ⟨j,u,rfl,e⟩ | ⟨y,u,rfl,e⟩
   ·exact nomatch e
   ·injection e with e1 _;rw [e1]
 byValue:=fun k v h=>by
  rcases bU h with ⟨i,t,rfl,rfl⟩ | ⟨x,t,rfl,rfl⟩<;>rfl
 pyHash:=fun hv h=>by
  rcases bU hv with ⟨i,t,rfl,rfl⟩ | ⟨x,t,rfl,rfl⟩
  ·exact wpAny_pyHash_int h
  ·exact wpAny_pyHash_str h
 eqBool:=fun hu hv h=>by
  rcases bU hu with ⟨i,t,rfl,rfl⟩ | ⟨x,t,rfl,rfl⟩
  ·rcases bU hv with ⟨j,u,rfl,rfl⟩ | ⟨y,u,rfl,rfl⟩
   ·rw [GC] at h;exact wpAny_eqBool_int h
   ·rw [GF] at h;exact SeqAt.EqAt.int_str i t y u _ _ _ _ h
  ·rcases bU hv with ⟨j,u,rfl,rfl⟩ | ⟨y,u,rfl,rfl⟩
   ·rw [GG] at h;exact SeqAt.EqAt.str_int x t j u _ _ _ _ h
   ·rw [GD] at h;exact wpAny_eqBool_str h
 «strs» := fun k x t v h=>by
  rcases bU h with ⟨i,u,rfl,e⟩ | ⟨y,u,rfl,e⟩
  ·exact nomatch e
  ·injection e with e1 _
   subst e1
   cases v<;>rfl
theorem vC (prog:Program) (w:World) (i:Int) (t:Tok):(bS prog w).is (.inl i) (.int i t)=true:=Ah i t
theorem vD (prog:Program) (w:World) (x:Str) (t:Tok):(bS prog w).is (.inr x) (.str x t)=true:=Ai x t
inductive V where
 | non | bl (b:Bool) | int (i:Int) | str (x:Str) | byt (b:Array UInt8) | flt (b:UInt64) | ref (a:Addr) | ty (n:String)
 deriving DecidableEq
def RelV:V->Value->Prop
 | .non,u=>u=Value.none
 | .bl b,u=>u=Value.bool b
 | .int i,u=>∃ t,u=Value.int i t
 | .str x,u=>∃ t,u=Value.str x t
 | .byt b,u=>∃ t,u=Value.bytes b t
 | .flt b,u=>∃ t,u=Value.float b t
 | .ref a,u=>u=Value.ref a
 | .ty n,u=>u=Value.type n
abbrev Vals:List V->List Value->Prop:=Paired RelV
theorem Vals.length {xs:List V} {us:List Value} (r:Vals xs us):xs.length=us.length:=Oc r
theorem Vals.get:∀ {xs:List V} {us:List Value} {i:Nat} {x:V},Vals xs us->xs[i]?=some x->∃ u,us[i]?=some u/\RelV x u
 | _,_,_,_,.nil,e=>by simp at e
 | _,_,0,_,.cons r _,e=>by simp at e;subst e;exact ⟨_,rfl,r⟩
 | _,_,i+1,x,.cons _ t,e=>by
  obtain ⟨u,h1,h2⟩:=Vals.get (i:=i) (x:=x) t (by simpa using e)
  exact ⟨u,by simpa using h1,h2⟩
theorem Vals.set {x:V} {u:Value} (r:RelV x u):∀ {xs:List V} {us:List Value} (i:Nat),Vals xs us->Vals (xs.set i x) (us.set i u)
 | _,_,_,.nil=>.nil
 | _,_,0,.cons _ t=>.cons r t
 | _,_,i+1,.cons q t=>.cons q (Vals.set r i t)
theorem Vals.append:∀ {xs ys:List V} {us ws:List Value},Vals xs us->Vals ys ws->Vals (xs++ys) (us++ws)
 | _,_,_,_,.nil,s=>s
 | _,_,_,_,.cons r t,s=>.cons r (Vals.append t s)
theorem Vals.take:∀ {xs:List V} {us:List Value} (n:Nat),Vals xs us->Vals (xs.take n) (us.take n)
 | _,_,0,_=>.nil
 | _,_,_+1,.nil=>.nil
 | _,_,n+1,.cons r t=>.cons r (Vals.take n t)
theorem Vals.drop:∀ {xs:List V} {us:List Value} (n:Nat),Vals xs us->Vals (xs.drop n) (us.drop n)
 | _,_,0,r=>r
 | _,_,_+1,.nil=>.nil
 | _,_,n+1,.cons _ t=>Vals.drop n t
def pI:Option V->Option Value->Prop
 | some v,some u=>RelV v u
 | none,none=>True
 | _,_=>False
def KV {κ:Type}:List (κ×V)->List (κ×Value)->Prop:=Paired fun (p:κ×V) (q:κ×Value)=>p.1=q.1/\RelV p.2 q.2
def kV:Key->V
 | .inl i=>.int i
 | .inr x=>.str x
inductive HO where
 | lst (xs:List V)
 | tup (xs:List V)
 | dK (kvs:List (Key×V)) | dT (kvs:List (List Key×V))
 | set (S:Int->Bool) (n:Nat)
 | ins (C dx:Addr) (fs:List (Str×V))
 | own (x:Addr)
 | xd (fs:List (Str×V))
 | met (f x:Addr)
 | rng (lo hi:Int)
 | frz (o:Obj) (u:HO)
 | tbl (ps:Array Value)
 | ext (φ:Heap->Prop)
abbrev Hp:=Addr->Option HO
def upd (H:Hp) (a:Addr) (o:HO):Hp:=fun b=>if b=a then some o else H b
theorem ba {H:Hp} {a:Addr} {o:HO}:upd H a o a=some o:=by unfold upd;rw [if_pos rfl]
theorem aB {H:Hp} {a b:Addr} {o:HO} (h:b≠a):upd H a o b=H b:=by unfold upd;rw [if_neg h]
theorem Jd {H:Hp} {a b:Addr} {o u:HO} (h:H a=some o) (h':H b=some u) (d:o≠u):a≠b:=by
 intro e;subst e;rw [h] at h';exact d (OI h')
theorem aH {H:Hp} {a b:Addr} {o:HO} (h:H a=some o) (h':H b=none):a≠b:=by
 intro e;subst e;rw [h] at h';cases h'
section
variable (P:Program) (w:World)
def cu (H:Hp) (h:Heap) (a:Addr):HO->Prop
 | .lst xs=>xs.length<=sizeLine/\∃ (its:List Value) (n:Nat),Vals xs its/\h.get? a=some {cls:=.type "list",data:=.seq its.toArray n}
 | .tup xs=>xs.length<=sizeLine/\∃ its:List Value,Vals xs its/\IsTup h a its.toArray
 | .dK kvs=>kvs.length<=sizeLine/\(a == sysModules)=false/\∃ vs,KV kvs vs/\h.DictOf (bS P w) a vs
 | .dT kvs=>kvs.length<=sizeLine/\(a == sysModules)=false/\∃ xs:List (List Key×Addr×Value),
   Paired (fun (p:List Key×V) (q:List Key×Addr×Value)=>p.1=q.1/\H q.2.1=some (.tup (p.1.map kV))/\RelV p.2 q.2.2) kvs xs /\
   ∃ o es ep,h.get? a=some o/\o.ExactDict/\o.data=.dict es ep/\es.toList=xs.map (entryOfKey (tupleKind (bS P w)))/\(xs.map (·.1)).Nodup
 | .set S n=>h.SetOf (intKind P w) a S n
 | .ins C dx fs=>H dx=some (.own a)/\fs.length<=1000/\dx≠a/\h.get? a=some (PySem.W.instObj C dx) /\
   ∃ mA,h.Ns1 dx mA/\(∀ f,pI (fs.lookup f) (mA f))/\PySem.Within mA (fs.map (·.1))
 | .own _=>∃ o,h.get? a=some o
 | .xd fs=>∃ mA,h.Ns1 a mA/\∀ f,pI (fs.lookup f) (mA f)
 | .rng lo hi=>∃ t u v,h.get? a=some {cls:=.type "range",data:=.fields #[.int lo t,.int hi u,.int 1 v]}
 | .frz o u=>h.get? a=some o/\cu H h a u
 | .tbl ps=>h.get? a=some {cls:=.none,data:=.fields ps}
 | .met f x=>h.get? a=some (PySem.W.methodObj (.ref f) (.ref x))
 | .ext φ=>φ h/\(∃ o,h.get? a=some o)/\∀ h1 h2:Heap,φ h1->(∀ o,h1.get? a=some o->h2.get? a=some o)->φ h2
def jx (H:Hp) (h:Heap):Prop:=∀ a o,H a=some o->cu P w H h a o
end
section
variable {P:Program} {w:World} {H H':Hp} {h h':Heap} {a:Addr} {o:HO}
theorem cu.lt (x:cu P w H h a o):a < h.objs.size:=by
 cases o with
 | lst xs=>obtain ⟨_,_,_,_,e⟩:=x;exact NK e
 | tup xs=>obtain ⟨_,_,_,p⟩:=x;exact p.lt
 | dK kvs=>obtain ⟨_,_,_,_,o,_,_,e,_⟩:=x;exact NK e
 | dT kvs=>obtain ⟨_,_,_,_,o,_,_,e,_⟩:=x;exact NK e
 | set S n=>obtain ⟨o,_,_,_,e,_⟩:=x;exact NK e
 | ins C dx fs=>obtain ⟨_,_,_,e,_⟩:=x;exact NK e
 | own y=>obtain ⟨_,e⟩:=x;exact NK e
 | xd fs=>obtain ⟨_,⟨_,_,_,e,_⟩,_⟩:=x;exact NK e
 | rng lo hi=>obtain ⟨_,_,_,e⟩:=x;exact NK e
 | frz ob u=>obtain ⟨e,_⟩:=x;exact NK e
 | tbl ps=>exact NK (show h.get? a=some _ from x)
 | met f y=>exact NK (show h.get? a=some _ from x)
 | ext φ=>obtain ⟨_,⟨_,e⟩,_⟩:=x;exact NK e
theorem Paired.rJ {α β:Type} {F G:α->β->Prop}:∀ {l₁:List α} {l₂:List β},Paired F l₁ l₂->(∀ a b,F a b->G a b)->Paired G l₁ l₂
 | _,_,.nil,_=>.nil
 | _,_,.cons r t,f=>.cons (f _ _ r) (Paired.rJ t f)
theorem cu.pJ (x:cu P w H h a o) (k:∀ b u,(b=a\/H b=some (.own a))->h.get? b=some u->h'.get? b=some u)
  (ho:∀ b,H b=some (.own a)->H' b=some (.own a)) (ht:∀ b xs,H b=some (.tup xs)->H' b=some (.tup xs)):cu P w H' h' a o:=by
 induction o with
 | lst xs=>obtain ⟨z,its,n,r,e⟩:=x;exact ⟨z,its,n,r,k _ _ (.inl rfl) e⟩
 | tup xs=>obtain ⟨z,its,r,ob,e,c⟩:=x;exact ⟨z,its,r,ob,k _ _ (.inl rfl) e,c⟩
 | dK kvs=>obtain ⟨z,y,vs,r,ob,es,ep,e,c⟩:=x;exact ⟨z,y,vs,r,ob,es,ep,k _ _ (.inl rfl) e,c⟩
 | dT kvs=>
  obtain ⟨z,y,xs,r,ob,es,ep,e,c⟩:=x
  exact ⟨z,y,xs,Paired.rJ r fun p q z=>⟨z.1,ht _ _ z.2.1,z.2.2⟩,ob,es,ep,k _ _ (.inl rfl) e,c⟩
 | set S n=>obtain ⟨ob,es,ep,t,e,c⟩:=x;exact ⟨ob,es,ep,t,k _ _ (.inl rfl) e,c⟩
 | ins C dx fs=>
  obtain ⟨d,z,ne,e,mA,⟨od,es,ep,e2,c⟩,r⟩:=x
  exact ⟨ho _ d,z,ne,k _ _ (.inl rfl) e,mA,⟨od,es,ep,k _ _ (.inr d) e2,c⟩,r⟩
 | own y=>obtain ⟨ob,e⟩:=x;exact ⟨ob,k _ _ (.inl rfl) e⟩
 | xd fs=>obtain ⟨mA,⟨od,es,ep,e,c⟩,r⟩:=x;exact ⟨mA,⟨od,es,ep,k _ _ (.inl rfl) e,c⟩,r⟩
 | rng lo hi=>obtain ⟨t,u,v,e⟩:=x;exact ⟨t,u,v,k _ _ (.inl rfl) e⟩
 | frz ob u ih=>obtain ⟨e,q⟩:=x;exact ⟨k _ _ (.inl rfl) e,ih q⟩
 | tbl ps=>
  have e:h.get? a=some {cls:=.none,data:=.fields ps}:=x
  show h'.get? a=some {cls:=.none,data:=.fields ps}
  exact k a _ (.inl rfl) e
 | met f y=>
  have e:h.get? a=some (PySem.W.methodObj (.ref f) (.ref y)):=x
  show h'.get? a=some (PySem.W.methodObj (.ref f) (.ref y))
  exact k a _ (.inl rfl) e
 | ext φ=>obtain ⟨p,⟨o,e⟩,st⟩:=x;exact ⟨st _ _ p fun o q=>k _ _ (.inl rfl) q,⟨o,k _ _ (.inl rfl) e⟩,st⟩
theorem jx.lt (x:jx P w H h) (e:H a=some o):a < h.objs.size:=(x a o e).lt
theorem jx.fresh (x:jx P w H h) (e:h.objs.size<=a):H a=none:=by
 cases q:H a with
 | none=>rfl
 | some u=>exact absurd (NM (x.lt q) e) (N5 _)
theorem jx.kept (x:jx P w H h) (k:∀ b u,h.get? b=some u->h'.get? b=some u):jx P w H h':=fun a o e=>
 (x a o e).pJ (fun b u _ q=>k b u q) (fun _ q=>q) fun _ _ q=>q
theorem jx.laid (x:jx P w H h) (k:∀ b u,h.get? b=some u->h'.get? b=some u) (hp:h.objs.size<=a) (new:cu P w (upd H a o) h' a o):jx P w (upd H a o) h':=fun b u e=>by
 have hn:=x.fresh hp
 by_cases hb:b=a
 ·subst hb;rw [ba] at e;cases e;exact new
 ·rw [aB hb] at e
  exact (x b u e).pJ (fun c v _ q=>k c v q) (fun c q=>by rw [aB (aH q hn)];exact q) fun c xs q=>by rw [aB (aH q hn)];exact q
end
def Rd (H:Hp) (a:Addr) (u:HO):Prop:=H a=some u\/∃ o,H a=some (.frz o u)
theorem Rd.ok {P:Program} {w:World} {H:Hp} {h:Heap} {a:Addr} {u:HO} (r:Rd H a u) (x:jx P w H h):cu P w H h a u:=by
 rcases r with r | ⟨o,r⟩
 ·exact x a u r
 ·obtain ⟨_,q⟩:=x a _ r
  exact q
def IQ:Option HO->Prop
 | some (.lst _)=>True
 | some (.dK _)=>True
 | some (.dT _)=>True
 | some (.set _ _)=>True
 | some (.ins _ _ _)=>True
 | some (.ext _)=>True
 | _=>False
section
variable {P:Program} {w:World} {H:Hp} {h h':Heap} {x e:Addr} {o':HO}
theorem jx.write (ok:jx P w H h) (mu:IQ (H x)) (he:e=x\/H e=some (.own x)) (k:∀ b u,b≠e->h.get? b=some u->h'.get? b=some u) (heo:∃ u,h'.get? e=some u)
  (new:cu P w (upd H x o') h' x o'):jx P w (upd H x o') h':=fun b u q=>by
 have nown:∀ c y,H c=some (.own y)->c≠x:=fun c y r z=>by subst z;rw [r] at mu;exact mu
 have ntup:∀ c xs,H c=some (.tup xs)->c≠x:=fun c xs r z=>by subst z;rw [r] at mu;exact mu
 by_cases hb:b=x
 ·subst hb;rw [ba] at q;cases q;exact new
 ·rw [aB hb] at q
  by_cases hbe:b=e
  ·have q':H b=some (.own x):=by
    rcases he with z | z
    ·exact absurd (hbe.trans z) hb
    ·rw [hbe];exact z
   rw [q] at q';cases q'
   obtain ⟨v,hv⟩:=heo
   exact ⟨v,by rw [hbe];exact hv⟩
  ·refine (ok b u q).pJ (fun c v hc r=>k c v ?_ r) (fun c r=>by rw [aB (nown c b r)];exact r) fun c xs r=>by rw [aB (ntup c xs r)];exact r
   rcases hc with rfl | hc
   ·exact hbe
   ·rintro rfl
    rcases he with z | z
    ·exact nown c b hc z
    ·rw [hc] at z;cases z;exact hb rfl
end
structure Un (fs ex:List Addr) (H H':Hp) (h h':Heap):Prop where
 keep:∀ b o,h.get? b=some o->H b=none->b∉fs->b∉ex->h'.get? b=some o
 slot:∀ b o,h.get? b=some o->H b=none->b∈fs->b∉ex->∃ sl,h'.get? b=some {o with slots:=sl}
 free:∀ b o,h.get? b=some o->H b=none->b∉ex->H' b=none
 there:∀ b o,h.get? b=some o->b∉ex->∃ o',h'.get? b=some o'
 tups:∀ b xs,H b=some (.tup xs)->H' b=some (.tup xs)
 frzs:∀ b o u,H b=some (.frz o u)->H' b=some (.frz o u)
 tbls:∀ b ps,H b=some (.tbl ps)->∃ more,H' b=some (.tbl (ps++more))
section
variable {fs fs' ex ex':List Addr} {H H1 H2:Hp} {h h1 h2 h':Heap} {a x e:Addr} {o:HO}
theorem Un.any (u:Un fs ex H H1 h h1) {b:Addr} {ob:Obj} (q:h.get? b=some ob) (n:H b=none) (hx:b∉ex):∃ sl,h1.get? b=some {ob with slots:=sl}:=by
 by_cases hb:b∈fs
 ·exact u.slot b ob q n hb hx
 ·exact ⟨ob.slots,u.keep b ob q n hb hx⟩
theorem Un.kept (k:∀ b u,h.get? b=some u->h'.get? b=some u):Un fs ex H H h h':=
 ⟨fun b ob q _ _ _=>k b ob q,fun b ob q _ _ _=>⟨ob.slots,k b ob q⟩,fun _ _ _ n _=>n,fun b ob q _=>⟨ob,k b ob q⟩,fun _ _ q=>q,fun _ _ _ q=>q,fun _ ps q=>⟨#[],by rw [q];simp⟩⟩
theorem Un.refl:Un fs ex H H h h:=Un.kept fun _ _ q=>q
theorem Un.laid (k:∀ b u,h.get? b=some u->h'.get? b=some u) (hp:h.objs.size<=a) (hn:H a=none):Un fs ex H (upd H a o) h h' where
 keep:=fun b u q _ _ _=>k b u q
 slot:=fun b u q _ _ _=>⟨u.slots,k b u q⟩
 free:=fun b u q n _=>by rw [aB (N0 (NM (NK q) hp))];exact n
 there:=fun b u q _=>⟨u,k b u q⟩
 tups:=fun b xs q=>by rw [aB (aH q hn)];exact q
 frzs:=fun b u xs q=>by rw [aB (aH q hn)];exact q
 tbls:=fun b ps q=>⟨#[],by rw [aB (aH q hn),q];simp⟩
theorem Un.write (mu:IQ (H x)) (he:e=x\/H e=some (.own x)) (k:∀ b u,b≠e->h.get? b=some u->h'.get? b=some u) (heo:∃ u,h'.get? e=some u):Un fs ex H (upd H x o) h h':=by
 have hx:∀ b,H b=none->b≠x:=fun b n z=>by subst z;rw [n] at mu;exact mu
 have hb:∀ b,H b=none->b≠e:=fun b n z=>by
  subst z
  rcases he with r | r
  ·exact hx b n r
  ·rw [n] at r;cases r
 have hm:∀ b u,H b=some u->¬ IQ (some u)->b≠x:=fun b u q nm z=>by subst z;rw [q] at mu;exact nm mu
 refine ⟨fun b u q n _ _=>k b u (hb b n) q,fun b u q n _ _=>⟨u.slots,k b u (hb b n) q⟩,fun b u q n _=>by rw [aB (hx b n)];exact n,fun b u q _=>?_,
  fun b xs q=>by rw [aB (hm b _ q fun z=>z)];exact q,fun b u xs q=>by rw [aB (hm b _ q fun z=>z)];exact q,fun b ps q=>⟨#[],by rw [aB (hm b _ q fun z=>z),q];simp⟩⟩
 by_cases hbe:b=e
 ·subst hbe;exact heo
 ·exact ⟨u,k b u hbe q⟩
end
def Aj (h:Heap) (H:Hp):List Addr:=(List.range h.objs.size).filter fun a=>(H a).isSome
def ua (h:Heap) (H:Hp):Heap:=PySem.W.hideAll h (Aj h H)
theorem Ak (h:Heap) (H:Hp):(ua h H).objs.size=h.objs.size:=PySem.W.hideAll_size _ _
theorem Bf {h:Heap} {H:Hp} {b:Addr} {o:Obj} (e:h.get? b=some o) (n:H b=none):(ua h H).get? b=some o:=
 PySem.W.hideAll_get _ e fun hm=>by
  have q:(H b).isSome=true:=(OY.mp hm).2
  rw [n] at q;simp at q
theorem DU {h:Heap} {H:Hp} {b:Addr} {o:Obj} (e:(ua h H).get? b=some o):h.get? b=some o/\H b=none:=by
 have e':h.get? b=some o:=PySem.W.of_hideAll (Aj h H) e
 refine ⟨e',?_⟩
 cases q:H b with
 | none=>rfl
 | some x=>
  have hm:b∈Aj h H:=OY.mpr ⟨OD.mpr (NK e'),by simp [q]⟩
  have z:(ua h H).get? b=none:=PySem.W.hideAll_none (Aj h H) hm
  rw [z] at e;cases e
def DV (g h:Heap) (L:Addr):List (Addr×Obj):=(List.range h.objs.size).filterMap fun a=>if a=L\/(g.get? a).isSome=true then none else (h.get? a).map fun o=>(a,o)
def rest (g h:Heap) (L d:Addr):List (Addr×Obj):=(DV g h L).filter fun p=>decide (p.1≠d)
structure Mod (K:PySem.W.Frag) (mg:Str->Option Value) (base:Heap):Prop where
 kin:K.In base
 glob:base.Ns mainGlobals mg
 blt:∃ mb,base.Ns builtinsNs mb/\∀ x:Str,x ≠ "__name__" -> mb x=bootBuiltins x
 nolimit:base.NoLimit
structure Cx where
 prog:Program
 w:World
 K:PySem.W.Frag
 mg:Str->Option Value
 base:Heap
 A:Around
 N:List Str
 s₀:Shared
 H₀:Hp
 env:Env
 outer:List Env
 stack:List Env
 ex:List Addr
 fn:Str->Bool
 calm:Bool
 pn:List (Addr×Obj)
 xe:Value->Shared->Prop
def rG (l:List Env):List Addr:=l.filterMap (·.frame)
abbrev Cx.fs (X:Cx):List Addr:=rG X.outer
def DX (sc:Scope) (x:Str):Prop:=sc.names.lookup x=some .local\/sc.names.lookup x=some .cell\/sc.names.lookup x=some .free
def Loc (sc:Scope) (x:Str):Prop:=sc.names.lookup x=some .local\/sc.names.lookup x=some .cell
def Look (env:Env) (h:Heap) (m:Str->Option Value) (x:Str) (u:Value):Prop:=
 (env.kindOf x=some .local/\m x=some u)\/((env.kindOf x=some .cell\/env.kindOf x=some .free)/\∃ c,env.cells.lookup x=some c/\h.IsCell c (some u))
structure Cx.Ok (X:Cx):Prop where
 mod:Mod X.K X.mg X.base
 kind:X.env.scope.kind=.function
 glob:X.env.globals=mainGlobals
 blt:X.env.builtins=builtinsNs
 above:X.s₀.heap.objs.size<=X.env.locals
 inj:∀ x y c,X.env.cells.lookup x=some c->X.env.cells.lookup y=some c->x=y
 has:∀ x,(X.env.kindOf x=some .cell\/X.env.kindOf x=some .free)->∃ c,X.env.cells.lookup x=some c
 cab:∀ x c,X.fn x=true->X.env.cells.lookup x=some c->X.s₀.heap.objs.size<=c
 hd:X.calm=true->X.A.handled=none
 frames:X.A.frames=some X.stack
 stk:X.stack=X.outer\/(X.stack=X.env::X.outer/\X.env.frame=some X.env.locals)
 exf:∀ b∈X.ex,b≠X.env.locals/\∀ x c,X.env.cells.lookup x=some c->c≠b
 bs:∀ b o,X.base.get? b=some o->X.s₀.heap.get? b=some o/\X.H₀ b=none
 bsz:X.base.objs.size<=X.s₀.heap.objs.size
 noex:∀ b o,X.base.get? b=some o->b∉X.ex
 exfs:∀ b∈X.ex,b∉X.fs
 ny:X.s₀.heap.FunFrames X.base X.outer
 frf:∀ b∈X.fs,X.H₀ b=none
structure Inv (X:Cx) (pins:List (Addr×Obj)) (σ:List (Option V)) (H:Hp) (s:Shared):Prop where
 ok:X.Ok
 os:s.os=X.s₀.os
 bare:AllBare s.gens
 base:Un X.fs X.ex X.H₀ H X.s₀.heap s.heap
 loc:∃ m,s.heap.Ns X.env.locals m/\∀ (i:Nat) (x:Str) (v:V),X.N[i]?=some x->σ[i]?=some (some v)->DX X.env.scope x->∃ u,RelV v u/\Look X.env s.heap m x u
 cell:∀ x c,X.env.cells.lookup x=some c->∃ v,s.heap.IsCell c v
 free:H X.env.locals=none
 freeC:∀ x c,X.env.cells.lookup x=some c->H c=none
 pin:∀ p∈X.pn++pins,s.heap.get? p.1=some p.2/\H p.1=none/\p.1≠X.env.locals/\p.1∉X.fs/\∀ v,p.2.data≠.cell v
 hok:jx X.prog X.w H s.heap
 len:σ.length=X.N.length
section
variable {X:Cx} {pins:List (Addr×Obj)} {σ:List (Option V)} {H H':Hp} {s:Shared} {h':Heap}
theorem Cx.Ok.Le (ok:X.Ok) {b:Addr} {o:Obj} (e:X.base.get? b=some o):b∉X.fs:=fun hb=>by
 have:=(ok.ny.mem hb).1
 rw [e] at this;cases this
theorem Inv.bs (I:Inv X pins σ H s):∀ b o,X.base.get? b=some o->s.heap.get? b=some o/\H b=none:=fun b o e=>
 ⟨I.base.keep b o (I.ok.bs b o e).1 (I.ok.bs b o e).2 (I.ok.Le e) (I.ok.noex b o e),I.base.free b o (I.ok.bs b o e).1 (I.ok.bs b o e).2 (I.ok.noex b o e)⟩
theorem Inv.bk (I:Inv X pins σ H s):∀ b o,X.base.get? b=some o->s.heap.get? b=some o:=fun b o e=>(I.bs b o e).1
theorem Inv.mod (I:Inv X pins σ H s):Mod X.K X.mg X.base:=I.ok.mod
theorem Inv.rH (I:Inv X pins σ H s):X.K.In s.heap:=I.ok.mod.kin.keeps I.bk
theorem Inv.lt (I:Inv X pins σ H s):X.env.locals < s.heap.objs.size:=let ⟨_,hn,_⟩:=I.loc;hn.lt
theorem Inv.sz (I:Inv X pins σ H s):X.s₀.heap.objs.size<=s.heap.objs.size:=NS I.ok.above (Q9 I.lt)
theorem Inv.xD (I:Inv X pins σ H s) {a:Addr} (h:s.heap.objs.size<=a):a∉X.fs:=fun hb=>by
 obtain ⟨_,o,ho,_⟩:=I.ok.ny.mem hb
 exact absurd (NM (NK ho) (NS I.sz h)) (N5 _)
theorem Inv.GH (I:Inv X pins σ H s):∀ x c,X.env.cells.lookup x=some c->c≠X.env.locals:=fun x c e z=>by
 obtain ⟨v,o,ho,hd⟩:=I.cell x c e
 obtain ⟨m,⟨o',es,ep,ho',hd',_⟩,_⟩:=I.loc
 rw [z,ho'] at ho;cases ho;rw [hd'] at hd;cases hd
theorem Inv.ny (I:Inv X pins σ H s):s.heap.FunFrames X.base X.outer:=by
 have all:∀ (l:List Env),(∀ b∈rG l,b∈X.fs)->X.s₀.heap.FunFrames X.base l->s.heap.FunFrames X.base l:=by
  intro l
  induction l with
  | nil=>intro _ _;trivial
  | cons env r ih=>
   intro hs hl
   obtain ⟨hk,⟨L,o,hf,hn,ho,hd⟩,hr⟩:=hl
   have hL:L∈X.fs:=hs L (by unfold rG;rw [Qb,hf];exact NU)
   obtain ⟨sl,e⟩:=I.base.slot L o ho (I.ok.frf L hL) hL fun z=>I.ok.exfs L z hL
   exact ⟨hk,⟨L,_,hf,hn,e,hd⟩,ih (fun b hb=>hs b (by unfold rG;rw [Qb,hf];exact NO _ hb)) hr⟩
 exact all X.outer (fun _ hb=>hb) I.ok.ny
theorem Inv.stack (I:Inv X pins σ H s):s.heap.FunFrames X.base X.stack:=by
 rcases I.ok.stk with e | ⟨e,hf⟩
 ·rw [e];exact I.ny
 ·rw [e]
  obtain ⟨m,hn,_⟩:=I.loc
  refine .cons (by rw [I.ok.kind];decide) hf hn ?_ I.ny
  exact Heap.get?_none_of_le (NS I.ok.bsz I.ok.above)
theorem Inv.hV (I:Inv X pins σ H s):∀ b∈rG X.stack,b∈X.env.locals::X.fs:=fun b hb=>by
 rcases I.ok.stk with e | ⟨e,hf⟩
 ·rw [e] at hb;exact NO _ hb
 ·rw [e] at hb
  unfold rG at hb
  rw [Qb,hf] at hb
  exact hb
theorem Inv.yS (I:Inv X pins σ H s):∀ b∈rG X.stack,H b=none:=fun b hb=>by
 rcases NJ.mp (I.hV b hb) with e | hb
 ·rw [e];exact I.free
 ·obtain ⟨_,o,ho,_⟩:=I.ok.ny.mem hb
  exact I.base.free b o ho (I.ok.frf b hb) fun z=>I.ok.exfs b z hb
theorem Inv.step {g':Array GenState} {t':Nat} {d':Drawn} {ch:List Addr} (I:Inv X pins σ H s)
  (hch:∀ b∈ch,(b∈X.ex\/X.s₀.heap.objs.size<=b)/\b≠X.env.locals/\(∀ x c,X.env.cells.lookup x=some c->c≠b)/\∀ p∈X.pn++pins,p.1≠b)
  (keep:∀ b o,b≠X.env.locals->b∉X.fs->b∉ch->s.heap.get? b=some o->H b=none->h'.get? b=some o)
  (slot:∀ b o,b≠X.env.locals->b∈X.fs->b∉ch->s.heap.get? b=some o->H b=none->∃ sl,h'.get? b=some {o with slots:=sl}) (free:∀ b o,b∉ch->s.heap.get? b=some o->H b=none->H' b=none)
  (there:∀ b o,b∉ch->s.heap.get? b=some o->∃ o',h'.get? b=some o')
  (tups:∀ b xs,H b=some (.tup xs)->H' b=some (.tup xs)) (frzs:∀ b o u,H b=some (.frz o u)->H' b=some (.frz o u)) (tbls:∀ b ps,H b=some (.tbl ps)->∃ more,H' b=some (.tbl (ps++more)))
  (ns:∀ m,s.heap.Ns X.env.locals m->h'.Ns X.env.locals m) (hok:jx X.prog X.w H' h') (hg:AllBare g') :
  Inv X pins σ H' {s with heap:=h',gens:=g',drawn:=d',toks:=t'}:=by
 have neL:∀ b o,X.s₀.heap.get? b=some o->b≠X.env.locals:=fun b o e=>N0 (NM (NK e) I.ok.above)
 have neC:∀ b o,X.s₀.heap.get? b=some o->b∉X.ex->b∉ch:=fun b o e hx hb=>by
  rcases (hch b hb).1 with z | z
  ·exact hx z
  ·exact absurd (NM (NK e) z) (N5 _)
 have cellK:∀ x c,X.env.cells.lookup x=some c->∀ v,s.heap.IsCell c v->h'.IsCell c v:=fun x c e v ⟨o,ho,hd⟩=>by
  have nch:c∉ch:=fun z=>(hch c z).2.2.1 x c e rfl
  by_cases hc:c∈X.fs
  ·obtain ⟨sl,q⟩:=slot c o (I.GH x c e) hc nch ho (I.freeC x c e)
   exact ⟨_,q,hd⟩
  ·exact ⟨o,keep c o (I.GH x c e) hc nch ho (I.freeC x c e),hd⟩
 refine ⟨I.ok,I.os,hg,⟨fun b o e n hb hx=>?_,fun b o e n hb hx=>?_,fun b o e n hx=>?_,fun b o e hx=>?_,fun b xs e=>tups b xs (I.base.tups b xs e),fun b o xs e=>frzs b o xs (I.base.frzs b o xs e),fun b ps e=>?_⟩,?_,fun x c e=>?_,?_,fun x c e=>?_,fun p hp=>?_,hok,I.len⟩
 ·exact keep b o (neL b o e) hb (neC b o e hx) (I.base.keep b o e n hb hx) (I.base.free b o e n hx)
 ·obtain ⟨sl,e1⟩:=I.base.slot b o e n hb hx
  obtain ⟨sl',e2⟩:=slot b _ (neL b o e) hb (neC b o e hx) e1 (I.base.free b o e n hx)
  exact ⟨sl',e2⟩
 ·obtain ⟨o',e1⟩:=I.base.there b o e hx
  exact free b o' (neC b o e hx) e1 (I.base.free b o e n hx)
 ·obtain ⟨o',e1⟩:=I.base.there b o e hx
  exact there b o' (neC b o e hx) e1
 ·obtain ⟨m1,e1⟩:=I.base.tbls b ps e
  obtain ⟨m2,e2⟩:=tbls b _ e1
  exact ⟨m1++m2,by rw [e2,Array.append_assoc]⟩
 ·obtain ⟨m,hn,hl⟩:=I.loc
  refine ⟨m,ns m hn,fun i x v e1 e2 e3=>?_⟩
  obtain ⟨u,r,l⟩:=hl i x v e1 e2 e3
  refine ⟨u,r,?_⟩
  rcases l with l | ⟨k,c,e,z⟩
  ·exact .inl l
  ·exact .inr ⟨k,c,e,cellK x c e _ z⟩
 ·obtain ⟨v,z⟩:=I.cell x c e
  exact ⟨v,cellK x c e v z⟩
 ·obtain ⟨m,⟨o,_,_,ho,_⟩,_⟩:=I.loc
  exact free _ o (fun z=>(hch _ z).2.1 rfl) ho I.free
 ·obtain ⟨v,o,ho,hd⟩:=I.cell x c e
  exact free c o (fun z=>(hch c z).2.2.1 x c e rfl) ho (I.freeC x c e)
 ·obtain ⟨e,n,ne,nf,d⟩:=I.pin p hp
  have nch:p.1∉ch:=fun z=>(hch p.1 z).2.2.2 p hp rfl
  exact ⟨keep p.1 p.2 ne nf nch e n,free p.1 p.2 nch e n,ne,nf,d⟩
theorem Inv.un {t':Nat} (I:Inv X pins σ H s) (u:Un X.fs [] H H' s.heap h') (hok:jx X.prog X.w H' h'):Inv X pins σ H' {s with heap:=h',toks:=t'}:=by
 obtain ⟨m,⟨o,es,ep,ho,r⟩,_⟩:=id I.loc
 obtain ⟨sl,hL⟩:=u.any ho I.free (by simp)
 exact I.step (g':=s.gens) (d':=s.drawn) (ch:=[]) (fun _ z=>nomatch z) (fun b o _ hb _ e n=>u.keep b o e n hb (by simp)) (fun b o _ hb _ e n=>u.slot b o e n hb (by simp)) (fun b o _ e n=>u.free b o e n (by simp)) (fun b o _ e=>u.there b o e (by simp)) u.tups u.frzs u.tbls (fun m' hm=>by
  obtain ⟨o',es',ep',ho',r'⟩:=hm
  rw [ho] at ho';cases ho'
  exact ⟨_,es',ep',hL,r'⟩) hok I.bare
theorem Inv.call {g':Array GenState} {t':Nat} {d':Drawn} {ch:List Addr} (I:Inv X pins σ H s) (u:Un (rG X.stack) ch H H' s.heap h') (hok:jx X.prog X.w H' h') (hg:AllBare g')
  (hch:∀ b∈ch,(b∈X.ex\/X.s₀.heap.objs.size<=b)/\b≠X.env.locals/\(∀ x c,X.env.cells.lookup x=some c->c≠b)/\∀ p∈X.pn++pins,p.1≠b) :
  Inv X pins σ H' {s with heap:=h',gens:=g',drawn:=d',toks:=t'}:=by
 obtain ⟨m,⟨o,es,ep,ho,r⟩,_⟩:=id I.loc
 obtain ⟨sl,hL⟩:=u.any ho I.free fun z=>(hch _ z).2.1 rfl
 exact I.step (ch:=ch) hch (fun b o hL hb hc e n=>u.keep b o e n (fun z=>(NJ.mp (I.hV b z)).elim hL hb) hc) (fun b o _ _ hc e n=>u.any e n hc) (fun b o hc e n=>u.free b o e n hc) (fun b o hc e=>u.there b o e hc) u.tups u.frzs u.tbls (fun m' hm=>by
  obtain ⟨o',es',ep',ho',r'⟩:=hm
  rw [ho] at ho';cases ho'
  exact ⟨_,es',ep',hL,r'⟩) hok hg
theorem Inv.turned {t':Nat} {it:Addr} (I:Inv X pins σ H s) (k:∀ b o,b≠it->s.heap.get? b=some o->h'.get? b=some o) (hn:H it=none) (hL:it≠X.env.locals)
  (h1:it∈X.ex\/X.s₀.heap.objs.size<=it) (h2:∀ x c,X.env.cells.lookup x=some c->c≠it) (h3:∀ p∈X.pn++pins,p.1≠it):Inv X pins σ H {s with heap:=h',toks:=t'}:=by
 have nit:∀ b u,H b=some u->b≠it:=fun b u e z=>by rw [z,hn] at e;cases e
 refine I.step (g':=s.gens) (d':=s.drawn) (ch:=[it]) (fun b hb=>?_) (fun b o _ _ hc e _=>k b o (fun z=>hc (by simp [z])) e) (fun b o _ _ hc e _=>⟨o.slots,k b o (fun z=>hc (by simp [z])) e⟩) (fun _ _ _ _ n=>n)
  (fun b o hc e=>⟨o,k b o (fun z=>hc (by simp [z])) e⟩) (fun _ _ e=>e) (fun _ _ _ e=>e) (fun b ps e=>⟨#[],by rw [e];simp⟩) (fun m hm=>?_) (fun b u e=>?_) I.bare
 ·have e:b=it:=by simpa using hb
  subst e
  exact ⟨h1,hL,h2,h3⟩
 ·obtain ⟨o,es,ep,ho,r⟩:=hm
  exact ⟨o,es,ep,k _ o (Rk hL) ho,r⟩
 ·refine (I.hok b u e).pJ (fun c v hc q=>k c v ?_ q) (fun _ q=>q) fun _ _ q=>q
  rcases hc with z | z
  ·rw [z];exact nit b u e
  ·exact nit c _ z
theorem Inv.tok (I:Inv X pins σ H s) (t:Nat):Inv X pins σ H {s with toks:=t}:=I.un (h':=s.heap) (t':=t) Un.refl I.hok
theorem Inv.kept {t':Nat} (I:Inv X pins σ H s) (k:∀ b u,s.heap.get? b=some u->h'.get? b=some u):Inv X pins σ H {s with heap:=h',toks:=t'}:=I.un (Un.kept k) (I.hok.kept k)
theorem Inv.laid {a:Addr} {o:HO} {t':Nat} (I:Inv X pins σ H s) (k:∀ b u,s.heap.get? b=some u->h'.get? b=some u) (hp:s.heap.objs.size<=a) (new:cu X.prog X.w (upd H a o) h' a o) :
  Inv X pins σ (upd H a o) {s with heap:=h',toks:=t'}:=I.un (Un.laid k hp (I.hok.fresh hp)) (I.hok.laid k hp new)
theorem Inv.write {x e:Addr} {o:HO} {t':Nat} (I:Inv X pins σ H s) (mu:IQ (H x)) (he:e=x\/H e=some (.own x)) (k:∀ b u,b≠e->s.heap.get? b=some u->h'.get? b=some u) (heo:∃ u,h'.get? e=some u)
  (new:cu X.prog X.w (upd H x o) h' x o):Inv X pins σ (upd H x o) {s with heap:=h',toks:=t'}:=I.un (Un.write mu he k heo) (I.hok.write mu he k heo new)
theorem Inv.iO {pins':List (Addr×Obj)} (I:Inv X pins σ H s) (h:∀ p∈pins',s.heap.get? p.1=some p.2/\H p.1=none/\p.1≠X.env.locals/\p.1∉X.fs/\∀ v,p.2.data≠.cell v):Inv X pins' σ H s:=
 ⟨I.ok,I.os,I.bare,I.base,I.loc,I.cell,I.free,I.freeC,fun p hp=>(NX.mp hp).elim (fun z=>I.pin p (Oq _ z)) (h p),I.hok,I.len⟩
theorem vE {N:List Str} (hN:N.Nodup) {i j:Nat} {x:Str} (a:N[i]?=some x) (b:N[j]?=some x):i=j:=by
 obtain ⟨h1,e1⟩:=NY.mp a
 obtain ⟨h2,e2⟩:=NY.mp b
 exact (List.getElem_inj hN).mp (e1.trans e2.symm)
theorem nA {M:Model} {A:Around} {E:Value->Shared->Prop} {i:Nat} {x:Str} {v:V} {u:Value} {Q:Unit->Shared->Prop} (I:Inv X pins σ H s) (hN:X.N.Nodup) (hi:X.N[i]?=some x) (hx:Loc X.env.scope x) (r:RelV v u)
  (h:∀ s',Inv X pins (σ.set i (some v)) H s'->(∃ a,Heap.SameBut a s.heap s'.heap/\(a=X.env.locals\/X.env.cells.lookup x=some a))->Q () s') (hf:X.fn x=true\/X.env.scope.names.lookup x=some .local:=by first | exact .inl rfl | exact .inr rfl | assumption):wpAny M A (storeName X.env x u) Q E s:=by
 obtain ⟨m,hn,hl⟩:=id I.loc
 have hcls:(X.env.scope.kind == .class || (X.env.scope.kind == .module && X.env.locals != X.env.globals))=false:=by rw [I.ok.kind];rfl
 have hiσ:i < σ.length:=by rw [I.len];exact (NY.mp hi).1
 have GH:=I.GH
 have tracked:∀ {a:Addr} {h':Heap},(∃ o,s.heap.get? a=some o/\H a=none)->Heap.SameBut a s.heap h'->jx X.prog X.w H h':=fun {a h'} ha hs b ob e=>by
  obtain ⟨_,_,hfree⟩:=ha
  refine (I.hok b ob e).pJ (fun c w' hc q=>(hs.2 c ?_).trans q) (fun _ q=>q) fun _ _ q=>q
  rintro rfl
  rcases hc with rfl | hc
  ·rw [hfree] at e;cases e
  ·rw [hfree] at hc;cases hc
 rcases hx with hk | hk
 ·refine wpAny_storeName_local hk hn (fun h' hn' hs=>?_) hcls
  obtain ⟨oL,_,_,hoL,_⟩:=id hn
  refine h _ ⟨I.ok,I.os,I.bare,⟨fun b o e n hb hx=>?_,fun b o e n hb hx=>?_,I.base.free,fun b o e hx=>?_,I.base.tups,I.base.frzs,I.base.tbls⟩,⟨_,hn',fun j y v' e1 e2 e3=>?_⟩,fun y c e=>?_,I.free,I.freeC,fun p hp=>?_,tracked ⟨oL,hoL,I.free⟩ hs,by simpa using I.len⟩ ⟨_,hs,.inl rfl⟩
  ·exact (hs.2 b (N0 (NM (NK e) I.ok.above))).trans (I.base.keep b o e n hb hx)
  ·obtain ⟨sl,e1⟩:=I.base.slot b o e n hb hx
   exact ⟨sl,(hs.2 b (N0 (NM (NK e) I.ok.above))).trans e1⟩
  ·obtain ⟨o',e1⟩:=I.base.there b o e hx
   exact ⟨o',(hs.2 b (N0 (NM (NK e) I.ok.above))).trans e1⟩
  ·by_cases hj:j=i
   ·subst hj
    rw [hi] at e1;cases e1
    rw [OO hiσ] at e2
    cases e2
    exact ⟨u,r,.inl ⟨hk,by simp⟩⟩
   ·rw [QC (Rk hj)] at e2
    obtain ⟨u',r',q⟩:=hl j y v' e1 e2 e3
    refine ⟨u',r',?_⟩
    rcases q with ⟨k,e⟩ | ⟨k,c,e,z⟩
    ·refine .inl ⟨k,?_⟩
     have:y≠x:=fun e=>hj (vE hN e1 (e▸hi))
     simp [this,e]
    ·exact .inr ⟨k,c,e,z.sameBut hs (GH y c e)⟩
  ·obtain ⟨w',z⟩:=I.cell y c e
   exact ⟨w',z.sameBut hs (GH y c e)⟩
  ·obtain ⟨e,n,ne,nf,d⟩:=I.pin p hp
   exact ⟨(hs.2 p.1 ne).trans e,n,ne,nf,d⟩
 ·have hfn:X.fn x=true:=by
   rcases hf with z | z
   ·exact z
   ·rw [z] at hk;cases hk
  obtain ⟨c,hc⟩:=I.ok.has x (.inl hk)
  obtain ⟨w',z⟩:=I.cell x c hc
  refine wpAny_storeName_cell I.ok.kind hk hc z (fun h' hc' hs=>?_)
  obtain ⟨oc,hoc,hocd⟩:=id z
  refine h {s with heap:=h'} ⟨I.ok,I.os,I.bare,⟨fun b o e n hb hx=>?_,fun b o e n hb hx=>?_,I.base.free,fun b o e hx=>?_,I.base.tups,I.base.frzs,I.base.tbls⟩,⟨m,hn.sameBut hs (Rk (GH x c hc)),fun j y v' e1 e2 e3=>?_⟩,fun y c' e=>?_,I.free,I.freeC,fun p hp=>?_,tracked ⟨oc,hoc,I.freeC x c hc⟩ hs,by simpa using I.len⟩ ⟨c,hs,.inr hc⟩
  ·exact (hs.2 b (N0 (NM (NK e) (I.ok.cab x c hfn hc)))).trans (I.base.keep b o e n hb hx)
  ·obtain ⟨sl,e1⟩:=I.base.slot b o e n hb hx
   exact ⟨sl,(hs.2 b (N0 (NM (NK e) (I.ok.cab x c hfn hc)))).trans e1⟩
  ·obtain ⟨o',e1⟩:=I.base.there b o e hx
   exact ⟨o',(hs.2 b (N0 (NM (NK e) (I.ok.cab x c hfn hc)))).trans e1⟩
  ·by_cases hj:j=i
   ·subst hj
    rw [hi] at e1;cases e1
    rw [OO hiσ] at e2
    cases e2
    exact ⟨u,r,.inr ⟨.inl hk,c,hc,hc'⟩⟩
   ·rw [QC (Rk hj)] at e2
    obtain ⟨u',r',q⟩:=hl j y v' e1 e2 e3
    refine ⟨u',r',?_⟩
    rcases q with q | ⟨k,c',e,z'⟩
    ·exact .inl q
    ·refine .inr ⟨k,c',e,z'.sameBut hs ?_⟩
     rintro rfl
     exact hj (vE hN e1 (I.ok.inj _ _ _ e hc▸hi))
  ·by_cases hcc:c'=c
   ·subst hcc;exact ⟨_,hc'⟩
   ·obtain ⟨w2,z2⟩:=I.cell y c' e
    exact ⟨w2,z2.sameBut hs hcc⟩
  ·obtain ⟨e,n,ne,nf,d⟩:=I.pin p hp
   refine ⟨(hs.2 p.1 ?_).trans e,n,ne,nf,d⟩
   intro q
   rw [q,hoc] at e
   have q':oc=p.2:=OI e
   exact d w' (by rw [<- q'];exact hocd)
theorem pK {M:Model} {A:Around} {E:Value->Shared->Prop} {i:Nat} {x:Str} {v:V} {u:Value} {Q:Unit->Shared->Prop} (I:Inv X pins σ H s) (hN:X.N.Nodup) (hi:X.N[i]?=some x) (hx:Loc X.env.scope x) (r:RelV v u)
  (h:∀ s',Inv X pins (σ.set i (some v)) H s'->Q () s') (hf:X.fn x=true\/X.env.scope.names.lookup x=some .local:=by first | exact .inl rfl | exact .inr rfl | assumption):wpAny M A (storeName X.env x u) Q E s:=
 nA I hN hi hx r (fun s' I' _=>h s' I') hf
theorem Inv.FU {s':Shared} {ch:List Addr} (I:Inv X pins σ H s) (ho:s'.os=s.os) (u:Un (rG X.stack) ch H H' s.heap s'.heap) (hok:jx X.prog X.w H' s'.heap) (hg:AllBare s'.gens)
  (hch:∀ b∈ch,(b∈X.ex\/X.s₀.heap.objs.size<=b)/\b≠X.env.locals/\(∀ x c,X.env.cells.lookup x=some c->c≠b)/\∀ p∈X.pn++pins,p.1≠b):Inv X pins σ H' s':=by
 obtain ⟨h',g',d',t',o'⟩:=s'
 have e:o'=s.os:=ho
 subst e
 exact I.call (g':=g') (t':=t') (d':=d') u hok hg hch
end
abbrev XK:=Value->Option Addr->Hp->Prop
abbrev St:=List (Option V)
abbrev VK:=V->Hp->Prop
abbrev TE:=St->Hp->VK->Prop
abbrev TT:=St->Hp->(Bool->Hp->Prop)->Prop
abbrev TA:=St->Hp->(List V->Hp->Prop)->Prop
structure Ends where
 nx:St->Hp->Prop
 rt:VK
 bk:St->Hp->Prop:=fun _ _=>False
 ct:St->Hp->Prop:=fun _ _=>False
abbrev TS:=Ends->St->Hp->Prop
def EP (X:Cx) (pins:List (Addr×Obj)) (σ:St) (Q:VK) (u:Value) (s':Shared):Prop:=∃ v H',Inv X pins σ H' s'/\RelV v u/\Q v H'
def TP (X:Cx) (pins:List (Addr×Obj)) (σ:St) (Q:Bool->Hp->Prop) (b:Bool) (s':Shared):Prop:=∃ H',Inv X pins σ H' s'/\Q b H'
def AP (X:Cx) (pins:List (Addr×Obj)) (σ:St) (Q:List V->Hp->Prop) (us:List Value) (s':Shared):Prop:=∃ vs H',Inv X pins σ H' s'/\Vals vs us/\Q vs H'
def SP (X:Cx) (pins:List (Addr×Obj)) (D:Ends) (f:Flow) (s':Shared):Prop:=
 match f with
 | .next=>∃ σ' H',Inv X pins σ' H' s'/\D.nx σ' H'
 | .brk=>∃ σ' H',Inv X pins σ' H' s'/\D.bk σ' H'
 | .cont=>∃ σ' H',Inv X pins σ' H' s'/\D.ct σ' H'
 | .ret u=>∃ v σ' H',Inv X pins σ' H' s'/\RelV v u/\D.rt v H'
def PE (X:Cx) (e:Expr) (t:TE):Prop:=
 ∀ (pins:List (Addr×Obj)) (s:Shared) (σ:St) (H:Hp) (Q:VK),Inv X pins σ H s->t σ H Q->wpAny (model X.prog X.w) X.A (eval e X.env) (EP X pins σ Q) X.xe s
def PT (X:Cx) (e:Expr) (t:TT):Prop:=
 ∀ (pins:List (Addr×Obj)) (s:Shared) (σ:St) (H:Hp) (Q:Bool->Hp->Prop),Inv X pins σ H s->t σ H Q->wpAny (model X.prog X.w) X.A (isTrue e X.env (eval e X.env)) (TP X pins σ Q) X.xe s
def PW (X:Cx) (e:Expr) (t:TT):Prop:=
 ∀ (whole:Sem Value) (pins:List (Addr×Obj)) (s:Shared) (σ:St) (H:Hp) (Q:Bool->Hp->Prop),Inv X pins σ H s->t σ H Q->wpAny (model X.prog X.w) X.A (isTrue e X.env whole) (TP X pins σ Q) X.xe s
theorem PW.pt {X:Cx} {e:Expr} {t:TT} (h:PW X e t):PT X e t:=h _
def PA (X:Cx) (es:List Expr) (t:TA):Prop:=
 ∀ (pos:Pos) (pins:List (Addr×Obj)) (s:Shared) (σ:St) (H:Hp) (Q:List V->Hp->Prop),Inv X pins σ H s->t σ H Q->wpAny (model X.prog X.w) X.A (spliced (backTo pos (starEach es X.env))) (AP X pins σ Q) X.xe s
def PS (X:Cx) (st:Stmt) (t:TS):Prop:=
 ∀ (pins:List (Addr×Obj)) (s:Shared) (σ:St) (H:Hp) (D:Ends),Inv X pins σ H s->t D σ H->wpAny (model X.prog X.w) X.A (exec st X.env) (SP X pins D) X.xe s
def xC (X:Cx) (st:List Stmt) (t:TS):Prop:=
 ∀ (pins:List (Addr×Obj)) (s:Shared) (σ:St) (H:Hp) (D:Ends),Inv X pins σ H s->t D σ H->wpAny (model X.prog X.w) X.A (execs st X.env) (SP X pins D) X.xe s
theorem bA {α:Type} {t:Sem α} {Q Q':α->Shared->Prop} {M:Model} {A:Around} {E:Value->Shared->Prop} {s:Shared} (h:wpAny M A t Q E s) (hQ:∀ a s,Q a s->Q' a s):wpAny M A t Q' E s:=OU h hQ fun _ _ x=>x
section
variable {X:Cx}
def Lf (i:Nat):TE:=fun σ H Q=>∃ v,σ[i]?=some (some v)/\Q v H
def tC (v:V):TE:=fun _ H Q=>Q v H
theorem GI {i:Nat} {x:Str} {pos:Pos} (hN:X.N[i]?=some x) (hv:DX X.env.scope x) (hd:(x == ("__debug__" : Str))=false:=by decide) (hcd:(x == ("__classdict__" : Str))=false:=by decide):PE X (.Name x pos) (Lf i):=by
 intro pins s σ H Q I h
 obtain ⟨v,e,h⟩:=h
 obtain ⟨m,hn,hl⟩:=I.loc
 obtain ⟨u,r,l⟩:=hl i x v hN e hv
 have fin:EP X pins σ Q u s:=⟨v,H,I,r,h⟩
 rcases l with ⟨hk,hm⟩ | ⟨hk,c,hc,hcell⟩
 ·exact RI (Ru I.ok.kind hk hn hm fin) hd
 ·rcases hk with hk | hk
  ·exact RI (RA I.ok.kind hk hc hcell fin) hd
  ·exact RI (wpAny_loadName_free I.ok.kind hk hc hcell fin hcd) hd
theorem nB {i j pos}:PE X (.Constant (.int i) j pos) (tC (.int i)):=fun _ _ _ H _ I h=>wpAny_Constant_int ⟨.int i,H,I.tok _,⟨_,rfl⟩,h⟩
theorem FV {b j pos}:PE X (.Constant (.bool b) j pos) (tC (.bl b)):=fun _ _ _ H _ I h=>Constant_bool ⟨.bl b,H,I,rfl,h⟩
theorem GJ {j pos}:PE X (.Constant .none j pos) (tC .non):=fun _ _ _ H _ I h=>Constant_none ⟨.non,H,I,rfl,h⟩
theorem xE {x j pos}:PE X (.Constant (.str x) j pos) (tC (.str x)):=fun _ _ _ H _ I h=>Calls.Constant_str ⟨.str x,H,I.tok _,⟨_,rfl⟩,h⟩
def Gl (X:Cx) (x:Str):Prop:=X.env.kindOf x=some .globalImplicit
theorem ub {E:Value->Shared->Prop} {pins:List (Addr×Obj)} {s:Shared} {σ:St} {H:Hp} {x:Str} {u:Value} {pos:Pos} {Q:Value->Shared->Prop} (I:Inv X pins σ H s) (hg:Gl X x) (hm:X.mg x=some u) (h:Q u s)
  (hd:(x == ("__debug__" : Str))=false:=by decide):wpAny (model X.prog X.w) X.A (eval (.Name x pos) X.env) Q E s:=
 Calls.Name_function_global I.ok.kind hg (Calls.loadGlobal_global (by rw [I.ok.glob];exact I.mod.glob.keeps I.bk) hm h) hd
theorem lj {E:Value->Shared->Prop} {pins:List (Addr×Obj)} {s:Shared} {σ:St} {H:Hp} {x:Str} {u:Value} {pos:Pos} {Q:Value->Shared->Prop} (I:Inv X pins σ H s) (hg:Gl X x) (hm:X.mg x=none) (hv:bootBuiltins x=some u) (h:Q u s)
  (hn:x ≠ "__name__" := by decide) (hd:(x == ("__debug__" : Str))=false:=by decide):wpAny (model X.prog X.w) X.A (eval (.Name x pos) X.env) Q E s:=by
 obtain ⟨mb,h1,h2⟩:=I.mod.blt
 exact Calls.Name_function_global I.ok.kind hg (Calls.loadGlobal_builtin (by rw [I.ok.glob];exact I.mod.glob.keeps I.bk) hm (by rw [I.ok.blt];exact h1.keeps I.bk) ((h2 x hn).trans hv) h) hd
theorem uc {x:Str} {v:V} {u:Value} {pos:Pos} (hg:Gl X x) (hm:X.mg x=some u) (r:RelV v u) (hd:(x == ("__debug__" : Str))=false:=by decide):PE X (.Name x pos) (tC v):=
 fun _ _ _ H _ I h=>ub I hg hm ⟨v,H,I,r,h⟩ hd
theorem DY {x:Str} {v:V} {u:Value} {pos:Pos} (hg:Gl X x) (hm:X.mg x=none) (hv:bootBuiltins x=some u) (r:RelV v u) (hn:x ≠ "__name__" := by decide) (hd:(x == ("__debug__" : Str))=false:=by decide):PE X (.Name x pos) (tC v):=
 fun _ _ _ H _ I h=>lj I hg hm hv ⟨v,H,I,r,h⟩ hn hd
variable {a b:Expr} {ta tb:TE} {pos:Pos}
variable {tA tB':TT} {rest:List Expr}
def vF (t u:TT):TT:=fun σ H Q=>t σ H fun c H1=>if c=true then u σ H1 Q else Q false H1
def lY (t u:TT):TT:=fun σ H Q=>t σ H fun c H1=>if c=true then Q true H1 else u σ H1 Q
def fT (t:TT):TT:=fun σ H Q=>t σ H fun c H1=>Q (!c) H1
theorem DZ (ha:PT X a tA):PW X (.BoolOp .And [a] pos) tA:=by
 intro wh pins s σ H Q I h
 refine isTrue_and (bA (ha pins s σ H Q I h) fun c s1 e=>?_)
 cases c with
 | true=>exact isTrue_and_nil e
 | false=>exact e
theorem GK (ha:PT X a tA):PW X (.BoolOp .Or [a] pos) tA:=by
 intro wh pins s σ H Q I h
 refine isTrue_or (bA (ha pins s σ H Q I h) fun c s1 e=>?_)
 cases c with
 | false=>exact isTrue_or_nil e
 | true=>exact e
theorem GL (ha:PT X a tA) (hb:PW X (.BoolOp .And (b::rest) pos) tB'):PW X (.BoolOp .And (a::b::rest) pos) (vF tA tB'):=by
 intro wh pins s σ H Q I h
 refine isTrue_and (bA (ha pins s σ H _ I h) fun c s1 ⟨H1,I1,q1⟩=>?_)
 cases c with
 | true=>exact hb wh pins s1 σ H1 Q I1 q1
 | false=>exact ⟨H1,I1,q1⟩
theorem Je (ha:PT X a tA) (hb:PW X (.BoolOp .Or (b::rest) pos) tB'):PW X (.BoolOp .Or (a::b::rest) pos) (lY tA tB'):=by
 intro wh pins s σ H Q I h
 refine isTrue_or (bA (ha pins s σ H _ I h) fun c s1 ⟨H1,I1,q1⟩=>?_)
 cases c with
 | true=>exact ⟨H1,I1,q1⟩
 | false=>exact hb wh pins s1 σ H1 Q I1 q1
theorem GN (ha:PT X a tA):PT X (.UnaryOp .Not a pos) (fT tA):=by
 intro pins s σ H Q I h
 exact isTrue_not (ha pins s σ H (fun c H1=>Q (!c) H1) I h)
theorem GO {op} {t:TE} (h:PE X a t):PE X (.BoolOp op [a] pos) t:=fun pins s σ H Q I hw=>BoolOp_one (h pins s σ H Q I hw)
end
def iu (K:PySem.W.Frag) (H:Hp) (a:Addr) (xs:List V):Prop:=
 Rd H a (.lst xs) \/
  ∃ (o:Obj) (its:Array Value) (n:Nat),K.lookup a=some o/\o.cls=.type "list" /\ o.dict=none/\o.data=.seq its n/\its.size<=sizeLine/\Vals xs its.toList
def fU (K:PySem.W.Frag) (H:Hp) (a:Addr) (xs:List V):Prop:=
 Rd H a (.tup xs) \/
  ∃ (o:Obj) (its:Array Value) (n:Nat),K.lookup a=some o/\o.cls=.type "tuple" /\ o.data=.seq its n/\its.size<=sizeLine/\Vals xs its.toList
def Lg:Value->Option V
 | .none=>some .non
 | .bool b=>some (.bl b)
 | .int i _=>some (.int i)
 | .str x _=>some (.str x)
 | .bytes b _=>some (.byt b)
 | .float b _=>some (.flt b)
 | .ref a=>some (.ref a)
 | .type n=>some (.ty n)
 | _=>none
theorem RelV.abs {x:V} {u:Value} (r:RelV x u):Lg u=some x:=by
 cases x with
 | non=>cases r;rfl
 | bl _=>cases r;rfl
 | int _=>obtain ⟨t,rfl⟩:=r;rfl
 | str _=>obtain ⟨t,rfl⟩:=r;rfl
 | byt _=>obtain ⟨t,rfl⟩:=r;rfl
 | flt _=>obtain ⟨t,rfl⟩:=r;rfl
 | ref _=>cases r;rfl
 | ty _=>cases r;rfl
theorem RelV.inj {x y:V} {u:Value} (r:RelV x u) (q:RelV y u):x=y:=OI (r.abs.symm.trans q.abs)
theorem Vals.inj:∀ {xs ys:List V} {us:List Value},Vals xs us->Vals ys us->xs=ys
 | _,_,_,.nil,.nil=>rfl
 | _,_,_,.cons r t,.cons r' t'=>by rw [r.inj r',Vals.inj t t']
section
variable {X:Cx} {pins:List (Addr×Obj)} {σ:St} {H:Hp} {s:Shared} {a:Addr} {xs ys:List V}
theorem iu.of {K:PySem.W.Frag} (h:H a=some (.lst xs)):iu K H a xs:=.inl (.inl h)
theorem fU.of {K:PySem.W.Frag} (h:H a=some (.tup xs)):fU K H a xs:=.inl (.inl h)
theorem Inv.list (I:Inv X pins σ H s) (h:iu X.K H a xs):∃ its:List Value,Vals xs its/\PlainL s.heap a its.toArray/\xs.length<=sizeLine:=by
 rcases h with h | ⟨o,its,n,hk,hc,hd,hs,hz,r⟩
 ·obtain ⟨z,its,n,r,e⟩:=h.ok I.hok
  exact ⟨its,r,⟨_,n,e,rfl,rfl,rfl⟩,z⟩
 ·refine ⟨its.toList,r,⟨o,n,I.rH a o hk,hc,hd,by simpa using hs⟩,?_⟩
  have e:=r.length
  simp only [OF] at e
  omega
theorem Inv.tuple (I:Inv X pins σ H s) (h:fU X.K H a xs):∃ its:List Value,Vals xs its/\IsTup s.heap a its.toArray/\xs.length<=sizeLine:=by
 rcases h with h | ⟨o,its,n,hk,hc,hs,hz,r⟩
 ·obtain ⟨z,its,r,p⟩:=h.ok I.hok
  exact ⟨its,r,p,z⟩
 ·refine ⟨its.toList,r,⟨o,I.rH a o hk,hc,n,by simpa using hs⟩,?_⟩
  have e:=r.length
  simp only [OF] at e
  omega
theorem Inv.Bg (I:Inv X pins σ H s) (h:iu X.K H a xs) (h':iu X.K H a ys):xs=ys:=by
 obtain ⟨its,r,⟨o,n,e,_,_,d⟩,_⟩:=I.list h
 obtain ⟨its',r',⟨o',n',e',_,_,d'⟩,_⟩:=I.list h'
 rw [e] at e';cases e'
 rw [d] at d'
 injection d' with d1 _
 have:its=its':=by simpa using PH Array.toList d1
 subst this
 exact r.inj r'
theorem Inv.nC (I:Inv X pins σ H s) (h:fU X.K H a xs) (h':fU X.K H a ys):xs=ys:=by
 obtain ⟨its,r,⟨o,e,_,n,d⟩,_⟩:=I.tuple h
 obtain ⟨its',r',⟨o',e',_,n',d'⟩,_⟩:=I.tuple h'
 rw [e] at e';cases e'
 rw [d] at d'
 injection d' with d1 _
 have:its=its':=by simpa using PH Array.toList d1
 subst this
 exact r.inj r'
end
abbrev Cx.rK (X:Cx) (E:Value->Shared->Prop):Cx:={X with xe:=E}
abbrev Cx.IS (X:Cx):Cx:=X.rK fun _ _=>False
theorem Cx.Ok.rK {X:Cx} (ok:X.Ok) (E:Value->Shared->Prop):(X.rK E).Ok:=
 ⟨ok.mod,ok.kind,ok.glob,ok.blt,ok.above,ok.inj,ok.has,ok.cab,ok.hd,ok.frames,ok.stk,ok.exf,ok.bs,ok.bsz,ok.noex,ok.exfs,ok.ny,ok.frf⟩
theorem Cx.Ok.jz {X:Cx} {E:Value->Shared->Prop} (ok:(X.rK E).Ok):X.Ok:=
 ⟨ok.mod,ok.kind,ok.glob,ok.blt,ok.above,ok.inj,ok.has,ok.cab,ok.hd,ok.frames,ok.stk,ok.exf,ok.bs,ok.bsz,ok.noex,ok.exfs,ok.ny,ok.frf⟩
section
variable {X:Cx} {pins:List (Addr×Obj)} {σ:St} {H:Hp} {s:Shared} {E:Value->Shared->Prop}
theorem Inv.rK (I:Inv X pins σ H s) (E:Value->Shared->Prop):Inv (X.rK E) pins σ H s:=⟨I.ok.rK E,I.os,I.bare,I.base,I.loc,I.cell,I.free,I.freeC,I.pin,I.hok,I.len⟩
theorem Inv.jz (I:Inv (X.rK E) pins σ H s):Inv X pins σ H s:=⟨I.ok.jz,I.os,I.bare,I.base,I.loc,I.cell,I.free,I.freeC,I.pin,I.hok,I.len⟩
theorem SP.jz {D:Ends} {f:Flow} {s':Shared} (h:SP (X.rK E) pins D f s'):SP X pins D f s':=by
 cases f with
 | next=>obtain ⟨σ',H',I,q⟩:=h;exact ⟨σ',H',I.jz,q⟩
 | brk=>obtain ⟨σ',H',I,q⟩:=h;exact ⟨σ',H',I.jz,q⟩
 | cont=>obtain ⟨σ',H',I,q⟩:=h;exact ⟨σ',H',I.jz,q⟩
 | ret u=>obtain ⟨v,σ',H',I,r,q⟩:=h;exact ⟨v,σ',H',I.jz,r,q⟩
end
section
variable {X:Cx} {st:Stmt} {rest:List Stmt} {t u:TS} {e:Expr} {te:TE} {pos:Pos}
def Jf:TS:=fun D σ H=>D.nx σ H
def Lh (t u:TS):TS:=fun D σ H=>t {D with nx:=u D} σ H
theorem D0:xC X [] Jf:=fun _ _ σ H _ I h=>wpAny_execs_nil ⟨σ,H,I,h⟩
theorem Bh (h1:PS X st t) (h2:xC X rest u):xC X (st::rest) (Lh t u):=by
 intro pins s σ H D I h
 refine wpAny_execs_cons (bA (h1 pins s σ H {D with nx:=u D} I h) fun f s1 q=>?_)
 cases f with
 | next=>
  obtain ⟨σ',H',I',q⟩:=q
  exact h2 pins s1 σ' H' D I' q
 | ret v=>exact q
 | brk=>exact q
 | cont=>exact q
theorem D1 (h1:PS X st t):xC X [st] t:=by
 intro pins s σ H D I h
 refine wpAny_execs_cons (bA (h1 pins s σ H D I h) fun f s1 q=>?_)
 cases f with
 | next=>exact wpAny_execs_nil q
 | ret v=>exact q
 | brk=>exact q
 | cont=>exact q
theorem Inv.quiet {pins:List (Addr×Obj)} {σ:St} {H:Hp} {s:Shared} (I:Inv X pins σ H s):interactive X.env=false:=by simp [interactive,I.ok.kind]
def Jg (te:TE):TS:=fun D σ H=>te σ H fun _ H1=>D.nx σ H1
theorem D2 (he:PE X e te) (hs:swapsWith e none pos.line X.env=pure false:=by rfl):PS X (.Expr e pos) (Jg te):=by
 intro pins s σ H D I h
 exact wpAny_Expr_any (bA (he pins s σ H _ I h) fun v s1 ⟨x,H1,I1,r1,q1⟩=>⟨σ,H1,I1,q1⟩) I.quiet hs
def Li (te:TE):TS:=fun D σ H=>te σ H D.rt
theorem GP (he:PE X e te):PS X (.Return (some e) pos) (Li te):=by
 intro pins s σ H D I h
 exact wpAny_Return_some (bA (he pins s σ H _ I h) fun v s1 ⟨x,H1,I1,r1,q1⟩=>⟨x,σ,H1,I1,r1,q1⟩)
def Lj (c:TT) (t u:TS):TS:=fun D σ H=>c σ H fun b H1=>if b=true then t D σ H1 else u D σ H1
theorem Jh {c:Expr} {a b:List Stmt} {tc:TT} (hc:PT X c tc) (ha:xC X a t) (hb:xC X b u):PS X (.If c a b pos) (Lj tc t u):=by
 intro pins s σ H D I h
 refine wpAny_If (bA (hc pins s σ H _ I h) fun d s1 ⟨H1,I1,q1⟩=>?_)
 cases d with
 | true=>exact ha pins s1 σ H1 D I1 q1
 | false=>exact hb pins s1 σ H1 D I1 q1
end
abbrev TG:=V->St->Hp->(St->Hp->Prop)->Prop
abbrev FW:=List V->St->Hp->(St->Hp->Prop)->Prop
def PG (X:Cx) (target:Expr) (t:TG):Prop:=
 ∀ (pins:List (Addr×Obj)) (s:Shared) (σ:St) (H:Hp) (v:V) (u:Value) (Q:St->Hp->Prop),Inv X pins σ H s->RelV v u->t v σ H Q ->
  wpAny (model X.prog X.w) X.A (assign target X.env u) (fun _ s'=>∃ σ' H',Inv X pins σ' H' s'/\Q σ' H') X.xe s
def IT (X:Cx) (ts:List Expr) (t:FW):Prop:=
 ∀ (pins:List (Addr×Obj)) (s:Shared) (σ:St) (H:Hp) (vs:List V) (us:List Value) (Q:St->Hp->Prop),Inv X pins σ H s->Vals vs us->t vs σ H Q ->
  wpAny (model X.prog X.w) X.A (assignInOrder ((assignEach ts X.env).map (·.2)) us) (fun _ s'=>∃ σ' H',Inv X pins σ' H' s'/\Q σ' H') X.xe s
abbrev GQ:=V->V->V->Hp->(Hp->Prop)->Prop
def GR (X:Cx) (t:GQ):Prop:=
 ∀ (pins:List (Addr×Obj)) (s:Shared) (σ:St) (H:Hp) (o i v:V) (ov iv u:Value) (Q:Hp->Prop),Inv X pins σ H s->RelV o ov->RelV i iv->RelV v u->t o i v H Q ->
  wpAny (model X.prog X.w) X.A (setItem ov iv u) (fun _ s'=>∃ H',Inv X pins σ H' s'/\Q H') X.xe s
abbrev Kl:=V->V->Hp->VK->Prop
def MH (X:Cx) (op:Operator) (t:Kl):Prop:=
 ∀ (pins:List (Addr×Obj)) (s:Shared) (σ:St) (H:Hp) (x y:V) (v u:Value) (Q:VK),Inv X pins σ H s->RelV x v->RelV y u->t x y H Q ->
  wpAny (model X.prog X.w) X.A (inplaceOp op v u) (EP X pins σ Q) X.xe s
section
variable {X:Cx} {pos:Pos}
def ay (i:Nat):TG:=fun v σ H Q=>Q (σ.set i (some v)) H
theorem D3 {i:Nat} {x:Str} (hN:X.N.Nodup) (hi:X.N[i]?=some x) (hx:Loc X.env.scope x) (hf:X.fn x=true\/X.env.scope.names.lookup x=some .local:=by first | exact .inl rfl | exact .inr rfl | assumption):PG X (.Name x pos) (ay i):=by
 intro pins s σ H v u Q I r h
 exact wpAny_assign_Name (pK I hN hi hx r (fun s' I'=>⟨_,H,I',h⟩) hf)
def jA:FW:=fun vs σ H Q=>vs=[]/\Q σ H
def cA (t:TG) (u:FW):FW:=fun vs σ H Q=>∃ v r,vs=v::r/\t v σ H fun σ' H'=>u r σ' H' Q
theorem D4:IT X [] jA:=by
 intro pins s σ H vs us Q I r h
 obtain ⟨e,h⟩:=h
 subst e
 cases r
 exact assignInOrder_nil ⟨σ,H,I,h⟩
theorem Bi {e:Expr} {es:List Expr} {t:TG} {u:FW} (h1:PG X e t) (h2:IT X es u)
  (hs:(assignEach (e::es) X.env).map (·.2)=assign e X.env::(assignEach es X.env).map (·.2):=by rfl):IT X (e::es) (cA t u):=by
 intro pins s σ H vs us Q I r h
 obtain ⟨v,vr,e1,h⟩:=h
 subst e1
 cases r with
 | cons r rr=>
  rw [hs]
  refine assignInOrder_cons (bA (h1 pins s σ H _ _ _ I r h) fun _ s1 ⟨σ1,H1,I1,q1⟩=>?_)
  exact h2 pins s1 σ1 H1 _ _ Q I1 rr q1
def jB (K:PySem.W.Frag) (n:Nat) (t:FW):TG:=fun v σ H Q=>∃ a xs,v=.ref a/\fU K H a xs/\xs.length=n/\t xs σ H Q
theorem GS {es:List Expr} {k:Nat} {t:FW} {n:Nat} (hc:X.calm=true) (h:IT X es t)
  (hn:(assignEach es X.env).length=n:=by rfl) (hst:(assignEach es X.env).findIdx? (·.1)=none:=by rfl):PG X (.Tuple es k pos) (jB X.K n t):=by
 intro pins s σ H v u Q I r hw
 obtain ⟨a,xs,e1,hq,hl,hw⟩:=hw
 subst e1
 cases r
 obtain ⟨its,rv,ht,hz⟩:=I.tuple hq
 refine assign_Tuple_tuple (I.ok.hd hc) ht (by simp [hn,<- hl,rv.length]) hst fun h' hx=>?_
 have I1:Inv X pins σ H {s with heap:=h'}:=I.kept (t':=s.toks) fun b o e=>hx b o (N0 (NK e)) e
 exact h pins _ σ H xs _ Q I1 (by simpa using rv) hw
def vG (to ti:TE) (t:GQ):TG:=fun v σ H Q=>to σ H fun o H1=>ti σ H1 fun i H2=>t o i v H2 fun H3=>Q σ H3
theorem GU {o i:Expr} {to ti:TE} {t:GQ} (ho:PE X o to) (hi:PE X i ti) (hs:GR X t)
  (ha:∀ v,assign (.Subscript o i pos) X.env v=(do
   let ov <- holding [v] (eval o X.env)
   let iv <- holding [v,ov] (eval i X.env)
   standAt pos
   holding [v,ov,iv] (setItem ov iv v)
   release [v,ov,iv] []):=by intro _;rfl):PG X (.Subscript o i pos) (vG to ti t):=by
 intro pins s σ H v u Q I r h
 rw [ha]
 refine NC (Ow (bA (ho pins s σ H _ I h) fun ov s1 ⟨x,H1,I1,r1,q1⟩=>?_))
 refine NC (Ow (bA (hi pins s1 σ H1 _ I1 q1) fun iv s2 ⟨y,H2,I2,r2,q2⟩=>?_))
 refine NC (Pd (NC (Ow (bA (hs pins s2 σ H2 x y v ov iv u _ I2 r1 r2 r q2) fun _ s3 ⟨H3,I3,q3⟩=>?_))))
 exact wpAny_release ⟨σ,H3,I3,q3⟩
def Al (te:TE) (g:TG):TS:=fun D σ H=>te σ H fun x H1=>g x σ H1 D.nx
theorem GV {tg e:Expr} {te:TE} {g:TG} (he:PE X e te) (hg:PG X tg g) (hs:swapsWithSole [tg] e pos.line X.env=pure false:=by rfl) (hw:swappedStores [tg] e X.env=pure none:=by rfl)
  (h1:(assignEach [tg] X.env).map (·.2)=[assign tg X.env]:=by rfl):PS X (.Assign [tg] e pos) (Al te g):=by
 intro pins s σ H D I h
 refine wpAny_Assign_stores (bA (he pins s σ H _ I h) fun v s1 ⟨x,H1,I1,r1,q1⟩=>?_) hs hw
 rw [h1]
 exact bA (hg pins s1 σ H1 x v _ I1 r1 q1) fun _ s2 q=>q
theorem GW {i:Nat} {x:Str} {e:Expr} {te:TE} {pos':Pos} (hN:X.N.Nodup) (hi:X.N[i]?=some x) (hx:Loc X.env.scope x) (he:PE X e te) (hs:swapsWith e (some (.Name x pos')) pos.line X.env=pure false:=by rfl) (hf:X.fn x=true\/X.env.scope.names.lookup x=some .local:=by first | exact .inl rfl | exact .inr rfl | assumption) :
  PS X (.Assign [.Name x pos'] e pos) (Al te (ay i)):=by
 intro pins s σ H D I h
 refine wpAny_Assign_Name (bA (he pins s σ H _ I h) fun v s1 ⟨y,H1,I1,r1,q1⟩=>?_) hs
 exact pK I1 hN hi hx r1 (fun s2 I2=>⟨_,H1,I2,q1⟩) hf
def Lk (i:Nat) (te:TE) (ti:Kl):TS:=fun D σ H=>∃ x,σ[i]?=some (some x)/\te σ H fun y H1=>ti x y H1 fun z H2=>D.nx (σ.set i (some z)) H2
theorem GX {i:Nat} {x:Str} {e:Expr} {te:TE} {op:Operator} {ti:Kl} {pos':Pos} (hN:X.N.Nodup) (hi:X.N[i]?=some x) (hx:Loc X.env.scope x) (he:PE X e te) (ho:MH X op ti) (hf:X.fn x=true\/X.env.scope.names.lookup x=some .local:=by first | exact .inl rfl | exact .inr rfl | assumption) :
  PS X (.AugAssign (.Name x pos') op e pos) (Lk i te ti):=by
 intro pins s σ H D I h
 obtain ⟨v,e1,h⟩:=h
 obtain ⟨m,hn,hl⟩:=I.loc
 have vis:DX X.env.scope x:=by rcases hx with k | k;exact .inl k;exact .inr (.inl k)
 obtain ⟨u,r,l⟩:=hl i x v hi e1 vis
 refine wpAny_AugAssign_Name ?_
 have go:wpAny (model X.prog X.w) X.A (eval e X.env) (fun w s₂=>wpAny (model X.prog X.w) X.A (inplaceOp op u w) (fun r s₃=>wpAny (model X.prog X.w) X.A (storeName X.env x r) (fun _=>SP X pins D .next) X.xe s₃) X.xe s₂) X.xe s:=by
  refine bA (he pins s σ H _ I h) fun w s1 ⟨y,H1,I1,r1,q1⟩=>?_
  refine bA (ho pins s1 σ H1 v y u w _ I1 r r1 q1) fun z s2 ⟨zv,H2,I2,r2,q2⟩=>?_
  exact pK I2 hN hi hx r2 (fun s3 I3=>⟨_,H2,I3,q2⟩) hf
 rcases l with ⟨hk,hm⟩ | ⟨hk,c,hc,hcell⟩
 ·exact Ru I.ok.kind hk hn hm go
 ·rcases hk with hk | hk
  ·exact RA I.ok.kind hk hc hcell go
  ·rcases hx with k | k
   ·have:X.env.scope.names.lookup x=some .free:=hk
    rw [k] at this;cases this
   ·have:X.env.scope.names.lookup x=some .free:=hk
    rw [k] at this;cases this
def Nb (f:Int->Int->Int):Kl:=fun x y H Q=>∃ i j,x=.int i/\y=.int j/\Q (.int (f i j)) H
theorem GY:MH X .Add (Nb fun i j=>i+j):=by
 intro pins s σ H x y v u Q I r1 r2 h
 obtain ⟨i,j,e1,e2,q⟩:=h
 subst e1;subst e2
 obtain ⟨t,rfl⟩:=r1
 obtain ⟨t',rfl⟩:=r2
 exact iadd_int ⟨.int _,H,I.tok _,⟨_,rfl⟩,q⟩
end
structure It where
 go:Nat->Hp->Prop
 yld:Nat->Hp->V->Hp->Prop
 stop:Nat->Hp->Prop
def gu (X:Cx) (pins:List (Addr×Obj)) (H:Hp) (b:Addr):Prop:=
 H b=none/\b≠X.env.locals/\b∉X.fs/\(b∈X.ex\/X.s₀.heap.objs.size<=b)/\(∀ x c,X.env.cells.lookup x=some c->c≠b)/\∀ p∈X.pn++pins,p.1≠b
theorem Inv.Bj {X:Cx} {pins:List (Addr×Obj)} {σ:St} {H H':Hp} {s:Shared} {b:Addr} (I:Inv X pins σ H s) (hb:s.heap.objs.size<=b) (hn:H' b=none):gu X pins H' b:=by
 refine ⟨hn,Qn (NM I.lt hb),I.xD hb,.inr (NS I.sz hb),fun x c e z=>?_,fun p hp z=>?_⟩
 ·obtain ⟨v,q⟩:=I.cell x c e
  exact absurd (NM q.lt (by rw [z];exact hb)) (N5 _)
 ·exact absurd (NM (NK (I.pin p hp).1) (by rw [z];exact hb)) (N5 _)
structure Turn (P:Program) (w:World) (K:PySem.W.Frag) (tg:Expr) (J:It) (fp:List Addr) (it:Addr) (tn:Nat->Heap->Prop):Prop where
 mem:it∈fp
 obj:∀ i h,tn i h->∀ b∈fp,∃ o,h.get? b=some o/\∀ v,o.data≠.cell v
 keep:∀ i h h',tn i h->(∀ b∈fp,∀ o,h.get? b=some o->h'.get? b=some o)->tn i h'
 item:∀ (X:Cx),X.prog=P->X.w=w->X.K=K->X.calm=true->∀ (i:Nat) (pins:List (Addr×Obj)) (s:Shared) (σ:St) (H:Hp) (E:Value->Shared->Prop),Inv X pins σ H s->(∀ b∈fp,gu X pins H b)->tn i s.heap->J.go i H ->
  wpAny (model P w) X.A (pyNext (.ref it)) (fun r s1=>∃ u,r=some u /\
   wpAny (model P w) X.A (letOwnedTupleGo tg (.ref it) u) (fun _ s2=>∃ x H',Inv X pins σ H' s2/\RelV x u/\J.yld i H x H'/\tn (i+1) s2.heap/\∀ b∈fp,H' b=none) E s1) E s
 done:∀ (X:Cx),X.prog=P->X.w=w->X.K=K->X.calm=true->∀ (i:Nat) (pins:List (Addr×Obj)) (s:Shared) (σ:St) (H:Hp) (E:Value->Shared->Prop),Inv X pins σ H s->(∀ b∈fp,gu X pins H b)->tn i s.heap->J.stop i H ->
  wpAny (model P w) X.A (pyNext (.ref it)) (fun r s1=>r=none/\Inv X pins σ H s1) E s
 self:∀ (A:Around) (i:Nat) (s:Shared) (Q:Value->Shared->Prop) (E:Value->Shared->Prop),tn i s.heap->Q (.ref it) s->wpAny (model P w) A (pyIter (.ref it)) Q E s
abbrev TI:=St->Hp->(It->Hp->Prop)->Prop
def MI (X:Cx) (pins:List (Addr×Obj)) (σ:St) (tg:Expr) (R:It->Hp->Prop) (itv:Value) (s2:Shared):Prop:=
 ∃ (it:Addr) (fp:List Addr) (tn:Nat->Heap->Prop) (J:It) (H':Hp),itv=.ref it/\Inv X pins σ H' s2/\Turn X.prog X.w X.K tg J fp it tn/\tn 0 s2.heap/\(∀ b∈fp,gu X pins H' b)/\R J H'
def PI (X:Cx) (tg iter:Expr) (wi:TI):Prop:=
 ∀ (pins:List (Addr×Obj)) (s:Shared) (σ:St) (H:Hp) (R:It->Hp->Prop),Inv X pins σ H s->wi σ H R ->
  wpAny (model X.prog X.w) X.A (eval iter X.env) (fun v s1=>wpAny (model X.prog X.w) X.A (pyIter v) (MI X pins σ tg R) X.xe s1) X.xe s
theorem yT {M:Model} {A:Around} {E:Value->Shared->Prop} {s:Shared} {tg:Expr} {it:Addr} {u:Value} {o:Obj} {n:String} {vs:Array Value} {Q:Unit->Shared->Prop} (ho:s.heap.get? it=some o) (hc:o.cls=.type n) (hd:o.data=.fields vs)
  (hn:["enumerate", "zip", "dict_itemiterator", "dict_reverseitemiterator", "odict_iterator", "itertools.zip_longest", "itertools.pairwise"].contains n=false) (hQ:Q () s):wpAny M A (letOwnedTupleGo tg (.ref it) u) Q E s:=by
 unfold letOwnedTupleGo
 cases tg<;>first
  | exact ND hQ
  | (cases u<;>first
    | exact ND hQ
    | (refine NC (Q1 ho ?_)
       rw [hc,hd]
       show wpAny M A (if (["enumerate", "zip", "dict_itemiterator", "dict_reverseitemiterator", "odict_iterator", "itertools.zip_longest", "itertools.pairwise"].contains n && vs[0]? == some (rawInt _))=true then _ else _) Q E s
       rw [if_neg (by intro h;rw [hn,Q6] at h;cases h)]
       exact ND hQ))
def Ll (K:PySem.W.Frag) (a:Addr):It:=
 ⟨fun i H=>∃ xs x,iu K H a xs/\xs[i]?=some x,fun i H x H'=>H'=H/\∀ xs,iu K H a xs->xs[i]?=some x,fun i H=>∃ xs,iu K H a xs/\xs.length<=i⟩
def Km (K:PySem.W.Frag) (a:Addr):It:=
 ⟨fun i H=>∃ xs x,fU K H a xs/\xs[i]?=some x,fun i H x H'=>H'=H/\∀ xs,fU K H a xs->xs[i]?=some x,fun i H=>∃ xs,fU K H a xs/\xs.length<=i⟩
def Kn (lo:Int) (n:Nat):It:=⟨fun i _=>i < n,fun i H x H'=>H'=H/\x=.int (lo+i),fun i _=>n<=i⟩
theorem Am {P:Program} {w:World} {K:PySem.W.Frag} {tg:Expr} (a it:Addr):Turn P w K tg (Ll K a) [it] it (fun i h=>h.IsListIter it a i) where
 mem:=by simp
 obj:=fun i h st b hb=>by
  have e:b=it:=by simpa using hb
  subst e
  obtain ⟨o,e,c,d⟩:=st
  exact ⟨o,e,fun v z=>by rw [d] at z;cases z⟩
 keep:=fun i h h' st k=>st.at fun o e=>k it (by simp) o e
 item:=by
  intro X hP hw hK hc i pins s σ H E I hf st hg
  subst hP hw hK
  obtain ⟨xs,x,hq,hx⟩:=hg
  obtain ⟨its,rv,p,hz⟩:=I.list hq
  obtain ⟨u,hu,ru⟩:=rv.get hx
  obtain ⟨f0,f1,f2,f3,f4,f5⟩:=hf it (by simp)
  refine wpAny_pyNext_list_item st p.isList (x:=u) (by simpa using hu) fun h' st' sb=>?_
  have I1:Inv X pins σ H {s with heap:=h'}:=I.turned (t':=s.toks) (fun b o hb e=>(sb.2 b hb).trans e) f0 f1 f3 f4 f5
  obtain ⟨o,e,c,d⟩:=id st'
  exact ⟨u,rfl,yT (s:={s with heap:=h'}) e c d (by decide) ⟨x,H,I1,ru,⟨rfl,fun ys hy=>by rw [I.Bg hy hq];exact hx⟩,st',fun b hb=>(hf b hb).1⟩⟩
 done:=by
  intro X hP hw hK hc i pins s σ H E I hf st hg
  subst hP hw hK
  obtain ⟨xs,hq,hx⟩:=hg
  obtain ⟨its,rv,p,hz⟩:=I.list hq
  obtain ⟨f0,f1,f2,f3,f4,f5⟩:=hf it (by simp)
  have hl:=rv.length
  exact wpAny_pyNext_list_end (I.ok.hd hc) st p.isList (by simp;omega) fun h' eb=>⟨rfl,I.turned (t':=s.toks) (fun b o hb e=>eb b o hb e) f0 f1 f3 f4 f5⟩
 self:=fun _ _ _ _ _ st h=>wpAny_pyIter_listiter st h
theorem xF {P:Program} {w:World} {K:PySem.W.Frag} {tg:Expr} (a it:Addr):Turn P w K tg (Km K a) [it] it (fun i h=>h.IsTupleIter it a i) where
 mem:=by simp
 obj:=fun i h st b hb=>by
  have e:b=it:=by simpa using hb
  subst e
  obtain ⟨o,e,c,d⟩:=st
  exact ⟨o,e,fun v z=>by rw [d] at z;cases z⟩
 keep:=fun i h h' st k=>st.at fun o e=>k it (by simp) o e
 item:=by
  intro X hP hw hK hc i pins s σ H E I hf st hg
  subst hP hw hK
  obtain ⟨xs,x,hq,hx⟩:=hg
  obtain ⟨its,rv,p,hz⟩:=I.tuple hq
  obtain ⟨u,hu,ru⟩:=rv.get hx
  obtain ⟨f0,f1,f2,f3,f4,f5⟩:=hf it (by simp)
  refine wpAny_pyNext_tuple_item st (show s.heap.IsTuple a its.toArray from p) (x:=u) (by simpa using hu) fun h' st' sb=>?_
  have I1:Inv X pins σ H {s with heap:=h'}:=I.turned (t':=s.toks) (fun b o hb e=>(sb.2 b hb).trans e) f0 f1 f3 f4 f5
  obtain ⟨o,e,c,d⟩:=id st'
  exact ⟨u,rfl,yT (s:={s with heap:=h'}) e c d (by decide) ⟨x,H,I1,ru,⟨rfl,fun ys hy=>by rw [I.nC hy hq];exact hx⟩,st',fun b hb=>(hf b hb).1⟩⟩
 done:=by
  intro X hP hw hK hc i pins s σ H E I hf st hg
  subst hP hw hK
  obtain ⟨xs,hq,hx⟩:=hg
  obtain ⟨its,rv,p,hz⟩:=I.tuple hq
  obtain ⟨f0,f1,f2,f3,f4,f5⟩:=hf it (by simp)
  have hl:=rv.length
  exact wpAny_pyNext_tuple_end (I.ok.hd hc) st (show s.heap.IsTuple a its.toArray from p) (by simp;omega) fun h' eb=>⟨rfl,I.turned (t':=s.toks) (fun b o hb e=>eb b o hb e) f0 f1 f3 f4 f5⟩
 self:=fun _ _ _ _ _ st h=>wpAny_pyIter_tupleiter st h
theorem xG {P:Program} {w:World} {K:PySem.W.Frag} {tg:Expr} (it:Addr) (lo:Int) (n:Nat):Turn P w K tg (Kn lo n) [it] it (fun i h=>IsRangeIter h it (lo+(i:Nat) * 1) ((n:Int) - (i:Nat)) 1) where
 mem:=by simp
 obj:=fun i h st b hb=>by
  have e:b=it:=by simpa using hb
  subst e
  exact ⟨_,st,fun v z=>by
   have z':Data.fields _=Data.cell v:=z
   cases z'⟩
 keep:=fun i h h' st k=>k it (by simp) _ st
 item:=by
  intro X hP hw hK hc i pins s σ H E I hf st hg
  subst hP hw hK
  obtain ⟨f0,f1,f2,f3,f4,f5⟩:=hf it (by simp)
  have W:=Walks.range (prog:=X.prog) (w:=X.w) (I.ok.hd hc) it lo 1 n
  refine W.item i s _ _ hg st fun v h' tk hv st' kk=>?_
  obtain ⟨t,rfl⟩:=hv
  have I1:Inv X pins σ H {s with heap:=h',toks:=tk}:=I.turned (fun b o hb e=>kk b o (by simpa using hb) e) f0 f1 f3 f4 f5
  refine ⟨_,rfl,yT (s:={s with heap:=h',toks:=tk}) (n := "range_iterator") st' rfl rfl (by decide) ⟨.int (lo+i),H,I1,⟨t,?_⟩,⟨rfl,rfl⟩,st',fun b hb=>(hf b hb).1⟩⟩
  rw [Int.mul_one]
 done:=by
  intro X hP hw hK hc i pins s σ H E I hf st hg
  subst hP hw hK
  obtain ⟨f0,f1,f2,f3,f4,f5⟩:=hf it (by simp)
  exact wpAny_pyNext_range_end (I.ok.hd hc) st (by have:n<=i:=hg;omega) fun h' eb=>⟨rfl,I.turned (t':=s.toks) (fun b o hb e=>eb b o hb e) f0 f1 f3 f4 f5⟩
 self:=fun _ _ _ _ _ st h=>wpAny_pyIter_rangeiter st h
section
variable {X:Cx} {tg:Expr}
def Ji (K:PySem.W.Frag) (tl:TE):TI:=fun σ H R=>tl σ H fun x H1=>∃ a,x=.ref a/\(∃ xs,iu K H1 a xs)/\R (Ll K a) H1
def Lm (K:PySem.W.Frag) (tl:TE):TI:=fun σ H R=>tl σ H fun x H1=>∃ a,x=.ref a/\(∃ xs,fU K H1 a xs)/\R (Km K a) H1
theorem D5 {l:Expr} {tl:TE} (hl:PE X l tl):PI X tg l (Ji X.K tl):=by
 intro pins s σ H R I h
 refine bA (hl pins s σ H _ I h) fun v s1 ⟨x,H1,I1,r1,q1⟩=>?_
 obtain ⟨a,e,⟨xs,hq⟩,q⟩:=q1
 subst e
 cases r1
 obtain ⟨its,rv,p,hz⟩:=I1.list hq
 refine wpAny_pyIter_list p.isList ?_
 refine ⟨s1.heap.objs.size,[s1.heap.objs.size],_,_,H1,rfl,I1.kept (t':=s1.toks) fun b o e=>NF _ e,Am a _,⟨_,NL _ rfl,rfl,rfl⟩,fun b hb=>?_,q⟩
 have e:b=s1.heap.objs.size:=by simpa using hb
 subst e
 exact I1.Bj (NI _) (I1.hok.fresh (NI _))
theorem Bk {l:Expr} {tl:TE} (hl:PE X l tl):PI X tg l (Lm X.K tl):=by
 intro pins s σ H R I h
 refine bA (hl pins s σ H _ I h) fun v s1 ⟨x,H1,I1,r1,q1⟩=>?_
 obtain ⟨a,e,⟨xs,hq⟩,q⟩:=q1
 subst e
 cases r1
 obtain ⟨its,rv,p,hz⟩:=I1.tuple hq
 refine QR (show s1.heap.IsTuple a its.toArray from p) ?_
 refine ⟨s1.heap.objs.size,[s1.heap.objs.size],_,_,H1,rfl,I1.kept (t':=s1.toks) fun b o e=>NF _ e,xF a _,⟨_,NL _ rfl,rfl,rfl⟩,fun b hb=>?_,q⟩
 have e:b=s1.heap.objs.size:=by simpa using hb
 subst e
 exact I1.Bj (NI _) (I1.hok.fresh (NI _))
theorem Bl {pins:List (Addr×Obj)} {σ:St} {H:Hp} {s:Shared} {R:It->Hp->Prop} {E:Value->Shared->Prop} {lo hi:Int} {t u v:Tok} {tk:Nat} (I:Inv X pins σ H s) (h1:-(2 ^ 62)<=lo) (h2:lo < 2 ^ 62) (h3:-(2 ^ 62)<=hi) (h4:hi < 2 ^ 62)
  (q:R (Kn lo (hi - lo).toNat) H):wpAny (model X.prog X.w) X.A (pyIter (.ref s.heap.objs.size)) (MI X pins σ tg R) E {s with heap:=s.heap.push {cls:=.type "range",data:=.fields #[.int lo t,.int hi u,.int 1 v]},toks:=tk}:=by
 refine wpAny_pyIter_range (IsRange.new ..) (small_one h1 h2 h3 h4) ?_
 have I1:Inv X pins σ H {s with heap:=s.heap.push {cls:=.type "range",data:=.fields #[.int lo t,.int hi u,.int 1 v]},toks:=tk}:=I.kept fun b o e=>NF _ e
 refine ⟨(s.heap.push {cls:=.type "range",data:=.fields #[.int lo t,.int hi u,.int 1 v]}).objs.size,[(s.heap.push {cls:=.type "range",data:=.fields #[.int lo t,.int hi u,.int 1 v]}).objs.size],_,_,H,rfl,
  I1.kept (t':=tk) fun b o e=>NF _ e,xG _ lo (hi - lo).toNat,?_,fun b hb=>?_,q⟩
 ·have e1:lo+((0:Nat):Int) * 1=lo:=by simp
  have e2:(((hi - lo).toNat:Nat):Int) - ((0:Nat):Int)=Builtin.Range.rangeSize lo hi 1:=by rw [rangeSize_one];split<;>omega
  show IsRangeIter _ _ (lo+((0:Nat):Int) * 1) ((((hi - lo).toNat:Nat):Int) - ((0:Nat):Int)) 1
  rw [e1,e2]
  exact NL _ rfl
 ·have e:b=(s.heap.push {cls:=.type "range",data:=.fields #[.int lo t,.int hi u,.int 1 v]}).objs.size:=by simpa using hb
  subst e
  exact I1.Bj (NI _) (I1.hok.fresh (NI _))
def Jj (ta:TA):TI:=fun σ H R=>ta σ H fun vs H1=>∃ j:Int,vs=[.int j]/\-(2 ^ 62)<=j/\j < 2 ^ 62/\R (Kn 0 j.toNat) H1
theorem An {a:Expr} {ta:TA} {p pos:Pos} (hg:Gl X "range") (hm:X.mg "range" = none) (ha:PA X [a] ta) (hs:starEach [a] X.env=[(false,eval a X.env)]:=by rfl):PI X tg (.Call (.Name "range" p) [a] [] pos) (Jj ta):=by
 intro pins s σ H R I h
 refine Call_ (lj I hg hm boot_range (Pr (bA (ha pos pins s σ H _ I h) fun us s1 ⟨vs,H1,I1,r1,q1⟩=>?_) hs rfl))
 obtain ⟨j,e,q1,q2,q⟩:=q1
 subst e
 cases r1 with
 | cons r rr=>
  cases rr
  obtain ⟨t,rfl⟩:=r
  exact call_range_1 (Bl I1 (by omega) (by omega) q1 q2 (by simpa using q))
def Ln (wi:TI) (g:TG) (tb:TS):TS:=fun D σ H=>wi σ H fun J H1=>∃ W:Nat->Nat->St->Hp->Prop,(∃ m,W 0 m σ H1)/\∀ i m σ H,W i m σ H ->
 (J.stop i H/\D.nx σ H)\/(J.go i H/\∃ N:St->Hp->Prop,(∀ σ' H',N σ' H'->∃ m',m' < m/\W (i+1) m' σ' H')/\∀ x H',J.yld i H x H'->g x σ H' fun σ2 H2=>tb {D with nx:=N,ct:=N,bk:=D.nx} σ2 H2)
def bG (fp:List Addr) (h:Heap):List (Addr×Obj):=fp.filterMap fun b=>(h.get? b).map fun o=>(b,o)
theorem aS {fp:List Addr} {h:Heap} {b:Addr} {o:Obj} (hb:b∈fp) (e:h.get? b=some o):(b,o)∈bG fp h:=Ql.mpr ⟨b,hb,by rw [e];rfl⟩
theorem dN {fp:List Addr} {h:Heap} {p:Addr×Obj} (hp:p∈bG fp h):p.1∈fp/\h.get? p.1=some p.2:=by
 obtain ⟨b,hb,e⟩:=Ql.mp hp
 cases q:h.get? b with
 | none=>rw [q] at e;cases e
 | some o=>
  rw [q] at e
  have e':(b,o)=p:=OI e
  subst e'
  exact ⟨hb,q⟩
theorem Inv.pinned {pins:List (Addr×Obj)} {σ:St} {H:Hp} {s:Shared} {fp:List Addr} (I:Inv X pins σ H s) (hf:∀ b∈fp,gu X pins H b) (ho:∀ b∈fp,∃ o,s.heap.get? b=some o/\∀ v,o.data≠.cell v):Inv X (pins++bG fp s.heap) σ H s:=
 I.iO fun p hp=>(NX.mp hp).elim (fun z=>I.pin p (NH _ z)) fun z=>by
  obtain ⟨hb,e⟩:=dN z
  obtain ⟨f0,f1,f2,_⟩:=hf p.1 hb
  obtain ⟨o,e',d⟩:=ho p.1 hb
  rw [e] at e';cases e'
  exact ⟨e,f0,f1,f2,d⟩
theorem Inv.iw {pins pl:List (Addr×Obj)} {σ:St} {H:Hp} {s:Shared} (I:Inv X (pins++pl) σ H s):Inv X pins σ H s:=I.iO fun p hp=>I.pin p (NH _ (Oq _ hp))
theorem GZ {iter:Expr} {body:List Stmt} {wi:TI} {g:TG} {tb:TS} {pos:Pos} (hp:PassesOwn (model X.prog X.w) X.A X.env X.xe) (hc:X.calm=true) (hi:PI X tg iter wi) (hg:PG X tg g) (hb:xC X body tb)
  (hs:∀ x,foldedSetIterable iter X.env x=pure x:=by intro _;rfl):PS X (.For tg iter body [] pos) (Ln wi g tb):=by
 intro pins s σ H D I h
 refine wpAny_For (bA (hi pins s σ H _ I h) fun v s1 h1=>bA h1 fun itv s2 h2=>?_) hs
 obtain ⟨it,fp,tn,J,H2,e,I2,T,st2,f2,W,⟨m0,w0⟩,turn⟩:=h2
 subst e
 have stat:∀ {H':Hp},(∀ b∈fp,H' b=none)->∀ b∈fp,gu X pins H' b:=fun hn b hb=>⟨hn b hb,(f2 b hb).2⟩
 refine codeAny_forLoop_any (fun n s'=>∃ i σ' H',Inv X pins σ' H' s'/\tn i s'.heap/\(∀ b∈fp,H' b=none)/\W i n σ' H') ?_ m0 ⟨0,σ,H2,I2,st2,fun b hb=>(f2 b hb).1,w0⟩
 rintro n s3 ⟨i,σ3,H3,I3,st3,fr3,w3⟩
 rcases turn i n σ3 H3 w3 with ⟨stop,qn⟩ | ⟨go,N,hN,step⟩
 ·refine QS hp (bA (T.done X rfl rfl rfl hc i pins s3 σ3 H3 X.xe I3 (stat fr3) st3 stop) fun r s4 ⟨hr,I4⟩=>?_)
  subst hr
  exact wpAny_execs_nil ⟨σ3,H3,I4,qn⟩
 ·refine QS hp (bA (T.item X rfl rfl rfl hc i pins s3 σ3 H3 X.xe I3 (stat fr3) st3 go) fun r s4 ⟨u,hr,h4⟩=>?_)
  subst hr
  refine QS hp (bA h4 fun _ s5 ⟨x,H5,I5,r5,y5,st5,fr5⟩=>?_)
  have I5':=I5.pinned (stat fr5) (T.obj _ _ st5)
  refine QS hp (bA (hg _ s5 σ3 H5 x u _ I5' r5 (step x H5 y5)) fun _ s6 ⟨σ6,H6,I6,q6⟩=>?_)
  refine QS hp (bA (hb _ s6 σ6 H6 _ I6 q6) fun f s7 q7=>?_)
  have again:∀ {σ7:St} {H7:Hp},Inv X (pins++bG fp s5.heap) σ7 H7 s7->N σ7 H7->∃ m,m < n/\∃ i σ' H',Inv X pins σ' H' s7/\tn i s7.heap/\(∀ b∈fp,H' b=none)/\W i m σ' H':=fun {σ7 H7} I7 n7=>by
   obtain ⟨m',hm,w7⟩:=hN σ7 H7 n7
   refine ⟨m',hm,i+1,σ7,H7,I7.iw,T.keep _ _ _ st5 fun b hb o e=>(I7.pin (b,o) (NH _ (NH _ (aS hb e)))).1,fun b hb=>?_,w7⟩
   obtain ⟨o,e,d⟩:=T.obj _ _ st5 b hb
   exact (I7.pin (b,o) (NH _ (NH _ (aS hb e)))).2.1
  cases f with
  | next=>obtain ⟨σ7,H7,I7,n7⟩:=q7;exact again I7 n7
  | cont=>obtain ⟨σ7,H7,I7,n7⟩:=q7;exact again I7 n7
  | brk=>obtain ⟨σ7,H7,I7,q7⟩:=q7;exact ⟨σ7,H7,I7.iw,q7⟩
  | ret v=>obtain ⟨x7,σ7,H7,I7,r7,q7⟩:=q7;exact ⟨x7,σ7,H7,I7.iw,r7,q7⟩
end
abbrev R2:=V->V->Hp->VK->Prop
def gM (X:Cx) (f:Value->Value->Sem Value) (r:R2):Prop:=
 ∀ (pins:List (Addr×Obj)) (s:Shared) (σ:St) (H:Hp) (x y:V) (v u:Value) (Q:VK),Inv X pins σ H s->RelV x v->RelV y u->r x y H Q ->
  wpAny (model X.prog X.w) X.A (f v u) (EP X pins σ Q) X.xe s
def Lo (X:Cx) (f:Value->Sem Value) (r:V->Hp->VK->Prop):Prop:=
 ∀ (pins:List (Addr×Obj)) (s:Shared) (σ:St) (H:Hp) (x:V) (v:Value) (Q:VK),Inv X pins σ H s->RelV x v->r x H Q ->
  wpAny (model X.prog X.w) X.A (f v) (EP X pins σ Q) X.xe s
def dD (X:Cx) (f:Value) (r:List V->Hp->VK->Prop):Prop:=
 ∀ (pins:List (Addr×Obj)) (s:Shared) (σ:St) (H:Hp) (xs:List V) (us:List Value) (Q:VK),Inv X pins σ H s->Vals xs us->r xs H Q ->
  wpAny (model X.prog X.w) X.A (call f us) (EP X pins σ Q) X.xe s
def G0 (X:Cx) (r:V->Hp->(Bool->Hp->Prop)->Prop):Prop:=
 ∀ (pins:List (Addr×Obj)) (s:Shared) (σ:St) (H:Hp) (x:V) (v:Value) (Q:Bool->Hp->Prop),Inv X pins σ H s->RelV x v->r x H Q ->
  wpAny (model X.prog X.w) X.A (truthy v) (TP X pins σ Q) X.xe s
def Jk (r:R2) (ta tb:TE):TE:=fun σ H Q=>ta σ H fun x H1=>tb σ H1 fun y H2=>r x y H2 Q
def Nc (r:V->Hp->VK->Prop) (ta:TE):TE:=fun σ H Q=>ta σ H fun x H1=>r x H1 Q
def rI (C:Int->Int->Prop) (g:Int->Int->V):R2:=fun x y H Q=>∃ i j,x=.int i/\y=.int j/\C i j/\Q (g i j) H
def FX (g:Int->Int->V):R2:=fun x y H Q=>∃ i j,x=.int i/\y=.int j/\Q (g i j) H
def rU (g:Int->V):V->Hp->VK->Prop:=fun x H Q=>∃ i,x=.int i/\Q (g i) H
section
variable {X:Cx} {a b c:Expr} {ta tb tc:TE} {pos:Pos}
theorem G1 (ha:PE X a ta) (hb:PE X b tb) {pins:List (Addr×Obj)} {s:Shared} {σ:St} {H:Hp} {R:V->V->Hp->Prop} (I:Inv X pins σ H s)
  (h:ta σ H fun x H1=>tb σ H1 fun y H2=>R x y H2) {Q:Value->Shared->Prop} {f:Value->Value->Sem Value}
  (hf:∀ v u s2 x y H2,Inv X pins σ H2 s2->RelV x v->RelV y u->R x y H2->wpAny (model X.prog X.w) X.A (f v u) Q X.xe s2) :
  wpAny (model X.prog X.w) X.A (eval a X.env) (fun v s₁=>wpAny (model X.prog X.w) X.A (eval b X.env) (fun u s₂=>wpAny (model X.prog X.w) X.A (f v u) Q X.xe s₂) X.xe s₁) X.xe s:=by
 refine bA (ha pins s σ H _ I h) fun v s1 ⟨x,H1,I1,r1,q1⟩=>?_
 refine bA (hb pins s1 σ H1 _ I1 q1) fun u s2 ⟨y,H2,I2,r2,q2⟩=>?_
 exact hf v u s2 x y H2 I2 r1 r2 q2
theorem FY {op:Operator} {r:R2} (ho:gM X (binaryOp op) r) (ha:PE X a ta) (hb:PE X b tb):PE X (.BinOp a op b pos) (Jk r ta tb):=by
 intro pins s σ H Q I h
 exact wpAny_BinOp (G1 ha hb I h fun v u s2 x y H2 I2 rx ry q=>ho pins s2 σ H2 x y v u Q I2 rx ry q)
theorem Jl {op:UnaryOp} {r:V->Hp->VK->Prop} (ho:Lo X (unaryOp op) r) (ha:PE X a ta):PE X (.UnaryOp op a pos) (Nc r ta):=by
 intro pins s σ H Q I h
 exact UnaryOp_ (bA (ha pins s σ H _ I h) fun v s1 ⟨x,H1,I1,r1,q1⟩=>ho pins s1 σ H1 x v Q I1 r1 q1)
theorem Ko {f:Value->Value->Sem Value} {C:Int->Int->Prop} {g:Int->Int->Int}
  (rule:∀ (i j:Int) (t u:Tok) (s:Shared) (Q:Value->Shared->Prop) (E:Value->Shared->Prop),C i j->Q (.int (g i j) s.toks) {s with toks:=s.toks+1}->wpAny (model X.prog X.w) X.A (f (.int i t) (.int j u)) Q E s) :
  gM X f (rI C fun i j=>.int (g i j)):=by
 intro pins s σ H x y v u Q I rx ry h
 obtain ⟨i,j,rfl,rfl,hc,q⟩:=h
 obtain ⟨t,rfl⟩:=rx
 obtain ⟨t',rfl⟩:=ry
 exact rule i j t t' s _ _ hc ⟨.int (g i j),H,I.tok _,⟨_,rfl⟩,q⟩
theorem Jm {f:Value->Value->Sem Value} {g:Int->Int->Int}
  (rule:∀ (i j:Int) (t u:Tok) (s:Shared) (Q:Value->Shared->Prop) (E:Value->Shared->Prop),Q (.int (g i j) s.toks) {s with toks:=s.toks+1}->wpAny (model X.prog X.w) X.A (f (.int i t) (.int j u)) Q E s) :
  gM X f (FX fun i j=>.int (g i j)):=by
 intro pins s σ H x y v u Q I rx ry h
 obtain ⟨i,j,rfl,rfl,q⟩:=h
 obtain ⟨t,rfl⟩:=rx
 obtain ⟨t',rfl⟩:=ry
 exact rule i j t t' s _ _ ⟨.int (g i j),H,I.tok _,⟨_,rfl⟩,q⟩
theorem G2 {f:Value->Value->Sem Value} {g:Int->Int->Bool}
  (rule:∀ (i j:Int) (t u:Tok) (s:Shared) (Q:Value->Shared->Prop) (E:Value->Shared->Prop),Q (.bool (g i j)) s->wpAny (model X.prog X.w) X.A (f (.int i t) (.int j u)) Q E s) :
  gM X f (FX fun i j=>.bl (g i j)):=by
 intro pins s σ H x y v u Q I rx ry h
 obtain ⟨i,j,rfl,rfl,q⟩:=h
 obtain ⟨t,rfl⟩:=rx
 obtain ⟨t',rfl⟩:=ry
 exact rule i j t t' s _ _ ⟨.bl (g i j),H,I,rfl,q⟩
def Jn (i j:Int):Prop:=0 < j/\j < 1073741824
def Lp (i j:Int):Prop:=0<=j/\j<=1000000/\i.natAbs < 2 ^ 64
def G3 (i j:Int):Prop:=(-(2 ^ 64) < i/\i < 2 ^ 64)\/(-(2 ^ 64) < j/\j < 2 ^ 64)
theorem G3.ok {i j:Int} (h:G3 i j):IntMulOk i j:=by
 rcases h with ⟨h1,h2⟩ | ⟨h1,h2⟩
 ·exact .of_left (intBits_le_64 h1 h2)
 ·exact .of_right (intBits_le_64 h1 h2)
theorem G4:gM X (binaryOp .Add) (FX fun i j=>.int (i+j)):=Jm fun _ _ _ _ _ _ _ q=>add_int q
theorem G5:gM X (binaryOp .Sub) (FX fun i j=>.int (i - j)):=Jm fun _ _ _ _ _ _ _ q=>sub_int q
theorem G6:gM X (binaryOp .Mult) (rI G3 fun i j=>.int (i * j)):=Ko fun _ _ _ _ _ _ _ hc q=>mul_int q hc.ok
theorem D6:gM X (binaryOp .FloorDiv) (rI Jn fun i j=>.int (i / j)):=Ko fun i j _ _ _ _ _ hc q=>by
 have h1:(0:Int) < j:=hc.1
 have h2:j < 1073741824:=hc.2
 exact floordiv_int (by omega) (by rw [Int.fdiv_eq_ediv_of_nonneg i (by omega)];exact q) (.inl (PyProof.noPylong_small (by omega)))
theorem G7:gM X (binaryOp .Mod) (rI (fun _ j=>0 < j) fun i j=>.int (i % j)):=Ko fun i j _ _ _ _ _ hc q=>by
 have h1:(0:Int) < j:=hc
 exact mod_int' (by omega) (by rw [Int.fmod_eq_emod_of_nonneg i (by omega)];exact q)
theorem G8:gM X (binaryOp .Pow) (rI Lp fun i j=>.int (i ^ j.toNat)):=Ko fun _ _ _ _ _ _ _ hc q=>pow_int_small hc.1 hc.2.1 hc.2.2 q
theorem Nd {f:Value->Sem Value} {g:Int->Int}
  (rule:∀ (i:Int) (t:Tok) (s:Shared) (Q:Value->Shared->Prop) (E:Value->Shared->Prop),Q (.int (g i) s.toks) {s with toks:=s.toks+1}->wpAny (model X.prog X.w) X.A (f (.int i t)) Q E s) :
  Lo X f (rU fun i=>.int (g i)):=by
 intro pins s σ H x v Q I rx h
 obtain ⟨i,rfl,q⟩:=h
 obtain ⟨t,rfl⟩:=rx
 exact rule i t s _ _ ⟨.int (g i),H,I.tok _,⟨_,rfl⟩,q⟩
theorem G9:Lo X (unaryOp .USub) (rU fun i=>.int (-i)):=Nd fun _ _ _ _ _ q=>neg_int q
end
def Jo:V->V->Bool
 | .non,.non=>true | .non,.int _=>true | .int _,.non=>true | .non,.bl _=>true | .bl _,.non=>true | .non,.str _=>true | .str _,.non=>true
 | .int _,.int _=>true | .bl _,.bl _=>true | .str _,.str _=>true | .byt _,.byt _=>true
 | .int _,.str _=>true | .str _,.int _=>true | .bl _,.str _=>true | .str _,.bl _=>true
 | _,_=>false
def Nf:R2:=fun x y H Q=>Jo x y=true/\Q (.bl (decide (x=y))) H
def Ng:R2:=fun x y H Q=>Jo x y=true/\Q (.bl (!decide (x=y))) H
theorem yU {i j:Int}:decide (V.int i=V.int j)=(i == j):=by
 rw [OQ]
 simp
theorem Bm {i j:Bool}:decide (V.bl i=V.bl j)=(i == j):=by
 rw [OQ]
 simp
theorem yV {i j:Str}:decide (V.str i=V.str j)=(i == j):=by
 rw [OQ]
 simp
theorem yW {i j:Array UInt8}:decide (V.byt i=V.byt j)=(i.toList == j.toList):=by
 rw [OQ]
 cases i
 cases j
 simp
section
variable {X:Cx} {a b c:Expr} {ta tb tc:TE} {pos:Pos}
theorem bB {pins:List (Addr×Obj)} {σ:St} {H:Hp} {s:Shared} {Q:VK} {k k':Bool} (I:Inv X pins σ H s) (q:Q (.bl k) H) (e:k=k'):EP X pins σ Q (.bool k') s:=by
 subst e
 exact ⟨.bl k,H,I,rfl,q⟩
theorem Jp:gM X (compareOp .Eq) Nf:=by
 intro pins s σ H x y v u Q I rx ry h
 obtain ⟨hs,q⟩:=h
 cases x with
 | non=>
  cases rx
  cases y with
  | non=>cases ry;exact PySem.EqNone.eq_none_none (bB I q (by simp))
  | bl j=>cases ry;exact PySem.EqNone.eq_none_bool (bB I q (by simp))
  | int j=>obtain ⟨t',rfl⟩:=ry;exact PySem.EqNone.eq_none_int (bB I q (by simp))
  | str j=>obtain ⟨t',rfl⟩:=ry;exact PySem.EqNone.eq_none_str (bB I q (by simp))
  | _=>exact absurd (show false=true from hs) Oa
 | bl i=>
  cases rx
  cases y with
  | non=>cases ry;exact PySem.EqNone.eq_bool_none (bB I q (by simp))
  | bl j=>cases ry;exact eq_bool (bB I q Bm)
  | str j=>obtain ⟨t',rfl⟩:=ry;exact PySem.EqMixed.eq_bool_str (bB I q (by simp))
  | _=>exact absurd (show false=true from hs) Oa
 | int i=>
  obtain ⟨t,rfl⟩:=rx
  cases y with
  | non=>cases ry;exact PySem.EqNone.eq_int_none (bB I q (by simp))
  | int j=>obtain ⟨t',rfl⟩:=ry;exact eq_int (bB I q yU)
  | str j=>obtain ⟨t',rfl⟩:=ry;exact PySem.EqMixed.eq_int_str (bB I q (by simp))
  | _=>exact absurd (show false=true from hs) Oa
 | str i=>
  obtain ⟨t,rfl⟩:=rx
  cases y with
  | non=>cases ry;exact PySem.EqNone.eq_str_none (bB I q (by simp))
  | bl j=>cases ry;exact PySem.EqMixed.eq_str_bool (bB I q (by simp))
  | int j=>obtain ⟨t',rfl⟩:=ry;exact PySem.EqMixed.eq_str_int (bB I q (by simp))
  | str j=>obtain ⟨t',rfl⟩:=ry;exact eq_str (bB I q yV)
  | _=>exact absurd (show false=true from hs) Oa
 | byt i=>
  obtain ⟨t,rfl⟩:=rx
  cases y with
  | byt j=>obtain ⟨t',rfl⟩:=ry;exact PySem.W.eq_bytes (bB I q yW)
  | _=>exact absurd (show false=true from hs) Oa
 | _=>cases y<;>exact absurd (show false=true from hs) Oa
theorem Jq:gM X (compareOp .NotEq) Ng:=by
 intro pins s σ H x y v u Q I rx ry h
 obtain ⟨hs,q⟩:=h
 cases x with
 | non=>
  cases rx
  cases y with
  | non=>cases ry;exact PySem.EqNone.ne_none_none (bB I q (by simp))
  | bl j=>cases ry;exact PySem.EqNone.ne_none_bool (bB I q (by simp))
  | int j=>obtain ⟨t',rfl⟩:=ry;exact PySem.EqNone.ne_none_int (bB I q (by simp))
  | str j=>obtain ⟨t',rfl⟩:=ry;exact PySem.EqNone.ne_none_str (bB I q (by simp))
  | _=>exact absurd (show false=true from hs) Oa
 | bl i=>
  cases rx
  cases y with
  | non=>cases ry;exact PySem.EqNone.ne_bool_none (bB I q (by simp))
  | bl j=>cases ry;exact ne_bool (bB I q (PH not Bm))
  | str j=>obtain ⟨t',rfl⟩:=ry;exact PySem.EqMixed.ne_bool_str (bB I q (by simp))
  | _=>exact absurd (show false=true from hs) Oa
 | int i=>
  obtain ⟨t,rfl⟩:=rx
  cases y with
  | non=>cases ry;exact PySem.EqNone.ne_int_none (bB I q (by simp))
  | int j=>obtain ⟨t',rfl⟩:=ry;exact ne_int (bB I q (PH not yU))
  | str j=>obtain ⟨t',rfl⟩:=ry;exact PySem.EqMixed.ne_int_str (bB I q (by simp))
  | _=>exact absurd (show false=true from hs) Oa
 | str i=>
  obtain ⟨t,rfl⟩:=rx
  cases y with
  | non=>cases ry;exact PySem.EqNone.ne_str_none (bB I q (by simp))
  | bl j=>cases ry;exact PySem.EqMixed.ne_str_bool (bB I q (by simp))
  | int j=>obtain ⟨t',rfl⟩:=ry;exact PySem.EqMixed.ne_str_int (bB I q (by simp))
  | str j=>obtain ⟨t',rfl⟩:=ry;exact ne_str (bB I q (PH not yV))
  | _=>exact absurd (show false=true from hs) Oa
 | byt i=>
  obtain ⟨t,rfl⟩:=rx
  cases y with
  | byt j=>obtain ⟨t',rfl⟩:=ry;exact PySem.W.ne_bytes (bB I q (PH not yW))
  | _=>exact absurd (show false=true from hs) Oa
 | _=>cases y<;>exact absurd (show false=true from hs) Oa
theorem Jr:gM X (compareOp .LtE) (FX fun i j=>.bl (decide (i<=j))):=G2 fun _ _ _ _ _ _ _ q=>le_int q
theorem Js:gM X (compareOp .Gt) (FX fun i j=>.bl (decide (j < i))):=G2 fun _ _ _ _ _ _ _ q=>gt_int q
theorem Jt:gM X (compareOp .GtE) (FX fun i j=>.bl (decide (j<=i))):=G2 fun _ _ _ _ _ _ _ q=>ge_int q
theorem Ao:gM X (compareOp .In) (fun x y H Q=>∃ i j,x=.str i/\y=.str j/\Q (.bl (!(Builtin.Str.occurrences j i 0 j.length 1).isEmpty)) H):=by
 intro pins s σ H x y v u Q I rx ry h
 obtain ⟨i,j,rfl,rfl,q⟩:=h
 obtain ⟨t,rfl⟩:=rx
 obtain ⟨t',rfl⟩:=ry
 exact in_str (bB I q rfl)
theorem ud:gM X (compareOp .NotIn) (fun x y H Q=>∃ i j,x=.str i/\y=.str j/\Q (.bl (!(!(Builtin.Str.occurrences j i 0 j.length 1).isEmpty))) H):=by
 intro pins s σ H x y v u Q I rx ry h
 obtain ⟨i,j,rfl,rfl,q⟩:=h
 obtain ⟨t,rfl⟩:=rx
 obtain ⟨t',rfl⟩:=ry
 exact notIn_str (bB I q rfl)
theorem gM.or {f:Value->Value->Sem Value} {r r':R2} (h:gM X f r) (h':gM X f r'):gM X f (fun x y H Q=>r x y H Q\/r' x y H Q):=by
 intro pins s σ H x y v u Q I rx ry q
 rcases q with q | q
 ·exact h pins s σ H x y v u Q I rx ry q
 ·exact h' pins s σ H x y v u Q I rx ry q
theorem Lq (b:Expr) {op:CmpOp} (h:op≠.In:=by decide) (h2:op≠.NotIn:=by decide):behindInMarks op b=false:=by
 have e1:(op == CmpOp.In)=false:=by cases op<;>first | rfl | exact absurd rfl h
 have e2:(op == CmpOp.NotIn)=false:=by cases op<;>first | rfl | exact absurd rfl h2
 cases b<;>simp [behindInMarks,e1,e2]
theorem D7 {op:CmpOp} {r:R2} (ho:gM X (compareOp op) r) (ha:PE X a ta) (hb:PE X b tb) (hm:behindInMarks op b=false):PE X (.Compare a [op] [b] pos) (Jk r ta tb):=by
 intro pins s σ H Q I h
 exact wpAny_Compare1 (G1 ha hb I h fun v u s2 x y H2 I2 rx ry q=>ho pins s2 σ H2 x y v u Q I2 rx ry q) hm
def FZ (t:TE):TT:=fun σ H Q=>t σ H fun x H'=>∃ k,x=.bl k/\Q k H'
theorem D8 {op:CmpOp} {r:R2} (ho:gM X (compareOp op) r) (ha:PE X a ta) (hb:PE X b tb) (hm:behindInMarks op b=false):PT X (.Compare a [op] [b] pos) (FZ (Jk r ta tb)):=by
 intro pins s σ H Q I h
 refine wpAny_isTrue_Compare1 (bA (ha pins s σ H _ I h) fun v s1 ⟨x,H1,I1,r1,q1⟩=>bA (hb pins s1 σ H1 _ I1 q1) fun u s2 ⟨y,H2,I2,r2,q2⟩=>
  bA (ho pins s2 σ H2 x y v u _ I2 r1 r2 q2) fun c s3 ⟨z,H3,I3,r3,k,e,q3⟩=>?_) hm
 subst e
 cases r3
 exact O7 ⟨H3,I3,q3⟩
def xH (r r':R2) (ta tb tc:TE):TE:=fun σ H Q=>ta σ H fun x H1=>tb σ H1 fun y H2=>r x y H2 fun z H3=>∃ k,z=.bl k /\
 (if k=true then tc σ H3 fun w' H4=>r' y w' H4 Q else Q (.bl false) H3)
theorem Bn {op op':CmpOp} {r r':R2} (ho:gM X (compareOp op) r) (ho':gM X (compareOp op') r') (ha:PE X a ta) (hb:PE X b tb) (hc:PE X c tc)
  (hm:lastMarks [op,op'] [b,c]=false:=by with_unfolding_all rfl):PE X (.Compare a [op,op'] [b,c] pos) (xH r r' ta tb tc):=by
 intro pins s σ H Q I h
 refine Compare_chain (bA (ha pins s σ H _ I h) fun v s1 ⟨x,H1,I1,r1,q1⟩=>chain_link (bA (hb pins s1 σ H1 _ I1 q1) fun u s2 ⟨y,H2,I2,r2,q2⟩=>
  bA (ho pins s2 σ H2 x y v u _ I2 r1 r2 q2) fun d s3 ⟨z,H3,I3,r3,k,e,q3⟩=>?_)) hm
 subst e
 cases r3
 refine O7 ?_
 cases k with
 | false=>exact ite_ff ⟨.bl false,H3,I3,rfl,q3⟩
 | true=>exact ite_tt (chain_last (bA (hc pins s3 σ H3 _ I3 q3) fun w' s4 ⟨z',H4,I4,r4,q4⟩=>ho' pins s4 σ H4 y z' u w' Q I4 r2 r4 q4))
theorem Bo {op op':CmpOp} {r r':R2} (ho:gM X (compareOp op) r) (ho':gM X (compareOp op') r') (ha:PE X a ta) (hb:PE X b tb) (hc:PE X c tc)
  (hm:lastMarks [op,op'] [b,c]=false:=by with_unfolding_all rfl):PT X (.Compare a [op,op'] [b,c] pos) (FZ (xH r r' ta tb tc)):=by
 intro pins s σ H Q I h
 refine isTrue_chain (bA (ha pins s σ H _ I h) fun v s1 ⟨x,H1,I1,r1,q1⟩=>test_link (bA (hb pins s1 σ H1 _ I1 q1) fun u s2 ⟨y,H2,I2,r2,q2⟩=>
  bA (ho pins s2 σ H2 x y v u _ I2 r1 r2 q2) fun d s3 ⟨z,H3,I3,r3,k,e,q3⟩=>?_)) hm
 subst e
 cases r3
 refine O7 ?_
 cases k with
 | false=>
  obtain ⟨k',e',q'⟩:=q3
  cases e'
  exact ite_ff ⟨H3,I3,q'⟩
 | true=>
  refine ite_tt (test_last (bA (hc pins s3 σ H3 _ I3 q3) fun w' s4 ⟨z',H4,I4,r4,q4⟩=>bA (ho' pins s4 σ H4 y z' u w' _ I4 r2 r4 q4) fun d' s5 ⟨z2,H5,I5,r5,k2,e2,q5⟩=>?_))
  subst e2
  cases r5
  exact O7 ⟨H5,I5,q5⟩
def Ha (K:PySem.W.Frag) (x:V) (H:Hp) (k:Bool):Prop:=
 match x with
 | .non=>k=false
 | .bl b=>k=b
 | .int i=>k=(i != 0)
 | .str y=>y.length<=sizeLine/\k=((y.length:Int) != 0)
 | .byt y=>y.size<=sizeLine/\k=((y.size:Int) != 0)
 | .ref p=>(∃ xs,iu K H p xs/\k=!xs.isEmpty)\/(∃ xs,fU K H p xs/\k=!xs.isEmpty)\/∃ kvs,H p=some (.dK kvs)/\k=!kvs.isEmpty
 | _=>False
theorem xI {κ:Type} {kvs:List (κ×V)} {vs:List (κ×Value)} (r:KV kvs vs):(!vs.isEmpty)=!kvs.isEmpty:=by
 cases r<;>rfl
theorem pM {xs:List V} {its:List Value} (r:Vals xs its):(!its.toArray.isEmpty)=!xs.isEmpty:=by
 cases r<;>simp
theorem pN:(sizeLine:Nat) < 2 ^ 63:=by rw [Pk];decide
theorem xJ:G0 X (fun x H Q=>∃ k,Ha X.K x H k/\Q k H):=by
 intro pins s σ H x v Q I rx h
 obtain ⟨k,e,q⟩:=h
 have hl:=pN
 have hs:sizeLine=16777216:=Pk
 cases x with
 | non=>
  cases rx
  have e':k=false:=e
  subst e'
  exact truthy_none ⟨H,I,q⟩
 | bl b=>
  cases rx
  have e':k=b:=e
  subst e'
  exact O7 ⟨H,I,q⟩
 | int i=>
  obtain ⟨t,rfl⟩:=rx
  have e':k=(i != 0):=e
  subst e'
  exact PySem.P.truthy_int ⟨H,I,q⟩
 | str y=>
  obtain ⟨t,rfl⟩:=rx
  obtain ⟨hy,e'⟩:y.length<=sizeLine/\k=((y.length:Int) != 0):=e
  subst e'
  exact PySem.P.truthy_str (by omega) ⟨H,I.tok _,q⟩
 | byt y=>
  obtain ⟨t,rfl⟩:=rx
  obtain ⟨hy,e'⟩:y.size<=sizeLine/\k=((y.size:Int) != 0):=e
  subst e'
  exact PySem.W.truthy_bytes (by omega) ⟨H,I.tok _,q⟩
 | ref p=>
  cases rx
  have e':(∃ xs,iu X.K H p xs/\k=!xs.isEmpty)\/(∃ xs,fU X.K H p xs/\k=!xs.isEmpty)\/∃ kvs,H p=some (.dK kvs)/\k=!kvs.isEmpty:=e
  rcases e' with ⟨xs,hx,e'⟩ | ⟨xs,hx,e'⟩ | ⟨kvs,hx,e'⟩
  ·subst e'
   obtain ⟨its,r,pl,hz⟩:=I.list hx
   have hlen:=r.length
   exact wpAny_truthy_list pl.isList (by simp only [NQ];omega) ⟨H,I.tok _,by rw [pM r];exact q⟩
  ·subst e'
   obtain ⟨its,r,pl,hz⟩:=I.tuple hx
   have hlen:=r.length
   exact truthy_tuple pl (by simp only [NQ];omega) ⟨H,I.tok _,by rw [pM r];exact q⟩
  ·subst e'
   obtain ⟨hz,hS,vs,r,m⟩:kvs.length<=sizeLine/\(p == sysModules)=false/\∃ vs,KV kvs vs/\s.heap.DictOf (bS X.prog X.w) p vs:=I.hok p _ hx
   have hlen:kvs.length=vs.length:=Oc r
   exact wpAny_truthy_dict hS m (by omega) ⟨H,I.tok _,by rw [xI r];exact q⟩
 | _=>exact (show False from e).elim
theorem Bp (ha:PE X a ta) (he:∀ whole,isTrue a X.env whole=(do let v <- whole;standAt a.pos;holding [v] (truthy v))) :
  PT X a (fun σ H Q=>ta σ H fun x H'=>∃ k,Ha X.K x H' k/\Q k H'):=by
 intro pins s σ H Q I h
 exact isTrue_plain (bA (ha pins s σ H _ I h) fun v s1 ⟨x,H1,I1,r1,q1⟩=>xJ pins s1 σ H1 x v Q I1 r1 q1) (he _)
theorem xK:gM X (binaryOp .Add) (fun x y H Q=>∃ i j,x=.str i/\y=.str j/\i.length+j.length<=sizeLine/\Q (.str (i++j)) H):=by
 intro pins s σ H x y v u Q I rx ry h
 obtain ⟨i,j,rfl,rfl,hz,q⟩:=h
 obtain ⟨t,rfl⟩:=rx
 obtain ⟨t',rfl⟩:=ry
 exact add_str (fun t' tk=>⟨.str (i++j),H,I.tok _,⟨_,rfl⟩,q⟩) hz
theorem vals1 {x:V} {us:List Value} (r:Vals [x] us):∃ u,us=[u]/\RelV x u:=by
 cases r with
 | cons r1 r2=>cases r2;exact ⟨_,rfl,r1⟩
theorem vals2 {x y:V} {us:List Value} (r:Vals [x,y] us):∃ u w',us=[u,w']/\RelV x u/\RelV y w':=by
 cases r with
 | cons r1 r2=>
  cases r2 with
  | cons r3 r4=>cases r4;exact ⟨_,_,rfl,r1,r3⟩
theorem Ap (hc:X.calm=true):dD X (.builtin "max") (fun xs H Q=>∃ i j,xs=[.int i,.int j]/\Q (.int (if j > i then j else i)) H):=by
 intro pins s σ H xs us Q I r h
 obtain ⟨i,j,rfl,q⟩:=h
 obtain ⟨u,w',rfl,⟨t,rfl⟩,⟨t',rfl⟩⟩:=vals2 r
 refine max_two_ints (I.ok.hd hc) fun h' tk k=>⟨_,H,I.kept k,?_,q⟩
 by_cases hj:j > i
 ·rw [if_pos hj,if_pos hj];exact ⟨_,rfl⟩
 ·rw [if_neg hj,if_neg hj];exact ⟨_,rfl⟩
theorem Aq:dD X (.type "int") (fun xs H Q=>(∃ i,xs=[.int i]/\Q (.int i) H)\/∃ k,xs=[.bl k]/\Q (.int (if k then 1 else 0)) H):=by
 intro pins s σ H xs us Q I r h
 rcases h with ⟨i,rfl,q⟩ | ⟨k,rfl,q⟩
 ·obtain ⟨u,rfl,t,rfl⟩:=vals1 r
  exact call_int_int ⟨.int i,H,I,⟨_,rfl⟩,q⟩
 ·obtain ⟨u,rfl,r1⟩:=vals1 r
  cases r1
  exact call_int_bool ⟨.int (if k then 1 else 0),H,I.tok _,⟨_,rfl⟩,q⟩
def Lr (K:PySem.W.Frag) (x:V) (H:Hp) (n:Nat):Prop:=
 match x with
 | .str y=>y.length<=sizeLine/\n=y.length
 | .byt y=>y.size<=sizeLine/\n=y.size
 | .ref p=>(∃ xs,iu K H p xs/\n=xs.length)\/∃ xs,fU K H p xs/\n=xs.length
 | _=>False
theorem Bq:dD X (.builtin "len") (fun xs H Q=>∃ x n,xs=[x]/\Lr X.K x H n/\Q (.int n) H):=by
 intro pins s σ H xs us Q I r h
 obtain ⟨x,n,rfl,e,q⟩:=h
 obtain ⟨u,rfl,rx⟩:=vals1 r
 have hl:=pN
 have hs:sizeLine=16777216:=Pk
 cases x with
 | str y=>
  obtain ⟨t,rfl⟩:=rx
  obtain ⟨hy,e'⟩:y.length<=sizeLine/\n=y.length:=e
  subst e'
  exact len_str (by omega) ⟨.int _,H,I.tok _,⟨_,rfl⟩,q⟩
 | byt y=>
  obtain ⟨t,rfl⟩:=rx
  obtain ⟨hy,e'⟩:y.size<=sizeLine/\n=y.size:=e
  subst e'
  exact PySem.W.len_bytes (by omega) ⟨.int _,H,I.tok _,⟨_,rfl⟩,q⟩
 | ref p=>
  cases rx
  have e':(∃ xs,iu X.K H p xs/\n=xs.length)\/∃ xs,fU X.K H p xs/\n=xs.length:=e
  rcases e' with ⟨xs,hx,e'⟩ | ⟨xs,hx,e'⟩
  ·subst e'
   obtain ⟨its,r',pl,hz⟩:=I.list hx
   have hlen:=r'.length
   exact Calls.call_len_list pl.isList (by simp only [NQ];omega) ⟨.int xs.length,H,I.tok _,⟨_,by simp only [NQ];rw [hlen]⟩,q⟩
  ·subst e'
   obtain ⟨its,r',pl,hz⟩:=I.tuple hx
   have hlen:=r'.length
   exact len_tuple pl (by simp only [NQ];omega) ⟨.int xs.length,H,I.tok _,⟨_,by simp only [NQ];rw [hlen]⟩,q⟩
 | _=>exact (show False from e).elim
theorem vH:dD X (.builtin "divmod") (fun xs H Q=>∃ i j,xs=[.int i,.int j]/\Jn i j/\∀ p,H p=none->Q (.ref p) (upd H p (.tup [.int (i / j),.int (i % j)]))):=by
 intro pins s σ H xs us Q I r h
 obtain ⟨i,j,rfl,⟨h1,h2⟩,q⟩:=h
 obtain ⟨u,w',rfl,⟨t,rfl⟩,⟨t',rfl⟩⟩:=vals2 r
 refine divmod_int (by omega) ?_ (.inl (PyProof.noPylong_small (by omega)))
 rw [Int.fdiv_eq_ediv_of_nonneg i (by omega),Int.fmod_eq_emod_of_nonneg i (by omega)]
 have hn:H s.heap.objs.size=none:=I.hok.fresh (NI _)
 refine ⟨.ref s.heap.objs.size,_,?_,rfl,q _ hn⟩
 refine I.laid (fun b o e=>NF _ e) (NI _) ⟨by simp only [N3,OB];rw [Pk];decide,[.int (i / j) s.toks,.int (i % j) (s.toks+1)],.cons ⟨_,rfl⟩ (.cons ⟨_,rfl⟩ .nil),?_⟩
 exact ⟨_,NL s.heap rfl,rfl,0,rfl⟩
end
structure Hb (h:Heap) (x dx C:Addr) (mA:Str->Option Value):Prop where
 obj:h.get? x=some (PySem.W.instObj C dx)
 ns:h.Ns1 dx mA
 ne:dx≠x
theorem Ar {h:Heap} {dx:Addr} {mA:Str->Option Value} (n:h.Ns1 dx mA):∃ od,h.get? dx=some od/\∀ name,PySem.W.lookIn name od=some (mA name):=by
 obtain ⟨o,es,ep,ho,hd,hk,_,hm⟩:=n
 refine ⟨o,ho,fun name=>?_⟩
 have e:=hm name
 unfold nsFind findBy at e
 rw [<- Array.find?_toList] at e
 unfold PySem.W.lookIn
 rw [hd]
 dsimp only
 split
 ·rename_i y q
  rw [q] at e
  exact PH some e
 ·rename_i q
  rw [q] at e
  have a:es.toList.any (·.refKey)=false:=by
   rw [List.any_eq_false]
   intro y hy
   obtain ⟨z,t,hkey⟩:=hk y (PX.mp hy)
   simp [DictEntry.refKey,hkey]
  have a':¬ es.toList.any (·.refKey)=true:=by rw [a];exact Oa
  rw [if_neg a']
  exact PH some e
theorem Hb.look {h:Heap} {x dx C:Addr} {mA:Str->Option Value} (I:Hb h x dx C mA):∃ od,PySem.W.InstAt h x (PySem.W.instObj C dx) C (some od)/\∀ name,PySem.W.lookIn name od=some (mA name):=
 let ⟨od,ho,hl⟩:=Ar I.ns
 ⟨od,⟨I.obj,rfl,rfl,ho⟩,hl⟩
theorem pI.some_of {v:V} {o:Option Value} (r:pI (some v) o):∃ u,o=some u/\RelV v u:=by
 cases o with
 | none=>exact (show False from r).elim
 | some u=>exact ⟨u,rfl,r⟩
section
variable {P:Program} {w:World} {H H':Hp} {h h':Heap} {a C dx:Addr} {fs fs':List (Str×V)}
theorem D9 (hok:jx P w H h) (e:H a=some (.ins C dx fs)):∃ mA,Hb h a dx C mA/\(∀ f,pI (fs.lookup f) (mA f))/\PySem.Within mA (fs.map (·.1))/\fs.length<=1000/\H dx=some (.own a):=by
 obtain ⟨d,z,ne,ob,mA,n,r,q⟩:=(show cu P w H h a (.ins C dx fs) from hok a _ e)
 exact ⟨mA,⟨ob,n,ne⟩,r,q,z,d⟩
end
structure Ls (K:PySem.W.Frag) (C:Addr):Prop where
 pg:PySem.W.plainGet K C Str.empty=true
 hd:PySem.W.hasDictIn K C=true
 po:PySem.W.plainOver K C=true
 sa:PySem.W.findIn K (.ref C) "__setattr__" = some (some (.builtin "object.__setattr__"))
theorem Ls.get {K:PySem.W.Frag} {C:Addr} (c:Ls K C) (f:Str):PySem.W.plainGet K C f=true:=c.pg
section
variable {X:Cx} {pins:List (Addr×Obj)} {σ:St} {H:Hp} {s:Shared} {A:Around} {E:Value->Shared->Prop} {Q:Value->Shared->Prop} {c:Value} {b:Bool}
inductive lZ (K:PySem.W.Frag) (H:Hp):V->Value->Prop where
 | non:lZ K H .non (.type "NoneType")
 | bl (x:Bool):lZ K H (.bl x) (.type "bool")
 | int (i:Int):lZ K H (.int i) (.type "int")
 | str (x:Str):lZ K H (.str x) (.type "str")
 | flt (x:UInt64):lZ K H (.flt x) (.type "float")
 | lst {a:Addr} {xs:List V} (e:H a=some (.lst xs)):lZ K H (.ref a) (.type "list")
 | frz {a:Addr} {o:Obj} {xs:List V} (e:H a=some (.frz o (.lst xs))):lZ K H (.ref a) (.type "list")
 | tup {a:Addr} {xs:List V} (e:H a=some (.tup xs)):lZ K H (.ref a) (.type "tuple")
 | dK {a:Addr} {kvs:List (Key×V)} (e:H a=some (.dK kvs)):lZ K H (.ref a) (.type "dict")
 | dT {a:Addr} {kvs:List (List Key×V)} (e:H a=some (.dT kvs)):lZ K H (.ref a) (.type "dict")
 | ins {a C dx:Addr} {fs:List (Str×V)} (e:H a=some (.ins C dx fs)) (cl:Ls K C) (ha:PySem.W.findIn K (.ref C) "__class__" = some (some (.builtin "object.__class__")))
   (hn:PySem.W.specialIn K (.builtin "object.__class__") "__get__" = some (some (.builtin "getset_descriptor.__get__"))) (htk:PySem.W.takesIn K (.builtin "object.__class__")=some true)
   (hm:PySem.W.mroIn K C (.type "object")=some true):lZ K H (.ref a) (.ref C)
theorem As {x:V} {u t:Value} (I:Inv X pins σ H s) (rx:RelV x u) (ty:lZ X.K H x t) (e:PySem.W.kitOne X.K t c=some b) (h:∀ tk,Q (.bool b) {s with toks:=tk}) :
  wpAny (model X.prog X.w) A (call (.builtin "isinstance") [u,c]) Q E s:=by
 cases ty with
 | non=>cases (show u=Value.none from rx);exact OR PySem.W.kitx_none I.rH True.intro e (fun z=>nomatch z) h
 | bl y=>cases (show u=Value.bool y from rx);exact OR PySem.W.kitx_bool I.rH True.intro e (fun z=>nomatch z) h
 | int i=>obtain ⟨t,q⟩:=(show ∃ t,u=Value.int i t from rx);cases q;exact OR PySem.W.kitx_int I.rH True.intro e (fun z=>nomatch z) h
 | str y=>obtain ⟨t,q⟩:=(show ∃ t,u=Value.str y t from rx);cases q;exact OR PySem.W.kitx_str I.rH True.intro e (fun z=>nomatch z) h
 | flt y=>obtain ⟨t,q⟩:=(show ∃ t,u=Value.float y t from rx);cases q;exact OR PySem.W.kitx_float I.rH True.intro e (fun z=>nomatch z) h
 | @lst a xs ea=>
  cases (show u=Value.ref a from rx)
  obtain ⟨_,_,n,_,h1⟩:=(show cu X.prog X.w H s.heap a (.lst xs) from I.hok a _ ea)
  exact OR PySem.W.kitx_list I.rH ⟨_,h1,rfl⟩ e (fun z=>nomatch z) h
 | @frz a ob xs ea=>
  cases (show u=Value.ref a from rx)
  obtain ⟨_,_,_,n,_,h1⟩:=(show cu X.prog X.w H s.heap a (.frz ob (.lst xs)) from I.hok a _ ea)
  exact OR PySem.W.kitx_list I.rH ⟨_,h1,rfl⟩ e (fun z=>nomatch z) h
 | @tup a xs ea=>
  cases (show u=Value.ref a from rx)
  obtain ⟨_,_,_,p⟩:=(show cu X.prog X.w H s.heap a (.tup xs) from I.hok a _ ea)
  obtain ⟨o,h1,h2,_⟩:=p
  exact OR PySem.W.kitx_tuple I.rH ⟨o,h1,h2⟩ e (fun z=>nomatch z) h
 | @dK a kvs ea=>
  cases (show u=Value.ref a from rx)
  obtain ⟨_,_,vs,_,p⟩:=(show cu X.prog X.w H s.heap a (.dK kvs) from I.hok a _ ea)
  obtain ⟨o,es,ep,h1,h2,_⟩:=p
  exact OR PySem.W.kitx_dict I.rH ⟨o,h1,h2.1⟩ e (fun z=>nomatch z) h
 | @dT a kvs ea=>
  cases (show u=Value.ref a from rx)
  obtain ⟨_,_,xs,_,o,es,ep,h1,h2,_⟩:=(show cu X.prog X.w H s.heap a (.dT kvs) from I.hok a _ ea)
  exact OR PySem.W.kitx_dict I.rH ⟨o,h1,h2.1⟩ e (fun z=>nomatch z) h
 | @ins a C dx fs ea cl ha hn htk hm=>
  cases (show u=Value.ref a from rx)
  obtain ⟨mA,O,_⟩:=D9 I.hok ea
  obtain ⟨od,J,_⟩:=O.look
  exact OR (PySem.W.kitx_own (cl.get _) cl.hd ha hn htk hm) I.rH J e (fun z=>nomatch z) h
end
structure cz (k:Nat) (A:Around):Prop where
 hd:A.handled=none
 dp:A.depth+3 * k+5 < recursionLimit
 un:A.units+16 * k+200 < cLine
 gd:A.guards=some []
theorem cz.mono {j k:Nat} {A:Around} (r:cz k A) (h:j<=k):cz j A:=⟨r.hd,by have:=r.dp;omega,by have:=r.un;omega,r.gd⟩
theorem cz.deeper {k:Nat} {A:Around} (r:cz (k+1) A) (env:Env):cz k (A.deeper env):=
 ⟨r.hd,by have:=r.dp;show A.depth+1+3 * k+5 < _;omega,by have:=r.un;show A.units+3+16 * k+200 < _;omega,r.gd⟩
theorem cz.depth {k:Nat} {A:Around} (r:cz k A):A.depth < recursionLimit:=by have:=r.dp;omega
theorem cz.units {k:Nat} {A:Around} (r:cz k A):A.units+64 < cLine:=by have:=r.un;omega
def Hc:TA:=fun _ H Q=>Q [] H
def F0 (ta:TE) (tr:TA):TA:=fun σ H Q=>ta σ H fun x H1=>tr σ H1 fun xs H2=>Q (x::xs) H2
section
variable {X:Cx} {e:Expr} {es:List Expr} {te:TE} {t:TA} {pos:Pos}
theorem pO:PA X [] Hc:=fun _ _ _ _ H Q I h=>Calls.spliced_nil ⟨[],H,I,.nil,h⟩
theorem ka (ha:PE X e te) (hr:PA X es t) (hs:starEach (e::es) X.env=(false,eval e X.env)::starEach es X.env:=by rfl):PA X (e::es) (F0 te t):=by
 intro pos pins s σ H Q I h
 rw [hs]
 show wpAny _ _ (spliced ((false,eval e X.env)::backTo pos (starEach es X.env))) _ _ s
 refine Calls.spliced_cons (bA (ha pins s σ H _ I h) fun u s1 ⟨x,H1,I1,r1,q1⟩=>?_)
 exact bA (hr pos pins s1 σ H1 _ I1 q1) fun us s2 ⟨xs,H2,I2,r2,q2⟩=>⟨x::xs,H2,I2,.cons r1 r2,q2⟩
def Lu (t:TA):TE:=fun σ H Q=>t σ H fun xs H1=>xs.length<=sizeLine/\∀ p,H1 p=none->Q (.ref p) (upd H1 p (.tup xs))
def Lv (t:TA):TE:=fun σ H Q=>t σ H fun xs H1=>xs.length<=sizeLine/\∀ p,H1 p=none->Q (.ref p) (upd H1 p (.lst xs))
theorem Br {x1} (h:PA X es t):PE X (.Tuple es x1 pos) (Lu t):=by
 intro pins s σ H Q I hq
 refine wpAny_Tuple_spliced (bA (h pos pins s σ H _ I hq) fun us s1 ⟨xs,H1,I1,r,z,q⟩=>⟨by rw [<- r.length];exact z,?_⟩)
 have hf:H1 s1.heap.objs.size=none:=I1.hok.fresh (NI _)
 refine ⟨.ref s1.heap.objs.size,upd H1 s1.heap.objs.size (.tup xs),I1.laid (t':=s1.toks) (fun b u e=>NF _ e) (NI _) ?_,rfl,q _ hf⟩
 exact ⟨z,us,r,⟨_,NL _ rfl,rfl,_,rfl⟩⟩
theorem xM (h:PA X es t):PE X (.List es pos) (Lv t):=by
 intro pins s σ H Q I hq
 refine wpAny_List_spliced (bA (h pos pins s σ H _ I hq) fun us s1 ⟨xs,H1,I1,r,z,q⟩=>⟨by rw [<- r.length];exact z,?_⟩)
 have hf:H1 s1.heap.objs.size=none:=I1.hok.fresh (NI _)
 refine ⟨.ref s1.heap.objs.size,upd H1 s1.heap.objs.size (.lst xs),I1.laid (t':=s1.toks) (fun b u e=>NF _ e) (NI _) ?_,rfl,q _ hf⟩
 exact ⟨z,us,0,r,NL _ rfl⟩
end
abbrev Sp:=List V->Hp->VK->XK->Prop
abbrev Bd:=List Env->Hp->Shared->XK->Value->Shared->Prop
structure Ea (P:Program) (w:World) (K:PySem.W.Frag) (mg:Str->Option Value) (base:Heap) (A:Around) (outer:List Env) (s:Shared) (H:Hp):Prop where
 frames:A.frames=some outer
 mod:Mod K mg base
 bs:∀ b o,base.get? b=some o->s.heap.get? b=some o/\H b=none
 bsz:base.objs.size<=s.heap.objs.size
 ny:s.heap.FunFrames base outer
 frf:∀ b∈rG outer,H b=none
 hok:jx P w H s.heap
 bare:AllBare s.gens
def CE (outer:List Env) (P:Program) (w:World) (H:Hp) (s:Shared) (Q:VK) (u:Value) (s':Shared):Prop:=
 ∃ v H',s'.os=s.os/\AllBare s'.gens/\Un (rG outer) [] H H' s.heap s'.heap/\jx P w H' s'.heap/\RelV v u/\Q v H'
def CR (CX:Bd) (outer:List Env) (P:Program) (w:World) (H:Hp) (s:Shared) (Q:VK) (E:XK) (r:Result) (s':Shared):Prop:=
 match r with
 | .ok (.ret u)=>CE outer P w H s Q u s'
 | .ok _=>False
 | .error e=>CX outer H s E e s'
structure iy (P:Program) (w:World) (K:PySem.W.Frag) (mg:Str->Option Value) (base:Heap) (CX:Bd) (k:Nat) (f:Addr) (fd:FuncData) (ps:List Str) (sp:Sp):Prop where
 len:∀ vs H Q E,sp vs H Q E->vs.length=ps.length
 run:∀ (A:Around) (outer:List Env) (s:Shared) (H:Hp) (args:Args) (us:List Value) (vs:List V) (Q:VK) (E:XK),cz k A->Ea P w K mg base A outer s H->BindsTo s fd args (ps.zip us)->Vals vs us->sp vs H Q E ->
  codeAny (model P w) A (.call (.ref f) args) (CR CX outer P w H s Q E) s
theorem iy.mono {P:Program} {w:World} {K:PySem.W.Frag} {mg:Str->Option Value} {base:Heap} {CX:Bd} {j k:Nat} {f:Addr} {fd:FuncData} {ps:List Str} {sp:Sp} (F:iy P w K mg base CX j f fd ps sp) (h:j<=k) :
  iy P w K mg base CX k f fd ps sp:=⟨F.len,fun A outer s H args us vs Q E hr=>F.run A outer s H args us vs Q E (hr.mono h)⟩
theorem iy.imp {P:Program} {w:World} {K:PySem.W.Frag} {mg:Str->Option Value} {base:Heap} {CX:Bd} {k:Nat} {f:Addr} {fd:FuncData} {ps:List Str} {sp sp':Sp} (F:iy P w K mg base CX k f fd ps sp)
  (h:∀ vs H Q E,sp' vs H Q E->sp vs H Q E):iy P w K mg base CX k f fd ps sp':=
 ⟨fun vs H Q E q=>F.len vs H Q E (h _ _ _ _ q),fun A outer s H args us vs Q E hr he hb hv hs=>F.run A outer s H args us vs Q E hr he hb hv (h _ _ _ _ hs)⟩
section
variable {X:Cx} {pins:List (Addr×Obj)} {σ:St} {H:Hp} {s s':Shared}
theorem Inv.Lw (I:Inv X pins σ H s):Ea X.prog X.w X.K X.mg X.base X.A X.stack s H:=
 ⟨I.ok.frames,I.ok.mod,I.bs,NS I.ok.bsz I.sz,I.stack,I.yS,I.hok,I.bare⟩
theorem Inv.after {Q:VK} {u:Value} (I:Inv X pins σ H s) (h:CE X.stack X.prog X.w H s Q u s'):EP X pins σ Q u s':=by
 obtain ⟨v,H',os,bare,un,hok,r,q⟩:=h
 obtain ⟨hh,g,d,t,os'⟩:=s'
 obtain rfl:os'=s.os:=os
 exact ⟨v,H',I.call (h':=hh) (g':=g) (d':=d) (t':=t) (ch:=[]) un hok bare (fun b z=>absurd z (by simp)),r,q⟩
end
def Bs (sp:Sp) (dvs:List V) (E:XK) (t:TA):TE:=fun σ H Q=>t σ H fun vs H1=>sp (vs++dvs) H1 Q E
def Binds (K:PySem.W.Frag) (fd:FuncData) (ps:List Str) (ds:List Value):Prop:=
 ∀ (s:Shared) (us:List Value),K.In s.heap->(us++ds).length=ps.length->BindsTo s fd ⟨us,[]⟩ (ps.zip (us++ds))
theorem Binds.all {K:PySem.W.Frag} {fd:FuncData} {ps:List Str} (h:∀ us:List Value,us.length=ps.length->bindArgs fd ⟨us,[]⟩=pure (ps.zip us)):Binds K fd ps []:=fun s us _ hl=>by
 rw [RB] at hl ⊢
 exact .of_eq (h us hl)
def Passes (CX:Bd) (X:Cx) (E:XK):Prop:=∀ (pins:List (Addr×Obj)) (σ:St) (H:Hp) (s:Shared) (e:Value) (s':Shared),Inv X pins σ H s->CX X.stack H s E e s'->X.xe e s'
section
variable {X:Cx} {CX:Bd} {k:Nat} {f C:Addr} {fd:FuncData} {ps:List Str} {sp:Sp} {dvs:List V} {ds:List Value} {E:XK} {x m:Str} {p pos apos:Pos} {e o:Expr} {es:List Expr} {ta:TE} {t:TA}
theorem xN {pins:List (Addr×Obj)} {σ:St} {H:Hp} {s:Shared} {Q:VK} {us:List Value} {vs:List V} (F:iy X.prog X.w X.K X.mg X.base CX k f fd ps sp) (hr:cz k X.A) (hb:Binds X.K fd ps ds) (hd:Vals dvs ds) (hx:Passes CX X E)
  (I:Inv X pins σ H s) (r:Vals vs us) (h:sp (vs++dvs) H Q E):wpAny (model X.prog X.w) X.A (call (.ref f) us) (EP X pins σ Q) X.xe s:=by
 have r2:Vals (vs++dvs) (us++ds):=r.append hd
 have hl:(us++ds).length=ps.length:=by rw [<- r2.length];exact F.len _ _ _ _ h
 refine wpAny_call (Ra (F.run X.A X.stack s H ⟨us,[]⟩ (us++ds) (vs++dvs) Q E hr I.Lw (hb s us I.rH hl) r2 h) fun r s' hq=>?_)
 cases r with
 | error e=>exact hx pins σ H s e s' I hq
 | ok fl=>
  cases fl with
  | ret u=>exact I.after hq
  | next=>exact False.elim hq
  | brk=>exact False.elim hq
  | cont=>exact False.elim hq
theorem Eb (F:iy X.prog X.w X.K X.mg X.base CX k f fd ps sp) (hr:cz k X.A) (hg:Gl X x) (hm:X.mg x=some (.ref f)) (hk:PySem.W.keepIn X.K (.ref f)=true) (hb:Binds X.K fd ps ds) (hd:Vals dvs ds) (hx:Passes CX X E)
  (ha:PA X (e::es) t) (hdb:(x == ("__debug__" : Str))=false:=by decide) (he:starEach (e::es) X.env=(false,eval e X.env)::starEach es X.env:=by rfl) (hpl:(backTo pos (starEach es X.env)).any (·.1)=false:=by rfl) :
  PE X (.Call (.Name x p) (e::es) [] pos) (Bs sp dvs E t):=by
 intro pins s σ H Q I h
 refine ON (ub I hg hm ?_ hdb)
 refine PySem.W.callWith_K (h₀:=X.base) I.ok.mod.kin hk (bA (ha pos pins s σ H _ I h) fun us s1 ⟨vs,H1,I1,r,q⟩=>⟨I1.rH,?_⟩) he hpl
 exact xN F hr hb hd hx I1 r q
theorem Bt (F:iy X.prog X.w X.K X.mg X.base CX k f fd ps sp) (hr:cz k X.A) (hg:Gl X x) (hm:X.mg x=some (.ref f)) (hk:PySem.W.keepIn X.K (.ref f)=true) (hb:Binds X.K fd ps ds) (hd:Vals dvs ds) (hx:Passes CX X E)
  (hdb:(x == ("__debug__" : Str))=false:=by decide):PE X (.Call (.Name x p) [] [] pos) (Bs sp dvs E Hc):=by
 intro pins s σ H Q I h
 refine ON (ub I hg hm ?_ hdb)
 exact PySem.W.callWith_K0 I.rH hk (xN (us:=[]) F hr hb hd hx I .nil h)
end
structure aU (N P:List Str) (sc:Scope):Prop where
 kind:sc.kind=.function
 co:sc.isCoroutine=false
 gen:sc.isGenerator=false
 nd:N.Nodup
 pre:N.take P.length=P
 par:∀ x∈P,sc.names.lookup x=some .local\/sc.names.lookup x=some .cell
 nofree:∀ y∈sc.names,y.2≠.free
theorem sF {kindOf:Str->Option NameKind} {x:Str}:∀ {binds:List (Str×Value)} {m:Str->Option Value},(∀ v,(x,v)∉binds)->bindL kindOf binds m x=m x
 | [],_,_=>rfl
 | (n,v)::r,m,h=>by
  unfold bindL
  rw [sF fun w hw=>h w (NO _ hw)]
  split
  ·have:x≠n:=by rintro rfl;exact h v NU
   simp [this]
  ·rfl
theorem sG {kindOf:Str->Option NameKind} {x:Str}:∀ {binds:List (Str×Value)} {m:Str->Option Value},(∀ v,(x,v)∉binds)->bindC kindOf binds m x=m x
 | [],_,_=>rfl
 | (n,v)::r,m,h=>by
  unfold bindC
  rw [sG fun w hw=>h w (NO _ hw)]
  split
  ·rfl
  ·have:x≠n:=by rintro rfl;exact h v NU
   simp [this]
theorem sH {kindOf:Str->Option NameKind} {x:Str} {v:Value}:∀ {P:List Str} {vs:List Value} {i:Nat} {m:Str->Option Value},P.Nodup->P[i]?=some x->vs[i]?=some v->kindOf x=some .local ->
  bindL kindOf (P.zip vs) m x=some v
 | [],_,_,_,_,h,_,_=>by simp at h
 | _::_,[],_,_,_,_,h,_=>by simp at h
 | p::P,w::vs,0,m,nd,h1,h2,hk=>by
  simp at h1 h2;subst h1;subst h2
  show bindL kindOf ((p,w)::P.zip vs) m p=_
  unfold bindL
  rw [sF fun v hv=>(Pe.mp nd).1 (RC hv).1,if_pos hk]
  simp
 | p::P,w::vs,i+1,m,nd,h1,h2,hk=>by
  show bindL kindOf ((p,w)::P.zip vs) m x=_
  unfold bindL
  exact sH (i:=i) (Pe.mp nd).2 (by simpa using h1) (by simpa using h2) hk
theorem sI {kindOf:Str->Option NameKind} {x:Str} {v:Value}:∀ {P:List Str} {vs:List Value} {i:Nat} {m:Str->Option Value},P.Nodup->P[i]?=some x->vs[i]?=some v->kindOf x≠some .local ->
  bindC kindOf (P.zip vs) m x=some v
 | [],_,_,_,_,h,_,_=>by simp at h
 | _::_,[],_,_,_,_,h,_=>by simp at h
 | p::P,w::vs,0,m,nd,h1,h2,hk=>by
  simp at h1 h2;subst h1;subst h2
  show bindC kindOf ((p,w)::P.zip vs) m p=_
  unfold bindC
  rw [sG fun v hv=>(Pe.mp nd).1 (RC hv).1,if_neg hk]
  simp
 | p::P,w::vs,i+1,m,nd,h1,h2,hk=>by
  show bindC kindOf ((p,w)::P.zip vs) m x=_
  unfold bindC
  exact sI (i:=i) (Pe.mp nd).2 (by simpa using h1) (by simpa using h2) hk
def start (N:List Str) (vs:List V):St:=vs.map some++List.replicate (N.length - vs.length) none
def rL (CX:Bd) (P:Program) (w:World) (K:PySem.W.Frag) (mg:Str->Option Value) (base:Heap) (N:List Str) (qual:Str) (scope:Scope) (f:Addr) (cd:Value) (A:Around) (outer:List Env) (s:Shared) (H:Hp) (E:XK):Cx where
 prog:=P
 w:=w
 K:=K
 mg:=mg
 base:=base
 A:=A.deeper (envOfC qual scope s.heap.objs.size f cd)
 N:=N
 s₀:=s
 H₀:=H
 env:=envOfC qual scope s.heap.objs.size f cd
 outer:=outer
 stack:=envOfC qual scope s.heap.objs.size f cd::outer
 ex:=[]
 calm:=true
 fn:=fun _=>true
 pn:=[]
 xe:=fun e s'=>wpAny (model P w) (A.deeper (envOfC qual scope s.heap.objs.size f cd)) (leaving (envOfC qual scope s.heap.objs.size f cd) e) (fun _ s''=>CX outer H s E e s'') (fun e' s''=>CX outer H s E e' s'') s'
theorem vI {sc:Scope} {n:Nat} {x:Str} (h:sc.names.lookup x=some .cell):∃ c,(cellsFrom n sc.names []).lookup x=some c:=by
 have q:=QY sc.names n [] (.inl h)
 exact Option.isSome_iff_exists.mp q
theorem Au {CX:Bd} {P:Program} {w:World} {K:PySem.W.Frag} {mg:Str->Option Value} {base:Heap} {N ps:List Str} {qual:Str} {scope:Scope} {f:Addr} {cd:Value} {A:Around} {outer:List Env} {s s1:Shared} {H:Hp} {E:XK} {us:List Value} {vs:List V}
  (S:aU N ps scope) (hd:A.handled=none) (e0:Ea P w K mg base A outer s H) (hl:vs.length=ps.length) (r:Vals vs us)
  (x:InCallC s s.heap.objs.size (bindL (envOfC qual scope s.heap.objs.size f cd).kindOf (ps.zip us) fun _=>none) (cellsFrom (s.heap.objs.size+1) scope.names []) (bindC (envOfC qual scope s.heap.objs.size f cd).kindOf (ps.zip us) fun _=>none) s1) :
  Inv (rL CX P w K mg base N qual scope f cd A outer s H E) [] (start N vs) H s1:=by
 have hpl:ps.length<=N.length:=by have:=PH List.length S.pre;rw [QG] at this;omega
 obtain ⟨h1,tk,rfl,hk⟩:=x.done
 have noA:∀ b:Addr,b∉(rL CX P w K mg base N qual scope f cd A outer s H E).ex:=fun b z=>absurd (show b∈([]:List Addr) from z) (by simp)
 refine ⟨⟨e0.mod,S.kind,rfl,rfl,NI _,fun y z c h1 h2=>?_,fun y hy=>?_,fun y c _ h=>?_,fun _=>hd,Around.frames_deeper e0.frames,.inr ⟨rfl,rfl⟩,fun b z=>absurd z (noA b),e0.bs,e0.bsz,fun b _ _=>noA b,fun b z=>absurd z (noA b),e0.ny,e0.frf⟩,
  rfl,e0.bare,Un.kept hk,⟨_,x.toInCall.ns,fun i y v h1 h2 h3=>?_⟩,fun y c h=>⟨_,x.cell y c h⟩,e0.hok.fresh (NI _),fun y c h=>?_,fun p hp=>absurd (show p∈([]:List (Addr×Obj)) from hp) (by simp),e0.hok.kept hk,?_⟩
 ·exact name_of_addr x.apart (OT h1) (OT h2)
 ·have hy:scope.names.lookup y=some .cell\/scope.names.lookup y=some .free:=hy
  rcases hy with hy | hy
  ·exact vI hy
  ·exact absurd rfl (S.nofree _ (OT hy))
 ·exact Q9 (x.above y c (OT h))
 ·have hi:i < vs.length:=by
   unfold start at h2
   by_cases hi:i < vs.length
   ·exact hi
   ·rw [Oo (by simpa using hi)] at h2
    rw [Qc] at h2
    split at h2<;>cases h2
  have ha:vs[i]?=some v:=by
   unfold start at h2
   rw [Oh (by simpa using hi),OM] at h2
   cases e:vs[i]? with
   | none=>rw [e] at h2;cases h2
   | some a=>rw [e] at h2;cases h2;rfl
  obtain ⟨u,hu,rv⟩:=r.get ha
  have hp:ps[i]?=some y:=by
   rw [<- S.pre,P0 (by omega)];exact h1
  have ndP:ps.Nodup:=by rw [<- S.pre];exact S.nd.sublist (RJ _ _)
  refine ⟨u,rv,?_⟩
  rcases S.par y (Od hp) with k | k
  ·exact .inl ⟨k,sH ndP hp hu k⟩
  ·obtain ⟨c,e⟩:=vI (n:=s.heap.objs.size+1) k
   refine .inr ⟨.inl k,c,e,?_⟩
   have q:=x.cell y c e
   rw [sI ndP hp hu (by show scope.names.lookup y≠_;rw [k];decide)] at q
   exact q
 ·exact e0.hok.fresh (Q9 (x.above y c (OT h)))
 ·unfold start
  show _=N.length
  rw [N4,NZ,OJ]
  omega
theorem Ju {CX:Bd} {P:Program} {w:World} {K:PySem.W.Frag} {mg:Str->Option Value} {base:Heap} {k:Nat} {f:Addr} {name qual:Str} {params:Arguments} {body:List Stmt} {scope:Scope} {dV kV doc pm cdv ct oc:Value} {an od:Option Addr}
  {osl:Array (Option Value)} {N ps:List Str} {sp:Sp} (lk:K.lookup f=some ⟨oc,od,.func (PySem.W.fnOf name qual params body scope dV kV doc pm an cdv ct),osl⟩) (hcd:PySem.W.codeIn K cdv qual=true) (S:aU N ps scope)
  (len:∀ vs H Q E,sp vs H Q E->vs.length=ps.length)
  (hbody:∀ (A:Around) (outer:List Env) (s:Shared) (H:Hp) (vs:List V) (Q:VK) (E:XK),cz k (A.deeper (envOfC qual scope s.heap.objs.size f cdv))->sp vs H Q E ->
   ∃ t,xC (rL CX P w K mg base N qual scope f cdv A outer s H E) body t/\t {nx:=fun _ H'=>Q .non H',rt:=Q} (start N vs) H) :
  iy P w K mg base CX (k+1) f (PySem.W.fnOf name qual params body scope dV kV doc pm an cdv ct) ps sp:=by
 refine ⟨len,fun A outer s H args us vs Q E hr e0 hb r hsp=>?_⟩
 have hl:=len _ _ _ _ hsp
 have KX:K.In s.heap:=e0.mod.kin.keeps fun b o e=>(e0.bs b o e).1
 have lim:s.heap.NoLimit:=e0.mod.nolimit.keeps fun b o e=>(e0.bs b o e).1
 have hkind:∀ y∈ps.zip us,scope.names.lookup y.1=some .local\/(scope.names.lookup y.1=some .cell/\((cellsFrom (s.heap.objs.size+1) scope.names []).lookup y.1).isSome=true):=fun ⟨n,v⟩ hy=>by
  rcases S.par n (RC hy).1 with q | q
  ·exact .inl q
  ·exact .inr ⟨q,QY _ _ _ (.inl q)⟩
 refine codeAny_call_function hr.depth (KX _ _ lk) rfl S.co S.gen rfl (PySem.W.codeRec_of KX hcd) (hb _ _ _ _ ?_)
 refine wpAny_newFunctionEnv_cells S.kind hkind fun env he s1 x=>?_
 subst he
 refine ⟨lim.keeps x.toInCall.keep,codeAny_func ?_⟩
 obtain ⟨t,ht,hq⟩:=hbody A outer s H vs Q E (hr.deeper _) hsp
 have I:Inv (rL CX P w K mg base N qual scope f cdv A outer s H E) [] (start N vs) H s1:=Au S hr.hd e0 hl r x
 refine OU (ht [] s1 (start N vs) H _ I hq) (fun fl s' hs=>?_) fun e s' hs=>hs
 have fin:∀ {σ':St} {H':Hp} {v:V} {u:Value},Inv (rL CX P w K mg base N qual scope f cdv A outer s H E) [] σ' H' s'->RelV v u->Q v H'->CE outer P w H s Q u s':=
  fun {σ' H' v u} J rv q=>⟨v,H',J.os,J.bare,J.base,J.hok,rv,q⟩
 cases fl with
 | ret u=>
  obtain ⟨v,σ',H',J,rv,q⟩:=hs
  exact fin J rv q
 | next=>
  obtain ⟨σ',H',J,q⟩:=hs
  exact fin (v:=V.non) (u:=Value.none) J rfl q
 | brk=>
  obtain ⟨_,_,_,q⟩:=hs
  exact False.elim q
 | cont=>
  obtain ⟨_,_,_,q⟩:=hs
  exact False.elim q
section
variable {X:Cx} {x:Str} {p pos:Pos} {e:Expr} {es:List Expr} {t:TA} {id T:String} {r:List V->Hp->VK->Prop}
def Lx (r:List V->Hp->VK->Prop) (t:TA):TE:=fun σ H Q=>t σ H fun vs H1=>r vs H1 Q
theorem vJ (hc:dD X (.builtin id) r) (hg:Gl X x) (hm:X.mg x=none) (hv:bootBuiltins x=some (.builtin id)) (ha:PA X (e::es) t) (hn:x ≠ "__name__" := by decide) (hdb:(x == ("__debug__" : Str))=false:=by decide)
  (he:starEach (e::es) X.env=(false,eval e X.env)::starEach es X.env:=by rfl) (hpl:(backTo pos (starEach es X.env)).any (·.1)=false:=by rfl):PE X (.Call (.Name x p) (e::es) [] pos) (Lx r t):=by
 intro pins s σ H Q I h
 refine ON (lj I hg hm hv ?_ hn hdb)
 exact Rb (bA (ha pos pins s σ H _ I h) fun us s1 ⟨vs,H1,I1,r1,q1⟩=>hc pins s1 σ H1 vs us Q I1 r1 q1) he hpl
theorem Av (hc:dD X (.type T) r) (hg:Gl X x) (hm:X.mg x=none) (hv:bootBuiltins x=some (.type T)) (ha:PA X (e::es) t) (hn:x ≠ "__name__" := by decide) (hdb:(x == ("__debug__" : Str))=false:=by decide)
  (he:starEach (e::es) X.env=(false,eval e X.env)::starEach es X.env:=by rfl) (hpl:(backTo pos (starEach es X.env)).any (·.1)=false:=by rfl):PE X (.Call (.Name x p) (e::es) [] pos) (Lx r t):=by
 intro pins s σ H Q I h
 refine ON (lj I hg hm hv ?_ hn hdb)
 exact Pr (bA (ha pos pins s σ H _ I h) fun us s1 ⟨vs,H1,I1,r1,q1⟩=>hc pins s1 σ H1 vs us Q I1 r1 q1) he hpl
end
end L2
namespace HT
open PySem PyProof.Rows
section
variable {prog:Program} {w:World} {A:Around} {E:Value->Shared->Prop} {s:Shared}
theorem Ec {t b:Addr} {vs ws:List Value} {Q:Value->Shared->Prop} (ht:IsTup s.heap t vs.toArray) (hb:IsTup s.heap b ws.toArray) (hv:vs≠[])
  (h1:ws=[]->Q (.ref t) s) (h2:ws≠[]->Q (.ref s.heap.objs.size) {s with heap:=s.heap.push {cls:=.type "tuple",data:=.seq (vs++ws).toArray}})
  (hsz:vs.length+ws.length<=sizeLine):wpAny (model prog w) A (binaryOp .Add (.ref t) (.ref b)) Q E s:=by
 obtain ⟨⟨cls,dd,data,sl⟩,ho,hc,n,hd⟩:=id ht
 obtain ⟨⟨cls2,dd2,data2,sl2⟩,ho2,hc2,n2,hd2⟩:=id hb
 simp only at hc hd hc2 hd2
 subst hc hd hc2 hd2
 have e:vs.toArray++ws.toArray=(vs++ws).toArray:=by simp
 by_cases hw:ws=[]
 ·exact concat_meets ⟨_,ho,rfl⟩ ⟨_,ho2,rfl⟩ noFill_tuple_add seq_tuple_add QZ QT (QM _ _)
   (tuple_addW1 t b vs.toArray ws.toArray n n2 dd dd2 sl sl2 (by simpa using hv) (by simp [hw])) ⟨ho,ho2,h1 hw⟩
 ·refine concat_meets ⟨_,ho,rfl⟩ ⟨_,ho2,rfl⟩ noFill_tuple_add seq_tuple_add QZ QT (QM _ _)
   (tuple_addW2 t b vs.toArray ws.toArray n n2 dd dd2 sl sl2 (by simpa using hv) (by simpa using hw) (by rw [NQ,NQ];exact hsz)) ⟨ho,ho2,?_⟩
  rw [e]
  exact h2 hw
def eB (n d:Nat):Option Int->Nat
 | none=>d
 | some v=>if v < 0 then (v+(n:Int)).toNat else min v.toNat n
theorem Hd (n d:Nat) (hd:d<=n) (o:Option Int):eB n d o<=n:=by
 cases o with
 | none=>exact hd
 | some v=>
  show (if v < 0 then (v+(n:Int)).toNat else min v.toNat n)<=n
  by_cases hv:v < 0
  ·rw [if_pos hv];omega
  ·rw [if_neg hv];exact Nat.min_le_right _ _
theorem yX (v:Int) (n d:Nat):(if v < 0 then max (v+(n:Int)) 0 else min v (n:Int))=((eB n d (some v):Nat):Int):=by
 show (if v < 0 then max (v+(n:Int)) 0 else min v (n:Int))=(((if v < 0 then (v+(n:Int)).toNat else min v.toNat n):Nat):Int)
 by_cases hv:v < 0
 ·simp only [if_pos hv];omega
 ·simp only [if_neg hv];omega
theorem xO (lo hi:Option Int) (n:Nat):Builtin.Slice.sliceAdjust lo hi 1 (n:Int)=(((eB n 0 lo:Nat):Int),((eB n n hi:Nat):Int)):=by
 have h1:¬ ((1:Int) < 0):=by omega
 unfold Builtin.Slice.sliceAdjust
 simp only [h1,Ou]
 refine Prod.ext ?_ ?_
 ·cases lo with
  | none=>rfl
  | some v=>exact yX v n 0
 ·cases hi with
  | none=>rfl
  | some v=>exact yX v n n
theorem xP (i j:Nat):Builtin.Slice.slicePlaces (i:Int) (j:Int) 1=j - i:=by
 unfold Builtin.Slice.slicePlaces
 have h1:(1:Int) > 0:=by omega
 simp only [h1,Ot,Int.ediv_one]
 split<;>omega
theorem pP {v:Value} {o:Option Int} {Q:Option Int->Shared->Prop} (p:IsPart v o) (h:Q o s):wpAny (model prog w) A (Builtin.Slice.slicePartIndex v) Q E s:=by
 cases p with
 | none=>exact slicePart_none h
 | int i t=>exact slicePart_int h
theorem iz {sl:Addr} {vl vu:Value} {lo hi:Option Int} {n:Nat} {Q:Int×Int×Nat->Shared->Prop} (hs:s.heap.IsSliceOf sl vl vu .none) (pl:IsPart vl lo) (pu:IsPart vu hi)
  (h:Q (((eB n 0 lo:Nat):Int),1,eB n n hi - eB n 0 lo) s):wpAny (model prog w) A (Builtin.Slice.sliceApplied (.ref sl) (pure (n:Int))) Q E s:=by
 obtain ⟨os,hos,hcs,hds⟩:=id hs
 unfold Builtin.Slice.sliceApplied Builtin.Slice.sliceFields
 refine NC (NC (OZ hos hds (x:=vl) rfl (NC (OZ hos hds (x:=vu) rfl (NC (OZ hos hds (x:=.none) rfl (ND ?_)))))))
 refine NC (slicePart_none ?_)
 show wpAny _ _ (if ((1:Int) == 0)=true then _ else _) _ _ s
 rw [if_neg (by decide)]
 refine NC (pP pl (NC (pP pu (NC (ND ?_)))))
 show wpAny _ _ (match Builtin.Slice.sliceAdjust lo hi 1 (n:Int) with | (lo,hi)=>pure (lo,(1:Int),Builtin.Slice.slicePlaces lo hi 1)) _ _ s
 rw [xO lo hi n]
 show wpAny _ _ (pure (((eB n 0 lo:Nat):Int),(1:Int),Builtin.Slice.slicePlaces ((eB n 0 lo:Nat):Int) ((eB n n hi:Nat):Int) 1)) _ _ s
 rw [xP]
 exact ND h
theorem Bu (xs:Array Value) (i k:Nat):((List.range k).filterMap fun (m:Nat)=>xs[((i:Int)+(m:Int) * 1).toNat]?).toArray=((xs.toList.drop i).take k).toArray:=by
 have e:(fun (m:Nat)=>xs[((i:Int)+(m:Int) * 1).toNat]?)=fun m=>xs[i+m]?:=by
  funext m
  have:((i:Int)+(m:Int) * 1).toNat=i+m:=by omega
  rw [this]
 rw [e]
 have:=pick_run xs i k
 rw [List.filterMap_map] at this
 have e2:((fun x=>xs[x]?)∘fun x=>i+x)=fun m=>xs[i+m]?:=rfl
 rw [e2] at this
 rw [this]
theorem me {t sl:Addr} {items:Array Value} {vl vu:Value} {lo hi:Option Int} {Q:Value->Shared->Prop} (ht:IsTup s.heap t items) (hs:s.heap.IsSliceOf sl vl vu .none) (pl:IsPart vl lo) (pu:IsPart vu hi)
  (hw:¬ (eB items.size 0 lo=0/\eB items.size items.size hi=items.size))
  (h:Q (.ref s.heap.objs.size) {s with heap:=s.heap.push {cls:=.type "tuple",data:=.seq ((items.toList.drop (eB items.size 0 lo)).take (eB items.size items.size hi - eB items.size 0 lo)).toArray}})
  (hsz:items.size<=sizeLine):wpAny (model prog w) A (getItem (.ref t) (.ref sl)) Q E s:=by
 have htake:sizeOk (.seq ((items.toList.drop (eB items.size 0 lo)).take (eB items.size items.size hi - eB items.size 0 lo)).toArray):=by
  show ((items.toList.drop (eB items.size 0 lo)).take (eB items.size items.size hi - eB items.size 0 lo)).toArray.size<=sizeLine
  rw [NQ,QG,Rm,OF]
  omega
 have hj:eB items.size items.size hi<=items.size:=Hd _ _ (NI _) hi
 obtain ⟨os,hos,hcs,hds⟩:=id hs
 have hTs:s.TypeIs (.ref sl) "slice" := ⟨os,hos,hcs⟩
 unfold getItem
 try with_reducible refine Ow ?_
 first | refine NC (ND ?_) | skip
 refine NC (wpAny_sequenceKey ht.typeIs (by decide) ?_)
 refine NC (Oj (name:=Str.ofString "__getitem__") ht.typeIs OC
  (Of OC ht.typeIs entry_tuple_getitem ?_ (args_tuple_getitem _ _)))
 show wpAny _ _ (Builtin.Tuple.tupleItemsOf (.ref t) >>= _) _ _ s
 refine NC (tupleItemsOf_ ht ?_)
 refine NC (Rc hTs ?_)
 rw [if_pos (by decide)]
 refine NC (iz hs pl pu ?_)
 have hno:¬ ((((eB items.size 0 lo:Nat):Int) == 0 && (1:Int) == 1 && (eB items.size items.size hi - eB items.size 0 lo) == items.size)=true):=by
  intro q
  rw [NG,NG] at q
  have q1:((eB items.size 0 lo:Nat):Int)=0:=eq_of_beq q.1.1
  have q2:eB items.size items.size hi - eB items.size 0 lo=items.size:=eq_of_beq q.2
  exact hw ⟨by omega,by omega⟩
 show wpAny _ _ (if (((eB items.size 0 lo:Nat):Int) == 0 && (1:Int) == 1 && (eB items.size items.size hi - eB items.size 0 lo) == items.size)=true then _ else _) _ _ s
 rw [if_neg hno,Bu]
 first
  | exact NC (m:=Builtin.Tuple.tupleExact _) (Om (ND ⟨_,rfl,ND h⟩) htake)
  | exact NC (m:=Builtin.Tuple.tupleExact _) (Om (NC (ND (ND ⟨_,rfl,ND h⟩))) htake)
  | exact NC (NC (m:=Builtin.Tuple.tupleExact _) (Om (ND (ND ⟨_,rfl,ND h⟩)) htake))
  | exact NC (NC (m:=Builtin.Tuple.tupleExact _) (Om (ND ⟨_,rfl,ND h⟩) htake))
end
end HT
namespace L2
open PySem PySem.Spec PyProof.Rows
abbrev TO:=St->Hp->(Option Int->Hp->Prop)->Prop
def PO (X:Cx) (e:Option Expr) (t:TO):Prop:=
 ∀ (pins:List (Addr×Obj)) (s:Shared) (σ:St) (H:Hp) (Q:Option Int->Hp->Prop),Inv X pins σ H s->t σ H Q ->
  wpAny (model X.prog X.w) X.A (evalPart e X.env) (fun u s'=>∃ o H',Inv X pins σ H' s'/\IsPart u o/\Q o H') X.xe s
def Ed:TO:=fun _ H Q=>Q none H
def Jv (t:TE):TO:=fun σ H Q=>t σ H fun x H1=>∃ i,x=.int i/\Q (some i) H1
section
variable {X:Cx} {e:Expr} {te:TE} {lo hi:Option Expr} {tl th:TO} {pos p2:Pos}
theorem Ee:PO X none Ed:=by
 intro pins s σ H Q I h
 rw [evalPart_none]
 exact ND ⟨none,H,I,.none,h⟩
theorem Ef (h:PE X e te):PO X (some e) (Jv te):=by
 intro pins s σ H Q I hw
 rw [evalPart_some]
 refine bA (h pins s σ H _ I hw) fun u s1 ⟨x,H1,I1,r1,q1⟩=>?_
 obtain ⟨i,rfl,q⟩:=q1
 obtain ⟨t,rfl⟩:=r1
 exact ⟨some i,H1,I1,.int i t,q⟩
def IU (X:Cx) (r:V->Option Int->Option Int->Hp->VK->Prop):Prop:=
 ∀ (pins:List (Addr×Obj)) (s:Shared) (σ:St) (H:Hp) (x:V) (v vl vu:Value) (lo hi:Option Int) (sl:Addr) (Q:VK),Inv X pins σ H s->RelV x v->s.heap.IsSliceOf sl vl vu .none->IsPart vl lo->IsPart vu hi->r x lo hi H Q ->
  ∃ T id,typeLookup (.type T) "__getitem__" = pure (some (.builtin id))/\s.TypeIs v T/\wpAny (model X.prog X.w) X.A (getItem v (.ref sl)) (EP X pins σ Q) X.xe s
def Nh (r:V->Option Int->Option Int->Hp->VK->Prop) (te:TE) (tl th:TO):TE:=fun σ H Q=>te σ H fun x H1=>tl σ H1 fun l H2=>th σ H2 fun u H3=>r x l u H3 Q
theorem vK {r:V->Option Int->Option Int->Hp->VK->Prop} (hr:IU X r) (he:PE X e te) (hl:PO X lo tl) (hu:PO X hi th):PE X (.Subscript e (.Slice lo hi none p2) pos) (Nh r te tl th):=by
 intro pins s σ H Q I h
 refine Subscript_ (bA (he pins s σ H _ I h) fun v s1 ⟨x,H1,I1,r1,q1⟩=>?_)
 refine wpAny_Slice (bA (hl pins s1 σ H1 _ I1 q1) fun vl s2 ⟨l,H2,I2,pl,q2⟩=>bA (hu pins s2 σ H2 _ I2 q2) fun vu s3 ⟨u,H3,I3,pu,q3⟩=>?_)
 rw [evalPart_none]
 refine ND ?_
 have I4:Inv X pins σ H3 {s3 with heap:=s3.heap.push {cls:=.type "slice",data:=.fields #[vl,vu,.none]}}:=I3.kept (t':=s3.toks) fun b ob q=>NF _ q
 obtain ⟨T,id,hT,ht,hg⟩:=hr pins {s3 with heap:=s3.heap.push {cls:=.type "slice",data:=.fields #[vl,vu,.none]}} σ H3 x v vl vu l u s3.heap.objs.size Q I4 r1 (Heap.IsSliceOf.new ..) pl pu q3
 show wpAny (model X.prog X.w) X.A (subscriptTail e (.Slice lo hi none p2) v (.ref s3.heap.objs.size)) (EP X pins σ Q) X.xe {s3 with heap:=s3.heap.push {cls:=.type "slice",data:=.fields #[vl,vu,.none]}}
 exact tail_any (ops:=[.ref s3.heap.objs.size,v]) ht hT hg (by with_unfolding_all rfl)
def pQ (xs:List V) (lo hi:Option Int):List V:=(xs.drop (HT.eB xs.length 0 lo)).take (HT.eB xs.length xs.length hi - HT.eB xs.length 0 lo)
theorem oj (xs:List V) (lo hi:Option Int):(pQ xs lo hi).length<=xs.length:=by
 unfold pQ
 rw [QG,Rm]
 omega
def Ly (K:PySem.W.Frag):V->Option Int->Option Int->Hp->VK->Prop:=fun x lo hi H Q=>∃ a xs,x=.ref a/\fU K H a xs /\
 ¬ (HT.eB xs.length 0 lo=0/\HT.eB xs.length xs.length hi=xs.length)/\∀ p,H p=none->Q (.ref p) (upd H p (.tup (pQ xs lo hi)))
theorem He:IU X (Ly X.K):=by
 intro pins s σ H x v vl vu lo hi sl Q I rx hs pl pu h
 obtain ⟨a,xs,rfl,hx,hw,q⟩:=h
 cases rx
 obtain ⟨its,r,ht,hz⟩:=I.tuple hx
 have hlen:its.toArray.size=xs.length:=by rw [NQ];exact r.length.symm
 refine ⟨"tuple",_,OC.lookup,ht.typeIs,?_⟩
 refine HT.me ht hs pl pu (by rw [hlen];exact hw) ?_ (by rw [hlen];exact hz)
 rw [hlen]
 refine ⟨.ref s.heap.objs.size,_,I.laid (t':=s.toks) (o:=.tup (pQ xs lo hi)) (fun b ob q=>NF _ q) (NI _) ?_,rfl,q _ (I.hok.fresh (NI _))⟩
 exact ⟨NS (oj xs lo hi) hz,_,(r.drop (HT.eB xs.length 0 lo)).take (HT.eB xs.length xs.length hi - HT.eB xs.length 0 lo),IsTup.new _ _⟩
def Jw (K:PySem.W.Frag):R2:=fun x y H Q=>∃ a b xs ys,x=.ref a/\y=.ref b/\fU K H a xs/\fU K H b ys/\xs≠[]/\xs.length+ys.length<=sizeLine /\
 (ys=[]->Q (.ref a) H)/\(ys≠[]->∀ p,H p=none->Q (.ref p) (upd H p (.tup (xs++ys))))
theorem Vals.ue {xs:List V} {us:List Value} (r:Vals xs us):us=[]<->xs=[]:=by
 cases r with
 | nil=>simp
 | cons _ _=>simp
theorem Eg:gM X (binaryOp .Add) (Jw X.K):=by
 intro pins s σ H x y v u Q I rx ry h
 obtain ⟨a,b,xs,ys,rfl,rfl,ha,hb,hx,hz,q1,q2⟩:=h
 cases rx
 cases ry
 obtain ⟨its,r1,p1,_⟩:=I.tuple ha
 obtain ⟨its2,r2,p2,_⟩:=I.tuple hb
 refine HT.Ec p1 p2 (fun z=>hx (r1.ue.mp z)) (fun z=>⟨.ref a,H,I,rfl,q1 (r2.ue.mp z)⟩) (fun z=>?_) (by rw [<- r1.length,<- r2.length];exact hz)
 refine ⟨.ref s.heap.objs.size,_,I.laid (t':=s.toks) (o:=.tup (xs++ys)) (fun b ob q=>NF _ q) (NI _) ?_,rfl,q2 (fun w=>z (r2.ue.mpr w)) _ (I.hok.fresh (NI _))⟩
 exact ⟨by rw [N4];exact hz,_,r1.append r2,IsTup.new _ _⟩
end
def rM (n:Nat) (i:Int):Option Nat:=if 0<=i then (if i < n then some i.toNat else none) else if -(n:Int)<=i then some (i+n).toNat else none
def kC {α:Type} (xs:List α) (i:Int):Option α:=(rM xs.length i).bind fun j=>xs[j]?
theorem yY {n:Nat} {i:Int} {j:Nat} (h:rM n i=some j):seqIndex? i n=some j/\j < n/\-(n:Int)<=i/\i < n:=by
 unfold rM at h
 by_cases h0:0<=i
 ·rw [if_pos h0] at h
  by_cases h1:i < n
  ·rw [if_pos h1] at h
   have e:i.toNat=j:=OI h
   exact ⟨by rw [seqIndex_of h0 h1,e],by omega,by omega,h1⟩
  ·rw [if_neg h1] at h;cases h
 ·rw [if_neg h0] at h
  by_cases h1:-(n:Int)<=i
  ·rw [if_pos h1] at h
   have e:(i+n).toNat=j:=OI h
   exact ⟨by rw [seqIndex_neg (by omega) h1,e],by omega,h1,by omega⟩
  ·rw [if_neg h1] at h;cases h
theorem yZ {α:Type} {xs:List α} {i:Int} {v:α} (h:kC xs i=some v):∃ j,seqIndex? i xs.length=some j/\xs[j]?=some v/\j < xs.length/\-(xs.length:Int)<=i/\i < xs.length:=by
 unfold kC at h
 cases e:rM xs.length i with
 | none=>rw [e] at h;cases h
 | some j=>
  rw [e] at h
  obtain ⟨h1,h2,h3,h4⟩:=yY e
  exact ⟨j,h1,h,h2,h3,h4⟩
theorem o8 {α:Type} {xs:List α} {j:Nat} {v:α} (h:xs[j]?=some v):kC xs (j:Int)=some v:=by
 have hj:j < xs.length:=(NY.mp h).1
 have e:rM xs.length (j:Int)=some j:=by
  unfold rM
  rw [if_pos (by omega),if_pos (by omega)];simp
 unfold kC;rw [e];exact h
def y0 (b:Expr):Prop:=∀ o i,subscripted b false o i=operate [o,i] (getItem o i)
def IV (X:Cx) (r:R2):Prop:=
 ∀ (value slice:Expr) (pins:List (Addr×Obj)) (s:Shared) (σ:St) (H:Hp) (x y:V) (v u:Value) (Q:VK),Inv X pins σ H s->RelV x v->RelV y u->r x y H Q ->
  subscripted slice false v u=operate [v,u] (getItem v u)->wpAny (model X.prog X.w) X.A (subscriptTail value slice v u) (EP X pins σ Q) X.xe s
def Ni (X:Cx) (id:String) (r:V->List V->Hp->VK->Prop):Prop:=
 ∀ (pins:List (Addr×Obj)) (s:Shared) (σ:St) (H:Hp) (x:V) (xs:List V) (v:Value) (us:List Value) (Q:VK),Inv X pins σ H s->RelV x v->Vals xs us->r x xs H Q ->
  wpAny (model X.prog X.w) X.A (call (.builtin id) (v::us)) (EP X pins σ Q) X.xe s
section
variable {X:Cx} {a b:Expr} {ta tb:TE} {pos:Pos}
theorem Jx {r:R2} (hr:IV X r) (ha:PE X a ta) (hb:PE X b tb) (hs:y0 b):PE X (.Subscript a b pos) (Jk r ta tb):=by
 intro pins s σ H Q I h
 exact Subscript_ (G1 ha hb I h fun v u s2 x y H2 I2 rx ry q=>hr a b pins s2 σ H2 x y v u Q I2 rx ry q (hs _ _))
def Lz (K:PySem.W.Frag):R2:=fun x y H Q=>∃ p xs i v,x=.ref p/\y=.int i/\iu K H p xs/\kC xs i=some v/\Q v H
def LA (K:PySem.W.Frag):R2:=fun x y H Q=>∃ p xs i v,x=.ref p/\y=.int i/\fU K H p xs/\kC xs i=some v/\Q v H
theorem uf:IV X (Lz X.K):=by
 intro value slice pins s σ H x y v u Q I rx ry h hs
 obtain ⟨p,xs,i,z,rfl,rfl,hq,he,q⟩:=h
 cases rx
 obtain ⟨t,rfl⟩:=ry
 obtain ⟨its,r,pl,hz⟩:=I.list hq
 obtain ⟨j,h1,h2,h3,h4,h5⟩:=yZ he
 obtain ⟨w,ew,rw'⟩:=r.get h2
 have hl:=r.length
 have hn:=pN
 have fin:EP X pins σ Q w s:=⟨z,H,I,rw',q⟩
 by_cases h0:0<=i
 ·have hj:i.toNat=j:=by
   rw [seqIndex_of h0 h5] at h1
   exact OI h1
  exact item_listR pl.isList h0 (by omega) (by rw [hj];simpa using ew) fin hs
 ·have hj:(i+(its.toArray.size:Int)).toNat=j:=by
   rw [seqIndex_neg (by omega) h4] at h1
   rw [NQ,<- hl]
   exact OI h1
  exact subscriptTail_builtinR (x:=w) pl.isList.typeIs slot_list_getitem.lookup
   (wpAny_getItem_list_neg (Q:=fun r s'=>r=w/\EP X pins σ Q r s') pl.isList (by omega) (by rw [NQ]<;>omega) (by omega) (by rw [hj];simpa using ew) ⟨rfl,fin⟩) hs
theorem Hf:IV X (LA X.K):=by
 intro value slice pins s σ H x y v u Q I rx ry h hs
 obtain ⟨p,xs,i,z,rfl,rfl,hq,he,q⟩:=h
 cases rx
 obtain ⟨t,rfl⟩:=ry
 obtain ⟨its,r,pl,hz⟩:=I.tuple hq
 obtain ⟨j,h1,h2,h3,h4,h5⟩:=yZ he
 obtain ⟨w,ew,rw'⟩:=r.get h2
 have hl:=r.length
 have hn:=pN
 have fin:EP X pins σ Q w s:=⟨z,H,I,rw',q⟩
 exact subscriptTail_builtinR (x:=w) pl.typeIs slot_tuple_getitem.lookup
  (getItem_tuple (j:=j) (Q:=fun r s'=>r=w/\EP X pins σ Q r s') pl (by omega) (by omega) (by rw [NQ,<- hl];exact h1) (by simpa using ew) ⟨rfl,fin⟩) hs
theorem xQ (its:List Value) (n j:Nat) (u:Value):Obj.mapSeq (·.setIfInBounds j u) {cls:=.type "list",data:=.seq its.toArray n}={cls:=.type "list",data:=.seq (its.set j u).toArray n}:=by
 simp [Obj.mapSeq]
theorem Inv.lst {pins:List (Addr×Obj)} {σ:St} {H:Hp} {s:Shared} {p:Addr} {xs:List V} (I:Inv X pins σ H s) (h:H p=some (.lst xs)) :
  ∃ (its:List Value) (n:Nat),Vals xs its/\s.heap.get? p=some {cls:=.type "list",data:=.seq its.toArray n}/\xs.length<=sizeLine:=by
 obtain ⟨z,its,n,r,e⟩:=I.hok p _ h
 exact ⟨its,n,r,e,z⟩
theorem Inv.Hg {pins:List (Addr×Obj)} {σ:St} {H:Hp} {s:Shared} {p:Addr} {xs ys:List V} {its its':List Value} {n n':Nat} {f:Obj->Obj} (I:Inv X pins σ H s) (h:H p=some (.lst xs))
  (ho:s.heap.get? p=some {cls:=.type "list",data:=.seq its.toArray n}) (hf:f {cls:=.type "list",data:=.seq its.toArray n}={cls:=.type "list",data:=.seq its'.toArray n'}) (r:Vals ys its') (hz:ys.length<=sizeLine) (t:Nat) :
  Inv X pins σ (upd H p (.lst ys)) {s with heap:=s.heap.update p f,toks:=t}:=by
 have e:(s.heap.update p f).get? p=some {cls:=.type "list",data:=.seq its'.toArray n'}:=by
  rw [OV f ho (by rw [hf]<;>rfl),hf]
 refine I.write (x:=p) (e:=p) (by rw [h];trivial) (.inl rfl) (fun b u hb q=>(Qk _ _ (Rk hb)).trans q) ⟨_,e⟩ ?_
 exact ⟨hz,its',n',r,e⟩
def F1:V->V->V->Hp->(Hp->Prop)->Prop:=fun o i v H Q=>∃ p xs k j,o=.ref p/\i=.int k/\H p=some (.lst xs)/\rM xs.length k=some j/\Q (upd H p (.lst (xs.set j v)))
theorem set_list:GR X F1:=by
 intro pins s σ H o i v ov iv u Q I ro ri rv h
 obtain ⟨p,xs,k,j,rfl,rfl,hp,hj,q⟩:=h
 cases ro
 obtain ⟨t,rfl⟩:=ri
 obtain ⟨its,n,r,ho,hz⟩:=I.lst hp
 obtain ⟨h1,h2,h3,h4⟩:=yY hj
 have hl:=r.length
 have hn:=pN
 have I':Inv X pins σ (upd H p (.lst (xs.set j v))) {s with heap:=s.heap.update p (Obj.mapSeq (·.setIfInBounds j u))}:=
  I.Hg hp ho (xQ its n j u) (r.set rv j) (by rw [List.length_set];exact hz) s.toks
 by_cases h0:0<=k
 ·have hk:k.toNat=j:=by
   rw [seqIndex_of h0 h4] at h1
   exact OI h1
  exact PySem.W.ki_setAt ho h0 (by omega) (by rw [NQ,<- hl];exact h4) (by rw [hk];exact ⟨_,I',q⟩)
 ·have hk:(k+(its.toArray.size:Int)).toNat=j:=by
   rw [seqIndex_neg (by omega) h3] at h1
   rw [NQ,<- hl]
   exact OI h1
  exact PySem.W.ki_setBack ho (by omega) (by rw [NQ,<- hl];exact h3) (by omega) (by rw [hk];exact ⟨_,I',q⟩)
theorem ug (lo hi:Option Int) (n:Nat):(sliceBounds lo hi none n).1=((HT.eB n 0 lo:Nat):Int)/\(sliceBounds lo hi none n).2.1=((HT.eB n n hi:Nat):Int)/\(sliceBounds lo hi none n).2.2=1:=by
 refine ⟨?_,?_,rfl⟩
 ·cases lo with
  | none=>simp [sliceBounds,HT.eB]
  | some i=>
   simp only [sliceBounds,HT.eB,Option.getD_none,show (1:Int) > 0 by decide,Ot]
   by_cases h:i < 0
   ·simp only [h,Ot]<;>omega
   ·simp only [h,Ou]<;>omega
 ·cases hi with
  | none=>simp [sliceBounds,HT.eB]
  | some i=>
   simp only [sliceBounds,HT.eB,Option.getD_none,show (1:Int) > 0 by decide,Ot]
   by_cases h:i < 0
   ·simp only [h,Ot]<;>omega
   ·simp only [h,Ou]<;>omega
theorem rN (its:List Value) (lo hi:Option Int):slicePick its.toArray lo hi none=((its.drop (HT.eB its.length 0 lo)).take (HT.eB its.length its.length hi - HT.eB its.length 0 lo)).toArray:=by
 obtain ⟨h1,h2,h3⟩:=ug lo hi its.toArray.size
 unfold slicePick
 rw [h1,h2,h3]
 simp only [sliceRange_one,pick_run,NQ]<;>rfl
def LB (K:PySem.W.Frag):V->Option Int->Option Int->Hp->VK->Prop:=fun x lo hi H Q=>∃ a xs,x=.ref a/\iu K H a xs/\∀ p,H p=none->Q (.ref p) (upd H p (.lst (pQ xs lo hi)))
theorem y6:IU X (LB X.K):=by
 intro pins s σ H x v vl vu lo hi sl Q I rx hs pl pu h
 obtain ⟨a,xs,rfl,hx,q⟩:=h
 cases rx
 obtain ⟨its,r,ht,hz⟩:=I.list hx
 have hlen:=r.length
 refine ⟨"list",_,slot_list_getitem.lookup,ht.isList.typeIs,?_⟩
 refine wpAny_getItem_list_slice ht.isList hs pl pu .none (by simp) ?_ (by rw [NQ]<;>omega)
 rw [rN,<- hlen]
 refine ⟨.ref s.heap.objs.size,_,I.laid (t':=s.toks) (o:=.lst (pQ xs lo hi)) (fun b ob q=>NF _ q) (NI _) ?_,rfl,q _ (I.hok.fresh (NI _))⟩
 exact ⟨NS (oj xs lo hi) hz,_,0,(r.drop (HT.eB xs.length 0 lo)).take (HT.eB xs.length xs.length hi - HT.eB xs.length 0 lo),NL _ rfl⟩
theorem dD.or {f:Value} {r r':List V->Hp->VK->Prop} (h:dD X f r) (h':dD X f r'):dD X f (fun xs H Q=>r xs H Q\/r' xs H Q):=by
 intro pins s σ H xs us Q I rs q
 rcases q with q | q
 ·exact h pins s σ H xs us Q I rs q
 ·exact h' pins s σ H xs us Q I rs q
theorem uh:dD X (.type "list") (fun xs H Q=>∃ p ys,xs=[.ref p]/\(iu X.K H p ys\/fU X.K H p ys)/\∀ l,H l=none->Q (.ref l) (upd H l (.lst ys))):=by
 intro pins s σ H xs us Q I r h
 obtain ⟨p,ys,rfl,hq,q⟩:=h
 obtain ⟨u,rfl,rx⟩:=vals1 r
 cases rx
 have fin:∀ (its:List Value),Vals ys its->ys.length<=sizeLine->∀ (h':Heap) (c':Nat),(∀ b o',s.heap.get? b=some o'->h'.get? b=some o') ->
   h'.get? s.heap.objs.size=some {cls:=.type "list",dict:=none,data:=.seq its.toArray c',slots:=#[]}->EP X pins σ Q (.ref s.heap.objs.size) {s with heap:=h'}:=fun its r' hz h' c' kp e=>
  ⟨.ref s.heap.objs.size,_,I.laid (t':=s.toks) kp (NI _) (show cu X.prog X.w _ h' _ (.lst ys) from ⟨hz,its,c',r',e⟩),rfl,q _ (I.hok.fresh (NI _))⟩
 rcases hq with hq | hq
 ·obtain ⟨its,r',pl,hz⟩:=I.list hq
  have hlen:=r'.length
  obtain ⟨o,ho,hc,n,hd⟩:=pl.isList
  exact call_list_seq p (.inl rfl) ho hc hd (fun h' c' kp e=>fin its r' hz h' c' kp e) (by simp only [NQ]<;>omega)
 ·obtain ⟨its,r',pl,hz⟩:=I.tuple hq
  have hlen:=r'.length
  obtain ⟨o,ho,hc,n,hd⟩:=pl
  exact call_list_seq p (.inr rfl) ho hc hd (fun h' c' kp e=>fin its r' hz h' c' kp e) (by simp only [NQ]<;>omega)
theorem rO:dD X (.type "tuple") (fun xs H Q=>∃ p ys,xs=[.ref p]/\((iu X.K H p ys/\∀ l,H l=none->Q (.ref l) (upd H l (.tup ys)))\/(fU X.K H p ys/\Q (.ref p) H))):=by
 intro pins s σ H xs us Q I r h
 obtain ⟨p,ys,rfl,h⟩:=h
 obtain ⟨u,rfl,rx⟩:=vals1 r
 cases rx
 rcases h with ⟨hq,q⟩ | ⟨hq,q⟩
 ·obtain ⟨its,r',pl,hz⟩:=I.list hq
  have hlen:=r'.length
  refine call_tuple_list pl.isList (fun h' kp=>?_) (by simp only [NQ]<;>omega)
  have I1:Inv X pins σ H {s with heap:=h'}:=I.kept (t':=s.toks) kp
  have I2:Inv X pins σ (upd H h'.objs.size (.tup ys)) {s with heap:=h'.push {cls:=.type "tuple",data:=.seq its.toArray}}:=
   I1.laid (t':=s.toks) (fun b o e=>NF _ e) (NI _) (show cu X.prog X.w _ _ _ (.tup ys) from ⟨hz,its,r',IsTup.new _ _⟩)
  exact ⟨.ref h'.objs.size,_,I2,rfl,q _ (I1.hok.fresh (NI _))⟩
 ·obtain ⟨its,r',pl,hz⟩:=I.tuple hq
  exact call_tuple_same pl ⟨.ref p,H,I,rfl,q⟩
def MJ (K:PySem.W.Frag) (T:String) (x:V) (H:Hp):Prop:=match x with
 | .str _=>T = "str"
 | .int _=>T = "int"
 | .ref p=>(T = "list" /\ ∃ xs,iu K H p xs)\/(T = "tuple" /\ ∃ o,K.lookup p=some o/\o.cls=.type "tuple" /\ o.dict=none) \/
   (T = "dict" /\ ((∃ kvs,H p=some (.dK kvs))\/∃ kvs,H p=some (.dT kvs)))\/(T = "set" /\ ∃ S n,H p=some (.set S n))
 | _=>False
theorem Hh {pins:List (Addr×Obj)} {σ:St} {H:Hp} {s:Shared} {T:String} {x:V} {v:Value} (I:Inv X pins σ H s) (r:RelV x v) (ty:MJ X.K T x H) :
  s.TypeIs v T/\∀ a,v=.ref a->∃ ob,s.heap.get? a=some ob/\ob.dict=none:=by
 cases x with
 | str z=>
  obtain ⟨t,rfl⟩:=r
  cases (show T = "str" from ty)
  exact ⟨typeIs_str s z t,fun _ e=>nomatch e⟩
 | int i=>
  obtain ⟨t,rfl⟩:=r
  cases (show T = "int" from ty)
  exact ⟨typeIs_int s i t,fun _ e=>nomatch e⟩
 | ref p=>
  cases r
  rcases ty with ⟨rfl,xs,hq⟩ | ⟨rfl,o,hk,hc,hd⟩ | ⟨rfl,hk⟩ | ⟨rfl,S,n,hk⟩
  ·obtain ⟨its,_,pl,_⟩:=I.list hq
   refine ⟨pl.isList.typeIs,fun a e=>?_⟩
   cases e
   obtain ⟨o,n,e,c,hd,_⟩:=pl
   exact ⟨o,e,hd⟩
  ·refine ⟨⟨o,I.rH p o hk,hc⟩,fun a e=>?_⟩
   cases e
   exact ⟨o,I.rH _ o hk,hd⟩
  ·have z:∃ o,s.heap.get? p=some o/\o.ExactDict:=by
    rcases hk with ⟨kvs,hk⟩ | ⟨kvs,hk⟩
    ·obtain ⟨_,_,_,_,o,_,_,e,ex,_⟩:=I.hok p _ hk
     exact ⟨o,e,ex⟩
    ·obtain ⟨_,_,_,_,o,_,_,e,ex,_⟩:=I.hok p _ hk
     exact ⟨o,e,ex⟩
   obtain ⟨o,e,ex⟩:=z
   refine ⟨⟨o,e,ex.1⟩,fun a e2=>?_⟩
   cases e2
   exact ⟨o,e,ex.2.1⟩
  ·obtain ⟨o,_,_,_,e,ex,_⟩:=I.hok p _ hk
   refine ⟨⟨o,e,ex.1⟩,fun a e2=>?_⟩
   cases e2
   exact ⟨o,e,ex.2.1⟩
 | _=>exact False.elim ty
def MK (K:PySem.W.Frag) (T:String) (r:V->List V->Hp->VK->Prop) (to:TE) (t:TA):TE:=fun σ H Q=>to σ H fun x H1=>MJ K T x H1/\t σ H1 fun xs H2=>r x xs H2 Q
variable {o e:Expr} {es:List Expr} {to:TE} {t:TA} {name:Str} {apos cpos:Pos} {T id:String} {r:V->List V->Hp->VK->Prop}
theorem F2 (pa:PlainAttrs T) (slot:Slot T name id) (hty:typeOf (.builtin id)=pure (.type "method_descriptor")) (hm:Ni X id r) (ho:PE X o to) (ha:PA X (e::es) t)
  (hbase:attributeBase o name X.env (eval o X.env)=eval o X.env:=by rfl)
  (hfew:((backTo cpos (starEach (e::es) X.env)).all (fun x=>!x.1) && (backToKw cpos (keywordEach [] X.env)).all (fun x=>x.1.isSome)
   && decide ((e::es).length+([]:List Keyword).length+(if ([]:List Keyword).isEmpty then 0 else 1) < 30))=true:=by rfl)
  (hline:(apos.endLine == cpos.line)=true:=by rfl) (hs:starEach (e::es) X.env=(false,eval e X.env)::starEach es X.env:=by rfl) (hplain:(backTo cpos (starEach es X.env)).any (·.1)=false:=by rfl) :
  PE X (.Call (.Attribute o name apos) (e::es) [] cpos) (MK X.K T r to t):=by
 intro pins s σ H Q I h
 refine wpAny_Call_method_late hbase hfew hline rfl (bA (ho pins s σ H _ I h) fun v s1 ⟨x,H1,I1,r1,ty,q1⟩=>?_)
 obtain ⟨h1,h2⟩:=Hh I1 r1 ty
 refine ⟨T,id,pa,slot,hty,h1,h2,?_⟩
 have hA:=ha cpos pins s1 σ H1 _ I1 q1
 rw [hs] at hA ⊢
 refine Calls.callWith_builtin (by show (false || (backTo cpos (starEach es X.env)).any (·.1))=false;rw [hplain]<;>rfl) (Calls.evalArgs_plain ?_)
 exact bA hA fun us s2 ⟨vs,H2,I2,r2,q2⟩=>hm pins s2 σ H2 x vs v us Q I2 r1 r2 q2
end
def ML (X:Cx) (id:String) (r:V->List V->Hp->VK->Prop):Prop:=
 ∀ (pins:List (Addr×Obj)) (s:Shared) (σ:St) (H:Hp) (x:V) (xs:List V) (v:Value) (us:List Value) (Q:VK),Inv X pins σ H s->RelV x v->Vals xs us->r x xs H Q ->
  wpAny (model X.prog X.w) X.A (call (.builtin id) (v::us)) (EP X pins σ Q) X.xe s
theorem Vals.one:∀ {x:V} {us:List Value},Vals [x] us->∃ u,us=[u]/\RelV x u
 | _,_,.cons r .nil=>⟨_,rfl,r⟩
theorem Vals.eraseIdx:∀ {xs:List V} {us:List Value} (i:Nat),Vals xs us->Vals (xs.eraseIdx i) (us.eraseIdx i)
 | _,_,_,.nil=>.nil
 | _,_,0,.cons _ t=>t
 | _,_,i+1,.cons r t=>.cons r (Vals.eraseIdx i t)
theorem Vals.rep {xs:List V} {us:List Value} (h:Vals xs us):∀ k:Nat,Vals (List.replicate k xs).flatten (List.replicate k us).flatten
 | 0=>.nil
 | k+1=>by
  rw [O8,O8,P1,P1]
  exact Vals.append h (Vals.rep h k)
theorem sJ {α:Type}:∀ (l:List α) (i:Nat),(l.eraseIdx i).length<=l.length
 | [],_=>NI _
 | _::_,0=>O9 _
 | _::r,i+1=>Nat.succ_le_succ (sJ r i)
theorem foldl_rep (its:List Value):∀ (k:Nat) (acc:List Value),
  List.foldl (fun x1 x2=>x1++x2) acc.toArray (List.replicate k its.toArray)=(acc++(List.replicate k its).flatten).toArray
 | 0,acc=>by simp
 | k+1,acc=>by
  have e:acc.toArray++its.toArray=(acc++its).toArray:=by simp
  have e2:(acc++its)++(List.replicate k its).flatten=acc++(List.replicate (k+1) its).flatten:=by
   rw [O8,P1,RK]
  rw [<- e2,<- foldl_rep its k (acc++its),<- e,O8,List.foldl_cons]
section
variable {X:Cx} {pins:List (Addr×Obj)} {σ:St} {H:Hp} {s:Shared} {l b:Addr} {xs ys zs:List V}
theorem Inv.Jy {its its':List Value} {n:Nat} {f:Array Value->Array Value} {t':Nat} (I:Inv X pins σ H s) (hH:H l=some (.lst xs))
  (e:s.heap.get? l=some {cls:=.type "list",data:=.seq its.toArray n}) (hf:f its.toArray=its'.toArray) (hv:Vals ys its') (hz:ys.length<=sizeLine) :
  Inv X pins σ (upd H l (.lst ys)) {s with heap:=s.heap.update l (Obj.mapSeq f),toks:=t'}:=by
 have q:=PySem.IsL.update e f
 rw [hf] at q
 refine I.write (x:=l) (e:=l) (by rw [hH];exact trivial) (.inl rfl) (fun b' u hb hu=>(Qk s.heap (Obj.mapSeq f) (Rk hb)).trans hu) ⟨_,q⟩ ?_
 exact ⟨hz,its',_,hv,q⟩
theorem Inv.Jz {its:List Value} {t':Nat} (I:Inv X pins σ H s) (hv:Vals ys its) (hz:ys.length<=sizeLine) :
  Inv X pins σ (upd H s.heap.objs.size (.lst ys)) {s with heap:=s.heap.push {cls:=.type "list",data:=.seq its.toArray},toks:=t'}:=
 I.laid (fun _ _ q=>NF _ q) (NI _) ⟨hz,its,0,hv,NL _ rfl⟩
theorem Inv.fresh (I:Inv X pins σ H s):H s.heap.objs.size=none:=I.hok.fresh (NI _)
theorem Inv.Bv (I:Inv X pins σ H s) (hH:H l=some (.lst xs)):xs.length<=sizeLine/\∃ (its:List Value) (n:Nat),Vals xs its/\xs.length=its.length/\s.heap.get? l=some {cls:=.type "list",data:=.seq its.toArray n}:=by
 obtain ⟨z,its,n,r,e⟩:=I.hok l _ hH
 exact ⟨z,its,n,r,r.length,e⟩
theorem Bw {n:Nat} (h:n<=sizeLine):Builtin.List.listTooLong n=false:=by
 unfold Builtin.List.listTooLong
 exact NW (by omega)
end
section
variable {X:Cx}
def Eh:V->List V->Hp->VK->Prop:=fun x vs H Q=>∃ l xs y,x=.ref l/\vs=[y]/\H l=some (.lst xs)/\xs.length < sizeLine/\Q .non (upd H l (.lst (xs++[y])))
theorem Aw:ML X "list.append" Eh:=by
 intro pins s σ H x vs v us Q I rx rv h
 obtain ⟨l,xs,y,rfl,rfl,hH,hz,q⟩:=h
 cases rx
 obtain ⟨u,rfl,ru⟩:=rv.one
 obtain ⟨z,its,n,r,hl,e⟩:=I.Bv hH
 refine QN F.slot_list_append ⟨_,e,rfl⟩ F.entry_list_append (F.args_list_append_2 _ _) (PySem.list_append l its.toArray n u (by rw [NQ];omega)) ⟨e,?_⟩
 refine ⟨.non,_,I.Jy (its':=its++[u]) hH e (by simp) (r.append (.cons ru .nil)) ?_,rfl,q⟩
 rw [N4,Rf]
 omega
def Hi:V->List V->Hp->VK->Prop:=fun x vs H Q=>∃ l xs i k y,x=.ref l/\vs=[.int i]/\H l=some (.lst xs)/\-(2 ^ 63)<=i/\i < 2 ^ 63/\seqIndex? i xs.length=some k/\xs[k]?=some y/\Q y (upd H l (.lst (xs.eraseIdx k)))
theorem Bx:ML X "list.pop" Hi:=by
 intro pins s σ H x vs v us Q I rx rv h
 obtain ⟨l,xs,i,k,y,rfl,rfl,hH,h1,h2,hk,hy,q⟩:=h
 cases rx
 obtain ⟨u,rfl,ru⟩:=rv.one
 obtain ⟨t,rfl⟩:=ru
 obtain ⟨z,its,n,r,hl,e⟩:=I.Bv hH
 obtain ⟨w,hw,rw'⟩:=r.get hy
 refine QN F.slot_list_pop ⟨_,e,rfl⟩ F.entry_list_pop (F.args_list_pop_2 _ _)
  (MeetsSeq.list_pop_at l its.toArray n i t k w (fitsIndex_both h1 h2) (by rw [NQ,<- hl];exact hk) (by rw [<- Og];exact hw) (by rw [NQ];omega)) ⟨e,?_⟩
 refine ⟨y,_,I.Jy (its':=its.eraseIdx k) hH e ?_ (r.eraseIdx k) ?_,rw',q⟩
 ·show its.toArray.eraseIdxIfInBounds k=(its.eraseIdx k).toArray
  rw [List.eraseIdxIfInBounds_toArray]
 ·have:=sJ xs k
  omega
def LC:R2:=fun x y H Q=>∃ l b xs zs,x=.ref l/\y=.ref b/\H l=some (.lst xs)/\H b=some (.lst zs)/\xs.length+zs.length<=sizeLine/\∀ p,H p=none->Q (.ref p) (upd H p (.lst (xs++zs)))
theorem Hj:gM X (binaryOp .Add) LC:=by
 intro pins s σ H x y v u Q I rx ry h
 obtain ⟨l,b,xs,zs,rfl,rfl,hH,hB,hz,q⟩:=h
 cases rx
 cases ry
 obtain ⟨z,its,n,r,hl,e⟩:=I.Bv hH
 obtain ⟨z2,its2,n2,r2,hl2,e2⟩:=I.Bv hB
 refine PySem.P.add_list e e2 ?_ (by rw [NQ,NQ];omega)
 have ea:its.toArray++its2.toArray=(its++its2).toArray:=by simp
 rw [ea]
 exact ⟨.ref _,_,I.Jz (t':=s.toks) (r.append r2) (by rw [N4];omega),rfl,q _ I.fresh⟩
def LD:R2:=fun x y H Q=>∃ l k xs,x=.ref l/\y=.int k/\H l=some (.lst xs)/\-(2 ^ 63)<=k/\k < 2 ^ 63/\xs.length * k.toNat<=sizeLine /\
 ∀ p,H p=none->Q (.ref p) (upd H p (.lst (List.replicate k.toNat xs).flatten))
theorem len_rep {α:Type} (xs:List α) (k:Nat):(List.replicate k xs).flatten.length=k * xs.length:=by
 induction k with
 | zero=>simp
 | succ k ih=>rw [O8,P1,N4,ih,Nat.succ_mul,Nat.add_comm]
theorem Hk:gM X (binaryOp .Mult) LD:=by
 intro pins s σ H x y v u Q I rx ry h
 obtain ⟨l,k,xs,rfl,rfl,hH,h1,h2,hz,q⟩:=h
 cases rx
 obtain ⟨t,rfl⟩:=ry
 obtain ⟨z,its,n,r,hl,e⟩:=I.Bv hH
 have hlen:its.toArray.size * k.toNat<=sizeLine:=by rw [NQ,<- hl];exact hz
 have hcap:¬ its.toArray.size * k.toNat > (2 ^ 63 - 1) / 8:=by
  have:(sizeLine:Nat)<=(2 ^ 63 - 1) / 8:=by decide
  omega
 have hfit:¬ (!Builtin.List.listFitsIndex k)=true:=by
  rw [fitsIndex_both h1 h2]
  exact Oa
 have hlong:¬ Builtin.List.listTooLong (its.toArray.size * k.toNat)=true:=by
  rw [Bw hlen]
  exact Oa
 have hnew:List.foldl (fun x1 x2=>x1++x2) #[] (List.replicate (if its.toArray.isEmpty=true then 0 else k.toNat) its.toArray)=(List.replicate k.toNat its).flatten.toArray:=by
  have f0:∀ m:Nat,List.foldl (fun x1 x2=>x1++x2) #[] (List.replicate m its.toArray)=(List.replicate m its).flatten.toArray:=fun m=>by
   have:=foldl_rep its m []
   rw [Pt] at this
   exact this
  rw [f0]
  cases its with
  | nil=>simp
  | cons a r'=>rw [if_neg (by simp)]
 refine wpAny_binaryOp_repeat_ref (T := "list") (U := "int") (by decide) ⟨_,e,rfl⟩ (fun s'=>typeIs_int s' k t) noFill_list_mul F.fills_int_mul F.slot_int_rmul repeat_list F.slot_int_index.lookup
  (QN F.slot_int_rmul (typeIs_int s k t) F.entry_int_rmul (F.args_int_rmul_2 _ _) (int___rmul___int_list k t l its.toArray n)
   ⟨e,rfl,⟨_,e,rfl⟩,QN F.slot_list_mul ⟨_,e,rfl⟩ F.entry_list_mul (F.args_list_mul_2 _ _) (AutoListH.list___mul___list_int_3 l its.toArray n k t hfit hcap hlong) ⟨e,?_⟩⟩)
 rw [hnew]
 exact ⟨.ref _,_,I.Jz (t':=s.toks) (r.rep k.toNat) (by rw [len_rep,Nat.mul_comm];exact hz),rfl,q _ I.fresh⟩
end
end L2
namespace Att
open PySem PySem.W PySem.Calls PyProof.Rows
theorem oZ {P:Params} {h:Heap}:∀ (ns:List Int) (vs:List Value),WellAll P h vs (ns.map WData.int)->IntsAre vs ns:=by
 intro ns
 induction ns with
 | nil=>
  intro vs w
  rw [Qo] at w
  cases w
  exact .nil
 | cons n ns ih=>
  intro vs w
  rw [Ob] at w
  cases w with
  | cons a b=>
   cases a
   exact .cons _ _ (ih _ b)
theorem Ax {l:OpenLaw} {n:Nat} (hn:l.most=some n) {P:Params} {h:Heap} {args:List WData} {vals:List Value}
  (hpre:l.row.toRowW.claim.pre args=true) (hwl:WellAll P h vals args) :
  ∃ a vs ns,vals=[Value.ref a]/\args=[WData.list (ns.map WData.int)]/\h.get? a=some {cls:=.type "list",data:=.seq vs.toArray}/\IntsAre vs ns/\ns.length<=n:=by
 have hsh:WShape.hasAll [] args [.list .int]=true:=(pre_splitW hpre).1
 have hc:l.pre.holds [] {args:=args}=true:=(pre_splitW hpre).2
 obtain ⟨d,r,rfl,h1,h2⟩:=hasAllW_cons hsh
 obtain rfl:=hasAllW_nil h2
 obtain ⟨xs,rfl,h3⟩:=hasW_list h1
 obtain ⟨ns,rfl⟩:=items_int h3
 have hlen:ns.length<=n:=by
  unfold OpenLaw.pre at hc
  have h4:(WTm.not (.lt (.lit (.int (n:Int))) (.len (.arg 0)))).holds [] {args:=[.list (ns.map .int)]}=true:=by
   have h4:=(holds_andW hc).1
   rw [hn] at h4
   exact h4
  have h5:=condW_of h4 (w_not (w_lt w_lit (w_len_list (w_arg rfl))))
  rw [NZ] at h5
  refine Nat.le_of_not_lt fun q=>?_
  have q':(n:Int) < ((ns.length:Nat):Int):=by omega
  first
   | (rw [NV q'] at h5;exact absurd h5 (by decide))
   | (simp at h5;omega)
 cases hwl with
 | cons w1 w2=>
  cases w2
  cases w1 with
  | list ho hall=>exact ⟨_,_,ns,rfl,rfl,ho,oZ ns _ hall,hlen⟩
theorem Ay (l:OpenLaw) (args:List WData):l.row.toRowW.claim.post args (.bool true) args=true:=
 postW_of (r:=l.row.toRowW) (X:=(true == true))
  (show WShape.has [] (.bool true) .bool=true by first | rfl | decide | simp [WShape.has,WShape.arms,WShape.armsAll])
  (show (WTm.eq .res (.lit (.bool true))).value [] {args:=args,res:=some (.bool true),after:=args}=some (.bool (true == true)) from w_eq_bool (w_res rfl) w_lit) rfl
theorem vL {l:OpenLaw} {n:Nat} {q:Program} {loose:List Str} {XP:(Str->Option Value)->Heap->Prop} {YP:World->Heap->Prop} {d:DefRec}
  (hn:l.most=some n) (hdf:d.params.defaults=[])
  (call:∀ (w:World) (s₀ s₁:Shared) (mg mb:Str->Option Value) (fa:Addr) (o:Obj) (pm cd doc:Value) (a:Addr) (vs:List Value) (ns:List Int),
   Ground q loose [] XP w s₀ mg mb s₁.heap->YP w s₁.heap ->
   s₁.heap.get? fa=some o->o.data=.func (docDef d.name d.params d.body d.scope pm cd doc)->s₁.heap.CodeRec cd d.name->mg d.name=some (.ref fa) ->
   s₁.heap.get? a=some {cls:=.type "list",data:=.seq vs.toArray}->IntsAre vs ns->ns.length<=n->s₁.gens=#[] ->
   codeAny (model l.prog w) callerA (.call (.ref fa) ⟨[.ref a],[]⟩) (fun r s'=>r=.ok (.ret (.bool true))/\OldK s₁.heap s'.heap/\s'.os=s₁.os/\AllBare s'.gens) s₁) :
  WalkO q loose XP YP l.row.toRowW d [] (fun f vs=>PySem.call f vs):=by
 intro w s₀ s₁ mg mb G Y fa o pm cd doc dV kV ho hd hcd hD hmg hg args vals as hpre hlay hrd hwl hlo
 obtain rfl:dV=.none:=Dflts.none hD hdf
 obtain rfl:kV=.none:=Dflts.noKw hD
 obtain ⟨a,vs,ns,rfl,rfl,hobj,hints,hlen⟩:=Ax hn hpre hwl
 refine enter_call (Ra (call w s₀ s₁ mg mb fa o pm cd doc a vs ns G Y ho (fd_plain hd) hcd hmg hobj hints hlen hg) fun r s' hq=>?_)
 obtain ⟨rfl,h2,h3,h4⟩:=hq
 exact ⟨.inl ⟨.bool true,.bool true,[],rfl,fun _=>rfl,.bool true,Ay l _,fun _=>⟨List.Pairwise.nil,fun _ hm=>(nomatch hm)⟩⟩,h2,h3,h4⟩
end Att
namespace L2
open PySem PySem.Spec PyProof.Rows
theorem sL:∀ {vs:List Value} {ns:List Int},IntsAre vs ns->Vals (ns.map V.int) vs
 | _,_,.nil=>.nil
 | _,_,.cons n t h=>.cons ⟨t,rfl⟩ (sL h)
def Hl (H:Hp):Prop:=∀ b,H b=none\/∃ o xs,H b=some (.frz o (.lst xs))
theorem By {P:Program} {w:World} {K:PySem.W.Frag} {mg mb:Str->Option Value} {CX:Bd} {k:Nat} {fa a:Addr} {fd:FuncData} {x:Str} {sp:Sp} {s₁:Shared} {vs:List Value} {ns:List Int}
  (KX:K.In s₁.heap) (hns:s₁.heap.Ns mainGlobals mg) (hb:s₁.heap.Ns builtinsNs mb) (hbb:∀ x:Str,x ≠ "__name__" -> mb x=bootBuiltins x) (hlim:s₁.heap.NoLimit) (hg:s₁.gens=#[])
  (ha:s₁.heap.get? a=some {cls:=.type "list",data:=.seq vs.toArray}) (hi:IntsAre vs ns) (hl:ns.length<=sizeLine) (hr:cz k callerA)
  (F:∀ base:Heap,K.In base->base.Ns mainGlobals mg->iy P w K mg base CX k fa fd [x] sp) (hbind:∀ (s:Shared) (u:Value),BindsTo s fd ⟨[u],[]⟩ [(x,u)])
  (hsp:∀ H:Hp,Hl H->iu K H a (ns.map V.int)->sp [.ref a] H (fun v _=>v=.bl true) fun _ _ _=>False)
  (hCX:∀ H e s',CX [] H s₁ (fun _ _ _=>False) e s'->False) :
  codeAny (model P w) callerA (.call (.ref fa) ⟨[.ref a],[]⟩) (fun r s'=>r=.ok (.ret (.bool true))/\OldK s₁.heap s'.heap/\s'.os=s₁.os/\AllBare s'.gens) s₁:=by
 have rv:=sL hi
 have lenV:=hi.length
 have core:∀ H:Hp,Hl H->iu K H a (ns.map V.int)->jx P w H s₁.heap->(∀ b,H b≠none->b=a)->(H a≠none->K.lookup a=none) ->
   codeAny (model P w) callerA (.call (.ref fa) ⟨[.ref a],[]⟩) (fun r s'=>r=.ok (.ret (.bool true))/\OldK s₁.heap s'.heap/\s'.os=s₁.os/\AllBare s'.gens) s₁:=by
  intro H hO hS hok hA hK
  have base_of:∀ {b:Addr} {o:Obj},s₁.heap.get? b=some o->H b=none->(ua s₁.heap H).get? b=some o:=fun e n=>Bf e n
  have noA:∀ {b:Addr} {o:Obj} {es:Array DictEntry} {ep:Nat},s₁.heap.get? b=some o->o.data=.dict es ep->H b=none:=fun {b o es ep} e d=>by
   cases q:H b with
   | none=>rfl
   | some u=>
    have e':b=a:=hA b (by rw [q];simp)
    subst e'
    rw [ha] at e;cases e
    have d':Data.seq vs.toArray _=Data.dict es ep:=d
    cases d'
  have nsK:∀ {b:Addr} {m:Str->Option Value},s₁.heap.Ns b m->(ua s₁.heap H).Ns b m:=fun {b m} ⟨o,es,ep,e,d,r⟩=>⟨o,es,ep,base_of e (noA e d),d,r⟩
  have hKb:K.In (ua s₁.heap H):=fun b o e=>base_of (KX b o e) (by
   cases q:H b with
   | none=>rfl
   | some u=>
    have e':b=a:=hA b (by rw [q];simp)
    subst e'
    rw [hK (by rw [q];simp)] at e;cases e)
  have hM:Mod K mg (ua s₁.heap H):=⟨hKb,nsK hns,⟨mb,nsK hb,hbb⟩,let ⟨mc,h1,h2⟩:=hlim;⟨mc,nsK h1,h2⟩⟩
  have e0:Ea P w K mg (ua s₁.heap H) callerA [] s₁ H:=⟨rfl,hM,fun b o e=>DU e,Nat.le_of_eq (Ak _ _),trivial,fun b hb=>absurd (show b∈([]:List Addr) from hb) (by simp),hok,.of_eq hg⟩
  refine Ra ((F _ hKb (nsK hns)).run callerA [] s₁ H ⟨[.ref a],[]⟩ [.ref a] [.ref a] _ _ hr e0 (hbind s₁ (.ref a)) (.cons rfl .nil) (hsp H hO hS)) fun r s' h=>?_
  cases r with
  | error e=>exact (hCX H e s' h).elim
  | ok fl=>
   cases fl with
   | next=>exact False.elim h
   | brk=>exact False.elim h
   | cont=>exact False.elim h
   | ret u=>
    obtain ⟨v,H',os,bare,un,hok',r',q⟩:=h
    have q':v=.bl true:=q
    subst q'
    obtain rfl:u=Value.bool true:=r'
    refine ⟨rfl,OldK.of_keep fun b o e=>?_,os,bare⟩
    cases q:H b with
    | none=>exact un.keep b o e q (by intro z;exact absurd (show b∈([]:List Addr) from z) (by simp)) (by simp)
    | some u=>
     rcases hO b with z | ⟨ob,xs,z⟩
     ·rw [q] at z;cases z
     ·have z2:=un.frzs b ob _ z
      obtain ⟨e1,_⟩:=hok b _ z
      obtain ⟨e2,_⟩:=hok' b _ z2
      rw [e] at e1;cases e1
      exact e2
 cases hk:K.lookup a with
 | some o=>
  have e:=KX a o hk
  rw [ha] at e
  cases e
  refine core (fun _=>none) (fun _=>.inl rfl) (.inr ⟨_,vs.toArray,_,hk,rfl,rfl,rfl,by rw [NQ,lenV];exact hl,by simpa using rv⟩) (fun b u z=>by have z':(none:Option HO)=some u:=z;cases z') (fun b z=>absurd rfl z) fun z=>absurd rfl z
 | none=>
  refine core (fun b=>if b=a then some (.frz {cls:=.type "list",data:=.seq vs.toArray} (.lst (ns.map V.int))) else none) (fun b=>?_) (.inl (.inr ⟨{cls:=.type "list",data:=.seq vs.toArray},if_pos rfl⟩)) (fun b u z=>?_) (fun b z=>?_) fun _=>hk
  ·by_cases hb:b=a
   ·exact .inr ⟨_,_,if_pos hb⟩
   ·exact .inl (if_neg hb)
  ·by_cases hb:b=a
   ·have z':=(if_pos hb).symm.trans z
    cases z'
    subst hb
    exact ⟨ha,by rw [NZ];exact hl,vs,_,rv,ha⟩
   ·have z':=(if_neg hb).symm.trans z
    cases z'
  ·by_cases hb:b=a
   ·exact hb
   ·exact absurd (if_neg hb) z
theorem Ei {l:PySem.W.OpenLaw} {n k:Nat} {q:Program} {loose:List Str} {XP:(Str->Option Value)->Heap->Prop} {YP:World->Heap->Prop} {d:DefRec} {K:Params->PySem.W.Frag} {CX:World->Bd} {sp:World->Sp} {x:Str}
  (hn:l.most=some n) (hn2:n<=sizeLine) (hdf:d.params.defaults=[]) (hr:cz k callerA)
  (hY:∀ (w:World) (h:Heap),YP w h->(K w.params).In h)
  (F:∀ (w:World) (mg:Str->Option Value) (fa:Addr) (h:Heap),(K w.params).In h->h.Ns mainGlobals mg->mg d.name=some (.ref fa) ->
   ∃ fd:FuncData,(∀ (s:Shared) (u:Value),BindsTo s fd ⟨[u],[]⟩ [(x,u)]) /\
    ∀ base:Heap,(K w.params).In base->base.Ns mainGlobals mg->iy l.prog w (K w.params) mg base (CX w) k fa fd [x] (sp w))
  (hsp:∀ (w:World) (H:Hp) (a:Addr) (ns:List Int),ns.length<=n->Hl H->iu (K w.params) H a (ns.map V.int)->sp w [.ref a] H (fun v _=>v=.bl true) fun _ _ _=>False)
  (hCX:∀ (w:World) (H:Hp) (s:Shared) (e:Value) (s':Shared),CX w [] H s (fun _ _ _=>False) e s'->False) :
  PySem.W.WalkO q loose XP YP l.row.toRowW d [] (fun f vs=>PySem.call f vs):=by
 refine Att.vL hn hdf fun w s₀ s₁ mg mb fa o pm cd doc a vs ns G Y ho hd hcd hmg hobj hints hlen hg=>?_
 have KX:=hY w _ Y
 obtain ⟨fd,hb,hF⟩:=F w mg fa _ KX G.T.g hmg
 exact By KX G.T.g G.T.b G.T.builtins G.T.nolimit hg hobj hints (NS hlen hn2) hr hF hb (fun H hO hS=>hsp w H a ns hlen hO hS) fun H e s'=>hCX w H s₁ e s'
end L2
namespace L2
open PySem PySem.Spec PyProof.Rows
def gN (s:Stmt):Arguments:=match s with
 | .FunctionDef _ a _ _ _ _ _ _ _ _=>a
 | _=>{posonlyargs:=[],args:=[],vararg:=none,kwonlyargs:=[],kw_defaults:=[],kwarg:=none,defaults:=[]}
def eW (s:Stmt):List Stmt:=match s with
 | .FunctionDef _ _ b _ _ _ _ _ _ _=>b
 | _=>[]
def aD (s:Stmt):Scope:=match s with
 | .FunctionDef _ _ _ _ _ _ sc _ _ _=>sc
 | _=>{kind:=.function,names:=[],isGenerator:=false,isCoroutine:=false}
structure F3 (K:PySem.W.Frag) (x qual:Str) (st:Stmt) (f:Addr) (fd:FuncData):Prop where
 ex:∃ (oc:Value) (od:Option Addr) (kV doc pm:Value) (an:Option Addr) (cdv ct:Value) (osl:Array (Option Value)),
  fd=PySem.W.fnOf x qual (gN st) (eW st) (aD st) .none kV doc pm an cdv ct/\K.lookup f=some ⟨oc,od,.func fd,osl⟩/\PySem.W.codeIn K cdv qual=true
 kp:PySem.W.keepIn K (.ref f)=true
section
variable {P:Program} {w:World} {K:PySem.W.Frag} {mg:Str->Option Value} {base:Heap}
theorem F3.binds {x qual:Str} {st:Stmt} {f:Addr} {fd:FuncData} {ps:List Str} (F:F3 K x qual st f fd)
  (h:∀ (kV doc pm:Value) (an:Option Addr) (cdv ct:Value) (us:List Value),us.length=ps.length->bindArgs (PySem.W.fnOf x qual (gN st) (eW st) (aD st) .none kV doc pm an cdv ct) ⟨us,[]⟩=pure (ps.zip us)):Binds K fd ps []:=by
 obtain ⟨oc,od,kV,doc,pm,an,cdv,ct,osl,rfl,lk,hcd⟩:=F.ex
 exact .all (h kV doc pm an cdv ct)
theorem xR {x qual:Str} {st:Stmt} {f:Addr} {oc:Value} {od an:Option Addr} {osl:Array (Option Value)} {kV doc pm cdv ct:Value} (l:K.lookup f=some ⟨oc,od,.func (PySem.W.fnOf x qual (gN st) (eW st) (aD st) .none kV doc pm an cdv ct),osl⟩)
  (c:PySem.W.codeIn K cdv qual=true) (k:PySem.W.keepIn K (.ref f)=true):F3 K x qual st f (PySem.W.fnOf x qual (gN st) (eW st) (aD st) .none kV doc pm an cdv ct):=⟨⟨oc,od,kV,doc,pm,an,cdv,ct,osl,rfl,l,c⟩,k⟩
end
def bH (H H':Hp):Prop:=∀ b o,H b=some o->H' b=some o
theorem bH.refl (H:Hp):bH H H:=fun _ _ h=>h
theorem bH.trans {H H1 H2:Hp} (a:bH H H1) (b:bH H1 H2):bH H H2:=fun c o h=>b c o (a c o h)
theorem bH.free {H H':Hp} (e:bH H H') {l:Addr} (h:H' l=Option.none):H l=Option.none:=by
 cases q:H l with
 | none=>rfl
 | some o=>
  rw [e l o q] at h
  cases h
theorem bH.seq {K:PySem.W.Frag} {H H':Hp} {a:Addr} {xs:List V} (e:bH H H') (h:iu K H a xs):iu K H' a xs:=by
 rcases h with (h | ⟨o,h⟩) | h
 ·exact .inl (.inl (e _ _ h))
 ·exact .inl (.inr ⟨o,e _ _ h⟩)
 ·exact .inr h
def dX (cells:List (Str×Addr)):List (Str×NameKind)->List (Str×Addr)->List (Str×Addr)
 | [],acc=>acc
 | (n,k)::r,acc=>if k == .free then dX cells r ((n,(cells.lookup n).getD 0)::acc) else dX cells r acc
theorem lu {env:Env}:∀ (names:List (Str×NameKind)) (acc:List (Str×Addr)),(∀ n,(n,NameKind.free)∈names->∃ c,env.cells.lookup n=some c) ->
  (forIn (m:=Sem) names acc fun (x:Str×NameKind) (cs:List (Str×Addr))=>match x with
   | (name,kind)=>if (kind == NameKind.free)=true then (do let a <- cellOf env name;pure (ForInStep.yield ((name,a)::cs))) else pure (ForInStep.yield cs))=pure (dX env.cells names acc)
 | [],acc,_=>by rw [PU];rfl
 | (n,k)::r,acc,h=>by
  rw [Pu]
  unfold dX
  by_cases hk:(k == NameKind.free)=true
  ·obtain ⟨c,hc⟩:=h n (by have:=eq_of_beq hk;subst this;exact NU)
   have e:cellOf env n=pure c:=by unfold cellOf;rw [hc]
   simp only [hk,Ot]
   rw [e,hc]
   exact lu r _ fun m hm=>h m (NO _ hm)
  ·simp only [hk]
   exact lu r _ fun m hm=>h m (NO _ hm)
theorem fL {scope:Scope} {env:Env} (h:∀ n,(n,NameKind.free)∈scope.names->∃ c,env.cells.lookup n=some c):closureFor scope env=pure (dX env.cells scope.names []):=by
 have q:=lu (env:=env) scope.names [] h
 unfold closureFor
 exact (PH (fun m=>m >>= fun cs=>pure cs) q)
theorem kb {cells:List (Str×Addr)} {x:Str}:∀ {names:List (Str×NameKind)} {acc:List (Str×Addr)},(x,NameKind.free)∉names->(dX cells names acc).lookup x=acc.lookup x
 | [],_,_=>rfl
 | (n,k)::r,acc,h=>by
  unfold dX
  by_cases hk:(k == NameKind.free)=true
  ·rw [if_pos hk,kb fun z=>h (NO _ z),Pl]
   have:(x == n)=false:=by
    cases e:x == n with
    | false=>rfl
    | true=>
     have e1:=eq_of_beq e
     have e2:=eq_of_beq hk
     subst e1;subst e2
     exact absurd NU h
   rw [this]
  ·rw [if_neg hk,kb fun z=>h (NO _ z)]
theorem gv {cells:List (Str×Addr)} {x:Str}:∀ {names:List (Str×NameKind)} {acc:List (Str×Addr)},(x,NameKind.free)∈names->(dX cells names acc).lookup x=some ((cells.lookup x).getD 0)
 | (n,k)::r,acc,h=>by
  unfold dX
  by_cases hr:(x,NameKind.free)∈r
  ·by_cases hk:(k == NameKind.free)=true
   ·rw [if_pos hk];exact gv hr
   ·rw [if_neg hk];exact gv hr
  ·rcases NJ.mp h with e | e
   ·cases e
    rw [if_pos (show (NameKind.free == NameKind.free)=true from rfl),kb hr,Pl]
    simp
   ·exact absurd e hr
theorem df:∀ (names:List (Str×NameKind)) (n:Nat) (acc:List (Str×Addr)),cellsFrom n names acc=cellsFrom n names []++acc
 | [],_,_=>rfl
 | (x,k)::r,n,acc=>by
  unfold cellsFrom
  by_cases hk:(k == NameKind.cell)=true
  ·rw [if_pos hk,if_pos hk,df r (n+1) ((x,n)::acc),df r (n+1) [(x,n)],RK];rfl
  ·rw [if_neg hk,if_neg hk];exact df r n acc
theorem fM {x:Str} {c:Addr}:∀ {names:List (Str×NameKind)} {n:Nat},(x,c)∈cellsFrom n names []->(x,NameKind.cell)∈names/\n<=c
 | [],_,h=>nomatch h
 | (y,k)::r,n,h=>by
  unfold cellsFrom at h
  by_cases hk:(k == NameKind.cell)=true
  ·rw [if_pos hk,df] at h
   rcases NX.mp h with h | h
   ·obtain ⟨h1,h2⟩:=fM h
    exact ⟨NO _ h1,by omega⟩
   ·have e:(x,c)=(y,n):=by simpa using h
    cases e
    have:=eq_of_beq hk
    subst this
    exact ⟨NU,NI _⟩
  ·rw [if_neg hk] at h
   obtain ⟨h1,h2⟩:=fM h
   exact ⟨NO _ h1,h2⟩
structure ck (sc:Scope) (N own:List Str) (scope:Scope):Prop where
 kind:scope.kind=.function
 frees:∀ n,(n,NameKind.free)∈scope.names->sc.names.lookup n=some .cell\/sc.names.lookup n=some .free
 own:∀ x∈own,(x,NameKind.free)∉scope.names
 out:∀ x∈N,scope.names.lookup x≠some .local/\scope.names.lookup x≠some .cell
 uniq:∀ p∈scope.names,scope.names.lookup p.1=some p.2
def eE (sc:Scope) (N own:List Str) (scope:Scope):Bool:=
 (scope.kind == .function) && scope.names.all (fun p=>p.2 != .free || (sc.names.lookup p.1 == some .cell) || (sc.names.lookup p.1 == some .free)) &&
 own.all (fun x=>scope.names.all fun p=>!(p.1 == x && p.2 == .free)) && N.all (fun x=>scope.names.lookup x != some .local && scope.names.lookup x != some .cell) &&
 scope.names.all (fun p=>scope.names.lookup p.1 == some p.2)
theorem ck.of {sc:Scope} {N own:List Str} {scope:Scope} (h:eE sc N own scope=true):ck sc N own scope:=by
 unfold eE at h
 simp only [NG] at h
 obtain ⟨⟨⟨⟨h1,h2⟩,h3⟩,h4⟩,h5⟩:=h
 refine ⟨eq_of_beq h1,fun n hn=>?_,fun x hx hn=>?_,fun x hx=>?_,fun p hp=>?_⟩
 ·have:=NT.mp h2 _ hn
  simp only [P4,RL,NP,false_or] at this
  rcases this with q | q
  ·exact .inl (eq_of_beq q)
  ·exact .inr (eq_of_beq q)
 ·have:=NT.mp (NT.mp h3 x hx) _ hn
  simp at this
 ·have:=NT.mp h4 x hx
  simp only [NG,bne_iff_ne] at this
  exact this
 ·exact eq_of_beq (NT.mp h5 p hp)
theorem jC {env:Env} {x:Str}:∀ (names:List (Str×NameKind)),
  (names.map fun (n,k)=>if (k == NameKind.free && env.scope.kind == .function && env.kindOf n == some .cell) then (n,NameKind.cell) else (n,k)).lookup x
   = (names.lookup x).map fun k=>if (k == NameKind.free && env.scope.kind == .function && env.kindOf x == some .cell) then NameKind.cell else k
 | []=>rfl
 | (n,k)::r=>by
  have ih:=jC (env:=env) (x:=x) r
  rw [Ob]
  show List.lookup x ((if (k == NameKind.free && env.scope.kind == .function && env.kindOf n == some .cell)=true then (n,NameKind.cell) else (n,k))::_)=_
  by_cases hc:(k == NameKind.free && env.scope.kind == .function && env.kindOf n == some .cell)=true
  ·rw [if_pos hc,Pl,Pl]
   cases hx:x == n with
   | true=>have:=eq_of_beq hx;subst this;exact PH some (if_pos hc).symm
   | false=>exact ih
  ·rw [if_neg hc,Pl,Pl]
   cases hx:x == n with
   | true=>have:=eq_of_beq hx;subst this;exact PH some (if_neg hc).symm
   | false=>exact ih
theorem mem_of_lookupK {names:List (Str×NameKind)} {x:Str} {k:NameKind} (h:names.lookup x=some k):(x,k)∈names:=OT h
def hX (scope:Scope) (C:Addr) (env:Env):Env:=
 {scope:=relabel scope env,locals:=C,globals:=env.globals,cells:=cellsFrom (C+1) scope.names (dX env.cells scope.names []),qual:=env.qual,func:=none,code:=env.code,frame:=env.frame,builtins:=env.builtins}
theorem hZ {M:Model} {A:Around} {E:Value->Shared->Prop} {s:Shared} {scope:Scope} {env:Env} {cl:List (Str×Addr)} {Q:Env->Shared->Prop}
  (hQ:Q {scope:=scope,locals:=s.heap.objs.size,globals:=env.globals,cells:=cellsFrom (s.heap.objs.size+1) scope.names cl,qual:=env.qual,func:=none,code:=env.code,frame:=env.frame,builtins:=env.builtins}
   {s with heap:=pushCells (s.heap.push {cls:=.type "dict",data:=.dict #[]}) scope.names}) :
  wpAny M A (newFunctionEnv scope env.globals cl [] env.qual none .none (some env)) Q E s:=by
 simp only [newFunctionEnv,Option.isSome_some,Ot]
 refine NC (wpAny_alloc ?_)
 refine NC (wpAny_layCells _ (fun name kind cells=>by cases hkc:kind == NameKind.cell<;>simp [hkc]) _ _ _ _ ?_)
 rw [show ({s with heap:=s.heap.push {cls:=.type "dict",data:=.dict #[]}}:Shared).heap.objs.size=s.heap.objs.size+1 from Oi ..]
 exact ND hQ
def aq (X:Cx) (own:List Str) (scope:Scope) (C:Addr) (s2:Shared) (H2:Hp) (fp:List Addr) (pins:List (Addr×Obj)):Cx where
 prog:=X.prog
 w:=X.w
 K:=X.K
 mg:=X.mg
 base:=X.base
 A:=X.A
 N:=own++X.N
 s₀:=s2
 H₀:=H2
 env:=hX scope C X.env
 outer:=X.stack
 stack:=X.stack
 ex:=fp
 fn:=fun x=>own.any (· == x)
 calm:=X.calm
 pn:=X.pn++pins
 xe:=fun _ _=>False
def Kept (X:Cx) (fp:List Addr) (H H':Hp) (s s':Shared):Prop:=s'.os=s.os/\Un (rG X.stack) fp H H' s.heap s'.heap/\jx X.prog X.w H' s'.heap/\AllBare s'.gens
theorem Kept.inv {X:Cx} {pins:List (Addr×Obj)} {σ:St} {H H':Hp} {s s':Shared} {fp:List Addr} (k:Kept X fp H H' s s') (I:Inv X pins σ H s) (hf:∀ b∈fp,gu X pins H b):Inv X pins σ H' s':=
 I.FU k.1 k.2.1 k.2.2.1 k.2.2.2 fun b hb=>⟨(hf b hb).2.2.2.1,(hf b hb).2.1,(hf b hb).2.2.2.2.1,(hf b hb).2.2.2.2.2⟩
section
variable {X:Cx} {own:List Str} {scope:Scope} {pins:List (Addr×Obj)} {σ:St} {H2:Hp} {s2:Shared} {fp:List Addr}
theorem gw (x:Str):(relabel scope X.env).names.lookup x=(scope.names.lookup x).map fun k=>if (k == NameKind.free && X.env.scope.kind == .function && X.env.kindOf x == some .cell) then NameKind.cell else k:=
 jC _
theorem bF {C:Addr} {x:Str} {c:Addr} (h:(hX scope C X.env).cells.lookup x=some c):((x,c)∈cellsFrom (C+1) scope.names []/\(x,NameKind.cell)∈scope.names/\C+1<=c)\/(dX X.env.cells scope.names []).lookup x=some c:=by
 have h':(cellsFrom (C+1) scope.names (dX X.env.cells scope.names [])).lookup x=some c:=h
 rw [df,List.lookup_append] at h'
 cases e:(cellsFrom (C+1) scope.names []).lookup x with
 | some d=>
  rw [e] at h'
  cases h'
  have m:=OT e
  exact .inl ⟨m,fM m⟩
 | none=>
  rw [e] at h'
  exact .inr h'
theorem dE (I:Inv X pins σ H2 s2) (CS:ck X.env.scope X.N own scope) {x:Str} {c:Addr} (h:(dX X.env.cells scope.names []).lookup x=some c):(x,NameKind.free)∈scope.names/\X.env.cells.lookup x=some c:=by
 by_cases hf:(x,NameKind.free)∈scope.names
 ·refine ⟨hf,?_⟩
  rw [gv hf] at h
  obtain ⟨d,hd⟩:=I.ok.has x (CS.frees x hf)
  rw [hd] at h
  cases h
  exact hd
 ·rw [kb hf] at h
  cases h
theorem ui (I:Inv X pins σ H2 s2) (CS:ck X.env.scope X.N own scope) {C:Addr} (hC:s2.heap.objs.size<=C) (hf:∀ b∈fp,gu X pins H2 b) (hl:∀ b∈fp,b < s2.heap.objs.size):(aq X own scope C s2 H2 fp pins).Ok:=by
 have old:∀ x c,(dX X.env.cells scope.names []).lookup x=some c->X.env.cells.lookup x=some c/\c < s2.heap.objs.size:=fun x c h=>by
  obtain ⟨_,q⟩:=dE I CS h
  obtain ⟨v,z⟩:=I.cell x c q
  exact ⟨q,z.lt⟩
 refine ⟨I.ok.mod,CS.kind,I.ok.glob,I.ok.blt,hC,fun x y c h1 h2=>?_,fun x hx=>?_,fun x c hx h=>?_,I.ok.hd,I.ok.frames,.inl rfl,fun b hb=>⟨?_,fun x c h=>?_⟩,I.bs,NS I.ok.bsz I.sz,fun b o e hb=>?_,fun b hb z=>?_,I.stack,I.yS⟩
 ·rcases bF h1 with ⟨a1,_,a2⟩ | a1<;>rcases bF h2 with ⟨b1,_,b2⟩ | b1
  ·have ap:=(cellsFrom_ok scope.names {(default:Heap) with objs:=Array.replicate (C+1) default} (C+1) [] ⟨fun _ _ hm=>(nomatch hm),List.Pairwise.nil⟩ (by simp)).apart
   simp only [Array.size_replicate] at ap
   exact name_of_addr ap a1 b1
  ·exact absurd (NM (old y c b1).2 (NS hC (NS (O9 _) a2))) (N5 _)
  ·exact absurd (NM (old x c a1).2 (NS hC (NS (O9 _) b2))) (N5 _)
  ·exact I.ok.inj x y c (old x c a1).1 (old y c b1).1
 ·have hx':(relabel scope X.env).names.lookup x=some .cell\/(relabel scope X.env).names.lookup x=some .free:=hx
  rw [gw] at hx'
  show ∃ c,(cellsFrom (C+1) scope.names (dX X.env.cells scope.names [])).lookup x=some c
  refine Option.isSome_iff_exists.mp (QY _ _ _ ?_)
  cases e:scope.names.lookup x with
  | none=>rw [e] at hx';simp at hx'
  | some k=>
   rw [e] at hx'
   by_cases hk:k=.free
   ·subst hk
    exact .inr (by rw [gv (mem_of_lookupK e)];rfl)
   ·have hb:(k == NameKind.free)=false:=by simpa using hk
    simp only [RD,hb,Q6,NP,Ou,Qt] at hx'
    rcases hx' with q | q
    ·exact .inl (by rw [q])
    ·exact absurd q hk
 ·obtain ⟨y,hy,e⟩:=Ro.mp hx
  have:=eq_of_beq e
  subst this
  rcases bF h with ⟨_,_,a⟩ | a
  ·exact NS hC (NS (O9 _) a)
  ·exact absurd (dE I CS a).1 (CS.own _ hy)
 ·exact N0 (NM (hl b hb) hC)
 ·rcases bF h with ⟨_,_,a⟩ | a
  ·exact Rk (N0 (NM (hl b hb) (NS hC (NS (O9 _) a))))
  ·exact (hf b hb).2.2.2.2.1 x c (old x c a).1
 ·rcases (hf b hb).2.2.2.1 with z | z
  ·exact I.ok.noex b o e z
  ·exact absurd (NM (NK e) (NS I.ok.bsz z)) (N5 _)
 ·rcases NJ.mp (I.hV b z) with e | e
  ·exact (hf b hb).2.1 e
  ·exact (hf b hb).2.2.1 e
theorem iA (I:Inv X pins σ H2 s2) (CS:ck X.env.scope X.N own scope) {C:Addr} {h:Heap} (hc:∀ c v,s2.heap.IsCell c v->(∃ x,X.env.cells.lookup x=some c)->h.IsCell c v) {m:Str->Option Value} :
  ∀ (i:Nat) (x:Str) (v:V),(own++X.N)[i]?=some x->(List.replicate own.length (none:Option V)++σ)[i]?=some (some v)->DX (relabel scope X.env) x->∃ u,RelV v u/\Look (hX scope C X.env) h m x u:=by
 intro i x v h1 h2 h3
 have hi:own.length<=i:=by
  by_cases hi:own.length<=i
  ·exact hi
  ·rw [Oh (by simpa using hi),Qc] at h2
   split at h2<;>cases h2
 rw [Oo hi] at h1
 rw [Oo (by simpa using hi),OJ] at h2
 have hN:=CS.out x (Od h1)
 have hfr:scope.names.lookup x=some .free:=by
  unfold DX at h3
  rw [gw] at h3
  cases e:scope.names.lookup x with
  | none=>rw [e] at h3;simp at h3
  | some k=>
   rw [e] at h3 hN
   by_cases hk:k=.free
   ·rw [hk]
   ·have hb:(k == NameKind.free)=false:=by simpa using hk
    simp only [RD,hb,Q6,NP,Ou,Qt] at h3
    rcases h3 with q | q | q
    ·exact absurd (by rw [q]) hN.1
    ·exact absurd (by rw [q]) hN.2
    ·exact absurd q hk
 have hm:=mem_of_lookupK hfr
 have hk:=CS.frees x hm
 obtain ⟨mX,hn,hl⟩:=I.loc
 obtain ⟨u,r,l⟩:=hl _ x v h1 h2 (hk.elim (fun z=>.inr (.inl z)) fun z=>.inr (.inr z))
 refine ⟨u,r,?_⟩
 rcases l with ⟨z,_⟩ | ⟨_,c,hcx,z⟩
 ·have z':X.env.scope.names.lookup x=some .local:=z
  rcases hk with q | q<;>rw [q] at z'<;>cases z'
 ·refine .inr ⟨?_,c,?_,hc c _ z ⟨x,hcx⟩⟩
  ·show (relabel scope X.env).names.lookup x=some .cell\/(relabel scope X.env).names.lookup x=some .free
   rw [gw,hfr]
   simp only [RD]
   split
   ·exact .inl rfl
   ·exact .inr rfl
  ·show (cellsFrom (C+1) scope.names (dX X.env.cells scope.names [])).lookup x=some c
   rw [df,List.lookup_append]
   have no:(cellsFrom (C+1) scope.names []).lookup x=none:=by
    cases e:(cellsFrom (C+1) scope.names []).lookup x with
    | none=>rfl
    | some d=>
     have:=CS.uniq _ (fM (OT e)).1
     simp only [] at this
     rw [hfr] at this
     cases this
   rw [no,gv hm,hcx]
   rfl
end
theorem xS {prog:Program} {w:World} {A:Around} {R:Result->Shared->Prop} {s:Shared} {elt target iter:Expr} {ifs:List Expr} {scope:Scope} {pos:Pos} {it acc:Value} {env:Env} (I:Nat->Shared->Prop)
  (turn:∀ n s,I n s->wpAny (model prog w) A (pyNext it) (fun r s1=>match r with
   | none=>R (.ok .next) s1
   | some v=>wpAny (model prog w) A (letOwnedTupleGo target it v) (fun _ s2=>wpAny (model prog w) A (assign target env v) (fun _ s3=>
     wpAny (model prog w) A (forIn ifs true fun c r=>if r=true then do let ok <- isTrue c env (eval c env);pure (ForInStep.yield ok) else pure (ForInStep.yield r)) (fun ok s4=>
      if ok=true then wpAny (model prog w) A (eval elt env) (fun x s5=>
       wpAny (model prog w) A (call (.builtin "list.append") [acc,x]) (fun _ s6=>∃ m,m < n/\I m s6) (fun _ _=>False) s5) (fun _ _=>False) s4
      else ∃ m,m < n/\I m s4) (fun _ _=>False) s3) (fun _ _=>False) s2) (fun _ _=>False) s1) (fun _ _=>False) s)
  (n:Nat) (h:I n s) :
  codeAny (model prog w) A (.compLoop (.ListComp elt [⟨target,iter,ifs,0⟩] scope pos) 0 it acc env) R s:=by
 refine codeAny_loop rfl I (fun n s hI=>?_) n h
 show wpAny _ A ((compTurn (.ListComp elt [⟨target,iter,ifs,0⟩] scope pos) 0 it acc env).onRaise (fun x=>do noteFrame x env;theTreesLotGoes x)) _ _ s
 refine wpAny_noted ?_
 rw [compTurn_list]
 refine OU (E:=fun _ _=>False) (E':=_) (Q':=_) ?_ (fun _ _ q=>q) fun _ _ z=>z.elim
 refine NC (Pd (NC (bA (turn n s hI) (fun r s1 h1=>?_))))
 cases r with
 | none=>exact ND h1
 | some v=>
  refine NC (bA h1 fun _ s2 h2=>?_)
  refine NC (bA h2 fun _ s3 h3=>NC (bA h3 fun ok s4 h4=>?_))
  cases ok with
  | false=>exact ND ⟨rfl,h4⟩
  | true=>exact NC (NC (bA h4 fun x s5 h5=>NC (bA h5 fun _ s6 h6=>ND (ND ⟨rfl,h6⟩))))
def Az (X:Cx) (ifs:List Expr) (t:TT):Prop:=
 ∀ (pins:List (Addr×Obj)) (s:Shared) (σ:St) (H:Hp) (Q:Bool->Hp->Prop),Inv X pins σ H s->t σ H Q ->
  wpAny (model X.prog X.w) X.A (forIn ifs true fun c r=>if r=true then do let ok <- isTrue c X.env (eval c X.env);pure (ForInStep.yield ok) else pure (ForInStep.yield r)) (TP X pins σ Q) X.xe s
def LF:TT:=fun _ H Q=>Q true H
theorem Ej {X:Cx}:Az X [] LF:=fun _ _ _ H _ I h=>wpAny_tests_nil ⟨H,I,h⟩
theorem Ek {X:Cx} {c:Expr} {t:TT} (h:PT X c t):Az X [c] t:=fun pins s σ H Q I q=>wpAny_tests_one (h pins s σ H Q I q)
def Bz (n:Nat) (J:It) (g:TG) (tc:TT) (te:TE) (σ:St) (H:Hp) (Q:VK):Prop:=
 ∃ W:Nat->Nat->List V->Hp->Prop,(∃ m,W 0 m [] H)/\∀ i m ys H,W i m ys H ->
  (J.stop i H/\ys.length<=sizeLine/\∀ p,H p=none->Q (.ref p) (upd H p (.lst ys))) \/
  (J.go i H/\ys.length<=sizeLine/\∃ N:List V->Hp->Prop,(∀ ys' H',N ys' H'->∃ m',m' < m/\W (i+1) m' ys' H')/\∀ x H',J.yld i H x H'->g x (List.replicate n none++σ) H' fun σ2 H2=>tc σ2 H2 fun b H3=>
   if b=true then te σ2 H3 fun y H4=>N (ys++[y]) H4 else N ys H3)
theorem pR {X:Cx} {own:List Str} {scope:Scope} {pins:List (Addr×Obj)} {σ:St} {H2:Hp} {s2:Shared} {fp:List Addr} {it:Addr} {tn:Nat->Heap->Prop} {J:It} {elt tg iter:Expr} {ifs:List Expr} {pos:Pos} {g:TG} {tc:TT} {te:TE} {Q:VK}
  {RR:Value->Addr->Result->Shared->Prop} {E:Value->Shared->Prop} (I:Inv X pins σ H2 s2) (CS:ck X.env.scope X.N own scope) (hc:X.calm=true) (T:Turn X.prog X.w X.K tg J fp it tn) (st:tn 0 s2.heap) (hf:∀ b∈fp,gu X pins H2 b)
  (hg:∀ C s2 H2 fp pins,PG (aq X own scope C s2 H2 fp pins) tg g) (ht:∀ C s2 H2 fp pins,Az (aq X own scope C s2 H2 fp pins) ifs tc) (he:∀ C s2 H2 fp pins,PE (aq X own scope C s2 H2 fp pins) elt te)
  (hW:Bz own.length J g tc te σ H2 Q)
  (hR:∀ D C H' s',Inv X pins σ H' s'->gu X pins H' C->(∃ m,s'.heap.Ns C m)->Q (.ref D) H'->Kept X fp H2 H' s2 s'->RR (.ref D) C (.ok .next) s') :
  wpAny (model X.prog X.w) X.A (newList []) (fun acc s3=>wpAny (model X.prog X.w) X.A (newFunctionEnv scope X.env.globals (dX X.env.cells scope.names []) [] X.env.qual none .none (some X.env)) (fun cenv s4=>
   codeAny (model X.prog X.w) X.A (.compStart (.ListComp elt [⟨tg,iter,ifs,0⟩] scope pos) 0 (.ref it) acc {cenv with scope:=relabel scope X.env}) (RR acc cenv.locals) s4) E s3) E s2:=by
 refine Om (hZ ?_)
 dsimp only
 generalize hH:s2.heap.push {cls:=.type "list",dict:=none,data:=.seq ([]:List Value).toArray}=h3
 have hDC:h3.objs.size=s2.heap.objs.size+1:=by rw [<- hH,Oi]
 have eC:({scope:=relabel scope X.env,locals:=h3.objs.size,globals:=X.env.globals,cells:=cellsFrom (h3.objs.size+1) scope.names (dX X.env.cells scope.names []),qual:=X.env.qual,func:=none,code:=X.env.code,frame:=X.env.frame,builtins:=X.env.builtins}:Env)=hX scope h3.objs.size X.env:=rfl
 rw [eC]
 generalize eD:s2.heap.objs.size=D at *
 generalize eCC:h3.objs.size=C at *
 have hl:∀ b∈fp,b < s2.heap.objs.size:=fun b hb=>by
  obtain ⟨o,e,_⟩:=T.obj 0 _ st b hb
  exact NK e
 have hC:s2.heap.objs.size<=C:=by omega
 generalize hH4:pushCells (h3.push {cls:=.type "dict",data:=.dict #[]}) scope.names=h4
 have k34:∀ b o,(h3.push {cls:=.type "dict",data:=.dict #[]}).get? b=some o->h4.get? b=some o:=fun b o e=>by rw [<- hH4];exact pushCells_keeps _ _ b o e
 have k24:∀ b o,s2.heap.get? b=some o->h4.get? b=some o:=fun b o e=>k34 b o (NF _ (by rw [<- hH];exact NF _ e))
 have nsC:h4.Ns C fun _=>none:=by
  have:=Heap.Ns.new h3 (.type "dict")
  rw [eCC] at this
  exact this.keeps k34
 have accD:h4.get? D=some {cls:=.type "list",data:=.seq (([]:List Value).toArray)}:=k34 _ _ (NF _ (by rw [<- hH,<- eD];exact NL _ rfl))
 have cellN:∀ x c,(x,c)∈cellsFrom (C+1) scope.names []->h4.IsCell c none/\C+1<=c:=fun x c hm=>by
  have ok:=cellsFrom_ok scope.names (h3.push {cls:=.type "dict",data:=.dict #[]}) (C+1) [] ⟨fun _ _ hm=>(nomatch hm),List.Pairwise.nil⟩ (by rw [Oi];omega)
  rw [Oi,eCC,hH4] at ok
  exact ok.empty x c hm
 have hne:H2 D=none:=by rw [<- eD];exact I.hok.fresh (NI _)
 have ok':(aq X own scope C s2 H2 fp pins).Ok:=ui I CS hC hf hl
 have rebase:∀ {σ':St} {H':Hp} {ps:List (Addr×Obj)} {s':Shared},Inv (aq X own scope C s2 H2 fp pins) ps σ' H' s'->Inv (aq X own scope C s2 H2 fp pins) ps (List.replicate own.length none++σ) H' s':=fun {σ' H' ps s'} J'=>by
  obtain ⟨m,hn,_⟩:=J'.loc
  refine ⟨J'.ok,J'.os,J'.bare,J'.base,⟨m,hn,iA I CS fun c v z ⟨x,hx⟩=>?_⟩,J'.cell,J'.free,J'.freeC,J'.pin,J'.hok,?_⟩
  ·obtain ⟨o,ho,hd⟩:=z
   obtain ⟨sl,e⟩:=J'.base.any ho (I.freeC x c hx) fun hb=>(hf c hb).2.2.2.2.1 x c hx rfl
   exact ⟨_,e,hd⟩
  ·show (List.replicate own.length none++σ).length=(own++X.N).length
   rw [N4,N4,OJ,I.len]
 have start:Inv (aq X own scope C s2 H2 fp pins) [] (List.replicate own.length none++σ) H2 {s2 with heap:=h4}:=by
  have I4:Inv X pins σ H2 {s2 with heap:=h4}:=I.kept (t':=s2.toks) k24
  refine ⟨ok',rfl,I.bare,Un.kept k24,⟨_,nsC,iA I CS fun c v z _=>z.keeps k24⟩,fun x c h=>?_,I.hok.fresh hC,fun x c h=>?_,fun p hp=>?_,I4.hok,?_⟩
  ·rcases bF h with ⟨a,_,_⟩ | a
   ·exact ⟨_,(cellN x c a).1⟩
   ·obtain ⟨v,z⟩:=I.cell x c (dE I CS a).2
    exact ⟨v,z.keeps k24⟩
  ·rcases bF h with ⟨_,_,a⟩ | a
   ·exact I.hok.fresh (NS hC (NS (O9 _) a))
   ·exact I.freeC x c (dE I CS a).2
  ·have hp':p∈X.pn++pins:=by
    rcases NX.mp hp with z | z
    ·exact z
    ·exact nomatch z
   obtain ⟨e,n,ne,nf,d⟩:=I.pin p hp'
   refine ⟨k24 _ _ e,n,N0 (NM (NK e) hC),fun z=>?_,d⟩
   rcases NJ.mp (I.hV _ z) with q | q
   ·exact ne q
   ·exact nf q
  ·show (List.replicate own.length none++σ).length=(own++X.N).length
   rw [N4,N4,OJ,I.len]
 obtain ⟨W,⟨m0,w0⟩,turn⟩:=hW
 have nfs:∀ b,s2.heap.objs.size<=b->b∉(aq X own scope C s2 H2 fp pins).fs:=fun b hb z=>by
  rcases NJ.mp (I.hV b z) with q | q
  ·rw [q] at hb;exact absurd (NM I.lt hb) (N5 _)
  ·exact I.xD hb q
 have fpD:∀ {H':Hp},H' D=none->gu (aq X own scope C s2 H2 fp pins) [] H' D:=fun {H'} hn=>by
  refine ⟨hn,N0 (by show D < C;omega),nfs D (by omega),.inr (by show s2.heap.objs.size<=D;omega),fun x c h z=>?_,fun p hp z=>?_⟩
  ·rcases bF h with ⟨_,_,a⟩ | a
   ·rw [z] at a;exact absurd (NM (show D < C+1 by omega) a) (N5 _)
   ·obtain ⟨v,q⟩:=I.cell x c (dE I CS a).2
    have:=q.lt
    rw [z,eD] at this
    exact N5 _ this
  ·have hp':p∈X.pn++pins:=by
    rcases NX.mp hp with z | z
    ·exact z
    ·exact nomatch z
   have:=NK (I.pin p hp').1
   rw [z,eD] at this
   exact N5 _ this
 have nD:D∉fp:=fun z=>by have:=hl D z;rw [eD] at this;exact N5 _ this
 have stat:∀ {H':Hp} {ps:List (Addr×Obj)},(∀ p∈ps,p.1=D)->(∀ b∈fp,H' b=none)->∀ b∈fp,gu (aq X own scope C s2 H2 fp pins) ps H' b:=fun {H' ps} hps hn b hb=>by
  obtain ⟨f0,f1,f2,f3,f4,f5⟩:=hf b hb
  refine ⟨hn b hb,(ok'.exf b hb).1,ok'.exfs b hb,.inl hb,(ok'.exf b hb).2,fun p hp=>?_⟩
  rcases NX.mp hp with z | z
  ·exact f5 p z
  ·rw [hps p z]
   exact fun q=>nD (q▸hb)
 let LI:Nat->Shared->Prop:=fun n s'=>∃ i ys its k H',Inv (aq X own scope C s2 H2 fp pins) [] (List.replicate own.length none++σ) H' s'/\tn i s'.heap/\(∀ b∈fp,H' b=none)/\H' D=none /\
  s'.heap.get? D=some {cls:=.type "list",data:=.seq (List.toArray its) k}/\Vals ys its/\W i n ys H'
 have l0:LI m0 {s2 with heap:=h4}:=⟨0,[],[],0,H2,start,T.keep _ _ _ st fun b _ o e=>k24 b o e,fun b hb=>(hf b hb).1,hne,accD,.nil,w0⟩
 have loop:codeAny (model X.prog X.w) X.A (.compLoop (.ListComp elt [⟨tg,iter,ifs,0⟩] scope pos) 0 (.ref it) (.ref D) (hX scope C X.env)) (RR (.ref D) C) {s2 with heap:=h4}:=by
  refine xS LI ?_ m0 l0
  rintro n s3 ⟨i,ys,its,k,H3,I3,st3,fr3,d3,a3,v3,w3⟩
  rcases turn i n ys H3 w3 with ⟨stop,hz,qn⟩ | ⟨go,hz,NN,hNN,step⟩
  ·have I3p:=I3.pinned (fp:=[D]) (fun b hb=>(N8.mp hb)▸fpD d3) fun b hb=>⟨_,(N8.mp hb)▸a3,fun v z=>(by cases z)⟩
   refine bA (T.done (aq X own scope C s2 H2 fp pins) rfl rfl rfl hc i _ s3 _ H3 _ I3p (stat (fun p hp=>by have q:p∈bG [D] s3.heap:=hp;have:=(dN q).1;simpa using this) fr3) st3 stop) fun r s4 ⟨hr,I4⟩=>?_
   subst hr
   have a4:s4.heap.get? D=_:=(I4.pin (D,_) (NH _ (NH _ (aS (by simp) a3)))).1
   have u4:Un (rG X.stack) fp H2 H3 s2.heap s4.heap:=I4.base
   have okD:jx X.prog X.w (upd H3 D (.lst ys)) s4.heap:=fun b o e=>by
    by_cases hb:b=D
    ·subst hb
     rw [ba] at e
     cases e
     exact ⟨hz,its,k,v3,a4⟩
    ·rw [aB hb] at e
     exact (I4.hok b o e).pJ (fun _ _ _ q=>q) (fun c q=>by rw [aB (aH q d3)];exact q) fun c xs q=>by rw [aB (aH q d3)];exact q
   have nDo:∀ b o,s2.heap.get? b=some o->b≠D:=fun b o e=>by rw [<- eD];exact N0 (NK e)
   have uD:Un (rG X.stack) fp H2 (upd H3 D (.lst ys)) s2.heap s4.heap:=⟨u4.keep,u4.slot,fun b o e n hx=>by rw [aB (nDo b o e)];exact u4.free b o e n hx,u4.there,
    fun b xs e=>by rw [aB (aH e hne)];exact u4.tups b xs e,fun b o xs e=>by rw [aB (aH e hne)];exact u4.frzs b o xs e,fun b ps e=>by rw [aB (aH e hne)];exact u4.tbls b ps e⟩
   have kp:Kept X fp H2 (upd H3 D (.lst ys)) s2 s4:=⟨I4.os,uD,okD,I4.bare⟩
   have I5:Inv X pins σ (upd H3 D (.lst ys)) s4:=kp.inv I hf
   obtain ⟨m,hn,_⟩:=I4.loc
   refine hR D C _ s4 I5 ⟨by rw [aB (show C≠D by omega)];exact I4.free,Qn (NM I.lt hC),I.xD hC,.inr (NS I.sz hC),fun x c e z=>?_,fun p hp z=>?_⟩ ⟨m,hn⟩ (qn D d3) kp
   ·obtain ⟨v,q⟩:=I.cell x c e
    exact absurd (NM q.lt (by rw [z];exact hC)) (N5 _)
   ·exact absurd (NM (NK (I.pin p hp).1) (by rw [z];exact hC)) (N5 _)
  ·have I3p:=I3.pinned (fp:=[D]) (fun b hb=>(N8.mp hb)▸fpD d3) fun b hb=>⟨_,(N8.mp hb)▸a3,fun v z=>(by cases z)⟩
   have onlyD:∀ p∈([]++bG [D] s3.heap),p.1=D:=fun p hp=>by have q:p∈bG [D] s3.heap:=hp;have:=(dN q).1;simpa using this
   refine bA (T.item (aq X own scope C s2 H2 fp pins) rfl rfl rfl hc i _ s3 _ H3 _ I3p (stat onlyD fr3) st3 go) fun r s4 ⟨u,hr,h4'⟩=>?_
   subst hr
   refine bA h4' fun _ s5 ⟨x,H5,I5,r5,y5,st5,fr5⟩=>?_
   have I5p:=I5.pinned (fp:=fp) (stat onlyD fr5) (T.obj _ _ st5)
   have cont:∀ {s6:Shared} {σ6:St} {H6:Hp},Inv (aq X own scope C s2 H2 fp pins) (([]++bG [D] s3.heap)++bG fp s5.heap) σ6 H6 s6 ->
     Inv (aq X own scope C s2 H2 fp pins) [] (List.replicate own.length none++σ) H6 s6/\tn (i+1) s6.heap/\(∀ b∈fp,H6 b=none)/\H6 D=none/\s6.heap.get? D=some {cls:=.type "list",data:=.seq (List.toArray its) k}:=fun {s6 σ6 H6} I6=>by
    have pD:=I6.pin (D,_) (NH _ (Oq _ (NH _ (aS (by simp) a3))))
    refine ⟨rebase (I6.iO fun p hp=>nomatch hp),T.keep _ _ _ st5 fun b hb o e=>(I6.pin (b,o) (NH _ (NH _ (aS hb e)))).1,fun b hb=>?_,pD.2.1,pD.1⟩
    obtain ⟨o,e,_⟩:=T.obj _ _ st5 b hb
    exact (I6.pin (b,o) (NH _ (NH _ (aS hb e)))).2.1
   refine bA (hg C s2 H2 fp pins _ s5 _ H5 x u _ I5p r5 (step x H5 y5)) fun _ s6 ⟨σ6,H6,I6,q6⟩=>?_
   refine bA (ht C s2 H2 fp pins _ s6 σ6 H6 _ I6 q6) fun b s7 ⟨H7,I7,q7⟩=>?_
   cases b with
   | false=>
    have q7':NN ys H7:=q7
    obtain ⟨m',hm,w7⟩:=hNN _ _ q7'
    obtain ⟨c1,c2,c3,c4,c5⟩:=cont I7
    exact ⟨m',hm,i+1,ys,its,k,H7,c1,c2,c3,c4,c5,v3,w7⟩
   | true=>
    refine bA (he C s2 H2 fp pins _ s7 σ6 H7 _ I7 q7) fun v s8 ⟨y,H8,I8,r8,q8⟩=>?_
    obtain ⟨m',hm,w8⟩:=hNN _ _ q8
    obtain ⟨c1,c2,c3,c4,c5⟩:=cont I8
    refine wpAny_list_append_plain ⟨k,c5⟩ (fun h' hp hs=>?_) (by rw [NQ,<- v3.length];exact hz)
    obtain ⟨k',e'⟩:=hp
    obtain ⟨f0,f1,f2,f3,f4,f5⟩:=fpD c4
    refine ⟨m',hm,i+1,ys++[y],its++[v],k',H8,c1.turned (t':=s8.toks) (fun b o hb e=>(hs.2 b hb).trans e) f0 f1 f3 f4 f5,T.keep _ _ _ c2 fun b hb o e=>(hs.2 b fun z=>nD (z▸hb)).trans e,c3,c4,?_,v3.append (.cons r8 .nil),w8⟩
    show h'.get? D=_
    rw [e']
    simp
 exact codeAny_compStart_list loop (T.self X.A 0 {s2 with heap:=h4} _ _ (T.keep _ _ _ st fun b _ o e=>k24 b o e) loop)
section
variable {X:Cx} {own:List Str} {scope:Scope} {elt tg iter:Expr} {ifs:List Expr} {pos:Pos} {wi:TI} {g:TG} {tc:TT} {te:TE}
def y7 (n:Nat) (wi:TI) (g:TG) (tc:TT) (te:TE):TE:=fun σ H Q=>wi σ H fun J H1=>Bz n J g tc te σ H1 Q
theorem iP {sc:Scope} {N:List Str} (CS:ck sc N own scope):∀ x∈scope.names,x.2=.local->scope.names.lookup x.1=some .local:=fun x hx e=>by rw [CS.uniq x hx,e]
theorem Em (own:List Str) (CS:eE X.env.scope X.N own scope=true) (hc:X.calm=true) (hi:PI X tg iter wi) (hg:∀ C s2 H2 fp pins,PG (aq X own scope C s2 H2 fp pins) tg g)
  (ht:∀ C s2 H2 fp pins,Az (aq X own scope C s2 H2 fp pins) ifs tc) (he:∀ C s2 H2 fp pins,PE (aq X own scope C s2 H2 fp pins) elt te) (hs:∀ x,foldedSetIterable iter X.env x=pure x:=by intro _;rfl) :
  PE X (.ListComp elt [⟨tg,iter,ifs,0⟩] scope pos) (y7 own.length wi g tc te):=by
 intro pins s σ H Q I h
 have CS:=ck.of CS
 rw [eval_ListComp]
 refine P5 (use:=none) (g:=⟨tg,iter,ifs,0⟩) rfl hs (fL fun n hn=>I.ok.has n (CS.frees n hn)) CS.kind (iP CS) (bA (hi pins s σ H _ I h) fun v s1 h1=>bA h1 fun itv s2 h2=>?_)
 obtain ⟨it,fp,tn,J,H2,e,I2,T,st2,f2,hW⟩:=h2
 subst e
 refine pR (RR:=fun acc C=>compPost (model X.prog X.w) X.A X.xe none (EP X pins σ Q) acc C) I2 CS hc T st2 f2 hg ht he hW fun D C H' s' I' fC ⟨m,hn⟩ q _=>?_
 refine ⟨m,hn,fun h' hs'=>⟨.ref D,H',?_,rfl,q⟩⟩
 obtain ⟨f0,f1,_,f3,f4,f5⟩:=fC
 exact I'.turned (t':=s'.toks) (fun b o hb e=>(hs'.2 b hb).trans e) f0 f1 f3 f4 f5
theorem En (own:List Str) {i:Nat} {x:Str} {pos' spos:Pos} (hN:X.N.Nodup) (hxi:X.N[i]?=some x) (hx:X.env.scope.names.lookup x=some .local) (CS:eE X.env.scope X.N own scope=true) (hc:X.calm=true) (hi:PI X tg iter wi) (hg:∀ C s2 H2 fp pins,PG (aq X own scope C s2 H2 fp pins) tg g)
  (ht:∀ C s2 H2 fp pins,Az (aq X own scope C s2 H2 fp pins) ifs tc) (he:∀ C s2 H2 fp pins,PE (aq X own scope C s2 H2 fp pins) elt te) (hs:∀ x,foldedSetIterable iter X.env x=pure x:=by intro _;rfl)
  (hsw:swapsWith (.ListComp elt [⟨tg,iter,ifs,0⟩] scope pos) (some (.Name x pos')) spos.line X.env=pure true:=by rfl) :
  PS X (.Assign [.Name x pos'] (.ListComp elt [⟨tg,iter,ifs,0⟩] scope pos) spos) (Al (y7 own.length wi g tc te) (ay i)):=by
 intro pins s σ H D I h
 have CS:=ck.of CS
 rw [exec_Assign_Name_used _ _ _ _ hsw]
 refine NC (Pd (NC ?_))
 show wpAny _ X.A (do let _ <- comprehension (.ListComp elt [⟨tg,iter,ifs,0⟩] scope pos) scope X.env _ (newList []) false (eval iter X.env) (some (assign (.Name x pos') X.env))) _ _ s
 refine NC (bA (P5 (use:=some (assign (.Name x pos') X.env)) (Q:=fun _ s'=>SP X pins D .next s') (g:=⟨tg,iter,ifs,0⟩) rfl hs (fL fun n hn=>I.ok.has n (CS.frees n hn)) CS.kind (iP CS)
  (bA (hi pins s σ H _ I h) fun v s1 h1=>bA h1 fun itv s2 h2=>?_)) fun _ s' hq=>ND (ND hq))
 obtain ⟨it,fp,tn,J,H2,e,I2,T,st2,f2,hW⟩:=h2
 subst e
 refine pR (Q:=fun x H1=>ay i x σ H1 D.nx) (RR:=fun acc C=>compPost (model X.prog X.w) X.A X.xe (some (assign (.Name x pos') X.env)) (fun _ s'=>SP X pins D .next s') acc C) I2 CS hc T st2 f2 hg ht he hW fun Dl C H' s' I' fC ⟨m,hn⟩ q _=>?_
 show wpAny _ _ (assign (.Name x pos') X.env (.ref Dl)) _ _ s'
 refine wpAny_assign_Name (nA (v:=.ref Dl) I' hN hxi (.inl hx) rfl (fun s'' I'' hsb=>?_) (.inr hx))
 obtain ⟨f0,f1,f2',f3,f4,f5⟩:=fC
 obtain ⟨a,sb,ha⟩:=hsb
 have hCa:C≠a:=by
  rcases ha with e | e
  ·rw [e];exact f1
  ·exact (f4 x a e).symm
 refine ⟨m,hn.sameBut sb hCa,fun h' hs'=>⟨_,H',?_,q⟩⟩
 exact I''.turned (t':=s''.toks) (fun b o hb e=>(hs'.2 b hb).trans e) f0 f1 f3 f4 f5
end
structure Nx (P:Program) (w:World) (i l:Addr) (st:Nat->Heap->Prop) (xs:List Value):Prop where
 obj:∀ k h,st k h->∃ o vs,h.get? i=some o/\o.data=.fields vs
 keep:∀ k h h',st k h->(∀ o,h.get? i=some o->h'.get? i=some o)->(∀ o,h.get? l=some o->h'.get? l=some o)->st k h'
 item:∀ (A:Around) k (s:Shared) x (Q:Value->Shared->Prop) (E:Value->Shared->Prop),st k s.heap->xs[k]?=some x->(∀ h',st (k+1) h'->Heap.SameBut i s.heap h'->Q x {s with heap:=h'}) ->
  wpAny (model P w) A (Builtin.SmallTypes.nextOf (.ref i)) Q E s
 done:∀ (A:Around) k (s:Shared) (Q:Value->Shared->Prop) (E:Value->Shared->Prop),A.handled=none->st k s.heap->xs[k]?=none ->
  (∀ h' e,Heap.ExtBut i s.heap h'->(∃ o,h'.get? e=some o/\o.cls=.type "StopIteration")->E (.ref e) {s with heap:=h'})->wpAny (model P w) A (Builtin.SmallTypes.nextOf (.ref i)) Q E s
section
variable {P:Program} {w:World} {A:Around} {E:Value->Shared->Prop} {s:Shared}
theorem vM {h:Heap} {i l:Addr} {k:Nat} {its:Array Value} (a:h.IsTupleIter i l k) (b:h.IsTuple l its):i≠l:=fun e=>by
 obtain ⟨o,h1,c1,_⟩:=a
 obtain ⟨o',h2,c2,_⟩:=b
 rw [e,h2] at h1;cases h1
 rw [c2] at c1
 exact absurd c1 (by decide)
theorem xT {it t:Addr} {k:Nat} {its:Array Value} {x:Value} {Q:Value->Shared->Prop} (a:s.heap.IsTupleIter it t k) (b:s.heap.IsTuple t its) (hx:its[k]?=some x)
  (q:∀ h',h'.IsTupleIter it t (k+1)->Heap.SameBut it s.heap h'->Q x {s with heap:=h'}):wpAny (model P w) A (Builtin.SmallTypes.nextOf (.ref it)) Q E s:=by
 obtain ⟨oi,gi,ci,di⟩:=id a
 obtain ⟨ot,gt,_,nt,dt⟩:=b
 unfold Builtin.SmallTypes.nextOf
 refine NC (Oj (name:=Str.ofString "__next__") a.typeIs PB (Of PB a.typeIs F.entry_tuple_iterator_next ?_ (F.args_tuple_iterator_next_1 _)))
 show wpAny _ _ (field (Value.ref it) 0 >>= _) _ _ s
 refine NC (OZ (x:=Value.ref t) gi di rfl ?_)
 rw [if_neg (show ¬ (Value.ref t == Value.none)=true from Oa)]
 show wpAny _ _ (field (Value.ref it) 1 >>= _) _ _ s
 refine NC (OZ (x:=Value.int k 0) gi di rfl ?_)
 show wpAny _ _ (seqItems? (Value.ref t) >>= _) _ _ s
 refine NC (OL gt dt ?_)
 simp only [hx,OG]
 refine NC (Q7 gi di (by simp) (ND ⟨x,rfl,ND (q _ ⟨_,OV _ gi (Rg (Qm di _)),(Obj.cls_mapFields ..).trans ci,?_⟩ (Py ..))⟩))
 rw [Qm di]
 simp [rawInt]
theorem pS {it t:Addr} {k:Nat} {its:Array Value} {Q:Value->Shared->Prop} (hh:A.handled=none) (a:s.heap.IsTupleIter it t k) (b:s.heap.IsTuple t its) (hx:its[k]?=none)
  (q:∀ h' e,Heap.ExtBut it s.heap h'->(∃ o,h'.get? e=some o/\o.cls=.type "StopIteration")->E (.ref e) {s with heap:=h'}):wpAny (model P w) A (Builtin.SmallTypes.nextOf (.ref it)) Q E s:=by
 obtain ⟨oi,gi,ci,di⟩:=id a
 obtain ⟨ot,gt,_,nt,dt⟩:=b
 unfold Builtin.SmallTypes.nextOf
 refine NC (Oj (name:=Str.ofString "__next__") a.typeIs PB (Of PB a.typeIs F.entry_tuple_iterator_next ?_ (F.args_tuple_iterator_next_1 _)))
 show wpAny _ _ (field (Value.ref it) 0 >>= _) _ _ s
 refine NC (OZ (x:=Value.ref t) gi di rfl ?_)
 rw [if_neg (show ¬ (Value.ref t == Value.none)=true from Oa)]
 show wpAny _ _ (field (Value.ref it) 1 >>= _) _ _ s
 refine NC (OZ (x:=Value.int k 0) gi di rfl ?_)
 show wpAny _ _ (seqItems? (Value.ref t) >>= _) _ _ s
 refine NC (OL gt dt ?_)
 simp only [hx,OG]
 refine NC (PD (NC (Q7 gi di (by simp) ?_)))
 show wpAny _ _ (newExc (Value.type "StopIteration") [] >>= _) _ _ _
 refine NC ?_
 simp only [newTuple,newExc]
 refine NC (Om ?_ (by size_fits))
 refine NC (m:=firstArgMember _ _) (Qd (a:=Value.none) (by first | rfl | (unfold firstArgMember;rfl)) ?_)
 refine Om ?_ (by size_fits)
 unfold raiseNew
 refine NC (wpAny_handled ?_)
 rw [show A.in1.handled=none from hh]
 exact NC (ND (wpAny_throw (q _ _ (((Py ..).extBut.push _).push _) ⟨_,NL _ rfl,rfl⟩)))
theorem uj (i l:Addr) (xs:List Value):Nx P w i l (fun k h=>h.IsTupleIter i l k/\h.IsTuple l xs.toArray) xs where
 obj:=fun k h ⟨⟨o,a,_,c⟩,_⟩=>⟨o,_,a,c⟩
 keep:=fun k h h' ⟨a,b⟩ k1 k2=>⟨a.at k1,let ⟨o,e,r⟩:=b;⟨o,k2 o e,r⟩⟩
 item:=fun A k s x Q E ⟨a,b⟩ hx q=>xT a b (by simpa using hx) fun h' a' sb=>q h' ⟨a',let ⟨o,e,r⟩:=b;⟨o,(sb.2 l (vM a b).symm).trans e,r⟩⟩ sb
 done:=fun A k s Q E hh ⟨a,b⟩ hx q=>pS hh a b (by simpa using hx) q
structure ZA (z TI TO i1 i2 l1 l2:Addr):Prop where
 a1:TI≠z
 a2:TO≠z
 a3:i1≠z
 a4:i2≠z
 a5:TI≠TO
 a6:TI≠i1
 a7:TI≠i2
 a8:TO≠i1
 a9:TO≠i2
 b1:i1≠i2
 b2:l1≠z
 b3:l1≠TO
 b4:l1≠i2
 b5:l2≠z
 b6:l2≠TO
 b7:l2≠i1
variable {st1 st2:Nat->Heap->Prop} {xs ys:List Value} {z TI TO i1 i2 l1 l2:Addr} {k:Nat} {a b:Value}
theorem aJ {h h':Heap} {c d:Addr} {o:Obj} (sb:Heap.SameBut c h h') (ne:d≠c) (e:h.get? d=some o):h'.get? d=some o:=(sb.2 d ne).trans e
theorem BA (D:ZA z TI TO i1 i2 l1 l2) (N1:Nx P w i1 l1 st1 xs) (N2:Nx P w i2 l2 st2 ys) {x y:Value} {Q:Value->Shared->Prop} (hz:IsZip s.heap z TI TO .none) (hI:IsPair s.heap TI (.ref i1) (.ref i2)) (hO:IsPair s.heap TO a b)
  (s1:st1 k s.heap) (s2:st2 k s.heap) (hx:xs[k]?=some x) (hy:ys[k]?=some y)
  (q:∀ h',IsZip h' z TI TO (rawInt s.heap.objs.size)->IsPair h' TO x y->st1 (k+1) h'->st2 (k+1) h'->IsPair h' s.heap.objs.size x y ->
   (∀ c o,c≠z->c≠TO->c≠i1->c≠i2->s.heap.get? c=some o->h'.get? c=some o)->Q (.ref s.heap.objs.size) {s with heap:=h'}) :
  wpAny (model P w) A (Builtin.«zip.__next__» ⟨[.ref z],[]⟩) (fun fin s'=>∃ v,fin=.done (.ret v)/\Q v s') E s:=by
 show wpAny _ _ (field (Value.ref z) 2 >>= _) _ _ _
 refine NC (OZ (x:=Value.bool false) hz rfl rfl ?_)
 show wpAny _ _ (field (Value.ref z) 3 >>= _) _ _ _
 refine NC (OZ (x:=Value.ref TI) hz rfl rfl ?_)
 refine NC (OL hI rfl ?_)
 show wpAny _ _ (Builtin.SmallTypes.ownedTupleIsFree (Value.ref z) >>= _) _ _ _
 refine NC ?_
 unfold Builtin.SmallTypes.ownedTupleIsFree
 refine NC (OZ (x:=Value.none) hz rfl rfl (ND ?_))
 simp only [Ot]
 refine NC (PD (NC (OZ (x:=Value.ref TO) hz rfl rfl ?_)))
 refine NC (PJ hz (by simp) fun g1 z1 e1=>?_)
 have z1:IsZip g1 z TI TO .ellipsis:=z1
 refine NC ?_
 simp only [List.zipIdx_nil,List.zipIdx_cons,PU,Pu]
 refine NC (NC (wpAny_onRaise ?_))
 show wpAny _ _ (Builtin.SmallTypes.nextOf (Value.ref i1) >>= _) _ _ _
 refine NC (N1.item _ k _ x _ _ (N1.keep _ _ _ s1 (fun o=>aJ e1 D.a3) fun o=>aJ e1 D.b2) hx fun g2 t1 e2=>ND ?_)
 have O2:IsPair g2 TO a b:=aJ e2 D.a8 (aJ e1 D.a2 hO)
 refine NC (OL O2 rfl (NC (Rv O2 fun g3 O3 e3=>?_)))
 have O3:IsPair g3 TO x b:=O3
 refine NC (wpAny_letGo (ND (NC (NC (wpAny_onRaise ?_)))))
 show wpAny _ _ (Builtin.SmallTypes.nextOf (Value.ref i2) >>= _) _ _ _
 refine NC (N2.item _ k _ y _ _ (N2.keep _ _ _ s2 (fun o e=>aJ e3 D.a9.symm (aJ e2 D.b1.symm (aJ e1 D.a4 e))) fun o e=>aJ e3 D.b6 (aJ e2 D.b7 (aJ e1 D.b5 e))) hy fun g4 t2 e4=>ND ?_)
 have O4:IsPair g4 TO x b:=aJ e4 D.a9 O3
 refine NC (OL O4 rfl (NC (Rv O4 fun g5 O5 e5=>?_)))
 have O5:IsPair g5 TO x y:=O5
 refine NC (wpAny_letGo (ND (ND (NC (OL O5 rfl (NC (wpAny_newTuple ?_)))))))
 have sz:g5.objs.size=s.heap.objs.size:=by rw [e5.1,e4.1,e3.1,e2.1,e1.1]
 have z5:IsZip g5 z TI TO .ellipsis:=aJ e5 D.a2.symm (aJ e4 D.a4.symm (aJ e3 D.a2.symm (aJ e2 D.a3.symm z1)))
 have zlt:z < g5.objs.size:=NK z5
 have u1:st1 (k+1) g5:=N1.keep _ _ _ t1 (fun o e=>aJ e5 D.a8.symm (aJ e4 D.b1 (aJ e3 D.a8.symm e))) fun o e=>aJ e5 D.b3 (aJ e4 D.b4 (aJ e3 D.b3 e))
 have u2:st2 (k+1) g5:=N2.keep _ _ _ t2 (fun o e=>aJ e5 D.a9.symm e) fun o e=>aJ e5 D.b6 e
 show wpAny _ _ (Builtin.SmallTypes.ownedTupleHandOut (Value.ref z) (.ref g5.objs.size) >>= _) _ _ _
 refine NC ?_
 unfold Builtin.SmallTypes.ownedTupleHandOut
 have z6:IsZip (g5.push {cls:=.type "tuple",data:=.seq #[x,y]}) z TI TO .ellipsis:=NF _ z5
 refine NC (PJ z6 (by simp) fun g7 z7 e7=>?_)
 have z7:IsZip g7 z TI TO (rawInt g5.objs.size):=z7
 refine PJ z7 (by simp) fun g8 z8 e8=>?_
 have z8:IsZip g8 z TI TO (rawInt g5.objs.size):=z8
 have up:∀ c o,c≠z->g5.get? c=some o->g8.get? c=some o:=fun c o n e=>aJ e8 n (aJ e7 n (NF _ e))
 have nw:IsPair g8 g5.objs.size x y:=aJ e8 (Qn zlt) (aJ e7 (Qn zlt) (NL _ rfl))
 rw [sz] at z8 nw
 refine ND ⟨_,rfl,?_⟩
 show Q (.ref g5.objs.size) _
 rw [sz]
 exact q g8 z8 (up _ _ D.a2 O5) (N1.keep _ _ _ u1 (fun o=>up _ o D.a3) fun o=>up _ o D.b2) (N2.keep _ _ _ u2 (fun o=>up _ o D.a4) fun o=>up _ o D.b5) nw fun c o n1 n2 n3 n4 e=>
  up c o n1 (aJ e5 n2 (aJ e4 n4 (aJ e3 n2 (aJ e2 n3 (aJ e1 n1 e)))))
theorem Eo (hh:A.handled=none) (D:ZA z TI TO i1 i2 l1 l2) (N1:Nx P w i1 l1 st1 xs) (N2:Nx P w i2 l2 st2 ys) {Q:PySem.Fin->Shared->Prop} (hz:IsZip s.heap z TI TO .none) (hI:IsPair s.heap TI (.ref i1) (.ref i2)) (hO:IsPair s.heap TO a b)
  (s1:st1 k s.heap) (s2:st2 k s.heap) (hend:xs[k]?=none\/ys[k]?=none)
  (q:∀ h' e,(∀ c o,c≠z->c≠TO->c≠i1->c≠i2->s.heap.get? c=some o->h'.get? c=some o)->(∃ o,h'.get? e=some o/\o.cls=.type "StopIteration")->E (.ref e) {s with heap:=h'}) :
  wpAny (model P w) A (Builtin.«zip.__next__» ⟨[.ref z],[]⟩) Q E s:=by
 show wpAny _ _ (field (Value.ref z) 2 >>= _) _ _ _
 refine NC (OZ (x:=Value.bool false) hz rfl rfl ?_)
 show wpAny _ _ (field (Value.ref z) 3 >>= _) _ _ _
 refine NC (OZ (x:=Value.ref TI) hz rfl rfl ?_)
 refine NC (OL hI rfl ?_)
 show wpAny _ _ (Builtin.SmallTypes.ownedTupleIsFree (Value.ref z) >>= _) _ _ _
 refine NC ?_
 unfold Builtin.SmallTypes.ownedTupleIsFree
 refine NC (OZ (x:=Value.none) hz rfl rfl (ND ?_))
 simp only [Ot]
 refine NC (PD (NC (OZ (x:=Value.ref TO) hz rfl rfl ?_)))
 refine NC (PJ hz (by simp) fun g1 z1 e1=>?_)
 have z1:IsZip g1 z TI TO .ellipsis:=z1
 refine NC ?_
 simp only [List.zipIdx_nil,List.zipIdx_cons,PU,Pu]
 refine NC (NC (wpAny_onRaise ?_))
 show wpAny _ _ (Builtin.SmallTypes.nextOf (Value.ref i1) >>= _) _ _ _
 have t1:st1 k g1:=N1.keep _ _ _ s1 (fun o=>aJ e1 D.a3) fun o=>aJ e1 D.b2
 cases hx:xs[k]? with
 | none=>
  refine NC (N1.done _ k _ _ _ hh t1 hx fun g2 e e2 ⟨oe,he,ce⟩=>?_)
  have z2:IsZip g2 z TI TO .ellipsis:=e2 _ _ D.a3.symm z1
  have ne:e≠z:=fun r=>by
   rw [r,z2] at he
   cases he
   exact absurd (show Value.type "zip" = Value.type "StopIteration" from ce) (by decide)
  exact PJ z2 (by simp) fun g3 _ e3=>q g3 e (fun c o n1 _ n3 _ r=>aJ e3 n1 (e2 _ _ n3 (aJ e1 n1 r))) ⟨oe,aJ e3 ne he,ce⟩
 | some x=>
  have hy:ys[k]?=none:=by
   rcases hend with r | r
   ·rw [hx] at r;cases r
   ·exact r
  refine NC (N1.item _ k _ x _ _ t1 hx fun g2 t1 e2=>ND ?_)
  have O2:IsPair g2 TO a b:=aJ e2 D.a8 (aJ e1 D.a2 hO)
  refine NC (OL O2 rfl (NC (Rv O2 fun g3 O3 e3=>?_)))
  refine NC (wpAny_letGo (ND (NC (NC (wpAny_onRaise ?_)))))
  show wpAny _ _ (Builtin.SmallTypes.nextOf (Value.ref i2) >>= _) _ _ _
  refine NC (N2.done _ k _ _ _ hh (N2.keep _ _ _ s2 (fun o e=>aJ e3 D.a9.symm (aJ e2 D.b1.symm (aJ e1 D.a4 e))) fun o e=>aJ e3 D.b6 (aJ e2 D.b7 (aJ e1 D.b5 e))) hy fun g4 e e4 ⟨oe,he,ce⟩=>?_)
  have z4:IsZip g4 z TI TO .ellipsis:=e4 _ _ D.a4.symm (aJ e3 D.a2.symm (aJ e2 D.a3.symm z1))
  have ne:e≠z:=fun r=>by
   rw [r,z4] at he
   cases he
   exact absurd (show Value.type "zip" = Value.type "StopIteration" from ce) (by decide)
  exact PJ z4 (by simp) fun g5 _ e5=>q g5 e (fun c o n1 n2 n3 n4 r=>aJ e5 n1 (e4 _ _ n4 (aJ e3 n2 (aJ e2 n3 (aJ e1 n1 r))))) ⟨oe,aJ e5 ne he,ce⟩
end
section
variable {P:Program} {w:World} {A:Around} {E:Value->Shared->Prop} {s:Shared}
structure JA (h h':Heap) (l1 l2:Addr):Prop where
 z:IsZip h' (h.objs.size+4) (h.objs.size+2) (h.objs.size+3) .none
 ti:IsPair h' (h.objs.size+2) (.ref h.objs.size) (.ref (h.objs.size+1))
 to:IsPair h' (h.objs.size+3) .none .none
 i1:h'.IsTupleIter h.objs.size l1 0
 i2:h'.IsTupleIter (h.objs.size+1) l2 0
 sz:h'.objs.size=h.objs.size+5
 keep:∀ c o,h.get? c=some o->h'.get? c=some o
abbrev kO (h:Heap) (u:Addr):Heap:=h.push {cls:=.type "tuple_iterator",data:=.fields #[.ref u,.int 0 0]}
abbrev F4 (h:Heap) (a b:Addr):Heap:=h.push {cls:=.type "tuple",data:=.seq #[.ref a,.ref b]}
abbrev JB (h:Heap):Heap:=h.push {cls:=.type "tuple",data:=.seq #[.none,.none]}
abbrev Nj (h:Heap) (a b:Addr):Heap:=h.push {cls:=.type "zip",data:=.fields #[.none,.bool false,.bool false,.ref a,.ref b]}
abbrev xU (h:Heap) (l1 l2:Addr):Heap:=Nj (JB (F4 (kO (kO h l1) l2) h.objs.size (kO h l1).objs.size)) (kO (kO h l1) l2).objs.size (F4 (kO (kO h l1) l2) h.objs.size (kO h l1).objs.size).objs.size
theorem BB (h:Heap) (l1 l2:Addr):JA h (xU h l1 l2) l1 l2:=by
 have e1:(kO h l1).objs.size=h.objs.size+1:=Oi ..
 have e2:(kO (kO h l1) l2).objs.size=h.objs.size+2:=by rw [Oi,e1]
 have e3:(F4 (kO (kO h l1) l2) h.objs.size (kO h l1).objs.size).objs.size=h.objs.size+3:=by rw [Oi,e2]
 have e4:(JB (F4 (kO (kO h l1) l2) h.objs.size (kO h l1).objs.size)).objs.size=h.objs.size+4:=by rw [Oi,e3]
 have p5:(xU h l1 l2).get? (JB (F4 (kO (kO h l1) l2) h.objs.size (kO h l1).objs.size)).objs.size=some _:=NL _ rfl
 have p4:(xU h l1 l2).get? (F4 (kO (kO h l1) l2) h.objs.size (kO h l1).objs.size).objs.size=some _:=NF _ (NL _ rfl)
 have p3:(xU h l1 l2).get? (kO (kO h l1) l2).objs.size=some _:=NF _ (NF _ (NL _ rfl))
 have p2:(xU h l1 l2).get? (kO h l1).objs.size=some _:=NF _ (NF _ (NF _ (NL _ rfl)))
 have p1:(xU h l1 l2).get? h.objs.size=some _:=NF _ (NF _ (NF _ (NF _ (NL _ rfl))))
 rw [e2,e3,e4] at p5
 rw [e3] at p4
 rw [e2,e1] at p3
 rw [e1] at p2
 exact ⟨p5,p3,p4,⟨_,p1,rfl,rfl⟩,⟨_,p2,rfl,rfl⟩,by rw [Oi,e4],fun c o e=>NF _ (NF _ (NF _ (NF _ (NF _ e))))⟩
theorem vN (l1 l2:Addr) (xs ys:Array Value) :
  Meets (Builtin.«zip.__new__» ⟨[.type "zip",.ref l1,.ref l2],[]⟩) (fun _ R s=>s.heap.IsTuple l1 xs/\s.heap.IsTuple l2 ys/\R (.ok (.ret (.ref (JB (F4 (kO (kO s.heap l1) l2) s.heap.objs.size (kO s.heap l1).objs.size)).objs.size))) {s with heap:=xU s.heap l1 l2}):=
 .of_wp fun prog w A R s h=>by
  obtain ⟨hp,g,d,tk,os⟩:=s
  obtain ⟨t1,t2,h⟩:=h
  have hsub:=sub_zip
  have T1:Heap.IsTuple (Shared.heap ⟨hp,g,d,tk,os⟩) l1 xs:=t1
  have T2:Heap.IsTuple (Shared.heap ⟨hp.push {cls:=.type "tuple_iterator",data:=.fields #[.ref l1,.int 0 0]},g,d,tk,os⟩) l2 ys:=Heap.IsTuple.push t2 _
  wp_walk using QR T1,QR T2
  exact ⟨_,rfl,h⟩
theorem uk {l1 l2:Addr} {xs ys:Array Value} {Q:Value->Shared->Prop} (t1:s.heap.IsTuple l1 xs) (t2:s.heap.IsTuple l2 ys) (q:∀ h',JA s.heap h' l1 l2->Q (.ref (s.heap.objs.size+4)) {s with heap:=h'}) :
  wpAny (model P w) A (call (.type "zip") [.ref l1,.ref l2]) Q E s:=by
 refine callType_new F.called_zip (by decide) (F.typeCall_zip_2 _ _) (F.newCall_zip_2 _ _) (fun obj=>F.args_object_init_3 obj _ _) F.entry_zip_new (vN l1 l2 xs ys) ⟨t1,t2,?_⟩
 have n:=BB s.heap l1 l2
 have e4:(JB (F4 (kO (kO s.heap l1) l2) s.heap.objs.size (kO s.heap l1).objs.size)).objs.size=s.heap.objs.size+4:=by
  have:=n.sz
  rw [Oi] at this
  omega
 show _/\_
 rw [e4]
 exact ⟨⟨_,n.z,rfl⟩,q _ n⟩
theorem rP {z TI TO i1 i2 l1 l2:Addr} {k:Nat} {xs ys:List Value} {x y a b:Value} {Q:Option Value->Shared->Prop} (D:ZA z TI TO i1 i2 l1 l2) (hz:IsZip s.heap z TI TO .none) (hI:IsPair s.heap TI (.ref i1) (.ref i2)) (hO:IsPair s.heap TO a b)
  (t1:s.heap.IsTupleIter i1 l1 k) (t2:s.heap.IsTupleIter i2 l2 k) (h1:s.heap.IsTuple l1 xs.toArray) (h2:s.heap.IsTuple l2 ys.toArray) (hx:xs[k]?=some x) (hy:ys[k]?=some y)
  (q:∀ h',IsZip h' z TI TO (rawInt s.heap.objs.size)->IsPair h' TO x y->h'.IsTupleIter i1 l1 (k+1)->h'.IsTupleIter i2 l2 (k+1)->IsPair h' s.heap.objs.size x y ->
   (∀ c o,c≠z->c≠TO->c≠i1->c≠i2->s.heap.get? c=some o->h'.get? c=some o)->Q (some (.ref s.heap.objs.size)) {s with heap:=h'}):wpAny (model P w) A (pyNext (.ref z)) Q E s:=by
 have hT:s.TypeIs (.ref z) "zip" := ⟨_,hz,rfl⟩
 unfold pyNext
 refine NC (Qe (Oj (name:=Str.ofString "__next__") hT RE (Of RE hT F.entry_zip_next ?_ (F.args_zip_next_1 _))))
 exact BA D (uj i1 l1 xs) (uj i2 l2 ys) hz hI hO ⟨t1,h1⟩ ⟨t2,h2⟩ hx hy fun h' a1 a2 a3 a4 a5 a6=>ND (q h' a1 a2 a3.1 a4.1 a5 a6)
theorem um {z TI TO i1 i2 l1 l2:Addr} {k:Nat} {xs ys:List Value} {a b:Value} {Q:Option Value->Shared->Prop} (hh:A.handled=none) (D:ZA z TI TO i1 i2 l1 l2) (hz:IsZip s.heap z TI TO .none) (hI:IsPair s.heap TI (.ref i1) (.ref i2)) (hO:IsPair s.heap TO a b)
  (t1:s.heap.IsTupleIter i1 l1 k) (t2:s.heap.IsTupleIter i2 l2 k) (h1:s.heap.IsTuple l1 xs.toArray) (h2:s.heap.IsTuple l2 ys.toArray) (hend:xs[k]?=none\/ys[k]?=none)
  (q:∀ h',(∀ c o,c≠z->c≠TO->c≠i1->c≠i2->s.heap.get? c=some o->h'.get? c=some o)->Q none {s with heap:=h'}):wpAny (model P w) A (pyNext (.ref z)) Q E s:=by
 have hT:s.TypeIs (.ref z) "zip" := ⟨_,hz,rfl⟩
 unfold pyNext
 refine NC (Qe (Oj (name:=Str.ofString "__next__") hT RE (Of RE hT F.entry_zip_next ?_ (F.args_zip_next_1 _))))
 refine Eo (A:=A.in1) hh D (uj i1 l1 xs) (uj i2 l2 ys) hz hI hO ⟨t1,h1⟩ ⟨t2,h2⟩ hend fun h' e hk ⟨o,ho,hc⟩=>?_
 exact NC (QH (T := "StopIteration") (b:=true) ⟨o,ho,hc⟩ isSubtype_stop (ND (q _ hk)))
end
def MM (K:PySem.W.Frag) (a1 a2:Addr):It:=
 ⟨fun i H=>∃ xs ys x y,fU K H a1 xs/\fU K H a2 ys/\xs[i]?=some x/\ys[i]?=some y,
  fun i H v H'=>∃ p x y,v=.ref p/\H p=none/\H'=upd H p (.tup [x,y])/\(∀ xs,fU K H a1 xs->xs[i]?=some x)/\∀ ys,fU K H a2 ys->ys[i]?=some y,
  fun i H=>∃ xs ys,fU K H a1 xs/\fU K H a2 ys/\(xs.length<=i\/ys.length<=i)⟩
theorem BC {P:Program} {w:World} {K:PySem.W.Frag} {es:List Expr} {kk:_} {tpos:Pos} (a1 a2 z TI TO i1 i2:Addr) (D:ZA z TI TO i1 i2 a1 a2):Turn P w K (.Tuple es kk tpos) (MM K a1 a2) [z,TI,TO,i1,i2] z
  (fun k h=>IsZip h z TI TO .none/\IsPair h TI (.ref i1) (.ref i2)/\(∃ a b,IsPair h TO a b)/\h.IsTupleIter i1 a1 k/\h.IsTupleIter i2 a2 k) where
 mem:=NU
 obj:=fun k h st b hb=>by
  obtain ⟨hz,hI,⟨a,c,hO⟩,⟨o1,e1,_,d1⟩,⟨o2,e2,_,d2⟩⟩:=st
  simp only [NJ,N9,OW] at hb
  rcases hb with rfl | rfl | rfl | rfl | rfl
  ·exact ⟨_,hz,fun v r=>by cases r⟩
  ·exact ⟨_,hI,fun v r=>by cases r⟩
  ·exact ⟨_,hO,fun v r=>by cases r⟩
  ·exact ⟨_,e1,fun v r=>by rw [d1] at r;cases r⟩
  ·exact ⟨_,e2,fun v r=>by rw [d2] at r;cases r⟩
 keep:=fun k h h' st kp=>by
  obtain ⟨hz,hI,⟨a,c,hO⟩,t1,t2⟩:=st
  exact ⟨kp z (by simp) _ hz,kp TI (by simp) _ hI,⟨a,c,kp TO (by simp) _ hO⟩,t1.at (kp i1 (by simp)),t2.at (kp i2 (by simp))⟩
 item:=by
  intro X hP hw hK hc i pins s σ H E I hf st hg
  subst hP hw hK
  obtain ⟨xs,ys,x,y,q1,q2,hx,hy⟩:=hg
  obtain ⟨its1,r1,p1,_⟩:=I.tuple q1
  obtain ⟨its2,r2,p2,_⟩:=I.tuple q2
  obtain ⟨u1,hu1,ru1⟩:=r1.get hx
  obtain ⟨u2,hu2,ru2⟩:=r2.get hy
  obtain ⟨hz,hI,⟨a,c,hO⟩,t1,t2⟩:=st
  refine rP D hz hI hO t1 t2 (show s.heap.IsTuple a1 its1.toArray from p1) (show s.heap.IsTuple a2 its2.toArray from p2) hu1 hu2 fun h' z' o' t1' t2' nw kp=>?_
  refine ⟨_,rfl,wpAny_letOwnedTupleGo_zip z' fun h2 z2 sb=>?_⟩
  have lt:∀ {b:Addr} {o:Obj},s.heap.get? b=some o->b≠s.heap.objs.size:=fun e=>N0 (NK e)
  have nz:s.heap.objs.size≠z:=(lt hz).symm
  have hf0:H s.heap.objs.size=none:=I.hok.fresh (NI _)
  have hI2:IsPair h2 TI (.ref i1) (.ref i2):=aJ sb D.a1 (kp _ _ D.a1 D.a5 D.a6 D.a7 hI)
  have kall:∀ b o,b∉[z,TI,TO,i1,i2]->s.heap.get? b=some o->h2.get? b=some o:=fun b o hb e=>by
   simp only [NJ,N9,OW,not_or] at hb
   exact aJ sb hb.1 (kp b o hb.1 hb.2.2.1 hb.2.2.2.1 hb.2.2.2.2 e)
  have Aj:∀ {b:Addr} {u:HO},H b=some u->b∉[z,TI,TO,i1,i2]:=fun {b u} e hb=>by
   rw [(hf b hb).1] at e;cases e
  have there:∀ b o,s.heap.get? b=some o->∃ o',h2.get? b=some o':=fun b o e=>by
   by_cases hb:b∈[z,TI,TO,i1,i2]
   ·simp only [NJ,N9,OW] at hb
    rcases hb with rfl | rfl | rfl | rfl | rfl
    ·exact ⟨_,z2⟩
    ·exact ⟨_,hI2⟩
    ·exact ⟨_,aJ sb D.a2 o'⟩
    ·obtain ⟨_,e1,_⟩:=t1'
     exact ⟨_,aJ sb D.a3 e1⟩
    ·obtain ⟨_,e1,_⟩:=t2'
     exact ⟨_,aJ sb D.a4 e1⟩
   ·exact ⟨o,kall b o hb e⟩
  have hokN:jx X.prog X.w (upd H s.heap.objs.size (.tup [x,y])) h2:=fun b u e=>by
   by_cases hb:b=s.heap.objs.size
   ·subst hb
    rw [ba] at e
    cases e
    exact ⟨by show 2<=sizeLine;decide,[u1,u2],.cons ru1 (.cons ru2 .nil),⟨_,aJ sb nz nw,rfl,_,rfl⟩⟩
   ·rw [aB hb] at e
    refine (I.hok b u e).pJ (fun d v hd r=>kall d v ?_ r) (fun d r=>by rw [aB (aH r hf0)];exact r) fun d vs r=>by rw [aB (aH r hf0)];exact r
    rcases hd with rfl | hd
    ·exact Aj e
    ·exact Aj hd
  have I2:Inv X pins σ (upd H s.heap.objs.size (.tup [x,y])) {s with heap:=h2}:=by
   refine I.step (g':=s.gens) (d':=s.drawn) (t':=s.toks) (ch:=[z,TI,TO,i1,i2]) (fun b hb=>⟨(hf b hb).2.2.2.1,(hf b hb).2.1,(hf b hb).2.2.2.2.1,(hf b hb).2.2.2.2.2⟩) (fun b o _ _ hb e _=>kall b o hb e) (fun b o _ _ hb e _=>⟨o.slots,kall b o hb e⟩)
    (fun b o _ e n=>by rw [aB (lt e)];exact n) (fun b o _ e=>there b o e) (fun b vs e=>by rw [aB (aH e hf0)];exact e) (fun b o v e=>by rw [aB (aH e hf0)];exact e) (fun b ps e=>⟨#[],by rw [aB (aH e hf0),e];simp⟩) (fun m hm=>?_) hokN I.bare
   obtain ⟨o,es',ep,e,r⟩:=hm
   exact ⟨o,es',ep,kall _ o (fun hb=>(hf _ hb).2.1 rfl) e,r⟩
  refine ⟨.ref s.heap.objs.size,_,I2,rfl,⟨_,x,y,rfl,hf0,rfl,fun vs h=>by rw [I.nC h q1];exact hx,fun vs h=>by rw [I.nC h q2];exact hy⟩,⟨z2,hI2,⟨_,_,aJ sb D.a2 o'⟩,t1'.at fun o e=>aJ sb D.a3 e,t2'.at fun o e=>aJ sb D.a4 e⟩,fun b hb=>?_⟩
  have hb':=(hf b hb).1
  by_cases e:b=s.heap.objs.size
  ·exfalso
   simp only [NJ,N9,OW] at hb
   rcases hb with r | r | r | r | r
   ·exact lt hz (r▸e)
   ·exact lt hI (r▸e)
   ·exact lt hO (r▸e)
   ·obtain ⟨_,e1,_⟩:=t1;exact lt e1 (r▸e)
   ·obtain ⟨_,e1,_⟩:=t2;exact lt e1 (r▸e)
  ·rw [aB e];exact hb'
 done:=by
  intro X hP hw hK hc i pins s σ H E I hf st hg
  subst hP hw hK
  obtain ⟨xs,ys,q1,q2,hl⟩:=hg
  obtain ⟨its1,r1,p1,_⟩:=I.tuple q1
  obtain ⟨its2,r2,p2,_⟩:=I.tuple q2
  obtain ⟨hz,hI,⟨a,c,hO⟩,t1,t2⟩:=st
  refine um (I.ok.hd hc) D hz hI hO t1 t2 (show s.heap.IsTuple a1 its1.toArray from p1) (show s.heap.IsTuple a2 its2.toArray from p2) ?_ fun h' kp=>⟨rfl,?_⟩
  ·have e1:=r1.length
   have e2:=r2.length
   rcases hl with r | r
   ·exact .inl (List.getElem?_eq_none_iff.mpr (by omega))
   ·exact .inr (List.getElem?_eq_none_iff.mpr (by omega))
  ·have kall:∀ b o,b∉[z,TI,TO,i1,i2]->s.heap.get? b=some o->h'.get? b=some o:=fun b o hb e=>by
    simp only [NJ,N9,OW,not_or] at hb
    exact kp b o hb.1 hb.2.2.1 hb.2.2.2.1 hb.2.2.2.2 e
   have Aj:∀ {b:Addr} {u:HO},H b=some u->b∉[z,TI,TO,i1,i2]:=fun {b u} e hb=>by
    rw [(hf b hb).1] at e;cases e
   refine I.step (g':=s.gens) (d':=s.drawn) (t':=s.toks) (ch:=[z,TI,TO,i1,i2]) (fun b hb=>⟨(hf b hb).2.2.2.1,(hf b hb).2.1,(hf b hb).2.2.2.2.1,(hf b hb).2.2.2.2.2⟩) (fun b o _ _ hb e _=>kall b o hb e) (fun b o _ _ hb e _=>⟨o.slots,kall b o hb e⟩)
    (fun b o _ e n=>n) (fun b o hb e=>⟨o,kall b o hb e⟩) (fun b vs e=>e) (fun b o v e=>e) (fun b ps e=>⟨#[],by rw [e];simp⟩) (fun m hm=>?_) (fun b u e=>(I.hok b u e).pJ (fun d v hd r=>kall d v ?_ r) (fun _ r=>r) fun _ _ r=>r) I.bare
   ·obtain ⟨o,es',ep,e,r⟩:=hm
    exact ⟨o,es',ep,kall _ o (fun hb=>(hf _ hb).2.1 rfl) e,r⟩
   ·rcases hd with rfl | hd
    ·exact Aj e
    ·exact Aj hd
 self:=fun _ _ _ _ _ st h=>wpAny_pyIter_zip st.1 h
section
variable {X:Cx} {es:List Expr} {kk:Nat} {tpos:Pos}
theorem LG (a b:Nat) (h:a≠b):@Ne Addr a b:=h
theorem JC (n a b:Nat) (h1:a < n) (h2:b < n):ZA (n+4) (n+2) (n+3) n (n+1) a b:=by
 constructor<;>refine LG _ _ ?_<;>omega
def LH (K:PySem.W.Frag) (ta:TA):TI:=fun σ H R=>ta σ H fun vs H1=>∃ a1 a2 xs ys,vs=[.ref a1,.ref a2]/\fU K H1 a1 xs/\fU K H1 a2 ys/\R (MM K a1 a2) H1
theorem Hn {e1 e2:Expr} {ta:TA} {p pos:Pos} (hg:Gl X "zip") (hm:X.mg "zip" = none) (ha:PA X [e1,e2] ta) (hs:starEach [e1,e2] X.env=[(false,eval e1 X.env),(false,eval e2 X.env)]:=by rfl) (hs2:starEach [e2] X.env=[(false,eval e2 X.env)]:=by rfl) :
  PI X (.Tuple es kk tpos) (.Call (.Name "zip" p) [e1,e2] [] pos) (LH X.K ta):=by
 intro pins s σ H R I h
 refine Call_ (lj I hg hm (by decide +kernel:bootBuiltins "zip" = some (.type "zip")) (Pr (bA (ha pos pins s σ H _ I h) fun us s1 ⟨vs,H1,I1,r1,q1⟩=>?_) (by rw [hs,hs2]) (by rw [hs2];rfl)))
 obtain ⟨a1,a2,xs,ys,e,t1,t2,q⟩:=q1
 subst e
 cases r1 with
 | cons r rr=>
  cases rr with
  | cons r' rr=>
   cases rr
   cases r
   cases r'
   obtain ⟨its1,v1,p1,_⟩:=I1.tuple t1
   obtain ⟨its2,v2,p2,_⟩:=I1.tuple t2
   have L1:a1 < s1.heap.objs.size:=by obtain ⟨_,e,_⟩:=p1;exact NK e
   have L2:a2 < s1.heap.objs.size:=by obtain ⟨_,e,_⟩:=p2;exact NK e
   refine uk (show s1.heap.IsTuple a1 its1.toArray from p1) (show s1.heap.IsTuple a2 its2.toArray from p2) fun h' N=>?_
   refine wpAny_pyIter_zip (s:={s1 with heap:=h'}) N.z ?_
   have I2:Inv X pins σ H1 {s1 with heap:=h'}:=I1.kept (t':=s1.toks) N.keep
   refine ⟨s1.heap.objs.size+4,[s1.heap.objs.size+4,s1.heap.objs.size+2,s1.heap.objs.size+3,s1.heap.objs.size,s1.heap.objs.size+1],_,_,H1,rfl,I2,BC a1 a2 _ _ _ _ _ (JC _ _ _ L1 L2),⟨N.z,N.ti,⟨_,_,N.to⟩,N.i1,N.i2⟩,fun b hb=>?_,q⟩
   have ge:s1.heap.objs.size<=b:=by
    simp only [NJ,N9,OW] at hb
    rcases hb with rfl | rfl | rfl | rfl | rfl
    ·exact Rp _ _
    ·exact Rp _ _
    ·exact Rp _ _
    ·exact NI _
    ·exact Rp _ _
   exact I1.Bj ge (I1.hok.fresh ge)
end
section
variable {κ:Type} [DecidableEq κ]
def o3 (kvs:List (κ×V)) (k:κ):Option V:=(kvs.find? fun kv=>decide (kv.1=k)).map (·.2)
def putK (kvs:List (κ×V)) (k:κ) (v:V):List (κ×V):=
 if (kvs.any fun kv=>decide (kv.1=k))=true then kvs.map (fun kv=>if kv.1=k then (kv.1,v) else kv) else kvs++[(k,v)]
theorem mf {p:κ×V} {r:List (κ×V)} {k:κ} (e:p.1=k):o3 (p::r) k=some p.2:=by simp [o3,Pz,e]
theorem mi {p:κ×V} {r:List (κ×V)} {k:κ} (e:¬ p.1=k):o3 (p::r) k=o3 r k:=by simp [o3,Pz,e]
theorem mj (k:κ):∀ kvs:List (κ×V),(kvs.any fun kv=>decide (kv.1=k))=(o3 kvs k).isSome
 | []=>rfl
 | p::r=>by
  rw [Qu]
  by_cases e:p.1=k
  ·simp only [mf e,NV e,Bool.true_or,Option.isSome_some]
  ·rw [mi e,NW e,Bool.false_or];exact mj k r
theorem gO (kvs:List (κ×V)) (k:κ) (v:V):(putK kvs k v).length<=kvs.length+1:=by
 unfold putK
 split
 ·rw [NZ];omega
 ·rw [N4,N3,OB];omega
theorem pI.iB {o:Option V} {u:Option Value} (r:pI o u):o.isSome=u.isSome:=by
 cases o with
 | none=>cases u with
  | none=>rfl
  | some _=>exact (show False from r).elim
 | some _=>cases u with
  | none=>exact (show False from r).elim
  | some _=>rfl
theorem KV.val {kvs:List (κ×V)} {vs:List (κ×Value)} (r:KV kvs vs) (k:κ):pI (o3 kvs k) (valueAt vs k):=by
 unfold KV at r
 induction r with
 | nil=>exact True.intro
 | @cons p q ps qs h t ih=>
  obtain ⟨h1,h2⟩:=h
  by_cases e:p.1=k
  ·have e':q.1=k:=h1.symm.trans e
   have b:valueAt (q::qs) k=some q.2:=by simp [valueAt,Pz,e']
   rw [mf e,b];exact h2
  ·have e':¬ q.1=k:=fun z=>e (h1.trans z)
   have b:valueAt (q::qs) k=valueAt qs k:=by simp [valueAt,Pz,e']
   rw [mi e,b];exact ih
theorem KV.any {kvs:List (κ×V)} {vs:List (κ×Value)} (r:KV kvs vs) (k:κ):(kvs.any fun kv=>decide (kv.1=k))=vs.any fun kv=>decide (kv.1=k):=by
 unfold KV at r
 induction r with
 | nil=>rfl
 | cons h t ih=>rw [Qu,Qu,ih,h.1]
theorem KV.Ho {kvs:List (κ×V)} {vs:List (κ×Value)} (r:KV kvs vs) (k:κ) {y:V} {u:Value} (ry:RelV y u) :
  KV (kvs.map fun kv=>if kv.1=k then (kv.1,y) else kv) (vs.map fun kv=>if kv.1=k then (kv.1,u) else kv):=by
 unfold KV at r ⊢
 induction r with
 | nil=>exact .nil
 | @cons p q ps qs h t ih=>
  rw [Ob,Ob]
  refine .cons ?_ ih
  obtain ⟨h1,h2⟩:=h
  by_cases e:p.1=k
  ·rw [if_pos e,if_pos (h1.symm.trans e)];exact ⟨h1,ry⟩
  ·rw [if_neg e,if_neg (fun z=>e (h1.trans z))];exact ⟨h1,h2⟩
theorem KV.put {kvs:List (κ×V)} {vs:List (κ×Value)} (r:KV kvs vs) (k:κ) {y:V} {u:Value} (ry:RelV y u):KV (putK kvs k y) (stored vs k u):=by
 unfold putK stored
 rw [r.any k]
 by_cases e:(vs.any fun kv=>decide (kv.1=k))=true
 ·rw [if_pos e,if_pos e];exact r.Ho k ry
 ·rw [if_neg e,if_neg e];exact Paired.snoc r ⟨rfl,ry⟩
theorem KV.length {kvs:List (κ×V)} {vs:List (κ×Value)} (r:KV kvs vs):kvs.length=vs.length:=Oc r
end
theorem pT {P:Program} {w:World} {k:Key} {u:Value} (r:RelV (kV k) u):(bS P w).is k u=true:=by
 cases k with
 | inl i=>obtain ⟨t,e⟩:=(show ∃ t,u=Value.int i t from r);subst e;exact vC P w i t
 | inr x=>obtain ⟨t,e⟩:=(show ∃ t,u=Value.str x t from r);subst e;exact vD P w x t
theorem sM {P:Program} {w:World}:∀ {ks:List Key} {us:List Value},Vals (ks.map kV) us->ItemsAre (bS P w) ks us
 | [],_,r=>by rw [Qo] at r;cases r;exact .nil
 | k::ks,_,r=>by
  rw [Ob] at r
  cases r with
  | cons h t=>exact .cons (pT h) (sM t)
abbrev KT (H:Hp):List (List Key×V)->List (List Key×Addr×Value)->Prop:=Paired fun p q=>p.1=q.1/\H q.2.1=some (.tup (p.1.map kV))/\RelV p.2 q.2.2
theorem KT.val {H:Hp} {kvs:List (List Key×V)} {xs:List (List Key×Addr×Value)} (r:KT H kvs xs) (k:List Key):pI (o3 kvs k) ((atKey xs k).map (·.2)):=by
 induction r with
 | nil=>exact True.intro
 | @cons p q ps qs h t ih=>
  obtain ⟨h1,_,h2⟩:=h
  by_cases e:p.1=k
  ·have e':q.1=k:=h1.symm.trans e
   have b:atKey (q::qs) k=some q.2:=by simp [atKey,Pz,e']
   rw [mf e,b];exact h2
  ·have e':¬ q.1=k:=fun z=>e (h1.trans z)
   have b:atKey (q::qs) k=atKey qs k:=by simp [atKey,Pz,e']
   rw [mi e,b];exact ih
theorem KT.Ho {H:Hp} {kvs:List (List Key×V)} {xs:List (List Key×Addr×Value)} (r:KT H kvs xs) (k:List Key) {y:V} {u:Value} (ry:RelV y u) :
  KT H (kvs.map fun kv=>if kv.1=k then (kv.1,y) else kv) (xs.map (putAt k u)):=by
 induction r with
 | nil=>exact .nil
 | @cons p q ps qs h t ih=>
  rw [Ob,Ob]
  refine .cons ?_ ih
  obtain ⟨h1,h2,h3⟩:=h
  unfold putAt
  by_cases e:p.1=k
  ·rw [if_pos e,if_pos (h1.symm.trans e)];exact ⟨h1,h2,ry⟩
  ·rw [if_neg e,if_neg (fun z=>e (h1.trans z))];exact ⟨h1,h2,h3⟩
theorem KT.put {H:Hp} {kvs:List (List Key×V)} {xs:List (List Key×Addr×Value)} (r:KT H kvs xs) (k:List Key) {b:Addr} {y:V} {u:Value} (hb:H b=some (.tup (k.map kV))) (ry:RelV y u) :
  KT H (putK kvs k y) (storedH xs k b u):=by
 have e:(kvs.any fun kv=>decide (kv.1=k))=(atKey xs k).isSome:=by
  rw [mj,(r.val k).iB,RM]
 unfold putK storedH
 rw [e]
 by_cases q:(atKey xs k).isSome=true
 ·rw [if_pos q,if_pos q];exact r.Ho k ry
 ·rw [if_neg q,if_neg q];exact Paired.snoc r ⟨rfl,hb,ry⟩
theorem KT.keeps {H H':Hp} {kvs:List (List Key×V)} {xs:List (List Key×Addr×Value)} (r:KT H kvs xs) (ht:∀ b ys,H b=some (.tup ys)->H' b=some (.tup ys)):KT H' kvs xs:=
 Paired.rJ r fun _ _ z=>⟨z.1,ht _ _ z.2.1,z.2.2⟩
section
variable {P:Program} {w:World} {H:Hp} {h:Heap} {a:Addr}
theorem F5 {u:HO} (ok:jx P w H h) (e:Rd H a u):cu P w H h a u:=e.ok ok
theorem y8 {kvs:List (Key×V)} (ok:jx P w H h) (e:Rd H a (.dK kvs)):kvs.length<=sizeLine/\(a == sysModules)=false/\∃ vs,KV kvs vs/\h.DictOf (bS P w) a vs:=
 show cu P w H h a (.dK kvs) from F5 ok e
theorem F7 {kvs:List (Key×V)} (ok:jx P w H h) (e:H a=some (.dK kvs)):kvs.length<=sizeLine/\(a == sysModules)=false/\∃ vs,KV kvs vs/\h.DictOf (bS P w) a vs:=y8 ok (.inl e)
theorem pU {ks:List Key} (ok:jx P w H h) (e:H a=some (.tup (ks.map kV))):(tupleKind (bS P w)).is h ks a:=by
 obtain ⟨_,its,r,o,h1,h2,n,h3⟩:=(show cu P w H h a (.tup (ks.map kV)) from ok a _ e)
 exact ⟨o,its.toArray,n,h1,h2,h3,by simpa using sM r⟩
theorem y9 {kvs:List (List Key×V)} (ok:jx P w H h) (e:Rd H a (.dT kvs)):kvs.length<=sizeLine/\(a == sysModules)=false /\
  ∃ xs,KT H kvs xs/\h.DictOfH (tupleKind (bS P w)) a xs:=by
 obtain ⟨z,y,xs,r,o,es,ep,h1,h2,h3,h4,h5⟩:=(show cu P w H h a (.dT kvs) from F5 ok e)
 refine ⟨z,y,xs,r,o,es,ep,h1,h2,h3,h4,fun x hx=>?_,h5⟩
 have all:∀ {l:List (List Key×V)} {m:List (List Key×Addr×Value)},KT H l m->∀ x∈m,(tupleKind (bS P w)).is h x.1 x.2.1:=by
  intro l m q
  induction q with
  | nil=>intro x hx;exact nomatch hx
  | @cons p q ps qs hq t ih=>
   intro x hx
   rcases NJ.mp hx with e | hx
   ·subst e
    exact pU ok (by rw [<- hq.1];exact hq.2.1)
   ·exact ih x hx
 exact all r x hx
theorem JD {kvs:List (List Key×V)} (ok:jx P w H h) (e:H a=some (.dT kvs)):kvs.length<=sizeLine/\(a == sysModules)=false /\
  ∃ xs,KT H kvs xs/\h.DictOfH (tupleKind (bS P w)) a xs:=y9 ok (.inl e)
end
def vO (H:Hp) (a:Addr) (y:V) (r:Option V):Prop:=
 (∃ kvs k,Rd H a (.dK kvs)/\y=kV k/\r=o3 kvs k)\/∃ kvs k b,Rd H a (.dT kvs)/\y=.ref b/\H b=some (.tup (k.map kV))/\r=o3 kvs k
def Ep (H:Hp) (a:Addr) (y v:V) (H':Hp):Prop:=
 (∃ kvs k,H a=some (.dK kvs)/\y=kV k/\kvs.length < sizeLine/\H'=upd H a (.dK (putK kvs k v))) \/
 ∃ kvs k b,H a=some (.dT kvs)/\y=.ref b/\H b=some (.tup (k.map kV))/\kvs.length < sizeLine/\H'=upd H a (.dT (putK kvs k v))
theorem vO.k {H:Hp} {a:Addr} {kvs:List (Key×V)} {k:Key} (e:H a=some (.dK kvs)):vO H a (kV k) (o3 kvs k):=.inl ⟨kvs,k,.inl e,rfl,rfl⟩
theorem Ep.k {H:Hp} {a:Addr} {kvs:List (Key×V)} {k:Key} {v:V} (e:H a=some (.dK kvs)) (hl:kvs.length < sizeLine):Ep H a (kV k) v (upd H a (.dK (putK kvs k v))):=.inl ⟨kvs,k,e,rfl,hl,rfl⟩
section
variable {X:Cx} {pins:List (Addr×Obj)} {σ:St} {H:Hp} {s:Shared} {a:Addr} {y v:V} {u r:Value} {o:Option V} {A:Around} {E:Value->Shared->Prop}
theorem Inv.big (I:Inv X pins σ H s):sysModules < s.heap.objs.size:=by
 have h:mainGlobals < s.heap.objs.size:=(I.mod.glob.keeps I.bk).lt
 exact Nat.lt_trans (by decide) h
theorem AA {Q:Value->Shared->Prop} (hu:A.units+1 < cLine) (I:Inv X pins σ H s) (g:vO H a y (some v)) (ry:RelV y u) (h:∀ w' s',Inv X pins σ H s'->RelV v w'->Q w' s') :
  wpAny (model X.prog X.w) A (getItem (.ref a) u) Q E s:=by
 rcases g with ⟨kvs,k,e,ey,l⟩ | ⟨kvs,k,b,e,ey,eb,l⟩
 ·subst ey
  obtain ⟨z,hd,vs,rel,dd⟩:=y8 I.hok e
  obtain ⟨w',hw,rw'⟩:=pI.some_of (v:=v) (o:=valueAt vs k) (by rw [l];exact rel.val k)
  exact wpAny_getItem_of (pT ry) dd.mapOf hw (h w' _ (I.tok _) rw')
 ·subst ey
  cases (show u=Value.ref b from ry)
  obtain ⟨z,hd,xs,rel,dd⟩:=y9 I.hok e
  obtain ⟨w',hw,rw'⟩:=pI.some_of (v:=v) (o:=(atKey xs k).map (·.2)) (by rw [l];exact rel.val k)
  obtain ⟨p,hp,hp2⟩:=OA.mp hw
  refine wpAny_getItem_heap (QU hu) (pU I.hok eb) dd hp ?_
  rw [hp2]
  exact h w' _ (I.tok _) rw'
theorem LJ {Q:Value->Shared->Prop} (hu:A.units+1 < cLine) (I:Inv X pins σ H s) (g:vO H a y o) (ry:RelV y u) (h:∀ s',Inv X pins σ H s'->Q (.bool o.isSome) s') :
  wpAny (model X.prog X.w) A (compareOp .In u (.ref a)) Q E s:=by
 rcases g with ⟨kvs,k,e,ey,l⟩ | ⟨kvs,k,b,e,ey,eb,l⟩
 ·subst ey
  obtain ⟨z,hd,vs,rel,dd⟩:=y8 I.hok e
  refine wpAny_in_of (pT ry) hd dd.mapOf ?_
  rw [<- (rel.val k).iB,<- l]
  exact h _ (I.tok _)
 ·subst ey
  cases (show u=Value.ref b from ry)
  obtain ⟨z,hd,xs,rel,dd⟩:=y9 I.hok e
  refine wpAny_in_heap (QU hu) (pU I.hok eb) hd dd ?_
  have q:=(rel.val k).iB
  rw [RM] at q
  rw [<- q,<- l]
  exact h _ (I.tok _)
theorem Er {Q:Value->Shared->Prop} (hu:A.units+1 < cLine) (I:Inv X pins σ H s) (g:vO H a y o) (ry:RelV y u) (h:∀ s',Inv X pins σ H s'->Q (.bool (!o.isSome)) s') :
  wpAny (model X.prog X.w) A (compareOp .NotIn u (.ref a)) Q E s:=by
 rcases g with ⟨kvs,k,e,ey,l⟩ | ⟨kvs,k,b,e,ey,eb,l⟩
 ·subst ey
  obtain ⟨z,hd,vs,rel,dd⟩:=y8 I.hok e
  refine wpAny_notIn_of (pT ry) hd dd.mapOf ?_
  rw [<- (rel.val k).iB,<- l]
  exact h _ (I.tok _)
 ·subst ey
  cases (show u=Value.ref b from ry)
  obtain ⟨z,hd,xs,rel,dd⟩:=y9 I.hok e
  refine wpAny_notIn_heap (QU hu) (pU I.hok eb) hd dd ?_
  have q:=(rel.val k).iB
  rw [RM] at q
  rw [<- q,<- l]
  exact h _ (I.tok _)
theorem o9 {h':Heap} {t':Nat} {ob:HO} (I:Inv X pins σ H s) (mu:IQ (H a)) (hs:Heap.SameBut a s.heap h') (he:∃ q,h'.get? a=some q) (new:cu X.prog X.w (upd H a ob) h' a ob) :
  Inv X pins σ (upd H a ob) {s with heap:=h',toks:=t'}:=
 I.write (x:=a) (e:=a) mu (.inl rfl) (fun b q hb z=>(hs.2 b hb).trans z) he new
theorem xV {P:Program} {w:World} {H':Hp} {h':Heap} {kvs:List (Key×V)} {vs:List (Key×Value)} (z:kvs.length<=sizeLine) (hd:(a == sysModules)=false) (rel:KV kvs vs) (dd:h'.DictOf (bS P w) a vs) :
  cu P w H' h' a (.dK kvs):=⟨z,hd,vs,rel,dd⟩
theorem AB {H':Hp} {Q:Unit->Shared->Prop} (hu:A.units+1 < cLine) (I:Inv X pins σ H s) (g:Ep H a y v H') (ry:RelV y u) (rv:RelV v r) (h:∀ s',Inv X pins σ H' s'->Q () s') :
  wpAny (model X.prog X.w) A (setItem (.ref a) u r) Q E s:=by
 rcases g with ⟨kvs,k,e,ey,l,eH⟩ | ⟨kvs,k,b,e,ey,eb,l,eH⟩
 ·subst ey eH
  obtain ⟨z,hd,vs,rel,dd⟩:=F7 I.hok e
  have hz:vs.length<=sizeLine:=by rw [<- rel.length];exact z
  have hl:(putK kvs k v).length<=sizeLine:=by have:=gO kvs k v;omega
  refine wpAny_setItem_pairs (hsz:=hz) (pT ry) dd fun h' dd' hs=>h _ ?_
  have he:∃ q,h'.get? a=some q:=let ⟨q,_,_,hq,_⟩:=dd';⟨q,hq⟩
  exact o9 I (by rw [e];exact True.intro) hs he (xV hl hd (rel.put k rv) dd')
 ·subst ey eH
  cases (show u=Value.ref b from ry)
  obtain ⟨z,hd,xs,rel,dd⟩:=JD I.hok e
  have hz:xs.length<=sizeLine:=by rw [<- Oc rel];exact z
  have hl:(putK kvs k v).length<=sizeLine:=by have:=gO kvs k v;omega
  refine wpAny_setItem_heap (hsz:=hz) (QU hu) (pU I.hok eb) dd fun h' dd' hs=>h _ ?_
  obtain ⟨q,es,ep,hq,h2,h3,h4,_,h5⟩:=dd'
  refine o9 I (by rw [e];exact True.intro) hs ⟨q,hq⟩ ⟨hl,hd,_,(rel.put k eb rv).keeps fun c ys ec=>?_,q,es,ep,hq,h2,h3,h4,h5⟩
  rw [aB (Jd ec e (fun z=>nomatch z))]
  exact ec
end
def Hq (i:Expr):Prop:=∀ ov iv,subscripted i false ov iv=operate [ov,iv] (getItem ov iv)
theorem Es {prog:Program} {w:World} {A:Around} {E:Value->Shared->Prop} {s:Shared} {env:Env} {value slice:Expr} {pos:Pos} {T id:String} {Q:Value->Shared->Prop}
  (hl:typeLookup (.type T) "__getitem__" = pure (some (.builtin id))) (hs:Hq slice)
  (h:wpAny (model prog w) A (eval value env) (fun o s₁=>wpAny (model prog w) A (eval slice env) (fun i s₂=>s₂.TypeIs o T/\wpAny (model prog w) A (getItem o i) Q E s₂) E s₁) E s) :
  wpAny (model prog w) A (eval (.Subscript value slice pos) env) Q E s:=by
 refine Subscript_ (OU h (fun o s₁ h₁=>OU h₁ (fun i s₂ h₂=>?_) fun _ _ x=>x) fun _ _ x=>x)
 obtain ⟨hT,h₂⟩:=h₂
 unfold subscriptTail
 refine NC ?_
 rw [getitemInPython_of_ne hT.not_modules]
 refine NC (Qp hT hl ?_)
 have fin:wpAny (model prog w) A (subscripted slice false o i) (fun r s₃=>wpAny (model prog w) A (letTemporaryGo value o r >>= fun _=>pure r) Q E s₃) E s₂:=by
  rw [hs o i]
  exact wpAny_operating (OU h₂ (fun r s₃ h₃=>NC (wpAny_letTemporaryGo (ND h₃))) fun _ _ x=>x)
 first
  | exact ND (NC fin)
  | exact NC (ND (NC fin))
  | exact NC fin
theorem vP {P:Program} {w:World} {H:Hp} (h:Heap) (hb:sysModules < h.objs.size):cu P w H (h.push {cls:=.type "dict",data:=.dict #[]}) h.objs.size (.dK []):=
 ⟨O0 _,Pq.mpr (Rk (N0 hb)),[],.nil,Heap.DictOf.new h⟩
def Hr:TE:=fun _ H Q=>∀ p,H p=none->Q (.ref p) (upd H p (.dK []))
section
variable {X:Cx} {pos:Pos}
theorem BD:PE X (.Dict [] [] pos) Hr:=fun pins s σ H Q I h=>
 wpAny_Dict_empty ⟨.ref s.heap.objs.size,_,I.laid (a:=s.heap.objs.size) (o:=.dK []) (t':=s.toks) (fun _ _ q=>NF _ q) (NI _) (vP s.heap I.big),rfl,h _ (I.hok.fresh (NI _))⟩
end
def xW:List (TE×TE)->St->Hp->(List (V×V)->Hp->Prop)->Prop
 | [],_,H,Q=>Q [] H
 | (tk,tv)::r,σ,H,Q=>tk σ H fun x H1=>tv σ H1 fun y H2=>xW r σ H2 fun ps H3=>Q ((x,y)::ps) H3
abbrev VV:List (V×V)->List (Value×Value)->Prop:=Paired fun p q=>RelV p.1 q.1/\RelV p.2 q.2
def Kp (X:Cx) (pos:Pos) (keys:List (Option Expr)) (values:List Expr) (trs:List (TE×TE)):Prop:=
 ∀ (pins:List (Addr×Obj)) (s:Shared) (σ:St) (H:Hp) (Q:List (V×V)->Hp->Prop),Inv X pins σ H s->xW trs σ H Q ->
  wpAny (model X.prog X.w) X.A (evalPairs (pairTrees keys values X.env pos)) (fun vs s'=>∃ ps H',Inv X pins σ H' s'/\VV ps vs/\Q ps H') X.xe s
theorem Et {X:Cx} {pos:Pos}:Kp X pos [] [] []:=fun pins s σ H Q I h=>pairTrees_nil_walk ⟨[],H,I,.nil,h⟩
theorem BE {X:Cx} {pos:Pos} {k v:Expr} {ks:List (Option Expr)} {vs:List Expr} {tk tv:TE} {trs:List (TE×TE)} (hk:PE X k tk) (hv:PE X v tv) (hr:Kp X pos ks vs trs) :
  Kp X pos (some k::ks) (v::vs) ((tk,tv)::trs):=fun pins s σ H Q I h=>
 pairTrees_cons_walk (bA (hk pins s σ H _ I h) fun u s1 ⟨x,H1,I1,rx,q1⟩=>bA (hv pins s1 σ H1 _ I1 q1) fun w2 s2 ⟨y,H2,I2,ry,q2⟩=>
  bA (hr pins s2 σ H2 _ I2 q2) fun ws s3 ⟨ps,H3,I3,rel,q3⟩=>⟨(x,y)::ps,H3,I3,.cons ⟨rx,ry⟩ rel,q3⟩)
def pV (kvs more:List (Key×V)):List (Key×V):=more.foldl (fun acc kv=>putK acc kv.1 kv.2) kvs
theorem KV.merge:∀ {more:List (Key×V)} {rs:List (Key×Value)} {kvs:List (Key×V)} {vs:List (Key×Value)},KV more rs->KV kvs vs->KV (pV kvs more) (merged vs rs):=by
 intro more rs kvs vs r
 unfold KV at r
 induction r generalizing kvs vs with
 | nil=>intro q;exact q
 | @cons p q ps qs h t ih=>
  intro r0
  have e:KV (putK kvs p.1 p.2) (stored vs q.1 q.2):=by
   have:=r0.put p.1 h.2
   rw [<- h.1];exact this
  exact ih e
theorem kP:∀ (more kvs:List (Key×V)),(pV kvs more).length<=kvs.length+more.length
 | [],kvs=>by show kvs.length<=kvs.length+0;omega
 | p::r,kvs=>by
  have h1:=kP r (putK kvs p.1 p.2)
  have h2:=gO kvs p.1 p.2
  show (pV (putK kvs p.1 p.2) r).length<=_
  rw [N3];omega
theorem pW {P:Program} {w:World}:∀ {kvs:List (Key×V)} {ws:List (Value×Value)},VV (kvs.map fun kv=>(kV kv.1,kv.2)) ws->∃ rs,Carries (bS P w) ws rs/\KV kvs rs
 | [],_,r=>by rw [Qo] at r;cases r;exact ⟨[],True.intro,.nil⟩
 | p::kvs,_,r=>by
  rw [Ob] at r
  cases r with
  | @cons a b as bs h t=>
   obtain ⟨rs,c,q⟩:=pW (P:=P) (w:=w) t
   obtain ⟨b1,b2⟩:=b
   exact ⟨(p.1,b2)::rs,⟨pT h.1,rfl,c⟩,.cons ⟨rfl,h.2⟩ q⟩
def JE (trs:List (TE×TE)):TE:=fun σ H Q=>∀ p,H p=none->xW trs σ (upd H p (.dK [])) fun ps H2=>H2 p=some (.dK [])/\∃ kvs:List (Key×V),ps=kvs.map (fun kv=>(kV kv.1,kv.2))/\kvs.length<=15/\Q (.ref p) (upd H2 p (.dK (pV [] kvs)))
theorem Eu {X:Cx} {pos:Pos} {keys:List (Option Expr)} {values:List Expr} {trs:List (TE×TE)} (h:Kp X pos keys values trs) (hall:keys.all (·.isSome)=true) (hl:keys.length=values.length) (h0:keys≠[])
  (h15:keys.length<=15):PE X (.Dict keys values pos) (JE trs):=by
 intro pins s σ H Q I q
 have hn:=I.hok.fresh (NI s.heap.objs.size)
 have I1:=I.laid (a:=s.heap.objs.size) (o:=.dK []) (h':=s.heap.push {cls:=.type "dict",data:=.dict #[]}) (t':=s.toks) (fun _ _ q=>NF _ q) (NI _) (vP s.heap I.big)
 refine wpAny_Dict_walk (knd:=bS X.prog X.w) hall hl h0 h15 (bA (h pins _ σ _ _ I1 (q _ hn)) fun ws s2 ⟨ps,H2,I2,rel,e,kvs,ep,lk,q2⟩=>?_)
 subst ep
 obtain ⟨rs,c,rk⟩:=pW (P:=X.prog) (w:=X.w) rel
 obtain ⟨z,hd,vs0,r0,dd⟩:=F7 I2.hok e
 cases r0
 refine ⟨rs,c,dd,fun h' dd' hs=>⟨.ref s.heap.objs.size,_,?_,rfl,q2⟩⟩
 have hz:(pV [] kvs).length<=sizeLine:=by
  have h1:=kP kvs []
  rw [OB] at h1
  rw [Pk];omega
 have he:∃ q,h'.get? s.heap.objs.size=some q:=let ⟨q,_,_,hq,_⟩:=dd';⟨q,hq⟩
 exact o9 I2 (by rw [e];exact True.intro) hs he (xV hz hd (rk.merge .nil) dd')
theorem pX {P:Program} {w:World} {K:PySem.W.Frag} {tg:Expr} {it:Addr} {n:Nat} {Pv:Nat->Value->Prop} {St:Nat->Heap->Prop} {f:Nat->V} (W:∀ A:Around,A.handled=none->Walks P w A it [it] [it] n Pv St)
  (ob:∀ i h,St i h->∃ (o:Obj) (m:String) (vs:Array Value),h.get? it=some o/\o.cls=.type m/\o.data=.fields vs/\["enumerate", "zip", "dict_itemiterator", "dict_reverseitemiterator", "odict_iterator", "itertools.zip_longest", "itertools.pairwise"].contains m=false)
  (rel:∀ i v,i < n->Pv i v->RelV (f i) v) (sf:∀ (A:Around) (i:Nat) (s:Shared) (Q:Value->Shared->Prop) (E:Value->Shared->Prop),St i s.heap->Q (.ref it) s->wpAny (model P w) A (pyIter (.ref it)) Q E s):Turn P w K tg ⟨fun i _=>i < n,fun i H x H'=>H'=H/\x=f i,fun i _=>i=n⟩ [it] it St where
 mem:=by simp
 obj:=fun i h st b hb=>by
  have e:b=it:=by simpa using hb
  subst e
  obtain ⟨o,m,vs,e,_,d,_⟩:=ob i h st
  exact ⟨o,e,fun v z=>by rw [d] at z;cases z⟩
 keep:=fun i h h' st k=>(W {handled:=none,depth:=0,frames:=none,guards:=none,units:=0} rfl).frame i h h' st fun b hb o e=>k b hb o e
 item:=by
  intro X hP hw hK hc i pins s σ H E I hf st hg
  subst hP hw hK
  obtain ⟨f0,f1,f2,f3,f4,f5⟩:=hf it (by simp)
  refine (W X.A (I.ok.hd hc)).item i s _ _ hg st fun v h' tk hv st' kk=>?_
  have I1:Inv X pins σ H {s with heap:=h',toks:=tk}:=I.turned (fun b o hb e=>kk b o (by simpa using hb) e) f0 f1 f3 f4 f5
  obtain ⟨o,m,vs,e,c,d,nm⟩:=ob _ _ st'
  exact ⟨v,rfl,yT (s:={s with heap:=h',toks:=tk}) e c d nm ⟨f i,H,I1,rel i v hg hv,⟨rfl,rfl⟩,st',fun b hb=>(hf b hb).1⟩⟩
 done:=by
  intro X hP hw hK hc i pins s σ H E I hf st hg
  subst hP hw hK
  obtain ⟨f0,f1,f2,f3,f4,f5⟩:=hf it (by simp)
  have hg':i=n:=hg
  subst hg'
  exact (W X.A (I.ok.hd hc)).done s _ _ st fun h' tk kk=>⟨rfl,I.turned (fun b o hb e=>kk b o (by simpa using hb) e) f0 f1 f3 f4 f5⟩
 self:=sf
def sgn (x:Str) (i:Nat):V:=.str ⟨#[x.cps.getD i 0]⟩
def LK (x:Str):It:=⟨fun i _=>i < x.cps.size,fun i H v H'=>H'=H/\v=sgn x i,fun i _=>i=x.cps.size⟩
theorem uo {x:Str} (i:Nat) (v:Value) (hi:i < x.cps.size) (h:SignAt x i v):RelV (sgn x i) v:=by
 obtain ⟨c,u,e,rfl⟩:=h
 refine ⟨u,?_⟩
 have:x.cps.getD i 0=c:=by rw [Ol,e];rfl
 rw [this]
section
variable {X:Cx} {tg:Expr}
def LL (tl:TE):TI:=fun σ H R=>tl σ H fun v H1=>∃ x,v=.str x/\R (LK x) H1
theorem Hs {l:Expr} {tl:TE} (hl:PE X l tl):PI X tg l (LL tl):=by
 intro pins s σ H R I h
 refine bA (hl pins s σ H _ I h) fun v s1 ⟨x,H1,I1,r1,q1⟩=>?_
 obtain ⟨x,e,q⟩:=q1
 subst e
 obtain ⟨t,rfl⟩:=r1
 have fp:∀ b∈[s1.heap.objs.size],gu X pins H1 b:=fun b hb=>by
  have e:b=s1.heap.objs.size:=by simpa using hb
  subst e
  exact I1.Bj (NI _) (I1.hok.fresh (NI _))
 cases ha:x.cps.all (· < 128) with
 | false=>
  refine wpAny_pyIter_wide ha ?_
  refine ⟨s1.heap.objs.size,[s1.heap.objs.size],_,LK x,H1,rfl,I1.kept (t':=s1.toks) fun b o e=>NF _ e,
   pX (fun A hA=>Walks.strWide hA _ x t) (fun i h ⟨o,e,c,d⟩=>⟨o,_,_,e,c,d,by decide⟩) uo fun A i s Q E st h=>wpAny_pyIter_striter_wide st h,⟨_,NL _ rfl,rfl,rfl⟩,fp,q⟩
 | true=>
  refine wpAny_pyIter_ascii ha ?_
  refine ⟨s1.heap.objs.size,[s1.heap.objs.size],_,LK x,H1,rfl,I1.kept (t':=s1.toks) fun b o e=>NF _ e,
   pX (fun A hA=>Walks.strAscii hA _ x t) (fun i h ⟨o,e,c,d⟩=>⟨o,_,_,e,c,d,by decide⟩) uo fun A i s Q E st h=>wpAny_pyIter_striter_ascii st h,⟨_,NL _ rfl,rfl,rfl⟩,fp,q⟩
end
section
variable {X:Cx}
theorem all_range (bs:List Bool):((List.range bs.length).all fun i=>(bs[i]?).getD true)=bs.all id:=by
 rw [OQ]
 simp only [NT,OD,id]
 constructor
 ·intro h b hb
  obtain ⟨i,hi,rfl⟩:=PY.mp hb
  simpa [hi] using h i hi
 ·intro h i hi
  simp only [hi,NR,Rq]
  exact h _ (RS hi)
theorem BF (hc:X.calm=true):dD X (.builtin "all") (fun xs H Q=>∃ (l:Addr) (bs:List Bool),xs=[.ref l]/\iu X.K H l (bs.map V.bl)/\Q (.bl (bs.all id)) H):=by
 intro pins s σ H vs us Q I r h
 obtain ⟨l,bs,rfl,hq,q⟩:=h
 cases r with
 | cons r rr=>
  cases rr
  cases r
  obtain ⟨its,rv,p,_⟩:=I.list hq
  have pl:=p.isList
  have hlt:l < s.heap.objs.size:=by obtain ⟨_,e,_⟩:=pl;exact NK e
  refine call_all_walk (wpAny_pyIter_list pl ?_)
  refine ⟨s.heap.objs.size,[s.heap.objs.size,l],[s.heap.objs.size],its.toArray.size,_,_,fun i=>(bs[i]?).getD true,rfl,Walks.list (A:=X.A.in1) (I.ok.hd hc) _ l (N0 hlt) its.toArray,⟨⟨_,NL _ rfl,rfl,rfl⟩,pl.push _⟩,fun i v s' Q' E' hP hQ=>?_,fun h' tk hk=>?_⟩
  ·have hP':its[i]?=some v:=by simpa using hP
   have hi:i < (bs.map V.bl).length:=by rw [rv.length];exact (NY.mp hP').1
   obtain ⟨u,hu,ru⟩:=rv.get (i:=i) (x:=(bs.map V.bl)[i]) (by simp [hi])
   rw [hP'] at hu
   cases hu
   rw [NZ] at hi
   simp only [List.getElem_map] at ru
   obtain rfl:v=Value.bool bs[i]:=ru
   have hQ':=hQ
   simp only [hi,NR,Rq] at hQ'
   exact O7 hQ'
  ·have e:((List.range its.toArray.size).all fun i=>(bs[i]?).getD true)=bs.all id:=by
    rw [NQ,<- rv.length,NZ];exact all_range bs
   rw [e]
   exact ⟨.bl _,H,I.kept fun b o e=>hk b o (fun hm=>by rw [N8.mp hm] at e;exact N5 _ (NK e)) (NF _ e),rfl,q⟩
theorem AD:gM X (compareOp .LtE) (fun x y H Q=>∃ i j,x=.str i/\y=.str j/\Q (.bl (!decide (j.cps.toList < i.cps.toList))) H):=by
 intro pins s σ H x y v u Q I rx ry h
 obtain ⟨i,j,rfl,rfl,q⟩:=h
 obtain ⟨t,rfl⟩:=rx
 obtain ⟨t',rfl⟩:=ry
 exact P.le_str ⟨.bl _,H,I,rfl,q⟩
end
def gx:V->Option PyData
 | .non=>some .none
 | .bl b=>some (.bool b)
 | .int i=>some (.int i)
 | .str x=>some (.str x)
 | _=>none
def vQ:Key->PyData
 | .inl i=>.int i
 | .inr x=>.str x
def bx:List (Key×V)->Option (List (PyData×PyData))
 | []=>some []
 | (k,v)::r=>match gx v,bx r with
  | some d,some ds=>some ((vQ k,d)::ds)
  | _,_=>none
mutual
def Rep (H:Hp):PyData->V->Prop
 | .none,v=>v=.non
 | .bool b,v=>v=.bl b
 | .int i,v=>v=.int i
 | .str x,v=>v=.str x
 | .tuple ds,v=>∃ a vs,v=.ref a/\H a=some (.tup vs)/\bf H ds vs
 | .list ds,v=>∃ a vs,v=.ref a/\H a=some (.lst vs)/\bf H ds vs
 | .dict kvs,v=>∃ a ks,v=.ref a/\H a=some (.dK ks)/\bx ks=some kvs
def bf (H:Hp):List PyData->List V->Prop
 | [],vs=>vs=[]
 | d::ds,vs=>∃ w ws,vs=w::ws/\Rep H d w/\bf H ds ws
end
mutual
theorem Rep.same {H H':Hp} (s:bH H H'):∀ {d:PyData} {v:V},Rep H d v->Rep H' d v
 | .none,_,h=>h
 | .bool _,_,h=>h
 | .int _,_,h=>h
 | .str _,_,h=>h
 | .tuple ds,_,⟨a,vs,e,h,r⟩=>⟨a,vs,e,s _ _ h,bf.same s r⟩
 | .list ds,_,⟨a,vs,e,h,r⟩=>⟨a,vs,e,s _ _ h,bf.same s r⟩
 | .dict _,_,⟨a,ks,e,h,r⟩=>⟨a,ks,e,s _ _ h,r⟩
theorem bf.same {H H':Hp} (s:bH H H'):∀ {ds:List PyData} {vs:List V},bf H ds vs->bf H' ds vs
 | [],_,h=>h
 | _::_,_,⟨w,ws,e,h,r⟩=>⟨w,ws,e,Rep.same s h,bf.same s r⟩
end
theorem bf.length {H:Hp}:∀ {ds:List PyData} {vs:List V},bf H ds vs->vs.length=ds.length
 | [],_,h=>by cases h;rfl
 | _::ds,_,⟨w,ws,e,_,r⟩=>by rw [e,N3,N3,bf.length r]
theorem bf.get {H:Hp}:∀ {ds:List PyData} {vs:List V} {i:Nat} {v:V},bf H ds vs->vs[i]?=some v->∃ d,ds[i]?=some d/\Rep H d v
 | [],_,i,v,h,e=>by cases h;simp at e
 | d::ds,_,0,v,⟨w,ws,e0,h,r⟩,e=>by subst e0;simp at e;subst e;exact ⟨d,rfl,h⟩
 | d::ds,_,i+1,v,⟨w,ws,e0,h,r⟩,e=>by
  subst e0
  obtain ⟨u,e1,e2⟩:=bf.get (i:=i) r (by simpa using e)
  exact ⟨u,by simpa using e1,e2⟩
theorem bf.get' {H:Hp}:∀ {ds:List PyData} {vs:List V} {i:Nat} {d:PyData},bf H ds vs->ds[i]?=some d->∃ v,vs[i]?=some v/\Rep H d v
 | [],_,i,v,h,e=>by simp at e
 | d::ds,_,0,v,⟨w,ws,e0,h,r⟩,e=>by subst e0;simp at e;subst e;exact ⟨w,rfl,h⟩
 | d::ds,_,i+1,v,⟨w,ws,e0,h,r⟩,e=>by
  subst e0
  obtain ⟨u,e1,e2⟩:=bf.get' (i:=i) r (by simpa using e)
  exact ⟨u,by simpa using e1,e2⟩
theorem bf.append {H:Hp}:∀ {ds es:List PyData} {vs us:List V},bf H ds vs->bf H es us->bf H (ds++es) (vs++us)
 | [],_,_,_,h,r=>by cases h;exact r
 | d::ds,_,_,_,⟨w,ws,e,h,q⟩,r=>by subst e;exact ⟨w,_,rfl,h,bf.append q r⟩
theorem bf.nil {H:Hp}:bf H [] []:=rfl
theorem bf.cons {H:Hp} {d:PyData} {ds:List PyData} {v:V} {vs:List V} (h:Rep H d v) (r:bf H ds vs):bf H (d::ds) (v::vs):=⟨v,vs,rfl,h,r⟩
theorem bf.one {H:Hp} {d:PyData} {v:V} (h:Rep H d v):bf H [d] [v]:=.cons h .nil
theorem bf.take {H:Hp}:∀ {ds:List PyData} {vs:List V} (n:Nat),bf H ds vs->bf H (ds.take n) (vs.take n)
 | [],_,n,h=>by cases h;simp [bf]
 | d::ds,_,0,⟨w,ws,e,h,r⟩=>by subst e;exact rfl
 | d::ds,_,n+1,⟨w,ws,e,h,r⟩=>by subst e;exact .cons h (bf.take n r)
theorem bf.drop {H:Hp}:∀ {ds:List PyData} {vs:List V} (n:Nat),bf H ds vs->bf H (ds.drop n) (vs.drop n)
 | [],_,n,h=>by cases h;simp [bf]
 | d::ds,_,0,h=>h
 | d::ds,_,n+1,⟨w,ws,e,h,r⟩=>by subst e;exact bf.drop n r
theorem xX {h:Heap} {v:V} {u:Value} {d:PyData} (e:gx v=some d) (r:RelV v u):Reads h u d []:=by
 cases v with
 | non=>cases e;cases r;exact .none
 | bl b=>cases e;cases r;exact .bool b
 | int i=>cases e;obtain ⟨t,rfl⟩:=r;exact .int i t
 | str x=>cases e;obtain ⟨t,rfl⟩:=r;exact .str x t
 | _=>cases e
theorem AE {h:Heap} {k:Key} {u:Value} (e:pH k u=true):Reads h u (vQ k) []:=by
 rcases bU e with ⟨i,t,rfl,rfl⟩ | ⟨x,t,rfl,rfl⟩
 ·exact .int i t
 ·exact .str x t
theorem om {P:Program} {w:World} {h:Heap}:∀ {ks:List (Key×V)} {vs:List (Key×Value)} {es:List DictEntry} {kvs:List (PyData×PyData)},bx ks=some kvs->KV ks vs->Pairs (bS P w) es vs ->
  ReadsAll h (es.map (·.key)) (kvs.map (·.1)) []/\ReadsAll h (es.map (·.val)) (kvs.map (·.2)) []
 | [],_,es,kvs,e,r,p=>by
  cases e
  cases r
  cases es with
  | nil=>exact ⟨.nil,.nil⟩
  | cons _ _=>exact (by cases p)
 | (k,v)::ks,_,es,kvs,e,r,p=>by
  cases r with
  | cons r1 r2=>
   rename_i q vs'
   obtain ⟨k',u⟩:=q
   obtain ⟨e1,e2⟩:=r1
   simp only at e1 e2
   subst e1
   cases p with
   | cons hk hv hr=>
    unfold bx at e
    cases e1:gx v with
    | none=>rw [e1] at e;cases e
    | some d=>
     cases e3:bx ks with
     | none=>rw [e1,e3] at e;cases e
     | some ds=>
      rw [e1,e3] at e
      cases e
      obtain ⟨z1,z2⟩:=om e3 r2 hr
      exact ⟨.cons (as:=[]) (bs:=[]) (AE hk) z1,.cons (as:=[]) (bs:=[]) (by show Reads h (DictEntry.val _) d [];rw [hv];exact xX e1 e2) z2⟩
section
variable {X:Cx} {pins:List (Addr×Obj)} {σ:St} {H:Hp} {s:Shared}
mutual
theorem Rep.reads (I:Inv X pins σ H s):∀ {d:PyData} {v:V} {u:Value},Rep H d v->RelV v u->∃ as,Reads s.heap u d as
 | .none,_,u,h,r=>by cases h;cases r;exact ⟨_,.none⟩
 | .bool b,_,u,h,r=>by cases h;cases r;exact ⟨_,.bool b⟩
 | .int i,_,u,h,r=>by cases h;obtain ⟨t,rfl⟩:=r;exact ⟨_,.int i t⟩
 | .str x,_,u,h,r=>by cases h;obtain ⟨t,rfl⟩:=r;exact ⟨_,.str x t⟩
 | .tuple ds,_,u,⟨a,vs,e,h,q⟩,r=>by
  subst e
  cases r
  obtain ⟨_,its,rv,o,ho,hc,n,hd⟩:=I.hok a _ h
  obtain ⟨as,z⟩:=bf.reads I q rv
  exact ⟨_,.tuple ho hc hd (by simpa using z)⟩
 | .list ds,_,u,⟨a,vs,e,h,q⟩,r=>by
  subst e
  cases r
  obtain ⟨_,its,n,rv,ho⟩:=I.hok a _ h
  obtain ⟨as,z⟩:=bf.reads I q rv
  exact ⟨_,.list ho rfl rfl (by simpa using z)⟩
 | .dict kvs,_,u,⟨a,ks,e,h,q⟩,r=>by
  subst e
  cases r
  obtain ⟨_,_,vs,rk,o,es,ep,ho,hx,hd,_,hp,_⟩:=I.hok a _ h
  obtain ⟨z1,z2⟩:=om (P:=X.prog) (w:=X.w) (h:=s.heap) q rk hp
  exact ⟨_,.dict ho hx.1 hd z1 z2⟩
theorem bf.reads (I:Inv X pins σ H s):∀ {ds:List PyData} {vs:List V} {us:List Value},bf H ds vs->Vals vs us->∃ as,ReadsAll s.heap us ds as
 | [],_,us,h,r=>by cases h;cases r;exact ⟨_,.nil⟩
 | d::ds,_,us,⟨w,ws,e,h,q⟩,r=>by
  subst e
  cases r with
  | cons r1 r2=>
   obtain ⟨as,z⟩:=Rep.reads I h r1
   obtain ⟨bs,y⟩:=bf.reads I q r2
   exact ⟨_,.cons z y⟩
end
end
section
variable {X:Cx} {k:Nat}
def JF:PyData->String
 | .none => "NoneType"
 | .bool _ => "bool"
 | .int _ => "int"
 | .str _ => "str"
 | .tuple _ => "tuple"
 | .list _ => "list"
 | .dict _ => "dict"
theorem Rep.ty {H:Hp} {K:PySem.W.Frag} {d:PyData} {v:V} (h:Rep H d v):lZ K H v (.type (JF d)):=by
 cases d with
 | none=>cases h;exact .non
 | bool b=>cases h;exact .bl b
 | int i=>cases h;exact .int i
 | str x=>cases h;exact .str x
 | tuple ds=>obtain ⟨a,vs,rfl,e,_⟩:=h;exact .tup e
 | list ds=>obtain ⟨a,vs,rfl,e,_⟩:=h;exact .lst e
 | dict ds=>obtain ⟨a,ks,rfl,e,_⟩:=h;exact .dK e
theorem BG:dD X (.builtin "isinstance") (fun xs H Q=>∃ x n t b,xs=[x,.ty n]/\lZ X.K H x t/\PySem.W.kitOne X.K t (.type n)=some b/\Q (.bl b) H):=by
 intro pins s σ H vs us Q I r h
 obtain ⟨x,n,t,b,rfl,ty,e,q⟩:=h
 cases r with
 | cons r rr=>
  cases rr with
  | cons r' rr=>
   cases rr
   cases r'
   exact As I r ty e fun tk=>⟨.bl b,H,I.tok _,rfl,q⟩
theorem kit_tuple (K:PySem.W.Frag) (d:PyData):PySem.W.kitOne K (.type (JF d)) (.type "tuple")=some (match d with | .tuple _=>true | _=>false):=by
 cases d<;>first | rfl | decide
theorem Ew (K:PySem.W.Frag) (d:PyData):PySem.W.kitOne K (.type (JF d)) (.type "str")=some (match d with | .str _=>true | _=>false):=by
 cases d<;>first | rfl | decide
end
theorem bH.upd {H H':Hp} {p:Addr} {o:HO} (s:bH H H') (hp:H' p=none):bH H (upd H' p o):=fun b u e=>by rw [aB (aH (s b u e) hp)];exact s b u e
theorem bH.new {H:Hp} {p:Addr} {o:HO} (hp:H p=none):bH H (L2.upd H p o):=(bH.refl H).upd hp
theorem rQ:bootBuiltins "isinstance" = some (.builtin "isinstance"):=by decide +kernel
theorem nE:bootBuiltins "len" = some (.builtin "len"):=by decide +kernel
theorem uq:bootBuiltins "all" = some (.builtin "all"):=by decide +kernel
theorem sN:bootBuiltins "sorted" = some (.builtin "sorted"):=by decide +kernel
theorem AF:bootBuiltins "divmod" = some (.builtin "divmod"):=by decide +kernel
theorem Ht:bootBuiltins "max" = some (.builtin "max"):=by decide +kernel
theorem Hu:bootBuiltins "str" = some (.type "str"):=by decide +kernel
theorem dF:bootBuiltins "tuple" = some (.type "tuple"):=by decide +kernel
theorem Ex:bootBuiltins "list" = some (.type "list"):=by decide +kernel
section
variable {X:Cx} {e e2:Expr} {te te2:TE} {t:TA} {p p2 pos:Pos}
def isTup:PyData->Bool | .tuple _=>true | _=>false
def isStr:PyData->Bool | .str _=>true | _=>false
end
def jD (f:Expr->Option PyData):List Expr->Option (List PyData)
 | []=>some []
 | e::es=>match f e,jD f es with
  | some d,some ds=>some (d::ds)
  | _,_=>none
def o4:Nat->Expr->Option PyData
 | 0,_=>none
 | n+1,e=>match e with
  | .Constant .none _ _=>some .none
  | .Constant (.bool b) _ _=>some (.bool b)
  | .Constant (.int i) _ _=>some (.int i)
  | .Constant (.str x) _ _=>some (.str x)
  | .Tuple es _ _=>if es.length<=1000 then (jD (o4 n) es).map .tuple else none
  | .List es _=>if es.length<=1000 then (jD (o4 n) es).map .list else none
  | .UnaryOp .USub (.Constant (.int i) _ _) _=>some (.int (-i))
  | .BinOp (.Constant (.int a) _ _) .Pow (.Constant (.int b) _ _) _=>if 0<=b/\b<=1000000/\a.natAbs < 2 ^ 64 then some (.int (a ^ b.toNat)) else none
  | .Dict [] [] _=>some (.dict [])
  | .Dict [some (.Constant (.str k) _ _)] [.Constant (.int i) _ _] _=>some (.dict [(.str k,.int i)])
  | _=>none
abbrev sO (n:Nat) (es:List Expr):Option (List PyData):=jD (o4 n) es
def gP (H H' N:Hp):Prop:=∀ c o,N c=some o->H c=none/\H' c=some o
def Hv (d:PyData):TE:=fun _ H Q=>∀ r H' N,bH H H'->gP H H' N->Rep N d r->Q r H'
def JG (ds:List PyData):TA:=fun _ H Q=>∀ rs H' N,bH H H'->gP H H' N->bf N ds rs->Q rs H'
def rR:Hp:=fun _=>none
theorem gP.no {H H':Hp}:gP H H' rR:=fun _ _ e=>by cases e
def lx (N M:Hp):Hp:=fun c=>match N c with | some o=>some o | none=>M c
theorem Hw {N M:Hp}:bH N (lx N M):=fun c o e=>by simp only [lx,e]
theorem Hx {H H1 H2 N M:Hp} (n:gP H H1 N) (m:gP H1 H2 M):bH M (lx N M):=fun c o e=>by
 have h1:=(m c o e).1
 cases q:N c with
 | none=>simp only [lx,q,e]
 | some u=>rw [(n c u q).2] at h1;cases h1
theorem gP.plus {H H1 H2 N M:Hp} (s1:bH H H1) (s2:bH H1 H2) (n:gP H H1 N) (m:gP H1 H2 M):gP H H2 (lx N M):=fun c o e=>by
 cases q:N c with
 | some u=>
  simp only [lx,q] at e
  cases e
  exact ⟨(n c _ q).1,s2 _ _ (n c _ q).2⟩
 | none=>
  simp only [lx,q] at e
  exact ⟨s1.free (m c o e).1,(m c o e).2⟩
theorem gP.put {H H1 N:Hp} {p:Addr} {o:HO} (s1:bH H H1) (n:gP H H1 N) (hp:H1 p=none):gP H (upd H1 p o) (upd N p o)/\bH N (upd N p o):=by
 have np:∀ c u,N c=some u->c≠p:=fun c u e z=>by subst z;rw [(n c u e).2] at hp;cases hp
 refine ⟨fun c u e=>?_,fun c u e=>by rw [aB (np c u e)];exact e⟩
 by_cases hc:c=p
 ·subst hc
  rw [ba] at e
  cases e
  exact ⟨s1.free hp,ba⟩
 ·rw [aB hc] at e
  exact ⟨(n c u e).1,by rw [aB hc];exact (n c u e).2⟩
theorem iQ:∀ {es:List Expr} {n:Nat} {ds:List PyData},sO n es=some ds->ds.length=es.length
 | [],n,ds,h=>by unfold sO jD at h;cases h;rfl
 | e::es,n,ds,h=>by
  unfold sO jD at h
  split at h
  ·rename_i d ds' h1 h2
   cases h
   rw [N3,N3,iQ h2]
  ·cases h
section
variable {X:Cx}
theorem ur {n:Nat} (ih:∀ (e:Expr) (d:PyData),o4 n e=some d->PE X e (Hv d)/\∀ es:List Expr,starEach (e::es) X.env=(false,eval e X.env)::starEach es X.env):∀ (es:List Expr) (ds:List PyData),sO n es=some ds->PA X es (JG ds)
 | [],ds,h=>by
  unfold sO jD at h
  cases h
  intro pos pins s σ H Q I q
  exact pO pos pins s σ H Q I (q [] H rR (bH.refl H) .no rfl)
 | e::es,ds,h=>by
  unfold sO jD at h
  split at h
  ·rename_i d ds' h1 h2
   cases h
   obtain ⟨a,b⟩:=ih e d h1
   intro pos pins s σ H Q I q
   refine ka a (ur ih es ds' h2) (b es) pos pins s σ H Q I fun r H1 N1 s1 n1 hr rs H2 N2 s2 n2 hrs=>q _ H2 _ (s1.trans s2) (n1.plus s1 s2 n2) (.cons (hr.same Hw) (hrs.same (Hx n1 n2)))
  ·cases h
theorem xY:∀ (n:Nat) (e:Expr) (d:PyData),o4 n e=some d->PE X e (Hv d)/\∀ es:List Expr,starEach (e::es) X.env=(false,eval e X.env)::starEach es X.env:=by
 intro n
 induction n with
 | zero=>intro e d h;unfold o4 at h;cases h
 | succ n ih=>
  intro e d h
  unfold o4 at h
  split at h
  ·cases h;exact ⟨fun pins s σ H Q I q=>GJ pins s σ H Q I (q _ H rR (bH.refl H) .no rfl),fun _=>rfl⟩
  ·cases h;exact ⟨fun pins s σ H Q I q=>FV pins s σ H Q I (q _ H rR (bH.refl H) .no rfl),fun _=>rfl⟩
  ·cases h;exact ⟨fun pins s σ H Q I q=>nB pins s σ H Q I (q _ H rR (bH.refl H) .no rfl),fun _=>rfl⟩
  ·cases h;exact ⟨fun pins s σ H Q I q=>xE pins s σ H Q I (q _ H rR (bH.refl H) .no rfl),fun _=>rfl⟩
  ·rename_i es k' p'
   split at h
   ·rename_i hl
    cases h1:jD (o4 n) es with
    | none=>rw [h1] at h;cases h
    | some ds=>
     rw [h1] at h
     cases h
     refine ⟨fun pins s σ H Q I q=>Br (ur ih es ds h1) pins s σ H Q I fun rs H1 N1 s1 n1 hrs=>⟨?_,fun p hp=>q _ _ _ (s1.upd hp) (n1.put s1 hp).1 ⟨p,rs,rfl,ba,hrs.same (n1.put s1 hp).2⟩⟩,fun _=>rfl⟩
     rw [hrs.length,iQ h1]
     exact NS hl (by decide)
   ·cases h
  ·rename_i es p'
   split at h
   ·rename_i hl
    cases h1:jD (o4 n) es with
    | none=>rw [h1] at h;cases h
    | some ds=>
     rw [h1] at h
     cases h
     refine ⟨fun pins s σ H Q I q=>xM (ur ih es ds h1) pins s σ H Q I fun rs H1 N1 s1 n1 hrs=>⟨?_,fun p hp=>q _ _ _ (s1.upd hp) (n1.put s1 hp).1 ⟨p,rs,rfl,ba,hrs.same (n1.put s1 hp).2⟩⟩,fun _=>rfl⟩
     rw [hrs.length,iQ h1]
     exact NS hl (by decide)
   ·cases h
  ·cases h;exact ⟨fun pins s σ H Q I q=>Jl G9 nB pins s σ H Q I ⟨_,rfl,q _ H rR (bH.refl H) .no rfl⟩,fun _=>rfl⟩
  ·split at h
   ·rename_i hl
    cases h
    exact ⟨fun pins s σ H Q I q=>FY G8 nB nB pins s σ H Q I ⟨_,_,rfl,rfl,hl,q _ H rR (bH.refl H) .no rfl⟩,fun _=>rfl⟩
   ·cases h
  ·cases h;exact ⟨fun pins s σ H Q I q=>BD pins s σ H Q I fun p hp=>q _ _ (upd rR p (.dK [])) (bH.new hp) (gP.put (bH.refl H) .no hp).1 ⟨p,[],rfl,ba,rfl⟩,fun _=>rfl⟩
  ·rename_i k k1 p1 i i1 p2 p3
   cases h
   refine ⟨fun pins s σ H Q I q=>Eu (BE xE nB Et) rfl rfl (by simp) (by show 1<=15;decide) pins s σ H Q I fun p hp=>⟨ba,[(Sum.inr k,V.int i)],rfl,by show 1<=15;decide,?_⟩,fun _=>rfl⟩
   refine q _ _ (upd rR p (.dK [(Sum.inr k,V.int i)])) (fun b o e=>?_) (fun c o e=>?_) ⟨p,[(Sum.inr k,V.int i)],rfl,ba,rfl⟩
   ·rw [aB (aH e hp),aB (aH e hp)]
    exact e
   ·by_cases hc:c=p
    ·subst hc
     rw [ba] at e
     cases e
     exact ⟨hp,ba⟩
    ·rw [aB hc] at e
     cases e
  ·cases h
@[irreducible] def Lit (n:Nat) (e:Expr) (d:PyData):Prop:=o4 n e=some d
theorem Lit.of {n:Nat} {e:Expr} {d:PyData} (h:o4 n e=some d):Lit n e d:=by unfold Lit;exact h
theorem Lit.eq {n:Nat} {e:Expr} {d:PyData} (h:Lit n e d):o4 n e=some d:=by unfold Lit at h;exact h
theorem Hy (n:Nat) {e:Expr} {d:PyData} (h:Lit n e d):PE X e (Hv d):=(xY n e d h.eq).1
end
section
variable {X:Cx} {k:Nat}
def cutD (ds:List PyData) (lo hi:Option Int):List PyData:=(ds.drop (HT.eB ds.length 0 lo)).take (HT.eB ds.length ds.length hi - HT.eB ds.length 0 lo)
theorem rS {P:Program} {w:World} {A:Around} {E:Value->Shared->Prop} {s:Shared} {t sl:Addr} {items:Array Value} {vl vu:Value} {lo hi:Option Int} {Q:Value->Shared->Prop} (ht:IsTup s.heap t items) (hs:s.heap.IsSliceOf sl vl vu .none) (pl:IsPart vl lo) (pu:IsPart vu hi)
  (h0:HT.eB items.size 0 lo=0) (h1:HT.eB items.size items.size hi=items.size) (q:Q (.ref t) s):wpAny (model P w) A (getItem (.ref t) (.ref sl)) Q E s:=by
 obtain ⟨os,hos,hcs,hds⟩:=id hs
 have hTs:s.TypeIs (.ref sl) "slice" := ⟨os,hos,hcs⟩
 unfold getItem
 try with_reducible refine Ow ?_
 first | refine NC (ND ?_) | skip
 refine NC (wpAny_sequenceKey ht.typeIs (by decide) ?_)
 refine NC (Oj (name:=Str.ofString "__getitem__") ht.typeIs OC (Of OC ht.typeIs entry_tuple_getitem ?_ (args_tuple_getitem _ _)))
 show wpAny _ _ (Builtin.Tuple.tupleItemsOf (.ref t) >>= _) _ _ s
 refine NC (tupleItemsOf_ ht (NC (Rc hTs ?_)))
 rw [if_pos (by decide)]
 refine NC (HT.iz hs pl pu ?_)
 rw [h0,h1]
 show wpAny _ _ (if ((((0:Nat):Int) == 0 && (1:Int) == 1 && (items.size - 0) == items.size)=true) then _ else _) _ _ s
 rw [if_pos (by simp)]
 unfold Builtin.Tuple.tupleIsExact
 refine NC (NC (Rc ht.typeIs (ND ?_)))
 first
  | exact NC (PD (NC (ND (ND ⟨_,rfl,ND q⟩))))
  | exact NC (PD (ND ⟨_,rfl,ND q⟩))
  | (rw [if_pos (by decide)];exact NC (PD (NC (ND (ND ⟨_,rfl,ND q⟩)))))
  | (rw [if_pos (by decide)];exact NC (PD (ND ⟨_,rfl,ND q⟩)))
end
def rT (P:Program) (w:World):Bd:=fun outer H s E e s'=>
 ∃ (a:Addr) (cls:Value) (t:Addr) (B:Heap) (H':Hp),e=.ref a/\s'.os=s.os/\AllBare s'.gens/\Un (rG outer) [] H H' s.heap s'.heap/\jx P w H' s'.heap/\Heap.FlyingW B outer a cls (.ref t) s'.heap /\
  (∀ b o,s.heap.get? b=some o->b∉rG outer->∃ o',s'.heap.get? b=some o'/\B.get? b=some o')/\(∀ b u,H' b=some u->∃ o',s'.heap.get? b=some o'/\B.get? b=some o')/\E cls none H'
section
variable {P:Program} {w:World} {K:PySem.W.Frag} {mg:Str->Option Value} {base:Heap} {N:List Str} {qual:Str} {scope:Scope} {f:Addr} {cd:Value} {A:Around} {outer:List Env} {s:Shared} {H:Hp} {E:XK}
theorem bg:Passes (rT P w) (rL (rT P w) P w K mg base N qual scope f cd A outer s H E) E:=by
 intro pins σ H1 s1 e s' I ⟨a,cls,t,B,H',e1,os,bare,un,hok,fl,old,Aj,q⟩
 subst e1
 have J:=I.FU os un hok bare (fun b z=>nomatch z)
 have hfr:(A.deeper (envOfC qual scope s.heap.objs.size f cd)).frames=some (envOfC qual scope s.heap.objs.size f cd::outer):=I.ok.frames
 have noA:∀ b:Addr,b∉(rL (rT P w) P w K mg base N qual scope f cd A outer s H E).ex:=fun b z=>nomatch z
 have inB:∀ b o,s.heap.get? b=some o->b∉rG outer->∃ o',s'.heap.get? b=some o'/\B.get? b=some o':=fun b o e hb=>by
  obtain ⟨o1,e1⟩:=I.base.there b o e (noA b)
  refine old b o1 e1 fun z=>?_
  rcases NJ.mp (I.hV b z) with z | z
  ·have z2:b=s.heap.objs.size:=z
   exact absurd (NK e) (by rw [z2];exact N5 _)
  ·exact hb z
 refine wpAny_leaves_onW hfr rfl fl fun h' fl' up=>?_
 refine ⟨a,cls,t,B,H',rfl,os.trans I.os,bare,⟨fun b o e n hb _=>?_,fun b o e n hb _=>?_,fun b o e n _=>J.base.free b o e n (noA b),fun b o e _=>?_,J.base.tups,J.base.frzs,J.base.tbls⟩,fun b u e=>?_,fl',fun b o e hb=>?_,fun b u e=>?_,q⟩
 ·have e2:=J.base.keep b o e n hb (noA b)
  obtain ⟨o',e3,e4⟩:=inB b o e hb
  rw [e2] at e3;cases e3
  exact fl'.1 b o e4
 ·obtain ⟨sl,e2⟩:=J.base.slot b o e n hb (noA b)
  obtain ⟨_,o',e3,nf⟩:=J.ny.mem hb
  rw [e2] at e3;cases e3
  obtain ⟨sl',e4⟩:=up b _ e2 nf
  exact ⟨sl',e4⟩
 ·by_cases hb:b∈rG outer
  ·obtain ⟨o2,e2⟩:=J.base.there b o e (noA b)
   obtain ⟨_,o',e3,nf⟩:=J.ny.mem hb
   obtain ⟨sl',e4⟩:=up b _ e3 nf
   exact ⟨_,e4⟩
  ·obtain ⟨o',e3,e4⟩:=inB b o e hb
   exact ⟨o',fl'.1 b o' e4⟩
 ·refine (hok b u e).pJ (fun c v hc z=>?_) (fun _ z=>z) fun _ _ z=>z
  have:∃ u',H' c=some u':=by
   rcases hc with hc | hc
   ·exact ⟨u,hc▸e⟩
   ·exact ⟨_,hc⟩
  obtain ⟨u',hu⟩:=this
  obtain ⟨o',e3,e4⟩:=Aj c u' hu
  rw [z] at e3;cases e3
  exact fl'.1 c v e4
 ·obtain ⟨o',e3,e4⟩:=inB b o e hb
  exact ⟨o',fl'.1 b o' e4,e4⟩
 ·obtain ⟨o',e3,e4⟩:=Aj b u e
  exact ⟨o',fl'.1 b o' e4,e4⟩
end
def Ey (a:Addr) (cls:Value):Heap->Prop:=fun h=>∃ o,h.get? a=some o/\o.cls=cls
structure Ext (H G H' G':Hp):Prop where
 sh:bH H H'
 sg:bH G G'
 gs:bH G' H'
 old:∀ c,H c≠none->G' c=G c
theorem Ext.refl {H G:Hp} (s:bH G H):Ext H G H G:=⟨bH.refl H,bH.refl G,s,fun _ _=>rfl⟩
theorem Ext.new {H G:Hp} {p:Addr} {o:HO} (s:bH G H) (hp:H p=none):Ext H G (upd H p o) (upd G p o):=by
 refine ⟨bH.new hp,bH.new (s.free hp),fun c u e=>?_,fun c hc=>aB fun z=>hc (z▸hp)⟩
 by_cases h:c=p
 ·subst h;rw [ba] at e ⊢;exact e
 ·rw [aB h] at e ⊢;exact s c u e
section
variable {X:Cx} {k:Nat}
def JH:R2:=fun x y H Q=>∃ G ds es,bH G H/\Rep G (.tuple ds) x/\Rep G (.tuple es) y/\ds.length+es.length<=sizeLine/\∀ r H' G',Ext H G H' G'->Rep G' (.tuple (ds++es)) r->Q r H'
theorem Ez:gM X (binaryOp .Add) JH:=by
 intro pins s σ H x y v u Q I rx ry h
 obtain ⟨G,ds,es,sg,h1,h2,hz,q⟩:=h
 obtain ⟨a,vs,rfl,ha,r1⟩:=id h1
 obtain ⟨b,us,rfl,hb,r2⟩:=id h2
 by_cases hv:vs=[]
 ·subst hv
  have hd:ds=[]:=Qf.mp r1.length.symm
  subst hd
  cases rx
  cases ry
  obtain ⟨its1,v1,⟨⟨c1,d1,e1,l1⟩,p1,g1,n1,z1⟩,_⟩:=I.tuple (fU.of (K:=X.K) (sg _ _ ha))
  obtain ⟨its2,v2,⟨⟨c2,d2,e2,l2⟩,p2,g2,n2,z2⟩,_⟩:=I.tuple (fU.of (K:=X.K) (sg _ _ hb))
  simp only at g1 z1 g2 z2
  subst g1 z1 g2 z2
  cases v1
  exact concat_meets ⟨_,p1,rfl⟩ ⟨_,p2,rfl⟩ noFill_tuple_add seq_tuple_add QZ QT (QM _ _) (tuple_addW0 a b _ _ n1 n2 d1 d2 l1 l2 rfl) ⟨p1,p2,⟨.ref b,H,I,rfl,q _ H G (Ext.refl sg) h2⟩⟩
 ·refine Eg pins s σ H _ _ v u Q I rx ry ⟨a,b,vs,us,rfl,rfl,fU.of (sg _ _ ha),fU.of (sg _ _ hb),hv,by rw [r1.length,r2.length];exact hz,fun e=>?_,fun e p hp=>?_⟩
  ·subst e
   have he:es=[]:=Qf.mp r2.length.symm
   subst he
   exact q _ H G (Ext.refl sg) (by rw [RB];exact h1)
  ·have x:=Ext.new (o:=.tup (vs++us)) sg hp
   exact q _ _ _ x ⟨p,_,rfl,ba,bf.append (r1.same x.sg) (r2.same x.sg)⟩
def LM:V->Option Int->Option Int->Hp->VK->Prop:=fun x lo hi H Q=>∃ G ds,bH G H/\Rep G (.tuple ds) x/\∀ r H' G',Ext H G H' G'->Rep G' (.tuple (cutD ds lo hi)) r->Q r H'
theorem EA:IU X LM:=by
 intro pins s σ H x v vl vu lo hi sl Q I rx hs pl pu h
 obtain ⟨G,ds,sg,h1,q⟩:=h
 obtain ⟨a,xs,rfl,ha,r1⟩:=id h1
 cases rx
 obtain ⟨its,rv,ht,hz⟩:=I.tuple (fU.of (K:=X.K) (sg _ _ ha))
 have hl:its.toArray.size=xs.length:=by rw [NQ];exact rv.length.symm
 by_cases hw:HT.eB xs.length 0 lo=0/\HT.eB xs.length xs.length hi=xs.length
 ·refine ⟨"tuple",_,OC.lookup,ht.typeIs,rS ht hs pl pu (by rw [hl];exact hw.1) (by rw [hl];exact hw.2) ⟨.ref a,H,I,rfl,q _ H G (Ext.refl sg) ?_⟩⟩
  have e:cutD ds lo hi=ds:=by
   unfold cutD
   rw [<- r1.length,hw.1,hw.2,List.drop_zero,Nat.sub_zero,r1.length,List.take_length]
  rw [e]
  exact h1
 ·refine He pins s σ H (.ref a) _ vl vu lo hi sl Q I rfl hs pl pu ⟨a,xs,rfl,fU.of (sg _ _ ha),hw,fun p hp=>?_⟩
  have x:=Ext.new (o:=.tup (pQ xs lo hi)) sg hp
  refine q _ _ _ x ⟨p,_,rfl,ba,?_⟩
  have e:cutD ds lo hi=(ds.drop (HT.eB xs.length 0 lo)).take (HT.eB xs.length xs.length hi - HT.eB xs.length 0 lo):=by
   unfold cutD
   rw [r1.length]
  rw [e]
  exact ((r1.same x.sg).drop _).take _
end
theorem Vals.F8:∀ (us:List Value) (f:Nat->V),(∀ j v,us[j]?=some v->RelV (f j) v)->Vals ((List.range us.length).map f) us
 | [],_,_=>.nil
 | u::us,f,h=>by
  rw [N3,List.range_succ_eq_map,Ob,Rh]
  exact .cons (h 0 u rfl) (Vals.F8 us (f∘Nat.succ) fun j v e=>h (j+1) v e)
section
variable {X:Cx}
theorem vR (hc:X.calm=true):dD X (.type "tuple") (fun xs H Q=>∃ x,xs=[.str x]/\x.cps.size<=sizeLine/\∀ p,H p=none->Q (.ref p) (upd H p (.tup ((List.range x.cps.size).map (sgn x))))):=by
 intro pins s σ H xs us Q I r h
 obtain ⟨x,rfl,hz,q⟩:=h
 obtain ⟨u,rfl,rx⟩:=vals1 r
 obtain ⟨t,rfl⟩:=rx
 refine call_tuple_str (I.ok.hd hc) x t (fun h' tk acc kp hacc=>?_) hz
 have I1:Inv X pins σ H {s with heap:=h',toks:=tk}:=I.kept (t':=tk) kp
 have hv:Vals ((List.range x.cps.size).map (sgn x)) acc.toList:=by
  have e:acc.toList.length=x.cps.size:=by rw [OF,hacc.1]
  rw [<- e]
  refine Vals.F8 _ _ fun j v ev=>uo j v ?_ (hacc.2 j v (by simpa using ev))
  rw [<- e]
  exact (NY.mp ev).1
 have I2:Inv X pins σ (upd H h'.objs.size (.tup ((List.range x.cps.size).map (sgn x)))) {s with heap:=h'.push {cls:=.type "tuple",data:=.seq acc},toks:=tk}:=by
  refine I1.laid (t':=tk) (fun b o e=>NF _ e) (NI _) (show cu X.prog X.w _ _ _ (.tup _) from ⟨by rw [NZ,RN];exact hz,acc.toList,hv,?_⟩)
  have:=IsTup.new h' acc
  simpa using this
 exact ⟨.ref h'.objs.size,_,I2,rfl,q _ (I1.hok.fresh (NI _))⟩
end
def recAt (c:Addr) (q:Str):Heap->Prop:=fun h=>h.CodeRec (.ref c) q
end L2
namespace PySem.SeqAt
open PySem PySem.MeetsSeq PySem.AutoSeq1
theorem pY (b:Str) (u:Tok) (l:Addr) (es:Array DictEntry) (n:Nat) (dd:Option Addr) (sl:Array (Option Value)) :
  Meets (Builtin.«str.__eq__» ⟨[.str b u,.ref l],[]⟩) (fun _ R s=>s.heap.get? l=some {cls:=.type "dict",dict:=dd,data:=.dict es n,slots:=sl}/\R (.ok (.ret .notImplemented)) s):=
 .of_wp fun prog w A R s h=>by
  obtain ⟨hp,g,d,tk,os⟩:=s
  obtain ⟨hl,h⟩:=h
  wp_walk using wpAny_loadPart' hl,Q1 hl
  exact ⟨_,rfl,h⟩
theorem pZ (b:Str) (u:Tok) (l:Addr) (es:Array DictEntry) (n:Nat) (dd:Option Addr) (sl:Array (Option Value)) :
  Meets (Builtin.«dict.__eq__» ⟨[.ref l,.str b u],[]⟩) (fun _ R s=>s.heap.get? l=some {cls:=.type "dict",dict:=dd,data:=.dict es n,slots:=sl}/\R (.ok (.ret .notImplemented)) s):=
 .of_wp fun prog w A R s h=>by
  obtain ⟨hp,g,d,tk,os⟩:=s
  obtain ⟨hl,h⟩:=h
  have f1:=F.sub_str_dict
  wp_walk using wpAny_loadPart' hl,Q1 hl
  exact ⟨_,rfl,h⟩
theorem EqAt.EB {A:Around} {s:Shared} {l:Addr} {es:Array DictEntry} {n:Nat} {dd:Option Addr} {sl:Array (Option Value)} (b:Str) (u:Tok) (hl:s.heap.get? l=some {cls:=.type "dict",dict:=dd,data:=.dict es n,slots:=sl}) (hu:A.units < cLine):EqAt A s (.str b u) (.ref l) false:=fun prog w E Q h=>by
 unfold eqBool
 refine Ow (Pf (fun hab=>absurd (eq_of_beq hab) nofun) (fun _=>NC ?_))
 refine rc_eq_decline_or (k:=false) (typeIs_str s b u) ⟨_,hl,rfl⟩ (by decide) F.sub_dict_str F.slot_str_eq QK
  (fun _ hq=>QN F.slot_str_eq (typeIs_str s b u) F.entry_str_eq (F.args_str_eq_2 _ _) (pY b u l es n dd sl) ⟨hl,hq⟩)
  (fun _ hq=>QN QK ⟨_,hl,rfl⟩ F.entry_dict_eq (F.args_dict_eq_2 _ _) (pZ b u l es n dd sl) ⟨hl,hq⟩)
  (fun _ hq=>Qd (rfl:isSame (.str b u) (.ref l)=pure false) hq) (.inr hu) (O7 h)
end PySem.SeqAt
set_option maxHeartbeats 4000000
namespace PySem.W
open PySem PySem.Calls PyProof.Rows
def KasT.Run {α:Type} (lt:Nat->Nat->Bool) (n:Nat):KasT α->(α->Prop)->Prop
 | .ret a,P=>P a
 | .ask i j k,P=>i < n/\j < n/\(k (lt i j)).Run lt n P
theorem KasT.run_bind {α β:Type} {lt:Nat->Nat->Bool} {n:Nat} {f:α->KasT β} {P:β->Prop} :
  ∀ (t:KasT α),t.Run lt n (fun a=>(f a).Run lt n P)->(t.bind f).Run lt n P
 | .ret _,h=>h
 | .ask _ _ k,h=>⟨h.1,h.2.1,KasT.run_bind (k _) h.2.2⟩
theorem KasT.eF {α:Type} {lt:Nat->Nat->Bool} {n:Nat} {P Q:α->Prop} (hq:∀ a,P a->Q a) :
  ∀ (t:KasT α),t.Run lt n P->t.Run lt n Q
 | .ret a,h=>hq a h
 | .ask _ _ k,h=>⟨h.1,h.2.1,KasT.eF hq (k _) h.2.2⟩
theorem KasT.BH {α:Type} {lt:Nat->Nat->Bool} {n:Nat} {P:α->Prop} {Q:α->Shared->Prop} {I:Shared->Prop}
  {cmp:Nat->Nat->(Bool->Shared->Prop)->Shared->Prop}
  (hc:∀ i j C s,i < n->j < n->I s->(∀ s',I s'->C (lt i j) s')->cmp i j C s) (hq:∀ a s,P a->I s->Q a s) :
  ∀ (t:KasT α) (s:Shared),t.Run lt n P->I s->t.kasWp cmp Q s
 | .ret a,s,h,hi=>hq a s h hi
 | .ask i j k,s,h,hi=>hc i j _ s h.1 h.2.1 hi (fun s' hs'=>KasT.BH hc hq (k _) s' h.2.2 hs')
structure kD (lt:Nat->Nat->Bool) (n:Nat):Prop where
 as:∀ a b,a < n->b < n->lt a b=true->lt b a=false
 tr:∀ a b c,a < n->b < n->c < n->lt b a=false->lt c b=false->lt c a=false
abbrev pat (p:Array Nat) (k:Nat):Nat:=p.getD k 0
theorem ia (p:Array Nat) (k:Nat):pat p k=p[k]?.getD 0:=by
 show p.getD k 0=_
 simp [Ol]
structure bY (n:Nat) (p:Array Nat):Prop where
 perm:p.toList.Perm (List.range n)
theorem bY.size {n:Nat} {p:Array Nat} (h:bY n p):p.size=n:=by
 have:=h.perm.length_eq
 simpa using this
theorem bY.lt {n:Nat} {p:Array Nat} (h:bY n p) {k:Nat} (hk:k < n):pat p k < n:=by
 have hs:k < p.size:=by rw [h.size];exact hk
 have e:pat p k=p[k]:=by rw [ia,RG p k hs];rfl
 rw [e]
 have:p[k]∈p.toList:=by simp
 exact OD.mp (h.perm.mem_iff.mp this)
theorem bY.of {n:Nat} {p q:Array Nat} (h:bY n p) (e:q.Perm p):bY n q:=
 ⟨(Array.perm_iff_toList_perm.mp e).trans h.perm⟩
theorem bY.rev {n:Nat} {p:Array Nat} (h:bY n p) (i j:Nat):bY n (kas_rev p i j):=h.of (mirror_perm _ _ _ _)
theorem gQ {n:Nat} {p:Array Nat} (h:bY n p) {i j:Nat} (hj:j<=n) (k:Nat) :
  pat (kas_rev p i j) k=if i<=k/\k < j then pat p (i+j - 1 - k) else pat p k:=by
 rw [ia]
 unfold kas_rev
 rw [getElem?_mirror_all (by rw [h.size];exact hj)]
 split<;>rw [ia]
theorem za {n:Nat} {p:Array Nat} (h:bY n p) {k d:Nat} (hk:k < n) (hd:d<=k) (i:Nat) :
  pat (bubble p k d) i=if i=k - d then pat p k else if k - d < i/\i<=k then pat p (i - 1) else pat p i:=by
 rw [ia,getElem?_bubble (by rw [h.size];exact hk) d hd]
 split
 ·rw [ia]
 ·split<;>rw [ia]
section
variable {lt:Nat->Nat->Bool} {n:Nat}
def vS (lt:Nat->Nat->Bool) (p:Array Nat) (m:Nat):Prop:=∀ i j,i < j->j < m->lt (pat p j) (pat p i)=false
def gR (lt:Nat->Nat->Bool) (p:Array Nat) (m:Nat):Prop:=∀ i j,i < j->j < m->lt (pat p i) (pat p j)=false
theorem kD.LN (O:kD lt n) {x:Nat} (hx:x < n):lt x x=false:=by
 cases hh:lt x x with
 | false=>rfl
 | true=>have:=O.as _ _ hx hx hh;rw [hh] at this;exact this
theorem vS.more (O:kD lt n) {p:Array Nat} (hp:bY n p) {m:Nat} (h1:1<=m) (hm:m < n) (u:vS lt p m) (h:lt (pat p m) (pat p (m - 1))=false):vS lt p (m+1):=by
 intro i j hij hj
 rcases PL j m with h' | h'
 ·exact u i j hij h'
 ·obtain rfl:j=m:=by omega
  rcases PL i (j - 1) with h'' | h''
  ·exact O.tr _ _ _ (hp.lt (by omega)) (hp.lt (by omega)) (hp.lt hm) (u i (j - 1) h'' (by omega)) h
  ·obtain rfl:i=j - 1:=by omega
   exact h
theorem gR.more (O:kD lt n) {p:Array Nat} (hp:bY n p) {m:Nat} (h1:1<=m) (hm:m < n) (u:gR lt p m) (h:lt (pat p (m - 1)) (pat p m)=false):gR lt p (m+1):=by
 intro i j hij hj
 rcases PL j m with h' | h'
 ·exact u i j hij h'
 ·obtain rfl:j=m:=by omega
  rcases PL i (j - 1) with h'' | h''
  ·exact O.tr _ _ _ (hp.lt hm) (hp.lt (by omega)) (hp.lt (by omega)) h (u i (j - 1) h'' (by omega))
  ·obtain rfl:i=j - 1:=by omega
   exact h
theorem uv (O:kD lt n) {p:Array Nat} (hp:bY n p):∀ (f m:Nat),1<=m->m+f<=n->vS lt p m ->
  (kas_asc p f m).Run lt n (fun r=>m<=r/\r<=m+f/\vS lt p r/\(r < m+f->lt (pat p r) (pat p (r - 1))=true))
 | 0,m,h1,hm,u=>⟨NI _,NI _,u,fun h=>absurd h (N5 _)⟩
 | f+1,m,h1,hm,u=>by
  refine ⟨hp.lt (by omega),hp.lt (by omega),?_⟩
  cases hc:lt (pat p m) (pat p (m - 1)) with
  | true=>
   simp only [Ot]
   exact ⟨NI _,by omega,u,fun _=>hc⟩
  | false=>
   have hc':=hc
   simp only [NP,Ou]
   refine KasT.eF (fun r hr=>?_) _ (uv O hp f (m+1) (by omega) (by omega) (u.more O hp h1 (by omega) hc'))
   exact ⟨by omega,by omega,hr.2.2.1,fun h=>hr.2.2.2 (by omega)⟩
def Kq (lt:Nat->Nat->Bool) (p:Array Nat) (a b:Nat):Prop:=∀ i j,a<=i->i < b->a<=j->j < b->lt (pat p i) (pat p j)=false
theorem qa {p:Array Nat} (hp:bY n p) {a b m:Nat} (hb:b<=m) (hm:m<=n) (d:gR lt p m) (e:Kq lt p a b):gR lt (kas_rev p a b) m:=by
 intro i j hij hj
 rw [gQ hp (by omega),gQ hp (by omega)]
 split
 ·split
  ·exact e _ _ (by omega) (by omega) (by omega) (by omega)
  ·exact d _ _ (by omega) (by omega)
 ·split
  ·exact d _ _ (by omega) (by omega)
  ·exact d _ _ hij hj
theorem Hz {p:Array Nat} (hp:bY n p) {m:Nat} (hm:m<=n) (d:gR lt p m):vS lt (kas_rev p 0 m) m:=by
 intro i j hij hj
 rw [gQ hp hm,gQ hp hm,if_pos (by omega),if_pos (by omega)]
 exact d _ _ (by omega) (by omega)
theorem gR.zero {p:Array Nat}:gR lt p 1:=fun i j h h'=>by omega
theorem mm (O:kD lt n):∀ (f:Nat) (p:Array Nat) (m q:Nat),bY n p->q+1<=m->m+f<=n->gR lt p m->Kq lt p (m - (q+1)) m ->
  (kas_desc f p m q).Run lt n (fun r=>bY n r.1/\r.2.2+1<=r.2.1/\r.2.1<=m+f/\gR lt r.1 r.2.1/\Kq lt r.1 (r.2.1 - (r.2.2+1)) r.2.1)
 | 0,p,m,q,hp,hq,hm,d,e=>⟨hp,hq,NI _,d,e⟩
 | f+1,p,m,q,hp,hq,hm,d,e=>by
  refine ⟨hp.lt (by omega),hp.lt (by omega),?_⟩
  cases hc:lt (p.getD m 0) (p.getD (m - 1) 0) with
  | true=>
   simp only [Ot]
   have h1:lt (pat p (m - 1)) (pat p m)=false:=O.as _ _ (hp.lt (by omega)) (hp.lt (by omega)) hc
   split
   ·have hd2:=qa (n:=n) hp (NI m) (by omega) d e
    have hp2:=hp.rev (m - (q+1)) m
    refine KasT.eF (fun r hr=>⟨hr.1,hr.2.1,by have:=hr.2.2.1;omega,hr.2.2.2⟩) _ (mm O f _ (m+1) 0 hp2 (by omega) (by omega) ?_ ?_)
    ·refine hd2.more O hp2 (by omega) (by omega) ?_
     rw [gQ hp (by omega),gQ hp (by omega),if_pos (by omega),if_neg (by omega)]
     refine O.tr _ _ _ (hp.lt (by omega)) (hp.lt (by omega)) (hp.lt (by omega)) h1 ?_
     exact e _ _ (by omega) (by omega) (by omega) (by omega)
    ·intro i j h1 h2 h3 h4
     obtain rfl:i=m:=by omega
     obtain rfl:j=i:=by omega
     cases hh:lt (pat (kas_rev p (j - (q+1)) j) j) (pat (kas_rev p (j - (q+1)) j) j) with
     | false=>rfl
     | true=>exact (O.as _ _ (hp2.lt (by omega)) (hp2.lt (by omega)) hh).symm.trans hh▸rfl
   ·refine KasT.eF (fun r hr=>⟨hr.1,hr.2.1,by have:=hr.2.2.1;omega,hr.2.2.2⟩) _ (mm O f _ (m+1) 0 hp (by omega) (by omega) (d.more O hp (by omega) (by omega) h1) ?_)
    intro i j h1 h2 h3 h4
    obtain rfl:i=m:=by omega
    obtain rfl:j=i:=by omega
    cases hh:lt (pat p j) (pat p j) with
    | false=>rfl
    | true=>exact (O.as _ _ (hp.lt (by omega)) (hp.lt (by omega)) hh).symm.trans hh▸rfl
  | false=>
   simp only [NP,Ou]
   refine ⟨hp.lt (by omega),hp.lt (by omega),?_⟩
   cases hc2:lt (p.getD (m - 1) 0) (p.getD m 0) with
   | true=>
    simp only [Ot]
    exact ⟨hp,hq,by show m<=_;omega,d,e⟩
   | false=>
    simp only [NP,Ou]
    refine KasT.eF (fun r hr=>⟨hr.1,hr.2.1,by have:=hr.2.2.1;omega,hr.2.2.2⟩) _ (mm O f _ (m+1) (q+1) hp (by omega) (by omega) (d.more O hp (by omega) (by omega) hc2) ?_)
    have LN:lt (pat p m) (pat p m)=false:=by
     cases hh:lt (pat p m) (pat p m) with
     | false=>rfl
     | true=>exact (O.as _ _ (hp.lt (by omega)) (hp.lt (by omega)) hh).symm.trans hh▸rfl
    intro i j h1 h2 h3 h4
    rcases PL i m with hi | hi
    ·rcases PL j m with hj | hj
     ·exact e _ _ (by omega) hi (by omega) hj
     ·obtain rfl:j=m:=by omega
      exact O.tr _ _ _ (hp.lt (by omega)) (hp.lt (show j - 1 < n by omega)) (hp.lt (by omega)) hc2 (e _ _ (by omega) hi (by omega) (by omega))
    ·obtain rfl:i=m:=by omega
     rcases PL j i with hj | hj
     ·exact O.tr _ _ _ (hp.lt (by omega)) (hp.lt (show i - 1 < n by omega)) (hp.lt (by omega)) (e _ _ (by omega) (by omega) (by omega) hj) hc
     ·obtain rfl:j=i:=by omega
      exact LN
def BI (lt:Nat->Nat->Bool) (n:Nat) (r:Nat×Array Nat):Prop:=bY n r.2/\1<=r.1/\r.1<=n/\vS lt r.2 r.1
theorem sP (O:kD lt n) {p:Array Nat} (hp:bY n p) {m:Nat} (h1:1<=m) (hm:m<=n) (d:gR lt p m):(kas_tail3 m n p).Run lt n (BI lt n):=by
 unfold kas_tail3
 refine KasT.run_bind _ (KasT.eF (fun r hr=>?_) _ (uv O (hp.rev 0 m) (n - m) m h1 (by omega) (Hz hp hm d)))
 exact ⟨hp.rev 0 m,by show 1<=r;omega,by show r<=n;omega,hr.2.2.1⟩
theorem mn (O:kD lt n) {p:Array Nat} (hp:bY n p) {m:Nat} (h1:1<=m) (hm:m < n) (d:gR lt p (m+1)):(kas_descPart m n p).Run lt n (BI lt n):=by
 unfold kas_descPart
 refine KasT.run_bind _ (KasT.eF (fun r hr=>?_) _ (mm O (n - (m+1)) p (m+1) 0 hp (by omega) (by omega) d ?_))
 ·split
  ·exact sP O (hr.1.rev _ _) (by omega) (by omega) (qa hr.1 (NI _) (by omega) hr.2.2.2.1 hr.2.2.2.2)
  ·exact sP O hr.1 (by omega) (by omega) hr.2.2.2.1
 ·intro i j h1 h2 h3 h4
  obtain rfl:i=m:=by omega
  obtain rfl:j=i:=by omega
  cases hh:lt (pat p j) (pat p j) with
  | false=>rfl
  | true=>exact (O.as _ _ (hp.lt (by omega)) (hp.lt (by omega)) hh).symm.trans hh▸rfl
theorem AG (O:kD lt n) {p:Array Nat} (hp:bY n p) (h1:1<=n):(kas_count n p).Run lt n (BI lt n):=by
 unfold kas_count
 refine KasT.run_bind _ (KasT.eF (fun r hr=>?_) _ (uv O hp (n - 1) 1 (NI _) (by omega) fun i j h h'=>by omega))
 obtain ⟨hr1,hr2,up,st⟩:=hr
 split
 ·exact ⟨hp,hr1,by show r<=n;omega,up⟩
 ·rename_i hne
  have hlt:r < n:=by
   have:r≠n:=fun e=>hne (by simp [e])
   omega
  have hs:=st (by omega)
  split
  ·rename_i hgt
   refine ⟨hp.lt (by omega),hp.lt (by omega),?_⟩
   dsimp only
   split
   ·exact ⟨hp,hr1,by show r<=n;omega,up⟩
   ·rename_i hc
    have hc:lt (pat p 0) (pat p (r - 1))=false:=by simpa using hc
    have eqs:Kq lt p 0 r:=by
     have lo:∀ i,i < r->lt (pat p i) (pat p 0)=false:=fun i hi=>by
      rcases Nat.eq_zero_or_pos i with rfl | h
      ·cases hh:lt (pat p 0) (pat p 0) with
       | false=>rfl
       | true=>exact (O.as _ _ (hp.lt (by omega)) (hp.lt (by omega)) hh).symm.trans hh▸rfl
      ·exact up 0 i h hi
     have hi:∀ i,i < r->lt (pat p (r - 1)) (pat p i)=false:=fun i hi=>by
      rcases PL i (r - 1) with h | h
      ·exact up i (r - 1) h (by omega)
      ·obtain rfl:i=r - 1:=by omega
       exact O.LN (hp.lt (by omega))
     intro i j _ h2 _ h4
     have a1:lt (pat p 0) (pat p j)=false:=O.tr _ _ _ (hp.lt (by omega)) (hp.lt (show r - 1 < n by omega)) (hp.lt (by omega)) (hi j h4) hc
     exact O.tr _ _ _ (hp.lt (by omega)) (hp.lt (show 0 < n by omega)) (hp.lt (by omega)) a1 (lo i h2)
    have dn:gR lt (kas_rev p 0 r) r:=qa hp (NI r) (by omega) (fun i j h h'=>eqs _ _ (by omega) (by omega) (by omega) h') eqs
    refine mn O (hp.rev 0 r) (by omega) hlt (dn.more O (hp.rev 0 r) (by omega) hlt ?_)
    rw [gQ hp (by omega),gQ hp (by omega),if_pos (by omega),if_neg (by omega)]
    refine O.tr _ _ _ (hp.lt (by omega)) (hp.lt (show r - 1 < n by omega)) (hp.lt (by omega)) (O.as _ _ (hp.lt (by omega)) (hp.lt (by omega)) hs) ?_
    exact eqs _ _ (by omega) (by omega) (by omega) (by omega)
  ·obtain rfl:r=1:=by omega
   exact mn O hp (by omega) hlt ((gR.zero).more O hp (by omega) hlt (O.as _ _ (hp.lt (by omega)) (hp.lt (by omega)) hs))
theorem nF (O:kD lt n) {p:Array Nat} (hp:bY n p) {k:Nat} (hk:k < n) (u:vS lt p k):∀ (f l r:Nat),l<=r->r<=k->r - l<=f ->
  (∀ i,i < l->lt (pat p k) (pat p i)=false)->(∀ i,r<=i->i < k->lt (pat p i) (pat p k)=false) ->
  (kas_place p k f l r).Run lt n (fun m=>m<=k/\(∀ i,i < m->lt (pat p k) (pat p i)=false)/\(∀ i,m<=i->i < k->lt (pat p i) (pat p k)=false))
 | 0,l,r,h1,h2,h3,a,b=>⟨by show l<=k;omega,a,fun i hi=>b i (by omega)⟩
 | f+1,l,r,h1,h2,h3,a,b=>by
  unfold kas_place
  split
  ·exact ⟨by show l<=k;omega,a,fun i hi=>b i (by omega)⟩
  ·rename_i hlr
   refine ⟨hp.lt hk,hp.lt (by omega),?_⟩
   dsimp only
   split
   ·rename_i hc
    refine nF O hp hk u f l ((l+r) / 2) (by omega) (by omega) (by omega) a fun i hi hik=>?_
    have hm:lt (pat p ((l+r) / 2)) (pat p k)=false:=O.as _ _ (hp.lt hk) (hp.lt (by omega)) hc
    rcases PL ((l+r) / 2) i with h | h
    ·exact O.tr _ _ _ (hp.lt hk) (hp.lt (show (l+r) / 2 < n by omega)) (hp.lt (by omega)) hm (u _ _ h hik)
    ·obtain rfl:i=(l+r) / 2:=by omega
     exact hm
   ·rename_i hc
    have hc:lt (pat p k) (pat p ((l+r) / 2))=false:=by simpa using hc
    refine nF O hp hk u f ((l+r) / 2+1) r (by omega) h2 (by omega) (fun i hi=>?_) b
    rcases PL i ((l+r) / 2) with h | h
    ·exact O.tr _ _ _ (hp.lt (by omega)) (hp.lt (show (l+r) / 2 < n by omega)) (hp.lt hk) (u _ _ h (by omega)) hc
    ·obtain rfl:i=(l+r) / 2:=by omega
     exact hc
theorem zb (O:kD lt n):∀ (f:Nat) (p:Array Nat) (k:Nat),bY n p->k+f=n->vS lt p k->(kas_bin f p k).Run lt n (fun p=>bY n p/\vS lt p n)
 | 0,p,k,hp,hk,u=>⟨hp,by obtain rfl:k=n:=by omega
                         exact u⟩
 | f+1,p,k,hp,hk,u=>by
  unfold kas_bin
  refine KasT.run_bind _ (KasT.eF (fun m hm=>?_) _ (nF O hp (by omega) u k 0 k (O0 _) (NI _) (by omega) (fun i h=>by omega) (fun i h h'=>by omega)))
  obtain ⟨hmk,lo,hi⟩:=hm
  refine zb O f _ (k+1) (hp.of (bubble_perm _ _ _)) (by omega) ?_
  intro i j hij hj
  have hd:k - (k - m)=m:=by omega
  rw [za hp (by omega) (by omega),za hp (by omega) (by omega),hd]
  by_cases j1:j=m
  ·rw [if_pos j1,if_neg (show ¬ i=m by omega),if_neg (by omega)]
   exact lo i (by omega)
  ·rw [if_neg j1]
   by_cases i1:i=m
   ·rw [if_pos i1,if_pos (by omega)]
    exact hi _ (by omega) (by omega)
   ·rw [if_neg i1]
    by_cases j2:m < j/\j<=k
    ·rw [if_pos j2]
     by_cases i2:m < i/\i<=k
     ·rw [if_pos i2]
      exact u _ _ (by omega) (by omega)
     ·rw [if_neg i2]
      exact u _ _ (by omega) (by omega)
    ·rw [if_neg j2,if_neg (by omega)]
     exact u _ _ hij (by omega)
theorem BJ (O:kD lt n) (h:1<=n):(kas_sort n).Run lt n (fun p=>bY n p/\vS lt p n):=by
 unfold kas_sort
 refine KasT.run_bind _ (KasT.eF (fun r hr=>?_) _ (AG O (p:=List.toArray (List.range n)) ⟨List.Perm.refl _⟩ h))
 obtain ⟨hp,h1,h2,u⟩:=hr
 split
 ·rename_i hlt
  have:max r.1 1=r.1:=by omega
  rw [this]
  exact zb O _ _ _ hp (by omega) u
 ·refine ⟨hp,?_⟩
  have e:r.1=n:=by omega
  rw [e] at u
  exact u
end
end PySem.W
set_option maxHeartbeats 4000000
namespace PySem.W
open PySem PySem.Calls PyProof.Rows
section
variable {prog:Program} {w:World} {A:Around} {E:Value->Shared->Prop} {s:Shared}
def BK (prog:Program) (w:World) (A:Around) (vs:List Value) (lt:Nat->Nat->Bool) (s:Shared):Prop:=
 wpAny (model prog w) A (keyKind' vs.toArray) (fun κ s'=>s'=s/\∀ i j C,i < vs.length->j < vs.length->C (lt i j) s ->
  wpAny (model prog w) A (keyLt' κ (vs.getD i Value.none) (vs.getD j Value.none)) C (fun _ _=>False) s) (fun _ _=>False) s
theorem kQ {a:Addr} {vs:List Value} {lt:Nat->Nat->Bool} {n:Nat} {P:PySem.Fin->Shared->Prop} (ho:s.heap.get? a=some (seqObj "list" vs.toArray n))
  (O:kD lt vs.length) (h64:vs.length < 64)
  (hk:∀ h',(∀ b o,b≠a->s.heap.get? b=some o->h'.get? b=some o)->2<=vs.length->BK prog w A vs lt {s with heap:=h'})
  (h:∀ p:Array Nat,bY vs.length p->vS lt p vs.length->P (.done (.ret .none)) {s with heap:=sortedHeap s.heap a vs (p.toList.map fun i=>vs.getD i Value.none).toArray}) :
  wpAny (model prog w) A (Builtin.«list.sort» ⟨[.ref a],[]⟩) P E s:=by
 rw [list_sort_plain]
 have ha:a < s.heap.objs.size:=NK ho
 refine NC (listItems_at ho rfl ?_)
 refine NC (listUpdate_at ho rfl ?_)
 obtain ⟨e1,ho1⟩:∃ e1,(s.heap.update a (Obj.mapSeq fun _=>#[])).get? a=some (seqObj "list" #[] e1):=⟨_,get?_update_seq ho (fun _=>#[])⟩
 refine NC (seqEpoch_at ho1 rfl ?_)
 refine NC (wpAny_newTuple ?_)
 refine NC (wpAny_newList ?_)
 refine Ow ?_
 have ho6:(((s.heap.update a (Obj.mapSeq fun _=>#[])).push (seqObj "tuple" vs.toArray 0)).push (seqObj "list" #[] 0)).get? a=some (seqObj "list" #[] e1):=by
  rw [P6 _ _ _ (by rw [size_push',QJ];exact N0 (Pa ha)),P6 _ _ _ (by rw [QJ];exact N0 ha)]
  exact ho1
 show wpAny (model prog w) A _ P E {s with heap:=((s.heap.update a (Obj.mapSeq fun _=>#[])).push (seqObj "tuple" vs.toArray 0)).push (seqObj "list" #[] 0)}
 dsimp only
 by_cases h2:vs.toArray.size < 2
 ·rw [if_pos h2,if_pos h2]
  refine NC (ND ?_)
  rw [StateT.run_pure]
  refine NC (ND ?_)
  dsimp only
  refine NC (seqEpoch_at ho6 rfl ?_)
  refine NC (listUpdate_at ho6 rfl ?_ (hsz2:=by rw [Array.size_map];show (pairsOf vs).size<=_;rw [pairsOf_size,Pk];omega))
  simp only [RL,NP,Ou]
  have hl:vs.length < 2:=by simpa using h2
  have e:(arrOf (SortSt.mk' general' (vs.toArray.zip vs.toArray) #[] 7 none)).map (·.2)=(((List.range vs.length).toArray).toList.map fun i=>vs.getD i Value.none).toArray:=by
   show (vs.toArray.zip vs.toArray).map (·.2)=_
   match vs,hl with
   | [],_=>simp
   | [x],_=>simp [List.range_succ]
  rw [e]
  exact ND (h _ ⟨List.Perm.refl _⟩ fun i j h1 h2=>by omega)
 ·rw [if_neg h2,if_neg h2]
  have hl:2<=vs.length:=by simp at h2;exact h2
  refine NC (OU (hk _ (fun b o hb q=>?_) hl) (fun κ s' hκ=>?_) fun _ _ x=>x.elim)
  ·have hbs:b < s.heap.objs.size:=NK q
   rw [P6 _ _ _ (by rw [size_push',QJ];exact N0 (Pa hbs)),P6 _ _ _ (by rw [QJ];exact N0 hbs),Heap.get?_update_ne _ _ _ _ hb]
   exact q
  ·obtain ⟨rfl,hc⟩:=hκ
   refine NC (OU (kat_run (E:=E) (vs:=vs) (ks:=vs) (κ:=κ) (G:=fun p s'=>s'={s with heap:=((s.heap.update a (Obj.mapSeq fun _=>#[])).push (seqObj "tuple" vs.toArray 0)).push (seqObj "list" #[] 0)}/\bY vs.length p/\vS lt p vs.length)
    (Q:=fun st' s'=>s'={s with heap:=((s.heap.update a (Obj.mapSeq fun _=>#[])).push (seqObj "tuple" vs.toArray 0)).push (seqObj "list" #[] 0)}/\failedOf st'=none/\∃ p,bY vs.length p/\vS lt p vs.length/\(arrOf st').map (·.2)=List.toArray (p.toList.map fun i=>vs.getD i Value.none))
    rfl hl h64 (fun p st' s' a1 a2 a3 a4=>⟨a4.1,a3,p,a4.2.1,a4.2.2,kat_snds rfl a2⟩) ?_) ?_ fun _ _ e=>e)
   ·refine KasT.BH (lt:=lt) (n:=vs.length) (P:=fun p=>bY vs.length p/\vS lt p vs.length) (I:=fun s'=>s'={s with heap:=((s.heap.update a (Obj.mapSeq fun _=>#[])).push (seqObj "tuple" vs.toArray 0)).push (seqObj "list" #[] 0)}) ?_ ?_ _ _ (BJ O (by omega)) rfl
    ·rintro i j C s' hi hj rfl q
     exact hc i j C hi hj (q _ rfl)
    ·rintro p s' hp rfl
     exact ⟨rfl,hp⟩
   ·rintro ⟨⟨⟩,st'⟩ s' ⟨rfl,hf,p,hp,hu,e⟩
    dsimp only at hf e ⊢
    rw [e]
    refine NC (seqEpoch_at ho6 rfl ?_)
    refine NC (listUpdate_at ho6 rfl ?_ (hsz2:=by rw [NQ,NZ,OF,hp.size,Pk];omega))
    rw [hf]
    simp only [RL,NP,Ou]
    exact ND (h p hp hu)
theorem qb {l:Addr} {vs:List Value} {lt:Nat->Nat->Bool} {Q:Value->Shared->Prop} (hl:s.heap.IsList l vs.toArray) (O:kD lt vs.length) (h64:vs.length < 64)
  (hk:∀ h',(∀ b o,s.heap.get? b=some o->h'.get? b=some o)->2<=vs.length->BK prog w A.in1.in1 vs lt {s with heap:=h'})
  (h:∀ p:Array Nat,bY vs.length p->vS lt p vs.length->Q (.ref (s.heap.objs.size+1)) {s with heap:=sortedAll s.heap vs (p.toList.map fun i=>vs.getD i Value.none).toArray}) :
  wpAny (model prog w) A (call (.builtin "sorted") [.ref l]) Q E s:=by
 refine Calls.call_function_entry kind_sorted plain_sorted entry_sorted (args_sorted1 _) ?_
 unfold Builtin.«sorted»
 refine NC (m:=checkCount "sorted" 1 1 _) (ND ?_)
 refine NC (collect_list hl ?_)
 refine NC (wpAny_newList ?_)
 have hsz:((s.heap.push (seqObj "list" #[] 0)).update s.heap.objs.size (Obj.mapSeq (·++vs.toArray))).objs.size=s.heap.objs.size+1:=by
  rw [QJ,size_push']
 have hoL:(((s.heap.push (seqObj "list" #[] 0)).update s.heap.objs.size (Obj.mapSeq (·++vs.toArray))).push (seqObj "list" vs.toArray 0)).get? (s.heap.objs.size+1)=some (seqObj "list" vs.toArray 0):=by
  rw [<- hsz];exact NL _ rfl
 show wpAny _ _ _ _ _ {s with heap:=((s.heap.push (seqObj "list" #[] 0)).update s.heap.objs.size (Obj.mapSeq (·++vs.toArray))).push (seqObj "list" vs.toArray 0)}
 rw [hsz]
 refine NC (Ow (Of slot_list_sort ⟨_,hoL,rfl⟩ entry_list_sort (kQ hoL O h64 (fun h' k h2=>hk h' (fun b o q=>?_) h2) fun p a1 a2=>⟨_,rfl,?_⟩) (args_list_sort _)))
 ·have hlt:b < s.heap.objs.size:=NK q
  refine k b o (N0 (Pa hlt)) ?_
  show (((s.heap.push (seqObj "list" #[] 0)).update s.heap.objs.size (Obj.mapSeq (·++vs.toArray))).push (seqObj "list" vs.toArray 0)).get? b=some o
  rw [P6 _ _ _ (by rw [hsz];exact N0 (Pa hlt)),Heap.get?_update_ne _ _ _ _ (N0 hlt),P6 _ _ _ (N0 hlt)]
  exact q
 ·exact ND ⟨_,rfl,h p a1 a2⟩
end
end PySem.W
namespace L2
open PySem PySem.Spec PyProof.Rows
open PySem.W (kD bY vS BK qb KatLex kat_lt kat_one kas_mapM kas_first_eq Looks pat)
def ly (x y:Str):Bool:=decide (x.cps.toList < y.cps.toList)
theorem uw (x:Str):ly x x=false:=strKind.irrefl _
theorem xZ {x y z:Str} (h:ly x y=true) (h':ly y z=true):ly x z=true:=strKind.trans _ _ _ h h'
theorem BL {x y:Str} (h:ly x y=true):ly y x=false:=by
 cases e:ly y x with
 | false=>rfl
 | true=>have:=xZ h e;rw [uw] at this;exact this.symm
theorem zc {x y:Str} (h:ly x y=false) (h':ly y x=false):x=y:=by
 have e:=strKind.total x.cps.toList y.cps.toList h h'
 cases x;cases y
 simpa using e
section
variable {P:Program} {w:World} {A:Around} {E:Value->Shared->Prop} {s:Shared}
theorem vT {M:Model} {vs:List Value} {T:Value} {Q:Option Value->Shared->Prop} (h2:1<=vs.length) (hT:∀ v∈vs,Looks M s.heap (typeOf v) T) (hT2:(T == T)=true) (h:Q (some T) s) :
  wpAny M A (oneTypeOnly' vs.toArray) Q E s:=by
 obtain ⟨v,rest,rfl⟩:∃ v rest,vs=v::rest:=by
  match vs,h2 with
  | v::r,_=>exact ⟨v,r,rfl⟩
 rw [oneTypeOnly'_eq,List.mapM_toArray,map_eq_pure_bind]
 refine NC (NC (kas_mapM (r:=T) _ (fun v hv Q' hq=>(hT v hv).here hq) (ND ?_)))
 have hall:((List.map (fun _=>T) (v::rest)).toArray.all fun x=>x == T)=true:=by
  simp only [List.all_toArray,List.all_map,NT]
  intro _ _
  exact hT2
 have h0:(List.map (fun _=>T) (v::rest)).toArray[0]?=some T:=by simp
 rw [h0]
 simp only [hall,Ot]
 exact ND h
end
section
variable {X:Cx} {k:Nat}
theorem iR {α:Type} (d:α):∀ (xs:List α),(List.range xs.length).map (fun i=>xs.getD i d)=xs
 | []=>rfl
 | x::xs=>by
  rw [N3,List.range_succ_eq_map,Ob,Rh]
  have:=iR d xs
  simp only [List.getD_cons_zero,P7,true_and]
  conv=>rhs;rw [<- this]
  exact List.map_congr_left fun i _=>by simp
theorem AH {vs:List V} {us:List Value} (r:Vals vs us) (i:Nat) (hi:i < vs.length):RelV (vs.getD i .non) (us.getD i .none):=by
 obtain ⟨u,h1,h2⟩:=r.get (i:=i) (x:=vs[i]) (by simp [hi])
 have e1:vs.getD i .non=vs[i]:=by simp [hi]
 have e2:us.getD i .none=u:=by simp [List.getD,h1]
 rw [e1,e2]
 exact h2
theorem sQ {vs:List V} {us:List Value} (r:Vals vs us):∀ (l:List Nat),(∀ i∈l,i < vs.length)->Vals (l.map fun i=>vs.getD i .non) (l.map fun i=>us.getD i .none)
 | [],_=>.nil
 | i::l,h=>.cons (AH r i (h i (.head _))) (sQ r l fun j hj=>h j (.tail _ hj))
theorem sR {ds:List PyData} {vs:List V} (r:bf H ds vs) (dd:PyData):∀ (l:List Nat),(∀ i∈l,i < vs.length)->bf H (l.map fun i=>ds.getD i dd) (l.map fun i=>vs.getD i .non)
 | [],_=>bf.nil
 | i::l,h=>by
  refine bf.cons ?_ (sR r dd l fun j hj=>h j (.tail _ hj))
  have hi:=h i (.head _)
  obtain ⟨d,h1,h2⟩:=r.get (i:=i) (v:=vs[i]) (by simp [hi])
  have e1:vs.getD i .non=vs[i]:=by simp [hi]
  have e2:ds.getD i dd=d:=by simp [List.getD,h1]
  show Rep H (ds.getD i dd) (vs.getD i .non)
  rw [e1,e2]
  exact h2
end
end L2
namespace Ml
open PySem
structure Xc where
 cls:Str
 args:List PyData
inductive D where
 | dat (d:PyData)
 | ref (i:Nat)
 | kE (t:Bool) (kvs:List (PyData×PyData))
 | set (xs:List PyData)
 | fn (n:Str)
 | exc (x:Xc)
 | scr (ns:List Int)
 | ktup (xs:List PyData)
 | rpr (x:Str)
inductive MO where
 | lst (xs:List D)
 | kE (t:Bool) (kvs:List (PyData×PyData))
 | ins (C:Str) (fs:List (Str×D))
 | tab (P:Addr) (q:Str)
abbrev Hm:=List MO
abbrev Fm:=List (Option D)
inductive R (α:Type) where
 | ok (a:α) (h:Hm)
 | exc (x:Xc) (h:Hm)
 | bad
def R.bind {α β:Type}:R α->(α->Hm->R β)->R β
 | .ok a h,f=>f a h
 | .exc x h,_=>.exc x h
 | .bad,_=>.bad
def R.rV {α:Type}:R α->R α
 | .exc _ _=>.bad
 | r=>r
@[simp] theorem R.bq {α:Type} {a:α} {h:Hm}:(R.ok a h).rV=.ok a h:=rfl
@[simp] theorem R.Kr {α:Type}:(R.bad:R α).rV=.bad:=rfl
@[simp] theorem R.Ks {α:Type} {x:Xc} {h:Hm}:(R.exc x h:R α).rV=.bad:=rfl
@[simp] theorem R.ao {α β:Type} {a:α} {h:Hm} {f:α->Hm->R β}:(R.ok a h).bind f=f a h:=rfl
@[simp] theorem R.BM {α β:Type} {x:Xc} {h:Hm} {f:α->Hm->R β}:(R.exc x h).bind f=.exc x h:=rfl
@[simp] theorem R.JI {α β:Type} {f:α->Hm->R β}:R.bad.bind f=.bad:=rfl
theorem R.bind_assoc {α β γ:Type} (r:R α) (f:α->Hm->R β) (g:β->Hm->R γ):(r.bind f).bind g=r.bind fun a h=>(f a h).bind g:=by cases r<;>rfl
abbrev ME:=Fm->Hm->R D
abbrev MT:=Fm->Hm->R Bool
abbrev MA:=Fm->Hm->R (List D)
inductive Fl where
 | nx (ρ:Fm)
 | rt (d:D)
 | bk (ρ:Fm)
 | ct (ρ:Fm)
abbrev MS:=Fm->Hm->R Fl
abbrev Fn:=List D->Hm->R D
abbrev D.none:D:=.dat .none
abbrev D.bool (b:Bool):D:=.dat (.bool b)
abbrev D.int (i:Int):D:=.dat (.int i)
abbrev D.str (s:Str):D:=.dat (.str s)
def ab (i:Nat):ME:=fun ρ h=>match ρ[i]? with
 | some (some d)=>.ok d h
 | _=>.bad
def ah (d:PyData):ME:=fun _ h=>.ok (.dat d) h
def Nk (n:Str):ME:=fun _ h=>.ok (.fn n) h
def ak:MA:=fun _ h=>.ok [] h
def aa (e:ME) (a:MA):MA:=fun ρ h=>(e ρ h).bind fun x h1=>(a ρ h1).bind fun xs h2=>.ok (x::xs) h2
def au (f:D->D->Hm->R D) (a b:ME):ME:=fun ρ h=>(a ρ h).bind fun x h1=>(b ρ h1).bind fun y h2=>f x y h2
def F9 (f:D->Hm->R D) (a:ME):ME:=fun ρ h=>(a ρ h).bind fun x h1=>f x h1
def ai (f:Fn) (a:MA):ME:=fun ρ h=>(a ρ h).bind fun xs h1=>f xs h1
def aN (e:ME):MT:=fun ρ h=>(e ρ h).bind fun x h1=>match x with
 | .dat (.bool b)=>.ok b h1
 | _=>.bad
def fT (t:MT):MT:=fun ρ h=>(t ρ h).bind fun b h1=>.ok (!b) h1
def vF (t u:MT):MT:=fun ρ h=>(t ρ h).bind fun b h1=>if b then u ρ h1 else .ok false h1
def lY (t u:MT):MT:=fun ρ h=>(t ρ h).bind fun b h1=>if b then .ok true h1 else u ρ h1
def LO (a b:ME):ME:=fun ρ h=>(aN a ρ h).bind fun c h1=>if c then b ρ h1 else .ok (.bool false) h1
def Nl (a b:ME):ME:=fun ρ h=>(aN a ρ h).bind fun c h1=>if c then .ok (.bool true) h1 else b ρ h1
def LP (a:ME):ME:=fun ρ h=>(aN a ρ h).bind fun c h1=>.ok (.bool !c) h1
def Nn (t:MT) (a b:ME):ME:=fun ρ h=>(t ρ h).bind fun c h1=>if c then a ρ h1 else b ρ h1
def D.data:D->Option PyData
 | .dat d=>some d
 | _=>Option.none
def gz:List D->Option (List PyData)
 | []=>some []
 | x::xs=>match x.data,gz xs with
  | some d,some ds=>some (d::ds)
  | _,_=>Option.none
theorem nG (ds:List PyData):gz (ds.map D.dat)=some ds:=by
 induction ds with
 | nil=>rfl
 | cons d ds ih=>simp [gz,D.data,ih]
def kF (n:Nat):Bool:=decide (n<=16777216)
def jE (xs:List D) (h:Hm):R D:=match gz xs with
 | some ds=>if kF ds.length then .ok (.dat (.tuple ds)) h else .bad
 | Option.none=>.bad
def fP (xs:List D) (h:Hm):R D:=match gz xs with
 | some ds=>if kF ds.length then .ok (.dat (.list ds)) h else .bad
 | Option.none=>.bad
def BN (xs:List D) (h:Hm):R D:=if kF xs.length then .ok (.ref h.length) (h++[.lst xs]) else .bad
def cC (a:MA):ME:=ai jE a
def vU (a:MA):ME:=ai fP a
def vV (a:MA):ME:=ai BN a
def cB:MS:=fun ρ h=>.ok (.nx ρ) h
def bC (a b:MS):MS:=fun ρ h=>(a ρ h).bind fun f h1=>match f with
 | .nx ρ1=>b ρ1 h1
 | f=>.ok f h1
def cn (i:Nat) (e:ME):MS:=fun ρ h=>(e ρ h).bind fun x h1=>.ok (.nx (ρ.set i (some x))) h1
def jF (e:ME):MS:=fun ρ h=>(e ρ h).bind fun _ h1=>.ok (.nx ρ) h1
def bX (e:ME):MS:=fun ρ h=>(e ρ h).bind fun x h1=>.ok (.rt x) h1
def jy (t:MT) (a b:MS):MS:=fun ρ h=>(t ρ h).bind fun c h1=>if c then a ρ h1 else b ρ h1
def HA:MS:=fun ρ h=>.ok (.bk ρ) h
def JJ:MS:=fun ρ h=>.ok (.ct ρ) h
abbrev MG:=D->Fm->Hm->R Fm
def ay (i:Nat):MG:=fun x ρ h=>.ok (ρ.set i (some x)) h
abbrev zd:=List D->Fm->Hm->R Fm
def jA:zd:=fun xs ρ h=>match xs with
 | []=>.ok ρ h
 | _=>.bad
def cA (g:MG) (gs:zd):zd:=fun xs ρ h=>match xs with
 | []=>.bad
 | x::xs=>(g x ρ h).bind fun ρ1 h1=>gs xs ρ1 h1
def jB (gs:zd):MG:=fun x ρ h=>match x with
 | .dat (.tuple ds)=>gs (ds.map D.dat) ρ h
 | _=>.bad
def kG (g:MG) (e:ME):MS:=fun ρ h=>(e ρ h).bind fun x h1=>(g x ρ h1).bind fun ρ1 h2=>.ok (.nx ρ1) h2
def jG:List Nat->List D->Fm->Option Fm
 | [],[],ρ=>some ρ
 | i::is,x::xs,ρ=>jG is xs (ρ.set i (some x))
 | _,_,_=>Option.none
def LQ (is:List Nat) (a:MA):MS:=fun ρ h=>(a ρ h).bind fun xs h1=>match jG is xs ρ with
 | some ρ1=>.ok (.nx ρ1) h1
 | Option.none=>.bad
def ze (e:ME):MA:=fun ρ h=>(e ρ h).bind fun x h1=>match x with
 | .dat (.tuple ds)=>.ok (ds.map D.dat) h1
 | _=>.bad
def BO (e:ME):MA:=fun ρ h=>(e ρ h).bind fun x h1=>match x with
 | .dat (.list ds)=>.ok (ds.map D.dat) h1
 | _=>.bad
def signs (x:Str):List D:=(List.range x.cps.size).map fun (i:Nat)=>D.str ⟨#[x.cps.getD i 0]⟩
def BP (e:ME):MA:=fun ρ h=>(e ρ h).bind fun x h1=>match x with
 | .dat (.str s)=>.ok (signs s) h1
 | _=>.bad
def nums (lo:Int) (n:Nat):List D:=(List.range n).map fun (i:Nat)=>D.int (lo+(i:Int))
def oq (a:MA):MA:=fun ρ h=>(a ρ h).bind fun xs h1=>match xs with
 | [.dat (.int j)]=>if -(2 ^ 62)<=j/\j < 2 ^ 62 then .ok (nums 0 j.toNat) h1 else .bad
 | _=>.bad
def HB (a:MA):MA:=fun ρ h=>(a ρ h).bind fun xs h1=>match xs with
 | [.dat (.int i),.dat (.int j)]=>if -(2 ^ 62)<=i/\i < 2 ^ 62/\-(2 ^ 62)<=j/\j < 2 ^ 62 then .ok (nums i (j - i).toNat) h1 else .bad
 | _=>.bad
def kH:List PyData->List PyData->List D
 | x::xs,y::ys=>.dat (.tuple [x,y])::kH xs ys
 | _,_=>[]
def zf (a:MA):MA:=fun ρ h=>(a ρ h).bind fun xs h1=>match xs with
 | [.dat (.tuple ds),.dat (.tuple es)]=>.ok (kH ds es) h1
 | _=>.bad
def dA (g:MG) (b:MS):List D->Fm->Hm->R Fl
 | [],ρ,h=>.ok (.nx ρ) h
 | x::xs,ρ,h=>(g x ρ h).rV.bind fun ρ1 h1=>(b ρ1 h1).rV.bind fun f h2=>match f with
  | .nx ρ2=>dA g b xs ρ2 h2
  | .ct ρ2=>dA g b xs ρ2 h2
  | .bk ρ2=>.ok (.nx ρ2) h2
  | .rt d=>.ok (.rt d) h2
def jH (it:MA) (g:MG) (b:MS):MS:=fun ρ h=>(it ρ h).rV.bind fun xs h1=>dA g b xs ρ h1
def dw (n:Nat) (ρ:Fm) (g:MG) (t:MT) (e:ME):List D->Hm->R (List D)
 | [],h=>.ok [] h
 | x::xs,h=>(g x (List.replicate n none++ρ) h).rV.bind fun ρ1 h1=>(t ρ1 h1).rV.bind fun c h2=>
  if c then (e ρ1 h2).rV.bind fun y h3=>(dw n ρ g t e xs h3).bind fun ys h4=>.ok (y::ys) h4
  else dw n ρ g t e xs h2
def dG:MT:=fun _ h=>.ok true h
def jI (n:Nat) (it:MA) (g:MG) (t:MT) (e:ME):MA:=fun ρ h=>(it ρ h).bind fun xs h1=>if kF xs.length then dw n ρ g t e xs h1 else .bad
def cL (n:Nat) (it:MA) (g:MG) (t:MT) (e:ME):ME:=ai fP (jI n it g t e)
def qc:Fl->Hm->R D
 | .rt d,h=>.ok d h
 | .nx _,h=>.ok D.none h
 | _,_=>.bad
def bI (p n:Nat) (b:MS):Fn:=fun xs h=>if xs.length=p then (b (xs.map some++List.replicate (n - p) none) h).bind qc else .bad
def D.below (n:Nat):D->Bool
 | .ref i=>decide (i < n)
 | _=>true
def MO.below (n:Nat):MO->Bool
 | .lst xs=>xs.all (D.below n)
 | .kE _ _=>true
 | .ins _ fs=>fs.all fun p=>p.2.below n
 | .tab _ _=>true
def iC (f:Fn):Fn:=fun xs h=>match f xs h with
 | .ok d h'=>if d.below h.length && (h'.take h.length).all (MO.below h.length) && decide (h.length<=h'.length) then .ok d (h'.take h.length) else .bad
 | .exc x h'=>if (h'.take h.length).all (MO.below h.length) && decide (h.length<=h'.length) then .exc x (h'.take h.length) else .bad
 | .bad=>.bad
def jD (f:D->Option PyData):List D->Option (List PyData)
 | []=>some []
 | x::xs=>match f x,jD f xs with
  | some d,some ds=>some (d::ds)
  | _,_=>Option.none
def x5 (h:Hm):Nat->D->Option PyData
 | _,.dat d=>some d
 | _,.ktup xs=>some (.tuple xs)
 | n+1,.ref i=>match h[i]? with
  | some (.lst xs)=>(jD (x5 h n) xs).map .list
  | _=>Option.none
 | _,_=>Option.none
abbrev vB (h:Hm) (x:D):Option PyData:=x5 h 3 x
@[simp] theorem mq (h:Hm) (n:Nat) (d:PyData):x5 h n (.dat d)=some d:=by cases n<;>rfl
def listOf (x:D) (h:Hm):Option (List PyData):=match x with
 | .dat (.list ds)=>some ds
 | .ref i=>match h[i]? with
  | some (.lst ys)=>gz ys
  | _=>Option.none
 | _=>Option.none
def gA (x y:D) (h:Hm):R D:=match x,y with
 | .dat (.int i),.dat (.int j)=>.ok (.int (i+j)) h
 | .dat (.str s),.dat (.str t)=>if kF (s.length+t.length) then .ok (.str (s++t)) h else .bad
 | .dat (.tuple xs),.dat (.tuple ys)=>if kF (xs.length+ys.length) then .ok (.dat (.tuple (xs++ys))) h else .bad
 | .dat (.list xs),.dat (.list ys)=>if kF (xs.length+ys.length) then .ok (.dat (.list (xs++ys))) h else .bad
 | _,_=>.bad
def BQ (x y:D) (h:Hm):R D:=match x,y with
 | .dat (.int i),.dat (.int j)=>.ok (.int (i - j)) h
 | _,_=>.bad
def zg (i j:Int):Bool:=(decide (-(2 ^ 64) < i) && decide (i < 2 ^ 64)) || (decide (-(2 ^ 64) < j) && decide (j < 2 ^ 64))
def qd (x y:D) (h:Hm):R D:=match x,y with
 | .dat (.int i),.dat (.int j)=>if zg i j then .ok (.int (i * j)) h else .bad
 | .dat (.list xs),.dat (.int k)=>if kF (xs.length * k.toNat) && decide (-(2 ^ 63)<=k) && decide (k < 2 ^ 63) then .ok (.dat (.list (List.replicate k.toNat xs).flatten)) h else .bad
 | _,_=>.bad
def oMod (x y:D) (h:Hm):R D:=match x,y with
 | .dat (.int i),.dat (.int j)=>if 0 < j then .ok (.int (i % j)) h else .bad
 | _,_=>.bad
def mr (x y:D) (h:Hm):R D:=match x,y with
 | .dat (.int i),.dat (.int j)=>if 0 < j/\j < 1073741824 then .ok (.int (i / j)) h else .bad
 | _,_=>.bad
def LR (x:D) (h:Hm):R D:=match x with
 | .dat (.int i)=>.ok (.int (-i)) h
 | _=>.bad
def noDict (d:PyData):Bool:=!d.hasDict
def eqQ (d e:PyData):Option Bool:=if noDict d && noDict e && decide (min d.depth e.depth<=40) then some (PyData.eqv d e) else Option.none
def AI (d e:PyData):Option Bool:=match d,e with
 | .str _,.dict _=>some false
 | .tuple ds,.dict _=>if noDict (.tuple ds) then some false else Option.none
 | d,e=>eqQ d e
def oEq (x y:D) (h:Hm):R D:=match x,y with
 | .rpr s,.rpr t=>.ok (.bool (decide (s=t))) h
 | x,y=>match vB h x,vB h y with
  | some d,some e=>match eqQ d e with
   | some b=>.ok (.bool b) h
   | Option.none=>.bad
  | _,_=>.bad
def x6 (x y:D) (h:Hm):R D:=match x,y with
 | .rpr s,.rpr t=>.ok (.bool (!decide (s=t))) h
 | x,y=>match vB h x,vB h y with
  | some d,some e=>match eqQ d e with
   | some b=>.ok (.bool !b) h
   | Option.none=>.bad
  | _,_=>.bad
def ly (x y:Str):Bool:=decide (x.cps.toList < y.cps.toList)
mutual
def bJ:PyData->PyData->Option Bool
 | .int i,.int j=>some (decide (i < j))
 | .str x,.str y=>some (ly x y)
 | .tuple xs,.tuple ys=>cF xs ys
 | _,_=>Option.none
def cF:List PyData->List PyData->Option Bool
 | [],[]=>some false
 | [],_::_=>some true
 | _::_,[]=>some false
 | x::xs,y::ys=>if PyData.eqv x y then cF xs ys else bJ x y
end
def oLt (x y:D) (h:Hm):R D:=match x,y with
 | .dat d,.dat e=>if noDict d && noDict e && decide (min d.depth e.depth<=40) then match bJ d e with
  | some b=>.ok (.bool b) h
  | Option.none=>.bad
  else .bad
 | _,_=>.bad
def oLe (x y:D) (h:Hm):R D:=match x,y with
 | .dat (.int i),.dat (.int j)=>.ok (.bool (decide (i<=j))) h
 | .dat (.str s),.dat (.str t)=>.ok (.bool (!ly t s)) h
 | _,_=>.bad
def Kt (x y:D) (h:Hm):R D:=match x,y with
 | .dat (.int i),.dat (.int j)=>.ok (.bool (decide (j < i))) h
 | _,_=>.bad
def JK (x y:D) (h:Hm):R D:=match x,y with
 | .dat (.int i),.dat (.int j)=>.ok (.bool (decide (j<=i))) h
 | _,_=>.bad
def Be (x:PyData):List PyData->Option Bool
 | []=>some false
 | y::ys=>match AI y x,Be x ys with
  | some a,some b=>some (a || b)
  | _,_=>Option.none
def fx:PyData->Bool
 | .tuple _=>true
 | _=>false
def iS:PyData->Bool
 | .str _=>true
 | _=>false
def mw (k:PyData) (kvs:List (PyData×PyData)):Bool:=kvs.any fun p=>PyData.eqv p.1 k
def gS (y:D) (h:Hm):Option (Bool×List (PyData×PyData)):=match y with
 | .kE t kvs=>some (t,kvs)
 | .ref i=>match h[i]? with
  | some (.kE t kvs)=>some (t,kvs)
  | _=>Option.none
 | _=>Option.none
mutual
def av:PyData->Bool
 | .str _=>true
 | .tuple ds=>aX ds
 | _=>false
def aX:List PyData->Bool
 | []=>true
 | d::ds=>av d && aX ds
end
def keyOk (t:Bool) (k:PyData):Bool:=if t then fx k && av k && decide (k.depth<=8) else iS k
def ux (x:D) (kvs:List (PyData×PyData)) (t:Bool):Option Bool:=match x with
 | .dat d=>if keyOk t d then some (mw d kvs) else Option.none
 | _=>Option.none
def mz (x y:D) (h:Hm):Option Bool:=match y with
 | .dat (.str s)=>match x with
  | .dat (.str t)=>some (!(Builtin.Str.occurrences s t 0 s.length 1).isEmpty)
  | _=>Option.none
 | y=>match vB h x,vB h y with
  | some d,some (.tuple ds)=>Be d ds
  | some d,some (.list ds)=>Be d ds
  | _,_=>Option.none
def findIn (x y:D) (h:Hm):Option Bool:=match gS y h with
 | some p=>ux x p.2 p.1
 | Option.none=>mz x y h
def nu (x y:D) (h:Hm):R D:=match findIn x y h with
 | some b=>.ok (.bool b) h
 | Option.none=>.bad
def iD (x y:D) (h:Hm):R D:=match findIn x y h with
 | some b=>.ok (.bool !b) h
 | Option.none=>.bad
def kR:PyData->Bool
 | .none | .bool _ | .int _ | .str _=>true
 | _=>false
def dput (kvs:List (PyData×PyData)) (k v:PyData):List (PyData×PyData):=
 if mw k kvs then kvs.map (fun p=>if PyData.eqv p.1 k then (p.1,v) else p) else kvs++[(k,v)]
def AJ (kvs:List (PyData×PyData)) (k:PyData):Option PyData:=(kvs.find? fun p=>PyData.eqv p.1 k).map (·.2)
def rM (n:Nat) (i:Int):Option Nat:=if 0<=i then (if i < n then some i.toNat else Option.none) else if -(n:Int)<=i then some (i+n).toNat else Option.none
def kC {α:Type} (xs:List α) (i:Int):Option α:=(rM xs.length i).bind fun j=>xs[j]?
def uy (x y:D) (h:Hm):R D:=match y with
 | .dat (.int i)=>match x with
  | .dat (.tuple ds)=>match kC ds i with | some d=>.ok (.dat d) h | Option.none=>.bad
  | .dat (.list ds)=>match kC ds i with | some d=>.ok (.dat d) h | Option.none=>.bad
  | .ref j=>match h[j]? with
   | some (.lst xs)=>match kC xs i with | some d=>.ok d h | Option.none=>.bad
   | _=>.bad
  | .scr ns=>match kC ns i with | some n=>.ok (.int n) h | Option.none=>.bad
  | _=>.bad
 | _=>.bad
def dY (x y:D) (h:Hm):R D:=match gS x h with
 | some p=>match y with
  | .dat (.str k)=>if p.1 then .bad else match AJ p.2 (.str k) with
   | some v=>.ok (.dat v) h
   | Option.none=>.bad
  | _=>.bad
 | Option.none=>uy x y h
def eB (n d:Nat):Option Int->Nat
 | Option.none=>d
 | some v=>if v < 0 then (v+(n:Int)).toNat else min v.toNat n
def cut {α:Type} (ds:List α) (lo hi:Option Int):List α:=(ds.drop (eB ds.length 0 lo)).take (eB ds.length ds.length hi - eB ds.length 0 lo)
abbrev DL:=Fm->Hm->R (Option Int)
def zh:DL:=fun _ h=>.ok Option.none h
def kS (e:ME):DL:=fun ρ h=>(e ρ h).bind fun x h1=>match x with
 | .dat (.int i)=>.ok (some i) h1
 | _=>.bad
def JL (x:D) (lo hi:Option Int) (h:Hm):R D:=match x with
 | .dat (.tuple ds)=>.ok (.dat (.tuple (cut ds lo hi))) h
 | .dat (.list ds)=>.ok (.dat (.list (cut ds lo hi))) h
 | _=>.bad
def Ku (e:ME) (lo hi:DL):ME:=fun ρ h=>(e ρ h).bind fun x h1=>(lo ρ h1).bind fun l h2=>(hi ρ h2).bind fun u h3=>JL x l u h3
def jJ:Fn:=fun xs h=>match xs with
 | [.dat (.str s)]=>if kF s.length then .ok (.int s.length) h else .bad
 | [.dat (.tuple ds)]=>.ok (.int ds.length) h
 | [.dat (.list ds)]=>.ok (.int ds.length) h
 | [.ref i]=>match h[i]? with
  | some (.lst ys)=>.ok (.int ys.length) h
  | _=>.bad
 | [.scr ns]=>.ok (.int ns.length) h
 | _=>.bad
def bools:List PyData->Option (List Bool)
 | []=>some []
 | .bool b::ds=>(bools ds).map (b::·)
 | _=>Option.none
theorem AK (bs:List Bool):bools (bs.map .bool)=some bs:=by
 induction bs with
 | nil=>rfl
 | cons b bs ih=>simp [bools,ih]
def uz:Fn:=fun xs h=>match xs with
 | [.dat (.list ds)]=>match bools ds with
  | some bs=>.ok (.bool (bs.all id)) h
  | Option.none=>.bad
 | _=>.bad
def isTup:PyData->Bool | .tuple _=>true | _=>false
def isStr:PyData->Bool | .str _=>true | _=>false
def isInt:PyData->Bool | .int _ | .bool _=>true | _=>false
def qe:PyData->Bool | .bool _=>true | _=>false
def vW (f:PyData->Bool):D->Hm->R D:=fun x h=>match x with
 | .dat d=>.ok (.bool (f d)) h
 | _=>.bad
def gB (x:Str):List PyData:=(List.range x.cps.size).map fun (i:Nat)=>.str ⟨#[x.cps.getD i 0]⟩
def gC:Fn:=fun xs h=>match xs with
 | [.dat (.tuple ds)]=>.ok (.dat (.tuple ds)) h
 | [.dat (.str s)]=>if kF s.cps.size then .ok (.dat (.tuple (gB s))) h else .bad
 | [x]=>match listOf x h with
  | some ds=>.ok (.dat (.tuple ds)) h
  | Option.none=>.bad
 | _=>.bad
def x8:Fn:=fun xs h=>match xs with
 | [.dat (.tuple ds)]=>.ok (.dat (.list ds)) h
 | [x]=>match listOf x h with
  | some ds=>.ok (.dat (.list ds)) h
  | Option.none=>.bad
 | _=>.bad
def zi:Fn:=fun xs h=>match xs with
 | [x]=>match gS x h with
  | some p=>.ok (.dat (.list (p.2.map (·.1)))) h
  | Option.none=>x8 [x] h
 | _=>.bad
def x9 (lt:PyData->PyData->Bool) (x:PyData):List PyData->List PyData
 | []=>[x]
 | y::ys=>if lt y x then y::x9 lt x ys else x::y::ys
def cS (lt:PyData->PyData->Bool):List PyData->List PyData
 | []=>[]
 | x::xs=>x9 lt x (cS lt xs)
def ltB (d e:PyData):Bool:=(bJ d e).getD false
def mB:Fn:=fun xs h=>match xs with
 | [.dat (.int i),.dat (.int j)]=>if 0 < j/\j < 1073741824 then .ok (.dat (.tuple [.int (i / j),.int (i % j)])) h else .bad
 | _=>.bad
def AL:Fn:=fun xs h=>match xs with
 | [.dat (.int i),.dat (.int j)]=>.ok (.int (if j > i then j else i)) h
 | _=>.bad
def BR:Fn:=fun xs h=>match xs with
 | [.dat (.int i)]=>.ok (.int i) h
 | [.dat (.bool b)]=>.ok (.int (if b then 1 else 0)) h
 | _=>.bad
def kc (x y:D) (h:Hm):R D:=match x with
 | .ref i=>match h[i]? with
  | some (.lst xs)=>if decide (xs.length < 16777216) then .ok D.none (h.set i (.lst (xs++[y]))) else .bad
  | _=>.bad
 | _=>.bad
def nH (x y:D) (h:Hm):R D:=match x,y with
 | .ref i,.dat (.int k)=>match h[i]? with
  | some (.lst xs)=>if 0<=k/\k < xs.length/\k < 1000000 then match xs[k.toNat]? with
    | some d=>.ok d (h.set i (.lst (xs.eraseIdx k.toNat)))
    | Option.none=>.bad
   else .bad
  | _=>.bad
 | _,_=>.bad
def zj (x y v:D) (h:Hm):R Unit:=match x,y with
 | .ref i,.dat (.int k)=>match h[i]? with
  | some (.lst xs)=>match rM xs.length k with
   | some j=>.ok () (h.set i (.lst (xs.set j v)))
   | Option.none=>.bad
  | _=>.bad
 | _,_=>.bad
def Ga (i:Nat) (t:Bool) (kvs:List (PyData×PyData)) (y v:D) (h:Hm):R Unit:=match y,v with
 | .dat k,.dat d=>if keyOk t k && (t || kR d) && decide (kvs.length < 16777216) then .ok () (h.set i (.kE t (dput kvs k d))) else .bad
 | _,_=>.bad
def uA (x y v:D) (h:Hm):R Unit:=match x with
 | .ref i=>match h[i]? with
  | some (.kE t kvs)=>Ga i t kvs y v h
  | _=>zj x y v h
 | _=>.bad
def vG (eo ei:ME):MG:=fun v ρ h=>(eo ρ h).bind fun o h1=>(ei ρ h1).bind fun i h2=>(uA o i v h2).bind fun _ h3=>.ok ρ h3
def truth (x:D) (h:Hm):Option Bool:=match x with
 | .dat .none=>some false
 | .dat (.bool b)=>some b
 | .dat (.int i)=>some (i != 0)
 | .dat (.str s)=>if kF s.length then some ((s.length:Int) != 0) else Option.none
 | .dat (.tuple ds)=>some !ds.isEmpty
 | .dat (.list ds)=>some !ds.isEmpty
 | .ref i=>match h[i]? with
  | some (.lst xs)=>some !xs.isEmpty
  | _=>Option.none
 | _=>Option.none
def bP (e:ME):MT:=fun ρ h=>(e ρ h).bind fun x h1=>match truth x h1 with
 | some b=>.ok b h1
 | Option.none=>.bad
mutual
def cD:PyData->Bool
 | .str x=>PyData.strOk x
 | .list xs | .tuple xs=>cf xs
 | _=>true
def cf:List PyData->Bool
 | []=>true
 | x::xs=>cD x && cf xs
end
mutual
theorem ib:∀ {d:PyData},cD d=true->d.hasDict=false->d.canLay0=true
 | .none,_,_=>by simp [PyData.canLay0]
 | .bool _,_,_=>by simp [PyData.canLay0]
 | .int _,_,_=>by simp [PyData.canLay0]
 | .str x,h,_=>by simp only [cD] at h;simpa [PyData.canLay0] using h
 | .tuple ds,h,k=>by simp only [cD] at h;simp only [PyData.hasDict] at k;simp only [PyData.canLay0];exact mC h k
 | .list ds,h,k=>by simp only [cD] at h;simp only [PyData.hasDict] at k;simp only [PyData.canLay0];exact mC h k
 | .dict _,_,k=>by simp [PyData.hasDict] at k
theorem mC:∀ {ds:List PyData},cf ds=true->PyData.hasDictAll ds=false->PyData.canLayAll0 ds=true
 | [],_,_=>by simp [PyData.canLayAll0]
 | d::ds,h,k=>by
  simp only [cf,NG] at h
  simp only [PyData.hasDictAll,Rx] at k
  simp only [PyData.canLayAll0,NG]
  exact ⟨ib h.1 k.1,mC h.2 k.2⟩
end
mutual
def ag:PyData->Bool
 | .int _ | .str _=>true
 | .tuple ds=>af ds
 | _=>false
def af:List PyData->Bool
 | []=>true
 | d::ds=>ag d && af ds
end
theorem aE:∀ {ds:List PyData} {d:PyData},af ds=true->d∈ds->ag d=true
 | _::_,d,h,m=>by
  simp only [af,NG] at h
  rcases NJ.mp m with rfl | m
  ·exact h.1
  ·exact aE h.2 m
theorem fQ:∀ {ds:List PyData},(∀ d∈ds,ag d=true)->af ds=true
 | [],_=>by simp [af]
 | d::ds,h=>by simp only [af,NG];exact ⟨h d (by simp),fQ fun e m=>h e (by simp [m])⟩
mutual
theorem jK:∀ {d e:PyData},ag d=true->ag e=true->(PyData.eqv d e=true<->d=e)
 | .int i,.int j,_,_=>by simp [PyData.eqv]
 | .str x,.str y,_,_=>by simp [PyData.eqv]
 | .tuple xs,.tuple ys,h,k=>by
  simp only [ag] at h k
  simp only [PyData.eqv,PM]
  exact sS h k
 | .int _,.str _,_,_=>by simp [PyData.eqv]
 | .int _,.tuple _,_,_=>by simp [PyData.eqv]
 | .str _,.int _,_,_=>by simp [PyData.eqv]
 | .str _,.tuple _,_,_=>by simp [PyData.eqv]
 | .tuple _,.int _,_,_=>by simp [PyData.eqv]
 | .tuple _,.str _,_,_=>by simp [PyData.eqv]
 | .none,_,h,_=>by simp [ag] at h
 | .bool _,_,h,_=>by simp [ag] at h
 | .list _,_,h,_=>by simp [ag] at h
 | .dict _,_,h,_=>by simp [ag] at h
 | .int _,.none,_,h=>by simp [ag] at h
 | .int _,.bool _,_,h=>by simp [ag] at h
 | .int _,.list _,_,h=>by simp [ag] at h
 | .int _,.dict _,_,h=>by simp [ag] at h
 | .str _,.none,_,h=>by simp [ag] at h
 | .str _,.bool _,_,h=>by simp [ag] at h
 | .str _,.list _,_,h=>by simp [ag] at h
 | .str _,.dict _,_,h=>by simp [ag] at h
 | .tuple _,.none,_,h=>by simp [ag] at h
 | .tuple _,.bool _,_,h=>by simp [ag] at h
 | .tuple _,.list _,_,h=>by simp [ag] at h
 | .tuple _,.dict _,_,h=>by simp [ag] at h
theorem sS:∀ {xs ys:List PyData},af xs=true->af ys=true->(PyData.eqvAll xs ys=true<->xs=ys)
 | [],[],_,_=>by simp [PyData.eqvAll]
 | [],_::_,_,_=>by simp [PyData.eqvAll]
 | _::_,[],_,_=>by simp [PyData.eqvAll]
 | x::xs,y::ys,h,k=>by
  simp only [af,NG] at h k
  simp only [PyData.eqvAll,NG,P7]
  rw [jK h.1 k.1,sS h.2 k.2]
end
mutual
theorem bV:∀ {d:PyData},ag d=true->d.hasDict=false
 | .int _,_=>rfl
 | .str _,_=>rfl
 | .tuple ds,h=>by simp only [ag] at h;simp only [PyData.hasDict];exact eX h
 | .none,h=>by simp [ag] at h
 | .bool _,h=>by simp [ag] at h
 | .list _,h=>by simp [ag] at h
 | .dict _,h=>by simp [ag] at h
theorem eX:∀ {ds:List PyData},af ds=true->PyData.hasDictAll ds=false
 | [],_=>rfl
 | d::ds,h=>by
  simp only [af,NG] at h
  simp only [PyData.hasDictAll,Rx]
  exact ⟨bV h.1,eX h.2⟩
end
theorem aT {d:PyData} (h:ag d=true):PyData.eqv d d=true:=(jK h h).mpr rfl
theorem aQ {d e:PyData} (h:ag d=true) (k:ag e=true) (ne:d≠e):PyData.eqv d e=false:=by
 cases q:PyData.eqv d e with
 | false=>rfl
 | true=>exact absurd ((jK h k).mp q) ne
theorem LS {x y:Str} (h:x.cps.toList=y.cps.toList):x=y:=by
 obtain ⟨⟨a⟩⟩:=x
 obtain ⟨⟨b⟩⟩:=y
 simp at h
 subst h
 rfl
theorem uw (x:Str):ly x x=false:=NW (List.lt_irrefl _)
theorem xZ {x y z:Str} (h:ly x y=true) (h':ly y z=true):ly x z=true:=NV (List.lt_trans (Pb h) (Pb h'))
theorem BL {x y:Str} (h:ly x y=true):ly y x=false:=NW fun z=>List.lt_irrefl _ (List.lt_trans (Pb h) z)
theorem zc {x y:Str} (h:ly x y=false) (h':ly y x=false):x=y:=
 LS (List.le_antisymm (List.not_lt.mp (of_decide_eq_false h')) (List.not_lt.mp (of_decide_eq_false h)))
mutual
theorem BS:∀ {d e:PyData},ag d=true->ag e=true->bJ d e=some true->bJ e d=some false
 | .int i,.int j,_,_,h=>by simp [bJ] at h ⊢;omega
 | .str x,.str y,_,_,h=>by simp only [bJ,Qt] at h ⊢;exact BL h
 | .tuple xs,.tuple ys,h,k,q=>by simp only [ag] at h k;simp only [bJ] at q ⊢;exact zk h k q
 | .int _,.str _,_,_,h=>by simp [bJ] at h
 | .int _,.tuple _,_,_,h=>by simp [bJ] at h
 | .str _,.int _,_,_,h=>by simp [bJ] at h
 | .str _,.tuple _,_,_,h=>by simp [bJ] at h
 | .tuple _,.int _,_,_,h=>by simp [bJ] at h
 | .tuple _,.str _,_,_,h=>by simp [bJ] at h
 | .none,_,h,_,_=>by simp [ag] at h
 | .bool _,_,h,_,_=>by simp [ag] at h
 | .list _,_,h,_,_=>by simp [ag] at h
 | .dict _,_,h,_,_=>by simp [ag] at h
 | _,.none,_,h,_=>by simp [ag] at h
 | _,.bool _,_,h,_=>by simp [ag] at h
 | _,.list _,_,h,_=>by simp [ag] at h
 | _,.dict _,_,h,_=>by simp [ag] at h
theorem zk:∀ {xs ys:List PyData},af xs=true->af ys=true->cF xs ys=some true->cF ys xs=some false
 | [],[],_,_,h=>by simp [cF] at h
 | [],_::_,_,_,_=>by simp [cF]
 | _::_,[],_,_,h=>by simp [cF] at h
 | x::xs,y::ys,h,k,q=>by
  simp only [af,NG] at h k
  simp only [cF] at q ⊢
  by_cases e:x=y
  ·subst e
   rw [aT h.1,if_pos rfl] at q ⊢
   exact zk h.2 k.2 q
  ·rw [aQ h.1 k.1 e,if_neg (by simp)] at q
   rw [aQ k.1 h.1 (fun z=>e z.symm),if_neg (by simp)]
   exact BS h.1 k.1 q
end
mutual
theorem zl:∀ {d e:PyData},ag d=true->ag e=true->bJ d e=some false->bJ e d=some false->d=e
 | .int i,.int j,_,_,h,h'=>by simp [bJ] at h h';congr 1;omega
 | .str x,.str y,_,_,h,h'=>by simp only [bJ,Qt] at h h';rw [zc h h']
 | .tuple xs,.tuple ys,h,k,q,q'=>by simp only [ag] at h k;simp only [bJ] at q q';rw [vX h k q q']
 | .int _,.str _,_,_,h,_=>by simp [bJ] at h
 | .int _,.tuple _,_,_,h,_=>by simp [bJ] at h
 | .str _,.int _,_,_,h,_=>by simp [bJ] at h
 | .str _,.tuple _,_,_,h,_=>by simp [bJ] at h
 | .tuple _,.int _,_,_,h,_=>by simp [bJ] at h
 | .tuple _,.str _,_,_,h,_=>by simp [bJ] at h
 | .none,_,h,_,_,_=>by simp [ag] at h
 | .bool _,_,h,_,_,_=>by simp [ag] at h
 | .list _,_,h,_,_,_=>by simp [ag] at h
 | .dict _,_,h,_,_,_=>by simp [ag] at h
 | _,.none,_,h,_,_=>by simp [ag] at h
 | _,.bool _,_,h,_,_=>by simp [ag] at h
 | _,.list _,_,h,_,_=>by simp [ag] at h
 | _,.dict _,_,h,_,_=>by simp [ag] at h
theorem vX:∀ {xs ys:List PyData},af xs=true->af ys=true->cF xs ys=some false->cF ys xs=some false->xs=ys
 | [],[],_,_,_,_=>rfl
 | [],_::_,_,_,h,_=>by simp [cF] at h
 | _::_,[],_,_,_,h=>by simp [cF] at h
 | x::xs,y::ys,h,k,q,q'=>by
  simp only [af,NG] at h k
  simp only [cF] at q q'
  by_cases e:x=y
  ·subst e
   rw [aT h.1,if_pos rfl] at q q'
   rw [vX h.2 k.2 q q']
  ·rw [aQ h.1 k.1 e,if_neg (by simp)] at q
   rw [aQ k.1 h.1 (fun z=>e z.symm),if_neg (by simp)] at q'
   exact absurd (zl h.1 k.1 q q') e
end
mutual
theorem uB:∀ {d:PyData},ag d=true->bJ d d=some false
 | .int i,_=>by simp [bJ]
 | .str x,_=>by simp [bJ,uw]
 | .tuple xs,h=>by simp only [ag] at h;simp only [bJ];exact vY h
 | .none,h=>by simp [ag] at h
 | .bool _,h=>by simp [ag] at h
 | .list _,h=>by simp [ag] at h
 | .dict _,h=>by simp [ag] at h
theorem vY:∀ {xs:List PyData},af xs=true->cF xs xs=some false
 | [],_=>by simp [cF]
 | x::xs,h=>by
  simp only [af,NG] at h
  simp only [cF]
  rw [aT h.1,if_pos rfl]
  exact vY h.2
end
mutual
theorem BU:∀ {d e f:PyData},ag d=true->ag e=true->ag f=true->bJ d e=some true->bJ e f=some true->bJ d f=some true
 | .int i,.int j,.int k,_,_,_,h,h'=>by simp [bJ] at h h' ⊢;omega
 | .str x,.str y,.str z,_,_,_,h,h'=>by simp only [bJ,Qt] at h h' ⊢;exact xZ h h'
 | .tuple xs,.tuple ys,.tuple zs,h,k,l,q,q'=>by simp only [ag] at h k l;simp only [bJ] at q q' ⊢;exact zm h k l q q'
 | .none,_,_,h,_,_,_,_=>by simp [ag] at h
 | .bool _,_,_,h,_,_,_,_=>by simp [ag] at h
 | .list _,_,_,h,_,_,_,_=>by simp [ag] at h
 | .dict _,_,_,h,_,_,_,_=>by simp [ag] at h
 | .int _,.none,_,_,_,_,h,_=>by simp [bJ] at h
 | .int _,.bool _,_,_,_,_,h,_=>by simp [bJ] at h
 | .int _,.str _,_,_,_,_,h,_=>by simp [bJ] at h
 | .int _,.list _,_,_,_,_,h,_=>by simp [bJ] at h
 | .int _,.tuple _,_,_,_,_,h,_=>by simp [bJ] at h
 | .int _,.dict _,_,_,_,_,h,_=>by simp [bJ] at h
 | .str _,.none,_,_,_,_,h,_=>by simp [bJ] at h
 | .str _,.bool _,_,_,_,_,h,_=>by simp [bJ] at h
 | .str _,.int _,_,_,_,_,h,_=>by simp [bJ] at h
 | .str _,.list _,_,_,_,_,h,_=>by simp [bJ] at h
 | .str _,.tuple _,_,_,_,_,h,_=>by simp [bJ] at h
 | .str _,.dict _,_,_,_,_,h,_=>by simp [bJ] at h
 | .tuple _,.none,_,_,_,_,h,_=>by simp [bJ] at h
 | .tuple _,.bool _,_,_,_,_,h,_=>by simp [bJ] at h
 | .tuple _,.int _,_,_,_,_,h,_=>by simp [bJ] at h
 | .tuple _,.list _,_,_,_,_,h,_=>by simp [bJ] at h
 | .tuple _,.str _,_,_,_,_,h,_=>by simp [bJ] at h
 | .tuple _,.dict _,_,_,_,_,h,_=>by simp [bJ] at h
 | .int _,.int _,.none,_,_,_,_,h=>by simp [bJ] at h
 | .int _,.int _,.bool _,_,_,_,_,h=>by simp [bJ] at h
 | .int _,.int _,.str _,_,_,_,_,h=>by simp [bJ] at h
 | .int _,.int _,.list _,_,_,_,_,h=>by simp [bJ] at h
 | .int _,.int _,.tuple _,_,_,_,_,h=>by simp [bJ] at h
 | .int _,.int _,.dict _,_,_,_,_,h=>by simp [bJ] at h
 | .str _,.str _,.none,_,_,_,_,h=>by simp [bJ] at h
 | .str _,.str _,.bool _,_,_,_,_,h=>by simp [bJ] at h
 | .str _,.str _,.int _,_,_,_,_,h=>by simp [bJ] at h
 | .str _,.str _,.list _,_,_,_,_,h=>by simp [bJ] at h
 | .str _,.str _,.tuple _,_,_,_,_,h=>by simp [bJ] at h
 | .str _,.str _,.dict _,_,_,_,_,h=>by simp [bJ] at h
 | .tuple _,.tuple _,.none,_,_,_,_,h=>by simp [bJ] at h
 | .tuple _,.tuple _,.bool _,_,_,_,_,h=>by simp [bJ] at h
 | .tuple _,.tuple _,.int _,_,_,_,_,h=>by simp [bJ] at h
 | .tuple _,.tuple _,.list _,_,_,_,_,h=>by simp [bJ] at h
 | .tuple _,.tuple _,.str _,_,_,_,_,h=>by simp [bJ] at h
 | .tuple _,.tuple _,.dict _,_,_,_,_,h=>by simp [bJ] at h
theorem zm:∀ {xs ys zs:List PyData},af xs=true->af ys=true->af zs=true->cF xs ys=some true->cF ys zs=some true->cF xs zs=some true
 | [],[],_,_,_,_,h,_=>by simp [cF] at h
 | [],_::_,[],_,_,_,_,h=>by simp [cF] at h
 | [],_::_,_::_,_,_,_,_,_=>by simp [cF]
 | _::_,[],_,_,_,_,h,_=>by simp [cF] at h
 | _::_,_::_,[],_,_,_,_,h=>by simp [cF] at h
 | x::xs,y::ys,z::zs,h,k,l,q,q'=>by
  simp only [af,NG] at h k l
  simp only [cF] at q q' ⊢
  by_cases e1:x=y
  ·subst e1
   rw [aT h.1,if_pos rfl] at q
   by_cases e2:x=z
   ·subst e2
    rw [aT h.1,if_pos rfl] at q' ⊢
    exact zm h.2 k.2 l.2 q q'
   ·rw [aQ h.1 l.1 e2,if_neg (by simp)] at q' ⊢
    exact q'
  ·rw [aQ h.1 k.1 e1,if_neg (by simp)] at q
   by_cases e2:y=z
   ·subst e2
    rw [aQ h.1 k.1 e1,if_neg (by simp)]
    exact q
   ·rw [aQ k.1 l.1 e2,if_neg (by simp)] at q'
    have q3:=BU h.1 k.1 l.1 q q'
    by_cases e3:x=z
    ·subst e3
     rw [uB h.1] at q3
     cases q3
    ·rw [aQ h.1 l.1 e3,if_neg (by simp)]
     exact q3
end
def bQ (ds:List PyData):Bool:=ds.all fun a=>ds.all fun b=>(bJ a b).isSome
theorem eQ {ds:List PyData} (h:bQ ds=true) {a b:PyData} (ha:a∈ds) (hb:b∈ds):bJ a b=some (ltB a b):=by
 have:=NT.mp (NT.mp h a ha) b hb
 unfold ltB
 cases q:bJ a b with
 | none=>rw [q] at this;cases this
 | some k=>rfl
def fV:PyData->Bool | .tuple _=>true | _=>false
def qf:PyData->Bool | .str _=>true | _=>false
def eY (ds:List PyData):Bool:=(ds.all qf || ds.all fV) && af ds && bQ ds && decide (PyData.depthAll ds<=20) && decide (ds.length < 64)
def f7:Fn:=fun xs h=>match xs with
 | [x]=>match listOf x h with
  | some ds=>if eY ds then .ok (.dat (.list (cS ltB ds))) h else .bad
  | Option.none=>.bad
 | _=>.bad
theorem nI {ds:List PyData} (c:bQ ds=true) (t:af ds=true) {a b:PyData} (ha:a∈ds) (hb:b∈ds) (h:ltB a b=true):ltB b a=false:=by
 have h1:=eQ c ha hb
 rw [h] at h1
 unfold ltB
 rw [BS (aE t ha) (aE t hb) h1]
 rfl
theorem mD {ds:List PyData} (c:bQ ds=true) (t:af ds=true) {a b:PyData} (ha:a∈ds) (hb:b∈ds) (h:ltB b a=false):ltB a b=true\/a=b:=by
 cases q:ltB a b with
 | true=>exact .inl rfl
 | false=>
  have h1:=eQ c ha hb
  have h2:=eQ c hb ha
  rw [q] at h1
  rw [h] at h2
  exact .inr (zl (aE t ha) (aE t hb) h1 h2)
theorem zo {ds:List PyData} (c:bQ ds=true) (t:af ds=true) {a b d:PyData} (ha:a∈ds) (hb:b∈ds) (hd:d∈ds) (h:ltB b a=false) (h':ltB d b=false):ltB d a=false:=by
 rcases mD c t ha hb h with h1 | rfl
 ·rcases mD c t hb hd h' with h2 | rfl
  ·have q1:=eQ c ha hb
   have q2:=eQ c hb hd
   rw [h1] at q1
   rw [h2] at q2
   have q3:=BU (aE t ha) (aE t hb) (aE t hd) q1 q2
   exact nI c t ha hd (by unfold ltB;rw [q3];rfl)
  ·exact nI c t ha hb h1
 ·exact h'
theorem nJ (lt:PyData->PyData->Bool) (x:PyData):∀ ys:List PyData,(x9 lt x ys).Perm (x::ys)
 | []=>.refl _
 | y::ys=>by
  unfold x9
  split
  ·exact ((nJ lt x ys).cons y).trans (.swap x y ys)
  ·exact .refl _
theorem bR (lt:PyData->PyData->Bool):∀ xs:List PyData,(cS lt xs).Perm xs
 | []=>.refl _
 | x::xs=>(nJ lt x _).trans ((bR lt xs).cons x)
def Up (lt:PyData->PyData->Bool) (xs:List PyData):Prop:=xs.Pairwise fun a b=>lt b a=false
structure Ord (lt:PyData->PyData->Bool) (ds:List PyData):Prop where
 as:∀ {a b},a∈ds->b∈ds->lt a b=true->lt b a=false
 ntr:∀ {a b d},a∈ds->b∈ds->d∈ds->lt b a=false->lt d b=false->lt d a=false
 tot:∀ {a b},a∈ds->b∈ds->lt a b=false->lt b a=false->a=b
theorem Ord.sub {lt:PyData->PyData->Bool} {ds es:List PyData} (o:Ord lt ds) (h:∀ e∈es,e∈ds):Ord lt es:=
 ⟨fun a b=>o.as (h _ a) (h _ b),fun a b d=>o.ntr (h _ a) (h _ b) (h _ d),fun a b=>o.tot (h _ a) (h _ b)⟩
theorem zp {lt:PyData->PyData->Bool} {x:PyData}:∀ {ys:List PyData},Ord lt (x::ys)->Up lt ys->Up lt (x9 lt x ys)
 | [],_,_=>by simp [x9,Up]
 | y::ys,o,u=>by
  unfold x9
  unfold Up at u
  rw [Oy] at u
  split
  ·rename_i h
   refine Oy.mpr ⟨fun b hb=>?_,zp (o.sub fun e m=>by simp at m ⊢;rcases m with rfl | m<;>simp [*]) u.2⟩
   rcases NJ.mp ((nJ lt x ys).mem_iff.mp hb) with rfl | hb
   ·exact o.as (by simp) (by simp) h
   ·exact u.1 b hb
  ·rename_i h
   have h':lt y x=false:=by simpa using h
   refine Oy.mpr ⟨fun b hb=>?_,Oy.mpr u⟩
   rcases NJ.mp hb with rfl | hb
   ·exact h'
   ·exact o.ntr (by simp) (by simp) (by simp [hb]) h' (u.1 b hb)
theorem qg {lt:PyData->PyData->Bool}:∀ {xs:List PyData},Ord lt xs->Up lt (cS lt xs)
 | [],_=>by simp [cS,Up]
 | x::xs,o=>zp (o.sub fun e m=>by
     rcases NJ.mp m with rfl | m
     ·simp
     ·simp [(bR lt xs).mem_iff.mp m]) (qg (o.sub fun e m=>by simp [m]))
theorem nK {lt:PyData->PyData->Bool}:∀ {xs ys:List PyData},Ord lt xs->xs.Perm ys->Up lt xs->Up lt ys->xs=ys
 | [],ys,_,p,_,_=>by rw [List.nil_perm.mp p]
 | x::xs,ys,o,p,u,v=>by
  cases ys with
  | nil=>exact absurd p (by simp)
  | cons y ys=>
   have hx:x∈y::ys:=p.mem_iff.mp (by simp)
   have hy:y∈x::xs:=p.mem_iff.mpr (by simp)
   have e:x=y:=by
    rcases NJ.mp hx with e | hx
    ·exact e
    rcases NJ.mp hy with e | hy
    ·exact e.symm
    exact o.tot (by simp) (by simp [hy]) ((Oy.mp v).1 x hx) ((Oy.mp u).1 y hy)
   subst e
   rw [nK (o.sub fun e m=>by simp [m]) (List.perm_cons x |>.mp p) (Oy.mp u).2 (Oy.mp v).2]
theorem gm {ds:List PyData} (c:bQ ds=true) (t:af ds=true):Ord ltB ds where
 as:=fun a b=>nI c t a b
 ntr:=fun a b d=>zo c t a b d
 tot:=fun {a b} ha hb h h'=>by
  rcases mD c t ha hb h' with q | q
  ·rw [q] at h;cases h
  ·exact q
theorem vZ {ds es:List PyData} (c:bQ ds=true) (t:af ds=true) (p:es.Perm ds) (u:Up ltB es):es=cS ltB ds:=
 nK ((gm c t).sub fun e m=>p.mem_iff.mp m) (p.trans (bR ltB ds).symm) u (qg (gm c t))
end Ml
namespace Ml
open PySem PySem.Spec L2
open Sem (wp)
mutual
theorem aY:∀ {d:PyData},av d=true->ag d=true
 | .str _,_=>by simp [ag]
 | .tuple ds,h=>by simp only [av] at h;simp only [ag];exact mE h
 | .none,h=>by simp [av] at h
 | .bool _,h=>by simp [av] at h
 | .int _,h=>by simp [av] at h
 | .list _,h=>by simp [av] at h
 | .dict _,h=>by simp [av] at h
theorem mE:∀ {ds:List PyData},aX ds=true->af ds=true
 | [],_=>by simp [af]
 | d::ds,h=>by simp only [aX,NG] at h;simp only [af,NG];exact ⟨aY h.1,mE h.2⟩
end
mutual
def ou (w:World):PyData->Int
 | .str x=>hashStr w x
 | .tuple ds=>reduceHash (Builtin.Tuple.tupleHashOf (fW w ds))
 | _=>0
def fW (w:World):List PyData->List Int
 | []=>[]
 | d::ds=>ou w d::fW w ds
end
mutual
def lB:PyData->Nat
 | .str _=>1
 | .tuple ds=>mF ds+1
 | _=>0
def mF:List PyData->Nat
 | []=>0
 | d::ds=>lB d+mF ds
end
mutual
theorem iE {h h':Heap} (k:∀ b o vs n,h.get? b=some o->o.cls=.type "tuple" -> o.data=.seq vs n->h'.get? b=some o):∀ {d:PyData} {v:Value} {as:List Addr},av d=true->Reads h v d as->Reads h' v d as
 | .str _,_,_,_,.str x t=>.str x t
 | .tuple ds,_,_,t,.tuple h1 h2 h3 h4=>by simp only [av] at t;exact .tuple (k _ _ _ _ h1 h2 h3) h2 h3 (mG k t h4)
 | .none,_,_,t,_=>by simp [av] at t
 | .bool _,_,_,t,_=>by simp [av] at t
 | .int _,_,_,t,_=>by simp [av] at t
 | .list _,_,_,t,_=>by simp [av] at t
 | .dict _,_,_,t,_=>by simp [av] at t
theorem mG {h h':Heap} (k:∀ b o vs n,h.get? b=some o->o.cls=.type "tuple" -> o.data=.seq vs n->h'.get? b=some o):∀ {ds:List PyData} {vs:List Value} {as:List Addr},aX ds=true->ReadsAll h vs ds as->ReadsAll h' vs ds as
 | [],_,_,_,.nil=>.nil
 | d::ds,_,_,t,.cons r1 r2=>by simp only [aX,NG] at t;exact .cons (iE k t.1 r1) (mG k t.2 r2)
end
section
variable {P:Program} {w:World}
mutual
theorem lC:∀ (d:PyData) (A:Around) (s:Shared) (v:Value) (as:List Addr) (Q:Int->Shared->Prop) (E:Value->Shared->Prop),av d=true->Reads s.heap v d as->A.units+d.depth < cLine->Q (ou w d) {s with toks:=s.toks+lB d}->wpAny (model P w) A (pyHash v) Q E s
 | .str x,A,s,v,as,Q,E,_,r,hu,h=>by
  cases r
  simp only [ou,lB] at h
  exact wpAny_pyHash_str h
 | .tuple ds,A,s,v,as,Q,E,t,r,hu,h=>by
  cases r with
  | tuple ho hc hd hi=>
   rename_i a o items n
   have hT:s.TypeIs (.ref a) "tuple" := ⟨o,ho,hc⟩
   simp only [av] at t
   simp only [PyData.depth] at hu
   simp only [ou,lB] at h
   unfold pyHash
   first | unfold pyHashByItsType | skip
   first | refine NC (wpAny_cRoomFor_or (.inr (by omega)) ?_) | skip
   refine NC (Qp hT Qv.lookup ?_)
   show wpAny _ _ (if (some (Value.builtin "tuple.__hash__") == some Value.none)=true then _ else _) Q E s
   rw [if_neg (by rw [beq_builtin_none];exact Oa)]
   refine NC (Qp hT Qv.lookup ?_)
   show wpAny _ _ (callSpecialIfBoundUnlessNone? (.ref a) "__hash__" _ >>= _) Q E s
   refine NC (wpAny_callSpecialIfBoundUnlessNone?_slot hT Qv (Of Qv hT F.entry_tuple_hash ?_ (F.args_tuple_hash_1 _)))
   show wpAny _ _ (Builtin.Tuple.tupleItemsOf (.ref a) >>= _) _ _ s
   refine NC (wpAny_tupleItemsOf ho hd ?_)
   refine NC ?_
   rw [<- QV]
   refine mH ds A.in1 s items.toList _ #[] _ _ _ t hi (by show A.units+1+_ < _;omega) ?_ ?_
   ·intro x b s' R k
    first
     | exact NC (OU k (fun c s2 q=>ND q) fun _ _ z=>z)
     | exact NC (OU k (fun c s2 q=>NC (ND (ND q))) fun _ _ z=>z)
   ·show wpAny _ _ (retInt (Builtin.Tuple.tupleHashOf (#[]++(fW w ds).toArray).toList)) _ _ _
    have e1:(#[]++(fW w ds).toArray).toList=fW w ds:=by simp
    rw [e1]
    refine wpAny_ret_mkInt ?_
    show wpAny _ _ (if (decide (-(2:Int) ^ 63<=Builtin.Tuple.tupleHashOf (fW w ds)) && decide (Builtin.Tuple.tupleHashOf (fW w ds) < 2 ^ 63))=true then _ else _) Q E _
    unfold reduceHash at h
    by_cases hr:(decide (-(2:Int) ^ 63<=Builtin.Tuple.tupleHashOf (fW w ds)) && decide (Builtin.Tuple.tupleHashOf (fW w ds) < 2 ^ 63))=true
    ·rw [if_pos hr]
     rw [if_pos hr] at h
     exact ND (by simpa [Nat.add_assoc] using h)
    ·rw [if_neg hr]
     rw [if_neg hr] at h
     exact NC (PD (ND (by simpa [Nat.add_assoc] using h)))
 | .none,_,_,_,_,_,_,t,_,_,_=>by simp [av] at t
 | .bool _,_,_,_,_,_,_,t,_,_,_=>by simp [av] at t
 | .int _,_,_,_,_,_,_,t,_,_,_=>by simp [av] at t
 | .list _,_,_,_,_,_,_,t,_,_,_=>by simp [av] at t
 | .dict _,_,_,_,_,_,_,t,_,_,_=>by simp [av] at t
theorem mH:∀ (ds:List PyData) (A:Around) (s:Shared) (vs:List Value) (as:List Addr) (acc:Array Int) (R:Array Int->Shared->Prop) (E':Value->Shared->Prop) (body:Value->Array Int->Sem (ForInStep (Array Int))),aX ds=true->ReadsAll s.heap vs ds as->A.units+PyData.depthAll ds < cLine ->
  (∀ (x:Value) (b:Array Int) (s':Shared) (R':ForInStep (Array Int)->Shared->Prop),wpAny (model P w) A (pyHash x) (fun c s2=>R' (.yield (b.push c)) s2) E' s'->wpAny (model P w) A (body x b) R' E' s') ->
  R (acc++(fW w ds).toArray) {s with toks:=s.toks+mF ds}->wpAny (model P w) A (forIn vs acc body) R E' s
 | [],A,s,_,_,acc,R,E',body,_,.nil,_,hb,h=>by
  rw [PU]
  simp only [fW,mF] at h
  exact ND (by simpa using h)
 | d::ds,A,s,_,_,acc,R,E',body,t,.cons r1 r2,hu,hb,h=>by
  simp only [aX,NG] at t
  simp only [PyData.depthAll] at hu
  rw [Pu]
  refine NC (hb _ _ _ _ ?_)
  refine lC d A s _ _ _ E' t.1 r1 (by omega) ?_
  refine mH ds A _ _ _ (acc.push (ou w d)) R E' body t.2 r2 (by omega) hb ?_
  simp only [fW,mF] at h
  simpa [Nat.add_assoc] using h
end
mutual
theorem gU:∀ (d:PyData) (n:Nat) (A:Around) (s:Shared) (v:Value) (as:List Addr) (Q:Bool->Shared->Prop) (E:Value->Shared->Prop),av d=true->d.depth<=n->Reads s.heap v d as->Q true s->wpAny (model P w) A (eqIsQuiet n v) Q E s
 | .str x,n,A,s,v,as,Q,E,_,_,r,h=>by
  cases r
  rw [eqIsQuiet_byValue n rfl]
  exact ND h
 | .tuple ds,n,A,s,v,as,Q,E,t,hn,r,h=>by
  cases r with
  | tuple ho hc hd hi=>
   rename_i a o items k
   have hT:s.TypeIs (.ref a) "tuple" := ⟨o,ho,hc⟩
   simp only [av] at t
   simp only [PyData.depth] at hn
   obtain ⟨m,rfl⟩:∃ m,n=m+1:=⟨n - 1,by omega⟩
   unfold eqIsQuiet
   refine NC (Qp hT F.slot_tuple_eq.lookup ?_)
   show wpAny _ _ (isInstance (.ref a) (.type "tuple") >>= _) _ _ s
   refine NC (QH hT isSubtype_tuple_tuple ?_)
   simp only [PN,NP,Ou]
   refine NC (OL ho hd ?_)
   refine NC ?_
   show wpAny _ _ (forIn items _ _) _ _ s
   rw [<- QV]
   refine mI ds m A s items.toList _ _ E _ t (by omega) hi ?_ ?_
   ·intro x s' R k
    refine NC (OU k (fun c s2 q=>?_) fun _ _ z=>z)
    obtain ⟨rfl,q⟩:=q
    simp only [PN,NP,Ou]
    exact ND q
   ·exact ND h
 | .none,_,_,_,_,_,_,_,t,_,_,_=>by simp [av] at t
 | .bool _,_,_,_,_,_,_,_,t,_,_,_=>by simp [av] at t
 | .int _,_,_,_,_,_,_,_,t,_,_,_=>by simp [av] at t
 | .list _,_,_,_,_,_,_,_,t,_,_,_=>by simp [av] at t
 | .dict _,_,_,_,_,_,_,_,t,_,_,_=>by simp [av] at t
theorem mI:∀ (ds:List PyData) (n:Nat) (A:Around) (s:Shared) (vs:List Value) (as:List Addr) (R:Option Bool×Unit->Shared->Prop) (E:Value->Shared->Prop) (body:Value->Option Bool×Unit->Sem (ForInStep (Option Bool×Unit))),aX ds=true->PyData.depthAll ds<=n->ReadsAll s.heap vs ds as ->
  (∀ (x:Value) (s':Shared) (R':ForInStep (Option Bool×Unit)->Shared->Prop),wpAny (model P w) A (eqIsQuiet n x) (fun c s2=>c=true/\R' (.yield (none,())) s2) E s'->wpAny (model P w) A (body x (none,())) R' E s') ->
  R (none,()) s->wpAny (model P w) A (forIn vs (none,()) body) R E s
 | [],n,A,s,_,_,R,E,body,_,_,.nil,hb,h=>by
  rw [PU]
  exact ND h
 | d::ds,n,A,s,_,_,R,E,body,t,hn,.cons r1 r2,hb,h=>by
  simp only [aX,NG] at t
  simp only [PyData.depthAll] at hn
  rw [Pu]
  refine NC (hb _ _ _ (gU d n A s _ _ _ E t.1 (by omega) r1 ⟨rfl,?_⟩))
  exact mI ds n A s _ _ R E body t.2 (by omega) r2 hb h
end
end
def HC (h:Heap) (d:PyData) (a:Addr):Prop:=av d=true/\d.depth<=8/\cD d=true/\∃ as,Reads h (.ref a) d as
noncomputable instance MN:DecidableEq PyData:=fun a b=>Classical.propDecidable (a=b)
noncomputable def eG (P:Program) (w:World):HeapKind P w PyData where
 is:=HC
 hash:=ou w
 draws:=lB
 room:=fun A=>A.units+20 < cLine
 inj:=fun {h a x y} ⟨_,_,_,as,hx⟩ ⟨_,_,_,bs,hy⟩=>(PySem.Reads.unique hx _ _ hy).1
 keeps:=fun {h h' k a d o es ep} ⟨t,dp,so,as,r⟩ ho hd hs=>⟨t,dp,so,as,iE (fun b ob vs n e c dd=>by
  have ne:b≠d:=fun z=>by
   subst z
   rw [ho] at e
   cases e
   rw [hd] at dd
   cases dd
  exact (hs.2 b ne).trans e) t r⟩
 pyHash:=fun {A E s k a Q} hu ⟨t,dp,_,as,r⟩ h=>lC k A s _ as Q E t r (by omega) h
 eqBool:=fun {A E s x y a b Q} hu ⟨t1,d1,s1,as,r1⟩ ⟨t2,d2,s2,bs,r2⟩ h=>by
  have hq:PyData.eqv x y=decide (x=y):=by
   by_cases e:x=y
   ·subst e;rw [NV rfl];exact aT (aY t1)
   ·rw [NW e];exact aQ (aY t1) (aY t2) e
  have:=Rr x y A s _ _ _ _ r1 r2 (ib s1 (bV (aY t1))) (ib s2 (bV (aY t2))) (by omega) P w E Q
  rw [hq] at this
  exact this h
 quiet:=fun {A E s k a Q} ⟨t,dp,_,as,r⟩ h=>gU k 8 A s _ as Q E t dp r h
def dO (P:Program) (w:World) (xs:List (PyData×Addr×Value)) (a:Addr):HO:=.ext fun h=>xs.length<=sizeLine/\(a == sysModules)=false/\∃ o es ep,h.get? a=some o/\o.ExactDict/\o.data=.dict es ep/\es.toList=xs.map (entryOfKey (eG P w))/\(xs.map (·.1)).Nodup
theorem Gb {P:Program} {w:World} {xs:List (PyData×Addr×Value)} {a:Addr} {H:Hp} {h:Heap} {o:Obj} {es:Array DictEntry} {ep:Nat} (h1:xs.length<=sizeLine) (h2:(a == sysModules)=false) (h3:h.get? a=some o) (h4:o.ExactDict) (h5:o.data=.dict es ep) (h6:es.toList=xs.map (entryOfKey (eG P w))) (h7:(xs.map (·.1)).Nodup):cu P w H h a (dO P w xs a):=
 ⟨⟨h1,h2,o,es,ep,h3,h4,h5,h6,h7⟩,⟨o,h3⟩,fun g1 g2 ⟨k1,k2,o',es',ep',k3,k4⟩ hk=>⟨k1,k2,o',es',ep',hk _ k3,k4⟩⟩
end Ml
namespace Ml
open PySem PySem.Spec L2
def view (θ:List Addr) (H:Hp):Hp:=fun a=>if a∈θ then none else H a
theorem cY {θ:List Addr} {H:Hp} {a:Addr} {o:HO} (h:view θ H a=some o):a∉θ/\H a=some o:=by
 unfold view at h
 split at h
 ·cases h
 ·exact ⟨by assumption,h⟩
theorem dP {θ:List Addr} {H:Hp} {a:Addr} (h:a∉θ):view θ H a=H a:=if_neg h
theorem aA (θ:List Addr) (H:Hp):bH (view θ H) H:=fun a o h=>(cY h).2
def lD (M:Hp) (p:PyData×PyData) (q:PyData×Addr×Value):Prop:=p.1=q.1/\av p.1=true/\p.1.depth<=8/\cD p.1=true/\Rep M p.1 (.ref q.2.1)/\∃ v,RelV v q.2.2/\Rep M p.2 v/\cD p.2=true
def fu (P:Program) (w:World) (M G:Hp) (a:Addr) (t:Bool) (kvs:List (PyData×PyData)):Prop:=
 (t=false/\∃ ks,G a=some (.dK ks)/\bx ks=some kvs/\∀ p∈kvs,cD p.1=true/\cD p.2=true)\/(t=true/\∃ xs,G a=some (dO P w xs a)/\Paired (lD M) kvs xs)
structure Gx where
 P:Program
 w:World
 mg:Str->Option Value
 K:PySem.W.Frag
def Gd:PyData->V
 | .int i=>.int i
 | .str x=>.str x
 | .bool b=>.bl b
 | _=>.non
def BV (K:PySem.W.Frag) (a:Addr) (xs:List PyData):Prop:=(∃ (o:Obj) (its:Array Value) (n:Nat),K.lookup a=some o/\o.cls=.type "tuple" /\ o.data=.seq its n/\its.size<=sizeLine/\Vals (xs.map Gd) its.toList)/\(∀ x∈xs,(match x with | .int _ | .str _ | .bool _ | .none=>true | _=>false)=true)/\cf xs=true
def JM (G:Gx) (x:Xc) (cls:Value) (da:Option Addr) (M:Hp):Prop:=G.mg x.cls=some cls/\da=none/\x.args=[]
def bN (G:Gx) (θ:List Addr) (H:Hp):D->V->Prop
 | .dat d,v=>Rep (view θ H) d v/\cD d=true
 | .ref i,v=>∃ a,θ[i]?=some a/\v=.ref a
 | .kE t kvs,v=>∃ a,v=.ref a/\fu G.P G.w (view θ H) (view θ H) a t kvs
 | .set _,_=>False
 | .fn n,v=>∃ f,G.mg n=some (.ref f)/\v=.ref f
 | .scr ns,v=>∃ a,v=.ref a/\iu G.K (view θ H) a (ns.map V.int)
 | .ktup xs,v=>∃ a,v=.ref a/\BV G.K a xs
 | .rpr x,v=>v=.str x
 | .exc x,v=>∃ a cls,v=.ref a/\view θ H a=some (.ext (Ey a cls))/\JM G x cls none (view θ H)
abbrev aO (G:Gx) (θ:List Addr) (H:Hp):List D->List V->Prop:=Paired (bN G θ H)
def TabAt (θ:List Addr) (H:Hp) (P:Addr) (q:Str):Prop:=∃ ps:Array Value,H P=some (.tbl ps)/\TriplesOk ps.toList/\∀ (pos:Pos) (c:Value),codeAmong pos ps.toList=some c->∃ b,c=.ref b/\b≠P/\view θ H b=some (.ext (recAt b q))
theorem TabAt.same {θ θ':List Addr} {H H':Hp} {P:Addr} {q:Str} (s:bH (view θ H) (view θ' H')) (e:∀ o,H P=some o->H' P=some o) (x:TabAt θ H P q):TabAt θ' H' P q:=by
 obtain ⟨ps,h1,h2,h3⟩:=x
 exact ⟨ps,e _ h1,h2,fun pos c k=>let ⟨b,k1,k2,k3⟩:=h3 pos c k;⟨b,k1,k2,s _ _ k3⟩⟩
def ya (G:Gx) (θ:List Addr) (H:Hp) (a:Addr):MO->Prop
 | .lst xs=>∃ vs,H a=some (.lst vs)/\aO G θ H xs vs
 | .kE t kvs=>fu G.P G.w (view θ H) H a t kvs
 | .ins _ _=>False
 | .tab P q=>a=P/\TabAt θ H P q
structure W (G:Gx) (θ:List Addr) (h:Hm) (H:Hp):Prop where
 len:θ.length=h.length
 nd:θ.Nodup
 obj:∀ (i:Nat) (a:Addr) (o:MO),θ[i]?=some a->h[i]?=some o->ya G θ H a o
def Fr (G:Gx) (θ:List Addr) (H:Hp) (ρ:Fm) (σ:St):Prop:=ρ.length=σ.length/\∀ (i:Nat) (d:D),ρ[i]?=some (some d)->∃ v,σ[i]?=some (some v)/\bN G θ H d v
structure Ev (θ:List Addr) (H:Hp) (θ':List Addr) (H':Hp):Prop where
 pre:∃ ext,θ'=θ++ext
 same:bH (view θ H) (view θ' H')
section
variable {G:Gx} {θ θ' θ'':List Addr} {H H' H'':Hp} {h h':Hm} {d:D} {v:V} {ρ:Fm} {σ:St}
theorem Ev.refl:Ev θ H θ H:=⟨⟨[],by simp⟩,bH.refl _⟩
theorem Ev.trans (a:Ev θ H θ' H') (b:Ev θ' H' θ'' H''):Ev θ H θ'' H'':=by
 obtain ⟨e1,rfl⟩:=a.pre
 obtain ⟨e2,rfl⟩:=b.pre
 exact ⟨⟨e1++e2,by simp⟩,a.same.trans b.same⟩
theorem Ev.get (a:Ev θ H θ' H') {i:Nat} {x:Addr} (e:θ[i]?=some x):θ'[i]?=some x:=by
 obtain ⟨ext,rfl⟩:=a.pre
 rw [Oh (by have:=NY.mp e;exact this.1)]
 exact e
theorem lD.same {M M':Hp} (s:bH M M') {p:PyData×PyData} {q:PyData×Addr×Value} (h:lD M p q):lD M' p q:=by
 obtain ⟨h1,h2,h3,h4,h5,v,h6,h7,h8⟩:=h
 exact ⟨h1,h2,h3,h4,h5.same s,v,h6,h7.same s,h8⟩
theorem fu.same {P:Program} {w:World} {M M' G G':Hp} (s:bH M M') {a:Addr} {t:Bool} {kvs:List (PyData×PyData)} (h:fu P w M G a t kvs) (e:∀ o,G a=some o->G' a=some o):fu P w M' G' a t kvs:=by
 rcases h with ⟨ht,ks,h1,h2⟩ | ⟨ht,xs,h1,h2⟩
 ·exact .inl ⟨ht,ks,e _ h1,h2⟩
 ·exact .inr ⟨ht,xs,e _ h1,Paired.rJ h2 fun _ _=>lD.same s⟩
theorem fu.some {P:Program} {w:World} {M G:Hp} {a:Addr} {t:Bool} {kvs:List (PyData×PyData)} (h:fu P w M G a t kvs):G a≠none:=by
 rcases h with ⟨_,ks,h1,_⟩ | ⟨_,xs,h1,_⟩
 ·rw [h1];exact fun z=>nomatch z
 ·rw [h1];exact fun z=>nomatch z
theorem bN.ev (e:Ev θ H θ' H') (r:bN G θ H d v):bN G θ' H' d v:=by
 cases d with
 | dat d=>exact ⟨r.1.same e.same,r.2⟩
 | ref i=>obtain ⟨a,h1,h2⟩:=r;exact ⟨a,e.get h1,h2⟩
 | kE t kvs=>obtain ⟨a,h1,h2⟩:=r;exact ⟨a,h1,h2.same e.same fun o=>e.same a o⟩
 | set xs=>exact r
 | fn n=>exact r
 | scr ns=>obtain ⟨a,h1,h2⟩:=r;exact ⟨a,h1,e.same.seq h2⟩
 | ktup xs=>exact r
 | rpr x=>exact r
 | exc x=>obtain ⟨a,c,h1,h2,h3⟩:=r;exact ⟨a,c,h1,e.same _ _ h2,h3⟩
theorem aO.ev (e:Ev θ H θ' H') {ds:List D} {vs:List V} (r:aO G θ H ds vs):aO G θ' H' ds vs:=Paired.rJ r fun _ _=>bN.ev e
theorem Fr.ev (e:Ev θ H θ' H') (r:Fr G θ H ρ σ):Fr G θ' H' ρ σ:=⟨r.1,fun i d q=>let ⟨v,h1,h2⟩:=r.2 i d q;⟨v,h1,h2.ev e⟩⟩
theorem Fr.set {i:Nat} (r:Fr G θ H ρ σ) (q:bN G θ H d v):Fr G θ H (ρ.set i (some d)) (σ.set i (some v)):=by
 refine ⟨by simp [r.1],fun j e he=>?_⟩
 by_cases hj:i=j
 ·subst hj
  by_cases hl:i < ρ.length
  ·rw [OO hl] at he
   cases he
   exact ⟨v,by rw [OO (by rw [<- r.1];exact hl)],q⟩
  ·rw [Ri (by simp;omega)] at he
   cases he
 ·rw [QC hj] at he ⊢
  exact r.2 j e he
theorem Fr.replicate (n:Nat) (r:Fr G θ H ρ σ):Fr G θ H (List.replicate n none++ρ) (List.replicate n none++σ):=by
 refine ⟨by simp [r.1],fun i d e=>?_⟩
 by_cases hi:i < n
 ·rw [Oh (by simp;exact hi),Qc] at e
  split at e<;>cases e
 ·rw [Oo (by simp;omega)] at e ⊢
  simp at e ⊢
  exact r.2 _ d e
theorem BW {p:Addr} {o:HO} (hp:H p=none) (hn:p∉θ):Ev θ H θ (upd H p o):=⟨⟨[],by simp⟩,fun a u q=>by
 obtain ⟨h1,h2⟩:=cY q
 rw [dP h1,aB (aH h2 hp)]
 exact h2⟩
theorem ya.some (o:MO) {a:Addr} (r:ya G θ H a o):H a≠none:=by
 cases o with
 | lst xs=>obtain ⟨vs,e,_⟩:=r;rw [e];exact fun z=>nomatch z
 | kE t kvs=>exact fu.some r
 | ins=>exact r.elim
 | tab P q=>obtain ⟨rfl,ps,e,_⟩:=r;rw [e];exact fun z=>nomatch z
theorem W.BX (w:W G θ h H) {p:Addr} (hp:H p=none):p∉θ:=fun m=>by
 obtain ⟨i,hi,e⟩:=PY.mp m
 have hl:i < h.length:=by rw [<- w.len];exact hi
 exact ya.some _ (w.obj i p h[i] (by rw [NR hi,e]) (NR hl)) hp
theorem W.put (w:W G θ h H) {p:Addr} {o:HO} (hp:H p=none):Ev θ H θ (upd H p o)/\W G θ h (upd H p o)/\view θ (upd H p o) p=some o:=by
 have hn:=w.BX hp
 have e:=BW (o:=o) hp hn
 refine ⟨e,⟨w.len,w.nd,fun i a m h1 h2=>?_⟩,by rw [dP hn,ba]⟩
 have r:=w.obj i a m h1 h2
 have ha:a≠p:=fun z=>by subst z;exact hn (Od h1)
 cases m with
 | lst xs=>obtain ⟨vs,q1,q2⟩:=r;exact ⟨vs,by rw [aB ha];exact q1,q2.ev e⟩
 | kE t kvs=>exact fu.same e.same r fun o q=>by rw [aB ha];exact q
 | ins=>exact r.elim
 | tab P q=>obtain ⟨rfl,x⟩:=r;exact ⟨rfl,x.same e.same fun o q=>by rw [aB ha];exact q⟩
theorem W.grow (w:W G θ h H) (s:bH H H'):Ev θ H θ H'/\W G θ h H':=by
 have e:Ev θ H θ H':=⟨⟨[],by simp⟩,fun a u q=>by
  obtain ⟨h1,h2⟩:=cY q
  rw [dP h1]
  exact s _ _ h2⟩
 refine ⟨e,⟨w.len,w.nd,fun i a m h1 h2=>?_⟩⟩
 have r:=w.obj i a m h1 h2
 cases m with
 | lst xs=>obtain ⟨vs,q1,q2⟩:=r;exact ⟨vs,s _ _ q1,q2.ev e⟩
 | kE t kvs=>exact fu.same e.same r fun o q=>s _ _ q
 | ins=>exact r.elim
 | tab P q=>obtain ⟨rfl,x⟩:=r;exact ⟨rfl,x.same e.same fun o q=>s _ _ q⟩
theorem W.alloc (w:W G θ h H) {p:Addr} {o:HO} {m:MO} (hp:H p=none) (ho:ya G (θ++[p]) (upd H p o) p m):Ev θ H (θ++[p]) (upd H p o)/\W G (θ++[p]) (h++[m]) (upd H p o):=by
 have hn:=w.BX hp
 have e:Ev θ H (θ++[p]) (upd H p o):=⟨⟨[p],rfl⟩,fun a u q=>by
  obtain ⟨h1,h2⟩:=cY q
  have ne:=aH h2 hp
  rw [dP (by simp;exact ⟨h1,ne⟩),aB ne]
  exact h2⟩
 refine ⟨e,⟨by simp [w.len],?_,fun i a m' h1 h2=>?_⟩⟩
 ·rw [Qw]
  exact ⟨w.nd,by simp,fun x hx y hy z=>by simp at hy;subst hy;subst z;exact hn hx⟩
 ·by_cases hi:i < θ.length
  ·rw [Oh hi] at h1
   rw [Oh (by rw [<- w.len];exact hi)] at h2
   have r:=w.obj i a m' h1 h2
   have ha:a≠p:=fun z=>by subst z;exact hn (Od h1)
   cases m' with
   | lst xs=>obtain ⟨vs,q1,q2⟩:=r;exact ⟨vs,by rw [aB ha];exact q1,q2.ev e⟩
   | kE t kvs=>exact fu.same e.same r fun o q=>by rw [aB ha];exact q
   | ins=>exact r.elim
   | tab P q=>obtain ⟨rfl,x⟩:=r;exact ⟨rfl,x.same e.same fun o q=>by rw [aB ha];exact q⟩
  ·rw [Oo (by omega)] at h1
   rw [Oo (by rw [<- w.len];omega),<- w.len] at h2
   cases hk:i - θ.length with
   | zero=>
    rw [hk] at h1 h2
    simp at h1 h2
    subst h1
    subst h2
    exact ho
   | succ k=>
    rw [hk] at h1
    simp at h1
theorem W.write (w:W G θ h H) {i:Nat} {p:Addr} {o:HO} {m:MO} (hi:θ[i]?=some p) (hl:i < h.length) (ho:ya G θ (upd H p o) p m):Ev θ H θ (upd H p o)/\W G θ (h.set i m) (upd H p o):=by
 have hm:p∈θ:=Od hi
 have e:Ev θ H θ (upd H p o):=⟨⟨[],by simp⟩,fun a u q=>by
  obtain ⟨h1,h2⟩:=cY q
  have ne:a≠p:=fun z=>by subst z;exact h1 hm
  rw [dP h1,aB ne]
  exact h2⟩
 refine ⟨e,⟨by simp [w.len],w.nd,fun j a m' h1 h2=>?_⟩⟩
 by_cases hj:i=j
 ·subst hj
  rw [hi] at h1
  cases h1
  rw [OO hl] at h2
  cases h2
  exact ho
 ·rw [QC hj] at h2
  have ha:a≠p:=fun z=>by
   subst z
   obtain ⟨l1,e1⟩:=NY.mp hi
   obtain ⟨l2,e2⟩:=NY.mp h1
   have pw:=PV.mp w.nd
   rcases Nat.lt_or_gt_of_ne hj with z | z
   ·exact pw i j l1 l2 z (e1.trans e2.symm)
   ·exact pw j i l2 l1 z (e2.trans e1.symm)
  have r:=w.obj j a m' h1 h2
  cases m' with
  | lst xs=>obtain ⟨vs,q1,q2⟩:=r;exact ⟨vs,by rw [aB ha];exact q1,q2.ev e⟩
  | kE t kvs=>exact fu.same e.same r fun o q=>by rw [aB ha];exact q
  | ins=>exact r.elim
  | tab P q=>obtain ⟨rfl,x⟩:=r;exact ⟨rfl,x.same e.same fun o q=>by rw [aB ha];exact q⟩
end
abbrev XP:=Xc->List Addr->Hm->Hp->Prop
def aG {α:Type} (G:Gx) (E:XP) (θ:List Addr) (H:Hp):R α->(α->List Addr->Hm->Hp->Prop)->Prop
 | .ok a h',K=>∀ θ' H',Ev θ H θ' H'->W G θ' h' H'->K a θ' h' H'
 | .exc x h',_=>∀ θ' H',Ev θ H θ' H'->W G θ' h' H'->E x θ' h' H'
 | .bad,_=>False
section
variable {α β:Type} {G:Gx} {E E':XP} {θ θ':List Addr} {H H':Hp} {h:Hm} {r:R α} {f:α->Hm->R β} {K K':α->List Addr->Hm->Hp->Prop}
theorem aG.mono (p:aG G E θ H r K) (k:∀ a θ' h' H',Ev θ H θ' H'->W G θ' h' H'->K a θ' h' H'->K' a θ' h' H'):aG G E θ H r K':=by
 cases r with
 | ok a h'=>exact fun θ' H' e w=>k _ _ _ _ e w (p θ' H' e w)
 | exc x h'=>exact p
 | bad=>exact p
theorem aG.later (p:aG G E θ H r K) (e:Ev θ H θ' H'):aG G E θ' H' r K:=by
 cases r with
 | ok a h'=>exact fun θ2 H2 e2 w=>p θ2 H2 (e.trans e2) w
 | exc x h'=>exact fun θ2 H2 e2 w=>p θ2 H2 (e.trans e2) w
 | bad=>exact p
theorem aG.bind {L:β->List Addr->Hm->Hp->Prop} (p:aG G E θ H (r.bind f) L):aG G E θ H r fun a θ1 h1 H1=>Ev θ H θ1 H1/\W G θ1 h1 H1/\aG G E θ1 H1 (f a h1) L:=by
 cases r with
 | ok a h'=>exact fun θ1 H1 e w=>⟨e,w,aG.later p e⟩
 | exc x h'=>exact p
 | bad=>exact p
end
def nL (G:Gx) (E:XK):XP:=fun x θ _ H=>∀ cls da,JM G x cls da (view θ H)->E cls da H
def KV (G:Gx) (Q:VK):D->List Addr->Hm->Hp->Prop:=fun d θ _ H=>∀ v,bN G θ H d v->Q v H
def Np (G:Gx) (Q:List V->Hp->Prop):List D->List Addr->Hm->Hp->Prop:=fun ds θ _ H=>∀ vs,aO G θ H ds vs->Q vs H
def KS (G:Gx) (C:Ends):Fl->List Addr->Hm->Hp->Prop:=fun f θ _ H=>match f with
 | .nx ρ=>∀ σ,Fr G θ H ρ σ->C.nx σ H
 | .rt d=>∀ v,bN G θ H d v->C.rt v H
 | .bk ρ=>∀ σ,Fr G θ H ρ σ->C.bk σ H
 | .ct ρ=>∀ σ,Fr G θ H ρ σ->C.ct σ H
def lE (G:Gx) (E:XK) (m:ME):TE:=fun σ H Q=>∃ θ h ρ,W G θ h H/\Fr G θ H ρ σ/\aG G (nL G E) θ H (m ρ h) (KV G Q)
def lT (G:Gx) (E:XK) (m:MT):TT:=fun σ H Q=>∃ θ h ρ,W G θ h H/\Fr G θ H ρ σ/\aG G (nL G E) θ H (m ρ h) (fun b _ _ H'=>Q b H')
def lA (G:Gx) (E:XK) (m:MA):TA:=fun σ H Q=>∃ θ h ρ,W G θ h H/\Fr G θ H ρ σ/\aG G (nL G E) θ H (m ρ h) (Np G Q)
def lS (G:Gx) (E:XK) (m:MS):TS:=fun C σ H=>∃ θ h ρ,W G θ h H/\Fr G θ H ρ σ/\aG G (nL G E) θ H (m ρ h) (KS G C)
def lG (G:Gx) (E:XK) (g:MG):TG:=fun v σ H Q=>∃ θ h ρ d,W G θ h H/\Fr G θ H ρ σ/\bN G θ H d v/\aG G (nL G E) θ H (g d ρ h) (fun ρ' θ' _ H'=>∀ σ',Fr G θ' H' ρ' σ'->Q σ' H')
abbrev _root_.L2.Cx.G (X:Cx):Gx:=⟨X.prog,X.w,X.mg,X.K⟩
@[irreducible] def DE (X:Cx) (E:XK) (m:ME) (e:Expr):Prop:=PE X e (lE X.G E m)
theorem bw (X:Cx) (E:XK) (m:ME) (e:Expr):DE X E m e=(PE X e (lE X.G E m)):=by
 unfold DE
 rfl
@[irreducible] def DT (X:Cx) (E:XK) (m:MT) (e:Expr):Prop:=PT X e (lT X.G E m)
theorem jL (X:Cx) (E:XK) (m:MT) (e:Expr):DT X E m e=(PT X e (lT X.G E m)):=by
 unfold DT
 rfl
@[irreducible] def DA (X:Cx) (E:XK) (m:MA) (es:List Expr):Prop:=PA X es (lA X.G E m)
theorem jM (X:Cx) (E:XK) (m:MA) (es:List Expr):DA X E m es=(PA X es (lA X.G E m)):=by
 unfold DA
 rfl
@[irreducible] def DS (X:Cx) (E:XK) (m:MS) (s:Stmt):Prop:=PS X s (lS X.G E m)
theorem jq (X:Cx) (E:XK) (m:MS) (s:Stmt):DS X E m s=(PS X s (lS X.G E m)):=by
 unfold DS
 rfl
@[irreducible] def BY (X:Cx) (E:XK) (m:MS) (s:List Stmt):Prop:=xC X s (lS X.G E m)
theorem nM (X:Cx) (E:XK) (m:MS) (s:List Stmt):BY X E m s=(xC X s (lS X.G E m)):=by
 unfold BY
 rfl
@[irreducible] def DG (X:Cx) (E:XK) (m:MG) (e:Expr):Prop:=PG X e (lG X.G E m)
theorem kT (X:Cx) (E:XK) (m:MG) (e:Expr):DG X E m e=(PG X e (lG X.G E m)):=by
 unfold DG
 rfl
theorem PE.imp {X:Cx} {e:Expr} {t t':TE} (h:PE X e t) (k:∀ σ H Q,t' σ H Q->t σ H Q):PE X e t':=fun pins s σ H Q I q=>h pins s σ H Q I (k _ _ _ q)
theorem PT.imp {X:Cx} {e:Expr} {t t':TT} (h:PT X e t) (k:∀ σ H Q,t' σ H Q->t σ H Q):PT X e t':=fun pins s σ H Q I q=>h pins s σ H Q I (k _ _ _ q)
theorem PA.imp {X:Cx} {e:List Expr} {t t':TA} (h:PA X e t) (k:∀ σ H Q,t' σ H Q->t σ H Q):PA X e t':=fun pos pins s σ H Q I q=>h pos pins s σ H Q I (k _ _ _ q)
theorem PS.imp {X:Cx} {e:Stmt} {t t':TS} (h:PS X e t) (k:∀ C σ H,t' C σ H->t C σ H):PS X e t':=fun pins s σ H C I q=>h pins s σ H C I (k _ _ _ q)
theorem xC.imp {X:Cx} {e:List Stmt} {t t':TS} (h:xC X e t) (k:∀ C σ H,t' C σ H->t C σ H):xC X e t':=fun pins s σ H C I q=>h pins s σ H C I (k _ _ _ q)
def HD (G:Gx) (E:XK) (f:D->D->Hm->R D):R2:=fun x y H Q=>∃ θ h d1 d2,W G θ h H/\bN G θ H d1 x/\bN G θ H d2 y/\aG G (nL G E) θ H (f d1 d2 h) (KV G Q)
def MP (G:Gx) (E:XK) (f:Fn):List V->Hp->VK->Prop:=fun xs H Q=>∃ θ h ds,W G θ h H/\aO G θ H ds xs/\aG G (nL G E) θ H (f ds h) (KV G Q)
def mJ (X:Cx) (E:XK) (op:Value->Value->Sem Value) (f:D->D->Hm->R D):Prop:=gM X op (HD X.G E f)
def qh (X:Cx) (E:XK) (v:Value) (f:Fn):Prop:=dD X v (MP X.G E f)
theorem gM.imp {X:Cx} {op:Value->Value->Sem Value} {r r':R2} (h:gM X op r) (k:∀ x y H Q,r' x y H Q->r x y H Q):gM X op r':=fun pins s σ H x y v u Q I rx ry q=>h pins s σ H x y v u Q I rx ry (k _ _ _ _ q)
theorem dD.imp {X:Cx} {f:Value} {r r':List V->Hp->VK->Prop} (h:dD X f r) (k:∀ xs H Q,r' xs H Q->r xs H Q):dD X f r':=fun pins s σ H xs us Q I r q=>h pins s σ H xs us Q I r (k _ _ _ q)
theorem mJ.of {X:Cx} {E:XK} {op:Value->Value->Sem Value} {r:R2} {f:D->D->Hm->R D} (h:gM X op r)
  (k:∀ θ hm H d1 d2 x y Q,W X.G θ hm H->bN X.G θ H d1 x->bN X.G θ H d2 y->aG X.G (nL X.G E) θ H (f d1 d2 hm) (KV X.G Q)->r x y H Q):mJ X E op f:=
 gM.imp h fun x y H Q ⟨θ,hm,d1,d2,w,r1,r2,p⟩=>k θ hm H d1 d2 x y Q w r1 r2 p
theorem qh.of {X:Cx} {E:XK} {v:Value} {r:List V->Hp->VK->Prop} {f:Fn} (h:dD X v r)
  (k:∀ θ hm H ds xs Q,W X.G θ hm H->aO X.G θ H ds xs->aG X.G (nL X.G E) θ H (f ds hm) (KV X.G Q)->r xs H Q):qh X E v f:=
 dD.imp h fun xs H Q ⟨θ,hm,ds,w,r1,p⟩=>k θ hm H ds xs Q w r1 p
section
variable {X:Cx} {E:XK} {m a b c:ME} {t u:MT} {e e1 e2 e3:Expr} {es:List Expr} {ma:MA} {pos:Pos} {i:Nat} {x:Str}
theorem HE (hN:X.N[i]?=some x) (hv:DX X.env.scope x) (hd:(x == ("__debug__" : Str))=false:=by decide) (hcd:(x == ("__classdict__" : Str))=false:=by decide):DE X E (ab i) (.Name x pos):=by
 simp only [bw] at *
 exact PE.imp (GI hN hv hd hcd) fun σ H Q ⟨θ,h,ρ,w,fr,p⟩=>by
   unfold ab at p
   cases e:ρ[i]? with
   | none=>rw [e] at p;exact p.elim
   | some o=>
    cases o with
    | none=>rw [e] at p;exact p.elim
    | some d=>
     rw [e] at p
     obtain ⟨v,h1,h2⟩:=fr.2 i d e
     exact ⟨v,h1,p θ H Ev.refl w v h2⟩
theorem EC {v:V} {d:PyData} (h:PE X e (tC v)) (r:∀ G,Rep G d v) (s:cD d=true):DE X E (ah d) e:=by
 simp only [bw] at *
 exact PE.imp h fun σ H Q ⟨θ,hm,ρ,w,fr,p⟩=>p θ H Ev.refl w v ⟨r _,s⟩
theorem aI {k:Int} {j:Nat}:DE X E (ah (.int k)) (.Constant (.int k) j pos):=EC nB (fun _=>rfl) (by simp [cD])
theorem cU {k:Bool} {j:Nat}:DE X E (ah (.bool k)) (.Constant (.bool k) j pos):=EC FV (fun _=>rfl) (by simp [cD])
theorem eZ {k:Str} {j:Nat} (h:PyData.strOk k=true:=by decide +kernel):DE X E (ah (.str k)) (.Constant (.str k) j pos):=EC xE (fun _=>rfl) (by simp [cD,h])
theorem uC {G:Gx} {f:D->D->Hm->R D} {σ:St} {H:Hp} {Q:VK} (h:lE G E (au f a b) σ H Q):Jk (HD G E f) (lE G E a) (lE G E b) σ H Q:=by
 obtain ⟨θ,h,ρ,w,fr,p⟩:=h
 refine ⟨θ,h,ρ,w,fr,(aG.bind p).mono fun x θ1 h1 H1 _ _ ⟨e1,w1,p1⟩ v r1=>?_⟩
 exact ⟨θ1,h1,ρ,w1,fr.ev e1,(aG.bind p1).mono fun y θ2 h2 H2 _ _ ⟨e2,w2,p2⟩ u r2=>⟨θ2,h2,x,y,w2,r1.ev e2,r2,p2⟩⟩
theorem zq {G:Gx} {f:Fn} {σ:St} {H:Hp} {Q:VK} (h:lE G E (ai f ma) σ H Q):Lx (MP G E f) (lA G E ma) σ H Q:=by
 obtain ⟨θ,h,ρ,w,fr,p⟩:=h
 exact ⟨θ,h,ρ,w,fr,(aG.bind p).mono fun xs θ1 h1 H1 _ _ ⟨e1,w1,p1⟩ vs r1=>⟨θ1,h1,xs,w1,r1,p1⟩⟩
theorem cO {op:Operator} {f:D->D->Hm->R D} (h:mJ X E (binaryOp op) f) (ha:DE X E a e1) (hb:DE X E b e2):DE X E (au f a b) (.BinOp e1 op e2 pos):=by
 simp only [bw] at *
 exact PE.imp (FY h ha hb) fun _ _ _=>uC
theorem dZ {op:CmpOp} {f:D->D->Hm->R D} (h:mJ X E (compareOp op) f) (ha:DE X E a e1) (hb:DE X E b e2) (hm:behindInMarks op e2=false):DE X E (au f a b) (.Compare e1 [op] [e2] pos):=by
 simp only [bw] at *
 exact PE.imp (D7 h ha hb hm) fun _ _ _=>uC
theorem cG {f:D->D->Hm->R D} (h:IV X (HD X.G E f)) (ha:DE X E a e1) (hb:DE X E b e2) (hs:y0 e2):DE X E (au f a b) (.Subscript e1 e2 pos):=by
 simp only [bw] at *
 exact PE.imp (Jx h ha hb hs) fun _ _ _=>uC
theorem zr {G:Gx} {σ:St} {H:Hp} {Q:Bool->Hp->Prop} (h:lT G E (aN m) σ H Q):lE G E m σ H fun x H'=>∃ k,x=.bl k/\Q k H':=by
 obtain ⟨θ,h,ρ,w,fr,p⟩:=h
 refine ⟨θ,h,ρ,w,fr,(aG.bind p).mono fun x θ1 h1 H1 _ _ ⟨e1,w1,p1⟩ v r1=>?_⟩
 cases x with
 | dat d=>
  cases d with
  | bool k=>exact ⟨k,r1.1,p1 θ1 H1 Ev.refl w1⟩
  | _=>exact p1.elim
 | _=>exact p1.elim
theorem cg {op:CmpOp} {f:D->D->Hm->R D} (h:mJ X E (compareOp op) f) (ha:DE X E a e1) (hb:DE X E b e2) (hm:behindInMarks op e2=false):DT X E (aN (au f a b)) (.Compare e1 [op] [e2] pos):=by
 simp only [bw,jL] at *
 exact PT.imp (D8 h ha hb hm) fun _ _ _ q=>uC (zr q)
@[irreducible] def DW (X:Cx) (E:XK) (t:MT) (e:Expr):Prop:=PW X e (lT X.G E t)
theorem v7 (X:Cx) (E:XK) (t:MT) (e:Expr):DW X E t e=(PW X e (lT X.G E t)):=by
 unfold DW
 rfl
theorem DW.dt (h:DW X E t e):DT X E t e:=by
 simp only [jL,v7] at *
 exact PW.pt h
theorem PW.imp {X:Cx} {e:Expr} {t t':TT} (h:PW X e t) (k:∀ σ H Q,t' σ H Q->t σ H Q):PW X e t':=fun wh pins s σ H Q I q=>h wh pins s σ H Q I (k _ _ _ q)
theorem ED (ha:DT X E t e):DW X E t (.BoolOp .And [e] pos):=by
 simp only [jL,v7] at *
 exact DZ ha
theorem gE (ha:DT X E t e):DW X E t (.BoolOp .Or [e] pos):=by
 simp only [jL,v7] at *
 exact GK ha
theorem HF (ha:DT X E t e1) (hb:DW X E u (.BoolOp .And (e2::es) pos)):DW X E (vF t u) (.BoolOp .And (e1::e2::es) pos):=by
 simp only [jL,v7] at *
 exact PW.imp (GL ha hb) fun σ H Q ⟨θ,h,ρ,w,fr,p⟩=>⟨θ,h,ρ,w,fr,(aG.bind p).mono fun c θ1 h1 H1 _ _ ⟨ev,w1,p1⟩=>by
   cases c with
   | true=>exact ⟨θ1,h1,ρ,w1,fr.ev ev,p1⟩
   | false=>exact p1 θ1 H1 Ev.refl w1⟩
theorem jr (ha:DT X E t e1) (hb:DW X E u (.BoolOp .Or (e2::es) pos)):DW X E (lY t u) (.BoolOp .Or (e1::e2::es) pos):=by
 simp only [jL,v7] at *
 exact PW.imp (Je ha hb) fun σ H Q ⟨θ,h,ρ,w,fr,p⟩=>⟨θ,h,ρ,w,fr,(aG.bind p).mono fun c θ1 h1 H1 _ _ ⟨ev,w1,p1⟩=>by
   cases c with
   | true=>exact p1 θ1 H1 Ev.refl w1
   | false=>exact ⟨θ1,h1,ρ,w1,fr.ev ev,p1⟩⟩
theorem fz (ha:DT X E t e):DT X E (fT t) (.UnaryOp .Not e pos):=by
 simp only [jL] at *
 exact PT.imp (GN ha) fun σ H Q ⟨θ,h,ρ,w,fr,p⟩=>⟨θ,h,ρ,w,fr,(aG.bind p).mono fun c θ1 h1 H1 _ _ ⟨ev,w1,p1⟩=>p1 θ1 H1 Ev.refl w1⟩
theorem iT {op} (h:DE X E m e):DE X E m (.BoolOp op [e] pos):=by
 simp only [bw] at *
 exact GO h
theorem aj:DA X E ak []:=by
 simp only [jM] at *
 exact PA.imp pO fun σ H Q ⟨θ,h,ρ,w,fr,p⟩=>p θ H Ev.refl w _ .nil
theorem ae (ha:DE X E m e) (hr:DA X E ma es) (hs:starEach (e::es) X.env=(false,eval e X.env)::starEach es X.env:=by rfl):DA X E (aa m ma) (e::es):=by
 simp only [bw,jM] at *
 exact PA.imp (ka ha hr hs) fun σ H Q ⟨θ,h,ρ,w,fr,p⟩=>⟨θ,h,ρ,w,fr,(aG.bind p).mono fun x θ1 h1 H1 _ _ ⟨ev,w1,p1⟩ v r1=>
   ⟨θ1,h1,ρ,w1,fr.ev ev,(aG.bind p1).mono fun xs θ2 h2 H2 _ _ ⟨ev2,w2,p2⟩ vs r2=>p2 θ2 H2 Ev.refl w2 _ (.cons (r1.ev ev2) r2)⟩⟩
theorem ke {G:Gx} {θ:List Addr} {H:Hp}:∀ {xs:List D} {vs:List V} {ds:List PyData},aO G θ H xs vs->gz xs=some ds->bf (view θ H) ds vs/\cf ds=true
 | [],_,ds,.nil,e=>by cases e;exact ⟨rfl,by simp [cf]⟩
 | x::xs,_,ds,.cons r rs,e=>by
  unfold gz at e
  cases x with
  | dat d=>
   cases e2:gz xs with
   | none=>simp [D.data,e2] at e
   | some ds'=>
    simp [D.data,e2] at e
    subst e
    obtain ⟨h1,h2⟩:=ke rs e2
    exact ⟨.cons r.1 h1,by simp [cf,r.2,h2]⟩
  | _=>simp [D.data] at e
theorem uE {G:Gx} {θ:List Addr} {H:Hp}:∀ {ds:List PyData} {vs:List V},bf (view θ H) ds vs->cf ds=true->aO G θ H (ds.map D.dat) vs
 | [],_,h,_=>by cases h;exact .nil
 | d::ds,_,⟨v,vs,e,r,rs⟩,s=>by
  subst e
  simp only [cf,NG] at s
  exact .cons ⟨r,s.1⟩ (uE rs s.2)
theorem dQ {n:Nat} (h:kF n=true):n<=sizeLine:=by
 have:=Pb h
 rw [P8]
 exact this
theorem nN:∀ {xs:List D} {ds:List PyData},gz xs=some ds->ds.length=xs.length
 | [],ds,e=>by cases e;rfl
 | x::xs,ds,e=>by
  unfold gz at e
  cases e1:x.data with
  | none=>rw [e1] at e;cases e
  | some d=>
   cases e2:gz xs with
   | none=>rw [e1,e2] at e;cases e
   | some ds'=>rw [e1,e2] at e;cases e;simp [nN e2]
theorem cj {x1} (h:DA X E ma es):DE X E (cC ma) (.Tuple es x1 pos):=by
 simp only [bw,jM] at *
 exact PE.imp (Br h) fun σ H Q ⟨θ,h,ρ,w,fr,p⟩=>⟨θ,h,ρ,w,fr,(aG.bind p).mono fun xs θ1 h1 H1 _ _ ⟨ev,w1,p1⟩ vs r1=>by
   unfold jE at p1
   cases e:gz xs with
   | none=>rw [e] at p1;exact p1.elim
   | some ds=>
    rw [e] at p1
    simp only at p1
    split at p1
    ·rename_i hz
     have hl:vs.length=xs.length:=(Oc r1).symm
     refine ⟨by rw [hl,<- nN e];exact dQ hz,fun q hq=>?_⟩
     obtain ⟨e1,w2,g⟩:=w1.put (o:=.tup vs) hq
     obtain ⟨h1,h2⟩:=ke r1 e
     exact p1 _ _ e1 w2 _ ⟨⟨q,vs,rfl,g,h1.same e1.same⟩,by simp [cD,h2]⟩
    ·exact p1.elim⟩
theorem yb (h:DA X E ma es):DE X E (vU ma) (.List es pos):=by
 simp only [bw,jM] at *
 exact PE.imp (xM h) fun σ H Q ⟨θ,h,ρ,w,fr,p⟩=>⟨θ,h,ρ,w,fr,(aG.bind p).mono fun xs θ1 h1 H1 _ _ ⟨ev,w1,p1⟩ vs r1=>by
   unfold fP at p1
   cases e:gz xs with
   | none=>rw [e] at p1;exact p1.elim
   | some ds=>
    rw [e] at p1
    simp only at p1
    split at p1
    ·rename_i hz
     have hl:vs.length=xs.length:=(Oc r1).symm
     refine ⟨by rw [hl,<- nN e];exact dQ hz,fun q hq=>?_⟩
     obtain ⟨e1,w2,g⟩:=w1.put (o:=.lst vs) hq
     obtain ⟨h1,h2⟩:=ke r1 e
     exact p1 _ _ e1 w2 _ ⟨⟨q,vs,rfl,g,h1.same e1.same⟩,by simp [cD,h2]⟩
    ·exact p1.elim⟩
theorem W.HG {G:Gx} {θ:List Addr} {h:Hm} {H:Hp} {xs:List D} {vs:List V} (w:W G θ h H) (r:aO G θ H xs vs) {p:Addr} (hp:H p=none) :
  Ev θ H (θ++[p]) (upd H p (.lst vs))/\W G (θ++[p]) (h++[.lst xs]) (upd H p (.lst vs))/\bN G (θ++[p]) (upd H p (.lst vs)) (.ref h.length) (.ref p):=by
 have e:Ev θ H (θ++[p]) (upd H p (.lst vs)):=⟨⟨[p],rfl⟩,fun a u q=>by
  obtain ⟨h1,h2⟩:=cY q
  have ne:=aH h2 hp
  rw [dP (by simp;exact ⟨h1,ne⟩),aB ne]
  exact h2⟩
 obtain ⟨e1,w1⟩:=w.alloc (o:=.lst vs) (m:=.lst xs) hp ⟨vs,ba,r.ev e⟩
 exact ⟨e1,w1,p,by rw [<- w.len];simp,rfl⟩
theorem yc (h:DA X E ma es):DE X E (vV ma) (.List es pos):=by
 simp only [bw,jM] at *
 exact PE.imp (xM h) fun σ H Q ⟨θ,h,ρ,w,fr,p⟩=>⟨θ,h,ρ,w,fr,(aG.bind p).mono fun xs θ1 h1 H1 _ _ ⟨ev,w1,p1⟩ vs r1=>by
   unfold BN at p1
   split at p1
   ·rename_i hz
    have hl:vs.length=xs.length:=(Oc r1).symm
    refine ⟨by rw [hl];exact dQ hz,fun q hq=>?_⟩
    obtain ⟨e1,w2,g⟩:=w1.HG r1 hq
    exact p1 _ _ e1 w2 _ g
   ·exact p1.elim⟩
theorem BZ {id:String} {f:Fn} (hc:qh X E (.builtin id) f) (hg:Gl X x) (hm:X.mg x=none) (hv:bootBuiltins x=some (.builtin id)) {p:Pos} (ha:DA X E ma (e::es)) (hn:x ≠ "__name__" := by decide) (hdb:(x == ("__debug__" : Str))=false:=by decide)
  (he:starEach (e::es) X.env=(false,eval e X.env)::starEach es X.env:=by rfl) (hpl:(backTo pos (starEach es X.env)).any (·.1)=false:=by rfl):DE X E (ai f ma) (.Call (.Name x p) (e::es) [] pos):=by
 simp only [bw,jM] at *
 exact PE.imp (vJ hc hg hm hv ha hn hdb he hpl) fun _ _ _=>zq
theorem AM {T:String} {f:Fn} (hc:qh X E (.type T) f) (hg:Gl X x) (hm:X.mg x=none) (hv:bootBuiltins x=some (.type T)) {p:Pos} (ha:DA X E ma (e::es)) (hn:x ≠ "__name__" := by decide) (hdb:(x == ("__debug__" : Str))=false:=by decide)
  (he:starEach (e::es) X.env=(false,eval e X.env)::starEach es X.env:=by rfl) (hpl:(backTo pos (starEach es X.env)).any (·.1)=false:=by rfl):DE X E (ai f ma) (.Call (.Name x p) (e::es) [] pos):=by
 simp only [bw,jM] at *
 exact PE.imp (Av hc hg hm hv ha hn hdb he hpl) fun _ _ _=>zq
end
section
variable {X:Cx} {E:XK} {m:ME} {a b:MS} {t:MT} {e e1:Expr} {st:Stmt} {sts:List Stmt} {ss ss':List Stmt} {ma:MA} {pos:Pos} {i:Nat} {x:Str} {g:MG}
theorem cy:BY X E cB []:=by
 simp only [nM] at *
 exact xC.imp D0 fun C σ H ⟨θ,h,ρ,w,fr,p⟩=>p θ H Ev.refl w σ fr
theorem aC (h:DS X E a st):BY X E a [st]:=by
 simp only [jq,nM] at *
 exact D1 h
theorem ax (h1:DS X E a st) (h2:BY X E b ss):BY X E (bC a b) (st::ss):=by
 simp only [jq,nM] at *
 exact xC.imp (Bh h1 h2) fun C σ H ⟨θ,h,ρ,w,fr,p⟩=>⟨θ,h,ρ,w,fr,(aG.bind p).mono fun f θ1 h1 H1 _ _ ⟨ev,w1,p1⟩=>by
   cases f with
   | nx ρ1=>exact fun σ1 fr1=>⟨θ1,h1,ρ1,w1,fr1,p1⟩
   | rt d=>exact p1 θ1 H1 Ev.refl w1
   | bk ρ1=>exact p1 θ1 H1 Ev.refl w1
   | ct ρ1=>exact p1 θ1 H1 Ev.refl w1⟩
theorem iU (he:DE X E m e) (hs:swapsWith e none pos.line X.env=pure false:=by rfl):DS X E (jF m) (.Expr e pos):=by
 simp only [bw,jq] at *
 exact PS.imp (D2 he hs) fun C σ H ⟨θ,h,ρ,w,fr,p⟩=>⟨θ,h,ρ,w,fr,(aG.bind p).mono fun d θ1 h1 H1 _ _ ⟨ev,w1,p1⟩ v _=>p1 θ1 H1 Ev.refl w1 σ (fr.ev ev)⟩
theorem aZ (he:DE X E m e):DS X E (bX m) (.Return (some e) pos):=by
 simp only [bw,jq] at *
 exact PS.imp (GP he) fun C σ H ⟨θ,h,ρ,w,fr,p⟩=>⟨θ,h,ρ,w,fr,(aG.bind p).mono fun d θ1 h1 H1 _ _ ⟨ev,w1,p1⟩ v r=>p1 θ1 H1 Ev.refl w1 v r⟩
theorem fv (hc:DT X E t e) (ha:BY X E a ss) (hb:BY X E b ss'):DS X E (jy t a b) (.If e ss ss' pos):=by
 simp only [jL,jq,nM] at *
 exact PS.imp (Jh hc ha hb) fun C σ H ⟨θ,h,ρ,w,fr,p⟩=>⟨θ,h,ρ,w,fr,(aG.bind p).mono fun c θ1 h1 H1 _ _ ⟨ev,w1,p1⟩=>by
   cases c with
   | true=>exact ⟨θ1,h1,ρ,w1,fr.ev ev,p1⟩
   | false=>exact ⟨θ1,h1,ρ,w1,fr.ev ev,p1⟩⟩
theorem EE (hN:X.N.Nodup) (hi:X.N[i]?=some x) (hx:Loc X.env.scope x) (hf:X.fn x=true\/X.env.scope.names.lookup x=some .local:=by first | exact .inl rfl | exact .inr rfl | assumption):DG X E (ay i) (.Name x pos):=by
 simp only [kT] at *
 exact fun pins s σ H v u Q I r ⟨θ,h,ρ,d,w,fr,rd,p⟩=>D3 hN hi hx hf pins s σ H v u Q I r (p θ H Ev.refl w _ (fr.set rd))
def MQ (G:Gx) (E:XK) (g:zd):FW:=fun vs σ H Q=>∃ θ h ρ ds,W G θ h H/\Fr G θ H ρ σ/\aO G θ H ds vs/\aG G (nL G E) θ H (g ds ρ h) (fun ρ' θ' _ H'=>∀ σ',Fr G θ' H' ρ' σ'->Q σ' H')
@[irreducible] def IW (X:Cx) (E:XK) (m:zd) (es:List Expr):Prop:=IT X es (MQ X.G E m)
theorem yd (X:Cx) (E:XK) (m:zd) (es:List Expr):IW X E m es=(IT X es (MQ X.G E m)):=by
 unfold IW
 rfl
theorem gV:IW X E jA []:=by
 simp only [yd] at *
 exact fun pins s σ H vs us Q I r ⟨θ,h,ρ,ds,w,fr,rd,p⟩=>by
  cases rd with
  | nil=>exact D4 pins s σ H [] us Q I r ⟨rfl,p θ H Ev.refl w σ fr⟩
  | cons=>exact p.elim
theorem bW {gs:zd} {es:List Expr} (h1:DG X E g e) (h2:IW X E gs es) (hs:(assignEach (e::es) X.env).map (·.2)=assign e X.env::(assignEach es X.env).map (·.2):=by rfl):IW X E (cA g gs) (e::es):=by
 simp only [kT,yd] at *
 exact fun pins s σ H vs us Q I r ⟨θ,h,ρ,ds,w,fr,rd,p⟩=>by
   cases rd with
   | nil=>exact p.elim
   | cons r1 rr=>exact Bi h1 h2 hs pins s σ H _ us Q I r ⟨_,_,rfl,θ,h,ρ,_,w,fr,r1,(aG.bind p).mono fun ρ1 θ1 h1 H1 _ _ ⟨ev,w1,p1⟩ σ1 fr1=>⟨θ1,h1,ρ1,_,w1,fr1,aO.ev ev rr,p1⟩⟩
theorem gb {G:Gx} {θ:List Addr} {H:Hp} {ds:List PyData} {v:V} (r:bN G θ H (.dat (.tuple ds)) v):∃ a xs,v=.ref a/\view θ H a=some (.tup xs)/\bf (view θ H) ds xs/\aO G θ H (ds.map D.dat) xs:=by
 obtain ⟨⟨a,xs,e,ha,rr⟩,s⟩:=r
 exact ⟨a,xs,e,ha,rr,uE rr (by simpa [cD] using s)⟩
theorem gc {G:Gx} {θ:List Addr} {H:Hp} {ds:List PyData} {v:V} (r:bN G θ H (.dat (.list ds)) v):∃ a xs,v=.ref a/\view θ H a=some (.lst xs)/\bf (view θ H) ds xs/\aO G θ H (ds.map D.dat) xs:=by
 obtain ⟨⟨a,xs,e,ha,rr⟩,s⟩:=r
 exact ⟨a,xs,e,ha,rr,uE rr (by simpa [cD] using s)⟩
@[irreducible] def sT (gs:zd) (n:Nat):Prop:=∀ xs ρ h,xs.length≠n->gs xs ρ h=.bad
theorem qi (gs:zd) (n:Nat):sT gs n=(∀ xs ρ h,xs.length≠n->gs xs ρ h=.bad):=by
 unfold sT
 rfl
theorem eR:sT jA 0:=by
 simp only [qi] at *
 exact fun xs ρ h ne=>by
  cases xs with
  | nil=>exact absurd rfl ne
  | cons=>rfl
theorem bo {g:Nat} {gs:zd} {n:Nat} (t:sT gs n):sT (cA (ay g) gs) (n+1):=by
 simp only [qi] at *
 exact fun xs ρ h ne=>by
  cases xs with
  | nil=>rfl
  | cons x xs=>simp only [cA,ay,R.ao];exact t xs _ h (by simpa using ne)
theorem jN {es:List Expr} {k n:Nat} {gs:zd} (hc:X.calm=true) (h:IW X E gs es) (tk:sT gs n) (hn:(assignEach es X.env).length=n:=by rfl) (hst:(assignEach es X.env).findIdx? (·.1)=none:=by rfl):DG X E (jB gs) (.Tuple es k pos):=by
 simp only [kT,yd,qi] at *
 exact fun pins s σ H v u Q I r ⟨θ,hm,ρ,d,w,fr,rd,p⟩=>by
   cases d with
   | dat d=>
    cases d with
    | tuple ds=>
     obtain ⟨a,xs,e,ha,rr,rr2⟩:=gb rd
     have hl:xs.length=n:=by
      have h1:xs.length=ds.length:=rr.length
      by_cases z:ds.length=n
      ·rw [h1,z]
      ·have p':=p
       simp only [jB] at p'
       rw [tk (ds.map D.dat) ρ hm (by simpa using z)] at p'
       exact p'.elim
     exact GS (n:=n) hc h hn hst pins s σ H v u Q I r ⟨a,xs,e,fU.of (aA _ _ _ _ ha),hl,θ,hm,ρ,_,w,fr,rr2,p⟩
    | _=>exact p.elim
   | _=>exact p.elim
theorem HH (hN:X.N.Nodup) (hi:X.N[i]?=some x) (hx:Loc X.env.scope x) (he:DE X E m e) {pos':Pos} (hs:swapsWith e (some (.Name x pos')) pos.line X.env=pure false:=by rfl) (hf:X.fn x=true\/X.env.scope.names.lookup x=some .local:=by first | exact .inl rfl | exact .inr rfl | assumption) :
  DS X E (cn i m) (.Assign [.Name x pos'] e pos):=by
 simp only [bw,jq] at *
 exact PS.imp (GW hN hi hx he hs hf) fun C σ H ⟨θ,h,ρ,w,fr,p⟩=>⟨θ,h,ρ,w,fr,(aG.bind p).mono fun d θ1 h1 H1 _ _ ⟨ev,w1,p1⟩ v r=>p1 θ1 H1 Ev.refl w1 _ ((fr.ev ev).set r)⟩
theorem jO {tg:Expr} (he:DE X E m e) (hg:DG X E g tg) (hs:swapsWithSole [tg] e pos.line X.env=pure false:=by rfl) (hw:swappedStores [tg] e X.env=pure none:=by rfl)
  (h1:(assignEach [tg] X.env).map (·.2)=[assign tg X.env]:=by rfl):DS X E (kG g m) (.Assign [tg] e pos):=by
 simp only [bw,jq,kT] at *
 exact PS.imp (GV he hg hs hw h1) fun C σ H ⟨θ,h,ρ,w,fr,p⟩=>⟨θ,h,ρ,w,fr,(aG.bind p).mono fun d θ1 h1 H1 _ _ ⟨ev,w1,p1⟩ v r=>
   ⟨θ1,h1,ρ,d,w1,fr.ev ev,r,(aG.bind p1).mono fun ρ1 θ2 h2 H2 _ _ ⟨ev2,w2,p2⟩ σ2 fr2=>p2 θ2 H2 Ev.refl w2 σ2 fr2⟩⟩
def mK (G:Gx) (θ:List Addr) (H:Hp) (xs:List D) (J:It):Prop:=∀ θ' h' H',Ev θ H θ' H'->W G θ' h' H' ->
 (∀ (i:Nat) (d:D),xs[i]?=some d->J.go i H'/\∀ x H2,J.yld i H' x H2->Ev θ' H' θ' H2/\W G θ' h' H2/\bN G θ' H2 d x)/\J.stop xs.length H'
def lI (G:Gx) (E:XK) (m:MA):TI:=fun σ H R=>∃ θ h ρ,W G θ h H/\Fr G θ H ρ σ/\aG G (nL G E) θ H (m ρ h) (fun xs θ' _ H'=>∀ J,mK G θ' H' xs J->R J H')
@[irreducible] def DI (X:Cx) (E:XK) (m:MA) (tg e:Expr):Prop:=PI X tg e (lI X.G E m)
theorem jt (X:Cx) (E:XK) (m:MA) (tg e:Expr):DI X E m tg e=(PI X tg e (lI X.G E m)):=by
 unfold DI
 rfl
theorem PI.imp {tg e:Expr} {t t':TI} (h:PI X tg e t) (k:∀ σ H Q,t' σ H Q->t σ H Q):PI X tg e t':=fun pins s σ H Q I q=>h pins s σ H Q I (k _ _ _ q)
theorem aO.get {G:Gx} {θ:List Addr} {H:Hp}:∀ {ds:List D} {vs:List V} {i:Nat} {d:D} {v:V},aO G θ H ds vs->ds[i]?=some d->vs[i]?=some v->bN G θ H d v
 | _,_,i,_,_,.nil,e,_=>by simp at e
 | _,_,0,_,_,.cons r _,e,e'=>by simp at e e';subst e;subst e';exact r
 | _,_,i+1,d,v,.cons _ t,e,e'=>aO.get (i:=i) t (by simpa using e) (by simpa using e')
theorem aO.some {G:Gx} {θ:List Addr} {H:Hp} {ds:List D} {vs:List V} {i:Nat} {d:D} (r:aO G θ H ds vs) (e:ds[i]?=some d):∃ v,vs[i]?=some v/\bN G θ H d v:=by
 have hl:ds.length=vs.length:=Oc r
 have hi:i < vs.length:=by rw [<- hl];exact (NY.mp e).1
 exact ⟨vs[i],NR hi,r.get e (NR hi)⟩
theorem HI {G:Gx} {K:PySem.W.Frag} {θ:List Addr} {H:Hp} {ds:List D} {a:Addr} {xs:List V} (ha:view θ H a=some (.tup xs)) (r:aO G θ H ds xs):mK G θ H ds (Km K a):=fun θ' h' H' ev w=>by
 have ha':=aA _ _ _ _ (ev.same _ _ ha)
 have q:fU K H' a xs:=fU.of ha'
 refine ⟨fun i d e=>?_,⟨xs,q,by rw [<- show ds.length=xs.length from Oc r];exact NI _⟩⟩
 obtain ⟨v,ev',rv⟩:=r.some e
 refine ⟨⟨xs,v,q,ev'⟩,fun x H2 ⟨e2,y⟩=>?_⟩
 subst e2
 have:=y xs q
 rw [ev'] at this
 cases this
 exact ⟨Ev.refl,w,rv.ev ev⟩
theorem HJ {G:Gx} {K:PySem.W.Frag} {θ:List Addr} {H:Hp} {ds:List D} {a:Addr} {xs:List V} (ha:view θ H a=some (.lst xs)) (r:aO G θ H ds xs):mK G θ H ds (Ll K a):=fun θ' h' H' ev w=>by
 have ha':=aA _ _ _ _ (ev.same _ _ ha)
 have q:iu K H' a xs:=iu.of ha'
 refine ⟨fun i d e=>?_,⟨xs,q,by rw [<- show ds.length=xs.length from Oc r];exact NI _⟩⟩
 obtain ⟨v,ev',rv⟩:=r.some e
 refine ⟨⟨xs,v,q,ev'⟩,fun x H2 ⟨e2,y⟩=>?_⟩
 subst e2
 have:=y xs q
 rw [ev'] at this
 cases this
 exact ⟨Ev.refl,w,rv.ev ev⟩
theorem HK {tg:Expr} (h:DE X E m e):DI X E (ze m) tg e:=by
 simp only [bw,jt] at *
 exact PI.imp (Bk h) fun σ H R ⟨θ,h,ρ,w,fr,p⟩=>⟨θ,h,ρ,w,fr,(aG.bind p).mono fun d θ1 h1 H1 _ _ ⟨ev,w1,p1⟩ v r=>by
   cases d with
   | dat d=>
    cases d with
    | tuple ds=>
     obtain ⟨a,xs,e,ha,_,rr⟩:=gb r
     exact ⟨a,e,⟨xs,fU.of (aA _ _ _ _ ha)⟩,p1 θ1 H1 Ev.refl w1 _ (HI ha rr)⟩
    | _=>exact p1.elim
   | _=>exact p1.elim⟩
theorem HL {tg:Expr} (h:DE X E m e):DI X E (BO m) tg e:=by
 simp only [bw,jt] at *
 exact PI.imp (D5 h) fun σ H R ⟨θ,h,ρ,w,fr,p⟩=>⟨θ,h,ρ,w,fr,(aG.bind p).mono fun d θ1 h1 H1 _ _ ⟨ev,w1,p1⟩ v r=>by
   cases d with
   | dat d=>
    cases d with
    | list ds=>
     obtain ⟨a,xs,e,ha,_,rr⟩:=gc r
     exact ⟨a,e,⟨xs,iu.of (aA _ _ _ _ ha)⟩,p1 θ1 H1 Ev.refl w1 _ (HJ ha rr)⟩
    | _=>exact p1.elim
   | _=>exact p1.elim⟩
theorem zt {x:Str} {i:Nat} (s:PyData.strOk x=true):PyData.strOk ⟨#[x.cps.getD i 0]⟩=true:=by
 have q:=Array.all_eq_true.mp s
 simp only [PyData.strOk]
 apply Array.all_eq_true.mpr
 intro j hj
 simp only [NQ,N3,OB] at hj
 have:j=0:=by omega
 subst this
 simp only [List.getElem_toArray,List.getElem_cons_zero]
 by_cases hi:i < x.cps.size
 ·have:=q i hi
  simpa [Array.getD,hi] using this
 ·simp [Array.getD,hi]
theorem HM {tg:Expr} (h:DE X E m e):DI X E (BP m) tg e:=by
 simp only [bw,jt] at *
 exact PI.imp (Hs h) fun σ H R ⟨θ,h,ρ,w,fr,p⟩=>⟨θ,h,ρ,w,fr,(aG.bind p).mono fun d θ1 h1 H1 _ _ ⟨ev,w1,p1⟩ v r=>by
   cases d with
   | dat d=>
    cases d with
    | str s=>
     obtain ⟨r1,r2⟩:=r
     refine ⟨s,r1,p1 θ1 H1 Ev.refl w1 _ fun θ' h' H' ev w=>⟨fun i d e=>?_,by show (signs s).length=_;simp [signs]⟩⟩
     simp only [signs,OM,OA] at e
     obtain ⟨j,e1,e2⟩:=e
     obtain ⟨hj,e3⟩:=NY.mp e1
     simp at hj e3
     subst e3
     subst e2
     refine ⟨hj,fun x H2 ⟨z1,z2⟩=>?_⟩
     subst z1
     subst z2
     exact ⟨Ev.refl,w,rfl,by simp only [cD];exact zt (by simpa [cD] using r2)⟩
    | _=>exact p1.elim
   | _=>exact p1.elim⟩
theorem EF {G:Gx} {θ:List Addr} {H:Hp} {lo:Int} {n:Nat}:mK G θ H (nums lo n) (Kn lo n):=fun θ' h' H' ev w=>by
 refine ⟨fun i d e=>?_,by show n<=(nums lo n).length;simp [nums]⟩
 simp only [nums,OM,OA] at e
 obtain ⟨j,e1,e2⟩:=e
 obtain ⟨hj,e3⟩:=NY.mp e1
 simp at hj e3
 subst e3
 subst e2
 refine ⟨hj,fun x H2 ⟨z1,z2⟩=>?_⟩
 subst z1
 subst z2
 exact ⟨Ev.refl,w,rfl,by simp [cD]⟩
theorem bK {G:Gx} {θ:List Addr} {H:Hp} {j:Int} {v:V} (r:bN G θ H (.int j) v):v=.int j:=r.1
theorem EG {tg a:Expr} {p' pos':Pos} (hg:Gl X "range") (hm:X.mg "range" = none) (ha:DA X E ma [a]) (hs:starEach [a] X.env=[(false,eval a X.env)]:=by rfl):DI X E (oq ma) tg (.Call (.Name "range" p') [a] [] pos'):=by
 simp only [jM,jt] at *
 exact PI.imp (An hg hm ha hs) fun σ H R ⟨θ,h,ρ,w,fr,p⟩=>⟨θ,h,ρ,w,fr,(aG.bind p).mono fun ds θ1 h1 H1 _ _ ⟨ev,w1,p1⟩ vs r=>by
   split at p1
   ·split at p1
    ·rename_i j _ hj
     cases r with
     | cons r1 rr=>
      cases rr
      cases bK r1
      exact ⟨j,rfl,hj.1,hj.2,p1 θ1 H1 Ev.refl w1 _ EF⟩
    ·exact p1.elim
   ·exact p1.elim⟩
theorem v8:∀ (xs ys:List PyData),(kH xs ys).length=min xs.length ys.length
 | [],_=>by simp [kH]
 | _::_,[]=>by simp [kH]
 | x::xs,y::ys=>by simp [kH,v8 xs ys]
theorem v9:∀ (xs ys:List PyData) (i:Nat) (d:D),(kH xs ys)[i]?=some d->∃ x y,xs[i]?=some x/\ys[i]?=some y/\d=.dat (.tuple [x,y])
 | [],_,i,d,e=>by simp [kH] at e
 | _::_,[],i,d,e=>by simp [kH] at e
 | x::xs,y::ys,0,d,e=>by simp [kH] at e;exact ⟨x,y,rfl,rfl,e.symm⟩
 | x::xs,y::ys,i+1,d,e=>by simpa using v9 xs ys i d (by simpa [kH] using e)
theorem mL:∀ {ds:List PyData} {i:Nat} {d:PyData},cf ds=true->ds[i]?=some d->cD d=true
 | [],i,d,_,e=>by simp at e
 | x::xs,0,d,s,e=>by simp [cf] at s e;subst e;exact s.1
 | x::xs,i+1,d,s,e=>by simp [cf] at s;exact mL (i:=i) s.2 (by simpa using e)
theorem HN {kk:Nat} {es:List Expr} {tpos:Pos} {e1 e2:Expr} {p' pos':Pos} (hg:Gl X "zip") (hm:X.mg "zip" = none) (ha:DA X E ma [e1,e2]) (hs:starEach [e1,e2] X.env=[(false,eval e1 X.env),(false,eval e2 X.env)]:=by rfl) (hs2:starEach [e2] X.env=[(false,eval e2 X.env)]:=by rfl) :
  DI X E (zf ma) (.Tuple es kk tpos) (.Call (.Name "zip" p') [e1,e2] [] pos'):=by
 simp only [jM,jt] at *
 exact PI.imp (Hn hg hm ha hs hs2) fun σ H R ⟨θ,h,ρ,w,fr,p⟩=>⟨θ,h,ρ,w,fr,(aG.bind p).mono fun ds θ1 h1 H1 _ _ ⟨ev,w1,p1⟩ vs r=>by
   split at p1
   ·rename_i xs ys _
    cases r with
    | cons r1 rr=>
     cases rr with
     | cons r2 rr=>
      cases rr
      have s1:cf xs=true:=by simpa [cD] using r1.2
      have s2:cf ys=true:=by simpa [cD] using r2.2
      obtain ⟨a1,us,rfl,ha1,q1,_⟩:=gb r1
      obtain ⟨a2,ws,rfl,ha2,q2,_⟩:=gb r2
      refine ⟨a1,a2,us,ws,rfl,fU.of (aA _ _ _ _ ha1),fU.of (aA _ _ _ _ ha2),p1 θ1 H1 Ev.refl w1 _ fun θ' h' H' ev' w'=>?_⟩
      have k1:fU X.K H' a1 us:=fU.of (aA _ _ _ _ (ev'.same _ _ ha1))
      have k2:fU X.K H' a2 ws:=fU.of (aA _ _ _ _ (ev'.same _ _ ha2))
      have l1:=q1.length
      have l2:=q2.length
      refine ⟨fun i d e=>?_,⟨us,ws,k1,k2,by rw [v8,l1,l2];omega⟩⟩
      obtain ⟨x,y,ex,ey,rfl⟩:=v9 _ _ _ _ e
      obtain ⟨u,eu,ru⟩:=bf.get' q1 ex
      obtain ⟨z,ez,rz⟩:=bf.get' q2 ey
      refine ⟨⟨us,ws,u,z,k1,k2,eu,ez⟩,fun v H2 ⟨pp,x',y',e1,hp,e2,c1,c2⟩=>?_⟩
      have:=c1 us k1
      rw [eu] at this
      cases this
      have:=c2 ws k2
      rw [ez] at this
      cases this
      subst e1
      subst e2
      obtain ⟨e3,w3,g3⟩:=w'.put (o:=.tup [u,z]) hp
      exact ⟨e3,w3,⟨pp,[u,z],rfl,g3,.cons (ru.same (ev'.same.trans e3.same)) (.one (rz.same (ev'.same.trans e3.same)))⟩,by simp [cD,cf,mL s1 ex,mL s2 ey]⟩
   ·exact p1.elim⟩
abbrev cZ:XK:=fun _ _ _=>False
theorem aG.cN {α β:Type} {G:Gx} {F:XP} {θ:List Addr} {H:Hp} {r:R α} {f:α->Hm->R β} {L:β->List Addr->Hm->Hp->Prop} (p:aG G F θ H (r.rV.bind f) L) {F':XP} :
  aG G F' θ H r fun a θ1 h1 H1=>Ev θ H θ1 H1/\W G θ1 h1 H1/\aG G F θ1 H1 (f a h1) L:=by
 cases r with
 | ok a h'=>exact fun θ1 H1 e w=>⟨e,w,aG.later p e⟩
 | exc x h'=>exact p.elim
 | bad=>exact p.elim
theorem PS.IS {X:Cx} {st:Stmt} {t:TS} (h:PS X.IS st t):PS X st t:=fun pins s σ H D I hw=>
 OU (h pins s σ H D (I.rK _) hw) (fun _ _ q=>q.jz) fun _ _ z=>False.elim z
end
end Ml
namespace L2
open PySem PySem.Spec PyProof.Rows
theorem F3.Nq {P:Program} {w:World} {K:PySem.W.Frag} {mg:Str->Option Value} {base:Heap} {x qual:Str} {st:Stmt} {f:Addr} {fd:FuncData} {N ps:List Str} {k:Nat} {sp:Sp} (F:F3 K x qual st f fd) (S:aU N ps (aD st)) (len:∀ vs H Q E,sp vs H Q E->vs.length=ps.length)
  (hbody:∀ (cdv:Value) (A:Around) (outer:List Env) (s:Shared) (H:Hp) (vs:List V) (Q:VK) (E:XK),cz k (A.deeper (envOfC qual (aD st) s.heap.objs.size f cdv))->sp vs H Q E ->
   ∃ t,xC (rL (rT P w) P w K mg base N qual (aD st) f cdv A outer s H E) (eW st) t/\t {nx:=fun _ H'=>Q .non H',rt:=Q} (start N vs) H):iy P w K mg base (rT P w) (k+1) f fd ps sp:=by
 obtain ⟨oc,od,kV,doc,pm,an,cdv,ct,osl,rfl,lk,hcd⟩:=F.ex
 exact Ju lk hcd S len fun A outer s H vs Q E hr hsp=>hbody cdv A outer s H vs Q E hr hsp
structure B0 (P:Program) (w:World) (K:PySem.W.Frag) (mg:Str->Option Value) (base:Heap) (x:Str) (ps:List Str) (k:Nat) (sp:Sp):Prop where
 ex:∃ (f:Addr) (fd:FuncData),mg x=some (.ref f)/\PySem.W.keepIn K (.ref f)=true/\Binds K fd ps []/\iy P w K mg base (rT P w) k f fd ps sp
section
variable {X:Cx} {x:Str} {ps:List Str} {k:Nat} {sp:Sp} {e:Expr} {es:List Expr} {t:TA} {p pos:Pos}
theorem HP {E:XK} (F:B0 X.prog X.w X.K X.mg X.base x ps k sp) (hx:Passes (rT X.prog X.w) X E) (hr:cz k X.A) (hg:Gl X x) (ha:PA X (e::es) t) (hdb:(x == ("__debug__" : Str))=false:=by decide) (he:starEach (e::es) X.env=(false,eval e X.env)::starEach es X.env:=by rfl)
  (hpl:(backTo pos (starEach es X.env)).any (·.1)=false:=by rfl):PE X (.Call (.Name x p) (e::es) [] pos) (Bs sp [] E t):=by
 obtain ⟨f,fd,h1,h2,h3,h4⟩:=F.ex
 exact Eb h4 hr hg h1 h2 h3 .nil hx ha hdb he hpl
end
end L2
namespace Ml
open PySem PySem.Spec L2
section
variable {X:Cx} {E:XK} {m:ME} {a b:MS} {t:MT} {e e1 tg:Expr} {st:Stmt} {ss ss':List Stmt} {ma it:MA} {pos:Pos} {i:Nat} {x:Str} {g:MG}
theorem B1 {G:Gx} {F:XP} {θ1:List Addr} {H1:Hp} {h1:Hm} {xs:List D} {J:It} {C:Ends} {σ:St} {ρ:Fm} (hJ:mK G θ1 H1 xs J) (w1:W G θ1 h1 H1) (fr:Fr G θ1 H1 ρ σ) (p1:aG G F θ1 H1 (dA g b xs ρ h1) (KS G C)) :
  ∃ W':Nat->Nat->St->Hp->Prop,(∃ m,W' 0 m σ H1)/\∀ i m σ H,W' i m σ H ->
   (J.stop i H/\C.nx σ H)\/(J.go i H/\∃ N:St->Hp->Prop,(∀ σ' H',N σ' H'->∃ m',m' < m/\W' (i+1) m' σ' H')/\∀ x H',J.yld i H x H'->lG G cZ g x σ H' fun σ2 H2=>lS G cZ b {C with nx:=N,ct:=N,bk:=C.nx} σ2 H2):=by
 refine ⟨fun i m σ H=>m=xs.length - i/\i<=xs.length/\∃ θ' h' ρ',Ev θ1 H1 θ' H/\W G θ' h' H/\Fr G θ' H ρ' σ/\aG G F θ' H (dA g b (xs.drop i) ρ' h') (KS G C),⟨xs.length,by simp,O0 _,θ1,h1,ρ,Ev.refl,w1,fr,p1⟩,?_⟩
 rintro i m σ H ⟨rfl,hi,θ',h',ρ',ev,w,fr',p⟩
 obtain ⟨j1,j2⟩:=hJ θ' h' H ev w
 by_cases hlt:i < xs.length
 ·have ed:xs.drop i=xs[i]::xs.drop (i+1):=OH hlt
  rw [ed] at p
  obtain ⟨g1,g2⟩:=j1 i xs[i] (NR hlt)
  refine .inr ⟨g1,fun σ2 H2=>i+1<=xs.length/\∃ θ' h' ρ',Ev θ1 H1 θ' H2/\W G θ' h' H2/\Fr G θ' H2 ρ' σ2/\aG G F θ' H2 (dA g b (xs.drop (i+1)) ρ' h') (KS G C),fun σ' H' q=>⟨xs.length - (i+1),by omega,rfl,q⟩,fun x H2 y=>?_⟩
  obtain ⟨e2,w2,r2⟩:=g2 x H2 y
  refine ⟨θ',h',ρ',xs[i],w2,fr'.ev e2,r2,(aG.cN (p.later e2)).mono fun ρ3 θ3 h3 H3 _ _ ⟨e3,w3,p3⟩ σ3 fr3=>⟨θ3,h3,ρ3,w3,fr3,(aG.cN p3).mono fun f θ4 h4 H4 _ _ ⟨e4,w4,p4⟩=>?_⟩⟩
  have ev4:=(ev.trans e2).trans (e3.trans e4)
  cases f with
  | nx ρ5=>exact fun σ5 fr5=>⟨hlt,θ4,h4,ρ5,ev4,w4,fr5,p4⟩
  | ct ρ5=>exact fun σ5 fr5=>⟨hlt,θ4,h4,ρ5,ev4,w4,fr5,p4⟩
  | bk ρ5=>exact p4 θ4 H4 Ev.refl w4
  | rt d=>exact p4 θ4 H4 Ev.refl w4
 ·have hx:i=xs.length:=by omega
  subst hx
  rw [OP (NI _)] at p
  exact .inl ⟨j2,p θ' H Ev.refl w σ fr'⟩
theorem iV {body:List Stmt} (hc:X.calm=true) (hi:DI X.IS cZ it tg e) (hg:DG X.IS cZ g tg) (hb:BY X.IS cZ b body) (hs:∀ x,foldedSetIterable e X.env x=pure x:=by intro _;rfl):DS X E (jH it g b) (.For tg e body [] pos):=by
 simp only [jq,nM,kT,jt] at *
 exact PS.IS (PS.imp (GZ PassesOwn.never hc hi hg hb hs) fun C σ H ⟨θ,h,ρ,w,fr,p⟩=>⟨θ,h,ρ,w,fr,(aG.cN p).mono fun xs θ1 h1 H1 _ _ ⟨ev,w1,p1⟩ J hJ=>B1 hJ w1 (fr.ev ev) p1⟩)
theorem eI {α β:Type} {G:α->β->Prop}:∀ {xs ys:List α} {us ws:List β},Paired G xs us->Paired G ys ws->Paired G (xs++ys) (us++ws)
 | _,_,_,_,.nil,s=>s
 | _,_,_,_,.cons r t,s=>.cons r (eI t s)
theorem AN {G:Gx} {F:XP} {n:Nat} {θ1:List Addr} {H1:Hp} {h1:Hm} {xs:List D} {J:It} {σ:St} {ρ:Fm} {Q:VK} {mk:List D->Hm->R D} (hJ:mK G θ1 H1 xs J) (w1:W G θ1 h1 H1) (fr:Fr G θ1 H1 ρ σ) (p1:aG G F θ1 H1 ((dw n ρ g t m xs h1).bind mk) (KV G Q))
  (hmk:∀ ys vs θ h H,ys.length<=xs.length->W G θ h H->aO G θ H ys vs->aG G F θ H (mk ys h) (KV G Q)->∀ p,H p=none->Q (.ref p) (upd H p (.lst vs))) (hz:xs.length<=sizeLine) :
  Bz n J (lG G cZ g) (lT G cZ t) (lE G cZ m) σ H1 Q:=by
 refine ⟨fun i m' ys H=>m'=xs.length - i/\i<=xs.length/\∃ θ' h' acc,acc.length<=i/\Ev θ1 H1 θ' H/\W G θ' h' H/\aO G θ' H acc ys/\aG G F θ' H ((dw n ρ g t m (xs.drop i) h').bind fun zs h2=>mk (acc++zs) h2) (KV G Q),
  ⟨xs.length,by simp,O0 _,θ1,h1,[],NI _,Ev.refl,w1,.nil,p1⟩,?_⟩
 rintro i m' ys H ⟨rfl,hi,θ',h',acc,hacc,ev,w,ra,p⟩
 obtain ⟨j1,j2⟩:=hJ θ' h' H ev w
 have hly:ys.length<=sizeLine:=by rw [<- show acc.length=ys.length from Oc ra];omega
 by_cases hlt:i < xs.length
 ·have ed:xs.drop i=xs[i]::xs.drop (i+1):=OH hlt
  rw [ed] at p
  obtain ⟨g1,g2⟩:=j1 i xs[i] (NR hlt)
  refine .inr ⟨g1,hly,fun ys2 H2=>i+1<=xs.length/\∃ θ' h' acc,acc.length<=i+1/\Ev θ1 H1 θ' H2/\W G θ' h' H2/\aO G θ' H2 acc ys2/\aG G F θ' H2 ((dw n ρ g t m (xs.drop (i+1)) h').bind fun zs h2=>mk (acc++zs) h2) (KV G Q),fun ys' H' q=>⟨xs.length - (i+1),by omega,rfl,q⟩,fun x H2 y=>?_⟩
  obtain ⟨e2,w2,r2⟩:=g2 x H2 y
  have p2:=p.later e2
  unfold dw at p2
  simp only [R.bind_assoc] at p2
  refine ⟨θ',h',_,xs[i],w2,((fr.ev ev).ev e2).replicate n,r2,(aG.cN p2).mono fun ρ3 θ3 h3 H3 _ _ ⟨e3,w3,p3⟩ σ3 fr3=>⟨θ3,h3,ρ3,w3,fr3,(aG.cN p3).mono fun c θ4 h4 H4 _ _ ⟨e4,w4,p4⟩=>?_⟩⟩
  have ev4:=(ev.trans e2).trans (e3.trans e4)
  have ra4:=aO.ev (e2.trans (e3.trans e4)) ra
  cases c with
  | false=>exact ⟨hlt,θ4,h4,acc,by omega,ev4,w4,ra4,p4⟩
  | true=>
   simp only [Ot,R.bind_assoc] at p4
   refine ⟨θ4,h4,ρ3,w4,fr3.ev e4,(aG.cN p4).mono fun y θ5 h5 H5 _ _ ⟨e5,w5,p5⟩ v5 r5=>⟨hlt,θ5,h5,acc++[y],by simp;omega,ev4.trans e5,w5,?_,?_⟩⟩
   ·exact eI (aO.ev e5 ra4) (.cons r5 .nil)
   ·simp only [R.bind_assoc,R.ao] at p5
    simpa using p5
 ·have hx:i=xs.length:=by omega
  subst hx
  rw [OP (NI _)] at p
  simp only [dw,R.ao,RB] at p
  exact .inl ⟨j2,hly,hmk acc ys θ' h' H hacc w ra p⟩
variable {own:List Str} {scope:Scope} {elt:Expr} {ifs:List Expr}
@[irreducible] def EH (X:Cx) (E:XK) (t:MT) (es:List Expr):Prop:=Az X es (lT X.G E t)
theorem nO (X:Cx) (E:XK) (t:MT) (es:List Expr):EH X E t es=(Az X es (lT X.G E t)):=by
 unfold EH
 rfl
theorem gW:EH X E dG []:=by
 simp only [nO] at *
 exact fun pins s σ H Q I ⟨θ,h,ρ,w,fr,p⟩=>Ej pins s σ H Q I (p θ H Ev.refl w)
theorem gX (h:DT X E t e):EH X E t [e]:=by
 simp only [jL,nO] at *
 exact Ek h
theorem zu {G:Gx} {n:Nat} {mk:List D->Hm->R D} {σ:St} {H:Hp} {Q:VK} (h:lE G E (ai mk (jI n it g t m)) σ H Q)
  (hmk:∀ ys vs θ h H,ys.length<=sizeLine->W G θ h H->aO G θ H ys vs->aG G (nL G E) θ H (mk ys h) (KV G Q)->∀ p,H p=none->Q (.ref p) (upd H p (.lst vs))) :
  y7 n (lI G E it) (lG G cZ g) (lT G cZ t) (lE G cZ m) σ H Q:=by
 obtain ⟨θ,h,ρ,w,fr,p⟩:=h
 simp only [ai,jI,R.bind_assoc] at p
 refine ⟨θ,h,ρ,w,fr,(aG.bind p).mono fun xs θ1 h1 H1 _ _ ⟨ev,w1,p1⟩ J hJ=>?_⟩
 split at p1
 ·rename_i hz
  exact AN hJ w1 (fr.ev ev) p1 (fun ys vs θ h H hl=>hmk ys vs θ h H (NS hl (dQ hz))) (dQ hz)
 ·exact p1.elim
theorem lF {G:Gx} {F:XP} {Q:VK} (ys:List D) (vs:List V) (θ:List Addr) (h:Hm) (H:Hp) (w1:W G θ h H) (r1:aO G θ H ys vs) (p1:aG G F θ H (fP ys h) (KV G Q)) (q:Addr) (hq:H q=none):Q (.ref q) (upd H q (.lst vs)):=by
 unfold fP at p1
 cases e:gz ys with
 | none=>rw [e] at p1;exact p1.elim
 | some ds=>
  rw [e] at p1
  simp only at p1
  split at p1
  ·obtain ⟨e1,w2,g⟩:=w1.put (o:=.lst vs) hq
   obtain ⟨h1,h2⟩:=ke r1 e
   exact p1 _ _ e1 w2 _ ⟨⟨q,vs,rfl,g,h1.same e1.same⟩,by simp [cD,h2]⟩
  ·exact p1.elim
theorem gf (own:List Str) (CS:eE X.env.scope X.N own scope=true) (hc:X.calm=true) (hi:DI X E it tg e) (hg:∀ C s2 H2 fp pins,DG (aq X own scope C s2 H2 fp pins) cZ g tg)
  (ht:∀ C s2 H2 fp pins,EH (aq X own scope C s2 H2 fp pins) cZ t ifs) (he:∀ C s2 H2 fp pins,DE (aq X own scope C s2 H2 fp pins) cZ m elt) (hs:∀ x,foldedSetIterable e X.env x=pure x:=by intro _;rfl) :
  DE X E (cL own.length it g t m) (.ListComp elt [⟨tg,e,ifs,0⟩] scope pos):=by
 simp only [bw,kT,jt,nO] at *
 exact PE.imp (Em (g:=lG X.G cZ g) (tc:=lT X.G cZ t) (te:=lE X.G cZ m) own CS hc hi hg ht he hs) fun σ H Q q=>zu q fun ys vs θ h H _=>lF ys vs θ h H
theorem EI {G:Gx} {n:Nat} {mk:List D->Hm->R D} {C:Ends} {σ:St} {H:Hp} (h:lS G E (cn i (ai mk (jI n it g t m))) C σ H)
  (hmk:∀ Q ys vs θ h H,ys.length<=sizeLine->W G θ h H->aO G θ H ys vs->aG G (nL G E) θ H (mk ys h) (KV G Q)->∀ p,H p=none->Q (.ref p) (upd H p (.lst vs))) :
  Al (y7 n (lI G E it) (lG G cZ g) (lT G cZ t) (lE G cZ m)) (L2.ay i) C σ H:=by
 obtain ⟨θ,h,ρ,w,fr,p⟩:=h
 refine zu (Q:=fun x H1=>L2.ay i x σ H1 C.nx) ⟨θ,h,ρ,w,fr,(aG.bind p).mono fun d θ1 h1 H1 _ _ ⟨ev,w1,p1⟩ v r=>p1 θ1 H1 Ev.refl w1 _ ((fr.ev ev).set r)⟩ (hmk _)
theorem uF (own:List Str) {pos' spos:Pos} (hN:X.N.Nodup) (hxi:X.N[i]?=some x) (hx:X.env.scope.names.lookup x=some .local) (CS:eE X.env.scope X.N own scope=true) (hc:X.calm=true) (hi:DI X E it tg e) (hg:∀ C s2 H2 fp pins,DG (aq X own scope C s2 H2 fp pins) cZ g tg)
  (ht:∀ C s2 H2 fp pins,EH (aq X own scope C s2 H2 fp pins) cZ t ifs) (he:∀ C s2 H2 fp pins,DE (aq X own scope C s2 H2 fp pins) cZ m elt) (hs:∀ x,foldedSetIterable e X.env x=pure x:=by intro _;rfl)
  (hsw:swapsWith (.ListComp elt [⟨tg,e,ifs,0⟩] scope pos) (some (.Name x pos')) spos.line X.env=pure true:=by rfl):DS X E (cn i (cL own.length it g t m)) (.Assign [.Name x pos'] (.ListComp elt [⟨tg,e,ifs,0⟩] scope pos) spos):=by
 simp only [bw,jq,kT,jt,nO] at *
 exact PS.imp (En (g:=lG X.G cZ g) (tc:=lT X.G cZ t) (te:=lE X.G cZ m) own hN hxi hx CS hc hi hg ht he hs hsw) fun C σ H q=>EI q fun Q ys vs θ h H _=>lF ys vs θ h H
end
def DM (G:Gx) (F:Fn):Sp:=fun vs H Q E=>∃ θ h ds,W G θ h H/\aO G θ H ds vs/\aG G (nL G E) θ H (F ds h) (KV G Q)
def B2 (F:Fn) (n:Nat):Prop:=∀ ds h,ds.length≠n->F ds h=.bad
theorem EJ {G:Gx} {F:Fn} {n:Nat} (ar:B2 F n):∀ vs H Q E,DM G F vs H Q E->vs.length=n:=fun vs H Q E ⟨θ,h,ds,w,r,p⟩=>by
 by_cases e:ds.length=n
 ·rw [<- e];exact (Oc r).symm
 ·rw [ar ds h e] at p;exact p.elim
theorem sU {p n:Nat} {b:MS}:B2 (bI p n b) p:=fun ds h e=>by unfold bI;rw [if_neg e]
structure aL (P:Program) (w:World) (K:PySem.W.Frag) (mg:Str->Option Value) (base:Heap) (x:Str) (ps:List Str) (k:Nat) (F:Fn):Prop where
 has:B0 P w K mg base x ps k (DM ⟨P,w,mg,K⟩ F)
 ar:B2 F ps.length
section
variable {P:Program} {w:World} {K:PySem.W.Frag} {mg:Str->Option Value} {base:Heap} {x qual:Str} {st:Stmt} {f:Addr} {fd:FuncData} {N ps:List Str} {k:Nat} {b:MS} {F:Fn}
theorem Fr.start {G:Gx} {θ:List Addr} {H:Hp} {ds:List D} {vs:List V} {n:Nat} (r:aO G θ H ds vs) (hl:ds.length=ps.length):Fr G θ H (ds.map some++List.replicate (N.length - ps.length) none) (start N vs):=by
 have hv:ds.length=vs.length:=Oc r
 unfold L2.start
 rw [<- hv,hl]
 refine ⟨by simp [<- hv,hl],fun i d e=>?_⟩
 by_cases hi:i < ds.length
 ·rw [Oh (by simpa using hi)] at e
  rw [Oh (by simpa [<- hv] using hi)]
  simp only [OM] at e ⊢
  cases e1:ds[i]? with
  | none=>rw [e1] at e;cases e
  | some d'=>
   rw [e1] at e
   simp at e
   subst e
   obtain ⟨v,e2,rv⟩:=r.some e1
   exact ⟨v,by rw [e2];rfl,rv⟩
 ·rw [Oo (by simpa using hi),Qc] at e
  split at e<;>cases e
theorem MR (Fu:F3 K x qual st f fd) (S:aU N ps (aD st)) (hbody:∀ (cdv:Value) (A:Around) (outer:List Env) (s:Shared) (H:Hp) (E:XK),cz k (A.deeper (PyProof.Rows.envOfC qual (aD st) s.heap.objs.size f cdv)) ->
   BY (rL (rT P w) P w K mg base N qual (aD st) f cdv A outer s H E) E b (eW st)):iy P w K mg base (rT P w) (k+1) f fd ps (DM ⟨P,w,mg,K⟩ (bI ps.length N.length b)):=by
 simp only [nM] at *
 refine Fu.Nq S (EJ sU) fun cdv A outer s H vs Q E hr ⟨θ,h,ds,w,r,p⟩=>⟨_,hbody cdv A outer s H E hr,?_⟩
 unfold bI at p
 split at p
 ·rename_i hl
  refine ⟨θ,h,_,w,Fr.start (N:=N) (n:=0) r hl,(aG.bind p).mono fun fl θ1 h1 H1 _ _ ⟨ev,w1,p1⟩=>?_⟩
  cases fl with
  | nx ρ=>exact fun σ fr=>p1 θ1 H1 Ev.refl w1 _ ⟨rfl,by simp [cD]⟩
  | rt d=>exact p1 θ1 H1 Ev.refl w1
  | bk ρ=>exact p1.elim
  | ct ρ=>exact p1.elim
 ·exact p.elim
theorem aL.mono {j:Nat} (h:aL P w K mg base x ps j F) (l:j<=k):aL P w K mg base x ps k F:=by
 obtain ⟨⟨f,fd,h1,h2,h3,h4⟩,ar⟩:=h
 exact ⟨⟨f,fd,h1,h2,h3,h4.mono l⟩,ar⟩
theorem aL.eq {F':Fn} (h:aL P w K mg base x ps k F) (e:F=F'):aL P w K mg base x ps k F':=e▸h
end
section
variable {X:Cx} {E:XK} {x:Str} {ps:List Str} {k:Nat} {F:Fn} {e:Expr} {es:List Expr} {ma:MA} {p pos:Pos}
theorem cE:Passes (rT X.prog X.w) X cZ:=fun _ _ _ _ _ _ _ ⟨_,_,_,_,_,_,_,_,_,_,_,_,_,h⟩=>h.elim
theorem bz (F':aL X.prog X.w X.K X.mg X.base x ps k F) (hx:Passes (rT X.prog X.w) X E) (hr:cz k X.A) (hg:Gl X x) (ha:DA X E ma (e::es)) (hdb:(x == ("__debug__" : Str))=false:=by decide) (he:starEach (e::es) X.env=(false,eval e X.env)::starEach es X.env:=by rfl)
  (hpl:(backTo pos (starEach es X.env)).any (·.1)=false:=by rfl):DE X E (ai F ma) (.Call (.Name x p) (e::es) [] pos):=by
 simp only [bw,jM] at *
 exact PE.imp (HP F'.has hx hr hg ha hdb he hpl) fun σ H Q ⟨θ,h,ρ,w,fr,p⟩=>⟨θ,h,ρ,w,fr,(aG.bind p).mono fun xs θ1 h1 H1 _ _ ⟨ev,w1,p1⟩ vs r=>⟨θ1,h1,xs,w1,by simpa using r,p1⟩⟩
theorem HQ (F':aL X.prog X.w X.K X.mg X.base x [] k F) (hx:Passes (rT X.prog X.w) X E) (hr:cz k X.A) (hg:Gl X x) (hdb:(x == ("__debug__" : Str))=false:=by decide):DE X E (ai F ak) (.Call (.Name x p) [] [] pos):=by
 simp only [bw] at *
 obtain ⟨f,fd,h1,h2,h3,h4⟩:=F'.has.ex
 exact PE.imp (Bt h4 hr hg h1 h2 h3 .nil hx hdb) fun σ H Q ⟨θ,h,ρ,w,fr,p⟩=>⟨θ,h,[],w,.nil,p⟩
end
theorem AO {h:Heap} {x:PyData} {u:Value} (hx:(match x with | .int _ | .str _ | .bool _ | .none=>true | _=>false)=true) (r:RelV (Gd x) u):Reads h u x []:=by
 cases x with
 | none=>cases r;exact .none
 | bool b=>cases r;exact .bool b
 | int i=>obtain ⟨t,rfl⟩:=r;exact .int i t
 | str s=>obtain ⟨t,rfl⟩:=r;exact .str s t
 | _=>cases hx
theorem iW {h:Heap}:∀ {xs:List PyData} {us:List Value},(∀ x∈xs,(match x with | .int _ | .str _ | .bool _ | .none=>true | _=>false)=true)->Vals (xs.map Gd) us->ReadsAll h us xs []
 | [],us,_,r=>by cases r;exact .nil
 | x::xs,us,hx,r=>by
  cases r with
  | cons r1 r2=>exact .cons (as:=[]) (bs:=[]) (AO (hx x (by simp)) r1) (iW (fun y m=>hx y (by simp [m])) r2)
section
variable {X:Cx} {pins:List (Addr×Obj)} {σ:L2.St} {H:Hp} {s:Shared} {θ:List Addr} {hm:Hm}
theorem fN (I:Inv X pins σ H s) (w:W X.G θ hm H):∀ (n:Nat) {x:D} {v:V} {u:Value} {d:PyData},bN X.G θ H x v->RelV v u->x5 hm n x=some d->(∃ as,Reads s.heap u d as)/\cD d=true:=by
 intro n
 induction n with
 | zero=>
  intro x v u d r rv e
  cases x with
  | dat d'=>simp only [x5] at e;cases e;exact ⟨Rep.reads I (r.1.same (aA _ _)) rv,r.2⟩
  | ktup xs=>
   simp only [x5] at e
   cases e
   obtain ⟨a,rfl,⟨o,its,k,hl,hc,hd,_,vs⟩,hx,hs⟩:=r
   cases rv
   exact ⟨⟨_,.tuple (I.rH _ _ hl) hc hd (iW hx vs)⟩,by simpa [cD] using hs⟩
  | _=>simp [x5] at e
 | succ n ih=>
  intro x v u d r rv e
  cases x with
  | dat d'=>simp only [x5] at e;cases e;exact ⟨Rep.reads I (r.1.same (aA _ _)) rv,r.2⟩
  | ktup xs=>
   simp only [x5] at e
   cases e
   obtain ⟨a,rfl,⟨o,its,k,hl,hc,hd,_,vs⟩,hx,hs⟩:=r
   cases rv
   exact ⟨⟨_,.tuple (I.rH _ _ hl) hc hd (iW hx vs)⟩,by simpa [cD] using hs⟩
  | ref i=>
   simp only [x5] at e
   obtain ⟨a,ha,rfl⟩:=r
   cases rv
   cases e1:hm[i]? with
   | none=>rw [e1] at e;cases e
   | some o=>
    rw [e1] at e
    cases o with
    | lst xs=>
     simp only at e
     obtain ⟨vs,hv,rs⟩:=w.obj i a _ ha e1
     obtain ⟨_,its,k,rvs,ho⟩:=I.hok a _ hv
     have all:∀ {xs:List D} {vs:List V} {us:List Value} {ds:List PyData},aO X.G θ H xs vs->Vals vs us->jD (x5 hm n) xs=some ds->(∃ as,ReadsAll s.heap us ds as)/\cf ds=true:=by
      intro xs
      induction xs with
      | nil=>
       intro vs us ds r1 r2 e
       cases r1
       cases r2
       cases e
       exact ⟨⟨_,.nil⟩,by simp [cf]⟩
      | cons x xs ihx=>
       intro vs us ds r1 r2 e
       cases r1 with
       | cons p1 p2=>
        cases r2 with
        | cons q1 q2=>
         unfold jD at e
         cases e2:x5 hm n x with
         | none=>rw [e2] at e;cases e
         | some d=>
          cases e3:jD (x5 hm n) xs with
          | none=>rw [e2,e3] at e;cases e
          | some ds'=>
           rw [e2,e3] at e
           cases e
           obtain ⟨⟨as,z1⟩,s1⟩:=ih p1 q1 e2
           obtain ⟨⟨bs,z2⟩,s2⟩:=ihx p2 q2 e3
           exact ⟨⟨_,.cons z1 z2⟩,by simp [cf,s1,s2]⟩
     cases e2:jD (x5 hm n) xs with
     | none=>rw [e2] at e;cases e
     | some ds=>
      rw [e2] at e
      cases e
      obtain ⟨⟨as,z⟩,s1⟩:=all rs rvs e2
      exact ⟨⟨_,.list ho rfl rfl (by simpa using z)⟩,by simpa [cD] using s1⟩
    | _=>cases e
  | _=>simp [x5] at e
end
end Ml
namespace PySem.SeqAt
open PySem PySem.MeetsSeq PySem.AutoSeq1
theorem qj (t:Addr) (its:Array Value) (m:Nat) (d2:Option Addr) (sl2:Array (Option Value)) (l:Addr) (es:Array DictEntry) (n:Nat) (dd:Option Addr) (sl:Array (Option Value)) :
  Meets (Builtin.«tuple.__eq__» ⟨[.ref t,.ref l],[]⟩) (fun _ R s=>s.heap.get? t=some {cls:=.type "tuple",dict:=d2,data:=.seq its m,slots:=sl2}/\s.heap.get? l=some {cls:=.type "dict",dict:=dd,data:=.dict es n,slots:=sl}/\R (.ok (.ret .notImplemented)) s):=
 .of_wp fun prog w A R s h=>by
  obtain ⟨hp,g,d,tk,os⟩:=s
  obtain ⟨ht,hl,h⟩:=h
  have f1:=F.sub_dict_tuple
  wp_walk using wpAny_loadPart' hl,Q1 hl,wpAny_loadPart' ht,Q1 ht
  exact ⟨_,rfl,h⟩
theorem qk (t:Addr) (its:Array Value) (m:Nat) (d2:Option Addr) (sl2:Array (Option Value)) (l:Addr) (es:Array DictEntry) (n:Nat) (dd:Option Addr) (sl:Array (Option Value)) :
  Meets (Builtin.«dict.__eq__» ⟨[.ref l,.ref t],[]⟩) (fun _ R s=>s.heap.get? t=some {cls:=.type "tuple",dict:=d2,data:=.seq its m,slots:=sl2}/\s.heap.get? l=some {cls:=.type "dict",dict:=dd,data:=.dict es n,slots:=sl}/\R (.ok (.ret .notImplemented)) s):=
 .of_wp fun prog w A R s h=>by
  obtain ⟨hp,g,d,tk,os⟩:=s
  obtain ⟨ht,hl,h⟩:=h
  have f1:=F.sub_tuple_dict
  wp_walk using wpAny_loadPart' hl,Q1 hl,wpAny_loadPart' ht,Q1 ht
  exact ⟨_,rfl,h⟩
theorem ql {t:Addr} {h:Heap} {its:Array Value} {m:Nat} {d2:Option Addr} {sl2:Array (Option Value)} {l:Addr} {es:Array DictEntry} {n:Nat} {dd:Option Addr} {sl:Array (Option Value)} (ht:h.get? t=some {cls:=.type "tuple",dict:=d2,data:=.seq its m,slots:=sl2})
  (hl:h.get? l=some {cls:=.type "dict",dict:=dd,data:=.dict es n,slots:=sl}):t≠l:=fun e=>by
 subst e
 rw [ht] at hl
 have:=PH Obj.cls (OI hl)
 exact absurd (show Value.type "tuple" = Value.type "dict" from this) (by decide)
theorem RcAt.uG {A:Around} {s:Shared} {t:Addr} {its:Array Value} {m:Nat} {d2:Option Addr} {sl2:Array (Option Value)} {l:Addr} {es:Array DictEntry} {n:Nat} {dd:Option Addr} {sl:Array (Option Value)} (ht:s.heap.get? t=some {cls:=.type "tuple",dict:=d2,data:=.seq its m,slots:=sl2})
  (hl:s.heap.get? l=some {cls:=.type "dict",dict:=dd,data:=.dict es n,slots:=sl}) (hu:A.units < cLine):RcAt A s (.ref t) (.ref l) false:=fun prog w E Q h=>
 have ne:t≠l:=ql ht hl
 rc_eq_decline_or (k:=false) ⟨_,ht,rfl⟩ ⟨_,hl,rfl⟩ (by decide) F.sub_dict_tuple F.slot_tuple_eq QK
  (fun _ hq=>QN F.slot_tuple_eq ⟨_,ht,rfl⟩ F.entry_tuple_eq (F.args_tuple_eq_2 _ _) (qj t its m d2 sl2 l es n dd sl) ⟨ht,hl,hq⟩)
  (fun _ hq=>QN QK ⟨_,hl,rfl⟩ F.entry_dict_eq (F.args_dict_eq_2 _ _) (qk t its m d2 sl2 l es n dd sl) ⟨ht,hl,hq⟩)
  (fun _ hq=>wpAny_isSame_ref_other' ne ht hl (show Value.type "dict" ≠ Value.type "tuple" by decide) hq) (.inr hu) h
theorem EqAt.uG {A:Around} {s:Shared} {t:Addr} {its:Array Value} {m:Nat} {d2:Option Addr} {sl2:Array (Option Value)} {l:Addr} {es:Array DictEntry} {n:Nat} {dd:Option Addr} {sl:Array (Option Value)} (ht:s.heap.get? t=some {cls:=.type "tuple",dict:=d2,data:=.seq its m,slots:=sl2})
  (hl:s.heap.get? l=some {cls:=.type "dict",dict:=dd,data:=.dict es n,slots:=sl}) (hu:A.units < cLine):EqAt A s (.ref t) (.ref l) false:=
 .of_refs (ql ht hl) (.uG ht hl hu)
end PySem.SeqAt
namespace Ml
open PySem PySem.Spec L2
theorem ye {d e:PyData} {k:Bool} (sa:cD d=true) (sb:cD e=true) (h:eqQ d e=some k):d.canLay0=true/\e.canLay0=true/\min d.depth e.depth<=40/\k=PyData.eqv d e:=by
 unfold eqQ at h
 split at h
 ·rename_i hn
  simp only [NG,noDict,RO,N7] at hn
  cases h
  exact ⟨ib sa hn.1.1,ib sb hn.1.2,hn.2,rfl⟩
 ·cases h
theorem HR {A:Around} {s:Shared} {a b:Value} {d e:PyData} {as bs:List Addr} {k:Bool} (ra:Reads s.heap a d as) (rb:Reads s.heap b e bs) (sa:cD d=true) (sb:cD e=true) (hu:A.units+41 < cLine) (h:AI d e=some k):SeqAt.EqAt A s a b k/\d.canLay0=true:=by
 unfold AI at h
 split at h
 ·cases h
  cases ra
  cases rb with
  | @dict a' o' es n kvs as1 bs1 h1 h2 h3 h4 h5=>
   obtain ⟨oc,od,dat,osl⟩:=o'
   cases h2
   cases h3
   exact ⟨SeqAt.EqAt.EB _ _ h1 (by omega),by simpa [PyData.canLay0,cD] using sa⟩
 ·split at h
  ·rename_i hn
   simp only [noDict,RO] at hn
   cases h
   have hl:=ib sa hn
   cases ra with
   | @tuple l o vs m xs as1 g1 g2 g3 g4=>
    obtain ⟨oc2,od2,dat2,osl2⟩:=o
    cases g2
    cases g3
    cases rb with
    | @dict a' o' es n kvs as1 bs1 h1 h2 h3 h4 h5=>
     obtain ⟨oc,od,dat,osl⟩:=o'
     cases h2
     cases h3
     exact ⟨SeqAt.EqAt.uG g1 h1 (by omega),hl⟩
  ·cases h
 ·obtain ⟨l1,l2,l3,rfl⟩:=ye sa sb h
  exact ⟨Rr _ _ A s a b as bs ra rb l1 l2 (by omega),l1⟩
theorem aG.kg {G:Gx} {E:XP} {θ:List Addr} {H:Hp} {h:Hm} {d:D} {Q:VK} (p:aG G E θ H (.ok d h) (KV G Q)) (w:W G θ h H) {v:V} (r:bN G θ H d v):Q v H:=p θ H Ev.refl w v r
theorem cq {G:Gx} {θ:List Addr} {H:Hp} (b:Bool):bN G θ H (.bool b) (.bl b):=⟨rfl,by simp [cD]⟩
theorem cv {G:Gx} {θ:List Addr} {H:Hp} (i:Int):bN G θ H (.int i) (.int i):=⟨rfl,by simp [cD]⟩
theorem AQ {G:Gx} {θ:List Addr} {H:Hp}:bN G θ H D.none .non:=⟨rfl,by simp [cD]⟩
section
variable {X:Cx} {E:XK} {k:Nat}
theorem uH (hr:cz k X.A):mJ X E (compareOp .Eq) oEq:=by
 intro pins s σ H x y v u Q I rx ry ⟨θ,h,d1,d2,w,r1,r2,p⟩
 unfold oEq at p
 split at p
 ·exact Jp pins s σ H x y v u Q I rx ry (by cases r1;cases r2;exact ⟨rfl,by simpa using p.kg w (cq _)⟩)
 ·cases e1:vB h d1 with
  | none=>rw [e1] at p;exact p.elim
  | some d=>
   cases e2:vB h d2 with
   | none=>rw [e1,e2] at p;exact p.elim
   | some e=>
    rw [e1,e2] at p
    simp only at p
    cases e3:eqQ d e with
    | none=>rw [e3] at p;exact p.elim
    | some b=>
     rw [e3] at p
     obtain ⟨⟨as,z1⟩,s1⟩:=fN I w 3 r1 rx e1
     obtain ⟨⟨bs,z2⟩,s2⟩:=fN I w 3 r2 ry e2
     obtain ⟨l1,l2,l3,rfl⟩:=ye s1 s2 e3
     exact SeqAt.compareEq_reads z1 z2 l1 l2 (by have:=hr.units;omega) ⟨.bl _,H,I,rfl,p.kg w (cq _)⟩
theorem B3 (hr:cz k X.A):mJ X E (compareOp .NotEq) x6:=by
 intro pins s σ H x y v u Q I rx ry ⟨θ,h,d1,d2,w,r1,r2,p⟩
 unfold x6 at p
 split at p
 ·exact Jq pins s σ H x y v u Q I rx ry (by cases r1;cases r2;exact ⟨rfl,by simpa using p.kg w (cq _)⟩)
 ·cases e1:vB h d1 with
  | none=>rw [e1] at p;exact p.elim
  | some d=>
   cases e2:vB h d2 with
   | none=>rw [e1,e2] at p;exact p.elim
   | some e=>
    rw [e1,e2] at p
    simp only at p
    cases e3:eqQ d e with
    | none=>rw [e3] at p;exact p.elim
    | some b=>
     rw [e3] at p
     obtain ⟨⟨as,z1⟩,s1⟩:=fN I w 3 r1 rx e1
     obtain ⟨⟨bs,z2⟩,s2⟩:=fN I w 3 r2 ry e2
     obtain ⟨l1,l2,l3,rfl⟩:=ye s1 s2 e3
     exact SeqAt.compareNe_reads z1 z2 l1 l2 (by have:=hr.units;omega) ⟨.bl _,H,I,rfl,p.kg w (cq _)⟩
theorem uI {A:Around} {s:Shared} {x:Value} {d:PyData} {bs:List Addr} (rx:Reads s.heap x d bs) (sx:cD d=true) (hu:A.units+41 < cLine):∀ {vs:List Value} {ds:List PyData} {as:List Addr} {b:Bool},ReadsAll s.heap vs ds as->cf ds=true->Be d ds=some b ->
  (∀ y∈vs,SeqAt.EqAt A s y x ((AI (SeqAt.readOf s.heap y) d).getD false))/\(vs.any fun y=>(AI (SeqAt.readOf s.heap y) d).getD false)=b
 | [],_,_,b,.nil,_,e=>by cases e;exact ⟨fun y m=>by simp at m,rfl⟩
 | v::vs,_,_,b,.cons (d:=d1) (ds:=ds) r1 r2,so,e=>by
  simp only [cf,NG] at so
  unfold Be at e
  cases e1:AI d1 d with
  | none=>rw [e1] at e;cases e
  | some b1=>
   cases e2:Be d ds with
   | none=>rw [e1,e2] at e;cases e
   | some b2=>
    rw [e1,e2] at e
    cases e
    obtain ⟨h1,h2⟩:=uI rx sx hu r2 so.2 e2
    obtain ⟨q1,q2⟩:=HR r1 rx so.1 sx hu e1
    have er:SeqAt.readOf s.heap v=d1:=SeqAt.readOf_eq q2 r1
    refine ⟨fun y m=>?_,?_⟩
    ·rcases NJ.mp m with z | z
     ·subst z;rw [er,e1];exact q1
     ·exact h1 y z
    ·rw [Qu,h2,er,e1];rfl
theorem B4 (hr:cz k X.A) {pins:List (Addr×Obj)} {s:Shared} {σ:L2.St} {H:Hp} {v u:Value} {Q:VK} {d:PyData} {ds:List PyData} {as bs:List Addr} {b:Bool} {sq:PyData} (hsq:sq=.tuple ds\/sq=.list ds) (I:Inv X pins σ H s) (z1:Reads s.heap v d as) (z2:Reads s.heap u sq bs) (s1:cD d=true) (s2:cf ds=true) (e:Be d ds=some b) :
  (Q (.bl b) H->wpAny (model X.prog X.w) X.A (compareOp .In v u) (EP X pins σ Q) X.xe s)/\(Q (.bl !b) H->wpAny (model X.prog X.w) X.A (compareOp .NotIn v u) (EP X pins σ Q) X.xe s):=by
 have hu:X.A.in1.units+41 < cLine:=by have:=hr.units;show X.A.units+1+41 < cLine;omega
 rcases hsq with rfl | rfl
 ·cases z2 with
  | tuple h1 h2 h3 h4=>
   obtain ⟨q1,q2⟩:=uI (A:=X.A.in1) z1 s1 hu h4 s2 e
   rename_i vs n
   have q3:(vs.any fun y=>(AI (SeqAt.readOf s.heap y) d).getD false)=b:=by rw [<- q2,<- Array.any_toList]
   exact ⟨fun q=>SeqAt.in_tupleAt _ ⟨_,h1,h2,_,h3⟩ (fun y m=>q1 y (PX.mpr m)) (by rw [q3];exact ⟨.bl b,H,I,rfl,q⟩),fun q=>SeqAt.notIn_tupleAt _ ⟨_,h1,h2,_,h3⟩ (fun y m=>q1 y (PX.mpr m)) (by rw [q3];exact ⟨.bl (!b),H,I,rfl,q⟩)⟩
 ·cases z2 with
  | list h1 h2 h3 h4=>
   obtain ⟨q1,q2⟩:=uI (A:=X.A.in1) z1 s1 hu h4 s2 e
   rename_i vs n _
   have q3:(vs.any fun y=>(AI (SeqAt.readOf s.heap y) d).getD false)=b:=by rw [<- q2,<- Array.any_toList]
   exact ⟨fun q=>SeqAt.in_listAt _ ⟨_,h1,h2,_,h3⟩ (fun y m=>q1 y (PX.mpr m)) (by rw [q3];exact ⟨.bl b,H,I,rfl,q⟩),fun q=>SeqAt.notIn_listAt _ ⟨_,h1,h2,_,h3⟩ (fun y m=>q1 y (PX.mpr m)) (by rw [q3];exact ⟨.bl (!b),H,I,rfl,q⟩)⟩
end
end Ml
namespace PySem.SeqAt
open PySem.AutoSeq1 (wpAny_loadPart')
open PySem.MeetsSeq PySem.MeetsSeq2 PySem.MeetsSeq3
def B5 (A:Around) (s:Shared) (y x:Value) (b:Bool):Prop:=
 ∀ (prog:Program) (w:World) (E:Value->Shared->Prop) (Q:Value->Shared->Prop),Q (.bool b) s->wpAny (model prog w) A (richCompare .Lt y x) Q E s
inductive kU (A:Around) (s:Shared):List Value->List Value->Bool->Prop
 | nil:kU A s [] [] false
 | left {w ws}:kU A s [] (w::ws) true
 | right {v vs}:kU A s (v::vs) [] false
 | eq {v vs w ws k}:EqAt A s v w true->kU A s vs ws k->kU A s (v::vs) (w::ws) k
 | ne {v vs w ws k}:EqAt A s v w false->B5 A s v w k->kU A s (v::vs) (w::ws) k
theorem mM (l b:Addr) (its1 its2:Array Value) (n n2:Nat) (dd dd2:Option Addr) (sl sl2:Array (Option Value)) (k:Bool) :
  Meets (Builtin.«tuple.__lt__» ⟨[.ref l,.ref b],[]⟩) (fun A R s=>s.heap.get? l=some {cls:=.type "tuple",dict:=dd,data:=.seq its1 n,slots:=sl}/\s.heap.get? b=some {cls:=.type "tuple",dict:=dd2,data:=.seq its2 n2,slots:=sl2}/\kU A.in1 s its1.toList its2.toList k/\R (.ok (.ret (.bool k))) s):=
 .of_wp fun prog w A R s h=>by
  obtain ⟨hp,g,d,tk,os⟩:=s
  obtain ⟨hl,hb,hx,h⟩:=h
  have f2:=AutoSeq1.sub_tuple_tuple
  wp_walk using wpAny_loadPart' hl,wpAny_loadPart' hb,wpAny_forIn_list _ (fun rest b s'=>b.1=none/\s'=⟨hp,g,d,tk,os⟩/\∃ (vs ws:List Value),rest=vs.zip ws/\kU A.in1 ⟨hp,g,d,tk,os⟩ vs ws k/\vs.length+its2.size=ws.length+its1.size/\R (.ok (.ret (.bool k))) ⟨hp,g,d,tk,os⟩) _
  case turn=>
   rintro ⟨y,x⟩ rest b s' ⟨hb',rfl,vs,ws,hz,hx,hlen,hR⟩
   cases hx with
   | nil=>rw [List.zip_nil_left] at hz;cases hz
   | left=>rw [List.zip_nil_left] at hz;cases hz
   | right=>rw [List.zip_nil_right] at hz;cases hz
   | @eq v vs w' ws k he hx'=>
    rw [Ph] at hz
    injection hz with hyx hrest
    injection hyx with hy hx
    subst hy hx
    simp only [N3] at hlen
    refine NC (he prog w _ _ ?_)
    wp_walk
    exact ⟨rfl,rfl,_,_,hrest,hx',by omega,hR⟩
   | @ne v vs w' ws k he hlt=>
    rw [Ph] at hz
    injection hz with hyx hrest
    injection hyx with hy hx
    subst hy hx
    refine NC (he prog w _ _ ?_)
    have hri:=hlt prog w
    wp_walk using hri
    exact ⟨_,rfl,by simpa using hR⟩
  case fin=>
   rintro ⟨b1,b2⟩ s' ⟨hb',rfl,vs,ws,hz,hx,hlen,hR⟩
   simp only at hb'
   subst hb'
   have hv:k=decide (its1.size < its2.size):=by
    cases hx with
    | nil=>simp only [OB] at hlen;exact (NW (by omega)).symm
    | left=>simp only [OB,N3] at hlen;exact (NV (by omega)).symm
    | right=>simp only [OB,N3] at hlen;exact (NW (by omega)).symm
    | eq=>rw [Ph] at hz;cases hz
    | ne=>rw [Ph] at hz;cases hz
   rw [hv] at hR
   wp_walk
   exact ⟨_,rfl,by simpa [Builtin.Tuple.tupleCompareSizes] using hR⟩
  case h=>exact ⟨rfl,rfl,its1.toList,its2.toList,rfl,hx,by simp;omega,h⟩
theorem B5.tuples {A:Around} {s:Shared} {l b:Addr} {its1 its2:Array Value} {k:Bool} (h1:s.heap.IsTuple l its1) (h2:s.heap.IsTuple b its2) (hu:A.units < cLine) (hx:kU A.in1 s its1.toList its2.toList k):B5 A s (.ref l) (.ref b) k:=fun prog w E Q h=>by
 obtain ⟨⟨c1,d1,e1,l1⟩,p1,g1,n1,z1⟩:=h1
 obtain ⟨⟨c2,d2,e2,l2⟩,p2,g2,n2,z2⟩:=h2
 simp only at g1 z1 g2 z2
 subst g1 z1 g2 z2
 exact richCompare_meets_room (op:=.Lt) ⟨_,p1,rfl⟩ ⟨_,p2,rfl⟩ Rj PySem.F.entry_tuple_lt (PySem.F.args_tuple_lt_2 _ _) (mM l b _ _ n1 n2 d1 d2 l1 l2 k)
  ⟨p1,p2,hx,show Value.bool k≠Value.notImplemented/\Q (.bool k) s from ⟨(fun x=>nomatch x),h⟩⟩ hu
end PySem.SeqAt
namespace Ml
open PySem PySem.Spec L2
open PySem.SeqAt
mutual
theorem mN:∀ (d e:PyData) (A:Around) (s:Shared) (a b:Value) (as bs:List Addr) (k:Bool),Reads s.heap a d as->Reads s.heap b e bs->d.canLay0=true->e.canLay0=true->A.units+min d.depth e.depth < cLine->bJ d e=some k->B5 A s a b k
 | .int i,.int j,A,s,a,b,as,bs,k,ra,rb,_,_,_,h=>by
  cases ra
  cases rb
  simp only [bJ] at h
  cases h
  exact fun prog w E Q q=>(PyProof.Rows.lt_int q:wpAny (model prog w) A (compareOp .Lt _ _) Q E s)
 | .str x,.str y,A,s,a,b,as,bs,k,ra,rb,_,_,_,h=>by
  cases ra
  cases rb
  simp only [bJ,ly] at h
  cases h
  exact fun prog w E Q q=>(PySem.P.lt_str q:wpAny (model prog w) A (compareOp .Lt _ _) Q E s)
 | .tuple xs,.tuple ys,A,s,a,b,as,bs,k,ra,rb,ha,hb,hu,h=>by
  cases ra with
  | tuple g1 g2 g3 g4=>
   cases rb with
   | tuple k1 k2 k3 k4=>
    simp only [bJ] at h
    simp only [PyData.canLay0] at ha hb
    simp only [PyData.depth] at hu
    exact B5.tuples ⟨_,g1,g2,_,g3⟩ ⟨_,k1,k2,_,k3⟩ (by omega) (nP xs ys A.in1 s _ _ _ _ k g4 k4 ha hb (by show A.units+1+_ < _;omega) h)
 | .none,_,_,_,_,_,_,_,_,_,_,_,_,_,h=>by simp [bJ] at h
 | .bool _,_,_,_,_,_,_,_,_,_,_,_,_,_,h=>by simp [bJ] at h
 | .list _,_,_,_,_,_,_,_,_,_,_,_,_,_,h=>by simp [bJ] at h
 | .dict _,_,_,_,_,_,_,_,_,_,_,_,_,_,h=>by simp [bJ] at h
 | .int _,.none,_,_,_,_,_,_,_,_,_,_,_,_,h=>by simp [bJ] at h
 | .int _,.bool _,_,_,_,_,_,_,_,_,_,_,_,_,h=>by simp [bJ] at h
 | .int _,.str _,_,_,_,_,_,_,_,_,_,_,_,_,h=>by simp [bJ] at h
 | .int _,.list _,_,_,_,_,_,_,_,_,_,_,_,_,h=>by simp [bJ] at h
 | .int _,.tuple _,_,_,_,_,_,_,_,_,_,_,_,_,h=>by simp [bJ] at h
 | .int _,.dict _,_,_,_,_,_,_,_,_,_,_,_,_,h=>by simp [bJ] at h
 | .str _,.none,_,_,_,_,_,_,_,_,_,_,_,_,h=>by simp [bJ] at h
 | .str _,.bool _,_,_,_,_,_,_,_,_,_,_,_,_,h=>by simp [bJ] at h
 | .str _,.int _,_,_,_,_,_,_,_,_,_,_,_,_,h=>by simp [bJ] at h
 | .str _,.list _,_,_,_,_,_,_,_,_,_,_,_,_,h=>by simp [bJ] at h
 | .str _,.tuple _,_,_,_,_,_,_,_,_,_,_,_,_,h=>by simp [bJ] at h
 | .str _,.dict _,_,_,_,_,_,_,_,_,_,_,_,_,h=>by simp [bJ] at h
 | .tuple _,.none,_,_,_,_,_,_,_,_,_,_,_,_,h=>by simp [bJ] at h
 | .tuple _,.bool _,_,_,_,_,_,_,_,_,_,_,_,_,h=>by simp [bJ] at h
 | .tuple _,.int _,_,_,_,_,_,_,_,_,_,_,_,_,h=>by simp [bJ] at h
 | .tuple _,.str _,_,_,_,_,_,_,_,_,_,_,_,_,h=>by simp [bJ] at h
 | .tuple _,.list _,_,_,_,_,_,_,_,_,_,_,_,_,h=>by simp [bJ] at h
 | .tuple _,.dict _,_,_,_,_,_,_,_,_,_,_,_,_,h=>by simp [bJ] at h
theorem nP:∀ (xs ys:List PyData) (A:Around) (s:Shared) (vs ws:List Value) (as bs:List Addr) (k:Bool),ReadsAll s.heap vs xs as->ReadsAll s.heap ws ys bs->PyData.canLayAll0 xs=true->PyData.canLayAll0 ys=true->A.units+min (PyData.depthAll xs) (PyData.depthAll ys) < cLine->cF xs ys=some k->kU A s vs ws k
 | [],[],A,s,vs,ws,as,bs,k,ra,rb,_,_,_,h=>by cases ra;cases rb;simp only [cF] at h;cases h;exact .nil
 | [],_::_,A,s,vs,ws,as,bs,k,ra,rb,_,_,_,h=>by cases ra;cases rb;simp only [cF] at h;cases h;exact .left
 | _::_,[],A,s,vs,ws,as,bs,k,ra,rb,_,_,_,h=>by cases ra;cases rb;simp only [cF] at h;cases h;exact .right
 | x::xs,y::ys,A,s,vs,ws,as,bs,k,ra,rb,ha,hb,hu,h=>by
  cases ra with
  | cons r1 r2=>
   cases rb with
   | cons q1 q2=>
    simp only [PyData.canLayAll0,NG] at ha hb
    simp only [PyData.depthAll] at hu
    have he:=eqAt_reads x y A s _ _ _ _ r1 q1 ha.1 hb.1 (by omega)
    simp only [cF] at h
    cases hq:PyData.eqv x y with
    | true=>
     rw [hq] at he h
     exact .eq he (nP xs ys A s _ _ _ _ k r2 q2 ha.2 hb.2 (by omega) (by simpa using h))
    | false=>
     rw [hq] at he h
     exact .ne he (mN x y A s _ _ _ _ k r1 q1 ha.1 hb.1 (by omega) (by simpa using h))
end
section
variable {X:Cx} {E:XK} {k:Nat}
theorem HS (hr:cz k X.A):mJ X E (compareOp .Lt) oLt:=by
 intro pins s σ H x y v u Q I rx ry ⟨θ,h,d1,d2,w,r1,r2,p⟩
 unfold oLt at p
 cases d1 with
 | dat d=>
  cases d2 with
  | dat e=>
   simp only at p
   split at p
   ·rename_i hn
    simp only [NG,noDict,RO,N7] at hn
    cases e3:bJ d e with
    | none=>rw [e3] at p;exact p.elim
    | some b=>
     rw [e3] at p
     obtain ⟨⟨as,z1⟩,s1⟩:=fN I w 3 r1 rx (mq h 3 d)
     obtain ⟨⟨bs,z2⟩,s2⟩:=fN I w 3 r2 ry (mq h 3 e)
     exact mN d e X.A s v u as bs b z1 z2 (ib s1 hn.1.1) (ib s2 hn.1.2) (by have:=hr.units;omega) e3 X.prog X.w X.xe _ ⟨.bl b,H,I,rfl,p.kg w (cq b)⟩
   ·exact p.elim
  | _=>exact p.elim
 | _=>exact p.elim
theorem Ge {op:Value->Value->Sem Value} {f:D->D->Hm->R D} {C:Int->Int->Prop} {g:Int->Int->V} (h:gM X op (rI C g)) (k:∀ θ hm H d1 d2 Q,W X.G θ hm H->aG X.G (nL X.G E) θ H (f d1 d2 hm) (KV X.G Q)->∃ i j,d1=.int i/\d2=.int j/\C i j/\Q (g i j) H):mJ X E op f:=
 mJ.of h fun θ hm H d1 d2 x y Q w r1 r2 p=>by
  obtain ⟨i,j,rfl,rfl,c,q⟩:=k θ hm H d1 d2 Q w p
  exact ⟨i,j,bK r1,bK r2,c,q⟩
theorem yf {op:Value->Value->Sem Value} {f:D->D->Hm->R D} {g:Int->Int->V} (h:gM X op (FX g)) (k:∀ θ hm H d1 d2 Q,W X.G θ hm H->aG X.G (nL X.G E) θ H (f d1 d2 hm) (KV X.G Q)->∃ i j,d1=.int i/\d2=.int j/\Q (g i j) H):mJ X E op f:=
 mJ.of h fun θ hm H d1 d2 x y Q w r1 r2 p=>by
  obtain ⟨i,j,rfl,rfl,q⟩:=k θ hm H d1 d2 Q w p
  exact ⟨i,j,bK r1,bK r2,q⟩
theorem JN:mJ X E (binaryOp .Sub) BQ:=yf G5 fun θ hm H d1 d2 Q w p=>by
 unfold BQ at p
 split at p
 ·exact ⟨_,_,rfl,rfl,p.kg w (cv _)⟩
 ·exact p.elim
theorem sV:mJ X E (binaryOp .Mod) oMod:=Ge G7 fun θ hm H d1 d2 Q w p=>by
 unfold oMod at p
 split at p
 ·split at p
  ·rename_i hj;exact ⟨_,_,rfl,rfl,hj,p.kg w (cv _)⟩
  ·exact p.elim
 ·exact p.elim
theorem B6:mJ X E (binaryOp .FloorDiv) mr:=Ge D6 fun θ hm H d1 d2 Q w p=>by
 unfold mr at p
 split at p
 ·split at p
  ·rename_i hj;exact ⟨_,_,rfl,rfl,hj,p.kg w (cv _)⟩
  ·exact p.elim
 ·exact p.elim
theorem LU:mJ X E (compareOp .Gt) Kt:=yf Js fun θ hm H d1 d2 Q w p=>by
 unfold Kt at p
 split at p
 ·exact ⟨_,_,rfl,rfl,p.kg w (cq _)⟩
 ·exact p.elim
theorem LV:mJ X E (compareOp .GtE) JK:=yf Jt fun θ hm H d1 d2 Q w p=>by
 unfold JK at p
 split at p
 ·exact ⟨_,_,rfl,rfl,p.kg w (cq _)⟩
 ·exact p.elim
theorem EK:mJ X E (compareOp .LtE) oLe:=mJ.of (gM.or Jr AD) fun θ hm H d1 d2 x y Q w r1 r2 p=>by
 unfold oLe at p
 split at p
 ·exact .inl ⟨_,_,bK r1,bK r2,p.kg w (cq _)⟩
 ·exact .inr ⟨_,_,r1.1,r2.1,p.kg w (cq _)⟩
 ·exact p.elim
end
end Ml
set_option maxHeartbeats 1000000
namespace Ml
open PySem PySem.Spec L2 PyProof.Rows PySem.W
def ow:PyData->Nat
 | .int _=>0
 | .str _=>1
 | _=>2
def B7:Nat->String
 | 0 => "int"
 | 1 => "str"
 | _ => "tuple"
theorem qm {M:Model} {h:Heap} {a:Addr} {o:Obj} (h1:h.get? a=some o) (h2:o.cls=.type "tuple"):Looks M h (typeOf (.ref a)) (.type "tuple"):=by
 obtain ⟨oc,od,dat,osl⟩:=o
 cases h2
 exact (Looks.ld h1).andThen .now
theorem AS {M:Model} {h:Heap} {v:Value} {d:PyData} {as:List Addr} (r:Reads h v d as) (t:ag d=true):Looks M h (typeOf v) (.type (B7 (ow d))):=by
 cases r with
 | int i t=>exact .now
 | str x t=>exact .now
 | tuple h1 h2 h3 h4=>exact qm h1 h2
 | _=>simp [ag] at t
def JO (h:Heap) (f:Option Value) (d:PyData):Prop:=match d with
 | .tuple []=>f=none
 | .tuple (x::_)=>∃ u bs,f=some u/\Reads h u x bs
 | _=>False
section
variable {P:Program} {w:World} {A:Around} {E:Value->Shared->Prop} {s:Shared}
theorem ox {M:Model}:∀ {vs:List Value} {ds:List PyData} {as:List Addr} {Q:List (Option Value)->Shared->Prop},ReadsAll s.heap vs ds as->ds.all fV=true->(∀ fs,Paired (JO s.heap) fs ds->Q fs s)->wpAny M A (vs.mapM firstOfTuple') Q E s
 | _,_,_,Q,.nil,_,h=>by rw [List.mapM_nil];exact ND (h [] .nil)
 | _,_,_,Q,.cons r t,al,h=>by
  simp only [List.all_cons,NG] at al
  rw [List.mapM_cons]
  refine NC ?_
  cases r with
  | tuple h1 h2 h3 h4=>
   rename_i o its n xs
   rw [kas_first_eq]
   refine NC (Looks.here (qm h1 h2) ?_)
   rw [if_neg (by first | decide | simp)]
   refine NC (PyProof.Rows.listItems_at h1 h3 (ND ?_))
   refine NC (ox t al.2 fun fs hf=>ND (h _ (.cons ?_ hf)))
   have e0:its[0]?=its.toList[0]?:=by simp
   rw [e0]
   generalize its.toList=l at h4
   cases h4 with
   | nil=>rfl
   | cons r1 r2=>exact ⟨_,_,rfl,r1⟩
  | _=>simp [fV] at al
theorem oy {ds:List PyData} (t:af ds=true) (c:bQ ds=true) {x y:PyData} {xs ys:List PyData} (h1:.tuple (x::xs)∈ds) (h2:.tuple (y::ys)∈ds):ow x=ow y:=by
 have t1:=aE t h1
 have t2:=aE t h2
 simp only [ag,af,NG] at t1 t2
 have q:=eQ c h1 h2
 simp only [bJ,cF] at q
 by_cases e:x=y
 ·rw [e]
 ·rw [aQ t1.1 t2.1 e,if_neg (by simp)] at q
  cases x<;>cases y<;>first | rfl | (simp [bJ] at q) | (simp [ag] at t1) | (simp [ag] at t2)
theorem kh {h:Heap}:∀ {fs:List (Option Value)} {ds:List PyData},Paired (JO h) fs ds->∀ v∈fs.filterMap id,∃ x xs bs,.tuple (x::xs)∈ds/\Reads h v x bs
 | _,_,.nil,v,hv=>by simp at hv
 | _,_,.cons (a:=f) (l₁:=fs) (b:=d) r p,v,hv=>by
  cases d with
  | tuple ys=>
   cases ys with
   | nil=>
    obtain rfl:f=none:=r
    obtain ⟨x,xs,bs,m,q⟩:=kh p v (by simpa using hv)
    exact ⟨x,xs,bs,by simp [m],q⟩
   | cons y ys=>
    obtain ⟨u,bs,rfl,q⟩:=r
    rcases (show v=u\/some v∈fs by simpa using hv) with rfl | hv
    ·exact ⟨y,ys,bs,by simp,q⟩
    ·obtain ⟨x,xs,bs,m,q⟩:=kh p v (by simpa using hv)
     exact ⟨x,xs,bs,by simp [m],q⟩
  | _=>exact (show False from r).elim
theorem readsAll_len {h:Heap}:∀ {vs:List Value} {ds:List PyData} {as:List Addr},ReadsAll h vs ds as->vs.length=ds.length
 | _,_,_,.nil=>rfl
 | _,_,_,.cons _ t=>by simp [readsAll_len t]
theorem qo {M:Model} {h:Heap}:∀ {vs:List Value} {ds:List PyData} {as:List Addr},ReadsAll h vs ds as->ds.all fV=true->∀ v∈vs,Looks M h (typeOf v) (.type "tuple")
 | _,_,_,.nil,_,v,hv=>by cases hv
 | _,_,_,.cons r1 r2,al,v,hv=>by
  simp only [List.all_cons,NG] at al
  rcases NJ.mp hv with rfl | hv
  ·cases r1 with
   | tuple g1 g2 g3 g4=>exact qm g1 g2
   | _=>simp [fV] at al
  ·exact qo r2 al.2 v hv
theorem AU {M:Model} {vs:List Value} {ds:List PyData} {as:List Addr} {Q:SortKind->Shared->Prop} (r:ReadsAll s.heap vs ds as) (al:ds.all fV=true) (t:af ds=true) (c:bQ ds=true) (h2:1<=vs.length)
  (h1:∀ b,(b=true->∀ x xs,.tuple (x::xs)∈ds->ow x≠2)->Q (tuples' b) s) (h3:Q general' s) (h4:Q oneType' s):wpAny M A (keyKind' vs.toArray) Q E s:=by
 rw [PyProof.Rows.kat_kind_eq,List.mapM_toArray,map_eq_pure_bind]
 refine NC (NC (ox r al fun fs hf=>ND ?_))
 have hl:fs.length=ds.length:=Oc hf
 have hl2:vs.length=ds.length:=readsAll_len r
 split
 ·rename_i hall
  refine NC (PD ?_)
  have e:(fs.toArray.filterMap id)=(fs.filterMap id).toArray:=by simp
  rw [e]
  have hall':∀ f∈fs,f.isSome=true:=by simpa using hall
  obtain ⟨u,us,eu⟩:∃ u us,fs.filterMap id=u::us:=by
   match fs,hl,hall' with
   | [],hl,_=>simp at hl;omega
   | none::_,_,ha=>have:=ha none (.head _);cases this
   | some x::r,_,_=>exact ⟨x,r.filterMap id,by simp⟩
  obtain ⟨x,xs,bs,mx,rx⟩:=kh hf u (by rw [eu];simp)
  have tx:ag x=true:=by have:=aE t mx;simp only [ag,af,NG] at this;exact this.1
  refine NC (vT (T:=.type (B7 (ow x))) (by rw [eu];simp) (fun v hv=>?_) (by simp) ?_)
  ·obtain ⟨y,ys,bs,my,ry⟩:=kh hf v hv
   have ty:ag y=true:=by have:=aE t my;simp only [ag,af,NG] at this;exact this.1
   rw [oy t c mx my]
   exact AS ry ty
  ·refine ND (h1 _ fun hb y ys my=>?_)
   rw [<- oy t c mx my]
   intro z
   rw [z] at hb
   exact absurd hb (by decide)
 ·split
  ·exact ND h3
  ·refine NC (vT (T:=.type "tuple") h2 (fun v hv=>?_) (by rfl) ?_)
   ·exact qo r al v hv
   ·exact ND h4
theorem oz {b:Bool} {Q:Bool->Shared->Prop}:∀ {us vs:List Value} {xs ys:List PyData} {as bs:List Addr} (i:Nat) (fin k:Bool),ReadsAll s.heap us xs as->ReadsAll s.heap vs ys bs->af xs=true->af ys=true->PyData.canLayAll0 xs=true->PyData.canLayAll0 ys=true ->
  A.units+min (PyData.depthAll xs) (PyData.depthAll ys) < cLine->fin=decide (xs.length < ys.length)->(b=true->i=0->∀ x∈xs.head?,ow x≠2)->cF xs ys=some k->Q k s->KatLex P w A b fin Q (us.zip vs) i s
 | _,_,_,_,_,_,i,fin,k,.nil,.nil,_,_,_,_,_,e,_,h,q=>by subst e;simp [cF] at h;subst h;exact PySem.W.kat_nil q
 | _,_,_,_,_,_,i,fin,k,.nil,.cons _ _,_,_,_,_,_,e,_,h,q=>by subst e;simp [cF] at h;subst h;exact PySem.W.kat_nil (by simpa using q)
 | _,_,_,_,_,_,i,fin,k,.cons _ _,.nil,_,_,_,_,_,e,_,h,q=>by subst e;simp [cF] at h;subst h;exact PySem.W.kat_nil (by simpa using q)
 | _,_,_,_,_,_,i,fin,k,.cons (d:=x) (ds:=xs) r1 r2,.cons (d:=y) (ds:=ys) q1 q2,t1,t2,l1,l2,hu,e,hb,h,q=>by
  rw [Ph]
  refine PySem.W.kat_cons ?_
  simp only [af,PyData.canLayAll0,NG] at t1 t2 l1 l2
  simp only [PyData.depthAll] at hu
  refine Rr x y A s _ _ _ _ r1 q1 l1.1 l2.1 (by omega) P w _ _ ?_
  simp only [cF] at h
  cases hq:PyData.eqv x y with
  | true=>
   rw [hq,if_pos rfl] at h
   exact PySem.W.kat_yes (oz (i+1) fin k r2 q2 t1.2 t2.2 l1.2 l2.2 (by omega) (by rw [e];simp) (fun _ z=>by omega) h q)
  | false=>
   rw [hq,if_neg (by simp)] at h
   refine PySem.W.kat_no ?_
   have fin2:wpAny (model P w) A (oneLt' false _ _) Q (fun _ _=>False) s:=kat_one _ _ (mN x y A s _ _ _ _ k r1 q1 l1.1 l2.1 (by omega) h P w (fun _ _=>False) _ q)
   cases hbi:(b && i == 0) with
   | false=>exact fin2
   | true=>
    simp only [NG,Q3] at hbi
    have kx:=hb hbi.1 hbi.2 x (by simp)
    cases x with
    | int i1=>
     cases y with
     | int j1=>cases r1;cases q1;simp only [bJ] at h;cases h;exact oneLt_int q
     | _=>simp [bJ] at h
    | str i1=>
     cases y with
     | str j1=>cases r1;cases q1;simp only [bJ,ly] at h;cases h;exact oneLt_str q
     | _=>simp [bJ] at h
    | _=>exact absurd rfl kx
theorem yg (hu:A.units+41 < cLine) {x y:Value} {xs ys:List PyData} {as bs:List Addr} {k:Bool} {Q:Bool->Shared->Prop} (rx:Reads s.heap x (.tuple xs) as) (ry:Reads s.heap y (.tuple ys) bs) (t1:af xs=true) (t2:af ys=true) (l1:PyData.canLayAll0 xs=true) (l2:PyData.canLayAll0 ys=true)
  (hd:PyData.depthAll xs<=20) (h:cF xs ys=some k) (κ:SortKind) (hκ:(∃ b,κ=tuples' b/\(b=true->∀ x∈xs.head?,ow x≠2))\/κ=general'\/κ=oneType') (q:Q k s):wpAny (model P w) A (keyLt' κ x y) Q (fun _ _=>False) s:=by
 have ex:=rx
 have ey:=ry
 cases rx with
 | tuple g1 g2 g3 g4=>
  rename_i o1 i1 n1
  cases ry with
  | tuple k1 k2 k3 k4=>
   rename_i o2 i2 n2
   rcases hκ with ⟨b,rfl,hb⟩ | rfl | rfl
   ·refine kat_lt g1 g3 k1 k3 (oz 0 _ k g4 k4 t1 t2 l1 l2 (by omega) ?_ (fun hb' _=>hb hb') h q)
    have z1:=readsAll_len g4
    have z2:=readsAll_len k4
    simp at z1 z2
    rw [z1,z2]
   ·show wpAny (model P w) A (oneLt' false _ _) Q _ s
    exact kat_one _ _ (mN (.tuple xs) (.tuple ys) A s _ _ _ _ k ex ey (by simpa [PyData.canLay0] using l1) (by simpa [PyData.canLay0] using l2) (by simp only [PyData.depth];omega) (by simpa [bJ] using h) P w (fun _ _=>False) _ q)
   ·rw [keyLt'_oneType,oneLt'_eq]
    simp only [Ot]
    refine NC (wpAny_cRoomFor (by omega) ?_)
    obtain ⟨c1,d1,e1,sl1⟩:=o1
    obtain ⟨c2,d2,e2,sl2⟩:=o2
    cases g2
    cases g3
    cases k2
    cases k3
    refine NC (wpAny_callSpecialIfBound?_slot ⟨_,g1,rfl⟩ Rj (QN Rj ⟨_,g1,rfl⟩ PySem.F.entry_tuple_lt (PySem.F.args_tuple_lt_2 _ _) (SeqAt.mM _ _ _ _ n1 n2 d1 d2 sl1 sl2 k) ⟨g1,k1,nP xs ys _ s _ _ _ _ k g4 k4 l1 l2 (by show A.units+1+_ < _;omega) h,?_⟩))
    exact O7 q
theorem nQ {h:Heap}:∀ {vs:List Value} {ds:List PyData} {as:List Addr} (i:Nat),ReadsAll h vs ds as->i < vs.length->∃ bs,Reads h (vs.getD i .none) (ds.getD i .none) bs
 | _,_,_,i,.nil,hi=>by simp at hi
 | _,_,_,0,.cons r1 _,_=>⟨_,r1⟩
 | _,_,_,i+1,.cons _ r2,hi=>by simpa using nQ i r2 (by simpa using hi)
theorem getD_mem {α:Type} {xs:List α} {i:Nat} {d:α} (h:i < xs.length):xs.getD i d∈xs:=by simp [h]
theorem qp:∀ {ds:List PyData} {d:PyData},PyData.canLayAll0 ds=true->d∈ds->d.canLay0=true
 | _::_,d,h,m=>by
  simp only [PyData.canLayAll0,NG] at h
  rcases NJ.mp m with rfl | m
  ·exact h.1
  ·exact qp h.2 m
theorem qq:∀ {ds:List PyData} {d:PyData},d∈ds->d.depth<=PyData.depthAll ds
 | _::_,d,m=>by
  simp only [PyData.depthAll]
  rcases NJ.mp m with rfl | m
  ·exact Nat.le_max_left _ _
  ·exact NS (qq m) (Nat.le_max_right _ _)
theorem sW (hu:A.units+41 < cLine) {vs:List Value} {ds:List PyData} {as:List Addr} (r:ReadsAll s.heap vs ds as) (al:ds.all fV=true) (t:af ds=true) (c:bQ ds=true) (l:PyData.canLayAll0 ds=true) (hd:PyData.depthAll ds<=20) (h2:1<=vs.length) :
  BK P w A vs (fun i j=>ltB (ds.getD i .none) (ds.getD j .none)) s:=by
 have hlen:=readsAll_len r
 have tup:∀ {i:Nat},i < vs.length->∃ xs bs,ds.getD i .none=.tuple xs/\.tuple xs∈ds/\Reads s.heap (vs.getD i .none) (.tuple xs) bs:=fun {i} hi=>by
  obtain ⟨bs,q⟩:=nQ i r hi
  have m:ds.getD i .none∈ds:=getD_mem (by omega)
  have a:=NT.mp al _ m
  cases e:ds.getD i .none with
  | tuple xs=>exact ⟨xs,bs,rfl,e▸m,e▸q⟩
  | _=>rw [e] at a;simp [fV] at a
 have key:∀ κ,((∃ b,κ=tuples' b/\(b=true->∀ x xs,.tuple (x::xs)∈ds->ow x≠2))\/κ=general'\/κ=oneType')->s=s/\∀ i j C,i < vs.length->j < vs.length->C (ltB (ds.getD i .none) (ds.getD j .none)) s ->
   wpAny (model P w) A (keyLt' κ (vs.getD i Value.none) (vs.getD j Value.none)) C (fun _ _=>False) s:=fun κ hκ=>⟨rfl,fun i j C hi hj hC=>by
  obtain ⟨xs,b1,e1,m1,q1⟩:=tup hi
  obtain ⟨ys,b2,e2,m2,q2⟩:=tup hj
  have cc:=eQ c m1 m2
  have d1:=qq m1
  have l1:=qp l m1
  have l2:=qp l m2
  have t1:=aE t m1
  have t2:=aE t m2
  simp only [PyData.depth] at d1
  simp only [PyData.canLay0] at l1 l2
  simp only [ag] at t1 t2
  rw [e1,e2] at hC
  refine yg hu q1 q2 t1 t2 l1 l2 (by omega) (by simpa [bJ] using cc) κ ?_ hC
  rcases hκ with ⟨b,rfl,hb⟩ | h | h
  ·refine .inl ⟨b,rfl,fun hb' x hx=>?_⟩
   cases xs with
   | nil=>simp at hx
   | cons z zs=>simp at hx;subst hx;exact hb hb' z zs m1
  ·exact .inr (.inl h)
  ·exact .inr (.inr h)⟩
 exact AU r al t c h2 (fun b hb=>key _ (.inl ⟨b,rfl,hb⟩)) (key _ (.inr (.inl rfl))) (key _ (.inr (.inr rfl)))
end
end Ml
namespace Ml
open PySem PySem.Spec L2
section
variable {X:Cx} {E:XK} {k:Nat} {θ:List Addr} {hm:Hm} {H:Hp}
theorem pb {G:Gx} (w:W G θ hm H) {x:D} {v:V} {ds:List PyData} (r:bN G θ H x v) (e:listOf x hm=some ds):∃ a vs,v=.ref a/\H a=some (.lst vs)/\bf (view θ H) ds vs/\cf ds=true:=by
 unfold listOf at e
 split at e
 ·cases e
  obtain ⟨⟨a,vs,rfl,ha,rr⟩,so⟩:=r
  exact ⟨a,vs,rfl,aA _ _ _ _ ha,rr,by simpa [cD] using so⟩
 ·obtain ⟨a,ha,rfl⟩:=r
  split at e
  ·rename_i ys hy
   obtain ⟨vs,hv,rs⟩:=w.obj _ _ _ ha hy
   obtain ⟨h1,h2⟩:=ke rs e
   exact ⟨a,vs,rfl,hv,h1,h2⟩
  ·cases e
 ·cases e
theorem sX {P:Program} {w:World} {A:Around} {s:Shared} {vs:List Value} {ds:List PyData} {as:List Addr} (r:ReadsAll s.heap vs ds as) (al:ds.all qf=true) (h2:2<=vs.length):PySem.W.BK P w A vs (fun i j=>ltB (ds.getD i .none) (ds.getD j .none)) s:=by
 have hlen:=readsAll_len r
 have tup:∀ {i:Nat},i < vs.length->∃ x tk,ds.getD i .none=.str x/\vs.getD i .none=.str x tk:=fun {i} hi=>by
  obtain ⟨bs,q⟩:=nQ i r hi
  have m:ds.getD i .none∈ds:=getD_mem (by omega)
  have a:=NT.mp al _ m
  cases e:ds.getD i .none with
  | str x=>rw [e] at q;generalize vs.getD i .none=z at q;cases q;exact ⟨x,_,rfl,rfl⟩
  | _=>rw [e] at a;simp [qf] at a
 refine PySem.W.kas_kind h2 (T:=.type "str") (fun v hv=>?_) (by decide) (by decide) ⟨rfl,fun i j C hi hj hC=>?_⟩
 ·obtain ⟨i,hi,e⟩:=PY.mp hv
  obtain ⟨x,tk,_,e2⟩:=tup hi
  have:vs.getD i .none=v:=by simp [hi,e]
  rw [this] at e2
  subst e2
  exact .now
 ·obtain ⟨x,t1,e1,f1⟩:=tup hi
  obtain ⟨y,t2,e2,f2⟩:=tup hj
  rw [f1,f2,PyProof.Rows.keyLt'_oneType]
  simp only [e1,e2] at hC
  exact PyProof.Rows.oneLt_str (by simpa [ltB,bJ,ly] using hC)
theorem JP {ds:List PyData} (o:Ord ltB ds):PySem.W.kD (fun i j=>ltB (ds.getD i .none) (ds.getD j .none)) ds.length:=
 ⟨fun a b ha hb h=>o.as (getD_mem ha) (getD_mem hb) h,fun a b c ha hb hc h h'=>o.ntr (getD_mem ha) (getD_mem hb) (getD_mem hc) h h'⟩
theorem bD:∀ {ds:List PyData},cf ds=true<->∀ d∈ds,cD d=true
 | []=>by simp [cf]
 | d::ds=>by simp [cf,bD (ds:=ds)]
theorem sY {ds es:List PyData} (p:ds.Perm es) (h:cf ds=true):cf es=true:=bD.mpr fun d m=>bD.mp h d (p.mem_iff.mpr m)
def HU:List V->Hp->VK->Prop:=fun xs H Q=>∃ (a:Addr) (vs:List V) (M:Hp) (ds:List PyData),xs=[.ref a]/\H a=some (.lst vs)/\bH M H/\bf M ds vs/\cf ds=true/\eY ds=true /\
 ∀ (p:Addr) (us:List V),H p=none->bf M (cS ltB ds) us->us.length<=sizeLine->Q (.ref p) (upd H p (.lst us))
theorem uJ (hr:cz k X.A):dD X (.builtin "sorted") HU:=by
 intro pins s σ H xs us Q I r h
 obtain ⟨a,vs,M,ds,rfl,ha,sm,rp,so,ok,q⟩:=h
 simp only [eY,NG,N7,P4] at ok
 obtain ⟨⟨⟨⟨kd,tr⟩,cm⟩,dp⟩,h64⟩:=ok
 cases r with
 | cons r rr=>
  cases rr
  cases r
  obtain ⟨its,rv,pl,_⟩:=I.list (iu.of (K:=X.K) ha)
  have hlen:vs.length=ds.length:=rp.length
  have hlen2:its.length=ds.length:=by rw [<- rv.length];exact hlen
  obtain ⟨as,ra⟩:=bf.reads I (rp.same sm) rv
  have nd:PyData.hasDictAll ds=false:=eX tr
  have la:=mC so nd
  have O:=JP (gm cm tr)
  rw [<- hlen2] at O
  refine PySem.W.qb pl.isList O (by omega) (fun h' kp h2=>?_) fun p hp hs=>?_
  ·have ra':ReadsAll h' its ds as:=O1 kp ra
   rcases kd with kd | kd
   ·exact sX (s:={s with heap:=h'}) ra' kd h2
   ·exact sW (s:={s with heap:=h'}) (by have:=hr.un;show X.A.units+1+1+41 < cLine;omega) ra' kd tr cm la dp (by omega)
  ·have ge:s.heap.objs.size<=s.heap.objs.size+1:=O9 _
   have nn:H (s.heap.objs.size+1)=none:=I.hok.fresh ge
   obtain ⟨e,he⟩:=PyProof.Rows.sortedAll_at s.heap its (p.toList.map fun i=>its.getD i Value.none).toArray
   have hin:∀ i∈p.toList,i < vs.length:=fun i hi=>by
    have:=OD.mp (hp.perm.mem_iff.mp hi)
    omega
   have hlp:p.toList.length=ds.length:=by rw [hp.perm.length_eq,RN,hlen2]
   have hz:(p.toList.map fun i=>vs.getD i .non).length<=sizeLine:=by
    rw [NZ,hlp]
    exact NS (Q9 h64) (by decide)
   refine ⟨.ref _,_,I.laid (t':=s.toks) (o:=.lst (p.toList.map fun i=>vs.getD i .non)) (fun b o k=>PyProof.Rows.sortedAll_old k) ge ⟨hz,_,e,sQ rv p.toList hin,by simpa [PyProof.Rows.seqObj] using he⟩,rfl,q _ _ nn ?_ hz⟩
   have e1:(p.toList.map fun i=>ds.getD i .none)=cS ltB ds:=by
    refine vZ cm tr ?_ ?_
    ·have:=hp.perm.map (fun i=>ds.getD i .none)
     rw [hlen2,iR] at this
     exact this
    ·unfold Up
     rw [Qx,PV]
     intro i j hi hj hij
     have e1:PySem.W.pat p i=p.toList[i]:=by simp only [OF] at hi;rw [PySem.W.ia,RG p i hi];simp
     have e2:PySem.W.pat p j=p.toList[j]:=by simp only [OF] at hj;rw [PySem.W.ia,RG p j hj];simp
     have:=hs i j hij (by rw [hlen2];omega)
     rw [e1,e2] at this
     exact this
   rw [<- e1]
   exact sR rp .none p.toList hin
theorem wa (hr:cz k X.A):qh X E (.builtin "sorted") f7:=qh.of (uJ hr) fun θ hm H ds xs Q w r p=>by
 unfold f7 at p
 split at p
 ·rename_i x
  cases r with
  | cons r rr=>
   cases rr
   split at p
   ·rename_i ys hy
    split at p
    ·rename_i ok
     obtain ⟨a,vs,rfl,ha,rp,so⟩:=pb w r hy
     refine ⟨a,vs,view θ H,ys,rfl,ha,aA _ _,rp,so,ok,fun q us hq ru hz=>?_⟩
     obtain ⟨e1,w1,g⟩:=w.put (o:=.lst us) hq
     refine p _ _ e1 w1 _ ⟨⟨q,us,rfl,g,ru.same e1.same⟩,?_⟩
     simp only [cD]
     exact sY (bR _ _).symm so
    ·exact p.elim
   ·exact p.elim
 ·exact p.elim
end
section
variable {X:Cx} {E:XK} {k:Nat} {θ:List Addr} {hm:Hm} {H:Hp} {m:ME} {t:MT} {e e1 e2:Expr} {pos:Pos}
theorem eM {G:Gx} {x:Str} {v:V} (r:bN G θ H (.str x) v):v=.str x/\PyData.strOk x=true:=⟨r.1,by simpa [cD] using r.2⟩
theorem uK {x y:Str} (h:PyData.strOk x=true) (h':PyData.strOk y=true):PyData.strOk (x++y)=true:=by
 have e:(x++y).cps=x.cps++y.cps:=rfl
 unfold PyData.strOk at h h' ⊢
 rw [e,Array.all_append,h,h']
 rfl
theorem wb {G:Gx} {H' M':Hp} (w:W G θ hm H) (x:Ext H (view θ H) H' M'):Ev θ H θ H'/\W G θ hm H'/\bH M' (view θ H'):=by
 obtain ⟨e1,w1⟩:=w.grow x.sh
 refine ⟨e1,w1,fun c o q=>?_⟩
 have nb:c∉θ:=fun z=>by
  obtain ⟨i,hi,ei⟩:=PY.mp z
  have hl:i < hm.length:=by rw [<- w.len];exact hi
  have hn:H c≠none:=ya.some _ (w.obj i c hm[i] (by rw [NR hi,ei]) (NR hl))
  rw [x.old c hn] at q
  exact (cY q).1 z
 rw [dP nb]
 exact x.gs c o q
theorem oA:mJ X E (binaryOp .Add) gA:=mJ.of (gM.or G4 (gM.or xK (gM.or Ez Hj))) fun θ hm H d1 d2 x y Q w r1 r2 p=>by
 unfold gA at p
 split at p
 ·exact .inl ⟨_,_,bK r1,bK r2,p.kg w (cv _)⟩
 ·split at p
  ·rename_i hz
   obtain ⟨e1,s1⟩:=eM r1
   obtain ⟨e2,s2⟩:=eM r2
   exact .inr (.inl ⟨_,_,e1,e2,dQ hz,p.kg w ⟨rfl,by simp only [cD];exact uK s1 s2⟩⟩)
  ·exact p.elim
 ·split at p
  ·rename_i xs ys hz
   refine .inr (.inr (.inl ⟨view θ H,xs,ys,aA _ _,r1.1,r2.1,dQ hz,fun r H' M' ex rr=>?_⟩))
   obtain ⟨e1,w1,sm⟩:=wb w ex
   have s1:cf xs=true:=by simpa [cD] using r1.2
   have s2:cf ys=true:=by simpa [cD] using r2.2
   refine p _ _ e1 w1 _ ⟨rr.same sm,?_⟩
   simp only [cD]
   exact bD.mpr fun d m=>by
    rcases NX.mp m with m | m
    ·exact bD.mp s1 d m
    ·exact bD.mp s2 d m
  ·exact p.elim
 ·split at p
  ·rename_i xs ys hz
   have s1:cf xs=true:=by simpa [cD] using r1.2
   have s2:cf ys=true:=by simpa [cD] using r2.2
   obtain ⟨a,us,rfl,ha,q1,_⟩:=gc r1
   obtain ⟨b,ws,rfl,hb,q2,_⟩:=gc r2
   refine .inr (.inr (.inr ⟨a,b,us,ws,rfl,rfl,aA _ _ _ _ ha,aA _ _ _ _ hb,by rw [q1.length,q2.length];exact dQ hz,fun q hq=>?_⟩))
   obtain ⟨e1,w1,g⟩:=w.put (o:=.lst (us++ws)) hq
   refine p _ _ e1 w1 _ ⟨⟨q,_,rfl,g,(q1.append q2).same e1.same⟩,?_⟩
   simp only [cD]
   exact bD.mpr fun d m=>by
    rcases NX.mp m with m | m
    ·exact bD.mp s1 d m
    ·exact bD.mp s2 d m
  ·exact p.elim
 ·exact p.elim
theorem sZ {M:Hp} {ds:List PyData} {vs:List V} (r:bf M ds vs):∀ n:Nat,bf M (List.replicate n ds).flatten (List.replicate n vs).flatten
 | 0=>rfl
 | n+1=>by rw [O8,O8,P1,P1];exact r.append (sZ r n)
theorem B8:mJ X E (binaryOp .Mult) qd:=mJ.of (gM.or G6 Hk) fun θ hm H d1 d2 x y Q w r1 r2 p=>by
 unfold qd at p
 split at p
 ·split at p
  ·rename_i hc
   refine .inl ⟨_,_,bK r1,bK r2,?_,p.kg w (cv _)⟩
   simp only [zg,P4,NG,N7] at hc
   exact hc
  ·exact p.elim
 ·split at p
  ·rename_i xs j hc
   simp only [NG,N7] at hc
   have s1:cf xs=true:=by simpa [cD] using r1.2
   obtain ⟨a,us,rfl,ha,q1,_⟩:=gc r1
   refine .inr ⟨a,j,us,rfl,bK r2,aA _ _ _ _ ha,hc.1.2,hc.2,by rw [q1.length];exact dQ hc.1.1,fun q hq=>?_⟩
   obtain ⟨e1,w1,g⟩:=w.put (o:=.lst (List.replicate j.toNat us).flatten) hq
   refine p _ _ e1 w1 _ ⟨⟨q,_,rfl,g,(sZ q1 _).same e1.same⟩,?_⟩
   simp only [cD]
   exact bD.mpr fun d m=>by
    obtain ⟨l,hl,hd⟩:=List.mem_flatten.mp m
    rw [(List.mem_replicate.mp hl).2] at hd
    exact bD.mp s1 d hd
  ·exact p.elim
 ·exact p.elim
theorem pe {α β:Type} (f:α->β) (xs:List α) (i:Int):kC (xs.map f) i=(kC xs i).map f:=by
 unfold kC
 rw [NZ]
 cases rM xs.length i with
 | none=>rfl
 | some j=>simp
theorem uL {G:Gx} {ds:List D} {vs:List V} {i:Int} {d:D} (r:aO G θ H ds vs) (e:kC ds i=some d):∃ v,L2.kC vs i=some v/\bN G θ H d v:=by
 have hl:ds.length=vs.length:=Oc r
 unfold kC at e
 unfold L2.kC
 rw [<- hl]
 change (rM ds.length i).bind _=_ at e
 show ∃ v,(rM ds.length i).bind (fun j=>vs[j]?)=some v/\_
 cases hj:rM ds.length i with
 | none=>rw [hj] at e;cases e
 | some j=>
  rw [hj] at e
  exact aO.some r e
theorem B9:IV X (HD X.G E uy):=by
 intro value slice pins s σ H x y v u Q I rx ry ⟨θ,h,d1,d2,w,r1,r2,p⟩ hs
 unfold uy at p
 split at p
 ·rename_i i
  have ey:=bK r2
  split at p
  ·rename_i ds
   split at p
   ·rename_i d he
    obtain ⟨a,us,rfl,ha,q1,q2⟩:=gb r1
    obtain ⟨z,e1,rz⟩:=uL (i:=i) (d:=.dat d) q2 (by rw [pe,he];rfl)
    exact Hf value slice pins s σ H _ y v u Q I rx ry ⟨a,us,i,z,rfl,ey,fU.of (aA _ _ _ _ ha),e1,p.kg w rz⟩ hs
   ·exact p.elim
  ·rename_i ds
   split at p
   ·rename_i d he
    obtain ⟨a,us,rfl,ha,q1,q2⟩:=gc r1
    obtain ⟨z,e1,rz⟩:=uL (i:=i) (d:=.dat d) q2 (by rw [pe,he];rfl)
    exact uf value slice pins s σ H _ y v u Q I rx ry ⟨a,us,i,z,rfl,ey,iu.of (aA _ _ _ _ ha),e1,p.kg w rz⟩ hs
   ·exact p.elim
  ·rename_i j
   split at p
   ·rename_i xs hx
    split at p
    ·rename_i d he
     obtain ⟨a,ha,rfl⟩:=r1
     obtain ⟨vs,hv,rs⟩:=w.obj _ _ _ ha hx
     obtain ⟨z,e1,rz⟩:=uL rs he
     exact uf value slice pins s σ H _ y v u Q I rx ry ⟨a,vs,i,z,rfl,ey,iu.of hv,e1,p.kg w rz⟩ hs
    ·exact p.elim
   ·exact p.elim
  ·rename_i ns
   split at p
   ·rename_i n he
    obtain ⟨a,rfl,hq⟩:=r1
    have e1:L2.kC (ns.map V.int) i=some (.int n):=by
     have:=pe V.int ns i
     rw [he] at this
     exact this
    exact uf value slice pins s σ H _ y v u Q I rx ry ⟨a,_,i,_,rfl,ey,(aA _ _).seq hq,e1,p.kg w (cv _)⟩ hs
   ·exact p.elim
  ·exact p.elim
 ·exact p.elim
def lO (G:Gx) (E:XK) (m:DL):TO:=fun σ H Q=>∃ θ h ρ,W G θ h H/\Fr G θ H ρ σ/\aG G (nL G E) θ H (m ρ h) (fun o _ _ H'=>Q o H')
@[irreducible] def DO (X:Cx) (E:XK) (m:DL) (e:Option Expr):Prop:=PO X e (lO X.G E m)
theorem zw (X:Cx) (E:XK) (m:DL) (e:Option Expr):DO X E m e=(PO X e (lO X.G E m)):=by
 unfold DO
 rfl
theorem PO.imp {X:Cx} {e:Option Expr} {t t':TO} (h:PO X e t) (k:∀ σ H Q,t' σ H Q->t σ H Q):PO X e t':=fun pins s σ H Q I q=>h pins s σ H Q I (k _ _ _ q)
theorem EL:DO X E zh none:=by
 simp only [zw] at *
 exact PO.imp Ee fun σ H Q ⟨θ,h,ρ,w,fr,p⟩=>p θ H Ev.refl w
theorem uM (h:DE X E m e):DO X E (kS m) (some e):=by
 simp only [bw,zw] at *
 exact PO.imp (Ef h) fun σ H Q ⟨θ,h,ρ,w,fr,p⟩=>⟨θ,h,ρ,w,fr,(aG.bind p).mono fun d θ1 h1 H1 _ _ ⟨ev,w1,p1⟩ v r=>by
  split at p1
  ·exact ⟨_,bK r,p1 θ1 H1 Ev.refl w1⟩
  ·exact p1.elim⟩
theorem zx {M:Hp} {ds:List PyData} {vs:List V} (r:bf M ds vs) (lo hi:Option Int):bf M (cut ds lo hi) (pQ vs lo hi):=by
 unfold cut pQ
 have e:vs.length=ds.length:=r.length
 rw [e]
 exact (r.drop _).take _
theorem zy {α:Type} {xs:List α} {lo hi:Option Int} {x:α} (h:x∈cut xs lo hi):x∈xs:=List.mem_of_mem_drop (QD h)
theorem qr {ds:List PyData} (h:cf ds=true) (lo hi:Option Int):cf (cut ds lo hi)=true:=bD.mpr fun d m=>bD.mp h d (zy m)
def LW (G:Gx) (E:XK):V->Option Int->Option Int->Hp->VK->Prop:=fun x lo hi H Q=>∃ θ h d,W G θ h H/\bN G θ H d x/\aG G (nL G E) θ H (JL d lo hi h) (KV G Q)
theorem EM:IU X (LW X.G E):=by
 intro pins s σ H x v vl vu lo hi sl Q I rx hs pl pu ⟨θ,h,d,w,r,p⟩
 unfold JL at p
 split at p
 ·rename_i ds
  refine EA pins s σ H x v vl vu lo hi sl Q I rx hs pl pu ⟨view θ H,ds,aA _ _,r.1,fun r' H' M' ex rr=>?_⟩
  obtain ⟨e1,w1,sm⟩:=wb w ex
  exact p _ _ e1 w1 _ ⟨rr.same sm,by simp only [cD];exact qr (by simpa [cD] using r.2) lo hi⟩
 ·rename_i ds
  have so:cf ds=true:=by simpa [cD] using r.2
  obtain ⟨a,us,rfl,ha,q1,q2⟩:=gc r
  refine y6 pins s σ H _ v vl vu lo hi sl Q I rx hs pl pu ⟨a,us,rfl,iu.of (aA _ _ _ _ ha),fun q hq=>?_⟩
  obtain ⟨e1,w1,g⟩:=w.put (o:=.lst (pQ us lo hi)) hq
  exact p _ _ e1 w1 _ ⟨⟨q,_,rfl,g,(zx q1 lo hi).same e1.same⟩,by simp only [cD];exact qr so lo hi⟩
 ·exact p.elim
theorem Ca {lo hi:Option Expr} {ml mh:DL} {p2:Pos} (he:DE X E m e) (hl:DO X E ml lo) (hu:DO X E mh hi):DE X E (Ku m ml mh) (.Subscript e (.Slice lo hi none p2) pos):=by
 simp only [bw,zw] at *
 exact PE.imp (vK EM he hl hu) fun σ H Q ⟨θ,h,ρ,w,fr,p⟩=>⟨θ,h,ρ,w,fr,(aG.bind p).mono fun d θ1 h1 H1 _ _ ⟨ev,w1,p1⟩ v r=>
   ⟨θ1,h1,ρ,w1,fr.ev ev,(aG.bind p1).mono fun l θ2 h2 H2 _ _ ⟨ev2,w2,p2⟩=>⟨θ2,h2,ρ,w2,(fr.ev ev).ev ev2,(aG.bind p2).mono fun u θ3 h3 H3 _ _ ⟨ev3,w3,p3⟩=>⟨θ3,h3,d,w3,(r.ev ev2).ev ev3,p3⟩⟩⟩⟩
theorem tj:qh X E (.builtin "len") jJ:=qh.of Bq fun θ hm H ds xs Q w r p=>by
 unfold jJ at p
 split at p
 ·split at p
  ·rename_i hz
   cases r with
   | cons r rr=>
    cases rr
    exact ⟨_,_,rfl,by rw [(eM r).1];exact ⟨dQ hz,rfl⟩,p.kg w (cv _)⟩
  ·exact p.elim
 ·cases r with
  | cons r rr=>
   cases rr
   obtain ⟨a,us,rfl,ha,q1,_⟩:=gb r
   exact ⟨_,_,rfl,.inr ⟨us,fU.of (aA _ _ _ _ ha),q1.length.symm⟩,p.kg w (cv _)⟩
 ·cases r with
  | cons r rr=>
   cases rr
   obtain ⟨a,us,rfl,ha,q1,_⟩:=gc r
   exact ⟨_,_,rfl,.inl ⟨us,iu.of (aA _ _ _ _ ha),q1.length.symm⟩,p.kg w (cv _)⟩
 ·rename_i i
  split at p
  ·rename_i ys hy
   cases r with
   | cons r rr=>
    cases rr
    obtain ⟨a,ha,rfl⟩:=r
    obtain ⟨vs,hv,rs⟩:=w.obj _ _ _ ha hy
    exact ⟨_,_,rfl,.inl ⟨vs,iu.of hv,Oc rs⟩,p.kg w (cv _)⟩
  ·exact p.elim
 ·rename_i ns
  cases r with
  | cons r rr=>
   cases rr
   obtain ⟨a,rfl,hq⟩:=r
   exact ⟨_,_,rfl,.inl ⟨_,(aA _ _).seq hq,by simp⟩,p.kg w (cv _)⟩
 ·exact p.elim
theorem qt {M:Hp}:∀ {ds:List PyData} {vs:List V} {bs:List Bool},bf M ds vs->bools ds=some bs->vs=bs.map V.bl
 | [],_,bs,h,e=>by cases h;cases e;rfl
 | d::ds,_,bs,⟨v,vs,rfl,r,rs⟩,e=>by
  cases d with
  | bool b=>
   simp only [bools,OA] at e
   obtain ⟨bs',e1,e2⟩:=e
   subst e2
   rw [qt rs e1,show v=V.bl b from r]
   rfl
  | _=>simp [bools] at e
theorem zz (hc:X.calm=true):qh X E (.builtin "all") uz:=qh.of (BF hc) fun θ hm H ds xs Q w r p=>by
 unfold uz at p
 split at p
 ·split at p
  ·rename_i bs hb
   cases r with
   | cons r rr=>
    cases rr
    obtain ⟨a,us,rfl,ha,q1,_⟩:=gc r
    rw [qt q1 hb] at ha
    exact ⟨a,bs,rfl,iu.of (aA _ _ _ _ ha),p.kg w (cq _)⟩
  ·exact p.elim
 ·exact p.elim
end
section
variable {X:Cx} {E:XK} {k:Nat} {θ:List Addr} {hm:Hm} {H:Hp} {m:ME} {t:MT} {e e1 e2:Expr} {pos:Pos} {ma:MA}
theorem HV {T:Str} {n:String} {f:PyData->Bool} (kit:∀ d,PySem.W.kitOne X.K (.type (JF d)) (.type n)=some (f d)) (bt:bootBuiltins T=some (.type n)) (m1:X.mg "isinstance" = none) (m2:X.mg T=none) (h:DE X E m e) {p p2:Pos} (g1:Gl X "isinstance" := by rfl) (g2:Gl X T:=by rfl) (hT:T ≠ "__name__" := by decide) (hT2:(T == ("__debug__" : Str))=false:=by decide)
  (hs:starEach [e,.Name T p2] X.env=(false,eval e X.env)::starEach [.Name T p2] X.env:=by rfl) (hs2:starEach [.Name T p2] X.env=[(false,eval (.Name T p2) X.env)]:=by rfl) (hpl:(backTo pos (starEach [.Name T p2] X.env)).any (·.1)=false:=by rfl):DE X E (F9 (vW f) m) (.Call (.Name "isinstance" p) [e,.Name T p2] [] pos):=by
 simp only [bw] at *
 exact PE.imp (vJ BG g1 m1 rQ (ka h (ka (DY (v:=.ty n) g2 m2 bt rfl hT hT2) pO hs2) hs) (by decide) (by decide) hs hpl) fun σ H Q ⟨θ,h,ρ,w,fr,p⟩=>⟨θ,h,ρ,w,fr,(aG.bind p).mono fun d θ1 h1 H1 _ _ ⟨ev,w1,p1⟩ v r=>by
   cases d with
   | dat d=>exact ⟨v,n,_,f d,rfl,(r.1.same (aA _ _)).ty,kit d,p1.kg w1 (cq _)⟩
   | _=>exact p1.elim⟩
theorem qu {M:Hp} (x:Str):∀ (l:List Nat),bf M (l.map fun i=>.str ⟨#[x.cps.getD i 0]⟩) (l.map (sgn x))
 | []=>rfl
 | i::l=>.cons rfl (qu x l)
theorem Cb {x:Str} (h:PyData.strOk x=true):cf (gB x)=true:=bD.mpr fun d m=>by
 obtain ⟨i,_,rfl⟩:=Oe.mp m
 simp only [cD]
 exact zt h
theorem iX (hc:X.calm=true):qh X E (.type "tuple") gC:=qh.of (dD.or rO (vR hc)) fun θ hm H ds xs Q w r p=>by
 unfold gC at p
 split at p
 ·cases r with
  | cons r rr=>
   cases rr
   obtain ⟨a,us,e,ha,q1,_⟩:=gb r
   subst e
   exact .inl ⟨a,us,rfl,.inr ⟨fU.of (aA _ _ _ _ ha),p.kg w r⟩⟩
 ·split at p
  ·rename_i s hz
   cases r with
   | cons r rr=>
    cases rr
    obtain ⟨e1,s1⟩:=eM r
    subst e1
    refine .inr ⟨s,rfl,dQ hz,fun q hq=>?_⟩
    obtain ⟨e1,w1,g⟩:=w.put (o:=.tup ((List.range s.cps.size).map (sgn s))) hq
    exact p _ _ e1 w1 _ ⟨⟨q,_,rfl,g,qu s _⟩,by simp only [cD];exact Cb s1⟩
  ·exact p.elim
 ·split at p
  ·rename_i ds hy
   cases r with
   | cons r rr=>
    cases rr
    obtain ⟨a,vs,rfl,ha,rp,so⟩:=pb w r hy
    refine .inl ⟨a,vs,rfl,.inl ⟨iu.of ha,fun q hq=>?_⟩⟩
    obtain ⟨e1,w1,g⟩:=w.put (o:=.tup vs) hq
    exact p _ _ e1 w1 _ ⟨⟨q,_,rfl,g,rp.same e1.same⟩,by simpa [cD] using so⟩
  ·exact p.elim
 ·exact p.elim
theorem EN:qh X E (.type "list") x8:=qh.of uh fun θ hm H ds xs Q w r p=>by
 unfold x8 at p
 split at p
 ·cases r with
  | cons r rr=>
   cases rr
   have so:=r.2
   obtain ⟨a,us,e,ha,q1,_⟩:=gb r
   subst e
   refine ⟨a,us,rfl,.inr (fU.of (aA _ _ _ _ ha)),fun q hq=>?_⟩
   obtain ⟨e1,w1,g⟩:=w.put (o:=.lst us) hq
   exact p _ _ e1 w1 _ ⟨⟨q,_,rfl,g,q1.same e1.same⟩,by simpa [cD] using so⟩
 ·split at p
  ·rename_i ds hy
   cases r with
   | cons r rr=>
    cases rr
    obtain ⟨a,vs,rfl,ha,rp,so⟩:=pb w r hy
    refine ⟨a,vs,rfl,.inl (iu.of ha),fun q hq=>?_⟩
    obtain ⟨e1,w1,g⟩:=w.put (o:=.lst vs) hq
    exact p _ _ e1 w1 _ ⟨⟨q,_,rfl,g,rp.same e1.same⟩,by simpa [cD] using so⟩
  ·exact p.elim
 ·exact p.elim
theorem Cc:qh X E (.builtin "divmod") mB:=qh.of vH fun θ hm H ds xs Q w r p=>by
 unfold mB at p
 split at p
 ·split at p
  ·rename_i i j hj
   cases r with
   | cons r1 rr=>
    cases rr with
    | cons r2 rr=>
     cases rr
     cases bK r1
     cases bK r2
     refine ⟨i,j,rfl,hj,fun q hq=>?_⟩
     obtain ⟨e1,w1,g⟩:=w.put (o:=.tup [.int (i / j),.int (i % j)]) hq
     exact p _ _ e1 w1 _ ⟨⟨q,_,rfl,g,.cons rfl (.one rfl)⟩,by simp [cD,cf]⟩
  ·exact p.elim
 ·exact p.elim
theorem JQ (hc:X.calm=true):qh X E (.builtin "max") AL:=qh.of (Ap hc) fun θ hm H ds xs Q w r p=>by
 unfold AL at p
 split at p
 ·cases r with
  | cons r1 rr=>
   cases rr with
   | cons r2 rr=>
    cases rr
    cases bK r1
    cases bK r2
    exact ⟨_,_,rfl,p.kg w (cv _)⟩
 ·exact p.elim
theorem JR:qh X E (.type "int") BR:=qh.of Aq fun θ hm H ds xs Q w r p=>by
 unfold BR at p
 split at p
 ·cases r with
  | cons r1 rr=>
   cases rr
   cases bK r1
   exact .inl ⟨_,rfl,p.kg w (cv _)⟩
 ·cases r with
  | cons r1 rr=>
   cases rr
   obtain ⟨e1,_⟩:=r1
   cases e1
   exact .inr ⟨_,rfl,p.kg w (cv _)⟩
 ·exact p.elim
end
section
variable {X:Cx} {E:XK} {k:Nat} {θ:List Addr} {hm:Hm} {H:Hp} {m ma' mb:ME} {t:MT} {e e1 e2 o i:Expr} {es:List Expr} {pos:Pos} {ma:MA} {x:Str}
theorem ic (n:Nat) {d:PyData} (h:Lit n e d) (s:cD d=true):DE X E (ah d) e:=by
 simp only [bw] at *
 exact PE.imp (Hy n h) fun σ H Q ⟨θ,hm,ρ,w,fr,p⟩ r H' N s1 nw rp=>by
   obtain ⟨e1,w1⟩:=w.grow s1
   refine p _ _ e1 w1 _ ⟨rp.same fun c o q=>?_,s⟩
   have nb:c∉θ:=w.BX (nw c o q).1
   rw [dP nb]
   exact (nw c o q).2
theorem zA {n:Int} {p:Pos} (hm:∃ t,X.mg x=some (.int n t)) (hg:Gl X x:=by rfl) (hd:(x == ("__debug__" : Str))=false:=by decide):DE X E (ah (.int n)) (.Name x p):=by
 obtain ⟨t,hm⟩:=hm
 exact EC (uc (v:=.int n) hg hm ⟨t,rfl⟩ hd) (fun _=>rfl) (by simp [cD])
def MU (xs:List PyData):ME:=fun _ h=>.ok (.ktup xs) h
theorem EO {xs:List PyData} {p:Pos} (hm:∃ a,X.mg x=some (.ref a)/\BV X.K a xs) (hg:Gl X x:=by rfl) (hd:(x == ("__debug__" : Str))=false:=by decide):DE X E (MU xs) (.Name x p):=by
 simp only [bw] at *
 obtain ⟨a,hm,kt⟩:=hm
 exact PE.imp (uc (v:=.ref a) hg hm rfl hd) fun σ H Q ⟨θ,hm,ρ,w,fr,p⟩=>p.kg w ⟨a,rfl,kt⟩
theorem ER {G:Gx} {xs:List PyData} {a:Addr} (kt:BV G.K a xs):mK G θ H (xs.map D.dat) (Km G.K a):=fun θ' h' H' ev w=>by
 obtain ⟨⟨o,its,n,hl,hc,hd,hz,rv⟩,fl,so⟩:=kt
 have q:fU G.K H' a (xs.map Gd):=.inr ⟨o,its,n,hl,hc,hd,hz,rv⟩
 refine ⟨fun i d e=>?_,⟨_,q,by simp⟩⟩
 rw [OM,OA] at e
 obtain ⟨y,ey,rfl⟩:=e
 refine ⟨⟨_,Gd y,q,by simp [ey]⟩,fun x H2 ⟨e2,z⟩=>?_⟩
 subst e2
 have:=z _ q
 rw [OM,ey] at this
 cases this
 have hy:=fl y (Od ey)
 refine ⟨Ev.refl,w,?_,mL so ey⟩
 cases y with
 | none=>rfl
 | bool b=>rfl
 | int i=>rfl
 | str x=>rfl
 | _=>simp at hy
def JS (e:ME):MA:=fun ρ h=>(e ρ h).bind fun x h1=>match x with
 | .ktup xs=>.ok (xs.map D.dat) h1
 | _=>.bad
theorem ES {tg:Expr} (h:DE X E m e):DI X E (JS m) tg e:=by
 simp only [bw,jt] at *
 exact PI.imp (Bk h) fun σ H R ⟨θ,h,ρ,w,fr,p⟩=>⟨θ,h,ρ,w,fr,(aG.bind p).mono fun d θ1 h1 H1 _ _ ⟨ev,w1,p1⟩ v r=>by
   cases d with
   | ktup xs=>
    obtain ⟨a,e,kt⟩:=r
    exact ⟨a,e,⟨_,.inr kt.1⟩,p1 θ1 H1 Ev.refl w1 _ (ER kt)⟩
   | _=>exact p1.elim⟩
def IX (x:D) (h:Hm):Bool:=match x with
 | .ref j=>match h[j]? with
  | some (.lst _)=>true
  | _=>false
 | _=>false
def rW (f:D->D->Hm->R D) (a b:ME):ME:=fun ρ h=>(a ρ h).bind fun x h1=>if IX x h1 then (b ρ h1).bind fun y h2=>f x y h2 else .bad
theorem ET {x:D} {h:Hm} (e:IX x h=true):∃ j xs,x=.ref j/\h[j]?=some (.lst xs):=by
 unfold IX at e
 split at e
 ·rename_i j
  split at e
  ·rename_i xs hx
   exact ⟨j,xs,rfl,hx⟩
  ·cases e
 ·cases e
theorem mO {G:Gx} {j:Nat} {xs:List D} {v:V} (w:W G θ hm H) (r:bN G θ H (.ref j) v) (e:hm[j]?=some (.lst xs)):∃ a vs,v=.ref a/\θ[j]?=some a/\H a=some (.lst vs)/\aO G θ H xs vs:=by
 obtain ⟨a,ha,rfl⟩:=r
 obtain ⟨vs,hv,rs⟩:=w.obj _ _ _ ha e
 exact ⟨a,vs,rfl,ha,hv,rs⟩
theorem aO.erase {G:Gx}:∀ {xs:List D} {vs:List V} (n:Nat),aO G θ H xs vs->aO G θ H (xs.eraseIdx n) (vs.eraseIdx n)
 | _,_,_,.nil=>.nil
 | _,_,0,.cons _ t=>t
 | _,_,n+1,.cons r t=>.cons r (aO.erase n t)
theorem aO.JT {G:Gx} {d:D} {v:V} (q:bN G θ H d v):∀ {xs:List D} {vs:List V} (n:Nat),aO G θ H xs vs->aO G θ H (xs.set n d) (vs.set n v)
 | _,_,_,.nil=>.nil
 | _,_,0,.cons _ t=>.cons q t
 | _,_,n+1,.cons r t=>.cons r (aO.JT q n t)
theorem W.yh {G:Gx} {j:Nat} {a:Addr} {xs:List D} {vs:List V} (w:W G θ hm H) (ha:θ[j]?=some a) (hl:j < hm.length) (r:aO G θ H xs vs):Ev θ H θ (upd H a (.lst vs))/\W G θ (hm.set j (.lst xs)) (upd H a (.lst vs)):=by
 have hmm:a∈θ:=Od ha
 have e:Ev θ H θ (upd H a (.lst vs)):=⟨⟨[],by simp⟩,fun b u q=>by
  obtain ⟨h1,h2⟩:=cY q
  have ne:b≠a:=fun z=>by subst z;exact h1 hmm
  rw [dP h1,aB ne]
  exact h2⟩
 exact w.write ha hl ⟨vs,ba,r.ev e⟩
theorem gn {α:Type} {xs:List α} {i:Nat} {x:α} (h:xs[i]?=some x):i < xs.length:=(NY.mp h).1
theorem Cd {G:Gx} {K:PySem.W.Frag} {f:D->D->Hm->R D} {r:V->List V->Hp->VK->Prop} {σ:L2.St} {H:Hp} {Q:VK} (h:lE G E (rW f ma' mb) σ H Q) (k:∀ θ h H d1 d2 x y,W G θ h H->bN G θ H d1 x->bN G θ H d2 y->aG G (nL G E) θ H (f d1 d2 h) (KV G Q)->r x [y] H Q) :
  MK K "list" r (lE G E ma') (F0 (lE G E mb) Hc) σ H Q:=by
 obtain ⟨θ,h,ρ,w,fr,p⟩:=h
 refine ⟨θ,h,ρ,w,fr,(aG.bind p).mono fun d θ1 h1 H1 _ _ ⟨ev,w1,p1⟩ v r1=>?_⟩
 split at p1
 ·rename_i hl
  obtain ⟨j,xs,rfl,hx⟩:=ET hl
  obtain ⟨a,vs,rfl,ha,hv,rs⟩:=mO w1 r1 hx
  exact ⟨.inl ⟨rfl,_,iu.of hv⟩,θ1,h1,ρ,w1,fr.ev ev,(aG.bind p1).mono fun d2 θ2 h2 H2 _ _ ⟨ev2,w2,p2⟩ y r2=>k θ2 h2 H2 _ d2 _ y w2 (r1.ev ev2) r2 p2⟩
 ·exact p1.elim
theorem tm {apos cpos:Pos} (ho:DE X E ma' o) (ha:DE X E mb e) (hbase:attributeBase o "append" X.env (eval o X.env)=eval o X.env:=by rfl)
  (hfew:((backTo cpos (starEach [e] X.env)).all (fun x=>!x.1) && (backToKw cpos (keywordEach [] X.env)).all (fun x=>x.1.isSome) && decide ([e].length+([]:List Keyword).length+(if ([]:List Keyword).isEmpty then 0 else 1) < 30))=true:=by rfl)
  (hline:(apos.endLine == cpos.line)=true:=by rfl) (hs:starEach [e] X.env=(false,eval e X.env)::starEach [] X.env:=by rfl) (hplain:(backTo cpos (starEach [] X.env)).any (·.1)=false:=by rfl):DE X E (rW kc ma' mb) (.Call (.Attribute o "append" apos) [e] [] cpos):=by
 simp only [bw] at *
 exact PE.imp (F2 PySem.F.plainAttrs_list PySem.F.slot_list_append PySem.F.type_list_append Aw ho (ka ha pO hs) hbase hfew hline hs hplain) fun σ H Q q=>Cd q fun θ h H d1 d2 x y w r1 r2 p=>by
   unfold kc at p
   split at p
   ·rename_i j
    split at p
    ·rename_i xs hx
     split at p
     ·rename_i hz
      obtain ⟨a,vs,rfl,ha,hv,rs⟩:=mO w r1 hx
      have hl:xs.length=vs.length:=Oc rs
      obtain ⟨e1,w1⟩:=w.yh ha (gn hx) (eI rs (.cons r2 .nil))
      exact ⟨a,vs,y,rfl,rfl,hv,by rw [<- hl,P8];exact Pb hz,p _ _ e1 w1 _ AQ⟩
     ·exact p.elim
    ·exact p.elim
   ·exact p.elim
theorem Ce {apos cpos:Pos} (ho:DE X E ma' o) (ha:DE X E mb e) (hbase:attributeBase o "pop" X.env (eval o X.env)=eval o X.env:=by rfl)
  (hfew:((backTo cpos (starEach [e] X.env)).all (fun x=>!x.1) && (backToKw cpos (keywordEach [] X.env)).all (fun x=>x.1.isSome) && decide ([e].length+([]:List Keyword).length+(if ([]:List Keyword).isEmpty then 0 else 1) < 30))=true:=by rfl)
  (hline:(apos.endLine == cpos.line)=true:=by rfl) (hs:starEach [e] X.env=(false,eval e X.env)::starEach [] X.env:=by rfl) (hplain:(backTo cpos (starEach [] X.env)).any (·.1)=false:=by rfl):DE X E (rW nH ma' mb) (.Call (.Attribute o "pop" apos) [e] [] cpos):=by
 simp only [bw] at *
 exact PE.imp (F2 PySem.F.plainAttrs_list PySem.F.slot_list_pop PySem.F.type_list_pop Bx ho (ka ha pO hs) hbase hfew hline hs hplain) fun σ H Q q=>Cd q fun θ h H d1 d2 x y w r1 r2 p=>by
   unfold nH at p
   split at p
   ·rename_i j kk
    split at p
    ·rename_i xs hx
     split at p
     ·rename_i hz
      split at p
      ·rename_i d hd
       obtain ⟨a,vs,rfl,ha,hv,rs⟩:=mO w r1 hx
       have hl:xs.length=vs.length:=Oc rs
       obtain ⟨z,ez,rz⟩:=rs.some hd
       obtain ⟨e1,w1⟩:=w.yh ha (gn hx) (aO.erase kk.toNat rs)
       refine ⟨a,vs,kk,kk.toNat,z,rfl,by rw [bK r2],hv,by omega,by omega,?_,ez,p _ _ e1 w1 _ (rz.ev e1)⟩
       exact PySem.seqIndex_of hz.1 (by omega)
      ·exact p.elim
     ·exact p.elim
    ·exact p.elim
   ·exact p.elim
theorem AV {G:Gx} {F:XP} {d1 d2 d:D} {x y v:V} {Q:Hp->Prop} (w:W G θ hm H) (r1:bN G θ H d1 x) (r2:bN G θ H d2 y) (rd:bN G θ H d v) (p:aG G F θ H (zj d1 d2 d hm) (fun _ _ _ H'=>Q H')):F1 x y v H Q:=by
 cases d1 with
 | ref j=>
  cases d2 with
  | dat dd=>
   cases dd with
   | int kk=>
    simp only [zj] at p
    cases hx:hm[j]? with
    | none=>rw [hx] at p;exact p.elim
    | some oo=>
     rw [hx] at p
     cases oo with
     | lst xs=>
      simp only at p
      cases hn:rM xs.length kk with
      | none=>rw [hn] at p;exact p.elim
      | some n=>
       rw [hn] at p
       obtain ⟨a,vs,rfl,ha,hv,rs⟩:=mO w r1 hx
       have hl:xs.length=vs.length:=Oc rs
       obtain ⟨e1,w3⟩:=w.yh ha (gn hx) (aO.JT rd n rs)
       exact ⟨a,vs,kk,n,rfl,bK r2,hv,by rw [<- hl];exact hn,p _ _ e1 w3⟩
     | _=>exact p.elim
   | _=>exact p.elim
  | _=>exact p.elim
 | _=>exact p.elim
theorem zB {α β:Type} {xs:List α} {ys:List β} (h:xs.length=ys.length):(!xs.isEmpty)=!ys.isEmpty:=by
 cases xs<;>cases ys<;>simp_all
theorem qv {G:Gx} {d:D} {v:V} {b:Bool} (w:W G θ hm H) (r:bN G θ H d v) (e:truth d hm=some b):Ha G.K v H b:=by
 unfold truth at e
 split at e
 ·cases e;cases r.1;rfl
 ·cases e;cases r.1;rfl
 ·cases e;cases r.1;rfl
 ·split at e
  ·rename_i hz;cases e;cases r.1;exact ⟨dQ hz,rfl⟩
  ·cases e
 ·cases e
  obtain ⟨a,us,rfl,ha,q1,_⟩:=gb r
  exact .inr (.inl ⟨us,fU.of (aA _ _ _ _ ha),zB q1.length.symm⟩)
 ·cases e
  obtain ⟨a,us,rfl,ha,q1,_⟩:=gc r
  exact .inl ⟨us,iu.of (aA _ _ _ _ ha),zB q1.length.symm⟩
 ·split at e
  ·rename_i xs hx
   cases e
   obtain ⟨a,vs,rfl,ha,hv,rs⟩:=mO w r hx
   refine .inl ⟨vs,iu.of hv,?_⟩
   cases rs<;>rfl
  ·cases e
 ·cases e
theorem cH (h:DE X E m e) (he:∀ whole,isTrue e X.env whole=(do let v <- whole;standAt e.pos;holding [v] (truthy v)):=by intro _;rfl):DT X E (bP m) e:=by
 simp only [bw,jL] at *
 exact PT.imp (Bp h he) fun σ H Q ⟨θ,h,ρ,w,fr,p⟩=>⟨θ,h,ρ,w,fr,(aG.bind p).mono fun d θ1 h1 H1 _ _ ⟨ev,w1,p1⟩ v r=>by
   split at p1
   ·rename_i b hb
    exact ⟨b,qv w1 r hb,p1 θ1 H1 Ev.refl w1⟩
   ·exact p1.elim⟩
theorem Cf (hr:cz k X.A) {pins:List (Addr×Obj)} {s:Shared} {σ:L2.St} {H:Hp} {x y:V} {v u:Value} {Q:VK} {θ:List Addr} {h:Hm} {d1 d2:D} {b:Bool} (I:Inv X pins σ H s) (rx:RelV x v) (ry:RelV y u) (w:W X.G θ h H) (r1:bN X.G θ H d1 x) (r2:bN X.G θ H d2 y) (hb:mz d1 d2 h=some b) :
  (Q (.bl b) H->wpAny (model X.prog X.w) X.A (compareOp .In v u) (EP X pins σ Q) X.xe s)/\(Q (.bl !b) H->wpAny (model X.prog X.w) X.A (compareOp .NotIn v u) (EP X pins σ Q) X.xe s):=by
 unfold mz at hb
 split at hb
 ·split at hb
  ·cases hb
   exact ⟨fun q=>Ao pins s σ H x y v u Q I rx ry ⟨_,_,(eM r1).1,(eM r2).1,q⟩,fun q=>ud pins s σ H x y v u Q I rx ry ⟨_,_,(eM r1).1,(eM r2).1,q⟩⟩
  ·cases hb
 ·split at hb
  ·rename_i d ds e1 e2
   obtain ⟨⟨as,z1⟩,s1⟩:=fN I w 3 r1 rx e1
   obtain ⟨⟨bs,z2⟩,s2⟩:=fN I w 3 r2 ry e2
   exact B4 hr (.inl rfl) I z1 z2 s1 (by simpa [cD] using s2) hb
  ·rename_i d ds e1 e2
   obtain ⟨⟨as,z1⟩,s1⟩:=fN I w 3 r1 rx e1
   obtain ⟨⟨bs,z2⟩,s2⟩:=fN I w 3 r2 ry e2
   exact B4 hr (.inr rfl) I z1 z2 s1 (by simpa [cD] using s2) hb
  ·cases hb
end
end Ml
namespace PySem
open Sem (wp)
def Heap.eN (h:Heap) (d:Addr) (es:Array DictEntry) (ep:Nat):Prop:=∃ o,h.get? d=some o/\o.ExactDict/\o.data=.dict es ep
theorem Heap.eN.typeIs {s:Shared} {d:Addr} {es:Array DictEntry} {ep:Nat} (x:s.heap.eN d es ep):s.TypeIs (.ref d) "dict" := let ⟨o,ho,hc,_⟩:=x;⟨o,ho,hc.1⟩
theorem Heap.eN.at {h h':Heap} {d:Addr} {es:Array DictEntry} {ep:Nat} (x:h.eN d es ep) (e:∀ o,h.get? d=some o->h'.get? d=some o):h'.eN d es ep:=let ⟨o,ho,r⟩:=x;⟨o,e _ ho,r⟩
section
variable {prog:Program} {w:World} {A:Around} {E:Value->Shared->Prop} {s:Shared} {d it:Addr} {es:Array DictEntry} {ep i:Nat}
theorem Cg {Q:Value->Shared->Prop} (hd:(d == sysModules)=false) (hm:s.heap.eN d es ep)
  (hQ:Q (.ref s.heap.objs.size) {s with heap:=s.heap.push {cls:=.type "dict_keyiterator",data:=.fields #[.ref d,.int 0 0,.int es.size 0,.int ep 0]}}):wpAny (model prog w) A (pyIter (.ref d)) Q E s:=by
 have hT:=hm.typeIs
 obtain ⟨o,ho,hc,hdat⟩:=hm
 refine Qy hT F.slot_dict_iter (Of F.slot_dict_iter hT F.entry_dict_iter ?_ (F.args_dict_iter_1 _))
 unfold Builtin.«dict.__iter__»
 refine NC ?_
 unfold Builtin.Dict.dictSlotNone
 refine NC (wpAny_notOrdered_dict hT ?_)
 show wpAny _ _ (pure (Value.ref d)) _ _ s
 refine ND ?_
 show wpAny _ _ (Builtin.Dict.showsAll d >>= _) _ _ s
 unfold Builtin.Dict.showsAll
 rw [if_neg (by rw [hd];exact Oa)]
 refine NC (ND ?_)
 refine NC (Q4 ho hdat ?_)
 refine NC (wpAny_dictEpoch ho hdat ?_)
 refine NC (Om (ND ⟨_,rfl, "dict_keyiterator",_,⟨_,NL _ rfl,rfl⟩,OX.lookup,?_⟩))
 simpa [rawInt] using hQ
theorem Ci {Q:Option Value->Shared->Prop} (hit:s.heap.IsKeyIter it d i es.size ep) (hm:s.heap.eN d es ep) (hlt:i < es.size)
  (hQ:∀ h',h'.IsKeyIter it d (i+1) es.size ep->Heap.SameBut it s.heap h'->Q (some es[i].key) {s with heap:=h'}):wpAny (model prog w) A (pyNext (.ref it)) Q E s:=by
 obtain ⟨o,ho,hc,hd⟩:=id hit
 obtain ⟨od,hod,hcd,hdd⟩:=id hm
 unfold pyNext
 refine NC (Qe (Oj (name:=Str.ofString "__next__") hit.typeIs OX
  (Of OX hit.typeIs F.entry_dict_keyiterator_next ?_ (F.args_dict_keyiterator_next_1 _))))
 refine NC (ND ?_)
 refine NC ?_
 refine NC ?_
 first | refine NC (Pm hit.typeIs (ND ?_)) | refine NC (P9 hit.typeIs (ND ?_))
 refine NC (wpAny_fieldsOf ho hd ?_)
 have hown:Builtin.Dict_items.ownsTuple "dict_keyiterator" = false:=by decide
 simp only [hown,NP,Ou]
 show wpAny _ _ (if (Value.ref d == Value.none)=true then _ else _) _ _ s
 rw [if_neg (show ¬ ((Value.ref d == Value.none)=true) from Oa)]
 refine NC (ND ?_)
 refine NC (Q4 hod hdd ?_)
 rw [if_neg (by simp)]
 refine NC (ND ?_)
 refine NC (wpAny_dictEpoch hod hdd ?_)
 rw [if_neg (by simp)]
 refine ND ?_
 simp only [show ¬ ((i:Int) < 0) from by omega,Ou,OG,N6 hlt]
 refine NC ?_
 first | refine NC (Pm hit.typeIs (ND ?_)) | refine NC (P9 hit.typeIs (ND ?_))
 refine NC (wpAny_isOneOf_keyiter hit.typeIs ?_)
 show wpAny _ _ (setField (.ref it) 1 (rawInt ((i:Int)+1)) >>= _) _ _ s
 refine NC (Q7 ho hd (by simp) ?_)
 have hit':(s.heap.update it (Obj.mapFields (·.setIfInBounds 1 (rawInt ((i:Int)+1))))).IsKeyIter it d (i+1) es.size ep:=
  ⟨_,OV _ ho (Rg (Qm hd _)),(Obj.cls_mapFields ..).trans hc,by rw [Qm hd];simp [rawInt]⟩
 refine NC (Ow ?_)
 refine NC (wpAny_isOneOf_keyiter (s:={s with heap:=s.heap.update it (Obj.mapFields (·.setIfInBounds 1 (rawInt ((i:Int)+1))))}) hit'.typeIs ?_)
 show wpAny _ _ (pure es[i].key) _ _ _
 exact ND (ND ⟨_,rfl,ND (hQ _ hit' (Py ..))⟩)
theorem EU {Q:Option Value->Shared->Prop} (hh:A.handled=none) (hit:s.heap.IsKeyIter it d i es.size ep) (hm:s.heap.eN d es ep) (hge:es.size<=i)
  (hQ:∀ h',Heap.ExtBut it s.heap h'->Q none {s with heap:=h'}):wpAny (model prog w) A (pyNext (.ref it)) Q E s:=by
 obtain ⟨o,ho,hc,hd⟩:=id hit
 obtain ⟨od,hod,hcd,hdd⟩:=id hm
 unfold pyNext
 refine NC (Qe (Oj (name:=Str.ofString "__next__") hit.typeIs OX
  (Of OX hit.typeIs F.entry_dict_keyiterator_next ?_ (F.args_dict_keyiterator_next_1 _))))
 refine NC (ND ?_)
 refine NC ?_
 refine NC ?_
 first | refine NC (Pm hit.typeIs (ND ?_)) | refine NC (P9 hit.typeIs (ND ?_))
 refine NC (wpAny_fieldsOf ho hd ?_)
 have hown:Builtin.Dict_items.ownsTuple "dict_keyiterator" = false:=by decide
 simp only [hown,NP,Ou]
 show wpAny _ _ (if (Value.ref d == Value.none)=true then _ else _) _ _ s
 rw [if_neg (show ¬ ((Value.ref d == Value.none)=true) from Oa)]
 refine NC (ND ?_)
 refine NC (Q4 hod hdd ?_)
 rw [if_neg (by simp)]
 refine NC (ND ?_)
 refine NC (wpAny_dictEpoch hod hdd ?_)
 rw [if_neg (by simp)]
 refine ND ?_
 simp only [show ¬ ((i:Int) < 0) from by omega,Ou,OG,Q0 hge]
 refine NC ?_
 first | refine NC (Pm hit.typeIs (ND ?_)) | refine NC (P9 hit.typeIs (ND ?_))
 show wpAny _ _ (setField (.ref it) 0 .none >>= _) _ _ s
 refine NC (Q7 ho hd (by simp) ?_)
 show wpAny _ _ (newExc (.type "StopIteration") [] >>= _) _ _ _
 refine NC ?_
 simp only [newExc,newTuple]
 refine NC (Om ?_ (by size_fits))
 refine NC (m:=firstArgMember _ _) (Qd (a:=Value.none) (by first | rfl | (simp only [firstArgMember];rfl)) ?_)
 refine Om ?_ (by size_fits)
 simp only [raiseNew]
 refine NC (wpAny_handled ?_)
 rw [show A.in1.handled=none from hh]
 refine NC (ND (wpAny_throw ?_))
 refine NC (QH (T := "StopIteration") (b:=true) ⟨_,NL _ rfl,rfl⟩ isSubtype_stop ?_)
 exact ND (hQ _ (((Py ..).extBut.push _).push _))
theorem Walks.EV (hh:A.handled=none) (I d:Addr) (hne:d≠I) (es:Array DictEntry) (ep:Nat) :
  Walks prog w A I [I,d] [I] es.size (fun i v=>∃ e,es[i]?=some e/\v=e.key) (fun i h=>h.IsKeyIter I d i es.size ep/\h.eN d es ep) where
 sub:=fun b hb=>by simp at hb;simp [hb]
 frame:=fun _ _ _ st hk=>⟨st.1.at fun o e=>hk I (by simp) o e,st.2.at fun o e=>hk d (by simp) o e⟩
 item:=fun i s Q E hi st hQ=>Ci st.1 st.2 hi fun h' hit' hs'=>
  hQ _ h' s.toks ⟨es[i],N6 hi,rfl⟩ ⟨hit',st.2.at fun o e=>hs'.extBut d o hne e⟩ fun b o hb e=>hs'.extBut b o (fun h=>hb (by simp [h])) e
 done:=fun s Q E st hQ=>EU hh st.1 st.2 (NI _) fun h' he'=>hQ h' s.toks fun b o hb e=>he' b o (fun h=>hb (by simp [h])) e
 self:=fun _ _ _ _ st hQ=>wpAny_pyIter_keyiter st.1 hQ
theorem EW (lo:(d == sysModules)=false):PySem.W.KdlSrc prog w "dict" d d es.size (fun i v=>∃ e,es[i]?=some e/\v=e.key) (fun h=>h.eN d es ep) where
 type:=fun _ hm=>hm.typeIs
 there:=fun _ hm=>let ⟨_,ho,_⟩:=hm;⟨NK ho,NK ho⟩
 keep:=fun _ _ hm hk=>hm.at fun o e=>hk d (.inl rfl) o e
 notList:=by decide
 notTuple:=by decide
 hint:=fun _ _ _ _ hm hq=>PySem.W.kdl_hint_dict hm.typeIs hq
 iter:=fun _ _ hh hm=>⟨_,_,(fun _ _ hq=>Cg lo hm hq),Walks.EV hh _ d (let ⟨_,ho,_⟩:=hm;N0 (NK ho)) es ep,⟨⟨_,NL _ rfl,rfl,rfl⟩,hm.at fun o e=>NF _ e⟩⟩
theorem Cj {Q:Value->Shared->Prop} (lo:(d == sysModules)=false) (hh:A.handled=none) (hm:s.heap.eN d es ep) (hn:es.size<=sizeLine)
  (hQ:∀ h' tk c',(∀ b o,s.heap.get? b=some o->h'.get? b=some o)->h'.get? s.heap.objs.size=some {cls:=.type "list",dict:=none,data:=.seq (es.map (·.key)) c',slots:=#[]}->Q (.ref s.heap.objs.size) {s with heap:=h',toks:=tk}) :
  wpAny (model prog w) A (call (.type "list") [.ref d]) Q E s:=
 PySem.W.kdl_call (EW lo) hh hm hn fun h' tk acc' c' hk hS hacc=>by
  have e:acc'=es.map (·.key):=by
   apply Array.ext
   ·simp [hacc.1]
   ·intro j h1 h2
    obtain ⟨e,he,hv⟩:=hacc.2 j acc'[j] (N6 h1)
    have hj:j < es.size:=by simpa using h2
    rw [N6 hj] at he
    cases he
    rw [hv]
    simp
  rw [e] at hS
  exact hQ h' tk c' hk hS
end
end PySem
namespace Ml
open PySem PySem.Spec L2
section
variable {X:Cx} {E:XK} {k:Nat} {θ:List Addr} {hm:Hm} {H M:Hp} {pins:List (Addr×Obj)} {σ:L2.St} {s:Shared}
theorem iY {x:Str}:∀ {ks:List (Key×V)} {kvs:List (PyData×PyData)},bx ks=some kvs->mw (.str x) kvs=(ks.any fun kv=>decide (kv.1=Sum.inr x))
 | [],kvs,e=>by cases e;rfl
 | (q,v)::ks,kvs,e=>by
  unfold bx at e
  cases e1:gx v with
  | none=>rw [e1] at e;cases e
  | some d=>
   cases e2:bx ks with
   | none=>rw [e1,e2] at e;cases e
   | some ds=>
    rw [e1,e2] at e
    cases e
    have ih:=iY (x:=x) e2
    unfold mw at ih ⊢
    rw [Qu,Qu,ih]
    congr 1
    cases q with
    | inl i=>rw [key_lr'];simp [vQ,PyData.eqv]
    | inr y=>
     simp only [vQ,PyData.eqv]
     by_cases e:y=x
     ·subst e;simp
     ·have:¬ (Sum.inr y:Key)=Sum.inr x:=fun z=>e (Sum.inr.inj z)
      rw [NW this]
      simpa using e
where
 key_lr' {a:Int} {b:Str}:decide ((Sum.inl a:Key)=Sum.inr b)=false:=NW (fun q=>nomatch q)
theorem zC (q:Key) (x:Str):PyData.eqv (vQ q) (.str x)=decide (q=Sum.inr x):=by
 cases q with
 | inl i=>rw [NW (fun z=>nomatch z)];simp [vQ,PyData.eqv]
 | inr y=>
  simp only [vQ,PyData.eqv]
  by_cases e:y=x
  ·subst e;simp
  ·rw [NW (fun z=>e (Sum.inr.inj z))];simpa using e
theorem qw {x:Str} {u:V} {dv:PyData} (hv:gx u=some dv):∀ {ks:List (Key×V)} {kvs:List (PyData×PyData)},bx ks=some kvs ->
  bx (ks.map fun kv=>if kv.1=Sum.inr x then (kv.1,u) else kv)=some (kvs.map fun p=>if PyData.eqv p.1 (.str x) then (p.1,dv) else p)
 | [],kvs,e=>by cases e;rfl
 | (q,v)::ks,kvs,e=>by
  unfold bx at e
  cases e1:gx v with
  | none=>rw [e1] at e;cases e
  | some d=>
   cases e2:bx ks with
   | none=>rw [e1,e2] at e;cases e
   | some ds=>
    rw [e1,e2] at e
    cases e
    have ih:=qw (x:=x) hv e2
    rw [Ob,Ob,zC]
    by_cases hq:q=Sum.inr x
    ·simp only [hq,decide_true,Ot]
     unfold bx
     rw [hv,ih]
    ·simp only [hq,decide_false,Ou,NP]
     unfold bx
     rw [e1,ih]
theorem oB {x:Str} {u:V} {dv:PyData} (hv:gx u=some dv):∀ {ks:List (Key×V)} {kvs:List (PyData×PyData)},bx ks=some kvs->bx (ks++[(Sum.inr x,u)])=some (kvs++[(.str x,dv)])
 | [],kvs,e=>by cases e;simp [bx,hv,vQ]
 | (q,v)::ks,kvs,e=>by
  unfold bx at e
  cases e1:gx v with
  | none=>rw [e1] at e;cases e
  | some d=>
   cases e2:bx ks with
   | none=>rw [e1,e2] at e;cases e
   | some ds=>
    rw [e1,e2] at e
    cases e
    have ih:=oB (x:=x) hv e2
    rw [Qi]
    unfold bx
    rw [e1,ih]
    rfl
theorem qx {x:Str} {u:V} {dv:PyData} (hv:gx u=some dv) {ks:List (Key×V)} {kvs:List (PyData×PyData)} (e:bx ks=some kvs):bx (putK ks (Sum.inr x) u)=some (dput kvs (.str x) dv):=by
 unfold putK dput
 rw [iY e]
 split
 ·exact qw hv e
 ·exact oB hv e
theorem iZ:∀ {ks:List (Key×V)} {kvs:List (PyData×PyData)},bx ks=some kvs->ks.length=kvs.length
 | [],kvs,e=>by cases e;rfl
 | (q,v)::ks,kvs,e=>by
  unfold bx at e
  cases e1:gx v with
  | none=>rw [e1] at e;cases e
  | some d=>
   cases e2:bx ks with
   | none=>rw [e1,e2] at e;cases e
   | some ds=>rw [e1,e2] at e;cases e;simp [iZ e2]
theorem qy {x:Str}:∀ {ks:List (Key×V)} {kvs:List (PyData×PyData)} {d:PyData},bx ks=some kvs->AJ kvs (.str x)=some d->∃ u,o3 ks (Sum.inr x)=some u/\gx u=some d
 | [],kvs,d,e,g=>by cases e;simp [AJ] at g
 | (q,v)::ks,kvs,d,e,g=>by
  unfold bx at e
  cases e1:gx v with
  | none=>rw [e1] at e;cases e
  | some d'=>
   cases e2:bx ks with
   | none=>rw [e1,e2] at e;cases e
   | some ds=>
    rw [e1,e2] at e
    cases e
    unfold AJ at g
    rw [Pz,zC] at g
    by_cases hq:q=Sum.inr x
    ·simp only [hq,decide_true] at g
     simp at g
     subst g
     exact ⟨v,mf (p:=(q,v)) hq,e1⟩
    ·simp only [hq,decide_false] at g
     obtain ⟨u,h1,h2⟩:=qy (x:=x) e2 g
     exact ⟨u,by rw [mi (p:=(q,v)) hq];exact h1,h2⟩
theorem Ck {u:V} {d:PyData} (h:gx u=some d):Rep M d u:=by
 cases u with
 | non=>cases h;rfl
 | bl b=>cases h;rfl
 | int i=>cases h;rfl
 | str x=>cases h;rfl
 | _=>cases h
theorem wc {u:V} {d:PyData} (f:kR d=true) (h:Rep M d u):gx u=some d:=by
 cases d with
 | none=>cases h;rfl
 | bool b=>cases h;rfl
 | int i=>cases h;rfl
 | str x=>cases h;rfl
 | _=>simp [kR] at f
theorem i6 {q:PyData} (tq:av q=true):∀ {kvs:List (PyData×PyData)} {xs:List (PyData×Addr×Value)},Paired (lD M) kvs xs->mw q kvs=(atKey xs q).isSome
 | _,_,.nil=>rfl
 | _,_,.cons (a:=p) (b:=x) h t=>by
  have ih:=i6 tq t
  unfold mw at ih ⊢
  unfold atKey at ih ⊢
  rw [Qu,Pz,ih]
  by_cases e:x.1=q
  ·rw [NV e,h.1,e,aT (aY tq)];rfl
  ·have:PyData.eqv p.1 q=false:=aQ (aY h.2.1) (aY tq) (by rw [h.1];exact e)
   rw [this,NW e]
   simp
theorem zD (I:Inv X pins σ H s) {d:PyData} {a:Addr} (sm:bH M H) (t:av d=true) (dp:d.depth<=8) (so:cD d=true) (r:Rep M d (.ref a)):HC s.heap d a:=by
 obtain ⟨as,z⟩:=Rep.reads I (r.same sm) rfl
 exact ⟨t,dp,so,as,z⟩
theorem uN (I:Inv X pins σ H s) (sm:bH M H):∀ {kvs:List (PyData×PyData)} {xs:List (PyData×Addr×Value)},Paired (lD M) kvs xs->∀ x∈xs,HC s.heap x.1 x.2.1
 | _,_,.nil,x,hx=>by cases hx
 | _,_,.cons h t,x,hx=>by
  rcases NJ.mp hx with rfl | hx
  ·obtain ⟨e,t1,t2,t3,t4,_⟩:=h
   rw [<- e]
   exact zD I sm t1 t2 t3 t4
  ·exact uN I sm t x hx
theorem yi (I:Inv X pins σ H s) {xs:List (PyData×Addr×Value)} {kvs:List (PyData×PyData)} {a:Addr} (sm:bH M H) (ha:H a=some (dO X.prog X.w xs a)) (r:Paired (lD M) kvs xs) :
  kvs.length<=sizeLine/\(a == sysModules)=false/\s.heap.DictOfH (eG X.prog X.w) a xs:=by
 obtain ⟨⟨h1,h2,o,es,ep,h3,h4,h5,h6,h7⟩,_⟩:=I.hok a _ ha
 exact ⟨by rw [show kvs.length=xs.length from Oc r];exact h1,h2,o,es,ep,h3,h4,h5,h6,uN I sm r,h7⟩
theorem HW {xs:List (PyData×Addr×Value)} {a:Addr} (ha:H a=some (dO X.prog X.w xs a)):IQ (H a):=by rw [ha];exact True.intro
theorem we {q dv:PyData} {u:Value} {v:V} (tq:av q=true) (rv:RelV v u) (rd:Rep M dv v) (sd:cD dv=true):∀ {kvs:List (PyData×PyData)} {xs:List (PyData×Addr×Value)},Paired (lD M) kvs xs ->
  Paired (lD M) (kvs.map fun p=>if PyData.eqv p.1 q then (p.1,dv) else p) (xs.map (putAt q u))
 | _,_,.nil=>.nil
 | _,_,.cons (a:=p) (b:=x) h t=>by
  rw [Ob,Ob]
  refine .cons ?_ (we tq rv rd sd t)
  unfold putAt
  by_cases e:x.1=q
  ·have e2:PyData.eqv p.1 q=true:=by rw [h.1,e];exact aT (aY tq)
   rw [if_pos e,if_pos e2]
   exact ⟨h.1,h.2.1,h.2.2.1,h.2.2.2.1,h.2.2.2.2.1,v,rv,rd,sd⟩
  ·have e2:PyData.eqv p.1 q=false:=aQ (aY h.2.1) (aY tq) (by rw [h.1];exact e)
   rw [if_neg e,e2,if_neg (by simp)]
   exact h
theorem wg {q dv:PyData} {b:Addr} {u:Value} {v:V} (tq:av q=true) (dq:q.depth<=8) (sq:cD q=true) (rq:Rep M q (.ref b)) (rv:RelV v u) (rd:Rep M dv v) (sd:cD dv=true) {kvs:List (PyData×PyData)} {xs:List (PyData×Addr×Value)} (r:Paired (lD M) kvs xs) :
  Paired (lD M) (dput kvs q dv) (storedH xs q b u):=by
 unfold dput storedH
 rw [i6 tq r]
 split
 ·exact we tq rv rd sd r
 ·exact eI r (.cons ⟨rfl,tq,dq,sq,rq,v,rv,rd,sd⟩ .nil)
theorem wj (kvs:List (PyData×PyData)) (q v:PyData):(dput kvs q v).length<=kvs.length+1:=by
 unfold dput
 split
 ·simp
 ·simp
theorem W.Cm {G:Gx} {j:Nat} {a:Addr} {o:HO} {t:Bool} {kvs:List (PyData×PyData)} (w:W G θ hm H) (ha:θ[j]?=some a) (hl:j < hm.length) (r:fu G.P G.w (view θ H) (upd H a o) a t kvs):Ev θ H θ (upd H a o)/\W G θ (hm.set j (.kE t kvs)) (upd H a o):=by
 have hmm:a∈θ:=Od ha
 have e:Ev θ H θ (upd H a o):=⟨⟨[],by simp⟩,fun b u q=>by
  obtain ⟨h1,h2⟩:=cY q
  have ne:b≠a:=fun z=>by subst z;exact h1 hmm
  rw [dP h1,aB ne]
  exact h2⟩
 exact w.write ha hl (fu.same e.same r fun _ q=>q)
def JU (G:Gx) (E:XK):V->V->V->Hp->(Hp->Prop)->Prop:=fun x y v H Q=>∃ θ h d1 d2 d,W G θ h H/\bN G θ H d1 x/\bN G θ H d2 y/\bN G θ H d v/\aG G (nL G E) θ H (uA d1 d2 d h) (fun _ _ _ H'=>Q H')
theorem EX (hr:cz k X.A):GR X (JU X.G E):=by
 intro pins s σ H x y v xv yv u Q I rx ry rv ⟨θ,h,d1,d2,d,w,r1,r2,rd,p⟩
 unfold uA at p
 split at p
 ·rename_i j
  split at p
  ·rename_i t kvs hx
   unfold Ga at p
   split at p
   ·rename_i q dv
    split at p
    ·rename_i hc
     simp only [NG,N7,P4] at hc
     obtain ⟨a,ha,rfl⟩:=r1
     cases rx
     rcases w.obj _ _ _ ha hx with ⟨rfl,ks,h1,h2,h3⟩ | ⟨rfl,xs,h1,h2⟩
     ·have hk:∃ z,q=.str z:=by
       have:=hc.1.1
       simp only [keyOk,NP,Ou] at this
       cases q<;>first | exact ⟨_,rfl⟩ | simp [iS] at this
      obtain ⟨z,rfl⟩:=hk
      have fd:kR dv=true:=by rcases hc.1.2 with z | z;cases z;exact z
      have hv:=wc fd rd.1
      obtain ⟨e2,s2⟩:=eM r2
      subst e2
      have so:∀ p∈dput kvs (.str z) dv,cD p.1=true/\cD p.2=true:=fun p hp=>by
       unfold dput at hp
       split at hp
       ·obtain ⟨p0,hp0,e0⟩:=Oe.mp hp
        split at e0
        ·subst e0;exact ⟨(h3 p0 hp0).1,rd.2⟩
        ·subst e0;exact h3 p0 hp0
       ·rcases NX.mp hp with hp | hp
        ·exact h3 p hp
        ·simp at hp;subst hp;exact ⟨by simpa [cD] using s2,rd.2⟩
      obtain ⟨e1,w1⟩:=w.Cm (o:=.dK (putK ks (Sum.inr z) v)) (t:=false) (kvs:=dput kvs (.str z) dv) ha (gn hx) (.inl ⟨rfl,_,ba,qx hv h2,so⟩)
      exact AB (by have:=hr.units;omega) I (Ep.k (k:=Sum.inr z) h1 (by rw [iZ h2,P8];exact hc.2)) ry rv fun s' I'=>⟨_,I',p _ _ e1 w1⟩
     ·have hk:=hc.1.1
      simp only [keyOk,Ot,NG,N7] at hk
      obtain ⟨b,vs,rfl,hb⟩:∃ b vs,y=.ref b/\view θ H b=some (.tup vs):=by
       cases q with
       | tuple ds=>obtain ⟨b,vs,e,hb,_⟩:=r2.1;exact ⟨b,vs,e,hb⟩
       | _=>simp [fx] at hk
      cases ry
      obtain ⟨hz,hsys,dd⟩:=yi I (aA θ H) h1 h2
      have hz2:xs.length<=sizeLine:=by rw [<- show kvs.length=xs.length from Oc h2];exact hz
      have kr:=wg (b:=b) (u:=u) hk.1.2 hk.2 r2.2 r2.1 rv rd.1 rd.2 h2
      refine wpAny_setItem_heap (knd:=eG X.prog X.w) (hsz:=hz2) (by show X.A.units+1+20 < cLine;have:=hr.units;omega) (zD I (aA θ H) hk.1.2 hk.2 r2.2 r2.1) dd fun h' dd' hs=>?_
      obtain ⟨o,es,ep,g1,g2,g3,g4,_,g5⟩:=dd'
      have hl2:(storedH xs q b u).length<=sizeLine:=by
       rw [<- show (dput kvs q dv).length=_ from Oc kr]
       have:=wj kvs q dv
       rw [P8]
       omega
      refine ⟨_,o9 (t':=_) I (HW h1) hs ⟨o,g1⟩ (Gb (xs:=storedH xs q b u) hl2 hsys g1 g2 g3 g4 g5),?_⟩
      obtain ⟨e1,w1⟩:=w.Cm (o:=dO X.prog X.w (storedH xs q b u) a) (t:=true) (kvs:=dput kvs q dv) ha (gn hx) (.inr ⟨rfl,_,ba,kr⟩)
      exact p _ _ e1 w1
    ·exact p.elim
   ·exact p.elim
  ·exact set_list pins s σ H x y v xv yv u Q I rx ry rv (AV w r1 r2 rd p)
 ·exact p.elim
theorem Cn {ma' mb:ME} {o i:Expr} {pos:Pos} (hr:cz k X.A) (ho:DE X E ma' o) (hi:DE X E mb i) (ha:∀ v,assign (.Subscript o i pos) X.env v=(do
   let ov <- holding [v] (eval o X.env)
   let iv <- holding [v,ov] (eval i X.env)
   standAt pos
   holding [v,ov,iv] (setItem ov iv v)
   release [v,ov,iv] []):=by intro _;rfl):DG X E (vG ma' mb) (.Subscript o i pos):=by
 simp only [bw,kT] at *
 exact fun pins s σ H v u Q I r ⟨θ,h,ρ,d,w,fr,rd,p⟩=>GU ho hi (EX (E:=E) hr) ha pins s σ H v u Q I r ⟨θ,h,ρ,w,fr,(aG.bind p).mono fun d1 θ1 h1 H1 _ _ ⟨ev,w1,p1⟩ x r1=>
   ⟨θ1,h1,ρ,w1,fr.ev ev,(aG.bind p1).mono fun d2 θ2 h2 H2 _ _ ⟨ev2,w2,p2⟩ y r2=>
    ⟨θ2,h2,d1,d2,d,w2,r1.ev ev2,r2,rd.ev (ev.trans ev2),(aG.bind p2).mono fun _ θ3 h3 H3 _ _ ⟨ev3,w3,p3⟩=>p3 θ3 H3 Ev.refl w3 σ (((fr.ev ev).ev ev2).ev ev3)⟩⟩⟩
end
section
variable {X:Cx} {E:XK} {k:Nat} {θ:List Addr} {hm:Hm} {H M:Hp} {pins:List (Addr×Obj)} {σ:L2.St} {s:Shared} {pos:Pos} {e:Expr}
theorem qz {G:Gx} {d:D} {v:V} {t:Bool} {kvs:List (PyData×PyData)} (w:W G θ hm H) (r:bN G θ H d v) (e:gS d hm=some (t,kvs)):∃ a,v=.ref a/\fu G.P G.w (view θ H) H a t kvs:=by
 unfold gS at e
 split at e
 ·cases e
  obtain ⟨a,h1,h2⟩:=r
  exact ⟨a,h1,h2.same (bH.refl _) fun o q=>aA _ _ _ _ q⟩
 ·split at e
  ·rename_i hx
   cases e
   obtain ⟨a,ha,h1⟩:=r
   exact ⟨a,h1,w.obj _ _ _ ha hx⟩
  ·cases e
 ·cases e
theorem EY (hr:cz k X.A) {x:V} {v:Value} {Q:VK} {h:Hm} {d1:D} {b t:Bool} {kvs:List (PyData×PyData)} {a:Addr} (I:Inv X pins σ H s) (rx:RelV x v) (w:W X.G θ h H) (r1:bN X.G θ H d1 x) (dc:fu X.prog X.w (view θ H) H a t kvs) (hb:ux d1 kvs t=some b) :
  (Q (.bl b) H->wpAny (model X.prog X.w) X.A (compareOp .In v (.ref a)) (EP X pins σ Q) X.xe s)/\(Q (.bl !b) H->wpAny (model X.prog X.w) X.A (compareOp .NotIn v (.ref a)) (EP X pins σ Q) X.xe s):=by
 unfold ux at hb
 split at hb
 ·rename_i d
  split at hb
  ·rename_i ok
   cases hb
   rcases dc with ⟨rfl,ks,h1,h2,h3⟩ | ⟨rfl,xs,h1,h2⟩
   ·simp only [keyOk,NP,Ou] at ok
    cases d with
    | str z=>
     cases (eM r1).1
     exact ⟨fun q=>LJ (by have:=hr.units;omega) I (vO.k (k:=Sum.inr z) h1) rx fun s' I'=>⟨.bl _,H,I',rfl,by rw [<- mj,<- iY h2];exact q⟩,
      fun q=>Er (by have:=hr.units;omega) I (vO.k (k:=Sum.inr z) h1) rx fun s' I'=>⟨.bl _,H,I',rfl,by rw [<- mj,<- iY h2];exact q⟩⟩
    | _=>simp [iS] at ok
   ·simp only [keyOk,Ot,NG,N7] at ok
    cases d with
    | tuple ds=>
     obtain ⟨c,vs,rfl,hc,_⟩:=id r1.1
     cases rx
     obtain ⟨hz,hsys,dd⟩:=yi I (aA θ H) h1 h2
     have room:(eG X.prog X.w).room X.A.in1:=by show X.A.units+1+20 < cLine;have:=hr.units;omega
     have tk:=zD I (aA θ H) ok.1.2 ok.2 r1.2 r1.1
     exact ⟨fun q=>wpAny_in_heap (knd:=eG X.prog X.w) room tk hsys dd ⟨.bl _,H,I.tok _,rfl,by rw [<- i6 ok.1.2 h2];exact q⟩,
      fun q=>PyProof.Rows.wpAny_notIn_heap (knd:=eG X.prog X.w) room tk hsys dd ⟨.bl _,H,I.tok _,rfl,by rw [<- i6 ok.1.2 h2];exact q⟩⟩
    | _=>simp [fx] at ok
  ·cases hb
 ·cases hb
theorem zE (hr:cz k X.A) {x y:V} {v u:Value} {Q:VK} {h:Hm} {d1 d2:D} {b:Bool} (I:Inv X pins σ H s) (rx:RelV x v) (ry:RelV y u) (w:W X.G θ h H) (r1:bN X.G θ H d1 x) (r2:bN X.G θ H d2 y) (hb:findIn d1 d2 h=some b) :
  (Q (.bl b) H->wpAny (model X.prog X.w) X.A (compareOp .In v u) (EP X pins σ Q) X.xe s)/\(Q (.bl !b) H->wpAny (model X.prog X.w) X.A (compareOp .NotIn v u) (EP X pins σ Q) X.xe s):=by
 unfold findIn at hb
 split at hb
 ·rename_i p hp
  obtain ⟨t,kvs⟩:=p
  obtain ⟨a,rfl,dc⟩:=qz w r2 hp
  cases ry
  exact EY hr I rx w r1 dc hb
 ·exact Cf hr I rx ry w r1 r2 hb
theorem mP (hr:cz k X.A):mJ X E (compareOp .In) nu:=by
 intro pins s σ H x y v u Q I rx ry ⟨θ,h,d1,d2,w,r1,r2,p⟩
 unfold nu at p
 split at p
 ·rename_i b hb
  exact (zE hr I rx ry w r1 r2 hb).1 (p.kg w (cq _))
 ·exact p.elim
theorem qA (hr:cz k X.A):mJ X E (compareOp .NotIn) iD:=by
 intro pins s σ H x y v u Q I rx ry ⟨θ,h,d1,d2,w,r1,r2,p⟩
 unfold iD at p
 split at p
 ·rename_i b hb
  exact (zE hr I rx ry w r1 r2 hb).2 (p.kg w (cq _))
 ·exact p.elim
theorem Co {kvs:List (PyData×PyData)} {q d:PyData} (h:∀ p∈kvs,cD p.1=true/\cD p.2=true) (e:AJ kvs q=some d):cD d=true:=by
 unfold AJ at e
 obtain ⟨p,hp,rfl⟩:=OA.mp e
 exact (h p (List.mem_of_find?_eq_some hp)).2
theorem bh (hr:cz k X.A):IV X (HD X.G E dY):=by
 intro value slice pins s σ H x y v u Q I rx ry ⟨θ,h,d1,d2,w,r1,r2,p⟩ hs
 unfold dY at p
 split at p
 ·rename_i pp hp
  obtain ⟨t,kvs⟩:=pp
  split at p
  ·rename_i z
   split at p
   ·exact p.elim
   ·rename_i ht
    split at p
    ·rename_i d hd
     obtain ⟨a,rfl,dc⟩:=qz w r1 hp
     cases rx
     rcases dc with ⟨_,ks,h1,h2,h3⟩ | ⟨z1,_⟩
     ·obtain ⟨e2,s2⟩:=eM r2
      subst e2
      obtain ⟨uu,g1,g2⟩:=qy h2 hd
      have T:s.TypeIs (.ref a) "dict" := by
       obtain ⟨_,_,vs,_,o,_,_,e,ex,_⟩:=I.hok a _ h1
       exact ⟨o,e,ex.1⟩
      exact PyProof.Rows.tail_any (ops:=[.ref a,u]) T PySem.F.slot_dict_getitem.lookup (AA (by have:=hr.units;omega) I (by have:=vO.k (k:=Sum.inr z) h1;rw [g1] at this;exact this) ry fun w' s' I' rw'=>⟨uu,H,I',rw',p.kg w ⟨Ck g2,Co h3 hd⟩⟩) hs
     ·exact absurd z1 ht
    ·exact p.elim
  ·exact p.elim
 ·exact B9 value slice pins s σ H x y v u Q I rx ry ⟨θ,h,d1,d2,w,r1,r2,p⟩ hs
end
section
variable {X:Cx} {E:XK} {k:Nat} {θ:List Addr} {hm:Hm} {H M:Hp} {pins:List (Addr×Obj)} {σ:L2.St} {s:Shared} {pos:Pos} {e:Expr}
theorem tp:∀ {kvs:List (PyData×PyData)} {xs:List (PyData×Addr×Value)},Paired (lD M) kvs xs->bf M (kvs.map (·.1)) (xs.map fun x=>V.ref x.2.1)/\cf (kvs.map (·.1))=true
 | _,_,.nil=>⟨rfl,rfl⟩
 | _,_,.cons h t=>by
  obtain ⟨h1,h2⟩:=tp t
  exact ⟨.cons h.2.2.2.2.1 h1,by simp [cf,h.2.2.2.1,h2]⟩
theorem tw:∀ (xs:List (PyData×Addr×Value)),Vals (xs.map fun x=>V.ref x.2.1) (xs.map fun x=>Value.ref x.2.1)
 | []=>.nil
 | _::xs=>.cons rfl (tw xs)
theorem zF {P:Program} {w:World}:∀ {ks:List (Key×V)} {vs:List (Key×Value)} {es:List DictEntry} {kvs:List (PyData×PyData)},bx ks=some kvs->L2.KV ks vs->Pairs (bS P w) es vs->∃ us:List V,Vals us (es.map (·.key))/\bf M (kvs.map (·.1)) us
 | [],_,es,kvs,e,r,p=>by
  cases e
  cases r
  cases es with
  | nil=>exact ⟨[],.nil,rfl⟩
  | cons _ _=>exact (by cases p)
 | (q,v)::ks,_,es,kvs,e,r,p=>by
  cases r with
  | cons r1 r2=>
   rename_i q' vs'
   obtain ⟨k',u⟩:=q'
   obtain ⟨e1,e2⟩:=r1
   simp only at e1 e2
   subst e1
   cases p with
   | cons hk hv hr=>
    unfold bx at e
    cases e1:gx v with
    | none=>rw [e1] at e;cases e
    | some d=>
     cases e3:bx ks with
     | none=>rw [e1,e3] at e;cases e
     | some ds=>
      rw [e1,e3] at e
      cases e
      obtain ⟨us,z1,z2⟩:=zF e3 r2 hr
      rcases bU hk with ⟨i,t,rfl,hk'⟩ | ⟨x,t,rfl,hk'⟩
      ·exact ⟨.int i::us,.cons ⟨t,hk'⟩ z1,.cons rfl z2⟩
      ·exact ⟨.str x::us,.cons ⟨t,hk'⟩ z1,.cons rfl z2⟩
theorem HX (hc:X.calm=true):qh X E (.type "list") zi:=by
 intro pins s σ H xs us Q I r ⟨θ,h,ds,w,rs,p⟩
 unfold zi at p
 split at p
 ·rename_i x
  split at p
  ·rename_i pp hp
   obtain ⟨t,kvs⟩:=pp
   cases rs with
   | cons r1 rr=>
    cases rr
    obtain ⟨a,rfl,dc⟩:=qz w r1 hp
    cases r with
    | cons rv rr=>
     cases rr
     cases rv
     have fin:∀ (es:Array DictEntry) (ep:Nat) (vs:List V),s.heap.eN a es ep->(a == sysModules)=false->kvs.length<=sizeLine->es.size=kvs.length->Vals vs (es.toList.map (·.key))->bf (view θ H) (kvs.map (·.1)) vs->cf (kvs.map (·.1))=true ->
       wpAny (model X.prog X.w) X.A (call (.type "list") [.ref a]) (EP X pins σ Q) X.xe s:=fun es ep vs raw hsys hz hsz hv hrp hso=>by
      refine Cj hsys (I.ok.hd hc) raw (by rw [hsz];exact hz) fun h' tk c' hk hl=>?_
      have hn:H s.heap.objs.size=none:=I.hok.fresh (NI _)
      obtain ⟨e1,w1,g⟩:=w.put (o:=.lst vs) hn
      have hlen:vs.length=kvs.length:=by have:=hrp.length;simpa using this
      refine ⟨.ref s.heap.objs.size,upd H s.heap.objs.size (.lst vs),I.laid (fun b o q=>hk b o q) (NI _) ⟨by rw [hlen];exact hz,es.toList.map (·.key),c',hv,?_⟩,rfl,p _ _ e1 w1 _ ⟨⟨_,vs,rfl,g,hrp.same e1.same⟩,by simpa [cD] using hso⟩⟩
      rw [hl]
      have ee:es.map (·.key)=(es.toList.map (·.key)).toArray:=by apply Array.ext' ;simp
      rw [ee]
     rcases dc with ⟨rfl,ks,h1,h2,h3⟩ | ⟨rfl,xs,h1,h2⟩
     ·obtain ⟨z,ne,vs,rk,o,es,ep,ho,hx,hd,_,hpp,_⟩:=I.hok a _ h1
      obtain ⟨us,v1,v2⟩:=zF (M:=view θ H) h2 rk hpp
      have hl1:ks.length=kvs.length:=iZ h2
      have hl2:es.size=kvs.length:=by
       have a1:=v1.length
       have a2:=v2.length
       simp at a1 a2
       omega
      exact fin es ep us ⟨o,ho,hx,hd⟩ ne (by omega) hl2 v1 v2 (bD.mpr fun d m=>by obtain ⟨p0,hp0,rfl⟩:=Oe.mp m;exact (h3 p0 hp0).1)
     ·obtain ⟨hz,hsys,dd⟩:=yi I (aA θ H) h1 h2
      obtain ⟨o,es,ep,g1,g2,g3,g4,_,_⟩:=dd
      obtain ⟨k1,k2⟩:=tp h2
      have hes:es.toList.map (·.key)=xs.map fun x=>Value.ref x.2.1:=by
       rw [g4,Rh]
       rfl
      have hl2:es.size=kvs.length:=by
       have:=PH List.length g4
       rw [NZ,<- show kvs.length=xs.length from Oc h2] at this
       simpa using this
      exact fin es ep _ ⟨o,g1,g2,g3⟩ hsys hz hl2 (by rw [hes];exact tw xs) k1 k2
  ·exact EN (E:=E) pins s σ H xs us Q I r ⟨θ,h,_,w,rs,p⟩
 ·exact p.elim
end
theorem bN.take {G:Gx} {θ:List Addr} {H:Hp} {n:Nat} {d:D} {v:V} (r:bN G θ H d v) (hb:d.below n=true):bN G (θ.take n) H d v:=by
 have sm:bH (view θ H) (view (θ.take n) H):=fun a o q=>by
  obtain ⟨h1,h2⟩:=cY q
  rw [dP (fun z=>h1 (QD z))]
  exact h2
 cases d with
 | dat d=>exact ⟨r.1.same sm,r.2⟩
 | ref i=>
  obtain ⟨a,h1,h2⟩:=r
  simp only [D.below,N7] at hb
  exact ⟨a,by rw [P0 hb];exact h1,h2⟩
 | kE t kvs=>obtain ⟨a,h1,h2⟩:=r;exact ⟨a,h1,h2.same sm fun o q=>sm _ _ q⟩
 | set xs=>exact r
 | fn n=>exact r
 | scr ns=>obtain ⟨a,h1,h2⟩:=r;exact ⟨a,h1,sm.seq h2⟩
 | ktup xs=>exact r
 | rpr x=>exact r
 | exc x=>obtain ⟨a,c,h1,h2,h3⟩:=r;exact ⟨a,c,h1,sm _ _ h2,h3⟩
theorem aO.take {G:Gx} {θ:List Addr} {H:Hp} {n:Nat}:∀ {ds:List D} {vs:List V},aO G θ H ds vs->ds.all (D.below n)=true->aO G (θ.take n) H ds vs
 | _,_,.nil,_=>.nil
 | _,_,.cons r t,h=>by simp only [List.all_cons,NG] at h;exact .cons (r.take h.1) (aO.take t h.2)
theorem W.take {G:Gx} {θ:List Addr} {H:Hp} {h:Hm} {n:Nat} (w:W G θ h H) (hb:(h.take n).all (MO.below n)=true):W G (θ.take n) (h.take n) H:=by
 have sm:bH (view θ H) (view (θ.take n) H):=fun a o q=>by
  obtain ⟨h1,h2⟩:=cY q
  rw [dP (fun z=>h1 (QD z))]
  exact h2
 refine ⟨by simp [w.len],w.nd.sublist (RJ _ _),fun i a o h1 h2=>?_⟩
 have hi:i < n:=by
  have:=gn h1
  simp at this
  omega
 have mo:=NT.mp hb o (Od h2)
 rw [P0 hi] at h1 h2
 have r:=w.obj i a o h1 h2
 cases o with
 | lst xs=>obtain ⟨vs,q1,q2⟩:=r;exact ⟨vs,q1,q2.take mo⟩
 | kE t kvs=>exact fu.same sm r fun _ q=>q
 | ins=>exact r.elim
 | tab P q=>obtain ⟨rfl,x⟩:=r;exact ⟨rfl,x.same sm fun _ q=>q⟩
theorem Ev.take {θ θ':List Addr} {H H':Hp} (e:Ev θ H θ' H') {n:Nat} (hn:n=θ.length):Ev θ H (θ'.take n) H':=by
 obtain ⟨ext,rfl⟩:=e.pre
 have:(θ++ext).take n=θ:=by rw [hn];simp
 rw [this]
 refine ⟨⟨[],by simp⟩,fun a o q=>?_⟩
 obtain ⟨h1,h2⟩:=cY (e.same a o q)
 rw [dP (fun z=>h1 (Oq _ z))]
 exact h2
theorem aG.iC {G:Gx} {E:XK} {θ:List Addr} {H:Hp} {h:Hm} {F:Fn} {ds:List D} {Q:VK} (w:W G θ h H) (p:aG G (nL G E) θ H (iC F ds h) (KV G Q)):aG G (nL G E) θ H (F ds h) (KV G Q):=by
 unfold Ml.iC at p
 cases e:F ds h with
 | bad=>rw [e] at p;exact p
 | ok d h'=>
  rw [e] at p
  simp only at p
  split at p
  ·rename_i hc
   simp only [NG,N7] at hc
   intro θ' H' ev w' v r
   have w2:=w'.take hc.1.2
   have ev2:=ev.take (n:=h.length) w.len.symm
   exact p _ _ ev2 w2 v (r.take hc.1.1)
  ·exact p.elim
 | exc x h'=>
  rw [e] at p
  simp only at p
  split at p
  ·rename_i hc
   simp only [NG,N7] at hc
   intro θ' H' ev w' cls da xr
   have w2:=w'.take hc.1
   have ev2:=ev.take (n:=h.length) w.len.symm
   exact p _ _ ev2 w2 cls da xr
  ·exact p.elim
theorem aL.iC {P:Program} {w:World} {K:PySem.W.Frag} {mg:Str->Option Value} {base:Heap} {x:Str} {ps:List Str} {k:Nat} {F:Fn} (h:aL P w K mg base x ps k F):aL P w K mg base x ps k (Ml.iC F):=by
 obtain ⟨⟨f,fd,h1,h2,h3,h4⟩,ar⟩:=h
 refine ⟨⟨f,fd,h1,h2,h3,h4.imp fun vs H Q E ⟨θ,hm,ds,w,r,p⟩=>⟨θ,hm,ds,w,r,p.iC w⟩⟩,fun ds hm l=>?_⟩
 unfold Ml.iC
 rw [ar ds hm l]
end Ml
namespace L2
open PySem PySem.Spec
section
variable {X:Cx} {a b:Expr} {rest:List Expr} {ta tb:TE} {pos:Pos}
theorem HY {r:V->Hp->(Bool->Hp->Prop)->Prop} (ht:G0 X r) (ha:PE X a ta) (hb:PE X (.BoolOp .Or (b::rest) pos) tb):PE X (.BoolOp .Or (a::b::rest) pos) (fun σ H Q=>ta σ H fun x H1=>r x H1 fun c H2=>H2=H1/\if c=true then Q x H1 else tb σ H1 Q):=by
 intro pins s σ H Q I h
 refine PyProof.Rows.BoolOp_or (bA (ha pins s σ H _ I h) fun v s1 ⟨x,H1,I1,r1,q1⟩=>?_)
 refine bA (ht pins s1 σ H1 x v _ I1 r1 q1) fun c s2 ⟨H2,I2,e,q2⟩=>?_
 subst e
 cases c with
 | false=>exact hb pins s2 σ H2 Q I2 q2
 | true=>exact ⟨x,H2,I2,r1,q2⟩
theorem EZ {r:V->Hp->(Bool->Hp->Prop)->Prop} (ht:G0 X r) (ha:PE X a ta) (hb:PE X (.BoolOp .And (b::rest) pos) tb):PE X (.BoolOp .And (a::b::rest) pos) (fun σ H Q=>ta σ H fun x H1=>r x H1 fun c H2=>H2=H1/\if c=true then tb σ H1 Q else Q x H1):=by
 intro pins s σ H Q I h
 refine PyProof.Rows.BoolOp_and (bA (ha pins s σ H _ I h) fun v s1 ⟨x,H1,I1,r1,q1⟩=>?_)
 refine bA (ht pins s1 σ H1 x v _ I1 r1 q1) fun c s2 ⟨H2,I2,e,q2⟩=>?_
 subst e
 cases c with
 | true=>exact hb pins s2 σ H2 Q I2 q2
 | false=>exact ⟨x,H2,I2,r1,q2⟩
end
end L2
namespace Ml
open PySem PySem.Spec L2
section
variable {X:Cx} {E:XK} {m a b c:ME} {t u:MT} {e e1 e2 e3:Expr} {es:List Expr} {ma:MA} {pos:Pos} {i:Nat} {x:Str}
def E0 (a b:ME):ME:=fun ρ h=>(a ρ h).bind fun x h1=>match truth x h1 with
 | some c=>if c then .ok x h1 else b ρ h1
 | none=>.bad
def mQ (a b:ME):ME:=fun ρ h=>(a ρ h).bind fun x h1=>match truth x h1 with
 | some c=>if c then b ρ h1 else .ok x h1
 | none=>.bad
theorem Cp (ha:DE X E a e1) (hb:DE X E b (.BoolOp .Or (e2::es) pos)):DE X E (E0 a b) (.BoolOp .Or (e1::e2::es) pos):=by
 simp only [bw] at *
 exact PE.imp (HY xJ ha hb) fun σ H Q ⟨θ,h,ρ,w,fr,p⟩=>⟨θ,h,ρ,w,fr,(aG.bind p).mono fun d θ1 h1 H1 _ _ ⟨ev,w1,p1⟩ v r=>by
   split at p1
   ·rename_i b hb
    refine ⟨b,qv w1 r hb,rfl,?_⟩
    cases b with
    | true=>exact p1 θ1 H1 Ev.refl w1 v r
    | false=>exact ⟨θ1,h1,ρ,w1,fr.ev ev,p1⟩
   ·exact p1.elim⟩
theorem i7 (ha:DE X E a e1) (hb:DE X E b (.BoolOp .And (e2::es) pos)):DE X E (mQ a b) (.BoolOp .And (e1::e2::es) pos):=by
 simp only [bw] at *
 exact PE.imp (EZ xJ ha hb) fun σ H Q ⟨θ,h,ρ,w,fr,p⟩=>⟨θ,h,ρ,w,fr,(aG.bind p).mono fun d θ1 h1 H1 _ _ ⟨ev,w1,p1⟩ v r=>by
   split at p1
   ·rename_i b hb
    refine ⟨b,qv w1 r hb,rfl,?_⟩
    cases b with
    | false=>exact p1 θ1 H1 Ev.refl w1 v r
    | true=>exact ⟨θ1,h1,ρ,w1,fr.ev ev,p1⟩
   ·exact p1.elim⟩
def lH (f g:D->D->Hm->R D) (a b c:ME):ME:=fun ρ h=>(a ρ h).bind fun x h1=>(b ρ h1).bind fun y h2=>(f x y h2).bind fun z h3=>match z with
 | .dat (.bool k)=>if k then (c ρ h3).bind fun w h4=>g y w h4 else .ok (.bool false) h3
 | _=>.bad
theorem wk {G:Gx} {f g:D->D->Hm->R D} {σ:St} {H:Hp} {Q:VK} (h:lE G E (lH f g a b c) σ H Q):xH (HD G E f) (HD G E g) (lE G E a) (lE G E b) (lE G E c) σ H Q:=by
 obtain ⟨θ,h,ρ,w,fr,p⟩:=h
 refine ⟨θ,h,ρ,w,fr,(aG.bind p).mono fun x θ1 h1 H1 _ _ ⟨e1,w1,p1⟩ v r1=>?_⟩
 refine ⟨θ1,h1,ρ,w1,fr.ev e1,(aG.bind p1).mono fun y θ2 h2 H2 _ _ ⟨e2,w2,p2⟩ u r2=>⟨θ2,h2,x,y,w2,r1.ev e2,r2,(aG.bind p2).mono fun z θ3 h3 H3 _ _ ⟨e3,w3,p3⟩ z' r3=>?_⟩⟩
 cases z with
 | dat z=>
  cases z with
  | bool k=>
   refine ⟨k,r3.1,?_⟩
   cases k with
   | true=>exact ⟨θ3,h3,ρ,w3,(fr.ev e1).ev (e2.trans e3),(aG.bind p3).mono fun w' θ4 h4 H4 _ _ ⟨e4,w4,p4⟩ q r4=>⟨θ4,h4,y,w',w4,(r2.ev e3).ev e4,r4,p4⟩⟩
   | false=>exact p3 θ3 H3 Ev.refl w3 _ ⟨rfl,by simp [cD]⟩
  | _=>exact p3.elim
 | _=>exact p3.elim
theorem Cq {op op':CmpOp} {f g:D->D->Hm->R D} (ho:mJ X E (compareOp op) f) (ho':mJ X E (compareOp op') g) (ha:DE X E a e1) (hb:DE X E b e2) (hc:DE X E c e3)
  (hm:lastMarks [op,op'] [e2,e3]=false:=by with_unfolding_all rfl):DE X E (lH f g a b c) (.Compare e1 [op,op'] [e2,e3] pos):=by
 simp only [bw] at *
 exact PE.imp (Bn ho ho' ha hb hc hm) fun _ _ _=>wk
theorem Cr {op op':CmpOp} {f g:D->D->Hm->R D} (ho:mJ X E (compareOp op) f) (ho':mJ X E (compareOp op') g) (ha:DE X E a e1) (hb:DE X E b e2) (hc:DE X E c e3)
  (hm:lastMarks [op,op'] [e2,e3]=false:=by with_unfolding_all rfl):DT X E (aN (lH f g a b c)) (.Compare e1 [op,op'] [e2,e3] pos):=by
 simp only [bw,jL] at *
 exact PT.imp (Bo ho ho' ha hb hc hm) fun _ _ _ q=>wk (zr q)
end
section
variable {X:Cx} {E:XK} {m a b c:ME} {t u:MT} {e e1 e2 e3 tg:Expr} {es:List Expr} {ma:MA} {pos:Pos} {i:Nat} {x:Str} {ss:List Stmt} {st:Stmt}
theorem dv (i:Nat) (hN:X.N[i]?=some x:=by rfl) (hv:DX X.env.scope x:=by first | exact Or.inl rfl | exact Or.inr (Or.inl rfl) | exact Or.inr (Or.inr rfl)) (hd:(x == ("__debug__" : Str))=false:=by decide) (hcd:(x == ("__classdict__" : Str))=false:=by decide):DE X E (ab i) (.Name x pos):=HE hN hv hd hcd
theorem dg (i:Nat) (hN:X.N.Nodup) (hi:X.N[i]?=some x:=by rfl) (hx:Loc X.env.scope x:=by first | exact Or.inl rfl | exact Or.inr rfl) (hf:X.fn x=true\/X.env.scope.names.lookup x=some .local:=by first | exact .inl rfl | exact .inr rfl | assumption):DG X E (ay i) (.Name x pos):=EE hN hi hx hf
def aR (e:ME):MA:=fun ρ h=>match e ρ h with
 | .ok (.dat (.tuple ds)) h1=>.ok (ds.map D.dat) h1
 | .ok (.dat (.list ds)) h1=>.ok (ds.map D.dat) h1
 | .ok (.dat (.str s)) h1=>.ok (signs s) h1
 | .ok (.ktup ds) h1=>.ok (ds.map D.dat) h1
 | .exc x h1=>.exc x h1
 | _=>.bad
theorem cw (h:DE X E m e):DI X E (aR m) tg e:=by
 have at':=HK (tg:=tg) h
 have al':=HL (tg:=tg) h
 have as':=HM (tg:=tg) h
 have ak':=ES (tg:=tg) h
 simp only [jt] at *
 intro pins s σ H QI I ⟨θ,hm,ρ,w,fr,p⟩
 cases em:m ρ hm with
 | bad=>simp only [aR,em] at p;exact p.elim
 | exc x h1=>
  simp only [aR,em] at p
  refine at' pins s σ H QI I ⟨θ,hm,ρ,w,fr,?_⟩
  simp only [ze,em,R.BM]
  exact p
 | ok d h1=>
  cases d with
  | dat d=>
   cases d with
   | tuple ds=>
    simp only [aR,em] at p
    refine at' pins s σ H QI I ⟨θ,hm,ρ,w,fr,?_⟩
    simp only [ze,em,R.ao]
    exact p
   | list ds=>
    simp only [aR,em] at p
    refine al' pins s σ H QI I ⟨θ,hm,ρ,w,fr,?_⟩
    simp only [BO,em,R.ao]
    exact p
   | str ds=>
    simp only [aR,em] at p
    refine as' pins s σ H QI I ⟨θ,hm,ρ,w,fr,?_⟩
    simp only [BP,em,R.ao]
    exact p
   | _=>simp only [aR,em] at p;exact p.elim
  | ktup ds=>
   simp only [aR,em] at p
   refine ak' pins s σ H QI I ⟨θ,hm,ρ,w,fr,?_⟩
   simp only [JS,em,R.ao]
   exact p
  | _=>simp only [aR,em] at p;exact p.elim
end
section
variable {X:Cx} {E:XK} {m:ME} {e:Expr} {es:List Expr} {ma:MA} {pos pos' p p2:Pos} {i:Nat} {x T:Str} {f:Fn} {id n:String} {g:PyData->Bool}
theorem i8 (i:Nat) (hN:X.N.Nodup) (he:DE X E m e) (hi:X.N[i]?=some x:=by rfl) (hx:Loc X.env.scope x:=by first | exact Or.inl rfl | exact Or.inr rfl) (hs:swapsWith e (some (.Name x pos')) pos.line X.env=pure false:=by kernel_rfl) (hf:X.fn x=true\/X.env.scope.names.lookup x=some .local:=by first | exact .inl rfl | exact .inr rfl | assumption) :
  DS X E (cn i m) (.Assign [.Name x pos'] e pos):=HH hN hi hx he hs hf
theorem zG (hc:qh X E (.builtin id) f) (hm:X.mg x=none) (hv:bootBuiltins x=some (.builtin id)) (ha:DA X E ma (e::es)) (hg:Gl X x:=by rfl) (hn:x ≠ "__name__" := by decide) (hdb:(x == ("__debug__" : Str))=false:=by decide)
  (he:starEach (e::es) X.env=(false,eval e X.env)::starEach es X.env:=by rfl) (hpl:(backTo pos (starEach es X.env)).any (·.1)=false:=by rfl):DE X E (ai f ma) (.Call (.Name x p) (e::es) [] pos):=BZ hc hg hm hv ha hn hdb he hpl
theorem kE (hc:qh X E (.type id) f) (hm:X.mg x=none) (hv:bootBuiltins x=some (.type id)) (ha:DA X E ma (e::es)) (hg:Gl X x:=by rfl) (hn:x ≠ "__name__" := by decide) (hdb:(x == ("__debug__" : Str))=false:=by decide)
  (he:starEach (e::es) X.env=(false,eval e X.env)::starEach es X.env:=by rfl) (hpl:(backTo pos (starEach es X.env)).any (·.1)=false:=by rfl):DE X E (ai f ma) (.Call (.Name x p) (e::es) [] pos):=AM hc hg hm hv ha hn hdb he hpl
theorem Cs (kit:∀ d,PySem.W.kitOne X.K (.type (JF d)) (.type n)=some (g d)) (bt:bootBuiltins T=some (.type n)) (m1:X.mg "isinstance" = none) (m2:X.mg T=none) (h:DE X E m e) (g1:Gl X "isinstance" := by rfl) (g2:Gl X T:=by rfl) (hT:T ≠ "__name__" := by decide) (hT2:(T == ("__debug__" : Str))=false:=by decide)
  (hs:starEach [e,.Name T p2] X.env=(false,eval e X.env)::starEach [.Name T p2] X.env:=by rfl) (hs2:starEach [.Name T p2] X.env=[(false,eval (.Name T p2) X.env)]:=by rfl) (hpl:(backTo pos (starEach [.Name T p2] X.env)).any (·.1)=false:=by rfl):DE X E (F9 (vW g) m) (.Call (.Name "isinstance" p) [e,.Name T p2] [] pos):=HV kit bt m1 m2 h g1 g2 hT hT2 hs hs2 hpl
end
def Df (K:PySem.W.Frag) (mg:Str->Option Value) (x:Str) (ps:List Str) (st:Stmt):Prop:=∃ f fd,mg x=some (.ref f)/\F3 K x x st f fd/\Binds K fd ps []
theorem cM {K:PySem.W.Frag} {h:Heap} {mg:Str->Option Value} {x:Str} {ps:List Str} {st:Stmt} {f:Addr} {od an:Option Addr} {sl:Array (Option Value)} {oc kV dc pm cd ct:Value} (X:K.In h) (G:h.Ns mainGlobals mg)
  (a:PySem.W.nsIn K mainGlobals x=some (some (.ref f))) (l:K.lookup f=some ⟨oc,od,.func (PySem.W.fnOf x x (gN st) (eW st) (aD st) .none kV dc pm an cd ct),sl⟩) (c:PySem.W.codeIn K cd x=true) (k:PySem.W.keepIn K (.ref f)=true)
  (hb:∀ (kV doc pm:Value) (an:Option Addr) (cdv ct:Value) (us:List Value),us.length=ps.length->bindArgs (PySem.W.fnOf x x (gN st) (eW st) (aD st) .none kV doc pm an cdv ct) ⟨us,[]⟩=pure (ps.zip us)):Df K mg x ps st:=
 ⟨f,_,Qz X G a,xR l c k,(xR l c k).binds hb⟩
section
variable {P:Program} {w:World} {K:PySem.W.Frag} {mg:Str->Option Value} {base:Heap} {x:Str} {st:Stmt} {ps N:List Str} {k:Nat} {b:MS} {F:Fn}
theorem Df.has (d:Df K mg x ps st) (S:aU N ps (aD st)) (hbody:∀ (f:Addr) (cdv:Value) (A:Around) (outer:List Env) (s:Shared) (H:Hp) (E:XK),cz k (A.deeper (PyProof.Rows.envOfC x (aD st) s.heap.objs.size f cdv)) ->
   BY (rL (rT P w) P w K mg base N x (aD st) f cdv A outer s H E) E b (eW st)):aL P w K mg base x ps (k+1) (bI ps.length N.length b):=by
 obtain ⟨f,fd,h1,Fu,bd⟩:=d
 exact ⟨⟨f,fd,h1,Fu.kp,bd,MR Fu S (hbody f)⟩,sU⟩
end
theorem HZ:bootBuiltins "int" = some (.type "int"):=by decide +kernel
theorem H0 {P:Program} {w:World} {K:PySem.W.Frag} {mg:Str->Option Value} {base:Heap} {k:Nat} {f:Addr} {fd:FuncData} {ps:List Str} {F F':Fn} (h:iy P w K mg base (rT P w) k f fd ps (DM ⟨P,w,mg,K⟩ F)) (e:F=F'):iy P w K mg base (rT P w) k f fd ps (DM ⟨P,w,mg,K⟩ F'):=e▸h
theorem Ct (H:Hp):view [] H=H:=by funext a;simp [view]
def Gf (K:PySem.W.Frag):Sp:=fun vs H Q _=>∃ (a:Addr) (ns:List Int),vs=[.ref a]/\iu K H a (ns.map V.int)/\ns.length<=63/\∀ H',Q (.bl true) H'
theorem Cu {G:Gx} {F:Fn} (hp:∀ ns:List Int,ns.length<=63->∃ h,F [.scr ns] []=.ok (.bool true) h) {vs:List V} {H:Hp} {Q:VK} {E:XK} (z:Gf G.K vs H Q E):DM G F vs H Q E:=by
 obtain ⟨a,ns,rfl,hs,hl,q⟩:=z
 obtain ⟨h',e⟩:=hp ns hl
 refine ⟨[],[],[.scr ns],⟨rfl,.nil,fun i a o e=>by simp at e⟩,.cons ⟨a,rfl,by rw [Ct];exact hs⟩ .nil,?_⟩
 rw [e]
 intro θ' H' _ _ v r
 cases r.1
 exact q H'
end Ml
namespace Ml
open PySem
def tB:MS:=bC (jy (lY (fT (bP (F9 (vW isStr) (ab 0)))) (fT (aN (lH oLe oLe (ah (.int 1)) (ai jJ (aa (ab 0) (ak))) (ah (.int 6)))))) (bX (ah (.bool false))) (cB))
    (bX (ai uz (aa (cL 1 (aR (ab 0)) (ay 0) (dG) (lH oLe oLe (ah (.str "a")) (ab 0) (ah (.str "z")))) (ak))))
def gp:Fn:=bI 1 1 tB
def oC:MS:=bX (ai uz (aa (cL 2 (zf (aa (ab 0) (aa (Ku (ab 0) (kS (ah (.int 1))) (zh)) (ak)))) (jB (cA (ay 0) (cA (ay 1) (jA)))) (dG) (au oLt (ab 0) (ab 1))) (ak)))
def dH:Fn:=bI 1 1 oC
def oE:MS:=bC (jy (lY (fT (bP (F9 (vW isTup) (ab 0)))) (aN (au Kt (ai jJ (aa (ab 0) (ak))) (ah (.int 12))))) (bX (ah (.bool false))) (cB))
    (bX (mQ (ai uz (aa (cL 1 (aR (ab 0)) (ay 0) (dG) (ai gp (aa (ab 0) (ak)))) (ak))) (ai dH (aa (ab 0) (ak)))))
def fR:Fn:=bI 1 1 oE
def oF:MS:=bC (jy (lY (fT (bP (F9 (vW isTup) (ab 0)))) (aN (au x6 (ai jJ (aa (ab 0) (ak))) (ah (.int 2))))) (bX (ah (.bool false))) (cB))
    (bX (mQ (au nu (au dY (ab 0) (ah (.int 0))) (ab 1)) (au nu (au dY (ab 0) (ah (.int 1))) (ab 1))))
def eS:Fn:=bI 2 2 oF
def kW:MS:=bC (jy (fT (bP (F9 (vW isTup) (ab 0)))) (bX (ah (.bool false))) (cB))
    (bX (mQ (ai uz (aa (cL 1 (aR (ab 0)) (ay 0) (dG) (ai eS (aa (ab 0) (aa (ab 2) (ak))))) (ak))) (ai dH (aa (ab 0) (ak)))))
def eJ:Fn:=bI 2 2 kW
def wm:MS:=bC (jy (lY (fT (bP (F9 (vW isTup) (ab 0)))) (aN (au x6 (ai jJ (aa (ab 0) (ak))) (ah (.int 2))))) (bX (ah (.bool false))) (cB))
    (bC (kG (jB (cA (ay 1) (cA (ay 2) (jA)))) (ab 0))
    (bX (mQ (ai fR (aa (ab 1) (ak))) (ai eJ (aa (ab 2) (aa (ab 1) (ak)))))))
def jP:Fn:=bI 1 3 wm
end Ml
namespace Ml
open PySem PySem.Spec L2
section
variable {X:Cx} {E:XK} {st:Stmt}
def Ia:MS:=fun _ _=>.bad
theorem Cv:DS X E Ia st:=by
 simp only [jq] at *
 exact fun pins s σ H C I ⟨θ,hm,ρ,w,fr,p⟩=>p.elim
end
end Ml
namespace Ml
open PySem
def oG:MS:=jy (fT (bP (ai jP (aa (ab 0) (ak))))) (Ia) (cB)
def cI:Fn:=bI 1 1 oG
def uO:List PyData:=[.str "grounded",.str "preferred",.str "stable",.str "standing",.str "whole"]
def uP:MS:=jy (aN (au iD (ab 0) (MU uO))) (Ia) (cB)
def dR:Fn:=bI 1 1 uP
def gY:MS:=bX (au nu (cC (aa (ab 1) (aa (ab 1) (ak)))) (ab 0))
def bj:Fn:=bI 3 3 gY
def fX:MS:=bX (mQ (au nu (cC (aa (ab 1) (aa (ab 1) (ak)))) (ab 0)) (E0 (au nu (cC (aa (ab 2) (aa (ab 1) (ak)))) (ab 0)) (au nu (cC (aa (ab 2) (aa (ab 2) (ak)))) (ab 0))))
def aP:Fn:=bI 3 3 fX
def iF:MS:=bX (mQ (au nu (cC (aa (ab 1) (aa (ab 1) (ak)))) (ab 0)) (au nu (cC (aa (ab 2) (aa (ab 2) (ak)))) (ab 0)))
def br:Fn:=bI 3 3 iF
def fY:MS:=bX (mQ (au nu (cC (aa (ab 2) (aa (ab 2) (ak)))) (ab 0)) (E0 (au nu (cC (aa (ab 1) (aa (ab 1) (ak)))) (ab 0)) (au nu (cC (aa (ab 2) (aa (ab 1) (ak)))) (ab 0))))
def aV:Fn:=bI 3 3 fY
end Ml
namespace Ml
open PySem PySem.Spec L2
def wo (x:D) (h:Hm):Option (List PyData):=match x with
 | .dat (.tuple ds)=>some ds
 | .ktup ds=>some ds
 | x=>listOf x h
section
variable {X:Cx} {E:XK} {m:ME} {a:MA} {e:Expr} {es:List Expr} {p:Pos}
theorem wq {G:Gx} {θ:List Addr} {H:Hp}:∀ {xs:List PyData},(∀ x∈xs,(match x with | .int _ | .str _ | .bool _ | .none=>true | _=>false)=true)->cf xs=true->aO G θ H (xs.map D.dat) (xs.map Gd)
 | [],_,_=>.nil
 | d::ds,h,s=>by
  simp only [cf,NG] at s
  refine .cons ⟨?_,s.1⟩ (wq (fun x m=>h x (NO _ m)) s.2)
  have:=h d (NU ..)
  cases d<;>first | rfl | simp at this
end
end Ml
namespace L2
open PySem PySem.Spec PyProof.Rows
section
variable {prog:Program} {w:World} {A:Around} {R:Result->Shared->Prop} {s:Shared} {elt target iter target2 iter2:Expr} {ifs ifs2:List Expr} {scope:Scope} {pos:Pos} {it acc:Value} {env:Env}
theorem wt:compTurn (.ListComp elt [⟨target,iter,ifs,0⟩,⟨target2,iter2,ifs2,0⟩] scope pos) 0 it acc env=(do
   standAt iter.pos
   match <- pyNext it with
   | none=>pure (.done .next)
   | some v=>
    letOwnedTupleGo target it v
    assign target env v
    let mut ok:=true
    for c in ifs do
     if ok then ok <- isTrue c env (eval c env)
    if ok then
     let x <- eval iter2 env
     standAt iter2.pos
     let x <- foldedSetIterable iter2 env x
     let _ <- runOwn (.compStart (.ListComp elt [⟨target,iter,ifs,0⟩,⟨target2,iter2,ifs2,0⟩] scope pos) 1 (<- holding [x] (pyIter x)) acc env) env
    again (.compLoop (.ListComp elt [⟨target,iter,ifs,0⟩,⟨target2,iter2,ifs2,0⟩] scope pos) 0 it acc env)):=by rfl
theorem wu:compTurn (.ListComp elt [⟨target,iter,ifs,0⟩,⟨target2,iter2,ifs2,0⟩] scope pos) 1 it acc env=(do
   standAt iter2.pos
   match <- pyNext it with
   | none=>pure (.done .next)
   | some v=>
    letOwnedTupleGo target2 it v
    assign target2 env v
    let mut ok:=true
    for c in ifs2 do
     if ok then ok <- isTrue c env (eval c env)
    if ok then
     (do let _ <- call (.builtin "list.append") [acc,<- eval elt env])
    again (.compLoop (.ListComp elt [⟨target,iter,ifs,0⟩,⟨target2,iter2,ifs2,0⟩] scope pos) 1 it acc env)):=by rfl
theorem rX (I:Nat->Shared->Prop)
  (turn:∀ n s,I n s->wpAny (model prog w) A (pyNext it) (fun r s1=>match r with
   | none=>R (.ok .next) s1
   | some v=>wpAny (model prog w) A (letOwnedTupleGo target2 it v) (fun _ s2=>wpAny (model prog w) A (assign target2 env v) (fun _ s3=>
     wpAny (model prog w) A (forIn ifs2 true fun c r=>if r=true then do let ok <- isTrue c env (eval c env);pure (ForInStep.yield ok) else pure (ForInStep.yield r)) (fun ok s4=>
      if ok=true then wpAny (model prog w) A (eval elt env) (fun x s5=>
       wpAny (model prog w) A (call (.builtin "list.append") [acc,x]) (fun _ s6=>∃ m,m < n/\I m s6) (fun _ _=>False) s5) (fun _ _=>False) s4
      else ∃ m,m < n/\I m s4) (fun _ _=>False) s3) (fun _ _=>False) s2) (fun _ _=>False) s1) (fun _ _=>False) s)
  (n:Nat) (h:I n s) :
  codeAny (model prog w) A (.compLoop (.ListComp elt [⟨target,iter,ifs,0⟩,⟨target2,iter2,ifs2,0⟩] scope pos) 1 it acc env) R s:=by
 refine codeAny_loop rfl I (fun n s hI=>?_) n h
 show wpAny _ A ((compTurn (.ListComp elt [⟨target,iter,ifs,0⟩,⟨target2,iter2,ifs2,0⟩] scope pos) 1 it acc env).onRaise (fun x=>do noteFrame x env;theTreesLotGoes x)) _ _ s
 refine wpAny_noted ?_
 rw [wu]
 refine OU (E:=fun _ _=>False) (E':=_) (Q':=_) ?_ (fun _ _ q=>q) fun _ _ z=>z.elim
 refine NC (Pd (NC (bA (turn n s hI) (fun r s1 h1=>?_))))
 cases r with
 | none=>exact ND h1
 | some v=>
  refine NC (bA h1 fun _ s2 h2=>?_)
  refine NC (bA h2 fun _ s3 h3=>NC (bA h3 fun ok s4 h4=>?_))
  cases ok with
  | false=>exact ND ⟨rfl,h4⟩
  | true=>exact NC (NC (bA h4 fun x s5 h5=>NC (bA h5 fun _ s6 h6=>ND (ND ⟨rfl,h6⟩))))
theorem rY (hs:∀ x,foldedSetIterable iter2 env x=pure x) (I:Nat->Shared->Prop)
  (turn:∀ n s,I n s->wpAny (model prog w) A (pyNext it) (fun r s1=>match r with
   | none=>R (.ok .next) s1
   | some v=>wpAny (model prog w) A (letOwnedTupleGo target it v) (fun _ s2=>wpAny (model prog w) A (assign target env v) (fun _ s3=>
     wpAny (model prog w) A (forIn ifs true fun c r=>if r=true then do let ok <- isTrue c env (eval c env);pure (ForInStep.yield ok) else pure (ForInStep.yield r)) (fun ok s4=>
      if ok=true then wpAny (model prog w) A (eval iter2 env) (fun x s5=>
       wpAny (model prog w) A (pyIter x) (fun it2 s6=>codeAny (model prog w) (A.mark none) (.compStart (.ListComp elt [⟨target,iter,ifs,0⟩,⟨target2,iter2,ifs2,0⟩] scope pos) 1 it2 acc env) (fun r s7=>match r with | .ok _=>∃ m,m < n/\I m s7 | .error _=>False) s6) (fun _ _=>False) s5) (fun _ _=>False) s4
      else ∃ m,m < n/\I m s4) (fun _ _=>False) s3) (fun _ _=>False) s2) (fun _ _=>False) s1) (fun _ _=>False) s)
  (n:Nat) (h:I n s) :
  codeAny (model prog w) A (.compLoop (.ListComp elt [⟨target,iter,ifs,0⟩,⟨target2,iter2,ifs2,0⟩] scope pos) 0 it acc env) R s:=by
 refine codeAny_loop rfl I (fun n s hI=>?_) n h
 show wpAny _ A ((compTurn (.ListComp elt [⟨target,iter,ifs,0⟩,⟨target2,iter2,ifs2,0⟩] scope pos) 0 it acc env).onRaise (fun x=>do noteFrame x env;theTreesLotGoes x)) _ _ s
 refine wpAny_noted ?_
 rw [wt]
 refine OU (E:=fun _ _=>False) (E':=_) (Q':=_) ?_ (fun _ _ q=>q) fun _ _ z=>z.elim
 refine NC (Pd (NC (bA (turn n s hI) (fun r s1 h1=>?_))))
 cases r with
 | none=>exact ND h1
 | some v=>
  refine NC (bA h1 fun _ s2 h2=>?_)
  refine NC (bA h2 fun _ s3 h3=>NC (bA h3 fun ok s4 h4=>?_))
  cases ok with
  | false=>exact ND ⟨rfl,h4⟩
  | true=>
   refine NC (bA h4 fun x s5 h5=>NC (Pd (NC (Qd (hs x) (NC (Ow (bA h5 fun it2 s6 h6=>?_)))))))
   refine NC (wpAny_runOwn (Ra h6 fun r s7 h7=>?_))
   cases r with
   | error e=>exact h7.elim
   | ok f=>exact ND ⟨rfl,h7⟩
theorem uQ {R:Result->Shared->Prop}
  (h0:codeAny (model prog w) A (.compLoop (.ListComp elt [⟨target,iter,ifs,0⟩,⟨target2,iter2,ifs2,0⟩] scope pos) 1 it acc env) R s)
  (h:wpAny (model prog w) A (pyIter it) (fun it' s'=>codeAny (model prog w) A (.compLoop (.ListComp elt [⟨target,iter,ifs,0⟩,⟨target2,iter2,ifs2,0⟩] scope pos) 1 it' acc env) R s')
   (notedBy (model prog w) A env fun x s'=>R (.error x) s') s) :
  codeAny (model prog w) A (.compStart (.ListComp elt [⟨target,iter,ifs,0⟩,⟨target2,iter2,ifs2,0⟩] scope pos) 1 it acc env) R s:=by
 refine codeAny_of_tree ?_
 show wpAny _ _ ((compStart (.ListComp elt [⟨target,iter,ifs,0⟩,⟨target2,iter2,ifs2,0⟩] scope pos) 1 it acc env).onRaise (fun x=>do noteFrame x env;standAt theWindowsPlace)) _ _ s
 refine wpAny_notedAt ?_
 unfold compStart
 show wpAny _ _ (ask >>= _) _ _ s
 refine NC (Rt (wpAny_ite ?_))
 split
 ·first
   | exact NC (ND (ND (And.intro rfl h0)))
   | exact ND (And.intro rfl h0)
 ·first
   | exact NC (PD (NC (Pd (NC (OU h (fun it' s' h'=>ND (And.intro rfl h')) fun _ _ x=>x)))))
   | (refine NC (PD ?_);show wpAny _ _ (standAt iter2.pos >>= _) _ _ s;exact NC (Pd (NC (OU h (fun it' s' h'=>ND (And.intro rfl h')) fun _ _ x=>x))))
end
def yj (n:Nat) (J:It) (g:TG) (tc:TT) (wi2:TI) (g2:TG) (tc2:TT) (te:TE) (σ:St) (H:Hp) (Q:VK):Prop:=
 ∃ W:Nat->Nat->List V->Hp->Prop,(∃ m,W 0 m [] H)/\∀ i m ys H,W i m ys H ->
  (J.stop i H/\ys.length<=sizeLine/\∀ p,H p=none->Q (.ref p) (upd H p (.lst ys))) \/
  (J.go i H/\ys.length<=sizeLine/\∃ N:List V->Hp->Prop,(∀ ys' H',N ys' H'->∃ m',m' < m/\W (i+1) m' ys' H')/\∀ x H',J.yld i H x H'->g x (List.replicate n none++σ) H' fun σ2 H2=>tc σ2 H2 fun b H3=>
   if b=true then wi2 σ2 H3 fun J2 H4=>∃ W2:Nat->Nat->St->List V->Hp->Prop,(∃ m2,W2 0 m2 σ2 ys H4)/\∀ i2 m2 σ3 zs H5,W2 i2 m2 σ3 zs H5 ->
    (J2.stop i2 H5/\N zs H5) \/
    (J2.go i2 H5/\zs.length<=sizeLine/\∃ N2:St->List V->Hp->Prop,(∀ σ' zs' H',N2 σ' zs' H'->∃ m',m' < m2/\W2 (i2+1) m' σ' zs' H')/\∀ x2 H6,J2.yld i2 H5 x2 H6->g2 x2 σ3 H6 fun σ4 H7=>tc2 σ4 H7 fun b2 H8=>
     if b2=true then te σ4 H8 fun y H9=>N2 σ4 (zs++[y]) H9 else N2 σ4 zs H8)
   else N ys H3)
theorem wx {X:Cx} {own:List Str} {scope:Scope} {pins:List (Addr×Obj)} {σ:St} {H2:Hp} {s2:Shared} {fp:List Addr} {it:Addr} {tn:Nat->Heap->Prop} {J:It} {elt tg iter tg2 iter2:Expr} {ifs ifs2:List Expr} {pos:Pos} {g g2:TG} {tc tc2:TT} {wi2:TI} {te:TE} {Q:VK}
  {RR:Value->Addr->Result->Shared->Prop} {E:Value->Shared->Prop} (I:Inv X pins σ H2 s2) (CS:ck X.env.scope X.N own scope) (hc:X.calm=true) (T:Turn X.prog X.w X.K tg J fp it tn) (st:tn 0 s2.heap) (hf:∀ b∈fp,gu X pins H2 b)
  (hg:∀ C s2 H2 fp pins,PG (aq X own scope C s2 H2 fp pins) tg g) (ht:∀ C s2 H2 fp pins,Az (aq X own scope C s2 H2 fp pins) ifs tc) (he:∀ C s2 H2 fp pins,PE (aq X own scope C s2 H2 fp pins) elt te) (hi2:∀ C s2 H2 fp pins,PI (aq X own scope C s2 H2 fp pins) tg2 iter2 wi2) (hg2:∀ C s2 H2 fp pins,PG (aq X own scope C s2 H2 fp pins) tg2 g2) (ht2:∀ C s2 H2 fp pins,Az (aq X own scope C s2 H2 fp pins) ifs2 tc2) (hs2:∀ (env:Env) x,foldedSetIterable iter2 env x=pure x)
  (hW:yj own.length J g tc wi2 g2 tc2 te σ H2 Q)
  (hR:∀ D C H' s',Inv X pins σ H' s'->gu X pins H' C->(∃ m,s'.heap.Ns C m)->Q (.ref D) H'->Kept X fp H2 H' s2 s'->RR (.ref D) C (.ok .next) s') :
  wpAny (model X.prog X.w) X.A (newList []) (fun acc s3=>wpAny (model X.prog X.w) X.A (newFunctionEnv scope X.env.globals (dX X.env.cells scope.names []) [] X.env.qual none .none (some X.env)) (fun cenv s4=>
   codeAny (model X.prog X.w) X.A (.compStart (.ListComp elt [⟨tg,iter,ifs,0⟩,⟨tg2,iter2,ifs2,0⟩] scope pos) 0 (.ref it) acc {cenv with scope:=relabel scope X.env}) (RR acc cenv.locals) s4) E s3) E s2:=by
 refine Om (hZ ?_)
 dsimp only
 generalize hH:s2.heap.push {cls:=.type "list",dict:=none,data:=.seq ([]:List Value).toArray}=h3
 have hDC:h3.objs.size=s2.heap.objs.size+1:=by rw [<- hH,Oi]
 have eC:({scope:=relabel scope X.env,locals:=h3.objs.size,globals:=X.env.globals,cells:=cellsFrom (h3.objs.size+1) scope.names (dX X.env.cells scope.names []),qual:=X.env.qual,func:=none,code:=X.env.code,frame:=X.env.frame,builtins:=X.env.builtins}:Env)=hX scope h3.objs.size X.env:=rfl
 rw [eC]
 generalize eD:s2.heap.objs.size=D at *
 generalize eCC:h3.objs.size=C at *
 have hl:∀ b∈fp,b < s2.heap.objs.size:=fun b hb=>by
  obtain ⟨o,e,_⟩:=T.obj 0 _ st b hb
  exact NK e
 have hC:s2.heap.objs.size<=C:=by omega
 generalize hH4:pushCells (h3.push {cls:=.type "dict",data:=.dict #[]}) scope.names=h4
 have k34:∀ b o,(h3.push {cls:=.type "dict",data:=.dict #[]}).get? b=some o->h4.get? b=some o:=fun b o e=>by rw [<- hH4];exact pushCells_keeps _ _ b o e
 have k24:∀ b o,s2.heap.get? b=some o->h4.get? b=some o:=fun b o e=>k34 b o (NF _ (by rw [<- hH];exact NF _ e))
 have nsC:h4.Ns C fun _=>none:=by
  have:=Heap.Ns.new h3 (.type "dict")
  rw [eCC] at this
  exact this.keeps k34
 have accD:h4.get? D=some {cls:=.type "list",data:=.seq (([]:List Value).toArray)}:=k34 _ _ (NF _ (by rw [<- hH,<- eD];exact NL _ rfl))
 have cellN:∀ x c,(x,c)∈cellsFrom (C+1) scope.names []->h4.IsCell c none/\C+1<=c:=fun x c hm=>by
  have ok:=cellsFrom_ok scope.names (h3.push {cls:=.type "dict",data:=.dict #[]}) (C+1) [] ⟨fun _ _ hm=>(nomatch hm),List.Pairwise.nil⟩ (by rw [Oi];omega)
  rw [Oi,eCC,hH4] at ok
  exact ok.empty x c hm
 have hne:H2 D=none:=by rw [<- eD];exact I.hok.fresh (NI _)
 have ok':(aq X own scope C s2 H2 fp pins).Ok:=ui I CS hC hf hl
 have rebase:∀ {σ':St} {H':Hp} {ps:List (Addr×Obj)} {s':Shared},Inv (aq X own scope C s2 H2 fp pins) ps σ' H' s'->Inv (aq X own scope C s2 H2 fp pins) ps (List.replicate own.length none++σ) H' s':=fun {σ' H' ps s'} J'=>by
  obtain ⟨m,hn,_⟩:=J'.loc
  refine ⟨J'.ok,J'.os,J'.bare,J'.base,⟨m,hn,iA I CS fun c v z ⟨x,hx⟩=>?_⟩,J'.cell,J'.free,J'.freeC,J'.pin,J'.hok,?_⟩
  ·obtain ⟨o,ho,hd⟩:=z
   obtain ⟨sl,e⟩:=J'.base.any ho (I.freeC x c hx) fun hb=>(hf c hb).2.2.2.2.1 x c hx rfl
   exact ⟨_,e,hd⟩
  ·show (List.replicate own.length none++σ).length=(own++X.N).length
   rw [N4,N4,OJ,I.len]
 have start:Inv (aq X own scope C s2 H2 fp pins) [] (List.replicate own.length none++σ) H2 {s2 with heap:=h4}:=by
  have I4:Inv X pins σ H2 {s2 with heap:=h4}:=I.kept (t':=s2.toks) k24
  refine ⟨ok',rfl,I.bare,Un.kept k24,⟨_,nsC,iA I CS fun c v z _=>z.keeps k24⟩,fun x c h=>?_,I.hok.fresh hC,fun x c h=>?_,fun p hp=>?_,I4.hok,?_⟩
  ·rcases bF h with ⟨a,_,_⟩ | a
   ·exact ⟨_,(cellN x c a).1⟩
   ·obtain ⟨v,z⟩:=I.cell x c (dE I CS a).2
    exact ⟨v,z.keeps k24⟩
  ·rcases bF h with ⟨_,_,a⟩ | a
   ·exact I.hok.fresh (NS hC (NS (O9 _) a))
   ·exact I.freeC x c (dE I CS a).2
  ·have hp':p∈X.pn++pins:=by
    rcases NX.mp hp with z | z
    ·exact z
    ·exact nomatch z
   obtain ⟨e,n,ne,nf,d⟩:=I.pin p hp'
   refine ⟨k24 _ _ e,n,N0 (NM (NK e) hC),fun z=>?_,d⟩
   rcases NJ.mp (I.hV _ z) with q | q
   ·exact ne q
   ·exact nf q
  ·show (List.replicate own.length none++σ).length=(own++X.N).length
   rw [N4,N4,OJ,I.len]
 obtain ⟨W,⟨m0,w0⟩,turn⟩:=hW
 have nfs:∀ b,s2.heap.objs.size<=b->b∉(aq X own scope C s2 H2 fp pins).fs:=fun b hb z=>by
  rcases NJ.mp (I.hV b z) with q | q
  ·rw [q] at hb;exact absurd (NM I.lt hb) (N5 _)
  ·exact I.xD hb q
 have fpD:∀ {H':Hp},H' D=none->gu (aq X own scope C s2 H2 fp pins) [] H' D:=fun {H'} hn=>by
  refine ⟨hn,N0 (by show D < C;omega),nfs D (by omega),.inr (by show s2.heap.objs.size<=D;omega),fun x c h z=>?_,fun p hp z=>?_⟩
  ·rcases bF h with ⟨_,_,a⟩ | a
   ·rw [z] at a;exact absurd (NM (show D < C+1 by omega) a) (N5 _)
   ·obtain ⟨v,q⟩:=I.cell x c (dE I CS a).2
    have:=q.lt
    rw [z,eD] at this
    exact N5 _ this
  ·have hp':p∈X.pn++pins:=by
    rcases NX.mp hp with z | z
    ·exact z
    ·exact nomatch z
   have:=NK (I.pin p hp').1
   rw [z,eD] at this
   exact N5 _ this
 have nD:D∉fp:=fun z=>by have:=hl D z;rw [eD] at this;exact N5 _ this
 have stat:∀ {H':Hp} {ps:List (Addr×Obj)},(∀ p∈ps,p.1=D)->(∀ b∈fp,H' b=none)->∀ b∈fp,gu (aq X own scope C s2 H2 fp pins) ps H' b:=fun {H' ps} hps hn b hb=>by
  obtain ⟨f0,f1,f2,f3,f4,f5⟩:=hf b hb
  refine ⟨hn b hb,(ok'.exf b hb).1,ok'.exfs b hb,.inl hb,(ok'.exf b hb).2,fun p hp=>?_⟩
  rcases NX.mp hp with z | z
  ·exact f5 p z
  ·rw [hps p z]
   exact fun q=>nD (q▸hb)
 let LI:Nat->Shared->Prop:=fun n s'=>∃ i ys its k H',Inv (aq X own scope C s2 H2 fp pins) [] (List.replicate own.length none++σ) H' s'/\tn i s'.heap/\(∀ b∈fp,H' b=none)/\H' D=none /\
  s'.heap.get? D=some {cls:=.type "list",data:=.seq (List.toArray its) k}/\Vals ys its/\W i n ys H'
 have l0:LI m0 {s2 with heap:=h4}:=⟨0,[],[],0,H2,start,T.keep _ _ _ st fun b _ o e=>k24 b o e,fun b hb=>(hf b hb).1,hne,accD,.nil,w0⟩
 have loop:codeAny (model X.prog X.w) X.A (.compLoop (.ListComp elt [⟨tg,iter,ifs,0⟩,⟨tg2,iter2,ifs2,0⟩] scope pos) 0 (.ref it) (.ref D) (hX scope C X.env)) (RR (.ref D) C) {s2 with heap:=h4}:=by
  refine rY (hs2 _) LI ?_ m0 l0
  rintro n s3 ⟨i,ys,its,k,H3,I3,st3,fr3,d3,a3,v3,w3⟩
  rcases turn i n ys H3 w3 with ⟨stop,hz,qn⟩ | ⟨go,hz,NN,hNN,step⟩
  ·have I3p:=I3.pinned (fp:=[D]) (fun b hb=>(N8.mp hb)▸fpD d3) fun b hb=>⟨_,(N8.mp hb)▸a3,fun v z=>(by cases z)⟩
   refine bA (T.done (aq X own scope C s2 H2 fp pins) rfl rfl rfl hc i _ s3 _ H3 _ I3p (stat (fun p hp=>by have q:p∈bG [D] s3.heap:=hp;have:=(dN q).1;simpa using this) fr3) st3 stop) fun r s4 ⟨hr,I4⟩=>?_
   subst hr
   have a4:s4.heap.get? D=_:=(I4.pin (D,_) (NH _ (NH _ (aS (by simp) a3)))).1
   have u4:Un (rG X.stack) fp H2 H3 s2.heap s4.heap:=I4.base
   have okD:jx X.prog X.w (upd H3 D (.lst ys)) s4.heap:=fun b o e=>by
    by_cases hb:b=D
    ·subst hb
     rw [ba] at e
     cases e
     exact ⟨hz,its,k,v3,a4⟩
    ·rw [aB hb] at e
     exact (I4.hok b o e).pJ (fun _ _ _ q=>q) (fun c q=>by rw [aB (aH q d3)];exact q) fun c xs q=>by rw [aB (aH q d3)];exact q
   have nDo:∀ b o,s2.heap.get? b=some o->b≠D:=fun b o e=>by rw [<- eD];exact N0 (NK e)
   have uD:Un (rG X.stack) fp H2 (upd H3 D (.lst ys)) s2.heap s4.heap:=⟨u4.keep,u4.slot,fun b o e n hx=>by rw [aB (nDo b o e)];exact u4.free b o e n hx,u4.there,
    fun b xs e=>by rw [aB (aH e hne)];exact u4.tups b xs e,fun b o xs e=>by rw [aB (aH e hne)];exact u4.frzs b o xs e,fun b ps e=>by rw [aB (aH e hne)];exact u4.tbls b ps e⟩
   have kp:Kept X fp H2 (upd H3 D (.lst ys)) s2 s4:=⟨I4.os,uD,okD,I4.bare⟩
   have I5:Inv X pins σ (upd H3 D (.lst ys)) s4:=kp.inv I hf
   obtain ⟨m,hn,_⟩:=I4.loc
   refine hR D C _ s4 I5 ⟨by rw [aB (show C≠D by omega)];exact I4.free,Qn (NM I.lt hC),I.xD hC,.inr (NS I.sz hC),fun x c e z=>?_,fun p hp z=>?_⟩ ⟨m,hn⟩ (qn D d3) kp
   ·obtain ⟨v,q⟩:=I.cell x c e
    exact absurd (NM q.lt (by rw [z];exact hC)) (N5 _)
   ·exact absurd (NM (NK (I.pin p hp).1) (by rw [z];exact hC)) (N5 _)
  ·have I3p:=I3.pinned (fp:=[D]) (fun b hb=>(N8.mp hb)▸fpD d3) fun b hb=>⟨_,(N8.mp hb)▸a3,fun v z=>(by cases z)⟩
   have onlyD:∀ p∈([]++bG [D] s3.heap),p.1=D:=fun p hp=>by have q:p∈bG [D] s3.heap:=hp;have:=(dN q).1;simpa using this
   refine bA (T.item (aq X own scope C s2 H2 fp pins) rfl rfl rfl hc i _ s3 _ H3 _ I3p (stat onlyD fr3) st3 go) fun r s4 ⟨u,hr,h4'⟩=>?_
   subst hr
   refine bA h4' fun _ s5 ⟨x,H5,I5,r5,y5,st5,fr5⟩=>?_
   have I5p:=I5.pinned (fp:=fp) (stat onlyD fr5) (T.obj _ _ st5)
   have cont:∀ {s6:Shared} {σ6:St} {H6:Hp},Inv (aq X own scope C s2 H2 fp pins) (([]++bG [D] s3.heap)++bG fp s5.heap) σ6 H6 s6 ->
     Inv (aq X own scope C s2 H2 fp pins) [] (List.replicate own.length none++σ) H6 s6/\tn (i+1) s6.heap/\(∀ b∈fp,H6 b=none)/\H6 D=none/\s6.heap.get? D=some {cls:=.type "list",data:=.seq (List.toArray its) k}:=fun {s6 σ6 H6} I6=>by
    have pD:=I6.pin (D,_) (NH _ (Oq _ (NH _ (aS (by simp) a3))))
    refine ⟨rebase (I6.iO fun p hp=>nomatch hp),T.keep _ _ _ st5 fun b hb o e=>(I6.pin (b,o) (NH _ (NH _ (aS hb e)))).1,fun b hb=>?_,pD.2.1,pD.1⟩
    obtain ⟨o,e,_⟩:=T.obj _ _ st5 b hb
    exact (I6.pin (b,o) (NH _ (NH _ (aS hb e)))).2.1
   refine bA (hg C s2 H2 fp pins _ s5 _ H5 x u _ I5p r5 (step x H5 y5)) fun _ s6 ⟨σ6,H6,I6,q6⟩=>?_
   refine bA (ht C s2 H2 fp pins _ s6 σ6 H6 _ I6 q6) fun b s7 ⟨H7,I7,q7⟩=>?_
   cases b with
   | false=>
    have q7':NN ys H7:=q7
    obtain ⟨m',hm,w7⟩:=hNN _ _ q7'
    obtain ⟨c1,c2,c3,c4,c5⟩:=cont I7
    exact ⟨m',hm,i+1,ys,its,k,H7,c1,c2,c3,c4,c5,v3,w7⟩
   | true=>
    have pmD:(D,_)∈(([]++bG [D] s3.heap)++bG fp s5.heap):=Oq _ (NH _ (aS (by simp) a3))
    have fpD2:∀ {H':Hp},H' D=none->gu (aq X own scope C s2 H2 fp pins) (bG fp s5.heap) H' D:=fun {H'} hn=>by
     obtain ⟨f0,f1,f2,f3,f4,f5⟩:=fpD hn
     refine ⟨f0,f1,f2,f3,f4,fun p hp=>?_⟩
     rcases NX.mp hp with z | z
     ·exact f5 p (Oq _ z)
     ·exact fun q=>nD (q▸(dN z).1)
    have cont2:∀ {s6:Shared} {σ6:St} {H6:Hp},Inv (aq X own scope C s2 H2 fp pins) (bG fp s5.heap) σ6 H6 s6->Inv (aq X own scope C s2 H2 fp pins) [] (List.replicate own.length none++σ) H6 s6/\tn (i+1) s6.heap/\(∀ b∈fp,H6 b=none):=fun {s6 σ6 H6} I6=>by
     refine ⟨rebase (I6.iO fun p hp=>nomatch hp),T.keep _ _ _ st5 fun b hb o e=>(I6.pin (b,o) (NH _ (aS hb e))).1,fun b hb=>?_⟩
     obtain ⟨o,e,_⟩:=T.obj _ _ st5 b hb
     exact (I6.pin (b,o) (NH _ (aS hb e))).2.1
    refine bA (hi2 C s2 H2 fp pins _ s7 σ6 H7 _ I7 q7) fun v s8 h8=>bA h8 fun itv s9 h9=>?_
    obtain ⟨it2,fp2,tn2,J2,H9,e9,I9,T2,st9,f9,W2,⟨m2,w2⟩,turn2⟩:=h9
    subst e9
    have pD9:=I9.pin (D,_) (NH _ pmD)
    have neD:∀ b∈fp2,D≠b:=fun b hb=>(f9 b hb).2.2.2.2.2 (D,_) (NH _ pmD)
    have stat2:∀ {H':Hp} {ps:List (Addr×Obj)},(∀ p∈ps,p.1=D)->(∀ b∈fp2,H' b=none)->∀ b∈fp2,gu (aq X own scope C s2 H2 fp pins) (bG fp s5.heap++ps) H' b:=fun {H' ps} hps hn b hb=>by
     obtain ⟨g0,g1,g2',g3,g4,g5⟩:=f9 b hb
     refine ⟨hn b hb,g1,g2',g3,g4,fun p hp=>?_⟩
     rcases NX.mp hp with z | z
     ·exact g5 p (Oq _ z)
     ·rcases NX.mp z with z | z
      ·exact g5 p (NH _ (NH _ z))
      ·rw [hps p z];exact neD b hb
    let LI2:Nat->Shared->Prop:=fun n' s'=>∃ i2 σ3 zs its2 k2 H',Inv (aq X own scope C s2 H2 fp pins) (bG fp s5.heap) σ3 H' s'/\tn2 i2 s'.heap/\(∀ b∈fp2,H' b=none)/\H' D=none /\
     s'.heap.get? D=some {cls:=.type "list",data:=.seq (List.toArray its2) k2}/\Vals zs its2/\W2 i2 n' σ3 zs H'
    have i0:LI2 m2 s9:=⟨0,σ6,ys,its,k,H9,I9.iO (fun p hp=>I9.pin p (NH _ (NH _ hp))),st9,fun b hb=>(f9 b hb).1,pD9.2.1,pD9.1,v3,w2⟩
    have loop2:codeAny (model X.prog X.w) X.A (.compLoop (.ListComp elt [⟨tg,iter,ifs,0⟩,⟨tg2,iter2,ifs2,0⟩] scope pos) 1 (.ref it2) (.ref D) (hX scope C X.env)) (fun r s7=>match r with | .ok _=>∃ m,m < n/\LI m s7 | .error _=>False) s9:=by
     refine rX LI2 ?_ m2 i0
     rintro n2 t3 ⟨i2,σ3,zs,its2,k2,K3,J3,st3',fr3',d3',a3',v3',w3'⟩
     have J3p:=J3.pinned (fp:=[D]) (fun b hb=>(N8.mp hb)▸fpD2 d3') fun b hb=>⟨_,(N8.mp hb)▸a3',fun v z=>(by cases z)⟩
     have onlyD2:∀ p∈bG [D] t3.heap,p.1=D:=fun p hp=>by have:=(dN hp).1;simpa using this
     rcases turn2 i2 n2 σ3 zs K3 w3' with ⟨stop2,qn2⟩ | ⟨go2,hz2,NN2,hNN2,step2⟩
     ·refine bA (T2.done (aq X own scope C s2 H2 fp pins) rfl rfl rfl hc i2 _ t3 _ K3 _ J3p (stat2 onlyD2 fr3') st3' stop2) fun r t4 ⟨hr,J4⟩=>?_
      subst hr
      have a4':t4.heap.get? D=_:=(J4.pin (D,_) (NH _ (NH _ (aS (by simp) a3')))).1
      obtain ⟨m',hm,w4⟩:=hNN _ _ qn2
      obtain ⟨c1,c2,c3⟩:=cont2 J4.iw
      exact ⟨m',hm,i+1,zs,its2,k2,K3,c1,c2,c3,d3',a4',v3',w4⟩
     ·refine bA (T2.item (aq X own scope C s2 H2 fp pins) rfl rfl rfl hc i2 _ t3 _ K3 _ J3p (stat2 onlyD2 fr3') st3' go2) fun r t4 ⟨u2,hr,h4''⟩=>?_
      subst hr
      refine bA h4'' fun _ t5 ⟨x2,K5,J5,r5',y5',st5',fr5'⟩=>?_
      have J5p:=J5.pinned (fp:=fp2) (stat2 onlyD2 fr5') (T2.obj _ _ st5')
      have contI:∀ {t6:Shared} {τ6:St} {K6:Hp},Inv (aq X own scope C s2 H2 fp pins) ((bG fp s5.heap++bG [D] t3.heap)++bG fp2 t5.heap) τ6 K6 t6 ->
        Inv (aq X own scope C s2 H2 fp pins) (bG fp s5.heap) τ6 K6 t6/\tn2 (i2+1) t6.heap/\(∀ b∈fp2,K6 b=none)/\K6 D=none/\t6.heap.get? D=some {cls:=.type "list",data:=.seq (List.toArray its2) k2}:=fun {t6 τ6 K6} J6=>by
       have pD:=J6.pin (D,_) (NH _ (Oq _ (NH _ (aS (by simp) a3'))))
       refine ⟨J6.iw.iw,T2.keep _ _ _ st5' fun b hb o e=>(J6.pin (b,o) (NH _ (NH _ (aS hb e)))).1,fun b hb=>?_,pD.2.1,pD.1⟩
       obtain ⟨o,e,_⟩:=T2.obj _ _ st5' b hb
       exact (J6.pin (b,o) (NH _ (NH _ (aS hb e)))).2.1
      refine bA (hg2 C s2 H2 fp pins _ t5 _ K5 x2 u2 _ J5p r5' (step2 x2 K5 y5')) fun _ t6 ⟨τ6,K6,J6,q6'⟩=>?_
      refine bA (ht2 C s2 H2 fp pins _ t6 τ6 K6 _ J6 q6') fun b2 t7 ⟨K7,J7,q7'⟩=>?_
      cases b2 with
      | false=>
       have q7'':NN2 τ6 zs K7:=q7'
       obtain ⟨m',hm,w7⟩:=hNN2 _ _ _ q7''
       obtain ⟨c1,c2,c3,c4,c5⟩:=contI J7
       exact ⟨m',hm,i2+1,τ6,zs,its2,k2,K7,c1,c2,c3,c4,c5,v3',w7⟩
      | true=>
       refine bA (he C s2 H2 fp pins _ t7 τ6 K7 _ J7 q7') fun v t8 ⟨y,K8,J8,r8,q8⟩=>?_
       obtain ⟨m',hm,w8⟩:=hNN2 _ _ _ q8
       obtain ⟨c1,c2,c3,c4,c5⟩:=contI J8
       refine wpAny_list_append_plain ⟨k2,c5⟩ (fun h' hp hs=>?_) (by rw [NQ,<- v3'.length];exact hz2)
       obtain ⟨k',e'⟩:=hp
       obtain ⟨f0,f1,f2,f3,f4,f5⟩:=fpD2 c4
       refine ⟨m',hm,i2+1,τ6,zs++[y],its2++[v],k',K8,c1.turned (t':=t8.toks) (fun b o hb e=>(hs.2 b hb).trans e) f0 f1 f3 f4 f5,T2.keep _ _ _ c2 fun b hb o e=>(hs.2 b fun z=>neD b hb z.symm).trans e,c3,c4,?_,v3'.append (.cons r8 .nil),w8⟩
       show h'.get? D=_
       rw [e']
       simp
    exact uQ loop2 (T2.self _ 0 s9 _ _ st9 loop2)
 exact codeAny_compStart_list loop (T.self X.A 0 {s2 with heap:=h4} _ _ (T.keep _ _ _ st fun b _ o e=>k24 b o e) loop)
section
variable {X:Cx} {own:List Str} {scope:Scope} {elt tg iter tg2 iter2:Expr} {ifs ifs2:List Expr} {pos:Pos} {wi wi2:TI} {g g2:TG} {tc tc2:TT} {te:TE}
def yk (n:Nat) (wi:TI) (g:TG) (tc:TT) (wi2:TI) (g2:TG) (tc2:TT) (te:TE):TE:=fun σ H Q=>wi σ H fun J H1=>yj n J g tc wi2 g2 tc2 te σ H1 Q
theorem Cw (own:List Str) {i:Nat} {x:Str} {pos' spos:Pos} (hN:X.N.Nodup) (hxi:X.N[i]?=some x) (hx:X.env.scope.names.lookup x=some .local) (CS:eE X.env.scope X.N own scope=true) (hc:X.calm=true) (hi:PI X tg iter wi) (hg:∀ C s2 H2 fp pins,PG (aq X own scope C s2 H2 fp pins) tg g)
  (ht:∀ C s2 H2 fp pins,Az (aq X own scope C s2 H2 fp pins) ifs tc) (he:∀ C s2 H2 fp pins,PE (aq X own scope C s2 H2 fp pins) elt te) (hi2:∀ C s2 H2 fp pins,PI (aq X own scope C s2 H2 fp pins) tg2 iter2 wi2) (hg2:∀ C s2 H2 fp pins,PG (aq X own scope C s2 H2 fp pins) tg2 g2) (ht2:∀ C s2 H2 fp pins,Az (aq X own scope C s2 H2 fp pins) ifs2 tc2) (hs:∀ x,foldedSetIterable iter X.env x=pure x:=by intro _;rfl) (hs2:∀ (env:Env) x,foldedSetIterable iter2 env x=pure x:=by intro _ _;rfl)
  (hsw:swapsWith (.ListComp elt [⟨tg,iter,ifs,0⟩,⟨tg2,iter2,ifs2,0⟩] scope pos) (some (.Name x pos')) spos.line X.env=pure true:=by rfl) :
  PS X (.Assign [.Name x pos'] (.ListComp elt [⟨tg,iter,ifs,0⟩,⟨tg2,iter2,ifs2,0⟩] scope pos) spos) (Al (yk own.length wi g tc wi2 g2 tc2 te) (ay i)):=by
 intro pins s σ H D I h
 have CS:=ck.of CS
 rw [exec_Assign_Name_used _ _ _ _ hsw]
 refine NC (Pd (NC ?_))
 show wpAny _ X.A (do let _ <- comprehension (.ListComp elt [⟨tg,iter,ifs,0⟩,⟨tg2,iter2,ifs2,0⟩] scope pos) scope X.env _ (newList []) false (eval iter X.env) (some (assign (.Name x pos') X.env))) _ _ s
 refine NC (bA (P5 (use:=some (assign (.Name x pos') X.env)) (Q:=fun _ s'=>SP X pins D .next s') (g:=⟨tg,iter,ifs,0⟩) rfl hs (fL fun n hn=>I.ok.has n (CS.frees n hn)) CS.kind (iP CS)
  (bA (hi pins s σ H _ I h) fun v s1 h1=>bA h1 fun itv s2 h2=>?_)) fun _ s' hq=>ND (ND hq))
 obtain ⟨it,fp,tn,J,H2,e,I2,T,st2,f2,hW⟩:=h2
 subst e
 refine wx (Q:=fun x H1=>ay i x σ H1 D.nx) (RR:=fun acc C=>compPost (model X.prog X.w) X.A X.xe (some (assign (.Name x pos') X.env)) (fun _ s'=>SP X pins D .next s') acc C) I2 CS hc T st2 f2 hg ht he hi2 hg2 ht2 hs2 hW fun Dl C H' s' I' fC ⟨m,hn⟩ q _=>?_
 show wpAny _ _ (assign (.Name x pos') X.env (.ref Dl)) _ _ s'
 refine wpAny_assign_Name (nA (v:=.ref Dl) I' hN hxi (.inl hx) rfl (fun s'' I'' hsb=>?_) (.inr hx))
 obtain ⟨f0,f1,f2',f3,f4,f5⟩:=fC
 obtain ⟨a,sb,ha⟩:=hsb
 have hCa:C≠a:=by
  rcases ha with e | e
  ·rw [e];exact f1
  ·exact (f4 x a e).symm
 refine ⟨m,hn.sameBut sb hCa,fun h' hs'=>⟨_,H',?_,q⟩⟩
 exact I''.turned (t':=s''.toks) (fun b o hb e=>(hs'.2 b hb).trans e) f0 f1 f3 f4 f5
end
end L2
namespace Ml
open PySem PySem.Spec L2
def i9 (g2:MG) (t2:MT) (e:ME):List D->Fm->Hm->R (List D)
 | [],_,h=>.ok [] h
 | y::ys,ρ,h=>(g2 y ρ h).rV.bind fun ρ1 h1=>(t2 ρ1 h1).rV.bind fun c h2=>
  if c then (e ρ1 h2).rV.bind fun z h3=>(i9 g2 t2 e ys ρ1 h3).bind fun zs h4=>.ok (z::zs) h4
  else i9 g2 t2 e ys ρ1 h2
def eO (n:Nat) (ρ:Fm) (g:MG) (t:MT) (it2:MA) (g2:MG) (t2:MT) (e:ME):List D->Nat->Hm->R (List D)
 | [],_,h=>.ok [] h
 | x::xs,k,h=>(g x (List.replicate n none++ρ) h).rV.bind fun ρ1 h1=>(t ρ1 h1).rV.bind fun c h2=>
  if c then (it2 ρ1 h2).rV.bind fun ys h3=>if kF (k+ys.length) then (i9 g2 t2 e ys ρ1 h3).bind fun zs h4=>(eO n ρ g t it2 g2 t2 e xs (k+zs.length) h4).bind fun ws h5=>.ok (zs++ws) h5 else .bad
  else eO n ρ g t it2 g2 t2 e xs k h2
def qB (n:Nat) (it:MA) (g:MG) (t:MT) (it2:MA) (g2:MG) (t2:MT) (e:ME):MA:=fun ρ h=>(it ρ h).bind fun xs h1=>if kF xs.length then eO n ρ g t it2 g2 t2 e xs 0 h1 else .bad
def uR (n:Nat) (it:MA) (g:MG) (t:MT) (it2:MA) (g2:MG) (t2:MT) (e:ME):ME:=ai fP (qB n it g t it2 g2 t2 e)
section
variable {X:Cx} {E:XK} {it it2:MA} {g g2:MG} {t t2:MT} {m:ME}
theorem yl {G:Gx} {F:XP} {n:Nat} {θ1:List Addr} {H1:Hp} {h1:Hm} {xs:List D} {J:It} {σ:St} {ρ:Fm} {Q:VK} {mk:List D->Hm->R D} (hJ:mK G θ1 H1 xs J) (w1:W G θ1 h1 H1) (fr:Fr G θ1 H1 ρ σ) (p1:aG G F θ1 H1 ((eO n ρ g t it2 g2 t2 m xs 0 h1).bind mk) (KV G Q))
  (hmk:∀ ys vs θ h H,ys.length<=sizeLine->W G θ h H->aO G θ H ys vs->aG G F θ H (mk ys h) (KV G Q)->∀ p,H p=none->Q (.ref p) (upd H p (.lst vs))) :
  yj n J (lG G cZ g) (lT G cZ t) (lI G cZ it2) (lG G cZ g2) (lT G cZ t2) (lE G cZ m) σ H1 Q:=by
 refine ⟨fun i m' ys H=>m'=xs.length - i/\i<=xs.length/\∃ θ' h' acc,acc.length<=sizeLine/\Ev θ1 H1 θ' H/\W G θ' h' H/\aO G θ' H acc ys/\aG G F θ' H ((eO n ρ g t it2 g2 t2 m (xs.drop i) acc.length h').bind fun zs h2=>mk (acc++zs) h2) (KV G Q),
  ⟨xs.length,by simp,O0 _,θ1,h1,[],O0 _,Ev.refl,w1,.nil,p1⟩,?_⟩
 rintro i m' ys H ⟨rfl,hi,θ',h',acc,hacc,ev,w,ra,p⟩
 obtain ⟨j1,j2⟩:=hJ θ' h' H ev w
 have hly:ys.length<=sizeLine:=by rw [<- show acc.length=ys.length from Oc ra];omega
 by_cases hlt:i < xs.length
 ·have ed:xs.drop i=xs[i]::xs.drop (i+1):=OH hlt
  rw [ed] at p
  obtain ⟨g1,g2'⟩:=j1 i xs[i] (NR hlt)
  refine .inr ⟨g1,hly,fun ys2 H2=>i+1<=xs.length/\∃ θ' h' acc,acc.length<=sizeLine/\Ev θ1 H1 θ' H2/\W G θ' h' H2/\aO G θ' H2 acc ys2/\aG G F θ' H2 ((eO n ρ g t it2 g2 t2 m (xs.drop (i+1)) acc.length h').bind fun zs h2=>mk (acc++zs) h2) (KV G Q),fun ys' H' q=>⟨xs.length - (i+1),by omega,rfl,q⟩,fun x H2 y=>?_⟩
  obtain ⟨e2,w2,r2⟩:=g2' x H2 y
  have p2:=p.later e2
  unfold eO at p2
  simp only [R.bind_assoc] at p2
  refine ⟨θ',h',_,xs[i],w2,((fr.ev ev).ev e2).replicate n,r2,(aG.cN p2).mono fun ρ3 θ3 h3 H3 _ _ ⟨e3,w3,p3⟩ σ3 fr3=>⟨θ3,h3,ρ3,w3,fr3,(aG.cN p3).mono fun c θ4 h4 H4 _ _ ⟨e4,w4,p4⟩=>?_⟩⟩
  have ev4:=(ev.trans e2).trans (e3.trans e4)
  have ra4:=aO.ev (e2.trans (e3.trans e4)) ra
  cases c with
  | false=>exact ⟨hlt,θ4,h4,acc,hacc,ev4,w4,ra4,p4⟩
  | true=>
   simp only [Ot,R.bind_assoc] at p4
   refine ⟨θ4,h4,ρ3,w4,fr3.ev e4,(aG.cN p4).mono fun zs θ5 h5 H5 _ _ ⟨e5,w5,p5⟩ J2 hJ2=>?_⟩
   have fr5:=(fr3.ev e4).ev e5
   have ra5:=aO.ev e5 ra4
   split at p5
   ·rename_i hz
    have hz':=dQ hz
    simp only [R.bind_assoc,R.ao] at p5
    refine ⟨fun i2 m2 τ us K=>m2=zs.length - i2/\i2<=zs.length/\∃ θ6 h6 acc6 ρ6,acc6.length<=acc.length+i2/\Ev θ5 H5 θ6 K/\W G θ6 h6 K/\aO G θ6 K acc6 us/\Fr G θ6 K ρ6 τ/\aG G F θ6 K ((i9 g2 t2 m (zs.drop i2) ρ6 h6).bind fun vs h7=>(eO n ρ g t it2 g2 t2 m (xs.drop (i+1)) (acc6.length+vs.length) h7).bind fun ws h8=>mk (acc6++(vs++ws)) h8) (KV G Q),
     ⟨zs.length,by simp,O0 _,θ5,h5,acc,ρ3,by omega,Ev.refl,w5,ra5,fr5,p5⟩,?_⟩
    rintro i2 m2 τ us K ⟨rfl,hi2,θ6,h6,acc6,ρ6,hacc6,ev6,w6,ra6,fr6,p6⟩
    obtain ⟨k1,k2⟩:=hJ2 θ6 h6 K ev6 w6
    have hlu:us.length<=sizeLine:=by rw [<- show acc6.length=us.length from Oc ra6];omega
    by_cases hlt2:i2 < zs.length
    ·have ed2:zs.drop i2=zs[i2]::zs.drop (i2+1):=OH hlt2
     rw [ed2] at p6
     obtain ⟨l1,l2⟩:=k1 i2 zs[i2] (NR hlt2)
     refine .inr ⟨l1,hlu,fun τ' us' K'=>i2+1<=zs.length/\∃ θ6 h6 acc6 ρ6,acc6.length<=acc.length+(i2+1)/\Ev θ5 H5 θ6 K'/\W G θ6 h6 K'/\aO G θ6 K' acc6 us'/\Fr G θ6 K' ρ6 τ'/\aG G F θ6 K' ((i9 g2 t2 m (zs.drop (i2+1)) ρ6 h6).bind fun vs h7=>(eO n ρ g t it2 g2 t2 m (xs.drop (i+1)) (acc6.length+vs.length) h7).bind fun ws h8=>mk (acc6++(vs++ws)) h8) (KV G Q),fun τ' us' K' q=>⟨zs.length - (i2+1),by omega,rfl,q⟩,fun x2 K2 y2=>?_⟩
     obtain ⟨e7,w7,r7⟩:=l2 x2 K2 y2
     have p7:=p6.later e7
     unfold i9 at p7
     simp only [R.bind_assoc] at p7
     refine ⟨θ6,h6,_,zs[i2],w7,fr6.ev e7,r7,(aG.cN p7).mono fun ρ8 θ8 h8 K8 _ _ ⟨e8,w8,p8⟩ τ8 fr8=>⟨θ8,h8,ρ8,w8,fr8,(aG.cN p8).mono fun c2 θ9 h9 K9 _ _ ⟨e9,w9,p9⟩=>?_⟩⟩
     have ev9:=(ev6.trans e7).trans (e8.trans e9)
     have ra9:=aO.ev (e7.trans (e8.trans e9)) ra6
     cases c2 with
     | false=>exact ⟨hlt2,θ9,h9,acc6,ρ8,by omega,ev9,w9,ra9,fr8.ev e9,p9⟩
     | true=>
      simp only [Ot,R.bind_assoc] at p9
      refine ⟨θ9,h9,ρ8,w9,fr8.ev e9,(aG.cN p9).mono fun y3 θ10 h10 K10 _ _ ⟨e10,w10,p10⟩ v10 r10=>⟨hlt2,θ10,h10,acc6++[y3],ρ8,by simp;omega,ev9.trans e10,w10,?_,(fr8.ev e9).ev e10,?_⟩⟩
      ·exact eI (aO.ev e10 ra9) (.cons r10 .nil)
      ·simp only [R.bind_assoc,R.ao] at p10
       have e11:∀ vs:List D,(acc6++[y3]).length+vs.length=acc6.length+(y3::vs).length:=fun vs=>by simp;omega
       simp only [e11]
       simpa using p10
    ·have hx:i2=zs.length:=by omega
     subst hx
     rw [OP (NI _)] at p6
     simp only [i9,R.ao,Pt,OB,Nat.add_zero] at p6
     exact .inl ⟨k2,hlt,θ6,h6,acc6,by omega,ev4.trans (e5.trans ev6),w6,ra6,p6⟩
   ·exact p5.elim
 ·have hx:i=xs.length:=by omega
  subst hx
  rw [OP (NI _)] at p
  simp only [eO,R.ao,RB] at p
  exact .inl ⟨j2,hly,hmk acc ys θ' h' H hacc w ra p⟩
end
section
variable {X:Cx} {E:XK} {it it2:MA} {g g2:MG} {t t2:MT} {m:ME} {own:List Str} {scope:Scope} {elt tg e tg2 e2:Expr} {ifs ifs2:List Expr} {pos:Pos} {i:Nat} {x:Str}
theorem Cy {G:Gx} {n:Nat} {mk:List D->Hm->R D} {σ:St} {H:Hp} {Q:VK} (h:lE G E (ai mk (qB n it g t it2 g2 t2 m)) σ H Q)
  (hmk:∀ ys vs θ h H,ys.length<=sizeLine->W G θ h H->aO G θ H ys vs->aG G (nL G E) θ H (mk ys h) (KV G Q)->∀ p,H p=none->Q (.ref p) (upd H p (.lst vs))) :
  yk n (lI G E it) (lG G cZ g) (lT G cZ t) (lI G cZ it2) (lG G cZ g2) (lT G cZ t2) (lE G cZ m) σ H Q:=by
 obtain ⟨θ,h,ρ,w,fr,p⟩:=h
 simp only [ai,qB,R.bind_assoc] at p
 refine ⟨θ,h,ρ,w,fr,(aG.bind p).mono fun xs θ1 h1 H1 _ _ ⟨ev,w1,p1⟩ J hJ=>?_⟩
 split at p1
 ·exact yl hJ w1 (fr.ev ev) p1 hmk
 ·exact p1.elim
theorem Cz {G:Gx} {n:Nat} {mk:List D->Hm->R D} {C:Ends} {σ:St} {H:Hp} (h:lS G E (cn i (ai mk (qB n it g t it2 g2 t2 m))) C σ H)
  (hmk:∀ Q ys vs θ h H,ys.length<=sizeLine->W G θ h H->aO G θ H ys vs->aG G (nL G E) θ H (mk ys h) (KV G Q)->∀ p,H p=none->Q (.ref p) (upd H p (.lst vs))) :
  Al (yk n (lI G E it) (lG G cZ g) (lT G cZ t) (lI G cZ it2) (lG G cZ g2) (lT G cZ t2) (lE G cZ m)) (L2.ay i) C σ H:=by
 obtain ⟨θ,h,ρ,w,fr,p⟩:=h
 refine Cy (Q:=fun x H1=>L2.ay i x σ H1 C.nx) ⟨θ,h,ρ,w,fr,(aG.bind p).mono fun d θ1 h1 H1 _ _ ⟨ev,w1,p1⟩ v r=>p1 θ1 H1 Ev.refl w1 _ ((fr.ev ev).set r)⟩ (hmk _)
theorem CA (own:List Str) {pos' spos:Pos} (hN:X.N.Nodup) (hxi:X.N[i]?=some x) (hx:X.env.scope.names.lookup x=some .local) (CS:eE X.env.scope X.N own scope=true) (hc:X.calm=true) (hi:DI X E it tg e) (hg:∀ C s2 H2 fp pins,DG (aq X own scope C s2 H2 fp pins) cZ g tg)
  (ht:∀ C s2 H2 fp pins,EH (aq X own scope C s2 H2 fp pins) cZ t ifs) (hi2:∀ C s2 H2 fp pins,DI (aq X own scope C s2 H2 fp pins) cZ it2 tg2 e2) (hg2:∀ C s2 H2 fp pins,DG (aq X own scope C s2 H2 fp pins) cZ g2 tg2)
  (ht2:∀ C s2 H2 fp pins,EH (aq X own scope C s2 H2 fp pins) cZ t2 ifs2) (he:∀ C s2 H2 fp pins,DE (aq X own scope C s2 H2 fp pins) cZ m elt) (hs:∀ x,foldedSetIterable e X.env x=pure x:=by intro _;rfl) (hs2:∀ (env:Env) x,foldedSetIterable e2 env x=pure x:=by intro _ _;rfl)
  (hsw:swapsWith (.ListComp elt [⟨tg,e,ifs,0⟩,⟨tg2,e2,ifs2,0⟩] scope pos) (some (.Name x pos')) spos.line X.env=pure true:=by rfl):DS X E (cn i (uR own.length it g t it2 g2 t2 m)) (.Assign [.Name x pos'] (.ListComp elt [⟨tg,e,ifs,0⟩,⟨tg2,e2,ifs2,0⟩] scope pos) spos):=by
 simp only [bw,jq,kT,jt,nO] at *
 exact PS.imp (Cw (g:=lG X.G cZ g) (tc:=lT X.G cZ t) (wi2:=lI X.G cZ it2) (g2:=lG X.G cZ g2) (tc2:=lT X.G cZ t2) (te:=lE X.G cZ m) own hN hxi hx CS hc hi hg ht he hi2 hg2 ht2 hs hs2 hsw) fun C σ H q=>Cz q fun Q ys vs θ h H _=>lF ys vs θ h H
end
def CB:PyData->Value->Bool
 | .none,.none=>true
 | .bool b,.bool c=>b == c
 | .int i,.int j _=>i == j
 | .str x,.str y _=>x == y
 | _,_=>false
def nR:List PyData->List Value->Bool
 | [],[]=>true
 | d::ds,v::vs=>CB d v && nR ds vs
 | _,_=>false
def LX (K:PySem.W.Frag) (a:Addr) (xs:List PyData):Bool:=match K.lookup a with
 | some o=>(match o.cls,o.data with
  | .type "tuple",.seq its _=>nR xs its.toList && decide (its.size<=sizeLine)
  | _,_=>false) && cf xs
 | Option.none=>false
theorem CC {d:PyData} {v:Value} (h:CB d v=true):RelV (Gd d) v/\kR d=true:=by
 unfold CB at h
 split at h
 ·exact ⟨rfl,rfl⟩
 ·have:=eq_of_beq h;subst this;exact ⟨rfl,rfl⟩
 ·have:=eq_of_beq h;subst this;exact ⟨⟨_,rfl⟩,rfl⟩
 ·have:=eq_of_beq h;subst this;exact ⟨⟨_,rfl⟩,rfl⟩
 ·cases h
theorem tD:∀ {ds:List PyData} {vs:List Value},nR ds vs=true->Vals (ds.map Gd) vs/\∀ x∈ds,kR x=true
 | [],[],_=>⟨.nil,by simp⟩
 | [],_::_,h=>by simp [nR] at h
 | _::_,[],h=>by simp [nR] at h
 | d::ds,v::vs,h=>by
  simp only [nR,NG] at h
  obtain ⟨h1,h2⟩:=CC h.1
  obtain ⟨k1,k2⟩:=tD h.2
  refine ⟨.cons h1 k1,fun x m=>?_⟩
  rcases NJ.mp m with rfl | m
  ·exact h2
  ·exact k2 x m
theorem Ib {K:PySem.W.Frag} {a:Addr} {xs:List PyData} (h:LX K a xs=true):BV K a xs:=by
 unfold LX at h
 split at h
 ·rename_i o ho
  simp only [NG] at h
  obtain ⟨h,hs⟩:=h
  split at h
  ·rename_i its n hc hd
   simp only [NG,N7] at h
   obtain ⟨k1,k2⟩:=tD h.1
   exact ⟨⟨o,its,n,ho,hc,hd,h.2,k1⟩,fun x m=>by have:=k2 x m;cases x<;>simp_all [kR],hs⟩
  ·cases h
 ·cases h
end Ml
namespace Ml
open PySem
def fA:List PyData->List PyData
 | []=>[]
 | x::xs=>if xs.any (PyData.eqv x) then fA xs else x::fA xs
def setOk (ds:List PyData):Bool:=(ds.all fx || ds.all iS) && aX ds && decide (PyData.depthAll ds<=8) && decide (ds.length<=120)
def gF:Fn:=fun xs h=>match xs with
 | [x]=>match wo x h with
  | some ds=>if setOk ds && eY (fA ds) then .ok (.dat (.list (cS ltB (fA ds)))) h else .bad
  | Option.none=>.bad
 | _=>.bad
def E1 (ds es:List PyData):List PyData:=fA (ds++es)
theorem tE:∀ {ds:List PyData},aX ds=true<->∀ d∈ds,av d=true
 | []=>by simp [aX]
 | d::ds=>by simp [aX,tE (ds:=ds)]
theorem zH {ds:List PyData} {x:PyData} (hd:∀ d∈ds,av d=true) (hx:av x=true):ds.any (PyData.eqv x)=true<->x∈ds:=by
 rw [Ro]
 constructor
 ·rintro ⟨y,hy,e⟩
  rw [(jK (aY hx) (aY (hd y hy))).mp e]
  exact hy
 ·exact fun h=>⟨x,h,aT (aY hx)⟩
theorem iG:∀ {ds:List PyData},(∀ d∈ds,av d=true)->∀ d,d∈fA ds<->d∈ds
 | [],_,d=>by simp [fA]
 | x::xs,h,d=>by
  have hx:=h x (NU ..)
  have hxs:∀ d∈xs,av d=true:=fun d m=>h d (NO _ m)
  have ih:=iG hxs d
  unfold fA
  split
  ·rename_i z
   rw [zH hxs hx] at z
   rw [ih,NJ]
   constructor
   ·exact .inr
   ·rintro (rfl | q)
    ·exact z
    ·exact q
  ·rw [NJ,ih,NJ]
theorem gZ:∀ {ds:List PyData},(∀ d∈ds,av d=true)->(fA ds).Nodup
 | [],_=>by simp [fA]
 | x::xs,h=>by
  have hx:=h x (NU ..)
  have hxs:∀ d∈xs,av d=true:=fun d m=>h d (NO _ m)
  unfold fA
  split
  ·exact gZ hxs
  ·rename_i z
   refine Pe.mpr ⟨fun q=>z ?_,gZ hxs⟩
   rw [zH hxs hx]
   exact (iG hxs x).mp q
end Ml
namespace Ml
open PySem PySem.Spec L2
def CD (i:Nat) (m:ME):MS:=fun ρ h=>match ρ[i]? with
 | some (some (.dat (.int a)))=>(m ρ h).bind fun y h1=>match y with
  | .dat (.int b)=>.ok (.nx (ρ.set i (some (.int (a+b))))) h1
  | _=>.bad
 | _=>.bad
section
variable {X:Cx} {E:XK} {m:ME} {e:Expr} {x:Str} {i:Nat} {pos pos':Pos}
theorem Ic (hN:X.N.Nodup) (hi:X.N[i]?=some x) (hx:Loc X.env.scope x) (he:DE X E m e) (hf:X.fn x=true\/X.env.scope.names.lookup x=some .local:=by first | exact .inl rfl | exact .inr rfl | assumption) :
  DS X E (CD i m) (.AugAssign (.Name x pos') .Add e pos):=by
 simp only [bw,jq] at *
 exact PS.imp (GX hN hi hx he GY hf) fun C σ H ⟨θ,h,ρ,w,fr,p⟩=>by
  unfold CD at p
  cases e1:ρ[i]? with
  | none=>rw [e1] at p;exact p.elim
  | some o=>
   cases o with
   | none=>rw [e1] at p;exact p.elim
   | some d=>
    rw [e1] at p
    obtain ⟨v,h1,h2⟩:=fr.2 i d e1
    cases d with
    | dat q=>
     cases q with
     | int a=>
      have hv:v=.int a:=bK h2
      refine ⟨v,h1,θ,h,ρ,w,fr,(aG.bind p).mono fun y θ1 h1' H1 _ _ ⟨ev,w1,p1⟩ u r=>?_⟩
      cases y with
      | dat q2=>
       cases q2 with
       | int b=>
        have hu:u=.int b:=bK r
        refine ⟨a,b,hv,hu,p1 θ1 H1 Ev.refl w1 _ ((fr.ev ev).set (cv _))⟩
       | _=>exact p1.elim
      | _=>exact p1.elim
     | _=>exact p.elim
    | _=>exact p.elim
theorem LY (i:Nat) (hN:X.N.Nodup) (he:DE X E m e) (hi:X.N[i]?=some x:=by rfl) (hx:Loc X.env.scope x:=by first | exact Or.inl rfl | exact Or.inr rfl) (hf:X.fn x=true\/X.env.scope.names.lookup x=some .local:=by first | exact Or.inl rfl | exact Or.inr rfl) :
  DS X E (CD i m) (.AugAssign (.Name x pos') .Add e pos):=Ic hN hi hx he hf
end
end Ml
namespace L2
open PySem PySem.Spec PyProof.Rows
def E3 (K:PySem.W.Frag) (mg:Str->Option Value) (a:Addr) (fs:List (Str×Str)):Prop:=
 ∃ (o:Obj) (es:Array DictEntry) (ep:Nat),K.lookup a=some o/\o.ExactDict/\o.data=.dict es ep/\(es.all fun e=>isExactStrKey e.key)=true /\
  ∀ k n,fs.lookup k=some n->∃ f,mg n=some (.ref f)/\findBy (fun k v=>v.isStr k) es k=some (.ref f)
theorem E4 {prog:Program} {w:World} {A:Around} {E:Value->Shared->Prop} {s:Shared} {a:Addr} {o:Obj} {es:Array DictEntry} {ep:Nat} {k:Str} {tk:Tok} {v:Value} {Q:Value->Shared->Prop} (ho:s.heap.get? a=some o) (x:o.ExactDict) (hd:o.data=.dict es ep)
  (hall:(es.all fun e=>isExactStrKey e.key)=true) (hf:findBy (fun k v=>v.isStr k) es k=some v) (q:Q v {s with toks:=s.toks+1}):wpAny (model prog w) A (getItem (.ref a) (.str k tk)) Q E s:=by
 have ty:s.TypeIs (.ref a) "dict" := ⟨o,ho,x.1⟩
 unfold getItem
 try with_reducible refine Ow ?_
 refine NC (wpAny_sequenceKey ty (by decide) ?_)
 refine NC (Oj (name:=Str.ofString "__getitem__") ty slot_dict_getitem
  (Of slot_dict_getitem ty entry_dict_getitem ?_ (args_dict_getitem _ _)))
 show wpAny _ _ (dictGet a (.str k tk) >>= _) _ _ s
 refine NC ?_
 unfold dictGet
 try with_reducible refine Ow ?_
 refine NC (wpAny_pyHash_str (NC (PyProof.Rows.KTD.kt_dictFind_strs (s:={s with toks:=s.toks+1}) ho hd hall ?_)))
 rw [findBy_of_findIdx?] at hf
 cases hi:es.findIdx? fun e=>e.key.isStr k with
 | none=>rw [hi] at hf;cases hf
 | some i=>
  rw [hi] at hf
  refine NC (Q4 (s:={s with toks:=s.toks+1}) ho hd (ND ?_))
  have hf':Option.map (fun x:DictEntry=>x.val) es[i]?=some v:=hf
  rw [hf']
  exact ND ⟨v,rfl,ND q⟩
section
variable {X:Cx} {o i:Expr} {pos:Pos} {td ty:TE}
def JV (fs:List (Str×Str)) (a:Addr) (mg:Str->Option Value) (td ty:TE):TE:=fun σ H Q=>td σ H fun x H1=>ty σ H1 fun y H2=>∃ k n,x=.ref a/\y=.str k/\fs.lookup k=some n/\∀ f,mg n=some (.ref f)->Q (.ref f) H2
theorem Ie {a:Addr} {fs:List (Str×Str)} (kf:E3 X.K X.mg a fs) (ho:PE X o td) (hi:PE X i ty) (hs:Hq i):PE X (.Subscript o i pos) (JV fs a X.mg td ty):=by
 intro pins s σ H Q I h
 refine Es PySem.F.slot_dict_getitem.lookup hs (bA (ho pins s σ H _ I h) fun u s1 ⟨x,H1,I1,rx,q1⟩=>bA (hi pins s1 σ H1 _ I1 q1) fun iv s2 ⟨y,H2,I2,ry,k,n,ex,ey,lk,q2⟩=>?_)
 subst ex
 subst ey
 obtain rfl:u=Value.ref a:=rx
 obtain ⟨tk,rfl⟩:∃ t,iv=Value.str k t:=ry
 obtain ⟨ob,es,ep,h1,h2,h3,h4,h5⟩:=kf
 obtain ⟨f,hf,hk⟩:=h5 k n lk
 have g:s2.heap.get? a=some ob:=I2.rH a ob h1
 exact ⟨⟨ob,g,h2.1⟩,E4 g h2 h3 h4 hk ⟨.ref f,H2,I2.tok _,rfl,q2 f hf⟩⟩
end
def Gg (K:PySem.W.Frag) (es:Array DictEntry) (p:Str×Str):Bool:=match findBy (fun k v=>v.isStr k) es p.1,PySem.W.nsIn K mainGlobals p.2 with
 | some (.ref f),some (some (.ref g))=>f == g
 | _,_=>false
def LZ (K:PySem.W.Frag) (a:Addr) (fs:List (Str×Str)):Bool:=match K.lookup a with
 | some ⟨.type "dict",none,.dict es _,sl⟩=>sl.isEmpty && (es.all fun e=>isExactStrKey e.key) && fs.all (Gg K es)
 | _=>false
theorem lookup_mem {fs:List (Str×Str)} {k n:Str} (h:fs.lookup k=some n):(k,n)∈fs:=by
 induction fs with
 | nil=>cases h
 | cons p ps ih=>
  obtain ⟨x,y⟩:=p
  rw [Pl] at h
  cases q:k == x with
  | true=>rw [q] at h;cases h;rw [eq_of_beq q];exact NU ..
  | false=>rw [q] at h;exact NO _ (ih h)
theorem Ig {K:PySem.W.Frag} {mg:Str->Option Value} {a:Addr} {fs:List (Str×Str)} (G:∀ n v,PySem.W.nsIn K mainGlobals n=some (some v)->mg n=some v) (h:LZ K a fs=true):E3 K mg a fs:=by
 unfold LZ at h
 split at h
 ·rename_i es ep sl e
  simp only [NG] at h
  obtain ⟨⟨h1,h2⟩,h3⟩:=h
  refine ⟨_,es,ep,e,⟨rfl,rfl,?_⟩,rfl,h2,fun k n hl=>?_⟩
  ·exact Array.isEmpty_iff.mp h1
  ·have:=NT.mp h3 _ (lookup_mem hl)
   unfold Gg at this
   split at this
   ·rename_i f g q1 q2
    have:=eq_of_beq this
    subst this
    exact ⟨_,G _ _ q2,q1⟩
   ·cases this
 ·cases h
end L2
namespace Ml
open PySem PySem.Spec L2
def qC (fs:List (Str×Str)) (m:ME):ME:=fun ρ h=>(m ρ h).bind fun x h1=>match x with
 | .dat (.str k)=>match fs.lookup k with
  | some n=>.ok (.fn n) h1
  | Option.none=>.bad
 | _=>.bad
section
variable {X:Cx} {E:XK} {m:ME} {e:Expr} {x:Str} {pos p:Pos}
theorem zI {fs:List (Str×Str)} (hm:∃ a,X.mg x=some (.ref a)/\E3 X.K X.mg a fs) (he:DE X E m e) (hs:Hq e) (hg:Gl X x:=by rfl) (hd:(x == ("__debug__" : Str))=false:=by decide):DE X E (qC fs m) (.Subscript (.Name x p) e pos):=by
 simp only [bw] at *
 obtain ⟨a,hm,kf⟩:=hm
 exact PE.imp (Ie kf (uc (v:=.ref a) hg hm rfl hd) he hs) fun σ H Q ⟨θ,h,ρ,w,fr,q⟩=>by
  refine ⟨θ,h,ρ,w,fr,(aG.bind q).mono fun d θ1 h1 H1 _ _ ⟨ev,w1,q1⟩ v r=>?_⟩
  cases d with
  | dat z=>
   cases z with
   | str k=>
    cases el:fs.lookup k with
    | none=>simp only [el] at q1;exact q1.elim
    | some n=>
     simp only [el] at q1
     exact ⟨k,n,rfl,r.1,el,fun f hf=>q1 θ1 H1 Ev.refl w1 _ ⟨f,hf,rfl⟩⟩
   | _=>exact q1.elim
  | _=>exact q1.elim
end
def ja (i:Nat) (fs:List (Str×Fn)) (ma:MA):ME:=fun ρ h=>match ρ[i]? with
 | some (some (.fn n))=>match fs.lookup n with
  | some F=>ai F ma ρ h
  | Option.none=>.bad
 | _=>.bad
inductive lJ (P:Program) (w:World) (K:PySem.W.Frag) (mg:Str->Option Value) (base:Heap) (k:Nat):List (Str×Fn)->Prop
 | nil:lJ P w K mg base k []
 | cons {n:Str} {ps:List Str} {F:Fn} {fs:List (Str×Fn)}:aL P w K mg base n ps k F->lJ P w K mg base k fs->lJ P w K mg base k ((n,F)::fs)
theorem lJ.get {P:Program} {w:World} {K:PySem.W.Frag} {mg:Str->Option Value} {base:Heap} {k:Nat}:∀ {fs:List (Str×Fn)} {n:Str} {F:Fn},lJ P w K mg base k fs->fs.lookup n=some F->∃ ps,aL P w K mg base n ps k F
 | _,n,F,.cons (n:=m) h t,e=>by
  rw [Pl] at e
  cases q:n == m with
  | true=>
   rw [q] at e
   cases e
   rw [eq_of_beq q]
   exact ⟨_,h⟩
  | false=>
   rw [q] at e
   exact t.get e
section
variable {X:Cx} {E:XK} {x:Str} {k i:Nat} {fs:List (Str×Fn)} {e:Expr} {es:List Expr} {ma:MA} {p pos:Pos}
theorem CF (hs:lJ X.prog X.w X.K X.mg X.base k fs) (hx:Passes (rT X.prog X.w) X E) (hr:cz k X.A) (ha:DA X E ma (e::es)) (hN:X.N[i]?=some x) (hv:DX X.env.scope x) (hdb:(x == ("__debug__" : Str))=false:=by decide) (hcd:(x == ("__classdict__" : Str))=false:=by decide)
  (he:starEach (e::es) X.env=(false,eval e X.env)::starEach es X.env:=by rfl) (hpl:(backTo pos (starEach es X.env)).any (·.1)=false:=by rfl):DE X E (ja i fs ma) (.Call (.Name x p) (e::es) [] pos):=by
 simp only [bw,jM] at *
 intro pins s σ H Q I ⟨θ,h,ρ,w,fr,q⟩
 unfold ja at q
 cases e1:ρ[i]? with
 | none=>rw [e1] at q;exact q.elim
 | some o=>
  cases o with
  | none=>rw [e1] at q;exact q.elim
  | some d=>
   rw [e1] at q
   obtain ⟨v,g1,g2⟩:=fr.2 i d e1
   cases d with
   | fn n=>
    cases el:fs.lookup n with
    | none=>simp only [el] at q;exact q.elim
    | some F=>
     simp only [el] at q
     obtain ⟨f,hf,rfl⟩:=g2
     obtain ⟨ps,F'⟩:=hs.get el
     obtain ⟨f',fd,h1,h2,h3,h4⟩:=F'.has.ex
     have ef:f'=f:=by
      have z:X.mg n=some (.ref f):=hf
      rw [h1] at z
      cases z
      rfl
     subst ef
     obtain ⟨m,hn,hl⟩:=I.loc
     obtain ⟨u,r,l⟩:=hl i x _ hN g1 hv
     obtain rfl:u=Value.ref f':=r
     have fin:wpAny (model X.prog X.w) X.A (callWith pos (.ref f') [] (backTo pos (starEach (e::es) X.env)) (backToKw pos (keywordEach [] X.env))) (EP X pins σ Q) X.xe s:=PySem.W.callWith_K (h₀:=X.base) I.ok.mod.kin h2 (bA (ha pos pins s σ H _ I ⟨θ,h,ρ,w,fr,(aG.bind q).mono fun xs θ1 h1 H1 _ _ ⟨ev,w1,p1⟩ vs r=>show (DM X.G F) (vs++[]) H1 Q E from ⟨θ1,h1,xs,w1,by simpa using r,p1⟩⟩) fun us s1 ⟨vs,H1,I1,r,q⟩=>⟨I1.rH,xN h4 hr h3 .nil hx I1 r q⟩) he hpl
     rcases l with ⟨hk,hm⟩ | ⟨hk,c,hc,hcell⟩
     ·exact ON (RI (Ru I.ok.kind hk hn hm fin) hdb)
     ·rcases hk with hk | hk
      ·exact ON (RI (RA I.ok.kind hk hc hcell fin) hdb)
      ·exact ON (RI (wpAny_loadName_free I.ok.kind hk hc hcell fin hcd) hdb)
   | _=>exact q.elim
theorem CG (i:Nat) (hs:lJ X.prog X.w X.K X.mg X.base k fs) (hx:Passes (rT X.prog X.w) X E) (hr:cz k X.A) (ha:DA X E ma (e::es)) (hN:X.N[i]?=some x:=by rfl) (hv:DX X.env.scope x:=by first | exact Or.inl rfl | exact Or.inr (Or.inl rfl) | exact Or.inr (Or.inr rfl)) (hdb:(x == ("__debug__" : Str))=false:=by decide) (hcd:(x == ("__classdict__" : Str))=false:=by decide)
  (he:starEach (e::es) X.env=(false,eval e X.env)::starEach es X.env:=by rfl) (hpl:(backTo pos (starEach es X.env)).any (·.1)=false:=by rfl):DE X E (ja i fs ma) (.Call (.Name x p) (e::es) [] pos):=CF hs hx hr ha hN hv hdb hcd he hpl
end
end Ml
namespace L2
open PySem PySem.Spec PyProof.Rows
theorem wy {prog:Program} {w:World} {A:Around} {R:Result->Shared->Prop} {s:Shared} {kx vx target iter:Expr} {ifs:List Expr} {scope:Scope} {pos:Pos} {it:Value} {D:Addr} {env:Env} (I:Nat->Shared->Prop)
  (turn:∀ n s,I n s->wpAny (model prog w) A (pyNext it) (fun r s1=>match r with
   | none=>R (.ok .next) s1
   | some v=>wpAny (model prog w) A (letOwnedTupleGo target it v) (fun _ s2=>wpAny (model prog w) A (assign target env v) (fun _ s3=>
     wpAny (model prog w) A (forIn ifs true fun c r=>if r=true then do let ok <- isTrue c env (eval c env);pure (ForInStep.yield ok) else pure (ForInStep.yield r)) (fun ok s4=>
      if ok=true then wpAny (model prog w) A (eval kx env) (fun x s5=>wpAny (model prog w) A (eval vx env) (fun y s6=>
       wpAny (model prog w) A (dictSet D x y) (fun _ s7=>∃ m,m < n/\I m s7) (fun _ _=>False) s6) (fun _ _=>False) s5) (fun _ _=>False) s4
      else ∃ m,m < n/\I m s4) (fun _ _=>False) s3) (fun _ _=>False) s2) (fun _ _=>False) s1) (fun _ _=>False) s)
  (n:Nat) (h:I n s) :
  codeAny (model prog w) A (.compLoop (.DictComp kx vx [⟨target,iter,ifs,0⟩] scope pos) 0 it (.ref D) env) R s:=by
 refine codeAny_loop rfl I (fun n s hI=>?_) n h
 show wpAny _ A ((compTurn (.DictComp kx vx [⟨target,iter,ifs,0⟩] scope pos) 0 it (.ref D) env).onRaise (fun x=>do noteFrame x env;theTreesLotGoes x)) _ _ s
 refine wpAny_noted ?_
 rw [compTurn_dict]
 refine OU (E:=fun _ _=>False) (E':=_) (Q':=_) ?_ (fun _ _ q=>q) fun _ _ z=>z.elim
 refine NC (Pd (NC (bA (turn n s hI) (fun r s1 h1=>?_))))
 cases r with
 | none=>exact ND h1
 | some v=>
  refine NC (bA h1 fun _ s2 h2=>?_)
  refine NC (bA h2 fun _ s3 h3=>NC (bA h3 fun ok s4 h4=>?_))
  cases ok with
  | false=>exact ND ⟨rfl,h4⟩
  | true=>exact NC (NC (bA h4 fun x s5 h5=>NC (Ow (bA h5 fun y s6 h6=>NC (Pd (Ow (bA h6 fun _ s7 h7=>ND ⟨rfl,h7⟩)))))))
def JW {τ:Type} (P:Program) (w:World) (A:Around) (ok:τ->Obj->Prop) (t:τ) (y z:V) (H:Hp) (N:τ->Hp->Prop):Prop:=
 ∀ (Y:Cx) (pins:List (Addr×Obj)) (σ:St) (s:Shared) (D:Addr) (o:Obj) (u r:Value) (Q:Unit->Shared->Prop) (E:Value->Shared->Prop),Y.prog=P->Y.w=w->Inv Y pins σ H s->s.heap.get? D=some o->ok t o->RelV y u->RelV z r ->
  (∀ (h':Heap) (o':Obj) (tk:Nat) (t':τ),N t' H->h'.get? D=some o'->ok t' o'->Heap.SameBut D s.heap h'->Q () {s with heap:=h',toks:=tk})->wpAny (model P w) A (dictSet D u r) Q E s
def ym {τ:Type} (P:Program) (w:World) (A:Around) (ok:τ->Obj->Prop) (t0:τ) (n:Nat) (J:It) (g:TG) (tc:TT) (tk tv:TE) (σ:St) (H:Hp) (Q:VK):Prop:=
 ∃ W:Nat->Nat->τ->Hp->Prop,(∃ m,W 0 m t0 H)/\∀ i m t H,W i m t H ->
  (J.stop i H/\∀ p o,H p=none->ok t o->∃ ho,(∀ H' h,h.get? p=some o->p≠sysModules->cu P w H' h p ho)/\Q (.ref p) (upd H p ho)) \/
  (J.go i H/\∃ N:τ->Hp->Prop,(∀ t' H',N t' H'->∃ m',m' < m/\W (i+1) m' t' H')/\∀ x H',J.yld i H x H'->g x (List.replicate n none++σ) H' fun σ2 H2=>tc σ2 H2 fun b H3=>
   if b=true then tk σ2 H3 fun y H4=>tv σ2 H4 fun z H5=>JW P w A ok t y z H5 N else N t H3)
theorem wz {X:Cx} {τ:Type} {ok:τ->Obj->Prop} {t0:τ} {own:List Str} {scope:Scope} {pins:List (Addr×Obj)} {σ:St} {H2:Hp} {s2:Shared} {fp:List Addr} {it:Addr} {tn:Nat->Heap->Prop} {J:It} {kx vx tg iter:Expr} {ifs:List Expr} {pos:Pos} {g:TG} {tc:TT} {tk tv:TE} {Q:VK}
  {RR:Value->Addr->Result->Shared->Prop} {E:Value->Shared->Prop} (I:Inv X pins σ H2 s2) (CS:ck X.env.scope X.N own scope) (hc:X.calm=true) (T:Turn X.prog X.w X.K tg J fp it tn) (st:tn 0 s2.heap) (hf:∀ b∈fp,gu X pins H2 b)
  (hg:∀ C s2 H2 fp pins,PG (aq X own scope C s2 H2 fp pins) tg g) (ht:∀ C s2 H2 fp pins,Az (aq X own scope C s2 H2 fp pins) ifs tc) (hk:∀ C s2 H2 fp pins,PE (aq X own scope C s2 H2 fp pins) kx tk) (hv:∀ C s2 H2 fp pins,PE (aq X own scope C s2 H2 fp pins) vx tv)
  (ok0:ok t0 {cls:=.type "dict",dict:=none,data:=.dict #[]}) (okd:∀ t o,ok t o->∃ es ep,o.data=.dict es ep)
  (hW:ym X.prog X.w X.A ok t0 own.length J g tc tk tv σ H2 Q)
  (hR:∀ D C H' s',Inv X pins σ H' s'->gu X pins H' C->(∃ m,s'.heap.Ns C m)->Q (.ref D) H'->Kept X fp H2 H' s2 s'->RR (.ref D) C (.ok .next) s') :
  wpAny (model X.prog X.w) X.A newDict (fun acc s3=>wpAny (model X.prog X.w) X.A (newFunctionEnv scope X.env.globals (dX X.env.cells scope.names []) [] X.env.qual none .none (some X.env)) (fun cenv s4=>
   codeAny (model X.prog X.w) X.A (.compStart (.DictComp kx vx [⟨tg,iter,ifs,0⟩] scope pos) 0 (.ref it) acc {cenv with scope:=relabel scope X.env}) (RR acc cenv.locals) s4) E s3) E s2:=by
 refine Om (hZ ?_)
 dsimp only
 generalize hH:s2.heap.push {cls:=.type "dict",dict:=none,data:=.dict #[]}=h3
 have hDC:h3.objs.size=s2.heap.objs.size+1:=by rw [<- hH,Oi]
 have eC:({scope:=relabel scope X.env,locals:=h3.objs.size,globals:=X.env.globals,cells:=cellsFrom (h3.objs.size+1) scope.names (dX X.env.cells scope.names []),qual:=X.env.qual,func:=none,code:=X.env.code,frame:=X.env.frame,builtins:=X.env.builtins}:Env)=hX scope h3.objs.size X.env:=rfl
 rw [eC]
 generalize eD:s2.heap.objs.size=D at *
 generalize eCC:h3.objs.size=C at *
 have hl:∀ b∈fp,b < s2.heap.objs.size:=fun b hb=>by
  obtain ⟨o,e,_⟩:=T.obj 0 _ st b hb
  exact NK e
 have hC:s2.heap.objs.size<=C:=by omega
 generalize hH4:pushCells (h3.push {cls:=.type "dict",data:=.dict #[]}) scope.names=h4
 have k34:∀ b o,(h3.push {cls:=.type "dict",data:=.dict #[]}).get? b=some o->h4.get? b=some o:=fun b o e=>by rw [<- hH4];exact pushCells_keeps _ _ b o e
 have k24:∀ b o,s2.heap.get? b=some o->h4.get? b=some o:=fun b o e=>k34 b o (NF _ (by rw [<- hH];exact NF _ e))
 have nsC:h4.Ns C fun _=>none:=by
  have:=Heap.Ns.new h3 (.type "dict")
  rw [eCC] at this
  exact this.keeps k34
 have accD:h4.get? D=some {cls:=.type "dict",dict:=none,data:=.dict #[]}:=k34 _ _ (NF _ (by rw [<- hH,<- eD];exact NL _ rfl))
 have cellN:∀ x c,(x,c)∈cellsFrom (C+1) scope.names []->h4.IsCell c none/\C+1<=c:=fun x c hm=>by
  have ok:=cellsFrom_ok scope.names (h3.push {cls:=.type "dict",data:=.dict #[]}) (C+1) [] ⟨fun _ _ hm=>(nomatch hm),List.Pairwise.nil⟩ (by rw [Oi];omega)
  rw [Oi,eCC,hH4] at ok
  exact ok.empty x c hm
 have hne:H2 D=none:=by rw [<- eD];exact I.hok.fresh (NI _)
 have ok':(aq X own scope C s2 H2 fp pins).Ok:=ui I CS hC hf hl
 have rebase:∀ {σ':St} {H':Hp} {ps:List (Addr×Obj)} {s':Shared},Inv (aq X own scope C s2 H2 fp pins) ps σ' H' s'->Inv (aq X own scope C s2 H2 fp pins) ps (List.replicate own.length none++σ) H' s':=fun {σ' H' ps s'} J'=>by
  obtain ⟨m,hn,_⟩:=J'.loc
  refine ⟨J'.ok,J'.os,J'.bare,J'.base,⟨m,hn,iA I CS fun c v z ⟨x,hx⟩=>?_⟩,J'.cell,J'.free,J'.freeC,J'.pin,J'.hok,?_⟩
  ·obtain ⟨o,ho,hd⟩:=z
   obtain ⟨sl,e⟩:=J'.base.any ho (I.freeC x c hx) fun hb=>(hf c hb).2.2.2.2.1 x c hx rfl
   exact ⟨_,e,hd⟩
  ·show (List.replicate own.length none++σ).length=(own++X.N).length
   rw [N4,N4,OJ,I.len]
 have start:Inv (aq X own scope C s2 H2 fp pins) [] (List.replicate own.length none++σ) H2 {s2 with heap:=h4}:=by
  have I4:Inv X pins σ H2 {s2 with heap:=h4}:=I.kept (t':=s2.toks) k24
  refine ⟨ok',rfl,I.bare,Un.kept k24,⟨_,nsC,iA I CS fun c v z _=>z.keeps k24⟩,fun x c h=>?_,I.hok.fresh hC,fun x c h=>?_,fun p hp=>?_,I4.hok,?_⟩
  ·rcases bF h with ⟨a,_,_⟩ | a
   ·exact ⟨_,(cellN x c a).1⟩
   ·obtain ⟨v,z⟩:=I.cell x c (dE I CS a).2
    exact ⟨v,z.keeps k24⟩
  ·rcases bF h with ⟨_,_,a⟩ | a
   ·exact I.hok.fresh (NS hC (NS (O9 _) a))
   ·exact I.freeC x c (dE I CS a).2
  ·have hp':p∈X.pn++pins:=by
    rcases NX.mp hp with z | z
    ·exact z
    ·exact nomatch z
   obtain ⟨e,n,ne,nf,d⟩:=I.pin p hp'
   refine ⟨k24 _ _ e,n,N0 (NM (NK e) hC),fun z=>?_,d⟩
   rcases NJ.mp (I.hV _ z) with q | q
   ·exact ne q
   ·exact nf q
  ·show (List.replicate own.length none++σ).length=(own++X.N).length
   rw [N4,N4,OJ,I.len]
 obtain ⟨W,⟨m0,w0⟩,turn⟩:=hW
 have nfs:∀ b,s2.heap.objs.size<=b->b∉(aq X own scope C s2 H2 fp pins).fs:=fun b hb z=>by
  rcases NJ.mp (I.hV b z) with q | q
  ·rw [q] at hb;exact absurd (NM I.lt hb) (N5 _)
  ·exact I.xD hb q
 have fpD:∀ {H':Hp},H' D=none->gu (aq X own scope C s2 H2 fp pins) [] H' D:=fun {H'} hn=>by
  refine ⟨hn,N0 (by show D < C;omega),nfs D (by omega),.inr (by show s2.heap.objs.size<=D;omega),fun x c h z=>?_,fun p hp z=>?_⟩
  ·rcases bF h with ⟨_,_,a⟩ | a
   ·rw [z] at a;exact absurd (NM (show D < C+1 by omega) a) (N5 _)
   ·obtain ⟨v,q⟩:=I.cell x c (dE I CS a).2
    have:=q.lt
    rw [z,eD] at this
    exact N5 _ this
  ·have hp':p∈X.pn++pins:=by
    rcases NX.mp hp with z | z
    ·exact z
    ·exact nomatch z
   have:=NK (I.pin p hp').1
   rw [z,eD] at this
   exact N5 _ this
 have nD:D∉fp:=fun z=>by have:=hl D z;rw [eD] at this;exact N5 _ this
 have stat:∀ {H':Hp} {ps:List (Addr×Obj)},(∀ p∈ps,p.1=D)->(∀ b∈fp,H' b=none)->∀ b∈fp,gu (aq X own scope C s2 H2 fp pins) ps H' b:=fun {H' ps} hps hn b hb=>by
  obtain ⟨f0,f1,f2,f3,f4,f5⟩:=hf b hb
  refine ⟨hn b hb,(ok'.exf b hb).1,ok'.exfs b hb,.inl hb,(ok'.exf b hb).2,fun p hp=>?_⟩
  rcases NX.mp hp with z | z
  ·exact f5 p z
  ·rw [hps p z]
   exact fun q=>nD (q▸hb)
 let LI:Nat->Shared->Prop:=fun n s'=>∃ i t o H',Inv (aq X own scope C s2 H2 fp pins) [] (List.replicate own.length none++σ) H' s'/\tn i s'.heap/\(∀ b∈fp,H' b=none)/\H' D=none /\
  s'.heap.get? D=some o/\ok t o/\W i n t H'
 have l0:LI m0 {s2 with heap:=h4}:=⟨0,t0,_,H2,start,T.keep _ _ _ st fun b _ o e=>k24 b o e,fun b hb=>(hf b hb).1,hne,accD,ok0,w0⟩
 have loop:codeAny (model X.prog X.w) X.A (.compLoop (.DictComp kx vx [⟨tg,iter,ifs,0⟩] scope pos) 0 (.ref it) (.ref D) (hX scope C X.env)) (RR (.ref D) C) {s2 with heap:=h4}:=by
  refine wy LI ?_ m0 l0
  rintro n s3 ⟨i,t,oD,H3,I3,st3,fr3,d3,a3,v3,w3⟩
  obtain ⟨es0,ep0,dd3⟩:=okd t oD v3
  rcases turn i n t H3 w3 with ⟨stop,qn⟩ | ⟨go,NN,hNN,step⟩
  ·have I3p:=I3.pinned (fp:=[D]) (fun b hb=>(N8.mp hb)▸fpD d3) fun b hb=>⟨_,(N8.mp hb)▸a3,fun v z=>(by rw [dd3] at z;cases z)⟩
   refine bA (T.done (aq X own scope C s2 H2 fp pins) rfl rfl rfl hc i _ s3 _ H3 _ I3p (stat (fun p hp=>by have q:p∈bG [D] s3.heap:=hp;have:=(dN q).1;simpa using this) fr3) st3 stop) fun r s4 ⟨hr,I4⟩=>?_
   subst hr
   have a4:s4.heap.get? D=_:=(I4.pin (D,_) (NH _ (NH _ (aS (by simp) a3)))).1
   have u4:Un (rG X.stack) fp H2 H3 s2.heap s4.heap:=I4.base
   have hsys:D≠sysModules:=by rw [<- eD];exact Rk (N0 I.big)
   obtain ⟨ho,L0,qD⟩:=qn D oD d3 v3
   have okD:jx X.prog X.w (upd H3 D ho) s4.heap:=fun b o e=>by
    by_cases hb:b=D
    ·subst hb
     rw [ba] at e
     cases e
     exact L0 _ _ a4 hsys
    ·rw [aB hb] at e
     exact (I4.hok b o e).pJ (fun _ _ _ q=>q) (fun c q=>by rw [aB (aH q d3)];exact q) fun c xs q=>by rw [aB (aH q d3)];exact q
   have nDo:∀ b o,s2.heap.get? b=some o->b≠D:=fun b o e=>by rw [<- eD];exact N0 (NK e)
   have uD:Un (rG X.stack) fp H2 (upd H3 D ho) s2.heap s4.heap:=⟨u4.keep,u4.slot,fun b o e n hx=>by rw [aB (nDo b o e)];exact u4.free b o e n hx,u4.there,
    fun b xs e=>by rw [aB (aH e hne)];exact u4.tups b xs e,fun b o xs e=>by rw [aB (aH e hne)];exact u4.frzs b o xs e,fun b ps e=>by rw [aB (aH e hne)];exact u4.tbls b ps e⟩
   have kp:Kept X fp H2 (upd H3 D ho) s2 s4:=⟨I4.os,uD,okD,I4.bare⟩
   have I5:Inv X pins σ (upd H3 D ho) s4:=kp.inv I hf
   obtain ⟨m,hn,_⟩:=I4.loc
   refine hR D C _ s4 I5 ⟨by rw [aB (show C≠D by omega)];exact I4.free,Qn (NM I.lt hC),I.xD hC,.inr (NS I.sz hC),fun x c e z=>?_,fun p hp z=>?_⟩ ⟨m,hn⟩ qD kp
   ·obtain ⟨v,q⟩:=I.cell x c e
    exact absurd (NM q.lt (by rw [z];exact hC)) (N5 _)
   ·exact absurd (NM (NK (I.pin p hp).1) (by rw [z];exact hC)) (N5 _)
  ·have I3p:=I3.pinned (fp:=[D]) (fun b hb=>(N8.mp hb)▸fpD d3) fun b hb=>⟨_,(N8.mp hb)▸a3,fun v z=>(by rw [dd3] at z;cases z)⟩
   have onlyD:∀ p∈([]++bG [D] s3.heap),p.1=D:=fun p hp=>by have q:p∈bG [D] s3.heap:=hp;have:=(dN q).1;simpa using this
   refine bA (T.item (aq X own scope C s2 H2 fp pins) rfl rfl rfl hc i _ s3 _ H3 _ I3p (stat onlyD fr3) st3 go) fun r s4 ⟨u,hr,h4'⟩=>?_
   subst hr
   refine bA h4' fun _ s5 ⟨x,H5,I5,r5,y5,st5,fr5⟩=>?_
   have I5p:=I5.pinned (fp:=fp) (stat onlyD fr5) (T.obj _ _ st5)
   have cont:∀ {s6:Shared} {σ6:St} {H6:Hp},Inv (aq X own scope C s2 H2 fp pins) (([]++bG [D] s3.heap)++bG fp s5.heap) σ6 H6 s6 ->
     Inv (aq X own scope C s2 H2 fp pins) [] (List.replicate own.length none++σ) H6 s6/\tn (i+1) s6.heap/\(∀ b∈fp,H6 b=none)/\H6 D=none/\s6.heap.get? D=some oD:=fun {s6 σ6 H6} I6=>by
    have pD:=I6.pin (D,_) (NH _ (Oq _ (NH _ (aS (by simp) a3))))
    refine ⟨rebase (I6.iO fun p hp=>nomatch hp),T.keep _ _ _ st5 fun b hb o e=>(I6.pin (b,o) (NH _ (NH _ (aS hb e)))).1,fun b hb=>?_,pD.2.1,pD.1⟩
    obtain ⟨o,e,_⟩:=T.obj _ _ st5 b hb
    exact (I6.pin (b,o) (NH _ (NH _ (aS hb e)))).2.1
   refine bA (hg C s2 H2 fp pins _ s5 _ H5 x u _ I5p r5 (step x H5 y5)) fun _ s6 ⟨σ6,H6,I6,q6⟩=>?_
   refine bA (ht C s2 H2 fp pins _ s6 σ6 H6 _ I6 q6) fun b s7 ⟨H7,I7,q7⟩=>?_
   cases b with
   | false=>
    have q7':NN t H7:=q7
    obtain ⟨m',hm,w7⟩:=hNN _ _ q7'
    obtain ⟨c1,c2,c3,c4,c5⟩:=cont I7
    exact ⟨m',hm,i+1,t,oD,H7,c1,c2,c3,c4,c5,v3,w7⟩
   | true=>
    refine bA (hk C s2 H2 fp pins _ s7 σ6 H7 _ I7 q7) fun kv s8 ⟨y,H8,I8,r8,q8⟩=>?_
    refine bA (hv C s2 H2 fp pins _ s8 σ6 H8 _ I8 q8) fun vv s9 ⟨z,H9,I9,r9,q9⟩=>?_
    obtain ⟨c1,c2,c3,c4,c5⟩:=cont I9
    refine q9 (aq X own scope C s2 H2 fp pins) _ _ s9 D oD kv vv _ _ rfl rfl I9 c5 v3 r8 r9 fun h' o' tk t' n' g' ok' sb=>?_
    obtain ⟨m',hm,w9⟩:=hNN _ _ n'
    obtain ⟨f0,f1,f2,f3,f4,f5⟩:=fpD c4
    exact ⟨m',hm,i+1,t',o',H9,c1.turned (t':=tk) (fun b o hb e=>(sb.2 b hb).trans e) f0 f1 f3 f4 f5,T.keep _ _ _ c2 fun b hb o e=>(sb.2 b fun z=>nD (z▸hb)).trans e,c3,c4,g',ok',w9⟩
 exact codeAny_compStart_dict loop (T.self X.A 0 {s2 with heap:=h4} _ _ (T.keep _ _ _ st fun b _ o e=>k24 b o e) loop)
section
variable {X:Cx} {own:List Str} {scope:Scope} {kx vx tg iter:Expr} {τ:Type} {ok:τ->Obj->Prop} {t0:τ} {ifs:List Expr} {pos:Pos} {wi:TI} {g:TG} {tc:TT} {tk tv:TE}
def CH {τ:Type} (P:Program) (w:World) (A:Around) (ok:τ->Obj->Prop) (t0:τ) (n:Nat) (wi:TI) (g:TG) (tc:TT) (tk tv:TE):TE:=fun σ H Q=>wi σ H fun J H1=>ym P w A ok t0 n J g tc tk tv σ H1 Q
theorem wA (own:List Str) (CS:eE X.env.scope X.N own scope=true) (hc:X.calm=true) (hi:PI X tg iter wi) (hg:∀ C s2 H2 fp pins,PG (aq X own scope C s2 H2 fp pins) tg g)
  (ht:∀ C s2 H2 fp pins,Az (aq X own scope C s2 H2 fp pins) ifs tc) (hk:∀ C s2 H2 fp pins,PE (aq X own scope C s2 H2 fp pins) kx tk) (hv:∀ C s2 H2 fp pins,PE (aq X own scope C s2 H2 fp pins) vx tv)
  (ok0:ok t0 {cls:=.type "dict",dict:=none,data:=.dict #[]}) (okd:∀ t o,ok t o->∃ es ep,o.data=.dict es ep) (hs:∀ x,foldedSetIterable iter X.env x=pure x:=by intro _;rfl) :
  PE X (.DictComp kx vx [⟨tg,iter,ifs,0⟩] scope pos) (CH X.prog X.w X.A ok t0 own.length wi g tc tk tv):=by
 intro pins s σ H Q I h
 have CS:=ck.of CS
 rw [arm_eval_DictComp]
 refine P5 (use:=none) (g:=⟨tg,iter,ifs,0⟩) rfl hs (fL fun n hn=>I.ok.has n (CS.frees n hn)) CS.kind (iP CS) (bA (hi pins s σ H _ I h) fun v s1 h1=>bA h1 fun itv s2 h2=>?_)
 obtain ⟨it,fp,tn,J,H2,e,I2,T,st2,f2,hW⟩:=h2
 subst e
 refine wz (RR:=fun acc C=>compPost (model X.prog X.w) X.A X.xe none (EP X pins σ Q) acc C) I2 CS hc T st2 f2 hg ht hk hv ok0 okd hW fun D C H' s' I' fC ⟨m,hn⟩ q _=>?_
 refine ⟨m,hn,fun h' hs'=>⟨.ref D,H',?_,rfl,q⟩⟩
 obtain ⟨f0,f1,_,f3,f4,f5⟩:=fC
 exact I'.turned (t':=s'.toks) (fun b o hb e=>(hs'.2 b hb).trans e) f0 f1 f3 f4 f5
end
end L2
namespace Ml
open PySem PySem.Spec L2
def fb (tb:Bool) (n:Nat) (ρ:Fm) (g:MG) (c:MT) (k v:ME):List D->List (PyData×PyData)->Hm->R (List (PyData×PyData))
 | [],acc,h=>.ok acc h
 | x::xs,acc,h=>(g x (List.replicate n none++ρ) h).rV.bind fun ρ1 h1=>(c ρ1 h1).rV.bind fun b h2=>
  if b then (k ρ1 h2).rV.bind fun y h3=>(v ρ1 h3).rV.bind fun z h4=>match y,z with
   | .dat kd,.dat vd=>if keyOk tb kd && (tb || kR vd) && decide (acc.length < 16777216) then fb tb n ρ g c k v xs (dput acc kd vd) h4 else .bad
   | _,_=>.bad
  else fb tb n ρ g c k v xs acc h2
def lK (tb:Bool) (n:Nat) (it:MA) (g:MG) (c:MT) (k v:ME):ME:=fun ρ h=>(it ρ h).bind fun xs h1=>(fb tb n ρ g c k v xs [] h1).bind fun kvs h2=>R.ok (D.kE tb kvs) h2
structure E5 (G:Gx) (A:Around) {τ:Type} (tb:Bool) (ok:τ->Obj->Prop) (t0:τ) (Rl:List (PyData×PyData)->τ->List Addr->Hp->Prop):Prop where
 ok0:ok t0 {cls:=.type "dict",dict:=none,data:=.dict #[]}
 okd:∀ t o,ok t o->∃ es ep,o.data=.dict es ep
 nil:∀ θ H,Rl [] t0 θ H
 ev:∀ {acc t θ H θ' H'},Ev θ H θ' H'->Rl acc t θ H->Rl acc t θ' H'
 put:∀ {acc t θ h H kd vd y z} {N:τ->Hp->Prop},W G θ h H->bN G θ H (.dat kd) y->bN G θ H (.dat vd) z->Rl acc t θ H->keyOk tb kd=true->(tb || kR vd)=true->acc.length < 16777216 ->
  (∀ t',Rl (dput acc kd vd) t' θ H->N t' H)->JW G.P G.w A ok t y z H N
 fin:∀ {acc t θ h H p o},W G θ h H->Rl acc t θ H->H p=none->ok t o->∃ ho,(∀ H' h,h.get? p=some o->p≠sysModules->cu G.P G.w H' h p ho)/\fu G.P G.w (view θ H) (upd H p ho) p tb acc
def Nr (P:Program) (w:World) (ks:List (Key×V)) (o:Obj):Prop:=ks.length<=sizeLine/\(∃ es ep,o.data=.dict es ep)/\∃ vs,L2.KV ks vs/\∀ (h:Heap) (a:Addr),h.get? a=some o->h.DictOf (bS P w) a vs
theorem Ih {G:Gx} {A:Around}:E5 G A false (Nr G.P G.w) [] fun acc ks _ _=>bx ks=some acc/\∀ p∈acc,cD p.1=true/\cD p.2=true where
 ok0:=⟨O0 _,⟨_,_,rfl⟩,[],.nil,fun h a e=>RF.mpr ⟨_,e,(RF.mp (Heap.DictOf.new (knd:=bS G.P G.w) h)).elim fun o ⟨e1,r⟩=>by
  have e2:(h.push {cls:=.type "dict",data:=.dict #[]}).get? h.objs.size=some {cls:=.type "dict",data:=.dict #[]}:=NL _ rfl
  rw [e2] at e1
  cases e1
  exact r⟩⟩
 okd:=fun t o h=>h.2.1
 nil:=fun θ H=>⟨rfl,fun p hp=>nomatch hp⟩
 ev:=fun _ h=>h
 put:=fun {acc t θ h H kd vd y z N} w r1 r2 rl hk hf hl hN=>by
  intro Y pins σ s D o u r Q E eP ew I gD ⟨lt,_,vs,kv,dd⟩ ry rz cont
  obtain ⟨q,rfl⟩:∃ q,kd=.str q:=by
   simp only [keyOk,NP,Ou] at hk
   cases kd<;>first | exact ⟨_,rfl⟩ | simp [iS] at hk
  have fd:kR vd=true:=by simpa using hf
  have hv:=wc fd r2.1
  obtain ⟨e2,s2⟩:=eM r1
  subst e2
  have so:∀ p∈dput acc (.str q) vd,cD p.1=true/\cD p.2=true:=fun p hp=>by
   unfold dput at hp
   split at hp
   ·obtain ⟨p0,hp0,e0⟩:=Oe.mp hp
    split at e0
    ·subst e0;exact ⟨(rl.2 p0 hp0).1,r2.2⟩
    ·subst e0;exact rl.2 p0 hp0
   ·rcases NX.mp hp with hp | hp
    ·exact rl.2 p hp
    ·simp at hp;subst hp;exact ⟨by simpa [cD] using s2,r2.2⟩
  have hz:vs.length<=sizeLine:=by rw [<- kv.length];exact lt
  refine wpAny_dictSet_pairs (knd:=bS G.P G.w) (hsz:=hz) (pT (k:=Sum.inr q) ry) (dd _ _ gD) fun h' dd' hs=>?_
  obtain ⟨o',g',rest⟩:=RF.mp dd'
  refine cont h' o' _ (putK t (Sum.inr q) z) (hN _ ⟨qx hv rl.1,so⟩) g' ⟨?_,?_,stored vs (Sum.inr q) r,kv.put (Sum.inr q) rz,fun h2 a e2=>RF.mpr ⟨o',e2,rest⟩⟩ hs
  ·have:=gO t (Sum.inr q) z
   rw [iZ rl.1,P8] at *
   omega
  ·obtain ⟨o2,es,ep,g1,g2,g3,_⟩:=dd'
   rw [g'] at g1
   cases g1
   exact ⟨es,ep,g3⟩
 fin:=fun {acc t θ h H p o} w rl hp ⟨lt,_,vs,kv,dd⟩=>⟨.dK t,fun H' h2 e ne=>xV lt (Pq.mpr ne) kv (dd _ _ e),.inl ⟨rfl,t,ba,rl.1,rl.2⟩⟩
def Nt (P:Program) (w:World) (xs:List (PyData×Addr×Value)) (o:Obj):Prop:=xs.length<=sizeLine/\∃ es ep,o.ExactDict/\o.data=.dict es ep/\es.toList=xs.map (entryOfKey (eG P w))/\(xs.map (·.1)).Nodup
theorem Ii {G:Gx} {A:Around} (hA:A.units+20 < cLine):E5 G A true (Nt G.P G.w) [] fun acc xs θ H=>Paired (lD (view θ H)) acc xs where
 ok0:=⟨O0 _,_,_,⟨rfl,rfl,rfl⟩,rfl,rfl,List.nodup_nil⟩
 okd:=fun t o ⟨_,es,ep,_,h,_⟩=>⟨es,ep,h⟩
 nil:=fun θ H=>.nil
 ev:=fun e h=>Paired.rJ h fun _ _=>lD.same e.same
 put:=fun {acc t θ h H kd vd y z N} w r1 r2 rl hk hf hl hN=>by
  intro Y pins σ s D o u r Q E eP ew I gD ⟨lt,es,ep,g2,g3,g4,g5⟩ ry rz cont
  simp only [keyOk,Ot,NG,N7] at hk
  obtain ⟨b,vs,rfl,hb⟩:∃ b vs,y=.ref b/\view θ H b=some (.tup vs):=by
   cases kd with
   | tuple ds=>obtain ⟨b,vs,e,hb,_⟩:=r1.1;exact ⟨b,vs,e,hb⟩
   | _=>simp [fx] at hk
  cases ry
  have dd:s.heap.DictOfH (eG G.P G.w) D t:=⟨o,es,ep,gD,g2,g3,g4,uN I (aA θ H) rl,g5⟩
  have kr:=wg (b:=b) (u:=r) hk.1.2 hk.2 r1.2 r1.1 rz r2.1 r2.2 rl
  refine wpAny_dictSet_heap (knd:=eG G.P G.w) (hsz:=lt) hA (zD I (aA θ H) hk.1.2 hk.2 r1.2 r1.1) dd fun h' dd' hs=>?_
  obtain ⟨o',es',ep',k1,k2,k3,k4,_,k5⟩:=dd'
  refine cont h' o' _ (storedH t kd b r) (hN _ kr) k1 ⟨?_,es',ep',k2,k3,k4,k5⟩ hs
  rw [<- show (dput acc kd vd).length=_ from Oc kr]
  have:=wj acc kd vd
  rw [P8]
  omega
 fin:=fun {acc t θ h H p o} w rl hp ⟨lt,es,ep,g2,g3,g4,g5⟩=>⟨dO G.P G.w t p,fun H' h2 e ne=>Gb lt (Pq.mpr ne) e g2 g3 g4 g5,.inr ⟨rfl,t,ba,rl⟩⟩
section
variable {X:Cx} {E:XK} {mk mv:ME} {t:MT} {e tg kx vx:Expr} {ifs:List Expr} {it:MA} {pos:Pos} {i:Nat} {x:Str} {g:MG} {own:List Str} {scope:Scope} {tb:Bool} {k:Nat}
theorem yn {G:Gx} {A:Around} {τ:Type} {ok:τ->Obj->Prop} {t0:τ} {Rl:List (PyData×PyData)->τ->List Addr->Hp->Prop} (AR:E5 G A tb ok t0 Rl) {F:XP} {n:Nat} {θ1:List Addr} {H1:Hp} {h1:Hm} {xs:List D} {J:It} {σ:L2.St} {ρ:Fm} {Q:VK} (hJ:mK G θ1 H1 xs J) (w1:W G θ1 h1 H1) (fr:Fr G θ1 H1 ρ σ)
  (p1:aG G F θ1 H1 ((fb tb n ρ g t mk mv xs [] h1).bind fun kvs h2=>R.ok (D.kE tb kvs) h2) (Ml.KV G Q)) :
  ym G.P G.w A ok t0 n J (lG G cZ g) (lT G cZ t) (lE G cZ mk) (lE G cZ mv) σ H1 Q:=by
 refine ⟨fun i m' a H=>m'=xs.length - i/\i<=xs.length/\∃ θ' h' acc,Ev θ1 H1 θ' H/\W G θ' h' H/\Rl acc a θ' H/\aG G F θ' H ((fb tb n ρ g t mk mv (xs.drop i) acc h').bind fun kvs h2=>R.ok (D.kE tb kvs) h2) (Ml.KV G Q),
  ⟨xs.length,by simp,O0 _,θ1,h1,[],Ev.refl,w1,AR.nil _ _,p1⟩,?_⟩
 rintro i m' a H ⟨rfl,hi,θ',h',acc,ev,w,ra,p⟩
 obtain ⟨j1,j2⟩:=hJ θ' h' H ev w
 by_cases hlt:i < xs.length
 ·have ed:xs.drop i=xs[i]::xs.drop (i+1):=OH hlt
  rw [ed] at p
  obtain ⟨g1,g2⟩:=j1 i xs[i] (NR hlt)
  refine .inr ⟨g1,fun a2 H2=>i+1<=xs.length/\∃ θ' h' acc,Ev θ1 H1 θ' H2/\W G θ' h' H2/\Rl acc a2 θ' H2/\aG G F θ' H2 ((fb tb n ρ g t mk mv (xs.drop (i+1)) acc h').bind fun kvs h2=>R.ok (D.kE tb kvs) h2) (Ml.KV G Q),fun ys' H' q=>⟨xs.length - (i+1),by omega,rfl,q⟩,fun x H2 y=>?_⟩
  obtain ⟨e2,w2,r2⟩:=g2 x H2 y
  have p2:=p.later e2
  unfold fb at p2
  simp only [R.bind_assoc] at p2
  refine ⟨θ',h',_,xs[i],w2,((fr.ev ev).ev e2).replicate n,r2,(aG.cN p2).mono fun ρ3 θ3 h3 H3 _ _ ⟨e3,w3,p3⟩ σ3 fr3=>⟨θ3,h3,ρ3,w3,fr3,(aG.cN p3).mono fun c θ4 h4 H4 _ _ ⟨e4,w4,p4⟩=>?_⟩⟩
  have ev4:=(ev.trans e2).trans (e3.trans e4)
  have ra4:=AR.ev (e2.trans (e3.trans e4)) ra
  cases c with
  | false=>exact ⟨hlt,θ4,h4,acc,ev4,w4,ra4,p4⟩
  | true=>
   simp only [Ot,R.bind_assoc] at p4
   refine ⟨θ4,h4,ρ3,w4,fr3.ev e4,(aG.cN p4).mono fun y θ5 h5 H5 _ _ ⟨e5,w5,p5⟩ v5 r5=>⟨θ5,h5,ρ3,w5,(fr3.ev e4).ev e5,(aG.cN p5).mono fun z θ6 h6 H6 _ _ ⟨e6,w6,p6⟩ v6 r6=>?_⟩⟩
   have ra6:=AR.ev (e5.trans e6) ra4
   have r5':=bN.ev e6 r5
   cases y with
   | dat kd=>
    cases z with
    | dat vd=>
     simp only at p6
     split at p6
     ·rename_i hc
      simp only [NG,N7] at hc
      exact AR.put w6 r5' r6 ra6 hc.1.1 hc.1.2 hc.2 fun t' rt=>⟨hlt,θ6,h6,_,ev4.trans (e5.trans e6),w6,rt,p6⟩
     ·exact p6.elim
    | _=>exact p6.elim
   | _=>exact p6.elim
 ·have hx:i=xs.length:=by omega
  subst hx
  rw [OP (NI _)] at p
  simp only [fb,R.ao] at p
  refine .inl ⟨j2,fun q o hq hok=>?_⟩
  obtain ⟨ho,h1,h2⟩:=AR.fin w ra hq hok
  obtain ⟨e3,w3,g3⟩:=w.put (o:=ho) hq
  refine ⟨ho,h1,p _ _ e3 w3 _ ⟨q,rfl,h2.same e3.same fun o' e'=>?_⟩⟩
  rw [ba] at e'
  rw [g3]
  exact e'
theorem wB {G:Gx} {A:Around} {τ:Type} {ok:τ->Obj->Prop} {t0:τ} {Rl:List (PyData×PyData)->τ->List Addr->Hp->Prop} (AR:E5 G A tb ok t0 Rl) {n:Nat} {σ:L2.St} {H:Hp} {Q:VK} (h:lE G E (lK tb n it g t mk mv) σ H Q) :
  CH G.P G.w A ok t0 n (lI G E it) (lG G cZ g) (lT G cZ t) (lE G cZ mk) (lE G cZ mv) σ H Q:=by
 obtain ⟨θ,h,ρ,w,fr,p⟩:=h
 simp only [lK] at p
 exact ⟨θ,h,ρ,w,fr,(aG.bind p).mono fun xs θ1 h1 H1 _ _ ⟨ev,w1,p1⟩ J hJ=>yn AR hJ w1 (fr.ev ev) p1⟩
theorem wC (own:List Str) (tb:Bool) (hr:cz k X.A) (CS:eE X.env.scope X.N own scope=true) (hc:X.calm=true) (hi:DI X E it tg e) (hg:∀ C s2 H2 fp pins,DG (aq X own scope C s2 H2 fp pins) cZ g tg)
  (ht:∀ C s2 H2 fp pins,EH (aq X own scope C s2 H2 fp pins) cZ t ifs) (hk:∀ C s2 H2 fp pins,DE (aq X own scope C s2 H2 fp pins) cZ mk kx) (hv:∀ C s2 H2 fp pins,DE (aq X own scope C s2 H2 fp pins) cZ mv vx) (hs:∀ x,foldedSetIterable e X.env x=pure x:=by intro _;rfl) :
  DE X E (lK tb own.length it g t mk mv) (.DictComp kx vx [⟨tg,e,ifs,0⟩] scope pos):=by
 simp only [bw,kT,jt,nO] at *
 cases tb with
 | false=>exact PE.imp (wA (g:=lG X.G cZ g) (tc:=lT X.G cZ t) (tk:=lE X.G cZ mk) (tv:=lE X.G cZ mv) own CS hc hi hg ht hk hv (Ih (G:=X.G) (A:=X.A)).ok0 (Ih (G:=X.G) (A:=X.A)).okd hs) fun σ H Q q=>wB Ih q
 | true=>
  have hu:X.A.units+20 < cLine:=by have:=hr.units;omega
  exact PE.imp (wA (g:=lG X.G cZ g) (tc:=lT X.G cZ t) (tk:=lE X.G cZ mk) (tv:=lE X.G cZ mv) own CS hc hi hg ht hk hv (Ii (G:=X.G) hu).ok0 (Ii (G:=X.G) hu).okd hs) fun σ H Q q=>wB (Ii hu) q
end
end Ml
namespace Ml
open PySem
def lL:List (Str×Str):=[("grounded", "idle_for_grounded"),("preferred", "idle_for_standing"),("stable", "idle_for_stable"),("standing", "idle_for_standing"),("whole", "idle_for_whole")]
def CI:MS:=bC (jF (ai cI (aa (ab 0) (ak))))
    (bC (jF (ai dR (aa (ab 1) (ak))))
    (bC (cn 2 (qC lL (ab 1)))
    (bC (kG (jB (cA (ay 3) (cA (ay 4) (jA)))) (ab 0))
    (bC (cn 5 (lK true 1 (aR (ab 4)) (ay 0) (dG) (ab 0) (ah (.bool true))))
    (bC (cn 6 (cL 2 (aR (ab 4)) (jB (cA (ay 0) (cA (ay 1) (jA)))) (lY (aN (au oEq (ab 0) (ab 1))) (fT (bP (ja 4 [("idle_for_grounded",aV),("idle_for_standing",aP),("idle_for_stable",bj),("idle_for_whole",br)] (aa (ab 7) (aa (ab 0) (aa (ab 1) (ak)))))))) (cC (aa (ab 0) (aa (ab 1) (ak))))))
    (bX (cC (aa (ab 3) (aa (ai gC (aa (ab 6) (ak))) (ak))))))))))
def bZ:Fn:=bI 2 7 CI
def AW:MS:=bC (kG (jB (cA (ay 2) (cA (ay 3) (jA)))) (ai bZ (aa (ab 0) (aa (ab 1) (ak)))))
    (bC (cn 4 (qC lL (ab 1)))
    (bC (cn 5 (lK true 1 (aR (ab 3)) (ay 0) (dG) (ab 0) (ah (.bool true))))
    (bC (cn 6 (uR 2 (aR (ab 2)) (ay 0) (dG) (aR (ab 4)) (ay 1) (lY (aN (au nu (cC (aa (ab 0) (aa (ab 1) (ak)))) (ab 7))) (vF (aN (au x6 (ab 0) (ab 1))) (bP (ja 6 [("idle_for_grounded",aV),("idle_for_standing",aP),("idle_for_stable",bj),("idle_for_whole",br)] (aa (ab 7) (aa (ab 0) (aa (ab 1) (ak)))))))) (cC (aa (ab 0) (aa (ab 1) (ak))))))
    (bX (cC (aa (ab 2) (aa (ai gC (aa (ab 6) (ak))) (ak))))))))
def dS:Fn:=bI 2 7 AW
def yo:MS:=bC (cn 2 (au dY (ai bZ (aa (ab 0) (aa (ab 1) (ak)))) (ah (.int 1))))
    (bC (cn 3 (ah (.int 1)))
    (bC (jH (aR (au dY (ai dS (aa (ab 0) (aa (ab 1) (ak)))) (ah (.int 1)))) (ay 4) (jy (aN (au iD (ab 4) (ab 2))) (CD 3 (ab 3)) (cB)))
    (bX (ab 3))))
def jb:Fn:=bI 2 5 yo
def wD:MS:=bC (jF (ai cI (aa (ab 0) (ak))))
    (bC (jF (ai cI (aa (ab 1) (ak))))
    (bC (jF (ai dR (aa (ab 2) (ak))))
    (bX (au oEq (ai bZ (aa (ab 0) (aa (ab 2) (ak)))) (ai bZ (aa (ab 1) (aa (ab 2) (ak))))))))
def dI:Fn:=bI 3 3 wD
def oH:MS:=bC (jy (aN (au oLt (ab 1) (ai jJ (aa (ab 0) (ak))))) (bX (au dY (ab 0) (ab 1))) (cB))
    (bX (ah (.int 0)))
def dJ:Fn:=bI 2 2 oH
def qE:MS:=bC (cn 1 (ai AL (aa (ab 0) (aa (au BQ (ah (.int 0)) (ab 0)) (ak)))))
    (bX (vV (aa (ab 1) (aa (ai BR (aa (au JK (ab 1) (ah (.int (10 ^ 18)))) (ak))) (ak)))))
def fB:Fn:=bI 1 2 qE
def jQ:MS:=bC (jy (aN (au oEq (au dY (ab 0) (ah (.int 1))) (ah (.int 1)))) (bC (kG (jB (cA (ay 2) (cA (ay 3) (jA)))) (ai mB (aa (au dY (ab 0) (ah (.int 0))) (aa (ab 1) (ak)))))
    (bC (kG (vG (ab 0) (ah (.int 0))) (ab 2))
    (bX (ab 3)))) (cB))
    (bC (cn 4 (au oMod (au qd (au gA (au oMod (au dY (ab 0) (ah (.int 0))) (ah (.int 2147483647))) (ah (.int 40503))) (ah (.int 69621))) (ah (.int 2147483629))))
    (bC (cn 4 (au oMod (au gA (au qd (ab 4) (ab 4)) (ah (.int 7817))) (ah (.int 2147483587))))
    (bC (kG (vG (ab 0) (ah (.int 0))) (au oMod (au gA (au qd (ab 4) (ah (.int 48271))) (ah (.int 11))) (ah (.int 2147483629))))
    (bX (au oMod (au mr (au dY (ab 0) (ah (.int 0))) (ah (.int 32))) (ab 1))))))
def aF:Fn:=bI 2 5 jQ
def mR:MS:=bC (cn 2 (vV (aa (ah (.str "a")) (aa (ah (.str "aa")) (aa (ah (.str "ab")) (aa (ah (.str "abcdef")) (aa (ah (.str "b")) (aa (ah (.str "c")) (aa (ah (.str "d")) (aa (ah (.str "e")) (aa (ah (.str "m")) (aa (ah (.str "x")) (aa (ah (.str "zz")) (aa (ah (.str "zzzzzz")) (ak)))))))))))))))
    (bX (ai gC (aa (ai f7 (aa (cL 1 (oq (aa (ai aF (aa (ab 0) (aa (au gA (ab 1) (ah (.int 1))) (ak)))) (ak))) (ay 0) (dG) (rW nH (ab 3) (ai aF (aa (ab 1) (aa (ai jJ (aa (ab 3) (ak))) (ak)))))) (ak))) (ak))))
def jc:Fn:=bI 2 3 mR
def gg:Fn:=iC jc
def yp:MS:=bC (kG (jB (cA (ay 2) (cA (ay 3) (cA (ay 4) (jA))))) (cC (aa (ai gg (aa (ab 0) (aa (ab 1) (ak)))) (aa (au dY (ah (.list [.int 1,.int 2,.int 3,.int 5])) (ai aF (aa (ab 0) (aa (ah (.int 4)) (ak))))) (aa (ah (.list [])) (ak))))))
    (bC (jH (aR (ab 2)) (ay 5) (cn 4 (au gA (ab 4) (cL 1 (aR (ab 2)) (ay 0) (aN (au oLt (ai aF (aa (ab 1) (aa (ah (.int 8)) (ak)))) (ab 4))) (cC (aa (ab 6) (aa (ab 0) (ak))))))))
    (bX (cC (aa (ab 2) (aa (ai gC (aa (ab 4) (ak))) (ak))))))
def gG:Fn:=bI 2 6 yp
def rZ:MS:=bX (au oEq (cL 1 (aR (ab 0)) (ay 0) (aN (au iD (ab 0) (ab 2))) (ab 0)) (ah (.list [])))
def eK:Fn:=bI 2 2 rZ
def kI:MS:=bX (ah (.list [.str "stable",.str "standing",.str "preferred",.str "whole",.str "grounded"]))
def b0:Fn:=bI 0 0 kI
def iH:MS:=bC (cn 2 (vV (aa (ah (.tuple [.tuple [],.tuple []])) (aa (ah (.tuple [.tuple [.str "a"],.tuple [.tuple [.str "a",.str "a"]]])) (aa (ah (.tuple [.tuple [.str "a",.str "b"],.tuple [.tuple [.str "a",.str "b"],.tuple [.str "b",.str "a"]]])) (ak))))))
    (bC (jF (rW kc (ab 2) (ah (.tuple [.tuple [.str "a",.str "b",.str "c"],.tuple [.tuple [.str "a",.str "b"],.tuple [.str "b",.str "c"],.tuple [.str "c",.str "a"]]]))))
    (bC (jF (rW kc (ab 2) (ah (.tuple [.tuple [.str "a",.str "b",.str "c",.str "d"],.tuple [.tuple [.str "a",.str "b"],.tuple [.str "b",.str "c"],.tuple [.str "c",.str "d"],.tuple [.str "d",.str "a"]]]))))
    (bX (vU (aa (ai gG (aa (ab 0) (aa (ab 1) (ak)))) (aa (ai gG (aa (ab 0) (aa (ab 1) (ak)))) (aa (au dY (ab 2) (ai aF (aa (ab 0) (aa (ah (.int 5)) (ak))))) (ak))))))))
def fD:Fn:=bI 2 3 iH
def cP:Fn:=iC fD
def si:MS:=bC (cn 2 (au gA (cL 1 (aR (ab 0)) (ay 0) (aN (au iD (ab 0) (ab 2))) (ab 0)) (cL 1 (aR (ab 1)) (ay 0) (aN (au iD (ab 0) (ab 1))) (ab 0))))
    (bX (ai gC (aa (ai f7 (aa (ab 2) (ak))) (ak))))
def dh:Fn:=bI 2 3 si
def sj:MS:=bC (cn 2 (cL 1 (aR (au dY (ab 1) (ah (.int 0)))) (ay 0) (aN (au oEq (ai aF (aa (ab 1) (aa (ah (.int 2)) (ak)))) (ah (.int 0)))) (cC (aa (ab 0) (aa (ab 0) (ak))))))
    (bX (cC (aa (au dY (ab 1) (ah (.int 0))) (aa (ai gC (aa (ai gF (aa (au gA (ai zi (aa (au dY (ab 1) (ah (.int 1))) (ak))) (ab 2)) (ak))) (ak))) (ak)))))
def dk:Fn:=bI 2 3 sj
def mS:MS:=bC (cn 4 (ai jb (aa (ab 0) (aa (ab 3) (ak)))))
    (bC (jH (aR (au dY (ab 2) (ah (.int 1)))) (ay 5) (jy (aN (au iD (ab 5) (au dY (ab 1) (ah (.int 1))))) (bC (jy (aN (au oEq (au oMod (ab 4) (ah (.int 2))) (ah (.int 1)))) (bX (ah (.bool false))) (cB))
    (cn 4 (au mr (ab 4) (ah (.int 2))))) (cB)))
    (bX (au oEq (ab 4) (ah (.int 1)))))
def cJ:Fn:=bI 4 6 mS
def uS:MS:=bC (kG (jB (cA (ay 3) (cA (ay 4) (jA)))) (cC (aa (ai bZ (aa (ab 1) (aa (ab 2) (ak)))) (aa (ai dS (aa (ab 1) (aa (ab 2) (ak)))) (ak)))))
    (bC (jy (lY (fT (bP (ai eK (aa (au dY (ab 3) (ah (.int 1))) (aa (au dY (ab 1) (ah (.int 1))) (ak)))))) (fT (bP (ai eK (aa (au dY (ab 1) (ah (.int 1))) (aa (au dY (ab 4) (ah (.int 1))) (ak))))))) (bX (ah (.bool false))) (cB))
    (bC (cn 5 (cL 1 (aR (au dY (ab 4) (ah (.int 1)))) (ay 0) (lY (aN (au nu (ab 0) (au dY (ab 4) (ah (.int 1))))) (aN (au oEq (ai aF (aa (ab 1) (aa (ah (.int 2)) (ak)))) (ah (.int 0))))) (ab 0)))
    (bC (jH (aR (vU (aa (ab 3) (aa (ab 4) (aa (ab 1) (aa (cC (aa (au dY (ab 1) (ah (.int 0))) (aa (ai gC (aa (ab 5) (ak))) (ak)))) (ak))))))) (ay 6) (bC (jy (lY (aN (au x6 (ai bZ (aa (ab 6) (aa (ab 2) (ak)))) (ab 3))) (lY (aN (au x6 (ai dS (aa (ab 6) (aa (ab 2) (ak)))) (ab 4))) (fT (bP (ai cJ (aa (ab 6) (aa (ab 3) (aa (ab 4) (aa (ab 2) (ak)))))))))) (bX (ah (.bool false))) (cB))
    (jy (fT (bP (ai dI (aa (ab 6) (aa (ab 1) (aa (ab 2) (ak))))))) (bX (ah (.bool false))) (cB))))
    (bC (jH (aR (au dY (ab 1) (ah (.int 0)))) (ay 7) (jH (aR (au dY (ab 1) (ah (.int 0)))) (ay 8) (bC (cn 9 (cC (aa (ab 7) (aa (ab 8) (ak)))))
    (jy (lY (aN (au nu (ab 9) (au dY (ab 3) (ah (.int 1))))) (aN (au iD (ab 9) (au dY (ab 4) (ah (.int 1)))))) (bC (cn 10 (cC (aa (au dY (ab 1) (ah (.int 0))) (aa (ai dh (aa (au dY (ab 1) (ah (.int 1))) (aa (cC (aa (ab 9) (ak))) (ak)))) (ak)))))
    (jy (lY (bP (ai dI (aa (ab 10) (aa (ab 1) (aa (ab 2) (ak)))))) (aN (au oEq (ai bZ (aa (ab 10) (aa (ab 2) (ak)))) (ab 3)))) (bX (ah (.bool false))) (cB))) (cB)))))
    (bX (ah (.bool true)))))))
def cV:Fn:=bI 3 11 uS
end Ml
namespace Ml
open PySem PySem.Spec L2
def L3 (x:D) (lo hi:Option Int) (h:Hm):R D:=match x with
 | .scr ns=>.ok (.dat (.list (cut (ns.map PyData.int) lo hi))) h
 | _=>.bad
def CJ (e:ME) (lo hi:DL):ME:=fun ρ h=>(e ρ h).bind fun x h1=>(lo ρ h1).bind fun l h2=>(hi ρ h2).bind fun u h3=>L3 x l u h3
section
variable {X:Cx} {E:XK} {m:ME} {e:Expr} {pos:Pos}
def JX (G:Gx) (E:XK):V->Option Int->Option Int->Hp->VK->Prop:=fun x lo hi H Q=>∃ θ h d,W G θ h H/\bN G θ H d x/\aG G (nL G E) θ H (L3 d lo hi h) (KV G Q)
theorem tF {M:Hp}:∀ (ns:List Int),bf M (ns.map PyData.int) (ns.map V.int)
 | []=>rfl
 | n::ns=>⟨_,_,rfl,rfl,tF ns⟩
theorem Ij:IU X (JX X.G E):=by
 intro pins s σ H x v vl vu lo hi sl Q I rx hs pl pu ⟨θ,h,d,w,r,p⟩
 unfold L3 at p
 split at p
 ·rename_i ns
  obtain ⟨a,rfl,sq⟩:=r
  refine y6 pins s σ H _ v vl vu lo hi sl Q I rx hs pl pu ⟨a,ns.map V.int,rfl,(aA θ H).seq sq,fun q hq=>?_⟩
  obtain ⟨e1,w1,g⟩:=w.put (o:=.lst (pQ (ns.map V.int) lo hi)) hq
  refine p _ _ e1 w1 _ ⟨⟨q,_,rfl,g,(zx (tF ns) lo hi).same e1.same⟩,?_⟩
  simp only [cD]
  exact qr (bD.mpr fun d m=>by obtain ⟨n,_,rfl⟩:=Oe.mp m;rfl) lo hi
 ·exact p.elim
theorem AX {lo hi:Option Expr} {ml mh:DL} {p2:Pos} (he:DE X E m e) (hl:DO X E ml lo) (hu:DO X E mh hi):DE X E (CJ m ml mh) (.Subscript e (.Slice lo hi none p2) pos):=by
 simp only [bw,zw] at *
 exact PE.imp (vK Ij he hl hu) fun σ H Q ⟨θ,h,ρ,w,fr,p⟩=>⟨θ,h,ρ,w,fr,(aG.bind p).mono fun d θ1 h1 H1 _ _ ⟨ev,w1,p1⟩ v r=>
   ⟨θ1,h1,ρ,w1,fr.ev ev,(aG.bind p1).mono fun l θ2 h2 H2 _ _ ⟨ev2,w2,p2⟩=>⟨θ2,h2,ρ,w2,(fr.ev ev).ev ev2,(aG.bind p2).mono fun u θ3 h3 H3 _ _ ⟨ev3,w3,p3⟩=>⟨θ3,h3,d,w3,(r.ev ev2).ev ev3,p3⟩⟩⟩⟩
end
end Ml
namespace Ml
open PySem
def JY:MS:=bC (jH (aR (au gA (vU (aa (ai dJ (aa (ab 0) (aa (ah (.int 0)) (ak)))) (ak))) (CJ (ab 0) (kS (ah (.int 1))) (kS (ah (.int 2)))))) (ay 1) (bC (cn 2 (ai fB (aa (ab 1) (ak))))
    (jH (aR (ai cP (aa (ab 2) (aa (ah (.int 6)) (ak))))) (ay 3) (bC (cn 4 (ai dk (aa (ab 2) (aa (ab 3) (ak)))))
    (jH (aR (ai b0 ak)) (ay 5) (jy (fT (bP (ai cV (aa (ab 2) (aa (ab 4) (aa (ab 5) (ak))))))) (bX (ah (.bool false))) (cB)))))))
    (bX (ah (.bool true)))
def zJ:Fn:=bI 1 6 JY
end Ml
namespace Stt
open PySem
abbrev mT (xs:Array Nat):Prop:=xs.toList.Pairwise (· < ·)
theorem pf {xs:Array Nat} (r:mT xs) {i k:Nat} (hi:i < k) (hk:k < xs.size):xs[i]'(by omega) < xs[k]:=by
 have:=PV.mp r i k (by simpa using (by omega:i < xs.size)) (by simpa using hk) hi
 simpa using this
theorem qF {xs:Array Nat} (r:mT xs) (j:Nat):∀ (fuel lo hi:Nat),lo<=hi->hi<=xs.size->hi - lo<=fuel->(∀ i (h:i < xs.size),i < lo->xs[i] < j)->(∀ i (h:i < xs.size),hi<=i->j<=xs[i]) ->
  (∀ i (h:i < xs.size),i < SetTable.below.go xs j fuel lo hi->xs[i] < j)/\(∀ i (h:i < xs.size),SetTable.below.go xs j fuel lo hi<=i->j<=xs[i])/\SetTable.below.go xs j fuel lo hi<=xs.size
 | 0,lo,hi,h1,h2,h3,a,b=>by
  have:lo=hi:=by omega
  subst this
  simp only [SetTable.below.go]
  exact ⟨a,b,h2⟩
 | fuel+1,lo,hi,h1,h2,h3,a,b=>by
  simp only [SetTable.below.go]
  split
  ·rename_i hlt
   have hm:(lo+hi) / 2 < xs.size:=by omega
   simp only [Array.getD,hm,dif_pos]
   split
   ·rename_i hx
    refine qF r j fuel _ hi (by omega) h2 (by omega) (fun i h hi'=>?_) b
    by_cases e:i=(lo+hi) / 2
    ·subst e;exact hx
    ·have:=pf r (i:=i) (k:=(lo+hi) / 2) (by omega) hm
     have hx':xs[(lo+hi) / 2] < j:=hx
     omega
   ·rename_i hx
    refine qF r j fuel lo _ (by omega) (by omega) (by omega) a fun i h hi'=>?_
    have hx':¬ xs[(lo+hi) / 2] < j:=hx
    by_cases e:i=(lo+hi) / 2
    ·subst e;omega
    ·have:=pf r (i:=(lo+hi) / 2) (k:=i) (by omega) h
     omega
  ·have:lo=hi:=by omega
   subst this
   exact ⟨a,b,h2⟩
theorem gH {xs:Array Nat} (r:mT xs) (j:Nat):(∀ i (h:i < xs.size),i < SetTable.below xs j->xs[i] < j)/\(∀ i (h:i < xs.size),SetTable.below xs j<=i->j<=xs[i])/\SetTable.below xs j<=xs.size:=
 qF r j xs.size 0 xs.size (by omega) (by omega) (by omega) (fun _ _ h=>by omega) fun _ _ h=>by omega
theorem below_at {xs:Array Nat} (r:mT xs) {i j:Nat} (h:xs[i]?=some j):SetTable.below xs j=i:=by
 obtain ⟨hi,e⟩:=OE.mp h
 obtain ⟨a,b,c⟩:=gH r j
 by_cases h1:i < SetTable.below xs j
 ·have:=a i hi h1;omega
 ·by_cases h2:SetTable.below xs j=i
  ·exact h2
  ·have hb:SetTable.below xs j < xs.size:=by omega
   have:=b _ hb (NI _)
   have:=pf r (i:=SetTable.below xs j) (k:=i) (by omega) hi
   omega
theorem gI {xs:Array Nat} (r:mT xs) {j:Nat}:j∈xs.toList<->xs[SetTable.below xs j]?=some j:=by
 constructor
 ·intro h
  obtain ⟨i,hi,e⟩:=Qg h
  have:xs[i]?=some j:=by rw [<- Og,NR hi,e]
  rw [below_at r this];exact this
 ·intro h
  rw [<- Og] at h
  exact Od h
theorem jd {xs:Array Nat} (r:mT xs) {j:Nat}:SetTable.has xs j=true<->j∈xs.toList:=by
 unfold SetTable.has
 rw [gI r,Q3]
theorem ki {t:SetTable} (r:mT t.place) {j i:Nat}:t.slot j=.live i<->t.place[i]?=some j:=by
 unfold SetTable.slot
 constructor
 ·intro h
  dsimp only at h
  split at h
  ·rename_i e
   have:=eq_of_beq e
   cases h
   exact this
  ·split at h<;>cases h
 ·intro h
  have e:=below_at r h
  dsimp only
  rw [e,h]
  simp
theorem je {t:SetTable} (r:mT t.place) (rd:mT t.dummies) {j:Nat}:t.slot j=.empty<->j∉t.place.toList/\j∉t.dummies.toList:=by
 rw [gI r,<- jd rd]
 unfold SetTable.slot
 dsimp only
 by_cases h:t.place[SetTable.below t.place j]?=some j
 ·simp [h]
 ·have:(t.place[SetTable.below t.place j]? == some j)=false:=by rw [Pq];exact h
  rw [this]
  simp only [NP,Ou]
  by_cases h2:SetTable.has t.dummies j=true
  ·simp [h2]
  ·simp [h2,h]
theorem yq {t:SetTable} (r:mT t.place) (rd:mT t.dummies) {j:Nat}:t.slot j=.dummy->j∈t.dummies.toList:=by
 rw [<- jd rd]
 unfold SetTable.slot
 dsimp only
 split
 ·intro h;cases h
 ·split
  ·intro _;assumption
  ·intro h;cases h
theorem qG {xs:Array Nat} (r:mT xs) {j:Nat} (h:j∉xs.toList):mT (SetTable.insertAt xs (SetTable.below xs j) j):=by
 obtain ⟨a,b,c⟩:=gH r j
 unfold mT
 rw [QO]
 have r':xs.toList.Pairwise (· < ·):=r
 rw [<- PQ (SetTable.below xs j) xs.toList,Po] at r'
 obtain ⟨r1,r2,r3⟩:=r'
 rw [Po]
 refine ⟨r1,Oy.mpr ⟨fun x hx=>?_,r2⟩,fun x hx y hy=>?_⟩
 ·obtain ⟨i,hi,e⟩:=Qg hx
  simp at hi e
  have:=b (SetTable.below xs j+i) (by omega) (by omega)
  have hne:xs[SetTable.below xs j+i]'(by omega)≠j:=fun z=>h (by rw [<- z];simp)
  omega
 ·have hxj:x < j:=by
   obtain ⟨i,hi,e⟩:=Qg hx
   simp at hi e
   have:=a i (by omega) (by omega)
   omega
  rcases NJ.mp hy with rfl | hy
  ·exact hxj
  ·exact r3 x hx y hy
theorem tG {xs:Array Nat} (r:mT xs) (p:Nat):mT (SetTable.eraseAt xs p):=by
 unfold mT SetTable.eraseAt
 simp only [Array.toList_append,Array.toList_extract,List.extract_eq_take_drop,List.drop_zero,Nat.sub_zero]
 have r':xs.toList.Pairwise (· < ·):=r
 rw [<- PQ p xs.toList,Po] at r'
 rw [Po]
 refine ⟨r'.1,?_,fun x hx y hy=>?_⟩
 ·refine List.Pairwise.sublist ?_ r
  exact (RJ _ _).trans (List.drop_sublist _ _)
 ·refine r'.2.2 x hx y ?_
  have:=QD hy
  rw [<- List.drop_drop] at this
  exact List.mem_of_mem_drop this
structure Pc where
 j:Nat
 more:Nat
 i:Nat
 pt:Nat
def pc (p:SetTable.Probe):Pc:=⟨p.j,p.more,p.i,p.perturb⟩
def dB (mask i pt:Nat):Pc:=⟨i,SetTable.runEnd mask i - i,i,pt⟩
def wF (mask:Nat) (c:Pc):Pc:=dB mask (SetTable.leap mask c.i c.pt).1 (SetTable.leap mask c.i c.pt).2
def step (mask:Nat) (c:Pc):Pc:=if c.more > 0 then ⟨c.j+1,c.more - 1,c.i,c.pt⟩ else wF mask c
theorem yr (t:SetTable) (p:SetTable.Probe):pc (t.advance p)=step t.mask (pc p):=by
 unfold SetTable.advance step pc
 dsimp only
 split<;>rfl
theorem ie (t:SetTable) (p:SetTable.Probe):(t.advance p).dummy=p.dummy:=by
 unfold SetTable.advance
 dsimp only
 split<;>rfl
def steps (mask:Nat):Nat->Pc->Pc
 | 0,c=>c
 | n+1,c=>steps mask n (step mask c)
theorem kj (mask:Nat):∀ (m n:Nat) (c:Pc),steps mask (m+n) c=steps mask n (steps mask m c)
 | 0,n,c=>by simp [steps]
 | m+1,n,c=>by rw [show m+1+n=(m+n)+1 by omega];simp only [steps];exact kj mask m n _
theorem uT (mask:Nat):∀ (k:Nat) (c:Pc),c.more=k->steps mask (k+1) c=wF mask c
 | 0,c,h=>by simp [steps,step,h]
 | k+1,c,h=>by
  have e:step mask c=⟨c.j+1,c.more - 1,c.i,c.pt⟩:=by unfold step;rw [if_pos (by omega)]
  simp only [steps]
  have:=uT mask k (step mask c) (by rw [e];simp [h])
  simp only [steps] at this
  rw [this,e]
  rfl
theorem tH (mask i:Nat):SetTable.runEnd mask i - i<=9:=by unfold SetTable.runEnd;split<;>omega
def eT (mask:Nat):Nat->Pc->Pc
 | 0,c=>c
 | n+1,c=>eT mask n (wF mask c)
theorem oJ (mask:Nat):∀ (n:Nat) (c:Pc),c.more<=9->∃ m,m<=10 * n/\steps mask m c=eT mask n c
 | 0,c,_=>⟨0,by omega,rfl⟩
 | n+1,c,h=>by
  obtain ⟨m,hm,e⟩:=oJ mask n (wF mask c) (tH _ _)
  refine ⟨c.more+1+m,by omega,?_⟩
  rw [kj,uT mask c.more c rfl,e]
  rfl
theorem kl (mask:Nat):∀ (m n:Nat) (c:Pc),eT mask (m+n) c=eT mask n (eT mask m c)
 | 0,n,c=>by simp [eT]
 | m+1,n,c=>by rw [show m+1+n=(m+n)+1 by omega];simp only [eT];exact kl mask m n _
theorem wG (mask:Nat):∀ (n:Nat) (c:Pc),(eT mask n c).pt=c.pt / 32 ^ n
 | 0,c=>by simp [eT]
 | n+1,c=>by
  simp only [eT]
  rw [wG mask n]
  show c.pt / 32 / 32 ^ n=_
  rw [Nat.div_div_eq_div_mul,RT,Nat.mul_comm]
def zK (m:Nat):Nat->Nat->Nat
 | 0,i=>i
 | n+1,i=>zK m n ((i * 5+1) % m)
theorem ph (m:Nat):∀ (a b i:Nat),zK m (a+b) i=zK m b (zK m a i)
 | 0,b,i=>by simp [zK]
 | a+1,b,i=>by rw [show a+1+b=(a+b)+1 by omega];simp only [zK];exact ph m a b _
def cover (m:Nat):Nat->Nat->Nat->Nat
 | 0,_,acc=>acc
 | n+1,i,acc=>cover m n ((i * 5+1) % m) (acc ||| 1 <<< i)
theorem tI (m:Nat):∀ (n i acc e:Nat),(cover m n i acc).testBit e=true->acc.testBit e=true\/∃ a,a < n/\zK m a i=e
 | 0,i,acc,e,h=>.inl h
 | n+1,i,acc,e,h=>by
  rcases tI m n _ _ e h with h | ⟨a,ha,h⟩
  ·rw [Nat.testBit_or,P4] at h
   rcases h with h | h
   ·exact .inl h
   ·refine .inr ⟨0,by omega,?_⟩
    rw [Nat.shiftLeft_eq,Nat.one_mul,Nat.testBit_two_pow] at h
    simpa [zK] using h
  ·exact .inr ⟨a+1,by omega,h⟩
def sizeOk (m:Nat):Bool:=cover m m 0 0 == 2 ^ m - 1 && zK m m 0 == 0 && decide (8<=m/\m<=1024) && decide (m % 2=0)
theorem CK {m:Nat} (h:sizeOk m=true) {i e:Nat} (hi:i < m) (he:e < m):∃ n,n < m/\zK m n i=e:=by
 unfold sizeOk at h
 simp only [NG,Q3,N7] at h
 obtain ⟨⟨⟨h1,h2⟩,h3⟩,_⟩:=h
 have key:∀ x,x < m->∃ a,a < m/\zK m a 0=x:=fun x hx=>by
  rcases tI m m 0 0 x (by rw [h1];simp [Nat.testBit_two_pow_sub_one,hx]) with z | z
  ·simp at z
  ·exact z
 obtain ⟨a,ha,ea⟩:=key i hi
 obtain ⟨b,hb,eb⟩:=key e he
 by_cases hab:a<=b
 ·exact ⟨b - a,by omega,by rw [<- ea,<- ph,show a+(b - a)=b by omega,eb]⟩
 ·exact ⟨(m - a)+b,by omega,by rw [<- ea,<- ph,show a+((m - a)+b)=m+b by omega,ph,h2,eb]⟩
theorem Gh:sizeOk 8=true/\sizeOk 16=true/\sizeOk 32=true/\sizeOk 64=true/\sizeOk 128=true/\sizeOk 256=true/\sizeOk 512=true/\sizeOk 1024=true:=by decide +kernel
theorem tJ {mask:Nat}:∀ (n:Nat) (c:Pc),c.pt=0->(eT mask n c).i=zK (mask+1) n c.i
 | 0,c,_=>rfl
 | n+1,c,h=>by
  simp only [eT,zK]
  rw [tJ n (wF mask c) (by show c.pt / 32=0;rw [h])]
  show zK _ n ((c.i * 5+1+c.pt / 32) % (mask+1))=_
  rw [h]
theorem E6 (mask n:Nat) (c:Pc):(eT mask (n+1) c).j=(eT mask (n+1) c).i:=by
 rw [kl]
 rfl
theorem tK {mask:Nat} (h:sizeOk (mask+1)=true) {c:Pc} (hp:c.pt < 2 ^ 64) {e:Nat} (he:e<=mask):∃ n,n<=mask+12/\(eT mask (n+1) c).j=e:=by
 have h0:(eT mask 13 c).pt=0:=by
  rw [wG]
  exact Nat.div_eq_of_lt (Nat.lt_trans hp (by decide))
 have hi:(eT mask 13 c).i < mask+1:=by
  show (eT mask (12+1) c).i < mask+1
  rw [kl]
  exact Rz _ (by omega)
 obtain ⟨n,hn,en⟩:=CK h hi (Nat.lt_succ_of_le he)
 refine ⟨12+n,by omega,?_⟩
 rw [show 12+n+1=(12+n)+1 from rfl,E6,show 12+n+1=13+n by omega,kl,tJ n _ h0,en]
theorem zL (h:Int):SetTable.bits h < 2 ^ 64:=by
 unfold SetTable.bits
 have h1:=Qq h (b:=(2 ^ 64:Int)) (by decide)
 have h2:=QW h (b:=(2 ^ 64:Int)) (by decide)
 omega
def c0 (mask:Nat) (h:Int):Pc:=dB mask (SetTable.bits h % (mask+1)) (SetTable.bits h)
def sq (mask:Nat) (h:Int) (n:Nat):Nat:=(steps mask n (c0 mask h)).j
theorem AY {mask:Nat} (hs:sizeOk (mask+1)=true) (h:Int) {e:Nat} (he:e<=mask):∃ n,n<=10 * (mask+13)/\sq mask h n=e:=by
 obtain ⟨n,hn,en⟩:=tK hs (c:=c0 mask h) (zL h) he
 obtain ⟨m,hm,em⟩:=oJ mask (n+1) (c0 mask h) (tH _ _)
 exact ⟨m,by omega,by unfold sq;rw [em,en]⟩
theorem least {P:Nat->Prop}:∀ (N:Nat),P N->∃ n,n<=N/\P n/\∀ m,m < n->¬ P m:=by
 intro N
 induction N using Nat.strongRecOn with
 | _ N ih=>
  intro h
  by_cases z:∃ m,m < N/\P m
  ·obtain ⟨m,hm,pm⟩:=z
   obtain ⟨n,h1,h2,h3⟩:=ih m hm pm
   exact ⟨n,by omega,h2,h3⟩
  ·exact ⟨N,NI _,h,fun m hm pm=>z ⟨m,hm,pm⟩⟩
theorem yt:∀ (n:Nat) (l:List Nat),(∀ e,e < n->e∈l)->n<=l.length
 | 0,_,_=>O0 _
 | n+1,l,h=>by
  have hm:=h n (by omega)
  have:=yt n (l.erase n) fun e he=>(List.mem_erase_of_ne (by omega)).mpr (h e (by omega))
  rw [List.length_erase_of_mem hm] at this
  have:=List.length_pos_of_mem hm
  omega
theorem yu (mask n:Nat) (c:Pc):steps mask (n+1) c=step mask (steps mask n c):=by
 rw [kj]
 rfl
structure Tab (es:Array (Int×Value)) (t:SetTable):Prop where
 rp:mT t.place
 rd:mT t.dummies
 sz:t.place.size=es.size
 tf:t.fill * 5 < t.mask * 3
 bp:∀ j∈t.place.toList,j<=t.mask
 bd:∀ j∈t.dummies.toList,j<=t.mask
 dj:∀ j∈t.dummies.toList,j∉t.place.toList
 sm:sizeOk (t.mask+1)=true
 rc:∀ (i:Nat) (e:Int×Value) (j:Nat),es[i]?=some e->t.place[i]?=some j->∃ n,sq t.mask e.1 n=j/\∀ m,m < n->t.slot (sq t.mask e.1 m)≠.empty
theorem Tab.fits {es:Array (Int×Value)} {t:SetTable} (T:Tab es t):t.fits es.size=true:=by
 have:=T.tf
 simp only [SetTable.fits,NG,Q3,N7]
 exact ⟨T.sz,by omega⟩
theorem Tab.odd {es:Array (Int×Value)} {t:SetTable} (T:Tab es t):t.gaveWay=false:=by
 have h:=T.sm
 unfold SetTable.gaveWay
 rw [Pq]
 intro z
 unfold sizeOk at h
 simp only [NG,Q3,N7] at h
 obtain ⟨⟨⟨h1,h2⟩,h3⟩,h4⟩:=h
 omega
theorem Tab.le {es:Array (Int×Value)} {t:SetTable} (T:Tab es t):t.mask<=1023:=by
 have h:=T.sm
 unfold sizeOk at h
 simp only [NG,Q3,N7] at h
 omega
theorem Tab.free {es:Array (Int×Value)} {t:SetTable} (T:Tab es t) (h:Int):∃ N,N<=10 * (t.mask+13)/\t.slot (sq t.mask h N)=.empty/\∀ m,m < N->t.slot (sq t.mask h m)≠.empty:=by
 have:∃ e,e<=t.mask/\t.slot e=.empty:=by
  apply Oz
  intro z
  have:=yt (t.mask+1) (t.place.toList++t.dummies.toList) fun e he=>by
   apply Oz
   intro hn
   rw [NX,not_or] at hn
   exact z ⟨e,by omega,(je T.rp T.rd).mpr hn⟩
  have tf:=T.tf
  unfold SetTable.fill at tf
  simp only [N4,OF] at this
  omega
 obtain ⟨e,he,hs⟩:=this
 obtain ⟨n,hn,en⟩:=AY T.sm h he
 obtain ⟨N,h1,h2,h3⟩:=least (P:=fun n=>t.slot (sq t.mask h n)=.empty) n (by rw [en];exact hs)
 exact ⟨N,by omega,h2,h3⟩
def Dm (t:SetTable) (h:Int) (n:Nat) (d:Option Nat):Prop:=d=none\/∃ m,m < n/\d=some (sq t.mask h m)/\t.slot (sq t.mask h m)=.dummy
theorem Dm.mono {t:SetTable} {h:Int} {n n':Nat} {d:Option Nat} (x:Dm t h n d) (hn:n<=n'):Dm t h n' d:=by
 rcases x with x | ⟨m,a,b,c⟩
 ·exact .inl x
 ·exact .inr ⟨m,by omega,b,c⟩
theorem pj {t:SetTable} {hashAt:Nat->Int} {h:Int} {N:Nat} (hN:t.slot (sq t.mask h N)=.empty) (hne:∀ m,m < N->t.slot (sq t.mask h m)≠.empty) :
  ∀ (fuel n:Nat) (p:SetTable.Probe),n<=N->N - n < fuel->pc p=steps t.mask n (c0 t.mask h)->Dm t h n p.dummy ->
   (∃ d,SetTable.probe.go t hashAt h fuel p=some (.empty (sq t.mask h N) d)/\Dm t h N d/\∀ m,n<=m->m < N->∀ i,t.slot (sq t.mask h m)=.live i->hashAt i≠h) \/
   (∃ k i q,SetTable.probe.go t hashAt h fuel p=some (.candidate (sq t.mask h k) i q)/\n<=k/\k < N/\t.slot (sq t.mask h k)=.live i/\hashAt i=h/\pc q=steps t.mask (k+1) (c0 t.mask h)/\Dm t h (k+1) q.dummy /\
    ∀ m,n<=m->m < k->∀ i,t.slot (sq t.mask h m)=.live i->hashAt i≠h)
 | 0,n,p,h1,h2,h3,h4=>by omega
 | fuel+1,n,p,h1,h2,h3,h4=>by
  have ej:p.j=sq t.mask h n:=by
   have:=PH Pc.j h3
   exact this
  have nx:∀ (p':SetTable.Probe),pc p'=pc p->n < N->pc (t.advance p')=steps t.mask (n+1) (c0 t.mask h):=fun p' e _=>by
   rw [yr,e,h3,yu]
  simp only [SetTable.probe.go]
  rw [ej]
  by_cases e:n=N
  ·subst e
   rw [hN]
   exact .inl ⟨p.dummy,rfl,h4,fun m a b=>by omega⟩
  ·have hlt:n < N:=by omega
   cases hs:t.slot (sq t.mask h n) with
   | empty=>exact absurd hs (hne n hlt)
   | dummy=>
    dsimp only
    rcases pj hN hne fuel (n+1) (t.advance {p with j:=sq t.mask h n,dummy:=some (sq t.mask h n)}) hlt (by omega) (nx _ (by unfold pc;rw [ej]) hlt) (by rw [ie];exact .inr ⟨n,by omega,rfl,hs⟩) with ⟨d,a,b,c⟩ | ⟨k,i,q,a,b,c,d,e',f,g,r⟩
    ·refine .inl ⟨d,a,b,fun m h5 h6 i h7=>?_⟩
     by_cases z:m=n
     ·subst z;rw [hs] at h7;cases h7
     ·exact c m (by omega) h6 i h7
    ·refine .inr ⟨k,i,q,a,by omega,c,d,e',f,g,fun m h5 h6 i h7=>?_⟩
     by_cases z:m=n
     ·subst z;rw [hs] at h7;cases h7
     ·exact r m (by omega) h6 i h7
   | live i=>
    dsimp only
    by_cases hh:hashAt i=h
    ·rw [if_pos (by simpa using hh)]
     refine .inr ⟨n,i,t.advance p,rfl,by omega,hlt,hs,hh,nx p rfl hlt,?_,fun m a b=>by omega⟩
     rw [ie]
     exact h4.mono (by omega)
    ·rw [if_neg (by simpa using hh)]
     rcases pj hN hne fuel (n+1) (t.advance p) hlt (by omega) (nx _ rfl hlt) (by rw [ie];exact h4.mono (by omega)) with ⟨d,a,b,c⟩ | ⟨k,i',q,a,b,c,d,e',f,g,r⟩
     ·refine .inl ⟨d,a,b,fun m h5 h6 i' h7=>?_⟩
      by_cases z:m=n
      ·subst z;rw [hs] at h7;cases h7;exact hh
      ·exact c m (by omega) h6 i' h7
     ·refine .inr ⟨k,i',q,a,by omega,c,d,e',f,g,fun m h5 h6 i' h7=>?_⟩
      by_cases z:m=n
      ·subst z;rw [hs] at h7;cases h7;exact hh
      ·exact r m (by omega) h6 i' h7
theorem tL {xs:Array Nat} (r:mT xs) {j x:Nat} (hj:j∈xs.toList):x∈(SetTable.eraseAt xs (SetTable.below xs j)).toList<->x∈xs.toList/\x≠j:=by
 have hb:=(gI r).mp hj
 obtain ⟨hl,e⟩:=OE.mp hb
 have sp:xs.toList=xs.toList.take (SetTable.below xs j)++j::xs.toList.drop (SetTable.below xs j+1):=by
  have e1:=(PQ (SetTable.below xs j) xs.toList).symm
  rw [OH (by simpa using hl)] at e1
  rw [Array.getElem_toList,e] at e1
  exact e1
 have se:(SetTable.eraseAt xs (SetTable.below xs j)).toList=xs.toList.take (SetTable.below xs j)++xs.toList.drop (SetTable.below xs j+1):=by
  unfold SetTable.eraseAt
  simp only [Array.toList_append,Array.toList_extract,List.extract_eq_take_drop,List.drop_zero,Nat.sub_zero]
  congr 1
  rw [List.take_of_length_le]
  simp
 have nd:xs.toList.Nodup:=List.Pairwise.imp (fun h=>N0 h) r
 rw [sp] at nd
 rw [se]
 have nd2:=(Qw.mp nd)
 have nd3:=Pe.mp nd2.2.1
 constructor
 ·intro h
  refine ⟨by rw [sp];rcases NX.mp h with h | h;exact Oq _ h;exact NH _ (NO _ h),fun z=>?_⟩
  subst z
  rcases NX.mp h with h | h
  ·exact nd2.2.2 x h x (NU ..) rfl
  ·exact nd3.1 h
 ·rintro ⟨h,ne⟩
  rw [sp] at h
  rcases NX.mp h with h | h
  ·exact Oq _ h
  ·rcases NJ.mp h with h | h
   ·exact absurd h ne
   ·exact NH _ h
theorem qH {α:Type} {xs:Array α} {p:Nat} (hp:p < xs.size):(SetTable.eraseAt xs p).size=xs.size - 1:=by
 unfold SetTable.eraseAt
 simp
 omega
theorem g6 {α:Type} {xs:Array α} {p:Nat} {x:α}:(SetTable.insertAt xs p x).size=xs.size+1:=by
 have:=(SetTable.insertAt_perm xs p x).length_eq
 simpa using this
theorem qI {α:Type} {xs:Array α} {p:Nat} {x y:α}:y∈(SetTable.insertAt xs p x).toList<->y=x\/y∈xs.toList:=by
 rw [(SetTable.insertAt_perm xs p x).mem_iff]
 simp [or_comm]
theorem qJ {α:Type} {xs:Array α} {p:Nat} {x:α} (hp:p<=xs.size) (i:Nat):(SetTable.insertAt xs p x)[i]?=if i < p then xs[i]? else if i=p then some x else xs[i - 1]?:=by
 rw [<- Og,QO]
 have hl:(xs.toList.take p).length=p:=by simp;omega
 by_cases h1:i < p
 ·rw [if_pos h1,Oh (by omega),P0 h1,Og]
 ·rw [if_neg h1,Oo (by omega),hl]
  by_cases h2:i=p
  ·subst h2;simp
  ·rw [if_neg h2,show i - p=(i - p - 1)+1 by omega,Qh,List.getElem?_drop,<- Og]
   congr 1
   omega
theorem tM {es:Array (Int×Value)} {t:SetTable} (T:Tab es t) {s:Nat} (hs:∀ i,t.slot s≠.live i) (x:Nat) (h:(t.put s).1.slot x=.empty):t.slot x=.empty:=by
 have hp:s∉t.place.toList:=fun z=>by
  have:=(gI T.rp).mp z
  exact hs _ ((ki T.rp).mpr this)
 have rp':mT (t.put s).1.place:=qG T.rp hp
 have rd':mT (t.put s).1.dummies:=by
  show mT (if SetTable.has t.dummies s=true then _ else _)
  split
  ·exact tG T.rd _
  ·exact T.rd
 rw [je rp' rd'] at h
 rw [je T.rp T.rd]
 obtain ⟨h1,h2⟩:=h
 have h1':x≠s/\x∉t.place.toList:=by
  have:x∉(SetTable.insertAt t.place (SetTable.below t.place s) s).toList:=h1
  rw [qI,not_or] at this
  exact this
 refine ⟨h1'.2,fun z=>h2 ?_⟩
 show x∈(if SetTable.has t.dummies s=true then _ else _:Array Nat).toList
 split
 ·rename_i hd
  exact (tL T.rd ((jd T.rd).mp hd)).mpr ⟨z,h1'.1⟩
 ·exact z
structure sk (es:Array (Int×Value)) (t:SetTable):Prop where
 rp:mT t.place
 rd:mT t.dummies
 sz:t.place.size=es.size
 fl:t.fill<=t.mask
 bp:∀ j∈t.place.toList,j<=t.mask
 bd:∀ j∈t.dummies.toList,j<=t.mask
 dj:∀ j∈t.dummies.toList,j∉t.place.toList
 sm:sizeOk (t.mask+1)=true
 rc:∀ (i:Nat) (e:Int×Value) (j:Nat),es[i]?=some e->t.place[i]?=some j->∃ n,sq t.mask e.1 n=j/\∀ m,m < n->t.slot (sq t.mask e.1 m)≠.empty
theorem sk.fits {es:Array (Int×Value)} {t:SetTable} (T:sk es t):t.fits es.size=true:=by
 simp only [SetTable.fits,NG,Q3,N7]
 exact ⟨T.sz,T.fl⟩
theorem sk.tab {es:Array (Int×Value)} {t:SetTable} (T:sk es t) (h:t.fill * 5 < t.mask * 3):Tab es t:=⟨T.rp,T.rd,T.sz,h,T.bp,T.bd,T.dj,T.sm,T.rc⟩
theorem sk.flags {es:Array (Int×Value)} {t t':SetTable} (T:sk es t) (h1:t'.mask=t.mask) (h2:t'.place=t.place) (h3:t'.dummies=t.dummies):sk es t':=by
 obtain ⟨a,b,c,d,e,f,l⟩:=t
 obtain ⟨a',b',c',d',e',f',l'⟩:=t'
 dsimp only at h1 h2 h3
 subst h1 h2 h3
 exact ⟨T.rp,T.rd,T.sz,T.fl,T.bp,T.bd,T.dj,T.sm,T.rc⟩
theorem Tab.L4 {es:Array (Int×Value)} {t:SetTable} (T:Tab es t):sk es t:=⟨T.rp,T.rd,T.sz,by have:=T.tf;omega,T.bp,T.bd,T.dj,T.sm,T.rc⟩
theorem E7 {es:Array (Int×Value)} {t:SetTable} (T:Tab es t) {s n:Nat} {h:Int} {x:Value} (hs:∀ i,t.slot s≠.live i) (hm:s<=t.mask) (hn:sq t.mask h n=s) (hp:∀ m,m < n->t.slot (sq t.mask h m)≠.empty) :
  sk (SetTable.insertAt es (t.put s).2 (h,x)) (t.put s).1/\(t.slot s=.dummy->(t.put s).1.fill=t.fill):=by
 have nip:s∉t.place.toList:=fun z=>by
  have:=(gI T.rp).mp z
  exact hs _ ((ki T.rp).mpr this)
 have rp':mT (t.put s).1.place:=qG T.rp nip
 have rd':mT (t.put s).1.dummies:=by
  show mT (if SetTable.has t.dummies s=true then _ else _)
  split
  ·exact tG T.rd _
  ·exact T.rd
 have mp:∀ y,y∈(t.put s).1.place.toList<->y=s\/y∈t.place.toList:=fun y=>qI
 have md:∀ y,y∈(t.put s).1.dummies.toList->y∈t.dummies.toList/\y≠s:=fun y hy=>by
  have hy:y∈(if SetTable.has t.dummies s=true then SetTable.eraseAt t.dummies (SetTable.below t.dummies s) else t.dummies).toList:=hy
  split at hy
  ·rename_i hd
   exact (tL T.rd ((jd T.rd).mp hd)).mp hy
  ·rename_i hd
   exact ⟨hy,fun z=>hd ((jd T.rd).mpr (z▸hy))⟩
 have ple:SetTable.below t.place s<=t.place.size:=(gH T.rp s).2.2
 have psz:(t.put s).1.place.size=t.place.size+1:=g6
 have tf:=T.tf
 unfold SetTable.fill at tf
 have hmask:7<=t.mask:=by
  have h:=T.sm
  unfold sizeOk at h
  simp only [NG,Q3,N7] at h
  omega
 have dsz:(t.put s).1.dummies.size<=t.dummies.size:=by
  show (if SetTable.has t.dummies s=true then SetTable.eraseAt t.dummies (SetTable.below t.dummies s) else t.dummies).size<=_
  split
  ·rename_i hd
   have hb:=(gI T.rd).mp ((jd T.rd).mp hd)
   rw [qH (OE.mp hb).1]
   omega
  ·exact NI _
 refine ⟨⟨rp',rd',?_,?_,fun j hj=>?_,fun j hj=>T.bd j (md j hj).1,fun j hj hj'=>?_,T.sm,fun i e j hi hj=>?_⟩,fun hd=>?_⟩
 ·rw [psz,g6,T.sz]
 ·unfold SetTable.fill
  rw [psz]
  show t.place.size+1+(t.put s).1.dummies.size<=t.mask
  omega
 ·rcases (mp j).mp hj with rfl | hj
  ·exact hm
  ·exact T.bp j hj
 ·obtain ⟨d1,d2⟩:=md j hj
  rcases (mp j).mp hj' with z | z
  ·exact d2 z
  ·exact T.dj j d1 z
 ·have hj':(SetTable.insertAt t.place (SetTable.below t.place s) s)[i]?=some j:=hj
  have hi':(SetTable.insertAt es (SetTable.below t.place s) (h,x))[i]?=some e:=hi
  rw [qJ ple] at hj'
  rw [qJ (by rw [<- T.sz];exact ple)] at hi'
  have old:∀ i',es[i']?=some e->t.place[i']?=some j->∃ n,sq t.mask e.1 n=j/\∀ m,m < n->(t.put s).1.slot (sq t.mask e.1 m)≠.empty:=fun i' a b=>by
   obtain ⟨n',n1,n2⟩:=T.rc i' e j a b
   exact ⟨n',n1,fun m hm' z=>n2 m hm' (tM T hs _ z)⟩
  show ∃ n,sq t.mask e.1 n=j/\∀ m,m < n->(t.put s).1.slot (sq t.mask e.1 m)≠.empty
  by_cases h1:i < SetTable.below t.place s
  ·rw [if_pos h1] at hi' hj'
   exact old i hi' hj'
  ·rw [if_neg h1] at hi' hj'
   by_cases h2:i=SetTable.below t.place s
   ·rw [if_pos h2] at hi' hj'
    cases hi'
    cases hj'
    exact ⟨n,hn,fun m hm' z=>hp m hm' (tM T hs _ z)⟩
   ·rw [if_neg h2] at hi' hj'
    exact old _ hi' hj'
 ·have hd':=yq T.rp T.rd hd
  have hh:=(jd T.rd).mpr hd'
  unfold SetTable.fill
  rw [psz]
  have:(t.put s).1.dummies.size=t.dummies.size - 1:=by
   show (if SetTable.has t.dummies s=true then SetTable.eraseAt t.dummies (SetTable.below t.dummies s) else t.dummies).size=_
   rw [if_pos hh]
   exact qH (OE.mp ((gI T.rd).mp hd')).1
  rw [this]
  have:0 < t.dummies.size:=by
   have:=List.length_pos_of_mem hd'
   simpa using this
  omega
def wH (owner:Array (Option Nat)) (j:Nat):Prop:=(owner.getD j (some 0)).isNone=false
theorem nS (mask:Nat):∀ (k:Nat) (c:Pc),k<=c.more->steps mask k c=⟨c.j+k,c.more - k,c.i,c.pt⟩
 | 0,c,_=>by simp [steps]
 | k+1,c,h=>by
  have e:step mask c=⟨c.j+1,c.more - 1,c.i,c.pt⟩:=by unfold step;rw [if_pos (by omega)]
  simp only [steps]
  rw [e,nS mask k _ (by show k<=c.more - 1;omega)]
  simp only [Pc.mk.injEq,and_true]
  omega
theorem tN {mask:Nat} {owner:Array (Option Nat)}:∀ (fuel i pt:Nat),(∃ n,n < fuel/\¬ wH owner (eT mask n (dB mask i pt)).j) ->
  ∃ n,SetTable.layClean.free mask owner fuel i pt=some (steps mask n (dB mask i pt)).j/\¬ wH owner (steps mask n (dB mask i pt)).j/\∀ m,m < n->wH owner (steps mask m (dB mask i pt)).j
 | 0,i,pt,⟨n,hn,_⟩=>by omega
 | fuel+1,i,pt,⟨n,hn,hf⟩=>by
  have hre:SetTable.runEnd mask i+1 - i=(dB mask i pt).more+1:=by
   show _=SetTable.runEnd mask i - i+1
   have:i<=SetTable.runEnd mask i:=by unfold SetTable.runEnd;split<;>omega
   omega
  simp only [SetTable.layClean.free]
  rw [hre]
  cases hfi:(List.range ((dB mask i pt).more+1)).find? fun k=>(owner.getD (i+k) (some 0)).isNone with
  | some k=>
   dsimp only
   obtain ⟨h1,h2,h3⟩:=List.find?_range_eq_some.mp hfi
   have hk:k<=(dB mask i pt).more:=by have:=OD.mp h2;omega
   have es:∀ m,m<=k->(steps mask m (dB mask i pt)).j=i+m:=fun m hm=>by rw [nS mask m _ (by omega)];rfl
   refine ⟨k,by rw [es k (NI _)],?_,fun m hm=>?_⟩
   ·rw [es k (NI _)];unfold wH;rw [h1];simp
   ·rw [es m (by omega)]
    have:=h3 m hm
    simpa [wH] using this
  | none=>
   dsimp only
   have h1:=List.find?_range_eq_none.mp hfi
   have occ:∀ m,m < (dB mask i pt).more+1->wH owner (steps mask m (dB mask i pt)).j:=fun m hm=>by
    rw [nS mask m _ (by omega)]
    have:=h1 m hm
    show wH owner (i+m)
    simpa [wH] using this
   have hn0:n≠0:=fun z=>by
    subst z
    have:=occ 0 (by omega)
    exact hf this
   obtain ⟨n',rfl⟩:∃ n',n=n'+1:=⟨n - 1,by omega⟩
   have tl:=uT mask (dB mask i pt).more (dB mask i pt) rfl
   obtain ⟨q,q1,q2,q3⟩:=tN (mask:=mask) (owner:=owner) fuel (SetTable.leap mask i pt).1 (SetTable.leap mask i pt).2 ⟨n',by omega,hf⟩
   have es:∀ m,steps mask ((dB mask i pt).more+1+m) (dB mask i pt)=steps mask m (dB mask (SetTable.leap mask i pt).1 (SetTable.leap mask i pt).2):=fun m=>by
    rw [kj,tl]
    rfl
   refine ⟨(dB mask i pt).more+1+q,by rw [es];exact q1,by rw [es];exact q2,fun m hm=>?_⟩
   by_cases hmm:m < (dB mask i pt).more+1
   ·exact occ m hmm
   ·have:=q3 (m - ((dB mask i pt).more+1)) (by omega)
    rw [<- es] at this
    rw [show m=(dB mask i pt).more+1+(m - ((dB mask i pt).more+1)) by omega]
    exact this
def cx (mask:Nat) (owner:Array (Option Nat)):List (Nat×Nat):=(List.range (mask+1)).filterMap fun j=>(owner.getD j none).map (j,·)
theorem wI {α β:Type} {f g:α->Option β}:∀ {l:List α},(∀ x∈l,g x=f x)->l.filterMap g=l.filterMap f
 | [],_=>rfl
 | a::l,h=>by
  have ih:=wI (l:=l) fun x hx=>h x (NO _ hx)
  rw [Qb,Qb,h a (NU ..),ih]
theorem CL {α β:Type} {f g:α->Option β} {j:α} {v:β} (hf:f j=none) (hg:g j=some v):∀ {l:List α},l.Nodup->j∈l->(∀ x∈l,x≠j->f x=g x)->List.Perm (l.filterMap g) (v::l.filterMap f)
 | [],_,h,_=>by simp at h
 | a::l,nd,h,e=>by
  obtain ⟨n1,n2⟩:=Pe.mp nd
  by_cases z:a=j
  ·subst z
   rw [Qa hg,QP hf]
   have:l.filterMap g=l.filterMap f:=wI fun x hx=>(e x (NO _ hx) (fun q=>n1 (q▸hx))).symm
   rw [this]
  ·have hj:j∈l:=by
    rcases NJ.mp h with q | q
    ·exact absurd q.symm z
    ·exact q
   have ih:=CL hf hg n2 hj fun x hx=>e x (NO _ hx)
   have ea:=e a (NU ..) z
   cases hfa:f a with
   | none=>rw [QP (by rw [<- ea];exact hfa),QP hfa];exact ih
   | some b=>
    rw [Qa (by rw [<- ea];exact hfa),Qa hfa]
    exact (ih.cons b).trans (.swap _ _ _)
structure Own (mask:Nat) (hs:List Int) (js:List Nat) (owner:Array (Option Nat)):Prop where
 sz:owner.size=mask+1
 ln:js.length=hs.length
 lv:List.Perm (cx mask owner) (js.zip (List.range hs.length))
 rc:∀ (k:Nat) (h:Int) (j:Nat),hs[k]?=some h->js[k]?=some j->∃ n,sq mask h n=j/\∀ m,m < n->wH owner (sq mask h m)
def E8 (mask:Nat) (acc:Option (Array (Option Nat)×Nat)) (h:Int):Option (Array (Option Nat)×Nat):=do
    let (owner,k) <- acc
    let j <- SetTable.layClean.free mask owner (SetTable.turns mask) (SetTable.bits h % (mask+1)) (SetTable.bits h)
    pure (owner.setIfInBounds j (some k),k+1)
theorem CM {mask:Nat} (hm:sizeOk (mask+1)=true) {hs:List Int} {js:List Nat} {owner:Array (Option Nat)} (O:Own mask hs js owner) (hl:hs.length<=mask) (h:Int) :
  ∃ j owner',E8 mask (some (owner,hs.length)) h=some (owner',hs.length+1)/\Own mask (hs++[h]) (js++[j]) owner':=by
 have occ_iff:∀ j,wH owner j<->owner[j]?≠some none:=fun j=>by
  unfold wH
  rw [Ol]
  cases owner[j]? with
  | none=>simp
  | some o=>cases o<;>simp
 have hfree:∃ e,e<=mask/\¬ wH owner e:=by
  apply Oz
  intro z
  have hp:=yt (mask+1) ((cx mask owner).map (·.1)) fun e he=>by
   have ho:wH owner e:=Oz fun q=>z ⟨e,by omega,q⟩
   rw [occ_iff] at ho
   have hlt:e < owner.size:=by rw [O.sz];exact he
   rw [N6 hlt] at ho
   cases hv:owner[e] with
   | none=>rw [hv] at ho;exact absurd rfl ho
   | some k=>
    refine Oe.mpr ⟨(e,k),Ql.mpr ⟨e,OD.mpr he,?_⟩,rfl⟩
    simp [Array.getD,hlt,hv]
  rw [NZ,O.lv.length_eq,List.length_zip,O.ln] at hp
  simp at hp
  omega
 obtain ⟨e,he,hne⟩:=hfree
 obtain ⟨n,hn,en⟩:=tK hm (c:=c0 mask h) (zL h) he
 obtain ⟨q,q1,q2,q3⟩:=tN (mask:=mask) (owner:=owner) (SetTable.turns mask) (SetTable.bits h % (mask+1)) (SetTable.bits h) ⟨n+1,by unfold SetTable.turns;omega,by
  have:(eT mask (n+1) (dB mask (SetTable.bits h % (mask+1)) (SetTable.bits h))).j=e:=en
  rw [this];exact hne⟩
 generalize hj:(steps mask q (dB mask (SetTable.bits h % (mask+1)) (SetTable.bits h))).j=j at q1 q2
 have hjn:owner[j]?=some none:=Oz fun z=>q2 ((occ_iff j).mpr z)
 have hjl:j < owner.size:=(OE.mp hjn).1
 have get':∀ x,(owner.setIfInBounds j (some hs.length))[x]?=if x=j then some (some hs.length) else owner[x]?:=fun x=>by
  rw [Array.getElem?_setIfInBounds]
  by_cases z:j=x
  ·subst z;simp [hjl]
  ·rw [if_neg z,if_neg (fun q=>z q.symm)]
 have occ':∀ x,wH owner x->wH (owner.setIfInBounds j (some hs.length)) x:=fun x hx=>by
  unfold wH at hx ⊢
  rw [Ol] at hx ⊢
  rw [get']
  by_cases z:x=j
  ·rw [if_pos z];rfl
  ·rw [if_neg z];exact hx
 refine ⟨j,owner.setIfInBounds j (some hs.length),?_,⟨by simp [O.sz],by simp [O.ln],?_,fun k h' j' a b=>?_⟩⟩
 ·unfold E8
  simp only [Option.bind_eq_bind,Option.bind_some]
  rw [q1]
  rfl
 ·have hp:List.Perm (cx mask (owner.setIfInBounds j (some hs.length))) ((j,hs.length)::cx mask owner):=by
   refine CL (j:=j) ?_ ?_ List.nodup_range (OD.mpr (by rw [<- O.sz];exact hjl)) fun x _ hx=>?_
   ·rw [Ol,hjn];rfl
   ·rw [Ol,get',if_pos rfl];rfl
   ·rw [Ol,Ol,get',if_neg hx]
  refine hp.trans ((O.lv.cons _).trans ?_)
  rw [N4,Rf,List.range_succ,List.zip_append (by simp [O.ln])]
  exact (List.perm_append_singleton _ _).symm
 ·by_cases z:k < hs.length
  ·rw [Oh z] at a
   rw [Oh (by rw [O.ln];exact z)] at b
   obtain ⟨n',n1,n2⟩:=O.rc k h' j' a b
   exact ⟨n',n1,fun m hm'=>occ' _ (n2 m hm')⟩
  ·have hk:k=hs.length:=by
    have:=(NY.mp a).1
    simp at this
    omega
   subst hk
   rw [Oo (NI _)] at a
   rw [<- O.ln,Oo (NI _)] at b
   simp at a b
   subst a
   subst b
   exact ⟨q,hj,fun m hm'=>occ' _ (q3 m hm')⟩
theorem zM {mask:Nat} (hm:sizeOk (mask+1)=true):∀ (hs2 hs:List Int) (js:List Nat) (owner:Array (Option Nat)),Own mask hs js owner->(hs++hs2).length<=mask+1 ->
  ∃ js' owner',hs2.foldl (E8 mask) (some (owner,hs.length))=some (owner',(hs++hs2).length)/\Own mask (hs++hs2) js' owner'
 | [],hs,js,owner,O,_=>⟨js,owner,by simp,by simpa using O⟩
 | h::hs2,hs,js,owner,O,hl=>by
  obtain ⟨j,owner',e,O'⟩:=CM hm O (by simp at hl;omega) h
  obtain ⟨js',owner2,e2,O2⟩:=zM hm hs2 (hs++[h]) _ _ O' (by simpa using hl)
  refine ⟨js',owner2,?_,by simpa using O2⟩
  rw [List.foldl_cons,e]
  simpa using e2
theorem wJ (mask:Nat) (hashes:Array Int):SetTable.layClean mask hashes=(hashes.toList.foldl (E8 mask) (some (Array.replicate (mask+1) none,0))).map (·.1):=by
 unfold SetTable.layClean
 rw [<- Array.foldl_toList]
 rfl
theorem E9 (mask:Nat):Own mask [] [] (Array.replicate (mask+1) none):=by
 refine ⟨by simp,rfl,?_,fun k h j a=>by simp at a⟩
 have:cx mask (Array.replicate (mask+1) none)=[]:=by
  unfold cx
  rw [List.filterMap_eq_nil_iff]
  intro j _
  rw [Ol,Array.getElem?_replicate]
  split<;>rfl
 rw [this]
 exact .nil
theorem yw {α:Type} {es:Array α}:∀ {l:List (Nat×Nat)},(∀ p∈l,p.2 < es.size)->((l.map (·.2)).filterMap (fun k=>es[k]?)).length=l.length/\∀ (i:Nat) (p:Nat×Nat),l[i]?=some p->((l.map (·.2)).filterMap (fun k=>es[k]?))[i]?=es[p.2]?
 | [],_=>⟨rfl,fun i p h=>by simp at h⟩
 | a::l,h=>by
  obtain ⟨h1,h2⟩:=yw (l:=l) fun p hp=>h p (NO _ hp)
  have ha:=h a (NU ..)
  rw [Ob,Qa (N6 ha)]
  refine ⟨by rw [N3,h1,N3],fun i p hi=>?_⟩
  cases i with
  | zero=>simp at hi;subst hi;simp
  | succ i=>simpa using h2 i p (by simpa using hi)
theorem Fb {es:Array (Int×Value)} {mask:Nat} (hm:sizeOk (mask+1)=true) (hn:es.size * 5 < mask * 3) (finger moves:Nat) (led plain:Bool) :
  ∃ t' order,SetTable.laid mask finger moves led plain (es.map (·.1))=some (t',order)/\Tab (order.filterMap (es[·]?)) t'/\List.Perm (order.filterMap (es[·]?)).toList es.toList/\t'.mask=mask/\t'.led=led/\List.Perm order.toList (List.range es.size):=by
 obtain ⟨js,owner,e,O⟩:=zM hm (es.map (·.1)).toList [] [] _ (E9 mask) (by simp;omega)
 simp only [Pt,OB] at e O
 have hlen:(es.map (·.1)).toList.length=es.size:=by simp
 have hsnd:List.Perm ((cx mask owner).map (·.2)) (List.range es.size):=by
  have:=O.lv.map (·.2)
  rw [hlen] at this
  refine this.trans ?_
  rw [List.map_snd_zip (by rw [O.ln,hlen];simp)]
 have hbelow:∀ p∈cx mask owner,p.2 < es.size:=fun p hp=>by
  have:=hsnd.mem_iff.mp (Oe.mpr ⟨p,hp,rfl⟩)
  exact OD.mp this
 obtain ⟨g1,g2⟩:=yw (es:=es) hbelow
 have hfst:((cx mask owner).map (·.1)).Pairwise (· < ·):=by
  rw [Qx]
  unfold cx
  rw [List.pairwise_filterMap]
  refine List.Pairwise.imp ?_ List.pairwise_lt_range
  intro a b hab x hx y hy
  rw [OA] at hx hy
  obtain ⟨_,_,rfl⟩:=hx
  obtain ⟨_,_,rfl⟩:=hy
  exact hab
 have hmem:∀ p∈cx mask owner,p.1<=mask/\owner.getD p.1 none=some p.2:=fun p hp=>by
  obtain ⟨j,hj,ej⟩:=Ql.mp hp
  rw [OA] at ej
  obtain ⟨k,hk,rfl⟩:=ej
  exact ⟨by have:=OD.mp hj;omega,hk⟩
 refine ⟨{mask,place:=((cx mask owner).map (·.1)).toArray,dummies:=#[],finger,led,moves,plain},((cx mask owner).map (·.2)).toArray,?_,?_,?_,rfl,rfl,by simpa using hsnd⟩
 ·unfold SetTable.laid
  rw [wJ,e]
  rfl
 ·have efm:((((cx mask owner).map (·.2)).toArray.filterMap (es[·]?)):Array _)=(((cx mask owner).map (·.2)).filterMap (fun k=>es[k]?)).toArray:=by simp
  have llen:(cx mask owner).length=es.size:=by
   have:=hsnd.length_eq
   simpa using this
  refine ⟨hfst,List.Pairwise.nil,?_,?_,fun j hj=>?_,fun j hj=>by simp at hj,fun j hj=>by simp at hj,hm,fun i e' j h1 h2=>?_⟩
  ·rw [efm,NQ,NQ,g1,NZ]
  ·show (((cx mask owner).map (·.1)).toArray.size+0) * 5 < mask * 3
   simp only [NQ,NZ,llen,Nat.add_zero]
   exact hn
  ·obtain ⟨p,hp,rfl⟩:=Oe.mp (by simpa using hj:j∈(cx mask owner).map (·.1))
   exact (hmem p hp).1
  ·rw [efm] at h1
   have h2':((cx mask owner).map (·.1))[i]?=some j:=by simpa using h2
   rw [OM,OA] at h2'
   obtain ⟨p,hp,rfl⟩:=h2'
   have h1':(((cx mask owner).map (·.2)).filterMap (fun k=>es[k]?))[i]?=some e':=by simpa using h1
   rw [g2 i p hp] at h1'
   have pm:=Od hp
   have pz:=O.lv.mem_iff.mp pm
   rw [hlen] at pz
   obtain ⟨k,hk,ek⟩:=Qg pz
   rw [List.getElem_zip] at ek
   simp only [List.getElem_range] at ek
   have ek1:js[k]?=some p.1:=by
    rw [<- PH Prod.fst ek]
    exact NR _
   have ek2:p.2=k:=(PH Prod.snd ek).symm
   obtain ⟨n,n1,n2⟩:=O.rc k e'.1 p.1 (by simp only [Array.toList_map,OM,Og];rw [<- ek2,h1'];rfl) ek1
   refine ⟨n,n1,fun m hm' z=>?_⟩
   have oc:=n2 m hm'
   have z':SetTable.slot {mask,place:=((cx mask owner).map (·.1)).toArray,dummies:=#[],finger,led,moves,plain} (sq mask e'.1 m)=.empty:=z
   rw [je (t:={mask,place:=((cx mask owner).map (·.1)).toArray,dummies:=#[],finger,led,moves,plain}) hfst List.Pairwise.nil] at z'
   by_cases hin:sq mask e'.1 m < owner.size
   ·unfold wH at oc
    rw [Ol,N6 hin] at oc
    simp only [Rq] at oc
    cases hv:owner[sq mask e'.1 m] with
    | none=>rw [hv] at oc;simp at oc
    | some k'=>
     refine z'.1 ?_
     have:sq mask e'.1 m∈(cx mask owner).map (·.1):=Oe.mpr ⟨(sq mask e'.1 m,k'),Ql.mpr ⟨_,OD.mpr (by rw [<- O.sz];exact hin),by simp [Array.getD,hin,hv]⟩,rfl⟩
     simpa using this
   ·exfalso
    have bound:∀ q (c:Pc),c.j+c.more<=mask->(steps mask q c).j+(steps mask q c).more<=mask:=by
     intro q
     induction q with
     | zero=>intro c hc;exact hc
     | succ q ih=>
      intro c hc
      simp only [steps]
      refine ih _ ?_
      unfold step
      split
      ·show c.j+1+(c.more - 1)<=mask
       omega
      ·show (SetTable.leap mask c.i c.pt).1+(SetTable.runEnd mask (SetTable.leap mask c.i c.pt).1 - (SetTable.leap mask c.i c.pt).1)<=mask
       have:(SetTable.leap mask c.i c.pt).1 < mask+1:=Rz _ (by omega)
       unfold SetTable.runEnd
       split<;>omega
    have hb:=bound m (c0 mask e'.1) (by
     show SetTable.bits e'.1 % (mask+1)+(SetTable.runEnd mask (SetTable.bits e'.1 % (mask+1)) - SetTable.bits e'.1 % (mask+1))<=mask
     have:SetTable.bits e'.1 % (mask+1) < mask+1:=Rz _ (by omega)
     unfold SetTable.runEnd
     split<;>omega)
    have:sq mask e'.1 m<=mask:=by unfold sq;omega
    rw [O.sz] at hin
    omega
 ·rw [Array.toList_filterMap]
  refine (hsnd.filterMap _).trans ?_
  rw [filterMap_getElem?_range]
theorem mU:∀ n,n < 1024->(n < SetTable.sizeAbove n/\SetTable.sizeAbove n∈[8,16,32,64,128,256,512,1024]):=by decide +kernel
theorem AZ {m:Nat} (h:m∈[8,16,32,64,128,256,512,1024]):sizeOk m=true:=by
 obtain ⟨a,b,c,d,e,f,g,i⟩:=Gh
 simp only [NJ,N9,OW] at h
 rcases h with h | h | h | h | h | h | h | h<;>(rw [h];assumption)
theorem A0 {es:Array (Int×Value)} {t:SetTable} {wanted:Nat} (hw:wanted < 1024) (hn:es.size * 5 < wanted * 3\/es.size<=4) :
  ∃ t' order,t.relaid (es.map (·.1)) wanted=some (t',order)/\Tab (order.filterMap (es[·]?)) t'/\List.Perm (order.filterMap (es[·]?)).toList es.toList/\t'.led=t.led/\List.Perm order.toList (List.range es.size)/\t'.mask+1=SetTable.sizeAbove wanted/\SetTable.sizeAbove wanted<=1024:=by
 obtain ⟨h1,h2⟩:=mU wanted hw
 have h8:8<=SetTable.sizeAbove wanted:=by
  simp only [NJ,N9,OW] at h2
  omega
 have e:SetTable.sizeAbove wanted - 1+1=SetTable.sizeAbove wanted:=by omega
 obtain ⟨t',order,a,b,c,d,f,g⟩:=Fb (es:=es) (mask:=SetTable.sizeAbove wanted - 1) (by rw [e];exact AZ h2) (by omega) t.finger (t.movedTo (SetTable.sizeAbove wanted - 1)) t.led t.plain
 exact ⟨t',order,a,b,c,f,g,by rw [d,e],by simp only [NJ,N9,OW] at h2;omega⟩
end Stt
namespace Stt
open PySem PySem.Spec L2 Ml
structure El (vp:Value->Prop) (w:World) (h:Heap) (md:Bool) (e:Int×Value) (d:PyData):Prop where
 tr:av d=true
 dp:d.depth<=8
 so:cD d=true
 hs:e.1=ou w d
 kd:fx d=md
 rd:∃ as,Reads h e.2 d as
 vl:vp e.2
abbrev bL (es:Array (Int×Value)) (ep:Nat) (t:SetTable):Obj:={cls:=.type "set",dict:=none,data:=.set es ep t,slots:=#[]}
abbrev cK (w:World):Bool:=w.params.followText "set-order"
structure fw (vp:Value->Prop) (w:World) (h:Heap) (a:Addr) (md:Bool) (ds:List PyData) (es:Array (Int×Value)) (ep:Nat) (t:SetTable):Prop where
 ob:h.get? a=some (bL es ep t)
 tb:Tab es t
 ld:t.led=true\/cK w=true
 nd:ds.Nodup
 ln:ds.length<=120
 el:Paired (El vp w h md) es.toList ds
def ju (vp:Value->Prop) (w:World) (h:Heap) (a:Addr) (md:Bool) (ds:List PyData):Prop:=∃ es ep t,fw vp w h a md ds es ep t
theorem El.keep {vp:Value->Prop} {w:World} {h h':Heap} {md:Bool} {e:Int×Value} {d:PyData} (x:El vp w h md e d) (k:∀ b o vs n,h.get? b=some o->o.cls=.type "tuple" -> o.data=.seq vs n->h'.get? b=some o):El vp w h' md e d:=
 ⟨x.tr,x.dp,x.so,x.hs,x.kd,let ⟨as,r⟩:=x.rd;⟨as,iE k x.tr r⟩,x.vl⟩
theorem fw.size {vp:Value->Prop} {w:World} {h:Heap} {a:Addr} {md:Bool} {ds:List PyData} {es:Array (Int×Value)} {ep:Nat} {t:SetTable} (S:fw vp w h a md ds es ep t):es.size=ds.length:=by
 have:=Oc S.el
 simpa using this
theorem fE {α β:Type} {R:α->β->Prop}:∀ {xs:List α} {ys:List β},Paired R xs ys->∀ {i:Nat} {x:α},xs[i]?=some x->∃ y,ys[i]?=some y/\R x y
 | _,_,.nil,i,x,h=>by simp at h
 | _,_,.cons r _,0,x,h=>by simp at h;subst h;exact ⟨_,rfl,r⟩
 | _,_,.cons _ t,i+1,x,h=>by simpa using fE t (i:=i) (by simpa using h)
theorem g9 {α β:Type} {R:α->β->Prop}:∀ {xs:List α} {ys:List β},Paired R xs ys->∀ {i:Nat} {y:β},ys[i]?=some y->∃ x,xs[i]?=some x/\R x y
 | _,_,.nil,i,x,h=>by simp at h
 | _,_,.cons r _,0,x,h=>by simp at h;subst h;exact ⟨_,rfl,r⟩
 | _,_,.cons _ t,i+1,x,h=>by simpa using g9 t (i:=i) (by simpa using h)
theorem fw.get {vp:Value->Prop} {w:World} {h:Heap} {a:Addr} {md:Bool} {ds:List PyData} {es:Array (Int×Value)} {ep:Nat} {t:SetTable} (S:fw vp w h a md ds es ep t) {i:Nat} {e:Int×Value} (he:es[i]?=some e):∃ d,ds[i]?=some d/\El vp w h md e d:=by
 rw [<- Og] at he
 exact fE S.el he
section
variable {P:Program} {w:World} {A:Around} {E:Value->Shared->Prop} {s:Shared} {vp:Value->Prop}
theorem JZ {md md':Bool} {e e':Int×Value} {d d':PyData} (x:El vp w s.heap md e d) (y:El vp w s.heap md' e' d') (hu:A.units+20 < cLine) {Q:Bool->Shared->Prop} (h:Q (decide (d=d')) s):wpAny (model P w) A (eqBool e.2 e'.2) Q E s:=by
 obtain ⟨as,r1⟩:=x.rd
 obtain ⟨bs,r2⟩:=y.rd
 have hq:PyData.eqv d d'=decide (d=d'):=by
  by_cases z:d=d'
  ·subst z;rw [NV rfl];exact aT (aY x.tr)
  ·rw [NW z];exact aQ (aY x.tr) (aY y.tr) z
 have:=Rr d d' A s _ _ _ _ r1 r2 (ib x.so (bV (aY x.tr))) (ib y.so (bV (aY y.tr))) (by have:=x.dp;omega) P w E Q
 rw [hq] at this
 exact this h
mutual
theorem jR:∀ (d:PyData) (n:Nat) (A:Around) (s:Shared) (v:Value) (as:List Addr) (Q:Bool->Shared->Prop) (E:Value->Shared->Prop),av d=true->d.depth<=n->Reads s.heap v d as->Q false s->wpAny (model P w) A (ofAClassStatement n v) Q E s
 | .str x,n,A,s,v,as,Q,E,_,_,r,h=>by
  cases r
  unfold ofAClassStatement
  exact ND h
 | .tuple ds,n,A,s,v,as,Q,E,t,hn,r,h=>by
  cases r with
  | tuple ho hc hd hi=>
   rename_i a o items k
   have hT:s.TypeIs (.ref a) "tuple" := ⟨o,ho,hc⟩
   simp only [av] at t
   simp only [PyData.depth] at hn
   obtain ⟨m,rfl⟩:∃ m,n=m+1:=⟨n - 1,by omega⟩
   unfold ofAClassStatement
   refine NC (Rc hT ?_)
   show wpAny _ _ (if ("tuple" == "tuple")=true then _ else _) _ _ s
   rw [if_pos (by decide)]
   refine NC (ND ?_)
   simp only [PN,NP,Ou]
   refine NC (OL ho hd ?_)
   refine NC ?_
   show wpAny _ _ (forIn items _ _) _ _ s
   rw [<- QV]
   refine kX ds m A s items.toList _ _ E _ t (by omega) hi ?_ ?_
   ·intro x s' R k
    refine NC (OU k (fun c s2 q=>?_) fun _ _ z=>z)
    obtain ⟨rfl,q⟩:=q
    simp only [NP,Ou]
    exact ND q
   ·exact ND h
 | .none,_,_,_,_,_,_,_,t,_,_,_=>by simp [av] at t
 | .bool _,_,_,_,_,_,_,_,t,_,_,_=>by simp [av] at t
 | .int _,_,_,_,_,_,_,_,t,_,_,_=>by simp [av] at t
 | .list _,_,_,_,_,_,_,_,t,_,_,_=>by simp [av] at t
 | .dict _,_,_,_,_,_,_,_,t,_,_,_=>by simp [av] at t
theorem kX:∀ (ds:List PyData) (n:Nat) (A:Around) (s:Shared) (vs:List Value) (as:List Addr) (R:Option Bool×Unit->Shared->Prop) (E:Value->Shared->Prop) (body:Value->Option Bool×Unit->Sem (ForInStep (Option Bool×Unit))),aX ds=true->PyData.depthAll ds<=n->ReadsAll s.heap vs ds as ->
  (∀ (x:Value) (s':Shared) (R':ForInStep (Option Bool×Unit)->Shared->Prop),wpAny (model P w) A (ofAClassStatement n x) (fun c s2=>c=false/\R' (.yield (none,())) s2) E s'->wpAny (model P w) A (body x (none,())) R' E s') ->
  R (none,()) s->wpAny (model P w) A (forIn vs (none,()) body) R E s
 | [],n,A,s,_,_,R,E,body,_,_,.nil,hb,h=>by
  rw [PU]
  exact ND h
 | d::ds,n,A,s,_,_,R,E,body,t,hn,.cons r1 r2,hb,h=>by
  simp only [aX,NG] at t
  simp only [PyData.depthAll] at hn
  rw [Pu]
  refine NC (hb _ _ _ (jR d n A s _ _ _ E t.1 (by omega) r1 ⟨rfl,?_⟩))
  exact kX ds n A s _ _ R E body t.2 (by omega) r2 hb h
end
theorem tO {body:Value->Option Bool×Unit->Sem (ForInStep (Option Bool×Unit))} {G:Value->Prop} {R:Option Bool×Unit->Shared->Prop} (hb:∀ y,G y->∀ R':ForInStep (Option Bool×Unit)->Shared->Prop,R' (.yield (none,())) s->wpAny (model P w) A (body y (none,())) R' E s) :
  ∀ ys:List Value,(∀ y∈ys,G y)->R (none,()) s->wpAny (model P w) A (forIn ys (none,()) body) R E s
 | [],_,h=>by
  rw [PU]
  exact ND h
 | y::ys,g,h=>by
  rw [Pu]
  refine NC (hb y (g y (NU ..)) _ ?_)
  exact tO hb ys (fun z hz=>g z (NO _ hz)) h
theorem CN {md:Bool} {x:Value} {h0:Int} {d:PyData} (hx:El vp w s.heap md (h0,x) d) {Q:Bool->Shared->Prop} (hq:Q false s) (ys:List Value) (hys:∀ y∈ys,∃ h1 d1,El vp w s.heap md (h1,y) d1):wpAny (model P w) A (searchCouldBeSeen x ys) Q E s:=by
 unfold searchCouldBeSeen
 refine NC (tO (G:=fun y=>∃ h1 d1,El vp w s.heap md (h1,y) d1) (fun y gy R' hR=>?_) ys hys (ND hq))
 obtain ⟨h1,d1,hy⟩:=gy
 obtain ⟨as,r1⟩:=hx.rd
 obtain ⟨bs,r2⟩:=hy.rd
 dsimp only
 refine Pf (fun _=>ND hR) fun _=>?_
 ·skip
  refine NC (gU d 8 A s x as _ E hx.tr hx.dp r1 ?_)
  simp only [PN,NP,Ou]
  refine NC (gU d1 8 A s y bs _ E hy.tr hy.dp r2 ?_)
  simp only [PN,NP,Ou]
  refine NC (jR d 8 A s x as _ E hx.tr hx.dp r1 ?_)
  simp only [NP,Ou]
  refine NC (jR d1 8 A s y bs _ E hy.tr hy.dp r2 ?_)
  simp only [NP,Ou]
  exact ND hR
theorem wK {h:Heap} {e:Int×Value} {d:PyData} (x:El vp w h true e d):isSame e.2 e.2=pure true:=by
 obtain ⟨as,r⟩:=x.rd
 have k:=x.kd
 obtain ⟨e1,v⟩:=e
 dsimp only at r ⊢
 cases r with
 | tuple=>simp [isSame]
 | _=>simp [fx] at k
def IY (es:Array (Int×Value)) (i:Nat):Int:=(es[i]?.map (·.1)).getD 0
theorem eL {a:Addr} {es:Array (Int×Value)} {ep:Nat} {t:SetTable} {Q:(Array (Int×Value)×Nat×SetTable)->Shared->Prop} (ho:s.heap.get? a=some (bL es ep t)) (hf:t.fits es.size=true) (h:Q (es,ep,t) s):wpAny (model P w) A (setState a) Q E s:=wpAny_setState_of ho rfl hf h
def cz (t:SetTable) (h:Int) (slot:Nat) (wd:Bool):Prop:=(t.slot slot=if wd=true then .dummy else .empty)/\∃ n,sq t.mask h n=slot/\∀ m,m < n->t.slot (sq t.mask h m)≠.empty
theorem wL {a:Addr} {ds:List PyData} {es:Array (Int×Value)} {ep:Nat} {t:SetTable} {x:Value} {h0:Int} {d:PyData} {adding:Bool} (S:fw vp w s.heap a true ds es ep t) (hx:El vp w s.heap true (h0,x) d) (hu:A.units+20 < cLine)
  {N:Nat} (hN:t.slot (sq t.mask h0 N)=.empty) (hne:∀ m,m < N->t.slot (sq t.mask h0 m)≠.empty) (hNl:N < 10 * SetTable.turns t.mask) {Q:SetFound->Shared->Prop}
  (q1:d∉ds->∀ slot wd,cz t h0 slot wd->Q (.free slot wd) s) (q2:d∈ds->∀ i,ds[i]?=some d->Q (.there (if adding=true then none else some i)) s) :
  ∀ (fuel n:Nat) (st:Option SetTable.Probe),n<=N->N - n < fuel->pc (st.getD (t.probeStart h0))=steps t.mask n (c0 t.mask h0)->Dm t h0 n (st.getD (t.probeStart h0)).dummy ->
   (∀ m,m < n->∀ i,t.slot (sq t.mask h0 m)=.live i->ds[i]?≠some d)->wpAny (model P w) A (setSearchFrom a x h0 adding fuel st) Q E s
 | 0,n,st,h1,h2,h3,h4,h5=>by omega
 | fuel+1,n,st,h1,h2,h3,h4,h5=>by
  have T:=S.tb
  have hsh:∀ (i:Nat) (e:Int×Value),es[i]?=some e->IY es i=e.1:=fun i e he=>by unfold IY;rw [he];rfl
  have hlive:∀ (j i:Nat),t.slot j=.live i->∃ e d',es[i]?=some e/\ds[i]?=some d'/\El vp w s.heap true e d':=fun j i hl=>by
   have hp:=(ki T.rp).mp hl
   have hi:i < es.size:=by rw [<- T.sz];exact (OE.mp hp).1
   obtain ⟨d',h1,h2⟩:=S.get (N6 hi)
   exact ⟨es[i],d',N6 hi,h1,h2⟩
  have hdiff:∀ (m i:Nat),t.slot (sq t.mask h0 m)=.live i->IY es i≠h0->ds[i]?≠some d:=fun m i hl hh z=>by
   obtain ⟨e,d',e1,e2,e3⟩:=hlive _ i hl
   rw [e2] at z
   cases z
   rw [hsh i e e1,e3.hs] at hh
   exact hh hx.hs.symm
  unfold setSearchFrom
  refine NC (eL S.ob T.fits ?_)
  dsimp only
  rw [T.odd]
  simp only [NP,Ou]
  have hg:=pj (hashAt:=IY es) hN hne (10 * SetTable.turns t.mask) n (st.getD (t.probeStart h0)) h1 (by omega) h3 h4
  have hpr:∀ met,SetTable.probe.go t (IY es) h0 (10 * SetTable.turns t.mask) (st.getD (t.probeStart h0))=some met->t.probe (IY es) h0 (st.getD (t.probeStart h0))=some met:=fun _ e=>e
  rcases hg with ⟨dm,e1,e2,e3⟩ | ⟨k,i,q,e1,e2,e3,e4,e5,e6,e7,e8⟩
  ·
   have hnd:d∉ds:=fun hm=>by
    obtain ⟨i,hi⟩:=O6 hm
    obtain ⟨e,he,hel⟩:=g9 S.el hi
    rw [Og] at he
    have hil:i < t.place.size:=by rw [T.sz];exact (OE.mp he).1
    obtain ⟨n',n1,n2⟩:=T.rc i e t.place[i] he (N6 hil)
    have hh:e.1=h0:=hel.hs.trans hx.hs.symm
    rw [hh] at n1 n2
    have hsl:t.slot (sq t.mask h0 n')=.live i:=(ki T.rp).mpr (by rw [n1];exact N6 hil)
    have hnN:n' < N:=by
     apply Oz
     intro z
     by_cases z2:n'=N
     ·rw [z2,hN] at hsl;cases hsl
     ·exact n2 N (by omega) hN
    by_cases z:n' < n
    ·exact h5 n' z i hsl hi
    ·exact e3 n' (by omega) hnN i hsl (by rw [hsh i e he];exact hh)
   split
   case h_2 hno=>exact absurd (hpr _ e1) (hno _)
   rename_i met hmet
   have hme:=hmet.symm.trans (hpr _ e1)
   cases hme
   dsimp only
   rcases e2 with rfl | ⟨m,m1,rfl,m3⟩
   ·exact ND (q1 hnd _ false ⟨by simpa using hN,N,rfl,hne⟩)
   ·dsimp only
    rw [m3]
    have:(adding && (SetTable.Slot.dummy != SetTable.Slot.dummy))=false:=by cases adding<;>rfl
    rw [this]
    simp only [NP,Ou]
    exact ND (q1 hnd _ true ⟨by simpa using m3,m,rfl,fun m' hm'=>hne m' (by omega)⟩)
  ·
   split
   case h_2 hno=>exact absurd (hpr _ e1) (hno _)
   rename_i met hmet
   have hme:=hmet.symm.trans (hpr _ e1)
   cases hme
   dsimp only
   obtain ⟨e,d',f1,f2,f3⟩:=hlive _ i e4
   have go:wpAny (model P w) A (do
     let some (_,y):=es[i]? | unsupported "internal:set-entry"
     let equal <- holding [y] (eqBool y x)
     let (es',_,t') <- setState a
     if adding && equal then return SetFound.there none
     let some same:=t'.sameMemory t.moves t.mask | unsupported "set.changed-during-lookup:is-the-new-block-at-the-old-address"
     let still <- match (if same then t'.slot (sq t.mask h0 k) else .empty) with
      | .live i'=>match es'[i']? with
       | some (_,y')=>do pure (if <- isSame y' y then some i' else none)
       | none=>pure none
      | _=>pure none
     match still with
     | none=>rule "set.search.anew";setSearchFrom a x h0 adding fuel none
     | some i'=>if equal then return .there (some i') else setSearchFrom a x h0 adding fuel (some q)) Q E s:=by
    rw [f1]
    obtain ⟨he,y⟩:=e
    dsimp only
    refine NC (Ow (JZ f3 hx hu ?_))
    refine NC (eL S.ob T.fits ?_)
    dsimp only
    have hsm:t.sameMemory t.moves t.mask=some true:=by unfold SetTable.sameMemory;simp
    by_cases z:d'=d
    ·subst z
     have hm:d'∈ds:=Od f2
     have Q2:=q2 hm i f2
     cases adding with
     | true=>
      simp only [decide_true,QA,Ot] at Q2 ⊢
      exact ND Q2
     | false=>
      simp only [Q6,NP,Ou] at Q2 ⊢
      rw [hsm]
      dsimp only
      rw [if_pos rfl,e4]
      dsimp only
      rw [f1]
      dsimp only
      refine NC (Qd (a:=true) (wK f3) ?_)
      refine NC (ND ?_)
      simp only [decide_true,Ot]
      exact ND Q2
    ·simp only [NW z,Bool.and_false,NP,Ou]
     rw [hsm]
     dsimp only
     rw [if_pos rfl,e4]
     dsimp only
     rw [f1]
     dsimp only
     refine NC (Qd (a:=true) (wK f3) ?_)
     refine NC (ND ?_)
     simp only [Ot]
     refine wL S hx hu hN hne hNl q1 q2 fuel (k+1) (some q) (by omega) (by omega) e6 e7 fun m hm i' hi'=>?_
     by_cases z1:m < n
     ·exact h5 m z1 i' hi'
     ·by_cases z2:m=k
      ·subst z2
       rw [e4] at hi'
       cases hi'
       rw [f2]
       exact fun q=>z (OI q)
      ·exact hdiff m i' hi' (e8 m (by omega) (by omega) i' hi')
   by_cases hl:t.led=true
   ·rw [hl]
    simp only [PN,NP,Ou]
    exact go
   ·have hl':t.led=false:=by simpa using hl
    rw [hl']
    simp only [Qj,Ot]
    refine NC (CN hx ?_ _ fun y hy=>?_)
    ·simp only [NP,Ou]
     exact go
    ·obtain ⟨e',he',rfl⟩:=Oe.mp hy
     have hm:e'∈es.toList:=by
      have:=he'
      simp at this
      simpa using this.1
     obtain ⟨i',hi'⟩:=O6 hm
     obtain ⟨d2,_,hd2⟩:=fE S.el hi'
     exact ⟨e'.1,d2,hd2⟩
end
theorem oK {α β:Type} {R:α->β->Prop}:∀ {xs:List α} {ys:List β} (p:Nat),Paired R xs ys->Paired R (xs.take p) (ys.take p)/\Paired R (xs.drop p) (ys.drop p)
 | _,_,0,h=>⟨by simp;exact .nil,by simpa using h⟩
 | _,_,p+1,.nil=>⟨by simp;exact .nil,by simp;exact .nil⟩
 | _,_,p+1,.cons r t=>by
  obtain ⟨a,b⟩:=oK p t
  exact ⟨by simp only [List.take_succ_cons];exact .cons r a,by simpa using b⟩
theorem qK {α β:Type} {R:α->β->Prop}:∀ {xs us:List α} {ys vs:List β},Paired R xs ys->Paired R us vs->Paired R (xs++us) (ys++vs)
 | _,_,_,_,.nil,h=>h
 | _,_,_,_,.cons r t,h=>.cons r (qK t h)
theorem su {α β:Type} {R:α->β->Prop} {xs:Array α} {ys:List β} (p:Nat) {x:α} {y:β} (h:Paired R xs.toList ys) (r:R x y):Paired R (SetTable.insertAt xs p x).toList (ys.take p++y::ys.drop p):=by
 rw [QO]
 obtain ⟨a,b⟩:=oK p h
 exact qK a (.cons r b)
theorem oM {α β:Type} {R:α->β->Prop} {xs xs':List α} (p:List.Perm xs xs'):∀ {ys:List β},Paired R xs ys->∃ ys',List.Perm ys ys'/\Paired R xs' ys':=by
 induction p with
 | nil=>exact fun h=>⟨_,.refl _,h⟩
 | cons x _ ih=>
  intro ys h
  cases h with
  | cons r t=>obtain ⟨ys',a,b⟩:=ih t;exact ⟨_,a.cons _,.cons r b⟩
 | swap x y l=>
  intro ys h
  cases h with
  | cons r t=>
   cases t with
   | cons r' t=>exact ⟨_,.swap _ _ _,.cons r' (.cons r t)⟩
 | trans _ _ ih1 ih2=>
  intro ys h
  obtain ⟨y1,a,b⟩:=ih1 h
  obtain ⟨y2,c,d⟩:=ih2 b
  exact ⟨y2,a.trans c,d⟩
theorem qL (ds:List PyData) (p:Nat) (d:PyData):List.Perm (ds.take p++d::ds.drop p) (d::ds):=by
 have:=PQ p ds
 exact List.perm_middle.trans (by rw [this])
theorem zN {ds ds':List PyData} (p:List.Perm ds ds') (h:ds.Nodup):ds'.Nodup:=p.nodup_iff.mp h
section
variable {P:Program} {w:World} {A:Around} {E:Value->Shared->Prop} {s:Shared} {vp:Value->Prop}
theorem El.text {h:Heap} {e:Int×Value} {d:PyData} (x:El vp w h false e d):∃ y t,d=.str y/\e.2=.str y t/\e.1=hashStr w y:=by
 obtain ⟨as,r⟩:=x.rd
 have k:=x.kd
 have t:=x.tr
 have hs:=x.hs
 obtain ⟨e1,v⟩:=e
 dsimp only at r hs ⊢
 cases r with
 | str y u=>exact ⟨y,u,rfl,rfl,hs⟩
 | tuple=>simp [fx] at k
 | _=>simp [av] at t
theorem El.refs {h:Heap} {e:Int×Value} {d:PyData} (x:El vp w h true e d):∃ a,e.2=.ref a:=by
 obtain ⟨as,r⟩:=x.rd
 have k:=x.kd
 obtain ⟨e1,v⟩:=e
 dsimp only at r ⊢
 cases r with
 | tuple=>exact ⟨_,rfl⟩
 | _=>simp [fx] at k
theorem wM {h:Heap} {es:List (Int×Value)} {ds:List PyData} (p:Paired (El vp w h false) es ds):ElemsOf (strKind P w) es:=by
 intro e he
 obtain ⟨i,hi⟩:=O6 he
 obtain ⟨d,_,x⟩:=fE p hi
 obtain ⟨y,t,e1,e2,e3⟩:=x.text
 exact ⟨⟨y,by rw [e2];show Value.isStrOf y (.str y t)=true;simp [Value.isStrOf],e3⟩,by rw [e2];rfl⟩
theorem CO {h:Heap} {es:List (Int×Value)} {ds:List PyData} (p:Paired (El vp w h false) es ds) (y:Str) :
  match es.findIdx? (fun e=>(strKind P w).is y e.2) with
  | some j=>ds[j]?=some (.str y)
  | none=>PyData.str y∉ds:=by
 have hk:∀ {e:Int×Value} {d:PyData},El vp w h false e d->((strKind P w).is y e.2=true<->d=.str y):=fun {e d} x=>by
  obtain ⟨z,t,rfl,e2,_⟩:=x.text
  rw [e2]
  show Value.isStrOf y (.str z t)=true<->_
  constructor
  ·intro q
   obtain ⟨u,hu⟩:=Value.isStrOf_shape q
   injection hu with hu
   rw [hu]
  ·intro q
   cases q
   simp [Value.isStrOf]
 cases hr:es.findIdx? (fun e=>(strKind P w).is y e.2) with
 | some j=>
  obtain ⟨hj,hp,_⟩:=List.findIdx?_eq_some_iff_getElem.mp hr
  obtain ⟨d,h1,h2⟩:=fE p (NR hj)
  show ds[j]?=_
  rw [h1,(hk h2).mp hp]
 | none=>
  show PyData.str y∉ds
  intro hm
  obtain ⟨i,hi⟩:=O6 hm
  obtain ⟨e,h1,h2⟩:=g9 p hi
  have:=List.findIdx?_eq_none_iff.mp hr e (Od h1)
  rw [(hk h2).mpr rfl] at this
  cases this
theorem fw.scan {h:Heap} {a:Addr} {ds:List PyData} {es:Array (Int×Value)} {ep:Nat} {t:SetTable} (S:fw vp w h a false ds es ep t) {x:Value} {y:Str} {u:Tok} (hx:x=.str y u):byScan x es=true:=
 byScan_of (prog:=default) (w:=w) (knd:=strKind default w) (by rw [hx];rfl) (by rw [S.size];have:=S.ln;show _ < 4096;omega) (wM S.el)
theorem Ik {b:Addr} {es:Array (Int×Value)}:byScan (.ref b) es=false:=rfl
end
section
variable {P:Program} {w:World} {A:Around} {E:Value->Shared->Prop} {s:Shared} {vp:Value->Prop}
theorem wN {α:Type} {body:α->Option Bool×Unit->Sem (ForInStep (Option Bool×Unit))} {G:α->Prop} {R:Option Bool×Unit->Shared->Prop} (hb:∀ y,G y->∀ R':ForInStep (Option Bool×Unit)->Shared->Prop,R' (.yield (none,())) s->R' (.done (some false,())) s->wpAny (model P w) A (body y (none,())) R' E s) :
  ∀ ys:List α,(∀ y∈ys,G y)->R (none,()) s->R (some false,()) s->wpAny (model P w) A (forIn ys (none,()) body) R E s
 | [],_,h,_=>by
  rw [PU]
  exact ND h
 | y::ys,g,h,h'=>by
  rw [Pu]
  refine NC (hb y (g y (NU ..)) _ ?_ ?_)
  ·exact wN hb ys (fun z hz=>g z (NO _ hz)) h h'
  ·exact ND h'
mutual
theorem tP:∀ (d:PyData) (n:Nat) (v:Value) (as:List Addr) (Q:Bool->Shared->Prop),av d=true->d.depth<=n->Reads s.heap v d as->(∀ b,Q b s)->wpAny (model P w) A (hashByValue n v) Q E s
 | .str x,n,v,as,Q,_,_,r,h=>by
  cases r
  have:hashByValue n (.str x ‹_›)=pure false:=by cases n<;>rfl
  rw [this]
  exact ND (h _)
 | .tuple ds,n,v,as,Q,t,hn,r,h=>by
  cases r with
  | tuple ho hc hd hi=>
   rename_i a o items k
   have hT:s.TypeIs (.ref a) "tuple" := ⟨o,ho,hc⟩
   simp only [av] at t
   simp only [PyData.depth] at hn
   obtain ⟨m,rfl⟩:∃ m,n=m+1:=⟨n - 1,by omega⟩
   unfold hashByValue
   refine NC (Qp hT Qv.lookup ?_)
   dsimp only
   refine NC (OL ho hd ?_)
   simp only [Rq]
   refine NC ?_
   rw [<- QV]
   refine wN (G:=fun y=>∃ d' as',av d'=true/\d'.depth<=m/\Reads s.heap y d' as'/\∀ Q':Bool->Shared->Prop,(∀ b,Q' b s)->wpAny (model P w) A (hashByValue m y) Q' E s) (fun y ⟨d',as',g1,g2,g3,g4⟩ R' r1 r2=>?_) items.toList ?_ (ND (h _)) (ND (h _))
   ·refine NC (g4 _ fun b=>?_)
    cases b
    ·exact ND r2
    ·exact ND r1
   ·exact qM ds m items.toList _ t (by omega) hi
 | .none,_,_,_,_,t,_,_,_=>by simp [av] at t
 | .bool _,_,_,_,_,t,_,_,_=>by simp [av] at t
 | .int _,_,_,_,_,t,_,_,_=>by simp [av] at t
 | .list _,_,_,_,_,t,_,_,_=>by simp [av] at t
 | .dict _,_,_,_,_,t,_,_,_=>by simp [av] at t
theorem qM:∀ (ds:List PyData) (m:Nat) (vs:List Value) (as:List Addr),aX ds=true->PyData.depthAll ds<=m->ReadsAll s.heap vs ds as->∀ y∈vs,∃ d' as',av d'=true/\d'.depth<=m/\Reads s.heap y d' as'/\∀ Q':Bool->Shared->Prop,(∀ b,Q' b s)->wpAny (model P w) A (hashByValue m y) Q' E s
 | [],m,_,_,_,_,.nil,y,hy=>by simp at hy
 | d::ds,m,_,_,t,hn,.cons r1 r2,y,hy=>by
  simp only [aX,NG] at t
  simp only [PyData.depthAll] at hn
  rcases NJ.mp hy with rfl | hy
  ·exact ⟨d,_,t.1,by omega,r1,fun Q' h=>tP d m _ _ Q' t.1 (by omega) r1 h⟩
  ·exact qM ds m _ _ t.2 (by omega) r2 y hy
end
theorem MV {md:Bool} {e:Int×Value} {d:PyData} (x:El vp w s.heap md e d) {Q:Bool->Shared->Prop} (h:∀ b,Q b s):wpAny (model P w) A (hashByValue 8 e.2) Q E s:=by
 obtain ⟨as,r⟩:=x.rd
 exact tP d 8 _ as Q x.tr x.dp r h
theorem mV {h h':Heap} {a:Addr} {es:Array (Int×Value)} {ep:Nat} {t:SetTable} (ho:h.get? a=some (bL es ep t)) (sb:Heap.SameBut a h h'):∀ b o vs n,h.get? b=some o->o.cls=.type "tuple" -> o.data=.seq vs n->h'.get? b=some o:=fun b o vs n e c _=>by
 refine (sb.2 b fun z=>?_).trans e
 rw [z,ho] at e
 cases e
 exact absurd (Q8 c) (by decide)
theorem mW {a:Addr} {es es':Array (Int×Value)} {ep:Nat} {t t':SetTable} {Q:Unit->Shared->Prop} (ho:s.heap.get? a=some (bL es ep t)) (hz:es'.size<=1000)
  (h:∀ h',h'.get? a=some (bL es' (ep+1) t')->Heap.SameBut a s.heap h'->Q () {s with heap:=h'}):wpAny (model P w) A (storeSet a es' t') Q E s:=by
 refine wpAny_storeSet_of ho rfl (h _ ?_ (Py ..)) (by rw [Pk];omega)
 have:=OV (Obj.putSet es' t') ho (by rw [putSet_of es' t' rfl];rfl)
 rw [putSet_of es' t' rfl] at this
 exact this
structure nU (vp:Value->Prop) (w:World) (h:Heap) (md:Bool) (ds:List PyData) (es:Array (Int×Value)) (t:SetTable):Prop where
 tb:sk es t
 ld:t.led=true\/cK w=true
 nd:ds.Nodup
 ln:ds.length<=120
 el:Paired (El vp w h md) es.toList ds
theorem nU.size {h:Heap} {md:Bool} {ds:List PyData} {es:Array (Int×Value)} {t:SetTable} (S:nU vp w h md ds es t):es.size=ds.length:=by
 have:=Oc S.el
 simpa using this
theorem nU.keep {h h':Heap} {md:Bool} {ds:List PyData} {es:Array (Int×Value)} {t:SetTable} (S:nU vp w h md ds es t) (k:∀ b o vs n,h.get? b=some o->o.cls=.type "tuple" -> o.data=.seq vs n->h'.get? b=some o):nU vp w h' md ds es t:=
 ⟨S.tb,S.ld,S.nd,S.ln,Paired.rJ S.el fun _ _ x=>El.keep x k⟩
theorem qN {md:Bool} {h:Heap} {a:Addr} {ds:List PyData} {es:Array (Int×Value)} {ep:Nat} {t:SetTable} {x:Value} {h0:Int} {d:PyData} {slot:Nat} {wd:Bool} (S:fw vp w h a md ds es ep t) (hx:El vp w h md (h0,x) d) (hn:d∉ds) (hl:ds.length < 120) (R:cz t h0 slot wd) (pl:Bool) :
  ∃ ds',List.Perm ds' (d::ds)/\nU vp w h md ds' (SetTable.insertAt es (t.put slot).2 (h0,x)) {(t.put slot).1 with plain:=pl}/\((!wd && ({(t.put slot).1 with plain:=pl}:SetTable).tooFull)=false->({(t.put slot).1 with plain:=pl}:SetTable).fill * 5 < ({(t.put slot).1 with plain:=pl}:SetTable).mask * 3):=by
 obtain ⟨r1,n,r2,r3⟩:=R
 have hs:∀ i,t.slot slot≠.live i:=fun i z=>by rw [r1] at z;split at z<;>cases z
 have hm:slot<=t.mask:=by
  rw [<- r2]
  unfold sq
  have bound:∀ q (c:Pc),c.j+c.more<=t.mask->(steps t.mask q c).j+(steps t.mask q c).more<=t.mask:=by
   intro q
   induction q with
   | zero=>intro c hc;exact hc
   | succ q ih=>
    intro c hc
    simp only [steps]
    refine ih _ ?_
    unfold step
    split
    ·show c.j+1+(c.more - 1)<=t.mask
     omega
    ·show (SetTable.leap t.mask c.i c.pt).1+(SetTable.runEnd t.mask (SetTable.leap t.mask c.i c.pt).1 - (SetTable.leap t.mask c.i c.pt).1)<=t.mask
     have:(SetTable.leap t.mask c.i c.pt).1 < t.mask+1:=Rz _ (by omega)
     unfold SetTable.runEnd
     split<;>omega
  have hb:=bound n (c0 t.mask h0) (by
   show SetTable.bits h0 % (t.mask+1)+(SetTable.runEnd t.mask (SetTable.bits h0 % (t.mask+1)) - SetTable.bits h0 % (t.mask+1))<=t.mask
   have:SetTable.bits h0 % (t.mask+1) < t.mask+1:=Rz _ (by omega)
   unfold SetTable.runEnd
   split<;>omega)
  omega
 obtain ⟨T1,T2⟩:=E7 (x:=x) S.tb hs hm r2 r3
 refine ⟨_,qL ds (t.put slot).2 d,⟨T1.flags rfl rfl rfl,S.ld,?_,?_,su _ S.el hx⟩,fun hq=>?_⟩
 ·exact zN (qL ds _ d).symm (Pe.mpr ⟨hn,S.nd⟩)
 ·rw [(qL ds _ d).length_eq]
  simp
  omega
 ·cases wd with
  | true=>
   have:=T2 (by simpa using r1)
   show (t.put slot).1.fill * 5 < t.mask * 3
   rw [this]
   exact S.tb.tf
  | false=>
   simp only [Qj,Bool.true_and] at hq
   unfold SetTable.tooFull at hq
   simp only [decide_eq_false_iff_not] at hq
   exact Nat.lt_of_not_le hq
theorem oN {md:Bool} {h:Heap} {ds:List PyData} {es:Array (Int×Value)} {t:SetTable} (S:nU vp w h md ds es t) {wanted:Nat} (hw:wanted < 1024) (hn:es.size * 5 < wanted * 3\/es.size<=4) :
  ∃ t' order ds',t.relaid (es.map (·.1)) wanted=some (t',order)/\List.Perm ds' ds/\nU vp w h md ds' (order.filterMap (es[·]?)) t'/\Tab (order.filterMap (es[·]?)) t'/\List.Perm order.toList (List.range es.size)/\t'.mask+1=SetTable.sizeAbove wanted:=by
 obtain ⟨t',order,e1,e2,e3,e4,e5,e6,_⟩:=A0 (es:=es) (t:=t) hw hn
 obtain ⟨ds',p1,p2⟩:=oM e3.symm S.el
 exact ⟨t',order,ds',e1,p1.symm,⟨e2.L4,by rw [e4];exact S.ld,zN p1 S.nd,by rw [<- p1.length_eq];exact S.ln,p2⟩,e2,e5,e6⟩
theorem wO {n:Nat} (h:n<=121):SetTable.grown n < 1024/\(n * 5 < SetTable.grown n * 3\/n<=4):=by
 unfold SetTable.grown
 rw [if_neg (by omega)]
 omega
theorem nU.at {md:Bool} {h:Heap} {a:Addr} {ds:List PyData} {es:Array (Int×Value)} {ep:Nat} {t:SetTable} (S:nU vp w h md ds es t) (T:Tab es t) (ho:h.get? a=some (bL es ep t)):fw vp w h a md ds es ep t:=⟨ho,T,S.ld,S.nd,S.ln,S.el⟩
theorem CP {md:Bool} {a:Addr} {ds:List PyData} {es:Array (Int×Value)} {ep:Nat} {t:SetTable} {wanted:Nat} {Q:Unit->Shared->Prop} (ho:s.heap.get? a=some (bL es ep t)) (S:nU vp w s.heap md ds es t) (hw:wanted < 1024) (hn:es.size * 5 < wanted * 3\/es.size<=4)
  (h:∀ h' ds' es' ep' t',Heap.SameBut a s.heap h'->fw vp w h' a md ds' es' ep' t'->List.Perm ds' ds->t'.mask+1=SetTable.sizeAbove wanted->Q () {s with heap:=h'}):wpAny (model P w) A (setRelay a wanted) Q E s:=by
 unfold setRelay
 refine NC (eL ho S.tb.fits ?_)
 dsimp only
 have hsz:=(mU wanted hw).2
 have hsl:¬ SetTable.sizeAbove wanted > sizeLine:=by
  rw [Pk]
  simp only [NJ,N9,OW] at hsz
  omega
 rw [if_neg hsl]
 obtain ⟨t',order,ds',e1,e2,e3,e4,_,e5⟩:=oN S hw hn
 refine NC ?_
 rw [e1]
 show wpAny _ _ (if ((order.filterMap (es[·]?)).size != es.size)=true then _ else pure (order.filterMap (es[·]?),t')) _ _ _
 have hse:(order.filterMap (es[·]?)).size=es.size:=by rw [e3.size,S.size,e2.length_eq]
 rw [if_neg (by simp [hse])]
 refine ND ?_
 dsimp only
 refine mW ho (by rw [hse,S.size];have:=S.ln;omega) fun h' g1 g2=>?_
 exact h h' ds' _ _ t' g2 ((e3.keep (mV ho g2)).at e4 g1) e2 e5
end
section
variable {P:Program} {w:World} {A:Around} {E:Value->Shared->Prop} {s:Shared} {vp:Value->Prop}
theorem CQ {md:Bool} {a:Addr} {ds:List PyData} {es:Array (Int×Value)} {ep:Nat} {t:SetTable} {x:Value} {h0:Int} {d:PyData} {slot:Nat} {wd:Bool} (S:fw vp w s.heap a md ds es ep t) (hx:El vp w s.heap md (h0,x) d) (hn:d∉ds) (hl:ds.length < 120) (R:cz t h0 slot wd) (pl:Bool) {R':Bool->Shared->Prop}
  (q:∀ h' ds',Heap.SameBut a s.heap h'->ju vp w h' a md ds'->List.Perm ds' (d::ds)->R' true {s with heap:=h'}) :
  wpAny (model P w) A (do
   storeSet a (SetTable.insertAt es (t.put slot).2 (h0,x)) {(t.put slot).1 with plain:=pl}
   if (!wd && ({(t.put slot).1 with plain:=pl}:SetTable).tooFull)=true then do
    setRelay a (SetTable.grown (es.size+1))
    pure true
   else pure true) R' E s:=by
 obtain ⟨ds',p1,H,p3⟩:=qN S hx hn hl R pl
 have hsz:(SetTable.insertAt es (t.put slot).2 (h0,x)).size=es.size+1:=g6
 have hle:=S.ln
 have hes:=S.size
 refine NC (mW S.ob (by rw [hsz];omega) fun h' g1 g2=>?_)
 have H':=H.keep (mV S.ob g2)
 by_cases hf:(!wd && ({(t.put slot).1 with plain:=pl}:SetTable).tooFull)=true
 ·rw [if_pos hf]
  obtain ⟨k1,k2⟩:=wO (n:=es.size+1) (by omega)
  refine NC (CP g1 H' k1 (by rw [hsz];exact k2) fun h2 ds2 es2 ep2 t2 f1 f2 f3 _=>ND ?_)
  exact q h2 ds2 (g2.trans f1) ⟨_,_,_,f2⟩ (f3.trans p1)
 ·rw [if_neg hf]
  exact ND (q h' ds' g2 ⟨_,_,_,H'.at (H'.tb.tab (p3 (by simpa using hf))) g1⟩ p1)
theorem A1 {es:Array (Int×Value)} {t:SetTable} (T:Tab es t) (h0:Int):∃ slot wd,t.freeSlot h0=some (slot,wd)/\cz t h0 slot wd:=by
 obtain ⟨N,n1,n2,n3⟩:=T.free h0
 have hg:=pj (hashAt:=fun _=>h0+1) n2 n3 (10 * SetTable.turns t.mask) 0 (t.probeStart h0) (by omega) (by unfold SetTable.turns;omega) rfl (.inl rfl)
 rcases hg with ⟨dm,e1,e2,_⟩ | ⟨k,i,q,_,_,_,_,e5,_⟩
 ·have hp:t.probe (fun _=>h0+1) h0 (t.probeStart h0)=some (.empty (sq t.mask h0 N) dm):=e1
  unfold SetTable.freeSlot
  rw [hp]
  rcases e2 with rfl | ⟨m,m1,rfl,m3⟩
  ·exact ⟨_,_,rfl,by simpa using n2,N,rfl,n3⟩
  ·exact ⟨_,_,rfl,by simpa using m3,m,rfl,fun m' hm'=>n3 m' (by omega)⟩
 ·omega
theorem wQ {md:Bool} {h:Heap} {ds:List PyData} {es:Array (Int×Value)} {t:SetTable} (S:nU vp w h md ds es t) {wanted:Nat} (hw:wanted < 1024) (hn:es.size * 5 < wanted * 3\/es.size<=4) :
  ∃ es' t' ds',relayAll t es wanted=(es',t',false)/\List.Perm ds' ds/\nU vp w h md ds' es' t'/\Tab es' t'/\es'.size=es.size:=by
 obtain ⟨t',order,ds',e1,e2,e3,e4,e5,_⟩:=oN S hw hn
 have hse:(order.filterMap (es[·]?)).size=es.size:=by rw [e3.size,S.size,e2.length_eq]
 refine ⟨_,_,ds',?_,e2,e3,e4,hse⟩
 unfold relayAll
 rw [e1]
 dsimp only
 rw [if_pos]
 simp only [coversAll,NG]
 exact ⟨List.isPerm_iff.mpr e5,e4.fits⟩
theorem Il {md:Bool} {a:Addr} {ds:List PyData} {x:Value} {h0:Int} {d:PyData} {Q:Bool->Shared->Prop} (S:ju vp w s.heap a md ds) (hx:El vp w s.heap md (h0,x) d) (hu:A.units+20 < cLine) (hl:ds.length < 120)
  (q1:d∈ds->Q false s) (q2:d∉ds->∀ h' ds',Heap.SameBut a s.heap h'->ju vp w h' a md ds'->List.Perm ds' (d::ds)->Q true {s with heap:=h'}) :
  wpAny (model P w) A (setAddHashed a x h0) Q E s:=by
 obtain ⟨es,ep,t,S⟩:=S
 unfold setAddHashed setAddHashedIn
 refine Ow (NC (eL S.ob S.tb.fits ?_))
 dsimp only
 cases md with
 | true=>
  obtain ⟨b,hb⟩:=hx.refs
  dsimp only at hb
  subst hb
  rw [Ik]
  simp only [NP,Ou]
  obtain ⟨N,n1,n2,n3⟩:=S.tb.free h0
  have hle:=S.tb.le
  unfold setSearch
  refine NC (wL (N:=N) (adding:=true) S hx hu n2 n3 (by unfold SetTable.turns;omega) (fun hn slot wd R=>?_) (fun hm i hi=>?_) 100000 0 none (by omega) (by omega) rfl (.inl rfl) fun m hm=>by omega)
  ·dsimp only
   refine NC (eL S.ob S.tb.fits ?_)
   dsimp only
   have fin:∀ pl,wpAny (model P w) A (do
     storeSet a (SetTable.insertAt es (t.put slot).2 (h0,.ref b)) {(t.put slot).1 with plain:=pl}
     if (!wd && ({(t.put slot).1 with plain:=pl}:SetTable).tooFull)=true then do
      setRelay a (SetTable.grown (es.size+1))
      pure true
     else pure true) Q E s:=fun pl=>CQ S hx hn hl R pl (q2 hn)
   refine Pf (fun _=>NC (MV hx fun bv=>?_)) fun _=>NC (ND (fin (t.put slot).1.plain))
   cases bv with
   | true=>exact fin (t.put slot).1.plain
   | false=>exact fin false
  ·simp only [Ot]
   exact ND (q1 hm)
 | false=>
  obtain ⟨y,u,rfl,e2,e3⟩:=hx.text
  dsimp only at e2 e3
  rw [S.scan e2]
  simp only [Ot]
  unfold setAddByScan
  refine NC ?_
  refine NC (PD ?_)
  have hk:(strKind P w).is y x=true:=by rw [e2];show Value.isStrOf y (.str y u)=true;simp [Value.isStrOf]
  have ti:=CO (P:=P) S.el y
  rw [show h0=(strKind P w).hash y from e3]
  refine NC (wpAny_setScan_of (knd:=strKind P w) hk S.ob rfl S.tb.fits (wM S.el) ?_)
  rw [<- show h0=(strKind P w).hash y from e3]
  cases hr:es.toList.findIdx? (fun e=>(strKind P w).is y e.2) with
  | some j=>
   rw [hr] at ti
   dsimp only at ti ⊢
   exact ND (ND (q1 (Od ti)))
  | none=>
   rw [hr] at ti
   dsimp only at ti ⊢
   obtain ⟨slot,wd,f1,R⟩:=A1 S.tb h0
   obtain ⟨ds1,_,H1,_⟩:=qN S hx ti hl R (t.put slot).1.plain
   have hfit:(t.put slot).1.fits (SetTable.insertAt es (t.put slot).2 (h0,x)).size=true:=H1.tb.fits
   have hlay:layNew t es h0 x=(SetTable.insertAt es (t.put slot).2 (h0,x),(t.put slot).1,wd,false):=by
    unfold layNew
    rw [f1]
    dsimp only
    unfold SetTable.orStandIn
    rw [if_pos hfit,hfit]
    rfl
   rw [hlay]
   dsimp only
   refine NC (ND ?_)
   have hsz:(SetTable.insertAt es (t.put slot).2 (h0,x)).size=es.size+1:=g6
   have hle:=S.ln
   have hes:=S.size
   have fin:∀ pl,wpAny (model P w) A (do
     storeSet a (SetTable.insertAt es (t.put slot).2 (h0,x)) {(t.put slot).1 with plain:=pl}
     if (!wd && ({(t.put slot).1 with plain:=pl}:SetTable).tooFull)=true then do
      (match (relayAll {(t.put slot).1 with plain:=pl} (SetTable.insertAt es (t.put slot).2 (h0,x)) (SetTable.grown (SetTable.insertAt es (t.put slot).2 (h0,x)).size)).2.2 with | true=>rule "set.scan.the-table-gave-way" | false=>pure ())
      storeSet a (relayAll {(t.put slot).1 with plain:=pl} (SetTable.insertAt es (t.put slot).2 (h0,x)) (SetTable.grown (SetTable.insertAt es (t.put slot).2 (h0,x)).size)).1 (relayAll {(t.put slot).1 with plain:=pl} (SetTable.insertAt es (t.put slot).2 (h0,x)) (SetTable.grown (SetTable.insertAt es (t.put slot).2 (h0,x)).size)).2.1
      pure (some true)
     else pure (some true)) (fun r s'=>wpAny (model P w) A (match r with | some added=>pure added | none=>setAddHashedIn a x h0 99999) Q E s') E s:=fun pl=>by
    obtain ⟨ds',p1,H,p3⟩:=qN S hx ti hl R pl
    refine NC (mW S.ob (by rw [hsz];omega) fun h' g1 g2=>?_)
    have H':=H.keep (mV S.ob g2)
    by_cases hf:(!wd && ({(t.put slot).1 with plain:=pl}:SetTable).tooFull)=true
    ·rw [if_pos hf]
     obtain ⟨k1,k2⟩:=wO (n:=es.size+1) (by omega)
     obtain ⟨es2,t2,ds2,m1,m2,m3,m4,m5⟩:=wQ (wanted:=SetTable.grown (SetTable.insertAt es (t.put slot).2 (h0,x)).size) H' (by rw [hsz];exact k1) (by rw [hsz];exact k2)
     rw [m1]
     dsimp only
     refine NC (ND ?_)
     refine NC (mW (s:={s with heap:=h'}) g1 (by rw [m5,hsz];omega) fun h2 g3 g4=>ND (ND ?_))
     exact q2 ti h2 ds2 (g2.trans g4) ⟨_,_,_,(m3.keep (mV g1 g4)).at m4 g3⟩ (m2.trans p1)
    ·rw [if_neg hf]
     exact ND (ND (q2 ti h' ds' g2 ⟨_,_,_,H'.at (H'.tb.tab (p3 (by simpa using hf))) g1⟩ p1))
   refine Pf (fun _=>NC (MV hx fun bv=>?_)) fun _=>NC (ND (fin (t.put slot).1.plain))
   cases bv with
   | true=>exact fin (t.put slot).1.plain
   | false=>exact fin false
end
theorem fc {α:Type} {l:List α} {i:Nat} (h:i < l.length):List.Perm (l[i]::l.eraseIdx i) l:=by
 rw [Q5]
 have e:=PQ i l
 rw [OH h] at e
 conv=>rhs;rw [<- e]
 exact List.perm_middle.symm
theorem zO {α:Type} (next:Nat->Nat):∀ (fuel k:Nat) (left:List α) (out:Array α),fuel=left.length->List.Perm (pickOrder.go next fuel k left out).toList (out.toList++left)
 | 0,k,left,out,h=>by
  have:left=[]:=Qf.mp h.symm
  subst this
  simp [pickOrder.go]
 | fuel+1,k,left,out,h=>by
  have hpos:0 < left.length:=by omega
  have hlt:next k % left.length < left.length:=Rz _ hpos
  simp only [pickOrder.go]
  rw [NR hlt]
  dsimp only
  refine (zO next fuel (k+1) _ _ (by rw [QB hlt];omega)).trans ?_
  rw [Array.toList_push,RK,List.singleton_append]
  refine List.Perm.append_left _ ?_
  exact fc hlt
theorem A3 {α:Type} (next:Nat->Nat) (xs:Array α):List.Perm (pickOrder next xs).toList xs.toList:=by
 unfold pickOrder
 simpa using zO next xs.size 0 xs.toList #[] (by simp)
section
variable {P:Program} {w:World} {A:Around} {E:Value->Shared->Prop} {s:Shared} {vp:Value->Prop}
theorem uU {src:Source} {n:Nat} {Q:Nat->Shared->Prop} (hn:n≠0) (h:∀ i,i < n->Q i {s with drawn:=s.drawn.bump src}):wpAny (model P w) A (choose src n) Q E s:=fun Γ p hΓ=>by
 unfold choose
 rw [Sem.wp_choose]
 exact ⟨hn,h _ (Rz _ (Nat.pos_of_ne_zero hn))⟩
theorem zP {α:Type}:∀ (n:Nat) (xs:List α) (s:Shared) (Q:List α->Shared->Prop),n=xs.length->(∀ L dr,List.Perm L xs->Q L {s with drawn:=dr})->wpAny (model P w) A (drawOrder n xs) Q E s
 | 0,xs,s,Q,h,q=>by
  have:xs=[]:=Qf.mp h.symm
  subst this
  exact ND (q [] s.drawn (.refl _))
 | n+1,[],s,Q,h,q=>by simp at h
 | n+1,x::xs,s,Q,h,q=>by
  unfold drawOrder
  refine NC (uU (by simp) fun i hi=>?_)
  rw [NR hi]
  dsimp only
  refine NC (zP n _ _ _ (by rw [QB hi];omega) fun L dr p=>ND ?_)
  exact q _ dr ((p.cons _).trans (fc hi))
theorem km {Q:Bool->Shared->Prop} (h:Q (cK w) s):wpAny (model P w) A setsByText Q E s:=by
 unfold setsByText
 exact NC (Rt (ND h))
end
section
variable {P:Program} {w:World} {A:Around} {E:Value->Shared->Prop} {s:Shared} {vp:Value->Prop}
theorem fw.keep {h h':Heap} {a:Addr} {md:Bool} {ds:List PyData} {es:Array (Int×Value)} {ep:Nat} {t:SetTable} (S:fw vp w h a md ds es ep t) (k:∀ b o,h.get? b=some o->h'.get? b=some o):fw vp w h' a md ds es ep t:=
 ⟨k _ _ S.ob,S.tb,S.ld,S.nd,S.ln,Paired.rJ S.el fun _ _ x=>El.keep x fun b o _ _ e _ _=>k b o e⟩
end
section
variable {P:Program} {w:World} {A:Around} {E:Value->Shared->Prop} {s:Shared} {vp:Value->Prop}
theorem CT {h:Heap} {a:Addr} {led:Bool} {md:Bool} (ho:h.get? a=some (bL #[] 0 (.fresh 0 0 led))) (hl:led=true\/cK w=true):ju vp w h a md []:=
 ⟨#[],0,_,ho,⟨List.Pairwise.nil,List.Pairwise.nil,rfl,(by decide:(0:Nat) * 5 < 7 * 3),fun j hj=>by simp [SetTable.fresh] at hj,fun j hj=>by simp [SetTable.fresh] at hj,fun j hj=>by simp [SetTable.fresh] at hj,Gh.1,fun i e j h1=>by simp at h1⟩,hl,List.nodup_nil,by simp,.nil⟩
end
theorem sub_tuple_set:isSubtype (.type "tuple") (.type "set")=pure false:=by rw [RH];kernel_rfl
theorem sub_tuple_frozenset:isSubtype (.type "tuple") (.type "frozenset")=pure false:=by rw [RH];kernel_rfl
def Im (md:Bool) (d:PyData):Prop:=av d=true/\d.depth<=8/\cD d=true/\fx d=md
section
variable {P:Program} {w:World} {A:Around} {E:Value->Shared->Prop} {s:Shared} {vp:Value->Prop}
theorem CU {R:Result->Shared->Prop} {I:Addr} {fp wr:List Addr} {n:Nat} {Pv:Nat->Value->Prop} {St:Nat->Heap->Prop} {md:Bool} {ys:List PyData} {h0:Heap} (W:Walks P w A.in1 I fp wr n Pv St) (S:Addr) (hSf:S∉fp) (hn:n=ys.length) (hl:n<=120) (hu:A.in1.units+20 < cLine)
  (hv:∀ i v,Pv i v->∃ y,ys[i]?=some y/\Im md y/\vp v/\∃ as,Reads h0 v y as) (hw:∀ b o,h0.get? b=some o->b∉wr) (hS0:h0.get? S=none) (hit:∀ i h,St i h->∀ b∈wr,∀ o,h.get? b=some o->o.cls≠.type "tuple") :
  ∀ (k i:Nat) (s:Shared) (ds:List PyData),n - i=k->i<=n->St i s.heap->ju vp w s.heap S md ds->(∀ d,d∈ds<->d∈ys.take i)->ds.length<=i->(∀ b o,h0.get? b=some o->s.heap.get? b=some o) ->
   (∀ h' tk ds',ju vp w h' S md ds'->(∀ d,d∈ds'<->d∈ys)->(∀ b o,h0.get? b=some o->h'.get? b=some o)->R (.ok (.ret .none)) {s with heap:=h',toks:=tk}) ->
   codeAny (model P w) A (.builtin "set.update.loop" ⟨[.ref S,.ref I],[]⟩) R s:=by
 have hSw:S∉wr:=fun h=>hSf (W.sub _ h)
 intro k
 induction k with
 | zero=>
  intro i s ds hk hi hst hS hm hd h0k hR
  have hin:i=n:=by omega
  subst hin
  refine Qr QE ?_
  rw [PZ OS _]
  show wpAny _ A.in1 (pyNext (.ref I) >>= _) _ _ s
  refine NC (W.done s _ _ hst fun h' tk kp=>?_)
  show wpAny _ A.in1 (ret Value.none) _ _ _
  obtain ⟨es,ep,t,S'⟩:=hS
  have kt:∀ b o vs n,s.heap.get? b=some o->o.cls=.type "tuple" -> o.data=.seq vs n->h'.get? b=some o:=fun b o vs n e c _=>kp b o (fun z=>hit _ _ hst b z o e c) e
  exact ND (hR h' tk ds ⟨es,ep,t,kp _ _ hSw S'.ob,S'.tb,S'.ld,S'.nd,S'.ln,Paired.rJ S'.el fun _ _ x=>El.keep x kt⟩ (fun d=>by rw [hm,hn,List.take_length]) fun b o e=>kp b o (hw b o e) (h0k b o e))
 | succ k ih=>
  intro i s ds hk hi hst hS hm hd h0k hR
  have hlt:i < n:=by omega
  refine Qr QE ?_
  rw [PZ OS _]
  show wpAny _ A.in1 (pyNext (.ref I) >>= _) _ _ s
  refine NC (W.item i s _ _ hlt hst fun v h1 tk1 hP hst' kp=>?_)
  obtain ⟨y,hy,⟨y1,y2,y3,y4⟩,vy,as,ry⟩:=hv i v hP
  obtain ⟨es,ep,t,S'⟩:=hS
  have kt:∀ b o vs n,s.heap.get? b=some o->o.cls=.type "tuple" -> o.data=.seq vs n->h1.get? b=some o:=fun b o vs n e c _=>kp b o (fun z=>hit _ _ hst b z o e c) e
  have h0k1:∀ b o,h0.get? b=some o->h1.get? b=some o:=fun b o e=>kp b o (hw b o e) (h0k b o e)
  have S1:ju vp w h1 S md ds:=⟨es,ep,t,kp _ _ hSw S'.ob,S'.tb,S'.ld,S'.nd,S'.ln,Paired.rJ S'.el fun _ _ x=>El.keep x kt⟩
  have r1:Reads h1 v y as:=iE (fun b o vs n e _ _=>h0k1 b o e) y1 ry
  have ey:El vp w h1 md (ou w y,v) y:=⟨y1,y2,y3,rfl,y4,⟨as,r1⟩,vy⟩
  show wpAny _ A.in1 (holding [v] (setAdd S v) >>= _) _ _ _
  refine NC (Ow ?_)
  unfold setAdd
  refine Ow ?_
  refine NC (lC y A.in1 {s with heap:=h1,toks:=tk1} v as _ _ y1 r1 (by omega) ?_)
  have htk:ys.take (i+1)=ys.take i++[y]:=by rw [List.take_add_one,hy];rfl
  refine Il (s:={s with heap:=h1,toks:=tk1+lB y}) S1 ey hu (by omega) (fun hmem=>?_) fun hnm h2 ds2 sb S2 p2=>?_
  ·refine ND ⟨Ry OS _,ih (i+1) _ ds (by omega) hlt hst' S1 (fun d=>?_) (by omega) h0k1 fun h' tk ds' a b c=>hR h' tk ds' a b c⟩
   rw [htk,NX,<- hm]
   constructor
   ·exact .inl
   ·rintro (z | z)
    ·exact z
    ·rw [N8.mp z];exact hmem
  ·obtain ⟨es1,ep1,t1,S1'⟩:=S1
   refine ND ⟨Ry OS _,ih (i+1) {s with heap:=h2,toks:=tk1+lB y} ds2 (by omega) hlt (W.frame _ _ _ hst' fun b hb o e=>(sb.2 b fun z=>hSf (z▸hb)).trans e) S2 (fun d=>?_) (by rw [p2.length_eq];simp;omega) (fun b o e=>(sb.2 b fun z=>?_).trans (h0k1 b o e)) fun h' tk ds' a b c=>hR h' tk ds' a b c⟩
   ·rw [p2.mem_iff,htk,NX,<- hm,NJ,N8]
    exact Or.comm
   ·rw [z,hS0] at e
    cases e
theorem qO (a:Value) {Q₁:Value->Shared->Prop} (h:Q₁ (.ref s.heap.objs.size) {s with heap:=s.heap.push (bL #[] 0 (.fresh 0 0 (!cK w)))}) :
  codeAny (model P w) A (.call (.builtin "set.__new__") ⟨[.type "set",a],[]⟩) (wants Q₁ E) s:=by
 refine codeAny_of_tree ?_
 show wpAny _ A.in1 (do checkBuiltinCall "set.__new__" ⟨[.type "set",a],[]⟩;again (.builtin "set.__new__" ⟨[.type "set",a],[]⟩)) _ _ s
 refine NC (Qd (F.newCall_set_1 a) (ND ⟨Ry F.plain_set_new _,Qr F.entry_set_new ?_⟩))
 rw [PZ F.plain_set_new _]
 unfold Builtin.«set.__new__» Builtin.Frozenset.newClass
 have hsub:=sub_set_self
 obtain ⟨hp,g,d,tk,os⟩:=s
 dsimp only
 wp_walk
 refine Rt (ND ?_)
 dsimp only
 simp only [newObj]
 refine NC (wpAny_alloc (ND ?_))
 exact ND h
structure Src (P:Program) (w:World) (T:String) (l:Addr) (items:Array Value) (OK:Heap->Prop):Prop where
 ob:∀ h,OK h->∃ od n sl,h.get? l=some {cls:=.type T,dict:=od,data:=.seq items n,slots:=sl}
 kp:∀ h h',OK h->(∀ o,h.get? l=some o->h'.get? l=some o)->OK h'
 s1:isSubtype (.type T) (.type "set")=pure false
 s2:isSubtype (.type T) (.type "frozenset")=pure false
 nd:(Value.type T == Value.type "dict")=false
 it:∀ (A:Around) (E:Value->Shared->Prop) (s:Shared),A.handled=none->OK s.heap->∃ (oI:Obj) (St:Nat->Heap->Prop),oI.cls≠.type "tuple" /\
  (∀ Q:Value->Shared->Prop,Q (.ref s.heap.objs.size) {s with heap:=s.heap.push oI}->wpAny (model P w) A (pyIter (.ref l)) Q E s) /\
  (∀ A':Around,A'.handled=none->Walks P w A' s.heap.objs.size [s.heap.objs.size,l] [s.heap.objs.size] items.size (fun i v=>items[i]?=some v) St)/\St 0 (s.heap.push oI)/\(∀ i h,St i h->∀ o,h.get? s.heap.objs.size=some o->o.cls≠.type "tuple")
theorem src_list (l:Addr) (items:Array Value):Src P w "list" l items (fun h=>h.IsList l items) where
 ob:=fun h ⟨⟨c,d,da,sl⟩,ho,hc,n,hd⟩=>⟨d,n,sl,by cases hc;cases hd;exact ho⟩
 kp:=fun h h' x k=>x.at k
 s1:=F.sub_list_set
 s2:=F.sub_list_frozenset
 nd:=by decide
 it:=fun A E s hh hl=>by
  have hlS:l < s.heap.objs.size:=by obtain ⟨_,e,_⟩:=hl;exact NK e
  exact ⟨{cls:=.type "list_iterator",data:=.fields #[.ref l,.int 0 0]},_,fun z=>absurd (Q8 z) (by decide),fun Q q=>wpAny_pyIter_list hl q,fun A' h'=>Walks.list h' _ l (N0 hlS) items,⟨⟨_,NL _ rfl,rfl,rfl⟩,hl.push _⟩,fun i h ⟨⟨o',e,c,_⟩,_⟩ o eo=>by
   rw [e] at eo
   cases eo
   rw [c]
   exact fun z=>absurd (Q8 z) (by decide)⟩
theorem src_tuple (l:Addr) (items:Array Value):Src P w "tuple" l items (fun h=>h.IsTuple l items) where
 ob:=fun h ⟨⟨c,d,da,sl⟩,ho,hc,n,hd⟩=>⟨d,n,sl,by cases hc;cases hd;exact ho⟩
 kp:=fun h h' ⟨o,e,r⟩ k=>⟨o,k _ e,r⟩
 s1:=sub_tuple_set
 s2:=sub_tuple_frozenset
 nd:=by decide
 it:=fun A E s hh hl=>by
  have hlS:l < s.heap.objs.size:=by obtain ⟨_,e,_⟩:=hl;exact NK e
  exact ⟨{cls:=.type "tuple_iterator",data:=.fields #[.ref l,.int 0 0]},_,fun z=>absurd (Q8 z) (by decide),fun Q q=>QR hl q,fun A' h'=>Walks.tuple h' _ l (N0 hlS) items,⟨⟨_,NL _ rfl,rfl,rfl⟩,hl.push _⟩,fun i h ⟨⟨o',e,c,_⟩,_⟩ o eo=>by
   rw [e] at eo
   cases eo
   rw [c]
   exact fun z=>absurd (Q8 z) (by decide)⟩
end
section
variable {P:Program} {w:World} {A:Around} {E:Value->Shared->Prop} {s:Shared} {vp:Value->Prop}
theorem readsAll_get {h:Heap}:∀ {vs:List Value} {ds:List PyData} {as:List Addr},ReadsAll h vs ds as->∀ {i:Nat} {v:Value},vs[i]?=some v->∃ d bs,ds[i]?=some d/\Reads h v d bs
 | _,_,_,.nil,i,v,e=>by simp at e
 | _,_,_,.cons r _,0,v,e=>by simp at e;subst e;exact ⟨_,_,rfl,r⟩
 | _,_,_,.cons _ t,i+1,v,e=>by simpa using readsAll_get t (i:=i) (by simpa using e)
set_option maxHeartbeats 3200000 in
theorem CV {T:String} {l:Addr} {items:Array Value} {OK:Heap->Prop} {md:Bool} {ys:List PyData} {as:List Addr} {Q:Value->Shared->Prop} (K:Src P w T l items OK) (hh:A.handled=none) (hl:OK s.heap) (hr:ReadsAll s.heap items.toList ys as) (he:∀ y∈ys,Im md y) (hvp:∀ v∈items.toList,vp v) (hn:ys.length<=120) (hu:A.units+25 < cLine)
  (h:∀ h' tk ds,ju vp w h' s.heap.objs.size md ds->(∀ d,d∈ds<->d∈ys)->(∀ b o,s.heap.get? b=some o->h'.get? b=some o)->Q (.ref s.heap.objs.size) {s with heap:=h',toks:=tk}) :
  wpAny (model P w) A (call (.type "set") [.ref l]) Q E s:=by
 have hr0:=hr
 have hlen:items.size=ys.length:=by
  have:=readsAll_len hr
  simpa using this
 obtain ⟨c,tl,hmro⟩:=Qs.mro
 have hmade:=Qs.made
 have hsub:=Qs.sub
 refine wpAny_call (codeAny_of_tree ?_)
 show wpAny _ _ (callAny (.type "set") _) _ _ _
 refine ND ⟨Code.quiet_builtin _ (by decide +kernel),Qr F.entry_type_call ?_⟩
 rw [Around.under_plain (weight_type_call_type "set" [.ref l] []) rfl]
 have h1:=Qs.notType
 have h2:=Qs.canCreate
 have hct:=F.typeCall_set_1 (.ref l)
 repeat (any_goals (first | assumption | wp_step))
 refine Ra (qO (.ref l) (E:=E) (Q₁:=fun obj s₁=>obj=.ref s.heap.objs.size/\s₁={s with heap:=s.heap.push (bL #[] 0 (.fresh 0 0 (!cK w)))}) ⟨rfl,rfl⟩) fun r s₁ hr=>?_
 cases r with
 | error e=>exact hr
 | ok fl=>
  cases fl with
  | ret obj=>
   obtain ⟨rfl,rfl⟩:=hr
   have hS:(s.heap.push (bL #[] 0 (.fresh 0 0 (!cK w)))).get? s.heap.objs.size=some (bL #[] 0 (.fresh 0 0 (!cK w))):=NL _ rfl
   have hT:Shared.TypeIs {s with heap:=s.heap.push (bL #[] 0 (.fresh 0 0 (!cK w)))} (.ref s.heap.objs.size) "set" := ⟨_,hS,rfl⟩
   have hli:=Qs.init.lookup
   have hbi:=Qs.init.bind (.ref s.heap.objs.size)
   repeat (any_goals (first | assumption | wp_step))
   refine Ra (codeAny_call_builtin (R:=wants (fun r s₂=>r=.none/\∃ h' tk ds,s₂={s with heap:=h',toks:=tk}/\ju vp w h' s.heap.objs.size md ds/\(∀ d,d∈ds<->d∈ys)/\(∀ b o,s.heap.get? b=some o->h'.get? b=some o)) E) Qs.init.plain F.entry_set_init (check_set_init_1 hT ?_)) fun r₂ s₂ hr₂=>?_
   ·obtain ⟨odict,nl,oslots,hol⟩:=K.ob _ hl
    have hol':(s.heap.push (bL #[] 0 (.fresh 0 0 (!cK w)))).get? l=some {cls:=.type T,dict:=odict,data:=.seq items nl,slots:=oslots}:=NF _ hol
    have hsls:=K.s1
    have hslf:=K.s2
    have hne:=K.nd
    have hl1:OK (s.heap.push (bL #[] 0 (.fresh 0 0 (!cK w)))):=K.kp _ _ hl fun o e=>NF _ e
    have hh3:A.in1.in1.in1.handled=none:=by simp [hh]
    obtain ⟨oI,St,i1,i2,i3,i4,i5⟩:=K.it A.in1.in1 (fun e s'=>wants (fun r s₂=>r=.none/\∃ h' tk ds,s₂={s with heap:=h',toks:=tk}/\ju vp w h' s.heap.objs.size md ds/\(∀ d,d∈ds<->d∈ys)/\(∀ b o,s.heap.get? b=some o->h'.get? b=some o)) E (.error e) s') {s with heap:=s.heap.push (bL #[] 0 (.fresh 0 0 (!cK w)))} (by simp [hh]) hl1
    unfold Builtin.«set.__init__» noKeywords Builtin.Frozenset.updateFrom
    generalize hPI:pyIter=PI
    wp_walk
    subst hPI
    refine i2 _ ?_
    refine NC (wpAny_runValue ?_)
    have hlS:l < s.heap.objs.size:=NK hol
    have hsz:(s.heap.push (bL #[] 0 (.fresh 0 0 (!cK w)))).objs.size=s.heap.objs.size+1:=Oi _ _
    have hSf:s.heap.objs.size∉[(s.heap.push (bL #[] 0 (.fresh 0 0 (!cK w)))).objs.size,l]:=by
     rw [hsz];simp only [NJ,N8,N9,OW,not_or]
     exact ⟨N0 (PF _),Qn hlS⟩
    have hS0:s.heap.get? s.heap.objs.size=none:=by
     cases e:s.heap.get? s.heap.objs.size with
     | none=>rfl
     | some o=>exact absurd (NK e) (N5 _)
    refine CU (vp:=vp) (A:=A.in1.in1) (h0:=s.heap) (ys:=ys) (md:=md) (i3 A.in1.in1.in1 hh3) s.heap.objs.size hSf hlen (by omega) (by show A.units+1+1+1+20 < cLine;omega) (fun i v hv=>?_) (fun b o e hb=>?_) hS0 (fun i h st b hb o e=>?_) (items.size - 0) 0 _ [] rfl (O0 _) i4 (CT (NF _ hS) ?_) (fun d=>by simp) (O0 _) (fun b o e=>NF _ (NF _ e)) fun h' tk ds g1 g2 g3=>?_
    ·obtain ⟨d,bs,e1,e2⟩:=readsAll_get hr0 (i:=i) (by rw [Og];exact hv)
     exact ⟨d,e1,he d (Od e1),hvp v (Od (by rw [Og];exact hv)),bs,e2⟩
    ·have:=NK e
     rw [N8.mp hb] at this
     have e2:(s.heap.push (bL #[] 0 (.fresh 0 0 (!cK w)))).objs.size < s.heap.objs.size:=this
     rw [hsz] at e2
     exact absurd e2 (Nat.not_lt.mpr (O9 _))
    ·exact i5 i h st o (by rw [N8.mp hb] at e;exact e)
    ·cases cK w
     ·exact .inl rfl
     ·exact .inr rfl
    ·refine ND ?_
     show wpAny _ _ (ret Value.none) _ _ _
     exact ND ⟨rfl,h',tk,ds,rfl,g1,g2,g3⟩
   ·cases r₂ with
    | error e=>exact hr₂
    | ok fl₂=>
     cases fl₂ with
     | ret r=>
      obtain ⟨rfl,h',tk,ds,rfl,hS',hm',hk'⟩:=hr₂
      repeat (any_goals (first | assumption | wp_step))
      exact h _ _ _ hS' hm' hk'
     | _=>exact hr₂.elim
  | _=>exact hr.elim
end
abbrev hE (v:Value) (i:Nat) (o:Value) (n ep:Nat):Obj:={cls:=.type "set_iterator",dict:=none,data:=.fields #[v,.int i 0,o,.int n 0,.int ep 0],slots:=#[]}
theorem qP:entryFor table "set.__iter__" = some Builtin.«frozenset.__iter__» := entryFor_alias (id' := "frozenset.__iter__") (by kernel_rfl) rfl (by decide +kernel) (by kernel_rfl)
theorem fO:entryFor table "set_iterator.__next__" = some Builtin.«set_iterator.__next__» := entryFor_of_tree (by kernel_rfl)
theorem bM:Slot "set_iterator" "__next__" "set_iterator.__next__" :=
 .of (owner := "set_iterator") (n := "__next__") (by rw [typeLookup_type,builtinLookup_eq_fast];kernel_rfl) (by decide +kernel) (by decide +kernel) (by decide +kernel)
  (by first | exact .inl (by decide +kernel) | exact .inr (by decide +kernel)) (by rw [RH];kernel_rfl)
theorem wR:Manifest.owners.lookup (String.ofList ['r', 'o', 't', 'a', 'r', 'e', 't', 'i', '_', 't', 'e', 's'].reverse)=some Manifest.sig_set_iterator:=by kernel_rfl
theorem gh (a:Value):argsOk "set_iterator.__next__" ⟨[a],[]⟩:=by
 unfold argsOk;rw [signature?_of (id := "set_iterator.__next__") (n:=['_', '_', 't', 'x', 'e', 'n', '_', '_']) (o:=['r', 'o', 't', 'a', 'r', 'e', 't', 'i', '_', 't', 'e', 's']) (by kernel_rfl) wR];kernel_rfl
section
variable {P:Program} {w:World} {A:Around} {E:Value->Shared->Prop} {s:Shared} {vp:Value->Prop}
theorem nV {I:Addr} {v:Value} {i:Nat} {o:Value} {n ep:Nat} {k:Nat} {x:Value} {Q:Unit->Shared->Prop} (hit:s.heap.get? I=some (hE v i o n ep)) (hk:k < 5)
  (q:∀ h',h'.get? I=some {cls:=.type "set_iterator",dict:=none,data:=.fields ((#[v,.int i 0,o,.int n 0,.int ep 0]:Array Value).setIfInBounds k x),slots:=#[]}->Heap.SameBut I s.heap h'->Q () {s with heap:=h'}):wpAny (model P w) A (setField (.ref I) k x) Q E s:=by
 refine Q7 hit rfl (by simpa using hk) (q _ ?_ (Py ..))
 have:=OV (Obj.mapFields (·.setIfInBounds k x)) hit (Rg (Qm rfl _))
 rw [this]
 rfl
theorem fe {I:Addr} {v:Value} {i:Nat} {o:Value} {n ep:Nat} (hit:s.heap.get? I=some (hE v i o n ep)):s.TypeIs (.ref I) "set_iterator" := ⟨_,hit,rfl⟩
theorem zQ {I:Addr} {h0:Heap} {B:Builtin->Prop} {Q:Option Value->Shared->Prop} (hh:A.handled=none) (hQ:∀ h',Heap.ExtBut I h0 h'->Q none {s with heap:=h'}) (he:Heap.ExtBut I h0 s.heap) :
  wpAny (model P w) A.in1 (newExc (.type "StopIteration") [] >>= fun e=>(raiseNew e:Sem PySem.Fin)) (fun fin s'=>∃ r,fin=.done (.ret r)/\wpAny (model P w) A (pure (some r)) Q E s') (fun e s'=>wpAny (model P w) A (do if <- isInstance e (.type "StopIteration") then pure none else throw e) Q E s') s:=by
 refine NC ?_
 simp only [newExc,newTuple]
 refine NC (Om ?_ (by size_fits))
 refine NC (m:=firstArgMember _ _) (Qd (a:=Value.none) (by first | rfl | (simp only [firstArgMember];rfl)) ?_)
 refine Om ?_ (by size_fits)
 simp only [raiseNew]
 refine NC (wpAny_handled ?_)
 rw [show A.in1.handled=none from hh]
 refine NC (ND (wpAny_throw ?_))
 refine NC (QH (T := "StopIteration") (b:=true) ⟨_,NL _ rfl,rfl⟩ isSubtype_stop ?_)
 exact ND (hQ _ ((he.push _).push _))
end
section
variable {P:Program} {w:World} {A:Around} {E:Value->Shared->Prop} {s:Shared} {vp:Value->Prop}
variable {I a T:Addr} {i n ep sl:Nat} {es:Array (Int×Value)} {t:SetTable}
theorem pq {v:Value} {Q:PySem.Fin->Shared->Prop} {E':Value->Shared->Prop} (hit:s.heap.get? I=some (hE v i (.ref a) n ep)) (ob:s.heap.get? a=some (bL es ep t)) (ft:t.fits es.size=true) (hn:es.size=n)
  (q:wpAny (model P w) A (match v with
   | .int slot _=>do
    match <- setNext a slot.toNat i ep with
    | some (x,next)=>
     setField (.ref I) 0 (rawInt next)
     setField (.ref I) 1 (rawInt ((i:Int)+1))
     ret x
    | none=>setField (.ref I) 2 .none;raiseNew (<- newExc (.type "StopIteration") [])
   | first=>do
    let some places <- seqItems? first | unsupported "internal:set_iterator"
    match places[i]? with
    | some (.int place _)=>
     let x <- setNextDrawn a place.toNat ep
     setField (.ref I) 1 (rawInt ((i:Int)+1))
     ret x
    | some _=>unsupported "internal:set_iterator"
    | none=>setField (.ref I) 0 (rawInt 0);setField (.ref I) 2 .none;raiseNew (<- newExc (.type "StopIteration") [])) Q E' s) :
  wpAny (model P w) A (Builtin.«set_iterator.__next__» ⟨[.ref I],[]⟩) Q E' s:=by
 unfold Builtin.«set_iterator.__next__»
 refine NC (Qd (a:=(Value.ref I,[])) rfl ?_)
 dsimp only
 refine NC (wpAny_fieldsOf hit rfl ?_)
 dsimp only
 refine NC (wpAny_setEntries_of ob rfl ft ?_)
 rw [if_neg (by simp [hn])]
 simp only [OG]
 cases v<;>exact q
theorem wU {x:Value} {nx:Nat} {Q:Option Value->Shared->Prop} (hit:s.heap.get? I=some (hE (.int sl 0) i (.ref a) n ep)) (ob:s.heap.get? a=some (bL es ep t)) (ft:t.fits es.size=true) (hn:es.size=n)
  (hs:∀ (A':Around) (Q':Option (Value×Nat)->Shared->Prop) (E':Value->Shared->Prop),Q' (some (x,nx)) s->wpAny (model P w) A' (setNext a sl i ep) Q' E' s)
  (q:∀ h',h'.get? I=some (hE (.int nx 0) (i+1) (.ref a) n ep)->Heap.SameBut I s.heap h'->Q (some x) {s with heap:=h'}):wpAny (model P w) A (pyNext (.ref I)) Q E s:=by
 unfold pyNext
 refine NC (Qe (Oj (name:=Str.ofString "__next__") (fe hit) bM (Of bM (fe hit) fO ?_ (gh _))))
 refine pq hit ob ft hn ?_
 dsimp only
 simp only [OG]
 refine NC (hs _ _ _ ?_)
 dsimp only
 refine NC (nV hit (by omega) fun h1 g1 b1=>?_)
 have g1':h1.get? I=some (hE (.int nx 0) i (.ref a) n ep):=g1
 refine NC (nV (s:={s with heap:=h1}) g1' (by omega) fun h2 g2 b2=>?_)
 exact ND ⟨_,rfl,ND (q h2 g2 (b1.trans b2))⟩
theorem zR {Q:Option Value->Shared->Prop} (hh:A.handled=none) (hit:s.heap.get? I=some (hE (.int sl 0) i (.ref a) n ep)) (ob:s.heap.get? a=some (bL es ep t)) (ft:t.fits es.size=true) (hn:es.size=n)
  (hs:∀ (A':Around) (Q':Option (Value×Nat)->Shared->Prop) (E':Value->Shared->Prop),Q' none s->wpAny (model P w) A' (setNext a sl i ep) Q' E' s)
  (q:∀ h',Heap.ExtBut I s.heap h'->Q none {s with heap:=h'}):wpAny (model P w) A (pyNext (.ref I)) Q E s:=by
 unfold pyNext
 refine NC (Qe (Oj (name:=Str.ofString "__next__") (fe hit) bM (Of bM (fe hit) fO ?_ (gh _))))
 refine pq hit ob ft hn ?_
 dsimp only
 simp only [OG]
 refine NC (hs _ _ _ ?_)
 dsimp only
 refine NC (nV hit (by omega) fun h1 g1 b1=>?_)
 exact zQ (s:={s with heap:=h1}) (h0:=s.heap) (B:=fun _=>True) hh q b1.extBut
theorem CW {pl:Array Value} {place:Nat} {x:Int×Value} {Q:Option Value->Shared->Prop} (hit:s.heap.get? I=some (hE (.ref T) i (.ref a) n ep)) (ob:s.heap.get? a=some (bL es ep t)) (ft:t.fits es.size=true) (hn:es.size=n) (hT:s.heap.IsTuple T pl) (hp:pl[i]?=some (rawInt place)) (hx:es[place]?=some x)
  (q:∀ h',h'.get? I=some (hE (.ref T) (i+1) (.ref a) n ep)->Heap.SameBut I s.heap h'->Q (some x.2) {s with heap:=h'}):wpAny (model P w) A (pyNext (.ref I)) Q E s:=by
 unfold pyNext
 refine NC (Qe (Oj (name:=Str.ofString "__next__") (fe hit) bM (Of bM (fe hit) fO ?_ (gh _))))
 refine pq hit ob ft hn ?_
 dsimp only
 obtain ⟨oT,gT,cT,nT,dT⟩:=hT
 refine NC (OL gT dT ?_)
 dsimp only
 rw [hp]
 show wpAny _ _ (setNextDrawn a (Int.toNat (place:Nat)) ep >>= _) _ _ _
 rw [OG]
 unfold setNextDrawn
 refine NC (NC (eL ob ft ?_))
 dsimp only
 rw [if_neg (by simp),hx]
 refine ND ?_
 refine NC (nV hit (by omega) fun h1 g1 b1=>?_)
 exact ND ⟨_,rfl,ND (q h1 g1 b1)⟩
theorem Fc {pl:Array Value} {Q:Option Value->Shared->Prop} (hh:A.handled=none) (hit:s.heap.get? I=some (hE (.ref T) i (.ref a) n ep)) (ob:s.heap.get? a=some (bL es ep t)) (ft:t.fits es.size=true) (hn:es.size=n) (hT:s.heap.IsTuple T pl) (hp:pl[i]?=none)
  (q:∀ h',Heap.ExtBut I s.heap h'->Q none {s with heap:=h'}):wpAny (model P w) A (pyNext (.ref I)) Q E s:=by
 unfold pyNext
 refine NC (Qe (Oj (name:=Str.ofString "__next__") (fe hit) bM (Of bM (fe hit) fO ?_ (gh _))))
 refine pq hit ob ft hn ?_
 dsimp only
 obtain ⟨oT,gT,cT,nT,dT⟩:=hT
 refine NC (OL gT dT ?_)
 dsimp only
 rw [hp]
 dsimp only
 refine NC (nV hit (by omega) fun h1 g1 b1=>?_)
 have g1':h1.get? I=some (hE (rawInt 0) i (.ref a) n ep):=g1
 refine NC (nV (s:={s with heap:=h1}) g1' (by omega) fun h2 g2 b2=>?_)
 exact zQ (s:={s with heap:=h2}) (h0:=s.heap) (B:=fun _=>True) hh q (b1.trans b2).extBut
theorem tQ {L:Array (Int×Value)} {Q:Option (Value×Nat)->Shared->Prop} (ob:s.heap.get? a=some (bL es ep t)) (ft:t.fits es.size=true) (hb:cK w=true) (hL:L=pickOrder (w.params.setOrder a ep) es) (h:Q ((L[i]?).map fun e=>(e.2,sl)) s):wpAny (model P w) A (setNext a sl i ep) Q E s:=by
 unfold setNext
 refine NC (eL ob ft ?_)
 dsimp only
 refine NC (km ?_)
 rw [if_pos hb,if_neg (by simp)]
 unfold setWalk
 refine NC (NC (eL ob ft ?_))
 dsimp only
 refine NC (km ?_)
 rw [if_pos hb]
 refine NC (Rt (ND (ND ?_)))
 rw [hL] at h
 exact h
theorem qQ {Q:Option (Value×Nat)->Shared->Prop} (ob:s.heap.get? a=some (bL es ep t)) (ft:t.fits es.size=true) (hb:cK w=false) (hd:(!t.plain && decide (es.size > 1))=false) (hl:t.led=true)
  (h:Q (match es[SetTable.below t.place sl]?,t.place[SetTable.below t.place sl]? with | some (_,x),some j=>some (x,j+1) | _,_=>none) s):wpAny (model P w) A (setNext a sl i ep) Q E s:=by
 unfold setNext
 refine NC (eL ob ft ?_)
 dsimp only
 refine NC (km ?_)
 rw [if_neg (by rw [hb];simp)]
 refine Pf (fun z=>absurd z (by show ¬ (!t.plain && decide (es.size > 1))=true;rw [hd];simp)) fun _=>?_
 refine NC (m:=(if (!t.led && !es.isEmpty)=true then unsupported "set:maker-not-led" else pure ())) ?_
 rw [hl]
 simp only [PN,Q6,NP,Ou]
 exact ND (ND h)
end
theorem dU:Slot "set_iterator" "__iter__" "set_iterator.__iter__" :=
 .of (owner := "set_iterator") (n := "__iter__") (by rw [typeLookup_type,builtinLookup_eq_fast];kernel_rfl) (by decide +kernel) (by decide +kernel) (by decide +kernel)
  (by first | exact .inl (by decide +kernel) | exact .inr (by decide +kernel)) (by rw [RH];kernel_rfl)
theorem ig:entryFor table "set_iterator.__iter__" = some Builtin.«dict_keyiterator.__iter__» := entryFor_alias (id' := "dict_keyiterator.__iter__") (by kernel_rfl) rfl (by decide +kernel) (by kernel_rfl)
theorem jf (a:Value):argsOk "set_iterator.__iter__" ⟨[a],[]⟩:=by
 unfold argsOk;rw [signature?_of (id := "set_iterator.__iter__") (n:=['_', '_', 'r', 'e', 't', 'i', '_', '_']) (o:=['r', 'o', 't', 'a', 'r', 'e', 't', 'i', '_', 't', 'e', 's']) (by kernel_rfl) wR];kernel_rfl
def slotAt (place:Array Nat):Nat->Nat
 | 0=>0
 | i+1=>place.getD i 0+1
theorem qR {xs:Array Nat} (r:mT xs):∀ i,i<=xs.size->SetTable.below xs (slotAt xs i)=i
 | 0,_=>by
  obtain ⟨a,_,c⟩:=gH r (slotAt xs 0)
  apply Oz
  intro z
  have h0:0 < SetTable.below xs (slotAt xs 0):=by omega
  have:=a 0 (by omega) h0
  simp [slotAt] at this
 | i+1,h=>by
  have hi:i < xs.size:=by omega
  have e:slotAt xs (i+1)=xs[i]+1:=by simp [slotAt,Array.getD,hi]
  rw [e]
  obtain ⟨a,b,c⟩:=gH r (xs[i]+1)
  apply Oz
  intro z
  by_cases h1:SetTable.below xs (xs[i]+1)<=i
  ·have:=b i hi h1;omega
  ·have h2:i+1 < SetTable.below xs (xs[i]+1):=by omega
   have h3:i+1 < xs.size:=by omega
   have:=a (i+1) h3 h2
   have:=pf r (i:=i) (k:=i+1) (by omega) h3
   omega
section
variable {P:Program} {w:World} {A:Around} {E:Value->Shared->Prop} {s:Shared} {vp:Value->Prop}
theorem uV {I:Addr} {Q:Value->Shared->Prop} (hT:s.TypeIs (.ref I) "set_iterator") (h:Q (.ref I) s):wpAny (model P w) A (Builtin.«dict_keyiterator.__iter__» ⟨[.ref I],[]⟩) (fun fin s'=>∃ v,fin=.done (.ret v)/\∃ T' r,s'.TypeIs v T'/\typeLookup (.type T') (Str.ofString "__next__")=pure (some r)/\Q v s') E s:=by
 show wpAny _ _ (ret (.ref I)) _ _ s
 exact ND ⟨_,rfl, "set_iterator",_,hT,bM.lookup,h⟩
def Fd (P:Program) (w:World) (s:Shared) (a:Addr) (es:Array (Int×Value)) (Q:Value->Shared->Prop):Prop:=
 ∀ (L:List (Int×Value)) (I:Addr) (h':Heap) (dr:Drawn) (fp:List Addr) (St:Nat->Heap->Prop),List.Perm L es.toList->(∀ b∈fp,b < h'.objs.size)->I∈fp->(∀ b∈fp,b=a\/s.heap.objs.size<=b)->s.heap.objs.size<=I->(∀ b o,s.heap.get? b=some o->h'.get? b=some o) ->
  (∀ A':Around,A'.handled=none->Walks P w A' I fp [I] L.length (fun i v=>∃ e,L[i]?=some e/\v=e.2) St)->St 0 h'->Q (.ref I) {s with heap:=h',drawn:=dr}
theorem CY {md:Bool} {a:Addr} {ds:List PyData} {es:Array (Int×Value)} {ep:Nat} {t:SetTable} {Q:Value->Shared->Prop} (S:fw vp w s.heap a md ds es ep t) (q:Fd P w s a es Q):wpAny (model P w) A (pyIter (.ref a)) Q E s:=by
 have hT:s.TypeIs (.ref a) "set" := ⟨_,S.ob,rfl⟩
 have hes:=S.size
 have hln:=S.ln
 have la:a < s.heap.objs.size:=NK S.ob
 refine Qy hT F.slot_set_iter (Of F.slot_set_iter hT qP ?_ (F.args_set_iter_1 _))
 unfold Builtin.«frozenset.__iter__»
 refine NC (Qd (a:=a) rfl ?_)
 unfold Builtin.Frozenset.sizeOf
 refine NC (NC (wpAny_setEntries_of S.ob rfl S.tb.fits (ND ?_)))
 unfold setDrawn
 refine NC (NC (eL S.ob S.tb.fits ?_))
 dsimp only
 refine NC (km (ND ?_))
 have fits:=S.tb.fits
 by_cases hd:(!cK w && (!t.plain && decide (es.size > 1)))=true
 ·
  refine Pf (fun _=>?_) fun z=>absurd hd z
  refine NC (zP es.size (List.range es.size) s _ (by simp) fun idx dr p=>?_)
  have hil:idx.length=es.size:=by have:=p.length_eq;simpa using this
  refine NC (wpAny_newTuple (hsz:=by rw [NZ,hil,Pk];omega) ?_)
  refine NC (wpAny_setEpoch_of (s:={s with heap:=s.heap.push _,drawn:=dr}) (NF _ S.ob) rfl fits ?_)
  refine NC (Om (ND ⟨_,rfl, "set_iterator",_,⟨_,NL _ rfl,rfl⟩,bM.lookup,?_⟩))
  generalize hob:({cls:=.type "tuple",data:=.seq (idx.map fun (i:Nat)=>rawInt i).toArray}:Obj)=oT
  have hsz:(s.heap.push oT).objs.size=s.heap.objs.size+1:=Oi _ _
  have hin:∀ k∈idx,k < es.size:=fun k hk=>OD.mp (p.mem_iff.mp hk)
  have hget:∀ i k,idx[i]?=some k->∃ e,es[k]?=some e:=fun i k e=>⟨_,N6 (hin k (Od e))⟩
  obtain ⟨g1,g2⟩:=yw (es:=es) (l:=idx.map fun k=>(0,k)) (fun p hp=>by obtain ⟨k,hk,rfl⟩:=Oe.mp hp;exact hin k hk)
  have em:(idx.map fun k=>((0:Nat),k)).map (·.2)=idx:=by rw [Rh];exact List.map_id idx
  rw [em] at g1 g2
  have hLp:List.Perm (idx.filterMap fun k=>es[k]?) es.toList:=(p.filterMap _).trans (by rw [filterMap_getElem?_range])
  have hLn:(idx.filterMap fun k=>es[k]?).length=es.size:=by rw [hLp.length_eq];simp
  refine q (idx.filterMap fun k=>es[k]?) (s.heap.push oT).objs.size _ dr [(s.heap.push oT).objs.size,s.heap.objs.size,a] (fun i h=>h.get? (s.heap.push oT).objs.size=some (hE (.ref s.heap.objs.size) i (.ref a) es.size ep)/\h.IsTuple s.heap.objs.size (idx.map fun (i:Nat)=>rawInt i).toArray/\h.get? a=some (bL es ep t)) hLp (fun b hb=>?_) (NU ..) (fun b hb=>by simp only [NJ,N9,OW] at hb;rcases hb with rfl | rfl | rfl;exact .inr (by rw [hsz];exact O9 _);exact .inr (NI _);exact .inl rfl) (by rw [hsz];exact O9 _) (fun b o e=>NF _ (NF _ e)) (fun A' hh=>?_) ⟨?_,?_,?_⟩
  ·rw [Oi,hsz]
   simp only [NJ,N9,OW] at hb
   rcases hb with rfl | rfl | rfl
   ·rw [hsz];exact PF _
   ·exact NM (PF _) (O9 _)
   ·exact NM la (by omega)
  ·have n1:s.heap.objs.size≠(s.heap.push oT).objs.size:=by rw [hsz];exact N0 (PF _)
   have n2:a≠(s.heap.push oT).objs.size:=by rw [hsz];exact N0 (Pa la)
   refine ⟨fun b hb=>by simp at hb;simp [hb],fun i h h' ⟨x1,⟨o,x2,x3⟩,x4⟩ k=>⟨k _ (by simp) _ x1,⟨o,k _ (by simp) _ x2,x3⟩,k _ (by simp) _ x4⟩,fun i s' Q' E' hi ⟨x1,x2,x3⟩ hQ=>?_,fun s' Q' E' ⟨x1,x2,x3⟩ hQ=>?_,fun i s' Q' E' ⟨x1,_,_⟩ hQ=>?_⟩
   ·rw [hLn] at hi
    have hi2:i < idx.length:=by omega
    have ek:=NR hi2
    obtain ⟨e,he⟩:=hget i _ ek
    refine CW (x:=e) x1 x3 fits rfl x2 (place:=idx[i]) (by simp [ek]) he fun h' y1 sb=>hQ e.2 h' s'.toks ⟨e,?_,rfl⟩ ⟨y1,?_,(sb.2 a n2).trans x3⟩ fun b o hb eo=>(sb.2 b fun z=>hb (by simp [z])).trans eo
    ·rw [g2 i (0,idx[i]) (by simp [ek])]
     exact he
    ·obtain ⟨o,x2,x4⟩:=x2
     exact ⟨o,(sb.2 _ n1).trans x2,x4⟩
   ·rw [hLn] at x1
    refine Fc hh x1 x3 fits rfl x2 (by simp;omega) fun h' eb=>hQ h' s'.toks fun b o hb eo=>eb b o (fun z=>hb (by simp [z])) eo
   ·have hT':s'.TypeIs (.ref (s.heap.push oT).objs.size) "set_iterator" := fe x1
    exact Qy hT' dU (Of dU hT' ig (uV hT' hQ) (jf _))
  ·exact NL _ rfl
  ·subst hob
   exact ⟨_,NF _ (NL _ rfl),rfl,_,rfl⟩
  ·exact NF _ (NF _ S.ob)
 ·refine Pf (fun z=>absurd z hd) fun _=>?_
  refine NC (ND ?_)
  refine NC (wpAny_setEpoch_of S.ob rfl fits ?_)
  refine NC (Om (ND ⟨_,rfl, "set_iterator",_,⟨_,NL _ rfl,rfl⟩,bM.lookup,?_⟩))
  have na:a≠s.heap.objs.size:=N0 la
  by_cases hb:cK w=true
  ·
   have pk:=A3 (w.params.setOrder a ep) es
   have pkn:(pickOrder (w.params.setOrder a ep) es).toList.length=es.size:=by rw [pk.length_eq];simp
   refine q (pickOrder (w.params.setOrder a ep) es).toList s.heap.objs.size _ s.drawn [s.heap.objs.size,a] (fun i h=>h.get? s.heap.objs.size=some (hE (.int ((0:Nat):Int) 0) i (.ref a) es.size ep)/\h.get? a=some (bL es ep t)) pk (fun b hb=>?_) (NU ..) (fun b hb=>by simp only [NJ,N9,OW] at hb;rcases hb with rfl | rfl;exact .inr (NI _);exact .inl rfl) (NI _) (fun b o e=>NF _ e) (fun A' hh=>?_) ⟨NL _ rfl,NF _ S.ob⟩
   ·rw [Oi]
    simp only [NJ,N9,OW] at hb
    rcases hb with rfl | rfl
    ·exact PF _
    ·exact Pa la
   ·refine ⟨fun b hb=>by simp at hb;simp [hb],fun i h h' ⟨x1,x4⟩ k=>⟨k _ (by simp) _ x1,k _ (by simp) _ x4⟩,fun i s' Q' E' hi ⟨x1,x3⟩ hQ=>?_,fun s' Q' E' ⟨x1,x3⟩ hQ=>?_,fun i s' Q' E' ⟨x1,_⟩ hQ=>?_⟩
    ·have ek:=NR hi
     generalize (pickOrder (w.params.setOrder a ep) es).toList[i]=e at ek
     refine wU (x:=e.2) (nx:=0) x1 x3 fits rfl (fun A2 Q2 E2 h2=>tQ x3 fits hb rfl ?_) fun h' y1 sb=>hQ e.2 h' s'.toks ⟨e,ek,rfl⟩ ⟨y1,(sb.2 a na).trans x3⟩ fun b o hb eo=>(sb.2 b fun z=>hb (by simp [z])).trans eo
     rw [<- Og,ek]
     exact h2
    ·refine zR hh x1 x3 fits rfl (fun A2 Q2 E2 h2=>tQ x3 fits hb rfl ?_) fun h' eb=>hQ h' s'.toks fun b o hb eo=>eb b o (fun z=>hb (by simp [z])) eo
     rw [<- Og,Ri (NI _)]
     exact h2
    ·have hT':s'.TypeIs (.ref s.heap.objs.size) "set_iterator" := fe x1
     exact Qy hT' dU (Of dU hT' ig (uV hT' hQ) (jf _))
  ·
   have hb':cK w=false:=by simpa using hb
   have hd':(!t.plain && decide (es.size > 1))=false:=by rw [hb'] at hd;simpa using hd
   have hled:t.led=true:=by
    rcases S.ld with z | z
    ·exact z
    ·exact absurd z hb
   have hps:t.place.size=es.size:=S.tb.sz
   refine q es.toList s.heap.objs.size _ s.drawn [s.heap.objs.size,a] (fun i h=>h.get? s.heap.objs.size=some (hE (.int ((slotAt t.place i:Nat):Int) 0) i (.ref a) es.size ep)/\h.get? a=some (bL es ep t)) (.refl _) (fun b hb=>?_) (NU ..) (fun b hb=>by simp only [NJ,N9,OW] at hb;rcases hb with rfl | rfl;exact .inr (NI _);exact .inl rfl) (NI _) (fun b o e=>NF _ e) (fun A' hh=>?_) ⟨NL _ rfl,NF _ S.ob⟩
   ·rw [Oi]
    simp only [NJ,N9,OW] at hb
    rcases hb with rfl | rfl
    ·exact PF _
    ·exact Pa la
   ·refine ⟨fun b hb=>by simp at hb;simp [hb],fun i h h' ⟨x1,x4⟩ k=>⟨k _ (by simp) _ x1,k _ (by simp) _ x4⟩,fun i s' Q' E' hi ⟨x1,x3⟩ hQ=>?_,fun s' Q' E' ⟨x1,x3⟩ hQ=>?_,fun i s' Q' E' ⟨x1,_⟩ hQ=>?_⟩
    ·have hi':i < es.size:=by simpa using hi
     have ek:=N6 hi'
     have ep':=N6 (show i < t.place.size by omega)
     refine wU (x:=es[i].2) (nx:=slotAt t.place (i+1)) x1 x3 fits rfl (fun A2 Q2 E2 h2=>qQ x3 fits hb' hd' hled ?_) fun h' y1 sb=>hQ es[i].2 h' s'.toks ⟨es[i],by rw [Og];exact ek,rfl⟩ ⟨y1,(sb.2 a na).trans x3⟩ fun b o hb eo=>(sb.2 b fun z=>hb (by simp [z])).trans eo
     rw [qR S.tb.rp i (by omega),ek,ep']
     have:slotAt t.place (i+1)=t.place[i]'(by omega)+1:=by simp [slotAt,Array.getD,show i < t.place.size by omega]
     rw [this] at h2
     exact h2
    ·have hl:es.toList.length=es.size:=by simp
     rw [hl] at x1
     refine zR hh x1 x3 fits rfl (fun A2 Q2 E2 h2=>qQ x3 fits hb' hd' hled ?_) fun h' eb=>hQ h' s'.toks fun b o hb eo=>eb b o (fun z=>hb (by simp [z])) eo
     rw [qR S.tb.rp es.size (by omega),Q0 (NI _)]
     exact h2
    ·have hT':s'.TypeIs (.ref s.heap.objs.size) "set_iterator" := fe x1
     exact Qy hT' dU (Of dU hT' ig (uV hT' hQ) (jf _))
end
section
variable {P:Program} {w:World} {A:Around} {E:Value->Shared->Prop} {s:Shared} {vp:Value->Prop}
theorem CZ {r:Addr} {Q:Bool->Shared->Prop} (hT:s.TypeIs (.ref r) "set") (h:Q false s):wpAny (model P w) A (Builtin.List.listLengthHint (.ref r)) Q E s:=by
 unfold Builtin.List.listLengthHint
 refine NC (Qp hT PySem.F.slot_set_len.lookup ?_)
 generalize hid:("set.__len__" : String)=id0
 wp_delta
 rw [show splitId id0=some ("set", "__len__") from by subst hid;decide +kernel]
 subst hid
 refine NC (QH (T := "set") (b:=true) hT sub_set_self ?_)
 refine Pf (fun hab=>absurd hab (by decide)) (fun _=>?_)
 refine Pf (fun _=>?_) (fun hab=>absurd (by decide +kernel) hab)
 refine NC (Rc hT ?_)
 exact ND h
theorem wV {md:Bool} {a:Addr} {ds:List PyData} {es:Array (Int×Value)} {ep:Nat} {t:SetTable} {Q:List Value->Shared->Prop} (S:fw vp w s.heap a md ds es ep t) (hh:A.handled=none)
  (q:∀ (L:List (Int×Value)) h' dr tk,s.heap.objs.size < h'.objs.size->List.Perm L es.toList->(∀ b o,s.heap.get? b=some o->h'.get? b=some o)->Q (L.map (·.2)) {s with heap:=h',drawn:=dr,toks:=tk}):wpAny (model P w) A (collect (.ref a)) Q E s:=by
 have hes:=S.size
 have hln:=S.ln
 unfold collect
 refine NC (wpAny_runValue (Qr F.entry_proto_collect ?_))
 rw [PZ F.plain_proto_collect _]
 show wpAny _ A.in1 (newList [] >>= fun l=>again (.builtin "list.__iadd__" ⟨[l,.ref a],[]⟩)) _ _ s
 refine NC (Om ?_)
 refine ND ⟨Ry F.plain_list_iadd _,Qr F.entry_list_iadd ?_⟩
 rw [PZ F.plain_list_iadd _]
 have hS₁:(s.heap.push {cls:=.type "list",data:=.seq ([]:List Value).toArray}).get? s.heap.objs.size=some {cls:=.type "list",data:=.seq ([]:List Value).toArray}:=NL _ rfl
 have la:=NK S.ob
 have h1:Builtin.List.listSameRef (.ref s.heap.objs.size) (.ref a)=false:=by simp [Builtin.List.listSameRef,Qn la]
 have S1:fw vp w (s.heap.push {cls:=.type "list",data:=.seq ([]:List Value).toArray}) a md ds es ep t:=S.keep fun b o e=>NF _ e
 show wpAny _ A.in1 (Builtin.List.listExtendWith (.ref s.heap.objs.size) (.ref a) (.ref s.heap.objs.size)) _ _ _
 unfold Builtin.List.listExtendWith
 refine NC (Rc (T := "set") ⟨_,S1.ob,rfl⟩ ?_)
 rw [if_neg (by rw [h1];decide)]
 refine NC (CY (s:={s with heap:=s.heap.push {cls:=.type "list",data:=.seq ([]:List Value).toArray}}) S1 fun L I h' dr fp St p f1 f2 f5 f3 f4 W st=>?_)
 have hS2:=f4 _ _ hS₁
 refine NC (Ow (CZ (s:={s with heap:=h',drawn:=dr}) ⟨_,f4 _ _ S1.ob,rfl⟩ ?_))
 rw [if_pos (by decide)]
 have hLn:L.length=es.size:=by rw [p.length_eq];simp
 have hSf:s.heap.objs.size∉fp:=fun hm=>by
  rcases f5 _ hm with z | z
  ·exact absurd la (by rw [<- z];exact N5 _)
  ·have z':(s.heap.push {cls:=.type "list",data:=.seq ([]:List Value).toArray}).objs.size<=s.heap.objs.size:=z
   rw [Oi] at z'
   exact absurd z' (Nat.not_le.mpr (PF _))
 refine NC (PD ?_)
 refine NC ?_
 show wpAny _ _ (updateSeq s.heap.objs.size (·.push .none) >>= fun _=>updateSeq s.heap.objs.size (·.pop)) _ _ _
 refine NC (wpAny_updateSeq hS2 rfl ?_)
 have hS3:=OV (Obj.mapSeq (·.push Value.none)) hS2 rfl
 refine wpAny_updateSeq (hz:=by seq_fits) hS3 rfl ?_
 have hS4:=OV (Obj.mapSeq (·.pop)) hS3 rfl
 have oth:∀ b o,b≠s.heap.objs.size->h'.get? b=some o->((h'.update s.heap.objs.size (Obj.mapSeq (·.push Value.none))).update s.heap.objs.size (Obj.mapSeq (·.pop))).get? b=some o:=fun b o hb e=>(Qk _ _ (Rk hb)).trans ((Qk _ _ (Rk hb)).trans e)
 have st2:=(W A.in1 hh).frame 0 _ _ st fun b hb o e=>oth b o (fun z=>hSf (z▸hb)) e
 refine ND ⟨Ry F.plain_extend_loop _,codeAny_extend_loopS (W A.in1 hh).toS (by rw [hLn,Pk];omega) _ hSf _ L.length 0 _ _ _ rfl (O0 _) st2 hS4 (ItemsOf.nil _) fun s' acc' c' hm hS' hacc=>?_⟩
 show wpAny _ A (load s.heap.objs.size >>= _) _ _ s'
 refine NC (Q1 hS' ?_)
 refine ND ?_
 have e1:acc'.toList=L.map (·.2):=by
  apply List.ext_getElem?
  intro j
  rw [Og,OM]
  by_cases hj:j < acc'.size
  ·obtain ⟨e,he,hv⟩:=hacc.2 j acc'[j] (N6 hj)
   rw [N6 hj,he,hv]
   rfl
  ·rw [Q0 (by omega),Ri (by rw [<- hacc.1];omega)]
   rfl
 rw [e1]
 obtain ⟨hp2,g2,d2,tk2,os2⟩:=s'
 have eg:g2=s.gens:=hm.gens
 have ed:d2=dr:=hm.drawn
 have eo:os2=s.os:=hm.os
 subst eg;subst ed;subst eo
 refine q L hp2 d2 tk2 (NK hS') p fun b o e=>hm.heap b o (fun z=>?_) (oth b o (N0 (NK e)) (f4 _ _ (NF _ e)))
 have lb:=NK e
 rcases NJ.mp z with z | z
 ·rw [z] at lb;exact N5 _ lb
 ·rw [N8.mp z] at lb
  have f3':(s.heap.push {cls:=.type "list",data:=.seq ([]:List Value).toArray}).objs.size<=I:=f3
  rw [Oi] at f3'
  exact absurd (NM lb (Nat.le_of_succ_le f3')) (N5 _)
end
theorem oO {h:Heap}:∀ {vs:List Value} {ds:List PyData},Paired (fun v d=>∃ as,Reads h v d as) vs ds->∃ as,ReadsAll h vs ds as
 | _,_,.nil=>⟨_,.nil⟩
 | _,_,.cons ⟨_,r⟩ t=>let ⟨_,q⟩:=oO t;⟨_,.cons r q⟩
theorem kY {h:Heap} {vs:List Value} {ds:List PyData} {as:List Addr} (r:ReadsAll h vs ds as):∀ (p:List Nat),(∀ i∈p,i < vs.length)->∃ bs,ReadsAll h (p.map fun i=>vs.getD i .none) (p.map fun i=>ds.getD i .none) bs
 | [],_=>⟨_,.nil⟩
 | i::p,hp=>by
  have hi:=hp i (NU ..)
  obtain ⟨bs,q⟩:=kY r p fun j hj=>hp j (NO _ hj)
  obtain ⟨d,cs,e1,e2⟩:=readsAll_get r (NR hi)
  refine ⟨_,.cons (as:=cs) ?_ q⟩
  have x1:vs.getD i .none=vs[i]:=by simp [hi]
  have x2:ds.getD i .none=d:=by rw [List.getD_eq_getElem?_getD,e1];rfl
  show Reads h (vs.getD i .none) (ds.getD i .none) cs
  rw [x1,x2]
  exact e2
section
variable {P:Program} {w:World} {A:Around} {E:Value->Shared->Prop} {s:Shared} {vp:Value->Prop}
theorem wW {ds es:List PyData} (p:List.Perm ds es) (h:bQ ds=true):bQ es=true:=by
 unfold bQ at h ⊢
 rw [NT] at h ⊢
 intro a ha
 have:=h a (p.mem_iff.mpr ha)
 rw [NT] at this ⊢
 exact fun b hb=>this b (p.mem_iff.mpr hb)
theorem wX {ds es:List PyData} {f:PyData->Bool} (p:List.Perm ds es) (h:ds.all f=true):es.all f=true:=by
 rw [NT] at h ⊢
 exact fun a ha=>h a (p.mem_iff.mpr ha)
theorem ff:∀ {ds:List PyData} {n:Nat},PyData.depthAll ds<=n<->∀ d∈ds,d.depth<=n
 | [],n=>by simp [PyData.depthAll]
 | d::ds,n=>by
  simp only [PyData.depthAll,NJ,forall_eq_or_imp]
  rw [<- ff (ds:=ds)]
  omega
theorem tR {ds:List PyData}:af ds=true<->∀ d∈ds,ag d=true:=⟨fun h d m=>aE h m,fQ⟩
theorem yx {md:Bool} {a:Addr} {ds zs:List PyData} {Q:Value->Shared->Prop} (S:ju vp w s.heap a md ds) (hh:A.handled=none) (pz:List.Perm ds zs) (ok:eY zs=true) (hu:A.units+60 < cLine)
  (q:∀ h' dr tk p us e,s.heap.objs.size<=p->(∀ b o,s.heap.get? b=some o->h'.get? b=some o)->h'.get? p=some (PyProof.Rows.seqObj "list" (us:List Value).toArray e)->(∃ as,ReadsAll h' us (cS ltB zs) as)->(∀ u∈us,vp u)->Q (.ref p) {s with heap:=h',drawn:=dr,toks:=tk}):wpAny (model P w) A (call (.builtin "sorted") [.ref a]) Q E s:=by
 obtain ⟨es,ep,t,S⟩:=S
 simp only [eY,NG,N7,P4] at ok
 obtain ⟨⟨⟨⟨kd,tr⟩,cm⟩,dp⟩,h64⟩:=ok
 refine Calls.call_function_entry PyProof.Rows.kind_sorted PyProof.Rows.plain_sorted PyProof.Rows.entry_sorted (PyProof.Rows.args_sorted1 _) ?_
 unfold Builtin.«sorted»
 refine NC (m:=checkCount "sorted" 1 1 _) (ND ?_)
 refine NC (wV S (by simp [hh]) fun L h1 dr tk sz1 pL k1=>?_)
 obtain ⟨ds1,p1,e1⟩:=oM pL.symm S.el
 have pd:List.Perm ds1 zs:=p1.symm.trans pz
 have hLd:L.length=ds1.length:=Oc e1
 have hdz:ds1.length=zs.length:=pd.length_eq
 generalize hvs:L.map (·.2)=vs
 have hvl:vs.length=zs.length:=by rw [<- hvs,NZ,hLd,hdz]
 obtain ⟨as,ra⟩:∃ as,ReadsAll h1 vs ds1 as:=by
  refine oO ?_
  rw [<- hvs]
  have:∀ {l:List (Int×Value)} {ys:List PyData},Paired (El vp w s.heap md) l ys->Paired (fun v d=>∃ as,Reads h1 v d as) (l.map (·.2)) ys:=by
   intro l ys h
   induction h with
   | nil=>exact .nil
   | cons r _ ih=>exact .cons (let ⟨as,x⟩:=r.rd;⟨as,iE (fun b o _ _ e _ _=>k1 b o e) r.tr x⟩) ih
  exact this e1
 refine NC (wpAny_newList (hsz:=by rw [hvl,Pk];omega) ?_)
 have hoL:(h1.push (PyProof.Rows.seqObj "list" vs.toArray 0)).get? h1.objs.size=some (PyProof.Rows.seqObj "list" vs.toArray 0):=NL _ rfl
 have tr1:af ds1=true:=tR.mpr fun d m=>tR.mp tr d (pd.mem_iff.mp m)
 have cm1:=wW pd.symm cm
 have O:=JP (gm cm1 tr1)
 rw [hdz,<- hvl] at O
 refine NC (Ow (Of PyProof.Rows.slot_list_sort ⟨_,hoL,rfl⟩ PyProof.Rows.entry_list_sort (PySem.W.kQ hoL O (by omega) (fun h' k h2=>?_) fun p a1 a2=>⟨_,rfl,?_⟩) (PyProof.Rows.args_list_sort _)))
 ·have ra':ReadsAll h' vs ds1 as:=O1 (fun b o e=>k b o (N0 (NK e)) (NF _ e)) ra
  have la:PyData.canLayAll0 ds1=true:=mC (bD.mpr fun d m=>by
   obtain ⟨i,hi⟩:=O6 m
   obtain ⟨e,_,x⟩:=g9 e1 hi
   exact x.so) (eX tr1)
  rcases kd with kd | kd
  ·exact sX (s:={s with heap:=h',drawn:=dr,toks:=tk}) ra' (wX pd.symm kd) h2
  ·exact sW (s:={s with heap:=h',drawn:=dr,toks:=tk}) (by show A.units+1+1+41 < cLine;omega) ra' (wX pd.symm kd) tr1 cm1 la (ff.mpr fun d m=>ff.mp dp d (pd.mem_iff.mp m)) (by omega)
 ·obtain ⟨e,he⟩:=PyProof.Rows.sortedHeap_at (out:=(p.toList.map fun i=>vs.getD i Value.none).toArray) hoL
  have kp:∀ b o,h1.get? b=some o->(PyProof.Rows.sortedHeap (h1.push (PyProof.Rows.seqObj "list" vs.toArray 0)) h1.objs.size vs (p.toList.map fun i=>vs.getD i Value.none).toArray).get? b=some o:=fun b o eb=>by
   rw [PyProof.Rows.sortedHeap_old (N0 (NK eb)) (by rw [Oi];exact Pa (NK eb))]
   exact NF _ eb
  have hin:∀ i∈p.toList,i < vs.length:=fun i hi=>OD.mp (a1.perm.mem_iff.mp hi)
  obtain ⟨bs,rb⟩:=kY ra p.toList hin
  have e1':(p.toList.map fun i=>ds1.getD i .none)=cS ltB zs:=by
   refine vZ cm tr ?_ ?_
   ·have:=a1.perm.map (fun i=>ds1.getD i .none)
    rw [hvl,<- hdz,iR] at this
    exact this.trans pd
   ·have hlp:p.toList.length=vs.length:=by rw [a1.perm.length_eq,RN]
    unfold Up
    rw [Qx,PV]
    intro i j hi hj hij
    have x1:PySem.W.pat p i=p.toList[i]:=by simp only [OF] at hi;rw [PySem.W.ia,RG p i hi];simp
    have x2:PySem.W.pat p j=p.toList[j]:=by simp only [OF] at hj;rw [PySem.W.ia,RG p j hj];simp
    have:=a2 i j hij (by omega)
    rw [x1,x2] at this
    exact this
  rw [e1'] at rb
  refine ND ⟨_,rfl,q _ dr tk h1.objs.size (p.toList.map fun i=>vs.getD i Value.none) e (Q9 sz1) (fun b o eb=>kp b o (k1 b o eb)) he ⟨bs,O1 kp rb⟩ fun u hu=>?_⟩
  obtain ⟨i,hi,rfl⟩:=Oe.mp hu
  have hil:=hin i hi
  have eu:vs.getD i Value.none=vs[i]:=by simp [hil]
  have hmem:vs[i]∈L.map (·.2):=by rw [hvs];exact RS hil
  obtain ⟨e',he',e2⟩:=Oe.mp hmem
  obtain ⟨j,hj⟩:=O6 he'
  obtain ⟨d',_,x⟩:=fE e1 hj
  rw [eu,<- e2]
  exact x.vl
end
end Stt
namespace Ml
open PySem PySem.Spec L2 Stt
theorem _root_.L2.Inv.dr {X:Cx} {pins:List (Addr×Obj)} {σ:St} {H:Hp} {s:Shared} (I:L2.Inv X pins σ H s) (dr:Drawn):L2.Inv X pins σ H {s with drawn:=dr}:=⟨I.ok,I.os,I.bare,I.base,I.loc,I.cell,I.free,I.freeC,I.pin,I.hok,I.len⟩
structure C0 (X:Cx) (M:Hp) (s:Shared) (b:Addr) (ds:List PyData) (vs:List V) (its:List Value):Prop where
 src:∃ T OK,Src X.prog X.w T b its.toArray OK/\OK s.heap
 rep:bf M ds vs
 val:Vals vs its
 so:cf ds=true
theorem Fe {X:Cx} {θ:List Addr} {hm:Hm} {H:Hp} {pins:List (Addr×Obj)} {σ:St} {s:Shared} {d:D} {v:V} {ds:List PyData} (I:L2.Inv X pins σ H s) (w:W X.G θ hm H) (r:bN X.G θ H d v) (e:wo d hm=some ds) :
  ∃ b vs its,v=.ref b/\C0 X (view θ H) s b ds vs its:=by
 have tup:∀ (b:Addr) (vs:List V),v=.ref b->fU X.K H b vs->bf (view θ H) ds vs->cf ds=true->∃ b vs its,v=.ref b/\C0 X (view θ H) s b ds vs its:=fun b vs e1 e2 e3 e4=>by
  obtain ⟨its,rv,pl,_⟩:=I.tuple e2
  exact ⟨b,vs,its,e1,⟨"tuple",_,src_tuple b its.toArray,pl⟩,e3,rv,e4⟩
 have hs:=e
 unfold wo at hs
 split at hs
 ·cases hs
  obtain ⟨⟨b,vs,rfl,hb,rr⟩,so⟩:=r
  exact tup b vs rfl (.inl (.inl (aA _ _ _ _ hb))) rr (by simpa [cD] using so)
 ·cases hs
  obtain ⟨b,rfl,⟨o,its,n,k1,k2,k3,k4,k5⟩,k6,k7⟩:=r
  refine tup b _ rfl (.inr ⟨o,its,n,k1,k2,k3,k4,k5⟩) (ke (wq (G:=X.G) (θ:=θ) (H:=H) k6 k7) (nG _)).1 k7
 ·obtain ⟨b,vs,rfl,hb,rr,so⟩:=pb w r hs
  obtain ⟨its,n,rv,eo,hz⟩:=I.lst hb
  exact ⟨b,vs,its,rfl,⟨"list",_,src_list b its.toArray,⟨_,eo,rfl,n,rfl⟩⟩,rr,rv,so⟩
theorem qS {M:Hp} {h:Heap} {ds:List PyData} {vs:List V} {its:List Value} (rp:bf M ds vs) (rv:Vals vs its) {as:List Addr} (ra:ReadsAll h its ds as):∀ {us:List Value} {zs:List PyData} {bs:List Addr},ReadsAll h us zs bs->(∀ u∈us,u∈its)->∃ ws,Vals ws us/\bf M zs ws
 | _,_,_,.nil,_=>⟨[],.nil,rfl⟩
 | _,_,_,.cons r t,hu=>by
  obtain ⟨ws,q1,q2⟩:=qS rp rv ra t fun u m=>hu u (NO _ m)
  obtain ⟨i,hi⟩:=O6 (hu _ (NU ..))
  obtain ⟨d,cs,e1,e2⟩:=readsAll_get ra hi
  obtain ⟨x,e3,e4⟩:=bf.get' rp e1
  obtain ⟨u',e5,e6⟩:=rv.get e3
  rw [hi] at e5
  cases e5
  have:=(PySem.Reads.unique r _ _ e2).1
  subst this
  exact ⟨x::ws,.cons e6 q1,.cons e4 q2⟩
theorem C1 {ds:List PyData} (h:setOk ds=true) (so:cf ds=true):∃ md,ds.length<=120/\(∀ d∈ds,av d=true)/\∀ d∈ds,Im md d:=by
 simp only [setOk,NG,N7,P4] at h
 obtain ⟨⟨⟨h1,h2⟩,h3⟩,h4⟩:=h
 have t:=tE.mp h2
 rcases h1 with h1 | h1
 ·exact ⟨true,h4,t,fun d m=>⟨t d m,ff.mp h3 d m,bD.mp so d m,NT.mp h1 d m⟩⟩
 ·refine ⟨false,h4,t,fun d m=>⟨t d m,ff.mp h3 d m,bD.mp so d m,?_⟩⟩
  have:=NT.mp h1 d m
  cases d<;>simp [iS] at this<;>rfl
section
variable {X:Cx} {E:XK} {m m2:ME} {e e2:Expr} {k:Nat} {pins:List (Addr×Obj)} {σ:St} {H:Hp} {s:Shared} {θ:List Addr} {hm:Hm} {Q:VK} {p1 p2 p3 p4 p5 p6 pos:Pos}
theorem yy {M:Hp} {vp:Value->Prop} {md:Bool} {a:Addr} {dsS zs ds:List PyData} {vs:List V} {its:List Value} {s':Shared} {as:List Addr} (I:L2.Inv X pins σ H s) (w:W X.G θ hm H) (sm:M=view θ H) (hk:∀ b o,s.heap.get? b=some o->s'.heap.get? b=some o) (hs:∃ h tk dr,s'={s with heap:=h,toks:=tk,drawn:=dr}) (hsz:s.heap.objs.size<=s'.heap.objs.size)
  (S:ju vp X.w s'.heap a md dsS) (hh:X.A.handled=none) (pz:List.Perm dsS zs) (ok:eY zs=true) (so:cf zs=true) (hu:X.A.units+60 < cLine) (rp:bf M ds vs) (rv:Vals vs its) (ra:ReadsAll s'.heap its ds as) (hvp:∀ v,vp v->v∈its)
  (q:aG X.G (nL X.G E) θ H (.ok (.dat (.list (cS ltB zs))) hm) (KV X.G Q)):wpAny (model X.prog X.w) X.A (call (.builtin "sorted") [.ref a]) (EP X pins σ Q) X.xe s':=by
 obtain ⟨h1,tk1,dr1,rfl⟩:=hs
 refine yx S hh pz ok hu fun h' dr tk p us e' hp kp he ⟨bs,rb⟩ vu=>?_
 have ra':ReadsAll h' its ds as:=O1 kp ra
 obtain ⟨ws,q1,q2⟩:=qS rp rv ra' rb fun u m=>hvp u (vu u m)
 have hpp:s.heap.objs.size<=p:=NS hsz hp
 have hn:H p=none:=I.hok.fresh hpp
 obtain ⟨ev,w1,g⟩:=w.put (o:=.lst ws) hn
 have hlen:ws.length<=sizeLine:=by
  have x1:=q2.length
  have x2:(cS ltB zs).length=zs.length:=(bR _ _).length_eq
  simp only [eY,NG,N7] at ok
  rw [Pk]
  omega
 have I2:L2.Inv X pins σ (upd H p (.lst ws)) {s with heap:=h',toks:=tk}:=I.laid (t':=tk) (fun b o eb=>kp b o (hk b o eb)) hpp ⟨hlen,us,e',q1,he⟩
 subst sm
 exact ⟨.ref p,_,I2.dr dr,rfl,q _ _ ev w1 _ ⟨⟨p,ws,rfl,g,q2.same ev.same⟩,by simp only [cD];exact sY (bR _ _).symm so⟩⟩
theorem yz (hc:X.calm=true) (hr:L2.cz k X.A) (hm1:X.mg "sorted" = none) (hm2:X.mg "set" = none) (ha:DE X E m e) (hg:Gl X "sorted" := by rfl) (hg2:Gl X "set" := by rfl) (hs:starEach [e] X.env=[(false,eval e X.env)]:=by rfl)
  (hs3:starEach [.Call (.Name "set" p2) [e] [] p3] X.env=[(false,eval (.Call (.Name "set" p2) [e] [] p3) X.env)]:=by rfl) :
  DE X E (ai gF (aa m ak)) (.Call (.Name "sorted" p1) [.Call (.Name "set" p2) [e] [] p3] [] pos):=by
 simp only [bw] at *
 intro pins s σ H Q I ⟨θ,h,ρ,w,fr,p⟩
 refine ON (lj I hg hm1 (by decide +kernel:bootBuiltins "sorted" = some (.builtin "sorted")) ?_)
 refine Rb ?_ (by rw [hs3];rfl) (by rfl)
 rw [hs3]
 show wpAny _ _ (spliced ((false,eval (.Call (.Name "set" p2) [e] [] p3) X.env)::[])) _ _ s
 refine Calls.spliced_cons ?_
 refine ON (lj I hg2 hm2 (by decide +kernel:bootBuiltins "set" = some (.type "set")) ?_)
 refine Pr ?_ (by rw [hs];rfl) (by rfl)
 rw [hs]
 show wpAny _ _ (spliced ((false,eval e X.env)::[])) _ _ s
 simp only [ai,aa,ak,R.bind_assoc,R.ao] at p
 refine Calls.spliced_cons (bA (ha pins s σ H (fun v H1=>∃ θ1 h1 d,W X.G θ1 h1 H1/\bN X.G θ1 H1 d v/\aG X.G (nL X.G E) θ1 H1 (gF [d] h1) (Ml.KV X.G Q)) I ⟨θ,h,ρ,w,fr,(aG.bind p).mono fun d θ1 h1 H1 _ _ ⟨ev,w1,q1⟩ v r1=>⟨θ1,h1,d,w1,r1,q1⟩⟩) fun u s1 ⟨v,H1,I1,rv1,θ1,h1,d,w1,r1,q1⟩=>?_)
 refine Calls.spliced_nil ?_
 cases hsq:wo d h1 with
 | none=>simp only [gF,hsq] at q1;exact q1.elim
 | some ds=>
  have hds:=hsq
  simp only [gF,hsq] at q1
  by_cases hc2:(setOk ds && eY (fA ds))=true
  ·rw [if_pos hc2] at q1
   ·skip
    simp only [NG] at hc2
    obtain ⟨b,vs,its,rfl,SS⟩:=Fe I1 w1 r1 hds
    cases rv1
    obtain ⟨T,OK,src,hok⟩:=SS.src
    obtain ⟨as,ra⟩:=bf.reads I1 (SS.rep.same (aA _ _)) SS.val
    obtain ⟨md,hl,ht,hel⟩:=C1 hc2.1 SS.so
    have hun:=hr.un
    refine CV (vp:=fun v=>v∈its) (md:=md) (ys:=ds) (as:=as) src (I1.ok.hd hc) hok (by simpa using ra) hel (fun v m=>by simpa using m) hl (by omega) fun h' tk dsS S md' kp=>?_
    refine Calls.spliced_nil ?_
    have S0:=S
    obtain ⟨_,_,_,SA⟩:=S0
    refine yy (s:=s1) (s':={s1 with heap:=h',toks:=tk}) I1 w1 rfl kp ⟨h',tk,s1.drawn,rfl⟩ (Q9 (NK SA.ob)) S (I1.ok.hd hc) ?_ hc2.2 ?_ (by omega) SS.rep SS.val (O1 kp ra) (fun v hv=>hv) q1
    ·refine (List.perm_ext_iff_of_nodup SA.nd (gZ ht)).mpr fun d=>?_
     rw [md',iG ht]
    ·exact bD.mpr fun d m=>bD.mp SS.so d ((iG ht d).mp m)
  ·rw [if_neg hc2] at q1;exact q1.elim
end
theorem nW:∀ {xs ys:List PyData},xs.Nodup->(∀ x∈xs,x∈ys)->xs.length<=ys.length
 | [],_,_,_=>O0 _
 | x::xs,ys,nd,h=>by
  classical
  obtain ⟨n1,n2⟩:=Pe.mp nd
  have hx:=h x (NU ..)
  obtain ⟨i,hi,e⟩:=Qg hx
  have p:=fc hi
  rw [e] at p
  have:=nW (xs:=xs) (ys:=ys.eraseIdx i) n2 fun y hy=>by
   have:=p.mem_iff.mpr (h y (NO _ hy))
   rcases NJ.mp this with z | z
   ·exact absurd hy (z▸n1)
   ·exact z
  have pl:=p.length_eq
  simp only [N3] at pl ⊢
  omega
end Ml
namespace K15
open PySem L2 Ml
def top (i:Nat):Stmt:=PySem.Challenge.pw_everalike_k15_whole_webs_of_one_kernel.main.body.getD i (.Pass ⟨0,0,0,0⟩)
structure Txt (K:PySem.W.Frag) (mg:Str->Option Value):Prop where
 n_all:mg "all" = none
 n_len:mg "len" = none
 n_isinstance:mg "isinstance" = none
 n_str:mg "str" = none
 n_zip:mg "zip" = none
 n_tuple:mg "tuple" = none
 n_int:mg "int" = none
 n_max:mg "max" = none
 n_divmod:mg "divmod" = none
 n_sorted:mg "sorted" = none
 n_range:mg "range" = none
 n_set:mg "set" = none
 n_list:mg "list" = none
 i_LONGEST_NAME:∃ t,mg "LONGEST_NAME" = some (.int 6 t)
 i_MOST_NAMES:∃ t,mg "MOST_NAMES" = some (.int 12 t)
 f_IDLE:∃ a,mg "IDLE" = some (.ref a)/\E3 K mg a lL
 t_KINDS:∃ a,mg "KINDS" = some (.ref a)/\BV K a uO
section
variable {P:Program} {w:World} {K:PySem.W.Frag} {mg:Str->Option Value} {base:Heap} {XE:VK->XK} {bm:Addr}
abbrev nX:Stmt:=top 7
theorem yA:aU ["thing"] ["thing"] (aD nX):=⟨rfl,rfl,rfl,by decide +kernel,rfl,by decide +kernel,by decide +kernel⟩
theorem uW:(["letter", "thing"]:List Str).Nodup:=by decide +kernel
theorem A4 (D:Df K mg "is_name" ["thing"] nX) (T:Txt K mg):aL P w K mg base "is_name" ["thing"] 1 gp:=
 aL.eq (Df.has (k:=0) D yA (fun f cdv A outer s H E hr=>
  ax (fv (DW.dt (jr (fz (cH (Cs (Ew _) Hu T.n_isinstance T.n_str (dv 0)))) (gE (fz (Cr EK EK (aI) (zG tj T.n_len nE (ae (dv 0) (aj))) (zA T.i_LONGEST_NAME)))))) (aC (aZ (cU))) (cy))
  (aC (aZ (zG (zz rfl) T.n_all uq (ae (gf ["letter"] (by rfl) rfl (cw (dv 0)) (fun _ _ _ _ _=>dg 0 uW) (fun _ _ _ _ _=>gW) (fun _ _ _ _ _=>Cq EK EK (eZ) (dv 0) (eZ))) (aj))))))) (by kernel_rfl)
abbrev jS:Stmt:=top 8
theorem uX:aU ["things"] ["things"] (aD jS):=⟨rfl,rfl,rfl,by decide +kernel,rfl,by decide +kernel,by decide +kernel⟩
theorem jT:(["low", "high", "things"]:List Str).Nodup:=by decide +kernel
theorem wY (D:Df K mg "is_rising" ["things"] jS) (T:Txt K mg):aL P w K mg base "is_rising" ["things"] 1 dH:=
 aL.eq (Df.has (k:=0) D uX (fun f cdv A outer s H E hr=>
  aC (aZ (zG (zz rfl) T.n_all uq (ae (gf ["low", "high"] (by rfl) rfl (HN (by rfl) T.n_zip (ae (dv 0) (ae (Ca (dv 0) (uM (aI)) (EL)) (aj)))) (fun _ _ _ _ _=>jN rfl (bW (dg 0 jT) (bW (dg 1 jT) (gV))) (bo (bo (eR)))) (fun _ _ _ _ _=>gW) (fun _ _ _ _ _=>dZ (HS hr) (dv 0) (dv 1) (by rfl))) (aj)))))) (by kernel_rfl)
abbrev jU:Stmt:=top 9
theorem uY:aU ["thing"] ["thing"] (aD jU):=⟨rfl,rfl,rfl,by decide +kernel,rfl,by decide +kernel,by decide +kernel⟩
theorem qT:(["part", "thing"]:List Str).Nodup:=by decide +kernel
theorem wZ (D:Df K mg "are_names" ["thing"] jU) (T:Txt K mg) (H_is_rising:aL P w K mg base "is_rising" ["things"] 1 dH) (H_is_name:aL P w K mg base "is_name" ["thing"] 1 gp):aL P w K mg base "are_names" ["thing"] 2 fR:=
 aL.eq (Df.has (k:=1) D uY (fun f cdv A outer s H E hr=>
  ax (fv (DW.dt (jr (fz (cH (Cs (kit_tuple _) dF T.n_isinstance T.n_tuple (dv 0)))) (gE (cg LU (zG tj T.n_len nE (ae (dv 0) (aj))) (zA T.i_MOST_NAMES) (by rfl))))) (aC (aZ (cU))) (cy))
  (aC (aZ (i7 (zG (zz rfl) T.n_all uq (ae (gf ["part"] (by rfl) rfl (cw (dv 0)) (fun _ _ _ _ _=>dg 0 qT) (fun _ _ _ _ _=>gW) (fun _ _ _ _ _=>bz H_is_name cE (hr.mono (by omega)) (by rfl) (ae (dv 0) (aj)))) (aj))) (iT (bz H_is_rising bg (hr.mono (by omega)) (by rfl) (ae (dv 0) (aj))))))))) (by kernel_rfl)
abbrev jV:Stmt:=top 10
theorem uZ:aU ["thing", "names"] ["thing", "names"] (aD jV):=⟨rfl,rfl,rfl,by decide +kernel,rfl,by decide +kernel,by decide +kernel⟩
theorem xa (D:Df K mg "is_strike" ["thing", "names"] jV) (T:Txt K mg):aL P w K mg base "is_strike" ["thing", "names"] 1 eS:=
 aL.eq (Df.has (k:=0) D uZ (fun f cdv A outer s H E hr=>
  ax (fv (DW.dt (jr (fz (cH (Cs (kit_tuple _) dF T.n_isinstance T.n_tuple (dv 0)))) (gE (cg (B3 hr) (zG tj T.n_len nE (ae (dv 0) (aj))) (aI) (by rfl))))) (aC (aZ (cU))) (cy))
  (aC (aZ (i7 (dZ (mP hr) (cG (bh hr) (dv 0) (aI) (fun _ _=>rfl)) (dv 1) (by rfl)) (iT (dZ (mP hr) (cG (bh hr) (dv 0) (aI) (fun _ _=>rfl)) (dv 1) (by rfl)))))))) (by kernel_rfl)
abbrev ij:Stmt:=top 11
theorem qU:aU ["thing", "names"] ["thing", "names"] (aD ij):=⟨rfl,rfl,rfl,by decide +kernel,rfl,by decide +kernel,by decide +kernel⟩
theorem nY:(["part", "thing", "names"]:List Str).Nodup:=by decide +kernel
theorem sv (D:Df K mg "are_strikes" ["thing", "names"] ij) (T:Txt K mg) (H_is_rising:aL P w K mg base "is_rising" ["things"] 1 dH) (H_is_strike:aL P w K mg base "is_strike" ["thing", "names"] 1 eS):aL P w K mg base "are_strikes" ["thing", "names"] 2 eJ:=
 aL.eq (Df.has (k:=1) D qU (fun f cdv A outer s H E hr=>
  ax (fv (fz (cH (Cs (kit_tuple _) dF T.n_isinstance T.n_tuple (dv 0)))) (aC (aZ (cU))) (cy))
  (aC (aZ (i7 (zG (zz rfl) T.n_all uq (ae (gf ["part"] (by rfl) rfl (cw (dv 0)) (fun _ _ _ _ _=>dg 0 nY) (fun _ _ _ _ _=>gW) (fun _ _ _ _ _=>bz H_is_strike cE (hr.mono (by omega)) (by rfl) (ae (dv 0) (ae (dv 2) (aj))))) (aj))) (iT (bz H_is_rising bg (hr.mono (by omega)) (by rfl) (ae (dv 0) (aj))))))))) (by kernel_rfl)
abbrev qV:Stmt:=top 12
theorem nZ:aU ["thing", "names", "strikes"] ["thing"] (aD qV):=⟨rfl,rfl,rfl,by decide +kernel,rfl,by decide +kernel,by decide +kernel⟩
theorem C2 (D:Df K mg "is_web" ["thing"] qV) (T:Txt K mg) (H_are_strikes:aL P w K mg base "are_strikes" ["thing", "names"] 2 eJ) (H_are_names:aL P w K mg base "are_names" ["thing"] 2 fR):aL P w K mg base "is_web" ["thing"] 3 jP:=
 aL.eq (Df.has (k:=2) D nZ (fun f cdv A outer s H E hr=>
  ax (fv (DW.dt (jr (fz (cH (Cs (kit_tuple _) dF T.n_isinstance T.n_tuple (dv 0)))) (gE (cg (B3 hr) (zG tj T.n_len nE (ae (dv 0) (aj))) (aI) (by rfl))))) (aC (aZ (cU))) (cy))
  (ax (jO (dv 0) (jN rfl (bW (dg 1 nZ.nd) (bW (dg 2 nZ.nd) (gV))) (bo (bo (eR)))))
  (aC (aZ (i7 (bz H_are_names bg (hr.mono (by omega)) (by rfl) (ae (dv 1) (aj))) (iT (bz H_are_strikes bg (hr.mono (by omega)) (by rfl) (ae (dv 2) (ae (dv 1) (aj))))))))))) (by kernel_rfl)
abbrev jW:Stmt:=top 13
theorem u0:aU ["thing"] ["thing"] (aD jW):=⟨rfl,rfl,rfl,by decide +kernel,rfl,by decide +kernel,by decide +kernel⟩
theorem xb (D:Df K mg "check_web" ["thing"] jW) (T:Txt K mg) (H_is_web:aL P w K mg base "is_web" ["thing"] 3 jP):aL P w K mg base "check_web" ["thing"] 4 cI:=
 aL.eq (Df.has (k:=3) D u0 (fun f cdv A outer s H E hr=>
  aC (fv (fz (cH (bz H_is_web bg (hr.mono (by omega)) (by rfl) (ae (dv 0) (aj))))) (aC (Cv)) (cy)))) (by kernel_rfl)
abbrev jg:Stmt:=top 16
theorem sy:aU ["thing"] ["thing"] (aD jg):=⟨rfl,rfl,rfl,by decide +kernel,rfl,by decide +kernel,by decide +kernel⟩
theorem u5 (D:Df K mg "check_kind" ["thing"] jg) (T:Txt K mg):aL P w K mg base "check_kind" ["thing"] 1 dR:=
 aL.eq (Df.has (k:=0) D sy (fun f cdv A outer s H E hr=>
  aC (fv (cg (qA hr) (dv 0) (EO T.t_KINDS) (by rfl)) (aC (Cv)) (cy)))) (by kernel_rfl)
abbrev fg:Stmt:=top 18
theorem lM:aU ["strikes", "one", "other"] ["strikes", "one", "other"] (aD fg):=⟨rfl,rfl,rfl,by decide +kernel,rfl,by decide +kernel,by decide +kernel⟩
theorem mY (D:Df K mg "idle_for_stable" ["strikes", "one", "other"] fg) (T:Txt K mg):aL P w K mg base "idle_for_stable" ["strikes", "one", "other"] 1 bj:=
 aL.eq (Df.has (k:=0) D lM (fun f cdv A outer s H E hr=>
  aC (aZ (dZ (mP hr) (cj (ae (dv 1) (ae (dv 1) (aj)))) (dv 0) (by rfl))))) (by kernel_rfl)
abbrev eh:Stmt:=top 19
theorem jX:aU ["strikes", "one", "other"] ["strikes", "one", "other"] (aD eh):=⟨rfl,rfl,rfl,by decide +kernel,rfl,by decide +kernel,by decide +kernel⟩
theorem kJ (D:Df K mg "idle_for_standing" ["strikes", "one", "other"] eh) (T:Txt K mg):aL P w K mg base "idle_for_standing" ["strikes", "one", "other"] 1 aP:=
 aL.eq (Df.has (k:=0) D jX (fun f cdv A outer s H E hr=>
  aC (aZ (i7 (dZ (mP hr) (cj (ae (dv 1) (ae (dv 1) (aj)))) (dv 0) (by rfl)) (iT (Cp (dZ (mP hr) (cj (ae (dv 2) (ae (dv 1) (aj)))) (dv 0) (by rfl)) (iT (dZ (mP hr) (cj (ae (dv 2) (ae (dv 2) (aj)))) (dv 0) (by rfl))))))))) (by kernel_rfl)
abbrev fF:Stmt:=top 20
theorem mZ:aU ["strikes", "one", "other"] ["strikes", "one", "other"] (aD fF):=⟨rfl,rfl,rfl,by decide +kernel,rfl,by decide +kernel,by decide +kernel⟩
theorem n0 (D:Df K mg "idle_for_whole" ["strikes", "one", "other"] fF) (T:Txt K mg):aL P w K mg base "idle_for_whole" ["strikes", "one", "other"] 1 br:=
 aL.eq (Df.has (k:=0) D mZ (fun f cdv A outer s H E hr=>
  aC (aZ (i7 (dZ (mP hr) (cj (ae (dv 1) (ae (dv 1) (aj)))) (dv 0) (by rfl)) (iT (dZ (mP hr) (cj (ae (dv 2) (ae (dv 2) (aj)))) (dv 0) (by rfl))))))) (by kernel_rfl)
abbrev et:Stmt:=top 21
theorem jY:aU ["strikes", "one", "other"] ["strikes", "one", "other"] (aD et):=⟨rfl,rfl,rfl,by decide +kernel,rfl,by decide +kernel,by decide +kernel⟩
theorem kK (D:Df K mg "idle_for_grounded" ["strikes", "one", "other"] et) (T:Txt K mg):aL P w K mg base "idle_for_grounded" ["strikes", "one", "other"] 1 aV:=
 aL.eq (Df.has (k:=0) D jY (fun f cdv A outer s H E hr=>
  aC (aZ (i7 (dZ (mP hr) (cj (ae (dv 2) (ae (dv 2) (aj)))) (dv 0) (by rfl)) (iT (Cp (dZ (mP hr) (cj (ae (dv 1) (ae (dv 1) (aj)))) (dv 0) (by rfl)) (iT (dZ (mP hr) (cj (ae (dv 2) (ae (dv 1) (aj)))) (dv 0) (by rfl))))))))) (by kernel_rfl)
abbrev qW:Stmt:=top 23
theorem gq:aU ["web", "kind", "idle", "names", "strikes", "there", "kept"] ["web", "kind"] (aD qW):=⟨rfl,rfl,rfl,by decide +kernel,rfl,by decide +kernel,by decide +kernel⟩
theorem oP:(["one", "other", "web", "kind", "idle", "names", "strikes", "there", "kept"]:List Str).Nodup:=by decide +kernel
theorem xc:(["strike", "web", "kind", "idle", "names", "strikes", "there", "kept"]:List Str).Nodup:=by decide +kernel
theorem C3 (D:Df K mg "kernel" ["web", "kind"] qW) (T:Txt K mg) (H_idle_for_grounded:aL P w K mg base "idle_for_grounded" ["strikes", "one", "other"] 1 aV) (H_idle_for_standing:aL P w K mg base "idle_for_standing" ["strikes", "one", "other"] 1 aP) (H_idle_for_stable:aL P w K mg base "idle_for_stable" ["strikes", "one", "other"] 1 bj) (H_idle_for_whole:aL P w K mg base "idle_for_whole" ["strikes", "one", "other"] 1 br) (H_check_kind:aL P w K mg base "check_kind" ["thing"] 1 dR) (H_check_web:aL P w K mg base "check_web" ["thing"] 4 cI):aL P w K mg base "kernel" ["web", "kind"] 5 bZ:=
 aL.eq (Df.has (k:=4) D gq (fun f cdv A outer s H E hr=>
  ax (iU (bz H_check_web bg (hr.mono (by omega)) (by rfl) (ae (dv 0) (aj))))
  (ax (iU (bz H_check_kind bg (hr.mono (by omega)) (by rfl) (ae (dv 1) (aj))))
  (ax (i8 2 gq.nd (zI T.f_IDLE (dv 1) (fun _ _=>rfl)))
  (ax (jO (dv 0) (jN rfl (bW (dg 3 gq.nd) (bW (dg 4 gq.nd) (gV))) (bo (bo (eR)))))
  (ax (i8 5 gq.nd (wC ["strike"] true hr (by rfl) rfl (cw (dv 4)) (fun _ _ _ _ _=>dg 0 xc) (fun _ _ _ _ _=>gW) (fun _ _ _ _ _=>dv 0) (fun _ _ _ _ _=>cU)))
  (ax (uF (i:=6) ["one", "other"] gq.nd rfl rfl (by rfl) rfl (cw (dv 4)) (fun _ _ _ _ _=>jN rfl (bW (dg 0 oP) (bW (dg 1 oP) (gV))) (bo (bo (eR)))) (fun _ _ _ _ _=>gX (DW.dt (jr (cg (uH hr) (dv 0) (dv 1) (by rfl)) (gE (fz (cH (CG (k:=1) 4 (.cons (H_idle_for_grounded.mono (by decide)) (.cons (H_idle_for_standing.mono (by decide)) (.cons (H_idle_for_stable.mono (by decide)) (.cons (H_idle_for_whole.mono (by decide)) (.nil))))) cE (hr.mono (by omega)) (ae (dv 7) (ae (dv 0) (ae (dv 1) (aj))))))))))) (fun _ _ _ _ _=>cj (ae (dv 0) (ae (dv 1) (aj)))))
  (aC (aZ (cj (ae (dv 3) (ae (kE (iX rfl) T.n_tuple dF (ae (dv 6) (aj))) (aj))))))))))))) (by kernel_rfl)
abbrev n5:Stmt:=top 24
theorem fG:aU ["web", "kind", "names", "strikes", "idle", "there", "full"] ["web", "kind"] (aD n5):=⟨rfl,rfl,rfl,by decide +kernel,rfl,by decide +kernel,by decide +kernel⟩
theorem m6:(["one", "other", "web", "kind", "names", "strikes", "idle", "there", "full"]:List Str).Nodup:=by decide +kernel
theorem u6:(["strike", "web", "kind", "names", "strikes", "idle", "there", "full"]:List Str).Nodup:=by decide +kernel
theorem A5 (D:Df K mg "fullest" ["web", "kind"] n5) (T:Txt K mg) (H_idle_for_grounded:aL P w K mg base "idle_for_grounded" ["strikes", "one", "other"] 1 aV) (H_idle_for_standing:aL P w K mg base "idle_for_standing" ["strikes", "one", "other"] 1 aP) (H_idle_for_stable:aL P w K mg base "idle_for_stable" ["strikes", "one", "other"] 1 bj) (H_idle_for_whole:aL P w K mg base "idle_for_whole" ["strikes", "one", "other"] 1 br) (H_kernel:aL P w K mg base "kernel" ["web", "kind"] 5 bZ):aL P w K mg base "fullest" ["web", "kind"] 6 dS:=
 aL.eq (Df.has (k:=5) D fG (fun f cdv A outer s H E hr=>
  ax (jO (bz H_kernel bg (hr.mono (by omega)) (by rfl) (ae (dv 0) (ae (dv 1) (aj)))) (jN rfl (bW (dg 2 fG.nd) (bW (dg 3 fG.nd) (gV))) (bo (bo (eR)))))
  (ax (i8 4 fG.nd (zI T.f_IDLE (dv 1) (fun _ _=>rfl)))
  (ax (i8 5 fG.nd (wC ["strike"] true hr (by rfl) rfl (cw (dv 3)) (fun _ _ _ _ _=>dg 0 u6) (fun _ _ _ _ _=>gW) (fun _ _ _ _ _=>dv 0) (fun _ _ _ _ _=>cU)))
  (ax (CA (i:=6) ["one", "other"] fG.nd rfl rfl (by rfl) rfl (cw (dv 2)) (fun _ _ _ _ _=>dg 0 m6) (fun _ _ _ _ _=>gW) (fun _ _ _ _ _=>cw (dv 4)) (fun _ _ _ _ _=>dg 1 m6) (fun _ _ _ _ _=>gX (DW.dt (jr (cg (mP hr) (cj (ae (dv 0) (ae (dv 1) (aj)))) (dv 7) (by rfl)) (gE (DW.dt (HF (cg (B3 hr) (dv 0) (dv 1) (by rfl)) (ED (cH (CG (k:=1) 6 (.cons (H_idle_for_grounded.mono (by decide)) (.cons (H_idle_for_standing.mono (by decide)) (.cons (H_idle_for_stable.mono (by decide)) (.cons (H_idle_for_whole.mono (by decide)) (.nil))))) cE (hr.mono (by omega)) (ae (dv 7) (ae (dv 0) (ae (dv 1) (aj))))))))))))) (fun _ _ _ _ _=>cj (ae (dv 0) (ae (dv 1) (aj)))))
  (aC (aZ (cj (ae (dv 2) (ae (kE (iX rfl) T.n_tuple dF (ae (dv 6) (aj))) (aj))))))))))) (by kernel_rfl)
abbrev lN:Stmt:=top 25
theorem fS:aU ["web", "kind", "kept", "many", "strike"] ["web", "kind"] (aD lN):=⟨rfl,rfl,rfl,by decide +kernel,rfl,by decide +kernel,by decide +kernel⟩
theorem yB (D:Df K mg "how_many" ["web", "kind"] lN) (T:Txt K mg) (H_fullest:aL P w K mg base "fullest" ["web", "kind"] 6 dS) (H_kernel:aL P w K mg base "kernel" ["web", "kind"] 5 bZ):aL P w K mg base "how_many" ["web", "kind"] 7 jb:=
 aL.eq (Df.has (k:=6) D fS (fun f cdv A outer s H E hr=>
  ax (i8 2 fS.nd (cG (bh hr) (bz H_kernel bg (hr.mono (by omega)) (by rfl) (ae (dv 0) (ae (dv 1) (aj)))) (aI) (fun _ _=>rfl)))
  (ax (i8 3 fS.nd (aI))
  (ax (iV rfl (cw (cG (bh hr) (bz H_fullest cE (hr.mono (by omega)) (by rfl) (ae (dv 0) (ae (dv 1) (aj)))) (aI) (fun _ _=>rfl))) (dg 4 fS.nd) (aC (fv (cg (qA hr) (dv 4) (dv 2) (by rfl)) (aC (LY 3 fS.nd (dv 3))) (cy))))
  (aC (aZ (dv 3))))))) (by kernel_rfl)
abbrev jZ:Stmt:=top 27
theorem u7:aU ["one", "other", "kind"] ["one", "other", "kind"] (aD jZ):=⟨rfl,rfl,rfl,by decide +kernel,rfl,by decide +kernel,by decide +kernel⟩
theorem xf (D:Df K mg "are_alike" ["one", "other", "kind"] jZ) (T:Txt K mg) (H_kernel:aL P w K mg base "kernel" ["web", "kind"] 5 bZ) (H_check_kind:aL P w K mg base "check_kind" ["thing"] 1 dR) (H_check_web:aL P w K mg base "check_web" ["thing"] 4 cI):aL P w K mg base "are_alike" ["one", "other", "kind"] 6 dI:=
 aL.eq (Df.has (k:=5) D u7 (fun f cdv A outer s H E hr=>
  ax (iU (bz H_check_web bg (hr.mono (by omega)) (by rfl) (ae (dv 0) (aj))))
  (ax (iU (bz H_check_web bg (hr.mono (by omega)) (by rfl) (ae (dv 1) (aj))))
  (ax (iU (bz H_check_kind bg (hr.mono (by omega)) (by rfl) (ae (dv 2) (aj))))
  (aC (aZ (dZ (uH hr) (bz H_kernel bg (hr.mono (by omega)) (by rfl) (ae (dv 0) (ae (dv 2) (aj)))) (bz H_kernel bg (hr.mono (by omega)) (by rfl) (ae (dv 1) (ae (dv 2) (aj)))) (by rfl)))))))) (by kernel_rfl)
abbrev j0:Stmt:=top 29
theorem u9:aU ["_law_script", "_law_k"] ["_law_script", "_law_k"] (aD j0):=⟨rfl,rfl,rfl,by decide +kernel,rfl,by decide +kernel,by decide +kernel⟩
theorem xg (D:Df K mg "_law_cell" ["_law_script", "_law_k"] j0) (T:Txt K mg):aL P w K mg base "_law_cell" ["_law_script", "_law_k"] 1 dJ:=
 aL.eq (Df.has (k:=0) D u9 (fun f cdv A outer s H E hr=>
  ax (fv (cg (HS hr) (dv 1) (zG tj T.n_len nE (ae (dv 0) (aj))) (by rfl)) (aC (aZ (cG (bh hr) (dv 0) (dv 1) (fun _ _=>rfl)))) (cy))
  (aC (aZ (aI))))) (by kernel_rfl)
abbrev lP:Stmt:=top 30
theorem oQ:aU ["_law_cell_here", "_law_more"] ["_law_cell_here"] (aD lP):=⟨rfl,rfl,rfl,by decide +kernel,rfl,by decide +kernel,by decide +kernel⟩
theorem yC (D:Df K mg "_law_pen" ["_law_cell_here"] lP) (T:Txt K mg):aL P w K mg base "_law_pen" ["_law_cell_here"] 1 fB:=
 aL.eq (Df.has (k:=0) D oQ (fun f cdv A outer s H E hr=>
  ax (i8 1 oQ.nd (zG (JQ rfl) T.n_max Ht (ae (dv 0) (ae (cO JN (aI) (dv 0)) (aj)))))
  (aC (aZ (yc (ae (dv 1) (ae (kE JR T.n_int HZ (ae (dZ LV (dv 1) (ic 8 (d:=.int (10 ^ 18)) (Lit.of (by kernel_rfl)) (by decide +kernel)) (by rfl)) (aj))) (aj)))))))) (by kernel_rfl)
abbrev j3:Stmt:=top 31
theorem fh:aU ["_law_pen_here", "_law_many", "_law_rest", "_law_drawn", "_law_stir"] ["_law_pen_here", "_law_many"] (aD j3):=⟨rfl,rfl,rfl,by decide +kernel,rfl,by decide +kernel,by decide +kernel⟩
theorem xh (D:Df K mg "_law_draw" ["_law_pen_here", "_law_many"] j3) (T:Txt K mg):aL P w K mg base "_law_draw" ["_law_pen_here", "_law_many"] 1 aF:=
 aL.eq (Df.has (k:=0) D fh (fun f cdv A outer s H E hr=>
  ax (fv (cg (uH hr) (cG (bh hr) (dv 0) (aI) (fun _ _=>rfl)) (aI) (by rfl)) (ax (jO (zG Cc T.n_divmod AF (ae (cG (bh hr) (dv 0) (aI) (fun _ _=>rfl)) (ae (dv 1) (aj)))) (jN rfl (bW (dg 2 fh.nd) (bW (dg 3 fh.nd) (gV))) (bo (bo (eR)))))
  (ax (jO (dv 2) (Cn hr (dv 0) (aI) (fun _=>rfl)))
  (aC (aZ (dv 3))))) (cy))
  (ax (i8 4 fh.nd (cO sV (cO B8 (cO oA (cO sV (cG (bh hr) (dv 0) (aI) (fun _ _=>rfl)) (aI)) (aI)) (aI)) (aI)))
  (ax (i8 4 fh.nd (cO sV (cO oA (cO B8 (dv 4) (dv 4)) (aI)) (aI)))
  (ax (jO (cO sV (cO oA (cO B8 (dv 4) (aI)) (aI)) (aI)) (Cn hr (dv 0) (aI) (fun _=>rfl)))
  (aC (aZ (cO sV (cO B6 (cG (bh hr) (dv 0) (aI) (fun _ _=>rfl)) (aI)) (dv 1))))))))) (by kernel_rfl)
abbrev jh:Stmt:=top 32
theorem kZ:aU ["_law_pen_here", "_law_most", "_law_left"] ["_law_pen_here", "_law_most"] (aD jh):=⟨rfl,rfl,rfl,by decide +kernel,rfl,by decide +kernel,by decide +kernel⟩
theorem o5:(["_law_lap", "_law_pen_here", "_law_most", "_law_left"]:List Str).Nodup:=by decide +kernel
theorem va (D:Df K mg "_law_names" ["_law_pen_here", "_law_most"] jh) (T:Txt K mg) (H__law_draw:aL P w K mg base "_law_draw" ["_law_pen_here", "_law_many"] 1 aF):aL P w K mg base "_law_names" ["_law_pen_here", "_law_most"] 2 gg:=
 aL.eq ((Df.has (k:=1) D kZ (fun f cdv A outer s H E hr=>
  ax (i8 2 kZ.nd (yc (ae (eZ) (ae (eZ) (ae (eZ) (ae (eZ) (ae (eZ) (ae (eZ) (ae (eZ) (ae (eZ) (ae (eZ) (ae (eZ) (ae (eZ) (ae (eZ) (aj)))))))))))))))
  (aC (aZ (kE (iX rfl) T.n_tuple dF (ae (zG (wa hr) T.n_sorted sN (ae (gf ["_law_lap"] (by rfl) rfl (EG (by rfl) T.n_range (ae (bz H__law_draw bg (hr.mono (by omega)) (by rfl) (ae (dv 0) (ae (cO oA (dv 1) (aI)) (aj)))) (aj))) (fun _ _ _ _ _=>dg 0 o5) (fun _ _ _ _ _=>gW) (fun _ _ _ _ _=>Ce (dv 3) (bz H__law_draw cE (hr.mono (by omega)) (by rfl) (ae (dv 1) (ae (zG tj T.n_len nE (ae (dv 3) (aj))) (aj)))))) (aj))) (aj))))))).iC) (by kernel_rfl)
abbrev lQ:Stmt:=top 33
theorem eU:aU ["_law_pen_here", "_law_most", "_law_names_here", "_law_share", "_law_strikes", "_law_one"] ["_law_pen_here", "_law_most"] (aD lQ):=⟨rfl,rfl,rfl,by decide +kernel,rfl,by decide +kernel,by decide +kernel⟩
theorem sA:(["_law_other", "_law_pen_here", "_law_most", "_law_names_here", "_law_share", "_law_strikes", "_law_one"]:List Str).Nodup:=by decide +kernel
theorem yD (D:Df K mg "_law_web" ["_law_pen_here", "_law_most"] lQ) (T:Txt K mg) (H__law_draw:aL P w K mg base "_law_draw" ["_law_pen_here", "_law_many"] 1 aF) (H__law_names:aL P w K mg base "_law_names" ["_law_pen_here", "_law_most"] 2 gg):aL P w K mg base "_law_web" ["_law_pen_here", "_law_most"] 3 gG:=
 aL.eq (Df.has (k:=2) D eU (fun f cdv A outer s H E hr=>
  ax (jO (cj (ae (bz H__law_names bg (hr.mono (by omega)) (by rfl) (ae (dv 0) (ae (dv 1) (aj)))) (ae (cG (bh hr) (ic 8 (d:=.list [.int 1,.int 2,.int 3,.int 5]) (Lit.of (by kernel_rfl)) (by decide +kernel)) (bz H__law_draw bg (hr.mono (by omega)) (by rfl) (ae (dv 0) (ae (aI) (aj)))) (fun _ _=>rfl)) (ae (ic 8 (d:=.list []) (Lit.of (by kernel_rfl)) (by decide +kernel)) (aj))))) (jN rfl (bW (dg 2 eU.nd) (bW (dg 3 eU.nd) (bW (dg 4 eU.nd) (gV)))) (bo (bo (bo (eR))))))
  (ax (iV rfl (cw (dv 2)) (dg 5 eU.nd) (aC (i8 4 eU.nd (cO oA (dv 4) (gf ["_law_other"] (by rfl) rfl (cw (dv 2)) (fun _ _ _ _ _=>dg 0 sA) (fun _ _ _ _ _=>gX (cg (HS hr) (bz H__law_draw cE (hr.mono (by omega)) (by rfl) (ae (dv 1) (ae (aI) (aj)))) (dv 4) (by rfl))) (fun _ _ _ _ _=>cj (ae (dv 6) (ae (dv 0) (aj)))))))))
  (aC (aZ (cj (ae (dv 2) (ae (kE (iX rfl) T.n_tuple dF (ae (dv 4) (aj))) (aj))))))))) (by kernel_rfl)
abbrev ik:Stmt:=top 34
theorem qX:aU ["_law_one", "_law_other"] ["_law_one", "_law_other"] (aD ik):=⟨rfl,rfl,rfl,by decide +kernel,rfl,by decide +kernel,by decide +kernel⟩
theorem n6:(["_law_name", "_law_one", "_law_other"]:List Str).Nodup:=by decide +kernel
theorem sC (D:Df K mg "_law_within" ["_law_one", "_law_other"] ik) (T:Txt K mg):aL P w K mg base "_law_within" ["_law_one", "_law_other"] 1 eK:=
 aL.eq (Df.has (k:=0) D qX (fun f cdv A outer s H E hr=>
  aC (aZ (dZ (uH hr) (gf ["_law_name"] (by rfl) rfl (cw (dv 0)) (fun _ _ _ _ _=>dg 0 n6) (fun _ _ _ _ _=>gX (cg (qA hr) (dv 0) (dv 2) (by rfl))) (fun _ _ _ _ _=>dv 0)) (ic 8 (d:=.list []) (Lit.of (by kernel_rfl)) (by decide +kernel)) (by rfl))))) (by kernel_rfl)
abbrev eA:Stmt:=top 35
theorem j4:aU [] [] (aD eA):=⟨rfl,rfl,rfl,by decide +kernel,rfl,by decide +kernel,by decide +kernel⟩
theorem kL (D:Df K mg "_law_kernel_kinds" [] eA) (T:Txt K mg):aL P w K mg base "_law_kernel_kinds" [] 1 b0:=
 aL.eq (Df.has (k:=0) D j4 (fun f cdv A outer s H E hr=>
  aC (aZ (ic 8 (d:=.list [.str "stable",.str "standing",.str "preferred",.str "whole",.str "grounded"]) (Lit.of (by kernel_rfl)) (by decide +kernel))))) (by kernel_rfl)
abbrev fH:Stmt:=top 36
theorem hG:aU ["_law_pen_here", "_law_most", "_law_some"] ["_law_pen_here", "_law_most"] (aD fH):=⟨rfl,rfl,rfl,by decide +kernel,rfl,by decide +kernel,by decide +kernel⟩
theorem n8 (D:Df K mg "_law_some_webs" ["_law_pen_here", "_law_most"] fH) (T:Txt K mg) (H__law_draw:aL P w K mg base "_law_draw" ["_law_pen_here", "_law_many"] 1 aF) (H__law_web:aL P w K mg base "_law_web" ["_law_pen_here", "_law_most"] 3 gG):aL P w K mg base "_law_some_webs" ["_law_pen_here", "_law_most"] 4 cP:=
 aL.eq ((Df.has (k:=3) D hG (fun f cdv A outer s H E hr=>
  ax (i8 2 hG.nd (yc (ae (ic 8 (d:=.tuple [.tuple [],.tuple []]) (Lit.of (by kernel_rfl)) (by decide +kernel)) (ae (ic 8 (d:=.tuple [.tuple [.str "a"],.tuple [.tuple [.str "a",.str "a"]]]) (Lit.of (by kernel_rfl)) (by decide +kernel)) (ae (ic 8 (d:=.tuple [.tuple [.str "a",.str "b"],.tuple [.tuple [.str "a",.str "b"],.tuple [.str "b",.str "a"]]]) (Lit.of (by kernel_rfl)) (by decide +kernel)) (aj))))))
  (ax (iU (tm (dv 2) (ic 8 (d:=.tuple [.tuple [.str "a",.str "b",.str "c"],.tuple [.tuple [.str "a",.str "b"],.tuple [.str "b",.str "c"],.tuple [.str "c",.str "a"]]]) (Lit.of (by kernel_rfl)) (by decide +kernel))))
  (ax (iU (tm (dv 2) (ic 8 (d:=.tuple [.tuple [.str "a",.str "b",.str "c",.str "d"],.tuple [.tuple [.str "a",.str "b"],.tuple [.str "b",.str "c"],.tuple [.str "c",.str "d"],.tuple [.str "d",.str "a"]]]) (Lit.of (by kernel_rfl)) (by decide +kernel))))
  (aC (aZ (yb (ae (bz H__law_web bg (hr.mono (by omega)) (by rfl) (ae (dv 0) (ae (dv 1) (aj)))) (ae (bz H__law_web bg (hr.mono (by omega)) (by rfl) (ae (dv 0) (ae (dv 1) (aj)))) (ae (cG (bh hr) (dv 2) (bz H__law_draw bg (hr.mono (by omega)) (by rfl) (ae (dv 0) (ae (aI) (aj)))) (fun _ _=>rfl)) (aj))))))))))).iC) (by kernel_rfl)
abbrev ip:Stmt:=top 37
theorem j5:aU ["_law_strikes", "_law_changes", "_law_left"] ["_law_strikes", "_law_changes"] (aD ip):=⟨rfl,rfl,rfl,by decide +kernel,rfl,by decide +kernel,by decide +kernel⟩
theorem iI:(["_law_one", "_law_strikes", "_law_changes", "_law_left"]:List Str).Nodup:=by decide +kernel
theorem sD (D:Df K mg "_law_turned" ["_law_strikes", "_law_changes"] ip) (T:Txt K mg):aL P w K mg base "_law_turned" ["_law_strikes", "_law_changes"] 1 dh:=
 aL.eq (Df.has (k:=0) D j5 (fun f cdv A outer s H E hr=>
  ax (i8 2 j5.nd (cO oA (gf ["_law_one"] (by rfl) rfl (cw (dv 0)) (fun _ _ _ _ _=>dg 0 iI) (fun _ _ _ _ _=>gX (cg (qA hr) (dv 0) (dv 2) (by rfl))) (fun _ _ _ _ _=>dv 0)) (gf ["_law_one"] (by rfl) rfl (cw (dv 1)) (fun _ _ _ _ _=>dg 0 iI) (fun _ _ _ _ _=>gX (cg (qA hr) (dv 0) (dv 1) (by rfl))) (fun _ _ _ _ _=>dv 0))))
  (aC (aZ (kE (iX rfl) T.n_tuple dF (ae (zG (wa hr) T.n_sorted sN (ae (dv 2) (aj))) (aj))))))) (by kernel_rfl)
abbrev iq:Stmt:=top 38
theorem j6:aU ["_law_pen_here", "_law_web_here", "_law_more"] ["_law_pen_here", "_law_web_here"] (aD iq):=⟨rfl,rfl,rfl,by decide +kernel,rfl,by decide +kernel,by decide +kernel⟩
theorem n9:(["_law_name", "_law_pen_here", "_law_web_here", "_law_more"]:List Str).Nodup:=by decide +kernel
theorem sE (D:Df K mg "_law_selves" ["_law_pen_here", "_law_web_here"] iq) (T:Txt K mg) (H__law_draw:aL P w K mg base "_law_draw" ["_law_pen_here", "_law_many"] 1 aF):aL P w K mg base "_law_selves" ["_law_pen_here", "_law_web_here"] 2 dk:=
 aL.eq (Df.has (k:=1) D j6 (fun f cdv A outer s H E hr=>
  ax (uF (i:=2) ["_law_name"] j6.nd rfl rfl (by rfl) rfl (cw (cG (bh hr) (dv 1) (aI) (fun _ _=>rfl))) (fun _ _ _ _ _=>dg 0 n9) (fun _ _ _ _ _=>gX (cg (uH hr) (bz H__law_draw cE (hr.mono (by omega)) (by rfl) (ae (dv 1) (ae (aI) (aj)))) (aI) (by rfl))) (fun _ _ _ _ _=>cj (ae (dv 0) (ae (dv 0) (aj)))))
  (aC (aZ (cj (ae (cG (bh hr) (dv 1) (aI) (fun _ _=>rfl)) (ae (kE (iX rfl) T.n_tuple dF (ae (yz rfl hr T.n_sorted T.n_set (cO oA (kE (HX rfl) T.n_list Ex (ae (cG (bh hr) (dv 1) (aI) (fun _ _=>rfl)) (aj))) (dv 2))) (aj))) (aj)))))))) (by kernel_rfl)
abbrev fi:Stmt:=top 39
theorem cW:aU ["_law_web_here", "_law_least", "_law_most", "_law_kind", "_law_many", "_law_strike"] ["_law_web_here", "_law_least", "_law_most", "_law_kind"] (aD fi):=⟨rfl,rfl,rfl,by decide +kernel,rfl,by decide +kernel,by decide +kernel⟩
theorem m7 (D:Df K mg "_law_many_right" ["_law_web_here", "_law_least", "_law_most", "_law_kind"] fi) (T:Txt K mg) (H_how_many:aL P w K mg base "how_many" ["web", "kind"] 7 jb):aL P w K mg base "_law_many_right" ["_law_web_here", "_law_least", "_law_most", "_law_kind"] 8 cJ:=
 aL.eq (Df.has (k:=7) D cW (fun f cdv A outer s H E hr=>
  ax (i8 4 cW.nd (bz H_how_many bg (hr.mono (by omega)) (by rfl) (ae (dv 0) (ae (dv 3) (aj)))))
  (ax (iV rfl (cw (cG (bh hr) (dv 2) (aI) (fun _ _=>rfl))) (dg 5 cW.nd) (aC (fv (cg (qA hr) (dv 5) (cG (bh hr) (dv 1) (aI) (fun _ _=>rfl)) (by rfl)) (ax (fv (cg (uH hr) (cO sV (dv 4) (aI)) (aI) (by rfl)) (aC (aZ (cU))) (cy))
  (aC (i8 4 cW.nd (cO B6 (dv 4) (aI))))) (cy))))
  (aC (aZ (dZ (uH hr) (dv 4) (aI) (by rfl))))))) (by kernel_rfl)
abbrev ji:Stmt:=top 40
theorem bT:aU ["_law_pen_here", "_law_web_here", "_law_kind", "_law_least", "_law_most", "_law_some", "_law_one", "_law_first", "_law_second", "_law_two", "_law_other"] ["_law_pen_here", "_law_web_here", "_law_kind"] (aD ji):=⟨rfl,rfl,rfl,by decide +kernel,rfl,by decide +kernel,by decide +kernel⟩
theorem o6:(["_law_strike", "_law_pen_here", "_law_web_here", "_law_kind", "_law_least", "_law_most", "_law_some", "_law_one", "_law_first", "_law_second", "_law_two", "_law_other"]:List Str).Nodup:=by decide +kernel
theorem vb (D:Df K mg "_law_right" ["_law_pen_here", "_law_web_here", "_law_kind"] ji) (T:Txt K mg) (H_kernel:aL P w K mg base "kernel" ["web", "kind"] 5 bZ) (H_are_alike:aL P w K mg base "are_alike" ["one", "other", "kind"] 6 dI) (H__law_turned:aL P w K mg base "_law_turned" ["_law_strikes", "_law_changes"] 1 dh) (H__law_many_right:aL P w K mg base "_law_many_right" ["_law_web_here", "_law_least", "_law_most", "_law_kind"] 8 cJ) (H_fullest:aL P w K mg base "fullest" ["web", "kind"] 6 dS) (H__law_draw:aL P w K mg base "_law_draw" ["_law_pen_here", "_law_many"] 1 aF) (H__law_within:aL P w K mg base "_law_within" ["_law_one", "_law_other"] 1 eK):aL P w K mg base "_law_right" ["_law_pen_here", "_law_web_here", "_law_kind"] 9 cV:=
 aL.eq (Df.has (k:=8) D bT (fun f cdv A outer s H E hr=>
  ax (jO (cj (ae (bz H_kernel bg (hr.mono (by omega)) (by rfl) (ae (dv 1) (ae (dv 2) (aj)))) (ae (bz H_fullest bg (hr.mono (by omega)) (by rfl) (ae (dv 1) (ae (dv 2) (aj)))) (aj)))) (jN rfl (bW (dg 3 bT.nd) (bW (dg 4 bT.nd) (gV))) (bo (bo (eR)))))
  (ax (fv (DW.dt (jr (fz (cH (bz H__law_within bg (hr.mono (by omega)) (by rfl) (ae (cG (bh hr) (dv 3) (aI) (fun _ _=>rfl)) (ae (cG (bh hr) (dv 1) (aI) (fun _ _=>rfl)) (aj)))))) (gE (fz (cH (bz H__law_within bg (hr.mono (by omega)) (by rfl) (ae (cG (bh hr) (dv 1) (aI) (fun _ _=>rfl)) (ae (cG (bh hr) (dv 4) (aI) (fun _ _=>rfl)) (aj))))))))) (aC (aZ (cU))) (cy))
  (ax (uF (i:=5) ["_law_strike"] bT.nd rfl rfl (by rfl) rfl (cw (cG (bh hr) (dv 4) (aI) (fun _ _=>rfl))) (fun _ _ _ _ _=>dg 0 o6) (fun _ _ _ _ _=>gX (DW.dt (jr (cg (mP hr) (dv 0) (cG (bh hr) (dv 4) (aI) (fun _ _=>rfl)) (by rfl)) (gE (cg (uH hr) (bz H__law_draw cE (hr.mono (by omega)) (by rfl) (ae (dv 1) (ae (aI) (aj)))) (aI) (by rfl)))))) (fun _ _ _ _ _=>dv 0))
  (ax (iV rfl (cw (yb (ae (dv 3) (ae (dv 4) (ae (dv 1) (ae (cj (ae (cG (bh hr) (dv 1) (aI) (fun _ _=>rfl)) (ae (kE (iX rfl) T.n_tuple dF (ae (dv 5) (aj))) (aj)))) (aj))))))) (dg 6 bT.nd) (ax (fv (DW.dt (jr (cg (B3 hr) (bz H_kernel cE (hr.mono (by omega)) (by rfl) (ae (dv 6) (ae (dv 2) (aj)))) (dv 3) (by rfl)) (jr (cg (B3 hr) (bz H_fullest cE (hr.mono (by omega)) (by rfl) (ae (dv 6) (ae (dv 2) (aj)))) (dv 4) (by rfl)) (gE (fz (cH (bz H__law_many_right cE (hr.mono (by omega)) (by rfl) (ae (dv 6) (ae (dv 3) (ae (dv 4) (ae (dv 2) (aj)))))))))))) (aC (aZ (cU))) (cy))
  (aC (fv (fz (cH (bz H_are_alike cE (hr.mono (by omega)) (by rfl) (ae (dv 6) (ae (dv 1) (ae (dv 2) (aj))))))) (aC (aZ (cU))) (cy)))))
  (ax (iV rfl (cw (cG (bh hr) (dv 1) (aI) (fun _ _=>rfl))) (dg 7 bT.nd) (aC (iV rfl (cw (cG (bh hr) (dv 1) (aI) (fun _ _=>rfl))) (dg 8 bT.nd) (ax (i8 9 bT.nd (cj (ae (dv 7) (ae (dv 8) (aj)))))
  (aC (fv (DW.dt (jr (cg (mP hr) (dv 9) (cG (bh hr) (dv 3) (aI) (fun _ _=>rfl)) (by rfl)) (gE (cg (qA hr) (dv 9) (cG (bh hr) (dv 4) (aI) (fun _ _=>rfl)) (by rfl))))) (ax (i8 10 bT.nd (cj (ae (cG (bh hr) (dv 1) (aI) (fun _ _=>rfl)) (ae (bz H__law_turned cE (hr.mono (by omega)) (by rfl) (ae (cG (bh hr) (dv 1) (aI) (fun _ _=>rfl)) (ae (cj (ae (dv 9) (aj))) (aj)))) (aj)))))
  (aC (fv (DW.dt (jr (cH (bz H_are_alike cE (hr.mono (by omega)) (by rfl) (ae (dv 10) (ae (dv 1) (ae (dv 2) (aj)))))) (gE (cg (uH hr) (bz H_kernel cE (hr.mono (by omega)) (by rfl) (ae (dv 10) (ae (dv 2) (aj)))) (dv 3) (by rfl))))) (aC (aZ (cU))) (cy)))) (cy)))))))
  (aC (aZ (cU))))))))) (by kernel_rfl)
abbrev m8:Stmt:=top 41
theorem og:aU ["_law_script", "_law_cell_here", "_law_pen_here", "_law_plain", "_law_web_here", "_law_kind"] ["_law_script"] (aD m8):=⟨rfl,rfl,rfl,by decide +kernel,rfl,by decide +kernel,by decide +kernel⟩
theorem Io {f:Addr} {fd:FuncData} (Fu:F3 K "law" "law" m8 f fd) (T:Txt K mg) (H__law_cell:aL P w K mg base "_law_cell" ["_law_script", "_law_k"] 1 dJ) (H__law_some_webs:aL P w K mg base "_law_some_webs" ["_law_pen_here", "_law_most"] 4 cP) (H__law_kernel_kinds:aL P w K mg base "_law_kernel_kinds" [] 1 b0) (H__law_right:aL P w K mg base "_law_right" ["_law_pen_here", "_law_web_here", "_law_kind"] 9 cV) (H__law_selves:aL P w K mg base "_law_selves" ["_law_pen_here", "_law_web_here"] 2 dk) (H__law_pen:aL P w K mg base "_law_pen" ["_law_cell_here"] 1 fB):iy P w K mg base (rT P w) 10 f fd ["_law_script"] (DM ⟨P,w,mg,K⟩ zJ):=
 H0 (MR (k:=9) Fu og (fun cdv A outer s H E hr=>
  ax (iV rfl (cw (cO oA (yb (ae (bz H__law_cell cE (hr.mono (by omega)) (by rfl) (ae (dv 0) (ae (aI) (aj)))) (aj))) (AX (dv 0) (uM (aI)) (uM (aI))))) (dg 1 og.nd) (ax (i8 2 og.nd (bz H__law_pen cE (hr.mono (by omega)) (by rfl) (ae (dv 1) (aj))))
  (aC (iV rfl (cw (bz H__law_some_webs cE (hr.mono (by omega)) (by rfl) (ae (dv 2) (ae (aI) (aj))))) (dg 3 og.nd) (ax (i8 4 og.nd (bz H__law_selves cE (hr.mono (by omega)) (by rfl) (ae (dv 2) (ae (dv 3) (aj)))))
  (aC (iV rfl (cw (HQ H__law_kernel_kinds cE (hr.mono (by omega)) (by rfl))) (dg 5 og.nd) (aC (fv (fz (cH (bz H__law_right cE (hr.mono (by omega)) (by rfl) (ae (dv 2) (ae (dv 4) (ae (dv 5) (aj))))))) (aC (aZ (cU))) (cy))))))))))
  (aC (aZ (cU))))) (by kernel_rfl)
end
end K15
namespace Ml
open PySem
@[simp] theorem L5 (i:Nat) (ρ:Fm) (h:Hm):ab i ρ h=(match ρ[i]? with
 | some (some d)=>.ok d h
 | _=>.bad):=rfl
@[simp] theorem L6 (d:PyData) (z0:Fm) (h:Hm):ah d z0 h=(.ok (.dat d) h):=rfl
@[simp] theorem MW (n:Str) (z0:Fm) (h:Hm):Nk n z0 h=(.ok (.fn n) h):=rfl
@[simp] theorem L7  (z0:Fm) (h:Hm):ak  z0 h=(.ok [] h):=rfl
@[simp] theorem Kv (e:ME) (a:MA) (ρ:Fm) (h:Hm):aa e a ρ h=((e ρ h).bind fun x h1=>(a ρ h1).bind fun xs h2=>.ok (x::xs) h2):=rfl
@[simp] theorem L8 (f:D->D->Hm->R D) (a b:ME) (ρ:Fm) (h:Hm):au f a b ρ h=((a ρ h).bind fun x h1=>(b ρ h1).bind fun y h2=>f x y h2):=rfl
@[simp] theorem MX (f:D->Hm->R D) (a:ME) (ρ:Fm) (h:Hm):F9 f a ρ h=((a ρ h).bind fun x h1=>f x h1):=rfl
@[simp] theorem Kw (f:Fn) (a:MA) (ρ:Fm) (h:Hm):ai f a ρ h=((a ρ h).bind fun xs h1=>f xs h1):=rfl
@[simp] theorem Kx (e:ME) (ρ:Fm) (h:Hm):aN e ρ h=((e ρ h).bind fun x h1=>match x with
 | .dat (.bool b)=>.ok b h1
 | _=>.bad):=rfl
@[simp] theorem L9 (t:MT) (ρ:Fm) (h:Hm):fT t ρ h=((t ρ h).bind fun b h1=>.ok (!b) h1):=rfl
@[simp] theorem Ma (t u:MT) (ρ:Fm) (h:Hm):vF t u ρ h=((t ρ h).bind fun b h1=>if b then u ρ h1 else .ok false h1):=rfl
@[simp] theorem MY (t u:MT) (ρ:Fm) (h:Hm):lY t u ρ h=((t ρ h).bind fun b h1=>if b then .ok true h1 else u ρ h1):=rfl
@[simp] theorem Mb (a b:ME) (ρ:Fm) (h:Hm):LO a b ρ h=((aN a ρ h).bind fun c h1=>if c then b ρ h1 else .ok (.bool false) h1):=rfl
@[simp] theorem MZ (a b:ME) (ρ:Fm) (h:Hm):Nl a b ρ h=((aN a ρ h).bind fun c h1=>if c then .ok (.bool true) h1 else b ρ h1):=rfl
@[simp] theorem Mc (a:ME) (ρ:Fm) (h:Hm):LP a ρ h=((aN a ρ h).bind fun c h1=>.ok (.bool !c) h1):=rfl
@[simp] theorem M0 (t:MT) (a b:ME) (ρ:Fm) (h:Hm):Nn t a b ρ h=((t ρ h).bind fun c h1=>if c then a ρ h1 else b ρ h1):=rfl
@[simp] theorem Md (a:MA):cC a=(ai jE a:ME):=rfl
@[simp] theorem Me (a:MA):vU a=(ai fP a:ME):=rfl
@[simp] theorem Mf (a:MA):vV a=(ai BN a:ME):=rfl
@[simp] theorem Ky  (ρ:Fm) (h:Hm):cB  ρ h=(.ok (.nx ρ) h):=rfl
@[simp] theorem Mg (a b:MS) (ρ:Fm) (h:Hm):bC a b ρ h=((a ρ h).bind fun f h1=>match f with
 | .nx ρ1=>b ρ1 h1
 | f=>.ok f h1):=rfl
@[simp] theorem Mh (i:Nat) (e:ME) (ρ:Fm) (h:Hm):cn i e ρ h=((e ρ h).bind fun x h1=>.ok (.nx (ρ.set i (some x))) h1):=rfl
@[simp] theorem Kz (e:ME) (ρ:Fm) (h:Hm):jF e ρ h=((e ρ h).bind fun _ h1=>.ok (.nx ρ) h1):=rfl
@[simp] theorem Mi (e:ME) (ρ:Fm) (h:Hm):bX e ρ h=((e ρ h).bind fun x h1=>.ok (.rt x) h1):=rfl
@[simp] theorem M1 (t:MT) (a b:MS) (ρ:Fm) (h:Hm):jy t a b ρ h=((t ρ h).bind fun c h1=>if c then a ρ h1 else b ρ h1):=rfl
@[simp] theorem J0  (ρ:Fm) (h:Hm):HA  ρ h=(.ok (.bk ρ) h):=rfl
@[simp] theorem KA  (ρ:Fm) (h:Hm):JJ  ρ h=(.ok (.ct ρ) h):=rfl
@[simp] theorem KC (i:Nat) (x:D) (ρ:Fm) (h:Hm):ay i x ρ h=(.ok (ρ.set i (some x)) h):=rfl
@[simp] theorem Mj  (xs:List D) (ρ:Fm) (h:Hm):jA  xs ρ h=(match xs with
 | []=>.ok ρ h
 | _=>.bad):=rfl
@[simp] theorem KD (g:MG) (gs:zd) (xs:List D) (ρ:Fm) (h:Hm):cA g gs xs ρ h=(match xs with
 | []=>.bad
 | x::xs=>(g x ρ h).bind fun ρ1 h1=>gs xs ρ1 h1):=rfl
@[simp] theorem Mk (gs:zd) (x:D) (ρ:Fm) (h:Hm):jB gs x ρ h=(match x with
 | .dat (.tuple ds)=>gs (ds.map D.dat) ρ h
 | _=>.bad):=rfl
@[simp] theorem Mm (g:MG) (e:ME) (ρ:Fm) (h:Hm):kG g e ρ h=((e ρ h).bind fun x h1=>(g x ρ h1).bind fun ρ1 h2=>.ok (.nx ρ1) h2):=rfl
@[simp] theorem Mn (is:List Nat) (a:MA) (ρ:Fm) (h:Hm):LQ is a ρ h=((a ρ h).bind fun xs h1=>match jG is xs ρ with
 | some ρ1=>.ok (.nx ρ1) h1
 | Option.none=>.bad):=rfl
@[simp] theorem KG (e:ME) (ρ:Fm) (h:Hm):ze e ρ h=((e ρ h).bind fun x h1=>match x with
 | .dat (.tuple ds)=>.ok (ds.map D.dat) h1
 | _=>.bad):=rfl
@[simp] theorem KH (e:ME) (ρ:Fm) (h:Hm):BO e ρ h=((e ρ h).bind fun x h1=>match x with
 | .dat (.list ds)=>.ok (ds.map D.dat) h1
 | _=>.bad):=rfl
@[simp] theorem KI (e:ME) (ρ:Fm) (h:Hm):BP e ρ h=((e ρ h).bind fun x h1=>match x with
 | .dat (.str s)=>.ok (signs s) h1
 | _=>.bad):=rfl
@[simp] theorem KJ (e:ME) (ρ:Fm) (h:Hm):aR e ρ h=(match e ρ h with
 | .ok (.dat (.tuple ds)) h1=>.ok (ds.map D.dat) h1
 | .ok (.dat (.list ds)) h1=>.ok (ds.map D.dat) h1
 | .ok (.dat (.str s)) h1=>.ok (signs s) h1
 | .ok (.ktup ds) h1=>.ok (ds.map D.dat) h1
 | .exc x h1=>.exc x h1
 | _=>.bad):=rfl
@[simp] theorem KL (a:MA) (ρ:Fm) (h:Hm):oq a ρ h=((a ρ h).bind fun xs h1=>match xs with
 | [.dat (.int j)]=>if -(2 ^ 62)<=j/\j < 2 ^ 62 then .ok (nums 0 j.toNat) h1 else .bad
 | _=>.bad):=rfl
@[simp] theorem J1 (a:MA) (ρ:Fm) (h:Hm):HB a ρ h=((a ρ h).bind fun xs h1=>match xs with
 | [.dat (.int i),.dat (.int j)]=>if -(2 ^ 62)<=i/\i < 2 ^ 62/\-(2 ^ 62)<=j/\j < 2 ^ 62 then .ok (nums i (j - i).toNat) h1 else .bad
 | _=>.bad):=rfl
@[simp] theorem KN (a:MA) (ρ:Fm) (h:Hm):zf a ρ h=((a ρ h).bind fun xs h1=>match xs with
 | [.dat (.tuple ds),.dat (.tuple es)]=>.ok (kH ds es) h1
 | _=>.bad):=rfl
@[simp] theorem Mo (it:MA) (g:MG) (b:MS) (ρ:Fm) (h:Hm):jH it g b ρ h=((it ρ h).rV.bind fun xs h1=>dA g b xs ρ h1):=rfl
@[simp] theorem KO  (z0:Fm) (h:Hm):dG  z0 h=(.ok true h):=rfl
@[simp] theorem KP (p n:Nat) (b:MS) (xs:List D) (h:Hm):bI p n b xs h=(if xs.length=p then (b (xs.map some++List.replicate (n - p) none) h).bind qc else .bad):=rfl
@[simp] theorem KQ (x:D) (h:Hm):truth x h=(match x with
 | .dat .none=>some false
 | .dat (.bool b)=>some b
 | .dat (.int i)=>some (i != 0)
 | .dat (.str s)=>if kF s.length then some ((s.length:Int) != 0) else Option.none
 | .dat (.tuple ds)=>some !ds.isEmpty
 | .dat (.list ds)=>some !ds.isEmpty
 | .ref i=>match h[i]? with
  | some (.lst xs)=>some !xs.isEmpty
  | _=>Option.none
 | _=>Option.none:Option Bool):=rfl
@[simp] theorem J9 (e:ME) (ρ:Fm) (h:Hm):bP e ρ h=((e ρ h).bind fun x h1=>match truth x h1 with
 | some b=>.ok b h1
 | Option.none=>.bad):=rfl
@[simp] theorem Mp (a b:ME) (ρ:Fm) (h:Hm):E0 a b ρ h=((a ρ h).bind fun x h1=>match truth x h1 with
 | some c=>if c then .ok x h1 else b ρ h1
 | none=>.bad):=rfl
@[simp] theorem KR (a b:ME) (ρ:Fm) (h:Hm):mQ a b ρ h=((a ρ h).bind fun x h1=>match truth x h1 with
 | some c=>if c then b ρ h1 else .ok x h1
 | none=>.bad):=rfl
@[simp] theorem Ka (f g:D->D->Hm->R D) (a b c:ME) (ρ:Fm) (h:Hm):lH f g a b c ρ h=((a ρ h).bind fun x h1=>(b ρ h1).bind fun y h2=>(f x y h2).bind fun z h3=>match z with
 | .dat (.bool k)=>if k then (c ρ h3).bind fun w h4=>g y w h4 else .ok (.bool false) h3
 | _=>.bad):=rfl
@[simp] theorem M3 (e:ME) (lo hi:DL) (ρ:Fm) (h:Hm):Ku e lo hi ρ h=((e ρ h).bind fun x h1=>(lo ρ h1).bind fun l h2=>(hi ρ h2).bind fun u h3=>JL x l u h3):=rfl
@[simp] theorem KU  (z0:Fm) (h:Hm):zh  z0 h=(.ok Option.none h):=rfl
@[simp] theorem KW (e:ME) (ρ:Fm) (h:Hm):kS e ρ h=((e ρ h).bind fun x h1=>match x with
 | .dat (.int i)=>.ok (some i) h1
 | _=>.bad):=rfl
@[simp] theorem M4 (x:D) (lo hi:Option Int) (h:Hm):JL x lo hi h=(match x with
 | .dat (.tuple ds)=>.ok (.dat (.tuple (cut ds lo hi))) h
 | .dat (.list ds)=>.ok (.dat (.list (cut ds lo hi))) h
 | _=>.bad:R D):=rfl
@[simp] theorem Mq (f:PyData->Bool) (x:D) (h:Hm):vW f x h=(match x with
 | .dat d=>.ok (.bool (f d)) h
 | _=>.bad):=rfl
@[simp] theorem Mr (x y:D) (h:Hm):BQ x y h=(match x,y with
 | .dat (.int i),.dat (.int j)=>.ok (.int (i - j)) h
 | _,_=>.bad:R D):=rfl
@[simp] theorem M5 (x y:D) (h:Hm):Kt x y h=(match x,y with
 | .dat (.int i),.dat (.int j)=>.ok (.bool (decide (j < i))) h
 | _,_=>.bad:R D):=rfl
@[simp] theorem M6 (x y:D) (h:Hm):JK x y h=(match x,y with
 | .dat (.int i),.dat (.int j)=>.ok (.bool (decide (j<=i))) h
 | _,_=>.bad:R D):=rfl
@[simp] theorem Ms (x:D) (h:Hm):LR x h=(match x with
 | .dat (.int i)=>.ok (.int (-i)) h
 | _=>.bad:R D):=rfl
@[simp] theorem IZ (ρ:Fm):jG [] [] ρ=some ρ:=rfl
@[simp] theorem I0 (i:Nat) (is:List Nat) (x:D) (xs:List D) (ρ:Fm):jG (i::is) (x::xs) ρ=jG is xs (ρ.set i (some x)):=rfl
@[simp] theorem Ja (i:Nat) (is:List Nat) (ρ:Fm):jG (i::is) [] ρ=none:=rfl
@[simp] theorem Jb (x:D) (xs:List D) (ρ:Fm):jG [] (x::xs) ρ=none:=rfl
@[simp] theorem KY (d:D) (h:Hm):qc (.rt d) h=.ok d h:=rfl
@[simp] theorem KZ (ρ:Fm) (h:Hm):qc (.nx ρ) h=.ok D.none h:=rfl
@[simp] theorem K0 (ρ:Fm) (h:Hm):qc (.bk ρ) h=.bad:=rfl
@[simp] theorem K1 (ρ:Fm) (h:Hm):qc (.ct ρ) h=.bad:=rfl
@[simp] theorem Ff  : isTup .none=false:=rfl
@[simp] theorem Fg (b:Bool):isTup (.bool b)=false:=rfl
@[simp] theorem Gi (i:Int):isTup (.int i)=false:=rfl
@[simp] theorem Gj (s:Str):isTup (.str s)=false:=rfl
@[simp] theorem DN (xs:List PyData):isTup (.tuple xs)=true:=rfl
@[simp] theorem Fh (xs:List PyData):isTup (.list xs)=false:=rfl
@[simp] theorem Fi (xs:List (PyData×PyData)):isTup (.dict xs)=false:=rfl
@[simp] theorem Fj  : isStr .none=false:=rfl
@[simp] theorem Fo (b:Bool):isStr (.bool b)=false:=rfl
@[simp] theorem Gk (i:Int):isStr (.int i)=false:=rfl
@[simp] theorem Gm (s:Str):isStr (.str s)=true:=rfl
@[simp] theorem DP (xs:List PyData):isStr (.tuple xs)=false:=rfl
@[simp] theorem Fp (xs:List PyData):isStr (.list xs)=false:=rfl
@[simp] theorem Fq (xs:List (PyData×PyData)):isStr (.dict xs)=false:=rfl
@[simp] theorem Fs  : isInt .none=false:=rfl
@[simp] theorem Ft (b:Bool):isInt (.bool b)=true:=rfl
@[simp] theorem Gn (i:Int):isInt (.int i)=true:=rfl
@[simp] theorem Gp (s:Str):isInt (.str s)=false:=rfl
@[simp] theorem DQ (xs:List PyData):isInt (.tuple xs)=false:=rfl
@[simp] theorem Fv (xs:List PyData):isInt (.list xs)=false:=rfl
@[simp] theorem Fw (xs:List (PyData×PyData)):isInt (.dict xs)=false:=rfl
@[simp] theorem Fx  : qe .none=false:=rfl
@[simp] theorem Fy (b:Bool):qe (.bool b)=true:=rfl
@[simp] theorem Gq (i:Int):qe (.int i)=false:=rfl
@[simp] theorem Gr (s:Str):qe (.str s)=false:=rfl
@[simp] theorem DR (xs:List PyData):qe (.tuple xs)=false:=rfl
@[simp] theorem Fz (xs:List PyData):qe (.list xs)=false:=rfl
@[simp] theorem FA (xs:List (PyData×PyData)):qe (.dict xs)=false:=rfl
@[simp] theorem rep0 {α:Type} (a:α):List.replicate 0 a=[]:=rfl
@[simp] theorem rep1 {α:Type} (a:α):List.replicate 1 a=[a]:=rfl
@[simp] theorem rep2 {α:Type} (a:α):List.replicate 2 a=[a,a]:=rfl
@[simp] theorem rep3 {α:Type} (a:α):List.replicate 3 a=[a,a,a]:=rfl
@[simp] theorem Nu {α:Type} (a:α):List.replicate 4 a=[a,a,a,a]:=rfl
@[simp] theorem Nv {α:Type} (a:α):List.replicate 5 a=[a,a,a,a,a]:=rfl
@[simp] theorem Nw {α:Type} (a:α):List.replicate 6 a=[a,a,a,a,a,a]:=rfl
@[simp] theorem Ny {α:Type} (a:α):List.replicate 7 a=[a,a,a,a,a,a,a]:=rfl
@[simp] theorem Nz {α:Type} (a:α):List.replicate 8 a=[a,a,a,a,a,a,a,a]:=rfl
@[simp] theorem NA {α:Type} (a:α):List.replicate 9 a=[a,a,a,a,a,a,a,a,a]:=rfl
theorem sz {n:Nat} (h:n<=16777216):kF n=true:=NV h
@[simp] theorem ko (ds:List PyData) (h:Hm) (hz:ds.length<=16777216):jE (ds.map D.dat) h=.ok (.dat (.tuple ds)) h:=by simp [jE,nG,sz hz]
theorem cQ (ds:List PyData) (h:Hm) (hz:ds.length<=16777216):fP (ds.map D.dat) h=.ok (.dat (.list ds)) h:=by simp [fP,nG,sz hz]
@[simp] theorem Mt (h:Hm):jE [] h=.ok (.dat (.tuple [])) h:=ko [] h (by decide)
@[simp] theorem Ip (a:PyData) (h:Hm):jE [.dat a] h=.ok (.dat (.tuple [a])) h:=ko [a] h (by simp)
@[simp] theorem Iq (a b:PyData) (h:Hm):jE [.dat a,.dat b] h=.ok (.dat (.tuple [a,b])) h:=ko [a,b] h (by simp)
@[simp] theorem Ir (a b c:PyData) (h:Hm):jE [.dat a,.dat b,.dat c] h=.ok (.dat (.tuple [a,b,c])) h:=ko [a,b,c] h (by simp)
@[simp] theorem Mu (h:Hm):fP [] h=.ok (.dat (.list [])) h:=cQ [] h (by decide)
@[simp] theorem Iu (a:PyData) (h:Hm):fP [.dat a] h=.ok (.dat (.list [a])) h:=cQ [a] h (by simp)
@[simp] theorem Mv (a b:PyData) (h:Hm):fP [.dat a,.dat b] h=.ok (.dat (.list [a,b])) h:=cQ [a,b] h (by simp)
@[simp] theorem Iv (a b c:PyData) (h:Hm):fP [.dat a,.dat b,.dat c] h=.ok (.dat (.list [a,b,c])) h:=cQ [a,b,c] h (by simp)
theorem oR {n:Nat} {ρ:Fm} {g:MG} {t:MT} {e:ME} {h:Hm} (c:D->Bool) (f:D->D):∀ {xs:List D},(∀ x∈xs,∃ ρ1,g x (List.replicate n none++ρ) h=.ok ρ1 h/\t ρ1 h=.ok (c x) h/\(c x=true->e ρ1 h=.ok (f x) h))->dw n ρ g t e xs h=.ok ((xs.filter c).map f) h
 | [],_=>rfl
 | x::xs,H=>by
  obtain ⟨ρ1,h1,h2,h3⟩:=H x (NU ..)
  have ih:=oR c f (xs:=xs) fun y hy=>H y (NO _ hy)
  unfold dw
  rw [h1]
  simp only [R.bq,R.ao]
  rw [h2]
  simp only [R.bq,R.ao]
  cases hc:c x with
  | false=>simp only [NP,Ou,Pn,hc];exact ih
  | true=>
   simp only [Ot,Pn,hc]
   rw [h3 hc]
   simp only [R.bq,R.ao]
   rw [ih]
   rfl
theorem qY {n:Nat} {it:MA} {g:MG} {t:MT} {e:ME} {ρ:Fm} {h h1:Hm} {xs:List D} (hit:it ρ h=.ok xs h1) (hz:xs.length<=16777216) (c:D->Bool) (f:D->PyData)
  (H:∀ x∈xs,∃ ρ1,g x (List.replicate n none++ρ) h1=.ok ρ1 h1/\t ρ1 h1=.ok (c x) h1/\(c x=true->e ρ1 h1=.ok (.dat (f x)) h1)):cL n it g t e ρ h=.ok (.dat (.list ((xs.filter c).map f))) h1:=by
 unfold cL ai jI
 rw [hit]
 simp only [R.ao,sz hz,Ot]
 rw [oR c (fun x=>.dat (f x)) H]
 simp only [R.ao]
 have e1:(List.map (fun x=>D.dat (f x)) (List.filter c xs))=((xs.filter c).map f).map D.dat:=by simp
 rw [e1]
 exact cQ _ _ (by
  rw [NZ]
  exact NS (Pg _ _) hz)
theorem kq {n:Nat} {it:MA} {g:MG} {e:ME} {ρ:Fm} {h h1:Hm} {ds:List PyData} (hit:it ρ h=.ok (ds.map D.dat) h1) (hz:ds.length<=16777216) (f:PyData->PyData)
  (H:∀ x∈ds,∃ ρ1,g (.dat x) (List.replicate n none++ρ) h1=.ok ρ1 h1/\e ρ1 h1=.ok (.dat (f x)) h1):cL n it g dG e ρ h=.ok (.dat (.list (ds.map f))) h1:=by
 have:=qY (n:=n) (t:=dG) (g:=g) (e:=e) hit (by simpa using hz) (fun _=>true) (fun x=>match x with | .dat d=>f d | _=>.none) (fun x hx=>by
  obtain ⟨d,hd,rfl⟩:=Oe.mp hx
  obtain ⟨ρ1,a,b⟩:=H d hd
  exact ⟨ρ1,a,rfl,fun _=>b⟩)
 rw [this,show (fun _:D=>true)=fun _=>true from rfl,List.filter_eq_self.mpr (fun _ _=>rfl),Rh]
 rfl
theorem ku {n:Nat} {it:MA} {g:MG} {t:MT} {e:ME} {ρ:Fm} {h h1:Hm} {ds:List PyData} (hit:it ρ h=.ok (ds.map D.dat) h1) (hz:ds.length<=16777216) (c:PyData->Bool) (f:PyData->PyData)
  (H:∀ x∈ds,∃ ρ1,g (.dat x) (List.replicate n none++ρ) h1=.ok ρ1 h1/\t ρ1 h1=.ok (c x) h1/\(c x=true->e ρ1 h1=.ok (.dat (f x)) h1)):cL n it g t e ρ h=.ok (.dat (.list ((ds.filter c).map f))) h1:=by
 have:=qY (n:=n) (t:=t) (g:=g) (e:=e) hit (by simpa using hz) (fun x=>match x with | .dat d=>c d | _=>false) (fun x=>match x with | .dat d=>f d | _=>.none) (fun x hx=>by
  obtain ⟨d,hd,rfl⟩:=Oe.mp hx
  obtain ⟨ρ1,a,b,k⟩:=H d hd
  exact ⟨ρ1,a,b,k⟩)
 rw [this]
 simp [List.filter_map,RP]
theorem yE (bs:List Bool) (h:Hm):uz [.dat (.list (bs.map .bool))] h=.ok (.bool (bs.all id)) h:=by simp [uz,AK]
theorem jj {n:Nat} {ρ:Fm} {g:MG} {t:MT} {e:ME} (I:Hm->Prop) (f:D->D->Prop):∀ {xs:List D} {h:Hm},(∀ x∈xs,∀ h,I h->∃ ρ1 h1 c h2,g x (List.replicate n none++ρ) h=.ok ρ1 h1/\t ρ1 h1=.ok c h2/\((c=false/\I h2)\/(c=true/\∃ y h3,e ρ1 h2=.ok y h3/\f x y/\I h3)))->I h ->
  ∃ ys zs h',dw n ρ g t e xs h=.ok ys h'/\I h'/\zs.Sublist xs/\PySem.Paired f zs ys
 | [],h,_,a=>⟨[],[],h,rfl,a,.slnil,.nil⟩
 | x::xs,h,H,a=>by
  obtain ⟨ρ1,h1,c,h2,e1,e2,k⟩:=H x (NU ..) h a
  unfold dw
  rw [e1]
  simp only [R.bq,R.ao]
  rw [e2]
  simp only [R.bq,R.ao]
  rcases k with ⟨rfl,a2⟩ | ⟨rfl,y,h3,e3,fy,a3⟩
  ·obtain ⟨ys,zs,h',q1,q2,q3,q4⟩:=jj I f (xs:=xs) (fun y hy=>H y (NO _ hy)) a2
   exact ⟨ys,zs,h',by simpa using q1,q2,.cons _ q3,q4⟩
  ·obtain ⟨ys,zs,h',q1,q2,q3,q4⟩:=jj I f (xs:=xs) (fun y hy=>H y (NO _ hy)) a3
   refine ⟨y::ys,x::zs,h',?_,q2,.cons_cons _ q3,.cons fy q4⟩
   simp only [Ot]
   rw [e3]
   simp only [R.bq,R.ao]
   rw [q1]
   rfl
mutual
def o7:PyData->Bool
 | .none | .bool _=>true
 | .int i=>decide (i.natAbs < 10 ^ 30)
 | .str x=>PyData.strOk x
 | .tuple ds=>fZ ds
 | .list ds=>fZ ds
 | .dict _=>false
def fZ:List PyData->Bool
 | []=>true
 | d::ds=>o7 d && fZ ds
end
mutual
theorem xi:∀ {d:PyData},o7 d=true->d.canLay0=true
 | .none,_=>by simp [PyData.canLay0]
 | .bool _,_=>by simp [PyData.canLay0]
 | .int _,h=>by simp [PyData.canLay0]
 | .str x,h=>by simpa [PyData.canLay0,o7] using h
 | .tuple ds,h=>by simp only [o7] at h;simp only [PyData.canLay0];exact oh h
 | .list ds,h=>by simp only [o7] at h;simp only [PyData.canLay0];exact oh h
 | .dict _,h=>by simp [o7] at h
theorem oh:∀ {ds:List PyData},fZ ds=true->PyData.canLayAll0 ds=true
 | [],_=>by simp [PyData.canLayAll0]
 | d::ds,h=>by
  simp only [fZ,NG] at h
  simp only [PyData.canLayAll0,NG]
  exact ⟨xi h.1,oh h.2⟩
end
theorem m9:∀ (a b:List PyData),fZ (a++b)=(fZ a && fZ b)
 | [],b=>by simp [fZ]
 | d::a,b=>by simp [fZ,m9 a b,Bool.and_assoc]
theorem oS:∀ (a b:List PyData),PyData.weightAll (a++b)=PyData.weightAll a+PyData.weightAll b
 | [],b=>by simp [PyData.weightAll]
 | d::a,b=>by simp [PyData.weightAll,oS a b];omega
theorem oU:∀ (a b:List PyData),PyData.depthAll (a++b)=max (PyData.depthAll a) (PyData.depthAll b)
 | [],b=>by simp [PyData.depthAll]
 | d::a,b=>by simp only [Qi,PyData.depthAll,oU a b];omega
theorem xj:∀ (a:List PyData),a.length<=PyData.weightAll a
 | []=>by simp
 | d::a=>by
  have:=xj a
  rw [PyData.weightAll,N3]
  omega
theorem tS:∀ {ds:List PyData} {d:PyData},fZ ds=true->d∈ds->o7 d=true
 | e::ds,d,h,m=>by
  simp only [fZ,NG] at h
  rcases NJ.mp m with rfl | m
  ·exact h.1
  ·exact tS h.2 m
theorem xk:∀ {ds:List PyData},(∀ d∈ds,o7 d=true)->fZ ds=true
 | [],_=>rfl
 | d::ds,h=>by simp only [fZ,NG];exact ⟨h d (NU ..),xk fun e m=>h e (NO _ m)⟩
theorem tT:∀ {ds:List PyData} {d:PyData},d∈ds->d.depth<=PyData.depthAll ds
 | e::ds,d,m=>by
  simp only [PyData.depthAll]
  rcases NJ.mp m with rfl | m
  ·omega
  ·have:=tT m;omega
theorem eV:∀ {ds:List PyData} {m:Nat},(∀ d∈ds,d.depth<=m)->PyData.depthAll ds<=m
 | [],m,_=>by simp [PyData.depthAll]
 | d::ds,m,h=>by
  simp only [PyData.depthAll]
  have h1:=h d (NU ..)
  have h2:=eV (ds:=ds) (m:=m) fun e q=>h e (NO _ q)
  omega
theorem qZ:∀ {ds:List PyData} {d:PyData},d∈ds->d.weight+1<=PyData.weightAll ds
 | e::ds,d,m=>by
  simp only [PyData.weightAll]
  rcases NJ.mp m with rfl | m
  ·omega
  ·have:=qZ m;omega
theorem nc:∀ {ds:List PyData} {n:Nat},(∀ d∈ds,d.weight<=n)->PyData.weightAll ds<=ds.length * (n+1)
 | [],n,_=>by simp [PyData.weightAll]
 | d::ds,n,h=>by
  simp only [PyData.weightAll,N3,Nat.succ_mul]
  have h1:=h d (NU ..)
  have h2:=nc (ds:=ds) (n:=n) fun e q=>h e (NO _ q)
  omega
structure Ok (n m:Nat) (x:PyData):Prop where
 f:o7 x=true
 d:x.depth<=m
 w:x.weight<=n
structure nv (n m:Nat) (ds:List PyData):Prop where
 f:fZ ds=true
 d:PyData.depthAll ds<=m
 w:PyData.weightAll ds<=n
section
variable {n m n' m':Nat} {d x:PyData} {ds a b:List PyData}
theorem nv.tup (o:nv n m ds):Ok n (m+1) (.tuple ds):=⟨by simpa only [o7] using o.f,by simp only [PyData.depth];have:=o.d;omega,by simp only [PyData.weight];exact o.w⟩
theorem Ok.items (o:Ok n m (.tuple ds)):nv n (m - 1) ds:=⟨by simpa only [o7] using o.f,by have:=o.d;simp only [PyData.depth] at this;omega,by have:=o.w;simpa only [PyData.weight] using this⟩
theorem nv.append {n1 n2:Nat} (x:nv n1 m a) (y:nv n2 m b):nv (n1+n2) m (a++b):=
 ⟨by rw [m9,x.f,y.f];rfl,by rw [oU];exact Nat.max_le.mpr ⟨x.d,y.d⟩,by rw [oS];exact Nat.add_le_add x.w y.w⟩
theorem nv.one (x:Ok n m d):nv (n+1) m [d]:=⟨by simp [fZ,x.f],by simp [PyData.depthAll];exact x.d,by simp [PyData.weightAll];exact x.w⟩
theorem nv.cons (x:Ok n m d) (y:nv n' m ds):nv (n+1+n') m (d::ds):=(nv.one x).append y
theorem nv.mono (x:nv n m a) (h1:n<=n') (h2:m<=m'):nv n' m' a:=⟨x.f,NS x.d h2,NS x.w h1⟩
theorem nv.mem (o:nv n m ds) (h:d∈ds):Ok n m d:=⟨tS o.f h,NS (tT h) o.d,by have:=qZ h;have:=o.w;omega⟩
theorem nv.len (o:nv n m ds):ds.length<=n:=NS (xj ds) o.w
theorem nv.of (h:∀ d∈ds,Ok n m d):nv (ds.length * (n+1)) m ds:=⟨xk fun d q=>(h d q).f,eV fun d q=>(h d q).d,nc fun d q=>(h d q).w⟩
theorem Ok.M7 (o:Ok n m d):noDict d=true:=by
 have:=PyData.hasDict_of_canLay d (xi o.f)
 simp [noDict,this]
theorem Ok.str {s:Str} (o:Ok n m (.str s)):s.length<=n:=o.w
end
theorem C4 (ds:List PyData) (z:Nat):cut ds (some (z:Int)) none=ds.drop z:=by
 simp only [cut,eB]
 rw [if_neg (by omega),OG]
 by_cases h:z<=ds.length
 ·rw [Nat.min_eq_left h,List.take_of_length_le (by rw [Rm];exact NI _)]
 ·rw [Nat.min_eq_right (by omega),OP (NI _),OP (by omega)]
  simp
theorem C5 (ds:List PyData):cut ds (some 1) none=ds.drop 1:=C4 ds 1
def az (c:Nat):Bool:=decide (97<=c) && decide (c<=122)
def isName:PyData->Bool
 | .str x=>decide (1<=x.length) && decide (x.length<=6) && x.cps.toList.all az
 | _=>false
theorem M8 (a c:Nat):decide ([a] < [c])=decide (a < c):=by
 rw [decide_eq_decide]
 constructor
 ·intro h
  cases h with
  | rel h=>exact h
  | cons h=>cases h
 ·intro h
  exact .rel h
theorem Mw:("a" : Str).cps.toList=[97]:=by decide +kernel
theorem Mx:("z" : Str).cps.toList=[122]:=by decide +kernel
theorem NB (c:Nat):(!ly (⟨#[c]⟩:Str) ("a" : Str))=decide (97<=c):=by
 unfold ly
 rw [Mw,show (⟨#[c]⟩:Str).cps.toList=[c] from rfl,M8]
 by_cases h:c < 97
 ·rw [NV h,NW (by omega)];rfl
 ·rw [NW h,NV (by omega)];rfl
theorem ltZ (c:Nat):(!ly ("z" : Str) (⟨#[c]⟩:Str))=decide (c<=122):=by
 unfold ly
 rw [Mx,show (⟨#[c]⟩:Str).cps.toList=[c] from rfl,M8]
 by_cases h:122 < c
 ·rw [NV h,NW (by omega)];rfl
 ·rw [NW h,NV (by omega)];rfl
theorem yF (x:Str):signs x=(gB x).map D.dat:=by simp [signs,gB]
theorem yG (x:Str):(gB x).length=x.length:=by simp [gB];rfl
theorem yH (x:Str) (p:Nat->Bool) (q:PyData->Bool) (h:∀ c,q (.str ⟨#[c]⟩)=p c):(gB x).all q=x.cps.toList.all p:=by
 rw [OQ,NT,NT]
 constructor
 ·intro H c hc
  obtain ⟨i,hi,e⟩:=PY.mp hc
  have:=H (.str ⟨#[c]⟩) (by
   simp only [gB,Oe,OD]
   refine ⟨i,by simpa using hi,?_⟩
   have hi':i < x.cps.size:=by simpa using hi
   simp [Array.getD,hi']
   simpa using e)
  rw [h] at this
  exact this
 ·intro H d hd
  simp only [gB,Oe,OD] at hd
  obtain ⟨i,hi,rfl⟩:=hd
  rw [h]
  apply H
  have:x.cps.getD i 0=x.cps[i]:=by simp [Array.getD,hi]
  rw [this]
  simp
theorem vc (i j:Int) (h:Hm):oLe (.int i) (.int j) h=.ok (.bool (decide (i<=j))) h:=rfl
theorem zS (x y:Str) (h:Hm):oLe (.str x) (.str y) h=.ok (.bool (!ly y x)) h:=rfl
theorem q0 {x:Str} (h:Hm) (hz:x.length<=16777216):jJ [.str x] h=.ok (.int x.length) h:=by simp [jJ,sz hz]
@[simp] theorem Kb (ds:List PyData) (h:Hm):jJ [.dat (.tuple ds)] h=.ok (.int ds.length) h:=rfl
@[simp] theorem Kc (ds:List PyData) (h:Hm):jJ [.dat (.list ds)] h=.ok (.int ds.length) h:=rfl
def fj {α:Type} (ds:List α) (f:α->Bool):Bool:=ds.all f
def My {α:Type} (ds:List α) (f:α->Bool):Bool:=ds.any f
theorem de {α:Type} {ds:List α} {f:α->Bool}:fj ds f=true<->∀ x∈ds,f x=true:=NT
theorem gr {α:Type} {a:α} {ds:List α} {f:α->Bool}:fj (a::ds) f=true<->f a=true/\fj ds f=true:=by simp [fj]
@[simp] theorem Ke {α:Type} (f:α->Bool):fj [] f=true:=rfl
@[simp] theorem Kf {α:Type} (f:α->Bool):My [] f=false:=rfl
theorem j7 {α:Type} (ds:List α) (f:α->Bool) (h:Hm):uz [.dat (.list (ds.map fun x=>.bool (f x)))] h=.ok (.bool (fj ds f)) h:=by
 unfold fj
 have e1:ds.map (fun x=>PyData.bool (f x))=(ds.map f).map .bool:=by simp
 rw [e1,yE]
 simp [List.all_map,RP]
theorem yI {n m:Nat} {d:PyData} (o:Ok n m d) (hn:n<=10000) (h:Hm):gp [.dat d] h=.ok (.bool (isName d)) h:=by
 unfold gp tB
 cases d with
 | str x=>
  have hx:x.length<=16777216:=NS o.str (by omega)
  have key:cL 1 (aR (ab 0)) (ay 0) dG (lH oLe oLe (ah (.str "a")) (ab 0) (ah (.str "z"))) [some (.str x)] h=.ok (.dat (.list ((gB x).map fun d=>.bool (match d with | .str y=>!ly y "a" && !ly "z" y | _=>false)))) h:=by
   refine kq (by simp [yF]) (by rw [yG];exact hx) _ fun y hy=>?_
   simp only [gB,Oe,OD] at hy
   obtain ⟨i,hi,rfl⟩:=hy
   generalize (⟨#[x.cps.getD i 0]⟩:Str)=y
   refine ⟨_,rfl,?_⟩
   by_cases z:ly y "a" = true
   ·simp [zS,z]
   ·simp [zS,z]
  by_cases h1:1<=(x.length:Int)
  ·by_cases h2:(x.length:Int)<=6
   ·simp [q0 h hx,vc,h1,h2,key,j7]
    unfold fj
    rw [yH x az _ (fun c=>by simp only [az,NB,ltZ])]
    simp [isName,show 1<=x.length by omega,show x.length<=6 by omega]
   ·simp [q0 h hx,vc,h1,h2,isName,show ¬ x.length<=6 by omega]
  ·simp [q0 h hx,vc,h1,isName,show ¬ 1<=x.length by omega]
 | _=>simp [isName]
def kM (ds:List PyData):Bool:=fj (ds.zip ds.tail) fun p=>ltB p.1 p.2
structure Jc (ds:List PyData):Prop where
 nd:∀ d∈ds,noDict d=true/\d.depth<=40
 lt:∀ d∈ds,∀ e∈ds,bJ d e=some (ltB d e)
theorem Iw {d e:PyData} (h1:noDict d=true) (h2:noDict e=true) (h3:d.depth<=40) (h4:bJ d e=some (ltB d e)) (h:Hm):oLt (.dat d) (.dat e) h=.ok (.bool (ltB d e)) h:=by
 simp [oLt,h1,h2,h4,show min d.depth e.depth<=40 by omega]
theorem ve (i j:Int) (h:Hm):oLt (.int i) (.int j) h=.ok (.bool (decide (i < j))) h:=by
 simp [oLt,noDict,PyData.hasDict,PyData.depth,bJ]
theorem C6 {ds:List PyData} (h:∀ d∈ds,∃ x,d=.str x):Jc ds:=⟨fun d m=>by obtain ⟨x,rfl⟩:=h d m;exact ⟨by simp [noDict,PyData.hasDict],by simp [PyData.depth]⟩,fun d m e m'=>by
 obtain ⟨x,rfl⟩:=h d m
 obtain ⟨y,rfl⟩:=h e m'
 simp [ltB,bJ]⟩
theorem zT:∀ (xs ys:List PyData),kH xs ys=((xs.zip ys).map fun p=>PyData.tuple [p.1,p.2]).map D.dat
 | [],_=>by simp [kH]
 | _::_,[]=>by simp [kH]
 | x::xs,y::ys=>by simp [kH,zT xs ys]
theorem FC {xs:List PyData} {p:PyData×PyData} (h:p∈xs.zip xs.tail):p.1∈xs/\p.2∈xs:=by
 obtain ⟨a,b⟩:=p
 have:=RC h
 exact ⟨this.1,List.mem_of_mem_tail this.2⟩
theorem ng {ds:List PyData} (c:Jc ds) (hz:ds.length<=16777216) (h:Hm):dH [.dat (.tuple ds)] h=.ok (.bool (kM ds)) h:=by
 unfold dH oC
 have key:cL 2 (zf (aa (ab 0) (aa (Ku (ab 0) (kS (ah (.int 1))) (zh)) (ak)))) (jB (cA (ay 0) (cA (ay 1) (jA)))) (dG) (au oLt (ab 0) (ab 1)) [some (.dat (.tuple ds))] h=.ok (.dat (.list ((ds.zip ds.tail).map fun p=>.bool (ltB p.1 p.2)))) h:=by
  rw [kq (h1:=h) (ds:=(ds.zip ds.tail).map fun p=>PyData.tuple [p.1,p.2]) (by simp [C5,zT]) (by simp;omega) (fun d=>.bool (match d with | .tuple [a,b]=>ltB a b | _=>false)) fun y hy=>?_]
  ·rw [Rh];rfl
  ·obtain ⟨p,hp,rfl⟩:=Oe.mp hy
   obtain ⟨m1,m2⟩:=FC hp
   refine ⟨_,rfl,?_⟩
   simp [Iw (c.nd _ m1).1 (c.nd _ m2).1 (c.nd _ m1).2 (c.lt _ m1 _ m2)]
 simp [key,j7,kM]
mutual
def cm:PyData->PyData->Bool
 | .str _,.str _=>true
 | .int _,.int _=>true
 | .tuple xs,.tuple ys=>Gs xs ys
 | _,_=>false
def Gs:List PyData->List PyData->Bool
 | x::xs,y::ys=>cm x y && Gs xs ys
 | _,_=>true
end
mutual
theorem yJ:∀ {d e:PyData},cm d e=true->(bJ d e).isSome=true
 | .str _,e,h=>by cases e<;>simp_all [cm,bJ]
 | .int _,e,h=>by cases e<;>simp_all [cm,bJ]
 | .tuple xs,e,h=>by
  cases e with
  | tuple ys=>simp only [cm] at h;simp only [bJ];exact zU h
  | _=>simp [cm] at h
 | .none,_,h=>by simp [cm] at h
 | .bool _,_,h=>by simp [cm] at h
 | .list _,_,h=>by simp [cm] at h
 | .dict _,_,h=>by simp [cm] at h
theorem zU:∀ {xs ys:List PyData},Gs xs ys=true->(cF xs ys).isSome=true
 | [],[],_=>by simp [cF]
 | [],_::_,_=>by simp [cF]
 | _::_,[],_=>by simp [cF]
 | x::xs,y::ys,h=>by
  simp only [Gs,NG] at h
  unfold cF
  split
  ·exact zU h.2
  ·exact yJ h.1
end
theorem FD {d e:PyData} (h:cm d e=true):bJ d e=some (ltB d e):=by
 have:=yJ h
 unfold ltB
 cases q:bJ d e with
 | none=>rw [q] at this;cases this
 | some b=>rfl
def iJ:PyData->Bool
 | .str _=>true
 | _=>false
theorem dM {d:PyData} (h:iJ d=true):∃ x,d=.str x:=by cases d<;>simp_all [iJ]
theorem rf:∀ {xs ys:List PyData},fj xs iJ=true->fj ys iJ=true->Gs xs ys=true
 | [],_,_,_=>by simp [Gs]
 | _::_,[],_,_=>by simp [Gs]
 | x::xs,y::ys,h,k=>by
  have h:=gr.mp h
  have k:=gr.mp k
  obtain ⟨a,rfl⟩:=dM h.1
  obtain ⟨b,rfl⟩:=dM k.1
  simp [Gs,cm,rf h.2 k.2]
theorem Jc.of {n m:Nat} {ds:List PyData} (o:nv n m ds) (hm:m<=40) (h:∀ d∈ds,∀ e∈ds,cm d e=true):Jc ds:=⟨fun d q=>⟨(o.mem q).M7,by have:=(o.mem q).d;omega⟩,fun d q e r=>FD (h d q e r)⟩
def Kg (ns:List PyData) (d:PyData):Bool:=ns.any fun y=>PyData.eqv y d
theorem C7 {n m:Nat} {d:PyData} (o:Ok n m d):∀ {ns:List PyData},fj ns iJ=true->Be d ns=some (Kg ns d)
 | [],_=>rfl
 | y::ns,h=>by
  have h:=gr.mp h
  obtain ⟨x,rfl⟩:=dM h.1
  have ih:=C7 o h.2
  have e:AI (.str x) d=some (PyData.eqv (.str x) d):=by
   have hd:noDict d=true:=o.M7
   unfold AI
   split
   ·simp [noDict,PyData.hasDict] at hd
   ·simp [noDict,PyData.hasDict] at hd
   ·simp [eqQ,noDict,PyData.hasDict,PyData.depth]
    simpa [noDict] using hd
  simp [Be,e,ih,Kg]
theorem C8 {n m:Nat} {d:PyData} {ns:List PyData} (o:Ok n m d) (h:fj ns iJ=true) (hm:Hm):nu (.dat d) (.dat (.tuple ns)) hm=.ok (.bool (Kg ns d)) hm:=by
 simp [nu,findIn,gS,mz,vB,C7 o h]
theorem zV {ns:List PyData} (h:fj ns iJ=true) {d:PyData}:Kg ns d=true<->d∈ns:=by
 simp only [Kg,Ro]
 constructor
 ·rintro ⟨y,hy,e⟩
  obtain ⟨x,rfl⟩:=dM (de.mp h y hy)
  cases d<;>simp [PyData.eqv] at e
  subst e
  exact hy
 ·intro q
  obtain ⟨x,rfl⟩:=dM (de.mp h d q)
  exact ⟨_,q,by simp [PyData.eqv]⟩
theorem yK {d:PyData} (h:isName d=true):iJ d=true:=by cases d<;>simp_all [isName,iJ]
theorem yL {ds:List PyData} (h:fj ds isName=true):fj ds iJ=true:=de.mpr fun d m=>yK (de.mp h d m)
theorem C9 {ds:List PyData} (h:fj ds iJ=true):∀ d∈ds,∃ x,d=.str x:=fun d m=>dM (de.mp h d m)
def gJ:PyData->Bool
 | .tuple ds=>decide (ds.length<=12) && fj ds isName && kM ds
 | _=>false
theorem vf {n m:Nat} {d:PyData} (o:Ok n m d) (hn:n<=10000) (h:Hm):fR [.dat d] h=.ok (.bool (gJ d)) h:=by
 unfold fR oE
 cases d with
 | tuple ds=>
  have hl:=o.items.len
  have key:=kq (n:=1) (it:=aR (ab 0)) (g:=ay 0) (e:=ai gp (aa (ab 0) (ak))) (ρ:=[some (.dat (.tuple ds))]) (h:=h) (h1:=h) (ds:=ds) (by simp) (by omega) (fun x=>.bool (isName x)) (fun x hx=>⟨_,rfl,by simp [yI (o.items.mem hx) hn]⟩)
  by_cases h1:ds.length<=12
  ·by_cases h2:fj ds isName=true
   ·have:=ng (C6 (C9 (yL h2))) (by omega) h
    simp [key,j7,h1,show ¬ (12:Int) < ds.length by omega,h2,this,gJ]
   ·simp [key,j7,h1,show ¬ (12:Int) < ds.length by omega,h2,gJ]
  ·simp [h1,show (12:Int) < ds.length by omega,gJ]
 | _=>simp [gJ]
@[simp] theorem K4 (ds:List PyData) (i:Int) (h:Hm):dY (.dat (.tuple ds)) (.int i) h=match kC ds i with | some d=>.ok (.dat d) h | none=>.bad:=rfl
@[simp] theorem La (ds:List PyData) (i:Int) (h:Hm):dY (.dat (.list ds)) (.int i) h=match kC ds i with | some d=>.ok (.dat d) h | none=>.bad:=rfl
@[simp] theorem M9 {α:Type} (a:α) (r:List α):kC (a::r) 0=some a:=by simp [kC,rM]
theorem o8 {α:Type} {xs:List α} {i:Nat} {a:α} (h:xs[i]?=some a):kC xs (i:Int)=some a:=by
 obtain ⟨hi,e⟩:=NY.mp h
 simp [kC,rM,hi,e]
@[simp] theorem Na {α:Type} (a b:α) (r:List α):kC (a::b::r) 1=some b:=by
 show kC _ ((1:Nat):Int)=_
 exact o8 rfl
def Wf (h:Hm):Prop:=∀ o∈h,MO.below h.length o=true
theorem Wf.set {h:Hm} (w:Wf h) {i:Nat} {o:MO} (b:MO.below h.length o=true):Wf (h.set i o):=fun x hx=>by
 rw [List.length_set]
 rcases List.mem_or_eq_of_mem_set hx with m | rfl
 ·exact w x m
 ·exact b
theorem D.jk {n m:Nat} (h:n<=m) {d:D} (b:D.below n d=true):D.below m d=true:=by
 cases d<;>simp_all [D.below]
 omega
theorem MO.jk {n m:Nat} (h:n<=m) {o:MO} (b:MO.below n o=true):MO.below m o=true:=by
 cases o with
 | lst xs=>simp only [MO.below,NT] at b ⊢;exact fun d q=>D.jk h (b d q)
 | kE t kvs=>rfl
 | ins C fs=>simp only [MO.below,NT] at b ⊢;exact fun d q=>D.jk h (b d q)
 | tab P q=>rfl
theorem Wf.push {h:Hm} (w:Wf h) {o:MO} (b:MO.below (h.length+1) o=true):Wf (h++[o]):=fun x hx=>by
 rw [N4,Rf]
 rcases NX.mp hx with m | m
 ·exact MO.jk (O9 _) (w x m)
 ·simp at m;subst m;exact b
theorem FE (ns:List Int) (k:Nat) (h:Hm):∃ z:Int,dJ [.scr ns,.int k] h=.ok (.int z) h:=by
 unfold dJ oH
 by_cases hk:k < ns.length
 ·exact ⟨ns[k],by simp [jJ,ve,hk,dY,gS,uy,o8 (NR hk)]⟩
 ·exact ⟨0,by simp [jJ,ve,hk]⟩
@[simp] theorem Kh (i j:Int) (h:Hm):gA (.int i) (.int j) h=.ok (.int (i+j)) h:=rfl
def Mz (n m:Nat) (x:PyData):Bool:=o7 x && decide (x.depth<=m) && decide (x.weight<=n)
theorem yM {n m:Nat} {x:PyData} (h:Mz n m x=true):Ok n m x:=by
 simp only [Mz,NG,N7] at h
 exact ⟨h.1.1,h.1.2,h.2⟩
theorem zW {α:Type} {xs:List α} {k:Nat} (h:k < xs.length):∃ x,kC xs (k:Int)=some x/\x∈xs:=⟨xs[k],o8 (NR h),RS h⟩
theorem nh {xs ys:List PyData} (h:Hm) (hz:xs.length+ys.length<=16777216):gA (.dat (.list xs)) (.dat (.list ys)) h=.ok (.dat (.list (xs++ys))) h:=by simp [gA,sz hz]
theorem vg:∀ {ds:List PyData},ds.Pairwise (fun a b=>ltB a b=true)->kM ds=true
 | [],_=>rfl
 | [_],_=>rfl
 | a::b::r,h=>by
  rw [Oy] at h
  have ih:=vg h.2
  unfold kM at ih ⊢
  simp only [List.tail_cons,Ph] at ih ⊢
  exact gr.mpr ⟨h.1 b (by simp),ih⟩
theorem A6 {ds:List PyData} (c:bQ ds=true) (t:af ds=true) (nd:ds.Nodup):kM (cS ltB ds)=true:=by
 have p:=bR ltB ds
 have u:=qg (gm c t)
 have nd':(cS ltB ds).Nodup:=p.nodup_iff.mpr nd
 refine vg ?_
 unfold Up at u
 refine Ov.mpr fun {a b} s=>?_
 have both:=Ov.mp u s
 have bn:=Ov.mp nd' s
 have ha:=p.mem_iff.mp (s.subset (by simp:a∈[a,b]))
 have hb:=p.mem_iff.mp (s.subset (by simp:b∈[a,b]))
 rcases mD c t ha hb both with q | q
 ·exact q
 ·exact absurd q bn
theorem Iy {ds:List PyData} (c:bQ ds=true) (t:af ds=true) {x y z:PyData} (hx:x∈ds) (hy:y∈ds) (hz:z∈ds) (h:ltB x y=true) (k:ltB y z=true):ltB x z=true:=by
 have h1:=nI c t hx hy h
 have h2:=nI c t hy hz k
 rcases mD c t hx hz (zo c t hx hy hz h1 h2) with q | q
 ·exact q
 ·subst q;rw [k] at h1;cases h1
theorem vh {ds:List PyData} (c:bQ ds=true) (t:af ds=true):∀ {es:List PyData},(∀ e∈es,e∈ds)->kM es=true->es.Pairwise fun a b=>ltB a b=true
 | [],_,_=>.nil
 | [_],_,_=>by simp
 | a::b::r,s,h=>by
  unfold kM at h
  simp only [List.tail_cons,Ph] at h
  have h:=gr.mp h
  have ih:=vh c t (es:=b::r) (fun e m=>s e (NO _ m)) (by unfold kM;simpa using h.2)
  refine Oy.mpr ⟨fun d m=>?_,ih⟩
  rcases NJ.mp m with rfl | m'
  ·exact h.1
  ·exact Iy c t (s a (by simp)) (s b (by simp)) (s d (by simp [m'])) h.1 ((Oy.mp ih).1 d m')
namespace Nm
variable {c:Nat} {ns:List PyData}
end Nm
theorem j8 {d:PyData} (h:iJ d=true):av d=true:=by cases d<;>simp_all [iJ,av]
theorem lR {d:PyData} (h:iJ d=true):ag d=true:=by cases d<;>simp_all [iJ,ag]
theorem lg:∀ {ds:List PyData},fj ds iJ=true->af ds=true
 | [],_=>by simp [af]
 | d::ds,h=>by have h:=gr.mp h;simp [af,lR h.1,lg h.2]
theorem tU {ds:List PyData} (h:∀ a∈ds,∀ b∈ds,cm a b=true):bQ ds=true:=NT.mpr fun a ha=>NT.mpr fun b hb=>yJ (h a ha b hb)
end Ml
namespace Ml
open PySem
theorem xl {ds:List PyData} (h:fj ds iJ=true):bQ ds=true:=tU fun a ha b hb=>by
 obtain ⟨x,rfl⟩:=dM (de.mp h a ha)
 obtain ⟨y,rfl⟩:=dM (de.mp h b hb)
 rfl
theorem zX {ns:List PyData} {zs:List D} (s:zs.Sublist (ns.map D.dat)):∃ ls:List PyData,zs=ls.map D.dat/\ls.Sublist ns:=by
 obtain ⟨ls,h1,h2⟩:=List.sublist_map_iff.mp s
 exact ⟨ls,h2,h1⟩
theorem ky {a b:MS} {ρ ρ1:Fm} {h h1:Hm} (e:a ρ h=.ok (.nx ρ1) h1):bC a b ρ h=b ρ1 h1:=by simp [bC,e]
theorem aw {f:D->D->Hm->R D} {a b:ME} {ρ:Fm} {h h1 h2:Hm} {x y:D} {r:R D} (ha:a ρ h=.ok x h1) (hb:b ρ h1=.ok y h2) (e:f x y h2=r):au f a b ρ h=r:=by
 subst e
 simp only [au,ha,hb,R.ao]
theorem aM {e:ME} {a:MA} {ρ:Fm} {h h1 h2:Hm} {x:D} {xs:List D} (he:e ρ h=.ok x h1) (ha:a ρ h1=.ok xs h2):aa e a ρ h=.ok (x::xs) h2:=by
 simp only [aa,he,ha,R.ao]
theorem bO {f:Fn} {a:MA} {ρ:Fm} {h h1:Hm} {xs:List D} (ha:a ρ h=.ok xs h1):ai f a ρ h=f xs h1:=by simp only [ai,ha,R.ao]
theorem pv {i:Nat} {e:ME} {ρ:Fm} {h h1:Hm} {x:D} (he:e ρ h=.ok x h1):cn i e ρ h=.ok (.nx (ρ.set i (some x))) h1:=by simp only [cn,he,R.ao]
section
variable {t u:MT} {a b:MS} {m:ME} {ρ:Fm} {h h1 h2:Hm} {x:D} {c d:Bool}
theorem bE (e:m ρ h=.ok (.bool c) h1):aN m ρ h=.ok c h1:=by simp [aN,e]
theorem tV (e:m ρ h=.ok x h1) (k:Ml.truth x h1=some c):bP m ρ h=.ok c h1:=by simp only [bP,e,R.ao,k]
theorem kz (e:t ρ h=.ok c h1):fT t ρ h=.ok (!c) h1:=by simp [fT,e]
theorem Gu (e:t ρ h=.ok true h1):jy t a b ρ h=a ρ h1:=by simp [jy,e]
theorem Gv (e:t ρ h=.ok false h1):jy t a b ρ h=b ρ h1:=by simp [jy,e]
theorem gj {it:MA} {g:MG} {xs:List D} {r:R Fl} (e:it ρ h=.ok xs h1) (k:dA g a xs ρ h1=r):jH it g a ρ h=r:=by subst k;simp only [jH,e,R.bq,R.ao]
theorem pA {ds:List PyData} (e:m ρ h=.ok (.dat (.list ds)) h1):aR m ρ h=.ok (ds.map D.dat) h1:=by simp only [aR,e]
theorem cX {ds:List PyData} (e:m ρ h=.ok (.dat (.tuple ds)) h1):aR m ρ h=.ok (ds.map D.dat) h1:=by simp only [aR,e]
theorem vi (e:m ρ h=.ok x h1):bX m ρ h=.ok (.rt x) h1:=by simp only [bX,e,R.ao]
end
theorem A7 {a:MA} {ρ:Fm} {h h1:Hm} {j:Int} (e:a ρ h=.ok [.dat (.int j)] h1) (q:(-(2 ^ 62):Int)<=j/\j < 2 ^ 62):oq a ρ h=.ok (nums 0 j.toNat) h1:=by
 unfold oq
 rw [e]
 simp only [R.ao]
 rw [if_pos q]
theorem Dc {a:MA} {ρ:Fm} {h h1:Hm} {n:Nat} (e:a ρ h=.ok [.dat (.int (n:Int))] h1) (hn:n < 1000000):oq a ρ h=.ok (nums 0 n) h1:=by
 have:=A7 e (by omega)
 rwa [OG] at this
def bb:List PyData:=[.str "a",.str "aa",.str "ab",.str "abcdef",.str "b",.str "c",.str "d",.str "e",.str "m",.str "x",.str "zz",.str "zzzzzz"]
def kN:List PyData:=bb.flatMap fun a=>bb.map fun b=>.tuple [a,b]
theorem pB:∀ x∈bb,Mz 6 0 x=true/\isName x=true:=by decide +kernel
theorem vj:fj bb iJ=true:=by decide +kernel
theorem FF:kM bb=true:=by decide +kernel
theorem jl {p:PyData}:p∈kN<->∃ a b,a∈bb/\b∈bb/\p=.tuple [a,b]:=by
 unfold kN
 rw [List.mem_flatMap]
 constructor
 ·rintro ⟨a,ha,h⟩
  obtain ⟨b,hb,rfl⟩:=Oe.mp h
  exact ⟨a,b,ha,hb,rfl⟩
 ·rintro ⟨a,b,ha,hb,rfl⟩
  exact ⟨a,ha,Oe.mpr ⟨b,hb,rfl⟩⟩
theorem cR {x:PyData} (h:x∈bb):iJ x=true:=de.mp vj x h
theorem ni:bQ bb=true:=xl vj
theorem gk:af bb=true:=lg vj
theorem iK:bQ kN=true:=tU fun p hp q hq=>by
 obtain ⟨a,b,ha,hb,rfl⟩:=jl.mp hp
 obtain ⟨c,d,hc,hd,rfl⟩:=jl.mp hq
 simp only [cm]
 exact rf (by simp [fj,cR ha,cR hb]) (by simp [fj,cR hc,cR hd])
theorem fI {p:PyData} (h:p∈kN):av p=true/\ag p=true/\fx p=true/\fV p=true/\p.depth<=1/\Ok 14 1 p:=by
 obtain ⟨a,b,ha,hb,rfl⟩:=jl.mp h
 have oa:=yM (pB a ha).1
 have ob:=yM (pB b hb).1
 have ok:Ok 14 1 (.tuple [a,b]):=((nv.cons oa (nv.one ob)).mono (by omega) (NI _)).tup
 exact ⟨by simp [av,aX,j8 (cR ha),j8 (cR hb)],by simp [ag,af,lR (cR ha),lR (cR hb)],rfl,rfl,ok.d,ok⟩
theorem fk:af kN=true:=fQ fun d m=>(fI m).2.1
structure Rw (U xs:List PyData):Prop where
 sub:∀ d∈xs,d∈U
 ris:xs.Pairwise fun a b=>ltB a b=true
theorem iL {U xs:List PyData} (t:af U=true) (r:Rw U xs):xs.Nodup:=by
 refine (Ov.mpr fun {a b} s z=>?_)
 subst z
 have h:=Ov.mp r.ris s
 have ha:=r.sub a (s.subset (by simp))
 have:=uB (aE t ha)
 unfold ltB at h
 rw [this] at h
 cases h
theorem Gw {U xs:List PyData} (c:bQ U=true) (t:af U=true) (r:Rw U xs):Up ltB xs:=by
 unfold Up
 refine Ov.mpr fun {a b} s=>?_
 have h:=Ov.mp r.ris s
 exact nI c t (r.sub a (s.subset (by simp))) (r.sub b (s.subset (by simp))) h
theorem zY {U xs:List PyData} (r:Rw U xs):kM xs=true:=vg r.ris
theorem Dd {U xs ys:List PyData} (c:bQ U=true) (t:af U=true) (r:Rw U xs) (q:Rw U ys) (h:∀ d,d∈xs<->d∈ys):xs=ys:=
 nK ((gm c t).sub r.sub) ((List.perm_ext_iff_of_nodup (iL t r) (iL t q)).mpr h) (Gw c t r) (Gw c t q)
theorem rg {U xs:List PyData} (c:bQ U=true) (h:∀ d∈xs,d∈U):bQ xs=true:=by
 refine NT.mpr fun a ha=>NT.mpr fun b hb=>?_
 exact NT.mp (NT.mp c a (h a ha)) b (h b hb)
theorem iM {U xs:List PyData} (t:af U=true) (h:∀ d∈xs,d∈U):af xs=true:=fQ fun d m=>aE t (h d m)
theorem vk {U xs:List PyData} (c:bQ U=true) (t:af U=true) (h:∀ d∈xs,d∈U) (nd:xs.Nodup):Rw U (cS ltB xs):=by
 refine ⟨fun d m=>h d ((bR _ _).mem_iff.mp m),?_⟩
 have c':=rg c h
 have t':=iM t h
 exact vh c' t' (fun d m=>(bR _ _).mem_iff.mp m) (A6 c' t' nd)
theorem jv {xs:List PyData} (r:Rw bb xs):xs.length<=12:=by
 have:=nW (iL gk r) r.sub
 simpa [bb] using this
structure Wb (k:Nat) (ns ss:List PyData):Prop where
 nr:Rw bb ns
 sr:Rw kN ss
 cl:∀ a b,.tuple [a,b]∈ss->a∈ns/\b∈ns
 le:ss.length<=k
section
variable {k:Nat} {ns ss:List PyData}
theorem Wb.sd (w:Wb k ns ss):fj ns iJ=true:=de.mpr fun d m=>cR (w.nr.sub d m)
theorem Wb.MB (w:Wb k ns ss) {a:PyData} (h:a∈ns):Ok 6 0 a:=yM (pB a (w.nr.sub a h)).1
theorem Wb.L0 (w:Wb k ns ss):Ok 84 1 (.tuple ns):=by
 have:=jv w.nr
 exact ((nv.of fun d m=>w.MB m).mono (by omega) (NI _)).tup
theorem Wb.MC (w:Wb k ns ss) (hk:k<=600):nv 9000 1 ss:=by
 have:=w.le
 exact (nv.of fun d m=>(fI (w.sr.sub d m)).2.2.2.2.2).mono (by omega) (NI _)
theorem Wb.names (w:Wb k ns ss):gJ (.tuple ns)=true:=by
 have h1:fj ns isName=true:=de.mpr fun d m=>(pB d (w.nr.sub d m)).2
 simp [gJ,jv w.nr,zY w.nr,h1]
theorem Wb.get (w:Wb k ns ss) {p:PyData} (h:p∈ss):∃ a b,p=.tuple [a,b]/\a∈ns/\b∈ns:=by
 obtain ⟨a,b,_,_,rfl⟩:=jl.mp (w.sr.sub p h)
 exact ⟨a,b,rfl,w.cl a b h⟩
theorem Ki (h:Hm):x6 (D.int 2) (D.dat (.int 2)) h=.ok (.bool false) h:=by
 simp [x6,vB,eqQ,noDict,PyData.hasDict,PyData.depth,PyData.eqv]
theorem A8 (w:Wb k ns ss) {a b:PyData} (ha:a∈ns) (hb:b∈ns) (h:Hm):eS [.dat (.tuple [a,b]),.dat (.tuple ns)] h=.ok (.bool true) h:=by
 unfold eS oF
 simp [Ki,C8 (w.MB ha) w.sd,C8 (w.MB hb) w.sd,(zV w.sd).mpr ha,(zV w.sd).mpr hb]
theorem yN (w:Wb k ns ss) (hk:k<=600) (h:Hm):eJ [.dat (.tuple ss),.dat (.tuple ns)] h=.ok (.bool true) h:=by
 unfold eJ kW
 have hl:=w.le
 have key:=kq (n:=1) (it:=aR (ab 0)) (g:=ay 0) (e:=ai eS (aa (ab 0) (aa (ab 2) (ak)))) (ρ:=[some (.dat (.tuple ss)),some (.dat (.tuple ns))]) (h:=h) (h1:=h) (ds:=ss) (by simp) (by omega) (fun x=>.bool ((fun _=>true) x)) (fun x hx=>⟨_,rfl,by
  obtain ⟨a,b,rfl,ha,hb⟩:=w.get hx
  simp [A8 w ha hb]⟩)
 have al:fj ss (fun _=>true)=true:=de.mpr fun _ _=>rfl
 have cp:Jc ss:=Jc.of (w.MC hk) (by decide) fun d hd e he=>by
  obtain ⟨a,b,rfl,ha,hb⟩:=w.get hd
  obtain ⟨a',b',rfl,ha',hb'⟩:=w.get he
  have:=de.mp w.sd
  simp only [cm]
  exact rf (by simp [fj,this a ha,this b hb]) (by simp [fj,this a' ha',this b' hb'])
 have ir:=ng cp (by omega) h
 rw [zY w.sr] at ir
 have bm:=j7 ss (fun _=>true) h
 rw [al] at bm
 simp only [] at key
 simp [key,bm,ir]
theorem Iz (w:Wb k ns ss) (hk:k<=600) (h:Hm):jP [.dat (.tuple [.tuple ns,.tuple ss])] h=.ok (.bool true) h:=by
 have e1:=vf w.L0 (by decide) h
 rw [w.names] at e1
 unfold jP wm
 simp [Ki,e1,yN w hk h]
theorem IA (w:Wb k ns ss) (hk:k<=600) (h:Hm):cI [.dat (.tuple [.tuple ns,.tuple ss])] h=.ok D.none h:=by
 unfold cI oG
 simp [Iz w hk h]
end
structure De (U:List PyData):Prop where
 c:bQ U=true
 t:af U=true
 st:∀ d∈U,av d=true
 key:(∀ d∈U,fx d=true)\/(∀ d∈U,iS d=true)
 typ:(∀ d∈U,qf d=true)\/(∀ d∈U,fV d=true)
 dep:∀ d∈U,d.depth<=1
theorem Dg:De bb:=⟨ni,gk,fun d m=>j8 (cR m),.inr fun d m=>by obtain ⟨x,rfl⟩:=dM (cR m);rfl,.inl fun d m=>by obtain ⟨x,rfl⟩:=dM (cR m);rfl,fun d m=>by obtain ⟨x,rfl⟩:=dM (cR m);simp [PyData.depth]⟩
theorem dC:De kN:=⟨iK,fk,fun d m=>(fI m).1,.inl fun d m=>(fI m).2.2.1,.inr fun d m=>(fI m).2.2.2.1,fun d m=>(fI m).2.2.2.2.1⟩
theorem lh:∀ {ds:List PyData},(∀ d∈ds,av d=true)->aX ds=true
 | [],_=>by simp [aX]
 | d::ds,h=>by simp [aX,h d (by simp),lh (ds:=ds) fun e m=>h e (by simp [m])]
section
variable {U xs ys:List PyData}
theorem De.set (u:De U) (h:∀ d∈xs,d∈U) (l:xs.length<=120):setOk xs=true:=by
 have h1:(xs.all fx || xs.all iS)=true:=by
  rcases u.key with k | k
  ·rw [NT.mpr fun d m=>k d (h d m)];rfl
  ·rw [show xs.all iS=true from NT.mpr fun d m=>k d (h d m)];simp
 have h2:aX xs=true:=lh fun d m=>u.st d (h d m)
 have h3:PyData.depthAll xs<=8:=NS (eV fun d m=>u.dep d (h d m)) (by decide)
 simp only [setOk,h1,h2,NV h3,NV l,QA]
theorem De.MD (u:De U) (h:∀ d∈xs,d∈U) (l:xs.length < 64):eY xs=true:=by
 have h1:(xs.all qf || xs.all fV)=true:=by
  rcases u.typ with k | k
  ·rw [NT.mpr fun d m=>k d (h d m)];rfl
  ·rw [show xs.all fV=true from NT.mpr fun d m=>k d (h d m)];simp
 have h3:PyData.depthAll xs<=20:=NS (eV fun d m=>u.dep d (h d m)) (by decide)
 simp only [eY,h1,iM u.t h,rg u.c h,NV h3,NV l,QA]
def un (xs ys:List PyData):List PyData:=cS ltB (E1 xs ys)
theorem Gy (u:De U) (r:∀ d∈xs,d∈U) (q:∀ d∈ys,d∈U):(∀ d,d∈E1 xs ys<->d∈xs\/d∈ys)/\(E1 xs ys).Nodup/\(E1 xs ys).length<=xs.length+ys.length:=by
 have hs:∀ d∈xs++ys,av d=true:=fun d m=>by
  rcases NX.mp m with z | z
  ·exact u.st d (r d z)
  ·exact u.st d (q d z)
 have hm:∀ d,d∈E1 xs ys<->d∈xs\/d∈ys:=fun d=>by unfold E1;rw [iG hs,NX]
 have nd:(E1 xs ys).Nodup:=gZ hs
 refine ⟨hm,nd,?_⟩
 have:=nW nd (ys:=xs++ys) fun d m=>NX.mpr ((hm d).mp m)
 simpa using this
theorem Kj (u:De U) (r:∀ d∈xs,d∈U) (q:∀ d∈ys,d∈U):Rw U (un xs ys)/\(∀ d,d∈un xs ys<->d∈xs\/d∈ys)/\(un xs ys).length<=xs.length+ys.length:=by
 obtain ⟨h1,h2,h3⟩:=Gy u r q
 refine ⟨vk u.c u.t (fun d m=>((h1 d).mp m).elim (r d) (q d)) h2,fun d=>(bR _ _).mem_iff.trans (h1 d),?_⟩
 unfold un
 rw [(bR _ _).length_eq]
 exact h3
end
section
variable {k1 k2:Nat} {n1 s1 n2 s2:List PyData}
theorem FG (w1:Wb k1 n1 s1):ag (.tuple [.tuple n1,.tuple s1])=true:=by
 simp [ag,af,iM gk w1.nr.sub,iM fk w1.sr.sub]
theorem IB (w1:Wb k1 n1 s1):(PyData.tuple [.tuple n1,.tuple s1]).depth<=40:=by
 have a:=eV (m:=1) (ds:=n1) fun d m=>Dg.dep d (w1.nr.sub d m)
 have b:=eV (m:=1) (ds:=s1) fun d m=>dC.dep d (w1.sr.sub d m)
 simp only [PyData.depth,PyData.depthAll]
 omega
end
def IC:PyData->PyData
 | .tuple [a,_]=>a
 | _=>.none
def ID:PyData->PyData
 | .tuple [_,b]=>b
 | _=>.none
theorem lU (n:Nat) (ds:List PyData):MO.below n (.lst (ds.map D.dat))=true:=by
 simp [MO.below,D.below]
theorem rh {n:Nat} {ρ ρ1:Fm} {g:MG} {t:MT} {e:ME} {x y:D} {xs ys:List D} {h h1 h2 h3 h4:Hm} (hg:g x (List.replicate n none++ρ) h=.ok ρ1 h1) (ht:t ρ1 h1=.ok true h2) (he:e ρ1 h2=.ok y h3) (hr:dw n ρ g t e xs h3=.ok ys h4):dw n ρ g t e (x::xs) h=.ok (y::ys) h4:=by
 unfold dw
 rw [hg]
 simp only [R.bq,R.ao]
 rw [ht]
 simp only [R.bq,R.ao,Ot]
 rw [he]
 simp only [R.bq,R.ao]
 rw [hr]
 rfl
theorem rj {one:PyData}:∀ {ls:List PyData} {ys:List D},PySem.Paired (fun x y=>∃ d,x=.dat d/\y=.dat (.tuple [one,d])) (ls.map D.dat) ys->ys=(ls.map fun y=>PyData.tuple [one,y]).map D.dat
 | [],ys,h=>by
  cases h
  rfl
 | l::ls,ys,h=>by
  cases h with
  | cons a b=>
   obtain ⟨d,e,rfl⟩:=a
   cases e
   rw [rj b]
   rfl
structure Pw (pre ns acc:List PyData):Prop where
 ris:acc.Pairwise fun a b=>ltB a b=true
 mem:∀ p∈acc,∃ a b,p=.tuple [a,b]/\a∈pre/\b∈ns
 len:acc.length<=pre.length * ns.length
theorem Gz {a b:PyData} (t:ag a=true) (h:ltB a b=true):a≠b:=fun e=>by
 subst e
 have:=uB t
 unfold ltB at h
 rw [this] at h
 cases h
theorem Dh {x a b:PyData} (tx:ag x=true) (ta:ag a=true) (tb:ag b=true) (h:ltB a b=true):ltB (.tuple [x,a]) (.tuple [x,b])=true:=by
 have n:=aQ ta tb (Gz ta h)
 simpa [ltB,bJ,cF,aT tx,n] using h
theorem zZ {a b x y:PyData} (ta:ag a=true) (tb:ag b=true) (h:ltB a b=true):ltB (.tuple [a,x]) (.tuple [b,y])=true:=by
 have n:=aQ ta tb (Gz ta h)
 simpa [ltB,bJ,cF,n] using h
theorem Pw.step {pre ns acc ls xs:List PyData} {one:PyData} (r:Rw bb ns) (e:ns=pre++one::xs) (P:Pw pre ns acc) (sl:ls.Sublist ns):Pw (pre++[one]) ns (acc++ls.map fun y=>.tuple [one,y]):=by
 have tr:∀ d∈ns,ag d=true:=fun d m=>aE gk (r.sub d m)
 have ho:one∈ns:=by rw [e];simp
 have hp:∀ a∈pre,a∈ns:=fun a m=>by rw [e];simp [m]
 refine ⟨Po.mpr ⟨P.ris,Qx.mpr (QQ (fun {a b} ha hb l=>Dh (tr one ho) (tr a (sl.subset ha)) (tr b (sl.subset hb)) l) (r.ris.sublist sl)),fun p hp' q hq=>?_⟩,fun p m=>?_,?_⟩
 ·obtain ⟨a,b,rfl,ha,hb⟩:=P.mem p hp'
  obtain ⟨y,hy,rfl⟩:=Oe.mp hq
  have rr:=r.ris
  rw [e] at rr
  exact zZ (tr a (hp a ha)) (tr one ho) ((Po.mp rr).2.2 a ha one (by simp))
 ·rcases NX.mp m with z | z
  ·obtain ⟨a,b,rfl,ha,hb⟩:=P.mem p z
   exact ⟨a,b,rfl,by simp [ha],hb⟩
  ·obtain ⟨y,hy,rfl⟩:=Oe.mp z
   exact ⟨one,y,rfl,by simp,sl.subset hy⟩
 ·have l1:=P.len
  have l2:=sl.length_le
  simp only [N4,NZ,N3,OB,Nat.add_mul]
  omega
theorem MF:Rw bb bb:=⟨fun _ m=>m,vh ni gk (fun _ m=>m) FF⟩
abbrev Rel:=PyData->PyData->Bool
def rows (ns:List PyData) (r:Rel):List PyData:=ns.flatMap fun a=>(ns.filter (r a)).map fun b=>.tuple [a,b]
abbrev bu (ns:List PyData) (r:Rel):PyData:=.tuple [.tuple ns,.tuple (rows ns r)]
section
variable {ns:List PyData} {r q:Rel} {a b:PyData}
theorem du {p:PyData}:p∈rows ns r<->∃ a b,p=.tuple [a,b]/\a∈ns/\b∈ns/\r a b=true:=by
 unfold rows
 rw [List.mem_flatMap]
 constructor
 ·rintro ⟨a,ha,m⟩
  obtain ⟨b,hb,rfl⟩:=Oe.mp m
  obtain ⟨h1,h2⟩:=OY.mp hb
  exact ⟨a,b,rfl,ha,h1,h2⟩
 ·rintro ⟨a,b,rfl,ha,hb,h⟩
  exact ⟨a,ha,Oe.mpr ⟨b,OY.mpr ⟨hb,h⟩,rfl⟩⟩
theorem cb:.tuple [a,b]∈rows ns r<->a∈ns/\b∈ns/\r a b=true:=by
 rw [du]
 constructor
 ·rintro ⟨x,y,e,h⟩
  simp only [PM,P7,and_true] at e
  obtain ⟨rfl,rfl⟩:=e
  exact h
 ·exact fun h=>⟨a,b,rfl,h⟩
theorem fo (R:Rw bb ns) (h:a∈ns):ag a=true:=aE gk (R.sub a h)
theorem aW (R:Rw bb ns):Rw kN (rows ns r):=by
 refine ⟨fun p m=>?_,?_⟩
 ·obtain ⟨a,b,rfl,ha,hb,_⟩:=du.mp m
  exact jl.mpr ⟨a,b,R.sub a ha,R.sub b hb,rfl⟩
 ·refine List.pairwise_flatMap.mpr ⟨fun a ha=>Qx.mpr ?_,?_⟩
  ·exact QQ (fun {x y} hx hy l=>Dh (fo R ha) (fo R ((OY.mp hx).1)) (fo R ((OY.mp hy).1)) l) (R.ris.filter _)
  ·refine QQ (fun {x y} hx hy l p hp q hq=>?_) R.ris
   obtain ⟨b,_,rfl⟩:=Oe.mp hp
   obtain ⟨c,_,rfl⟩:=Oe.mp hq
   exact zZ (fo R hx) (fo R hy) l
theorem Aa {xs:List PyData} {n:Nat} {f:PyData->List PyData} (h:∀ a,(f a).length<=n):(xs.flatMap f).length<=xs.length * n:=by
 induction xs with
 | nil=>simp
 | cons x xs ih=>
  rw [RQ,N4,N3,Nat.add_mul]
  have:=h x
  omega
theorem nj:(rows ns r).length<=ns.length * ns.length:=Aa fun a=>by
 rw [NZ]
 exact Pg _ _
theorem vm (R:Rw bb ns) {k:Nat} (hk:ns.length * ns.length<=k):Wb k ns (rows ns r):=
 ⟨R,aW R,fun a b m=>⟨(cb.mp m).1,(cb.mp m).2.1⟩,NS nj hk⟩
theorem rm (h:∀ a∈ns,∀ b∈ns,r a b=q a b):rows ns r=rows ns q:=by
 have k:∀ xs:List PyData,(∀ a∈xs,a∈ns)->xs.flatMap (fun a=>(ns.filter (r a)).map fun b=>PyData.tuple [a,b])=xs.flatMap (fun a=>(ns.filter (q a)).map fun b=>PyData.tuple [a,b]):=by
  intro xs
  induction xs with
  | nil=>intro _;rfl
  | cons x xs ih=>
   intro hs
   rw [RQ,RQ,ih fun a m=>hs a (by simp [m]),List.filter_congr fun b hb=>h x (hs x (by simp)) b hb]
 exact k ns fun _ m=>m
theorem Di (h:rows ns r=rows ns q) (ha:a∈ns) (hb:b∈ns):r a b=q a b:=by
 have e:(.tuple [a,b]∈rows ns r)<->(.tuple [a,b]∈rows ns q):=by rw [h]
 rw [cb,cb] at e
 simp only [ha,hb,true_and] at e
 exact OQ.mpr e
noncomputable def tW (ss:List PyData):Rel:=fun a b=>decide (.tuple [a,b]∈ss)
theorem pC {k:Nat} {ss:List PyData} (w:Wb k ns ss):ss=rows ns (tW ss):=by
 refine Dd iK fk w.sr (aW w.nr) fun p=>?_
 rw [du]
 constructor
 ·intro m
  obtain ⟨a,b,rfl,ha,hb⟩:=w.get m
  exact ⟨a,b,rfl,ha,hb,NV m⟩
 ·rintro ⟨a,b,rfl,_,_,h⟩
  exact Pb h
theorem nk (R:Rw bb ns):ag (bu ns r)=true:=FG (vm R (NI _))
theorem Ab (R:Rw bb ns):(bu ns r).depth<=40:=IB (vm R (NI _))
theorem xm {d e:PyData} (td:ag d=true) (te:ag e=true) (l:min d.depth e.depth<=40) (h:Hm):oEq (.dat d) (.dat e) h=.ok (.bool (decide (d=e))) h:=by
 have q:PyData.eqv d e=decide (d=e):=by
  by_cases z:d=e
  ·subst z;rw [NV rfl];exact aT td
  ·rw [NW z];exact aQ td te z
 have l':=NV l
 simp only [oEq,vB,mq,eqQ,noDict,bV td,bV te,l',q,Qj,QA,Ot]
theorem xn {d e:PyData} (td:ag d=true) (te:ag e=true) (l:min d.depth e.depth<=40) (h:Hm):x6 (.dat d) (.dat e) h=.ok (.bool !(decide (d=e))) h:=by
 have q:PyData.eqv d e=decide (d=e):=by
  by_cases z:d=e
  ·subst z;rw [NV rfl];exact aT td
  ·rw [NW z];exact aQ td te z
 have l':=NV l
 simp only [x6,vB,mq,eqQ,noDict,bV td,bV te,l',q,Qj,QA,Ot]
theorem Dj (h:Hm) {n2:List PyData} (R:Rw bb ns) (R2:Rw bb n2):oEq (.dat (bu ns r)) (.dat (bu n2 q)) h=.ok (.bool (decide (bu ns r=bu n2 q))) h:=xm (nk R) (nk R2) (by have:=Ab (r:=r) R;omega) h
theorem Ac (h:Hm) {n2:List PyData} (R:Rw bb ns) (R2:Rw bb n2):x6 (.dat (bu ns r)) (.dat (bu n2 q)) h=.ok (.bool !(decide (bu ns r=bu n2 q))) h:=xn (nk R) (nk R2) (by have:=Ab (r:=r) R;omega) h
theorem Dk {d e:PyData} (td:ag d=true) (te:ag e=true) (l:d.depth<=40):AI d e=some (decide (d=e)):=by
 have q:PyData.eqv d e=decide (d=e):=by
  by_cases z:d=e
  ·subst z;rw [NV rfl];exact aT td
  ·rw [NW z];exact aQ td te z
 have l':decide (min d.depth e.depth<=40)=true:=NV (by omega)
 have:AI d e=eqQ d e:=by
  unfold AI
  split
  ·rename_i k;simp [ag] at te
  ·rename_i k;simp [ag] at te
  ·rfl
 rw [this]
 simp only [eqQ,noDict,bV td,bV te,l',q,Qj,QA,Ot]
theorem xo {d:PyData} (td:ag d=true):∀ {ds:List PyData},af ds=true->(∀ e∈ds,e.depth<=40)->Be d ds=some (decide (d∈ds))
 | [],_,_=>by simp [Be]
 | e::ds,t,l=>by
  simp only [af,NG] at t
  have ih:=xo td t.2 fun x m=>l x (NO _ m)
  unfold Be
  rw [Dk t.1 td (l e (by simp)),ih]
  by_cases z:e=d
  ·subst z;simp
  ·have z':¬ d=e:=fun y=>z y.symm
   simp [z,z']
theorem nq {d:PyData} (td:ag d=true) {ds:List PyData} (t:af ds=true) (l:∀ e∈ds,e.depth<=40) (h:Hm):findIn (.dat d) (.dat (.tuple ds)) h=some (decide (d∈ds))/\findIn (.dat d) (.dat (.list ds)) h=some (decide (d∈ds)):=by
 simp only [findIn,gS,mz,vB,mq,xo td t l,and_self]
theorem Ad {d:PyData} (td:ag d=true) {ds:List PyData} (t:af ds=true) (l:∀ e∈ds,e.depth<=40) (h:Hm):nu (.dat d) (.dat (.tuple ds)) h=.ok (.bool (decide (d∈ds))) h:=by
 simp only [nu,(nq td t l h).1]
theorem j9 {d:PyData} (td:ag d=true) {ds:List PyData} (t:af ds=true) (l:∀ e∈ds,e.depth<=40) (h:Hm):iD (.dat d) (.dat (.tuple ds)) h=.ok (.bool !(decide (d∈ds))) h:=by
 simp only [iD,(nq td t l h).1]
theorem lV {U xs:List PyData} (u:De U) (R:Rw U xs):∀ e∈xs,e.depth<=40:=fun e m=>NS (u.dep e (R.sub e m)) (by decide)
theorem jw {U xs:List PyData} (u:De U) (R:Rw U xs):af xs=true:=iM u.t R.sub
theorem pE (R:Rw bb ns) (ha:a∈ns) (hb:b∈ns):ag (.tuple [a,b])=true:=by simp [ag,af,fo R ha,fo R hb]
theorem FH (R:Rw bb ns) (ha:a∈ns) (hb:b∈ns) (h:Hm):nu (.dat (.tuple [a,b])) (.dat (.tuple (rows ns r))) h=.ok (.bool (r a b)) h:=by
 have:decide (.tuple [a,b]∈rows ns r)=r a b:=by
  rw [OQ,QX,cb];simp [ha,hb]
 rw [Ad (pE R ha hb) (jw dC (aW R)) (lV dC (aW R)),this]
theorem Dn (R:Rw bb ns) (ha:a∈ns) (hb:b∈ns) (h:Hm):iD (.dat (.tuple [a,b])) (.dat (.tuple (rows ns r))) h=.ok (.bool !(r a b)) h:=by
 have:decide (.tuple [a,b]∈rows ns r)=r a b:=by
  rw [OQ,QX,cb];simp [ha,hb]
 rw [j9 (pE R ha hb) (jw dC (aW R)) (lV dC (aW R)),this]
end
inductive Kd where
 | stable
 | standing
 | preferred
 | whole
 | grounded
def Kd.nm:Kd->Str
 | .stable => "stable"
 | .standing => "standing"
 | .preferred => "preferred"
 | .whole => "whole"
 | .grounded => "grounded"
def Kd.I:Kd->Bool->Bool->Bool->Bool
 | .stable,x,_,_=>x
 | .standing,x,y,z=>x && (z || y)
 | .preferred,x,y,z=>x && (z || y)
 | .whole,x,y,_=>x && y
 | .grounded,x,y,z=>y && (x || z)
def lW (kd:Kd) (r:Rel):Rel:=fun a b=>kd.I (r a a) (r b b) (r b a)
noncomputable def dW (kd:Kd) (r:Rel):Rel:=fun a b=>r a b && (decide (a=b) || !lW kd r a b)
noncomputable def gK (kd:Kd) (r:Rel):Rel:=fun a b=>dW kd r a b || (!decide (a=b) && lW kd (dW kd r) a b)
theorem Kd.back {kd:Kd} {x y z z' w:Bool} (h:kd.I x y z≠kd.I x y z'):kd.I y x w=false:=by
 cases kd<;>cases x<;>cases y<;>simp_all [Kd.I]
section
variable {ns:List PyData} {r q:Rel} {a b:PyData} {kd:Kd}
theorem Dq (kd:Kd) (h:Hm):dR [.dat (.str kd.nm)] h=.ok D.none h:=by
 cases kd<;>kernel_rfl
def xp (ns:List PyData) (r:Rel):D:=.kE true ((rows ns r).map fun p=>(p,.bool true))
theorem tX {ds:List PyData} (t:af ds=true) {d:PyData} (td:ag d=true) {v:PyData}:mw d (ds.map fun p=>(p,v))=decide (d∈ds):=by
 unfold mw
 rw [List.any_map]
 rw [OQ,QX,Ro]
 constructor
 ·rintro ⟨x,hx,e⟩
  have:=(jK (aE t hx) td).mp e
  subst this
  exact hx
 ·exact fun m=>⟨d,m,aT td⟩
theorem Dr {p:PyData} (h:p∈kN):keyOk true p=true:=by
 obtain ⟨h1,h2,h3,h4,h5,_⟩:=fI h
 have:p.depth<=8:=NS h5 (by decide)
 simp [keyOk,h1,h3,this]
theorem Ds (Rn:Rw bb ns) (ha:a∈ns) (hb:b∈ns):.tuple [a,b]∈kN:=jl.mpr ⟨a,b,Rn.sub a ha,Rn.sub b hb,rfl⟩
theorem vn (Rn:Rw bb ns) (ha:a∈ns) (hb:b∈ns) (h:Hm):nu (.dat (.tuple [a,b])) (xp ns r) h=.ok (.bool (r a b)) h:=by
 have e:decide (.tuple [a,b]∈rows ns r)=r a b:=by
  rw [OQ,QX,cb];simp [ha,hb]
 simp only [nu,findIn,gS,xp,ux,Dr (Ds Rn ha hb),Ot,tX (jw dC (aW Rn)) (pE Rn ha hb),e]
theorem tY {ρ:Fm} {h:Hm}:∀ {ss acc:List PyData},(∀ d∈acc++ss,d∈kN)->(acc++ss).Nodup->acc.length+ss.length < 1000->fb true 1 ρ (ay 0) dG (ab 0) (ah (.bool true)) (ss.map D.dat) (acc.map fun p=>(p,.bool true)) h=.ok ((acc++ss).map fun p=>(p,.bool true)) h
 | [],acc,_,_,_=>by simp [fb]
 | d::ss,acc,hs,nd,hl=>by
  simp only [N3] at hl
  have ih:=tY (ρ:=ρ) (h:=h) (ss:=ss) (acc:=acc++[d]) (by simpa using hs) (by simpa using nd) (by simp;omega)
  have hd:d∈kN:=hs d (by simp)
  have ta:af acc=true:=fQ fun x m=>aE fk (hs x (by simp [m]))
  have kn:mw d (acc.map fun p=>(p,PyData.bool true))=false:=by
   rw [tX ta (aE fk hd)]
   refine NW fun m=>?_
   exact (Qw.mp nd).2.2 d m d (by simp) rfl
  have lt:decide ((acc.map fun p=>(p,PyData.bool true)).length < 16777216)=true:=NV (by rw [NZ];omega)
  have dp:dput (acc.map fun p=>(p,PyData.bool true)) d (.bool true)=(acc++[d]).map fun p=>(p,.bool true):=by simp [dput,kn]
  simp only [Ob,fb,ay,R.bq,R.ao,dG,Ot,rep1,Qi,Pt,Pj,ab,Pp,ah,Dr hd,Bool.true_or,Bool.true_and,lt,dp]
  rw [ih]
  simp
theorem jm (hn:ns.length<=12):(rows ns r).length<=144:=NS nj (QF hn hn)
theorem Dt (Rn:Rw bb ns) {ρ:Fm} {h:Hm} {m:ME} (e:m ρ h=.ok (.dat (.tuple (rows ns r))) h):lK true 1 (aR m) (ay 0) (dG) (ab 0) (ah (.bool true)) ρ h=.ok (xp ns r) h:=by
 have l:=jm (r:=r) (jv Rn)
 have:=tY (ρ:=ρ) (h:=h) (ss:=rows ns r) (acc:=[]) (by simpa using (aW Rn).sub) (by simpa using iL fk (aW Rn)) (by simp;omega)
 simp only [Qo,Pt] at this
 unfold lK
 rw [cX e]
 simp only [R.ao,this,xp]
theorem FI (Rn:Rw bb ns) (ha:a∈ns) (hb:b∈ns) (h:Hm) :
  bj [xp ns r,.dat a,.dat b] h=.ok (.bool (lW .stable r a b)) h/\aP [xp ns r,.dat a,.dat b] h=.ok (.bool (lW .standing r a b)) h /\
  br [xp ns r,.dat a,.dat b] h=.ok (.bool (lW .whole r a b)) h/\aV [xp ns r,.dat a,.dat b] h=.ok (.bool (lW .grounded r a b)) h:=by
 have e1:=vn (r:=r) Rn ha ha h
 have e2:=vn (r:=r) Rn hb hb h
 have e3:=vn (r:=r) Rn hb ha h
 refine ⟨?_,?_,?_,?_⟩
 ·simp [bj,gY,e1,lW,Kd.I]
 ·cases x1:r a a<;>cases x2:r b b<;>cases x3:r b a<;>rw [x1] at e1<;>rw [x2] at e2<;>rw [x3] at e3<;>simp [aP,fX,e1,e2,e3,lW,Kd.I,x1,x2,x3]
 ·cases x1:r a a<;>cases x2:r b b<;>rw [x1] at e1<;>rw [x2] at e2<;>simp [br,iF,e1,e2,lW,Kd.I,x1,x2]
 ·cases x1:r a a<;>cases x2:r b b<;>cases x3:r b a<;>rw [x1] at e1<;>rw [x2] at e2<;>rw [x3] at e3<;>simp [aV,fY,e1,e2,e3,lW,Kd.I,x1,x2,x3]
def Kd.fn:Kd->Str
 | .stable => "idle_for_stable"
 | .standing => "idle_for_standing"
 | .preferred => "idle_for_standing"
 | .whole => "idle_for_whole"
 | .grounded => "idle_for_grounded"
theorem Ae {m:ME} {ρ:Fm} {h:Hm} (kd:Kd) (e:m ρ h=.ok (.dat (.str kd.nm)) h):qC lL m ρ h=.ok (.fn kd.fn) h:=by
 unfold qC
 rw [e]
 simp only [R.ao]
 cases kd<;>kernel_rfl
abbrev oV:List (Str×Fn):=[("idle_for_grounded",aV),("idle_for_standing",aP),("idle_for_stable",bj),("idle_for_whole",br)]
theorem xq (Rn:Rw bb ns) (ha:a∈ns) (hb:b∈ns) {i:Nat} {ma:MA} {ρ:Fm} {h:Hm} (ei:ρ[i]?=some (some (.fn kd.fn))) (em:ma ρ h=.ok [xp ns r,.dat a,.dat b] h):ja i oV ma ρ h=.ok (.bool (lW kd r a b)) h:=by
 obtain ⟨k1,k2,k3,k4⟩:=FI (r:=r) Rn ha hb h
 unfold ja
 rw [ei]
 cases kd
 ·have:oV.lookup (Kd.fn .stable)=some bj:=by kernel_rfl
  simp only [this]
  rw [bO em,k1]
 ·have:oV.lookup (Kd.fn .standing)=some aP:=by kernel_rfl
  simp only [this]
  rw [bO em,k2]
 ·have:oV.lookup (Kd.fn .preferred)=some aP:=by kernel_rfl
  simp only [this]
  rw [bO em,k2]
  rfl
 ·have:oV.lookup (Kd.fn .whole)=some br:=by kernel_rfl
  simp only [this]
  rw [bO em,k3]
 ·have:oV.lookup (Kd.fn .grounded)=some aV:=by kernel_rfl
  simp only [this]
  rw [bO em,k4]
end
section
variable {a b:MS} {t:MT} {m m2:ME} {ρ ρ1:Fm} {h h1 h2:Hm} {r:R Fl} {x y:D} {i:Nat} {g:MG} {it:MA} {f:Fn} {ma:MA} {xs:List D}
theorem bc (e:a ρ h=.ok (.nx ρ1) h1) (k:b ρ1 h1=r):bC a b ρ h=r:=(ky e).trans k
theorem dz (e:m ρ h=.ok x h1):cn i m ρ h=.ok (.nx (ρ.set i (some x))) h1:=pv e
theorem jn (e:m ρ h=.ok x h1):jF m ρ h=.ok (.nx ρ) h1:=by simp only [jF,e,R.ao]
theorem vo (e:m ρ h=.ok x h1) (k:g x ρ h1=.ok ρ1 h2):kG g m ρ h=.ok (.nx ρ1) h2:=by simp only [kG,e,R.ao,k]
theorem fJ (e:m ρ h=.ok x h1):bX m ρ h=.ok (.rt x) h1:=vi e
theorem IE (e:t ρ h=.ok true h1) (k:a ρ h1=r):jy t a b ρ h=r:=(Gu e).trans k
theorem vq (e:t ρ h=.ok false h1) (k:b ρ h1=r):jy t a b ρ h=r:=(Gv e).trans k
theorem iN {p n:Nat} (l:xs.length=p) (e:b (xs.map some++List.replicate (n - p) none) h=.ok (.rt x) h1):bI p n b xs h=.ok x h1:=by
 unfold bI
 rw [if_pos l,e]
 rfl
theorem aK {d:D} (ha:ma ρ h=.ok xs h1) (k:f xs h1=.ok d h2):ai f ma ρ h=.ok d h2:=(bO ha).trans k
theorem fq {a b:PyData} (e1:m ρ h=.ok (.dat a) h1) (e2:m2 ρ h1=.ok (.dat b) h2):cC (aa m (aa m2 ak)) ρ h=.ok (.dat (.tuple [a,b])) h2:=(bO (aM e1 (aM e2 rfl))).trans (Iq _ _ _)
theorem IF {u:MT} (e:t ρ h=.ok true h1):lY t u ρ h=.ok true h1:=by simp [lY,e]
theorem rA {u:MT} {c:Bool} (e:t ρ h=.ok false h1) (k:u ρ h1=.ok c h2):lY t u ρ h=.ok c h2:=by simp [lY,e,k]
theorem Du {u:MT} {c d:Bool} (e:t ρ h=.ok c h1) (k:u ρ h1=.ok d h1):lY t u ρ h=.ok (c || d) h1:=by cases c<;>simp [lY,e,k]
theorem FJ {u:MT} {c d:Bool} (e:t ρ h=.ok c h1) (k:u ρ h1=.ok d h1):vF t u ρ h=.ok (c && d) h1:=by cases c<;>simp [vF,e,k]
theorem gL {c:Bool} (e:m ρ h=.ok (.bool c) h1):bP m ρ h=.ok c h1:=tV e rfl
end
section
variable {ns:List PyData} {r q:Rel} {a b:PyData} {kd:Kd}
theorem xt (Rn:Rw bb ns) (c:Rel) {f:PyData->Bool} (hf:∀ a∈ns,∀ b∈ns,f (.tuple [a,b])=c a b):(rows ns r).filter f=rows ns fun a b=>r a b && c a b:=by
 have s:Rw kN ((rows ns r).filter f):=⟨fun d m=>(aW Rn).sub d (OY.mp m).1,(aW Rn).ris.filter _⟩
 refine Dd iK fk s (aW Rn) fun p=>?_
 rw [OY,du,du]
 constructor
 ·rintro ⟨⟨a,b,rfl,ha,hb,h⟩,k⟩
  exact ⟨a,b,rfl,ha,hb,by rw [h,<- hf a ha b hb,k];rfl⟩
 ·rintro ⟨a,b,rfl,ha,hb,h⟩
  simp only [NG] at h
  exact ⟨⟨a,b,rfl,ha,hb,h.1⟩,by rw [hf a ha b hb];exact h.2⟩
theorem FK (ha:ag a=true) (hb:ag b=true) (la:a.depth<=40) (h:Hm):oEq (.dat a) (.dat b) h=.ok (.bool (decide (a=b))) h:=xm ha hb (by omega) h
theorem Dv (Rn:Rw bb ns) (ha:a∈ns):a.depth<=40:=NS (Dg.dep a (Rn.sub a ha)) (by decide)
theorem rB (Rn:Rw bb ns) (h:Hm):cI [.dat (bu ns r)] h=.ok D.none h:=IA (vm Rn (NI _)) (by have:=jv Rn;exact NS (QF this this) (by decide)) h
noncomputable def IG (kd:Kd) (r:Rel) (p:PyData):Bool:=decide (IC p=ID p) || !lW kd r (IC p) (ID p)
theorem fK (Rn:Rw bb ns) (kd:Kd) (h:Hm):bZ [.dat (bu ns r),.dat (.str kd.nm)] h=.ok (.dat (bu ns (dW kd r))) h:=by
 have l:=jm (r:=r) (jv Rn)
 have key:=ku (n:=2) (it:=aR (ab 4)) (g:=jB (cA (ay 0) (cA (ay 1) (jA)))) (t:=lY (aN (au oEq (ab 0) (ab 1))) (fT (bP (ja 4 oV (aa (ab 7) (aa (ab 0) (aa (ab 1) (ak)))))))) (e:=cC (aa (ab 0) (aa (ab 1) (ak))))
  (ρ:=[some (.dat (bu ns r)),some (.dat (.str kd.nm)),some (.fn kd.fn),some (.dat (.tuple ns)),some (.dat (.tuple (rows ns r))),some (xp ns r),none]) (h:=h) (h1:=h) (ds:=rows ns r) (cX (by rfl)) (by omega) (IG kd r) (fun p=>p) (fun p hp=>by
   obtain ⟨a,b,rfl,ha,hb,hr⟩:=du.mp hp
   refine ⟨[some (.dat a),some (.dat b),some (.dat (bu ns r)),some (.dat (.str kd.nm)),some (.fn kd.fn),some (.dat (.tuple ns)),some (.dat (.tuple (rows ns r))),some (xp ns r),none],rfl,?_,fun _=>by simp⟩
   have e1:aN (au oEq (ab 0) (ab 1)) [some (.dat a),some (.dat b),some (.dat (bu ns r)),some (.dat (.str kd.nm)),some (.fn kd.fn),some (.dat (.tuple ns)),some (.dat (.tuple (rows ns r))),some (xp ns r),none] h=.ok (decide (a=b)) h:=bE (aw rfl rfl (FK (fo Rn ha) (fo Rn hb) (Dv Rn ha) h))
   have e2:=xq (r:=r) (kd:=kd) Rn ha hb (i:=4) (ma:=aa (ab 7) (aa (ab 0) (aa (ab 1) (ak)))) (ρ:=[some (.dat a),some (.dat b),some (.dat (bu ns r)),some (.dat (.str kd.nm)),some (.fn kd.fn),some (.dat (.tuple ns)),some (.dat (.tuple (rows ns r))),some (xp ns r),none]) (h:=h) rfl rfl
   have e3:=kz (tV e2 (c:=lW kd r a b) rfl)
   unfold lY
   rw [e1]
   simp only [R.ao,IG,IC,ID]
   by_cases z:a=b
   ·simp [z]
   ·simp only [z,decide_false,NP,Ou,Bool.false_or]
    exact e3)
 have fl:(rows ns r).filter (IG kd r)=rows ns (dW kd r):=xt Rn (fun a b=>decide (a=b) || !lW kd r a b) fun a _ b _=>rfl
 rw [List.map_id',fl] at key
 have l2:=jm (r:=dW kd r) (jv Rn)
 have t1:=rB (r:=r) Rn h
 have t2:=Dq kd h
 have t4:qC lL (ab 1) [some (.dat (bu ns r)),some (.dat (.str kd.nm)),none,none,none,none,none] h=.ok (.fn kd.fn) h:=Ae kd rfl
 have t5:=Dt (r:=r) Rn (ρ:=[some (.dat (bu ns r)),some (.dat (.str kd.nm)),some (.fn kd.fn),some (.dat (.tuple ns)),some (.dat (.tuple (rows ns r))),none,none]) (h:=h) (m:=ab 4) rfl
 exact iN rfl (bc (jn (aK (xs:=[.dat (bu ns r)]) rfl t1)) (bc (jn (aK (xs:=[.dat (.str kd.nm)]) rfl t2)) (bc (dz t4) (bc (vo (x:=.dat (bu ns r)) rfl rfl) (bc (dz t5) (bc (dz key) (fJ (fq (a:=.tuple ns) rfl (aK (xs:=[.dat (.list (rows ns (dW kd r)))]) rfl rfl)))))))))
end
theorem oW {g2:MG} {t2:MT} {e:ME} {h:Hm} (I:Fm->Prop) (c:D->Bool) (f:D->D):∀ {ys:List D} {ρ:Fm},(∀ y∈ys,∀ ρ,I ρ->∃ ρ1,g2 y ρ h=.ok ρ1 h/\t2 ρ1 h=.ok (c y) h/\(c y=true->e ρ1 h=.ok (f y) h)/\I ρ1)->I ρ->i9 g2 t2 e ys ρ h=.ok ((ys.filter c).map f) h
 | [],ρ,_,_=>rfl
 | y::ys,ρ,H,i=>by
  obtain ⟨ρ1,h1,h2,h3,i1⟩:=H y (NU ..) ρ i
  have ih:=oW I c f (ys:=ys) (fun z hz=>H z (NO _ hz)) i1
  unfold i9
  rw [h1]
  simp only [R.bq,R.ao]
  rw [h2]
  simp only [R.bq,R.ao]
  cases hc:c y with
  | false=>simp only [NP,Ou,Pn,hc];exact ih
  | true=>
   simp only [Ot,Pn,hc]
   rw [h3 hc]
   simp only [R.bq,R.ao]
   rw [ih]
   rfl
theorem yO {n:Nat} {it it2:MA} {g g2:MG} {t2:MT} {e:ME} {ρ:Fm} {h:Hm} {ds es:List PyData} (hit:it ρ h=.ok (ds.map D.dat) h) (hz:ds.length * es.length+es.length<=100000) (hd:ds.length<=100000) (I:PyData->Fm->Prop) (c:PyData->PyData->Bool) (f:PyData->PyData->PyData)
  (H:∀ a∈ds,∃ ρ1,g (.dat a) (List.replicate n none++ρ) h=.ok ρ1 h/\it2 ρ1 h=.ok (es.map D.dat) h/\I a ρ1) (H2:∀ a∈ds,∀ b∈es,∀ ρ,I a ρ->∃ ρ1,g2 (.dat b) ρ h=.ok ρ1 h/\t2 ρ1 h=.ok (c a b) h/\(c a b=true->e ρ1 h=.ok (.dat (f a b)) h)/\I a ρ1) :
  uR n it g dG it2 g2 t2 e ρ h=.ok (.dat (.list (ds.flatMap fun a=>(es.filter (c a)).map (f a)))) h:=by
 have go:∀ (xs:List PyData) (k:Nat),(∀ a∈xs,a∈ds)->k+xs.length * es.length+es.length<=200000->eO n ρ g dG it2 g2 t2 e (xs.map D.dat) k h=.ok ((xs.flatMap fun a=>(es.filter (c a)).map (f a)).map D.dat) h:=by
  intro xs
  induction xs with
  | nil=>intro k _ _;rfl
  | cons a xs ih=>
   intro k hs hk
   obtain ⟨ρ1,q1,q2,q3⟩:=H a (hs a (by simp))
   have inn:=oW (I a) (fun y=>match y with | .dat b=>c a b | _=>false) (fun y=>match y with | .dat b=>.dat (f a b) | _=>.dat .none) (ys:=es.map D.dat) (ρ:=ρ1) (g2:=g2) (t2:=t2) (e:=e) (h:=h) (fun y hy ρ' i=>by
    obtain ⟨b,hb,rfl⟩:=Oe.mp hy
    obtain ⟨ρ2,z1,z2,z3,z4⟩:=H2 a (hs a (by simp)) b hb ρ' i
    exact ⟨ρ2,z1,z2,z3,z4⟩) q3
   have fm:((es.map D.dat).filter (fun y=>match y with | .dat b=>c a b | _=>false)).map (fun y=>match y with | .dat b=>D.dat (f a b) | _=>.dat .none)=((es.filter (c a)).map (f a)).map D.dat:=by
    simp [List.filter_map,RP]
   rw [fm] at inn
   have lf:(es.filter (c a)).length<=es.length:=Pg _ _
   simp only [N3,Nat.add_mul] at hk
   have ih':=ih (k+((es.filter (c a)).map (f a)).length) (fun b m=>hs b (by simp [m])) (by rw [NZ];omega)
   simp only [Ob]
   unfold eO
   rw [q1]
   simp only [R.bq,R.ao,dG,Ot]
   rw [q2]
   simp only [R.bq,R.ao,NZ,sz (show k+es.length<=16777216 by omega),Ot]
   rw [inn]
   simp only [R.ao,NZ]
   rw [NZ] at ih'
   rw [ih']
   simp
 have g0:=go ds 0 (fun _ m=>m) (by omega)
 unfold uR ai qB
 rw [hit]
 simp only [R.ao,NZ,sz (show ds.length<=16777216 by omega),Ot]
 rw [g0]
 simp only [R.ao]
 refine cQ _ h ?_
 have:=Aa (xs:=ds) (n:=es.length) (f:=fun a=>(es.filter (c a)).map (f a)) fun a=>by rw [NZ];exact Pg _ _
 omega
section
variable {ns:List PyData} {r q:Rel} {a b:PyData} {kd:Kd}
theorem lX (Rn:Rw bb ns) (kd:Kd) (h:Hm):dS [.dat (bu ns r),.dat (.str kd.nm)] h=.ok (.dat (bu ns (gK kd r))) h:=by
 have ln:=jv Rn
 have lq:=QF ln ln
 have key:=yO (n:=2) (it:=aR (ab 2)) (it2:=aR (ab 4)) (g:=ay 0) (g2:=ay 1) (t2:=lY (aN (au nu (cC (aa (ab 0) (aa (ab 1) (ak)))) (ab 7))) (vF (aN (au x6 (ab 0) (ab 1))) (bP (ja 6 oV (aa (ab 7) (aa (ab 0) (aa (ab 1) (ak)))))))) (e:=cC (aa (ab 0) (aa (ab 1) (ak))))
  (ρ:=[some (.dat (bu ns r)),some (.dat (.str kd.nm)),some (.dat (.tuple ns)),some (.dat (.tuple (rows ns (dW kd r)))),some (.fn kd.fn),some (xp ns (dW kd r)),none]) (h:=h) (ds:=ns) (es:=ns) (cX (by rfl)) (by omega) (by omega)
  (fun a ρ=>∃ o,ρ=[some (.dat a),o,some (.dat (bu ns r)),some (.dat (.str kd.nm)),some (.dat (.tuple ns)),some (.dat (.tuple (rows ns (dW kd r)))),some (.fn kd.fn),some (xp ns (dW kd r)),none]) (gK kd r) (fun a b=>.tuple [a,b])
  (fun a ha=>⟨_,rfl,cX (by rfl),none,rfl⟩)
  (fun a ha b hb ρ ⟨o,e⟩=>by
   subst e
   refine ⟨[some (.dat a),some (.dat b),some (.dat (bu ns r)),some (.dat (.str kd.nm)),some (.dat (.tuple ns)),some (.dat (.tuple (rows ns (dW kd r)))),some (.fn kd.fn),some (xp ns (dW kd r)),none],rfl,?_,fun _=>fq rfl rfl,some (.dat b),rfl⟩
   have e2:=xq (r:=dW kd r) (kd:=kd) Rn ha hb (i:=6) (ma:=aa (ab 7) (aa (ab 0) (aa (ab 1) (ak)))) (ρ:=[some (.dat a),some (.dat b),some (.dat (bu ns r)),some (.dat (.str kd.nm)),some (.dat (.tuple ns)),some (.dat (.tuple (rows ns (dW kd r)))),some (.fn kd.fn),some (xp ns (dW kd r)),none]) (h:=h) rfl rfl
   exact Du (bE (aw (fq rfl rfl) rfl (vn Rn ha hb h))) (FJ (bE (aw rfl rfl (xn (fo Rn ha) (fo Rn hb) (by have:=Dv Rn ha;omega) h))) (gL e2)))
 have t4:qC lL (ab 1) [some (.dat (bu ns r)),some (.dat (.str kd.nm)),some (.dat (.tuple ns)),some (.dat (.tuple (rows ns (dW kd r)))),none,none,none] h=.ok (.fn kd.fn) h:=Ae kd rfl
 have t5:=Dt (r:=dW kd r) Rn (ρ:=[some (.dat (bu ns r)),some (.dat (.str kd.nm)),some (.dat (.tuple ns)),some (.dat (.tuple (rows ns (dW kd r)))),some (.fn kd.fn),none,none]) (h:=h) (m:=ab 3) rfl
 exact iN rfl (bc (vo (aK (xs:=[.dat (bu ns r),.dat (.str kd.nm)]) rfl (fK Rn kd h)) rfl) (bc (dz t4) (bc (dz t5) (bc (dz key) (fJ (fq (a:=.tuple ns) rfl (aK (xs:=[.dat (.list (rows ns (gK kd r)))]) rfl rfl)))))))
theorem xu {n2:List PyData} (Rn:Rw bb ns) (R2:Rw bb n2) (kd:Kd) (h:Hm):dI [.dat (bu ns r),.dat (bu n2 q),.dat (.str kd.nm)] h=.ok (.bool (decide (bu ns (dW kd r)=bu n2 (dW kd q)))) h:=
 iN rfl (bc (jn (aK (xs:=[.dat (bu ns r)]) rfl (rB Rn h))) (bc (jn (aK (xs:=[.dat (bu n2 q)]) rfl (rB R2 h))) (bc (jn (aK (xs:=[.dat (.str kd.nm)]) rfl (Dq kd h)))
  (fJ (aw (aK (xs:=[.dat (bu ns r),.dat (.str kd.nm)]) rfl (fK Rn kd h)) (aK (xs:=[.dat (bu n2 q),.dat (.str kd.nm)]) rfl (fK R2 kd h)) (Dj h Rn R2))))))
noncomputable def gap (ns:List PyData) (k f:Rel):List PyData:=(rows ns f).filter fun p=>!decide (p∈rows ns k)
theorem tZ (Rn:Rw bb ns) {p:PyData} (hp:p∈rows ns q) (h:Hm):iD (.dat p) (.dat (.tuple (rows ns r))) h=.ok (.bool !(decide (p∈rows ns r))) h:=
 j9 (aE (jw dC (aW Rn)) hp) (jw dC (aW Rn)) (lV dC (aW Rn)) h
abbrev yP:MS:=jy (aN (au iD (ab 4) (ab 2))) (CD 3 (ab 3)) (cB)
theorem vt (Rn:Rw bb ns) {k f:Rel} {a0 a1:Option D} {h:Hm}:∀ {xs:List PyData} {n:Nat},(∀ p∈xs,p∈rows ns f)->∀ a4:Option D,∃ b4,dA (ay 4) yP (xs.map D.dat) [a0,a1,some (.dat (.tuple (rows ns k))),some (.int ((2 ^ n:Nat):Int)),a4] h=.ok (.nx [a0,a1,some (.dat (.tuple (rows ns k))),some (.int ((2 ^ (n+(xs.filter fun p=>!decide (p∈rows ns k)).length):Nat):Int)),b4]) h
 | [],n,_,a4=>⟨a4,by simp [dA]⟩
 | p::xs,n,hs,a4=>by
  have hp:=hs p (by simp)
  have e:=tZ (r:=k) Rn hp h
  by_cases z:p∈rows ns k
  ·obtain ⟨b4,ih⟩:=vt Rn (k:=k) (f:=f) (a0:=a0) (a1:=a1) (h:=h) (xs:=xs) (n:=n) (fun q m=>hs q (by simp [m])) (some (.dat p))
   refine ⟨b4,?_⟩
   rw [NV z] at e
   have st:yP [a0,a1,some (.dat (.tuple (rows ns k))),some (.int ((2 ^ n:Nat):Int)),some (.dat p)] h=.ok (.nx [a0,a1,some (.dat (.tuple (rows ns k))),some (.int ((2 ^ n:Nat):Int)),some (.dat p)]) h:=vq (bE (aw rfl rfl e)) rfl
   simp only [Ob,dA,ay,R.bq,R.ao,PR,Pj]
   rw [st]
   simp only [R.bq,R.ao,Pn,NV z,PN,NP,Ou]
   exact ih
  ·obtain ⟨b4,ih⟩:=vt Rn (k:=k) (f:=f) (a0:=a0) (a1:=a1) (h:=h) (xs:=xs) (n:=n+1) (fun q m=>hs q (by simp [m])) (some (.dat p))
   refine ⟨b4,?_⟩
   rw [NW z] at e
   have dbl:((2 ^ n:Nat):Int)+((2 ^ n:Nat):Int)=((2 ^ (n+1):Nat):Int):=by rw [RT];omega
   have st:yP [a0,a1,some (.dat (.tuple (rows ns k))),some (.int ((2 ^ n:Nat):Int)),some (.dat p)] h=.ok (.nx [a0,a1,some (.dat (.tuple (rows ns k))),some (.int ((2 ^ (n+1):Nat):Int)),some (.dat p)]) h:=by
    rw [<- dbl]
    exact IE (bE (aw rfl rfl e)) rfl
   simp only [Ob,dA,ay,R.bq,R.ao,PR,Pj]
   rw [st]
   simp only [R.bq,R.ao,Pn,NW z,Qj,Ot,N3]
   rw [ih,show n+1+(List.filter (fun p=>!decide (p∈rows ns k)) xs).length=n+((List.filter (fun p=>!decide (p∈rows ns k)) xs).length+1) by omega]
theorem FN (Rn:Rw bb ns) (kd:Kd) (h:Hm):jb [.dat (bu ns r),.dat (.str kd.nm)] h=.ok (.int ((2 ^ (gap ns (dW kd r) (gK kd r)).length:Nat):Int)) h:=by
 obtain ⟨b4,lp⟩:=vt Rn (k:=dW kd r) (f:=gK kd r) (a0:=some (.dat (bu ns r))) (a1:=some (.dat (.str kd.nm))) (h:=h) (xs:=rows ns (gK kd r)) (n:=0) (fun _ m=>m) none
 rw [Nat.zero_add] at lp
 exact iN rfl (bc (dz (aw (aK (xs:=[.dat (bu ns r),.dat (.str kd.nm)]) rfl (fK Rn kd h)) (y:=.int 1) rfl rfl)) (bc (dz (x:=.int 1) rfl) (bc (gj (cX (aw (aK (xs:=[.dat (bu ns r),.dat (.str kd.nm)]) rfl (lX Rn kd h)) (y:=.int 1) rfl rfl)) lp) (fJ rfl))))
end
section
variable {ns:List PyData} {r q:Rel} {a b x y:PyData} {kd:Kd}
def vw (ns:List PyData) (kd:Kd) (r q:Rel):Prop:=∀ a∈ns,∀ b∈ns,(a=b\/lW kd r a b=false)->q a b=r a b
theorem vw.lW (A:vw ns kd r q) (ha:a∈ns) (hb:b∈ns):lW kd q a b=lW kd r a b:=by
 have e1:=A a ha a ha (.inl rfl)
 have e2:=A b hb b hb (.inl rfl)
 unfold Ml.lW
 rw [e1,e2]
 by_cases h:kd.I (r a a) (r b b) (q b a)=kd.I (r a a) (r b b) (r b a)
 ·exact h
 ·have:q b a=r b a:=A b hb a ha (.inr (Kd.back h))
  rw [this]
theorem vw.dW (A:vw ns kd r q) (ha:a∈ns) (hb:b∈ns):dW kd q a b=dW kd r a b:=by
 have e:=A.lW ha hb
 unfold Ml.dW
 rw [e]
 by_cases z:a=b
 ·rw [A a ha b hb (.inl z)]
 ·cases w:Ml.lW kd r a b with
  | true=>simp [z]
  | false=>rw [A a ha b hb (.inr w)]
theorem hU:vw ns kd r (dW kd r):=fun a ha b hb h=>by
 unfold dW
 rcases h with z | z
 ·simp [z]
 ·simp [z]
theorem Af:vw ns kd r (gK kd r):=fun a ha b hb h=>by
 have k:=hU (r:=r) (kd:=kd) a ha b hb h
 unfold gK
 rcases h with z | z
 ·simp [z]
  subst z
  exact k
 ·rw [(hU (ns:=ns)).lW ha hb,z,k]
  simp
theorem vw.self:vw ns kd r r:=fun _ _ _ _ _=>rfl
theorem vw.gK (A:vw ns kd r q) (ha:a∈ns) (hb:b∈ns):gK kd q a b=gK kd r a b:=by
 unfold Ml.gK
 rw [A.dW ha hb,(hU (ns:=ns) (r:=q)).lW ha hb,(hU (ns:=ns) (r:=r)).lW ha hb,A.lW ha hb]
theorem pF (h:dW kd r a b=true):r a b=true:=by
 unfold dW at h
 simp only [NG] at h
 exact h.1
theorem vz (ha:a∈ns) (hb:b∈ns) (h:r a b=true):gK kd r a b=true:=by
 unfold gK
 rw [(hU (ns:=ns)).lW ha hb]
 unfold dW
 rw [h]
 by_cases z:a=b
 ·simp [z]
 ·cases lW kd r a b<;>simp [z]
theorem IH (h1:∀ a∈ns,∀ b∈ns,dW kd r a b=true->q a b=true) (h2:∀ a∈ns,∀ b∈ns,q a b=true->gK kd r a b=true):vw ns kd r q:=fun a ha b hb h=>by
 have k:=hU (r:=r) (kd:=kd) a ha b hb h
 have f:=Af (r:=r) (kd:=kd) a ha b hb h
 cases e:r a b with
 | true=>exact h1 a ha b hb (by rw [k,e])
 | false=>
  cases e2:q a b with
  | false=>rfl
  | true=>have:=h2 a ha b hb e2;rw [f,e] at this;exact this.symm
theorem vw.xw (A:vw ns kd r q):rows ns (Ml.dW kd q)=rows ns (Ml.dW kd r):=rm fun a ha b hb=>A.dW ha hb
theorem vw.xx (A:vw ns kd r q):rows ns (Ml.gK kd q)=rows ns (Ml.gK kd r):=rm fun a ha b hb=>A.gK ha hb
noncomputable def oX (r:Rel) (x y:PyData):Rel:=fun a b=>if a=x/\b=y then !r a b else r a b
theorem FO (hx:x∈ns) (hy:y∈ns) (h:dW kd r x y=true\/gK kd r x y=false):rows ns (dW kd (oX r x y))≠rows ns (dW kd r):=fun e=>by
 have k:=Di e hx hy
 have t:oX r x y x y=!r x y:=by simp [oX]
 rcases h with h | h
 ·have rx:=pF h
  rw [h] at k
  have:=pF k
  rw [t,rx] at this
  cases this
 ·have rx:r x y=false:=by
   cases z:r x y with
   | false=>rfl
   | true=>rw [vz hx hy z] at h;exact h
  have kx:dW kd r x y=false:=by unfold dW;rw [rx];rfl
  rw [kx] at k
  unfold dW at k
  rw [t,rx] at k
  simp at k
  obtain ⟨ne,k⟩:=k
  have ix:lW kd (oX r x y) x y=lW kd r x y:=by
   have e1:oX r x y x x=r x x:=by simp [oX,ne]
   have e2:oX r x y y y=r y y:=by simp [oX,Rk ne]
   have e3:oX r x y y x=r y x:=by simp [oX,Rk ne]
   unfold lW
   rw [e1,e2,e3]
  rw [ix] at k
  unfold gK at h
  rw [(hU (ns:=ns)).lW hx hy,k] at h
  simp [ne] at h
end
structure Px (i:Nat) (h:Hm):Prop where
 box:∃ n f:Int,h[i]?=some (.lst [.int n,.int f])
 wf:Wf h
def Ps (i:Nat) (h h':Hm):Prop:=∃ n f:Int,h'=h.set i (.lst [.int n,.int f])
theorem Px.lt {i:Nat} {h:Hm} (b:Px i h):i < h.length:=by
 obtain ⟨⟨n,f,e⟩,_⟩:=b
 exact (NY.mp e).1
theorem Px.refl {i:Nat} {h:Hm} (b:Px i h):Ps i h h:=by
 obtain ⟨⟨n,f,e⟩,_⟩:=b
 refine ⟨n,f,?_⟩
 obtain ⟨l,e⟩:=NY.mp e
 rw [<- e]
 exact (List.set_getElem_self l).symm
theorem Ps.trans {i:Nat} {h h' h'':Hm} (a:Ps i h h') (b:Ps i h' h''):Ps i h h'':=by
 obtain ⟨n,f,rfl⟩:=a
 obtain ⟨k,g,rfl⟩:=b
 exact ⟨k,g,by rw [List.set_set]⟩
theorem Ps.px {i:Nat} {h h':Hm} (s:Ps i h h') (b:Px i h):Px i h':=by
 obtain ⟨n,f,rfl⟩:=s
 exact ⟨⟨n,f,by rw [OO b.lt]⟩,b.wf.set rfl⟩
theorem Ps.len {i:Nat} {h h':Hm} (s:Ps i h h'):h'.length=h.length:=by
 obtain ⟨n,f,rfl⟩:=s
 simp
theorem Px.push {i:Nat} {h:Hm} (b:Px i h) {o:MO} (q:MO.below (h.length+1) o=true):Px i (h++[o]):=by
 obtain ⟨n,f,e⟩:=b.box
 exact ⟨⟨n,f,by rw [Oh b.lt];exact e⟩,b.wf.push q⟩
theorem Ps.pop {i:Nat} {h h':Hm} {o:MO} (b:i < h.length) (s:Ps i (h++[o]) h'):∃ h1,h'=h1++[o]/\Ps i h h1:=by
 obtain ⟨n,f,rfl⟩:=s
 exact ⟨_,by rw [List.set_append_left _ _ b],n,f,rfl⟩
def Dp {α:Type} (i:Nat) (h:Hm) (r:R α) (P:α->Prop):Prop:=∃ a h',r=.ok a h'/\Ps i h h'/\P a
section
variable {α β:Type} {i:Nat} {h:Hm} {r:R α} {f:α->Hm->R β} {P P':α->Prop} {Q:β->Prop}
theorem Dp.ok {a:α} (b:Px i h) (p:P a):Dp i h (.ok a h) P:=⟨a,h,rfl,b.refl,p⟩
end
theorem xy {f:Fn} {xs:List D} {i:Nat} {h h1 t:Hm} {x:PyData} (b:Px i h) (e:f xs h=.ok (.dat x) (h1++t)) (s:Ps i h h1):iC f xs h=.ok (.dat x) h1:=by
 have hl:=s.len
 have w:=(s.px b).wf
 have e1:(h1++t).take h.length=h1:=by rw [<- hl,List.take_left'];rfl
 unfold iC
 rw [e]
 have:(h1.all (MO.below h.length))=true:=by rw [<- hl];exact NT.mpr fun o m=>w o m
 simp [e1,D.below,this,hl]
theorem rC {i j:Int} (h0:0<=j) (hj:j < 1000000000000) (h:Hm):qd (.int i) (.int j) h=.ok (.int (i * j)) h:=by
 have:zg i j=true:=by
  unfold zg
  rw [show decide (-(2 ^ 64) < j)=true from NV (by omega),show decide (j < 2 ^ 64)=true from NV (by omega)]
  simp
 simp [qd,this]
theorem kA {i j:Int} (h0:0 < j) (h:Hm):oMod (.int i) (.int j) h=.ok (.int (i % j)) h:=by simp [oMod,h0]
theorem xA {i j:Int} (h0:0 < j) (h1:j < 1073741824) (h:Hm):mr (.int i) (.int j) h=.ok (.int (i / j)) h:=by simp [mr,h0,h1]
theorem rD {i j:Int} (h:Hm):gA (.int i) (.int j) h=.ok (.int (i+j)) h:=rfl
theorem kB {i j:Int} (h:Hm):oEq (.int i) (.int j) h=.ok (.bool (decide (i=j))) h:=by
 simp [oEq,vB,eqQ,noDict,PyData.hasDict,PyData.depth,PyData.eqv]
 rfl
theorem jo {i:Nat} {h:Hm} (b:Px i h) {c:Int} (h0:0 < c) (h1:c < 1073741824):Dp i h (aF [.ref i,.int c] h) fun d=>∃ k:Nat,d=.int k/\(k:Int) < c:=by
 obtain ⟨⟨n,f,e⟩,_⟩:=b
 have hl:=(NY.mp e).1
 have i0:∀ a b c d:Option D,au dY (ab 0) (ah (.int 0)) [some (.ref i),a,b,c,d] h=.ok (.int n) h:=fun a b c d=>by simp [dY,gS,uy,e,kC,rM]
 have i1:∀ a b c d:Option D,au dY (ab 0) (ah (.int 1)) [some (.ref i),a,b,c,d] h=.ok (.int f) h:=fun a b c d=>by simp [dY,gS,uy,e,kC,rM]
 have st:∀ (m:Int) (a b c d:Option D),vG (ab 0) (ah (.int 0)) (.int m) [some (.ref i),a,b,c,d] h=.ok [some (.ref i),a,b,c,d] (h.set i (.lst [.int m,.int f])):=fun m a b c d=>by simp [vG,uA,e,zj,rM]
 by_cases hf:f=1
 ·refine ⟨.int (n % c),h.set i (.lst [.int (n / c),.int f]),?_,⟨_,_,rfl⟩,(n % c).toNat,?_,?_⟩
  ·have t1:aN (au oEq (au dY (ab 0) (ah (.int 1))) (ah (.int 1))) [some (.ref i),some (.int c),none,none,none] h=.ok true h:=bE (aw (i1 _ _ _ _) rfl (by rw [kB];simp [hf]))
   have t2:ai mB (aa (au dY (ab 0) (ah (.int 0))) (aa (ab 1) (ak))) [some (.ref i),some (.int c),none,none,none] h=.ok (.dat (.tuple [.int (n / c),.int (n % c)])) h:=(bO (aM (i0 _ _ _ _) (aM rfl rfl))).trans (by simp [mB,h0,h1])
   unfold aF jQ bI
   simp only [N3,OB,Ot,Ob,Qo,Qi,Pt,show 5 - 2=3 from rfl,rep3]
   unfold bC
   rw [Gu t1]
   simp only [kG,t2,R.ao,jB,Ob,Qo,cA,ay,jA,PR,Pj]
   simp only [ab,Qh,Pp,R.ao,st]
   rfl
  ·rw [QL (Qq _ (by omega))]
  ·rw [QL (Qq _ (by omega))]
   exact QW _ h0
 ·generalize hA:(n % 2147483647+40503) * 69621 % 2147483629=A
  generalize hB:(A * A+7817) % 2147483587=B
  generalize hC:(B * 48271+11) % 2147483629=C
  have a0:0<=A:=by rw [<- hA];exact Qq _ (by decide)
  have a1:A < 2147483629:=by rw [<- hA];exact QW _ (by decide)
  refine ⟨.int (C / 32 % c),h.set i (.lst [.int C,.int f]),?_,⟨_,_,rfl⟩,(C / 32 % c).toNat,?_,?_⟩
  ·have t1:aN (au oEq (au dY (ab 0) (ah (.int 1))) (ah (.int 1))) [some (.ref i),some (.int c),none,none,none] h=.ok false h:=bE (aw (i1 _ _ _ _) rfl (by rw [kB];simp [hf]))
   have t2:cn 4 (au oMod (au qd (au gA (au oMod (au dY (ab 0) (ah (.int 0))) (ah (.int 2147483647))) (ah (.int 40503))) (ah (.int 69621))) (ah (.int 2147483629))) [some (.ref i),some (.int c),none,none,none] h=.ok (.nx [some (.ref i),some (.int c),none,none,some (.int A)]) h:=by
    rw [<- hA]
    exact (pv (aw (aw (aw (aw (i0 _ _ _ _) rfl (kA (by decide) h)) rfl (rD h)) rfl (rC (by decide) (by decide) h)) rfl (kA (by decide) h))).trans rfl
   have t3:cn 4 (au oMod (au gA (au qd (ab 4) (ab 4)) (ah (.int 7817))) (ah (.int 2147483587))) [some (.ref i),some (.int c),none,none,some (.int A)] h=.ok (.nx [some (.ref i),some (.int c),none,none,some (.int B)]) h:=by
    rw [<- hB]
    exact (pv (aw (aw (aw rfl rfl (rC a0 (by omega) h)) rfl (rD h)) rfl (kA (by decide) h))).trans rfl
   have t4:kG (vG (ab 0) (ah (.int 0))) (au oMod (au gA (au qd (ab 4) (ah (.int 48271))) (ah (.int 11))) (ah (.int 2147483629))) [some (.ref i),some (.int c),none,none,some (.int B)] h=.ok (.nx [some (.ref i),some (.int c),none,none,some (.int B)]) (h.set i (.lst [.int C,.int f])):=by
    have q:au oMod (au gA (au qd (ab 4) (ah (.int 48271))) (ah (.int 11))) (ah (.int 2147483629)) [some (.ref i),some (.int c),none,none,some (.int B)] h=.ok (.int C) h:=by
     rw [<- hC]
     exact aw (aw (aw rfl rfl (rC (by decide) (by decide) h)) rfl (rD h)) rfl (kA (by decide) h)
    simp only [kG,q,R.ao,st]
   have g:(h.set i (.lst [.int C,.int f]))[i]?=some (.lst [.int C,.int f]):=by rw [OO hl]
   have t5:au oMod (au mr (au dY (ab 0) (ah (.int 0))) (ah (.int 32))) (ab 1) [some (.ref i),some (.int c),none,none,some (.int B)] (h.set i (.lst [.int C,.int f]))=.ok (.int (C / 32 % c)) (h.set i (.lst [.int C,.int f])):=by
    have q:au dY (ab 0) (ah (.int 0)) [some (.ref i),some (.int c),none,none,some (.int B)] (h.set i (.lst [.int C,.int f]))=.ok (.int C) (h.set i (.lst [.int C,.int f])):=by simp only [au,ab,ah,R.ao,Pp,dY,gS,uy,g,kC,rM];rfl
    exact aw (aw q rfl (xA (by decide) (by decide) _)) rfl (kA h0 _)
   unfold aF jQ bI
   simp only [N3,OB,Ot,Ob,Qo,Qi,Pt,show 5 - 2=3 from rfl,rep3]
   rw [ky ((Gv t1).trans rfl),ky t2,ky t3,ky t4,vi t5]
   rfl
  ·rw [QL (Qq _ (by omega))]
  ·rw [QL (Qq _ (by omega))]
   exact QW _ h0
theorem II (z:Int) {h:Hm} (w:Wf h):∃ n f:Int,fB [.int z] h=.ok (.ref h.length) (h++[.lst [.int n,.int f]])/\Px h.length (h++[.lst [.int n,.int f]]):=by
 obtain ⟨n,hn⟩:∃ n:Int,AL [.int z,.int (0 - z)] h=.ok (.int n) h:=by unfold AL;exact ⟨_,rfl⟩
 refine ⟨n,if 10 ^ 18<=n then 1 else 0,?_,⟨⟨n,if 10 ^ 18<=n then 1 else 0,by simp⟩,w.push rfl⟩⟩
 unfold fB qE bI
 simp only [N3,OB,Ot,Ob,Qo,Qi,Pt,show 2 - 1=1 from rfl,rep1]
 have t1:cn 1 (ai AL (aa (ab 0) (aa (au BQ (ah (.int 0)) (ab 0)) (ak)))) [some (.int z),none] h=.ok (.nx [some (.int z),some (.int n)]) h:=(pv ((bO (aM rfl (aM rfl rfl))).trans hn)).trans rfl
 rw [ky t1]
 have t2:∀ b:Bool,BR [.bool b] h=.ok (.int (if b then 1 else 0)) h:=fun b=>rfl
 have t3:ai BR (aa (au JK (ab 1) (ah (.int (10 ^ 18)))) (ak)) [some (.int z),some (.int n)] h=.ok (.int (if 10 ^ 18<=n then 1 else 0)) h:=by
  refine (bO (aM (aw rfl rfl rfl) rfl)).trans ?_
  rw [t2]
  simp
 refine (PH (fun r=>R.bind r qc) (vi (m:=vV _) ((bO (aM rfl (aM t3 rfl))).trans rfl))).trans rfl
abbrev Dw:ME:=rW nH (ab 3) (ai aF (aa (ab 1) (aa (ai jJ (aa (ab 3) (ak))) (ak))))
theorem FP {i k L:Nat} {m:Int} {he h3:Hm} {left:List PyData} {x:D} (hL:he.length=L) (l3:h3.length=L) (hk:k < left.length) (h12:left.length<=12)
  (e2:aF [.ref i,.int (left.length:Int)] (he++[.lst (left.map D.dat)])=.ok (.int k) (h3++[.lst (left.map D.dat)])) :
  Dw [some x,some (.ref i),some (.int m),some (.ref L)] (he++[.lst (left.map D.dat)])=.ok (.dat left[k]) (h3++[.lst ((left.eraseIdx k).map D.dat)]):=by
 have g1:(he++[MO.lst (left.map D.dat)])[L]?=some (.lst (left.map D.dat)):=by subst hL;simp
 have g2:(h3++[MO.lst (left.map D.dat)])[L]?=some (.lst (left.map D.dat)):=by subst l3;simp
 have bl:jJ [.ref L] (he++[.lst (left.map D.dat)])=.ok (.int (left.length:Int)) (he++[.lst (left.map D.dat)]):=by
  simp [jJ,g1]
 have il:IX (.ref L) (he++[.lst (left.map D.dat)])=true:=by simp [IX,g1]
 have mp:nH (.ref L) (.int (k:Int)) (h3++[.lst (left.map D.dat)])=.ok (.dat left[k]) (h3++[.lst ((left.eraseIdx k).map D.dat)]):=by
  have c:(0:Int)<=k/\(k:Int) < (left.map D.dat).length/\(k:Int) < 1000000:=by simp;omega
  have st:(h3++[MO.lst (left.map D.dat)]).set L (.lst ((left.map D.dat).eraseIdx k))=h3++[.lst ((left.eraseIdx k).map D.dat)]:=by
   subst l3
   rw [List.set_append_right _ _ (NI _)]
   simp [Q5]
  simp only [nH,g2,if_pos c,OG,OM,NR hk,RD,st]
 unfold Dw
 simp only [rW,ai,aa,ak,ab,R.ao,Pp,Qh,il,Ot,bl,e2,mp]
theorem GA {i L:Nat} {m:Int}:∀ {xs:List D} {left:List PyData} {he:Hm},Px i he->he.length=L->xs.length<=left.length->left.length<=12 ->
  ∃ (he':Hm) (out left':List PyData),dw 1 [some (.ref i),some (.int m),some (.ref L)] (ay 0) dG Dw xs (he++[.lst (left.map D.dat)])=.ok (out.map D.dat) (he'++[.lst (left'.map D.dat)])/\Ps i he he'/\out.length=xs.length/\(out++left').Perm left
 | [],left,he,b,_,_,_=>⟨he,[],left,rfl,b.refl,rfl,List.Perm.refl _⟩
 | x::xs,left,he,b,hL,hl,h12=>by
  simp only [N3] at hl
  have bp:Px i (he++[.lst (left.map D.dat)]):=b.push (lU _ _)
  obtain ⟨_,h2,e2,s2,k,rfl,hk⟩:=jo bp (c:=(left.length:Int)) (by omega) (by omega)
  obtain ⟨h3,rfl,s3⟩:=s2.pop b.lt
  have b3:=s3.px b
  have l3:h3.length=L:=by rw [s3.len,hL]
  have hk':k < left.length:=by omega
  have ll:=QB hk'
  obtain ⟨he',out,left',q1,q2,q3,q4⟩:=GA (i:=i) (L:=L) (m:=m) (xs:=xs) (left:=left.eraseIdx k) (he:=h3) b3 l3 (by omega) (by omega)
  have ep:=FP (x:=x) (m:=m) hL l3 hk' h12 e2
  refine ⟨he',left[k]::out,left',?_,s3.trans q2,by simp [q3],?_⟩
  ·exact rh (by rfl) (by rfl) ep q1
  ·exact (List.Perm.cons _ q4).trans (Stt.fc hk')
theorem Dx {i:Nat} {h:Hm} (b:Px i h) {m:Nat} (hm:m<=11):Dp i h (gg [.ref i,.int (m:Int)] h) fun d=>∃ ns:List PyData,d=.dat (.tuple ns)/\Rw bb ns/\ns.length<=m:=by
 have b1:Px i (h++[.lst (bb.map D.dat)]):=b.push (lU _ _)
 obtain ⟨_,h2',e2,s2',c,rfl,hc⟩:=jo b1 (c:=(m:Int)+1) (by omega) (by omega)
 obtain ⟨h2,rfl,s2⟩:=s2'.pop b.lt
 have b2:=s2.px b
 have ln:(nums 0 c).length=c:=by simp [nums]
 obtain ⟨h3,out,left,q1,q2,q3,q4⟩:=GA (i:=i) (L:=h.length) (m:=(m:Int)) (xs:=nums 0 c) (left:=bb) (he:=h2) b2 s2.len (by rw [ln];simp [bb];omega) (by decide)
 have on:out.length=c:=by rw [q3,ln]
 have onm:∀ d∈out,d∈bb:=fun d m=>q4.mem_iff.mp (Oq _ m)
 have ond:out.Nodup:=(Qw.mp (q4.nodup_iff.mpr (iL gk MF))).1
 have rn:Rw bb (cS ltB out):=vk ni gk onm ond
 have so:eY out=true:=Dg.MD onm (by omega)
 have nl:(cS ltB out).length=c:=by rw [(bR _ _).length_eq,on]
 have ra:jI 1 (oq (aa (ai aF (aa (ab 0) (aa (au gA (ab 1) (ah (.int 1))) (ak)))) (ak))) (ay 0) (dG) Dw [some (.ref i),some (.int (m:Int)),some (.ref h.length)] (h++[.lst (bb.map D.dat)])=.ok (out.map D.dat) (h3++[.lst (left.map D.dat)]):=by
  have e1:aa (ai aF (aa (ab 0) (aa (au gA (ab 1) (ah (.int 1))) (ak)))) (ak) [some (.ref i),some (.int (m:Int)),some (.ref h.length)] (h++[.lst (bb.map D.dat)])=.ok [.dat (.int (c:Int))] (h2++[.lst (bb.map D.dat)]):=
   aM (aK (aM rfl (aM (aw rfl rfl rfl) rfl)) e2) rfl
  unfold jI
  rw [Dc e1 (by omega)]
  simp only [R.ao]
  rw [if_pos (by rw [ln];exact sz (by omega))]
  exact q1
 have m1:=(bO (f:=fP) ra).trans (cQ out _ (by omega))
 have m2:f7 [.dat (.list out)] (h3++[.lst (left.map D.dat)])=.ok (.dat (.list (cS ltB out))) (h3++[.lst (left.map D.dat)]):=by simp [f7,listOf,so]
 have t1:cn 2 (vV (aa (ah (.str "a")) (aa (ah (.str "aa")) (aa (ah (.str "ab")) (aa (ah (.str "abcdef")) (aa (ah (.str "b")) (aa (ah (.str "c")) (aa (ah (.str "d")) (aa (ah (.str "e")) (aa (ah (.str "m")) (aa (ah (.str "x")) (aa (ah (.str "zz")) (aa (ah (.str "zzzzzz")) (ak)))))))))))))) [some (.ref i),some (.int (m:Int)),none] h=.ok (.nx [some (.ref i),some (.int (m:Int)),some (.ref h.length)]) (h++[.lst (bb.map D.dat)]):=rfl
 have m3:ai f7 (aa (cL 1 (oq (aa (ai aF (aa (ab 0) (aa (au gA (ab 1) (ah (.int 1))) (ak)))) (ak))) (ay 0) (dG) Dw) (ak)) [some (.ref i),some (.int (m:Int)),some (.ref h.length)] (h++[.lst (bb.map D.dat)])=.ok (.dat (.list (cS ltB out))) (h3++[.lst (left.map D.dat)]):=aK (aM m1 rfl) m2
 have m4:gC [.dat (.list (cS ltB out))] (h3++[.lst (left.map D.dat)])=.ok (.dat (.tuple (cS ltB out))) (h3++[.lst (left.map D.dat)]):=rfl
 have run:jc [.ref i,.int (m:Int)] h=.ok (.dat (.tuple (cS ltB out))) (h3++[.lst (left.map D.dat)]):=by
  unfold jc mR
  exact iN rfl (bc t1 (fJ (aK (aM m3 rfl) m4)))
 exact ⟨_,h3,xy b run (s2.trans q2),s2.trans q2,cS ltB out,rfl,rn,by omega⟩
theorem Dy {i:Nat} {h:Hm} (b:Px i h) {ns:List PyData} {s:Int} {one:PyData} (hz:ns.length<=16777216) {ρ:Fm} (e2:∀ h,aR (ab 2) ρ h=.ok (ns.map D.dat) h) (e0:ρ[0]?=some (some (.ref i))) (e3:ρ[3]?=some (some (.int s))) (e5:ρ[5]?=some (some (.dat one))) :
  Dp i h (cL 1 (aR (ab 2)) (ay 0) (aN (au oLt (ai aF (aa (ab 1) (aa (ah (.int 8)) (ak)))) (ab 4))) (cC (aa (ab 6) (aa (ab 0) (ak)))) ρ h) fun d=>∃ ls:List PyData,d=.dat (.list (ls.map fun y=>.tuple [one,y]))/\ls.Sublist ns:=by
 unfold cL
 obtain ⟨ys,zs,h',q1,q2,q3,q4⟩:=jj (n:=1) (ρ:=ρ) (g:=ay 0) (t:=aN (au oLt (ai aF (aa (ab 1) (aa (ah (.int 8)) (ak)))) (ab 4))) (e:=cC (aa (ab 6) (aa (ab 0) (ak)))) (Ps i h) (fun x y=>∃ d,x=.dat d/\y=.dat (.tuple [one,d])) (xs:=ns.map D.dat) (h:=h) (fun x hx h1 s1=>by
  obtain ⟨d,hd,rfl⟩:=Oe.mp hx
  obtain ⟨_,h2,e2,s2,k,rfl,hk⟩:=jo (s1.px b) (c:=8) (by decide) (by decide)
  refine ⟨some (.dat d)::ρ,h1,decide ((k:Int) < s),h2,rfl,?_,?_⟩
  ·simp [e0,e2,e3,ve]
  ·cases hc:decide ((k:Int) < s) with
   | false=>exact .inl ⟨rfl,s1.trans s2⟩
   | true=>exact .inr ⟨rfl,.dat (.tuple [one,d]),h2,by simp [e5],⟨d,rfl,rfl⟩,s1.trans s2⟩) b.refl
 obtain ⟨ls,rfl,sl⟩:=zX q3
 rw [rj q4] at q1
 have ea:jI 1 (aR (ab 2)) (ay 0) (aN (au oLt (ai aF (aa (ab 1) (aa (ah (.int 8)) (ak)))) (ab 4))) (cC (aa (ab 6) (aa (ab 0) (ak)))) ρ h=.ok ((ls.map fun y=>PyData.tuple [one,y]).map D.dat) h':=by
  unfold jI
  rw [e2]
  simp only [R.ao,NZ,sz hz,Ot]
  exact q1
 refine ⟨.dat (.list (ls.map fun y=>.tuple [one,y])),h',?_,q2,ls,rfl,sl⟩
 rw [bO ea]
 exact cQ _ h' (by rw [NZ];exact NS sl.length_le hz)
abbrev Dz:MS:=cn 4 (au gA (ab 4) (cL 1 (aR (ab 2)) (ay 0) (aN (au oLt (ai aF (aa (ab 1) (aa (ah (.int 8)) (ak)))) (ab 4))) (cC (aa (ab 6) (aa (ab 0) (ak))))))
theorem DB {i:Nat} {ns:List PyData} {s m:Int} (r:Rw bb ns):∀ {xs pre acc:List PyData} {h:Hm},ns=pre++xs->Px i h->Pw pre ns acc->∀ a5:Option D,Dp i h (dA (ay 5) Dz (xs.map D.dat) [some (.ref i),some (.int m),some (.dat (.tuple ns)),some (.int s),some (.dat (.list acc)),a5] h) fun f=>∃ (acc':List PyData) (b5:Option D),f=.nx [some (.ref i),some (.int m),some (.dat (.tuple ns)),some (.int s),some (.dat (.list acc')),b5]/\Pw ns ns acc'
 | [],pre,acc,h,e,b,P,a5=>by
  have e':ns=pre:=by simpa using e
  exact Dp.ok b ⟨acc,a5,rfl,by rw [<- e'] at P;exact P⟩
 | x::xs,pre,acc,h,e,b,P,a5=>by
  have l12:=jv r
  obtain ⟨_,h2,e2,s2,ls,rfl,sl⟩:=Dy (h:=h) b (ns:=ns) (s:=s) (one:=x) (ρ:=[some (.ref i),some (.int m),some (.dat (.tuple ns)),some (.int s),some (.dat (.list acc)),some (.dat x)]) (by omega) (fun h=>cX rfl) rfl rfl rfl
  have P2:=P.step r e sl
  obtain ⟨f,h3,e3,s3,k⟩:=DB (s:=s) (m:=m) r (xs:=xs) (pre:=pre++[x]) (acc:=acc++ls.map fun y=>.tuple [x,y]) (by simp [e]) (s2.px b) P2 (some (.dat x))
  refine ⟨f,h3,?_,s2.trans s3,k⟩
  have lp:acc.length+(ls.map fun y=>PyData.tuple [x,y]).length<=16777216:=by
   have l1:=P2.len
   have l3:(pre++[x]).length<=12:=by
    have:(pre++x::xs).length<=12:=e▸l12
    simp only [N4,N3,OB] at this ⊢
    omega
   have l4:(pre++[x]).length * ns.length<=12 * 12:=QF l3 l12
   simp only [N4] at l1 l4 ⊢
   omega
  have eb:Dz [some (.ref i),some (.int m),some (.dat (.tuple ns)),some (.int s),some (.dat (.list acc)),some (.dat x)] h=.ok (.nx [some (.ref i),some (.int m),some (.dat (.tuple ns)),some (.int s),some (.dat (.list (acc++ls.map fun y=>.tuple [x,y]))),some (.dat x)]) h2:=
   dz (aw (x:=.dat (.list acc)) rfl e2 (nh h2 lp))
  simp only [Ob,dA,ay,R.bq,R.ao,PR,Pj]
  rw [eb]
  simp only [R.bq,R.ao]
  exact e3
theorem DC {i:Nat} {h:Hm} (b:Px i h) {m:Nat} (hm:m<=11):Dp i h (gG [.ref i,.int (m:Int)] h) fun d=>∃ (ns:List PyData) (r:Rel),d=.dat (bu ns r)/\Rw bb ns/\ns.length<=m:=by
 obtain ⟨_,h2,e2,s2,ns,rfl,rn,nl⟩:=Dx b hm
 have b2:=s2.px b
 obtain ⟨_,h4,e4,s4,u,rfl,hu⟩:=jo b2 (c:=4) (by decide) (by decide)
 obtain ⟨sh,esh⟩:∃ s:Int,kC [PyData.int 1,.int 2,.int 3,.int 5] (u:Int)=some (.int s):=by
  obtain ⟨x,ex,mx⟩:=zW (xs:=[PyData.int 1,.int 2,.int 3,.int 5]) (k:=u) (by simp;omega)
  simp only [NJ,N9,OW] at mx
  rcases mx with rfl | rfl | rfl | rfl<;>exact ⟨_,ex⟩
 obtain ⟨_,h5,e5,s5,ss,b5,rfl,P⟩:=DB (i:=i) (s:=sh) (m:=(m:Int)) rn (xs:=ns) (pre:=[]) (acc:=[]) rfl (s4.px b2) ⟨.nil,by simp,by simp⟩ none
 have w:Wb (ns.length * ns.length) ns ss:=by
  refine ⟨rn,⟨fun p m=>?_,P.ris⟩,fun x y m=>?_,P.len⟩
  ·obtain ⟨x,y,rfl,hx,hy⟩:=P.mem p m
   exact jl.mpr ⟨x,y,rn.sub x hx,rn.sub y hy,rfl⟩
  ·obtain ⟨x',y',e,hx,hy⟩:=P.mem _ m
   simp only [PM,P7,and_true] at e
   obtain ⟨rfl,rfl⟩:=e
   exact ⟨hx,hy⟩
 refine ⟨.dat (.tuple [.tuple ns,.tuple ss]),h5,?_,(s2.trans s4).trans s5,ns,tW ss,by rw [bu,<- pC w],rn,nl⟩
 have i1:au dY (ah (.list [.int 1,.int 2,.int 3,.int 5])) (ai aF (aa (ab 0) (aa (ah (.int 4)) (ak)))) [some (.ref i),some (.int (m:Int)),none,none,none,none] h2=.ok (.int sh) h4:=aw rfl (aK (xs:=[.ref i,.int 4]) rfl e4) (by simp only [dY,gS,uy,esh])
 exact iN rfl (bc (vo (x:=.dat (.tuple [.tuple ns,.int sh,.list []])) ((bO (f:=jE) (aM (aK (xs:=[.ref i,.int (m:Int)]) rfl e2) (aM i1 (aM (x:=.dat (.list [])) rfl rfl)))).trans (Ir _ _ _ _)) rfl)
  (bc (gj (cX (ds:=ns) rfl) e5) (fJ (fq (a:=.tuple ns) (b:=.tuple ss) rfl (aK (xs:=[.dat (.list ss)]) rfl rfl)))))
theorem A9 {U xs ys:List PyData} (u:De U) (r:∀ d∈xs,d∈U) (q:∀ d∈ys,d∈U) (l:xs.length+ys.length < 64) (h:Hm):gF [.dat (.list (xs++ys))] h=.ok (.dat (.list (un xs ys))) h:=by
 obtain ⟨h1,h2,h3⟩:=Gy u r q
 have s2:setOk (xs++ys)=true:=u.set (fun d m=>(NX.mp m).elim (r d) (q d)) (by simp;omega)
 have s3:eY (fA (xs++ys))=true:=u.MD (xs:=E1 xs ys) (fun d m=>((h1 d).mp m).elim (r d) (q d)) (by omega)
 simp only [gF,wo,listOf,s2,s3,QA,Ot,un,E1]
theorem oY:∀ {ls:List PyData} {ys:List D},PySem.Paired (fun x y=>∃ d,x=.dat d/\y=.dat (.tuple [d,d])) (ls.map D.dat) ys->ys=(ls.map fun y=>PyData.tuple [y,y]).map D.dat
 | [],ys,h=>by cases h;rfl
 | l::ls,ys,h=>by
  cases h with
  | cons a b=>
   obtain ⟨d,e,rfl⟩:=a
   cases e
   rw [oY b]
   rfl
theorem Ba {i:Nat} {h:Hm} (b:Px i h) {ns:List PyData} {r:Rel} (Rn:Rw bb ns) (nl:ns.length<=7):Dp i h (dk [.ref i,.dat (bu ns r)] h) fun d=>∃ q:Rel,d=.dat (bu ns q):=by
 obtain ⟨ys,zs,h',q1,q2,q3,q4⟩:=jj (n:=1) (ρ:=[some (.ref i),some (.dat (bu ns r)),none]) (g:=ay 0) (t:=aN (au oEq (ai aF (aa (ab 1) (aa (ah (.int 2)) (ak)))) (ah (.int 0)))) (e:=cC (aa (ab 0) (aa (ab 0) (ak)))) (Ps i h) (fun x y=>∃ d,x=.dat d/\y=.dat (.tuple [d,d])) (xs:=ns.map D.dat) (h:=h) (fun x hx h1 s1=>by
  obtain ⟨d,hd,rfl⟩:=Oe.mp hx
  obtain ⟨_,h2,e2,s2,k,rfl,hk⟩:=jo (s1.px b) (c:=2) (by decide) (by decide)
  refine ⟨[some (.dat d),some (.ref i),some (.dat (bu ns r)),none],h1,decide ((k:Int)=0),h2,rfl,bE (aw (aK (xs:=[.ref i,.int 2]) rfl e2) rfl (kB h2)),?_⟩
  cases hc:decide ((k:Int)=0) with
  | false=>exact .inl ⟨rfl,s1.trans s2⟩
  | true=>exact .inr ⟨rfl,.dat (.tuple [d,d]),h2,fq rfl rfl,⟨d,rfl,rfl⟩,s1.trans s2⟩) b.refl
 obtain ⟨ls,rfl,sl⟩:=zX q3
 rw [oY q4] at q1
 have ll:=sl.length_le
 have lr:(rows ns r).length<=49:=NS nj (QF nl nl)
 have lm:(ls.map fun y=>PyData.tuple [y,y]).length=ls.length:=NZ ..
 have ea:cL 1 (aR (au dY (ab 1) (ah (.int 0)))) (ay 0) (aN (au oEq (ai aF (aa (ab 1) (aa (ah (.int 2)) (ak)))) (ah (.int 0)))) (cC (aa (ab 0) (aa (ab 0) (ak)))) [some (.ref i),some (.dat (bu ns r)),none] h=.ok (.dat (.list (ls.map fun y=>.tuple [y,y]))) h':=by
  unfold cL
  refine aK (xs:=(ls.map fun y=>PyData.tuple [y,y]).map D.dat) (h1:=h') ?_ (cQ _ h' (by omega))
  unfold jI
  rw [cX (ds:=ns) rfl]
  simp only [R.ao,NZ,sz (show ns.length<=16777216 by omega),Ot]
  exact q1
 have sub2:∀ d∈ls.map (fun y=>PyData.tuple [y,y]),∃ a,d=.tuple [a,a]/\a∈ns:=fun d m=>by
  obtain ⟨a,ha,rfl⟩:=Oe.mp m
  exact ⟨a,rfl,sl.subset ha⟩
 have in2:∀ d∈ls.map (fun y=>PyData.tuple [y,y]),d∈kN:=fun d m=>by
  obtain ⟨a,rfl,ha⟩:=sub2 d m
  exact jl.mpr ⟨a,a,Rn.sub a ha,Rn.sub a ha,rfl⟩
 obtain ⟨u1,u2,u3⟩:=Kj dC (aW (r:=r) Rn).sub in2
 have w:Wb 100 ns (un (rows ns r) (ls.map fun y=>.tuple [y,y])):=⟨Rn,u1,fun x y m=>by
  rcases (u2 _).mp m with z | z
  ·exact ⟨(cb.mp z).1,(cb.mp z).2.1⟩
  ·obtain ⟨a,e,ha⟩:=sub2 _ z
   simp only [PM,P7,and_true] at e
   obtain ⟨rfl,rfl⟩:=e
   exact ⟨ha,ha⟩,by omega⟩
 have so:=A9 dC (aW (r:=r) Rn).sub in2 (by omega) h'
 refine ⟨.dat (.tuple [.tuple ns,.tuple (un (rows ns r) (ls.map fun y=>.tuple [y,y]))]),h',?_,q2,tW _,by rw [bu,<- pC w]⟩
 have bl:zi [.dat (.tuple (rows ns r))] h'=.ok (.dat (.list (rows ns r))) h':=rfl
 exact iN rfl (bc (dz ea) (fJ (fq (a:=.tuple ns) rfl (aK (aM (aK (aM (aw (aK (xs:=[.dat (.tuple (rows ns r))]) rfl bl) (y:=.dat (.list (ls.map fun y=>.tuple [y,y]))) rfl (nh h' (by omega))) rfl) so) rfl) rfl))))
def f6:List PyData:=[.tuple [.tuple [],.tuple []],.tuple [.tuple [.str "a"],.tuple [.tuple [.str "a",.str "a"]]],.tuple [.tuple [.str "a",.str "b"],.tuple [.tuple [.str "a",.str "b"],.tuple [.str "b",.str "a"]]],
 .tuple [.tuple [.str "a",.str "b",.str "c"],.tuple [.tuple [.str "a",.str "b"],.tuple [.str "b",.str "c"],.tuple [.str "c",.str "a"]]],.tuple [.tuple [.str "a",.str "b",.str "c",.str "d"],.tuple [.tuple [.str "a",.str "b"],.tuple [.str "b",.str "c"],.tuple [.str "c",.str "d"],.tuple [.str "d",.str "a"]]]]
theorem GB {U xs:List PyData} (c:bQ U=true) (t:af U=true) (h:∀ d∈xs,d∈U) (q:kM xs=true):Rw U xs:=⟨h,vh c t h q⟩
theorem IJ {ns ss:List PyData} (h1:∀ d∈ns,d∈bb) (h2:kM ns=true) (h3:∀ d∈ss,∃ a b,d=.tuple [a,b]/\a∈ns/\b∈ns) (h4:kM ss=true):Rw bb ns/\∃ r,PyData.tuple [.tuple ns,.tuple ss]=bu ns r:=by
 have rn:=GB ni gk h1 h2
 have sp:∀ d∈ss,d∈kN:=fun d m=>by
  obtain ⟨a,b,rfl,ha,hb⟩:=h3 d m
  exact jl.mpr ⟨a,b,h1 a ha,h1 b hb,rfl⟩
 have w:Wb ss.length ns ss:=⟨rn,GB iK fk sp h4,fun a b m=>by
  obtain ⟨x,y,e,hx,hy⟩:=h3 _ m
  simp only [PM,P7,and_true] at e
  obtain ⟨rfl,rfl⟩:=e
  exact ⟨hx,hy⟩,NI _⟩
 exact ⟨rn,tW ss,by rw [bu,<- pC w]⟩
theorem DD {d:PyData} (h:d∈f6):∃ (ns:List PyData) (r:Rel),d=bu ns r/\Rw bb ns/\ns.length<=4:=by
 have:∃ ns ss:List PyData,d=.tuple [.tuple ns,.tuple ss]/\ns.length<=4/\(∀ d∈ns,d∈bb)/\kM ns=true/\(∀ d∈ss,∃ a b,d=.tuple [a,b]/\a∈ns/\b∈ns)/\kM ss=true:=by
  simp only [f6,NJ,N9,OW] at h
  rcases h with rfl | rfl | rfl | rfl | rfl
  ·exact ⟨_,_,rfl,by decide,by simp,by decide +kernel,by simp,by decide +kernel⟩
  ·exact ⟨_,_,rfl,by decide,by simp [bb],by decide +kernel,by simp,by decide +kernel⟩
  ·exact ⟨_,_,rfl,by decide,by simp [bb],by decide +kernel,(fun d m=>by simp only [NJ,N9,OW] at m;rcases m with rfl | rfl<;>exact ⟨_,_,rfl,by simp,by simp⟩),by decide +kernel⟩
  ·exact ⟨_,_,rfl,by decide,by simp [bb],by decide +kernel,(fun d m=>by simp only [NJ,N9,OW] at m;rcases m with rfl | rfl | rfl<;>exact ⟨_,_,rfl,by simp,by simp⟩),by decide +kernel⟩
  ·exact ⟨_,_,rfl,by decide,by simp [bb],by decide +kernel,(fun d m=>by simp only [NJ,N9,OW] at m;rcases m with rfl | rfl | rfl | rfl<;>exact ⟨_,_,rfl,by simp,by simp⟩),by decide +kernel⟩
 obtain ⟨ns,ss,rfl,l,h1,h2,h3,h4⟩:=this
 obtain ⟨rn,r,e⟩:=IJ h1 h2 h3 h4
 exact ⟨ns,r,e,rn,l⟩
theorem vA {i:Nat} {h:Hm} (b:Px i h) {m:Nat} (hm:m<=11):Dp i h (cP [.ref i,.int (m:Int)] h) fun d=>∃ (n1 n2 n3:List PyData) (r1 r2 r3:Rel),d=.dat (.list [bu n1 r1,bu n2 r2,bu n3 r3])/\Rw bb n1/\Rw bb n2/\Rw bb n3/\n1.length<=m/\n2.length<=m/\n3.length<=4:=by
 have b1:Px i (h++[.lst (f6.map D.dat)]):=b.push (lU _ _)
 obtain ⟨_,h2,e2,s2,n1,r1,rfl,rn1,l1⟩:=DC b1 hm
 have b2:=s2.px b1
 obtain ⟨_,h3,e3,s3,n2,r2,rfl,rn2,l2⟩:=DC b2 hm
 have b3:=s3.px b2
 obtain ⟨_,h4,e4,s4,u,rfl,hu⟩:=jo b3 (c:=5) (by decide) (by decide)
 have sa:=(s2.trans s3).trans s4
 obtain ⟨h5,rfl,s5⟩:=sa.pop b.lt
 obtain ⟨x,ex,mx⟩:=zW (xs:=f6) (k:=u) (by simp [f6];omega)
 obtain ⟨n3,r3,rfl,rn3,l3⟩:=DD mx
 have l5:=s5.len
 have gi:(h5++[MO.lst (f6.map D.dat)])[h.length]?=some (.lst (f6.map D.dat)):=by rw [<- l5];simp
 have t1:cn 2 (vV (aa (ah (.tuple [.tuple [],.tuple []])) (aa (ah (.tuple [.tuple [.str "a"],.tuple [.tuple [.str "a",.str "a"]]])) (aa (ah (.tuple [.tuple [.str "a",.str "b"],.tuple [.tuple [.str "a",.str "b"],.tuple [.str "b",.str "a"]]])) (ak))))) [some (.ref i),some (.int (m:Int)),none] h=.ok (.nx [some (.ref i),some (.int (m:Int)),some (.ref h.length)]) (h++[.lst ((f6.take 3).map D.dat)]):=rfl
 have ap:∀ (k:Nat) (d:PyData),k < 5->rW kc (ab 2) (ah d) [some (.ref i),some (.int (m:Int)),some (.ref h.length)] (h++[.lst ((f6.take k).map D.dat)])=.ok D.none (h++[.lst ((f6.take k++[d]).map D.dat)]):=fun k d hk=>by
  have g:(h++[MO.lst ((f6.take k).map D.dat)])[h.length]?=some (.lst ((f6.take k).map D.dat)):=by simp
  have c:decide (((f6.take k).map D.dat).length < 16777216)=true:=NV (by rw [NZ,QG];omega)
  simp only [rW,ab,Qh,Pp,R.ao,IX,g,Ot,ah,kc,c]
  rw [List.set_append_right _ _ (NI _)]
  simp
 have ix:au dY (ab 2) (ai aF (aa (ab 0) (aa (ah (.int 5)) (ak)))) [some (.ref i),some (.int (m:Int)),some (.ref h.length)] h3=.ok (.dat (bu n3 r3)) (h5++[.lst (f6.map D.dat)]):=by
  refine aw (x:=.ref h.length) rfl (aK (xs:=[.ref i,.int 5]) rfl e4) ?_
  have am:kC (f6.map D.dat) (u:Int)=some (.dat (bu n3 r3)):=by rw [pe,ex];rfl
  simp only [dY,gS,gi,uy,am]
 have run:fD [.ref i,.int (m:Int)] h=.ok (.dat (.list [bu n1 r1,bu n2 r2,bu n3 r3])) (h5++[.lst (f6.map D.dat)]):=by
  unfold fD iH
  refine iN rfl (bc t1 (bc (jn (ap 3 _ (by decide))) (bc (jn (ap 4 _ (by decide))) (fJ ?_))))
  exact (bO (f:=fP) (aM (aK (xs:=[.ref i,.int (m:Int)]) rfl e2) (aM (aK (xs:=[.ref i,.int (m:Int)]) rfl e3) (aM ix rfl)))).trans (Iv _ _ _ _)
 exact ⟨_,h5,xy b run s5,s5,n1,n2,n3,r1,r2,r3,rfl,rn1,rn2,rn3,l1,l2,l3⟩
section
variable {ns:List PyData} {r q:Rel} {a b x y:PyData} {kd:Kd}
theorem DF {xs:List PyData} (t:af xs=true) (h:Hm):oEq (.dat (.list xs)) (.dat (.list [])) h=.ok (.bool (decide (xs=[]))) h:=by
 cases xs with
 | nil=>simp [oEq,vB,eqQ,noDict,PyData.hasDict,PyData.hasDictAll,PyData.depth,PyData.depthAll,PyData.eqv,PyData.eqvAll]
 | cons x xs=>
  have:=eX t
  simp only [PyData.hasDictAll,Rx] at this
  simp [oEq,vB,eqQ,noDict,PyData.hasDict,this,PyData.hasDictAll,PyData.depth,PyData.depthAll,PyData.eqv,PyData.eqvAll]
theorem t9 {xs ys:List PyData} (tx:af xs=true) (ty:af ys=true) (dy:∀ e∈ys,e.depth<=40) (hl:xs.length<=1000) (hs:∀ d∈xs,d∈ys) (h:Hm):eK [.dat (.tuple xs),.dat (.tuple ys)] h=.ok (.bool true) h:=by
 have key:=ku (n:=1) (it:=aR (ab 0)) (g:=ay 0) (t:=aN (au iD (ab 0) (ab 2))) (e:=ab 0) (ρ:=[some (.dat (.tuple xs)),some (.dat (.tuple ys))]) (h:=h) (h1:=h) (ds:=xs) (cX rfl) (by omega) (fun _=>false) id (fun d hd=>⟨_,rfl,bE (aw rfl rfl (by rw [j9 (aE tx hd) ty dy h,NV (hs d hd)];rfl)),fun z=>by cases z⟩)
 have f0:xs.filter (fun _=>false)=[]:=by simp
 rw [f0] at key
 have e0:=DF (xs:=[]) (by simp [af]) h
 rw [NV (rfl:([]:List PyData)=[])] at e0
 exact iN rfl (fJ (aw key (y:=.dat (.list [])) rfl e0))
theorem IK (Rn:Rw bb ns) (hx:x∈ns) (hy:y∈ns):∀ d,d∈rows ns (oX r x y)<->(d∈rows ns r/\d≠.tuple [x,y])\/(d=.tuple [x,y]/\d∉rows ns r):=fun d=>by
 rw [du,du]
 constructor
 ·rintro ⟨a,b,rfl,ha,hb,h⟩
  by_cases z:a=x/\b=y
  ·obtain ⟨rfl,rfl⟩:=z
   simp only [oX,and_self,Ot] at h
   refine .inr ⟨rfl,?_⟩
   rintro ⟨a',b',e,_,_,h'⟩
   simp only [PM,P7,and_true] at e
   obtain ⟨rfl,rfl⟩:=e
   rw [h'] at h
   cases h
  ·simp only [oX,z,Ou] at h
   exact .inl ⟨⟨a,b,rfl,ha,hb,h⟩,by simpa using z⟩
 ·rintro (⟨⟨a,b,rfl,ha,hb,h⟩,z⟩ | ⟨rfl,z⟩)
  ·have z':¬ (a=x/\b=y):=by simpa using z
   exact ⟨a,b,rfl,ha,hb,by simp only [oX,z',Ou];exact h⟩
  ·refine ⟨x,y,rfl,hx,hy,?_⟩
   simp only [oX,and_self,Ot]
   cases e:r x y with
   | false=>rfl
   | true=>exact absurd ⟨x,y,rfl,hx,hy,e⟩ z
theorem Bb (Rn:Rw bb ns) (hx:x∈ns) (hy:y∈ns) (nl:ns.length<=7) (h:Hm):dh [.dat (.tuple (rows ns r)),.dat (.tuple [.tuple [x,y]])] h=.ok (.dat (.tuple (rows ns (oX r x y)))) h:=by
 have lr:(rows ns r).length<=49:=NS nj (QF nl nl)
 have tr:=jw dC (aW (r:=r) Rn)
 have t1:af [PyData.tuple [x,y]]=true:=by simp [af,pE Rn hx hy]
 have d1:∀ e∈[PyData.tuple [x,y]],e.depth<=40:=fun e m=>by
  rw [N8.mp m]
  exact NS (dC.dep _ (Ds Rn hx hy)) (by decide)
 have k1:=ku (n:=1) (it:=aR (ab 0)) (g:=ay 0) (t:=aN (au iD (ab 0) (ab 2))) (e:=ab 0) (ρ:=[some (.dat (.tuple (rows ns r))),some (.dat (.tuple [.tuple [x,y]])),none]) (h:=h) (h1:=h) (ds:=rows ns r) (cX rfl) (by omega) (fun d=>!decide (d∈[PyData.tuple [x,y]])) id (fun d hd=>⟨_,rfl,bE (aw rfl rfl (j9 (aE tr hd) t1 d1 h)),fun _=>rfl⟩)
 have k2:=ku (n:=1) (it:=aR (ab 1)) (g:=ay 0) (t:=aN (au iD (ab 0) (ab 1))) (e:=ab 0) (ρ:=[some (.dat (.tuple (rows ns r))),some (.dat (.tuple [.tuple [x,y]])),none]) (h:=h) (h1:=h) (ds:=[PyData.tuple [x,y]]) (cX rfl) (by simp) (fun d=>!decide (d∈rows ns r)) id (fun d hd=>⟨_,rfl,bE (aw rfl rfl (j9 (aE t1 hd) tr (lV dC (aW Rn)) h)),fun _=>rfl⟩)
 rw [List.map_id] at k1 k2
 generalize hA:(rows ns r).filter (fun d=>!decide (d∈[PyData.tuple [x,y]]))=A at k1
 generalize hB:[PyData.tuple [x,y]].filter (fun d=>!decide (d∈rows ns r))=B at k2
 have la:A.length<=49:=by rw [<- hA];exact NS (Pg _ _) lr
 have lb:B.length<=1:=by rw [<- hB];exact NS (Pg _ _) (by simp)
 have ma:∀ d,d∈A<->d∈rows ns r/\d≠.tuple [x,y]:=fun d=>by rw [<- hA,OY];simp
 have mb:∀ d,d∈B<->d=.tuple [x,y]/\d∉rows ns r:=fun d=>by rw [<- hB,OY];simp
 have sub:∀ d∈A++B,d∈kN:=fun d m=>by
  rcases NX.mp m with z | z
  ·exact (aW Rn).sub d ((ma d).mp z).1
  ·rw [((mb d).mp z).1];exact Ds Rn hx hy
 have nd:(A++B).Nodup:=by
  refine Qw.mpr ⟨?_,?_,fun p hp q hq e=>?_⟩
  ·rw [<- hA];exact List.Nodup.sublist List.filter_sublist (iL fk (aW Rn))
  ·rw [<- hB];exact List.Nodup.sublist List.filter_sublist (by simp)
  ·subst e
   exact ((ma p).mp hp).2 ((mb p).mp hq).1
 have so:eY (A++B)=true:=dC.MD sub (by simp;omega)
 have es:cS ltB (A++B)=rows ns (oX r x y):=Dd iK fk (vk iK fk sub nd) (aW Rn) fun d=>by
  rw [(bR _ _).mem_iff,NX,ma,mb,IK Rn hx hy]
 have bs:f7 [.dat (.list (A++B))] h=.ok (.dat (.list (rows ns (oX r x y)))) h:=by simp [f7,listOf,so,es]
 exact iN rfl (bc (dz (aw k1 k2 (nh h (by omega)))) (fJ (aK (aM (aK (xs:=[.dat (.list (A++B))]) rfl bs) rfl) rfl)))
abbrev yQ:MS:=jy (aN (au iD (ab 5) (au dY (ab 1) (ah (.int 1))))) (bC (jy (aN (au oEq (au oMod (ab 4) (ah (.int 2))) (ah (.int 1)))) (bX (ah (.bool false))) (cB))
  (cn 4 (au mr (ab 4) (ah (.int 2))))) (cB)
theorem Ag (Rn:Rw bb ns) {k f:Rel} {a0 a2 a3:Option D} {h:Hm}:∀ {xs:List PyData},(∀ p∈xs,p∈rows ns f)->∀ a5:Option D,∃ b5,dA (ay 5) yQ (xs.map D.dat) [a0,some (.dat (bu ns k)),a2,a3,some (.int ((2 ^ (xs.filter fun p=>!decide (p∈rows ns k)).length:Nat):Int)),a5] h=.ok (.nx [a0,some (.dat (bu ns k)),a2,a3,some (.int 1),b5]) h
 | [],_,a5=>⟨a5,by simp [dA]⟩
 | p::xs,hs,a5=>by
  have hp:=hs p (by simp)
  have e:=tZ (r:=k) Rn hp h
  obtain ⟨b5,ih⟩:=Ag Rn (k:=k) (f:=f) (a0:=a0) (a2:=a2) (a3:=a3) (h:=h) (xs:=xs) (fun q m=>hs q (by simp [m])) (some (.dat p))
  refine ⟨b5,?_⟩
  generalize hN:(xs.filter fun p=>!decide (p∈rows ns k)).length=N at ih
  by_cases z:p∈rows ns k
  ·rw [NV z] at e
   have st:yQ [a0,some (.dat (bu ns k)),a2,a3,some (.int ((2 ^ N:Nat):Int)),some (.dat p)] h=.ok (.nx [a0,some (.dat (bu ns k)),a2,a3,some (.int ((2 ^ N:Nat):Int)),some (.dat p)]) h:=vq (bE (aw rfl (aw (x:=.dat (bu ns k)) rfl (y:=.int 1) rfl rfl) e)) rfl
   simp only [Ob,dA,ay,R.bq,R.ao,PR,Pj,Pn,NV z,PN,NP,Ou,hN]
   rw [st]
   simp only [R.bq,R.ao]
   exact ih
  ·rw [NW z] at e
   have m0:((2 ^ (N+1):Nat):Int) % 2=0:=by rw [RT];omega
   have d0:((2 ^ (N+1):Nat):Int) / 2=((2 ^ N:Nat):Int):=by rw [RT];omega
   have st:yQ [a0,some (.dat (bu ns k)),a2,a3,some (.int ((2 ^ (N+1):Nat):Int)),some (.dat p)] h=.ok (.nx [a0,some (.dat (bu ns k)),a2,a3,some (.int ((2 ^ N:Nat):Int)),some (.dat p)]) h:=by
    have ev:aN (au oEq (au oMod (ab 4) (ah (.int 2))) (ah (.int 1))) [a0,some (.dat (bu ns k)),a2,a3,some (.int ((2 ^ (N+1):Nat):Int)),some (.dat p)] h=.ok false h:=by
     refine bE (aw (aw rfl rfl (kA (by decide) h)) rfl ?_)
     rw [kB,m0];rfl
    have hv:cn 4 (au mr (ab 4) (ah (.int 2))) [a0,some (.dat (bu ns k)),a2,a3,some (.int ((2 ^ (N+1):Nat):Int)),some (.dat p)] h=.ok (.nx [a0,some (.dat (bu ns k)),a2,a3,some (.int ((2 ^ N:Nat):Int)),some (.dat p)]) h:=by
     rw [<- d0]
     exact dz (aw rfl rfl (xA (by decide) (by decide) h))
    exact IE (bE (aw rfl (aw (x:=.dat (bu ns k)) rfl (y:=.int 1) rfl rfl) e)) (bc (vq ev rfl) hv)
   simp only [Ob,dA,ay,R.bq,R.ao,PR,Pj,Pn,NW z,Qj,Ot,N3,hN]
   rw [st]
   simp only [R.bq,R.ao]
   exact ih
theorem Bc (Rn:Rw bb ns) (A:vw ns kd r q) (h:Hm):cJ [.dat (bu ns q),.dat (bu ns (dW kd r)),.dat (bu ns (gK kd r)),.dat (.str kd.nm)] h=.ok (.bool true) h:=by
 obtain ⟨b5,lp⟩:=Ag Rn (k:=dW kd r) (f:=gK kd r) (a0:=some (.dat (bu ns q))) (a2:=some (.dat (bu ns (gK kd r)))) (a3:=some (.dat (.str kd.nm))) (h:=h) (xs:=rows ns (gK kd r)) (fun _ m=>m) none
 have m:=FN (r:=q) Rn kd h
 have g:gap ns (dW kd q) (gK kd q)=(rows ns (gK kd r)).filter fun p=>!decide (p∈rows ns (dW kd r)):=by unfold gap;rw [A.xw,A.xx]
 rw [g] at m
 exact iN rfl (bc (dz (aK (xs:=[.dat (bu ns q),.dat (.str kd.nm)]) rfl m)) (bc (gj (cX (aw (x:=.dat (bu ns (gK kd r))) rfl (y:=.int 1) rfl rfl)) lp) (fJ (aw rfl rfl (kB h)))))
end
theorem rE {i n:Nat} {ρ:Fm} {g:MG} {t:MT} {e:ME} (keep:PyData->Bool):∀ {ds:List PyData} {h:Hm},Px i h->(∀ d∈ds,∀ h,Px i h->∃ ρ1 c h2,g (.dat d) (List.replicate n none++ρ) h=.ok ρ1 h/\t ρ1 h=.ok c h2/\Ps i h h2/\(keep d=true->c=true)/\(∀ h,e ρ1 h=.ok (.dat d) h)) ->
  ∃ (zs:List PyData) (h':Hm),dw n ρ g t e (ds.map D.dat) h=.ok (zs.map D.dat) h'/\Ps i h h'/\zs.Sublist ds/\∀ d∈ds,keep d=true->d∈zs
 | [],h,b,_=>⟨[],h,rfl,b.refl,.slnil,fun _ m=>by cases m⟩
 | d::ds,h,b,H=>by
  obtain ⟨ρ1,c,h2,e1,e2,s2,k,e3⟩:=H d (by simp) h b
  obtain ⟨zs,h',q1,q2,q3,q4⟩:=rE (i:=i) (n:=n) (ρ:=ρ) (g:=g) (t:=t) (e:=e) keep (ds:=ds) (s2.px b) fun x m=>H x (by simp [m])
  cases c with
  | false=>
   refine ⟨zs,h',?_,s2.trans q2,.cons _ q3,fun x m kx=>?_⟩
   ·simp only [Ob]
    unfold dw
    rw [e1]
    simp only [R.bq,R.ao]
    rw [e2]
    simp only [R.bq,R.ao,NP,Ou]
    exact q1
   ·rcases NJ.mp m with rfl | m
    ·exact absurd (k kx) (by simp)
    ·exact q4 x m kx
  | true=>
   refine ⟨d::zs,h',?_,s2.trans q2,.cons_cons _ q3,fun x m kx=>?_⟩
   ·simp only [Ob]
    exact rh e1 e2 (e3 h2) q1
   ·rcases NJ.mp m with rfl | m
    ·simp
    ·exact NO _ (q4 x m kx)
theorem DH {ns zs:List PyData} {r:Rel} (Rn:Rw bb ns) (s:zs.Sublist (rows ns r)):zs=rows ns (tW zs):=
 pC (k:=zs.length) ⟨Rn,⟨fun d m=>(aW Rn).sub d (s.subset m),(aW Rn).ris.sublist s⟩,fun a b m=>⟨(cb.mp (s.subset m)).1,(cb.mp (s.subset m)).2.1⟩,NI _⟩
section
variable {ns:List PyData} {r q:Rel} {kd:Kd} {i:Nat}
abbrev Lb:MT:=lY (aN (au nu (ab 0) (au dY (ab 4) (ah (.int 1))))) (aN (au oEq (ai aF (aa (ab 1) (aa (ah (.int 2)) (ak)))) (ah (.int 0))))
noncomputable abbrev F6 (i:Nat) (ns:List PyData) (r:Rel) (kd:Kd) (a5 a6 a7 a8 a9 a10:Option D):Fm:=[some (.ref i),some (.dat (bu ns r)),some (.dat (.str kd.nm)),some (.dat (bu ns (dW kd r))),some (.dat (bu ns (gK kd r))),a5,a6,a7,a8,a9,a10]
theorem FQ {h:Hm} (b:Px i h) (Rn:Rw bb ns):Dp i h (cL 1 (aR (au dY (ab 4) (ah (.int 1)))) (ay 0) Lb (ab 0) (F6 i ns r kd none none none none none none) h) fun d=>∃ q:Rel,d=.dat (.list (rows ns q))/\vw ns kd r q:=by
 have lf:=jm (r:=gK kd r) (jv Rn)
 obtain ⟨zs,h',q1,q2,q3,q4⟩:=rE (i:=i) (n:=1) (ρ:=F6 i ns r kd none none none none none none) (g:=ay 0) (t:=Lb) (e:=ab 0) (fun d=>decide (d∈rows ns (dW kd r))) (ds:=rows ns (gK kd r)) b (fun d hd h1 b1=>by
  have e1:aN (au nu (ab 0) (au dY (ab 4) (ah (.int 1)))) (some (.dat d)::F6 i ns r kd none none none none none none) h1=.ok (decide (d∈rows ns (dW kd r))) h1:=bE (aw rfl (aw (x:=.dat (bu ns (dW kd r))) rfl (y:=.int 1) rfl rfl) (Ad (aE (jw dC (aW Rn)) hd) (jw dC (aW Rn)) (lV dC (aW Rn)) h1))
  by_cases z:d∈rows ns (dW kd r)
  ·rw [NV z] at e1
   exact ⟨some (.dat d)::F6 i ns r kd none none none none none none,true,h1,rfl,IF e1,b1.refl,fun _=>rfl,fun _=>rfl⟩
  ·rw [NW z] at e1
   obtain ⟨_,h2,e2,s2,k,rfl,hk⟩:=jo b1 (c:=2) (by decide) (by decide)
   exact ⟨some (.dat d)::F6 i ns r kd none none none none none none,decide ((k:Int)=0),h2,rfl,rA e1 (bE (aw (aK (xs:=[.ref i,.int 2]) rfl e2) rfl (kB h2))),s2,fun w=>absurd (Pb w) z,fun _=>rfl⟩)
 have lz:=q3.length_le
 have ez:=DH Rn q3
 refine ⟨.dat (.list zs),h',?_,q2,tW zs,by rw [<- ez],IH (fun a ha b hb k=>?_) fun a ha b hb k=>?_⟩
 ·unfold cL
  refine aK (xs:=zs.map D.dat) (h1:=h') ?_ (cQ _ h' (by omega))
  unfold jI
  rw [cX (ds:=rows ns (gK kd r)) (h1:=h) (aw (x:=.dat (bu ns (gK kd r))) rfl (y:=.int 1) rfl rfl)]
  simp only [R.ao,NZ,sz (show (rows ns (gK kd r)).length<=16777216 by omega),Ot]
  exact q1
 ·exact NV (q4 _ (cb.mpr ⟨ha,hb,vz ha hb (pF k)⟩) (NV (cb.mpr ⟨ha,hb,k⟩)))
 ·exact (cb.mp (q3.subset (Pb k))).2.2
abbrev Kk:MS:=bC (jy (lY (aN (au x6 (ai bZ (aa (ab 6) (aa (ab 2) (ak)))) (ab 3))) (lY (aN (au x6 (ai dS (aa (ab 6) (aa (ab 2) (ak)))) (ab 4))) (fT (bP (ai cJ (aa (ab 6) (aa (ab 3) (aa (ab 4) (aa (ab 2) (ak)))))))))) (bX (ah (.bool false))) (cB))
  (jy (fT (bP (ai dI (aa (ab 6) (aa (ab 1) (aa (ab 2) (ak))))))) (bX (ah (.bool false))) (cB))
theorem pG (Rn:Rw bb ns) (A:vw ns kd r q) {a5 a7 a8 a9 a10:Option D} (h:Hm):Kk (F6 i ns r kd a5 (some (.dat (bu ns q))) a7 a8 a9 a10) h=.ok (.nx (F6 i ns r kd a5 (some (.dat (bu ns q))) a7 a8 a9 a10)) h:=by
 have k1:=fK (r:=q) Rn kd h
 have k2:=lX (r:=q) Rn kd h
 have k3:=Bc (kd:=kd) Rn A h
 have k4:=xu (r:=q) (q:=r) Rn Rn kd h
 have w1:bu ns (dW kd q)=bu ns (dW kd r):=by simp only [bu,A.xw]
 have w2:bu ns (gK kd q)=bu ns (gK kd r):=by simp only [bu,A.xx]
 rw [w1] at k1
 rw [w2] at k2
 rw [NV w1] at k4
 have n1:=Ac (r:=dW kd r) (q:=dW kd r) h Rn Rn
 have n2:=Ac (r:=gK kd r) (q:=gK kd r) h Rn Rn
 rw [NV rfl] at n1 n2
 have c1:=bE (aw (aK (ρ:=F6 i ns r kd a5 (some (.dat (bu ns q))) a7 a8 a9 a10) (ma:=aa (ab 6) (aa (ab 2) (ak))) rfl k1) (b:=ab 3) rfl n1)
 have c2:=bE (aw (aK (ρ:=F6 i ns r kd a5 (some (.dat (bu ns q))) a7 a8 a9 a10) (ma:=aa (ab 6) (aa (ab 2) (ak))) rfl k2) (b:=ab 4) rfl n2)
 have c3:=kz (gL (aK (ρ:=F6 i ns r kd a5 (some (.dat (bu ns q))) a7 a8 a9 a10) (ma:=aa (ab 6) (aa (ab 3) (aa (ab 4) (aa (ab 2) (ak))))) rfl k3))
 have c4:=kz (gL (aK (ρ:=F6 i ns r kd a5 (some (.dat (bu ns q))) a7 a8 a9 a10) (ma:=aa (ab 6) (aa (ab 1) (aa (ab 2) (ak)))) rfl k4))
 exact bc (vq (rA c1 (rA c2 c3)) rfl) (vq c4 rfl)
abbrev IL:MS:=bC (cn 9 (cC (aa (ab 7) (aa (ab 8) (ak)))))
  (jy (lY (aN (au nu (ab 9) (au dY (ab 3) (ah (.int 1))))) (aN (au iD (ab 9) (au dY (ab 4) (ah (.int 1)))))) (bC (cn 10 (cC (aa (au dY (ab 1) (ah (.int 0))) (aa (ai dh (aa (au dY (ab 1) (ah (.int 1))) (aa (cC (aa (ab 9) (ak))) (ak)))) (ak)))))
  (jy (lY (bP (ai dI (aa (ab 10) (aa (ab 1) (aa (ab 2) (ak)))))) (aN (au oEq (ai bZ (aa (ab 10) (aa (ab 2) (ak)))) (ab 3)))) (bX (ah (.bool false))) (cB))) (cB))
theorem FR (Rn:Rw bb ns) (nl:ns.length<=7) {x y:PyData} (hx:x∈ns) (hy:y∈ns) {a5 a6 a9 a10:Option D} (h:Hm):∃ b9 b10,IL (F6 i ns r kd a5 a6 (some (.dat x)) (some (.dat y)) a9 a10) h=.ok (.nx (F6 i ns r kd a5 a6 (some (.dat x)) (some (.dat y)) b9 b10)) h:=by
 have e1:aN (au nu (ab 9) (au dY (ab 3) (ah (.int 1)))) (F6 i ns r kd a5 a6 (some (.dat x)) (some (.dat y)) (some (.dat (.tuple [x,y]))) a10) h=.ok (dW kd r x y) h:=bE (aw rfl (aw (x:=.dat (bu ns (dW kd r))) rfl (y:=.int 1) rfl rfl) (FH (r:=dW kd r) Rn hx hy h))
 have e2:aN (au iD (ab 9) (au dY (ab 4) (ah (.int 1)))) (F6 i ns r kd a5 a6 (some (.dat x)) (some (.dat y)) (some (.dat (.tuple [x,y]))) a10) h=.ok (!gK kd r x y) h:=bE (aw rfl (aw (x:=.dat (bu ns (gK kd r))) rfl (y:=.int 1) rfl rfl) (Dn (r:=gK kd r) Rn hx hy h))
 have e3:=Du e1 e2
 have s9:cn 9 (cC (aa (ab 7) (aa (ab 8) (ak)))) (F6 i ns r kd a5 a6 (some (.dat x)) (some (.dat y)) a9 a10) h=.ok (.nx (F6 i ns r kd a5 a6 (some (.dat x)) (some (.dat y)) (some (.dat (.tuple [x,y]))) a10)) h:=dz (fq rfl rfl)
 cases z:(dW kd r x y || !gK kd r x y) with
 | false=>
  rw [z] at e3
  exact ⟨some (.dat (.tuple [x,y])),a10,bc s9 (vq e3 rfl)⟩
 | true=>
  rw [z] at e3
  have ne:=FO (r:=r) (kd:=kd) hx hy (by simpa using z)
  have tu:=Bb (r:=r) Rn hx hy nl h
  have t1:cC (aa (ab 9) (ak)) (F6 i ns r kd a5 a6 (some (.dat x)) (some (.dat y)) (some (.dat (.tuple [x,y]))) a10) h=.ok (.dat (.tuple [.tuple [x,y]])) h:=(bO (f:=jE) (aM (x:=.dat (.tuple [x,y])) rfl rfl)).trans (Ip _ h)
  have s10:cn 10 (cC (aa (au dY (ab 1) (ah (.int 0))) (aa (ai dh (aa (au dY (ab 1) (ah (.int 1))) (aa (cC (aa (ab 9) (ak))) (ak)))) (ak)))) (F6 i ns r kd a5 a6 (some (.dat x)) (some (.dat y)) (some (.dat (.tuple [x,y]))) a10) h=.ok (.nx (F6 i ns r kd a5 a6 (some (.dat x)) (some (.dat y)) (some (.dat (.tuple [x,y]))) (some (.dat (bu ns (oX r x y)))))) h:=
   dz (fq (a:=.tuple ns) (aw (x:=.dat (bu ns r)) rfl (y:=.int 0) rfl rfl) (aK (aM (aw (x:=.dat (bu ns r)) rfl (y:=.int 1) rfl rfl) (aM t1 rfl)) tu))
  have k1:=fK (r:=oX r x y) Rn kd h
  have k4:=xu (r:=oX r x y) (q:=r) Rn Rn kd h
  have nw:bu ns (dW kd (oX r x y))≠bu ns (dW kd r):=fun e=>ne (by simpa [bu] using e)
  rw [NW nw] at k4
  have n1:=Dj (r:=dW kd (oX r x y)) (q:=dW kd r) h Rn Rn
  rw [NW nw] at n1
  have c1:=gL (aK (ρ:=F6 i ns r kd a5 a6 (some (.dat x)) (some (.dat y)) (some (.dat (.tuple [x,y]))) (some (.dat (bu ns (oX r x y))))) (ma:=aa (ab 10) (aa (ab 1) (aa (ab 2) (ak)))) rfl k4)
  have c2:=bE (aw (aK (ρ:=F6 i ns r kd a5 a6 (some (.dat x)) (some (.dat y)) (some (.dat (.tuple [x,y]))) (some (.dat (bu ns (oX r x y))))) (ma:=aa (ab 10) (aa (ab 2) (ak))) rfl k1) (b:=ab 3) rfl n1)
  exact ⟨some (.dat (.tuple [x,y])),some (.dat (bu ns (oX r x y))),bc s9 (IE e3 (bc s10 (vq (rA c1 c2) rfl)))⟩
theorem rF {g:MG} {b:MS} {ds:List PyData} {h:Hm} (I:Fm->Prop) (H:∀ d∈ds,∀ ρ,I ρ->∃ ρ1 ρ2,g (.dat d) ρ h=.ok ρ1 h/\b ρ1 h=.ok (.nx ρ2) h/\I ρ2) {ρ:Fm} (i:I ρ):∃ ρ',dA g b (ds.map D.dat) ρ h=.ok (.nx ρ') h/\I ρ':=by
 induction ds generalizing ρ with
 | nil=>exact ⟨ρ,rfl,i⟩
 | cons d ds ih=>
  obtain ⟨ρ1,ρ2,e1,e2,i2⟩:=H d (by simp) ρ i
  obtain ⟨ρ',e3,i3⟩:=ih (fun x m=>H x (by simp [m])) i2
  refine ⟨ρ',?_,i3⟩
  simp only [Ob]
  unfold dA
  rw [e1]
  simp only [R.bq,R.ao]
  rw [e2]
  simp only [R.bq,R.ao]
  exact e3
theorem FT {h:Hm} (b:Px i h) (Rn:Rw bb ns) (nl:ns.length<=7):Dp i h (cV [.ref i,.dat (bu ns r),.dat (.str kd.nm)] h) fun d=>d=.bool true:=by
 obtain ⟨_,h',e1,s1,q,rfl,A⟩:=FQ (r:=r) (kd:=kd) b Rn
 have lf:=jm (r:=gK kd r) (jv Rn)
 have lk:=jm (r:=dW kd r) (jv Rn)
 have lr:=jm (r:=r) (jv Rn)
 have w1:=t9 (jw dC (aW (r:=dW kd r) Rn)) (jw dC (aW (r:=r) Rn)) (lV dC (aW Rn)) (by omega) (fun d m=>by
  obtain ⟨a,b,rfl,ha,hb,k⟩:=du.mp m
  exact cb.mpr ⟨ha,hb,pF k⟩) h
 have w2:=t9 (jw dC (aW (r:=r) Rn)) (jw dC (aW (r:=gK kd r) Rn)) (lV dC (aW Rn)) (by omega) (fun d m=>by
  obtain ⟨a,b,rfl,ha,hb,k⟩:=du.mp m
  exact cb.mpr ⟨ha,hb,vz ha hb k⟩) h
 have t1:kG (jB (cA (ay 3) (cA (ay 4) (jA)))) (cC (aa (ai bZ (aa (ab 1) (aa (ab 2) (ak)))) (aa (ai dS (aa (ab 1) (aa (ab 2) (ak)))) (ak)))) [some (.ref i),some (.dat (bu ns r)),some (.dat (.str kd.nm)),none,none,none,none,none,none,none,none] h=.ok (.nx (F6 i ns r kd none none none none none none)) h:=
  vo (fq (aK (xs:=[.dat (bu ns r),.dat (.str kd.nm)]) rfl (fK Rn kd h)) (aK (xs:=[.dat (bu ns r),.dat (.str kd.nm)]) rfl (lX Rn kd h))) rfl
 have c1:=kz (gL (aK (ρ:=F6 i ns r kd none none none none none none) (ma:=aa (au dY (ab 3) (ah (.int 1))) (aa (au dY (ab 1) (ah (.int 1))) (ak))) (aM (aw (x:=.dat (bu ns (dW kd r))) rfl (y:=.int 1) rfl rfl) (aM (aw (x:=.dat (bu ns r)) rfl (y:=.int 1) rfl rfl) rfl)) w1))
 have c2:=kz (gL (aK (ρ:=F6 i ns r kd none none none none none none) (ma:=aa (au dY (ab 1) (ah (.int 1))) (aa (au dY (ab 4) (ah (.int 1))) (ak))) (aM (aw (x:=.dat (bu ns r)) rfl (y:=.int 1) rfl rfl) (aM (aw (x:=.dat (bu ns (gK kd r))) rfl (y:=.int 1) rfl rfl) rfl)) w2))
 obtain ⟨ρ4,e4,a6,rfl⟩:=rF (g:=ay 6) (b:=Kk) (ds:=[bu ns (dW kd r),bu ns (gK kd r),bu ns r,bu ns q]) (h:=h') (fun ρ=>∃ a6,ρ=F6 i ns r kd (some (.dat (.list (rows ns q)))) a6 none none none none) (fun d hd ρ ⟨a6,e⟩=>by
  subst e
  simp only [NJ,N9,OW] at hd
  rcases hd with rfl | rfl | rfl | rfl
  ·exact ⟨_,_,rfl,pG Rn hU h',_,rfl⟩
  ·exact ⟨_,_,rfl,pG Rn Af h',_,rfl⟩
  ·exact ⟨_,_,rfl,pG Rn vw.self h',_,rfl⟩
  ·exact ⟨_,_,rfl,pG Rn A h',_,rfl⟩) (ρ:=F6 i ns r kd (some (.dat (.list (rows ns q)))) none none none none none) ⟨none,rfl⟩
 obtain ⟨ρ5,e5,b7,b8,b9,b10,rfl⟩:=rF (g:=ay 7) (b:=jH (aR (au dY (ab 1) (ah (.int 0)))) (ay 8) IL) (ds:=ns) (h:=h') (fun ρ=>∃ a7 a8 a9 a10,ρ=F6 i ns r kd (some (.dat (.list (rows ns q)))) a6 a7 a8 a9 a10) (fun x hx ρ ⟨a7,a8,a9,a10,e⟩=>by
  subst e
  obtain ⟨ρ5,e5,b8,b9,b10,rfl⟩:=rF (g:=ay 8) (b:=IL) (ds:=ns) (h:=h') (fun ρ=>∃ a8 a9 a10,ρ=F6 i ns r kd (some (.dat (.list (rows ns q)))) a6 (some (.dat x)) a8 a9 a10) (fun y hy ρ ⟨a8,a9,a10,e⟩=>by
   subst e
   obtain ⟨c9,c10,e⟩:=FR (i:=i) (r:=r) (kd:=kd) Rn nl hx hy (a5:=some (.dat (.list (rows ns q)))) (a6:=a6) (a9:=a9) (a10:=a10) h'
   exact ⟨_,_,rfl,e,_,_,_,rfl⟩) (ρ:=F6 i ns r kd (some (.dat (.list (rows ns q)))) a6 (some (.dat x)) a8 a9 a10) ⟨a8,a9,a10,rfl⟩
  exact ⟨_,_,rfl,gj (cX (aw (x:=.dat (bu ns r)) rfl (y:=.int 0) rfl rfl)) e5,_,_,_,_,rfl⟩) (ρ:=F6 i ns r kd (some (.dat (.list (rows ns q)))) a6 none none none none) ⟨none,none,none,none,rfl⟩
 have it4:aR (vU (aa (ab 3) (aa (ab 4) (aa (ab 1) (aa (cC (aa (au dY (ab 1) (ah (.int 0))) (aa (ai gC (aa (ab 5) (ak))) (ak)))) (ak)))))) (F6 i ns r kd (some (.dat (.list (rows ns q)))) none none none none none) h'=.ok ([bu ns (dW kd r),bu ns (gK kd r),bu ns r,bu ns q].map D.dat) h':=by
  refine pA ((bO (f:=fP) (aM (x:=.dat (bu ns (dW kd r))) rfl (aM (x:=.dat (bu ns (gK kd r))) rfl (aM (x:=.dat (bu ns r)) rfl (aM (fq (a:=.tuple ns) (aw (x:=.dat (bu ns r)) rfl (y:=.int 0) rfl rfl) (aK (xs:=[.dat (.list (rows ns q))]) rfl rfl)) rfl))))).trans (cQ [_,_,_,_] h' (by simp)))
 refine ⟨_,h',?_,s1,rfl⟩
 exact iN rfl (bc t1 (bc (vq (rA c1 c2) rfl) (bc (dz e1) (bc (gj it4 e4) (bc (gj (cX (aw (x:=.dat (bu ns r)) rfl (y:=.int 0) rfl rfl)) e5) (fJ rfl))))))
end
theorem yR {i:Nat} {g:MG} {b:MS} (I:Fm->Prop):∀ {ds:List PyData} {h:Hm} {ρ:Fm},Px i h->(∀ d∈ds,∀ ρ h,Px i h->I ρ->∃ ρ1 ρ2 h2,g (.dat d) ρ h=.ok ρ1 h/\b ρ1 h=.ok (.nx ρ2) h2/\Ps i h h2/\I ρ2)->I ρ->∃ ρ' h',dA g b (ds.map D.dat) ρ h=.ok (.nx ρ') h'/\Ps i h h'/\I ρ'
 | [],h,ρ,p,_,a=>⟨ρ,h,rfl,p.refl,a⟩
 | d::ds,h,ρ,p,H,a=>by
  obtain ⟨ρ1,ρ2,h2,e1,e2,s2,a2⟩:=H d (by simp) ρ h p a
  obtain ⟨ρ',h',e3,s3,a3⟩:=yR (i:=i) (g:=g) (b:=b) I (ds:=ds) (s2.px p) (fun x m=>H x (by simp [m])) a2
  refine ⟨ρ',h',?_,s2.trans s3,a3⟩
  simp only [Ob]
  unfold dA
  rw [e1]
  simp only [R.bq,R.ao]
  rw [e2]
  simp only [R.bq,R.ao]
  exact e3
theorem DJ (ns:List Int) (hi:Int) {ρ:Fm} (e0:ρ[0]?=some (some (.scr ns))) (hn:ns.length<=63) (h:Hm):∃ ds:List PyData,aR (au gA (vU (aa (ai dJ (aa (ab 0) (aa (ah (.int 0)) (ak)))) (ak))) (CJ (ab 0) (kS (ah (.int 1))) (kS (ah (.int hi))))) ρ h=.ok (ds.map D.dat) h/\∀ d∈ds,∃ z:Int,d=.int z:=by
 obtain ⟨z,ez⟩:=FE ns 0 h
 have ev:ab 0 ρ h=.ok (.scr ns) h:=by simp [ab,e0]
 have l1:vU (aa (ai dJ (aa (ab 0) (aa (ah (.int 0)) (ak)))) (ak)) ρ h=.ok (.dat (.list [.int z])) h:=(bO (f:=fP) (aM (aK (aM ev (aM (x:=.int 0) rfl rfl)) ez) rfl)).trans (Iu _ h)
 have l2:CJ (ab 0) (kS (ah (.int 1))) (kS (ah (.int hi))) ρ h=.ok (.dat (.list (cut (ns.map PyData.int) (some 1) (some hi)))) h:=by
  unfold CJ
  rw [ev]
  rfl
 have lc:(cut (ns.map PyData.int) (some 1) (some hi)).length<=63:=by
  unfold cut
  rw [QG,Rm,NZ]
  omega
 refine ⟨.int z::cut (ns.map PyData.int) (some 1) (some hi),pA (aw l1 l2 (nh h (by simp;omega))),fun d m=>?_⟩
 rcases NJ.mp m with rfl | m
 ·exact ⟨z,rfl⟩
 ·obtain ⟨k,_,rfl⟩:=Oe.mp (zy m)
  exact ⟨k,rfl⟩
theorem xB {g:MG} {b:MS} (I:Fm->Prop) {ds:List PyData} (hd:∀ d∈ds,∃ z:Int,d=.int z) (H:∀ (z:Int) ρ h,Wf h->I ρ->∃ ρ1 ρ2 h2,g (.int z) ρ h=.ok ρ1 h/\b ρ1 h=.ok (.nx ρ2) h2/\Wf h2/\I ρ2):∀ {h:Hm} {ρ:Fm},Wf h->I ρ->∃ ρ' h',dA g b (ds.map D.dat) ρ h=.ok (.nx ρ') h'/\I ρ':=by
 induction ds with
 | nil=>exact fun {h ρ} w a=>⟨ρ,h,rfl,a⟩
 | cons d ds ih=>
  intro h ρ w a
  obtain ⟨z,rfl⟩:=hd d (by simp)
  obtain ⟨ρ1,ρ2,h2,e1,e2,w2,a2⟩:=H z ρ h w a
  obtain ⟨ρ',h',e3,a3⟩:=ih (fun x m=>hd x (by simp [m])) w2 a2
  refine ⟨ρ',h',?_,a3⟩
  simp only [Ob]
  unfold dA
  rw [e1]
  simp only [R.bq,R.ao]
  rw [e2]
  simp only [R.bq,R.ao]
  exact e3
def Lc:List PyData:=[.str "stable",.str "standing",.str "preferred",.str "whole",.str "grounded"]
theorem IM {d:PyData} (h:d∈Lc):∃ kd:Kd,d=.str kd.nm:=by
 simp only [Lc,NJ,N9,OW] at h
 rcases h with rfl | rfl | rfl | rfl | rfl
 ·exact ⟨.stable,rfl⟩
 ·exact ⟨.standing,rfl⟩
 ·exact ⟨.preferred,rfl⟩
 ·exact ⟨.whole,rfl⟩
 ·exact ⟨.grounded,rfl⟩
theorem DK:∀ ns:List Int,ns.length<=63->∃ h,zJ [.scr ns] []=.ok (.bool true) h:=by
 intro ns hn
 obtain ⟨ds,ec,hd⟩:=DJ ns 2 (ρ:=[some (.scr ns),none,none,none,none,none]) rfl hn []
 obtain ⟨ρ',h',e,_⟩:=xB (g:=ay 1) (b:=bC (cn 2 (ai fB (aa (ab 1) (ak))))
  (jH (aR (ai cP (aa (ab 2) (aa (ah (.int 6)) (ak))))) (ay 3) (bC (cn 4 (ai dk (aa (ab 2) (aa (ab 3) (ak)))))
  (jH (aR (ai b0 ak)) (ay 5) (jy (fT (bP (ai cV (aa (ab 2) (aa (ab 4) (aa (ab 5) (ak))))))) (bX (ah (.bool false))) (cB))))))
  (fun ρ=>∃ a1 a2 a3 a4 a5,ρ=[some (.scr ns),a1,a2,a3,a4,a5]) hd (fun z ρ h w ⟨a1,a2,a3,a4,a5,e⟩=>by
   subst e
   obtain ⟨n,f,ep,px⟩:=II z w
   obtain ⟨_,h2,e2,s2,n1,n2,n3,r1,r2,r3,rfl,rn1,rn2,rn3,l1,l2,l3⟩:=vA px (m:=6) (by decide)
   have p2:=s2.px px
   obtain ⟨ρ3,h3,e3,s3,b3,b4,b5,rfl⟩:=yR (i:=h.length) (g:=ay 3) (b:=bC (cn 4 (ai dk (aa (ab 2) (aa (ab 3) (ak)))))
    (jH (aR (ai b0 ak)) (ay 5) (jy (fT (bP (ai cV (aa (ab 2) (aa (ab 4) (aa (ab 5) (ak))))))) (bX (ah (.bool false))) (cB))))
    (fun ρ=>∃ b3 b4 b5,ρ=[some (.scr ns),some (.int z),some (.ref h.length),b3,b4,b5]) (ds:=[bu n1 r1,bu n2 r2,bu n3 r3]) (ρ:=[some (.scr ns),some (.int z),some (.ref h.length),a3,a4,a5]) p2 (fun d hd ρ hh p ⟨b3,b4,b5,e⟩=>by
     subst e
     obtain ⟨N,r,rfl,rn,ln⟩:∃ (N:List PyData) (r:Rel),d=bu N r/\Rw bb N/\N.length<=7:=by
      simp only [NJ,N9,OW] at hd
      rcases hd with rfl | rfl | rfl
      ·exact ⟨_,_,rfl,rn1,by omega⟩
      ·exact ⟨_,_,rfl,rn2,by omega⟩
      ·exact ⟨_,_,rfl,rn3,by omega⟩
     obtain ⟨_,h4,e4,s4,q,rfl⟩:=Ba p (r:=r) rn ln
     have p4:=s4.px p
     obtain ⟨ρ5,h5,e5,s5,c5,rfl⟩:=yR (i:=h.length) (g:=ay 5) (b:=jy (fT (bP (ai cV (aa (ab 2) (aa (ab 4) (aa (ab 5) (ak))))))) (bX (ah (.bool false))) (cB))
      (fun ρ=>∃ c5,ρ=[some (.scr ns),some (.int z),some (.ref h.length),some (.dat (bu N r)),some (.dat (bu N q)),c5]) (ds:=Lc) (ρ:=[some (.scr ns),some (.int z),some (.ref h.length),some (.dat (bu N r)),some (.dat (bu N q)),b5]) p4 (fun d hd ρ hh p ⟨c5,e⟩=>by
       subst e
       obtain ⟨kd,rfl⟩:=IM hd
       obtain ⟨_,h6,e6,s6,rfl⟩:=FT (i:=h.length) (r:=q) (kd:=kd) p rn ln
       exact ⟨_,_,h6,rfl,vq (kz (gL (aK (xs:=[.ref h.length,.dat (bu N q),.dat (.str kd.nm)]) rfl e6))) rfl,s6,_,rfl⟩) ⟨_,rfl⟩
     exact ⟨_,_,h5,rfl,bc (dz (aK (xs:=[.ref h.length,.dat (bu N r)]) rfl e4)) (gj (pA (ds:=Lc) rfl) e5),s4.trans s5,_,_,_,rfl⟩) ⟨_,_,_,rfl⟩
   exact ⟨_,_,h3,rfl,bc (dz (aK (xs:=[.int z]) rfl ep)) (gj (pA (aK (xs:=[.ref h.length,.int 6]) rfl e2)) e3),(s3.px p2).wf,_,_,_,_,_,rfl⟩) (h:=[]) (ρ:=[some (.scr ns),none,none,none,none,none]) (fun o m=>by cases m) ⟨_,_,_,_,_,rfl⟩
 exact ⟨h',iN rfl (bc (gj ec e) (fJ rfl))⟩
end Ml
namespace K15
open PySem L2 Ml
theorem IP {K:PySem.W.Frag} {h:Heap} {mg:Str->Option Value} {ta0:Addr} {fb0:Addr} {k0:Tok} {k1:Tok} (X:K.In h) (G:h.Ns mainGlobals mg)
  (z0:PySem.W.nsIn K mainGlobals "all" = some none)
  (z1:PySem.W.nsIn K mainGlobals "len" = some none)
  (z2:PySem.W.nsIn K mainGlobals "isinstance" = some none)
  (z3:PySem.W.nsIn K mainGlobals "str" = some none)
  (z4:PySem.W.nsIn K mainGlobals "zip" = some none)
  (z5:PySem.W.nsIn K mainGlobals "tuple" = some none)
  (z6:PySem.W.nsIn K mainGlobals "int" = some none)
  (z7:PySem.W.nsIn K mainGlobals "max" = some none)
  (z8:PySem.W.nsIn K mainGlobals "divmod" = some none)
  (z9:PySem.W.nsIn K mainGlobals "sorted" = some none)
  (z10:PySem.W.nsIn K mainGlobals "range" = some none)
  (z11:PySem.W.nsIn K mainGlobals "set" = some none)
  (z12:PySem.W.nsIn K mainGlobals "list" = some none)
  (a0:PySem.W.nsIn K mainGlobals "LONGEST_NAME" = some (some (.int 6 k0)))
  (a1:PySem.W.nsIn K mainGlobals "MOST_NAMES" = some (some (.int 12 k1)))
  (fn0:PySem.W.nsIn K mainGlobals "IDLE" = some (some (.ref fb0))) (fk0:LZ K fb0 lL=true)
  (tn0:PySem.W.nsIn K mainGlobals "KINDS" = some (some (.ref ta0))) (tk0:LX K ta0 uO=true)
  : Txt K mg:=⟨Ox X G z0,Ox X G z1,Ox X G z2,Ox X G z3,Ox X G z4,Ox X G z5,Ox X G z6,Ox X G z7,Ox X G z8,Ox X G z9,Ox X G z10,Ox X G z11,Ox X G z12,⟨_,Qz X G a0⟩,⟨_,Qz X G a1⟩,⟨_,Qz X G fn0,Ig (fun _ _=>Qz X G) fk0⟩,⟨_,Qz X G tn0,Ib tk0⟩⟩
theorem all_mk {l:PySem.W.OpenLaw} {w:World} {K:PySem.W.Frag} {h:Heap} {mg:Str->Option Value} {fa f:Addr} {od an:Option Addr} {sl:Array (Option Value)} {oc kV dc pm cd ct:Value} (X:K.In h) (G:h.Ns mainGlobals mg) (hfa:mg "law" = some (.ref fa)) (T:Txt K mg)
  (d0:Df K mg "is_name" ["thing"] nX)
  (d1:Df K mg "is_rising" ["things"] jS)
  (d2:Df K mg "are_names" ["thing"] jU)
  (d3:Df K mg "is_strike" ["thing", "names"] jV)
  (d4:Df K mg "are_strikes" ["thing", "names"] ij)
  (d5:Df K mg "is_web" ["thing"] qV)
  (d6:Df K mg "check_web" ["thing"] jW)
  (d7:Df K mg "check_kind" ["thing"] jg)
  (d8:Df K mg "idle_for_stable" ["strikes", "one", "other"] fg)
  (d9:Df K mg "idle_for_standing" ["strikes", "one", "other"] eh)
  (d10:Df K mg "idle_for_whole" ["strikes", "one", "other"] fF)
  (d11:Df K mg "idle_for_grounded" ["strikes", "one", "other"] et)
  (d12:Df K mg "kernel" ["web", "kind"] qW)
  (d13:Df K mg "fullest" ["web", "kind"] n5)
  (d14:Df K mg "how_many" ["web", "kind"] lN)
  (d15:Df K mg "are_alike" ["one", "other", "kind"] jZ)
  (d16:Df K mg "_law_cell" ["_law_script", "_law_k"] j0)
  (d17:Df K mg "_law_pen" ["_law_cell_here"] lP)
  (d18:Df K mg "_law_draw" ["_law_pen_here", "_law_many"] j3)
  (d19:Df K mg "_law_names" ["_law_pen_here", "_law_most"] jh)
  (d20:Df K mg "_law_web" ["_law_pen_here", "_law_most"] lQ)
  (d21:Df K mg "_law_within" ["_law_one", "_law_other"] ik)
  (d22:Df K mg "_law_kernel_kinds" [] eA)
  (d23:Df K mg "_law_some_webs" ["_law_pen_here", "_law_most"] fH)
  (d24:Df K mg "_law_turned" ["_law_strikes", "_law_changes"] ip)
  (d25:Df K mg "_law_selves" ["_law_pen_here", "_law_web_here"] iq)
  (d26:Df K mg "_law_many_right" ["_law_web_here", "_law_least", "_law_most", "_law_kind"] fi)
  (d27:Df K mg "_law_right" ["_law_pen_here", "_law_web_here", "_law_kind"] ji)
  (a:PySem.W.nsIn K mainGlobals "law" = some (some (.ref f))) (l0:K.lookup f=some ⟨oc,od,.func (PySem.W.fnOf "law" "law" (gN m8) (eW m8) (aD m8) .none kV dc pm an cd ct),sl⟩) (c:PySem.W.codeIn K cd "law" = true) (k:PySem.W.keepIn K (.ref f)=true) :
  ∃ fd:FuncData,(∀ (s:Shared) (v:Value),BindsTo s fd ⟨[v],[]⟩ [("_law_script",v)])/\∀ base:Heap,K.In base->base.Ns mainGlobals mg->iy l.prog w K mg base (rT l.prog w) 10 fa fd ["_law_script"] (DM ⟨l.prog,w,mg,K⟩ zJ):=by
 have e:=hfa.symm.trans (Qz X G a)
 cases e
 have FL:=xR (st:=m8) l0 c k
 refine ⟨PySem.W.fnOf "law" "law" (gN m8) (eW m8) (aD m8) .none kV dc pm an cd ct,fun s v=>.of_eq rfl,fun base _ _=>?_⟩
 have H_is_name:=A4 (P:=l.prog) (w:=w) (base:=base) d0 T
 have H_is_rising:=wY (P:=l.prog) (w:=w) (base:=base) d1 T
 have H_are_names:=wZ (P:=l.prog) (w:=w) (base:=base) d2 T H_is_rising H_is_name
 have H_is_strike:=xa (P:=l.prog) (w:=w) (base:=base) d3 T
 have H_are_strikes:=sv (P:=l.prog) (w:=w) (base:=base) d4 T H_is_rising H_is_strike
 have H_is_web:=C2 (P:=l.prog) (w:=w) (base:=base) d5 T H_are_strikes H_are_names
 have H_check_web:=xb (P:=l.prog) (w:=w) (base:=base) d6 T H_is_web
 have H_check_kind:=u5 (P:=l.prog) (w:=w) (base:=base) d7 T
 have H_idle_for_stable:=mY (P:=l.prog) (w:=w) (base:=base) d8 T
 have H_idle_for_standing:=kJ (P:=l.prog) (w:=w) (base:=base) d9 T
 have H_idle_for_whole:=n0 (P:=l.prog) (w:=w) (base:=base) d10 T
 have H_idle_for_grounded:=kK (P:=l.prog) (w:=w) (base:=base) d11 T
 have H_kernel:=C3 (P:=l.prog) (w:=w) (base:=base) d12 T H_idle_for_grounded H_idle_for_standing H_idle_for_stable H_idle_for_whole H_check_kind H_check_web
 have H_fullest:=A5 (P:=l.prog) (w:=w) (base:=base) d13 T H_idle_for_grounded H_idle_for_standing H_idle_for_stable H_idle_for_whole H_kernel
 have H_how_many:=yB (P:=l.prog) (w:=w) (base:=base) d14 T H_fullest H_kernel
 have H_are_alike:=xf (P:=l.prog) (w:=w) (base:=base) d15 T H_kernel H_check_kind H_check_web
 have H__law_cell:=xg (P:=l.prog) (w:=w) (base:=base) d16 T
 have H__law_pen:=yC (P:=l.prog) (w:=w) (base:=base) d17 T
 have H__law_draw:=xh (P:=l.prog) (w:=w) (base:=base) d18 T
 have H__law_names:=va (P:=l.prog) (w:=w) (base:=base) d19 T H__law_draw
 have H__law_web:=yD (P:=l.prog) (w:=w) (base:=base) d20 T H__law_draw H__law_names
 have H__law_within:=sC (P:=l.prog) (w:=w) (base:=base) d21 T
 have H__law_kernel_kinds:=kL (P:=l.prog) (w:=w) (base:=base) d22 T
 have H__law_some_webs:=n8 (P:=l.prog) (w:=w) (base:=base) d23 T H__law_draw H__law_web
 have H__law_turned:=sD (P:=l.prog) (w:=w) (base:=base) d24 T
 have H__law_selves:=sE (P:=l.prog) (w:=w) (base:=base) d25 T H__law_draw
 have H__law_many_right:=m7 (P:=l.prog) (w:=w) (base:=base) d26 T H_how_many
 have H__law_right:=vb (P:=l.prog) (w:=w) (base:=base) d27 T H_kernel H_are_alike H__law_turned H__law_many_right H_fullest H__law_draw H__law_within
 exact Io (P:=l.prog) (w:=w) (base:=base) FL T H__law_cell H__law_some_webs H__law_kernel_kinds H__law_right H__law_selves H__law_pen
theorem walk {l:PySem.W.OpenLaw} {q:Program} {loose:List Str} {XP:(Str->Option Value)->Heap->Prop} {YP:World->Heap->Prop} {d:DefRec} {K:Params->PySem.W.Frag} (hn:l.most=some 63) (hdf:d.params.defaults=[])
  (hY:∀ (w:World) (h:Heap),YP w h->(K w.params).In h)
  (F:∀ (w:World) (mg:Str->Option Value) (fa:Addr) (h:Heap),(K w.params).In h->h.Ns mainGlobals mg->mg d.name=some (.ref fa) ->
   ∃ fd:FuncData,(∀ (s:Shared) (u:Value),BindsTo s fd ⟨[u],[]⟩ [("_law_script",u)])/\∀ base:Heap,(K w.params).In base->base.Ns mainGlobals mg->iy l.prog w (K w.params) mg base (rT l.prog w) 10 fa fd ["_law_script"] (DM ⟨l.prog,w,mg,K w.params⟩ zJ)) :
  PySem.W.WalkO q loose XP YP l.row.toRowW d [] (fun f vs=>PySem.call f vs):=
 L2.Ei (n:=63) (k:=10) (x := "_law_script") (CX:=fun w=>rT l.prog w) (sp:=fun w=>Gf (K w.params)) hn (by decide) hdf ⟨rfl,by decide,by decide,rfl⟩ hY
  (fun w mg fa h KX G hm=>let ⟨fd,b,o⟩:=F w mg fa h KX G hm;⟨fd,b,fun base k g=>(o base k g).imp fun vs H Q E z=>Cu DK z⟩)
  (fun w H a ns hl _ hS=>⟨a,ns,rfl,hS,hl,fun _=>rfl⟩) fun w H s e s' ⟨_,_,_,_,_,_,_,_,_,_,_,_,_,z⟩=>z
end K15
open PySem PySem.W PyProof.Rows
def PySem.W.Fast.tw10448298296430251795 : Unit := ()
def PySem.W.Fast.tw14527871182665345028 : Unit := ()
def PySem.W.Fast.tw17263365515129486446 : Unit := ()
def PySem.W.Fast.tw3192144487997443497 : Unit := ()
def PySem.W.Fast.tw2629939339842350690 : Unit := ()
def PySem.W.Fast.tw13753462165151198814 : Unit := ()
def PySem.W.Fast.tw6497709035226043647 : Unit := ()
def PySem.W.Fast.tw16285219992724888264 : Unit := ()
def PySem.W.Fast.tw10180970771572100618 : Unit := ()
def PySem.W.Fast.tw5704683253203926084 : Unit := ()
def PySem.W.Fast.tw14314723302521820023 : Unit := ()
def PySem.W.Fast.tw7167941578032390313 : Unit := ()
def PySem.W.Fast.tw14671965774339527559 : Unit := ()
def PySem.W.Fast.tw12494704814316787816 : Unit := ()
def PySem.W.Fast.tw3600477869646215111 : Unit := ()
def PySem.W.Fast.tw17995553702995491043 : Unit := ()
def PySem.W.Fast.tw11321518895989080676 : Unit := ()
def PySem.W.Fast.tw5483076043984306718 : Unit := ()
def PySem.W.Fast.tw2911521093224004873 : Unit := ()
def PySem.W.Fast.tw18216598916270529816 : Unit := ()
def PySem.W.Fast.tw7589924831357720858 : Unit := ()
def PySem.W.Fast.tw10238701965985576122 : Unit := ()
def PySem.W.Fast.tw6607622682258482301 : Unit := ()
def PySem.W.Fast.tw12803578620998893527 : Unit := ()
def PySem.W.Fast.tw14749355408690316175 : Unit := ()
def PySem.W.Fast.tw8209084174088431513 : Unit := ()
def PySem.W.Fast.tw3789185796480208259 : Unit := ()
def PySem.W.Fast.tw16263119317216424426 : Unit := ()
def PySem.W.Fast.tw8368602825578097383 : Unit := ()
def PySem.W.Fast.tw12170209617674230430 : Unit := ()
set_option maxRecDepth 100000 in
set_option maxHeartbeats 0 in
theorem PySem.Challenge.cw_everalike_k15_whole_webs_of_one_kernel_holds : PySem.Challenge.rw_everalike_k15_whole_webs_of_one_kernel.Holds := by
 w_on;o_law;k_head;(case hw=>w_witness2)
 k_fill
 refine K15.walk (l:=PySem.Challenge.rw_everalike_k15_whole_webs_of_one_kernel) rfl rfl (fun w h Y=>PySem.W.kIn_of Y) ?F
 case F=>
  intro w mg fa h KX G hmg
  refine' K15.all_mk KX G hmg ?T ?d0 ?d1 ?d2 ?d3 ?d4 ?d5 ?d6 ?d7 ?d8 ?d9 ?d10 ?d11 ?d12 ?d13 ?d14 ?d15 ?d16 ?d17 ?d18 ?d19 ?d20 ?d21 ?d22 ?d23 ?d24 ?d25 ?d26 ?d27 ?a ?l ?c ?k
  case T=>
   refine' K15.IP KX G ?zz0 ?zz1 ?zz2 ?zz3 ?zz4 ?zz5 ?zz6 ?zz7 ?zz8 ?zz9 ?zz10 ?zz11 ?zz12 ?aa0 ?aa1 ?fn0 ?fk0 ?tn0 ?tk0
   (case zz0=>k_is)
   (case zz1=>k_is)
   (case zz2=>k_is)
   (case zz3=>k_is)
   (case zz4=>k_is)
   (case zz5=>k_is)
   (case zz6=>k_is)
   (case zz7=>k_is)
   (case zz8=>k_is)
   (case zz9=>k_is)
   (case zz10=>k_is)
   (case zz11=>k_is)
   (case zz12=>k_is)
   (case aa0=>k_is)
   (case aa1=>k_is)
   (case fn0=>k_is)
   (case fk0=>kernel_rfl)
   (case tn0=>k_is)
   (case tk0=>kernel_rfl)
  case d0=>
   refine' Ml.cM KX G ?a0 ?l0 ?c0 ?k0 (fun _ _ _ _ _ _ us hl=>match us,hl with | [_],_=>rfl)
   (case a0=>k_is);(case l0=>k_is);(case c0=>k_is);(case k0=>k_is)
  case d1=>
   refine' Ml.cM KX G ?a1 ?l1 ?c1 ?k1 (fun _ _ _ _ _ _ us hl=>match us,hl with | [_],_=>rfl)
   (case a1=>k_is);(case l1=>k_is);(case c1=>k_is);(case k1=>k_is)
  case d2=>
   refine' Ml.cM KX G ?a2 ?l2 ?c2 ?k2 (fun _ _ _ _ _ _ us hl=>match us,hl with | [_],_=>rfl)
   (case a2=>k_is);(case l2=>k_is);(case c2=>k_is);(case k2=>k_is)
  case d3=>
   refine' Ml.cM KX G ?a3 ?l3 ?c3 ?k3 (fun _ _ _ _ _ _ us hl=>match us,hl with | [_,_],_=>rfl)
   (case a3=>k_is);(case l3=>k_is);(case c3=>k_is);(case k3=>k_is)
  case d4=>
   refine' Ml.cM KX G ?a4 ?l4 ?c4 ?k4 (fun _ _ _ _ _ _ us hl=>match us,hl with | [_,_],_=>rfl)
   (case a4=>k_is);(case l4=>k_is);(case c4=>k_is);(case k4=>k_is)
  case d5=>
   refine' Ml.cM KX G ?a5 ?l5 ?c5 ?k5 (fun _ _ _ _ _ _ us hl=>match us,hl with | [_],_=>rfl)
   (case a5=>k_is);(case l5=>k_is);(case c5=>k_is);(case k5=>k_is)
  case d6=>
   refine' Ml.cM KX G ?a6 ?l6 ?c6 ?k6 (fun _ _ _ _ _ _ us hl=>match us,hl with | [_],_=>rfl)
   (case a6=>k_is);(case l6=>k_is);(case c6=>k_is);(case k6=>k_is)
  case d7=>
   refine' Ml.cM KX G ?a7 ?l7 ?c7 ?k7 (fun _ _ _ _ _ _ us hl=>match us,hl with | [_],_=>rfl)
   (case a7=>k_is);(case l7=>k_is);(case c7=>k_is);(case k7=>k_is)
  case d8=>
   refine' Ml.cM KX G ?a8 ?l8 ?c8 ?k8 (fun _ _ _ _ _ _ us hl=>match us,hl with | [_,_,_],_=>rfl)
   (case a8=>k_is);(case l8=>k_is);(case c8=>k_is);(case k8=>k_is)
  case d9=>
   refine' Ml.cM KX G ?a9 ?l9 ?c9 ?k9 (fun _ _ _ _ _ _ us hl=>match us,hl with | [_,_,_],_=>rfl)
   (case a9=>k_is);(case l9=>k_is);(case c9=>k_is);(case k9=>k_is)
  case d10=>
   refine' Ml.cM KX G ?a10 ?l10 ?c10 ?k10 (fun _ _ _ _ _ _ us hl=>match us,hl with | [_,_,_],_=>rfl)
   (case a10=>k_is);(case l10=>k_is);(case c10=>k_is);(case k10=>k_is)
  case d11=>
   refine' Ml.cM KX G ?a11 ?l11 ?c11 ?k11 (fun _ _ _ _ _ _ us hl=>match us,hl with | [_,_,_],_=>rfl)
   (case a11=>k_is);(case l11=>k_is);(case c11=>k_is);(case k11=>k_is)
  case d12=>
   refine' Ml.cM KX G ?a12 ?l12 ?c12 ?k12 (fun _ _ _ _ _ _ us hl=>match us,hl with | [_,_],_=>rfl)
   (case a12=>k_is);(case l12=>k_is);(case c12=>k_is);(case k12=>k_is)
  case d13=>
   refine' Ml.cM KX G ?a13 ?l13 ?c13 ?k13 (fun _ _ _ _ _ _ us hl=>match us,hl with | [_,_],_=>rfl)
   (case a13=>k_is);(case l13=>k_is);(case c13=>k_is);(case k13=>k_is)
  case d14=>
   refine' Ml.cM KX G ?a14 ?l14 ?c14 ?k14 (fun _ _ _ _ _ _ us hl=>match us,hl with | [_,_],_=>rfl)
   (case a14=>k_is);(case l14=>k_is);(case c14=>k_is);(case k14=>k_is)
  case d15=>
   refine' Ml.cM KX G ?a15 ?l15 ?Lb ?k15 (fun _ _ _ _ _ _ us hl=>match us,hl with | [_,_,_],_=>rfl)
   (case a15=>k_is);(case l15=>k_is);(case Lb=>k_is);(case k15=>k_is)
  case d16=>
   refine' Ml.cM KX G ?a16 ?l16 ?c16 ?k16 (fun _ _ _ _ _ _ us hl=>match us,hl with | [_,_],_=>rfl)
   (case a16=>k_is);(case l16=>k_is);(case c16=>k_is);(case k16=>k_is)
  case d17=>
   refine' Ml.cM KX G ?a17 ?l17 ?c17 ?k17 (fun _ _ _ _ _ _ us hl=>match us,hl with | [_],_=>rfl)
   (case a17=>k_is);(case l17=>k_is);(case c17=>k_is);(case k17=>k_is)
  case d18=>
   refine' Ml.cM KX G ?a18 ?l18 ?c18 ?k18 (fun _ _ _ _ _ _ us hl=>match us,hl with | [_,_],_=>rfl)
   (case a18=>k_is);(case l18=>k_is);(case c18=>k_is);(case k18=>k_is)
  case d19=>
   refine' Ml.cM KX G ?a19 ?l19 ?c19 ?k19 (fun _ _ _ _ _ _ us hl=>match us,hl with | [_,_],_=>rfl)
   (case a19=>k_is);(case l19=>k_is);(case c19=>k_is);(case k19=>k_is)
  case d20=>
   refine' Ml.cM KX G ?a20 ?l20 ?c20 ?k20 (fun _ _ _ _ _ _ us hl=>match us,hl with | [_,_],_=>rfl)
   (case a20=>k_is);(case l20=>k_is);(case c20=>k_is);(case k20=>k_is)
  case d21=>
   refine' Ml.cM KX G ?a21 ?l21 ?c21 ?k21 (fun _ _ _ _ _ _ us hl=>match us,hl with | [_,_],_=>rfl)
   (case a21=>k_is);(case l21=>k_is);(case c21=>k_is);(case k21=>k_is)
  case d22=>
   refine' Ml.cM KX G ?a22 ?l22 ?c22 ?k22 (fun _ _ _ _ _ _ us hl=>match us,hl with | [],_=>rfl)
   (case a22=>k_is);(case l22=>k_is);(case c22=>k_is);(case k22=>k_is)
  case d23=>
   refine' Ml.cM KX G ?a23 ?l23 ?c23 ?k23 (fun _ _ _ _ _ _ us hl=>match us,hl with | [_,_],_=>rfl)
   (case a23=>k_is);(case l23=>k_is);(case c23=>k_is);(case k23=>k_is)
  case d24=>
   refine' Ml.cM KX G ?a24 ?l24 ?c24 ?k24 (fun _ _ _ _ _ _ us hl=>match us,hl with | [_,_],_=>rfl)
   (case a24=>k_is);(case l24=>k_is);(case c24=>k_is);(case k24=>k_is)
  case d25=>
   refine' Ml.cM KX G ?a25 ?l25 ?c25 ?k25 (fun _ _ _ _ _ _ us hl=>match us,hl with | [_,_],_=>rfl)
   (case a25=>k_is);(case l25=>k_is);(case c25=>k_is);(case k25=>k_is)
  case d26=>
   refine' Ml.cM KX G ?a26 ?l26 ?c26 ?k26 (fun _ _ _ _ _ _ us hl=>match us,hl with | [_,_,_,_],_=>rfl)
   (case a26=>k_is);(case l26=>k_is);(case c26=>k_is);(case k26=>k_is)
  case d27=>
   refine' Ml.cM KX G ?a27 ?l27 ?c27 ?k27 (fun _ _ _ _ _ _ us hl=>match us,hl with | [_,_,_],_=>rfl)
   (case a27=>k_is);(case l27=>k_is);(case c27=>k_is);(case k27=>k_is)
  (case a=>k_is);(case l=>k_is);(case c=>k_is);(case k=>k_is)
