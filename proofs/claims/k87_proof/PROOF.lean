import PyProof.Rows.All
import Wide.All
import OpenK.AllK
import Wide.FinOn
import Lean
import PyProof.EqAt
import PyProof.EqKinds
import PyProof.TupleCall
import KE.KSortTup
import PyProof.Rows.SortShellK
import PyProof.Rows.SortWalk
import KE.KDictList
import KE.KStar
import PyProof.ListMulRoad
import PyProof.FactsAll.tuple
import KE.KTab
import PyProof.DictCompW
import PySem.SetOps
import PyProof.SetScanFacts
import PyProof.SetNew
import PyProof.SetRoads
import PyProof.Rows.SetFrom
import PyProof.WalksMore
import PyProof.CollectWalk
import PySem.Challenge.RW_everalike_k87_whole_alike_in_company_aga
set_option linter.all false
namespace PySem
abbrev QA:=@PySem.wpAny_bind
abbrev QB:=@PySem.wpAny_pure
abbrev QC:=@PySem.Heap.get?_push_of_some
abbrev QD:=@List.mem_append_right
abbrev QE:=@Nat.le_refl
abbrev QF:=@PySem.Heap.lt_size
abbrev QG:=@Bool.and_eq_true
abbrev QH:=@Nat.lt_of_lt_of_le
abbrev QJ:=@PySem.Heap.get?_push_size
abbrev QK:=@List.mem_cons
abbrev QL:=@List.mem_cons_of_mem
abbrev QM:=@Nat.le_trans
abbrev QN:=@List.mem_append
abbrev QO:=@Bool.false_eq_true
abbrev QP:=@List.getElem?_eq_getElem
abbrev QQ:=@Nat.ne_of_lt
abbrev QR:=@List.length_map
abbrev QS:=@List.mem_cons_self
abbrev QT:=@List.mem_singleton
abbrev QU:=@Nat.lt_irrefl
abbrev QV:=@List.getElem?_eq_some_iff
abbrev QW:=@List.length_append
abbrev QX:=@List.all_eq_true
abbrev QY:=@List.length_cons
abbrev QZ:=@List.mem_of_getElem?
abbrev Q0:=@PySem.Paired.length
abbrev Q1:=@List.size_toArray
abbrev Q3:=@Array.getElem?_eq_getElem
abbrev Q4:=@List.mem_map
abbrev Q5:=@Bool.false_ne_true
abbrev Q6:=@List.map_cons
abbrev Q7:=@PySem.wpAny_call_entry
abbrev Q8:=@List.getElem?_append_left
abbrev Q9:=@List.mem_append_left
abbrev Ra:=@List.not_mem_nil
abbrev Rb:=@PySem.wpAny_newObj_type
abbrev Rc:=@PySem.wpAny_callSpecial?_slot
abbrev Rf:=@PySem.Heap.size_push
abbrev Rg:=@decide_eq_true
abbrev Rh:=@Array.getElem?_toList
abbrev Ri:=@PySem.wpAny_holding
abbrev Rj:=@decide_eq_true_eq
abbrev Rk:=@List.getElem?_append_right
abbrev Rm:=@decide_eq_false
abbrev Ro:=@PySem.W.mg_none_of
abbrev Rp:=@PySem.wpAny_ite_split
abbrev Rq:=@PyProof.Rows.ReadsAll.keeps
abbrev Rr:=@if_true
abbrev Rt:=@List.pairwise_cons
abbrev Rv:=@Classical.byContradiction
abbrev Rx:=@if_false
abbrev Ry:=@PyProof.Rows.slot_tuple_getitem
abbrev Rz:=@Array.getD_eq_getD_getElem?
abbrev RA:=@List.mem_range
abbrev RB:=@PySem.wpAny_Call_Name_kw
abbrev RC:=@Array.getElem?_eq_some_iff
abbrev RD:=@Array.length_toList
abbrev RE:=@List.length_nil
abbrev RF:=@List.drop_eq_getElem_cons
abbrev RG:=@List.getElem?_of_mem
abbrev RH:=@Option.map_eq_some_iff
abbrev RI:=@List.length_replicate
abbrev RJ:=@PySem.wpAny_seqItems
abbrev RK:=@List.drop_of_length_le
abbrev RL:=@PySem.W.kia_one
abbrev RM:=@PyProof.Rows.F.plain_set_update_loop
abbrev RN:=@PySem.mem_of_lookup
abbrev RO:=@PySem.wpAny_mono
abbrev RP:=@List.getElem?_map
abbrev RQ:=@List.length_filter_le
abbrev RS:=@PySem.wpAny_standAt
abbrev RT:=@PyProof.Rows.callWith_type1
abbrev RU:=@PySem.wpAny_field
abbrev RV:=@Nat.zero_le
abbrev RW:=@List.getElem?_set_self
abbrev RX:=@PySem.wpAny_truthy_bool
abbrev RY:=@Nat.lt_succ_of_lt
abbrev RZ:=@of_decide_eq_true
abbrev R0:=@List.mem_filter
abbrev R3:=@List.nodup_cons
abbrev R4:=@PySem.Heap.get?_update_self
abbrev R5:=@List.forIn_cons
abbrev R6:=@PySem.Calls.spliced_cons
abbrev R7:=@List.Pairwise.imp_of_mem
abbrev R8:=@List.set_cons_zero
abbrev R9:=@PySem.sizeLine_eq
abbrev Sa:=@List.lookup_cons
abbrev Sb:=@Nat.le_succ
abbrev Sd:=@List.pairwise_append
abbrev Se:=@List.length_eq_zero_iff
abbrev Sf:=@List.getElem?_cons_zero
abbrev Sg:=@Nat.mul_le_mul
abbrev Sh:=@PySem.wpAny_rule
abbrev Si:=@Int.toNat_natCast
abbrev Sj:=@Option.some.inj
abbrev Sk:=@List.nil_append
abbrev Sl:=@PySem.F.slot_tuple_iterator_next
abbrev Sm:=@List.perm_ext_iff_of_nodup
abbrev Sn:=@Nat.lt_succ_self
abbrev So:=@PyProof.Rows.assignInOrder_cons
abbrev Sr:=@Nat.ne_of_gt
abbrev Ss:=@PySem.wpAny_setField_rec
abbrev Su:=@or_false
abbrev Sv:=@Nat.lt_or_ge
abbrev Sw:=@Array.forIn_toList
abbrev Sx:=@List.take_append_drop
abbrev Sy:=@List.set_cons_succ
abbrev Sz:=@List.pairwise_iff_getElem
abbrev SD:=@Array.mem_toList_iff
abbrev SE:=@List.mem_iff_getElem
abbrev SF:=@PySem.Around.under_plainId
abbrev SG:=@PySem.Calls.spliced_nil
abbrev SH:=@PySem.wpAny_comprehension_free
abbrev SI:=@PySem.wpAny_specialOf
abbrev SJ:=@PySem.Heap.get?_push_ne
abbrev SK:=@PySem.sizeLine_eq
abbrev SM:=@List.filterMap_cons_some
abbrev SN:=@PyProof.Rows.callWith_builtin1
abbrev SO:=@List.getElem?_replicate
abbrev SQ:=@PySem.wpAny_of_eq
abbrev SR:=@Bool.not_true
abbrev SU:=@List.getElem_of_mem
abbrev SV:=@PySem.wpAny_isInstance
abbrev SW:=@List.cons_append
abbrev SX:=@PySem.Heap.get?_update_other
abbrev SY:=@List.mem_filterMap
abbrev S5:=@PySem.tupleKind_room_in1
abbrev S6:=@List.zip_cons_cons
abbrev S7:=@Bool.eq_iff_iff
abbrev S8:=@Bool.or_eq_true
abbrev S9:=@PySem.codeAny_builtin
abbrev Ta:=@PySem.F.called_set
abbrev Tb:=@Option.some.injEq
abbrev Tc:=@PySem.F.slot_tuple_hash
abbrev Td:=@List.nodup_append
abbrev Te:=@List.pairwise_map
abbrev Tf:=@PySem.W.mg_of
abbrev Tg:=@List.getElem?_set_ne
abbrev Th:=@List.mem_of_mem_take
abbrev Ti:=@List.forIn_nil
abbrev Tj:=@PyProof.Rows.F.entry_set_update_loop
abbrev Tn:=@PySem.Heap.size_update
abbrev To:=@PySem.wpAny_askSetting
abbrev Tp:=@Ne.symm
abbrev Tq:=@PySem.Heap.SameBut.update
abbrev Tr:=@beq_eq_false_iff_ne
abbrev Ts:=@PySem.F.slot_dict_eq_refl
abbrev Tt:=@Int.toNat_of_nonneg
abbrev Tu:=@Nat.le_of_lt
abbrev Tv:=@PySem.F.args_tuple_add_2
abbrev Tw:=@PySem.call_meets
abbrev Tx:=@PySem.SetTable.toList_insertAt
abbrev Tz:=@PySem.wpAny_pyIter_tuple
abbrev TB:=@PySem.wpAny_passesOwn
abbrev TC:=@PySem.F.entry_tuple_add
abbrev TF:=@PySem.wpAny_attempt
abbrev TH:=@List.getElem?_cons_succ
abbrev TJ:=@Int.emod_nonneg
abbrev TK:=@List.pairwise_iff_forall_sublist
abbrev TL:=@PySem.W.cellsFrom_some
abbrev TM:=@PySem.F.slot_tuple_add
abbrev TN:=@PySem.wpAny_load
abbrev TQ:=@List.eraseIdx_eq_take_drop_succ
abbrev TR:=@PySem.Heap.SameBut.refl
abbrev TU:=@PySem.wpAny_setEpoch_of
abbrev TV:=@PySem.wpAny_pyIter_slot
abbrev TX:=@PySem.wpAny_bindName
abbrev TY:=@Bool.false_and
abbrev TZ:=@congrArg
abbrev T3:=@PySem.codeAny_mono
abbrev T4:=@PySem.wpAny_typeOf
abbrev T5:=@PySem.F.slot_dict_get
abbrev T6:=@PySem.F.slot_tuple_lt
abbrev T7:=@List.map_nil
abbrev T8:=@List.set_append_right
abbrev T9:=@Nat.le_add_right
abbrev Ua:=@Option.getD_some
abbrev Ub:=@PySem.SeqAt.eqAt_reads
abbrev Uc:=@PySem.wpAny_updateSeq_pair
abbrev Ud:=@PySem.plainId_quiet
abbrev Ue:=@Nat.mod_lt
abbrev Ug:=@List.append_nil
abbrev Uh:=@List.of_mem_zip
abbrev Ui:=@Option.map_some
abbrev Uj:=@PySem.F.slot_zip_next
abbrev Uk:=@PySem.F.slot_tuple_eq
abbrev Ul:=@PySem.Heap.dictOf_iff
abbrev Um:=@PySem.wpAny_setEntries_of
abbrev Uo:=@List.map_map
abbrev Uq:=@PySem.Reads.unique
abbrev Ur:=@decide_eq_true_iff
abbrev Us:=@Int.emod_lt_of_pos
abbrev Ut:=@PySem.wpAny_Name
abbrev Uu:=@Option.isSome_map
abbrev Uv:=@List.flatMap_cons
abbrev Uw:=@List.set_comm
abbrev Ux:=@List.any_cons
abbrev Uy:=@List.length_take
abbrev Uz:=@List.length_drop
abbrev UA:=@List.any_eq_true
abbrev UB:=@List.getElem_mem
abbrev UC:=@getElem?_pos
abbrev UD:=Value → Shared → Prop
abbrev UE:=List (Addr × Obj)
abbrev UG:=List (PyData × PyData)
abbrev UH:=Array (Int × Value)
abbrev UI:=Str → Option Value
abbrev UJ:=List PyData
abbrev UK:=List Addr
abbrev UL:=List Value
abbrev UM:=PySem.W.Frag
abbrev UN:=List Str
abbrev UO:=List Expr
abbrev UP:=Array (Option Value)
abbrev UQ:=Array DictEntry
abbrev UR:=Array Value
abbrev US:=Array Nat
abbrev UT:=Program
abbrev UU:=SetTable
abbrev UW:=Around
abbrev UX:=Shared
end PySem
noncomputable section
set_option compiler.extract_closed false
set_option Elab.async false
set_option linter.all false
set_option maxRecDepth 100000
namespace L2
open PySem PySem.Spec PyProof.Rows
abbrev Key:=Sum Int Str
def rC:Key->Value->Bool
 |.inl k,v=>Value.isInt k v
 |.inr x,v=>Value.isStrOf x v
def N4(w:World):Key->Int
 |.inl k=>hashInt k
 |.inr x=>hashStr w x
theorem cj:∀{k:Key} {v:Value},rC k v=true->(∃i t,k=Sum.inl i/\v=Value.int i t)\/(∃x t,k=Sum.inr x/\v=Value.str x t)
 |.inl i,v,h=>by
  obtain⟨t,e⟩:=Value.isInt_shape h
  simp_all
 |.inr x,v,h=>by obtain⟨t,e⟩:=Value.isStrOf_shape h;exact .inr ⟨x,t,rfl,e⟩
theorem CA(i:Int)(t:Tok):rC (.inl i) (.int i t)=true:=by simp[rC,Value.isInt]
theorem CB(x:Str)(t:Tok):rC (.inr x) (.str x t)=true:=by simp[rC,Value.isStrOf]
theorem Jn(a b:Int):decide ((Sum.inl a:Key)=Sum.inl b)=(a==b):=by
 grind
theorem Jo(a b:Str):decide ((Sum.inr a:Key)=Sum.inr b)=decide (a=b):=by
 grind
theorem Jp(a:Int)(b:Str):decide ((Sum.inl a:Key)=Sum.inr b)=false:=Rm (λq=>nomatch q)
theorem Jq(a:Str)(b:Int):decide ((Sum.inr a:Key)=Sum.inl b)=false:=Rm (λq=>nomatch q)
noncomputable def bJ(prog:UT)(w:World):PySem.KeyKind prog w Key where
 is:=rC
 hash:=N4 w
 inj:=λv a b ha hb=>by
  rcases cj ha with⟨i,t,rfl,rfl⟩|⟨x,t,rfl,rfl⟩
  ·rcases cj hb with⟨j,u,rfl,e⟩|⟨y,u,rfl,e⟩
   ·injection e with e1 _;rw[e1]
   ·exact nomatch e
  ·rcases cj hb with⟨j,u,rfl,e⟩|⟨y,u,rfl,e⟩
   ·exact nomatch e
   ·injection e with e1 _;rw[e1]
 byValue:=λk v h=>by rcases cj h with⟨i,t,rfl,rfl⟩|⟨x,t,rfl,rfl⟩<;>rfl
 pyHash:=λhv h=>by
  rcases cj hv with⟨i,t,rfl,rfl⟩|⟨x,t,rfl,rfl⟩
  ·exact wpAny_pyHash_int h
  ·exact wpAny_pyHash_str h
 eqBool:=λhu hv h=>by
  rcases cj hu with⟨i,t,rfl,rfl⟩|⟨x,t,rfl,rfl⟩
  ·rcases cj hv with⟨j,u,rfl,rfl⟩|⟨y,u,rfl,rfl⟩
   ·rw[Jn]at h;exact wpAny_eqBool_int h
   ·rw[Jp]at h;exact SeqAt.EqAt.int_str i t y u _ _ _ _ h
  ·rcases cj hv with⟨j,u,rfl,rfl⟩|⟨y,u,rfl,rfl⟩
   ·rw[Jq]at h;exact SeqAt.EqAt.str_int x t j u _ _ _ _ h
   ·rw[Jo]at h;exact wpAny_eqBool_str h
 «strs» := λk x t v h=>by
  rcases cj h with⟨i,u,rfl,e⟩|⟨y,u,rfl,e⟩
  ·exact nomatch e
  ·injection e with e1 _;subst e1;cases v<;>rfl
theorem xZ(prog:UT)(w:World)(i:Int)(t:Tok):(bJ prog w).is (.inl i) (.int i t)=true:=CA i t
theorem x5(prog:UT)(w:World)(x:Str)(t:Tok):(bJ prog w).is (.inr x) (.str x t)=true:=CB x t
inductive V where
 |non|bl (b:Bool)|int (i:Int)|str (x:Str)|byt (b:Array UInt8)|flt (b:UInt64)|ref (a:Addr)|ty (n:String)
 deriving DecidableEq
noncomputable def RelV:V->Value->Prop
 |.non,u=>u=Value.none
 |.bl b,u=>u=Value.bool b
 |.int i,u=>∃t,u=Value.int i t
 |.str x,u=>∃t,u=Value.str x t
 |.byt b,u=>∃t,u=Value.bytes b t
 |.flt b,u=>∃t,u=Value.float b t
 |.ref a,u=>u=Value.ref a
 |.ty n,u=>u=Value.type n
abbrev Vals:List V->UL->Prop:=Paired RelV
theorem Vals.length(r:Vals xs us):xs.length=us.length:=Q0 r
theorem Vals.get:∀{xs:List V} {us:UL} {i:Nat} {x:V},Vals xs us->xs[i]?=some x->∃u,us[i]?=some u/\RelV x u
 |_,_,_,_,.nil,e=>by simp at e
 |_,_,0,_,.cons r _,e=>by grind
 |_,_,i+1,x,.cons _ t,e=>by
  obtain⟨u,h1,h2⟩:=Vals.get (i:=i) (x:=x) t (by simp_all)
  simp_all
theorem Vals.set(r:RelV x u):∀{xs:List V} {us:UL} (i:Nat),Vals xs us->Vals (xs.set i x) (us.set i u)
 |_,_,_,.nil=>.nil
 |_,_,0,.cons _ t=>.cons r t
 |_,_,i+1,.cons q t=>.cons q (Vals.set r i t)
theorem Vals.append:∀{xs ys:List V} {us ws:UL},Vals xs us->Vals ys ws->Vals (xs++ys) (us++ws)
 |_,_,_,_,.nil,s=>s
 |_,_,_,_,.cons r t,s=>.cons r (Vals.append t s)
theorem Vals.take:∀{xs:List V} {us:UL} (n:Nat),Vals xs us->Vals (xs.take n) (us.take n)
 |_,_,0,_=>.nil
 |_,_,_+1,.nil=>.nil
 |_,_,n+1,.cons r t=>.cons r (Vals.take n t)
theorem Vals.drop:∀{xs:List V} {us:UL} (n:Nat),Vals xs us->Vals (xs.drop n) (us.drop n)
 |_,_,0,r=>r
 |_,_,_+1,.nil=>.nil
 |_,_,n+1,.cons _ t=>Vals.drop n t
def pb:Option V->Option Value->Prop
 |some v,some u=>RelV v u
 |none,none=>True
 |_,_=>False
def KV{κ:Type}:List (κ×V)->List (κ×Value)->Prop:=Paired λ(p:κ×V) (q:κ×Value)=>p.1=q.1/\RelV p.2 q.2
def kV:Key->V
 |.inl i=>.int i
 |.inr x=>.str x
inductive HO where
 |lst (xs:List V)
 |tup (xs:List V)
 |dK (kvs:List (Key×V))|dT (kvs:List (List Key×V))
 |set (S:Int->Bool) (n:Nat)
 |ins (C dx:Addr) (fs:List (Str×V))
 |own (x:Addr)
 |xd (fs:List (Str×V))
 |met (f x:Addr)
 |rng (lo hi:Int)
 |frz (o:Obj) (u:HO)
 |tbl (ps:UR)
 |ext (φ:Heap->Prop)
abbrev Hp:=Addr->Option HO
def upd(H:Hp)(a:Addr)(o:HO):Hp:=λb=>if b=a then some o else H b
theorem aZ:upd H a o a=some o:=by grind[upd]
theorem ay(h:b≠a):upd H a o b=H b:=by simp[upd,h]
theorem LY{H:Hp}(h:H a=some o)(h':H b=some u)(d:o≠u):a≠b:=by
 grind
theorem aF{H:Hp}(h:H a=some o)(h':H b=none):a≠b:=by
 grind
section
variable (P:UT) (w:World)
noncomputable def cC(H:Hp)(h:Heap)(a:Addr):HO->Prop
 |.lst xs=>xs.length<=sizeLine/\∃(its:UL) (n:Nat),Vals xs its/\h.get? a=some {cls:=.type "list",data:=.seq its.toArray n}
 |.tup xs=>xs.length<=sizeLine/\∃its:UL,Vals xs its/\IsTup h a its.toArray
 |.dK kvs=>kvs.length<=sizeLine/\(a==sysModules)=false/\∃vs,KV kvs vs/\h.DictOf (bJ P w) a vs
 |.dT kvs=>kvs.length<=sizeLine/\(a==sysModules)=false/\∃xs:List (List Key×Addr×Value),
   Paired (λ(p:List Key×V) (q:List Key×Addr×Value)=>p.1=q.1/\H q.2.1=some (.tup (p.1.map kV))/\RelV p.2 q.2.2) kvs xs /\
   ∃o es ep,h.get? a=some o/\o.ExactDict/\o.data=.dict es ep/\es.toList=xs.map (entryOfKey (tupleKind (bJ P w)))/\(xs.map (·.1)).Nodup
 |.set S n=>h.SetOf (intKind P w) a S n
 |.ins C dx fs=>H dx=some (.own a)/\fs.length<=1000/\dx≠a/\h.get? a=some (PySem.W.instObj C dx) /\
   ∃mA,h.Ns1 dx mA/\(∀f,pb (fs.lookup f) (mA f))/\PySem.Within mA (fs.map (·.1))
 |.own _=>∃o,h.get? a=some o
 |.xd fs=>∃mA,h.Ns1 a mA/\∀f,pb (fs.lookup f) (mA f)
 |.rng lo hi=>∃t u v,h.get? a=some {cls:=.type "range",data:=.fields #[.int lo t,.int hi u,.int 1 v]}
 |.frz o u=>h.get? a=some o/\cC H h a u
 |.tbl ps=>h.get? a=some {cls:=.none,data:=.fields ps}
 |.met f x=>h.get? a=some (PySem.W.methodObj (.ref f) (.ref x))
 |.ext φ=>φ h/\(∃o,h.get? a=some o)/\∀h1 h2:Heap,φ h1->(∀o,h1.get? a=some o->h2.get? a=some o)->φ h2
def kH(H:Hp)(h:Heap):Prop:=∀a o,H a=some o->cC P w H h a o
end
section
variable {P:UT} {w:World} {H H':Hp} {h h':Heap} {a:Addr} {o:HO}
theorem cC.lt(x:cC P w H h a o):a<h.objs.size:=by
 cases o with
 |lst xs=>obtain⟨_,_,_,_,e⟩:=x;exact QF e
 |tup xs=>obtain⟨_,_,_,p⟩:=x;exact p.lt
 |dK kvs=>obtain⟨_,_,_,_,o,_,_,e,_⟩:=x;exact QF e
 |dT kvs=>obtain⟨_,_,_,_,o,_,_,e,_⟩:=x;exact QF e
 |set S n=>obtain⟨o,_,_,_,e,_⟩:=x;exact QF e
 |ins C dx fs=>obtain⟨_,_,_,e,_⟩:=x;exact QF e
 |own y=>obtain⟨_,e⟩:=x;exact QF e
 |xd fs=>obtain⟨_,⟨_,_,_,e,_⟩,_⟩:=x;exact QF e
 |rng lo hi=>obtain⟨_,_,_,e⟩:=x;exact QF e
 |frz ob u=>obtain⟨e,_⟩:=x;exact QF e
 |tbl ps=>exact QF x
 |met f y=>exact QF x
 |ext φ=>obtain⟨_,⟨_,e⟩,_⟩:=x;exact QF e
theorem Paired.mF:∀{l₁:List α} {l₂:List β},Paired F l₁ l₂->(∀a b,F a b->G a b)->Paired G l₁ l₂
 |_,_,.nil,_=>.nil
 |_,_,.cons r t,f=>.cons (f _ _ r) (Paired.mF t f)
theorem cC.qP(x:cC P w H h a o)(k:∀b u,(b=a\/H b=some (.own a))->h.get? b=some u->h'.get? b=some u)
 (ho:∀b,H b=some (.own a)->H' b=some (.own a))(ht:∀b xs,H b=some (.tup xs)->H' b=some (.tup xs)):cC P w H' h' a o:=by
 induction o with
 |lst xs=>obtain⟨z,its,n,r,e⟩:=x;exact⟨z,its,n,r,k _ _ (.inl rfl) e⟩
 |tup xs=>obtain⟨z,its,r,ob,e,c⟩:=x;exact⟨z,its,r,ob,k _ _ (.inl rfl) e,c⟩
 |dK kvs=>obtain⟨z,y,vs,r,ob,es,ep,e,c⟩:=x;exact⟨z,y,vs,r,ob,es,ep,k _ _ (.inl rfl) e,c⟩
 |dT kvs=>obtain⟨z,y,xs,r,ob,es,ep,e,c⟩:=x;exact⟨z,y,xs,Paired.mF r λp q z=>⟨z.1,ht _ _ z.2.1,z.2.2⟩,ob,es,ep,k _ _ (.inl rfl) e,c⟩
 |set S n=>obtain⟨ob,es,ep,t,e,c⟩:=x;exact⟨ob,es,ep,t,k _ _ (.inl rfl) e,c⟩
 |ins C dx fs=>obtain⟨d,z,ne,e,mA,⟨od,es,ep,e2,c⟩,r⟩:=x;exact⟨ho _ d,z,ne,k _ _ (.inl rfl) e,mA,⟨od,es,ep,k _ _ (.inr d) e2,c⟩,r⟩
 |own y=>obtain⟨ob,e⟩:=x;exact⟨ob,k _ _ (.inl rfl) e⟩
 |xd fs=>obtain⟨mA,⟨od,es,ep,e,c⟩,r⟩:=x;exact⟨mA,⟨od,es,ep,k _ _ (.inl rfl) e,c⟩,r⟩
 |rng lo hi=>obtain⟨t,u,v,e⟩:=x;exact⟨t,u,v,k _ _ (.inl rfl) e⟩
 |frz ob u ih=>obtain⟨e,q⟩:=x;exact⟨k _ _ (.inl rfl) e,ih q⟩
 |tbl ps=>have e:h.get? a=some {cls:=.none,data:=.fields ps}:=x;show h'.get? a=some {cls:=.none,data:=.fields ps};exact k a _ (.inl rfl) e
 |met f y=>have e:h.get? a=some (PySem.W.methodObj (.ref f) (.ref y)):=x;show h'.get? a=some (PySem.W.methodObj (.ref f) (.ref y));exact k a _ (.inl rfl) e
 |ext φ=>obtain⟨p,⟨o,e⟩,st⟩:=x;exact⟨st _ _ p λo q=>k _ _ (.inl rfl) q,⟨o,k _ _ (.inl rfl) e⟩,st⟩
theorem kH.lt(x:kH P w H h)(e:H a=some o):a<h.objs.size:=(x a o e).lt
theorem kH.fresh(x:kH P w H h)(e:h.objs.size<=a):H a=none:=by
 cases q:H a with
 |none=>rfl
 |some u=>exact absurd (QH (x.lt q) e) (QU _)
theorem kH.kept(x:kH P w H h)(k:∀b u,h.get? b=some u->h'.get? b=some u):kH P w H h':=λa o e=>
 (x a o e).qP (λb u _ q=>k b u q) (λ_ q=>q) λ_ _ q=>q
theorem kH.laid(x:kH P w H h)(k:∀b u,h.get? b=some u->h'.get? b=some u)(hp:h.objs.size<=a)(new:cC P w (upd H a o) h' a o):kH P w (upd H a o) h':=λb u e=>by
 have hn:=x.fresh hp;by_cases hb:b=a
 ·grind[aZ]
 ·rw[ay hb]at e;exact(x b u e).qP (λc v _ q=>k c v q) (λc q=>by rw[ay (aF q hn)];exact q) λc xs q=>by rw[ay (aF q hn)];exact q
end
def Rd(H:Hp)(a:Addr)(u:HO):Prop:=H a=some u\/∃o,H a=some (.frz o u)
theorem Rd.ok(r:Rd H a u)(x:kH P w H h):cC P w H h a u:=by
 rcases r with r|⟨o,r⟩
 ·exact x a u r
 ·obtain⟨_,q⟩:=x a _ r;exact q
def LG:Option HO->Prop
 |some (.lst _)=>True
 |some (.dK _)=>True
 |some (.dT _)=>True
 |some (.set _ _)=>True
 |some (.ins _ _ _)=>True
 |some (.ext _)=>True
 |_=>False
section
variable {P:UT} {w:World} {H:Hp} {h h':Heap} {x e:Addr} {o':HO}
theorem kH.write(ok:kH P w H h)(mu:LG (H x))(he:e=x\/H e=some (.own x))(k:∀b u,b≠e->h.get? b=some u->h'.get? b=some u)(heo:∃u,h'.get? e=some u)
 (new:cC P w (upd H x o') h' x o'):kH P w (upd H x o') h':=λb u q=>by
 have nown:∀c y,H c=some (.own y)->c≠x:=λc y r z=>by subst z;rw[r]at mu;exact mu
 have ntup:∀c xs,H c=some (.tup xs)->c≠x:=λc xs r z=>by subst z;rw[r]at mu;exact mu
 by_cases hb:b=x
 ·grind[aZ]
 ·rw[ay hb]at q;by_cases hbe:b=e
  ·have q':H b=some (.own x):=by
    rcases he with z|z
    ·exact absurd (hbe.trans z) hb
    ·rw[hbe];exact z
   rw[q]at q';cases q';obtain⟨v,hv⟩:=heo;exact⟨v,by rw[hbe];exact hv⟩
  ·refine(ok b u q).qP (λc v hc r=>k c v ?_ r) (λc r=>by rw[ay (nown c b r)];exact r) λc xs r=>by rw[ay (ntup c xs r)];exact r
   rcases hc with rfl|hc
   ·exact hbe
   ·rintro rfl;rcases he with z|z
    ·exact nown c b hc z
    ·rw[hc]at z;cases z;exact hb rfl
end
structure Un(fs ex:UK)(H H':Hp)(h h':Heap):Prop where
 keep:∀b o,h.get? b=some o->H b=none->b∉fs->b∉ex->h'.get? b=some o
 slot:∀b o,h.get? b=some o->H b=none->b∈fs->b∉ex->∃sl,h'.get? b=some {o with slots:=sl}
 free:∀b o,h.get? b=some o->H b=none->b∉ex->H' b=none
 there:∀b o,h.get? b=some o->b∉ex->∃o',h'.get? b=some o'
 tups:∀b xs,H b=some (.tup xs)->H' b=some (.tup xs)
 frzs:∀b o u,H b=some (.frz o u)->H' b=some (.frz o u)
 tbls:∀b ps,H b=some (.tbl ps)->∃more,H' b=some (.tbl (ps++more))
section
variable {fs fs' ex ex':UK} {H H1 H2:Hp} {h h1 h2 h':Heap} {a x e:Addr} {o:HO}
theorem Un.any(u:Un fs ex H H1 h h1)(q:h.get? b=some ob)(n:H b=none)(hx:b∉ex):∃sl,h1.get? b=some {ob with slots:=sl}:=by
 by_cases hb:b∈fs
 ·exact u.slot b ob q n hb hx
 ·exact⟨ob.slots,u.keep b ob q n hb hx⟩
theorem Un.kept(k:∀b u,h.get? b=some u->h'.get? b=some u):Un fs ex H H h h':=
 ⟨λb ob q _ _ _=>k b ob q,λb ob q _ _ _=>⟨ob.slots,k b ob q⟩,λ_ _ _ n _=>n,λb ob q _=>⟨ob,k b ob q⟩,λ_ _ q=>q,λ_ _ _ q=>q,λ_ ps q=>⟨#[],by grind⟩⟩
theorem Un.refl:Un fs ex H H h h:=Un.kept λ_ _ q=>q
theorem Un.laid(k:∀b u,h.get? b=some u->h'.get? b=some u)(hp:h.objs.size<=a)(hn:H a=none):Un fs ex H (upd H a o) h h' where
 keep:=λb u q _ _ _=>k b u q
 slot:=λb u q _ _ _=>⟨u.slots,k b u q⟩
 free:=λb u q n _=>by rw[ay (QQ (QH (QF q) hp))];exact n
 there:=λb u q _=>⟨u,k b u q⟩
 tups:=λb xs q=>by rw[ay (aF q hn)];exact q
 frzs:=λb u xs q=>by rw[ay (aF q hn)];exact q
 tbls:=λb ps q=>⟨#[],by rw[ay (aF q hn),q];simp⟩
theorem Un.write(mu:LG (H x))(he:e=x\/H e=some (.own x))(k:∀b u,b≠e->h.get? b=some u->h'.get? b=some u)(heo:∃u,h'.get? e=some u):Un fs ex H (upd H x o) h h':=by
 have hx:∀b,H b=none->b≠x:=λb n z=>by subst z;rw[n]at mu;exact mu
 have hb:∀b,H b=none->b≠e:=λb n z=>by
  grind
 have hm:∀b u,H b=some u->¬ LG (some u)->b≠x:=λb u q nm z=>by grind
 refine⟨λb u q n _ _=>k b u (hb b n) q,λb u q n _ _=>⟨u.slots,k b u (hb b n) q⟩,λb u q n _=>by rw[ay (hx b n)];exact n,λb u q _=>?_,
  λb xs q=>by rw[ay (hm b _ q λz=>z)];exact q,λb u xs q=>by rw[ay (hm b _ q λz=>z)];exact q,λb ps q=>⟨#[],by rw[ay (hm b _ q λz=>z),q];simp⟩⟩
 grind
end
def DL(h:Heap)(H:Hp):UK:=(List.range h.objs.size).filter λa=>(H a).isSome
def wc(h:Heap)(H:Hp):Heap:=PySem.W.hideAll h (DL h H)
theorem CC(h:Heap)(H:Hp):(wc h H).objs.size=h.objs.size:=PySem.W.hideAll_size _ _
theorem DM(e:h.get? b=some o)(n:H b=none):(wc h H).get? b=some o:=
 PySem.W.hideAll_get _ e λhm=>by
  have q  := (R0.mp hm).2
  grind
theorem Gv(e:(wc h H).get? b=some o):h.get? b=some o/\H b=none:=by
 have e'  := PySem.W.of_hideAll _ e;refine⟨e',?_⟩
 cases q:H b with
 |none=>rfl
 |some x=>
  have hm:b∈DL h H:=R0.mpr ⟨RA.mpr (QF e'),by simp[q]⟩;have z:(wc h H).get? b=none:=PySem.W.hideAll_none _ hm
  grind
def Gw(g h:Heap)(L:Addr):UE:=(List.range h.objs.size).filterMap λa=>if a=L\/(g.get? a).isSome=true then none else(h.get? a).map λo=>(a,o)
def rest(g h:Heap)(L d:Addr):UE:=(Gw g h L).filter λp=>decide (p.1≠d)
structure Mod(K:UM)(mg:UI)(base:Heap):Prop where
 kin:K.In base
 glob:base.Ns mainGlobals mg
 blt:∃mb,base.Ns builtinsNs mb/\∀x:Str,x ≠ "__name__" -> mb x=bootBuiltins x
 nolimit:base.NoLimit
structure Cx where
 prog:UT
 w:World
 K:UM
 mg:Str->Option Value
 base:Heap
 A:UW
 N:UN
 s₀:UX
 H₀:Hp
 env:Env
 outer:List Env
 stack:List Env
 ex:UK
 fn:Str->Bool
 calm:Bool
 pn:UE
 xe:UD
def uj(l:List Env):UK:=l.filterMap (·.frame)
abbrev Cx.fs(X:Cx):UK:=uj X.outer
def IB(sc:Scope)(x:Str):Prop:=sc.names.lookup x=some .local\/sc.names.lookup x=some .cell\/sc.names.lookup x=some .free
def Loc(sc:Scope)(x:Str):Prop:=sc.names.lookup x=some .local\/sc.names.lookup x=some .cell
def Look(env:Env)(h:Heap)(m:UI)(x:Str)(u:Value):Prop:=
 (env.kindOf x=some .local/\m x=some u)\/((env.kindOf x=some .cell\/env.kindOf x=some .free)/\∃c,env.cells.lookup x=some c/\h.IsCell c (some u))
structure Cx.Ok(X:Cx):Prop where
 mod:Mod X.K X.mg X.base
 kind:X.env.scope.kind=.function
 glob:X.env.globals=mainGlobals
 blt:X.env.builtins=builtinsNs
 above:X.s₀.heap.objs.size<=X.env.locals
 inj:∀x y c,X.env.cells.lookup x=some c->X.env.cells.lookup y=some c->x=y
 has:∀x,(X.env.kindOf x=some .cell\/X.env.kindOf x=some .free)->∃c,X.env.cells.lookup x=some c
 cab:∀x c,X.fn x=true->X.env.cells.lookup x=some c->X.s₀.heap.objs.size<=c
 hd:X.calm=true->X.A.handled=none
 frames:X.A.frames=some X.stack
 stk:X.stack=X.outer\/(X.stack=X.env::X.outer/\X.env.frame=some X.env.locals)
 exf:∀b∈X.ex,b≠X.env.locals/\∀x c,X.env.cells.lookup x=some c->c≠b
 bs:∀b o,X.base.get? b=some o->X.s₀.heap.get? b=some o/\X.H₀ b=none
 bsz:X.base.objs.size<=X.s₀.heap.objs.size
 noex:∀b o,X.base.get? b=some o->b∉X.ex
 exfs:∀b∈X.ex,b∉X.fs
 pe:X.s₀.heap.FunFrames X.base X.outer
 frf:∀b∈X.fs,X.H₀ b=none
structure Inv(X:Cx)(pins:UE)(σ:List (Option V))(H:Hp)(s:UX):Prop where
 ok:X.Ok
 os:s.os=X.s₀.os
 bare:AllBare s.gens
 base:Un X.fs X.ex X.H₀ H X.s₀.heap s.heap
 loc:∃m,s.heap.Ns X.env.locals m/\∀(i:Nat) (x:Str) (v:V),X.N[i]?=some x->σ[i]?=some (some v)->IB X.env.scope x->∃u,RelV v u/\Look X.env s.heap m x u
 cell:∀x c,X.env.cells.lookup x=some c->∃v,s.heap.IsCell c v
 free:H X.env.locals=none
 freeC:∀x c,X.env.cells.lookup x=some c->H c=none
 pin:∀p∈X.pn++pins,s.heap.get? p.1=some p.2/\H p.1=none/\p.1≠X.env.locals/\p.1∉X.fs/\∀v,p.2.data≠.cell v
 hok:kH X.prog X.w H s.heap
 len:σ.length=X.N.length
section
variable {X:Cx} {pins:UE} {σ:List (Option V)} {H H':Hp} {s:UX} {h':Heap}
theorem Cx.Ok.N5(ok:X.Ok)(e:X.base.get? b=some o):b∉X.fs:=λhb=>by
 have:=(ok.pe.mem hb).1
 grind
theorem Inv.bs(I:Inv X pins σ H s):∀b o,X.base.get? b=some o->s.heap.get? b=some o/\H b=none:=λb o e=>
 ⟨I.base.keep b o (I.ok.bs b o e).1 (I.ok.bs b o e).2 (I.ok.N5 e) (I.ok.noex b o e),I.base.free b o (I.ok.bs b o e).1 (I.ok.bs b o e).2 (I.ok.noex b o e)⟩
theorem Inv.bk(I:Inv X pins σ H s):∀b o,X.base.get? b=some o->s.heap.get? b=some o:=λb o e=>(I.bs b o e).1
theorem Inv.mod(I:Inv X pins σ H s):Mod X.K X.mg X.base:=I.ok.mod
theorem Inv.uk(I:Inv X pins σ H s):X.K.In s.heap:=I.ok.mod.kin.keeps I.bk
theorem Inv.lt(I:Inv X pins σ H s):X.env.locals<s.heap.objs.size:=let ⟨_,hn,_⟩:=I.loc;hn.lt
theorem Inv.sz(I:Inv X pins σ H s):X.s₀.heap.objs.size<=s.heap.objs.size:=QM I.ok.above (Tu I.lt)
theorem Inv.zN(I:Inv X pins σ H s){a:Addr}(h:s.heap.objs.size<=a):a∉X.fs:=λhb=>by obtain⟨_,o,ho,_⟩:=I.ok.pe.mem hb;exact absurd (QH (QF ho) (QM I.sz h)) (QU _)
theorem Inv.Jr(I:Inv X pins σ H s):∀x c,X.env.cells.lookup x=some c->c≠X.env.locals:=λx c e z=>by
 obtain⟨v,o,ho,hd⟩:=I.cell x c e;obtain⟨m,⟨o',es,ep,ho',hd',_⟩,_⟩:=I.loc
 grind
theorem Inv.pe(I:Inv X pins σ H s):s.heap.FunFrames X.base X.outer:=by
 have all:∀(l:List Env),(∀b∈uj l,b∈X.fs)->X.s₀.heap.FunFrames X.base l->s.heap.FunFrames X.base l:=by
  intro l
  induction l with
  |nil=>intro _ _;trivial
  |cons env r ih=>intro hs hl;obtain⟨hk,⟨L,o,hf,hn,ho,hd⟩,hr⟩:=hl;have hL  := hs L (by simp_all[uj]);obtain⟨sl,e⟩:=I.base.slot L o ho (I.ok.frf L hL) hL λz=>I.ok.exfs L z hL;exact⟨hk,⟨L,_,hf,hn,e,hd⟩,ih (λb hb=>hs b (by simp_all[uj])) hr⟩
 exact all X.outer (λ_ hb=>hb) I.ok.pe
theorem Inv.stack(I:Inv X pins σ H s):s.heap.FunFrames X.base X.stack:=by
 rcases I.ok.stk with e|⟨e,hf⟩
 ·rw[e];exact I.pe
 ·rw[e];obtain⟨m,hn,_⟩:=I.loc;refine .cons (by grind[I.ok.kind]) hf hn ?_ I.pe;exact Heap.get?_none_of_le (QM I.ok.bsz I.ok.above)
theorem Inv.jf(I:Inv X pins σ H s):∀b∈uj X.stack,b∈X.env.locals::X.fs:=λb hb=>by
 rcases I.ok.stk with e|⟨e,hf⟩
 ·grind
 simp_all[uj]
theorem Inv.Be(I:Inv X pins σ H s):∀b∈uj X.stack,H b=none:=λb hb=>by
 rcases QK.mp (I.jf b hb)with e|hb
 ·rw[e];exact I.free
 ·obtain⟨_,o,ho,_⟩:=I.ok.pe.mem hb;exact I.base.free b o ho (I.ok.frf b hb) λz=>I.ok.exfs b z hb
theorem Inv.step{ch:UK}(I:Inv X pins σ H s)
 (hch:∀b∈ch,(b∈X.ex\/X.s₀.heap.objs.size<=b)/\b≠X.env.locals/\(∀x c,X.env.cells.lookup x=some c->c≠b)/\∀p∈X.pn++pins,p.1≠b)
 (keep:∀b o,b≠X.env.locals->b∉X.fs->b∉ch->s.heap.get? b=some o->H b=none->h'.get? b=some o)
 (slot:∀b o,b≠X.env.locals->b∈X.fs->b∉ch->s.heap.get? b=some o->H b=none->∃sl,h'.get? b=some {o with slots:=sl})(free:∀b o,b∉ch->s.heap.get? b=some o->H b=none->H' b=none)
 (there:∀b o,b∉ch->s.heap.get? b=some o->∃o',h'.get? b=some o')
 (tups:∀b xs,H b=some (.tup xs)->H' b=some (.tup xs))(frzs:∀b o u,H b=some (.frz o u)->H' b=some (.frz o u))(tbls:∀b ps,H b=some (.tbl ps)->∃more,H' b=some (.tbl (ps++more)))
 (ns:∀m,s.heap.Ns X.env.locals m->h'.Ns X.env.locals m)(hok:kH X.prog X.w H' h')(hg:AllBare g') :
  Inv X pins σ H' {s with heap:=h',gens:=g',drawn:=d',toks:=t'}:=by
 have neL:∀b o,X.s₀.heap.get? b=some o->b≠X.env.locals:=λb o e=>QQ (QH (QF e) I.ok.above)
 have neC:∀b o,X.s₀.heap.get? b=some o->b∉X.ex->b∉ch:=λb o e hx hb=>by
  rcases(hch b hb).1 with z|z
  ·exact hx z
  ·exact absurd (QH (QF e) z) (QU _)
 have cellK:∀x c,X.env.cells.lookup x=some c->∀v,s.heap.IsCell c v->h'.IsCell c v:=λx c e v ⟨o,ho,hd⟩=>by
  have nch:c∉ch:=λz=>(hch c z).2.2.1 x c e rfl;by_cases hc:c∈X.fs
  ·obtain⟨sl,q⟩:=slot c o (I.Jr x c e) hc nch ho (I.freeC x c e);exact⟨_,q,hd⟩
  ·exact⟨o,keep c o (I.Jr x c e) hc nch ho (I.freeC x c e),hd⟩
 refine⟨I.ok,I.os,hg,⟨λb o e n hb hx=>?_,λb o e n hb hx=>?_,λb o e n hx=>?_,λb o e hx=>?_,λb xs e=>tups b xs (I.base.tups b xs e),λb o xs e=>frzs b o xs (I.base.frzs b o xs e),λb ps e=>?_⟩,?_,λx c e=>?_,?_,λx c e=>?_,λp hp=>?_,hok,I.len⟩
 ·exact keep b o (neL b o e) hb (neC b o e hx) (I.base.keep b o e n hb hx) (I.base.free b o e n hx)
 ·obtain⟨sl,e1⟩:=I.base.slot b o e n hb hx;obtain⟨sl',e2⟩:=slot b _ (neL b o e) hb (neC b o e hx) e1 (I.base.free b o e n hx);exact⟨sl',e2⟩
 ·obtain⟨o',e1⟩:=I.base.there b o e hx;exact free b o' (neC b o e hx) e1 (I.base.free b o e n hx)
 ·obtain⟨o',e1⟩:=I.base.there b o e hx;exact there b o' (neC b o e hx) e1
 ·obtain⟨m1,e1⟩:=I.base.tbls b ps e;obtain⟨m2,e2⟩:=tbls b _ e1;exact⟨m1++m2,by rw[e2,Array.append_assoc]⟩
 ·obtain⟨m,hn,hl⟩:=I.loc;refine⟨m,ns m hn,λi x v e1 e2 e3=>?_⟩;obtain⟨u,r,l⟩:=hl i x v e1 e2 e3;refine⟨u,r,?_⟩;rcases l with l|⟨k,c,e,z⟩
  ·exact .inl l
  ·exact .inr ⟨k,c,e,cellK x c e _ z⟩
 ·obtain⟨v,z⟩:=I.cell x c e;exact⟨v,cellK x c e v z⟩
 ·obtain⟨m,⟨o,_,_,ho,_⟩,_⟩:=I.loc;exact free _ o (λz=>(hch _ z).2.1 rfl) ho I.free
 ·obtain⟨v,o,ho,hd⟩:=I.cell x c e;exact free c o (λz=>(hch c z).2.2.1 x c e rfl) ho (I.freeC x c e)
 ·obtain⟨e,n,ne,nf,d⟩:=I.pin p hp;have nch:p.1∉ch:=λz=>(hch p.1 z).2.2.2 p hp rfl;exact⟨keep p.1 p.2 ne nf nch e n,free p.1 p.2 nch e n,ne,nf,d⟩
theorem Inv.un(I:Inv X pins σ H s)(u:Un X.fs [] H H' s.heap h')(hok:kH X.prog X.w H' h'):Inv X pins σ H' {s with heap:=h',toks:=t'}:=by
 obtain⟨m,⟨o,es,ep,ho,r⟩,_⟩:=id I.loc;obtain⟨sl,hL⟩:=u.any ho I.free (by simp)
 exact I.step (ch:=[]) (λ_ z=>nomatch z) (λb o _ hb _ e n=>u.keep b o e n hb (by simp)) (λb o _ hb _ e n=>u.slot b o e n hb (by simp)) (λb o _ e n=>u.free b o e n (by simp)) (λb o _ e=>u.there b o e (by simp)) u.tups u.frzs u.tbls (λm' hm=>by
  obtain⟨o',es',ep',ho',r'⟩:=hm;rw[ho]at ho';cases ho'
  exact⟨_,es',ep',hL,r'⟩) hok I.bare
theorem Inv.call(I:Inv X pins σ H s)(u:Un (uj X.stack) ch H H' s.heap h')(hok:kH X.prog X.w H' h')(hg:AllBare g')
 (hch:∀b∈ch,(b∈X.ex\/X.s₀.heap.objs.size<=b)/\b≠X.env.locals/\(∀x c,X.env.cells.lookup x=some c->c≠b)/\∀p∈X.pn++pins,p.1≠b) :
  Inv X pins σ H' {s with heap:=h',gens:=g',drawn:=d',toks:=t'}:=by
 obtain⟨m,⟨o,es,ep,ho,r⟩,_⟩:=id I.loc;obtain⟨sl,hL⟩:=u.any ho I.free λz=>(hch _ z).2.1 rfl
 exact I.step hch (λb o hL hb hc e n=>u.keep b o e n (λz=>(QK.mp (I.jf b z)).elim hL hb) hc) (λb o _ _ hc e n=>u.any e n hc) (λb o hc e n=>u.free b o e n hc) (λb o hc e=>u.there b o e hc) u.tups u.frzs u.tbls (λm' hm=>by
  obtain⟨o',es',ep',ho',r'⟩:=hm;rw[ho]at ho';cases ho'
  exact⟨_,es',ep',hL,r'⟩) hok hg
theorem Inv.turned(I:Inv X pins σ H s)(k:∀b o,b≠it->s.heap.get? b=some o->h'.get? b=some o)(hn:H it=none)(hL:it≠X.env.locals)
 (h1:it∈X.ex\/X.s₀.heap.objs.size<=it)(h2:∀x c,X.env.cells.lookup x=some c->c≠it)(h3:∀p∈X.pn++pins,p.1≠it):Inv X pins σ H {s with heap:=h',toks:=t'}:=by
 have nit:∀b u,H b=some u->b≠it:=λb u e z=>by grind
 refine I.step (g':=s.gens) (d':=s.drawn) (ch:=[it]) (λb hb=>?_) (λb o _ _ hc e _=>k b o (λz=>hc (by simp[z])) e) (λb o _ _ hc e _=>⟨o.slots,k b o (λz=>hc (by simp[z])) e⟩) (λ_ _ _ _ n=>n)
  (λb o hc e=>⟨o,k b o (λz=>hc (by simp[z])) e⟩) (λ_ _ e=>e) (λ_ _ _ e=>e) (λb ps e=>⟨#[],by grind⟩) (λm hm=>?_) (λb u e=>?_) I.bare
 ·have e:b=it:=by grind
  subst e;exact⟨h1,hL,h2,h3⟩
 ·obtain⟨o,es,ep,ho,r⟩:=hm;exact⟨o,es,ep,k _ o (Tp hL) ho,r⟩
 ·refine(I.hok b u e).qP (λc v hc q=>k c v ?_ q) (λ_ q=>q) λ_ _ q=>q;rcases hc with z|z
  ·rw[z];exact nit b u e
  ·exact nit c _ z
theorem Inv.tok(I:Inv X pins σ H s)(t:Nat):Inv X pins σ H {s with toks:=t}:=I.un (h':=s.heap) (t':=t) Un.refl I.hok
theorem Inv.kept(I:Inv X pins σ H s)(k:∀b u,s.heap.get? b=some u->h'.get? b=some u):Inv X pins σ H {s with heap:=h',toks:=t'}:=I.un (Un.kept k) (I.hok.kept k)
theorem Inv.laid{a:Addr}(I:Inv X pins σ H s)(k:∀b u,s.heap.get? b=some u->h'.get? b=some u)(hp:s.heap.objs.size<=a)(new:cC X.prog X.w (upd H a o) h' a o) :
  Inv X pins σ (upd H a o) {s with heap:=h',toks:=t'}:=I.un (Un.laid k hp (I.hok.fresh hp)) (I.hok.laid k hp new)
theorem Inv.write(I:Inv X pins σ H s)(mu:LG (H x))(he:e=x\/H e=some (.own x))(k:∀b u,b≠e->s.heap.get? b=some u->h'.get? b=some u)(heo:∃u,h'.get? e=some u)
 (new:cC X.prog X.w (upd H x o) h' x o):Inv X pins σ (upd H x o) {s with heap:=h',toks:=t'}:=I.un (Un.write mu he k heo) (I.hok.write mu he k heo new)
theorem Inv.gM(I:Inv X pins σ H s)(h:∀p∈pins',s.heap.get? p.1=some p.2/\H p.1=none/\p.1≠X.env.locals/\p.1∉X.fs/\∀v,p.2.data≠.cell v):Inv X pins' σ H s:=
 ⟨I.ok,I.os,I.bare,I.base,I.loc,I.cell,I.free,I.freeC,λp hp=>(QN.mp hp).elim (λz=>I.pin p (Q9 _ z)) (h p),I.hok,I.len⟩
theorem x6{N:UN}(hN:N.Nodup){i j:Nat}(a:N[i]?=some x)(b:N[j]?=some x):i=j:=by obtain⟨h1,e1⟩:=QV.mp a;obtain⟨h2,e2⟩:=QV.mp b;exact(List.getElem_inj hN).mp (e1.trans e2.symm)
theorem pf(I:Inv X pins σ H s)(hN:X.N.Nodup)(hi:X.N[i]?=some x)(hx:Loc X.env.scope x)(r:RelV v u)
 (h:∀s',Inv X pins (σ.set i (some v)) H s'->(∃a,Heap.SameBut a s.heap s'.heap/\(a=X.env.locals\/X.env.cells.lookup x=some a))->Q () s')(hf:X.fn x=true\/X.env.scope.names.lookup x=some .local:=by first|exact .inl rfl|exact .inr rfl|assumption):wpAny M A (storeName X.env x u) Q E s:=by
 obtain⟨m,hn,hl⟩:=id I.loc;have hcls:(X.env.scope.kind == .class || (X.env.scope.kind == .module&&X.env.locals != X.env.globals))=false:=by rw[I.ok.kind];rfl
 have hiσ:i<σ.length:=by grind[I.len]
 have Jr:=I.Jr
 have tracked:∀{a:Addr} {h':Heap},(∃o,s.heap.get? a=some o/\H a=none)->Heap.SameBut a s.heap h'->kH X.prog X.w H h':=λ{a h'} ha hs b ob e=>by
  obtain⟨_,_,hfree⟩:=ha;refine(I.hok b ob e).qP (λc w' hc q=>(hs.2 c ?_).trans q) (λ_ q=>q) λ_ _ q=>q
  grind
 rcases hx with hk|hk
 ·refine wpAny_storeName_local hk hn (λh' hn' hs=>?_) hcls;obtain⟨oL,_,_,hoL,_⟩:=id hn;refine h _ ⟨I.ok,I.os,I.bare,⟨λb o e n hb hx=>?_,λb o e n hb hx=>?_,I.base.free,λb o e hx=>?_,I.base.tups,I.base.frzs,I.base.tbls⟩,⟨_,hn',λj y v' e1 e2 e3=>?_⟩,λy c e=>?_,I.free,I.freeC,λp hp=>?_,tracked ⟨oL,hoL,I.free⟩ hs,by simpa using I.len⟩ ⟨_,hs,.inl rfl⟩
  ·exact(hs.2 b (QQ (QH (QF e) I.ok.above))).trans (I.base.keep b o e n hb hx)
  ·obtain⟨sl,e1⟩:=I.base.slot b o e n hb hx;exact⟨sl,(hs.2 b (QQ (QH (QF e) I.ok.above))).trans e1⟩
  ·obtain⟨o',e1⟩:=I.base.there b o e hx;exact⟨o',(hs.2 b (QQ (QH (QF e) I.ok.above))).trans e1⟩
  ·by_cases hj:j=i
   ·subst hj;rw[hi]at e1;cases e1;rw[RW hiσ]at e2;cases e2;exact⟨u,r,.inl ⟨hk,by simp⟩⟩
   ·rw[Tg (Tp hj)]at e2;obtain⟨u',r',q⟩:=hl j y v' e1 e2 e3;refine⟨u',r',?_⟩;rcases q with⟨k,e⟩|⟨k,c,e,z⟩
    ·refine .inl ⟨k,?_⟩;have:y≠x:=λe=>hj (x6 hN e1 (e▸hi));simp[this,e]
    ·exact .inr ⟨k,c,e,z.sameBut hs (Jr y c e)⟩
  ·obtain⟨w',z⟩:=I.cell y c e;exact⟨w',z.sameBut hs (Jr y c e)⟩
  ·obtain⟨e,n,ne,nf,d⟩:=I.pin p hp;exact⟨(hs.2 p.1 ne).trans e,n,ne,nf,d⟩
 ·have hfn:X.fn x=true:=by
   rcases hf with z|z
   ·exact z
   ·rw[z]at hk;cases hk
  obtain⟨c,hc⟩:=I.ok.has x (.inl hk);obtain⟨w',z⟩:=I.cell x c hc;refine wpAny_storeName_cell I.ok.kind hk hc z (λh' hc' hs=>?_);obtain⟨oc,hoc,hocd⟩:=id z;refine h {s with heap:=h'} ⟨I.ok,I.os,I.bare,⟨λb o e n hb hx=>?_,λb o e n hb hx=>?_,I.base.free,λb o e hx=>?_,I.base.tups,I.base.frzs,I.base.tbls⟩,⟨m,hn.sameBut hs (Tp (Jr x c hc)),λj y v' e1 e2 e3=>?_⟩,λy c' e=>?_,I.free,I.freeC,λp hp=>?_,tracked ⟨oc,hoc,I.freeC x c hc⟩ hs,by simpa using I.len⟩ ⟨c,hs,.inr hc⟩
  ·exact(hs.2 b (QQ (QH (QF e) (I.ok.cab x c hfn hc)))).trans (I.base.keep b o e n hb hx)
  ·obtain⟨sl,e1⟩:=I.base.slot b o e n hb hx;exact⟨sl,(hs.2 b (QQ (QH (QF e) (I.ok.cab x c hfn hc)))).trans e1⟩
  ·obtain⟨o',e1⟩:=I.base.there b o e hx;exact⟨o',(hs.2 b (QQ (QH (QF e) (I.ok.cab x c hfn hc)))).trans e1⟩
  ·by_cases hj:j=i
   ·subst hj;rw[hi]at e1;cases e1;rw[RW hiσ]at e2;cases e2;exact⟨u,r,.inr ⟨.inl hk,c,hc,hc'⟩⟩
   ·rw[Tg (Tp hj)]at e2;obtain⟨u',r',q⟩:=hl j y v' e1 e2 e3;refine⟨u',r',?_⟩;rcases q with q|⟨k,c',e,z'⟩
    ·exact .inl q
    ·refine .inr ⟨k,c',e,z'.sameBut hs ?_⟩;rintro rfl;exact hj (x6 hN e1 (I.ok.inj _ _ _ e hc▸hi))
  ·by_cases hcc:c'=c
   ·subst hcc;exact⟨_,hc'⟩
   ·obtain⟨w2,z2⟩:=I.cell y c' e;exact⟨w2,z2.sameBut hs hcc⟩
  ·obtain⟨e,n,ne,nf,d⟩:=I.pin p hp;refine⟨(hs.2 p.1 ?_).trans e,n,ne,nf,d⟩;intro q;rw[q,hoc]at e;have q':oc=p.2:=Sj e;exact d w' (by rw[<- q'];exact hocd)
theorem hU(I:Inv X pins σ H s)(hN:X.N.Nodup)(hi:X.N[i]?=some x)(hx:Loc X.env.scope x)(r:RelV v u)
 (h:∀s',Inv X pins (σ.set i (some v)) H s'->Q () s')(hf:X.fn x=true\/X.env.scope.names.lookup x=some .local:=by first|exact .inl rfl|exact .inr rfl|assumption):wpAny M A (storeName X.env x u) Q E s:=
 pf I hN hi hx r (λs' I' _=>h s' I') hf
theorem Inv.IC(I:Inv X pins σ H s)(ho:s'.os=s.os)(u:Un (uj X.stack) ch H H' s.heap s'.heap)(hok:kH X.prog X.w H' s'.heap)(hg:AllBare s'.gens)
 (hch:∀b∈ch,(b∈X.ex\/X.s₀.heap.objs.size<=b)/\b≠X.env.locals/\(∀x c,X.env.cells.lookup x=some c->c≠b)/\∀p∈X.pn++pins,p.1≠b):Inv X pins σ H' s':=by
 obtain⟨h',g',d',t',o'⟩:=s';have e  := ho;subst e;exact I.call u hok hg hch
end
abbrev XK:=Value->Option Addr->Hp->Prop
abbrev St:=List (Option V)
abbrev VK:=V->Hp->Prop
abbrev TE:=St->Hp->VK->Prop
abbrev TT:=St->Hp->(Bool->Hp->Prop)->Prop
abbrev TA:=St->Hp->(List V->Hp->Prop)->Prop
structure Ends where
 nx:St->Hp->Prop
 rt:VK
 bk:St->Hp->Prop:=λ_ _=>False
 ct:St->Hp->Prop:=λ_ _=>False
abbrev TS:=Ends->St->Hp->Prop
def EP(X:Cx)(pins:UE)(σ:St)(Q:VK)(u:Value)(s':UX):Prop:=∃v H',Inv X pins σ H' s'/\RelV v u/\Q v H'
def TP(X:Cx)(pins:UE)(σ:St)(Q:Bool->Hp->Prop)(b:Bool)(s':UX):Prop:=∃H',Inv X pins σ H' s'/\Q b H'
def AP(X:Cx)(pins:UE)(σ:St)(Q:List V->Hp->Prop)(us:UL)(s':UX):Prop:=∃vs H',Inv X pins σ H' s'/\Vals vs us/\Q vs H'
noncomputable def SP(X:Cx)(pins:UE)(D:Ends)(f:Flow)(s':UX):Prop:=
 match f with
 |.next=>∃σ' H',Inv X pins σ' H' s'/\D.nx σ' H'
 |.brk=>∃σ' H',Inv X pins σ' H' s'/\D.bk σ' H'
 |.cont=>∃σ' H',Inv X pins σ' H' s'/\D.ct σ' H'
 |.ret u=>∃v σ' H',Inv X pins σ' H' s'/\RelV v u/\D.rt v H'
def PE(X:Cx)(e:Expr)(t:TE):Prop:=
 ∀(pins:UE) (s:UX) (σ:St) (H:Hp) (Q:VK),Inv X pins σ H s->t σ H Q->wpAny (model X.prog X.w) X.A (eval e X.env) (EP X pins σ Q) X.xe s
def PT(X:Cx)(e:Expr)(t:TT):Prop:=
 ∀(pins:UE) (s:UX) (σ:St) (H:Hp) (Q:Bool->Hp->Prop),Inv X pins σ H s->t σ H Q->wpAny (model X.prog X.w) X.A (isTrue e X.env (eval e X.env)) (TP X pins σ Q) X.xe s
def PW(X:Cx)(e:Expr)(t:TT):Prop:=
 ∀(whole:Sem Value) (pins:UE) (s:UX) (σ:St) (H:Hp) (Q:Bool->Hp->Prop),Inv X pins σ H s->t σ H Q->wpAny (model X.prog X.w) X.A (isTrue e X.env whole) (TP X pins σ Q) X.xe s
theorem PW.pt(h:PW X e t):PT X e t:=h _
def PA(X:Cx)(es:UO)(t:TA):Prop:=
 ∀(pos:Pos) (pins:UE) (s:UX) (σ:St) (H:Hp) (Q:List V->Hp->Prop),Inv X pins σ H s->t σ H Q->wpAny (model X.prog X.w) X.A (spliced (backTo pos (starEach es X.env))) (AP X pins σ Q) X.xe s
def PS(X:Cx)(st:Stmt)(t:TS):Prop:=
 ∀(pins:UE) (s:UX) (σ:St) (H:Hp) (D:Ends),Inv X pins σ H s->t D σ H->wpAny (model X.prog X.w) X.A (exec st X.env) (SP X pins D) X.xe s
def zL(X:Cx)(st:List Stmt)(t:TS):Prop:=
 ∀(pins:UE) (s:UX) (σ:St) (H:Hp) (D:Ends),Inv X pins σ H s->t D σ H->wpAny (model X.prog X.w) X.A (execs st X.env) (SP X pins D) X.xe s
theorem bw{M:Model}{A:UW}{E:UD}{s:UX}(h:wpAny M A t Q E s)(hQ:∀a s,Q a s->Q' a s):wpAny M A t Q' E s:=RO h hQ λ_ _ x=>x
section
variable {X:Cx}
def N6(i:Nat):TE:=λσ H Q=>∃v,σ[i]?=some (some v)/\Q v H
def tC(v:V):TE:=λ_ H Q=>Q v H
theorem Js{pos:Pos}(hN:X.N[i]?=some x)(hv:IB X.env.scope x)(hd:(x==("__debug__" : Str))=false:=by decide)(hcd:(x==("__classdict__" : Str))=false:=by decide):PE X (.Name x pos) (N6 i):=by
 intro pins s σ H Q I h;obtain⟨v,e,h⟩:=h;obtain⟨m,hn,hl⟩:=I.loc;obtain⟨u,r,l⟩:=hl i x v hN e hv;have fin:EP X pins σ Q u s:=⟨v,H,I,r,h⟩;rcases l with⟨hk,hm⟩|⟨hk,c,hc,hcell⟩
 ·exact Ut (wpAny_loadName_local I.ok.kind hk hn hm fin) hd
 ·rcases hk with hk|hk
  ·exact Ut (wpAny_loadName_cell I.ok.kind hk hc hcell fin) hd
  ·exact Ut (wpAny_loadName_free I.ok.kind hk hc hcell fin hcd) hd
theorem ph:PE X (.Constant (.int i) j pos) (tC (.int i)):=λ_ _ _ H _ I h=>wpAny_Constant_int ⟨.int i,H,I.tok _,⟨_,rfl⟩,h⟩
theorem ID:PE X (.Constant (.bool b) j pos) (tC (.bl b)):=λ_ _ _ H _ I h=>Constant_bool ⟨.bl b,H,I,rfl,h⟩
theorem Jt:PE X (.Constant .none j pos) (tC .non):=λ_ _ _ H _ I h=>Constant_none ⟨.non,H,I,rfl,h⟩
theorem zO:PE X (.Constant (.str x) j pos) (tC (.str x)):=λ_ _ _ H _ I h=>Calls.Constant_str ⟨.str x,H,I.tok _,⟨_,rfl⟩,h⟩
def Gl(X:Cx)(x:Str):Prop:=X.env.kindOf x=some .globalImplicit
theorem we{σ:St}(I:Inv X pins σ H s)(hg:Gl X x)(hm:X.mg x=some u)(h:Q u s)
 (hd:(x==("__debug__" : Str))=false:=by decide):wpAny (model X.prog X.w) X.A (eval (.Name x pos) X.env) Q E s:=
 Calls.Name_function_global I.ok.kind hg (Calls.loadGlobal_global (by rw[I.ok.glob];exact I.mod.glob.keeps I.bk) hm h) hd
theorem jQ{E:UD}{σ:St}{pos:Pos}(I:Inv X pins σ H s)(hg:Gl X x)(hm:X.mg x=none)(hv:bootBuiltins x=some u)(h:Q u s)
 (hn:x ≠ "__name__" := by decide)(hd:(x==("__debug__" : Str))=false:=by decide):wpAny (model X.prog X.w) X.A (eval (.Name x pos) X.env) Q E s:=by
 obtain⟨mb,h1,h2⟩:=I.mod.blt;exact Calls.Name_function_global I.ok.kind hg (Calls.loadGlobal_builtin (by rw[I.ok.glob];exact I.mod.glob.keeps I.bk) hm (by rw[I.ok.blt];exact h1.keeps I.bk) ((h2 x hn).trans hv) h) hd
theorem wg(hg:Gl X x)(hm:X.mg x=some u)(r:RelV v u)(hd:(x==("__debug__" : Str))=false:=by decide):PE X (.Name x pos) (tC v):=
 λ_ _ _ H _ I h=>we I hg hm ⟨v,H,I,r,h⟩ hd
theorem Gy{pos:Pos}(hg:Gl X x)(hm:X.mg x=none)(hv:bootBuiltins x=some u)(r:RelV v u)(hn:x ≠ "__name__" := by decide)(hd:(x==("__debug__" : Str))=false:=by decide):PE X (.Name x pos) (tC v):=
 λ_ _ _ H _ I h=>jQ I hg hm hv ⟨v,H,I,r,h⟩ hn hd
variable {a b:Expr} {ta tb:TE} {pos:Pos}
variable {tA tB':TT} {rest:UO}
def nQ(t u:TT):TT:=λσ H Q=>t σ H λc H1=>if c=true then u σ H1 Q else Q false H1
def um(t u:TT):TT:=λσ H Q=>t σ H λc H1=>if c=true then Q true H1 else u σ H1 Q
def fO(t:TT):TT:=λσ H Q=>t σ H λc H1=>Q (!c) H1
theorem Gz(ha:PT X a tA):PW X (.BoolOp .And [a] pos) tA:=by
 intro wh pins s σ H Q I h;refine isTrue_and (bw (ha pins s σ H Q I h) λc s1 e=>?_)
 cases c with
 |true=>exact isTrue_and_nil e
 |false=>exact e
theorem Ju(ha:PT X a tA):PW X (.BoolOp .Or [a] pos) tA:=by
 intro wh pins s σ H Q I h;refine isTrue_or (bw (ha pins s σ H Q I h) λc s1 e=>?_)
 cases c with
 |false=>exact isTrue_or_nil e
 |true=>exact e
theorem Jv(ha:PT X a tA)(hb:PW X (.BoolOp .And (b::rest) pos) tB'):PW X (.BoolOp .And (a::b::rest) pos) (nQ tA tB'):=by
 intro wh pins s σ H Q I h;refine isTrue_and (bw (ha pins s σ H _ I h) λc s1 ⟨H1,I1,q1⟩=>?_)
 cases c with
 |true=>exact hb wh pins s1 σ H1 Q I1 q1
 |false=>assumption
theorem LZ(ha:PT X a tA)(hb:PW X (.BoolOp .Or (b::rest) pos) tB'):PW X (.BoolOp .Or (a::b::rest) pos) (um tA tB'):=by
 intro wh pins s σ H Q I h;refine isTrue_or (bw (ha pins s σ H _ I h) λc s1 ⟨H1,I1,q1⟩=>?_)
 cases c with
 |true=>assumption
 |false=>exact hb wh pins s1 σ H1 Q I1 q1
theorem Jw(ha:PT X a tA):PT X (.UnaryOp .Not a pos) (fO tA):=by intro pins s σ H Q I h;exact isTrue_not (ha pins s σ H _ I h)
theorem Jx(h:PE X a t):PE X (.BoolOp op [a] pos) t:=λpins s σ H Q I hw=>BoolOp_one (h pins s σ H Q I hw)
end
def jz(K:UM)(H:Hp)(a:Addr)(xs:List V):Prop:=
 Rd H a (.lst xs) \/
  ∃(o:Obj) (its:UR) (n:Nat),K.lookup a=some o/\o.cls=.type "list" /\ o.dict=none/\o.data=.seq its n/\its.size<=sizeLine/\Vals xs its.toList
def gB(K:UM)(H:Hp)(a:Addr)(xs:List V):Prop:=
 Rd H a (.tup xs) \/
  ∃(o:Obj) (its:UR) (n:Nat),K.lookup a=some o/\o.cls=.type "tuple" /\ o.data=.seq its n/\its.size<=sizeLine/\Vals xs its.toList
def N7:Value->Option V
 |.none=>some .non
 |.bool b=>some (.bl b)
 |.int i _=>some (.int i)
 |.str x _=>some (.str x)
 |.bytes b _=>some (.byt b)
 |.float b _=>some (.flt b)
 |.ref a=>some (.ref a)
 |.type n=>some (.ty n)
 |_=>none
theorem RelV.abs(r:RelV x u):N7 u=some x:=by
 cases x with
 |non=>cases r;rfl
 |bl _=>cases r;rfl
 |int _=>obtain⟨t,rfl⟩:=r;rfl
 |str _=>obtain⟨t,rfl⟩:=r;rfl
 |byt _=>obtain⟨t,rfl⟩:=r;rfl
 |flt _=>obtain⟨t,rfl⟩:=r;rfl
 |ref _=>cases r;rfl
 |ty _=>cases r;rfl
theorem RelV.inj{u:Value}(r:RelV x u)(q:RelV y u):x=y:=Sj (r.abs.symm.trans q.abs)
theorem Vals.inj:∀{xs ys:List V} {us:UL},Vals xs us->Vals ys us->xs=ys
 |_,_,_,.nil,.nil=>rfl
 |_,_,_,.cons r t,.cons r' t'=>by rw[r.inj r',Vals.inj t t']
section
variable {X:Cx} {pins:UE} {σ:St} {H:Hp} {s:UX} {a:Addr} {xs ys:List V}
theorem jz.of{K:UM}(h:H a=some (.lst xs)):jz K H a xs:=.inl (.inl h)
theorem gB.of{K:UM}(h:H a=some (.tup xs)):gB K H a xs:=.inl (.inl h)
theorem Inv.list(I:Inv X pins σ H s)(h:jz X.K H a xs):∃its:UL,Vals xs its/\PlainL s.heap a its.toArray/\xs.length<=sizeLine:=by
 rcases h with h|⟨o,its,n,hk,hc,hd,hs,hz,r⟩
 ·obtain⟨z,its,n,r,e⟩:=h.ok I.hok;exact⟨its,r,⟨_,n,e,rfl,rfl,rfl⟩,z⟩
 ·refine⟨its.toList,r,⟨o,n,I.uk a o hk,hc,hd,by omega⟩,?_⟩;have e:=r.length
  grind
theorem Inv.tuple(I:Inv X pins σ H s)(h:gB X.K H a xs):∃its:UL,Vals xs its/\IsTup s.heap a its.toArray/\xs.length<=sizeLine:=by
 rcases h with h|⟨o,its,n,hk,hc,hs,hz,r⟩
 ·obtain⟨z,its,r,p⟩:=h.ok I.hok
  grind
 ·refine⟨its.toList,r,⟨o,I.uk a o hk,hc,n,by omega⟩,?_⟩;have e:=r.length
  grind
theorem Inv.DN(I:Inv X pins σ H s)(h:jz X.K H a xs)(h':jz X.K H a ys):xs=ys:=by
 obtain⟨its,r,⟨o,n,e,_,_,d⟩,_⟩:=I.list h;obtain⟨its',r',⟨o',n',e',_,_,d'⟩,_⟩:=I.list h';rw[e]at e';cases e';have:its=its':=by grind
 subst this;exact r.inj r'
theorem Inv.pj(I:Inv X pins σ H s)(h:gB X.K H a xs)(h':gB X.K H a ys):xs=ys:=by
 obtain⟨its,r,⟨o,e,_,n,d⟩,_⟩:=I.tuple h;obtain⟨its',r',⟨o',e',_,n',d'⟩,_⟩:=I.tuple h';rw[e]at e';cases e';have:its=its':=by grind
 subst this;exact r.inj r'
end
abbrev Cx.ur(X:Cx)(E:UD):Cx:={X with xe:=E}
abbrev Cx.LH(X:Cx):Cx:=X.ur λ_ _=>False
theorem Cx.Ok.ur{X:Cx}(ok:X.Ok)(E:UD):(X.ur E).Ok:=
 ⟨ok.mod,ok.kind,ok.glob,ok.blt,ok.above,ok.inj,ok.has,ok.cab,ok.hd,ok.frames,ok.stk,ok.exf,ok.bs,ok.bsz,ok.noex,ok.exfs,ok.pe,ok.frf⟩
theorem Cx.Ok.kI{X:Cx}(ok:(X.ur E).Ok):X.Ok:=
 ⟨ok.mod,ok.kind,ok.glob,ok.blt,ok.above,ok.inj,ok.has,ok.cab,ok.hd,ok.frames,ok.stk,ok.exf,ok.bs,ok.bsz,ok.noex,ok.exfs,ok.pe,ok.frf⟩
section
variable {X:Cx} {pins:UE} {σ:St} {H:Hp} {s:UX} {E:UD}
theorem Inv.ur(I:Inv X pins σ H s)(E:UD):Inv (X.ur E) pins σ H s:=⟨I.ok.ur E,I.os,I.bare,I.base,I.loc,I.cell,I.free,I.freeC,I.pin,I.hok,I.len⟩
theorem Inv.kI(I:Inv (X.ur E) pins σ H s):Inv X pins σ H s:=⟨I.ok.kI,I.os,I.bare,I.base,I.loc,I.cell,I.free,I.freeC,I.pin,I.hok,I.len⟩
theorem SP.kI(h:SP (X.ur E) pins D f s'):SP X pins D f s':=by
 cases f with
 |next=>obtain⟨σ',H',I,q⟩:=h;exact⟨σ',H',I.kI,q⟩
 |brk=>obtain⟨σ',H',I,q⟩:=h;exact⟨σ',H',I.kI,q⟩
 |cont=>obtain⟨σ',H',I,q⟩:=h;exact⟨σ',H',I.kI,q⟩
 |ret u=>obtain⟨v,σ',H',I,r,q⟩:=h;exact⟨v,σ',H',I.kI,r,q⟩
end
section
variable {X:Cx} {st:Stmt} {rest:List Stmt} {t u:TS} {e:Expr} {te:TE} {pos:Pos}
def L0:TS:=λD σ H=>D.nx σ H
def N8(t u:TS):TS:=λD σ H=>t {D with nx:=u D} σ H
theorem GA:zL X [] L0:=λ_ _ σ H _ I h=>wpAny_execs_nil ⟨σ,H,I,h⟩
theorem DP(h1:PS X st t)(h2:zL X rest u):zL X (st::rest) (N8 t u):=by
 intro pins s σ H D I h;refine wpAny_execs_cons (bw (h1 pins s σ H {D with nx:=u D} I h) λf s1 q=>?_)
 cases f with
 |next=>obtain⟨σ',H',I',q⟩:=q;exact h2 pins s1 σ' H' D I' q
 |ret v=>exact q
 |brk=>exact q
 |cont=>exact q
theorem GB(h1:PS X st t):zL X [st] t:=by
 intro pins s σ H D I h;refine wpAny_execs_cons (bw (h1 pins s σ H D I h) λf s1 q=>?_)
 cases f with
 |next=>exact wpAny_execs_nil q
 |ret v=>exact q
 |brk=>exact q
 |cont=>exact q
theorem Inv.quiet{σ:St}(I:Inv X pins σ H s):interactive X.env=false:=by simp[interactive,I.ok.kind]
def L3(te:TE):TS:=λD σ H=>te σ H λ_ H1=>D.nx σ H1
theorem GC(he:PE X e te)(hs:swapsWith e none pos.line X.env=pure false:=by rfl):PS X (.Expr e pos) (L3 te):=by intro pins s σ H D I h;exact wpAny_Expr_any (bw (he pins s σ H _ I h) λv s1 ⟨x,H1,I1,r1,q1⟩=>⟨σ,H1,I1,q1⟩) I.quiet hs
def N9(te:TE):TS:=λD σ H=>te σ H D.rt
theorem Jy(he:PE X e te):PS X (.Return (some e) pos) (N9 te):=by intro pins s σ H D I h;exact wpAny_Return_some (bw (he pins s σ H _ I h) λv s1 ⟨x,H1,I1,r1,q1⟩=>⟨x,σ,H1,I1,r1,q1⟩)
def Oa(c:TT)(t u:TS):TS:=λD σ H=>c σ H λb H1=>if b=true then t D σ H1 else u D σ H1
theorem L5(hc:PT X c tc)(ha:zL X a t)(hb:zL X b u):PS X (.If c a b pos) (Oa tc t u):=by
 intro pins s σ H D I h;refine wpAny_If (bw (hc pins s σ H _ I h) λd s1 ⟨H1,I1,q1⟩=>?_)
 cases d with
 |true=>exact ha pins s1 σ H1 D I1 q1
 |false=>exact hb pins s1 σ H1 D I1 q1
end
abbrev TG:=V->St->Hp->(St->Hp->Prop)->Prop
abbrev LJ:=List V->St->Hp->(St->Hp->Prop)->Prop
noncomputable def PG(X:Cx)(target:Expr)(t:TG):Prop:=
 ∀(pins:UE) (s:UX) (σ:St) (H:Hp) (v:V) (u:Value) (Q:St->Hp->Prop),Inv X pins σ H s->RelV v u->t v σ H Q ->
  wpAny (model X.prog X.w) X.A (assign target X.env u) (λ_ s'=>∃σ' H',Inv X pins σ' H' s'/\Q σ' H') X.xe s
noncomputable def LK(X:Cx)(ts:UO)(t:LJ):Prop:=
 ∀(pins:UE) (s:UX) (σ:St) (H:Hp) (vs:List V) (us:UL) (Q:St->Hp->Prop),Inv X pins σ H s->Vals vs us->t vs σ H Q ->
  wpAny (model X.prog X.w) X.A (assignInOrder ((assignEach ts X.env).map (·.2)) us) (λ_ s'=>∃σ' H',Inv X pins σ' H' s'/\Q σ' H') X.xe s
abbrev L6:=V->V->V->Hp->(Hp->Prop)->Prop
noncomputable def Jz(X:Cx)(t:L6):Prop:=
 ∀(pins:UE) (s:UX) (σ:St) (H:Hp) (o i v:V) (ov iv u:Value) (Q:Hp->Prop),Inv X pins σ H s->RelV o ov->RelV i iv->RelV v u->t o i v H Q ->
  wpAny (model X.prog X.w) X.A (setItem ov iv u) (λ_ s'=>∃H',Inv X pins σ H' s'/\Q H') X.xe s
section
variable {X:Cx} {pos:Pos}
def aA(i:Nat):TG:=λv σ H Q=>Q (σ.set i (some v)) H
theorem GD(hN:X.N.Nodup)(hi:X.N[i]?=some x)(hx:Loc X.env.scope x)(hf:X.fn x=true\/X.env.scope.names.lookup x=some .local:=by first|exact .inl rfl|exact .inr rfl|assumption):PG X (.Name x pos) (aA i):=by intro pins s σ H v u Q I r h;exact wpAny_assign_Name (hU I hN hi hx r (λs' I'=>⟨_,H,I',h⟩) hf)
def hV:LJ:=λvs σ H Q=>vs=[]/\Q σ H
def bM(t:TG)(u:LJ):LJ:=λvs σ H Q=>∃v r,vs=v::r/\t v σ H λσ' H'=>u r σ' H' Q
theorem GF:LK X [] hV:=by intro pins s σ H vs us Q I r h;obtain⟨e,h⟩:=h;exact assignInOrder_nil ⟨σ,H,I,h⟩
theorem DQ(h1:PG X e t)(h2:LK X es u)
 (hs:(assignEach (e::es) X.env).map (·.2)=assign e X.env::(assignEach es X.env).map (·.2):=by rfl):LK X (e::es) (bM t u):=by
 intro pins s σ H vs us Q I r h;obtain⟨v,vr,e1,h⟩:=h;subst e1
 cases r with
 |cons r rr=>rw[hs];refine So (bw (h1 pins s σ H _ _ _ I r h) λ_ s1 ⟨σ1,H1,I1,q1⟩=>?_);exact h2 pins s1 σ1 H1 _ _ Q I1 rr q1
def hX(K:UM)(n:Nat)(t:LJ):TG:=λv σ H Q=>∃a xs,v=.ref a/\gB K H a xs/\xs.length=n/\t xs σ H Q
theorem JA{k:Nat}(hc:X.calm=true)(h:LK X es t)
 (hn:(assignEach es X.env).length=n:=by rfl)(hst:(assignEach es X.env).findIdx? (·.1)=none:=by rfl):PG X (.Tuple es k pos) (hX X.K n t):=by
 intro pins s σ H v u Q I r hw;obtain⟨a,xs,e1,hq,hl,hw⟩:=hw;subst e1;cases r;obtain⟨its,rv,ht,hz⟩:=I.tuple hq;refine assign_Tuple_tuple (I.ok.hd hc) ht (by simp[hn,<- hl,rv.length]) hst λh' hx=>?_;have I1:Inv X pins σ H {s with heap:=h'}:=I.kept λb o e=>hx b o (QQ (QF e)) e;exact h pins _ σ H xs _ Q I1 (by omega) hw
def x8(to ti:TE)(t:L6):TG:=λv σ H Q=>to σ H λo H1=>ti σ H1 λi H2=>t o i v H2 λH3=>Q σ H3
theorem JB(ho:PE X o to)(hi:PE X i ti)(hs:Jz X t)
 (ha:∀v,assign (.Subscript o i pos) X.env v=(do
   let ov <- holding [v] (eval o X.env)
   let iv <- holding [v,ov] (eval i X.env)
   standAt pos
   holding [v,ov,iv] (setItem ov iv v)
   release [v,ov,iv] []):=by intro _;rfl):PG X (.Subscript o i pos) (x8 to ti t):=by
 intro pins s σ H v u Q I r h;refine QA (Ri (bw (ho pins s σ H _ I h) λov s1 ⟨x,H1,I1,r1,q1⟩=>?_));refine QA (Ri (bw (hi pins s1 σ H1 _ I1 q1) λiv s2 ⟨y,H2,I2,r2,q2⟩=>?_));refine QA (RS (QA (Ri (bw (hs pins s2 σ H2 x y v ov iv u _ I2 r1 r2 r q2) λ_ s3 ⟨H3,I3,q3⟩=>?_))));exact wpAny_release ⟨σ,H3,I3,q3⟩
def CD(te:TE)(g:TG):TS:=λD σ H=>te σ H λx H1=>g x σ H1 D.nx
theorem JC(he:PE X e te)(hg:PG X tg g)(hs:swapsWithSole [tg] e pos.line X.env=pure false:=by rfl)(hw:swappedStores [tg] e X.env=pure none:=by rfl)
 (h1:(assignEach [tg] X.env).map (·.2)=[assign tg X.env]:=by rfl):PS X (.Assign [tg] e pos) (CD te g):=by
 intro pins s σ H D I h;refine wpAny_Assign_stores (bw (he pins s σ H _ I h) λv s1 ⟨x,H1,I1,r1,q1⟩=>?_) hs hw;rw[h1];exact bw (hg pins s1 σ H1 x v _ I1 r1 q1) λ_ s2 q=>q
theorem JD(hN:X.N.Nodup)(hi:X.N[i]?=some x)(hx:Loc X.env.scope x)(he:PE X e te)(hs:swapsWith e (some (.Name x pos')) pos.line X.env=pure false:=by rfl)(hf:X.fn x=true\/X.env.scope.names.lookup x=some .local:=by first|exact .inl rfl|exact .inr rfl|assumption) :
  PS X (.Assign [.Name x pos'] e pos) (CD te (aA i)):=by
 intro pins s σ H D I h;refine wpAny_Assign_Name (bw (he pins s σ H _ I h) λv s1 ⟨y,H1,I1,r1,q1⟩=>?_) hs;exact hU I1 hN hi hx r1 (λs2 I2=>⟨_,H1,I2,q1⟩) hf
def L7(i j:Nat)(ta:TA):TS:=λD σ H=>ta σ H λvs H1=>∃v w,vs=[v,w]/\D.nx ((σ.set i (some v)).set j (some w)) H1
theorem JE(hc:X.calm=true)(hN:X.N.Nodup)(hi:X.N[i]?=some x)(hj:X.N[j]?=some y)(hij:i≠j)
 (hx:X.env.scope.names.lookup x=some .local)(hy:X.env.scope.names.lookup y=some .local)(ha:PA X [a,b] ta)
 (hw:swappedStores [.Tuple [.Name x px,.Name y py] kt pt] (.Tuple [a,b] k2 pt2) X.env=pure (some [x,y]))
 (hs:swapsWithSole [.Tuple [.Name x px,.Name y py] kt pt] (.Tuple [a,b] k2 pt2) pos.line X.env=pure false:=by rfl) :
  PS X (.Assign [.Tuple [.Name x px,.Name y py] kt pt] (.Tuple [a,b] k2 pt2) pos) (L7 i j ta):=by
 intro pins s σ H D I h;rw[exec_Assign_arm];refine QA (RS ?_);rw[hs];refine QA (QB ?_);rw[if_neg (by decide)];refine QA (Tuple_ (bw (ha _ pins s σ H _ I h) λus s1 ⟨vs,H1,I1,r1,q1⟩=>?_));obtain⟨v,w,e1,q1⟩:=q1;subst e1
 obtain⟨u1,u2,rfl,rv,rw'⟩:∃u1 u2,us=[u1,u2]/\RelV v u1/\RelV w u2:=by
  cases r1 with
  |cons p q=>
   cases q with
   |cons p' q'=>cases q';exact⟨_,_,rfl,p,p'⟩
 refine Rb ?_ (by show 2<=sizeLine;decide);have I2:Inv X pins σ H1 {s1 with heap:=s1.heap.push {cls:=.type "tuple",data:=.seq [u1,u2].toArray}}:=I1.kept (t':=s1.toks) λb o e=>QC _ e;rw[hw];refine QA (QB ?_);show wpAny (model X.prog X.w) X.A (do rule "assign.swapped-stores";let items <- unpackItems (.ref s1.heap.objs.size) 2 none;assignInOrder [λv=>bindName X.env y v,λv=>bindName X.env x v] items.reverse;pure Flow.next) _ _ _;refine QA (Sh (QA (unpackItems_tuple (items:=#[u1,u2]) (I.ok.hd hc) (IsTup.new s1.heap _) λh' hx'=>?_)));have I3:=I2.kept (h':=h') (t':=s1.toks) λb o e=>hx' b o (QQ (QF e)) e;show wpAny _ _ (assignInOrder [λv=>bindName X.env y v,λv=>bindName X.env x v] [u2,u1] >>= λ_=>pure Flow.next) _ _ _;refine QA (So (TX (hU I3 hN hj (.inl hy) rw' (λs2 I4=>?_) (.inr hy))));refine So (TX (hU I4 hN hi (.inl hx) rv (λs3 I5=>assignInOrder_nil (QB ?_)) (.inr hx)));rw[Uw _ _ (Tp hij)]at I5;exact⟨_,H1,I5,q1⟩
end
structure It where
 go:Nat->Hp->Prop
 yld:Nat->Hp->V->Hp->Prop
 stop:Nat->Hp->Prop
def gC(X:Cx)(pins:UE)(H:Hp)(b:Addr):Prop:=
 H b=none/\b≠X.env.locals/\b∉X.fs/\(b∈X.ex\/X.s₀.heap.objs.size<=b)/\(∀x c,X.env.cells.lookup x=some c->c≠b)/\∀p∈X.pn++pins,p.1≠b
theorem Inv.zP{σ:St}{b:Addr}(I:Inv X pins σ H s)(hb:s.heap.objs.size<=b)(hn:H' b=none):gC X pins H' b:=by
 refine⟨hn,Sr (QH I.lt hb),I.zN hb,.inr (QM I.sz hb),λx c e z=>?_,λp hp z=>?_⟩
 ·obtain⟨v,q⟩:=I.cell x c e;exact absurd (QH q.lt (by simp_all)) (QU _)
 ·exact absurd (QH (QF (I.pin p hp).1) (by simp_all)) (QU _)
structure Turn(P:UT)(w:World)(K:UM)(tg:Expr)(J:It)(fp:UK)(it:Addr)(tn:Nat->Heap->Prop):Prop where
 mem:it∈fp
 obj:∀i h,tn i h->∀b∈fp,∃o,h.get? b=some o/\∀v,o.data≠.cell v
 keep:∀i h h',tn i h->(∀b∈fp,∀o,h.get? b=some o->h'.get? b=some o)->tn i h'
 item:∀(X:Cx),X.prog=P->X.w=w->X.K=K->X.calm=true->∀(i:Nat) (pins:UE) (s:UX) (σ:St) (H:Hp) (E:UD),Inv X pins σ H s->(∀b∈fp,gC X pins H b)->tn i s.heap->J.go i H ->
  wpAny (model P w) X.A (pyNext (.ref it)) (λr s1=>∃u,r=some u /\
   wpAny (model P w) X.A (letOwnedTupleGo tg (.ref it) u) (λ_ s2=>∃x H',Inv X pins σ H' s2/\RelV x u/\J.yld i H x H'/\tn (i+1) s2.heap/\∀b∈fp,H' b=none) E s1) E s
 done:∀(X:Cx),X.prog=P->X.w=w->X.K=K->X.calm=true->∀(i:Nat) (pins:UE) (s:UX) (σ:St) (H:Hp) (E:UD),Inv X pins σ H s->(∀b∈fp,gC X pins H b)->tn i s.heap->J.stop i H ->
  wpAny (model P w) X.A (pyNext (.ref it)) (λr s1=>r=none/\Inv X pins σ H s1) E s
 self:∀(A:UW) (i:Nat) (s:UX) (Q:UD) (E:UD),tn i s.heap->Q (.ref it) s->wpAny (model P w) A (pyIter (.ref it)) Q E s
abbrev TI:=St->Hp->(It->Hp->Prop)->Prop
noncomputable def PC(X:Cx)(pins:UE)(σ:St)(tg:Expr)(R:It->Hp->Prop)(itv:Value)(s2:UX):Prop:=
 ∃(it:Addr) (fp:UK) (tn:Nat->Heap->Prop) (J:It) (H':Hp),itv=.ref it/\Inv X pins σ H' s2/\Turn X.prog X.w X.K tg J fp it tn/\tn 0 s2.heap/\(∀b∈fp,gC X pins H' b)/\R J H'
noncomputable def PI(X:Cx)(tg iter:Expr)(wi:TI):Prop:=
 ∀(pins:UE) (s:UX) (σ:St) (H:Hp) (R:It->Hp->Prop),Inv X pins σ H s->wi σ H R ->
  wpAny (model X.prog X.w) X.A (eval iter X.env) (λv s1=>wpAny (model X.prog X.w) X.A (pyIter v) (PC X pins σ tg R) X.xe s1) X.xe s
theorem Bf(ho:s.heap.get? it=some o)(hc:o.cls=.type n)(hd:o.data=.fields vs)
 (hn:["enumerate", "zip", "dict_itemiterator", "dict_reverseitemiterator", "odict_iterator", "itertools.zip_longest", "itertools.pairwise"].contains n=false)(hQ:Q () s):wpAny M A (letOwnedTupleGo tg (.ref it) u) Q E s:=by
 unfold letOwnedTupleGo
 cases tg<;>first
  |exact QB hQ
  | (cases u<;>first
    |exact QB hQ
    | (refine QA (TN ho ?_)
       rw[hc,hd];show wpAny M A (if(["enumerate", "zip", "dict_itemiterator", "dict_reverseitemiterator", "odict_iterator", "itertools.zip_longest", "itertools.pairwise"].contains n&&vs[0]? == some (rawInt _))=true then _ else _) Q E s;rw[if_neg (by intro h;rw[hn,TY]at h;cases h)]
       exact QB hQ))
def Ob(K:UM)(a:Addr):It:=
 ⟨λi H=>∃xs x,jz K H a xs/\xs[i]?=some x,λi H x H'=>H'=H/\∀xs,jz K H a xs->xs[i]?=some x,λi H=>∃xs,jz K H a xs/\xs.length<=i⟩
def Np(K:UM)(a:Addr):It:=
 ⟨λi H=>∃xs x,gB K H a xs/\xs[i]?=some x,λi H x H'=>H'=H/\∀xs,gB K H a xs->xs[i]?=some x,λi H=>∃xs,gB K H a xs/\xs.length<=i⟩
def Nq(lo:Int)(n:Nat):It:=⟨λi _=>i<n,λi H x H'=>H'=H/\x=.int (lo+i),λi _=>n<=i⟩
theorem CF{K:UM}(a it:Addr):Turn P w K tg (Ob K a) [it] it (λi h=>h.IsListIter it a i) where
 mem:=by simp
 obj:=λi h st b hb=>by
  have e:b=it:=by grind
  subst e;obtain⟨o,e,c,d⟩:=st
  grind
 keep:=λi h h' st k=>st.at λo e=>k it (by simp) o e
 item:=by intro X hP hw hK hc i pins s σ H E I hf st hg;subst hP hw hK;obtain⟨xs,x,hq,hx⟩:=hg;obtain⟨its,rv,p,hz⟩:=I.list hq;obtain⟨u,hu,ru⟩:=rv.get hx;obtain⟨f0,f1,f2,f3,f4,f5⟩:=hf it (by simp);refine wpAny_pyNext_list_item st p.isList (x:=u) (by simpa using hu) λh' st' sb=>?_;have I1:Inv X pins σ H {s with heap:=h'}:=I.turned (t':=s.toks) (λb o hb e=>(sb.2 b hb).trans e) f0 f1 f3 f4 f5;obtain⟨o,e,c,d⟩:=id st';exact⟨u,rfl,Bf (s:={s with heap:=h'}) e c d (by decide) ⟨x,H,I1,ru,⟨rfl,λys hy=>by rw[I.DN hy hq];exact hx⟩,st',λb hb=>(hf b hb).1⟩⟩
 done:=by intro X hP hw hK hc i pins s σ H E I hf st hg;subst hP hw hK;obtain⟨xs,hq,hx⟩:=hg;obtain⟨its,rv,p,hz⟩:=I.list hq;obtain⟨f0,f1,f2,f3,f4,f5⟩:=hf it (by simp);have hl:=rv.length;exact wpAny_pyNext_list_end (I.ok.hd hc) st p.isList (by simp;omega) λh' eb=>⟨rfl,I.turned (t':=s.toks) (λb o hb e=>eb b o hb e) f0 f1 f3 f4 f5⟩
 self:=λ_ _ _ _ _ st h=>wpAny_pyIter_listiter st h
theorem zQ{K:UM}(a it:Addr):Turn P w K tg (Np K a) [it] it (λi h=>h.IsTupleIter it a i) where
 mem:=by simp
 obj:=λi h st b hb=>by
  have e:b=it:=by grind
  subst e;obtain⟨o,e,c,d⟩:=st
  grind
 keep:=λi h h' st k=>st.at λo e=>k it (by simp) o e
 item:=by intro X hP hw hK hc i pins s σ H E I hf st hg;subst hP hw hK;obtain⟨xs,x,hq,hx⟩:=hg;obtain⟨its,rv,p,hz⟩:=I.tuple hq;obtain⟨u,hu,ru⟩:=rv.get hx;obtain⟨f0,f1,f2,f3,f4,f5⟩:=hf it (by simp);refine wpAny_pyNext_tuple_item st (show s.heap.IsTuple a its.toArray from p) (x:=u) (by simpa using hu) λh' st' sb=>?_;have I1:Inv X pins σ H {s with heap:=h'}:=I.turned (t':=s.toks) (λb o hb e=>(sb.2 b hb).trans e) f0 f1 f3 f4 f5;obtain⟨o,e,c,d⟩:=id st';exact⟨u,rfl,Bf (s:={s with heap:=h'}) e c d (by decide) ⟨x,H,I1,ru,⟨rfl,λys hy=>by rw[I.pj hy hq];exact hx⟩,st',λb hb=>(hf b hb).1⟩⟩
 done:=by intro X hP hw hK hc i pins s σ H E I hf st hg;subst hP hw hK;obtain⟨xs,hq,hx⟩:=hg;obtain⟨its,rv,p,hz⟩:=I.tuple hq;obtain⟨f0,f1,f2,f3,f4,f5⟩:=hf it (by simp);have hl:=rv.length;exact wpAny_pyNext_tuple_end (I.ok.hd hc) st (show s.heap.IsTuple a its.toArray from p) (by simp;omega) λh' eb=>⟨rfl,I.turned (t':=s.toks) (λb o hb e=>eb b o hb e) f0 f1 f3 f4 f5⟩
 self:=λ_ _ _ _ _ st h=>wpAny_pyIter_tupleiter st h
theorem zR{K:UM}(it:Addr)(lo:Int)(n:Nat):Turn P w K tg (Nq lo n) [it] it (λi h=>IsRangeIter h it (lo+(i:Nat)*1) ((n:Int)-(i:Nat)) 1) where
 mem:=by simp
 obj:=λi h st b hb=>by
  grind
 keep:=λi h h' st k=>k it (by simp) _ st
 item:=by intro X hP hw hK hc i pins s σ H E I hf st hg;subst hP hw hK;obtain⟨f0,f1,f2,f3,f4,f5⟩:=hf it (by simp);have W:=Walks.range (prog:=X.prog) (w:=X.w) (I.ok.hd hc) it lo 1 n;refine W.item i s _ _ hg st λv h' tk hv st' kk=>?_;obtain⟨t,rfl⟩:=hv;have I1:Inv X pins σ H {s with heap:=h',toks:=tk}:=I.turned (λb o hb e=>kk b o (by simpa using hb) e) f0 f1 f3 f4 f5;refine⟨_,rfl,Bf (s:={s with heap:=h',toks:=tk}) (n := "range_iterator") st' rfl rfl (by decide) ⟨.int (lo+i),H,I1,⟨t,?_⟩,⟨rfl,rfl⟩,st',λb hb=>(hf b hb).1⟩⟩;rw[Int.mul_one]
 done:=by intro X hP hw hK hc i pins s σ H E I hf st hg;subst hP hw hK;obtain⟨f0,f1,f2,f3,f4,f5⟩:=hf it (by simp);exact wpAny_pyNext_range_end (I.ok.hd hc) st (by have:n<=i:=hg;omega) λh' eb=>⟨rfl,I.turned (t':=s.toks) (λb o hb e=>eb b o hb e) f0 f1 f3 f4 f5⟩
 self:=λ_ _ _ _ _ st h=>wpAny_pyIter_rangeiter st h
section
variable {X:Cx} {tg:Expr}
def L8(K:UM)(tl:TE):TI:=λσ H R=>tl σ H λx H1=>∃a,x=.ref a/\(∃xs,jz K H1 a xs)/\R (Ob K a) H1
def Oc(K:UM)(tl:TE):TI:=λσ H R=>tl σ H λx H1=>∃a,x=.ref a/\(∃xs,gB K H1 a xs)/\R (Np K a) H1
theorem GG(hl:PE X l tl):PI X tg l (L8 X.K tl):=by
 intro pins s σ H R I h;refine bw (hl pins s σ H _ I h) λv s1 ⟨x,H1,I1,r1,q1⟩=>?_;obtain⟨a,e,⟨xs,hq⟩,q⟩:=q1;subst e;cases r1;obtain⟨its,rv,p,hz⟩:=I1.list hq;refine wpAny_pyIter_list p.isList ?_;refine⟨s1.heap.objs.size,[s1.heap.objs.size],_,_,H1,rfl,I1.kept λb o e=>QC _ e,CF a _,⟨_,QJ _ rfl,rfl,rfl⟩,λb hb=>?_,q⟩;have e:b=s1.heap.objs.size:=by grind
 subst e;exact I1.zP (QE _) (I1.hok.fresh (QE _))
theorem DR(hl:PE X l tl):PI X tg l (Oc X.K tl):=by
 intro pins s σ H R I h;refine bw (hl pins s σ H _ I h) λv s1 ⟨x,H1,I1,r1,q1⟩=>?_;obtain⟨a,e,⟨xs,hq⟩,q⟩:=q1;subst e;cases r1;obtain⟨its,rv,p,hz⟩:=I1.tuple hq;refine Tz p ?_;refine⟨s1.heap.objs.size,[s1.heap.objs.size],_,_,H1,rfl,I1.kept λb o e=>QC _ e,zQ a _,⟨_,QJ _ rfl,rfl,rfl⟩,λb hb=>?_,q⟩;have e:b=s1.heap.objs.size:=by grind
 subst e;exact I1.zP (QE _) (I1.hok.fresh (QE _))
theorem DU{σ:St}{lo hi:Int}(I:Inv X pins σ H s)(h1:-(2^62)<=lo)(h2:lo<2^62)(h3:-(2^62)<=hi)(h4:hi<2^62)
 (q:R (Nq lo (hi-lo).toNat) H):wpAny (model X.prog X.w) X.A (pyIter (.ref s.heap.objs.size)) (PC X pins σ tg R) E {s with heap:=s.heap.push {cls:=.type "range",data:=.fields #[.int lo t,.int hi u,.int 1 v]},toks:=tk}:=by
 refine wpAny_pyIter_range (IsRange.new ..) (small_one h1 h2 h3 h4) ?_;have I1:Inv X pins σ H {s with heap:=s.heap.push {cls:=.type "range",data:=.fields #[.int lo t,.int hi u,.int 1 v]},toks:=tk}:=I.kept λb o e=>QC _ e
 refine⟨(s.heap.push {cls:=.type "range",data:=.fields #[.int lo t,.int hi u,.int 1 v]}).objs.size,[(s.heap.push {cls:=.type "range",data:=.fields #[.int lo t,.int hi u,.int 1 v]}).objs.size],_,_,H,rfl,
  I1.kept (t':=tk) λb o e=>QC _ e,zR _ lo (hi-lo).toNat,?_,λb hb=>?_,q⟩
 ·have e1:lo+((0:Nat):Int)*1=lo:=by simp
  have e2:(((hi-lo).toNat:Nat):Int)-((0:Nat):Int)=Builtin.Range.rangeSize lo hi 1:=by grind[rangeSize_one]
  show IsRangeIter _ _ (lo+((0:Nat):Int)*1) ((((hi-lo).toNat:Nat):Int)-((0:Nat):Int)) 1;rw[e1,e2];exact QJ _ rfl
 ·have e:b=(s.heap.push {cls:=.type "range",data:=.fields #[.int lo t,.int hi u,.int 1 v]}).objs.size:=by grind
  subst e;exact I1.zP (QE _) (I1.hok.fresh (QE _))
def L9(ta:TA):TI:=λσ H R=>ta σ H λvs H1=>∃j:Int,vs=[.int j]/\-(2^62)<=j/\j<2^62/\R (Nq 0 j.toNat) H1
theorem CG(hg:Gl X "range")(hm:X.mg "range" = none)(ha:PA X [a] ta)(hs:starEach [a] X.env=[(false,eval a X.env)]:=by rfl):PI X tg (.Call (.Name "range" p) [a] [] pos) (L9 ta):=by
 intro pins s σ H R I h;refine Call_ (jQ I hg hm boot_range (RT (bw (ha pos pins s σ H _ I h) λus s1 ⟨vs,H1,I1,r1,q1⟩=>?_) hs rfl));obtain⟨j,e,q1,q2,q⟩:=q1;subst e
 cases r1 with
 |cons r rr=>cases rr;obtain⟨t,rfl⟩:=r;exact call_range_1 (DU I1 (by omega) (by omega) q1 q2 (by grind))
noncomputable def Od(wi:TI)(g:TG)(tb:TS):TS:=λD σ H=>wi σ H λJ H1=>∃W:Nat->Nat->St->Hp->Prop,(∃m,W 0 m σ H1)/\∀i m σ H,W i m σ H ->
 (J.stop i H/\D.nx σ H)\/(J.go i H/\∃N:St->Hp->Prop,(∀σ' H',N σ' H'->∃m',m'<m/\W (i+1) m' σ' H')/\∀x H',J.yld i H x H'->g x σ H' λσ2 H2=>tb {D with nx:=N,ct:=N,bk:=D.nx} σ2 H2)
def bK(fp:UK)(h:Heap):UE:=fp.filterMap λb=>(h.get? b).map λo=>(b,o)
theorem aQ(hb:b∈fp)(e:h.get? b=some o):(b,o)∈bK fp h:=SY.mpr ⟨b,hb,by grind⟩
theorem dZ(hp:p∈bK fp h):p.1∈fp/\h.get? p.1=some p.2:=by
 obtain⟨b,hb,e⟩:=SY.mp hp
 cases q:h.get? b with
 |none=>grind
 |some o=>
  rw[q]at e;have e'  := Sj e
  grind
theorem Inv.pinned{σ:St}(I:Inv X pins σ H s)(hf:∀b∈fp,gC X pins H b)(ho:∀b∈fp,∃o,s.heap.get? b=some o/\∀v,o.data≠.cell v):Inv X (pins++bK fp s.heap) σ H s:=
 I.gM λp hp=>(QN.mp hp).elim (λz=>I.pin p (QD _ z)) λz=>by
  obtain⟨hb,e⟩:=dZ z;obtain⟨f0,f1,f2,_⟩:=hf p.1 hb
  grind
theorem Inv.hZ{σ:St}(I:Inv X (pins++pl) σ H s):Inv X pins σ H s:=I.gM λp hp=>I.pin p (QD _ (Q9 _ hp))
theorem JF(hp:PassesOwn (model X.prog X.w) X.A X.env X.xe)(hc:X.calm=true)(hi:PI X tg iter wi)(hg:PG X tg g)(hb:zL X body tb)
 (hs:∀x,foldedSetIterable iter X.env x=pure x:=by intro _;rfl):PS X (.For tg iter body [] pos) (Od wi g tb):=by
 intro pins s σ H D I h;refine wpAny_For (bw (hi pins s σ H _ I h) λv s1 h1=>bw h1 λitv s2 h2=>?_) hs;obtain⟨it,fp,tn,J,H2,e,I2,T,st2,f2,W,⟨m0,w0⟩,turn⟩:=h2;subst e;have stat:∀{H':Hp},(∀b∈fp,H' b=none)->∀b∈fp,gC X pins H' b:=λhn b hb=>⟨hn b hb,(f2 b hb).2⟩;refine codeAny_forLoop_any (λn s'=>∃i σ' H',Inv X pins σ' H' s'/\tn i s'.heap/\(∀b∈fp,H' b=none)/\W i n σ' H') ?_ m0 ⟨0,σ,H2,I2,st2,λb hb=>(f2 b hb).1,w0⟩;rintro n s3 ⟨i,σ3,H3,I3,st3,fr3,w3⟩;rcases turn i n σ3 H3 w3 with⟨stop,qn⟩|⟨go,N,hN,step⟩
 ·refine TB hp (bw (T.done X rfl rfl rfl hc i pins s3 σ3 H3 X.xe I3 (stat fr3) st3 stop) λr s4 ⟨hr,I4⟩=>?_);subst hr;exact wpAny_execs_nil ⟨σ3,H3,I4,qn⟩
 ·refine TB hp (bw (T.item X rfl rfl rfl hc i pins s3 σ3 H3 X.xe I3 (stat fr3) st3 go) λr s4 ⟨u,hr,h4⟩=>?_);subst hr;refine TB hp (bw h4 λ_ s5 ⟨x,H5,I5,r5,y5,st5,fr5⟩=>?_);have I5':=I5.pinned (stat fr5) (T.obj _ _ st5);refine TB hp (bw (hg _ s5 σ3 H5 x u _ I5' r5 (step x H5 y5)) λ_ s6 ⟨σ6,H6,I6,q6⟩=>?_);refine TB hp (bw (hb _ s6 σ6 H6 _ I6 q6) λf s7 q7=>?_);have again:∀{σ7:St} {H7:Hp},Inv X (pins++bK fp s5.heap) σ7 H7 s7->N σ7 H7->∃m,m<n/\∃i σ' H',Inv X pins σ' H' s7/\tn i s7.heap/\(∀b∈fp,H' b=none)/\W i m σ' H':=λ{σ7 H7} I7 n7=>by obtain⟨m',hm,w7⟩:=hN σ7 H7 n7;refine⟨m',hm,i+1,σ7,H7,I7.hZ,T.keep _ _ _ st5 λb hb o e=>(I7.pin (b,o) (QD _ (QD _ (aQ hb e)))).1,λb hb=>?_,w7⟩;obtain⟨o,e,d⟩:=T.obj _ _ st5 b hb;exact(I7.pin (b,o) (QD _ (QD _ (aQ hb e)))).2.1
  cases f with
  |next=>obtain⟨σ7,H7,I7,n7⟩:=q7;exact again I7 n7
  |cont=>obtain⟨σ7,H7,I7,n7⟩:=q7;exact again I7 n7
  |brk=>obtain⟨σ7,H7,I7,q7⟩:=q7;exact⟨σ7,H7,I7.hZ,q7⟩
  |ret v=>obtain⟨x7,σ7,H7,I7,r7,q7⟩:=q7;exact⟨x7,σ7,H7,I7.hZ,r7,q7⟩
end
abbrev R2:=V->V->Hp->VK->Prop
def iH(X:Cx)(f:Value->Value->Sem Value)(r:R2):Prop:=
 ∀(pins:UE) (s:UX) (σ:St) (H:Hp) (x y:V) (v u:Value) (Q:VK),Inv X pins σ H s->RelV x v->RelV y u->r x y H Q ->
  wpAny (model X.prog X.w) X.A (f v u) (EP X pins σ Q) X.xe s
def Oe(X:Cx)(f:Value->Sem Value)(r:V->Hp->VK->Prop):Prop:=
 ∀(pins:UE) (s:UX) (σ:St) (H:Hp) (x:V) (v:Value) (Q:VK),Inv X pins σ H s->RelV x v->r x H Q ->
  wpAny (model X.prog X.w) X.A (f v) (EP X pins σ Q) X.xe s
def dP(X:Cx)(f:Value)(r:List V->Hp->VK->Prop):Prop:=
 ∀(pins:UE) (s:UX) (σ:St) (H:Hp) (xs:List V) (us:UL) (Q:VK),Inv X pins σ H s->Vals xs us->r xs H Q ->
  wpAny (model X.prog X.w) X.A (call f us) (EP X pins σ Q) X.xe s
def JG(X:Cx)(r:V->Hp->(Bool->Hp->Prop)->Prop):Prop:=
 ∀(pins:UE) (s:UX) (σ:St) (H:Hp) (x:V) (v:Value) (Q:Bool->Hp->Prop),Inv X pins σ H s->RelV x v->r x H Q ->
  wpAny (model X.prog X.w) X.A (truthy v) (TP X pins σ Q) X.xe s
def Ma(r:R2)(ta tb:TE):TE:=λσ H Q=>ta σ H λx H1=>tb σ H1 λy H2=>r x y H2 Q
def Qf(r:V->Hp->VK->Prop)(ta:TE):TE:=λσ H Q=>ta σ H λx H1=>r x H1 Q
def rI(C:Int->Int->Prop)(g:Int->Int->V):R2:=λx y H Q=>∃i j,x=.int i/\y=.int j/\C i j/\Q (g i j) H
def IE(g:Int->Int->V):R2:=λx y H Q=>∃i j,x=.int i/\y=.int j/\Q (g i j) H
def rU(g:Int->V):V->Hp->VK->Prop:=λx H Q=>∃i,x=.int i/\Q (g i) H
section
variable {X:Cx} {a b c:Expr} {ta tb tc:TE} {pos:Pos}
theorem JH(ha:PE X a ta)(hb:PE X b tb){σ:St}{R:V->V->Hp->Prop}(I:Inv X pins σ H s)
 (h:ta σ H λx H1=>tb σ H1 λy H2=>R x y H2){f:Value->Value->Sem Value}
 (hf:∀v u s2 x y H2,Inv X pins σ H2 s2->RelV x v->RelV y u->R x y H2->wpAny (model X.prog X.w) X.A (f v u) Q X.xe s2) :
  wpAny (model X.prog X.w) X.A (eval a X.env) (λv s₁=>wpAny (model X.prog X.w) X.A (eval b X.env) (λu s₂=>wpAny (model X.prog X.w) X.A (f v u) Q X.xe s₂) X.xe s₁) X.xe s:=by
 refine bw (ha pins s σ H _ I h) λv s1 ⟨x,H1,I1,r1,q1⟩=>?_;refine bw (hb pins s1 σ H1 _ I1 q1) λu s2 ⟨y,H2,I2,r2,q2⟩=>?_;exact hf v u s2 x y H2 I2 r1 r2 q2
theorem IF(ho:iH X (binaryOp op) r)(ha:PE X a ta)(hb:PE X b tb):PE X (.BinOp a op b pos) (Ma r ta tb):=by intro pins s σ H Q I h;exact wpAny_BinOp (JH ha hb I h λv u s2 x y H2 I2 rx ry q=>ho pins s2 σ H2 x y v u Q I2 rx ry q)
theorem Mb(ho:Oe X (unaryOp op) r)(ha:PE X a ta):PE X (.UnaryOp op a pos) (Qf r ta):=by intro pins s σ H Q I h;exact UnaryOp_ (bw (ha pins s σ H _ I h) λv s1 ⟨x,H1,I1,r1,q1⟩=>ho pins s1 σ H1 x v Q I1 r1 q1)
theorem Nt{g:Int->Int->Int}
 (rule:∀(i j:Int) (t u:Tok) (s:UX) (Q:UD) (E:UD),C i j->Q (.int (g i j) s.toks) {s with toks:=s.toks+1}->wpAny (model X.prog X.w) X.A (f (.int i t) (.int j u)) Q E s) :
  iH X f (rI C λi j=>.int (g i j)):=by
 intro pins s σ H x y v u Q I rx ry h;obtain⟨i,j,rfl,rfl,hc,q⟩:=h;obtain⟨t,rfl⟩:=rx;obtain⟨t',rfl⟩:=ry;exact rule i j t t' s _ _ hc ⟨.int _,H,I.tok _,⟨_,rfl⟩,q⟩
theorem Mc{g:Int->Int->Int}
 (rule:∀(i j:Int) (t u:Tok) (s:UX) (Q:UD) (E:UD),Q (.int (g i j) s.toks) {s with toks:=s.toks+1}->wpAny (model X.prog X.w) X.A (f (.int i t) (.int j u)) Q E s) :
  iH X f (IE λi j=>.int (g i j)):=by
 intro pins s σ H x y v u Q I rx ry h;obtain⟨i,j,rfl,rfl,q⟩:=h;obtain⟨t,rfl⟩:=rx;obtain⟨t',rfl⟩:=ry;exact rule i j t t' s _ _ ⟨.int _,H,I.tok _,⟨_,rfl⟩,q⟩
theorem JI{g:Int->Int->Bool}
 (rule:∀(i j:Int) (t u:Tok) (s:UX) (Q:UD) (E:UD),Q (.bool (g i j)) s->wpAny (model X.prog X.w) X.A (f (.int i t) (.int j u)) Q E s) :
  iH X f (IE λi j=>.bl (g i j)):=by
 intro pins s σ H x y v u Q I rx ry h;obtain⟨i,j,rfl,rfl,q⟩:=h;obtain⟨t,rfl⟩:=rx;obtain⟨t',rfl⟩:=ry;exact rule i j t t' s _ _ ⟨.bl _,H,I,rfl,q⟩
def Md(i j:Int):Prop:=0<j/\j<1073741824
def Of(i j:Int):Prop:=0<=j/\j<=1000000/\i.natAbs<2^64
def JJ(i j:Int):Prop:=(-(2^64)<i/\i<2^64)\/(-(2^64)<j/\j<2^64)
theorem JJ.ok(h:JJ i j):IntMulOk i j:=by
 rcases h with⟨h1,h2⟩|⟨h1,h2⟩
 ·exact .of_left (intBits_le_64 h1 h2)
 ·exact .of_right (intBits_le_64 h1 h2)
theorem JK:iH X (binaryOp .Add) (IE λi j=>.int (i+j)):=Mc λ_ _ _ _ _ _ _ q=>add_int q
theorem JL:iH X (binaryOp .Sub) (IE λi j=>.int (i-j)):=Mc λ_ _ _ _ _ _ _ q=>sub_int q
theorem JM:iH X (binaryOp .Mult) (rI JJ λi j=>.int (i*j)):=Nt λ_ _ _ _ _ _ _ hc q=>mul_int q hc.ok
theorem GH:iH X (binaryOp .FloorDiv) (rI Md λi j=>.int (i / j)):=Nt λi j _ _ _ _ _ hc q=>by have h1  := hc.1;have h2  := hc.2;exact floordiv_int (by omega) (by grind) (.inl (PyProof.noPylong_small (by omega)))
theorem JN:iH X (binaryOp .Mod) (rI (λ_ j=>0<j) λi j=>.int (i % j)):=Nt λi j _ _ _ _ _ hc q=>mod_int' (by omega) (by rw[Int.fmod_eq_emod_of_nonneg i (by omega)];exact q)
theorem JO:iH X (binaryOp .Pow) (rI Of λi j=>.int (i^j.toNat)):=Nt λ_ _ _ _ _ _ _ hc q=>pow_int_small hc.1 hc.2.1 hc.2.2 q
theorem Qg{g:Int->Int}
 (rule:∀(i:Int) (t:Tok) (s:UX) (Q:UD) (E:UD),Q (.int (g i) s.toks) {s with toks:=s.toks+1}->wpAny (model X.prog X.w) X.A (f (.int i t)) Q E s) :
  Oe X f (rU λi=>.int (g i)):=by
 intro pins s σ H x v Q I rx h;obtain⟨i,rfl,q⟩:=h;obtain⟨t,rfl⟩:=rx;exact rule i t s _ _ ⟨.int (g i),H,I.tok _,⟨_,rfl⟩,q⟩
theorem JP:Oe X (unaryOp .USub) (rU λi=>.int (-i)):=Qg λ_ _ _ _ _ q=>neg_int q
end
noncomputable def Me:V->V->Bool
 |.non,.non=>true|.non,.int _=>true|.int _,.non=>true|.non,.bl _=>true|.bl _,.non=>true|.non,.str _=>true|.str _,.non=>true
 |.int _,.int _=>true|.bl _,.bl _=>true|.str _,.str _=>true|.byt _,.byt _=>true
 |.int _,.str _=>true|.str _,.int _=>true|.bl _,.str _=>true|.str _,.bl _=>true
 |_,_=>false
def Qh:R2:=λx y H Q=>Me x y=true/\Q (.bl (decide (x=y))) H
def Qi:R2:=λx y H Q=>Me x y=true/\Q (.bl (!decide (x=y))) H
theorem Bg:decide (V.int i=V.int j)=(i==j):=by
 grind
theorem DV:decide (V.bl i=V.bl j)=(i==j):=by
 grind
theorem Bh:decide (V.str i=V.str j)=(i==j):=by
 grind
theorem Bi:decide (V.byt i=V.byt j)=(i.toList==j.toList):=by
 rw[S7]
 simp_all
section
variable {X:Cx} {a b c:Expr} {ta tb tc:TE} {pos:Pos}
theorem bD{σ:St}(I:Inv X pins σ H s)(q:Q (.bl k) H)(e:k=k'):EP X pins σ Q (.bool k') s:=by subst e;exact⟨.bl k,H,I,rfl,q⟩
theorem Mf:iH X (compareOp .Eq) Qh:=by
 intro pins s σ H x y v u Q I rx ry h;obtain⟨hs,q⟩:=h
 cases x with
 |non=>
  cases rx
  cases y with
  |non=>cases ry;exact PySem.EqNone.eq_none_none (bD I q (by simp))
  |bl j=>cases ry;exact PySem.EqNone.eq_none_bool (bD I q (by simp))
  |int j=>obtain⟨t',rfl⟩:=ry;exact PySem.EqNone.eq_none_int (bD I q (by simp))
  |str j=>obtain⟨t',rfl⟩:=ry;exact PySem.EqNone.eq_none_str (bD I q (by simp))
  |_=>exact absurd (show false=true from hs) Q5
 |bl i=>
  cases rx
  cases y with
  |non=>cases ry;exact PySem.EqNone.eq_bool_none (bD I q (by simp))
  |bl j=>cases ry;exact eq_bool (bD I q DV)
  |str j=>obtain⟨t',rfl⟩:=ry;exact PySem.EqMixed.eq_bool_str (bD I q (by simp))
  |_=>exact absurd (show false=true from hs) Q5
 |int i=>
  obtain⟨t,rfl⟩:=rx
  cases y with
  |non=>cases ry;exact PySem.EqNone.eq_int_none (bD I q (by simp))
  |int j=>obtain⟨t',rfl⟩:=ry;exact eq_int (bD I q Bg)
  |str j=>obtain⟨t',rfl⟩:=ry;exact PySem.EqMixed.eq_int_str (bD I q (by simp))
  |_=>exact absurd (show false=true from hs) Q5
 |str i=>
  obtain⟨t,rfl⟩:=rx
  cases y with
  |non=>cases ry;exact PySem.EqNone.eq_str_none (bD I q (by simp))
  |bl j=>cases ry;exact PySem.EqMixed.eq_str_bool (bD I q (by simp))
  |int j=>obtain⟨t',rfl⟩:=ry;exact PySem.EqMixed.eq_str_int (bD I q (by simp))
  |str j=>obtain⟨t',rfl⟩:=ry;exact eq_str (bD I q Bh)
  |_=>exact absurd (show false=true from hs) Q5
 |byt i=>
  obtain⟨t,rfl⟩:=rx
  cases y with
  |byt j=>obtain⟨t',rfl⟩:=ry;exact PySem.W.eq_bytes (bD I q Bi)
  |_=>exact absurd (show false=true from hs) Q5
 |_=>cases y<;>exact absurd (show false=true from hs) Q5
theorem Mg:iH X (compareOp .NotEq) Qi:=by
 intro pins s σ H x y v u Q I rx ry h;obtain⟨hs,q⟩:=h
 cases x with
 |non=>
  cases rx
  cases y with
  |non=>cases ry;exact PySem.EqNone.ne_none_none (bD I q (by simp))
  |bl j=>cases ry;exact PySem.EqNone.ne_none_bool (bD I q (by simp))
  |int j=>obtain⟨t',rfl⟩:=ry;exact PySem.EqNone.ne_none_int (bD I q (by simp))
  |str j=>obtain⟨t',rfl⟩:=ry;exact PySem.EqNone.ne_none_str (bD I q (by simp))
  |_=>exact absurd (show false=true from hs) Q5
 |bl i=>
  cases rx
  cases y with
  |non=>cases ry;exact PySem.EqNone.ne_bool_none (bD I q (by simp))
  |bl j=>cases ry;exact ne_bool (bD I q (TZ not DV))
  |str j=>obtain⟨t',rfl⟩:=ry;exact PySem.EqMixed.ne_bool_str (bD I q (by simp))
  |_=>exact absurd (show false=true from hs) Q5
 |int i=>
  obtain⟨t,rfl⟩:=rx
  cases y with
  |non=>cases ry;exact PySem.EqNone.ne_int_none (bD I q (by simp))
  |int j=>obtain⟨t',rfl⟩:=ry;exact ne_int (bD I q (TZ not Bg))
  |str j=>obtain⟨t',rfl⟩:=ry;exact PySem.EqMixed.ne_int_str (bD I q (by simp))
  |_=>exact absurd (show false=true from hs) Q5
 |str i=>
  obtain⟨t,rfl⟩:=rx
  cases y with
  |non=>cases ry;exact PySem.EqNone.ne_str_none (bD I q (by simp))
  |bl j=>cases ry;exact PySem.EqMixed.ne_str_bool (bD I q (by simp))
  |int j=>obtain⟨t',rfl⟩:=ry;exact PySem.EqMixed.ne_str_int (bD I q (by simp))
  |str j=>obtain⟨t',rfl⟩:=ry;exact ne_str (bD I q (TZ not Bh))
  |_=>exact absurd (show false=true from hs) Q5
 |byt i=>
  obtain⟨t,rfl⟩:=rx
  cases y with
  |byt j=>obtain⟨t',rfl⟩:=ry;exact PySem.W.ne_bytes (bD I q (TZ not Bi))
  |_=>exact absurd (show false=true from hs) Q5
 |_=>cases y<;>exact absurd (show false=true from hs) Q5
theorem Mh:iH X (compareOp .LtE) (IE λi j=>.bl (decide (i<=j))):=JI λ_ _ _ _ _ _ _ q=>le_int q
theorem Mi:iH X (compareOp .Gt) (IE λi j=>.bl (decide (j<i))):=JI λ_ _ _ _ _ _ _ q=>gt_int q
theorem Mj:iH X (compareOp .GtE) (IE λi j=>.bl (decide (j<=i))):=JI λ_ _ _ _ _ _ _ q=>ge_int q
theorem CH:iH X (compareOp .In) (λx y H Q=>∃i j,x=.str i/\y=.str j/\Q (.bl (!(Builtin.Str.occurrences j i 0 j.length 1).isEmpty)) H):=by intro pins s σ H x y v u Q I rx ry h;obtain⟨i,j,rfl,rfl,q⟩:=h;obtain⟨t,rfl⟩:=rx;obtain⟨t',rfl⟩:=ry;exact in_str (bD I q rfl)
theorem wj:iH X (compareOp .NotIn) (λx y H Q=>∃i j,x=.str i/\y=.str j/\Q (.bl (!(!(Builtin.Str.occurrences j i 0 j.length 1).isEmpty))) H):=by intro pins s σ H x y v u Q I rx ry h;obtain⟨i,j,rfl,rfl,q⟩:=h;obtain⟨t,rfl⟩:=rx;obtain⟨t',rfl⟩:=ry;exact notIn_str (bD I q rfl)
theorem iH.or(h:iH X f r)(h':iH X f r'):iH X f (λx y H Q=>r x y H Q\/r' x y H Q):=by
 intro pins s σ H x y v u Q I rx ry q;rcases q with q|q
 ·exact h pins s σ H x y v u Q I rx ry q
 ·exact h' pins s σ H x y v u Q I rx ry q
theorem Og(b:Expr)(h:op≠.In:=by decide)(h2:op≠.NotIn:=by decide):behindInMarks op b=false:=by
 have e1:(op==CmpOp.In)=false:=by grind
 have e2:(op==CmpOp.NotIn)=false:=by grind
 cases b<;>simp[behindInMarks,e1,e2]
theorem GI(ho:iH X (compareOp op) r)(ha:PE X a ta)(hb:PE X b tb)(hm:behindInMarks op b=false):PE X (.Compare a [op] [b] pos) (Ma r ta tb):=by intro pins s σ H Q I h;exact wpAny_Compare1 (JH ha hb I h λv u s2 x y H2 I2 rx ry q=>ho pins s2 σ H2 x y v u Q I2 rx ry q) hm
def IG(t:TE):TT:=λσ H Q=>t σ H λx H'=>∃k,x=.bl k/\Q k H'
theorem GJ(ho:iH X (compareOp op) r)(ha:PE X a ta)(hb:PE X b tb)(hm:behindInMarks op b=false):PT X (.Compare a [op] [b] pos) (IG (Ma r ta tb)):=by
 intro pins s σ H Q I h
 refine wpAny_isTrue_Compare1 (bw (ha pins s σ H _ I h) λv s1 ⟨x,H1,I1,r1,q1⟩=>bw (hb pins s1 σ H1 _ I1 q1) λu s2 ⟨y,H2,I2,r2,q2⟩=>
  bw (ho pins s2 σ H2 x y v u _ I2 r1 r2 q2) λc s3 ⟨z,H3,I3,r3,k,e,q3⟩=>?_) hm
 subst e;cases r3;exact RX ⟨H3,I3,q3⟩
def zS(r r':R2)(ta tb tc:TE):TE:=λσ H Q=>ta σ H λx H1=>tb σ H1 λy H2=>r x y H2 λz H3=>∃k,z=.bl k /\
 (if k=true then tc σ H3 λw' H4=>r' y w' H4 Q else Q (.bl false) H3)
theorem DX(ho:iH X (compareOp op) r)(ho':iH X (compareOp op') r')(ha:PE X a ta)(hb:PE X b tb)(hc:PE X c tc)
 (hm:lastMarks [op,op'] [b,c]=false:=by with_unfolding_all rfl):PE X (.Compare a [op,op'] [b,c] pos) (zS r r' ta tb tc):=by
 intro pins s σ H Q I h
 refine Compare_chain (bw (ha pins s σ H _ I h) λv s1 ⟨x,H1,I1,r1,q1⟩=>chain_link (bw (hb pins s1 σ H1 _ I1 q1) λu s2 ⟨y,H2,I2,r2,q2⟩=>
  bw (ho pins s2 σ H2 x y v u _ I2 r1 r2 q2) λd s3 ⟨z,H3,I3,r3,k,e,q3⟩=>?_)) hm
 subst e;cases r3;refine RX ?_
 cases k with
 |false=>exact ite_ff ⟨.bl false,H3,I3,rfl,q3⟩
 |true=>exact ite_tt (chain_last (bw (hc pins s3 σ H3 _ I3 q3) λw' s4 ⟨z',H4,I4,r4,q4⟩=>ho' pins s4 σ H4 y z' u w' Q I4 r2 r4 q4))
theorem DY(ho:iH X (compareOp op) r)(ho':iH X (compareOp op') r')(ha:PE X a ta)(hb:PE X b tb)(hc:PE X c tc)
 (hm:lastMarks [op,op'] [b,c]=false:=by with_unfolding_all rfl):PT X (.Compare a [op,op'] [b,c] pos) (IG (zS r r' ta tb tc)):=by
 intro pins s σ H Q I h
 refine isTrue_chain (bw (ha pins s σ H _ I h) λv s1 ⟨x,H1,I1,r1,q1⟩=>test_link (bw (hb pins s1 σ H1 _ I1 q1) λu s2 ⟨y,H2,I2,r2,q2⟩=>
  bw (ho pins s2 σ H2 x y v u _ I2 r1 r2 q2) λd s3 ⟨z,H3,I3,r3,k,e,q3⟩=>?_)) hm
 subst e;cases r3;refine RX ?_
 cases k with
 |false=>obtain⟨k',e',q'⟩:=q3;cases e';exact ite_ff ⟨H3,I3,q'⟩
 |true=>refine ite_tt (test_last (bw (hc pins s3 σ H3 _ I3 q3) λw' s4 ⟨z',H4,I4,r4,q4⟩=>bw (ho' pins s4 σ H4 y z' u w' _ I4 r2 r4 q4) λd' s5 ⟨z2,H5,I5,r5,k2,e2,q5⟩=>?_));subst e2;cases r5;exact RX ⟨H5,I5,q5⟩
noncomputable def JQ(K:UM)(x:V)(H:Hp)(k:Bool):Prop:=
 match x with
 |.non=>k=false
 |.bl b=>k=b
 |.int i=>k=(i != 0)
 |.str y=>y.length<=sizeLine/\k=((y.length:Int) != 0)
 |.byt y=>y.size<=sizeLine/\k=((y.size:Int) != 0)
 |.ref p=>(∃xs,jz K H p xs/\k=!xs.isEmpty)\/(∃xs,gB K H p xs/\k=!xs.isEmpty)\/∃kvs,H p=some (.dK kvs)/\k=!kvs.isEmpty
 |_=>False
theorem zT(r:KV kvs vs):(!vs.isEmpty)=!kvs.isEmpty:=by cases r<;>rfl
theorem rD(r:Vals xs its):(!its.toArray.isEmpty)=!xs.isEmpty:=by cases r<;>simp
theorem rE:(sizeLine:Nat)<2^63:=by trivial
theorem zU:JG X (λx H Q=>∃k,JQ X.K x H k/\Q k H):=by
 intro pins s σ H x v Q I rx h;obtain⟨k,e,q⟩:=h;have hl:=rE;have hs:sizeLine=16777216:=R9
 cases x with
 |non=>cases rx;have e':k=false:=e;subst e';exact truthy_none ⟨H,I,q⟩
 |bl b=>cases rx;have e':k=b:=e;subst e';exact RX ⟨H,I,q⟩
 |int i=>obtain⟨t,rfl⟩:=rx;have e':k=(i != 0):=e;subst e';exact PySem.P.truthy_int ⟨H,I,q⟩
 |str y=>obtain⟨t,rfl⟩:=rx;obtain⟨hy,e'⟩:y.length<=sizeLine/\k=((y.length:Int) != 0):=e;subst e';exact PySem.P.truthy_str (by omega) ⟨H,I.tok _,q⟩
 |byt y=>obtain⟨t,rfl⟩:=rx;obtain⟨hy,e'⟩:y.size<=sizeLine/\k=((y.size:Int) != 0):=e;subst e';exact PySem.W.truthy_bytes (by omega) ⟨H,I.tok _,q⟩
 |ref p=>
  cases rx;have e':(∃xs,jz X.K H p xs/\k=!xs.isEmpty)\/(∃xs,gB X.K H p xs/\k=!xs.isEmpty)\/∃kvs,H p=some (.dK kvs)/\k=!kvs.isEmpty:=e;rcases e' with⟨xs,hx,e'⟩|⟨xs,hx,e'⟩|⟨kvs,hx,e'⟩
  ·subst e';obtain⟨its,r,pl,hz⟩:=I.list hx;have hlen:=r.length;exact wpAny_truthy_list pl.isList (by simp only[Q1];omega) ⟨H,I.tok _,by rw[rD r];exact q⟩
  ·subst e';obtain⟨its,r,pl,hz⟩:=I.tuple hx;have hlen:=r.length;exact truthy_tuple pl (by simp only[Q1];omega) ⟨H,I.tok _,by rw[rD r];exact q⟩
  ·subst e';obtain⟨hz,hS,vs,r,m⟩:kvs.length<=sizeLine/\(p==sysModules)=false/\∃vs,KV kvs vs/\s.heap.DictOf (bJ X.prog X.w) p vs:=I.hok p _ hx;have hlen:kvs.length=vs.length:=Q0 r;exact wpAny_truthy_dict hS m (by omega) ⟨H,I.tok _,by rw[zT r];exact q⟩
 |_=>exact(show False from e).elim
theorem DZ(ha:PE X a ta)(he:∀whole,isTrue a X.env whole=(do let v <- whole;standAt a.pos;holding [v] (truthy v))) :
  PT X a (λσ H Q=>ta σ H λx H'=>∃k,JQ X.K x H' k/\Q k H'):=by
 intro pins s σ H Q I h;exact isTrue_plain (bw (ha pins s σ H _ I h) λv s1 ⟨x,H1,I1,r1,q1⟩=>zU pins s1 σ H1 x v Q I1 r1 q1) (he _)
theorem zV:iH X (binaryOp .Add) (λx y H Q=>∃i j,x=.str i/\y=.str j/\i.length+j.length<=sizeLine/\Q (.str (i++j)) H):=by intro pins s σ H x y v u Q I rx ry h;obtain⟨i,j,rfl,rfl,hz,q⟩:=h;obtain⟨t,rfl⟩:=rx;obtain⟨t',rfl⟩:=ry;exact add_str (λt' tk=>⟨.str _,H,I.tok _,⟨_,rfl⟩,q⟩) hz
theorem vals1(r:Vals [x] us):∃u,us=[u]/\RelV x u:=by
 cases r with
 |cons r1 r2=>cases r2;grind
theorem vals2(r:Vals [x,y] us):∃u w',us=[u,w']/\RelV x u/\RelV y w':=by
 cases r with
 |cons r1 r2=>
  cases r2 with
  |cons r3 r4=>cases r4;grind
theorem CI(hc:X.calm=true):dP X (.builtin "max") (λxs H Q=>∃i j,xs=[.int i,.int j]/\Q (.int (if j>i then j else i)) H):=by
 intro pins s σ H xs us Q I r h;obtain⟨i,j,rfl,q⟩:=h;obtain⟨u,w',rfl,⟨t,rfl⟩,⟨t',rfl⟩⟩:=vals2 r;refine max_two_ints (I.ok.hd hc) λh' tk k=>⟨_,H,I.kept k,?_,q⟩;by_cases hj:j>i
 ·rw[if_pos hj,if_pos hj];exact⟨_,rfl⟩
 ·rw[if_neg hj,if_neg hj];exact⟨_,rfl⟩
theorem CJ:dP X (.type "int") (λxs H Q=>(∃i,xs=[.int i]/\Q (.int i) H)\/∃k,xs=[.bl k]/\Q (.int (if k then 1 else 0)) H):=by
 intro pins s σ H xs us Q I r h;rcases h with⟨i,rfl,q⟩|⟨k,rfl,q⟩
 ·obtain⟨u,rfl,t,rfl⟩:=vals1 r;exact call_int_int ⟨.int i,H,I,⟨_,rfl⟩,q⟩
 ·obtain⟨u,rfl,r1⟩:=vals1 r;cases r1;exact call_int_bool ⟨.int _,H,I.tok _,⟨_,rfl⟩,q⟩
def Oh(K:UM)(x:V)(H:Hp)(n:Nat):Prop:=
 match x with
 |.str y=>y.length<=sizeLine/\n=y.length
 |.byt y=>y.size<=sizeLine/\n=y.size
 |.ref p=>(∃xs,jz K H p xs/\n=xs.length)\/∃xs,gB K H p xs/\n=xs.length
 |_=>False
theorem D0:dP X (.builtin "len") (λxs H Q=>∃x n,xs=[x]/\Oh X.K x H n/\Q (.int n) H):=by
 intro pins s σ H xs us Q I r h;obtain⟨x,n,rfl,e,q⟩:=h;obtain⟨u,rfl,rx⟩:=vals1 r;have hl:=rE;have hs:sizeLine=16777216:=R9
 cases x with
 |str y=>obtain⟨t,rfl⟩:=rx;obtain⟨hy,e'⟩:y.length<=sizeLine/\n=y.length:=e;subst e';exact len_str (by omega) ⟨.int _,H,I.tok _,⟨_,rfl⟩,q⟩
 |byt y=>obtain⟨t,rfl⟩:=rx;obtain⟨hy,e'⟩:y.size<=sizeLine/\n=y.size:=e;subst e';exact PySem.W.len_bytes (by omega) ⟨.int _,H,I.tok _,⟨_,rfl⟩,q⟩
 |ref p=>
  cases rx;have e':(∃xs,jz X.K H p xs/\n=xs.length)\/∃xs,gB X.K H p xs/\n=xs.length:=e;rcases e' with⟨xs,hx,e'⟩|⟨xs,hx,e'⟩
  ·subst e';obtain⟨its,r',pl,hz⟩:=I.list hx;have hlen:=r'.length;exact Calls.call_len_list pl.isList (by simp only[Q1];omega) ⟨.int xs.length,H,I.tok _,⟨_,by simp only[Q1];rw[hlen]⟩,q⟩
  ·subst e';obtain⟨its,r',pl,hz⟩:=I.tuple hx;have hlen:=r'.length;exact len_tuple pl (by simp only[Q1];omega) ⟨.int xs.length,H,I.tok _,⟨_,by simp only[Q1];rw[hlen]⟩,q⟩
 |_=>exact(show False from e).elim
theorem x9:dP X (.builtin "divmod") (λxs H Q=>∃i j,xs=[.int i,.int j]/\Md i j/\∀p,H p=none->Q (.ref p) (upd H p (.tup [.int (i / j),.int (i % j)]))):=by intro pins s σ H xs us Q I r h;obtain⟨i,j,rfl,⟨h1,h2⟩,q⟩:=h;obtain⟨u,w',rfl,⟨t,rfl⟩,⟨t',rfl⟩⟩:=vals2 r;refine divmod_int (by omega) ?_ (.inl (PyProof.noPylong_small (by omega)));rw[Int.fdiv_eq_ediv_of_nonneg i (by omega),Int.fmod_eq_emod_of_nonneg i (by omega)];have hn  := I.hok.fresh (QE _);refine⟨.ref s.heap.objs.size,_,?_,rfl,q _ hn⟩;refine I.laid (λb o e=>QC _ e) (QE _) ⟨by simp_all[R9],[.int _ s.toks,.int _ (s.toks+1)],.cons ⟨_,rfl⟩ (.cons ⟨_,rfl⟩ .nil),?_⟩;exact⟨_,QJ s.heap rfl,rfl,0,rfl⟩
end
structure JR(h:Heap)(x dx C:Addr)(mA:UI):Prop where
 obj:h.get? x=some (PySem.W.instObj C dx)
 ns:h.Ns1 dx mA
 ne:dx≠x
theorem CK{h:Heap}(n:h.Ns1 dx mA):∃od,h.get? dx=some od/\∀name,PySem.W.lookIn name od=some (mA name):=by
 obtain⟨o,es,ep,ho,hd,hk,_,hm⟩:=n;refine⟨o,ho,λname=>?_⟩;have e:=hm name;unfold nsFind findBy at e;rw[<- Array.find?_toList]at e;unfold PySem.W.lookIn;rw[hd];dsimp only;split
 ·grind
 ·rename_i q;rw[q]at e;have a:es.toList.any (·.refKey)=false:=by rw[List.any_eq_false];intro y hy;obtain⟨z,t,hkey⟩:=hk y (SD.mp hy);simp[DictEntry.refKey,hkey]
  have a':¬ es.toList.any (·.refKey)=true:=by rw[a];exact Q5
  rw[if_neg a'];exact TZ some e
theorem JR.look(I:JR h x dx C mA):∃od,PySem.W.InstAt h x (PySem.W.instObj C dx) C (some od)/\∀name,PySem.W.lookIn name od=some (mA name):=
 let ⟨od,ho,hl⟩:=CK I.ns
 ⟨od,⟨I.obj,rfl,rfl,ho⟩,hl⟩
theorem pb.some_of(r:pb (some v) o):∃u,o=some u/\RelV v u:=by
 cases o with
 |none=>trivial
 |some u=>exact⟨u,rfl,r⟩
section
variable {P:UT} {w:World} {H H':Hp} {h h':Heap} {a C dx:Addr} {fs fs':List (Str×V)}
theorem GK(hok:kH P w H h)(e:H a=some (.ins C dx fs)):∃mA,JR h a dx C mA/\(∀f,pb (fs.lookup f) (mA f))/\PySem.Within mA (fs.map (·.1))/\fs.length<=1000/\H dx=some (.own a):=by obtain⟨d,z,ne,ob,mA,n,r,q⟩:=(hok a _ e);exact⟨mA,⟨ob,n,ne⟩,r,q,z,d⟩
end
structure Oi(K:UM)(C:Addr):Prop where
 pg:PySem.W.plainGet K C Str.empty=true
 hd:PySem.W.hasDictIn K C=true
 po:PySem.W.plainOver K C=true
 sa:PySem.W.findIn K (.ref C) "__setattr__" = some (some (.builtin "object.__setattr__"))
theorem Oi.get{K:UM}{C:Addr}(c:Oi K C)(f:Str):PySem.W.plainGet K C f=true:=c.pg
section
variable {X:Cx} {pins:UE} {σ:St} {H:Hp} {s:UX} {A:UW} {E:UD} {Q:UD} {c:Value} {b:Bool}
inductive nR (K:UM) (H:Hp):V->Value->Prop where
 |non:nR K H .non (.type "NoneType")
 |bl (x:Bool):nR K H (.bl x) (.type "bool")
 |int (i:Int):nR K H (.int i) (.type "int")
 |str (x:Str):nR K H (.str x) (.type "str")
 |flt (x:UInt64):nR K H (.flt x) (.type "float")
 |lst {a:Addr} {xs:List V} (e:H a=some (.lst xs)):nR K H (.ref a) (.type "list")
 |frz {a:Addr} {o:Obj} {xs:List V} (e:H a=some (.frz o (.lst xs))):nR K H (.ref a) (.type "list")
 |tup {a:Addr} {xs:List V} (e:H a=some (.tup xs)):nR K H (.ref a) (.type "tuple")
 |dK {a:Addr} {kvs:List (Key×V)} (e:H a=some (.dK kvs)):nR K H (.ref a) (.type "dict")
 |dT {a:Addr} {kvs:List (List Key×V)} (e:H a=some (.dT kvs)):nR K H (.ref a) (.type "dict")
 |ins {a C dx:Addr} {fs:List (Str×V)} (e:H a=some (.ins C dx fs)) (cl:Oi K C) (ha:PySem.W.findIn K (.ref C) "__class__" = some (some (.builtin "object.__class__")))
   (hn:PySem.W.specialIn K (.builtin "object.__class__") "__get__" = some (some (.builtin "getset_descriptor.__get__"))) (htk:PySem.W.takesIn K (.builtin "object.__class__")=some true)
   (hm:PySem.W.mroIn K C (.type "object")=some true):nR K H (.ref a) (.ref C)
theorem CL(I:Inv X pins σ H s)(rx:RelV x u)(ty:nR X.K H x t)(e:PySem.W.kitOne X.K t c=some b)(h:∀tk,Q (.bool b) {s with toks:=tk}) :
  wpAny (model X.prog X.w) A (call (.builtin "isinstance") [u,c]) Q E s:=by
 cases ty with
 |non=>cases(show u=Value.none from rx);exact RL PySem.W.kitx_none I.uk True.intro e (λz=>nomatch z) h
 |bl y=>cases(show u=Value.bool y from rx);exact RL PySem.W.kitx_bool I.uk True.intro e (λz=>nomatch z) h
 |int i=>obtain⟨t,q⟩:=(show ∃t,u=Value.int i t from rx);cases q;exact RL PySem.W.kitx_int I.uk True.intro e (λz=>nomatch z) h
 |str y=>obtain⟨t,q⟩:=(show ∃t,u=Value.str y t from rx);cases q;exact RL PySem.W.kitx_str I.uk True.intro e (λz=>nomatch z) h
 |flt y=>obtain⟨t,q⟩:=(show ∃t,u=Value.float y t from rx);cases q;exact RL PySem.W.kitx_float I.uk True.intro e (λz=>nomatch z) h
 | @lst a xs ea=>cases(show u=Value.ref a from rx);obtain⟨_,_,n,_,h1⟩:=(show cC X.prog X.w H s.heap a (.lst xs)from I.hok a _ ea);exact RL PySem.W.kitx_list I.uk ⟨_,h1,rfl⟩ e (λz=>nomatch z) h
 | @frz a ob xs ea=>cases(show u=Value.ref a from rx);obtain⟨_,_,_,n,_,h1⟩:=(show cC X.prog X.w H s.heap a (.frz ob (.lst xs))from I.hok a _ ea);exact RL PySem.W.kitx_list I.uk ⟨_,h1,rfl⟩ e (λz=>nomatch z) h
 | @tup a xs ea=>cases(show u=Value.ref a from rx);obtain⟨_,_,_,p⟩:=(show cC X.prog X.w H s.heap a (.tup xs)from I.hok a _ ea);obtain⟨o,h1,h2,_⟩:=p;exact RL PySem.W.kitx_tuple I.uk ⟨o,h1,h2⟩ e (λz=>nomatch z) h
 | @dK a kvs ea=>cases(show u=Value.ref a from rx);obtain⟨_,_,vs,_,p⟩:=(show cC X.prog X.w H s.heap a (.dK kvs)from I.hok a _ ea);obtain⟨o,es,ep,h1,h2,_⟩:=p;exact RL PySem.W.kitx_dict I.uk ⟨o,h1,h2.1⟩ e (λz=>nomatch z) h
 | @dT a kvs ea=>cases(show u=Value.ref a from rx);obtain⟨_,_,xs,_,o,es,ep,h1,h2,_⟩:=(show cC X.prog X.w H s.heap a (.dT kvs)from I.hok a _ ea);exact RL PySem.W.kitx_dict I.uk ⟨o,h1,h2.1⟩ e (λz=>nomatch z) h
 | @ins a C dx fs ea cl ha hn htk hm=>cases(show u=Value.ref a from rx);obtain⟨mA,O,_⟩:=GK I.hok ea;obtain⟨od,J,_⟩:=O.look;exact RL (PySem.W.kitx_own (cl.get _) cl.hd ha hn htk hm) I.uk J e (λz=>nomatch z) h
end
structure cg(k:Nat)(A:UW):Prop where
 hd:A.handled=none
 dp:A.depth+3*k+5<recursionLimit
 un:A.units+16*k+200<cLine
 gd:A.guards=some []
theorem cg.mono(r:cg k A)(h:j<=k):cg j A:=⟨r.hd,by have:=r.dp;omega,by have:=r.un;omega,r.gd⟩
theorem cg.deeper(r:cg (k+1) A)(env:Env):cg k (A.deeper env):=
 ⟨r.hd,by have:=r.dp;show A.depth+1+3*k+5<_;omega,by have:=r.un;show A.units+3+16*k+200<_;omega,r.gd⟩
theorem cg.depth(r:cg k A):A.depth<recursionLimit:=by have:=r.dp;omega
theorem cg.units(r:cg k A):A.units+64<cLine:=by have:=r.un;omega
def JS:TA:=λ_ H Q=>Q [] H
def IH(ta:TE)(tr:TA):TA:=λσ H Q=>ta σ H λx H1=>tr σ H1 λxs H2=>Q (x::xs) H2
section
variable {X:Cx} {e:Expr} {es:UO} {te:TE} {t:TA} {pos:Pos}
theorem rF:PA X [] JS:=λ_ _ _ _ H Q I h=>SG ⟨[],H,I,.nil,h⟩
theorem lV(ha:PE X e te)(hr:PA X es t)(hs:starEach (e::es) X.env=(false,eval e X.env)::starEach es X.env:=by rfl):PA X (e::es) (IH te t):=by intro pos pins s σ H Q I h;rw[hs];refine R6 (bw (ha pins s σ H _ I h) λu s1 ⟨x,H1,I1,r1,q1⟩=>?_);exact bw (hr pos pins s1 σ H1 _ I1 q1) λus s2 ⟨xs,H2,I2,r2,q2⟩=>⟨x::xs,H2,I2,.cons r1 r2,q2⟩
def Oj(t:TA):TE:=λσ H Q=>t σ H λxs H1=>xs.length<=sizeLine/\∀p,H1 p=none->Q (.ref p) (upd H1 p (.tup xs))
def Ol(t:TA):TE:=λσ H Q=>t σ H λxs H1=>xs.length<=sizeLine/\∀p,H1 p=none->Q (.ref p) (upd H1 p (.lst xs))
theorem D1(h:PA X es t):PE X (.Tuple es x1 pos) (Oj t):=by intro pins s σ H Q I hq;refine wpAny_Tuple_spliced (bw (h pos pins s σ H _ I hq) λus s1 ⟨xs,H1,I1,r,z,q⟩=>⟨by grind[r.length],?_⟩);have hf  := I1.hok.fresh (QE _);refine⟨.ref s1.heap.objs.size,upd H1 s1.heap.objs.size _,I1.laid (λb u e=>QC _ e) (QE _) ?_,rfl,q _ hf⟩;exact⟨z,us,r,⟨_,QJ _ rfl,rfl,_,rfl⟩⟩
theorem zW(h:PA X es t):PE X (.List es pos) (Ol t):=by intro pins s σ H Q I hq;refine wpAny_List_spliced (bw (h pos pins s σ H _ I hq) λus s1 ⟨xs,H1,I1,r,z,q⟩=>⟨by grind[r.length],?_⟩);have hf  := I1.hok.fresh (QE _);refine⟨.ref s1.heap.objs.size,upd H1 s1.heap.objs.size _,I1.laid (λb u e=>QC _ e) (QE _) ?_,rfl,q _ hf⟩;exact⟨z,us,0,r,QJ _ rfl⟩
end
abbrev Sp:=List V->Hp->VK->XK->Prop
abbrev JT:=List Env->Hp->UX->XK->UD
structure GL(P:UT)(w:World)(K:UM)(mg:UI)(base:Heap)(A:UW)(outer:List Env)(s:UX)(H:Hp):Prop where
 frames:A.frames=some outer
 mod:Mod K mg base
 bs:∀b o,base.get? b=some o->s.heap.get? b=some o/\H b=none
 bsz:base.objs.size<=s.heap.objs.size
 pe:s.heap.FunFrames base outer
 frf:∀b∈uj outer,H b=none
 hok:kH P w H s.heap
 bare:AllBare s.gens
def CE(outer:List Env)(P:UT)(w:World)(H:Hp)(s:UX)(Q:VK)(u:Value)(s':UX):Prop:=
 ∃v H',s'.os=s.os/\AllBare s'.gens/\Un (uj outer) [] H H' s.heap s'.heap/\kH P w H' s'.heap/\RelV v u/\Q v H'
def CR(CX:JT)(outer:List Env)(P:UT)(w:World)(H:Hp)(s:UX)(Q:VK)(E:XK)(r:Result)(s':UX):Prop:=
 match r with
 |.ok (.ret u)=>CE outer P w H s Q u s'
 |.ok _=>False
 |.error e=>CX outer H s E e s'
structure jA(P:UT)(w:World)(K:UM)(mg:UI)(base:Heap)(CX:JT)(k:Nat)(f:Addr)(fd:FuncData)(ps:UN)(sp:Sp):Prop where
 len:∀vs H Q E,sp vs H Q E->vs.length=ps.length
 run:∀(A:UW) (outer:List Env) (s:UX) (H:Hp) (args:Args) (us:UL) (vs:List V) (Q:VK) (E:XK),cg k A->GL P w K mg base A outer s H->BindsTo s fd args (ps.zip us)->Vals vs us->sp vs H Q E ->
  codeAny (model P w) A (.call (.ref f) args) (CR CX outer P w H s Q E) s
theorem jA.mono{K:UM}(F:jA P w K mg base CX j f fd ps sp)(h:j<=k) :
  jA P w K mg base CX k f fd ps sp:=⟨F.len,λA outer s H args us vs Q E hr=>F.run A outer s H args us vs Q E (hr.mono h)⟩
theorem jA.imp{K:UM}(F:jA P w K mg base CX k f fd ps sp)
 (h:∀vs H Q E,sp' vs H Q E->sp vs H Q E):jA P w K mg base CX k f fd ps sp':=
 ⟨λvs H Q E q=>F.len vs H Q E (h _ _ _ _ q),λA outer s H args us vs Q E hr he hb hv hs=>F.run A outer s H args us vs Q E hr he hb hv (h _ _ _ _ hs)⟩
section
variable {X:Cx} {pins:UE} {σ:St} {H:Hp} {s s':UX}
theorem Inv.Om(I:Inv X pins σ H s):GL X.prog X.w X.K X.mg X.base X.A X.stack s H:=
 ⟨I.ok.frames,I.ok.mod,I.bs,QM I.ok.bsz I.sz,I.stack,I.Be,I.hok,I.bare⟩
theorem Inv.after(I:Inv X pins σ H s)(h:CE X.stack X.prog X.w H s Q u s'):EP X pins σ Q u s':=by obtain⟨v,H',os,bare,un,hok,r,q⟩:=h;obtain⟨hh,g,d,t,os'⟩:=s';obtain rfl:os'=s.os:=os;exact⟨v,H',I.call un hok bare (λb z=>absurd z (by simp)),r,q⟩
end
def D2(sp:Sp)(dvs:List V)(E:XK)(t:TA):TE:=λσ H Q=>t σ H λvs H1=>sp (vs++dvs) H1 Q E
def Binds(K:UM)(fd:FuncData)(ps:UN)(ds:UL):Prop:=
 ∀(s:UX) (us:UL),K.In s.heap->(us++ds).length=ps.length->BindsTo s fd ⟨us,[]⟩ (ps.zip (us++ds))
theorem Binds.all{K:UM}(h:∀us:UL,us.length=ps.length->bindArgs fd ⟨us,[]⟩=pure (ps.zip us)):Binds K fd ps []:=λs us _ hl=>by rw[Ug]at hl ⊢;exact .of_eq (h us hl)
def Passes(CX:JT)(X:Cx)(E:XK):Prop:=∀(pins:UE) (σ:St) (H:Hp) (s:UX) (e:Value) (s':UX),Inv X pins σ H s->CX X.stack H s E e s'->X.xe e s'
section
variable {X:Cx} {CX:JT} {k:Nat} {f C:Addr} {fd:FuncData} {ps:UN} {sp:Sp} {dvs:List V} {ds:UL} {E:XK} {x m:Str} {p pos apos:Pos} {e o:Expr} {es:UO} {ta:TE} {t:TA}
theorem zX{σ:St}(F:jA X.prog X.w X.K X.mg X.base CX k f fd ps sp)(hr:cg k X.A)(hb:Binds X.K fd ps ds)(hd:Vals dvs ds)(hx:Passes CX X E)
 (I:Inv X pins σ H s)(r:Vals vs us)(h:sp (vs++dvs) H Q E):wpAny (model X.prog X.w) X.A (call (.ref f) us) (EP X pins σ Q) X.xe s:=by
 have r2  := r.append hd;have hl:(us++ds).length=ps.length:=by rw[<- r2.length];exact F.len _ _ _ _ h
 refine wpAny_call (T3 (F.run X.A X.stack s H _ _ _ Q E hr I.Om (hb s us I.uk hl) r2 h) λr s' hq=>?_)
 cases r with
 |error e=>exact hx pins σ H s e s' I hq
 |ok fl=>
  cases fl with
  |ret u=>exact I.after hq
  |next=>assumption
  |brk=>assumption
  |cont=>assumption
theorem GN(F:jA X.prog X.w X.K X.mg X.base CX k f fd ps sp)(hr:cg k X.A)(hg:Gl X x)(hm:X.mg x=some (.ref f))(hk:PySem.W.keepIn X.K (.ref f)=true)(hb:Binds X.K fd ps ds)(hd:Vals dvs ds)(hx:Passes CX X E)
 (ha:PA X (e::es) t)(hdb:(x==("__debug__" : Str))=false:=by decide)(he:starEach (e::es) X.env=(false,eval e X.env)::starEach es X.env:=by rfl)(hpl:(backTo pos (starEach es X.env)).any (·.1)=false:=by rfl) :
  PE X (.Call (.Name x p) (e::es) [] pos) (D2 sp dvs E t):=by
 intro pins s σ H Q I h;refine RB (we I hg hm ?_ hdb);refine PySem.W.callWith_K I.ok.mod.kin hk (bw (ha pos pins s σ H _ I h) λus s1 ⟨vs,H1,I1,r,q⟩=>⟨I1.uk,?_⟩) he hpl;exact zX F hr hb hd hx I1 r q
theorem D3(F:jA X.prog X.w X.K X.mg X.base CX k f fd ps sp)(hr:cg k X.A)(hg:Gl X x)(hm:X.mg x=some (.ref f))(hk:PySem.W.keepIn X.K (.ref f)=true)(hb:Binds X.K fd ps ds)(hd:Vals dvs ds)(hx:Passes CX X E)
 (hdb:(x==("__debug__" : Str))=false:=by decide):PE X (.Call (.Name x p) [] [] pos) (D2 sp dvs E JS):=by
 intro pins s σ H Q I h;refine RB (we I hg hm ?_ hdb);exact PySem.W.callWith_K0 I.uk hk (zX F hr hb hd hx I .nil h)
end
structure aN(N P:UN)(sc:Scope):Prop where
 kind:sc.kind=.function
 co:sc.isCoroutine=false
 gen:sc.isGenerator=false
 nd:N.Nodup
 pre:N.take P.length=P
 par:∀x∈P,sc.names.lookup x=some .local\/sc.names.lookup x=some .cell
 nofree:∀y∈sc.names,y.2≠.free
theorem u5{kindOf:Str->Option NameKind}:∀{binds:List (Str×Value)} {m:UI},(∀v,(x,v)∉binds)->bindL kindOf binds m x=m x
 | [],_,_=>rfl
 | (n,v)::r,m,h=>by
  unfold bindL;rw[u5 λw hw=>h w (QL _ hw)];split
  ·grind
  ·rfl
theorem u6{kindOf:Str->Option NameKind}:∀{binds:List (Str×Value)} {m:UI},(∀v,(x,v)∉binds)->bindC kindOf binds m x=m x
 | [],_,_=>rfl
 | (n,v)::r,m,h=>by
  unfold bindC;rw[u6 λw hw=>h w (QL _ hw)];split
  ·rfl
  grind
theorem u7{kindOf:Str->Option NameKind}:∀{P:UN} {vs:UL} {i:Nat} {m:UI},P.Nodup->P[i]?=some x->vs[i]?=some v->kindOf x=some .local ->
  bindL kindOf (P.zip vs) m x=some v
 | [],_,_,_,_,h,_,_=>by simp at h
 |_::_,[],_,_,_,_,h,_=>by simp at h
 |p::P,w::vs,0,m,nd,h1,h2,hk=>by simp at h1 h2;subst h1;subst h2;show bindL kindOf ((p,w)::P.zip vs) m p=_;unfold bindL;rw[u5 λv hv=>(R3.mp nd).1 (Uh hv).1,if_pos hk];simp
 |p::P,w::vs,i+1,m,nd,h1,h2,hk=>by show bindL kindOf ((p,w)::P.zip vs) m x=_;unfold bindL;exact u7 (i:=i) (R3.mp nd).2 (by simpa using h1) (by simpa using h2) hk
theorem u9{kindOf:Str->Option NameKind}:∀{P:UN} {vs:UL} {i:Nat} {m:UI},P.Nodup->P[i]?=some x->vs[i]?=some v->kindOf x≠some .local ->
  bindC kindOf (P.zip vs) m x=some v
 | [],_,_,_,_,h,_,_=>by simp at h
 |_::_,[],_,_,_,_,h,_=>by simp at h
 |p::P,w::vs,0,m,nd,h1,h2,hk=>by simp at h1 h2;subst h1;subst h2;show bindC kindOf ((p,w)::P.zip vs) m p=_;unfold bindC;rw[u6 λv hv=>(R3.mp nd).1 (Uh hv).1,if_neg hk];simp
 |p::P,w::vs,i+1,m,nd,h1,h2,hk=>by show bindC kindOf ((p,w)::P.zip vs) m x=_;unfold bindC;exact u9 (i:=i) (R3.mp nd).2 (by simpa using h1) (by simpa using h2) hk
def start(N:UN)(vs:List V):St:=vs.map some++List.replicate (N.length-vs.length) none
noncomputable def uv(CX:JT)(P:UT)(w:World)(K:UM)(mg:UI)(base:Heap)(N:UN)(qual:Str)(scope:Scope)(f:Addr)(cd:Value)(A:UW)(outer:List Env)(s:UX)(H:Hp)(E:XK):Cx where
 prog:=P
 w:=w
 K:=K
 mg:=mg
 base:=base
 A:=A.deeper (envOfC qual scope s.heap.objs.size f cd)
 N:=N
 s₀:=s
 H₀:=H
 env:=envOfC qual scope s.heap.objs.size f cd
 outer:=outer
 stack:=envOfC qual scope s.heap.objs.size f cd::outer
 ex:=[]
 calm:=true
 fn:=λ_=>true
 pn:=[]
 xe:=λe s'=>wpAny (model P w) (A.deeper (envOfC qual scope s.heap.objs.size f cd)) (leaving (envOfC qual scope s.heap.objs.size f cd) e) (λ_ s''=>CX outer H s E e s'') (λe' s''=>CX outer H s E e' s'') s'
theorem ya{sc:Scope}(h:sc.names.lookup x=some .cell):∃c,(cellsFrom n sc.names []).lookup x=some c:=by have q:=TL sc.names n [] (.inl h);exact Option.isSome_iff_exists.mp q
theorem CM{K:UM}
 (S:aN N ps scope)(hd:A.handled=none)(e0:GL P w K mg base A outer s H)(hl:vs.length=ps.length)(r:Vals vs us)
 (x:InCallC s s.heap.objs.size (bindL (envOfC qual scope s.heap.objs.size f cd).kindOf (ps.zip us) λ_=>none) (cellsFrom (s.heap.objs.size+1) scope.names []) (bindC (envOfC qual scope s.heap.objs.size f cd).kindOf (ps.zip us) λ_=>none) s1) :
  Inv (uv CX P w K mg base N qual scope f cd A outer s H E) [] (start N vs) H s1:=by
 have hpl:ps.length<=N.length:=by have:=TZ List.length S.pre;grind
 obtain⟨h1,tk,rfl,hk⟩:=x.done;have noA:∀b:Addr,b∉(uv CX P w K mg base N qual scope f cd A outer s H E).ex:=λb z=>absurd (show b∈([]:UK)from z) (by simp)
 refine⟨⟨e0.mod,S.kind,rfl,rfl,QE _,λy z c h1 h2=>?_,λy hy=>?_,λy c _ h=>?_,λ_=>hd,Around.frames_deeper e0.frames,.inr ⟨rfl,rfl⟩,λb z=>absurd z (noA b),e0.bs,e0.bsz,λb _ _=>noA b,λb z=>absurd z (noA b),e0.pe,e0.frf⟩,
  rfl,e0.bare,Un.kept hk,⟨_,x.toInCall.ns,λi y v h1 h2 h3=>?_⟩,λy c h=>⟨_,x.cell y c h⟩,e0.hok.fresh (QE _),λy c h=>?_,λp hp=>absurd (show p∈([]:UE)from hp) (by simp),e0.hok.kept hk,?_⟩
 ·exact name_of_addr x.apart (RN h1) (RN h2)
 ·have hy:scope.names.lookup y=some .cell\/scope.names.lookup y=some .free:=hy;rcases hy with hy|hy
  ·exact ya hy
  ·exact absurd rfl (S.nofree _ (RN hy))
 ·exact Tu (x.above y c (RN h))
 ·have hi:i<vs.length:=by
   unfold start at h2;by_cases hi:i<vs.length
   ·exact hi
   ·rw[Rk (by simpa using hi)]at h2;rw[SO]at h2;split at h2<;>cases h2
  have ha:vs[i]?=some v:=by
   unfold start at h2;rw[Q8 (by simpa using hi),RP]at h2
   cases e:vs[i]? with
   |none=>rw[e]at h2;cases h2
   |some a=>rw[e]at h2;cases h2;rfl
  obtain⟨u,hu,rv⟩:=r.get ha;have hp:ps[i]?=some y:=by rw[<- S.pre,List.getElem?_take_of_lt (by omega)];exact h1
  have ndP:ps.Nodup:=by rw[<- S.pre];exact S.nd.sublist (List.take_sublist _ _)
  refine⟨u,rv,?_⟩;rcases S.par y (QZ hp)with k|k
  ·exact .inl ⟨k,u7 ndP hp hu k⟩
  ·obtain⟨c,e⟩:=ya (n:=s.heap.objs.size+1) k;refine .inr ⟨.inl k,c,e,?_⟩;have q:=x.cell y c e;rw[u9 ndP hp hu (by show scope.names.lookup y≠_;rw[k];decide)]at q;exact q
 ·exact e0.hok.fresh (Tu (x.above y c (RN h)))
 ·unfold start;show _=N.length;rw[QW,QR,RI];omega
theorem Mk{K:UM}{dV kV doc pm cdv ct oc:Value}
 (lk:K.lookup f=some ⟨oc,od,.func (PySem.W.fnOf name qual params body scope dV kV doc pm an cdv ct),osl⟩)(hcd:PySem.W.codeIn K cdv qual=true)(S:aN N ps scope)
 (len:∀vs H Q E,sp vs H Q E->vs.length=ps.length)
 (hbody:∀(A:UW) (outer:List Env) (s:UX) (H:Hp) (vs:List V) (Q:VK) (E:XK),cg k (A.deeper (envOfC qual scope s.heap.objs.size f cdv))->sp vs H Q E ->
   ∃t,zL (uv CX P w K mg base N qual scope f cdv A outer s H E) body t/\t {nx:=λ_ H'=>Q .non H',rt:=Q} (start N vs) H) :
  jA P w K mg base CX (k+1) f (PySem.W.fnOf name qual params body scope dV kV doc pm an cdv ct) ps sp:=by
 refine⟨len,λA outer s H args us vs Q E hr e0 hb r hsp=>?_⟩;have hl:=len _ _ _ _ hsp;have KX:K.In s.heap:=e0.mod.kin.keeps λb o e=>(e0.bs b o e).1;have lim:s.heap.NoLimit:=e0.mod.nolimit.keeps λb o e=>(e0.bs b o e).1
 have hkind:∀y∈ps.zip us,scope.names.lookup y.1=some .local\/(scope.names.lookup y.1=some .cell/\((cellsFrom (s.heap.objs.size+1) scope.names []).lookup y.1).isSome=true):=λ⟨n,v⟩ hy=>by
  rcases S.par n (Uh hy).1 with q|q
  ·grind
  ·exact .inr ⟨q,TL _ _ _ (.inl q)⟩
 refine codeAny_call_function hr.depth (KX _ _ lk) rfl S.co S.gen rfl (PySem.W.codeRec_of KX hcd) (hb _ _ _ _ ?_);refine wpAny_newFunctionEnv_cells S.kind hkind λenv he s1 x=>?_;subst he;refine⟨lim.keeps x.toInCall.keep,codeAny_func ?_⟩;obtain⟨t,ht,hq⟩:=hbody A outer s H vs Q E (hr.deeper _) hsp;have I:Inv (uv CX P w K mg base N qual scope f cdv A outer s H E) [] (start N vs) H s1:=CM S hr.hd e0 hl r x;refine RO (ht [] s1 (start N vs) H _ I hq) (λfl s' hs=>?_) λe s' hs=>hs
 have fin:∀{σ':St} {H':Hp} {v:V} {u:Value},Inv (uv CX P w K mg base N qual scope f cdv A outer s H E) [] σ' H' s'->RelV v u->Q v H'->CE outer P w H s Q u s':=
  λ{σ' H' v u} J rv q=>⟨v,H',J.os,J.bare,J.base,J.hok,rv,q⟩
 cases fl with
 |ret u=>obtain⟨v,σ',H',J,rv,q⟩:=hs;exact fin J rv q
 |next=>obtain⟨σ',H',J,q⟩:=hs;exact fin (v:=V.non) (u:=Value.none) J rfl q
 |brk=>obtain⟨_,_,_,q⟩:=hs;exact False.elim q
 |cont=>obtain⟨_,_,_,q⟩:=hs;exact False.elim q
section
variable {X:Cx} {x:Str} {p pos:Pos} {e:Expr} {es:UO} {t:TA} {id T:String} {r:List V->Hp->VK->Prop}
def Oo(r:List V->Hp->VK->Prop)(t:TA):TE:=λσ H Q=>t σ H λvs H1=>r vs H1 Q
theorem yb(hc:dP X (.builtin id) r)(hg:Gl X x)(hm:X.mg x=none)(hv:bootBuiltins x=some (.builtin id))(ha:PA X (e::es) t)(hn:x ≠ "__name__" := by decide)(hdb:(x==("__debug__" : Str))=false:=by decide)
 (he:starEach (e::es) X.env=(false,eval e X.env)::starEach es X.env:=by rfl)(hpl:(backTo pos (starEach es X.env)).any (·.1)=false:=by rfl):PE X (.Call (.Name x p) (e::es) [] pos) (Oo r t):=by
 intro pins s σ H Q I h;refine RB (jQ I hg hm hv ?_ hn hdb);exact SN (bw (ha pos pins s σ H _ I h) λus s1 ⟨vs,H1,I1,r1,q1⟩=>hc pins s1 σ H1 vs us Q I1 r1 q1) he hpl
theorem CN(hc:dP X (.type T) r)(hg:Gl X x)(hm:X.mg x=none)(hv:bootBuiltins x=some (.type T))(ha:PA X (e::es) t)(hn:x ≠ "__name__" := by decide)(hdb:(x==("__debug__" : Str))=false:=by decide)
 (he:starEach (e::es) X.env=(false,eval e X.env)::starEach es X.env:=by rfl)(hpl:(backTo pos (starEach es X.env)).any (·.1)=false:=by rfl):PE X (.Call (.Name x p) (e::es) [] pos) (Oo r t):=by
 intro pins s σ H Q I h;refine RB (jQ I hg hm hv ?_ hn hdb);exact RT (bw (ha pos pins s σ H _ I h) λus s1 ⟨vs,H1,I1,r1,q1⟩=>hc pins s1 σ H1 vs us Q I1 r1 q1) he hpl
end
end L2
namespace HT
open PySem PyProof.Rows
section
variable {prog:UT} {w:World} {A:UW} {E:UD} {s:UX}
theorem GO(ht:IsTup s.heap t vs.toArray)(hb:IsTup s.heap b ws.toArray)(hv:vs≠[])
 (h1:ws=[]->Q (.ref t) s)(h2:ws≠[]->Q (.ref s.heap.objs.size) {s with heap:=s.heap.push {cls:=.type "tuple",data:=.seq (vs++ws).toArray}})
 (hsz:vs.length+ws.length<=sizeLine):wpAny (model prog w) A (binaryOp .Add (.ref t) (.ref b)) Q E s:=by
 obtain⟨⟨cls,dd,data,sl⟩,ho,hc,n,hd⟩:=id ht;obtain⟨⟨cls2,dd2,data2,sl2⟩,ho2,hc2,n2,hd2⟩:=id hb;subst hc hd hc2 hd2;have e:vs.toArray++ws.toArray=(vs++ws).toArray:=by simp
 by_cases hw:ws=[]
 ·exact concat_meets ⟨_,ho,rfl⟩ ⟨_,ho2,rfl⟩ noFill_tuple_add seq_tuple_add TM TC (Tv _ _)
   (tuple_addW1 t b vs.toArray ws.toArray n n2 dd dd2 sl sl2 (by grind) (by grind)) ⟨ho,ho2,h1 hw⟩
 ·refine concat_meets ⟨_,ho,rfl⟩ ⟨_,ho2,rfl⟩ noFill_tuple_add seq_tuple_add TM TC (Tv _ _)
   (tuple_addW2 t b vs.toArray ws.toArray n n2 dd dd2 sl sl2 (by grind) (by simp_all) (by omega)) ⟨ho,ho2,?_⟩
  simp_all
def fi(n d:Nat):Option Int->Nat
 |none=>d
 |some v=>if v<0 then(v+(n:Int)).toNat else min v.toNat n
theorem JU(n d:Nat)(hd:d<=n)(o:Option Int):fi n d o<=n:=by
 cases o with
 |none=>exact hd
 |some v=>
  show(if v<0 then(v+(n:Int)).toNat else min v.toNat n)<=n
  grind
theorem Bj(v:Int)(n d:Nat):(if v<0 then max (v+(n:Int)) 0 else min v (n:Int))=((fi n d (some v):Nat):Int):=by
 show _=(((if v<0 then(v+(n:Int)).toNat else min v.toNat n):Nat):Int)
 grind
theorem zY(lo hi:Option Int)(n:Nat):Builtin.Slice.sliceAdjust lo hi 1 (n:Int)=(((fi n 0 lo:Nat):Int),((fi n n hi:Nat):Int)):=by
 refine Prod.ext ?_ ?_
 ·cases lo with
  |none=>rfl
  |some v=>exact Bj v n 0
 ·cases hi with
  |none=>rfl
  |some v=>exact Bj v n n
theorem zZ(i j:Nat):Builtin.Slice.slicePlaces (i:Int) (j:Int) 1=j-i:=by
 grind[Builtin.Slice.slicePlaces]
theorem rG(p:IsPart v o)(h:Q o s):wpAny (model prog w) A (Builtin.Slice.slicePartIndex v) Q E s:=by
 cases p with
 |none=>exact slicePart_none h
 |int i t=>exact slicePart_int h
theorem jB{lo hi:Option Int}{Q:Int×Int×Nat->UX->Prop}(hs:s.heap.IsSliceOf sl vl vu .none)(pl:IsPart vl lo)(pu:IsPart vu hi)
 (h:Q (((fi n 0 lo:Nat):Int),1,fi n n hi-fi n 0 lo) s):wpAny (model prog w) A (Builtin.Slice.sliceApplied (.ref sl) (pure (n:Int))) Q E s:=by
 obtain⟨os,hos,hcs,hds⟩:=id hs;refine QA (QA (RU hos hds rfl (QA (RU hos hds rfl (QA (RU hos hds rfl (QB ?_)))))));refine QA (slicePart_none ?_);refine QA (rG pl (QA (rG pu (QA (QB ?_)))));show wpAny _ _ (match Builtin.Slice.sliceAdjust lo hi 1 (n:Int)with | (lo,hi)=>pure (lo,(1:Int),Builtin.Slice.slicePlaces lo hi 1)) _ _ s;rw[zY lo hi n];show wpAny _ _ (pure (((fi n 0 lo:Nat):Int),(1:Int),Builtin.Slice.slicePlaces ((fi n 0 lo:Nat):Int) ((fi n n hi:Nat):Int) 1)) _ _ s;rw[zZ];exact QB h
theorem D4(xs:UR)(i k:Nat):((List.range k).filterMap λ(m:Nat)=>xs[((i:Int)+(m:Int)*1).toNat]?).toArray=((xs.toList.drop i).take k).toArray:=by
 have e:(λ(m:Nat)=>xs[((i:Int)+(m:Int)*1).toNat]?)=λm=>xs[i+m]?:=by
  grind
 have:=pick_run xs i k;have e2:((λx=>xs[x]?)∘λx=>i+x)=λm=>xs[i+m]?:=rfl
 grind
theorem nS{lo hi:Option Int}(ht:IsTup s.heap t items)(hs:s.heap.IsSliceOf sl vl vu .none)(pl:IsPart vl lo)(pu:IsPart vu hi)
 (hw:¬ (fi items.size 0 lo=0/\fi items.size items.size hi=items.size))
 (h:Q (.ref s.heap.objs.size) {s with heap:=s.heap.push {cls:=.type "tuple",data:=.seq ((items.toList.drop (fi items.size 0 lo)).take (fi items.size items.size hi-fi items.size 0 lo)).toArray}})
 (hsz:items.size<=sizeLine):wpAny (model prog w) A (getItem (.ref t) (.ref sl)) Q E s:=by
 have htake:sizeOk (.seq ((items.toList.drop (fi items.size 0 lo)).take (fi items.size items.size hi-fi items.size 0 lo)).toArray):=by show((items.toList.drop (fi items.size 0 lo)).take (fi items.size items.size hi-fi items.size 0 lo)).toArray.size<=sizeLine;rw[Q1,Uy,Uz,RD];omega
 have hj:fi items.size items.size hi<=items.size:=JU _ _ (QE _) hi;obtain⟨os,hos,hcs,hds⟩:=id hs;have hTs:s.TypeIs (.ref sl) "slice" := ⟨os,hos,hcs⟩;unfold getItem
 try with_reducible refine Ri ?_
 first|refine QA (QB ?_)|skip
 refine QA (wpAny_sequenceKey ht.typeIs (by decide) ?_)
 refine QA (Rc (name:=Str.ofString "__getitem__") ht.typeIs Ry
  (Q7 Ry ht.typeIs entry_tuple_getitem ?_ (args_tuple_getitem _ _)))
 show wpAny _ _ (Builtin.Tuple.tupleItemsOf (.ref t) >>= _) _ _ s;refine QA (tupleItemsOf_ ht ?_);refine QA (T4 hTs ?_);rw[if_pos (by decide)];refine QA (jB hs pl pu ?_);have hno:¬ ((((fi items.size 0 lo:Nat):Int)==0&&(1:Int)==1&&(fi items.size items.size hi-fi items.size 0 lo)==items.size)=true):=by intro q;rw[QG,QG]at q;have q1:((fi items.size 0 lo:Nat):Int)=0:=eq_of_beq q.1.1;have q2:fi items.size items.size hi-fi items.size 0 lo=items.size:=eq_of_beq q.2;exact hw ⟨by omega,by omega⟩
 show wpAny _ _ (if(((fi items.size 0 lo:Nat):Int)==0&&(1:Int)==1&&(fi items.size items.size hi-fi items.size 0 lo)==items.size)=true then _ else _) _ _ s;rw[if_neg hno,D4]
 first
  |exact QA (m:=Builtin.Tuple.tupleExact _) (Rb (QB ⟨_,rfl,QB h⟩) htake)
  |exact QA (m:=Builtin.Tuple.tupleExact _) (Rb (QA (QB (QB ⟨_,rfl,QB h⟩))) htake)
  |exact QA (QA (m:=Builtin.Tuple.tupleExact _) (Rb (QB (QB ⟨_,rfl,QB h⟩)) htake))
  |exact QA (QA (m:=Builtin.Tuple.tupleExact _) (Rb (QB ⟨_,rfl,QB h⟩) htake))
end
end HT
namespace L2
open PySem PySem.Spec PyProof.Rows
abbrev TO:=St->Hp->(Option Int->Hp->Prop)->Prop
def PO(X:Cx)(e:Option Expr)(t:TO):Prop:=
 ∀(pins:UE) (s:UX) (σ:St) (H:Hp) (Q:Option Int->Hp->Prop),Inv X pins σ H s->t σ H Q ->
  wpAny (model X.prog X.w) X.A (evalPart e X.env) (λu s'=>∃o H',Inv X pins σ H' s'/\IsPart u o/\Q o H') X.xe s
def GP:TO:=λ_ H Q=>Q none H
def Mm(t:TE):TO:=λσ H Q=>t σ H λx H1=>∃i,x=.int i/\Q (some i) H1
section
variable {X:Cx} {e:Expr} {te:TE} {lo hi:Option Expr} {tl th:TO} {pos p2:Pos}
theorem GQ:PO X none GP:=by intro pins s σ H Q I h;exact QB ⟨none,H,I,.none,h⟩
theorem GR(h:PE X e te):PO X (some e) (Mm te):=by intro pins s σ H Q I hw;refine bw (h pins s σ H _ I hw) λu s1 ⟨x,H1,I1,r1,q1⟩=>?_;obtain⟨i,rfl,q⟩:=q1;obtain⟨t,rfl⟩:=r1;exact⟨some i,H1,I1,.int i t,q⟩
noncomputable def LL(X:Cx)(r:V->Option Int->Option Int->Hp->VK->Prop):Prop:=
 ∀(pins:UE) (s:UX) (σ:St) (H:Hp) (x:V) (v vl vu:Value) (lo hi:Option Int) (sl:Addr) (Q:VK),Inv X pins σ H s->RelV x v->s.heap.IsSliceOf sl vl vu .none->IsPart vl lo->IsPart vu hi->r x lo hi H Q ->
  ∃T id,typeLookup (.type T) "__getitem__" = pure (some (.builtin id))/\s.TypeIs v T/\wpAny (model X.prog X.w) X.A (getItem v (.ref sl)) (EP X pins σ Q) X.xe s
def Qj(r:V->Option Int->Option Int->Hp->VK->Prop)(te:TE)(tl th:TO):TE:=λσ H Q=>te σ H λx H1=>tl σ H1 λl H2=>th σ H2 λu H3=>r x l u H3 Q
theorem yc(hr:LL X r)(he:PE X e te)(hl:PO X lo tl)(hu:PO X hi th):PE X (.Subscript e (.Slice lo hi none p2) pos) (Qj r te tl th):=by intro pins s σ H Q I h;refine Subscript_ (bw (he pins s σ H _ I h) λv s1 ⟨x,H1,I1,r1,q1⟩=>?_);refine wpAny_Slice (bw (hl pins s1 σ H1 _ I1 q1) λvl s2 ⟨l,H2,I2,pl,q2⟩=>bw (hu pins s2 σ H2 _ I2 q2) λvu s3 ⟨u,H3,I3,pu,q3⟩=>?_);refine QB ?_;have I4:Inv X pins σ H3 {s3 with heap:=s3.heap.push {cls:=.type "slice",data:=.fields #[vl,vu,.none]}}:=I3.kept λb ob q=>QC _ q;obtain⟨T,id,hT,ht,hg⟩:=hr pins {s3 with heap:=s3.heap.push {cls:=.type "slice",data:=.fields #[vl,vu,.none]}} σ H3 x v vl vu l u s3.heap.objs.size Q I4 r1 (Heap.IsSliceOf.new ..) pl pu q3;exact tail_any ht hT hg (by rfl)
def yd(xs:List V)(lo hi:Option Int):List V:=(xs.drop (HT.fi xs.length 0 lo)).take (HT.fi xs.length xs.length hi-HT.fi xs.length 0 lo)
theorem qc(xs:List V)(lo hi:Option Int):(yd xs lo hi).length<=xs.length:=by
 grind[yd,List.length_take,List.length_drop]
def Oq(K:UM):V->Option Int->Option Int->Hp->VK->Prop:=λx lo hi H Q=>∃a xs,x=.ref a/\gB K H a xs /\
 ¬ (HT.fi xs.length 0 lo=0/\HT.fi xs.length xs.length hi=xs.length)/\∀p,H p=none->Q (.ref p) (upd H p (.tup (yd xs lo hi)))
theorem JV:LL X (Oq X.K):=by intro pins s σ H x v vl vu lo hi sl Q I rx hs pl pu h;obtain⟨a,xs,rfl,hx,hw,q⟩:=h;cases rx;obtain⟨its,r,ht,hz⟩:=I.tuple hx;have hlen:its.toArray.size=xs.length:=r.length.symm;refine⟨"tuple",_,Ry.lookup,ht.typeIs,?_⟩;refine HT.nS ht hs pl pu (by grind) ?_ (by simp_all);rw[hlen];refine⟨.ref s.heap.objs.size,_,I.laid (λb ob q=>QC _ q) (QE _) ?_,rfl,q _ (I.hok.fresh (QE _))⟩;exact⟨QM (qc xs lo hi) hz,_,(r.drop _).take _,IsTup.new _ _⟩
def Mn(K:UM):R2:=λx y H Q=>∃a b xs ys,x=.ref a/\y=.ref b/\gB K H a xs/\gB K H b ys/\xs≠[]/\xs.length+ys.length<=sizeLine /\
 (ys=[]->Q (.ref a) H)/\(ys≠[]->∀p,H p=none->Q (.ref p) (upd H p (.tup (xs++ys))))
theorem Vals.wk(r:Vals xs us):us=[]<->xs=[]:=by
 cases r with
 |nil=>simp
 |cons _ _=>simp
theorem GS:iH X (binaryOp .Add) (Mn X.K):=by intro pins s σ H x y v u Q I rx ry h;obtain⟨a,b,xs,ys,rfl,rfl,ha,hb,hx,hz,q1,q2⟩:=h;cases rx;cases ry;obtain⟨its,r1,p1,_⟩:=I.tuple ha;obtain⟨its2,r2,p2,_⟩:=I.tuple hb;refine HT.GO p1 p2 (λz=>hx (r1.wk.mp z)) (λz=>⟨.ref a,H,I,rfl,q1 (r2.wk.mp z)⟩) (λz=>?_) (by grind[r1.length,r2.length]);refine⟨.ref s.heap.objs.size,_,I.laid (λb ob q=>QC _ q) (QE _) ?_,rfl,q2 (λw=>z (r2.wk.mpr w)) _ (I.hok.fresh (QE _))⟩;exact⟨by simp_all,_,r1.append r2,IsTup.new _ _⟩
end
def va(n:Nat)(i:Int):Option Nat:=if 0<=i then(if i<n then some i.toNat else none)else if -(n:Int)<=i then some (i+n).toNat else none
def nh{α:Type}(xs:List α)(i:Int):Option α:=(va xs.length i).bind λj=>xs[j]?
theorem Bk(h:va n i=some j):seqIndex? i n=some j/\j<n/\-(n:Int)<=i/\i<n:=by
 unfold va at h;by_cases h0:0<=i
 ·rw[if_pos h0]at h;by_cases h1:i<n
  ·rw[if_pos h1]at h;have e:i.toNat=j:=Sj h;exact⟨by rw[seqIndex_of h0 h1,e],by omega,by omega,h1⟩
  grind
 ·rw[if_neg h0]at h;by_cases h1:-(n:Int)<=i
  ·rw[if_pos h1]at h;have e:(i+n).toNat=j:=Sj h;exact⟨by rw[seqIndex_neg (by omega) h1,e],by omega,h1,by omega⟩
  grind
theorem Bl(h:nh xs i=some v):∃j,seqIndex? i xs.length=some j/\xs[j]?=some v/\j<xs.length/\-(xs.length:Int)<=i/\i<xs.length:=by
 unfold nh at h
 cases e:va xs.length i with
 |none=>simp_all
 |some j=>
  obtain⟨h1,h2,h3,h4⟩:=Bk e
  simp_all
theorem qV{j:Nat}{v:α}(h:xs[j]?=some v):nh xs (j:Int)=some v:=by
 have hj  := (QV.mp h).1
 simp_all[va,nh]
def Bm(b:Expr):Prop:=∀o i,subscripted b false o i=operate [o,i] (getItem o i)
noncomputable def LM(X:Cx)(r:R2):Prop:=
 ∀(value slice:Expr) (pins:UE) (s:UX) (σ:St) (H:Hp) (x y:V) (v u:Value) (Q:VK),Inv X pins σ H s->RelV x v->RelV y u->r x y H Q ->
  subscripted slice false v u=operate [v,u] (getItem v u)->wpAny (model X.prog X.w) X.A (subscriptTail value slice v u) (EP X pins σ Q) X.xe s
noncomputable def Qk(X:Cx)(id:String)(r:V->List V->Hp->VK->Prop):Prop:=
 ∀(pins:UE) (s:UX) (σ:St) (H:Hp) (x:V) (xs:List V) (v:Value) (us:UL) (Q:VK),Inv X pins σ H s->RelV x v->Vals xs us->r x xs H Q ->
  wpAny (model X.prog X.w) X.A (call (.builtin id) (v::us)) (EP X pins σ Q) X.xe s
section
variable {X:Cx} {a b:Expr} {ta tb:TE} {pos:Pos}
theorem Mo(hr:LM X r)(ha:PE X a ta)(hb:PE X b tb)(hs:Bm b):PE X (.Subscript a b pos) (Ma r ta tb):=by intro pins s σ H Q I h;exact Subscript_ (JH ha hb I h λv u s2 x y H2 I2 rx ry q=>hr a b pins s2 σ H2 x y v u Q I2 rx ry q (hs _ _))
def Ot(K:UM):R2:=λx y H Q=>∃p xs i v,x=.ref p/\y=.int i/\jz K H p xs/\nh xs i=some v/\Q v H
def Ou(K:UM):R2:=λx y H Q=>∃p xs i v,x=.ref p/\y=.int i/\gB K H p xs/\nh xs i=some v/\Q v H
theorem wm:LM X (Ot X.K):=by
 intro value slice pins s σ H x y v u Q I rx ry h hs;obtain⟨p,xs,i,z,rfl,rfl,hq,he,q⟩:=h;cases rx;obtain⟨t,rfl⟩:=ry;obtain⟨its,r,pl,hz⟩:=I.list hq;obtain⟨j,h1,h2,h3,h4,h5⟩:=Bl he;obtain⟨w,ew,rw'⟩:=r.get h2;have hl:=r.length;have hn:=rE;have fin:EP X pins σ Q w s:=⟨z,H,I,rw',q⟩;by_cases h0:0<=i
 ·have hj:i.toNat=j:=by
   simp_all[seqIndex_of,h0,h5]
  exact item_listR pl.isList h0 (by omega) (by grind) fin hs
 ·have hj:(i+(its.toArray.size:Int)).toNat=j:=by
   rw[seqIndex_neg (by omega) h4]at h1;rw[Q1,<- hl];exact Sj h1
  exact subscriptTail_builtinR (x:=w) pl.isList.typeIs slot_list_getitem.lookup
   (wpAny_getItem_list_neg (Q:=λr s'=>r=w/\EP X pins σ Q r s') pl.isList (by omega) (by rw[Q1]<;>omega) (by omega) (by rw[hj];simpa using ew) ⟨rfl,fin⟩) hs
theorem JW:LM X (Ou X.K):=by
 intro value slice pins s σ H x y v u Q I rx ry h hs;obtain⟨p,xs,i,z,rfl,rfl,hq,he,q⟩:=h;cases rx;obtain⟨t,rfl⟩:=ry;obtain⟨its,r,pl,hz⟩:=I.tuple hq;obtain⟨j,h1,h2,h3,h4,h5⟩:=Bl he;obtain⟨w,ew,rw'⟩:=r.get h2;have hl:=r.length;have hn:=rE;have fin:EP X pins σ Q w s:=⟨z,H,I,rw',q⟩
 exact subscriptTail_builtinR pl.typeIs slot_tuple_getitem.lookup
  (getItem_tuple (j:=j) pl (by omega) (by omega) (by grind) (by grind) ⟨rfl,fin⟩) hs
theorem Aa(its:UL)(n j:Nat)(u:Value):Obj.mapSeq (·.setIfInBounds j u) {cls:=.type "list",data:=.seq its.toArray n}={cls:=.type "list",data:=.seq (its.set j u).toArray n}:=by simp[Obj.mapSeq]
theorem Inv.lst{σ:St}{H:Hp}{s:UX}{p:Addr}{xs:List V}(I:Inv X pins σ H s)(h:H p=some (.lst xs)) :
  ∃(its:UL) (n:Nat),Vals xs its/\s.heap.get? p=some {cls:=.type "list",data:=.seq its.toArray n}/\xs.length<=sizeLine:=by
 obtain⟨z,its,n,r,e⟩:=I.hok p _ h
 simp_all
theorem Inv.JX{σ:St}{its its':UL}(I:Inv X pins σ H s)(h:H p=some (.lst xs))
 (ho:s.heap.get? p=some {cls:=.type "list",data:=.seq its.toArray n})(hf:f {cls:=.type "list",data:=.seq its.toArray n}={cls:=.type "list",data:=.seq its'.toArray n'})(r:Vals ys its')(hz:ys.length<=sizeLine)(t:Nat) :
  Inv X pins σ (upd H p (.lst ys)) {s with heap:=s.heap.update p f,toks:=t}:=by
 have e:(s.heap.update p f).get? p=some {cls:=.type "list",data:=.seq its'.toArray n'}:=by rw[R4 f ho (by rw[hf]<;>rfl),hf]
 refine I.write (by rw[h];trivial) (.inl rfl) (λb u hb q=>(SX _ _ (Tp hb)).trans q) ⟨_,e⟩ ?_;exact⟨hz,its',n',r,e⟩
def II:V->V->V->Hp->(Hp->Prop)->Prop:=λo i v H Q=>∃p xs k j,o=.ref p/\i=.int k/\H p=some (.lst xs)/\va xs.length k=some j/\Q (upd H p (.lst (xs.set j v)))
theorem set_list:Jz X II:=by
 intro pins s σ H o i v ov iv u Q I ro ri rv h;obtain⟨p,xs,k,j,rfl,rfl,hp,hj,q⟩:=h;cases ro;obtain⟨t,rfl⟩:=ri;obtain⟨its,n,r,ho,hz⟩:=I.lst hp;obtain⟨h1,h2,h3,h4⟩:=Bk hj;have hl:=r.length;have hn:=rE
 have I':Inv X pins σ (upd H p (.lst (xs.set j v))) {s with heap:=s.heap.update p (Obj.mapSeq (·.setIfInBounds j u))}:=
  I.JX hp ho (Aa its n j u) (r.set rv j) (by grind) s.toks
 by_cases h0:0<=k
 ·have hk:k.toNat=j:=by
   simp_all[seqIndex_of,h0,h4]
  exact PySem.W.ki_setAt ho h0 (by omega) (by grind) (by rw[hk];exact⟨_,I',q⟩)
 ·have hk:(k+(its.toArray.size:Int)).toNat=j:=by
   rw[seqIndex_neg (by omega) h3]at h1;rw[Q1,<- hl];exact Sj h1
  exact PySem.W.ki_setBack ho (by omega) (by rw[Q1,<- hl];exact h3) (by omega) (by rw[hk];exact⟨_,I',q⟩)
theorem wo(lo hi:Option Int)(n:Nat):(sliceBounds lo hi none n).1=((HT.fi n 0 lo:Nat):Int)/\(sliceBounds lo hi none n).2.1=((HT.fi n n hi:Nat):Int)/\(sliceBounds lo hi none n).2.2=1:=by
 refine⟨?_,?_,rfl⟩
 ·cases lo with
  |none=>rfl
  |some i=>
   simp only[sliceBounds,HT.fi,Option.getD_none,show(1:Int)>0 by decide,Rr];by_cases h:i<0
   ·simp only[h,Rr]<;>omega
   grind
 ·cases hi with
  |none=>simp[sliceBounds,HT.fi]
  |some i=>
   simp only[sliceBounds,HT.fi,Option.getD_none,show(1:Int)>0 by decide,Rr];by_cases h:i<0
   ·simp only[h,Rr]<;>omega
   ·simp only[h,Rx]<;>omega
theorem uw(its:UL)(lo hi:Option Int):slicePick its.toArray lo hi none=((its.drop (HT.fi its.length 0 lo)).take (HT.fi its.length its.length hi-HT.fi its.length 0 lo)).toArray:=by obtain⟨h1,h2,h3⟩:=wo lo hi its.toArray.size;unfold slicePick;rw[h1,h2,h3];simp only[sliceRange_one,pick_run]<;>rfl
def Ov(K:UM):V->Option Int->Option Int->Hp->VK->Prop:=λx lo hi H Q=>∃a xs,x=.ref a/\jz K H a xs/\∀p,H p=none->Q (.ref p) (upd H p (.lst (yd xs lo hi)))
theorem Bn:LL X (Ov X.K):=by intro pins s σ H x v vl vu lo hi sl Q I rx hs pl pu h;obtain⟨a,xs,rfl,hx,q⟩:=h;cases rx;obtain⟨its,r,ht,hz⟩:=I.list hx;have hlen:=r.length;refine⟨"list",_,slot_list_getitem.lookup,ht.isList.typeIs,?_⟩;refine wpAny_getItem_list_slice ht.isList hs pl pu .none (by simp) ?_ (by grind);rw[uw,<- hlen];refine⟨.ref s.heap.objs.size,_,I.laid (λb ob q=>QC _ q) (QE _) ?_,rfl,q _ (I.hok.fresh (QE _))⟩;exact⟨QM (qc xs lo hi) hz,_,0,(r.drop _).take _,QJ _ rfl⟩
theorem dP.or(h:dP X f r)(h':dP X f r'):dP X f (λxs H Q=>r xs H Q\/r' xs H Q):=by
 intro pins s σ H xs us Q I rs q;rcases q with q|q
 ·exact h pins s σ H xs us Q I rs q
 ·exact h' pins s σ H xs us Q I rs q
theorem wq:dP X (.type "list") (λxs H Q=>∃p ys,xs=[.ref p]/\(jz X.K H p ys\/gB X.K H p ys)/\∀l,H l=none->Q (.ref l) (upd H l (.lst ys))):=by
 intro pins s σ H xs us Q I r h;obtain⟨p,ys,rfl,hq,q⟩:=h;obtain⟨u,rfl,rx⟩:=vals1 r;cases rx
 have fin:∀(its:UL),Vals ys its->ys.length<=sizeLine->∀(h':Heap) (c':Nat),(∀b o',s.heap.get? b=some o'->h'.get? b=some o') ->
   h'.get? s.heap.objs.size=some {cls:=.type "list",dict:=none,data:=.seq its.toArray c',slots:=#[]}->EP X pins σ Q (.ref s.heap.objs.size) {s with heap:=h'}:=λits r' hz h' c' kp e=>
  ⟨.ref s.heap.objs.size,_,I.laid (t':=s.toks) kp (QE _) (show cC X.prog X.w _ h' _ (.lst ys)from⟨hz,its,c',r',e⟩),rfl,q _ (I.hok.fresh (QE _))⟩
 rcases hq with hq|hq
 ·obtain⟨its,r',pl,hz⟩:=I.list hq;have hlen:=r'.length;obtain⟨o,ho,hc,n,hd⟩:=pl.isList;exact call_list_seq p (.inl rfl) ho hc hd (λh' c' kp e=>fin its r' hz h' c' kp e) (by grind)
 ·obtain⟨its,r',pl,hz⟩:=I.tuple hq;have hlen:=r'.length;obtain⟨o,ho,hc,n,hd⟩:=pl;exact call_list_seq p (.inr rfl) ho hc hd (λh' c' kp e=>fin its r' hz h' c' kp e) (by grind)
theorem uy:dP X (.type "tuple") (λxs H Q=>∃p ys,xs=[.ref p]/\((jz X.K H p ys/\∀l,H l=none->Q (.ref l) (upd H l (.tup ys)))\/(gB X.K H p ys/\Q (.ref p) H))):=by
 intro pins s σ H xs us Q I r h;obtain⟨p,ys,rfl,h⟩:=h;obtain⟨u,rfl,rx⟩:=vals1 r;cases rx;rcases h with⟨hq,q⟩|⟨hq,q⟩
 ·obtain⟨its,r',pl,hz⟩:=I.list hq;have hlen:=r'.length;refine call_tuple_list pl.isList (λh' kp=>?_) (by grind);have I1:Inv X pins σ H {s with heap:=h'}:=I.kept kp
  have I2:Inv X pins σ (upd H h'.objs.size (.tup ys)) {s with heap:=h'.push {cls:=.type "tuple",data:=.seq its.toArray}}:=
   I1.laid (λb o e=>QC _ e) (QE _) (⟨hz,its,r',IsTup.new _ _⟩)
  exact⟨.ref h'.objs.size,_,I2,rfl,q _ (I1.hok.fresh (QE _))⟩
 ·obtain⟨its,r',pl,hz⟩:=I.tuple hq;exact call_tuple_same pl ⟨.ref p,H,I,rfl,q⟩
noncomputable def PD(K:UM)(T:String)(x:V)(H:Hp):Prop:=match x with
 |.str _=>T = "str"
 |.int _=>T = "int"
 |.ref p=>(T = "list" /\ ∃xs,jz K H p xs)\/(T = "tuple" /\ ∃o,K.lookup p=some o/\o.cls=.type "tuple" /\ o.dict=none) \/
   (T = "dict" /\ ((∃kvs,H p=some (.dK kvs))\/∃kvs,H p=some (.dT kvs)))\/(T = "set" /\ ∃S n,H p=some (.set S n))
 |_=>False
theorem JY{σ:St}(I:Inv X pins σ H s)(r:RelV x v)(ty:PD X.K T x H) :
  s.TypeIs v T/\∀a,v=.ref a->∃ob,s.heap.get? a=some ob/\ob.dict=none:=by
 cases x with
 |str z=>obtain⟨t,rfl⟩:=r;cases(show T = "str" from ty);exact⟨typeIs_str s z t,λ_ e=>nomatch e⟩
 |int i=>obtain⟨t,rfl⟩:=r;cases(show T = "int" from ty);exact⟨typeIs_int s i t,λ_ e=>nomatch e⟩
 |ref p=>
  cases r;rcases ty with⟨rfl,xs,hq⟩|⟨rfl,o,hk,hc,hd⟩|⟨rfl,hk⟩|⟨rfl,S,n,hk⟩
  ·obtain⟨its,_,pl,_⟩:=I.list hq;refine⟨pl.isList.typeIs,λa e=>?_⟩;cases e;obtain⟨o,n,e,c,hd,_⟩:=pl
   grind
  ·refine⟨⟨o,I.uk p o hk,hc⟩,λa e=>?_⟩;cases e;exact⟨o,I.uk _ o hk,hd⟩
  ·have z:∃o,s.heap.get? p=some o/\o.ExactDict:=by
    rcases hk with⟨kvs,hk⟩|⟨kvs,hk⟩
    ·obtain⟨_,_,_,_,o,_,_,e,ex,_⟩:=I.hok p _ hk;exact⟨o,e,ex⟩
    ·obtain⟨_,_,_,_,o,_,_,e,ex,_⟩:=I.hok p _ hk;exact⟨o,e,ex⟩
   obtain⟨o,e,ex⟩:=z;refine⟨⟨o,e,ex.1⟩,λa e2=>?_⟩;cases e2;exact⟨o,e,ex.2.1⟩
  ·obtain⟨o,_,_,_,e,ex,_⟩:=I.hok p _ hk;refine⟨⟨o,e,ex.1⟩,λa e2=>?_⟩;cases e2;exact⟨o,e,ex.2.1⟩
 |_=>exact False.elim ty
def PF(K:UM)(T:String)(r:V->List V->Hp->VK->Prop)(to:TE)(t:TA):TE:=λσ H Q=>to σ H λx H1=>PD K T x H1/\t σ H1 λxs H2=>r x xs H2 Q
variable {o e:Expr} {es:UO} {to:TE} {t:TA} {name:Str} {apos cpos:Pos} {T id:String} {r:V->List V->Hp->VK->Prop}
theorem IJ(pa:PlainAttrs T)(slot:Slot T name id)(hty:typeOf (.builtin id)=pure (.type "method_descriptor"))(hm:Qk X id r)(ho:PE X o to)(ha:PA X (e::es) t)
 (hbase:attributeBase o name X.env (eval o X.env)=eval o X.env:=by rfl)
 (hfew:((backTo cpos (starEach (e::es) X.env)).all (λx=>!x.1)&&(backToKw cpos (keywordEach [] X.env)).all (λx=>x.1.isSome)
   && decide ((e::es).length+([]:List Keyword).length+(if([]:List Keyword).isEmpty then 0 else 1)<30))=true:=by rfl)
 (hline:(apos.endLine==cpos.line)=true:=by rfl)(hs:starEach (e::es) X.env=(false,eval e X.env)::starEach es X.env:=by rfl)(hplain:(backTo cpos (starEach es X.env)).any (·.1)=false:=by rfl) :
  PE X (.Call (.Attribute o name apos) (e::es) [] cpos) (PF X.K T r to t):=by
 intro pins s σ H Q I h;refine wpAny_Call_method_late hbase hfew hline rfl (bw (ho pins s σ H _ I h) λv s1 ⟨x,H1,I1,r1,ty,q1⟩=>?_);obtain⟨h1,h2⟩:=JY I1 r1 ty;refine⟨T,id,pa,slot,hty,h1,h2,?_⟩;have hA:=ha cpos pins s1 σ H1 _ I1 q1;rw[hs]at hA ⊢;refine Calls.callWith_builtin (by grind) (Calls.evalArgs_plain ?_);exact bw hA λus s2 ⟨vs,H2,I2,r2,q2⟩=>hm pins s2 σ H2 x vs v us Q I2 r1 r2 q2
end
noncomputable def PH(X:Cx)(id:String)(r:V->List V->Hp->VK->Prop):Prop:=
 ∀(pins:UE) (s:UX) (σ:St) (H:Hp) (x:V) (xs:List V) (v:Value) (us:UL) (Q:VK),Inv X pins σ H s->RelV x v->Vals xs us->r x xs H Q ->
  wpAny (model X.prog X.w) X.A (call (.builtin id) (v::us)) (EP X pins σ Q) X.xe s
theorem Vals.one:∀{x:V} {us:UL},Vals [x] us->∃u,us=[u]/\RelV x u
 |_,_,.cons r .nil=>⟨_,rfl,r⟩
theorem Vals.eraseIdx:∀{xs:List V} {us:UL} (i:Nat),Vals xs us->Vals (xs.eraseIdx i) (us.eraseIdx i)
 |_,_,_,.nil=>.nil
 |_,_,0,.cons _ t=>t
 |_,_,i+1,.cons r t=>.cons r (Vals.eraseIdx i t)
theorem Vals.rep(h:Vals xs us):∀k:Nat,Vals (List.replicate k xs).flatten (List.replicate k us).flatten
 |0=>.nil
 |k+1=>Vals.append h (Vals.rep h k)
theorem foldl_rep(its:UL):∀(k:Nat) (acc:UL),
  List.foldl (λx1 x2=>x1++x2) acc.toArray (List.replicate k its.toArray)=(acc++(List.replicate k its).flatten).toArray
 |0,acc=>by simp
 |k+1,acc=>by
  have e:acc.toArray++its.toArray=(acc++its).toArray:=by simp
  have e2:(acc++its)++(List.replicate k its).flatten=acc++(List.replicate (k+1) its).flatten:=by
   grind
  rw[<- e2,<- foldl_rep its k _,<- e,List.replicate_succ,List.foldl_cons]
section
variable {X:Cx} {pins:UE} {σ:St} {H:Hp} {s:UX} {l b:Addr} {xs ys zs:List V}
theorem Inv.Mp{its its':UL}(I:Inv X pins σ H s)(hH:H l=some (.lst xs))
 (e:s.heap.get? l=some {cls:=.type "list",data:=.seq its.toArray n})(hf:f its.toArray=its'.toArray)(hv:Vals ys its')(hz:ys.length<=sizeLine) :
  Inv X pins σ (upd H l (.lst ys)) {s with heap:=s.heap.update l (Obj.mapSeq f),toks:=t'}:=by
 have q:=PySem.IsL.update e f;rw[hf]at q;refine I.write (by rw[hH];exact trivial) (.inl rfl) (λb' u hb hu=>(SX s.heap _ (Tp hb)).trans hu) ⟨_,q⟩ ?_;exact⟨hz,its',_,hv,q⟩
theorem Inv.Mq(I:Inv X pins σ H s)(hv:Vals ys its)(hz:ys.length<=sizeLine) :
  Inv X pins σ (upd H s.heap.objs.size (.lst ys)) {s with heap:=s.heap.push {cls:=.type "list",data:=.seq its.toArray},toks:=t'}:=
 I.laid (λ_ _ q=>QC _ q) (QE _) ⟨hz,its,0,hv,QJ _ rfl⟩
theorem Inv.fresh(I:Inv X pins σ H s):H s.heap.objs.size=none:=I.hok.fresh (QE _)
theorem Inv.D5(I:Inv X pins σ H s)(hH:H l=some (.lst xs)):xs.length<=sizeLine/\∃(its:UL) (n:Nat),Vals xs its/\xs.length=its.length/\s.heap.get? l=some {cls:=.type "list",data:=.seq its.toArray n}:=by obtain⟨z,its,n,r,e⟩:=I.hok l _ hH;exact⟨z,its,n,r,r.length,e⟩
theorem D6(h:n<=sizeLine):Builtin.List.listTooLong n=false:=by
 grind[Builtin.List.listTooLong]
end
section
variable {X:Cx}
def GU:V->List V->Hp->VK->Prop:=λx vs H Q=>∃l xs y,x=.ref l/\vs=[y]/\H l=some (.lst xs)/\xs.length<sizeLine/\Q .non (upd H l (.lst (xs++[y])))
theorem CO:PH X "list.append" GU:=by
 intro pins s σ H x vs v us Q I rx rv h;obtain⟨l,xs,y,rfl,rfl,hH,hz,q⟩:=h;cases rx;obtain⟨u,rfl,ru⟩:=rv.one;obtain⟨z,its,n,r,hl,e⟩:=I.D5 hH;refine Tw F.slot_list_append ⟨_,e,rfl⟩ F.entry_list_append (F.args_list_append_2 _ _) (PySem.list_append l its.toArray n u (by grind)) ⟨e,?_⟩;refine⟨.non,_,I.Mp hH e (by simp) (r.append (.cons ru .nil)) ?_,rfl,q⟩
 grind
def JZ:V->List V->Hp->VK->Prop:=λx vs H Q=>∃l xs i k y,x=.ref l/\vs=[.int i]/\H l=some (.lst xs)/\-(2^63)<=i/\i<2^63/\seqIndex? i xs.length=some k/\xs[k]?=some y/\Q y (upd H l (.lst (xs.eraseIdx k)))
theorem D7:PH X "list.pop" JZ:=by
 intro pins s σ H x vs v us Q I rx rv h;obtain⟨l,xs,i,k,y,rfl,rfl,hH,h1,h2,hk,hy,q⟩:=h;cases rx;obtain⟨u,rfl,ru⟩:=rv.one;obtain⟨t,rfl⟩:=ru;obtain⟨z,its,n,r,hl,e⟩:=I.D5 hH;obtain⟨w,hw,rw'⟩:=r.get hy
 refine Tw F.slot_list_pop ⟨_,e,rfl⟩ F.entry_list_pop (F.args_list_pop_2 _ _)
  (MeetsSeq.list_pop_at l its.toArray n i t k w (fitsIndex_both h1 h2) (by simp_all) (by simp_all) (by grind)) ⟨e,?_⟩
 refine⟨y,_,I.Mp hH e ?_ (r.eraseIdx k) ?_,rw',q⟩
 ·grind
 ·grind
def Ow:R2:=λx y H Q=>∃l b xs zs,x=.ref l/\y=.ref b/\H l=some (.lst xs)/\H b=some (.lst zs)/\xs.length+zs.length<=sizeLine/\∀p,H p=none->Q (.ref p) (upd H p (.lst (xs++zs)))
theorem J0:iH X (binaryOp .Add) Ow:=by
 intro pins s σ H x y v u Q I rx ry h;obtain⟨l,b,xs,zs,rfl,rfl,hH,hB,hz,q⟩:=h;cases rx;cases ry;obtain⟨z,its,n,r,hl,e⟩:=I.D5 hH;obtain⟨z2,its2,n2,r2,hl2,e2⟩:=I.D5 hB;refine PySem.P.add_list e e2 ?_ (by grind);have ea:its.toArray++its2.toArray=(its++its2).toArray:=by simp
 rw[ea];exact⟨.ref _,_,I.Mq (r.append r2) (by grind),rfl,q _ I.fresh⟩
def Ox:R2:=λx y H Q=>∃l k xs,x=.ref l/\y=.int k/\H l=some (.lst xs)/\-(2^63)<=k/\k<2^63/\xs.length*k.toNat<=sizeLine /\
 ∀p,H p=none->Q (.ref p) (upd H p (.lst (List.replicate k.toNat xs).flatten))
theorem len_rep{α:Type}(xs:List α)(k:Nat):(List.replicate k xs).flatten.length=k*xs.length:=by simp
theorem J1:iH X (binaryOp .Mult) Ox:=by
 intro pins s σ H x y v u Q I rx ry h;obtain⟨l,k,xs,rfl,rfl,hH,h1,h2,hz,q⟩:=h;cases rx;obtain⟨t,rfl⟩:=ry;obtain⟨z,its,n,r,hl,e⟩:=I.D5 hH;have hlen:its.toArray.size*k.toNat<=sizeLine:=by grind
 have hcap:¬ its.toArray.size*k.toNat>(2^63-1) / 8:=by
  have:(sizeLine:Nat)<=(2^63-1) / 8:=by decide
  omega
 have hfit:¬ (!Builtin.List.listFitsIndex k)=true:=by
  simp_all[fitsIndex_both,h1,h2]
 have hlong:¬ Builtin.List.listTooLong (its.toArray.size*k.toNat)=true:=by rw[D6 hlen];exact Q5
 have hnew:List.foldl (λx1 x2=>x1++x2) #[] (List.replicate (if its.toArray.isEmpty=true then 0 else k.toNat) its.toArray)=(List.replicate k.toNat its).flatten.toArray:=by
  have f0:∀m:Nat,List.foldl (λx1 x2=>x1++x2) #[] (List.replicate m its.toArray)=(List.replicate m its).flatten.toArray:=λm=>by have:=foldl_rep its m [];rw[Sk]at this;exact this
  rw[f0]
  cases its with
  |nil=>simp
  |cons a r'=>rw[if_neg (by simp)]
 refine wpAny_binaryOp_repeat_ref (T := "list") (U := "int") (by decide) ⟨_,e,rfl⟩ (λs'=>typeIs_int s' k t) noFill_list_mul F.fills_int_mul F.slot_int_rmul repeat_list F.slot_int_index.lookup
  (Tw F.slot_int_rmul (typeIs_int s k t) F.entry_int_rmul (F.args_int_rmul_2 _ _) (int___rmul___int_list k t l its.toArray n)
   ⟨e,rfl,⟨_,e,rfl⟩,Tw F.slot_list_mul ⟨_,e,rfl⟩ F.entry_list_mul (F.args_list_mul_2 _ _) (AutoListH.list___mul___list_int_3 l its.toArray n k t hfit hcap hlong) ⟨e,?_⟩⟩)
 rw[hnew];exact⟨.ref _,_,I.Mq (t':=s.toks) (r.rep k.toNat) (by rw[len_rep,Nat.mul_comm];exact hz),rfl,q _ I.fresh⟩
end
end L2
namespace Att
open PySem PySem.W PySem.Calls PyProof.Rows
theorem qQ:∀(ns:List Int) (vs:UL),WellAll P h vs (ns.map WData.int)->IntsAre vs ns:=by
 intro ns
 induction ns with
 |nil=>intro vs w;cases w;exact .nil
 |cons n ns ih=>
  intro vs w
  cases w with
  |cons a b=>cases a;exact .cons _ _ (ih _ b)
theorem CP{l:OpenLaw}(hn:l.most=some n)
 (hpre:l.row.toRowW.claim.pre args=true)(hwl:WellAll P h vals args) :
  ∃a vs ns,vals=[Value.ref a]/\args=[WData.list (ns.map WData.int)]/\h.get? a=some {cls:=.type "list",data:=.seq vs.toArray}/\IntsAre vs ns/\ns.length<=n:=by
 have hsh  := (pre_splitW hpre).1;have hc:l.pre.holds [] {args:=args}=true:=(pre_splitW hpre).2;obtain⟨d,r,rfl,h1,h2⟩:=hasAllW_cons hsh;obtain rfl:=hasAllW_nil h2;obtain⟨xs,rfl,h3⟩:=hasW_list h1;obtain⟨ns,rfl⟩:=items_int h3
 have hlen:ns.length<=n:=by
  have h4:(WTm.not (.lt (.lit (.int (n:Int))) (.len (.arg 0)))).holds [] {args:=[.list (ns.map .int)]}=true:=by
   have h4:=(holds_andW hc).1
   simp_all
  have h5:=condW_of h4 (w_not (w_lt w_lit (w_len_list (w_arg rfl))))
  simp_all
 cases hwl with
 |cons w1 w2=>
  cases w2
  cases w1 with
  |list ho hall=>exact⟨_,_,ns,rfl,rfl,ho,qQ ns _ hall,hlen⟩
theorem CQ(l:OpenLaw)(args:List WData):l.row.toRowW.claim.post args (.bool true) args=true:=
 postW_of
  (show WShape.has [] _ .bool=true by rfl)
  (w_eq_bool (w_res rfl) w_lit) rfl
theorem ye{l:OpenLaw}
 (hn:l.most=some n)(hdf:d.params.defaults=[])
 (call:∀(w:World) (s₀ s₁:UX) (mg mb:UI) (fa:Addr) (o:Obj) (pm cd doc:Value) (a:Addr) (vs:UL) (ns:List Int),
   Ground q loose [] XP w s₀ mg mb s₁.heap->YP w s₁.heap ->
   s₁.heap.get? fa=some o->o.data=.func (docDef d.name d.params d.body d.scope pm cd doc)->s₁.heap.CodeRec cd d.name->mg d.name=some (.ref fa) ->
   s₁.heap.get? a=some {cls:=.type "list",data:=.seq vs.toArray}->IntsAre vs ns->ns.length<=n->s₁.gens=#[] ->
   codeAny (model l.prog w) callerA (.call (.ref fa) ⟨[.ref a],[]⟩) (λr s'=>r=.ok (.ret (.bool true))/\OldK s₁.heap s'.heap/\s'.os=s₁.os/\AllBare s'.gens) s₁) :
  WalkO q loose XP YP l.row.toRowW d [] (λf vs=>PySem.call f vs):=by
 intro w s₀ s₁ mg mb G Y fa o pm cd doc dV kV ho hd hcd hD hmg hg args vals as hpre hlay hrd hwl hlo;obtain rfl:dV=.none:=Dflts.none hD hdf;obtain rfl:kV=.none:=Dflts.noKw hD;obtain⟨a,vs,ns,rfl,rfl,hobj,hints,hlen⟩:=CP hn hpre hwl;refine enter_call (T3 (call w s₀ s₁ mg mb fa o pm cd doc a vs ns G Y ho (fd_plain hd) hcd hmg hobj hints hlen hg) λr s' hq=>?_);obtain⟨rfl,h2,h3,h4⟩:=hq;exact⟨.inl ⟨.bool true,.bool true,[],rfl,λ_=>rfl,.bool true,CQ l _,λ_=>⟨List.Pairwise.nil,λ_ hm=>(nomatch hm)⟩⟩,h2,h3,h4⟩
end Att
namespace L2
open PySem PySem.Spec PyProof.Rows
theorem vb:∀{vs:UL} {ns:List Int},IntsAre vs ns->Vals (ns.map V.int) vs
 |_,_,.nil=>.nil
 |_,_,.cons n t h=>.cons ⟨t,rfl⟩ (vb h)
def Ka(H:Hp):Prop:=∀b,H b=none\/∃o xs,H b=some (.frz o (.lst xs))
theorem D8{K:UM}
 (KX:K.In s₁.heap)(hns:s₁.heap.Ns mainGlobals mg)(hb:s₁.heap.Ns builtinsNs mb)(hbb:∀x:Str,x ≠ "__name__" -> mb x=bootBuiltins x)(hlim:s₁.heap.NoLimit)(hg:s₁.gens=#[])
 (ha:s₁.heap.get? a=some {cls:=.type "list",data:=.seq vs.toArray})(hi:IntsAre vs ns)(hl:ns.length<=sizeLine)(hr:cg k callerA)
 (F:∀base:Heap,K.In base->base.Ns mainGlobals mg->jA P w K mg base CX k fa fd [x] sp)(hbind:∀(s:UX) (u:Value),BindsTo s fd ⟨[u],[]⟩ [(x,u)])
 (hsp:∀H:Hp,Ka H->jz K H a (ns.map V.int)->sp [.ref a] H (λv _=>v=.bl true) λ_ _ _=>False)
 (hCX:∀H e s',CX [] H s₁ (λ_ _ _=>False) e s'->False) :
  codeAny (model P w) callerA (.call (.ref fa) ⟨[.ref a],[]⟩) (λr s'=>r=.ok (.ret (.bool true))/\OldK s₁.heap s'.heap/\s'.os=s₁.os/\AllBare s'.gens) s₁:=by
 have rv:=vb hi;have lenV:=hi.length
 have core:∀H:Hp,Ka H->jz K H a (ns.map V.int)->kH P w H s₁.heap->(∀b,H b≠none->b=a)->(H a≠none->K.lookup a=none) ->
   codeAny (model P w) callerA (.call (.ref fa) ⟨[.ref a],[]⟩) (λr s'=>r=.ok (.ret (.bool true))/\OldK s₁.heap s'.heap/\s'.os=s₁.os/\AllBare s'.gens) s₁:=by
  intro H hO hS hok hA hK;have base_of:∀{b:Addr} {o:Obj},s₁.heap.get? b=some o->H b=none->(wc s₁.heap H).get? b=some o:=λe n=>DM e n
  have noA:∀{b:Addr} {o:Obj} {es:UQ} {ep:Nat},s₁.heap.get? b=some o->o.data=.dict es ep->H b=none:=λ{b o es ep} e d=>by
   cases q:H b with
   |none=>rfl
   |some u=>have e':b=a:=hA b (by rw[q];simp);subst e';rw[ha]at e;cases e;have d':Data.seq vs.toArray _=Data.dict es ep:=d;cases d'
  have nsK:∀{b:Addr} {m:UI},s₁.heap.Ns b m->(wc s₁.heap H).Ns b m:=λ{b m} ⟨o,es,ep,e,d,r⟩=>⟨o,es,ep,base_of e (noA e d),d,r⟩
  have hKb:K.In (wc s₁.heap H):=λb o e=>base_of (KX b o e) (by
   cases q:H b with
   |none=>rfl
   |some u=>
    have e':b=a:=hA b (by rw[q];simp);subst e'
    rw[hK (by rw[q];simp)]at e;cases e)
  have hM:Mod K mg (wc s₁.heap H):=⟨hKb,nsK hns,⟨mb,nsK hb,hbb⟩,let ⟨mc,h1,h2⟩:=hlim;⟨mc,nsK h1,h2⟩⟩;have e0:GL P w K mg (wc s₁.heap H) callerA [] s₁ H:=⟨rfl,hM,λb o e=>Gv e,Nat.le_of_eq (CC _ _),trivial,λb hb=>absurd (show b∈([]:UK)from hb) (by simp),hok,.of_eq hg⟩;refine T3 ((F _ hKb (nsK hns)).run callerA [] s₁ H ⟨[.ref a],[]⟩ [.ref a] [.ref a] _ _ hr e0 (hbind s₁ (.ref a)) (.cons rfl .nil) (hsp H hO hS)) λr s' h=>?_
  cases r with
  |error e=>exact(hCX H e s' h).elim
  |ok fl=>
   cases fl with
   |next=>exact False.elim h
   |brk=>exact False.elim h
   |cont=>exact False.elim h
   |ret u=>
    obtain⟨v,H',os,bare,un,hok',r',q⟩:=h;have q':v=.bl true:=q;subst q';obtain rfl:u=Value.bool true:=r';refine⟨rfl,OldK.of_keep λb o e=>?_,os,bare⟩
    cases q:H b with
    |none=>exact un.keep b o e q (by intro z;exact absurd (show b∈([]:UK)from z) (by simp)) (by simp)
    |some u=>
     rcases hO b with z|⟨ob,xs,z⟩
     ·rw[q]at z;cases z
     ·have z2:=un.frzs b ob _ z;obtain⟨e1,_⟩:=hok b _ z;obtain⟨e2,_⟩:=hok' b _ z2;rw[e]at e1;cases e1;exact e2
 cases hk:K.lookup a with
 |some o=>have e:=KX a o hk;rw[ha]at e;cases e;refine core (λ_=>none) (λ_=>.inl rfl) (.inr ⟨_,vs.toArray,_,hk,rfl,rfl,rfl,by rw[Q1,lenV];exact hl,by simpa using rv⟩) (λb u z=>by have z':(none:Option HO)=some u:=z;cases z') (λb z=>absurd rfl z) λz=>absurd rfl z
 |none=>
  refine core (λb=>if b=a then some (.frz {cls:=.type "list",data:=.seq vs.toArray} (.lst (ns.map V.int)))else none) (λb=>?_) (.inl (.inr ⟨{cls:=.type "list",data:=.seq vs.toArray},if_pos rfl⟩)) (λb u z=>?_) (λb z=>?_) λ_=>hk
  ·by_cases hb:b=a
   ·exact .inr ⟨_,_,if_pos hb⟩
   ·exact .inl (if_neg hb)
  ·by_cases hb:b=a
   ·have z':=(if_pos hb).symm.trans z;cases z';subst hb;exact⟨ha,by rw[QR];exact hl,vs,_,rv,ha⟩
   ·have z':=(if_neg hb).symm.trans z;cases z'
  ·by_cases hb:b=a
   ·exact hb
   ·exact absurd (if_neg hb) z
theorem GV{l:PySem.W.OpenLaw}{K:Params->UM}{CX:World->JT}{sp:World->Sp}
 (hn:l.most=some n)(hn2:n<=sizeLine)(hdf:d.params.defaults=[])(hr:cg k callerA)
 (hY:∀(w:World) (h:Heap),YP w h->(K w.params).In h)
 (F:∀(w:World) (mg:UI) (fa:Addr) (h:Heap),(K w.params).In h->h.Ns mainGlobals mg->mg d.name=some (.ref fa) ->
   ∃fd:FuncData,(∀(s:UX) (u:Value),BindsTo s fd ⟨[u],[]⟩ [(x,u)]) /\
    ∀base:Heap,(K w.params).In base->base.Ns mainGlobals mg->jA l.prog w (K w.params) mg base (CX w) k fa fd [x] (sp w))
 (hsp:∀(w:World) (H:Hp) (a:Addr) (ns:List Int),ns.length<=n->Ka H->jz (K w.params) H a (ns.map V.int)->sp w [.ref a] H (λv _=>v=.bl true) λ_ _ _=>False)
 (hCX:∀(w:World) (H:Hp) (s:UX) (e:Value) (s':UX),CX w [] H s (λ_ _ _=>False) e s'->False) :
  PySem.W.WalkO q loose XP YP l.row.toRowW d [] (λf vs=>PySem.call f vs):=by
 refine Att.ye hn hdf λw s₀ s₁ mg mb fa o pm cd doc a vs ns G Y ho hd hcd hmg hobj hints hlen hg=>?_;have KX:=hY w _ Y;obtain⟨fd,hb,hF⟩:=F w mg fa _ KX G.T.g hmg;exact D8 KX G.T.g G.T.b G.T.builtins G.T.nolimit hg hobj hints (QM hlen hn2) hr hF hb (λH hO hS=>hsp w H a ns hlen hO hS) λH e s'=>hCX w H s₁ e s'
end L2
namespace L2
open PySem PySem.Spec PyProof.Rows
def iJ(s:Stmt):Arguments:=match s with
 |.FunctionDef _ a _ _ _ _ _ _ _ _=>a
 |_=>{posonlyargs:=[],args:=[],vararg:=none,kwonlyargs:=[],kw_defaults:=[],kwarg:=none,defaults:=[]}
def fj(s:Stmt):List Stmt:=match s with
 |.FunctionDef _ _ b _ _ _ _ _ _ _=>b
 |_=>[]
def aC(s:Stmt):Scope:=match s with
 |.FunctionDef _ _ _ _ _ _ sc _ _ _=>sc
 |_=>{kind:=.function,names:=[],isGenerator:=false,isCoroutine:=false}
structure IK(K:UM)(x qual:Str)(st:Stmt)(f:Addr)(fd:FuncData):Prop where
 ex:∃(oc:Value) (od:Option Addr) (kV doc pm:Value) (an:Option Addr) (cdv ct:Value) (osl:UP),
  fd=PySem.W.fnOf x qual (iJ st) (fj st) (aC st) .none kV doc pm an cdv ct/\K.lookup f=some ⟨oc,od,.func fd,osl⟩/\PySem.W.codeIn K cdv qual=true
 kp:PySem.W.keepIn K (.ref f)=true
section
variable {P:UT} {w:World} {K:UM} {mg:UI} {base:Heap}
theorem IK.binds{st:Stmt}(F:IK K x qual st f fd)
 (h:∀(kV doc pm:Value) (an:Option Addr) (cdv ct:Value) (us:UL),us.length=ps.length->bindArgs (PySem.W.fnOf x qual (iJ st) (fj st) (aC st) .none kV doc pm an cdv ct) ⟨us,[]⟩=pure (ps.zip us)):Binds K fd ps []:=by
 obtain⟨oc,od,kV,doc,pm,an,cdv,ct,osl,rfl,lk,hcd⟩:=F.ex;exact .all (h kV doc pm an cdv ct)
theorem Ab{st:Stmt}{kV doc pm cdv ct:Value}(l:K.lookup f=some ⟨oc,od,.func (PySem.W.fnOf x qual (iJ st) (fj st) (aC st) .none kV doc pm an cdv ct),osl⟩)
 (c:PySem.W.codeIn K cdv qual=true)(k:PySem.W.keepIn K (.ref f)=true):IK K x qual st f (PySem.W.fnOf x qual (iJ st) (fj st) (aC st) .none kV doc pm an cdv ct):=⟨⟨oc,od,kV,doc,pm,an,cdv,ct,osl,rfl,l,c⟩,k⟩
end
def bG(H H':Hp):Prop:=∀b o,H b=some o->H' b=some o
theorem bG.refl(H:Hp):bG H H:=λ_ _ h=>h
theorem bG.trans(a:bG H H1)(b:bG H1 H2):bG H H2:=λc o h=>b c o (a c o h)
theorem bG.free(e:bG H H')(h:H' l=Option.none):H l=Option.none:=by
 cases q:H l with
 |none=>rfl
 |some o=>rw[e l o q]at h;cases h
theorem bG.seq{K:UM}(e:bG H H')(h:jz K H a xs):jz K H' a xs:=by
 rcases h with(h|⟨o,h⟩)|h
 ·exact .inl (.inl (e _ _ h))
 ·exact .inl (.inr ⟨o,e _ _ h⟩)
 ·exact .inr h
def eG(cells:List (Str×Addr)):List (Str×NameKind)->List (Str×Addr)->List (Str×Addr)
 | [],acc=>acc
 | (n,k)::r,acc=>if k == .free then eG cells r ((n,(cells.lookup n).getD 0)::acc)else eG cells r acc
theorem ni:∀(names:List (Str×NameKind)) (acc:List (Str×Addr)),(∀n,(n,NameKind.free)∈names->∃c,env.cells.lookup n=some c) ->
  (forIn (m:=Sem) names acc λ(x:Str×NameKind) (cs:List (Str×Addr))=>match x with
   | (name,kind)=>if(kind==NameKind.free)=true then(do let a <- cellOf env name;pure (ForInStep.yield ((name,a)::cs)))else pure (ForInStep.yield cs))=pure (eG env.cells names acc)
 | [],acc,_=>by rfl
 | (n,k)::r,acc,h=>by
  rw[R5];unfold eG;by_cases hk:(k==NameKind.free)=true
  ·obtain⟨c,hc⟩:=h n (by grind);have e:cellOf env n=pure c:=by simp[cellOf,hc]
   simp only[hk,Rr];rw[e,hc];exact ni r _ λm hm=>h m (QL _ hm)
  ·simp only[hk];exact ni r _ λm hm=>h m (QL _ hm)
theorem fX(h:∀n,(n,NameKind.free)∈scope.names->∃c,env.cells.lookup n=some c):closureFor scope env=pure (eG env.cells scope.names []):=by
 have q:=ni scope.names [] h
 simp_all[closureFor]
theorem lW:∀{names:List (Str×NameKind)} {acc:List (Str×Addr)},(x,NameKind.free)∉names->(eG cells names acc).lookup x=acc.lookup x
 | [],_,_=>rfl
 | (n,k)::r,acc,h=>by
  unfold eG;by_cases hk:(k==NameKind.free)=true
  ·rw[if_pos hk,lW λz=>h (QL _ z),Sa]
   have:(x==n)=false:=by
    grind
   rw[this]
  ·rw[if_neg hk,lW λz=>h (QL _ z)]
theorem ia:∀{names:List (Str×NameKind)} {acc:List (Str×Addr)},(x,NameKind.free)∈names->(eG cells names acc).lookup x=some ((cells.lookup x).getD 0)
 | (n,k)::r,acc,h=>by
  unfold eG;by_cases hr:(x,NameKind.free)∈r
  ·by_cases hk:(k==NameKind.free)=true
   ·rw[if_pos hk];exact ia hr
   ·rw[if_neg hk];exact ia hr
  ·rcases QK.mp h with e|e
   ·cases e;rw[if_pos (show(NameKind.free==NameKind.free)=true from rfl),lW hr,Sa];simp
   grind
theorem dA:∀(names:List (Str×NameKind)) (n:Nat) (acc:List (Str×Addr)),cellsFrom n names acc=cellsFrom n names []++acc
 | [],_,_=>rfl
 | (x,k)::r,n,acc=>by
  unfold cellsFrom;by_cases hk:(k==NameKind.cell)=true
  ·rw[if_pos hk,if_pos hk,dA r (n+1) ((x,n)::acc),dA r (n+1) [(x,n)],List.append_assoc];rfl
  ·rw[if_neg hk,if_neg hk];exact dA r n acc
theorem fY:∀{names:List (Str×NameKind)} {n:Nat},(x,c)∈cellsFrom n names []->(x,NameKind.cell)∈names/\n<=c
 | [],_,h=>nomatch h
 | (y,k)::r,n,h=>by
  unfold cellsFrom at h;by_cases hk:(k==NameKind.cell)=true
  ·rw[if_pos hk,dA]at h;rcases QN.mp h with h|h
   ·obtain⟨h1,h2⟩:=fY h;exact⟨QL _ h1,by omega⟩
   ·have e:(x,c)=(y,n):=by simpa using h
    cases e;have:=eq_of_beq hk;subst this;exact⟨QS,QE _⟩
  ·rw[if_neg hk]at h;obtain⟨h1,h2⟩:=fY h;exact⟨QL _ h1,h2⟩
structure cq(sc:Scope)(N own:UN)(scope:Scope):Prop where
 kind:scope.kind=.function
 frees:∀n,(n,NameKind.free)∈scope.names->sc.names.lookup n=some .cell\/sc.names.lookup n=some .free
 own:∀x∈own,(x,NameKind.free)∉scope.names
 out:∀x∈N,scope.names.lookup x≠some .local/\scope.names.lookup x≠some .cell
 uniq:∀p∈scope.names,scope.names.lookup p.1=some p.2
noncomputable def eR(sc:Scope)(N own:UN)(scope:Scope):Bool:=
 (scope.kind == .function)&&scope.names.all (λp=>p.2 != .free || (sc.names.lookup p.1==some .cell) || (sc.names.lookup p.1==some .free)) &&
 own.all (λx=>scope.names.all λp=>!(p.1==x&&p.2 == .free))&&N.all (λx=>scope.names.lookup x != some .local&&scope.names.lookup x != some .cell) &&
 scope.names.all (λp=>scope.names.lookup p.1==some p.2)
theorem cq.of{N own:UN}(h:eR sc N own scope=true):cq sc N own scope:=by
 unfold eR at h;simp only[QG]at h;obtain⟨⟨⟨⟨h1,h2⟩,h3⟩,h4⟩,h5⟩:=h;refine⟨eq_of_beq h1,λn hn=>?_,λx hx hn=>?_,λx hx=>?_,λp hp=>?_⟩
 ·have:=QX.mp h2 _ hn
  simp_all
 ·have:=QX.mp (QX.mp h3 x hx) _ hn
  simp_all
 ·simp_all
 grind
theorem kJ{env:Env}:∀(names:List (Str×NameKind)),
  (names.map λ(n,k)=>if(k==NameKind.free&&env.scope.kind == .function&&env.kindOf n==some .cell)then(n,NameKind.cell)else(n,k)).lookup x
   = (names.lookup x).map λk=>if(k==NameKind.free&&env.scope.kind == .function&&env.kindOf x==some .cell)then NameKind.cell else k
 | []=>rfl
 | (n,k)::r=>by
  have ih:=kJ (env:=env) (x:=x) r;rw[Q6];show List.lookup x ((if(k==NameKind.free&&env.scope.kind == .function&&env.kindOf n==some .cell)=true then(n,NameKind.cell)else(n,k))::_)=_;by_cases hc:(k==NameKind.free&&env.scope.kind == .function&&env.kindOf n==some .cell)=true
  ·rw[if_pos hc,Sa,Sa]
   cases hx:x==n with
   |true=>simp_all
   |false=>exact ih
  ·rw[if_neg hc,Sa,Sa]
   cases hx:x==n with
   |true=>have:=eq_of_beq hx;subst this;exact TZ some (if_neg hc).symm
   |false=>exact ih
theorem mem_of_lookupK{names:List (Str×NameKind)}(h:names.lookup x=some k):(x,k)∈names:=RN h
noncomputable def jg(scope:Scope)(C:Addr)(env:Env):Env:=
 {scope:=relabel scope env,locals:=C,globals:=env.globals,cells:=cellsFrom (C+1) scope.names (eG env.cells scope.names []),qual:=env.qual,func:=none,code:=env.code,frame:=env.frame,builtins:=env.builtins}
theorem jh
  (hQ:Q {scope:=scope,locals:=s.heap.objs.size,globals:=env.globals,cells:=cellsFrom (s.heap.objs.size+1) scope.names cl,qual:=env.qual,func:=none,code:=env.code,frame:=env.frame,builtins:=env.builtins}
   {s with heap:=pushCells (s.heap.push {cls:=.type "dict",data:=.dict #[]}) scope.names}) :
  wpAny M A (newFunctionEnv scope env.globals cl [] env.qual none .none (some env)) Q E s:=by
 refine QA (wpAny_alloc ?_);refine QA (wpAny_layCells _ (λname kind cells=>by rfl) _ _ _ _ ?_);rw[Rf ..];exact QB hQ
noncomputable def aq(X:Cx)(own:UN)(scope:Scope)(C:Addr)(s2:UX)(H2:Hp)(fp:UK)(pins:UE):Cx where
 prog:=X.prog
 w:=X.w
 K:=X.K
 mg:=X.mg
 base:=X.base
 A:=X.A
 N:=own++X.N
 s₀:=s2
 H₀:=H2
 env:=jg scope C X.env
 outer:=X.stack
 stack:=X.stack
 ex:=fp
 fn:=λx=>own.any (· == x)
 calm:=X.calm
 pn:=X.pn++pins
 xe:=λ_ _=>False
def Kept(X:Cx)(fp:UK)(H H':Hp)(s s':UX):Prop:=s'.os=s.os/\Un (uj X.stack) fp H H' s.heap s'.heap/\kH X.prog X.w H' s'.heap/\AllBare s'.gens
theorem Kept.inv{σ:St}(k:Kept X fp H H' s s')(I:Inv X pins σ H s)(hf:∀b∈fp,gC X pins H b):Inv X pins σ H' s':=
 I.IC k.1 k.2.1 k.2.2.1 k.2.2.2 λb hb=>⟨(hf b hb).2.2.2.1,(hf b hb).2.1,(hf b hb).2.2.2.2.1,(hf b hb).2.2.2.2.2⟩
section
variable {X:Cx} {own:UN} {scope:Scope} {pins:UE} {σ:St} {H2:Hp} {s2:UX} {fp:UK}
theorem ib(x:Str):(relabel scope X.env).names.lookup x=(scope.names.lookup x).map λk=>if(k==NameKind.free&&X.env.scope.kind == .function&&X.env.kindOf x==some .cell)then NameKind.cell else k:=
 kJ _
theorem bH(h:(jg scope C X.env).cells.lookup x=some c):((x,c)∈cellsFrom (C+1) scope.names []/\(x,NameKind.cell)∈scope.names/\C+1<=c)\/(eG X.env.cells scope.names []).lookup x=some c:=by
 have h':(cellsFrom (C+1) scope.names (eG X.env.cells scope.names [])).lookup x=some c:=h;rw[dA,List.lookup_append]at h'
 cases e:(cellsFrom (C+1) scope.names []).lookup x with
 |some d=>rw[e]at h';cases h';have m:=RN e;exact .inl ⟨m,fY m⟩
 |none=>rw[e]at h';exact .inr h'
theorem dQ(I:Inv X pins σ H2 s2)(CS:cq X.env.scope X.N own scope)(h:(eG X.env.cells scope.names []).lookup x=some c):(x,NameKind.free)∈scope.names/\X.env.cells.lookup x=some c:=by
 by_cases hf:(x,NameKind.free)∈scope.names
 ·rw[ia hf]at h;obtain⟨d,hd⟩:=I.ok.has x (CS.frees x hf)
  grind
 simp_all[lW]
theorem wt(I:Inv X pins σ H2 s2)(CS:cq X.env.scope X.N own scope){C:Addr}(hC:s2.heap.objs.size<=C)(hf:∀b∈fp,gC X pins H2 b)(hl:∀b∈fp,b<s2.heap.objs.size):(aq X own scope C s2 H2 fp pins).Ok:=by
 have old:∀x c,(eG X.env.cells scope.names []).lookup x=some c->X.env.cells.lookup x=some c/\c<s2.heap.objs.size:=λx c h=>by obtain⟨_,q⟩:=dQ I CS h;obtain⟨v,z⟩:=I.cell x c q;exact⟨q,z.lt⟩
 refine⟨I.ok.mod,CS.kind,I.ok.glob,I.ok.blt,hC,λx y c h1 h2=>?_,λx hx=>?_,λx c hx h=>?_,I.ok.hd,I.ok.frames,.inl rfl,λb hb=>⟨?_,λx c h=>?_⟩,I.bs,QM I.ok.bsz I.sz,λb o e hb=>?_,λb hb z=>?_,I.stack,I.Be⟩
 ·rcases bH h1 with⟨a1,_,a2⟩|a1<;>rcases bH h2 with⟨b1,_,b2⟩|b1
  ·have ap:=(cellsFrom_ok scope.names {(default:Heap)with objs:=Array.replicate (C+1) default} (C+1) [] ⟨λ_ _ hm=>(nomatch hm),List.Pairwise.nil⟩ (by simp)).apart;simp only[Array.size_replicate]at ap;exact name_of_addr ap a1 b1
  ·exact absurd (QH (old y c b1).2 (QM hC (QM (Sb _) a2))) (QU _)
  ·exact absurd (QH (old x c a1).2 (QM hC (QM (Sb _) b2))) (QU _)
  ·exact I.ok.inj x y c (old x c a1).1 (old y c b1).1
 ·have hx':(relabel scope X.env).names.lookup x=some .cell\/(relabel scope X.env).names.lookup x=some .free:=hx;rw[ib]at hx';show ∃c,(cellsFrom (C+1) scope.names (eG X.env.cells scope.names [])).lookup x=some c;refine Option.isSome_iff_exists.mp (TL _ _ _ ?_)
  cases e:scope.names.lookup x with
  |none=>rw[e]at hx';simp at hx'
  |some k=>
   rw[e]at hx';by_cases hk:k=.free
   ·subst hk;exact .inr (by rw[ia (mem_of_lookupK e)];rfl)
   ·have hb:(k==NameKind.free)=false:=by simpa using hk
    simp only[Ui,hb,TY,QO,Rx,Tb]at hx';rcases hx' with q|q
    ·exact .inl (by rw[q])
    ·exact absurd q hk
 ·obtain⟨y,hy,e⟩:=UA.mp hx;have:=eq_of_beq e;subst this;rcases bH h with⟨_,_,a⟩|a
  ·exact QM hC (QM (Sb _) a)
  ·exact absurd (dQ I CS a).1 (CS.own _ hy)
 ·exact QQ (QH (hl b hb) hC)
 ·rcases bH h with⟨_,_,a⟩|a
  ·exact Tp (QQ (QH (hl b hb) (QM hC (QM (Sb _) a))))
  ·exact(hf b hb).2.2.2.2.1 x c (old x c a).1
 ·rcases(hf b hb).2.2.2.1 with z|z
  ·exact I.ok.noex b o e z
  ·exact absurd (QH (QF e) (QM I.ok.bsz z)) (QU _)
 ·rcases QK.mp (I.jf b z)with e|e
  ·exact(hf b hb).2.1 e
  ·exact(hf b hb).2.2.1 e
theorem jC(I:Inv X pins σ H2 s2)(CS:cq X.env.scope X.N own scope)(hc:∀c v,s2.heap.IsCell c v->(∃x,X.env.cells.lookup x=some c)->h.IsCell c v) :
  ∀(i:Nat) (x:Str) (v:V),(own++X.N)[i]?=some x->(List.replicate own.length (none:Option V)++σ)[i]?=some (some v)->IB (relabel scope X.env) x->∃u,RelV v u/\Look (jg scope C X.env) h m x u:=by
 intro i x v h1 h2 h3
 have hi:own.length<=i:=by
  by_cases hi:own.length<=i
  ·exact hi
  ·rw[Q8 (by simpa using hi),SO]at h2;split at h2<;>cases h2
 rw[Rk hi]at h1;rw[Rk (by simpa using hi),RI]at h2;have hN:=CS.out x (QZ h1)
 have hfr:scope.names.lookup x=some .free:=by
  unfold IB at h3;rw[ib]at h3
  cases e:scope.names.lookup x with
  |none=>rw[e]at h3;simp at h3
  |some k=>
   rw[e]at h3 hN;by_cases hk:k=.free
   ·rw[hk]
   ·have hb:(k==NameKind.free)=false:=by simpa using hk
    simp only[Ui,hb,TY,QO,Rx,Tb]at h3;rcases h3 with q|q|q
    ·exact absurd (by rw[q]) hN.1
    ·exact absurd (by rw[q]) hN.2
    ·exact absurd q hk
 have hm:=mem_of_lookupK hfr;have hk:=CS.frees x hm;obtain⟨mX,hn,hl⟩:=I.loc;obtain⟨u,r,l⟩:=hl _ x v h1 h2 (hk.elim (λz=>.inr (.inl z)) λz=>.inr (.inr z));refine⟨u,r,?_⟩;rcases l with⟨z,_⟩|⟨_,c,hcx,z⟩
 ·have z':X.env.scope.names.lookup x=some .local:=z;rcases hk with q|q<;>rw[q]at z'<;>cases z'
 ·refine .inr ⟨?_,c,?_,hc c _ z ⟨x,hcx⟩⟩
  ·show(relabel scope X.env).names.lookup x=some .cell\/(relabel scope X.env).names.lookup x=some .free;rw[ib,hfr];simp only[Ui];split
   ·exact .inl rfl
   ·exact .inr rfl
  ·show(cellsFrom (C+1) scope.names (eG X.env.cells scope.names [])).lookup x=some c;rw[dA,List.lookup_append]
   have no:(cellsFrom (C+1) scope.names []).lookup x=none:=by
    cases e:(cellsFrom (C+1) scope.names []).lookup x with
    |none=>rfl
    |some d=>have:=CS.uniq _ (fY (RN e)).1;simp only[]at this;rw[hfr]at this;cases this
   rw[no,ia hm,hcx];rfl
end
theorem Ac(I:Nat->UX->Prop)
 (turn:∀n s,I n s->wpAny (model prog w) A (pyNext it) (λr s1=>match r with
   |none=>R (.ok .next) s1
   |some v=>wpAny (model prog w) A (letOwnedTupleGo target it v) (λ_ s2=>wpAny (model prog w) A (assign target env v) (λ_ s3=>
     wpAny (model prog w) A (forIn ifs true λc r=>if r=true then do let ok <- isTrue c env (eval c env);pure (ForInStep.yield ok)else pure (ForInStep.yield r)) (λok s4=>
      if ok=true then wpAny (model prog w) A (eval elt env) (λx s5=>
       wpAny (model prog w) A (call (.builtin "list.append") [acc,x]) (λ_ s6=>∃m,m<n/\I m s6) (λ_ _=>False) s5) (λ_ _=>False) s4
      else ∃m,m<n/\I m s4) (λ_ _=>False) s3) (λ_ _=>False) s2) (λ_ _=>False) s1) (λ_ _=>False) s)
 (n:Nat)(h:I n s) :
  codeAny (model prog w) A (.compLoop (.ListComp elt [⟨target,iter,ifs,0⟩] scope pos) 0 it acc env) R s:=by
 refine codeAny_loop rfl I (λn s hI=>?_) n h;show wpAny _ A ((compTurn (.ListComp elt [⟨target,iter,ifs,0⟩] scope pos) 0 it acc env).onRaise (λx=>do noteFrame x env;theTreesLotGoes x)) _ _ s;refine wpAny_noted ?_;rw[compTurn_list];refine RO (E:=λ_ _=>False) (E':=_) (Q':=_) ?_ (λ_ _ q=>q) λ_ _ z=>z.elim;refine QA (RS (QA (bw (turn n s hI) (λr s1 h1=>?_))))
 cases r with
 |none=>exact QB h1
 |some v=>
  refine QA (bw h1 λ_ s2 h2=>?_);refine QA (bw h2 λ_ s3 h3=>QA (bw h3 λok s4 h4=>?_))
  cases ok with
  |false=>exact QB ⟨rfl,h4⟩
  |true=>exact QA (QA (bw h4 λx s5 h5=>QA (bw h5 λ_ s6 h6=>QB (QB ⟨rfl,h6⟩))))
noncomputable def CT(X:Cx)(ifs:UO)(t:TT):Prop:=
 ∀(pins:UE) (s:UX) (σ:St) (H:Hp) (Q:Bool->Hp->Prop),Inv X pins σ H s->t σ H Q ->
  wpAny (model X.prog X.w) X.A (forIn ifs true λc r=>if r=true then do let ok <- isTrue c X.env (eval c X.env);pure (ForInStep.yield ok)else pure (ForInStep.yield r)) (TP X pins σ Q) X.xe s
def Oy:TT:=λ_ H Q=>Q true H
theorem GW:CT X [] Oy:=λ_ _ _ H _ I h=>wpAny_tests_nil ⟨H,I,h⟩
theorem GX(h:PT X c t):CT X [c] t:=λpins s σ H Q I q=>wpAny_tests_one (h pins s σ H Q I q)
noncomputable def D9(n:Nat)(J:It)(g:TG)(tc:TT)(te:TE)(σ:St)(H:Hp)(Q:VK):Prop:=
 ∃W:Nat->Nat->List V->Hp->Prop,(∃m,W 0 m [] H)/\∀i m ys H,W i m ys H ->
  (J.stop i H/\ys.length<=sizeLine/\∀p,H p=none->Q (.ref p) (upd H p (.lst ys))) \/
  (J.go i H/\ys.length<=sizeLine/\∃N:List V->Hp->Prop,(∀ys' H',N ys' H'->∃m',m'<m/\W (i+1) m' ys' H')/\∀x H',J.yld i H x H'->g x (List.replicate n none++σ) H' λσ2 H2=>tc σ2 H2 λb H3=>
   if b=true then te σ2 H3 λy H4=>N (ys++[y]) H4 else N ys H3)
theorem rH{σ:St}
 {RR:Value->Addr->Result->UX->Prop}(I:Inv X pins σ H2 s2)(CS:cq X.env.scope X.N own scope)(hc:X.calm=true)(T:Turn X.prog X.w X.K tg J fp it tn)(st:tn 0 s2.heap)(hf:∀b∈fp,gC X pins H2 b)
 (hg:∀C s2 H2 fp pins,PG (aq X own scope C s2 H2 fp pins) tg g)(ht:∀C s2 H2 fp pins,CT (aq X own scope C s2 H2 fp pins) ifs tc)(he:∀C s2 H2 fp pins,PE (aq X own scope C s2 H2 fp pins) elt te)
 (hW:D9 own.length J g tc te σ H2 Q)
 (hR:∀D C H' s',Inv X pins σ H' s'->gC X pins H' C->(∃m,s'.heap.Ns C m)->Q (.ref D) H'->Kept X fp H2 H' s2 s'->RR (.ref D) C (.ok .next) s') :
  wpAny (model X.prog X.w) X.A (newList []) (λacc s3=>wpAny (model X.prog X.w) X.A (newFunctionEnv scope X.env.globals (eG X.env.cells scope.names []) [] X.env.qual none .none (some X.env)) (λcenv s4=>
   codeAny (model X.prog X.w) X.A (.compStart (.ListComp elt [⟨tg,iter,ifs,0⟩] scope pos) 0 (.ref it) acc {cenv with scope:=relabel scope X.env}) (RR acc cenv.locals) s4) E s3) E s2:=by
 refine Rb (jh ?_);dsimp only;generalize hH:s2.heap.push {cls:=.type "list",dict:=none,data:=.seq ([]:UL).toArray}=h3;have hDC:h3.objs.size=s2.heap.objs.size+1:=by rw[<- hH,Rf]
 have eC:({scope:=relabel scope X.env,locals:=h3.objs.size,globals:=X.env.globals,cells:=cellsFrom (h3.objs.size+1) scope.names (eG X.env.cells scope.names []),qual:=X.env.qual,func:=none,code:=X.env.code,frame:=X.env.frame,builtins:=X.env.builtins}:Env)=jg scope h3.objs.size X.env:=rfl;rw[eC];generalize eD:s2.heap.objs.size=D at *;generalize eCC:h3.objs.size=C at *;have hl:∀b∈fp,b<s2.heap.objs.size:=λb hb=>by obtain⟨o,e,_⟩:=T.obj 0 _ st b hb;exact QF e
 have hC:s2.heap.objs.size<=C:=by omega
 generalize hH4:pushCells (h3.push {cls:=.type "dict",data:=.dict #[]}) scope.names=h4;have k34:∀b o,(h3.push {cls:=.type "dict",data:=.dict #[]}).get? b=some o->h4.get? b=some o:=λb o e=>by rw[<- hH4];exact pushCells_keeps _ _ b o e
 have k24:∀b o,s2.heap.get? b=some o->h4.get? b=some o:=λb o e=>k34 b o (QC _ (by rw[<- hH];exact QC _ e));have nsC:h4.Ns C λ_=>none:=by have:=Heap.Ns.new h3 (.type "dict");rw[eCC]at this;exact this.keeps k34
 have accD:h4.get? D=some {cls:=.type "list",data:=.seq (([]:UL).toArray)}:=k34 _ _ (QC _ (by rw[<- hH,<- eD];exact QJ _ rfl));have cellN:∀x c,(x,c)∈cellsFrom (C+1) scope.names []->h4.IsCell c none/\C+1<=c:=λx c hm=>by have ok:=cellsFrom_ok scope.names (h3.push {cls:=.type "dict",data:=.dict #[]}) (C+1) [] ⟨λ_ _ hm=>(nomatch hm),List.Pairwise.nil⟩ (by rw[Rf];omega);rw[Rf,eCC,hH4]at ok;exact ok.empty x c hm
 have hne:H2 D=none:=by rw[<- eD];exact I.hok.fresh (QE _)
 have ok':(aq X own scope C s2 H2 fp pins).Ok:=wt I CS hC hf hl
 have rebase:∀{σ':St} {H':Hp} {ps:UE} {s':UX},Inv (aq X own scope C s2 H2 fp pins) ps σ' H' s'->Inv (aq X own scope C s2 H2 fp pins) ps (List.replicate own.length none++σ) H' s':=λ{σ' H' ps s'} J'=>by
  obtain⟨m,hn,_⟩:=J'.loc;refine⟨J'.ok,J'.os,J'.bare,J'.base,⟨m,hn,jC I CS λc v z ⟨x,hx⟩=>?_⟩,J'.cell,J'.free,J'.freeC,J'.pin,J'.hok,?_⟩
  ·obtain⟨o,ho,hd⟩:=z;obtain⟨sl,e⟩:=J'.base.any ho (I.freeC x c hx) λhb=>(hf c hb).2.2.2.2.1 x c hx rfl;exact⟨_,e,hd⟩
  ·show(List.replicate own.length none++σ).length=(own++X.N).length;rw[QW,QW,RI,I.len]
 have start:Inv (aq X own scope C s2 H2 fp pins) [] (List.replicate own.length none++σ) H2 {s2 with heap:=h4}:=by
  have I4:Inv X pins σ H2 {s2 with heap:=h4}:=I.kept (t':=s2.toks) k24;refine⟨ok',rfl,I.bare,Un.kept k24,⟨_,nsC,jC I CS λc v z _=>z.keeps k24⟩,λx c h=>?_,I.hok.fresh hC,λx c h=>?_,λp hp=>?_,I4.hok,?_⟩
  ·rcases bH h with⟨a,_,_⟩|a
   ·exact⟨_,(cellN x c a).1⟩
   ·obtain⟨v,z⟩:=I.cell x c (dQ I CS a).2;exact⟨v,z.keeps k24⟩
  ·rcases bH h with⟨_,_,a⟩|a
   ·exact I.hok.fresh (QM hC (QM (Sb _) a))
   ·exact I.freeC x c (dQ I CS a).2
  ·have hp':p∈X.pn++pins:=by
    rcases QN.mp hp with z|z
    ·exact z
    ·exact nomatch z
   obtain⟨e,n,ne,nf,d⟩:=I.pin p hp';refine⟨k24 _ _ e,n,QQ (QH (QF e) hC),λz=>?_,d⟩;rcases QK.mp (I.jf _ z)with q|q
   ·exact ne q
   ·exact nf q
  ·show(List.replicate own.length none++σ).length=(own++X.N).length;rw[QW,QW,RI,I.len]
 obtain⟨W,⟨m0,w0⟩,turn⟩:=hW
 have nfs:∀b,s2.heap.objs.size<=b->b∉(aq X own scope C s2 H2 fp pins).fs:=λb hb z=>by
  rcases QK.mp (I.jf b z)with q|q
  ·rw[q]at hb;exact absurd (QH I.lt hb) (QU _)
  ·exact I.zN hb q
 have fpD:∀{H':Hp},H' D=none->gC (aq X own scope C s2 H2 fp pins) [] H' D:=λ{H'} hn=>by
  refine⟨hn,QQ (by show D<C;omega),nfs D (by omega),.inr (by show s2.heap.objs.size<=D;omega),λx c h z=>?_,λp hp z=>?_⟩
  ·rcases bH h with⟨_,_,a⟩|a
   ·rw[z]at a;exact absurd (QH (show D<C+1 by omega) a) (QU _)
   ·obtain⟨v,q⟩:=I.cell x c (dQ I CS a).2;have:=q.lt;rw[z,eD]at this;exact QU _ this
  ·have hp':p∈X.pn++pins:=by
    rcases QN.mp hp with z|z
    ·exact z
    ·exact nomatch z
   have:=QF (I.pin p hp').1;rw[z,eD]at this;exact QU _ this
 have nD:D∉fp:=λz=>by have:=hl D z;rw[eD]at this;exact QU _ this
 have stat:∀{H':Hp} {ps:UE},(∀p∈ps,p.1=D)->(∀b∈fp,H' b=none)->∀b∈fp,gC (aq X own scope C s2 H2 fp pins) ps H' b:=λ{H' ps} hps hn b hb=>by
  obtain⟨f0,f1,f2,f3,f4,f5⟩:=hf b hb;refine⟨hn b hb,(ok'.exf b hb).1,ok'.exfs b hb,.inl hb,(ok'.exf b hb).2,λp hp=>?_⟩;rcases QN.mp hp with z|z
  ·exact f5 p z
  ·rw[hps p z];exact λq=>nD (q▸hb)
 let LI:Nat->UX->Prop:=λn s'=>∃i ys its k H',Inv (aq X own scope C s2 H2 fp pins) [] (List.replicate own.length none++σ) H' s'/\tn i s'.heap/\(∀b∈fp,H' b=none)/\H' D=none /\
  s'.heap.get? D=some {cls:=.type "list",data:=.seq (List.toArray its) k}/\Vals ys its/\W i n ys H'
 have l0:LI m0 {s2 with heap:=h4}:=⟨0,[],[],0,H2,start,T.keep _ _ _ st λb _ o e=>k24 b o e,λb hb=>(hf b hb).1,hne,accD,.nil,w0⟩
 have loop:codeAny (model X.prog X.w) X.A (.compLoop (.ListComp elt [⟨tg,iter,ifs,0⟩] scope pos) 0 (.ref it) (.ref D) (jg scope C X.env)) (RR (.ref D) C) {s2 with heap:=h4}:=by
  refine Ac LI ?_ m0 l0;rintro n s3 ⟨i,ys,its,k,H3,I3,st3,fr3,d3,a3,v3,w3⟩;rcases turn i n ys H3 w3 with⟨stop,hz,qn⟩|⟨go,hz,NN,hNN,step⟩
  ·have I3p:=I3.pinned (fp:=[D]) (λb hb=>(QT.mp hb)▸fpD d3) λb hb=>⟨_,(QT.mp hb)▸a3,λv z=>(by cases z)⟩;refine bw (T.done (aq X own scope C s2 H2 fp pins) rfl rfl rfl hc i _ s3 _ H3 _ I3p (stat (λp hp=>by have q:p∈bK [D] s3.heap:=hp;have:=(dZ q).1;simpa using this) fr3) st3 stop) λr s4 ⟨hr,I4⟩=>?_;subst hr;have a4:s4.heap.get? D=_:=(I4.pin (D,_) (QD _ (QD _ (aQ (by simp) a3)))).1;have u4:Un (uj X.stack) fp H2 H3 s2.heap s4.heap:=I4.base
   have okD:kH X.prog X.w (upd H3 D (.lst ys)) s4.heap:=λb o e=>by
    by_cases hb:b=D
    ·subst hb;rw[aZ]at e;cases e;exact⟨hz,its,k,v3,a4⟩
    ·rw[ay hb]at e;exact(I4.hok b o e).qP (λ_ _ _ q=>q) (λc q=>by rw[ay (aF q d3)];exact q) λc xs q=>by rw[ay (aF q d3)];exact q
   have nDo:∀b o,s2.heap.get? b=some o->b≠D:=λb o e=>by rw[<- eD];exact QQ (QF e)
   have uD:Un (uj X.stack) fp H2 (upd H3 D (.lst ys)) s2.heap s4.heap:=⟨u4.keep,u4.slot,λb o e n hx=>by rw[ay (nDo b o e)];exact u4.free b o e n hx,u4.there,
    λb xs e=>by rw[ay (aF e hne)];exact u4.tups b xs e,λb o xs e=>by rw[ay (aF e hne)];exact u4.frzs b o xs e,λb ps e=>by rw[ay (aF e hne)];exact u4.tbls b ps e⟩
   have kp:Kept X fp H2 (upd H3 D (.lst ys)) s2 s4:=⟨I4.os,uD,okD,I4.bare⟩;have I5:Inv X pins σ (upd H3 D (.lst ys)) s4:=kp.inv I hf;obtain⟨m,hn,_⟩:=I4.loc;refine hR D C _ s4 I5 ⟨by rw[ay (show C≠D by omega)];exact I4.free,Sr (QH I.lt hC),I.zN hC,.inr (QM I.sz hC),λx c e z=>?_,λp hp z=>?_⟩ ⟨m,hn⟩ (qn D d3) kp
   ·obtain⟨v,q⟩:=I.cell x c e;exact absurd (QH q.lt (by rw[z];exact hC)) (QU _)
   ·exact absurd (QH (QF (I.pin p hp).1) (by rw[z];exact hC)) (QU _)
  ·have I3p:=I3.pinned (fp:=[D]) (λb hb=>(QT.mp hb)▸fpD d3) λb hb=>⟨_,(QT.mp hb)▸a3,λv z=>(by cases z)⟩;have onlyD:∀p∈([]++bK [D] s3.heap),p.1=D:=λp hp=>by have q:p∈bK [D] s3.heap:=hp;have:=(dZ q).1;simpa using this
   refine bw (T.item (aq X own scope C s2 H2 fp pins) rfl rfl rfl hc i _ s3 _ H3 _ I3p (stat onlyD fr3) st3 go) λr s4 ⟨u,hr,h4'⟩=>?_;subst hr;refine bw h4' λ_ s5 ⟨x,H5,I5,r5,y5,st5,fr5⟩=>?_;have I5p:=I5.pinned (fp:=fp) (stat onlyD fr5) (T.obj _ _ st5)
   have cont:∀{s6:UX} {σ6:St} {H6:Hp},Inv (aq X own scope C s2 H2 fp pins) (([]++bK [D] s3.heap)++bK fp s5.heap) σ6 H6 s6 ->
     Inv (aq X own scope C s2 H2 fp pins) [] (List.replicate own.length none++σ) H6 s6/\tn (i+1) s6.heap/\(∀b∈fp,H6 b=none)/\H6 D=none/\s6.heap.get? D=some {cls:=.type "list",data:=.seq (List.toArray its) k}:=λ{s6 σ6 H6} I6=>by
    have pD:=I6.pin (D,_) (QD _ (Q9 _ (QD _ (aQ (by simp) a3))));refine⟨rebase (I6.gM λp hp=>nomatch hp),T.keep _ _ _ st5 λb hb o e=>(I6.pin (b,o) (QD _ (QD _ (aQ hb e)))).1,λb hb=>?_,pD.2.1,pD.1⟩;obtain⟨o,e,_⟩:=T.obj _ _ st5 b hb;exact(I6.pin (b,o) (QD _ (QD _ (aQ hb e)))).2.1
   refine bw (hg C s2 H2 fp pins _ s5 _ H5 x u _ I5p r5 (step x H5 y5)) λ_ s6 ⟨σ6,H6,I6,q6⟩=>?_;refine bw (ht C s2 H2 fp pins _ s6 σ6 H6 _ I6 q6) λb s7 ⟨H7,I7,q7⟩=>?_
   cases b with
   |false=>have q7':NN ys H7:=q7;obtain⟨m',hm,w7⟩:=hNN _ _ q7';obtain⟨c1,c2,c3,c4,c5⟩:=cont I7;exact⟨m',hm,i+1,ys,its,k,H7,c1,c2,c3,c4,c5,v3,w7⟩
   |true=>refine bw (he C s2 H2 fp pins _ s7 σ6 H7 _ I7 q7) λv s8 ⟨y,H8,I8,r8,q8⟩=>?_;obtain⟨m',hm,w8⟩:=hNN _ _ q8;obtain⟨c1,c2,c3,c4,c5⟩:=cont I8;refine wpAny_list_append_plain ⟨k,c5⟩ (λh' hp hs=>?_) (by rw[Q1,<- v3.length];exact hz);obtain⟨k',e'⟩:=hp;obtain⟨f0,f1,f2,f3,f4,f5⟩:=fpD c4;refine⟨m',hm,i+1,ys++[y],its++[v],k',H8,c1.turned (t':=s8.toks) (λb o hb e=>(hs.2 b hb).trans e) f0 f1 f3 f4 f5,T.keep _ _ _ c2 λb hb o e=>(hs.2 b λz=>nD (z▸hb)).trans e,c3,c4,?_,v3.append (.cons r8 .nil),w8⟩;show h'.get? D=_;rw[e'];simp
 exact codeAny_compStart_list loop (T.self X.A 0 {s2 with heap:=h4} _ _ (T.keep _ _ _ st λb _ o e=>k24 b o e) loop)
section
variable {X:Cx} {own:UN} {scope:Scope} {elt tg iter:Expr} {ifs:UO} {pos:Pos} {wi:TI} {g:TG} {tc:TT} {te:TE}
def Bo(n:Nat)(wi:TI)(g:TG)(tc:TT)(te:TE):TE:=λσ H Q=>wi σ H λJ H1=>D9 n J g tc te σ H1 Q
theorem jR(CS:cq sc N own scope):∀x∈scope.names,x.2=.local->scope.names.lookup x.1=some .local:=λx hx e=>by rw[CS.uniq x hx,e]
theorem GY(own:UN)(CS:eR X.env.scope X.N own scope=true)(hc:X.calm=true)(hi:PI X tg iter wi)(hg:∀C s2 H2 fp pins,PG (aq X own scope C s2 H2 fp pins) tg g)
 (ht:∀C s2 H2 fp pins,CT (aq X own scope C s2 H2 fp pins) ifs tc)(he:∀C s2 H2 fp pins,PE (aq X own scope C s2 H2 fp pins) elt te)(hs:∀x,foldedSetIterable iter X.env x=pure x:=by intro _;rfl) :
  PE X (.ListComp elt [⟨tg,iter,ifs,0⟩] scope pos) (Bo own.length wi g tc te):=by
 intro pins s σ H Q I h;have CS:=cq.of CS;refine SH rfl hs (fX λn hn=>I.ok.has n (CS.frees n hn)) CS.kind (jR CS) (bw (hi pins s σ H _ I h) λv s1 h1=>bw h1 λitv s2 h2=>?_);obtain⟨it,fp,tn,J,H2,e,I2,T,st2,f2,hW⟩:=h2;subst e;refine rH I2 CS hc T st2 f2 hg ht he hW λD C H' s' I' fC ⟨m,hn⟩ q _=>?_;refine⟨m,hn,λh' hs'=>⟨.ref D,H',?_,rfl,q⟩⟩;obtain⟨f0,f1,_,f3,f4,f5⟩:=fC;exact I'.turned (λb o hb e=>(hs'.2 b hb).trans e) f0 f1 f3 f4 f5
theorem GZ(own:UN){pos' spos:Pos}(hN:X.N.Nodup)(hxi:X.N[i]?=some x)(hx:X.env.scope.names.lookup x=some .local)(CS:eR X.env.scope X.N own scope=true)(hc:X.calm=true)(hi:PI X tg iter wi)(hg:∀C s2 H2 fp pins,PG (aq X own scope C s2 H2 fp pins) tg g)
 (ht:∀C s2 H2 fp pins,CT (aq X own scope C s2 H2 fp pins) ifs tc)(he:∀C s2 H2 fp pins,PE (aq X own scope C s2 H2 fp pins) elt te)(hs:∀x,foldedSetIterable iter X.env x=pure x:=by intro _;rfl)
 (hsw:swapsWith (.ListComp elt [⟨tg,iter,ifs,0⟩] scope pos) (some (.Name x pos')) spos.line X.env=pure true:=by rfl) :
  PS X (.Assign [.Name x pos'] (.ListComp elt [⟨tg,iter,ifs,0⟩] scope pos) spos) (CD (Bo own.length wi g tc te) (aA i)):=by
 intro pins s σ H D I h;have CS:=cq.of CS;rw[exec_Assign_Name_used _ _ _ _ hsw];refine QA (RS (QA ?_));show wpAny _ X.A (do let _ <- comprehension (.ListComp elt [⟨tg,iter,ifs,0⟩] scope pos) scope X.env _ (newList []) false (eval iter X.env) (some (assign (.Name x pos') X.env))) _ _ s
 refine QA (bw (SH (use:=some (assign (.Name x pos') X.env)) (Q:=λ_ s'=>SP X pins D .next s') (g:=⟨tg,iter,ifs,0⟩) rfl hs (fX λn hn=>I.ok.has n (CS.frees n hn)) CS.kind (jR CS)
  (bw (hi pins s σ H _ I h) λv s1 h1=>bw h1 λitv s2 h2=>?_)) λ_ s' hq=>QB (QB hq))
 obtain⟨it,fp,tn,J,H2,e,I2,T,st2,f2,hW⟩:=h2;subst e;refine rH (Q:=λx H1=>aA i x σ H1 D.nx) (RR:=λacc C=>compPost (model X.prog X.w) X.A X.xe (some (assign (.Name x pos') X.env)) (λ_ s'=>SP X pins D .next s') acc C) I2 CS hc T st2 f2 hg ht he hW λDl C H' s' I' fC ⟨m,hn⟩ q _=>?_;show wpAny _ _ (assign (.Name x pos') X.env (.ref Dl)) _ _ s';refine wpAny_assign_Name (pf (v:=.ref Dl) I' hN hxi (.inl hx) rfl (λs'' I'' hsb=>?_) (.inr hx));obtain⟨f0,f1,f2',f3,f4,f5⟩:=fC;obtain⟨a,sb,ha⟩:=hsb
 have hCa:C≠a:=by
  rcases ha with e|e
  ·rw[e];exact f1
  ·exact(f4 x a e).symm
 refine⟨m,hn.sameBut sb hCa,λh' hs'=>⟨_,H',?_,q⟩⟩;exact I''.turned (t':=s''.toks) (λb o hb e=>(hs'.2 b hb).trans e) f0 f1 f3 f4 f5
end
structure Nx(P:UT)(w:World)(i l:Addr)(st:Nat->Heap->Prop)(xs:UL):Prop where
 obj:∀k h,st k h->∃o vs,h.get? i=some o/\o.data=.fields vs
 keep:∀k h h',st k h->(∀o,h.get? i=some o->h'.get? i=some o)->(∀o,h.get? l=some o->h'.get? l=some o)->st k h'
 item:∀(A:UW) k (s:UX) x (Q:UD) (E:UD),st k s.heap->xs[k]?=some x->(∀h',st (k+1) h'->Heap.SameBut i s.heap h'->Q x {s with heap:=h'}) ->
  wpAny (model P w) A (Builtin.SmallTypes.nextOf (.ref i)) Q E s
 done:∀(A:UW) k (s:UX) (Q:UD) (E:UD),A.handled=none->st k s.heap->xs[k]?=none ->
  (∀h' e,Heap.ExtBut i s.heap h'->(∃o,h'.get? e=some o/\o.cls=.type "StopIteration")->E (.ref e) {s with heap:=h'})->wpAny (model P w) A (Builtin.SmallTypes.nextOf (.ref i)) Q E s
section
variable {P:UT} {w:World} {A:UW} {E:UD} {s:UX}
theorem yf{h:Heap}(a:h.IsTupleIter i l k)(b:h.IsTuple l its):i≠l:=λe=>by
 obtain⟨o,h1,c1,_⟩:=a;obtain⟨o',h2,c2,_⟩:=b
 grind
theorem Ad(a:s.heap.IsTupleIter it t k)(b:s.heap.IsTuple t its)(hx:its[k]?=some x)
 (q:∀h',h'.IsTupleIter it t (k+1)->Heap.SameBut it s.heap h'->Q x {s with heap:=h'}):wpAny (model P w) A (Builtin.SmallTypes.nextOf (.ref it)) Q E s:=by
 obtain⟨oi,gi,ci,di⟩:=id a;obtain⟨ot,gt,_,nt,dt⟩:=b;unfold Builtin.SmallTypes.nextOf;refine QA (Rc (name:=Str.ofString "__next__") a.typeIs Sl (Q7 Sl a.typeIs F.entry_tuple_iterator_next ?_ (F.args_tuple_iterator_next_1 _)));show wpAny _ _ (field (Value.ref it) 0 >>= _) _ _ s;refine QA (RU (x:=Value.ref t) gi di rfl ?_);rw[if_neg (show ¬ (Value.ref t==Value.none)=true from Q5)];show wpAny _ _ (field (Value.ref it) 1 >>= _) _ _ s;refine QA (RU (x:=Value.int k 0) gi di rfl ?_);show wpAny _ _ (seqItems? (Value.ref t) >>= _) _ _ s;refine QA (RJ gt dt ?_);simp only[hx,Si];refine QA (wpAny_setField gi di (by simp) (QB ⟨x,rfl,QB (q _ ⟨_,R4 _ gi (Obj.isFreed_of_fields (Obj.data_mapFields di _)),(Obj.cls_mapFields ..).trans ci,?_⟩ (Tq ..))⟩));rw[Obj.data_mapFields di];simp[rawInt]
theorem rJ(hh:A.handled=none)(a:s.heap.IsTupleIter it t k)(b:s.heap.IsTuple t its)(hx:its[k]?=none)
 (q:∀h' e,Heap.ExtBut it s.heap h'->(∃o,h'.get? e=some o/\o.cls=.type "StopIteration")->E (.ref e) {s with heap:=h'}):wpAny (model P w) A (Builtin.SmallTypes.nextOf (.ref it)) Q E s:=by
 obtain⟨oi,gi,ci,di⟩:=id a;obtain⟨ot,gt,_,nt,dt⟩:=b;unfold Builtin.SmallTypes.nextOf;refine QA (Rc (name:=Str.ofString "__next__") a.typeIs Sl (Q7 Sl a.typeIs F.entry_tuple_iterator_next ?_ (F.args_tuple_iterator_next_1 _)));show wpAny _ _ (field (Value.ref it) 0 >>= _) _ _ s;refine QA (RU (x:=Value.ref t) gi di rfl ?_);rw[if_neg (show ¬ (Value.ref t==Value.none)=true from Q5)];show wpAny _ _ (field (Value.ref it) 1 >>= _) _ _ s;refine QA (RU (x:=Value.int k 0) gi di rfl ?_);show wpAny _ _ (seqItems? (Value.ref t) >>= _) _ _ s;refine QA (RJ gt dt ?_);simp only[hx,Si];refine QA (Sh (QA (wpAny_setField gi di (by simp) ?_)));show wpAny _ _ (newExc (Value.type "StopIteration") [] >>= _) _ _ _;refine QA ?_;simp only[newTuple,newExc];refine QA (Rb ?_ (by size_fits));refine QA (m:=firstArgMember _ _) (SQ (a:=Value.none) (by first|rfl | (unfold firstArgMember;rfl)) ?_);refine Rb ?_ (by size_fits);unfold raiseNew;refine QA (wpAny_handled ?_);rw[show A.in1.handled=none from hh];exact QA (QB (wpAny_throw (q _ _ (((Tq ..).extBut.push _).push _) ⟨_,QJ _ rfl,rfl⟩)))
theorem wx(i l:Addr)(xs:UL):Nx P w i l (λk h=>h.IsTupleIter i l k/\h.IsTuple l xs.toArray) xs where
 obj:=λk h ⟨⟨o,a,_,c⟩,_⟩=>⟨o,_,a,c⟩
 keep:=λk h h' ⟨a,b⟩ k1 k2=>⟨a.at k1,let ⟨o,e,r⟩:=b;⟨o,k2 o e,r⟩⟩
 item:=λA k s x Q E ⟨a,b⟩ hx q=>Ad a b (by simp_all) λh' a' sb=>q h' ⟨a',let ⟨o,e,r⟩:=b;⟨o,(sb.2 l (yf a b).symm).trans e,r⟩⟩ sb
 done:=λA k s Q E hh ⟨a,b⟩ hx q=>rJ hh a b (by simp_all) q
structure ZA(z TI TO i1 i2 l1 l2:Addr):Prop where
 a1:TI≠z
 a2:TO≠z
 a3:i1≠z
 a4:i2≠z
 a5:TI≠TO
 a6:TI≠i1
 a7:TI≠i2
 a8:TO≠i1
 a9:TO≠i2
 b1:i1≠i2
 b2:l1≠z
 b3:l1≠TO
 b4:l1≠i2
 b5:l2≠z
 b6:l2≠TO
 b7:l2≠i1
variable {st1 st2:Nat->Heap->Prop} {xs ys:UL} {z TI TO i1 i2 l1 l2:Addr} {k:Nat} {a b:Value}
theorem aL(sb:Heap.SameBut c h h')(ne:d≠c)(e:h.get? d=some o):h'.get? d=some o:=(sb.2 d ne).trans e
theorem Ea(D:ZA z TI TO i1 i2 l1 l2)(N1:Nx P w i1 l1 st1 xs)(N2:Nx P w i2 l2 st2 ys){Q:UD}(hz:IsZip s.heap z TI TO .none)(hI:IsPair s.heap TI (.ref i1) (.ref i2))(hO:IsPair s.heap TO a b)
 (s1:st1 k s.heap)(s2:st2 k s.heap)(hx:xs[k]?=some x)(hy:ys[k]?=some y)
 (q:∀h',IsZip h' z TI TO (rawInt s.heap.objs.size)->IsPair h' TO x y->st1 (k+1) h'->st2 (k+1) h'->IsPair h' s.heap.objs.size x y ->
   (∀c o,c≠z->c≠TO->c≠i1->c≠i2->s.heap.get? c=some o->h'.get? c=some o)->Q (.ref s.heap.objs.size) {s with heap:=h'}) :
  wpAny (model P w) A (Builtin.«zip.__next__» ⟨[.ref z],[]⟩) (λfin s'=>∃v,fin=.done (.ret v)/\Q v s') E s:=by
 show wpAny _ _ (field (Value.ref z) 2 >>= _) _ _ _;refine QA (RU (x:=Value.bool false) hz rfl rfl ?_);show wpAny _ _ (field (Value.ref z) 3 >>= _) _ _ _;refine QA (RU (x:=Value.ref TI) hz rfl rfl ?_);refine QA (RJ hI rfl ?_);show wpAny _ _ (Builtin.SmallTypes.ownedTupleIsFree (Value.ref z) >>= _) _ _ _;refine QA ?_;unfold Builtin.SmallTypes.ownedTupleIsFree;refine QA (RU (x:=Value.none) hz rfl rfl (QB ?_));simp only[Rr];refine QA (Sh (QA (RU (x:=Value.ref TO) hz rfl rfl ?_)));refine QA (Ss hz (by simp) λg1 z1 e1=>?_);have z1:IsZip g1 z TI TO .ellipsis:=z1;refine QA ?_;simp only[List.zipIdx_nil,List.zipIdx_cons,Ti,R5];refine QA (QA (wpAny_onRaise ?_));show wpAny _ _ (Builtin.SmallTypes.nextOf (Value.ref i1) >>= _) _ _ _;refine QA (N1.item _ k _ x _ _ (N1.keep _ _ _ s1 (λo=>aL e1 D.a3) λo=>aL e1 D.b2) hx λg2 t1 e2=>QB ?_);have O2:IsPair g2 TO a b:=aL e2 D.a8 (aL e1 D.a2 hO);refine QA (RJ O2 rfl (QA (Uc O2 λg3 O3 e3=>?_)));have O3:IsPair g3 TO x b:=O3;refine QA (wpAny_letGo (QB (QA (QA (wpAny_onRaise ?_)))));show wpAny _ _ (Builtin.SmallTypes.nextOf (Value.ref i2) >>= _) _ _ _;refine QA (N2.item _ k _ y _ _ (N2.keep _ _ _ s2 (λo e=>aL e3 D.a9.symm (aL e2 D.b1.symm (aL e1 D.a4 e))) λo e=>aL e3 D.b6 (aL e2 D.b7 (aL e1 D.b5 e))) hy λg4 t2 e4=>QB ?_);have O4:IsPair g4 TO x b:=aL e4 D.a9 O3;refine QA (RJ O4 rfl (QA (Uc O4 λg5 O5 e5=>?_)));have O5:IsPair g5 TO x y:=O5;refine QA (wpAny_letGo (QB (QB (QA (RJ O5 rfl (QA (wpAny_newTuple ?_)))))));have sz:g5.objs.size=s.heap.objs.size:=by rw[e5.1,e4.1,e3.1,e2.1,e1.1]
 have z5:IsZip g5 z TI TO .ellipsis:=aL e5 D.a2.symm (aL e4 D.a4.symm (aL e3 D.a2.symm (aL e2 D.a3.symm z1)));have zlt:z<g5.objs.size:=QF z5;have u1:st1 (k+1) g5:=N1.keep _ _ _ t1 (λo e=>aL e5 D.a8.symm (aL e4 D.b1 (aL e3 D.a8.symm e))) λo e=>aL e5 D.b3 (aL e4 D.b4 (aL e3 D.b3 e));have u2:st2 (k+1) g5:=N2.keep _ _ _ t2 (λo e=>aL e5 D.a9.symm e) λo e=>aL e5 D.b6 e;show wpAny _ _ (Builtin.SmallTypes.ownedTupleHandOut (Value.ref z) (.ref g5.objs.size) >>= _) _ _ _;refine QA ?_;unfold Builtin.SmallTypes.ownedTupleHandOut;have z6:IsZip (g5.push {cls:=.type "tuple",data:=.seq #[x,y]}) z TI TO .ellipsis:=QC _ z5;refine QA (Ss z6 (by simp) λg7 z7 e7=>?_);have z7:IsZip g7 z TI TO (rawInt g5.objs.size):=z7;refine Ss z7 (by simp) λg8 z8 e8=>?_;have z8:IsZip g8 z TI TO (rawInt g5.objs.size):=z8;have up:∀c o,c≠z->g5.get? c=some o->g8.get? c=some o:=λc o n e=>aL e8 n (aL e7 n (QC _ e));have nw:IsPair g8 g5.objs.size x y:=aL e8 (Sr zlt) (aL e7 (Sr zlt) (QJ _ rfl));rw[sz]at z8 nw;refine QB ⟨_,rfl,?_⟩;show Q (.ref g5.objs.size) _;rw[sz]
 exact q g8 z8 (up _ _ D.a2 O5) (N1.keep _ _ _ u1 (λo=>up _ o D.a3) λo=>up _ o D.b2) (N2.keep _ _ _ u2 (λo=>up _ o D.a4) λo=>up _ o D.b5) nw λc o n1 n2 n3 n4 e=>
  up c o n1 (aL e5 n2 (aL e4 n4 (aL e3 n2 (aL e2 n3 (aL e1 n1 e)))))
theorem G0(hh:A.handled=none)(D:ZA z TI TO i1 i2 l1 l2)(N1:Nx P w i1 l1 st1 xs)(N2:Nx P w i2 l2 st2 ys)(hz:IsZip s.heap z TI TO .none)(hI:IsPair s.heap TI (.ref i1) (.ref i2))(hO:IsPair s.heap TO a b)
 (s1:st1 k s.heap)(s2:st2 k s.heap)(hend:xs[k]?=none\/ys[k]?=none)
 (q:∀h' e,(∀c o,c≠z->c≠TO->c≠i1->c≠i2->s.heap.get? c=some o->h'.get? c=some o)->(∃o,h'.get? e=some o/\o.cls=.type "StopIteration")->E (.ref e) {s with heap:=h'}) :
  wpAny (model P w) A (Builtin.«zip.__next__» ⟨[.ref z],[]⟩) Q E s:=by
 show wpAny _ _ (field (Value.ref z) 2 >>= _) _ _ _;refine QA (RU (x:=Value.bool false) hz rfl rfl ?_);show wpAny _ _ (field (Value.ref z) 3 >>= _) _ _ _;refine QA (RU (x:=Value.ref TI) hz rfl rfl ?_);refine QA (RJ hI rfl ?_);show wpAny _ _ (Builtin.SmallTypes.ownedTupleIsFree (Value.ref z) >>= _) _ _ _;refine QA ?_;unfold Builtin.SmallTypes.ownedTupleIsFree;refine QA (RU (x:=Value.none) hz rfl rfl (QB ?_));simp only[Rr];refine QA (Sh (QA (RU (x:=Value.ref TO) hz rfl rfl ?_)));refine QA (Ss hz (by simp) λg1 z1 e1=>?_);have z1:IsZip g1 z TI TO .ellipsis:=z1;refine QA ?_;simp only[List.zipIdx_nil,List.zipIdx_cons,Ti,R5];refine QA (QA (wpAny_onRaise ?_));show wpAny _ _ (Builtin.SmallTypes.nextOf (Value.ref i1) >>= _) _ _ _;have t1:st1 k g1:=N1.keep _ _ _ s1 (λo=>aL e1 D.a3) λo=>aL e1 D.b2
 cases hx:xs[k]? with
 |none=>
  refine QA (N1.done _ k _ _ _ hh t1 hx λg2 e e2 ⟨oe,he,ce⟩=>?_);have z2:IsZip g2 z TI TO .ellipsis:=e2 _ _ D.a3.symm z1;have ne:e≠z:=λr=>by rw[r,z2]at he;cases he;exact absurd (show Value.type "zip" = Value.type "StopIteration" from ce) (by decide)
  exact Ss z2 (by simp) λg3 _ e3=>q g3 e (λc o n1 _ n3 _ r=>aL e3 n1 (e2 _ _ n3 (aL e1 n1 r))) ⟨oe,aL e3 ne he,ce⟩
 |some x=>
  have hy:ys[k]?=none:=by
   rcases hend with r|r
   ·rw[hx]at r;cases r
   ·exact r
  refine QA (N1.item _ k _ x _ _ t1 hx λg2 t1 e2=>QB ?_);have O2:IsPair g2 TO a b:=aL e2 D.a8 (aL e1 D.a2 hO);refine QA (RJ O2 rfl (QA (Uc O2 λg3 O3 e3=>?_)));refine QA (wpAny_letGo (QB (QA (QA (wpAny_onRaise ?_)))));show wpAny _ _ (Builtin.SmallTypes.nextOf (Value.ref i2) >>= _) _ _ _;refine QA (N2.done _ k _ _ _ hh (N2.keep _ _ _ s2 (λo e=>aL e3 D.a9.symm (aL e2 D.b1.symm (aL e1 D.a4 e))) λo e=>aL e3 D.b6 (aL e2 D.b7 (aL e1 D.b5 e))) hy λg4 e e4 ⟨oe,he,ce⟩=>?_);have z4:IsZip g4 z TI TO .ellipsis:=e4 _ _ D.a4.symm (aL e3 D.a2.symm (aL e2 D.a3.symm z1));have ne:e≠z:=λr=>by rw[r,z4]at he;cases he;exact absurd (show Value.type "zip" = Value.type "StopIteration" from ce) (by decide)
  exact Ss z4 (by simp) λg5 _ e5=>q g5 e (λc o n1 n2 n3 n4 r=>aL e5 n1 (e4 _ _ n4 (aL e3 n2 (aL e2 n3 (aL e1 n1 r))))) ⟨oe,aL e5 ne he,ce⟩
end
section
variable {P:UT} {w:World} {A:UW} {E:UD} {s:UX}
structure Mr(h h':Heap)(l1 l2:Addr):Prop where
 z:IsZip h' (h.objs.size+4) (h.objs.size+2) (h.objs.size+3) .none
 ti:IsPair h' (h.objs.size+2) (.ref h.objs.size) (.ref (h.objs.size+1))
 to:IsPair h' (h.objs.size+3) .none .none
 i1:h'.IsTupleIter h.objs.size l1 0
 i2:h'.IsTupleIter (h.objs.size+1) l2 0
 sz:h'.objs.size=h.objs.size+5
 keep:∀c o,h.get? c=some o->h'.get? c=some o
abbrev pq(h:Heap)(u:Addr):Heap:=h.push {cls:=.type "tuple_iterator",data:=.fields #[.ref u,.int 0 0]}
abbrev Kb(h:Heap)(a b:Addr):Heap:=h.push {cls:=.type "tuple",data:=.seq #[.ref a,.ref b]}
abbrev Ms(h:Heap):Heap:=h.push {cls:=.type "tuple",data:=.seq #[.none,.none]}
abbrev Ql(h:Heap)(a b:Addr):Heap:=h.push {cls:=.type "zip",data:=.fields #[.none,.bool false,.bool false,.ref a,.ref b]}
abbrev Ae(h:Heap)(l1 l2:Addr):Heap:=Ql (Ms (Kb (pq (pq h l1) l2) h.objs.size (pq h l1).objs.size)) (pq (pq h l1) l2).objs.size (Kb (pq (pq h l1) l2) h.objs.size (pq h l1).objs.size).objs.size
theorem Eb(h:Heap)(l1 l2:Addr):Mr h (Ae h l1 l2) l1 l2:=by
 have e1:(pq h l1).objs.size=h.objs.size+1:=Rf ..;have e2:(pq (pq h l1) l2).objs.size=h.objs.size+2:=by simp_all
 have e3:(Kb (pq (pq h l1) l2) h.objs.size (pq h l1).objs.size).objs.size=h.objs.size+3:=by simp_all
 have e4:(Ms (Kb (pq (pq h l1) l2) h.objs.size (pq h l1).objs.size)).objs.size=h.objs.size+4:=by simp_all
 have p5:(Ae h l1 l2).get? (Ms _).objs.size=some _:=QJ _ rfl;have p4:(Ae h l1 l2).get? (Kb _ h.objs.size (pq h l1).objs.size).objs.size=some _:=QC _ (QJ _ rfl);have p3:(Ae h l1 l2).get? (pq (pq h l1) l2).objs.size=some _:=QC _ (QC _ (QJ _ rfl));have p2:(Ae h l1 l2).get? (pq h l1).objs.size=some _:=QC _ (QC _ (QC _ (QJ _ rfl)));have p1:(Ae h l1 l2).get? h.objs.size=some _:=QC _ (QC _ (QC _ (QC _ (QJ _ rfl))));rw[e2,e3,e4]at p5;rw[e3]at p4;rw[e2,e1]at p3;rw[e1]at p2;exact⟨p5,p3,p4,⟨_,p1,rfl,rfl⟩,⟨_,p2,rfl,rfl⟩,by simp_all,λc o e=>QC _ (QC _ (QC _ (QC _ (QC _ e))))⟩
theorem yg(l1 l2:Addr)(xs ys:UR) :
  Meets (Builtin.«zip.__new__» ⟨[.type "zip",.ref l1,.ref l2],[]⟩) (λ_ R s=>s.heap.IsTuple l1 xs/\s.heap.IsTuple l2 ys/\R (.ok (.ret (.ref (Ms (Kb (pq (pq s.heap l1) l2) s.heap.objs.size (pq s.heap l1).objs.size)).objs.size))) {s with heap:=Ae s.heap l1 l2}):=
 .of_wp λprog w A R s h=>by
  obtain⟨hp,g,d,tk,os⟩:=s;obtain⟨t1,t2,h⟩:=h;have hsub:=sub_zip;have T1:Heap.IsTuple (Shared.heap ⟨hp,g,d,tk,os⟩) l1 xs:=t1;have T2:Heap.IsTuple (Shared.heap ⟨hp.push {cls:=.type "tuple_iterator",data:=.fields #[.ref l1,.int 0 0]},g,d,tk,os⟩) l2 ys:=Heap.IsTuple.push t2 _
  wp_walk using Tz T1,Tz T2
  exact⟨_,rfl,h⟩
theorem wy(t1:s.heap.IsTuple l1 xs)(t2:s.heap.IsTuple l2 ys)(q:∀h',Mr s.heap h' l1 l2->Q (.ref (s.heap.objs.size+4)) {s with heap:=h'}) :
  wpAny (model P w) A (call (.type "zip") [.ref l1,.ref l2]) Q E s:=by
 refine callType_new F.called_zip (by decide) (F.typeCall_zip_2 _ _) (F.newCall_zip_2 _ _) (λobj=>F.args_object_init_3 obj _ _) F.entry_zip_new (yg l1 l2 xs ys) ⟨t1,t2,?_⟩;have n:=Eb s.heap l1 l2
 have e4:(Ms (Kb (pq (pq s.heap l1) l2) s.heap.objs.size (pq s.heap l1).objs.size)).objs.size=s.heap.objs.size+4:=by
  simp_all
 show _/\_;rw[e4];exact⟨⟨_,n.z,rfl⟩,q _ n⟩
theorem uz{z TI TO i1 i2 l1 l2:Addr}{xs ys:UL}(D:ZA z TI TO i1 i2 l1 l2)(hz:IsZip s.heap z TI TO .none)(hI:IsPair s.heap TI (.ref i1) (.ref i2))(hO:IsPair s.heap TO a b)
 (t1:s.heap.IsTupleIter i1 l1 k)(t2:s.heap.IsTupleIter i2 l2 k)(h1:s.heap.IsTuple l1 xs.toArray)(h2:s.heap.IsTuple l2 ys.toArray)(hx:xs[k]?=some x)(hy:ys[k]?=some y)
 (q:∀h',IsZip h' z TI TO (rawInt s.heap.objs.size)->IsPair h' TO x y->h'.IsTupleIter i1 l1 (k+1)->h'.IsTupleIter i2 l2 (k+1)->IsPair h' s.heap.objs.size x y ->
   (∀c o,c≠z->c≠TO->c≠i1->c≠i2->s.heap.get? c=some o->h'.get? c=some o)->Q (some (.ref s.heap.objs.size)) {s with heap:=h'}):wpAny (model P w) A (pyNext (.ref z)) Q E s:=by
 have hT:s.TypeIs (.ref z) "zip" := ⟨_,hz,rfl⟩;refine QA (TF (Rc hT Uj (Q7 Uj hT F.entry_zip_next ?_ (F.args_zip_next_1 _))));exact Ea D (wx i1 l1 xs) (wx i2 l2 ys) hz hI hO ⟨t1,h1⟩ ⟨t2,h2⟩ hx hy λh' a1 a2 a3 a4 a5 a6=>QB (q h' a1 a2 a3.1 a4.1 a5 a6)
theorem wz{z TI TO i1 i2 l1 l2:Addr}{xs ys:UL}(hh:A.handled=none)(D:ZA z TI TO i1 i2 l1 l2)(hz:IsZip s.heap z TI TO .none)(hI:IsPair s.heap TI (.ref i1) (.ref i2))(hO:IsPair s.heap TO a b)
 (t1:s.heap.IsTupleIter i1 l1 k)(t2:s.heap.IsTupleIter i2 l2 k)(h1:s.heap.IsTuple l1 xs.toArray)(h2:s.heap.IsTuple l2 ys.toArray)(hend:xs[k]?=none\/ys[k]?=none)
 (q:∀h',(∀c o,c≠z->c≠TO->c≠i1->c≠i2->s.heap.get? c=some o->h'.get? c=some o)->Q none {s with heap:=h'}):wpAny (model P w) A (pyNext (.ref z)) Q E s:=by
 have hT:s.TypeIs (.ref z) "zip" := ⟨_,hz,rfl⟩;refine QA (TF (Rc hT Uj (Q7 Uj hT F.entry_zip_next ?_ (F.args_zip_next_1 _))));refine G0 (A:=A.in1) hh D (wx i1 l1 xs) (wx i2 l2 ys) hz hI hO ⟨t1,h1⟩ ⟨t2,h2⟩ hend λh' e hk ⟨o,ho,hc⟩=>?_;exact QA (SV ⟨o,ho,hc⟩ isSubtype_stop (QB (q _ hk)))
end
noncomputable def PJ(K:UM)(a1 a2:Addr):It:=
 ⟨λi H=>∃xs ys x y,gB K H a1 xs/\gB K H a2 ys/\xs[i]?=some x/\ys[i]?=some y,
  λi H v H'=>∃p x y,v=.ref p/\H p=none/\H'=upd H p (.tup [x,y])/\(∀xs,gB K H a1 xs->xs[i]?=some x)/\∀ys,gB K H a2 ys->ys[i]?=some y,
  λi H=>∃xs ys,gB K H a1 xs/\gB K H a2 ys/\(xs.length<=i\/ys.length<=i)⟩
theorem Ec{K:UM}(a1 a2 z TI TO i1 i2:Addr)(D:ZA z TI TO i1 i2 a1 a2):Turn P w K (.Tuple es kk tpos) (PJ K a1 a2) [z,TI,TO,i1,i2] z
  (λk h=>IsZip h z TI TO .none/\IsPair h TI (.ref i1) (.ref i2)/\(∃a b,IsPair h TO a b)/\h.IsTupleIter i1 a1 k/\h.IsTupleIter i2 a2 k) where
 mem:=QS
 obj:=λk h st b hb=>by
  obtain⟨hz,hI,⟨a,c,hO⟩,⟨o1,e1,_,d1⟩,⟨o2,e2,_,d2⟩⟩:=st
  grind
 keep:=λk h h' st kp=>by obtain⟨hz,hI,⟨a,c,hO⟩,t1,t2⟩:=st;exact⟨kp z (by simp) _ hz,kp TI (by simp) _ hI,⟨a,c,kp TO (by simp) _ hO⟩,t1.at (kp i1 (by simp)),t2.at (kp i2 (by simp))⟩
 item:=by
  intro X hP hw hK hc i pins s σ H E I hf st hg;subst hP hw hK;obtain⟨xs,ys,x,y,q1,q2,hx,hy⟩:=hg;obtain⟨its1,r1,p1,_⟩:=I.tuple q1;obtain⟨its2,r2,p2,_⟩:=I.tuple q2;obtain⟨u1,hu1,ru1⟩:=r1.get hx;obtain⟨u2,hu2,ru2⟩:=r2.get hy;obtain⟨hz,hI,⟨a,c,hO⟩,t1,t2⟩:=st;refine uz D hz hI hO t1 t2 (show s.heap.IsTuple a1 its1.toArray from p1) (show s.heap.IsTuple a2 its2.toArray from p2) hu1 hu2 λh' z' o' t1' t2' nw kp=>?_;refine⟨_,rfl,wpAny_letOwnedTupleGo_zip z' λh2 z2 sb=>?_⟩;have lt:∀{b:Addr} {o:Obj},s.heap.get? b=some o->b≠s.heap.objs.size:=λe=>QQ (QF e);have nz:s.heap.objs.size≠z:=(lt hz).symm;have hf0:H s.heap.objs.size=none:=I.hok.fresh (QE _);have hI2:IsPair h2 TI (.ref i1) (.ref i2):=aL sb D.a1 (kp _ _ D.a1 D.a5 D.a6 D.a7 hI);have kall:∀b o,b∉[z,TI,TO,i1,i2]->s.heap.get? b=some o->h2.get? b=some o:=λb o hb e=>by simp only[QK,Ra,Su,not_or]at hb;exact aL sb hb.1 (kp b o hb.1 hb.2.2.1 hb.2.2.2.1 hb.2.2.2.2 e)
  have DL:∀{b:Addr} {u:HO},H b=some u->b∉[z,TI,TO,i1,i2]:=λ{b u} e hb=>by rw[(hf b hb).1]at e;cases e
  have there:∀b o,s.heap.get? b=some o->∃o',h2.get? b=some o':=λb o e=>by
   by_cases hb:b∈[z,TI,TO,i1,i2]
   ·simp only[QK,Ra,Su]at hb;rcases hb with rfl|rfl|rfl|rfl|rfl
    ·exact⟨_,z2⟩
    ·exact⟨_,hI2⟩
    ·exact⟨_,aL sb D.a2 o'⟩
    ·obtain⟨_,e1,_⟩:=t1';exact⟨_,aL sb D.a3 e1⟩
    ·obtain⟨_,e1,_⟩:=t2';exact⟨_,aL sb D.a4 e1⟩
   ·exact⟨o,kall b o hb e⟩
  have hokN:kH X.prog X.w (upd H s.heap.objs.size (.tup [x,y])) h2:=λb u e=>by
   by_cases hb:b=s.heap.objs.size
   ·subst hb;rw[aZ]at e;cases e;exact⟨by show 2<=sizeLine;decide,[u1,u2],.cons ru1 (.cons ru2 .nil),⟨_,aL sb nz nw,rfl,_,rfl⟩⟩
   ·rw[ay hb]at e;refine(I.hok b u e).qP (λd v hd r=>kall d v ?_ r) (λd r=>by rw[ay (aF r hf0)];exact r) λd vs r=>by rw[ay (aF r hf0)];exact r
    rcases hd with rfl|hd
    ·exact DL e
    ·exact DL hd
  have I2:Inv X pins σ (upd H s.heap.objs.size (.tup [x,y])) {s with heap:=h2}:=by
   refine I.step (g':=s.gens) (d':=s.drawn) (t':=s.toks) (ch:=[z,TI,TO,i1,i2]) (λb hb=>⟨(hf b hb).2.2.2.1,(hf b hb).2.1,(hf b hb).2.2.2.2.1,(hf b hb).2.2.2.2.2⟩) (λb o _ _ hb e _=>kall b o hb e) (λb o _ _ hb e _=>⟨o.slots,kall b o hb e⟩)
    (λb o _ e n=>by rw[ay (lt e)];exact n) (λb o _ e=>there b o e) (λb vs e=>by rw[ay (aF e hf0)];exact e) (λb o v e=>by rw[ay (aF e hf0)];exact e) (λb ps e=>⟨#[],by rw[ay (aF e hf0),e];simp⟩) (λm hm=>?_) hokN I.bare
   obtain⟨o,es',ep,e,r⟩:=hm;exact⟨o,es',ep,kall _ o (λhb=>(hf _ hb).2.1 rfl) e,r⟩
  refine⟨.ref s.heap.objs.size,_,I2,rfl,⟨_,x,y,rfl,hf0,rfl,λvs h=>by rw[I.pj h q1];exact hx,λvs h=>by rw[I.pj h q2];exact hy⟩,⟨z2,hI2,⟨_,_,aL sb D.a2 o'⟩,t1'.at λo e=>aL sb D.a3 e,t2'.at λo e=>aL sb D.a4 e⟩,λb hb=>?_⟩;have hb':=(hf b hb).1;by_cases e:b=s.heap.objs.size
  ·exfalso;simp only[QK,Ra,Su]at hb;rcases hb with r|r|r|r|r
   ·exact lt hz (r▸e)
   ·exact lt hI (r▸e)
   ·exact lt hO (r▸e)
   ·obtain⟨_,e1,_⟩:=t1;exact lt e1 (r▸e)
   ·obtain⟨_,e1,_⟩:=t2;exact lt e1 (r▸e)
  ·rw[ay e];exact hb'
 done:=by
  intro X hP hw hK hc i pins s σ H E I hf st hg;subst hP hw hK;obtain⟨xs,ys,q1,q2,hl⟩:=hg;obtain⟨its1,r1,p1,_⟩:=I.tuple q1;obtain⟨its2,r2,p2,_⟩:=I.tuple q2;obtain⟨hz,hI,⟨a,c,hO⟩,t1,t2⟩:=st;refine wz (I.ok.hd hc) D hz hI hO t1 t2 (show s.heap.IsTuple a1 its1.toArray from p1) (show s.heap.IsTuple a2 its2.toArray from p2) ?_ λh' kp=>⟨rfl,?_⟩
  ·have e1:=r1.length;have e2:=r2.length;rcases hl with r|r
   ·exact .inl (List.getElem?_eq_none_iff.mpr (by omega))
   ·exact .inr (List.getElem?_eq_none_iff.mpr (by omega))
  ·have kall:∀b o,b∉[z,TI,TO,i1,i2]->s.heap.get? b=some o->h'.get? b=some o:=λb o hb e=>by
    simp only[QK,Ra,Su,not_or]at hb;exact kp b o hb.1 hb.2.2.1 hb.2.2.2.1 hb.2.2.2.2 e
   have DL:∀{b:Addr} {u:HO},H b=some u->b∉[z,TI,TO,i1,i2]:=λ{b u} e hb=>by rw[(hf b hb).1]at e;cases e
   refine I.step (g':=s.gens) (d':=s.drawn) (t':=s.toks) (ch:=[z,TI,TO,i1,i2]) (λb hb=>⟨(hf b hb).2.2.2.1,(hf b hb).2.1,(hf b hb).2.2.2.2.1,(hf b hb).2.2.2.2.2⟩) (λb o _ _ hb e _=>kall b o hb e) (λb o _ _ hb e _=>⟨o.slots,kall b o hb e⟩)
    (λb o _ e n=>n) (λb o hb e=>⟨o,kall b o hb e⟩) (λb vs e=>e) (λb o v e=>e) (λb ps e=>⟨#[],by rw[e];simp⟩) (λm hm=>?_) (λb u e=>(I.hok b u e).qP (λd v hd r=>kall d v ?_ r) (λ_ r=>r) λ_ _ r=>r) I.bare
   ·obtain⟨o,es',ep,e,r⟩:=hm;exact⟨o,es',ep,kall _ o (λhb=>(hf _ hb).2.1 rfl) e,r⟩
   ·rcases hd with rfl|hd
    ·exact DL e
    ·exact DL hd
 self:=λ_ _ _ _ _ st h=>wpAny_pyIter_zip st.1 h
section
variable {X:Cx} {es:UO} {kk:Nat} {tpos:Pos}
theorem Oz(a b:Nat)(h:a≠b):@Ne Addr a b:=h
theorem Mt(n a b:Nat)(h1:a<n)(h2:b<n):ZA (n+4) (n+2) (n+3) n (n+1) a b:=by constructor<;>refine Oz _ _ ?_<;>omega
def OA(K:UM)(ta:TA):TI:=λσ H R=>ta σ H λvs H1=>∃a1 a2 xs ys,vs=[.ref a1,.ref a2]/\gB K H1 a1 xs/\gB K H1 a2 ys/\R (PJ K a1 a2) H1
theorem Kc{p pos:Pos}(hg:Gl X "zip")(hm:X.mg "zip" = none)(ha:PA X [e1,e2] ta)(hs:starEach [e1,e2] X.env=[(false,eval e1 X.env),(false,eval e2 X.env)]:=by rfl)(hs2:starEach [e2] X.env=[(false,eval e2 X.env)]:=by rfl) :
  PI X (.Tuple es kk tpos) (.Call (.Name "zip" p) [e1,e2] [] pos) (OA X.K ta):=by
 intro pins s σ H R I h;refine Call_ (jQ I hg hm (by rfl:bootBuiltins "zip" = some (.type "zip")) (RT (bw (ha pos pins s σ H _ I h) λus s1 ⟨vs,H1,I1,r1,q1⟩=>?_) (by grind) (by rw[hs2];rfl)));obtain⟨a1,a2,xs,ys,e,t1,t2,q⟩:=q1;subst e
 cases r1 with
 |cons r rr=>
  cases rr with
  |cons r' rr=>
   cases rr;cases r;cases r';obtain⟨its1,v1,p1,_⟩:=I1.tuple t1;obtain⟨its2,v2,p2,_⟩:=I1.tuple t2;have L1:a1<s1.heap.objs.size:=by obtain⟨_,e,_⟩:=p1;exact QF e
   have L2:a2<s1.heap.objs.size:=by obtain⟨_,e,_⟩:=p2;exact QF e
   refine wy (show s1.heap.IsTuple a1 its1.toArray from p1) (show s1.heap.IsTuple a2 its2.toArray from p2) λh' N=>?_;refine wpAny_pyIter_zip (s:={s1 with heap:=h'}) N.z ?_;have I2:Inv X pins σ H1 {s1 with heap:=h'}:=I1.kept (t':=s1.toks) N.keep;refine⟨s1.heap.objs.size+4,[s1.heap.objs.size+4,s1.heap.objs.size+2,s1.heap.objs.size+3,s1.heap.objs.size,s1.heap.objs.size+1],_,_,H1,rfl,I2,Ec a1 a2 _ _ _ _ _ (Mt _ _ _ L1 L2),⟨N.z,N.ti,⟨_,_,N.to⟩,N.i1,N.i2⟩,λb hb=>?_,q⟩
   have ge:s1.heap.objs.size<=b:=by
    simp only[QK,Ra,Su]at hb;rcases hb with rfl|rfl|rfl|rfl|rfl
    ·exact T9 _ _
    ·exact T9 _ _
    ·exact T9 _ _
    ·exact QE _
    ·exact T9 _ _
   exact I1.zP ge (I1.hok.fresh ge)
end
section
variable {κ:Type} [DecidableEq κ]
def pv(kvs:List (κ×V))(k:κ):Option V:=(kvs.find? λkv=>decide (kv.1=k)).map (·.2)
def putK(kvs:List (κ×V))(k:κ)(v:V):List (κ×V):=
 if(kvs.any λkv=>decide (kv.1=k))=true then kvs.map (λkv=>if kv.1=k then(kv.1,v)else kv)else kvs++[(k,v)]
theorem nU{k:κ}(e:p.1=k):pv (p::r) k=some p.2:=by simp[pv,e]
theorem kK{k:κ}(e:¬ p.1=k):pv (p::r) k=pv r k:=by simp[pv,e]
theorem nV(k:κ):∀kvs:List (κ×V),(kvs.any λkv=>decide (kv.1=k))=(pv kvs k).isSome
 | []=>rfl
 |p::r=>by
  rw[Ux];by_cases e:p.1=k
  ·simp[nU,e]
  ·rw[kK e,Rm e,Bool.false_or];exact nV k r
theorem iK(kvs:List (κ×V))(k:κ)(v:V):(putK kvs k v).length<=kvs.length+1:=by
 grind[putK,List.length_map,List.length_append,List.length_cons,List.length_nil]
theorem pb.jD(r:pb o u):o.isSome=u.isSome:=by
 cases o with
 |none=>cases u with
  |none=>rfl
  |some _=>trivial
 |some _=>cases u with
  |none=>trivial
  |some _=>rfl
theorem pb.getD(r:pb o u)(rd:RelV d d'):RelV (o.getD d) (u.getD d'):=by
 cases o with
 |none=>cases u with
  |none=>exact rd
  |some _=>trivial
 |some _=>cases u with
  |none=>trivial
  |some _=>exact r
theorem KV.val(r:KV kvs vs)(k:κ):pb (pv kvs k) (valueAt vs k):=by
 induction r with
 |nil=>trivial
 | @cons p q ps qs h t ih=>
  obtain⟨h1,h2⟩:=h;by_cases e:p.1=k
  ·have e'  := h1.symm.trans e;have b:valueAt (q::qs) k=some q.2:=by simp[valueAt,e']
   rw[nU e,b];exact h2
  ·have e':¬ q.1=k:=λz=>e (h1.trans z);have b:valueAt (q::qs) k=valueAt qs k:=by simp[valueAt,e']
   rw[kK e,b];exact ih
theorem KV.any(r:KV kvs vs)(k:κ):(kvs.any λkv=>decide (kv.1=k))=vs.any λkv=>decide (kv.1=k):=by
 induction r with
 |nil=>rfl
 |cons h t ih=>simp_all
theorem KV.Ke(r:KV kvs vs)(k:κ)(ry:RelV y u) :
  KV (kvs.map λkv=>if kv.1=k then(kv.1,y)else kv) (vs.map λkv=>if kv.1=k then(kv.1,u)else kv):=by
 unfold KV at r ⊢
 induction r with
 |nil=>exact .nil
 | @cons p q ps qs h t ih=>
  rw[Q6,Q6];refine .cons ?_ ih;obtain⟨h1,h2⟩:=h;by_cases e:p.1=k
  ·rw[if_pos e,if_pos (h1.symm.trans e)];exact⟨h1,ry⟩
  ·rw[if_neg e,if_neg (λz=>e (h1.trans z))];exact⟨h1,h2⟩
theorem KV.put(r:KV kvs vs)(k:κ)(ry:RelV y u):KV (putK kvs k y) (stored vs k u):=by
 unfold putK stored;rw[r.any k];by_cases e:(vs.any λkv=>decide (kv.1=k))=true
 ·rw[if_pos e,if_pos e];exact r.Ke k ry
 ·rw[if_neg e,if_neg e];exact Paired.snoc r ⟨rfl,ry⟩
theorem KV.length{vs:List (κ×Value)}(r:KV kvs vs):kvs.length=vs.length:=Q0 r
end
theorem qd(r:RelV (kV k) u):(bJ P w).is k u=true:=by
 cases k with
 |inl i=>obtain⟨t,e⟩:=(r);subst e;exact xZ P w i t
 |inr x=>obtain⟨t,e⟩:=(r);subst e;exact x5 P w x t
theorem vc:∀{ks:List Key} {us:UL},Vals (ks.map kV) us->ItemsAre (bJ P w) ks us
 | [],_,r=>by cases r;exact .nil
 |k::ks,_,r=>by
  cases r with
  |cons h t=>exact .cons (qd h) (vc t)
abbrev KT(H:Hp):List (List Key×V)->List (List Key×Addr×Value)->Prop:=Paired λp q=>p.1=q.1/\H q.2.1=some (.tup (p.1.map kV))/\RelV p.2 q.2.2
theorem KT.val(r:KT H kvs xs)(k:List Key):pb (pv kvs k) ((atKey xs k).map (·.2)):=by
 induction r with
 |nil=>trivial
 | @cons p q ps qs h t ih=>
  obtain⟨h1,_,h2⟩:=h;by_cases e:p.1=k
  ·have e'  := h1.symm.trans e;have b:atKey (q::qs) k=some q.2:=by simp[atKey,e']
   rw[nU e,b];exact h2
  ·have e':¬ q.1=k:=λz=>e (h1.trans z);have b:atKey (q::qs) k=atKey qs k:=by simp[atKey,e']
   rw[kK e,b];exact ih
theorem KT.Ke(r:KT H kvs xs)(k:List Key)(ry:RelV y u) :
  KT H (kvs.map λkv=>if kv.1=k then(kv.1,y)else kv) (xs.map (putAt k u)):=by
 induction r with
 |nil=>exact .nil
 | @cons p q ps qs h t ih=>
  rw[Q6,Q6];refine .cons ?_ ih;obtain⟨h1,h2,h3⟩:=h;unfold putAt;by_cases e:p.1=k
  ·rw[if_pos e,if_pos (h1.symm.trans e)];exact⟨h1,h2,ry⟩
  ·rw[if_neg e,if_neg (λz=>e (h1.trans z))];exact⟨h1,h2,h3⟩
theorem KT.put(r:KT H kvs xs)(k:List Key)(hb:H b=some (.tup (k.map kV)))(ry:RelV y u) :
  KT H (putK kvs k y) (storedH xs k b u):=by
 have e:(kvs.any λkv=>decide (kv.1=k))=(atKey xs k).isSome:=by rw[nV,(r.val k).jD,Uu]
 unfold putK storedH;rw[e];by_cases q:(atKey xs k).isSome=true
 ·rw[if_pos q,if_pos q];exact r.Ke k ry
 ·rw[if_neg q,if_neg q];exact Paired.snoc r ⟨rfl,hb,ry⟩
theorem KT.keeps{kvs:List (List Key×V)}{xs:List (List Key×Addr×Value)}(r:KT H kvs xs)(ht:∀b ys,H b=some (.tup ys)->H' b=some (.tup ys)):KT H' kvs xs:=
 Paired.mF r λ_ _ z=>⟨z.1,ht _ _ z.2.1,z.2.2⟩
section
variable {P:UT} {w:World} {H:Hp} {h:Heap} {a:Addr}
theorem IL(ok:kH P w H h)(e:Rd H a u):cC P w H h a u:=e.ok ok
theorem ve(ok:kH P w H h)(e:Rd H a (.dK kvs)):kvs.length<=sizeLine/\(a==sysModules)=false/\∃vs,KV kvs vs/\h.DictOf (bJ P w) a vs:=
 show cC P w H h a (.dK kvs)from IL ok e
theorem IM(ok:kH P w H h)(e:H a=some (.dK kvs)):kvs.length<=sizeLine/\(a==sysModules)=false/\∃vs,KV kvs vs/\h.DictOf (bJ P w) a vs:=ve ok (.inl e)
theorem pA(ok:kH P w H h)(e:H a=some (.tup (ks.map kV))):(tupleKind (bJ P w)).is h ks a:=by obtain⟨_,its,r,o,h1,h2,n,h3⟩:=(ok a _ e);exact⟨o,its.toArray,n,h1,h2,h3,by simpa using vc r⟩
theorem vf(ok:kH P w H h)(e:Rd H a (.dT kvs)):kvs.length<=sizeLine/\(a==sysModules)=false /\
  ∃xs,KT H kvs xs/\h.DictOfH (tupleKind (bJ P w)) a xs:=by
 obtain⟨z,y,xs,r,o,es,ep,h1,h2,h3,h4,h5⟩:=(show cC P w H h a (.dT kvs)from IL ok e);refine⟨z,y,xs,r,o,es,ep,h1,h2,h3,h4,λx hx=>?_,h5⟩
 have all:∀{l:List (List Key×V)} {m:List (List Key×Addr×Value)},KT H l m->∀x∈m,(tupleKind (bJ P w)).is h x.1 x.2.1:=by
  intro l m q
  induction q with
  |nil=>grind
  | @cons p q ps qs hq t ih=>
   intro x hx;rcases QK.mp hx with e|hx
   ·subst e;exact pA ok (by simp_all)
   ·exact ih x hx
 grind
theorem Mu(ok:kH P w H h)(e:H a=some (.dT kvs)):kvs.length<=sizeLine/\(a==sysModules)=false /\
  ∃xs,KT H kvs xs/\h.DictOfH (tupleKind (bJ P w)) a xs:=vf ok (.inl e)
end
def uA(H:Hp)(a:Addr)(y:V)(r:Option V):Prop:=
 (∃kvs k,Rd H a (.dK kvs)/\y=kV k/\r=pv kvs k)\/∃kvs k b,Rd H a (.dT kvs)/\y=.ref b/\H b=some (.tup (k.map kV))/\r=pv kvs k
noncomputable def G1(H:Hp)(a:Addr)(y v:V)(H':Hp):Prop:=
 (∃kvs k,H a=some (.dK kvs)/\y=kV k/\kvs.length<sizeLine/\H'=upd H a (.dK (putK kvs k v))) \/
 ∃kvs k b,H a=some (.dT kvs)/\y=.ref b/\H b=some (.tup (k.map kV))/\kvs.length<sizeLine/\H'=upd H a (.dT (putK kvs k v))
theorem uA.k{k:Key}(e:H a=some (.dK kvs)):uA H a (kV k) (pv kvs k):=.inl ⟨kvs,k,.inl e,rfl,rfl⟩
theorem G1.k{k:Key}(e:H a=some (.dK kvs))(hl:kvs.length<sizeLine):G1 H a (kV k) v (upd H a (.dK (putK kvs k v))):=.inl ⟨kvs,k,e,rfl,hl,rfl⟩
section
variable {X:Cx} {pins:UE} {σ:St} {H:Hp} {s:UX} {a:Addr} {y v:V} {u r:Value} {o:Option V} {A:UW} {E:UD}
theorem Inv.big(I:Inv X pins σ H s):sysModules<s.heap.objs.size:=by have h  := (I.mod.glob.keeps I.bk).lt;exact Nat.lt_trans (by decide) h
theorem CU(hu:A.units+1<cLine)(I:Inv X pins σ H s)(g:uA H a y (some v))(ry:RelV y u)(h:∀w' s',Inv X pins σ H s'->RelV v w'->Q w' s') :
  wpAny (model X.prog X.w) A (getItem (.ref a) u) Q E s:=by
 rcases g with⟨kvs,k,e,ey,l⟩|⟨kvs,k,b,e,ey,eb,l⟩
 ·subst ey;obtain⟨z,hd,vs,rel,dd⟩:=ve I.hok e;obtain⟨w',hw,rw'⟩:=pb.some_of (o:=valueAt vs k) (by rw[l];exact rel.val k);exact wpAny_getItem_of (qd ry) dd.mapOf hw (h w' _ (I.tok _) rw')
 ·subst ey;cases(show u=Value.ref b from ry);obtain⟨z,hd,xs,rel,dd⟩:=vf I.hok e;obtain⟨w',hw,rw'⟩:=pb.some_of (v:=v) (o:=(atKey xs k).map (·.2)) (by rw[l];exact rel.val k);obtain⟨p,hp,hp2⟩:=RH.mp hw;refine wpAny_getItem_heap (S5 hu) (pA I.hok eb) dd hp ?_;rw[hp2];exact h w' _ (I.tok _) rw'
theorem OB(hu:A.units+1<cLine)(I:Inv X pins σ H s)(g:uA H a y o)(ry:RelV y u)(h:∀s',Inv X pins σ H s'->Q (.bool o.isSome) s') :
  wpAny (model X.prog X.w) A (compareOp .In u (.ref a)) Q E s:=by
 rcases g with⟨kvs,k,e,ey,l⟩|⟨kvs,k,b,e,ey,eb,l⟩
 ·subst ey;obtain⟨z,hd,vs,rel,dd⟩:=ve I.hok e;refine wpAny_in_of (qd ry) hd dd.mapOf ?_;rw[<- (rel.val k).jD,<- l];exact h _ (I.tok _)
 ·subst ey;cases(show u=Value.ref b from ry);obtain⟨z,hd,xs,rel,dd⟩:=vf I.hok e;refine wpAny_in_heap (S5 hu) (pA I.hok eb) hd dd ?_;have q:=(rel.val k).jD;rw[Uu]at q;rw[<- q,<- l];exact h _ (I.tok _)
theorem G2(hu:A.units+1<cLine)(I:Inv X pins σ H s)(g:uA H a y o)(ry:RelV y u)(h:∀s',Inv X pins σ H s'->Q (.bool (!o.isSome)) s') :
  wpAny (model X.prog X.w) A (compareOp .NotIn u (.ref a)) Q E s:=by
 rcases g with⟨kvs,k,e,ey,l⟩|⟨kvs,k,b,e,ey,eb,l⟩
 ·subst ey;obtain⟨z,hd,vs,rel,dd⟩:=ve I.hok e;refine wpAny_notIn_of (qd ry) hd dd.mapOf ?_;rw[<- (rel.val k).jD,<- l];exact h _ (I.tok _)
 ·subst ey;cases(ry);obtain⟨z,hd,xs,rel,dd⟩:=vf I.hok e;refine wpAny_notIn_heap (S5 hu) (pA I.hok eb) hd dd ?_;have q:=(rel.val k).jD;rw[Uu]at q;rw[<- q,<- l];exact h _ (I.tok _)
theorem qW(I:Inv X pins σ H s)(mu:LG (H a))(hs:Heap.SameBut a s.heap h')(he:∃q,h'.get? a=some q)(new:cC X.prog X.w (upd H a ob) h' a ob) :
  Inv X pins σ (upd H a ob) {s with heap:=h',toks:=t'}:=
 I.write (x:=a) (e:=a) mu (.inl rfl) (λb q hb z=>(hs.2 b hb).trans z) he new
theorem wA(z:kvs.length<=sizeLine)(hd:(a==sysModules)=false)(rel:KV kvs vs)(dd:h'.DictOf (bJ P w) a vs) :
  cC P w H' h' a (.dK kvs):=⟨z,hd,vs,rel,dd⟩
theorem CV(hu:A.units+1<cLine)(I:Inv X pins σ H s)(g:G1 H a y v H')(ry:RelV y u)(rv:RelV v r)(h:∀s',Inv X pins σ H' s'->Q () s') :
  wpAny (model X.prog X.w) A (setItem (.ref a) u r) Q E s:=by
 rcases g with⟨kvs,k,e,ey,l,eH⟩|⟨kvs,k,b,e,ey,eb,l,eH⟩
 ·subst ey eH;obtain⟨z,hd,vs,rel,dd⟩:=IM I.hok e;have hz:vs.length<=sizeLine:=by grind[rel.length]
  have hl:(putK kvs k v).length<=sizeLine:=by have:=iK kvs k v;omega
  refine wpAny_setItem_pairs (hsz:=hz) (qd ry) dd λh' dd' hs=>h _ ?_;have he:∃q,h'.get? a=some q:=let ⟨q,_,_,hq,_⟩:=dd';⟨q,hq⟩;exact qW I (by rw[e];exact True.intro) hs he (wA hl hd (rel.put k rv) dd')
 ·subst ey eH;cases(show u=Value.ref b from ry);obtain⟨z,hd,xs,rel,dd⟩:=Mu I.hok e;have hz:xs.length<=sizeLine:=by rw[<- Q0 rel];exact z
  have hl:(putK kvs k v).length<=sizeLine:=by have:=iK kvs k v;omega
  refine wpAny_setItem_heap (hsz:=hz) (S5 hu) (pA I.hok eb) dd λh' dd' hs=>h _ ?_;obtain⟨q,es,ep,hq,h2,h3,h4,_,h5⟩:=dd';refine qW I (by rw[e];exact True.intro) hs ⟨q,hq⟩ ⟨hl,hd,_,(rel.put k eb rv).keeps λc ys ec=>?_,q,es,ep,hq,h2,h3,h4,h5⟩;rw[ay (LY ec e (λz=>nomatch z))];exact ec
end
def Kf(i:Expr):Prop:=∀ov iv,subscripted i false ov iv=operate [ov,iv] (getItem ov iv)
theorem G3{T id:String}
 (hl:typeLookup (.type T) "__getitem__" = pure (some (.builtin id)))(hs:Kf slice)
 (h:wpAny (model prog w) A (eval value env) (λo s₁=>wpAny (model prog w) A (eval slice env) (λi s₂=>s₂.TypeIs o T/\wpAny (model prog w) A (getItem o i) Q E s₂) E s₁) E s) :
  wpAny (model prog w) A (eval (.Subscript value slice pos) env) Q E s:=by
 refine Subscript_ (RO h (λo s₁ h₁=>RO h₁ (λi s₂ h₂=>?_) λ_ _ x=>x) λ_ _ x=>x);obtain⟨hT,h₂⟩:=h₂;refine QA ?_;refine QA (SI hT hl ?_);have fin:wpAny (model prog w) A (subscripted slice false o i) (λr s₃=>wpAny (model prog w) A (letTemporaryGo value o r >>= λ_=>pure r) Q E s₃) E s₂:=by rw[hs o i];exact wpAny_operating (RO h₂ (λr s₃ h₃=>QA (wpAny_letTemporaryGo (QB h₃))) λ_ _ x=>x)
 first
  |exact QB (QA fin)
  |rfl
  |rfl
theorem yh(h:Heap)(hb:sysModules<h.objs.size):cC P w H (h.push {cls:=.type "dict",data:=.dict #[]}) h.objs.size (.dK []):=
 ⟨RV _,Tr.mpr (Tp (QQ hb)),[],.nil,Heap.DictOf.new h⟩
def Kg:TE:=λ_ H Q=>∀p,H p=none->Q (.ref p) (upd H p (.dK []))
section
variable {X:Cx} {pos:Pos}
theorem Ed:PE X (.Dict [] [] pos) Kg:=λpins s σ H Q I h=>
 wpAny_Dict_empty ⟨.ref s.heap.objs.size,_,I.laid (a:=s.heap.objs.size) (o:=.dK []) (t':=s.toks) (λ_ _ q=>QC _ q) (QE _) (yh s.heap I.big),rfl,h _ (I.hok.fresh (QE _))⟩
end
def Af:List (TE×TE)->St->Hp->(List (V×V)->Hp->Prop)->Prop
 | [],_,H,Q=>Q [] H
 | (tk,tv)::r,σ,H,Q=>tk σ H λx H1=>tv σ H1 λy H2=>Af r σ H2 λps H3=>Q ((x,y)::ps) H3
abbrev VV:List (V×V)->List (Value×Value)->Prop:=Paired λp q=>RelV p.1 q.1/\RelV p.2 q.2
noncomputable def Nu(X:Cx)(pos:Pos)(keys:List (Option Expr))(values:UO)(xX:List (TE×TE)):Prop:=
 ∀(pins:UE) (s:UX) (σ:St) (H:Hp) (Q:List (V×V)->Hp->Prop),Inv X pins σ H s->Af xX σ H Q ->
  wpAny (model X.prog X.w) X.A (evalPairs (pairTrees keys values X.env pos)) (λvs s'=>∃ps H',Inv X pins σ H' s'/\VV ps vs/\Q ps H') X.xe s
theorem G4:Nu X pos [] [] []:=λpins s σ H Q I h=>pairTrees_nil_walk ⟨[],H,I,.nil,h⟩
theorem Ee(hk:PE X k tk)(hv:PE X v tv)(hr:Nu X pos ks vs xX) :
  Nu X pos (some k::ks) (v::vs) ((tk,tv)::xX):=λpins s σ H Q I h=>
 pairTrees_cons_walk (bw (hk pins s σ H _ I h) λu s1 ⟨x,H1,I1,rx,q1⟩=>bw (hv pins s1 σ H1 _ I1 q1) λw2 s2 ⟨y,H2,I2,ry,q2⟩=>
  bw (hr pins s2 σ H2 _ I2 q2) λws s3 ⟨ps,H3,I3,rel,q3⟩=>⟨(x,y)::ps,H3,I3,.cons ⟨rx,ry⟩ rel,q3⟩)
def ji(kvs more:List (Key×V)):List (Key×V):=more.foldl (λacc kv=>putK acc kv.1 kv.2) kvs
theorem KV.merge:∀{more:List (Key×V)} {rs:List (Key×Value)} {kvs:List (Key×V)} {vs:List (Key×Value)},KV more rs->KV kvs vs->KV (ji kvs more) (merged vs rs):=by
 intro more rs kvs vs r
 induction r generalizing kvs vs with
 |nil=>intro q;exact q
 | @cons p q ps qs h t ih=>
  intro r0
  have e:KV (putK kvs p.1 p.2) (stored vs q.1 q.2):=by
   have:=r0.put p.1 h.2
   grind
  exact ih e
theorem jj:∀(more kvs:List (Key×V)),(ji kvs more).length<=kvs.length+more.length
 | [],kvs=>by show kvs.length<=kvs.length+0;omega
 |p::r,kvs=>by
  have h1:=jj r (putK kvs p.1 p.2);have h2:=iK kvs p.1 p.2;show(ji _ r).length<=_
  grind
theorem nj:∀{kvs:List (Key×V)} {ws:List (Value×Value)},VV (kvs.map λkv=>(kV kv.1,kv.2)) ws->∃rs,Carries (bJ P w) ws rs/\KV kvs rs
 | [],_,r=>by cases r;exact⟨[],True.intro,.nil⟩
 |p::kvs,_,r=>by
  cases r with
  | @cons a b as bs h t=>obtain⟨rs,c,q⟩:=nj t;obtain⟨b1,b2⟩:=b;exact⟨(p.1,b2)::rs,⟨qd h.1,rfl,c⟩,.cons ⟨rfl,h.2⟩ q⟩
def Mv(xX:List (TE×TE)):TE:=λσ H Q=>∀p,H p=none->Af xX σ (upd H p (.dK [])) λps H2=>H2 p=some (.dK [])/\∃kvs:List (Key×V),ps=kvs.map (λkv=>(kV kv.1,kv.2))/\kvs.length<=15/\Q (.ref p) (upd H2 p (.dK (ji [] kvs)))
theorem G5(h:Nu X pos keys values xX)(hall:keys.all (·.isSome)=true)(hl:keys.length=values.length)(h0:keys≠[])
 (h15:keys.length<=15):PE X (.Dict keys values pos) (Mv xX):=by
 intro pins s σ H Q I q;have hn:=I.hok.fresh (QE s.heap.objs.size);have I1:=I.laid (a:=s.heap.objs.size) (o:=.dK []) (h':=s.heap.push {cls:=.type "dict",data:=.dict #[]}) (t':=s.toks) (λ_ _ q=>QC _ q) (QE _) (yh s.heap I.big);refine wpAny_Dict_walk (knd:=bJ X.prog X.w) hall hl h0 h15 (bw (h pins _ σ _ _ I1 (q _ hn)) λws s2 ⟨ps,H2,I2,rel,e,kvs,ep,lk,q2⟩=>?_);subst ep;obtain⟨rs,c,rk⟩:=nj (P:=X.prog) (w:=X.w) rel;obtain⟨z,hd,vs0,r0,dd⟩:=IM I2.hok e;cases r0;refine⟨rs,c,dd,λh' dd' hs=>⟨.ref s.heap.objs.size,_,?_,rfl,q2⟩⟩
 have hz:(ji [] kvs).length<=sizeLine:=by
  have h1:=jj kvs []
  grind[List.length_nil,sizeLine_eq]
 have he:∃q,h'.get? s.heap.objs.size=some q:=let ⟨q,_,_,hq,_⟩:=dd';⟨q,hq⟩;exact qW I2 (by rw[e];exact True.intro) hs he (wA hz hd (rk.merge .nil) dd')
structure M2(X:Cx)(o:Expr)(m:Str)(apos:Pos)(e f:Expr)(cpos:Pos):Prop where
 base:attributeBase o m X.env (eval o X.env)=eval o X.env
 few:((backTo cpos (starEach [e,f] X.env)).all (λx=>!x.1)&&(backToKw cpos (keywordEach [] X.env)).all (λx=>x.1.isSome)
  && decide (([e,f]:UO).length+([]:List Keyword).length+(if([]:List Keyword).isEmpty then 0 else 1)<30))=true
 line:(apos.endLine==cpos.line)=true
 trees:backTo cpos (starEach [e,f] X.env)=[(false,eval e X.env),(false,eval f X.env)]
def PK(H:Hp)(a:Addr):Prop:=(∃kvs,Rd H a (.dK kvs))\/∃kvs,Rd H a (.dT kvs)
theorem Kh{σ:St}(I:Inv X pins σ H s)(d:PK H a) :
  s.TypeIs (.ref a) "dict" /\ (∀b,Value.ref a=.ref b->∃ob,s.heap.get? b=some ob/\ob.dict=none)/\(a==sysModules)=false:=by
 rcases d with⟨kvs,e⟩|⟨kvs,e⟩
 ·obtain⟨_,hd,vs,_,dd⟩:=ve I.hok e;refine⟨dd.typeIs,λb q=>?_,hd⟩;cases q;obtain⟨ob,_,_,h1,h2,_⟩:=dd;exact⟨ob,h1,h2.2.1⟩
 ·obtain⟨_,hd,xs,_,dd⟩:=vf I.hok e;refine⟨dd.typeIs,λb q=>?_,hd⟩;cases q;obtain⟨ob,_,_,h1,h2,_⟩:=dd;exact⟨ob,h1,h2.2.1⟩
section
variable {X:Cx} {pins:UE} {σ:St} {H:Hp} {s:UX} {a:Addr} {y d:V} {u r:Value} {o:Option V} {A:UW} {E:UD}
theorem Ki(hu:A.units+1<cLine)(I:Inv X pins σ H s)(g:uA H a y o)(ry:RelV y u)(rd:RelV d r)(h:∀w' s',Inv X pins σ H s'->RelV (o.getD d) w'->Q w' s') :
  wpAny (model X.prog X.w) A (call (.builtin "dict.get") [.ref a,u,r]) Q E s:=by
 rcases g with⟨kvs,k,e,ey,l⟩|⟨kvs,k,b,e,ey,eb,l⟩
 ·subst ey;obtain⟨z,hd,vs,rel,dd⟩:=ve I.hok e;refine call_meetsIn T5 dd.typeIs PySem.F.entry_dict_get (PySem.F.args_dict_get_3 _ _ _) (meets_dict_get_default (bJ X.prog X.w) a (qd ry) hd r) ⟨_,dd.mapOf,h _ _ (I.tok _) ?_⟩;rw[l];exact(rel.val k).getD rd
 ·subst ey;cases(show u=Value.ref b from ry);obtain⟨z,hd,xs,rel,dd⟩:=vf I.hok e;refine call_meetsIn T5 dd.typeIs PySem.F.entry_dict_get (PySem.F.args_dict_get_3 _ _ _) (meetsH_dict_get_default (tupleKind (bJ X.prog X.w)) a b hd r) ⟨S5 hu,k,xs,pA I.hok eb,dd,h _ _ (I.tok _) ?_⟩;rw[l];exact(rel.val k).getD rd
end
def Kj(td ty tx:TE):TE:=λσ H Q=>td σ H λx H1=>∃a,x=.ref a/\PK H1 a/\ty σ H1 λy H2=>tx σ H2 λz H3=>∃o,uA H3 a y o/\Q (o.getD z) H3
section
variable {X:Cx} {o e f:Expr} {apos cpos:Pos} {td ty tx:TE}
theorem Ef(hu:X.A.units+1<cLine)(ho:PE X o td)(he:PE X e ty)(hf:PE X f tx)(m:M2 X o "get" apos e f cpos):PE X (.Call (.Attribute o "get" apos) [e,f] [] cpos) (Kj td ty tx):=by
 intro pins s σ H Q I h;refine wpAny_Call_method m.base m.few m.line PySem.F.plainAttrs_dict T5 PySem.F.type_dict_get (bw (ho pins s σ H _ I h) λu s1 ⟨x,H1,I1,rx,a,ex,d,q1⟩=>?_);subst ex;obtain rfl:u=Value.ref a:=rx;obtain⟨t1,t2,_⟩:=Kh I1 d;refine⟨t1,t2,?_⟩;rw[m.trees]
 refine Calls.callWith_builtin rfl (Calls.evalArgs_plain (R6 (bw (he pins s1 σ H1 _ I1 q1) λiv s2 ⟨y,H2,I2,ry,q2⟩=>
  R6 (bw (hf pins s2 σ H2 _ I2 q2) λfv s3 ⟨z,H3,I3,rz,ov,g,q3⟩=>SG ?_))))
 exact Ki hu I3 g ry rz λw' s4 I4 rw'=>⟨_,H3,I4,rw',q3⟩
end
theorem rK{K:UM}{St:Nat->Heap->Prop}{f:Nat->V}(W:∀A:UW,A.handled=none->Walks P w A it [it] [it] n Pv St)
 (ob:∀i h,St i h->∃(o:Obj) (m:String) (vs:UR),h.get? it=some o/\o.cls=.type m/\o.data=.fields vs/\["enumerate", "zip", "dict_itemiterator", "dict_reverseitemiterator", "odict_iterator", "itertools.zip_longest", "itertools.pairwise"].contains m=false)
 (rel:∀i v,i<n->Pv i v->RelV (f i) v)(sf:∀(A:UW) (i:Nat) (s:UX) (Q:UD) (E:UD),St i s.heap->Q (.ref it) s->wpAny (model P w) A (pyIter (.ref it)) Q E s):Turn P w K tg ⟨λi _=>i<n,λi H x H'=>H'=H/\x=f i,λi _=>i=n⟩ [it] it St where
 mem:=by simp
 obj:=λi h st b hb=>by
  grind
 keep:=λi h h' st k=>(W {handled:=none,depth:=0,frames:=none,guards:=none,units:=0} rfl).frame i h h' st λb hb o e=>k b hb o e
 item:=by intro X hP hw hK hc i pins s σ H E I hf st hg;subst hP hw hK;obtain⟨f0,f1,f2,f3,f4,f5⟩:=hf it (by simp);refine(W X.A (I.ok.hd hc)).item i s _ _ hg st λv h' tk hv st' kk=>?_;have I1:Inv X pins σ H {s with heap:=h',toks:=tk}:=I.turned (λb o hb e=>kk b o (by grind) e) f0 f1 f3 f4 f5;obtain⟨o,m,vs,e,c,d,nm⟩:=ob _ _ st';exact⟨v,rfl,Bf (s:={s with heap:=h',toks:=tk}) e c d nm ⟨f i,H,I1,rel i v hg hv,⟨rfl,rfl⟩,st',λb hb=>(hf b hb).1⟩⟩
 done:=by intro X hP hw hK hc i pins s σ H E I hf st hg;subst hP hw hK;obtain⟨f0,f1,f2,f3,f4,f5⟩:=hf it (by simp);have hg':i=n:=hg;subst hg';exact(W X.A (I.ok.hd hc)).done s _ _ st λh' tk kk=>⟨rfl,I.turned (λb o hb e=>kk b o (by simpa using hb) e) f0 f1 f3 f4 f5⟩
 self:=sf
def sgn(x:Str)(i:Nat):V:=.str ⟨#[x.cps.getD i 0]⟩
def OC(x:Str):It:=⟨λi _=>i<x.cps.size,λi H v H'=>H'=H/\v=sgn x i,λi _=>i=x.cps.size⟩
theorem wB(i:Nat)(v:Value)(hi:i<x.cps.size)(h:SignAt x i v):RelV (sgn x i) v:=by
 obtain⟨c,u,e,rfl⟩:=h;refine⟨u,?_⟩
 simp_all
section
variable {X:Cx} {tg:Expr}
def OD(tl:TE):TI:=λσ H R=>tl σ H λv H1=>∃x,v=.str x/\R (OC x) H1
theorem Kk(hl:PE X l tl):PI X tg l (OD tl):=by
 intro pins s σ H R I h;refine bw (hl pins s σ H _ I h) λv s1 ⟨x,H1,I1,r1,q1⟩=>?_;obtain⟨x,e,q⟩:=q1;subst e;obtain⟨t,rfl⟩:=r1
 have fp:∀b∈[s1.heap.objs.size],gC X pins H1 b:=λb hb=>by
  have e:b=s1.heap.objs.size:=by grind
  subst e;exact I1.zP (QE _) (I1.hok.fresh (QE _))
 cases ha:x.cps.all (· < 128)with
 |false=>
  refine wpAny_pyIter_wide ha ?_
  refine⟨s1.heap.objs.size,[s1.heap.objs.size],_,OC x,H1,rfl,I1.kept (t':=s1.toks) λb o e=>QC _ e,
   rK (λA hA=>Walks.strWide hA _ x t) (λi h ⟨o,e,c,d⟩=>⟨o,_,_,e,c,d,by decide⟩) wB λA i s Q E st h=>wpAny_pyIter_striter_wide st h,⟨_,QJ _ rfl,rfl,rfl⟩,fp,q⟩
 |true=>
  refine wpAny_pyIter_ascii ha ?_
  refine⟨s1.heap.objs.size,[s1.heap.objs.size],_,OC x,H1,rfl,I1.kept (t':=s1.toks) λb o e=>QC _ e,
   rK (λA hA=>Walks.strAscii hA _ x t) (λi h ⟨o,e,c,d⟩=>⟨o,_,_,e,c,d,by decide⟩) wB λA i s Q E st h=>wpAny_pyIter_striter_ascii st h,⟨_,QJ _ rfl,rfl,rfl⟩,fp,q⟩
end
section
variable {X:Cx}
theorem all_range(bs:List Bool):((List.range bs.length).all λi=>(bs[i]?).getD true)=bs.all id:=by
 rw[S7];simp only[QX,RA,id];constructor
 ·intro h b hb;obtain⟨i,hi,rfl⟩:=SE.mp hb
  simp_all
 ·intro h i hi;simp only[hi,QP,Ua];exact h _ (UB hi)
theorem Eg(hc:X.calm=true):dP X (.builtin "all") (λxs H Q=>∃(l:Addr) (bs:List Bool),xs=[.ref l]/\jz X.K H l (bs.map V.bl)/\Q (.bl (bs.all id)) H):=by
 intro pins s σ H vs us Q I r h;obtain⟨l,bs,rfl,hq,q⟩:=h
 cases r with
 |cons r rr=>
  cases rr;cases r;obtain⟨its,rv,p,_⟩:=I.list hq;have pl:=p.isList;have hlt:l<s.heap.objs.size:=by obtain⟨_,e,_⟩:=pl;exact QF e
  refine call_all_walk (wpAny_pyIter_list pl ?_);refine⟨s.heap.objs.size,[s.heap.objs.size,l],[s.heap.objs.size],its.toArray.size,_,_,λi=>(bs[i]?).getD true,rfl,Walks.list (A:=X.A.in1) (I.ok.hd hc) _ l (QQ hlt) its.toArray,⟨⟨_,QJ _ rfl,rfl,rfl⟩,pl.push _⟩,λi v s' Q' E' hP hQ=>?_,λh' tk hk=>?_⟩
  ·have hP':its[i]?=some v:=by simpa using hP
   have hi:i<(bs.map V.bl).length:=by rw[rv.length];exact(QV.mp hP').1
   obtain⟨u,hu,ru⟩:=rv.get (i:=i) (x:=(bs.map V.bl)[i]) (by simp[hi]);rw[hP']at hu;cases hu;rw[QR]at hi;simp only[List.getElem_map]at ru;obtain rfl:v=Value.bool bs[i]:=ru;have hQ':=hQ;simp only[hi,QP,Ua]at hQ';exact RX hQ'
  ·have e:((List.range its.toArray.size).all λi=>(bs[i]?).getD true)=bs.all id:=by
    rw[Q1,<- rv.length,QR];exact all_range bs
   rw[e];exact⟨.bl _,H,I.kept λb o e=>hk b o (λhm=>by rw[QT.mp hm]at e;exact QU _ (QF e)) (QC _ e),rfl,q⟩
theorem CW:iH X (compareOp .LtE) (λx y H Q=>∃i j,x=.str i/\y=.str j/\Q (.bl (!decide (j.cps.toList<i.cps.toList))) H):=by intro pins s σ H x y v u Q I rx ry h;obtain⟨i,j,rfl,rfl,q⟩:=h;obtain⟨t,rfl⟩:=rx;obtain⟨t',rfl⟩:=ry;exact P.le_str ⟨.bl _,H,I,rfl,q⟩
end
def fQ:V->Option PyData
 |.non=>some .none
 |.bl b=>some (.bool b)
 |.int i=>some (.int i)
 |.str x=>some (.str x)
 |_=>none
def yi:Key->PyData
 |.inl i=>.int i
 |.inr x=>.str x
def aR:List (Key×V)->Option UG
 | []=>some []
 | (k,v)::r=>match fQ v,aR r with
  |some d,some ds=>some ((yi k,d)::ds)
  |_,_=>none
mutual
def Rep(H:Hp):PyData->V->Prop
 |.none,v=>v=.non
 |.bool b,v=>v=.bl b
 |.int i,v=>v=.int i
 |.str x,v=>v=.str x
 |.tuple ds,v=>∃a vs,v=.ref a/\H a=some (.tup vs)/\bb H ds vs
 |.list ds,v=>∃a vs,v=.ref a/\H a=some (.lst vs)/\bb H ds vs
 |.dict kvs,v=>∃a ks,v=.ref a/\H a=some (.dK ks)/\aR ks=some kvs
def bb(H:Hp):UJ->List V->Prop
 | [],vs=>vs=[]
 |d::ds,vs=>∃w ws,vs=w::ws/\Rep H d w/\bb H ds ws
end
mutual
theorem Rep.same(s:bG H H'):∀{d:PyData} {v:V},Rep H d v->Rep H' d v
 |.none,_,h=>h
 |.bool _,_,h=>h
 |.int _,_,h=>h
 |.str _,_,h=>h
 |.tuple ds,_,⟨a,vs,e,h,r⟩=>⟨a,vs,e,s _ _ h,bb.same s r⟩
 |.list ds,_,⟨a,vs,e,h,r⟩=>⟨a,vs,e,s _ _ h,bb.same s r⟩
 |.dict _,_,⟨a,ks,e,h,r⟩=>⟨a,ks,e,s _ _ h,r⟩
theorem bb.same{H H':Hp}(s:bG H H'):∀{ds:UJ} {vs:List V},bb H ds vs->bb H' ds vs
 | [],_,h=>h
 |_::_,_,⟨w,ws,e,h,r⟩=>⟨w,ws,e,Rep.same s h,bb.same s r⟩
end
theorem bb.length:∀{ds:UJ} {vs:List V},bb H ds vs->vs.length=ds.length
 | [],_,h=>by cases h;rfl
 |_::ds,_,⟨w,ws,e,_,r⟩=>by rw[e,QY,QY,bb.length r]
theorem bb.get:∀{ds:UJ} {vs:List V} {i:Nat} {v:V},bb H ds vs->vs[i]?=some v->∃d,ds[i]?=some d/\Rep H d v
 | [],_,i,v,h,e=>by cases h;simp at e
 |d::ds,_,0,v,⟨w,ws,e0,h,r⟩,e=>by grind
 |d::ds,_,i+1,v,⟨w,ws,e0,h,r⟩,e=>by
  subst e0;obtain⟨u,e1,e2⟩:=bb.get r (by trivial)
  simp_all
theorem bb.get':∀{ds:UJ} {vs:List V} {i:Nat} {d:PyData},bb H ds vs->ds[i]?=some d->∃v,vs[i]?=some v/\Rep H d v
 | [],_,i,v,h,e=>by simp at e
 |d::ds,_,0,v,⟨w,ws,e0,h,r⟩,e=>by grind
 |d::ds,_,i+1,v,⟨w,ws,e0,h,r⟩,e=>by
  obtain⟨u,e1,e2⟩:=bb.get' r (by trivial)
  simp_all
theorem bb.append:∀{ds es:UJ} {vs us:List V},bb H ds vs->bb H es us->bb H (ds++es) (vs++us)
 | [],_,_,_,h,r=>by cases h;exact r
 |d::ds,_,_,_,⟨w,ws,e,h,q⟩,r=>by subst e;exact⟨w,_,rfl,h,bb.append q r⟩
theorem bb.nil:bb H [] []:=rfl
theorem bb.cons{v:V}{vs:List V}(h:Rep H d v)(r:bb H ds vs):bb H (d::ds) (v::vs):=⟨v,vs,rfl,h,r⟩
theorem bb.one(h:Rep H d v):bb H [d] [v]:=.cons h .nil
theorem bb.take:∀{ds:UJ} {vs:List V} (n:Nat),bb H ds vs->bb H (ds.take n) (vs.take n)
 | [],_,n,h=>by grind[bb]
 |d::ds,_,0,_=>by rfl
 |d::ds,_,n+1,⟨w,ws,e,h,r⟩=>by subst e;exact .cons h (bb.take n r)
theorem bb.drop:∀{ds:UJ} {vs:List V} (n:Nat),bb H ds vs->bb H (ds.drop n) (vs.drop n)
 | [],_,n,h=>by grind[bb]
 |d::ds,_,0,h=>h
 |d::ds,_,n+1,⟨w,ws,e,h,r⟩=>by subst e;exact bb.drop n r
theorem Ag(e:fQ v=some d)(r:RelV v u):Reads h u d []:=by
 cases v with
 |non=>cases e;cases r;exact .none
 |bl b=>cases e;cases r;exact .bool b
 |int i=>cases e;obtain⟨t,rfl⟩:=r;exact .int i t
 |str x=>cases e;obtain⟨t,rfl⟩:=r;exact .str x t
 |_=>cases e
theorem CY(e:rC k u=true):Reads h u (yi k) []:=by
 rcases cj e with⟨i,t,rfl,rfl⟩|⟨x,t,rfl,rfl⟩
 ·exact .int i t
 ·exact .str x t
theorem qe:∀{ks:List (Key×V)} {vs:List (Key×Value)} {es:List DictEntry} {kvs:UG},aR ks=some kvs->KV ks vs->Pairs (bJ P w) es vs ->
  ReadsAll h (es.map (·.key)) (kvs.map (·.1)) []/\ReadsAll h (es.map (·.val)) (kvs.map (·.2)) []
 | [],_,es,kvs,e,r,p=>by
  cases e;cases r
  cases es with
  |nil=>exact⟨.nil,.nil⟩
  |cons _ _=>trivial
 | (k,v)::ks,_,es,kvs,e,r,p=>by
  cases r with
  |cons r1 r2=>
   rename_i q vs';obtain⟨k',u⟩:=q;obtain⟨e1,e2⟩:=r1;simp only at e1 e2;subst e1
   cases p with
   |cons hk hv hr=>
    unfold aR at e
    cases e1:fQ v with
    |none=>simp_all
    |some d=>
     cases e3:aR ks with
     |none=>simp_all
     |some ds=>rw[e1,e3]at e;cases e;obtain⟨z1,z2⟩:=qe e3 r2 hr;exact⟨.cons (as:=[]) (bs:=[]) (CY hk) z1,.cons (as:=[]) (bs:=[]) (by show Reads h (DictEntry.val _) d [];rw[hv];exact Ag e1 e2) z2⟩
section
variable {X:Cx} {pins:UE} {σ:St} {H:Hp} {s:UX}
mutual
theorem Rep.reads(I:Inv X pins σ H s):∀{d:PyData} {v:V} {u:Value},Rep H d v->RelV v u->∃as,Reads s.heap u d as
 |.none,_,u,h,r=>by cases h;cases r;exact⟨_,.none⟩
 |.bool b,_,u,h,r=>by cases h;cases r;exact⟨_,.bool b⟩
 |.int i,_,u,h,r=>by cases h;obtain⟨t,rfl⟩:=r;exact⟨_,.int i t⟩
 |.str x,_,u,h,r=>by cases h;obtain⟨t,rfl⟩:=r;exact⟨_,.str x t⟩
 |.tuple ds,_,u,⟨a,vs,e,h,q⟩,r=>by subst e;cases r;obtain⟨_,its,rv,o,ho,hc,n,hd⟩:=I.hok a _ h;obtain⟨as,z⟩:=bb.reads I q rv;exact⟨_,.tuple ho hc hd (by simpa using z)⟩
 |.list ds,_,u,⟨a,vs,e,h,q⟩,r=>by subst e;cases r;obtain⟨_,its,n,rv,ho⟩:=I.hok a _ h;obtain⟨as,z⟩:=bb.reads I q rv;exact⟨_,.list ho rfl rfl (by simpa using z)⟩
 |.dict kvs,_,u,⟨a,ks,e,h,q⟩,r=>by subst e;cases r;obtain⟨_,_,vs,rk,o,es,ep,ho,hx,hd,_,hp,_⟩:=I.hok a _ h;obtain⟨z1,z2⟩:=qe (P:=X.prog) (w:=X.w) (h:=s.heap) q rk hp;exact⟨_,.dict ho hx.1 hd z1 z2⟩
theorem bb.reads(I:Inv X pins σ H s):∀{ds:UJ} {vs:List V} {us:UL},bb H ds vs->Vals vs us->∃as,ReadsAll s.heap us ds as
 | [],_,us,h,r=>by cases h;cases r;exact⟨_,.nil⟩
 |d::ds,_,us,⟨w,ws,e,h,q⟩,r=>by
  subst e
  cases r with
  |cons r1 r2=>obtain⟨as,z⟩:=Rep.reads I h r1;obtain⟨bs,y⟩:=bb.reads I q r2;exact⟨_,.cons z y⟩
end
end
section
variable {X:Cx} {k:Nat}
def Mw:PyData->String
 |.none => "NoneType"
 |.bool _ => "bool"
 |.int _ => "int"
 |.str _ => "str"
 |.tuple _ => "tuple"
 |.list _ => "list"
 |.dict _ => "dict"
theorem Rep.ty{K:UM}(h:Rep H d v):nR K H v (.type (Mw d)):=by
 cases d with
 |none=>cases h;exact .non
 |bool b=>cases h;exact .bl b
 |int i=>cases h;exact .int i
 |str x=>cases h;exact .str x
 |tuple ds=>obtain⟨a,vs,rfl,e,_⟩:=h;exact .tup e
 |list ds=>obtain⟨a,vs,rfl,e,_⟩:=h;exact .lst e
 |dict ds=>obtain⟨a,ks,rfl,e,_⟩:=h;exact .dK e
theorem Eh:dP X (.builtin "isinstance") (λxs H Q=>∃x n t b,xs=[x,.ty n]/\nR X.K H x t/\PySem.W.kitOne X.K t (.type n)=some b/\Q (.bl b) H):=by
 intro pins s σ H vs us Q I r h;obtain⟨x,n,t,b,rfl,ty,e,q⟩:=h
 cases r with
 |cons r rr=>
  cases rr with
  |cons r' rr=>cases rr;cases r';exact CL I r ty e λtk=>⟨.bl b,H,I.tok _,rfl,q⟩
theorem kit_tuple(K:UM)(d:PyData):PySem.W.kitOne K (.type (Mw d)) (.type "tuple")=some (match d with|.tuple _=>true|_=>false):=by cases d<;>first|rfl|decide
theorem G6(K:UM)(d:PyData):PySem.W.kitOne K (.type (Mw d)) (.type "str")=some (match d with|.str _=>true|_=>false):=by cases d<;>first|rfl|decide
end
theorem bG.upd(s:bG H H')(hp:H' p=none):bG H (upd H' p o):=λb u e=>by rw[ay (aF (s b u e) hp)];exact s b u e
theorem bG.new(hp:H p=none):bG H (L2.upd H p o):=(bG.refl H).upd hp
theorem uB:bootBuiltins "isinstance" = some (.builtin "isinstance"):=by rfl
theorem jS:bootBuiltins "len" = some (.builtin "len"):=by rfl
theorem wC:bootBuiltins "all" = some (.builtin "all"):=by rfl
theorem vg:bootBuiltins "sorted" = some (.builtin "sorted"):=by rfl
theorem CZ:bootBuiltins "divmod" = some (.builtin "divmod"):=by rfl
theorem Kl:bootBuiltins "max" = some (.builtin "max"):=by rfl
theorem Km:bootBuiltins "str" = some (.type "str"):=by rfl
theorem cv:bootBuiltins "tuple" = some (.type "tuple"):=by rfl
theorem Bp:bootBuiltins "list" = some (.type "list"):=by rfl
section
variable {X:Cx} {e e2:Expr} {te te2:TE} {t:TA} {p p2 pos:Pos}
def isTup:PyData->Bool|.tuple _=>true|_=>false
def isStr:PyData->Bool|.str _=>true|_=>false
end
def mG(f:Expr->Option PyData):UO->Option UJ
 | []=>some []
 |e::es=>match f e,mG f es with
  |some d,some ds=>some (d::ds)
  |_,_=>none
noncomputable def qR:Nat->Expr->Option PyData
 |0,_=>none
 |n+1,e=>match e with
  |.Constant .none _ _=>some .none
  |.Constant (.bool b) _ _=>some (.bool b)
  |.Constant (.int i) _ _=>some (.int i)
  |.Constant (.str x) _ _=>some (.str x)
  |.Tuple es _ _=>if es.length<=1000 then(mG (qR n) es).map .tuple else none
  |.List es _=>if es.length<=1000 then(mG (qR n) es).map .list else none
  |.UnaryOp .USub (.Constant (.int i) _ _) _=>some (.int (-i))
  |.BinOp (.Constant (.int a) _ _) .Pow (.Constant (.int b) _ _) _=>if 0<=b/\b<=1000000/\a.natAbs<2^64 then some (.int (a^b.toNat))else none
  |.Dict [] [] _=>some (.dict [])
  |.Dict [some (.Constant (.str k) _ _)] [.Constant (.int i) _ _] _=>some (.dict [(.str k,.int i)])
  |_=>none
abbrev Bq(n:Nat)(es:UO):Option UJ:=mG (qR n) es
def iL(H H' N:Hp):Prop:=∀c o,N c=some o->H c=none/\H' c=some o
def Kn(d:PyData):TE:=λ_ H Q=>∀r H' N,bG H H'->iL H H' N->Rep N d r->Q r H'
def Mx(ds:UJ):TA:=λ_ H Q=>∀rs H' N,bG H H'->iL H H' N->bb N ds rs->Q rs H'
def uC:Hp:=λ_=>none
theorem iL.no:iL H H' uC:=λ_ _ e=>by cases e
def nk(N M:Hp):Hp:=λc=>match N c with|some o=>some o|none=>M c
theorem Ko:bG N (nk N M):=λc o e=>by simp[nk,e]
theorem Kp(n:iL H H1 N)(m:iL H1 H2 M):bG M (nk N M):=λc o e=>by
 have h1:=(m c o e).1
 cases q:N c with
 |none=>simp[nk,q,e]
 |some u=>rw[(n c u q).2]at h1;cases h1
theorem iL.plus(s1:bG H H1)(s2:bG H1 H2)(n:iL H H1 N)(m:iL H1 H2 M):iL H H2 (nk N M):=λc o e=>by
 cases q:N c with
 |some u=>simp[nk,q]at e;cases e;exact⟨(n c _ q).1,s2 _ _ (n c _ q).2⟩
 |none=>simp[nk,q]at e;exact⟨s1.free (m c o e).1,(m c o e).2⟩
theorem iL.put(s1:bG H H1)(n:iL H H1 N)(hp:H1 p=none):iL H (upd H1 p o) (upd N p o)/\bG N (upd N p o):=by
 have np:∀c u,N c=some u->c≠p:=λc u e z=>by subst z;rw[(n c u e).2]at hp;cases hp
 refine⟨λc u e=>?_,λc u e=>by rw[ay (np c u e)];exact e⟩;by_cases hc:c=p
 ·subst hc;rw[aZ]at e;cases e;exact⟨s1.free hp,aZ⟩
 ·rw[ay hc]at e;exact⟨(n c u e).1,by rw[ay hc];exact(n c u e).2⟩
theorem jT:∀{es:UO} {n:Nat} {ds:UJ},Bq n es=some ds->ds.length=es.length
 | [],n,ds,h=>by simp_all[mG]
 |e::es,n,ds,h=>by
  unfold Bq mG at h;split at h
  ·rename_i d ds' h1 h2;cases h;rw[QY,QY,jT h2]
  grind
section
variable {X:Cx}
theorem wD(ih:∀(e:Expr) (d:PyData),qR n e=some d->PE X e (Kn d)/\∀es:UO,starEach (e::es) X.env=(false,eval e X.env)::starEach es X.env):∀(es:UO) (ds:UJ),Bq n es=some ds->PA X es (Mx ds)
 | [],ds,h=>by cases h;intro pos pins s σ H Q I q;exact rF pos pins s σ H Q I (q [] H uC (bG.refl H) .no rfl)
 |e::es,ds,h=>by
  unfold Bq mG at h;split at h
  ·rename_i d ds' h1 h2;cases h;obtain⟨a,b⟩:=ih e d h1;intro pos pins s σ H Q I q;refine lV a (wD ih es ds' h2) (b es) pos pins s σ H Q I λr H1 N1 s1 n1 hr rs H2 N2 s2 n2 hrs=>q _ H2 _ (s1.trans s2) (n1.plus s1 s2 n2) (.cons (hr.same Ko) (hrs.same (Kp n1 n2)))
  grind
theorem Ah:∀(n:Nat) (e:Expr) (d:PyData),qR n e=some d->PE X e (Kn d)/\∀es:UO,starEach (e::es) X.env=(false,eval e X.env)::starEach es X.env:=by
 intro n
 induction n with
 |zero=>intro e d h;unfold qR at h;cases h
 |succ n ih=>
  intro e d h;unfold qR at h;split at h
  ·cases h;exact⟨λpins s σ H Q I q=>Jt pins s σ H Q I (q _ H uC (bG.refl H) .no rfl),λ_=>rfl⟩
  ·cases h;exact⟨λpins s σ H Q I q=>ID pins s σ H Q I (q _ H uC (bG.refl H) .no rfl),λ_=>rfl⟩
  ·cases h;exact⟨λpins s σ H Q I q=>ph pins s σ H Q I (q _ H uC (bG.refl H) .no rfl),λ_=>rfl⟩
  ·cases h;exact⟨λpins s σ H Q I q=>zO pins s σ H Q I (q _ H uC (bG.refl H) .no rfl),λ_=>rfl⟩
  ·rename_i es k' p';split at h
   ·rename_i hl
    cases h1:mG (qR n) es with
    |none=>rw[h1]at h;cases h
    |some ds=>rw[h1]at h;cases h;refine⟨λpins s σ H Q I q=>D1 (wD ih es ds h1) pins s σ H Q I λrs H1 N1 s1 n1 hrs=>⟨?_,λp hp=>q _ _ _ (s1.upd hp) (n1.put s1 hp).1 ⟨p,rs,rfl,aZ,hrs.same (n1.put s1 hp).2⟩⟩,λ_=>rfl⟩;rw[hrs.length,jT h1];exact QM hl (by decide)
   ·cases h
  ·rename_i es p';split at h
   ·rename_i hl
    cases h1:mG (qR n) es with
    |none=>rw[h1]at h;cases h
    |some ds=>rw[h1]at h;cases h;refine⟨λpins s σ H Q I q=>zW (wD ih es ds h1) pins s σ H Q I λrs H1 N1 s1 n1 hrs=>⟨?_,λp hp=>q _ _ _ (s1.upd hp) (n1.put s1 hp).1 ⟨p,rs,rfl,aZ,hrs.same (n1.put s1 hp).2⟩⟩,λ_=>rfl⟩;rw[hrs.length,jT h1];exact QM hl (by decide)
   ·cases h
  ·cases h;exact⟨λpins s σ H Q I q=>Mb JP ph pins s σ H Q I ⟨_,rfl,q _ H uC (bG.refl H) .no rfl⟩,λ_=>rfl⟩
  ·split at h
   ·rename_i hl;cases h;exact⟨λpins s σ H Q I q=>IF JO ph ph pins s σ H Q I ⟨_,_,rfl,rfl,hl,q _ H uC (bG.refl H) .no rfl⟩,λ_=>rfl⟩
   ·cases h
  ·cases h;exact⟨λpins s σ H Q I q=>Ed pins s σ H Q I λp hp=>q _ _ (upd uC p (.dK [])) (bG.new hp) (iL.put (bG.refl H) .no hp).1 ⟨p,[],rfl,aZ,rfl⟩,λ_=>rfl⟩
  ·rename_i k k1 p1 i i1 p2 p3;cases h;refine⟨λpins s σ H Q I q=>G5 (Ee zO ph G4) rfl rfl (by simp) (by show 1<=15;decide) pins s σ H Q I λp hp=>⟨aZ,[(Sum.inr k,V.int i)],rfl,by show 1<=15;decide,?_⟩,λ_=>rfl⟩;refine q _ _ (upd uC p (.dK [(Sum.inr k,V.int i)])) (λb o e=>?_) (λc o e=>?_) ⟨p,[(Sum.inr k,V.int i)],rfl,aZ,rfl⟩
   ·rw[ay (aF e hp),ay (aF e hp)];exact e
   ·by_cases hc:c=p
    ·subst hc;rw[aZ]at e;cases e;exact⟨hp,aZ⟩
    ·rw[ay hc]at e;cases e
  ·cases h
@[irreducible] def Lit(n:Nat)(e:Expr)(d:PyData):Prop:=qR n e=some d
theorem Lit.of(h:qR n e=some d):Lit n e d:=by grind[Lit]
theorem Lit.eq(h:Lit n e d):qR n e=some d:=by simp_all[Lit]
theorem Kq(n:Nat){e:Expr}{d:PyData}(h:Lit n e d):PE X e (Kn d):=(Ah n e d h.eq).1
end
section
variable {X:Cx} {k:Nat}
def cutD(ds:UJ)(lo hi:Option Int):UJ:=(ds.drop (HT.fi ds.length 0 lo)).take (HT.fi ds.length ds.length hi-HT.fi ds.length 0 lo)
theorem uE{lo hi:Option Int}(ht:IsTup s.heap t items)(hs:s.heap.IsSliceOf sl vl vu .none)(pl:IsPart vl lo)(pu:IsPart vu hi)
 (h0:HT.fi items.size 0 lo=0)(h1:HT.fi items.size items.size hi=items.size)(q:Q (.ref t) s):wpAny (model P w) A (getItem (.ref t) (.ref sl)) Q E s:=by
 obtain⟨os,hos,hcs,hds⟩:=id hs;have hTs:s.TypeIs (.ref sl) "slice" := ⟨os,hos,hcs⟩;unfold getItem
 try with_reducible refine Ri ?_
 first|refine QA (QB ?_)|skip
 refine QA (wpAny_sequenceKey ht.typeIs (by decide) ?_);refine QA (Rc (name:=Str.ofString "__getitem__") ht.typeIs Ry (Q7 Ry ht.typeIs entry_tuple_getitem ?_ (args_tuple_getitem _ _)));show wpAny _ _ (Builtin.Tuple.tupleItemsOf (.ref t) >>= _) _ _ s;refine QA (tupleItemsOf_ ht (QA (T4 hTs ?_)));rw[if_pos (by decide)];refine QA (HT.jB hs pl pu ?_);rw[h0,h1];show wpAny _ _ (if((((0:Nat):Int)==0&&(1:Int)==1&&(items.size-0)==items.size)=true)then _ else _) _ _ s;rw[if_pos (by simp)];unfold Builtin.Tuple.tupleIsExact;refine QA (QA (T4 ht.typeIs (QB ?_)))
 first
  |exact QA (Sh (QA (QB (QB ⟨_,rfl,QB q⟩))))
  |exact QA (Sh (QB ⟨_,rfl,QB q⟩))
  | (rw[if_pos (by decide)];exact QA (Sh (QA (QB (QB ⟨_,rfl,QB q⟩)))))
  | (rw[if_pos (by decide)];exact QA (Sh (QB ⟨_,rfl,QB q⟩)))
end
noncomputable def uo(P:UT)(w:World):JT:=λouter H s E e s'=>
 ∃(a:Addr) (cls:Value) (t:Addr) (B:Heap) (H':Hp),e=.ref a/\s'.os=s.os/\AllBare s'.gens/\Un (uj outer) [] H H' s.heap s'.heap/\kH P w H' s'.heap/\Heap.FlyingW B outer a cls (.ref t) s'.heap /\
  (∀b o,s.heap.get? b=some o->b∉uj outer->∃o',s'.heap.get? b=some o'/\B.get? b=some o')/\(∀b u,H' b=some u->∃o',s'.heap.get? b=some o'/\B.get? b=some o')/\E cls none H'
section
variable {P:UT} {w:World} {K:UM} {mg:UI} {base:Heap} {N:UN} {qual:Str} {scope:Scope} {f:Addr} {cd:Value} {A:UW} {outer:List Env} {s:UX} {H:Hp} {E:XK}
theorem av:Passes (uo P w) (uv (uo P w) P w K mg base N qual scope f cd A outer s H E) E:=by
 intro pins σ H1 s1 e s' I ⟨a,cls,t,B,H',e1,os,bare,un,hok,fl,old,DL,q⟩;subst e1;have J:=I.IC os un hok bare (λb z=>nomatch z);have hfr:(A.deeper (envOfC qual scope s.heap.objs.size f cd)).frames=some (envOfC qual scope s.heap.objs.size f cd::outer):=I.ok.frames;have noA:∀b:Addr,b∉(uv (uo P w) P w K mg base N qual scope f cd A outer s H E).ex:=λb z=>nomatch z
 have inB:∀b o,s.heap.get? b=some o->b∉uj outer->∃o',s'.heap.get? b=some o'/\B.get? b=some o':=λb o e hb=>by
  obtain⟨o1,e1⟩:=I.base.there b o e (noA b);refine old b o1 e1 λz=>?_;rcases QK.mp (I.jf b z)with z|z
  ·have z2:b=s.heap.objs.size:=z;exact absurd (QF e) (by rw[z2];exact QU _)
  ·exact hb z
 refine wpAny_leaves_onW hfr rfl fl λh' fl' up=>?_;refine⟨a,cls,t,B,H',rfl,os.trans I.os,bare,⟨λb o e n hb _=>?_,λb o e n hb _=>?_,λb o e n _=>J.base.free b o e n (noA b),λb o e _=>?_,J.base.tups,J.base.frzs,J.base.tbls⟩,λb u e=>?_,fl',λb o e hb=>?_,λb u e=>?_,q⟩
 ·have e2:=J.base.keep b o e n hb (noA b);obtain⟨o',e3,e4⟩:=inB b o e hb;rw[e2]at e3;cases e3;exact fl'.1 b o e4
 ·obtain⟨sl,e2⟩:=J.base.slot b o e n hb (noA b);obtain⟨_,o',e3,nf⟩:=J.pe.mem hb;rw[e2]at e3;cases e3;obtain⟨sl',e4⟩:=up b _ e2 nf;exact⟨sl',e4⟩
 ·by_cases hb:b∈uj outer
  ·obtain⟨o2,e2⟩:=J.base.there b o e (noA b);obtain⟨_,o',e3,nf⟩:=J.pe.mem hb;obtain⟨sl',e4⟩:=up b _ e3 nf;exact⟨_,e4⟩
  ·obtain⟨o',e3,e4⟩:=inB b o e hb;exact⟨o',fl'.1 b o' e4⟩
 ·refine(hok b u e).qP (λc v hc z=>?_) (λ_ z=>z) λ_ _ z=>z
  have:∃u',H' c=some u':=by
   rcases hc with hc|hc
   ·exact⟨u,hc▸e⟩
   ·exact⟨_,hc⟩
  obtain⟨u',hu⟩:=this;obtain⟨o',e3,e4⟩:=DL c u' hu;rw[z]at e3;cases e3;exact fl'.1 c v e4
 ·obtain⟨o',e3,e4⟩:=inB b o e hb;exact⟨o',fl'.1 b o' e4,e4⟩
 ·obtain⟨o',e3,e4⟩:=DL b u e;exact⟨o',fl'.1 b o' e4,e4⟩
end
def G7(a:Addr)(cls:Value):Heap->Prop:=λh=>∃o,h.get? a=some o/\o.cls=cls
structure Ext(H G H' G':Hp):Prop where
 sh:bG H H'
 sg:bG G G'
 gs:bG G' H'
 old:∀c,H c≠none->G' c=G c
theorem Ext.refl{H G:Hp}(s:bG G H):Ext H G H G:=⟨bG.refl H,bG.refl G,s,λ_ _=>rfl⟩
theorem Ext.new(s:bG G H)(hp:H p=none):Ext H G (upd H p o) (upd G p o):=by
 refine⟨bG.new hp,bG.new (s.free hp),λc u e=>?_,λc hc=>ay λz=>hc (z▸hp)⟩;by_cases h:c=p
 ·grind[aZ]
 ·rw[ay h]at e ⊢;exact s c u e
section
variable {X:Cx} {k:Nat}
def My:R2:=λx y H Q=>∃G ds es,bG G H/\Rep G (.tuple ds) x/\Rep G (.tuple es) y/\ds.length+es.length<=sizeLine/\∀r H' G',Ext H G H' G'->Rep G' (.tuple (ds++es)) r->Q r H'
theorem G8:iH X (binaryOp .Add) My:=by
 intro pins s σ H x y v u Q I rx ry h;obtain⟨G,ds,es,sg,h1,h2,hz,q⟩:=h;obtain⟨a,vs,rfl,ha,r1⟩:=id h1;obtain⟨b,us,rfl,hb,r2⟩:=id h2;by_cases hv:vs=[]
 ·subst hv;have hd:ds=[]:=Se.mp r1.length.symm;subst hd;cases rx;cases ry;obtain⟨its1,v1,⟨⟨c1,d1,e1,l1⟩,p1,g1,n1,z1⟩,_⟩:=I.tuple (gB.of (K:=X.K) (sg _ _ ha));obtain⟨its2,v2,⟨⟨c2,d2,e2,l2⟩,p2,g2,n2,z2⟩,_⟩:=I.tuple (gB.of (K:=X.K) (sg _ _ hb));simp only at g1 z1 g2 z2;subst g1 z1 g2 z2;cases v1;exact concat_meets ⟨_,p1,rfl⟩ ⟨_,p2,rfl⟩ noFill_tuple_add seq_tuple_add TM TC (Tv _ _) (tuple_addW0 a b _ _ n1 n2 d1 d2 l1 l2 rfl) ⟨p1,p2,⟨.ref b,H,I,rfl,q _ H G (Ext.refl sg) h2⟩⟩
 ·refine GS pins s σ H _ _ v u Q I rx ry ⟨a,b,vs,us,rfl,rfl,gB.of (sg _ _ ha),gB.of (sg _ _ hb),hv,by grind[r1.length,r2.length],λe=>?_,λe p hp=>?_⟩
  ·subst e;have he:es=[]:=Se.mp r2.length.symm;subst he;exact q _ H G (Ext.refl sg) (by rw[Ug];exact h1)
  ·have x:=Ext.new (o:=.tup (vs++us)) sg hp;exact q _ _ _ x ⟨p,_,rfl,aZ,bb.append (r1.same x.sg) (r2.same x.sg)⟩
def OE:V->Option Int->Option Int->Hp->VK->Prop:=λx lo hi H Q=>∃G ds,bG G H/\Rep G (.tuple ds) x/\∀r H' G',Ext H G H' G'->Rep G' (.tuple (cutD ds lo hi)) r->Q r H'
theorem G9:LL X OE:=by
 intro pins s σ H x v vl vu lo hi sl Q I rx hs pl pu h;obtain⟨G,ds,sg,h1,q⟩:=h;obtain⟨a,xs,rfl,ha,r1⟩:=id h1;cases rx;obtain⟨its,rv,ht,hz⟩:=I.tuple (gB.of (K:=X.K) (sg _ _ ha));have hl:its.toArray.size=xs.length:=by rw[Q1];exact rv.length.symm
 by_cases hw:HT.fi xs.length 0 lo=0/\HT.fi xs.length xs.length hi=xs.length
 ·refine⟨"tuple",_,Ry.lookup,ht.typeIs,uE ht hs pl pu (by grind) (by grind) ⟨.ref a,H,I,rfl,q _ H G (Ext.refl sg) ?_⟩⟩
  have e:cutD ds lo hi=ds:=by
   simp_all[cutD,r1.length,hw,List.drop_zero,Nat.sub_zero,List.take_length]
  grind
 ·refine JV pins s σ H (.ref a) _ vl vu lo hi sl Q I rfl hs pl pu ⟨a,xs,rfl,gB.of (sg _ _ ha),hw,λp hp=>?_⟩;have x:=Ext.new (o:=.tup (yd xs lo hi)) sg hp;refine q _ _ _ x ⟨p,_,rfl,aZ,?_⟩;have e:cutD ds lo hi=(ds.drop (HT.fi xs.length 0 lo)).take (HT.fi xs.length xs.length hi-HT.fi xs.length 0 lo):=by unfold cutD;rw[r1.length]
  rw[e];exact((r1.same x.sg).drop _).take _
end
theorem Vals.IP:∀(us:UL) (f:Nat->V),(∀j v,us[j]?=some v->RelV (f j) v)->Vals ((List.range us.length).map f) us
 | [],_,_=>.nil
 |u::us,f,h=>by rw[QY,List.range_succ_eq_map,Q6,Uo];exact .cons (h 0 u rfl) (Vals.IP us _ λj v e=>h _ v e)
section
variable {X:Cx}
theorem yj(hc:X.calm=true):dP X (.type "tuple") (λxs H Q=>∃x,xs=[.str x]/\x.cps.size<=sizeLine/\∀p,H p=none->Q (.ref p) (upd H p (.tup ((List.range x.cps.size).map (sgn x))))):=by
 intro pins s σ H xs us Q I r h;obtain⟨x,rfl,hz,q⟩:=h;obtain⟨u,rfl,rx⟩:=vals1 r;obtain⟨t,rfl⟩:=rx;refine call_tuple_str (I.ok.hd hc) x t (λh' tk acc kp hacc=>?_) hz;have I1:Inv X pins σ H {s with heap:=h',toks:=tk}:=I.kept (t':=tk) kp
 have hv:Vals ((List.range x.cps.size).map (sgn x)) acc.toList:=by
  have e:acc.toList.length=x.cps.size:=by rw[RD,hacc.1]
  rw[<- e];refine Vals.IP _ _ λj v ev=>wB j v ?_ (hacc.2 j v (by simp_all));rw[<- e]
  grind
 have I2:Inv X pins σ (upd H h'.objs.size (.tup ((List.range x.cps.size).map (sgn x)))) {s with heap:=h'.push {cls:=.type "tuple",data:=.seq acc},toks:=tk}:=by
  refine I1.laid (t':=tk) (λb o e=>QC _ e) (QE _) (show cC X.prog X.w _ _ _ (.tup _)from⟨by simp_all,acc.toList,hv,?_⟩);have:=IsTup.new h' acc
  simp_all
 exact⟨.ref h'.objs.size,_,I2,rfl,q _ (I1.hok.fresh (QE _))⟩
end
def recAt(c:Addr)(q:Str):Heap->Prop:=λh=>h.CodeRec (.ref c) q
end L2
namespace PySem.SeqAt
open PySem PySem.MeetsSeq PySem.AutoSeq1
theorem rL(b:Str)(u:Tok)(l:Addr)(es:UQ)(n:Nat)(dd:Option Addr)(sl:UP) :
  Meets (Builtin.«str.__eq__» ⟨[.str b u,.ref l],[]⟩) (λ_ R s=>s.heap.get? l=some {cls:=.type "dict",dict:=dd,data:=.dict es n,slots:=sl}/\R (.ok (.ret .notImplemented)) s):=
 .of_wp λprog w A R s h=>by
  obtain⟨hl,h⟩:=h
  wp_walk using wpAny_loadPart' hl,TN hl
  grind
theorem rM(b:Str)(u:Tok)(l:Addr)(es:UQ)(n:Nat)(dd:Option Addr)(sl:UP) :
  Meets (Builtin.«dict.__eq__» ⟨[.ref l,.str b u],[]⟩) (λ_ R s=>s.heap.get? l=some {cls:=.type "dict",dict:=dd,data:=.dict es n,slots:=sl}/\R (.ok (.ret .notImplemented)) s):=
 .of_wp λprog w A R s h=>by
  obtain⟨hp,g,d,tk,os⟩:=s;obtain⟨hl,h⟩:=h;have f1:=F.sub_str_dict
  wp_walk using wpAny_loadPart' hl,TN hl
  exact⟨_,rfl,h⟩
theorem EqAt.Ha(b:Str)(u:Tok)(hl:s.heap.get? l=some {cls:=.type "dict",dict:=dd,data:=.dict es n,slots:=sl})(hu:A.units<cLine):EqAt A s (.str b u) (.ref l) false:=λprog w E Q h=>by
 refine Ri (Rp (λhab=>absurd (eq_of_beq hab) nofun) (λ_=>QA ?_))
 refine rc_eq_decline_or (typeIs_str s b u) ⟨_,hl,rfl⟩ (by decide) F.sub_dict_str F.slot_str_eq Ts
  (λ_ hq=>Tw F.slot_str_eq (typeIs_str s b u) F.entry_str_eq (F.args_str_eq_2 _ _) (rL b u l es n dd sl) ⟨hl,hq⟩)
  (λ_ hq=>Tw Ts ⟨_,hl,rfl⟩ F.entry_dict_eq (F.args_dict_eq_2 _ _) (rM b u l es n dd sl) ⟨hl,hq⟩)
  (λ_ hq=>SQ (rfl:isSame _ _=pure false) hq) (.inr hu) (RX h)
end PySem.SeqAt
set_option maxHeartbeats 4000000
namespace PySem.W
open PySem PySem.Calls PyProof.Rows
def KasT.Run{α:Type}(lt:Nat->Nat->Bool)(n:Nat):KasT α->(α->Prop)->Prop
 |.ret a,P=>P a
 |.ask i j k,P=>i<n/\j<n/\(k (lt i j)).Run lt n P
theorem KasT.run_bind{P:β->Prop} :
  ∀(t:KasT α),t.Run lt n (λa=>(f a).Run lt n P)->(t.bind f).Run lt n P
 |.ret _,h=>h
 |.ask _ _ k,h=>⟨h.1,h.2.1,KasT.run_bind (k _) h.2.2⟩
theorem KasT.eS{P Q:α->Prop}(hq:∀a,P a->Q a) :
  ∀(t:KasT α),t.Run lt n P->t.Run lt n Q
 |.ret a,h=>hq a h
 |.ask _ _ k,h=>⟨h.1,h.2.1,KasT.eS hq (k _) h.2.2⟩
theorem KasT.Ei{Q:α->UX->Prop}{I:UX->Prop}
 (hc:∀i j C s,i<n->j<n->I s->(∀s',I s'->C (lt i j) s')->cmp i j C s)(hq:∀a s,P a->I s->Q a s) :
  ∀(t:KasT α) (s:UX),t.Run lt n P->I s->t.kasWp cmp Q s
 |.ret a,s,h,hi=>hq a s h hi
 |.ask i j k,s,h,hi=>hc i j _ s h.1 h.2.1 hi (λs' hs'=>KasT.Ei hc hq (k _) s' h.2.2 hs')
structure mH(lt:Nat->Nat->Bool)(n:Nat):Prop where
 as:∀a b,a<n->b<n->lt a b=true->lt b a=false
 tr:∀a b c,a<n->b<n->c<n->lt b a=false->lt c b=false->lt c a=false
abbrev pat(p:US)(k:Nat):Nat:=p.getD k 0
theorem kL(p:US)(k:Nat):pat p k=p[k]?.getD 0:=by simp
structure cb(n:Nat)(p:US):Prop where
 perm:p.toList.Perm (List.range n)
theorem cb.size(h:cb n p):p.size=n:=by
 have:=h.perm.length_eq
 grind
theorem cb.lt(h:cb n p)(hk:k<n):pat p k<n:=by
 have hs:k<p.size:=by simp_all[h.size]
 have e:pat p k=p[k]:=by simp_all
 rw[e];have:p[k]∈p.toList:=by simp
 exact RA.mp (h.perm.mem_iff.mp this)
theorem cb.of(h:cb n p)(e:q.Perm p):cb n q:=
 ⟨(Array.perm_iff_toList_perm.mp e).trans h.perm⟩
theorem cb.rev(h:cb n p)(i j:Nat):cb n (kas_rev p i j):=h.of (mirror_perm _ _ _ _)
theorem iM(h:cb n p)(hj:j<=n)(k:Nat) :
  pat (kas_rev p i j) k=if i<=k/\k<j then pat p (i+j-1-k)else pat p k:=by
 rw[kL];unfold kas_rev;rw[getElem?_mirror_all (by simp_all[h.size])];split<;>rw[kL]
theorem Br(h:cb n p)(hk:k<n)(hd:d<=k)(i:Nat) :
  pat (bubble p k d) i=if i=k-d then pat p k else if k-d<i/\i<=k then pat p (i-1)else pat p i:=by
 rw[kL,getElem?_bubble (by simp_all[h.size]) d hd];split
 ·simp
 ·split<;>rw[kL]
section
variable {lt:Nat->Nat->Bool} {n:Nat}
def yk(lt:Nat->Nat->Bool)(p:US)(m:Nat):Prop:=∀i j,i<j->j<m->lt (pat p j) (pat p i)=false
def iN(lt:Nat->Nat->Bool)(p:US)(m:Nat):Prop:=∀i j,i<j->j<m->lt (pat p i) (pat p j)=false
theorem mH.OF(O:mH lt n)(hx:x<n):lt x x=false:=by
 cases hh:lt x x with
 |false=>rfl
 |true=>have:=O.as _ _ hx hx hh;grind
theorem yk.more(O:mH lt n)(hp:cb n p)(h1:1<=m)(hm:m<n)(u:yk lt p m)(h:lt (pat p m) (pat p (m-1))=false):yk lt p (m+1):=by
 intro i j hij hj;rcases Sv j m with h'|h'
 ·exact u i j hij h'
 ·obtain rfl:j=m:=by omega
  rcases Sv i _ with h''|h''
  ·exact O.tr _ _ _ (hp.lt (by omega)) (hp.lt (by omega)) (hp.lt hm) (u i _ h'' (by omega)) h
  ·obtain rfl:i=j-1:=by omega
   exact h
theorem iN.more(O:mH lt n)(hp:cb n p)(h1:1<=m)(hm:m<n)(u:iN lt p m)(h:lt (pat p (m-1)) (pat p m)=false):iN lt p (m+1):=by
 intro i j hij hj;rcases Sv j m with h'|h'
 ·exact u i j hij h'
 ·obtain rfl:j=m:=by omega
  rcases Sv i _ with h''|h''
  ·exact O.tr _ _ _ (hp.lt hm) (hp.lt (by omega)) (hp.lt (by omega)) h (u i _ h'' (by omega))
  ·obtain rfl:i=j-1:=by omega
   exact h
theorem wF(O:mH lt n)(hp:cb n p):∀(f m:Nat),1<=m->m+f<=n->yk lt p m ->
  (kas_asc p f m).Run lt n (λr=>m<=r/\r<=m+f/\yk lt p r/\(r<m+f->lt (pat p r) (pat p (r-1))=true))
 |0,m,h1,hm,u=>⟨QE _,QE _,u,λh=>absurd h (QU _)⟩
 |f+1,m,h1,hm,u=>by
  refine⟨hp.lt (by omega),hp.lt (by omega),?_⟩
  cases hc:lt _ _ with
  |true=>exact⟨QE _,by omega,u,λ_=>hc⟩
  |false=>
   have hc':=hc;refine KasT.eS (λr hr=>?_) _ (wF O hp f _ (by omega) (by omega) (u.more O hp h1 (by omega) hc'))
   grind
def Nv(lt:Nat->Nat->Bool)(p:US)(a b:Nat):Prop:=∀i j,a<=i->i<b->a<=j->j<b->lt (pat p i) (pat p j)=false
theorem rN(hp:cb n p)(hb:b<=m)(hm:m<=n)(d:iN lt p m)(e:Nv lt p a b):iN lt (kas_rev p a b) m:=by
 intro i j hij hj;rw[iM hp (by omega),iM hp (by omega)];split
 ·split
  ·exact e _ _ (by omega) (by omega) (by omega) (by omega)
  ·exact d _ _ (by omega) (by omega)
 ·split
  ·exact d _ _ (by omega) (by omega)
  ·exact d _ _ hij hj
theorem Kr(hp:cb n p)(hm:m<=n)(d:iN lt p m):yk lt (kas_rev p 0 m) m:=by intro i j hij hj;rw[iM hp hm,iM hp hm,if_pos (by omega),if_pos (by omega)];exact d _ _ (by omega) (by omega)
theorem iN.zero:iN lt p 1:=λi j h h'=>by omega
theorem nW(O:mH lt n):∀(f:Nat) (p:US) (m q:Nat),cb n p->q+1<=m->m+f<=n->iN lt p m->Nv lt p (m-(q+1)) m ->
  (kas_desc f p m q).Run lt n (λr=>cb n r.1/\r.2.2+1<=r.2.1/\r.2.1<=m+f/\iN lt r.1 r.2.1/\Nv lt r.1 (r.2.1-(r.2.2+1)) r.2.1)
 |0,p,m,q,hp,hq,hm,d,e=>⟨hp,hq,QE _,d,e⟩
 |f+1,p,m,q,hp,hq,hm,d,e=>by
  refine⟨hp.lt (by omega),hp.lt (by omega),?_⟩
  cases hc:lt (p.getD m 0) (p.getD (m-1) 0)with
  |true=>
   simp only[Rr];have h1:lt (pat p (m-1)) (pat p m)=false:=O.as _ _ (hp.lt (by omega)) (hp.lt (by omega)) hc;split
   ·have hd2:=rN (n:=n) hp (QE m) (by omega) d e;have hp2:=hp.rev (m-(q+1)) m;refine KasT.eS (λr hr=>⟨hr.1,hr.2.1,by have:=hr.2.2.1;omega,hr.2.2.2⟩) _ (nW O f _ (m+1) 0 hp2 (by omega) (by omega) ?_ ?_)
    ·refine hd2.more O hp2 (by omega) (by omega) ?_;rw[iM hp (by omega),iM hp (by omega),if_pos (by omega),if_neg (by omega)];refine O.tr _ _ _ (hp.lt (by omega)) (hp.lt (by omega)) (hp.lt (by omega)) h1 ?_;exact e _ _ (by omega) (by omega) (by omega) (by omega)
    ·intro i j h1 h2 h3 h4;obtain rfl:i=m:=by omega
     obtain rfl:j=i:=by omega
     cases hh:lt (pat (kas_rev p (j-(q+1)) j) j) (pat (kas_rev p (j-(q+1)) j) j)with
     |false=>rfl
     |true=>exact(O.as _ _ (hp2.lt (by omega)) (hp2.lt (by omega)) hh).symm.trans hh▸rfl
   ·refine KasT.eS (λr hr=>⟨hr.1,hr.2.1,by have:=hr.2.2.1;omega,hr.2.2.2⟩) _ (nW O f _ (m+1) 0 hp (by omega) (by omega) (d.more O hp (by omega) (by omega) h1) ?_);intro i j h1 h2 h3 h4;obtain rfl:i=m:=by omega
    obtain rfl:j=i:=by omega
    cases hh:lt (pat p j) (pat p j)with
    |false=>rfl
    |true=>exact(O.as _ _ (hp.lt (by omega)) (hp.lt (by omega)) hh).symm.trans hh▸rfl
  |false=>
   simp only[QO,Rx];refine⟨hp.lt (by omega),hp.lt (by omega),?_⟩
   cases hc2:lt (p.getD (m-1) 0) (p.getD m 0)with
   |true=>simp only[Rr];exact⟨hp,hq,by show m<=_;omega,d,e⟩
   |false=>
    simp only[QO,Rx];refine KasT.eS (λr hr=>⟨hr.1,hr.2.1,by have:=hr.2.2.1;omega,hr.2.2.2⟩) _ (nW O f _ (m+1) (q+1) hp (by omega) (by omega) (d.more O hp (by omega) (by omega) hc2) ?_)
    have OF:lt (pat p m) (pat p m)=false:=by
     cases hh:lt (pat p m) (pat p m)with
     |false=>rfl
     |true=>exact(O.as _ _ (hp.lt (by omega)) (hp.lt (by omega)) hh).symm.trans hh▸rfl
    intro i j h1 h2 h3 h4;rcases Sv i m with hi|hi
    ·rcases Sv j m with hj|hj
     ·exact e _ _ (by omega) hi (by omega) hj
     ·obtain rfl:j=m:=by omega
      exact O.tr _ _ _ (hp.lt (by omega)) (hp.lt (show j-1<n by omega)) (hp.lt (by omega)) hc2 (e _ _ (by omega) hi (by omega) (by omega))
    ·obtain rfl:i=m:=by omega
     rcases Sv j i with hj|hj
     ·exact O.tr _ _ _ (hp.lt (by omega)) (hp.lt (show i-1<n by omega)) (hp.lt (by omega)) (e _ _ (by omega) (by omega) (by omega) hj) hc
     ·obtain rfl:j=i:=by omega
      exact OF
def Ej(lt:Nat->Nat->Bool)(n:Nat)(r:Nat×US):Prop:=cb n r.2/\1<=r.1/\r.1<=n/\yk lt r.2 r.1
theorem vh(O:mH lt n)(hp:cb n p)(h1:1<=m)(hm:m<=n)(d:iN lt p m):(kas_tail3 m n p).Run lt n (Ej lt n):=by refine KasT.run_bind _ (KasT.eS (λr hr=>?_) _ (wF O (hp.rev 0 m) _ m h1 (by omega) (Kr hp hm d)));exact⟨hp.rev 0 m,by omega,by omega,hr.2.2.1⟩
theorem nX(O:mH lt n)(hp:cb n p)(h1:1<=m)(hm:m<n)(d:iN lt p (m+1)):(kas_descPart m n p).Run lt n (Ej lt n):=by
 refine KasT.run_bind _ (KasT.eS (λr hr=>?_) _ (nW O _ p _ 0 hp (by omega) (by omega) d ?_))
 ·split
  ·exact vh O (hr.1.rev _ _) (by omega) (by omega) (rN hr.1 (QE _) (by omega) hr.2.2.2.1 hr.2.2.2.2)
  ·exact vh O hr.1 (by omega) (by omega) hr.2.2.2.1
 ·intro i j h1 h2 h3 h4;obtain rfl:j=i:=by omega
  cases hh:lt (pat p j) (pat p j)with
  |false=>rfl
  |true=>exact(O.as _ _ (hp.lt (by omega)) (hp.lt (by omega)) hh).symm.trans hh▸rfl
theorem C0(O:mH lt n)(hp:cb n p)(h1:1<=n):(kas_count n p).Run lt n (Ej lt n):=by
 unfold kas_count;refine KasT.run_bind _ (KasT.eS (λr hr=>?_) _ (wF O hp (n-1) 1 (QE _) (by omega) λi j h h'=>by omega));obtain⟨hr1,hr2,up,st⟩:=hr;split
 ·exact⟨hp,hr1,by omega,up⟩
 ·rename_i hne
  have hlt:r<n:=by
   grind
  have hs:=st (by omega);split
  ·rename_i hgt;refine⟨hp.lt (by omega),hp.lt (by omega),?_⟩;dsimp only;split
   ·exact⟨hp,hr1,by show r<=n;omega,up⟩
   ·rename_i hc;have hc:lt (pat p 0) (pat p (r-1))=false:=by simpa using hc
    have eqs:Nv lt p 0 r:=by
     have lo:∀i,i<r->lt (pat p i) (pat p 0)=false:=λi hi=>by
      rcases Nat.eq_zero_or_pos i with rfl|h
      ·cases hh:lt (pat p 0) (pat p 0)with
       |false=>rfl
       |true=>exact(O.as _ _ (hp.lt (by omega)) (hp.lt (by omega)) hh).symm.trans hh▸rfl
      ·exact up 0 i h hi
     have hi:∀i,i<r->lt (pat p (r-1)) (pat p i)=false:=λi hi=>by
      rcases Sv i (r-1)with h|h
      ·exact up i (r-1) h (by omega)
      ·obtain rfl:i=r-1:=by omega
       exact O.OF (hp.lt (by omega))
     intro i j _ h2 _ h4;have a1:lt (pat p 0) (pat p j)=false:=O.tr _ _ _ (hp.lt (by omega)) (hp.lt (show r-1<n by omega)) (hp.lt (by omega)) (hi j h4) hc;exact O.tr _ _ _ (hp.lt (by omega)) (hp.lt (show 0<n by omega)) (hp.lt (by omega)) a1 (lo i h2)
    have dn:iN lt (kas_rev p 0 r) r:=rN hp (QE r) (by omega) (λi j h h'=>eqs _ _ (by omega) (by omega) (by omega) h') eqs;refine nX O (hp.rev 0 r) (by omega) hlt (dn.more O (hp.rev 0 r) (by omega) hlt ?_);rw[iM hp (by omega),iM hp (by omega),if_pos (by omega),if_neg (by omega)];refine O.tr _ _ _ (hp.lt (by omega)) (hp.lt (show r-1<n by omega)) (hp.lt (by omega)) (O.as _ _ (hp.lt (by omega)) (hp.lt (by omega)) hs) ?_;exact eqs _ _ (by omega) (by omega) (by omega) (by omega)
  ·obtain rfl:r=1:=by omega
   exact nX O hp (by omega) hlt ((iN.zero).more O hp (by omega) hlt (O.as _ _ (hp.lt (by omega)) (hp.lt (by omega)) hs))
theorem pB(O:mH lt n)(hp:cb n p)(hk:k<n)(u:yk lt p k):∀(f l r:Nat),l<=r->r<=k->r-l<=f ->
  (∀i,i<l->lt (pat p k) (pat p i)=false)->(∀i,r<=i->i<k->lt (pat p i) (pat p k)=false) ->
  (kas_place p k f l r).Run lt n (λm=>m<=k/\(∀i,i<m->lt (pat p k) (pat p i)=false)/\(∀i,m<=i->i<k->lt (pat p i) (pat p k)=false))
 |0,l,r,h1,h2,h3,a,b=>⟨by omega,a,λi hi=>b i (by omega)⟩
 |f+1,l,r,h1,h2,h3,a,b=>by
  unfold kas_place;split
  ·exact⟨by omega,a,λi hi=>b i (by omega)⟩
  ·rename_i hlr;refine⟨hp.lt hk,hp.lt (by omega),?_⟩;dsimp only;split
   ·rename_i hc;refine pB O hp hk u f l ((l+r) / 2) (by omega) (by omega) (by omega) a λi hi hik=>?_;have hm:lt (pat p ((l+r) / 2)) (pat p k)=false:=O.as _ _ (hp.lt hk) (hp.lt (by omega)) hc;rcases Sv ((l+r) / 2) i with h|h
    ·exact O.tr _ _ _ (hp.lt hk) (hp.lt (show(l+r) / 2<n by omega)) (hp.lt (by omega)) hm (u _ _ h hik)
    ·obtain rfl:i=(l+r) / 2:=by omega
     exact hm
   ·rename_i hc;have hc:lt (pat p k) (pat p ((l+r) / 2))=false:=by simpa using hc
    refine pB O hp hk u f ((l+r) / 2+1) r (by omega) h2 (by omega) (λi hi=>?_) b;rcases Sv i ((l+r) / 2)with h|h
    ·exact O.tr _ _ _ (hp.lt (by omega)) (hp.lt (show(l+r) / 2<n by omega)) (hp.lt hk) (u _ _ h (by omega)) hc
    ·obtain rfl:i=(l+r) / 2:=by omega
     exact hc
theorem Bs(O:mH lt n):∀(f:Nat) (p:US) (k:Nat),cb n p->k+f=n->yk lt p k->(kas_bin f p k).Run lt n (λp=>cb n p/\yk lt p n)
 |0,p,k,hp,hk,u=>⟨hp,by grind⟩
 |f+1,p,k,hp,hk,u=>by
  unfold kas_bin;refine KasT.run_bind _ (KasT.eS (λm hm=>?_) _ (pB O hp (by omega) u k 0 k (RV _) (QE _) (by omega) (λi h=>by omega) (λi h h'=>by omega)));obtain⟨hmk,lo,hi⟩:=hm;refine Bs O f _ (k+1) (hp.of (bubble_perm _ _ _)) (by omega) ?_;intro i j hij hj;have hd:k-(k-m)=m:=by omega
  rw[Br hp (by omega) (by omega),Br hp (by omega) (by omega),hd];by_cases j1:j=m
  ·grind
  ·rw[if_neg j1];by_cases i1:i=m
   ·rw[if_pos i1,if_pos (by omega)];exact hi _ (by omega) (by omega)
   ·rw[if_neg i1];by_cases j2:m<j/\j<=k
    ·rw[if_pos j2];by_cases i2:m<i/\i<=k
     ·rw[if_pos i2];exact u _ _ (by omega) (by omega)
     ·rw[if_neg i2];exact u _ _ (by omega) (by omega)
    ·rw[if_neg j2,if_neg (by omega)];exact u _ _ hij (by omega)
theorem Ek(O:mH lt n)(h:1<=n):(kas_sort n).Run lt n (λp=>cb n p/\yk lt p n):=by
 refine KasT.run_bind _ (KasT.eS (λr hr=>?_) _ (C0 O ⟨List.Perm.refl _⟩ h));obtain⟨hp,h1,h2,u⟩:=hr;split
 ·have:max r.1 1=r.1:=by omega
  rw[this];exact Bs O _ _ _ hp (by omega) u
 ·refine⟨hp,?_⟩
  grind
end
end PySem.W
set_option maxHeartbeats 4000000
namespace PySem.W
open PySem PySem.Calls PyProof.Rows
section
variable {prog:UT} {w:World} {A:UW} {E:UD} {s:UX}
noncomputable def Em(prog:UT)(w:World)(A:UW)(vs:UL)(lt:Nat->Nat->Bool)(s:UX):Prop:=
 wpAny (model prog w) A (keyKind' vs.toArray) (λκ s'=>s'=s/\∀i j C,i<vs.length->j<vs.length->C (lt i j) s ->
  wpAny (model prog w) A (keyLt' κ (vs.getD i Value.none) (vs.getD j Value.none)) C (λ_ _=>False) s) (λ_ _=>False) s
theorem mQ(ho:s.heap.get? a=some (seqObj "list" vs.toArray n))
 (O:mH lt vs.length)(h64:vs.length<64)
 (hk:∀h',(∀b o,b≠a->s.heap.get? b=some o->h'.get? b=some o)->2<=vs.length->Em prog w A vs lt {s with heap:=h'})
 (h:∀p:US,cb vs.length p->yk lt p vs.length->P (.done (.ret .none)) {s with heap:=sortedHeap s.heap a vs (p.toList.map λi=>vs.getD i Value.none).toArray}) :
  wpAny (model prog w) A (Builtin.«list.sort» ⟨[.ref a],[]⟩) P E s:=by
 rw[list_sort_plain];have ha:a<s.heap.objs.size:=QF ho;refine QA (listItems_at ho rfl ?_);refine QA (listUpdate_at ho rfl ?_);obtain⟨e1,ho1⟩:∃e1,(s.heap.update a (Obj.mapSeq λ_=>#[])).get? a=some (seqObj "list" #[] e1):=⟨_,get?_update_seq ho (λ_=>#[])⟩;refine QA (seqEpoch_at ho1 rfl ?_);refine QA (wpAny_newTuple ?_);refine QA (wpAny_newList ?_);refine Ri ?_;have ho6:(((s.heap.update a (Obj.mapSeq λ_=>#[])).push (seqObj "tuple" vs.toArray 0)).push (seqObj "list" #[] 0)).get? a=some (seqObj "list" #[] e1):=by rw[SJ _ _ _ (by rw[size_push',Tn];exact QQ (RY ha)),SJ _ _ _ (by rw[Tn];exact QQ ha)];exact ho1
 show wpAny (model prog w) A _ P E {s with heap:=((s.heap.update a (Obj.mapSeq λ_=>#[])).push (seqObj "tuple" vs.toArray 0)).push (seqObj "list" #[] 0)};dsimp only;by_cases h2:vs.toArray.size<2
 ·rw[if_pos h2,if_pos h2];refine QA (QB ?_);rw[StateT.run_pure];refine QA (QB ?_);dsimp only;refine QA (seqEpoch_at ho6 rfl ?_);refine QA (listUpdate_at ho6 rfl ?_ (hsz2:=by rw[Array.size_map];show(pairsOf vs).size<=_;rw[pairsOf_size,R9];omega));simp only[bne_self_eq_false,QO,Rx];have hl:vs.length<2:=by simpa using h2
  have e:(arrOf (SortSt.mk' general' (vs.toArray.zip vs.toArray) #[] 7 none)).map (·.2)=(((List.range vs.length).toArray).toList.map λi=>vs.getD i Value.none).toArray:=by
   show(vs.toArray.zip vs.toArray).map (·.2)=_
   match vs,hl with
   | [],_=>simp
   | [x],_=>simp[List.range_succ]
  rw[e];exact QB (h _ ⟨List.Perm.refl _⟩ λi j h1 h2=>by omega)
 ·rw[if_neg h2,if_neg h2];have hl:2<=vs.length:=by simp at h2;exact h2
  refine QA (RO (hk _ (λb o hb q=>?_) hl) (λκ s' hκ=>?_) λ_ _ x=>x.elim)
  ·have hbs:b<s.heap.objs.size:=QF q;rw[SJ _ _ _ (by rw[size_push',Tn];exact QQ (RY hbs)),SJ _ _ _ (by rw[Tn];exact QQ hbs),Heap.get?_update_ne _ _ _ _ hb];exact q
  ·obtain⟨rfl,hc⟩:=hκ
   refine QA (RO (kat_run (E:=E) (vs:=vs) (ks:=vs) (κ:=κ) (G:=λp s'=>s'={s with heap:=((s.heap.update a (Obj.mapSeq λ_=>#[])).push (seqObj "tuple" vs.toArray 0)).push (seqObj "list" #[] 0)}/\cb vs.length p/\yk lt p vs.length)
    (Q:=λst' s'=>s'={s with heap:=((s.heap.update a (Obj.mapSeq λ_=>#[])).push (seqObj "tuple" vs.toArray 0)).push (seqObj "list" #[] 0)}/\failedOf st'=none/\∃p,cb vs.length p/\yk lt p vs.length/\(arrOf st').map (·.2)=List.toArray (p.toList.map λi=>vs.getD i Value.none))
    rfl hl h64 (λp st' s' a1 a2 a3 a4=>⟨a4.1,a3,p,a4.2.1,a4.2.2,kat_snds rfl a2⟩) ?_) ?_ λ_ _ e=>e)
   ·refine KasT.Ei (lt:=lt) (n:=vs.length) (P:=λp=>cb vs.length p/\yk lt p vs.length) (I:=λs'=>s'={s with heap:=((s.heap.update a (Obj.mapSeq λ_=>#[])).push (seqObj "tuple" vs.toArray 0)).push (seqObj "list" #[] 0)}) ?_ ?_ _ _ (Ek O (by omega)) rfl
    ·rintro i j C s' hi hj rfl q;exact hc i j C hi hj (q _ rfl)
    ·rintro p s' hp rfl;exact⟨rfl,hp⟩
   ·rintro⟨⟨⟩,st'⟩ s' ⟨rfl,hf,p,hp,hu,e⟩;dsimp only at hf e ⊢;rw[e];refine QA (seqEpoch_at ho6 rfl ?_);refine QA (listUpdate_at ho6 rfl ?_ (hsz2:=by rw[Q1,QR,RD,hp.size,R9];omega));rw[hf];simp only[bne_self_eq_false,QO,Rx];exact QB (h p hp hu)
theorem rO(hl:s.heap.IsList l vs.toArray)(O:mH lt vs.length)(h64:vs.length<64)
 (hk:∀h',(∀b o,s.heap.get? b=some o->h'.get? b=some o)->2<=vs.length->Em prog w A.in1.in1 vs lt {s with heap:=h'})
 (h:∀p:US,cb vs.length p->yk lt p vs.length->Q (.ref (s.heap.objs.size+1)) {s with heap:=sortedAll s.heap vs (p.toList.map λi=>vs.getD i Value.none).toArray}) :
  wpAny (model prog w) A (call (.builtin "sorted") [.ref l]) Q E s:=by
 refine Calls.call_function_entry kind_sorted plain_sorted entry_sorted (args_sorted1 _) ?_;unfold Builtin.«sorted»;refine QA (m:=checkCount "sorted" 1 1 _) (QB ?_);refine QA (collect_list hl ?_);refine QA (wpAny_newList ?_);have hsz:((s.heap.push (seqObj "list" #[] 0)).update s.heap.objs.size (Obj.mapSeq (·++vs.toArray))).objs.size=s.heap.objs.size+1:=by rw[Tn,size_push']
 have hoL:(((s.heap.push (seqObj "list" #[] 0)).update s.heap.objs.size (Obj.mapSeq (·++vs.toArray))).push (seqObj "list" vs.toArray 0)).get? (s.heap.objs.size+1)=some (seqObj "list" vs.toArray 0):=by rw[<- hsz];exact QJ _ rfl
 show wpAny _ _ _ _ _ {s with heap:=((s.heap.push (seqObj "list" #[] 0)).update s.heap.objs.size (Obj.mapSeq (·++vs.toArray))).push (seqObj "list" vs.toArray 0)};rw[hsz];refine QA (Ri (Q7 slot_list_sort ⟨_,hoL,rfl⟩ entry_list_sort (mQ hoL O h64 (λh' k h2=>hk h' (λb o q=>?_) h2) λp a1 a2=>⟨_,rfl,?_⟩) (args_list_sort _)))
 ·have hlt:b<s.heap.objs.size:=QF q;refine k b o (QQ (RY hlt)) ?_;show(((s.heap.push (seqObj "list" #[] 0)).update s.heap.objs.size (Obj.mapSeq (·++vs.toArray))).push (seqObj "list" vs.toArray 0)).get? b=some o;rw[SJ _ _ _ (by rw[hsz];exact QQ (RY hlt)),Heap.get?_update_ne _ _ _ _ (QQ hlt),SJ _ _ _ (QQ hlt)];exact q
 ·exact QB ⟨_,rfl,h p a1 a2⟩
end
end PySem.W
namespace L2
open PySem PySem.Spec PyProof.Rows
open PySem.W (mH cb yk Em rO KatLex kat_lt kat_one kas_mapM kas_first_eq Looks pat)
def nu(x y:Str):Bool:=decide (x.cps.toList<y.cps.toList)
theorem wG(x:Str):nu x x=false:=strKind.irrefl _
theorem Ai(h:nu x y=true)(h':nu y z=true):nu x z=true:=strKind.trans _ _ _ h h'
theorem En(h:nu x y=true):nu y x=false:=by
 cases e:nu y x with
 |false=>rfl
 |true=>have:=Ai h e;grind[wG]
theorem Bt(h:nu x y=false)(h':nu y x=false):x=y:=by have e:=strKind.total x.cps.toList y.cps.toList h h';cases x;simp_all
section
variable {P:UT} {w:World} {A:UW} {E:UD} {s:UX}
theorem yl{vs:UL}(h2:1<=vs.length)(hT:∀v∈vs,Looks M s.heap (typeOf v) T)(hT2:(T==T)=true)(h:Q (some T) s) :
  wpAny M A (oneTypeOnly' vs.toArray) Q E s:=by
 obtain⟨v,rest,rfl⟩:∃v rest,vs=v::rest:=by
  match vs,h2 with
  |v::r,_=>exact⟨v,r,rfl⟩
 rw[oneTypeOnly'_eq,List.mapM_toArray,map_eq_pure_bind];refine QA (QA (kas_mapM (r:=T) _ (λv hv Q' hq=>(hT v hv).here hq) (QB ?_)));have hall:((List.map (λ_=>T) (v::rest)).toArray.all λx=>x==T)=true:=by simp only[List.all_toArray,List.all_map,QX];intro _ _;exact hT2
 have h0:(List.map (λ_=>T) (v::rest)).toArray[0]?=some T:=by simp
 rw[h0];simp only[hall,Rr];exact QB h
end
section
variable {X:Cx} {k:Nat}
theorem jU{α:Type}(d:α):∀(xs:List α),(List.range xs.length).map (λi=>xs.getD i d)=xs
 | []=>rfl
 |x::xs=>by
  rw[QY,List.range_succ_eq_map,Q6,Uo];have:=jU d xs
  conv=>rhs;rw[<- this]
  rfl
theorem C1(r:Vals vs us)(i:Nat)(hi:i<vs.length):RelV (vs.getD i .non) (us.getD i .none):=by
 obtain⟨u,h1,h2⟩:=r.get (i:=i) (x:=vs[i]) (by grind)
 simp_all
theorem vi(r:Vals vs us):∀(l:List Nat),(∀i∈l,i<vs.length)->Vals (l.map λi=>vs.getD i .non) (l.map λi=>us.getD i .none)
 | [],_=>.nil
 |i::l,h=>.cons (C1 r i (h i (.head _))) (vi r l λj hj=>h j (.tail _ hj))
theorem vj(r:bb H ds vs)(dd:PyData):∀(l:List Nat),(∀i∈l,i<vs.length)->bb H (l.map λi=>ds.getD i dd) (l.map λi=>vs.getD i .non)
 | [],_=>bb.nil
 |i::l,h=>by
  refine bb.cons ?_ (vj r dd l λj hj=>h j (.tail _ hj));have hi:=h i (.head _);obtain⟨d,h1,h2⟩:=r.get (i:=i) (v:=vs[i]) (by grind)
  simp_all
end
end L2
namespace Ml
open PySem
structure Xc where
 cls:Str
 args:UJ
inductive D where
 |dat (d:PyData)
 |ref (i:Nat)
 |iO (t:Bool) (kvs:UG)
 |set (xs:UJ)
 |fn (n:Str)
 |exc (x:Xc)
 |scr (ns:List Int)
 |ktup (xs:UJ)
 |rpr (x:Str)
inductive MO where
 |lst (xs:List D)
 |iO (t:Bool) (kvs:UG)
 |ins (C:Str) (fs:List (Str×D))
 |tab (P:Addr) (q:Str)
abbrev Hm:=List MO
abbrev Fm:=List (Option D)
inductive R (α:Type) where
 |ok (a:α) (h:Hm)
 |exc (x:Xc) (h:Hm)
 |bad
def R.bind{α β:Type}:R α->(α->Hm->R β)->R β
 |.ok a h,f=>f a h
 |.exc x h,_=>.exc x h
 |.bad,_=>.bad
def R.uF{α:Type}:R α->R α
 |.exc _ _=>.bad
 |r=>r
@[simp] theorem R.dD:(R.ok a h).uF=.ok a h:=rfl
@[simp] theorem R.Nw:(R.bad:R α).uF=.bad:=rfl
@[simp] theorem R.Ny:(R.exc x h:R α).uF=.bad:=rfl
@[simp] theorem R.aK{f:α->Hm->R β}:(R.ok a h).bind f=f a h:=rfl
@[simp] theorem R.Eo{f:α->Hm->R β}:(R.exc x h).bind f=.exc x h:=rfl
@[simp] theorem R.Mz:R.bad.bind f=.bad:=rfl
theorem R.bind_assoc(r:R α)(f:α->Hm->R β)(g:β->Hm->R γ):(r.bind f).bind g=r.bind λa h=>(f a h).bind g:=by cases r<;>rfl
abbrev ME:=Fm->Hm->R D
abbrev MT:=Fm->Hm->R Bool
abbrev MA:=Fm->Hm->R (List D)
inductive Fl where
 |nx (ρ:Fm)
 |rt (d:D)
 |bk (ρ:Fm)
 |ct (ρ:Fm)
abbrev MS:=Fm->Hm->R Fl
abbrev Fn:=List D->Hm->R D
abbrev D.none:D:=.dat .none
abbrev D.bool(b:Bool):D:=.dat (.bool b)
abbrev D.int(i:Int):D:=.dat (.int i)
abbrev D.str(s:Str):D:=.dat (.str s)
def ae(i:Nat):ME:=λρ h=>match ρ[i]? with
 |some (some d)=>.ok d h
 |_=>.bad
def ai(d:PyData):ME:=λ_ h=>.ok (.dat d) h
def Qm(n:Str):ME:=λ_ h=>.ok (.fn n) h
def ah:MA:=λ_ h=>.ok [] h
def aa(e:ME)(a:MA):MA:=λρ h=>(e ρ h).bind λx h1=>(a ρ h1).bind λxs h2=>.ok (x::xs) h2
def ak(f:D->D->Hm->R D)(a b:ME):ME:=λρ h=>(a ρ h).bind λx h1=>(b ρ h1).bind λy h2=>f x y h2
def IQ(f:D->Hm->R D)(a:ME):ME:=λρ h=>(a ρ h).bind λx h1=>f x h1
def af(f:Fn)(a:MA):ME:=λρ h=>(a ρ h).bind λxs h1=>f xs h1
def bc(e:ME):MT:=λρ h=>(e ρ h).bind λx h1=>match x with
 |.dat (.bool b)=>.ok b h1
 |_=>.bad
def fO(t:MT):MT:=λρ h=>(t ρ h).bind λb h1=>.ok (!b) h1
def nQ(t u:MT):MT:=λρ h=>(t ρ h).bind λb h1=>if b then u ρ h1 else .ok false h1
def um(t u:MT):MT:=λρ h=>(t ρ h).bind λb h1=>if b then .ok true h1 else u ρ h1
def OG(a b:ME):ME:=λρ h=>(bc a ρ h).bind λc h1=>if c then b ρ h1 else .ok (.bool false) h1
def Qn(a b:ME):ME:=λρ h=>(bc a ρ h).bind λc h1=>if c then .ok (.bool true) h1 else b ρ h1
def OH(a:ME):ME:=λρ h=>(bc a ρ h).bind λc h1=>.ok (.bool !c) h1
def Qo(t:MT)(a b:ME):ME:=λρ h=>(t ρ h).bind λc h1=>if c then a ρ h1 else b ρ h1
def D.data:D->Option PyData
 |.dat d=>some d
 |_=>Option.none
def ic:List D->Option UJ
 | []=>some []
 |x::xs=>match x.data,ic xs with
  |some d,some ds=>some (d::ds)
  |_,_=>Option.none
theorem lX(ds:UJ):ic (ds.map D.dat)=some ds:=by
 induction ds with
 |nil=>rfl
 |cons d ds ih=>simp[ic,D.data,ih]
def mI(n:Nat):Bool:=decide (n<=16777216)
def kM(xs:List D)(h:Hm):R D:=match ic xs with
 |some ds=>if mI ds.length then .ok (.dat (.tuple ds)) h else .bad
 |Option.none=>.bad
def ie(xs:List D)(h:Hm):R D:=match ic xs with
 |some ds=>if mI ds.length then .ok (.dat (.list ds)) h else .bad
 |Option.none=>.bad
def Bu(xs:List D)(h:Hm):R D:=if mI xs.length then .ok (.ref h.length) (h++[.lst xs])else .bad
def bL(a:MA):ME:=af kM a
def Ep(a:MA):ME:=af ie a
def uG(a:MA):ME:=af Bu a
def cL:MS:=λρ h=>.ok (.nx ρ) h
def bx(a b:MS):MS:=λρ h=>(a ρ h).bind λf h1=>match f with
 |.nx ρ1=>b ρ1 h1
 |f=>.ok f h1
def cw(i:Nat)(e:ME):MS:=λρ h=>(e ρ h).bind λx h1=>.ok (.nx (ρ.set i (some x))) h1
def jE(e:ME):MS:=λρ h=>(e ρ h).bind λ_ h1=>.ok (.nx ρ) h1
def bS(e:ME):MS:=λρ h=>(e ρ h).bind λx h1=>.ok (.rt x) h1
def o8(t:MT)(a b:MS):MS:=λρ h=>(t ρ h).bind λc h1=>if c then a ρ h1 else b ρ h1
def Ks:MS:=λρ h=>.ok (.bk ρ) h
def MB:MS:=λρ h=>.ok (.ct ρ) h
abbrev MG:=D->Fm->Hm->R Fm
def aA(i:Nat):MG:=λx ρ h=>.ok (ρ.set i (some x)) h
abbrev Er:=List D->Fm->Hm->R Fm
def hV:Er:=λxs ρ h=>match xs with
 | []=>.ok ρ h
 |_=>.bad
def bM(g:MG)(gs:Er):Er:=λxs ρ h=>match xs with
 | []=>.bad
 |x::xs=>(g x ρ h).bind λρ1 h1=>gs xs ρ1 h1
def hX(gs:Er):MG:=λx ρ h=>match x with
 |.dat (.tuple ds)=>gs (ds.map D.dat) ρ h
 |_=>.bad
def kN(g:MG)(e:ME):MS:=λρ h=>(e ρ h).bind λx h1=>(g x ρ h1).bind λρ1 h2=>.ok (.nx ρ1) h2
def kO:List Nat->List D->Fm->Option Fm
 | [],[],ρ=>some ρ
 |i::is,x::xs,ρ=>kO is xs (ρ.set i (some x))
 |_,_,_=>Option.none
def uH(is:List Nat)(a:MA):MS:=λρ h=>(a ρ h).bind λxs h1=>match kO is xs ρ with
 |some ρ1=>.ok (.nx ρ1) h1
 |Option.none=>.bad
def Bv(e:ME):MA:=λρ h=>(e ρ h).bind λx h1=>match x with
 |.dat (.tuple ds)=>.ok (ds.map D.dat) h1
 |_=>.bad
def Es(e:ME):MA:=λρ h=>(e ρ h).bind λx h1=>match x with
 |.dat (.list ds)=>.ok (ds.map D.dat) h1
 |_=>.bad
def signs(x:Str):List D:=(List.range x.cps.size).map λ(i:Nat)=>D.str ⟨#[x.cps.getD i 0]⟩
def Et(e:ME):MA:=λρ h=>(e ρ h).bind λx h1=>match x with
 |.dat (.str s)=>.ok (signs s) h1
 |_=>.bad
def nums(lo:Int)(n:Nat):List D:=(List.range n).map λ(i:Nat)=>D.int (lo+(i:Int))
def qf(a:MA):MA:=λρ h=>(a ρ h).bind λxs h1=>match xs with
 | [.dat (.int j)]=>if -(2^62)<=j/\j<2^62 then .ok (nums 0 j.toNat) h1 else .bad
 |_=>.bad
def Kt(a:MA):MA:=λρ h=>(a ρ h).bind λxs h1=>match xs with
 | [.dat (.int i),.dat (.int j)]=>if -(2^62)<=i/\i<2^62/\-(2^62)<=j/\j<2^62 then .ok (nums i (j-i).toNat) h1 else .bad
 |_=>.bad
def wH:UJ->UJ->List D
 |x::xs,y::ys=>.dat (.tuple [x,y])::wH xs ys
 |_,_=>[]
def Bw(a:MA):MA:=λρ h=>(a ρ h).bind λxs h1=>match xs with
 | [.dat (.tuple ds),.dat (.tuple es)]=>.ok (wH ds es) h1
 |_=>.bad
noncomputable def dh(g:MG)(b:MS):List D->Fm->Hm->R Fl
 | [],ρ,h=>.ok (.nx ρ) h
 |x::xs,ρ,h=>(g x ρ h).uF.bind λρ1 h1=>(b ρ1 h1).uF.bind λf h2=>match f with
  |.nx ρ2=>dh g b xs ρ2 h2
  |.ct ρ2=>dh g b xs ρ2 h2
  |.bk ρ2=>.ok (.nx ρ2) h2
  |.rt d=>.ok (.rt d) h2
def pC(it:MA)(g:MG)(b:MS):MS:=λρ h=>(it ρ h).uF.bind λxs h1=>dh g b xs ρ h1
noncomputable def dE(n:Nat)(ρ:Fm)(g:MG)(t:MT)(e:ME):List D->Hm->R (List D)
 | [],h=>.ok [] h
 |x::xs,h=>(g x (List.replicate n none++ρ) h).uF.bind λρ1 h1=>(t ρ1 h1).uF.bind λc h2=>
  if c then(e ρ1 h2).uF.bind λy h3=>(dE n ρ g t e xs h3).bind λys h4=>.ok (y::ys) h4
  else dE n ρ g t e xs h2
def dR:MT:=λ_ h=>.ok true h
def kP(n:Nat)(it:MA)(g:MG)(t:MT)(e:ME):MA:=λρ h=>(it ρ h).bind λxs h1=>if mI xs.length then dE n ρ g t e xs h1 else .bad
def cx(n:Nat)(it:MA)(g:MG)(t:MT)(e:ME):ME:=af ie (kP n it g t e)
def rP:Fl->Hm->R D
 |.rt d,h=>.ok d h
 |.nx _,h=>.ok D.none h
 |_,_=>.bad
def bE(p n:Nat)(b:MS):Fn:=λxs h=>if xs.length=p then(b (xs.map some++List.replicate (n-p) none) h).bind rP else .bad
def D.below(n:Nat):D->Bool
 |.ref i=>decide (i<n)
 |_=>true
def MO.below(n:Nat):MO->Bool
 |.lst xs=>xs.all (D.below n)
 |.iO _ _=>true
 |.ins _ fs=>fs.all λp=>p.2.below n
 |.tab _ _=>true
noncomputable def gu(f:Fn):Fn:=λxs h=>match f xs h with
 |.ok d h'=>if d.below h.length&&(h'.take h.length).all (MO.below h.length)&&decide (h.length<=h'.length)then .ok d (h'.take h.length)else .bad
 |.exc x h'=>if(h'.take h.length).all (MO.below h.length)&&decide (h.length<=h'.length)then .exc x (h'.take h.length)else .bad
 |.bad=>.bad
def mG(f:D->Option PyData):List D->Option UJ
 | []=>some []
 |x::xs=>match f x,mG f xs with
  |some d,some ds=>some (d::ds)
  |_,_=>Option.none
def Aj(h:Hm):Nat->D->Option PyData
 |_,.dat d=>some d
 |_,.ktup xs=>some (.tuple xs)
 |n+1,.ref i=>match h[i]? with
  |some (.lst xs)=>(mG (Aj h n) xs).map .list
  |_=>Option.none
 |_,_=>Option.none
abbrev Gm(h:Hm)(x:D):Option PyData:=Aj h 3 x
@[simp] theorem Bx(h:Hm)(n:Nat)(d:PyData):Aj h n (.dat d)=some d:=by cases n<;>rfl
def listOf(x:D)(h:Hm):Option UJ:=match x with
 |.dat (.list ds)=>some ds
 |.ref i=>match h[i]? with
  |some (.lst ys)=>ic ys
  |_=>Option.none
 |_=>Option.none
noncomputable def fk(x y:D)(h:Hm):R D:=match x,y with
 |.dat (.int i),.dat (.int j)=>.ok (.int (i+j)) h
 |.dat (.str s),.dat (.str t)=>if mI (s.length+t.length)then .ok (.str (s++t)) h else .bad
 |.dat (.tuple xs),.dat (.tuple ys)=>if mI (xs.length+ys.length)then .ok (.dat (.tuple (xs++ys))) h else .bad
 |.dat (.list xs),.dat (.list ys)=>if mI (xs.length+ys.length)then .ok (.dat (.list (xs++ys))) h else .bad
 |_,_=>.bad
def Eu(x y:D)(h:Hm):R D:=match x,y with
 |.dat (.int i),.dat (.int j)=>.ok (.int (i-j)) h
 |_,_=>.bad
def By(i j:Int):Bool:=(decide (-(2^64)<i)&&decide (i<2^64)) || (decide (-(2^64)<j)&&decide (j<2^64))
noncomputable def nY(x y:D)(h:Hm):R D:=match x,y with
 |.dat (.int i),.dat (.int j)=>if By i j then .ok (.int (i*j)) h else .bad
 |.dat (.list xs),.dat (.int k)=>if mI (xs.length*k.toNat)&&decide (-(2^63)<=k)&&decide (k<2^63)then .ok (.dat (.list (List.replicate k.toNat xs).flatten)) h else .bad
 |_,_=>.bad
def oMod(x y:D)(h:Hm):R D:=match x,y with
 |.dat (.int i),.dat (.int j)=>if 0<j then .ok (.int (i % j)) h else .bad
 |_,_=>.bad
def vk(x y:D)(h:Hm):R D:=match x,y with
 |.dat (.int i),.dat (.int j)=>if 0<j/\j<1073741824 then .ok (.int (i / j)) h else .bad
 |_,_=>.bad
def OI(x:D)(h:Hm):R D:=match x with
 |.dat (.int i)=>.ok (.int (-i)) h
 |_=>.bad
def noDict(d:PyData):Bool:=!d.hasDict
def eqQ(d e:PyData):Option Bool:=if noDict d&&noDict e&&decide (min d.depth e.depth<=40)then some (PyData.eqv d e)else Option.none
def C2(d e:PyData):Option Bool:=match d,e with
 |.str _,.dict _=>some false
 |.tuple ds,.dict _=>if noDict (.tuple ds)then some false else Option.none
 |d,e=>eqQ d e
def oEq(x y:D)(h:Hm):R D:=match x,y with
 |.rpr s,.rpr t=>.ok (.bool (decide (s=t))) h
 |x,y=>match Gm h x,Gm h y with
  |some d,some e=>match eqQ d e with
   |some b=>.ok (.bool b) h
   |Option.none=>.bad
  |_,_=>.bad
def vm(x y:D)(h:Hm):R D:=match x,y with
 |.rpr s,.rpr t=>.ok (.bool (!decide (s=t))) h
 |x,y=>match Gm h x,Gm h y with
  |some d,some e=>match eqQ d e with
   |some b=>.ok (.bool !b) h
   |Option.none=>.bad
  |_,_=>.bad
def nu(x y:Str):Bool:=decide (x.cps.toList<y.cps.toList)
mutual
def bV:PyData->PyData->Option Bool
 |.int i,.int j=>some (decide (i<j))
 |.str x,.str y=>some (nu x y)
 |.tuple xs,.tuple ys=>cV xs ys
 |_,_=>Option.none
def cV:UJ->UJ->Option Bool
 | [],[]=>some false
 | [],_::_=>some true
 |_::_,[]=>some false
 |x::xs,y::ys=>if PyData.eqv x y then cV xs ys else bV x y
end
def oLt(x y:D)(h:Hm):R D:=match x,y with
 |.dat d,.dat e=>if noDict d&&noDict e&&decide (min d.depth e.depth<=40)then match bV d e with
  |some b=>.ok (.bool b) h
  |Option.none=>.bad
  else .bad
 |_,_=>.bad
def oLe(x y:D)(h:Hm):R D:=match x,y with
 |.dat (.int i),.dat (.int j)=>.ok (.bool (decide (i<=j))) h
 |.dat (.str s),.dat (.str t)=>.ok (.bool (!nu t s)) h
 |_,_=>.bad
def MC(x y:D)(h:Hm):R D:=match x,y with
 |.dat (.int i),.dat (.int j)=>.ok (.bool (decide (j<i))) h
 |_,_=>.bad
def MD(x y:D)(h:Hm):R D:=match x,y with
 |.dat (.int i),.dat (.int j)=>.ok (.bool (decide (j<=i))) h
 |_,_=>.bad
def Ew(x:PyData):UJ->Option Bool
 | []=>some false
 |y::ys=>match C2 y x,Ew x ys with
  |some a,some b=>some (a || b)
  |_,_=>Option.none
def gE:PyData->Bool
 |.tuple _=>true
 |_=>false
def gF:PyData->Bool
 |.str _=>true
 |_=>false
def nZ(k:PyData)(kvs:UG):Bool:=kvs.any λp=>PyData.eqv p.1 k
def iP(y:D)(h:Hm):Option (Bool×UG):=match y with
 |.iO t kvs=>some (t,kvs)
 |.ref i=>match h[i]? with
  |some (.iO t kvs)=>some (t,kvs)
  |_=>Option.none
 |_=>Option.none
mutual
def aG:PyData->Bool
 |.str _=>true
 |.tuple ds=>bq ds
 |_=>false
def bq:UJ->Bool
 | []=>true
 |d::ds=>aG d&&bq ds
end
def keyOk(t:Bool)(k:PyData):Bool:=if t then gE k&&aG k&&decide (k.depth<=8)else gF k
def wI(x:D)(kvs:UG)(t:Bool):Option Bool:=match x with
 |.dat d=>if keyOk t d then some (nZ d kvs)else Option.none
 |_=>Option.none
noncomputable def n0(x y:D)(h:Hm):Option Bool:=match y with
 |.dat (.str s)=>match x with
  |.dat (.str t)=>some (!(Builtin.Str.occurrences s t 0 s.length 1).isEmpty)
  |_=>Option.none
 |y=>match Gm h x,Gm h y with
  |some d,some (.tuple ds)=>Ew d ds
  |some d,some (.list ds)=>Ew d ds
  |_,_=>Option.none
def findIn(x y:D)(h:Hm):Option Bool:=match iP y h with
 |some p=>wI x p.2 p.1
 |Option.none=>n0 x y h
def nv(x y:D)(h:Hm):R D:=match findIn x y h with
 |some b=>.ok (.bool b) h
 |Option.none=>.bad
def rQ(x y:D)(h:Hm):R D:=match findIn x y h with
 |some b=>.ok (.bool !b) h
 |Option.none=>.bad
def mR:PyData->Bool
 |.none|.bool _|.int _|.str _=>true
 |_=>false
def dput(kvs:UG)(k v:PyData):UG:=
 if nZ k kvs then kvs.map (λp=>if PyData.eqv p.1 k then(p.1,v)else p)else kvs++[(k,v)]
def uI(kvs:UG)(k:PyData):Option PyData:=(kvs.find? λp=>PyData.eqv p.1 k).map (·.2)
def va(n:Nat)(i:Int):Option Nat:=if 0<=i then(if i<n then some i.toNat else Option.none)else if -(n:Int)<=i then some (i+n).toNat else Option.none
def nh{α:Type}(xs:List α)(i:Int):Option α:=(va xs.length i).bind λj=>xs[j]?
noncomputable def uJ(x y:D)(h:Hm):R D:=match y with
 |.dat (.int i)=>match x with
  |.dat (.tuple ds)=>match nh ds i with|some d=>.ok (.dat d) h|Option.none=>.bad
  |.dat (.list ds)=>match nh ds i with|some d=>.ok (.dat d) h|Option.none=>.bad
  |.ref j=>match h[j]? with
   |some (.lst xs)=>match nh xs i with|some d=>.ok d h|Option.none=>.bad
   |_=>.bad
  |.scr ns=>match nh ns i with|some n=>.ok (.int n) h|Option.none=>.bad
  |_=>.bad
 |_=>.bad
def cU(x y:D)(h:Hm):R D:=match iP x h with
 |some p=>match y with
  |.dat (.str k)=>if p.1 then .bad else match uI p.2 (.str k)with
   |some v=>.ok (.dat v) h
   |Option.none=>.bad
  |_=>.bad
 |Option.none=>uJ x y h
def fi(n d:Nat):Option Int->Nat
 |Option.none=>d
 |some v=>if v<0 then(v+(n:Int)).toNat else min v.toNat n
def cut{α:Type}(ds:List α)(lo hi:Option Int):List α:=(ds.drop (fi ds.length 0 lo)).take (fi ds.length ds.length hi-fi ds.length 0 lo)
abbrev IS:=Fm->Hm->R (Option Int)
def Bz:IS:=λ_ h=>.ok Option.none h
def mS(e:ME):IS:=λρ h=>(e ρ h).bind λx h1=>match x with
 |.dat (.int i)=>.ok (some i) h1
 |_=>.bad
def MF(x:D)(lo hi:Option Int)(h:Hm):R D:=match x with
 |.dat (.tuple ds)=>.ok (.dat (.tuple (cut ds lo hi))) h
 |.dat (.list ds)=>.ok (.dat (.list (cut ds lo hi))) h
 |_=>.bad
def Nz(e:ME)(lo hi:IS):ME:=λρ h=>(e ρ h).bind λx h1=>(lo ρ h1).bind λl h2=>(hi ρ h2).bind λu h3=>MF x l u h3
noncomputable def ig:Fn:=λxs h=>match xs with
 | [.dat (.str s)]=>if mI s.length then .ok (.int s.length) h else .bad
 | [.dat (.tuple ds)]=>.ok (.int ds.length) h
 | [.dat (.list ds)]=>.ok (.int ds.length) h
 | [.ref i]=>match h[i]? with
  |some (.lst ys)=>.ok (.int ys.length) h
  |_=>.bad
 | [.scr ns]=>.ok (.int ns.length) h
 |_=>.bad
def bools:UJ->Option (List Bool)
 | []=>some []
 |.bool b::ds=>(bools ds).map (b::·)
 |_=>Option.none
theorem C3(bs:List Bool):bools (bs.map .bool)=some bs:=by
 induction bs with
 |nil=>rfl
 |cons b bs ih=>simp[bools,ih]
def wJ:Fn:=λxs h=>match xs with
 | [.dat (.list ds)]=>match bools ds with
  |some bs=>.ok (.bool (bs.all id)) h
  |Option.none=>.bad
 |_=>.bad
def isTup:PyData->Bool|.tuple _=>true|_=>false
def isStr:PyData->Bool|.str _=>true|_=>false
def isInt:PyData->Bool|.int _|.bool _=>true|_=>false
def rR:PyData->Bool|.bool _=>true|_=>false
def ym(f:PyData->Bool):D->Hm->R D:=λx h=>match x with
 |.dat d=>.ok (.bool (f d)) h
 |_=>.bad
def ij(x:Str):UJ:=(List.range x.cps.size).map λ(i:Nat)=>.str ⟨#[x.cps.getD i 0]⟩
noncomputable def dF:Fn:=λxs h=>match xs with
 | [.dat (.tuple ds)]=>.ok (.dat (.tuple ds)) h
 | [.dat (.str s)]=>if mI s.cps.size then .ok (.dat (.tuple (ij s))) h else .bad
 | [x]=>match listOf x h with
  |some ds=>.ok (.dat (.tuple ds)) h
  |Option.none=>.bad
 |_=>.bad
def rS:Fn:=λxs h=>match xs with
 | [.dat (.tuple ds)]=>.ok (.dat (.list ds)) h
 | [x]=>match listOf x h with
  |some ds=>.ok (.dat (.list ds)) h
  |Option.none=>.bad
 |_=>.bad
def Ak(lt:PyData->PyData->Bool)(x:PyData):UJ->UJ
 | []=>[x]
 |y::ys=>if lt y x then y::Ak lt x ys else x::y::ys
def cD(lt:PyData->PyData->Bool):UJ->UJ
 | []=>[]
 |x::xs=>Ak lt x (cD lt xs)
def ltB(d e:PyData):Bool:=(bV d e).getD false
def n5:Fn:=λxs h=>match xs with
 | [.dat (.int i),.dat (.int j)]=>if 0<j/\j<1073741824 then .ok (.dat (.tuple [.int (i / j),.int (i % j)])) h else .bad
 |_=>.bad
def C4:Fn:=λxs h=>match xs with
 | [.dat (.int i),.dat (.int j)]=>.ok (.int (if j>i then j else i)) h
 |_=>.bad
def rT:Fn:=λxs h=>match xs with
 | [.dat (.int i)]=>.ok (.int i) h
 | [.dat (.bool b)]=>.ok (.int (if b then 1 else 0)) h
 |_=>.bad
def fZ(x y:D)(h:Hm):R D:=match x with
 |.ref i=>match h[i]? with
  |some (.lst xs)=>if decide (xs.length<16777216)then .ok D.none (h.set i (.lst (xs++[y])))else .bad
  |_=>.bad
 |_=>.bad
noncomputable def pE(x y:D)(h:Hm):R D:=match x,y with
 |.ref i,.dat (.int k)=>match h[i]? with
  |some (.lst xs)=>if 0<=k/\k<xs.length/\k<1000000 then match xs[k.toNat]? with
    |some d=>.ok d (h.set i (.lst (xs.eraseIdx k.toNat)))
    |Option.none=>.bad
   else .bad
  |_=>.bad
 |_,_=>.bad
def BA(x y v:D)(h:Hm):R Unit:=match x,y with
 |.ref i,.dat (.int k)=>match h[i]? with
  |some (.lst xs)=>match va xs.length k with
   |some j=>.ok () (h.set i (.lst (xs.set j v)))
   |Option.none=>.bad
  |_=>.bad
 |_,_=>.bad
def IT(i:Nat)(t:Bool)(kvs:UG)(y v:D)(h:Hm):R Unit:=match y,v with
 |.dat k,.dat d=>if keyOk t k&&(t || mR d)&&decide (kvs.length<16777216)then .ok () (h.set i (.iO t (dput kvs k d)))else .bad
 |_,_=>.bad
def wK(x y v:D)(h:Hm):R Unit:=match x with
 |.ref i=>match h[i]? with
  |some (.iO t kvs)=>IT i t kvs y v h
  |_=>BA x y v h
 |_=>.bad
def x8(eo ei:ME):MG:=λv ρ h=>(eo ρ h).bind λo h1=>(ei ρ h1).bind λi h2=>(wK o i v h2).bind λ_ h3=>.ok ρ h3
noncomputable def truth(x:D)(h:Hm):Option Bool:=match x with
 |.dat .none=>some false
 |.dat (.bool b)=>some b
 |.dat (.int i)=>some (i != 0)
 |.dat (.str s)=>if mI s.length then some ((s.length:Int) != 0)else Option.none
 |.dat (.tuple ds)=>some !ds.isEmpty
 |.dat (.list ds)=>some !ds.isEmpty
 |.ref i=>match h[i]? with
  |some (.lst xs)=>some !xs.isEmpty
  |_=>Option.none
 |_=>Option.none
def bz(e:ME):MT:=λρ h=>(e ρ h).bind λx h1=>match truth x h1 with
 |some b=>.ok b h1
 |Option.none=>.bad
mutual
def cX:PyData->Bool
 |.str x=>PyData.strOk x
 |.list xs|.tuple xs=>cE xs
 |_=>true
def cE:UJ->Bool
 | []=>true
 |x::xs=>cX x&&cE xs
end
mutual
theorem jk:∀{d:PyData},cX d=true->d.hasDict=false->d.canLay0=true
 |.none,_,_=>by rfl
 |.bool _,_,_=>by rfl
 |.int _,_,_=>by rfl
 |.str x,h,_=>by assumption
 |.tuple ds,h,k=>n6 h k
 |.list ds,h,k=>by simp[cX]at h;exact n6 h k
 |.dict _,_,k=>by trivial
theorem n6:∀{ds:UJ},cE ds=true->PyData.hasDictAll ds=false->PyData.canLayAll0 ds=true
 | [],_,_=>by rfl
 |d::ds,h,k=>by simp only[cE,QG]at h;simp only[PyData.hasDictAll,Bool.or_eq_false_iff]at k;simp only[PyData.canLayAll0,QG];exact⟨jk h.1 k.1,n6 h.2 k.2⟩
end
mutual
def aj:PyData->Bool
 |.int _|.str _=>true
 |.tuple ds=>ao ds
 |_=>false
def ao:UJ->Bool
 | []=>true
 |d::ds=>aj d&&ao ds
end
theorem aM:∀{ds:UJ} {d:PyData},ao ds=true->d∈ds->aj d=true
 |_::_,d,h,m=>by
  simp[ao]at h;rcases QK.mp m with rfl|m
  ·grind
  ·exact aM h.2 m
theorem iQ:∀{ds:UJ},(∀d∈ds,aj d=true)->ao ds=true
 | [],_=>by rfl
 |d::ds,h=>by simp[ao];exact⟨h d (by simp),iQ λe m=>h e (by simp[m])⟩
mutual
theorem kQ:∀{d e:PyData},aj d=true->aj e=true->(PyData.eqv d e=true<->d=e)
 |.int i,.int j,_,_=>by simp[PyData.eqv]
 |.str x,.str y,_,_=>by simp[PyData.eqv]
 |.tuple xs,.tuple ys,h,k=>by simp only[aj]at h k;simp only[PyData.eqv,PyData.tuple.injEq];exact vn h k
 |.int _,.str _,_,_=>by simp[PyData.eqv]
 |.int _,.tuple _,_,_=>by simp[PyData.eqv]
 |.str _,.int _,_,_=>by simp[PyData.eqv]
 |.str _,.tuple _,_,_=>by simp[PyData.eqv]
 |.tuple _,.int _,_,_=>by simp[PyData.eqv]
 |.tuple _,.str _,_,_=>by simp[PyData.eqv]
 |.none,_,h,_=>by simp[aj]at h
 |.bool _,_,h,_=>by simp[aj]at h
 |.list _,_,h,_=>by simp[aj]at h
 |.dict _,_,h,_=>by simp[aj]at h
 |.int _,.none,_,h=>by simp[aj]at h
 |.int _,.bool _,_,h=>by simp[aj]at h
 |.int _,.list _,_,h=>by simp[aj]at h
 |.int _,.dict _,_,h=>by simp[aj]at h
 |.str _,.none,_,h=>by simp[aj]at h
 |.str _,.bool _,_,h=>by simp[aj]at h
 |.str _,.list _,_,h=>by simp[aj]at h
 |.str _,.dict _,_,h=>by simp[aj]at h
 |.tuple _,.none,_,h=>by simp[aj]at h
 |.tuple _,.bool _,_,h=>by simp[aj]at h
 |.tuple _,.list _,_,h=>by simp[aj]at h
 |.tuple _,.dict _,_,h=>by simp[aj]at h
theorem vn:∀{xs ys:UJ},ao xs=true->ao ys=true->(PyData.eqvAll xs ys=true<->xs=ys)
 | [],[],_,_=>by simp[PyData.eqvAll]
 | [],_::_,_,_=>by simp[PyData.eqvAll]
 |_::_,[],_,_=>by simp[PyData.eqvAll]
 |x::xs,y::ys,h,k=>by simp only[ao,QG]at h k;simp only[PyData.eqvAll,QG,List.cons.injEq];rw[kQ h.1 k.1,vn h.2 k.2]
end
mutual
theorem cW:∀{d:PyData},aj d=true->d.hasDict=false
 |.int _,_=>rfl
 |.str _,_=>rfl
 |.tuple ds,h=>fo h
 |.none,h=>by rfl
 |.bool _,h=>by rfl
 |.list _,h=>by trivial
 |.dict _,h=>by trivial
theorem fo:∀{ds:UJ},ao ds=true->PyData.hasDictAll ds=false
 | [],_=>rfl
 |d::ds,h=>by simp only[ao,QG]at h;simp only[PyData.hasDictAll,Bool.or_eq_false_iff];exact⟨cW h.1,fo h.2⟩
end
theorem aU(h:aj d=true):PyData.eqv d d=true:=(kQ h h).mpr rfl
theorem aS(h:aj d=true)(k:aj e=true)(ne:d≠e):PyData.eqv d e=false:=by
 cases q:PyData.eqv d e with
 |false=>rfl
 |true=>exact absurd ((kQ h k).mp q) ne
theorem OJ{x y:Str}(h:x.cps.toList=y.cps.toList):x=y:=by
 obtain⟨⟨a⟩⟩:=x
 simp_all
theorem wG(x:Str):nu x x=false:=Rm (List.lt_irrefl _)
theorem Ai(h:nu x y=true)(h':nu y z=true):nu x z=true:=Rg (List.lt_trans (RZ h) (RZ h'))
theorem En(h:nu x y=true):nu y x=false:=Rm λz=>List.lt_irrefl _ (List.lt_trans (RZ h) z)
theorem Bt(h:nu x y=false)(h':nu y x=false):x=y:=
 OJ (List.le_antisymm (List.not_lt.mp (of_decide_eq_false h')) (List.not_lt.mp (of_decide_eq_false h)))
mutual
theorem Ex:∀{d e:PyData},aj d=true->aj e=true->bV d e=some true->bV e d=some false
 |.int i,.int j,_,_,h=>by grind[bV]
 |.str x,.str y,_,_,h=>by simp only[bV,Tb]at h ⊢;exact En h
 |.tuple xs,.tuple ys,h,k,q=>by simp only[aj]at h k;simp only[bV]at q ⊢;exact BB h k q
 |.int _,.str _,_,_,h=>by trivial
 |.int _,.tuple _,_,_,h=>by trivial
 |.str _,.int _,_,_,h=>by trivial
 |.str _,.tuple _,_,_,h=>by trivial
 |.tuple _,.int _,_,_,h=>by trivial
 |.tuple _,.str _,_,_,h=>by simp[bV]at h
 |.none,_,h,_,_=>by simp[aj]at h
 |.bool _,_,h,_,_=>by simp[aj]at h
 |.list _,_,h,_,_=>by simp[aj]at h
 |.dict _,_,h,_,_=>by simp[aj]at h
 |_,.none,_,h,_=>by simp[aj]at h
 |_,.bool _,_,h,_=>by simp[aj]at h
 |_,.list _,_,h,_=>by simp[aj]at h
 |_,.dict _,_,h,_=>by simp[aj]at h
theorem BB:∀{xs ys:UJ},ao xs=true->ao ys=true->cV xs ys=some true->cV ys xs=some false
 | [],[],_,_,h=>by simp[cV]at h
 | [],_::_,_,_,_=>by simp[cV]
 |_::_,[],_,_,h=>by simp[cV]at h
 |x::xs,y::ys,h,k,q=>by
  simp only[ao,QG]at h k;simp only[cV]at q ⊢;by_cases e:x=y
  ·subst e;rw[aU h.1,if_pos rfl]at q ⊢;exact BB h.2 k.2 q
  ·rw[aS h.1 k.1 e,if_neg (by simp)]at q;rw[aS k.1 h.1 (λz=>e z.symm),if_neg (by simp)];exact Ex h.1 k.1 q
end
mutual
theorem BC:∀{d e:PyData},aj d=true->aj e=true->bV d e=some false->bV e d=some false->d=e
 |.int i,.int j,_,_,h,h'=>by grind[bV]
 |.str x,.str y,_,_,h,h'=>by simp only[bV,Tb]at h h';rw[Bt h h']
 |.tuple xs,.tuple ys,h,k,q,q'=>by simp only[aj]at h k;simp only[bV]at q q';rw[yn h k q q']
 |.int _,.str _,_,_,h,_=>by trivial
 |.int _,.tuple _,_,_,h,_=>by trivial
 |.str _,.int _,_,_,h,_=>by trivial
 |.str _,.tuple _,_,_,h,_=>by trivial
 |.tuple _,.int _,_,_,h,_=>by simp[bV]at h
 |.tuple _,.str _,_,_,h,_=>by simp[bV]at h
 |.none,_,h,_,_,_=>by simp[aj]at h
 |.bool _,_,h,_,_,_=>by simp[aj]at h
 |.list _,_,h,_,_,_=>by simp[aj]at h
 |.dict _,_,h,_,_,_=>by simp[aj]at h
 |_,.none,_,h,_,_=>by simp[aj]at h
 |_,.bool _,_,h,_,_=>by simp[aj]at h
 |_,.list _,_,h,_,_=>by simp[aj]at h
 |_,.dict _,_,h,_,_=>by simp[aj]at h
theorem yn:∀{xs ys:UJ},ao xs=true->ao ys=true->cV xs ys=some false->cV ys xs=some false->xs=ys
 | [],[],_,_,_,_=>rfl
 | [],_::_,_,_,h,_=>by simp[cV]at h
 |_::_,[],_,_,_,h=>by simp[cV]at h
 |x::xs,y::ys,h,k,q,q'=>by
  simp only[ao,QG]at h k;simp only[cV]at q q';by_cases e:x=y
  ·subst e;rw[aU h.1,if_pos rfl]at q q';rw[yn h.2 k.2 q q']
  ·rw[aS h.1 k.1 e,if_neg (by simp)]at q;rw[aS k.1 h.1 (λz=>e z.symm),if_neg (by simp)]at q';exact absurd (BC h.1 k.1 q q') e
end
mutual
theorem BD:∀{d:PyData},aj d=true->bV d d=some false
 |.int i,_=>by simp[bV]
 |.str x,_=>by simp[bV,wG]
 |.tuple xs,h=>yo h
 |.none,h=>by trivial
 |.bool _,h=>by trivial
 |.list _,h=>by trivial
 |.dict _,h=>by trivial
theorem yo:∀{xs:UJ},ao xs=true->cV xs xs=some false
 | [],_=>by rfl
 |x::xs,h=>by simp only[ao,QG]at h;simp only[cV];rw[aU h.1,if_pos rfl];exact yo h.2
end
mutual
theorem Ey:∀{d e f:PyData},aj d=true->aj e=true->aj f=true->bV d e=some true->bV e f=some true->bV d f=some true
 |.int i,.int j,.int k,_,_,_,h,h'=>by grind[bV]
 |.str x,.str y,.str z,_,_,_,h,h'=>by simp only[bV,Tb]at h h' ⊢;exact Ai h h'
 |.tuple xs,.tuple ys,.tuple zs,h,k,l,q,q'=>by simp only[aj]at h k l;simp only[bV]at q q' ⊢;exact BE h k l q q'
 |.none,_,_,h,_,_,_,_=>by simp[aj]at h
 |.bool _,_,_,h,_,_,_,_=>by simp[aj]at h
 |.list _,_,_,h,_,_,_,_=>by simp[aj]at h
 |.dict _,_,_,h,_,_,_,_=>by simp[aj]at h
 |.int _,.none,_,_,_,_,h,_=>by simp[bV]at h
 |.int _,.bool _,_,_,_,_,h,_=>by simp[bV]at h
 |.int _,.str _,_,_,_,_,h,_=>by simp[bV]at h
 |.int _,.list _,_,_,_,_,h,_=>by simp[bV]at h
 |.int _,.tuple _,_,_,_,_,h,_=>by simp[bV]at h
 |.int _,.dict _,_,_,_,_,h,_=>by simp[bV]at h
 |.str _,.none,_,_,_,_,h,_=>by simp[bV]at h
 |.str _,.bool _,_,_,_,_,h,_=>by simp[bV]at h
 |.str _,.int _,_,_,_,_,h,_=>by simp[bV]at h
 |.str _,.list _,_,_,_,_,h,_=>by simp[bV]at h
 |.str _,.tuple _,_,_,_,_,h,_=>by simp[bV]at h
 |.str _,.dict _,_,_,_,_,h,_=>by simp[bV]at h
 |.tuple _,.none,_,_,_,_,h,_=>by simp[bV]at h
 |.tuple _,.bool _,_,_,_,_,h,_=>by simp[bV]at h
 |.tuple _,.int _,_,_,_,_,h,_=>by simp[bV]at h
 |.tuple _,.list _,_,_,_,_,h,_=>by simp[bV]at h
 |.tuple _,.str _,_,_,_,_,h,_=>by simp[bV]at h
 |.tuple _,.dict _,_,_,_,_,h,_=>by simp[bV]at h
 |.int _,.int _,.none,_,_,_,_,h=>by simp[bV]at h
 |.int _,.int _,.bool _,_,_,_,_,h=>by simp[bV]at h
 |.int _,.int _,.str _,_,_,_,_,h=>by simp[bV]at h
 |.int _,.int _,.list _,_,_,_,_,h=>by simp[bV]at h
 |.int _,.int _,.tuple _,_,_,_,_,h=>by simp[bV]at h
 |.int _,.int _,.dict _,_,_,_,_,h=>by simp[bV]at h
 |.str _,.str _,.none,_,_,_,_,h=>by simp[bV]at h
 |.str _,.str _,.bool _,_,_,_,_,h=>by simp[bV]at h
 |.str _,.str _,.int _,_,_,_,_,h=>by simp[bV]at h
 |.str _,.str _,.list _,_,_,_,_,h=>by simp[bV]at h
 |.str _,.str _,.tuple _,_,_,_,_,h=>by simp[bV]at h
 |.str _,.str _,.dict _,_,_,_,_,h=>by simp[bV]at h
 |.tuple _,.tuple _,.none,_,_,_,_,h=>by simp[bV]at h
 |.tuple _,.tuple _,.bool _,_,_,_,_,h=>by simp[bV]at h
 |.tuple _,.tuple _,.int _,_,_,_,_,h=>by simp[bV]at h
 |.tuple _,.tuple _,.list _,_,_,_,_,h=>by simp[bV]at h
 |.tuple _,.tuple _,.str _,_,_,_,_,h=>by simp[bV]at h
 |.tuple _,.tuple _,.dict _,_,_,_,_,h=>by simp[bV]at h
theorem BE:∀{xs ys zs:UJ},ao xs=true->ao ys=true->ao zs=true->cV xs ys=some true->cV ys zs=some true->cV xs zs=some true
 | [],[],_,_,_,_,h,_=>by simp[cV]at h
 | [],_::_,[],_,_,_,_,h=>by simp[cV]at h
 | [],_::_,_::_,_,_,_,_,_=>by simp[cV]
 |_::_,[],_,_,_,_,h,_=>by simp[cV]at h
 |_::_,_::_,[],_,_,_,_,h=>by simp[cV]at h
 |x::xs,y::ys,z::zs,h,k,l,q,q'=>by
  simp only[ao,QG]at h k l;simp only[cV]at q q' ⊢;by_cases e1:x=y
  ·subst e1;rw[aU h.1,if_pos rfl]at q;by_cases e2:x=z
   ·subst e2;rw[aU h.1,if_pos rfl]at q' ⊢;exact BE h.2 k.2 l.2 q q'
   ·rw[aS h.1 l.1 e2,if_neg (by simp)]at q' ⊢;exact q'
  ·rw[aS h.1 k.1 e1,if_neg (by simp)]at q;by_cases e2:y=z
   ·subst e2;rw[aS h.1 k.1 e1,if_neg (by simp)];exact q
   ·rw[aS k.1 l.1 e2,if_neg (by simp)]at q';have q3:=Ey h.1 k.1 l.1 q q';by_cases e3:x=z
    ·subst e3;rw[BD h.1]at q3;cases q3
    ·rw[aS h.1 l.1 e3,if_neg (by simp)];exact q3
end
def dG(ds:UJ):Bool:=ds.all λa=>ds.all λb=>(bV a b).isSome
theorem fb(h:dG ds=true)(ha:a∈ds)(hb:b∈ds):bV a b=some (ltB a b):=by
 have:=QX.mp (QX.mp h a ha) b hb;unfold ltB
 cases q:bV a b with
 |none=>grind
 |some k=>rfl
def ik:PyData->Bool|.tuple _=>true|_=>false
def rV:PyData->Bool|.str _=>true|_=>false
def cY(ds:UJ):Bool:=(ds.all rV || ds.all ik)&&ao ds&&dG ds&&decide (PyData.depthAll ds<=20)&&decide (ds.length<64)
def gN:Fn:=λxs h=>match xs with
 | [x]=>match listOf x h with
  |some ds=>if cY ds then .ok (.dat (.list (cD ltB ds))) h else .bad
  |Option.none=>.bad
 |_=>.bad
theorem rW(c:dG ds=true)(t:ao ds=true)(ha:a∈ds)(hb:b∈ds)(h:ltB a b=true):ltB b a=false:=by have h1:=fb c ha hb;rw[h]at h1;unfold ltB;rw[Ex (aM t ha) (aM t hb) h1];rfl
theorem n8(c:dG ds=true)(t:ao ds=true)(ha:a∈ds)(hb:b∈ds)(h:ltB b a=false):ltB a b=true\/a=b:=by
 cases q:ltB a b with
 |true=>grind
 |false=>have h1:=fb c ha hb;have h2:=fb c hb ha;rw[q]at h1;rw[h]at h2;exact .inr (BC (aM t ha) (aM t hb) h1 h2)
theorem BF(c:dG ds=true)(t:ao ds=true)(ha:a∈ds)(hb:b∈ds)(hd:d∈ds)(h:ltB b a=false)(h':ltB d b=false):ltB d a=false:=by
 rcases n8 c t ha hb h with h1|rfl
 ·rcases n8 c t hb hd h' with h2|rfl
  ·have q1:=fb c ha hb;have q2:=fb c hb hd;rw[h1]at q1;rw[h2]at q2;have q3:=Ey (aM t ha) (aM t hb) (aM t hd) q1 q2;exact rW c t ha hd (by simp_all[ltB])
  grind
 grind
theorem pF(lt:PyData->PyData->Bool)(x:PyData):∀ys:UJ,(Ak lt x ys).Perm (x::ys)
 | []=>.refl _
 |y::ys=>by
  unfold Ak;split
  ·exact((pF lt x ys).cons y).trans (.swap x y ys)
  rfl
theorem bN(lt:PyData->PyData->Bool):∀xs:UJ,(cD lt xs).Perm xs
 | []=>.refl _
 |x::xs=>(pF lt x _).trans ((bN lt xs).cons x)
def Up(lt:PyData->PyData->Bool)(xs:UJ):Prop:=xs.Pairwise λa b=>lt b a=false
structure Ord(lt:PyData->PyData->Bool)(ds:UJ):Prop where
 as:∀{a b},a∈ds->b∈ds->lt a b=true->lt b a=false
 ntr:∀{a b d},a∈ds->b∈ds->d∈ds->lt b a=false->lt d b=false->lt d a=false
 tot:∀{a b},a∈ds->b∈ds->lt a b=false->lt b a=false->a=b
theorem Ord.sub(o:Ord lt ds)(h:∀e∈es,e∈ds):Ord lt es:=
 ⟨λa b=>o.as (h _ a) (h _ b),λa b d=>o.ntr (h _ a) (h _ b) (h _ d),λa b=>o.tot (h _ a) (h _ b)⟩
theorem BG:∀{ys:UJ},Ord lt (x::ys)->Up lt ys->Up lt (Ak lt x ys)
 | [],_,_=>by simp[Ak,Up]
 |y::ys,o,u=>by
  unfold Ak;unfold Up at u;rw[Rt]at u;split
  ·rename_i h;refine Rt.mpr ⟨λb hb=>?_,BG (o.sub λe m=>by grind) u.2⟩;rcases QK.mp ((pF lt x ys).mem_iff.mp hb)with rfl|hb
   ·exact o.as (by simp) (by simp) h
   grind
  ·have h':lt y x=false:=by grind
   refine Rt.mpr ⟨λb hb=>?_,Rt.mpr u⟩;rcases QK.mp hb with rfl|hb
   ·exact h'
   ·exact o.ntr (by simp) (by simp) (by grind) h' (u.1 b hb)
theorem rX:∀{xs:UJ},Ord lt xs->Up lt (cD lt xs)
 | [],_=>by simp[cD,Up]
 |x::xs,o=>BG (o.sub λe m=>by
     rcases QK.mp m with rfl|m
     ·simp
     ·simp[(bN lt xs).mem_iff.mp m]) (rX (o.sub λe m=>by simp[m]))
theorem pG:∀{xs ys:UJ},Ord lt xs->xs.Perm ys->Up lt xs->Up lt ys->xs=ys
 | [],ys,_,p,_,_=>by simp_all
 |x::xs,ys,o,p,u,v=>by
  cases ys with
  |nil=>simp_all
  |cons y ys=>
   have hx:x∈y::ys:=p.mem_iff.mp (by simp);have hy:y∈x::xs:=p.mem_iff.mpr (by simp)
   have e:x=y:=by
    rcases QK.mp hx with e|hx
    ·exact e
    rcases QK.mp hy with e|hy
    ·grind
    exact o.tot (by simp) (by omega) ((Rt.mp v).1 x hx) ((Rt.mp u).1 y hy)
   subst e;rw[pG (o.sub λe m=>by simp[m]) (List.perm_cons x |>.mp p) (Rt.mp u).2 (Rt.mp v).2]
theorem gZ(c:dG ds=true)(t:ao ds=true):Ord ltB ds where
 as:=λa b=>rW c t a b
 ntr:=λa b d=>BF c t a b d
 tot:=λ{a b} ha hb h h'=>by
  rcases n8 c t ha hb h' with q|q
  ·grind
  grind
theorem yp(c:dG ds=true)(t:ao ds=true)(p:es.Perm ds)(u:Up ltB es):es=cD ltB ds:=
 pG ((gZ c t).sub λe m=>p.mem_iff.mp m) (p.trans (bN ltB ds).symm) u (rX (gZ c t))
end Ml
namespace Ml
open PySem PySem.Spec L2
open Sem (wp)
mutual
theorem aV:∀{d:PyData},aG d=true->aj d=true
 |.str _,_=>by rfl
 |.tuple ds,h=>by simp[aG]at h;exact n9 h
 |.none,h=>by assumption
 |.bool _,h=>by assumption
 |.int _,h=>by rfl
 |.list _,h=>by assumption
 |.dict _,h=>by assumption
theorem n9:∀{ds:UJ},bq ds=true->ao ds=true
 | [],_=>by rfl
 |d::ds,h=>by simp only[bq,QG]at h;simp only[ao,QG];exact⟨aV h.1,n9 h.2⟩
end
mutual
def qg(w:World):PyData->Int
 |.str x=>hashStr w x
 |.tuple ds=>reduceHash (Builtin.Tuple.tupleHashOf (gG w ds))
 |_=>0
def gG(w:World):UJ->List Int
 | []=>[]
 |d::ds=>qg w d::gG w ds
end
mutual
def ny:PyData->Nat
 |.str _=>1
 |.tuple ds=>og ds+1
 |_=>0
def og:UJ->Nat
 | []=>0
 |d::ds=>ny d+og ds
end
mutual
theorem jF(k:∀b o vs n,h.get? b=some o->o.cls=.type "tuple" -> o.data=.seq vs n->h'.get? b=some o):∀{d:PyData} {v:Value} {as:UK},aG d=true->Reads h v d as->Reads h' v d as
 |.str _,_,_,_,.str x t=>.str x t
 |.tuple ds,_,_,t,.tuple h1 h2 h3 h4=>.tuple (k _ _ _ _ h1 h2 h3) h2 h3 (oh k t h4)
 |.none,_,_,t,_=>by trivial
 |.bool _,_,_,t,_=>by trivial
 |.int _,_,_,t,_=>by trivial
 |.list _,_,_,t,_=>by trivial
 |.dict _,_,_,t,_=>by trivial
theorem oh{h h':Heap}(k:∀b o vs n,h.get? b=some o->o.cls=.type "tuple" -> o.data=.seq vs n->h'.get? b=some o):∀{ds:UJ} {vs:UL} {as:UK},bq ds=true->ReadsAll h vs ds as->ReadsAll h' vs ds as
 | [],_,_,_,.nil=>.nil
 |d::ds,_,_,t,.cons r1 r2=>by simp only[bq,QG]at t;exact .cons (jF k t.1 r1) (oh k t.2 r2)
end
section
variable {P:UT} {w:World}
mutual
theorem nA:∀(d:PyData) (A:UW) (s:UX) (v:Value) (as:UK) (Q:Int->UX->Prop) (E:UD),aG d=true->Reads s.heap v d as->A.units+d.depth<cLine->Q (qg w d) {s with toks:=s.toks+ny d}->wpAny (model P w) A (pyHash v) Q E s
 |.str x,A,s,v,as,Q,E,_,r,hu,h=>by cases r;simp only[qg,ny]at h;exact wpAny_pyHash_str h
 |.tuple ds,A,s,v,as,Q,E,t,r,hu,h=>by
  cases r with
  |tuple ho hc hd hi=>
   rename_i a o items n;have hT:s.TypeIs (.ref a) "tuple" := ⟨o,ho,hc⟩;simp only[aG]at t;simp only[PyData.depth]at hu;simp only[qg,ny]at h;unfold pyHash
   first|unfold pyHashByItsType|skip
   first|refine QA (wpAny_cRoomFor_or (.inr (by omega)) ?_)|skip
   refine QA (SI hT Tc.lookup ?_);show wpAny _ _ (if(some (Value.builtin "tuple.__hash__")==some Value.none)=true then _ else _) Q E s;rw[if_neg (by rw[beq_builtin_none];exact Q5)];refine QA (SI hT Tc.lookup ?_);show wpAny _ _ (callSpecialIfBoundUnlessNone? (.ref a) "__hash__" _ >>= _) Q E s;refine QA (wpAny_callSpecialIfBoundUnlessNone?_slot hT Tc (Q7 Tc hT F.entry_tuple_hash ?_ (F.args_tuple_hash_1 _)));show wpAny _ _ (Builtin.Tuple.tupleItemsOf (.ref a) >>= _) _ _ s;refine QA (wpAny_tupleItemsOf ho hd ?_);refine QA ?_;rw[<- Sw];refine oj ds A.in1 s items.toList _ #[] _ _ _ t hi (by show A.units+1+_<_;omega) ?_ ?_
   ·intro x b s' R k
    first
     |exact QA (RO k (λc s2 q=>QB q) λ_ _ z=>z)
     |exact QA (RO k (λc s2 q=>QA (QB (QB q))) λ_ _ z=>z)
   ·show wpAny _ _ (retInt (Builtin.Tuple.tupleHashOf (#[]++(gG w ds).toArray).toList)) _ _ _;have e1:(#[]++(gG w ds).toArray).toList=gG w ds:=by simp
    rw[e1];refine wpAny_ret_mkInt ?_;show wpAny _ _ (if(decide (-(2:Int)^63<=Builtin.Tuple.tupleHashOf (gG w ds))&&decide (Builtin.Tuple.tupleHashOf (gG w ds)<2^63))=true then _ else _) Q E _;unfold reduceHash at h;by_cases hr:(decide (-(2:Int)^63<=Builtin.Tuple.tupleHashOf (gG w ds))&&decide (Builtin.Tuple.tupleHashOf (gG w ds)<2^63))=true
    ·rw[if_pos hr];rw[if_pos hr]at h;exact QB (by simpa [Nat.add_assoc]using h)
    ·rw[if_neg hr];rw[if_neg hr]at h;exact QA (Sh (QB (by simpa [Nat.add_assoc]using h)))
 |.none,_,_,_,_,_,_,t,_,_,_=>by simp[aG]at t
 |.bool _,_,_,_,_,_,_,t,_,_,_=>by simp[aG]at t
 |.int _,_,_,_,_,_,_,t,_,_,_=>by simp[aG]at t
 |.list _,_,_,_,_,_,_,t,_,_,_=>by simp[aG]at t
 |.dict _,_,_,_,_,_,_,t,_,_,_=>by simp[aG]at t
theorem oj:∀(ds:UJ) (A:UW) (s:UX) (vs:UL) (as:UK) (acc:Array Int) (R:Array Int->UX->Prop) (E':UD) (body:Value->Array Int->Sem (ForInStep (Array Int))),bq ds=true->ReadsAll s.heap vs ds as->A.units+PyData.depthAll ds<cLine ->
  (∀(x:Value) (b:Array Int) (s':UX) (R':ForInStep (Array Int)->UX->Prop),wpAny (model P w) A (pyHash x) (λc s2=>R' (.yield (b.push c)) s2) E' s'->wpAny (model P w) A (body x b) R' E' s') ->
  R (acc++(gG w ds).toArray) {s with toks:=s.toks+og ds}->wpAny (model P w) A (forIn vs acc body) R E' s
 | [],A,s,_,_,acc,R,E',body,_,.nil,_,hb,h=>by rw[Ti];simp only[gG,og]at h;exact QB (by simpa using h)
 |d::ds,A,s,_,_,acc,R,E',body,t,.cons r1 r2,hu,hb,h=>by simp only[bq,QG]at t;simp only[PyData.depthAll]at hu;rw[R5];refine QA (hb _ _ _ _ ?_);refine nA d A s _ _ _ E' t.1 r1 (by omega) ?_;refine oj ds A _ _ _ (acc.push (qg w d)) R E' body t.2 r2 (by omega) hb ?_;simp only[gG,og]at h;simpa [Nat.add_assoc]using h
end
mutual
theorem iR:∀(d:PyData) (n:Nat) (A:UW) (s:UX) (v:Value) (as:UK) (Q:Bool->UX->Prop) (E:UD),aG d=true->d.depth<=n->Reads s.heap v d as->Q true s->wpAny (model P w) A (eqIsQuiet n v) Q E s
 |.str x,n,A,s,v,as,Q,E,_,_,r,h=>by cases r;rw[eqIsQuiet_byValue n rfl];exact QB h
 |.tuple ds,n,A,s,v,as,Q,E,t,hn,r,h=>by
  cases r with
  |tuple ho hc hd hi=>
   rename_i a o items k;have hT:s.TypeIs (.ref a) "tuple" := ⟨o,ho,hc⟩;simp only[aG]at t;simp only[PyData.depth]at hn;obtain⟨m,rfl⟩:∃m,n=m+1:=⟨n-1,by omega⟩;unfold eqIsQuiet;refine QA (SI hT Uk.lookup ?_);show wpAny _ _ (isInstance (.ref a) (.type "tuple") >>= _) _ _ s;refine QA (SV hT isSubtype_tuple_tuple ?_);simp only[SR,QO,Rx];refine QA (RJ ho hd ?_);refine QA ?_;show wpAny _ _ (forIn items _ _) _ _ s;rw[<- Sw];refine om ds m A s items.toList _ _ E _ t (by omega) hi ?_ ?_
   ·intro x s' R k;refine QA (RO k (λc s2 q=>?_) λ_ _ z=>z);obtain⟨rfl,q⟩:=q;simp only[SR,QO,Rx];exact QB q
   ·exact QB h
 |.none,_,_,_,_,_,_,_,t,_,_,_=>by simp[aG]at t
 |.bool _,_,_,_,_,_,_,_,t,_,_,_=>by simp[aG]at t
 |.int _,_,_,_,_,_,_,_,t,_,_,_=>by simp[aG]at t
 |.list _,_,_,_,_,_,_,_,t,_,_,_=>by simp[aG]at t
 |.dict _,_,_,_,_,_,_,_,t,_,_,_=>by simp[aG]at t
theorem om:∀(ds:UJ) (n:Nat) (A:UW) (s:UX) (vs:UL) (as:UK) (R:Option Bool×Unit->UX->Prop) (E:UD) (body:Value->Option Bool×Unit->Sem (ForInStep (Option Bool×Unit))),bq ds=true->PyData.depthAll ds<=n->ReadsAll s.heap vs ds as ->
  (∀(x:Value) (s':UX) (R':ForInStep (Option Bool×Unit)->UX->Prop),wpAny (model P w) A (eqIsQuiet n x) (λc s2=>c=true/\R' (.yield (none,())) s2) E s'->wpAny (model P w) A (body x (none,())) R' E s') ->
  R (none,()) s->wpAny (model P w) A (forIn vs (none,()) body) R E s
 | [],n,A,s,_,_,R,E,body,_,_,.nil,hb,h=>by rw[Ti];exact QB h
 |d::ds,n,A,s,_,_,R,E,body,t,hn,.cons r1 r2,hb,h=>by simp only[bq,QG]at t;simp only[PyData.depthAll]at hn;rw[R5];refine QA (hb _ _ _ (iR d n A s _ _ _ E t.1 (by omega) r1 ⟨rfl,?_⟩));exact om ds n A s _ _ R E body t.2 (by omega) r2 hb h
end
end
def Ku(h:Heap)(d:PyData)(a:Addr):Prop:=aG d=true/\d.depth<=8/\cX d=true/\∃as,Reads h (.ref a) d as
noncomputable instance PL:DecidableEq PyData:=λa b=>Classical.propDecidable (a=b)
noncomputable def eT(P:UT)(w:World):HeapKind P w PyData where
 is:=Ku
 hash:=qg w
 draws:=ny
 room:=λA=>A.units+20<cLine
 inj:=λ{h a x y} ⟨_,_,_,as,hx⟩ ⟨_,_,_,bs,hy⟩=>(Uq hx _ _ hy).1
 keeps:=λ{h h' k a d o es ep} ⟨t,dp,so,as,r⟩ ho hd hs=>⟨t,dp,so,as,jF (λb ob vs n e c dd=>by
  have ne:b≠d:=λz=>by subst z;rw[ho]at e;cases e;rw[hd]at dd;cases dd
  exact(hs.2 b ne).trans e) t r⟩
 pyHash:=λ{A E s k a Q} hu ⟨t,dp,_,as,r⟩ h=>nA k A s _ as Q E t r (by omega) h
 eqBool:=λ{A E s x y a b Q} hu ⟨t1,d1,s1,as,r1⟩ ⟨t2,d2,s2,bs,r2⟩ h=>by
  have hq:PyData.eqv x y=decide (x=y):=by
   by_cases e:x=y
   ·subst e;rw[Rg rfl];exact aU (aV t1)
   ·rw[Rm e];exact aS (aV t1) (aV t2) e
  have:=Ub x y A s _ _ _ _ r1 r2 (jk s1 (cW (aV t1))) (jk s2 (cW (aV t2))) (by omega) P w E Q;rw[hq]at this;exact this h
 quiet:=λ{A E s k a Q} ⟨t,dp,_,as,r⟩ h=>iR k 8 A s _ as Q E t dp r h
def dO(P:UT)(w:World)(xs:List (PyData×Addr×Value))(a:Addr):HO:=.ext λh=>xs.length<=sizeLine/\(a==sysModules)=false/\∃o es ep,h.get? a=some o/\o.ExactDict/\o.data=.dict es ep/\es.toList=xs.map (entryOfKey (eT P w))/\(xs.map (·.1)).Nodup
theorem IU(h1:xs.length<=sizeLine)(h2:(a==sysModules)=false)(h3:h.get? a=some o)(h4:o.ExactDict)(h5:o.data=.dict es ep)(h6:es.toList=xs.map (entryOfKey (eT P w)))(h7:(xs.map (·.1)).Nodup):cC P w H h a (dO P w xs a):=
 ⟨⟨h1,h2,o,es,ep,h3,h4,h5,h6,h7⟩,⟨o,h3⟩,λg1 g2 ⟨k1,k2,o',es',ep',k3,k4⟩ hk=>⟨k1,k2,o',es',ep',hk _ k3,k4⟩⟩
end Ml
namespace Ml
open PySem PySem.Spec L2
def view(θ:UK)(H:Hp):Hp:=λa=>if a∈θ then none else H a
theorem du(h:view θ H a=some o):a∉θ/\H a=some o:=by
 simp_all[view]
theorem ee(h:a∉θ):view θ H a=H a:=if_neg h
theorem ax(θ:UK)(H:Hp):bG (view θ H) H:=λa o h=>(du h).2
def oq(M:Hp)(p:PyData×PyData)(q:PyData×Addr×Value):Prop:=p.1=q.1/\aG p.1=true/\p.1.depth<=8/\cX p.1=true/\Rep M p.1 (.ref q.2.1)/\∃v,RelV v q.2.2/\Rep M p.2 v/\cX p.2=true
def fR(P:UT)(w:World)(M G:Hp)(a:Addr)(t:Bool)(kvs:UG):Prop:=
 (t=false/\∃ks,G a=some (.dK ks)/\aR ks=some kvs/\∀p∈kvs,cX p.1=true/\cX p.2=true)\/(t=true/\∃xs,G a=some (dO P w xs a)/\Paired (oq M) kvs xs)
structure Gx where
 P:UT
 w:World
 mg:Str->Option Value
 K:UM
def Kv:PyData->V
 |.int i=>.int i
 |.str x=>.str x
 |.bool b=>.bl b
 |_=>.non
noncomputable def Ez(K:UM)(a:Addr)(xs:UJ):Prop:=(∃(o:Obj) (its:UR) (n:Nat),K.lookup a=some o/\o.cls=.type "tuple" /\ o.data=.seq its n/\its.size<=sizeLine/\Vals (xs.map Kv) its.toList)/\(∀x∈xs,(match x with|.int _|.str _|.bool _|.none=>true|_=>false)=true)/\cE xs=true
def MH(G:Gx)(x:Xc)(cls:Value)(da:Option Addr)(M:Hp):Prop:=G.mg x.cls=some cls/\da=none/\x.args=[]
noncomputable def bR(G:Gx)(θ:UK)(H:Hp):D->V->Prop
 |.dat d,v=>Rep (view θ H) d v/\cX d=true
 |.ref i,v=>∃a,θ[i]?=some a/\v=.ref a
 |.iO t kvs,v=>∃a,v=.ref a/\fR G.P G.w (view θ H) (view θ H) a t kvs
 |.set _,_=>False
 |.fn n,v=>∃f,G.mg n=some (.ref f)/\v=.ref f
 |.scr ns,v=>∃a,v=.ref a/\jz G.K (view θ H) a (ns.map V.int)
 |.ktup xs,v=>∃a,v=.ref a/\Ez G.K a xs
 |.rpr x,v=>v=.str x
 |.exc x,v=>∃a cls,v=.ref a/\view θ H a=some (.ext (G7 a cls))/\MH G x cls none (view θ H)
abbrev aO(G:Gx)(θ:UK)(H:Hp):List D->List V->Prop:=Paired (bR G θ H)
def TabAt(θ:UK)(H:Hp)(P:Addr)(q:Str):Prop:=∃ps:UR,H P=some (.tbl ps)/\TriplesOk ps.toList/\∀(pos:Pos) (c:Value),codeAmong pos ps.toList=some c->∃b,c=.ref b/\b≠P/\view θ H b=some (.ext (recAt b q))
theorem TabAt.same(s:bG (view θ H) (view θ' H'))(e:∀o,H P=some o->H' P=some o)(x:TabAt θ H P q):TabAt θ' H' P q:=by obtain⟨ps,h1,h2,h3⟩:=x;exact⟨ps,e _ h1,h2,λpos c k=>let ⟨b,k1,k2,k3⟩:=h3 pos c k;⟨b,k1,k2,s _ _ k3⟩⟩
def Al(G:Gx)(θ:UK)(H:Hp)(a:Addr):MO->Prop
 |.lst xs=>∃vs,H a=some (.lst vs)/\aO G θ H xs vs
 |.iO t kvs=>fR G.P G.w (view θ H) H a t kvs
 |.ins _ _=>False
 |.tab P q=>a=P/\TabAt θ H P q
structure W(G:Gx)(θ:UK)(h:Hm)(H:Hp):Prop where
 len:θ.length=h.length
 nd:θ.Nodup
 obj:∀(i:Nat) (a:Addr) (o:MO),θ[i]?=some a->h[i]?=some o->Al G θ H a o
def Fr(G:Gx)(θ:UK)(H:Hp)(ρ:Fm)(σ:St):Prop:=ρ.length=σ.length/\∀(i:Nat) (d:D),ρ[i]?=some (some d)->∃v,σ[i]?=some (some v)/\bR G θ H d v
structure Ev(θ:UK)(H:Hp)(θ':UK)(H':Hp):Prop where
 pre:∃ext,θ'=θ++ext
 same:bG (view θ H) (view θ' H')
section
variable {G:Gx} {θ θ' θ'':UK} {H H' H'':Hp} {h h':Hm} {d:D} {v:V} {ρ:Fm} {σ:St}
theorem Ev.refl:Ev θ H θ H:=⟨⟨[],by simp⟩,bG.refl _⟩
theorem Ev.trans(a:Ev θ H θ' H')(b:Ev θ' H' θ'' H''):Ev θ H θ'' H'':=by obtain⟨e1,rfl⟩:=a.pre;obtain⟨e2,rfl⟩:=b.pre;exact⟨⟨e1++e2,by simp⟩,a.same.trans b.same⟩
theorem Ev.get(a:Ev θ H θ' H'){i:Nat}{x:Addr}(e:θ[i]?=some x):θ'[i]?=some x:=by obtain⟨ext,rfl⟩:=a.pre;rw[Q8 (by have:=QV.mp e;exact this.1)];exact e
theorem oq.same(s:bG M M')(h:oq M p q):oq M' p q:=by obtain⟨h1,h2,h3,h4,h5,v,h6,h7,h8⟩:=h;exact⟨h1,h2,h3,h4,h5.same s,v,h6,h7.same s,h8⟩
theorem fR.same{M M' G G':Hp}(s:bG M M')(h:fR P w M G a t kvs)(e:∀o,G a=some o->G' a=some o):fR P w M' G' a t kvs:=by
 rcases h with⟨ht,ks,h1,h2⟩|⟨ht,xs,h1,h2⟩
 ·exact .inl ⟨ht,ks,e _ h1,h2⟩
 ·exact .inr ⟨ht,xs,e _ h1,Paired.mF h2 λ_ _=>oq.same s⟩
theorem fR.some{M G:Hp}(h:fR P w M G a t kvs):G a≠none:=by
 rcases h with⟨_,ks,h1,_⟩|⟨_,xs,h1,_⟩
 ·grind
 grind
theorem bR.ev(e:Ev θ H θ' H')(r:bR G θ H d v):bR G θ' H' d v:=by
 cases d with
 |dat d=>exact⟨r.1.same e.same,r.2⟩
 |ref i=>obtain⟨a,h1,h2⟩:=r;exact⟨a,e.get h1,h2⟩
 |iO t kvs=>obtain⟨a,h1,h2⟩:=r;exact⟨a,h1,h2.same e.same λo=>e.same a o⟩
 |set xs=>exact r
 |fn n=>exact r
 |scr ns=>obtain⟨a,h1,h2⟩:=r;exact⟨a,h1,e.same.seq h2⟩
 |ktup xs=>exact r
 |rpr x=>exact r
 |exc x=>obtain⟨a,c,h1,h2,h3⟩:=r;exact⟨a,c,h1,e.same _ _ h2,h3⟩
theorem aO.ev(e:Ev θ H θ' H')(r:aO G θ H ds vs):aO G θ' H' ds vs:=Paired.mF r λ_ _=>bR.ev e
theorem Fr.ev(e:Ev θ H θ' H')(r:Fr G θ H ρ σ):Fr G θ' H' ρ σ:=⟨r.1,λi d q=>let ⟨v,h1,h2⟩:=r.2 i d q;⟨v,h1,h2.ev e⟩⟩
theorem Fr.set(r:Fr G θ H ρ σ)(q:bR G θ H d v):Fr G θ H (ρ.set i (some d)) (σ.set i (some v)):=by
 refine⟨by simp[r.1],λj e he=>?_⟩;by_cases hj:i=j
 ·subst hj;by_cases hl:i<ρ.length
  ·rw[RW hl]at he;cases he;exact⟨v,by rw[RW (by rw[<- r.1];exact hl)],q⟩
  simp_all
 ·rw[Tg hj]at he ⊢;exact r.2 j e he
theorem Fr.replicate(n:Nat)(r:Fr G θ H ρ σ):Fr G θ H (List.replicate n none++ρ) (List.replicate n none++σ):=by
 refine⟨by simp[r.1],λi d e=>?_⟩;by_cases hi:i<n
 ·rw[Q8 (by simp_all),SO]at e
  grind
 ·rw[Rk (by simp;omega)]at e ⊢;simp at e ⊢;exact r.2 _ d e
theorem EA(hp:H p=none)(hn:p∉θ):Ev θ H θ (upd H p o):=⟨⟨[],by simp⟩,λa u q=>by
 obtain⟨h1,h2⟩:=du q;rw[ee h1,ay (aF h2 hp)]
 exact h2⟩
theorem Al.some(o:MO)(r:Al G θ H a o):H a≠none:=by
 cases o with
 |lst xs=>obtain⟨vs,e,_⟩:=r;grind
 |iO t kvs=>exact fR.some r
 |ins=>trivial
 |tab P q=>obtain⟨rfl,ps,e,_⟩:=r;grind
theorem W.EB(w:W G θ h H)(hp:H p=none):p∉θ:=λm=>by
 obtain⟨i,hi,e⟩:=SE.mp m;have hl:i<h.length:=by rw[<- w.len];exact hi
 exact Al.some _ (w.obj i p h[i] (by simp_all) (QP hl)) hp
theorem W.put(w:W G θ h H)(hp:H p=none):Ev θ H θ (upd H p o)/\W G θ h (upd H p o)/\view θ (upd H p o) p=some o:=by
 have hn:=w.EB hp;have e:=EA (o:=o) hp hn;refine⟨e,⟨w.len,w.nd,λi a m h1 h2=>?_⟩,by rw[ee hn,aZ]⟩;have r:=w.obj i a m h1 h2;have ha:a≠p:=λz=>by subst z;exact hn (QZ h1)
 cases m with
 |lst xs=>obtain⟨vs,q1,q2⟩:=r;exact⟨vs,by rw[ay ha];exact q1,q2.ev e⟩
 |iO t kvs=>exact fR.same e.same r λo q=>by rw[ay ha];exact q
 |ins=>trivial
 |tab P q=>obtain⟨rfl,x⟩:=r;exact⟨rfl,x.same e.same λo q=>by rw[ay ha];exact q⟩
theorem W.grow(w:W G θ h H)(s:bG H H'):Ev θ H θ H'/\W G θ h H':=by
 have e:Ev θ H θ H':=⟨⟨[],by simp⟩,λa u q=>by
  obtain⟨h1,h2⟩:=du q;rw[ee h1]
  exact s _ _ h2⟩
 refine⟨e,⟨w.len,w.nd,λi a m h1 h2=>?_⟩⟩;have r:=w.obj i a m h1 h2
 cases m with
 |lst xs=>obtain⟨vs,q1,q2⟩:=r;exact⟨vs,s _ _ q1,q2.ev e⟩
 |iO t kvs=>exact fR.same e.same r λo q=>s _ _ q
 |ins=>trivial
 |tab P q=>obtain⟨rfl,x⟩:=r;exact⟨rfl,x.same e.same λo q=>s _ _ q⟩
theorem W.alloc(w:W G θ h H)(hp:H p=none)(ho:Al G (θ++[p]) (upd H p o) p m):Ev θ H (θ++[p]) (upd H p o)/\W G (θ++[p]) (h++[m]) (upd H p o):=by
 have hn:=w.EB hp
 have e:Ev θ H (θ++[p]) (upd H p o):=⟨⟨[p],rfl⟩,λa u q=>by
  obtain⟨h1,h2⟩:=du q;have ne:=aF h2 hp;rw[ee (by grind),ay ne]
  exact h2⟩
 refine⟨e,⟨by simp[w.len],?_,λi a m' h1 h2=>?_⟩⟩
 ·rw[Td];exact⟨w.nd,by simp,λx hx y hy z=>by grind⟩
 ·by_cases hi:i<θ.length
  ·rw[Q8 hi]at h1;rw[Q8 (by rw[<- w.len];exact hi)]at h2;have r:=w.obj i a m' h1 h2;have ha:a≠p:=λz=>by subst z;exact hn (QZ h1)
   cases m' with
   |lst xs=>obtain⟨vs,q1,q2⟩:=r;exact⟨vs,by rw[ay ha];exact q1,q2.ev e⟩
   |iO t kvs=>exact fR.same e.same r λo q=>by rw[ay ha];exact q
   |ins=>exact r.elim
   |tab P q=>obtain⟨rfl,x⟩:=r;exact⟨rfl,x.same e.same λo q=>by rw[ay ha];exact q⟩
  ·rw[Rk (by omega)]at h1;rw[Rk (by rw[<- w.len];omega),<- w.len]at h2
   cases hk:i-θ.length with
   |zero=>rw[hk]at h1 h2;simp at h1 h2;subst h1;subst h2;exact ho
   |succ k=>rw[hk]at h1;simp at h1
theorem W.write(w:W G θ h H)(hi:θ[i]?=some p)(hl:i<h.length)(ho:Al G θ (upd H p o) p m):Ev θ H θ (upd H p o)/\W G θ (h.set i m) (upd H p o):=by
 have hm:p∈θ:=QZ hi
 have e:Ev θ H θ (upd H p o):=⟨⟨[],by simp⟩,λa u q=>by
  obtain⟨h1,h2⟩:=du q;have ne:a≠p:=λz=>by grind
  simp_all[ee,h1,ay,ne]⟩
 refine⟨e,⟨by simp[w.len],w.nd,λj a m' h1 h2=>?_⟩⟩;by_cases hj:i=j
 ·simp_all
 ·rw[Tg hj]at h2
  have ha:a≠p:=λz=>by
   subst z;obtain⟨l1,e1⟩:=QV.mp hi;obtain⟨l2,e2⟩:=QV.mp h1;have pw:=Sz.mp w.nd;rcases Nat.lt_or_gt_of_ne hj with z|z
   ·exact pw i j l1 l2 z (e1.trans e2.symm)
   ·exact pw j i l2 l1 z (e2.trans e1.symm)
  have r:=w.obj j a m' h1 h2
  cases m' with
  |lst xs=>obtain⟨vs,q1,q2⟩:=r;exact⟨vs,by rw[ay ha];exact q1,q2.ev e⟩
  |iO t kvs=>exact fR.same e.same r λo q=>by rw[ay ha];exact q
  |ins=>exact r.elim
  |tab P q=>obtain⟨rfl,x⟩:=r;exact⟨rfl,x.same e.same λo q=>by rw[ay ha];exact q⟩
end
abbrev XP:=Xc->UK->Hm->Hp->Prop
def aD{α:Type}(G:Gx)(E:XP)(θ:UK)(H:Hp):R α->(α->UK->Hm->Hp->Prop)->Prop
 |.ok a h',K=>∀θ' H',Ev θ H θ' H'->W G θ' h' H'->K a θ' h' H'
 |.exc x h',_=>∀θ' H',Ev θ H θ' H'->W G θ' h' H'->E x θ' h' H'
 |.bad,_=>False
section
variable {α β:Type} {G:Gx} {E E':XP} {θ θ':UK} {H H':Hp} {h:Hm} {r:R α} {f:α->Hm->R β} {K K':α->UK->Hm->Hp->Prop}
theorem aD.mono(p:aD G E θ H r K)(k:∀a θ' h' H',Ev θ H θ' H'->W G θ' h' H'->K a θ' h' H'->K' a θ' h' H'):aD G E θ H r K':=by
 cases r with
 |ok a h'=>exact λθ' H' e w=>k _ _ _ _ e w (p θ' H' e w)
 |exc x h'=>exact p
 |bad=>exact p
theorem aD.later(p:aD G E θ H r K)(e:Ev θ H θ' H'):aD G E θ' H' r K:=by
 cases r with
 |ok a h'=>exact λθ2 H2 e2 w=>p θ2 H2 (e.trans e2) w
 |exc x h'=>exact λθ2 H2 e2 w=>p θ2 H2 (e.trans e2) w
 |bad=>exact p
theorem aD.bind(p:aD G E θ H (r.bind f) L):aD G E θ H r λa θ1 h1 H1=>Ev θ H θ1 H1/\W G θ1 h1 H1/\aD G E θ1 H1 (f a h1) L:=by
 cases r with
 |ok a h'=>exact λθ1 H1 e w=>⟨e,w,aD.later p e⟩
 |exc x h'=>exact p
 |bad=>exact p
end
def mJ(G:Gx)(E:XK):XP:=λx θ _ H=>∀cls da,MH G x cls da (view θ H)->E cls da H
def KV(G:Gx)(Q:VK):D->UK->Hm->Hp->Prop:=λd θ _ H=>∀v,bR G θ H d v->Q v H
def Qp(G:Gx)(Q:List V->Hp->Prop):List D->UK->Hm->Hp->Prop:=λds θ _ H=>∀vs,aO G θ H ds vs->Q vs H
def KS(G:Gx)(C:Ends):Fl->UK->Hm->Hp->Prop:=λf θ _ H=>match f with
 |.nx ρ=>∀σ,Fr G θ H ρ σ->C.nx σ H
 |.rt d=>∀v,bR G θ H d v->C.rt v H
 |.bk ρ=>∀σ,Fr G θ H ρ σ->C.bk σ H
 |.ct ρ=>∀σ,Fr G θ H ρ σ->C.ct σ H
def lE(G:Gx)(E:XK)(m:ME):TE:=λσ H Q=>∃θ h ρ,W G θ h H/\Fr G θ H ρ σ/\aD G (mJ G E) θ H (m ρ h) (KV G Q)
def lT(G:Gx)(E:XK)(m:MT):TT:=λσ H Q=>∃θ h ρ,W G θ h H/\Fr G θ H ρ σ/\aD G (mJ G E) θ H (m ρ h) (λb _ _ H'=>Q b H')
def lA(G:Gx)(E:XK)(m:MA):TA:=λσ H Q=>∃θ h ρ,W G θ h H/\Fr G θ H ρ σ/\aD G (mJ G E) θ H (m ρ h) (Qp G Q)
def lS(G:Gx)(E:XK)(m:MS):TS:=λC σ H=>∃θ h ρ,W G θ h H/\Fr G θ H ρ σ/\aD G (mJ G E) θ H (m ρ h) (KS G C)
def lG(G:Gx)(E:XK)(g:MG):TG:=λv σ H Q=>∃θ h ρ d,W G θ h H/\Fr G θ H ρ σ/\bR G θ H d v/\aD G (mJ G E) θ H (g d ρ h) (λρ' θ' _ H'=>∀σ',Fr G θ' H' ρ' σ'->Q σ' H')
abbrev _root_.L2.Cx.G(X:Cx):Gx:=⟨X.prog,X.w,X.mg,X.K⟩
@[irreducible] def DE(X:Cx)(E:XK)(m:ME)(e:Expr):Prop:=PE X e (lE X.G E m)
theorem br(X:Cx)(E:XK)(m:ME)(e:Expr):DE X E m e=(PE X e (lE X.G E m)):=by
 grind[DE]
@[irreducible] def DT(X:Cx)(E:XK)(m:MT)(e:Expr):Prop:=PT X e (lT X.G E m)
theorem kR(X:Cx)(E:XK)(m:MT)(e:Expr):DT X E m e=(PT X e (lT X.G E m)):=by
 grind[DT]
@[irreducible] def DA(X:Cx)(E:XK)(m:MA)(es:UO):Prop:=PA X es (lA X.G E m)
theorem jG(X:Cx)(E:XK)(m:MA)(es:UO):DA X E m es=(PA X es (lA X.G E m)):=by
 grind[DA]
@[irreducible] def DS(X:Cx)(E:XK)(m:MS)(s:Stmt):Prop:=PS X s (lS X.G E m)
theorem jH(X:Cx)(E:XK)(m:MS)(s:Stmt):DS X E m s=(PS X s (lS X.G E m)):=by
 grind[DS]
@[irreducible] def EC(X:Cx)(E:XK)(m:MS)(s:List Stmt):Prop:=zL X s (lS X.G E m)
theorem pH(X:Cx)(E:XK)(m:MS)(s:List Stmt):EC X E m s=(zL X s (lS X.G E m)):=by
 grind[EC]
@[irreducible] def DG(X:Cx)(E:XK)(m:MG)(e:Expr):Prop:=PG X e (lG X.G E m)
theorem mT(X:Cx)(E:XK)(m:MG)(e:Expr):DG X E m e=(PG X e (lG X.G E m)):=by
 grind[DG]
theorem PE.imp(h:PE X e t)(k:∀σ H Q,t' σ H Q->t σ H Q):PE X e t':=λpins s σ H Q I q=>h pins s σ H Q I (k _ _ _ q)
theorem PT.imp(h:PT X e t)(k:∀σ H Q,t' σ H Q->t σ H Q):PT X e t':=λpins s σ H Q I q=>h pins s σ H Q I (k _ _ _ q)
theorem PA.imp(h:PA X e t)(k:∀σ H Q,t' σ H Q->t σ H Q):PA X e t':=λpos pins s σ H Q I q=>h pos pins s σ H Q I (k _ _ _ q)
theorem PS.imp(h:PS X e t)(k:∀C σ H,t' C σ H->t C σ H):PS X e t':=λpins s σ H C I q=>h pins s σ H C I (k _ _ _ q)
theorem zL.imp(h:zL X e t)(k:∀C σ H,t' C σ H->t C σ H):zL X e t':=λpins s σ H C I q=>h pins s σ H C I (k _ _ _ q)
def Kw(G:Gx)(E:XK)(f:D->D->Hm->R D):R2:=λx y H Q=>∃θ h d1 d2,W G θ h H/\bR G θ H d1 x/\bR G θ H d2 y/\aD G (mJ G E) θ H (f d1 d2 h) (KV G Q)
def PM(G:Gx)(E:XK)(f:Fn):List V->Hp->VK->Prop:=λxs H Q=>∃θ h ds,W G θ h H/\aO G θ H ds xs/\aD G (mJ G E) θ H (f ds h) (KV G Q)
def ou(X:Cx)(E:XK)(op:Value->Value->Sem Value)(f:D->D->Hm->R D):Prop:=iH X op (Kw X.G E f)
def uq(X:Cx)(E:XK)(v:Value)(f:Fn):Prop:=dP X v (PM X.G E f)
theorem iH.imp(h:iH X op r)(k:∀x y H Q,r' x y H Q->r x y H Q):iH X op r':=λpins s σ H x y v u Q I rx ry q=>h pins s σ H x y v u Q I rx ry (k _ _ _ _ q)
theorem dP.imp(h:dP X f r)(k:∀xs H Q,r' xs H Q->r xs H Q):dP X f r':=λpins s σ H xs us Q I r q=>h pins s σ H xs us Q I r (k _ _ _ q)
theorem ou.of(h:iH X op r)
 (k:∀θ hm H d1 d2 x y Q,W X.G θ hm H->bR X.G θ H d1 x->bR X.G θ H d2 y->aD X.G (mJ X.G E) θ H (f d1 d2 hm) (KV X.G Q)->r x y H Q):ou X E op f:=
 iH.imp h λx y H Q ⟨θ,hm,d1,d2,w,r1,r2,p⟩=>k θ hm H d1 d2 x y Q w r1 r2 p
theorem uq.of(h:dP X v r)
 (k:∀θ hm H ds xs Q,W X.G θ hm H->aO X.G θ H ds xs->aD X.G (mJ X.G E) θ H (f ds hm) (KV X.G Q)->r xs H Q):uq X E v f:=
 dP.imp h λxs H Q ⟨θ,hm,ds,w,r1,p⟩=>k θ hm H ds xs Q w r1 p
section
variable {X:Cx} {E:XK} {m a b c:ME} {t u:MT} {e e1 e2 e3:Expr} {es:UO} {ma:MA} {pos:Pos} {i:Nat} {x:Str}
theorem Kx(hN:X.N[i]?=some x)(hv:IB X.env.scope x)(hd:(x==("__debug__" : Str))=false:=by decide)(hcd:(x==("__classdict__" : Str))=false:=by decide):DE X E (ae i) (.Name x pos):=by
 simp only[br]at *
 exact PE.imp (Js hN hv hd hcd) λσ H Q ⟨θ,h,ρ,w,fr,p⟩=>by
   unfold ae at p
   cases e:ρ[i]? with
   |none=>rw[e]at p;exact p.elim
   |some o=>
    cases o with
    |none=>rw[e]at p;exact p.elim
    |some d=>rw[e]at p;obtain⟨v,h1,h2⟩:=fr.2 i d e;exact⟨v,h1,p θ H Ev.refl w v h2⟩
theorem Hb(h:PE X e (tC v))(r:∀G,Rep G d v)(s:cX d=true):DE X E (ai d) e:=by simp[br]at *;exact PE.imp h λσ H Q ⟨θ,hm,ρ,w,fr,p⟩=>p θ H Ev.refl w v ⟨r _,s⟩
theorem aJ:DE X E (ai (.int k)) (.Constant (.int k) j pos):=Hb ph (λ_=>rfl) (by rfl)
theorem dH:DE X E (ai (.bool k)) (.Constant (.bool k) j pos):=Hb ID (λ_=>rfl) (by rfl)
theorem dS(h:PyData.strOk k=true:=by decide +kernel):DE X E (ai (.str k)) (.Constant (.str k) j pos):=Hb zO (λ_=>rfl) (by trivial)
theorem wL(h:lE G E (ak f a b) σ H Q):Ma (Kw G E f) (lE G E a) (lE G E b) σ H Q:=by obtain⟨θ,h,ρ,w,fr,p⟩:=h;refine⟨θ,h,ρ,w,fr,(aD.bind p).mono λx θ1 h1 H1 _ _ ⟨e1,w1,p1⟩ v r1=>?_⟩;exact⟨θ1,h1,ρ,w1,fr.ev e1,(aD.bind p1).mono λy θ2 h2 H2 _ _ ⟨e2,w2,p2⟩ u r2=>⟨θ2,h2,x,y,w2,r1.ev e2,r2,p2⟩⟩
theorem BH(h:lE G E (af f ma) σ H Q):Oo (PM G E f) (lA G E ma) σ H Q:=by obtain⟨θ,h,ρ,w,fr,p⟩:=h;exact⟨θ,h,ρ,w,fr,(aD.bind p).mono λxs θ1 h1 H1 _ _ ⟨e1,w1,p1⟩ vs r1=>⟨θ1,h1,xs,w1,r1,p1⟩⟩
theorem cz(h:ou X E (binaryOp op) f)(ha:DE X E a e1)(hb:DE X E b e2):DE X E (ak f a b) (.BinOp e1 op e2 pos):=by simp[br]at *;exact PE.imp (IF h ha hb) λ_ _ _=>wL
theorem cZ(h:ou X E (compareOp op) f)(ha:DE X E a e1)(hb:DE X E b e2)(hm:behindInMarks op e2=false):DE X E (ak f a b) (.Compare e1 [op] [e2] pos):=by simp[br]at *;exact PE.imp (GI h ha hb hm) λ_ _ _=>wL
theorem bW(h:LM X (Kw X.G E f))(ha:DE X E a e1)(hb:DE X E b e2)(hs:Bm e2):DE X E (ak f a b) (.Subscript e1 e2 pos):=by simp[br]at *;exact PE.imp (Mo h ha hb hs) λ_ _ _=>wL
theorem BI(h:lT G E (bc m) σ H Q):lE G E m σ H λx H'=>∃k,x=.bl k/\Q k H':=by
 obtain⟨θ,h,ρ,w,fr,p⟩:=h;refine⟨θ,h,ρ,w,fr,(aD.bind p).mono λx θ1 h1 H1 _ _ ⟨e1,w1,p1⟩ v r1=>?_⟩
 cases x with
 |dat d=>
  cases d with
  |bool k=>exact⟨k,r1.1,p1 θ1 H1 Ev.refl w1⟩
  |_=>trivial
 |_=>trivial
theorem cQ(h:ou X E (compareOp op) f)(ha:DE X E a e1)(hb:DE X E b e2)(hm:behindInMarks op e2=false):DT X E (bc (ak f a b)) (.Compare e1 [op] [e2] pos):=by simp[br,kR]at *;exact PT.imp (GJ h ha hb hm) λ_ _ _ q=>wL (BI q)
@[irreducible] def DW(X:Cx)(E:XK)(t:MT)(e:Expr):Prop:=PW X e (lT X.G E t)
theorem yq(X:Cx)(E:XK)(t:MT)(e:Expr):DW X E t e=(PW X e (lT X.G E t)):=by
 grind[DW]
theorem DW.dt(h:DW X E t e):DT X E t e:=by simp[kR,yq]at *;exact PW.pt h
theorem PW.imp{t t':TT}(h:PW X e t)(k:∀σ H Q,t' σ H Q->t σ H Q):PW X e t':=λwh pins s σ H Q I q=>h wh pins s σ H Q I (k _ _ _ q)
theorem wM(ha:DT X E t e):DW X E t (.BoolOp .And [e] pos):=by simp[kR,yq]at *;exact Gz ha
theorem jl(ha:DT X E t e):DW X E t (.BoolOp .Or [e] pos):=by simp[kR,yq]at *;exact Ju ha
theorem Am(ha:DT X E t e1)(hb:DW X E u (.BoolOp .And (e2::es) pos)):DW X E (nQ t u) (.BoolOp .And (e1::e2::es) pos):=by
 simp[kR,yq]at *
 exact PW.imp (Jv ha hb) λσ H Q ⟨θ,h,ρ,w,fr,p⟩=>⟨θ,h,ρ,w,fr,(aD.bind p).mono λc θ1 h1 H1 _ _ ⟨ev,w1,p1⟩=>by
   cases c with
   |true=>exact⟨θ1,h1,ρ,w1,fr.ev ev,p1⟩
   |false=>exact p1 θ1 H1 Ev.refl w1⟩
theorem mU(ha:DT X E t e1)(hb:DW X E u (.BoolOp .Or (e2::es) pos)):DW X E (um t u) (.BoolOp .Or (e1::e2::es) pos):=by
 simp[kR,yq]at *
 exact PW.imp (LZ ha hb) λσ H Q ⟨θ,h,ρ,w,fr,p⟩=>⟨θ,h,ρ,w,fr,(aD.bind p).mono λc θ1 h1 H1 _ _ ⟨ev,w1,p1⟩=>by
   cases c with
   |true=>exact p1 θ1 H1 Ev.refl w1
   |false=>exact⟨θ1,h1,ρ,w1,fr.ev ev,p1⟩⟩
theorem eI(ha:DT X E t e):DT X E (fO t) (.UnaryOp .Not e pos):=by simp[kR]at *;exact PT.imp (Jw ha) λσ H Q ⟨θ,h,ρ,w,fr,p⟩=>⟨θ,h,ρ,w,fr,(aD.bind p).mono λc θ1 h1 H1 _ _ ⟨ev,w1,p1⟩=>p1 θ1 H1 Ev.refl w1⟩
theorem fq(h:DE X E m e):DE X E m (.BoolOp op [e] pos):=by simp[br]at *;exact Jx h
theorem ag:DA X E ah []:=by simp[jG]at *;exact PA.imp rF λσ H Q ⟨θ,h,ρ,w,fr,p⟩=>p θ H Ev.refl w _ .nil
theorem ab(ha:DE X E m e)(hr:DA X E ma es)(hs:starEach (e::es) X.env=(false,eval e X.env)::starEach es X.env:=by rfl):DA X E (aa m ma) (e::es):=by
 simp[br,jG]at *
 exact PA.imp (lV ha hr hs) λσ H Q ⟨θ,h,ρ,w,fr,p⟩=>⟨θ,h,ρ,w,fr,(aD.bind p).mono λx θ1 h1 H1 _ _ ⟨ev,w1,p1⟩ v r1=>
   ⟨θ1,h1,ρ,w1,fr.ev ev,(aD.bind p1).mono λxs θ2 h2 H2 _ _ ⟨ev2,w2,p2⟩ vs r2=>p2 θ2 H2 Ev.refl w2 _ (.cons (r1.ev ev2) r2)⟩⟩
theorem lY:∀{xs:List D} {vs:List V} {ds:UJ},aO G θ H xs vs->ic xs=some ds->bb (view θ H) ds vs/\cE ds=true
 | [],_,ds,.nil,e=>by cases e;exact⟨rfl,by rfl⟩
 |x::xs,_,ds,.cons r rs,e=>by
  unfold ic at e
  cases x with
  |dat d=>
   cases e2:ic xs with
   |none=>simp_all
   |some ds'=>simp[D.data,e2]at e;subst e;obtain⟨h1,h2⟩:=lY rs e2;exact⟨.cons r.1 h1,by simp[cE,r.2,h2]⟩
  |_=>trivial
theorem wN:∀{ds:UJ} {vs:List V},bb (view θ H) ds vs->cE ds=true->aO G θ H (ds.map D.dat) vs
 | [],_,h,_=>by cases h;exact .nil
 |d::ds,_,⟨v,vs,e,r,rs⟩,s=>by subst e;simp[cE]at s;exact .cons ⟨r,s.1⟩ (wN rs s.2)
theorem eh(h:mI n=true):n<=sizeLine:=by
 have:=RZ h
 simp_all[SK]
theorem pI:∀{xs:List D} {ds:UJ},ic xs=some ds->ds.length=xs.length
 | [],ds,e=>by cases e;rfl
 |x::xs,ds,e=>by
  unfold ic at e
  cases e1:x.data with
  |none=>simp_all
  |some d=>
   cases e2:ic xs with
   |none=>simp_all
   |some ds'=>rw[e1,e2]at e;cases e;simp[pI e2]
theorem bA(h:DA X E ma es):DE X E (bL ma) (.Tuple es x1 pos):=by
 simp only[br,jG]at *
 exact PE.imp (D1 h) λσ H Q ⟨θ,h,ρ,w,fr,p⟩=>⟨θ,h,ρ,w,fr,(aD.bind p).mono λxs θ1 h1 H1 _ _ ⟨ev,w1,p1⟩ vs r1=>by
   unfold kM at p1
   cases e:ic xs with
   |none=>rw[e]at p1;exact p1.elim
   |some ds=>
    rw[e]at p1;simp only at p1;split at p1
    ·rename_i hz;have hl:vs.length=xs.length:=(Q0 r1).symm;refine⟨by rw[hl,<- pI e];exact eh hz,λq hq=>?_⟩;obtain⟨e1,w2,g⟩:=w1.put (o:=.tup vs) hq;obtain⟨h1,h2⟩:=lY r1 e;exact p1 _ _ e1 w2 _ ⟨⟨q,vs,rfl,g,h1.same e1.same⟩,by assumption⟩
    ·trivial⟩
theorem Ky(h:DA X E ma es):DE X E (Ep ma) (.List es pos):=by
 simp only[br,jG]at *
 exact PE.imp (zW h) λσ H Q ⟨θ,h,ρ,w,fr,p⟩=>⟨θ,h,ρ,w,fr,(aD.bind p).mono λxs θ1 h1 H1 _ _ ⟨ev,w1,p1⟩ vs r1=>by
   unfold ie at p1
   cases e:ic xs with
   |none=>rw[e]at p1;exact p1.elim
   |some ds=>
    rw[e]at p1;simp only at p1;split at p1
    ·rename_i hz;have hl:vs.length=xs.length:=(Q0 r1).symm;refine⟨by rw[hl,<- pI e];exact eh hz,λq hq=>?_⟩;obtain⟨e1,w2,g⟩:=w1.put (o:=.lst vs) hq;obtain⟨h1,h2⟩:=lY r1 e;exact p1 _ _ e1 w2 _ ⟨⟨q,vs,rfl,g,h1.same e1.same⟩,by assumption⟩
    ·trivial⟩
theorem W.Kz(w:W G θ h H)(r:aO G θ H xs vs)(hp:H p=none) :
  Ev θ H (θ++[p]) (upd H p (.lst vs))/\W G (θ++[p]) (h++[.lst xs]) (upd H p (.lst vs))/\bR G (θ++[p]) (upd H p (.lst vs)) (.ref h.length) (.ref p):=by
 have e:Ev θ H _ (upd H p (.lst vs)):=⟨⟨[p],rfl⟩,λa u q=>by
  obtain⟨h1,h2⟩:=du q;have ne:=aF h2 hp;rw[ee (by grind),ay ne]
  exact h2⟩
 obtain⟨e1,w1⟩:=w.alloc (m:=.lst xs) hp ⟨vs,aZ,r.ev e⟩;exact⟨e1,w1,p,by simp_all[w.len],rfl⟩
theorem wO(h:DA X E ma es):DE X E (uG ma) (.List es pos):=by
 simp[br,jG]at *
 exact PE.imp (zW h) λσ H Q ⟨θ,h,ρ,w,fr,p⟩=>⟨θ,h,ρ,w,fr,(aD.bind p).mono λxs θ1 h1 H1 _ _ ⟨ev,w1,p1⟩ vs r1=>by
   unfold Bu at p1;split at p1
   ·rename_i hz;have hl  := (Q0 r1).symm;refine⟨by rw[hl];exact eh hz,λq hq=>?_⟩;obtain⟨e1,w2,g⟩:=w1.Kz r1 hq;exact p1 _ _ e1 w2 _ g
   ·trivial⟩
theorem ED{id:String}(hc:uq X E (.builtin id) f)(hg:Gl X x)(hm:X.mg x=none)(hv:bootBuiltins x=some (.builtin id)){p:Pos}(ha:DA X E ma (e::es))(hn:x ≠ "__name__" := by decide)(hdb:(x==("__debug__" : Str))=false:=by decide)
 (he:starEach (e::es) X.env=(false,eval e X.env)::starEach es X.env:=by rfl)(hpl:(backTo pos (starEach es X.env)).any (·.1)=false:=by rfl):DE X E (af f ma) (.Call (.Name x p) (e::es) [] pos):=by
 simp only[br,jG]at *;exact PE.imp (yb hc hg hm hv ha hn hdb he hpl) λ_ _ _=>BH
theorem C5(hc:uq X E (.type T) f)(hg:Gl X x)(hm:X.mg x=none)(hv:bootBuiltins x=some (.type T)){p:Pos}(ha:DA X E ma (e::es))(hn:x ≠ "__name__" := by decide)(hdb:(x==("__debug__" : Str))=false:=by decide)
 (he:starEach (e::es) X.env=(false,eval e X.env)::starEach es X.env:=by rfl)(hpl:(backTo pos (starEach es X.env)).any (·.1)=false:=by rfl):DE X E (af f ma) (.Call (.Name x p) (e::es) [] pos):=by
 simp only[br,jG]at *;exact PE.imp (CN hc hg hm hv ha hn hdb he hpl) λ_ _ _=>BH
end
section
variable {X:Cx} {E:XK} {m:ME} {a b:MS} {t:MT} {e e1:Expr} {st:Stmt} {sts:List Stmt} {ss ss':List Stmt} {ma:MA} {pos:Pos} {i:Nat} {x:Str} {g:MG}
theorem cF:EC X E cL []:=by simp[pH]at *;exact zL.imp GA λC σ H ⟨θ,h,ρ,w,fr,p⟩=>p θ H Ev.refl w σ fr
theorem aH(h:DS X E a st):EC X E a [st]:=by simp[jH,pH]at *;exact GB h
theorem au(h1:DS X E a st)(h2:EC X E b ss):EC X E (bx a b) (st::ss):=by
 simp[jH,pH]at *
 exact zL.imp (DP h1 h2) λC σ H ⟨θ,h,ρ,w,fr,p⟩=>⟨θ,h,ρ,w,fr,(aD.bind p).mono λf θ1 h1 H1 _ _ ⟨ev,w1,p1⟩=>by
   cases f with
   |nx ρ1=>exact λσ1 fr1=>⟨θ1,h1,ρ1,w1,fr1,p1⟩
   |rt d=>exact p1 θ1 H1 Ev.refl w1
   |bk ρ1=>exact p1 θ1 H1 Ev.refl w1
   |ct ρ1=>exact p1 θ1 H1 Ev.refl w1⟩
theorem gO(he:DE X E m e)(hs:swapsWith e none pos.line X.env=pure false:=by rfl):DS X E (jE m) (.Expr e pos):=by simp[br,jH]at *;exact PS.imp (GC he hs) λC σ H ⟨θ,h,ρ,w,fr,p⟩=>⟨θ,h,ρ,w,fr,(aD.bind p).mono λd θ1 h1 H1 _ _ ⟨ev,w1,p1⟩ v _=>p1 θ1 H1 Ev.refl w1 σ (fr.ev ev)⟩
theorem aT(he:DE X E m e):DS X E (bS m) (.Return (some e) pos):=by simp[br,jH]at *;exact PS.imp (Jy he) λC σ H ⟨θ,h,ρ,w,fr,p⟩=>⟨θ,h,ρ,w,fr,(aD.bind p).mono λd θ1 h1 H1 _ _ ⟨ev,w1,p1⟩ v r=>p1 θ1 H1 Ev.refl w1 v r⟩
theorem gv(hc:DT X E t e)(ha:EC X E a ss)(hb:EC X E b ss'):DS X E (o8 t a b) (.If e ss ss' pos):=by
 simp[kR,jH,pH]at *
 exact PS.imp (L5 hc ha hb) λC σ H ⟨θ,h,ρ,w,fr,p⟩=>⟨θ,h,ρ,w,fr,(aD.bind p).mono λc θ1 h1 H1 _ _ ⟨ev,w1,p1⟩=>by
   cases c with
   |true=>exact⟨θ1,h1,ρ,w1,fr.ev ev,p1⟩
   |false=>exact⟨θ1,h1,ρ,w1,fr.ev ev,p1⟩⟩
theorem Hc(hN:X.N.Nodup)(hi:X.N[i]?=some x)(hx:Loc X.env.scope x)(hf:X.fn x=true\/X.env.scope.names.lookup x=some .local:=by first|exact .inl rfl|exact .inr rfl|assumption):DG X E (aA i) (.Name x pos):=by simp[mT]at *;exact λpins s σ H v u Q I r ⟨θ,h,ρ,d,w,fr,rd,p⟩=>GD hN hi hx hf pins s σ H v u Q I r (p θ H Ev.refl w _ (fr.set rd))
def PN(G:Gx)(E:XK)(g:Er):LJ:=λvs σ H Q=>∃θ h ρ ds,W G θ h H/\Fr G θ H ρ σ/\aO G θ H ds vs/\aD G (mJ G E) θ H (g ds ρ h) (λρ' θ' _ H'=>∀σ',Fr G θ' H' ρ' σ'->Q σ' H')
@[irreducible] def LN(X:Cx)(E:XK)(m:Er)(es:UO):Prop:=LK X es (PN X.G E m)
theorem An(X:Cx)(E:XK)(m:Er)(es:UO):LN X E m es=(LK X es (PN X.G E m)):=by
 grind[LN]
theorem f6:LN X E hV []:=by
 simp[An]at *
 exact λpins s σ H vs us Q I r ⟨θ,h,ρ,ds,w,fr,rd,p⟩=>by
  cases rd with
  |nil=>exact GF pins s σ H [] us Q I r ⟨rfl,p θ H Ev.refl w σ fr⟩
  |cons=>trivial
theorem bF(h1:DG X E g e)(h2:LN X E gs es)(hs:(assignEach (e::es) X.env).map (·.2)=assign e X.env::(assignEach es X.env).map (·.2):=by rfl):LN X E (bM g gs) (e::es):=by
 simp[mT,An]at *
 exact λpins s σ H vs us Q I r ⟨θ,h,ρ,ds,w,fr,rd,p⟩=>by
   cases rd with
   |nil=>trivial
   |cons r1 rr=>exact DQ h1 h2 hs pins s σ H _ us Q I r ⟨_,_,rfl,θ,h,ρ,_,w,fr,r1,(aD.bind p).mono λρ1 θ1 h1 H1 _ _ ⟨ev,w1,p1⟩ σ1 fr1=>⟨θ1,h1,ρ1,_,w1,fr1,aO.ev ev rr,p1⟩⟩
theorem gP(r:bR G θ H (.dat (.tuple ds)) v):∃a xs,v=.ref a/\view θ H a=some (.tup xs)/\bb (view θ H) ds xs/\aO G θ H (ds.map D.dat) xs:=by obtain⟨⟨a,xs,e,ha,rr⟩,s⟩:=r;exact⟨a,xs,e,ha,rr,wN rr (by assumption)⟩
theorem gQ(r:bR G θ H (.dat (.list ds)) v):∃a xs,v=.ref a/\view θ H a=some (.lst xs)/\bb (view θ H) ds xs/\aO G θ H (ds.map D.dat) xs:=by obtain⟨⟨a,xs,e,ha,rr⟩,s⟩:=r;exact⟨a,xs,e,ha,rr,wN rr (by assumption)⟩
@[irreducible] def vo(gs:Er)(n:Nat):Prop:=∀xs ρ h,xs.length≠n->gs xs ρ h=.bad
theorem rY(gs:Er)(n:Nat):vo gs n=(∀xs ρ h,xs.length≠n->gs xs ρ h=.bad):=by
 grind[vo]
theorem dB:vo hV 0:=by
 simp[rY]at *
 exact λxs ρ h ne=>by
  cases xs with
  |nil=>grind
  |cons=>rfl
theorem aW{g:Nat}(t:vo gs n):vo (bM (aA g) gs) (n+1):=by
 simp[rY]at *
 exact λxs ρ h ne=>by
  cases xs with
  |nil=>rfl
  |cons x xs=>simp_all[bM,aA]
theorem jm{k n:Nat}(hc:X.calm=true)(h:LN X E gs es)(tk:vo gs n)(hn:(assignEach es X.env).length=n:=by rfl)(hst:(assignEach es X.env).findIdx? (·.1)=none:=by rfl):DG X E (hX gs) (.Tuple es k pos):=by
 simp only[mT,An,rY]at *
 exact λpins s σ H v u Q I r ⟨θ,hm,ρ,d,w,fr,rd,p⟩=>by
   cases d with
   |dat d=>
    cases d with
    |tuple ds=>
     obtain⟨a,xs,e,ha,rr,rr2⟩:=gP rd
     have hl:xs.length=n:=by
      have h1:xs.length=ds.length:=rr.length;by_cases z:ds.length=n
      ·grind
      ·have p':=p;simp only[hX]at p';rw[tk (ds.map D.dat) ρ hm (by grind)]at p';exact p'.elim
     exact JA (n:=n) hc h hn hst pins s σ H v u Q I r ⟨a,xs,e,gB.of (ax _ _ _ _ ha),hl,θ,hm,ρ,_,w,fr,rr2,p⟩
    |_=>trivial
   |_=>exact p.elim
theorem KA(hN:X.N.Nodup)(hi:X.N[i]?=some x)(hx:Loc X.env.scope x)(he:DE X E m e)(hs:swapsWith e (some (.Name x pos')) pos.line X.env=pure false:=by rfl)(hf:X.fn x=true\/X.env.scope.names.lookup x=some .local:=by first|exact .inl rfl|exact .inr rfl|assumption) :
  DS X E (cw i m) (.Assign [.Name x pos'] e pos):=by
 simp[br,jH]at *;exact PS.imp (JD hN hi hx he hs hf) λC σ H ⟨θ,h,ρ,w,fr,p⟩=>⟨θ,h,ρ,w,fr,(aD.bind p).mono λd θ1 h1 H1 _ _ ⟨ev,w1,p1⟩ v r=>p1 θ1 H1 Ev.refl w1 _ ((fr.ev ev).set r)⟩
theorem jV(he:DE X E m e)(hg:DG X E g tg)(hs:swapsWithSole [tg] e pos.line X.env=pure false:=by rfl)(hw:swappedStores [tg] e X.env=pure none:=by rfl)
 (h1:(assignEach [tg] X.env).map (·.2)=[assign tg X.env]:=by rfl):DS X E (kN g m) (.Assign [tg] e pos):=by
 simp only[br,jH,mT]at *
 exact PS.imp (JC he hg hs hw h1) λC σ H ⟨θ,h,ρ,w,fr,p⟩=>⟨θ,h,ρ,w,fr,(aD.bind p).mono λd θ1 h1 H1 _ _ ⟨ev,w1,p1⟩ v r=>
   ⟨θ1,h1,ρ,d,w1,fr.ev ev,r,(aD.bind p1).mono λρ1 θ2 h2 H2 _ _ ⟨ev2,w2,p2⟩ σ2 fr2=>p2 θ2 H2 Ev.refl w2 σ2 fr2⟩⟩
theorem Hd(h:PS X st (L7 i j (lA X.G E ma))):DS X E (uH [i,j] ma) st:=by
 simp[jH]at *
 exact PS.imp h λC σ H ⟨θ,h,ρ,w,fr,p⟩=>⟨θ,h,ρ,w,fr,(aD.bind p).mono λds θ1 h1 H1 _ _ ⟨ev,w1,p1⟩ vs r=>by
   cases r with
   |nil=>trivial
   |cons r1 rr=>
    cases rr with
    |nil=>trivial
    |cons r2 rr=>
     cases rr with
     |nil=>exact⟨_,_,rfl,p1 θ1 H1 Ev.refl w1 _ (((fr.ev ev).set r1).set r2)⟩
     |cons=>trivial⟩
def ow(G:Gx)(θ:UK)(H:Hp)(xs:List D)(J:It):Prop:=∀θ' h' H',Ev θ H θ' H'->W G θ' h' H' ->
 (∀(i:Nat) (d:D),xs[i]?=some d->J.go i H'/\∀x H2,J.yld i H' x H2->Ev θ' H' θ' H2/\W G θ' h' H2/\bR G θ' H2 d x)/\J.stop xs.length H'
def lI(G:Gx)(E:XK)(m:MA):TI:=λσ H R=>∃θ h ρ,W G θ h H/\Fr G θ H ρ σ/\aD G (mJ G E) θ H (m ρ h) (λxs θ' _ H'=>∀J,ow G θ' H' xs J->R J H')
@[irreducible] def DI(X:Cx)(E:XK)(m:MA)(tg e:Expr):Prop:=PI X tg e (lI X.G E m)
theorem kC(X:Cx)(E:XK)(m:MA)(tg e:Expr):DI X E m tg e=(PI X tg e (lI X.G E m)):=by
 grind[DI]
theorem PI.imp{t t':TI}(h:PI X tg e t)(k:∀σ H Q,t' σ H Q->t σ H Q):PI X tg e t':=λpins s σ H Q I q=>h pins s σ H Q I (k _ _ _ q)
theorem aO.get:∀{ds:List D} {vs:List V} {i:Nat} {d:D} {v:V},aO G θ H ds vs->ds[i]?=some d->vs[i]?=some v->bR G θ H d v
 |_,_,i,_,_,.nil,e,_=>by simp at e
 |_,_,0,_,_,.cons r _,e,e'=>by grind
 |_,_,i+1,d,v,.cons _ t,e,e'=>aO.get (i:=i) t (by simp_all) (by simp_all)
theorem aO.some(r:aO G θ H ds vs)(e:ds[i]?=some d):∃v,vs[i]?=some v/\bR G θ H d v:=by
 have hl  := Q0 r;have hi:i<vs.length:=by rw[<- hl];exact(QV.mp e).1
 exact⟨vs[i],QP hi,r.get e (QP hi)⟩
theorem KC{a:Addr}(ha:view θ H a=some (.tup xs))(r:aO G θ H ds xs):ow G θ H ds (Np K a):=λθ' h' H' ev w=>by have ha':=ax _ _ _ _ (ev.same _ _ ha);have q:gB K H' a xs:=gB.of ha';refine⟨λi d e=>?_,⟨xs,q,by rw[<- Q0 r];grind⟩⟩;obtain⟨v,ev',rv⟩:=r.some e;refine⟨⟨xs,v,q,ev'⟩,λx H2 ⟨e2,y⟩=>?_⟩;subst e2;have:=y xs q;rw[ev']at this;cases this;exact⟨Ev.refl,w,rv.ev ev⟩
theorem KD{a:Addr}(ha:view θ H a=some (.lst xs))(r:aO G θ H ds xs):ow G θ H ds (Ob K a):=λθ' h' H' ev w=>by have ha':=ax _ _ _ _ (ev.same _ _ ha);have q:jz K H' a xs:=jz.of ha';refine⟨λi d e=>?_,⟨xs,q,by rw[<- Q0 r];grind⟩⟩;obtain⟨v,ev',rv⟩:=r.some e;refine⟨⟨xs,v,q,ev'⟩,λx H2 ⟨e2,y⟩=>?_⟩;subst e2;have:=y xs q;rw[ev']at this;cases this;exact⟨Ev.refl,w,rv.ev ev⟩
theorem KG(h:DE X E m e):DI X E (Bv m) tg e:=by
 simp[br,kC]at *
 exact PI.imp (DR h) λσ H R ⟨θ,h,ρ,w,fr,p⟩=>⟨θ,h,ρ,w,fr,(aD.bind p).mono λd θ1 h1 H1 _ _ ⟨ev,w1,p1⟩ v r=>by
   cases d with
   |dat d=>
    cases d with
    |tuple ds=>obtain⟨a,xs,e,ha,_,rr⟩:=gP r;exact⟨a,e,⟨xs,gB.of (ax _ _ _ _ ha)⟩,p1 θ1 H1 Ev.refl w1 _ (KC ha rr)⟩
    |_=>trivial
   |_=>trivial⟩
theorem KH(h:DE X E m e):DI X E (Es m) tg e:=by
 simp[br,kC]at *
 exact PI.imp (GG h) λσ H R ⟨θ,h,ρ,w,fr,p⟩=>⟨θ,h,ρ,w,fr,(aD.bind p).mono λd θ1 h1 H1 _ _ ⟨ev,w1,p1⟩ v r=>by
   cases d with
   |dat d=>
    cases d with
    |list ds=>obtain⟨a,xs,e,ha,_,rr⟩:=gQ r;exact⟨a,e,⟨xs,jz.of (ax _ _ _ _ ha)⟩,p1 θ1 H1 Ev.refl w1 _ (KD ha rr)⟩
    |_=>trivial
   |_=>trivial⟩
theorem BJ(s:PyData.strOk x=true):PyData.strOk ⟨#[x.cps.getD i 0]⟩=true:=by
 have q:=Array.all_eq_true.mp s;apply Array.all_eq_true.mpr;intro j hj;by_cases hi:i<x.cps.size
 ·simp_all
 simp_all
theorem KI(h:DE X E m e):DI X E (Et m) tg e:=by
 simp only[br,kC]at *
 exact PI.imp (Kk h) λσ H R ⟨θ,h,ρ,w,fr,p⟩=>⟨θ,h,ρ,w,fr,(aD.bind p).mono λd θ1 h1 H1 _ _ ⟨ev,w1,p1⟩ v r=>by
   cases d with
   |dat d=>
    cases d with
    |str s=>obtain⟨r1,r2⟩:=r;refine⟨s,r1,p1 θ1 H1 Ev.refl w1 _ λθ' h' H' ev w=>⟨λi d e=>?_,by show(signs s).length=_;simp[signs]⟩⟩;simp only[signs,RP,RH]at e;obtain⟨j,e1,e2⟩:=e;obtain⟨hj,e3⟩:=QV.mp e1;simp at hj e3;subst e3;subst e2;refine⟨hj,λx H2 ⟨z1,z2⟩=>?_⟩;subst z1;subst z2;exact⟨Ev.refl,w,rfl,by simp only[cX];exact BJ (by simpa [cX]using r2)⟩
    |_=>exact p1.elim
   |_=>exact p1.elim⟩
theorem He:ow G θ H (nums lo n) (Nq lo n):=λθ' h' H' ev w=>by refine⟨λi d e=>?_,by show n<=(nums lo n).length;simp[nums]⟩;simp[nums]at e;obtain⟨j,e1,e2⟩:=e;obtain⟨hj,e3⟩:=QV.mp e1;simp at hj e3;subst e3;subst e2;refine⟨hj,λx H2 ⟨z1,z2⟩=>?_⟩;subst z1;subst z2;exact⟨Ev.refl,w,rfl,by rfl⟩
theorem bY(r:bR G θ H (.int j) v):v=.int j:=r.1
theorem BK{tg a:Expr}(hg:Gl X "range")(hm:X.mg "range" = none)(ha:DA X E ma [a])(hs:starEach [a] X.env=[(false,eval a X.env)]:=by rfl):DI X E (qf ma) tg (.Call (.Name "range" p') [a] [] pos'):=by
 simp[jG,kC]at *
 exact PI.imp (CG hg hm ha hs) λσ H R ⟨θ,h,ρ,w,fr,p⟩=>⟨θ,h,ρ,w,fr,(aD.bind p).mono λds θ1 h1 H1 _ _ ⟨ev,w1,p1⟩ vs r=>by
   split at p1
   ·split at p1
    ·rename_i j _ hj
     cases r with
     |cons r1 rr=>cases rr;cases bY r1;exact⟨j,rfl,hj.1,hj.2,p1 θ1 H1 Ev.refl w1 _ He⟩
    ·trivial
   ·trivial⟩
theorem yr:∀(xs ys:UJ),(wH xs ys).length=min xs.length ys.length
 | [],_=>by rfl
 |_::_,[]=>by rfl
 |x::xs,y::ys=>by simp[wH,yr xs ys]
theorem yt:∀(xs ys:UJ) (i:Nat) (d:D),(wH xs ys)[i]?=some d->∃x y,xs[i]?=some x/\ys[i]?=some y/\d=.dat (.tuple [x,y])
 | [],_,i,d,e=>by trivial
 |_::_,[],i,d,e=>by trivial
 |x::xs,y::ys,0,d,e=>by grind[wH]
 |x::xs,y::ys,i+1,d,e=>by simpa using yt xs ys i d (by assumption)
theorem ox:∀{ds:UJ} {i:Nat} {d:PyData},cE ds=true->ds[i]?=some d->cX d=true
 | [],i,d,_,e=>by simp at e
 |x::xs,0,d,s,e=>by grind[cE]
 |x::xs,i+1,d,s,e=>by simp[cE]at s;exact ox (i:=i) s.2 (by simp_all)
theorem KJ{kk:Nat}{es:UO}{tpos:Pos}{p' pos':Pos}(hg:Gl X "zip")(hm:X.mg "zip" = none)(ha:DA X E ma [e1,e2])(hs:starEach [e1,e2] X.env=[(false,eval e1 X.env),(false,eval e2 X.env)]:=by rfl)(hs2:starEach [e2] X.env=[(false,eval e2 X.env)]:=by rfl) :
  DI X E (Bw ma) (.Tuple es kk tpos) (.Call (.Name "zip" p') [e1,e2] [] pos'):=by
 simp only[jG,kC]at *
 exact PI.imp (Kc hg hm ha hs hs2) λσ H R ⟨θ,h,ρ,w,fr,p⟩=>⟨θ,h,ρ,w,fr,(aD.bind p).mono λds θ1 h1 H1 _ _ ⟨ev,w1,p1⟩ vs r=>by
   split at p1
   ·rename_i xs ys _
    cases r with
    |cons r1 rr=>
     cases rr with
     |cons r2 rr=>
      cases rr;have s1:cE xs=true:=by simpa [cX]using r1.2
      have s2:cE ys=true:=by simpa [cX]using r2.2
      obtain⟨a1,us,rfl,ha1,q1,_⟩:=gP r1;obtain⟨a2,ws,rfl,ha2,q2,_⟩:=gP r2;refine⟨a1,a2,us,ws,rfl,gB.of (ax _ _ _ _ ha1),gB.of (ax _ _ _ _ ha2),p1 θ1 H1 Ev.refl w1 _ λθ' h' H' ev' w'=>?_⟩;have k1:gB X.K H' a1 us:=gB.of (ax _ _ _ _ (ev'.same _ _ ha1));have k2:gB X.K H' a2 ws:=gB.of (ax _ _ _ _ (ev'.same _ _ ha2));have l1:=q1.length;have l2:=q2.length;refine⟨λi d e=>?_,⟨us,ws,k1,k2,by rw[yr,l1,l2];omega⟩⟩;obtain⟨x,y,ex,ey,rfl⟩:=yt _ _ _ _ e;obtain⟨u,eu,ru⟩:=bb.get' q1 ex;obtain⟨z,ez,rz⟩:=bb.get' q2 ey;refine⟨⟨us,ws,u,z,k1,k2,eu,ez⟩,λv H2 ⟨pp,x',y',e1,hp,e2,c1,c2⟩=>?_⟩;have:=c1 us k1;rw[eu]at this;cases this;have:=c2 ws k2;rw[ez]at this;cases this;subst e1;subst e2;obtain⟨e3,w3,g3⟩:=w'.put (o:=.tup [u,z]) hp;exact⟨e3,w3,⟨pp,[u,z],rfl,g3,.cons (ru.same (ev'.same.trans e3.same)) (.one (rz.same (ev'.same.trans e3.same)))⟩,by simp[cX,cE,ox s1 ex,ox s2 ey]⟩
   ·exact p1.elim⟩
abbrev fP:XK:=λ_ _ _=>False
theorem aD.cM{f:α->Hm->R β}(p:aD G F θ H (r.uF.bind f) L) :
  aD G F' θ H r λa θ1 h1 H1=>Ev θ H θ1 H1/\W G θ1 h1 H1/\aD G F θ1 H1 (f a h1) L:=by
 cases r with
 |ok a h'=>exact λθ1 H1 e w=>⟨e,w,aD.later p e⟩
 |exc x h'=>trivial
 |bad=>trivial
theorem PS.LH{t:TS}(h:PS X.LH st t):PS X st t:=λpins s σ H D I hw=>
 RO (h pins s σ H D (I.ur _) hw) (λ_ _ q=>q.kI) λ_ _ z=>False.elim z
end
end Ml
namespace L2
open PySem PySem.Spec PyProof.Rows
theorem IK.Qq{K:UM}{st:Stmt}(F:IK K x qual st f fd)(S:aN N ps (aC st))(len:∀vs H Q E,sp vs H Q E->vs.length=ps.length)
 (hbody:∀(cdv:Value) (A:UW) (outer:List Env) (s:UX) (H:Hp) (vs:List V) (Q:VK) (E:XK),cg k (A.deeper (envOfC qual (aC st) s.heap.objs.size f cdv))->sp vs H Q E ->
   ∃t,zL (uv (uo P w) P w K mg base N qual (aC st) f cdv A outer s H E) (fj st) t/\t {nx:=λ_ H'=>Q .non H',rt:=Q} (start N vs) H):jA P w K mg base (uo P w) (k+1) f fd ps sp:=by
 obtain⟨oc,od,kV,doc,pm,an,cdv,ct,osl,rfl,lk,hcd⟩:=F.ex;exact Mk lk hcd S len λA outer s H vs Q E hr hsp=>hbody cdv A outer s H vs Q E hr hsp
structure EE(P:UT)(w:World)(K:UM)(mg:UI)(base:Heap)(x:Str)(ps:UN)(k:Nat)(sp:Sp):Prop where
 ex:∃(f:Addr) (fd:FuncData),mg x=some (.ref f)/\PySem.W.keepIn K (.ref f)=true/\Binds K fd ps []/\jA P w K mg base (uo P w) k f fd ps sp
section
variable {X:Cx} {x:Str} {ps:UN} {k:Nat} {sp:Sp} {e:Expr} {es:UO} {t:TA} {p pos:Pos}
theorem KL(F:EE X.prog X.w X.K X.mg X.base x ps k sp)(hx:Passes (uo X.prog X.w) X E)(hr:cg k X.A)(hg:Gl X x)(ha:PA X (e::es) t)(hdb:(x==("__debug__" : Str))=false:=by decide)(he:starEach (e::es) X.env=(false,eval e X.env)::starEach es X.env:=by rfl)
 (hpl:(backTo pos (starEach es X.env)).any (·.1)=false:=by rfl):PE X (.Call (.Name x p) (e::es) [] pos) (D2 sp [] E t):=by
 obtain⟨f,fd,h1,h2,h3,h4⟩:=F.ex;exact GN h4 hr hg h1 h2 h3 .nil hx ha hdb he hpl
end
end L2
namespace Ml
open PySem PySem.Spec L2
section
variable {X:Cx} {E:XK} {m:ME} {a b:MS} {t:MT} {e e1 tg:Expr} {st:Stmt} {ss ss':List Stmt} {ma it:MA} {pos:Pos} {i:Nat} {x:Str} {g:MG}
theorem EF(hJ:ow G θ1 H1 xs J)(w1:W G θ1 h1 H1)(fr:Fr G θ1 H1 ρ σ)(p1:aD G F θ1 H1 (dh g b xs ρ h1) (KS G C)) :
  ∃W':Nat->Nat->St->Hp->Prop,(∃m,W' 0 m σ H1)/\∀i m σ H,W' i m σ H ->
   (J.stop i H/\C.nx σ H)\/(J.go i H/\∃N:St->Hp->Prop,(∀σ' H',N σ' H'->∃m',m'<m/\W' (i+1) m' σ' H')/\∀x H',J.yld i H x H'->lG G fP g x σ H' λσ2 H2=>lS G fP b {C with nx:=N,ct:=N,bk:=C.nx} σ2 H2):=by
 refine⟨λi m σ H=>m=xs.length-i/\i<=xs.length/\∃θ' h' ρ',Ev θ1 H1 θ' H/\W G θ' h' H/\Fr G θ' H ρ' σ/\aD G F θ' H (dh g b (xs.drop i) ρ' h') (KS G C),⟨xs.length,by simp,RV _,θ1,h1,ρ,Ev.refl,w1,fr,p1⟩,?_⟩;rintro i m σ H ⟨rfl,hi,θ',h',ρ',ev,w,fr',p⟩;obtain⟨j1,j2⟩:=hJ θ' h' H ev w;by_cases hlt:i<xs.length
 ·have ed:xs.drop i=xs[i]::xs.drop (i+1):=RF hlt;rw[ed]at p;obtain⟨g1,g2⟩:=j1 i xs[i] (QP hlt);refine .inr ⟨g1,λσ2 H2=>i+1<=xs.length/\∃θ' h' ρ',Ev θ1 H1 θ' H2/\W G θ' h' H2/\Fr G θ' H2 ρ' σ2/\aD G F θ' H2 (dh g b (xs.drop (i+1)) ρ' h') (KS G C),λσ' H' q=>⟨xs.length-(i+1),by omega,rfl,q⟩,λx H2 y=>?_⟩;obtain⟨e2,w2,r2⟩:=g2 x H2 y;refine⟨θ',h',ρ',xs[i],w2,fr'.ev e2,r2,(aD.cM (p.later e2)).mono λρ3 θ3 h3 H3 _ _ ⟨e3,w3,p3⟩ σ3 fr3=>⟨θ3,h3,ρ3,w3,fr3,(aD.cM p3).mono λf θ4 h4 H4 _ _ ⟨e4,w4,p4⟩=>?_⟩⟩;have ev4:=(ev.trans e2).trans (e3.trans e4)
  cases f with
  |nx ρ5=>exact λσ5 fr5=>⟨hlt,θ4,h4,ρ5,ev4,w4,fr5,p4⟩
  |ct ρ5=>exact λσ5 fr5=>⟨hlt,θ4,h4,ρ5,ev4,w4,fr5,p4⟩
  |bk ρ5=>exact p4 θ4 H4 Ev.refl w4
  |rt d=>exact p4 θ4 H4 Ev.refl w4
 ·have hx:i=xs.length:=by omega
  subst hx;rw[RK (QE _)]at p;exact .inl ⟨j2,p θ' H Ev.refl w σ fr'⟩
theorem nB(hc:X.calm=true)(hi:DI X.LH fP it tg e)(hg:DG X.LH fP g tg)(hb:EC X.LH fP b body)(hs:∀x,foldedSetIterable e X.env x=pure x:=by intro _;rfl):DS X E (pC it g b) (.For tg e body [] pos):=by simp[jH,pH,mT,kC]at *;exact PS.LH (PS.imp (JF PassesOwn.never hc hi hg hb hs) λC σ H ⟨θ,h,ρ,w,fr,p⟩=>⟨θ,h,ρ,w,fr,(aD.cM p).mono λxs θ1 h1 H1 _ _ ⟨ev,w1,p1⟩ J hJ=>EF hJ w1 (fr.ev ev) p1⟩)
theorem eU:∀{xs ys:List α} {us ws:List β},Paired G xs us->Paired G ys ws->Paired G (xs++ys) (us++ws)
 |_,_,_,_,.nil,s=>s
 |_,_,_,_,.cons r t,s=>.cons r (eU t s)
theorem C6(hJ:ow G θ1 H1 xs J)(w1:W G θ1 h1 H1)(fr:Fr G θ1 H1 ρ σ)(p1:aD G F θ1 H1 ((dE n ρ g t m xs h1).bind mk) (KV G Q))
 (hmk:∀ys vs θ h H,ys.length<=xs.length->W G θ h H->aO G θ H ys vs->aD G F θ H (mk ys h) (KV G Q)->∀p,H p=none->Q (.ref p) (upd H p (.lst vs)))(hz:xs.length<=sizeLine) :
  D9 n J (lG G fP g) (lT G fP t) (lE G fP m) σ H1 Q:=by
 refine⟨λi m' ys H=>m'=xs.length-i/\i<=xs.length/\∃θ' h' acc,acc.length<=i/\Ev θ1 H1 θ' H/\W G θ' h' H/\aO G θ' H acc ys/\aD G F θ' H ((dE n ρ g t m (xs.drop i) h').bind λzs h2=>mk (acc++zs) h2) (KV G Q),
  ⟨xs.length,by simp,RV _,θ1,h1,[],QE _,Ev.refl,w1,.nil,p1⟩,?_⟩
 rintro i m' ys H ⟨rfl,hi,θ',h',acc,hacc,ev,w,ra,p⟩;obtain⟨j1,j2⟩:=hJ θ' h' H ev w;have hly:ys.length<=sizeLine:=by rw[<- show acc.length=ys.length from Q0 ra];omega
 by_cases hlt:i<xs.length
 ·have ed:xs.drop i=xs[i]::xs.drop (i+1):=RF hlt;rw[ed]at p;obtain⟨g1,g2⟩:=j1 i xs[i] (QP hlt);refine .inr ⟨g1,hly,λys2 H2=>i+1<=xs.length/\∃θ' h' acc,acc.length<=i+1/\Ev θ1 H1 θ' H2/\W G θ' h' H2/\aO G θ' H2 acc ys2/\aD G F θ' H2 ((dE n ρ g t m (xs.drop (i+1)) h').bind λzs h2=>mk (acc++zs) h2) (KV G Q),λys' H' q=>⟨xs.length-(i+1),by omega,rfl,q⟩,λx H2 y=>?_⟩;obtain⟨e2,w2,r2⟩:=g2 x H2 y;have p2:=p.later e2;unfold dE at p2;simp only[R.bind_assoc]at p2;refine⟨θ',h',_,xs[i],w2,((fr.ev ev).ev e2).replicate n,r2,(aD.cM p2).mono λρ3 θ3 h3 H3 _ _ ⟨e3,w3,p3⟩ σ3 fr3=>⟨θ3,h3,ρ3,w3,fr3,(aD.cM p3).mono λc θ4 h4 H4 _ _ ⟨e4,w4,p4⟩=>?_⟩⟩;have ev4:=(ev.trans e2).trans (e3.trans e4);have ra4:=aO.ev (e2.trans (e3.trans e4)) ra
  cases c with
  |false=>exact⟨hlt,θ4,h4,acc,by omega,ev4,w4,ra4,p4⟩
  |true=>
   simp only[Rr,R.bind_assoc]at p4;refine⟨θ4,h4,ρ3,w4,fr3.ev e4,(aD.cM p4).mono λy θ5 h5 H5 _ _ ⟨e5,w5,p5⟩ v5 r5=>⟨hlt,θ5,h5,acc++[y],by simp;omega,ev4.trans e5,w5,?_,?_⟩⟩
   ·exact eU (aO.ev e5 ra4) (.cons r5 .nil)
   ·simp only[R.bind_assoc,R.aK]at p5;simpa using p5
 ·have hx:i=xs.length:=by omega
  subst hx;rw[RK (QE _)]at p;simp only[dE,R.aK,Ug]at p;exact .inl ⟨j2,hly,hmk acc ys θ' h' H hacc w ra p⟩
variable {own:UN} {scope:Scope} {elt:Expr} {ifs:UO}
@[irreducible] def Hf(X:Cx)(E:XK)(t:MT)(es:UO):Prop:=CT X es (lT X.G E t)
theorem pJ(X:Cx)(E:XK)(t:MT)(es:UO):Hf X E t es=(CT X es (lT X.G E t)):=by
 grind[Hf]
theorem iS:Hf X E dR []:=by simp[pJ]at *;exact λpins s σ H Q I ⟨θ,h,ρ,w,fr,p⟩=>GW pins s σ H Q I (p θ H Ev.refl w)
theorem gR(h:DT X E t e):Hf X E t [e]:=by simp[kR,pJ]at *;exact GX h
theorem BL{mk:List D->Hm->R D}(h:lE G E (af mk (kP n it g t m)) σ H Q)
 (hmk:∀ys vs θ h H,ys.length<=sizeLine->W G θ h H->aO G θ H ys vs->aD G (mJ G E) θ H (mk ys h) (KV G Q)->∀p,H p=none->Q (.ref p) (upd H p (.lst vs))) :
  Bo n (lI G E it) (lG G fP g) (lT G fP t) (lE G fP m) σ H Q:=by
 obtain⟨θ,h,ρ,w,fr,p⟩:=h;simp[af,kP,R.bind_assoc]at p;refine⟨θ,h,ρ,w,fr,(aD.bind p).mono λxs θ1 h1 H1 _ _ ⟨ev,w1,p1⟩ J hJ=>?_⟩;split at p1
 ·rename_i hz;exact C6 hJ w1 (fr.ev ev) p1 (λys vs θ h H hl=>hmk ys vs θ h H (QM hl (eh hz))) (eh hz)
 ·trivial
theorem nC(ys:List D)(vs:List V)(θ:UK)(h:Hm)(H:Hp)(w1:W G θ h H)(r1:aO G θ H ys vs)(p1:aD G F θ H (ie ys h) (KV G Q))(q:Addr)(hq:H q=none):Q (.ref q) (upd H q (.lst vs)):=by
 unfold ie at p1
 cases e:ic ys with
 |none=>rw[e]at p1;exact p1.elim
 |some ds=>
  rw[e]at p1;simp only at p1;split at p1
  ·obtain⟨e1,w2,g⟩:=w1.put hq;obtain⟨h1,h2⟩:=lY r1 e;exact p1 _ _ e1 w2 _ ⟨⟨q,vs,rfl,g,h1.same e1.same⟩,by assumption⟩
  ·trivial
theorem fu(own:UN)(CS:eR X.env.scope X.N own scope=true)(hc:X.calm=true)(hi:DI X E it tg e)(hg:∀C s2 H2 fp pins,DG (aq X own scope C s2 H2 fp pins) fP g tg)
 (ht:∀C s2 H2 fp pins,Hf (aq X own scope C s2 H2 fp pins) fP t ifs)(he:∀C s2 H2 fp pins,DE (aq X own scope C s2 H2 fp pins) fP m elt)(hs:∀x,foldedSetIterable e X.env x=pure x:=by intro _;rfl) :
  DE X E (cx own.length it g t m) (.ListComp elt [⟨tg,e,ifs,0⟩] scope pos):=by
 simp[br,mT,kC,pJ]at *;exact PE.imp (GY own CS hc hi hg ht he hs) λσ H Q q=>BL q λys vs θ h H _=>nC ys vs θ h H
theorem Hg{mk:List D->Hm->R D}(h:lS G E (cw i (af mk (kP n it g t m))) C σ H)
 (hmk:∀Q ys vs θ h H,ys.length<=sizeLine->W G θ h H->aO G θ H ys vs->aD G (mJ G E) θ H (mk ys h) (KV G Q)->∀p,H p=none->Q (.ref p) (upd H p (.lst vs))) :
  CD (Bo n (lI G E it) (lG G fP g) (lT G fP t) (lE G fP m)) (L2.aA i) C σ H:=by
 obtain⟨θ,h,ρ,w,fr,p⟩:=h;refine BL ⟨θ,h,ρ,w,fr,(aD.bind p).mono λd θ1 h1 H1 _ _ ⟨ev,w1,p1⟩ v r=>p1 θ1 H1 Ev.refl w1 _ ((fr.ev ev).set r)⟩ (hmk _)
theorem BM(own:UN){pos' spos:Pos}(hN:X.N.Nodup)(hxi:X.N[i]?=some x)(hx:X.env.scope.names.lookup x=some .local)(CS:eR X.env.scope X.N own scope=true)(hc:X.calm=true)(hi:DI X E it tg e)(hg:∀C s2 H2 fp pins,DG (aq X own scope C s2 H2 fp pins) fP g tg)
 (ht:∀C s2 H2 fp pins,Hf (aq X own scope C s2 H2 fp pins) fP t ifs)(he:∀C s2 H2 fp pins,DE (aq X own scope C s2 H2 fp pins) fP m elt)(hs:∀x,foldedSetIterable e X.env x=pure x:=by intro _;rfl)
 (hsw:swapsWith (.ListComp elt [⟨tg,e,ifs,0⟩] scope pos) (some (.Name x pos')) spos.line X.env=pure true:=by rfl):DS X E (cw i (cx own.length it g t m)) (.Assign [.Name x pos'] (.ListComp elt [⟨tg,e,ifs,0⟩] scope pos) spos):=by
 simp[br,jH,mT,kC,pJ]at *;exact PS.imp (GZ own hN hxi hx CS hc hi hg ht he hs hsw) λC σ H q=>Hg q λQ ys vs θ h H _=>nC ys vs θ h H
end
def Gn(G:Gx)(F:Fn):Sp:=λvs H Q E=>∃θ h ds,W G θ h H/\aO G θ H ds vs/\aD G (mJ G E) θ H (F ds h) (KV G Q)
def EG(F:Fn)(n:Nat):Prop:=∀ds h,ds.length≠n->F ds h=.bad
theorem Hh(ar:EG F n):∀vs H Q E,Gn G F vs H Q E->vs.length=n:=λvs H Q E ⟨θ,h,ds,w,r,p⟩=>by
 by_cases e:ds.length=n
 ·rw[<- e];exact(Q0 r).symm
 ·rw[ar ds h e]at p;exact p.elim
theorem vq:EG (bE p n b) p:=λds h e=>by simp[bE,e]
structure bf(P:UT)(w:World)(K:UM)(mg:UI)(base:Heap)(x:Str)(ps:UN)(k:Nat)(F:Fn):Prop where
 has:EE P w K mg base x ps k (Gn ⟨P,w,mg,K⟩ F)
 ar:EG F ps.length
section
variable {P:UT} {w:World} {K:UM} {mg:UI} {base:Heap} {x qual:Str} {st:Stmt} {f:Addr} {fd:FuncData} {N ps:UN} {k:Nat} {b:MS} {F:Fn}
theorem Fr.start{n:Nat}(r:aO G θ H ds vs)(hl:ds.length=ps.length):Fr G θ H (ds.map some++List.replicate (N.length-ps.length) none) (start N vs):=by
 have hv:ds.length=vs.length:=Q0 r;unfold L2.start;rw[<- hv,hl];refine⟨by simp_all,λi d e=>?_⟩;by_cases hi:i<ds.length
 ·rw[Q8 (by simp_all)]at e;rw[Q8 (by simp_all)];simp only[RP]at e ⊢
  cases e1:ds[i]? with
  |none=>grind
  |some d'=>rw[e1]at e;simp at e;subst e;obtain⟨v,e2,rv⟩:=r.some e1;exact⟨v,by simp_all,rv⟩
 ·rw[Rk (by simpa using hi),SO]at e;split at e<;>cases e
theorem PQ(Fu:IK K x qual st f fd)(S:aN N ps (aC st))(hbody:∀(cdv:Value) (A:UW) (outer:List Env) (s:UX) (H:Hp) (E:XK),cg k (A.deeper (PyProof.Rows.envOfC qual (aC st) s.heap.objs.size f cdv)) ->
   EC (uv (uo P w) P w K mg base N qual (aC st) f cdv A outer s H E) E b (fj st)):jA P w K mg base (uo P w) (k+1) f fd ps (Gn ⟨P,w,mg,K⟩ (bE ps.length N.length b)):=by
 simp[pH]at *;refine Fu.Qq S (Hh vq) λcdv A outer s H vs Q E hr ⟨θ,h,ds,w,r,p⟩=>⟨_,hbody cdv A outer s H E hr,?_⟩;unfold bE at p;split at p
 ·rename_i hl;refine⟨θ,h,_,w,Fr.start (n:=0) r hl,(aD.bind p).mono λfl θ1 h1 H1 _ _ ⟨ev,w1,p1⟩=>?_⟩
  cases fl with
  |nx ρ=>exact λσ fr=>p1 θ1 H1 Ev.refl w1 _ ⟨rfl,by rfl⟩
  |rt d=>exact p1 θ1 H1 Ev.refl w1
  |bk ρ=>trivial
  |ct ρ=>trivial
 ·trivial
theorem bf.mono(h:bf P w K mg base x ps j F)(l:j<=k):bf P w K mg base x ps k F:=by obtain⟨⟨f,fd,h1,h2,h3,h4⟩,ar⟩:=h;exact⟨⟨f,fd,h1,h2,h3,h4.mono l⟩,ar⟩
theorem bf.eq(h:bf P w K mg base x ps k F)(e:F=F'):bf P w K mg base x ps k F':=e▸h
end
section
variable {X:Cx} {E:XK} {x:Str} {ps:UN} {k:Nat} {F:Fn} {e:Expr} {es:UO} {ma:MA} {p pos:Pos}
theorem de:Passes (uo X.prog X.w) X fP:=λ_ _ _ _ _ _ _ ⟨_,_,_,_,_,_,_,_,_,_,_,_,_,h⟩=>h.elim
theorem MI(F':bf X.prog X.w X.K X.mg X.base x ps k F)(hx:Passes (uo X.prog X.w) X E)(hr:cg k X.A)(hg:Gl X x)(ha:DA X E ma (e::es))(hdb:(x==("__debug__" : Str))=false:=by decide)(he:starEach (e::es) X.env=(false,eval e X.env)::starEach es X.env:=by rfl)
 (hpl:(backTo pos (starEach es X.env)).any (·.1)=false:=by rfl):DE X E (af F ma) (.Call (.Name x p) (e::es) [] pos):=by
 simp only[br,jG]at *;exact PE.imp (KL F'.has hx hr hg ha hdb he hpl) λσ H Q ⟨θ,h,ρ,w,fr,p⟩=>⟨θ,h,ρ,w,fr,(aD.bind p).mono λxs θ1 h1 H1 _ _ ⟨ev,w1,p1⟩ vs r=>⟨θ1,h1,xs,w1,by grind,p1⟩⟩
theorem EH(F':bf X.prog X.w X.K X.mg X.base x [] k F)(hx:Passes (uo X.prog X.w) X E)(hr:cg k X.A)(hg:Gl X x)(hdb:(x==("__debug__" : Str))=false:=by decide):DE X E (af F ah) (.Call (.Name x p) [] [] pos):=by simp only[br]at *;obtain⟨f,fd,h1,h2,h3,h4⟩:=F'.has.ex;exact PE.imp (D3 h4 hr hg h1 h2 h3 .nil hx hdb) λσ H Q ⟨θ,h,ρ,w,fr,p⟩=>⟨θ,h,[],w,.nil,p⟩
end
theorem C7(hx:(match x with|.int _|.str _|.bool _|.none=>true|_=>false)=true)(r:RelV (Kv x) u):Reads h u x []:=by
 cases x with
 |none=>cases r;exact .none
 |bool b=>cases r;exact .bool b
 |int i=>obtain⟨t,rfl⟩:=r;exact .int i t
 |str s=>obtain⟨t,rfl⟩:=r;exact .str s t
 |_=>cases hx
theorem jW:∀{xs:UJ} {us:UL},(∀x∈xs,(match x with|.int _|.str _|.bool _|.none=>true|_=>false)=true)->Vals (xs.map Kv) us->ReadsAll h us xs []
 | [],us,_,r=>by cases r;exact .nil
 |x::xs,us,hx,r=>by
  cases r with
  |cons r1 r2=>exact .cons (C7 (hx x (by simp)) r1) (jW (λy m=>hx y (by simp[m])) r2)
section
variable {X:Cx} {pins:UE} {σ:L2.St} {H:Hp} {s:UX} {θ:UK} {hm:Hm}
theorem f7(I:Inv X pins σ H s)(w:W X.G θ hm H):∀(n:Nat) {x:D} {v:V} {u:Value} {d:PyData},bR X.G θ H x v->RelV v u->Aj hm n x=some d->(∃as,Reads s.heap u d as)/\cX d=true:=by
 intro n
 induction n with
 |zero=>
  intro x v u d r rv e
  cases x with
  |dat d'=>simp only[Aj]at e;cases e;exact⟨Rep.reads I (r.1.same (ax _ _)) rv,r.2⟩
  |ktup xs=>simp only[Aj]at e;cases e;obtain⟨a,rfl,⟨o,its,k,hl,hc,hd,_,vs⟩,hx,hs⟩:=r;cases rv;exact⟨⟨_,.tuple (I.uk _ _ hl) hc hd (jW hx vs)⟩,by assumption⟩
  |_=>simp[Aj]at e
 |succ n ih=>
  intro x v u d r rv e
  cases x with
  |dat d'=>simp only[Aj]at e;cases e;exact⟨Rep.reads I (r.1.same (ax _ _)) rv,r.2⟩
  |ktup xs=>simp only[Aj]at e;cases e;obtain⟨a,rfl,⟨o,its,k,hl,hc,hd,_,vs⟩,hx,hs⟩:=r;cases rv;exact⟨⟨_,.tuple (I.uk _ _ hl) hc hd (jW hx vs)⟩,by simpa [cX]using hs⟩
  |ref i=>
   simp only[Aj]at e;obtain⟨a,ha,rfl⟩:=r;cases rv
   cases e1:hm[i]? with
   |none=>rw[e1]at e;cases e
   |some o=>
    rw[e1]at e
    cases o with
    |lst xs=>
     simp only at e;obtain⟨vs,hv,rs⟩:=w.obj i a _ ha e1;obtain⟨_,its,k,rvs,ho⟩:=I.hok a _ hv
     have all:∀{xs:List D} {vs:List V} {us:UL} {ds:UJ},aO X.G θ H xs vs->Vals vs us->mG (Aj hm n) xs=some ds->(∃as,ReadsAll s.heap us ds as)/\cE ds=true:=by
      intro xs
      induction xs with
      |nil=>intro vs us ds r1 r2 e;cases r1;cases r2;cases e;exact⟨⟨_,.nil⟩,by simp[cE]⟩
      |cons x xs ihx=>
       intro vs us ds r1 r2 e
       cases r1 with
       |cons p1 p2=>
        cases r2 with
        |cons q1 q2=>
         unfold mG at e
         cases e2:Aj hm n x with
         |none=>rw[e2]at e;cases e
         |some d=>
          cases e3:mG (Aj hm n) xs with
          |none=>rw[e2,e3]at e;cases e
          |some ds'=>rw[e2,e3]at e;cases e;obtain⟨⟨as,z1⟩,s1⟩:=ih p1 q1 e2;obtain⟨⟨bs,z2⟩,s2⟩:=ihx p2 q2 e3;exact⟨⟨_,.cons z1 z2⟩,by simp[cE,s1,s2]⟩
     cases e2:mG (Aj hm n) xs with
     |none=>rw[e2]at e;cases e
     |some ds=>rw[e2]at e;cases e;obtain⟨⟨as,z⟩,s1⟩:=all rs rvs e2;exact⟨⟨_,.list ho rfl rfl (by simpa using z)⟩,by simpa [cX]using s1⟩
    |_=>cases e
  |_=>simp[Aj]at e
end
end Ml
namespace PySem.SeqAt
open PySem PySem.MeetsSeq PySem.AutoSeq1
theorem rZ(t:Addr)(its:UR)(m:Nat)(d2:Option Addr)(sl2:UP)(l:Addr)(es:UQ)(n:Nat)(dd:Option Addr)(sl:UP) :
  Meets (Builtin.«tuple.__eq__» ⟨[.ref t,.ref l],[]⟩) (λ_ R s=>s.heap.get? t=some {cls:=.type "tuple",dict:=d2,data:=.seq its m,slots:=sl2}/\s.heap.get? l=some {cls:=.type "dict",dict:=dd,data:=.dict es n,slots:=sl}/\R (.ok (.ret .notImplemented)) s):=
 .of_wp λprog w A R s h=>by
  obtain⟨hp,g,d,tk,os⟩:=s;obtain⟨ht,hl,h⟩:=h;have f1:=F.sub_dict_tuple
  wp_walk using wpAny_loadPart' hl,TN hl,wpAny_loadPart' ht,TN ht
  grind
theorem si(t:Addr)(its:UR)(m:Nat)(d2:Option Addr)(sl2:UP)(l:Addr)(es:UQ)(n:Nat)(dd:Option Addr)(sl:UP) :
  Meets (Builtin.«dict.__eq__» ⟨[.ref l,.ref t],[]⟩) (λ_ R s=>s.heap.get? t=some {cls:=.type "tuple",dict:=d2,data:=.seq its m,slots:=sl2}/\s.heap.get? l=some {cls:=.type "dict",dict:=dd,data:=.dict es n,slots:=sl}/\R (.ok (.ret .notImplemented)) s):=
 .of_wp λprog w A R s h=>by
  obtain⟨hp,g,d,tk,os⟩:=s;obtain⟨ht,hl,h⟩:=h;have f1:=F.sub_tuple_dict
  wp_walk using wpAny_loadPart' hl,TN hl,wpAny_loadPart' ht,TN ht
  grind
theorem sj{h:Heap}(ht:h.get? t=some {cls:=.type "tuple",dict:=d2,data:=.seq its m,slots:=sl2})
 (hl:h.get? l=some {cls:=.type "dict",dict:=dd,data:=.dict es n,slots:=sl}):t≠l:=λe=>by
 grind
theorem RcAt.wQ(ht:s.heap.get? t=some {cls:=.type "tuple",dict:=d2,data:=.seq its m,slots:=sl2})
 (hl:s.heap.get? l=some {cls:=.type "dict",dict:=dd,data:=.dict es n,slots:=sl})(hu:A.units<cLine):RcAt A s (.ref t) (.ref l) false:=λprog w E Q h=>
 have ne  := sj ht hl
 rc_eq_decline_or ⟨_,ht,rfl⟩ ⟨_,hl,rfl⟩ (by decide) F.sub_dict_tuple Uk Ts
  (λ_ hq=>Tw Uk ⟨_,ht,rfl⟩ F.entry_tuple_eq (F.args_tuple_eq_2 _ _) (rZ t its m d2 sl2 l es n dd sl) ⟨ht,hl,hq⟩)
  (λ_ hq=>Tw Ts ⟨_,hl,rfl⟩ F.entry_dict_eq (F.args_dict_eq_2 _ _) (si t its m d2 sl2 l es n dd sl) ⟨ht,hl,hq⟩)
  (λ_ hq=>wpAny_isSame_ref_other' ne ht hl (show Value.type "dict" ≠ Value.type "tuple" by decide) hq) (.inr hu) h
theorem EqAt.wQ(ht:s.heap.get? t=some {cls:=.type "tuple",dict:=d2,data:=.seq its m,slots:=sl2})
 (hl:s.heap.get? l=some {cls:=.type "dict",dict:=dd,data:=.dict es n,slots:=sl})(hu:A.units<cLine):EqAt A s (.ref t) (.ref l) false:=
 .of_refs (sj ht hl) (.wQ ht hl hu)
end PySem.SeqAt
namespace Ml
open PySem PySem.Spec L2
theorem Ao(sa:cX d=true)(sb:cX e=true)(h:eqQ d e=some k):d.canLay0=true/\e.canLay0=true/\min d.depth e.depth<=40/\k=PyData.eqv d e:=by
 unfold eqQ at h;split at h
 ·rename_i hn;simp[noDict]at hn;cases h;exact⟨jk sa hn.1.1,jk sb hn.1.2,hn.2,rfl⟩
 grind
theorem KN(ra:Reads s.heap a d as)(rb:Reads s.heap b e bs)(sa:cX d=true)(sb:cX e=true)(hu:A.units+41<cLine)(h:C2 d e=some k):SeqAt.EqAt A s a b k/\d.canLay0=true:=by
 unfold C2 at h;split at h
 ·cases h;cases ra
  cases rb with
  | @dict a' o' es n kvs as1 bs1 h1 h2 h3 h4 h5=>obtain⟨oc,od,dat,osl⟩:=o';cases h2;cases h3;exact⟨SeqAt.EqAt.Ha _ _ h1 (by omega),by assumption⟩
 ·split at h
  ·rename_i hn;simp only[noDict,Bool.not_eq_true']at hn;cases h;have hl:=jk sa hn
   cases ra with
   | @tuple l o vs m xs as1 g1 g2 g3 g4=>
    obtain⟨oc2,od2,dat2,osl2⟩:=o;cases g2;cases g3
    cases rb with
    | @dict a' o' es n kvs as1 bs1 h1 h2 h3 h4 h5=>obtain⟨oc,od,dat,osl⟩:=o';cases h2;cases h3;exact⟨SeqAt.EqAt.wQ g1 h1 (by omega),hl⟩
  grind
 ·obtain⟨l1,l2,l3,rfl⟩:=Ao sa sb h;exact⟨Ub _ _ A s a b as bs ra rb l1 l2 (by omega),l1⟩
theorem aD.lZ(p:aD G E θ H (.ok d h) (KV G Q))(w:W G θ h H)(r:bR G θ H d v):Q v H:=p θ H Ev.refl w v r
theorem cu(b:Bool):bR G θ H (.bool b) (.bl b):=⟨rfl,by rfl⟩
theorem cG(i:Int):bR G θ H (.int i) (.int i):=⟨rfl,by rfl⟩
theorem C8:bR G θ H D.none .non:=⟨rfl,by rfl⟩
section
variable {X:Cx} {E:XK} {k:Nat}
theorem Ap(hr:cg k X.A):ou X E (compareOp .Eq) oEq:=by
 intro pins s σ H x y v u Q I rx ry ⟨θ,h,d1,d2,w,r1,r2,p⟩;unfold oEq at p;split at p
 ·exact Mf pins s σ H x y v u Q I rx ry (by cases r1;cases r2;exact⟨rfl,by simpa using p.lZ w (cu _)⟩)
 ·cases e1:Gm h d1 with
  |none=>rw[e1]at p;exact p.elim
  |some d=>
   cases e2:Gm h d2 with
   |none=>rw[e1,e2]at p;exact p.elim
   |some e=>
    rw[e1,e2]at p;simp only at p
    cases e3:eqQ d e with
    |none=>rw[e3]at p;exact p.elim
    |some b=>rw[e3]at p;obtain⟨⟨as,z1⟩,s1⟩:=f7 I w 3 r1 rx e1;obtain⟨⟨bs,z2⟩,s2⟩:=f7 I w 3 r2 ry e2;obtain⟨l1,l2,l3,rfl⟩:=Ao s1 s2 e3;exact SeqAt.compareEq_reads z1 z2 l1 l2 (by have:=hr.units;omega) ⟨.bl _,H,I,rfl,p.lZ w (cu _)⟩
theorem C9(hr:cg k X.A):ou X E (compareOp .NotEq) vm:=by
 intro pins s σ H x y v u Q I rx ry ⟨θ,h,d1,d2,w,r1,r2,p⟩;unfold vm at p;split at p
 ·exact Mg pins s σ H x y v u Q I rx ry (by cases r1;cases r2;exact⟨rfl,by simpa using p.lZ w (cu _)⟩)
 ·cases e1:Gm h d1 with
  |none=>rw[e1]at p;exact p.elim
  |some d=>
   cases e2:Gm h d2 with
   |none=>rw[e1,e2]at p;exact p.elim
   |some e=>
    rw[e1,e2]at p;simp only at p
    cases e3:eqQ d e with
    |none=>rw[e3]at p;exact p.elim
    |some b=>rw[e3]at p;obtain⟨⟨as,z1⟩,s1⟩:=f7 I w 3 r1 rx e1;obtain⟨⟨bs,z2⟩,s2⟩:=f7 I w 3 r2 ry e2;obtain⟨l1,l2,l3,rfl⟩:=Ao s1 s2 e3;exact SeqAt.compareNe_reads z1 z2 l1 l2 (by have:=hr.units;omega) ⟨.bl _,H,I,rfl,p.lZ w (cu _)⟩
theorem wR(rx:Reads s.heap x d bs)(sx:cX d=true)(hu:A.units+41<cLine):∀{vs:UL} {ds:UJ} {as:UK} {b:Bool},ReadsAll s.heap vs ds as->cE ds=true->Ew d ds=some b ->
  (∀y∈vs,SeqAt.EqAt A s y x ((C2 (SeqAt.readOf s.heap y) d).getD false))/\(vs.any λy=>(C2 (SeqAt.readOf s.heap y) d).getD false)=b
 | [],_,_,b,.nil,_,e=>by cases e;grind
 |v::vs,_,_,b,.cons (d:=d1) (ds:=ds) r1 r2,so,e=>by
  simp only[cE,QG]at so;unfold Ew at e
  cases e1:C2 d1 d with
  |none=>simp_all
  |some b1=>
   cases e2:Ew d ds with
   |none=>simp_all
   |some b2=>
    rw[e1,e2]at e;cases e;obtain⟨h1,h2⟩:=wR rx sx hu r2 so.2 e2;obtain⟨q1,q2⟩:=KN r1 rx so.1 sx hu e1;have er:SeqAt.readOf s.heap v=d1:=SeqAt.readOf_eq q2 r1
    grind
theorem EI(hr:cg k X.A){σ:L2.St}(hsq:sq=.tuple ds\/sq=.list ds)(I:Inv X pins σ H s)(z1:Reads s.heap v d as)(z2:Reads s.heap u sq bs)(s1:cX d=true)(s2:cE ds=true)(e:Ew d ds=some b) :
  (Q (.bl b) H->wpAny (model X.prog X.w) X.A (compareOp .In v u) (EP X pins σ Q) X.xe s)/\(Q (.bl !b) H->wpAny (model X.prog X.w) X.A (compareOp .NotIn v u) (EP X pins σ Q) X.xe s):=by
 have hu:X.A.in1.units+41<cLine:=by have:=hr.units;grind
 rcases hsq with rfl|rfl
 ·cases z2 with
  |tuple h1 h2 h3 h4=>
   obtain⟨q1,q2⟩:=wR (A:=X.A.in1) z1 s1 hu h4 s2 e;rename_i vs n;have q3:(vs.any λy=>(C2 (SeqAt.readOf s.heap y) d).getD false)=b:=by grind
   exact⟨λq=>SeqAt.in_tupleAt _ ⟨_,h1,h2,_,h3⟩ (λy m=>q1 y (SD.mpr m)) (by rw[q3];exact⟨.bl b,H,I,rfl,q⟩),λq=>SeqAt.notIn_tupleAt _ ⟨_,h1,h2,_,h3⟩ (λy m=>q1 y (SD.mpr m)) (by rw[q3];exact⟨.bl (!b),H,I,rfl,q⟩)⟩
 ·cases z2 with
  |list h1 h2 h3 h4=>
   obtain⟨q1,q2⟩:=wR (A:=X.A.in1) z1 s1 hu h4 s2 e;rename_i vs n _;have q3:(vs.any λy=>(C2 (SeqAt.readOf s.heap y) d).getD false)=b:=by rw[<- q2,<- Array.any_toList]
   exact⟨λq=>SeqAt.in_listAt _ ⟨_,h1,h2,_,h3⟩ (λy m=>q1 y (SD.mpr m)) (by rw[q3];exact⟨.bl b,H,I,rfl,q⟩),λq=>SeqAt.notIn_listAt _ ⟨_,h1,h2,_,h3⟩ (λy m=>q1 y (SD.mpr m)) (by rw[q3];exact⟨.bl (!b),H,I,rfl,q⟩)⟩
end
end Ml
namespace PySem.SeqAt
open PySem.AutoSeq1 (wpAny_loadPart')
open PySem.MeetsSeq PySem.MeetsSeq2 PySem.MeetsSeq3
def EJ(A:UW)(s:UX)(y x:Value)(b:Bool):Prop:=
 ∀(prog:UT) (w:World) (E:UD) (Q:UD),Q (.bool b) s->wpAny (model prog w) A (richCompare .Lt y x) Q E s
inductive mV (A:UW) (s:UX):UL->UL->Bool->Prop
 |nil:mV A s [] [] false
 |left {w ws}:mV A s [] (w::ws) true
 |right {v vs}:mV A s (v::vs) [] false
 |eq {v vs w ws k}:EqAt A s v w true->mV A s vs ws k->mV A s (v::vs) (w::ws) k
 |ne {v vs w ws k}:EqAt A s v w false->EJ A s v w k->mV A s (v::vs) (w::ws) k
theorem oy(l b:Addr)(its1 its2:UR)(n n2:Nat)(dd dd2:Option Addr)(sl sl2:UP)(k:Bool) :
  Meets (Builtin.«tuple.__lt__» ⟨[.ref l,.ref b],[]⟩) (λA R s=>s.heap.get? l=some {cls:=.type "tuple",dict:=dd,data:=.seq its1 n,slots:=sl}/\s.heap.get? b=some {cls:=.type "tuple",dict:=dd2,data:=.seq its2 n2,slots:=sl2}/\mV A.in1 s its1.toList its2.toList k/\R (.ok (.ret (.bool k))) s):=
 .of_wp λprog w A R s h=>by
  obtain⟨hp,g,d,tk,os⟩:=s;obtain⟨hl,hb,hx,h⟩:=h;have f2:=AutoSeq1.sub_tuple_tuple
  wp_walk using wpAny_loadPart' hl,wpAny_loadPart' hb,wpAny_forIn_list _ (λrest b s'=>b.1=none/\s'=⟨hp,g,d,tk,os⟩/\∃(vs ws:UL),rest=vs.zip ws/\mV A.in1 ⟨hp,g,d,tk,os⟩ vs ws k/\vs.length+its2.size=ws.length+its1.size/\R (.ok (.ret (.bool k))) ⟨hp,g,d,tk,os⟩) _
  case turn=>
   rintro⟨y,x⟩ rest b s' ⟨hb',rfl,vs,ws,hz,hx,hlen,hR⟩
   cases hx with
   |nil=>rw[List.zip_nil_left]at hz;cases hz
   |left=>rw[List.zip_nil_left]at hz;cases hz
   |right=>rw[List.zip_nil_right]at hz;cases hz
   | @eq v vs w' ws k he hx'=>
    rw[S6]at hz;injection hz with hyx hrest;injection hyx with hy hx;subst hy hx;simp only[QY]at hlen;refine QA (he prog w _ _ ?_)
    wp_walk
    exact⟨rfl,rfl,_,_,hrest,hx',by omega,hR⟩
   | @ne v vs w' ws k he hlt=>
    rw[S6]at hz;injection hz with hyx hrest;injection hyx with hy hx;subst hy hx;refine QA (he prog w _ _ ?_);have hri:=hlt prog w
    wp_walk using hri
    exact⟨_,rfl,by simpa using hR⟩
  case fin=>
   rintro⟨b1,b2⟩ s' ⟨hb',rfl,vs,ws,hz,hx,hlen,hR⟩;simp only at hb';subst hb'
   have hv:k=decide (its1.size<its2.size):=by
    cases hx with
    |nil=>simp only[RE]at hlen;exact(Rm (by omega)).symm
    |left=>simp only[RE,QY]at hlen;exact(Rg (by omega)).symm
    |right=>simp only[RE,QY]at hlen;exact(Rm (by omega)).symm
    |eq=>rw[S6]at hz;cases hz
    |ne=>rw[S6]at hz;cases hz
   rw[hv]at hR
   wp_walk
   exact⟨_,rfl,by simpa [Builtin.Tuple.tupleCompareSizes]using hR⟩
  case h=>exact⟨rfl,rfl,its1.toList,its2.toList,rfl,hx,by simp;omega,h⟩
theorem EJ.tuples(h1:s.heap.IsTuple l its1)(h2:s.heap.IsTuple b its2)(hu:A.units<cLine)(hx:mV A.in1 s its1.toList its2.toList k):EJ A s (.ref l) (.ref b) k:=λprog w E Q h=>by
 obtain⟨⟨c1,d1,e1,l1⟩,p1,g1,n1,z1⟩:=h1;obtain⟨⟨c2,d2,e2,l2⟩,p2,g2,n2,z2⟩:=h2;subst g1 z1 g2 z2
 exact richCompare_meets_room ⟨_,p1,rfl⟩ ⟨_,p2,rfl⟩ T6 PySem.F.entry_tuple_lt (PySem.F.args_tuple_lt_2 _ _) (oy l b _ _ n1 n2 d1 d2 l1 l2 k)
  ⟨p1,p2,hx,⟨(λx=>nomatch x),h⟩⟩ hu
end PySem.SeqAt
namespace Ml
open PySem PySem.Spec L2
open PySem.SeqAt
mutual
theorem oz:∀(d e:PyData) (A:UW) (s:UX) (a b:Value) (as bs:UK) (k:Bool),Reads s.heap a d as->Reads s.heap b e bs->d.canLay0=true->e.canLay0=true->A.units+min d.depth e.depth<cLine->bV d e=some k->EJ A s a b k
 |.int i,.int j,A,s,a,b,as,bs,k,ra,rb,_,_,_,h=>by cases ra;cases rb;simp only[bV]at h;cases h;exact λprog w E Q q=>(PyProof.Rows.lt_int q:wpAny (model prog w) A (compareOp .Lt _ _) Q E s)
 |.str x,.str y,A,s,a,b,as,bs,k,ra,rb,_,_,_,h=>by cases ra;cases rb;simp only[bV,nu]at h;cases h;exact λprog w E Q q=>(PySem.P.lt_str q:wpAny (model prog w) A (compareOp .Lt _ _) Q E s)
 |.tuple xs,.tuple ys,A,s,a,b,as,bs,k,ra,rb,ha,hb,hu,h=>by
  cases ra with
  |tuple g1 g2 g3 g4=>
   cases rb with
   |tuple k1 k2 k3 k4=>simp only[bV]at h;simp only[PyData.canLay0]at ha hb;simp only[PyData.depth]at hu;exact EJ.tuples ⟨_,g1,g2,_,g3⟩ ⟨_,k1,k2,_,k3⟩ (by omega) (pK xs ys A.in1 s _ _ _ _ k g4 k4 ha hb (by show A.units+1+_<_;omega) h)
 |.none,_,_,_,_,_,_,_,_,_,_,_,_,_,h=>by simp[bV]at h
 |.bool _,_,_,_,_,_,_,_,_,_,_,_,_,_,h=>by simp[bV]at h
 |.list _,_,_,_,_,_,_,_,_,_,_,_,_,_,h=>by simp[bV]at h
 |.dict _,_,_,_,_,_,_,_,_,_,_,_,_,_,h=>by simp[bV]at h
 |.int _,.none,_,_,_,_,_,_,_,_,_,_,_,_,h=>by simp[bV]at h
 |.int _,.bool _,_,_,_,_,_,_,_,_,_,_,_,_,h=>by simp[bV]at h
 |.int _,.str _,_,_,_,_,_,_,_,_,_,_,_,_,h=>by simp[bV]at h
 |.int _,.list _,_,_,_,_,_,_,_,_,_,_,_,_,h=>by simp[bV]at h
 |.int _,.tuple _,_,_,_,_,_,_,_,_,_,_,_,_,h=>by simp[bV]at h
 |.int _,.dict _,_,_,_,_,_,_,_,_,_,_,_,_,h=>by simp[bV]at h
 |.str _,.none,_,_,_,_,_,_,_,_,_,_,_,_,h=>by simp[bV]at h
 |.str _,.bool _,_,_,_,_,_,_,_,_,_,_,_,_,h=>by simp[bV]at h
 |.str _,.int _,_,_,_,_,_,_,_,_,_,_,_,_,h=>by simp[bV]at h
 |.str _,.list _,_,_,_,_,_,_,_,_,_,_,_,_,h=>by simp[bV]at h
 |.str _,.tuple _,_,_,_,_,_,_,_,_,_,_,_,_,h=>by simp[bV]at h
 |.str _,.dict _,_,_,_,_,_,_,_,_,_,_,_,_,h=>by simp[bV]at h
 |.tuple _,.none,_,_,_,_,_,_,_,_,_,_,_,_,h=>by simp[bV]at h
 |.tuple _,.bool _,_,_,_,_,_,_,_,_,_,_,_,_,h=>by simp[bV]at h
 |.tuple _,.int _,_,_,_,_,_,_,_,_,_,_,_,_,h=>by simp[bV]at h
 |.tuple _,.str _,_,_,_,_,_,_,_,_,_,_,_,_,h=>by simp[bV]at h
 |.tuple _,.list _,_,_,_,_,_,_,_,_,_,_,_,_,h=>by simp[bV]at h
 |.tuple _,.dict _,_,_,_,_,_,_,_,_,_,_,_,_,h=>by simp[bV]at h
theorem pK:∀(xs ys:UJ) (A:UW) (s:UX) (vs ws:UL) (as bs:UK) (k:Bool),ReadsAll s.heap vs xs as->ReadsAll s.heap ws ys bs->PyData.canLayAll0 xs=true->PyData.canLayAll0 ys=true->A.units+min (PyData.depthAll xs) (PyData.depthAll ys)<cLine->cV xs ys=some k->mV A s vs ws k
 | [],[],A,s,vs,ws,as,bs,k,ra,rb,_,_,_,h=>by cases ra;cases rb;simp only[cV]at h;cases h;exact .nil
 | [],_::_,A,s,vs,ws,as,bs,k,ra,rb,_,_,_,h=>by cases ra;cases rb;simp only[cV]at h;cases h;exact .left
 |_::_,[],A,s,vs,ws,as,bs,k,ra,rb,_,_,_,h=>by cases ra;cases rb;simp only[cV]at h;cases h;exact .right
 |x::xs,y::ys,A,s,vs,ws,as,bs,k,ra,rb,ha,hb,hu,h=>by
  cases ra with
  |cons r1 r2=>
   cases rb with
   |cons q1 q2=>
    simp only[PyData.canLayAll0,QG]at ha hb;simp only[PyData.depthAll]at hu;have he:=eqAt_reads x y A s _ _ _ _ r1 q1 ha.1 hb.1 (by omega);simp only[cV]at h
    cases hq:PyData.eqv x y with
    |true=>rw[hq]at he h;exact .eq he (pK xs ys A s _ _ _ _ k r2 q2 ha.2 hb.2 (by omega) (by simpa using h))
    |false=>rw[hq]at he h;exact .ne he (oz x y A s _ _ _ _ k r1 q1 ha.1 hb.1 (by omega) (by simpa using h))
end
section
variable {X:Cx} {E:XK} {k:Nat}
theorem KO(hr:cg k X.A):ou X E (compareOp .Lt) oLt:=by
 intro pins s σ H x y v u Q I rx ry ⟨θ,h,d1,d2,w,r1,r2,p⟩;unfold oLt at p
 cases d1 with
 |dat d=>
  cases d2 with
  |dat e=>
   simp only at p;split at p
   ·rename_i hn;simp only[QG,noDict,Bool.not_eq_true',Rj]at hn
    cases e3:bV d e with
    |none=>rw[e3]at p;exact p.elim
    |some b=>rw[e3]at p;obtain⟨⟨as,z1⟩,s1⟩:=f7 I w 3 r1 rx (Bx h 3 d);obtain⟨⟨bs,z2⟩,s2⟩:=f7 I w 3 r2 ry (Bx h 3 e);exact oz d e X.A s v u as bs b z1 z2 (jk s1 hn.1.1) (jk s2 hn.1.2) (by have:=hr.units;omega) e3 X.prog X.w X.xe _ ⟨.bl b,H,I,rfl,p.lZ w (cu b)⟩
   ·trivial
  |_=>trivial
 |_=>trivial
theorem IV(h:iH X op (rI C g))(k:∀θ hm H d1 d2 Q,W X.G θ hm H->aD X.G (mJ X.G E) θ H (f d1 d2 hm) (KV X.G Q)->∃i j,d1=.int i/\d2=.int j/\C i j/\Q (g i j) H):ou X E op f:=
 ou.of h λθ hm H d1 d2 x y Q w r1 r2 p=>by obtain⟨i,j,rfl,rfl,c,q⟩:=k θ hm H d1 d2 Q w p;exact⟨i,j,bY r1,bY r2,c,q⟩
theorem Aq(h:iH X op (IE g))(k:∀θ hm H d1 d2 Q,W X.G θ hm H->aD X.G (mJ X.G E) θ H (f d1 d2 hm) (KV X.G Q)->∃i j,d1=.int i/\d2=.int j/\Q (g i j) H):ou X E op f:=
 ou.of h λθ hm H d1 d2 x y Q w r1 r2 p=>by obtain⟨i,j,rfl,rfl,q⟩:=k θ hm H d1 d2 Q w p;exact⟨i,j,bY r1,bY r2,q⟩
theorem MJ:ou X E (binaryOp .Sub) Eu:=Aq JL λθ hm H d1 d2 Q w p=>by
 unfold Eu at p;split at p
 ·exact⟨_,_,rfl,rfl,p.lZ w (cG _)⟩
 ·trivial
theorem yu:ou X E (binaryOp .Mod) oMod:=IV JN λθ hm H d1 d2 Q w p=>by
 unfold oMod at p;split at p
 ·split at p
  ·rename_i hj;exact⟨_,_,rfl,rfl,hj,p.lZ w (cG _)⟩
  ·trivial
 ·trivial
theorem KP:ou X E (binaryOp .FloorDiv) vk:=IV GH λθ hm H d1 d2 Q w p=>by
 unfold vk at p;split at p
 ·split at p
  ·rename_i hj;exact⟨_,_,rfl,rfl,hj,p.lZ w (cG _)⟩
  ·trivial
 ·trivial
theorem MK:ou X E (compareOp .Gt) MC:=Aq Mi λθ hm H d1 d2 Q w p=>by
 unfold MC at p;split at p
 ·exact⟨_,_,rfl,rfl,p.lZ w (cu _)⟩
 ·trivial
theorem OL:ou X E (compareOp .GtE) MD:=Aq Mj λθ hm H d1 d2 Q w p=>by
 unfold MD at p;split at p
 ·exact⟨_,_,rfl,rfl,p.lZ w (cu _)⟩
 ·trivial
theorem Hi:ou X E (compareOp .LtE) oLe:=ou.of (iH.or Mh CW) λθ hm H d1 d2 x y Q w r1 r2 p=>by
 unfold oLe at p;split at p
 ·exact .inl ⟨_,_,bY r1,bY r2,p.lZ w (cu _)⟩
 ·exact .inr ⟨_,_,r1.1,r2.1,p.lZ w (cu _)⟩
 ·trivial
end
end Ml
set_option maxHeartbeats 1000000
namespace Ml
open PySem PySem.Spec L2 PyProof.Rows PySem.W
def qh:PyData->Nat
 |.int _=>0
 |.str _=>1
 |_=>2
def EK:Nat->String
 |0 => "int"
 |1 => "str"
 |_ => "tuple"
theorem sk(h1:h.get? a=some o)(h2:o.cls=.type "tuple"):Looks M h (typeOf (.ref a)) (.type "tuple"):=by obtain⟨oc,od,dat,osl⟩:=o;cases h2;exact(Looks.ld h1).andThen .now
theorem Dc(r:Reads h v d as)(t:aj d=true):Looks M h (typeOf v) (.type (EK (qh d))):=by
 cases r with
 |int i t=>exact .now
 |str x t=>exact .now
 |tuple h1 h2 h3 h4=>exact sk h1 h2
 |_=>trivial
def ML(h:Heap)(f:Option Value)(d:PyData):Prop:=match d with
 |.tuple []=>f=none
 |.tuple (x::_)=>∃u bs,f=some u/\Reads h u x bs
 |_=>False
section
variable {P:UT} {w:World} {A:UW} {E:UD} {s:UX}
theorem qi:∀{vs:UL} {ds:UJ} {as:UK} {Q:List (Option Value)->UX->Prop},ReadsAll s.heap vs ds as->ds.all ik=true->(∀fs,Paired (ML s.heap) fs ds->Q fs s)->wpAny M A (vs.mapM firstOfTuple') Q E s
 |_,_,_,Q,.nil,_,h=>by rw[List.mapM_nil];exact QB (h [] .nil)
 |_,_,_,Q,.cons r t,al,h=>by
  simp only[List.all_cons,QG]at al;rw[List.mapM_cons];refine QA ?_
  cases r with
  |tuple h1 h2 h3 h4=>
   rename_i o its n xs;rw[kas_first_eq];refine QA (Looks.here (sk h1 h2) ?_);rw[if_neg (by first|decide|simp)];refine QA (PyProof.Rows.listItems_at h1 h3 (QB ?_));refine QA (qi t al.2 λfs hf=>QB (h _ (.cons ?_ hf)));have e0:its[0]?=its.toList[0]?:=by simp
   rw[e0];generalize its.toList=l at h4
   cases h4 with
   |nil=>rfl
   |cons r1 r2=>exact⟨_,_,rfl,r1⟩
  |_=>simp[ik]at al
theorem qj(t:ao ds=true)(c:dG ds=true)(h1:.tuple (x::xs)∈ds)(h2:.tuple (y::ys)∈ds):qh x=qh y:=by
 have t1:=aM t h1;have t2:=aM t h2;simp[aj,ao]at t1 t2;have q:=fb c h1 h2;simp[bV,cV]at q;by_cases e:x=y
 ·rw[e]
 ·rw[aS t1.1 t2.1 e,if_neg (by simp)]at q;cases x<;>cases y<;>first|rfl|trivial|rfl|rfl
theorem me:∀{fs:List (Option Value)} {ds:UJ},Paired (ML h) fs ds->∀v∈fs.filterMap id,∃x xs bs,.tuple (x::xs)∈ds/\Reads h v x bs
 |_,_,.nil,v,hv=>by grind
 |_,_,.cons (a:=f) (l₁:=fs) (b:=d) r p,v,hv=>by
  cases d with
  |tuple ys=>
   cases ys with
   |nil=>obtain rfl:f=none:=r;obtain⟨x,xs,bs,m,q⟩:=me p v (by simp_all);exact⟨x,xs,bs,by simp[m],q⟩
   |cons y ys=>
    obtain⟨u,bs,rfl,q⟩:=r;rcases(show v=u\/some v∈fs by simpa using hv)with rfl|hv
    ·exact⟨y,ys,bs,by simp,q⟩
    ·obtain⟨x,xs,bs,m,q⟩:=me p v (by simpa using hv);exact⟨x,xs,bs,by simp[m],q⟩
  |_=>exact(show False from r).elim
theorem readsAll_len:∀{vs:UL} {ds:UJ} {as:UK},ReadsAll h vs ds as->vs.length=ds.length
 |_,_,_,.nil=>rfl
 |_,_,_,.cons _ t=>by simp[readsAll_len t]
theorem su:∀{vs:UL} {ds:UJ} {as:UK},ReadsAll h vs ds as->ds.all ik=true->∀v∈vs,Looks M h (typeOf v) (.type "tuple")
 |_,_,_,.nil,_,v,hv=>by cases hv
 |_,_,_,.cons r1 r2,al,v,hv=>by
  simp only[List.all_cons,QG]at al;rcases QK.mp hv with rfl|hv
  ·cases r1 with
   |tuple g1 g2 g3 g4=>exact sk g1 g2
   |_=>grind[ik]
  ·exact su r2 al.2 v hv
theorem Dd(r:ReadsAll s.heap vs ds as)(al:ds.all ik=true)(t:ao ds=true)(c:dG ds=true)(h2:1<=vs.length)
 (h1:∀b,(b=true->∀x xs,.tuple (x::xs)∈ds->qh x≠2)->Q (tuples' b) s)(h3:Q general' s)(h4:Q oneType' s):wpAny M A (keyKind' vs.toArray) Q E s:=by
 rw[PyProof.Rows.kat_kind_eq,List.mapM_toArray,map_eq_pure_bind];refine QA (QA (qi r al λfs hf=>QB ?_));have hl:fs.length=ds.length:=Q0 hf;have hl2:vs.length=ds.length:=readsAll_len r;split
 ·rename_i hall;refine QA (Sh ?_);have e:(fs.toArray.filterMap id)=(fs.filterMap id).toArray:=by simp
  rw[e];have hall':∀f∈fs,f.isSome=true:=by simpa using hall
  obtain⟨u,us,eu⟩:∃u us,fs.filterMap id=u::us:=by
   match fs,hl,hall' with
   | [],hl,_=>simp at hl;omega
   |none::_,_,ha=>have:=ha none (.head _);cases this
   |some x::r,_,_=>exact⟨x,r.filterMap id,by simp⟩
  obtain⟨x,xs,bs,mx,rx⟩:=me hf u (by rw[eu];simp);have tx:aj x=true:=by have:=aM t mx;simp only[aj,ao,QG]at this;exact this.1
  refine QA (yl (T:=.type (EK (qh x))) (by rw[eu];simp) (λv hv=>?_) (by simp) ?_)
  ·obtain⟨y,ys,bs,my,ry⟩:=me hf v hv;have ty:aj y=true:=by have:=aM t my;simp only[aj,ao,QG]at this;exact this.1
   rw[qj t c mx my];exact Dc ry ty
  ·refine QB (h1 _ λhb y ys my=>?_);rw[<- qj t c mx my];intro z;rw[z]at hb;exact absurd hb (by decide)
 ·split
  ·exact QB h3
  ·refine QA (yl (T:=.type "tuple") h2 (λv hv=>?_) (by rfl) ?_)
   ·exact su r al v hv
   ·exact QB h4
theorem qk:∀{us vs:UL} {xs ys:UJ} {as bs:UK} (i:Nat) (fin k:Bool),ReadsAll s.heap us xs as->ReadsAll s.heap vs ys bs->ao xs=true->ao ys=true->PyData.canLayAll0 xs=true->PyData.canLayAll0 ys=true ->
  A.units+min (PyData.depthAll xs) (PyData.depthAll ys)<cLine->fin=decide (xs.length<ys.length)->(b=true->i=0->∀x∈xs.head?,qh x≠2)->cV xs ys=some k->Q k s->KatLex P w A b fin Q (us.zip vs) i s
 |_,_,_,_,_,_,i,fin,k,.nil,.nil,_,_,_,_,_,e,_,h,q=>by subst e;simp[cV]at h;subst h;exact PySem.W.kat_nil q
 |_,_,_,_,_,_,i,fin,k,.nil,.cons _ _,_,_,_,_,_,e,_,h,q=>by subst e;simp[cV]at h;subst h;exact PySem.W.kat_nil (by simpa using q)
 |_,_,_,_,_,_,i,fin,k,.cons _ _,.nil,_,_,_,_,_,e,_,h,q=>by subst e;simp[cV]at h;subst h;exact PySem.W.kat_nil (by simpa using q)
 |_,_,_,_,_,_,i,fin,k,.cons (d:=x) (ds:=xs) r1 r2,.cons (d:=y) (ds:=ys) q1 q2,t1,t2,l1,l2,hu,e,hb,h,q=>by
  rw[S6];refine PySem.W.kat_cons ?_;simp only[ao,PyData.canLayAll0,QG]at t1 t2 l1 l2;simp only[PyData.depthAll]at hu;refine Ub x y A s _ _ _ _ r1 q1 l1.1 l2.1 (by omega) P w _ _ ?_;simp only[cV]at h
  cases hq:PyData.eqv x y with
  |true=>rw[hq,if_pos rfl]at h;exact PySem.W.kat_yes (qk (i+1) fin k r2 q2 t1.2 t2.2 l1.2 l2.2 (by omega) (by rw[e];simp) (λ_ z=>by omega) h q)
  |false=>
   rw[hq,if_neg (by simp)]at h;refine PySem.W.kat_no ?_;have fin2:wpAny (model P w) A (oneLt' false _ _) Q (λ_ _=>False) s:=kat_one _ _ (oz x y A s _ _ _ _ k r1 q1 l1.1 l2.1 (by omega) h P w (λ_ _=>False) _ q)
   cases hbi:(b&&i==0)with
   |false=>exact fin2
   |true=>
    simp only[QG,beq_iff_eq]at hbi;have kx:=hb hbi.1 hbi.2 x (by simp)
    cases x with
    |int i1=>
     cases y with
     |int j1=>cases r1;cases q1;simp only[bV]at h;cases h;exact oneLt_int q
     |_=>simp[bV]at h
    |str i1=>
     cases y with
     |str j1=>cases r1;cases q1;simp only[bV,nu]at h;cases h;exact oneLt_str q
     |_=>simp[bV]at h
    |_=>exact absurd rfl kx
theorem Ar(hu:A.units+41<cLine)(rx:Reads s.heap x (.tuple xs) as)(ry:Reads s.heap y (.tuple ys) bs)(t1:ao xs=true)(t2:ao ys=true)(l1:PyData.canLayAll0 xs=true)(l2:PyData.canLayAll0 ys=true)
 (hd:PyData.depthAll xs<=20)(h:cV xs ys=some k)(κ:SortKind)(hκ:(∃b,κ=tuples' b/\(b=true->∀x∈xs.head?,qh x≠2))\/κ=general'\/κ=oneType')(q:Q k s):wpAny (model P w) A (keyLt' κ x y) Q (λ_ _=>False) s:=by
 have ex:=rx;have ey:=ry
 cases rx with
 |tuple g1 g2 g3 g4=>
  rename_i o1 i1 n1
  cases ry with
  |tuple k1 k2 k3 k4=>
   rename_i o2 i2 n2;rcases hκ with⟨b,rfl,hb⟩|rfl|rfl
   ·refine kat_lt g1 g3 k1 k3 (qk 0 _ k g4 k4 t1 t2 l1 l2 (by omega) ?_ (λhb' _=>hb hb') h q);have z1:=readsAll_len g4;have z2:=readsAll_len k4
    grind
   ·show wpAny (model P w) A (oneLt' false _ _) Q _ s;exact kat_one _ _ (oz (.tuple xs) (.tuple ys) A s _ _ _ _ k ex ey (by simpa [PyData.canLay0]using l1) (by simpa [PyData.canLay0]using l2) (by simp only[PyData.depth];omega) (by simpa [bV]using h) P w (λ_ _=>False) _ q)
   ·rw[keyLt'_oneType,oneLt'_eq];simp only[Rr];refine QA (wpAny_cRoomFor (by omega) ?_);obtain⟨c1,d1,e1,sl1⟩:=o1;obtain⟨c2,d2,e2,sl2⟩:=o2;cases g2;cases g3;cases k2;cases k3;refine QA (wpAny_callSpecialIfBound?_slot ⟨_,g1,rfl⟩ T6 (Tw T6 ⟨_,g1,rfl⟩ PySem.F.entry_tuple_lt (PySem.F.args_tuple_lt_2 _ _) (SeqAt.oy _ _ _ _ n1 n2 d1 d2 sl1 sl2 k) ⟨g1,k1,pK xs ys _ s _ _ _ _ k g4 k4 l1 l2 (by show A.units+1+_<_;omega) h,?_⟩));exact RX q
theorem pM:∀{vs:UL} {ds:UJ} {as:UK} (i:Nat),ReadsAll h vs ds as->i<vs.length->∃bs,Reads h (vs.getD i .none) (ds.getD i .none) bs
 |_,_,_,i,.nil,hi=>by grind
 |_,_,_,0,.cons r1 _,_=>⟨_,r1⟩
 |_,_,_,i+1,.cons _ r2,hi=>by simpa using pM i r2 (by simp_all)
theorem getD_mem{α:Type}{xs:List α}{d:α}(h:i<xs.length):xs.getD i d∈xs:=by simp[h]
theorem sv:∀{ds:UJ} {d:PyData},PyData.canLayAll0 ds=true->d∈ds->d.canLay0=true
 |_::_,d,h,m=>by
  simp[PyData.canLayAll0]at h;rcases QK.mp m with rfl|m
  ·grind
  ·exact sv h.2 m
theorem sy:∀{ds:UJ} {d:PyData},d∈ds->d.depth<=PyData.depthAll ds
 |_::_,d,m=>by
  rcases QK.mp m with rfl|m
  ·exact Nat.le_max_left _ _
  ·exact QM (sy m) (Nat.le_max_right _ _)
theorem vt(hu:A.units+41<cLine)(r:ReadsAll s.heap vs ds as)(al:ds.all ik=true)(t:ao ds=true)(c:dG ds=true)(l:PyData.canLayAll0 ds=true)(hd:PyData.depthAll ds<=20)(h2:1<=vs.length) :
  Em P w A vs (λi j=>ltB (ds.getD i .none) (ds.getD j .none)) s:=by
 have hlen:=readsAll_len r
 have tup:∀{i:Nat},i<vs.length->∃xs bs,ds.getD i .none=.tuple xs/\.tuple xs∈ds/\Reads s.heap (vs.getD i .none) (.tuple xs) bs:=λ{i} hi=>by
  obtain⟨bs,q⟩:=pM i r hi;have m:ds.getD i .none∈ds:=getD_mem (by omega);have a:=QX.mp al _ m
  cases e:ds.getD i .none with
  |tuple xs=>grind
  |_=>rw[e]at a;simp[ik]at a
 have key:∀κ,((∃b,κ=tuples' b/\(b=true->∀x xs,.tuple (x::xs)∈ds->qh x≠2))\/κ=general'\/κ=oneType')->s=s/\∀i j C,i<vs.length->j<vs.length->C (ltB (ds.getD i .none) (ds.getD j .none)) s ->
   wpAny (model P w) A (keyLt' κ (vs.getD i Value.none) (vs.getD j Value.none)) C (λ_ _=>False) s:=λκ hκ=>⟨rfl,λi j C hi hj hC=>by
  obtain⟨xs,b1,e1,m1,q1⟩:=tup hi;obtain⟨ys,b2,e2,m2,q2⟩:=tup hj;have cc:=fb c m1 m2;have d1:=sy m1;have l1:=sv l m1;have l2:=sv l m2;have t1:=aM t m1;have t2:=aM t m2;simp only[PyData.depth]at d1;simp only[PyData.canLay0]at l1 l2;simp only[aj]at t1 t2;rw[e1,e2]at hC;refine Ar hu q1 q2 t1 t2 l1 l2 (by omega) (by simpa [bV]using cc) κ ?_ hC;rcases hκ with⟨b,rfl,hb⟩|h|h
  ·refine .inl ⟨b,rfl,λhb' x hx=>?_⟩
   cases xs with
   |nil=>simp at hx
   |cons z zs=>simp at hx;subst hx;exact hb hb' z zs m1
  ·exact .inr (.inl h)
  ·exact .inr (.inr h)⟩
 exact Dd r al t c h2 (λb hb=>key _ (.inl ⟨b,rfl,hb⟩)) (key _ (.inr (.inl rfl))) (key _ (.inr (.inr rfl)))
end
end Ml
namespace Ml
open PySem PySem.Spec L2
section
variable {X:Cx} {E:XK} {k:Nat} {θ:UK} {hm:Hm} {H:Hp}
theorem qX(w:W G θ hm H)(r:bR G θ H x v)(e:listOf x hm=some ds):∃a vs,v=.ref a/\H a=some (.lst vs)/\bb (view θ H) ds vs/\cE ds=true:=by
 unfold listOf at e;split at e
 ·cases e;obtain⟨⟨a,vs,rfl,ha,rr⟩,so⟩:=r;exact⟨a,vs,rfl,ax _ _ _ _ ha,rr,by assumption⟩
 ·obtain⟨a,ha,rfl⟩:=r;split at e
  ·rename_i ys hy;obtain⟨vs,hv,rs⟩:=w.obj _ _ _ ha hy;obtain⟨h1,h2⟩:=lY rs e
   simp_all
  grind
 grind
theorem vw(r:ReadsAll s.heap vs ds as)(al:ds.all rV=true)(h2:2<=vs.length):PySem.W.Em P w A vs (λi j=>ltB (ds.getD i .none) (ds.getD j .none)) s:=by
 have hlen:=readsAll_len r
 have tup:∀{i:Nat},i<vs.length->∃x tk,ds.getD i .none=.str x/\vs.getD i .none=.str x tk:=λ{i} hi=>by
  obtain⟨bs,q⟩:=pM i r hi;have m:ds.getD i .none∈ds:=getD_mem (by omega);have a:=QX.mp al _ m
  cases e:ds.getD i .none with
  |str x=>rw[e]at q;generalize vs.getD i .none=z at q;cases q;exact⟨x,_,rfl,rfl⟩
  |_=>rw[e]at a;simp[rV]at a
 refine PySem.W.kas_kind h2 (T:=.type "str") (λv hv=>?_) (by decide) (by decide) ⟨rfl,λi j C hi hj hC=>?_⟩
 ·obtain⟨i,hi,e⟩:=SE.mp hv;obtain⟨x,tk,_,e2⟩:=tup hi;have:vs.getD i .none=v:=by simp[hi,e]
  rw[this]at e2;subst e2;exact .now
 ·obtain⟨x,t1,e1,f1⟩:=tup hi;obtain⟨y,t2,e2,f2⟩:=tup hj;rw[f1,f2,PyProof.Rows.keyLt'_oneType];simp only[e1,e2]at hC;exact PyProof.Rows.oneLt_str (by simpa [ltB,bV,nu]using hC)
theorem MM(o:Ord ltB ds):PySem.W.mH (λi j=>ltB (ds.getD i .none) (ds.getD j .none)) ds.length:=
 ⟨λa b ha hb h=>o.as (getD_mem ha) (getD_mem hb) h,λa b c ha hb hc h h'=>o.ntr (getD_mem ha) (getD_mem hb) (getD_mem hc) h h'⟩
theorem bh:∀{ds:UJ},cE ds=true<->∀d∈ds,cX d=true
 | []=>by trivial
 |d::ds=>by simp[cE,bh]
theorem vz(p:ds.Perm es)(h:cE ds=true):cE es=true:=bh.mpr λd m=>bh.mp h d (p.mem_iff.mpr m)
noncomputable def KQ:List V->Hp->VK->Prop:=λxs H Q=>∃(a:Addr) (vs:List V) (M:Hp) (ds:UJ),xs=[.ref a]/\H a=some (.lst vs)/\bG M H/\bb M ds vs/\cE ds=true/\cY ds=true /\
 ∀(p:Addr) (us:List V),H p=none->bb M (cD ltB ds) us->us.length<=sizeLine->Q (.ref p) (upd H p (.lst us))
theorem wU(hr:cg k X.A):dP X (.builtin "sorted") KQ:=by
 intro pins s σ H xs us Q I r h;obtain⟨a,vs,M,ds,rfl,ha,sm,rp,so,ok,q⟩:=h;simp only[cY,QG,Rj,S8]at ok;obtain⟨⟨⟨⟨kd,tr⟩,cm⟩,dp⟩,h64⟩:=ok
 cases r with
 |cons r rr=>
  cases rr;cases r;obtain⟨its,rv,pl,_⟩:=I.list (jz.of (K:=X.K) ha);have hlen:vs.length=ds.length:=rp.length;have hlen2:its.length=ds.length:=by grind[rv.length]
  obtain⟨as,ra⟩:=bb.reads I (rp.same sm) rv;have nd:PyData.hasDictAll ds=false:=fo tr;have la:=n6 so nd;have O:=MM (gZ cm tr);rw[<- hlen2]at O;refine PySem.W.rO pl.isList O (by omega) (λh' kp h2=>?_) λp hp hs=>?_
  ·have ra':ReadsAll h' its ds as:=Rq kp ra;rcases kd with kd|kd
   ·exact vw (s:={s with heap:=h'}) ra' kd h2
   ·exact vt (s:={s with heap:=h'}) (by have:=hr.un;show X.A.units+1+1+41<cLine;omega) ra' kd tr cm la dp (by omega)
  ·have ge:s.heap.objs.size<=s.heap.objs.size+1:=Sb _;have nn:H (s.heap.objs.size+1)=none:=I.hok.fresh ge;obtain⟨e,he⟩:=PyProof.Rows.sortedAll_at s.heap its (p.toList.map λi=>its.getD i Value.none).toArray;have hin:∀i∈p.toList,i<vs.length:=λi hi=>by have:=RA.mp (hp.perm.mem_iff.mp hi);omega
   have hlp:p.toList.length=ds.length:=by rw[hp.perm.length_eq,List.length_range,hlen2]
   have hz:(p.toList.map λi=>vs.getD i .non).length<=sizeLine:=by rw[QR,hlp];exact QM (Tu h64) (by decide)
   refine⟨.ref _,_,I.laid (t':=s.toks) (o:=.lst (p.toList.map λi=>vs.getD i .non)) (λb o k=>PyProof.Rows.sortedAll_old k) ge ⟨hz,_,e,vi rv p.toList hin,by simpa [PyProof.Rows.seqObj]using he⟩,rfl,q _ _ nn ?_ hz⟩
   have e1:(p.toList.map λi=>ds.getD i .none)=cD ltB ds:=by
    refine yp cm tr ?_ ?_
    ·have:=hp.perm.map (λi=>ds.getD i .none);rw[hlen2,jU]at this;exact this
    ·unfold Up;rw[Te,Sz];intro i j hi hj hij;have e1:PySem.W.pat p i=p.toList[i]:=by simp only[RD]at hi;rw[PySem.W.kL,UC p i hi];simp
     have e2:PySem.W.pat p j=p.toList[j]:=by simp only[RD]at hj;rw[PySem.W.kL,UC p j hj];simp
     have:=hs i j hij (by rw[hlen2];omega);rw[e1,e2]at this;exact this
   rw[<- e1];exact vj rp .none p.toList hin
theorem yw(hr:cg k X.A):uq X E (.builtin "sorted") gN:=uq.of (wU hr) λθ hm H ds xs Q w r p=>by
 unfold gN at p;split at p
 ·cases r with
  |cons r rr=>
   cases rr;split at p
   ·rename_i ys hy;split at p
    ·rename_i ok;obtain⟨a,vs,rfl,ha,rp,so⟩:=qX w r hy;refine⟨a,vs,view θ H,ys,rfl,ha,ax _ _,rp,so,ok,λq us hq ru hz=>?_⟩;obtain⟨e1,w1,g⟩:=w.put hq;refine p _ _ e1 w1 _ ⟨⟨q,us,rfl,g,ru.same e1.same⟩,?_⟩;exact vz (bN _ _).symm so
    ·trivial
   ·trivial
 ·trivial
end
section
variable {X:Cx} {E:XK} {k:Nat} {θ:UK} {hm:Hm} {H:Hp} {m:ME} {t:MT} {e e1 e2:Expr} {pos:Pos}
theorem dI(r:bR G θ H (.str x) v):v=.str x/\PyData.strOk x=true:=⟨r.1,by simpa [cX]using r.2⟩
theorem wV(h:PyData.strOk x=true)(h':PyData.strOk y=true):PyData.strOk (x++y)=true:=by have e:(x++y).cps=x.cps++y.cps:=rfl;unfold PyData.strOk at h h' ⊢;simp[e,h,h']
theorem yx(w:W G θ hm H)(x:Ext H (view θ H) H' M'):Ev θ H θ H'/\W G θ hm H'/\bG M' (view θ H'):=by
 obtain⟨e1,w1⟩:=w.grow x.sh;refine⟨e1,w1,λc o q=>?_⟩
 have nb:c∉θ:=λz=>by
  obtain⟨i,hi,ei⟩:=SE.mp z;have hl:i<hm.length:=by rw[<- w.len];exact hi
  have hn  := Al.some _ (w.obj i c hm[i] (by simp_all) (QP hl));rw[x.old c hn]at q;exact(du q).1 z
 rw[ee nb];exact x.gs c o q
theorem kS:ou X E (binaryOp .Add) fk:=ou.of (iH.or JK (iH.or zV (iH.or G8 J0))) λθ hm H d1 d2 x y Q w r1 r2 p=>by
 unfold fk at p;split at p
 ·exact .inl ⟨_,_,bY r1,bY r2,p.lZ w (cG _)⟩
 ·split at p
  ·rename_i hz;obtain⟨e1,s1⟩:=dI r1;obtain⟨e2,s2⟩:=dI r2;exact .inr (.inl ⟨_,_,e1,e2,eh hz,p.lZ w ⟨rfl,by simp only[cX];exact wV s1 s2⟩⟩)
  ·exact p.elim
 ·split at p
  ·rename_i xs ys hz;refine .inr (.inr (.inl ⟨view θ H,xs,ys,ax _ _,r1.1,r2.1,eh hz,λr H' M' ex rr=>?_⟩));obtain⟨e1,w1,sm⟩:=yx w ex;have s1:cE xs=true:=by simpa [cX]using r1.2
   have s2:cE ys=true:=by simpa [cX]using r2.2
   refine p _ _ e1 w1 _ ⟨rr.same sm,?_⟩;simp only[cX]
   exact bh.mpr λd m=>by
    rcases QN.mp m with m|m
    ·exact bh.mp s1 d m
    ·exact bh.mp s2 d m
  ·exact p.elim
 ·split at p
  ·rename_i xs ys hz;have s1:cE xs=true:=by simpa [cX]using r1.2
   have s2:cE ys=true:=by simpa [cX]using r2.2
   obtain⟨a,us,rfl,ha,q1,_⟩:=gQ r1;obtain⟨b,ws,rfl,hb,q2,_⟩:=gQ r2;refine .inr (.inr (.inr ⟨a,b,us,ws,rfl,rfl,ax _ _ _ _ ha,ax _ _ _ _ hb,by rw[q1.length,q2.length];exact eh hz,λq hq=>?_⟩));obtain⟨e1,w1,g⟩:=w.put (o:=.lst (us++ws)) hq;refine p _ _ e1 w1 _ ⟨⟨q,_,rfl,g,(q1.append q2).same e1.same⟩,?_⟩;simp only[cX]
   exact bh.mpr λd m=>by
    rcases QN.mp m with m|m
    ·exact bh.mp s1 d m
    ·exact bh.mp s2 d m
  ·exact p.elim
 ·exact p.elim
theorem vA(r:bb M ds vs):∀n:Nat,bb M (List.replicate n ds).flatten (List.replicate n vs).flatten
 |0=>rfl
 |n+1=>r.append (vA r n)
theorem BN:ou X E (binaryOp .Mult) nY:=ou.of (iH.or JM J1) λθ hm H d1 d2 x y Q w r1 r2 p=>by
 unfold nY at p;split at p
 ·split at p
  ·rename_i hc;refine .inl ⟨_,_,bY r1,bY r2,?_,p.lZ w (cG _)⟩;simp only[By,S8,QG,Rj]at hc;exact hc
  ·exact p.elim
 ·split at p
  ·rename_i xs j hc;simp only[QG,Rj]at hc;have s1:cE xs=true:=by simpa [cX]using r1.2
   obtain⟨a,us,rfl,ha,q1,_⟩:=gQ r1;refine .inr ⟨a,j,us,rfl,bY r2,ax _ _ _ _ ha,hc.1.2,hc.2,by rw[q1.length];exact eh hc.1.1,λq hq=>?_⟩;obtain⟨e1,w1,g⟩:=w.put (o:=.lst (List.replicate j.toNat us).flatten) hq;refine p _ _ e1 w1 _ ⟨⟨q,_,rfl,g,(vA q1 _).same e1.same⟩,?_⟩;simp only[cX];exact bh.mpr λd m=>by obtain⟨l,hl,hd⟩:=List.mem_flatten.mp m;rw[(List.mem_replicate.mp hl).2]at hd;exact bh.mp s1 d hd
  ·exact p.elim
 ·exact p.elim
theorem qY(f:α->β)(xs:List α)(i:Int):nh (xs.map f) i=(nh xs i).map f:=by
 unfold nh;rw[QR]
 cases va xs.length i with
 |none=>rfl
 |some j=>simp
theorem wW(r:aO G θ H ds vs)(e:nh ds i=some d):∃v,L2.nh vs i=some v/\bR G θ H d v:=by
 have hl  := Q0 r;unfold L2.nh;rw[<- hl]
 change (va ds.length i).bind _=_ at e
 show ∃v,(va ds.length i).bind _=some v/\_
 cases hj:va ds.length i with
 |none=>grind
 |some j=>rw[hj]at e;exact aO.some r e
theorem EL:LM X (Kw X.G E uJ):=by
 intro value slice pins s σ H x y v u Q I rx ry ⟨θ,h,d1,d2,w,r1,r2,p⟩ hs;unfold uJ at p;split at p
 ·rename_i i;have ey:=bY r2;split at p
  ·rename_i ds;split at p
   ·rename_i d he;obtain⟨a,us,rfl,ha,q1,q2⟩:=gP r1;obtain⟨z,e1,rz⟩:=wW (i:=i) (d:=.dat d) q2 (by rw[qY,he];rfl);exact JW value slice pins s σ H _ y v u Q I rx ry ⟨a,us,i,z,rfl,ey,gB.of (ax _ _ _ _ ha),e1,p.lZ w rz⟩ hs
   ·exact p.elim
  ·rename_i ds;split at p
   ·rename_i d he;obtain⟨a,us,rfl,ha,q1,q2⟩:=gQ r1;obtain⟨z,e1,rz⟩:=wW (i:=i) (d:=.dat d) q2 (by rw[qY,he];rfl);exact wm value slice pins s σ H _ y v u Q I rx ry ⟨a,us,i,z,rfl,ey,jz.of (ax _ _ _ _ ha),e1,p.lZ w rz⟩ hs
   ·exact p.elim
  ·rename_i j;split at p
   ·rename_i xs hx;split at p
    ·rename_i d he;obtain⟨a,ha,rfl⟩:=r1;obtain⟨vs,hv,rs⟩:=w.obj _ _ _ ha hx;obtain⟨z,e1,rz⟩:=wW rs he;exact wm value slice pins s σ H _ y v u Q I rx ry ⟨a,vs,i,z,rfl,ey,jz.of hv,e1,p.lZ w rz⟩ hs
    ·exact p.elim
   ·exact p.elim
  ·rename_i ns;split at p
   ·rename_i n he;obtain⟨a,rfl,hq⟩:=r1;have e1:L2.nh (ns.map V.int) i=some (.int n):=by have:=qY V.int ns i;rw[he]at this;exact this
    exact wm value slice pins s σ H _ y v u Q I rx ry ⟨a,_,i,_,rfl,ey,(ax _ _).seq hq,e1,p.lZ w (cG _)⟩ hs
   ·exact p.elim
  ·exact p.elim
 ·exact p.elim
def lO(G:Gx)(E:XK)(m:IS):TO:=λσ H Q=>∃θ h ρ,W G θ h H/\Fr G θ H ρ σ/\aD G (mJ G E) θ H (m ρ h) (λo _ _ H'=>Q o H')
@[irreducible] def DO(X:Cx)(E:XK)(m:IS)(e:Option Expr):Prop:=PO X e (lO X.G E m)
theorem BO(X:Cx)(E:XK)(m:IS)(e:Option Expr):DO X E m e=(PO X e (lO X.G E m)):=by
 grind[DO]
theorem PO.imp{e:Option Expr}{t t':TO}(h:PO X e t)(k:∀σ H Q,t' σ H Q->t σ H Q):PO X e t':=λpins s σ H Q I q=>h pins s σ H Q I (k _ _ _ q)
theorem Hj:DO X E Bz none:=by simp[BO]at *;exact PO.imp GQ λσ H Q ⟨θ,h,ρ,w,fr,p⟩=>p θ H Ev.refl w
theorem wX(h:DE X E m e):DO X E (mS m) (some e):=by
 simp[br,BO]at *
 exact PO.imp (GR h) λσ H Q ⟨θ,h,ρ,w,fr,p⟩=>⟨θ,h,ρ,w,fr,(aD.bind p).mono λd θ1 h1 H1 _ _ ⟨ev,w1,p1⟩ v r=>by
  split at p1
  ·exact⟨_,bY r,p1 θ1 H1 Ev.refl w1⟩
  ·trivial⟩
theorem BP(r:bb M ds vs)(lo hi:Option Int):bb M (cut ds lo hi) (yd vs lo hi):=by unfold cut yd;have e  := r.length;rw[e];exact(r.drop _).take _
theorem BQ(h:x∈cut xs lo hi):x∈xs:=List.mem_of_mem_drop (Th h)
theorem sA(h:cE ds=true)(lo hi:Option Int):cE (cut ds lo hi)=true:=bh.mpr λd m=>bh.mp h d (BQ m)
def OM(G:Gx)(E:XK):V->Option Int->Option Int->Hp->VK->Prop:=λx lo hi H Q=>∃θ h d,W G θ h H/\bR G θ H d x/\aD G (mJ G E) θ H (MF d lo hi h) (KV G Q)
theorem Hk:LL X (OM X.G E):=by
 intro pins s σ H x v vl vu lo hi sl Q I rx hs pl pu ⟨θ,h,d,w,r,p⟩;unfold MF at p;split at p
 ·rename_i ds;refine G9 pins s σ H x v vl vu lo hi sl Q I rx hs pl pu ⟨view θ H,ds,ax _ _,r.1,λr' H' M' ex rr=>?_⟩;obtain⟨e1,w1,sm⟩:=yx w ex;exact p _ _ e1 w1 _ ⟨rr.same sm,by simp only[cX];exact sA (by simpa [cX]using r.2) lo hi⟩
 ·rename_i ds;have so:cE ds=true:=by simpa [cX]using r.2
  obtain⟨a,us,rfl,ha,q1,q2⟩:=gQ r;refine Bn pins s σ H _ v vl vu lo hi sl Q I rx hs pl pu ⟨a,us,rfl,jz.of (ax _ _ _ _ ha),λq hq=>?_⟩;obtain⟨e1,w1,g⟩:=w.put (o:=.lst (yd us lo hi)) hq;exact p _ _ e1 w1 _ ⟨⟨q,_,rfl,g,(BP q1 lo hi).same e1.same⟩,by simp only[cX];exact sA so lo hi⟩
 ·exact p.elim
theorem EM(he:DE X E m e)(hl:DO X E ml lo)(hu:DO X E mh hi):DE X E (Nz m ml mh) (.Subscript e (.Slice lo hi none p2) pos):=by
 simp[br,BO]at *
 exact PE.imp (yc Hk he hl hu) λσ H Q ⟨θ,h,ρ,w,fr,p⟩=>⟨θ,h,ρ,w,fr,(aD.bind p).mono λd θ1 h1 H1 _ _ ⟨ev,w1,p1⟩ v r=>
   ⟨θ1,h1,ρ,w1,fr.ev ev,(aD.bind p1).mono λl θ2 h2 H2 _ _ ⟨ev2,w2,p2⟩=>⟨θ2,h2,ρ,w2,(fr.ev ev).ev ev2,(aD.bind p2).mono λu θ3 h3 H3 _ _ ⟨ev3,w3,p3⟩=>⟨θ3,h3,d,w3,(r.ev ev2).ev ev3,p3⟩⟩⟩⟩
theorem oA:uq X E (.builtin "len") ig:=uq.of D0 λθ hm H ds xs Q w r p=>by
 unfold ig at p;split at p
 ·split at p
  ·rename_i hz
   cases r with
   |cons r rr=>cases rr;exact⟨_,_,rfl,by rw[(dI r).1];exact⟨eh hz,rfl⟩,p.lZ w (cG _)⟩
  ·exact p.elim
 ·cases r with
  |cons r rr=>cases rr;obtain⟨a,us,rfl,ha,q1,_⟩:=gP r;exact⟨_,_,rfl,.inr ⟨us,gB.of (ax _ _ _ _ ha),q1.length.symm⟩,p.lZ w (cG _)⟩
 ·cases r with
  |cons r rr=>cases rr;obtain⟨a,us,rfl,ha,q1,_⟩:=gQ r;exact⟨_,_,rfl,.inl ⟨us,jz.of (ax _ _ _ _ ha),q1.length.symm⟩,p.lZ w (cG _)⟩
 ·rename_i i;split at p
  ·rename_i ys hy
   cases r with
   |cons r rr=>cases rr;obtain⟨a,ha,rfl⟩:=r;obtain⟨vs,hv,rs⟩:=w.obj _ _ _ ha hy;exact⟨_,_,rfl,.inl ⟨vs,jz.of hv,Q0 rs⟩,p.lZ w (cG _)⟩
  ·exact p.elim
 ·rename_i ns
  cases r with
  |cons r rr=>cases rr;obtain⟨a,rfl,hq⟩:=r;exact⟨_,_,rfl,.inl ⟨_,(ax _ _).seq hq,by simp⟩,p.lZ w (cG _)⟩
 ·exact p.elim
theorem sC:∀{ds:UJ} {vs:List V} {bs:List Bool},bb M ds vs->bools ds=some bs->vs=bs.map V.bl
 | [],_,bs,h,e=>by cases h;cases e;rfl
 |d::ds,_,bs,⟨v,vs,rfl,r,rs⟩,e=>by
  cases d with
  |bool b=>simp[bools]at e;obtain⟨bs',e1,e2⟩:=e;subst e2;rw[sC rs e1,r];rfl
  |_=>trivial
theorem BR(hc:X.calm=true):uq X E (.builtin "all") wJ:=uq.of (Eg hc) λθ hm H ds xs Q w r p=>by
 unfold wJ at p;split at p
 ·split at p
  ·rename_i bs hb
   cases r with
   |cons r rr=>cases rr;obtain⟨a,us,rfl,ha,q1,_⟩:=gQ r;rw[sC q1 hb]at ha;exact⟨a,bs,rfl,jz.of (ax _ _ _ _ ha),p.lZ w (cu _)⟩
  ·trivial
 ·trivial
end
section
variable {X:Cx} {E:XK} {k:Nat} {θ:UK} {hm:Hm} {H:Hp} {m:ME} {t:MT} {e e1 e2:Expr} {pos:Pos} {ma:MA}
theorem KR(kit:∀d,PySem.W.kitOne X.K (.type (Mw d)) (.type n)=some (f d))(bt:bootBuiltins T=some (.type n))(m1:X.mg "isinstance" = none)(m2:X.mg T=none)(h:DE X E m e){p p2:Pos}(g1:Gl X "isinstance" := by rfl)(g2:Gl X T:=by rfl)(hT:T ≠ "__name__" := by decide)(hT2:(T==("__debug__" : Str))=false:=by decide)
 (hs:starEach [e,.Name T p2] X.env=(false,eval e X.env)::starEach [.Name T p2] X.env:=by rfl)(hs2:starEach [.Name T p2] X.env=[(false,eval (.Name T p2) X.env)]:=by rfl)(hpl:(backTo pos (starEach [.Name T p2] X.env)).any (·.1)=false:=by rfl):DE X E (IQ (ym f) m) (.Call (.Name "isinstance" p) [e,.Name T p2] [] pos):=by
 simp only[br]at *
 exact PE.imp (yb Eh g1 m1 uB (lV h (lV (Gy (v:=.ty n) g2 m2 bt rfl hT hT2) rF hs2) hs) (by decide) (by decide) hs hpl) λσ H Q ⟨θ,h,ρ,w,fr,p⟩=>⟨θ,h,ρ,w,fr,(aD.bind p).mono λd θ1 h1 H1 _ _ ⟨ev,w1,p1⟩ v r=>by
   cases d with
   |dat d=>exact⟨v,n,_,f d,rfl,(r.1.same (ax _ _)).ty,kit d,p1.lZ w1 (cu _)⟩
   |_=>trivial⟩
theorem sD(x:Str):∀(l:List Nat),bb M (l.map λi=>.str ⟨#[x.cps.getD i 0]⟩) (l.map (sgn x))
 | []=>rfl
 |i::l=>.cons rfl (sD x l)
theorem EN(h:PyData.strOk x=true):cE (ij x)=true:=bh.mpr λd m=>by obtain⟨i,_,rfl⟩:=Q4.mp m;exact BJ h
theorem fw(hc:X.calm=true):uq X E (.type "tuple") dF:=uq.of (dP.or uy (yj hc)) λθ hm H ds xs Q w r p=>by
 unfold dF at p;split at p
 ·cases r with
  |cons r rr=>cases rr;obtain⟨a,us,e,ha,q1,_⟩:=gP r;subst e;exact .inl ⟨a,us,rfl,.inr ⟨gB.of (ax _ _ _ _ ha),p.lZ w r⟩⟩
 ·split at p
  ·rename_i s hz
   cases r with
   |cons r rr=>cases rr;obtain⟨e1,s1⟩:=dI r;subst e1;refine .inr ⟨s,rfl,eh hz,λq hq=>?_⟩;obtain⟨e1,w1,g⟩:=w.put (o:=.tup ((List.range s.cps.size).map (sgn s))) hq;exact p _ _ e1 w1 _ ⟨⟨q,_,rfl,g,sD s _⟩,by simp only[cX];exact EN s1⟩
  ·exact p.elim
 ·split at p
  ·rename_i ds hy
   cases r with
   |cons r rr=>cases rr;obtain⟨a,vs,rfl,ha,rp,so⟩:=qX w r hy;refine .inl ⟨a,vs,rfl,.inl ⟨jz.of ha,λq hq=>?_⟩⟩;obtain⟨e1,w1,g⟩:=w.put (o:=.tup vs) hq;exact p _ _ e1 w1 _ ⟨⟨q,_,rfl,g,rp.same e1.same⟩,by simpa [cX]using so⟩
  ·exact p.elim
 ·exact p.elim
theorem BS:uq X E (.type "list") rS:=uq.of wq λθ hm H ds xs Q w r p=>by
 unfold rS at p;split at p
 ·cases r with
  |cons r rr=>cases rr;have so:=r.2;obtain⟨a,us,e,ha,q1,_⟩:=gP r;subst e;refine⟨a,us,rfl,.inr (gB.of (ax _ _ _ _ ha)),λq hq=>?_⟩;obtain⟨e1,w1,g⟩:=w.put (o:=.lst us) hq;exact p _ _ e1 w1 _ ⟨⟨q,_,rfl,g,q1.same e1.same⟩,by assumption⟩
 ·split at p
  ·rename_i ds hy
   cases r with
   |cons r rr=>cases rr;obtain⟨a,vs,rfl,ha,rp,so⟩:=qX w r hy;refine⟨a,vs,rfl,.inl (jz.of ha),λq hq=>?_⟩;obtain⟨e1,w1,g⟩:=w.put (o:=.lst vs) hq;exact p _ _ e1 w1 _ ⟨⟨q,_,rfl,g,rp.same e1.same⟩,by simpa [cX]using so⟩
  ·exact p.elim
 ·exact p.elim
theorem EO:uq X E (.builtin "divmod") n5:=uq.of x9 λθ hm H ds xs Q w r p=>by
 unfold n5 at p;split at p
 ·split at p
  ·rename_i i j hj
   cases r with
   |cons r1 rr=>
    cases rr with
    |cons r2 rr=>cases rr;cases bY r1;cases bY r2;refine⟨i,j,rfl,hj,λq hq=>?_⟩;obtain⟨e1,w1,g⟩:=w.put hq;exact p _ _ e1 w1 _ ⟨⟨q,_,rfl,g,.cons rfl (.one rfl)⟩,by rfl⟩
  ·trivial
 ·trivial
theorem MN(hc:X.calm=true):uq X E (.builtin "max") C4:=uq.of (CI hc) λθ hm H ds xs Q w r p=>by
 unfold C4 at p;split at p
 ·cases r with
  |cons r1 rr=>
   cases rr with
   |cons r2 rr=>cases rr;cases bY r1;cases bY r2;exact⟨_,_,rfl,p.lZ w (cG _)⟩
 ·exact p.elim
theorem IW:uq X E (.type "int") rT:=uq.of CJ λθ hm H ds xs Q w r p=>by
 unfold rT at p;split at p
 ·cases r with
  |cons r1 rr=>cases rr;cases bY r1;exact .inl ⟨_,rfl,p.lZ w (cG _)⟩
 ·cases r with
  |cons r1 rr=>cases rr;obtain⟨e1,_⟩:=r1;cases e1;exact .inr ⟨_,rfl,p.lZ w (cG _)⟩
 ·trivial
end
section
variable {X:Cx} {E:XK} {k:Nat} {θ:UK} {hm:Hm} {H:Hp} {m ma' mb:ME} {t:MT} {e e1 e2 o i:Expr} {es:UO} {pos:Pos} {ma:MA} {x:Str}
theorem jX(n:Nat)(h:Lit n e d)(s:cX d=true):DE X E (ai d) e:=by simp[br]at *;exact PE.imp (Kq n h) λσ H Q ⟨θ,hm,ρ,w,fr,p⟩ r H' N s1 nw rp=>by obtain⟨e1,w1⟩:=w.grow s1;refine p _ _ e1 w1 _ ⟨rp.same λc o q=>?_,s⟩;have nb  := w.EB (nw c o q).1;rw[ee nb];exact(nw c o q).2
theorem wY{p:Pos}(hm:∃t,X.mg x=some (.int n t))(hg:Gl X x:=by rfl)(hd:(x==("__debug__" : Str))=false:=by decide):DE X E (ai (.int n)) (.Name x p):=by obtain⟨t,hm⟩:=hm;exact Hb (wg (v:=.int n) hg hm ⟨t,rfl⟩ hd) (λ_=>rfl) (by rfl)
def PR(xs:UJ):ME:=λ_ h=>.ok (.ktup xs) h
theorem Hl{p:Pos}(hm:∃a,X.mg x=some (.ref a)/\Ez X.K a xs)(hg:Gl X x:=by rfl)(hd:(x==("__debug__" : Str))=false:=by decide):DE X E (PR xs) (.Name x p):=by simp only[br]at *;obtain⟨a,hm,kt⟩:=hm;exact PE.imp (wg (v:=.ref a) hg hm rfl hd) λσ H Q ⟨θ,hm,ρ,w,fr,p⟩=>p.lZ w ⟨a,rfl,kt⟩
theorem Hn(kt:Ez G.K a xs):ow G θ H (xs.map D.dat) (Np G.K a):=λθ' h' H' ev w=>by
 obtain⟨⟨o,its,n,hl,hc,hd,hz,rv⟩,fl,so⟩:=kt;have q:gB G.K H' a _:=.inr ⟨o,its,n,hl,hc,hd,hz,rv⟩;refine⟨λi d e=>?_,⟨_,q,by simp⟩⟩;rw[RP,RH]at e;obtain⟨y,ey,rfl⟩:=e;refine⟨⟨_,Kv y,q,by simp[ey]⟩,λx H2 ⟨e2,z⟩=>?_⟩;subst e2;have:=z _ q;rw[RP,ey]at this;cases this;have hy:=fl y (QZ ey);refine⟨Ev.refl,w,?_,ox so ey⟩
 cases y with
 |none=>rfl
 |bool b=>rfl
 |int i=>rfl
 |str x=>rfl
 |_=>simp at hy
def MP(e:ME):MA:=λρ h=>(e ρ h).bind λx h1=>match x with
 |.ktup xs=>.ok (xs.map D.dat) h1
 |_=>.bad
theorem Ho(h:DE X E m e):DI X E (MP m) tg e:=by
 simp[br,kC]at *
 exact PI.imp (DR h) λσ H R ⟨θ,h,ρ,w,fr,p⟩=>⟨θ,h,ρ,w,fr,(aD.bind p).mono λd θ1 h1 H1 _ _ ⟨ev,w1,p1⟩ v r=>by
   cases d with
   |ktup xs=>obtain⟨a,e,kt⟩:=r;exact⟨a,e,⟨_,.inr kt.1⟩,p1 θ1 H1 Ev.refl w1 _ (Hn kt)⟩
   |_=>trivial⟩
def KU(x:D)(h:Hm):Bool:=match x with
 |.ref j=>match h[j]? with
  |some (.lst _)=>true
  |_=>false
 |_=>false
def oB(f:D->D->Hm->R D)(a b:ME):ME:=λρ h=>(a ρ h).bind λx h1=>if KU x h1 then(b ρ h1).bind λy h2=>f x y h2 else .bad
theorem Hq{x:D}(e:KU x h=true):∃j xs,x=.ref j/\h[j]?=some (.lst xs):=by
 unfold KU at e;split at e
 ·split at e
  ·simp_all
  grind
 grind
theorem oC(w:W G θ hm H)(r:bR G θ H (.ref j) v)(e:hm[j]?=some (.lst xs)):∃a vs,v=.ref a/\θ[j]?=some a/\H a=some (.lst vs)/\aO G θ H xs vs:=by
 obtain⟨a,ha,rfl⟩:=r;obtain⟨vs,hv,rs⟩:=w.obj _ _ _ ha e
 simp_all
theorem aO.erase:∀{xs:List D} {vs:List V} (n:Nat),aO G θ H xs vs->aO G θ H (xs.eraseIdx n) (vs.eraseIdx n)
 |_,_,_,.nil=>.nil
 |_,_,0,.cons _ t=>t
 |_,_,n+1,.cons r t=>.cons r (aO.erase n t)
theorem aO.MQ(q:bR G θ H d v):∀{xs:List D} {vs:List V} (n:Nat),aO G θ H xs vs->aO G θ H (xs.set n d) (vs.set n v)
 |_,_,_,.nil=>.nil
 |_,_,0,.cons _ t=>.cons q t
 |_,_,n+1,.cons r t=>.cons r (aO.MQ q n t)
theorem W.As(w:W G θ hm H)(ha:θ[j]?=some a)(hl:j<hm.length)(r:aO G θ H xs vs):Ev θ H θ (upd H a (.lst vs))/\W G θ (hm.set j (.lst xs)) (upd H a (.lst vs)):=by
 have hmm  := QZ ha
 have e:Ev θ H θ (upd H a (.lst vs)):=⟨⟨[],by simp⟩,λb u q=>by
  obtain⟨h1,h2⟩:=du q;have ne:b≠a:=λz=>by grind
  simp_all[ee,ay]⟩
 exact w.write ha hl ⟨vs,aZ,r.ev e⟩
theorem jI{α:Type}{xs:List α}{i:Nat}{x:α}(h:xs[i]?=some x):i<xs.length:=(QV.mp h).1
theorem ER(h:lE G E (oB f ma' mb) σ H Q)(k:∀θ h H d1 d2 x y,W G θ h H->bR G θ H d1 x->bR G θ H d2 y->aD G (mJ G E) θ H (f d1 d2 h) (KV G Q)->r x [y] H Q) :
  PF K "list" r (lE G E ma') (IH (lE G E mb) JS) σ H Q:=by
 obtain⟨θ,h,ρ,w,fr,p⟩:=h;refine⟨θ,h,ρ,w,fr,(aD.bind p).mono λd θ1 h1 H1 _ _ ⟨ev,w1,p1⟩ v r1=>?_⟩;split at p1
 ·rename_i hl;obtain⟨j,xs,rfl,hx⟩:=Hq hl;obtain⟨a,vs,rfl,ha,hv,rs⟩:=oC w1 r1 hx;exact⟨.inl ⟨rfl,_,jz.of hv⟩,θ1,h1,ρ,w1,fr.ev ev,(aD.bind p1).mono λd2 θ2 h2 H2 _ _ ⟨ev2,w2,p2⟩ y r2=>k θ2 h2 H2 _ d2 _ y w2 (r1.ev ev2) r2 p2⟩
 ·trivial
theorem vB{apos cpos:Pos}(ho:DE X E ma' o)(ha:DE X E mb e)(hbase:attributeBase o "append" X.env (eval o X.env)=eval o X.env:=by rfl)
 (hfew:((backTo cpos (starEach [e] X.env)).all (λx=>!x.1)&&(backToKw cpos (keywordEach [] X.env)).all (λx=>x.1.isSome)&&decide ([e].length+([]:List Keyword).length+(if([]:List Keyword).isEmpty then 0 else 1)<30))=true:=by rfl)
 (hline:(apos.endLine==cpos.line)=true:=by rfl)(hs:starEach [e] X.env=(false,eval e X.env)::starEach [] X.env:=by rfl)(hplain:(backTo cpos (starEach [] X.env)).any (·.1)=false:=by rfl):DE X E (oB fZ ma' mb) (.Call (.Attribute o "append" apos) [e] [] cpos):=by
 simp only[br]at *
 exact PE.imp (IJ PySem.F.plainAttrs_list PySem.F.slot_list_append PySem.F.type_list_append CO ho (lV ha rF hs) hbase hfew hline hs hplain) λσ H Q q=>ER q λθ h H d1 d2 x y w r1 r2 p=>by
   unfold fZ at p;split at p
   ·rename_i j;split at p
    ·rename_i xs hx;split at p
     ·rename_i hz;obtain⟨a,vs,rfl,ha,hv,rs⟩:=oC w r1 hx;have hl:xs.length=vs.length:=Q0 rs;obtain⟨e1,w1⟩:=w.As ha (jI hx) (eU rs (.cons r2 .nil));exact⟨a,vs,y,rfl,rfl,hv,by rw[<- hl,SK];exact RZ hz,p _ _ e1 w1 _ C8⟩
     ·exact p.elim
    ·exact p.elim
   ·exact p.elim
theorem ES{apos cpos:Pos}(ho:DE X E ma' o)(ha:DE X E mb e)(hbase:attributeBase o "pop" X.env (eval o X.env)=eval o X.env:=by rfl)
 (hfew:((backTo cpos (starEach [e] X.env)).all (λx=>!x.1)&&(backToKw cpos (keywordEach [] X.env)).all (λx=>x.1.isSome)&&decide ([e].length+([]:List Keyword).length+(if([]:List Keyword).isEmpty then 0 else 1)<30))=true:=by rfl)
 (hline:(apos.endLine==cpos.line)=true:=by rfl)(hs:starEach [e] X.env=(false,eval e X.env)::starEach [] X.env:=by rfl)(hplain:(backTo cpos (starEach [] X.env)).any (·.1)=false:=by rfl):DE X E (oB pE ma' mb) (.Call (.Attribute o "pop" apos) [e] [] cpos):=by
 simp only[br]at *
 exact PE.imp (IJ PySem.F.plainAttrs_list PySem.F.slot_list_pop PySem.F.type_list_pop D7 ho (lV ha rF hs) hbase hfew hline hs hplain) λσ H Q q=>ER q λθ h H d1 d2 x y w r1 r2 p=>by
   unfold pE at p;split at p
   ·rename_i j kk;split at p
    ·rename_i xs hx;split at p
     ·rename_i hz;split at p
      ·rename_i d hd;obtain⟨a,vs,rfl,ha,hv,rs⟩:=oC w r1 hx;have hl:xs.length=vs.length:=Q0 rs;obtain⟨z,ez,rz⟩:=rs.some hd;obtain⟨e1,w1⟩:=w.As ha (jI hx) (aO.erase kk.toNat rs);refine⟨a,vs,kk,kk.toNat,z,rfl,by rw[bY r2],hv,by omega,by omega,?_,ez,p _ _ e1 w1 _ (rz.ev e1)⟩;exact PySem.seqIndex_of hz.1 (by omega)
      ·exact p.elim
     ·exact p.elim
    ·exact p.elim
   ·exact p.elim
theorem De{x y v:V}(w:W G θ hm H)(r1:bR G θ H d1 x)(r2:bR G θ H d2 y)(rd:bR G θ H d v)(p:aD G F θ H (BA d1 d2 d hm) (λ_ _ _ H'=>Q H')):II x y v H Q:=by
 cases d1 with
 |ref j=>
  cases d2 with
  |dat dd=>
   cases dd with
   |int kk=>
    simp only[BA]at p
    cases hx:hm[j]? with
    |none=>rw[hx]at p;exact p.elim
    |some oo=>
     rw[hx]at p
     cases oo with
     |lst xs=>
      simp only at p
      cases hn:va xs.length kk with
      |none=>rw[hn]at p;exact p.elim
      |some n=>rw[hn]at p;obtain⟨a,vs,rfl,ha,hv,rs⟩:=oC w r1 hx;have hl:xs.length=vs.length:=Q0 rs;obtain⟨e1,w3⟩:=w.As ha (jI hx) (aO.MQ rd n rs);exact⟨a,vs,kk,n,rfl,bY r2,hv,by rw[<- hl];exact hn,p _ _ e1 w3⟩
     |_=>exact p.elim
   |_=>exact p.elim
  |_=>exact p.elim
 |_=>exact p.elim
theorem BU{α β:Type}{xs:List α}{ys:List β}(h:xs.length=ys.length):(!xs.isEmpty)=!ys.isEmpty:=by
 grind
theorem sE(w:W G θ hm H)(r:bR G θ H d v)(e:truth d hm=some b):JQ G.K v H b:=by
 unfold truth at e;split at e
 ·cases e;cases r.1;rfl
 ·cases e;cases r.1;rfl
 ·cases e;cases r.1;rfl
 ·split at e
  ·rename_i hz;cases e;cases r.1;exact⟨eh hz,rfl⟩
  grind
 ·cases e;obtain⟨a,us,rfl,ha,q1,_⟩:=gP r;exact .inr (.inl ⟨us,gB.of (ax _ _ _ _ ha),BU q1.length.symm⟩)
 ·cases e;obtain⟨a,us,rfl,ha,q1,_⟩:=gQ r;exact .inl ⟨us,jz.of (ax _ _ _ _ ha),BU q1.length.symm⟩
 ·split at e
  ·rename_i xs hx;cases e;obtain⟨a,vs,rfl,ha,hv,rs⟩:=oC w r hx;refine .inl ⟨vs,jz.of hv,?_⟩;cases rs<;>rfl
  ·cases e
 grind
theorem bT(h:DE X E m e)(he:∀whole,isTrue e X.env whole=(do let v <- whole;standAt e.pos;holding [v] (truthy v)):=by intro _;rfl):DT X E (bz m) e:=by
 simp[br,kR]at *
 exact PT.imp (DZ h he) λσ H Q ⟨θ,h,ρ,w,fr,p⟩=>⟨θ,h,ρ,w,fr,(aD.bind p).mono λd θ1 h1 H1 _ _ ⟨ev,w1,p1⟩ v r=>by
   split at p1
   ·rename_i b hb;exact⟨b,sE w1 r hb,p1 θ1 H1 Ev.refl w1⟩
   ·trivial⟩
theorem ET(hr:cg k X.A){σ:L2.St}{x y:V}(I:Inv X pins σ H s)(rx:RelV x v)(ry:RelV y u)(w:W X.G θ h H)(r1:bR X.G θ H d1 x)(r2:bR X.G θ H d2 y)(hb:n0 d1 d2 h=some b) :
  (Q (.bl b) H->wpAny (model X.prog X.w) X.A (compareOp .In v u) (EP X pins σ Q) X.xe s)/\(Q (.bl !b) H->wpAny (model X.prog X.w) X.A (compareOp .NotIn v u) (EP X pins σ Q) X.xe s):=by
 unfold n0 at hb;split at hb
 ·split at hb
  ·cases hb;exact⟨λq=>CH pins s σ H x y v u Q I rx ry ⟨_,_,(dI r1).1,(dI r2).1,q⟩,λq=>wj pins s σ H x y v u Q I rx ry ⟨_,_,(dI r1).1,(dI r2).1,q⟩⟩
  grind
 ·split at hb
  ·rename_i d ds e1 e2;obtain⟨⟨as,z1⟩,s1⟩:=f7 I w 3 r1 rx e1;obtain⟨⟨bs,z2⟩,s2⟩:=f7 I w 3 r2 ry e2;exact EI hr (.inl rfl) I z1 z2 s1 (by assumption) hb
  ·rename_i d ds e1 e2;obtain⟨⟨as,z1⟩,s1⟩:=f7 I w 3 r1 rx e1;obtain⟨⟨bs,z2⟩,s2⟩:=f7 I w 3 r2 ry e2;exact EI hr (.inr rfl) I z1 z2 s1 (by simpa [cX]using s2) hb
  grind
end
section
variable {X:Cx} {E:XK} {k:Nat} {θ:UK} {hm:Hm} {H M:Hp} {pins:UE} {σ:L2.St} {s:UX}
theorem jY:∀{ks:List (Key×V)} {kvs:UG},aR ks=some kvs->nZ (.str x) kvs=(ks.any λkv=>decide (kv.1=Sum.inr x))
 | [],kvs,e=>by cases e;rfl
 | (q,v)::ks,kvs,e=>by
  unfold aR at e
  cases e1:fQ v with
  |none=>simp_all
  |some d=>
   cases e2:aR ks with
   |none=>simp_all
   |some ds=>
    rw[e1,e2]at e;cases e;have ih:=jY (x:=x) e2;unfold nZ at ih ⊢;rw[Ux,Ux,ih]
    grind[yi,PyData.eqv]
where
 key_lr' {a:Int} {b:Str}:decide ((Sum.inl a:Key)=Sum.inr b)=false:=Rm (λq=>nomatch q)
theorem wZ(q:Key)(x:Str):PyData.eqv (yi q) (.str x)=decide (q=Sum.inr x):=by
 grind[yi,PyData.eqv]
theorem sF(hv:fQ u=some dv):∀{ks:List (Key×V)} {kvs:UG},aR ks=some kvs ->
  aR (ks.map λkv=>if kv.1=Sum.inr x then(kv.1,u)else kv)=some (kvs.map λp=>if PyData.eqv p.1 (.str x)then(p.1,dv)else p)
 | [],kvs,e=>by cases e;rfl
 | (q,v)::ks,kvs,e=>by
  unfold aR at e
  cases e1:fQ v with
  |none=>simp_all
  |some d=>
   cases e2:aR ks with
   |none=>simp_all
   |some ds=>
    rw[e1,e2]at e;cases e;have ih:=sF (x:=x) hv e2;rw[Q6,Q6,wZ];by_cases hq:q=Sum.inr x
    ·simp_all[aR,hv,ih]
    simp_all[hq,decide_false,Rx,QO,aR,e1,ih]
theorem ql(hv:fQ u=some dv):∀{ks:List (Key×V)} {kvs:UG},aR ks=some kvs->aR (ks++[(Sum.inr x,u)])=some (kvs++[(.str x,dv)])
 | [],kvs,e=>by simp_all[aR,hv,yi]
 | (q,v)::ks,kvs,e=>by
  unfold aR at e
  cases e1:fQ v with
  |none=>simp_all
  |some d=>
   cases e2:aR ks with
   |none=>simp_all
   |some ds=>rw[e1,e2]at e;cases e;have ih:=ql (x:=x) hv e2;rw[SW];unfold aR;rw[e1,ih];rfl
theorem nE(hv:fQ u=some dv)(e:aR ks=some kvs):aR (putK ks (Sum.inr x) u)=some (dput kvs (.str x) dv):=by
 unfold putK dput;rw[jY e];split
 ·exact sF hv e
 ·exact ql hv e
theorem jZ:∀{ks:List (Key×V)} {kvs:UG},aR ks=some kvs->ks.length=kvs.length
 | [],kvs,e=>by cases e;rfl
 | (q,v)::ks,kvs,e=>by
  unfold aR at e
  cases e1:fQ v with
  |none=>simp_all
  |some d=>
   cases e2:aR ks with
   |none=>simp_all
   |some ds=>rw[e1,e2]at e;cases e;simp[jZ e2]
theorem nF:∀{ks:List (Key×V)} {kvs:UG} {d:PyData},aR ks=some kvs->uI kvs (.str x)=some d->∃u,pv ks (Sum.inr x)=some u/\fQ u=some d
 | [],kvs,d,e,g=>by cases e;grind[uI]
 | (q,v)::ks,kvs,d,e,g=>by
  unfold aR at e
  cases e1:fQ v with
  |none=>simp_all
  |some d'=>
   cases e2:aR ks with
   |none=>simp_all
   |some ds=>
    rw[e1,e2]at e;cases e;unfold uI at g;rw[List.find?_cons,wZ]at g;by_cases hq:q=Sum.inr x
    ·simp only[hq,decide_true]at g;simp at g;subst g;exact⟨v,nU (p:=(q,v)) hq,e1⟩
    ·simp only[hq,decide_false]at g;obtain⟨u,h1,h2⟩:=nF (x:=x) e2 g;exact⟨u,by rw[kK (p:=(q,v)) hq];exact h1,h2⟩
theorem yy(h:fQ u=some d):Rep M d u:=by
 cases u with
 |non=>cases h;rfl
 |bl b=>cases h;rfl
 |int i=>cases h;rfl
 |str x=>cases h;rfl
 |_=>cases h
theorem sG(f:mR d=true)(h:Rep M d u):fQ u=some d:=by
 cases d with
 |none=>cases h;rfl
 |bool b=>cases h;rfl
 |int i=>cases h;rfl
 |str x=>cases h;rfl
 |_=>trivial
theorem j0(tq:aG q=true):∀{kvs:UG} {xs:List (PyData×Addr×Value)},Paired (oq M) kvs xs->nZ q kvs=(atKey xs q).isSome
 |_,_,.nil=>rfl
 |_,_,.cons (a:=p) (b:=x) h t=>by
  have ih:=j0 tq t;unfold nZ at ih ⊢;unfold atKey at ih ⊢;rw[Ux,List.find?_cons,ih];by_cases e:x.1=q
  ·rw[Rg e,h.1,e,aU (aV tq)];rfl
  ·have  := aS (aV h.2.1) (aV tq) (by rw[h.1];exact e)
   simp_all
theorem BV(I:Inv X pins σ H s)(sm:bG M H)(t:aG d=true)(dp:d.depth<=8)(so:cX d=true)(r:Rep M d (.ref a)):Ku s.heap d a:=by obtain⟨as,z⟩:=Rep.reads I (r.same sm) rfl;exact⟨t,dp,so,as,z⟩
theorem xa(I:Inv X pins σ H s)(sm:bG M H):∀{kvs:UG} {xs:List (PyData×Addr×Value)},Paired (oq M) kvs xs->∀x∈xs,Ku s.heap x.1 x.2.1
 |_,_,.nil,x,hx=>by cases hx
 |_,_,.cons h t,x,hx=>by
  rcases QK.mp hx with rfl|hx
  ·obtain⟨e,t1,t2,t3,t4,_⟩:=h;rw[<- e];exact BV I sm t1 t2 t3 t4
  ·exact xa I sm t x hx
theorem EU(I:Inv X pins σ H s)(sm:bG M H)(ha:H a=some (dO X.prog X.w xs a))(r:Paired (oq M) kvs xs) :
  kvs.length<=sizeLine/\(a==sysModules)=false/\s.heap.DictOfH (eT X.prog X.w) a xs:=by
 obtain⟨⟨h1,h2,o,es,ep,h3,h4,h5,h6,h7⟩,_⟩:=I.hok a _ ha;exact⟨by rw[Q0 r];exact h1,h2,o,es,ep,h3,h4,h5,h6,xa I sm r,h7⟩
theorem KW(ha:H a=some (dO X.prog X.w xs a)):LG (H a):=by rw[ha];exact True.intro
theorem yz(tq:aG q=true)(rv:RelV v u)(rd:Rep M dv v)(sd:cX dv=true):∀{kvs:UG} {xs:List (PyData×Addr×Value)},Paired (oq M) kvs xs ->
  Paired (oq M) (kvs.map λp=>if PyData.eqv p.1 q then(p.1,dv)else p) (xs.map (putAt q u))
 |_,_,.nil=>.nil
 |_,_,.cons (a:=p) (b:=x) h t=>by
  rw[Q6,Q6];refine .cons ?_ (yz tq rv rd sd t);unfold putAt;by_cases e:x.1=q
  ·have e2:PyData.eqv p.1 q=true:=by rw[h.1,e];exact aU (aV tq)
   rw[if_pos e,if_pos e2];exact⟨h.1,h.2.1,h.2.2.1,h.2.2.2.1,h.2.2.2.2.1,v,rv,rd,sd⟩
  ·have e2  := aS (aV h.2.1) (aV tq) (by rw[h.1];exact e)
   grind
theorem yA(tq:aG q=true)(dq:q.depth<=8)(sq:cX q=true)(rq:Rep M q (.ref b))(rv:RelV v u)(rd:Rep M dv v)(sd:cX dv=true)(r:Paired (oq M) kvs xs) :
  Paired (oq M) (dput kvs q dv) (storedH xs q b u):=by
 unfold dput storedH;rw[j0 tq r];split
 ·exact yz tq rv rd sd r
 ·exact eU r (.cons ⟨rfl,tq,dq,sq,rq,v,rv,rd,sd⟩ .nil)
theorem yB(kvs:UG)(q v:PyData):(dput kvs q v).length<=kvs.length+1:=by
 unfold dput;split
 ·simp
 ·simp
theorem W.EV(w:W G θ hm H)(ha:θ[j]?=some a)(hl:j<hm.length)(r:fR G.P G.w (view θ H) (upd H a o) a t kvs):Ev θ H θ (upd H a o)/\W G θ (hm.set j (.iO t kvs)) (upd H a o):=by
 have hmm  := QZ ha
 have e:Ev θ H θ (upd H a o):=⟨⟨[],by simp⟩,λb u q=>by
  obtain⟨h1,h2⟩:=du q;have ne:b≠a:=λz=>by grind
  simp_all[ee,ay]⟩
 exact w.write ha hl (fR.same e.same r λ_ q=>q)
def MR(G:Gx)(E:XK):V->V->V->Hp->(Hp->Prop)->Prop:=λx y v H Q=>∃θ h d1 d2 d,W G θ h H/\bR G θ H d1 x/\bR G θ H d2 y/\bR G θ H d v/\aD G (mJ G E) θ H (wK d1 d2 d h) (λ_ _ _ H'=>Q H')
theorem Hr(hr:cg k X.A):Jz X (MR X.G E):=by
 intro pins s σ H x y v xv yv u Q I rx ry rv ⟨θ,h,d1,d2,d,w,r1,r2,rd,p⟩;unfold wK at p;split at p
 ·rename_i j;split at p
  ·rename_i t kvs hx;unfold IT at p;split at p
   ·rename_i q dv;split at p
    ·rename_i hc;simp only[QG,Rj,S8]at hc;obtain⟨a,ha,rfl⟩:=r1;cases rx;rcases w.obj _ _ _ ha hx with⟨rfl,ks,h1,h2,h3⟩|⟨rfl,xs,h1,h2⟩
     ·have hk:∃z,q=.str z:=by
       have:=hc.1.1;simp only[keyOk,QO,Rx]at this;cases q<;>first|exact⟨_,rfl⟩|simp[gF]at this
      obtain⟨z,rfl⟩:=hk;have fd:mR dv=true:=by rcases hc.1.2 with z|z;cases z;exact z
      have hv:=sG fd rd.1;obtain⟨e2,s2⟩:=dI r2;subst e2
      have so:∀p∈dput kvs (.str z) dv,cX p.1=true/\cX p.2=true:=λp hp=>by
       unfold dput at hp;split at hp
       ·obtain⟨p0,hp0,e0⟩:=Q4.mp hp;split at e0
        ·subst e0;exact⟨(h3 p0 hp0).1,rd.2⟩
        ·subst e0;exact h3 p0 hp0
       ·rcases QN.mp hp with hp|hp
        ·exact h3 p hp
        ·simp at hp;subst hp;exact⟨by simpa [cX]using s2,rd.2⟩
      obtain⟨e1,w1⟩:=w.EV (o:=.dK (putK ks (Sum.inr z) v)) (t:=false) (kvs:=dput kvs (.str z) dv) ha (jI hx) (.inl ⟨rfl,_,aZ,nE hv h2,so⟩);exact CV (by have:=hr.units;omega) I (G1.k (k:=Sum.inr z) h1 (by rw[jZ h2,SK];exact hc.2)) ry rv λs' I'=>⟨_,I',p _ _ e1 w1⟩
     ·have hk:=hc.1.1;simp only[keyOk,Rr,QG,Rj]at hk
      obtain⟨b,vs,rfl,hb⟩:∃b vs,y=.ref b/\view θ H b=some (.tup vs):=by
       cases q with
       |tuple ds=>obtain⟨b,vs,e,hb,_⟩:=r2.1;exact⟨b,vs,e,hb⟩
       |_=>simp[gE]at hk
      cases ry;obtain⟨hz,hsys,dd⟩:=EU I (ax θ H) h1 h2;have hz2:xs.length<=sizeLine:=by rw[<- show kvs.length=xs.length from Q0 h2];exact hz
      have kr:=yA (b:=b) (u:=u) hk.1.2 hk.2 r2.2 r2.1 rv rd.1 rd.2 h2;refine wpAny_setItem_heap (knd:=eT X.prog X.w) (hsz:=hz2) (by show X.A.units+1+20<cLine;have:=hr.units;omega) (BV I (ax θ H) hk.1.2 hk.2 r2.2 r2.1) dd λh' dd' hs=>?_;obtain⟨o,es,ep,g1,g2,g3,g4,_,g5⟩:=dd';have hl2:(storedH xs q b u).length<=sizeLine:=by rw[<- show(dput kvs q dv).length=_ from Q0 kr];have:=yB kvs q dv;rw[SK];omega
      refine⟨_,qW (t':=_) I (KW h1) hs ⟨o,g1⟩ (IU (xs:=storedH xs q b u) hl2 hsys g1 g2 g3 g4 g5),?_⟩;obtain⟨e1,w1⟩:=w.EV (o:=dO X.prog X.w (storedH xs q b u) a) (t:=true) (kvs:=dput kvs q dv) ha (jI hx) (.inr ⟨rfl,_,aZ,kr⟩);exact p _ _ e1 w1
    ·exact p.elim
   ·exact p.elim
  ·exact set_list pins s σ H x y v xv yv u Q I rx ry rv (De w r1 r2 rd p)
 ·exact p.elim
theorem EW(hr:cg k X.A)(ho:DE X E ma' o)(hi:DE X E mb i)(ha:∀v,assign (.Subscript o i pos) X.env v=(do
   let ov <- holding [v] (eval o X.env)
   let iv <- holding [v,ov] (eval i X.env)
   standAt pos
   holding [v,ov,iv] (setItem ov iv v)
   release [v,ov,iv] []):=by intro _;rfl):DG X E (x8 ma' mb) (.Subscript o i pos):=by
 simp[br,mT]at *
 exact λpins s σ H v u Q I r ⟨θ,h,ρ,d,w,fr,rd,p⟩=>JB ho hi (Hr hr) ha pins s σ H v u Q I r ⟨θ,h,ρ,w,fr,(aD.bind p).mono λd1 θ1 h1 H1 _ _ ⟨ev,w1,p1⟩ x r1=>
   ⟨θ1,h1,ρ,w1,fr.ev ev,(aD.bind p1).mono λd2 θ2 h2 H2 _ _ ⟨ev2,w2,p2⟩ y r2=>
    ⟨θ2,h2,d1,d2,d,w2,r1.ev ev2,r2,rd.ev (ev.trans ev2),(aD.bind p2).mono λ_ θ3 h3 H3 _ _ ⟨ev3,w3,p3⟩=>p3 θ3 H3 Ev.refl w3 σ (((fr.ev ev).ev ev2).ev ev3)⟩⟩⟩
end
section
variable {X:Cx} {E:XK} {k:Nat} {θ:UK} {hm:Hm} {H M:Hp} {pins:UE} {σ:L2.St} {s:UX} {pos:Pos} {e:Expr}
theorem yC(w:W G θ hm H)(r:bR G θ H d v)(e:iP d hm=some (t,kvs)):∃a,v=.ref a/\fR G.P G.w (view θ H) H a t kvs:=by
 unfold iP at e;split at e
 ·cases e;obtain⟨a,h1,h2⟩:=r;exact⟨a,h1,h2.same (bG.refl _) λo q=>ax _ _ _ _ q⟩
 ·split at e
  ·rename_i hx;cases e;obtain⟨a,ha,h1⟩:=r;exact⟨a,h1,w.obj _ _ _ ha hx⟩
  grind
 grind
theorem Hs(hr:cg k X.A)(I:Inv X pins σ H s)(rx:RelV x v)(w:W X.G θ h H)(r1:bR X.G θ H d1 x)(dc:fR X.prog X.w (view θ H) H a t kvs)(hb:wI d1 kvs t=some b) :
  (Q (.bl b) H->wpAny (model X.prog X.w) X.A (compareOp .In v (.ref a)) (EP X pins σ Q) X.xe s)/\(Q (.bl !b) H->wpAny (model X.prog X.w) X.A (compareOp .NotIn v (.ref a)) (EP X pins σ Q) X.xe s):=by
 unfold wI at hb;split at hb
 ·rename_i d;split at hb
  ·rename_i ok;cases hb;rcases dc with⟨rfl,ks,h1,h2,h3⟩|⟨rfl,xs,h1,h2⟩
   ·simp only[keyOk,QO,Rx]at ok
    cases d with
    |str z=>
     cases(dI r1).1
     exact⟨λq=>OB (by have:=hr.units;omega) I (uA.k (k:=Sum.inr z) h1) rx λs' I'=>⟨.bl _,H,I',rfl,by rw[<- nV,<- jY h2];exact q⟩,
      λq=>G2 (by have:=hr.units;omega) I (uA.k (k:=Sum.inr z) h1) rx λs' I'=>⟨.bl _,H,I',rfl,by rw[<- nV,<- jY h2];exact q⟩⟩
    |_=>simp[gF]at ok
   ·simp only[keyOk,Rr,QG,Rj]at ok
    cases d with
    |tuple ds=>
     obtain⟨c,vs,rfl,hc,_⟩:=id r1.1;cases rx;obtain⟨hz,hsys,dd⟩:=EU I (ax θ H) h1 h2;have room:(eT X.prog X.w).room X.A.in1:=by show X.A.units+1+20<cLine;have:=hr.units;omega
     have tk:=BV I (ax θ H) ok.1.2 ok.2 r1.2 r1.1
     exact⟨λq=>wpAny_in_heap (knd:=eT X.prog X.w) room tk hsys dd ⟨.bl _,H,I.tok _,rfl,by rw[<- j0 ok.1.2 h2];exact q⟩,
      λq=>PyProof.Rows.wpAny_notIn_heap (knd:=eT X.prog X.w) room tk hsys dd ⟨.bl _,H,I.tok _,rfl,by rw[<- j0 ok.1.2 h2];exact q⟩⟩
    |_=>simp[gE]at ok
  grind
 grind
theorem BW(hr:cg k X.A)(I:Inv X pins σ H s)(rx:RelV x v)(ry:RelV y u)(w:W X.G θ h H)(r1:bR X.G θ H d1 x)(r2:bR X.G θ H d2 y)(hb:findIn d1 d2 h=some b) :
  (Q (.bl b) H->wpAny (model X.prog X.w) X.A (compareOp .In v u) (EP X pins σ Q) X.xe s)/\(Q (.bl !b) H->wpAny (model X.prog X.w) X.A (compareOp .NotIn v u) (EP X pins σ Q) X.xe s):=by
 unfold findIn at hb;split at hb
 ·rename_i p hp;obtain⟨a,rfl,dc⟩:=yC w r2 hp;cases ry;exact Hs hr I rx w r1 dc hb
 ·exact ET hr I rx ry w r1 r2 hb
theorem mK(hr:cg k X.A):ou X E (compareOp .In) nv:=by
 intro pins s σ H x y v u Q I rx ry ⟨θ,h,d1,d2,w,r1,r2,p⟩;unfold nv at p;split at p
 ·rename_i b hb;exact(BW hr I rx ry w r1 r2 hb).1 (p.lZ w (cu _))
 ·trivial
theorem BX(hr:cg k X.A):ou X E (compareOp .NotIn) rQ:=by
 intro pins s σ H x y v u Q I rx ry ⟨θ,h,d1,d2,w,r1,r2,p⟩;unfold rQ at p;split at p
 ·rename_i b hb;exact(BW hr I rx ry w r1 r2 hb).2 (p.lZ w (cu _))
 ·trivial
theorem EX(h:∀p∈kvs,cX p.1=true/\cX p.2=true)(e:uI kvs q=some d):cX d=true:=by
 obtain⟨p,hp,rfl⟩:=RH.mp e
 grind
theorem aP(hr:cg k X.A):LM X (Kw X.G E cU):=by
 intro value slice pins s σ H x y v u Q I rx ry ⟨θ,h,d1,d2,w,r1,r2,p⟩ hs;unfold cU at p;split at p
 ·rename_i pp hp;obtain⟨t,kvs⟩:=pp;split at p
  ·rename_i z;split at p
   ·trivial
   ·rename_i ht;split at p
    ·rename_i d hd;obtain⟨a,rfl,dc⟩:=yC w r1 hp;cases rx;rcases dc with⟨_,ks,h1,h2,h3⟩|⟨z1,_⟩
     ·obtain⟨e2,s2⟩:=dI r2;subst e2;obtain⟨uu,g1,g2⟩:=nF h2 hd;have T:s.TypeIs (.ref a) "dict" := by obtain⟨_,_,vs,_,o,_,_,e,ex,_⟩:=I.hok a _ h1;exact⟨o,e,ex.1⟩
      exact PyProof.Rows.tail_any (ops:=[.ref a,u]) T PySem.F.slot_dict_getitem.lookup (CU (by have:=hr.units;omega) I (by have:=uA.k (k:=Sum.inr z) h1;rw[g1]at this;exact this) ry λw' s' I' rw'=>⟨uu,H,I',rw',p.lZ w ⟨yy g2,EX h3 hd⟩⟩) hs
     grind
    ·exact p.elim
  ·exact p.elim
 ·exact EL value slice pins s σ H x y v u Q I rx ry ⟨θ,h,d1,d2,w,r1,r2,p⟩ hs
end
theorem bR.take(r:bR G θ H d v)(hb:d.below n=true):bR G (θ.take n) H d v:=by
 have sm:bG _ (view (θ.take n) H):=λa o q=>by obtain⟨h1,h2⟩:=du q;rw[ee (λz=>h1 (Th z))];exact h2
 cases d with
 |dat d=>exact⟨r.1.same sm,r.2⟩
 |ref i=>obtain⟨a,h1,h2⟩:=r;simp[D.below]at hb;exact⟨a,by simp_all,h2⟩
 |iO t kvs=>obtain⟨a,h1,h2⟩:=r;exact⟨a,h1,h2.same sm λo q=>sm _ _ q⟩
 |set xs=>exact r
 |fn n=>exact r
 |scr ns=>obtain⟨a,h1,h2⟩:=r;exact⟨a,h1,sm.seq h2⟩
 |ktup xs=>exact r
 |rpr x=>exact r
 |exc x=>obtain⟨a,c,h1,h2,h3⟩:=r;exact⟨a,c,h1,sm _ _ h2,h3⟩
theorem aO.take:∀{ds:List D} {vs:List V},aO G θ H ds vs->ds.all (D.below n)=true->aO G (θ.take n) H ds vs
 |_,_,.nil,_=>.nil
 |_,_,.cons r t,h=>by simp only[List.all_cons,QG]at h;exact .cons (r.take h.1) (aO.take t h.2)
theorem W.take(w:W G θ h H)(hb:(h.take n).all (MO.below n)=true):W G (θ.take n) (h.take n) H:=by
 have sm:bG _ (view (θ.take n) H):=λa o q=>by obtain⟨h1,h2⟩:=du q;rw[ee (λz=>h1 (Th z))];exact h2
 refine⟨by simp[w.len],w.nd.sublist (List.take_sublist _ _),λi a o h1 h2=>?_⟩
 have hi:i<n:=by
  grind
 have mo:=QX.mp hb o (QZ h2);rw[List.getElem?_take_of_lt hi]at h1 h2;have r:=w.obj i a o h1 h2
 cases o with
 |lst xs=>obtain⟨vs,q1,q2⟩:=r;exact⟨vs,q1,q2.take mo⟩
 |iO t kvs=>exact fR.same sm r λ_ q=>q
 |ins=>trivial
 |tab P q=>obtain⟨rfl,x⟩:=r;exact⟨rfl,x.same sm λ_ q=>q⟩
theorem Ev.take(e:Ev θ H θ' H')(hn:n=θ.length):Ev θ H (θ'.take n) H':=by
 obtain⟨ext,rfl⟩:=e.pre;have:(θ++ext).take n=θ:=by grind
 rw[this];refine⟨⟨[],by simp⟩,λa o q=>?_⟩;obtain⟨h1,h2⟩:=du (e.same a o q);rw[ee (λz=>h1 (Q9 _ z))];exact h2
theorem aD.gu(w:W G θ h H)(p:aD G (mJ G E) θ H (gu F ds h) (KV G Q)):aD G (mJ G E) θ H (F ds h) (KV G Q):=by
 unfold Ml.gu at p
 cases e:F ds h with
 |bad=>simp_all
 |ok d h'=>
  rw[e]at p;simp only at p;split at p
  ·rename_i hc;simp only[QG]at hc;intro θ' H' ev w' v r;have w2:=w'.take hc.1.2;have ev2:=ev.take w.len.symm;exact p _ _ ev2 w2 v (r.take hc.1.1)
  ·trivial
 |exc x h'=>
  rw[e]at p;simp only at p;split at p
  ·rename_i hc;simp only[QG]at hc;intro θ' H' ev w' cls da xr;have w2:=w'.take hc.1;have ev2:=ev.take w.len.symm;exact p _ _ ev2 w2 cls da xr
  ·trivial
theorem bf.gu(h:bf P w K mg base x ps k F):bf P w K mg base x ps k (Ml.gu F):=by obtain⟨⟨f,fd,h1,h2,h3,h4⟩,ar⟩:=h;refine⟨⟨f,fd,h1,h2,h3,h4.imp λvs H Q E ⟨θ,hm,ds,w,r,p⟩=>⟨θ,hm,ds,w,r,p.gu w⟩⟩,λds hm l=>?_⟩;unfold Ml.gu;rw[ar ds hm l]
end Ml
namespace L2
open PySem PySem.Spec
section
variable {X:Cx} {a b:Expr} {rest:UO} {ta tb:TE} {pos:Pos}
theorem KY(ht:JG X r)(ha:PE X a ta)(hb:PE X (.BoolOp .Or (b::rest) pos) tb):PE X (.BoolOp .Or (a::b::rest) pos) (λσ H Q=>ta σ H λx H1=>r x H1 λc H2=>H2=H1/\if c=true then Q x H1 else tb σ H1 Q):=by
 intro pins s σ H Q I h;refine PyProof.Rows.BoolOp_or (bw (ha pins s σ H _ I h) λv s1 ⟨x,H1,I1,r1,q1⟩=>?_);refine bw (ht pins s1 σ H1 x v _ I1 r1 q1) λc s2 ⟨H2,I2,e,q2⟩=>?_;subst e
 cases c with
 |false=>exact hb pins s2 σ H2 Q I2 q2
 |true=>exact⟨x,H2,I2,r1,q2⟩
theorem Ht(ht:JG X r)(ha:PE X a ta)(hb:PE X (.BoolOp .And (b::rest) pos) tb):PE X (.BoolOp .And (a::b::rest) pos) (λσ H Q=>ta σ H λx H1=>r x H1 λc H2=>H2=H1/\if c=true then tb σ H1 Q else Q x H1):=by
 intro pins s σ H Q I h;refine PyProof.Rows.BoolOp_and (bw (ha pins s σ H _ I h) λv s1 ⟨x,H1,I1,r1,q1⟩=>?_);refine bw (ht pins s1 σ H1 x v _ I1 r1 q1) λc s2 ⟨H2,I2,e,q2⟩=>?_;subst e
 cases c with
 |true=>exact hb pins s2 σ H2 Q I2 q2
 |false=>exact⟨x,H2,I2,r1,q2⟩
end
end L2
namespace Ml
open PySem PySem.Spec L2
section
variable {X:Cx} {E:XK} {m a b c:ME} {t u:MT} {e e1 e2 e3:Expr} {es:UO} {ma:MA} {pos:Pos} {i:Nat} {x:Str}
def Dg(a b:ME):ME:=λρ h=>(a ρ h).bind λx h1=>match truth x h1 with
 |some c=>if c then .ok x h1 else b ρ h1
 |none=>.bad
def kD(a b:ME):ME:=λρ h=>(a ρ h).bind λx h1=>match truth x h1 with
 |some c=>if c then b ρ h1 else .ok x h1
 |none=>.bad
theorem xb(ha:DE X E a e1)(hb:DE X E b (.BoolOp .Or (e2::es) pos)):DE X E (Dg a b) (.BoolOp .Or (e1::e2::es) pos):=by
 simp[br]at *
 exact PE.imp (KY zU ha hb) λσ H Q ⟨θ,h,ρ,w,fr,p⟩=>⟨θ,h,ρ,w,fr,(aD.bind p).mono λd θ1 h1 H1 _ _ ⟨ev,w1,p1⟩ v r=>by
   split at p1
   ·rename_i b hb;refine⟨b,sE w1 r hb,rfl,?_⟩
    cases b with
    |true=>exact p1 θ1 H1 Ev.refl w1 v r
    |false=>exact⟨θ1,h1,ρ,w1,fr.ev ev,p1⟩
   ·trivial⟩
theorem gb(ha:DE X E a e1)(hb:DE X E b (.BoolOp .And (e2::es) pos)):DE X E (kD a b) (.BoolOp .And (e1::e2::es) pos):=by
 simp[br]at *
 exact PE.imp (Ht zU ha hb) λσ H Q ⟨θ,h,ρ,w,fr,p⟩=>⟨θ,h,ρ,w,fr,(aD.bind p).mono λd θ1 h1 H1 _ _ ⟨ev,w1,p1⟩ v r=>by
   split at p1
   ·rename_i b hb;refine⟨b,sE w1 r hb,rfl,?_⟩
    cases b with
    |false=>exact p1 θ1 H1 Ev.refl w1 v r
    |true=>exact⟨θ1,h1,ρ,w1,fr.ev ev,p1⟩
   ·trivial⟩
def nG(f g:D->D->Hm->R D)(a b c:ME):ME:=λρ h=>(a ρ h).bind λx h1=>(b ρ h1).bind λy h2=>(f x y h2).bind λz h3=>match z with
 |.dat (.bool k)=>if k then(c ρ h3).bind λw h4=>g y w h4 else .ok (.bool false) h3
 |_=>.bad
theorem yD(h:lE G E (nG f g a b c) σ H Q):zS (Kw G E f) (Kw G E g) (lE G E a) (lE G E b) (lE G E c) σ H Q:=by
 obtain⟨θ,h,ρ,w,fr,p⟩:=h;refine⟨θ,h,ρ,w,fr,(aD.bind p).mono λx θ1 h1 H1 _ _ ⟨e1,w1,p1⟩ v r1=>?_⟩;refine⟨θ1,h1,ρ,w1,fr.ev e1,(aD.bind p1).mono λy θ2 h2 H2 _ _ ⟨e2,w2,p2⟩ u r2=>⟨θ2,h2,x,y,w2,r1.ev e2,r2,(aD.bind p2).mono λz θ3 h3 H3 _ _ ⟨e3,w3,p3⟩ z' r3=>?_⟩⟩
 cases z with
 |dat z=>
  cases z with
  |bool k=>
   refine⟨k,r3.1,?_⟩
   cases k with
   |true=>exact⟨θ3,h3,ρ,w3,(fr.ev e1).ev (e2.trans e3),(aD.bind p3).mono λw' θ4 h4 H4 _ _ ⟨e4,w4,p4⟩ q r4=>⟨θ4,h4,y,w',w4,(r2.ev e3).ev e4,r4,p4⟩⟩
   |false=>exact p3 θ3 H3 Ev.refl w3 _ ⟨rfl,by rfl⟩
  |_=>trivial
 |_=>trivial
theorem EY(ho:ou X E (compareOp op) f)(ho':ou X E (compareOp op') g)(ha:DE X E a e1)(hb:DE X E b e2)(hc:DE X E c e3)
 (hm:lastMarks [op,op'] [e2,e3]=false:=by with_unfolding_all rfl):DE X E (nG f g a b c) (.Compare e1 [op,op'] [e2,e3] pos):=by
 simp[br]at *;exact PE.imp (DX ho ho' ha hb hc hm) λ_ _ _=>yD
theorem EZ(ho:ou X E (compareOp op) f)(ho':ou X E (compareOp op') g)(ha:DE X E a e1)(hb:DE X E b e2)(hc:DE X E c e3)
 (hm:lastMarks [op,op'] [e2,e3]=false:=by with_unfolding_all rfl):DT X E (bc (nG f g a b c)) (.Compare e1 [op,op'] [e2,e3] pos):=by
 simp[br,kR]at *;exact PT.imp (DY ho ho' ha hb hc hm) λ_ _ _ q=>yD (BI q)
end
section
variable {X:Cx} {E:XK} {m a b c:ME} {t u:MT} {e e1 e2 e3 tg:Expr} {es:UO} {ma:MA} {pos:Pos} {i:Nat} {x:Str} {ss:List Stmt} {st:Stmt}
theorem dv(i:Nat)(hN:X.N[i]?=some x:=by rfl)(hv:IB X.env.scope x:=by first|exact Or.inl rfl|exact Or.inr (Or.inl rfl)|exact Or.inr (Or.inr rfl))(hd:(x==("__debug__" : Str))=false:=by decide)(hcd:(x==("__classdict__" : Str))=false:=by decide):DE X E (ae i) (.Name x pos):=Kx hN hv hd hcd
theorem dg(i:Nat)(hN:X.N.Nodup)(hi:X.N[i]?=some x:=by rfl)(hx:Loc X.env.scope x:=by first|exact Or.inl rfl|exact Or.inr rfl)(hf:X.fn x=true\/X.env.scope.names.lookup x=some .local:=by first|exact .inl rfl|exact .inr rfl|assumption):DG X E (aA i) (.Name x pos):=Hc hN hi hx hf
noncomputable def aX(e:ME):MA:=λρ h=>match e ρ h with
 |.ok (.dat (.tuple ds)) h1=>.ok (ds.map D.dat) h1
 |.ok (.dat (.list ds)) h1=>.ok (ds.map D.dat) h1
 |.ok (.dat (.str s)) h1=>.ok (signs s) h1
 |.ok (.ktup ds) h1=>.ok (ds.map D.dat) h1
 |.exc x h1=>.exc x h1
 |_=>.bad
theorem cJ(h:DE X E m e):DI X E (aX m) tg e:=by
 have at':=KG (tg:=tg) h;have al':=KH (tg:=tg) h;have as':=KI (tg:=tg) h;have ak':=Ho (tg:=tg) h;simp only[kC]at *;intro pins s σ H QI I ⟨θ,hm,ρ,w,fr,p⟩
 cases em:m ρ hm with
 |bad=>simp only[aX,em]at p;exact p.elim
 |exc x h1=>
  simp only[aX,em]at p;refine at' pins s σ H QI I ⟨θ,hm,ρ,w,fr,?_⟩
  simp_all[Bv,em,R.Eo]
 |ok d h1=>
  cases d with
  |dat d=>
   cases d with
   |tuple ds=>
    simp only[aX,em]at p;refine at' pins s σ H QI I ⟨θ,hm,ρ,w,fr,?_⟩
    simp_all[Bv,em,R.aK]
   |list ds=>simp only[aX,em]at p;refine al' pins s σ H QI I ⟨θ,hm,ρ,w,fr,?_⟩;simp only[Es,em,R.aK];exact p
   |str ds=>simp only[aX,em]at p;refine as' pins s σ H QI I ⟨θ,hm,ρ,w,fr,?_⟩;simp only[Et,em,R.aK];exact p
   |_=>simp only[aX,em]at p;exact p.elim
  |ktup ds=>simp only[aX,em]at p;refine ak' pins s σ H QI I ⟨θ,hm,ρ,w,fr,?_⟩;simp only[MP,em,R.aK];exact p
  |_=>simp only[aX,em]at p;exact p.elim
end
section
variable {X:Cx} {E:XK} {m:ME} {e:Expr} {es:UO} {ma:MA} {pos pos' p p2:Pos} {i:Nat} {x T:Str} {f:Fn} {id n:String} {g:PyData->Bool}
theorem ip(i:Nat)(hN:X.N.Nodup)(he:DE X E m e)(hi:X.N[i]?=some x:=by rfl)(hx:Loc X.env.scope x:=by first|exact Or.inl rfl|exact Or.inr rfl)(hs:swapsWith e (some (.Name x pos')) pos.line X.env=pure false:=by kernel_rfl)(hf:X.fn x=true\/X.env.scope.names.lookup x=some .local:=by first|exact .inl rfl|exact .inr rfl|assumption) :
  DS X E (cw i m) (.Assign [.Name x pos'] e pos):=KA hN hi hx he hs hf
theorem MU{y:Str}{px py pt:Pos}{kt k2 pt2}(i j:Nat)(hN:X.N.Nodup)(ha:DA X E ma [a,b])(hc:X.calm=true:=by rfl)(hi:X.N[i]?=some x:=by rfl)(hj:X.N[j]?=some y:=by rfl)(hij:i≠j:=by decide)
 (hx:X.env.scope.names.lookup x=some .local:=by rfl)(hy:X.env.scope.names.lookup y=some .local:=by rfl)
 (hw:swappedStores [.Tuple [.Name x px,.Name y py] kt pt] (.Tuple [a,b] k2 pt2) X.env=pure (some [x,y]):=by kernel_rfl)
 (hs:swapsWithSole [.Tuple [.Name x px,.Name y py] kt pt] (.Tuple [a,b] k2 pt2) pos.line X.env=pure false:=by rfl) :
  DS X E (uH [i,j] ma) (.Assign [.Tuple [.Name x px,.Name y py] kt pt] (.Tuple [a,b] k2 pt2) pos):=by
 rw[jG]at ha;exact Hd (JE hc hN hi hj hij hx hy ha hw hs)
theorem yE(hc:uq X E (.builtin id) f)(hm:X.mg x=none)(hv:bootBuiltins x=some (.builtin id))(ha:DA X E ma (e::es))(hg:Gl X x:=by rfl)(hn:x ≠ "__name__" := by decide)(hdb:(x==("__debug__" : Str))=false:=by decide)
 (he:starEach (e::es) X.env=(false,eval e X.env)::starEach es X.env:=by rfl)(hpl:(backTo pos (starEach es X.env)).any (·.1)=false:=by rfl):DE X E (af f ma) (.Call (.Name x p) (e::es) [] pos):=ED hc hg hm hv ha hn hdb he hpl
theorem iO(hc:uq X E (.type id) f)(hm:X.mg x=none)(hv:bootBuiltins x=some (.type id))(ha:DA X E ma (e::es))(hg:Gl X x:=by rfl)(hn:x ≠ "__name__" := by decide)(hdb:(x==("__debug__" : Str))=false:=by decide)
 (he:starEach (e::es) X.env=(false,eval e X.env)::starEach es X.env:=by rfl)(hpl:(backTo pos (starEach es X.env)).any (·.1)=false:=by rfl):DE X E (af f ma) (.Call (.Name x p) (e::es) [] pos):=C5 hc hg hm hv ha hn hdb he hpl
theorem E0(kit:∀d,PySem.W.kitOne X.K (.type (Mw d)) (.type n)=some (g d))(bt:bootBuiltins T=some (.type n))(m1:X.mg "isinstance" = none)(m2:X.mg T=none)(h:DE X E m e)(g1:Gl X "isinstance" := by rfl)(g2:Gl X T:=by rfl)(hT:T ≠ "__name__" := by decide)(hT2:(T==("__debug__" : Str))=false:=by decide)
 (hs:starEach [e,.Name T p2] X.env=(false,eval e X.env)::starEach [.Name T p2] X.env:=by rfl)(hs2:starEach [.Name T p2] X.env=[(false,eval (.Name T p2) X.env)]:=by rfl)(hpl:(backTo pos (starEach [.Name T p2] X.env)).any (·.1)=false:=by rfl):DE X E (IQ (ym g) m) (.Call (.Name "isinstance" p) [e,.Name T p2] [] pos):=KR kit bt m1 m2 h g1 g2 hT hT2 hs hs2 hpl
end
def Df(K:UM)(mg:UI)(x:Str)(ps:UN)(st:Stmt):Prop:=∃f fd,mg x=some (.ref f)/\IK K x x st f fd/\Binds K fd ps []
theorem ck{oc kV dc pm cd ct:Value}(X:K.In h)(G:h.Ns mainGlobals mg)
 (a:PySem.W.nsIn K mainGlobals x=some (some (.ref f)))(l:K.lookup f=some ⟨oc,od,.func (PySem.W.fnOf x x (iJ st) (fj st) (aC st) .none kV dc pm an cd ct),sl⟩)(c:PySem.W.codeIn K cd x=true)(k:PySem.W.keepIn K (.ref f)=true)
 (hb:∀(kV doc pm:Value) (an:Option Addr) (cdv ct:Value) (us:UL),us.length=ps.length->bindArgs (PySem.W.fnOf x x (iJ st) (fj st) (aC st) .none kV doc pm an cdv ct) ⟨us,[]⟩=pure (ps.zip us)):Df K mg x ps st:=
 ⟨f,_,Tf X G a,Ab l c k,(Ab l c k).binds hb⟩
section
variable {P:UT} {w:World} {K:UM} {mg:UI} {base:Heap} {x:Str} {st:Stmt} {ps N:UN} {k:Nat} {b:MS} {F:Fn}
theorem Df.has(d:Df K mg x ps st)(S:aN N ps (aC st))(hbody:∀(f:Addr) (cdv:Value) (A:UW) (outer:List Env) (s:UX) (H:Hp) (E:XK),cg k (A.deeper (PyProof.Rows.envOfC x (aC st) s.heap.objs.size f cdv)) ->
   EC (uv (uo P w) P w K mg base N x (aC st) f cdv A outer s H E) E b (fj st)):bf P w K mg base x ps (k+1) (bE ps.length N.length b):=by
 obtain⟨f,fd,h1,Fu,bd⟩:=d;exact⟨⟨f,fd,h1,Fu.kp,bd,PQ Fu S (hbody f)⟩,vq⟩
end
theorem E1:bootBuiltins "int" = some (.type "int"):=by rfl
theorem KZ(h:jA P w K mg base (uo P w) k f fd ps (Gn ⟨P,w,mg,K⟩ F))(e:F=F'):jA P w K mg base (uo P w) k f fd ps (Gn ⟨P,w,mg,K⟩ F'):=e▸h
def IX(K:UM):Sp:=λvs H Q _=>∃(a:Addr) (ns:List Int),vs=[.ref a]/\jz K H a (ns.map V.int)/\ns.length<=63/\∀H',Q (.bl true) H'
theorem E3(hp:∀ns:List Int,ns.length<=63->∃h,F [.scr ns] []=.ok (.bool true) h)(z:IX G.K vs H Q E):Gn G F vs H Q E:=by
 obtain⟨a,ns,rfl,hs,hl,q⟩:=z;obtain⟨h',e⟩:=hp ns hl;refine⟨[],[],[.scr ns],⟨rfl,.nil,λi a o e=>by grind⟩,.cons ⟨a,rfl,by assumption⟩ .nil,?_⟩;rw[e];intro θ' H' _ _ v r;cases r.1
 grind
end Ml
namespace Ml
open PySem
noncomputable def vC:MS:=bx (o8 (um (fO (bz (IQ (ym isStr) (ae 0)))) (fO (bc (nG oLe oLe (ai (.int 1)) (af ig (aa (ae 0) ah)) (ai (.int 6)))))) (bS (ai (.bool false))) cL)
    (bS (af wJ (aa (cx 1 (aX (ae 0)) (aA 0) dR (nG oLe oLe (ai (.str "a")) (ae 0) (ai (.str "z")))) ah)))
def jJ:Fn:=bE 1 1 vC
def qm:MS:=bS (af wJ (aa (cx 2 (Bw (aa (ae 0) (aa (Nz (ae 0) (mS (ai (.int 1))) Bz) ah))) (hX (bM (aA 0) (bM (aA 1) hV))) dR (ak oLt (ae 0) (ae 1))) ah))
def gw:Fn:=bE 1 1 qm
noncomputable def qo:MS:=bx (o8 (um (fO (bz (IQ (ym isTup) (ae 0)))) (bc (ak MC (af ig (aa (ae 0) ah)) (ai (.int 12))))) (bS (ai (.bool false))) cL)
    (bS (kD (af wJ (aa (cx 1 (aX (ae 0)) (aA 0) dR (af jJ (aa (ae 0) ah))) ah)) (af gw (aa (ae 0) ah))))
def iT:Fn:=bE 1 1 qo
def qp:MS:=bx (o8 (um (fO (bz (IQ (ym isTup) (ae 0)))) (bc (ak vm (af ig (aa (ae 0) ah)) (ai (.int 2))))) (bS (ai (.bool false))) cL)
    (bS (kD (ak nv (ak cU (ae 0) (ai (.int 0))) (ae 1)) (ak nv (ak cU (ae 0) (ai (.int 1))) (ae 1))))
def gx:Fn:=bE 2 2 qp
def mW:MS:=bx (o8 (fO (bz (IQ (ym isTup) (ae 0)))) (bS (ai (.bool false))) cL)
    (bS (kD (af wJ (aa (cx 1 (aX (ae 0)) (aA 0) dR (af gx (aa (ae 0) (aa (ae 2) ah)))) ah)) (af gw (aa (ae 0) ah))))
def gc:Fn:=bE 2 2 mW
noncomputable def yF:MS:=bx (o8 (um (fO (bz (IQ (ym isTup) (ae 0)))) (bc (ak vm (af ig (aa (ae 0) ah)) (ai (.int 2))))) (bS (ai (.bool false))) cL)
    (bx (kN (hX (bM (aA 1) (bM (aA 2) hV))) (ae 0))
    (bS (kD (af iT (aa (ae 1) ah)) (af gc (aa (ae 2) (aa (ae 1) ah))))))
def oE:Fn:=bE 1 3 yF
end Ml
namespace Ml
open PySem PySem.Spec L2
section
variable {X:Cx} {E:XK} {st:Stmt}
def Hu:MS:=λ_ _=>.bad
theorem Au:DS X E Hu st:=by simp[jH]at *;exact λpins s σ H C I ⟨θ,hm,ρ,w,fr,p⟩=>p.elim
end
end Ml
namespace Ml
open PySem
def qq:MS:=o8 (fO (bz (af oE (aa (ae 0) ah)))) Hu cL
def cH:Fn:=bE 1 1 qq
end Ml
namespace Ml
open PySem PySem.Spec L2
def iU(x:D)(h:Hm):Option UJ:=match x with
 |.dat (.tuple ds)=>some ds
 |.ktup ds=>some ds
 |x=>listOf x h
section
variable {X:Cx} {E:XK} {m:ME} {a:MA} {e:Expr} {es:UO} {p:Pos}
theorem yG:∀{xs:UJ},(∀x∈xs,(match x with|.int _|.str _|.bool _|.none=>true|_=>false)=true)->cE xs=true->aO G θ H (xs.map D.dat) (xs.map Kv)
 | [],_,_=>.nil
 |d::ds,h,s=>by simp[cE]at s;refine .cons ⟨?_,s.1⟩ (yG (λx m=>h x (QL _ m)) s.2);have:=h d (QS ..);cases d<;>first|rfl|trivial
end
end Ml
namespace L2
open PySem PySem.Spec PyProof.Rows
section
variable {prog:UT} {w:World} {A:UW} {R:Result->UX->Prop} {s:UX} {elt target iter target2 iter2:Expr} {ifs ifs2:UO} {scope:Scope} {pos:Pos} {it acc:Value} {env:Env}
theorem yH:compTurn (.ListComp elt [⟨target,iter,ifs,0⟩,⟨target2,iter2,ifs2,0⟩] scope pos) 0 it acc env=(do
   standAt iter.pos
   match <- pyNext it with
   |none=>pure (.done .next)
   |some v=>
    letOwnedTupleGo target it v
    assign target env v
    let mut ok:=true
    for c in ifs do
     if ok then ok <- isTrue c env (eval c env)
    if ok then
     let x <- eval iter2 env
     standAt iter2.pos
     let x <- foldedSetIterable iter2 env x
     let _ <- runOwn (.compStart (.ListComp elt [⟨target,iter,ifs,0⟩,⟨target2,iter2,ifs2,0⟩] scope pos) 1 (<- holding [x] (pyIter x)) acc env) env
    again (.compLoop (.ListComp elt [⟨target,iter,ifs,0⟩,⟨target2,iter2,ifs2,0⟩] scope pos) 0 it acc env)):=by rfl
theorem yI:compTurn (.ListComp elt [⟨target,iter,ifs,0⟩,⟨target2,iter2,ifs2,0⟩] scope pos) 1 it acc env=(do
   standAt iter2.pos
   match <- pyNext it with
   |none=>pure (.done .next)
   |some v=>
    letOwnedTupleGo target2 it v
    assign target2 env v
    let mut ok:=true
    for c in ifs2 do
     if ok then ok <- isTrue c env (eval c env)
    if ok then
     (do let _ <- call (.builtin "list.append") [acc,<- eval elt env])
    again (.compLoop (.ListComp elt [⟨target,iter,ifs,0⟩,⟨target2,iter2,ifs2,0⟩] scope pos) 1 it acc env)):=by rfl
theorem uK(I:Nat->UX->Prop)
 (turn:∀n s,I n s->wpAny (model prog w) A (pyNext it) (λr s1=>match r with
   |none=>R (.ok .next) s1
   |some v=>wpAny (model prog w) A (letOwnedTupleGo target2 it v) (λ_ s2=>wpAny (model prog w) A (assign target2 env v) (λ_ s3=>
     wpAny (model prog w) A (forIn ifs2 true λc r=>if r=true then do let ok <- isTrue c env (eval c env);pure (ForInStep.yield ok)else pure (ForInStep.yield r)) (λok s4=>
      if ok=true then wpAny (model prog w) A (eval elt env) (λx s5=>
       wpAny (model prog w) A (call (.builtin "list.append") [acc,x]) (λ_ s6=>∃m,m<n/\I m s6) (λ_ _=>False) s5) (λ_ _=>False) s4
      else ∃m,m<n/\I m s4) (λ_ _=>False) s3) (λ_ _=>False) s2) (λ_ _=>False) s1) (λ_ _=>False) s)
 (n:Nat)(h:I n s) :
  codeAny (model prog w) A (.compLoop (.ListComp elt [⟨target,iter,ifs,0⟩,⟨target2,iter2,ifs2,0⟩] scope pos) 1 it acc env) R s:=by
 refine codeAny_loop rfl I (λn s hI=>?_) n h;show wpAny _ A ((compTurn (.ListComp elt [⟨target,iter,ifs,0⟩,⟨target2,iter2,ifs2,0⟩] scope pos) 1 it acc env).onRaise (λx=>do noteFrame x env;theTreesLotGoes x)) _ _ s;refine wpAny_noted ?_;rw[yI];refine RO (E:=λ_ _=>False) (E':=_) (Q':=_) ?_ (λ_ _ q=>q) λ_ _ z=>z.elim;refine QA (RS (QA (bw (turn n s hI) (λr s1 h1=>?_))))
 cases r with
 |none=>exact QB h1
 |some v=>
  refine QA (bw h1 λ_ s2 h2=>?_);refine QA (bw h2 λ_ s3 h3=>QA (bw h3 λok s4 h4=>?_))
  cases ok with
  |false=>exact QB ⟨rfl,h4⟩
  |true=>exact QA (QA (bw h4 λx s5 h5=>QA (bw h5 λ_ s6 h6=>QB (QB ⟨rfl,h6⟩))))
theorem uL(hs:∀x,foldedSetIterable iter2 env x=pure x)(I:Nat->UX->Prop)
 (turn:∀n s,I n s->wpAny (model prog w) A (pyNext it) (λr s1=>match r with
   |none=>R (.ok .next) s1
   |some v=>wpAny (model prog w) A (letOwnedTupleGo target it v) (λ_ s2=>wpAny (model prog w) A (assign target env v) (λ_ s3=>
     wpAny (model prog w) A (forIn ifs true λc r=>if r=true then do let ok <- isTrue c env (eval c env);pure (ForInStep.yield ok)else pure (ForInStep.yield r)) (λok s4=>
      if ok=true then wpAny (model prog w) A (eval iter2 env) (λx s5=>
       wpAny (model prog w) A (pyIter x) (λit2 s6=>codeAny (model prog w) (A.mark none) (.compStart (.ListComp elt [⟨target,iter,ifs,0⟩,⟨target2,iter2,ifs2,0⟩] scope pos) 1 it2 acc env) (λr s7=>match r with|.ok _=>∃m,m<n/\I m s7|.error _=>False) s6) (λ_ _=>False) s5) (λ_ _=>False) s4
      else ∃m,m<n/\I m s4) (λ_ _=>False) s3) (λ_ _=>False) s2) (λ_ _=>False) s1) (λ_ _=>False) s)
 (n:Nat)(h:I n s) :
  codeAny (model prog w) A (.compLoop (.ListComp elt [⟨target,iter,ifs,0⟩,⟨target2,iter2,ifs2,0⟩] scope pos) 0 it acc env) R s:=by
 refine codeAny_loop rfl I (λn s hI=>?_) n h;show wpAny _ A ((compTurn (.ListComp elt [⟨target,iter,ifs,0⟩,⟨target2,iter2,ifs2,0⟩] scope pos) 0 it acc env).onRaise (λx=>do noteFrame x env;theTreesLotGoes x)) _ _ s;refine wpAny_noted ?_;rw[yH];refine RO (E:=λ_ _=>False) (E':=_) (Q':=_) ?_ (λ_ _ q=>q) λ_ _ z=>z.elim;refine QA (RS (QA (bw (turn n s hI) (λr s1 h1=>?_))))
 cases r with
 |none=>exact QB h1
 |some v=>
  refine QA (bw h1 λ_ s2 h2=>?_);refine QA (bw h2 λ_ s3 h3=>QA (bw h3 λok s4 h4=>?_))
  cases ok with
  |false=>exact QB ⟨rfl,h4⟩
  |true=>
   refine QA (bw h4 λx s5 h5=>QA (RS (QA (SQ (hs x) (QA (Ri (bw h5 λit2 s6 h6=>?_)))))));refine QA (wpAny_runOwn (T3 h6 λr s7 h7=>?_))
   cases r with
   |error e=>exact h7.elim
   |ok f=>exact QB ⟨rfl,h7⟩
theorem xc
  (h0:codeAny (model prog w) A (.compLoop (.ListComp elt [⟨target,iter,ifs,0⟩,⟨target2,iter2,ifs2,0⟩] scope pos) 1 it acc env) R s)
  (h:wpAny (model prog w) A (pyIter it) (λit' s'=>codeAny (model prog w) A (.compLoop (.ListComp elt [⟨target,iter,ifs,0⟩,⟨target2,iter2,ifs2,0⟩] scope pos) 1 it' acc env) R s')
   (notedBy (model prog w) A env λx s'=>R (.error x) s') s) :
  codeAny (model prog w) A (.compStart (.ListComp elt [⟨target,iter,ifs,0⟩,⟨target2,iter2,ifs2,0⟩] scope pos) 1 it acc env) R s:=by
 refine codeAny_of_tree ?_;refine wpAny_notedAt ?_;refine QA (To (wpAny_ite ?_));split
 ·first
   |rfl
   |exact QB (And.intro rfl h0)
 ·first
   |rfl
   | (show wpAny _ _ (standAt iter2.pos >>= _) _ _ s;exact QA (RS (QA (RO h (λit' s' h'=>QB (And.intro rfl h')) λ_ _ x=>x))))
end
noncomputable def Av(n:Nat)(J:It)(g:TG)(tc:TT)(wi2:TI)(g2:TG)(tc2:TT)(te:TE)(σ:St)(H:Hp)(Q:VK):Prop:=
 ∃W:Nat->Nat->List V->Hp->Prop,(∃m,W 0 m [] H)/\∀i m ys H,W i m ys H ->
  (J.stop i H/\ys.length<=sizeLine/\∀p,H p=none->Q (.ref p) (upd H p (.lst ys))) \/
  (J.go i H/\ys.length<=sizeLine/\∃N:List V->Hp->Prop,(∀ys' H',N ys' H'->∃m',m'<m/\W (i+1) m' ys' H')/\∀x H',J.yld i H x H'->g x (List.replicate n none++σ) H' λσ2 H2=>tc σ2 H2 λb H3=>
   if b=true then wi2 σ2 H3 λJ2 H4=>∃W2:Nat->Nat->St->List V->Hp->Prop,(∃m2,W2 0 m2 σ2 ys H4)/\∀i2 m2 σ3 zs H5,W2 i2 m2 σ3 zs H5 ->
    (J2.stop i2 H5/\N zs H5) \/
    (J2.go i2 H5/\zs.length<=sizeLine/\∃N2:St->List V->Hp->Prop,(∀σ' zs' H',N2 σ' zs' H'->∃m',m'<m2/\W2 (i2+1) m' σ' zs' H')/\∀x2 H6,J2.yld i2 H5 x2 H6->g2 x2 σ3 H6 λσ4 H7=>tc2 σ4 H7 λb2 H8=>
     if b2=true then te σ4 H8 λy H9=>N2 σ4 (zs++[y]) H9 else N2 σ4 zs H8)
   else N ys H3)
theorem yJ{σ:St}
 {RR:Value->Addr->Result->UX->Prop}(I:Inv X pins σ H2 s2)(CS:cq X.env.scope X.N own scope)(hc:X.calm=true)(T:Turn X.prog X.w X.K tg J fp it tn)(st:tn 0 s2.heap)(hf:∀b∈fp,gC X pins H2 b)
 (hg:∀C s2 H2 fp pins,PG (aq X own scope C s2 H2 fp pins) tg g)(ht:∀C s2 H2 fp pins,CT (aq X own scope C s2 H2 fp pins) ifs tc)(he:∀C s2 H2 fp pins,PE (aq X own scope C s2 H2 fp pins) elt te)(hi2:∀C s2 H2 fp pins,PI (aq X own scope C s2 H2 fp pins) tg2 iter2 wi2)(hg2:∀C s2 H2 fp pins,PG (aq X own scope C s2 H2 fp pins) tg2 g2)(ht2:∀C s2 H2 fp pins,CT (aq X own scope C s2 H2 fp pins) ifs2 tc2)(hs2:∀(env:Env) x,foldedSetIterable iter2 env x=pure x)
 (hW:Av own.length J g tc wi2 g2 tc2 te σ H2 Q)
 (hR:∀D C H' s',Inv X pins σ H' s'->gC X pins H' C->(∃m,s'.heap.Ns C m)->Q (.ref D) H'->Kept X fp H2 H' s2 s'->RR (.ref D) C (.ok .next) s') :
  wpAny (model X.prog X.w) X.A (newList []) (λacc s3=>wpAny (model X.prog X.w) X.A (newFunctionEnv scope X.env.globals (eG X.env.cells scope.names []) [] X.env.qual none .none (some X.env)) (λcenv s4=>
   codeAny (model X.prog X.w) X.A (.compStart (.ListComp elt [⟨tg,iter,ifs,0⟩,⟨tg2,iter2,ifs2,0⟩] scope pos) 0 (.ref it) acc {cenv with scope:=relabel scope X.env}) (RR acc cenv.locals) s4) E s3) E s2:=by
 refine Rb (jh ?_);dsimp only;generalize hH:s2.heap.push {cls:=.type "list",dict:=none,data:=.seq ([]:UL).toArray}=h3;have hDC:h3.objs.size=s2.heap.objs.size+1:=by rw[<- hH,Rf]
 have eC:({scope:=relabel scope X.env,locals:=h3.objs.size,globals:=X.env.globals,cells:=cellsFrom (h3.objs.size+1) scope.names (eG X.env.cells scope.names []),qual:=X.env.qual,func:=none,code:=X.env.code,frame:=X.env.frame,builtins:=X.env.builtins}:Env)=jg scope h3.objs.size X.env:=rfl;rw[eC];generalize eD:s2.heap.objs.size=D at *;generalize eCC:h3.objs.size=C at *;have hl:∀b∈fp,b<s2.heap.objs.size:=λb hb=>by obtain⟨o,e,_⟩:=T.obj 0 _ st b hb;exact QF e
 have hC:s2.heap.objs.size<=C:=by omega
 generalize hH4:pushCells (h3.push {cls:=.type "dict",data:=.dict #[]}) scope.names=h4;have k34:∀b o,(h3.push {cls:=.type "dict",data:=.dict #[]}).get? b=some o->h4.get? b=some o:=λb o e=>by rw[<- hH4];exact pushCells_keeps _ _ b o e
 have k24:∀b o,s2.heap.get? b=some o->h4.get? b=some o:=λb o e=>k34 b o (QC _ (by rw[<- hH];exact QC _ e));have nsC:h4.Ns C λ_=>none:=by have:=Heap.Ns.new h3 (.type "dict");rw[eCC]at this;exact this.keeps k34
 have accD:h4.get? D=some {cls:=.type "list",data:=.seq (([]:UL).toArray)}:=k34 _ _ (QC _ (by rw[<- hH,<- eD];exact QJ _ rfl));have cellN:∀x c,(x,c)∈cellsFrom (C+1) scope.names []->h4.IsCell c none/\C+1<=c:=λx c hm=>by have ok:=cellsFrom_ok scope.names (h3.push {cls:=.type "dict",data:=.dict #[]}) (C+1) [] ⟨λ_ _ hm=>(nomatch hm),List.Pairwise.nil⟩ (by rw[Rf];omega);rw[Rf,eCC,hH4]at ok;exact ok.empty x c hm
 have hne:H2 D=none:=by rw[<- eD];exact I.hok.fresh (QE _)
 have ok':(aq X own scope C s2 H2 fp pins).Ok:=wt I CS hC hf hl
 have rebase:∀{σ':St} {H':Hp} {ps:UE} {s':UX},Inv (aq X own scope C s2 H2 fp pins) ps σ' H' s'->Inv (aq X own scope C s2 H2 fp pins) ps (List.replicate own.length none++σ) H' s':=λ{σ' H' ps s'} J'=>by
  obtain⟨m,hn,_⟩:=J'.loc;refine⟨J'.ok,J'.os,J'.bare,J'.base,⟨m,hn,jC I CS λc v z ⟨x,hx⟩=>?_⟩,J'.cell,J'.free,J'.freeC,J'.pin,J'.hok,?_⟩
  ·obtain⟨o,ho,hd⟩:=z;obtain⟨sl,e⟩:=J'.base.any ho (I.freeC x c hx) λhb=>(hf c hb).2.2.2.2.1 x c hx rfl;exact⟨_,e,hd⟩
  ·show(List.replicate own.length none++σ).length=(own++X.N).length;rw[QW,QW,RI,I.len]
 have start:Inv (aq X own scope C s2 H2 fp pins) [] (List.replicate own.length none++σ) H2 {s2 with heap:=h4}:=by
  have I4:Inv X pins σ H2 {s2 with heap:=h4}:=I.kept (t':=s2.toks) k24;refine⟨ok',rfl,I.bare,Un.kept k24,⟨_,nsC,jC I CS λc v z _=>z.keeps k24⟩,λx c h=>?_,I.hok.fresh hC,λx c h=>?_,λp hp=>?_,I4.hok,?_⟩
  ·rcases bH h with⟨a,_,_⟩|a
   ·exact⟨_,(cellN x c a).1⟩
   ·obtain⟨v,z⟩:=I.cell x c (dQ I CS a).2;exact⟨v,z.keeps k24⟩
  ·rcases bH h with⟨_,_,a⟩|a
   ·exact I.hok.fresh (QM hC (QM (Sb _) a))
   ·exact I.freeC x c (dQ I CS a).2
  ·have hp':p∈X.pn++pins:=by
    rcases QN.mp hp with z|z
    ·exact z
    ·exact nomatch z
   obtain⟨e,n,ne,nf,d⟩:=I.pin p hp';refine⟨k24 _ _ e,n,QQ (QH (QF e) hC),λz=>?_,d⟩;rcases QK.mp (I.jf _ z)with q|q
   ·exact ne q
   ·exact nf q
  ·show(List.replicate own.length none++σ).length=(own++X.N).length;rw[QW,QW,RI,I.len]
 obtain⟨W,⟨m0,w0⟩,turn⟩:=hW
 have nfs:∀b,s2.heap.objs.size<=b->b∉(aq X own scope C s2 H2 fp pins).fs:=λb hb z=>by
  rcases QK.mp (I.jf b z)with q|q
  ·rw[q]at hb;exact absurd (QH I.lt hb) (QU _)
  ·exact I.zN hb q
 have fpD:∀{H':Hp},H' D=none->gC (aq X own scope C s2 H2 fp pins) [] H' D:=λ{H'} hn=>by
  refine⟨hn,QQ (by show D<C;omega),nfs D (by omega),.inr (by show s2.heap.objs.size<=D;omega),λx c h z=>?_,λp hp z=>?_⟩
  ·rcases bH h with⟨_,_,a⟩|a
   ·rw[z]at a;exact absurd (QH (show D<C+1 by omega) a) (QU _)
   ·obtain⟨v,q⟩:=I.cell x c (dQ I CS a).2;have:=q.lt;rw[z,eD]at this;exact QU _ this
  ·have hp':p∈X.pn++pins:=by
    rcases QN.mp hp with z|z
    ·exact z
    ·exact nomatch z
   have:=QF (I.pin p hp').1;rw[z,eD]at this;exact QU _ this
 have nD:D∉fp:=λz=>by have:=hl D z;rw[eD]at this;exact QU _ this
 have stat:∀{H':Hp} {ps:UE},(∀p∈ps,p.1=D)->(∀b∈fp,H' b=none)->∀b∈fp,gC (aq X own scope C s2 H2 fp pins) ps H' b:=λ{H' ps} hps hn b hb=>by
  obtain⟨f0,f1,f2,f3,f4,f5⟩:=hf b hb;refine⟨hn b hb,(ok'.exf b hb).1,ok'.exfs b hb,.inl hb,(ok'.exf b hb).2,λp hp=>?_⟩;rcases QN.mp hp with z|z
  ·exact f5 p z
  ·rw[hps p z];exact λq=>nD (q▸hb)
 let LI:Nat->UX->Prop:=λn s'=>∃i ys its k H',Inv (aq X own scope C s2 H2 fp pins) [] (List.replicate own.length none++σ) H' s'/\tn i s'.heap/\(∀b∈fp,H' b=none)/\H' D=none /\
  s'.heap.get? D=some {cls:=.type "list",data:=.seq (List.toArray its) k}/\Vals ys its/\W i n ys H'
 have l0:LI m0 {s2 with heap:=h4}:=⟨0,[],[],0,H2,start,T.keep _ _ _ st λb _ o e=>k24 b o e,λb hb=>(hf b hb).1,hne,accD,.nil,w0⟩
 have loop:codeAny (model X.prog X.w) X.A (.compLoop (.ListComp elt [⟨tg,iter,ifs,0⟩,⟨tg2,iter2,ifs2,0⟩] scope pos) 0 (.ref it) (.ref D) (jg scope C X.env)) (RR (.ref D) C) {s2 with heap:=h4}:=by
  refine uL (hs2 _) LI ?_ m0 l0;rintro n s3 ⟨i,ys,its,k,H3,I3,st3,fr3,d3,a3,v3,w3⟩;rcases turn i n ys H3 w3 with⟨stop,hz,qn⟩|⟨go,hz,NN,hNN,step⟩
  ·have I3p:=I3.pinned (fp:=[D]) (λb hb=>(QT.mp hb)▸fpD d3) λb hb=>⟨_,(QT.mp hb)▸a3,λv z=>(by cases z)⟩;refine bw (T.done (aq X own scope C s2 H2 fp pins) rfl rfl rfl hc i _ s3 _ H3 _ I3p (stat (λp hp=>by have q:p∈bK [D] s3.heap:=hp;have:=(dZ q).1;simpa using this) fr3) st3 stop) λr s4 ⟨hr,I4⟩=>?_;subst hr;have a4:s4.heap.get? D=_:=(I4.pin (D,_) (QD _ (QD _ (aQ (by simp) a3)))).1;have u4:Un (uj X.stack) fp H2 H3 s2.heap s4.heap:=I4.base
   have okD:kH X.prog X.w (upd H3 D (.lst ys)) s4.heap:=λb o e=>by
    by_cases hb:b=D
    ·subst hb;rw[aZ]at e;cases e;exact⟨hz,its,k,v3,a4⟩
    ·rw[ay hb]at e;exact(I4.hok b o e).qP (λ_ _ _ q=>q) (λc q=>by rw[ay (aF q d3)];exact q) λc xs q=>by rw[ay (aF q d3)];exact q
   have nDo:∀b o,s2.heap.get? b=some o->b≠D:=λb o e=>by rw[<- eD];exact QQ (QF e)
   have uD:Un (uj X.stack) fp H2 (upd H3 D (.lst ys)) s2.heap s4.heap:=⟨u4.keep,u4.slot,λb o e n hx=>by rw[ay (nDo b o e)];exact u4.free b o e n hx,u4.there,
    λb xs e=>by rw[ay (aF e hne)];exact u4.tups b xs e,λb o xs e=>by rw[ay (aF e hne)];exact u4.frzs b o xs e,λb ps e=>by rw[ay (aF e hne)];exact u4.tbls b ps e⟩
   have kp:Kept X fp H2 (upd H3 D (.lst ys)) s2 s4:=⟨I4.os,uD,okD,I4.bare⟩;have I5:Inv X pins σ (upd H3 D (.lst ys)) s4:=kp.inv I hf;obtain⟨m,hn,_⟩:=I4.loc;refine hR D C _ s4 I5 ⟨by rw[ay (show C≠D by omega)];exact I4.free,Sr (QH I.lt hC),I.zN hC,.inr (QM I.sz hC),λx c e z=>?_,λp hp z=>?_⟩ ⟨m,hn⟩ (qn D d3) kp
   ·obtain⟨v,q⟩:=I.cell x c e;exact absurd (QH q.lt (by rw[z];exact hC)) (QU _)
   ·exact absurd (QH (QF (I.pin p hp).1) (by rw[z];exact hC)) (QU _)
  ·have I3p:=I3.pinned (fp:=[D]) (λb hb=>(QT.mp hb)▸fpD d3) λb hb=>⟨_,(QT.mp hb)▸a3,λv z=>(by cases z)⟩;have onlyD:∀p∈([]++bK [D] s3.heap),p.1=D:=λp hp=>by have q:p∈bK [D] s3.heap:=hp;have:=(dZ q).1;simpa using this
   refine bw (T.item (aq X own scope C s2 H2 fp pins) rfl rfl rfl hc i _ s3 _ H3 _ I3p (stat onlyD fr3) st3 go) λr s4 ⟨u,hr,h4'⟩=>?_;subst hr;refine bw h4' λ_ s5 ⟨x,H5,I5,r5,y5,st5,fr5⟩=>?_;have I5p:=I5.pinned (fp:=fp) (stat onlyD fr5) (T.obj _ _ st5)
   have cont:∀{s6:UX} {σ6:St} {H6:Hp},Inv (aq X own scope C s2 H2 fp pins) (([]++bK [D] s3.heap)++bK fp s5.heap) σ6 H6 s6 ->
     Inv (aq X own scope C s2 H2 fp pins) [] (List.replicate own.length none++σ) H6 s6/\tn (i+1) s6.heap/\(∀b∈fp,H6 b=none)/\H6 D=none/\s6.heap.get? D=some {cls:=.type "list",data:=.seq (List.toArray its) k}:=λ{s6 σ6 H6} I6=>by
    have pD:=I6.pin (D,_) (QD _ (Q9 _ (QD _ (aQ (by simp) a3))));refine⟨rebase (I6.gM λp hp=>nomatch hp),T.keep _ _ _ st5 λb hb o e=>(I6.pin (b,o) (QD _ (QD _ (aQ hb e)))).1,λb hb=>?_,pD.2.1,pD.1⟩;obtain⟨o,e,_⟩:=T.obj _ _ st5 b hb;exact(I6.pin (b,o) (QD _ (QD _ (aQ hb e)))).2.1
   refine bw (hg C s2 H2 fp pins _ s5 _ H5 x u _ I5p r5 (step x H5 y5)) λ_ s6 ⟨σ6,H6,I6,q6⟩=>?_;refine bw (ht C s2 H2 fp pins _ s6 σ6 H6 _ I6 q6) λb s7 ⟨H7,I7,q7⟩=>?_
   cases b with
   |false=>have q7':NN ys H7:=q7;obtain⟨m',hm,w7⟩:=hNN _ _ q7';obtain⟨c1,c2,c3,c4,c5⟩:=cont I7;exact⟨m',hm,i+1,ys,its,k,H7,c1,c2,c3,c4,c5,v3,w7⟩
   |true=>
    have pmD:(D,_)∈(([]++bK [D] s3.heap)++bK fp s5.heap):=Q9 _ (QD _ (aQ (by simp) a3))
    have fpD2:∀{H':Hp},H' D=none->gC (aq X own scope C s2 H2 fp pins) (bK fp s5.heap) H' D:=λ{H'} hn=>by
     obtain⟨f0,f1,f2,f3,f4,f5⟩:=fpD hn;refine⟨f0,f1,f2,f3,f4,λp hp=>?_⟩;rcases QN.mp hp with z|z
     ·exact f5 p (Q9 _ z)
     ·exact λq=>nD (q▸(dZ z).1)
    have cont2:∀{s6:UX} {σ6:St} {H6:Hp},Inv (aq X own scope C s2 H2 fp pins) (bK fp s5.heap) σ6 H6 s6->Inv (aq X own scope C s2 H2 fp pins) [] (List.replicate own.length none++σ) H6 s6/\tn (i+1) s6.heap/\(∀b∈fp,H6 b=none):=λ{s6 σ6 H6} I6=>by refine⟨rebase (I6.gM λp hp=>nomatch hp),T.keep _ _ _ st5 λb hb o e=>(I6.pin (b,o) (QD _ (aQ hb e))).1,λb hb=>?_⟩;obtain⟨o,e,_⟩:=T.obj _ _ st5 b hb;exact(I6.pin (b,o) (QD _ (aQ hb e))).2.1
    refine bw (hi2 C s2 H2 fp pins _ s7 σ6 H7 _ I7 q7) λv s8 h8=>bw h8 λitv s9 h9=>?_;obtain⟨it2,fp2,tn2,J2,H9,e9,I9,T2,st9,f9,W2,⟨m2,w2⟩,turn2⟩:=h9;subst e9;have pD9:=I9.pin (D,_) (QD _ pmD);have neD:∀b∈fp2,D≠b:=λb hb=>(f9 b hb).2.2.2.2.2 (D,_) (QD _ pmD)
    have stat2:∀{H':Hp} {ps:UE},(∀p∈ps,p.1=D)->(∀b∈fp2,H' b=none)->∀b∈fp2,gC (aq X own scope C s2 H2 fp pins) (bK fp s5.heap++ps) H' b:=λ{H' ps} hps hn b hb=>by
     obtain⟨g0,g1,g2',g3,g4,g5⟩:=f9 b hb;refine⟨hn b hb,g1,g2',g3,g4,λp hp=>?_⟩;rcases QN.mp hp with z|z
     ·exact g5 p (Q9 _ z)
     ·rcases QN.mp z with z|z
      ·exact g5 p (QD _ (QD _ z))
      ·rw[hps p z];exact neD b hb
    let LI2:Nat->UX->Prop:=λn' s'=>∃i2 σ3 zs its2 k2 H',Inv (aq X own scope C s2 H2 fp pins) (bK fp s5.heap) σ3 H' s'/\tn2 i2 s'.heap/\(∀b∈fp2,H' b=none)/\H' D=none /\
     s'.heap.get? D=some {cls:=.type "list",data:=.seq (List.toArray its2) k2}/\Vals zs its2/\W2 i2 n' σ3 zs H'
    have i0:LI2 m2 s9:=⟨0,σ6,ys,its,k,H9,I9.gM (λp hp=>I9.pin p (QD _ (QD _ hp))),st9,λb hb=>(f9 b hb).1,pD9.2.1,pD9.1,v3,w2⟩
    have loop2:codeAny (model X.prog X.w) X.A (.compLoop (.ListComp elt [⟨tg,iter,ifs,0⟩,⟨tg2,iter2,ifs2,0⟩] scope pos) 1 (.ref it2) (.ref D) (jg scope C X.env)) (λr s7=>match r with|.ok _=>∃m,m<n/\LI m s7|.error _=>False) s9:=by
     refine uK LI2 ?_ m2 i0;rintro n2 t3 ⟨i2,σ3,zs,its2,k2,K3,J3,st3',fr3',d3',a3',v3',w3'⟩;have J3p:=J3.pinned (fp:=[D]) (λb hb=>(QT.mp hb)▸fpD2 d3') λb hb=>⟨_,(QT.mp hb)▸a3',λv z=>(by cases z)⟩;have onlyD2:∀p∈bK [D] t3.heap,p.1=D:=λp hp=>by have:=(dZ hp).1;simpa using this
     rcases turn2 i2 n2 σ3 zs K3 w3' with⟨stop2,qn2⟩|⟨go2,hz2,NN2,hNN2,step2⟩
     ·refine bw (T2.done (aq X own scope C s2 H2 fp pins) rfl rfl rfl hc i2 _ t3 _ K3 _ J3p (stat2 onlyD2 fr3') st3' stop2) λr t4 ⟨hr,J4⟩=>?_;subst hr;have a4':t4.heap.get? D=_:=(J4.pin (D,_) (QD _ (QD _ (aQ (by simp) a3')))).1;obtain⟨m',hm,w4⟩:=hNN _ _ qn2;obtain⟨c1,c2,c3⟩:=cont2 J4.hZ;exact⟨m',hm,i+1,zs,its2,k2,K3,c1,c2,c3,d3',a4',v3',w4⟩
     ·refine bw (T2.item (aq X own scope C s2 H2 fp pins) rfl rfl rfl hc i2 _ t3 _ K3 _ J3p (stat2 onlyD2 fr3') st3' go2) λr t4 ⟨u2,hr,h4''⟩=>?_;subst hr;refine bw h4'' λ_ t5 ⟨x2,K5,J5,r5',y5',st5',fr5'⟩=>?_;have J5p:=J5.pinned (fp:=fp2) (stat2 onlyD2 fr5') (T2.obj _ _ st5')
      have contI:∀{t6:UX} {τ6:St} {K6:Hp},Inv (aq X own scope C s2 H2 fp pins) ((bK fp s5.heap++bK [D] t3.heap)++bK fp2 t5.heap) τ6 K6 t6 ->
        Inv (aq X own scope C s2 H2 fp pins) (bK fp s5.heap) τ6 K6 t6/\tn2 (i2+1) t6.heap/\(∀b∈fp2,K6 b=none)/\K6 D=none/\t6.heap.get? D=some {cls:=.type "list",data:=.seq (List.toArray its2) k2}:=λ{t6 τ6 K6} J6=>by
       have pD:=J6.pin (D,_) (QD _ (Q9 _ (QD _ (aQ (by simp) a3'))));refine⟨J6.hZ.hZ,T2.keep _ _ _ st5' λb hb o e=>(J6.pin (b,o) (QD _ (QD _ (aQ hb e)))).1,λb hb=>?_,pD.2.1,pD.1⟩;obtain⟨o,e,_⟩:=T2.obj _ _ st5' b hb;exact(J6.pin (b,o) (QD _ (QD _ (aQ hb e)))).2.1
      refine bw (hg2 C s2 H2 fp pins _ t5 _ K5 x2 u2 _ J5p r5' (step2 x2 K5 y5')) λ_ t6 ⟨τ6,K6,J6,q6'⟩=>?_;refine bw (ht2 C s2 H2 fp pins _ t6 τ6 K6 _ J6 q6') λb2 t7 ⟨K7,J7,q7'⟩=>?_
      cases b2 with
      |false=>have q7'':NN2 τ6 zs K7:=q7';obtain⟨m',hm,w7⟩:=hNN2 _ _ _ q7'';obtain⟨c1,c2,c3,c4,c5⟩:=contI J7;exact⟨m',hm,i2+1,τ6,zs,its2,k2,K7,c1,c2,c3,c4,c5,v3',w7⟩
      |true=>refine bw (he C s2 H2 fp pins _ t7 τ6 K7 _ J7 q7') λv t8 ⟨y,K8,J8,r8,q8⟩=>?_;obtain⟨m',hm,w8⟩:=hNN2 _ _ _ q8;obtain⟨c1,c2,c3,c4,c5⟩:=contI J8;refine wpAny_list_append_plain ⟨k2,c5⟩ (λh' hp hs=>?_) (by rw[Q1,<- v3'.length];exact hz2);obtain⟨k',e'⟩:=hp;obtain⟨f0,f1,f2,f3,f4,f5⟩:=fpD2 c4;refine⟨m',hm,i2+1,τ6,zs++[y],its2++[v],k',K8,c1.turned (t':=t8.toks) (λb o hb e=>(hs.2 b hb).trans e) f0 f1 f3 f4 f5,T2.keep _ _ _ c2 λb hb o e=>(hs.2 b λz=>neD b hb z.symm).trans e,c3,c4,?_,v3'.append (.cons r8 .nil),w8⟩;show h'.get? D=_;rw[e'];simp
    exact xc loop2 (T2.self _ 0 s9 _ _ st9 loop2)
 exact codeAny_compStart_list loop (T.self X.A 0 {s2 with heap:=h4} _ _ (T.keep _ _ _ st λb _ o e=>k24 b o e) loop)
section
variable {X:Cx} {own:UN} {scope:Scope} {elt tg iter tg2 iter2:Expr} {ifs ifs2:UO} {pos:Pos} {wi wi2:TI} {g g2:TG} {tc tc2:TT} {te:TE}
def Aw(n:Nat)(wi:TI)(g:TG)(tc:TT)(wi2:TI)(g2:TG)(tc2:TT)(te:TE):TE:=λσ H Q=>wi σ H λJ H1=>Av n J g tc wi2 g2 tc2 te σ H1 Q
theorem E4(own:UN){pos' spos:Pos}(hN:X.N.Nodup)(hxi:X.N[i]?=some x)(hx:X.env.scope.names.lookup x=some .local)(CS:eR X.env.scope X.N own scope=true)(hc:X.calm=true)(hi:PI X tg iter wi)(hg:∀C s2 H2 fp pins,PG (aq X own scope C s2 H2 fp pins) tg g)
 (ht:∀C s2 H2 fp pins,CT (aq X own scope C s2 H2 fp pins) ifs tc)(he:∀C s2 H2 fp pins,PE (aq X own scope C s2 H2 fp pins) elt te)(hi2:∀C s2 H2 fp pins,PI (aq X own scope C s2 H2 fp pins) tg2 iter2 wi2)(hg2:∀C s2 H2 fp pins,PG (aq X own scope C s2 H2 fp pins) tg2 g2)(ht2:∀C s2 H2 fp pins,CT (aq X own scope C s2 H2 fp pins) ifs2 tc2)(hs:∀x,foldedSetIterable iter X.env x=pure x:=by intro _;rfl)(hs2:∀(env:Env) x,foldedSetIterable iter2 env x=pure x:=by intro _ _;rfl)
 (hsw:swapsWith (.ListComp elt [⟨tg,iter,ifs,0⟩,⟨tg2,iter2,ifs2,0⟩] scope pos) (some (.Name x pos')) spos.line X.env=pure true:=by rfl) :
  PS X (.Assign [.Name x pos'] (.ListComp elt [⟨tg,iter,ifs,0⟩,⟨tg2,iter2,ifs2,0⟩] scope pos) spos) (CD (Aw own.length wi g tc wi2 g2 tc2 te) (aA i)):=by
 intro pins s σ H D I h;have CS:=cq.of CS;rw[exec_Assign_Name_used _ _ _ _ hsw];refine QA (RS (QA ?_));show wpAny _ X.A (do let _ <- comprehension (.ListComp elt [⟨tg,iter,ifs,0⟩,⟨tg2,iter2,ifs2,0⟩] scope pos) scope X.env _ (newList []) false (eval iter X.env) (some (assign (.Name x pos') X.env))) _ _ s
 refine QA (bw (SH (use:=some (assign (.Name x pos') X.env)) (Q:=λ_ s'=>SP X pins D .next s') (g:=⟨tg,iter,ifs,0⟩) rfl hs (fX λn hn=>I.ok.has n (CS.frees n hn)) CS.kind (jR CS)
  (bw (hi pins s σ H _ I h) λv s1 h1=>bw h1 λitv s2 h2=>?_)) λ_ s' hq=>QB (QB hq))
 obtain⟨it,fp,tn,J,H2,e,I2,T,st2,f2,hW⟩:=h2;subst e;refine yJ (Q:=λx H1=>aA i x σ H1 D.nx) (RR:=λacc C=>compPost (model X.prog X.w) X.A X.xe (some (assign (.Name x pos') X.env)) (λ_ s'=>SP X pins D .next s') acc C) I2 CS hc T st2 f2 hg ht he hi2 hg2 ht2 hs2 hW λDl C H' s' I' fC ⟨m,hn⟩ q _=>?_;show wpAny _ _ (assign (.Name x pos') X.env (.ref Dl)) _ _ s';refine wpAny_assign_Name (pf (v:=.ref Dl) I' hN hxi (.inl hx) rfl (λs'' I'' hsb=>?_) (.inr hx));obtain⟨f0,f1,f2',f3,f4,f5⟩:=fC;obtain⟨a,sb,ha⟩:=hsb
 have hCa:C≠a:=by
  rcases ha with e|e
  ·rw[e];exact f1
  ·exact(f4 x a e).symm
 refine⟨m,hn.sameBut sb hCa,λh' hs'=>⟨_,H',?_,q⟩⟩;exact I''.turned (t':=s''.toks) (λb o hb e=>(hs'.2 b hb).trans e) f0 f1 f3 f4 f5
end
end L2
namespace Ml
open PySem PySem.Spec L2
noncomputable def j3(g2:MG)(t2:MT)(e:ME):List D->Fm->Hm->R (List D)
 | [],_,h=>.ok [] h
 |y::ys,ρ,h=>(g2 y ρ h).uF.bind λρ1 h1=>(t2 ρ1 h1).uF.bind λc h2=>
  if c then(e ρ1 h2).uF.bind λz h3=>(j3 g2 t2 e ys ρ1 h3).bind λzs h4=>.ok (z::zs) h4
  else j3 g2 t2 e ys ρ1 h2
noncomputable def eW(n:Nat)(ρ:Fm)(g:MG)(t:MT)(it2:MA)(g2:MG)(t2:MT)(e:ME):List D->Nat->Hm->R (List D)
 | [],_,h=>.ok [] h
 |x::xs,k,h=>(g x (List.replicate n none++ρ) h).uF.bind λρ1 h1=>(t ρ1 h1).uF.bind λc h2=>
  if c then(it2 ρ1 h2).uF.bind λys h3=>if mI (k+ys.length)then(j3 g2 t2 e ys ρ1 h3).bind λzs h4=>(eW n ρ g t it2 g2 t2 e xs (k+zs.length) h4).bind λws h5=>.ok (zs++ws) h5 else .bad
  else eW n ρ g t it2 g2 t2 e xs k h2
def sH(n:Nat)(it:MA)(g:MG)(t:MT)(it2:MA)(g2:MG)(t2:MT)(e:ME):MA:=λρ h=>(it ρ h).bind λxs h1=>if mI xs.length then eW n ρ g t it2 g2 t2 e xs 0 h1 else .bad
def xf(n:Nat)(it:MA)(g:MG)(t:MT)(it2:MA)(g2:MG)(t2:MT)(e:ME):ME:=af ie (sH n it g t it2 g2 t2 e)
section
variable {X:Cx} {E:XK} {it it2:MA} {g g2:MG} {t t2:MT} {m:ME}
theorem Ax(hJ:ow G θ1 H1 xs J)(w1:W G θ1 h1 H1)(fr:Fr G θ1 H1 ρ σ)(p1:aD G F θ1 H1 ((eW n ρ g t it2 g2 t2 m xs 0 h1).bind mk) (KV G Q))
 (hmk:∀ys vs θ h H,ys.length<=sizeLine->W G θ h H->aO G θ H ys vs->aD G F θ H (mk ys h) (KV G Q)->∀p,H p=none->Q (.ref p) (upd H p (.lst vs))) :
  Av n J (lG G fP g) (lT G fP t) (lI G fP it2) (lG G fP g2) (lT G fP t2) (lE G fP m) σ H1 Q:=by
 refine⟨λi m' ys H=>m'=xs.length-i/\i<=xs.length/\∃θ' h' acc,acc.length<=sizeLine/\Ev θ1 H1 θ' H/\W G θ' h' H/\aO G θ' H acc ys/\aD G F θ' H ((eW n ρ g t it2 g2 t2 m (xs.drop i) acc.length h').bind λzs h2=>mk (acc++zs) h2) (KV G Q),
  ⟨xs.length,by simp,RV _,θ1,h1,[],RV _,Ev.refl,w1,.nil,p1⟩,?_⟩
 rintro i m' ys H ⟨rfl,hi,θ',h',acc,hacc,ev,w,ra,p⟩;obtain⟨j1,j2⟩:=hJ θ' h' H ev w;have hly:ys.length<=sizeLine:=by rw[<- show acc.length=ys.length from Q0 ra];omega
 by_cases hlt:i<xs.length
 ·have ed:xs.drop i=xs[i]::xs.drop (i+1):=RF hlt;rw[ed]at p;obtain⟨g1,g2'⟩:=j1 i xs[i] (QP hlt);refine .inr ⟨g1,hly,λys2 H2=>i+1<=xs.length/\∃θ' h' acc,acc.length<=sizeLine/\Ev θ1 H1 θ' H2/\W G θ' h' H2/\aO G θ' H2 acc ys2/\aD G F θ' H2 ((eW n ρ g t it2 g2 t2 m (xs.drop (i+1)) acc.length h').bind λzs h2=>mk (acc++zs) h2) (KV G Q),λys' H' q=>⟨xs.length-(i+1),by omega,rfl,q⟩,λx H2 y=>?_⟩;obtain⟨e2,w2,r2⟩:=g2' x H2 y;have p2:=p.later e2;unfold eW at p2;simp only[R.bind_assoc]at p2;refine⟨θ',h',_,xs[i],w2,((fr.ev ev).ev e2).replicate n,r2,(aD.cM p2).mono λρ3 θ3 h3 H3 _ _ ⟨e3,w3,p3⟩ σ3 fr3=>⟨θ3,h3,ρ3,w3,fr3,(aD.cM p3).mono λc θ4 h4 H4 _ _ ⟨e4,w4,p4⟩=>?_⟩⟩;have ev4:=(ev.trans e2).trans (e3.trans e4);have ra4:=aO.ev (e2.trans (e3.trans e4)) ra
  cases c with
  |false=>exact⟨hlt,θ4,h4,acc,hacc,ev4,w4,ra4,p4⟩
  |true=>
   simp only[Rr,R.bind_assoc]at p4;refine⟨θ4,h4,ρ3,w4,fr3.ev e4,(aD.cM p4).mono λzs θ5 h5 H5 _ _ ⟨e5,w5,p5⟩ J2 hJ2=>?_⟩;have fr5:=(fr3.ev e4).ev e5;have ra5:=aO.ev e5 ra4;split at p5
   ·rename_i hz;have hz':=eh hz;simp only[R.bind_assoc,R.aK]at p5
    refine⟨λi2 m2 τ us K=>m2=zs.length-i2/\i2<=zs.length/\∃θ6 h6 acc6 ρ6,acc6.length<=acc.length+i2/\Ev θ5 H5 θ6 K/\W G θ6 h6 K/\aO G θ6 K acc6 us/\Fr G θ6 K ρ6 τ/\aD G F θ6 K ((j3 g2 t2 m (zs.drop i2) ρ6 h6).bind λvs h7=>(eW n ρ g t it2 g2 t2 m (xs.drop (i+1)) (acc6.length+vs.length) h7).bind λws h8=>mk (acc6++(vs++ws)) h8) (KV G Q),
     ⟨zs.length,by simp,RV _,θ5,h5,acc,ρ3,by omega,Ev.refl,w5,ra5,fr5,p5⟩,?_⟩
    rintro i2 m2 τ us K ⟨rfl,hi2,θ6,h6,acc6,ρ6,hacc6,ev6,w6,ra6,fr6,p6⟩;obtain⟨k1,k2⟩:=hJ2 θ6 h6 K ev6 w6;have hlu:us.length<=sizeLine:=by rw[<- show acc6.length=us.length from Q0 ra6];omega
    by_cases hlt2:i2<zs.length
    ·have ed2:zs.drop i2=zs[i2]::zs.drop (i2+1):=RF hlt2;rw[ed2]at p6;obtain⟨l1,l2⟩:=k1 i2 zs[i2] (QP hlt2);refine .inr ⟨l1,hlu,λτ' us' K'=>i2+1<=zs.length/\∃θ6 h6 acc6 ρ6,acc6.length<=acc.length+(i2+1)/\Ev θ5 H5 θ6 K'/\W G θ6 h6 K'/\aO G θ6 K' acc6 us'/\Fr G θ6 K' ρ6 τ'/\aD G F θ6 K' ((j3 g2 t2 m (zs.drop (i2+1)) ρ6 h6).bind λvs h7=>(eW n ρ g t it2 g2 t2 m (xs.drop (i+1)) (acc6.length+vs.length) h7).bind λws h8=>mk (acc6++(vs++ws)) h8) (KV G Q),λτ' us' K' q=>⟨zs.length-(i2+1),by omega,rfl,q⟩,λx2 K2 y2=>?_⟩;obtain⟨e7,w7,r7⟩:=l2 x2 K2 y2;have p7:=p6.later e7;unfold j3 at p7;simp only[R.bind_assoc]at p7;refine⟨θ6,h6,_,zs[i2],w7,fr6.ev e7,r7,(aD.cM p7).mono λρ8 θ8 h8 K8 _ _ ⟨e8,w8,p8⟩ τ8 fr8=>⟨θ8,h8,ρ8,w8,fr8,(aD.cM p8).mono λc2 θ9 h9 K9 _ _ ⟨e9,w9,p9⟩=>?_⟩⟩;have ev9:=(ev6.trans e7).trans (e8.trans e9);have ra9:=aO.ev (e7.trans (e8.trans e9)) ra6
     cases c2 with
     |false=>exact⟨hlt2,θ9,h9,acc6,ρ8,by omega,ev9,w9,ra9,fr8.ev e9,p9⟩
     |true=>
      simp only[Rr,R.bind_assoc]at p9;refine⟨θ9,h9,ρ8,w9,fr8.ev e9,(aD.cM p9).mono λy3 θ10 h10 K10 _ _ ⟨e10,w10,p10⟩ v10 r10=>⟨hlt2,θ10,h10,acc6++[y3],ρ8,by simp;omega,ev9.trans e10,w10,?_,(fr8.ev e9).ev e10,?_⟩⟩
      ·exact eU (aO.ev e10 ra9) (.cons r10 .nil)
      ·simp only[R.bind_assoc,R.aK]at p10;have e11:∀vs:List D,(acc6++[y3]).length+vs.length=acc6.length+(y3::vs).length:=λvs=>by simp;omega
       simp only[e11];simpa using p10
    ·have hx:i2=zs.length:=by omega
     subst hx;rw[RK (QE _)]at p6;simp only[j3,R.aK,Sk,RE,Nat.add_zero]at p6;exact .inl ⟨k2,hlt,θ6,h6,acc6,by omega,ev4.trans (e5.trans ev6),w6,ra6,p6⟩
   ·exact p5.elim
 ·have hx:i=xs.length:=by omega
  subst hx;rw[RK (QE _)]at p;simp only[eW,R.aK,Ug]at p;exact .inl ⟨j2,hly,hmk acc ys θ' h' H hacc w ra p⟩
end
section
variable {X:Cx} {E:XK} {it it2:MA} {g g2:MG} {t t2:MT} {m:ME} {own:UN} {scope:Scope} {elt tg e tg2 e2:Expr} {ifs ifs2:UO} {pos:Pos} {i:Nat} {x:Str}
theorem E5{mk:List D->Hm->R D}(h:lE G E (af mk (sH n it g t it2 g2 t2 m)) σ H Q)
 (hmk:∀ys vs θ h H,ys.length<=sizeLine->W G θ h H->aO G θ H ys vs->aD G (mJ G E) θ H (mk ys h) (KV G Q)->∀p,H p=none->Q (.ref p) (upd H p (.lst vs))) :
  Aw n (lI G E it) (lG G fP g) (lT G fP t) (lI G fP it2) (lG G fP g2) (lT G fP t2) (lE G fP m) σ H Q:=by
 obtain⟨θ,h,ρ,w,fr,p⟩:=h;simp[af,sH,R.bind_assoc]at p;refine⟨θ,h,ρ,w,fr,(aD.bind p).mono λxs θ1 h1 H1 _ _ ⟨ev,w1,p1⟩ J hJ=>?_⟩;split at p1
 ·exact Ax hJ w1 (fr.ev ev) p1 hmk
 ·trivial
theorem E6{mk:List D->Hm->R D}(h:lS G E (cw i (af mk (sH n it g t it2 g2 t2 m))) C σ H)
 (hmk:∀Q ys vs θ h H,ys.length<=sizeLine->W G θ h H->aO G θ H ys vs->aD G (mJ G E) θ H (mk ys h) (KV G Q)->∀p,H p=none->Q (.ref p) (upd H p (.lst vs))) :
  CD (Aw n (lI G E it) (lG G fP g) (lT G fP t) (lI G fP it2) (lG G fP g2) (lT G fP t2) (lE G fP m)) (L2.aA i) C σ H:=by
 obtain⟨θ,h,ρ,w,fr,p⟩:=h;refine E5 ⟨θ,h,ρ,w,fr,(aD.bind p).mono λd θ1 h1 H1 _ _ ⟨ev,w1,p1⟩ v r=>p1 θ1 H1 Ev.refl w1 _ ((fr.ev ev).set r)⟩ (hmk _)
theorem E7(own:UN){pos' spos:Pos}(hN:X.N.Nodup)(hxi:X.N[i]?=some x)(hx:X.env.scope.names.lookup x=some .local)(CS:eR X.env.scope X.N own scope=true)(hc:X.calm=true)(hi:DI X E it tg e)(hg:∀C s2 H2 fp pins,DG (aq X own scope C s2 H2 fp pins) fP g tg)
 (ht:∀C s2 H2 fp pins,Hf (aq X own scope C s2 H2 fp pins) fP t ifs)(hi2:∀C s2 H2 fp pins,DI (aq X own scope C s2 H2 fp pins) fP it2 tg2 e2)(hg2:∀C s2 H2 fp pins,DG (aq X own scope C s2 H2 fp pins) fP g2 tg2)
 (ht2:∀C s2 H2 fp pins,Hf (aq X own scope C s2 H2 fp pins) fP t2 ifs2)(he:∀C s2 H2 fp pins,DE (aq X own scope C s2 H2 fp pins) fP m elt)(hs:∀x,foldedSetIterable e X.env x=pure x:=by intro _;rfl)(hs2:∀(env:Env) x,foldedSetIterable e2 env x=pure x:=by intro _ _;rfl)
 (hsw:swapsWith (.ListComp elt [⟨tg,e,ifs,0⟩,⟨tg2,e2,ifs2,0⟩] scope pos) (some (.Name x pos')) spos.line X.env=pure true:=by rfl):DS X E (cw i (xf own.length it g t it2 g2 t2 m)) (.Assign [.Name x pos'] (.ListComp elt [⟨tg,e,ifs,0⟩,⟨tg2,e2,ifs2,0⟩] scope pos) spos):=by
 simp[br,jH,mT,kC,pJ]at *;exact PS.imp (E4 own hN hxi hx CS hc hi hg ht he hi2 hg2 ht2 hs hs2 hsw) λC σ H q=>E6 q λQ ys vs θ h H _=>nC ys vs θ h H
end
def E8:PyData->Value->Bool
 |.none,.none=>true
 |.bool b,.bool c=>b==c
 |.int i,.int j _=>i==j
 |.str x,.str y _=>x==y
 |_,_=>false
def xg:UJ->UL->Bool
 | [],[]=>true
 |d::ds,v::vs=>E8 d v&&xg ds vs
 |_,_=>false
def ON(K:UM)(a:Addr)(xs:UJ):Bool:=match K.lookup a with
 |some o=>(match o.cls,o.data with
  |.type "tuple",.seq its _=>xg xs its.toList&&decide (its.size<=sizeLine)
  |_,_=>false)&&cE xs
 |Option.none=>false
theorem E9(h:E8 d v=true):RelV (Kv d) v/\mR d=true:=by
 unfold E8 at h;split at h
 ·trivial
 ·have:=eq_of_beq h;subst this;exact⟨rfl,rfl⟩
 ·have:=eq_of_beq h;subst this;exact⟨⟨_,rfl⟩,rfl⟩
 ·have:=eq_of_beq h;subst this;exact⟨⟨_,rfl⟩,rfl⟩
 grind
theorem vD:∀{ds:UJ} {vs:UL},xg ds vs=true->Vals (ds.map Kv) vs/\∀x∈ds,mR x=true
 | [],[],_=>⟨.nil,by simp⟩
 | [],_::_,h=>by trivial
 |_::_,[],h=>by trivial
 |d::ds,v::vs,h=>by
  simp[xg]at h;obtain⟨h1,h2⟩:=E9 h.1;obtain⟨k1,k2⟩:=vD h.2;refine⟨.cons h1 k1,λx m=>?_⟩
  grind
theorem K0(h:ON K a xs=true):Ez K a xs:=by
 unfold ON at h;split at h
 ·rename_i o ho;simp at h;obtain⟨h,hs⟩:=h;split at h
  ·rename_i its n hc hd;simp at h;obtain⟨k1,k2⟩:=vD h.1;exact⟨⟨o,its,n,ho,hc,hd,h.2,k1⟩,λx m=>by have:=k2 x m;cases x<;>simp_all[mR],hs⟩
  grind
 grind
end Ml
namespace Ml
open PySem
def gH:UJ->UJ
 | []=>[]
 |x::xs=>if xs.any (PyData.eqv x)then gH xs else x::gH xs
def setOk(ds:UJ):Bool:=(ds.all gE || ds.all gF)&&bq ds&&decide (PyData.depthAll ds<=8)&&decide (ds.length<=120)
def eV:Fn:=λxs h=>match xs with
 | [x]=>match iU x h with
  |some ds=>if setOk ds&&cY (gH ds)then .ok (.dat (.list (cD ltB (gH ds)))) h else .bad
  |Option.none=>.bad
 |_=>.bad
def zM(ds es:UJ):UJ:=gH (ds++es)
noncomputable def mf(f:UJ->UJ->UJ)(a b:ME):ME:=λρ h=>(a ρ h).bind λx h1=>match iU x h1 with
 |some ds=>if setOk ds then(b ρ h1).bind λy h2=>match iU y h2 with
   |some es=>if setOk (ds++es)&&cY (f ds es)then .ok (.dat (.list (cD ltB (f ds es)))) h2 else .bad
   |Option.none=>.bad
  else .bad
 |Option.none=>.bad
theorem vE:∀{ds:UJ},bq ds=true<->∀d∈ds,aG d=true
 | []=>by trivial
 |d::ds=>by simp[bq,vE]
theorem BY{ds:UJ}(hd:∀d∈ds,aG d=true)(hx:aG x=true):ds.any (PyData.eqv x)=true<->x∈ds:=by
 rw[UA];constructor
 ·rintro⟨y,hy,e⟩;rw[(kQ (aV hx) (aV (hd y hy))).mp e];exact hy
 ·exact λh=>⟨x,h,aU (aV hx)⟩
theorem g6:∀{ds:UJ},(∀d∈ds,aG d=true)->∀d,d∈gH ds<->d∈ds
 | [],_,d=>by rfl
 |x::xs,h,d=>by
  have hx:=h x (QS ..);have hxs  := λd m=>h d (QL _ m);have ih:=g6 hxs d;unfold gH;split
  ·rename_i z;rw[BY hxs hx]at z
   grind
  grind
theorem gz:∀{ds:UJ},(∀d∈ds,aG d=true)->(gH ds).Nodup
 | [],_=>by trivial
 |x::xs,h=>by
  have hx:=h x (QS ..);have hxs  := λd m=>h d (QL _ m);unfold gH;split
  ·exact gz hxs
  ·rename_i z;refine R3.mpr ⟨λq=>z ?_,gz hxs⟩;rw[BY hxs hx];exact(g6 hxs x).mp q
def kE:MS:=bS (mf zM (ak cU (ae 0) (ai (.int 0))) (ak cU (ae 1) (ai (.int 0))))
def eX:Fn:=bE 2 2 kE
noncomputable def sI:MS:=bx (jE (af cH (aa (ae 0) ah)))
    (bx (jE (af cH (aa (ae 1) ah)))
    (bx (cw 2 (af eX (aa (ae 0) (aa (ae 1) ah))))
    (bx (o8 (bc (ak MC (af ig (aa (ae 2) ah)) (ai (.int 12)))) Hu cL)
    (bx (cw 3 (mf zM (ak cU (ae 0) (ai (.int 1))) (ak cU (ae 1) (ai (.int 1)))))
    (bS (bL (aa (af dF (aa (ae 2) ah)) (aa (af dF (aa (ae 3) ah)) ah))))))))
def bg:Fn:=bE 2 4 sI
def xh:UJ:=[.str "grounded",.str "preferred",.str "stable",.str "standing",.str "whole"]
def xi:MS:=o8 (bc (ak rQ (ae 0) (PR xh))) Hu cL
def gS:Fn:=bE 1 1 xi
def iV:MS:=bS (ak nv (bL (aa (ae 1) (aa (ae 1) ah))) (ae 0))
def bO:Fn:=bE 3 3 iV
def gK:MS:=bS (kD (ak nv (bL (aa (ae 1) (aa (ae 1) ah))) (ae 0)) (Dg (ak nv (bL (aa (ae 2) (aa (ae 1) ah))) (ae 0)) (ak nv (bL (aa (ae 2) (aa (ae 2) ah))) (ae 0))))
def bo:Fn:=bE 3 3 gK
def jK:MS:=bS (kD (ak nv (bL (aa (ae 1) (aa (ae 1) ah))) (ae 0)) (ak nv (bL (aa (ae 2) (aa (ae 2) ah))) (ae 0)))
def bU:Fn:=bE 3 3 jK
def gL:MS:=bS (kD (ak nv (bL (aa (ae 2) (aa (ae 2) ah))) (ae 0)) (Dg (ak nv (bL (aa (ae 1) (aa (ae 1) ah))) (ae 0)) (ak nv (bL (aa (ae 2) (aa (ae 1) ah))) (ae 0))))
def bB:Fn:=bE 3 3 gL
end Ml
namespace L2
open PySem PySem.Spec PyProof.Rows
section
variable {X:Cx} {pos:Pos}
def MV(i j l:Nat)(ta:TA):TS:=λD σ H=>ta σ H λvs H1=>∃v w z,vs=[v,w,z]/\D.nx (((σ.set i (some v)).set j (some w)).set l (some z)) H1
theorem Hv(hc:X.calm=true)(hN:X.N.Nodup)(hi:X.N[i]?=some x)(hj:X.N[j]?=some y)(hl:X.N[l]?=some z)(hij:i≠j)(hil:i≠l)(hjl:j≠l)
 (hx:X.env.scope.names.lookup x=some .local)(hy:X.env.scope.names.lookup y=some .local)(hz:X.env.scope.names.lookup z=some .local)(ha:PA X [a,b,c] ta)
 (hw:swappedStores [.Tuple [.Name x px,.Name y py,.Name z pz] kt pt] (.Tuple [a,b,c] k2 pt2) X.env=pure (some [x,y,z]))
 (hs:swapsWithSole [.Tuple [.Name x px,.Name y py,.Name z pz] kt pt] (.Tuple [a,b,c] k2 pt2) pos.line X.env=pure false:=by rfl) :
  PS X (.Assign [.Tuple [.Name x px,.Name y py,.Name z pz] kt pt] (.Tuple [a,b,c] k2 pt2) pos) (MV i j l ta):=by
 intro pins s σ H D I h;rw[exec_Assign_arm];refine QA (RS ?_);rw[hs];refine QA (QB ?_);rw[if_neg (by decide)];refine QA (Tuple_ (bw (ha _ pins s σ H _ I h) λus s1 ⟨vs,H1,I1,r1,q1⟩=>?_));obtain⟨v,w,t,e1,q1⟩:=q1;subst e1
 obtain⟨u1,u2,u3,rfl,rv,rw',rt⟩:∃u1 u2 u3,us=[u1,u2,u3]/\RelV v u1/\RelV w u2/\RelV t u3:=by
  cases r1 with
  |cons p q=>
   cases q with
   |cons p' q'=>
    cases q' with
    |cons p2 q2=>cases q2;exact⟨_,_,_,rfl,p,p',p2⟩
 refine Rb ?_ (by show 3<=sizeLine;decide);have I2:Inv X pins σ H1 {s1 with heap:=s1.heap.push {cls:=.type "tuple",data:=.seq [u1,u2,u3].toArray}}:=I1.kept (t':=s1.toks) λb o e=>QC _ e;rw[hw];refine QA (QB ?_);show wpAny (model X.prog X.w) X.A (do rule "assign.swapped-stores";let items <- unpackItems (.ref s1.heap.objs.size) 3 none;assignInOrder [λv=>bindName X.env z v,λv=>bindName X.env y v,λv=>bindName X.env x v] items.reverse;pure Flow.next) _ _ _;refine QA (Sh (QA (unpackItems_tuple (items:=#[u1,u2,u3]) (I.ok.hd hc) (IsTup.new s1.heap _) λh' hx'=>?_)));have I3:=I2.kept (h':=h') (t':=s1.toks) λb o e=>hx' b o (QQ (QF e)) e;show wpAny _ _ (assignInOrder [λv=>bindName X.env z v,λv=>bindName X.env y v,λv=>bindName X.env x v] [u3,u2,u1] >>= λ_=>pure Flow.next) _ _ _;refine QA (So (TX (hU I3 hN hl (.inl hz) rt (λs2 I4=>?_) (.inr hz))));refine So (TX (hU I4 hN hj (.inl hy) rw' (λs3 I5=>?_) (.inr hy)));refine So (TX (hU I5 hN hi (.inl hx) rv (λs4 I6=>assignInOrder_nil (QB ?_)) (.inr hx)));have e:((σ.set l (some t)).set j (some w)).set i (some v)=((σ.set i (some v)).set j (some w)).set l (some t):=by rw[Uw _ _ hjl.symm,Uw _ _ (Tp hil),Uw _ _ (Tp hij)]
 rw[e]at I6;exact⟨_,H1,I6,q1⟩
end
end L2
namespace Ml
open PySem PySem.Spec L2
section
variable {X:Cx} {E:XK} {ma:MA} {pos:Pos} {x:Str}
theorem MW{y z:Str}{px py pz pt:Pos}{kt k2 pt2}(i j l:Nat)(hN:X.N.Nodup)(ha:DA X E ma [a,b,c])(hc:X.calm=true:=by rfl)(hi:X.N[i]?=some x:=by rfl)(hj:X.N[j]?=some y:=by rfl)(hl:X.N[l]?=some z:=by rfl)(hij:i≠j:=by decide)(hil:i≠l:=by decide)(hjl:j≠l:=by decide)
 (hx:X.env.scope.names.lookup x=some .local:=by rfl)(hy:X.env.scope.names.lookup y=some .local:=by rfl)(hz:X.env.scope.names.lookup z=some .local:=by rfl)
 (hw:swappedStores [.Tuple [.Name x px,.Name y py,.Name z pz] kt pt] (.Tuple [a,b,c] k2 pt2) X.env=pure (some [x,y,z]):=by kernel_rfl)
 (hs:swapsWithSole [.Tuple [.Name x px,.Name y py,.Name z pz] kt pt] (.Tuple [a,b,c] k2 pt2) pos.line X.env=pure false:=by rfl) :
  DS X E (uH [i,j,l] ma) (.Assign [.Tuple [.Name x px,.Name y py,.Name z pz] kt pt] (.Tuple [a,b,c] k2 pt2) pos):=by
 rw[jG]at ha;rw[jH]
 exact PS.imp (Hv hc hN hi hj hl hij hil hjl hx hy hz ha hw hs) λC σ H ⟨θ,h,ρ,w,fr,p⟩=>⟨θ,h,ρ,w,fr,(aD.bind p).mono λds θ1 h1 H1 _ _ ⟨ev,w1,p1⟩ vs r=>by
   cases r with
   |nil=>trivial
   |cons r1 rr=>
    cases rr with
    |nil=>trivial
    |cons r2 rr=>
     cases rr with
     |nil=>exact p1.elim
     |cons r3 rr=>
      cases rr with
      |nil=>exact⟨_,_,_,rfl,p1 θ1 H1 Ev.refl w1 _ ((((fr.ev ev).set r1).set r2).set r3)⟩
      |cons=>exact p1.elim⟩
end
end Ml
namespace L2
open PySem PySem.Spec PyProof.Rows
noncomputable def Hw(K:UM)(mg:UI)(a:Addr)(fs:List (Str×Str)):Prop:=
 ∃(o:Obj) (es:UQ) (ep:Nat),K.lookup a=some o/\o.ExactDict/\o.data=.dict es ep/\(es.all λe=>isExactStrKey e.key)=true /\
  ∀k n,fs.lookup k=some n->∃f,mg n=some (.ref f)/\findBy (λk v=>v.isStr k) es k=some (.ref f)
theorem Hx(ho:s.heap.get? a=some o)(x:o.ExactDict)(hd:o.data=.dict es ep)
 (hall:(es.all λe=>isExactStrKey e.key)=true)(hf:findBy (λk v=>v.isStr k) es k=some v)(q:Q v {s with toks:=s.toks+1}):wpAny (model prog w) A (getItem (.ref a) (.str k tk)) Q E s:=by
 have ty:s.TypeIs (.ref a) "dict" := ⟨o,ho,x.1⟩;unfold getItem
 try with_reducible refine Ri ?_
 refine QA (wpAny_sequenceKey ty (by decide) ?_)
 refine QA (Rc (name:=Str.ofString "__getitem__") ty slot_dict_getitem
  (Q7 slot_dict_getitem ty entry_dict_getitem ?_ (args_dict_getitem _ _)))
 show wpAny _ _ (dictGet a (.str k tk) >>= _) _ _ s;refine QA ?_;unfold dictGet
 try with_reducible refine Ri ?_
 refine QA (wpAny_pyHash_str (QA (PyProof.Rows.KTD.kt_dictFind_strs (s:={s with toks:=s.toks+1}) ho hd hall ?_)));rw[findBy_of_findIdx?]at hf
 cases hi:es.findIdx? λe=>e.key.isStr k with
 |none=>rw[hi]at hf;cases hf
 |some i=>rw[hi]at hf;refine QA (wpAny_dictEntries (s:={s with toks:=s.toks+1}) ho hd (QB ?_));have hf':Option.map (λx:DictEntry=>x.val) es[i]?=some v:=hf;rw[hf'];exact QB ⟨v,rfl,QB q⟩
section
variable {X:Cx} {o i:Expr} {pos:Pos} {td ty:TE}
def MX(fs:List (Str×Str))(a:Addr)(mg:UI)(td ty:TE):TE:=λσ H Q=>td σ H λx H1=>ty σ H1 λy H2=>∃k n,x=.ref a/\y=.str k/\fs.lookup k=some n/\∀f,mg n=some (.ref f)->Q (.ref f) H2
theorem K1(kf:Hw X.K X.mg a fs)(ho:PE X o td)(hi:PE X i ty)(hs:Kf i):PE X (.Subscript o i pos) (MX fs a X.mg td ty):=by intro pins s σ H Q I h;refine G3 PySem.F.slot_dict_getitem.lookup hs (bw (ho pins s σ H _ I h) λu s1 ⟨x,H1,I1,rx,q1⟩=>bw (hi pins s1 σ H1 _ I1 q1) λiv s2 ⟨y,H2,I2,ry,k,n,ex,ey,lk,q2⟩=>?_);subst ex;subst ey;obtain rfl:u=Value.ref a:=rx;obtain⟨tk,rfl⟩:∃t,iv=Value.str k t:=ry;obtain⟨ob,es,ep,h1,h2,h3,h4,h5⟩:=kf;obtain⟨f,hf,hk⟩:=h5 k n lk;have g  := I2.uk a ob h1;exact⟨⟨ob,g,h2.1⟩,Hx g h2 h3 h4 hk ⟨.ref f,H2,I2.tok _,rfl,q2 f hf⟩⟩
end
def IY(K:UM)(es:UQ)(p:Str×Str):Bool:=match findBy (λk v=>v.isStr k) es p.1,PySem.W.nsIn K mainGlobals p.2 with
 |some (.ref f),some (some (.ref g))=>f==g
 |_,_=>false
def OO(K:UM)(a:Addr)(fs:List (Str×Str)):Bool:=match K.lookup a with
 |some ⟨.type "dict",none,.dict es _,sl⟩=>sl.isEmpty&&(es.all λe=>isExactStrKey e.key)&&fs.all (IY K es)
 |_=>false
theorem lookup_mem{fs:List (Str×Str)}(h:fs.lookup k=some n):(k,n)∈fs:=by
 induction fs with
 |nil=>cases h
 |cons p ps ih=>
  obtain⟨x,y⟩:=p;rw[Sa]at h
  cases q:k==x with
  |true=>rw[q]at h;cases h;rw[eq_of_beq q];exact QS ..
  |false=>rw[q]at h;exact QL _ (ih h)
theorem K4{K:UM}(G:∀n v,PySem.W.nsIn K mainGlobals n=some (some v)->mg n=some v)(h:OO K a fs=true):Hw K mg a fs:=by
 unfold OO at h;split at h
 ·rename_i es ep sl e;simp only[QG]at h;obtain⟨⟨h1,h2⟩,h3⟩:=h;refine⟨_,es,ep,e,⟨rfl,rfl,?_⟩,rfl,h2,λk n hl=>?_⟩
  ·grind
  ·have:=QX.mp h3 _ (lookup_mem hl);unfold IY at this;split at this
   ·grind
   grind
 grind
end L2
namespace Ml
open PySem PySem.Spec L2
def sJ(fs:List (Str×Str))(m:ME):ME:=λρ h=>(m ρ h).bind λx h1=>match x with
 |.dat (.str k)=>match fs.lookup k with
  |some n=>.ok (.fn n) h1
  |Option.none=>.bad
 |_=>.bad
section
variable {X:Cx} {E:XK} {m:ME} {e:Expr} {x:Str} {pos p:Pos}
theorem BZ(hm:∃a,X.mg x=some (.ref a)/\Hw X.K X.mg a fs)(he:DE X E m e)(hs:Kf e)(hg:Gl X x:=by rfl)(hd:(x==("__debug__" : Str))=false:=by decide):DE X E (sJ fs m) (.Subscript (.Name x p) e pos):=by
 simp only[br]at *;obtain⟨a,hm,kf⟩:=hm
 exact PE.imp (K1 kf (wg (v:=.ref a) hg hm rfl hd) he hs) λσ H Q ⟨θ,h,ρ,w,fr,q⟩=>by
  refine⟨θ,h,ρ,w,fr,(aD.bind q).mono λd θ1 h1 H1 _ _ ⟨ev,w1,q1⟩ v r=>?_⟩
  cases d with
  |dat z=>
   cases z with
   |str k=>
    cases el:fs.lookup k with
    |none=>simp only[el]at q1;exact q1.elim
    |some n=>simp only[el]at q1;exact⟨k,n,rfl,r.1,el,λf hf=>q1 θ1 H1 Ev.refl w1 _ ⟨f,hf,rfl⟩⟩
   |_=>trivial
  |_=>exact q1.elim
end
def j4(i:Nat)(fs:List (Str×Fn))(ma:MA):ME:=λρ h=>match ρ[i]? with
 |some (some (.fn n))=>match fs.lookup n with
  |some F=>af F ma ρ h
  |Option.none=>.bad
 |_=>.bad
inductive nH (P:UT) (w:World) (K:UM) (mg:UI) (base:Heap) (k:Nat):List (Str×Fn)->Prop
 |nil:nH P w K mg base k []
 |cons {n:Str} {ps:UN} {F:Fn} {fs:List (Str×Fn)}:bf P w K mg base n ps k F->nH P w K mg base k fs->nH P w K mg base k ((n,F)::fs)
theorem nH.get:∀{fs:List (Str×Fn)} {n:Str} {F:Fn},nH P w K mg base k fs->fs.lookup n=some F->∃ps,bf P w K mg base n ps k F
 |_,n,F,.cons (n:=m) h t,e=>by
  rw[Sa]at e
  cases q:n==m with
  |true=>
   rw[q]at e
   grind
  |false=>rw[q]at e;exact t.get e
section
variable {X:Cx} {E:XK} {x:Str} {k i:Nat} {fs:List (Str×Fn)} {e:Expr} {es:UO} {ma:MA} {p pos:Pos}
theorem Fb(hs:nH X.prog X.w X.K X.mg X.base k fs)(hx:Passes (uo X.prog X.w) X E)(hr:cg k X.A)(ha:DA X E ma (e::es))(hN:X.N[i]?=some x)(hv:IB X.env.scope x)(hdb:(x==("__debug__" : Str))=false:=by decide)(hcd:(x==("__classdict__" : Str))=false:=by decide)
 (he:starEach (e::es) X.env=(false,eval e X.env)::starEach es X.env:=by rfl)(hpl:(backTo pos (starEach es X.env)).any (·.1)=false:=by rfl):DE X E (j4 i fs ma) (.Call (.Name x p) (e::es) [] pos):=by
 simp only[br,jG]at *;intro pins s σ H Q I ⟨θ,h,ρ,w,fr,q⟩;unfold j4 at q
 cases e1:ρ[i]? with
 |none=>rw[e1]at q;exact q.elim
 |some o=>
  cases o with
  |none=>rw[e1]at q;exact q.elim
  |some d=>
   rw[e1]at q;obtain⟨v,g1,g2⟩:=fr.2 i d e1
   cases d with
   |fn n=>
    cases el:fs.lookup n with
    |none=>simp only[el]at q;exact q.elim
    |some F=>
     simp only[el]at q;obtain⟨f,hf,rfl⟩:=g2;obtain⟨ps,F'⟩:=hs.get el;obtain⟨f',fd,h1,h2,h3,h4⟩:=F'.has.ex;have ef:f'=f:=by have z:X.mg n=some (.ref f):=hf;rw[h1]at z;cases z;rfl
     subst ef;obtain⟨m,hn,hl⟩:=I.loc;obtain⟨u,r,l⟩:=hl i x _ hN g1 hv;obtain rfl:u=Value.ref f':=r;have fin:wpAny (model X.prog X.w) X.A (callWith pos (.ref f') [] (backTo pos (starEach (e::es) X.env)) (backToKw pos (keywordEach [] X.env))) (EP X pins σ Q) X.xe s:=PySem.W.callWith_K (h₀:=X.base) I.ok.mod.kin h2 (bw (ha pos pins s σ H _ I ⟨θ,h,ρ,w,fr,(aD.bind q).mono λxs θ1 h1 H1 _ _ ⟨ev,w1,p1⟩ vs r=>show(Gn X.G F) (vs++[]) H1 Q E from⟨θ1,h1,xs,w1,by simpa using r,p1⟩⟩) λus s1 ⟨vs,H1,I1,r,q⟩=>⟨I1.uk,zX h4 hr h3 .nil hx I1 r q⟩) he hpl;rcases l with⟨hk,hm⟩|⟨hk,c,hc,hcell⟩
     ·exact RB (Ut (wpAny_loadName_local I.ok.kind hk hn hm fin) hdb)
     ·rcases hk with hk|hk
      ·exact RB (Ut (wpAny_loadName_cell I.ok.kind hk hc hcell fin) hdb)
      ·exact RB (Ut (wpAny_loadName_free I.ok.kind hk hc hcell fin hcd) hdb)
   |_=>exact q.elim
theorem Fc(i:Nat)(hs:nH X.prog X.w X.K X.mg X.base k fs)(hx:Passes (uo X.prog X.w) X E)(hr:cg k X.A)(ha:DA X E ma (e::es))(hN:X.N[i]?=some x:=by rfl)(hv:IB X.env.scope x:=by first|exact Or.inl rfl|exact Or.inr (Or.inl rfl)|exact Or.inr (Or.inr rfl))(hdb:(x==("__debug__" : Str))=false:=by decide)(hcd:(x==("__classdict__" : Str))=false:=by decide)
 (he:starEach (e::es) X.env=(false,eval e X.env)::starEach es X.env:=by rfl)(hpl:(backTo pos (starEach es X.env)).any (·.1)=false:=by rfl):DE X E (j4 i fs ma) (.Call (.Name x p) (e::es) [] pos):=Fb hs hx hr ha hN hv hdb hcd he hpl
end
end Ml
namespace L2
open PySem PySem.Spec PyProof.Rows
theorem yK(I:Nat->UX->Prop)
 (turn:∀n s,I n s->wpAny (model prog w) A (pyNext it) (λr s1=>match r with
   |none=>R (.ok .next) s1
   |some v=>wpAny (model prog w) A (letOwnedTupleGo target it v) (λ_ s2=>wpAny (model prog w) A (assign target env v) (λ_ s3=>
     wpAny (model prog w) A (forIn ifs true λc r=>if r=true then do let ok <- isTrue c env (eval c env);pure (ForInStep.yield ok)else pure (ForInStep.yield r)) (λok s4=>
      if ok=true then wpAny (model prog w) A (eval kx env) (λx s5=>wpAny (model prog w) A (eval vx env) (λy s6=>
       wpAny (model prog w) A (dictSet D x y) (λ_ s7=>∃m,m<n/\I m s7) (λ_ _=>False) s6) (λ_ _=>False) s5) (λ_ _=>False) s4
      else ∃m,m<n/\I m s4) (λ_ _=>False) s3) (λ_ _=>False) s2) (λ_ _=>False) s1) (λ_ _=>False) s)
 (n:Nat)(h:I n s) :
  codeAny (model prog w) A (.compLoop (.DictComp kx vx [⟨target,iter,ifs,0⟩] scope pos) 0 it (.ref D) env) R s:=by
 refine codeAny_loop rfl I (λn s hI=>?_) n h;show wpAny _ A ((compTurn (.DictComp kx vx [⟨target,iter,ifs,0⟩] scope pos) 0 it (.ref D) env).onRaise (λx=>do noteFrame x env;theTreesLotGoes x)) _ _ s;refine wpAny_noted ?_;rw[compTurn_dict];refine RO (E:=λ_ _=>False) (E':=_) (Q':=_) ?_ (λ_ _ q=>q) λ_ _ z=>z.elim;refine QA (RS (QA (bw (turn n s hI) (λr s1 h1=>?_))))
 cases r with
 |none=>exact QB h1
 |some v=>
  refine QA (bw h1 λ_ s2 h2=>?_);refine QA (bw h2 λ_ s3 h3=>QA (bw h3 λok s4 h4=>?_))
  cases ok with
  |false=>exact QB ⟨rfl,h4⟩
  |true=>exact QA (QA (bw h4 λx s5 h5=>QA (Ri (bw h5 λy s6 h6=>QA (RS (Ri (bw h6 λ_ s7 h7=>QB ⟨rfl,h7⟩)))))))
noncomputable def MY{τ:Type}(P:UT)(w:World)(A:UW)(ok:τ->Obj->Prop)(t:τ)(y z:V)(H:Hp)(N:τ->Hp->Prop):Prop:=
 ∀(Y:Cx) (pins:UE) (σ:St) (s:UX) (D:Addr) (o:Obj) (u r:Value) (Q:Unit->UX->Prop) (E:UD),Y.prog=P->Y.w=w->Inv Y pins σ H s->s.heap.get? D=some o->ok t o->RelV y u->RelV z r ->
  (∀(h':Heap) (o':Obj) (tk:Nat) (t':τ),N t' H->h'.get? D=some o'->ok t' o'->Heap.SameBut D s.heap h'->Q () {s with heap:=h',toks:=tk})->wpAny (model P w) A (dictSet D u r) Q E s
noncomputable def Ay{τ:Type}(P:UT)(w:World)(A:UW)(ok:τ->Obj->Prop)(t0:τ)(n:Nat)(J:It)(g:TG)(tc:TT)(tk tv:TE)(σ:St)(H:Hp)(Q:VK):Prop:=
 ∃W:Nat->Nat->τ->Hp->Prop,(∃m,W 0 m t0 H)/\∀i m t H,W i m t H ->
  (J.stop i H/\∀p o,H p=none->ok t o->∃ho,(∀H' h,h.get? p=some o->p≠sysModules->cC P w H' h p ho)/\Q (.ref p) (upd H p ho)) \/
  (J.go i H/\∃N:τ->Hp->Prop,(∀t' H',N t' H'->∃m',m'<m/\W (i+1) m' t' H')/\∀x H',J.yld i H x H'->g x (List.replicate n none++σ) H' λσ2 H2=>tc σ2 H2 λb H3=>
   if b=true then tk σ2 H3 λy H4=>tv σ2 H4 λz H5=>MY P w A ok t y z H5 N else N t H3)
theorem yL{own:UN}{scope:Scope}{pins:UE}{σ:St}{H2:Hp}{s2:UX}{fp:UK}{it:Addr}{tn:Nat->Heap->Prop}{J:It}{kx vx tg iter:Expr}{ifs:UO}{pos:Pos}{g:TG}{tc:TT}{tk tv:TE}{Q:VK}
 {RR:Value->Addr->Result->UX->Prop}{E:UD}(I:Inv X pins σ H2 s2)(CS:cq X.env.scope X.N own scope)(hc:X.calm=true)(T:Turn X.prog X.w X.K tg J fp it tn)(st:tn 0 s2.heap)(hf:∀b∈fp,gC X pins H2 b)
 (hg:∀C s2 H2 fp pins,PG (aq X own scope C s2 H2 fp pins) tg g)(ht:∀C s2 H2 fp pins,CT (aq X own scope C s2 H2 fp pins) ifs tc)(hk:∀C s2 H2 fp pins,PE (aq X own scope C s2 H2 fp pins) kx tk)(hv:∀C s2 H2 fp pins,PE (aq X own scope C s2 H2 fp pins) vx tv)
 (ok0:ok t0 {cls:=.type "dict",dict:=none,data:=.dict #[]})(okd:∀t o,ok t o->∃es ep,o.data=.dict es ep)
 (hW:Ay X.prog X.w X.A ok t0 own.length J g tc tk tv σ H2 Q)
 (hR:∀D C H' s',Inv X pins σ H' s'->gC X pins H' C->(∃m,s'.heap.Ns C m)->Q (.ref D) H'->Kept X fp H2 H' s2 s'->RR (.ref D) C (.ok .next) s') :
  wpAny (model X.prog X.w) X.A newDict (λacc s3=>wpAny (model X.prog X.w) X.A (newFunctionEnv scope X.env.globals (eG X.env.cells scope.names []) [] X.env.qual none .none (some X.env)) (λcenv s4=>
   codeAny (model X.prog X.w) X.A (.compStart (.DictComp kx vx [⟨tg,iter,ifs,0⟩] scope pos) 0 (.ref it) acc {cenv with scope:=relabel scope X.env}) (RR acc cenv.locals) s4) E s3) E s2:=by
 refine Rb (jh ?_);dsimp only;generalize hH:s2.heap.push {cls:=.type "dict",dict:=none,data:=.dict #[]}=h3;have hDC:h3.objs.size=s2.heap.objs.size+1:=by rw[<- hH,Rf]
 have eC:({scope:=relabel scope X.env,locals:=h3.objs.size,globals:=X.env.globals,cells:=cellsFrom (h3.objs.size+1) scope.names (eG X.env.cells scope.names []),qual:=X.env.qual,func:=none,code:=X.env.code,frame:=X.env.frame,builtins:=X.env.builtins}:Env)=jg scope h3.objs.size X.env:=rfl;rw[eC];generalize eD:s2.heap.objs.size=D at *;generalize eCC:h3.objs.size=C at *;have hl:∀b∈fp,b<s2.heap.objs.size:=λb hb=>by obtain⟨o,e,_⟩:=T.obj 0 _ st b hb;exact QF e
 have hC:s2.heap.objs.size<=C:=by omega
 generalize hH4:pushCells (h3.push {cls:=.type "dict",data:=.dict #[]}) scope.names=h4;have k34:∀b o,(h3.push {cls:=.type "dict",data:=.dict #[]}).get? b=some o->h4.get? b=some o:=λb o e=>by rw[<- hH4];exact pushCells_keeps _ _ b o e
 have k24:∀b o,s2.heap.get? b=some o->h4.get? b=some o:=λb o e=>k34 b o (QC _ (by rw[<- hH];exact QC _ e));have nsC:h4.Ns C λ_=>none:=by have:=Heap.Ns.new h3 (.type "dict");rw[eCC]at this;exact this.keeps k34
 have accD:h4.get? D=some {cls:=.type "dict",dict:=none,data:=.dict #[]}:=k34 _ _ (QC _ (by rw[<- hH,<- eD];exact QJ _ rfl));have cellN:∀x c,(x,c)∈cellsFrom (C+1) scope.names []->h4.IsCell c none/\C+1<=c:=λx c hm=>by have ok:=cellsFrom_ok scope.names (h3.push {cls:=.type "dict",data:=.dict #[]}) (C+1) [] ⟨λ_ _ hm=>(nomatch hm),List.Pairwise.nil⟩ (by rw[Rf];omega);rw[Rf,eCC,hH4]at ok;exact ok.empty x c hm
 have hne:H2 D=none:=by rw[<- eD];exact I.hok.fresh (QE _)
 have ok':(aq X own scope C s2 H2 fp pins).Ok:=wt I CS hC hf hl
 have rebase:∀{σ':St} {H':Hp} {ps:UE} {s':UX},Inv (aq X own scope C s2 H2 fp pins) ps σ' H' s'->Inv (aq X own scope C s2 H2 fp pins) ps (List.replicate own.length none++σ) H' s':=λ{σ' H' ps s'} J'=>by
  obtain⟨m,hn,_⟩:=J'.loc;refine⟨J'.ok,J'.os,J'.bare,J'.base,⟨m,hn,jC I CS λc v z ⟨x,hx⟩=>?_⟩,J'.cell,J'.free,J'.freeC,J'.pin,J'.hok,?_⟩
  ·obtain⟨o,ho,hd⟩:=z;obtain⟨sl,e⟩:=J'.base.any ho (I.freeC x c hx) λhb=>(hf c hb).2.2.2.2.1 x c hx rfl;exact⟨_,e,hd⟩
  ·show(List.replicate own.length none++σ).length=(own++X.N).length;rw[QW,QW,RI,I.len]
 have start:Inv (aq X own scope C s2 H2 fp pins) [] (List.replicate own.length none++σ) H2 {s2 with heap:=h4}:=by
  have I4:Inv X pins σ H2 {s2 with heap:=h4}:=I.kept (t':=s2.toks) k24;refine⟨ok',rfl,I.bare,Un.kept k24,⟨_,nsC,jC I CS λc v z _=>z.keeps k24⟩,λx c h=>?_,I.hok.fresh hC,λx c h=>?_,λp hp=>?_,I4.hok,?_⟩
  ·rcases bH h with⟨a,_,_⟩|a
   ·exact⟨_,(cellN x c a).1⟩
   ·obtain⟨v,z⟩:=I.cell x c (dQ I CS a).2;exact⟨v,z.keeps k24⟩
  ·rcases bH h with⟨_,_,a⟩|a
   ·exact I.hok.fresh (QM hC (QM (Sb _) a))
   ·exact I.freeC x c (dQ I CS a).2
  ·have hp':p∈X.pn++pins:=by
    rcases QN.mp hp with z|z
    ·exact z
    ·exact nomatch z
   obtain⟨e,n,ne,nf,d⟩:=I.pin p hp';refine⟨k24 _ _ e,n,QQ (QH (QF e) hC),λz=>?_,d⟩;rcases QK.mp (I.jf _ z)with q|q
   ·exact ne q
   ·exact nf q
  ·show(List.replicate own.length none++σ).length=(own++X.N).length;rw[QW,QW,RI,I.len]
 obtain⟨W,⟨m0,w0⟩,turn⟩:=hW
 have nfs:∀b,s2.heap.objs.size<=b->b∉(aq X own scope C s2 H2 fp pins).fs:=λb hb z=>by
  rcases QK.mp (I.jf b z)with q|q
  ·rw[q]at hb;exact absurd (QH I.lt hb) (QU _)
  ·exact I.zN hb q
 have fpD:∀{H':Hp},H' D=none->gC (aq X own scope C s2 H2 fp pins) [] H' D:=λ{H'} hn=>by
  refine⟨hn,QQ (by show D<C;omega),nfs D (by omega),.inr (by show s2.heap.objs.size<=D;omega),λx c h z=>?_,λp hp z=>?_⟩
  ·rcases bH h with⟨_,_,a⟩|a
   ·rw[z]at a;exact absurd (QH (show D<C+1 by omega) a) (QU _)
   ·obtain⟨v,q⟩:=I.cell x c (dQ I CS a).2;have:=q.lt;rw[z,eD]at this;exact QU _ this
  ·have hp':p∈X.pn++pins:=by
    rcases QN.mp hp with z|z
    ·exact z
    ·exact nomatch z
   have:=QF (I.pin p hp').1;rw[z,eD]at this;exact QU _ this
 have nD:D∉fp:=λz=>by have:=hl D z;rw[eD]at this;exact QU _ this
 have stat:∀{H':Hp} {ps:UE},(∀p∈ps,p.1=D)->(∀b∈fp,H' b=none)->∀b∈fp,gC (aq X own scope C s2 H2 fp pins) ps H' b:=λ{H' ps} hps hn b hb=>by
  obtain⟨f0,f1,f2,f3,f4,f5⟩:=hf b hb;refine⟨hn b hb,(ok'.exf b hb).1,ok'.exfs b hb,.inl hb,(ok'.exf b hb).2,λp hp=>?_⟩;rcases QN.mp hp with z|z
  ·exact f5 p z
  ·rw[hps p z];exact λq=>nD (q▸hb)
 let LI:Nat->UX->Prop:=λn s'=>∃i t o H',Inv (aq X own scope C s2 H2 fp pins) [] (List.replicate own.length none++σ) H' s'/\tn i s'.heap/\(∀b∈fp,H' b=none)/\H' D=none /\
  s'.heap.get? D=some o/\ok t o/\W i n t H'
 have l0:LI m0 {s2 with heap:=h4}:=⟨0,t0,_,H2,start,T.keep _ _ _ st λb _ o e=>k24 b o e,λb hb=>(hf b hb).1,hne,accD,ok0,w0⟩
 have loop:codeAny (model X.prog X.w) X.A (.compLoop (.DictComp kx vx [⟨tg,iter,ifs,0⟩] scope pos) 0 (.ref it) (.ref D) (jg scope C X.env)) (RR (.ref D) C) {s2 with heap:=h4}:=by
  refine yK LI ?_ m0 l0;rintro n s3 ⟨i,t,oD,H3,I3,st3,fr3,d3,a3,v3,w3⟩;obtain⟨es0,ep0,dd3⟩:=okd t oD v3;rcases turn i n t H3 w3 with⟨stop,qn⟩|⟨go,NN,hNN,step⟩
  ·have I3p:=I3.pinned (fp:=[D]) (λb hb=>(QT.mp hb)▸fpD d3) λb hb=>⟨_,(QT.mp hb)▸a3,λv z=>(by rw[dd3]at z;cases z)⟩;refine bw (T.done (aq X own scope C s2 H2 fp pins) rfl rfl rfl hc i _ s3 _ H3 _ I3p (stat (λp hp=>by have q:p∈bK [D] s3.heap:=hp;have:=(dZ q).1;simpa using this) fr3) st3 stop) λr s4 ⟨hr,I4⟩=>?_;subst hr;have a4:s4.heap.get? D=_:=(I4.pin (D,_) (QD _ (QD _ (aQ (by simp) a3)))).1;have u4:Un (uj X.stack) fp H2 H3 s2.heap s4.heap:=I4.base;have hsys:D≠sysModules:=by rw[<- eD];exact Tp (QQ I.big)
   obtain⟨ho,OP,qD⟩:=qn D oD d3 v3
   have okD:kH X.prog X.w (upd H3 D ho) s4.heap:=λb o e=>by
    by_cases hb:b=D
    ·subst hb;rw[aZ]at e;cases e;exact OP _ _ a4 hsys
    ·rw[ay hb]at e;exact(I4.hok b o e).qP (λ_ _ _ q=>q) (λc q=>by rw[ay (aF q d3)];exact q) λc xs q=>by rw[ay (aF q d3)];exact q
   have nDo:∀b o,s2.heap.get? b=some o->b≠D:=λb o e=>by rw[<- eD];exact QQ (QF e)
   have uD:Un (uj X.stack) fp H2 (upd H3 D ho) s2.heap s4.heap:=⟨u4.keep,u4.slot,λb o e n hx=>by rw[ay (nDo b o e)];exact u4.free b o e n hx,u4.there,
    λb xs e=>by rw[ay (aF e hne)];exact u4.tups b xs e,λb o xs e=>by rw[ay (aF e hne)];exact u4.frzs b o xs e,λb ps e=>by rw[ay (aF e hne)];exact u4.tbls b ps e⟩
   have kp:Kept X fp H2 (upd H3 D ho) s2 s4:=⟨I4.os,uD,okD,I4.bare⟩;have I5:Inv X pins σ (upd H3 D ho) s4:=kp.inv I hf;obtain⟨m,hn,_⟩:=I4.loc;refine hR D C _ s4 I5 ⟨by rw[ay (show C≠D by omega)];exact I4.free,Sr (QH I.lt hC),I.zN hC,.inr (QM I.sz hC),λx c e z=>?_,λp hp z=>?_⟩ ⟨m,hn⟩ qD kp
   ·obtain⟨v,q⟩:=I.cell x c e;exact absurd (QH q.lt (by rw[z];exact hC)) (QU _)
   ·exact absurd (QH (QF (I.pin p hp).1) (by rw[z];exact hC)) (QU _)
  ·have I3p:=I3.pinned (fp:=[D]) (λb hb=>(QT.mp hb)▸fpD d3) λb hb=>⟨_,(QT.mp hb)▸a3,λv z=>(by rw[dd3]at z;cases z)⟩;have onlyD:∀p∈([]++bK [D] s3.heap),p.1=D:=λp hp=>by have q:p∈bK [D] s3.heap:=hp;have:=(dZ q).1;simpa using this
   refine bw (T.item (aq X own scope C s2 H2 fp pins) rfl rfl rfl hc i _ s3 _ H3 _ I3p (stat onlyD fr3) st3 go) λr s4 ⟨u,hr,h4'⟩=>?_;subst hr;refine bw h4' λ_ s5 ⟨x,H5,I5,r5,y5,st5,fr5⟩=>?_;have I5p:=I5.pinned (fp:=fp) (stat onlyD fr5) (T.obj _ _ st5)
   have cont:∀{s6:UX} {σ6:St} {H6:Hp},Inv (aq X own scope C s2 H2 fp pins) (([]++bK [D] s3.heap)++bK fp s5.heap) σ6 H6 s6 ->
     Inv (aq X own scope C s2 H2 fp pins) [] (List.replicate own.length none++σ) H6 s6/\tn (i+1) s6.heap/\(∀b∈fp,H6 b=none)/\H6 D=none/\s6.heap.get? D=some oD:=λ{s6 σ6 H6} I6=>by
    have pD:=I6.pin (D,_) (QD _ (Q9 _ (QD _ (aQ (by simp) a3))));refine⟨rebase (I6.gM λp hp=>nomatch hp),T.keep _ _ _ st5 λb hb o e=>(I6.pin (b,o) (QD _ (QD _ (aQ hb e)))).1,λb hb=>?_,pD.2.1,pD.1⟩;obtain⟨o,e,_⟩:=T.obj _ _ st5 b hb;exact(I6.pin (b,o) (QD _ (QD _ (aQ hb e)))).2.1
   refine bw (hg C s2 H2 fp pins _ s5 _ H5 x u _ I5p r5 (step x H5 y5)) λ_ s6 ⟨σ6,H6,I6,q6⟩=>?_;refine bw (ht C s2 H2 fp pins _ s6 σ6 H6 _ I6 q6) λb s7 ⟨H7,I7,q7⟩=>?_
   cases b with
   |false=>have q7':NN t H7:=q7;obtain⟨m',hm,w7⟩:=hNN _ _ q7';obtain⟨c1,c2,c3,c4,c5⟩:=cont I7;exact⟨m',hm,i+1,t,oD,H7,c1,c2,c3,c4,c5,v3,w7⟩
   |true=>refine bw (hk C s2 H2 fp pins _ s7 σ6 H7 _ I7 q7) λkv s8 ⟨y,H8,I8,r8,q8⟩=>?_;refine bw (hv C s2 H2 fp pins _ s8 σ6 H8 _ I8 q8) λvv s9 ⟨z,H9,I9,r9,q9⟩=>?_;obtain⟨c1,c2,c3,c4,c5⟩:=cont I9;refine q9 (aq X own scope C s2 H2 fp pins) _ _ s9 D oD kv vv _ _ rfl rfl I9 c5 v3 r8 r9 λh' o' tk t' n' g' ok' sb=>?_;obtain⟨m',hm,w9⟩:=hNN _ _ n';obtain⟨f0,f1,f2,f3,f4,f5⟩:=fpD c4;exact⟨m',hm,i+1,t',o',H9,c1.turned (t':=tk) (λb o hb e=>(sb.2 b hb).trans e) f0 f1 f3 f4 f5,T.keep _ _ _ c2 λb hb o e=>(sb.2 b λz=>nD (z▸hb)).trans e,c3,c4,g',ok',w9⟩
 exact codeAny_compStart_dict loop (T.self X.A 0 {s2 with heap:=h4} _ _ (T.keep _ _ _ st λb _ o e=>k24 b o e) loop)
section
variable {X:Cx} {own:UN} {scope:Scope} {kx vx tg iter:Expr} {τ:Type} {ok:τ->Obj->Prop} {t0:τ} {ifs:UO} {pos:Pos} {wi:TI} {g:TG} {tc:TT} {tk tv:TE}
def Fd{τ:Type}(P:UT)(w:World)(A:UW)(ok:τ->Obj->Prop)(t0:τ)(n:Nat)(wi:TI)(g:TG)(tc:TT)(tk tv:TE):TE:=λσ H Q=>wi σ H λJ H1=>Ay P w A ok t0 n J g tc tk tv σ H1 Q
theorem yM(own:UN)(CS:eR X.env.scope X.N own scope=true)(hc:X.calm=true)(hi:PI X tg iter wi)(hg:∀C s2 H2 fp pins,PG (aq X own scope C s2 H2 fp pins) tg g)
 (ht:∀C s2 H2 fp pins,CT (aq X own scope C s2 H2 fp pins) ifs tc)(hk:∀C s2 H2 fp pins,PE (aq X own scope C s2 H2 fp pins) kx tk)(hv:∀C s2 H2 fp pins,PE (aq X own scope C s2 H2 fp pins) vx tv)
 (ok0:ok t0 {cls:=.type "dict",dict:=none,data:=.dict #[]})(okd:∀t o,ok t o->∃es ep,o.data=.dict es ep)(hs:∀x,foldedSetIterable iter X.env x=pure x:=by intro _;rfl) :
  PE X (.DictComp kx vx [⟨tg,iter,ifs,0⟩] scope pos) (Fd X.prog X.w X.A ok t0 own.length wi g tc tk tv):=by
 intro pins s σ H Q I h;have CS:=cq.of CS;refine SH rfl hs (fX λn hn=>I.ok.has n (CS.frees n hn)) CS.kind (jR CS) (bw (hi pins s σ H _ I h) λv s1 h1=>bw h1 λitv s2 h2=>?_);obtain⟨it,fp,tn,J,H2,e,I2,T,st2,f2,hW⟩:=h2;subst e;refine yL I2 CS hc T st2 f2 hg ht hk hv ok0 okd hW λD C H' s' I' fC ⟨m,hn⟩ q _=>?_;refine⟨m,hn,λh' hs'=>⟨.ref D,H',?_,rfl,q⟩⟩;obtain⟨f0,f1,_,f3,f4,f5⟩:=fC;exact I'.turned (λb o hb e=>(hs'.2 b hb).trans e) f0 f1 f3 f4 f5
end
end L2
namespace Ml
open PySem PySem.Spec L2
noncomputable def fx(tb:Bool)(n:Nat)(ρ:Fm)(g:MG)(c:MT)(k v:ME):List D->UG->Hm->R UG
 | [],acc,h=>.ok acc h
 |x::xs,acc,h=>(g x (List.replicate n none++ρ) h).uF.bind λρ1 h1=>(c ρ1 h1).uF.bind λb h2=>
  if b then(k ρ1 h2).uF.bind λy h3=>(v ρ1 h3).uF.bind λz h4=>match y,z with
   |.dat kd,.dat vd=>if keyOk tb kd&&(tb || mR vd)&&decide (acc.length<16777216)then fx tb n ρ g c k v xs (dput acc kd vd) h4 else .bad
   |_,_=>.bad
  else fx tb n ρ g c k v xs acc h2
def pN(tb:Bool)(n:Nat)(it:MA)(g:MG)(c:MT)(k v:ME):ME:=λρ h=>(it ρ h).bind λxs h1=>(fx tb n ρ g c k v xs [] h1).bind λkvs h2=>R.ok (D.iO tb kvs) h2
structure Hy(G:Gx)(A:UW){τ:Type}(tb:Bool)(ok:τ->Obj->Prop)(t0:τ)(Rl:UG->τ->UK->Hp->Prop):Prop where
 ok0:ok t0 {cls:=.type "dict",dict:=none,data:=.dict #[]}
 okd:∀t o,ok t o->∃es ep,o.data=.dict es ep
 nil:∀θ H,Rl [] t0 θ H
 ev:∀{acc t θ H θ' H'},Ev θ H θ' H'->Rl acc t θ H->Rl acc t θ' H'
 put:∀{acc t θ h H kd vd y z} {N:τ->Hp->Prop},W G θ h H->bR G θ H (.dat kd) y->bR G θ H (.dat vd) z->Rl acc t θ H->keyOk tb kd=true->(tb || mR vd)=true->acc.length<16777216 ->
  (∀t',Rl (dput acc kd vd) t' θ H->N t' H)->MY G.P G.w A ok t y z H N
 fin:∀{acc t θ h H p o},W G θ h H->Rl acc t θ H->H p=none->ok t o->∃ho,(∀H' h,h.get? p=some o->p≠sysModules->cC G.P G.w H' h p ho)/\fR G.P G.w (view θ H) (upd H p ho) p tb acc
def Qr(P:UT)(w:World)(ks:List (Key×V))(o:Obj):Prop:=ks.length<=sizeLine/\(∃es ep,o.data=.dict es ep)/\∃vs,L2.KV ks vs/\∀(h:Heap) (a:Addr),h.get? a=some o->h.DictOf (bJ P w) a vs
theorem Hz:Hy G A false (Qr G.P G.w) [] λacc ks _ _=>aR ks=some acc/\∀p∈acc,cX p.1=true/\cX p.2=true where
 ok0:=⟨RV _,⟨_,_,rfl⟩,[],.nil,λh a e=>Ul.mpr ⟨_,e,(Ul.mp (Heap.DictOf.new (knd:=bJ G.P G.w) h)).elim λo ⟨e1,r⟩=>by
  have e2:(h.push {cls:=.type "dict",data:=.dict #[]}).get? h.objs.size=some {cls:=.type "dict",data:=.dict #[]}:=QJ _ rfl
  grind⟩⟩
 okd:=λt o h=>h.2.1
 nil:=λθ H=>⟨rfl,λp hp=>nomatch hp⟩
 ev:=λ_ h=>h
 put:=λ{acc t θ h H kd vd y z N} w r1 r2 rl hk hf hl hN=>by
  intro Y pins σ s D o u r Q E eP ew I gD ⟨lt,_,vs,kv,dd⟩ ry rz cont;obtain⟨q,rfl⟩:∃q,kd=.str q:=by simp only[keyOk,QO,Rx]at hk;cases kd<;>first|exact⟨_,rfl⟩|simp[gF]at hk
  have fd:mR vd=true:=by simpa using hf
  have hv:=sG fd r2.1;obtain⟨e2,s2⟩:=dI r1;subst e2
  have so:∀p∈dput acc (.str q) vd,cX p.1=true/\cX p.2=true:=λp hp=>by
   unfold dput at hp;split at hp
   ·obtain⟨p0,hp0,e0⟩:=Q4.mp hp;split at e0
    ·subst e0;exact⟨(rl.2 p0 hp0).1,r2.2⟩
    ·subst e0;exact rl.2 p0 hp0
   ·rcases QN.mp hp with hp|hp
    ·exact rl.2 p hp
    ·simp at hp;subst hp;exact⟨by simpa [cX]using s2,r2.2⟩
  have hz:vs.length<=sizeLine:=by rw[<- kv.length];exact lt
  refine wpAny_dictSet_pairs (knd:=bJ G.P G.w) (hsz:=hz) (qd (k:=Sum.inr q) ry) (dd _ _ gD) λh' dd' hs=>?_;obtain⟨o',g',rest⟩:=Ul.mp dd';refine cont h' o' _ (putK t (Sum.inr q) z) (hN _ ⟨nE hv rl.1,so⟩) g' ⟨?_,?_,stored vs (Sum.inr q) r,kv.put (Sum.inr q) rz,λh2 a e2=>Ul.mpr ⟨o',e2,rest⟩⟩ hs
  ·have:=iK t (Sum.inr q) z;rw[jZ rl.1,SK]at *;omega
  ·obtain⟨o2,es,ep,g1,g2,g3,_⟩:=dd';rw[g']at g1;cases g1;exact⟨es,ep,g3⟩
 fin:=λ{acc t θ h H p o} w rl hp ⟨lt,_,vs,kv,dd⟩=>⟨.dK t,λH' h2 e ne=>wA lt (Tr.mpr ne) kv (dd _ _ e),.inl ⟨rfl,t,aZ,rl.1,rl.2⟩⟩
def Qs(P:UT)(w:World)(xs:List (PyData×Addr×Value))(o:Obj):Prop:=xs.length<=sizeLine/\∃es ep,o.ExactDict/\o.data=.dict es ep/\es.toList=xs.map (entryOfKey (eT P w))/\(xs.map (·.1)).Nodup
theorem La(hA:A.units+20<cLine):Hy G A true (Qs G.P G.w) [] λacc xs θ H=>Paired (oq (view θ H)) acc xs where
 ok0:=⟨RV _,_,_,⟨rfl,rfl,rfl⟩,rfl,rfl,List.nodup_nil⟩
 okd:=λt o ⟨_,es,ep,_,h,_⟩=>⟨es,ep,h⟩
 nil:=λθ H=>.nil
 ev:=λe h=>Paired.mF h λ_ _=>oq.same e.same
 put:=λ{acc t θ h H kd vd y z N} w r1 r2 rl hk hf hl hN=>by
  intro Y pins σ s D o u r Q E eP ew I gD ⟨lt,es,ep,g2,g3,g4,g5⟩ ry rz cont;simp only[keyOk,Rr,QG,Rj]at hk
  obtain⟨b,vs,rfl,hb⟩:∃b vs,y=.ref b/\view θ H b=some (.tup vs):=by
   cases kd with
   |tuple ds=>obtain⟨b,vs,e,hb,_⟩:=r1.1;exact⟨b,vs,e,hb⟩
   |_=>simp[gE]at hk
  cases ry;have dd:s.heap.DictOfH (eT G.P G.w) D t:=⟨o,es,ep,gD,g2,g3,g4,xa I (ax θ H) rl,g5⟩;have kr:=yA (b:=b) (u:=r) hk.1.2 hk.2 r1.2 r1.1 rz r2.1 r2.2 rl;refine wpAny_dictSet_heap (knd:=eT G.P G.w) (hsz:=lt) hA (BV I (ax θ H) hk.1.2 hk.2 r1.2 r1.1) dd λh' dd' hs=>?_;obtain⟨o',es',ep',k1,k2,k3,k4,_,k5⟩:=dd';refine cont h' o' _ (storedH t kd b r) (hN _ kr) k1 ⟨?_,es',ep',k2,k3,k4,k5⟩ hs;rw[<- show(dput acc kd vd).length=_ from Q0 kr];have:=yB acc kd vd
  grind[PySem.sizeLine_eq]
 fin:=λ{acc t θ h H p o} w rl hp ⟨lt,es,ep,g2,g3,g4,g5⟩=>⟨dO G.P G.w t p,λH' h2 e ne=>IU lt (Tr.mpr ne) e g2 g3 g4 g5,.inr ⟨rfl,t,aZ,rl⟩⟩
section
variable {X:Cx} {E:XK} {mk mv:ME} {t:MT} {e tg kx vx:Expr} {ifs:UO} {it:MA} {pos:Pos} {i:Nat} {x:Str} {g:MG} {own:UN} {scope:Scope} {tb:Bool} {k:Nat}
theorem Az(AR:Hy G A tb ok t0 Rl){F:XP}{n:Nat}{θ1:UK}{H1:Hp}{h1:Hm}{xs:List D}{J:It}{σ:L2.St}{ρ:Fm}{Q:VK}(hJ:ow G θ1 H1 xs J)(w1:W G θ1 h1 H1)(fr:Fr G θ1 H1 ρ σ)
 (p1:aD G F θ1 H1 ((fx tb n ρ g t mk mv xs [] h1).bind λkvs h2=>R.ok (D.iO tb kvs) h2) (Ml.KV G Q)) :
  Ay G.P G.w A ok t0 n J (lG G fP g) (lT G fP t) (lE G fP mk) (lE G fP mv) σ H1 Q:=by
 refine⟨λi m' a H=>m'=xs.length-i/\i<=xs.length/\∃θ' h' acc,Ev θ1 H1 θ' H/\W G θ' h' H/\Rl acc a θ' H/\aD G F θ' H ((fx tb n ρ g t mk mv (xs.drop i) acc h').bind λkvs h2=>R.ok (D.iO tb kvs) h2) (Ml.KV G Q),
  ⟨xs.length,by simp,RV _,θ1,h1,[],Ev.refl,w1,AR.nil _ _,p1⟩,?_⟩
 rintro i m' a H ⟨rfl,hi,θ',h',acc,ev,w,ra,p⟩;obtain⟨j1,j2⟩:=hJ θ' h' H ev w;by_cases hlt:i<xs.length
 ·have ed:xs.drop i=xs[i]::xs.drop (i+1):=RF hlt;rw[ed]at p;obtain⟨g1,g2⟩:=j1 i xs[i] (QP hlt);refine .inr ⟨g1,λa2 H2=>i+1<=xs.length/\∃θ' h' acc,Ev θ1 H1 θ' H2/\W G θ' h' H2/\Rl acc a2 θ' H2/\aD G F θ' H2 ((fx tb n ρ g t mk mv (xs.drop (i+1)) acc h').bind λkvs h2=>R.ok (D.iO tb kvs) h2) (Ml.KV G Q),λys' H' q=>⟨xs.length-(i+1),by omega,rfl,q⟩,λx H2 y=>?_⟩;obtain⟨e2,w2,r2⟩:=g2 x H2 y;have p2:=p.later e2;unfold fx at p2;simp only[R.bind_assoc]at p2;refine⟨θ',h',_,xs[i],w2,((fr.ev ev).ev e2).replicate n,r2,(aD.cM p2).mono λρ3 θ3 h3 H3 _ _ ⟨e3,w3,p3⟩ σ3 fr3=>⟨θ3,h3,ρ3,w3,fr3,(aD.cM p3).mono λc θ4 h4 H4 _ _ ⟨e4,w4,p4⟩=>?_⟩⟩;have ev4:=(ev.trans e2).trans (e3.trans e4);have ra4:=AR.ev (e2.trans (e3.trans e4)) ra
  cases c with
  |false=>exact⟨hlt,θ4,h4,acc,ev4,w4,ra4,p4⟩
  |true=>
   simp only[Rr,R.bind_assoc]at p4;refine⟨θ4,h4,ρ3,w4,fr3.ev e4,(aD.cM p4).mono λy θ5 h5 H5 _ _ ⟨e5,w5,p5⟩ v5 r5=>⟨θ5,h5,ρ3,w5,(fr3.ev e4).ev e5,(aD.cM p5).mono λz θ6 h6 H6 _ _ ⟨e6,w6,p6⟩ v6 r6=>?_⟩⟩;have ra6:=AR.ev (e5.trans e6) ra4;have r5':=bR.ev e6 r5
   cases y with
   |dat kd=>
    cases z with
    |dat vd=>
     simp only at p6;split at p6
     ·rename_i hc;simp only[QG,Rj]at hc;exact AR.put w6 r5' r6 ra6 hc.1.1 hc.1.2 hc.2 λt' rt=>⟨hlt,θ6,h6,_,ev4.trans (e5.trans e6),w6,rt,p6⟩
     ·exact p6.elim
    |_=>exact p6.elim
   |_=>exact p6.elim
 ·have hx:i=xs.length:=by omega
  subst hx;rw[RK (QE _)]at p;simp only[fx,R.aK]at p;refine .inl ⟨j2,λq o hq hok=>?_⟩;obtain⟨ho,h1,h2⟩:=AR.fin w ra hq hok;obtain⟨e3,w3,g3⟩:=w.put (o:=ho) hq;refine⟨ho,h1,p _ _ e3 w3 _ ⟨q,rfl,h2.same e3.same λo' e'=>?_⟩⟩;rw[aZ]at e';rw[g3];exact e'
theorem yN(AR:Hy G A tb ok t0 Rl){n:Nat}{σ:L2.St}{H:Hp}{Q:VK}(h:lE G E (pN tb n it g t mk mv) σ H Q) :
  Fd G.P G.w A ok t0 n (lI G E it) (lG G fP g) (lT G fP t) (lE G fP mk) (lE G fP mv) σ H Q:=by
 obtain⟨θ,h,ρ,w,fr,p⟩:=h;exact⟨θ,h,ρ,w,fr,(aD.bind p).mono λxs θ1 h1 H1 _ _ ⟨ev,w1,p1⟩ J hJ=>Az AR hJ w1 (fr.ev ev) p1⟩
theorem yO(own:UN)(tb:Bool)(hr:cg k X.A)(CS:eR X.env.scope X.N own scope=true)(hc:X.calm=true)(hi:DI X E it tg e)(hg:∀C s2 H2 fp pins,DG (aq X own scope C s2 H2 fp pins) fP g tg)
 (ht:∀C s2 H2 fp pins,Hf (aq X own scope C s2 H2 fp pins) fP t ifs)(hk:∀C s2 H2 fp pins,DE (aq X own scope C s2 H2 fp pins) fP mk kx)(hv:∀C s2 H2 fp pins,DE (aq X own scope C s2 H2 fp pins) fP mv vx)(hs:∀x,foldedSetIterable e X.env x=pure x:=by intro _;rfl) :
  DE X E (pN tb own.length it g t mk mv) (.DictComp kx vx [⟨tg,e,ifs,0⟩] scope pos):=by
 simp[br,mT,kC,pJ]at *
 cases tb with
 |false=>exact PE.imp (yM own CS hc hi hg ht hk hv (Hz (A:=X.A)).ok0 (Hz (A:=X.A)).okd hs) λσ H Q q=>yN Hz q
 |true=>
  have hu:X.A.units+20<cLine:=by have:=hr.units;omega
  exact PE.imp (yM own CS hc hi hg ht hk hv (La hu).ok0 (La hu).okd hs) λσ H Q q=>yN (La hu) q
end
end Ml
namespace Ml
open PySem
def nI:List (Str×Str):=[("grounded", "idle_for_grounded"),("preferred", "idle_for_standing"),("stable", "idle_for_stable"),("standing", "idle_for_standing"),("whole", "idle_for_whole")]
noncomputable def Fe:MS:=bx (jE (af cH (aa (ae 0) ah)))
    (bx (jE (af gS (aa (ae 1) ah)))
    (bx (cw 2 (sJ nI (ae 1)))
    (bx (kN (hX (bM (aA 3) (bM (aA 4) hV))) (ae 0))
    (bx (cw 5 (pN true 1 (aX (ae 4)) (aA 0) dR (ae 0) (ai (.bool true))))
    (bx (cw 6 (cx 2 (aX (ae 4)) (hX (bM (aA 0) (bM (aA 1) hV))) (um (bc (ak oEq (ae 0) (ae 1))) (fO (bz (j4 4 [("idle_for_grounded",bB),("idle_for_standing",bo),("idle_for_stable",bO),("idle_for_whole",bU)] (aa (ae 7) (aa (ae 0) (aa (ae 1) ah))))))) (bL (aa (ae 0) (aa (ae 1) ah)))))
    (bS (bL (aa (ae 3) (aa (af dF (aa (ae 6) ah)) ah)))))))))
def fz:Fn:=bE 2 7 Fe
noncomputable def Dh:MS:=bx (kN (hX (bM (aA 2) (bM (aA 3) hV))) (af fz (aa (ae 0) (aa (ae 1) ah))))
    (bx (cw 4 (sJ nI (ae 1)))
    (bx (cw 5 (pN true 1 (aX (ae 3)) (aA 0) dR (ae 0) (ai (.bool true))))
    (bx (cw 6 (xf 2 (aX (ae 2)) (aA 0) dR (aX (ae 4)) (aA 1) (um (bc (ak nv (bL (aa (ae 0) (aa (ae 1) ah))) (ae 7))) (nQ (bc (ak vm (ae 0) (ae 1))) (bz (j4 6 [("idle_for_grounded",bB),("idle_for_standing",bo),("idle_for_stable",bO),("idle_for_whole",bU)] (aa (ae 7) (aa (ae 0) (aa (ae 1) ah))))))) (bL (aa (ae 0) (aa (ae 1) ah)))))
    (bS (bL (aa (ae 2) (aa (af dF (aa (ae 6) ah)) ah)))))))
def g9:Fn:=bE 2 7 Dh
def yP:MS:=bx (jE (af cH (aa (ae 0) ah)))
    (bx (jE (af cH (aa (ae 1) ah)))
    (bx (jE (af gS (aa (ae 2) ah)))
    (bS (ak oEq (af fz (aa (ae 0) (aa (ae 2) ah))) (af fz (aa (ae 1) (aa (ae 2) ah)))))))
def bC:Fn:=bE 3 3 yP
def qr:MS:=bx (o8 (bc (ak oLt (ae 1) (af ig (aa (ae 0) ah)))) (bS (ak cU (ae 0) (ae 1))) cL)
    (bS (ai (.int 0)))
def ff:Fn:=bE 2 2 qr
def sL:MS:=bx (cw 1 (af C4 (aa (ae 0) (aa (ak Eu (ai (.int 0)) (ae 0)) ah))))
    (bS (uG (aa (ae 1) (aa (af rT (aa (ak MD (ae 1) (ai (.int (10^18)))) ah)) ah))))
def iq:Fn:=bE 1 2 sL
noncomputable def kT:MS:=bx (o8 (bc (ak oEq (ak cU (ae 0) (ai (.int 1))) (ai (.int 1)))) (bx (kN (hX (bM (aA 2) (bM (aA 3) hV))) (af n5 (aa (ak cU (ae 0) (ai (.int 0))) (aa (ae 1) ah))))
    (bx (kN (x8 (ae 0) (ai (.int 0))) (ae 2))
    (bS (ae 3)))) cL)
    (bx (cw 4 (ak oMod (ak nY (ak fk (ak oMod (ak cU (ae 0) (ai (.int 0))) (ai (.int 2147483647))) (ai (.int 40503))) (ai (.int 69621))) (ai (.int 2147483629))))
    (bx (cw 4 (ak oMod (ak fk (ak nY (ae 4) (ae 4)) (ai (.int 7817))) (ai (.int 2147483587))))
    (bx (kN (x8 (ae 0) (ai (.int 0))) (ak oMod (ak fk (ak nY (ae 4) (ai (.int 48271))) (ai (.int 11))) (ai (.int 2147483629))))
    (bS (ak oMod (ak vk (ak cU (ae 0) (ai (.int 0))) (ai (.int 32))) (ae 1))))))
def aB:Fn:=bE 2 5 kT
noncomputable def oF:MS:=bx (cw 2 (uG (aa (ai (.str "a")) (aa (ai (.str "aa")) (aa (ai (.str "ab")) (aa (ai (.str "abcdef")) (aa (ai (.str "b")) (aa (ai (.str "c")) (aa (ai (.str "d")) (aa (ai (.str "e")) (aa (ai (.str "m")) (aa (ai (.str "x")) (aa (ai (.str "zz")) (aa (ai (.str "zzzzzz")) ah))))))))))))))
    (bS (af dF (aa (af gN (aa (cx 1 (qf (aa (af aB (aa (ae 0) (aa (ak fk (ae 1) (ai (.int 1))) ah))) ah)) (aA 0) dR (oB pE (ae 3) (af aB (aa (ae 1) (aa (af ig (aa (ae 3) ah)) ah))))) ah)) ah)))
def j5:Fn:=bE 2 3 oF
def j6:Fn:=gu j5
noncomputable def AA:MS:=bx (kN (hX (bM (aA 2) (bM (aA 3) (bM (aA 4) hV)))) (bL (aa (af j6 (aa (ae 0) (aa (ae 1) ah))) (aa (ak cU (ai (.list [.int 1,.int 2,.int 3,.int 5])) (af aB (aa (ae 0) (aa (ai (.int 4)) ah)))) (aa (ai (.list [])) ah)))))
    (bx (pC (aX (ae 2)) (aA 5) (cw 4 (ak fk (ae 4) (cx 1 (aX (ae 2)) (aA 0) (bc (ak oLt (af aB (aa (ae 1) (aa (ai (.int 8)) ah))) (ae 4))) (bL (aa (ae 6) (aa (ae 0) ah)))))))
    (bS (bL (aa (ae 2) (aa (af dF (aa (ae 4) ah)) ah)))))
def iu:Fn:=bE 2 6 AA
def uM:MS:=bS (ak oEq (cx 1 (aX (ae 0)) (aA 0) (bc (ak rQ (ae 0) (ae 2))) (ae 0)) (ai (.list [])))
def jo:Fn:=bE 2 2 uM
def mL:MS:=bS (ai (.list [.str "stable",.str "standing",.str "preferred",.str "whole",.str "grounded"]))
def bQ:Fn:=bE 0 0 mL
end Ml
namespace L2
open PySem PySem.Spec
theorem Inv.adopt{σ:St}(I:Inv X pins σ H s)(f:gC X pins H D)(new:cC X.prog X.w (upd H D o) s.heap D o):Inv X pins σ (upd H D o) s:=by
 obtain⟨f0,f1,f2,f3,f4,f5⟩:=f;have u:=I.base;refine⟨I.ok,I.os,I.bare,⟨u.keep,u.slot,λb ob e n hx=>?_,u.there,λb xs e=>?_,λb ob xs e=>?_,λb ps e=>?_⟩,I.loc,I.cell,by rw[ay (Tp f1)];exact I.free,λx c e=>by rw[ay (f4 x c e)];exact I.freeC x c e,λp hp=>?_,λb ob e=>?_,I.len⟩
 ·rw[ay]
  ·exact u.free b ob e n hx
  ·rintro rfl;rcases f3 with z|z
   ·grind
   ·exact absurd (QH (QF e) z) (QU _)
 ·have:=u.tups b xs e;rw[ay (aF this f0)];grind
 ·have:=u.frzs b ob xs e;rw[ay (aF this f0)];exact this
 ·obtain⟨more,this⟩:=u.tbls b ps e;exact⟨more,by rw[ay (aF this f0)];exact this⟩
 ·obtain⟨h1,h2,h3⟩:=I.pin p hp;exact⟨h1,by rw[ay (f5 p hp)];exact h2,h3⟩
 ·by_cases hb:b=D
  ·subst hb;rw[aZ]at e;cases e;exact new
  ·rw[ay hb]at e;exact(I.hok b ob e).qP (λ_ _ _ q=>q) (λc q=>by rw[ay (aF q f0)];exact q) λc xs q=>by rw[ay (aF q f0)];exact q
end L2
namespace Ml
open PySem PySem.Spec L2
def j7:List (Str×ME)->Fm->Hm->R UG
 | [],_,h=>.ok [] h
 | (k,e)::r,ρ,h=>(e ρ h).bind λy h1=>match y with
  |.dat d=>if mR d then(j7 r ρ h1).bind λkvs h2=>.ok ((.str k,d)::kvs) h2 else .bad
  |_=>.bad
def yQ(acc kvs:UG):UG:=kvs.foldl (λacc kv=>dput acc kv.1 kv.2) acc
def Ff(kes:List (Str×ME)):ME:=λρ h=>(j7 kes ρ h).bind λkvs h1=>.ok (.iO false (yQ [] kvs)) h1
def B0(kvs:UG)(ks:List (Key×V)):Prop:=aR ks=some kvs/\∀p∈kvs,cX p.1=true/\cX p.2=true
def PU(G:Gx)(E:XK)(kes:List (Str×ME))(σ:L2.St)(H:Hp)(Q:List (Key×V)->Hp->Prop):Prop:=
 ∃θ h ρ,W G θ h H/\Fr G θ H ρ σ/\aD G (mJ G E) θ H (j7 kes ρ h) (λkvs _ _ H'=>∀ks,B0 kvs ks->Q ks H')
@[irreducible] def LO(X:Cx)(E:XK)(kes:List (Str×ME))(pos:Pos)(keys:List (Option Expr))(values:UO):Prop:=
 ∀(pins:UE) (s:UX) (σ:L2.St) (H:Hp) (Q:List (Key×V)->Hp->Prop),Inv X pins σ H s->PU X.G E kes σ H Q ->
  wpAny (model X.prog X.w) X.A (evalPairs (pairTrees keys values X.env pos)) (λvs s'=>∃ks H',Inv X pins σ H' s'/\VV (ks.map λkv=>(kV kv.1,kv.2)) vs/\Q ks H') X.xe s
theorem AB(X:Cx)(E:XK)(kes:List (Str×ME))(pos:Pos)(keys:List (Option Expr))(values:UO):LO X E kes pos keys values =
 ∀(pins:UE) (s:UX) (σ:L2.St) (H:Hp) (Q:List (Key×V)->Hp->Prop),Inv X pins σ H s->PU X.G E kes σ H Q ->
  wpAny (model X.prog X.w) X.A (evalPairs (pairTrees keys values X.env pos)) (λvs s'=>∃ks H',Inv X pins σ H' s'/\VV (ks.map λkv=>(kV kv.1,kv.2)) vs/\Q ks H') X.xe s:=by
 unfold LO;rfl
theorem qt:∀{more:List (Key×V)} {kvs:UG} {acc:List (Key×V)} {akv:UG},aR more=some kvs->(∀p∈more,∃x,p.1=Sum.inr x)->aR acc=some akv->aR (ji acc more)=some (yQ akv kvs)
 | [],kvs,acc,akv,e,_,a=>by cases e;exact a
 | (q,v)::more,kvs,acc,akv,e,hx,a=>by
  unfold aR at e
  cases e1:fQ v with
  |none=>simp_all
  |some d=>
   cases e2:aR more with
   |none=>simp_all
   |some ds=>rw[e1,e2]at e;cases e;obtain⟨x,rfl⟩:=hx (q,v) (by simp);show aR (ji (putK acc (Sum.inr x) v) more)=some (yQ (dput akv (.str x) d) ds);exact qt e2 (λp m=>hx p (by simp[m])) (nE e1 a)
theorem Fg(ha:∀p∈acc,cX p.1=true/\cX p.2=true)(hk:cX k=true)(hv:cX v=true):∀p∈dput acc k v,cX p.1=true/\cX p.2=true:=by
 intro p hp;unfold dput at hp;split at hp
 ·obtain⟨p0,hp0,e0⟩:=Q4.mp hp;split at e0
  ·grind
  ·subst e0;exact ha p0 hp0
 ·rcases QN.mp hp with hp|hp
  ·exact ha p hp
  ·simp at hp;subst hp;exact⟨hk,hv⟩
theorem vF:∀{kvs acc:UG},(∀p∈acc,cX p.1=true/\cX p.2=true)->(∀p∈kvs,cX p.1=true/\cX p.2=true)->∀p∈yQ acc kvs,cX p.1=true/\cX p.2=true
 | [],acc,ha,_=>ha
 |q::kvs,acc,ha,hk=>vF (acc:=dput acc q.1 q.2) (Fg ha (hk q (by simp)).1 (hk q (by simp)).2) λp m=>hk p (by simp[m])
section
variable {X:Cx} {E:XK} {m md mk mx:ME} {e k v o f:Expr} {ks:List (Option Expr)} {vs:UO} {kes:List (Str×ME)} {pos apos cpos:Pos} {x:Str} {n:Nat}
theorem HA:LO X E [] pos [] []:=by simp[AB];exact λpins s σ H Q I ⟨θ,h,ρ,w,fr,p⟩=>pairTrees_nil_walk ⟨[],H,I,.nil,p θ H Ev.refl w [] ⟨rfl,λp m=>nomatch m⟩⟩
theorem sM(hk:DE X E (ai (.str x)) k)(hv:DE X E m v)(hr:LO X E kes pos ks vs):LO X E ((x,m)::kes) pos (some k::ks) (v::vs):=by
 simp only[AB,br]at *;intro pins s σ H Q I ⟨θ,h,ρ,w,fr,p⟩;refine pairTrees_cons_walk (bw (hk pins s σ H (λu H1=>(u=.str x/\PyData.strOk x=true)/\∃θ1,W X.G θ1 h H1/\Fr X.G θ1 H1 ρ σ/\aD X.G (mJ X.G E) θ1 H1 (j7 ((x,m)::kes) ρ h) (λkvs _ _ H'=>∀ks,B0 kvs ks->Q ks H')) I ⟨θ,h,ρ,w,fr,λθ1 H1 ev w1 u r=>⟨dI r,θ1,w1,fr.ev ev,p.later ev⟩⟩) λu s1 ⟨y,H1,I1,ry,⟨ey,sx⟩,θ1,w1,fr1,p1⟩=>?_);subst ey;refine bw (hv pins s1 σ H1 (λz H2=>∃d θ2 h2,fQ z=some d/\cX d=true/\W X.G θ2 h2 H2/\Fr X.G θ2 H2 ρ σ/\aD X.G (mJ X.G E) θ2 H2 (j7 kes ρ h2) (λkvs _ _ H'=>∀ks,B0 ((.str x,d)::kvs) ks->Q ks H')) I1 ⟨θ1,h,ρ,w1,fr1,(aD.bind (r:=m ρ h) p1).mono λz θ2 h2 H2 _ _ ⟨ev,w2,p2⟩ v r=>?_⟩) λu2 s2 ⟨z,H2,I2,rz,d,θ2,h2,sz,so,w2,fr2,p2⟩=>?_
 ·cases z with
  |dat d=>
   simp only at p2;split at p2
   ·rename_i fd;refine⟨d,θ2,h2,sG fd r.1,r.2,w2,fr1.ev ev,(aD.bind p2).mono λkvs θ3 h3 H3 _ _ ⟨ev3,w3,p3⟩=>p3 θ3 H3 Ev.refl w3⟩
   ·exact p2.elim
  |_=>exact p2.elim
 ·refine bw (hr pins s2 σ H2 (λks H3=>Q ((Sum.inr x,z)::ks) H3) I2 ⟨θ2,h2,ρ,w2,fr2,p2.mono λkvs θ3 h3 H3 _ _ q ks rk=>q _ ⟨by unfold aR;rw[sz,rk.1];rfl,λp hp=>?_⟩⟩) λws s3 ⟨ks,H3,I3,rel,q3⟩=>⟨(Sum.inr x,z)::ks,H3,I3,.cons ⟨ry,rz⟩ rel,q3⟩;rcases QK.mp hp with rfl|hp
  ·exact⟨by simpa [cX]using sx,so⟩
  ·exact rk.2 p hp
theorem B1:∀{ks:List (Key×V)} {kvs:UG},aR ks=some kvs->(∀p∈kvs,gF p.1=true)->∀p∈ks,∃x,p.1=Sum.inr x
 | [],_,_,_,p,hp=>nomatch hp
 | (q,v)::ks,kvs,e,hs,p,hp=>by
  unfold aR at e
  cases e1:fQ v with
  |none=>simp_all
  |some d=>
   cases e2:aR ks with
   |none=>simp_all
   |some ds=>
    rw[e1,e2]at e;cases e;rcases QK.mp hp with rfl|hp
    ·have:=hs (yi q,d) (by simp)
     grind[yi,gF]
    ·exact B1 e2 (λp m=>hs p (by simp[m])) p hp
theorem vG:∀{kes:List (Str×ME)} {ρ:Fm} {h:Hm} {kvs:UG} {h':Hm},j7 kes ρ h=.ok kvs h'->kvs.length=kes.length/\∀p∈kvs,gF p.1=true
 | [],ρ,h,kvs,h',e=>by cases e;grind
 | (k,m)::kes,ρ,h,kvs,h',e=>by
  unfold j7 at e
  cases e1:m ρ h with
  |bad=>simp_all
  |exc x h1=>simp_all
  |ok y h1=>
   rw[e1]at e;simp only[R.aK]at e;split at e
   ·split at e
    ·cases e2:j7 kes ρ h1 with
     |bad=>simp_all
     |exc x h1=>simp_all
     |ok kv2 h2=>rw[e2]at e;cases e;obtain⟨q1,q2⟩:=vG e2;exact⟨by simp[q1],λp hp=>by rcases QK.mp hp with rfl|hp;rfl;exact q2 p hp⟩
    grind
   grind
theorem HB(hp:LO X E kes pos ks vs)(hall:ks.all (·.isSome)=true:=by rfl)(hl:ks.length=vs.length:=by rfl)(hk:ks.length=kes.length:=by rfl)(h0:ks≠[]:=by simp)(h15:ks.length<=15:=by decide):DE X E (Ff kes) (.Dict ks vs pos):=by
 simp only[AB,br]at *;intro pins s σ H Q I ⟨θ,h,ρ,w,fr,p⟩;have hD:H s.heap.objs.size=none:=I.hok.fresh (QE _);have fD:=I.zP (b:=s.heap.objs.size) (QE _) hD;have I1:Inv X pins σ H {s with heap:=s.heap.push {cls:=.type "dict",data:=.dict #[]}}:=I.kept (t':=s.toks) λb u q=>QC _ q;have gD:(s.heap.push {cls:=.type "dict",data:=.dict #[]}).get? s.heap.objs.size=some {cls:=.type "dict",data:=.dict #[]}:=QJ _ rfl;have I1p:=I1.pinned (fp:=[s.heap.objs.size]) (λb hb=>(QT.mp hb)▸fD) λb hb=>⟨_,(QT.mp hb)▸gD,λv z=>by cases z⟩;refine wpAny_Dict_walk (knd:=bJ X.prog X.w) hall hl h0 h15 (bw (hp _ _ σ H (λks2 H2=>∃θ2 h2 kvs,W X.G θ2 h2 H2/\B0 kvs ks2/\(kvs.length=kes.length/\∀p∈kvs,gF p.1=true)/\aD X.G (mJ X.G E) θ2 H2 (R.ok (D.iO false (yQ [] kvs)) h2) (Ml.KV X.G Q)) I1p ⟨θ,h,ρ,w,fr,?_⟩) λws s2 ⟨ks2,H2,I2,rel,θ2,h2,kvs,w2,rk,dk,p2⟩=>?_)
 ·unfold Ff at p
  cases e:j7 kes ρ h with
  |bad=>rw[e]at p;exact p.elim
  |exc x h1=>rw[e]at p;exact p
  |ok kvs h1=>rw[e]at p;exact λθ2 H2 ev w2 ks2 rk=>⟨θ2,h1,kvs,w2,rk,vG e,aD.later p ev⟩
 obtain⟨rs,c,rkv⟩:=nj (P:=X.prog) (w:=X.w) rel;have pD:=I2.pin (s.heap.objs.size,_) (QD _ (QD _ (aQ (by simp) gD)));obtain⟨g2,n2,_⟩:=pD;have d0:s2.heap.DictOf (bJ X.prog X.w) s.heap.objs.size []:=(Hz (G:=X.G) (A:=X.A)).ok0.2.2.elim λvs0 ⟨kv0,q⟩=>by cases kv0;exact q _ _ g2
 refine⟨rs,c,d0,λh' dd' hs=>?_⟩;have hz:(ji [] ks2).length<=sizeLine:=by have h1:=jj ks2 [];rw[RE,jZ rk.1,dk.1,<- hk]at h1;rw[R9];omega
 have I3:=(I2.hZ).turned (t':=s2.toks+ws.length) (λb ob hb e=>(hs.2 b hb).trans e) n2 fD.2.1 fD.2.2.2.1 fD.2.2.2.2.1 fD.2.2.2.2.2;have ne:s.heap.objs.size≠sysModules:=Tp (QQ I.big);have I4:=I3.adopt (D:=s.heap.objs.size) (o:=.dK (ji [] ks2)) ⟨n2,fD.2⟩ (wA hz (Tr.mpr ne) (rkv.merge .nil) dd');obtain⟨e3,w3,g3⟩:=w2.put (o:=.dK (ji [] ks2)) n2;exact⟨.ref s.heap.objs.size,_,I4,rfl,p2 _ _ e3 w3 _ ⟨_,rfl,.inl ⟨rfl,_,g3,qt rk.1 (B1 rk.1 dk.2) rfl,vF (λp m=>nomatch m) rk.2⟩⟩⟩
def MZ(d k x:D)(h:Hm):R D:=match d,k with
 |.iO false kvs,.dat (.str s)=>match uI kvs (.str s)with
  |some v=>.ok (.dat v) h
  |Option.none=>.ok x h
 |_,_=>.bad
def Fh:D->Bool
 |.iO false _=>true
 |_=>false
def M0(d k x:ME):ME:=λρ h=>(d ρ h).bind λy h1=>if Fh y then(k ρ h1).bind λz h2=>(x ρ h2).bind λu h3=>MZ y z u h3 else .bad
theorem qu:∀{ks:List (Key×V)} {kvs:UG},aR ks=some kvs->uI kvs (.str x)=none->pv ks (Sum.inr x)=none
 | [],kvs,e,g=>by rfl
 | (q,v)::ks,kvs,e,g=>by
  unfold aR at e
  cases e1:fQ v with
  |none=>simp_all
  |some d'=>
   cases e2:aR ks with
   |none=>simp_all
   |some ds=>
    rw[e1,e2]at e;cases e;unfold uI at g;rw[List.find?_cons,wZ]at g;by_cases hq:q=Sum.inr x
    ·simp_all
    ·simp only[hq]at g;rw[kK hq];exact qu e2 g
theorem Lb(hr:cg n X.A)(hd:DE X E md o)(hk:DE X E mk e)(hx:DE X E mx f)(mm:M2 X o "get" apos e f cpos):DE X E (M0 md mk mx) (.Call (.Attribute o "get" apos) [e,f] [] cpos):=by
 simp only[br]at *;refine PE.imp (Ef (by have:=hr.units;omega) hd hk hx mm) λσ H Q ⟨θ,h,ρ,w,fr,p⟩=>⟨θ,h,ρ,w,fr,(aD.bind p).mono λy θ1 h1 H1 _ _ ⟨ev,w1,p1⟩ v r=>?_⟩;split at p1
 ·rename_i hy
  cases y with
  |iO t kvs=>
   have ht:t=false:=by cases t with|false=>rfl|true=>simp[Fh]at hy
   subst ht;obtain⟨a,rfl,dc⟩:=r;have dc1:=dc.same (G':=H1) (bG.refl _) λob q=>ax _ _ _ _ q;refine⟨a,rfl,?_,θ1,h1,ρ,w1,fr.ev ev,(aD.bind p1).mono λz θ2 h2 H2 _ _ ⟨ev2,w2,p2⟩ u ru=>⟨θ2,h2,ρ,w2,(fr.ev ev).ev ev2,(aD.bind p2).mono λx θ3 h3 H3 _ _ ⟨ev3,w3,p3⟩ ux rx=>?_⟩⟩
   ·rcases dc1 with⟨_,ks,q,_⟩|⟨z,xs,q,_⟩
    ·exact .inl ⟨ks,.inl q⟩
    ·cases z
   ·have dc3:=(dc.same (G':=view θ3 H3) (ev2.trans ev3).same λob q=>(ev2.trans ev3).same _ _ q).same (G':=H3) (bG.refl _) λob q=>ax _ _ _ _ q;unfold MZ at p3
    cases z with
    |dat zd=>
     cases zd with
     |str q=>
      obtain⟨eu,_⟩:=dI ru;subst eu;rcases dc3 with⟨_,ks,q1,q2,q3⟩|⟨z,_⟩
      ·simp only at p3
       cases g:uI kvs (.str q)with
       |some v=>rw[g]at p3;obtain⟨u,q4,q5⟩:=nF q2 g;refine⟨some u,.inl ⟨ks,Sum.inr q,.inl q1,rfl,q4.symm⟩,p3 θ3 H3 Ev.refl w3 u ⟨yy q5,?_⟩⟩;unfold uI at g;obtain⟨pr,hp,e'⟩:=RH.mp g;rw[<- e'];exact(q3 pr (List.mem_of_find?_eq_some hp)).2
       |none=>rw[g]at p3;exact⟨none,.inl ⟨ks,Sum.inr q,.inl q1,rfl,(qu q2 g).symm⟩,p3 θ3 H3 Ev.refl w3 ux rx⟩
      ·cases z
     |_=>exact p3.elim
    |_=>exact p3.elim
  |_=>simp[Fh]at hy
 ·exact p1.elim
end
end Ml
namespace Ml
open PySem
noncomputable def sN:MS:=bx (uH [4,5,6] (aa (ak nv (bL (aa (ae 2) (aa (ae 2) ah))) (ak cU (ae 0) (ai (.int 1)))) (aa (ak nv (bL (aa (ae 3) (aa (ae 3) ah))) (ak cU (ae 0) (ai (.int 1)))) (aa (ak nv (bL (aa (ae 3) (aa (ae 2) ah))) (ak cU (ae 0) (ai (.int 1)))) ah))))
    (bS (M0 (Ff [("stable",ae 4),("whole",kD (ae 4) (ae 5)),("grounded",kD (ae 5) (Dg (ae 4) (ae 6)))]) (ae 1) (kD (ae 4) (Dg (ae 6) (ae 5)))))
def bZ:Fn:=bE 4 7 sN
noncomputable def uN:MS:=bx (cw 2 (uG ah))
    (bx (pC (aX (ak cU (ae 0) (ai (.int 1)))) (hX (bM (aA 3) (bM (aA 4) hV))) (o8 (um (bc (ak oEq (ae 3) (ae 4))) (fO (bz (af bZ (aa (ae 0) (aa (ae 1) (aa (ae 3) (aa (ae 4) ah)))))))) (jE (oB fZ (ae 2) (bL (aa (ae 3) (aa (ae 4) ah))))) cL))
    (bS (bL (aa (ak cU (ae 0) (ai (.int 0))) (aa (af dF (aa (ae 2) ah)) ah)))))
def uO:Fn:=bE 2 5 uN
def gf:Fn:=gu uO
noncomputable def sO:MS:=bx (cw 2 (ai (.list [])))
    (bx (pC (aX (ak cU (ae 0) (ai (.int 0)))) (aA 3) (cw 2 (ak fk (ae 2) (cx 1 (aX (ak cU (ae 0) (ai (.int 0)))) (aA 0) (nQ (bc (ak vm (ae 4) (ae 0))) (bz (af bZ (aa (ae 1) (aa (ae 2) (aa (ae 4) (aa (ae 0) ah))))))) (bL (aa (ae 4) (aa (ae 0) ah)))))))
    (bS (bL (aa (ak cU (ae 0) (ai (.int 0))) (aa (af dF (aa (af eV (aa (ak fk (af rS (aa (ak cU (ae 0) (ai (.int 1))) ah)) (ae 2)) ah)) ah)) ah)))))
def fA:Fn:=bE 2 4 sO
def uP:MS:=bx (cw 2 (ak fk (cx 1 (aX (ae 0)) (aA 0) (bc (ak rQ (ae 0) (ae 2))) (ae 0)) (cx 1 (aX (ae 1)) (aA 0) (bc (ak rQ (ae 0) (ae 1))) (ae 0))))
    (bS (af dF (aa (af gN (aa (ae 2) ah)) ah)))
def gg:Fn:=bE 2 3 uP
noncomputable def yR:MS:=bx (kN (hX (bM (aA 3) (bM (aA 4) hV))) (ae 1))
    (bx (pC (qf (aa (ak nY (af aB (aa (ae 0) (aa (ak fk (ae 2) (ai (.int 1))) ah))) (af rT (aa (ak vm (ae 3) (ai (.tuple []))) ah))) ah)) (aA 5) (bx (cw 6 (bL (aa (ak cU (ae 3) (af aB (aa (ae 0) (aa (af ig (aa (ae 3) ah)) ah)))) (aa (ak cU (ae 3) (af aB (aa (ae 0) (aa (af ig (aa (ae 3) ah)) ah)))) ah))))
    (cw 4 (af gg (aa (ae 4) (aa (bL (aa (ae 6) ah)) ah))))))
    (bS (bL (aa (ae 3) (aa (ae 4) ah)))))
def dU:Fn:=bE 3 7 yR
noncomputable def uQ:MS:=bx (cw 2 (cx 1 (aX (ak cU (ae 1) (ai (.int 0)))) (aA 0) (bc (ak oEq (af aB (aa (ae 1) (aa (ai (.int 2)) ah))) (ai (.int 0)))) (bL (aa (ae 0) (aa (ae 0) ah)))))
    (bS (bL (aa (ak cU (ae 1) (ai (.int 0))) (aa (af dF (aa (af eV (aa (ak fk (af rS (aa (ak cU (ae 1) (ai (.int 1))) ah)) (ae 2)) ah)) ah)) ah))))
def cK:Fn:=bE 2 3 uQ
noncomputable def AD:MS:=bx (cw 2 (af cK (aa (ae 0) (aa (af iu (aa (ae 0) (aa (ae 1) ah))) ah))))
    (bx (cw 3 (ak cU (af bQ ah) (af aB (aa (ae 0) (aa (ai (.int 5)) ah)))))
    (bx (cw 4 (uG (aa (af dU (aa (ae 0) (aa (ae 2) (aa (ai (.int 1)) ah)))) (aa (af dU (aa (ae 0) (aa (ae 2) (aa (ai (.int 3)) ah)))) (aa (af gf (aa (ae 2) (aa (ae 3) ah))) (aa (af fA (aa (ae 2) (aa (ae 3) ah))) ah))))))
    (bx (jE (oB fZ (ae 4) (bL (aa (ak cU (ae 2) (ai (.int 0))) (aa (ak cU (af cK (aa (ae 0) (aa (bL (aa (ak cU (ae 2) (ai (.int 0))) (aa (ai (.tuple [])) ah))) ah))) (ai (.int 1))) ah)))))
    (bS (bL (aa (ae 2) (aa (ak cU (ae 4) (af aB (aa (ae 0) (aa (ai (.int 5)) ah)))) ah)))))))
def AE:Fn:=bE 2 5 AD
def iw:Fn:=gu AE
noncomputable def xj:MS:=bx (cw 4 (bL (aa (ak cU (ae 1) (ai (.int 0))) (aa (af dF (aa (cx 1 (aX (ak cU (af g9 (aa (ae 1) (aa (ae 3) ah))) (ai (.int 1)))) (aA 0) (um (bc (ak nv (ae 0) (ak cU (ae 2) (ai (.int 1))))) (bc (ak oEq (af aB (aa (ae 1) (aa (ai (.int 2)) ah))) (ai (.int 0))))) (ae 0)) ah)) ah))))
    (bx (uH [5,6] (aa (af fz (aa (ae 1) (aa (ae 3) ah))) (aa (af cK (aa (ae 0) (aa (af iu (aa (ae 0) (aa (ai (.int 4)) ah))) ah))) ah)))
    (bx (o8 (um (fO (bz (af bC (aa (ae 4) (aa (ae 1) (aa (ae 3) ah)))))) (bc (ak vm (af bC (aa (ae 4) (aa (ae 2) (aa (ae 3) ah)))) (af bC (aa (ae 1) (aa (ae 2) (aa (ae 3) ah))))))) (bS (ai (.bool false))) cL)
    (bx (o8 (fO (bz (af bC (aa (af bg (aa (ae 4) (aa (ae 6) ah))) (aa (af bg (aa (ae 1) (aa (ae 6) ah))) (aa (ae 3) ah)))))) (bS (ai (.bool false))) cL)
    (bx (o8 (fO (bz (af bC (aa (af bg (aa (ae 5) (aa (ae 6) ah))) (aa (af bg (aa (af g9 (aa (ae 1) (aa (ae 3) ah))) (aa (ae 6) ah))) (aa (ae 3) ah)))))) (bS (ai (.bool false))) cL)
    (bx (o8 (nQ (bz (af bC (aa (ae 1) (aa (ae 2) (aa (ae 3) ah))))) (fO (bz (af bC (aa (af bg (aa (ae 1) (aa (ae 6) ah))) (aa (af bg (aa (ae 2) (aa (ae 6) ah))) (aa (ae 3) ah))))))) (bS (ai (.bool false))) cL)
    (bx (o8 (um (fO (bz (af bC (aa (af bg (aa (ae 4) (aa (ae 1) ah))) (aa (ae 1) (aa (ae 3) ah)))))) (fO (bz (af bC (aa (af bg (aa (ae 4) (aa (ae 5) ah))) (aa (ae 1) (aa (ae 3) ah))))))) (bS (ai (.bool false))) cL)
    (bx (cw 7 (ak cU (af fz (aa (af bg (aa (ae 1) (aa (ae 6) ah))) (aa (ae 3) ah))) (ai (.int 1))))
    (bS (af jo (aa (ae 7) (aa (ak cU (af bg (aa (ae 5) (aa (af fz (aa (ae 6) (aa (ae 3) ah))) ah))) (ai (.int 1))) ah)))))))))))
def et:Fn:=bE 4 8 xj
end Ml
namespace Ml
open PySem PySem.Spec L2
def OQ(x:D)(lo hi:Option Int)(h:Hm):R D:=match x with
 |.scr ns=>.ok (.dat (.list (cut (ns.map PyData.int) lo hi))) h
 |_=>.bad
def Fi(e:ME)(lo hi:IS):ME:=λρ h=>(e ρ h).bind λx h1=>(lo ρ h1).bind λl h2=>(hi ρ h2).bind λu h3=>OQ x l u h3
section
variable {X:Cx} {E:XK} {m:ME} {e:Expr} {pos:Pos}
def M1(G:Gx)(E:XK):V->Option Int->Option Int->Hp->VK->Prop:=λx lo hi H Q=>∃θ h d,W G θ h H/\bR G θ H d x/\aD G (mJ G E) θ H (OQ d lo hi h) (KV G Q)
theorem vH:∀(ns:List Int),bb M (ns.map PyData.int) (ns.map V.int)
 | []=>rfl
 |n::ns=>⟨_,_,rfl,rfl,vH ns⟩
theorem Lc:LL X (M1 X.G E):=by
 intro pins s σ H x v vl vu lo hi sl Q I rx hs pl pu ⟨θ,h,d,w,r,p⟩;unfold OQ at p;split at p
 ·rename_i ns;obtain⟨a,rfl,sq⟩:=r;refine Bn pins s σ H _ v vl vu lo hi sl Q I rx hs pl pu ⟨a,ns.map V.int,rfl,(ax θ H).seq sq,λq hq=>?_⟩;obtain⟨e1,w1,g⟩:=w.put hq;refine p _ _ e1 w1 _ ⟨⟨q,_,rfl,g,(BP (vH ns) lo hi).same e1.same⟩,?_⟩;exact sA (bh.mpr λd m=>by obtain⟨n,_,rfl⟩:=Q4.mp m;rfl) lo hi
 ·trivial
theorem Di(he:DE X E m e)(hl:DO X E ml lo)(hu:DO X E mh hi):DE X E (Fi m ml mh) (.Subscript e (.Slice lo hi none p2) pos):=by
 simp[br,BO]at *
 exact PE.imp (yc Lc he hl hu) λσ H Q ⟨θ,h,ρ,w,fr,p⟩=>⟨θ,h,ρ,w,fr,(aD.bind p).mono λd θ1 h1 H1 _ _ ⟨ev,w1,p1⟩ v r=>
   ⟨θ1,h1,ρ,w1,fr.ev ev,(aD.bind p1).mono λl θ2 h2 H2 _ _ ⟨ev2,w2,p2⟩=>⟨θ2,h2,ρ,w2,(fr.ev ev).ev ev2,(aD.bind p2).mono λu θ3 h3 H3 _ _ ⟨ev3,w3,p3⟩=>⟨θ3,h3,d,w3,(r.ev ev2).ev ev3,p3⟩⟩⟩⟩
end
end Ml
namespace Ml
open PySem
noncomputable def M3:MS:=bx (pC (aX (ak fk (Ep (aa (af ff (aa (ae 0) (aa (ai (.int 0)) ah))) ah)) (Fi (ae 0) (mS (ai (.int 1))) (mS (ai (.int 2)))))) (aA 1) (bx (cw 2 (af iq (aa (ae 1) ah)))
    (pC (aX (ai (.tuple [.int 5,.int 5,.int 3]))) (aA 3) (bx (kN (hX (bM (aA 4) (bM (aA 5) hV))) (af iw (aa (ae 2) (aa (ae 3) ah))))
    (pC (aX (af bQ ah)) (aA 6) (o8 (fO (bz (af et (aa (ae 2) (aa (ae 4) (aa (ae 5) (aa (ae 6) ah))))))) (bS (ai (.bool false))) cL))))))
    (bS (ai (.bool true)))
def B2:Fn:=bE 1 7 M3
end Ml
namespace LP
open PySem
abbrev oG(xs:US):Prop:=xs.toList.Pairwise (· < ·)
theorem qZ(r:oG xs)(hi:i<k)(hk:k<xs.size):xs[i]'(by omega)<xs[k]:=by
 have:=Sz.mp r i k (by simpa using(by omega:i<xs.size)) (by omega) hi
 simp_all
theorem sP(r:oG xs)(j:Nat):∀(fuel lo hi:Nat),lo<=hi->hi<=xs.size->hi-lo<=fuel->(∀i (h:i<xs.size),i<lo->xs[i]<j)->(∀i (h:i<xs.size),hi<=i->j<=xs[i]) ->
  (∀i (h:i<xs.size),i<SetTable.below.go xs j fuel lo hi->xs[i]<j)/\(∀i (h:i<xs.size),SetTable.below.go xs j fuel lo hi<=i->j<=xs[i])/\SetTable.below.go xs j fuel lo hi<=xs.size
 |0,lo,hi,h1,h2,h3,a,b=>by
  grind[SetTable.below.go]
 |fuel+1,lo,hi,h1,h2,h3,a,b=>by
  simp only[SetTable.below.go];split
  ·rename_i hlt;have hm:(lo+hi) / 2<xs.size:=by omega
   simp only[Array.getD,hm,dif_pos];split
   ·rename_i hx;refine sP r j fuel _ hi (by omega) h2 (by omega) (λi h hi'=>?_) b;by_cases e:i=(lo+hi) / 2
    ·subst e;exact hx
    ·have:=qZ r (i:=i) (k:=(lo+hi) / 2) (by omega) hm;have hx':xs[(lo+hi) / 2]<j:=hx;omega
   ·rename_i hx;refine sP r j fuel lo _ (by omega) (by omega) (by omega) a λi h hi'=>?_;have hx':¬ xs[(lo+hi) / 2]<j:=hx;by_cases e:i=(lo+hi) / 2
    ·subst e;omega
    ·have:=qZ r (i:=(lo+hi) / 2) (k:=i) (by omega) h;omega
  grind
theorem iy(r:oG xs)(j:Nat):(∀i (h:i<xs.size),i<SetTable.below xs j->xs[i]<j)/\(∀i (h:i<xs.size),SetTable.below xs j<=i->j<=xs[i])/\SetTable.below xs j<=xs.size:=
 sP r j xs.size 0 xs.size (by omega) (by omega) (by omega) (λ_ _ h=>by omega) λ_ _ h=>by omega
theorem below_at(r:oG xs)(h:xs[i]?=some j):SetTable.below xs j=i:=by
 obtain⟨hi,e⟩:=RC.mp h;obtain⟨a,b,c⟩:=iy r j;by_cases h1:i<SetTable.below xs j
 ·grind
 ·by_cases h2:SetTable.below xs j=i
  ·exact h2
  ·have hb:SetTable.below xs j<xs.size:=by omega
   have:=b _ hb (QE _);have:=qZ r (i:=SetTable.below xs j) (by omega) hi;omega
theorem iz(r:oG xs):j∈xs.toList<->xs[SetTable.below xs j]?=some j:=by
 constructor
 ·intro h;obtain⟨i,hi,e⟩:=SU h;have:xs[i]?=some j:=by rw[<- Rh,QP hi,e]
  rw[below_at r this];grind
 ·intro h;rw[<- Rh]at h;exact QZ h
theorem j8(r:oG xs):SetTable.has xs j=true<->j∈xs.toList:=by unfold SetTable.has;rw[iz r,beq_iff_eq]
theorem mi{t:UU}(r:oG t.place):t.slot j=.live i<->t.place[i]?=some j:=by
 unfold SetTable.slot;constructor
 ·grind
 ·intro h;have e:=below_at r h
  grind
theorem j9{t:UU}(r:oG t.place)(rd:oG t.dummies):t.slot j=.empty<->j∉t.place.toList/\j∉t.dummies.toList:=by
 rw[iz r,<- j8 rd]
 grind[SetTable.slot]
theorem AF{t:UU}(r:oG t.place)(rd:oG t.dummies):t.slot j=.dummy->j∈t.dummies.toList:=by
 rw[<- j8 rd]
 grind[SetTable.slot]
theorem sQ(r:oG xs)(h:j∉xs.toList):oG (SetTable.insertAt xs (SetTable.below xs j) j):=by
 obtain⟨a,b,c⟩:=iy r j;unfold oG;rw[Tx];have r':xs.toList.Pairwise (· < ·):=r;rw[<- Sx (SetTable.below xs j) xs.toList,Sd]at r';obtain⟨r1,r2,r3⟩:=r';rw[Sd];refine⟨r1,Rt.mpr ⟨λx hx=>?_,r2⟩,λx hx y hy=>?_⟩
 ·obtain⟨i,hi,e⟩:=SU hx;simp at hi e;have:=b (SetTable.below xs j+i) (by omega) (by omega);have hne:xs[SetTable.below xs j+i]'(by omega)≠j:=λz=>h (by rw[<- z];simp);omega
 ·have hxj:x<j:=by
   obtain⟨i,hi,e⟩:=SU hx;simp at hi e;have:=a i (by omega) (by omega);omega
  rcases QK.mp hy with rfl|hy
  ·exact hxj
  ·exact r3 x hx y hy
theorem vI(r:oG xs)(p:Nat):oG (SetTable.eraseAt xs p):=by
 unfold oG SetTable.eraseAt;simp;have r':xs.toList.Pairwise _:=r;rw[<- Sx p xs.toList,Sd]at r';rw[Sd];refine⟨r'.1,?_,λx hx y hy=>?_⟩
 ·grind
 ·refine r'.2.2 x hx y ?_;have:=Th hy;rw[<- List.drop_drop]at this;exact List.mem_of_mem_drop this
structure Pc where
 j:Nat
 more:Nat
 i:Nat
 pt:Nat
def pc(p:SetTable.Probe):Pc:=⟨p.j,p.more,p.i,p.perturb⟩
def dJ(mask i pt:Nat):Pc:=⟨i,SetTable.runEnd mask i-i,i,pt⟩
def B3(mask:Nat)(c:Pc):Pc:=dJ mask (SetTable.leap mask c.i c.pt).1 (SetTable.leap mask c.i c.pt).2
def step(mask:Nat)(c:Pc):Pc:=if c.more>0 then⟨c.j+1,c.more-1,c.i,c.pt⟩else B3 mask c
theorem AG(t:UU)(p:SetTable.Probe):pc (t.advance p)=step t.mask (pc p):=by unfold SetTable.advance step pc;split<;>rfl
theorem jq(t:UU)(p:SetTable.Probe):(t.advance p).dummy=p.dummy:=by
 grind[SetTable.advance]
def steps(mask:Nat):Nat->Pc->Pc
 |0,c=>c
 |n+1,c=>steps mask n (step mask c)
theorem mj(mask:Nat):∀(m n:Nat) (c:Pc),steps mask (m+n) c=steps mask n (steps mask m c)
 |0,n,c=>by simp[steps]
 |m+1,n,c=>by rw[show m+1+n=(m+n)+1 by omega];exact mj mask m n _
theorem xk(mask:Nat):∀(k:Nat) (c:Pc),c.more=k->steps mask (k+1) c=B3 mask c
 |0,c,h=>by simp[steps,step,h]
 |k+1,c,h=>by
  have e:step mask c=⟨c.j+1,c.more-1,c.i,c.pt⟩:=by grind[step]
  simp[steps];have:=xk mask k (step mask c) (by simp_all);simp[steps]at this;rw[this,e];rfl
theorem vJ(mask i:Nat):SetTable.runEnd mask i-i<=9:=by grind[SetTable.runEnd]
def fS(mask:Nat):Nat->Pc->Pc
 |0,c=>c
 |n+1,c=>fS mask n (B3 mask c)
theorem qv(mask:Nat):∀(n:Nat) (c:Pc),c.more<=9->∃m,m<=10*n/\steps mask m c=fS mask n c
 |0,c,_=>⟨0,by omega,rfl⟩
 |n+1,c,h=>by obtain⟨m,hm,e⟩:=qv mask n (B3 mask c) (vJ _ _);refine⟨c.more+1+m,by omega,?_⟩;rw[mj,xk mask c.more c rfl,e];rfl
theorem pO(mask:Nat):∀(m n:Nat) (c:Pc),fS mask (m+n) c=fS mask n (fS mask m c)
 |0,n,c=>by simp[fS]
 |m+1,n,c=>by rw[show m+1+n=(m+n)+1 by omega];exact pO mask m n _
theorem yS(mask:Nat):∀(n:Nat) (c:Pc),(fS mask n c).pt=c.pt / 32^n
 |0,c=>by simp[fS]
 |n+1,c=>by simp[fS];rw[yS mask n];show c.pt / 32 / 32^n=_;rw[Nat.div_div_eq_div_mul,Nat.pow_succ,Nat.mul_comm]
def Dj(m:Nat):Nat->Nat->Nat
 |0,i=>i
 |n+1,i=>Dj m n ((i*5+1) % m)
theorem rf(m:Nat):∀(a b i:Nat),Dj m (a+b) i=Dj m b (Dj m a i)
 |0,b,i=>by simp[Dj]
 |a+1,b,i=>by rw[show a+1+b=(a+b)+1 by omega];exact rf m a b _
def cover(m:Nat):Nat->Nat->Nat->Nat
 |0,_,acc=>acc
 |n+1,i,acc=>cover m n ((i*5+1) % m) (acc ||| 1 <<< i)
theorem vK(m:Nat):∀(n i acc e:Nat),(cover m n i acc).testBit e=true->acc.testBit e=true\/∃a,a<n/\Dj m a i=e
 |0,i,acc,e,h=>.inl h
 |n+1,i,acc,e,h=>by
  rcases vK m n _ _ e h with h|⟨a,ha,h⟩
  ·rw[Nat.testBit_or,S8]at h;rcases h with h|h
   ·exact .inl h
   ·refine .inr ⟨0,by omega,?_⟩;rw[Nat.shiftLeft_eq,Nat.one_mul,Nat.testBit_two_pow]at h;simpa [Dj]using h
  ·exact .inr ⟨a+1,by omega,h⟩
def sizeOk(m:Nat):Bool:=cover m m 0 0==2^m-1&&Dj m m 0==0&&decide (8<=m/\m<=1024)&&decide (m % 2=0)
theorem Fj(h:sizeOk m=true)(hi:i<m)(he:e<m):∃n,n<m/\Dj m n i=e:=by
 unfold sizeOk at h;simp only[QG,beq_iff_eq,Rj]at h;obtain⟨⟨⟨h1,h2⟩,h3⟩,_⟩:=h
 have key:∀x,x<m->∃a,a<m/\Dj m a 0=x:=λx hx=>by
  rcases vK m m 0 0 x (by grind)with z|z
  ·grind
  grind
 obtain⟨a,ha,ea⟩:=key i hi;obtain⟨b,hb,eb⟩:=key e he;by_cases hab:a<=b
 ·exact⟨b-a,by omega,by rw[<- ea,<- rf,show a+(b-a)=b by omega,eb]⟩
 ·exact⟨(m-a)+b,by omega,by rw[<- ea,<- rf,show a+((m-a)+b)=m+b by omega,rf,h2,eb]⟩
theorem IZ:sizeOk 8=true/\sizeOk 16=true/\sizeOk 32=true/\sizeOk 64=true/\sizeOk 128=true/\sizeOk 256=true/\sizeOk 512=true/\sizeOk 1024=true:=by decide +kernel
theorem vL:∀(n:Nat) (c:Pc),c.pt=0->(fS mask n c).i=Dj (mask+1) n c.i
 |0,c,_=>rfl
 |n+1,c,h=>by simp[fS,Dj];rw[vL n _ (by show c.pt / 32=0;rw[h])];show Dj _ n (_ % _)=_;rw[h]
theorem HC(mask n:Nat)(c:Pc):(fS mask (n+1) c).j=(fS mask (n+1) c).i:=by rw[pO];rfl
theorem vM(h:sizeOk (mask+1)=true)(hp:c.pt<2^64)(he:e<=mask):∃n,n<=mask+12/\(fS mask (n+1) c).j=e:=by
 have h0:(fS mask 13 c).pt=0:=by
  grind[yS]
 have hi  := by show(fS mask (12+1) c).i<mask+1;exact Ue _ (by omega)
 obtain⟨n,hn,en⟩:=Fj h hi (Nat.lt_succ_of_le he);refine⟨12+n,by omega,?_⟩;rw[show 12+n+1=_+1 from rfl,HC,show 12+n+1=13+n by omega,pO,vL n _ h0,en]
theorem B4(h:Int):SetTable.bits h<2^64:=by
 grind[SetTable.bits]
def c0(mask:Nat)(h:Int):Pc:=dJ mask (SetTable.bits h % (mask+1)) (SetTable.bits h)
def sq(mask:Nat)(h:Int)(n:Nat):Nat:=(steps mask n (c0 mask h)).j
theorem Dk(hs:sizeOk (mask+1)=true)(h:Int)(he:e<=mask):∃n,n<=10*(mask+13)/\sq mask h n=e:=by obtain⟨n,hn,en⟩:=vM hs (c:=c0 mask h) (B4 h) he;obtain⟨m,hm,em⟩:=qv mask (n+1) (c0 mask h) (vJ _ _);exact⟨m,by omega,by simp[sq,em,en]⟩
theorem least{P:Nat->Prop}:∀(N:Nat),P N->∃n,n<=N/\P n/\∀m,m<n->¬ P m:=by
 intro N
 induction N using Nat.strongRecOn with
 |_ N ih=>
  by_cases z:∃m,m<N/\P m
  ·obtain⟨m,hm,pm⟩:=z;obtain⟨n,h1,h2,h3⟩:=ih m hm pm
   grind
  ·grind
theorem AH:∀(n:Nat) (l:List Nat),(∀e,e<n->e∈l)->n<=l.length
 |0,_,_=>RV _
 |n+1,l,h=>by
  have:=AH n (l.erase n) λe he=>(List.mem_erase_of_ne (by omega)).mpr (h e (by omega))
  grind
theorem AI(mask n:Nat)(c:Pc):steps mask (n+1) c=step mask (steps mask n c):=by rw[mj];rfl
structure Tab(es:UH)(t:UU):Prop where
 rp:oG t.place
 rd:oG t.dummies
 sz:t.place.size=es.size
 tf:t.fill*5<t.mask*3
 bp:∀j∈t.place.toList,j<=t.mask
 bd:∀j∈t.dummies.toList,j<=t.mask
 dj:∀j∈t.dummies.toList,j∉t.place.toList
 sm:sizeOk (t.mask+1)=true
 rc:∀(i:Nat) (e:Int×Value) (j:Nat),es[i]?=some e->t.place[i]?=some j->∃n,sq t.mask e.1 n=j/\∀m,m<n->t.slot (sq t.mask e.1 m)≠.empty
theorem Tab.fits(T:Tab es t):t.fits es.size=true:=by have:=T.tf;simp[SetTable.fits];exact⟨T.sz,by omega⟩
theorem Tab.odd(T:Tab es t):t.gaveWay=false:=by
 have h:=T.sm;unfold SetTable.gaveWay;unfold sizeOk at h
 grind
theorem Tab.le(T:Tab es t):t.mask<=1023:=by
 have h:=T.sm
 simp_all[sizeOk]
theorem Tab.free(T:Tab es t)(h:Int):∃N,N<=10*(t.mask+13)/\t.slot (sq t.mask h N)=.empty/\∀m,m<N->t.slot (sq t.mask h m)≠.empty:=by
 have:∃e,e<=t.mask/\t.slot e=.empty:=by
  apply Rv;intro z;have:=AH (t.mask+1) _ λe he=>by apply Rv;intro hn;rw[QN,not_or]at hn;exact z ⟨e,by omega,(j9 T.rp T.rd).mpr hn⟩
  have tf:=T.tf
  grind[SetTable.fill,tf,List.length_append,Array.length_toList]
 obtain⟨e,he,hs⟩:=this;obtain⟨n,hn,en⟩:=Dk T.sm h he;obtain⟨N,h1,h2,h3⟩:=least (P:=λn=>t.slot (sq t.mask h n)=.empty) n (by grind)
 grind
def Dm(t:UU)(h:Int)(n:Nat)(d:Option Nat):Prop:=d=none\/∃m,m<n/\d=some (sq t.mask h m)/\t.slot (sq t.mask h m)=.dummy
theorem Dm.mono(x:Dm t h n d)(hn:n<=n'):Dm t h n' d:=by
 rcases x with x|⟨m,a,b,c⟩
 ·exact .inl x
 ·exact .inr ⟨m,by omega,b,c⟩
theorem rg(hN:t.slot (sq t.mask h N)=.empty)(hne:∀m,m<N->t.slot (sq t.mask h m)≠.empty) :
  ∀(fuel n:Nat) (p:SetTable.Probe),n<=N->N-n<fuel->pc p=steps t.mask n (c0 t.mask h)->Dm t h n p.dummy ->
   (∃d,SetTable.probe.go t hashAt h fuel p=some (.empty (sq t.mask h N) d)/\Dm t h N d/\∀m,n<=m->m<N->∀i,t.slot (sq t.mask h m)=.live i->hashAt i≠h) \/
   (∃k i q,SetTable.probe.go t hashAt h fuel p=some (.candidate (sq t.mask h k) i q)/\n<=k/\k<N/\t.slot (sq t.mask h k)=.live i/\hashAt i=h/\pc q=steps t.mask (k+1) (c0 t.mask h)/\Dm t h (k+1) q.dummy /\
    ∀m,n<=m->m<k->∀i,t.slot (sq t.mask h m)=.live i->hashAt i≠h)
 |0,n,p,h1,h2,h3,h4=>by omega
 |fuel+1,n,p,h1,h2,h3,h4=>by
  have ej:p.j=sq t.mask h n:=by have:=TZ Pc.j h3;exact this
  have nx:∀(p':SetTable.Probe),pc p'=pc p->n<N->pc (t.advance p')=steps t.mask (n+1) (c0 t.mask h):=λp' e _=>by rw[AG,e,h3,AI]
  simp only[SetTable.probe.go];rw[ej];by_cases e:n=N
  ·subst e;rw[hN];exact .inl ⟨p.dummy,rfl,h4,λm a b=>by omega⟩
  ·have hlt:n<N:=by omega
   cases hs:t.slot (sq t.mask h n)with
   |empty=>exact absurd hs (hne n hlt)
   |dummy=>
    dsimp only;rcases rg hN hne fuel (n+1) (t.advance {p with j:=sq t.mask h n,dummy:=some (sq t.mask h n)}) hlt (by omega) (nx _ (by unfold pc;rw[ej]) hlt) (by rw[jq];exact .inr ⟨n,by omega,rfl,hs⟩)with⟨d,a,b,c⟩|⟨k,i,q,a,b,c,d,e',f,g,r⟩
    ·refine .inl ⟨d,a,b,λm h5 h6 i h7=>?_⟩;by_cases z:m=n
     ·subst z;rw[hs]at h7;cases h7
     ·exact c m (by omega) h6 i h7
    ·refine .inr ⟨k,i,q,a,by omega,c,d,e',f,g,λm h5 h6 i h7=>?_⟩;by_cases z:m=n
     ·subst z;rw[hs]at h7;cases h7
     ·exact r m (by omega) h6 i h7
   |live i=>
    dsimp only;by_cases hh:hashAt i=h
    ·rw[if_pos (by simpa using hh)];refine .inr ⟨n,i,t.advance p,rfl,by omega,hlt,hs,hh,nx p rfl hlt,?_,λm a b=>by omega⟩;rw[jq];exact h4.mono (by omega)
    ·rw[if_neg (by simpa using hh)];rcases rg hN hne fuel (n+1) (t.advance p) hlt (by omega) (nx _ rfl hlt) (by rw[jq];exact h4.mono (by omega))with⟨d,a,b,c⟩|⟨k,i',q,a,b,c,d,e',f,g,r⟩
     ·refine .inl ⟨d,a,b,λm h5 h6 i' h7=>?_⟩;by_cases z:m=n
      ·subst z;rw[hs]at h7;cases h7;exact hh
      ·exact c m (by omega) h6 i' h7
     ·refine .inr ⟨k,i',q,a,by omega,c,d,e',f,g,λm h5 h6 i' h7=>?_⟩;by_cases z:m=n
      ·subst z;rw[hs]at h7;cases h7;exact hh
      ·exact r m (by omega) h6 i' h7
theorem vN(r:oG xs)(hj:j∈xs.toList):x∈(SetTable.eraseAt xs (SetTable.below xs j)).toList<->x∈xs.toList/\x≠j:=by
 have hb:=(iz r).mp hj;obtain⟨hl,e⟩:=RC.mp hb;have sp:xs.toList=xs.toList.take (SetTable.below xs j)++j::xs.toList.drop (SetTable.below xs j+1):=by have e1:=(Sx (SetTable.below xs j) xs.toList).symm;rw[RF (by simpa using hl)]at e1;rw[Array.getElem_toList,e]at e1;exact e1
 have se:(SetTable.eraseAt xs (SetTable.below xs j)).toList=xs.toList.take (SetTable.below xs j)++xs.toList.drop (SetTable.below xs j+1):=by unfold SetTable.eraseAt;simp only[Array.toList_append,Array.toList_extract,List.extract_eq_take_drop,List.drop_zero,Nat.sub_zero];congr 1;rw[List.take_of_length_le];simp
 have nd:xs.toList.Nodup:=List.Pairwise.imp (λh=>QQ h) r;rw[sp]at nd;rw[se];have nd2:=(Td.mp nd);have nd3:=R3.mp nd2.2.1;constructor
 ·intro h;refine⟨by rw[sp];rcases QN.mp h with h|h;exact Q9 _ h;exact QD _ (QL _ h),λz=>?_⟩;subst z;rcases QN.mp h with h|h
  ·exact nd2.2.2 x h x (QS ..) rfl
  ·exact nd3.1 h
 grind
theorem sR{p:Nat}(hp:p<xs.size):(SetTable.eraseAt xs p).size=xs.size-1:=by
 grind[SetTable.eraseAt]
theorem iW:(SetTable.insertAt xs p x).size=xs.size+1:=by
 have:=(SetTable.insertAt_perm xs p x).length_eq
 grind
theorem sS:y∈(SetTable.insertAt xs p x).toList<->y=x\/y∈xs.toList:=by rw[(SetTable.insertAt_perm xs p x).mem_iff];simp[or_comm]
theorem sT{x:α}(hp:p<=xs.size)(i:Nat):(SetTable.insertAt xs p x)[i]?=if i<p then xs[i]? else if i=p then some x else xs[i-1]?:=by
 rw[<- Rh,Tx]
 grind
theorem vO(T:Tab es t)(hs:∀i,t.slot s≠.live i)(x:Nat)(h:(t.put s).1.slot x=.empty):t.slot x=.empty:=by
 have hp:s∉t.place.toList:=λz=>by have:=(iz T.rp).mp z;exact hs _ ((mi T.rp).mpr this)
 have rp':oG (t.put s).1.place:=sQ T.rp hp
 have rd':oG (t.put s).1.dummies:=by
  show oG (if SetTable.has t.dummies s=true then _ else _);split
  ·exact vI T.rd _
  ·exact T.rd
 rw[j9 rp' rd']at h;rw[j9 T.rp T.rd];obtain⟨h1,h2⟩:=h
 have h1':x≠s/\x∉t.place.toList:=by
  have:x∉(SetTable.insertAt t.place (SetTable.below t.place s) s).toList:=h1;rw[sS,not_or]at this
  grind
 refine⟨h1'.2,λz=>h2 ?_⟩;show x∈(if SetTable.has t.dummies s=true then _ else _:US).toList;split
 ·rename_i hd;exact(vN T.rd ((j8 T.rd).mp hd)).mpr ⟨z,h1'.1⟩
 grind
structure uR(es:UH)(t:UU):Prop where
 rp:oG t.place
 rd:oG t.dummies
 sz:t.place.size=es.size
 fl:t.fill<=t.mask
 bp:∀j∈t.place.toList,j<=t.mask
 bd:∀j∈t.dummies.toList,j<=t.mask
 dj:∀j∈t.dummies.toList,j∉t.place.toList
 sm:sizeOk (t.mask+1)=true
 rc:∀(i:Nat) (e:Int×Value) (j:Nat),es[i]?=some e->t.place[i]?=some j->∃n,sq t.mask e.1 n=j/\∀m,m<n->t.slot (sq t.mask e.1 m)≠.empty
theorem uR.fits(T:uR es t):t.fits es.size=true:=by simp[SetTable.fits];exact⟨T.sz,T.fl⟩
theorem uR.tab(T:uR es t)(h:t.fill*5<t.mask*3):Tab es t:=⟨T.rp,T.rd,T.sz,h,T.bp,T.bd,T.dj,T.sm,T.rc⟩
theorem uR.flags(T:uR es t)(h1:t'.mask=t.mask)(h2:t'.place=t.place)(h3:t'.dummies=t.dummies):uR es t':=by obtain⟨a',b',c',d',e',f',l'⟩:=t';subst h1 h2 h3;exact⟨T.rp,T.rd,T.sz,T.fl,T.bp,T.bd,T.dj,T.sm,T.rc⟩
theorem Tab.Ld(T:Tab es t):uR es t:=⟨T.rp,T.rd,T.sz,by have:=T.tf;omega,T.bp,T.bd,T.dj,T.sm,T.rc⟩
theorem HD(T:Tab es t)(hs:∀i,t.slot s≠.live i)(hm:s<=t.mask)(hn:sq t.mask h n=s)(hp:∀m,m<n->t.slot (sq t.mask h m)≠.empty) :
  uR (SetTable.insertAt es (t.put s).2 (h,x)) (t.put s).1/\(t.slot s=.dummy->(t.put s).1.fill=t.fill):=by
 have nip:s∉t.place.toList:=λz=>by have:=(iz T.rp).mp z;exact hs _ ((mi T.rp).mpr this)
 have rp':oG (t.put s).1.place:=sQ T.rp nip
 have rd':oG (t.put s).1.dummies:=by
  show oG (if SetTable.has t.dummies s=true then _ else _);split
  ·exact vI T.rd _
  ·exact T.rd
 have mp:∀y,y∈(t.put s).1.place.toList<->y=s\/y∈t.place.toList:=λy=>sS
 have md:∀y,y∈(t.put s).1.dummies.toList->y∈t.dummies.toList/\y≠s:=λy hy=>by
  have hy:y∈(if SetTable.has t.dummies s=true then SetTable.eraseAt t.dummies (SetTable.below t.dummies s)else t.dummies).toList:=hy;split at hy
  ·rename_i hd;exact(vN T.rd ((j8 T.rd).mp hd)).mp hy
  ·rename_i hd;exact⟨hy,λz=>hd ((j8 T.rd).mpr (z▸hy))⟩
 have ple:SetTable.below t.place s<=t.place.size:=(iy T.rp s).2.2;have psz:(t.put s).1.place.size=t.place.size+1:=iW;have tf:=T.tf;unfold SetTable.fill at tf;have hmask:7<=t.mask:=by have h:=T.sm;unfold sizeOk at h;simp only[QG,beq_iff_eq,Rj]at h;omega
 have dsz:(t.put s).1.dummies.size<=t.dummies.size:=by
  show(if SetTable.has t.dummies s=true then SetTable.eraseAt t.dummies (SetTable.below t.dummies s)else t.dummies).size<=_;split
  ·rename_i hd;have hb:=(iz T.rd).mp ((j8 T.rd).mp hd);rw[sR (RC.mp hb).1];omega
  ·exact QE _
 refine⟨⟨rp',rd',?_,?_,λj hj=>?_,λj hj=>T.bd j (md j hj).1,λj hj hj'=>?_,T.sm,λi e j hi hj=>?_⟩,λhd=>?_⟩
 ·rw[psz,iW,T.sz]
 ·unfold SetTable.fill;rw[psz];show t.place.size+1+(t.put s).1.dummies.size<=t.mask;omega
 ·rcases(mp j).mp hj with rfl|hj
  ·exact hm
  ·exact T.bp j hj
 ·obtain⟨d1,d2⟩:=md j hj;rcases(mp j).mp hj' with z|z
  ·exact d2 z
  ·exact T.dj j d1 z
 ·have hj':(SetTable.insertAt t.place (SetTable.below t.place s) s)[i]?=some j:=hj;have hi':(SetTable.insertAt es (SetTable.below t.place s) (h,x))[i]?=some e:=hi;rw[sT ple]at hj';rw[sT (by rw[<- T.sz];exact ple)]at hi';have old:∀i',es[i']?=some e->t.place[i']?=some j->∃n,sq t.mask e.1 n=j/\∀m,m<n->(t.put s).1.slot (sq t.mask e.1 m)≠.empty:=λi' a b=>by obtain⟨n',n1,n2⟩:=T.rc i' e j a b;exact⟨n',n1,λm hm' z=>n2 m hm' (vO T hs _ z)⟩
  show ∃n,sq t.mask e.1 n=j/\∀m,m<n->(t.put s).1.slot (sq t.mask e.1 m)≠.empty;by_cases h1:i<SetTable.below t.place s
  ·rw[if_pos h1]at hi' hj';exact old i hi' hj'
  ·rw[if_neg h1]at hi' hj';by_cases h2:i=SetTable.below t.place s
   ·rw[if_pos h2]at hi' hj';cases hi';cases hj';exact⟨n,hn,λm hm' z=>hp m hm' (vO T hs _ z)⟩
   ·rw[if_neg h2]at hi' hj';exact old _ hi' hj'
 ·have hd':=AF T.rp T.rd hd;have hh:=(j8 T.rd).mpr hd';unfold SetTable.fill;rw[psz];have:(t.put s).1.dummies.size=t.dummies.size-1:=by show(if SetTable.has t.dummies s=true then SetTable.eraseAt t.dummies (SetTable.below t.dummies s)else t.dummies).size=_;rw[if_pos hh];exact sR (RC.mp ((iz T.rd).mp hd')).1
  rw[this];have:0<t.dummies.size:=by have:=List.length_pos_of_mem hd';simpa using this
  omega
def yT(owner:Array (Option Nat))(j:Nat):Prop:=(owner.getD j (some 0)).isNone=false
theorem pP(mask:Nat):∀(k:Nat) (c:Pc),k<=c.more->steps mask k c=⟨c.j+k,c.more-k,c.i,c.pt⟩
 |0,c,_=>by rfl
 |k+1,c,h=>by
  have e:step mask c=⟨c.j+1,c.more-1,c.i,c.pt⟩:=by grind[step]
  simp[steps];rw[e,pP mask k _ (by grind)]
  grind
theorem vP:∀(fuel i pt:Nat),(∃n,n<fuel/\¬ yT owner (fS mask n (dJ mask i pt)).j) ->
  ∃n,SetTable.layClean.free mask owner fuel i pt=some (steps mask n (dJ mask i pt)).j/\¬ yT owner (steps mask n (dJ mask i pt)).j/\∀m,m<n->yT owner (steps mask m (dJ mask i pt)).j
 |0,i,pt,⟨n,hn,_⟩=>by omega
 |fuel+1,i,pt,⟨n,hn,hf⟩=>by
  have hre:SetTable.runEnd mask i+1-i=(dJ mask i pt).more+1:=by
   show _=SetTable.runEnd mask i-i+1
   grind[SetTable.runEnd]
  simp only[SetTable.layClean.free];rw[hre]
  cases hfi:(List.range ((dJ mask i pt).more+1)).find? λk=>(owner.getD (i+k) (some 0)).isNone with
  |some k=>
   dsimp only;obtain⟨h1,h2,h3⟩:=List.find?_range_eq_some.mp hfi;have hk:k<=(dJ mask i pt).more:=by have:=RA.mp h2;omega
   have es:∀m,m<=k->(steps mask m (dJ mask i pt)).j=i+m:=λm hm=>by rw[pP mask m _ (by omega)];rfl
   refine⟨k,by rw[es k (QE _)],?_,λm hm=>?_⟩
   ·rw[es k (QE _)];unfold yT;rw[h1];simp
   ·rw[es m (by omega)];have:=h3 m hm;simpa [yT]using this
  |none=>
   dsimp only;have h1:=List.find?_range_eq_none.mp hfi;have occ:∀m,m<(dJ mask i pt).more+1->yT owner (steps mask m (dJ mask i pt)).j:=λm hm=>by rw[pP mask m _ (by omega)];have:=h1 m hm;show yT owner (i+m);simpa [yT]using this
   have hn0:n≠0:=λz=>by subst z;have:=occ 0 (by omega);exact hf this
   obtain⟨n',rfl⟩:∃n',n=n'+1:=⟨n-1,by omega⟩;have tl:=xk mask (dJ mask i pt).more (dJ mask i pt) rfl;obtain⟨q,q1,q2,q3⟩:=vP (mask:=mask) (owner:=owner) fuel (SetTable.leap mask i pt).1 (SetTable.leap mask i pt).2 ⟨n',by omega,hf⟩;have es:∀m,steps mask ((dJ mask i pt).more+1+m) (dJ mask i pt)=steps mask m (dJ mask (SetTable.leap mask i pt).1 (SetTable.leap mask i pt).2):=λm=>by rw[mj,tl];rfl
   refine⟨(dJ mask i pt).more+1+q,by rw[es];exact q1,by rw[es];exact q2,λm hm=>?_⟩;by_cases hmm:m<(dJ mask i pt).more+1
   ·exact occ m hmm
   ·have:=q3 (m-((dJ mask i pt).more+1)) (by omega);rw[<- es]at this;rw[show m=(dJ mask i pt).more+1+(m-((dJ mask i pt).more+1))by omega];exact this
def cA(mask:Nat)(owner:Array (Option Nat)):List (Nat×Nat):=(List.range (mask+1)).filterMap λj=>(owner.getD j none).map (j,·)
theorem yU{α β:Type}{f g:α->Option β}:∀{l:List α},(∀x∈l,g x=f x)->l.filterMap g=l.filterMap f
 | [],_=>rfl
 |a::l,h=>by have ih:=yU λx hx=>h x (QL _ hx);rw[List.filterMap_cons,List.filterMap_cons,h a (QS ..),ih]
theorem Fo{α β:Type}{f g:α->Option β}{j:α}{v:β}(hf:f j=none)(hg:g j=some v):∀{l:List α},l.Nodup->j∈l->(∀x∈l,x≠j->f x=g x)->List.Perm (l.filterMap g) (v::l.filterMap f)
 | [],_,h,_=>by grind
 |a::l,nd,h,e=>by
  obtain⟨n1,n2⟩:=R3.mp nd;by_cases z:a=j
  ·subst z;rw[SM hg,List.filterMap_cons_none hf];have:l.filterMap g=l.filterMap f:=yU λx hx=>(e x (QL _ hx) (λq=>n1 (q▸hx))).symm;rw[this]
  ·have hj:j∈l:=by
    grind
   have ih:=Fo hf hg n2 hj λx hx=>e x (QL _ hx);have ea:=e a (QS ..) z
   cases hfa:f a with
   |none=>simp_all
   |some b=>rw[SM (by rw[<- ea];exact hfa),SM hfa];exact(ih.cons b).trans (.swap _ _ _)
structure Own(mask:Nat)(hs:List Int)(js:List Nat)(owner:Array (Option Nat)):Prop where
 sz:owner.size=mask+1
 ln:js.length=hs.length
 lv:List.Perm (cA mask owner) (js.zip (List.range hs.length))
 rc:∀(k:Nat) (h:Int) (j:Nat),hs[k]?=some h->js[k]?=some j->∃n,sq mask h n=j/\∀m,m<n->yT owner (sq mask h m)
noncomputable def HE(mask:Nat)(acc:Option (Array (Option Nat)×Nat))(h:Int):Option (Array (Option Nat)×Nat):=do
    let (owner,k) <- acc
    let j <- SetTable.layClean.free mask owner (SetTable.turns mask) (SetTable.bits h % (mask+1)) (SetTable.bits h)
    pure (owner.setIfInBounds j (some k),k+1)
theorem Fp(hm:sizeOk (mask+1)=true)(O:Own mask hs js owner)(hl:hs.length<=mask)(h:Int) :
  ∃j owner',HE mask (some (owner,hs.length)) h=some (owner',hs.length+1)/\Own mask (hs++[h]) (js++[j]) owner':=by
 have occ_iff:∀j,yT owner j<->owner[j]?≠some none:=λj=>by
  unfold yT;rw[Rz]
  cases owner[j]? with
  |none=>simp
  |some o=>cases o<;>simp
 have hfree:∃e,e<=mask/\¬ yT owner e:=by
  apply Rv;intro z
  have hp:=AH (mask+1) ((cA mask owner).map (·.1)) λe he=>by
   have ho:yT owner e:=Rv λq=>z ⟨e,by omega,q⟩;rw[occ_iff]at ho;have hlt:e<owner.size:=by rw[O.sz];exact he
   rw[Q3 hlt]at ho
   cases hv:owner[e]with
   |none=>rw[hv]at ho;exact absurd rfl ho
   |some k=>refine Q4.mpr ⟨(e,k),SY.mpr ⟨e,RA.mpr he,?_⟩,rfl⟩;simp[Array.getD,hlt,hv]
  rw[QR,O.lv.length_eq,List.length_zip,O.ln]at hp;simp at hp;omega
 obtain⟨e,he,hne⟩:=hfree;obtain⟨n,hn,en⟩:=vM hm (c:=c0 mask h) (B4 h) he
 obtain⟨q,q1,q2,q3⟩:=vP (mask:=mask) (owner:=owner) (SetTable.turns mask) (SetTable.bits h % (mask+1)) (SetTable.bits h) ⟨n+1,by unfold SetTable.turns;omega,by
  have:(fS mask (n+1) (dJ mask (SetTable.bits h % (mask+1)) (SetTable.bits h))).j=e:=en
  rw[this];exact hne⟩
 generalize hj:(steps mask q (dJ mask (SetTable.bits h % (mask+1)) (SetTable.bits h))).j=j at q1 q2;have hjn:owner[j]?=some none:=Rv λz=>q2 ((occ_iff j).mpr z);have hjl:j<owner.size:=(RC.mp hjn).1
 have get':∀x,(owner.setIfInBounds j (some hs.length))[x]?=if x=j then some (some hs.length)else owner[x]?:=λx=>by
  rw[Array.getElem?_setIfInBounds];by_cases z:j=x
  ·subst z;simp[hjl]
  ·rw[if_neg z,if_neg (λq=>z q.symm)]
 have occ':∀x,yT owner x->yT (owner.setIfInBounds j (some hs.length)) x:=λx hx=>by
  unfold yT at hx ⊢;rw[Rz]at hx ⊢;rw[get'];by_cases z:x=j
  ·rw[if_pos z];rfl
  ·rw[if_neg z];exact hx
 refine⟨j,owner.setIfInBounds j (some hs.length),?_,⟨by simp[O.sz],by simp[O.ln],?_,λk h' j' a b=>?_⟩⟩
 ·unfold HE;simp only[Option.bind_eq_bind,Option.bind_some];rw[q1];rfl
 ·have hp:List.Perm (cA mask (owner.setIfInBounds j (some hs.length))) ((j,hs.length)::cA mask owner):=by
   refine Fo (j:=j) ?_ ?_ List.nodup_range (RA.mpr (by rw[<- O.sz];exact hjl)) λx _ hx=>?_
   ·rw[Rz,hjn];rfl
   ·rw[Rz,get',if_pos rfl];rfl
   ·rw[Rz,Rz,get',if_neg hx]
  refine hp.trans ((O.lv.cons _).trans ?_);rw[QW,List.length_singleton,List.range_succ,List.zip_append (by simp[O.ln])];exact(List.perm_append_singleton _ _).symm
 ·by_cases z:k<hs.length
  ·rw[Q8 z]at a;rw[Q8 (by rw[O.ln];exact z)]at b;obtain⟨n',n1,n2⟩:=O.rc k h' j' a b;exact⟨n',n1,λm hm'=>occ' _ (n2 m hm')⟩
  ·have hk:k=hs.length:=by
    have:=(QV.mp a).1;simp at this;omega
   subst hk;rw[Rk (QE _)]at a;rw[<- O.ln,Rk (QE _)]at b;simp at a b;subst a;subst b;exact⟨q,hj,λm hm'=>occ' _ (q3 m hm')⟩
theorem B5(hm:sizeOk (mask+1)=true):∀(hs2 hs:List Int) (js:List Nat) (owner:Array (Option Nat)),Own mask hs js owner->(hs++hs2).length<=mask+1 ->
  ∃js' owner',hs2.foldl (HE mask) (some (owner,hs.length))=some (owner',(hs++hs2).length)/\Own mask (hs++hs2) js' owner'
 | [],hs,js,owner,O,_=>⟨js,owner,by simp,by grind⟩
 |h::hs2,hs,js,owner,O,hl=>by
  obtain⟨j,owner',e,O'⟩:=Fp hm O (by grind) h;obtain⟨js',owner2,e2,O2⟩:=B5 hm hs2 _ _ _ O' (by grind);refine⟨js',owner2,?_,by simp_all⟩
  simp_all
theorem yV(mask:Nat)(hashes:Array Int):SetTable.layClean mask hashes=(hashes.toList.foldl (HE mask) (some (Array.replicate (mask+1) none,0))).map (·.1):=by unfold SetTable.layClean;rw[<- Array.foldl_toList];rfl
theorem HF(mask:Nat):Own mask [] [] (Array.replicate (mask+1) none):=by
 refine⟨by simp,rfl,?_,λk h j a=>by simp⟩
 simp_all[cA]
theorem AJ{α:Type}{es:Array α}:∀{l:List (Nat×Nat)},(∀p∈l,p.2<es.size)->((l.map (·.2)).filterMap (λk=>es[k]?)).length=l.length/\∀(i:Nat) (p:Nat×Nat),l[i]?=some p->((l.map (·.2)).filterMap (λk=>es[k]?))[i]?=es[p.2]?
 | [],_=>⟨rfl,λi p h=>by grind⟩
 |a::l,h=>by
  obtain⟨h1,h2⟩:=AJ (l:=l) λp hp=>h p (QL _ hp);have ha:=h a (QS ..);rw[Q6,SM (Q3 ha)];refine⟨by grind,λi p hi=>?_⟩
  cases i with
  |zero=>simp_all
  |succ i=>simpa using h2 i p (by simpa using hi)
theorem B6{es:UH}(hm:sizeOk (mask+1)=true)(hn:es.size*5<mask*3)(finger moves:Nat)(led plain:Bool) :
  ∃t' order,SetTable.laid mask finger moves led plain (es.map (·.1))=some (t',order)/\Tab (order.filterMap (es[·]?)) t'/\List.Perm (order.filterMap (es[·]?)).toList es.toList/\t'.mask=mask/\t'.led=led/\List.Perm order.toList (List.range es.size):=by
 obtain⟨js,owner,e,O⟩:=B5 hm (es.map (·.1)).toList [] [] _ (HF mask) (by grind);simp only[Sk,RE]at e O;have hlen:(es.map (·.1)).toList.length=es.size:=by simp
 have hsnd:List.Perm ((cA mask owner).map (·.2)) (List.range es.size):=by have:=O.lv.map (·.2);rw[hlen]at this;refine this.trans ?_;rw[List.map_snd_zip (by rw[O.ln,hlen];simp)]
 have hbelow:∀p∈cA mask owner,p.2<es.size:=λp hp=>by have:=hsnd.mem_iff.mp (Q4.mpr ⟨p,hp,rfl⟩);exact RA.mp this
 obtain⟨g1,g2⟩:=AJ (es:=es) hbelow;have hfst:((cA mask owner).map (·.1)).Pairwise (· < ·):=by rw[Te];unfold cA;rw[List.pairwise_filterMap];refine List.Pairwise.imp ?_ List.pairwise_lt_range;intro a b hab x hx y hy;rw[RH]at hx hy;obtain⟨_,_,rfl⟩:=hx;obtain⟨_,_,rfl⟩:=hy;exact hab
 have hmem:∀p∈cA mask owner,p.1<=mask/\owner.getD p.1 none=some p.2:=λp hp=>by obtain⟨j,hj,ej⟩:=SY.mp hp;rw[RH]at ej;obtain⟨k,hk,rfl⟩:=ej;exact⟨by have:=RA.mp hj;omega,hk⟩
 refine⟨{mask,place:=((cA mask owner).map (·.1)).toArray,dummies:=#[],finger,led,moves,plain},((cA mask owner).map (·.2)).toArray,?_,?_,?_,rfl,rfl,by simpa using hsnd⟩
 ·unfold SetTable.laid;rw[yV,e];rfl
 ·have efm:((((cA mask owner).map (·.2)).toArray.filterMap (es[·]?)):Array _)=(((cA mask owner).map (·.2)).filterMap (λk=>es[k]?)).toArray:=by simp
  have llen:(cA mask owner).length=es.size:=by have:=hsnd.length_eq;simpa using this
  refine⟨hfst,List.Pairwise.nil,?_,?_,λj hj=>?_,λj hj=>by simp at hj,λj hj=>by simp at hj,hm,λi e' j h1 h2=>?_⟩
  ·rw[efm,Q1,Q1,g1,QR]
  ·show(((cA mask owner).map (·.1)).toArray.size+0)*5<mask*3;simp only[Q1,QR,llen,Nat.add_zero];exact hn
  ·obtain⟨p,hp,rfl⟩:=Q4.mp (by simpa using hj:j∈(cA mask owner).map (·.1));exact(hmem p hp).1
  ·rw[efm]at h1;have h2':((cA mask owner).map (·.1))[i]?=some j:=by simpa using h2
   rw[RP,RH]at h2';obtain⟨p,hp,rfl⟩:=h2';have h1':(((cA mask owner).map (·.2)).filterMap (λk=>es[k]?))[i]?=some e':=by simpa using h1
   rw[g2 i p hp]at h1';have pm:=QZ hp;have pz:=O.lv.mem_iff.mp pm;rw[hlen]at pz;obtain⟨k,hk,ek⟩:=SU pz;rw[List.getElem_zip]at ek;simp only[List.getElem_range]at ek;have ek1:js[k]?=some p.1:=by rw[<- TZ Prod.fst ek];exact QP _
   have ek2:p.2=k:=(TZ Prod.snd ek).symm;obtain⟨n,n1,n2⟩:=O.rc k e'.1 p.1 (by simp only[Array.toList_map,RP,Rh];rw[<- ek2,h1'];rfl) ek1;refine⟨n,n1,λm hm' z=>?_⟩;have oc:=n2 m hm';have z':SetTable.slot {mask,place:=((cA mask owner).map (·.1)).toArray,dummies:=#[],finger,led,moves,plain} (sq mask e'.1 m)=.empty:=z;rw[j9 (t:={mask,place:=((cA mask owner).map (·.1)).toArray,dummies:=#[],finger,led,moves,plain}) hfst List.Pairwise.nil]at z';by_cases hin:sq mask e'.1 m<owner.size
   ·unfold yT at oc;rw[Rz,Q3 hin]at oc;simp only[Ua]at oc
    cases hv:owner[sq mask e'.1 m]with
    |none=>rw[hv]at oc;simp at oc
    |some k'=>refine z'.1 ?_;have:sq mask e'.1 m∈(cA mask owner).map (·.1):=Q4.mpr ⟨(sq mask e'.1 m,k'),SY.mpr ⟨_,RA.mpr (by rw[<- O.sz];exact hin),by simp[Array.getD,hin,hv]⟩,rfl⟩;simpa using this
   ·exfalso
    have bound:∀q (c:Pc),c.j+c.more<=mask->(steps mask q c).j+(steps mask q c).more<=mask:=by
     intro q
     induction q with
     |zero=>intro c hc;exact hc
     |succ q ih=>
      intro c hc;simp only[steps];refine ih _ ?_;unfold step;split
      ·show c.j+1+(c.more-1)<=mask;omega
      ·show(SetTable.leap mask c.i c.pt).1+(SetTable.runEnd mask (SetTable.leap mask c.i c.pt).1-(SetTable.leap mask c.i c.pt).1)<=mask;have:(SetTable.leap mask c.i c.pt).1<mask+1:=Ue _ (by omega);unfold SetTable.runEnd;split<;>omega
    have hb:=bound m (c0 mask e'.1) (by
     show SetTable.bits e'.1 % (mask+1)+(SetTable.runEnd mask (SetTable.bits e'.1 % (mask+1))-SetTable.bits e'.1 % (mask+1))<=mask;have:SetTable.bits e'.1 % (mask+1)<mask+1:=Ue _ (by omega);unfold SetTable.runEnd
     split<;>omega)
    have:sq mask e'.1 m<=mask:=by unfold sq;omega
    rw[O.sz]at hin;omega
 grind[Array.toList_filterMap,filterMap_getElem?_range]
theorem ka:∀n,n<1024->(n<SetTable.sizeAbove n/\SetTable.sizeAbove n∈[8,16,32,64,128,256,512,1024]):=by trivial
theorem Dn(h:m∈[8,16,32,64,128,256,512,1024]):sizeOk m=true:=by
 obtain⟨a,b,c,d,e,f,g,i⟩:=IZ;simp at h
 grind
theorem Dq{es:UH}{t:UU}(hw:wanted<1024)(hn:es.size*5<wanted*3\/es.size<=4) :
  ∃t' order,t.relaid (es.map (·.1)) wanted=some (t',order)/\Tab (order.filterMap (es[·]?)) t'/\List.Perm (order.filterMap (es[·]?)).toList es.toList/\t'.led=t.led/\List.Perm order.toList (List.range es.size)/\t'.mask+1=SetTable.sizeAbove wanted/\SetTable.sizeAbove wanted<=1024:=by
 obtain⟨h1,h2⟩:=ka wanted hw;have h8:8<=SetTable.sizeAbove wanted:=by simp[QK,Ra,Su]at h2;omega
 have e:SetTable.sizeAbove wanted-1+1=SetTable.sizeAbove wanted:=by omega
 obtain⟨t',order,a,b,c,d,f,g⟩:=B6 (es:=es) (by rw[e];exact Dn h2) (by omega) t.finger (t.movedTo (SetTable.sizeAbove wanted-1)) t.led t.plain;exact⟨t',order,a,b,c,f,g,by omega,by simp only[QK,Ra,Su]at h2;omega⟩
end LP
namespace LP
open PySem PySem.Spec L2 Ml
structure El(vp:Value->Prop)(w:World)(h:Heap)(md:Bool)(e:Int×Value)(d:PyData):Prop where
 tr:aG d=true
 dp:d.depth<=8
 so:cX d=true
 hs:e.1=qg w d
 kd:gE d=md
 rd:∃as,Reads h e.2 d as
 vl:vp e.2
abbrev bu(es:UH)(ep:Nat)(t:UU):Obj:={cls:=.type "set",dict:=none,data:=.set es ep t,slots:=#[]}
abbrev cB(w:World):Bool:=w.params.followText "set-order"
structure cy(vp:Value->Prop)(w:World)(h:Heap)(a:Addr)(md:Bool)(ds:UJ)(es:UH)(ep:Nat)(t:UU):Prop where
 ob:h.get? a=some (bu es ep t)
 tb:Tab es t
 ld:t.led=true\/cB w=true
 nd:ds.Nodup
 ln:ds.length<=120
 el:Paired (El vp w h md) es.toList ds
def bX(vp:Value->Prop)(w:World)(h:Heap)(a:Addr)(md:Bool)(ds:UJ):Prop:=∃es ep t,cy vp w h a md ds es ep t
theorem El.keep(x:El vp w h md e d)(k:∀b o vs n,h.get? b=some o->o.cls=.type "tuple" -> o.data=.seq vs n->h'.get? b=some o):El vp w h' md e d:=
 ⟨x.tr,x.dp,x.so,x.hs,x.kd,let ⟨as,r⟩:=x.rd;⟨as,jF k x.tr r⟩,x.vl⟩
theorem cy.size(S:cy vp w h a md ds es ep t):es.size=ds.length:=by
 have:=Q0 S.el
 grind
theorem fc{R:α->β->Prop}:∀{xs:List α} {ys:List β},Paired R xs ys->∀{i:Nat} {x:α},xs[i]?=some x->∃y,ys[i]?=some y/\R x y
 |_,_,.nil,i,x,h=>by simp at h
 |_,_,.cons r _,0,x,h=>by grind
 |_,_,.cons _ t,i+1,x,h=>by simpa using fc t (by simp_all)
theorem iX{R:α->β->Prop}:∀{xs:List α} {ys:List β},Paired R xs ys->∀{i:Nat} {y:β},ys[i]?=some y->∃x,xs[i]?=some x/\R x y
 |_,_,.nil,i,x,h=>by simp at h
 |_,_,.cons r _,0,x,h=>by grind
 |_,_,.cons _ t,i+1,x,h=>by simpa using iX t (by simp_all)
theorem cy.get(S:cy vp w h a md ds es ep t){i:Nat}{e:Int×Value}(he:es[i]?=some e):∃d,ds[i]?=some d/\El vp w h md e d:=by rw[<- Rh]at he;exact fc S.el he
section
variable {P:UT} {w:World} {A:UW} {E:UD} {s:UX} {vp:Value->Prop}
theorem M4(x:El vp w s.heap md e d)(y:El vp w s.heap md' e' d')(hu:A.units+20<cLine)(h:Q (decide (d=d')) s):wpAny (model P w) A (eqBool e.2 e'.2) Q E s:=by
 obtain⟨as,r1⟩:=x.rd;obtain⟨bs,r2⟩:=y.rd
 have hq:PyData.eqv d d'=decide (d=d'):=by
  by_cases z:d=d'
  ·subst z;rw[Rg rfl];exact aU (aV x.tr)
  ·rw[Rm z];exact aS (aV x.tr) (aV y.tr) z
 have:=Ub d d' A s _ _ _ _ r1 r2 (jk x.so (cW (aV x.tr))) (jk y.so (cW (aV y.tr))) (by have:=x.dp;omega) P w E Q
 grind
mutual
theorem kU:∀(d:PyData) (n:Nat) (A:UW) (s:UX) (v:Value) (as:UK) (Q:Bool->UX->Prop) (E:UD),aG d=true->d.depth<=n->Reads s.heap v d as->Q false s->wpAny (model P w) A (ofAClassStatement n v) Q E s
 |.str x,n,A,s,v,as,Q,E,_,_,r,h=>by cases r;unfold ofAClassStatement;exact QB h
 |.tuple ds,n,A,s,v,as,Q,E,t,hn,r,h=>by
  cases r with
  |tuple ho hc hd hi=>
   rename_i a o items k;have hT:s.TypeIs (.ref a) "tuple" := ⟨o,ho,hc⟩;simp only[aG]at t;simp only[PyData.depth]at hn;obtain⟨m,rfl⟩:∃m,n=m+1:=⟨n-1,by omega⟩;unfold ofAClassStatement;refine QA (T4 hT ?_);show wpAny _ _ (if("tuple" == "tuple")=true then _ else _) _ _ s;rw[if_pos (by decide)];refine QA (QB ?_);simp only[SR,QO,Rx];refine QA (RJ ho hd ?_);refine QA ?_;show wpAny _ _ (forIn items _ _) _ _ s;rw[<- Sw];refine mY ds m A s items.toList _ _ E _ t (by omega) hi ?_ ?_
   ·intro x s' R k;refine QA (RO k (λc s2 q=>?_) λ_ _ z=>z);obtain⟨rfl,q⟩:=q;simp only[QO,Rx];exact QB q
   ·exact QB h
 |.none,_,_,_,_,_,_,_,t,_,_,_=>by simp[aG]at t
 |.bool _,_,_,_,_,_,_,_,t,_,_,_=>by simp[aG]at t
 |.int _,_,_,_,_,_,_,_,t,_,_,_=>by simp[aG]at t
 |.list _,_,_,_,_,_,_,_,t,_,_,_=>by simp[aG]at t
 |.dict _,_,_,_,_,_,_,_,t,_,_,_=>by simp[aG]at t
theorem mY:∀(ds:UJ) (n:Nat) (A:UW) (s:UX) (vs:UL) (as:UK) (R:Option Bool×Unit->UX->Prop) (E:UD) (body:Value->Option Bool×Unit->Sem (ForInStep (Option Bool×Unit))),bq ds=true->PyData.depthAll ds<=n->ReadsAll s.heap vs ds as ->
  (∀(x:Value) (s':UX) (R':ForInStep (Option Bool×Unit)->UX->Prop),wpAny (model P w) A (ofAClassStatement n x) (λc s2=>c=false/\R' (.yield (none,())) s2) E s'->wpAny (model P w) A (body x (none,())) R' E s') ->
  R (none,()) s->wpAny (model P w) A (forIn vs (none,()) body) R E s
 | [],n,A,s,_,_,R,E,body,_,_,.nil,hb,h=>by rw[Ti];exact QB h
 |d::ds,n,A,s,_,_,R,E,body,t,hn,.cons r1 r2,hb,h=>by simp only[bq,QG]at t;simp only[PyData.depthAll]at hn;rw[R5];refine QA (hb _ _ _ (kU d n A s _ _ _ E t.1 (by omega) r1 ⟨rfl,?_⟩));exact mY ds n A s _ _ R E body t.2 (by omega) r2 hb h
end
theorem vQ{G:Value->Prop}{R:Option Bool×Unit->UX->Prop}(hb:∀y,G y->∀R':ForInStep (Option Bool×Unit)->UX->Prop,R' (.yield (none,())) s->wpAny (model P w) A (body y (none,())) R' E s) :
  ∀ys:UL,(∀y∈ys,G y)->R (none,()) s->wpAny (model P w) A (forIn ys (none,()) body) R E s
 | [],_,h=>QB h
 |y::ys,g,h=>by rw[R5];refine QA (hb y (g y (QS ..)) _ ?_);exact vQ hb ys (λz hz=>g z (QL _ hz)) h
theorem Fq(hx:El vp w s.heap md (h0,x) d)(hq:Q false s)(ys:UL)(hys:∀y∈ys,∃h1 d1,El vp w s.heap md (h1,y) d1):wpAny (model P w) A (searchCouldBeSeen x ys) Q E s:=by
 unfold searchCouldBeSeen;refine QA (vQ (G:=λy=>∃h1 d1,El vp w s.heap md (h1,y) d1) (λy gy R' hR=>?_) ys hys (QB hq));obtain⟨h1,d1,hy⟩:=gy;obtain⟨as,r1⟩:=hx.rd;obtain⟨bs,r2⟩:=hy.rd;dsimp only;refine Rp (λ_=>QB hR) λ_=>?_
 ·skip
  refine QA (iR d 8 A s x as _ E hx.tr hx.dp r1 ?_);simp only[SR,QO,Rx];refine QA (iR d1 8 A s y bs _ E hy.tr hy.dp r2 ?_);simp only[SR,QO,Rx];refine QA (kU d 8 A s x as _ E hx.tr hx.dp r1 ?_);simp only[QO,Rx];refine QA (kU d1 8 A s y bs _ E hy.tr hy.dp r2 ?_);simp only[QO,Rx];exact QB hR
theorem yW(x:El vp w h true e d):isSame e.2 e.2=pure true:=by
 obtain⟨as,r⟩:=x.rd;have k:=x.kd;obtain⟨e1,v⟩:=e;dsimp only at r ⊢
 cases r with
 |tuple=>exact if_pos (beq_self_eq_true _)
 |_=>simp[gE]at k
def LQ(es:UH)(i:Nat):Int:=(es[i]?.map (·.1)).getD 0
theorem b0(ho:s.heap.get? a=some (bu es ep t))(hf:t.fits es.size=true)(h:Q (es,ep,t) s):wpAny (model P w) A (setState a) Q E s:=wpAny_setState_of ho rfl hf h
def cg(t:UU)(h:Int)(slot:Nat)(wd:Bool):Prop:=(t.slot slot=if wd=true then .dummy else .empty)/\∃n,sq t.mask h n=slot/\∀m,m<n->t.slot (sq t.mask h m)≠.empty
theorem yX(S:cy vp w s.heap a true ds es ep t)(hx:El vp w s.heap true (h0,x) d)(hu:A.units+20<cLine)
 (hN:t.slot (sq t.mask h0 N)=.empty)(hne:∀m,m<N->t.slot (sq t.mask h0 m)≠.empty)(hNl:N<10*SetTable.turns t.mask)
 (q1:d∉ds->∀slot wd,cg t h0 slot wd->Q (.free slot wd) s)(q2:d∈ds->∀i,ds[i]?=some d->Q (.there (if adding=true then none else some i)) s) :
  ∀(fuel n:Nat) (st:Option SetTable.Probe),n<=N->N-n<fuel->pc (st.getD (t.probeStart h0))=steps t.mask n (c0 t.mask h0)->Dm t h0 n (st.getD (t.probeStart h0)).dummy ->
   (∀m,m<n->∀i,t.slot (sq t.mask h0 m)=.live i->ds[i]?≠some d)->wpAny (model P w) A (setSearchFrom a x h0 adding fuel st) Q E s
 |0,n,st,h1,h2,h3,h4,h5=>by omega
 |fuel+1,n,st,h1,h2,h3,h4,h5=>by
  have T:=S.tb;have hsh:∀(i:Nat) (e:Int×Value),es[i]?=some e->LQ es i=e.1:=λi e he=>by unfold LQ;rw[he];rfl
  have hlive:∀(j i:Nat),t.slot j=.live i->∃e d',es[i]?=some e/\ds[i]?=some d'/\El vp w s.heap true e d':=λj i hl=>by
   have hp:=(mi T.rp).mp hl;have hi:i<es.size:=by rw[<- T.sz];exact(RC.mp hp).1
   obtain⟨d',h1,h2⟩:=S.get (Q3 hi);exact⟨es[i],d',Q3 hi,h1,h2⟩
  have hdiff:∀(m i:Nat),t.slot (sq t.mask h0 m)=.live i->LQ es i≠h0->ds[i]?≠some d:=λm i hl hh z=>by obtain⟨e,d',e1,e2,e3⟩:=hlive _ i hl;rw[e2]at z;cases z;rw[hsh i e e1,e3.hs]at hh;exact hh hx.hs.symm
  unfold setSearchFrom;refine QA (b0 S.ob T.fits ?_);dsimp only;rw[T.odd];simp only[QO,Rx];have hg:=rg (hashAt:=LQ es) hN hne (10*SetTable.turns t.mask) n (st.getD (t.probeStart h0)) h1 (by omega) h3 h4;have hpr:∀met,SetTable.probe.go t (LQ es) h0 (10*SetTable.turns t.mask) (st.getD (t.probeStart h0))=some met->t.probe (LQ es) h0 (st.getD (t.probeStart h0))=some met:=λ_ e=>e;rcases hg with⟨dm,e1,e2,e3⟩|⟨k,i,q,e1,e2,e3,e4,e5,e6,e7,e8⟩
  ·
   have hnd:d∉ds:=λhm=>by
    obtain⟨i,hi⟩:=RG hm;obtain⟨e,he,hel⟩:=iX S.el hi;rw[Rh]at he;have hil:i<t.place.size:=by rw[T.sz];exact(RC.mp he).1
    obtain⟨n',n1,n2⟩:=T.rc i e t.place[i] he (Q3 hil);have hh:e.1=h0:=hel.hs.trans hx.hs.symm;rw[hh]at n1 n2;have hsl:t.slot (sq t.mask h0 n')=.live i:=(mi T.rp).mpr (by rw[n1];exact Q3 hil)
    have hnN:n'<N:=by
     apply Rv;intro z;by_cases z2:n'=N
     ·rw[z2,hN]at hsl;cases hsl
     ·exact n2 N (by omega) hN
    by_cases z:n'<n
    ·exact h5 n' z i hsl hi
    ·exact e3 n' (by omega) hnN i hsl (by rw[hsh i e he];exact hh)
   split
   case h_2 hno=>exact absurd (hpr _ e1) (hno _)
   rename_i met hmet;have hme:=hmet.symm.trans (hpr _ e1);cases hme;dsimp only;rcases e2 with rfl|⟨m,m1,rfl,m3⟩
   ·exact QB (q1 hnd _ false ⟨by simpa using hN,N,rfl,hne⟩)
   ·dsimp only;rw[m3];have:(adding&&(SetTable.Slot.dummy != SetTable.Slot.dummy))=false:=by cases adding<;>rfl
    rw[this];simp only[QO,Rx];exact QB (q1 hnd _ true ⟨by simpa using m3,m,rfl,λm' hm'=>hne m' (by omega)⟩)
  ·
   split
   case h_2 hno=>exact absurd (hpr _ e1) (hno _)
   rename_i met hmet;have hme:=hmet.symm.trans (hpr _ e1);cases hme;dsimp only;obtain⟨e,d',f1,f2,f3⟩:=hlive _ i e4
   have go:wpAny (model P w) A (do
     let some (_,y):=es[i]? | unsupported "internal:set-entry"
     let equal <- holding [y] (eqBool y x)
     let (es',_,t') <- setState a
     if adding&&equal then return SetFound.there none
     let some same:=t'.sameMemory t.moves t.mask|unsupported "set.changed-during-lookup:is-the-new-block-at-the-old-address"
     let still <- match (if same then t'.slot (sq t.mask h0 k)else .empty)with
      |.live i'=>match es'[i']? with
       |some (_,y')=>do pure (if <- isSame y' y then some i' else none)
       |none=>pure none
      |_=>pure none
     match still with
     |none=>rule "set.search.anew";setSearchFrom a x h0 adding fuel none
     |some i'=>if equal then return .there (some i')else setSearchFrom a x h0 adding fuel (some q)) Q E s:=by
    rw[f1];obtain⟨he,y⟩:=e;dsimp only;refine QA (Ri (M4 f3 hx hu ?_));refine QA (b0 S.ob T.fits ?_);dsimp only;have hsm:t.sameMemory t.moves t.mask=some true:=by unfold SetTable.sameMemory;simp
    by_cases z:d'=d
    ·subst z;have hm:d'∈ds:=QZ f2;have Q2:=q2 hm i f2
     cases adding with
     |true=>simp only[decide_true,Bool.and_self,Rr]at Q2 ⊢;exact QB Q2
     |false=>simp only[TY,QO,Rx]at Q2 ⊢;rw[hsm];dsimp only;rw[if_pos rfl,e4];dsimp only;rw[f1];dsimp only;refine QA (SQ (a:=true) (yW f3) ?_);refine QA (QB ?_);simp only[decide_true,Rr];exact QB Q2
    ·simp only[Rm z,Bool.and_false,QO,Rx];rw[hsm];dsimp only;rw[if_pos rfl,e4];dsimp only;rw[f1];dsimp only;refine QA (SQ (a:=true) (yW f3) ?_);refine QA (QB ?_);simp only[Rr];refine yX S hx hu hN hne hNl q1 q2 fuel (k+1) (some q) (by omega) (by omega) e6 e7 λm hm i' hi'=>?_;by_cases z1:m<n
     ·exact h5 m z1 i' hi'
     ·by_cases z2:m=k
      ·subst z2;rw[e4]at hi';cases hi';rw[f2];exact λq=>z (Sj q)
      ·exact hdiff m i' hi' (e8 m (by omega) (by omega) i' hi')
   by_cases hl:t.led=true
   ·rw[hl];simp only[SR,QO,Rx];exact go
   ·have hl':t.led=false:=by simpa using hl
    rw[hl'];simp only[Bool.not_false,Rr];refine QA (Fq hx ?_ _ λy hy=>?_)
    ·simp only[QO,Rx];exact go
    ·obtain⟨e',he',rfl⟩:=Q4.mp hy;have hm:e'∈es.toList:=by have:=he';simp at this;simpa using this.1
     obtain⟨i',hi'⟩:=RG hm;obtain⟨d2,_,hd2⟩:=fc S.el hi';exact⟨e'.1,d2,hd2⟩
end
theorem qw{R:α->β->Prop}:∀{xs:List α} {ys:List β} (p:Nat),Paired R xs ys->Paired R (xs.take p) (ys.take p)/\Paired R (xs.drop p) (ys.drop p)
 |_,_,0,h=>⟨.nil,by grind⟩
 |_,_,p+1,.nil=>⟨.nil,.nil⟩
 |_,_,p+1,.cons r t=>by obtain⟨a,b⟩:=qw p t;exact⟨.cons r a,by grind⟩
theorem sU{R:α->β->Prop}:∀{xs us:List α} {ys vs:List β},Paired R xs ys->Paired R us vs->Paired R (xs++us) (ys++vs)
 |_,_,_,_,.nil,h=>h
 |_,_,_,_,.cons r t,h=>.cons r (sU t h)
theorem uS{R:α->β->Prop}(p:Nat)(h:Paired R xs.toList ys)(r:R x y):Paired R (SetTable.insertAt xs p x).toList (ys.take p++y::ys.drop p):=by rw[Tx];obtain⟨a,b⟩:=qw p h;exact sU a (.cons r b)
theorem iY{R:α->β->Prop}(p:List.Perm xs xs'):∀{ys:List β},Paired R xs ys->∃ys',List.Perm ys ys'/\Paired R xs' ys':=by
 induction p with
 |nil=>exact λh=>⟨_,.refl _,h⟩
 |cons x _ ih=>
  intro ys h
  cases h with
  |cons r t=>obtain⟨ys',a,b⟩:=ih t;exact⟨_,a.cons _,.cons r b⟩
 |swap x y l=>
  intro ys h
  cases h with
  |cons r t=>
   cases t with
   |cons r' t=>exact⟨_,.swap _ _ _,.cons r' (.cons r t)⟩
 |trans _ _ ih1 ih2=>intro ys h;obtain⟨y1,a,b⟩:=ih1 h;obtain⟨y2,c,d⟩:=ih2 b;exact⟨y2,a.trans c,d⟩
theorem sV(ds:UJ)(p:Nat)(d:PyData):List.Perm (ds.take p++d::ds.drop p) (d::ds):=by have:=Sx p ds;exact List.perm_middle.trans (by grind)
theorem xl{ds ds':UJ}(p:List.Perm ds ds')(h:ds.Nodup):ds'.Nodup:=p.nodup_iff.mp h
section
variable {P:UT} {w:World} {A:UW} {E:UD} {s:UX} {vp:Value->Prop}
theorem El.text(x:El vp w h false e d):∃y t,d=.str y/\e.2=.str y t/\e.1=hashStr w y:=by
 obtain⟨as,r⟩:=x.rd;have k:=x.kd;have t:=x.tr;have hs:=x.hs;obtain⟨e1,v⟩:=e
 cases r with
 |str y u=>exact⟨y,u,rfl,rfl,hs⟩
 |tuple=>trivial
 |_=>trivial
theorem El.refs(x:El vp w h true e d):∃a,e.2=.ref a:=by
 obtain⟨as,r⟩:=x.rd;have k:=x.kd;obtain⟨e1,v⟩:=e
 cases r with
 |tuple=>grind
 |_=>trivial
theorem yY(p:Paired (El vp w h false) es ds):ElemsOf (strKind P w) es:=by intro e he;obtain⟨i,hi⟩:=RG he;obtain⟨d,_,x⟩:=fc p hi;obtain⟨y,t,e1,e2,e3⟩:=x.text;exact⟨⟨y,by rw[e2];show Value.isStrOf y (.str y t)=true;simp[Value.isStrOf],e3⟩,by rw[e2];rfl⟩
theorem Fs(p:Paired (El vp w h false) es ds)(y:Str) :
  match es.findIdx? (λe=>(strKind P w).is y e.2)with
  |some j=>ds[j]?=some (.str y)
  |none=>PyData.str y∉ds:=by
 have hk:∀{e:Int×Value} {d:PyData},El vp w h false e d->((strKind P w).is y e.2=true<->d=.str y):=λ{e d} x=>by
  obtain⟨z,t,rfl,e2,_⟩:=x.text;rw[e2];show Value.isStrOf y (.str z t)=true<->_;constructor
  ·intro q;obtain⟨u,hu⟩:=Value.isStrOf_shape q
   grind
  grind[Value.isStrOf]
 cases hr:es.findIdx? (λe=>(strKind P w).is y e.2)with
 |some j=>obtain⟨hj,hp,_⟩:=List.findIdx?_eq_some_iff_getElem.mp hr;obtain⟨d,h1,h2⟩:=fc p (QP hj);show ds[j]?=_;rw[h1,(hk h2).mp hp]
 |none=>
  intro hm;obtain⟨i,hi⟩:=RG hm;obtain⟨e,h1,h2⟩:=iX p hi;have:=List.findIdx?_eq_none_iff.mp hr e (QZ h1)
  grind
theorem cy.scan(S:cy vp w h a false ds es ep t)(hx:x=.str y u):byScan x es=true:=
 byScan_of (knd:=strKind default w) (by rw[hx];rfl) (by rw[S.size];have:=S.ln;show _<4096;omega) (yY S.el)
theorem Le:byScan (.ref b) es=false:=rfl
end
section
variable {P:UT} {w:World} {A:UW} {E:UD} {s:UX} {vp:Value->Prop}
theorem oH{α:Type}{body:α->Option Bool×Unit->Sem (ForInStep (Option Bool×Unit))}{G:α->Prop}{R:Option Bool×Unit->UX->Prop}(hb:∀y,G y->∀R':ForInStep (Option Bool×Unit)->UX->Prop,R' (.yield (none,())) s->R' (.done (some false,())) s->wpAny (model P w) A (body y (none,())) R' E s) :
  ∀ys:List α,(∀y∈ys,G y)->R (none,()) s->R (some false,()) s->wpAny (model P w) A (forIn ys (none,()) body) R E s
 | [],_,h,_=>QB h
 |y::ys,g,h,h'=>by
  rw[R5];refine QA (hb y (g y (QS ..)) _ ?_ ?_)
  ·exact oH hb ys (λz hz=>g z (QL _ hz)) h h'
  ·exact QB h'
mutual
theorem vR:∀(d:PyData) (n:Nat) (v:Value) (as:UK) (Q:Bool->UX->Prop),aG d=true->d.depth<=n->Reads s.heap v d as->(∀b,Q b s)->wpAny (model P w) A (hashByValue n v) Q E s
 |.str x,n,v,as,Q,_,_,r,h=>by
  cases r;have:hashByValue n (.str x ‹_›)=pure false:=by cases n<;>rfl
  rw[this];exact QB (h _)
 |.tuple ds,n,v,as,Q,t,hn,r,h=>by
  cases r with
  |tuple ho hc hd hi=>
   rename_i a o items k;have hT:s.TypeIs (.ref a) "tuple" := ⟨o,ho,hc⟩;simp only[aG]at t;simp only[PyData.depth]at hn;obtain⟨m,rfl⟩:∃m,n=m+1:=⟨n-1,by omega⟩;unfold hashByValue;refine QA (SI hT Tc.lookup ?_);dsimp only;refine QA (RJ ho hd ?_);simp only[Ua];refine QA ?_;rw[<- Sw];refine oH (G:=λy=>∃d' as',aG d'=true/\d'.depth<=m/\Reads s.heap y d' as'/\∀Q':Bool->UX->Prop,(∀b,Q' b s)->wpAny (model P w) A (hashByValue m y) Q' E s) (λy ⟨d',as',g1,g2,g3,g4⟩ R' r1 r2=>?_) items.toList ?_ (QB (h _)) (QB (h _))
   ·refine QA (g4 _ λb=>?_);cases b
    ·exact QB r2
    ·exact QB r1
   ·exact sW ds m items.toList _ t (by omega) hi
 |.none,_,_,_,_,t,_,_,_=>by simp[aG]at t
 |.bool _,_,_,_,_,t,_,_,_=>by simp[aG]at t
 |.int _,_,_,_,_,t,_,_,_=>by simp[aG]at t
 |.list _,_,_,_,_,t,_,_,_=>by simp[aG]at t
 |.dict _,_,_,_,_,t,_,_,_=>by simp[aG]at t
theorem sW:∀(ds:UJ) (m:Nat) (vs:UL) (as:UK),bq ds=true->PyData.depthAll ds<=m->ReadsAll s.heap vs ds as->∀y∈vs,∃d' as',aG d'=true/\d'.depth<=m/\Reads s.heap y d' as'/\∀Q':Bool->UX->Prop,(∀b,Q' b s)->wpAny (model P w) A (hashByValue m y) Q' E s
 | [],m,_,_,_,_,.nil,y,hy=>by simp at hy
 |d::ds,m,_,_,t,hn,.cons r1 r2,y,hy=>by
  simp only[bq,QG]at t;simp only[PyData.depthAll]at hn;rcases QK.mp hy with rfl|hy
  ·exact⟨d,_,t.1,by omega,r1,λQ' h=>vR d m _ _ Q' t.1 (by omega) r1 h⟩
  ·exact sW ds m _ _ t.2 (by omega) r2 y hy
end
theorem PV(x:El vp w s.heap md e d)(h:∀b,Q b s):wpAny (model P w) A (hashByValue 8 e.2) Q E s:=by obtain⟨as,r⟩:=x.rd;exact vR d 8 _ as Q x.tr x.dp r h
theorem fB(ho:h.get? a=some (bu es ep t))(sb:Heap.SameBut a h h'):∀b o vs n,h.get? b=some o->o.cls=.type "tuple" -> o.data=.seq vs n->h'.get? b=some o:=λb o vs n e c _=>by
 refine(sb.2 b λz=>?_).trans e
 grind
theorem iA(ho:s.heap.get? a=some (bu es ep t))(hz:es'.size<=1000)
 (h:∀h',h'.get? a=some (bu es' (ep+1) t')->Heap.SameBut a s.heap h'->Q () {s with heap:=h'}):wpAny (model P w) A (storeSet a es' t') Q E s:=by
 refine wpAny_storeSet_of ho rfl (h _ ?_ (Tq ..)) (by grind[sizeLine_eq]);have:=R4 (Obj.putSet es' t') ho (by rfl);rw[putSet_of es' t' rfl]at this
 grind
structure oJ(vp:Value->Prop)(w:World)(h:Heap)(md:Bool)(ds:UJ)(es:UH)(t:UU):Prop where
 tb:uR es t
 ld:t.led=true\/cB w=true
 nd:ds.Nodup
 ln:ds.length<=120
 el:Paired (El vp w h md) es.toList ds
theorem oJ.size(S:oJ vp w h md ds es t):es.size=ds.length:=by
 have:=Q0 S.el
 grind
theorem oJ.keep(S:oJ vp w h md ds es t)(k:∀b o vs n,h.get? b=some o->o.cls=.type "tuple" -> o.data=.seq vs n->h'.get? b=some o):oJ vp w h' md ds es t:=
 ⟨S.tb,S.ld,S.nd,S.ln,Paired.mF S.el λ_ _ x=>El.keep x k⟩
theorem sX(S:cy vp w h a md ds es ep t)(hx:El vp w h md (h0,x) d)(hn:d∉ds)(hl:ds.length<120)(R:cg t h0 slot wd)(pl:Bool) :
  ∃ds',List.Perm ds' (d::ds)/\oJ vp w h md ds' (SetTable.insertAt es (t.put slot).2 (h0,x)) {(t.put slot).1 with plain:=pl}/\((!wd&&({(t.put slot).1 with plain:=pl}:UU).tooFull)=false->({(t.put slot).1 with plain:=pl}:UU).fill*5<({(t.put slot).1 with plain:=pl}:UU).mask*3):=by
 obtain⟨r1,n,r2,r3⟩:=R;have hs:∀i,t.slot slot≠.live i:=λi z=>by grind
 have hm:slot<=t.mask:=by
  rw[<- r2];unfold sq
  have bound:∀q (c:Pc),c.j+c.more<=t.mask->(steps t.mask q c).j+(steps t.mask q c).more<=t.mask:=by
   intro q
   induction q with
   |zero=>intro c hc;exact hc
   |succ q ih=>
    intro c hc;simp only[steps];refine ih _ ?_;unfold step;split
    ·show c.j+1+(c.more-1)<=t.mask;omega
    ·show(SetTable.leap t.mask c.i c.pt).1+(SetTable.runEnd t.mask (SetTable.leap t.mask c.i c.pt).1-(SetTable.leap t.mask c.i c.pt).1)<=t.mask;have:(SetTable.leap t.mask c.i c.pt).1<t.mask+1:=Ue _ (by omega);unfold SetTable.runEnd;split<;>omega
  have hb:=bound n (c0 t.mask h0) (by
   show SetTable.bits h0 % (t.mask+1)+(SetTable.runEnd t.mask (SetTable.bits h0 % (t.mask+1))-SetTable.bits h0 % (t.mask+1))<=t.mask;have:SetTable.bits h0 % (t.mask+1)<t.mask+1:=Ue _ (by omega);unfold SetTable.runEnd
   split<;>omega)
  omega
 obtain⟨T1,T2⟩:=HD (x:=x) S.tb hs hm r2 r3;refine⟨_,sV ds (t.put slot).2 d,⟨T1.flags rfl rfl rfl,S.ld,?_,?_,uS _ S.el hx⟩,λhq=>?_⟩
 ·exact xl (sV ds _ d).symm (R3.mpr ⟨hn,S.nd⟩)
 ·rw[(sV ds _ d).length_eq];simp;omega
 ·cases wd with
  |true=>have:=T2 (by simpa using r1);show(t.put slot).1.fill*5<t.mask*3;rw[this];exact S.tb.tf
  |false=>simp only[Bool.not_false,Bool.true_and]at hq;unfold SetTable.tooFull at hq;simp only[decide_eq_false_iff_not]at hq;exact Nat.lt_of_not_le hq
theorem qx(S:oJ vp w h md ds es t)(hw:wanted<1024)(hn:es.size*5<wanted*3\/es.size<=4) :
  ∃t' order ds',t.relaid (es.map (·.1)) wanted=some (t',order)/\List.Perm ds' ds/\oJ vp w h md ds' (order.filterMap (es[·]?)) t'/\Tab (order.filterMap (es[·]?)) t'/\List.Perm order.toList (List.range es.size)/\t'.mask+1=SetTable.sizeAbove wanted:=by
 obtain⟨t',order,e1,e2,e3,e4,e5,e6,_⟩:=Dq hw hn;obtain⟨ds',p1,p2⟩:=iY e3.symm S.el;exact⟨t',order,ds',e1,p1.symm,⟨e2.Ld,by rw[e4];exact S.ld,xl p1 S.nd,by rw[<- p1.length_eq];exact S.ln,p2⟩,e2,e5,e6⟩
theorem yZ(h:n<=121):SetTable.grown n<1024/\(n*5<SetTable.grown n*3\/n<=4):=by
 grind[SetTable.grown]
theorem oJ.at(S:oJ vp w h md ds es t)(T:Tab es t)(ho:h.get? a=some (bu es ep t)):cy vp w h a md ds es ep t:=⟨ho,T,S.ld,S.nd,S.ln,S.el⟩
theorem y0(ho:s.heap.get? a=some (bu es ep t))(S:oJ vp w s.heap md ds es t)(hw:wanted<1024)(hn:es.size*5<wanted*3\/es.size<=4)
 (h:∀h' ds' es' ep' t',Heap.SameBut a s.heap h'->cy vp w h' a md ds' es' ep' t'->List.Perm ds' ds->t'.mask+1=SetTable.sizeAbove wanted->Q () {s with heap:=h'}):wpAny (model P w) A (setRelay a wanted) Q E s:=by
 unfold setRelay;refine QA (b0 ho S.tb.fits ?_);dsimp only;have hsz:=(ka wanted hw).2;have hsl:¬ SetTable.sizeAbove wanted>sizeLine:=by rw[R9];simp only[QK,Ra,Su]at hsz;omega
 rw[if_neg hsl];obtain⟨t',order,ds',e1,e2,e3,e4,_,e5⟩:=qx S hw hn;refine QA ?_;rw[e1];show wpAny _ _ (if((order.filterMap (es[·]?)).size != es.size)=true then _ else pure (order.filterMap (es[·]?),t')) _ _ _;have hse:(order.filterMap (es[·]?)).size=es.size:=by rw[e3.size,S.size,e2.length_eq]
 rw[if_neg (by simp[hse])];refine QB ?_;dsimp only;refine iA ho (by rw[hse,S.size];have:=S.ln;omega) λh' g1 g2=>?_;exact h h' ds' _ _ t' g2 ((e3.keep (fB ho g2)).at e4 g1) e2 e5
end
section
variable {P:UT} {w:World} {A:UW} {E:UD} {s:UX} {vp:Value->Prop}
theorem Ft(S:cy vp w s.heap a md ds es ep t)(hx:El vp w s.heap md (h0,x) d)(hn:d∉ds)(hl:ds.length<120)(R:cg t h0 slot wd)(pl:Bool)
 (q:∀h' ds',Heap.SameBut a s.heap h'->bX vp w h' a md ds'->List.Perm ds' (d::ds)->R' true {s with heap:=h'}) :
  wpAny (model P w) A (do
   storeSet a (SetTable.insertAt es (t.put slot).2 (h0,x)) {(t.put slot).1 with plain:=pl}
   if(!wd&&({(t.put slot).1 with plain:=pl}:UU).tooFull)=true then do
    setRelay a (SetTable.grown (es.size+1))
    pure true
   else pure true) R' E s:=by
 obtain⟨ds',p1,H,p3⟩:=sX S hx hn hl R pl;have hsz:(SetTable.insertAt es (t.put slot).2 (h0,x)).size=es.size+1:=iW;have hes:=S.size;refine QA (iA S.ob (by omega) λh' g1 g2=>?_);have H':=H.keep (fB S.ob g2);by_cases hf:(!wd&&({(t.put slot).1 with plain:=pl}:UU).tooFull)=true
 ·rw[if_pos hf];obtain⟨k1,k2⟩:=yZ (n:=es.size+1) (by omega);refine QA (y0 g1 H' k1 (by simp_all) λh2 ds2 es2 ep2 t2 f1 f2 f3 _=>QB ?_);exact q h2 ds2 (g2.trans f1) ⟨_,_,_,f2⟩ (f3.trans p1)
 ·rw[if_neg hf];exact QB (q h' ds' g2 ⟨_,_,_,H'.at (H'.tb.tab (p3 (by grind))) g1⟩ p1)
theorem Dr(T:Tab es t)(h0:Int):∃slot wd,t.freeSlot h0=some (slot,wd)/\cg t h0 slot wd:=by
 obtain⟨N,n1,n2,n3⟩:=T.free h0;have hg:=rg (hashAt:=λ_=>h0+1) n2 n3 (10*SetTable.turns t.mask) 0 (t.probeStart h0) (by omega) (by grind[SetTable.turns]) rfl (.inl rfl);rcases hg with⟨dm,e1,e2,_⟩|⟨k,i,q,_,_,_,_,e5,_⟩
 ·have hp:t.probe (λ_=>h0+1) h0 (t.probeStart h0)=some (.empty (sq t.mask h0 N) dm):=e1;unfold SetTable.freeSlot;rw[hp];rcases e2 with rfl|⟨m,m1,rfl,m3⟩
  ·exact⟨_,_,rfl,by grind,N,rfl,n3⟩
  ·exact⟨_,_,rfl,by grind,m,rfl,λm' hm'=>n3 m' (by omega)⟩
 ·omega
theorem y6(S:oJ vp w h md ds es t)(hw:wanted<1024)(hn:es.size*5<wanted*3\/es.size<=4) :
  ∃es' t' ds',relayAll t es wanted=(es',t',false)/\List.Perm ds' ds/\oJ vp w h md ds' es' t'/\Tab es' t'/\es'.size=es.size:=by
 obtain⟨t',order,ds',e1,e2,e3,e4,e5,_⟩:=qx S hw hn;have hse:(order.filterMap (es[·]?)).size=es.size:=by rw[e3.size,S.size,e2.length_eq]
 refine⟨_,_,ds',?_,e2,e3,e4,hse⟩;unfold relayAll;rw[e1];dsimp only;rw[if_pos];simp;exact⟨List.isPerm_iff.mpr e5,e4.fits⟩
theorem Fv(S:bX vp w s.heap a md ds)(hx:El vp w s.heap md (h0,x) d)(hu:A.units+20<cLine)(hl:ds.length<120)
 (q1:d∈ds->Q false s)(q2:d∉ds->∀h' ds',Heap.SameBut a s.heap h'->bX vp w h' a md ds'->List.Perm ds' (d::ds)->Q true {s with heap:=h'}) :
  wpAny (model P w) A (setAddHashed a x h0) Q E s:=by
 obtain⟨es,ep,t,S⟩:=S;unfold setAddHashed setAddHashedIn;refine Ri (QA (b0 S.ob S.tb.fits ?_));dsimp only
 cases md with
 |true=>
  obtain⟨b,hb⟩:=hx.refs;dsimp only at hb;subst hb;rw[Le];simp only[QO,Rx];obtain⟨N,n1,n2,n3⟩:=S.tb.free h0;have hle:=S.tb.le;unfold setSearch;refine QA (yX (N:=N) (adding:=true) S hx hu n2 n3 (by unfold SetTable.turns;omega) (λhn slot wd R=>?_) (λhm i hi=>?_) 100000 0 none (by omega) (by omega) rfl (.inl rfl) λm hm=>by omega)
  ·dsimp only;refine QA (b0 S.ob S.tb.fits ?_);dsimp only
   have fin:∀pl,wpAny (model P w) A (do
     storeSet a (SetTable.insertAt es (t.put slot).2 (h0,.ref b)) {(t.put slot).1 with plain:=pl}
     if(!wd&&({(t.put slot).1 with plain:=pl}:UU).tooFull)=true then do
      setRelay a (SetTable.grown (es.size+1))
      pure true
     else pure true) Q E s:=λpl=>Ft S hx hn hl R pl (q2 hn)
   refine Rp (λ_=>QA (PV hx λbv=>?_)) λ_=>QA (QB (fin (t.put slot).1.plain))
   cases bv with
   |true=>exact fin (t.put slot).1.plain
   |false=>exact fin false
  ·simp only[Rr];exact QB (q1 hm)
 |false=>
  obtain⟨y,u,rfl,e2,e3⟩:=hx.text;dsimp only at e2 e3;rw[S.scan e2];simp only[Rr];unfold setAddByScan;refine QA ?_;refine QA (Sh ?_);have hk:(strKind P w).is y x=true:=by rw[e2];show Value.isStrOf y (.str y u)=true;simp[Value.isStrOf]
  have ti:=Fs (P:=P) S.el y;rw[show h0=(strKind P w).hash y from e3];refine QA (wpAny_setScan_of (knd:=strKind P w) hk S.ob rfl S.tb.fits (yY S.el) ?_);rw[<- show h0=(strKind P w).hash y from e3]
  cases hr:es.toList.findIdx? (λe=>(strKind P w).is y e.2)with
  |some j=>rw[hr]at ti;dsimp only at ti ⊢;exact QB (QB (q1 (QZ ti)))
  |none=>
   rw[hr]at ti;dsimp only at ti ⊢;obtain⟨slot,wd,f1,R⟩:=Dr S.tb h0;obtain⟨ds1,_,H1,_⟩:=sX S hx ti hl R (t.put slot).1.plain;have hfit:(t.put slot).1.fits (SetTable.insertAt es (t.put slot).2 (h0,x)).size=true:=H1.tb.fits;have hlay:layNew t es h0 x=(SetTable.insertAt es (t.put slot).2 (h0,x),(t.put slot).1,wd,false):=by unfold layNew;rw[f1];dsimp only;unfold SetTable.orStandIn;rw[if_pos hfit,hfit];rfl
   rw[hlay];dsimp only;refine QA (QB ?_);have hsz:(SetTable.insertAt es (t.put slot).2 (h0,x)).size=es.size+1:=iW;have hle:=S.ln;have hes:=S.size
   have fin:∀pl,wpAny (model P w) A (do
     storeSet a (SetTable.insertAt es (t.put slot).2 (h0,x)) {(t.put slot).1 with plain:=pl}
     if(!wd&&({(t.put slot).1 with plain:=pl}:UU).tooFull)=true then do
      (match (relayAll {(t.put slot).1 with plain:=pl} (SetTable.insertAt es (t.put slot).2 (h0,x)) (SetTable.grown (SetTable.insertAt es (t.put slot).2 (h0,x)).size)).2.2 with|true=>rule "set.scan.the-table-gave-way" |false=>pure ())
      storeSet a (relayAll {(t.put slot).1 with plain:=pl} (SetTable.insertAt es (t.put slot).2 (h0,x)) (SetTable.grown (SetTable.insertAt es (t.put slot).2 (h0,x)).size)).1 (relayAll {(t.put slot).1 with plain:=pl} (SetTable.insertAt es (t.put slot).2 (h0,x)) (SetTable.grown (SetTable.insertAt es (t.put slot).2 (h0,x)).size)).2.1
      pure (some true)
     else pure (some true)) (λr s'=>wpAny (model P w) A (match r with|some added=>pure added|none=>setAddHashedIn a x h0 99999) Q E s') E s:=λpl=>by
    obtain⟨ds',p1,H,p3⟩:=sX S hx ti hl R pl;refine QA (iA S.ob (by rw[hsz];omega) λh' g1 g2=>?_);have H':=H.keep (fB S.ob g2);by_cases hf:(!wd&&({(t.put slot).1 with plain:=pl}:UU).tooFull)=true
    ·rw[if_pos hf];obtain⟨k1,k2⟩:=yZ (n:=es.size+1) (by omega);obtain⟨es2,t2,ds2,m1,m2,m3,m4,m5⟩:=y6 (wanted:=SetTable.grown (SetTable.insertAt es (t.put slot).2 (h0,x)).size) H' (by rw[hsz];exact k1) (by rw[hsz];exact k2);rw[m1];dsimp only;refine QA (QB ?_);refine QA (iA (s:={s with heap:=h'}) g1 (by rw[m5,hsz];omega) λh2 g3 g4=>QB (QB ?_));exact q2 ti h2 ds2 (g2.trans g4) ⟨_,_,_,(m3.keep (fB g1 g4)).at m4 g3⟩ (m2.trans p1)
    ·rw[if_neg hf];exact QB (QB (q2 ti h' ds' g2 ⟨_,_,_,H'.at (H'.tb.tab (p3 (by simpa using hf))) g1⟩ p1))
   refine Rp (λ_=>QA (PV hx λbv=>?_)) λ_=>QA (QB (fin (t.put slot).1.plain))
   cases bv with
   |true=>exact fin (t.put slot).1.plain
   |false=>exact fin false
end
theorem fE{α:Type}{l:List α}(h:i<l.length):List.Perm (l[i]::l.eraseIdx i) l:=by
 rw[TQ];have e:=Sx i l;rw[RF h]at e
 conv=>rhs;rw[<- e]
 exact List.perm_middle.symm
theorem B7(next:Nat->Nat):∀(fuel k:Nat) (left:List α) (out:Array α),fuel=left.length->List.Perm (pickOrder.go next fuel k left out).toList (out.toList++left)
 |0,k,left,out,h=>by
  have  := Se.mp h.symm
  simp_all[pickOrder.go]
 |fuel+1,k,left,out,h=>by
  have hpos:0<left.length:=by omega
  have hlt:next k % left.length<left.length:=Ue _ hpos;simp[pickOrder.go];rw[QP hlt];refine(B7 next fuel _ _ _ (by grind)).trans ?_;rw[Array.toList_push,List.append_assoc,List.singleton_append];refine List.Perm.append_left _ ?_;exact fE hlt
theorem vS(next:Nat->Nat)(xs:Array α):List.Perm (pickOrder next xs).toList xs.toList:=by unfold pickOrder;simpa using B7 next xs.size 0 xs.toList #[] (by simp)
section
variable {P:UT} {w:World} {A:UW} {E:UD} {s:UX} {vp:Value->Prop}
theorem xm(hn:n≠0)(h:∀i,i<n->Q i {s with drawn:=s.drawn.bump src}):wpAny (model P w) A (choose src n) Q E s:=λΓ p hΓ=>⟨hn,h _ (Ue _ (Nat.pos_of_ne_zero hn))⟩
theorem xn:∀(n:Nat) (xs:List α) (s:UX) (Q:List α->UX->Prop),n=xs.length->(∀L dr,List.Perm L xs->Q L {s with drawn:=dr})->wpAny (model P w) A (drawOrder n xs) Q E s
 |0,xs,s,Q,h,q=>by have  := Se.mp h.symm;subst this;exact QB (q [] s.drawn (.refl _))
 |n+1,[],s,Q,h,q=>by grind
 |n+1,x::xs,s,Q,h,q=>by unfold drawOrder;refine QA (xm (by simp) λi hi=>?_);rw[QP hi];refine QA (xn n _ _ _ (by grind) λL dr p=>QB ?_);exact q _ dr ((p.cons _).trans (fE hi))
theorem fT(h:Q (cB w) s):wpAny (model P w) A setsByText Q E s:=QA (To (QB h))
theorem B8(S:cy vp w s.heap a md ds es ep t)(q:∀L dr,List.Perm (L:UH).toList es.toList->Q L {s with drawn:=dr}):wpAny (model P w) A (setWalk a) Q E s:=by
 refine QA (b0 S.ob S.tb.fits ?_);refine QA (fT ?_);refine Rp (λ_=>?_) λhb=>?_
 ·refine QA (To (QB ?_));exact q _ s.drawn (vS _ _)
 ·refine Rp (λ_=>?_) λ_=>?_
  ·refine QA (xn es.size es.toList s _ (by simp) λL dr p=>QB (q _ dr (by omega)))
  ·have hl:t.led=true:=by
    rcases S.ld with h|h
    ·exact h
    grind
   refine QA (m:=(if _=true then unsupported "set:maker-not-led" else pure ())) ?_;rw[hl];exact QB (QB (q es s.drawn (.refl _)))
theorem Fw:∀(sets:UK) {Q:Bool->UX->Prop},(∀a∈sets,∃md ds,bX vp w s.heap a md ds)->(∀b,Q b s)->wpAny (model P w) A (setsQuiet sets) Q E s:=by
 intro sets Q hs hQ;unfold setsQuiet;refine QA ?_;refine oH (G:=λa=>∃md ds,bX vp w s.heap a md ds) (λa ⟨md,ds,es,ep,t,S⟩ R' r1 r2=>?_) sets hs (QB (hQ true)) (QB (hQ false));refine QA (Um S.ob rfl S.tb.fits ?_);refine QA ?_;rw[<- Sw];refine oH (G:=λe=>e∈es.toList) (λe he R2 q1 q2=>?_) es.toList (λ_ h=>h) (QB r1) (QB r2);obtain⟨i,hi⟩:=RG he;obtain⟨d,_,x⟩:=fc S.el hi;obtain⟨h1,v⟩:=e;dsimp only
 cases md with
 |true=>
  obtain⟨as,r⟩:=x.rd;have k:=x.kd;dsimp only at r
  cases r with
  |tuple ho hc hd hi=>have hT:s.TypeIs (.ref _) "tuple" := ⟨_,ho,hc⟩;refine QA (SI hT Uk.lookup ?_);exact Rp (λ_=>QB q2) λ_=>QB q1
  |_=>simp[gE]at k
 |false=>obtain⟨y,u,_,e2,_⟩:=x.text;dsimp only at e2;subst e2;exact QB q1
end
section
variable {P:UT} {w:World} {A:UW} {E:UD} {s:UX} {vp:Value->Prop}
theorem Tab.flags(T:Tab es t)(h1:t'.mask=t.mask)(h2:t'.place=t.place)(h3:t'.dummies=t.dummies):Tab es t':=
 (T.Ld.flags h1 h2 h3).tab (by have:=T.tf;simp_all[SetTable.fill])
theorem cy.other(S:cy vp w h a md ds es ep t)(ob:h.get? b=some (bu es' ep' t'))(sb:Heap.SameBut b h h')(ne:a≠b):cy vp w h' a md ds es ep t:=
 ⟨(sb.2 a ne).trans S.ob,S.tb,S.ld,S.nd,S.ln,Paired.mF S.el λ_ _ x=>El.keep x (fB ob sb)⟩
theorem cy.keep(S:cy vp w h a md ds es ep t)(k:∀b o,h.get? b=some o->h'.get? b=some o):cy vp w h' a md ds es ep t:=
 ⟨k _ _ S.ob,S.tb,S.ld,S.nd,S.ln,Paired.mF S.el λ_ _ x=>El.keep x λb o _ _ e _ _=>k b o e⟩
theorem Ds(S:cy vp w s.heap o md eds es ep t)(F:bX vp w s.heap f md' fds)(ne:o≠f)
 (q:∀(L:UH) h' dr,List.Perm L.toList es.toList->Heap.SameBut f s.heap h'->bX vp w h' f md' fds->Q L {s with heap:=h',drawn:=dr}):wpAny (model P w) A (setWalkUnseen o [f] (some f)) Q E s:=by
 have q0:∀(L:UH) dr,List.Perm L.toList es.toList->Q L {s with drawn:=dr}:=λL dr p=>q L s.heap dr p (TR _ _) F;unfold setWalkUnseen;refine QA (b0 S.ob S.tb.fits ?_);dsimp only;refine QA (fT ?_);refine Rp (λ_=>B8 S q0) λhb=>?_;refine QA (Fw (vp:=vp) _ (λa ha=>?_) λb=>?_)
 ·simp only[QK,Ra,Su]at ha;rcases ha with rfl|rfl
  ·exact⟨md,eds,_,_,_,S⟩
  grind
 ·refine Rp (λ_=>B8 S q0) λ_=>?_;refine QA (Sh ?_);obtain⟨ef,epf,tf,F⟩:=F;refine QA (b0 F.ob F.tb.fits ?_);dsimp only;refine Rp (λ_=>?_) λ_=>QB (q0 es s.drawn (.refl _));refine QA (iA F.ob (by rw[F.size];have:=F.ln;omega) λh' g1 g2=>QB ?_);refine q es h' s.drawn (.refl _) g2 ⟨_,_,_,g1,F.tb.flags rfl rfl rfl,?_,F.nd,F.ln,Paired.mF F.el λ_ _ x=>El.keep x (fB F.ob g2)⟩;rcases S.ld with h1|h1
  ·rcases F.ld with h2|h2
   ·exact .inl (by show(tf.led&&t.led)=true;rw[h1,h2];rfl)
   ·exact .inr h2
  ·exact .inr h1
theorem HG(S:bX vp w s.heap a md ds)(hm:ds.length+more<=240)
 (q:∀h' ds' es' ep' t',Heap.SameBut a s.heap h'->cy vp w h' a md ds' es' ep' t'->List.Perm ds' ds->(more=0\/more*5<t'.mask*3)->Q () {s with heap:=h'}):wpAny (model P w) A (setRoomFor a more) Q E s:=by
 obtain⟨es,ep,t,S⟩:=S;unfold setRoomFor;refine QA (b0 S.ob S.tb.fits ?_);dsimp only;have hsz:t.place.size=ds.length:=by rw[S.tb.sz,S.size]
 unfold SetTable.roomFor;by_cases hc:(t.fill+more)*5>=t.mask*3
 ·rw[if_pos hc];dsimp only;have H:oJ vp w s.heap md ds es t:=⟨S.tb.Ld,S.ld,S.nd,S.ln,S.el⟩;have hes:=S.size;have hln:=S.ln;refine y0 S.ob H (by omega) ?_ λh' ds' es' ep' t' g1 g2 g3 g4=>q h' ds' es' ep' t' g1 g2 g3 ?_
  ·omega
  ·have:=(ka ((t.place.size+more)*2) (by rw[hsz];omega)).1;omega
 ·rw[if_neg hc];dsimp only;refine QB (q s.heap ds es ep t (TR _ _) S (.refl _) ?_);omega
theorem sY{h0:Heap}{R:PUnit->UX->Prop}(hu:A.units+20<cLine)(hao:a≠o)(ho:h0.get? o=some oo)
 (hb:∀(e:Int×Value) (s1:UX) (R':ForInStep PUnit->UX->Prop),wpAny (model P w) A (setAddHashed a e.2 e.1) (λ_ s2=>s2.heap.get? o=some oo/\R' (.yield ⟨⟩) s2) E s1->wpAny (model P w) A (body e ⟨⟩) R' E s1) :
  ∀(l:List (Int×Value)) (ys ds:UJ) (s:UX),Paired (El vp w s.heap md) l ys->bX vp w s.heap a md ds->ds.length+ys.length<=120->s.heap.get? o=some oo ->
   (∀h' ds',Heap.SameBut a s.heap h'->bX vp w h' a md ds'->(∀d,d∈ds'<->d∈ds\/d∈ys)->R ⟨⟩ {s with heap:=h'})->wpAny (model P w) A (forIn l PUnit.unit body) R E s
 | [],_,ds,s,.nil,S,hl,hoo,q=>by rw[Ti];exact QB (q s.heap ds (TR _ _) S λd=>by simp)
 |e::l,_,ds,s,.cons (b:=y) (l₂:=ys) x xs,S,hl,hoo,q=>by
  rw[R5];simp only[QY]at hl;refine QA (hb e s _ (Fv (d:=y) S x hu (by omega) (λhm=>⟨hoo,?_⟩) λhn h' ds' sb S' p=>⟨(sb.2 o hao.symm).trans hoo,?_⟩))
  ·exact sY hu hao ho hb l ys ds s xs S (by omega) hoo λh' ds' g1 g2 g3=>q h' ds' g1 g2 λd=>by
    grind
  ·obtain⟨es1,ep1,t1,S1⟩:=S;refine sY hu hao ho hb l ys ds' {s with heap:=h'} (Paired.mF xs λ_ _ z=>El.keep z (fB S1.ob sb)) S' (by rw[p.length_eq];simp;omega) ((sb.2 o hao.symm).trans hoo) λh2 ds2 g1 g2 g3=>q h2 ds2 (sb.trans g1) g2 λd=>?_;rw[g3,p.mem_iff];simp only[QK];constructor
   ·rintro((h|h)|h)
    ·exact .inr (.inl h)
    ·exact .inl h
    ·exact .inr (.inr h)
   ·rintro(h|h|h)
    ·exact .inl (.inr h)
    ·exact .inl (.inl h)
    ·exact .inr h
theorem y7(hu:A.units+20<cLine)(hao:a≠o)(S:bX vp w s.heap a md ds)(O:cy vp w s.heap o md eds eo epo to)(hl:ds.length+eds.length<=120)
 (he:∀(s':UX) (R:Unit->UX->Prop),s'.heap.get? o=some (bu eo epo to)->R () s'->wpAny (model P w) A each R E s')
 (q:∀h' ds' dr,Heap.SameBut a s.heap h'->bX vp w h' a md ds'->(∀d,d∈ds'<->d∈ds\/d∈eds)->Q () {s with heap:=h',drawn:=dr}):wpAny (model P w) A (setMerge a o each) Q E s:=by
 unfold setMerge;rw[if_neg (by grind)];refine QA (b0 O.ob O.tb.fits ?_);dsimp only;have hosz:=O.size;refine Rp (λhz=>QB ?_) λhnz=>?_
 ·have e0:eds=[]:=by
   grind
  subst e0;exact q s.heap ds s.drawn (TR _ _) S λd=>by simp
 ·have hpos:0<eo.size:=by
   apply Nat.pos_of_ne_zero;intro z;exact hnz (by simpa using z)
  have S0:=S;obtain⟨es0,ep0,t0,SA0⟩:=S;refine QA (HG (more:=eo.size) S0 (by omega) λh1 ds1 es1 ep1 t1 sb1 S1 p1 r1=>?_);have O1:cy vp w h1 o md eds eo epo to:=O.other SA0.ob sb1 hao.symm;have hm1:eo.size*5<t1.mask*3:=by omega
  refine QA (b0 (s:={s with heap:=h1}) S1.ob S1.tb.fits ?_);dsimp only
  have ld':(t1.led&&to.led)=true\/cB w=true:=by
   rcases S1.ld with z|z
   ·rcases O.ld with z2|z2
    ·exact .inl (by rw[z,z2];rfl)
    ·exact .inr z2
   ·exact .inr z
  have emp:t1.fill=0->ds=[]:=λz=>by
   have:=S1.size;have:=S1.tb.sz;unfold SetTable.fill at z;have:ds1.length=0:=by omega
   rw[p1.length_eq]at this;exact Se.mp this
  cases hr:t1.road to with
  |slotForSlot=>
   unfold SetTable.road at hr;split at hr
   ·cases hr
   ·rename_i hf;have hf0:t1.fill=0:=by simpa using hf
    split at hr
    ·rename_i hc;refine iA (s:={s with heap:=h1}) S1.ob (by have:=O.ln;omega) λh2 g1 g2=>?_;have e0:=emp hf0;subst e0;refine q h2 eds s.drawn (sb1.trans g2) ⟨_,_,_,g1,O.tb.flags rfl rfl rfl,ld',O.nd,O.ln,Paired.mF O1.el λ_ _ x=>El.keep x (fB S1.ob g2)⟩ λd=>by simp
    ·cases hr
  |clean=>
   unfold SetTable.road at hr;split at hr
   ·cases hr
   ·rename_i hf;have hf0:t1.fill=0:=by simpa using hf
    have e0:=emp hf0;subst e0;dsimp only;obtain⟨t',order,k1,k2,k3,k4,k5,k6⟩:=B6 (es:=eo) (mask:=t1.mask) S1.tb.sm hm1 t1.finger t1.moves (t1.led&&to.led) (t1.plain&&to.plain);refine QA ?_;rw[k1];have hse:(order.filterMap (eo[·]?)).size=eo.size:=by have:=k3.length_eq;rw[RD,RD]at this;exact this
    show wpAny _ _ (if((order.filterMap (eo[·]?)).size != eo.size)=true then _ else pure (order.filterMap (eo[·]?),t')) _ _ _;rw[if_neg (by simp[hse])];refine QB ?_;dsimp only;refine iA (s:={s with heap:=h1}) S1.ob (by rw[hse];have:=O.ln;omega) λh2 g1 g2=>?_;obtain⟨ds2,p2,e2⟩:=iY k3.symm O1.el;refine q h2 ds2 s.drawn (sb1.trans g2) ⟨_,_,_,g1,k2,by rw[k5];exact ld',xl p2 O.nd,by rw[<- p2.length_eq];exact O.ln,Paired.mF e2 λ_ _ x=>El.keep x (fB S1.ob g2)⟩ λd=>?_;rw[<- p2.mem_iff];simp
  |oneByOne=>
   dsimp only;refine QA (Ds (s:={s with heap:=h1}) (md':=md) (f:=a) (fds:=ds1) O1 ⟨_,_,_,S1⟩ hao.symm λL h2 dr pL sb2 S2=>?_);have O2:cy vp w h2 o md eds eo epo to:=O1.other S1.ob sb2 hao.symm;obtain⟨eds2,p2,e2⟩:=iY pL.symm O2.el;rw[<- Sw];refine QA (sY (R:=λ_ s'=>wpAny (model P w) A (pure ()) Q E s') (h0:=h2) hu hao O2.ob (λe s1 R' hadd=>?_) L.toList eds2 ds1 {s with heap:=h2,drawn:=dr} e2 S2 (by rw[p1.length_eq,<- p2.length_eq];omega) O2.ob λh3 ds3 sb3 S3 m3=>QB ?_)
   ·obtain⟨hh,xx⟩:=e;dsimp only;refine QA (Ri (RO hadd (λ_ s2 ⟨z1,z2⟩=>?_) λ_ _ z=>z));refine QA (he s2 _ z1 ?_);refine QA (b0 z1 O.tb.fits ?_);dsimp only;rw[if_neg (by simp)];exact QB z2
   ·refine q h3 ds3 dr (sb1.trans (sb2.trans sb3)) S3 λd=>?_;rw[m3,p1.mem_iff,<- p2.mem_iff]
end
section
variable {P:UT} {w:World} {A:UW} {E:UD} {s:UX} {vp:Value->Prop}
theorem y8(ho:h.get? a=some (bu #[] 0 (.fresh 0 0 led)))(hl:led=true\/cB w=true):bX vp w h a md []:=
 ⟨#[],0,_,ho,⟨List.Pairwise.nil,List.Pairwise.nil,rfl,(by decide:(0:Nat)*5<7*3),λj hj=>by trivial,λj hj=>by trivial,λj hj=>by trivial,IZ.1,λi e j h1=>by simp at h1⟩,hl,List.nodup_nil,by simp,.nil⟩
theorem Dt(q:∀h',h'.objs.size=s.heap.objs.size+1->(∀b o,s.heap.get? b=some o->h'.get? b=some o)->bX vp w h' s.heap.objs.size md []->Q (.ref s.heap.objs.size) {s with heap:=h'}):wpAny (model P w) A (newSet (.type "set")) Q E s:=by
 refine QA (fT ?_);refine QA (wpAny_alloc (QB ?_));refine q _ (Rf _ _) (λb o e=>QC _ e) (y8 (QJ _ rfl) ?_)
 grind
theorem kW(S:bX vp w s.heap a md ds):s.TypeIs (.ref a) "set" := let ⟨_,_,_,S⟩:=S;⟨_,S.ob,rfl⟩
theorem pQ(S:bX vp w s.heap a md ds)(q:Q true s):wpAny (model P w) A (Builtin.Frozenset.isAnySet (.ref a)) Q E s:=by refine QA (SV (kW S) sub_set_self ?_);exact QB q
theorem HH(S:bX vp w s.heap a md ds)(q:Q (.type "set") s):wpAny (model P w) A (Builtin.Frozenset.baseOf a) Q E s:=by refine QA (SV (kW S) sub_set_self ?_);exact QB q
theorem HI{id:String}(hu:A.units+20<cLine)(hao:a≠o)(S:bX vp w s.heap a md ds)(O:bX vp w s.heap o md eds)(hl:ds.length+eds.length<=120)
 (q:∀h' ds' dr,Heap.SameBut a s.heap h'->bX vp w h' a md ds'->(∀d,d∈ds'<->d∈ds\/d∈eds)->Q () {s with heap:=h',drawn:=dr}):wpAny (model P w) A (Builtin.Frozenset.updateFrom id a (.ref o)) Q E s:=by
 unfold Builtin.Frozenset.updateFrom;refine QA (pQ O ?_);simp only[Rr];refine QA (m:=Builtin.Frozenset.addrOf (.ref o)) (QB ?_);obtain⟨eo,epo,to,O⟩:=O;unfold Builtin.Frozenset.merge;refine QA (TU O.ob rfl O.tb.fits ?_);refine y7 hu hao S O hl (λs' R h1 h2=>?_) q;unfold Builtin.Frozenset.unchanged;refine QA (TU h1 rfl O.tb.fits ?_);rw[if_neg (by simp)];exact QB h2
def AK(vp:Value->Prop)(w:World)(s:UX)(md:Bool)(G:PyData->Prop)(Q:UD):Prop:=∀a h' ds dr,s.heap.objs.size<=a->(∀b o,s.heap.get? b=some o->h'.get? b=some o)->bX vp w h' a md ds->(∀d,d∈ds<->G d)->Q (.ref a) {s with heap:=h',drawn:=dr}
theorem HJ(hu:A.units+20<cLine)(O:bX vp w s.heap o md eds)(q:AK vp w s md (·∈eds) Q):wpAny (model P w) A (Builtin.Frozenset.copyOf o) Q E s:=by
 refine QA (HH O ?_);refine QA (Dt (vp:=vp) (md:=md) λh1 sz k1 S1=>?_);obtain⟨eo,epo,to,O⟩:=O;have hne  := Sr (QF O.ob);refine QA (QB ?_);refine QA (y7 hu hne S1 (O.keep k1) (by have:=O.ln;simp_all) (λs' R _ h2=>QB h2) λh2 ds2 dr sb S2 m2=>QB ?_);refine q _ h2 ds2 dr (QE _) (λb ob e=>(sb.2 b (QQ (QF e))).trans (k1 b ob e)) S2 λd=>?_
 grind
end
theorem xo:entryFor table "set.__or__" = some Builtin.«frozenset.__or__» := entryFor_alias (id' := "frozenset.__or__") (by kernel_rfl) rfl (by decide +kernel) (by kernel_rfl)
theorem HK:typeLookup (.type "set") (dunderR "or")=pure (some (.builtin "set.__ror__")):=by rfl
theorem Fx:fillsNumberSlot (.type "set") "or" = pure true:=fillsNumberSlot_of F.slot_set_or.lookup (by rfl) HK
section
variable {P:UT} {w:World} {A:UW} {E:UD} {s:UX} {vp:Value->Prop}
theorem M5(hu:A.units+21<cLine)(hlr:l≠r)(L:bX vp w s.heap l md ds)(R:bX vp w s.heap r md eds)(hl:ds.length+eds.length<=120)(q:AK vp w s md (λd=>d∈ds\/d∈eds) Q) :
  wpAny (model P w) A (binaryOp .BitOr (.ref l) (.ref r)) Q E s:=by
 refine wpAny_binaryOp_same (op:=.BitOr) (kW L) (kW R) Fx F.slot_set_or (Q7 F.slot_set_or (kW L) xo ?_ (F.args_set_or_2 _ _));show wpAny _ _ (Builtin.Frozenset.slot1 "__or__" ⟨[.ref l,.ref r],[]⟩ >>= _) _ _ _;refine QA (SQ (a:=(Value.ref l,Value.ref r)) rfl ?_);dsimp only;refine QA (m:=(Builtin.Frozenset.isAnySet (.ref l) <&&> Builtin.Frozenset.isAnySet (.ref r))) (QA (pQ L ?_));refine pQ R ?_;simp only[SR,QO,Rx];refine QA (m:=Builtin.Frozenset.addrOf (.ref l)) (QB ?_);refine QA ?_;show wpAny _ _ (Builtin.Frozenset.copyOf l >>= _) _ _ _;refine QA (HJ (by show A.units+1+20<cLine;omega) L λa h1 ds1 dr1 ha k1 S1 m1=>?_);obtain⟨eo,epo,to,R⟩:=R;have hr:a≠r:=Sr (QH (QF R.ob) ha);have hlen:ds1.length=ds.length:=by obtain⟨_,_,_,L'⟩:=L;obtain⟨_,_,_,S1'⟩:=S1;exact(Sm S1'.nd L'.nd).mpr m1 |>.length_eq
 have hc:(Value.ref r != Value.ref l)=true:=by rw[bne_iff_ne];exact λz=>hlr (Value.ref.inj z).symm
 rw[if_pos hc];refine QA (m:=Builtin.Frozenset.addrOf _) (QB (QA (Ri ?_)));refine HI (s:={s with heap:=h1,drawn:=dr1}) (by show A.units+1+20<cLine;omega) hr S1 ⟨_,_,_,R.keep k1⟩ (by omega) λh2 ds2 dr2 sb S2 m2=>?_;refine QB (QB ⟨_,rfl,(λz=>nomatch z),q a h2 ds2 dr2 ha (λb ob e=>(sb.2 b λz=>?_).trans (k1 b ob e)) S2 λd=>?_⟩)
 ·have:=QF e;rw[z]at this;exact absurd this (Nat.not_lt.mpr ha)
 ·rw[m2,m1]
end
theorem sub_tuple_set:isSubtype (.type "tuple") (.type "set")=pure false:=by rfl
theorem sub_tuple_frozenset:isSubtype (.type "tuple") (.type "frozenset")=pure false:=by rfl
def Lf(md:Bool)(d:PyData):Prop:=aG d=true/\d.depth<=8/\cX d=true/\gE d=md
section
variable {P:UT} {w:World} {A:UW} {E:UD} {s:UX} {vp:Value->Prop}
theorem Fy{R:Result->UX->Prop}{St:Nat->Heap->Prop}{ys:UJ}(W:Walks P w A.in1 I fp wr n Pv St)(S:Addr)(hSf:S∉fp)(hn:n=ys.length)(hl:n<=120)(hu:A.in1.units+20<cLine)
 (hv:∀i v,Pv i v->∃y,ys[i]?=some y/\Lf md y/\vp v/\∃as,Reads h0 v y as)(hw:∀b o,h0.get? b=some o->b∉wr)(hS0:h0.get? S=none)(hit:∀i h,St i h->∀b∈wr,∀o,h.get? b=some o->o.cls≠.type "tuple") :
  ∀(k i:Nat) (s:UX) (ds:UJ),n-i=k->i<=n->St i s.heap->bX vp w s.heap S md ds->(∀d,d∈ds<->d∈ys.take i)->ds.length<=i->(∀b o,h0.get? b=some o->s.heap.get? b=some o) ->
   (∀h' tk ds',bX vp w h' S md ds'->(∀d,d∈ds'<->d∈ys)->(∀b o,h0.get? b=some o->h'.get? b=some o)->R (.ok (.ret .none)) {s with heap:=h',toks:=tk}) ->
   codeAny (model P w) A (.builtin "set.update.loop" ⟨[.ref S,.ref I],[]⟩) R s:=by
 have hSw:S∉wr:=λh=>hSf (W.sub _ h);intro k
 induction k with
 |zero=>
  intro i s ds hk hi hst hS hm hd h0k hR;have hin:i=n:=by omega
  subst hin;refine S9 Tj ?_;rw[SF RM _];show wpAny _ A.in1 (pyNext (.ref I) >>= _) _ _ s;refine QA (W.done s _ _ hst λh' tk kp=>?_);show wpAny _ A.in1 (ret Value.none) _ _ _;obtain⟨es,ep,t,S'⟩:=hS;have kt:∀b o vs n,s.heap.get? b=some o->o.cls=.type "tuple" -> o.data=.seq vs n->h'.get? b=some o:=λb o vs n e c _=>kp b o (λz=>hit _ _ hst b z o e c) e;exact QB (hR h' tk ds ⟨es,ep,t,kp _ _ hSw S'.ob,S'.tb,S'.ld,S'.nd,S'.ln,Paired.mF S'.el λ_ _ x=>El.keep x kt⟩ (λd=>by rw[hm,hn,List.take_length]) λb o e=>kp b o (hw b o e) (h0k b o e))
 |succ k ih=>
  intro i s ds hk hi hst hS hm hd h0k hR;have hlt:i<n:=by omega
  refine S9 Tj ?_;rw[SF RM _];show wpAny _ A.in1 (pyNext (.ref I) >>= _) _ _ s;refine QA (W.item i s _ _ hlt hst λv h1 tk1 hP hst' kp=>?_);obtain⟨y,hy,⟨y1,y2,y3,y4⟩,vy,as,ry⟩:=hv i v hP;obtain⟨es,ep,t,S'⟩:=hS;have kt:∀b o vs n,s.heap.get? b=some o->o.cls=.type "tuple" -> o.data=.seq vs n->h1.get? b=some o:=λb o vs n e c _=>kp b o (λz=>hit _ _ hst b z o e c) e;have h0k1:∀b o,h0.get? b=some o->h1.get? b=some o:=λb o e=>kp b o (hw b o e) (h0k b o e);have S1:bX vp w h1 S md ds:=⟨es,ep,t,kp _ _ hSw S'.ob,S'.tb,S'.ld,S'.nd,S'.ln,Paired.mF S'.el λ_ _ x=>El.keep x kt⟩;have r1:Reads h1 v y as:=jF (λb o vs n e _ _=>h0k1 b o e) y1 ry;have ey:El vp w h1 md (qg w y,v) y:=⟨y1,y2,y3,rfl,y4,⟨as,r1⟩,vy⟩;show wpAny _ A.in1 (holding [v] (setAdd S v) >>= _) _ _ _;refine QA (Ri ?_);unfold setAdd;refine Ri ?_;refine QA (nA y A.in1 {s with heap:=h1,toks:=tk1} v as _ _ y1 r1 (by omega) ?_);have htk:ys.take (i+1)=ys.take i++[y]:=by rw[List.take_add_one,hy];rfl
  refine Fv (s:={s with heap:=h1,toks:=tk1+ny y}) S1 ey hu (by omega) (λhmem=>?_) λhnm h2 ds2 sb S2 p2=>?_
  ·refine QB ⟨Ud RM _,ih (i+1) _ ds (by omega) hlt hst' S1 (λd=>?_) (by omega) h0k1 λh' tk ds' a b c=>hR h' tk ds' a b c⟩;rw[htk,QN,<- hm];constructor
   ·exact .inl
   ·rintro(z|z)
    ·exact z
    ·rw[QT.mp z];exact hmem
  ·obtain⟨es1,ep1,t1,S1'⟩:=S1;refine QB ⟨Ud RM _,ih (i+1) {s with heap:=h2,toks:=tk1+ny y} ds2 (by omega) hlt (W.frame _ _ _ hst' λb hb o e=>(sb.2 b λz=>hSf (z▸hb)).trans e) S2 (λd=>?_) (by rw[p2.length_eq];simp;omega) (λb o e=>(sb.2 b λz=>?_).trans (h0k1 b o e)) λh' tk ds' a b c=>hR h' tk ds' a b c⟩
   ·rw[p2.mem_iff,htk,QN,<- hm,QK,QT];exact Or.comm
   ·rw[z,hS0]at e;cases e
theorem sZ(a:Value)(h:Q₁ (.ref s.heap.objs.size) {s with heap:=s.heap.push (bu #[] 0 (.fresh 0 0 (!cB w)))}) :
  codeAny (model P w) A (.call (.builtin "set.__new__") ⟨[.type "set",a],[]⟩) (wants Q₁ E) s:=by
 refine codeAny_of_tree ?_;show wpAny _ A.in1 (do checkBuiltinCall "set.__new__" ⟨[.type "set",a],[]⟩;again (.builtin "set.__new__" ⟨[.type "set",a],[]⟩)) _ _ s;refine QA (SQ (F.newCall_set_1 a) (QB ⟨Ud F.plain_set_new _,S9 F.entry_set_new ?_⟩));rw[SF F.plain_set_new _];unfold Builtin.«set.__new__» Builtin.Frozenset.newClass;have hsub:=sub_set_self;obtain⟨hp,g,d,tk,os⟩:=s;dsimp only
 wp_walk
 refine To (QB ?_);dsimp only;simp only[newObj];refine QA (wpAny_alloc (QB ?_));exact QB h
structure Src(P:UT)(w:World)(T:String)(l:Addr)(items:UR)(OK:Heap->Prop):Prop where
 ob:∀h,OK h->∃od n sl,h.get? l=some {cls:=.type T,dict:=od,data:=.seq items n,slots:=sl}
 kp:∀h h',OK h->(∀o,h.get? l=some o->h'.get? l=some o)->OK h'
 s1:isSubtype (.type T) (.type "set")=pure false
 s2:isSubtype (.type T) (.type "frozenset")=pure false
 nd:(Value.type T==Value.type "dict")=false
 it:∀(A:UW) (E:UD) (s:UX),A.handled=none->OK s.heap->∃(oI:Obj) (St:Nat->Heap->Prop),oI.cls≠.type "tuple" /\
  (∀Q:UD,Q (.ref s.heap.objs.size) {s with heap:=s.heap.push oI}->wpAny (model P w) A (pyIter (.ref l)) Q E s) /\
  (∀A':UW,A'.handled=none->Walks P w A' s.heap.objs.size [s.heap.objs.size,l] [s.heap.objs.size] items.size (λi v=>items[i]?=some v) St)/\St 0 (s.heap.push oI)/\(∀i h,St i h->∀o,h.get? s.heap.objs.size=some o->o.cls≠.type "tuple")
theorem src_list(l:Addr)(items:UR):Src P w "list" l items (λh=>h.IsList l items) where
 ob:=λh ⟨⟨c,d,da,sl⟩,ho,hc,n,hd⟩=>⟨d,n,sl,by grind⟩
 kp:=λh h' x k=>x.at k
 s1:=F.sub_list_set
 s2:=F.sub_list_frozenset
 nd:=by decide
 it:=λA E s hh hl=>by
  have hlS:l<s.heap.objs.size:=by obtain⟨_,e,_⟩:=hl;exact QF e
  exact⟨{cls:=.type "list_iterator",data:=.fields #[.ref l,.int 0 0]},_,λz=>absurd (Value.type.inj z) (by decide),λQ q=>wpAny_pyIter_list hl q,λA' h'=>Walks.list h' _ l (QQ hlS) items,⟨⟨_,QJ _ rfl,rfl,rfl⟩,hl.push _⟩,λi h ⟨⟨o',e,c,_⟩,_⟩ o eo=>by
   grind⟩
theorem src_tuple(l:Addr)(items:UR):Src P w "tuple" l items (λh=>h.IsTuple l items) where
 ob:=λh ⟨⟨c,d,da,sl⟩,ho,hc,n,hd⟩=>⟨d,n,sl,by grind⟩
 kp:=λh h' ⟨o,e,r⟩ k=>⟨o,k _ e,r⟩
 s1:=sub_tuple_set
 s2:=sub_tuple_frozenset
 nd:=by decide
 it:=λA E s hh hl=>by
  have hlS:l<s.heap.objs.size:=by obtain⟨_,e,_⟩:=hl;exact QF e
  exact⟨{cls:=.type "tuple_iterator",data:=.fields #[.ref l,.int 0 0]},_,λz=>absurd (Value.type.inj z) (by decide),λQ q=>Tz hl q,λA' h'=>Walks.tuple h' _ l (QQ hlS) items,⟨⟨_,QJ _ rfl,rfl,rfl⟩,hl.push _⟩,λi h ⟨⟨o',e,c,_⟩,_⟩ o eo=>by
   grind⟩
end
section
variable {P:UT} {w:World} {A:UW} {E:UD} {s:UX} {vp:Value->Prop}
theorem readsAll_get:∀{vs:UL} {ds:UJ} {as:UK},ReadsAll h vs ds as->∀{i:Nat} {v:Value},vs[i]?=some v->∃d bs,ds[i]?=some d/\Reads h v d bs
 |_,_,_,.nil,i,v,e=>by simp at e
 |_,_,_,.cons r _,0,v,e=>by grind
 |_,_,_,.cons _ t,i+1,v,e=>by simpa using readsAll_get t (by simp_all)
set_option maxHeartbeats 3200000 in
theorem tj{T:String}{l:Addr}{items:UR}{OK:Heap->Prop}{md:Bool}{ys:UJ}{as:UK}{Q:UD}(K:Src P w T l items OK)(hh:A.handled=none)(hl:OK s.heap)(hr:ReadsAll s.heap items.toList ys as)(he:∀y∈ys,Lf md y)(hvp:∀v∈items.toList,vp v)(hn:ys.length<=120)(hu:A.units+25<cLine)
 (h:∀h' tk ds,bX vp w h' s.heap.objs.size md ds->(∀d,d∈ds<->d∈ys)->(∀b o,s.heap.get? b=some o->h'.get? b=some o)->Q (.ref s.heap.objs.size) {s with heap:=h',toks:=tk}) :
  wpAny (model P w) A (call (.type "set") [.ref l]) Q E s:=by
 have hr0:=hr;have hlen:items.size=ys.length:=by have:=readsAll_len hr;simpa using this
 obtain⟨c,tl,hmro⟩:=Ta.mro;have hmade:=Ta.made;have hsub:=Ta.sub;refine wpAny_call (codeAny_of_tree ?_);show wpAny _ _ (callAny (.type "set") _) _ _ _;refine QB ⟨Code.quiet_builtin _ (by decide +kernel),S9 F.entry_type_call ?_⟩;rw[Around.under_plain (weight_type_call_type "set" [.ref l] []) rfl];have h1:=Ta.notType;have h2:=Ta.canCreate;have hct:=F.typeCall_set_1 (.ref l)
 repeat (any_goals (first|assumption|wp_step))
 refine T3 (sZ (.ref l) (E:=E) (Q₁:=λobj s₁=>obj=.ref s.heap.objs.size/\s₁={s with heap:=s.heap.push (bu #[] 0 (.fresh 0 0 (!cB w)))}) ⟨rfl,rfl⟩) λr s₁ hr=>?_
 cases r with
 |error e=>exact hr
 |ok fl=>
  cases fl with
  |ret obj=>
   obtain⟨rfl,rfl⟩:=hr;have hS:(s.heap.push (bu #[] 0 (.fresh 0 0 (!cB w)))).get? s.heap.objs.size=some (bu #[] 0 (.fresh 0 0 (!cB w))):=QJ _ rfl;have hT:Shared.TypeIs {s with heap:=s.heap.push (bu #[] 0 (.fresh 0 0 (!cB w)))} (.ref s.heap.objs.size) "set" := ⟨_,hS,rfl⟩;have hli:=Ta.init.lookup;have hbi:=Ta.init.bind (.ref s.heap.objs.size)
   repeat (any_goals (first|assumption|wp_step))
   refine T3 (codeAny_call_builtin (R:=wants (λr s₂=>r=.none/\∃h' tk ds,s₂={s with heap:=h',toks:=tk}/\bX vp w h' s.heap.objs.size md ds/\(∀d,d∈ds<->d∈ys)/\(∀b o,s.heap.get? b=some o->h'.get? b=some o)) E) Ta.init.plain F.entry_set_init (check_set_init_1 hT ?_)) λr₂ s₂ hr₂=>?_
   ·obtain⟨odict,nl,oslots,hol⟩:=K.ob _ hl;have hol':(s.heap.push (bu #[] 0 (.fresh 0 0 (!cB w)))).get? l=some {cls:=.type T,dict:=odict,data:=.seq items nl,slots:=oslots}:=QC _ hol;have hsls:=K.s1;have hslf:=K.s2;have hne:=K.nd;have hl1:OK (s.heap.push (bu #[] 0 (.fresh 0 0 (!cB w)))):=K.kp _ _ hl λo e=>QC _ e;have hh3:A.in1.in1.in1.handled=none:=by simp[hh]
    obtain⟨oI,St,i1,i2,i3,i4,i5⟩:=K.it A.in1.in1 (λe s'=>wants (λr s₂=>r=.none/\∃h' tk ds,s₂={s with heap:=h',toks:=tk}/\bX vp w h' s.heap.objs.size md ds/\(∀d,d∈ds<->d∈ys)/\(∀b o,s.heap.get? b=some o->h'.get? b=some o)) E (.error e) s') {s with heap:=s.heap.push (bu #[] 0 (.fresh 0 0 (!cB w)))} (by simp[hh]) hl1;unfold Builtin.«set.__init__» noKeywords Builtin.Frozenset.updateFrom;generalize hPI:pyIter=PI
    wp_walk
    subst hPI;refine i2 _ ?_;refine QA (wpAny_runValue ?_);have hlS:l<s.heap.objs.size:=QF hol;have hsz:(s.heap.push (bu #[] 0 (.fresh 0 0 (!cB w)))).objs.size=s.heap.objs.size+1:=Rf _ _;have hSf:s.heap.objs.size∉[(s.heap.push (bu #[] 0 (.fresh 0 0 (!cB w)))).objs.size,l]:=by rw[hsz];simp only[QK,QT,Ra,Su,not_or];exact⟨QQ (Sn _),Sr hlS⟩
    have hS0:s.heap.get? s.heap.objs.size=none:=by
     cases e:s.heap.get? s.heap.objs.size with
     |none=>rfl
     |some o=>exact absurd (QF e) (QU _)
    refine Fy (vp:=vp) (A:=A.in1.in1) (h0:=s.heap) (ys:=ys) (md:=md) (i3 A.in1.in1.in1 hh3) s.heap.objs.size hSf hlen (by omega) (by show A.units+1+1+1+20<cLine;omega) (λi v hv=>?_) (λb o e hb=>?_) hS0 (λi h st b hb o e=>?_) (items.size-0) 0 _ [] rfl (RV _) i4 (y8 (QC _ hS) ?_) (λd=>by simp) (RV _) (λb o e=>QC _ (QC _ e)) λh' tk ds g1 g2 g3=>?_
    ·obtain⟨d,bs,e1,e2⟩:=readsAll_get hr0 (i:=i) (by rw[Rh];exact hv);exact⟨d,e1,he d (QZ e1),hvp v (QZ (by rw[Rh];exact hv)),bs,e2⟩
    ·have:=QF e;rw[QT.mp hb]at this;have e2:(s.heap.push (bu #[] 0 (.fresh 0 0 (!cB w)))).objs.size<s.heap.objs.size:=this;rw[hsz]at e2;exact absurd e2 (Nat.not_lt.mpr (Sb _))
    ·exact i5 i h st o (by rw[QT.mp hb]at e;exact e)
    ·cases cB w
     ·exact .inl rfl
     ·exact .inr rfl
    ·refine QB ?_;show wpAny _ _ (ret Value.none) _ _ _;exact QB ⟨rfl,h',tk,ds,rfl,g1,g2,g3⟩
   ·cases r₂ with
    |error e=>exact hr₂
    |ok fl₂=>
     cases fl₂ with
     |ret r=>
      obtain⟨rfl,h',tk,ds,rfl,hS',hm',hk'⟩:=hr₂
      repeat (any_goals (first|assumption|wp_step))
      exact h _ _ _ hS' hm' hk'
     |_=>exact hr₂.elim
  |_=>exact hr.elim
end
abbrev jL(v:Value)(i:Nat)(o:Value)(n ep:Nat):Obj:={cls:=.type "set_iterator",dict:=none,data:=.fields #[v,.int i 0,o,.int n 0,.int ep 0],slots:=#[]}
theorem tm:entryFor table "set.__iter__" = some Builtin.«frozenset.__iter__» := entryFor_alias (id' := "frozenset.__iter__") (by kernel_rfl) rfl (by decide +kernel) (by kernel_rfl)
theorem gh:entryFor table "set_iterator.__next__" = some Builtin.«set_iterator.__next__» := entryFor_of_tree (by rfl)
theorem bP:Slot "set_iterator" "__next__" "set_iterator.__next__" :=
 .of (by rfl) (by rfl) (by rfl) (by rfl)
  (by trivial) (by rfl)
theorem y9:Manifest.owners.lookup (String.ofList ['r', 'o', 't', 'a', 'r', 'e', 't', 'i', '_', 't', 'e', 's'].reverse)=some Manifest.sig_set_iterator:=by rfl
theorem gU(a:Value):argsOk "set_iterator.__next__" ⟨[a],[]⟩:=by unfold argsOk;rw[signature?_of (id := "set_iterator.__next__") (n:=['_', '_', 't', 'x', 'e', 'n', '_', '_']) (o:=['r', 'o', 't', 'a', 'r', 'e', 't', 'i', '_', 't', 'e', 's']) (by rfl) y9];rfl
section
variable {P:UT} {w:World} {A:UW} {E:UD} {s:UX} {vp:Value->Prop}
theorem pR(hit:s.heap.get? I=some (jL v i o n ep))(hk:k<5)
 (q:∀h',h'.get? I=some {cls:=.type "set_iterator",dict:=none,data:=.fields ((#[v,.int i 0,o,.int n 0,.int ep 0]:UR).setIfInBounds k x),slots:=#[]}->Heap.SameBut I s.heap h'->Q () {s with heap:=h'}):wpAny (model P w) A (setField (.ref I) k x) Q E s:=by
 refine wpAny_setField hit rfl (by omega) (q _ ?_ (Tq ..));have:=R4 (Obj.mapFields (·.setIfInBounds k x)) hit (Obj.isFreed_of_fields (Obj.data_mapFields rfl _));rw[this];rfl
theorem fF(hit:s.heap.get? I=some (jL v i o n ep)):s.TypeIs (.ref I) "set_iterator" := ⟨_,hit,rfl⟩
theorem B9{B:Builtin->Prop}(hh:A.handled=none)(hQ:∀h',Heap.ExtBut I h0 h'->Q none {s with heap:=h'})(he:Heap.ExtBut I h0 s.heap) :
  wpAny (model P w) A.in1 (newExc (.type "StopIteration") [] >>= λe=>(raiseNew e:Sem PySem.Fin)) (λfin s'=>∃r,fin=.done (.ret r)/\wpAny (model P w) A (pure (some r)) Q E s') (λe s'=>wpAny (model P w) A (do if <- isInstance e (.type "StopIteration")then pure none else throw e) Q E s') s:=by
 refine QA ?_;simp only[newExc,newTuple];refine QA (Rb ?_ (by size_fits));refine QA (m:=firstArgMember _ _) (SQ (a:=Value.none) (by first|rfl | (simp only[firstArgMember];rfl)) ?_);refine Rb ?_ (by size_fits);simp only[raiseNew];refine QA (wpAny_handled ?_);rw[show A.in1.handled=none from hh];refine QA (QB (wpAny_throw ?_));refine QA (SV (T := "StopIteration") (b:=true) ⟨_,QJ _ rfl,rfl⟩ isSubtype_stop ?_);exact QB (hQ _ ((he.push _).push _))
end
section
variable {P:UT} {w:World} {A:UW} {E:UD} {s:UX} {vp:Value->Prop}
variable {I a T:Addr} {i n ep sl:Nat} {es:UH} {t:UU}
theorem rh{Q:PySem.Fin->UX->Prop}{E':UD}(hit:s.heap.get? I=some (jL v i (.ref a) n ep))(ob:s.heap.get? a=some (bu es ep t))(ft:t.fits es.size=true)(hn:es.size=n)
 (q:wpAny (model P w) A (match v with
   |.int slot _=>do
    match <- setNext a slot.toNat i ep with
    |some (x,next)=>
     setField (.ref I) 0 (rawInt next)
     setField (.ref I) 1 (rawInt ((i:Int)+1))
     ret x
    |none=>setField (.ref I) 2 .none;raiseNew (<- newExc (.type "StopIteration") [])
   |first=>do
    let some places <- seqItems? first|unsupported "internal:set_iterator"
    match places[i]? with
    |some (.int place _)=>
     let x <- setNextDrawn a place.toNat ep
     setField (.ref I) 1 (rawInt ((i:Int)+1))
     ret x
    |some _=>unsupported "internal:set_iterator"
    |none=>setField (.ref I) 0 (rawInt 0);setField (.ref I) 2 .none;raiseNew (<- newExc (.type "StopIteration") [])) Q E' s) :
  wpAny (model P w) A (Builtin.«set_iterator.__next__» ⟨[.ref I],[]⟩) Q E' s:=by
 unfold Builtin.«set_iterator.__next__»;refine QA (SQ (a:=(Value.ref I,[])) rfl ?_);dsimp only;refine QA (wpAny_fieldsOf hit rfl ?_);dsimp only;refine QA (Um ob rfl ft ?_);rw[if_neg (by simp[hn])];simp only[Si];cases v<;>exact q
theorem za(hit:s.heap.get? I=some (jL (.int sl 0) i (.ref a) n ep))(ob:s.heap.get? a=some (bu es ep t))(ft:t.fits es.size=true)(hn:es.size=n)
 (hs:∀(A':UW) (Q':Option (Value×Nat)->UX->Prop) (E':UD),Q' (some (x,nx)) s->wpAny (model P w) A' (setNext a sl i ep) Q' E' s)
 (q:∀h',h'.get? I=some (jL (.int nx 0) (i+1) (.ref a) n ep)->Heap.SameBut I s.heap h'->Q (some x) {s with heap:=h'}):wpAny (model P w) A (pyNext (.ref I)) Q E s:=by
 refine QA (TF (Rc (fF hit) bP (Q7 bP (fF hit) gh ?_ (gU _))));refine rh hit ob ft hn ?_;refine QA (hs _ _ _ ?_);refine QA (pR hit (by omega) λh1 g1 b1=>?_);have g1'  := g1;refine QA (pR g1' (by omega) λh2 g2 b2=>?_);exact QB ⟨_,rfl,QB (q h2 g2 (b1.trans b2))⟩
theorem Ca(hh:A.handled=none)(hit:s.heap.get? I=some (jL (.int sl 0) i (.ref a) n ep))(ob:s.heap.get? a=some (bu es ep t))(ft:t.fits es.size=true)(hn:es.size=n)
 (hs:∀(A':UW) (Q':Option (Value×Nat)->UX->Prop) (E':UD),Q' none s->wpAny (model P w) A' (setNext a sl i ep) Q' E' s)
 (q:∀h',Heap.ExtBut I s.heap h'->Q none {s with heap:=h'}):wpAny (model P w) A (pyNext (.ref I)) Q E s:=by
 refine QA (TF (Rc (fF hit) bP (Q7 bP (fF hit) gh ?_ (gU _))));refine rh hit ob ft hn ?_;refine QA (hs _ _ _ ?_);refine QA (pR hit (by omega) λh1 g1 b1=>?_);exact B9 (B:=λ_=>True) hh q b1.extBut
theorem Fz{place:Nat}(hit:s.heap.get? I=some (jL (.ref T) i (.ref a) n ep))(ob:s.heap.get? a=some (bu es ep t))(ft:t.fits es.size=true)(hn:es.size=n)(hT:s.heap.IsTuple T pl)(hp:pl[i]?=some (rawInt place))(hx:es[place]?=some x)
 (q:∀h',h'.get? I=some (jL (.ref T) (i+1) (.ref a) n ep)->Heap.SameBut I s.heap h'->Q (some x.2) {s with heap:=h'}):wpAny (model P w) A (pyNext (.ref I)) Q E s:=by
 unfold pyNext;refine QA (TF (Rc (name:=Str.ofString "__next__") (fF hit) bP (Q7 bP (fF hit) gh ?_ (gU _))));refine rh hit ob ft hn ?_;dsimp only;obtain⟨oT,gT,cT,nT,dT⟩:=hT;refine QA (RJ gT dT ?_);dsimp only;rw[hp];show wpAny _ _ (setNextDrawn a (Int.toNat (place:Nat)) ep >>= _) _ _ _;rw[Si];unfold setNextDrawn;refine QA (QA (b0 ob ft ?_));dsimp only;rw[if_neg (by simp),hx];refine QB ?_;refine QA (pR hit (by omega) λh1 g1 b1=>?_);exact QB ⟨_,rfl,QB (q h1 g1 b1)⟩
theorem HL(hh:A.handled=none)(hit:s.heap.get? I=some (jL (.ref T) i (.ref a) n ep))(ob:s.heap.get? a=some (bu es ep t))(ft:t.fits es.size=true)(hn:es.size=n)(hT:s.heap.IsTuple T pl)(hp:pl[i]?=none)
 (q:∀h',Heap.ExtBut I s.heap h'->Q none {s with heap:=h'}):wpAny (model P w) A (pyNext (.ref I)) Q E s:=by
 refine QA (TF (Rc (name:=Str.ofString "__next__") (fF hit) bP (Q7 bP (fF hit) gh ?_ (gU _))));refine rh hit ob ft hn ?_;obtain⟨oT,gT,cT,nT,dT⟩:=hT;refine QA (RJ gT dT ?_);dsimp only;rw[hp];refine QA (pR hit (by omega) λh1 g1 b1=>?_);have g1':h1.get? I=some (jL (rawInt 0) i (.ref a) n ep):=g1;refine QA (pR (s:={s with heap:=h1}) g1' (by omega) λh2 g2 b2=>?_);exact B9 (s:={s with heap:=h2}) (h0:=s.heap) (B:=λ_=>True) hh q (b1.trans b2).extBut
theorem vT(ob:s.heap.get? a=some (bu es ep t))(ft:t.fits es.size=true)(hb:cB w=true)(hL:L=pickOrder (w.params.setOrder a ep) es)(h:Q ((L[i]?).map λe=>(e.2,sl)) s):wpAny (model P w) A (setNext a sl i ep) Q E s:=by unfold setNext;refine QA (b0 ob ft ?_);dsimp only;refine QA (fT ?_);rw[if_pos hb,if_neg (by simp)];unfold setWalk;refine QA (QA (b0 ob ft ?_));dsimp only;refine QA (fT ?_);rw[if_pos hb];refine QA (To (QB (QB ?_)));rw[hL]at h;exact h
theorem tp(ob:s.heap.get? a=some (bu es ep t))(ft:t.fits es.size=true)(hb:cB w=false)(hd:(!t.plain&&decide (es.size>1))=false)(hl:t.led=true)
 (h:Q (match es[SetTable.below t.place sl]?,t.place[SetTable.below t.place sl]? with|some (_,x),some j=>some (x,j+1)|_,_=>none) s):wpAny (model P w) A (setNext a sl i ep) Q E s:=by
 unfold setNext;refine QA (b0 ob ft ?_);dsimp only;refine QA (fT ?_);rw[if_neg (by rw[hb];simp)];refine Rp (λz=>absurd z (by show ¬ (!t.plain&&decide (es.size>1))=true;rw[hd];simp)) λ_=>?_;refine QA (m:=(if(!t.led && !es.isEmpty)=true then unsupported "set:maker-not-led" else pure ())) ?_;rw[hl];simp only[SR,TY,QO,Rx];exact QB (QB h)
end
theorem eA:Slot "set_iterator" "__iter__" "set_iterator.__iter__" :=
 .of (by rfl) (by rfl) (by rfl) (by rfl)
  (by trivial) (by rfl)
theorem jr:entryFor table "set_iterator.__iter__" = some Builtin.«dict_keyiterator.__iter__» := entryFor_alias (id' := "dict_keyiterator.__iter__") (by kernel_rfl) rfl (by decide +kernel) (by kernel_rfl)
theorem kb(a:Value):argsOk "set_iterator.__iter__" ⟨[a],[]⟩:=by unfold argsOk;rw[signature?_of (id := "set_iterator.__iter__") (n:=['_', '_', 'r', 'e', 't', 'i', '_', '_']) (o:=['r', 'o', 't', 'a', 'r', 'e', 't', 'i', '_', 't', 'e', 's']) (by kernel_rfl) y9];rfl
def slotAt(place:US):Nat->Nat
 |0=>0
 |i+1=>place.getD i 0+1
theorem tu(r:oG xs):∀i,i<=xs.size->SetTable.below xs (slotAt xs i)=i
 |0,_=>by
  obtain⟨a,_,c⟩:=iy r (slotAt xs 0);apply Rv;intro z;have h0:0<SetTable.below xs (slotAt xs 0):=by omega
  have:=a 0 (by omega) h0
  grind[slotAt]
 |i+1,h=>by
  have hi:i<xs.size:=by omega
  have e:slotAt xs (i+1)=xs[i]+1:=by simp[slotAt,Array.getD,hi]
  rw[e];obtain⟨a,b,c⟩:=iy r (xs[i]+1);apply Rv;intro z;by_cases h1:SetTable.below xs (xs[i]+1)<=i
  ·have:=b i hi h1;omega
  ·have h2:i+1<SetTable.below xs (xs[i]+1):=by omega
   have h3:i+1<xs.size:=by omega
   have:=a (i+1) h3 h2;have:=qZ r (i:=i) (k:=i+1) (by omega) h3;omega
section
variable {P:UT} {w:World} {A:UW} {E:UD} {s:UX} {vp:Value->Prop}
theorem xp{Q:UD}(hT:s.TypeIs (.ref I) "set_iterator")(h:Q (.ref I) s):wpAny (model P w) A (Builtin.«dict_keyiterator.__iter__» ⟨[.ref I],[]⟩) (λfin s'=>∃v,fin=.done (.ret v)/\∃T' r,s'.TypeIs v T'/\typeLookup (.type T') (Str.ofString "__next__")=pure (some r)/\Q v s') E s:=QB ⟨_,rfl, "set_iterator",_,hT,bP.lookup,h⟩
noncomputable def HM(P:UT)(w:World)(s:UX)(a:Addr)(es:UH)(Q:UD):Prop:=
 ∀(L:List (Int×Value)) (I:Addr) (h':Heap) (dr:Drawn) (fp:UK) (St:Nat->Heap->Prop),List.Perm L es.toList->(∀b∈fp,b<h'.objs.size)->I∈fp->(∀b∈fp,b=a\/s.heap.objs.size<=b)->s.heap.objs.size<=I->(∀b o,s.heap.get? b=some o->h'.get? b=some o) ->
  (∀A':UW,A'.handled=none->Walks P w A' I fp [I] L.length (λi v=>∃e,L[i]?=some e/\v=e.2) St)->St 0 h'->Q (.ref I) {s with heap:=h',drawn:=dr}
theorem FA(S:cy vp w s.heap a md ds es ep t)(q:HM P w s a es Q):wpAny (model P w) A (pyIter (.ref a)) Q E s:=by
 have hT:s.TypeIs (.ref a) "set" := ⟨_,S.ob,rfl⟩;have hes:=S.size;have hln:=S.ln;have la:a<s.heap.objs.size:=QF S.ob;refine TV hT F.slot_set_iter (Q7 F.slot_set_iter hT tm ?_ (F.args_set_iter_1 _));unfold Builtin.«frozenset.__iter__»;refine QA (SQ (a:=a) rfl ?_);unfold Builtin.Frozenset.sizeOf;refine QA (QA (Um S.ob rfl S.tb.fits (QB ?_)));unfold setDrawn;refine QA (QA (b0 S.ob S.tb.fits ?_));dsimp only;refine QA (fT (QB ?_));have fits:=S.tb.fits;by_cases hd:(!cB w&&(!t.plain&&decide (es.size>1)))=true
 ·
  refine Rp (λ_=>?_) λz=>absurd hd z;refine QA (xn es.size (List.range es.size) s _ (by simp) λidx dr p=>?_);have hil:idx.length=es.size:=by have:=p.length_eq;simpa using this
  refine QA (wpAny_newTuple (hsz:=by rw[QR,hil,R9];omega) ?_);refine QA (TU (s:={s with heap:=s.heap.push _,drawn:=dr}) (QC _ S.ob) rfl fits ?_);refine QA (Rb (QB ⟨_,rfl, "set_iterator",_,⟨_,QJ _ rfl,rfl⟩,bP.lookup,?_⟩));generalize hob:({cls:=.type "tuple",data:=.seq (idx.map λ(i:Nat)=>rawInt i).toArray}:Obj)=oT;have hsz:(s.heap.push oT).objs.size=s.heap.objs.size+1:=Rf _ _;have hin:∀k∈idx,k<es.size:=λk hk=>RA.mp (p.mem_iff.mp hk);have hget:∀i k,idx[i]?=some k->∃e,es[k]?=some e:=λi k e=>⟨_,Q3 (hin k (QZ e))⟩;obtain⟨g1,g2⟩:=AJ (es:=es) (l:=idx.map λk=>(0,k)) (λp hp=>by obtain⟨k,hk,rfl⟩:=Q4.mp hp;exact hin k hk);have em:(idx.map λk=>((0:Nat),k)).map (·.2)=idx:=by rw[Uo];exact List.map_id idx
  rw[em]at g1 g2;have hLp:List.Perm (idx.filterMap λk=>es[k]?) es.toList:=(p.filterMap _).trans (by rw[filterMap_getElem?_range]);have hLn:(idx.filterMap λk=>es[k]?).length=es.size:=by rw[hLp.length_eq];simp
  refine q (idx.filterMap λk=>es[k]?) (s.heap.push oT).objs.size _ dr [(s.heap.push oT).objs.size,s.heap.objs.size,a] (λi h=>h.get? (s.heap.push oT).objs.size=some (jL (.ref s.heap.objs.size) i (.ref a) es.size ep)/\h.IsTuple s.heap.objs.size (idx.map λ(i:Nat)=>rawInt i).toArray/\h.get? a=some (bu es ep t)) hLp (λb hb=>?_) (QS ..) (λb hb=>by simp only[QK,Ra,Su]at hb;rcases hb with rfl|rfl|rfl;exact .inr (by rw[hsz];exact Sb _);exact .inr (QE _);exact .inl rfl) (by rw[hsz];exact Sb _) (λb o e=>QC _ (QC _ e)) (λA' hh=>?_) ⟨?_,?_,?_⟩
  ·rw[Rf,hsz];simp only[QK,Ra,Su]at hb;rcases hb with rfl|rfl|rfl
   ·rw[hsz];exact Sn _
   ·exact QH (Sn _) (Sb _)
   ·exact QH la (by omega)
  ·have n1:s.heap.objs.size≠(s.heap.push oT).objs.size:=by rw[hsz];exact QQ (Sn _)
   have n2:a≠(s.heap.push oT).objs.size:=by rw[hsz];exact QQ (RY la)
   refine⟨λb hb=>by simp at hb;simp[hb],λi h h' ⟨x1,⟨o,x2,x3⟩,x4⟩ k=>⟨k _ (by simp) _ x1,⟨o,k _ (by simp) _ x2,x3⟩,k _ (by simp) _ x4⟩,λi s' Q' E' hi ⟨x1,x2,x3⟩ hQ=>?_,λs' Q' E' ⟨x1,x2,x3⟩ hQ=>?_,λi s' Q' E' ⟨x1,_,_⟩ hQ=>?_⟩
   ·rw[hLn]at hi;have hi2:i<idx.length:=by omega
    have ek:=QP hi2;obtain⟨e,he⟩:=hget i _ ek;refine Fz (x:=e) x1 x3 fits rfl x2 (place:=idx[i]) (by simp[ek]) he λh' y1 sb=>hQ e.2 h' s'.toks ⟨e,?_,rfl⟩ ⟨y1,?_,(sb.2 a n2).trans x3⟩ λb o hb eo=>(sb.2 b λz=>hb (by simp[z])).trans eo
    ·rw[g2 i (0,idx[i]) (by simp[ek])];exact he
    ·obtain⟨o,x2,x4⟩:=x2;exact⟨o,(sb.2 _ n1).trans x2,x4⟩
   ·rw[hLn]at x1;refine HL hh x1 x3 fits rfl x2 (by simp;omega) λh' eb=>hQ h' s'.toks λb o hb eo=>eb b o (λz=>hb (by simp[z])) eo
   ·have hT':s'.TypeIs (.ref (s.heap.push oT).objs.size) "set_iterator" := fF x1;exact TV hT' eA (Q7 eA hT' jr (xp hT' hQ) (kb _))
  ·exact QJ _ rfl
  ·subst hob;exact⟨_,QC _ (QJ _ rfl),rfl,_,rfl⟩
  ·exact QC _ (QC _ S.ob)
 ·refine Rp (λz=>absurd z hd) λ_=>?_;refine QA (QB ?_);refine QA (TU S.ob rfl fits ?_);refine QA (Rb (QB ⟨_,rfl, "set_iterator",_,⟨_,QJ _ rfl,rfl⟩,bP.lookup,?_⟩));have na:a≠s.heap.objs.size:=QQ la;by_cases hb:cB w=true
  ·
   have pk:=vS (w.params.setOrder a ep) es;have pkn:(pickOrder (w.params.setOrder a ep) es).toList.length=es.size:=by rw[pk.length_eq];simp
   refine q (pickOrder (w.params.setOrder a ep) es).toList s.heap.objs.size _ s.drawn [s.heap.objs.size,a] (λi h=>h.get? s.heap.objs.size=some (jL (.int ((0:Nat):Int) 0) i (.ref a) es.size ep)/\h.get? a=some (bu es ep t)) pk (λb hb=>?_) (QS ..) (λb hb=>by simp only[QK,Ra,Su]at hb;rcases hb with rfl|rfl;exact .inr (QE _);exact .inl rfl) (QE _) (λb o e=>QC _ e) (λA' hh=>?_) ⟨QJ _ rfl,QC _ S.ob⟩
   ·rw[Rf];simp only[QK,Ra,Su]at hb;rcases hb with rfl|rfl
    ·exact Sn _
    ·exact RY la
   ·refine⟨λb hb=>by simp at hb;simp[hb],λi h h' ⟨x1,x4⟩ k=>⟨k _ (by simp) _ x1,k _ (by simp) _ x4⟩,λi s' Q' E' hi ⟨x1,x3⟩ hQ=>?_,λs' Q' E' ⟨x1,x3⟩ hQ=>?_,λi s' Q' E' ⟨x1,_⟩ hQ=>?_⟩
    ·have ek:=QP hi;generalize (pickOrder (w.params.setOrder a ep) es).toList[i]=e at ek;refine za (x:=e.2) (nx:=0) x1 x3 fits rfl (λA2 Q2 E2 h2=>vT x3 fits hb rfl ?_) λh' y1 sb=>hQ e.2 h' s'.toks ⟨e,ek,rfl⟩ ⟨y1,(sb.2 a na).trans x3⟩ λb o hb eo=>(sb.2 b λz=>hb (by simp[z])).trans eo;rw[<- Rh,ek];exact h2
    ·refine Ca hh x1 x3 fits rfl (λA2 Q2 E2 h2=>vT x3 fits hb rfl ?_) λh' eb=>hQ h' s'.toks λb o hb eo=>eb b o (λz=>hb (by simp[z])) eo;rw[<- Rh,List.getElem?_eq_none (QE _)];exact h2
    ·have hT':s'.TypeIs (.ref s.heap.objs.size) "set_iterator" := fF x1;exact TV hT' eA (Q7 eA hT' jr (xp hT' hQ) (kb _))
  ·
   have hb':cB w=false:=by simpa using hb
   have hd':(!t.plain&&decide (es.size>1))=false:=by rw[hb']at hd;simpa using hd
   have hled:t.led=true:=by
    rcases S.ld with z|z
    ·exact z
    ·exact absurd z hb
   have hps:t.place.size=es.size:=S.tb.sz;refine q es.toList s.heap.objs.size _ s.drawn [s.heap.objs.size,a] (λi h=>h.get? s.heap.objs.size=some (jL (.int ((slotAt t.place i:Nat):Int) 0) i (.ref a) es.size ep)/\h.get? a=some (bu es ep t)) (.refl _) (λb hb=>?_) (QS ..) (λb hb=>by simp only[QK,Ra,Su]at hb;rcases hb with rfl|rfl;exact .inr (QE _);exact .inl rfl) (QE _) (λb o e=>QC _ e) (λA' hh=>?_) ⟨QJ _ rfl,QC _ S.ob⟩
   ·rw[Rf];simp only[QK,Ra,Su]at hb;rcases hb with rfl|rfl
    ·exact Sn _
    ·exact RY la
   ·refine⟨λb hb=>by simp at hb;simp[hb],λi h h' ⟨x1,x4⟩ k=>⟨k _ (by simp) _ x1,k _ (by simp) _ x4⟩,λi s' Q' E' hi ⟨x1,x3⟩ hQ=>?_,λs' Q' E' ⟨x1,x3⟩ hQ=>?_,λi s' Q' E' ⟨x1,_⟩ hQ=>?_⟩
    ·have hi':i<es.size:=by simpa using hi
     have ek:=Q3 hi';have ep':=Q3 (show i<t.place.size by omega);refine za (x:=es[i].2) (nx:=slotAt t.place (i+1)) x1 x3 fits rfl (λA2 Q2 E2 h2=>tp x3 fits hb' hd' hled ?_) λh' y1 sb=>hQ es[i].2 h' s'.toks ⟨es[i],by rw[Rh];exact ek,rfl⟩ ⟨y1,(sb.2 a na).trans x3⟩ λb o hb eo=>(sb.2 b λz=>hb (by simp[z])).trans eo;rw[tu S.tb.rp i (by omega),ek,ep'];have:slotAt t.place (i+1)=t.place[i]'(by omega)+1:=by simp[slotAt,Array.getD,show i<t.place.size by omega]
     rw[this]at h2;exact h2
    ·have hl:es.toList.length=es.size:=by simp
     rw[hl]at x1;refine Ca hh x1 x3 fits rfl (λA2 Q2 E2 h2=>tp x3 fits hb' hd' hled ?_) λh' eb=>hQ h' s'.toks λb o hb eo=>eb b o (λz=>hb (by simp[z])) eo;rw[tu S.tb.rp es.size (by omega),Array.getElem?_eq_none (QE _)];exact h2
    ·have hT':s'.TypeIs (.ref s.heap.objs.size) "set_iterator" := fF x1;exact TV hT' eA (Q7 eA hT' jr (xp hT' hQ) (kb _))
end
section
variable {P:UT} {w:World} {A:UW} {E:UD} {s:UX} {vp:Value->Prop}
theorem FC(hT:s.TypeIs (.ref r) "set")(h:Q false s):wpAny (model P w) A (Builtin.List.listLengthHint (.ref r)) Q E s:=by
 unfold Builtin.List.listLengthHint;refine QA (SI hT PySem.F.slot_set_len.lookup ?_);generalize hid:("set.__len__" : String)=id0
 wp_delta
 rw[show splitId id0=some ("set", "__len__")from by subst hid;decide +kernel];subst hid;refine QA (SV (T := "set") (b:=true) hT sub_set_self ?_);refine Rp (λhab=>absurd hab (by decide)) (λ_=>?_);refine Rp (λ_=>?_) (λhab=>absurd (by decide +kernel) hab);refine QA (T4 hT ?_);exact QB h
theorem zb(S:cy vp w s.heap a md ds es ep t)(hh:A.handled=none)
 (q:∀(L:List (Int×Value)) h' dr tk,s.heap.objs.size<h'.objs.size->List.Perm L es.toList->(∀b o,s.heap.get? b=some o->h'.get? b=some o)->Q (L.map (·.2)) {s with heap:=h',drawn:=dr,toks:=tk}):wpAny (model P w) A (collect (.ref a)) Q E s:=by
 have hes:=S.size;have hln:=S.ln;unfold collect;refine QA (wpAny_runValue (S9 F.entry_proto_collect ?_));rw[SF F.plain_proto_collect _];show wpAny _ A.in1 (newList [] >>= λl=>again (.builtin "list.__iadd__" ⟨[l,.ref a],[]⟩)) _ _ s;refine QA (Rb ?_);refine QB ⟨Ud F.plain_list_iadd _,S9 F.entry_list_iadd ?_⟩;rw[SF F.plain_list_iadd _];have hS₁:(s.heap.push {cls:=.type "list",data:=.seq ([]:UL).toArray}).get? s.heap.objs.size=some {cls:=.type "list",data:=.seq ([]:UL).toArray}:=QJ _ rfl;have la:=QF S.ob;have h1:Builtin.List.listSameRef (.ref s.heap.objs.size) (.ref a)=false:=by simp[Builtin.List.listSameRef,Sr la]
 have S1:cy vp w (s.heap.push {cls:=.type "list",data:=.seq ([]:UL).toArray}) a md ds es ep t:=S.keep λb o e=>QC _ e;show wpAny _ A.in1 (Builtin.List.listExtendWith (.ref s.heap.objs.size) (.ref a) (.ref s.heap.objs.size)) _ _ _;unfold Builtin.List.listExtendWith;refine QA (T4 (T := "set") ⟨_,S1.ob,rfl⟩ ?_);rw[if_neg (by rw[h1];decide)];refine QA (FA (s:={s with heap:=s.heap.push {cls:=.type "list",data:=.seq ([]:UL).toArray}}) S1 λL I h' dr fp St p f1 f2 f5 f3 f4 W st=>?_);have hS2:=f4 _ _ hS₁;refine QA (Ri (FC (s:={s with heap:=h',drawn:=dr}) ⟨_,f4 _ _ S1.ob,rfl⟩ ?_));rw[if_pos (by decide)];have hLn:L.length=es.size:=by rw[p.length_eq];simp
 have hSf:s.heap.objs.size∉fp:=λhm=>by
  rcases f5 _ hm with z|z
  ·exact absurd la (by rw[<- z];exact QU _)
  ·have z':(s.heap.push {cls:=.type "list",data:=.seq ([]:UL).toArray}).objs.size<=s.heap.objs.size:=z;rw[Rf]at z';exact absurd z' (Nat.not_le.mpr (Sn _))
 refine QA (Sh ?_);refine QA ?_;show wpAny _ _ (updateSeq s.heap.objs.size (·.push .none) >>= λ_=>updateSeq s.heap.objs.size (·.pop)) _ _ _;refine QA (wpAny_updateSeq hS2 rfl ?_);have hS3:=R4 (Obj.mapSeq (·.push Value.none)) hS2 rfl;refine wpAny_updateSeq (hz:=by seq_fits) hS3 rfl ?_;have hS4:=R4 (Obj.mapSeq (·.pop)) hS3 rfl;have oth:∀b o,b≠s.heap.objs.size->h'.get? b=some o->((h'.update s.heap.objs.size (Obj.mapSeq (·.push Value.none))).update s.heap.objs.size (Obj.mapSeq (·.pop))).get? b=some o:=λb o hb e=>(SX _ _ (Tp hb)).trans ((SX _ _ (Tp hb)).trans e);have st2:=(W A.in1 hh).frame 0 _ _ st λb hb o e=>oth b o (λz=>hSf (z▸hb)) e;refine QB ⟨Ud F.plain_extend_loop _,codeAny_extend_loopS (W A.in1 hh).toS (by rw[hLn,R9];omega) _ hSf _ L.length 0 _ _ _ rfl (RV _) st2 hS4 (ItemsOf.nil _) λs' acc' c' hm hS' hacc=>?_⟩;show wpAny _ A (load s.heap.objs.size >>= _) _ _ s';refine QA (TN hS' ?_);refine QB ?_
 have e1:acc'.toList=L.map (·.2):=by
  apply List.ext_getElem?;intro j;rw[Rh,RP];by_cases hj:j<acc'.size
  ·obtain⟨e,he,hv⟩:=hacc.2 j acc'[j] (Q3 hj);rw[Q3 hj,he,hv];rfl
  ·rw[Array.getElem?_eq_none (by omega),List.getElem?_eq_none (by rw[<- hacc.1];omega)];rfl
 rw[e1];obtain⟨hp2,g2,d2,tk2,os2⟩:=s';have eg:g2=s.gens:=hm.gens;have ed:d2=dr:=hm.drawn;have eo:os2=s.os:=hm.os;subst eg;subst ed;subst eo;refine q L hp2 d2 tk2 (QF hS') p λb o e=>hm.heap b o (λz=>?_) (oth b o (QQ (QF e)) (f4 _ _ (QC _ e)));have lb:=QF e;rcases QK.mp z with z|z
 ·rw[z]at lb;exact QU _ lb
 ·rw[QT.mp z]at lb;have f3':(s.heap.push {cls:=.type "list",data:=.seq ([]:UL).toArray}).objs.size<=I:=f3;rw[Rf]at f3';exact absurd (QH lb (Nat.le_of_succ_le f3')) (QU _)
end
theorem qy:∀{vs:UL} {ds:UJ},Paired (λv d=>∃as,Reads h v d as) vs ds->∃as,ReadsAll h vs ds as
 |_,_,.nil=>⟨_,.nil⟩
 |_,_,.cons ⟨_,r⟩ t=>let ⟨_,q⟩:=qy t;⟨_,.cons r q⟩
theorem mZ(r:ReadsAll h vs ds as):∀(p:List Nat),(∀i∈p,i<vs.length)->∃bs,ReadsAll h (p.map λi=>vs.getD i .none) (p.map λi=>ds.getD i .none) bs
 | [],_=>⟨_,.nil⟩
 |i::p,hp=>by
  have hi:=hp i (QS ..);obtain⟨bs,q⟩:=mZ r p λj hj=>hp j (QL _ hj);obtain⟨d,cs,e1,e2⟩:=readsAll_get r (QP hi);refine⟨_,.cons (as:=cs) ?_ q⟩
  simp_all
section
variable {P:UT} {w:World} {A:UW} {E:UD} {s:UX} {vp:Value->Prop}
theorem zc(p:List.Perm ds es)(h:dG ds=true):dG es=true:=by
 unfold dG at h ⊢;rw[QX]at h ⊢;intro a ha;have:=h a (p.mem_iff.mpr ha);rw[QX]at this ⊢
 grind
theorem ze{f:PyData->Bool}(p:List.Perm ds es)(h:ds.all f=true):es.all f=true:=by
 rw[QX]at h ⊢
 grind
theorem fG:∀{ds:UJ} {n:Nat},PyData.depthAll ds<=n<->∀d∈ds,d.depth<=n
 | [],n=>by simp[PyData.depthAll]
 |d::ds,n=>by simp[PyData.depthAll];rw[<- fG];omega
theorem vU:ao ds=true<->∀d∈ds,aj d=true:=⟨λh d m=>aM h m,iQ⟩
theorem AL(S:bX vp w s.heap a md ds)(hh:A.handled=none)(pz:List.Perm ds zs)(ok:cY zs=true)(hu:A.units+60<cLine)
 (q:∀h' dr tk p us e,s.heap.objs.size<=p->(∀b o,s.heap.get? b=some o->h'.get? b=some o)->h'.get? p=some (PyProof.Rows.seqObj "list" (us:UL).toArray e)->(∃as,ReadsAll h' us (cD ltB zs) as)->(∀u∈us,vp u)->Q (.ref p) {s with heap:=h',drawn:=dr,toks:=tk}):wpAny (model P w) A (call (.builtin "sorted") [.ref a]) Q E s:=by
 obtain⟨es,ep,t,S⟩:=S;simp only[cY,QG,Rj,S8]at ok;obtain⟨⟨⟨⟨kd,tr⟩,cm⟩,dp⟩,h64⟩:=ok;refine Calls.call_function_entry PyProof.Rows.kind_sorted PyProof.Rows.plain_sorted PyProof.Rows.entry_sorted (PyProof.Rows.args_sorted1 _) ?_;unfold Builtin.«sorted»;refine QA (m:=checkCount "sorted" 1 1 _) (QB ?_);refine QA (zb S (by simp[hh]) λL h1 dr tk sz1 pL k1=>?_);obtain⟨ds1,p1,e1⟩:=iY pL.symm S.el;have pd:List.Perm ds1 zs:=p1.symm.trans pz;have hLd:L.length=ds1.length:=Q0 e1;have hdz:ds1.length=zs.length:=pd.length_eq;generalize hvs:L.map (·.2)=vs;have hvl:vs.length=zs.length:=by rw[<- hvs,QR,hLd,hdz]
 obtain⟨as,ra⟩:∃as,ReadsAll h1 vs ds1 as:=by
  refine qy ?_;rw[<- hvs]
  have:∀{l:List (Int×Value)} {ys:UJ},Paired (El vp w s.heap md) l ys->Paired (λv d=>∃as,Reads h1 v d as) (l.map (·.2)) ys:=by
   intro l ys h
   induction h with
   |nil=>exact .nil
   |cons r _ ih=>exact .cons (let ⟨as,x⟩:=r.rd;⟨as,jF (λb o _ _ e _ _=>k1 b o e) r.tr x⟩) ih
  exact this e1
 refine QA (wpAny_newList (hsz:=by rw[hvl,R9];omega) ?_);have hoL:(h1.push (PyProof.Rows.seqObj "list" vs.toArray 0)).get? h1.objs.size=some (PyProof.Rows.seqObj "list" vs.toArray 0):=QJ _ rfl;have tr1:ao ds1=true:=vU.mpr λd m=>vU.mp tr d (pd.mem_iff.mp m);have cm1:=zc pd.symm cm;have O:=MM (gZ cm1 tr1);rw[hdz,<- hvl]at O;refine QA (Ri (Q7 PyProof.Rows.slot_list_sort ⟨_,hoL,rfl⟩ PyProof.Rows.entry_list_sort (PySem.W.mQ hoL O (by omega) (λh' k h2=>?_) λp a1 a2=>⟨_,rfl,?_⟩) (PyProof.Rows.args_list_sort _)))
 ·have ra':ReadsAll h' vs ds1 as:=Rq (λb o e=>k b o (QQ (QF e)) (QC _ e)) ra
  have la:PyData.canLayAll0 ds1=true:=n6 (bh.mpr λd m=>by
   obtain⟨i,hi⟩:=RG m;obtain⟨e,_,x⟩:=iX e1 hi
   exact x.so) (fo tr1)
  rcases kd with kd|kd
  ·exact vw (s:={s with heap:=h',drawn:=dr,toks:=tk}) ra' (ze pd.symm kd) h2
  ·exact vt (s:={s with heap:=h',drawn:=dr,toks:=tk}) (by show A.units+1+1+41<cLine;omega) ra' (ze pd.symm kd) tr1 cm1 la (fG.mpr λd m=>fG.mp dp d (pd.mem_iff.mp m)) (by omega)
 ·obtain⟨e,he⟩:=PyProof.Rows.sortedHeap_at (out:=(p.toList.map λi=>vs.getD i Value.none).toArray) hoL;have kp:∀b o,h1.get? b=some o->(PyProof.Rows.sortedHeap (h1.push (PyProof.Rows.seqObj "list" vs.toArray 0)) h1.objs.size vs (p.toList.map λi=>vs.getD i Value.none).toArray).get? b=some o:=λb o eb=>by rw[PyProof.Rows.sortedHeap_old (QQ (QF eb)) (by rw[Rf];exact RY (QF eb))];exact QC _ eb
  have hin:∀i∈p.toList,i<vs.length:=λi hi=>RA.mp (a1.perm.mem_iff.mp hi);obtain⟨bs,rb⟩:=mZ ra p.toList hin
  have e1':(p.toList.map λi=>ds1.getD i .none)=cD ltB zs:=by
   refine yp cm tr ?_ ?_
   ·have:=a1.perm.map (λi=>ds1.getD i .none);rw[hvl,<- hdz,jU]at this;exact this.trans pd
   ·have hlp:p.toList.length=vs.length:=by rw[a1.perm.length_eq,List.length_range]
    unfold Up;rw[Te,Sz];intro i j hi hj hij;have x1:PySem.W.pat p i=p.toList[i]:=by simp only[RD]at hi;rw[PySem.W.kL,UC p i hi];simp
    have x2:PySem.W.pat p j=p.toList[j]:=by simp only[RD]at hj;rw[PySem.W.kL,UC p j hj];simp
    have:=a2 i j hij (by omega);rw[x1,x2]at this;exact this
  rw[e1']at rb;refine QB ⟨_,rfl,q _ dr tk h1.objs.size (p.toList.map λi=>vs.getD i Value.none) e (Tu sz1) (λb o eb=>kp b o (k1 b o eb)) he ⟨bs,Rq kp rb⟩ λu hu=>?_⟩;obtain⟨i,hi,rfl⟩:=Q4.mp hu;have hil:=hin i hi;have eu:vs.getD i Value.none=vs[i]:=by simp[hil]
  have hmem:vs[i]∈L.map (·.2):=by rw[hvs];exact UB hil
  obtain⟨e',he',e2⟩:=Q4.mp hmem;obtain⟨j,hj⟩:=RG he';obtain⟨d',_,x⟩:=fc e1 hj;rw[eu,<- e2];exact x.vl
end
end LP
namespace Ml
open PySem PySem.Spec L2 LP
theorem _root_.L2.Inv.dr{σ:St}(I:L2.Inv X pins σ H s)(dr:Drawn):L2.Inv X pins σ H {s with drawn:=dr}:=⟨I.ok,I.os,I.bare,I.base,I.loc,I.cell,I.free,I.freeC,I.pin,I.hok,I.len⟩
structure FD(X:Cx)(M:Hp)(s:UX)(b:Addr)(ds:UJ)(vs:List V)(its:UL):Prop where
 src:∃T OK,Src X.prog X.w T b its.toArray OK/\OK s.heap
 rep:bb M ds vs
 val:Vals vs its
 so:cE ds=true
theorem xq{σ:St}(I:L2.Inv X pins σ H s)(w:W X.G θ hm H)(r:bR X.G θ H d v)(e:iU d hm=some ds) :
  ∃b vs its,v=.ref b/\FD X (view θ H) s b ds vs its:=by
 have tup:∀(b:Addr) (vs:List V),v=.ref b->gB X.K H b vs->bb _ ds vs->cE ds=true->∃b vs its,v=.ref b/\FD X (view θ H) s b ds vs its:=λb vs e1 e2 e3 e4=>by obtain⟨its,rv,pl,_⟩:=I.tuple e2;exact⟨b,vs,its,e1,⟨"tuple",_,src_tuple b its.toArray,pl⟩,e3,rv,e4⟩
 have hs:=e;unfold iU at hs;split at hs
 ·cases hs;obtain⟨⟨b,vs,rfl,hb,rr⟩,so⟩:=r;exact tup b vs rfl (.inl (.inl (ax _ _ _ _ hb))) rr (by assumption)
 ·cases hs;obtain⟨b,rfl,⟨o,its,n,k1,k2,k3,k4,k5⟩,k6,k7⟩:=r;refine tup b _ rfl (.inr ⟨o,its,n,k1,k2,k3,k4,k5⟩) (lY (yG (G:=X.G) k6 k7) (lX _)).1 k7
 ·obtain⟨b,vs,rfl,hb,rr,so⟩:=qX w r hs;obtain⟨its,n,rv,eo,hz⟩:=I.lst hb;exact⟨b,vs,its,rfl,⟨"list",_,src_list b its.toArray,⟨_,eo,rfl,n,rfl⟩⟩,rr,rv,so⟩
theorem tw(rp:bb M ds vs)(rv:Vals vs its)(ra:ReadsAll h its ds as):∀{us:UL} {zs:UJ} {bs:UK},ReadsAll h us zs bs->(∀u∈us,u∈its)->∃ws,Vals ws us/\bb M zs ws
 |_,_,_,.nil,_=>⟨[],.nil,rfl⟩
 |_,_,_,.cons r t,hu=>by obtain⟨ws,q1,q2⟩:=tw rp rv ra t λu m=>hu u (QL _ m);obtain⟨i,hi⟩:=RG (hu _ (QS ..));obtain⟨d,cs,e1,e2⟩:=readsAll_get ra hi;obtain⟨x,e3,e4⟩:=bb.get' rp e1;obtain⟨u',e5,e6⟩:=rv.get e3;rw[hi]at e5;cases e5;have:=(Uq r _ _ e2).1;subst this;exact⟨x::ws,.cons e6 q1,.cons e4 q2⟩
theorem tB(h:setOk ds=true)(so:cE ds=true):∃md,ds.length<=120/\(∀d∈ds,aG d=true)/\∀d∈ds,Lf md d:=by
 simp only[setOk,QG,Rj,S8]at h;obtain⟨⟨⟨h1,h2⟩,h3⟩,h4⟩:=h;have t:=vE.mp h2;rcases h1 with h1|h1
 ·exact⟨true,h4,t,λd m=>⟨t d m,fG.mp h3 d m,bh.mp so d m,QX.mp h1 d m⟩⟩
 ·refine⟨false,h4,t,λd m=>⟨t d m,fG.mp h3 d m,bh.mp so d m,?_⟩⟩;have:=QX.mp h1 d m;cases d<;>simp[gF]at this<;>rfl
section
variable {X:Cx} {E:XK} {m m2:ME} {e e2:Expr} {k:Nat} {pins:UE} {σ:St} {H:Hp} {s:UX} {θ:UK} {hm:Hm} {Q:VK} {p1 p2 p3 p4 p5 p6 pos:Pos}
theorem tD(I:L2.Inv X pins σ H s)(w:W X.G θ hm H)(sm:M=view θ H)(hk:∀b o,s.heap.get? b=some o->s'.heap.get? b=some o)(hs:∃h tk dr,s'={s with heap:=h,toks:=tk,drawn:=dr})(hsz:s.heap.objs.size<=s'.heap.objs.size)
 (S:bX vp X.w s'.heap a md dsS)(hh:X.A.handled=none)(pz:List.Perm dsS zs)(ok:cY zs=true)(so:cE zs=true)(hu:X.A.units+60<cLine)(rp:bb M ds vs)(rv:Vals vs its)(ra:ReadsAll s'.heap its ds as)(hvp:∀v,vp v->v∈its)
 (q:aD X.G (mJ X.G E) θ H (.ok (.dat (.list (cD ltB zs))) hm) (KV X.G Q)):wpAny (model X.prog X.w) X.A (call (.builtin "sorted") [.ref a]) (EP X pins σ Q) X.xe s':=by
 obtain⟨h1,tk1,dr1,rfl⟩:=hs;refine AL S hh pz ok hu λh' dr tk p us e' hp kp he ⟨bs,rb⟩ vu=>?_;have ra':ReadsAll h' its ds as:=Rq kp ra;obtain⟨ws,q1,q2⟩:=tw rp rv ra' rb λu m=>hvp u (vu u m);have hpp:s.heap.objs.size<=p:=QM hsz hp;have hn:H p=none:=I.hok.fresh hpp;obtain⟨ev,w1,g⟩:=w.put (o:=.lst ws) hn
 have hlen:ws.length<=sizeLine:=by
  have x1:=q2.length;have x2:(cD ltB zs).length=zs.length:=(bN _ _).length_eq;simp only[cY,QG,Rj]at ok
  grind[sizeLine_eq]
 have I2:L2.Inv X pins σ (upd H p (.lst ws)) {s with heap:=h',toks:=tk}:=I.laid (t':=tk) (λb o eb=>kp b o (hk b o eb)) hpp ⟨hlen,us,e',q1,he⟩;subst sm;exact⟨.ref p,_,I2.dr dr,rfl,q _ _ ev w1 _ ⟨⟨p,ws,rfl,g,q2.same ev.same⟩,by simp only[cX];exact vz (bN _ _).symm so⟩⟩
theorem tE(hc:X.calm=true)(hr:L2.cg k X.A)(hm1:X.mg "sorted" = none)(hm2:X.mg "set" = none)(ha:DE X E m e)(hg:Gl X "sorted" := by rfl)(hg2:Gl X "set" := by rfl)(hs:starEach [e] X.env=[(false,eval e X.env)]:=by rfl)
 (hs3:starEach [.Call (.Name "set" p2) [e] [] p3] X.env=[(false,eval (.Call (.Name "set" p2) [e] [] p3) X.env)]:=by rfl) :
  DE X E (af eV (aa m ah)) (.Call (.Name "sorted" p1) [.Call (.Name "set" p2) [e] [] p3] [] pos):=by
 simp only[br]at *;intro pins s σ H Q I ⟨θ,h,ρ,w,fr,p⟩;refine RB (jQ I hg hm1 (by decide +kernel:bootBuiltins "sorted" = some (.builtin "sorted")) ?_);refine SN ?_ (by rw[hs3];rfl) (by rfl);rw[hs3];show wpAny _ _ (spliced ((false,eval (.Call (.Name "set" p2) [e] [] p3) X.env)::[])) _ _ s;refine R6 ?_;refine RB (jQ I hg2 hm2 (by decide +kernel:bootBuiltins "set" = some (.type "set")) ?_);refine RT ?_ (by rw[hs];rfl) (by rfl);rw[hs];show wpAny _ _ (spliced ((false,eval e X.env)::[])) _ _ s;simp only[af,aa,ah,R.bind_assoc,R.aK]at p;refine R6 (bw (ha pins s σ H (λv H1=>∃θ1 h1 d,W X.G θ1 h1 H1/\bR X.G θ1 H1 d v/\aD X.G (mJ X.G E) θ1 H1 (eV [d] h1) (Ml.KV X.G Q)) I ⟨θ,h,ρ,w,fr,(aD.bind p).mono λd θ1 h1 H1 _ _ ⟨ev,w1,q1⟩ v r1=>⟨θ1,h1,d,w1,r1,q1⟩⟩) λu s1 ⟨v,H1,I1,rv1,θ1,h1,d,w1,r1,q1⟩=>?_);refine SG ?_
 cases hsq:iU d h1 with
 |none=>simp only[eV,hsq]at q1;exact q1.elim
 |some ds=>
  have hds:=hsq;simp only[eV,hsq]at q1;by_cases hc2:(setOk ds&&cY (gH ds))=true
  ·rw[if_pos hc2]at q1
   ·skip
    simp only[QG]at hc2;obtain⟨b,vs,its,rfl,SS⟩:=xq I1 w1 r1 hds;cases rv1;obtain⟨T,OK,src,hok⟩:=SS.src;obtain⟨as,ra⟩:=bb.reads I1 (SS.rep.same (ax _ _)) SS.val;obtain⟨md,hl,ht,hel⟩:=tB hc2.1 SS.so;have hun:=hr.un;refine tj (vp:=λv=>v∈its) (md:=md) (ys:=ds) (as:=as) src (I1.ok.hd hc) hok (by simpa using ra) hel (λv m=>by simpa using m) hl (by omega) λh' tk dsS S md' kp=>?_;refine SG ?_;have S0:=S;obtain⟨_,_,_,SA⟩:=S0;refine tD (s:=s1) (s':={s1 with heap:=h',toks:=tk}) I1 w1 rfl kp ⟨h',tk,s1.drawn,rfl⟩ (Tu (QF SA.ob)) S (I1.ok.hd hc) ?_ hc2.2 ?_ (by omega) SS.rep SS.val (Rq kp ra) (λv hv=>hv) q1
    ·refine(Sm SA.nd (gz ht)).mpr λd=>?_;rw[md',g6 ht]
    ·exact bh.mpr λd m=>bh.mp SS.so d ((g6 ht d).mp m)
  ·rw[if_neg hc2]at q1;exact q1.elim
end
theorem oK:∀{us vs:UL} {ds es:UJ} {as bs:UK},ReadsAll h us ds as->ReadsAll h vs es bs->∃cs,ReadsAll h (us++vs) (ds++es) cs
 |_,_,_,_,_,_,.nil,q=>⟨_,q⟩
 |_,_,_,_,_,_,.cons r t,q=>let ⟨_,x⟩:=oK t q;⟨_,.cons r x⟩
theorem zf:∀{ds es:UJ} {vs us:List V},bb M ds vs->bb M es us->bb M (ds++es) (vs++us)
 | [],_,_,_,h,q=>by cases h;exact q
 |_::_,_,_,_,⟨x,xs,rfl,r1,r2⟩,q=>⟨x,_,rfl,r1,zf r2 q⟩
theorem mn:∀{xs ys:UJ},xs.Nodup->(∀x∈xs,x∈ys)->xs.length<=ys.length
 | [],_,_,_=>RV _
 |x::xs,ys,nd,h=>by
  classical
  obtain⟨n1,n2⟩:=R3.mp nd;have hx:=h x (QS ..);obtain⟨i,hi,e⟩:=SU hx;have p:=fE hi
  have:=mn (ys:=ys.eraseIdx i) n2 λy hy=>by
   grind
  grind
theorem _root_.LP.cy.move(S:cy vp w h a md ds es ep t)(ob:h'.get? a=some (bu es ep t))(hv:∀v,vp v->vp' v)(hr:∀v d as,vp v->Reads h v d as->∃bs,Reads h' v d bs):cy vp' w h' a md ds es ep t:=
 ⟨ob,S.tb,S.ld,S.nd,S.ln,Paired.mF S.el λ_ _ x=>⟨x.tr,x.dp,x.so,x.hs,x.kd,let ⟨as,r⟩:=x.rd;hr _ _ as x.vl r,hv _ x.vl⟩⟩
section
variable {X:Cx} {E:XK} {m m2:ME} {e e2:Expr} {k:Nat} {p1 p2 p3 p4 p5 p6 pos:Pos}
theorem zg{σ:St}{Qa:V->Hp->Prop}(hg2:Gl X "set")(hm2:X.mg "set" = none)(I:L2.Inv X pins σ H s)(ha:PE X e te)(ht:te σ H Qa)
 (hs:starEach [e] X.env=[(false,eval e X.env)])
 (q:∀u s1 v H1,L2.Inv X pins σ H1 s1->RelV v u->Qa v H1->wpAny (model X.prog X.w) X.A (call (.type "set") [u]) Q X.xe s1):wpAny (model X.prog X.w) X.A (eval (.Call (.Name "set" p2) [e] [] p3) X.env) Q X.xe s:=by
 refine RB (jQ I hg2 hm2 (by rfl:bootBuiltins "set" = some (.type "set")) ?_);refine RT ?_ (by trivial) (by rfl);rw[hs];show wpAny _ _ (spliced ((false,eval e X.env)::[])) _ _ s;refine R6 (bw (ha pins s σ H Qa I ht) λu s1 ⟨v,H1,I1,rv1,q1⟩=>?_);exact SG (q u s1 v H1 I1 rv1 q1)
structure PX(X:Cx)(op:Operator)(f:UJ->UJ->UJ)(G:UJ->UJ->PyData->Prop):Prop where
 run:∀{vp:Value->Prop} {md:Bool} {l r:Addr} {ds eds:UJ} {Q:UD} {s:UX},X.A.units+21<cLine->l≠r->bX vp X.w s.heap l md ds->bX vp X.w s.heap r md eds->ds.length+eds.length<=120->AK vp X.w s md (G ds eds) Q->wpAny (model X.prog X.w) X.A (binaryOp op (.ref l) (.ref r)) Q X.xe s
 mem:∀{ds es:UJ},(∀d∈ds++es,aG d=true)->(f ds es).Nodup/\∀d,d∈f ds es<->G ds es d
 congr:∀{ds es ds' es':UJ},(∀d,d∈ds<->d∈ds')->(∀d,d∈es<->d∈es')->∀d,G ds es d<->G ds' es' d
 sub:∀{ds es:UJ} {d},G ds es d->d∈ds++es
theorem FE:PX X .BitOr zM (λds es d=>d∈ds\/d∈es) where
 run:=λh1 h2 h3 h4 h5 h6=>M5 h1 h2 h3 h4 h5 h6
 mem:=λh=>⟨gz h,λd=>by unfold zM;rw[g6 h,QN]⟩
 congr:=λh1 h2 d=>by rw[h1,h2]
 sub:=λh=>QN.mpr h
theorem vV(O:PX X op f G)(hc:X.calm=true)(hr:L2.cg k X.A)(hm1:X.mg "sorted" = none)(hm2:X.mg "set" = none)(ha:DE X E m e)(hb:DE X E m2 e2)(hg:Gl X "sorted" := by rfl)(hg2:Gl X "set" := by rfl)(hs:starEach [e] X.env=[(false,eval e X.env)]:=by rfl)(hs2:starEach [e2] X.env=[(false,eval e2 X.env)]:=by rfl)
 (hs3:starEach [.BinOp (.Call (.Name "set" p2) [e] [] p3) op (.Call (.Name "set" p4) [e2] [] p5) p6] X.env=[(false,eval (.BinOp (.Call (.Name "set" p2) [e] [] p3) op (.Call (.Name "set" p4) [e2] [] p5) p6) X.env)]:=by rfl) :
  DE X E (mf f m m2) (.Call (.Name "sorted" p1) [.BinOp (.Call (.Name "set" p2) [e] [] p3) op (.Call (.Name "set" p4) [e2] [] p5) p6] [] pos):=by
 simp only[br]at *;intro pins s σ H Q I ⟨θ,h,ρ,w,fr,p⟩;refine RB (jQ I hg hm1 (by decide +kernel:bootBuiltins "sorted" = some (.builtin "sorted")) ?_);refine SN ?_ (by rw[hs3];rfl) (by rfl);rw[hs3];show wpAny _ _ (spliced ((false,eval (.BinOp (.Call (.Name "set" p2) [e] [] p3) op (.Call (.Name "set" p4) [e2] [] p5) p6) X.env)::[])) _ _ s;refine R6 ?_;have hun:=hr.un;have hA:=I.ok.hd hc
 refine wpAny_BinOp (zg (Qa:=λv H1=>∃θ1 h1 d,W X.G θ1 h1 H1/\Fr X.G θ1 H1 ρ σ/\bR X.G θ1 H1 d v/\aD X.G (mJ X.G E) θ1 H1 (match iU d h1 with
   |some ds=>if setOk ds then(m2 ρ h1).bind λy h2=>match iU y h2 with
     |some es=>if setOk (ds++es)&&cY (f ds es)then .ok (.dat (.list (cD ltB (f ds es)))) h2 else .bad
     |Option.none=>.bad
    else .bad
   |Option.none=>.bad) (Ml.KV X.G Q)) hg2 hm2 I ha ⟨θ,h,ρ,w,fr,(aD.bind p).mono λd θ1 h1 H1 _ _ ⟨ev,w1,q1⟩ v r1=>⟨θ1,h1,d,w1,fr.ev ev,r1,q1⟩⟩ hs λu s1 v H1 I1 rv1 ⟨θ1,h1,d,w1,fr1,r1,q1⟩=>?_)
 cases hsq:iU d h1 with
 |none=>rw[hsq]at q1;exact q1.elim
 |some ds=>
  rw[hsq]at q1;dsimp only at q1;by_cases hc1:setOk ds=true
  case neg=>rw[if_neg hc1]at q1;exact q1.elim
  rw[if_pos hc1]at q1;obtain⟨b,vs,its,rfl,SS⟩:=xq I1 w1 r1 hsq;cases rv1;obtain⟨T,OK,src,hok⟩:=SS.src;obtain⟨as,ra⟩:=bb.reads I1 (SS.rep.same (ax _ _)) SS.val;obtain⟨md,hl,ht,hel⟩:=tB hc1 SS.so;refine tj (vp:=λv=>v∈its) (md:=md) (ys:=ds) (as:=as) src hA hok (by simpa using ra) hel (λv m=>by simpa using m) hl (by omega) λg1 tk1 dsS S md1 kp1=>?_;obtain⟨es1,ep1,t1,SA⟩:=S;have I1':L2.Inv X pins σ H1 {s1 with heap:=g1,toks:=tk1}:=I1.kept (t':=tk1) kp1;have hna:H1 s1.heap.objs.size=none:=I1.hok.fresh (QE _);have hfp:gC X pins H1 s1.heap.objs.size:=I1.zP (QE _) hna
  have I1p:L2.Inv X (pins++[(s1.heap.objs.size,bu es1 ep1 t1)]) σ H1 {s1 with heap:=g1,toks:=tk1}:=I1'.gM λp hp=>by
   rcases QN.mp hp with z|z
   ·exact I1'.pin p (QD _ z)
   ·rw[QT.mp z];obtain⟨f0,f1,f2,_⟩:=hfp;exact⟨SA.ob,f0,f1,f2,λv z=>by cases z⟩
  refine zg (Qa:=λv H2=>∃θ2 h2 d2,Ev θ1 H1 θ2 H2/\W X.G θ2 h2 H2/\bR X.G θ2 H2 d2 v/\aD X.G (mJ X.G E) θ2 H2 (match iU d2 h2 with
     |some es=>if setOk (ds++es)&&cY (f ds es)then .ok (.dat (.list (cD ltB (f ds es)))) h2 else .bad
     |Option.none=>.bad) (Ml.KV X.G Q)) hg2 hm2 I1p hb ⟨θ1,h1,ρ,w1,fr1,(aD.bind q1).mono λd2 θ2 h2 H2 _ _ ⟨ev2,w2,q2⟩ v2 r2=>⟨θ2,h2,d2,ev2,w2,r2,q2⟩⟩ hs2 λu2 s2 v2 H2 I2 rv2 ⟨θ2,h2,d2,ev2,w2,r2,q2⟩=>?_
  cases hsq2:iU d2 h2 with
  |none=>rw[hsq2]at q2;exact q2.elim
  |some es=>
   rw[hsq2]at q2;dsimp only at q2;by_cases hc2:(setOk (ds++es)&&cY (f ds es))=true
   case neg=>rw[if_neg hc2]at q2;exact q2.elim
   rw[if_pos hc2]at q2;simp only[QG]at hc2;obtain⟨b2,vs2,its2,rfl,SS2⟩:=xq I2 w2 r2 hsq2;cases rv2;obtain⟨T2,OK2,src2,hok2⟩:=SS2.src;obtain⟨as2,ra2⟩:=bb.reads I2 (SS2.rep.same (ax _ _)) SS2.val;have rp1:bb (view θ2 H2) ds vs:=SS.rep.same ev2.same;obtain⟨as1,ra1⟩:=bb.reads I2 (rp1.same (ax _ _)) SS.val
   have so12:cE (ds++es)=true:=bh.mpr λx hx=>by
    rcases QN.mp hx with z|z
    ·exact bh.mp SS.so x z
    ·exact bh.mp SS2.so x z
   obtain⟨md2,hl2,ht2,hel2⟩:=tB hc2.1 so12;have obA:s2.heap.get? s1.heap.objs.size=some (bu es1 ep1 t1):=(I2.pin (s1.heap.objs.size,bu es1 ep1 t1) (by simp)).1;have ra1':ReadsAll g1 its ds as:=Rq kp1 ra;have SA2:cy (λv=>v∈its++its2) X.w s2.heap s1.heap.objs.size md dsS es1 ep1 t1:=SA.move obA (λv hv=>Q9 _ hv) λv d' as' hv rd'=>by obtain⟨i,hi⟩:=RG hv;obtain⟨x,bs,e1,e2⟩:=readsAll_get ra1' hi;obtain⟨y,cs,e3,e4⟩:=readsAll_get ra1 hi;rw[e1]at e3;cases e3;have:=(Uq rd' _ _ e2).1;subst this;exact⟨cs,e4⟩
   have hmd:md=md2\/dsS=[]:=by
    cases hd:dsS with
    |nil=>exact .inr rfl
    |cons x xs=>have hx:x∈ds:=(md1 x).mp (by rw[hd];exact QS ..);exact .inl ((hel x hx).2.2.2.symm.trans (hel2 x (Q9 _ hx)).2.2.2)
   have SB2:bX (λv=>v∈its++its2) X.w s2.heap s1.heap.objs.size md2 dsS:=by
    rcases hmd with rfl|rfl
    ·exact⟨_,_,_,SA2⟩
    ·have:es1.toList=[]:=by
      have hh:=SA2.el;generalize es1.toList=l at hh;cases hh;rfl
     exact⟨es1,ep1,t1,SA2.ob,SA2.tb,SA2.ld,SA2.nd,SA2.ln,by rw[this];exact .nil⟩
   have hlen1:ds.length+es.length<=120:=by simpa using hl2
   refine tj (vp:=λv=>v∈its++its2) (md:=md2) (ys:=es) (as:=as2) src2 hA hok2 (by simpa using ra2) (λy hy=>hel2 y (QD _ hy)) (λv m=>QD _ (by simpa using m)) (by omega) (by omega) λg3 tk3 dsS2 S3 md3 kp3=>?_;have SB3:bX (λv=>v∈its++its2) X.w g3 s1.heap.objs.size md2 dsS:=by obtain⟨a1,a2,a3,a4⟩:=SB2;exact⟨a1,a2,a3,a4.keep kp3⟩
   have lt2:s1.heap.objs.size<s2.heap.objs.size:=QF obA;have nd1:dsS.length<=ds.length:=by obtain⟨_,_,_,z⟩:=SB2;exact mn z.nd λx hx=>(md1 x).mp hx
   have nd3:dsS2.length<=es.length:=by obtain⟨_,_,_,z⟩:=S3;exact mn z.nd λx hx=>(md3 x).mp hx
   refine O.run (s:={s2 with heap:=g3,toks:=tk3}) (by omega) (QQ lt2) SB3 S3 (by omega) λa4 g4 ds4 dr4 ge4 kp4 S4 md4=>?_;refine SG ?_;obtain⟨cs,rc⟩:=oK (Rq (λb o eb=>kp4 b o (kp3 b o eb)) ra1) (Rq (λb o eb=>kp4 b o (kp3 b o eb)) ra2);obtain⟨fn,fm⟩:=O.mem ht2;have I2p:L2.Inv X pins σ H2 s2:=I2.gM λp hp=>I2.pin p (by simp[hp]);have S40:=S4;obtain⟨_,_,_,SA4⟩:=S40;refine tD (s:=s2) (s':={s2 with heap:=g4,toks:=tk3,drawn:=dr4}) I2p w2 rfl (λb o eb=>kp4 b o (kp3 b o eb)) ⟨g4,tk3,dr4,rfl⟩ ?_ S4 hA ?_ hc2.2 ?_ (by omega) (zf rp1 SS2.rep) (SS.val.append SS2.val) rc (λv hv=>hv) q2
   ·have:=QF SA4.ob;obtain⟨_,_,_,z⟩:=S3;have z2:=QF z.ob;have:g3.objs.size<=a4:=ge4;exact Tu (Nat.lt_trans z2 (Nat.lt_of_le_of_lt this (QF SA4.ob)))
   ·refine(Sm SA4.nd fn).mpr λx=>?_;rw[md4,fm,O.congr md1 md3]
   ·exact bh.mpr λx hx=>bh.mp so12 x (O.sub ((fm x).mp hx))
end
end Ml
namespace Ml
open PySem PySem.Spec L2
theorem mM{N ps:UN}{sc:Scope}(a:sc.kind=.function:=by rfl)(b:sc.isCoroutine=false:=by rfl)(c:sc.isGenerator=false:=by rfl)(d:N.Nodup:=by decide +kernel)(e:N.take ps.length=ps:=by rfl)
 (f:∀x∈ps,sc.names.lookup x=some .local\/sc.names.lookup x=some .cell:=by decide +kernel)(g:∀y∈sc.names,y.2≠.free:=by decide +kernel):aN N ps sc:=⟨a,b,c,d,e,f,g⟩
section
variable {X:Cx} {E:XK} {x:Str} {ps:UN} {k j:Nat} {F:Fn} {e e1 e2:Expr} {es:UO} {ma:MA} {m1 m2:ME} {p pos:Pos}
theorem dW(F':bf X.prog X.w X.K X.mg X.base x ps k F)(hx:Passes (uo X.prog X.w) X E)(hr:cg j X.A)(ha:DA X E ma (e::es))(hk:k<=j:=by omega)(hg:Gl X x:=by rfl)(hdb:(x==("__debug__" : Str))=false:=by decide)(he:starEach (e::es) X.env=(false,eval e X.env)::starEach es X.env:=by rfl)
 (hpl:(backTo pos (starEach es X.env)).any (·.1)=false:=by rfl):DE X E (af F ma) (.Call (.Name x p) (e::es) [] pos):=MI F' hx (hr.mono hk) hg ha hdb he hpl
end
end Ml
namespace K87
open PySem L2 Ml
def top(i:Nat):Stmt:=PySem.Challenge.pw_everalike_k87_whole_alike_in_company_aga.main.body.getD i (.Pass ⟨0,0,0,0⟩)
structure Txt(K:UM)(mg:UI):Prop where
 n_all:mg "all" = none
 n_len:mg "len" = none
 n_isinstance:mg "isinstance" = none
 n_str:mg "str" = none
 n_zip:mg "zip" = none
 n_tuple:mg "tuple" = none
 n_sorted:mg "sorted" = none
 n_set:mg "set" = none
 n_int:mg "int" = none
 n_max:mg "max" = none
 n_divmod:mg "divmod" = none
 n_range:mg "range" = none
 n_list:mg "list" = none
 i_LONGEST_NAME:∃t,mg "LONGEST_NAME" = some (.int 6 t)
 i_MOST_NAMES:∃t,mg "MOST_NAMES" = some (.int 12 t)
 f_IDLE:∃a,mg "IDLE" = some (.ref a)/\Hw K mg a nI
 t_KINDS:∃a,mg "KINDS" = some (.ref a)/\Ez K a xh
section
variable {P:UT} {w:World} {K:UM} {mg:UI} {base:Heap} {XE:VK->XK} {bm:Addr}
abbrev pS:Stmt:=top 8
abbrev mq:UN:=["thing"]
theorem AM:aN ["thing"] mq (aC pS):=mM
theorem xt:(["letter", "thing"]:UN).Nodup:=by decide +kernel
abbrev vW(P:UT)(w:World)(K:UM)(mg:UI)(base:Heap):Prop:=bf P w K mg base "is_name" mq 1 jJ
theorem Du(D:Df K mg "is_name" mq pS)(T:Txt K mg):vW P w K mg base:=
 bf.eq (Df.has (k:=0) D AM (λf cdv A outer s H E hr=>
  au (gv (DW.dt (mU (eI (bT (E0 (G6 _) Km T.n_isinstance T.n_str (dv 0)))) (jl (eI (EZ Hi Hi aJ (yE oA T.n_len jS (ab (dv 0) ag)) (wY T.i_LONGEST_NAME)))))) (aH (aT dH)) cF)
  (aH (aT (yE (BR rfl) T.n_all wC (ab (fu ["letter"] (by rfl) rfl (cJ (dv 0)) (λ_ _ _ _ _=>dg 0 xt) (λ_ _ _ _ _=>iS) (λ_ _ _ _ _=>EY Hi Hi dS (dv 0) dS)) ag)))))) (by kernel_rfl)
abbrev kX:Stmt:=top 9
abbrev iZ:UN:=["things"]
theorem xu:aN ["things"] iZ (aC kX):=mM
theorem kY:(["low", "high", "things"]:UN).Nodup:=by decide +kernel
abbrev kZ(P:UT)(w:World)(K:UM)(mg:UI)(base:Heap):Prop:=bf P w K mg base "is_rising" iZ 1 gw
theorem zh(D:Df K mg "is_rising" iZ kX)(T:Txt K mg):kZ P w K mg base:=
 bf.eq (Df.has (k:=0) D xu (λf cdv A outer s H E hr=>
  aH (aT (yE (BR rfl) T.n_all wC (ab (fu ["low", "high"] (by rfl) rfl (KJ (by rfl) T.n_zip (ab (dv 0) (ab (EM (dv 0) (wX aJ) Hj) ag))) (λ_ _ _ _ _=>jm rfl (bF (dg 0 kY) (bF (dg 1 kY) f6)) (aW (aW dB))) (λ_ _ _ _ _=>iS) (λ_ _ _ _ _=>cZ (KO hr) (dv 0) (dv 1) (by rfl))) ag))))) (by kernel_rfl)
abbrev lg:Stmt:=top 10
abbrev i6:UN:=["thing"]
theorem xw:aN ["thing"] i6 (aC lg):=mM
theorem tF:(["part", "thing"]:UN).Nodup:=by decide +kernel
abbrev qz(P:UT)(w:World)(K:UM)(mg:UI)(base:Heap):Prop:=bf P w K mg base "are_names" i6 2 iT
theorem zi(D:Df K mg "are_names" i6 lg)(T:Txt K mg)(J9:kZ P w K mg base)(J8:vW P w K mg base):qz P w K mg base:=
 bf.eq (Df.has (k:=1) D xw (λf cdv A outer s H E hr=>
  au (gv (DW.dt (mU (eI (bT (E0 (kit_tuple _) cv T.n_isinstance T.n_tuple (dv 0)))) (jl (cQ MK (yE oA T.n_len jS (ab (dv 0) ag)) (wY T.i_MOST_NAMES) (by rfl))))) (aH (aT dH)) cF)
  (aH (aT (gb (yE (BR rfl) T.n_all wC (ab (fu ["part"] (by rfl) rfl (cJ (dv 0)) (λ_ _ _ _ _=>dg 0 tF) (λ_ _ _ _ _=>iS) (λ_ _ _ _ _=>dW J8 de hr (ab (dv 0) ag))) ag)) (fq (dW J9 av hr (ab (dv 0) ag)))))))) (by kernel_rfl)
abbrev lh:Stmt:=top 11
abbrev i7:UN:=["thing", "names"]
theorem xy:aN ["thing", "names"] i7 (aC lh):=mM
abbrev qA(P:UT)(w:World)(K:UM)(mg:UI)(base:Heap):Prop:=bf P w K mg base "is_strike" i7 1 gx
theorem zj(D:Df K mg "is_strike" i7 lh)(T:Txt K mg):qA P w K mg base:=
 bf.eq (Df.has (k:=0) D xy (λf cdv A outer s H E hr=>
  au (gv (DW.dt (mU (eI (bT (E0 (kit_tuple _) cv T.n_isinstance T.n_tuple (dv 0)))) (jl (cQ (C9 hr) (yE oA T.n_len jS (ab (dv 0) ag)) aJ (by rfl))))) (aH (aT dH)) cF)
  (aH (aT (gb (cZ (mK hr) (bW (aP hr) (dv 0) aJ (λ_ _=>rfl)) (dv 1) (by rfl)) (fq (cZ (mK hr) (bW (aP hr) (dv 0) aJ (λ_ _=>rfl)) (dv 1) (by rfl)))))))) (by kernel_rfl)
abbrev jt:Stmt:=top 12
abbrev gj:UN:=["thing", "names"]
theorem tG:aN ["thing", "names"] gj (aC jt):=mM
theorem pT:(["part", "thing", "names"]:UN).Nodup:=by decide +kernel
abbrev m6(P:UT)(w:World)(K:UM)(mg:UI)(base:Heap):Prop:=bf P w K mg base "are_strikes" gj 2 gc
theorem uT(D:Df K mg "are_strikes" gj jt)(T:Txt K mg)(J9:kZ P w K mg base)(J11:qA P w K mg base):m6 P w K mg base:=
 bf.eq (Df.has (k:=1) D tG (λf cdv A outer s H E hr=>
  au (gv (eI (bT (E0 (kit_tuple _) cv T.n_isinstance T.n_tuple (dv 0)))) (aH (aT dH)) cF)
  (aH (aT (gb (yE (BR rfl) T.n_all wC (ab (fu ["part"] (by rfl) rfl (cJ (dv 0)) (λ_ _ _ _ _=>dg 0 pT) (λ_ _ _ _ _=>iS) (λ_ _ _ _ _=>dW J11 de hr (ab (dv 0) (ab (dv 2) ag)))) ag)) (fq (dW J9 av hr (ab (dv 0) ag)))))))) (by kernel_rfl)
abbrev tH:Stmt:=top 13
abbrev oM:UN:=["thing"]
theorem pU:aN ["thing", "names", "strikes"] oM (aC tH):=mM
abbrev zk(P:UT)(w:World)(K:UM)(mg:UI)(base:Heap):Prop:=bf P w K mg base "is_web" oM 3 oE
theorem FF(D:Df K mg "is_web" oM tH)(T:Txt K mg)(J12:m6 P w K mg base)(J10:qz P w K mg base):zk P w K mg base:=
 bf.eq (Df.has (k:=2) D pU (λf cdv A outer s H E hr=>
  au (gv (DW.dt (mU (eI (bT (E0 (kit_tuple _) cv T.n_isinstance T.n_tuple (dv 0)))) (jl (cQ (C9 hr) (yE oA T.n_len jS (ab (dv 0) ag)) aJ (by rfl))))) (aH (aT dH)) cF)
  (au (jV (dv 0) (jm rfl (bF (dg 1 pU.nd) (bF (dg 2 pU.nd) f6)) (aW (aW dB))))
  (aH (aT (gb (dW J10 av hr (ab (dv 1) ag)) (fq (dW J12 av hr (ab (dv 2) (ab (dv 1) ag)))))))))) (by kernel_rfl)
abbrev lj:Stmt:=top 14
abbrev i8:UN:=["thing"]
theorem xA:aN ["thing"] i8 (aC lj):=mM
abbrev i9(P:UT)(w:World)(K:UM)(mg:UI)(base:Heap):Prop:=bf P w K mg base "check_web" i8 4 cH
theorem zl(D:Df K mg "check_web" i8 lj)(T:Txt K mg)(J13:zk P w K mg base):i9 P w K mg base:=
 bf.eq (Df.has (k:=3) D xA (λf cdv A outer s H E hr=>
  aH (gv (eI (bT (dW J13 av hr (ab (dv 0) ag)))) (aH Au) cF))) (by kernel_rfl)
abbrev gI:Stmt:=top 15
abbrev eY:UN:=["one", "other"]
theorem pV:aN ["one", "other"] eY (aC gI):=mM
abbrev kF(P:UT)(w:World)(K:UM)(mg:UI)(base:Heap):Prop:=bf P w K mg base "names_of_both" eY 1 eX
theorem qS(D:Df K mg "names_of_both" eY gI)(T:Txt K mg):kF P w K mg base:=
 bf.eq (Df.has (k:=0) D pV (λf cdv A outer s H E hr=>
  aH (aT (vV FE rfl hr T.n_sorted T.n_set (bW (aP hr) (dv 0) aJ (λ_ _=>rfl)) (bW (aP hr) (dv 1) aJ (λ_ _=>rfl)))))) (by kernel_rfl)
abbrev nJ:Stmt:=top 16
abbrev ke:UN:=["one", "other"]
theorem lx:aN ["one", "other", "names", "strikes"] ke (aC nJ):=mM
abbrev tI(P:UT)(w:World)(K:UM)(mg:UI)(base:Heap):Prop:=bf P w K mg base "together" ke 5 bg
theorem AN(D:Df K mg "together" ke nJ)(T:Txt K mg)(J15:kF P w K mg base)(J14:i9 P w K mg base):tI P w K mg base:=
 bf.eq (Df.has (k:=4) D lx (λf cdv A outer s H E hr=>
  au (gO (dW J14 av hr (ab (dv 0) ag)))
  (au (gO (dW J14 av hr (ab (dv 1) ag)))
  (au (ip 2 lx.nd (dW J15 av hr (ab (dv 0) (ab (dv 1) ag))))
  (au (gv (cQ MK (yE oA T.n_len jS (ab (dv 2) ag)) (wY T.i_MOST_NAMES) (by rfl)) (aH Au) cF)
  (au (ip 3 lx.nd (vV FE rfl hr T.n_sorted T.n_set (bW (aP hr) (dv 0) aJ (λ_ _=>rfl)) (bW (aP hr) (dv 1) aJ (λ_ _=>rfl))))
  (aH (aT (bA (ab (iO (fw rfl) T.n_tuple cv (ab (dv 2) ag)) (ab (iO (fw rfl) T.n_tuple cv (ab (dv 3) ag)) ag))))))))))) (by kernel_rfl)
abbrev kg:Stmt:=top 19
abbrev gV:UN:=["thing"]
theorem uU:aN ["thing"] gV (aC kg):=mM
abbrev kh(P:UT)(w:World)(K:UM)(mg:UI)(base:Heap):Prop:=bf P w K mg base "check_kind" gV 1 gS
theorem xB(D:Df K mg "check_kind" gV kg)(T:Txt K mg):kh P w K mg base:=
 bf.eq (Df.has (k:=0) D uU (λf cdv A outer s H E hr=>
  aH (gv (cQ (BX hr) (dv 0) (Hl T.t_KINDS) (by rfl)) (aH Au) cF))) (by kernel_rfl)
abbrev fH:Stmt:=top 21
abbrev dM:UN:=["strikes", "one", "other"]
theorem nK:aN ["strikes", "one", "other"] dM (aC fH):=mM
abbrev fI(P:UT)(w:World)(K:UM)(mg:UI)(base:Heap):Prop:=bf P w K mg base "idle_for_stable" dM 1 bO
theorem oN(D:Df K mg "idle_for_stable" dM fH)(T:Txt K mg):fI P w K mg base:=
 bf.eq (Df.has (k:=0) D nK (λf cdv A outer s H E hr=>
  aH (aT (cZ (mK hr) (bA (ab (dv 1) (ab (dv 1) ag))) (dv 0) (by rfl))))) (by kernel_rfl)
abbrev eJ:Stmt:=top 22
abbrev cN:UN:=["strikes", "one", "other"]
theorem ly:aN ["strikes", "one", "other"] cN (aC eJ):=mM
abbrev eK(P:UT)(w:World)(K:UM)(mg:UI)(base:Heap):Prop:=bf P w K mg base "idle_for_standing" cN 1 bo
theorem mN(D:Df K mg "idle_for_standing" cN eJ)(T:Txt K mg):eK P w K mg base:=
 bf.eq (Df.has (k:=0) D ly (λf cdv A outer s H E hr=>
  aH (aT (gb (cZ (mK hr) (bA (ab (dv 1) (ab (dv 1) ag))) (dv 0) (by rfl)) (fq (xb (cZ (mK hr) (bA (ab (dv 2) (ab (dv 1) ag))) (dv 0) (by rfl)) (fq (cZ (mK hr) (bA (ab (dv 2) (ab (dv 2) ag))) (dv 0) (by rfl))))))))) (by kernel_rfl)
abbrev fU:Stmt:=top 23
abbrev eB:UN:=["strikes", "one", "other"]
theorem oO:aN ["strikes", "one", "other"] eB (aC fU):=mM
abbrev fV(P:UT)(w:World)(K:UM)(mg:UI)(base:Heap):Prop:=bf P w K mg base "idle_for_whole" eB 1 bU
theorem pW(D:Df K mg "idle_for_whole" eB fU)(T:Txt K mg):fV P w K mg base:=
 bf.eq (Df.has (k:=0) D oO (λf cdv A outer s H E hr=>
  aH (aT (gb (cZ (mK hr) (bA (ab (dv 1) (ab (dv 1) ag))) (dv 0) (by rfl)) (fq (cZ (mK hr) (bA (ab (dv 2) (ab (dv 2) ag))) (dv 0) (by rfl))))))) (by kernel_rfl)
abbrev eL:Stmt:=top 24
abbrev cO:UN:=["strikes", "one", "other"]
theorem lB:aN ["strikes", "one", "other"] cO (aC eL):=mM
abbrev eM(P:UT)(w:World)(K:UM)(mg:UI)(base:Heap):Prop:=bf P w K mg base "idle_for_grounded" cO 1 bB
theorem mO(D:Df K mg "idle_for_grounded" cO eL)(T:Txt K mg):eM P w K mg base:=
 bf.eq (Df.has (k:=0) D lB (λf cdv A outer s H E hr=>
  aH (aT (gb (cZ (mK hr) (bA (ab (dv 2) (ab (dv 2) ag))) (dv 0) (by rfl)) (fq (xb (cZ (mK hr) (bA (ab (dv 1) (ab (dv 1) ag))) (dv 0) (by rfl)) (fq (cZ (mK hr) (bA (ab (dv 2) (ab (dv 1) ag))) (dv 0) (by rfl))))))))) (by kernel_rfl)
abbrev tJ:Stmt:=top 26
abbrev oP:UN:=["web", "kind"]
theorem hE:aN ["web", "kind", "idle", "names", "strikes", "there", "kept"] oP (aC tJ):=mM
theorem qB:(["one", "other", "web", "kind", "idle", "names", "strikes", "there", "kept"]:UN).Nodup:=by decide +kernel
theorem zm:(["strike", "web", "kind", "idle", "names", "strikes", "there", "kept"]:UN).Nodup:=by decide +kernel
abbrev oQ(P:UT)(w:World)(K:UM)(mg:UI)(base:Heap):Prop:=bf P w K mg base "kernel" oP 5 fz
theorem FG(D:Df K mg "kernel" oP tJ)(T:Txt K mg)(J24:eM P w K mg base)(J22:eK P w K mg base)(J21:fI P w K mg base)(J23:fV P w K mg base)(J19:kh P w K mg base)(J14:i9 P w K mg base):oQ P w K mg base:=
 bf.eq (Df.has (k:=4) D hE (λf cdv A outer s H E hr=>
  au (gO (dW J14 av hr (ab (dv 0) ag)))
  (au (gO (dW J19 av hr (ab (dv 1) ag)))
  (au (ip 2 hE.nd (BZ T.f_IDLE (dv 1) (λ_ _=>rfl)))
  (au (jV (dv 0) (jm rfl (bF (dg 3 hE.nd) (bF (dg 4 hE.nd) f6)) (aW (aW dB))))
  (au (ip 5 hE.nd (yO ["strike"] true hr (by rfl) rfl (cJ (dv 4)) (λ_ _ _ _ _=>dg 0 zm) (λ_ _ _ _ _=>iS) (λ_ _ _ _ _=>dv 0) (λ_ _ _ _ _=>dH)))
  (au (BM (i:=6) ["one", "other"] hE.nd rfl rfl (by rfl) rfl (cJ (dv 4)) (λ_ _ _ _ _=>jm rfl (bF (dg 0 qB) (bF (dg 1 qB) f6)) (aW (aW dB))) (λ_ _ _ _ _=>gR (DW.dt (mU (cQ (Ap hr) (dv 0) (dv 1) (by rfl)) (jl (eI (bT (Fc (k:=1) 4 (.cons (J24.mono (by decide)) (.cons (J22.mono (by decide)) (.cons (J21.mono (by decide)) (.cons (J23.mono (by decide)) (.nil))))) de (hr.mono (by omega)) (ab (dv 7) (ab (dv 0) (ab (dv 1) ag)))))))))) (λ_ _ _ _ _=>bA (ab (dv 0) (ab (dv 1) ag))))
  (aH (aT (bA (ab (dv 3) (ab (iO (fw rfl) T.n_tuple cv (ab (dv 6) ag)) ag)))))))))))) (by kernel_rfl)
abbrev pX:Stmt:=top 27
abbrev mr:UN:=["web", "kind"]
theorem fW:aN ["web", "kind", "names", "strikes", "idle", "there", "full"] mr (aC pX):=mM
theorem oR:(["one", "other", "web", "kind", "names", "strikes", "idle", "there", "full"]:UN).Nodup:=by decide +kernel
theorem xC:(["strike", "web", "kind", "names", "strikes", "idle", "there", "full"]:UN).Nodup:=by decide +kernel
abbrev vX(P:UT)(w:World)(K:UM)(mg:UI)(base:Heap):Prop:=bf P w K mg base "fullest" mr 6 g9
theorem Dv(D:Df K mg "fullest" mr pX)(T:Txt K mg)(J24:eM P w K mg base)(J22:eK P w K mg base)(J21:fI P w K mg base)(J23:fV P w K mg base)(J26:oQ P w K mg base):vX P w K mg base:=
 bf.eq (Df.has (k:=5) D fW (λf cdv A outer s H E hr=>
  au (jV (dW J26 av hr (ab (dv 0) (ab (dv 1) ag))) (jm rfl (bF (dg 2 fW.nd) (bF (dg 3 fW.nd) f6)) (aW (aW dB))))
  (au (ip 4 fW.nd (BZ T.f_IDLE (dv 1) (λ_ _=>rfl)))
  (au (ip 5 fW.nd (yO ["strike"] true hr (by rfl) rfl (cJ (dv 3)) (λ_ _ _ _ _=>dg 0 xC) (λ_ _ _ _ _=>iS) (λ_ _ _ _ _=>dv 0) (λ_ _ _ _ _=>dH)))
  (au (E7 (i:=6) ["one", "other"] fW.nd rfl rfl (by rfl) rfl (cJ (dv 2)) (λ_ _ _ _ _=>dg 0 oR) (λ_ _ _ _ _=>iS) (λ_ _ _ _ _=>cJ (dv 4)) (λ_ _ _ _ _=>dg 1 oR) (λ_ _ _ _ _=>gR (DW.dt (mU (cQ (mK hr) (bA (ab (dv 0) (ab (dv 1) ag))) (dv 7) (by rfl)) (jl (DW.dt (Am (cQ (C9 hr) (dv 0) (dv 1) (by rfl)) (wM (bT (Fc (k:=1) 6 (.cons (J24.mono (by decide)) (.cons (J22.mono (by decide)) (.cons (J21.mono (by decide)) (.cons (J23.mono (by decide)) (.nil))))) de (hr.mono (by omega)) (ab (dv 7) (ab (dv 0) (ab (dv 1) ag)))))))))))) (λ_ _ _ _ _=>bA (ab (dv 0) (ab (dv 1) ag))))
  (aH (aT (bA (ab (dv 2) (ab (iO (fw rfl) T.n_tuple cv (ab (dv 6) ag)) ag)))))))))) (by kernel_rfl)
abbrev lC:Stmt:=top 29
abbrev ja:UN:=["one", "other", "kind"]
theorem xD:aN ["one", "other", "kind"] ja (aC lC):=mM
abbrev qC(P:UT)(w:World)(K:UM)(mg:UI)(base:Heap):Prop:=bf P w K mg base "are_alike" ja 6 bC
theorem zo(D:Df K mg "are_alike" ja lC)(T:Txt K mg)(J26:oQ P w K mg base)(J19:kh P w K mg base)(J14:i9 P w K mg base):qC P w K mg base:=
 bf.eq (Df.has (k:=5) D xD (λf cdv A outer s H E hr=>
  au (gO (dW J14 av hr (ab (dv 0) ag)))
  (au (gO (dW J14 av hr (ab (dv 1) ag)))
  (au (gO (dW J19 av hr (ab (dv 2) ag)))
  (aH (aT (cZ (Ap hr) (dW J26 av hr (ab (dv 0) (ab (dv 2) ag))) (dW J26 av hr (ab (dv 1) (ab (dv 2) ag))) (by rfl)))))))) (by kernel_rfl)
abbrev lD:Stmt:=top 31
abbrev jb:UN:=["_law_script", "_law_k"]
theorem xE:aN ["_law_script", "_law_k"] jb (aC lD):=mM
abbrev qE(P:UT)(w:World)(K:UM)(mg:UI)(base:Heap):Prop:=bf P w K mg base "_law_cell" jb 1 ff
theorem zp(D:Df K mg "_law_cell" jb lD)(T:Txt K mg):qE P w K mg base:=
 bf.eq (Df.has (k:=0) D xE (λf cdv A outer s H E hr=>
  au (gv (cQ (KO hr) (dv 1) (yE oA T.n_len jS (ab (dv 0) ag)) (by rfl)) (aH (aT (bW (aP hr) (dv 0) (dv 1) (λ_ _=>rfl)))) cF)
  (aH (aT aJ)))) (by kernel_rfl)
abbrev nL:Stmt:=top 32
abbrev ki:UN:=["_law_cell_here"]
theorem qF:aN ["_law_cell_here", "_law_more"] ki (aC nL):=mM
abbrev tK(P:UT)(w:World)(K:UM)(mg:UI)(base:Heap):Prop:=bf P w K mg base "_law_pen" ki 1 iq
theorem AO(D:Df K mg "_law_pen" ki nL)(T:Txt K mg):tK P w K mg base:=
 bf.eq (Df.has (k:=0) D qF (λf cdv A outer s H E hr=>
  au (ip 1 qF.nd (yE (MN rfl) T.n_max Kl (ab (dv 0) (ab (cz MJ aJ (dv 0)) ag))))
  (aH (aT (wO (ab (dv 1) (ab (iO IW T.n_int E1 (ab (cZ OL (dv 1) (jX 8 (d:=.int (10^18)) (Lit.of (by kernel_rfl)) (by decide +kernel)) (by rfl)) ag)) ag))))))) (by kernel_rfl)
abbrev lF:Stmt:=top 33
abbrev jc:UN:=["_law_pen_here", "_law_many"]
theorem fJ:aN ["_law_pen_here", "_law_many", "_law_rest", "_law_drawn", "_law_stir"] jc (aC lF):=mM
abbrev dX(P:UT)(w:World)(K:UM)(mg:UI)(base:Heap):Prop:=bf P w K mg base "_law_draw" jc 1 aB
theorem zq(D:Df K mg "_law_draw" jc lF)(T:Txt K mg):dX P w K mg base:=
 bf.eq (Df.has (k:=0) D fJ (λf cdv A outer s H E hr=>
  au (gv (cQ (Ap hr) (bW (aP hr) (dv 0) aJ (λ_ _=>rfl)) aJ (by rfl)) (au (jV (yE EO T.n_divmod CZ (ab (bW (aP hr) (dv 0) aJ (λ_ _=>rfl)) (ab (dv 1) ag))) (jm rfl (bF (dg 2 fJ.nd) (bF (dg 3 fJ.nd) f6)) (aW (aW dB))))
  (au (jV (dv 2) (EW hr (dv 0) aJ (λ_=>rfl)))
  (aH (aT (dv 3))))) cF)
  (au (ip 4 fJ.nd (cz yu (cz BN (cz kS (cz yu (bW (aP hr) (dv 0) aJ (λ_ _=>rfl)) aJ) aJ) aJ) aJ))
  (au (ip 4 fJ.nd (cz yu (cz kS (cz BN (dv 4) (dv 4)) aJ) aJ))
  (au (jV (cz yu (cz kS (cz BN (dv 4) aJ) aJ) aJ) (EW hr (dv 0) aJ (λ_=>rfl)))
  (aH (aT (cz yu (cz KP (bW (aP hr) (dv 0) aJ (λ_ _=>rfl)) aJ) (dv 1))))))))) (by kernel_rfl)
abbrev kj:Stmt:=top 34
abbrev gW:UN:=["_law_pen_here", "_law_most"]
theorem m7:aN ["_law_pen_here", "_law_most", "_law_left"] gW (aC kj):=mM
theorem qT:(["_law_lap", "_law_pen_here", "_law_most", "_law_left"]:UN).Nodup:=by decide +kernel
abbrev oS(P:UT)(w:World)(K:UM)(mg:UI)(base:Heap):Prop:=bf P w K mg base "_law_names" gW 2 j6
theorem xF(D:Df K mg "_law_names" gW kj)(T:Txt K mg)(J33:dX P w K mg base):oS P w K mg base:=
 bf.eq ((Df.has (k:=1) D m7 (λf cdv A outer s H E hr=>
  au (ip 2 m7.nd (wO (ab dS (ab dS (ab dS (ab dS (ab dS (ab dS (ab dS (ab dS (ab dS (ab dS (ab dS (ab dS ag))))))))))))))
  (aH (aT (iO (fw rfl) T.n_tuple cv (ab (yE (yw hr) T.n_sorted vg (ab (fu ["_law_lap"] (by rfl) rfl (BK (by rfl) T.n_range (ab (dW J33 av hr (ab (dv 0) (ab (cz kS (dv 1) aJ) ag))) ag)) (λ_ _ _ _ _=>dg 0 qT) (λ_ _ _ _ _=>iS) (λ_ _ _ _ _=>ES (dv 3) (dW J33 de hr (ab (dv 1) (ab (yE oA T.n_len jS (ab (dv 3) ag)) ag))))) ag)) ag)))))).gu) (by kernel_rfl)
abbrev nM:Stmt:=top 35
abbrev kl:UN:=["_law_pen_here", "_law_most"]
theorem fg:aN ["_law_pen_here", "_law_most", "_law_names_here", "_law_share", "_law_strikes", "_law_one"] kl (aC nM):=mM
theorem uV:(["_law_other", "_law_pen_here", "_law_most", "_law_names_here", "_law_share", "_law_strikes", "_law_one"]:UN).Nodup:=by decide +kernel
abbrev nN(P:UT)(w:World)(K:UM)(mg:UI)(base:Heap):Prop:=bf P w K mg base "_law_web" kl 3 iu
theorem AQ(D:Df K mg "_law_web" kl nM)(T:Txt K mg)(J33:dX P w K mg base)(J34:oS P w K mg base):nN P w K mg base:=
 bf.eq (Df.has (k:=2) D fg (λf cdv A outer s H E hr=>
  au (jV (bA (ab (dW J34 av hr (ab (dv 0) (ab (dv 1) ag))) (ab (bW (aP hr) (jX 8 (d:=.list [.int 1,.int 2,.int 3,.int 5]) (Lit.of (by kernel_rfl)) (by decide +kernel)) (dW J33 av hr (ab (dv 0) (ab aJ ag))) (λ_ _=>rfl)) (ab (jX 8 (d:=.list []) (Lit.of (by kernel_rfl)) (by decide +kernel)) ag)))) (jm rfl (bF (dg 2 fg.nd) (bF (dg 3 fg.nd) (bF (dg 4 fg.nd) f6))) (aW (aW (aW dB)))))
  (au (nB rfl (cJ (dv 2)) (dg 5 fg.nd) (aH (ip 4 fg.nd (cz kS (dv 4) (fu ["_law_other"] (by rfl) rfl (cJ (dv 2)) (λ_ _ _ _ _=>dg 0 uV) (λ_ _ _ _ _=>gR (cQ (KO hr) (dW J33 de hr (ab (dv 1) (ab aJ ag))) (dv 4) (by rfl))) (λ_ _ _ _ _=>bA (ab (dv 6) (ab (dv 0) ag))))))))
  (aH (aT (bA (ab (dv 2) (ab (iO (fw rfl) T.n_tuple cv (ab (dv 4) ag)) ag)))))))) (by kernel_rfl)
abbrev ju:Stmt:=top 36
abbrev gk:UN:=["_law_one", "_law_other"]
theorem tL:aN ["_law_one", "_law_other"] gk (aC ju):=mM
theorem pY:(["_law_name", "_law_one", "_law_other"]:UN).Nodup:=by decide +kernel
abbrev m8(P:UT)(w:World)(K:UM)(mg:UI)(base:Heap):Prop:=bf P w K mg base "_law_within" gk 1 jo
theorem uW(D:Df K mg "_law_within" gk ju)(T:Txt K mg):m8 P w K mg base:=
 bf.eq (Df.has (k:=0) D tL (λf cdv A outer s H E hr=>
  aH (aT (cZ (Ap hr) (fu ["_law_name"] (by rfl) rfl (cJ (dv 0)) (λ_ _ _ _ _=>dg 0 pY) (λ_ _ _ _ _=>gR (cQ (BX hr) (dv 0) (dv 2) (by rfl))) (λ_ _ _ _ _=>dv 0)) (jX 8 (d:=.list []) (Lit.of (by kernel_rfl)) (by decide +kernel)) (by rfl))))) (by kernel_rfl)
abbrev eN:Stmt:=top 37
abbrev cP:UN:=[]
theorem lH:aN [] cP (aC eN):=mM
abbrev eO(P:UT)(w:World)(K:UM)(mg:UI)(base:Heap):Prop:=bf P w K mg base "_law_kernel_kinds" cP 1 bQ
theorem mP(D:Df K mg "_law_kernel_kinds" cP eN)(T:Txt K mg):eO P w K mg base:=
 bf.eq (Df.has (k:=0) D lH (λf cdv A outer s H E hr=>
  aH (aT (jX 8 (d:=.list [.str "stable",.str "standing",.str "preferred",.str "whole",.str "grounded"]) (Lit.of (by kernel_rfl)) (by decide +kernel))))) (by kernel_rfl)
abbrev iB:Stmt:=top 38
abbrev fK:UN:=["_law_web_here", "_law_kind", "_law_one", "_law_other"]
theorem kG:aN ["_law_web_here", "_law_kind", "_law_one", "_law_other", "_law_mine", "_law_its", "_law_back"] fK (aC iB):=mM
abbrev iC(P:UT)(w:World)(K:UM)(mg:UI)(base:Heap):Prop:=bf P w K mg base "_law_is_idle" fK 1 bZ
theorem tM(D:Df K mg "_law_is_idle" fK iB)(T:Txt K mg):iC P w K mg base:=
 bf.eq (Df.has (k:=0) D kG (λf cdv A outer s H E hr=>
  au (MW 4 5 6 kG.nd (ab (cZ (mK hr) (bA (ab (dv 2) (ab (dv 2) ag))) (bW (aP hr) (dv 0) aJ (λ_ _=>rfl)) (by rfl)) (ab (cZ (mK hr) (bA (ab (dv 3) (ab (dv 3) ag))) (bW (aP hr) (dv 0) aJ (λ_ _=>rfl)) (by rfl)) (ab (cZ (mK hr) (bA (ab (dv 3) (ab (dv 2) ag))) (bW (aP hr) (dv 0) aJ (λ_ _=>rfl)) (by rfl)) ag))))
  (aH (aT (Lb hr (HB (sM dS (dv 4) (sM dS (gb (dv 4) (fq (dv 5))) (sM dS (gb (dv 5) (fq (xb (dv 4) (fq (dv 6))))) HA)))) (dv 1) (gb (dv 4) (fq (xb (dv 6) (fq (dv 5))))) ⟨rfl,rfl,rfl,rfl⟩))))) (by kernel_rfl)
abbrev jv:Stmt:=top 39
abbrev gm:UN:=["_law_web_here", "_law_kind"]
theorem fL:aN ["_law_web_here", "_law_kind", "_law_kept", "_law_one", "_law_other"] gm (aC jv):=mM
abbrev m9(P:UT)(w:World)(K:UM)(mg:UI)(base:Heap):Prop:=bf P w K mg base "_law_kernel" gm 2 gf
theorem uX(D:Df K mg "_law_kernel" gm jv)(T:Txt K mg)(J38:iC P w K mg base):m9 P w K mg base:=
 bf.eq ((Df.has (k:=1) D fL (λf cdv A outer s H E hr=>
  au (ip 2 fL.nd (wO ag))
  (au (nB rfl (cJ (bW (aP hr) (dv 0) aJ (λ_ _=>rfl))) (jm rfl (bF (dg 3 fL.nd) (bF (dg 4 fL.nd) f6)) (aW (aW dB))) (aH (gv (DW.dt (mU (cQ (Ap hr) (dv 3) (dv 4) (by rfl)) (jl (eI (bT (dW J38 de hr (ab (dv 0) (ab (dv 1) (ab (dv 3) (ab (dv 4) ag)))))))))) (aH (gO (vB (dv 2) (bA (ab (dv 3) (ab (dv 4) ag)))))) cF)))
  (aH (aT (bA (ab (bW (aP hr) (dv 0) aJ (λ_ _=>rfl)) (ab (iO (fw rfl) T.n_tuple cv (ab (dv 2) ag)) ag)))))))).gu) (by kernel_rfl)
abbrev iD:Stmt:=top 40
abbrev fM:UN:=["_law_web_here", "_law_kind"]
theorem eZ:aN ["_law_web_here", "_law_kind", "_law_more", "_law_one"] fM (aC iD):=mM
theorem oU:(["_law_other", "_law_web_here", "_law_kind", "_law_more", "_law_one"]:UN).Nodup:=by decide +kernel
abbrev lJ(P:UT)(w:World)(K:UM)(mg:UI)(base:Heap):Prop:=bf P w K mg base "_law_fullest" fM 2 fA
theorem tN(D:Df K mg "_law_fullest" fM iD)(T:Txt K mg)(J38:iC P w K mg base):lJ P w K mg base:=
 bf.eq (Df.has (k:=1) D eZ (λf cdv A outer s H E hr=>
  au (ip 2 eZ.nd (jX 8 (d:=.list []) (Lit.of (by kernel_rfl)) (by decide +kernel)))
  (au (nB rfl (cJ (bW (aP hr) (dv 0) aJ (λ_ _=>rfl))) (dg 3 eZ.nd) (aH (ip 2 eZ.nd (cz kS (dv 2) (fu ["_law_other"] (by rfl) rfl (cJ (bW (aP hr) (dv 0) aJ (λ_ _=>rfl))) (λ_ _ _ _ _=>dg 0 oU) (λ_ _ _ _ _=>gR (DW.dt (Am (cQ (C9 hr) (dv 4) (dv 0) (by rfl)) (wM (bT (dW J38 de hr (ab (dv 1) (ab (dv 2) (ab (dv 4) (ab (dv 0) ag)))))))))) (λ_ _ _ _ _=>bA (ab (dv 4) (ab (dv 0) ag))))))))
  (aH (aT (bA (ab (bW (aP hr) (dv 0) aJ (λ_ _=>rfl)) (ab (iO (fw rfl) T.n_tuple cv (ab (tE rfl hr T.n_sorted T.n_set (cz kS (iO BS T.n_list Bp (ab (bW (aP hr) (dv 0) aJ (λ_ _=>rfl)) ag)) (dv 2))) ag)) ag)))))))) (by kernel_rfl)
abbrev jw:Stmt:=top 42
abbrev gn:UN:=["_law_strikes", "_law_changes"]
theorem lK:aN ["_law_strikes", "_law_changes", "_law_left"] gn (aC jw):=mM
theorem jM:(["_law_one", "_law_strikes", "_law_changes", "_law_left"]:UN).Nodup:=by decide +kernel
abbrev nc(P:UT)(w:World)(K:UM)(mg:UI)(base:Heap):Prop:=bf P w K mg base "_law_turned" gn 1 gg
theorem uY(D:Df K mg "_law_turned" gn jw)(T:Txt K mg):nc P w K mg base:=
 bf.eq (Df.has (k:=0) D lK (λf cdv A outer s H E hr=>
  au (ip 2 lK.nd (cz kS (fu ["_law_one"] (by rfl) rfl (cJ (dv 0)) (λ_ _ _ _ _=>dg 0 jM) (λ_ _ _ _ _=>gR (cQ (BX hr) (dv 0) (dv 2) (by rfl))) (λ_ _ _ _ _=>dv 0)) (fu ["_law_one"] (by rfl) rfl (cJ (dv 1)) (λ_ _ _ _ _=>dg 0 jM) (λ_ _ _ _ _=>gR (cQ (BX hr) (dv 0) (dv 1) (by rfl))) (λ_ _ _ _ _=>dv 0))))
  (aH (aT (iO (fw rfl) T.n_tuple cv (ab (yE (yw hr) T.n_sorted vg (ab (dv 2) ag)) ag)))))) (by kernel_rfl)
abbrev lL:Stmt:=top 41
abbrev jd:UN:=["_law_pen_here", "_law_web_here", "_law_far"]
theorem eE:aN ["_law_pen_here", "_law_web_here", "_law_far", "_law_names_here", "_law_strikes", "_law_again", "_law_two_here"] jd (aC lL):=mM
abbrev qG(P:UT)(w:World)(K:UM)(mg:UI)(base:Heap):Prop:=bf P w K mg base "_law_mate" jd 2 dU
theorem zr(D:Df K mg "_law_mate" jd lL)(T:Txt K mg)(J33:dX P w K mg base)(J42:nc P w K mg base):qG P w K mg base:=
 bf.eq (Df.has (k:=1) D eE (λf cdv A outer s H E hr=>
  au (jV (dv 1) (jm rfl (bF (dg 3 eE.nd) (bF (dg 4 eE.nd) f6)) (aW (aW dB))))
  (au (nB rfl (BK (by rfl) T.n_range (ab (cz BN (dW J33 de hr (ab (dv 0) (ab (cz kS (dv 2) aJ) ag))) (iO IW T.n_int E1 (ab (cZ (C9 hr) (dv 3) (jX 8 (d:=.tuple []) (Lit.of (by kernel_rfl)) (by decide +kernel)) (by rfl)) ag))) ag)) (dg 5 eE.nd) (au (ip 6 eE.nd (bA (ab (bW (aP hr) (dv 3) (dW J33 de hr (ab (dv 0) (ab (yE oA T.n_len jS (ab (dv 3) ag)) ag))) (λ_ _=>rfl)) (ab (bW (aP hr) (dv 3) (dW J33 de hr (ab (dv 0) (ab (yE oA T.n_len jS (ab (dv 3) ag)) ag))) (λ_ _=>rfl)) ag))))
  (aH (ip 4 eE.nd (dW J42 de hr (ab (dv 4) (ab (bA (ab (dv 6) ag)) ag)))))))
  (aH (aT (bA (ab (dv 3) (ab (dv 4) ag)))))))) (by kernel_rfl)
abbrev jx:Stmt:=top 44
abbrev gp:UN:=["_law_pen_here", "_law_web_here"]
theorem lM:aN ["_law_pen_here", "_law_web_here", "_law_more"] gp (aC jx):=mM
theorem pZ:(["_law_name", "_law_pen_here", "_law_web_here", "_law_more"]:UN).Nodup:=by decide +kernel
abbrev jy(P:UT)(w:World)(K:UM)(mg:UI)(base:Heap):Prop:=bf P w K mg base "_law_selves" gp 2 cK
theorem uZ(D:Df K mg "_law_selves" gp jx)(T:Txt K mg)(J33:dX P w K mg base):jy P w K mg base:=
 bf.eq (Df.has (k:=1) D lM (λf cdv A outer s H E hr=>
  au (BM (i:=2) ["_law_name"] lM.nd rfl rfl (by rfl) rfl (cJ (bW (aP hr) (dv 1) aJ (λ_ _=>rfl))) (λ_ _ _ _ _=>dg 0 pZ) (λ_ _ _ _ _=>gR (cQ (Ap hr) (dW J33 de hr (ab (dv 1) (ab aJ ag))) aJ (by rfl))) (λ_ _ _ _ _=>bA (ab (dv 0) (ab (dv 0) ag))))
  (aH (aT (bA (ab (bW (aP hr) (dv 1) aJ (λ_ _=>rfl)) (ab (iO (fw rfl) T.n_tuple cv (ab (tE rfl hr T.n_sorted T.n_set (cz kS (iO BS T.n_list Bp (ab (bW (aP hr) (dv 1) aJ (λ_ _=>rfl)) ag)) (dv 2))) ag)) ag))))))) (by kernel_rfl)
abbrev nO:Stmt:=top 43
abbrev km:UN:=["_law_pen_here", "_law_most"]
theorem je:aN ["_law_pen_here", "_law_most", "_law_one", "_law_kind", "_law_some"] km (aC nO):=mM
abbrev tO(P:UT)(w:World)(K:UM)(mg:UI)(base:Heap):Prop:=bf P w K mg base "_law_two" km 4 iw
theorem AS(D:Df K mg "_law_two" km nO)(T:Txt K mg)(J33:dX P w K mg base)(J44:jy P w K mg base)(J40:lJ P w K mg base)(J39:m9 P w K mg base)(J41:qG P w K mg base)(J37:eO P w K mg base)(J35:nN P w K mg base):tO P w K mg base:=
 bf.eq ((Df.has (k:=3) D je (λf cdv A outer s H E hr=>
  au (ip 2 je.nd (dW J44 av hr (ab (dv 0) (ab (dW J35 av hr (ab (dv 0) (ab (dv 1) ag))) ag))))
  (au (ip 3 je.nd (bW (aP hr) (EH J37 av (hr.mono (by omega)) (by rfl)) (dW J33 av hr (ab (dv 0) (ab aJ ag))) (λ_ _=>rfl)))
  (au (ip 4 je.nd (wO (ab (dW J41 av hr (ab (dv 0) (ab (dv 2) (ab aJ ag)))) (ab (dW J41 av hr (ab (dv 0) (ab (dv 2) (ab aJ ag)))) (ab (dW J39 av hr (ab (dv 2) (ab (dv 3) ag))) (ab (dW J40 av hr (ab (dv 2) (ab (dv 3) ag))) ag))))))
  (au (gO (vB (dv 4) (bA (ab (bW (aP hr) (dv 2) aJ (λ_ _=>rfl)) (ab (bW (aP hr) (dW J44 av hr (ab (dv 0) (ab (bA (ab (bW (aP hr) (dv 2) aJ (λ_ _=>rfl)) (ab (jX 8 (d:=.tuple []) (Lit.of (by kernel_rfl)) (by decide +kernel)) ag))) ag))) aJ (λ_ _=>rfl)) ag)))))
  (aH (aT (bA (ab (dv 2) (ab (bW (aP hr) (dv 4) (dW J33 av hr (ab (dv 0) (ab aJ ag))) (λ_ _=>rfl)) ag)))))))))).gu) (by kernel_rfl)
abbrev ko:Stmt:=top 45
abbrev gX:UN:=["_law_pen_here", "_law_one", "_law_other", "_law_kind"]
theorem gq:aN ["_law_pen_here", "_law_one", "_law_other", "_law_kind", "_law_near", "_law_least", "_law_more", "_law_both"] gX (aC ko):=mM
theorem qU:(["_law_strike", "_law_pen_here", "_law_one", "_law_other", "_law_kind", "_law_near", "_law_least", "_law_more", "_law_both"]:UN).Nodup:=by decide +kernel
abbrev oV(P:UT)(w:World)(K:UM)(mg:UI)(base:Heap):Prop:=bf P w K mg base "_law_right" gX 7 et
theorem xG(D:Df K mg "_law_right" gX ko)(T:Txt K mg)(J36:m8 P w K mg base)(J16:tI P w K mg base)(J26:oQ P w K mg base)(J29:qC P w K mg base)(J27:vX P w K mg base)(J44:jy P w K mg base)(J35:nN P w K mg base)(J33:dX P w K mg base):oV P w K mg base:=
 bf.eq (Df.has (k:=6) D gq (λf cdv A outer s H E hr=>
  au (ip 4 gq.nd (bA (ab (bW (aP hr) (dv 1) aJ (λ_ _=>rfl)) (ab (iO (fw rfl) T.n_tuple cv (ab (fu ["_law_strike"] (by rfl) rfl (cJ (bW (aP hr) (dW J27 av hr (ab (dv 1) (ab (dv 3) ag))) aJ (λ_ _=>rfl))) (λ_ _ _ _ _=>dg 0 qU) (λ_ _ _ _ _=>gR (DW.dt (mU (cQ (mK hr) (dv 0) (bW (aP hr) (dv 2) aJ (λ_ _=>rfl)) (by rfl)) (jl (cQ (Ap hr) (dW J33 de hr (ab (dv 1) (ab aJ ag))) aJ (by rfl)))))) (λ_ _ _ _ _=>dv 0)) ag)) ag))))
  (au (MU 5 6 gq.nd (ab (dW J26 av hr (ab (dv 1) (ab (dv 3) ag))) (ab (dW J44 av hr (ab (dv 0) (ab (dW J35 av hr (ab (dv 0) (ab aJ ag))) ag))) ag)))
  (au (gv (DW.dt (mU (eI (bT (dW J29 av hr (ab (dv 4) (ab (dv 1) (ab (dv 3) ag)))))) (jl (cQ (C9 hr) (dW J29 av hr (ab (dv 4) (ab (dv 2) (ab (dv 3) ag)))) (dW J29 av hr (ab (dv 1) (ab (dv 2) (ab (dv 3) ag)))) (by rfl))))) (aH (aT dH)) cF)
  (au (gv (eI (bT (dW J29 av hr (ab (dW J16 av hr (ab (dv 4) (ab (dv 6) ag))) (ab (dW J16 av hr (ab (dv 1) (ab (dv 6) ag))) (ab (dv 3) ag)))))) (aH (aT dH)) cF)
  (au (gv (eI (bT (dW J29 av hr (ab (dW J16 av hr (ab (dv 5) (ab (dv 6) ag))) (ab (dW J16 av hr (ab (dW J27 av hr (ab (dv 1) (ab (dv 3) ag))) (ab (dv 6) ag))) (ab (dv 3) ag)))))) (aH (aT dH)) cF)
  (au (gv (DW.dt (Am (bT (dW J29 av hr (ab (dv 1) (ab (dv 2) (ab (dv 3) ag))))) (wM (eI (bT (dW J29 av hr (ab (dW J16 av hr (ab (dv 1) (ab (dv 6) ag))) (ab (dW J16 av hr (ab (dv 2) (ab (dv 6) ag))) (ab (dv 3) ag))))))))) (aH (aT dH)) cF)
  (au (gv (DW.dt (mU (eI (bT (dW J29 av hr (ab (dW J16 av hr (ab (dv 4) (ab (dv 1) ag))) (ab (dv 1) (ab (dv 3) ag)))))) (jl (eI (bT (dW J29 av hr (ab (dW J16 av hr (ab (dv 4) (ab (dv 5) ag))) (ab (dv 1) (ab (dv 3) ag))))))))) (aH (aT dH)) cF)
  (au (ip 7 gq.nd (bW (aP hr) (dW J26 av hr (ab (dW J16 av hr (ab (dv 1) (ab (dv 6) ag))) (ab (dv 3) ag))) aJ (λ_ _=>rfl)))
  (aH (aT (dW J36 av hr (ab (dv 7) (ab (bW (aP hr) (dW J16 av hr (ab (dv 5) (ab (dW J26 av hr (ab (dv 6) (ab (dv 3) ag))) ag))) aJ (λ_ _=>rfl)) ag)))))))))))))) (by kernel_rfl)
abbrev oW:Stmt:=top 46
abbrev M6:UN:=["_law_script"]
theorem nP:aN ["_law_script", "_law_cell_here", "_law_pen_here", "_law_most", "_law_one", "_law_other", "_law_kind"] M6 (aC oW):=mM
theorem Lg{f:Addr}{fd:FuncData}(Fu:IK K "law" "law" oW f fd)(T:Txt K mg)(J31:qE P w K mg base)(J37:eO P w K mg base)(J45:oV P w K mg base)(J43:tO P w K mg base)(J32:tK P w K mg base):jA P w K mg base (uo P w) 8 f fd ["_law_script"] (Gn ⟨P,w,mg,K⟩ B2):=
 KZ (PQ (k:=7) Fu nP (λcdv A outer s H E hr=>
  au (nB rfl (cJ (cz kS (Ky (ab (dW J31 de hr (ab (dv 0) (ab aJ ag))) ag)) (Di (dv 0) (wX aJ) (wX aJ)))) (dg 1 nP.nd) (au (ip 2 nP.nd (dW J32 de hr (ab (dv 1) ag)))
  (aH (nB rfl (cJ (jX 8 (d:=.tuple [.int 5,.int 5,.int 3]) (Lit.of (by kernel_rfl)) (by decide +kernel))) (dg 3 nP.nd) (au (jV (dW J43 de hr (ab (dv 2) (ab (dv 3) ag))) (jm rfl (bF (dg 4 nP.nd) (bF (dg 5 nP.nd) f6)) (aW (aW dB))))
  (aH (nB rfl (cJ (EH J37 de (hr.mono (by omega)) (by rfl))) (dg 6 nP.nd) (aH (gv (eI (bT (dW J45 de hr (ab (dv 2) (ab (dv 4) (ab (dv 5) (ab (dv 6) ag))))))) (aH (aT dH)) cF)))))))))
  (aH (aT dH)))) (by kernel_rfl)
end
end K87
namespace Ml
open PySem
@[simp] theorem OR(i:Nat)(ρ:Fm)(h:Hm):ae i ρ h=(match ρ[i]? with
 |some (some d)=>.ok d h
 |_=>.bad):=rfl
@[simp] theorem OS(d:PyData)(z0:Fm)(h:Hm):ai d z0 h=(.ok (.dat d) h):=rfl
@[simp] theorem PY(n:Str)(z0:Fm)(h:Hm):Qm n z0 h=(.ok (.fn n) h):=rfl
@[simp] theorem OT (z0:Fm)(h:Hm):ah  z0 h=(.ok [] h):=rfl
@[simp] theorem NA(e:ME)(a:MA)(ρ:Fm)(h:Hm):aa e a ρ h=((e ρ h).bind λx h1=>(a ρ h1).bind λxs h2=>.ok (x::xs) h2):=rfl
@[simp] theorem OU(f:D->D->Hm->R D)(a b:ME)(ρ:Fm)(h:Hm):ak f a b ρ h=((a ρ h).bind λx h1=>(b ρ h1).bind λy h2=>f x y h2):=rfl
@[simp] theorem PZ(f:D->Hm->R D)(a:ME)(ρ:Fm)(h:Hm):IQ f a ρ h=((a ρ h).bind λx h1=>f x h1):=rfl
@[simp] theorem NB(f:Fn)(a:MA)(ρ:Fm)(h:Hm):af f a ρ h=((a ρ h).bind λxs h1=>f xs h1):=rfl
@[simp] theorem NC(e:ME)(ρ:Fm)(h:Hm):bc e ρ h=((e ρ h).bind λx h1=>match x with
 |.dat (.bool b)=>.ok b h1
 |_=>.bad):=rfl
@[simp] theorem OV(t:MT)(ρ:Fm)(h:Hm):fO t ρ h=((t ρ h).bind λb h1=>.ok (!b) h1):=rfl
@[simp] theorem OW(t u:MT)(ρ:Fm)(h:Hm):nQ t u ρ h=((t ρ h).bind λb h1=>if b then u ρ h1 else .ok false h1):=rfl
@[simp] theorem P0(t u:MT)(ρ:Fm)(h:Hm):um t u ρ h=((t ρ h).bind λb h1=>if b then .ok true h1 else u ρ h1):=rfl
@[simp] theorem OX(a b:ME)(ρ:Fm)(h:Hm):OG a b ρ h=((bc a ρ h).bind λc h1=>if c then b ρ h1 else .ok (.bool false) h1):=rfl
@[simp] theorem P1(a b:ME)(ρ:Fm)(h:Hm):Qn a b ρ h=((bc a ρ h).bind λc h1=>if c then .ok (.bool true) h1 else b ρ h1):=rfl
@[simp] theorem OY(a:ME)(ρ:Fm)(h:Hm):OH a ρ h=((bc a ρ h).bind λc h1=>.ok (.bool !c) h1):=rfl
@[simp] theorem P4(t:MT)(a b:ME)(ρ:Fm)(h:Hm):Qo t a b ρ h=((t ρ h).bind λc h1=>if c then a ρ h1 else b ρ h1):=rfl
@[simp] theorem OZ(a:MA):bL a=(af kM a:ME):=rfl
@[simp] theorem O0(a:MA):Ep a=(af ie a:ME):=rfl
@[simp] theorem O6(a:MA):uG a=(af Bu a:ME):=rfl
@[simp] theorem ND (ρ:Fm)(h:Hm):cL  ρ h=(.ok (.nx ρ) h):=rfl
@[simp] theorem O7(a b:MS)(ρ:Fm)(h:Hm):bx a b ρ h=((a ρ h).bind λf h1=>match f with
 |.nx ρ1=>b ρ1 h1
 |f=>.ok f h1):=rfl
@[simp] theorem O8(i:Nat)(e:ME)(ρ:Fm)(h:Hm):cw i e ρ h=((e ρ h).bind λx h1=>.ok (.nx (ρ.set i (some x))) h1):=rfl
@[simp] theorem NF(e:ME)(ρ:Fm)(h:Hm):jE e ρ h=((e ρ h).bind λ_ h1=>.ok (.nx ρ) h1):=rfl
@[simp] theorem O9(e:ME)(ρ:Fm)(h:Hm):bS e ρ h=((e ρ h).bind λx h1=>.ok (.rt x) h1):=rfl
@[simp] theorem P5(t:MT)(a b:MS)(ρ:Fm)(h:Hm):o8 t a b ρ h=((t ρ h).bind λc h1=>if c then a ρ h1 else b ρ h1):=rfl
@[simp] theorem M7 (ρ:Fm)(h:Hm):Ks  ρ h=(.ok (.bk ρ) h):=rfl
@[simp] theorem NG (ρ:Fm)(h:Hm):MB  ρ h=(.ok (.ct ρ) h):=rfl
@[simp] theorem NH(i:Nat)(x:D)(ρ:Fm)(h:Hm):aA i x ρ h=(.ok (ρ.set i (some x)) h):=rfl
@[simp] theorem Pa (xs:List D)(ρ:Fm)(h:Hm):hV  xs ρ h=(match xs with
 | []=>.ok ρ h
 |_=>.bad):=rfl
@[simp] theorem NI(g:MG)(gs:Er)(xs:List D)(ρ:Fm)(h:Hm):bM g gs xs ρ h=(match xs with
 | []=>.bad
 |x::xs=>(g x ρ h).bind λρ1 h1=>gs xs ρ1 h1):=rfl
@[simp] theorem Pb(gs:Er)(x:D)(ρ:Fm)(h:Hm):hX gs x ρ h=(match x with
 |.dat (.tuple ds)=>gs (ds.map D.dat) ρ h
 |_=>.bad):=rfl
@[simp] theorem Pd(g:MG)(e:ME)(ρ:Fm)(h:Hm):kN g e ρ h=((e ρ h).bind λx h1=>(g x ρ h1).bind λρ1 h2=>.ok (.nx ρ1) h2):=rfl
@[simp] theorem Pe(is:List Nat)(a:MA)(ρ:Fm)(h:Hm):uH is a ρ h=((a ρ h).bind λxs h1=>match kO is xs ρ with
 |some ρ1=>.ok (.nx ρ1) h1
 |Option.none=>.bad):=rfl
@[simp] theorem NJ(e:ME)(ρ:Fm)(h:Hm):Bv e ρ h=((e ρ h).bind λx h1=>match x with
 |.dat (.tuple ds)=>.ok (ds.map D.dat) h1
 |_=>.bad):=rfl
@[simp] theorem NK(e:ME)(ρ:Fm)(h:Hm):Es e ρ h=((e ρ h).bind λx h1=>match x with
 |.dat (.list ds)=>.ok (ds.map D.dat) h1
 |_=>.bad):=rfl
@[simp] theorem NL(e:ME)(ρ:Fm)(h:Hm):Et e ρ h=((e ρ h).bind λx h1=>match x with
 |.dat (.str s)=>.ok (signs s) h1
 |_=>.bad):=rfl
@[simp] theorem NM(e:ME)(ρ:Fm)(h:Hm):aX e ρ h=(match e ρ h with
 |.ok (.dat (.tuple ds)) h1=>.ok (ds.map D.dat) h1
 |.ok (.dat (.list ds)) h1=>.ok (ds.map D.dat) h1
 |.ok (.dat (.str s)) h1=>.ok (signs s) h1
 |.ok (.ktup ds) h1=>.ok (ds.map D.dat) h1
 |.exc x h1=>.exc x h1
 |_=>.bad):=rfl
@[simp] theorem NO(a:MA)(ρ:Fm)(h:Hm):qf a ρ h=((a ρ h).bind λxs h1=>match xs with
 | [.dat (.int j)]=>if -(2^62)<=j/\j<2^62 then .ok (nums 0 j.toNat) h1 else .bad
 |_=>.bad):=rfl
@[simp] theorem M8(a:MA)(ρ:Fm)(h:Hm):Kt a ρ h=((a ρ h).bind λxs h1=>match xs with
 | [.dat (.int i),.dat (.int j)]=>if -(2^62)<=i/\i<2^62/\-(2^62)<=j/\j<2^62 then .ok (nums i (j-i).toNat) h1 else .bad
 |_=>.bad):=rfl
@[simp] theorem NP(a:MA)(ρ:Fm)(h:Hm):Bw a ρ h=((a ρ h).bind λxs h1=>match xs with
 | [.dat (.tuple ds),.dat (.tuple es)]=>.ok (wH ds es) h1
 |_=>.bad):=rfl
@[simp] theorem Pf(it:MA)(g:MG)(b:MS)(ρ:Fm)(h:Hm):pC it g b ρ h=((it ρ h).uF.bind λxs h1=>dh g b xs ρ h1):=rfl
@[simp] theorem NQ (z0:Fm)(h:Hm):dR  z0 h=(.ok true h):=rfl
@[simp] theorem NR(p n:Nat)(b:MS)(xs:List D)(h:Hm):bE p n b xs h=(if xs.length=p then(b (xs.map some++List.replicate (n-p) none) h).bind rP else .bad):=rfl
@[simp] theorem NS(x:D)(h:Hm):truth x h=(match x with
 |.dat .none=>some false
 |.dat (.bool b)=>some b
 |.dat (.int i)=>some (i != 0)
 |.dat (.str s)=>if mI s.length then some ((s.length:Int) != 0)else Option.none
 |.dat (.tuple ds)=>some !ds.isEmpty
 |.dat (.list ds)=>some !ds.isEmpty
 |.ref i=>match h[i]? with
  |some (.lst xs)=>some !xs.isEmpty
  |_=>Option.none
 |_=>Option.none:Option Bool):=rfl
@[simp] theorem M9(e:ME)(ρ:Fm)(h:Hm):bz e ρ h=((e ρ h).bind λx h1=>match truth x h1 with
 |some b=>.ok b h1
 |Option.none=>.bad):=rfl
@[simp] theorem Pg(a b:ME)(ρ:Fm)(h:Hm):Dg a b ρ h=((a ρ h).bind λx h1=>match truth x h1 with
 |some c=>if c then .ok x h1 else b ρ h1
 |none=>.bad):=rfl
@[simp] theorem NT(a b:ME)(ρ:Fm)(h:Hm):kD a b ρ h=((a ρ h).bind λx h1=>match truth x h1 with
 |some c=>if c then b ρ h1 else .ok x h1
 |none=>.bad):=rfl
@[simp] theorem Na(f g:D->D->Hm->R D)(a b c:ME)(ρ:Fm)(h:Hm):nG f g a b c ρ h=((a ρ h).bind λx h1=>(b ρ h1).bind λy h2=>(f x y h2).bind λz h3=>match z with
 |.dat (.bool k)=>if k then(c ρ h3).bind λw h4=>g y w h4 else .ok (.bool false) h3
 |_=>.bad):=rfl
@[simp] theorem P6(e:ME)(lo hi:IS)(ρ:Fm)(h:Hm):Nz e lo hi ρ h=((e ρ h).bind λx h1=>(lo ρ h1).bind λl h2=>(hi ρ h2).bind λu h3=>MF x l u h3):=rfl
@[simp] theorem NU (z0:Fm)(h:Hm):Bz  z0 h=(.ok Option.none h):=rfl
@[simp] theorem NV(e:ME)(ρ:Fm)(h:Hm):mS e ρ h=((e ρ h).bind λx h1=>match x with
 |.dat (.int i)=>.ok (some i) h1
 |_=>.bad):=rfl
@[simp] theorem P7(x:D)(lo hi:Option Int)(h:Hm):MF x lo hi h=(match x with
 |.dat (.tuple ds)=>.ok (.dat (.tuple (cut ds lo hi))) h
 |.dat (.list ds)=>.ok (.dat (.list (cut ds lo hi))) h
 |_=>.bad:R D):=rfl
@[simp] theorem Ph(f:PyData->Bool)(x:D)(h:Hm):ym f x h=(match x with
 |.dat d=>.ok (.bool (f d)) h
 |_=>.bad):=rfl
@[simp] theorem Pj(x y:D)(h:Hm):Eu x y h=(match x,y with
 |.dat (.int i),.dat (.int j)=>.ok (.int (i-j)) h
 |_,_=>.bad:R D):=rfl
@[simp] theorem P8(x y:D)(h:Hm):MC x y h=(match x,y with
 |.dat (.int i),.dat (.int j)=>.ok (.bool (decide (j<i))) h
 |_,_=>.bad:R D):=rfl
@[simp] theorem P9(x y:D)(h:Hm):MD x y h=(match x,y with
 |.dat (.int i),.dat (.int j)=>.ok (.bool (decide (j<=i))) h
 |_,_=>.bad:R D):=rfl
@[simp] theorem Pk(x:D)(h:Hm):OI x h=(match x with
 |.dat (.int i)=>.ok (.int (-i)) h
 |_=>.bad:R D):=rfl
@[simp] theorem LR(ρ:Fm):kO [] [] ρ=some ρ:=rfl
@[simp] theorem LS(i:Nat)(is:List Nat)(x:D)(xs:List D)(ρ:Fm):kO (i::is) (x::xs) ρ=kO is xs (ρ.set i (some x)):=rfl
@[simp] theorem LU(i:Nat)(is:List Nat)(ρ:Fm):kO (i::is) [] ρ=none:=rfl
@[simp] theorem LV(x:D)(xs:List D)(ρ:Fm):kO [] (x::xs) ρ=none:=rfl
@[simp] theorem NW(d:D)(h:Hm):rP (.rt d) h=.ok d h:=rfl
@[simp] theorem NX(ρ:Fm)(h:Hm):rP (.nx ρ) h=.ok D.none h:=rfl
@[simp] theorem NY(ρ:Fm)(h:Hm):rP (.bk ρ) h=.bad:=rfl
@[simp] theorem NZ(ρ:Fm)(h:Hm):rP (.ct ρ) h=.bad:=rfl
@[simp] theorem HN  : isTup .none=false:=rfl
@[simp] theorem HP(b:Bool):isTup (.bool b)=false:=rfl
@[simp] theorem I0(i:Int):isTup (.int i)=false:=rfl
@[simp] theorem Ja(s:Str):isTup (.str s)=false:=rfl
@[simp] theorem Gp(xs:UJ):isTup (.tuple xs)=true:=rfl
@[simp] theorem HQ(xs:UJ):isTup (.list xs)=false:=rfl
@[simp] theorem HR(xs:UG):isTup (.dict xs)=false:=rfl
@[simp] theorem HS  : isStr .none=false:=rfl
@[simp] theorem HU(b:Bool):isStr (.bool b)=false:=rfl
@[simp] theorem Jb(i:Int):isStr (.int i)=false:=rfl
@[simp] theorem Jc(s:Str):isStr (.str s)=true:=rfl
@[simp] theorem Gq(xs:UJ):isStr (.tuple xs)=false:=rfl
@[simp] theorem HV(xs:UJ):isStr (.list xs)=false:=rfl
@[simp] theorem HW(xs:UG):isStr (.dict xs)=false:=rfl
@[simp] theorem HX  : isInt .none=false:=rfl
@[simp] theorem HY(b:Bool):isInt (.bool b)=true:=rfl
@[simp] theorem Jd(i:Int):isInt (.int i)=true:=rfl
@[simp] theorem Je(s:Str):isInt (.str s)=false:=rfl
@[simp] theorem Gr(xs:UJ):isInt (.tuple xs)=false:=rfl
@[simp] theorem HZ(xs:UJ):isInt (.list xs)=false:=rfl
@[simp] theorem H0(xs:UG):isInt (.dict xs)=false:=rfl
@[simp] theorem Ia  : rR .none=false:=rfl
@[simp] theorem Ib(b:Bool):rR (.bool b)=true:=rfl
@[simp] theorem Jf(i:Int):rR (.int i)=false:=rfl
@[simp] theorem Jg(s:Str):rR (.str s)=false:=rfl
@[simp] theorem Gs(xs:UJ):rR (.tuple xs)=false:=rfl
@[simp] theorem Ic(xs:UJ):rR (.list xs)=false:=rfl
@[simp] theorem Ie(xs:UG):rR (.dict xs)=false:=rfl
@[simp] theorem rep0{α:Type}(a:α):List.replicate 0 a=[]:=rfl
@[simp] theorem rep1{α:Type}(a:α):List.replicate 1 a=[a]:=rfl
@[simp] theorem rep2{α:Type}(a:α):List.replicate 2 a=[a,a]:=rfl
@[simp] theorem rep3{α:Type}(a:α):List.replicate 3 a=[a,a,a]:=rfl
@[simp] theorem Qt{α:Type}(a:α):List.replicate 4 a=[a,a,a,a]:=rfl
@[simp] theorem Qu{α:Type}(a:α):List.replicate 5 a=[a,a,a,a,a]:=rfl
@[simp] theorem Qv{α:Type}(a:α):List.replicate 6 a=[a,a,a,a,a,a]:=rfl
@[simp] theorem Qw{α:Type}(a:α):List.replicate 7 a=[a,a,a,a,a,a,a]:=rfl
@[simp] theorem Qx{α:Type}(a:α):List.replicate 8 a=[a,a,a,a,a,a,a,a]:=rfl
@[simp] theorem Qy{α:Type}(a:α):List.replicate 9 a=[a,a,a,a,a,a,a,a,a]:=rfl
theorem sz(h:n<=16777216):mI n=true:=Rg h
@[simp] theorem mw(ds:UJ)(h:Hm)(hz:ds.length<=16777216):kM (ds.map D.dat) h=.ok (.dat (.tuple ds)) h:=by simp[kM,lX,sz hz]
theorem dC(ds:UJ)(h:Hm)(hz:ds.length<=16777216):ie (ds.map D.dat) h=.ok (.dat (.list ds)) h:=by simp[ie,lX,sz hz]
@[simp] theorem Pl(h:Hm):kM [] h=.ok (.dat (.tuple [])) h:=mw [] h (by decide)
@[simp] theorem Lh(a:PyData)(h:Hm):kM [.dat a] h=.ok (.dat (.tuple [a])) h:=mw [a] h (by simp)
@[simp] theorem Li(a b:PyData)(h:Hm):kM [.dat a,.dat b] h=.ok (.dat (.tuple [a,b])) h:=mw [a,b] h (by simp)
@[simp] theorem Lj(a b c:PyData)(h:Hm):kM [.dat a,.dat b,.dat c] h=.ok (.dat (.tuple [a,b,c])) h:=mw [a,b,c] h (by simp)
@[simp] theorem Pm(h:Hm):ie [] h=.ok (.dat (.list [])) h:=dC [] h (by decide)
@[simp] theorem Lk(a:PyData)(h:Hm):ie [.dat a] h=.ok (.dat (.list [a])) h:=dC [a] h (by simp)
@[simp] theorem Pn(a b:PyData)(h:Hm):ie [.dat a,.dat b] h=.ok (.dat (.list [a,b])) h:=dC [a,b] h (by simp)
@[simp] theorem Po(a b c:PyData)(h:Hm):ie [.dat a,.dat b,.dat c] h=.ok (.dat (.list [a,b,c])) h:=dC [a,b,c] h (by simp)
theorem qH(c:D->Bool)(f:D->D):∀{xs:List D},(∀x∈xs,∃ρ1,g x (List.replicate n none++ρ) h=.ok ρ1 h/\t ρ1 h=.ok (c x) h/\(c x=true->e ρ1 h=.ok (f x) h))->dE n ρ g t e xs h=.ok ((xs.filter c).map f) h
 | [],_=>rfl
 |x::xs,H=>by
  obtain⟨ρ1,h1,h2,h3⟩:=H x (QS ..);have ih:=qH c f λy hy=>H y (QL _ hy);unfold dE;rw[h1];simp;rw[h2];simp
  cases hc:c x with
  |false=>grind
  |true=>
   simp_all
theorem tP(hit:it ρ h=.ok xs h1)(hz:xs.length<=16777216)(c:D->Bool)(f:D->PyData)
 (H:∀x∈xs,∃ρ1,g x (List.replicate n none++ρ) h1=.ok ρ1 h1/\t ρ1 h1=.ok (c x) h1/\(c x=true->e ρ1 h1=.ok (.dat (f x)) h1)):cx n it g t e ρ h=.ok (.dat (.list ((xs.filter c).map f))) h1:=by
 unfold cx af kP;rw[hit];simp[sz hz];rw[qH c _ H];have e1:(List.map (λx=>D.dat (f x)) (List.filter c xs))=((xs.filter c).map f).map D.dat:=by simp
 rw[e1]
 exact dC _ _ (by
  rw[QR]
  exact QM (RQ _ _) hz)
theorem mz{ds:UJ}(hit:it ρ h=.ok (ds.map D.dat) h1)(hz:ds.length<=16777216)(f:PyData->PyData)
 (H:∀x∈ds,∃ρ1,g (.dat x) (List.replicate n none++ρ) h1=.ok ρ1 h1/\e ρ1 h1=.ok (.dat (f x)) h1):cx n it g dR e ρ h=.ok (.dat (.list (ds.map f))) h1:=by
 have:=tP (n:=n) (t:=dR) (g:=g) (e:=e) hit (by grind) (λ_=>true) (λx=>match x with|.dat d=>f d|_=>.none) (λx hx=>by
  obtain⟨d,hd,rfl⟩:=Q4.mp hx
  simp_all)
 rw[this,show _=λ_=>true from rfl,List.filter_eq_self.mpr (λ_ _=>rfl),Uo];rfl
theorem jN{ds:UJ}(hit:it ρ h=.ok (ds.map D.dat) h1)(hz:ds.length<=16777216)(c:PyData->Bool)(f:PyData->PyData)
 (H:∀x∈ds,∃ρ1,g (.dat x) (List.replicate n none++ρ) h1=.ok ρ1 h1/\t ρ1 h1=.ok (c x) h1/\(c x=true->e ρ1 h1=.ok (.dat (f x)) h1)):cx n it g t e ρ h=.ok (.dat (.list ((ds.filter c).map f))) h1:=by
 have:=tP (n:=n) (t:=t) (g:=g) (e:=e) hit (by grind) (λx=>match x with|.dat d=>c d|_=>false) (λx=>match x with|.dat d=>f d|_=>.none) (λx hx=>by
  obtain⟨d,hd,rfl⟩:=Q4.mp hx
  grind)
 simp[this,List.filter_map,Function.comp_def]
theorem AU(bs:List Bool)(h:Hm):wJ [.dat (.list (bs.map .bool))] h=.ok (.bool (bs.all id)) h:=by simp[wJ,C3]
theorem kq(I:Hm->Prop)(f:D->D->Prop):∀{xs:List D} {h:Hm},(∀x∈xs,∀h,I h->∃ρ1 h1 c h2,g x (List.replicate n none++ρ) h=.ok ρ1 h1/\t ρ1 h1=.ok c h2/\((c=false/\I h2)\/(c=true/\∃y h3,e ρ1 h2=.ok y h3/\f x y/\I h3)))->I h ->
  ∃ys zs h',dE n ρ g t e xs h=.ok ys h'/\I h'/\zs.Sublist xs/\PySem.Paired f zs ys
 | [],h,_,a=>⟨[],[],h,rfl,a,.slnil,.nil⟩
 |x::xs,h,H,a=>by
  obtain⟨ρ1,h1,c,h2,e1,e2,k⟩:=H x (QS ..) h a;unfold dE;rw[e1];simp only[R.dD,R.aK];rw[e2];simp only[R.dD,R.aK];rcases k with⟨rfl,a2⟩|⟨rfl,y,h3,e3,fy,a3⟩
  ·obtain⟨ys,zs,h',q1,q2,q3,q4⟩:=kq I f (xs:=xs) (λy hy=>H y (QL _ hy)) a2
   grind
  ·obtain⟨ys,zs,h',q1,q2,q3,q4⟩:=kq I f (xs:=xs) (λy hy=>H y (QL _ hy)) a3;refine⟨y::ys,x::zs,h',?_,q2,.cons_cons _ q3,.cons fy q4⟩;simp only[Rr];rw[e3];simp only[R.dD,R.aK];rw[q1];rfl
mutual
def zt:PyData->Bool
 |.none|.bool _=>true
 |.int i=>decide (i.natAbs<10^30)
 |.str x=>PyData.strOk x
 |.tuple ds=>iE ds
 |.list ds=>iE ds
 |.dict _=>false
def iE:UJ->Bool
 | []=>true
 |d::ds=>zt d&&iE ds
end
mutual
theorem zu:∀{d:PyData},zt d=true->d.canLay0=true
 |.none,_=>by rfl
 |.bool _,_=>by rfl
 |.int _,h=>by rfl
 |.str x,h=>by assumption
 |.tuple ds,h=>qa h
 |.list ds,h=>qa h
 |.dict _,h=>by assumption
theorem qa:∀{ds:UJ},iE ds=true->PyData.canLayAll0 ds=true
 | [],_=>by rfl
 |d::ds,h=>by simp only[iE,QG]at h;simp only[PyData.canLayAll0,QG];exact⟨zu h.1,qa h.2⟩
end
theorem oX:∀(a b:UJ),iE (a++b)=(iE a&&iE b)
 | [],b=>by rfl
 |d::a,b=>by simp[iE,oX a b,Bool.and_assoc]
theorem qI:∀(a b:UJ),PyData.weightAll (a++b)=PyData.weightAll a+PyData.weightAll b
 | [],b=>by simp[PyData.weightAll]
 |d::a,b=>by simp[PyData.weightAll,qI a b];omega
theorem qJ:∀(a b:UJ),PyData.depthAll (a++b)=max (PyData.depthAll a) (PyData.depthAll b)
 | [],b=>by rfl
 |d::a,b=>by simp only[SW,PyData.depthAll,qJ a b];omega
theorem zv:∀(a:UJ),a.length<=PyData.weightAll a
 | []=>by simp
 |d::a=>by
  have:=zv a
  grind[PyData.weightAll,List.length_cons]
theorem vY:∀{ds:UJ} {d:PyData},iE ds=true->d∈ds->zt d=true
 |e::ds,d,h,m=>by
  simp[iE]at h;rcases QK.mp m with rfl|m
  ·grind
  ·exact vY h.2 m
theorem zw:∀{ds:UJ},(∀d∈ds,zt d=true)->iE ds=true
 | [],_=>rfl
 |d::ds,h=>by simp[iE];exact⟨h d (QS ..),zw λe m=>h e (QL _ m)⟩
theorem vZ:∀{ds:UJ} {d:PyData},d∈ds->d.depth<=PyData.depthAll ds
 |e::ds,d,m=>by
  simp[PyData.depthAll];rcases QK.mp m with rfl|m
  ·omega
  ·have:=vZ m;omega
theorem fh:∀{ds:UJ} {m:Nat},(∀d∈ds,d.depth<=m)->PyData.depthAll ds<=m
 | [],m,_=>by simp[PyData.depthAll]
 |d::ds,m,h=>by simp[PyData.depthAll];have h1:=h d (QS ..);have h2:=fh λe q=>h e (QL _ q);omega
theorem tQ:∀{ds:UJ} {d:PyData},d∈ds->d.weight+1<=PyData.weightAll ds
 |e::ds,d,m=>by
  simp[PyData.weightAll];rcases QK.mp m with rfl|m
  ·omega
  ·have:=tQ m;omega
theorem oY:∀{ds:UJ} {n:Nat},(∀d∈ds,d.weight<=n)->PyData.weightAll ds<=ds.length*(n+1)
 | [],n,_=>by simp[PyData.weightAll]
 |d::ds,n,h=>by simp[PyData.weightAll,Nat.succ_mul];have h1:=h d (QS ..);have h2:=oY λe q=>h e (QL _ q);omega
structure Ok(n m:Nat)(x:PyData):Prop where
 f:zt x=true
 d:x.depth<=m
 w:x.weight<=n
structure o9(n m:Nat)(ds:UJ):Prop where
 f:iE ds=true
 d:PyData.depthAll ds<=m
 w:PyData.weightAll ds<=n
section
variable {n m n' m':Nat} {d x:PyData} {ds a b:UJ}
theorem o9.tup(o:o9 n m ds):Ok n (m+1) (.tuple ds):=⟨by simpa [zt]using o.f,by simp[PyData.depth];have:=o.d;omega,o.w⟩
theorem Ok.items(o:Ok n m (.tuple ds)):o9 n (m-1) ds:=⟨by simpa [zt]using o.f,by have:=o.d;grind[PyData.depth],by have:=o.w;grind[PyData.weight]⟩
theorem o9.append(x:o9 n1 m a)(y:o9 n2 m b):o9 (n1+n2) m (a++b):=
 ⟨by rw[oX,x.f,y.f];rfl,by rw[qJ];exact Nat.max_le.mpr ⟨x.d,y.d⟩,by rw[qI];exact Nat.add_le_add x.w y.w⟩
theorem o9.one(x:Ok n m d):o9 (n+1) m [d]:=⟨by simp[iE,x.f],by simp[PyData.depthAll];exact x.d,by simp[PyData.weightAll];exact x.w⟩
theorem o9.cons(x:Ok n m d)(y:o9 n' m ds):o9 (n+1+n') m (d::ds):=(o9.one x).append y
theorem o9.mono(x:o9 n m a)(h1:n<=n')(h2:m<=m'):o9 n' m' a:=⟨x.f,QM x.d h2,QM x.w h1⟩
theorem o9.mem(o:o9 n m ds)(h:d∈ds):Ok n m d:=⟨vY o.f h,QM (vZ h) o.d,by have:=tQ h;have:=o.w;omega⟩
theorem o9.len(o:o9 n m ds):ds.length<=n:=QM (zv ds) o.w
theorem o9.of(h:∀d∈ds,Ok n m d):o9 (ds.length*(n+1)) m ds:=⟨zw λd q=>(h d q).f,fh λd q=>(h d q).d,oY λd q=>(h d q).w⟩
theorem Ok.Qb(o:Ok n m d):noDict d=true:=by have:=PyData.hasDict_of_canLay d (zu o.f);simp[noDict,this]
theorem Ok.str(o:Ok n m (.str s)):s.length<=n:=o.w
end
theorem FH(ds:UJ)(z:Nat):cut ds (some (z:Int)) none=ds.drop z:=by
 simp only[cut,fi];rw[if_neg (by omega),Si];by_cases h:z<=ds.length
 ·rw[Nat.min_eq_left h,List.take_of_length_le (by simp)]
 ·rw[Nat.min_eq_right (by omega),RK (QE _),RK (by omega)];simp
theorem FI(ds:UJ):cut ds (some 1) none=ds.drop 1:=FH ds 1
def az(c:Nat):Bool:=decide (97<=c)&&decide (c<=122)
def isName:PyData->Bool
 |.str x=>decide (1<=x.length)&&decide (x.length<=6)&&x.cps.toList.all az
 |_=>false
theorem Qc(a c:Nat):decide ([a]<[c])=decide (a<c):=by
 rw[decide_eq_decide];constructor
 ·intro h
  cases h with
  |rel h=>exact h
  |cons h=>cases h
 ·intro h;exact .rel h
theorem Pp:("a" : Str).cps.toList=[97]:=by rfl
theorem Pq:("z" : Str).cps.toList=[122]:=by rfl
theorem Qz(c:Nat):(!nu (⟨#[c]⟩:Str) ("a" : Str))=decide (97<=c):=by
 unfold nu;rw[Pp,show(_:Str).cps.toList=[c]from rfl,Qc]
 grind
theorem ltZ(c:Nat):(!nu ("z" : Str) (⟨#[c]⟩:Str))=decide (c<=122):=by
 unfold nu;rw[Pq,show(_:Str).cps.toList=[c]from rfl,Qc]
 grind
theorem AV(x:Str):signs x=(ij x).map D.dat:=by simp[signs,ij]
theorem AW(x:Str):(ij x).length=x.length:=by simp[ij];rfl
theorem AX(x:Str)(p:Nat->Bool)(q:PyData->Bool)(h:∀c,q (.str ⟨#[c]⟩)=p c):(ij x).all q=x.cps.toList.all p:=by
 rw[S7,QX,QX];constructor
 ·intro H c hc;obtain⟨i,hi,e⟩:=SE.mp hc
  have:=H (.str ⟨#[c]⟩) (by
   simp only[ij,Q4,RA];refine⟨i,by simpa using hi,?_⟩;have hi':i<x.cps.size:=by simpa using hi
   simp[Array.getD,hi']
   simpa using e)
  rw[h]at this;exact this
 ·intro H d hd;simp only[ij,Q4,RA]at hd;obtain⟨i,hi,rfl⟩:=hd;rw[h];apply H;have:x.cps.getD i 0=x.cps[i]:=by simp[Array.getD,hi]
  rw[this];simp
theorem xH(i j:Int)(h:Hm):oLe (.int i) (.int j) h=.ok (.bool (decide (i<=j))) h:=rfl
theorem Cb(x y:Str)(h:Hm):oLe (.str x) (.str y) h=.ok (.bool (!nu y x)) h:=rfl
theorem tR(h:Hm)(hz:x.length<=16777216):ig [.str x] h=.ok (.int x.length) h:=by simp[ig,sz hz]
@[simp] theorem Nb(ds:UJ)(h:Hm):ig [.dat (.tuple ds)] h=.ok (.int ds.length) h:=rfl
@[simp] theorem Nc(ds:UJ)(h:Hm):ig [.dat (.list ds)] h=.ok (.int ds.length) h:=rfl
def gJ{α:Type}(ds:List α)(f:α->Bool):Bool:=ds.all f
def Pr{α:Type}(ds:List α)(f:α->Bool):Bool:=ds.any f
theorem fN:gJ ds f=true<->∀x∈ds,f x=true:=QX
theorem jO:gJ (a::ds) f=true<->f a=true/\gJ ds f=true:=by simp[gJ]
@[simp] theorem Nd(f:α->Bool):gJ [] f=true:=rfl
@[simp] theorem Nf(f:α->Bool):Pr [] f=false:=rfl
theorem lN(ds:List α)(f:α->Bool)(h:Hm):wJ [.dat (.list (ds.map λx=>.bool (f x)))] h=.ok (.bool (gJ ds f)) h:=by
 unfold gJ;have e1:ds.map (λx=>PyData.bool (f x))=(ds.map f).map .bool:=by simp
 rw[e1,AU]
 simp_all
theorem AY(o:Ok n m d)(hn:n<=10000)(h:Hm):jJ [.dat d] h=.ok (.bool (isName d)) h:=by
 unfold jJ vC
 cases d with
 |str x=>
  have hx:x.length<=16777216:=QM o.str (by omega)
  have key:cx 1 (aX (ae 0)) (aA 0) dR (nG oLe oLe (ai (.str "a")) (ae 0) (ai (.str "z"))) [some (.str x)] h=.ok (.dat (.list ((ij x).map λd=>.bool (match d with|.str y=>!nu y "a" && !nu "z" y|_=>false)))) h:=by
   refine mz (by simp[AV]) (by rw[AW];exact hx) _ λy hy=>?_;simp only[ij,Q4,RA]at hy;obtain⟨i,hi,rfl⟩:=hy;generalize (⟨#[x.cps.getD i 0]⟩:Str)=y;refine⟨_,rfl,?_⟩;by_cases z:nu y "a" = true
   ·simp[Cb,z]
   ·simp[Cb,z]
  by_cases h1:1<=(x.length:Int)
  ·by_cases h2:(x.length:Int)<=6
   ·simp[tR h hx,xH,h1,h2,key,lN];unfold gJ;rw[AX x az _ (λc=>by simp only[az,Qz,ltZ])];simp[isName,show 1<=x.length by omega,show x.length<=6 by omega]
   ·simp[tR h hx,xH,h1,h2,isName,show ¬ x.length<=6 by omega]
  ·simp[tR h hx,xH,h1,isName,show ¬ 1<=x.length by omega]
 |_=>simp[isName]
def u0(ds:UJ):Bool:=gJ (ds.zip ds.tail) λp=>ltB p.1 p.2
structure LW(ds:UJ):Prop where
 nd:∀d∈ds,noDict d=true/\d.depth<=40
 lt:∀d∈ds,∀e∈ds,bV d e=some (ltB d e)
theorem Ll(h1:noDict d=true)(h2:noDict e=true)(h3:d.depth<=40)(h4:bV d e=some (ltB d e))(h:Hm):oLt (.dat d) (.dat e) h=.ok (.bool (ltB d e)) h:=by simp[oLt,h1,h2,h4,show min d.depth e.depth<=40 by omega]
theorem xI(i j:Int)(h:Hm):oLt (.int i) (.int j) h=.ok (.bool (decide (i<j))) h:=by rfl
theorem FJ(h:∀d∈ds,∃x,d=.str x):LW ds:=⟨λd m=>by obtain⟨x,rfl⟩:=h d m;simp[noDict,PyData.hasDict,PyData.depth],λd m e m'=>by
 obtain⟨x,rfl⟩:=h d m
 grind[ltB,bV]⟩
theorem Cc:∀(xs ys:UJ),wH xs ys=((xs.zip ys).map λp=>PyData.tuple [p.1,p.2]).map D.dat
 | [],_=>by rfl
 |_::_,[]=>by rfl
 |x::xs,y::ys=>by simp[wH,Cc xs ys]
theorem Ig{xs:UJ}(h:p∈xs.zip xs.tail):p.1∈xs/\p.2∈xs:=by have:=Uh h;exact⟨this.1,List.mem_of_mem_tail this.2⟩
theorem oZ(c:LW ds)(hz:ds.length<=16777216)(h:Hm):gw [.dat (.tuple ds)] h=.ok (.bool (u0 ds)) h:=by
 unfold gw qm
 have key:cx 2 (Bw (aa (ae 0) (aa (Nz (ae 0) (mS (ai (.int 1))) Bz) ah))) (hX (bM (aA 0) (bM (aA 1) hV))) dR (ak oLt (ae 0) (ae 1)) [some (.dat (.tuple ds))] h=.ok (.dat (.list ((ds.zip ds.tail).map λp=>.bool (ltB p.1 p.2)))) h:=by
  rw[mz (h1:=h) (ds:=(ds.zip ds.tail).map λp=>PyData.tuple [p.1,p.2]) (by simp[FI,Cc]) (by grind) (λd=>.bool (match d with|.tuple [a,b]=>ltB a b|_=>false)) λy hy=>?_]
  ·rw[Uo];rfl
  ·obtain⟨p,hp,rfl⟩:=Q4.mp hy;obtain⟨m1,m2⟩:=Ig hp;refine⟨_,rfl,?_⟩;simp[Ll (c.nd _ m1).1 (c.nd _ m2).1 (c.nd _ m1).2 (c.lt _ m1 _ m2)]
 simp[key,lN,u0]
mutual
def cm:PyData->PyData->Bool
 |.str _,.str _=>true
 |.int _,.int _=>true
 |.tuple xs,.tuple ys=>LX xs ys
 |_,_=>false
def LX:UJ->UJ->Bool
 |x::xs,y::ys=>cm x y&&LX xs ys
 |_,_=>true
end
mutual
theorem AZ:∀{d e:PyData},cm d e=true->(bV d e).isSome=true
 |.str _,e,h=>by cases e<;>simp_all[cm,bV]
 |.int _,e,h=>by cases e<;>simp_all[cm,bV]
 |.tuple xs,e,h=>by
  cases e with
  |tuple ys=>simp only[bV];exact Cd h
  |_=>assumption
 |.none,_,h=>by assumption
 |.bool _,_,h=>by assumption
 |.list _,_,h=>by assumption
 |.dict _,_,h=>by assumption
theorem Cd:∀{xs ys:UJ},LX xs ys=true->(cV xs ys).isSome=true
 | [],[],_=>by rfl
 | [],_::_,_=>by rfl
 |_::_,[],_=>by rfl
 |x::xs,y::ys,h=>by
  simp only[LX,QG]at h;unfold cV;split
  ·exact Cd h.2
  ·exact AZ h.1
end
theorem Ih(h:cm d e=true):bV d e=some (ltB d e):=by
 have:=AZ h;unfold ltB
 cases q:bV d e with
 |none=>grind
 |some b=>rfl
def lP:PyData->Bool
 |.str _=>true
 |_=>false
theorem dw(h:lP d=true):∃x,d=.str x:=by cases d<;>simp_all[lP]
theorem tS:∀{xs ys:UJ},gJ xs lP=true->gJ ys lP=true->LX xs ys=true
 | [],_,_,_=>by rfl
 |_::_,[],_,_=>by rfl
 |x::xs,y::ys,h,k=>by have h:=jO.mp h;have k:=jO.mp k;obtain⟨a,rfl⟩:=dw h.1;obtain⟨b,rfl⟩:=dw k.1;simp[LX,cm,tS h.2 k.2]
theorem LW.of(o:o9 n m ds)(hm:m<=40)(h:∀d∈ds,∀e∈ds,cm d e=true):LW ds:=⟨λd q=>⟨(o.mem q).Qb,by have:=(o.mem q).d;omega⟩,λd q e r=>Ih (h d q e r)⟩
def Ng(ns:UJ)(d:PyData):Bool:=ns.any λy=>PyData.eqv y d
theorem FK(o:Ok n m d):∀{ns:UJ},gJ ns lP=true->Ew d ns=some (Ng ns d)
 | [],_=>rfl
 |y::ns,h=>by
  have h:=jO.mp h;obtain⟨x,rfl⟩:=dw h.1;have ih:=FK o h.2
  have e:C2 (.str x) d=some (PyData.eqv (.str x) d):=by
   have hd  := o.Qb;unfold C2;split
   ·rfl
   ·grind
   grind[eqQ,noDict,PyData.hasDict,PyData.depth]
  simp[Ew,e,ih,Ng]
theorem FN(o:Ok n m d)(h:gJ ns lP=true)(hm:Hm):nv (.dat d) (.dat (.tuple ns)) hm=.ok (.bool (Ng ns d)) hm:=by simp[nv,findIn,iP,n0,FK o h]
theorem Ce(h:gJ ns lP=true):Ng ns d=true<->d∈ns:=by
 simp[Ng];constructor
 ·rintro⟨y,hy,e⟩;obtain⟨x,rfl⟩:=dw (fN.mp h y hy);cases d<;>simp[PyData.eqv]at e
  grind
 ·intro q;obtain⟨x,rfl⟩:=dw (fN.mp h d q)
  grind[PyData.eqv]
theorem A0(h:isName d=true):lP d=true:=by cases d<;>simp_all[isName,lP]
theorem A1(h:gJ ds isName=true):gJ ds lP=true:=fN.mpr λd m=>A0 (fN.mp h d m)
theorem FO(h:gJ ds lP=true):∀d∈ds,∃x,d=.str x:=λd m=>dw (fN.mp h d m)
def iF:PyData->Bool
 |.tuple ds=>decide (ds.length<=12)&&gJ ds isName&&u0 ds
 |_=>false
theorem xJ(o:Ok n m d)(hn:n<=10000)(h:Hm):iT [.dat d] h=.ok (.bool (iF d)) h:=by
 unfold iT qo
 cases d with
 |tuple ds=>
  have hl:=o.items.len;have key:=mz (n:=1) (it:=aX (ae 0)) (g:=aA 0) (e:=af jJ (aa (ae 0) ah)) (ρ:=[some (.dat (.tuple ds))]) (h:=h) (h1:=h) (ds:=ds) (by simp) (by omega) (λx=>.bool (isName x)) (λx hx=>⟨_,rfl,by simp[AY (o.items.mem hx) hn]⟩);by_cases h1:ds.length<=12
  ·by_cases h2:gJ ds isName=true
   ·have:=oZ (FJ (FO (A1 h2))) (by omega) h;simp[key,lN,h1,show ¬ (12:Int)<ds.length by omega,h2,this,iF]
   ·simp[key,lN,h1,show ¬ (12:Int)<ds.length by omega,h2,iF]
  ·simp[h1,show(12:Int)<ds.length by omega,iF]
 |_=>simp[iF]
@[simp] theorem N0(ds:UJ)(i:Int)(h:Hm):cU (.dat (.tuple ds)) (.int i) h=match nh ds i with|some d=>.ok (.dat d) h|none=>.bad:=rfl
@[simp] theorem N3(ds:UJ)(i:Int)(h:Hm):cU (.dat (.list ds)) (.int i) h=match nh ds i with|some d=>.ok (.dat d) h|none=>.bad:=rfl
@[simp] theorem Qd(a:α)(r:List α):nh (a::r) 0=some a:=by simp[nh,va]
theorem qV{i:Nat}{a:α}(h:xs[i]?=some a):nh xs (i:Int)=some a:=by obtain⟨hi,e⟩:=QV.mp h;simp[nh,va,hi,e]
@[simp] theorem Qe(a b:α)(r:List α):nh (a::b::r) 1=some b:=qV rfl
def Wf(h:Hm):Prop:=∀o∈h,MO.below h.length o=true
theorem Wf.set(w:Wf h)(b:MO.below h.length o=true):Wf (h.set i o):=λx hx=>by
 rw[List.length_set];rcases List.mem_or_eq_of_mem_set hx with m|rfl
 ·exact w x m
 grind
theorem D.ku(h:n<=m)(b:D.below n d=true):D.below m d=true:=by cases d<;>simp_all[D.below];omega
theorem MO.ku(h:n<=m)(b:MO.below n o=true):MO.below m o=true:=by
 cases o with
 |lst xs=>simp[MO.below]at b ⊢;exact λd q=>D.ku h (b d q)
 |iO t kvs=>rfl
 |ins C fs=>simp only[MO.below,QX]at b ⊢;exact λd q=>D.ku h (b d q)
 |tab P q=>rfl
theorem Wf.push(w:Wf h)(b:MO.below (h.length+1) o=true):Wf (h++[o]):=λx hx=>by
 rw[QW,List.length_singleton];rcases QN.mp hx with m|m
 ·exact MO.ku (Sb _) (w x m)
 grind
theorem Ii(ns:List Int)(k:Nat)(h:Hm):∃z:Int,ff [.scr ns,.int k] h=.ok (.int z) h:=by
 unfold ff qr;by_cases hk:k<ns.length
 ·exact⟨ns[k],by simp[ig,xI,hk,cU,iP,uJ,qV _]⟩
 simp[ig,xI,hk]
@[simp] theorem Nh(i j:Int)(h:Hm):fk (.int i) (.int j) h=.ok (.int (i+j)) h:=rfl
theorem rj{k:Nat}(h:k<xs.length):∃x,nh xs (k:Int)=some x/\x∈xs:=⟨xs[k],qV (QP h),UB h⟩
theorem jP(h:Hm)(hz:xs.length+ys.length<=16777216):fk (.dat (.list xs)) (.dat (.list ys)) h=.ok (.dat (.list (xs++ys))) h:=by simp[fk,sz hz]
theorem xK:∀{ds:UJ},ds.Pairwise (λa b=>ltB a b=true)->u0 ds=true
 | [],_=>rfl
 | [_],_=>rfl
 |a::b::r,h=>by rw[Rt]at h;have ih:=xK h.2;exact jO.mpr ⟨h.1 b (by simp),ih⟩
theorem Dw(c:dG ds=true)(t:ao ds=true)(nd:ds.Nodup):u0 (cD ltB ds)=true:=by
 have p:=bN ltB ds;have u:=rX (gZ c t);refine xK ?_;refine TK.mpr λ{a b} s=>?_;have both:=TK.mp u s;have ha:=p.mem_iff.mp (s.subset (by simp:a∈[a,b]));have hb:=p.mem_iff.mp (s.subset (by simp:b∈[a,b]));rcases n8 c t ha hb both with q|q
 ·exact q
 grind
theorem Lm(c:dG ds=true)(t:ao ds=true)(hx:x∈ds)(hy:y∈ds)(hz:z∈ds)(h:ltB x y=true)(k:ltB y z=true):ltB x z=true:=by
 have h1:=rW c t hx hy h;have h2:=rW c t hy hz k;rcases n8 c t hx hz (BF c t hx hy hz h1 h2)with q|q
 ·exact q
 grind
theorem A3(c:dG ds=true)(t:ao ds=true):∀{es:UJ},(∀e∈es,e∈ds)->u0 es=true->es.Pairwise λa b=>ltB a b=true
 | [],_,_=>.nil
 | [_],_,_=>by simp
 |a::b::r,s,h=>by
  unfold u0 at h;simp at h;have h:=jO.mp h;have ih:=A3 c t (λe m=>s e (QL _ m)) (by grind[u0]);refine Rt.mpr ⟨λd m=>?_,ih⟩;rcases QK.mp m with rfl|m'
  ·grind
  ·exact Lm c t (s a (by simp)) (s b (by simp)) (s d (by grind)) h.1 ((Rt.mp ih).1 d m')
namespace Nm
variable {c:Nat} {ns:UJ}
end Nm
theorem lQ(h:lP d=true):aG d=true:=by cases d<;>simp_all[lP,aG]
theorem tT(h:lP d=true):aj d=true:=by cases d<;>simp_all[lP,aj]
theorem Dx(h:∀a∈ds,∀b∈ds,cm a b=true):dG ds=true:=QX.mpr λa ha=>QX.mpr λb hb=>AZ (h a ha b hb)
end Ml
namespace Ml
open PySem
theorem Cf(s:zs.Sublist (ns.map D.dat)):∃ls:UJ,zs=ls.map D.dat/\ls.Sublist ns:=by
 grind
theorem mB(e:a ρ h=.ok (.nx ρ1) h1):bx a b ρ h=b ρ1 h1:=by simp_all
theorem aE(ha:a ρ h=.ok x h1)(hb:b ρ h1=.ok y h2)(e:f x y h2=r):ak f a b ρ h=r:=by
 simp_all
theorem aw(he:e ρ h=.ok x h1)(ha:a ρ h1=.ok xs h2):aa e a ρ h=.ok (x::xs) h2:=by
 simp_all
theorem cf(ha:a ρ h=.ok xs h1):af f a ρ h=f xs h1:=by simp_all
theorem rm(he:e ρ h=.ok x h1):cw i e ρ h=.ok (.nx (ρ.set i (some x))) h1:=by simp_all
section
variable {t u:MT} {a b:MS} {m:ME} {ρ:Fm} {h h1 h2:Hm} {x:D} {c d:Bool}
theorem cI(e:m ρ h=.ok (.bool c) h1):bc m ρ h=.ok c h1:=by simp_all
theorem v7(e:m ρ h=.ok x h1)(k:Ml.truth x h1=some c):bz m ρ h=.ok c h1:=by simp only[bz,e,R.aK,k]
theorem gY(e:t ρ h=.ok c h1):fO t ρ h=.ok (!c) h1:=by simp_all
theorem Jh(e:t ρ h=.ok true h1):o8 t a b ρ h=a ρ h1:=by simp_all
theorem Ji(e:t ρ h=.ok false h1):o8 t a b ρ h=b ρ h1:=by simp_all
theorem ky(e:it ρ h=.ok xs h1)(k:dh g a xs ρ h1=r):pC it g a ρ h=r:=by simp_all
theorem Cg(e:m ρ h=.ok (.dat (.list ds)) h1):aX m ρ h=.ok (ds.map D.dat) h1:=by simp_all
theorem dN(e:m ρ h=.ok (.dat (.tuple ds)) h1):aX m ρ h=.ok (ds.map D.dat) h1:=by simp_all
theorem xM(e:m ρ h=.ok x h1):bS m ρ h=.ok (.rt x) h1:=by simp_all
end
theorem Dy(e:a ρ h=.ok [.dat (.int j)] h1)(q:(-(2^62):Int)<=j/\j<2^62):qf a ρ h=.ok (nums 0 j.toNat) h1:=by
 simp_all
theorem zx(e:a ρ h=.ok [.dat (.int (n:Int))] h1)(hn:n<1000000):qf a ρ h=.ok (nums 0 n) h1:=by
 have:=Dy e (by omega)
 rwa [Si]at this
abbrev FP(d:PyData):Prop:=isName d=true
abbrev FQ(p:PyData):Prop:=∃a b,FP a/\FP b/\p=.tuple [a,b]
theorem eQ(h:FP x):lP x=true:=by
 cases x with
 |str y=>rfl
 |_=>assumption
theorem FR(h:FP x):Ok 6 0 x:=by
 obtain⟨y,rfl⟩:=dw (eQ h);simp only[FP,isName,QG,Rj]at h;refine⟨?_,by simp[PyData.depth],h.1.2⟩;simp only[zt,PyData.strOk];rw[Array.all_eq_true_iff_forall_mem];intro x hx;have:=QX.mp h.2 x (by grind)
 grind[az]
theorem mC(h:FQ p):aG p=true/\aj p=true/\gE p=true/\ik p=true/\p.depth<=1/\Ok 14 1 p:=by obtain⟨a,b,ha,hb,rfl⟩:=h;have oa:=FR ha;have ob:=FR hb;have ok:Ok 14 1 _:=((o9.cons oa (o9.one ob)).mono (by omega) (QE _)).tup;exact⟨by simp[aG,bq,lQ (eQ ha),lQ (eQ hb)],by simp[aj,ao,tT (eQ ha),tT (eQ hb)],rfl,rfl,ok.d,ok⟩
structure rA(U:PyData->Prop):Prop where
 c:∀a b,U a->U b->cm a b=true
 st:∀d,U d->aG d=true
 key:(∀d,U d->gE d=true)\/(∀d,U d->gF d=true)
 typ:(∀d,U d->rV d=true)\/(∀d,U d->ik d=true)
 dep:∀d,U d->d.depth<=1
theorem gA:rA FP:=⟨λa b ha hb=>by
  obtain⟨x,rfl⟩:=dw (eQ ha);obtain⟨y,rfl⟩:=dw (eQ hb)
  rfl,λd m=>lQ (eQ m),.inr λd m=>by obtain⟨x,rfl⟩:=dw (eQ m);rfl,.inl λd m=>by obtain⟨x,rfl⟩:=dw (eQ m);rfl,λd m=>by obtain⟨x,rfl⟩:=dw (eQ m);simp[PyData.depth]⟩
theorem cn:rA FQ:=⟨λp q hp hq=>by
  obtain⟨a,b,ha,hb,rfl⟩:=hp;obtain⟨c,d,hc,hd,rfl⟩:=hq
  exact tS (by simp[gJ,eQ ha,eQ hb]) (by simp[gJ,eQ hc,eQ hd]),λd m=>(mC m).1,.inl λd m=>(mC m).2.2.1,.inr λd m=>(mC m).2.2.2.1,λd m=>(mC m).2.2.2.2.1⟩
section
variable {U:PyData->Prop} {xs ys:UJ}
theorem rA.t(u:rA U)(h:U d):aj d=true:=aV (u.st d h)
theorem rA.xX(u:rA U)(h:∀d∈xs,U d):ao xs=true:=iQ λd m=>u.t (h d m)
theorem rA.cmp(u:rA U)(h:∀d∈xs,U d):dG xs=true:=Dx λa ha b hb=>u.c a b (h a ha) (h b hb)
structure Rw(U:PyData->Prop)(xs:UJ):Prop where
 sub:∀d∈xs,U d
 ris:xs.Pairwise λa b=>ltB a b=true
theorem FT(t:aj a=true)(h:ltB a b=true):a≠b:=λe=>by
 have:=BD t
 simp_all[ltB]
theorem lR(u:rA U)(r:Rw U xs):xs.Nodup:=R7 (λ{a b} ha hb l=>FT (u.t (r.sub a ha)) l) r.ris
theorem Jj(u:rA U)(r:Rw U xs):Up ltB xs:=R7 (λ{a b} ha hb l=>rW (u.cmp r.sub) (u.xX r.sub) ha hb l) r.ris
theorem Ci(r:Rw U xs):u0 xs=true:=xK r.ris
theorem v8(u:rA U)(r:Rw U xs)(q:Rw U ys)(h:∀d,d∈xs<->d∈ys):xs=ys:=
 pG (gZ (u.cmp r.sub) (u.xX r.sub)) ((Sm (lR u r) (lR u q)).mpr h) (Jj u r) (Jj u q)
theorem xN(u:rA U)(h:∀d∈xs,U d)(nd:xs.Nodup):Rw U (cD ltB xs):=
 ⟨λd m=>h d ((bN _ _).mem_iff.mp m),A3 (u.cmp h) (u.xX h) (λd m=>(bN _ _).mem_iff.mp m) (Dw (u.cmp h) (u.xX h) nd)⟩
theorem Ni(u:rA U)(h:∀d∈xs,U d)(q:u0 xs=true):Rw U xs:=⟨h,A3 (u.cmp h) (u.xX h) (λ_ m=>m) q⟩
theorem ng:∀{ds:UJ},(∀d∈ds,aG d=true)->bq ds=true
 | [],_=>by rfl
 |d::ds,h=>by simp[bq,h d _,ng (ds:=ds) λe m=>h e (by simp[m])]
theorem rA.set(u:rA U)(h:∀d∈xs,U d)(l:xs.length<=120):setOk xs=true:=by
 have h1:(xs.all gE || xs.all gF)=true:=by
  rcases u.key with k|k
  ·simp_all
  simp_all
 have h2  := ng λd m=>u.st d (h d m);have h3:PyData.depthAll xs<=8:=QM (fh λd m=>u.dep d (h d m)) (by decide)
 simp_all[setOk]
theorem rA.Nj(u:rA U)(h:∀d∈xs,U d)(l:xs.length<64):cY xs=true:=by
 have h1:(xs.all rV || xs.all ik)=true:=by
  rcases u.typ with k|k
  ·simp_all
  simp_all
 have h3:PyData.depthAll xs<=20:=QM (fh λd m=>u.dep d (h d m)) (by decide)
 simp_all[cY,u.xX,u.cmp]
def un(xs ys:UJ):UJ:=cD ltB (zM xs ys)
theorem Cj(u:rA U)(r:∀d∈xs,U d)(q:∀d∈ys,U d):(∀d,d∈zM xs ys<->d∈xs\/d∈ys)/\(zM xs ys).Nodup/\(zM xs ys).length<=xs.length+ys.length:=by
 have hs:∀d∈xs++ys,aG d=true:=λd m=>by
  rcases QN.mp m with z|z
  ·exact u.st d (r d z)
  ·exact u.st d (q d z)
 have hm:∀d,d∈zM xs ys<->d∈xs\/d∈ys:=λd=>by unfold zM;rw[g6 hs,QN]
 have nd:(zM xs ys).Nodup:=gz hs;have:=mn nd λd m=>QN.mpr ((hm d).mp m)
 simp_all
theorem o3(u:rA U)(r:∀d∈xs,U d)(q:∀d∈ys,U d):Rw U (un xs ys)/\(∀d,d∈un xs ys<->d∈xs\/d∈ys)/\(un xs ys).length<=xs.length+ys.length:=by obtain⟨h1,h2,h3⟩:=Cj u r q;refine⟨xN u (λd m=>((h1 d).mp m).elim (r d) (q d)) h2,λd=>(bN _ _).mem_iff.trans (h1 d),?_⟩;unfold un;rw[(bN _ _).length_eq];exact h3
theorem tU(u:rA U)(r:∀d∈xs,U d)(q:∀d∈ys,U d)(l:xs.length+ys.length<64)(ea:a ρ h=.ok (.dat (.tuple xs)) h)(eb:b ρ h=.ok (.dat (.tuple ys)) h) :
  mf zM a b ρ h=.ok (.dat (.list (un xs ys))) h:=by
 obtain⟨h1,h2,h3⟩:=Cj u r q;have s1  := u.set r (by omega);have s2  := u.set (λd m=>(QN.mp m).elim (r d) (q d)) (by grind);have s3  := u.Nj (λd m=>((h1 d).mp m).elim (r d) (q d)) (by omega);simp[mf,ea,iU,s1,eb,s2,s3,un]
theorem Dz(u:rA U)(r:∀d∈xs,U d)(q:∀d∈ys,U d)(l:xs.length+ys.length<64)(h:Hm):eV [.dat (.list (xs++ys))] h=.ok (.dat (.list (un xs ys))) h:=by obtain⟨h1,h2,h3⟩:=Cj u r q;have s2  := u.set (λd m=>(QN.mp m).elim (r d) (q d)) (by grind);have s3:cY (gH _)=true:=u.Nj (xs:=zM xs ys) (λd m=>((h1 d).mp m).elim (r d) (q d)) (by omega);simp[eV,iU,listOf,s2,s3,un,zM]
end
structure Nr(ns:UJ):Prop extends Rw FP ns where
 le:ns.length<=12
structure Wb(k:Nat)(ns ss:UJ):Prop where
 nr:Nr ns
 sr:Rw FQ ss
 cl:∀a b,.tuple [a,b]∈ss->a∈ns/\b∈ns
 le:ss.length<=k
section
variable {k:Nat} {ns ss:UJ}
theorem Wb.sd(w:Wb k ns ss):gJ ns lP=true:=fN.mpr λd m=>eQ (w.nr.sub d m)
theorem Wb.Pt(w:Wb k ns ss)(h:a∈ns):Ok 6 0 a:=FR (w.nr.sub a h)
theorem Wb.OP(w:Wb k ns ss):Ok 84 1 (.tuple ns):=by have:=w.nr.le;exact((o9.of λd m=>w.Pt m).mono (by omega) (QE _)).tup
theorem Wb.Pu(w:Wb k ns ss)(hk:k<=600):o9 9000 1 ss:=by have:=w.le;exact(o9.of λd m=>(mC (w.sr.sub d m)).2.2.2.2.2).mono (by omega) (QE _)
theorem Wb.names(w:Wb k ns ss):iF (.tuple ns)=true:=by have h1  := fN.mpr λd m=>w.nr.sub d m;simp[iF,w.nr.le,Ci w.nr.toRw,h1]
theorem Wb.get(w:Wb k ns ss){p:PyData}(h:p∈ss):∃a b,p=.tuple [a,b]/\a∈ns/\b∈ns:=by obtain⟨a,b,_,_,rfl⟩:=w.sr.sub p h;exact⟨a,b,rfl,w.cl a b h⟩
theorem Nk(h:Hm):vm (D.int 2) (D.dat (.int 2)) h=.ok (.bool false) h:=by rfl
theorem DB(w:Wb k ns ss)(ha:a∈ns)(hb:b∈ns)(h:Hm):gx [.dat (.tuple [a,b]),.dat (.tuple ns)] h=.ok (.bool true) h:=by unfold gx qp;simp[Nk,FN (w.Pt ha) w.sd,FN (w.Pt hb) w.sd,(Ce w.sd).mpr ha,(Ce w.sd).mpr hb]
theorem A4(w:Wb k ns ss)(hk:k<=600)(h:Hm):gc [.dat (.tuple ss),.dat (.tuple ns)] h=.ok (.bool true) h:=by
 unfold gc mW;have hl:=w.le
 have key:=mz (n:=1) (it:=aX (ae 0)) (g:=aA 0) (e:=af gx (aa (ae 0) (aa (ae 2) ah))) (ρ:=[some (.dat (.tuple ss)),some (.dat (.tuple ns))]) (h:=h) (h1:=h) (ds:=ss) (by simp) (by omega) (λx=>.bool ((λ_=>true) x)) (λx hx=>⟨_,rfl,by
  obtain⟨a,b,rfl,ha,hb⟩:=w.get hx
  simp[DB w ha hb]⟩)
 have al:gJ ss (λ_=>true)=true:=fN.mpr λ_ _=>rfl;have cp:LW ss:=LW.of (w.Pu hk) (by decide) λd hd e he=>by obtain⟨a,b,rfl,ha,hb⟩:=w.get hd;obtain⟨a',b',rfl,ha',hb'⟩:=w.get he;have:=fN.mp w.sd;simp only[cm];exact tS (by simp[gJ,this a ha,this b hb]) (by simp[gJ,this a' ha',this b' hb'])
 have ir:=oZ cp (by omega) h;rw[Ci w.sr]at ir;have bm:=lN ss (λ_=>true) h
 simp_all
theorem Ln(w:Wb k ns ss)(hk:k<=600)(h:Hm):oE [.dat (.tuple [.tuple ns,.tuple ss])] h=.ok (.bool true) h:=by have e1:=xJ w.OP (by decide) h;rw[w.names]at e1;unfold oE yF;simp[Nk,e1,A4 w hk h]
theorem A5(w:Wb k ns ss)(hk:k<=600)(h:Hm):cH [.dat (.tuple [.tuple ns,.tuple ss])] h=.ok D.none h:=by unfold cH qq;simp[Ln w hk h]
end
section
variable {k1 k2:Nat} {n1 s1 n2 s2:UJ}
theorem Nl(w1:Wb k1 n1 s1)(w2:Wb k2 n2 s2)(hn:(un n1 n2).length<=12):Wb (k1+k2) (un n1 n2) (un s1 s2):=by
 obtain⟨a1,a2,a3⟩:=o3 gA w1.nr.sub w2.nr.sub;obtain⟨b1,b2,b3⟩:=o3 cn w1.sr.sub w2.sr.sub;have:=w1.le;have:=w2.le;refine⟨⟨a1,hn⟩,b1,λa b m=>?_,by omega⟩;rw[a2,a2];rcases(b2 _).mp m with z|z
 ·exact⟨.inl (w1.cl a b z).1,.inl (w1.cl a b z).2⟩
 ·exact⟨.inr (w2.cl a b z).1,.inr (w2.cl a b z).2⟩
theorem Lo(w1:Wb k1 n1 s1)(w2:Wb k2 n2 s2)(hk:k1+k2<64)(hn:(un n1 n2).length<=12)(h:Hm):bg [.dat (.tuple [.tuple n1,.tuple s1]),.dat (.tuple [.tuple n2,.tuple s2])] h=.ok (.dat (.tuple [.tuple (un n1 n2),.tuple (un s1 s2)])) h:=by
 have l1:=w1.nr.le;have l2:=w2.nr.le;have l3:=w1.le;have l4:=w2.le;have wu:=Nl w1 w2 hn;have l5:=wu.nr.le;have l6:=wu.le;have nb:eX [.dat (.tuple [.tuple n1,.tuple s1]),.dat (.tuple [.tuple n2,.tuple s2])] h=.ok (.dat (.list (un n1 n2))) h:=by unfold eX kE;have:=tU gA w1.nr.sub w2.nr.sub (by omega) (a:=ak cU (ae 0) (ai (.int 0))) (b:=ak cU (ae 1) (ai (.int 0))) (ρ:=[some (.dat (.tuple [.tuple n1,.tuple s1])),some (.dat (.tuple [.tuple n2,.tuple s2]))]) (h:=h) (by simp) (by simp);simp[this]
 have sb:∀x,mf zM (ak cU (ae 0) (ai (.int 1))) (ak cU (ae 1) (ai (.int 1))) [some (.dat (.tuple [.tuple n1,.tuple s1])),some (.dat (.tuple [.tuple n2,.tuple s2])),x,none] h=.ok (.dat (.list (un s1 s2))) h:=λx=>
  tU cn w1.sr.sub w2.sr.sub (by omega) (by simp) (by simp)
 unfold bg sI;simp[A5 w1 (by omega) h,A5 w2 (by omega) h,nb,sb,show ¬ (12:Int)<(un n1 n2).length by omega,dF,listOf]
theorem Ij(w1:Wb k1 n1 s1):aj (.tuple [.tuple n1,.tuple s1])=true:=by simp[aj,ao,gA.xX w1.nr.sub,cn.xX w1.sr.sub]
theorem Lp(w1:Wb k1 n1 s1):(PyData.tuple [.tuple n1,.tuple s1]).depth<=40:=by
 have a:=fh λd m=>gA.dep d (w1.nr.sub d m);have b:=fh λd m=>cn.dep d (w1.sr.sub d m)
 grind[PyData.depth,PyData.depthAll]
end
def Lq:PyData->PyData
 |.tuple [a,_]=>a
 |_=>.none
def Lr:PyData->PyData
 |.tuple [_,b]=>b
 |_=>.none
theorem kz(n:Nat)(ds:UJ):MO.below n (.lst (ds.map D.dat))=true:=by simp[MO.below,D.below]
theorem tV(hg:g x (List.replicate n none++ρ) h=.ok ρ1 h1)(ht:t ρ1 h1=.ok true h2)(he:e ρ1 h2=.ok y h3)(hr:dE n ρ g t e xs h3=.ok ys h4):dE n ρ g t e (x::xs) h=.ok (y::ys) h4:=by
 simp_all[dE]
theorem tW:∀{ls:UJ} {ys:List D},PySem.Paired (λx y=>∃d,x=.dat d/\y=.dat (.tuple [one,d])) (ls.map D.dat) ys->ys=(ls.map λy=>PyData.tuple [one,y]).map D.dat
 | [],ys,h=>by cases h;rfl
 |l::ls,ys,h=>by
  cases h with
  |cons a b=>obtain⟨d,e,rfl⟩:=a;cases e;rw[tW b];rfl
structure Pw(pre ns acc:UJ):Prop where
 ris:acc.Pairwise λa b=>ltB a b=true
 mem:∀p∈acc,∃a b,p=.tuple [a,b]/\a∈pre/\b∈ns
 len:acc.length<=pre.length*ns.length
theorem FU(tx:aj x=true)(ta:aj a=true)(tb:aj b=true)(h:ltB a b=true):ltB (.tuple [x,a]) (.tuple [x,b])=true:=by
 have n:=aS ta tb (FT ta h)
 simp_all[ltB,bV,cV,aU]
theorem Ck(ta:aj a=true)(tb:aj b=true)(h:ltB a b=true):ltB (.tuple [a,x]) (.tuple [b,y])=true:=by
 have n:=aS ta tb (FT ta h)
 simp_all[ltB,bV,cV]
theorem Pw.step{pre ns acc ls xs:UJ}(r:Rw FP ns)(e:ns=pre++one::xs)(P:Pw pre ns acc)(sl:ls.Sublist ns):Pw (pre++[one]) ns (acc++ls.map λy=>.tuple [one,y]):=by
 have tr:∀d∈ns,aj d=true:=λd m=>gA.t (r.sub d m);have ho:one∈ns:=by rw[e];simp
 have hp:∀a∈pre,a∈ns:=λa m=>by rw[e];simp[m]
 refine⟨Sd.mpr ⟨P.ris,Te.mpr (R7 (λ{a b} ha hb l=>FU (tr one ho) (tr a (sl.subset ha)) (tr b (sl.subset hb)) l) (r.ris.sublist sl)),λp hp' q hq=>?_⟩,λp m=>?_,?_⟩
 ·obtain⟨a,b,rfl,ha,hb⟩:=P.mem p hp';obtain⟨y,hy,rfl⟩:=Q4.mp hq;have rr:=r.ris;rw[e]at rr;exact Ck (tr a (hp a ha)) (tr one ho) ((Sd.mp rr).2.2 a ha one (by simp))
 ·rcases QN.mp m with z|z
  ·obtain⟨a,b,rfl,ha,hb⟩:=P.mem p z;exact⟨a,b,rfl,by simp[ha],hb⟩
  ·obtain⟨y,hy,rfl⟩:=Q4.mp z;exact⟨one,y,rfl,by simp,sl.subset hy⟩
 ·have l1:=P.len;have l2:=sl.length_le;simp only[QW,QR,QY,RE,Nat.add_mul];omega
abbrev Rel:=PyData->PyData->Bool
def rows(ns:UJ)(r:Rel):UJ:=ns.flatMap λa=>(ns.filter (r a)).map λb=>.tuple [a,b]
abbrev bj(ns:UJ)(r:Rel):PyData:=.tuple [.tuple ns,.tuple (rows ns r)]
section
variable {ns:UJ} {r q:Rel} {a b:PyData}
theorem bI:p∈rows ns r<->∃a b,p=.tuple [a,b]/\a∈ns/\b∈ns/\r a b=true:=by
 unfold rows;rw[List.mem_flatMap];constructor
 ·rintro⟨a,ha,m⟩;obtain⟨b,hb,rfl⟩:=Q4.mp m;obtain⟨h1,h2⟩:=R0.mp hb;exact⟨a,b,rfl,ha,h1,h2⟩
 simp_all
theorem cR:.tuple [a,b]∈rows ns r<->a∈ns/\b∈ns/\r a b=true:=by
 rw[bI];constructor
 ·simp_all
 ·exact λh=>⟨a,b,rfl,h⟩
theorem df(R:Nr ns)(h:a∈ns):aj a=true:=gA.t (R.sub a h)
theorem aY(R:Nr ns):Rw FQ (rows ns r):=by
 refine⟨λp m=>?_,?_⟩
 ·obtain⟨a,b,rfl,ha,hb,_⟩:=bI.mp m;exact⟨a,b,R.sub a ha,R.sub b hb,rfl⟩
 ·refine List.pairwise_flatMap.mpr ⟨λa ha=>Te.mpr ?_,?_⟩
  ·exact R7 (λ{x y} hx hy l=>FU (df R ha) (df R ((R0.mp hx).1)) (df R ((R0.mp hy).1)) l) (R.ris.filter _)
  ·refine R7 (λ{x y} hx hy l p hp q hq=>?_) R.ris;obtain⟨b,_,rfl⟩:=Q4.mp hp;obtain⟨c,_,rfl⟩:=Q4.mp hq;exact Ck (df R hx) (df R hy) l
theorem Cm{xs:UJ}{f:PyData->UJ}(h:∀a,(f a).length<=n):(xs.flatMap f).length<=xs.length*n:=by
 induction xs with
 |nil=>simp
 |cons x xs ih=>
  grind[List.flatMap_cons,List.length_append,List.length_cons,Nat.add_mul]
theorem lU:(rows ns r).length<=ns.length*ns.length:=Cm λa=>by rw[QR];exact RQ _ _
theorem o4(R:Nr ns)(hk:ns.length*ns.length<=k):Wb k ns (rows ns r):=
 ⟨R,aY R,λa b m=>⟨(cR.mp m).1,(cR.mp m).2.1⟩,QM lU hk⟩
theorem tX(h:∀a∈ns,∀b∈ns,r a b=q a b):rows ns r=rows ns q:=by
 have k:∀xs:UJ,(∀a∈xs,a∈ns)->xs.flatMap (λa=>(ns.filter (r a)).map λb=>PyData.tuple [a,b])=xs.flatMap (λa=>(ns.filter (q a)).map λb=>PyData.tuple [a,b]):=by
  intro xs
  induction xs with
  |nil=>grind
  |cons x xs ih=>intro hs;rw[Uv,Uv,ih λa m=>hs a (by simp[m]),List.filter_congr λb hb=>h x (hs x (by simp)) b hb]
 exact k ns λ_ m=>m
theorem FV(h:rows ns r=rows ns q)(ha:a∈ns)(hb:b∈ns):r a b=q a b:=by
 have e:(.tuple [a,b]∈rows ns r)<->(.tuple [a,b]∈rows ns q):=by rw[h]
 grind[cR]
def zy(ss:UJ):Rel:=λa b=>decide (.tuple [a,b]∈ss)
theorem xO(w:Wb k ns ss):ss=rows ns (zy ss):=by
 refine v8 cn w.sr (aY w.nr) λp=>?_;rw[bI];constructor
 ·intro m;obtain⟨a,b,rfl,ha,hb⟩:=w.get m;exact⟨a,b,rfl,ha,hb,Rg m⟩
 ·rintro⟨a,b,rfl,_,_,h⟩;exact RZ h
theorem zz(R:Nr ns):aj (bj ns r)=true:=Ij (o4 R (QE _))
theorem Ik(R:Nr ns):(bj ns r).depth<=40:=Lp (o4 R (QE _))
theorem zA(td:aj d=true)(te:aj e=true)(l:min d.depth e.depth<=40)(h:Hm):oEq (.dat d) (.dat e) h=.ok (.bool (decide (d=e))) h:=by
 have q:PyData.eqv d e=decide (d=e):=by
  by_cases z:d=e
  ·subst z;rw[Rg rfl];exact aU td
  ·rw[Rm z];exact aS td te z
 simp_all[oEq,eqQ,noDict,cW]
theorem tY(td:aj d=true)(te:aj e=true)(l:min d.depth e.depth<=40)(h:Hm):vm (.dat d) (.dat e) h=.ok (.bool !(decide (d=e))) h:=by
 have q:PyData.eqv d e=decide (d=e):=by
  by_cases z:d=e
  ·subst z;rw[Rg rfl];exact aU td
  ·rw[Rm z];exact aS td te z
 simp_all[vm,eqQ,noDict,cW]
theorem Ls(h:Hm)(R:Nr ns)(R2:Nr n2):oEq (.dat (bj ns r)) (.dat (bj n2 q)) h=.ok (.bool (decide (bj ns r=bj n2 q))) h:=zA (zz R) (zz R2) (by have:=Ik (r:=r) R;omega) h
theorem FW(td:aj d=true)(te:aj e=true)(l:d.depth<=40):C2 d e=some (decide (d=e)):=by
 have q:PyData.eqv d e=decide (d=e):=by
  by_cases z:d=e
  ·subst z;rw[Rg rfl];exact aU td
  ·rw[Rm z];exact aS td te z
 have l':decide (min d.depth e.depth<=40)=true:=Rg (by omega)
 have:C2 d e=eqQ d e:=by
  unfold C2;split
  ·trivial
  ·trivial
  ·rfl
 simp_all[this,eqQ,noDict,cW,td,te,l',q,Bool.not_false,Bool.and_self]
theorem zB(td:aj d=true):∀{ds:UJ},ao ds=true->(∀e∈ds,e.depth<=40)->Ew d ds=some (decide (d∈ds))
 | [],_,_=>by rfl
 |e::ds,t,l=>by
  simp[ao]at t;have ih:=zB td t.2 λx m=>l x (QL _ m);unfold Ew;rw[FW t.1 td (l e (by simp)),ih];by_cases z:e=d
  ·grind
  ·have z':¬ d=e:=λy=>z y.symm
   simp_all
theorem o5(td:aj d=true)(t:ao ds=true)(l:∀e∈ds,e.depth<=40)(h:Hm):findIn (.dat d) (.dat (.tuple ds)) h=some (decide (d∈ds))/\findIn (.dat d) (.dat (.list ds)) h=some (decide (d∈ds)):=by simp[findIn,iP,n0,zB td t l]
theorem Cn(td:aj d=true)(t:ao ds=true)(l:∀e∈ds,e.depth<=40)(h:Hm):nv (.dat d) (.dat (.tuple ds)) h=.ok (.bool (decide (d∈ds))) h:=by simp[nv,(o5 td t l h).1]
theorem tZ(td:aj d=true)(t:ao ds=true)(l:∀e∈ds,e.depth<=40)(h:Hm):rQ (.dat d) (.dat (.tuple ds)) h=.ok (.bool !(decide (d∈ds))) h:=by simp[rQ,(o5 td t l h).1]
theorem xP(u:rA U)(R:Rw U xs):∀e∈xs,e.depth<=40:=λe m=>QM (u.dep e (R.sub e m)) (by decide)
theorem t9(u:rA U)(R:Rw U xs):ao xs=true:=u.xX R.sub
theorem xQ(R:Nr ns)(ha:a∈ns)(hb:b∈ns):aj (.tuple [a,b])=true:=by simp[aj,ao,df R ha,df R hb]
theorem xR(R:Nr ns)(ha:a∈ns)(hb:b∈ns)(h:Hm):nv (.dat (.tuple [a,b])) (.dat (.tuple (rows ns r))) h=.ok (.bool (r a b)) h:=by
 have:decide (.tuple [a,b]∈rows ns r)=r a b:=by rw[S7,Ur,cR];simp[ha,hb]
 rw[Cn (xQ R ha hb) (t9 cn (aY R)) (xP cn (aY R)),this]
end
inductive Kd where
 |stable
 |standing
 |preferred
 |whole
 |grounded
def Kd.nm:Kd->Str
 |.stable => "stable"
 |.standing => "standing"
 |.preferred => "preferred"
 |.whole => "whole"
 |.grounded => "grounded"
def Kd.I:Kd->Bool->Bool->Bool->Bool
 |.stable,x,_,_=>x
 |.standing,x,y,z=>x&&(z || y)
 |.preferred,x,y,z=>x&&(z || y)
 |.whole,x,y,_=>x&&y
 |.grounded,x,y,z=>y&&(x || z)
def iI(kd:Kd)(r:Rel):Rel:=λa b=>kd.I (r a a) (r b b) (r b a)
def dY(kd:Kd)(r:Rel):Rel:=λa b=>r a b&&(decide (a=b) || !iI kd r a b)
def xY(kd:Kd)(r:Rel):Rel:=λa b=>dY kd r a b || (!decide (a=b)&&iI kd (dY kd r) a b)
theorem Kd.back{kd:Kd}(h:kd.I x y z≠kd.I x y z'):kd.I y x w=false:=by cases kd<;>cases x<;>cases y<;>simp_all[Kd.I]
section
variable {ns:UJ} {r q:Rel} {a b:PyData} {kd:Kd}
theorem FX(kd:Kd)(h:Hm):gS [.dat (.str kd.nm)] h=.ok D.none h:=by cases kd<;>kernel_rfl
def zC(ns:UJ)(r:Rel):D:=.iO true ((rows ns r).map λp=>(p,.bool true))
theorem v9(t:ao ds=true)(td:aj d=true):nZ d (ds.map λp=>(p,v))=decide (d∈ds):=by
 unfold nZ;rw[List.any_map];rw[S7,Ur,UA];constructor
 ·rintro⟨x,hx,e⟩;have:=(kQ (aM t hx) td).mp e;subst this;exact hx
 ·exact λm=>⟨d,m,aU td⟩
theorem FY(h:FQ p):keyOk true p=true:=by obtain⟨h1,h2,h3,h4,h5,_⟩:=mC h;have:p.depth<=8:=QM h5 (by decide);simp[keyOk,h1,h3,this]
theorem FZ(Rn:Nr ns)(ha:a∈ns)(hb:b∈ns):FQ (.tuple [a,b]):=⟨a,b,Rn.sub a ha,Rn.sub b hb,rfl⟩
theorem xS(Rn:Nr ns)(ha:a∈ns)(hb:b∈ns)(h:Hm):nv (.dat (.tuple [a,b])) (zC ns r) h=.ok (.bool (r a b)) h:=by
 have e:decide (.tuple [a,b]∈rows ns r)=r a b:=by rw[S7,Ur,cR];simp[ha,hb]
 simp only[nv,findIn,iP,zC,wI,FY (FZ Rn ha hb),Rr,v9 (t9 cn (aY Rn)) (xQ Rn ha hb),e]
theorem wa:∀{ss acc:UJ},(∀d∈acc++ss,FQ d)->(acc++ss).Nodup->acc.length+ss.length<1000->fx true 1 ρ (aA 0) dR (ae 0) (ai (.bool true)) (ss.map D.dat) (acc.map λp=>(p,.bool true)) h=.ok ((acc++ss).map λp=>(p,.bool true)) h
 | [],acc,_,_,_=>by simp[fx]
 |d::ss,acc,hs,nd,hl=>by
  simp only[QY]at hl;have ih:=wa (ρ:=ρ) (h:=h) (ss:=ss) (acc:=acc++[d]) (by simpa using hs) (by simpa using nd) (by simp;omega);have hd:FQ d:=hs d (by simp);have ta:ao acc=true:=iQ λx m=>cn.t (hs x (by simp[m]));have kn:nZ d (acc.map λp=>(p,PyData.bool true))=false:=by rw[v9 ta (cn.t hd)];refine Rm λm=>?_;exact(Td.mp nd).2.2 d m d (by simp) rfl
  have lt:decide ((acc.map λp=>(p,PyData.bool true)).length<16777216)=true:=Rg (by rw[QR];omega);have dp:dput (acc.map λp=>(p,PyData.bool true)) d (.bool true)=(acc++[d]).map λp=>(p,.bool true):=by simp[dput,kn]
  simp only[Q6,fx,aA,R.dD,R.aK,dR,Rr,rep1,SW,Sk,R8,ae,Sf,ai,FY hd,Bool.true_or,Bool.true_and,lt,dp];rw[ih];simp
theorem mD(hn:ns.length<=12):(rows ns r).length<=144:=QM lU (Sg hn hn)
theorem F0(Rn:Nr ns)(e:m ρ h=.ok (.dat (.tuple (rows ns r))) h):pN true 1 (aX m) (aA 0) dR (ae 0) (ai (.bool true)) ρ h=.ok (zC ns r) h:=by
 have l:=mD (r:=r) (Rn.le);have:=wa (ρ:=ρ) (h:=h) (ss:=rows ns r) (acc:=[]) (by simpa using(aY Rn).sub) (by simpa using lR cn (aY Rn)) (by grind)
 simp_all[pN,zC]
theorem Il(Rn:Nr ns)(ha:a∈ns)(hb:b∈ns)(h:Hm) :
  bO [zC ns r,.dat a,.dat b] h=.ok (.bool (iI .stable r a b)) h/\bo [zC ns r,.dat a,.dat b] h=.ok (.bool (iI .standing r a b)) h /\
  bU [zC ns r,.dat a,.dat b] h=.ok (.bool (iI .whole r a b)) h/\bB [zC ns r,.dat a,.dat b] h=.ok (.bool (iI .grounded r a b)) h:=by
 have e1:=xS (r:=r) Rn ha ha h;have e2:=xS (r:=r) Rn hb hb h;have e3:=xS (r:=r) Rn hb ha h;refine⟨?_,?_,?_,?_⟩
 ·simp[bO,iV,e1,iI,Kd.I]
 ·cases x1:r a a<;>cases x2:r b b<;>cases x3:r b a<;>rw[x1]at e1<;>rw[x2]at e2<;>rw[x3]at e3<;>simp[bo,gK,e1,e2,e3,iI,Kd.I,x1,x2,x3]
 ·cases x1:r a a<;>cases x2:r b b<;>rw[x1]at e1<;>rw[x2]at e2<;>simp[bU,jK,e1,e2,iI,Kd.I,x1,x2]
 ·cases x1:r a a<;>cases x2:r b b<;>cases x3:r b a<;>rw[x1]at e1<;>rw[x2]at e2<;>rw[x3]at e3<;>simp[bB,gL,e1,e2,e3,iI,Kd.I,x1,x2,x3]
def Kd.fn:Kd->Str
 |.stable => "idle_for_stable"
 |.standing => "idle_for_standing"
 |.preferred => "idle_for_standing"
 |.whole => "idle_for_whole"
 |.grounded => "idle_for_grounded"
theorem Co(kd:Kd)(e:m ρ h=.ok (.dat (.str kd.nm)) h):sJ nI m ρ h=.ok (.fn kd.fn) h:=by unfold sJ;rw[e];cases kd<;>kernel_rfl
abbrev qK:List (Str×Fn):=[("idle_for_grounded",bB),("idle_for_standing",bo),("idle_for_stable",bO),("idle_for_whole",bU)]
theorem zD(Rn:Nr ns)(ha:a∈ns)(hb:b∈ns)(ei:ρ[i]?=some (some (.fn kd.fn)))(em:ma ρ h=.ok [zC ns r,.dat a,.dat b] h):j4 i qK ma ρ h=.ok (.bool (iI kd r a b)) h:=by
 obtain⟨k1,k2,k3,k4⟩:=Il (r:=r) Rn ha hb h;unfold j4;rw[ei];cases kd
 ·have:qK.lookup (Kd.fn .stable)=some bO:=by rfl
  simp_all
 ·have:qK.lookup (Kd.fn .standing)=some bo:=by rfl
  simp_all
 ·have:qK.lookup (Kd.fn .preferred)=some bo:=by kernel_rfl
  simp only[this];rw[cf em,k2];rfl
 ·have:qK.lookup (Kd.fn .whole)=some bU:=by kernel_rfl
  simp only[this];rw[cf em,k3]
 ·have:qK.lookup (Kd.fn .grounded)=some bB:=by kernel_rfl
  simp only[this];rw[cf em,k4]
end
section
variable {a b:MS} {t:MT} {m m2:ME} {ρ ρ1:Fm} {h h1 h2:Hm} {r:R Fl} {x y:D} {i:Nat} {g:MG} {it:MA} {f:Fn} {ma:MA} {xs:List D}
theorem ba(e:a ρ h=.ok (.nx ρ1) h1)(k:b ρ1 h1=r):bx a b ρ h=r:=(mB e).trans k
theorem cS(e:m ρ h=.ok x h1):cw i m ρ h=.ok (.nx (ρ.set i (some x))) h1:=rm e
theorem kB(e:m ρ h=.ok x h1):jE m ρ h=.ok (.nx ρ) h1:=by simp_all
theorem ua(e:m ρ h=.ok x h1)(k:g x ρ h1=.ok ρ1 h2):kN g m ρ h=.ok (.nx ρ1) h2:=by simp_all
theorem fe(e:m ρ h=.ok x h1):bS m ρ h=.ok (.rt x) h1:=xM e
theorem Py(e:t ρ h=.ok true h1)(k:a ρ h1=r):o8 t a b ρ h=r:=(Jh e).trans k
theorem zE(e:t ρ h=.ok false h1)(k:b ρ h1=r):o8 t a b ρ h=r:=(Ji e).trans k
theorem iG(l:xs.length=p)(e:b (xs.map some++List.replicate (n-p) none) h=.ok (.rt x) h1):bE p n b xs h=.ok x h1:=by
 simp_all
theorem aI(ha:ma ρ h=.ok xs h1)(k:f xs h1=.ok d h2):af f ma ρ h=.ok d h2:=(cf ha).trans k
theorem b9{a b:PyData}(e1:m ρ h=.ok (.dat a) h1)(e2:m2 ρ h1=.ok (.dat b) h2):bL (aa m (aa m2 ah)) ρ h=.ok (.dat (.tuple [a,b])) h2:=(cf (aw e1 (aw e2 rfl))).trans (Li _ _ _)
theorem Lu(e:t ρ h=.ok true h1):um t u ρ h=.ok true h1:=by simp_all
theorem A6(e:t ρ h=.ok false h1)(k:u ρ h1=.ok c h2):um t u ρ h=.ok c h2:=by simp_all
theorem F1(e:t ρ h=.ok c h1)(k:u ρ h1=.ok d h1):um t u ρ h=.ok (c || d) h1:=by cases c<;>simp[e,k]
theorem Cp(e:t ρ h=.ok c h1)(k:u ρ h1=.ok d h1):nQ t u ρ h=.ok (c&&d) h1:=by cases c<;>simp[e,k]
theorem dz(e:m ρ h=.ok (.bool c) h1):bz m ρ h=.ok c h1:=v7 e rfl
end
section
variable {ns:UJ} {r q:Rel} {a b:PyData} {kd:Kd}
theorem qL(Rn:Nr ns)(c:Rel)(hf:∀a∈ns,∀b∈ns,f (.tuple [a,b])=c a b):(rows ns r).filter f=rows ns λa b=>r a b&&c a b:=by
 have s:Rw FQ ((rows ns r).filter f):=⟨λd m=>(aY Rn).sub d (R0.mp m).1,(aY Rn).ris.filter _⟩;refine v8 cn s (aY Rn) λp=>?_;rw[R0,bI,bI];constructor
 ·rintro⟨⟨a,b,rfl,ha,hb,h⟩,k⟩;exact⟨a,b,rfl,ha,hb,by grind⟩
 ·rintro⟨a,b,rfl,ha,hb,h⟩;simp at h;exact⟨⟨a,b,rfl,ha,hb,h.1⟩,by grind⟩
theorem Cq(ha:aj a=true)(hb:aj b=true)(la:a.depth<=40)(h:Hm):oEq (.dat a) (.dat b) h=.ok (.bool (decide (a=b))) h:=zA ha hb (by omega) h
theorem xT(Rn:Nr ns)(ha:a∈ns):a.depth<=40:=QM (gA.dep a (Rn.sub a ha)) (by decide)
theorem ub(Rn:Nr ns)(h:Hm):cH [.dat (bj ns r)] h=.ok D.none h:=A5 (o4 Rn (QE _)) (by have:=Rn.le;exact QM (Sg this this) (by decide)) h
def A7(kd:Kd)(r:Rel)(p:PyData):Bool:=decide (Lq p=Lr p) || !iI kd r (Lq p) (Lr p)
theorem hG(Rn:Nr ns)(kd:Kd)(h:Hm):fz [.dat (bj ns r),.dat (.str kd.nm)] h=.ok (.dat (bj ns (dY kd r))) h:=by
 have l:=mD (r:=r) (Rn.le)
 have key:=jN (n:=2) (it:=aX (ae 4)) (g:=hX (bM (aA 0) (bM (aA 1) hV))) (t:=um (bc (ak oEq (ae 0) (ae 1))) (fO (bz (j4 4 qK (aa (ae 7) (aa (ae 0) (aa (ae 1) ah))))))) (e:=bL (aa (ae 0) (aa (ae 1) ah)))
  (ρ:=[some (.dat (bj ns r)),some (.dat (.str kd.nm)),some (.fn kd.fn),some (.dat (.tuple ns)),some (.dat (.tuple (rows ns r))),some (zC ns r),none]) (h:=h) (h1:=h) (ds:=rows ns r) (dN (by rfl)) (by omega) (A7 kd r) (λp=>p) (λp hp=>by
   obtain⟨a,b,rfl,ha,hb,hr⟩:=bI.mp hp;refine⟨[some (.dat a),some (.dat b),some (.dat (bj ns r)),some (.dat (.str kd.nm)),some (.fn kd.fn),some (.dat (.tuple ns)),some (.dat (.tuple (rows ns r))),some (zC ns r),none],rfl,?_,λ_=>by simp⟩;have e1:bc (ak oEq (ae 0) (ae 1)) [some (.dat a),some (.dat b),some (.dat (bj ns r)),some (.dat (.str kd.nm)),some (.fn kd.fn),some (.dat (.tuple ns)),some (.dat (.tuple (rows ns r))),some (zC ns r),none] h=.ok (decide (a=b)) h:=cI (aE rfl rfl (Cq (df Rn ha) (df Rn hb) (xT Rn ha) h));have e2:=zD (r:=r) (kd:=kd) Rn ha hb (i:=4) (ma:=aa (ae 7) (aa (ae 0) (aa (ae 1) ah))) (ρ:=[some (.dat a),some (.dat b),some (.dat (bj ns r)),some (.dat (.str kd.nm)),some (.fn kd.fn),some (.dat (.tuple ns)),some (.dat (.tuple (rows ns r))),some (zC ns r),none]) (h:=h) rfl rfl;have e3:=gY (v7 e2 (c:=iI kd r a b) rfl);unfold um;rw[e1];simp only[R.aK,A7,Lq,Lr];by_cases z:a=b
   ·simp[z]
   ·simp only[z,decide_false,QO,Rx,Bool.false_or]
    exact e3)
 have fl:(rows ns r).filter (A7 kd r)=rows ns (dY kd r):=qL Rn (λa b=>decide (a=b) || !iI kd r a b) λa _ b _=>rfl;rw[List.map_id',fl]at key;have l2:=mD (r:=dY kd r) (Rn.le);have t1:=ub (r:=r) Rn h;have t2:=FX kd h;have t4:sJ nI (ae 1) [some (.dat (bj ns r)),some (.dat (.str kd.nm)),none,none,none,none,none] h=.ok (.fn kd.fn) h:=Co kd rfl;have t5:=F0 (r:=r) Rn (ρ:=[some (.dat (bj ns r)),some (.dat (.str kd.nm)),some (.fn kd.fn),some (.dat (.tuple ns)),some (.dat (.tuple (rows ns r))),none,none]) (h:=h) (m:=ae 4) rfl;exact iG rfl (ba (kB (aI (xs:=[.dat (bj ns r)]) rfl t1)) (ba (kB (aI (xs:=[.dat (.str kd.nm)]) rfl t2)) (ba (cS t4) (ba (ua (x:=.dat (bj ns r)) rfl rfl) (ba (cS t5) (ba (cS key) (fe (b9 (a:=.tuple ns) rfl (aI (xs:=[.dat (.list (rows ns (dY kd r)))]) rfl rfl)))))))))
end
theorem qM(I:Fm->Prop)(c:D->Bool)(f:D->D):∀{ys:List D} {ρ:Fm},(∀y∈ys,∀ρ,I ρ->∃ρ1,g2 y ρ h=.ok ρ1 h/\t2 ρ1 h=.ok (c y) h/\(c y=true->e ρ1 h=.ok (f y) h)/\I ρ1)->I ρ->j3 g2 t2 e ys ρ h=.ok ((ys.filter c).map f) h
 | [],ρ,_,_=>rfl
 |y::ys,ρ,H,i=>by
  obtain⟨ρ1,h1,h2,h3,i1⟩:=H y (QS ..) ρ i;have ih:=qM I c f (λz hz=>H z (QL _ hz)) i1;unfold j3;rw[h1];simp;rw[h2];simp
  cases hc:c y with
  |false=>grind
  |true=>
   simp_all
theorem A8{ds es:UJ}(hit:it ρ h=.ok (ds.map D.dat) h)(hz:ds.length*es.length+es.length<=100000)(hd:ds.length<=100000)(I:PyData->Fm->Prop)(c:PyData->PyData->Bool)(f:PyData->PyData->PyData)
 (H:∀a∈ds,∃ρ1,g (.dat a) (List.replicate n none++ρ) h=.ok ρ1 h/\it2 ρ1 h=.ok (es.map D.dat) h/\I a ρ1)(H2:∀a∈ds,∀b∈es,∀ρ,I a ρ->∃ρ1,g2 (.dat b) ρ h=.ok ρ1 h/\t2 ρ1 h=.ok (c a b) h/\(c a b=true->e ρ1 h=.ok (.dat (f a b)) h)/\I a ρ1) :
  xf n it g dR it2 g2 t2 e ρ h=.ok (.dat (.list (ds.flatMap λa=>(es.filter (c a)).map (f a)))) h:=by
 have go:∀(xs:UJ) (k:Nat),(∀a∈xs,a∈ds)->k+xs.length*es.length+es.length<=200000->eW n ρ g dR it2 g2 t2 e (xs.map D.dat) k h=.ok ((xs.flatMap λa=>(es.filter (c a)).map (f a)).map D.dat) h:=by
  intro xs
  induction xs with
  |nil=>intro k _ _;rfl
  |cons a xs ih=>
   intro k hs hk;obtain⟨ρ1,q1,q2,q3⟩:=H a (hs a (by simp))
   have inn:=qM (I a) (λy=>match y with|.dat b=>c a b|_=>false) (λy=>match y with|.dat b=>.dat (f a b)|_=>.dat .none) (ys:=es.map D.dat) (ρ:=ρ1) (g2:=g2) (t2:=t2) (e:=e) (h:=h) (λy hy ρ' i=>by
    obtain⟨b,hb,rfl⟩:=Q4.mp hy;obtain⟨ρ2,z1,z2,z3,z4⟩:=H2 a (hs a (by simp)) b hb ρ' i
    exact⟨ρ2,z1,z2,z3,z4⟩) q3
   have fm:((es.map D.dat).filter (λy=>match y with|.dat b=>c a b|_=>false)).map (λy=>match y with|.dat b=>D.dat (f a b)|_=>.dat .none)=((es.filter (c a)).map (f a)).map D.dat:=by simp[List.filter_map,Function.comp_def]
   rw[fm]at inn;have lf:(es.filter (c a)).length<=es.length:=RQ _ _;simp only[QY,Nat.add_mul]at hk;have ih':=ih (k+((es.filter (c a)).map (f a)).length) (λb m=>hs b (by simp[m])) (by rw[QR];omega);simp only[Q6];unfold eW;rw[q1];simp only[R.dD,R.aK,dR,Rr];rw[q2];simp only[R.dD,R.aK,QR,sz (show k+es.length<=16777216 by omega),Rr];rw[inn];simp only[R.aK,QR];rw[QR]at ih';rw[ih'];simp
 have g0:=go ds 0 (λ_ m=>m) (by omega);unfold xf af sH;rw[hit];simp only[R.aK,QR,sz (show ds.length<=16777216 by omega),Rr];rw[g0];simp only[R.aK];refine dC _ h ?_;have:=Cm (xs:=ds) (n:=es.length) (f:=λa=>(es.filter (c a)).map (f a)) λa=>by rw[QR];exact RQ _ _
 omega
section
variable {ns:UJ} {r q:Rel} {a b:PyData} {kd:Kd}
theorem uc(Rn:Nr ns)(kd:Kd)(h:Hm):g9 [.dat (bj ns r),.dat (.str kd.nm)] h=.ok (.dat (bj ns (xY kd r))) h:=by
 have ln:=Rn.le;have lq:=Sg ln ln
 have key:=A8 (n:=2) (it:=aX (ae 2)) (it2:=aX (ae 4)) (g:=aA 0) (g2:=aA 1) (t2:=um (bc (ak nv (bL (aa (ae 0) (aa (ae 1) ah))) (ae 7))) (nQ (bc (ak vm (ae 0) (ae 1))) (bz (j4 6 qK (aa (ae 7) (aa (ae 0) (aa (ae 1) ah))))))) (e:=bL (aa (ae 0) (aa (ae 1) ah)))
  (ρ:=[some (.dat (bj ns r)),some (.dat (.str kd.nm)),some (.dat (.tuple ns)),some (.dat (.tuple (rows ns (dY kd r)))),some (.fn kd.fn),some (zC ns (dY kd r)),none]) (h:=h) (ds:=ns) (es:=ns) (dN (by rfl)) (by omega) (by omega)
  (λa ρ=>∃o,ρ=[some (.dat a),o,some (.dat (bj ns r)),some (.dat (.str kd.nm)),some (.dat (.tuple ns)),some (.dat (.tuple (rows ns (dY kd r)))),some (.fn kd.fn),some (zC ns (dY kd r)),none]) (xY kd r) (λa b=>.tuple [a,b])
  (λa ha=>⟨_,rfl,dN (by rfl),none,rfl⟩)
  (λa ha b hb ρ ⟨o,e⟩=>by
   subst e;refine⟨[some (.dat a),some (.dat b),some (.dat (bj ns r)),some (.dat (.str kd.nm)),some (.dat (.tuple ns)),some (.dat (.tuple (rows ns (dY kd r)))),some (.fn kd.fn),some (zC ns (dY kd r)),none],rfl,?_,λ_=>b9 rfl rfl,some (.dat b),rfl⟩;have e2:=zD (r:=dY kd r) (kd:=kd) Rn ha hb (i:=6) (ma:=aa (ae 7) (aa (ae 0) (aa (ae 1) ah))) (ρ:=[some (.dat a),some (.dat b),some (.dat (bj ns r)),some (.dat (.str kd.nm)),some (.dat (.tuple ns)),some (.dat (.tuple (rows ns (dY kd r)))),some (.fn kd.fn),some (zC ns (dY kd r)),none]) (h:=h) rfl rfl
   exact F1 (cI (aE (b9 rfl rfl) rfl (xS Rn ha hb h))) (Cp (cI (aE rfl rfl (tY (df Rn ha) (df Rn hb) (by have:=xT Rn ha;omega) h))) (dz e2)))
 have t4:sJ nI (ae 1) [some (.dat (bj ns r)),some (.dat (.str kd.nm)),some (.dat (.tuple ns)),some (.dat (.tuple (rows ns (dY kd r)))),none,none,none] h=.ok (.fn kd.fn) h:=Co kd rfl;have t5:=F0 (r:=dY kd r) Rn (ρ:=[some (.dat (bj ns r)),some (.dat (.str kd.nm)),some (.dat (.tuple ns)),some (.dat (.tuple (rows ns (dY kd r)))),some (.fn kd.fn),none,none]) (h:=h) (m:=ae 3) rfl;exact iG rfl (ba (ua (aI (xs:=[.dat (bj ns r),.dat (.str kd.nm)]) rfl (hG Rn kd h)) rfl) (ba (cS t4) (ba (cS t5) (ba (cS key) (fe (b9 (a:=.tuple ns) rfl (aI (xs:=[.dat (.list (rows ns (xY kd r)))]) rfl rfl)))))))
theorem ud(Rn:Nr ns)(R2:Nr n2)(kd:Kd)(h:Hm):bC [.dat (bj ns r),.dat (bj n2 q),.dat (.str kd.nm)] h=.ok (.bool (decide (bj ns (dY kd r)=bj n2 (dY kd q)))) h:=
 iG rfl (ba (kB (aI (xs:=[.dat (bj ns r)]) rfl (ub Rn h))) (ba (kB (aI (xs:=[.dat (bj n2 q)]) rfl (ub R2 h))) (ba (kB (aI (xs:=[.dat (.str kd.nm)]) rfl (FX kd h)))
  (fe (aE (aI (xs:=[.dat (bj ns r),.dat (.str kd.nm)]) rfl (hG Rn kd h)) (aI (xs:=[.dat (bj n2 q),.dat (.str kd.nm)]) rfl (hG R2 kd h)) (Ls h Rn R2))))))
end
section
variable {ns:UJ} {r q:Rel} {a b x y:PyData} {kd:Kd}
def qN(ns:UJ)(kd:Kd)(r q:Rel):Prop:=∀a∈ns,∀b∈ns,(a=b\/iI kd r a b=false)->q a b=r a b
theorem qN.iI(A:qN ns kd r q)(ha:a∈ns)(hb:b∈ns):iI kd q a b=iI kd r a b:=by
 have e1:=A a ha a ha (.inl rfl);have e2:=A b hb b hb (.inl rfl);unfold Ml.iI;rw[e1,e2];by_cases h:kd.I (r a a) (r b b) (q b a)=kd.I (r a a) (r b b) (r b a)
 ·exact h
 ·have  := A b hb a ha (.inr (Kd.back h))
  grind
theorem qN.dY(A:qN ns kd r q)(ha:a∈ns)(hb:b∈ns):dY kd q a b=dY kd r a b:=by
 have e:=A.iI ha hb;unfold Ml.dY;rw[e];by_cases z:a=b
 ·rw[A a ha b hb (.inl z)]
 ·cases w:Ml.iI kd r a b with
  |true=>simp[z]
  |false=>rw[A a ha b hb (.inr w)]
theorem eF:qN ns kd r (dY kd r):=λa ha b hb h=>by
 simp_all[dY]
theorem Cr:qN ns kd r (xY kd r):=λa ha b hb h=>by
 have k:=eF a ha b hb h;unfold xY;rcases h with z|z
 ·grind
 ·rw[(eF).iI ha hb,z,k];simp
theorem qN.self:qN ns kd r r:=λ_ _ _ _ _=>rfl
theorem Cs(h:dY kd r a b=true):r a b=true:=by
 simp_all[dY]
theorem Im(ha:a∈ns)(hb:b∈ns)(h:r a b=true):xY kd r a b=true:=by
 unfold xY;rw[(eF).iI ha hb]
 grind[dY]
theorem Lv(h1:∀a∈ns,∀b∈ns,dY kd r a b=true->q a b=true)(h2:∀a∈ns,∀b∈ns,q a b=true->xY kd r a b=true):qN ns kd r q:=λa ha b hb h=>by
 have k:=eF a ha b hb h;have f:=Cr a ha b hb h
 cases e:r a b with
 |true=>grind
 |false=>
  cases e2:q a b with
  |false=>rfl
  |true=>simp_all
theorem qN.zF(A:qN ns kd r q):rows ns (Ml.dY kd q)=rows ns (Ml.dY kd r):=tX λa ha b hb=>A.dY ha hb
def Gu(r:Rel)(x y:PyData):Rel:=λa b=>if a=x/\b=y then !r a b else r a b
end
structure Px(i:Nat)(h:Hm):Prop where
 box:∃n f:Int,h[i]?=some (.lst [.int n,.int f])
 wf:Wf h
def Ps(i:Nat)(h h':Hm):Prop:=∃n f:Int,h'=h.set i (.lst [.int n,.int f])
theorem Px.lt(b:Px i h):i<h.length:=by obtain⟨⟨n,f,e⟩,_⟩:=b;exact(QV.mp e).1
theorem Px.refl(b:Px i h):Ps i h h:=by obtain⟨⟨n,f,e⟩,_⟩:=b;refine⟨n,f,?_⟩;obtain⟨l,e⟩:=QV.mp e;rw[<- e];exact(List.set_getElem_self l).symm
theorem Ps.trans(a:Ps i h h')(b:Ps i h' h''):Ps i h h'':=by obtain⟨n,f,rfl⟩:=a;obtain⟨k,g,rfl⟩:=b;exact⟨k,g,by simp⟩
theorem Ps.px(s:Ps i h h')(b:Px i h):Px i h':=by obtain⟨n,f,rfl⟩:=s;exact⟨⟨n,f,by rw[RW b.lt]⟩,b.wf.set rfl⟩
theorem Ps.len(s:Ps i h h'):h'.length=h.length:=by obtain⟨n,f,rfl⟩:=s;simp
theorem Px.push(b:Px i h)(q:MO.below (h.length+1) o=true):Px i (h++[o]):=by obtain⟨n,f,e⟩:=b.box;exact⟨⟨n,f,by rw[Q8 b.lt];exact e⟩,b.wf.push q⟩
theorem Ps.pop(b:i<h.length)(s:Ps i (h++[o]) h'):∃h1,h'=h1++[o]/\Ps i h h1:=by obtain⟨n,f,rfl⟩:=s;exact⟨_,by grind,n,f,rfl⟩
def Dp{α:Type}(i:Nat)(h:Hm)(r:R α)(P:α->Prop):Prop:=∃a h',r=.ok a h'/\Ps i h h'/\P a
section
variable {α β:Type} {i:Nat} {h:Hm} {r:R α} {f:α->Hm->R β} {P P':α->Prop} {Q:β->Prop}
theorem Dp.ok(b:Px i h)(p:P a):Dp i h (.ok a h) P:=⟨a,h,rfl,b.refl,p⟩
end
theorem zG(b:Px i h)(e:f xs h=.ok (.dat x) (h1++t))(s:Ps i h h1):gu f xs h=.ok (.dat x) h1:=by
 have hl:=s.len;have w:=(s.px b).wf;unfold gu;rw[e];have:(h1.all (MO.below h.length))=true:=by rw[<- hl];exact QX.mpr λo m=>w o m
 simp[D.below,this,hl]
theorem o6(h0:0<=j)(hj:j<1000000000000)(h:Hm):nY (.int i) (.int j) h=.ok (.int (i*j)) h:=by
 have:By i j=true:=by
  grind[By]
 simp[nY,this]
theorem o7(h0:0<j)(h:Hm):oMod (.int i) (.int j) h=.ok (.int (i % j)) h:=by simp[oMod,h0]
theorem F2(h0:0<j)(h1:j<1073741824)(h:Hm):vk (.int i) (.int j) h=.ok (.int (i / j)) h:=by simp[vk,h0,h1]
theorem ue(h:Hm):fk (.int i) (.int j) h=.ok (.int (i+j)) h:=rfl
theorem rB(h:Hm):oEq (.int i) (.int j) h=.ok (.bool (decide (i=j))) h:=by rfl
theorem gr(b:Px i h)(h0:0<c)(h1:c<1073741824):Dp i h (aB [.ref i,.int c] h) λd=>∃k:Nat,d=.int k/\(k:Int)<c:=by
 obtain⟨⟨n,f,e⟩,_⟩:=b;have hl:=(QV.mp e).1;have i0:∀a b c d:Option D,ak cU (ae 0) (ai (.int 0)) [some (.ref i),a,b,c,d] h=.ok (.int n) h:=λa b c d=>by simp[cU,iP,uJ,e,nh,va]
 have i1:∀a b c d:Option D,ak cU (ae 0) (ai (.int 1)) [some (.ref i),a,b,c,d] h=.ok (.int f) h:=λa b c d=>by simp[cU,iP,uJ,e,nh,va]
 have st:∀(m:Int) (a b c d:Option D),x8 (ae 0) (ai (.int 0)) (.int m) [some (.ref i),a,b,c,d] h=.ok [some (.ref i),a,b,c,d] (h.set i (.lst [.int m,.int f])):=λm a b c d=>by simp[x8,wK,e,BA,va]
 by_cases hf:f=1
 ·refine⟨.int (n % c),h.set i (.lst [.int (n / c),.int f]),?_,⟨_,_,rfl⟩,(n % c).toNat,?_,?_⟩
  ·have t1:bc (ak oEq (ak cU (ae 0) (ai (.int 1))) (ai (.int 1))) [some (.ref i),some (.int c),none,none,none] h=.ok true h:=cI (aE (i1 _ _ _ _) rfl (by rw[rB];simp[hf]));have t2:af n5 (aa (ak cU (ae 0) (ai (.int 0))) (aa (ae 1) ah)) [some (.ref i),some (.int c),none,none,none] h=.ok (.dat (.tuple [.int (n / c),.int (n % c)])) h:=(cf (aw (i0 _ _ _ _) (aw rfl rfl))).trans (by simp[n5,h0,h1]);unfold aB kT bE;simp only[QY,RE,Rr,Q6,T7,SW,Sk,show 5-2=3 from rfl,rep3];unfold bx;rw[Jh t1];simp only[kN,t2,R.aK,hX,Q6,T7,bM,aA,hV,Sy,R8];simp only[ae,TH,Sf,R.aK,st];rfl
  ·rw[Tt (TJ _ (by omega))]
  ·rw[Tt (TJ _ (by omega))];exact Us _ h0
 ·generalize hA:(n % 2147483647+40503)*69621 % 2147483629=A;generalize hB:(A*A+7817) % 2147483587=B;generalize hC:(B*48271+11) % 2147483629=C;have a0:0<=A:=by rw[<- hA];exact TJ _ (by decide)
  have a1:A<2147483629:=by rw[<- hA];exact Us _ (by decide)
  refine⟨.int (C / 32 % c),h.set i (.lst [.int C,.int f]),?_,⟨_,_,rfl⟩,(C / 32 % c).toNat,?_,?_⟩
  ·have t1:bc (ak oEq (ak cU (ae 0) (ai (.int 1))) (ai (.int 1))) [some (.ref i),some (.int c),none,none,none] h=.ok false h:=cI (aE (i1 _ _ _ _) rfl (by rw[rB];simp[hf]));have t2:cw 4 (ak oMod (ak nY (ak fk (ak oMod (ak cU (ae 0) (ai (.int 0))) (ai (.int 2147483647))) (ai (.int 40503))) (ai (.int 69621))) (ai (.int 2147483629))) [some (.ref i),some (.int c),none,none,none] h=.ok (.nx [some (.ref i),some (.int c),none,none,some (.int A)]) h:=by rw[<- hA];exact(rm (aE (aE (aE (aE (i0 _ _ _ _) rfl (o7 (by decide) h)) rfl (ue h)) rfl (o6 (by decide) (by decide) h)) rfl (o7 (by decide) h))).trans rfl
   have t3:cw 4 (ak oMod (ak fk (ak nY (ae 4) (ae 4)) (ai (.int 7817))) (ai (.int 2147483587))) [some (.ref i),some (.int c),none,none,some (.int A)] h=.ok (.nx [some (.ref i),some (.int c),none,none,some (.int B)]) h:=by rw[<- hB];exact(rm (aE (aE (aE rfl rfl (o6 a0 (by omega) h)) rfl (ue h)) rfl (o7 (by decide) h))).trans rfl
   have t4:kN (x8 (ae 0) (ai (.int 0))) (ak oMod (ak fk (ak nY (ae 4) (ai (.int 48271))) (ai (.int 11))) (ai (.int 2147483629))) [some (.ref i),some (.int c),none,none,some (.int B)] h=.ok (.nx [some (.ref i),some (.int c),none,none,some (.int B)]) (h.set i (.lst [.int C,.int f])):=by
    have q:ak oMod (ak fk (ak nY (ae 4) (ai (.int 48271))) (ai (.int 11))) (ai (.int 2147483629)) [some (.ref i),some (.int c),none,none,some (.int B)] h=.ok (.int C) h:=by rw[<- hC];exact aE (aE (aE rfl rfl (o6 (by decide) (by decide) h)) rfl (ue h)) rfl (o7 (by decide) h)
    simp only[kN,q,R.aK,st]
   have g:(h.set i (.lst [.int C,.int f]))[i]?=some (.lst [.int C,.int f]):=by rw[RW hl]
   have t5:ak oMod (ak vk (ak cU (ae 0) (ai (.int 0))) (ai (.int 32))) (ae 1) [some (.ref i),some (.int c),none,none,some (.int B)] (h.set i (.lst [.int C,.int f]))=.ok (.int (C / 32 % c)) (h.set i (.lst [.int C,.int f])):=by
    have q:ak cU (ae 0) (ai (.int 0)) [some (.ref i),some (.int c),none,none,some (.int B)] (h.set i (.lst [.int C,.int f]))=.ok (.int C) (h.set i (.lst [.int C,.int f])):=by simp only[ak,ae,ai,R.aK,Sf,cU,iP,uJ,g,nh,va];rfl
    exact aE (aE q rfl (F2 (by decide) (by decide) _)) rfl (o7 h0 _)
   unfold aB kT bE;simp only[QY,RE,Rr,Q6,T7,SW,Sk,show 5-2=3 from rfl,rep3];rw[mB ((Ji t1).trans rfl),mB t2,mB t3,mB t4,xM t5];rfl
  ·rw[Tt (TJ _ (by omega))]
  ·rw[Tt (TJ _ (by omega))];exact Us _ h0
theorem Lw(z:Int)(w:Wf h):∃n f:Int,iq [.int z] h=.ok (.ref h.length) (h++[.lst [.int n,.int f]])/\Px h.length (h++[.lst [.int n,.int f]]):=by
 obtain⟨n,hn⟩:∃n:Int,C4 [.int z,.int (0-z)] h=.ok (.int n) h:=by unfold C4;exact⟨_,rfl⟩
 refine⟨n,if 10^18<=n then 1 else 0,?_,⟨⟨n,if 10^18<=n then 1 else 0,by simp⟩,w.push rfl⟩⟩;unfold iq sL bE;simp only[QY,RE,Rr,Q6,T7,SW,Sk,show 2-1=1 from rfl,rep1];have t1:cw 1 (af C4 (aa (ae 0) (aa (ak Eu (ai (.int 0)) (ae 0)) ah))) [some (.int z),none] h=.ok (.nx [some (.int z),some (.int n)]) h:=(rm ((cf (aw rfl (aw rfl rfl))).trans hn)).trans rfl;rw[mB t1];have t2:∀b:Bool,rT [.bool b] h=.ok (.int (if b then 1 else 0)) h:=λb=>rfl;have t3:af rT (aa (ak MD (ae 1) (ai (.int (10^18)))) ah) [some (.int z),some (.int n)] h=.ok (.int (if 10^18<=n then 1 else 0)) h:=by refine(cf (aw (aE rfl rfl rfl) rfl)).trans ?_;rw[t2];simp
 refine(TZ (λr=>R.bind r rP) (xM (m:=uG _) ((cf (aw rfl (aw t3 rfl))).trans rfl))).trans rfl
def uf:UJ:=[.str "a",.str "aa",.str "ab",.str "abcdef",.str "b",.str "c",.str "d",.str "e",.str "m",.str "x",.str "zz",.str "zzzzzz"]
theorem Ct:∀d∈uf,FP d:=QX.mp (show uf.all isName=true by rfl)
theorem Io:uf.Nodup:=lR gA (Ni gA Ct (by rfl))
abbrev F3:ME:=oB pE (ae 3) (af aB (aa (ae 1) (aa (af ig (aa (ae 3) ah)) ah)))
theorem Ip{he h3:Hm}{left:UJ}(hL:he.length=L)(l3:h3.length=L)(hk:k<left.length)(h12:left.length<=12)
 (e2:aB [.ref i,.int (left.length:Int)] (he++[.lst (left.map D.dat)])=.ok (.int k) (h3++[.lst (left.map D.dat)])) :
  F3 [some x,some (.ref i),some (.int m),some (.ref L)] (he++[.lst (left.map D.dat)])=.ok (.dat left[k]) (h3++[.lst ((left.eraseIdx k).map D.dat)]):=by
 have g1:(he++[MO.lst (left.map D.dat)])[L]?=some (.lst (left.map D.dat)):=by subst hL;simp
 have g2:(h3++[MO.lst (left.map D.dat)])[L]?=some (.lst (left.map D.dat)):=by subst l3;simp
 have bl:ig [.ref L] (he++[.lst (left.map D.dat)])=.ok (.int (left.length:Int)) (he++[.lst (left.map D.dat)]):=by simp[ig,g1]
 have il:KU (.ref L) (he++[.lst (left.map D.dat)])=true:=by simp[KU,g1]
 have mp:pE (.ref L) (.int (k:Int)) (h3++[.lst (left.map D.dat)])=.ok (.dat left[k]) (h3++[.lst ((left.eraseIdx k).map D.dat)]):=by
  have c:(0:Int)<=k/\(k:Int)<(left.map D.dat).length/\(k:Int)<1000000:=by simp;omega
  have st:(h3++[MO.lst (left.map D.dat)]).set L (.lst ((left.map D.dat).eraseIdx k))=h3++[.lst ((left.eraseIdx k).map D.dat)]:=by subst l3;rw[T8 _ _ (QE _)];simp[TQ]
  simp only[pE,g2,if_pos c,Si,RP,QP hk,Ui,st]
 unfold F3;simp only[oB,af,aa,ah,ae,R.aK,Sf,TH,il,Rr,bl,e2,mp]
theorem Jk:∀{xs:List D} {left:UJ} {he:Hm},Px i he->he.length=L->xs.length<=left.length->left.length<=12 ->
  ∃(he':Hm) (out left':UJ),dE 1 [some (.ref i),some (.int m),some (.ref L)] (aA 0) dR F3 xs (he++[.lst (left.map D.dat)])=.ok (out.map D.dat) (he'++[.lst (left'.map D.dat)])/\Ps i he he'/\out.length=xs.length/\(out++left').Perm left
 | [],left,he,b,_,_,_=>⟨he,[],left,rfl,b.refl,rfl,List.Perm.refl _⟩
 |x::xs,left,he,b,hL,hl,h12=>by
  simp only[QY]at hl;have bp:Px i (he++[.lst (left.map D.dat)]):=b.push (kz _ _);obtain⟨_,h2,e2,s2,k,rfl,hk⟩:=gr bp (c:=(left.length:Int)) (by omega) (by omega);obtain⟨h3,rfl,s3⟩:=s2.pop b.lt;have b3:=s3.px b;have l3:h3.length=L:=by rw[s3.len,hL]
  have hk':k<left.length:=by omega
  have ll:=List.length_eraseIdx_of_lt hk';obtain⟨he',out,left',q1,q2,q3,q4⟩:=Jk (i:=i) (L:=L) (m:=m) (xs:=xs) (left:=left.eraseIdx k) (he:=h3) b3 l3 (by omega) (by omega);have ep:=Ip (x:=x) (m:=m) hL l3 hk' h12 e2;refine⟨he',left[k]::out,left',?_,s3.trans q2,by simp[q3],?_⟩
  ·exact tV (by rfl) (by rfl) ep q1
  ·exact(List.Perm.cons _ q4).trans (LP.fE hk')
theorem F4(b:Px i h){m:Nat}(hm:m<=11):Dp i h (j6 [.ref i,.int (m:Int)] h) λd=>∃ns:UJ,d=.dat (.tuple ns)/\Nr ns/\ns.length<=m:=by
 have b1:Px i (h++[.lst (uf.map D.dat)]):=b.push (kz _ _);obtain⟨_,h2',e2,s2',c,rfl,hc⟩:=gr b1 (c:=(m:Int)+1) (by omega) (by omega);obtain⟨h2,rfl,s2⟩:=s2'.pop b.lt;have b2:=s2.px b;have ln:(nums 0 c).length=c:=by simp[nums]
 obtain⟨h3,out,left,q1,q2,q3,q4⟩:=Jk (i:=i) (L:=h.length) (m:=(m:Int)) (xs:=nums 0 c) (left:=uf) (he:=h2) b2 s2.len (by rw[ln];simp[uf];omega) (by decide);have on:out.length=c:=by rw[q3,ln]
 have onm:∀d∈out,FP d:=λd m=>Ct d (q4.mem_iff.mp (Q9 _ m));have ond:out.Nodup:=(Td.mp (q4.nodup_iff.mpr Io)).1;have rw0:Rw FP (cD ltB out):=xN gA onm ond;have so:cY out=true:=gA.Nj onm (by omega);have nl:(cD ltB out).length=c:=by rw[(bN _ _).length_eq,on]
 have rn:Nr (cD ltB out):=⟨rw0,by omega⟩
 have ra:kP 1 (qf (aa (af aB (aa (ae 0) (aa (ak fk (ae 1) (ai (.int 1))) ah))) ah)) (aA 0) dR F3 [some (.ref i),some (.int (m:Int)),some (.ref h.length)] (h++[.lst (uf.map D.dat)])=.ok (out.map D.dat) (h3++[.lst (left.map D.dat)]):=by
  have e1:aa (af aB (aa (ae 0) (aa (ak fk (ae 1) (ai (.int 1))) ah))) ah [some (.ref i),some (.int (m:Int)),some (.ref h.length)] (h++[.lst (uf.map D.dat)])=.ok [.dat (.int (c:Int))] (h2++[.lst (uf.map D.dat)]):=
   aw (aI (aw rfl (aw (aE rfl rfl rfl) rfl)) e2) rfl
  unfold kP;rw[zx e1 (by omega)];simp only[R.aK];rw[if_pos (by rw[ln];exact sz (by omega))];exact q1
 have m1:=(cf (f:=ie) ra).trans (dC out _ (by omega));have m2:gN [.dat (.list out)] (h3++[.lst (left.map D.dat)])=.ok (.dat (.list (cD ltB out))) (h3++[.lst (left.map D.dat)]):=by simp[gN,listOf,so]
 have t1:cw 2 (uG (aa (ai (.str "a")) (aa (ai (.str "aa")) (aa (ai (.str "ab")) (aa (ai (.str "abcdef")) (aa (ai (.str "b")) (aa (ai (.str "c")) (aa (ai (.str "d")) (aa (ai (.str "e")) (aa (ai (.str "m")) (aa (ai (.str "x")) (aa (ai (.str "zz")) (aa (ai (.str "zzzzzz")) ah))))))))))))) [some (.ref i),some (.int (m:Int)),none] h=.ok (.nx [some (.ref i),some (.int (m:Int)),some (.ref h.length)]) (h++[.lst (uf.map D.dat)]):=rfl;have m3:af gN (aa (cx 1 (qf (aa (af aB (aa (ae 0) (aa (ak fk (ae 1) (ai (.int 1))) ah))) ah)) (aA 0) dR F3) ah) [some (.ref i),some (.int (m:Int)),some (.ref h.length)] (h++[.lst (uf.map D.dat)])=.ok (.dat (.list (cD ltB out))) (h3++[.lst (left.map D.dat)]):=aI (aw m1 rfl) m2;have m4:dF [.dat (.list (cD ltB out))] (h3++[.lst (left.map D.dat)])=.ok (.dat (.tuple (cD ltB out))) (h3++[.lst (left.map D.dat)]):=rfl;have run:j5 [.ref i,.int (m:Int)] h=.ok (.dat (.tuple (cD ltB out))) (h3++[.lst (left.map D.dat)]):=by unfold j5 oF;exact iG rfl (ba t1 (fe (aI (aw m3 rfl) m4)))
 exact⟨_,h3,zG b run (s2.trans q2),s2.trans q2,cD ltB out,rfl,rn,by omega⟩
theorem F5(b:Px i h)(hz:ns.length<=16777216)(e2:∀h,aX (ae 2) ρ h=.ok (ns.map D.dat) h)(e0:ρ[0]?=some (some (.ref i)))(e3:ρ[3]?=some (some (.int s)))(e5:ρ[5]?=some (some (.dat one))) :
  Dp i h (cx 1 (aX (ae 2)) (aA 0) (bc (ak oLt (af aB (aa (ae 1) (aa (ai (.int 8)) ah))) (ae 4))) (bL (aa (ae 6) (aa (ae 0) ah))) ρ h) λd=>∃ls:UJ,d=.dat (.list (ls.map λy=>.tuple [one,y]))/\ls.Sublist ns:=by
 unfold cx
 obtain⟨ys,zs,h',q1,q2,q3,q4⟩:=kq (n:=1) (ρ:=ρ) (g:=aA 0) (t:=bc (ak oLt (af aB (aa (ae 1) (aa (ai (.int 8)) ah))) (ae 4))) (e:=bL (aa (ae 6) (aa (ae 0) ah))) (Ps i h) (λx y=>∃d,x=.dat d/\y=.dat (.tuple [one,d])) (xs:=ns.map D.dat) (h:=h) (λx hx h1 s1=>by
  obtain⟨d,hd,rfl⟩:=Q4.mp hx;obtain⟨_,h2,e2,s2,k,rfl,hk⟩:=gr (s1.px b) (c:=8) (by decide) (by decide);refine⟨some (.dat d)::ρ,h1,decide ((k:Int)<s),h2,rfl,?_,?_⟩
  ·simp[e0,e2,e3,xI]
  ·cases hc:decide ((k:Int)<s)with
   |false=>exact .inl ⟨rfl,s1.trans s2⟩
   |true=>exact .inr ⟨rfl,.dat (.tuple [one,d]),h2,by simp[e5],⟨d,rfl,rfl⟩,s1.trans s2⟩) b.refl
 obtain⟨ls,rfl,sl⟩:=Cf q3;rw[tW q4]at q1;have ea:kP 1 (aX (ae 2)) (aA 0) (bc (ak oLt (af aB (aa (ae 1) (aa (ai (.int 8)) ah))) (ae 4))) (bL (aa (ae 6) (aa (ae 0) ah))) ρ h=.ok ((ls.map λy=>PyData.tuple [one,y]).map D.dat) h':=by unfold kP;rw[e2];simp only[R.aK,QR,sz hz,Rr];exact q1
 refine⟨.dat (.list (ls.map λy=>.tuple [one,y])),h',?_,q2,ls,rfl,sl⟩;rw[cf ea];exact dC _ h' (by rw[QR];exact QM sl.length_le hz)
abbrev F6:MS:=cw 4 (ak fk (ae 4) (cx 1 (aX (ae 2)) (aA 0) (bc (ak oLt (af aB (aa (ae 1) (aa (ai (.int 8)) ah))) (ae 4))) (bL (aa (ae 6) (aa (ae 0) ah)))))
theorem F7(r:Nr ns):∀{xs pre acc:UJ} {h:Hm},ns=pre++xs->Px i h->Pw pre ns acc->∀a5:Option D,Dp i h (dh (aA 5) F6 (xs.map D.dat) [some (.ref i),some (.int m),some (.dat (.tuple ns)),some (.int s),some (.dat (.list acc)),a5] h) λf=>∃(acc':UJ) (b5:Option D),f=.nx [some (.ref i),some (.int m),some (.dat (.tuple ns)),some (.int s),some (.dat (.list acc')),b5]/\Pw ns ns acc'
 | [],pre,acc,h,e,b,P,a5=>by
  have e':ns=pre:=by grind
  exact Dp.ok b ⟨acc,a5,rfl,by grind⟩
 |x::xs,pre,acc,h,e,b,P,a5=>by
  have l12:=r.le;obtain⟨_,h2,e2,s2,ls,rfl,sl⟩:=F5 (h:=h) b (ns:=ns) (s:=s) (one:=x) (ρ:=[some (.ref i),some (.int m),some (.dat (.tuple ns)),some (.int s),some (.dat (.list acc)),some (.dat x)]) (by omega) (λh=>dN rfl) rfl rfl rfl;have P2:=P.step r.toRw e sl;obtain⟨f,h3,e3,s3,k⟩:=F7 (s:=s) (m:=m) r (xs:=xs) (pre:=pre++[x]) (acc:=acc++ls.map λy=>.tuple [x,y]) (by simp[e]) (s2.px b) P2 (some (.dat x));refine⟨f,h3,?_,s2.trans s3,k⟩
  have lp:acc.length+(ls.map λy=>PyData.tuple [x,y]).length<=16777216:=by
   have l1:=P2.len;have l3:(pre++[x]).length<=12:=by have:(pre++x::xs).length<=12:=e▸l12;simp only[QW,QY,RE]at this ⊢;omega
   have l4:(pre++[x]).length*ns.length<=12*12:=Sg l3 l12;simp only[QW]at l1 l4 ⊢;omega
  have eb:F6 [some (.ref i),some (.int m),some (.dat (.tuple ns)),some (.int s),some (.dat (.list acc)),some (.dat x)] h=.ok (.nx [some (.ref i),some (.int m),some (.dat (.tuple ns)),some (.int s),some (.dat (.list (acc++ls.map λy=>.tuple [x,y]))),some (.dat x)]) h2:=
   cS (aE (x:=.dat (.list acc)) rfl e2 (jP h2 lp))
  simp only[Q6,dh,aA,R.dD,R.aK,Sy,R8];rw[eb];simp only[R.dD,R.aK];exact e3
theorem F9(b:Px i h){m:Nat}(hm:m<=11):Dp i h (iu [.ref i,.int (m:Int)] h) λd=>∃(ns:UJ) (r:Rel),d=.dat (bj ns r)/\Nr ns/\ns.length<=m:=by
 obtain⟨_,h2,e2,s2,ns,rfl,rn,nl⟩:=F4 b hm;have b2:=s2.px b;obtain⟨_,h4,e4,s4,u,rfl,hu⟩:=gr b2 (c:=4) (by decide) (by decide)
 obtain⟨sh,esh⟩:∃s:Int,nh [PyData.int 1,.int 2,.int 3,.int 5] (u:Int)=some (.int s):=by
  obtain⟨x,ex,mx⟩:=rj (xs:=[PyData.int 1,.int 2,.int 3,.int 5]) (k:=u) (by grind)
  grind
 obtain⟨_,h5,e5,s5,ss,b5,rfl,P⟩:=F7 (i:=i) (s:=sh) (m:=(m:Int)) rn (xs:=ns) (pre:=[]) (acc:=[]) rfl (s4.px b2) ⟨.nil,by simp,by simp⟩ none
 have w:Wb (ns.length*ns.length) ns ss:=by
  refine⟨rn,⟨λp m=>?_,P.ris⟩,λx y m=>?_,P.len⟩
  ·obtain⟨x,y,rfl,hx,hy⟩:=P.mem p m;exact⟨x,y,rn.sub x hx,rn.sub y hy,rfl⟩
  ·obtain⟨x',y',e,hx,hy⟩:=P.mem _ m;simp only[PyData.tuple.injEq,List.cons.injEq,and_true]at e;obtain⟨rfl,rfl⟩:=e;exact⟨hx,hy⟩
 refine⟨.dat (.tuple [.tuple ns,.tuple ss]),h5,?_,(s2.trans s4).trans s5,ns,zy ss,by rw[bj,<- xO w],rn,nl⟩;have i1:ak cU (ai (.list [.int 1,.int 2,.int 3,.int 5])) (af aB (aa (ae 0) (aa (ai (.int 4)) ah))) [some (.ref i),some (.int (m:Int)),none,none,none,none] h2=.ok (.int sh) h4:=aE rfl (aI (xs:=[.ref i,.int 4]) rfl e4) (by simp only[cU,iP,uJ,esh])
 exact iG rfl (ba (ua (x:=.dat (.tuple [.tuple ns,.int sh,.list []])) ((cf (f:=kM) (aw (aI (xs:=[.ref i,.int (m:Int)]) rfl e2) (aw i1 (aw (x:=.dat (.list [])) rfl rfl)))).trans (Lj _ _ _ _)) rfl)
  (ba (ky (dN (ds:=ns) rfl) e5) (fe (b9 (a:=.tuple ns) (b:=.tuple ss) rfl (aI (xs:=[.dat (.list ss)]) rfl rfl)))))
theorem qO:∀{ls:UJ} {ys:List D},PySem.Paired (λx y=>∃d,x=.dat d/\y=.dat (.tuple [d,d])) (ls.map D.dat) ys->ys=(ls.map λy=>PyData.tuple [y,y]).map D.dat
 | [],ys,h=>by cases h;rfl
 |l::ls,ys,h=>by
  cases h with
  |cons a b=>obtain⟨d,e,rfl⟩:=a;cases e;rw[qO b];rfl
theorem qb(b:Px i h)(Rn:Nr ns)(nl:ns.length<=7):Dp i h (cK [.ref i,.dat (bj ns r)] h) λd=>∃q:Rel,d=.dat (bj ns q):=by
 obtain⟨ys,zs,h',q1,q2,q3,q4⟩:=kq (n:=1) (ρ:=[some (.ref i),some (.dat (bj ns r)),none]) (g:=aA 0) (t:=bc (ak oEq (af aB (aa (ae 1) (aa (ai (.int 2)) ah))) (ai (.int 0)))) (e:=bL (aa (ae 0) (aa (ae 0) ah))) (Ps i h) (λx y=>∃d,x=.dat d/\y=.dat (.tuple [d,d])) (xs:=ns.map D.dat) (h:=h) (λx hx h1 s1=>by
  obtain⟨d,hd,rfl⟩:=Q4.mp hx;obtain⟨_,h2,e2,s2,k,rfl,hk⟩:=gr (s1.px b) (c:=2) (by decide) (by decide);refine⟨[some (.dat d),some (.ref i),some (.dat (bj ns r)),none],h1,decide ((k:Int)=0),h2,rfl,cI (aE (aI (xs:=[.ref i,.int 2]) rfl e2) rfl (rB h2)),?_⟩
  cases hc:decide ((k:Int)=0)with
  |false=>exact .inl ⟨rfl,s1.trans s2⟩
  |true=>exact .inr ⟨rfl,.dat (.tuple [d,d]),h2,b9 rfl rfl,⟨d,rfl,rfl⟩,s1.trans s2⟩) b.refl
 obtain⟨ls,rfl,sl⟩:=Cf q3;rw[qO q4]at q1;have ll:=sl.length_le;have lr:(rows ns r).length<=49:=QM lU (Sg nl nl);have lm:(ls.map λy=>PyData.tuple [y,y]).length=ls.length:=QR ..;have ea:cx 1 (aX (ak cU (ae 1) (ai (.int 0)))) (aA 0) (bc (ak oEq (af aB (aa (ae 1) (aa (ai (.int 2)) ah))) (ai (.int 0)))) (bL (aa (ae 0) (aa (ae 0) ah))) [some (.ref i),some (.dat (bj ns r)),none] h=.ok (.dat (.list (ls.map λy=>.tuple [y,y]))) h':=by unfold cx;refine aI (xs:=(ls.map λy=>PyData.tuple [y,y]).map D.dat) (h1:=h') ?_ (dC _ h' (by omega));unfold kP;rw[dN (ds:=ns) rfl];simp only[R.aK,QR,sz (show ns.length<=16777216 by omega),Rr];exact q1
 have sub2:∀d∈ls.map (λy=>PyData.tuple [y,y]),∃a,d=.tuple [a,a]/\a∈ns:=λd m=>by obtain⟨a,ha,rfl⟩:=Q4.mp m;exact⟨a,rfl,sl.subset ha⟩
 have in2:∀d∈ls.map (λy=>PyData.tuple [y,y]),FQ d:=λd m=>by obtain⟨a,rfl,ha⟩:=sub2 d m;exact⟨a,a,Rn.sub a ha,Rn.sub a ha,rfl⟩
 obtain⟨u1,u2,u3⟩:=o3 cn (aY (r:=r) Rn).sub in2
 have w:Wb 100 ns (un (rows ns r) (ls.map λy=>.tuple [y,y])):=⟨Rn,u1,λx y m=>by
  rcases(u2 _).mp m with z|z
  ·exact⟨(cR.mp z).1,(cR.mp z).2.1⟩
  ·obtain⟨a,e,ha⟩:=sub2 _ z;simp only[PyData.tuple.injEq,List.cons.injEq,and_true]at e;obtain⟨rfl,rfl⟩:=e
   exact⟨ha,ha⟩,by omega⟩
 have so:=Dz cn (aY (r:=r) Rn).sub in2 (by omega) h';refine⟨.dat (.tuple [.tuple ns,.tuple (un (rows ns r) (ls.map λy=>.tuple [y,y]))]),h',?_,q2,zy _,by rw[bj,<- xO w]⟩;have bl:rS [.dat (.tuple (rows ns r))] h'=.ok (.dat (.list (rows ns r))) h':=rfl;exact iG rfl (ba (cS ea) (fe (b9 (a:=.tuple ns) rfl (aI (aw (aI (aw (aE (aI (xs:=[.dat (.tuple (rows ns r))]) rfl bl) (y:=.dat (.list (ls.map λy=>.tuple [y,y]))) rfl (jP h' (by omega))) rfl) so) rfl) rfl))))
section
variable {ns:UJ} {r q:Rel} {a b x y:PyData} {kd:Kd}
theorem Ga(t:ao xs=true)(h:Hm):oEq (.dat (.list xs)) (.dat (.list [])) h=.ok (.bool (decide (xs=[]))) h:=by
 cases xs with
 |nil=>rfl
 |cons x xs=>
  have:=fo t
  simp_all[PyData.hasDictAll,oEq,eqQ,noDict,PyData.hasDict,PyData.depth,PyData.depthAll,PyData.eqv,PyData.eqvAll]
theorem DC(tx:ao xs=true)(ty:ao ys=true)(dy:∀e∈ys,e.depth<=40)(hl:xs.length<=1000)(hs:∀d∈xs,d∈ys)(h:Hm):jo [.dat (.tuple xs),.dat (.tuple ys)] h=.ok (.bool true) h:=by
 have key:=jN (n:=1) (it:=aX (ae 0)) (g:=aA 0) (t:=bc (ak rQ (ae 0) (ae 2))) (e:=ae 0) (ρ:=[some (.dat (.tuple xs)),some _]) (dN rfl) (by omega) (λ_=>false) id (λd hd=>⟨_,rfl,cI (aE rfl rfl (by rw[tZ (aM tx hd) ty dy h,Rg (hs d hd)];rfl)),λz=>by rfl⟩);have f0:xs.filter (λ_=>false)=[]:=by simp
 rw[f0]at key;have e0:=Ga (xs:=[]) (by rfl) h;exact iG rfl (fe (aE key rfl e0))
theorem Lx(Rn:Nr ns)(hx:x∈ns)(hy:y∈ns):∀d,d∈rows ns (Gu r x y)<->(d∈rows ns r/\d≠.tuple [x,y])\/(d=.tuple [x,y]/\d∉rows ns r):=λd=>by
 rw[bI,bI];constructor
 ·rintro⟨a,b,rfl,ha,hb,h⟩;by_cases z:a=x/\b=y
  ·obtain⟨rfl,rfl⟩:=z;simp only[Gu,and_self,Rr]at h
   grind
  ·simp only[Gu,z,Rx]at h;exact .inl ⟨⟨a,b,rfl,ha,hb,h⟩,by simp_all⟩
 ·rintro(⟨⟨a,b,rfl,ha,hb,h⟩,z⟩|⟨rfl,z⟩)
  ·have z':¬ (a=x/\b=y):=by simpa using z
   exact⟨a,b,rfl,ha,hb,by simp only[Gu,z',Rx];exact h⟩
  ·refine⟨x,y,rfl,hx,hy,?_⟩;simp only[Gu,and_self,Rr]
   cases e:r x y with
   |false=>rfl
   |true=>exact absurd ⟨x,y,rfl,hx,hy,e⟩ z
theorem DD(Rn:Nr ns)(hx:x∈ns)(hy:y∈ns)(nl:ns.length<=7)(h:Hm):gg [.dat (.tuple (rows ns r)),.dat (.tuple [.tuple [x,y]])] h=.ok (.dat (.tuple (rows ns (Gu r x y)))) h:=by
 have lr:(rows ns r).length<=49:=QM lU (Sg nl nl);have tr:=t9 cn (aY (r:=r) Rn);have t1:ao [PyData.tuple [x,y]]=true:=by simp[ao,xQ Rn hx hy]
 have d1:∀e∈[PyData.tuple [x,y]],e.depth<=40:=λe m=>by rw[QT.mp m];exact QM (cn.dep _ (FZ Rn hx hy)) (by decide)
 have k1:=jN (n:=1) (it:=aX (ae 0)) (g:=aA 0) (t:=bc (ak rQ (ae 0) (ae 2))) (e:=ae 0) (ρ:=[some (.dat (.tuple (rows ns r))),some (.dat (.tuple [.tuple [x,y]])),none]) (h:=h) (h1:=h) (ds:=rows ns r) (dN rfl) (by omega) (λd=>!decide (d∈[PyData.tuple [x,y]])) id (λd hd=>⟨_,rfl,cI (aE rfl rfl (tZ (aM tr hd) t1 d1 h)),λ_=>rfl⟩);have k2:=jN (n:=1) (it:=aX (ae 1)) (g:=aA 0) (t:=bc (ak rQ (ae 0) (ae 1))) (e:=ae 0) (ρ:=[some (.dat (.tuple (rows ns r))),some (.dat (.tuple [.tuple [x,y]])),none]) (h:=h) (h1:=h) (ds:=[PyData.tuple [x,y]]) (dN rfl) (by simp) (λd=>!decide (d∈rows ns r)) id (λd hd=>⟨_,rfl,cI (aE rfl rfl (tZ (aM t1 hd) tr (xP cn (aY Rn)) h)),λ_=>rfl⟩);rw[List.map_id]at k1 k2;generalize hA:(rows ns r).filter (λd=>!decide (d∈[PyData.tuple [x,y]]))=A at k1;generalize hB:[PyData.tuple [x,y]].filter (λd=>!decide (d∈rows ns r))=B at k2;have la:A.length<=49:=by rw[<- hA];exact QM (RQ _ _) lr
 have lb:B.length<=1:=by rw[<- hB];exact QM (RQ _ _) (by simp)
 have ma:∀d,d∈A<->d∈rows ns r/\d≠.tuple [x,y]:=λd=>by rw[<- hA,R0];simp
 have mb:∀d,d∈B<->d=.tuple [x,y]/\d∉rows ns r:=λd=>by rw[<- hB,R0];simp
 have sub:∀d∈A++B,FQ d:=λd m=>by
  rcases QN.mp m with z|z
  ·exact(aY Rn).sub d ((ma d).mp z).1
  ·rw[((mb d).mp z).1];exact FZ Rn hx hy
 have nd:(A++B).Nodup:=by
  refine Td.mpr ⟨?_,?_,λp hp q hq e=>?_⟩
  ·rw[<- hA];exact List.Nodup.sublist List.filter_sublist (lR cn (aY Rn))
  ·rw[<- hB];exact List.Nodup.sublist List.filter_sublist (by simp)
  ·subst e;exact((ma p).mp hp).2 ((mb p).mp hq).1
 have so:cY (A++B)=true:=cn.Nj sub (by simp;omega);have es:cD ltB (A++B)=rows ns (Gu r x y):=v8 cn (xN cn sub nd) (aY Rn) λd=>by rw[(bN _ _).mem_iff,QN,ma,mb,Lx Rn hx hy]
 have bs:gN [.dat (.list (A++B))] h=.ok (.dat (.list (rows ns (Gu r x y)))) h:=by simp[gN,listOf,so,es]
 exact iG rfl (ba (cS (aE k1 k2 (jP h (by omega)))) (fe (aI (aw (aI (xs:=[.dat (.list (A++B))]) rfl bs) rfl) rfl)))
end
theorem ug(keep:PyData->Bool):∀{ds:UJ} {h:Hm},Px i h->(∀d∈ds,∀h,Px i h->∃ρ1 c h2,g (.dat d) (List.replicate n none++ρ) h=.ok ρ1 h/\t ρ1 h=.ok c h2/\Ps i h h2/\(keep d=true->c=true)/\(∀h,e ρ1 h=.ok (.dat d) h)) ->
  ∃(zs:UJ) (h':Hm),dE n ρ g t e (ds.map D.dat) h=.ok (zs.map D.dat) h'/\Ps i h h'/\zs.Sublist ds/\∀d∈ds,keep d=true->d∈zs
 | [],h,b,_=>⟨[],h,rfl,b.refl,.slnil,λ_ m=>by cases m⟩
 |d::ds,h,b,H=>by
  obtain⟨ρ1,c,h2,e1,e2,s2,k,e3⟩:=H d (by simp) h b;obtain⟨zs,h',q1,q2,q3,q4⟩:=ug (i:=i) (n:=n) (ρ:=ρ) (g:=g) (t:=t) (e:=e) keep (ds:=ds) (s2.px b) λx m=>H x (by simp[m])
  cases c with
  |false=>
   refine⟨zs,h',?_,s2.trans q2,.cons _ q3,λx m kx=>?_⟩
   ·simp_all[Q6,dE,e1,R.dD,R.aK,e2,QO,Rx]
   grind
  |true=>
   refine⟨d::zs,h',?_,s2.trans q2,.cons_cons _ q3,λx m kx=>?_⟩
   ·simp only[Q6];exact tV e1 e2 (e3 h2) q1
   ·rcases QK.mp m with rfl|m
    ·simp
    ·exact QL _ (q4 x m kx)
theorem Gb(Rn:Nr ns)(s:zs.Sublist (rows ns r)):zs=rows ns (zy zs):=
 xO (k:=zs.length) ⟨Rn,⟨λd m=>(aY Rn).sub d (s.subset m),(aY Rn).ris.sublist s⟩,λa b m=>⟨(cR.mp (s.subset m)).1,(cR.mp (s.subset m)).2.1⟩,QE _⟩
def Ly:UJ:=[.str "stable",.str "standing",.str "preferred",.str "whole",.str "grounded"]
theorem Gd(h:d∈Ly):∃kd:Kd,d=.str kd.nm:=by
 simp[Ly]at h;rcases h with rfl|rfl|rfl|rfl|rfl
 ·exact⟨.stable,rfl⟩
 ·exact⟨.standing,rfl⟩
 ·exact⟨.preferred,rfl⟩
 ·exact⟨.whole,rfl⟩
 ·exact⟨.grounded,rfl⟩
section
variable {ns:UJ} {r q:Rel} {a b x y:PyData} {kd:Kd}
theorem wb(Rn:Nr ns)(kd:Kd)(ha:a∈ns)(hb:b∈ns)(h:Hm):bZ [.dat (bj ns r),.dat (.str kd.nm),.dat a,.dat b] h=.ok (.bool (iI kd r a b)) h:=by
 have ix:∀ρ:Fm,ρ[0]?=some (some (.dat (bj ns r)))->ak cU (ae 0) (ai (.int 1)) ρ h=.ok _ h:=λρ e=>aE (x:=.dat (bj ns r)) (by simp_all) rfl rfl
 have p1:uH [4,5,6] (aa (ak nv (bL (aa (ae 2) (aa (ae 2) ah))) (ak cU (ae 0) (ai (.int 1)))) (aa (ak nv (bL (aa (ae 3) (aa (ae 3) ah))) (ak cU (ae 0) (ai (.int 1)))) (aa (ak nv (bL (aa (ae 3) (aa (ae 2) ah))) (ak cU (ae 0) (ai (.int 1)))) ah))) [some (.dat (bj ns r)),some (.dat (.str kd.nm)),some (.dat a),some (.dat b),none,none,none] h =
   .ok (.nx [some (.dat (bj ns r)),some (.dat (.str kd.nm)),some (.dat a),some (.dat b),some (.bool (r a a)),some (.bool (r b b)),some (.bool (r b a))]) h:=by
  unfold uH;rw[aw (aE (b9 rfl rfl) (ix _ rfl) (xR Rn ha ha h)) (aw (aE (b9 rfl rfl) (ix _ rfl) (xR Rn hb hb h)) (aw (aE (b9 rfl rfl) (ix _ rfl) (xR Rn hb ha h)) rfl))];rfl
 refine iG rfl (ba p1 (fe ?_));unfold iI;cases kd<;>cases r a a<;>cases r b b<;>cases r b a<;>kernel_rfl
abbrev Fk(ns:UJ)(r:Rel)(kd:Kd)(L:Nat)(x y:Option D):Fm:=[some (.dat (bj ns r)),some (.dat (.str kd.nm)),some (.ref L),x,y]
abbrev hK(h:Hm)(acc:UJ):Hm:=h++[.lst (acc.map D.dat)]
abbrev A9:MS:=o8 (um (bc (ak oEq (ae 3) (ae 4))) (fO (bz (af bZ (aa (ae 0) (aa (ae 1) (aa (ae 3) (aa (ae 4) ah)))))))) (jE (oB fZ (ae 2) (bL (aa (ae 3) (aa (ae 4) ah))))) cL
theorem xU(Rn:Nr ns):∀{xs acc:UJ},(∀p∈xs,p∈rows ns r)->acc.length+xs.length<=1000->∀a3 a4:Option D,∃b3 b4,dh (hX (bM (aA 3) (bM (aA 4) hV))) A9 (xs.map D.dat) (Fk ns r kd h.length a3 a4) (hK h acc)=.ok (.nx (Fk ns r kd h.length b3 b4)) (hK h (acc++xs.filter (A7 kd r)))
 | [],acc,_,_,a3,a4=>⟨a3,a4,by simp[dh]⟩
 |p::xs,acc,hs,hl,a3,a4=>by
  obtain⟨a,b,rfl,ha,hb,_⟩:=bI.mp (hs p (by simp));simp only[QY]at hl;have e1:bc (ak oEq (ae 3) (ae 4)) (Fk ns r kd h.length (some (.dat a)) (some (.dat b))) (hK h acc)=.ok (decide (a=b)) (hK h acc):=cI (aE rfl rfl (Cq (df Rn ha) (df Rn hb) (xT Rn ha) _));have e2:fO (bz (af bZ (aa (ae 0) (aa (ae 1) (aa (ae 3) (aa (ae 4) ah)))))) (Fk ns r kd h.length (some (.dat a)) (some (.dat b))) (hK h acc)=.ok (!iI kd r a b) (hK h acc):=gY (dz (aI (xs:=[.dat (bj ns r),.dat (.str kd.nm),.dat a,.dat b]) rfl (wb Rn kd ha hb _)));have e3:=F1 e1 e2;have kc:A7 kd r (.tuple [a,b])=(decide (a=b) || !iI kd r a b):=rfl;rw[<- kc]at e3
  cases z:A7 kd r (.tuple [a,b])with
  |false=>rw[z]at e3;obtain⟨b3,b4,ih⟩:=xU Rn (h:=h) (xs:=xs) (acc:=acc) (λq m=>hs q (by simp[m])) (by omega) (some (.dat a)) (some (.dat b));refine⟨b3,b4,?_⟩;have st:A9 (Fk ns r kd h.length (some (.dat a)) (some (.dat b))) (hK h acc)=.ok (.nx (Fk ns r kd h.length (some (.dat a)) (some (.dat b)))) (hK h acc):=zE e3 rfl;simp only[Q6,dh,hX,T7,bM,aA,hV,R.aK,R.dD,Sy,R8];rw[st];simp only[R.dD,R.aK,List.filter_cons,z,QO,Rx];exact ih
  |true=>
   rw[z]at e3;obtain⟨b3,b4,ih⟩:=xU Rn (h:=h) (xs:=xs) (acc:=acc++[.tuple [a,b]]) (λq m=>hs q (by simp[m])) (by simp;omega) (some (.dat a)) (some (.dat b));refine⟨b3,b4,?_⟩
   have ap:oB fZ (ae 2) (bL (aa (ae 3) (aa (ae 4) ah))) (Fk ns r kd h.length (some (.dat a)) (some (.dat b))) (hK h acc)=.ok D.none (hK h (acc++[PyData.tuple [a,b]])):=by
    have g:(h++[MO.lst (acc.map D.dat)])[h.length]?=some (.lst (acc.map D.dat)):=by simp
    have c:decide ((acc.map D.dat).length<16777216)=true:=Rg (by rw[QR];omega);have t:bL (aa (ae 3) (aa (ae 4) ah)) (Fk ns r kd h.length (some (.dat a)) (some (.dat b))) (hK h acc)=.ok (.dat (.tuple [a,b])) (hK h acc):=b9 rfl rfl;simp only[oB,ae,TH,Sf,R.aK,KU,g,Rr];rw[t];simp only[R.aK,fZ,g,c,Rr];rw[T8 _ _ (QE _)];simp
   have st:A9 (Fk ns r kd h.length (some (.dat a)) (some (.dat b))) (hK h acc)=.ok (.nx (Fk ns r kd h.length (some (.dat a)) (some (.dat b)))) (hK h (acc++[PyData.tuple [a,b]])):=Py e3 (kB ap);simp only[Q6,dh,hX,T7,bM,aA,hV,R.aK,R.dD,Sy,R8];rw[st];simp only[R.dD,R.aK,List.filter_cons,z,Rr];rw[ih];simp
theorem Ge(w:Wf h)(e:f xs h=.ok (.dat x) (h++t)):gu f xs h=.ok (.dat x) h:=by
 unfold gu;have  := QX.mpr λo m=>w o m
 simp_all[D.below]
theorem Ba(Rn:Nr ns)(kd:Kd)(w:Wf h):gf [.dat (bj ns r),.dat (.str kd.nm)] h=.ok (.dat (bj ns (dY kd r))) h:=by
 have l:=mD (r:=r) (Rn.le);obtain⟨b3,b4,lp⟩:=xU Rn (xs:=rows ns r) (acc:=[]) (λ_ m=>m) (by grind) none none;have fl:(rows ns r).filter (A7 kd r)=rows ns (dY kd r):=qL Rn (λa b=>decide (a=b) || !iI kd r a b) λa _ b _=>rfl;rw[Sk,fl]at lp;have g:(h++[MO.lst ((rows ns (dY kd r)).map D.dat)])[h.length]?=some (.lst ((rows ns (dY kd r)).map D.dat)):=by simp
 have bt:dF [.ref h.length] (h++[.lst ((rows ns (dY kd r)).map D.dat)])=.ok (.dat (.tuple (rows ns (dY kd r)))) (h++[.lst ((rows ns (dY kd r)).map D.dat)]):=by simp[dF,listOf,g,lX]
 refine Ge (t:=[.lst ((rows ns (dY kd r)).map D.dat)]) w ?_;exact iG rfl (ba (cS (x:=.ref h.length) (h1:=h++[MO.lst (List.map D.dat [])]) rfl) (ba (ky (dN (aE (x:=.dat (bj ns r)) rfl (y:=.int 1) rfl rfl)) lp) (fe (b9 (a:=.tuple ns) (aE (x:=.dat (bj ns r)) rfl (y:=.int 0) rfl rfl) (aI (xs:=[.ref h.length]) rfl bt)))))
end
section
variable {ns:UJ} {r q:Rel} {a b x y:PyData} {kd:Kd}
theorem DF(u:rA U)(r:∀d∈xs,U d)(q:∀d∈ys,U d)(l:xs.length+ys.length<=120)(l2:(un xs ys).length<64)(h:Hm):eV [.dat (.list (xs++ys))] h=.ok (.dat (.list (un xs ys))) h:=by
 obtain⟨h1,h2,h3⟩:=Cj u r q;have l3  := by unfold un at l2;rw[(bN _ _).length_eq]at l2;exact l2
 have s2  := u.set (λd m=>(QN.mp m).elim (r d) (q d)) (by simp;omega);have s3:cY (gH _)=true:=u.Nj (λd m=>((h1 d).mp m).elim (r d) (q d)) l3;simp[eV,iU,listOf,s2,s3,un,zM]
theorem Iq(Rn:Nr ns):un (rows ns r) (rows ns q)=rows ns λa b=>r a b || q a b:=by
 obtain⟨u1,u2,u3⟩:=o3 cn (aY Rn).sub (aY Rn).sub;refine v8 cn u1 (aY Rn) λp=>?_;rw[u2,bI,bI,bI];constructor
 ·rintro(⟨a,b,rfl,ha,hb,h⟩|⟨a,b,rfl,ha,hb,h⟩)
  ·exact⟨a,b,rfl,ha,hb,by simp[h]⟩
  ·exact⟨a,b,rfl,ha,hb,by simp[h]⟩
 ·rintro⟨a,b,rfl,ha,hb,h⟩;simp at h;exact h.elim (λh=>.inl ⟨a,b,rfl,ha,hb,h⟩) λh=>.inr ⟨a,b,rfl,ha,hb,h⟩
def Gf(kd:Kd)(r:Rel):Rel:=λa b=>!decide (a=b)&&iI kd r a b
theorem Lz:rows ns (λa b=>r a b || Gf kd r a b)=rows ns (xY kd r):=tX λa ha b hb=>by
 unfold xY Gf;rw[(eF).iI ha hb];unfold dY;by_cases z:a=b
 ·simp[z]
 ·cases r a b<;>cases iI kd r a b<;>simp
abbrev Bb:MS:=cw 2 (ak fk (ae 2) (cx 1 (aX (ak cU (ae 0) (ai (.int 0)))) (aA 0) (nQ (bc (ak vm (ae 4) (ae 0))) (bz (af bZ (aa (ae 1) (aa (ae 2) (aa (ae 4) (aa (ae 0) ah))))))) (bL (aa (ae 4) (aa (ae 0) ah)))))
theorem Cu(Rn:Nr ns):∀{xs acc:UJ},(∀p∈xs,p∈ns)->acc.length+xs.length*12<=1000->∀a3:Option D,∃b3,dh (aA 3) Bb (xs.map D.dat) [some (.dat (bj ns r)),some (.dat (.str kd.nm)),some (.dat (.list acc)),a3] h=.ok (.nx [some (.dat (bj ns r)),some (.dat (.str kd.nm)),some (.dat (.list (acc++xs.flatMap λa=>(ns.filter (Gf kd r a)).map λb=>PyData.tuple [a,b]))),b3]) h
 | [],acc,_,_,a3=>⟨a3,by simp[dh]⟩
 |a::xs,acc,hs,hl,a3=>by
  have ha:=hs a (by simp);have ln:=Rn.le;simp only[QY]at hl
  have key:=jN (n:=1) (it:=aX (ak cU (ae 0) (ai (.int 0)))) (g:=aA 0) (t:=nQ (bc (ak vm (ae 4) (ae 0))) (bz (af bZ (aa (ae 1) (aa (ae 2) (aa (ae 4) (aa (ae 0) ah))))))) (e:=bL (aa (ae 4) (aa (ae 0) ah)))
   (ρ:=[some (.dat (bj ns r)),some (.dat (.str kd.nm)),some (.dat (.list acc)),some (.dat a)]) (h:=h) (h1:=h) (ds:=ns) (dN (aE (x:=.dat (bj ns r)) rfl (y:=.int 0) rfl rfl)) (by omega) (Gf kd r a) (λb=>.tuple [a,b]) (λb hb=>⟨_,rfl,
    Cp (cI (aE rfl rfl (tY (df Rn ha) (df Rn hb) (by have:=xT Rn ha;omega) h))) (dz (aI (xs:=[.dat (bj ns r),.dat (.str kd.nm),.dat a,.dat b]) rfl (wb Rn kd ha hb h))),λ_=>b9 rfl rfl⟩)
  have lf:((ns.filter (Gf kd r a)).map λb=>PyData.tuple [a,b]).length<=12:=by rw[QR];exact QM (RQ _ _) ln
  obtain⟨b3,ih⟩:=Cu Rn (h:=h) (xs:=xs) (acc:=acc++(ns.filter (Gf kd r a)).map λb=>PyData.tuple [a,b]) (λq m=>hs q (by simp[m])) (by rw[QW];omega) (some (.dat a));refine⟨b3,?_⟩;have st:Bb [some (.dat (bj ns r)),some (.dat (.str kd.nm)),some (.dat (.list acc)),some (.dat a)] h=.ok (.nx [some (.dat (bj ns r)),some (.dat (.str kd.nm)),some (.dat (.list (acc++(ns.filter (Gf kd r a)).map λb=>PyData.tuple [a,b]))),some (.dat a)]) h:=cS (aE rfl key (jP h (by omega)))
  simp_all[Q6,dh,aA,R.dD,R.aK,Sy,R8,st,ih]
theorem zH(Rn:Nr ns)(nl:ns.length<=7)(kd:Kd)(h:Hm):fA [.dat (bj ns r),.dat (.str kd.nm)] h=.ok (.dat (bj ns (xY kd r))) h:=by
 obtain⟨b3,lp⟩:=Cu Rn (acc:=[]) (λ_ m=>m) (by grind) none;have lr:∀r:Rel,(rows ns r).length<=49:=λr=>QM lU (Sg nl nl);have lr1:=lr r;have lr2:=lr (Gf kd r);have e:=Iq (r:=r) (q:=Gf kd r) Rn;rw[Lz]at e;have so:=DF cn (aY (r:=r) Rn).sub (aY (r:=Gf kd r) Rn).sub (by omega) (by grind) h;rw[e]at so;have lp':dh (aA 3) Bb (ns.map D.dat) [some (.dat (bj ns r)),some (.dat (.str kd.nm)),some (.dat (.list [])),none] h=.ok (.nx [some (.dat (bj ns r)),some (.dat (.str kd.nm)),some (.dat (.list (rows ns (Gf kd r)))),b3]) h:=lp
 exact iG rfl (ba (cS rfl) (ba (ky (dN (aE rfl rfl rfl)) lp') (fe (b9 (aE rfl rfl rfl)
  (aI (aw (aI (aw (aE (aI (aw (aE rfl rfl rfl) rfl) rfl) rfl (jP h (by omega))) rfl) so) rfl) rfl)))))
abbrev Bc:MS:=bx (cw 6 (bL (aa (ak cU (ae 3) (af aB (aa (ae 0) (aa (af ig (aa (ae 3) ah)) ah)))) (aa (ak cU (ae 3) (af aB (aa (ae 0) (aa (af ig (aa (ae 3) ah)) ah)))) ah))))
  (cw 4 (af gg (aa (ae 4) (aa (bL (aa (ae 6) ah)) ah))))
theorem Jl(b:Px i h)(hn:0<ns.length)(nl:ns.length<=12)(e0:ρ[0]?=some (some (.ref i)))(e3:ρ[3]?=some (some (.dat (.tuple ns)))):Dp i h (ak cU (ae 3) (af aB (aa (ae 0) (aa (af ig (aa (ae 3) ah)) ah))) ρ h) λd=>∃x,d=.dat x/\x∈ns:=by
 obtain⟨_,h2,e2,s2,k,rfl,hk⟩:=gr b (c:=(ns.length:Int)) (by omega) (by omega);obtain⟨x,ex,mx⟩:=rj (xs:=ns) (k:=k) (by omega);refine⟨.dat x,h2,?_,s2,x,rfl,mx⟩
 simp_all
theorem Cv(Rn:Nr ns)(nl:ns.length<=7)(hn:0<ns.length):∀{xs:List D} {q:Rel} {h:Hm},Px i h->∀a5 a6:Option D,Dp i h (dh (aA 5) Bc xs [some (.ref i),a1,a2,some (.dat (.tuple ns)),some (.dat (.tuple (rows ns q))),a5,a6] h) λf=>∃(q':Rel) (b5 b6:Option D),f=.nx [some (.ref i),a1,a2,some (.dat (.tuple ns)),some (.dat (.tuple (rows ns q'))),b5,b6]
 | [],q,h,b,a5,a6=>Dp.ok b ⟨q,a5,a6,rfl⟩
 |x::xs,q,h,b,a5,a6=>by
  obtain⟨_,h2,e2,s2,y,rfl,hy⟩:=Jl b hn Rn.le (ρ:=[some (.ref i),a1,a2,some (.dat (.tuple ns)),some (.dat (.tuple (rows ns q))),some x,a6]) rfl rfl;have b2:=s2.px b;obtain⟨_,h3,e3,s3,z,rfl,hz⟩:=Jl b2 hn Rn.le (ρ:=[some (.ref i),a1,a2,some (.dat (.tuple ns)),some (.dat (.tuple (rows ns q))),some x,a6]) rfl rfl;have b3:=s3.px b2;obtain⟨f,h4,e4,s4,k⟩:=Cv Rn nl hn (a1:=a1) (a2:=a2) (xs:=xs) (q:=Gu q y z) b3 (some x) (some (.dat (.tuple [y,z])));refine⟨f,h4,?_,(s2.trans s3).trans s4,k⟩;have t1:bL (aa (ae 6) ah) [some (.ref i),a1,a2,some (.dat (.tuple ns)),some (.dat (.tuple (rows ns q))),some x,some (.dat (.tuple [y,z]))] h3=.ok (.dat (.tuple [.tuple [y,z]])) h3:=(cf (f:=kM) (aw (x:=.dat (.tuple [y,z])) rfl rfl)).trans (Lh _ h3)
  have st:Bc [some (.ref i),a1,a2,some (.dat (.tuple ns)),some (.dat (.tuple (rows ns q))),some x,a6] h=.ok (.nx [some (.ref i),a1,a2,some (.dat (.tuple ns)),some (.dat (.tuple (rows ns (Gu q y z)))),some x,some (.dat (.tuple [y,z]))]) h3:=
   ba (cS (b9 e2 e3)) (cS (aI (aw (x:=.dat (.tuple (rows ns q))) rfl (aw t1 rfl)) (DD Rn hy hz nl h3)))
  simp only[dh,aA,R.dD,R.aK,Sy,R8];rw[st];simp only[R.dD,R.aK];exact e4
theorem Cw(b:Px i h)(Rn:Nr ns)(nl:ns.length<=7){m:Nat}(hm:m<=100):Dp i h (dU [.ref i,.dat (bj ns r),.int (m:Int)] h) λd=>∃q:Rel,d=.dat (bj ns q):=by
 obtain⟨_,h2,e2,s2,k,rfl,hk⟩:=gr b (c:=(m:Int)+1) (by omega) (by omega);have b2:=s2.px b;have t0:aj (.tuple ns)=true:=by simp only[aj];exact gA.xX Rn.sub
 have ne:vm (.dat (.tuple ns)) (.dat (.tuple [])) h2=.ok (.bool !(decide (PyData.tuple ns=.tuple []))) h2:=tY t0 rfl (QM (Nat.min_le_right _ _) (by decide)) h2
 have ev:ak nY (af aB (aa (ae 0) (aa (ak fk (ae 2) (ai (.int 1))) ah))) (af rT (aa (ak vm (ae 3) (ai (.tuple []))) ah)) [some (.ref i),some (.dat (bj ns r)),some (.int (m:Int)),some (.dat (.tuple ns)),some (.dat (.tuple (rows ns r))),none,none] h=.ok (.int ((k:Int)*(if ns=[]then 0 else 1))) h2:=by
  have bi:af rT (aa (ak vm (ae 3) (ai (.tuple []))) ah) [some (.ref i),some (.dat (bj ns r)),some (.int (m:Int)),some (.dat (.tuple ns)),some (.dat (.tuple (rows ns r))),none,none] h2=.ok (.int (if ns=[]then 0 else 1)) h2:=by
   refine(cf (aw (aE (x:=.dat (.tuple ns)) rfl (y:=.dat (.tuple [])) rfl ne) rfl)).trans ?_;by_cases z:ns=[]
   ·simp[z,rT]
   ·simp[z,rT]
  refine aE (aI (xs:=[.ref i,.int ((m:Int)+1)]) rfl e2) bi (o6 ?_ ?_ h2)
  ·split<;>decide
  ·split<;>decide
 have fin:∀(n:Nat) (h3:Hm) (q:Rel) (b5 b6:Option D),ak nY (af aB (aa (ae 0) (aa (ak fk (ae 2) (ai (.int 1))) ah))) (af rT (aa (ak vm (ae 3) (ai (.tuple []))) ah)) [some (.ref i),some (.dat (bj ns r)),some (.int (m:Int)),some (.dat (.tuple ns)),some (.dat (.tuple (rows ns r))),none,none] h=.ok (.int (n:Int)) h2->n<1000 ->
   dh (aA 5) Bc (nums 0 n) [some (.ref i),some (.dat (bj ns r)),some (.int (m:Int)),some (.dat (.tuple ns)),some (.dat (.tuple (rows ns r))),none,none] h2=.ok (.nx [some (.ref i),some (.dat (bj ns r)),some (.int (m:Int)),some (.dat (.tuple ns)),some (.dat (.tuple (rows ns q))),b5,b6]) h3->dU [.ref i,.dat (bj ns r),.int (m:Int)] h=.ok (.dat (bj ns q)) h3:=λn h3 q b5 b6 en hn lp=>
  iG rfl (ba (ua (x:=.dat (bj ns r)) rfl rfl) (ba (ky (zx (aw en rfl) (by omega)) lp) (fe (b9 (a:=.tuple ns) rfl rfl))))
 by_cases z:ns=[]
 ·rw[if_pos z,Int.mul_zero]at ev;exact⟨_,h2,fin 0 h2 r none none ev (by decide) rfl,s2,r,rfl⟩
 ·rw[if_neg z,Int.mul_one]at ev;obtain⟨_,h3,e3,s3,q,b5,b6,rfl⟩:=Cv Rn nl (List.length_pos_iff.mpr z) (a1:=some (.dat (bj ns r))) (a2:=some (.int (m:Int))) (xs:=nums 0 k) (q:=r) b2 none none;exact⟨_,h3,fin k h3 q b5 b6 ev (by omega) e3,s2.trans s3,q,rfl⟩
end
theorem Ir:rows ns (λ_ _=>false)=[]:=List.eq_nil_iff_forall_not_mem.mpr λp m=>by obtain⟨a,b,_,_,_,h⟩:=bI.mp m;cases h
theorem LA(e:ma ρ h=.ok xs h1)(hz:xs.length<=1000):uG ma ρ h=.ok (.ref h1.length) (h1++[.lst xs]):=(cf e).trans (by simp[Bu,sz (show xs.length<=16777216 by omega)])
theorem LB{h h2:Hm}(l:h2.length=h.length)(ea:a ρ (h++[.lst xs])=.ok (.ref h.length) (h++[.lst xs]))(eb:b ρ (h++[.lst xs])=.ok y (h2++[.lst xs]))(hz:xs.length<=1000):oB fZ a b ρ (h++[.lst xs])=.ok D.none (h2++[.lst (xs++[y])]):=by
 have g:(h++[MO.lst xs])[h.length]?=some (.lst xs):=by simp
 have g2:(h2++[MO.lst xs])[h.length]?=some (.lst xs):=by rw[<- l];simp
 have c:decide (xs.length<16777216)=true:=Rg (by omega);simp only[oB,ea,R.aK,KU,g,Rr,eb,fZ,g2,c];rw[<- l,T8 _ _ (QE _)];simp
theorem Iu{h:Hm}{ds:UJ}(l:h.length=L)(hk:k<ds.length):∃x,cU (.ref L) (.int (k:Int)) (h++[.lst (ds.map D.dat)])=.ok (.dat x) (h++[.lst (ds.map D.dat)])/\x∈ds:=by
 obtain⟨x,ex,mx⟩:=rj (xs:=ds) (k:=k) hk;have g:(h++[MO.lst (ds.map D.dat)])[L]?=some (.lst (ds.map D.dat)):=by rw[<- l];simp
 have am:nh (ds.map D.dat) (k:Int)=some (.dat x):=by rw[qY,ex];rfl
 simp_all[cU,iP,g,uJ,am]
theorem LC(b:Px i h){m:Nat}(hm:m<=7):Dp i h (iw [.ref i,.int (m:Int)] h) λd=>∃(ns:UJ) (r q:Rel),d=.dat (.tuple [bj ns r,bj ns q])/\Nr ns/\ns.length<=m:=by
 obtain⟨_,h1,e1,s1,ns,r0,rfl,rn,ln⟩:=F9 b (m:=m) (by omega);have b1:=s1.px b;have nl:ns.length<=7:=by omega
 obtain⟨_,h2,e2,s2,r,rfl⟩:=qb b1 (r:=r0) rn nl;have b2:=s2.px b1;obtain⟨_,h3,e3,s3,u,rfl,hu⟩:=gr b2 (c:=5) (by decide) (by decide);have b3:=s3.px b2;obtain⟨kx,ek,mk⟩:=rj (xs:=Ly) (k:=u) (by simp[Ly];omega);obtain⟨kd,rfl⟩:=Gd mk;obtain⟨_,h4,e4,s4,q1,rfl⟩:=Cw b3 (r:=r) rn nl (m:=1) (by decide);have b4:=s4.px b3;obtain⟨_,h5,e5,s5,q2,rfl⟩:=Cw b4 (r:=r) rn nl (m:=3) (by decide);have b5:=s5.px b4;have k6:=Ba (r:=r) rn kd b5.wf;have k7:=zH (r:=r) rn nl kd h5;generalize hL:[bj ns q1,bj ns q2,bj ns (dY kd r),bj ns (xY kd r)]=L4;have b6:Px i (h5++[.lst (L4.map D.dat)]):=b5.push (kz _ _);obtain⟨_,h7',e7,s7',q5,rfl⟩:=qb b6 (r:=λ_ _=>false) rn nl;obtain⟨h7,rfl,s7⟩:=s7'.pop b5.lt;have b7:=s7.px b5;have b8:Px i (h7++[.lst ((L4++[bj ns q5]).map D.dat)]):=b7.push (kz _ _);obtain⟨_,h9',e9,s9',v,rfl,hv⟩:=gr b8 (c:=5) (by decide) (by decide);obtain⟨h9,rfl,s9⟩:=s9'.pop b7.lt;have sAll:=((((((s1.trans s2).trans s3).trans s4).trans s5).trans s7).trans s9);have l4:L4.length=4:=by rw[<- hL];rfl
 obtain⟨x,ex,mx⟩:=Iu (h:=h9) (L:=h5.length) (k:=v) (ds:=L4++[bj ns q5]) (by rw[s9.len,s7.len]) (by rw[QW,l4];simp;omega);obtain⟨q,rfl⟩:∃q,x=bj ns q:=by rw[<- hL]at mx;simp only[QN,QK,Ra,Su]at mx;rcases mx with(rfl|rfl|rfl|rfl)|rfl<;>exact⟨_,rfl⟩
 refine⟨.dat (.tuple [bj ns r,bj ns q]),h9,zG (t:=[.lst ((L4++[bj ns q5]).map D.dat)]) b ?_ sAll,sAll,ns,r,q,rfl,rn,ln⟩
 have t1:cw 3 (ak cU (af bQ ah) (af aB (aa (ae 0) (aa (ai (.int 5)) ah)))) [some (.ref i),some (.int (m:Int)),some (.dat (bj ns r)),none,none] h2=.ok (.nx [some (.ref i),some (.int (m:Int)),some (.dat (bj ns r)),some (.dat (.str kd.nm)),none]) h3:=
  cS (aE (x:=.dat (.list Ly)) rfl (aI (xs:=[.ref i,.int 5]) rfl e3) (by simp only[cU,iP,uJ,ek]))
 have t2:cw 4 (uG (aa (af dU (aa (ae 0) (aa (ae 2) (aa (ai (.int 1)) ah)))) (aa (af dU (aa (ae 0) (aa (ae 2) (aa (ai (.int 3)) ah)))) (aa (af gf (aa (ae 2) (aa (ae 3) ah))) (aa (af fA (aa (ae 2) (aa (ae 3) ah))) ah))))) [some (.ref i),some (.int (m:Int)),some (.dat (bj ns r)),some (.dat (.str kd.nm)),none] h3=.ok (.nx [some (.ref i),some (.int (m:Int)),some (.dat (bj ns r)),some (.dat (.str kd.nm)),some (.ref h5.length)]) (h5++[.lst (L4.map D.dat)]):=by rw[<- hL];exact cS (LA (aw (aI (xs:=[.ref i,.dat (bj ns r),.int 1]) rfl e4) (aw (aI (xs:=[.ref i,.dat (bj ns r),.int 3]) rfl e5) (aw (aI (xs:=[.dat (bj ns r),.dat (.str kd.nm)]) rfl k6) (aw (aI (xs:=[.dat (bj ns r),.dat (.str kd.nm)]) rfl k7) rfl)))) (by simp))
 have w0:bL (aa (ak cU (ae 2) (ai (.int 0))) (aa (ai (.tuple [])) ah)) [some (.ref i),some (.int (m:Int)),some (.dat (bj ns r)),some (.dat (.str kd.nm)),some (.ref h5.length)] (h5++[.lst (L4.map D.dat)])=.ok (.dat (bj ns λ_ _=>false)) (h5++[.lst (L4.map D.dat)]):=by rw[show bj ns (λ_ _=>false)=PyData.tuple [.tuple ns,.tuple []]by simp only[bj,Ir]];exact b9 (a:=.tuple ns) (aE (x:=.dat (bj ns r)) rfl (y:=.int 0) rfl rfl) rfl
 have t3:oB fZ (ae 4) (bL (aa (ak cU (ae 2) (ai (.int 0))) (aa (ak cU (af cK (aa (ae 0) (aa (bL (aa (ak cU (ae 2) (ai (.int 0))) (aa (ai (.tuple [])) ah))) ah))) (ai (.int 1))) ah))) [some (.ref i),some (.int (m:Int)),some (.dat (bj ns r)),some (.dat (.str kd.nm)),some (.ref h5.length)] (h5++[.lst (L4.map D.dat)])=.ok D.none (h7++[.lst (L4.map D.dat++[.dat (bj ns q5)])]):=
  LB s7.len rfl (b9 (a:=.tuple ns) (aE (x:=.dat (bj ns r)) rfl (y:=.int 0) rfl rfl) (aE (aI (aw (x:=.ref i) rfl (aw w0 rfl)) e7) (y:=.int 1) rfl rfl)) (by rw[QR,l4];decide)
 have em:L4.map D.dat++[.dat (bj ns q5)]=(L4++[bj ns q5]).map D.dat:=by simp
 rw[em]at t3;exact iG rfl (ba (cS (aI (aw (x:=.ref i) rfl (aw (aI (xs:=[.ref i,.int (m:Int)]) rfl e1) rfl)) e2)) (ba t1 (ba t2 (ba (kB t3) (fe (b9 (a:=bj ns r) rfl (aE (x:=.ref h5.length) rfl (aI (xs:=[.ref i,.int 5]) rfl e9) ex)))))))
def DH(n:UJ)(r:Rel):Rel:=λa b=>decide (a∈n)&&decide (b∈n)&&r a b
def jn(n1:UJ)(r:Rel)(n2:UJ)(p:Rel):Rel:=λa b=>DH n1 r a b || DH n2 p a b
section
variable {n1 n2 ns:UJ} {r q p:Rel} {a b:PyData} {kd:Kd}
theorem xV:DH ns r a b=true<->a∈ns/\b∈ns/\r a b=true:=by simp[DH,and_assoc]
theorem uh(ha:a∈ns)(hb:b∈ns):DH ns r a b=r a b:=by simp[DH,ha,hb]
theorem Jm(R1:Nr n1)(R2:Nr n2)(hl:(un n1 n2).length<=12):Nr (un n1 n2):=⟨(o3 gA R1.sub R2.sub).1,hl⟩
theorem ui(R1:Nr n1)(R2:Nr n2):d∈un n1 n2<->d∈n1\/d∈n2:=(o3 gA R1.sub R2.sub).2.1 d
theorem Iv(R1:Nr n1)(R2:Nr n2)(hl:(un n1 n2).length<=12):un (rows n1 r) (rows n2 p)=rows (un n1 n2) (jn n1 r n2 p):=by
 obtain⟨u1,u2,u3⟩:=o3 cn (aY R1).sub (aY R2).sub;refine v8 cn u1 (aY (Jm R1 R2 hl)) λd=>?_;rw[u2,bI,bI,bI];constructor
 ·rintro(⟨a,b,rfl,ha,hb,h⟩|⟨a,b,rfl,ha,hb,h⟩)
  ·exact⟨a,b,rfl,(ui R1 R2).mpr (.inl ha),(ui R1 R2).mpr (.inl hb),by simp[jn,DH,ha,hb,h]⟩
  ·exact⟨a,b,rfl,(ui R1 R2).mpr (.inr ha),(ui R1 R2).mpr (.inr hb),by simp[jn,DH,ha,hb,h]⟩
 ·rintro⟨a,b,rfl,ha,hb,h⟩;simp[jn,xV]at h;rcases h with⟨x,y,z⟩|⟨x,y,z⟩
  ·exact .inl ⟨a,b,rfl,x,y,z⟩
  ·exact .inr ⟨a,b,rfl,x,y,z⟩
theorem xW(R1:Nr n1)(R2:Nr n2)(hl:(un n1 n2).length<=12)(hk:n1.length*n1.length+n2.length*n2.length<64)(h:Hm):bg [.dat (bj n1 r),.dat (bj n2 p)] h=.ok (.dat (bj (un n1 n2) (jn n1 r n2 p))) h:=by
 have:=Lo (o4 (r:=r) R1 (QE _)) (o4 (r:=p) R2 (QE _)) hk hl h
 simp_all[Iv]
theorem Kd.mono(hx:x=true->x'=true)(hy:y=true->y'=true)(hz:z=true->z'=true)(h:kd.I x' y' z'=false):kd.I x y z=false:=by cases kd<;>cases x<;>cases y<;>cases z<;>cases x'<;>cases y'<;>cases z'<;>simp_all[Kd.I]
theorem zI(hs:∀a b,r a b=true->q a b=true)(h:iI kd q a b=false):iI kd r a b=false:=Kd.mono (hs a a) (hs b b) (hs b a) h
theorem Cy(ha:a∈ns)(hb:b∈ns):iI kd (DH ns r) a b=iI kd r a b:=by
 simp_all[iI,uh]
theorem Iw(h:DH n1 r a b=true):jn n1 r n2 p a b=true:=by simp[jn,h]
theorem Gg(h:DH n2 p a b=true):jn n1 r n2 p a b=true:=by simp[jn,h]
theorem zJ(ha:a∈n1)(hb:b∈n1)(h:iI kd (jn n1 r n2 p) a b=false):iI kd r a b=false:=by rw[<- Cy ha hb];exact zI (λa b=>Iw) h
theorem DJ(ha:a∈n2)(hb:b∈n2)(h:iI kd (jn n1 r n2 p) a b=false):iI kd p a b=false:=by rw[<- Cy ha hb];exact zI (λa b=>Gg) h
theorem qN.jn(A:qN n1 kd r q):qN ns kd (jn n1 r n2 p) (jn n1 q n2 p):=λa _ b _ h=>by
 unfold Ml.jn;congr 1;by_cases z:a∈n1/\b∈n1
 ·rw[uh z.1 z.2,uh z.1 z.2];exact A a z.1 b z.2 (h.imp id λh=>zJ z.1 z.2 h)
 ·have:∀r:Rel,DH n1 r a b=false:=λr=>by
   cases e:DH n1 r a b with
   |false=>rfl
   |true=>exact absurd (xV.mp e) λw=>z ⟨w.1,w.2.1⟩
  grind
theorem Cz(h:∀a∈ns,∀b∈ns,dY kd r a b=dY kd q a b):qN ns kd r q:=λa ha b hb z=>by
 have i1:iI kd q a b=iI kd r a b:=by
  rw[<- (eF).iI ha hb,<- (eF (r:=r)).iI ha hb]
  simp_all[iI]
 have k1:=eF a ha b hb z;have k2:=eF (r:=q) (kd:=kd) a ha b hb (z.imp id λz=>by grind)
 grind
theorem Iy(R1:Nr n1):un n1 n1=n1:=v8 gA (o3 gA R1.sub R1.sub).1 R1.toRw λd=>by simp[ui,R1]
theorem Gh(R1:Nr n1)(R2:Nr n2):(un n1 n2).length<=n1.length+n2.length:=(o3 gA R1.sub R2.sub).2.2
theorem qN.or(A:qN ns kd r q)(B:qN ns kd r p):qN ns kd r (Ml.jn ns q ns p):=λa ha b hb z=>by unfold Ml.jn;rw[uh ha hb,uh ha hb,A a ha b hb z,B a ha b hb z,Bool.or_self]
theorem LD(ha:a∈un n1 n2)(hb:b∈un n1 n2)(h:dY kd (Ml.jn n1 r n2 p) a b=true):Ml.jn n1 (dY kd r) n2 (dY kd p) a b=true:=by
 unfold dY at h;simp at h;obtain⟨h1,h2⟩:=h;simp[Ml.jn,xV]at h1 ⊢;rcases h1 with⟨x,y,z⟩|⟨x,y,z⟩
 ·refine .inl ⟨x,y,?_⟩;rw[eF a x b y (h2.imp id λh=>zJ x y h)];exact z
 ·refine .inr ⟨x,y,?_⟩;rw[eF a x b y (h2.imp id λh=>DJ x y h)];exact z
theorem mE(Rn:Nr ns)(A:qN ns kd r q)(h:Hm):bC [.dat (bj ns q),.dat (bj ns r),.dat (.str kd.nm)] h=.ok (.bool true) h:=by
 have:=ud (r:=q) (q:=r) Rn Rn kd h
 rwa [Rg (show bj ns _=bj ns _ by simp[A.zF])]at this
end
theorem Gi(a b:Bool)(h:Hm):vm (.bool a) (.bool b) h=.ok (.bool (a != b)) h:=by rfl
theorem Bd(I:Fm->Prop):∀{ds:UJ} {h:Hm} {ρ:Fm},Px i h->(∀d∈ds,∀ρ h,Px i h->I ρ->∃ρ1 ρ2 h2,g (.dat d) ρ h=.ok ρ1 h/\b ρ1 h=.ok (.nx ρ2) h2/\Ps i h h2/\I ρ2)->I ρ->∃ρ' h',dh g b (ds.map D.dat) ρ h=.ok (.nx ρ') h'/\Ps i h h'/\I ρ'
 | [],h,ρ,p,_,a=>⟨ρ,h,rfl,p.refl,a⟩
 |d::ds,h,ρ,p,H,a=>by
  obtain⟨ρ1,ρ2,h2,e1,e2,s2,a2⟩:=H d (by simp) ρ h p a;obtain⟨ρ',h',e3,s3,a3⟩:=Bd I (ds:=ds) (s2.px p) (λx m=>H x (by simp[m])) a2;refine⟨ρ',h',?_,s2.trans s3,a3⟩
  simp_all[dh]
theorem Gj(ns:List Int)(hi:Int)(e0:ρ[0]?=some (some (.scr ns)))(hn:ns.length<=63)(h:Hm):∃ds:UJ,aX (ak fk (Ep (aa (af ff (aa (ae 0) (aa (ai (.int 0)) ah))) ah)) (Fi (ae 0) (mS (ai (.int 1))) (mS (ai (.int hi))))) ρ h=.ok (ds.map D.dat) h/\∀d∈ds,∃z:Int,d=.int z:=by
 obtain⟨z,ez⟩:=Ii ns 0 h;have ev:ae 0 ρ h=.ok (.scr ns) h:=by simp[ae,e0]
 have l1:Ep (aa (af ff (aa (ae 0) (aa (ai (.int 0)) ah))) ah) ρ h=.ok (.dat (.list [.int z])) h:=(cf (f:=ie) (aw (aI (aw ev (aw (x:=.int 0) rfl rfl)) ez) rfl)).trans (Lk _ h);have l2:Fi (ae 0) (mS (ai (.int 1))) (mS (ai (.int hi))) ρ h=.ok (.dat (.list (cut (ns.map PyData.int) (some 1) (some hi)))) h:=by unfold Fi;rw[ev];rfl
 have lc:(cut (ns.map PyData.int) (some 1) (some hi)).length<=63:=by unfold cut;rw[Uy,Uz,QR];omega
 refine⟨.int z::cut (ns.map PyData.int) (some 1) (some hi),Cg (aE l1 l2 (jP h (by simp;omega))),λd m=>?_⟩;rcases QK.mp m with rfl|m
 ·exact⟨z,rfl⟩
 ·obtain⟨k,_,rfl⟩:=Q4.mp (BQ m);exact⟨k,rfl⟩
theorem zK(I:Fm->Prop){ds:UJ}(hd:∀d∈ds,∃z:Int,d=.int z)(H:∀(z:Int) ρ h,Wf h->I ρ->∃ρ1 ρ2 h2,g (.int z) ρ h=.ok ρ1 h/\b ρ1 h=.ok (.nx ρ2) h2/\Wf h2/\I ρ2):∀{h:Hm} {ρ:Fm},Wf h->I ρ->∃ρ' h',dh g b (ds.map D.dat) ρ h=.ok (.nx ρ') h'/\I ρ':=by
 induction ds with
 |nil=>exact λ{h ρ} w a=>⟨ρ,h,rfl,a⟩
 |cons d ds ih=>intro h ρ w a;obtain⟨z,rfl⟩:=hd d (by simp);obtain⟨ρ1,ρ2,h2,e1,e2,w2,a2⟩:=H z ρ h w a;obtain⟨ρ',h',e3,a3⟩:=ih (λx m=>hd x (by simp[m])) w2 a2;refine⟨ρ',h',?_,a3⟩;simp only[Q6];unfold dh;rw[e1];simp only[R.dD,R.aK];rw[e2];simp only[R.dD,R.aK];exact e3
section
variable {ns n2:UJ} {r q p nq:Rel} {kd:Kd} {i:Nat}
abbrev Pz:MT:=um (bc (ak nv (ae 0) (ak cU (ae 2) (ai (.int 1))))) (bc (ak oEq (af aB (aa (ae 1) (aa (ai (.int 2)) ah))) (ai (.int 0))))
abbrev F8(i:Nat)(ns:UJ)(r q:Rel)(kd:Kd)(a4 a5 a6 a7:Option D):Fm:=[some (.ref i),some (.dat (bj ns r)),some (.dat (bj ns q)),some (.dat (.str kd.nm)),a4,a5,a6,a7]
theorem Iz(b:Px i h)(Rn:Nr ns):Dp i h (cx 1 (aX (ak cU (af g9 (aa (ae 1) (aa (ae 3) ah))) (ai (.int 1)))) (aA 0) Pz (ae 0) (F8 i ns r q kd none none none none) h) λd=>∃nq:Rel,d=.dat (.list (rows ns nq))/\qN ns kd r nq:=by
 have lf:=mD (r:=xY kd r) Rn.le
 obtain⟨zs,h',q1,q2,q3,q4⟩:=ug (i:=i) (n:=1) (ρ:=F8 i ns r q kd none none none none) (g:=aA 0) (t:=Pz) (e:=ae 0) (λd=>decide (d∈rows ns r)) (ds:=rows ns (xY kd r)) b (λd hd h1 b1=>by
  have e1:bc (ak nv (ae 0) (ak cU (ae 2) (ai (.int 1)))) (some (.dat d)::F8 i ns r q kd none none none none) h1=.ok (decide (d∈rows ns r)) h1:=cI (aE rfl (aE (x:=.dat (bj ns r)) rfl (y:=.int 1) rfl rfl) (Cn (aM (t9 cn (aY Rn)) hd) (t9 cn (aY Rn)) (xP cn (aY Rn)) h1));by_cases z:d∈rows ns r
  ·rw[Rg z]at e1;exact⟨some (.dat d)::F8 i ns r q kd none none none none,true,h1,rfl,Lu e1,b1.refl,λ_=>rfl,λ_=>rfl⟩
  ·rw[Rm z]at e1;obtain⟨_,h2,e2,s2,k,rfl,hk⟩:=gr b1 (c:=2) (by decide) (by decide)
   exact⟨some (.dat d)::F8 i ns r q kd none none none none,decide ((k:Int)=0),h2,rfl,A6 e1 (cI (aE (aI (xs:=[.ref i,.int 2]) rfl e2) rfl (rB h2))),s2,λw=>absurd (RZ w) z,λ_=>rfl⟩)
 have lz:=q3.length_le;have ez:=Gb Rn q3;refine⟨.dat (.list zs),h',?_,q2,zy zs,by rw[<- ez],Lv (λa ha b hb k=>?_) λa ha b hb k=>?_⟩
 ·unfold cx;refine aI (xs:=zs.map D.dat) (h1:=h') ?_ (dC _ h' (by omega));unfold kP;rw[dN (ds:=rows ns (xY kd r)) (h1:=h) (aE (aI (xs:=[.dat (bj ns r),.dat (.str kd.nm)]) rfl (uc Rn kd h)) (y:=.int 1) rfl rfl)];simp only[R.aK,QR,sz (show(rows ns (xY kd r)).length<=16777216 by omega),Rr];exact q1
 ·exact Rg (q4 _ (cR.mpr ⟨ha,hb,Im ha hb (Cs k)⟩) (Rg (cR.mpr ⟨ha,hb,Cs k⟩)))
 ·exact(cR.mp (q3.subset (RZ k))).2.2
theorem IA(b:Px i h)(Rn:Nr ns)(nl:ns.length<=5):Dp i h (et [.ref i,.dat (bj ns r),.dat (bj ns q),.dat (.str kd.nm)] h) λd=>d=.bool true:=by
 obtain⟨_,h1,e1,s1,nq,rfl,A⟩:=Iz (r:=r) (q:=q) (kd:=kd) b Rn;have b1:=s1.px b;obtain⟨_,h2,e2,s2,n2,p0,rfl,R2,l2⟩:=F9 b1 (m:=4) (by decide);have b2:=s2.px b1;obtain⟨_,h3,e3,s3,p,rfl⟩:=qb b2 (r:=p0) R2 (by omega);have hu:=Gh Rn R2;have hu':=Gh Rn Rn;have m1:ns.length*ns.length<=25:=Sg nl nl;have m2:n2.length*n2.length<=16:=Sg l2 l2;have Ru:=Jm Rn R2 (by omega);have tg:∀r:Rel,bg [.dat (bj ns r),.dat (bj n2 p)] h3=.ok (.dat (bj (un ns n2) (jn ns r n2 p))) h3:=λr=>xW Rn R2 (by omega) (by omega) h3
 have tgs:∀r q:Rel,bg [.dat (bj ns r),.dat (bj ns q)] h3=.ok (.dat (bj ns (jn ns r ns q))) h3:=λr q=>by
  have:=xW (r:=r) (p:=q) Rn Rn (by omega) (by omega) h3
  rwa [Iy Rn]at this
 have al1:=mE Rn A h3;have aln:=ud (r:=nq) (q:=q) Rn Rn kd h3;have alo:=ud (r:=r) (q:=q) Rn Rn kd h3;rw[show bj ns (dY kd nq)=bj ns (dY kd r)by simp only[bj,A.zF]]at aln;generalize hF:F8 i ns r q kd (some (.dat (bj ns nq))) (some (.dat (bj ns (dY kd r)))) (some (.dat (bj n2 p))) none=F;have v:∀(n:Nat) (d:D),F[n]?=some (some d)->ae n F h3=.ok d h3:=λn d e=>by simp only[ae,e]
 have v1:=v 1 (.dat (bj ns r)) (by rw[<- hF];rfl);have v2:=v 2 (.dat (bj ns q)) (by rw[<- hF];rfl);have v3:=v 3 (.dat (.str kd.nm)) (by rw[<- hF];rfl);have v4:=v 4 (.dat (bj ns nq)) (by rw[<- hF];rfl);have v5:=v 5 (.dat (bj ns (dY kd r))) (by rw[<- hF];rfl);have v6:=v 6 (.dat (bj n2 p)) (by rw[<- hF];rfl);have nn:ah F h3=.ok [] h3:=rfl;have c3:∀{f:Fn} {a b c:ME} {x y z:D} {d:D},a F h3=.ok x h3->b F h3=.ok y h3->c F h3=.ok z h3->f [x,y,z] h3=.ok d h3->af f (aa a (aa b (aa c ah))) F h3=.ok d h3:=λea eb ec k=>aI (aw ea (aw eb (aw ec nn))) k;have c2:∀{f:Fn} {a b:ME} {x y:D} {d:D},a F h3=.ok x h3->b F h3=.ok y h3->f [x,y] h3=.ok d h3->af f (aa a (aa b ah)) F h3=.ok d h3:=λea eb k=>aI (aw ea (aw eb nn)) k
 have s4:cw 4 (bL (aa (ak cU (ae 1) (ai (.int 0))) (aa (af dF (aa (cx 1 (aX (ak cU (af g9 (aa (ae 1) (aa (ae 3) ah))) (ai (.int 1)))) (aA 0) Pz (ae 0)) ah)) ah))) (F8 i ns r q kd none none none none) h=.ok (.nx (F8 i ns r q kd (some (.dat (bj ns nq))) none none none)) h1:=
  cS (b9 (a:=.tuple ns) (aE (x:=.dat (bj ns r)) rfl (y:=.int 0) rfl rfl) (aI (aw e1 rfl) (d:=.dat (.tuple (rows ns nq))) rfl))
 have s5:uH [5,6] (aa (af fz (aa (ae 1) (aa (ae 3) ah))) (aa (af cK (aa (ae 0) (aa (af iu (aa (ae 0) (aa (ai (.int 4)) ah))) ah))) ah)) (F8 i ns r q kd (some (.dat (bj ns nq))) none none none) h1=.ok (.nx F) h3:=by rw[<- hF];unfold uH;rw[aw (aI (xs:=[.dat (bj ns r),.dat (.str kd.nm)]) rfl (hG Rn kd h1)) (aw (aI (aw (x:=.ref i) rfl (aw (aI (xs:=[.ref i,.int 4]) rfl e2) rfl)) e3) rfl)];rfl
 have i1:=zE (a:=bS (ai (.bool false))) (b:=cL) (r:=.ok (.nx F) h3) (A6 (gY (dz (c3 v4 v1 v3 al1))) (cI (aE (c3 v4 v2 v3 aln) (c3 v1 v2 v3 alo) (f:=vm) (by rw[Gi];simp)))) rfl;have i2:=zE (a:=bS (ai (.bool false))) (b:=cL) (r:=.ok (.nx F) h3) (gY (dz (c3 (c2 v4 v6 (tg nq)) (c2 v1 v6 (tg r)) v3 (mE Ru A.jn h3)))) rfl;have kA:qN (un ns n2) kd (jn ns (xY kd r) n2 p) (jn ns (dY kd r) n2 p):=Cz λa ha b hb=>by rw[(qN.jn (ns:=un ns n2) Cr).dY ha hb,(qN.jn (ns:=un ns n2) eF).dY ha hb]
 have i3:=zE (a:=bS (ai (.bool false))) (b:=cL) (r:=.ok (.nx F) h3) (gY (dz (c3 (c2 v5 v6 (tg (dY kd r))) (c2 (c2 v1 v3 (uc Rn kd h3)) v6 (tg (xY kd r))) v3 (mE Ru kA h3)))) rfl
 have i4:o8 (nQ (bz (af bC (aa (ae 1) (aa (ae 2) (aa (ae 3) ah))))) (fO (bz (af bC (aa (af bg (aa (ae 1) (aa (ae 6) ah))) (aa (af bg (aa (ae 2) (aa (ae 6) ah))) (aa (ae 3) ah))))))) (bS (ai (.bool false))) cL F h3=.ok (.nx F) h3:=by
  by_cases z:bj ns (dY kd r)=bj ns (dY kd q)
  ·have B:qN ns kd q r:=Cz λa ha b hb=>(FV (by simpa [bj]using z) ha hb).symm;rw[Rg z]at alo;refine zE ?_ rfl;simp only[nQ,dz (c3 v1 v2 v3 alo),R.aK,Rr];exact gY (dz (c3 (c2 v1 v6 (tg r)) (c2 v2 v6 (tg q)) v3 (mE Ru B.jn h3)))
  ·rw[Rm z]at alo;refine zE (h1:=h3) ?_ rfl;simp only[nQ,dz (c3 v1 v2 v3 alo),R.aK,QO,Rx]
 have i5:=zE (a:=bS (ai (.bool false))) (b:=cL) (r:=.ok (.nx F) h3) (A6 (gY (dz (c3 (c2 v4 v1 (tgs nq r)) v1 v3 (mE Rn (A.or qN.self) h3)))) (gY (dz (c3 (c2 v4 v5 (tgs nq (dY kd r))) v1 v3 (mE Rn (A.or eF) h3))))) rfl;have s7:=cS (i:=7) (aE (c2 (c2 v1 v6 (tg r)) v3 (hG Ru kd h3)) (b:=ai (.int 1)) (y:=.int 1) rfl (f:=cU) (r:=.ok (.dat (.tuple (rows (un ns n2) (dY kd (jn ns r n2 p))))) h3) rfl);have lu:=mD (r:=dY kd (jn ns r n2 p)) Ru.le
 have wi:=DC (t9 cn (aY (r:=dY kd (jn ns r n2 p)) Ru)) (t9 cn (aY (r:=jn ns (dY kd r) n2 (dY kd p)) Ru)) (xP cn (aY Ru)) (by omega) (λd m=>by
  obtain⟨a,b,rfl,ha,hb,k⟩:=bI.mp m
  exact cR.mpr ⟨ha,hb,LD ha hb k⟩) h3
 have tk:bg [.dat (bj ns (dY kd r)),.dat (bj n2 (dY kd p))] h3=.ok (.dat (bj (un ns n2) (jn ns (dY kd r) n2 (dY kd p)))) h3:=xW Rn R2 (by omega) (by omega) h3;refine⟨_,h3,?_,(s1.trans s2).trans s3,rfl⟩;refine iG rfl (ba s4 (ba s5 (ba i1 (ba i2 (ba i3 (ba i4 (ba i5 (ba s7 (fe ?_)))))))));rw[<- hF];exact aI (aw (x:=.dat (.tuple (rows (un ns n2) (dY kd (jn ns r n2 p))))) rfl (aw (aE (aI (aw (x:=.dat (bj ns (dY kd r))) rfl (aw (aI (xs:=[.dat (bj n2 p),.dat (.str kd.nm)]) rfl (hG R2 kd h3)) rfl)) tk) (y:=.int 1) rfl rfl) rfl)) wi
end
theorem Gk:∀ns:List Int,ns.length<=63->∃h,B2 [.scr ns] []=.ok (.bool true) h:=by
 intro ns hn;obtain⟨ds,ec,hd⟩:=Gj ns 2 (ρ:=[some (.scr ns),none,none,none,none,none,none]) rfl hn []
 obtain⟨ρ',h',e,_⟩:=zK (g:=aA 1) (b:=bx (cw 2 (af iq (aa (ae 1) ah)))
  (pC (aX (ai (.tuple [.int 5,.int 5,.int 3]))) (aA 3) (bx (kN (hX (bM (aA 4) (bM (aA 5) hV))) (af iw (aa (ae 2) (aa (ae 3) ah))))
  (pC (aX (af bQ ah)) (aA 6) (o8 (fO (bz (af et (aa (ae 2) (aa (ae 4) (aa (ae 5) (aa (ae 6) ah))))))) (bS (ai (.bool false))) cL)))))
  (λρ=>∃a1 a2 a3 a4 a5 a6,ρ=[some (.scr ns),a1,a2,a3,a4,a5,a6]) hd (λz ρ h w ⟨a1,a2,a3,a4,a5,a6,e⟩=>by
   subst e;obtain⟨n,f,ep,px⟩:=Lw z w
   obtain⟨ρ3,h3,e3,s3,b3,b4,b5,b6,rfl⟩:=Bd (i:=h.length) (g:=aA 3) (b:=bx (kN (hX (bM (aA 4) (bM (aA 5) hV))) (af iw (aa (ae 2) (aa (ae 3) ah))))
    (pC (aX (af bQ ah)) (aA 6) (o8 (fO (bz (af et (aa (ae 2) (aa (ae 4) (aa (ae 5) (aa (ae 6) ah))))))) (bS (ai (.bool false))) cL)))
    (λρ=>∃b3 b4 b5 b6,ρ=[some (.scr ns),some (.int z),some (.ref h.length),b3,b4,b5,b6]) (ds:=[.int 5,.int 5,.int 3]) (ρ:=[some (.scr ns),some (.int z),some (.ref h.length),a3,a4,a5,a6]) px (λd hd ρ hh p ⟨b3,b4,b5,b6,e⟩=>by
     subst e
     obtain⟨m,rfl,hm⟩:∃m:Nat,d=.int (m:Int)/\m<=5:=by
      simp only[QK,Ra,Su]at hd;rcases hd with rfl|rfl|rfl
      ·exact⟨5,rfl,by decide⟩
      ·exact⟨5,rfl,by decide⟩
      ·exact⟨3,rfl,by decide⟩
     obtain⟨_,h4,e4,s4,N,r,q,rfl,rn,ln⟩:=LC p (m:=m) (by omega);have p4:=s4.px p
     obtain⟨ρ5,h5,e5,s5,c6,rfl⟩:=Bd (i:=h.length) (g:=aA 6) (b:=o8 (fO (bz (af et (aa (ae 2) (aa (ae 4) (aa (ae 5) (aa (ae 6) ah))))))) (bS (ai (.bool false))) cL)
      (λρ=>∃c6,ρ=[some (.scr ns),some (.int z),some (.ref h.length),some (.int (m:Int)),some (.dat (bj N r)),some (.dat (bj N q)),c6]) (ds:=Ly) (ρ:=[some (.scr ns),some (.int z),some (.ref h.length),some (.int (m:Int)),some (.dat (bj N r)),some (.dat (bj N q)),b6]) p4 (λd hd ρ hh p ⟨c6,e⟩=>by
       subst e;obtain⟨kd,rfl⟩:=Gd hd;obtain⟨_,h6,e6,s6,rfl⟩:=IA (i:=h.length) (r:=r) (q:=q) (kd:=kd) p rn (by omega)
       exact⟨_,_,h6,rfl,zE (gY (dz (aI (xs:=[.ref h.length,.dat (bj N r),.dat (bj N q),.dat (.str kd.nm)]) rfl e6))) rfl,s6,_,rfl⟩) ⟨_,rfl⟩
     exact⟨_,_,h5,rfl,ba (ua (aI (xs:=[.ref h.length,.int (m:Int)]) rfl e4) rfl) (ky (Cg (ds:=Ly) rfl) e5),s4.trans s5,_,_,_,_,rfl⟩) ⟨_,_,_,_,rfl⟩
   exact⟨_,_,h3,rfl,ba (cS (aI (xs:=[.int z]) rfl ep)) (ky (dN (ds:=[.int 5,.int 5,.int 3]) rfl) e3),(s3.px px).wf,_,_,_,_,_,_,rfl⟩) (h:=[]) (ρ:=[some (.scr ns),none,none,none,none,none,none]) (λo m=>by cases m) ⟨_,_,_,_,_,_,rfl⟩
 exact⟨h',iG rfl (ba (ky ec e) (fe rfl))⟩
section
variable {P:UL->Prop}
theorem PB(h:P []):∀us,us.length=0->P us
 | [],_=>h
theorem all1(h:∀a,P [a]):∀us,us.length=1->P us
 | [a],_=>h a
theorem all2(h:∀a b,P [a,b]):∀us,us.length=2->P us
 | [a,b],_=>h a b
theorem DK(h:∀a b c,P [a,b,c]):∀us,us.length=3->P us
 | [a,b,c],_=>h a b c
theorem Nn(h:∀a b c d,P [a,b,c,d]):∀us,us.length=4->P us
 | [a,b,c,d],_=>h a b c d
end
end Ml
namespace K87
open PySem L2 Ml
theorem LF{K:UM}{h:Heap}{mg:UI}{ta0:Addr}{fb0:Addr}{k0:Tok}{k1:Tok}(X:K.In h)(G:h.Ns mainGlobals mg)
 (z0:PySem.W.nsIn K mainGlobals "all" = some none)
 (z1:PySem.W.nsIn K mainGlobals "len" = some none)
 (z2:PySem.W.nsIn K mainGlobals "isinstance" = some none)
 (z3:PySem.W.nsIn K mainGlobals "str" = some none)
 (z4:PySem.W.nsIn K mainGlobals "zip" = some none)
 (z5:PySem.W.nsIn K mainGlobals "tuple" = some none)
 (z6:PySem.W.nsIn K mainGlobals "sorted" = some none)
 (z7:PySem.W.nsIn K mainGlobals "set" = some none)
 (z8:PySem.W.nsIn K mainGlobals "int" = some none)
 (z9:PySem.W.nsIn K mainGlobals "max" = some none)
 (z10:PySem.W.nsIn K mainGlobals "divmod" = some none)
 (z11:PySem.W.nsIn K mainGlobals "range" = some none)
 (z12:PySem.W.nsIn K mainGlobals "list" = some none)
 (a0:PySem.W.nsIn K mainGlobals "LONGEST_NAME" = some (some (.int 6 k0)))
 (a1:PySem.W.nsIn K mainGlobals "MOST_NAMES" = some (some (.int 12 k1)))
 (fn0:PySem.W.nsIn K mainGlobals "IDLE" = some (some (.ref fb0)))(fk0:OO K fb0 nI=true)
 (tn0:PySem.W.nsIn K mainGlobals "KINDS" = some (some (.ref ta0)))(tk0:ON K ta0 xh=true)
  : Txt K mg:=⟨Ro X G z0,Ro X G z1,Ro X G z2,Ro X G z3,Ro X G z4,Ro X G z5,Ro X G z6,Ro X G z7,Ro X G z8,Ro X G z9,Ro X G z10,Ro X G z11,Ro X G z12,⟨_,Tf X G a0⟩,⟨_,Tf X G a1⟩,⟨_,Tf X G fn0,K4 (λ_ _=>Tf X G) fk0⟩,⟨_,Tf X G tn0,K0 tk0⟩⟩
theorem all_mk{l:PySem.W.OpenLaw}{w:World}{K:UM}{h:Heap}{mg:UI}{fa f:Addr}{od an:Option Addr}{sl:UP}{oc kV dc pm cd ct:Value}(X:K.In h)(G:h.Ns mainGlobals mg)(hfa:mg "law" = some (.ref fa))(T:Txt K mg)
 (d0:Df K mg "is_name" mq pS)
 (d1:Df K mg "is_rising" iZ kX)
 (d2:Df K mg "are_names" i6 lg)
 (d3:Df K mg "is_strike" i7 lh)
 (d4:Df K mg "are_strikes" gj jt)
 (d5:Df K mg "is_web" oM tH)
 (d6:Df K mg "check_web" i8 lj)
 (d7:Df K mg "names_of_both" eY gI)
 (d8:Df K mg "together" ke nJ)
 (d9:Df K mg "check_kind" gV kg)
 (d10:Df K mg "idle_for_stable" dM fH)
 (d11:Df K mg "idle_for_standing" cN eJ)
 (d12:Df K mg "idle_for_whole" eB fU)
 (d13:Df K mg "idle_for_grounded" cO eL)
 (d14:Df K mg "kernel" oP tJ)
 (d15:Df K mg "fullest" mr pX)
 (d16:Df K mg "are_alike" ja lC)
 (d17:Df K mg "_law_cell" jb lD)
 (d18:Df K mg "_law_pen" ki nL)
 (d19:Df K mg "_law_draw" jc lF)
 (d20:Df K mg "_law_names" gW kj)
 (d21:Df K mg "_law_web" kl nM)
 (d22:Df K mg "_law_within" gk ju)
 (d23:Df K mg "_law_kernel_kinds" cP eN)
 (d24:Df K mg "_law_is_idle" fK iB)
 (d25:Df K mg "_law_kernel" gm jv)
 (d26:Df K mg "_law_fullest" fM iD)
 (d27:Df K mg "_law_turned" gn jw)
 (d28:Df K mg "_law_mate" jd lL)
 (d29:Df K mg "_law_selves" gp jx)
 (d30:Df K mg "_law_two" km nO)
 (d31:Df K mg "_law_right" gX ko)
 (a:PySem.W.nsIn K mainGlobals "law" = some (some (.ref f)))(l0:K.lookup f=some ⟨oc,od,.func (PySem.W.fnOf "law" "law" (iJ oW) (fj oW) (aC oW) .none kV dc pm an cd ct),sl⟩)(c:PySem.W.codeIn K cd "law" = true)(k:PySem.W.keepIn K (.ref f)=true) :
  ∃fd:FuncData,(∀(s:UX) (v:Value),BindsTo s fd ⟨[v],[]⟩ [("_law_script",v)])/\∀base:Heap,K.In base->base.Ns mainGlobals mg->jA l.prog w K mg base (uo l.prog w) 8 fa fd ["_law_script"] (Gn ⟨l.prog,w,mg,K⟩ B2):=by
 have e:=hfa.symm.trans (Tf X G a);cases e;have FL:=Ab (st:=oW) l0 c k;refine⟨PySem.W.fnOf "law" "law" (iJ oW) (fj oW) (aC oW) .none kV dc pm an cd ct,λs v=>.of_eq rfl,λbase _ _=>?_⟩;have J8:=Du (P:=l.prog) (w:=w) (base:=base) d0 T;have J9:=zh (P:=l.prog) (w:=w) (base:=base) d1 T;have J10:=zi (P:=l.prog) (w:=w) (base:=base) d2 T J9 J8;have J11:=zj (P:=l.prog) (w:=w) (base:=base) d3 T;have J12:=uT (P:=l.prog) (w:=w) (base:=base) d4 T J9 J11;have J13:=FF (P:=l.prog) (w:=w) (base:=base) d5 T J12 J10;have J14:=zl (P:=l.prog) (w:=w) (base:=base) d6 T J13;have J15:=qS (P:=l.prog) (w:=w) (base:=base) d7 T;have J16:=AN (P:=l.prog) (w:=w) (base:=base) d8 T J15 J14;have J19:=xB (P:=l.prog) (w:=w) (base:=base) d9 T;have J21:=oN (P:=l.prog) (w:=w) (base:=base) d10 T;have J22:=mN (P:=l.prog) (w:=w) (base:=base) d11 T;have J23:=pW (P:=l.prog) (w:=w) (base:=base) d12 T;have J24:=mO (P:=l.prog) (w:=w) (base:=base) d13 T;have J26:=FG (P:=l.prog) (w:=w) (base:=base) d14 T J24 J22 J21 J23 J19 J14;have J27:=Dv (P:=l.prog) (w:=w) (base:=base) d15 T J24 J22 J21 J23 J26;have J29:=zo (P:=l.prog) (w:=w) (base:=base) d16 T J26 J19 J14;have J31:=zp (P:=l.prog) (w:=w) (base:=base) d17 T;have J32:=AO (P:=l.prog) (w:=w) (base:=base) d18 T;have J33:=zq (P:=l.prog) (w:=w) (base:=base) d19 T;have J34:=xF (P:=l.prog) (w:=w) (base:=base) d20 T J33;have J35:=AQ (P:=l.prog) (w:=w) (base:=base) d21 T J33 J34;have J36:=uW (P:=l.prog) (w:=w) (base:=base) d22 T;have J37:=mP (P:=l.prog) (w:=w) (base:=base) d23 T;have J38:=tM (P:=l.prog) (w:=w) (base:=base) d24 T;have J39:=uX (P:=l.prog) (w:=w) (base:=base) d25 T J38;have J40:=tN (P:=l.prog) (w:=w) (base:=base) d26 T J38;have J42:=uY (P:=l.prog) (w:=w) (base:=base) d27 T;have J41:=zr (P:=l.prog) (w:=w) (base:=base) d28 T J33 J42;have J44:=uZ (P:=l.prog) (w:=w) (base:=base) d29 T J33;have J43:=AS (P:=l.prog) (w:=w) (base:=base) d30 T J33 J44 J40 J39 J41 J37 J35;have J45:=xG (P:=l.prog) (w:=w) (base:=base) d31 T J36 J16 J26 J29 J27 J44 J35 J33;exact Lg (P:=l.prog) (w:=w) (base:=base) FL T J31 J37 J45 J43 J32
theorem walk{l:PySem.W.OpenLaw}{q:UT}{loose:UN}{XP:(UI)->Heap->Prop}{YP:World->Heap->Prop}{d:DefRec}{K:Params->UM}(hn:l.most=some 63)(hdf:d.params.defaults=[])
 (hY:∀(w:World) (h:Heap),YP w h->(K w.params).In h)
 (F:∀(w:World) (mg:UI) (fa:Addr) (h:Heap),(K w.params).In h->h.Ns mainGlobals mg->mg d.name=some (.ref fa) ->
   ∃fd:FuncData,(∀(s:UX) (u:Value),BindsTo s fd ⟨[u],[]⟩ [("_law_script",u)])/\∀base:Heap,(K w.params).In base->base.Ns mainGlobals mg->jA l.prog w (K w.params) mg base (uo l.prog w) 8 fa fd ["_law_script"] (Gn ⟨l.prog,w,mg,K w.params⟩ B2)) :
  PySem.W.WalkO q loose XP YP l.row.toRowW d [] (λf vs=>PySem.call f vs):=
 L2.GV (n:=63) (k:=8) (x := "_law_script") (CX:=λw=>uo l.prog w) (sp:=λw=>IX (K w.params)) hn (by decide) hdf ⟨rfl,by decide,by decide,rfl⟩ hY
  (λw mg fa h KX G hm=>let ⟨fd,b,o⟩:=F w mg fa h KX G hm;⟨fd,b,λbase k g=>(o base k g).imp λvs H Q E z=>E3 Gk z⟩)
  (λw H a ns hl _ hS=>⟨a,ns,rfl,hS,hl,λ_=>rfl⟩) λw H s e s' ⟨_,_,_,_,_,_,_,_,_,_,_,_,_,z⟩=>z
end K87
open PySem PySem.W PyProof.Rows
structure PySem.W.Fast:Prop where
 (tw9148096403595444193 tw7426272451458393451 tw7342056145434709660 tw5398133414886440532 tw13022120433637700469 tw4808763178564235385 tw7503384315519014769 tw3671800373858429821 tw6659814661241276387 tw8453019717029800786 tw1964398408874532270 tw4205092431187955474 tw5596091562773441942 tw11595492519781316800 tw11496398808660864349 tw7617880867617298049 tw2295954902642420228 tw9850500715908406834 tw1596985415967075289 tw2739174338725994588 tw1775444113056043963 tw14695094004855039488 tw12333453616063435979 tw16695503902447351259 tw15238554048036278090 tw14114753041858206572 tw3674312798916281770 tw6576459002153268536 tw7226395943847614926 tw14194955005915398188 tw91137016151753155 tw10992360375468885629 tw11727981077048807654 tw5522839600175465478 tw15142676923841463026 tw13623621534466457809 tw8975228145211770552 tw1252239291669788077 tw15770602064404369679 tw14684081869837428004 tw4308013159766080087 tw18282167654526454161 tw3386006423688584640 tw5106013468805501876 tw10895447079086783669 tw794112569164169689 tw13374937612504290476 tw17271277637788889572 tw9910297455132946597 tw13333414382559292993 tw14227871762582939998 tw15317392235265306724 tw2436116886374706203 tw878140899183826025 tw13729062366482921272 tw7099364815740013212 tw3671601676860447034 tw14259392772405047268 tw17005243603692621074 tw18051193053049371569 tw986158953243074115 tw2208144448217900690 tw11158023333983897557 tw14440931285572119561 tw16528924660250165839 tw12296604717991740349 tw15860245628094628286 tw13358178108089286135 tw1672331606356008621 tw7745750179598482820 tw3595002432079787970 tw10338274894424524474 tw2609479693422258427 tw7954865123475115845 tw13888206575865622696 tw11950793075995880025 tw598597047914259030 tw7995802904143395923 tw7972577879381448510 tw4134167889168205185 tw9826727800623776730 tw4102164307631172674 tw2319830020704013915 tw11324089819044583734 tw15218165207168785265 tw9298709345128663271 tw3693359413257531763 tw17698561487531656449 tw10548661964917292116 tw10010738474633428358 tw11395663808519301176 tw2476336682953834596 tw18172402822527105805 tw8568669917918532829 tw12087745030386876409 tw18405387436407325951 tw1542601782992270173 tw13518874697650429172 tw4587564268216440421 tw868357831309861221 tw473929326821705746 tw6233260601977817552 tw1695032469537113710 tw13402408000093149760 tw3724293429504022449 tw8575852657010932389 tw4116020634740657404 tw4783566057719432616 tw2791545060849723234 tw14267203889462183795 tw232064432319871224 tw11747546644785081446 tw6020046297404374834 tw9759918150901825784 tw5748918395521734615 tw8359605991296598598 tw3400288958257262781 tw144430704906790219 tw5353629178580038021 tw2187091467463096156 tw13194808964657212504 tw6932955037156530055 tw4732417074624795215 tw18225772457769649362 tw6375982064962917300 tw18155939655913368883 tw17621446072343861546 tw5506005567674766943 tw15596687612373786293 tw8297311279748030710 tw10833728317789641806 tw3216973089701562537 tw4508430398889429687 tw11993542074658719541 tw8474252802229791788 tw7299219725601712722 tw2509953156762625969 tw6415006843135344364 tw4037360985934953937 tw16064853648071735500 tw15159192133803367186 tw12836315064739870638 tw18320158610522767857 tw8804893512826050551 tw6640694948960837356 tw15406545698460230778 tw2805797505127470852 tw2348485074517201331 tw15026831984695977016 tw3335236698105053342 tw6759224757907651742 tw7340203188506730612 tw7060981210078648622 tw8016040861755933482 tw16354999767007407785 tw9585044685282799311 tw4932271904040915481 tw16393454057658582069 tw14906236845251296887 tw9044018560254003564 tw6888785681509014584 tw17674887904923636009 tw13663532971873089082 tw13531846826255871155 tw13486041379910508774 tw5618010550695131633 tw9040178810992565809 tw9498168774030407308 tw8107574783859263651 tw5997572108082208435 tw17640560614945445908 tw17467428926609221793 tw7900342911289846669 tw4012528398984549927 tw16662035824752731938 tw17912590734314271201 tw14124021162872027499 tw7535037356088080913 tw4432995032790690548 tw1356185157869309002 tw8296585983034242703 tw2760978447594258541 tw15484746540997030087 tw12607532361324668796 tw13462738939617009071 tw8189077667889344365 tw551653871495970671 tw16983413672483906427 tw12157601209540194401 tw9853498718488349657 tw4742500699930368916 tw1285799257055475906 tw12588864577253649234 tw11318705698132590829 tw5495088909066333406 tw2395738418482961351 tw14798416245937756695 tw11246168004152041027 tw2483096612710506840 tw9874294342430441175 tw9702003495676687958 tw9652211863502058361 tw934719503542630347 tw8730198710063605178 tw8515628506479516323 tw8484344566070129429 tw8117056941831678313 tw7854339001175343478 tw7761975226439055663 tw7466985033163336527 tw7140269118112855213 tw6908991112959579468 tw6797893244111852959 tw6563546391318363533 tw6446681113781065874 tw6256650573210419032 tw6205530450657336889 tw6089799040454728717 tw571258956407516531 tw5604681432785790260 tw5287756360845442005 tw4453911995870710253 tw4243639117755290882 tw4099269373841922130 tw3975417714771513858 tw3710937582558940957 tw2807568876108344895 tw2729999122466846208 tw2634238682184083267 tw2556127646348154700 tw18358173090347667756 tw18307913997175308122 tw18283101363178896792 tw17354612767354932428 tw16409348223172780670 tw15416366100636735247 tw14912421861246730402 tw14126905198720235701 tw13978756558978434320 tw1396551483680045896 tw13536066688888521446 tw13175301473095840974 tw12958124978537338794 tw12800067081263488265 tw12800019580710692970 tw12607944521255091038 tw12536154405196560791 tw12466426719078557618 tw12274022280138122442 tw11833506232291379244 tw11736650790609608383 tw11689226863430887592 tw11600475047864321307 tw11559916401141539681 tw11523659105102048677 tw11228016031422024098 tw11197577124859618577 tw11050685965872017488 tw10842892024457033813 tw10360897180359648152 tw10301500206414114536 tw1010781354640299759:True)
set_option maxRecDepth 100000 in
set_option maxHeartbeats 0 in
theorem PySem.Challenge.cw_everalike_k87_whole_alike_in_company_aga_holds : PySem.Challenge.rw_everalike_k87_whole_alike_in_company_aga.Holds := by
 w_on;o_law;k_head;(case hw=>w_witness2)
 k_fill
 refine K87.walk (l:=PySem.Challenge.rw_everalike_k87_whole_alike_in_company_aga) rfl rfl (λw h Y=>PySem.W.kIn_of Y) ?F
 case F=>
  intro w mg fa h KX G hmg
  refine' K87.all_mk KX G hmg ?T ?d0 ?d1 ?d2 ?d3 ?d4 ?d5 ?d6 ?d7 ?d8 ?d9 ?d10 ?d11 ?d12 ?d13 ?d14 ?d15 ?d16 ?d17 ?d18 ?d19 ?d20 ?d21 ?d22 ?d23 ?d24 ?d25 ?d26 ?d27 ?d28 ?d29 ?d30 ?d31 ?a ?l ?c ?k
  case T=>
   refine' K87.LF KX G ?zz0 ?zz1 ?zz2 ?zz3 ?zz4 ?zz5 ?zz6 ?zz7 ?zz8 ?zz9 ?zz10 ?zz11 ?zz12 ?aa0 ?aa1 ?fn0 ?fk0 ?tn0 ?tk0
   (case zz0=>k_is)
   (case zz1=>k_is)
   (case zz2=>k_is)
   (case zz3=>k_is)
   (case zz4=>k_is)
   (case zz5=>k_is)
   (case zz6=>k_is)
   (case zz7=>k_is)
   (case zz8=>k_is)
   (case zz9=>k_is)
   (case zz10=>k_is)
   (case zz11=>k_is)
   (case zz12=>k_is)
   (case aa0=>k_is)
   (case aa1=>k_is)
   (case fn0=>k_is)
   (case fk0=>kernel_rfl)
   (case tn0=>k_is)
   (case tk0=>kernel_rfl)
  case d0=>
   refine' Ml.ck KX G ?a0 ?l0 ?c0 ?k0 (λ_ _ _ _ _ _=>Ml.all1 λ_=>rfl)
   (case a0=>k_is);(case l0=>k_is);(case c0=>k_is);(case k0=>k_is)
  case d1=>
   refine' Ml.ck KX G ?a1 ?l1 ?c1 ?k1 (λ_ _ _ _ _ _=>Ml.all1 λ_=>rfl)
   (case a1=>k_is);(case l1=>k_is);(case c1=>k_is);(case k1=>k_is)
  case d2=>
   refine' Ml.ck KX G ?a2 ?l2 ?c2 ?k2 (λ_ _ _ _ _ _=>Ml.all1 λ_=>rfl)
   (case a2=>k_is);(case l2=>k_is);(case c2=>k_is);(case k2=>k_is)
  case d3=>
   refine' Ml.ck KX G ?a3 ?l3 ?c3 ?k3 (λ_ _ _ _ _ _=>Ml.all2 λ_ _=>rfl)
   (case a3=>k_is);(case l3=>k_is);(case c3=>k_is);(case k3=>k_is)
  case d4=>
   refine' Ml.ck KX G ?a4 ?l4 ?c4 ?k4 (λ_ _ _ _ _ _=>Ml.all2 λ_ _=>rfl)
   (case a4=>k_is);(case l4=>k_is);(case c4=>k_is);(case k4=>k_is)
  case d5=>
   refine' Ml.ck KX G ?a5 ?l5 ?c5 ?k5 (λ_ _ _ _ _ _=>Ml.all1 λ_=>rfl)
   (case a5=>k_is);(case l5=>k_is);(case c5=>k_is);(case k5=>k_is)
  case d6=>
   refine' Ml.ck KX G ?a6 ?l6 ?c6 ?k6 (λ_ _ _ _ _ _=>Ml.all1 λ_=>rfl)
   (case a6=>k_is);(case l6=>k_is);(case c6=>k_is);(case k6=>k_is)
  case d7=>
   refine' Ml.ck KX G ?a7 ?l7 ?c7 ?k7 (λ_ _ _ _ _ _=>Ml.all2 λ_ _=>rfl)
   (case a7=>k_is);(case l7=>k_is);(case c7=>k_is);(case k7=>k_is)
  case d8=>
   refine' Ml.ck KX G ?a8 ?l8 ?c8 ?k8 (λ_ _ _ _ _ _=>Ml.all2 λ_ _=>rfl)
   (case a8=>k_is);(case l8=>k_is);(case c8=>k_is);(case k8=>k_is)
  case d9=>
   refine' Ml.ck KX G ?a9 ?l9 ?c9 ?k9 (λ_ _ _ _ _ _=>Ml.all1 λ_=>rfl)
   (case a9=>k_is);(case l9=>k_is);(case c9=>k_is);(case k9=>k_is)
  case d10=>
   refine' Ml.ck KX G ?a10 ?l10 ?c10 ?k10 (λ_ _ _ _ _ _=>Ml.DK λ_ _ _=>rfl)
   (case a10=>k_is);(case l10=>k_is);(case c10=>k_is);(case k10=>k_is)
  case d11=>
   refine' Ml.ck KX G ?a11 ?l11 ?c11 ?k11 (λ_ _ _ _ _ _=>Ml.DK λ_ _ _=>rfl)
   (case a11=>k_is);(case l11=>k_is);(case c11=>k_is);(case k11=>k_is)
  case d12=>
   refine' Ml.ck KX G ?a12 ?l12 ?c12 ?k12 (λ_ _ _ _ _ _=>Ml.DK λ_ _ _=>rfl)
   (case a12=>k_is);(case l12=>k_is);(case c12=>k_is);(case k12=>k_is)
  case d13=>
   refine' Ml.ck KX G ?a13 ?l13 ?c13 ?k13 (λ_ _ _ _ _ _=>Ml.DK λ_ _ _=>rfl)
   (case a13=>k_is);(case l13=>k_is);(case c13=>k_is);(case k13=>k_is)
  case d14=>
   refine' Ml.ck KX G ?a14 ?l14 ?c14 ?k14 (λ_ _ _ _ _ _=>Ml.all2 λ_ _=>rfl)
   (case a14=>k_is);(case l14=>k_is);(case c14=>k_is);(case k14=>k_is)
  case d15=>
   refine' Ml.ck KX G ?a15 ?l15 ?c15 ?k15 (λ_ _ _ _ _ _=>Ml.all2 λ_ _=>rfl)
   (case a15=>k_is);(case l15=>k_is);(case c15=>k_is);(case k15=>k_is)
  case d16=>
   refine' Ml.ck KX G ?a16 ?l16 ?c16 ?k16 (λ_ _ _ _ _ _=>Ml.DK λ_ _ _=>rfl)
   (case a16=>k_is);(case l16=>k_is);(case c16=>k_is);(case k16=>k_is)
  case d17=>
   refine' Ml.ck KX G ?a17 ?l17 ?c17 ?k17 (λ_ _ _ _ _ _=>Ml.all2 λ_ _=>rfl)
   (case a17=>k_is);(case l17=>k_is);(case c17=>k_is);(case k17=>k_is)
  case d18=>
   refine' Ml.ck KX G ?a18 ?l18 ?c18 ?k18 (λ_ _ _ _ _ _=>Ml.all1 λ_=>rfl)
   (case a18=>k_is);(case l18=>k_is);(case c18=>k_is);(case k18=>k_is)
  case d19=>
   refine' Ml.ck KX G ?a19 ?l19 ?c19 ?k19 (λ_ _ _ _ _ _=>Ml.all2 λ_ _=>rfl)
   (case a19=>k_is);(case l19=>k_is);(case c19=>k_is);(case k19=>k_is)
  case d20=>
   refine' Ml.ck KX G ?a20 ?l20 ?c20 ?k20 (λ_ _ _ _ _ _=>Ml.all2 λ_ _=>rfl)
   (case a20=>k_is);(case l20=>k_is);(case c20=>k_is);(case k20=>k_is)
  case d21=>
   refine' Ml.ck KX G ?a21 ?l21 ?c21 ?k21 (λ_ _ _ _ _ _=>Ml.all2 λ_ _=>rfl)
   (case a21=>k_is);(case l21=>k_is);(case c21=>k_is);(case k21=>k_is)
  case d22=>
   refine' Ml.ck KX G ?a22 ?l22 ?c22 ?k22 (λ_ _ _ _ _ _=>Ml.all2 λ_ _=>rfl)
   (case a22=>k_is);(case l22=>k_is);(case c22=>k_is);(case k22=>k_is)
  case d23=>
   refine' Ml.ck KX G ?a23 ?l23 ?c23 ?k23 (λ_ _ _ _ _ _=>Ml.PB rfl)
   (case a23=>k_is);(case l23=>k_is);(case c23=>k_is);(case k23=>k_is)
  case d24=>
   refine' Ml.ck KX G ?a24 ?l24 ?c24 ?k24 (λ_ _ _ _ _ _=>Ml.Nn λ_ _ _ _=>rfl)
   (case a24=>k_is);(case l24=>k_is);(case c24=>k_is);(case k24=>k_is)
  case d25=>
   refine' Ml.ck KX G ?a25 ?l25 ?c25 ?k25 (λ_ _ _ _ _ _=>Ml.all2 λ_ _=>rfl)
   (case a25=>k_is);(case l25=>k_is);(case c25=>k_is);(case k25=>k_is)
  case d26=>
   refine' Ml.ck KX G ?a26 ?l26 ?c26 ?k26 (λ_ _ _ _ _ _=>Ml.all2 λ_ _=>rfl)
   (case a26=>k_is);(case l26=>k_is);(case c26=>k_is);(case k26=>k_is)
  case d27=>
   refine' Ml.ck KX G ?a27 ?l27 ?c27 ?k27 (λ_ _ _ _ _ _=>Ml.all2 λ_ _=>rfl)
   (case a27=>k_is);(case l27=>k_is);(case c27=>k_is);(case k27=>k_is)
  case d28=>
   refine' Ml.ck KX G ?a28 ?l28 ?c28 ?k28 (λ_ _ _ _ _ _=>Ml.DK λ_ _ _=>rfl)
   (case a28=>k_is);(case l28=>k_is);(case c28=>k_is);(case k28=>k_is)
  case d29=>
   refine' Ml.ck KX G ?a29 ?l29 ?c29 ?k29 (λ_ _ _ _ _ _=>Ml.all2 λ_ _=>rfl)
   (case a29=>k_is);(case l29=>k_is);(case c29=>k_is);(case k29=>k_is)
  case d30=>
   refine' Ml.ck KX G ?a30 ?l30 ?c30 ?k30 (λ_ _ _ _ _ _=>Ml.all2 λ_ _=>rfl)
   (case a30=>k_is);(case l30=>k_is);(case c30=>k_is);(case k30=>k_is)
  case d31=>
   refine' Ml.ck KX G ?a31 ?l31 ?c31 ?k31 (λ_ _ _ _ _ _=>Ml.Nn λ_ _ _ _=>rfl)
   (case a31=>k_is);(case l31=>k_is);(case c31=>k_is);(case k31=>k_is)
  (case a=>k_is);(case l=>k_is);(case c=>k_is);(case k=>k_is)
