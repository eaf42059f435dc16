import PyProof.Rows.All
import Wide.All
import OpenK.AllK
import Wide.FinOn
import Lean
import PyProof.EqAt
import PyProof.EqKinds
import PyProof.TupleCall
import KE.KSortTup
import PyProof.Rows.SortShellK
import PyProof.Rows.SortWalk
import KE.KDictList
import KE.KStar
import PyProof.ListMulRoad
import PyProof.FactsAll.tuple
import KE.KTab
import PyProof.DictCompW
import PySem.SetOps
import PyProof.SetScanFacts
import PyProof.SetNew
import PyProof.SetRoads
import PyProof.Rows.SetFrom
import PyProof.WalksMore
import PyProof.CollectWalk
import PySem.Challenge.RW_everalike_k25_changes_and_webs_made_alik
set_option linter.all false
namespace PySem
abbrev Sm:=@PySem.wpAny_bind
abbrev Sn:=@PySem.wpAny_pure
abbrev So:=@PySem.Heap.get?_push_of_some
abbrev Sr:=@List.mem_append_right
abbrev Ss:=@Nat.le_refl
abbrev Su:=@Bool.and_eq_true
abbrev Sv:=@PySem.Heap.lt_size
abbrev Sw:=@Nat.le_trans
abbrev Sx:=@Nat.lt_of_lt_of_le
abbrev Sy:=@PySem.Heap.get?_push_size
abbrev Sz:=@List.mem_cons
abbrev SD:=@List.mem_append
abbrev SE:=@List.mem_cons_of_mem
abbrev SF:=@Bool.false_eq_true
abbrev SG:=@List.length_map
abbrev SH:=@List.getElem?_eq_getElem
abbrev SI:=@Nat.ne_of_lt
abbrev SJ:=@List.getElem?_eq_some_iff
abbrev SK:=@List.mem_cons_self
abbrev SM:=@List.length_cons
abbrev SN:=@List.length_append
abbrev SO:=@List.mem_singleton
abbrev SQ:=@Nat.lt_irrefl
abbrev SR:=@List.all_eq_true
abbrev SU:=@List.mem_map
abbrev SV:=@List.map_cons
abbrev SW:=@PySem.Paired.length
abbrev SX:=@List.mem_of_getElem?
abbrev SY:=@Array.getElem?_eq_getElem
abbrev S5:=@List.size_toArray
abbrev S6:=@List.mem_filter
abbrev S7:=@List.mem_append_left
abbrev S8:=@Array.getElem?_toList
abbrev S9:=@List.length_filter_le
abbrev Ta:=@List.getElem?_append_left
abbrev Tb:=@List.not_mem_nil
abbrev Tc:=@Bool.false_ne_true
abbrev Td:=@decide_eq_true_eq
abbrev Te:=@PySem.wpAny_call_entry
abbrev Tf:=@PySem.wpAny_holding
abbrev Tg:=@if_true
abbrev Th:=@List.getElem?_append_right
abbrev Ti:=@PySem.wpAny_callSpecial?_slot
abbrev Tj:=@PySem.Heap.size_push
abbrev Tn:=@decide_eq_true
abbrev To:=@PySem.wpAny_newObj_type
abbrev Tp:=@PySem.W.mg_none_of
abbrev Tq:=@List.pairwise_cons
abbrev Tr:=@decide_eq_false
abbrev Ts:=@List.length_nil
abbrev Tt:=@PySem.wpAny_ite_split
abbrev Tu:=@PyProof.Rows.ReadsAll.keeps
abbrev Tv:=@Nat.mul_le_mul
abbrev Tw:=@List.set_cons_zero
abbrev Tx:=@Classical.byContradiction
abbrev Tz:=@if_false
abbrev TB:=@Option.map_eq_some_iff
abbrev TC:=@List.nodup_cons
abbrev TF:=@PyProof.Rows.slot_tuple_getitem
abbrev TH:=@List.nil_append
abbrev TJ:=@Array.getD_eq_getD_getElem?
abbrev TK:=@List.mem_range
abbrev TL:=@PySem.wpAny_Call_Name_kw
abbrev TM:=@List.set_cons_succ
abbrev TN:=@Array.getElem?_eq_some_iff
abbrev TQ:=@Array.length_toList
abbrev TR:=@List.drop_eq_getElem_cons
abbrev TU:=@List.getElem?_of_mem
abbrev TV:=@decide_eq_true_iff
abbrev TX:=@List.length_replicate
abbrev TY:=@PySem.wpAny_seqItems
abbrev TZ:=@PySem.wpAny_mono
abbrev T4:=@List.nodup_append
abbrev T5:=@List.drop_of_length_le
abbrev T6:=@PySem.W.kia_one
abbrev T7:=@PyProof.Rows.F.plain_set_update_loop
abbrev T8:=@PySem.mem_of_lookup
abbrev T9:=@List.filter_sublist
abbrev Ua:=@List.getElem?_map
abbrev Ub:=@PyProof.Rows.callWith_type1
abbrev Uc:=@Bool.eq_iff_iff
abbrev Ud:=@PySem.wpAny_field
abbrev Ue:=@List.forIn_cons
abbrev Ug:=@Nat.zero_le
abbrev Uh:=@List.getElem?_cons_zero
abbrev Ui:=@List.cons_append
abbrev Uj:=@List.getElem?_set_self
abbrev Uk:=@PySem.wpAny_truthy_bool
abbrev Ul:=@PySem.sizeLine_eq
abbrev Um:=@Nat.lt_succ_of_lt
abbrev Uo:=@of_decide_eq_true
abbrev Uq:=@PySem.wpAny_standAt
abbrev Ur:=@PySem.Heap.get?_update_self
abbrev Us:=@PySem.Calls.spliced_cons
abbrev Ut:=@Array.forIn_toList
abbrev Uu:=@List.Pairwise.imp_of_mem
abbrev Uv:=@List.lookup_cons
abbrev Uw:=@Nat.le_succ
abbrev Ux:=@List.pairwise_append
abbrev Uy:=@List.length_eq_zero_iff
abbrev Uz:=@Int.toNat_natCast
abbrev UA:=@PySem.wpAny_rule
abbrev UB:=@Option.some.inj
abbrev UC:=@or_false
abbrev UD:=@PySem.F.slot_tuple_iterator_next
abbrev UE:=@List.perm_ext_iff_of_nodup
abbrev UG:=@Nat.lt_succ_self
abbrev UH:=@Nat.ne_of_gt
abbrev UI:=@PySem.wpAny_setField_rec
abbrev UJ:=@Nat.lt_or_ge
abbrev UK:=@Bool.not_true
abbrev UL:=@List.take_append_drop
abbrev UM:=@List.Nodup.sublist
abbrev UN:=@List.pairwise_iff_getElem
abbrev UO:=@Array.mem_toList_iff
abbrev UP:=@List.mem_iff_getElem
abbrev UQ:=@PySem.Around.under_plainId
abbrev UR:=@PySem.Calls.spliced_nil
abbrev US:=@List.append_nil
abbrev UT:=@Option.some.injEq
abbrev UU:=@PySem.wpAny_comprehension_free
abbrev UW:=@PySem.wpAny_specialOf
abbrev UX:=@PySem.Heap.get?_push_ne
abbrev UY:=@PySem.sizeLine_eq
abbrev UZ:=@Bool.or_eq_true
abbrev U0:=@List.filterMap_cons_some
abbrev U1:=@List.eraseIdx_eq_take_drop_succ
abbrev U2:=@PySem.wpAny_setEpoch_of
abbrev U3:=@PyProof.Rows.callWith_builtin1
abbrev U4:=@List.map_nil
abbrev U5:=@List.getElem?_replicate
abbrev U6:=@PySem.wpAny_of_eq
abbrev U7:=@List.getElem_of_mem
abbrev U8:=@List.getElem?_cons_succ
abbrev U9:=@PySem.wpAny_isInstance
abbrev Va:=@List.forIn_nil
abbrev Vb:=@PySem.Heap.get?_update_other
abbrev Vc:=@List.take_of_length_le
abbrev Vd:=@List.mem_filterMap
abbrev Ve:=@PySem.tupleKind_room_in1
abbrev Vf:=@List.zip_cons_cons
abbrev Vg:=@PySem.codeAny_builtin
abbrev Vh:=@PySem.F.called_set
abbrev Vi:=@List.set_append_right
abbrev Vj:=@PySem.F.slot_tuple_hash
abbrev Vk:=@List.pairwise_map
abbrev Vl:=@PySem.W.mg_of
abbrev Vm:=@PySem.Heap.SameBut.refl
abbrev Vn:=@List.getElem?_set_ne
abbrev Vo:=@List.mem_of_mem_take
abbrev Vp:=@PyProof.Rows.F.entry_set_update_loop
abbrev Vq:=@PySem.Heap.size_update
abbrev Vr:=@PySem.wpAny_askSetting
abbrev Vs:=@PySem.Heap.SameBut.update
abbrev Vt:=@beq_eq_false_iff_ne
abbrev Vu:=@PySem.F.slot_dict_eq_refl
abbrev Vv:=@Int.toNat_of_nonneg
abbrev Vw:=@Nat.le_of_lt
abbrev Vx:=@List.getElem?_take_of_lt
abbrev Vy:=@PySem.F.args_tuple_add_2
abbrev Vz:=@PySem.wpAny_typeOf
abbrev VA:=@PySem.call_meets
abbrev VB:=@PySem.SetTable.toList_insertAt
abbrev VC:=@Ne.symm
abbrev VD:=@PyProof.Rows.assignInOrder_cons
abbrev VE:=@PySem.wpAny_pyIter_tuple
abbrev VF:=@PySem.wpAny_passesOwn
abbrev VG:=@congrArg
abbrev VH:=@PySem.F.entry_tuple_add
abbrev VI:=@PySem.wpAny_attempt
abbrev VJ:=@Int.emod_nonneg
abbrev VL:=@List.pairwise_iff_forall_sublist
abbrev VM:=@PySem.W.cellsFrom_some
abbrev VN:=@PySem.F.slot_tuple_add
abbrev VO:=@PySem.wpAny_load
abbrev VP:=@PySem.wpAny_pyIter_slot
abbrev VQ:=@Bool.false_and
abbrev VR:=@PySem.codeAny_mono
abbrev VS:=@PySem.F.slot_dict_get
abbrev VT:=@PySem.F.slot_tuple_lt
abbrev VU:=@Nat.le_add_right
abbrev VW:=@Option.getD_some
abbrev VX:=@PySem.SeqAt.eqAt_reads
abbrev VY:=@List.filter_cons
abbrev VZ:=@PySem.wpAny_updateSeq_pair
abbrev V0:=@Nat.pow_le_pow_right
abbrev V1:=@PySem.plainId_quiet
abbrev V2:=@Nat.mod_lt
abbrev V3:=@List.of_mem_zip
abbrev V4:=@Option.map_some
abbrev V5:=@PySem.F.slot_zip_next
abbrev V6:=@PySem.F.slot_tuple_eq
abbrev V7:=@PySem.Heap.dictOf_iff
abbrev V8:=@PySem.wpAny_setEntries_of
abbrev V9:=@List.map_map
abbrev Wa:=@PySem.Reads.unique
abbrev Wc:=@Int.emod_lt_of_pos
abbrev Wd:=@PySem.repr_of_reads'
abbrev We:=@Bool.not_false
abbrev Wg:=@PySem.wpAny_Name
abbrev Wh:=@Option.isSome_map
abbrev Wi:=@Bool.not_eq_true'
abbrev Wj:=@List.flatMap_cons
abbrev Wk:=@List.filter_congr
abbrev Wl:=@List.any_cons
abbrev Wm:=@Bool.and_self
abbrev Wn:=@List.map_id
abbrev Wo:=@List.length_take
abbrev Wq:=@List.length_drop
abbrev Wr:=@List.any_eq_true
abbrev Ws:=@List.getElem_mem
abbrev Wt:=@getElem?_pos
abbrev Wu:=@beq_iff_eq
abbrev Wv:=Value → Shared → Prop
abbrev Ww:=List (Addr × Obj)
abbrev Wx:=List (PyData × PyData)
abbrev Wy:=Array (Int × Value)
abbrev Wz:=Str → Option Value
abbrev WA:=List PyData
abbrev WB:=List Addr
abbrev WC:=List Value
abbrev WD:=PySem.W.Frag
abbrev WE:=List Str
abbrev WG:=List Expr
abbrev WH:=Array (Option Value)
abbrev WI:=Array DictEntry
abbrev WJ:=Array Value
abbrev WK:=Array Nat
abbrev WL:=Program
abbrev WM:=SetTable
abbrev WN:=Around
abbrev WO:=Shared
end PySem
noncomputable section
set_option compiler.extract_closed false
set_option bootstrap.genMatcherCode false
set_option genSizeOfSpec false
set_option Elab.async false
set_option linter.all false
set_option maxRecDepth 100000
namespace L2
open PySem PySem.Spec PyProof.Rows
noncomputable abbrev Key:=Sum Int Str
noncomputable def tS:Key->Value->Bool
 |.inl k,v=>Value.isInt k v
 |.inr x,v=>Value.isStrOf x v
noncomputable def P9(w:World):Key->Int
 |.inl k=>hashInt k
 |.inr x=>hashStr w x
theorem cM:∀{k:Key} {v:Value},tS k v=true->(∃i t,k=Sum.inl i/\v=Value.int i t)\/(∃x t,k=Sum.inr x/\v=Value.str x t)
 |.inl i,v,h=>by
  obtain⟨t,e⟩:=Value.isInt_shape h
  simp_all
 |.inr x,v,h=>by obtain⟨t,e⟩:=Value.isStrOf_shape h;exact .inr ⟨x,t,rfl,e⟩
theorem Ea(i:Int)(t:Tok):tS (.inl i) (.int i t)=true:=by simp[tS,Value.isInt]
theorem Eb(x:Str)(t:Tok):tS (.inr x) (.str x t)=true:=by simp[tS,Value.isStrOf]
theorem Lq(a b:Int):decide ((Sum.inl a:Key)=Sum.inl b)=(a==b):=by
 grind
theorem Ls(a b:Str):decide ((Sum.inr a:Key)=Sum.inr b)=decide (a=b):=by
 grind
theorem Lu(a:Int)(b:Str):decide ((Sum.inl a:Key)=Sum.inr b)=false:=Tr (λq=>nomatch q)
theorem Lv(a:Str)(b:Int):decide ((Sum.inr a:Key)=Sum.inl b)=false:=Tr (λq=>nomatch q)
noncomputable def bV(prog:WL)(w:World):PySem.KeyKind prog w Key where
 is:=tS
 hash:=P9 w
 inj:=λv a b ha hb=>by
  rcases cM ha with⟨i,t,rfl,rfl⟩|⟨x,t,rfl,rfl⟩
  ·rcases cM hb with⟨j,u,rfl,e⟩|⟨y,u,rfl,e⟩
   ·injection e with e1 _;rw[e1]
   ·exact nomatch e
  ·rcases cM hb with⟨j,u,rfl,e⟩|⟨y,u,rfl,e⟩
   ·exact nomatch e
   ·injection e with e1 _;rw[e1]
 byValue:=λk v h=>by rcases cM h with⟨i,t,rfl,rfl⟩|⟨x,t,rfl,rfl⟩<;>rfl
 pyHash:=λhv h=>by
  rcases cM hv with⟨i,t,rfl,rfl⟩|⟨x,t,rfl,rfl⟩
  ·exact wpAny_pyHash_int h
  ·exact wpAny_pyHash_str h
 eqBool:=λhu hv h=>by
  rcases cM hu with⟨i,t,rfl,rfl⟩|⟨x,t,rfl,rfl⟩
  ·rcases cM hv with⟨j,u,rfl,rfl⟩|⟨y,u,rfl,rfl⟩
   ·rw[Lq]at h;exact wpAny_eqBool_int h
   ·rw[Lu]at h;exact SeqAt.EqAt.int_str i t y u _ _ _ _ h
  ·rcases cM hv with⟨j,u,rfl,rfl⟩|⟨y,u,rfl,rfl⟩
   ·rw[Lv]at h;exact SeqAt.EqAt.str_int x t j u _ _ _ _ h
   ·rw[Ls]at h;exact wpAny_eqBool_str h
 «strs» := λk x t v h=>by
  rcases cM h with⟨i,u,rfl,e⟩|⟨y,u,rfl,e⟩
  ·exact nomatch e
  ·injection e with e1 _;subst e1;cases v<;>rfl
theorem zw(prog:WL)(w:World)(i:Int)(t:Tok):(bV prog w).is (.inl i) (.int i t)=true:=Ea i t
theorem zx(prog:WL)(w:World)(x:Str)(t:Tok):(bV prog w).is (.inr x) (.str x t)=true:=Eb x t
inductive V where
 |non|bl (b:Bool)|int (i:Int)|str (x:Str)|byt (b:Array UInt8)|flt (b:UInt64)|ref (a:Addr)|ty (n:String)
 deriving DecidableEq
noncomputable def RelV:V->Value->Prop
 |.non,u=>u=Value.none
 |.bl b,u=>u=Value.bool b
 |.int i,u=>∃t,u=Value.int i t
 |.str x,u=>∃t,u=Value.str x t
 |.byt b,u=>∃t,u=Value.bytes b t
 |.flt b,u=>∃t,u=Value.float b t
 |.ref a,u=>u=Value.ref a
 |.ty n,u=>u=Value.type n
noncomputable abbrev Vals:List V->WC->Prop:=Paired RelV
theorem Vals.length(r:Vals xs us):xs.length=us.length:=SW r
theorem Vals.get:∀{xs:List V} {us:WC} {i:Nat} {x:V},Vals xs us->xs[i]?=some x->∃u,us[i]?=some u/\RelV x u
 |_,_,_,_,.nil,e=>by simp at e
 |_,_,0,_,.cons r _,e=>by grind
 |_,_,i+1,x,.cons _ t,e=>by
  obtain⟨u,h1,h2⟩:=Vals.get (i:=i) (x:=x) t (by simp_all)
  simp_all
theorem Vals.set(r:RelV x u):∀{xs:List V} {us:WC} (i:Nat),Vals xs us->Vals (xs.set i x) (us.set i u)
 |_,_,_,.nil=>.nil
 |_,_,0,.cons _ t=>.cons r t
 |_,_,i+1,.cons q t=>.cons q (Vals.set r i t)
theorem Vals.append:∀{xs ys:List V} {us ws:WC},Vals xs us->Vals ys ws->Vals (xs++ys) (us++ws)
 |_,_,_,_,.nil,s=>s
 |_,_,_,_,.cons r t,s=>.cons r (Vals.append t s)
theorem Vals.take:∀{xs:List V} {us:WC} (n:Nat),Vals xs us->Vals (xs.take n) (us.take n)
 |_,_,0,_=>.nil
 |_,_,_+1,.nil=>.nil
 |_,_,n+1,.cons r t=>.cons r (Vals.take n t)
theorem Vals.drop:∀{xs:List V} {us:WC} (n:Nat),Vals xs us->Vals (xs.drop n) (us.drop n)
 |_,_,0,r=>r
 |_,_,_+1,.nil=>.nil
 |_,_,n+1,.cons _ t=>Vals.drop n t
noncomputable def qA:Option V->Option Value->Prop
 |some v,some u=>RelV v u
 |none,none=>True
 |_,_=>False
noncomputable def KV{κ:Type}:List (κ×V)->List (κ×Value)->Prop:=Paired λ(p:κ×V) (q:κ×Value)=>p.1=q.1/\RelV p.2 q.2
noncomputable def kV:Key->V
 |.inl i=>.int i
 |.inr x=>.str x
inductive HO where
 |lst (xs:List V)
 |tup (xs:List V)
 |dK (kvs:List (Key×V))|dT (kvs:List (List Key×V))
 |set (S:Int->Bool) (n:Nat)
 |ins (C dx:Addr) (fs:List (Str×V))
 |own (x:Addr)
 |xd (fs:List (Str×V))
 |met (f x:Addr)
 |rng (lo hi:Int)
 |frz (o:Obj) (u:HO)
 |tbl (ps:WJ)
 |ext (φ:Heap->Prop)
noncomputable abbrev Hp:=Addr->Option HO
noncomputable def upd(H:Hp)(a:Addr)(o:HO):Hp:=λb=>if b=a then some o else H b
theorem bg:upd H a o a=some o:=by grind[upd]
theorem aE(h:b≠a):upd H a o b=H b:=by simp[upd,h]
theorem NV{H:Hp}(h:H a=some o)(h':H b=some u)(d:o≠u):a≠b:=by
 grind
theorem aI{H:Hp}(h:H a=some o)(h':H b=none):a≠b:=by
 grind
section
variable (P:WL) (w:World)
noncomputable def cW(H:Hp)(h:Heap)(a:Addr):HO->Prop
 |.lst xs=>xs.length<=sizeLine/\∃(its:WC) (n:Nat),Vals xs its/\h.get? a=some {cls:=.type "list",data:=.seq its.toArray n}
 |.tup xs=>xs.length<=sizeLine/\∃its:WC,Vals xs its/\IsTup h a its.toArray
 |.dK kvs=>kvs.length<=sizeLine/\(a==sysModules)=false/\∃vs,KV kvs vs/\h.DictOf (bV P w) a vs
 |.dT kvs=>kvs.length<=sizeLine/\(a==sysModules)=false/\∃xs:List (List Key×Addr×Value),
   Paired (λ(p:List Key×V) (q:List Key×Addr×Value)=>p.1=q.1/\H q.2.1=some (.tup (p.1.map kV))/\RelV p.2 q.2.2) kvs xs /\
   ∃o es ep,h.get? a=some o/\o.ExactDict/\o.data=.dict es ep/\es.toList=xs.map (entryOfKey (tupleKind (bV P w)))/\(xs.map (·.1)).Nodup
 |.set S n=>h.SetOf (intKind P w) a S n
 |.ins C dx fs=>H dx=some (.own a)/\fs.length<=1000/\dx≠a/\h.get? a=some (PySem.W.instObj C dx) /\
   ∃mA,h.Ns1 dx mA/\(∀f,qA (fs.lookup f) (mA f))/\PySem.Within mA (fs.map (·.1))
 |.own _=>∃o,h.get? a=some o
 |.xd fs=>∃mA,h.Ns1 a mA/\∀f,qA (fs.lookup f) (mA f)
 |.rng lo hi=>∃t u v,h.get? a=some {cls:=.type "range",data:=.fields #[.int lo t,.int hi u,.int 1 v]}
 |.frz o u=>h.get? a=some o/\cW H h a u
 |.tbl ps=>h.get? a=some {cls:=.none,data:=.fields ps}
 |.met f x=>h.get? a=some (PySem.W.methodObj (.ref f) (.ref x))
 |.ext φ=>φ h/\(∃o,h.get? a=some o)/\∀h1 h2:Heap,φ h1->(∀o,h1.get? a=some o->h2.get? a=some o)->φ h2
noncomputable def mr(H:Hp)(h:Heap):Prop:=∀a o,H a=some o->cW P w H h a o
end
section
variable {P:WL} {w:World} {H H':Hp} {h h':Heap} {a:Addr} {o:HO}
theorem cW.lt(x:cW P w H h a o):a<h.objs.size:=by
 cases o with
 |lst xs=>obtain⟨_,_,_,_,e⟩:=x;exact Sv e
 |tup xs=>obtain⟨_,_,_,p⟩:=x;exact p.lt
 |dK kvs=>obtain⟨_,_,_,_,o,_,_,e,_⟩:=x;exact Sv e
 |dT kvs=>obtain⟨_,_,_,_,o,_,_,e,_⟩:=x;exact Sv e
 |set S n=>obtain⟨o,_,_,_,e,_⟩:=x;exact Sv e
 |ins C dx fs=>obtain⟨_,_,_,e,_⟩:=x;exact Sv e
 |own y=>obtain⟨_,e⟩:=x;exact Sv e
 |xd fs=>obtain⟨_,⟨_,_,_,e,_⟩,_⟩:=x;exact Sv e
 |rng lo hi=>obtain⟨_,_,_,e⟩:=x;exact Sv e
 |frz ob u=>obtain⟨e,_⟩:=x;exact Sv e
 |tbl ps=>exact Sv x
 |met f y=>exact Sv x
 |ext φ=>obtain⟨_,⟨_,e⟩,_⟩:=x;exact Sv e
theorem Paired.kD:∀{l₁:List α} {l₂:List β},Paired F l₁ l₂->(∀a b,F a b->G a b)->Paired G l₁ l₂
 |_,_,.nil,_=>.nil
 |_,_,.cons r t,f=>.cons (f _ _ r) (Paired.kD t f)
theorem cW.sV(x:cW P w H h a o)(k:∀b u,(b=a\/H b=some (.own a))->h.get? b=some u->h'.get? b=some u)
 (ho:∀b,H b=some (.own a)->H' b=some (.own a))(ht:∀b xs,H b=some (.tup xs)->H' b=some (.tup xs)):cW P w H' h' a o:=by
 induction o with
 |lst xs=>obtain⟨z,its,n,r,e⟩:=x;exact⟨z,its,n,r,k _ _ (.inl rfl) e⟩
 |tup xs=>obtain⟨z,its,r,ob,e,c⟩:=x;exact⟨z,its,r,ob,k _ _ (.inl rfl) e,c⟩
 |dK kvs=>obtain⟨z,y,vs,r,ob,es,ep,e,c⟩:=x;exact⟨z,y,vs,r,ob,es,ep,k _ _ (.inl rfl) e,c⟩
 |dT kvs=>obtain⟨z,y,xs,r,ob,es,ep,e,c⟩:=x;exact⟨z,y,xs,Paired.kD r λp q z=>⟨z.1,ht _ _ z.2.1,z.2.2⟩,ob,es,ep,k _ _ (.inl rfl) e,c⟩
 |set S n=>obtain⟨ob,es,ep,t,e,c⟩:=x;exact⟨ob,es,ep,t,k _ _ (.inl rfl) e,c⟩
 |ins C dx fs=>obtain⟨d,z,ne,e,mA,⟨od,es,ep,e2,c⟩,r⟩:=x;exact⟨ho _ d,z,ne,k _ _ (.inl rfl) e,mA,⟨od,es,ep,k _ _ (.inr d) e2,c⟩,r⟩
 |own y=>obtain⟨ob,e⟩:=x;exact⟨ob,k _ _ (.inl rfl) e⟩
 |xd fs=>obtain⟨mA,⟨od,es,ep,e,c⟩,r⟩:=x;exact⟨mA,⟨od,es,ep,k _ _ (.inl rfl) e,c⟩,r⟩
 |rng lo hi=>obtain⟨t,u,v,e⟩:=x;exact⟨t,u,v,k _ _ (.inl rfl) e⟩
 |frz ob u ih=>obtain⟨e,q⟩:=x;exact⟨k _ _ (.inl rfl) e,ih q⟩
 |tbl ps=>have e:h.get? a=some {cls:=.none,data:=.fields ps}:=x;show h'.get? a=some {cls:=.none,data:=.fields ps};exact k a _ (.inl rfl) e
 |met f y=>have e:h.get? a=some (PySem.W.methodObj (.ref f) (.ref y)):=x;show h'.get? a=some (PySem.W.methodObj (.ref f) (.ref y));exact k a _ (.inl rfl) e
 |ext φ=>obtain⟨p,⟨o,e⟩,st⟩:=x;exact⟨st _ _ p λo q=>k _ _ (.inl rfl) q,⟨o,k _ _ (.inl rfl) e⟩,st⟩
theorem mr.lt(x:mr P w H h)(e:H a=some o):a<h.objs.size:=(x a o e).lt
theorem mr.fresh(x:mr P w H h)(e:h.objs.size<=a):H a=none:=by
 cases q:H a with
 |none=>rfl
 |some u=>exact absurd (Sx (x.lt q) e) (SQ _)
theorem mr.kept(x:mr P w H h)(k:∀b u,h.get? b=some u->h'.get? b=some u):mr P w H h':=λa o e=>
 (x a o e).sV (λb u _ q=>k b u q) (λ_ q=>q) λ_ _ q=>q
theorem mr.laid(x:mr P w H h)(k:∀b u,h.get? b=some u->h'.get? b=some u)(hp:h.objs.size<=a)(new:cW P w (upd H a o) h' a o):mr P w (upd H a o) h':=λb u e=>by
 have hn:=x.fresh hp;by_cases hb:b=a
 ·grind[bg]
 ·rw[aE hb]at e;exact(x b u e).sV (λc v _ q=>k c v q) (λc q=>by rw[aE (aI q hn)];exact q) λc xs q=>by rw[aE (aI q hn)];exact q
end
noncomputable def Rd(H:Hp)(a:Addr)(u:HO):Prop:=H a=some u\/∃o,H a=some (.frz o u)
theorem Rd.ok(r:Rd H a u)(x:mr P w H h):cW P w H h a u:=by
 rcases r with r|⟨o,r⟩
 ·exact x a u r
 ·obtain⟨_,q⟩:=x a _ r;exact q
noncomputable def NG:Option HO->Prop
 |some (.lst _)=>True
 |some (.dK _)=>True
 |some (.dT _)=>True
 |some (.set _ _)=>True
 |some (.ins _ _ _)=>True
 |some (.ext _)=>True
 |_=>False
section
variable {P:WL} {w:World} {H:Hp} {h h':Heap} {x e:Addr} {o':HO}
theorem mr.write(ok:mr P w H h)(mu:NG (H x))(he:e=x\/H e=some (.own x))(k:∀b u,b≠e->h.get? b=some u->h'.get? b=some u)(heo:∃u,h'.get? e=some u)
 (new:cW P w (upd H x o') h' x o'):mr P w (upd H x o') h':=λb u q=>by
 have nown:∀c y,H c=some (.own y)->c≠x:=λc y r z=>by subst z;rw[r]at mu;exact mu
 have ntup:∀c xs,H c=some (.tup xs)->c≠x:=λc xs r z=>by subst z;rw[r]at mu;exact mu
 by_cases hb:b=x
 ·grind[bg]
 ·rw[aE hb]at q;by_cases hbe:b=e
  ·have q':H b=some (.own x):=by
    rcases he with z|z
    ·exact absurd (hbe.trans z) hb
    ·rw[hbe];exact z
   rw[q]at q';cases q';obtain⟨v,hv⟩:=heo;exact⟨v,by rw[hbe];exact hv⟩
  ·refine(ok b u q).sV (λc v hc r=>k c v ?_ r) (λc r=>by rw[aE (nown c b r)];exact r) λc xs r=>by rw[aE (ntup c xs r)];exact r
   rcases hc with rfl|hc
   ·exact hbe
   ·rintro rfl;rcases he with z|z
    ·exact nown c b hc z
    ·rw[hc]at z;cases z;exact hb rfl
end
structure Un(fs ex:WB)(H H':Hp)(h h':Heap):Prop where
 keep:∀b o,h.get? b=some o->H b=none->b∉fs->b∉ex->h'.get? b=some o
 slot:∀b o,h.get? b=some o->H b=none->b∈fs->b∉ex->∃sl,h'.get? b=some {o with slots:=sl}
 free:∀b o,h.get? b=some o->H b=none->b∉ex->H' b=none
 there:∀b o,h.get? b=some o->b∉ex->∃o',h'.get? b=some o'
 tups:∀b xs,H b=some (.tup xs)->H' b=some (.tup xs)
 frzs:∀b o u,H b=some (.frz o u)->H' b=some (.frz o u)
 tbls:∀b ps,H b=some (.tbl ps)->∃more,H' b=some (.tbl (ps++more))
section
variable {fs fs' ex ex':WB} {H H1 H2:Hp} {h h1 h2 h':Heap} {a x e:Addr} {o:HO}
theorem Un.any(u:Un fs ex H H1 h h1)(q:h.get? b=some ob)(n:H b=none)(hx:b∉ex):∃sl,h1.get? b=some {ob with slots:=sl}:=by
 by_cases hb:b∈fs
 ·exact u.slot b ob q n hb hx
 ·exact⟨ob.slots,u.keep b ob q n hb hx⟩
theorem Un.kept(k:∀b u,h.get? b=some u->h'.get? b=some u):Un fs ex H H h h':=
 ⟨λb ob q _ _ _=>k b ob q,λb ob q _ _ _=>⟨ob.slots,k b ob q⟩,λ_ _ _ n _=>n,λb ob q _=>⟨ob,k b ob q⟩,λ_ _ q=>q,λ_ _ _ q=>q,λ_ ps q=>⟨#[],by grind⟩⟩
theorem Un.refl:Un fs ex H H h h:=Un.kept λ_ _ q=>q
theorem Un.laid(k:∀b u,h.get? b=some u->h'.get? b=some u)(hp:h.objs.size<=a)(hn:H a=none):Un fs ex H (upd H a o) h h' where
 keep:=λb u q _ _ _=>k b u q
 slot:=λb u q _ _ _=>⟨u.slots,k b u q⟩
 free:=λb u q n _=>by rw[aE (SI (Sx (Sv q) hp))];exact n
 there:=λb u q _=>⟨u,k b u q⟩
 tups:=λb xs q=>by rw[aE (aI q hn)];exact q
 frzs:=λb u xs q=>by rw[aE (aI q hn)];exact q
 tbls:=λb ps q=>⟨#[],by rw[aE (aI q hn),q];simp⟩
theorem Un.write(mu:NG (H x))(he:e=x\/H e=some (.own x))(k:∀b u,b≠e->h.get? b=some u->h'.get? b=some u)(heo:∃u,h'.get? e=some u):Un fs ex H (upd H x o) h h':=by
 have hx:∀b,H b=none->b≠x:=λb n z=>by subst z;rw[n]at mu;exact mu
 have hb:∀b,H b=none->b≠e:=λb n z=>by
  grind
 have hm:∀b u,H b=some u->¬ NG (some u)->b≠x:=λb u q nm z=>by grind
 refine⟨λb u q n _ _=>k b u (hb b n) q,λb u q n _ _=>⟨u.slots,k b u (hb b n) q⟩,λb u q n _=>by rw[aE (hx b n)];exact n,λb u q _=>?_,
  λb xs q=>by rw[aE (hm b _ q λz=>z)];exact q,λb u xs q=>by rw[aE (hm b _ q λz=>z)];exact q,λb ps q=>⟨#[],by rw[aE (hm b _ q λz=>z),q];simp⟩⟩
 grind
end
noncomputable def Fi(h:Heap)(H:Hp):WB:=(List.range h.objs.size).filter λa=>(H a).isSome
noncomputable def x5(h:Heap)(H:Hp):Heap:=PySem.W.hideAll h (Fi h H)
theorem Ec(h:Heap)(H:Hp):(x5 h H).objs.size=h.objs.size:=PySem.W.hideAll_size _ _
theorem Fj(e:h.get? b=some o)(n:H b=none):(x5 h H).get? b=some o:=
 PySem.W.hideAll_get _ e λhm=>by
  have q  := (S6.mp hm).2
  grind
theorem Ij(e:(x5 h H).get? b=some o):h.get? b=some o/\H b=none:=by
 have e'  := PySem.W.of_hideAll _ e;refine⟨e',?_⟩
 cases q:H b with
 |none=>rfl
 |some x=>
  have hm:b∈Fi h H:=S6.mpr ⟨TK.mpr (Sv e'),by simp[q]⟩;have z:(x5 h H).get? b=none:=PySem.W.hideAll_none _ hm
  grind
noncomputable def Ik(g h:Heap)(L:Addr):Ww:=(List.range h.objs.size).filterMap λa=>if a=L\/(g.get? a).isSome=true then none else(h.get? a).map λo=>(a,o)
noncomputable def rest(g h:Heap)(L d:Addr):Ww:=(Ik g h L).filter λp=>decide (p.1≠d)
structure Mod(K:WD)(mg:Wz)(base:Heap):Prop where
 kin:K.In base
 glob:base.Ns mainGlobals mg
 blt:∃mb,base.Ns builtinsNs mb/\∀x:Str,x ≠ "__name__" -> mb x=bootBuiltins x
 nolimit:base.NoLimit
structure Cx where
 prog:WL
 w:World
 K:WD
 mg:Str->Option Value
 base:Heap
 A:WN
 N:WE
 s₀:WO
 H₀:Hp
 env:Env
 outer:List Env
 stack:List Env
 ex:WB
 fn:Str->Bool
 calm:Bool
 pn:Ww
 xe:Wv
noncomputable def vR(l:List Env):WB:=l.filterMap (·.frame)
noncomputable abbrev Cx.fs(X:Cx):WB:=vR X.outer
noncomputable def Kx(sc:Scope)(x:Str):Prop:=sc.names.lookup x=some .local\/sc.names.lookup x=some .cell\/sc.names.lookup x=some .free
noncomputable def Loc(sc:Scope)(x:Str):Prop:=sc.names.lookup x=some .local\/sc.names.lookup x=some .cell
noncomputable def Look(env:Env)(h:Heap)(m:Wz)(x:Str)(u:Value):Prop:=
 (env.kindOf x=some .local/\m x=some u)\/((env.kindOf x=some .cell\/env.kindOf x=some .free)/\∃c,env.cells.lookup x=some c/\h.IsCell c (some u))
structure Cx.Ok(X:Cx):Prop where
 mod:Mod X.K X.mg X.base
 kind:X.env.scope.kind=.function
 glob:X.env.globals=mainGlobals
 blt:X.env.builtins=builtinsNs
 above:X.s₀.heap.objs.size<=X.env.locals
 inj:∀x y c,X.env.cells.lookup x=some c->X.env.cells.lookup y=some c->x=y
 has:∀x,(X.env.kindOf x=some .cell\/X.env.kindOf x=some .free)->∃c,X.env.cells.lookup x=some c
 cab:∀x c,X.fn x=true->X.env.cells.lookup x=some c->X.s₀.heap.objs.size<=c
 hd:X.calm=true->X.A.handled=none
 frames:X.A.frames=some X.stack
 stk:X.stack=X.outer\/(X.stack=X.env::X.outer/\X.env.frame=some X.env.locals)
 exf:∀b∈X.ex,b≠X.env.locals/\∀x c,X.env.cells.lookup x=some c->c≠b
 bs:∀b o,X.base.get? b=some o->X.s₀.heap.get? b=some o/\X.H₀ b=none
 bsz:X.base.objs.size<=X.s₀.heap.objs.size
 noex:∀b o,X.base.get? b=some o->b∉X.ex
 exfs:∀b∈X.ex,b∉X.fs
 qB:X.s₀.heap.FunFrames X.base X.outer
 frf:∀b∈X.fs,X.H₀ b=none
structure Inv(X:Cx)(pins:Ww)(σ:List (Option V))(H:Hp)(s:WO):Prop where
 ok:X.Ok
 os:s.os=X.s₀.os
 bare:AllBare s.gens
 base:Un X.fs X.ex X.H₀ H X.s₀.heap s.heap
 loc:∃m,s.heap.Ns X.env.locals m/\∀(i:Nat) (x:Str) (v:V),X.N[i]?=some x->σ[i]?=some (some v)->Kx X.env.scope x->∃u,RelV v u/\Look X.env s.heap m x u
 cell:∀x c,X.env.cells.lookup x=some c->∃v,s.heap.IsCell c v
 free:H X.env.locals=none
 freeC:∀x c,X.env.cells.lookup x=some c->H c=none
 pin:∀p∈X.pn++pins,s.heap.get? p.1=some p.2/\H p.1=none/\p.1≠X.env.locals/\p.1∉X.fs/\∀v,p.2.data≠.cell v
 hok:mr X.prog X.w H s.heap
 len:σ.length=X.N.length
section
variable {X:Cx} {pins:Ww} {σ:List (Option V)} {H H':Hp} {s:WO} {h':Heap}
theorem Cx.Ok.Qb(ok:X.Ok)(e:X.base.get? b=some o):b∉X.fs:=λhb=>by
 have:=(ok.qB.mem hb).1
 grind
theorem Inv.bs(I:Inv X pins σ H s):∀b o,X.base.get? b=some o->s.heap.get? b=some o/\H b=none:=λb o e=>
 ⟨I.base.keep b o (I.ok.bs b o e).1 (I.ok.bs b o e).2 (I.ok.Qb e) (I.ok.noex b o e),I.base.free b o (I.ok.bs b o e).1 (I.ok.bs b o e).2 (I.ok.noex b o e)⟩
theorem Inv.bk(I:Inv X pins σ H s):∀b o,X.base.get? b=some o->s.heap.get? b=some o:=λb o e=>(I.bs b o e).1
theorem Inv.mod(I:Inv X pins σ H s):Mod X.K X.mg X.base:=I.ok.mod
theorem Inv.vS(I:Inv X pins σ H s):X.K.In s.heap:=I.ok.mod.kin.keeps I.bk
theorem Inv.lt(I:Inv X pins σ H s):X.env.locals<s.heap.objs.size:=let ⟨_,hn,_⟩:=I.loc;hn.lt
theorem Inv.sz(I:Inv X pins σ H s):X.s₀.heap.objs.size<=s.heap.objs.size:=Sw I.ok.above (Vw I.lt)
theorem Inv.Bj(I:Inv X pins σ H s){a:Addr}(h:s.heap.objs.size<=a):a∉X.fs:=λhb=>by obtain⟨_,o,ho,_⟩:=I.ok.qB.mem hb;exact absurd (Sx (Sv ho) (Sw I.sz h)) (SQ _)
theorem Inv.Lw(I:Inv X pins σ H s):∀x c,X.env.cells.lookup x=some c->c≠X.env.locals:=λx c e z=>by
 obtain⟨v,o,ho,hd⟩:=I.cell x c e;obtain⟨m,⟨o',es,ep,ho',hd',_⟩,_⟩:=I.loc
 grind
theorem Inv.qB(I:Inv X pins σ H s):s.heap.FunFrames X.base X.outer:=by
 have all:∀(l:List Env),(∀b∈vR l,b∈X.fs)->X.s₀.heap.FunFrames X.base l->s.heap.FunFrames X.base l:=by
  intro l
  induction l with
  |nil=>intro _ _;trivial
  |cons env r ih=>intro hs hl;obtain⟨hk,⟨L,o,hf,hn,ho,hd⟩,hr⟩:=hl;have hL  := hs L (by simp_all[vR]);obtain⟨sl,e⟩:=I.base.slot L o ho (I.ok.frf L hL) hL λz=>I.ok.exfs L z hL;exact⟨hk,⟨L,_,hf,hn,e,hd⟩,ih (λb hb=>hs b (by simp_all[vR])) hr⟩
 exact all X.outer (λ_ hb=>hb) I.ok.qB
theorem Inv.stack(I:Inv X pins σ H s):s.heap.FunFrames X.base X.stack:=by
 rcases I.ok.stk with e|⟨e,hf⟩
 ·rw[e];exact I.qB
 ·rw[e];obtain⟨m,hn,_⟩:=I.loc;refine .cons (by grind[I.ok.kind]) hf hn ?_ I.qB;exact Heap.get?_none_of_le (Sw I.ok.bsz I.ok.above)
theorem Inv.jR(I:Inv X pins σ H s):∀b∈vR X.stack,b∈X.env.locals::X.fs:=λb hb=>by
 rcases I.ok.stk with e|⟨e,hf⟩
 ·grind
 simp_all[vR]
theorem Inv.CB(I:Inv X pins σ H s):∀b∈vR X.stack,H b=none:=λb hb=>by
 rcases Sz.mp (I.jR b hb)with e|hb
 ·rw[e];exact I.free
 ·obtain⟨_,o,ho,_⟩:=I.ok.qB.mem hb;exact I.base.free b o ho (I.ok.frf b hb) λz=>I.ok.exfs b z hb
theorem Inv.step{ch:WB}(I:Inv X pins σ H s)
 (hch:∀b∈ch,(b∈X.ex\/X.s₀.heap.objs.size<=b)/\b≠X.env.locals/\(∀x c,X.env.cells.lookup x=some c->c≠b)/\∀p∈X.pn++pins,p.1≠b)
 (keep:∀b o,b≠X.env.locals->b∉X.fs->b∉ch->s.heap.get? b=some o->H b=none->h'.get? b=some o)
 (slot:∀b o,b≠X.env.locals->b∈X.fs->b∉ch->s.heap.get? b=some o->H b=none->∃sl,h'.get? b=some {o with slots:=sl})(free:∀b o,b∉ch->s.heap.get? b=some o->H b=none->H' b=none)
 (there:∀b o,b∉ch->s.heap.get? b=some o->∃o',h'.get? b=some o')
 (tups:∀b xs,H b=some (.tup xs)->H' b=some (.tup xs))(frzs:∀b o u,H b=some (.frz o u)->H' b=some (.frz o u))(tbls:∀b ps,H b=some (.tbl ps)->∃more,H' b=some (.tbl (ps++more)))
 (ns:∀m,s.heap.Ns X.env.locals m->h'.Ns X.env.locals m)(hok:mr X.prog X.w H' h')(hg:AllBare g') :
  Inv X pins σ H' {s with heap:=h',gens:=g',drawn:=d',toks:=t'}:=by
 have neL:∀b o,X.s₀.heap.get? b=some o->b≠X.env.locals:=λb o e=>SI (Sx (Sv e) I.ok.above)
 have neC:∀b o,X.s₀.heap.get? b=some o->b∉X.ex->b∉ch:=λb o e hx hb=>by
  rcases(hch b hb).1 with z|z
  ·exact hx z
  ·exact absurd (Sx (Sv e) z) (SQ _)
 have cellK:∀x c,X.env.cells.lookup x=some c->∀v,s.heap.IsCell c v->h'.IsCell c v:=λx c e v ⟨o,ho,hd⟩=>by
  have nch:c∉ch:=λz=>(hch c z).2.2.1 x c e rfl;by_cases hc:c∈X.fs
  ·obtain⟨sl,q⟩:=slot c o (I.Lw x c e) hc nch ho (I.freeC x c e);exact⟨_,q,hd⟩
  ·exact⟨o,keep c o (I.Lw x c e) hc nch ho (I.freeC x c e),hd⟩
 refine⟨I.ok,I.os,hg,⟨λb o e n hb hx=>?_,λb o e n hb hx=>?_,λb o e n hx=>?_,λb o e hx=>?_,λb xs e=>tups b xs (I.base.tups b xs e),λb o xs e=>frzs b o xs (I.base.frzs b o xs e),λb ps e=>?_⟩,?_,λx c e=>?_,?_,λx c e=>?_,λp hp=>?_,hok,I.len⟩
 ·exact keep b o (neL b o e) hb (neC b o e hx) (I.base.keep b o e n hb hx) (I.base.free b o e n hx)
 ·obtain⟨sl,e1⟩:=I.base.slot b o e n hb hx;obtain⟨sl',e2⟩:=slot b _ (neL b o e) hb (neC b o e hx) e1 (I.base.free b o e n hx);exact⟨sl',e2⟩
 ·obtain⟨o',e1⟩:=I.base.there b o e hx;exact free b o' (neC b o e hx) e1 (I.base.free b o e n hx)
 ·obtain⟨o',e1⟩:=I.base.there b o e hx;exact there b o' (neC b o e hx) e1
 ·obtain⟨m1,e1⟩:=I.base.tbls b ps e;obtain⟨m2,e2⟩:=tbls b _ e1;exact⟨m1++m2,by rw[e2,Array.append_assoc]⟩
 ·obtain⟨m,hn,hl⟩:=I.loc;refine⟨m,ns m hn,λi x v e1 e2 e3=>?_⟩;obtain⟨u,r,l⟩:=hl i x v e1 e2 e3;refine⟨u,r,?_⟩;rcases l with l|⟨k,c,e,z⟩
  ·exact .inl l
  ·exact .inr ⟨k,c,e,cellK x c e _ z⟩
 ·obtain⟨v,z⟩:=I.cell x c e;exact⟨v,cellK x c e v z⟩
 ·obtain⟨m,⟨o,_,_,ho,_⟩,_⟩:=I.loc;exact free _ o (λz=>(hch _ z).2.1 rfl) ho I.free
 ·obtain⟨v,o,ho,hd⟩:=I.cell x c e;exact free c o (λz=>(hch c z).2.2.1 x c e rfl) ho (I.freeC x c e)
 ·obtain⟨e,n,ne,nf,d⟩:=I.pin p hp;have nch:p.1∉ch:=λz=>(hch p.1 z).2.2.2 p hp rfl;exact⟨keep p.1 p.2 ne nf nch e n,free p.1 p.2 nch e n,ne,nf,d⟩
theorem Inv.un(I:Inv X pins σ H s)(u:Un X.fs [] H H' s.heap h')(hok:mr X.prog X.w H' h'):Inv X pins σ H' {s with heap:=h',toks:=t'}:=by
 obtain⟨m,⟨o,es,ep,ho,r⟩,_⟩:=id I.loc;obtain⟨sl,hL⟩:=u.any ho I.free (by simp)
 exact I.step (ch:=[]) (λ_ z=>nomatch z) (λb o _ hb _ e n=>u.keep b o e n hb (by simp)) (λb o _ hb _ e n=>u.slot b o e n hb (by simp)) (λb o _ e n=>u.free b o e n (by simp)) (λb o _ e=>u.there b o e (by simp)) u.tups u.frzs u.tbls (λm' hm=>by
  obtain⟨o',es',ep',ho',r'⟩:=hm;rw[ho]at ho';cases ho'
  exact⟨_,es',ep',hL,r'⟩) hok I.bare
theorem Inv.call(I:Inv X pins σ H s)(u:Un (vR X.stack) ch H H' s.heap h')(hok:mr X.prog X.w H' h')(hg:AllBare g')
 (hch:∀b∈ch,(b∈X.ex\/X.s₀.heap.objs.size<=b)/\b≠X.env.locals/\(∀x c,X.env.cells.lookup x=some c->c≠b)/\∀p∈X.pn++pins,p.1≠b) :
  Inv X pins σ H' {s with heap:=h',gens:=g',drawn:=d',toks:=t'}:=by
 obtain⟨m,⟨o,es,ep,ho,r⟩,_⟩:=id I.loc;obtain⟨sl,hL⟩:=u.any ho I.free λz=>(hch _ z).2.1 rfl
 exact I.step hch (λb o hL hb hc e n=>u.keep b o e n (λz=>(Sz.mp (I.jR b z)).elim hL hb) hc) (λb o _ _ hc e n=>u.any e n hc) (λb o hc e n=>u.free b o e n hc) (λb o hc e=>u.there b o e hc) u.tups u.frzs u.tbls (λm' hm=>by
  obtain⟨o',es',ep',ho',r'⟩:=hm;rw[ho]at ho';cases ho'
  exact⟨_,es',ep',hL,r'⟩) hok hg
theorem Inv.turned(I:Inv X pins σ H s)(k:∀b o,b≠it->s.heap.get? b=some o->h'.get? b=some o)(hn:H it=none)(hL:it≠X.env.locals)
 (h1:it∈X.ex\/X.s₀.heap.objs.size<=it)(h2:∀x c,X.env.cells.lookup x=some c->c≠it)(h3:∀p∈X.pn++pins,p.1≠it):Inv X pins σ H {s with heap:=h',toks:=t'}:=by
 have nit:∀b u,H b=some u->b≠it:=λb u e z=>by grind
 refine I.step (g':=s.gens) (d':=s.drawn) (ch:=[it]) (λb hb=>?_) (λb o _ _ hc e _=>k b o (λz=>hc (by simp[z])) e) (λb o _ _ hc e _=>⟨o.slots,k b o (λz=>hc (by simp[z])) e⟩) (λ_ _ _ _ n=>n)
  (λb o hc e=>⟨o,k b o (λz=>hc (by simp[z])) e⟩) (λ_ _ e=>e) (λ_ _ _ e=>e) (λb ps e=>⟨#[],by grind⟩) (λm hm=>?_) (λb u e=>?_) I.bare
 ·have e:b=it:=by grind
  subst e;exact⟨h1,hL,h2,h3⟩
 ·obtain⟨o,es,ep,ho,r⟩:=hm;exact⟨o,es,ep,k _ o (VC hL) ho,r⟩
 ·refine(I.hok b u e).sV (λc v hc q=>k c v ?_ q) (λ_ q=>q) λ_ _ q=>q;rcases hc with z|z
  ·rw[z];exact nit b u e
  ·exact nit c _ z
theorem Inv.tok(I:Inv X pins σ H s)(t:Nat):Inv X pins σ H {s with toks:=t}:=I.un (h':=s.heap) (t':=t) Un.refl I.hok
theorem Inv.kept(I:Inv X pins σ H s)(k:∀b u,s.heap.get? b=some u->h'.get? b=some u):Inv X pins σ H {s with heap:=h',toks:=t'}:=I.un (Un.kept k) (I.hok.kept k)
theorem Inv.laid{a:Addr}(I:Inv X pins σ H s)(k:∀b u,s.heap.get? b=some u->h'.get? b=some u)(hp:s.heap.objs.size<=a)(new:cW X.prog X.w (upd H a o) h' a o) :
  Inv X pins σ (upd H a o) {s with heap:=h',toks:=t'}:=I.un (Un.laid k hp (I.hok.fresh hp)) (I.hok.laid k hp new)
theorem Inv.write(I:Inv X pins σ H s)(mu:NG (H x))(he:e=x\/H e=some (.own x))(k:∀b u,b≠e->s.heap.get? b=some u->h'.get? b=some u)(heo:∃u,h'.get? e=some u)
 (new:cW X.prog X.w (upd H x o) h' x o):Inv X pins σ (upd H x o) {s with heap:=h',toks:=t'}:=I.un (Un.write mu he k heo) (I.hok.write mu he k heo new)
theorem Inv.iH(I:Inv X pins σ H s)(h:∀p∈pins',s.heap.get? p.1=some p.2/\H p.1=none/\p.1≠X.env.locals/\p.1∉X.fs/\∀v,p.2.data≠.cell v):Inv X pins' σ H s:=
 ⟨I.ok,I.os,I.bare,I.base,I.loc,I.cell,I.free,I.freeC,λp hp=>(SD.mp hp).elim (λz=>I.pin p (S7 _ z)) (h p),I.hok,I.len⟩
theorem zy{N:WE}(hN:N.Nodup){i j:Nat}(a:N[i]?=some x)(b:N[j]?=some x):i=j:=by obtain⟨h1,e1⟩:=SJ.mp a;obtain⟨h2,e2⟩:=SJ.mp b;exact(List.getElem_inj hN).mp (e1.trans e2.symm)
theorem qC(I:Inv X pins σ H s)(hN:X.N.Nodup)(hi:X.N[i]?=some x)(hx:Loc X.env.scope x)(r:RelV v u)
 (h:∀s',Inv X pins (σ.set i (some v)) H s'->(∃a,Heap.SameBut a s.heap s'.heap/\(a=X.env.locals\/X.env.cells.lookup x=some a))->Q () s')(hf:X.fn x=true\/X.env.scope.names.lookup x=some .local:=by first|exact .inl rfl|exact .inr rfl|assumption):wpAny M A (storeName X.env x u) Q E s:=by
 obtain⟨m,hn,hl⟩:=id I.loc;have hcls:(X.env.scope.kind == .class || (X.env.scope.kind == .module&&X.env.locals != X.env.globals))=false:=by rw[I.ok.kind];rfl
 have hiσ:i<σ.length:=by grind[I.len]
 have Lw:=I.Lw
 have tracked:∀{a:Addr} {h':Heap},(∃o,s.heap.get? a=some o/\H a=none)->Heap.SameBut a s.heap h'->mr X.prog X.w H h':=λ{a h'} ha hs b ob e=>by
  obtain⟨_,_,hfree⟩:=ha;refine(I.hok b ob e).sV (λc w' hc q=>(hs.2 c ?_).trans q) (λ_ q=>q) λ_ _ q=>q
  grind
 rcases hx with hk|hk
 ·refine wpAny_storeName_local hk hn (λh' hn' hs=>?_) hcls;obtain⟨oL,_,_,hoL,_⟩:=id hn;refine h _ ⟨I.ok,I.os,I.bare,⟨λb o e n hb hx=>?_,λb o e n hb hx=>?_,I.base.free,λb o e hx=>?_,I.base.tups,I.base.frzs,I.base.tbls⟩,⟨_,hn',λj y v' e1 e2 e3=>?_⟩,λy c e=>?_,I.free,I.freeC,λp hp=>?_,tracked ⟨oL,hoL,I.free⟩ hs,by simpa using I.len⟩ ⟨_,hs,.inl rfl⟩
  ·exact(hs.2 b (SI (Sx (Sv e) I.ok.above))).trans (I.base.keep b o e n hb hx)
  ·obtain⟨sl,e1⟩:=I.base.slot b o e n hb hx;exact⟨sl,(hs.2 b (SI (Sx (Sv e) I.ok.above))).trans e1⟩
  ·obtain⟨o',e1⟩:=I.base.there b o e hx;exact⟨o',(hs.2 b (SI (Sx (Sv e) I.ok.above))).trans e1⟩
  ·by_cases hj:j=i
   ·subst hj;rw[hi]at e1;cases e1;rw[Uj hiσ]at e2;cases e2;exact⟨u,r,.inl ⟨hk,by simp⟩⟩
   ·rw[Vn (VC hj)]at e2;obtain⟨u',r',q⟩:=hl j y v' e1 e2 e3;refine⟨u',r',?_⟩;rcases q with⟨k,e⟩|⟨k,c,e,z⟩
    ·refine .inl ⟨k,?_⟩;have:y≠x:=λe=>hj (zy hN e1 (e▸hi));simp[this,e]
    ·exact .inr ⟨k,c,e,z.sameBut hs (Lw y c e)⟩
  ·obtain⟨w',z⟩:=I.cell y c e;exact⟨w',z.sameBut hs (Lw y c e)⟩
  ·obtain⟨e,n,ne,nf,d⟩:=I.pin p hp;exact⟨(hs.2 p.1 ne).trans e,n,ne,nf,d⟩
 ·have hfn:X.fn x=true:=by
   rcases hf with z|z
   ·exact z
   ·rw[z]at hk;cases hk
  obtain⟨c,hc⟩:=I.ok.has x (.inl hk);obtain⟨w',z⟩:=I.cell x c hc;refine wpAny_storeName_cell I.ok.kind hk hc z (λh' hc' hs=>?_);obtain⟨oc,hoc,hocd⟩:=id z;refine h {s with heap:=h'} ⟨I.ok,I.os,I.bare,⟨λb o e n hb hx=>?_,λb o e n hb hx=>?_,I.base.free,λb o e hx=>?_,I.base.tups,I.base.frzs,I.base.tbls⟩,⟨m,hn.sameBut hs (VC (Lw x c hc)),λj y v' e1 e2 e3=>?_⟩,λy c' e=>?_,I.free,I.freeC,λp hp=>?_,tracked ⟨oc,hoc,I.freeC x c hc⟩ hs,by simpa using I.len⟩ ⟨c,hs,.inr hc⟩
  ·exact(hs.2 b (SI (Sx (Sv e) (I.ok.cab x c hfn hc)))).trans (I.base.keep b o e n hb hx)
  ·obtain⟨sl,e1⟩:=I.base.slot b o e n hb hx;exact⟨sl,(hs.2 b (SI (Sx (Sv e) (I.ok.cab x c hfn hc)))).trans e1⟩
  ·obtain⟨o',e1⟩:=I.base.there b o e hx;exact⟨o',(hs.2 b (SI (Sx (Sv e) (I.ok.cab x c hfn hc)))).trans e1⟩
  ·by_cases hj:j=i
   ·subst hj;rw[hi]at e1;cases e1;rw[Uj hiσ]at e2;cases e2;exact⟨u,r,.inr ⟨.inl hk,c,hc,hc'⟩⟩
   ·rw[Vn (VC hj)]at e2;obtain⟨u',r',q⟩:=hl j y v' e1 e2 e3;refine⟨u',r',?_⟩;rcases q with q|⟨k,c',e,z'⟩
    ·exact .inl q
    ·refine .inr ⟨k,c',e,z'.sameBut hs ?_⟩;rintro rfl;exact hj (zy hN e1 (I.ok.inj _ _ _ e hc▸hi))
  ·by_cases hcc:c'=c
   ·subst hcc;exact⟨_,hc'⟩
   ·obtain⟨w2,z2⟩:=I.cell y c' e;exact⟨w2,z2.sameBut hs hcc⟩
  ·obtain⟨e,n,ne,nf,d⟩:=I.pin p hp;refine⟨(hs.2 p.1 ?_).trans e,n,ne,nf,d⟩;intro q;rw[q,hoc]at e;have q':oc=p.2:=UB e;exact d w' (by rw[<- q'];exact hocd)
theorem mw(I:Inv X pins σ H s)(hN:X.N.Nodup)(hi:X.N[i]?=some x)(hx:Loc X.env.scope x)(r:RelV v u)
 (h:∀s',Inv X pins (σ.set i (some v)) H s'->Q () s')(hf:X.fn x=true\/X.env.scope.names.lookup x=some .local:=by first|exact .inl rfl|exact .inr rfl|assumption):wpAny M A (storeName X.env x u) Q E s:=
 qC I hN hi hx r (λs' I' _=>h s' I') hf
theorem Inv.Ky(I:Inv X pins σ H s)(ho:s'.os=s.os)(u:Un (vR X.stack) ch H H' s.heap s'.heap)(hok:mr X.prog X.w H' s'.heap)(hg:AllBare s'.gens)
 (hch:∀b∈ch,(b∈X.ex\/X.s₀.heap.objs.size<=b)/\b≠X.env.locals/\(∀x c,X.env.cells.lookup x=some c->c≠b)/\∀p∈X.pn++pins,p.1≠b):Inv X pins σ H' s':=by
 obtain⟨h',g',d',t',o'⟩:=s';have e  := ho;subst e;exact I.call u hok hg hch
end
noncomputable abbrev XK:=Value->Option Addr->Hp->Prop
noncomputable abbrev St:=List (Option V)
noncomputable abbrev VK:=V->Hp->Prop
noncomputable abbrev TE:=St->Hp->VK->Prop
noncomputable abbrev TT:=St->Hp->(Bool->Hp->Prop)->Prop
noncomputable abbrev TA:=St->Hp->(List V->Hp->Prop)->Prop
structure Ends where
 nx:St->Hp->Prop
 rt:VK
 bk:St->Hp->Prop:=λ_ _=>False
 ct:St->Hp->Prop:=λ_ _=>False
noncomputable abbrev TS:=Ends->St->Hp->Prop
noncomputable def EP(X:Cx)(pins:Ww)(σ:St)(Q:VK)(u:Value)(s':WO):Prop:=∃v H',Inv X pins σ H' s'/\RelV v u/\Q v H'
noncomputable def TP(X:Cx)(pins:Ww)(σ:St)(Q:Bool->Hp->Prop)(b:Bool)(s':WO):Prop:=∃H',Inv X pins σ H' s'/\Q b H'
noncomputable def AP(X:Cx)(pins:Ww)(σ:St)(Q:List V->Hp->Prop)(us:WC)(s':WO):Prop:=∃vs H',Inv X pins σ H' s'/\Vals vs us/\Q vs H'
noncomputable def SP(X:Cx)(pins:Ww)(D:Ends)(f:Flow)(s':WO):Prop:=
 match f with
 |.next=>∃σ' H',Inv X pins σ' H' s'/\D.nx σ' H'
 |.brk=>∃σ' H',Inv X pins σ' H' s'/\D.bk σ' H'
 |.cont=>∃σ' H',Inv X pins σ' H' s'/\D.ct σ' H'
 |.ret u=>∃v σ' H',Inv X pins σ' H' s'/\RelV v u/\D.rt v H'
noncomputable def PE(X:Cx)(e:Expr)(t:TE):Prop:=
 ∀(pins:Ww) (s:WO) (σ:St) (H:Hp) (Q:VK),Inv X pins σ H s->t σ H Q->wpAny (model X.prog X.w) X.A (eval e X.env) (EP X pins σ Q) X.xe s
noncomputable def PT(X:Cx)(e:Expr)(t:TT):Prop:=
 ∀(pins:Ww) (s:WO) (σ:St) (H:Hp) (Q:Bool->Hp->Prop),Inv X pins σ H s->t σ H Q->wpAny (model X.prog X.w) X.A (isTrue e X.env (eval e X.env)) (TP X pins σ Q) X.xe s
noncomputable def PW(X:Cx)(e:Expr)(t:TT):Prop:=
 ∀(whole:Sem Value) (pins:Ww) (s:WO) (σ:St) (H:Hp) (Q:Bool->Hp->Prop),Inv X pins σ H s->t σ H Q->wpAny (model X.prog X.w) X.A (isTrue e X.env whole) (TP X pins σ Q) X.xe s
theorem PW.pt(h:PW X e t):PT X e t:=h _
noncomputable def PA(X:Cx)(es:WG)(t:TA):Prop:=
 ∀(pos:Pos) (pins:Ww) (s:WO) (σ:St) (H:Hp) (Q:List V->Hp->Prop),Inv X pins σ H s->t σ H Q->wpAny (model X.prog X.w) X.A (spliced (backTo pos (starEach es X.env))) (AP X pins σ Q) X.xe s
noncomputable def PS(X:Cx)(st:Stmt)(t:TS):Prop:=
 ∀(pins:Ww) (s:WO) (σ:St) (H:Hp) (D:Ends),Inv X pins σ H s->t D σ H->wpAny (model X.prog X.w) X.A (exec st X.env) (SP X pins D) X.xe s
noncomputable def Bi(X:Cx)(st:List Stmt)(t:TS):Prop:=
 ∀(pins:Ww) (s:WO) (σ:St) (H:Hp) (D:Ends),Inv X pins σ H s->t D σ H->wpAny (model X.prog X.w) X.A (execs st X.env) (SP X pins D) X.xe s
theorem bH{M:Model}{A:WN}{E:Wv}{s:WO}(h:wpAny M A t Q E s)(hQ:∀a s,Q a s->Q' a s):wpAny M A t Q' E s:=TZ h hQ λ_ _ x=>x
section
variable {X:Cx}
noncomputable def Qc(i:Nat):TE:=λσ H Q=>∃v,σ[i]?=some (some v)/\Q v H
noncomputable def tC(v:V):TE:=λ_ H Q=>Q v H
theorem Lx{pos:Pos}(hN:X.N[i]?=some x)(hv:Kx X.env.scope x)(hd:(x==("__debug__" : Str))=false:=by decide)(hcd:(x==("__classdict__" : Str))=false:=by decide):PE X (.Name x pos) (Qc i):=by
 intro pins s σ H Q I h;obtain⟨v,e,h⟩:=h;obtain⟨m,hn,hl⟩:=I.loc;obtain⟨u,r,l⟩:=hl i x v hN e hv;have fin:EP X pins σ Q u s:=⟨v,H,I,r,h⟩;rcases l with⟨hk,hm⟩|⟨hk,c,hc,hcell⟩
 ·exact Wg (wpAny_loadName_local I.ok.kind hk hn hm fin) hd
 ·rcases hk with hk|hk
  ·exact Wg (wpAny_loadName_cell I.ok.kind hk hc hcell fin) hd
  ·exact Wg (wpAny_loadName_free I.ok.kind hk hc hcell fin hcd) hd
theorem qE:PE X (.Constant (.int i) j pos) (tC (.int i)):=λ_ _ _ H _ I h=>wpAny_Constant_int ⟨.int i,H,I.tok _,⟨_,rfl⟩,h⟩
theorem Kz:PE X (.Constant (.bool b) j pos) (tC (.bl b)):=λ_ _ _ H _ I h=>Constant_bool ⟨.bl b,H,I,rfl,h⟩
theorem Ly:PE X (.Constant .none j pos) (tC .non):=λ_ _ _ H _ I h=>Constant_none ⟨.non,H,I,rfl,h⟩
theorem Bk:PE X (.Constant (.str x) j pos) (tC (.str x)):=λ_ _ _ H _ I h=>Calls.Constant_str ⟨.str x,H,I.tok _,⟨_,rfl⟩,h⟩
noncomputable def Gl(X:Cx)(x:Str):Prop:=X.env.kindOf x=some .globalImplicit
theorem x6{σ:St}(I:Inv X pins σ H s)(hg:Gl X x)(hm:X.mg x=some u)(h:Q u s)
 (hd:(x==("__debug__" : Str))=false:=by decide):wpAny (model X.prog X.w) X.A (eval (.Name x pos) X.env) Q E s:=
 Calls.Name_function_global I.ok.kind hg (Calls.loadGlobal_global (by rw[I.ok.glob];exact I.mod.glob.keeps I.bk) hm h) hd
theorem kE{E:Wv}{σ:St}{pos:Pos}(I:Inv X pins σ H s)(hg:Gl X x)(hm:X.mg x=none)(hv:bootBuiltins x=some u)(h:Q u s)
 (hn:x ≠ "__name__" := by decide)(hd:(x==("__debug__" : Str))=false:=by decide):wpAny (model X.prog X.w) X.A (eval (.Name x pos) X.env) Q E s:=by
 obtain⟨mb,h1,h2⟩:=I.mod.blt;exact Calls.Name_function_global I.ok.kind hg (Calls.loadGlobal_builtin (by rw[I.ok.glob];exact I.mod.glob.keeps I.bk) hm (by rw[I.ok.blt];exact h1.keeps I.bk) ((h2 x hn).trans hv) h) hd
theorem x8(hg:Gl X x)(hm:X.mg x=some u)(r:RelV v u)(hd:(x==("__debug__" : Str))=false:=by decide):PE X (.Name x pos) (tC v):=
 λ_ _ _ H _ I h=>x6 I hg hm ⟨v,H,I,r,h⟩ hd
theorem Il{pos:Pos}(hg:Gl X x)(hm:X.mg x=none)(hv:bootBuiltins x=some u)(r:RelV v u)(hn:x ≠ "__name__" := by decide)(hd:(x==("__debug__" : Str))=false:=by decide):PE X (.Name x pos) (tC v):=
 λ_ _ _ H _ I h=>kE I hg hm hv ⟨v,H,I,r,h⟩ hn hd
variable {a b:Expr} {ta tb:TE} {pos:Pos}
variable {tA tB':TT} {rest:WG}
noncomputable def o3(t u:TT):TT:=λσ H Q=>t σ H λc H1=>if c=true then u σ H1 Q else Q false H1
noncomputable def vU(t u:TT):TT:=λσ H Q=>t σ H λc H1=>if c=true then Q true H1 else u σ H1 Q
noncomputable def i6(t:TT):TT:=λσ H Q=>t σ H λc H1=>Q (!c) H1
theorem Im(ha:PT X a tA):PW X (.BoolOp .And [a] pos) tA:=by
 intro wh pins s σ H Q I h;refine isTrue_and (bH (ha pins s σ H Q I h) λc s1 e=>?_)
 cases c with
 |true=>exact isTrue_and_nil e
 |false=>exact e
theorem Lz(ha:PT X a tA):PW X (.BoolOp .Or [a] pos) tA:=by
 intro wh pins s σ H Q I h;refine isTrue_or (bH (ha pins s σ H Q I h) λc s1 e=>?_)
 cases c with
 |false=>exact isTrue_or_nil e
 |true=>exact e
theorem LA(ha:PT X a tA)(hb:PW X (.BoolOp .And (b::rest) pos) tB'):PW X (.BoolOp .And (a::b::rest) pos) (o3 tA tB'):=by
 intro wh pins s σ H Q I h;refine isTrue_and (bH (ha pins s σ H _ I h) λc s1 ⟨H1,I1,q1⟩=>?_)
 cases c with
 |true=>exact hb wh pins s1 σ H1 Q I1 q1
 |false=>assumption
theorem NW(ha:PT X a tA)(hb:PW X (.BoolOp .Or (b::rest) pos) tB'):PW X (.BoolOp .Or (a::b::rest) pos) (vU tA tB'):=by
 intro wh pins s σ H Q I h;refine isTrue_or (bH (ha pins s σ H _ I h) λc s1 ⟨H1,I1,q1⟩=>?_)
 cases c with
 |true=>assumption
 |false=>exact hb wh pins s1 σ H1 Q I1 q1
theorem LB(ha:PT X a tA):PT X (.UnaryOp .Not a pos) (i6 tA):=by intro pins s σ H Q I h;exact isTrue_not (ha pins s σ H _ I h)
theorem LC(h:PE X a t):PE X (.BoolOp op [a] pos) t:=λpins s σ H Q I hw=>BoolOp_one (h pins s σ H Q I hw)
end
noncomputable def j9(K:WD)(H:Hp)(a:Addr)(xs:List V):Prop:=
 Rd H a (.lst xs) \/
  ∃(o:Obj) (its:WJ) (n:Nat),K.lookup a=some o/\o.cls=.type "list" /\ o.dict=none/\o.data=.seq its n/\its.size<=sizeLine/\Vals xs its.toList
noncomputable def ip(K:WD)(H:Hp)(a:Addr)(xs:List V):Prop:=
 Rd H a (.tup xs) \/
  ∃(o:Obj) (its:WJ) (n:Nat),K.lookup a=some o/\o.cls=.type "tuple" /\ o.data=.seq its n/\its.size<=sizeLine/\Vals xs its.toList
noncomputable def Qd:Value->Option V
 |.none=>some .non
 |.bool b=>some (.bl b)
 |.int i _=>some (.int i)
 |.str x _=>some (.str x)
 |.bytes b _=>some (.byt b)
 |.float b _=>some (.flt b)
 |.ref a=>some (.ref a)
 |.type n=>some (.ty n)
 |_=>none
theorem RelV.abs(r:RelV x u):Qd u=some x:=by
 cases x with
 |non=>cases r;rfl
 |bl _=>cases r;rfl
 |int _=>obtain⟨t,rfl⟩:=r;rfl
 |str _=>obtain⟨t,rfl⟩:=r;rfl
 |byt _=>obtain⟨t,rfl⟩:=r;rfl
 |flt _=>obtain⟨t,rfl⟩:=r;rfl
 |ref _=>cases r;rfl
 |ty _=>cases r;rfl
theorem RelV.inj{u:Value}(r:RelV x u)(q:RelV y u):x=y:=UB (r.abs.symm.trans q.abs)
theorem Vals.inj:∀{xs ys:List V} {us:WC},Vals xs us->Vals ys us->xs=ys
 |_,_,_,.nil,.nil=>rfl
 |_,_,_,.cons r t,.cons r' t'=>by rw[r.inj r',Vals.inj t t']
section
variable {X:Cx} {pins:Ww} {σ:St} {H:Hp} {s:WO} {a:Addr} {xs ys:List V}
theorem j9.of{K:WD}(h:H a=some (.lst xs)):j9 K H a xs:=.inl (.inl h)
theorem ip.of{K:WD}(h:H a=some (.tup xs)):ip K H a xs:=.inl (.inl h)
theorem Inv.list(I:Inv X pins σ H s)(h:j9 X.K H a xs):∃its:WC,Vals xs its/\PlainL s.heap a its.toArray/\xs.length<=sizeLine:=by
 rcases h with h|⟨o,its,n,hk,hc,hd,hs,hz,r⟩
 ·obtain⟨z,its,n,r,e⟩:=h.ok I.hok;exact⟨its,r,⟨_,n,e,rfl,rfl,rfl⟩,z⟩
 ·refine⟨its.toList,r,⟨o,n,I.vS a o hk,hc,hd,by omega⟩,?_⟩;have e:=r.length
  grind
theorem Inv.tuple(I:Inv X pins σ H s)(h:ip X.K H a xs):∃its:WC,Vals xs its/\IsTup s.heap a its.toArray/\xs.length<=sizeLine:=by
 rcases h with h|⟨o,its,n,hk,hc,hs,hz,r⟩
 ·obtain⟨z,its,r,p⟩:=h.ok I.hok
  grind
 ·refine⟨its.toList,r,⟨o,I.vS a o hk,hc,n,by omega⟩,?_⟩;have e:=r.length
  grind
theorem Inv.Fo(I:Inv X pins σ H s)(h:j9 X.K H a xs)(h':j9 X.K H a ys):xs=ys:=by
 obtain⟨its,r,⟨o,n,e,_,_,d⟩,_⟩:=I.list h;obtain⟨its',r',⟨o',n',e',_,_,d'⟩,_⟩:=I.list h';rw[e]at e';cases e';have:its=its':=by grind
 subst this;exact r.inj r'
theorem Inv.qF(I:Inv X pins σ H s)(h:ip X.K H a xs)(h':ip X.K H a ys):xs=ys:=by
 obtain⟨its,r,⟨o,e,_,n,d⟩,_⟩:=I.tuple h;obtain⟨its',r',⟨o',e',_,n',d'⟩,_⟩:=I.tuple h';rw[e]at e';cases e';have:its=its':=by grind
 subst this;exact r.inj r'
end
noncomputable abbrev Cx.vV(X:Cx)(E:Wv):Cx:={X with xe:=E}
noncomputable abbrev Cx.NH(X:Cx):Cx:=X.vV λ_ _=>False
theorem Cx.Ok.vV{X:Cx}(ok:X.Ok)(E:Wv):(X.vV E).Ok:=
 ⟨ok.mod,ok.kind,ok.glob,ok.blt,ok.above,ok.inj,ok.has,ok.cab,ok.hd,ok.frames,ok.stk,ok.exf,ok.bs,ok.bsz,ok.noex,ok.exfs,ok.qB,ok.frf⟩
theorem Cx.Ok.mz{X:Cx}(ok:(X.vV E).Ok):X.Ok:=
 ⟨ok.mod,ok.kind,ok.glob,ok.blt,ok.above,ok.inj,ok.has,ok.cab,ok.hd,ok.frames,ok.stk,ok.exf,ok.bs,ok.bsz,ok.noex,ok.exfs,ok.qB,ok.frf⟩
section
variable {X:Cx} {pins:Ww} {σ:St} {H:Hp} {s:WO} {E:Wv}
theorem Inv.vV(I:Inv X pins σ H s)(E:Wv):Inv (X.vV E) pins σ H s:=⟨I.ok.vV E,I.os,I.bare,I.base,I.loc,I.cell,I.free,I.freeC,I.pin,I.hok,I.len⟩
theorem Inv.mz(I:Inv (X.vV E) pins σ H s):Inv X pins σ H s:=⟨I.ok.mz,I.os,I.bare,I.base,I.loc,I.cell,I.free,I.freeC,I.pin,I.hok,I.len⟩
theorem SP.mz(h:SP (X.vV E) pins D f s'):SP X pins D f s':=by
 cases f with
 |next=>obtain⟨σ',H',I,q⟩:=h;exact⟨σ',H',I.mz,q⟩
 |brk=>obtain⟨σ',H',I,q⟩:=h;exact⟨σ',H',I.mz,q⟩
 |cont=>obtain⟨σ',H',I,q⟩:=h;exact⟨σ',H',I.mz,q⟩
 |ret u=>obtain⟨v,σ',H',I,r,q⟩:=h;exact⟨v,σ',H',I.mz,r,q⟩
end
section
variable {X:Cx} {st:Stmt} {rest:List Stmt} {t u:TS} {e:Expr} {te:TE} {pos:Pos}
noncomputable def NX:TS:=λD σ H=>D.nx σ H
noncomputable def Qe(t u:TS):TS:=λD σ H=>t {D with nx:=u D} σ H
theorem Io:Bi X [] NX:=λ_ _ σ H _ I h=>wpAny_execs_nil ⟨σ,H,I,h⟩
theorem Fp(h1:PS X st t)(h2:Bi X rest u):Bi X (st::rest) (Qe t u):=by
 intro pins s σ H D I h;refine wpAny_execs_cons (bH (h1 pins s σ H {D with nx:=u D} I h) λf s1 q=>?_)
 cases f with
 |next=>obtain⟨σ',H',I',q⟩:=q;exact h2 pins s1 σ' H' D I' q
 |ret v=>exact q
 |brk=>exact q
 |cont=>exact q
theorem Ip(h1:PS X st t):Bi X [st] t:=by
 intro pins s σ H D I h;refine wpAny_execs_cons (bH (h1 pins s σ H D I h) λf s1 q=>?_)
 cases f with
 |next=>exact wpAny_execs_nil q
 |ret v=>exact q
 |brk=>exact q
 |cont=>exact q
theorem Inv.quiet{σ:St}(I:Inv X pins σ H s):interactive X.env=false:=by simp[interactive,I.ok.kind]
noncomputable def NY(te:TE):TS:=λD σ H=>te σ H λ_ H1=>D.nx σ H1
theorem Iq(he:PE X e te)(hs:swapsWith e none pos.line X.env=pure false:=by rfl):PS X (.Expr e pos) (NY te):=by intro pins s σ H D I h;exact wpAny_Expr_any (bH (he pins s σ H _ I h) λv s1 ⟨x,H1,I1,r1,q1⟩=>⟨σ,H1,I1,q1⟩) I.quiet hs
noncomputable def Qf(te:TE):TS:=λD σ H=>te σ H D.rt
theorem LD(he:PE X e te):PS X (.Return (some e) pos) (Qf te):=by intro pins s σ H D I h;exact wpAny_Return_some (bH (he pins s σ H _ I h) λv s1 ⟨x,H1,I1,r1,q1⟩=>⟨x,σ,H1,I1,r1,q1⟩)
noncomputable def Qg(c:TT)(t u:TS):TS:=λD σ H=>c σ H λb H1=>if b=true then t D σ H1 else u D σ H1
theorem NZ(hc:PT X c tc)(ha:Bi X a t)(hb:Bi X b u):PS X (.If c a b pos) (Qg tc t u):=by
 intro pins s σ H D I h;refine wpAny_If (bH (hc pins s σ H _ I h) λd s1 ⟨H1,I1,q1⟩=>?_)
 cases d with
 |true=>exact ha pins s1 σ H1 D I1 q1
 |false=>exact hb pins s1 σ H1 D I1 q1
end
noncomputable abbrev TG:=V->St->Hp->(St->Hp->Prop)->Prop
noncomputable abbrev NI:=List V->St->Hp->(St->Hp->Prop)->Prop
noncomputable def PG(X:Cx)(target:Expr)(t:TG):Prop:=
 ∀(pins:Ww) (s:WO) (σ:St) (H:Hp) (v:V) (u:Value) (Q:St->Hp->Prop),Inv X pins σ H s->RelV v u->t v σ H Q ->
  wpAny (model X.prog X.w) X.A (assign target X.env u) (λ_ s'=>∃σ' H',Inv X pins σ' H' s'/\Q σ' H') X.xe s
noncomputable def NJ(X:Cx)(ts:WG)(t:NI):Prop:=
 ∀(pins:Ww) (s:WO) (σ:St) (H:Hp) (vs:List V) (us:WC) (Q:St->Hp->Prop),Inv X pins σ H s->Vals vs us->t vs σ H Q ->
  wpAny (model X.prog X.w) X.A (assignInOrder ((assignEach ts X.env).map (·.2)) us) (λ_ s'=>∃σ' H',Inv X pins σ' H' s'/\Q σ' H') X.xe s
noncomputable abbrev N0:=V->V->V->Hp->(Hp->Prop)->Prop
noncomputable def LF(X:Cx)(t:N0):Prop:=
 ∀(pins:Ww) (s:WO) (σ:St) (H:Hp) (o i v:V) (ov iv u:Value) (Q:Hp->Prop),Inv X pins σ H s->RelV o ov->RelV i iv->RelV v u->t o i v H Q ->
  wpAny (model X.prog X.w) X.A (setItem ov iv u) (λ_ s'=>∃H',Inv X pins σ H' s'/\Q H') X.xe s
section
variable {X:Cx} {pos:Pos}
noncomputable def aq(i:Nat):TG:=λv σ H Q=>Q (σ.set i (some v)) H
theorem Ir(hN:X.N.Nodup)(hi:X.N[i]?=some x)(hx:Loc X.env.scope x)(hf:X.fn x=true\/X.env.scope.names.lookup x=some .local:=by first|exact .inl rfl|exact .inr rfl|assumption):PG X (.Name x pos) (aq i):=by intro pins s σ H v u Q I r h;exact wpAny_assign_Name (mw I hN hi hx r (λs' I'=>⟨_,H,I',h⟩) hf)
noncomputable def iI:NI:=λvs σ H Q=>vs=[]/\Q σ H
noncomputable def bP(t:TG)(u:NI):NI:=λvs σ H Q=>∃v r,vs=v::r/\t v σ H λσ' H'=>u r σ' H' Q
theorem Iu:NJ X [] iI:=by intro pins s σ H vs us Q I r h;obtain⟨e,h⟩:=h;exact assignInOrder_nil ⟨σ,H,I,h⟩
theorem Fq(h1:PG X e t)(h2:NJ X es u)
 (hs:(assignEach (e::es) X.env).map (·.2)=assign e X.env::(assignEach es X.env).map (·.2):=by rfl):NJ X (e::es) (bP t u):=by
 intro pins s σ H vs us Q I r h;obtain⟨v,vr,e1,h⟩:=h;subst e1
 cases r with
 |cons r rr=>rw[hs];refine VD (bH (h1 pins s σ H _ _ _ I r h) λ_ s1 ⟨σ1,H1,I1,q1⟩=>?_);exact h2 pins s1 σ1 H1 _ _ Q I1 rr q1
noncomputable def i7(K:WD)(n:Nat)(t:NI):TG:=λv σ H Q=>∃a xs,v=.ref a/\ip K H a xs/\xs.length=n/\t xs σ H Q
theorem Fs{k:Nat}(hc:X.calm=true)(h:NJ X es t)
 (hn:(assignEach es X.env).length=n:=by rfl)(hst:(assignEach es X.env).findIdx? (·.1)=none:=by rfl):PG X (.Tuple es k pos) (i7 X.K n t):=by
 intro pins s σ H v u Q I r hw;obtain⟨a,xs,e1,hq,hl,hw⟩:=hw;subst e1;cases r;obtain⟨its,rv,ht,hz⟩:=I.tuple hq;refine assign_Tuple_tuple (I.ok.hd hc) ht (by simp[hn,<- hl,rv.length]) hst λh' hx=>?_;have I1:Inv X pins σ H {s with heap:=h'}:=I.kept λb o e=>hx b o (SI (Sv e)) e;exact h pins _ σ H xs _ Q I1 (by omega) hw
noncomputable def zz(to ti:TE)(t:N0):TG:=λv σ H Q=>to σ H λo H1=>ti σ H1 λi H2=>t o i v H2 λH3=>Q σ H3
theorem LG(ho:PE X o to)(hi:PE X i ti)(hs:LF X t)
 (ha:∀v,assign (.Subscript o i pos) X.env v=(do
   let ov <- holding [v] (eval o X.env)
   let iv <- holding [v,ov] (eval i X.env)
   standAt pos
   holding [v,ov,iv] (setItem ov iv v)
   release [v,ov,iv] []):=by intro _;rfl):PG X (.Subscript o i pos) (zz to ti t):=by
 intro pins s σ H v u Q I r h;refine Sm (Tf (bH (ho pins s σ H _ I h) λov s1 ⟨x,H1,I1,r1,q1⟩=>?_));refine Sm (Tf (bH (hi pins s1 σ H1 _ I1 q1) λiv s2 ⟨y,H2,I2,r2,q2⟩=>?_));refine Sm (Uq (Sm (Tf (bH (hs pins s2 σ H2 x y v ov iv u _ I2 r1 r2 r q2) λ_ s3 ⟨H3,I3,q3⟩=>?_))));exact wpAny_release ⟨σ,H3,I3,q3⟩
noncomputable def Ed(te:TE)(g:TG):TS:=λD σ H=>te σ H λx H1=>g x σ H1 D.nx
theorem Ft(he:PE X e te)(hg:PG X tg g)(hs:swapsWithSole [tg] e pos.line X.env=pure false:=by rfl)(hw:swappedStores [tg] e X.env=pure none:=by rfl)
 (h1:(assignEach [tg] X.env).map (·.2)=[assign tg X.env]:=by rfl):PS X (.Assign [tg] e pos) (Ed te g):=by
 intro pins s σ H D I h;refine wpAny_Assign_stores (bH (he pins s σ H _ I h) λv s1 ⟨x,H1,I1,r1,q1⟩=>?_) hs hw;rw[h1];exact bH (hg pins s1 σ H1 x v _ I1 r1 q1) λ_ s2 q=>q
theorem LH(hN:X.N.Nodup)(hi:X.N[i]?=some x)(hx:Loc X.env.scope x)(he:PE X e te)(hs:swapsWith e (some (.Name x pos')) pos.line X.env=pure false:=by rfl)(hf:X.fn x=true\/X.env.scope.names.lookup x=some .local:=by first|exact .inl rfl|exact .inr rfl|assumption) :
  PS X (.Assign [.Name x pos'] e pos) (Ed te (aq i)):=by
 intro pins s σ H D I h;refine wpAny_Assign_Name (bH (he pins s σ H _ I h) λv s1 ⟨y,H1,I1,r1,q1⟩=>?_) hs;exact mw I1 hN hi hx r1 (λs2 I2=>⟨_,H1,I2,q1⟩) hf
end
structure It where
 go:Nat->Hp->Prop
 yld:Nat->Hp->V->Hp->Prop
 stop:Nat->Hp->Prop
noncomputable def iq(X:Cx)(pins:Ww)(H:Hp)(b:Addr):Prop:=
 H b=none/\b≠X.env.locals/\b∉X.fs/\(b∈X.ex\/X.s₀.heap.objs.size<=b)/\(∀x c,X.env.cells.lookup x=some c->c≠b)/\∀p∈X.pn++pins,p.1≠b
theorem Inv.Bl{σ:St}{b:Addr}(I:Inv X pins σ H s)(hb:s.heap.objs.size<=b)(hn:H' b=none):iq X pins H' b:=by
 refine⟨hn,UH (Sx I.lt hb),I.Bj hb,.inr (Sw I.sz hb),λx c e z=>?_,λp hp z=>?_⟩
 ·obtain⟨v,q⟩:=I.cell x c e;exact absurd (Sx q.lt (by simp_all)) (SQ _)
 ·exact absurd (Sx (Sv (I.pin p hp).1) (by simp_all)) (SQ _)
structure Turn(P:WL)(w:World)(K:WD)(tg:Expr)(J:It)(fp:WB)(it:Addr)(tn:Nat->Heap->Prop):Prop where
 mem:it∈fp
 obj:∀i h,tn i h->∀b∈fp,∃o,h.get? b=some o/\∀v,o.data≠.cell v
 keep:∀i h h',tn i h->(∀b∈fp,∀o,h.get? b=some o->h'.get? b=some o)->tn i h'
 item:∀(X:Cx),X.prog=P->X.w=w->X.K=K->X.calm=true->∀(i:Nat) (pins:Ww) (s:WO) (σ:St) (H:Hp) (E:Wv),Inv X pins σ H s->(∀b∈fp,iq X pins H b)->tn i s.heap->J.go i H ->
  wpAny (model P w) X.A (pyNext (.ref it)) (λr s1=>∃u,r=some u /\
   wpAny (model P w) X.A (letOwnedTupleGo tg (.ref it) u) (λ_ s2=>∃x H',Inv X pins σ H' s2/\RelV x u/\J.yld i H x H'/\tn (i+1) s2.heap/\∀b∈fp,H' b=none) E s1) E s
 done:∀(X:Cx),X.prog=P->X.w=w->X.K=K->X.calm=true->∀(i:Nat) (pins:Ww) (s:WO) (σ:St) (H:Hp) (E:Wv),Inv X pins σ H s->(∀b∈fp,iq X pins H b)->tn i s.heap->J.stop i H ->
  wpAny (model P w) X.A (pyNext (.ref it)) (λr s1=>r=none/\Inv X pins σ H s1) E s
 self:∀(A:WN) (i:Nat) (s:WO) (Q:Wv) (E:Wv),tn i s.heap->Q (.ref it) s->wpAny (model P w) A (pyIter (.ref it)) Q E s
noncomputable abbrev TI:=St->Hp->(It->Hp->Prop)->Prop
noncomputable def Rx(X:Cx)(pins:Ww)(σ:St)(tg:Expr)(R:It->Hp->Prop)(itv:Value)(s2:WO):Prop:=
 ∃(it:Addr) (fp:WB) (tn:Nat->Heap->Prop) (J:It) (H':Hp),itv=.ref it/\Inv X pins σ H' s2/\Turn X.prog X.w X.K tg J fp it tn/\tn 0 s2.heap/\(∀b∈fp,iq X pins H' b)/\R J H'
noncomputable def PI(X:Cx)(tg iter:Expr)(wi:TI):Prop:=
 ∀(pins:Ww) (s:WO) (σ:St) (H:Hp) (R:It->Hp->Prop),Inv X pins σ H s->wi σ H R ->
  wpAny (model X.prog X.w) X.A (eval iter X.env) (λv s1=>wpAny (model X.prog X.w) X.A (pyIter v) (Rx X pins σ tg R) X.xe s1) X.xe s
theorem CC(ho:s.heap.get? it=some o)(hc:o.cls=.type n)(hd:o.data=.fields vs)
 (hn:["enumerate", "zip", "dict_itemiterator", "dict_reverseitemiterator", "odict_iterator", "itertools.zip_longest", "itertools.pairwise"].contains n=false)(hQ:Q () s):wpAny M A (letOwnedTupleGo tg (.ref it) u) Q E s:=by
 unfold letOwnedTupleGo
 cases tg<;>first
  |exact Sn hQ
  | (cases u<;>first
    |exact Sn hQ
    | (refine Sm (VO ho ?_)
       rw[hc,hd];show wpAny M A (if(["enumerate", "zip", "dict_itemiterator", "dict_reverseitemiterator", "odict_iterator", "itertools.zip_longest", "itertools.pairwise"].contains n&&vs[0]? == some (rawInt _))=true then _ else _) Q E s;rw[if_neg (by intro h;rw[hn,VQ]at h;cases h)]
       exact Sn hQ))
noncomputable def Qh(K:WD)(a:Addr):It:=
 ⟨λi H=>∃xs x,j9 K H a xs/\xs[i]?=some x,λi H x H'=>H'=H/\∀xs,j9 K H a xs->xs[i]?=some x,λi H=>∃xs,j9 K H a xs/\xs.length<=i⟩
noncomputable def Pl(K:WD)(a:Addr):It:=
 ⟨λi H=>∃xs x,ip K H a xs/\xs[i]?=some x,λi H x H'=>H'=H/\∀xs,ip K H a xs->xs[i]?=some x,λi H=>∃xs,ip K H a xs/\xs.length<=i⟩
noncomputable def Pm(lo:Int)(n:Nat):It:=⟨λi _=>i<n,λi H x H'=>H'=H/\x=.int (lo+i),λi _=>n<=i⟩
theorem Ee{K:WD}(a it:Addr):Turn P w K tg (Qh K a) [it] it (λi h=>h.IsListIter it a i) where
 mem:=by simp
 obj:=λi h st b hb=>by
  have e:b=it:=by grind
  subst e;obtain⟨o,e,c,d⟩:=st
  grind
 keep:=λi h h' st k=>st.at λo e=>k it (by simp) o e
 item:=by intro X hP hw hK hc i pins s σ H E I hf st hg;subst hP hw hK;obtain⟨xs,x,hq,hx⟩:=hg;obtain⟨its,rv,p,hz⟩:=I.list hq;obtain⟨u,hu,ru⟩:=rv.get hx;obtain⟨f0,f1,f2,f3,f4,f5⟩:=hf it (by simp);refine wpAny_pyNext_list_item st p.isList (x:=u) (by simpa using hu) λh' st' sb=>?_;have I1:Inv X pins σ H {s with heap:=h'}:=I.turned (t':=s.toks) (λb o hb e=>(sb.2 b hb).trans e) f0 f1 f3 f4 f5;obtain⟨o,e,c,d⟩:=id st';exact⟨u,rfl,CC (s:={s with heap:=h'}) e c d (by decide) ⟨x,H,I1,ru,⟨rfl,λys hy=>by rw[I.Fo hy hq];exact hx⟩,st',λb hb=>(hf b hb).1⟩⟩
 done:=by intro X hP hw hK hc i pins s σ H E I hf st hg;subst hP hw hK;obtain⟨xs,hq,hx⟩:=hg;obtain⟨its,rv,p,hz⟩:=I.list hq;obtain⟨f0,f1,f2,f3,f4,f5⟩:=hf it (by simp);have hl:=rv.length;exact wpAny_pyNext_list_end (I.ok.hd hc) st p.isList (by simp;omega) λh' eb=>⟨rfl,I.turned (t':=s.toks) (λb o hb e=>eb b o hb e) f0 f1 f3 f4 f5⟩
 self:=λ_ _ _ _ _ st h=>wpAny_pyIter_listiter st h
theorem Bm{K:WD}(a it:Addr):Turn P w K tg (Pl K a) [it] it (λi h=>h.IsTupleIter it a i) where
 mem:=by simp
 obj:=λi h st b hb=>by
  have e:b=it:=by grind
  subst e;obtain⟨o,e,c,d⟩:=st
  grind
 keep:=λi h h' st k=>st.at λo e=>k it (by simp) o e
 item:=by intro X hP hw hK hc i pins s σ H E I hf st hg;subst hP hw hK;obtain⟨xs,x,hq,hx⟩:=hg;obtain⟨its,rv,p,hz⟩:=I.tuple hq;obtain⟨u,hu,ru⟩:=rv.get hx;obtain⟨f0,f1,f2,f3,f4,f5⟩:=hf it (by simp);refine wpAny_pyNext_tuple_item st (show s.heap.IsTuple a its.toArray from p) (x:=u) (by simpa using hu) λh' st' sb=>?_;have I1:Inv X pins σ H {s with heap:=h'}:=I.turned (t':=s.toks) (λb o hb e=>(sb.2 b hb).trans e) f0 f1 f3 f4 f5;obtain⟨o,e,c,d⟩:=id st';exact⟨u,rfl,CC (s:={s with heap:=h'}) e c d (by decide) ⟨x,H,I1,ru,⟨rfl,λys hy=>by rw[I.qF hy hq];exact hx⟩,st',λb hb=>(hf b hb).1⟩⟩
 done:=by intro X hP hw hK hc i pins s σ H E I hf st hg;subst hP hw hK;obtain⟨xs,hq,hx⟩:=hg;obtain⟨its,rv,p,hz⟩:=I.tuple hq;obtain⟨f0,f1,f2,f3,f4,f5⟩:=hf it (by simp);have hl:=rv.length;exact wpAny_pyNext_tuple_end (I.ok.hd hc) st (show s.heap.IsTuple a its.toArray from p) (by simp;omega) λh' eb=>⟨rfl,I.turned (t':=s.toks) (λb o hb e=>eb b o hb e) f0 f1 f3 f4 f5⟩
 self:=λ_ _ _ _ _ st h=>wpAny_pyIter_tupleiter st h
theorem Bn{K:WD}(it:Addr)(lo:Int)(n:Nat):Turn P w K tg (Pm lo n) [it] it (λi h=>IsRangeIter h it (lo+(i:Nat)*1) ((n:Int)-(i:Nat)) 1) where
 mem:=by simp
 obj:=λi h st b hb=>by
  grind
 keep:=λi h h' st k=>k it (by simp) _ st
 item:=by intro X hP hw hK hc i pins s σ H E I hf st hg;subst hP hw hK;obtain⟨f0,f1,f2,f3,f4,f5⟩:=hf it (by simp);have W:=Walks.range (prog:=X.prog) (w:=X.w) (I.ok.hd hc) it lo 1 n;refine W.item i s _ _ hg st λv h' tk hv st' kk=>?_;obtain⟨t,rfl⟩:=hv;have I1:Inv X pins σ H {s with heap:=h',toks:=tk}:=I.turned (λb o hb e=>kk b o (by simpa using hb) e) f0 f1 f3 f4 f5;refine⟨_,rfl,CC (s:={s with heap:=h',toks:=tk}) (n := "range_iterator") st' rfl rfl (by decide) ⟨.int (lo+i),H,I1,⟨t,?_⟩,⟨rfl,rfl⟩,st',λb hb=>(hf b hb).1⟩⟩;rw[Int.mul_one]
 done:=by intro X hP hw hK hc i pins s σ H E I hf st hg;subst hP hw hK;obtain⟨f0,f1,f2,f3,f4,f5⟩:=hf it (by simp);exact wpAny_pyNext_range_end (I.ok.hd hc) st (by have:n<=i:=hg;omega) λh' eb=>⟨rfl,I.turned (t':=s.toks) (λb o hb e=>eb b o hb e) f0 f1 f3 f4 f5⟩
 self:=λ_ _ _ _ _ st h=>wpAny_pyIter_rangeiter st h
section
variable {X:Cx} {tg:Expr}
noncomputable def N3(K:WD)(tl:TE):TI:=λσ H R=>tl σ H λx H1=>∃a,x=.ref a/\(∃xs,j9 K H1 a xs)/\R (Qh K a) H1
noncomputable def Qi(K:WD)(tl:TE):TI:=λσ H R=>tl σ H λx H1=>∃a,x=.ref a/\(∃xs,ip K H1 a xs)/\R (Pl K a) H1
theorem Iv(hl:PE X l tl):PI X tg l (N3 X.K tl):=by
 intro pins s σ H R I h;refine bH (hl pins s σ H _ I h) λv s1 ⟨x,H1,I1,r1,q1⟩=>?_;obtain⟨a,e,⟨xs,hq⟩,q⟩:=q1;subst e;cases r1;obtain⟨its,rv,p,hz⟩:=I1.list hq;refine wpAny_pyIter_list p.isList ?_;refine⟨s1.heap.objs.size,[s1.heap.objs.size],_,_,H1,rfl,I1.kept λb o e=>So _ e,Ee a _,⟨_,Sy _ rfl,rfl,rfl⟩,λb hb=>?_,q⟩;have e:b=s1.heap.objs.size:=by grind
 subst e;exact I1.Bl (Ss _) (I1.hok.fresh (Ss _))
theorem Fv(hl:PE X l tl):PI X tg l (Qi X.K tl):=by
 intro pins s σ H R I h;refine bH (hl pins s σ H _ I h) λv s1 ⟨x,H1,I1,r1,q1⟩=>?_;obtain⟨a,e,⟨xs,hq⟩,q⟩:=q1;subst e;cases r1;obtain⟨its,rv,p,hz⟩:=I1.tuple hq;refine VE p ?_;refine⟨s1.heap.objs.size,[s1.heap.objs.size],_,_,H1,rfl,I1.kept λb o e=>So _ e,Bm a _,⟨_,Sy _ rfl,rfl,rfl⟩,λb hb=>?_,q⟩;have e:b=s1.heap.objs.size:=by grind
 subst e;exact I1.Bl (Ss _) (I1.hok.fresh (Ss _))
theorem Fw{σ:St}{lo hi:Int}(I:Inv X pins σ H s)(h1:-(2^62)<=lo)(h2:lo<2^62)(h3:-(2^62)<=hi)(h4:hi<2^62)
 (q:R (Pm lo (hi-lo).toNat) H):wpAny (model X.prog X.w) X.A (pyIter (.ref s.heap.objs.size)) (Rx X pins σ tg R) E {s with heap:=s.heap.push {cls:=.type "range",data:=.fields #[.int lo t,.int hi u,.int 1 v]},toks:=tk}:=by
 refine wpAny_pyIter_range (IsRange.new ..) (small_one h1 h2 h3 h4) ?_;have I1:Inv X pins σ H {s with heap:=s.heap.push {cls:=.type "range",data:=.fields #[.int lo t,.int hi u,.int 1 v]},toks:=tk}:=I.kept λb o e=>So _ e
 refine⟨(s.heap.push {cls:=.type "range",data:=.fields #[.int lo t,.int hi u,.int 1 v]}).objs.size,[(s.heap.push {cls:=.type "range",data:=.fields #[.int lo t,.int hi u,.int 1 v]}).objs.size],_,_,H,rfl,
  I1.kept (t':=tk) λb o e=>So _ e,Bn _ lo (hi-lo).toNat,?_,λb hb=>?_,q⟩
 ·have e1:lo+((0:Nat):Int)*1=lo:=by simp
  have e2:(((hi-lo).toNat:Nat):Int)-((0:Nat):Int)=Builtin.Range.rangeSize lo hi 1:=by grind[rangeSize_one]
  show IsRangeIter _ _ (lo+((0:Nat):Int)*1) ((((hi-lo).toNat:Nat):Int)-((0:Nat):Int)) 1;rw[e1,e2];exact Sy _ rfl
 ·have e:b=(s.heap.push {cls:=.type "range",data:=.fields #[.int lo t,.int hi u,.int 1 v]}).objs.size:=by grind
  subst e;exact I1.Bl (Ss _) (I1.hok.fresh (Ss _))
noncomputable def N4(ta:TA):TI:=λσ H R=>ta σ H λvs H1=>∃j:Int,vs=[.int j]/\-(2^62)<=j/\j<2^62/\R (Pm 0 j.toNat) H1
theorem Ef(hg:Gl X "range")(hm:X.mg "range" = none)(ha:PA X [a] ta)(hs:starEach [a] X.env=[(false,eval a X.env)]:=by rfl):PI X tg (.Call (.Name "range" p) [a] [] pos) (N4 ta):=by
 intro pins s σ H R I h;refine Call_ (kE I hg hm boot_range (Ub (bH (ha pos pins s σ H _ I h) λus s1 ⟨vs,H1,I1,r1,q1⟩=>?_) hs rfl));obtain⟨j,e,q1,q2,q⟩:=q1;subst e
 cases r1 with
 |cons r rr=>cases rr;obtain⟨t,rfl⟩:=r;exact call_range_1 (Fw I1 (by omega) (by omega) q1 q2 (by grind))
noncomputable def Qj(wi:TI)(g:TG)(tb:TS):TS:=λD σ H=>wi σ H λJ H1=>∃W:Nat->Nat->St->Hp->Prop,(∃m,W 0 m σ H1)/\∀i m σ H,W i m σ H ->
 (J.stop i H/\D.nx σ H)\/(J.go i H/\∃N:St->Hp->Prop,(∀σ' H',N σ' H'->∃m',m'<m/\W (i+1) m' σ' H')/\∀x H',J.yld i H x H'->g x σ H' λσ2 H2=>tb {D with nx:=N,ct:=N,bk:=D.nx} σ2 H2)
noncomputable def bW(fp:WB)(h:Heap):Ww:=fp.filterMap λb=>(h.get? b).map λo=>(b,o)
theorem aX(hb:b∈fp)(e:h.get? b=some o):(b,o)∈bW fp h:=Vd.mpr ⟨b,hb,by grind⟩
theorem eT(hp:p∈bW fp h):p.1∈fp/\h.get? p.1=some p.2:=by
 obtain⟨b,hb,e⟩:=Vd.mp hp
 cases q:h.get? b with
 |none=>grind
 |some o=>
  rw[q]at e;have e'  := UB e
  grind
theorem Inv.pinned{σ:St}(I:Inv X pins σ H s)(hf:∀b∈fp,iq X pins H b)(ho:∀b∈fp,∃o,s.heap.get? b=some o/\∀v,o.data≠.cell v):Inv X (pins++bW fp s.heap) σ H s:=
 I.iH λp hp=>(SD.mp hp).elim (λz=>I.pin p (Sr _ z)) λz=>by
  obtain⟨hb,e⟩:=eT z;obtain⟨f0,f1,f2,_⟩:=hf p.1 hb
  grind
theorem Inv.i8{σ:St}(I:Inv X (pins++pl) σ H s):Inv X pins σ H s:=I.iH λp hp=>I.pin p (Sr _ (S7 _ hp))
theorem LJ(hp:PassesOwn (model X.prog X.w) X.A X.env X.xe)(hc:X.calm=true)(hi:PI X tg iter wi)(hg:PG X tg g)(hb:Bi X body tb)
 (hs:∀x,foldedSetIterable iter X.env x=pure x:=by intro _;rfl):PS X (.For tg iter body [] pos) (Qj wi g tb):=by
 intro pins s σ H D I h;refine wpAny_For (bH (hi pins s σ H _ I h) λv s1 h1=>bH h1 λitv s2 h2=>?_) hs;obtain⟨it,fp,tn,J,H2,e,I2,T,st2,f2,W,⟨m0,w0⟩,turn⟩:=h2;subst e;have stat:∀{H':Hp},(∀b∈fp,H' b=none)->∀b∈fp,iq X pins H' b:=λhn b hb=>⟨hn b hb,(f2 b hb).2⟩;refine codeAny_forLoop_any (λn s'=>∃i σ' H',Inv X pins σ' H' s'/\tn i s'.heap/\(∀b∈fp,H' b=none)/\W i n σ' H') ?_ m0 ⟨0,σ,H2,I2,st2,λb hb=>(f2 b hb).1,w0⟩;rintro n s3 ⟨i,σ3,H3,I3,st3,fr3,w3⟩;rcases turn i n σ3 H3 w3 with⟨stop,qn⟩|⟨go,N,hN,step⟩
 ·refine VF hp (bH (T.done X rfl rfl rfl hc i pins s3 σ3 H3 X.xe I3 (stat fr3) st3 stop) λr s4 ⟨hr,I4⟩=>?_);subst hr;exact wpAny_execs_nil ⟨σ3,H3,I4,qn⟩
 ·refine VF hp (bH (T.item X rfl rfl rfl hc i pins s3 σ3 H3 X.xe I3 (stat fr3) st3 go) λr s4 ⟨u,hr,h4⟩=>?_);subst hr;refine VF hp (bH h4 λ_ s5 ⟨x,H5,I5,r5,y5,st5,fr5⟩=>?_);have I5':=I5.pinned (stat fr5) (T.obj _ _ st5);refine VF hp (bH (hg _ s5 σ3 H5 x u _ I5' r5 (step x H5 y5)) λ_ s6 ⟨σ6,H6,I6,q6⟩=>?_);refine VF hp (bH (hb _ s6 σ6 H6 _ I6 q6) λf s7 q7=>?_);have again:∀{σ7:St} {H7:Hp},Inv X (pins++bW fp s5.heap) σ7 H7 s7->N σ7 H7->∃m,m<n/\∃i σ' H',Inv X pins σ' H' s7/\tn i s7.heap/\(∀b∈fp,H' b=none)/\W i m σ' H':=λ{σ7 H7} I7 n7=>by obtain⟨m',hm,w7⟩:=hN σ7 H7 n7;refine⟨m',hm,i+1,σ7,H7,I7.i8,T.keep _ _ _ st5 λb hb o e=>(I7.pin (b,o) (Sr _ (Sr _ (aX hb e)))).1,λb hb=>?_,w7⟩;obtain⟨o,e,d⟩:=T.obj _ _ st5 b hb;exact(I7.pin (b,o) (Sr _ (Sr _ (aX hb e)))).2.1
  cases f with
  |next=>obtain⟨σ7,H7,I7,n7⟩:=q7;exact again I7 n7
  |cont=>obtain⟨σ7,H7,I7,n7⟩:=q7;exact again I7 n7
  |brk=>obtain⟨σ7,H7,I7,q7⟩:=q7;exact⟨σ7,H7,I7.i8,q7⟩
  |ret v=>obtain⟨x7,σ7,H7,I7,r7,q7⟩:=q7;exact⟨x7,σ7,H7,I7.i8,r7,q7⟩
end
noncomputable abbrev R2:=V->V->Hp->VK->Prop
noncomputable def jr(X:Cx)(f:Value->Value->Sem Value)(r:R2):Prop:=
 ∀(pins:Ww) (s:WO) (σ:St) (H:Hp) (x y:V) (v u:Value) (Q:VK),Inv X pins σ H s->RelV x v->RelV y u->r x y H Q ->
  wpAny (model X.prog X.w) X.A (f v u) (EP X pins σ Q) X.xe s
noncomputable def Qk(X:Cx)(f:Value->Sem Value)(r:V->Hp->VK->Prop):Prop:=
 ∀(pins:Ww) (s:WO) (σ:St) (H:Hp) (x:V) (v:Value) (Q:VK),Inv X pins σ H s->RelV x v->r x H Q ->
  wpAny (model X.prog X.w) X.A (f v) (EP X pins σ Q) X.xe s
noncomputable def eE(X:Cx)(f:Value)(r:List V->Hp->VK->Prop):Prop:=
 ∀(pins:Ww) (s:WO) (σ:St) (H:Hp) (xs:List V) (us:WC) (Q:VK),Inv X pins σ H s->Vals xs us->r xs H Q ->
  wpAny (model X.prog X.w) X.A (call f us) (EP X pins σ Q) X.xe s
noncomputable def LK(X:Cx)(r:V->Hp->(Bool->Hp->Prop)->Prop):Prop:=
 ∀(pins:Ww) (s:WO) (σ:St) (H:Hp) (x:V) (v:Value) (Q:Bool->Hp->Prop),Inv X pins σ H s->RelV x v->r x H Q ->
  wpAny (model X.prog X.w) X.A (truthy v) (TP X pins σ Q) X.xe s
noncomputable def N5(r:R2)(ta tb:TE):TE:=λσ H Q=>ta σ H λx H1=>tb σ H1 λy H2=>r x y H2 Q
noncomputable def RZ(r:V->Hp->VK->Prop)(ta:TE):TE:=λσ H Q=>ta σ H λx H1=>r x H1 Q
noncomputable def rI(C:Int->Int->Prop)(g:Int->Int->V):R2:=λx y H Q=>∃i j,x=.int i/\y=.int j/\C i j/\Q (g i j) H
noncomputable def KA(g:Int->Int->V):R2:=λx y H Q=>∃i j,x=.int i/\y=.int j/\Q (g i j) H
noncomputable def rU(g:Int->V):V->Hp->VK->Prop:=λx H Q=>∃i,x=.int i/\Q (g i) H
section
variable {X:Cx} {a b c:Expr} {ta tb tc:TE} {pos:Pos}
theorem LL(ha:PE X a ta)(hb:PE X b tb){σ:St}{R:V->V->Hp->Prop}(I:Inv X pins σ H s)
 (h:ta σ H λx H1=>tb σ H1 λy H2=>R x y H2){f:Value->Value->Sem Value}
 (hf:∀v u s2 x y H2,Inv X pins σ H2 s2->RelV x v->RelV y u->R x y H2->wpAny (model X.prog X.w) X.A (f v u) Q X.xe s2) :
  wpAny (model X.prog X.w) X.A (eval a X.env) (λv s₁=>wpAny (model X.prog X.w) X.A (eval b X.env) (λu s₂=>wpAny (model X.prog X.w) X.A (f v u) Q X.xe s₂) X.xe s₁) X.xe s:=by
 refine bH (ha pins s σ H _ I h) λv s1 ⟨x,H1,I1,r1,q1⟩=>?_;refine bH (hb pins s1 σ H1 _ I1 q1) λu s2 ⟨y,H2,I2,r2,q2⟩=>?_;exact hf v u s2 x y H2 I2 r1 r2 q2
theorem KC(ho:jr X (binaryOp op) r)(ha:PE X a ta)(hb:PE X b tb):PE X (.BinOp a op b pos) (N5 r ta tb):=by intro pins s σ H Q I h;exact wpAny_BinOp (LL ha hb I h λv u s2 x y H2 I2 rx ry q=>ho pins s2 σ H2 x y v u Q I2 rx ry q)
theorem N6(ho:Qk X (unaryOp op) r)(ha:PE X a ta):PE X (.UnaryOp op a pos) (RZ r ta):=by intro pins s σ H Q I h;exact UnaryOp_ (bH (ha pins s σ H _ I h) λv s1 ⟨x,H1,I1,r1,q1⟩=>ho pins s1 σ H1 x v Q I1 r1 q1)
theorem Pn{g:Int->Int->Int}
 (rule:∀(i j:Int) (t u:Tok) (s:WO) (Q:Wv) (E:Wv),C i j->Q (.int (g i j) s.toks) {s with toks:=s.toks+1}->wpAny (model X.prog X.w) X.A (f (.int i t) (.int j u)) Q E s) :
  jr X f (rI C λi j=>.int (g i j)):=by
 intro pins s σ H x y v u Q I rx ry h;obtain⟨i,j,rfl,rfl,hc,q⟩:=h;obtain⟨t,rfl⟩:=rx;obtain⟨t',rfl⟩:=ry;exact rule i j t t' s _ _ hc ⟨.int _,H,I.tok _,⟨_,rfl⟩,q⟩
theorem N7{g:Int->Int->Int}
 (rule:∀(i j:Int) (t u:Tok) (s:WO) (Q:Wv) (E:Wv),Q (.int (g i j) s.toks) {s with toks:=s.toks+1}->wpAny (model X.prog X.w) X.A (f (.int i t) (.int j u)) Q E s) :
  jr X f (KA λi j=>.int (g i j)):=by
 intro pins s σ H x y v u Q I rx ry h;obtain⟨i,j,rfl,rfl,q⟩:=h;obtain⟨t,rfl⟩:=rx;obtain⟨t',rfl⟩:=ry;exact rule i j t t' s _ _ ⟨.int _,H,I.tok _,⟨_,rfl⟩,q⟩
theorem LM{g:Int->Int->Bool}
 (rule:∀(i j:Int) (t u:Tok) (s:WO) (Q:Wv) (E:Wv),Q (.bool (g i j)) s->wpAny (model X.prog X.w) X.A (f (.int i t) (.int j u)) Q E s) :
  jr X f (KA λi j=>.bl (g i j)):=by
 intro pins s σ H x y v u Q I rx ry h;obtain⟨i,j,rfl,rfl,q⟩:=h;obtain⟨t,rfl⟩:=rx;obtain⟨t',rfl⟩:=ry;exact rule i j t t' s _ _ ⟨.bl _,H,I,rfl,q⟩
noncomputable def N8(i j:Int):Prop:=0<j/\j<1073741824
noncomputable def Ql(i j:Int):Prop:=0<=j/\j<=1000000/\i.natAbs<2^64
noncomputable def LN(i j:Int):Prop:=(-(2^64)<i/\i<2^64)\/(-(2^64)<j/\j<2^64)
theorem LN.ok(h:LN i j):IntMulOk i j:=by
 rcases h with⟨h1,h2⟩|⟨h1,h2⟩
 ·exact .of_left (intBits_le_64 h1 h2)
 ·exact .of_right (intBits_le_64 h1 h2)
theorem LO:jr X (binaryOp .Add) (KA λi j=>.int (i+j)):=N7 λ_ _ _ _ _ _ _ q=>add_int q
theorem LP:jr X (binaryOp .Sub) (KA λi j=>.int (i-j)):=N7 λ_ _ _ _ _ _ _ q=>sub_int q
theorem LQ:jr X (binaryOp .Mult) (rI LN λi j=>.int (i*j)):=Pn λ_ _ _ _ _ _ _ hc q=>mul_int q hc.ok
theorem Iw:jr X (binaryOp .FloorDiv) (rI N8 λi j=>.int (i / j)):=Pn λi j _ _ _ _ _ hc q=>by have h1  := hc.1;have h2  := hc.2;exact floordiv_int (by omega) (by grind) (.inl (PyProof.noPylong_small (by omega)))
theorem LR:jr X (binaryOp .Mod) (rI (λ_ j=>0<j) λi j=>.int (i % j)):=Pn λi j _ _ _ _ _ hc q=>mod_int' (by omega) (by rw[Int.fmod_eq_emod_of_nonneg i (by omega)];exact q)
theorem LS:jr X (binaryOp .Pow) (rI Ql λi j=>.int (i^j.toNat)):=Pn λ_ _ _ _ _ _ _ hc q=>pow_int_small hc.1 hc.2.1 hc.2.2 q
theorem R0{g:Int->Int}
 (rule:∀(i:Int) (t:Tok) (s:WO) (Q:Wv) (E:Wv),Q (.int (g i) s.toks) {s with toks:=s.toks+1}->wpAny (model X.prog X.w) X.A (f (.int i t)) Q E s) :
  Qk X f (rU λi=>.int (g i)):=by
 intro pins s σ H x v Q I rx h;obtain⟨i,rfl,q⟩:=h;obtain⟨t,rfl⟩:=rx;exact rule i t s _ _ ⟨.int (g i),H,I.tok _,⟨_,rfl⟩,q⟩
theorem LU:Qk X (unaryOp .USub) (rU λi=>.int (-i)):=R0 λ_ _ _ _ _ q=>neg_int q
end
noncomputable def N9:V->V->Bool
 |.non,.non=>true|.non,.int _=>true|.int _,.non=>true|.non,.bl _=>true|.bl _,.non=>true|.non,.str _=>true|.str _,.non=>true
 |.int _,.int _=>true|.bl _,.bl _=>true|.str _,.str _=>true|.byt _,.byt _=>true
 |.int _,.str _=>true|.str _,.int _=>true|.bl _,.str _=>true|.str _,.bl _=>true
 |_,_=>false
noncomputable def R1:R2:=λx y H Q=>N9 x y=true/\Q (.bl (decide (x=y))) H
noncomputable def R3:R2:=λx y H Q=>N9 x y=true/\Q (.bl (!decide (x=y))) H
theorem CD:decide (V.int i=V.int j)=(i==j):=by
 grind
theorem Fx:decide (V.bl i=V.bl j)=(i==j):=by
 grind
theorem CF:decide (V.str i=V.str j)=(i==j):=by
 grind
theorem CG:decide (V.byt i=V.byt j)=(i.toList==j.toList):=by
 rw[Uc]
 simp_all
section
variable {X:Cx} {a b c:Expr} {ta tb tc:TE} {pos:Pos}
theorem bM{σ:St}(I:Inv X pins σ H s)(q:Q (.bl k) H)(e:k=k'):EP X pins σ Q (.bool k') s:=by subst e;exact⟨.bl k,H,I,rfl,q⟩
theorem Oa:jr X (compareOp .Eq) R1:=by
 intro pins s σ H x y v u Q I rx ry h;obtain⟨hs,q⟩:=h
 cases x with
 |non=>
  cases rx
  cases y with
  |non=>cases ry;exact PySem.EqNone.eq_none_none (bM I q (by simp))
  |bl j=>cases ry;exact PySem.EqNone.eq_none_bool (bM I q (by simp))
  |int j=>obtain⟨t',rfl⟩:=ry;exact PySem.EqNone.eq_none_int (bM I q (by simp))
  |str j=>obtain⟨t',rfl⟩:=ry;exact PySem.EqNone.eq_none_str (bM I q (by simp))
  |_=>exact absurd (show false=true from hs) Tc
 |bl i=>
  cases rx
  cases y with
  |non=>cases ry;exact PySem.EqNone.eq_bool_none (bM I q (by simp))
  |bl j=>cases ry;exact eq_bool (bM I q Fx)
  |str j=>obtain⟨t',rfl⟩:=ry;exact PySem.EqMixed.eq_bool_str (bM I q (by simp))
  |_=>exact absurd (show false=true from hs) Tc
 |int i=>
  obtain⟨t,rfl⟩:=rx
  cases y with
  |non=>cases ry;exact PySem.EqNone.eq_int_none (bM I q (by simp))
  |int j=>obtain⟨t',rfl⟩:=ry;exact eq_int (bM I q CD)
  |str j=>obtain⟨t',rfl⟩:=ry;exact PySem.EqMixed.eq_int_str (bM I q (by simp))
  |_=>exact absurd (show false=true from hs) Tc
 |str i=>
  obtain⟨t,rfl⟩:=rx
  cases y with
  |non=>cases ry;exact PySem.EqNone.eq_str_none (bM I q (by simp))
  |bl j=>cases ry;exact PySem.EqMixed.eq_str_bool (bM I q (by simp))
  |int j=>obtain⟨t',rfl⟩:=ry;exact PySem.EqMixed.eq_str_int (bM I q (by simp))
  |str j=>obtain⟨t',rfl⟩:=ry;exact eq_str (bM I q CF)
  |_=>exact absurd (show false=true from hs) Tc
 |byt i=>
  obtain⟨t,rfl⟩:=rx
  cases y with
  |byt j=>obtain⟨t',rfl⟩:=ry;exact PySem.W.eq_bytes (bM I q CG)
  |_=>exact absurd (show false=true from hs) Tc
 |_=>cases y<;>exact absurd (show false=true from hs) Tc
theorem Ob:jr X (compareOp .NotEq) R3:=by
 intro pins s σ H x y v u Q I rx ry h;obtain⟨hs,q⟩:=h
 cases x with
 |non=>
  cases rx
  cases y with
  |non=>cases ry;exact PySem.EqNone.ne_none_none (bM I q (by simp))
  |bl j=>cases ry;exact PySem.EqNone.ne_none_bool (bM I q (by simp))
  |int j=>obtain⟨t',rfl⟩:=ry;exact PySem.EqNone.ne_none_int (bM I q (by simp))
  |str j=>obtain⟨t',rfl⟩:=ry;exact PySem.EqNone.ne_none_str (bM I q (by simp))
  |_=>exact absurd (show false=true from hs) Tc
 |bl i=>
  cases rx
  cases y with
  |non=>cases ry;exact PySem.EqNone.ne_bool_none (bM I q (by simp))
  |bl j=>cases ry;exact ne_bool (bM I q (VG not Fx))
  |str j=>obtain⟨t',rfl⟩:=ry;exact PySem.EqMixed.ne_bool_str (bM I q (by simp))
  |_=>exact absurd (show false=true from hs) Tc
 |int i=>
  obtain⟨t,rfl⟩:=rx
  cases y with
  |non=>cases ry;exact PySem.EqNone.ne_int_none (bM I q (by simp))
  |int j=>obtain⟨t',rfl⟩:=ry;exact ne_int (bM I q (VG not CD))
  |str j=>obtain⟨t',rfl⟩:=ry;exact PySem.EqMixed.ne_int_str (bM I q (by simp))
  |_=>exact absurd (show false=true from hs) Tc
 |str i=>
  obtain⟨t,rfl⟩:=rx
  cases y with
  |non=>cases ry;exact PySem.EqNone.ne_str_none (bM I q (by simp))
  |bl j=>cases ry;exact PySem.EqMixed.ne_str_bool (bM I q (by simp))
  |int j=>obtain⟨t',rfl⟩:=ry;exact PySem.EqMixed.ne_str_int (bM I q (by simp))
  |str j=>obtain⟨t',rfl⟩:=ry;exact ne_str (bM I q (VG not CF))
  |_=>exact absurd (show false=true from hs) Tc
 |byt i=>
  obtain⟨t,rfl⟩:=rx
  cases y with
  |byt j=>obtain⟨t',rfl⟩:=ry;exact PySem.W.ne_bytes (bM I q (VG not CG))
  |_=>exact absurd (show false=true from hs) Tc
 |_=>cases y<;>exact absurd (show false=true from hs) Tc
theorem Oc:jr X (compareOp .LtE) (KA λi j=>.bl (decide (i<=j))):=LM λ_ _ _ _ _ _ _ q=>le_int q
theorem Od:jr X (compareOp .Gt) (KA λi j=>.bl (decide (j<i))):=LM λ_ _ _ _ _ _ _ q=>gt_int q
theorem Oe:jr X (compareOp .GtE) (KA λi j=>.bl (decide (j<=i))):=LM λ_ _ _ _ _ _ _ q=>ge_int q
theorem Eg:jr X (compareOp .In) (λx y H Q=>∃i j,x=.str i/\y=.str j/\Q (.bl (!(Builtin.Str.occurrences j i 0 j.length 1).isEmpty)) H):=by intro pins s σ H x y v u Q I rx ry h;obtain⟨i,j,rfl,rfl,q⟩:=h;obtain⟨t,rfl⟩:=rx;obtain⟨t',rfl⟩:=ry;exact in_str (bM I q rfl)
theorem x9:jr X (compareOp .NotIn) (λx y H Q=>∃i j,x=.str i/\y=.str j/\Q (.bl (!(!(Builtin.Str.occurrences j i 0 j.length 1).isEmpty))) H):=by intro pins s σ H x y v u Q I rx ry h;obtain⟨i,j,rfl,rfl,q⟩:=h;obtain⟨t,rfl⟩:=rx;obtain⟨t',rfl⟩:=ry;exact notIn_str (bM I q rfl)
theorem jr.or(h:jr X f r)(h':jr X f r'):jr X f (λx y H Q=>r x y H Q\/r' x y H Q):=by
 intro pins s σ H x y v u Q I rx ry q;rcases q with q|q
 ·exact h pins s σ H x y v u Q I rx ry q
 ·exact h' pins s σ H x y v u Q I rx ry q
theorem Qm(b:Expr)(h:op≠.In:=by decide)(h2:op≠.NotIn:=by decide):behindInMarks op b=false:=by
 have e1:(op==CmpOp.In)=false:=by grind
 have e2:(op==CmpOp.NotIn)=false:=by grind
 cases b<;>simp[behindInMarks,e1,e2]
theorem Iy(ho:jr X (compareOp op) r)(ha:PE X a ta)(hb:PE X b tb)(hm:behindInMarks op b=false):PE X (.Compare a [op] [b] pos) (N5 r ta tb):=by intro pins s σ H Q I h;exact wpAny_Compare1 (LL ha hb I h λv u s2 x y H2 I2 rx ry q=>ho pins s2 σ H2 x y v u Q I2 rx ry q) hm
noncomputable def KD(t:TE):TT:=λσ H Q=>t σ H λx H'=>∃k,x=.bl k/\Q k H'
theorem Iz(ho:jr X (compareOp op) r)(ha:PE X a ta)(hb:PE X b tb)(hm:behindInMarks op b=false):PT X (.Compare a [op] [b] pos) (KD (N5 r ta tb)):=by
 intro pins s σ H Q I h
 refine wpAny_isTrue_Compare1 (bH (ha pins s σ H _ I h) λv s1 ⟨x,H1,I1,r1,q1⟩=>bH (hb pins s1 σ H1 _ I1 q1) λu s2 ⟨y,H2,I2,r2,q2⟩=>
  bH (ho pins s2 σ H2 x y v u _ I2 r1 r2 q2) λc s3 ⟨z,H3,I3,r3,k,e,q3⟩=>?_) hm
 subst e;cases r3;exact Uk ⟨H3,I3,q3⟩
noncomputable def Bo(r r':R2)(ta tb tc:TE):TE:=λσ H Q=>ta σ H λx H1=>tb σ H1 λy H2=>r x y H2 λz H3=>∃k,z=.bl k /\
 (if k=true then tc σ H3 λw' H4=>r' y w' H4 Q else Q (.bl false) H3)
theorem Fy(ho:jr X (compareOp op) r)(ho':jr X (compareOp op') r')(ha:PE X a ta)(hb:PE X b tb)(hc:PE X c tc)
 (hm:lastMarks [op,op'] [b,c]=false:=by with_unfolding_all rfl):PE X (.Compare a [op,op'] [b,c] pos) (Bo r r' ta tb tc):=by
 intro pins s σ H Q I h
 refine Compare_chain (bH (ha pins s σ H _ I h) λv s1 ⟨x,H1,I1,r1,q1⟩=>chain_link (bH (hb pins s1 σ H1 _ I1 q1) λu s2 ⟨y,H2,I2,r2,q2⟩=>
  bH (ho pins s2 σ H2 x y v u _ I2 r1 r2 q2) λd s3 ⟨z,H3,I3,r3,k,e,q3⟩=>?_)) hm
 subst e;cases r3;refine Uk ?_
 cases k with
 |false=>exact ite_ff ⟨.bl false,H3,I3,rfl,q3⟩
 |true=>exact ite_tt (chain_last (bH (hc pins s3 σ H3 _ I3 q3) λw' s4 ⟨z',H4,I4,r4,q4⟩=>ho' pins s4 σ H4 y z' u w' Q I4 r2 r4 q4))
theorem Fz(ho:jr X (compareOp op) r)(ho':jr X (compareOp op') r')(ha:PE X a ta)(hb:PE X b tb)(hc:PE X c tc)
 (hm:lastMarks [op,op'] [b,c]=false:=by with_unfolding_all rfl):PT X (.Compare a [op,op'] [b,c] pos) (KD (Bo r r' ta tb tc)):=by
 intro pins s σ H Q I h
 refine isTrue_chain (bH (ha pins s σ H _ I h) λv s1 ⟨x,H1,I1,r1,q1⟩=>test_link (bH (hb pins s1 σ H1 _ I1 q1) λu s2 ⟨y,H2,I2,r2,q2⟩=>
  bH (ho pins s2 σ H2 x y v u _ I2 r1 r2 q2) λd s3 ⟨z,H3,I3,r3,k,e,q3⟩=>?_)) hm
 subst e;cases r3;refine Uk ?_
 cases k with
 |false=>obtain⟨k',e',q'⟩:=q3;cases e';exact ite_ff ⟨H3,I3,q'⟩
 |true=>refine ite_tt (test_last (bH (hc pins s3 σ H3 _ I3 q3) λw' s4 ⟨z',H4,I4,r4,q4⟩=>bH (ho' pins s4 σ H4 y z' u w' _ I4 r2 r4 q4) λd' s5 ⟨z2,H5,I5,r5,k2,e2,q5⟩=>?_));subst e2;cases r5;exact Uk ⟨H5,I5,q5⟩
noncomputable def LV(K:WD)(x:V)(H:Hp)(k:Bool):Prop:=
 match x with
 |.non=>k=false
 |.bl b=>k=b
 |.int i=>k=(i != 0)
 |.str y=>y.length<=sizeLine/\k=((y.length:Int) != 0)
 |.byt y=>y.size<=sizeLine/\k=((y.size:Int) != 0)
 |.ref p=>(∃xs,j9 K H p xs/\k=!xs.isEmpty)\/(∃xs,ip K H p xs/\k=!xs.isEmpty)\/∃kvs,H p=some (.dK kvs)/\k=!kvs.isEmpty
 |_=>False
theorem Bp(r:KV kvs vs):(!vs.isEmpty)=!kvs.isEmpty:=by cases r<;>rfl
theorem tT(r:Vals xs its):(!its.toArray.isEmpty)=!xs.isEmpty:=by cases r<;>simp
theorem tU:(sizeLine:Nat)<2^63:=by trivial
theorem Bq:LK X (λx H Q=>∃k,LV X.K x H k/\Q k H):=by
 intro pins s σ H x v Q I rx h;obtain⟨k,e,q⟩:=h;have hl:=tU;have hs:sizeLine=16777216:=Ul
 cases x with
 |non=>cases rx;have e':k=false:=e;subst e';exact truthy_none ⟨H,I,q⟩
 |bl b=>cases rx;have e':k=b:=e;subst e';exact Uk ⟨H,I,q⟩
 |int i=>obtain⟨t,rfl⟩:=rx;have e':k=(i != 0):=e;subst e';exact PySem.P.truthy_int ⟨H,I,q⟩
 |str y=>obtain⟨t,rfl⟩:=rx;obtain⟨hy,e'⟩:y.length<=sizeLine/\k=((y.length:Int) != 0):=e;subst e';exact PySem.P.truthy_str (by omega) ⟨H,I.tok _,q⟩
 |byt y=>obtain⟨t,rfl⟩:=rx;obtain⟨hy,e'⟩:y.size<=sizeLine/\k=((y.size:Int) != 0):=e;subst e';exact PySem.W.truthy_bytes (by omega) ⟨H,I.tok _,q⟩
 |ref p=>
  cases rx;have e':(∃xs,j9 X.K H p xs/\k=!xs.isEmpty)\/(∃xs,ip X.K H p xs/\k=!xs.isEmpty)\/∃kvs,H p=some (.dK kvs)/\k=!kvs.isEmpty:=e;rcases e' with⟨xs,hx,e'⟩|⟨xs,hx,e'⟩|⟨kvs,hx,e'⟩
  ·subst e';obtain⟨its,r,pl,hz⟩:=I.list hx;have hlen:=r.length;exact wpAny_truthy_list pl.isList (by simp only[S5];omega) ⟨H,I.tok _,by rw[tT r];exact q⟩
  ·subst e';obtain⟨its,r,pl,hz⟩:=I.tuple hx;have hlen:=r.length;exact truthy_tuple pl (by simp only[S5];omega) ⟨H,I.tok _,by rw[tT r];exact q⟩
  ·subst e';obtain⟨hz,hS,vs,r,m⟩:kvs.length<=sizeLine/\(p==sysModules)=false/\∃vs,KV kvs vs/\s.heap.DictOf (bV X.prog X.w) p vs:=I.hok p _ hx;have hlen:kvs.length=vs.length:=SW r;exact wpAny_truthy_dict hS m (by omega) ⟨H,I.tok _,by rw[Bp r];exact q⟩
 |_=>exact(show False from e).elim
theorem FA(ha:PE X a ta)(he:∀whole,isTrue a X.env whole=(do let v <- whole;standAt a.pos;holding [v] (truthy v))) :
  PT X a (λσ H Q=>ta σ H λx H'=>∃k,LV X.K x H' k/\Q k H'):=by
 intro pins s σ H Q I h;exact isTrue_plain (bH (ha pins s σ H _ I h) λv s1 ⟨x,H1,I1,r1,q1⟩=>Bq pins s1 σ H1 x v Q I1 r1 q1) (he _)
theorem Br:jr X (binaryOp .Add) (λx y H Q=>∃i j,x=.str i/\y=.str j/\i.length+j.length<=sizeLine/\Q (.str (i++j)) H):=by intro pins s σ H x y v u Q I rx ry h;obtain⟨i,j,rfl,rfl,hz,q⟩:=h;obtain⟨t,rfl⟩:=rx;obtain⟨t',rfl⟩:=ry;exact add_str (λt' tk=>⟨.str _,H,I.tok _,⟨_,rfl⟩,q⟩) hz
theorem vals1(r:Vals [x] us):∃u,us=[u]/\RelV x u:=by
 cases r with
 |cons r1 r2=>cases r2;grind
theorem vals2(r:Vals [x,y] us):∃u w',us=[u,w']/\RelV x u/\RelV y w':=by
 cases r with
 |cons r1 r2=>
  cases r2 with
  |cons r3 r4=>cases r4;grind
theorem Eh(hc:X.calm=true):eE X (.builtin "max") (λxs H Q=>∃i j,xs=[.int i,.int j]/\Q (.int (if j>i then j else i)) H):=by
 intro pins s σ H xs us Q I r h;obtain⟨i,j,rfl,q⟩:=h;obtain⟨u,w',rfl,⟨t,rfl⟩,⟨t',rfl⟩⟩:=vals2 r;refine max_two_ints (I.ok.hd hc) λh' tk k=>⟨_,H,I.kept k,?_,q⟩;by_cases hj:j>i
 ·rw[if_pos hj,if_pos hj];exact⟨_,rfl⟩
 ·rw[if_neg hj,if_neg hj];exact⟨_,rfl⟩
theorem Ei:eE X (.type "int") (λxs H Q=>(∃i,xs=[.int i]/\Q (.int i) H)\/∃k,xs=[.bl k]/\Q (.int (if k then 1 else 0)) H):=by
 intro pins s σ H xs us Q I r h;rcases h with⟨i,rfl,q⟩|⟨k,rfl,q⟩
 ·obtain⟨u,rfl,t,rfl⟩:=vals1 r;exact call_int_int ⟨.int i,H,I,⟨_,rfl⟩,q⟩
 ·obtain⟨u,rfl,r1⟩:=vals1 r;cases r1;exact call_int_bool ⟨.int _,H,I.tok _,⟨_,rfl⟩,q⟩
noncomputable def Qn(K:WD)(x:V)(H:Hp)(n:Nat):Prop:=
 match x with
 |.str y=>y.length<=sizeLine/\n=y.length
 |.byt y=>y.size<=sizeLine/\n=y.size
 |.ref p=>(∃xs,j9 K H p xs/\n=xs.length)\/∃xs,ip K H p xs/\n=xs.length
 |_=>False
theorem FC:eE X (.builtin "len") (λxs H Q=>∃x n,xs=[x]/\Qn X.K x H n/\Q (.int n) H):=by
 intro pins s σ H xs us Q I r h;obtain⟨x,n,rfl,e,q⟩:=h;obtain⟨u,rfl,rx⟩:=vals1 r;have hl:=tU;have hs:sizeLine=16777216:=Ul
 cases x with
 |str y=>obtain⟨t,rfl⟩:=rx;obtain⟨hy,e'⟩:y.length<=sizeLine/\n=y.length:=e;subst e';exact len_str (by omega) ⟨.int _,H,I.tok _,⟨_,rfl⟩,q⟩
 |byt y=>obtain⟨t,rfl⟩:=rx;obtain⟨hy,e'⟩:y.size<=sizeLine/\n=y.size:=e;subst e';exact PySem.W.len_bytes (by omega) ⟨.int _,H,I.tok _,⟨_,rfl⟩,q⟩
 |ref p=>
  cases rx;have e':(∃xs,j9 X.K H p xs/\n=xs.length)\/∃xs,ip X.K H p xs/\n=xs.length:=e;rcases e' with⟨xs,hx,e'⟩|⟨xs,hx,e'⟩
  ·subst e';obtain⟨its,r',pl,hz⟩:=I.list hx;have hlen:=r'.length;exact Calls.call_len_list pl.isList (by simp only[S5];omega) ⟨.int xs.length,H,I.tok _,⟨_,by simp only[S5];rw[hlen]⟩,q⟩
  ·subst e';obtain⟨its,r',pl,hz⟩:=I.tuple hx;have hlen:=r'.length;exact len_tuple pl (by simp only[S5];omega) ⟨.int xs.length,H,I.tok _,⟨_,by simp only[S5];rw[hlen]⟩,q⟩
 |_=>exact(show False from e).elim
theorem zA:eE X (.builtin "divmod") (λxs H Q=>∃i j,xs=[.int i,.int j]/\N8 i j/\∀p,H p=none->Q (.ref p) (upd H p (.tup [.int (i / j),.int (i % j)]))):=by intro pins s σ H xs us Q I r h;obtain⟨i,j,rfl,⟨h1,h2⟩,q⟩:=h;obtain⟨u,w',rfl,⟨t,rfl⟩,⟨t',rfl⟩⟩:=vals2 r;refine divmod_int (by omega) ?_ (.inl (PyProof.noPylong_small (by omega)));rw[Int.fdiv_eq_ediv_of_nonneg i (by omega),Int.fmod_eq_emod_of_nonneg i (by omega)];have hn  := I.hok.fresh (Ss _);refine⟨.ref s.heap.objs.size,_,?_,rfl,q _ hn⟩;refine I.laid (λb o e=>So _ e) (Ss _) ⟨by simp_all[Ul],[.int _ s.toks,.int _ (s.toks+1)],.cons ⟨_,rfl⟩ (.cons ⟨_,rfl⟩ .nil),?_⟩;exact⟨_,Sy s.heap rfl,rfl,0,rfl⟩
end
structure LW(h:Heap)(x dx C:Addr)(mA:Wz):Prop where
 obj:h.get? x=some (PySem.W.instObj C dx)
 ns:h.Ns1 dx mA
 ne:dx≠x
theorem Ej{h:Heap}(n:h.Ns1 dx mA):∃od,h.get? dx=some od/\∀name,PySem.W.lookIn name od=some (mA name):=by
 obtain⟨o,es,ep,ho,hd,hk,_,hm⟩:=n;refine⟨o,ho,λname=>?_⟩;have e:=hm name;unfold nsFind findBy at e;rw[<- Array.find?_toList]at e;unfold PySem.W.lookIn;rw[hd];dsimp only;split
 ·grind
 ·rename_i q;rw[q]at e;have a:es.toList.any (·.refKey)=false:=by rw[List.any_eq_false];intro y hy;obtain⟨z,t,hkey⟩:=hk y (UO.mp hy);simp[DictEntry.refKey,hkey]
  have a':¬ es.toList.any (·.refKey)=true:=by rw[a];exact Tc
  rw[if_neg a'];exact VG some e
theorem LW.look(I:LW h x dx C mA):∃od,PySem.W.InstAt h x (PySem.W.instObj C dx) C (some od)/\∀name,PySem.W.lookIn name od=some (mA name):=
 let ⟨od,ho,hl⟩:=Ej I.ns
 ⟨od,⟨I.obj,rfl,rfl,ho⟩,hl⟩
theorem qA.some_of(r:qA (some v) o):∃u,o=some u/\RelV v u:=by
 cases o with
 |none=>trivial
 |some u=>exact⟨u,rfl,r⟩
section
variable {P:WL} {w:World} {H H':Hp} {h h':Heap} {a C dx:Addr} {fs fs':List (Str×V)}
theorem IA(hok:mr P w H h)(e:H a=some (.ins C dx fs)):∃mA,LW h a dx C mA/\(∀f,qA (fs.lookup f) (mA f))/\PySem.Within mA (fs.map (·.1))/\fs.length<=1000/\H dx=some (.own a):=by obtain⟨d,z,ne,ob,mA,n,r,q⟩:=(hok a _ e);exact⟨mA,⟨ob,n,ne⟩,r,q,z,d⟩
end
structure Qo(K:WD)(C:Addr):Prop where
 pg:PySem.W.plainGet K C Str.empty=true
 hd:PySem.W.hasDictIn K C=true
 po:PySem.W.plainOver K C=true
 sa:PySem.W.findIn K (.ref C) "__setattr__" = some (some (.builtin "object.__setattr__"))
theorem Qo.get{K:WD}{C:Addr}(c:Qo K C)(f:Str):PySem.W.plainGet K C f=true:=c.pg
section
variable {X:Cx} {pins:Ww} {σ:St} {H:Hp} {s:WO} {A:WN} {E:Wv} {Q:Wv} {c:Value} {b:Bool}
inductive o4 (K:WD) (H:Hp):V->Value->Prop where
 |non:o4 K H .non (.type "NoneType")
 |bl (x:Bool):o4 K H (.bl x) (.type "bool")
 |int (i:Int):o4 K H (.int i) (.type "int")
 |str (x:Str):o4 K H (.str x) (.type "str")
 |flt (x:UInt64):o4 K H (.flt x) (.type "float")
 |lst {a:Addr} {xs:List V} (e:H a=some (.lst xs)):o4 K H (.ref a) (.type "list")
 |frz {a:Addr} {o:Obj} {xs:List V} (e:H a=some (.frz o (.lst xs))):o4 K H (.ref a) (.type "list")
 |tup {a:Addr} {xs:List V} (e:H a=some (.tup xs)):o4 K H (.ref a) (.type "tuple")
 |dK {a:Addr} {kvs:List (Key×V)} (e:H a=some (.dK kvs)):o4 K H (.ref a) (.type "dict")
 |dT {a:Addr} {kvs:List (List Key×V)} (e:H a=some (.dT kvs)):o4 K H (.ref a) (.type "dict")
 |ins {a C dx:Addr} {fs:List (Str×V)} (e:H a=some (.ins C dx fs)) (cl:Qo K C) (ha:PySem.W.findIn K (.ref C) "__class__" = some (some (.builtin "object.__class__")))
   (hn:PySem.W.specialIn K (.builtin "object.__class__") "__get__" = some (some (.builtin "getset_descriptor.__get__"))) (htk:PySem.W.takesIn K (.builtin "object.__class__")=some true)
   (hm:PySem.W.mroIn K C (.type "object")=some true):o4 K H (.ref a) (.ref C)
theorem Ek(I:Inv X pins σ H s)(rx:RelV x u)(ty:o4 X.K H x t)(e:PySem.W.kitOne X.K t c=some b)(h:∀tk,Q (.bool b) {s with toks:=tk}) :
  wpAny (model X.prog X.w) A (call (.builtin "isinstance") [u,c]) Q E s:=by
 cases ty with
 |non=>cases(show u=Value.none from rx);exact T6 PySem.W.kitx_none I.vS True.intro e (λz=>nomatch z) h
 |bl y=>cases(show u=Value.bool y from rx);exact T6 PySem.W.kitx_bool I.vS True.intro e (λz=>nomatch z) h
 |int i=>obtain⟨t,q⟩:=(show ∃t,u=Value.int i t from rx);cases q;exact T6 PySem.W.kitx_int I.vS True.intro e (λz=>nomatch z) h
 |str y=>obtain⟨t,q⟩:=(show ∃t,u=Value.str y t from rx);cases q;exact T6 PySem.W.kitx_str I.vS True.intro e (λz=>nomatch z) h
 |flt y=>obtain⟨t,q⟩:=(show ∃t,u=Value.float y t from rx);cases q;exact T6 PySem.W.kitx_float I.vS True.intro e (λz=>nomatch z) h
 | @lst a xs ea=>cases(show u=Value.ref a from rx);obtain⟨_,_,n,_,h1⟩:=(show cW X.prog X.w H s.heap a (.lst xs)from I.hok a _ ea);exact T6 PySem.W.kitx_list I.vS ⟨_,h1,rfl⟩ e (λz=>nomatch z) h
 | @frz a ob xs ea=>cases(show u=Value.ref a from rx);obtain⟨_,_,_,n,_,h1⟩:=(show cW X.prog X.w H s.heap a (.frz ob (.lst xs))from I.hok a _ ea);exact T6 PySem.W.kitx_list I.vS ⟨_,h1,rfl⟩ e (λz=>nomatch z) h
 | @tup a xs ea=>cases(show u=Value.ref a from rx);obtain⟨_,_,_,p⟩:=(show cW X.prog X.w H s.heap a (.tup xs)from I.hok a _ ea);obtain⟨o,h1,h2,_⟩:=p;exact T6 PySem.W.kitx_tuple I.vS ⟨o,h1,h2⟩ e (λz=>nomatch z) h
 | @dK a kvs ea=>cases(show u=Value.ref a from rx);obtain⟨_,_,vs,_,p⟩:=(show cW X.prog X.w H s.heap a (.dK kvs)from I.hok a _ ea);obtain⟨o,es,ep,h1,h2,_⟩:=p;exact T6 PySem.W.kitx_dict I.vS ⟨o,h1,h2.1⟩ e (λz=>nomatch z) h
 | @dT a kvs ea=>cases(show u=Value.ref a from rx);obtain⟨_,_,xs,_,o,es,ep,h1,h2,_⟩:=(show cW X.prog X.w H s.heap a (.dT kvs)from I.hok a _ ea);exact T6 PySem.W.kitx_dict I.vS ⟨o,h1,h2.1⟩ e (λz=>nomatch z) h
 | @ins a C dx fs ea cl ha hn htk hm=>cases(show u=Value.ref a from rx);obtain⟨mA,O,_⟩:=IA I.hok ea;obtain⟨od,J,_⟩:=O.look;exact T6 (PySem.W.kitx_own (cl.get _) cl.hd ha hn htk hm) I.vS J e (λz=>nomatch z) h
end
structure cG(k:Nat)(A:WN):Prop where
 hd:A.handled=none
 dp:A.depth+3*k+5<recursionLimit
 un:A.units+16*k+200<cLine
 gd:A.guards=some []
theorem cG.mono(r:cG k A)(h:j<=k):cG j A:=⟨r.hd,by have:=r.dp;omega,by have:=r.un;omega,r.gd⟩
theorem cG.deeper(r:cG (k+1) A)(env:Env):cG k (A.deeper env):=
 ⟨r.hd,by have:=r.dp;show A.depth+1+3*k+5<_;omega,by have:=r.un;show A.units+3+16*k+200<_;omega,r.gd⟩
theorem cG.depth(r:cG k A):A.depth<recursionLimit:=by have:=r.dp;omega
theorem cG.units(r:cG k A):A.units+64<cLine:=by have:=r.un;omega
noncomputable def LX:TA:=λ_ H Q=>Q [] H
noncomputable def KG(ta:TE)(tr:TA):TA:=λσ H Q=>ta σ H λx H1=>tr σ H1 λxs H2=>Q (x::xs) H2
section
variable {X:Cx} {e:Expr} {es:WG} {te:TE} {t:TA} {pos:Pos}
theorem tV:PA X [] LX:=λ_ _ _ _ H Q I h=>UR ⟨[],H,I,.nil,h⟩
theorem nq(ha:PE X e te)(hr:PA X es t)(hs:starEach (e::es) X.env=(false,eval e X.env)::starEach es X.env:=by rfl):PA X (e::es) (KG te t):=by intro pos pins s σ H Q I h;rw[hs];refine Us (bH (ha pins s σ H _ I h) λu s1 ⟨x,H1,I1,r1,q1⟩=>?_);exact bH (hr pos pins s1 σ H1 _ I1 q1) λus s2 ⟨xs,H2,I2,r2,q2⟩=>⟨x::xs,H2,I2,.cons r1 r2,q2⟩
noncomputable def Qp(t:TA):TE:=λσ H Q=>t σ H λxs H1=>xs.length<=sizeLine/\∀p,H1 p=none->Q (.ref p) (upd H1 p (.tup xs))
noncomputable def Qq(t:TA):TE:=λσ H Q=>t σ H λxs H1=>xs.length<=sizeLine/\∀p,H1 p=none->Q (.ref p) (upd H1 p (.lst xs))
theorem Bs(h:PA X es t):PE X (.Tuple es x1 pos) (Qp t):=by intro pins s σ H Q I hq;refine wpAny_Tuple_spliced (bH (h pos pins s σ H _ I hq) λus s1 ⟨xs,H1,I1,r,z,q⟩=>⟨by grind[r.length],?_⟩);have hf  := I1.hok.fresh (Ss _);refine⟨.ref s1.heap.objs.size,upd H1 s1.heap.objs.size _,I1.laid (λb u e=>So _ e) (Ss _) ?_,rfl,q _ hf⟩;exact⟨z,us,r,⟨_,Sy _ rfl,rfl,_,rfl⟩⟩
theorem Bt(h:PA X es t):PE X (.List es pos) (Qq t):=by intro pins s σ H Q I hq;refine wpAny_List_spliced (bH (h pos pins s σ H _ I hq) λus s1 ⟨xs,H1,I1,r,z,q⟩=>⟨by grind[r.length],?_⟩);have hf  := I1.hok.fresh (Ss _);refine⟨.ref s1.heap.objs.size,upd H1 s1.heap.objs.size _,I1.laid (λb u e=>So _ e) (Ss _) ?_,rfl,q _ hf⟩;exact⟨z,us,0,r,Sy _ rfl⟩
end
noncomputable abbrev Sp:=List V->Hp->VK->XK->Prop
noncomputable abbrev LY:=List Env->Hp->WO->XK->Wv
structure IB(P:WL)(w:World)(K:WD)(mg:Wz)(base:Heap)(A:WN)(outer:List Env)(s:WO)(H:Hp):Prop where
 frames:A.frames=some outer
 mod:Mod K mg base
 bs:∀b o,base.get? b=some o->s.heap.get? b=some o/\H b=none
 bsz:base.objs.size<=s.heap.objs.size
 qB:s.heap.FunFrames base outer
 frf:∀b∈vR outer,H b=none
 hok:mr P w H s.heap
 bare:AllBare s.gens
noncomputable def CE(outer:List Env)(P:WL)(w:World)(H:Hp)(s:WO)(Q:VK)(u:Value)(s':WO):Prop:=
 ∃v H',s'.os=s.os/\AllBare s'.gens/\Un (vR outer) [] H H' s.heap s'.heap/\mr P w H' s'.heap/\RelV v u/\Q v H'
noncomputable def CR(CX:LY)(outer:List Env)(P:WL)(w:World)(H:Hp)(s:WO)(Q:VK)(E:XK)(r:Result)(s':WO):Prop:=
 match r with
 |.ok (.ret u)=>CE outer P w H s Q u s'
 |.ok _=>False
 |.error e=>CX outer H s E e s'
structure ka(P:WL)(w:World)(K:WD)(mg:Wz)(base:Heap)(CX:LY)(k:Nat)(f:Addr)(fd:FuncData)(ps:WE)(sp:Sp):Prop where
 len:∀vs H Q E,sp vs H Q E->vs.length=ps.length
 run:∀(A:WN) (outer:List Env) (s:WO) (H:Hp) (args:Args) (us:WC) (vs:List V) (Q:VK) (E:XK),cG k A->IB P w K mg base A outer s H->BindsTo s fd args (ps.zip us)->Vals vs us->sp vs H Q E ->
  codeAny (model P w) A (.call (.ref f) args) (CR CX outer P w H s Q E) s
theorem ka.mono{K:WD}(F:ka P w K mg base CX j f fd ps sp)(h:j<=k) :
  ka P w K mg base CX k f fd ps sp:=⟨F.len,λA outer s H args us vs Q E hr=>F.run A outer s H args us vs Q E (hr.mono h)⟩
theorem ka.imp{K:WD}(F:ka P w K mg base CX k f fd ps sp)
 (h:∀vs H Q E,sp' vs H Q E->sp vs H Q E):ka P w K mg base CX k f fd ps sp':=
 ⟨λvs H Q E q=>F.len vs H Q E (h _ _ _ _ q),λA outer s H args us vs Q E hr he hb hv hs=>F.run A outer s H args us vs Q E hr he hb hv (h _ _ _ _ hs)⟩
section
variable {X:Cx} {pins:Ww} {σ:St} {H:Hp} {s s':WO}
theorem Inv.Qr(I:Inv X pins σ H s):IB X.prog X.w X.K X.mg X.base X.A X.stack s H:=
 ⟨I.ok.frames,I.ok.mod,I.bs,Sw I.ok.bsz I.sz,I.stack,I.CB,I.hok,I.bare⟩
theorem Inv.after(I:Inv X pins σ H s)(h:CE X.stack X.prog X.w H s Q u s'):EP X pins σ Q u s':=by obtain⟨v,H',os,bare,un,hok,r,q⟩:=h;obtain⟨hh,g,d,t,os'⟩:=s';obtain rfl:os'=s.os:=os;exact⟨v,H',I.call un hok bare (λb z=>absurd z (by simp)),r,q⟩
end
noncomputable def FD(sp:Sp)(dvs:List V)(E:XK)(t:TA):TE:=λσ H Q=>t σ H λvs H1=>sp (vs++dvs) H1 Q E
noncomputable def Binds(K:WD)(fd:FuncData)(ps:WE)(ds:WC):Prop:=
 ∀(s:WO) (us:WC),K.In s.heap->(us++ds).length=ps.length->BindsTo s fd ⟨us,[]⟩ (ps.zip (us++ds))
theorem Binds.all{K:WD}(h:∀us:WC,us.length=ps.length->bindArgs fd ⟨us,[]⟩=pure (ps.zip us)):Binds K fd ps []:=λs us _ hl=>by rw[US]at hl ⊢;exact .of_eq (h us hl)
noncomputable def Passes(CX:LY)(X:Cx)(E:XK):Prop:=∀(pins:Ww) (σ:St) (H:Hp) (s:WO) (e:Value) (s':WO),Inv X pins σ H s->CX X.stack H s E e s'->X.xe e s'
section
variable {X:Cx} {CX:LY} {k:Nat} {f C:Addr} {fd:FuncData} {ps:WE} {sp:Sp} {dvs:List V} {ds:WC} {E:XK} {x m:Str} {p pos apos:Pos} {e o:Expr} {es:WG} {ta:TE} {t:TA}
theorem Bu{σ:St}(F:ka X.prog X.w X.K X.mg X.base CX k f fd ps sp)(hr:cG k X.A)(hb:Binds X.K fd ps ds)(hd:Vals dvs ds)(hx:Passes CX X E)
 (I:Inv X pins σ H s)(r:Vals vs us)(h:sp (vs++dvs) H Q E):wpAny (model X.prog X.w) X.A (call (.ref f) us) (EP X pins σ Q) X.xe s:=by
 have r2  := r.append hd;have hl:(us++ds).length=ps.length:=by rw[<- r2.length];exact F.len _ _ _ _ h
 refine wpAny_call (VR (F.run X.A X.stack s H _ _ _ Q E hr I.Qr (hb s us I.vS hl) r2 h) λr s' hq=>?_)
 cases r with
 |error e=>exact hx pins σ H s e s' I hq
 |ok fl=>
  cases fl with
  |ret u=>exact I.after hq
  |next=>assumption
  |brk=>assumption
  |cont=>assumption
theorem IC(F:ka X.prog X.w X.K X.mg X.base CX k f fd ps sp)(hr:cG k X.A)(hg:Gl X x)(hm:X.mg x=some (.ref f))(hk:PySem.W.keepIn X.K (.ref f)=true)(hb:Binds X.K fd ps ds)(hd:Vals dvs ds)(hx:Passes CX X E)
 (ha:PA X (e::es) t)(hdb:(x==("__debug__" : Str))=false:=by decide)(he:starEach (e::es) X.env=(false,eval e X.env)::starEach es X.env:=by rfl)(hpl:(backTo pos (starEach es X.env)).any (·.1)=false:=by rfl) :
  PE X (.Call (.Name x p) (e::es) [] pos) (FD sp dvs E t):=by
 intro pins s σ H Q I h;refine TL (x6 I hg hm ?_ hdb);refine PySem.W.callWith_K I.ok.mod.kin hk (bH (ha pos pins s σ H _ I h) λus s1 ⟨vs,H1,I1,r,q⟩=>⟨I1.vS,?_⟩) he hpl;exact Bu F hr hb hd hx I1 r q
theorem FE(F:ka X.prog X.w X.K X.mg X.base CX k f fd ps sp)(hr:cG k X.A)(hg:Gl X x)(hm:X.mg x=some (.ref f))(hk:PySem.W.keepIn X.K (.ref f)=true)(hb:Binds X.K fd ps ds)(hd:Vals dvs ds)(hx:Passes CX X E)
 (hdb:(x==("__debug__" : Str))=false:=by decide):PE X (.Call (.Name x p) [] [] pos) (FD sp dvs E LX):=by
 intro pins s σ H Q I h;refine TL (x6 I hg hm ?_ hdb);exact PySem.W.callWith_K0 I.vS hk (Bu F hr hb hd hx I .nil h)
end
structure aQ(N P:WE)(sc:Scope):Prop where
 kind:sc.kind=.function
 co:sc.isCoroutine=false
 gen:sc.isGenerator=false
 nd:N.Nodup
 pre:N.take P.length=P
 par:∀x∈P,sc.names.lookup x=some .local\/sc.names.lookup x=some .cell
 nofree:∀y∈sc.names,y.2≠.free
theorem wN{kindOf:Str->Option NameKind}:∀{binds:List (Str×Value)} {m:Wz},(∀v,(x,v)∉binds)->bindL kindOf binds m x=m x
 | [],_,_=>rfl
 | (n,v)::r,m,h=>by
  unfold bindL;rw[wN λw hw=>h w (SE _ hw)];split
  ·grind
  ·rfl
theorem wO{kindOf:Str->Option NameKind}:∀{binds:List (Str×Value)} {m:Wz},(∀v,(x,v)∉binds)->bindC kindOf binds m x=m x
 | [],_,_=>rfl
 | (n,v)::r,m,h=>by
  unfold bindC;rw[wO λw hw=>h w (SE _ hw)];split
  ·rfl
  grind
theorem wQ{kindOf:Str->Option NameKind}:∀{P:WE} {vs:WC} {i:Nat} {m:Wz},P.Nodup->P[i]?=some x->vs[i]?=some v->kindOf x=some .local ->
  bindL kindOf (P.zip vs) m x=some v
 | [],_,_,_,_,h,_,_=>by simp at h
 |_::_,[],_,_,_,_,h,_=>by simp at h
 |p::P,w::vs,0,m,nd,h1,h2,hk=>by simp at h1 h2;subst h1;subst h2;show bindL kindOf ((p,w)::P.zip vs) m p=_;unfold bindL;rw[wN λv hv=>(TC.mp nd).1 (V3 hv).1,if_pos hk];simp
 |p::P,w::vs,i+1,m,nd,h1,h2,hk=>by show bindL kindOf ((p,w)::P.zip vs) m x=_;unfold bindL;exact wQ (i:=i) (TC.mp nd).2 (by simpa using h1) (by simpa using h2) hk
theorem wR{kindOf:Str->Option NameKind}:∀{P:WE} {vs:WC} {i:Nat} {m:Wz},P.Nodup->P[i]?=some x->vs[i]?=some v->kindOf x≠some .local ->
  bindC kindOf (P.zip vs) m x=some v
 | [],_,_,_,_,h,_,_=>by simp at h
 |_::_,[],_,_,_,_,h,_=>by simp at h
 |p::P,w::vs,0,m,nd,h1,h2,hk=>by simp at h1 h2;subst h1;subst h2;show bindC kindOf ((p,w)::P.zip vs) m p=_;unfold bindC;rw[wO λv hv=>(TC.mp nd).1 (V3 hv).1,if_neg hk];simp
 |p::P,w::vs,i+1,m,nd,h1,h2,hk=>by show bindC kindOf ((p,w)::P.zip vs) m x=_;unfold bindC;exact wR (i:=i) (TC.mp nd).2 (by simpa using h1) (by simpa using h2) hk
noncomputable def start(N:WE)(vs:List V):St:=vs.map some++List.replicate (N.length-vs.length) none
noncomputable def vW(CX:LY)(P:WL)(w:World)(K:WD)(mg:Wz)(base:Heap)(N:WE)(qual:Str)(scope:Scope)(f:Addr)(cd:Value)(A:WN)(outer:List Env)(s:WO)(H:Hp)(E:XK):Cx where
 prog:=P
 w:=w
 K:=K
 mg:=mg
 base:=base
 A:=A.deeper (envOfC qual scope s.heap.objs.size f cd)
 N:=N
 s₀:=s
 H₀:=H
 env:=envOfC qual scope s.heap.objs.size f cd
 outer:=outer
 stack:=envOfC qual scope s.heap.objs.size f cd::outer
 ex:=[]
 calm:=true
 fn:=λ_=>true
 pn:=[]
 xe:=λe s'=>wpAny (model P w) (A.deeper (envOfC qual scope s.heap.objs.size f cd)) (leaving (envOfC qual scope s.heap.objs.size f cd) e) (λ_ s''=>CX outer H s E e s'') (λe' s''=>CX outer H s E e' s'') s'
theorem zB{sc:Scope}(h:sc.names.lookup x=some .cell):∃c,(cellsFrom n sc.names []).lookup x=some c:=by have q:=VM sc.names n [] (.inl h);exact Option.isSome_iff_exists.mp q
theorem Em{K:WD}
 (S:aQ N ps scope)(hd:A.handled=none)(e0:IB P w K mg base A outer s H)(hl:vs.length=ps.length)(r:Vals vs us)
 (x:InCallC s s.heap.objs.size (bindL (envOfC qual scope s.heap.objs.size f cd).kindOf (ps.zip us) λ_=>none) (cellsFrom (s.heap.objs.size+1) scope.names []) (bindC (envOfC qual scope s.heap.objs.size f cd).kindOf (ps.zip us) λ_=>none) s1) :
  Inv (vW CX P w K mg base N qual scope f cd A outer s H E) [] (start N vs) H s1:=by
 have hpl:ps.length<=N.length:=by have:=VG List.length S.pre;grind
 obtain⟨h1,tk,rfl,hk⟩:=x.done;have noA:∀b:Addr,b∉(vW CX P w K mg base N qual scope f cd A outer s H E).ex:=λb z=>absurd (show b∈([]:WB)from z) (by simp)
 refine⟨⟨e0.mod,S.kind,rfl,rfl,Ss _,λy z c h1 h2=>?_,λy hy=>?_,λy c _ h=>?_,λ_=>hd,Around.frames_deeper e0.frames,.inr ⟨rfl,rfl⟩,λb z=>absurd z (noA b),e0.bs,e0.bsz,λb _ _=>noA b,λb z=>absurd z (noA b),e0.qB,e0.frf⟩,
  rfl,e0.bare,Un.kept hk,⟨_,x.toInCall.ns,λi y v h1 h2 h3=>?_⟩,λy c h=>⟨_,x.cell y c h⟩,e0.hok.fresh (Ss _),λy c h=>?_,λp hp=>absurd (show p∈([]:Ww)from hp) (by simp),e0.hok.kept hk,?_⟩
 ·exact name_of_addr x.apart (T8 h1) (T8 h2)
 ·have hy:scope.names.lookup y=some .cell\/scope.names.lookup y=some .free:=hy;rcases hy with hy|hy
  ·exact zB hy
  ·exact absurd rfl (S.nofree _ (T8 hy))
 ·exact Vw (x.above y c (T8 h))
 ·have hi:i<vs.length:=by
   unfold start at h2;by_cases hi:i<vs.length
   ·exact hi
   ·rw[Th (by simpa using hi)]at h2;rw[U5]at h2;split at h2<;>cases h2
  have ha:vs[i]?=some v:=by
   unfold start at h2;rw[Ta (by simpa using hi),Ua]at h2
   cases e:vs[i]? with
   |none=>rw[e]at h2;cases h2
   |some a=>rw[e]at h2;cases h2;rfl
  obtain⟨u,hu,rv⟩:=r.get ha;have hp:ps[i]?=some y:=by rw[<- S.pre,Vx (by omega)];exact h1
  have ndP:ps.Nodup:=by rw[<- S.pre];exact S.nd.sublist (List.take_sublist _ _)
  refine⟨u,rv,?_⟩;rcases S.par y (SX hp)with k|k
  ·exact .inl ⟨k,wQ ndP hp hu k⟩
  ·obtain⟨c,e⟩:=zB (n:=s.heap.objs.size+1) k;refine .inr ⟨.inl k,c,e,?_⟩;have q:=x.cell y c e;rw[wR ndP hp hu (by show scope.names.lookup y≠_;rw[k];decide)]at q;exact q
 ·exact e0.hok.fresh (Vw (x.above y c (T8 h)))
 ·unfold start;show _=N.length;rw[SN,SG,TX];omega
theorem Of{K:WD}{dV kV doc pm cdv ct oc:Value}
 (lk:K.lookup f=some ⟨oc,od,.func (PySem.W.fnOf name qual params body scope dV kV doc pm an cdv ct),osl⟩)(hcd:PySem.W.codeIn K cdv qual=true)(S:aQ N ps scope)
 (len:∀vs H Q E,sp vs H Q E->vs.length=ps.length)
 (hbody:∀(A:WN) (outer:List Env) (s:WO) (H:Hp) (vs:List V) (Q:VK) (E:XK),cG k (A.deeper (envOfC qual scope s.heap.objs.size f cdv))->sp vs H Q E ->
   ∃t,Bi (vW CX P w K mg base N qual scope f cdv A outer s H E) body t/\t {nx:=λ_ H'=>Q .non H',rt:=Q} (start N vs) H) :
  ka P w K mg base CX (k+1) f (PySem.W.fnOf name qual params body scope dV kV doc pm an cdv ct) ps sp:=by
 refine⟨len,λA outer s H args us vs Q E hr e0 hb r hsp=>?_⟩;have hl:=len _ _ _ _ hsp;have KX:K.In s.heap:=e0.mod.kin.keeps λb o e=>(e0.bs b o e).1;have lim:s.heap.NoLimit:=e0.mod.nolimit.keeps λb o e=>(e0.bs b o e).1
 have hkind:∀y∈ps.zip us,scope.names.lookup y.1=some .local\/(scope.names.lookup y.1=some .cell/\((cellsFrom (s.heap.objs.size+1) scope.names []).lookup y.1).isSome=true):=λ⟨n,v⟩ hy=>by
  rcases S.par n (V3 hy).1 with q|q
  ·grind
  ·exact .inr ⟨q,VM _ _ _ (.inl q)⟩
 refine codeAny_call_function hr.depth (KX _ _ lk) rfl S.co S.gen rfl (PySem.W.codeRec_of KX hcd) (hb _ _ _ _ ?_);refine wpAny_newFunctionEnv_cells S.kind hkind λenv he s1 x=>?_;subst he;refine⟨lim.keeps x.toInCall.keep,codeAny_func ?_⟩;obtain⟨t,ht,hq⟩:=hbody A outer s H vs Q E (hr.deeper _) hsp;have I:Inv (vW CX P w K mg base N qual scope f cdv A outer s H E) [] (start N vs) H s1:=Em S hr.hd e0 hl r x;refine TZ (ht [] s1 (start N vs) H _ I hq) (λfl s' hs=>?_) λe s' hs=>hs
 have fin:∀{σ':St} {H':Hp} {v:V} {u:Value},Inv (vW CX P w K mg base N qual scope f cdv A outer s H E) [] σ' H' s'->RelV v u->Q v H'->CE outer P w H s Q u s':=
  λ{σ' H' v u} J rv q=>⟨v,H',J.os,J.bare,J.base,J.hok,rv,q⟩
 cases fl with
 |ret u=>obtain⟨v,σ',H',J,rv,q⟩:=hs;exact fin J rv q
 |next=>obtain⟨σ',H',J,q⟩:=hs;exact fin (v:=V.non) (u:=Value.none) J rfl q
 |brk=>obtain⟨_,_,_,q⟩:=hs;exact False.elim q
 |cont=>obtain⟨_,_,_,q⟩:=hs;exact False.elim q
section
variable {X:Cx} {x:Str} {p pos:Pos} {e:Expr} {es:WG} {t:TA} {id T:String} {r:List V->Hp->VK->Prop}
noncomputable def Qs(r:List V->Hp->VK->Prop)(t:TA):TE:=λσ H Q=>t σ H λvs H1=>r vs H1 Q
theorem zC(hc:eE X (.builtin id) r)(hg:Gl X x)(hm:X.mg x=none)(hv:bootBuiltins x=some (.builtin id))(ha:PA X (e::es) t)(hn:x ≠ "__name__" := by decide)(hdb:(x==("__debug__" : Str))=false:=by decide)
 (he:starEach (e::es) X.env=(false,eval e X.env)::starEach es X.env:=by rfl)(hpl:(backTo pos (starEach es X.env)).any (·.1)=false:=by rfl):PE X (.Call (.Name x p) (e::es) [] pos) (Qs r t):=by
 intro pins s σ H Q I h;refine TL (kE I hg hm hv ?_ hn hdb);exact U3 (bH (ha pos pins s σ H _ I h) λus s1 ⟨vs,H1,I1,r1,q1⟩=>hc pins s1 σ H1 vs us Q I1 r1 q1) he hpl
theorem En(hc:eE X (.type T) r)(hg:Gl X x)(hm:X.mg x=none)(hv:bootBuiltins x=some (.type T))(ha:PA X (e::es) t)(hn:x ≠ "__name__" := by decide)(hdb:(x==("__debug__" : Str))=false:=by decide)
 (he:starEach (e::es) X.env=(false,eval e X.env)::starEach es X.env:=by rfl)(hpl:(backTo pos (starEach es X.env)).any (·.1)=false:=by rfl):PE X (.Call (.Name x p) (e::es) [] pos) (Qs r t):=by
 intro pins s σ H Q I h;refine TL (kE I hg hm hv ?_ hn hdb);exact Ub (bH (ha pos pins s σ H _ I h) λus s1 ⟨vs,H1,I1,r1,q1⟩=>hc pins s1 σ H1 vs us Q I1 r1 q1) he hpl
end
end L2
namespace HT
open PySem PyProof.Rows
section
variable {prog:WL} {w:World} {A:WN} {E:Wv} {s:WO}
theorem ID(ht:IsTup s.heap t vs.toArray)(hb:IsTup s.heap b ws.toArray)(hv:vs≠[])
 (h1:ws=[]->Q (.ref t) s)(h2:ws≠[]->Q (.ref s.heap.objs.size) {s with heap:=s.heap.push {cls:=.type "tuple",data:=.seq (vs++ws).toArray}})
 (hsz:vs.length+ws.length<=sizeLine):wpAny (model prog w) A (binaryOp .Add (.ref t) (.ref b)) Q E s:=by
 obtain⟨⟨cls,dd,data,sl⟩,ho,hc,n,hd⟩:=id ht;obtain⟨⟨cls2,dd2,data2,sl2⟩,ho2,hc2,n2,hd2⟩:=id hb;subst hc hd hc2 hd2;have e:vs.toArray++ws.toArray=(vs++ws).toArray:=by simp
 by_cases hw:ws=[]
 ·exact concat_meets ⟨_,ho,rfl⟩ ⟨_,ho2,rfl⟩ noFill_tuple_add seq_tuple_add VN VH (Vy _ _)
   (tuple_addW1 t b vs.toArray ws.toArray n n2 dd dd2 sl sl2 (by grind) (by grind)) ⟨ho,ho2,h1 hw⟩
 ·refine concat_meets ⟨_,ho,rfl⟩ ⟨_,ho2,rfl⟩ noFill_tuple_add seq_tuple_add VN VH (Vy _ _)
   (tuple_addW2 t b vs.toArray ws.toArray n n2 dd dd2 sl sl2 (by grind) (by simp_all) (by omega)) ⟨ho,ho2,?_⟩
  simp_all
noncomputable def fZ(n d:Nat):Option Int->Nat
 |none=>d
 |some v=>if v<0 then(v+(n:Int)).toNat else min v.toNat n
theorem LZ(n d:Nat)(hd:d<=n)(o:Option Int):fZ n d o<=n:=by
 cases o with
 |none=>exact hd
 |some v=>
  show(if v<0 then(v+(n:Int)).toNat else min v.toNat n)<=n
  grind
theorem CH(v:Int)(n d:Nat):(if v<0 then max (v+(n:Int)) 0 else min v (n:Int))=((fZ n d (some v):Nat):Int):=by
 show _=(((if v<0 then(v+(n:Int)).toNat else min v.toNat n):Nat):Int)
 grind
theorem Bv(lo hi:Option Int)(n:Nat):Builtin.Slice.sliceAdjust lo hi 1 (n:Int)=(((fZ n 0 lo:Nat):Int),((fZ n n hi:Nat):Int)):=by
 refine Prod.ext ?_ ?_
 ·cases lo with
  |none=>rfl
  |some v=>exact CH v n 0
 ·cases hi with
  |none=>rfl
  |some v=>exact CH v n n
theorem Bw(i j:Nat):Builtin.Slice.slicePlaces (i:Int) (j:Int) 1=j-i:=by
 grind[Builtin.Slice.slicePlaces]
theorem tW(p:IsPart v o)(h:Q o s):wpAny (model prog w) A (Builtin.Slice.slicePartIndex v) Q E s:=by
 cases p with
 |none=>exact slicePart_none h
 |int i t=>exact slicePart_int h
theorem kb{lo hi:Option Int}{Q:Int×Int×Nat->WO->Prop}(hs:s.heap.IsSliceOf sl vl vu .none)(pl:IsPart vl lo)(pu:IsPart vu hi)
 (h:Q (((fZ n 0 lo:Nat):Int),1,fZ n n hi-fZ n 0 lo) s):wpAny (model prog w) A (Builtin.Slice.sliceApplied (.ref sl) (pure (n:Int))) Q E s:=by
 obtain⟨os,hos,hcs,hds⟩:=id hs;refine Sm (Sm (Ud hos hds rfl (Sm (Ud hos hds rfl (Sm (Ud hos hds rfl (Sn ?_)))))));refine Sm (slicePart_none ?_);refine Sm (tW pl (Sm (tW pu (Sm (Sn ?_)))));show wpAny _ _ (match Builtin.Slice.sliceAdjust lo hi 1 (n:Int)with | (lo,hi)=>pure (lo,(1:Int),Builtin.Slice.slicePlaces lo hi 1)) _ _ s;rw[Bv lo hi n];show wpAny _ _ (pure (((fZ n 0 lo:Nat):Int),(1:Int),Builtin.Slice.slicePlaces ((fZ n 0 lo:Nat):Int) ((fZ n n hi:Nat):Int) 1)) _ _ s;rw[Bw];exact Sn h
theorem FF(xs:WJ)(i k:Nat):((List.range k).filterMap λ(m:Nat)=>xs[((i:Int)+(m:Int)*1).toNat]?).toArray=((xs.toList.drop i).take k).toArray:=by
 have e:(λ(m:Nat)=>xs[((i:Int)+(m:Int)*1).toNat]?)=λm=>xs[i+m]?:=by
  grind
 have:=pick_run xs i k;have e2:((λx=>xs[x]?)∘λx=>i+x)=λm=>xs[i+m]?:=rfl
 grind
theorem o5{lo hi:Option Int}(ht:IsTup s.heap t items)(hs:s.heap.IsSliceOf sl vl vu .none)(pl:IsPart vl lo)(pu:IsPart vu hi)
 (hw:¬ (fZ items.size 0 lo=0/\fZ items.size items.size hi=items.size))
 (h:Q (.ref s.heap.objs.size) {s with heap:=s.heap.push {cls:=.type "tuple",data:=.seq ((items.toList.drop (fZ items.size 0 lo)).take (fZ items.size items.size hi-fZ items.size 0 lo)).toArray}})
 (hsz:items.size<=sizeLine):wpAny (model prog w) A (getItem (.ref t) (.ref sl)) Q E s:=by
 have htake:sizeOk (.seq ((items.toList.drop (fZ items.size 0 lo)).take (fZ items.size items.size hi-fZ items.size 0 lo)).toArray):=by show((items.toList.drop (fZ items.size 0 lo)).take (fZ items.size items.size hi-fZ items.size 0 lo)).toArray.size<=sizeLine;rw[S5,Wo,Wq,TQ];omega
 have hj:fZ items.size items.size hi<=items.size:=LZ _ _ (Ss _) hi;obtain⟨os,hos,hcs,hds⟩:=id hs;have hTs:s.TypeIs (.ref sl) "slice" := ⟨os,hos,hcs⟩;unfold getItem
 try with_reducible refine Tf ?_
 first|refine Sm (Sn ?_)|skip
 refine Sm (wpAny_sequenceKey ht.typeIs (by decide) ?_)
 refine Sm (Ti (name:=Str.ofString "__getitem__") ht.typeIs TF
  (Te TF ht.typeIs entry_tuple_getitem ?_ (args_tuple_getitem _ _)))
 show wpAny _ _ (Builtin.Tuple.tupleItemsOf (.ref t) >>= _) _ _ s;refine Sm (tupleItemsOf_ ht ?_);refine Sm (Vz hTs ?_);rw[if_pos (by decide)];refine Sm (kb hs pl pu ?_);have hno:¬ ((((fZ items.size 0 lo:Nat):Int)==0&&(1:Int)==1&&(fZ items.size items.size hi-fZ items.size 0 lo)==items.size)=true):=by intro q;rw[Su,Su]at q;have q1:((fZ items.size 0 lo:Nat):Int)=0:=eq_of_beq q.1.1;have q2:fZ items.size items.size hi-fZ items.size 0 lo=items.size:=eq_of_beq q.2;exact hw ⟨by omega,by omega⟩
 show wpAny _ _ (if(((fZ items.size 0 lo:Nat):Int)==0&&(1:Int)==1&&(fZ items.size items.size hi-fZ items.size 0 lo)==items.size)=true then _ else _) _ _ s;rw[if_neg hno,FF]
 first
  |exact Sm (m:=Builtin.Tuple.tupleExact _) (To (Sn ⟨_,rfl,Sn h⟩) htake)
  |exact Sm (m:=Builtin.Tuple.tupleExact _) (To (Sm (Sn (Sn ⟨_,rfl,Sn h⟩))) htake)
  |exact Sm (Sm (m:=Builtin.Tuple.tupleExact _) (To (Sn (Sn ⟨_,rfl,Sn h⟩)) htake))
  |exact Sm (Sm (m:=Builtin.Tuple.tupleExact _) (To (Sn ⟨_,rfl,Sn h⟩) htake))
end
end HT
namespace L2
open PySem PySem.Spec PyProof.Rows
noncomputable abbrev TO:=St->Hp->(Option Int->Hp->Prop)->Prop
noncomputable def PO(X:Cx)(e:Option Expr)(t:TO):Prop:=
 ∀(pins:Ww) (s:WO) (σ:St) (H:Hp) (Q:Option Int->Hp->Prop),Inv X pins σ H s->t σ H Q ->
  wpAny (model X.prog X.w) X.A (evalPart e X.env) (λu s'=>∃o H',Inv X pins σ H' s'/\IsPart u o/\Q o H') X.xe s
noncomputable def IE:TO:=λ_ H Q=>Q none H
noncomputable def Og(t:TE):TO:=λσ H Q=>t σ H λx H1=>∃i,x=.int i/\Q (some i) H1
section
variable {X:Cx} {e:Expr} {te:TE} {lo hi:Option Expr} {tl th:TO} {pos p2:Pos}
theorem IF:PO X none IE:=by intro pins s σ H Q I h;exact Sn ⟨none,H,I,.none,h⟩
theorem IG(h:PE X e te):PO X (some e) (Og te):=by intro pins s σ H Q I hw;refine bH (h pins s σ H _ I hw) λu s1 ⟨x,H1,I1,r1,q1⟩=>?_;obtain⟨i,rfl,q⟩:=q1;obtain⟨t,rfl⟩:=r1;exact⟨some i,H1,I1,.int i t,q⟩
noncomputable def NK(X:Cx)(r:V->Option Int->Option Int->Hp->VK->Prop):Prop:=
 ∀(pins:Ww) (s:WO) (σ:St) (H:Hp) (x:V) (v vl vu:Value) (lo hi:Option Int) (sl:Addr) (Q:VK),Inv X pins σ H s->RelV x v->s.heap.IsSliceOf sl vl vu .none->IsPart vl lo->IsPart vu hi->r x lo hi H Q ->
  ∃T id,typeLookup (.type T) "__getitem__" = pure (some (.builtin id))/\s.TypeIs v T/\wpAny (model X.prog X.w) X.A (getItem v (.ref sl)) (EP X pins σ Q) X.xe s
noncomputable def R4(r:V->Option Int->Option Int->Hp->VK->Prop)(te:TE)(tl th:TO):TE:=λσ H Q=>te σ H λx H1=>tl σ H1 λl H2=>th σ H2 λu H3=>r x l u H3 Q
theorem zD(hr:NK X r)(he:PE X e te)(hl:PO X lo tl)(hu:PO X hi th):PE X (.Subscript e (.Slice lo hi none p2) pos) (R4 r te tl th):=by intro pins s σ H Q I h;refine Subscript_ (bH (he pins s σ H _ I h) λv s1 ⟨x,H1,I1,r1,q1⟩=>?_);refine wpAny_Slice (bH (hl pins s1 σ H1 _ I1 q1) λvl s2 ⟨l,H2,I2,pl,q2⟩=>bH (hu pins s2 σ H2 _ I2 q2) λvu s3 ⟨u,H3,I3,pu,q3⟩=>?_);refine Sn ?_;have I4:Inv X pins σ H3 {s3 with heap:=s3.heap.push {cls:=.type "slice",data:=.fields #[vl,vu,.none]}}:=I3.kept λb ob q=>So _ q;obtain⟨T,id,hT,ht,hg⟩:=hr pins {s3 with heap:=s3.heap.push {cls:=.type "slice",data:=.fields #[vl,vu,.none]}} σ H3 x v vl vu l u s3.heap.objs.size Q I4 r1 (Heap.IsSliceOf.new ..) pl pu q3;exact tail_any ht hT hg (by rfl)
noncomputable def zE(xs:List V)(lo hi:Option Int):List V:=(xs.drop (HT.fZ xs.length 0 lo)).take (HT.fZ xs.length xs.length hi-HT.fZ xs.length 0 lo)
theorem rO(xs:List V)(lo hi:Option Int):(zE xs lo hi).length<=xs.length:=by
 grind[zE,List.length_take,List.length_drop]
noncomputable def Qt(K:WD):V->Option Int->Option Int->Hp->VK->Prop:=λx lo hi H Q=>∃a xs,x=.ref a/\ip K H a xs /\
 ¬ (HT.fZ xs.length 0 lo=0/\HT.fZ xs.length xs.length hi=xs.length)/\∀p,H p=none->Q (.ref p) (upd H p (.tup (zE xs lo hi)))
theorem L0:NK X (Qt X.K):=by intro pins s σ H x v vl vu lo hi sl Q I rx hs pl pu h;obtain⟨a,xs,rfl,hx,hw,q⟩:=h;cases rx;obtain⟨its,r,ht,hz⟩:=I.tuple hx;have hlen:its.toArray.size=xs.length:=r.length.symm;refine⟨"tuple",_,TF.lookup,ht.typeIs,?_⟩;refine HT.o5 ht hs pl pu (by grind) ?_ (by simp_all);rw[hlen];refine⟨.ref s.heap.objs.size,_,I.laid (λb ob q=>So _ q) (Ss _) ?_,rfl,q _ (I.hok.fresh (Ss _))⟩;exact⟨Sw (rO xs lo hi) hz,_,(r.drop _).take _,IsTup.new _ _⟩
noncomputable def Oh(K:WD):R2:=λx y H Q=>∃a b xs ys,x=.ref a/\y=.ref b/\ip K H a xs/\ip K H b ys/\xs≠[]/\xs.length+ys.length<=sizeLine /\
 (ys=[]->Q (.ref a) H)/\(ys≠[]->∀p,H p=none->Q (.ref p) (upd H p (.tup (xs++ys))))
theorem Vals.ya(r:Vals xs us):us=[]<->xs=[]:=by
 cases r with
 |nil=>simp
 |cons _ _=>simp
theorem IH:jr X (binaryOp .Add) (Oh X.K):=by intro pins s σ H x y v u Q I rx ry h;obtain⟨a,b,xs,ys,rfl,rfl,ha,hb,hx,hz,q1,q2⟩:=h;cases rx;cases ry;obtain⟨its,r1,p1,_⟩:=I.tuple ha;obtain⟨its2,r2,p2,_⟩:=I.tuple hb;refine HT.ID p1 p2 (λz=>hx (r1.ya.mp z)) (λz=>⟨.ref a,H,I,rfl,q1 (r2.ya.mp z)⟩) (λz=>?_) (by grind[r1.length,r2.length]);refine⟨.ref s.heap.objs.size,_,I.laid (λb ob q=>So _ q) (Ss _) ?_,rfl,q2 (λw=>z (r2.ya.mpr w)) _ (I.hok.fresh (Ss _))⟩;exact⟨by simp_all,_,r1.append r2,IsTup.new _ _⟩
end
noncomputable def wU(n:Nat)(i:Int):Option Nat:=if 0<=i then(if i<n then some i.toNat else none)else if -(n:Int)<=i then some (i+n).toNat else none
noncomputable def ox{α:Type}(xs:List α)(i:Int):Option α:=(wU xs.length i).bind λj=>xs[j]?
theorem CI(h:wU n i=some j):seqIndex? i n=some j/\j<n/\-(n:Int)<=i/\i<n:=by
 unfold wU at h;by_cases h0:0<=i
 ·rw[if_pos h0]at h;by_cases h1:i<n
  ·rw[if_pos h1]at h;have e:i.toNat=j:=UB h;exact⟨by rw[seqIndex_of h0 h1,e],by omega,by omega,h1⟩
  grind
 ·rw[if_neg h0]at h;by_cases h1:-(n:Int)<=i
  ·rw[if_pos h1]at h;have e:(i+n).toNat=j:=UB h;exact⟨by rw[seqIndex_neg (by omega) h1,e],by omega,h1,by omega⟩
  grind
theorem CJ(h:ox xs i=some v):∃j,seqIndex? i xs.length=some j/\xs[j]?=some v/\j<xs.length/\-(xs.length:Int)<=i/\i<xs.length:=by
 unfold ox at h
 cases e:wU xs.length i with
 |none=>simp_all
 |some j=>
  obtain⟨h1,h2,h3,h4⟩:=CI e
  simp_all
theorem tw{j:Nat}{v:α}(h:xs[j]?=some v):ox xs (j:Int)=some v:=by
 have hj  := (SJ.mp h).1
 simp_all[wU,ox]
noncomputable def CK(b:Expr):Prop:=∀o i,subscripted b false o i=operate [o,i] (getItem o i)
noncomputable def NL(X:Cx)(r:R2):Prop:=
 ∀(value slice:Expr) (pins:Ww) (s:WO) (σ:St) (H:Hp) (x y:V) (v u:Value) (Q:VK),Inv X pins σ H s->RelV x v->RelV y u->r x y H Q ->
  subscripted slice false v u=operate [v,u] (getItem v u)->wpAny (model X.prog X.w) X.A (subscriptTail value slice v u) (EP X pins σ Q) X.xe s
noncomputable def R5(X:Cx)(id:String)(r:V->List V->Hp->VK->Prop):Prop:=
 ∀(pins:Ww) (s:WO) (σ:St) (H:Hp) (x:V) (xs:List V) (v:Value) (us:WC) (Q:VK),Inv X pins σ H s->RelV x v->Vals xs us->r x xs H Q ->
  wpAny (model X.prog X.w) X.A (call (.builtin id) (v::us)) (EP X pins σ Q) X.xe s
section
variable {X:Cx} {a b:Expr} {ta tb:TE} {pos:Pos}
theorem Oi(hr:NL X r)(ha:PE X a ta)(hb:PE X b tb)(hs:CK b):PE X (.Subscript a b pos) (N5 r ta tb):=by intro pins s σ H Q I h;exact Subscript_ (LL ha hb I h λv u s2 x y H2 I2 rx ry q=>hr a b pins s2 σ H2 x y v u Q I2 rx ry q (hs _ _))
noncomputable def Qu(K:WD):R2:=λx y H Q=>∃p xs i v,x=.ref p/\y=.int i/\j9 K H p xs/\ox xs i=some v/\Q v H
noncomputable def Qv(K:WD):R2:=λx y H Q=>∃p xs i v,x=.ref p/\y=.int i/\ip K H p xs/\ox xs i=some v/\Q v H
theorem yb:NL X (Qu X.K):=by
 intro value slice pins s σ H x y v u Q I rx ry h hs;obtain⟨p,xs,i,z,rfl,rfl,hq,he,q⟩:=h;cases rx;obtain⟨t,rfl⟩:=ry;obtain⟨its,r,pl,hz⟩:=I.list hq;obtain⟨j,h1,h2,h3,h4,h5⟩:=CJ he;obtain⟨w,ew,rw'⟩:=r.get h2;have hl:=r.length;have hn:=tU;have fin:EP X pins σ Q w s:=⟨z,H,I,rw',q⟩;by_cases h0:0<=i
 ·have hj:i.toNat=j:=by
   simp_all[seqIndex_of,h0,h5]
  exact item_listR pl.isList h0 (by omega) (by grind) fin hs
 ·have hj:(i+(its.toArray.size:Int)).toNat=j:=by
   rw[seqIndex_neg (by omega) h4]at h1;rw[S5,<- hl];exact UB h1
  exact subscriptTail_builtinR (x:=w) pl.isList.typeIs slot_list_getitem.lookup
   (wpAny_getItem_list_neg (Q:=λr s'=>r=w/\EP X pins σ Q r s') pl.isList (by omega) (by rw[S5]<;>omega) (by omega) (by rw[hj];simpa using ew) ⟨rfl,fin⟩) hs
theorem L5:NL X (Qv X.K):=by
 intro value slice pins s σ H x y v u Q I rx ry h hs;obtain⟨p,xs,i,z,rfl,rfl,hq,he,q⟩:=h;cases rx;obtain⟨t,rfl⟩:=ry;obtain⟨its,r,pl,hz⟩:=I.tuple hq;obtain⟨j,h1,h2,h3,h4,h5⟩:=CJ he;obtain⟨w,ew,rw'⟩:=r.get h2;have hl:=r.length;have hn:=tU;have fin:EP X pins σ Q w s:=⟨z,H,I,rw',q⟩
 exact subscriptTail_builtinR pl.typeIs slot_tuple_getitem.lookup
  (getItem_tuple (j:=j) pl (by omega) (by omega) (by grind) (by grind) ⟨rfl,fin⟩) hs
theorem Bx(its:WC)(n j:Nat)(u:Value):Obj.mapSeq (·.setIfInBounds j u) {cls:=.type "list",data:=.seq its.toArray n}={cls:=.type "list",data:=.seq (its.set j u).toArray n}:=by simp[Obj.mapSeq]
theorem Inv.lst{σ:St}{H:Hp}{s:WO}{p:Addr}{xs:List V}(I:Inv X pins σ H s)(h:H p=some (.lst xs)) :
  ∃(its:WC) (n:Nat),Vals xs its/\s.heap.get? p=some {cls:=.type "list",data:=.seq its.toArray n}/\xs.length<=sizeLine:=by
 obtain⟨z,its,n,r,e⟩:=I.hok p _ h
 simp_all
theorem Inv.L6{σ:St}{its its':WC}(I:Inv X pins σ H s)(h:H p=some (.lst xs))
 (ho:s.heap.get? p=some {cls:=.type "list",data:=.seq its.toArray n})(hf:f {cls:=.type "list",data:=.seq its.toArray n}={cls:=.type "list",data:=.seq its'.toArray n'})(r:Vals ys its')(hz:ys.length<=sizeLine)(t:Nat) :
  Inv X pins σ (upd H p (.lst ys)) {s with heap:=s.heap.update p f,toks:=t}:=by
 have e:(s.heap.update p f).get? p=some {cls:=.type "list",data:=.seq its'.toArray n'}:=by rw[Ur f ho (by rw[hf]<;>rfl),hf]
 refine I.write (by rw[h];trivial) (.inl rfl) (λb u hb q=>(Vb _ _ (VC hb)).trans q) ⟨_,e⟩ ?_;exact⟨hz,its',n',r,e⟩
noncomputable def KH:V->V->V->Hp->(Hp->Prop)->Prop:=λo i v H Q=>∃p xs k j,o=.ref p/\i=.int k/\H p=some (.lst xs)/\wU xs.length k=some j/\Q (upd H p (.lst (xs.set j v)))
theorem set_list:LF X KH:=by
 intro pins s σ H o i v ov iv u Q I ro ri rv h;obtain⟨p,xs,k,j,rfl,rfl,hp,hj,q⟩:=h;cases ro;obtain⟨t,rfl⟩:=ri;obtain⟨its,n,r,ho,hz⟩:=I.lst hp;obtain⟨h1,h2,h3,h4⟩:=CI hj;have hl:=r.length;have hn:=tU
 have I':Inv X pins σ (upd H p (.lst (xs.set j v))) {s with heap:=s.heap.update p (Obj.mapSeq (·.setIfInBounds j u))}:=
  I.L6 hp ho (Bx its n j u) (r.set rv j) (by grind) s.toks
 by_cases h0:0<=k
 ·have hk:k.toNat=j:=by
   simp_all[seqIndex_of,h0,h4]
  exact PySem.W.ki_setAt ho h0 (by omega) (by grind) (by rw[hk];exact⟨_,I',q⟩)
 ·have hk:(k+(its.toArray.size:Int)).toNat=j:=by
   rw[seqIndex_neg (by omega) h3]at h1;rw[S5,<- hl];exact UB h1
  exact PySem.W.ki_setBack ho (by omega) (by rw[S5,<- hl];exact h3) (by omega) (by rw[hk];exact⟨_,I',q⟩)
theorem yc(lo hi:Option Int)(n:Nat):(sliceBounds lo hi none n).1=((HT.fZ n 0 lo:Nat):Int)/\(sliceBounds lo hi none n).2.1=((HT.fZ n n hi:Nat):Int)/\(sliceBounds lo hi none n).2.2=1:=by
 refine⟨?_,?_,rfl⟩
 ·cases lo with
  |none=>rfl
  |some i=>
   simp only[sliceBounds,HT.fZ,Option.getD_none,show(1:Int)>0 by decide,Tg];by_cases h:i<0
   ·simp only[h,Tg]<;>omega
   grind
 ·cases hi with
  |none=>simp[sliceBounds,HT.fZ]
  |some i=>
   simp only[sliceBounds,HT.fZ,Option.getD_none,show(1:Int)>0 by decide,Tg];by_cases h:i<0
   ·simp only[h,Tg]<;>omega
   ·simp only[h,Tz]<;>omega
theorem vX(its:WC)(lo hi:Option Int):slicePick its.toArray lo hi none=((its.drop (HT.fZ its.length 0 lo)).take (HT.fZ its.length its.length hi-HT.fZ its.length 0 lo)).toArray:=by obtain⟨h1,h2,h3⟩:=yc lo hi its.toArray.size;unfold slicePick;rw[h1,h2,h3];simp only[sliceRange_one,pick_run]<;>rfl
noncomputable def Qw(K:WD):V->Option Int->Option Int->Hp->VK->Prop:=λx lo hi H Q=>∃a xs,x=.ref a/\j9 K H a xs/\∀p,H p=none->Q (.ref p) (upd H p (.lst (zE xs lo hi)))
theorem CL:NK X (Qw X.K):=by intro pins s σ H x v vl vu lo hi sl Q I rx hs pl pu h;obtain⟨a,xs,rfl,hx,q⟩:=h;cases rx;obtain⟨its,r,ht,hz⟩:=I.list hx;have hlen:=r.length;refine⟨"list",_,slot_list_getitem.lookup,ht.isList.typeIs,?_⟩;refine wpAny_getItem_list_slice ht.isList hs pl pu .none (by simp) ?_ (by grind);rw[vX,<- hlen];refine⟨.ref s.heap.objs.size,_,I.laid (λb ob q=>So _ q) (Ss _) ?_,rfl,q _ (I.hok.fresh (Ss _))⟩;exact⟨Sw (rO xs lo hi) hz,_,0,(r.drop _).take _,Sy _ rfl⟩
theorem eE.or(h:eE X f r)(h':eE X f r'):eE X f (λxs H Q=>r xs H Q\/r' xs H Q):=by
 intro pins s σ H xs us Q I rs q;rcases q with q|q
 ·exact h pins s σ H xs us Q I rs q
 ·exact h' pins s σ H xs us Q I rs q
theorem yd:eE X (.type "list") (λxs H Q=>∃p ys,xs=[.ref p]/\(j9 X.K H p ys\/ip X.K H p ys)/\∀l,H l=none->Q (.ref l) (upd H l (.lst ys))):=by
 intro pins s σ H xs us Q I r h;obtain⟨p,ys,rfl,hq,q⟩:=h;obtain⟨u,rfl,rx⟩:=vals1 r;cases rx
 have fin:∀(its:WC),Vals ys its->ys.length<=sizeLine->∀(h':Heap) (c':Nat),(∀b o',s.heap.get? b=some o'->h'.get? b=some o') ->
   h'.get? s.heap.objs.size=some {cls:=.type "list",dict:=none,data:=.seq its.toArray c',slots:=#[]}->EP X pins σ Q (.ref s.heap.objs.size) {s with heap:=h'}:=λits r' hz h' c' kp e=>
  ⟨.ref s.heap.objs.size,_,I.laid (t':=s.toks) kp (Ss _) (show cW X.prog X.w _ h' _ (.lst ys)from⟨hz,its,c',r',e⟩),rfl,q _ (I.hok.fresh (Ss _))⟩
 rcases hq with hq|hq
 ·obtain⟨its,r',pl,hz⟩:=I.list hq;have hlen:=r'.length;obtain⟨o,ho,hc,n,hd⟩:=pl.isList;exact call_list_seq p (.inl rfl) ho hc hd (λh' c' kp e=>fin its r' hz h' c' kp e) (by grind)
 ·obtain⟨its,r',pl,hz⟩:=I.tuple hq;have hlen:=r'.length;obtain⟨o,ho,hc,n,hd⟩:=pl;exact call_list_seq p (.inr rfl) ho hc hd (λh' c' kp e=>fin its r' hz h' c' kp e) (by grind)
theorem vY:eE X (.type "tuple") (λxs H Q=>∃p ys,xs=[.ref p]/\((j9 X.K H p ys/\∀l,H l=none->Q (.ref l) (upd H l (.tup ys)))\/(ip X.K H p ys/\Q (.ref p) H))):=by
 intro pins s σ H xs us Q I r h;obtain⟨p,ys,rfl,h⟩:=h;obtain⟨u,rfl,rx⟩:=vals1 r;cases rx;rcases h with⟨hq,q⟩|⟨hq,q⟩
 ·obtain⟨its,r',pl,hz⟩:=I.list hq;have hlen:=r'.length;refine call_tuple_list pl.isList (λh' kp=>?_) (by grind);have I1:Inv X pins σ H {s with heap:=h'}:=I.kept kp
  have I2:Inv X pins σ (upd H h'.objs.size (.tup ys)) {s with heap:=h'.push {cls:=.type "tuple",data:=.seq its.toArray}}:=
   I1.laid (λb o e=>So _ e) (Ss _) (⟨hz,its,r',IsTup.new _ _⟩)
  exact⟨.ref h'.objs.size,_,I2,rfl,q _ (I1.hok.fresh (Ss _))⟩
 ·obtain⟨its,r',pl,hz⟩:=I.tuple hq;exact call_tuple_same pl ⟨.ref p,H,I,rfl,q⟩
noncomputable def Ry(K:WD)(T:String)(x:V)(H:Hp):Prop:=match x with
 |.str _=>T = "str"
 |.int _=>T = "int"
 |.ref p=>(T = "list" /\ ∃xs,j9 K H p xs)\/(T = "tuple" /\ ∃o,K.lookup p=some o/\o.cls=.type "tuple" /\ o.dict=none) \/
   (T = "dict" /\ ((∃kvs,H p=some (.dK kvs))\/∃kvs,H p=some (.dT kvs)))\/(T = "set" /\ ∃S n,H p=some (.set S n))
 |_=>False
theorem L7{σ:St}(I:Inv X pins σ H s)(r:RelV x v)(ty:Ry X.K T x H) :
  s.TypeIs v T/\∀a,v=.ref a->∃ob,s.heap.get? a=some ob/\ob.dict=none:=by
 cases x with
 |str z=>obtain⟨t,rfl⟩:=r;cases(show T = "str" from ty);exact⟨typeIs_str s z t,λ_ e=>nomatch e⟩
 |int i=>obtain⟨t,rfl⟩:=r;cases(show T = "int" from ty);exact⟨typeIs_int s i t,λ_ e=>nomatch e⟩
 |ref p=>
  cases r;rcases ty with⟨rfl,xs,hq⟩|⟨rfl,o,hk,hc,hd⟩|⟨rfl,hk⟩|⟨rfl,S,n,hk⟩
  ·obtain⟨its,_,pl,_⟩:=I.list hq;refine⟨pl.isList.typeIs,λa e=>?_⟩;cases e;obtain⟨o,n,e,c,hd,_⟩:=pl
   grind
  ·refine⟨⟨o,I.vS p o hk,hc⟩,λa e=>?_⟩;cases e;exact⟨o,I.vS _ o hk,hd⟩
  ·have z:∃o,s.heap.get? p=some o/\o.ExactDict:=by
    rcases hk with⟨kvs,hk⟩|⟨kvs,hk⟩
    ·obtain⟨_,_,_,_,o,_,_,e,ex,_⟩:=I.hok p _ hk;exact⟨o,e,ex⟩
    ·obtain⟨_,_,_,_,o,_,_,e,ex,_⟩:=I.hok p _ hk;exact⟨o,e,ex⟩
   obtain⟨o,e,ex⟩:=z;refine⟨⟨o,e,ex.1⟩,λa e2=>?_⟩;cases e2;exact⟨o,e,ex.2.1⟩
  ·obtain⟨o,_,_,_,e,ex,_⟩:=I.hok p _ hk;refine⟨⟨o,e,ex.1⟩,λa e2=>?_⟩;cases e2;exact⟨o,e,ex.2.1⟩
 |_=>exact False.elim ty
noncomputable def Rz(K:WD)(T:String)(r:V->List V->Hp->VK->Prop)(to:TE)(t:TA):TE:=λσ H Q=>to σ H λx H1=>Ry K T x H1/\t σ H1 λxs H2=>r x xs H2 Q
variable {o e:Expr} {es:WG} {to:TE} {t:TA} {name:Str} {apos cpos:Pos} {T id:String} {r:V->List V->Hp->VK->Prop}
theorem KI(pa:PlainAttrs T)(slot:Slot T name id)(hty:typeOf (.builtin id)=pure (.type "method_descriptor"))(hm:R5 X id r)(ho:PE X o to)(ha:PA X (e::es) t)
 (hbase:attributeBase o name X.env (eval o X.env)=eval o X.env:=by rfl)
 (hfew:((backTo cpos (starEach (e::es) X.env)).all (λx=>!x.1)&&(backToKw cpos (keywordEach [] X.env)).all (λx=>x.1.isSome)
   && decide ((e::es).length+([]:List Keyword).length+(if([]:List Keyword).isEmpty then 0 else 1)<30))=true:=by rfl)
 (hline:(apos.endLine==cpos.line)=true:=by rfl)(hs:starEach (e::es) X.env=(false,eval e X.env)::starEach es X.env:=by rfl)(hplain:(backTo cpos (starEach es X.env)).any (·.1)=false:=by rfl) :
  PE X (.Call (.Attribute o name apos) (e::es) [] cpos) (Rz X.K T r to t):=by
 intro pins s σ H Q I h;refine wpAny_Call_method_late hbase hfew hline rfl (bH (ho pins s σ H _ I h) λv s1 ⟨x,H1,I1,r1,ty,q1⟩=>?_);obtain⟨h1,h2⟩:=L7 I1 r1 ty;refine⟨T,id,pa,slot,hty,h1,h2,?_⟩;have hA:=ha cpos pins s1 σ H1 _ I1 q1;rw[hs]at hA ⊢;refine Calls.callWith_builtin (by grind) (Calls.evalArgs_plain ?_);exact bH hA λus s2 ⟨vs,H2,I2,r2,q2⟩=>hm pins s2 σ H2 x vs v us Q I2 r1 r2 q2
end
noncomputable def RA(X:Cx)(id:String)(r:V->List V->Hp->VK->Prop):Prop:=
 ∀(pins:Ww) (s:WO) (σ:St) (H:Hp) (x:V) (xs:List V) (v:Value) (us:WC) (Q:VK),Inv X pins σ H s->RelV x v->Vals xs us->r x xs H Q ->
  wpAny (model X.prog X.w) X.A (call (.builtin id) (v::us)) (EP X pins σ Q) X.xe s
theorem Vals.one:∀{x:V} {us:WC},Vals [x] us->∃u,us=[u]/\RelV x u
 |_,_,.cons r .nil=>⟨_,rfl,r⟩
theorem Vals.eraseIdx:∀{xs:List V} {us:WC} (i:Nat),Vals xs us->Vals (xs.eraseIdx i) (us.eraseIdx i)
 |_,_,_,.nil=>.nil
 |_,_,0,.cons _ t=>t
 |_,_,i+1,.cons r t=>.cons r (Vals.eraseIdx i t)
theorem Vals.rep(h:Vals xs us):∀k:Nat,Vals (List.replicate k xs).flatten (List.replicate k us).flatten
 |0=>.nil
 |k+1=>Vals.append h (Vals.rep h k)
theorem foldl_rep(its:WC):∀(k:Nat) (acc:WC),
  List.foldl (λx1 x2=>x1++x2) acc.toArray (List.replicate k its.toArray)=(acc++(List.replicate k its).flatten).toArray
 |0,acc=>by simp
 |k+1,acc=>by
  have e:acc.toArray++its.toArray=(acc++its).toArray:=by simp
  have e2:(acc++its)++(List.replicate k its).flatten=acc++(List.replicate (k+1) its).flatten:=by
   grind
  rw[<- e2,<- foldl_rep its k _,<- e,List.replicate_succ,List.foldl_cons]
section
variable {X:Cx} {pins:Ww} {σ:St} {H:Hp} {s:WO} {l b:Addr} {xs ys zs:List V}
theorem Inv.Oj{its its':WC}(I:Inv X pins σ H s)(hH:H l=some (.lst xs))
 (e:s.heap.get? l=some {cls:=.type "list",data:=.seq its.toArray n})(hf:f its.toArray=its'.toArray)(hv:Vals ys its')(hz:ys.length<=sizeLine) :
  Inv X pins σ (upd H l (.lst ys)) {s with heap:=s.heap.update l (Obj.mapSeq f),toks:=t'}:=by
 have q:=PySem.IsL.update e f;rw[hf]at q;refine I.write (by rw[hH];exact trivial) (.inl rfl) (λb' u hb hu=>(Vb s.heap _ (VC hb)).trans hu) ⟨_,q⟩ ?_;exact⟨hz,its',_,hv,q⟩
theorem Inv.Ol(I:Inv X pins σ H s)(hv:Vals ys its)(hz:ys.length<=sizeLine) :
  Inv X pins σ (upd H s.heap.objs.size (.lst ys)) {s with heap:=s.heap.push {cls:=.type "list",data:=.seq its.toArray},toks:=t'}:=
 I.laid (λ_ _ q=>So _ q) (Ss _) ⟨hz,its,0,hv,Sy _ rfl⟩
theorem Inv.fresh(I:Inv X pins σ H s):H s.heap.objs.size=none:=I.hok.fresh (Ss _)
theorem Inv.FG(I:Inv X pins σ H s)(hH:H l=some (.lst xs)):xs.length<=sizeLine/\∃(its:WC) (n:Nat),Vals xs its/\xs.length=its.length/\s.heap.get? l=some {cls:=.type "list",data:=.seq its.toArray n}:=by obtain⟨z,its,n,r,e⟩:=I.hok l _ hH;exact⟨z,its,n,r,r.length,e⟩
theorem FH(h:n<=sizeLine):Builtin.List.listTooLong n=false:=by
 grind[Builtin.List.listTooLong]
end
section
variable {X:Cx}
noncomputable def II:V->List V->Hp->VK->Prop:=λx vs H Q=>∃l xs y,x=.ref l/\vs=[y]/\H l=some (.lst xs)/\xs.length<sizeLine/\Q .non (upd H l (.lst (xs++[y])))
theorem Eo:RA X "list.append" II:=by
 intro pins s σ H x vs v us Q I rx rv h;obtain⟨l,xs,y,rfl,rfl,hH,hz,q⟩:=h;cases rx;obtain⟨u,rfl,ru⟩:=rv.one;obtain⟨z,its,n,r,hl,e⟩:=I.FG hH;refine VA F.slot_list_append ⟨_,e,rfl⟩ F.entry_list_append (F.args_list_append_2 _ _) (PySem.list_append l its.toArray n u (by grind)) ⟨e,?_⟩;refine⟨.non,_,I.Oj hH e (by simp) (r.append (.cons ru .nil)) ?_,rfl,q⟩
 grind
noncomputable def L8:V->List V->Hp->VK->Prop:=λx vs H Q=>∃l xs i k y,x=.ref l/\vs=[.int i]/\H l=some (.lst xs)/\-(2^63)<=i/\i<2^63/\seqIndex? i xs.length=some k/\xs[k]?=some y/\Q y (upd H l (.lst (xs.eraseIdx k)))
theorem FI:RA X "list.pop" L8:=by
 intro pins s σ H x vs v us Q I rx rv h;obtain⟨l,xs,i,k,y,rfl,rfl,hH,h1,h2,hk,hy,q⟩:=h;cases rx;obtain⟨u,rfl,ru⟩:=rv.one;obtain⟨t,rfl⟩:=ru;obtain⟨z,its,n,r,hl,e⟩:=I.FG hH;obtain⟨w,hw,rw'⟩:=r.get hy
 refine VA F.slot_list_pop ⟨_,e,rfl⟩ F.entry_list_pop (F.args_list_pop_2 _ _)
  (MeetsSeq.list_pop_at l its.toArray n i t k w (fitsIndex_both h1 h2) (by simp_all) (by simp_all) (by grind)) ⟨e,?_⟩
 refine⟨y,_,I.Oj hH e ?_ (r.eraseIdx k) ?_,rw',q⟩
 ·grind
 ·grind
noncomputable def Qx:R2:=λx y H Q=>∃l b xs zs,x=.ref l/\y=.ref b/\H l=some (.lst xs)/\H b=some (.lst zs)/\xs.length+zs.length<=sizeLine/\∀p,H p=none->Q (.ref p) (upd H p (.lst (xs++zs)))
theorem L9:jr X (binaryOp .Add) Qx:=by
 intro pins s σ H x y v u Q I rx ry h;obtain⟨l,b,xs,zs,rfl,rfl,hH,hB,hz,q⟩:=h;cases rx;cases ry;obtain⟨z,its,n,r,hl,e⟩:=I.FG hH;obtain⟨z2,its2,n2,r2,hl2,e2⟩:=I.FG hB;refine PySem.P.add_list e e2 ?_ (by grind);have ea:its.toArray++its2.toArray=(its++its2).toArray:=by simp
 rw[ea];exact⟨.ref _,_,I.Ol (r.append r2) (by grind),rfl,q _ I.fresh⟩
noncomputable def Qy:R2:=λx y H Q=>∃l k xs,x=.ref l/\y=.int k/\H l=some (.lst xs)/\-(2^63)<=k/\k<2^63/\xs.length*k.toNat<=sizeLine /\
 ∀p,H p=none->Q (.ref p) (upd H p (.lst (List.replicate k.toNat xs).flatten))
theorem len_rep{α:Type}(xs:List α)(k:Nat):(List.replicate k xs).flatten.length=k*xs.length:=by simp
theorem Ma:jr X (binaryOp .Mult) Qy:=by
 intro pins s σ H x y v u Q I rx ry h;obtain⟨l,k,xs,rfl,rfl,hH,h1,h2,hz,q⟩:=h;cases rx;obtain⟨t,rfl⟩:=ry;obtain⟨z,its,n,r,hl,e⟩:=I.FG hH;have hlen:its.toArray.size*k.toNat<=sizeLine:=by grind
 have hcap:¬ its.toArray.size*k.toNat>(2^63-1) / 8:=by
  have:(sizeLine:Nat)<=(2^63-1) / 8:=by decide
  omega
 have hfit:¬ (!Builtin.List.listFitsIndex k)=true:=by
  simp_all[fitsIndex_both,h1,h2]
 have hlong:¬ Builtin.List.listTooLong (its.toArray.size*k.toNat)=true:=by rw[FH hlen];exact Tc
 have hnew:List.foldl (λx1 x2=>x1++x2) #[] (List.replicate (if its.toArray.isEmpty=true then 0 else k.toNat) its.toArray)=(List.replicate k.toNat its).flatten.toArray:=by
  have f0:∀m:Nat,List.foldl (λx1 x2=>x1++x2) #[] (List.replicate m its.toArray)=(List.replicate m its).flatten.toArray:=λm=>by have:=foldl_rep its m [];rw[TH]at this;exact this
  rw[f0]
  cases its with
  |nil=>simp
  |cons a r'=>rw[if_neg (by simp)]
 refine wpAny_binaryOp_repeat_ref (T := "list") (U := "int") (by decide) ⟨_,e,rfl⟩ (λs'=>typeIs_int s' k t) noFill_list_mul F.fills_int_mul F.slot_int_rmul repeat_list F.slot_int_index.lookup
  (VA F.slot_int_rmul (typeIs_int s k t) F.entry_int_rmul (F.args_int_rmul_2 _ _) (int___rmul___int_list k t l its.toArray n)
   ⟨e,rfl,⟨_,e,rfl⟩,VA F.slot_list_mul ⟨_,e,rfl⟩ F.entry_list_mul (F.args_list_mul_2 _ _) (AutoListH.list___mul___list_int_3 l its.toArray n k t hfit hcap hlong) ⟨e,?_⟩⟩)
 rw[hnew];exact⟨.ref _,_,I.Ol (t':=s.toks) (r.rep k.toNat) (by rw[len_rep,Nat.mul_comm];exact hz),rfl,q _ I.fresh⟩
end
end L2
namespace Att
open PySem PySem.W PySem.Calls PyProof.Rows
theorem sW:∀(ns:List Int) (vs:WC),WellAll P h vs (ns.map WData.int)->IntsAre vs ns:=by
 intro ns
 induction ns with
 |nil=>intro vs w;cases w;exact .nil
 |cons n ns ih=>
  intro vs w
  cases w with
  |cons a b=>cases a;exact .cons _ _ (ih _ b)
theorem Ep{l:OpenLaw}(hn:l.most=some n)
 (hpre:l.row.toRowW.claim.pre args=true)(hwl:WellAll P h vals args) :
  ∃a vs ns,vals=[Value.ref a]/\args=[WData.list (ns.map WData.int)]/\h.get? a=some {cls:=.type "list",data:=.seq vs.toArray}/\IntsAre vs ns/\ns.length<=n:=by
 have hsh  := (pre_splitW hpre).1;have hc:l.pre.holds [] {args:=args}=true:=(pre_splitW hpre).2;obtain⟨d,r,rfl,h1,h2⟩:=hasAllW_cons hsh;obtain rfl:=hasAllW_nil h2;obtain⟨xs,rfl,h3⟩:=hasW_list h1;obtain⟨ns,rfl⟩:=items_int h3
 have hlen:ns.length<=n:=by
  have h4:(WTm.not (.lt (.lit (.int (n:Int))) (.len (.arg 0)))).holds [] {args:=[.list (ns.map .int)]}=true:=by
   have h4:=(holds_andW hc).1
   simp_all
  have h5:=condW_of h4 (w_not (w_lt w_lit (w_len_list (w_arg rfl))))
  simp_all
 cases hwl with
 |cons w1 w2=>
  cases w2
  cases w1 with
  |list ho hall=>exact⟨_,_,ns,rfl,rfl,ho,sW ns _ hall,hlen⟩
theorem Er(l:OpenLaw)(args:List WData):l.row.toRowW.claim.post args (.bool true) args=true:=
 postW_of
  (show WShape.has [] _ .bool=true by rfl)
  (w_eq_bool (w_res rfl) w_lit) rfl
theorem zF{l:OpenLaw}
 (hn:l.most=some n)(hdf:d.params.defaults=[])
 (call:∀(w:World) (s₀ s₁:WO) (mg mb:Wz) (fa:Addr) (o:Obj) (pm cd doc:Value) (a:Addr) (vs:WC) (ns:List Int),
   Ground q loose [] XP w s₀ mg mb s₁.heap->YP w s₁.heap ->
   s₁.heap.get? fa=some o->o.data=.func (docDef d.name d.params d.body d.scope pm cd doc)->s₁.heap.CodeRec cd d.name->mg d.name=some (.ref fa) ->
   s₁.heap.get? a=some {cls:=.type "list",data:=.seq vs.toArray}->IntsAre vs ns->ns.length<=n->s₁.gens=#[] ->
   codeAny (model l.prog w) callerA (.call (.ref fa) ⟨[.ref a],[]⟩) (λr s'=>r=.ok (.ret (.bool true))/\OldK s₁.heap s'.heap/\s'.os=s₁.os/\AllBare s'.gens) s₁) :
  WalkO q loose XP YP l.row.toRowW d [] (λf vs=>PySem.call f vs):=by
 intro w s₀ s₁ mg mb G Y fa o pm cd doc dV kV ho hd hcd hD hmg hg args vals as hpre hlay hrd hwl hlo;obtain rfl:dV=.none:=Dflts.none hD hdf;obtain rfl:kV=.none:=Dflts.noKw hD;obtain⟨a,vs,ns,rfl,rfl,hobj,hints,hlen⟩:=Ep hn hpre hwl;refine enter_call (VR (call w s₀ s₁ mg mb fa o pm cd doc a vs ns G Y ho (fd_plain hd) hcd hmg hobj hints hlen hg) λr s' hq=>?_);obtain⟨rfl,h2,h3,h4⟩:=hq;exact⟨.inl ⟨.bool true,.bool true,[],rfl,λ_=>rfl,.bool true,Er l _,λ_=>⟨List.Pairwise.nil,λ_ hm=>(nomatch hm)⟩⟩,h2,h3,h4⟩
end Att
namespace L2
open PySem PySem.Spec PyProof.Rows
theorem wV:∀{vs:WC} {ns:List Int},IntsAre vs ns->Vals (ns.map V.int) vs
 |_,_,.nil=>.nil
 |_,_,.cons n t h=>.cons ⟨t,rfl⟩ (wV h)
noncomputable def Mb(H:Hp):Prop:=∀b,H b=none\/∃o xs,H b=some (.frz o (.lst xs))
theorem FJ{K:WD}
 (KX:K.In s₁.heap)(hns:s₁.heap.Ns mainGlobals mg)(hb:s₁.heap.Ns builtinsNs mb)(hbb:∀x:Str,x ≠ "__name__" -> mb x=bootBuiltins x)(hlim:s₁.heap.NoLimit)(hg:s₁.gens=#[])
 (ha:s₁.heap.get? a=some {cls:=.type "list",data:=.seq vs.toArray})(hi:IntsAre vs ns)(hl:ns.length<=sizeLine)(hr:cG k callerA)
 (F:∀base:Heap,K.In base->base.Ns mainGlobals mg->ka P w K mg base CX k fa fd [x] sp)(hbind:∀(s:WO) (u:Value),BindsTo s fd ⟨[u],[]⟩ [(x,u)])
 (hsp:∀H:Hp,Mb H->j9 K H a (ns.map V.int)->sp [.ref a] H (λv _=>v=.bl true) λ_ _ _=>False)
 (hCX:∀H e s',CX [] H s₁ (λ_ _ _=>False) e s'->False) :
  codeAny (model P w) callerA (.call (.ref fa) ⟨[.ref a],[]⟩) (λr s'=>r=.ok (.ret (.bool true))/\OldK s₁.heap s'.heap/\s'.os=s₁.os/\AllBare s'.gens) s₁:=by
 have rv:=wV hi;have lenV:=hi.length
 have core:∀H:Hp,Mb H->j9 K H a (ns.map V.int)->mr P w H s₁.heap->(∀b,H b≠none->b=a)->(H a≠none->K.lookup a=none) ->
   codeAny (model P w) callerA (.call (.ref fa) ⟨[.ref a],[]⟩) (λr s'=>r=.ok (.ret (.bool true))/\OldK s₁.heap s'.heap/\s'.os=s₁.os/\AllBare s'.gens) s₁:=by
  intro H hO hS hok hA hK;have base_of:∀{b:Addr} {o:Obj},s₁.heap.get? b=some o->H b=none->(x5 s₁.heap H).get? b=some o:=λe n=>Fj e n
  have noA:∀{b:Addr} {o:Obj} {es:WI} {ep:Nat},s₁.heap.get? b=some o->o.data=.dict es ep->H b=none:=λ{b o es ep} e d=>by
   cases q:H b with
   |none=>rfl
   |some u=>have e':b=a:=hA b (by rw[q];simp);subst e';rw[ha]at e;cases e;have d':Data.seq vs.toArray _=Data.dict es ep:=d;cases d'
  have nsK:∀{b:Addr} {m:Wz},s₁.heap.Ns b m->(x5 s₁.heap H).Ns b m:=λ{b m} ⟨o,es,ep,e,d,r⟩=>⟨o,es,ep,base_of e (noA e d),d,r⟩
  have hKb:K.In (x5 s₁.heap H):=λb o e=>base_of (KX b o e) (by
   cases q:H b with
   |none=>rfl
   |some u=>
    have e':b=a:=hA b (by rw[q];simp);subst e'
    rw[hK (by rw[q];simp)]at e;cases e)
  have hM:Mod K mg (x5 s₁.heap H):=⟨hKb,nsK hns,⟨mb,nsK hb,hbb⟩,let ⟨mc,h1,h2⟩:=hlim;⟨mc,nsK h1,h2⟩⟩;have e0:IB P w K mg (x5 s₁.heap H) callerA [] s₁ H:=⟨rfl,hM,λb o e=>Ij e,Nat.le_of_eq (Ec _ _),trivial,λb hb=>absurd (show b∈([]:WB)from hb) (by simp),hok,.of_eq hg⟩;refine VR ((F _ hKb (nsK hns)).run callerA [] s₁ H ⟨[.ref a],[]⟩ [.ref a] [.ref a] _ _ hr e0 (hbind s₁ (.ref a)) (.cons rfl .nil) (hsp H hO hS)) λr s' h=>?_
  cases r with
  |error e=>exact(hCX H e s' h).elim
  |ok fl=>
   cases fl with
   |next=>exact False.elim h
   |brk=>exact False.elim h
   |cont=>exact False.elim h
   |ret u=>
    obtain⟨v,H',os,bare,un,hok',r',q⟩:=h;have q':v=.bl true:=q;subst q';obtain rfl:u=Value.bool true:=r';refine⟨rfl,OldK.of_keep λb o e=>?_,os,bare⟩
    cases q:H b with
    |none=>exact un.keep b o e q (by intro z;exact absurd (show b∈([]:WB)from z) (by simp)) (by simp)
    |some u=>
     rcases hO b with z|⟨ob,xs,z⟩
     ·rw[q]at z;cases z
     ·have z2:=un.frzs b ob _ z;obtain⟨e1,_⟩:=hok b _ z;obtain⟨e2,_⟩:=hok' b _ z2;rw[e]at e1;cases e1;exact e2
 cases hk:K.lookup a with
 |some o=>have e:=KX a o hk;rw[ha]at e;cases e;refine core (λ_=>none) (λ_=>.inl rfl) (.inr ⟨_,vs.toArray,_,hk,rfl,rfl,rfl,by rw[S5,lenV];exact hl,by simpa using rv⟩) (λb u z=>by have z':(none:Option HO)=some u:=z;cases z') (λb z=>absurd rfl z) λz=>absurd rfl z
 |none=>
  refine core (λb=>if b=a then some (.frz {cls:=.type "list",data:=.seq vs.toArray} (.lst (ns.map V.int)))else none) (λb=>?_) (.inl (.inr ⟨{cls:=.type "list",data:=.seq vs.toArray},if_pos rfl⟩)) (λb u z=>?_) (λb z=>?_) λ_=>hk
  ·by_cases hb:b=a
   ·exact .inr ⟨_,_,if_pos hb⟩
   ·exact .inl (if_neg hb)
  ·by_cases hb:b=a
   ·have z':=(if_pos hb).symm.trans z;cases z';subst hb;exact⟨ha,by rw[SG];exact hl,vs,_,rv,ha⟩
   ·have z':=(if_neg hb).symm.trans z;cases z'
  ·by_cases hb:b=a
   ·exact hb
   ·exact absurd (if_neg hb) z
theorem IJ{l:PySem.W.OpenLaw}{K:Params->WD}{CX:World->LY}{sp:World->Sp}
 (hn:l.most=some n)(hn2:n<=sizeLine)(hdf:d.params.defaults=[])(hr:cG k callerA)
 (hY:∀(w:World) (h:Heap),YP w h->(K w.params).In h)
 (F:∀(w:World) (mg:Wz) (fa:Addr) (h:Heap),(K w.params).In h->h.Ns mainGlobals mg->mg d.name=some (.ref fa) ->
   ∃fd:FuncData,(∀(s:WO) (u:Value),BindsTo s fd ⟨[u],[]⟩ [(x,u)]) /\
    ∀base:Heap,(K w.params).In base->base.Ns mainGlobals mg->ka l.prog w (K w.params) mg base (CX w) k fa fd [x] (sp w))
 (hsp:∀(w:World) (H:Hp) (a:Addr) (ns:List Int),ns.length<=n->Mb H->j9 (K w.params) H a (ns.map V.int)->sp w [.ref a] H (λv _=>v=.bl true) λ_ _ _=>False)
 (hCX:∀(w:World) (H:Hp) (s:WO) (e:Value) (s':WO),CX w [] H s (λ_ _ _=>False) e s'->False) :
  PySem.W.WalkO q loose XP YP l.row.toRowW d [] (λf vs=>PySem.call f vs):=by
 refine Att.zF hn hdf λw s₀ s₁ mg mb fa o pm cd doc a vs ns G Y ho hd hcd hmg hobj hints hlen hg=>?_;have KX:=hY w _ Y;obtain⟨fd,hb,hF⟩:=F w mg fa _ KX G.T.g hmg;exact FJ KX G.T.g G.T.b G.T.builtins G.T.nolimit hg hobj hints (Sw hlen hn2) hr hF hb (λH hO hS=>hsp w H a ns hlen hO hS) λH e s'=>hCX w H s₁ e s'
end L2
namespace L2
open PySem PySem.Spec PyProof.Rows
noncomputable def ju(s:Stmt):Arguments:=match s with
 |.FunctionDef _ a _ _ _ _ _ _ _ _=>a
 |_=>{posonlyargs:=[],args:=[],vararg:=none,kwonlyargs:=[],kw_defaults:=[],kwarg:=none,defaults:=[]}
noncomputable def f6(s:Stmt):List Stmt:=match s with
 |.FunctionDef _ _ b _ _ _ _ _ _ _=>b
 |_=>[]
noncomputable def aB(s:Stmt):Scope:=match s with
 |.FunctionDef _ _ _ _ _ _ sc _ _ _=>sc
 |_=>{kind:=.function,names:=[],isGenerator:=false,isCoroutine:=false}
structure KJ(K:WD)(x qual:Str)(st:Stmt)(f:Addr)(fd:FuncData):Prop where
 ex:∃(oc:Value) (od:Option Addr) (kV doc pm:Value) (an:Option Addr) (cdv ct:Value) (osl:WH),
  fd=PySem.W.fnOf x qual (ju st) (f6 st) (aB st) .none kV doc pm an cdv ct/\K.lookup f=some ⟨oc,od,.func fd,osl⟩/\PySem.W.codeIn K cdv qual=true
 kp:PySem.W.keepIn K (.ref f)=true
section
variable {P:WL} {w:World} {K:WD} {mg:Wz} {base:Heap}
theorem KJ.binds{st:Stmt}(F:KJ K x qual st f fd)
 (h:∀(kV doc pm:Value) (an:Option Addr) (cdv ct:Value) (us:WC),us.length=ps.length->bindArgs (PySem.W.fnOf x qual (ju st) (f6 st) (aB st) .none kV doc pm an cdv ct) ⟨us,[]⟩=pure (ps.zip us)):Binds K fd ps []:=by
 obtain⟨oc,od,kV,doc,pm,an,cdv,ct,osl,rfl,lk,hcd⟩:=F.ex;exact .all (h kV doc pm an cdv ct)
theorem By{st:Stmt}{kV doc pm cdv ct:Value}(l:K.lookup f=some ⟨oc,od,.func (PySem.W.fnOf x qual (ju st) (f6 st) (aB st) .none kV doc pm an cdv ct),osl⟩)
 (c:PySem.W.codeIn K cdv qual=true)(k:PySem.W.keepIn K (.ref f)=true):KJ K x qual st f (PySem.W.fnOf x qual (ju st) (f6 st) (aB st) .none kV doc pm an cdv ct):=⟨⟨oc,od,kV,doc,pm,an,cdv,ct,osl,rfl,l,c⟩,k⟩
end
noncomputable def bR(H H':Hp):Prop:=∀b o,H b=some o->H' b=some o
theorem bR.refl(H:Hp):bR H H:=λ_ _ h=>h
theorem bR.trans(a:bR H H1)(b:bR H1 H2):bR H H2:=λc o h=>b c o (a c o h)
theorem bR.free(e:bR H H')(h:H' l=Option.none):H l=Option.none:=by
 cases q:H l with
 |none=>rfl
 |some o=>rw[e l o q]at h;cases h
theorem bR.seq{K:WD}(e:bR H H')(h:j9 K H a xs):j9 K H' a xs:=by
 rcases h with(h|⟨o,h⟩)|h
 ·exact .inl (.inl (e _ _ h))
 ·exact .inl (.inr ⟨o,e _ _ h⟩)
 ·exact .inr h
noncomputable def fe(cells:List (Str×Addr)):List (Str×NameKind)->List (Str×Addr)->List (Str×Addr)
 | [],acc=>acc
 | (n,k)::r,acc=>if k == .free then fe cells r ((n,(cells.lookup n).getD 0)::acc)else fe cells r acc
theorem oy:∀(names:List (Str×NameKind)) (acc:List (Str×Addr)),(∀n,(n,NameKind.free)∈names->∃c,env.cells.lookup n=some c) ->
  (forIn (m:=Sem) names acc λ(x:Str×NameKind) (cs:List (Str×Addr))=>match x with
   | (name,kind)=>if(kind==NameKind.free)=true then(do let a <- cellOf env name;pure (ForInStep.yield ((name,a)::cs)))else pure (ForInStep.yield cs))=pure (fe env.cells names acc)
 | [],acc,_=>by rfl
 | (n,k)::r,acc,h=>by
  rw[Ue];unfold fe;by_cases hk:(k==NameKind.free)=true
  ·obtain⟨c,hc⟩:=h n (by grind);have e:cellOf env n=pure c:=by simp[cellOf,hc]
   simp only[hk,Tg];rw[e,hc];exact oy r _ λm hm=>h m (SE _ hm)
  ·simp only[hk];exact oy r _ λm hm=>h m (SE _ hm)
theorem gO(h:∀n,(n,NameKind.free)∈scope.names->∃c,env.cells.lookup n=some c):closureFor scope env=pure (fe env.cells scope.names []):=by
 have q:=oy scope.names [] h
 simp_all[closureFor]
theorem nu:∀{names:List (Str×NameKind)} {acc:List (Str×Addr)},(x,NameKind.free)∉names->(fe cells names acc).lookup x=acc.lookup x
 | [],_,_=>rfl
 | (n,k)::r,acc,h=>by
  unfold fe;by_cases hk:(k==NameKind.free)=true
  ·rw[if_pos hk,nu λz=>h (SE _ z),Uv]
   have:(x==n)=false:=by
    grind
   rw[this]
  ·rw[if_neg hk,nu λz=>h (SE _ z)]
theorem i9:∀{names:List (Str×NameKind)} {acc:List (Str×Addr)},(x,NameKind.free)∈names->(fe cells names acc).lookup x=some ((cells.lookup x).getD 0)
 | (n,k)::r,acc,h=>by
  unfold fe;by_cases hr:(x,NameKind.free)∈r
  ·by_cases hk:(k==NameKind.free)=true
   ·rw[if_pos hk];exact i9 hr
   ·rw[if_neg hk];exact i9 hr
  ·rcases Sz.mp h with e|e
   ·cases e;rw[if_pos (show(NameKind.free==NameKind.free)=true from rfl),nu hr,Uv];simp
   grind
theorem eB:∀(names:List (Str×NameKind)) (n:Nat) (acc:List (Str×Addr)),cellsFrom n names acc=cellsFrom n names []++acc
 | [],_,_=>rfl
 | (x,k)::r,n,acc=>by
  unfold cellsFrom;by_cases hk:(k==NameKind.cell)=true
  ·rw[if_pos hk,if_pos hk,eB r (n+1) ((x,n)::acc),eB r (n+1) [(x,n)],List.append_assoc];rfl
  ·rw[if_neg hk,if_neg hk];exact eB r n acc
theorem gP:∀{names:List (Str×NameKind)} {n:Nat},(x,c)∈cellsFrom n names []->(x,NameKind.cell)∈names/\n<=c
 | [],_,h=>nomatch h
 | (y,k)::r,n,h=>by
  unfold cellsFrom at h;by_cases hk:(k==NameKind.cell)=true
  ·rw[if_pos hk,eB]at h;rcases SD.mp h with h|h
   ·obtain⟨h1,h2⟩:=gP h;exact⟨SE _ h1,by omega⟩
   ·have e:(x,c)=(y,n):=by simpa using h
    cases e;have:=eq_of_beq hk;subst this;exact⟨SK,Ss _⟩
  ·rw[if_neg hk]at h;obtain⟨h1,h2⟩:=gP h;exact⟨SE _ h1,h2⟩
structure cP(sc:Scope)(N own:WE)(scope:Scope):Prop where
 kind:scope.kind=.function
 frees:∀n,(n,NameKind.free)∈scope.names->sc.names.lookup n=some .cell\/sc.names.lookup n=some .free
 own:∀x∈own,(x,NameKind.free)∉scope.names
 out:∀x∈N,scope.names.lookup x≠some .local/\scope.names.lookup x≠some .cell
 uniq:∀p∈scope.names,scope.names.lookup p.1=some p.2
noncomputable def fw(sc:Scope)(N own:WE)(scope:Scope):Bool:=
 (scope.kind == .function)&&scope.names.all (λp=>p.2 != .free || (sc.names.lookup p.1==some .cell) || (sc.names.lookup p.1==some .free)) &&
 own.all (λx=>scope.names.all λp=>!(p.1==x&&p.2 == .free))&&N.all (λx=>scope.names.lookup x != some .local&&scope.names.lookup x != some .cell) &&
 scope.names.all (λp=>scope.names.lookup p.1==some p.2)
theorem cP.of{N own:WE}(h:fw sc N own scope=true):cP sc N own scope:=by
 unfold fw at h;simp only[Su]at h;obtain⟨⟨⟨⟨h1,h2⟩,h3⟩,h4⟩,h5⟩:=h;refine⟨eq_of_beq h1,λn hn=>?_,λx hx hn=>?_,λx hx=>?_,λp hp=>?_⟩
 ·have:=SR.mp h2 _ hn
  simp_all
 ·have:=SR.mp (SR.mp h3 x hx) _ hn
  simp_all
 ·simp_all
 grind
theorem mC{env:Env}:∀(names:List (Str×NameKind)),
  (names.map λ(n,k)=>if(k==NameKind.free&&env.scope.kind == .function&&env.kindOf n==some .cell)then(n,NameKind.cell)else(n,k)).lookup x
   = (names.lookup x).map λk=>if(k==NameKind.free&&env.scope.kind == .function&&env.kindOf x==some .cell)then NameKind.cell else k
 | []=>rfl
 | (n,k)::r=>by
  have ih:=mC (env:=env) (x:=x) r;rw[SV];show List.lookup x ((if(k==NameKind.free&&env.scope.kind == .function&&env.kindOf n==some .cell)=true then(n,NameKind.cell)else(n,k))::_)=_;by_cases hc:(k==NameKind.free&&env.scope.kind == .function&&env.kindOf n==some .cell)=true
  ·rw[if_pos hc,Uv,Uv]
   cases hx:x==n with
   |true=>simp_all
   |false=>exact ih
  ·rw[if_neg hc,Uv,Uv]
   cases hx:x==n with
   |true=>have:=eq_of_beq hx;subst this;exact VG some (if_neg hc).symm
   |false=>exact ih
theorem mem_of_lookupK{names:List (Str×NameKind)}(h:names.lookup x=some k):(x,k)∈names:=T8 h
noncomputable def jS(scope:Scope)(C:Addr)(env:Env):Env:=
 {scope:=relabel scope env,locals:=C,globals:=env.globals,cells:=cellsFrom (C+1) scope.names (fe env.cells scope.names []),qual:=env.qual,func:=none,code:=env.code,frame:=env.frame,builtins:=env.builtins}
theorem jT
  (hQ:Q {scope:=scope,locals:=s.heap.objs.size,globals:=env.globals,cells:=cellsFrom (s.heap.objs.size+1) scope.names cl,qual:=env.qual,func:=none,code:=env.code,frame:=env.frame,builtins:=env.builtins}
   {s with heap:=pushCells (s.heap.push {cls:=.type "dict",data:=.dict #[]}) scope.names}) :
  wpAny M A (newFunctionEnv scope env.globals cl [] env.qual none .none (some env)) Q E s:=by
 refine Sm (wpAny_alloc ?_);refine Sm (wpAny_layCells _ (λname kind cells=>by rfl) _ _ _ _ ?_);rw[Tj ..];exact Sn hQ
noncomputable def ay(X:Cx)(own:WE)(scope:Scope)(C:Addr)(s2:WO)(H2:Hp)(fp:WB)(pins:Ww):Cx where
 prog:=X.prog
 w:=X.w
 K:=X.K
 mg:=X.mg
 base:=X.base
 A:=X.A
 N:=own++X.N
 s₀:=s2
 H₀:=H2
 env:=jS scope C X.env
 outer:=X.stack
 stack:=X.stack
 ex:=fp
 fn:=λx=>own.any (· == x)
 calm:=X.calm
 pn:=X.pn++pins
 xe:=λ_ _=>False
noncomputable def Kept(X:Cx)(fp:WB)(H H':Hp)(s s':WO):Prop:=s'.os=s.os/\Un (vR X.stack) fp H H' s.heap s'.heap/\mr X.prog X.w H' s'.heap/\AllBare s'.gens
theorem Kept.inv{σ:St}(k:Kept X fp H H' s s')(I:Inv X pins σ H s)(hf:∀b∈fp,iq X pins H b):Inv X pins σ H' s':=
 I.Ky k.1 k.2.1 k.2.2.1 k.2.2.2 λb hb=>⟨(hf b hb).2.2.2.1,(hf b hb).2.1,(hf b hb).2.2.2.2.1,(hf b hb).2.2.2.2.2⟩
section
variable {X:Cx} {own:WE} {scope:Scope} {pins:Ww} {σ:St} {H2:Hp} {s2:WO} {fp:WB}
theorem ja(x:Str):(relabel scope X.env).names.lookup x=(scope.names.lookup x).map λk=>if(k==NameKind.free&&X.env.scope.kind == .function&&X.env.kindOf x==some .cell)then NameKind.cell else k:=
 mC _
theorem bT(h:(jS scope C X.env).cells.lookup x=some c):((x,c)∈cellsFrom (C+1) scope.names []/\(x,NameKind.cell)∈scope.names/\C+1<=c)\/(fe X.env.cells scope.names []).lookup x=some c:=by
 have h':(cellsFrom (C+1) scope.names (fe X.env.cells scope.names [])).lookup x=some c:=h;rw[eB,List.lookup_append]at h'
 cases e:(cellsFrom (C+1) scope.names []).lookup x with
 |some d=>rw[e]at h';cases h';have m:=T8 e;exact .inl ⟨m,gP m⟩
 |none=>rw[e]at h';exact .inr h'
theorem eK(I:Inv X pins σ H2 s2)(CS:cP X.env.scope X.N own scope)(h:(fe X.env.cells scope.names []).lookup x=some c):(x,NameKind.free)∈scope.names/\X.env.cells.lookup x=some c:=by
 by_cases hf:(x,NameKind.free)∈scope.names
 ·rw[i9 hf]at h;obtain⟨d,hd⟩:=I.ok.has x (CS.frees x hf)
  grind
 simp_all[nu]
theorem ye(I:Inv X pins σ H2 s2)(CS:cP X.env.scope X.N own scope){C:Addr}(hC:s2.heap.objs.size<=C)(hf:∀b∈fp,iq X pins H2 b)(hl:∀b∈fp,b<s2.heap.objs.size):(ay X own scope C s2 H2 fp pins).Ok:=by
 have old:∀x c,(fe X.env.cells scope.names []).lookup x=some c->X.env.cells.lookup x=some c/\c<s2.heap.objs.size:=λx c h=>by obtain⟨_,q⟩:=eK I CS h;obtain⟨v,z⟩:=I.cell x c q;exact⟨q,z.lt⟩
 refine⟨I.ok.mod,CS.kind,I.ok.glob,I.ok.blt,hC,λx y c h1 h2=>?_,λx hx=>?_,λx c hx h=>?_,I.ok.hd,I.ok.frames,.inl rfl,λb hb=>⟨?_,λx c h=>?_⟩,I.bs,Sw I.ok.bsz I.sz,λb o e hb=>?_,λb hb z=>?_,I.stack,I.CB⟩
 ·rcases bT h1 with⟨a1,_,a2⟩|a1<;>rcases bT h2 with⟨b1,_,b2⟩|b1
  ·have ap:=(cellsFrom_ok scope.names {(default:Heap)with objs:=Array.replicate (C+1) default} (C+1) [] ⟨λ_ _ hm=>(nomatch hm),List.Pairwise.nil⟩ (by simp)).apart;simp only[Array.size_replicate]at ap;exact name_of_addr ap a1 b1
  ·exact absurd (Sx (old y c b1).2 (Sw hC (Sw (Uw _) a2))) (SQ _)
  ·exact absurd (Sx (old x c a1).2 (Sw hC (Sw (Uw _) b2))) (SQ _)
  ·exact I.ok.inj x y c (old x c a1).1 (old y c b1).1
 ·have hx':(relabel scope X.env).names.lookup x=some .cell\/(relabel scope X.env).names.lookup x=some .free:=hx;rw[ja]at hx';show ∃c,(cellsFrom (C+1) scope.names (fe X.env.cells scope.names [])).lookup x=some c;refine Option.isSome_iff_exists.mp (VM _ _ _ ?_)
  cases e:scope.names.lookup x with
  |none=>rw[e]at hx';simp at hx'
  |some k=>
   rw[e]at hx';by_cases hk:k=.free
   ·subst hk;exact .inr (by rw[i9 (mem_of_lookupK e)];rfl)
   ·have hb:(k==NameKind.free)=false:=by simpa using hk
    simp only[V4,hb,VQ,SF,Tz,UT]at hx';rcases hx' with q|q
    ·exact .inl (by rw[q])
    ·exact absurd q hk
 ·obtain⟨y,hy,e⟩:=Wr.mp hx;have:=eq_of_beq e;subst this;rcases bT h with⟨_,_,a⟩|a
  ·exact Sw hC (Sw (Uw _) a)
  ·exact absurd (eK I CS a).1 (CS.own _ hy)
 ·exact SI (Sx (hl b hb) hC)
 ·rcases bT h with⟨_,_,a⟩|a
  ·exact VC (SI (Sx (hl b hb) (Sw hC (Sw (Uw _) a))))
  ·exact(hf b hb).2.2.2.2.1 x c (old x c a).1
 ·rcases(hf b hb).2.2.2.1 with z|z
  ·exact I.ok.noex b o e z
  ·exact absurd (Sx (Sv e) (Sw I.ok.bsz z)) (SQ _)
 ·rcases Sz.mp (I.jR b z)with e|e
  ·exact(hf b hb).2.1 e
  ·exact(hf b hb).2.2.1 e
theorem ke(I:Inv X pins σ H2 s2)(CS:cP X.env.scope X.N own scope)(hc:∀c v,s2.heap.IsCell c v->(∃x,X.env.cells.lookup x=some c)->h.IsCell c v) :
  ∀(i:Nat) (x:Str) (v:V),(own++X.N)[i]?=some x->(List.replicate own.length (none:Option V)++σ)[i]?=some (some v)->Kx (relabel scope X.env) x->∃u,RelV v u/\Look (jS scope C X.env) h m x u:=by
 intro i x v h1 h2 h3
 have hi:own.length<=i:=by
  by_cases hi:own.length<=i
  ·exact hi
  ·rw[Ta (by simpa using hi),U5]at h2;split at h2<;>cases h2
 rw[Th hi]at h1;rw[Th (by simpa using hi),TX]at h2;have hN:=CS.out x (SX h1)
 have hfr:scope.names.lookup x=some .free:=by
  unfold Kx at h3;rw[ja]at h3
  cases e:scope.names.lookup x with
  |none=>rw[e]at h3;simp at h3
  |some k=>
   rw[e]at h3 hN;by_cases hk:k=.free
   ·rw[hk]
   ·have hb:(k==NameKind.free)=false:=by simpa using hk
    simp only[V4,hb,VQ,SF,Tz,UT]at h3;rcases h3 with q|q|q
    ·exact absurd (by rw[q]) hN.1
    ·exact absurd (by rw[q]) hN.2
    ·exact absurd q hk
 have hm:=mem_of_lookupK hfr;have hk:=CS.frees x hm;obtain⟨mX,hn,hl⟩:=I.loc;obtain⟨u,r,l⟩:=hl _ x v h1 h2 (hk.elim (λz=>.inr (.inl z)) λz=>.inr (.inr z));refine⟨u,r,?_⟩;rcases l with⟨z,_⟩|⟨_,c,hcx,z⟩
 ·have z':X.env.scope.names.lookup x=some .local:=z;rcases hk with q|q<;>rw[q]at z'<;>cases z'
 ·refine .inr ⟨?_,c,?_,hc c _ z ⟨x,hcx⟩⟩
  ·show(relabel scope X.env).names.lookup x=some .cell\/(relabel scope X.env).names.lookup x=some .free;rw[ja,hfr];simp only[V4];split
   ·exact .inl rfl
   ·exact .inr rfl
  ·show(cellsFrom (C+1) scope.names (fe X.env.cells scope.names [])).lookup x=some c;rw[eB,List.lookup_append]
   have no:(cellsFrom (C+1) scope.names []).lookup x=none:=by
    cases e:(cellsFrom (C+1) scope.names []).lookup x with
    |none=>rfl
    |some d=>have:=CS.uniq _ (gP (T8 e)).1;simp only[]at this;rw[hfr]at this;cases this
   rw[no,i9 hm,hcx];rfl
end
theorem Bz(I:Nat->WO->Prop)
 (turn:∀n s,I n s->wpAny (model prog w) A (pyNext it) (λr s1=>match r with
   |none=>R (.ok .next) s1
   |some v=>wpAny (model prog w) A (letOwnedTupleGo target it v) (λ_ s2=>wpAny (model prog w) A (assign target env v) (λ_ s3=>
     wpAny (model prog w) A (forIn ifs true λc r=>if r=true then do let ok <- isTrue c env (eval c env);pure (ForInStep.yield ok)else pure (ForInStep.yield r)) (λok s4=>
      if ok=true then wpAny (model prog w) A (eval elt env) (λx s5=>
       wpAny (model prog w) A (call (.builtin "list.append") [acc,x]) (λ_ s6=>∃m,m<n/\I m s6) (λ_ _=>False) s5) (λ_ _=>False) s4
      else ∃m,m<n/\I m s4) (λ_ _=>False) s3) (λ_ _=>False) s2) (λ_ _=>False) s1) (λ_ _=>False) s)
 (n:Nat)(h:I n s) :
  codeAny (model prog w) A (.compLoop (.ListComp elt [⟨target,iter,ifs,0⟩] scope pos) 0 it acc env) R s:=by
 refine codeAny_loop rfl I (λn s hI=>?_) n h;show wpAny _ A ((compTurn (.ListComp elt [⟨target,iter,ifs,0⟩] scope pos) 0 it acc env).onRaise (λx=>do noteFrame x env;theTreesLotGoes x)) _ _ s;refine wpAny_noted ?_;rw[compTurn_list];refine TZ (E:=λ_ _=>False) (E':=_) (Q':=_) ?_ (λ_ _ q=>q) λ_ _ z=>z.elim;refine Sm (Uq (Sm (bH (turn n s hI) (λr s1 h1=>?_))))
 cases r with
 |none=>exact Sn h1
 |some v=>
  refine Sm (bH h1 λ_ s2 h2=>?_);refine Sm (bH h2 λ_ s3 h3=>Sm (bH h3 λok s4 h4=>?_))
  cases ok with
  |false=>exact Sn ⟨rfl,h4⟩
  |true=>exact Sm (Sm (bH h4 λx s5 h5=>Sm (bH h5 λ_ s6 h6=>Sn (Sn ⟨rfl,h6⟩))))
noncomputable def Es(X:Cx)(ifs:WG)(t:TT):Prop:=
 ∀(pins:Ww) (s:WO) (σ:St) (H:Hp) (Q:Bool->Hp->Prop),Inv X pins σ H s->t σ H Q ->
  wpAny (model X.prog X.w) X.A (forIn ifs true λc r=>if r=true then do let ok <- isTrue c X.env (eval c X.env);pure (ForInStep.yield ok)else pure (ForInStep.yield r)) (TP X pins σ Q) X.xe s
noncomputable def Qz:TT:=λ_ H Q=>Q true H
theorem IK:Es X [] Qz:=λ_ _ _ H _ I h=>wpAny_tests_nil ⟨H,I,h⟩
theorem IL(h:PT X c t):Es X [c] t:=λpins s σ H Q I q=>wpAny_tests_one (h pins s σ H Q I q)
noncomputable def FK(n:Nat)(J:It)(g:TG)(tc:TT)(te:TE)(σ:St)(H:Hp)(Q:VK):Prop:=
 ∃W:Nat->Nat->List V->Hp->Prop,(∃m,W 0 m [] H)/\∀i m ys H,W i m ys H ->
  (J.stop i H/\ys.length<=sizeLine/\∀p,H p=none->Q (.ref p) (upd H p (.lst ys))) \/
  (J.go i H/\ys.length<=sizeLine/\∃N:List V->Hp->Prop,(∀ys' H',N ys' H'->∃m',m'<m/\W (i+1) m' ys' H')/\∀x H',J.yld i H x H'->g x (List.replicate n none++σ) H' λσ2 H2=>tc σ2 H2 λb H3=>
   if b=true then te σ2 H3 λy H4=>N (ys++[y]) H4 else N ys H3)
theorem tX{σ:St}
 {RR:Value->Addr->Result->WO->Prop}(I:Inv X pins σ H2 s2)(CS:cP X.env.scope X.N own scope)(hc:X.calm=true)(T:Turn X.prog X.w X.K tg J fp it tn)(st:tn 0 s2.heap)(hf:∀b∈fp,iq X pins H2 b)
 (hg:∀C s2 H2 fp pins,PG (ay X own scope C s2 H2 fp pins) tg g)(ht:∀C s2 H2 fp pins,Es (ay X own scope C s2 H2 fp pins) ifs tc)(he:∀C s2 H2 fp pins,PE (ay X own scope C s2 H2 fp pins) elt te)
 (hW:FK own.length J g tc te σ H2 Q)
 (hR:∀D C H' s',Inv X pins σ H' s'->iq X pins H' C->(∃m,s'.heap.Ns C m)->Q (.ref D) H'->Kept X fp H2 H' s2 s'->RR (.ref D) C (.ok .next) s') :
  wpAny (model X.prog X.w) X.A (newList []) (λacc s3=>wpAny (model X.prog X.w) X.A (newFunctionEnv scope X.env.globals (fe X.env.cells scope.names []) [] X.env.qual none .none (some X.env)) (λcenv s4=>
   codeAny (model X.prog X.w) X.A (.compStart (.ListComp elt [⟨tg,iter,ifs,0⟩] scope pos) 0 (.ref it) acc {cenv with scope:=relabel scope X.env}) (RR acc cenv.locals) s4) E s3) E s2:=by
 refine To (jT ?_);dsimp only;generalize hH:s2.heap.push {cls:=.type "list",dict:=none,data:=.seq ([]:WC).toArray}=h3;have hDC:h3.objs.size=s2.heap.objs.size+1:=by rw[<- hH,Tj]
 have eC:({scope:=relabel scope X.env,locals:=h3.objs.size,globals:=X.env.globals,cells:=cellsFrom (h3.objs.size+1) scope.names (fe X.env.cells scope.names []),qual:=X.env.qual,func:=none,code:=X.env.code,frame:=X.env.frame,builtins:=X.env.builtins}:Env)=jS scope h3.objs.size X.env:=rfl;rw[eC];generalize eD:s2.heap.objs.size=D at *;generalize eCC:h3.objs.size=C at *;have hl:∀b∈fp,b<s2.heap.objs.size:=λb hb=>by obtain⟨o,e,_⟩:=T.obj 0 _ st b hb;exact Sv e
 have hC:s2.heap.objs.size<=C:=by omega
 generalize hH4:pushCells (h3.push {cls:=.type "dict",data:=.dict #[]}) scope.names=h4;have k34:∀b o,(h3.push {cls:=.type "dict",data:=.dict #[]}).get? b=some o->h4.get? b=some o:=λb o e=>by rw[<- hH4];exact pushCells_keeps _ _ b o e
 have k24:∀b o,s2.heap.get? b=some o->h4.get? b=some o:=λb o e=>k34 b o (So _ (by rw[<- hH];exact So _ e));have nsC:h4.Ns C λ_=>none:=by have:=Heap.Ns.new h3 (.type "dict");rw[eCC]at this;exact this.keeps k34
 have accD:h4.get? D=some {cls:=.type "list",data:=.seq (([]:WC).toArray)}:=k34 _ _ (So _ (by rw[<- hH,<- eD];exact Sy _ rfl));have cellN:∀x c,(x,c)∈cellsFrom (C+1) scope.names []->h4.IsCell c none/\C+1<=c:=λx c hm=>by have ok:=cellsFrom_ok scope.names (h3.push {cls:=.type "dict",data:=.dict #[]}) (C+1) [] ⟨λ_ _ hm=>(nomatch hm),List.Pairwise.nil⟩ (by rw[Tj];omega);rw[Tj,eCC,hH4]at ok;exact ok.empty x c hm
 have hne:H2 D=none:=by rw[<- eD];exact I.hok.fresh (Ss _)
 have ok':(ay X own scope C s2 H2 fp pins).Ok:=ye I CS hC hf hl
 have rebase:∀{σ':St} {H':Hp} {ps:Ww} {s':WO},Inv (ay X own scope C s2 H2 fp pins) ps σ' H' s'->Inv (ay X own scope C s2 H2 fp pins) ps (List.replicate own.length none++σ) H' s':=λ{σ' H' ps s'} J'=>by
  obtain⟨m,hn,_⟩:=J'.loc;refine⟨J'.ok,J'.os,J'.bare,J'.base,⟨m,hn,ke I CS λc v z ⟨x,hx⟩=>?_⟩,J'.cell,J'.free,J'.freeC,J'.pin,J'.hok,?_⟩
  ·obtain⟨o,ho,hd⟩:=z;obtain⟨sl,e⟩:=J'.base.any ho (I.freeC x c hx) λhb=>(hf c hb).2.2.2.2.1 x c hx rfl;exact⟨_,e,hd⟩
  ·show(List.replicate own.length none++σ).length=(own++X.N).length;rw[SN,SN,TX,I.len]
 have start:Inv (ay X own scope C s2 H2 fp pins) [] (List.replicate own.length none++σ) H2 {s2 with heap:=h4}:=by
  have I4:Inv X pins σ H2 {s2 with heap:=h4}:=I.kept (t':=s2.toks) k24;refine⟨ok',rfl,I.bare,Un.kept k24,⟨_,nsC,ke I CS λc v z _=>z.keeps k24⟩,λx c h=>?_,I.hok.fresh hC,λx c h=>?_,λp hp=>?_,I4.hok,?_⟩
  ·rcases bT h with⟨a,_,_⟩|a
   ·exact⟨_,(cellN x c a).1⟩
   ·obtain⟨v,z⟩:=I.cell x c (eK I CS a).2;exact⟨v,z.keeps k24⟩
  ·rcases bT h with⟨_,_,a⟩|a
   ·exact I.hok.fresh (Sw hC (Sw (Uw _) a))
   ·exact I.freeC x c (eK I CS a).2
  ·have hp':p∈X.pn++pins:=by
    rcases SD.mp hp with z|z
    ·exact z
    ·exact nomatch z
   obtain⟨e,n,ne,nf,d⟩:=I.pin p hp';refine⟨k24 _ _ e,n,SI (Sx (Sv e) hC),λz=>?_,d⟩;rcases Sz.mp (I.jR _ z)with q|q
   ·exact ne q
   ·exact nf q
  ·show(List.replicate own.length none++σ).length=(own++X.N).length;rw[SN,SN,TX,I.len]
 obtain⟨W,⟨m0,w0⟩,turn⟩:=hW
 have nfs:∀b,s2.heap.objs.size<=b->b∉(ay X own scope C s2 H2 fp pins).fs:=λb hb z=>by
  rcases Sz.mp (I.jR b z)with q|q
  ·rw[q]at hb;exact absurd (Sx I.lt hb) (SQ _)
  ·exact I.Bj hb q
 have fpD:∀{H':Hp},H' D=none->iq (ay X own scope C s2 H2 fp pins) [] H' D:=λ{H'} hn=>by
  refine⟨hn,SI (by show D<C;omega),nfs D (by omega),.inr (by show s2.heap.objs.size<=D;omega),λx c h z=>?_,λp hp z=>?_⟩
  ·rcases bT h with⟨_,_,a⟩|a
   ·rw[z]at a;exact absurd (Sx (show D<C+1 by omega) a) (SQ _)
   ·obtain⟨v,q⟩:=I.cell x c (eK I CS a).2;have:=q.lt;rw[z,eD]at this;exact SQ _ this
  ·have hp':p∈X.pn++pins:=by
    rcases SD.mp hp with z|z
    ·exact z
    ·exact nomatch z
   have:=Sv (I.pin p hp').1;rw[z,eD]at this;exact SQ _ this
 have nD:D∉fp:=λz=>by have:=hl D z;rw[eD]at this;exact SQ _ this
 have stat:∀{H':Hp} {ps:Ww},(∀p∈ps,p.1=D)->(∀b∈fp,H' b=none)->∀b∈fp,iq (ay X own scope C s2 H2 fp pins) ps H' b:=λ{H' ps} hps hn b hb=>by
  obtain⟨f0,f1,f2,f3,f4,f5⟩:=hf b hb;refine⟨hn b hb,(ok'.exf b hb).1,ok'.exfs b hb,.inl hb,(ok'.exf b hb).2,λp hp=>?_⟩;rcases SD.mp hp with z|z
  ·exact f5 p z
  ·rw[hps p z];exact λq=>nD (q▸hb)
 let LI:Nat->WO->Prop:=λn s'=>∃i ys its k H',Inv (ay X own scope C s2 H2 fp pins) [] (List.replicate own.length none++σ) H' s'/\tn i s'.heap/\(∀b∈fp,H' b=none)/\H' D=none /\
  s'.heap.get? D=some {cls:=.type "list",data:=.seq (List.toArray its) k}/\Vals ys its/\W i n ys H'
 have l0:LI m0 {s2 with heap:=h4}:=⟨0,[],[],0,H2,start,T.keep _ _ _ st λb _ o e=>k24 b o e,λb hb=>(hf b hb).1,hne,accD,.nil,w0⟩
 have loop:codeAny (model X.prog X.w) X.A (.compLoop (.ListComp elt [⟨tg,iter,ifs,0⟩] scope pos) 0 (.ref it) (.ref D) (jS scope C X.env)) (RR (.ref D) C) {s2 with heap:=h4}:=by
  refine Bz LI ?_ m0 l0;rintro n s3 ⟨i,ys,its,k,H3,I3,st3,fr3,d3,a3,v3,w3⟩;rcases turn i n ys H3 w3 with⟨stop,hz,qn⟩|⟨go,hz,NN,hNN,step⟩
  ·have I3p:=I3.pinned (fp:=[D]) (λb hb=>(SO.mp hb)▸fpD d3) λb hb=>⟨_,(SO.mp hb)▸a3,λv z=>(by cases z)⟩;refine bH (T.done (ay X own scope C s2 H2 fp pins) rfl rfl rfl hc i _ s3 _ H3 _ I3p (stat (λp hp=>by have q:p∈bW [D] s3.heap:=hp;have:=(eT q).1;simpa using this) fr3) st3 stop) λr s4 ⟨hr,I4⟩=>?_;subst hr;have a4:s4.heap.get? D=_:=(I4.pin (D,_) (Sr _ (Sr _ (aX (by simp) a3)))).1;have u4:Un (vR X.stack) fp H2 H3 s2.heap s4.heap:=I4.base
   have okD:mr X.prog X.w (upd H3 D (.lst ys)) s4.heap:=λb o e=>by
    by_cases hb:b=D
    ·subst hb;rw[bg]at e;cases e;exact⟨hz,its,k,v3,a4⟩
    ·rw[aE hb]at e;exact(I4.hok b o e).sV (λ_ _ _ q=>q) (λc q=>by rw[aE (aI q d3)];exact q) λc xs q=>by rw[aE (aI q d3)];exact q
   have nDo:∀b o,s2.heap.get? b=some o->b≠D:=λb o e=>by rw[<- eD];exact SI (Sv e)
   have uD:Un (vR X.stack) fp H2 (upd H3 D (.lst ys)) s2.heap s4.heap:=⟨u4.keep,u4.slot,λb o e n hx=>by rw[aE (nDo b o e)];exact u4.free b o e n hx,u4.there,
    λb xs e=>by rw[aE (aI e hne)];exact u4.tups b xs e,λb o xs e=>by rw[aE (aI e hne)];exact u4.frzs b o xs e,λb ps e=>by rw[aE (aI e hne)];exact u4.tbls b ps e⟩
   have kp:Kept X fp H2 (upd H3 D (.lst ys)) s2 s4:=⟨I4.os,uD,okD,I4.bare⟩;have I5:Inv X pins σ (upd H3 D (.lst ys)) s4:=kp.inv I hf;obtain⟨m,hn,_⟩:=I4.loc;refine hR D C _ s4 I5 ⟨by rw[aE (show C≠D by omega)];exact I4.free,UH (Sx I.lt hC),I.Bj hC,.inr (Sw I.sz hC),λx c e z=>?_,λp hp z=>?_⟩ ⟨m,hn⟩ (qn D d3) kp
   ·obtain⟨v,q⟩:=I.cell x c e;exact absurd (Sx q.lt (by rw[z];exact hC)) (SQ _)
   ·exact absurd (Sx (Sv (I.pin p hp).1) (by rw[z];exact hC)) (SQ _)
  ·have I3p:=I3.pinned (fp:=[D]) (λb hb=>(SO.mp hb)▸fpD d3) λb hb=>⟨_,(SO.mp hb)▸a3,λv z=>(by cases z)⟩;have onlyD:∀p∈([]++bW [D] s3.heap),p.1=D:=λp hp=>by have q:p∈bW [D] s3.heap:=hp;have:=(eT q).1;simpa using this
   refine bH (T.item (ay X own scope C s2 H2 fp pins) rfl rfl rfl hc i _ s3 _ H3 _ I3p (stat onlyD fr3) st3 go) λr s4 ⟨u,hr,h4'⟩=>?_;subst hr;refine bH h4' λ_ s5 ⟨x,H5,I5,r5,y5,st5,fr5⟩=>?_;have I5p:=I5.pinned (fp:=fp) (stat onlyD fr5) (T.obj _ _ st5)
   have cont:∀{s6:WO} {σ6:St} {H6:Hp},Inv (ay X own scope C s2 H2 fp pins) (([]++bW [D] s3.heap)++bW fp s5.heap) σ6 H6 s6 ->
     Inv (ay X own scope C s2 H2 fp pins) [] (List.replicate own.length none++σ) H6 s6/\tn (i+1) s6.heap/\(∀b∈fp,H6 b=none)/\H6 D=none/\s6.heap.get? D=some {cls:=.type "list",data:=.seq (List.toArray its) k}:=λ{s6 σ6 H6} I6=>by
    have pD:=I6.pin (D,_) (Sr _ (S7 _ (Sr _ (aX (by simp) a3))));refine⟨rebase (I6.iH λp hp=>nomatch hp),T.keep _ _ _ st5 λb hb o e=>(I6.pin (b,o) (Sr _ (Sr _ (aX hb e)))).1,λb hb=>?_,pD.2.1,pD.1⟩;obtain⟨o,e,_⟩:=T.obj _ _ st5 b hb;exact(I6.pin (b,o) (Sr _ (Sr _ (aX hb e)))).2.1
   refine bH (hg C s2 H2 fp pins _ s5 _ H5 x u _ I5p r5 (step x H5 y5)) λ_ s6 ⟨σ6,H6,I6,q6⟩=>?_;refine bH (ht C s2 H2 fp pins _ s6 σ6 H6 _ I6 q6) λb s7 ⟨H7,I7,q7⟩=>?_
   cases b with
   |false=>have q7':NN ys H7:=q7;obtain⟨m',hm,w7⟩:=hNN _ _ q7';obtain⟨c1,c2,c3,c4,c5⟩:=cont I7;exact⟨m',hm,i+1,ys,its,k,H7,c1,c2,c3,c4,c5,v3,w7⟩
   |true=>refine bH (he C s2 H2 fp pins _ s7 σ6 H7 _ I7 q7) λv s8 ⟨y,H8,I8,r8,q8⟩=>?_;obtain⟨m',hm,w8⟩:=hNN _ _ q8;obtain⟨c1,c2,c3,c4,c5⟩:=cont I8;refine wpAny_list_append_plain ⟨k,c5⟩ (λh' hp hs=>?_) (by rw[S5,<- v3.length];exact hz);obtain⟨k',e'⟩:=hp;obtain⟨f0,f1,f2,f3,f4,f5⟩:=fpD c4;refine⟨m',hm,i+1,ys++[y],its++[v],k',H8,c1.turned (t':=s8.toks) (λb o hb e=>(hs.2 b hb).trans e) f0 f1 f3 f4 f5,T.keep _ _ _ c2 λb hb o e=>(hs.2 b λz=>nD (z▸hb)).trans e,c3,c4,?_,v3.append (.cons r8 .nil),w8⟩;show h'.get? D=_;rw[e'];simp
 exact codeAny_compStart_list loop (T.self X.A 0 {s2 with heap:=h4} _ _ (T.keep _ _ _ st λb _ o e=>k24 b o e) loop)
section
variable {X:Cx} {own:WE} {scope:Scope} {elt tg iter:Expr} {ifs:WG} {pos:Pos} {wi:TI} {g:TG} {tc:TT} {te:TE}
noncomputable def CM(n:Nat)(wi:TI)(g:TG)(tc:TT)(te:TE):TE:=λσ H Q=>wi σ H λJ H1=>FK n J g tc te σ H1 Q
theorem kF(CS:cP sc N own scope):∀x∈scope.names,x.2=.local->scope.names.lookup x.1=some .local:=λx hx e=>by rw[CS.uniq x hx,e]
theorem IM(own:WE)(CS:fw X.env.scope X.N own scope=true)(hc:X.calm=true)(hi:PI X tg iter wi)(hg:∀C s2 H2 fp pins,PG (ay X own scope C s2 H2 fp pins) tg g)
 (ht:∀C s2 H2 fp pins,Es (ay X own scope C s2 H2 fp pins) ifs tc)(he:∀C s2 H2 fp pins,PE (ay X own scope C s2 H2 fp pins) elt te)(hs:∀x,foldedSetIterable iter X.env x=pure x:=by intro _;rfl) :
  PE X (.ListComp elt [⟨tg,iter,ifs,0⟩] scope pos) (CM own.length wi g tc te):=by
 intro pins s σ H Q I h;have CS:=cP.of CS;refine UU rfl hs (gO λn hn=>I.ok.has n (CS.frees n hn)) CS.kind (kF CS) (bH (hi pins s σ H _ I h) λv s1 h1=>bH h1 λitv s2 h2=>?_);obtain⟨it,fp,tn,J,H2,e,I2,T,st2,f2,hW⟩:=h2;subst e;refine tX I2 CS hc T st2 f2 hg ht he hW λD C H' s' I' fC ⟨m,hn⟩ q _=>?_;refine⟨m,hn,λh' hs'=>⟨.ref D,H',?_,rfl,q⟩⟩;obtain⟨f0,f1,_,f3,f4,f5⟩:=fC;exact I'.turned (λb o hb e=>(hs'.2 b hb).trans e) f0 f1 f3 f4 f5
theorem IP(own:WE){pos' spos:Pos}(hN:X.N.Nodup)(hxi:X.N[i]?=some x)(hx:X.env.scope.names.lookup x=some .local)(CS:fw X.env.scope X.N own scope=true)(hc:X.calm=true)(hi:PI X tg iter wi)(hg:∀C s2 H2 fp pins,PG (ay X own scope C s2 H2 fp pins) tg g)
 (ht:∀C s2 H2 fp pins,Es (ay X own scope C s2 H2 fp pins) ifs tc)(he:∀C s2 H2 fp pins,PE (ay X own scope C s2 H2 fp pins) elt te)(hs:∀x,foldedSetIterable iter X.env x=pure x:=by intro _;rfl)
 (hsw:swapsWith (.ListComp elt [⟨tg,iter,ifs,0⟩] scope pos) (some (.Name x pos')) spos.line X.env=pure true:=by rfl) :
  PS X (.Assign [.Name x pos'] (.ListComp elt [⟨tg,iter,ifs,0⟩] scope pos) spos) (Ed (CM own.length wi g tc te) (aq i)):=by
 intro pins s σ H D I h;have CS:=cP.of CS;rw[exec_Assign_Name_used _ _ _ _ hsw];refine Sm (Uq (Sm ?_));show wpAny _ X.A (do let _ <- comprehension (.ListComp elt [⟨tg,iter,ifs,0⟩] scope pos) scope X.env _ (newList []) false (eval iter X.env) (some (assign (.Name x pos') X.env))) _ _ s
 refine Sm (bH (UU (use:=some (assign (.Name x pos') X.env)) (Q:=λ_ s'=>SP X pins D .next s') (g:=⟨tg,iter,ifs,0⟩) rfl hs (gO λn hn=>I.ok.has n (CS.frees n hn)) CS.kind (kF CS)
  (bH (hi pins s σ H _ I h) λv s1 h1=>bH h1 λitv s2 h2=>?_)) λ_ s' hq=>Sn (Sn hq))
 obtain⟨it,fp,tn,J,H2,e,I2,T,st2,f2,hW⟩:=h2;subst e;refine tX (Q:=λx H1=>aq i x σ H1 D.nx) (RR:=λacc C=>compPost (model X.prog X.w) X.A X.xe (some (assign (.Name x pos') X.env)) (λ_ s'=>SP X pins D .next s') acc C) I2 CS hc T st2 f2 hg ht he hW λDl C H' s' I' fC ⟨m,hn⟩ q _=>?_;show wpAny _ _ (assign (.Name x pos') X.env (.ref Dl)) _ _ s';refine wpAny_assign_Name (qC (v:=.ref Dl) I' hN hxi (.inl hx) rfl (λs'' I'' hsb=>?_) (.inr hx));obtain⟨f0,f1,f2',f3,f4,f5⟩:=fC;obtain⟨a,sb,ha⟩:=hsb
 have hCa:C≠a:=by
  rcases ha with e|e
  ·rw[e];exact f1
  ·exact(f4 x a e).symm
 refine⟨m,hn.sameBut sb hCa,λh' hs'=>⟨_,H',?_,q⟩⟩;exact I''.turned (t':=s''.toks) (λb o hb e=>(hs'.2 b hb).trans e) f0 f1 f3 f4 f5
end
structure Nx(P:WL)(w:World)(i l:Addr)(st:Nat->Heap->Prop)(xs:WC):Prop where
 obj:∀k h,st k h->∃o vs,h.get? i=some o/\o.data=.fields vs
 keep:∀k h h',st k h->(∀o,h.get? i=some o->h'.get? i=some o)->(∀o,h.get? l=some o->h'.get? l=some o)->st k h'
 item:∀(A:WN) k (s:WO) x (Q:Wv) (E:Wv),st k s.heap->xs[k]?=some x->(∀h',st (k+1) h'->Heap.SameBut i s.heap h'->Q x {s with heap:=h'}) ->
  wpAny (model P w) A (Builtin.SmallTypes.nextOf (.ref i)) Q E s
 done:∀(A:WN) k (s:WO) (Q:Wv) (E:Wv),A.handled=none->st k s.heap->xs[k]?=none ->
  (∀h' e,Heap.ExtBut i s.heap h'->(∃o,h'.get? e=some o/\o.cls=.type "StopIteration")->E (.ref e) {s with heap:=h'})->wpAny (model P w) A (Builtin.SmallTypes.nextOf (.ref i)) Q E s
section
variable {P:WL} {w:World} {A:WN} {E:Wv} {s:WO}
theorem zG{h:Heap}(a:h.IsTupleIter i l k)(b:h.IsTuple l its):i≠l:=λe=>by
 obtain⟨o,h1,c1,_⟩:=a;obtain⟨o',h2,c2,_⟩:=b
 grind
theorem BA(a:s.heap.IsTupleIter it t k)(b:s.heap.IsTuple t its)(hx:its[k]?=some x)
 (q:∀h',h'.IsTupleIter it t (k+1)->Heap.SameBut it s.heap h'->Q x {s with heap:=h'}):wpAny (model P w) A (Builtin.SmallTypes.nextOf (.ref it)) Q E s:=by
 obtain⟨oi,gi,ci,di⟩:=id a;obtain⟨ot,gt,_,nt,dt⟩:=b;unfold Builtin.SmallTypes.nextOf;refine Sm (Ti (name:=Str.ofString "__next__") a.typeIs UD (Te UD a.typeIs F.entry_tuple_iterator_next ?_ (F.args_tuple_iterator_next_1 _)));show wpAny _ _ (field (Value.ref it) 0 >>= _) _ _ s;refine Sm (Ud (x:=Value.ref t) gi di rfl ?_);rw[if_neg (show ¬ (Value.ref t==Value.none)=true from Tc)];show wpAny _ _ (field (Value.ref it) 1 >>= _) _ _ s;refine Sm (Ud (x:=Value.int k 0) gi di rfl ?_);show wpAny _ _ (seqItems? (Value.ref t) >>= _) _ _ s;refine Sm (TY gt dt ?_);simp only[hx,Uz];refine Sm (wpAny_setField gi di (by simp) (Sn ⟨x,rfl,Sn (q _ ⟨_,Ur _ gi (Obj.isFreed_of_fields (Obj.data_mapFields di _)),(Obj.cls_mapFields ..).trans ci,?_⟩ (Vs ..))⟩));rw[Obj.data_mapFields di];simp[rawInt]
theorem tY(hh:A.handled=none)(a:s.heap.IsTupleIter it t k)(b:s.heap.IsTuple t its)(hx:its[k]?=none)
 (q:∀h' e,Heap.ExtBut it s.heap h'->(∃o,h'.get? e=some o/\o.cls=.type "StopIteration")->E (.ref e) {s with heap:=h'}):wpAny (model P w) A (Builtin.SmallTypes.nextOf (.ref it)) Q E s:=by
 obtain⟨oi,gi,ci,di⟩:=id a;obtain⟨ot,gt,_,nt,dt⟩:=b;unfold Builtin.SmallTypes.nextOf;refine Sm (Ti (name:=Str.ofString "__next__") a.typeIs UD (Te UD a.typeIs F.entry_tuple_iterator_next ?_ (F.args_tuple_iterator_next_1 _)));show wpAny _ _ (field (Value.ref it) 0 >>= _) _ _ s;refine Sm (Ud (x:=Value.ref t) gi di rfl ?_);rw[if_neg (show ¬ (Value.ref t==Value.none)=true from Tc)];show wpAny _ _ (field (Value.ref it) 1 >>= _) _ _ s;refine Sm (Ud (x:=Value.int k 0) gi di rfl ?_);show wpAny _ _ (seqItems? (Value.ref t) >>= _) _ _ s;refine Sm (TY gt dt ?_);simp only[hx,Uz];refine Sm (UA (Sm (wpAny_setField gi di (by simp) ?_)));show wpAny _ _ (newExc (Value.type "StopIteration") [] >>= _) _ _ _;refine Sm ?_;simp only[newTuple,newExc];refine Sm (To ?_ (by size_fits));refine Sm (m:=firstArgMember _ _) (U6 (a:=Value.none) (by first|rfl | (unfold firstArgMember;rfl)) ?_);refine To ?_ (by size_fits);unfold raiseNew;refine Sm (wpAny_handled ?_);rw[show A.in1.handled=none from hh];exact Sm (Sn (wpAny_throw (q _ _ (((Vs ..).extBut.push _).push _) ⟨_,Sy _ rfl,rfl⟩)))
theorem yf(i l:Addr)(xs:WC):Nx P w i l (λk h=>h.IsTupleIter i l k/\h.IsTuple l xs.toArray) xs where
 obj:=λk h ⟨⟨o,a,_,c⟩,_⟩=>⟨o,_,a,c⟩
 keep:=λk h h' ⟨a,b⟩ k1 k2=>⟨a.at k1,let ⟨o,e,r⟩:=b;⟨o,k2 o e,r⟩⟩
 item:=λA k s x Q E ⟨a,b⟩ hx q=>BA a b (by simp_all) λh' a' sb=>q h' ⟨a',let ⟨o,e,r⟩:=b;⟨o,(sb.2 l (zG a b).symm).trans e,r⟩⟩ sb
 done:=λA k s Q E hh ⟨a,b⟩ hx q=>tY hh a b (by simp_all) q
structure ZA(z TI TO i1 i2 l1 l2:Addr):Prop where
 a1:TI≠z
 a2:TO≠z
 a3:i1≠z
 a4:i2≠z
 a5:TI≠TO
 a6:TI≠i1
 a7:TI≠i2
 a8:TO≠i1
 a9:TO≠i2
 b1:i1≠i2
 b2:l1≠z
 b3:l1≠TO
 b4:l1≠i2
 b5:l2≠z
 b6:l2≠TO
 b7:l2≠i1
variable {st1 st2:Nat->Heap->Prop} {xs ys:WC} {z TI TO i1 i2 l1 l2:Addr} {k:Nat} {a b:Value}
theorem aM(sb:Heap.SameBut c h h')(ne:d≠c)(e:h.get? d=some o):h'.get? d=some o:=(sb.2 d ne).trans e
theorem FN(D:ZA z TI TO i1 i2 l1 l2)(N1:Nx P w i1 l1 st1 xs)(N2:Nx P w i2 l2 st2 ys){Q:Wv}(hz:IsZip s.heap z TI TO .none)(hI:IsPair s.heap TI (.ref i1) (.ref i2))(hO:IsPair s.heap TO a b)
 (s1:st1 k s.heap)(s2:st2 k s.heap)(hx:xs[k]?=some x)(hy:ys[k]?=some y)
 (q:∀h',IsZip h' z TI TO (rawInt s.heap.objs.size)->IsPair h' TO x y->st1 (k+1) h'->st2 (k+1) h'->IsPair h' s.heap.objs.size x y ->
   (∀c o,c≠z->c≠TO->c≠i1->c≠i2->s.heap.get? c=some o->h'.get? c=some o)->Q (.ref s.heap.objs.size) {s with heap:=h'}) :
  wpAny (model P w) A (Builtin.«zip.__next__» ⟨[.ref z],[]⟩) (λfin s'=>∃v,fin=.done (.ret v)/\Q v s') E s:=by
 show wpAny _ _ (field (Value.ref z) 2 >>= _) _ _ _;refine Sm (Ud (x:=Value.bool false) hz rfl rfl ?_);show wpAny _ _ (field (Value.ref z) 3 >>= _) _ _ _;refine Sm (Ud (x:=Value.ref TI) hz rfl rfl ?_);refine Sm (TY hI rfl ?_);show wpAny _ _ (Builtin.SmallTypes.ownedTupleIsFree (Value.ref z) >>= _) _ _ _;refine Sm ?_;unfold Builtin.SmallTypes.ownedTupleIsFree;refine Sm (Ud (x:=Value.none) hz rfl rfl (Sn ?_));simp only[Tg];refine Sm (UA (Sm (Ud (x:=Value.ref TO) hz rfl rfl ?_)));refine Sm (UI hz (by simp) λg1 z1 e1=>?_);have z1:IsZip g1 z TI TO .ellipsis:=z1;refine Sm ?_;simp only[List.zipIdx_nil,List.zipIdx_cons,Va,Ue];refine Sm (Sm (wpAny_onRaise ?_));show wpAny _ _ (Builtin.SmallTypes.nextOf (Value.ref i1) >>= _) _ _ _;refine Sm (N1.item _ k _ x _ _ (N1.keep _ _ _ s1 (λo=>aM e1 D.a3) λo=>aM e1 D.b2) hx λg2 t1 e2=>Sn ?_);have O2:IsPair g2 TO a b:=aM e2 D.a8 (aM e1 D.a2 hO);refine Sm (TY O2 rfl (Sm (VZ O2 λg3 O3 e3=>?_)));have O3:IsPair g3 TO x b:=O3;refine Sm (wpAny_letGo (Sn (Sm (Sm (wpAny_onRaise ?_)))));show wpAny _ _ (Builtin.SmallTypes.nextOf (Value.ref i2) >>= _) _ _ _;refine Sm (N2.item _ k _ y _ _ (N2.keep _ _ _ s2 (λo e=>aM e3 D.a9.symm (aM e2 D.b1.symm (aM e1 D.a4 e))) λo e=>aM e3 D.b6 (aM e2 D.b7 (aM e1 D.b5 e))) hy λg4 t2 e4=>Sn ?_);have O4:IsPair g4 TO x b:=aM e4 D.a9 O3;refine Sm (TY O4 rfl (Sm (VZ O4 λg5 O5 e5=>?_)));have O5:IsPair g5 TO x y:=O5;refine Sm (wpAny_letGo (Sn (Sn (Sm (TY O5 rfl (Sm (wpAny_newTuple ?_)))))));have sz:g5.objs.size=s.heap.objs.size:=by rw[e5.1,e4.1,e3.1,e2.1,e1.1]
 have z5:IsZip g5 z TI TO .ellipsis:=aM e5 D.a2.symm (aM e4 D.a4.symm (aM e3 D.a2.symm (aM e2 D.a3.symm z1)));have zlt:z<g5.objs.size:=Sv z5;have u1:st1 (k+1) g5:=N1.keep _ _ _ t1 (λo e=>aM e5 D.a8.symm (aM e4 D.b1 (aM e3 D.a8.symm e))) λo e=>aM e5 D.b3 (aM e4 D.b4 (aM e3 D.b3 e));have u2:st2 (k+1) g5:=N2.keep _ _ _ t2 (λo e=>aM e5 D.a9.symm e) λo e=>aM e5 D.b6 e;show wpAny _ _ (Builtin.SmallTypes.ownedTupleHandOut (Value.ref z) (.ref g5.objs.size) >>= _) _ _ _;refine Sm ?_;unfold Builtin.SmallTypes.ownedTupleHandOut;have z6:IsZip (g5.push {cls:=.type "tuple",data:=.seq #[x,y]}) z TI TO .ellipsis:=So _ z5;refine Sm (UI z6 (by simp) λg7 z7 e7=>?_);have z7:IsZip g7 z TI TO (rawInt g5.objs.size):=z7;refine UI z7 (by simp) λg8 z8 e8=>?_;have z8:IsZip g8 z TI TO (rawInt g5.objs.size):=z8;have up:∀c o,c≠z->g5.get? c=some o->g8.get? c=some o:=λc o n e=>aM e8 n (aM e7 n (So _ e));have nw:IsPair g8 g5.objs.size x y:=aM e8 (UH zlt) (aM e7 (UH zlt) (Sy _ rfl));rw[sz]at z8 nw;refine Sn ⟨_,rfl,?_⟩;show Q (.ref g5.objs.size) _;rw[sz]
 exact q g8 z8 (up _ _ D.a2 O5) (N1.keep _ _ _ u1 (λo=>up _ o D.a3) λo=>up _ o D.b2) (N2.keep _ _ _ u2 (λo=>up _ o D.a4) λo=>up _ o D.b5) nw λc o n1 n2 n3 n4 e=>
  up c o n1 (aM e5 n2 (aM e4 n4 (aM e3 n2 (aM e2 n3 (aM e1 n1 e)))))
theorem IQ(hh:A.handled=none)(D:ZA z TI TO i1 i2 l1 l2)(N1:Nx P w i1 l1 st1 xs)(N2:Nx P w i2 l2 st2 ys)(hz:IsZip s.heap z TI TO .none)(hI:IsPair s.heap TI (.ref i1) (.ref i2))(hO:IsPair s.heap TO a b)
 (s1:st1 k s.heap)(s2:st2 k s.heap)(hend:xs[k]?=none\/ys[k]?=none)
 (q:∀h' e,(∀c o,c≠z->c≠TO->c≠i1->c≠i2->s.heap.get? c=some o->h'.get? c=some o)->(∃o,h'.get? e=some o/\o.cls=.type "StopIteration")->E (.ref e) {s with heap:=h'}) :
  wpAny (model P w) A (Builtin.«zip.__next__» ⟨[.ref z],[]⟩) Q E s:=by
 show wpAny _ _ (field (Value.ref z) 2 >>= _) _ _ _;refine Sm (Ud (x:=Value.bool false) hz rfl rfl ?_);show wpAny _ _ (field (Value.ref z) 3 >>= _) _ _ _;refine Sm (Ud (x:=Value.ref TI) hz rfl rfl ?_);refine Sm (TY hI rfl ?_);show wpAny _ _ (Builtin.SmallTypes.ownedTupleIsFree (Value.ref z) >>= _) _ _ _;refine Sm ?_;unfold Builtin.SmallTypes.ownedTupleIsFree;refine Sm (Ud (x:=Value.none) hz rfl rfl (Sn ?_));simp only[Tg];refine Sm (UA (Sm (Ud (x:=Value.ref TO) hz rfl rfl ?_)));refine Sm (UI hz (by simp) λg1 z1 e1=>?_);have z1:IsZip g1 z TI TO .ellipsis:=z1;refine Sm ?_;simp only[List.zipIdx_nil,List.zipIdx_cons,Va,Ue];refine Sm (Sm (wpAny_onRaise ?_));show wpAny _ _ (Builtin.SmallTypes.nextOf (Value.ref i1) >>= _) _ _ _;have t1:st1 k g1:=N1.keep _ _ _ s1 (λo=>aM e1 D.a3) λo=>aM e1 D.b2
 cases hx:xs[k]? with
 |none=>
  refine Sm (N1.done _ k _ _ _ hh t1 hx λg2 e e2 ⟨oe,he,ce⟩=>?_);have z2:IsZip g2 z TI TO .ellipsis:=e2 _ _ D.a3.symm z1;have ne:e≠z:=λr=>by rw[r,z2]at he;cases he;exact absurd (show Value.type "zip" = Value.type "StopIteration" from ce) (by decide)
  exact UI z2 (by simp) λg3 _ e3=>q g3 e (λc o n1 _ n3 _ r=>aM e3 n1 (e2 _ _ n3 (aM e1 n1 r))) ⟨oe,aM e3 ne he,ce⟩
 |some x=>
  have hy:ys[k]?=none:=by
   rcases hend with r|r
   ·rw[hx]at r;cases r
   ·exact r
  refine Sm (N1.item _ k _ x _ _ t1 hx λg2 t1 e2=>Sn ?_);have O2:IsPair g2 TO a b:=aM e2 D.a8 (aM e1 D.a2 hO);refine Sm (TY O2 rfl (Sm (VZ O2 λg3 O3 e3=>?_)));refine Sm (wpAny_letGo (Sn (Sm (Sm (wpAny_onRaise ?_)))));show wpAny _ _ (Builtin.SmallTypes.nextOf (Value.ref i2) >>= _) _ _ _;refine Sm (N2.done _ k _ _ _ hh (N2.keep _ _ _ s2 (λo e=>aM e3 D.a9.symm (aM e2 D.b1.symm (aM e1 D.a4 e))) λo e=>aM e3 D.b6 (aM e2 D.b7 (aM e1 D.b5 e))) hy λg4 e e4 ⟨oe,he,ce⟩=>?_);have z4:IsZip g4 z TI TO .ellipsis:=e4 _ _ D.a4.symm (aM e3 D.a2.symm (aM e2 D.a3.symm z1));have ne:e≠z:=λr=>by rw[r,z4]at he;cases he;exact absurd (show Value.type "zip" = Value.type "StopIteration" from ce) (by decide)
  exact UI z4 (by simp) λg5 _ e5=>q g5 e (λc o n1 n2 n3 n4 r=>aM e5 n1 (e4 _ _ n4 (aM e3 n2 (aM e2 n3 (aM e1 n1 r))))) ⟨oe,aM e5 ne he,ce⟩
end
section
variable {P:WL} {w:World} {A:WN} {E:Wv} {s:WO}
structure Om(h h':Heap)(l1 l2:Addr):Prop where
 z:IsZip h' (h.objs.size+4) (h.objs.size+2) (h.objs.size+3) .none
 ti:IsPair h' (h.objs.size+2) (.ref h.objs.size) (.ref (h.objs.size+1))
 to:IsPair h' (h.objs.size+3) .none .none
 i1:h'.IsTupleIter h.objs.size l1 0
 i2:h'.IsTupleIter (h.objs.size+1) l2 0
 sz:h'.objs.size=h.objs.size+5
 keep:∀c o,h.get? c=some o->h'.get? c=some o
noncomputable abbrev qG(h:Heap)(u:Addr):Heap:=h.push {cls:=.type "tuple_iterator",data:=.fields #[.ref u,.int 0 0]}
noncomputable abbrev Mc(h:Heap)(a b:Addr):Heap:=h.push {cls:=.type "tuple",data:=.seq #[.ref a,.ref b]}
noncomputable abbrev Oo(h:Heap):Heap:=h.push {cls:=.type "tuple",data:=.seq #[.none,.none]}
noncomputable abbrev R6(h:Heap)(a b:Addr):Heap:=h.push {cls:=.type "zip",data:=.fields #[.none,.bool false,.bool false,.ref a,.ref b]}
noncomputable abbrev BB(h:Heap)(l1 l2:Addr):Heap:=R6 (Oo (Mc (qG (qG h l1) l2) h.objs.size (qG h l1).objs.size)) (qG (qG h l1) l2).objs.size (Mc (qG (qG h l1) l2) h.objs.size (qG h l1).objs.size).objs.size
theorem FO(h:Heap)(l1 l2:Addr):Om h (BB h l1 l2) l1 l2:=by
 have e1:(qG h l1).objs.size=h.objs.size+1:=Tj ..;have e2:(qG (qG h l1) l2).objs.size=h.objs.size+2:=by simp_all
 have e3:(Mc (qG (qG h l1) l2) h.objs.size (qG h l1).objs.size).objs.size=h.objs.size+3:=by simp_all
 have e4:(Oo (Mc (qG (qG h l1) l2) h.objs.size (qG h l1).objs.size)).objs.size=h.objs.size+4:=by simp_all
 have p5:(BB h l1 l2).get? (Oo _).objs.size=some _:=Sy _ rfl;have p4:(BB h l1 l2).get? (Mc _ h.objs.size (qG h l1).objs.size).objs.size=some _:=So _ (Sy _ rfl);have p3:(BB h l1 l2).get? (qG (qG h l1) l2).objs.size=some _:=So _ (So _ (Sy _ rfl));have p2:(BB h l1 l2).get? (qG h l1).objs.size=some _:=So _ (So _ (So _ (Sy _ rfl)));have p1:(BB h l1 l2).get? h.objs.size=some _:=So _ (So _ (So _ (So _ (Sy _ rfl))));rw[e2,e3,e4]at p5;rw[e3]at p4;rw[e2,e1]at p3;rw[e1]at p2;exact⟨p5,p3,p4,⟨_,p1,rfl,rfl⟩,⟨_,p2,rfl,rfl⟩,by simp_all,λc o e=>So _ (So _ (So _ (So _ (So _ e))))⟩
theorem zH(l1 l2:Addr)(xs ys:WJ) :
  Meets (Builtin.«zip.__new__» ⟨[.type "zip",.ref l1,.ref l2],[]⟩) (λ_ R s=>s.heap.IsTuple l1 xs/\s.heap.IsTuple l2 ys/\R (.ok (.ret (.ref (Oo (Mc (qG (qG s.heap l1) l2) s.heap.objs.size (qG s.heap l1).objs.size)).objs.size))) {s with heap:=BB s.heap l1 l2}):=
 .of_wp λprog w A R s h=>by
  obtain⟨hp,g,d,tk,os⟩:=s;obtain⟨t1,t2,h⟩:=h;have hsub:=sub_zip;have T1:Heap.IsTuple (Shared.heap ⟨hp,g,d,tk,os⟩) l1 xs:=t1;have T2:Heap.IsTuple (Shared.heap ⟨hp.push {cls:=.type "tuple_iterator",data:=.fields #[.ref l1,.int 0 0]},g,d,tk,os⟩) l2 ys:=Heap.IsTuple.push t2 _
  wp_walk using VE T1,VE T2
  exact⟨_,rfl,h⟩
theorem yg(t1:s.heap.IsTuple l1 xs)(t2:s.heap.IsTuple l2 ys)(q:∀h',Om s.heap h' l1 l2->Q (.ref (s.heap.objs.size+4)) {s with heap:=h'}) :
  wpAny (model P w) A (call (.type "zip") [.ref l1,.ref l2]) Q E s:=by
 refine callType_new F.called_zip (by decide) (F.typeCall_zip_2 _ _) (F.newCall_zip_2 _ _) (λobj=>F.args_object_init_3 obj _ _) F.entry_zip_new (zH l1 l2 xs ys) ⟨t1,t2,?_⟩;have n:=FO s.heap l1 l2
 have e4:(Oo (Mc (qG (qG s.heap l1) l2) s.heap.objs.size (qG s.heap l1).objs.size)).objs.size=s.heap.objs.size+4:=by
  simp_all
 show _/\_;rw[e4];exact⟨⟨_,n.z,rfl⟩,q _ n⟩
theorem vZ{z TI TO i1 i2 l1 l2:Addr}{xs ys:WC}(D:ZA z TI TO i1 i2 l1 l2)(hz:IsZip s.heap z TI TO .none)(hI:IsPair s.heap TI (.ref i1) (.ref i2))(hO:IsPair s.heap TO a b)
 (t1:s.heap.IsTupleIter i1 l1 k)(t2:s.heap.IsTupleIter i2 l2 k)(h1:s.heap.IsTuple l1 xs.toArray)(h2:s.heap.IsTuple l2 ys.toArray)(hx:xs[k]?=some x)(hy:ys[k]?=some y)
 (q:∀h',IsZip h' z TI TO (rawInt s.heap.objs.size)->IsPair h' TO x y->h'.IsTupleIter i1 l1 (k+1)->h'.IsTupleIter i2 l2 (k+1)->IsPair h' s.heap.objs.size x y ->
   (∀c o,c≠z->c≠TO->c≠i1->c≠i2->s.heap.get? c=some o->h'.get? c=some o)->Q (some (.ref s.heap.objs.size)) {s with heap:=h'}):wpAny (model P w) A (pyNext (.ref z)) Q E s:=by
 have hT:s.TypeIs (.ref z) "zip" := ⟨_,hz,rfl⟩;refine Sm (VI (Ti hT V5 (Te V5 hT F.entry_zip_next ?_ (F.args_zip_next_1 _))));exact FN D (yf i1 l1 xs) (yf i2 l2 ys) hz hI hO ⟨t1,h1⟩ ⟨t2,h2⟩ hx hy λh' a1 a2 a3 a4 a5 a6=>Sn (q h' a1 a2 a3.1 a4.1 a5 a6)
theorem yh{z TI TO i1 i2 l1 l2:Addr}{xs ys:WC}(hh:A.handled=none)(D:ZA z TI TO i1 i2 l1 l2)(hz:IsZip s.heap z TI TO .none)(hI:IsPair s.heap TI (.ref i1) (.ref i2))(hO:IsPair s.heap TO a b)
 (t1:s.heap.IsTupleIter i1 l1 k)(t2:s.heap.IsTupleIter i2 l2 k)(h1:s.heap.IsTuple l1 xs.toArray)(h2:s.heap.IsTuple l2 ys.toArray)(hend:xs[k]?=none\/ys[k]?=none)
 (q:∀h',(∀c o,c≠z->c≠TO->c≠i1->c≠i2->s.heap.get? c=some o->h'.get? c=some o)->Q none {s with heap:=h'}):wpAny (model P w) A (pyNext (.ref z)) Q E s:=by
 have hT:s.TypeIs (.ref z) "zip" := ⟨_,hz,rfl⟩;refine Sm (VI (Ti hT V5 (Te V5 hT F.entry_zip_next ?_ (F.args_zip_next_1 _))));refine IQ (A:=A.in1) hh D (yf i1 l1 xs) (yf i2 l2 ys) hz hI hO ⟨t1,h1⟩ ⟨t2,h2⟩ hend λh' e hk ⟨o,ho,hc⟩=>?_;exact Sm (U9 ⟨o,ho,hc⟩ isSubtype_stop (Sn (q _ hk)))
end
noncomputable def RB(K:WD)(a1 a2:Addr):It:=
 ⟨λi H=>∃xs ys x y,ip K H a1 xs/\ip K H a2 ys/\xs[i]?=some x/\ys[i]?=some y,
  λi H v H'=>∃p x y,v=.ref p/\H p=none/\H'=upd H p (.tup [x,y])/\(∀xs,ip K H a1 xs->xs[i]?=some x)/\∀ys,ip K H a2 ys->ys[i]?=some y,
  λi H=>∃xs ys,ip K H a1 xs/\ip K H a2 ys/\(xs.length<=i\/ys.length<=i)⟩
theorem FP{K:WD}(a1 a2 z TI TO i1 i2:Addr)(D:ZA z TI TO i1 i2 a1 a2):Turn P w K (.Tuple es kk tpos) (RB K a1 a2) [z,TI,TO,i1,i2] z
  (λk h=>IsZip h z TI TO .none/\IsPair h TI (.ref i1) (.ref i2)/\(∃a b,IsPair h TO a b)/\h.IsTupleIter i1 a1 k/\h.IsTupleIter i2 a2 k) where
 mem:=SK
 obj:=λk h st b hb=>by
  obtain⟨hz,hI,⟨a,c,hO⟩,⟨o1,e1,_,d1⟩,⟨o2,e2,_,d2⟩⟩:=st
  grind
 keep:=λk h h' st kp=>by obtain⟨hz,hI,⟨a,c,hO⟩,t1,t2⟩:=st;exact⟨kp z (by simp) _ hz,kp TI (by simp) _ hI,⟨a,c,kp TO (by simp) _ hO⟩,t1.at (kp i1 (by simp)),t2.at (kp i2 (by simp))⟩
 item:=by
  intro X hP hw hK hc i pins s σ H E I hf st hg;subst hP hw hK;obtain⟨xs,ys,x,y,q1,q2,hx,hy⟩:=hg;obtain⟨its1,r1,p1,_⟩:=I.tuple q1;obtain⟨its2,r2,p2,_⟩:=I.tuple q2;obtain⟨u1,hu1,ru1⟩:=r1.get hx;obtain⟨u2,hu2,ru2⟩:=r2.get hy;obtain⟨hz,hI,⟨a,c,hO⟩,t1,t2⟩:=st;refine vZ D hz hI hO t1 t2 (show s.heap.IsTuple a1 its1.toArray from p1) (show s.heap.IsTuple a2 its2.toArray from p2) hu1 hu2 λh' z' o' t1' t2' nw kp=>?_;refine⟨_,rfl,wpAny_letOwnedTupleGo_zip z' λh2 z2 sb=>?_⟩;have lt:∀{b:Addr} {o:Obj},s.heap.get? b=some o->b≠s.heap.objs.size:=λe=>SI (Sv e);have nz:s.heap.objs.size≠z:=(lt hz).symm;have hf0:H s.heap.objs.size=none:=I.hok.fresh (Ss _);have hI2:IsPair h2 TI (.ref i1) (.ref i2):=aM sb D.a1 (kp _ _ D.a1 D.a5 D.a6 D.a7 hI);have kall:∀b o,b∉[z,TI,TO,i1,i2]->s.heap.get? b=some o->h2.get? b=some o:=λb o hb e=>by simp only[Sz,Tb,UC,not_or]at hb;exact aM sb hb.1 (kp b o hb.1 hb.2.2.1 hb.2.2.2.1 hb.2.2.2.2 e)
  have Fi:∀{b:Addr} {u:HO},H b=some u->b∉[z,TI,TO,i1,i2]:=λ{b u} e hb=>by rw[(hf b hb).1]at e;cases e
  have there:∀b o,s.heap.get? b=some o->∃o',h2.get? b=some o':=λb o e=>by
   by_cases hb:b∈[z,TI,TO,i1,i2]
   ·simp only[Sz,Tb,UC]at hb;rcases hb with rfl|rfl|rfl|rfl|rfl
    ·exact⟨_,z2⟩
    ·exact⟨_,hI2⟩
    ·exact⟨_,aM sb D.a2 o'⟩
    ·obtain⟨_,e1,_⟩:=t1';exact⟨_,aM sb D.a3 e1⟩
    ·obtain⟨_,e1,_⟩:=t2';exact⟨_,aM sb D.a4 e1⟩
   ·exact⟨o,kall b o hb e⟩
  have hokN:mr X.prog X.w (upd H s.heap.objs.size (.tup [x,y])) h2:=λb u e=>by
   by_cases hb:b=s.heap.objs.size
   ·subst hb;rw[bg]at e;cases e;exact⟨by show 2<=sizeLine;decide,[u1,u2],.cons ru1 (.cons ru2 .nil),⟨_,aM sb nz nw,rfl,_,rfl⟩⟩
   ·rw[aE hb]at e;refine(I.hok b u e).sV (λd v hd r=>kall d v ?_ r) (λd r=>by rw[aE (aI r hf0)];exact r) λd vs r=>by rw[aE (aI r hf0)];exact r
    rcases hd with rfl|hd
    ·exact Fi e
    ·exact Fi hd
  have I2:Inv X pins σ (upd H s.heap.objs.size (.tup [x,y])) {s with heap:=h2}:=by
   refine I.step (g':=s.gens) (d':=s.drawn) (t':=s.toks) (ch:=[z,TI,TO,i1,i2]) (λb hb=>⟨(hf b hb).2.2.2.1,(hf b hb).2.1,(hf b hb).2.2.2.2.1,(hf b hb).2.2.2.2.2⟩) (λb o _ _ hb e _=>kall b o hb e) (λb o _ _ hb e _=>⟨o.slots,kall b o hb e⟩)
    (λb o _ e n=>by rw[aE (lt e)];exact n) (λb o _ e=>there b o e) (λb vs e=>by rw[aE (aI e hf0)];exact e) (λb o v e=>by rw[aE (aI e hf0)];exact e) (λb ps e=>⟨#[],by rw[aE (aI e hf0),e];simp⟩) (λm hm=>?_) hokN I.bare
   obtain⟨o,es',ep,e,r⟩:=hm;exact⟨o,es',ep,kall _ o (λhb=>(hf _ hb).2.1 rfl) e,r⟩
  refine⟨.ref s.heap.objs.size,_,I2,rfl,⟨_,x,y,rfl,hf0,rfl,λvs h=>by rw[I.qF h q1];exact hx,λvs h=>by rw[I.qF h q2];exact hy⟩,⟨z2,hI2,⟨_,_,aM sb D.a2 o'⟩,t1'.at λo e=>aM sb D.a3 e,t2'.at λo e=>aM sb D.a4 e⟩,λb hb=>?_⟩;have hb':=(hf b hb).1;by_cases e:b=s.heap.objs.size
  ·exfalso;simp only[Sz,Tb,UC]at hb;rcases hb with r|r|r|r|r
   ·exact lt hz (r▸e)
   ·exact lt hI (r▸e)
   ·exact lt hO (r▸e)
   ·obtain⟨_,e1,_⟩:=t1;exact lt e1 (r▸e)
   ·obtain⟨_,e1,_⟩:=t2;exact lt e1 (r▸e)
  ·rw[aE e];exact hb'
 done:=by
  intro X hP hw hK hc i pins s σ H E I hf st hg;subst hP hw hK;obtain⟨xs,ys,q1,q2,hl⟩:=hg;obtain⟨its1,r1,p1,_⟩:=I.tuple q1;obtain⟨its2,r2,p2,_⟩:=I.tuple q2;obtain⟨hz,hI,⟨a,c,hO⟩,t1,t2⟩:=st;refine yh (I.ok.hd hc) D hz hI hO t1 t2 (show s.heap.IsTuple a1 its1.toArray from p1) (show s.heap.IsTuple a2 its2.toArray from p2) ?_ λh' kp=>⟨rfl,?_⟩
  ·have e1:=r1.length;have e2:=r2.length;rcases hl with r|r
   ·exact .inl (List.getElem?_eq_none_iff.mpr (by omega))
   ·exact .inr (List.getElem?_eq_none_iff.mpr (by omega))
  ·have kall:∀b o,b∉[z,TI,TO,i1,i2]->s.heap.get? b=some o->h'.get? b=some o:=λb o hb e=>by
    simp only[Sz,Tb,UC,not_or]at hb;exact kp b o hb.1 hb.2.2.1 hb.2.2.2.1 hb.2.2.2.2 e
   have Fi:∀{b:Addr} {u:HO},H b=some u->b∉[z,TI,TO,i1,i2]:=λ{b u} e hb=>by rw[(hf b hb).1]at e;cases e
   refine I.step (g':=s.gens) (d':=s.drawn) (t':=s.toks) (ch:=[z,TI,TO,i1,i2]) (λb hb=>⟨(hf b hb).2.2.2.1,(hf b hb).2.1,(hf b hb).2.2.2.2.1,(hf b hb).2.2.2.2.2⟩) (λb o _ _ hb e _=>kall b o hb e) (λb o _ _ hb e _=>⟨o.slots,kall b o hb e⟩)
    (λb o _ e n=>n) (λb o hb e=>⟨o,kall b o hb e⟩) (λb vs e=>e) (λb o v e=>e) (λb ps e=>⟨#[],by rw[e];simp⟩) (λm hm=>?_) (λb u e=>(I.hok b u e).sV (λd v hd r=>kall d v ?_ r) (λ_ r=>r) λ_ _ r=>r) I.bare
   ·obtain⟨o,es',ep,e,r⟩:=hm;exact⟨o,es',ep,kall _ o (λhb=>(hf _ hb).2.1 rfl) e,r⟩
   ·rcases hd with rfl|hd
    ·exact Fi e
    ·exact Fi hd
 self:=λ_ _ _ _ _ st h=>wpAny_pyIter_zip st.1 h
section
variable {X:Cx} {es:WG} {kk:Nat} {tpos:Pos}
theorem QA(a b:Nat)(h:a≠b):@Ne Addr a b:=h
theorem Oq(n a b:Nat)(h1:a<n)(h2:b<n):ZA (n+4) (n+2) (n+3) n (n+1) a b:=by constructor<;>refine QA _ _ ?_<;>omega
noncomputable def QB(K:WD)(ta:TA):TI:=λσ H R=>ta σ H λvs H1=>∃a1 a2 xs ys,vs=[.ref a1,.ref a2]/\ip K H1 a1 xs/\ip K H1 a2 ys/\R (RB K a1 a2) H1
theorem Md{p pos:Pos}(hg:Gl X "zip")(hm:X.mg "zip" = none)(ha:PA X [e1,e2] ta)(hs:starEach [e1,e2] X.env=[(false,eval e1 X.env),(false,eval e2 X.env)]:=by rfl)(hs2:starEach [e2] X.env=[(false,eval e2 X.env)]:=by rfl) :
  PI X (.Tuple es kk tpos) (.Call (.Name "zip" p) [e1,e2] [] pos) (QB X.K ta):=by
 intro pins s σ H R I h;refine Call_ (kE I hg hm (by rfl:bootBuiltins "zip" = some (.type "zip")) (Ub (bH (ha pos pins s σ H _ I h) λus s1 ⟨vs,H1,I1,r1,q1⟩=>?_) (by grind) (by rw[hs2];rfl)));obtain⟨a1,a2,xs,ys,e,t1,t2,q⟩:=q1;subst e
 cases r1 with
 |cons r rr=>
  cases rr with
  |cons r' rr=>
   cases rr;cases r;cases r';obtain⟨its1,v1,p1,_⟩:=I1.tuple t1;obtain⟨its2,v2,p2,_⟩:=I1.tuple t2;have L1:a1<s1.heap.objs.size:=by obtain⟨_,e,_⟩:=p1;exact Sv e
   have L2:a2<s1.heap.objs.size:=by obtain⟨_,e,_⟩:=p2;exact Sv e
   refine yg (show s1.heap.IsTuple a1 its1.toArray from p1) (show s1.heap.IsTuple a2 its2.toArray from p2) λh' N=>?_;refine wpAny_pyIter_zip (s:={s1 with heap:=h'}) N.z ?_;have I2:Inv X pins σ H1 {s1 with heap:=h'}:=I1.kept (t':=s1.toks) N.keep;refine⟨s1.heap.objs.size+4,[s1.heap.objs.size+4,s1.heap.objs.size+2,s1.heap.objs.size+3,s1.heap.objs.size,s1.heap.objs.size+1],_,_,H1,rfl,I2,FP a1 a2 _ _ _ _ _ (Oq _ _ _ L1 L2),⟨N.z,N.ti,⟨_,_,N.to⟩,N.i1,N.i2⟩,λb hb=>?_,q⟩
   have ge:s1.heap.objs.size<=b:=by
    simp only[Sz,Tb,UC]at hb;rcases hb with rfl|rfl|rfl|rfl|rfl
    ·exact VU _ _
    ·exact VU _ _
    ·exact VU _ _
    ·exact Ss _
    ·exact VU _ _
   exact I1.Bl ge (I1.hok.fresh ge)
end
section
variable {κ:Type} [DecidableEq κ]
noncomputable def qH(kvs:List (κ×V))(k:κ):Option V:=(kvs.find? λkv=>decide (kv.1=k)).map (·.2)
noncomputable def putK(kvs:List (κ×V))(k:κ)(v:V):List (κ×V):=
 if(kvs.any λkv=>decide (kv.1=k))=true then kvs.map (λkv=>if kv.1=k then(kv.1,v)else kv)else kvs++[(k,v)]
theorem o6{k:κ}(e:p.1=k):qH (p::r) k=some p.2:=by simp[qH,e]
theorem mD{k:κ}(e:¬ p.1=k):qH (p::r) k=qH r k:=by simp[qH,e]
theorem o7(k:κ):∀kvs:List (κ×V),(kvs.any λkv=>decide (kv.1=k))=(qH kvs k).isSome
 | []=>rfl
 |p::r=>by
  rw[Wl];by_cases e:p.1=k
  ·simp[o6,e]
  ·rw[mD e,Tr e,Bool.false_or];exact o7 k r
theorem jv(kvs:List (κ×V))(k:κ)(v:V):(putK kvs k v).length<=kvs.length+1:=by
 grind[putK,List.length_map,List.length_append,List.length_cons,List.length_nil]
theorem qA.kg(r:qA o u):o.isSome=u.isSome:=by
 cases o with
 |none=>cases u with
  |none=>rfl
  |some _=>trivial
 |some _=>cases u with
  |none=>trivial
  |some _=>rfl
theorem qA.getD(r:qA o u)(rd:RelV d d'):RelV (o.getD d) (u.getD d'):=by
 cases o with
 |none=>cases u with
  |none=>exact rd
  |some _=>trivial
 |some _=>cases u with
  |none=>trivial
  |some _=>exact r
theorem KV.val(r:KV kvs vs)(k:κ):qA (qH kvs k) (valueAt vs k):=by
 induction r with
 |nil=>trivial
 | @cons p q ps qs h t ih=>
  obtain⟨h1,h2⟩:=h;by_cases e:p.1=k
  ·have e'  := h1.symm.trans e;have b:valueAt (q::qs) k=some q.2:=by simp[valueAt,e']
   rw[o6 e,b];exact h2
  ·have e':¬ q.1=k:=λz=>e (h1.trans z);have b:valueAt (q::qs) k=valueAt qs k:=by simp[valueAt,e']
   rw[mD e,b];exact ih
theorem KV.any(r:KV kvs vs)(k:κ):(kvs.any λkv=>decide (kv.1=k))=vs.any λkv=>decide (kv.1=k):=by
 induction r with
 |nil=>rfl
 |cons h t ih=>simp_all
theorem KV.Me(r:KV kvs vs)(k:κ)(ry:RelV y u) :
  KV (kvs.map λkv=>if kv.1=k then(kv.1,y)else kv) (vs.map λkv=>if kv.1=k then(kv.1,u)else kv):=by
 unfold KV at r ⊢
 induction r with
 |nil=>exact .nil
 | @cons p q ps qs h t ih=>
  rw[SV,SV];refine .cons ?_ ih;obtain⟨h1,h2⟩:=h;by_cases e:p.1=k
  ·rw[if_pos e,if_pos (h1.symm.trans e)];exact⟨h1,ry⟩
  ·rw[if_neg e,if_neg (λz=>e (h1.trans z))];exact⟨h1,h2⟩
theorem KV.put(r:KV kvs vs)(k:κ)(ry:RelV y u):KV (putK kvs k y) (stored vs k u):=by
 unfold putK stored;rw[r.any k];by_cases e:(vs.any λkv=>decide (kv.1=k))=true
 ·rw[if_pos e,if_pos e];exact r.Me k ry
 ·rw[if_neg e,if_neg e];exact Paired.snoc r ⟨rfl,ry⟩
theorem KV.length{vs:List (κ×Value)}(r:KV kvs vs):kvs.length=vs.length:=SW r
end
theorem rP(r:RelV (kV k) u):(bV P w).is k u=true:=by
 cases k with
 |inl i=>obtain⟨t,e⟩:=(r);subst e;exact zw P w i t
 |inr x=>obtain⟨t,e⟩:=(r);subst e;exact zx P w x t
theorem wW:∀{ks:List Key} {us:WC},Vals (ks.map kV) us->ItemsAre (bV P w) ks us
 | [],_,r=>by cases r;exact .nil
 |k::ks,_,r=>by
  cases r with
  |cons h t=>exact .cons (rP h) (wW t)
noncomputable abbrev KT(H:Hp):List (List Key×V)->List (List Key×Addr×Value)->Prop:=Paired λp q=>p.1=q.1/\H q.2.1=some (.tup (p.1.map kV))/\RelV p.2 q.2.2
theorem KT.val(r:KT H kvs xs)(k:List Key):qA (qH kvs k) ((atKey xs k).map (·.2)):=by
 induction r with
 |nil=>trivial
 | @cons p q ps qs h t ih=>
  obtain⟨h1,_,h2⟩:=h;by_cases e:p.1=k
  ·have e'  := h1.symm.trans e;have b:atKey (q::qs) k=some q.2:=by simp[atKey,e']
   rw[o6 e,b];exact h2
  ·have e':¬ q.1=k:=λz=>e (h1.trans z);have b:atKey (q::qs) k=atKey qs k:=by simp[atKey,e']
   rw[mD e,b];exact ih
theorem KT.Me(r:KT H kvs xs)(k:List Key)(ry:RelV y u) :
  KT H (kvs.map λkv=>if kv.1=k then(kv.1,y)else kv) (xs.map (putAt k u)):=by
 induction r with
 |nil=>exact .nil
 | @cons p q ps qs h t ih=>
  rw[SV,SV];refine .cons ?_ ih;obtain⟨h1,h2,h3⟩:=h;unfold putAt;by_cases e:p.1=k
  ·rw[if_pos e,if_pos (h1.symm.trans e)];exact⟨h1,h2,ry⟩
  ·rw[if_neg e,if_neg (λz=>e (h1.trans z))];exact⟨h1,h2,h3⟩
theorem KT.put(r:KT H kvs xs)(k:List Key)(hb:H b=some (.tup (k.map kV)))(ry:RelV y u) :
  KT H (putK kvs k y) (storedH xs k b u):=by
 have e:(kvs.any λkv=>decide (kv.1=k))=(atKey xs k).isSome:=by rw[o7,(r.val k).kg,Wh]
 unfold putK storedH;rw[e];by_cases q:(atKey xs k).isSome=true
 ·rw[if_pos q,if_pos q];exact r.Me k ry
 ·rw[if_neg q,if_neg q];exact Paired.snoc r ⟨rfl,hb,ry⟩
theorem KT.keeps{kvs:List (List Key×V)}{xs:List (List Key×Addr×Value)}(r:KT H kvs xs)(ht:∀b ys,H b=some (.tup ys)->H' b=some (.tup ys)):KT H' kvs xs:=
 Paired.kD r λ_ _ z=>⟨z.1,ht _ _ z.2.1,z.2.2⟩
section
variable {P:WL} {w:World} {H:Hp} {h:Heap} {a:Addr}
theorem KL(ok:mr P w H h)(e:Rd H a u):cW P w H h a u:=e.ok ok
theorem wX(ok:mr P w H h)(e:Rd H a (.dK kvs)):kvs.length<=sizeLine/\(a==sysModules)=false/\∃vs,KV kvs vs/\h.DictOf (bV P w) a vs:=
 show cW P w H h a (.dK kvs)from KL ok e
theorem KN(ok:mr P w H h)(e:H a=some (.dK kvs)):kvs.length<=sizeLine/\(a==sysModules)=false/\∃vs,KV kvs vs/\h.DictOf (bV P w) a vs:=wX ok (.inl e)
theorem qI(ok:mr P w H h)(e:H a=some (.tup (ks.map kV))):(tupleKind (bV P w)).is h ks a:=by obtain⟨_,its,r,o,h1,h2,n,h3⟩:=(ok a _ e);exact⟨o,its.toArray,n,h1,h2,h3,by simpa using wW r⟩
theorem wY(ok:mr P w H h)(e:Rd H a (.dT kvs)):kvs.length<=sizeLine/\(a==sysModules)=false /\
  ∃xs,KT H kvs xs/\h.DictOfH (tupleKind (bV P w)) a xs:=by
 obtain⟨z,y,xs,r,o,es,ep,h1,h2,h3,h4,h5⟩:=(show cW P w H h a (.dT kvs)from KL ok e);refine⟨z,y,xs,r,o,es,ep,h1,h2,h3,h4,λx hx=>?_,h5⟩
 have all:∀{l:List (List Key×V)} {m:List (List Key×Addr×Value)},KT H l m->∀x∈m,(tupleKind (bV P w)).is h x.1 x.2.1:=by
  intro l m q
  induction q with
  |nil=>grind
  | @cons p q ps qs hq t ih=>
   intro x hx;rcases Sz.mp hx with e|hx
   ·subst e;exact qI ok (by simp_all)
   ·exact ih x hx
 grind
theorem Ot(ok:mr P w H h)(e:H a=some (.dT kvs)):kvs.length<=sizeLine/\(a==sysModules)=false /\
  ∃xs,KT H kvs xs/\h.DictOfH (tupleKind (bV P w)) a xs:=wY ok (.inl e)
end
noncomputable def v7(H:Hp)(a:Addr)(y:V)(r:Option V):Prop:=
 (∃kvs k,Rd H a (.dK kvs)/\y=kV k/\r=qH kvs k)\/∃kvs k b,Rd H a (.dT kvs)/\y=.ref b/\H b=some (.tup (k.map kV))/\r=qH kvs k
noncomputable def IS(H:Hp)(a:Addr)(y v:V)(H':Hp):Prop:=
 (∃kvs k,H a=some (.dK kvs)/\y=kV k/\kvs.length<sizeLine/\H'=upd H a (.dK (putK kvs k v))) \/
 ∃kvs k b,H a=some (.dT kvs)/\y=.ref b/\H b=some (.tup (k.map kV))/\kvs.length<sizeLine/\H'=upd H a (.dT (putK kvs k v))
theorem v7.k{k:Key}(e:H a=some (.dK kvs)):v7 H a (kV k) (qH kvs k):=.inl ⟨kvs,k,.inl e,rfl,rfl⟩
theorem IS.k{k:Key}(e:H a=some (.dK kvs))(hl:kvs.length<sizeLine):IS H a (kV k) v (upd H a (.dK (putK kvs k v))):=.inl ⟨kvs,k,e,rfl,hl,rfl⟩
section
variable {X:Cx} {pins:Ww} {σ:St} {H:Hp} {s:WO} {a:Addr} {y v:V} {u r:Value} {o:Option V} {A:WN} {E:Wv}
theorem Inv.big(I:Inv X pins σ H s):sysModules<s.heap.objs.size:=by have h  := (I.mod.glob.keeps I.bk).lt;exact Nat.lt_trans (by decide) h
theorem Et(hu:A.units+1<cLine)(I:Inv X pins σ H s)(g:v7 H a y (some v))(ry:RelV y u)(h:∀w' s',Inv X pins σ H s'->RelV v w'->Q w' s') :
  wpAny (model X.prog X.w) A (getItem (.ref a) u) Q E s:=by
 rcases g with⟨kvs,k,e,ey,l⟩|⟨kvs,k,b,e,ey,eb,l⟩
 ·subst ey;obtain⟨z,hd,vs,rel,dd⟩:=wX I.hok e;obtain⟨w',hw,rw'⟩:=qA.some_of (o:=valueAt vs k) (by rw[l];exact rel.val k);exact wpAny_getItem_of (rP ry) dd.mapOf hw (h w' _ (I.tok _) rw')
 ·subst ey;cases(show u=Value.ref b from ry);obtain⟨z,hd,xs,rel,dd⟩:=wY I.hok e;obtain⟨w',hw,rw'⟩:=qA.some_of (v:=v) (o:=(atKey xs k).map (·.2)) (by rw[l];exact rel.val k);obtain⟨p,hp,hp2⟩:=TB.mp hw;refine wpAny_getItem_heap (Ve hu) (qI I.hok eb) dd hp ?_;rw[hp2];exact h w' _ (I.tok _) rw'
theorem QC(hu:A.units+1<cLine)(I:Inv X pins σ H s)(g:v7 H a y o)(ry:RelV y u)(h:∀s',Inv X pins σ H s'->Q (.bool o.isSome) s') :
  wpAny (model X.prog X.w) A (compareOp .In u (.ref a)) Q E s:=by
 rcases g with⟨kvs,k,e,ey,l⟩|⟨kvs,k,b,e,ey,eb,l⟩
 ·subst ey;obtain⟨z,hd,vs,rel,dd⟩:=wX I.hok e;refine wpAny_in_of (rP ry) hd dd.mapOf ?_;rw[<- (rel.val k).kg,<- l];exact h _ (I.tok _)
 ·subst ey;cases(show u=Value.ref b from ry);obtain⟨z,hd,xs,rel,dd⟩:=wY I.hok e;refine wpAny_in_heap (Ve hu) (qI I.hok eb) hd dd ?_;have q:=(rel.val k).kg;rw[Wh]at q;rw[<- q,<- l];exact h _ (I.tok _)
theorem IT(hu:A.units+1<cLine)(I:Inv X pins σ H s)(g:v7 H a y o)(ry:RelV y u)(h:∀s',Inv X pins σ H s'->Q (.bool (!o.isSome)) s') :
  wpAny (model X.prog X.w) A (compareOp .NotIn u (.ref a)) Q E s:=by
 rcases g with⟨kvs,k,e,ey,l⟩|⟨kvs,k,b,e,ey,eb,l⟩
 ·subst ey;obtain⟨z,hd,vs,rel,dd⟩:=wX I.hok e;refine wpAny_notIn_of (rP ry) hd dd.mapOf ?_;rw[<- (rel.val k).kg,<- l];exact h _ (I.tok _)
 ·subst ey;cases(ry);obtain⟨z,hd,xs,rel,dd⟩:=wY I.hok e;refine wpAny_notIn_heap (Ve hu) (qI I.hok eb) hd dd ?_;have q:=(rel.val k).kg;rw[Wh]at q;rw[<- q,<- l];exact h _ (I.tok _)
theorem tB(I:Inv X pins σ H s)(mu:NG (H a))(hs:Heap.SameBut a s.heap h')(he:∃q,h'.get? a=some q)(new:cW X.prog X.w (upd H a ob) h' a ob) :
  Inv X pins σ (upd H a ob) {s with heap:=h',toks:=t'}:=
 I.write (x:=a) (e:=a) mu (.inl rfl) (λb q hb z=>(hs.2 b hb).trans z) he new
theorem yi(z:kvs.length<=sizeLine)(hd:(a==sysModules)=false)(rel:KV kvs vs)(dd:h'.DictOf (bV P w) a vs) :
  cW P w H' h' a (.dK kvs):=⟨z,hd,vs,rel,dd⟩
theorem Eu(hu:A.units+1<cLine)(I:Inv X pins σ H s)(g:IS H a y v H')(ry:RelV y u)(rv:RelV v r)(h:∀s',Inv X pins σ H' s'->Q () s') :
  wpAny (model X.prog X.w) A (setItem (.ref a) u r) Q E s:=by
 rcases g with⟨kvs,k,e,ey,l,eH⟩|⟨kvs,k,b,e,ey,eb,l,eH⟩
 ·subst ey eH;obtain⟨z,hd,vs,rel,dd⟩:=KN I.hok e;have hz:vs.length<=sizeLine:=by grind[rel.length]
  have hl:(putK kvs k v).length<=sizeLine:=by have:=jv kvs k v;omega
  refine wpAny_setItem_pairs (hsz:=hz) (rP ry) dd λh' dd' hs=>h _ ?_;have he:∃q,h'.get? a=some q:=let ⟨q,_,_,hq,_⟩:=dd';⟨q,hq⟩;exact tB I (by rw[e];exact True.intro) hs he (yi hl hd (rel.put k rv) dd')
 ·subst ey eH;cases(show u=Value.ref b from ry);obtain⟨z,hd,xs,rel,dd⟩:=Ot I.hok e;have hz:xs.length<=sizeLine:=by rw[<- SW rel];exact z
  have hl:(putK kvs k v).length<=sizeLine:=by have:=jv kvs k v;omega
  refine wpAny_setItem_heap (hsz:=hz) (Ve hu) (qI I.hok eb) dd λh' dd' hs=>h _ ?_;obtain⟨q,es,ep,hq,h2,h3,h4,_,h5⟩:=dd';refine tB I (by rw[e];exact True.intro) hs ⟨q,hq⟩ ⟨hl,hd,_,(rel.put k eb rv).keeps λc ys ec=>?_,q,es,ep,hq,h2,h3,h4,h5⟩;rw[aE (NV ec e (λz=>nomatch z))];exact ec
end
noncomputable def Mf(i:Expr):Prop:=∀ov iv,subscripted i false ov iv=operate [ov,iv] (getItem ov iv)
theorem IU{T id:String}
 (hl:typeLookup (.type T) "__getitem__" = pure (some (.builtin id)))(hs:Mf slice)
 (h:wpAny (model prog w) A (eval value env) (λo s₁=>wpAny (model prog w) A (eval slice env) (λi s₂=>s₂.TypeIs o T/\wpAny (model prog w) A (getItem o i) Q E s₂) E s₁) E s) :
  wpAny (model prog w) A (eval (.Subscript value slice pos) env) Q E s:=by
 refine Subscript_ (TZ h (λo s₁ h₁=>TZ h₁ (λi s₂ h₂=>?_) λ_ _ x=>x) λ_ _ x=>x);obtain⟨hT,h₂⟩:=h₂;refine Sm ?_;refine Sm (UW hT hl ?_);have fin:wpAny (model prog w) A (subscripted slice false o i) (λr s₃=>wpAny (model prog w) A (letTemporaryGo value o r >>= λ_=>pure r) Q E s₃) E s₂:=by rw[hs o i];exact wpAny_operating (TZ h₂ (λr s₃ h₃=>Sm (wpAny_letTemporaryGo (Sn h₃))) λ_ _ x=>x)
 first
  |exact Sn (Sm fin)
  |rfl
  |rfl
theorem zI(h:Heap)(hb:sysModules<h.objs.size):cW P w H (h.push {cls:=.type "dict",data:=.dict #[]}) h.objs.size (.dK []):=
 ⟨Ug _,Vt.mpr (VC (SI hb)),[],.nil,Heap.DictOf.new h⟩
noncomputable def Mg:TE:=λ_ H Q=>∀p,H p=none->Q (.ref p) (upd H p (.dK []))
section
variable {X:Cx} {pos:Pos}
theorem FQ:PE X (.Dict [] [] pos) Mg:=λpins s σ H Q I h=>
 wpAny_Dict_empty ⟨.ref s.heap.objs.size,_,I.laid (a:=s.heap.objs.size) (o:=.dK []) (t':=s.toks) (λ_ _ q=>So _ q) (Ss _) (zI s.heap I.big),rfl,h _ (I.hok.fresh (Ss _))⟩
end
noncomputable def BC:List (TE×TE)->St->Hp->(List (V×V)->Hp->Prop)->Prop
 | [],_,H,Q=>Q [] H
 | (tk,tv)::r,σ,H,Q=>tk σ H λx H1=>tv σ H1 λy H2=>BC r σ H2 λps H3=>Q ((x,y)::ps) H3
noncomputable abbrev VV:List (V×V)->List (Value×Value)->Prop:=Paired λp q=>RelV p.1 q.1/\RelV p.2 q.2
noncomputable def Po(X:Cx)(pos:Pos)(keys:List (Option Expr))(values:WG)(wZ:List (TE×TE)):Prop:=
 ∀(pins:Ww) (s:WO) (σ:St) (H:Hp) (Q:List (V×V)->Hp->Prop),Inv X pins σ H s->BC wZ σ H Q ->
  wpAny (model X.prog X.w) X.A (evalPairs (pairTrees keys values X.env pos)) (λvs s'=>∃ps H',Inv X pins σ H' s'/\VV ps vs/\Q ps H') X.xe s
theorem IV:Po X pos [] [] []:=λpins s σ H Q I h=>pairTrees_nil_walk ⟨[],H,I,.nil,h⟩
theorem FR(hk:PE X k tk)(hv:PE X v tv)(hr:Po X pos ks vs wZ) :
  Po X pos (some k::ks) (v::vs) ((tk,tv)::wZ):=λpins s σ H Q I h=>
 pairTrees_cons_walk (bH (hk pins s σ H _ I h) λu s1 ⟨x,H1,I1,rx,q1⟩=>bH (hv pins s1 σ H1 _ I1 q1) λw2 s2 ⟨y,H2,I2,ry,q2⟩=>
  bH (hr pins s2 σ H2 _ I2 q2) λws s3 ⟨ps,H3,I3,rel,q3⟩=>⟨(x,y)::ps,H3,I3,.cons ⟨rx,ry⟩ rel,q3⟩)
noncomputable def jU(kvs more:List (Key×V)):List (Key×V):=more.foldl (λacc kv=>putK acc kv.1 kv.2) kvs
theorem KV.merge:∀{more:List (Key×V)} {rs:List (Key×Value)} {kvs:List (Key×V)} {vs:List (Key×Value)},KV more rs->KV kvs vs->KV (jU kvs more) (merged vs rs):=by
 intro more rs kvs vs r
 induction r generalizing kvs vs with
 |nil=>intro q;exact q
 | @cons p q ps qs h t ih=>
  intro r0
  have e:KV (putK kvs p.1 p.2) (stored vs q.1 q.2):=by
   have:=r0.put p.1 h.2
   grind
  exact ih e
theorem jV:∀(more kvs:List (Key×V)),(jU kvs more).length<=kvs.length+more.length
 | [],kvs=>by show kvs.length<=kvs.length+0;omega
 |p::r,kvs=>by
  have h1:=jV r (putK kvs p.1 p.2);have h2:=jv kvs p.1 p.2;show(jU _ r).length<=_
  grind
theorem oz:∀{kvs:List (Key×V)} {ws:List (Value×Value)},VV (kvs.map λkv=>(kV kv.1,kv.2)) ws->∃rs,Carries (bV P w) ws rs/\KV kvs rs
 | [],_,r=>by cases r;exact⟨[],True.intro,.nil⟩
 |p::kvs,_,r=>by
  cases r with
  | @cons a b as bs h t=>obtain⟨rs,c,q⟩:=oz t;obtain⟨b1,b2⟩:=b;exact⟨(p.1,b2)::rs,⟨rP h.1,rfl,c⟩,.cons ⟨rfl,h.2⟩ q⟩
noncomputable def Ou(wZ:List (TE×TE)):TE:=λσ H Q=>∀p,H p=none->BC wZ σ (upd H p (.dK [])) λps H2=>H2 p=some (.dK [])/\∃kvs:List (Key×V),ps=kvs.map (λkv=>(kV kv.1,kv.2))/\kvs.length<=15/\Q (.ref p) (upd H2 p (.dK (jU [] kvs)))
theorem IW(h:Po X pos keys values wZ)(hall:keys.all (·.isSome)=true)(hl:keys.length=values.length)(h0:keys≠[])
 (h15:keys.length<=15):PE X (.Dict keys values pos) (Ou wZ):=by
 intro pins s σ H Q I q;have hn:=I.hok.fresh (Ss s.heap.objs.size);have I1:=I.laid (a:=s.heap.objs.size) (o:=.dK []) (h':=s.heap.push {cls:=.type "dict",data:=.dict #[]}) (t':=s.toks) (λ_ _ q=>So _ q) (Ss _) (zI s.heap I.big);refine wpAny_Dict_walk (knd:=bV X.prog X.w) hall hl h0 h15 (bH (h pins _ σ _ _ I1 (q _ hn)) λws s2 ⟨ps,H2,I2,rel,e,kvs,ep,lk,q2⟩=>?_);subst ep;obtain⟨rs,c,rk⟩:=oz (P:=X.prog) (w:=X.w) rel;obtain⟨z,hd,vs0,r0,dd⟩:=KN I2.hok e;cases r0;refine⟨rs,c,dd,λh' dd' hs=>⟨.ref s.heap.objs.size,_,?_,rfl,q2⟩⟩
 have hz:(jU [] kvs).length<=sizeLine:=by
  have h1:=jV kvs []
  grind[List.length_nil,sizeLine_eq]
 have he:∃q,h'.get? s.heap.objs.size=some q:=let ⟨q,_,_,hq,_⟩:=dd';⟨q,hq⟩;exact tB I2 (by rw[e];exact True.intro) hs he (yi hz hd (rk.merge .nil) dd')
structure M2(X:Cx)(o:Expr)(m:Str)(apos:Pos)(e f:Expr)(cpos:Pos):Prop where
 base:attributeBase o m X.env (eval o X.env)=eval o X.env
 few:((backTo cpos (starEach [e,f] X.env)).all (λx=>!x.1)&&(backToKw cpos (keywordEach [] X.env)).all (λx=>x.1.isSome)
  && decide (([e,f]:WG).length+([]:List Keyword).length+(if([]:List Keyword).isEmpty then 0 else 1)<30))=true
 line:(apos.endLine==cpos.line)=true
 trees:backTo cpos (starEach [e,f] X.env)=[(false,eval e X.env),(false,eval f X.env)]
noncomputable def RC(H:Hp)(a:Addr):Prop:=(∃kvs,Rd H a (.dK kvs))\/∃kvs,Rd H a (.dT kvs)
theorem Mh{σ:St}(I:Inv X pins σ H s)(d:RC H a) :
  s.TypeIs (.ref a) "dict" /\ (∀b,Value.ref a=.ref b->∃ob,s.heap.get? b=some ob/\ob.dict=none)/\(a==sysModules)=false:=by
 rcases d with⟨kvs,e⟩|⟨kvs,e⟩
 ·obtain⟨_,hd,vs,_,dd⟩:=wX I.hok e;refine⟨dd.typeIs,λb q=>?_,hd⟩;cases q;obtain⟨ob,_,_,h1,h2,_⟩:=dd;exact⟨ob,h1,h2.2.1⟩
 ·obtain⟨_,hd,xs,_,dd⟩:=wY I.hok e;refine⟨dd.typeIs,λb q=>?_,hd⟩;cases q;obtain⟨ob,_,_,h1,h2,_⟩:=dd;exact⟨ob,h1,h2.2.1⟩
section
variable {X:Cx} {pins:Ww} {σ:St} {H:Hp} {s:WO} {a:Addr} {y d:V} {u r:Value} {o:Option V} {A:WN} {E:Wv}
theorem Mi(hu:A.units+1<cLine)(I:Inv X pins σ H s)(g:v7 H a y o)(ry:RelV y u)(rd:RelV d r)(h:∀w' s',Inv X pins σ H s'->RelV (o.getD d) w'->Q w' s') :
  wpAny (model X.prog X.w) A (call (.builtin "dict.get") [.ref a,u,r]) Q E s:=by
 rcases g with⟨kvs,k,e,ey,l⟩|⟨kvs,k,b,e,ey,eb,l⟩
 ·subst ey;obtain⟨z,hd,vs,rel,dd⟩:=wX I.hok e;refine call_meetsIn VS dd.typeIs PySem.F.entry_dict_get (PySem.F.args_dict_get_3 _ _ _) (meets_dict_get_default (bV X.prog X.w) a (rP ry) hd r) ⟨_,dd.mapOf,h _ _ (I.tok _) ?_⟩;rw[l];exact(rel.val k).getD rd
 ·subst ey;cases(show u=Value.ref b from ry);obtain⟨z,hd,xs,rel,dd⟩:=wY I.hok e;refine call_meetsIn VS dd.typeIs PySem.F.entry_dict_get (PySem.F.args_dict_get_3 _ _ _) (meetsH_dict_get_default (tupleKind (bV X.prog X.w)) a b hd r) ⟨Ve hu,k,xs,qI I.hok eb,dd,h _ _ (I.tok _) ?_⟩;rw[l];exact(rel.val k).getD rd
end
noncomputable def Mj(td ty tx:TE):TE:=λσ H Q=>td σ H λx H1=>∃a,x=.ref a/\RC H1 a/\ty σ H1 λy H2=>tx σ H2 λz H3=>∃o,v7 H3 a y o/\Q (o.getD z) H3
section
variable {X:Cx} {o e f:Expr} {apos cpos:Pos} {td ty tx:TE}
theorem FT(hu:X.A.units+1<cLine)(ho:PE X o td)(he:PE X e ty)(hf:PE X f tx)(m:M2 X o "get" apos e f cpos):PE X (.Call (.Attribute o "get" apos) [e,f] [] cpos) (Mj td ty tx):=by
 intro pins s σ H Q I h;refine wpAny_Call_method m.base m.few m.line PySem.F.plainAttrs_dict VS PySem.F.type_dict_get (bH (ho pins s σ H _ I h) λu s1 ⟨x,H1,I1,rx,a,ex,d,q1⟩=>?_);subst ex;obtain rfl:u=Value.ref a:=rx;obtain⟨t1,t2,_⟩:=Mh I1 d;refine⟨t1,t2,?_⟩;rw[m.trees]
 refine Calls.callWith_builtin rfl (Calls.evalArgs_plain (Us (bH (he pins s1 σ H1 _ I1 q1) λiv s2 ⟨y,H2,I2,ry,q2⟩=>
  Us (bH (hf pins s2 σ H2 _ I2 q2) λfv s3 ⟨z,H3,I3,rz,ov,g,q3⟩=>UR ?_))))
 exact Mi hu I3 g ry rz λw' s4 I4 rw'=>⟨_,H3,I4,rw',q3⟩
end
theorem tZ{K:WD}{St:Nat->Heap->Prop}{f:Nat->V}(W:∀A:WN,A.handled=none->Walks P w A it [it] [it] n Pv St)
 (ob:∀i h,St i h->∃(o:Obj) (m:String) (vs:WJ),h.get? it=some o/\o.cls=.type m/\o.data=.fields vs/\["enumerate", "zip", "dict_itemiterator", "dict_reverseitemiterator", "odict_iterator", "itertools.zip_longest", "itertools.pairwise"].contains m=false)
 (rel:∀i v,i<n->Pv i v->RelV (f i) v)(sf:∀(A:WN) (i:Nat) (s:WO) (Q:Wv) (E:Wv),St i s.heap->Q (.ref it) s->wpAny (model P w) A (pyIter (.ref it)) Q E s):Turn P w K tg ⟨λi _=>i<n,λi H x H'=>H'=H/\x=f i,λi _=>i=n⟩ [it] it St where
 mem:=by simp
 obj:=λi h st b hb=>by
  grind
 keep:=λi h h' st k=>(W {handled:=none,depth:=0,frames:=none,guards:=none,units:=0} rfl).frame i h h' st λb hb o e=>k b hb o e
 item:=by intro X hP hw hK hc i pins s σ H E I hf st hg;subst hP hw hK;obtain⟨f0,f1,f2,f3,f4,f5⟩:=hf it (by simp);refine(W X.A (I.ok.hd hc)).item i s _ _ hg st λv h' tk hv st' kk=>?_;have I1:Inv X pins σ H {s with heap:=h',toks:=tk}:=I.turned (λb o hb e=>kk b o (by grind) e) f0 f1 f3 f4 f5;obtain⟨o,m,vs,e,c,d,nm⟩:=ob _ _ st';exact⟨v,rfl,CC (s:={s with heap:=h',toks:=tk}) e c d nm ⟨f i,H,I1,rel i v hg hv,⟨rfl,rfl⟩,st',λb hb=>(hf b hb).1⟩⟩
 done:=by intro X hP hw hK hc i pins s σ H E I hf st hg;subst hP hw hK;obtain⟨f0,f1,f2,f3,f4,f5⟩:=hf it (by simp);have hg':i=n:=hg;subst hg';exact(W X.A (I.ok.hd hc)).done s _ _ st λh' tk kk=>⟨rfl,I.turned (λb o hb e=>kk b o (by simpa using hb) e) f0 f1 f3 f4 f5⟩
 self:=sf
noncomputable def sgn(x:Str)(i:Nat):V:=.str ⟨#[x.cps.getD i 0]⟩
noncomputable def QD(x:Str):It:=⟨λi _=>i<x.cps.size,λi H v H'=>H'=H/\v=sgn x i,λi _=>i=x.cps.size⟩
theorem yj(i:Nat)(v:Value)(hi:i<x.cps.size)(h:SignAt x i v):RelV (sgn x i) v:=by
 obtain⟨c,u,e,rfl⟩:=h;refine⟨u,?_⟩
 simp_all
section
variable {X:Cx} {tg:Expr}
noncomputable def QE(tl:TE):TI:=λσ H R=>tl σ H λv H1=>∃x,v=.str x/\R (QD x) H1
theorem Mk(hl:PE X l tl):PI X tg l (QE tl):=by
 intro pins s σ H R I h;refine bH (hl pins s σ H _ I h) λv s1 ⟨x,H1,I1,r1,q1⟩=>?_;obtain⟨x,e,q⟩:=q1;subst e;obtain⟨t,rfl⟩:=r1
 have fp:∀b∈[s1.heap.objs.size],iq X pins H1 b:=λb hb=>by
  have e:b=s1.heap.objs.size:=by grind
  subst e;exact I1.Bl (Ss _) (I1.hok.fresh (Ss _))
 cases ha:x.cps.all (· < 128)with
 |false=>
  refine wpAny_pyIter_wide ha ?_
  refine⟨s1.heap.objs.size,[s1.heap.objs.size],_,QD x,H1,rfl,I1.kept (t':=s1.toks) λb o e=>So _ e,
   tZ (λA hA=>Walks.strWide hA _ x t) (λi h ⟨o,e,c,d⟩=>⟨o,_,_,e,c,d,by decide⟩) yj λA i s Q E st h=>wpAny_pyIter_striter_wide st h,⟨_,Sy _ rfl,rfl,rfl⟩,fp,q⟩
 |true=>
  refine wpAny_pyIter_ascii ha ?_
  refine⟨s1.heap.objs.size,[s1.heap.objs.size],_,QD x,H1,rfl,I1.kept (t':=s1.toks) λb o e=>So _ e,
   tZ (λA hA=>Walks.strAscii hA _ x t) (λi h ⟨o,e,c,d⟩=>⟨o,_,_,e,c,d,by decide⟩) yj λA i s Q E st h=>wpAny_pyIter_striter_ascii st h,⟨_,Sy _ rfl,rfl,rfl⟩,fp,q⟩
end
section
variable {X:Cx}
theorem all_range(bs:List Bool):((List.range bs.length).all λi=>(bs[i]?).getD true)=bs.all id:=by
 rw[Uc];simp only[SR,TK,id];constructor
 ·intro h b hb;obtain⟨i,hi,rfl⟩:=UP.mp hb
  simp_all
 ·intro h i hi;simp only[hi,SH,VW];exact h _ (Ws hi)
theorem FU(hc:X.calm=true):eE X (.builtin "all") (λxs H Q=>∃(l:Addr) (bs:List Bool),xs=[.ref l]/\j9 X.K H l (bs.map V.bl)/\Q (.bl (bs.all id)) H):=by
 intro pins s σ H vs us Q I r h;obtain⟨l,bs,rfl,hq,q⟩:=h
 cases r with
 |cons r rr=>
  cases rr;cases r;obtain⟨its,rv,p,_⟩:=I.list hq;have pl:=p.isList;have hlt:l<s.heap.objs.size:=by obtain⟨_,e,_⟩:=pl;exact Sv e
  refine call_all_walk (wpAny_pyIter_list pl ?_);refine⟨s.heap.objs.size,[s.heap.objs.size,l],[s.heap.objs.size],its.toArray.size,_,_,λi=>(bs[i]?).getD true,rfl,Walks.list (A:=X.A.in1) (I.ok.hd hc) _ l (SI hlt) its.toArray,⟨⟨_,Sy _ rfl,rfl,rfl⟩,pl.push _⟩,λi v s' Q' E' hP hQ=>?_,λh' tk hk=>?_⟩
  ·have hP':its[i]?=some v:=by simpa using hP
   have hi:i<(bs.map V.bl).length:=by rw[rv.length];exact(SJ.mp hP').1
   obtain⟨u,hu,ru⟩:=rv.get (i:=i) (x:=(bs.map V.bl)[i]) (by simp[hi]);rw[hP']at hu;cases hu;rw[SG]at hi;simp only[List.getElem_map]at ru;obtain rfl:v=Value.bool bs[i]:=ru;have hQ':=hQ;simp only[hi,SH,VW]at hQ';exact Uk hQ'
  ·have e:((List.range its.toArray.size).all λi=>(bs[i]?).getD true)=bs.all id:=by
    rw[S5,<- rv.length,SG];exact all_range bs
   rw[e];exact⟨.bl _,H,I.kept λb o e=>hk b o (λhm=>by rw[SO.mp hm]at e;exact SQ _ (Sv e)) (So _ e),rfl,q⟩
theorem Ew:jr X (compareOp .LtE) (λx y H Q=>∃i j,x=.str i/\y=.str j/\Q (.bl (!decide (j.cps.toList<i.cps.toList))) H):=by intro pins s σ H x y v u Q I rx ry h;obtain⟨i,j,rfl,rfl,q⟩:=h;obtain⟨t,rfl⟩:=rx;obtain⟨t',rfl⟩:=ry;exact P.le_str ⟨.bl _,H,I,rfl,q⟩
end
noncomputable def gA:V->Option PyData
 |.non=>some .none
 |.bl b=>some (.bool b)
 |.int i=>some (.int i)
 |.str x=>some (.str x)
 |_=>none
noncomputable def zJ:Key->PyData
 |.inl i=>.int i
 |.inr x=>.str x
noncomputable def aY:List (Key×V)->Option Wx
 | []=>some []
 | (k,v)::r=>match gA v,aY r with
  |some d,some ds=>some ((zJ k,d)::ds)
  |_,_=>none
mutual
def Rep(H:Hp):PyData->V->Prop
 |.none,v=>v=.non
 |.bool b,v=>v=.bl b
 |.int i,v=>v=.int i
 |.str x,v=>v=.str x
 |.tuple ds,v=>∃a vs,v=.ref a/\H a=some (.tup vs)/\bh H ds vs
 |.list ds,v=>∃a vs,v=.ref a/\H a=some (.lst vs)/\bh H ds vs
 |.dict kvs,v=>∃a ks,v=.ref a/\H a=some (.dK ks)/\aY ks=some kvs
def bh(H:Hp):WA->List V->Prop
 | [],vs=>vs=[]
 |d::ds,vs=>∃w ws,vs=w::ws/\Rep H d w/\bh H ds ws
end
mutual
theorem Rep.same(s:bR H H'):∀{d:PyData} {v:V},Rep H d v->Rep H' d v
 |.none,_,h=>h
 |.bool _,_,h=>h
 |.int _,_,h=>h
 |.str _,_,h=>h
 |.tuple ds,_,⟨a,vs,e,h,r⟩=>⟨a,vs,e,s _ _ h,bh.same s r⟩
 |.list ds,_,⟨a,vs,e,h,r⟩=>⟨a,vs,e,s _ _ h,bh.same s r⟩
 |.dict _,_,⟨a,ks,e,h,r⟩=>⟨a,ks,e,s _ _ h,r⟩
theorem bh.same{H H':Hp}(s:bR H H'):∀{ds:WA} {vs:List V},bh H ds vs->bh H' ds vs
 | [],_,h=>h
 |_::_,_,⟨w,ws,e,h,r⟩=>⟨w,ws,e,Rep.same s h,bh.same s r⟩
end
theorem bh.length:∀{ds:WA} {vs:List V},bh H ds vs->vs.length=ds.length
 | [],_,h=>by cases h;rfl
 |_::ds,_,⟨w,ws,e,_,r⟩=>by rw[e,SM,SM,bh.length r]
theorem bh.get:∀{ds:WA} {vs:List V} {i:Nat} {v:V},bh H ds vs->vs[i]?=some v->∃d,ds[i]?=some d/\Rep H d v
 | [],_,i,v,h,e=>by cases h;simp at e
 |d::ds,_,0,v,⟨w,ws,e0,h,r⟩,e=>by grind
 |d::ds,_,i+1,v,⟨w,ws,e0,h,r⟩,e=>by
  subst e0;obtain⟨u,e1,e2⟩:=bh.get r (by trivial)
  simp_all
theorem bh.get':∀{ds:WA} {vs:List V} {i:Nat} {d:PyData},bh H ds vs->ds[i]?=some d->∃v,vs[i]?=some v/\Rep H d v
 | [],_,i,v,h,e=>by simp at e
 |d::ds,_,0,v,⟨w,ws,e0,h,r⟩,e=>by grind
 |d::ds,_,i+1,v,⟨w,ws,e0,h,r⟩,e=>by
  obtain⟨u,e1,e2⟩:=bh.get' r (by trivial)
  simp_all
theorem bh.append:∀{ds es:WA} {vs us:List V},bh H ds vs->bh H es us->bh H (ds++es) (vs++us)
 | [],_,_,_,h,r=>by cases h;exact r
 |d::ds,_,_,_,⟨w,ws,e,h,q⟩,r=>by subst e;exact⟨w,_,rfl,h,bh.append q r⟩
theorem bh.nil:bh H [] []:=rfl
theorem bh.cons{v:V}{vs:List V}(h:Rep H d v)(r:bh H ds vs):bh H (d::ds) (v::vs):=⟨v,vs,rfl,h,r⟩
theorem bh.one(h:Rep H d v):bh H [d] [v]:=.cons h .nil
theorem bh.take:∀{ds:WA} {vs:List V} (n:Nat),bh H ds vs->bh H (ds.take n) (vs.take n)
 | [],_,n,h=>by grind[bh]
 |d::ds,_,0,_=>by rfl
 |d::ds,_,n+1,⟨w,ws,e,h,r⟩=>by subst e;exact .cons h (bh.take n r)
theorem bh.drop:∀{ds:WA} {vs:List V} (n:Nat),bh H ds vs->bh H (ds.drop n) (vs.drop n)
 | [],_,n,h=>by grind[bh]
 |d::ds,_,0,h=>h
 |d::ds,_,n+1,⟨w,ws,e,h,r⟩=>by subst e;exact bh.drop n r
theorem BD(e:gA v=some d)(r:RelV v u):Reads h u d []:=by
 cases v with
 |non=>cases e;cases r;exact .none
 |bl b=>cases e;cases r;exact .bool b
 |int i=>cases e;obtain⟨t,rfl⟩:=r;exact .int i t
 |str x=>cases e;obtain⟨t,rfl⟩:=r;exact .str x t
 |_=>cases e
theorem Ex(e:tS k u=true):Reads h u (zJ k) []:=by
 rcases cM e with⟨i,t,rfl,rfl⟩|⟨x,t,rfl,rfl⟩
 ·exact .int i t
 ·exact .str x t
theorem mE:∀{ks:List (Key×V)} {vs:List (Key×Value)} {es:List DictEntry} {kvs:Wx},aY ks=some kvs->KV ks vs->Pairs (bV P w) es vs ->
  ReadsAll h (es.map (·.key)) (kvs.map (·.1)) []/\ReadsAll h (es.map (·.val)) (kvs.map (·.2)) []
 | [],_,es,kvs,e,r,p=>by
  cases e;cases r
  cases es with
  |nil=>exact⟨.nil,.nil⟩
  |cons _ _=>trivial
 | (k,v)::ks,_,es,kvs,e,r,p=>by
  cases r with
  |cons r1 r2=>
   rename_i q vs';obtain⟨k',u⟩:=q;obtain⟨e1,e2⟩:=r1;simp only at e1 e2;subst e1
   cases p with
   |cons hk hv hr=>
    unfold aY at e
    cases e1:gA v with
    |none=>simp_all
    |some d=>
     cases e3:aY ks with
     |none=>simp_all
     |some ds=>rw[e1,e3]at e;cases e;obtain⟨z1,z2⟩:=mE e3 r2 hr;exact⟨.cons (as:=[]) (bs:=[]) (Ex hk) z1,.cons (as:=[]) (bs:=[]) (by show Reads h (DictEntry.val _) d [];rw[hv];exact BD e1 e2) z2⟩
section
variable {X:Cx} {pins:Ww} {σ:St} {H:Hp} {s:WO}
mutual
theorem Rep.reads(I:Inv X pins σ H s):∀{d:PyData} {v:V} {u:Value},Rep H d v->RelV v u->∃as,Reads s.heap u d as
 |.none,_,u,h,r=>by cases h;cases r;exact⟨_,.none⟩
 |.bool b,_,u,h,r=>by cases h;cases r;exact⟨_,.bool b⟩
 |.int i,_,u,h,r=>by cases h;obtain⟨t,rfl⟩:=r;exact⟨_,.int i t⟩
 |.str x,_,u,h,r=>by cases h;obtain⟨t,rfl⟩:=r;exact⟨_,.str x t⟩
 |.tuple ds,_,u,⟨a,vs,e,h,q⟩,r=>by subst e;cases r;obtain⟨_,its,rv,o,ho,hc,n,hd⟩:=I.hok a _ h;obtain⟨as,z⟩:=bh.reads I q rv;exact⟨_,.tuple ho hc hd (by simpa using z)⟩
 |.list ds,_,u,⟨a,vs,e,h,q⟩,r=>by subst e;cases r;obtain⟨_,its,n,rv,ho⟩:=I.hok a _ h;obtain⟨as,z⟩:=bh.reads I q rv;exact⟨_,.list ho rfl rfl (by simpa using z)⟩
 |.dict kvs,_,u,⟨a,ks,e,h,q⟩,r=>by subst e;cases r;obtain⟨_,_,vs,rk,o,es,ep,ho,hx,hd,_,hp,_⟩:=I.hok a _ h;obtain⟨z1,z2⟩:=mE (P:=X.prog) (w:=X.w) (h:=s.heap) q rk hp;exact⟨_,.dict ho hx.1 hd z1 z2⟩
theorem bh.reads(I:Inv X pins σ H s):∀{ds:WA} {vs:List V} {us:WC},bh H ds vs->Vals vs us->∃as,ReadsAll s.heap us ds as
 | [],_,us,h,r=>by cases h;cases r;exact⟨_,.nil⟩
 |d::ds,_,us,⟨w,ws,e,h,q⟩,r=>by
  subst e
  cases r with
  |cons r1 r2=>obtain⟨as,z⟩:=Rep.reads I h r1;obtain⟨bs,y⟩:=bh.reads I q r2;exact⟨_,.cons z y⟩
end
end
section
variable {X:Cx} {k:Nat}
noncomputable def Mm:List V->Hp->VK->Prop:=λxs H Q=>∃kvs v,xs=[v]/\Rep H (.dict kvs) v/\(PyData.dict kvs).showable=true/\(PyData.dict kvs).depth<=20/\(PyData.dict kvs).shown.length<=sizeLine/\Q (.str (PyData.dict kvs).shown) H
theorem BE(hr:cG k X.A):eE X (.builtin "repr") Mm:=by
 intro pins s σ H vs us Q I r h;obtain⟨kvs,v,rfl,h1,hs,hd,hz,q⟩:=h;obtain⟨a,ks,rfl,ha,e⟩:=h1
 cases r with
 |cons r rr=>
  cases rr;cases r;obtain⟨_,ne,vs,rk,o,es,ep,ho,hx,hdd,_,hp,_⟩:=I.hok a _ ha;obtain⟨z1,z2⟩:=mE e rk hp;refine Wd (Reads.dict ho hx.1 hdd z1 z2) hs (λ_ hm=>?_) hr.gd (by have:=hr.units;omega) (λ_ _ e=>e) (λh' t tk hk=>⟨.str _,H,I.kept hk,⟨_,rfl⟩,q⟩) hz
  grind
noncomputable def Ov:PyData->String
 |.none => "NoneType"
 |.bool _ => "bool"
 |.int _ => "int"
 |.str _ => "str"
 |.tuple _ => "tuple"
 |.list _ => "list"
 |.dict _ => "dict"
theorem Rep.ty{K:WD}(h:Rep H d v):o4 K H v (.type (Ov d)):=by
 cases d with
 |none=>cases h;exact .non
 |bool b=>cases h;exact .bl b
 |int i=>cases h;exact .int i
 |str x=>cases h;exact .str x
 |tuple ds=>obtain⟨a,vs,rfl,e,_⟩:=h;exact .tup e
 |list ds=>obtain⟨a,vs,rfl,e,_⟩:=h;exact .lst e
 |dict ds=>obtain⟨a,ks,rfl,e,_⟩:=h;exact .dK e
theorem FV:eE X (.builtin "isinstance") (λxs H Q=>∃x n t b,xs=[x,.ty n]/\o4 X.K H x t/\PySem.W.kitOne X.K t (.type n)=some b/\Q (.bl b) H):=by
 intro pins s σ H vs us Q I r h;obtain⟨x,n,t,b,rfl,ty,e,q⟩:=h
 cases r with
 |cons r rr=>
  cases rr with
  |cons r' rr=>cases rr;cases r';exact Ek I r ty e λtk=>⟨.bl b,H,I.tok _,rfl,q⟩
theorem kit_tuple(K:WD)(d:PyData):PySem.W.kitOne K (.type (Ov d)) (.type "tuple")=some (match d with|.tuple _=>true|_=>false):=by cases d<;>first|rfl|decide
theorem IX(K:WD)(d:PyData):PySem.W.kitOne K (.type (Ov d)) (.type "str")=some (match d with|.str _=>true|_=>false):=by cases d<;>first|rfl|decide
end
theorem bR.upd(s:bR H H')(hp:H' p=none):bR H (upd H' p o):=λb u e=>by rw[aE (aI (s b u e) hp)];exact s b u e
theorem bR.new(hp:H p=none):bR H (L2.upd H p o):=(bR.refl H).upd hp
theorem v8:bootBuiltins "isinstance" = some (.builtin "isinstance"):=by rfl
theorem jW:bootBuiltins "len" = some (.builtin "len"):=by rfl
theorem yk:bootBuiltins "all" = some (.builtin "all"):=by rfl
theorem nv:bootBuiltins "repr" = some (.builtin "repr"):=by rfl
theorem kh:bootBuiltins "sorted" = some (.builtin "sorted"):=by rfl
theorem Ey:bootBuiltins "divmod" = some (.builtin "divmod"):=by rfl
theorem Mn:bootBuiltins "max" = some (.builtin "max"):=by rfl
theorem Mo:bootBuiltins "str" = some (.type "str"):=by rfl
theorem cB:bootBuiltins "tuple" = some (.type "tuple"):=by rfl
theorem CN:bootBuiltins "list" = some (.type "list"):=by rfl
section
variable {X:Cx} {e e2:Expr} {te te2:TE} {t:TA} {p p2 pos:Pos}
noncomputable def isTup:PyData->Bool|.tuple _=>true|_=>false
noncomputable def isStr:PyData->Bool|.str _=>true|_=>false
end
noncomputable def nO(f:Expr->Option PyData):WG->Option WA
 | []=>some []
 |e::es=>match f e,nO f es with
  |some d,some ds=>some (d::ds)
  |_,_=>none
noncomputable def sX:Nat->Expr->Option PyData
 |0,_=>none
 |n+1,e=>match e with
  |.Constant .none _ _=>some .none
  |.Constant (.bool b) _ _=>some (.bool b)
  |.Constant (.int i) _ _=>some (.int i)
  |.Constant (.str x) _ _=>some (.str x)
  |.Tuple es _ _=>if es.length<=1000 then(nO (sX n) es).map .tuple else none
  |.List es _=>if es.length<=1000 then(nO (sX n) es).map .list else none
  |.UnaryOp .USub (.Constant (.int i) _ _) _=>some (.int (-i))
  |.BinOp (.Constant (.int a) _ _) .Pow (.Constant (.int b) _ _) _=>if 0<=b/\b<=1000000/\a.natAbs<2^64 then some (.int (a^b.toNat))else none
  |.Dict [] [] _=>some (.dict [])
  |.Dict [some (.Constant (.str k) _ _)] [.Constant (.int i) _ _] _=>some (.dict [(.str k,.int i)])
  |_=>none
noncomputable abbrev CO(n:Nat)(es:WG):Option WA:=nO (sX n) es
noncomputable def jw(H H' N:Hp):Prop:=∀c o,N c=some o->H c=none/\H' c=some o
noncomputable def Mp(d:PyData):TE:=λ_ H Q=>∀r H' N,bR H H'->jw H H' N->Rep N d r->Q r H'
noncomputable def Ow(ds:WA):TA:=λ_ H Q=>∀rs H' N,bR H H'->jw H H' N->bh N ds rs->Q rs H'
noncomputable def v9:Hp:=λ_=>none
theorem jw.no:jw H H' v9:=λ_ _ e=>by cases e
noncomputable def oA(N M:Hp):Hp:=λc=>match N c with|some o=>some o|none=>M c
theorem Mq:bR N (oA N M):=λc o e=>by simp[oA,e]
theorem Mr(n:jw H H1 N)(m:jw H1 H2 M):bR M (oA N M):=λc o e=>by
 have h1:=(m c o e).1
 cases q:N c with
 |none=>simp[oA,q,e]
 |some u=>rw[(n c u q).2]at h1;cases h1
theorem jw.plus(s1:bR H H1)(s2:bR H1 H2)(n:jw H H1 N)(m:jw H1 H2 M):jw H H2 (oA N M):=λc o e=>by
 cases q:N c with
 |some u=>simp[oA,q]at e;cases e;exact⟨(n c _ q).1,s2 _ _ (n c _ q).2⟩
 |none=>simp[oA,q]at e;exact⟨s1.free (m c o e).1,(m c o e).2⟩
theorem jw.put(s1:bR H H1)(n:jw H H1 N)(hp:H1 p=none):jw H (upd H1 p o) (upd N p o)/\bR N (upd N p o):=by
 have np:∀c u,N c=some u->c≠p:=λc u e z=>by subst z;rw[(n c u e).2]at hp;cases hp
 refine⟨λc u e=>?_,λc u e=>by rw[aE (np c u e)];exact e⟩;by_cases hc:c=p
 ·subst hc;rw[bg]at e;cases e;exact⟨s1.free hp,bg⟩
 ·rw[aE hc]at e;exact⟨(n c u e).1,by rw[aE hc];exact(n c u e).2⟩
theorem kG:∀{es:WG} {n:Nat} {ds:WA},CO n es=some ds->ds.length=es.length
 | [],n,ds,h=>by simp_all[nO]
 |e::es,n,ds,h=>by
  unfold CO nO at h;split at h
  ·rename_i d ds' h1 h2;cases h;rw[SM,SM,kG h2]
  grind
section
variable {X:Cx}
theorem yl(ih:∀(e:Expr) (d:PyData),sX n e=some d->PE X e (Mp d)/\∀es:WG,starEach (e::es) X.env=(false,eval e X.env)::starEach es X.env):∀(es:WG) (ds:WA),CO n es=some ds->PA X es (Ow ds)
 | [],ds,h=>by cases h;intro pos pins s σ H Q I q;exact tV pos pins s σ H Q I (q [] H v9 (bR.refl H) .no rfl)
 |e::es,ds,h=>by
  unfold CO nO at h;split at h
  ·rename_i d ds' h1 h2;cases h;obtain⟨a,b⟩:=ih e d h1;intro pos pins s σ H Q I q;refine nq a (yl ih es ds' h2) (b es) pos pins s σ H Q I λr H1 N1 s1 n1 hr rs H2 N2 s2 n2 hrs=>q _ H2 _ (s1.trans s2) (n1.plus s1 s2 n2) (.cons (hr.same Mq) (hrs.same (Mr n1 n2)))
  grind
theorem BF:∀(n:Nat) (e:Expr) (d:PyData),sX n e=some d->PE X e (Mp d)/\∀es:WG,starEach (e::es) X.env=(false,eval e X.env)::starEach es X.env:=by
 intro n
 induction n with
 |zero=>intro e d h;unfold sX at h;cases h
 |succ n ih=>
  intro e d h;unfold sX at h;split at h
  ·cases h;exact⟨λpins s σ H Q I q=>Ly pins s σ H Q I (q _ H v9 (bR.refl H) .no rfl),λ_=>rfl⟩
  ·cases h;exact⟨λpins s σ H Q I q=>Kz pins s σ H Q I (q _ H v9 (bR.refl H) .no rfl),λ_=>rfl⟩
  ·cases h;exact⟨λpins s σ H Q I q=>qE pins s σ H Q I (q _ H v9 (bR.refl H) .no rfl),λ_=>rfl⟩
  ·cases h;exact⟨λpins s σ H Q I q=>Bk pins s σ H Q I (q _ H v9 (bR.refl H) .no rfl),λ_=>rfl⟩
  ·rename_i es k' p';split at h
   ·rename_i hl
    cases h1:nO (sX n) es with
    |none=>rw[h1]at h;cases h
    |some ds=>rw[h1]at h;cases h;refine⟨λpins s σ H Q I q=>Bs (yl ih es ds h1) pins s σ H Q I λrs H1 N1 s1 n1 hrs=>⟨?_,λp hp=>q _ _ _ (s1.upd hp) (n1.put s1 hp).1 ⟨p,rs,rfl,bg,hrs.same (n1.put s1 hp).2⟩⟩,λ_=>rfl⟩;rw[hrs.length,kG h1];exact Sw hl (by decide)
   ·cases h
  ·rename_i es p';split at h
   ·rename_i hl
    cases h1:nO (sX n) es with
    |none=>rw[h1]at h;cases h
    |some ds=>rw[h1]at h;cases h;refine⟨λpins s σ H Q I q=>Bt (yl ih es ds h1) pins s σ H Q I λrs H1 N1 s1 n1 hrs=>⟨?_,λp hp=>q _ _ _ (s1.upd hp) (n1.put s1 hp).1 ⟨p,rs,rfl,bg,hrs.same (n1.put s1 hp).2⟩⟩,λ_=>rfl⟩;rw[hrs.length,kG h1];exact Sw hl (by decide)
   ·cases h
  ·cases h;exact⟨λpins s σ H Q I q=>N6 LU qE pins s σ H Q I ⟨_,rfl,q _ H v9 (bR.refl H) .no rfl⟩,λ_=>rfl⟩
  ·split at h
   ·rename_i hl;cases h;exact⟨λpins s σ H Q I q=>KC LS qE qE pins s σ H Q I ⟨_,_,rfl,rfl,hl,q _ H v9 (bR.refl H) .no rfl⟩,λ_=>rfl⟩
   ·cases h
  ·cases h;exact⟨λpins s σ H Q I q=>FQ pins s σ H Q I λp hp=>q _ _ (upd v9 p (.dK [])) (bR.new hp) (jw.put (bR.refl H) .no hp).1 ⟨p,[],rfl,bg,rfl⟩,λ_=>rfl⟩
  ·rename_i k k1 p1 i i1 p2 p3;cases h;refine⟨λpins s σ H Q I q=>IW (FR Bk qE IV) rfl rfl (by simp) (by show 1<=15;decide) pins s σ H Q I λp hp=>⟨bg,[(Sum.inr k,V.int i)],rfl,by show 1<=15;decide,?_⟩,λ_=>rfl⟩;refine q _ _ (upd v9 p (.dK [(Sum.inr k,V.int i)])) (λb o e=>?_) (λc o e=>?_) ⟨p,[(Sum.inr k,V.int i)],rfl,bg,rfl⟩
   ·rw[aE (aI e hp),aE (aI e hp)];exact e
   ·by_cases hc:c=p
    ·subst hc;rw[bg]at e;cases e;exact⟨hp,bg⟩
    ·rw[aE hc]at e;cases e
  ·cases h
@[irreducible] noncomputable def Lit(n:Nat)(e:Expr)(d:PyData):Prop:=sX n e=some d
theorem Lit.of(h:sX n e=some d):Lit n e d:=by grind[Lit]
theorem Lit.eq(h:Lit n e d):sX n e=some d:=by simp_all[Lit]
theorem Ms(n:Nat){e:Expr}{d:PyData}(h:Lit n e d):PE X e (Mp d):=(BF n e d h.eq).1
end
section
variable {X:Cx} {k:Nat}
noncomputable def cutD(ds:WA)(lo hi:Option Int):WA:=(ds.drop (HT.fZ ds.length 0 lo)).take (HT.fZ ds.length ds.length hi-HT.fZ ds.length 0 lo)
theorem wa{lo hi:Option Int}(ht:IsTup s.heap t items)(hs:s.heap.IsSliceOf sl vl vu .none)(pl:IsPart vl lo)(pu:IsPart vu hi)
 (h0:HT.fZ items.size 0 lo=0)(h1:HT.fZ items.size items.size hi=items.size)(q:Q (.ref t) s):wpAny (model P w) A (getItem (.ref t) (.ref sl)) Q E s:=by
 obtain⟨os,hos,hcs,hds⟩:=id hs;have hTs:s.TypeIs (.ref sl) "slice" := ⟨os,hos,hcs⟩;unfold getItem
 try with_reducible refine Tf ?_
 first|refine Sm (Sn ?_)|skip
 refine Sm (wpAny_sequenceKey ht.typeIs (by decide) ?_);refine Sm (Ti (name:=Str.ofString "__getitem__") ht.typeIs TF (Te TF ht.typeIs entry_tuple_getitem ?_ (args_tuple_getitem _ _)));show wpAny _ _ (Builtin.Tuple.tupleItemsOf (.ref t) >>= _) _ _ s;refine Sm (tupleItemsOf_ ht (Sm (Vz hTs ?_)));rw[if_pos (by decide)];refine Sm (HT.kb hs pl pu ?_);rw[h0,h1];show wpAny _ _ (if((((0:Nat):Int)==0&&(1:Int)==1&&(items.size-0)==items.size)=true)then _ else _) _ _ s;rw[if_pos (by simp)];unfold Builtin.Tuple.tupleIsExact;refine Sm (Sm (Vz ht.typeIs (Sn ?_)))
 first
  |exact Sm (UA (Sm (Sn (Sn ⟨_,rfl,Sn q⟩))))
  |exact Sm (UA (Sn ⟨_,rfl,Sn q⟩))
  | (rw[if_pos (by decide)];exact Sm (UA (Sm (Sn (Sn ⟨_,rfl,Sn q⟩)))))
  | (rw[if_pos (by decide)];exact Sm (UA (Sn ⟨_,rfl,Sn q⟩)))
end
noncomputable def vT(P:WL)(w:World):LY:=λouter H s E e s'=>
 ∃(a:Addr) (cls:Value) (t:Addr) (B:Heap) (H':Hp),e=.ref a/\s'.os=s.os/\AllBare s'.gens/\Un (vR outer) [] H H' s.heap s'.heap/\mr P w H' s'.heap/\Heap.FlyingW B outer a cls (.ref t) s'.heap /\
  (∀b o,s.heap.get? b=some o->b∉vR outer->∃o',s'.heap.get? b=some o'/\B.get? b=some o')/\(∀b u,H' b=some u->∃o',s'.heap.get? b=some o'/\B.get? b=some o')/\E cls none H'
section
variable {P:WL} {w:World} {K:WD} {mg:Wz} {base:Heap} {N:WE} {qual:Str} {scope:Scope} {f:Addr} {cd:Value} {A:WN} {outer:List Env} {s:WO} {H:Hp} {E:XK}
theorem aR:Passes (vT P w) (vW (vT P w) P w K mg base N qual scope f cd A outer s H E) E:=by
 intro pins σ H1 s1 e s' I ⟨a,cls,t,B,H',e1,os,bare,un,hok,fl,old,Fi,q⟩;subst e1;have J:=I.Ky os un hok bare (λb z=>nomatch z);have hfr:(A.deeper (envOfC qual scope s.heap.objs.size f cd)).frames=some (envOfC qual scope s.heap.objs.size f cd::outer):=I.ok.frames;have noA:∀b:Addr,b∉(vW (vT P w) P w K mg base N qual scope f cd A outer s H E).ex:=λb z=>nomatch z
 have inB:∀b o,s.heap.get? b=some o->b∉vR outer->∃o',s'.heap.get? b=some o'/\B.get? b=some o':=λb o e hb=>by
  obtain⟨o1,e1⟩:=I.base.there b o e (noA b);refine old b o1 e1 λz=>?_;rcases Sz.mp (I.jR b z)with z|z
  ·have z2:b=s.heap.objs.size:=z;exact absurd (Sv e) (by rw[z2];exact SQ _)
  ·exact hb z
 refine wpAny_leaves_onW hfr rfl fl λh' fl' up=>?_;refine⟨a,cls,t,B,H',rfl,os.trans I.os,bare,⟨λb o e n hb _=>?_,λb o e n hb _=>?_,λb o e n _=>J.base.free b o e n (noA b),λb o e _=>?_,J.base.tups,J.base.frzs,J.base.tbls⟩,λb u e=>?_,fl',λb o e hb=>?_,λb u e=>?_,q⟩
 ·have e2:=J.base.keep b o e n hb (noA b);obtain⟨o',e3,e4⟩:=inB b o e hb;rw[e2]at e3;cases e3;exact fl'.1 b o e4
 ·obtain⟨sl,e2⟩:=J.base.slot b o e n hb (noA b);obtain⟨_,o',e3,nf⟩:=J.qB.mem hb;rw[e2]at e3;cases e3;obtain⟨sl',e4⟩:=up b _ e2 nf;exact⟨sl',e4⟩
 ·by_cases hb:b∈vR outer
  ·obtain⟨o2,e2⟩:=J.base.there b o e (noA b);obtain⟨_,o',e3,nf⟩:=J.qB.mem hb;obtain⟨sl',e4⟩:=up b _ e3 nf;exact⟨_,e4⟩
  ·obtain⟨o',e3,e4⟩:=inB b o e hb;exact⟨o',fl'.1 b o' e4⟩
 ·refine(hok b u e).sV (λc v hc z=>?_) (λ_ z=>z) λ_ _ z=>z
  have:∃u',H' c=some u':=by
   rcases hc with hc|hc
   ·exact⟨u,hc▸e⟩
   ·exact⟨_,hc⟩
  obtain⟨u',hu⟩:=this;obtain⟨o',e3,e4⟩:=Fi c u' hu;rw[z]at e3;cases e3;exact fl'.1 c v e4
 ·obtain⟨o',e3,e4⟩:=inB b o e hb;exact⟨o',fl'.1 b o' e4,e4⟩
 ·obtain⟨o',e3,e4⟩:=Fi b u e;exact⟨o',fl'.1 b o' e4,e4⟩
end
noncomputable def IY(a:Addr)(cls:Value):Heap->Prop:=λh=>∃o,h.get? a=some o/\o.cls=cls
structure Ext(H G H' G':Hp):Prop where
 sh:bR H H'
 sg:bR G G'
 gs:bR G' H'
 old:∀c,H c≠none->G' c=G c
theorem Ext.refl{H G:Hp}(s:bR G H):Ext H G H G:=⟨bR.refl H,bR.refl G,s,λ_ _=>rfl⟩
theorem Ext.new(s:bR G H)(hp:H p=none):Ext H G (upd H p o) (upd G p o):=by
 refine⟨bR.new hp,bR.new (s.free hp),λc u e=>?_,λc hc=>aE λz=>hc (z▸hp)⟩;by_cases h:c=p
 ·grind[bg]
 ·rw[aE h]at e ⊢;exact s c u e
section
variable {X:Cx} {k:Nat}
noncomputable def Ox:R2:=λx y H Q=>∃G ds es,bR G H/\Rep G (.tuple ds) x/\Rep G (.tuple es) y/\ds.length+es.length<=sizeLine/\∀r H' G',Ext H G H' G'->Rep G' (.tuple (ds++es)) r->Q r H'
theorem IZ:jr X (binaryOp .Add) Ox:=by
 intro pins s σ H x y v u Q I rx ry h;obtain⟨G,ds,es,sg,h1,h2,hz,q⟩:=h;obtain⟨a,vs,rfl,ha,r1⟩:=id h1;obtain⟨b,us,rfl,hb,r2⟩:=id h2;by_cases hv:vs=[]
 ·subst hv;have hd:ds=[]:=Uy.mp r1.length.symm;subst hd;cases rx;cases ry;obtain⟨its1,v1,⟨⟨c1,d1,e1,l1⟩,p1,g1,n1,z1⟩,_⟩:=I.tuple (ip.of (K:=X.K) (sg _ _ ha));obtain⟨its2,v2,⟨⟨c2,d2,e2,l2⟩,p2,g2,n2,z2⟩,_⟩:=I.tuple (ip.of (K:=X.K) (sg _ _ hb));simp only at g1 z1 g2 z2;subst g1 z1 g2 z2;cases v1;exact concat_meets ⟨_,p1,rfl⟩ ⟨_,p2,rfl⟩ noFill_tuple_add seq_tuple_add VN VH (Vy _ _) (tuple_addW0 a b _ _ n1 n2 d1 d2 l1 l2 rfl) ⟨p1,p2,⟨.ref b,H,I,rfl,q _ H G (Ext.refl sg) h2⟩⟩
 ·refine IH pins s σ H _ _ v u Q I rx ry ⟨a,b,vs,us,rfl,rfl,ip.of (sg _ _ ha),ip.of (sg _ _ hb),hv,by grind[r1.length,r2.length],λe=>?_,λe p hp=>?_⟩
  ·subst e;have he:es=[]:=Uy.mp r2.length.symm;subst he;exact q _ H G (Ext.refl sg) (by rw[US];exact h1)
  ·have x:=Ext.new (o:=.tup (vs++us)) sg hp;exact q _ _ _ x ⟨p,_,rfl,bg,bh.append (r1.same x.sg) (r2.same x.sg)⟩
noncomputable def QF:V->Option Int->Option Int->Hp->VK->Prop:=λx lo hi H Q=>∃G ds,bR G H/\Rep G (.tuple ds) x/\∀r H' G',Ext H G H' G'->Rep G' (.tuple (cutD ds lo hi)) r->Q r H'
theorem I0:NK X QF:=by
 intro pins s σ H x v vl vu lo hi sl Q I rx hs pl pu h;obtain⟨G,ds,sg,h1,q⟩:=h;obtain⟨a,xs,rfl,ha,r1⟩:=id h1;cases rx;obtain⟨its,rv,ht,hz⟩:=I.tuple (ip.of (K:=X.K) (sg _ _ ha));have hl:its.toArray.size=xs.length:=by rw[S5];exact rv.length.symm
 by_cases hw:HT.fZ xs.length 0 lo=0/\HT.fZ xs.length xs.length hi=xs.length
 ·refine⟨"tuple",_,TF.lookup,ht.typeIs,wa ht hs pl pu (by grind) (by grind) ⟨.ref a,H,I,rfl,q _ H G (Ext.refl sg) ?_⟩⟩
  have e:cutD ds lo hi=ds:=by
   simp_all[cutD,r1.length,hw,List.drop_zero,Nat.sub_zero,List.take_length]
  grind
 ·refine L0 pins s σ H (.ref a) _ vl vu lo hi sl Q I rfl hs pl pu ⟨a,xs,rfl,ip.of (sg _ _ ha),hw,λp hp=>?_⟩;have x:=Ext.new (o:=.tup (zE xs lo hi)) sg hp;refine q _ _ _ x ⟨p,_,rfl,bg,?_⟩;have e:cutD ds lo hi=(ds.drop (HT.fZ xs.length 0 lo)).take (HT.fZ xs.length xs.length hi-HT.fZ xs.length 0 lo):=by unfold cutD;rw[r1.length]
  rw[e];exact((r1.same x.sg).drop _).take _
end
theorem Vals.KO:∀(us:WC) (f:Nat->V),(∀j v,us[j]?=some v->RelV (f j) v)->Vals ((List.range us.length).map f) us
 | [],_,_=>.nil
 |u::us,f,h=>by rw[SM,List.range_succ_eq_map,SV,V9];exact .cons (h 0 u rfl) (Vals.KO us _ λj v e=>h _ v e)
section
variable {X:Cx}
theorem zK(hc:X.calm=true):eE X (.type "tuple") (λxs H Q=>∃x,xs=[.str x]/\x.cps.size<=sizeLine/\∀p,H p=none->Q (.ref p) (upd H p (.tup ((List.range x.cps.size).map (sgn x))))):=by
 intro pins s σ H xs us Q I r h;obtain⟨x,rfl,hz,q⟩:=h;obtain⟨u,rfl,rx⟩:=vals1 r;obtain⟨t,rfl⟩:=rx;refine call_tuple_str (I.ok.hd hc) x t (λh' tk acc kp hacc=>?_) hz;have I1:Inv X pins σ H {s with heap:=h',toks:=tk}:=I.kept (t':=tk) kp
 have hv:Vals ((List.range x.cps.size).map (sgn x)) acc.toList:=by
  have e:acc.toList.length=x.cps.size:=by rw[TQ,hacc.1]
  rw[<- e];refine Vals.KO _ _ λj v ev=>yj j v ?_ (hacc.2 j v (by simp_all));rw[<- e]
  grind
 have I2:Inv X pins σ (upd H h'.objs.size (.tup ((List.range x.cps.size).map (sgn x)))) {s with heap:=h'.push {cls:=.type "tuple",data:=.seq acc},toks:=tk}:=by
  refine I1.laid (t':=tk) (λb o e=>So _ e) (Ss _) (show cW X.prog X.w _ _ _ (.tup _)from⟨by simp_all,acc.toList,hv,?_⟩);have:=IsTup.new h' acc
  simp_all
 exact⟨.ref h'.objs.size,_,I2,rfl,q _ (I1.hok.fresh (Ss _))⟩
end
noncomputable def recAt(c:Addr)(q:Str):Heap->Prop:=λh=>h.CodeRec (.ref c) q
end L2
namespace PySem.SeqAt
open PySem PySem.MeetsSeq PySem.AutoSeq1
theorem t9(b:Str)(u:Tok)(l:Addr)(es:WI)(n:Nat)(dd:Option Addr)(sl:WH) :
  Meets (Builtin.«str.__eq__» ⟨[.str b u,.ref l],[]⟩) (λ_ R s=>s.heap.get? l=some {cls:=.type "dict",dict:=dd,data:=.dict es n,slots:=sl}/\R (.ok (.ret .notImplemented)) s):=
 .of_wp λprog w A R s h=>by
  obtain⟨hl,h⟩:=h
  wp_walk using wpAny_loadPart' hl,VO hl
  grind
theorem ua(b:Str)(u:Tok)(l:Addr)(es:WI)(n:Nat)(dd:Option Addr)(sl:WH) :
  Meets (Builtin.«dict.__eq__» ⟨[.ref l,.str b u],[]⟩) (λ_ R s=>s.heap.get? l=some {cls:=.type "dict",dict:=dd,data:=.dict es n,slots:=sl}/\R (.ok (.ret .notImplemented)) s):=
 .of_wp λprog w A R s h=>by
  obtain⟨hp,g,d,tk,os⟩:=s;obtain⟨hl,h⟩:=h;have f1:=F.sub_str_dict
  wp_walk using wpAny_loadPart' hl,VO hl
  exact⟨_,rfl,h⟩
theorem EqAt.Ja(b:Str)(u:Tok)(hl:s.heap.get? l=some {cls:=.type "dict",dict:=dd,data:=.dict es n,slots:=sl})(hu:A.units<cLine):EqAt A s (.str b u) (.ref l) false:=λprog w E Q h=>by
 refine Tf (Tt (λhab=>absurd (eq_of_beq hab) nofun) (λ_=>Sm ?_))
 refine rc_eq_decline_or (typeIs_str s b u) ⟨_,hl,rfl⟩ (by decide) F.sub_dict_str F.slot_str_eq Vu
  (λ_ hq=>VA F.slot_str_eq (typeIs_str s b u) F.entry_str_eq (F.args_str_eq_2 _ _) (t9 b u l es n dd sl) ⟨hl,hq⟩)
  (λ_ hq=>VA Vu ⟨_,hl,rfl⟩ F.entry_dict_eq (F.args_dict_eq_2 _ _) (ua b u l es n dd sl) ⟨hl,hq⟩)
  (λ_ hq=>U6 (rfl:isSame _ _=pure false) hq) (.inr hu) (Uk h)
end PySem.SeqAt
set_option maxHeartbeats 4000000
namespace PySem.W
open PySem PySem.Calls PyProof.Rows
noncomputable def KasT.Run{α:Type}(lt:Nat->Nat->Bool)(n:Nat):KasT α->(α->Prop)->Prop
 |.ret a,P=>P a
 |.ask i j k,P=>i<n/\j<n/\(k (lt i j)).Run lt n P
theorem KasT.run_bind{P:β->Prop} :
  ∀(t:KasT α),t.Run lt n (λa=>(f a).Run lt n P)->(t.bind f).Run lt n P
 |.ret _,h=>h
 |.ask _ _ k,h=>⟨h.1,h.2.1,KasT.run_bind (k _) h.2.2⟩
theorem KasT.fx{P Q:α->Prop}(hq:∀a,P a->Q a) :
  ∀(t:KasT α),t.Run lt n P->t.Run lt n Q
 |.ret a,h=>hq a h
 |.ask _ _ k,h=>⟨h.1,h.2.1,KasT.fx hq (k _) h.2.2⟩
theorem KasT.FW{Q:α->WO->Prop}{I:WO->Prop}
 (hc:∀i j C s,i<n->j<n->I s->(∀s',I s'->C (lt i j) s')->cmp i j C s)(hq:∀a s,P a->I s->Q a s) :
  ∀(t:KasT α) (s:WO),t.Run lt n P->I s->t.kasWp cmp Q s
 |.ret a,s,h,hi=>hq a s h hi
 |.ask i j k,s,h,hi=>hc i j _ s h.1 h.2.1 hi (λs' hs'=>KasT.FW hc hq (k _) s' h.2.2 hs')
structure nP(lt:Nat->Nat->Bool)(n:Nat):Prop where
 as:∀a b,a<n->b<n->lt a b=true->lt b a=false
 tr:∀a b c,a<n->b<n->c<n->lt b a=false->lt c b=false->lt c a=false
noncomputable abbrev pat(p:WK)(k:Nat):Nat:=p.getD k 0
theorem mF(p:WK)(k:Nat):pat p k=p[k]?.getD 0:=by simp
structure cH(n:Nat)(p:WK):Prop where
 perm:p.toList.Perm (List.range n)
theorem cH.size(h:cH n p):p.size=n:=by
 have:=h.perm.length_eq
 grind
theorem cH.lt(h:cH n p)(hk:k<n):pat p k<n:=by
 have hs:k<p.size:=by simp_all[h.size]
 have e:pat p k=p[k]:=by simp_all
 rw[e];have:p[k]∈p.toList:=by simp
 exact TK.mp (h.perm.mem_iff.mp this)
theorem cH.of(h:cH n p)(e:q.Perm p):cH n q:=
 ⟨(Array.perm_iff_toList_perm.mp e).trans h.perm⟩
theorem cH.rev(h:cH n p)(i j:Nat):cH n (kas_rev p i j):=h.of (mirror_perm _ _ _ _)
theorem jx(h:cH n p)(hj:j<=n)(k:Nat) :
  pat (kas_rev p i j) k=if i<=k/\k<j then pat p (i+j-1-k)else pat p k:=by
 rw[mF];unfold kas_rev;rw[getElem?_mirror_all (by simp_all[h.size])];split<;>rw[mF]
theorem CP(h:cH n p)(hk:k<n)(hd:d<=k)(i:Nat) :
  pat (bubble p k d) i=if i=k-d then pat p k else if k-d<i/\i<=k then pat p (i-1)else pat p i:=by
 rw[mF,getElem?_bubble (by simp_all[h.size]) d hd];split
 ·simp
 ·split<;>rw[mF]
section
variable {lt:Nat->Nat->Bool} {n:Nat}
noncomputable def zL(lt:Nat->Nat->Bool)(p:WK)(m:Nat):Prop:=∀i j,i<j->j<m->lt (pat p j) (pat p i)=false
noncomputable def jy(lt:Nat->Nat->Bool)(p:WK)(m:Nat):Prop:=∀i j,i<j->j<m->lt (pat p i) (pat p j)=false
theorem nP.QG(O:nP lt n)(hx:x<n):lt x x=false:=by
 cases hh:lt x x with
 |false=>rfl
 |true=>have:=O.as _ _ hx hx hh;grind
theorem zL.more(O:nP lt n)(hp:cH n p)(h1:1<=m)(hm:m<n)(u:zL lt p m)(h:lt (pat p m) (pat p (m-1))=false):zL lt p (m+1):=by
 intro i j hij hj;rcases UJ j m with h'|h'
 ·exact u i j hij h'
 ·obtain rfl:j=m:=by omega
  rcases UJ i _ with h''|h''
  ·exact O.tr _ _ _ (hp.lt (by omega)) (hp.lt (by omega)) (hp.lt hm) (u i _ h'' (by omega)) h
  ·obtain rfl:i=j-1:=by omega
   exact h
theorem jy.more(O:nP lt n)(hp:cH n p)(h1:1<=m)(hm:m<n)(u:jy lt p m)(h:lt (pat p (m-1)) (pat p m)=false):jy lt p (m+1):=by
 intro i j hij hj;rcases UJ j m with h'|h'
 ·exact u i j hij h'
 ·obtain rfl:j=m:=by omega
  rcases UJ i _ with h''|h''
  ·exact O.tr _ _ _ (hp.lt hm) (hp.lt (by omega)) (hp.lt (by omega)) h (u i _ h'' (by omega))
  ·obtain rfl:i=j-1:=by omega
   exact h
theorem ym(O:nP lt n)(hp:cH n p):∀(f m:Nat),1<=m->m+f<=n->zL lt p m ->
  (kas_asc p f m).Run lt n (λr=>m<=r/\r<=m+f/\zL lt p r/\(r<m+f->lt (pat p r) (pat p (r-1))=true))
 |0,m,h1,hm,u=>⟨Ss _,Ss _,u,λh=>absurd h (SQ _)⟩
 |f+1,m,h1,hm,u=>by
  refine⟨hp.lt (by omega),hp.lt (by omega),?_⟩
  cases hc:lt _ _ with
  |true=>exact⟨Ss _,by omega,u,λ_=>hc⟩
  |false=>
   have hc':=hc;refine KasT.fx (λr hr=>?_) _ (ym O hp f _ (by omega) (by omega) (u.more O hp h1 (by omega) hc'))
   grind
noncomputable def Pp(lt:Nat->Nat->Bool)(p:WK)(a b:Nat):Prop:=∀i j,a<=i->i<b->a<=j->j<b->lt (pat p i) (pat p j)=false
theorem ub(hp:cH n p)(hb:b<=m)(hm:m<=n)(d:jy lt p m)(e:Pp lt p a b):jy lt (kas_rev p a b) m:=by
 intro i j hij hj;rw[jx hp (by omega),jx hp (by omega)];split
 ·split
  ·exact e _ _ (by omega) (by omega) (by omega) (by omega)
  ·exact d _ _ (by omega) (by omega)
 ·split
  ·exact d _ _ (by omega) (by omega)
  ·exact d _ _ hij hj
theorem Mt(hp:cH n p)(hm:m<=n)(d:jy lt p m):zL lt (kas_rev p 0 m) m:=by intro i j hij hj;rw[jx hp hm,jx hp hm,if_pos (by omega),if_pos (by omega)];exact d _ _ (by omega) (by omega)
theorem jy.zero:jy lt p 1:=λi j h h'=>by omega
theorem o8(O:nP lt n):∀(f:Nat) (p:WK) (m q:Nat),cH n p->q+1<=m->m+f<=n->jy lt p m->Pp lt p (m-(q+1)) m ->
  (kas_desc f p m q).Run lt n (λr=>cH n r.1/\r.2.2+1<=r.2.1/\r.2.1<=m+f/\jy lt r.1 r.2.1/\Pp lt r.1 (r.2.1-(r.2.2+1)) r.2.1)
 |0,p,m,q,hp,hq,hm,d,e=>⟨hp,hq,Ss _,d,e⟩
 |f+1,p,m,q,hp,hq,hm,d,e=>by
  refine⟨hp.lt (by omega),hp.lt (by omega),?_⟩
  cases hc:lt (p.getD m 0) (p.getD (m-1) 0)with
  |true=>
   simp only[Tg];have h1:lt (pat p (m-1)) (pat p m)=false:=O.as _ _ (hp.lt (by omega)) (hp.lt (by omega)) hc;split
   ·have hd2:=ub (n:=n) hp (Ss m) (by omega) d e;have hp2:=hp.rev (m-(q+1)) m;refine KasT.fx (λr hr=>⟨hr.1,hr.2.1,by have:=hr.2.2.1;omega,hr.2.2.2⟩) _ (o8 O f _ (m+1) 0 hp2 (by omega) (by omega) ?_ ?_)
    ·refine hd2.more O hp2 (by omega) (by omega) ?_;rw[jx hp (by omega),jx hp (by omega),if_pos (by omega),if_neg (by omega)];refine O.tr _ _ _ (hp.lt (by omega)) (hp.lt (by omega)) (hp.lt (by omega)) h1 ?_;exact e _ _ (by omega) (by omega) (by omega) (by omega)
    ·intro i j h1 h2 h3 h4;obtain rfl:i=m:=by omega
     obtain rfl:j=i:=by omega
     cases hh:lt (pat (kas_rev p (j-(q+1)) j) j) (pat (kas_rev p (j-(q+1)) j) j)with
     |false=>rfl
     |true=>exact(O.as _ _ (hp2.lt (by omega)) (hp2.lt (by omega)) hh).symm.trans hh▸rfl
   ·refine KasT.fx (λr hr=>⟨hr.1,hr.2.1,by have:=hr.2.2.1;omega,hr.2.2.2⟩) _ (o8 O f _ (m+1) 0 hp (by omega) (by omega) (d.more O hp (by omega) (by omega) h1) ?_);intro i j h1 h2 h3 h4;obtain rfl:i=m:=by omega
    obtain rfl:j=i:=by omega
    cases hh:lt (pat p j) (pat p j)with
    |false=>rfl
    |true=>exact(O.as _ _ (hp.lt (by omega)) (hp.lt (by omega)) hh).symm.trans hh▸rfl
  |false=>
   simp only[SF,Tz];refine⟨hp.lt (by omega),hp.lt (by omega),?_⟩
   cases hc2:lt (p.getD (m-1) 0) (p.getD m 0)with
   |true=>simp only[Tg];exact⟨hp,hq,by show m<=_;omega,d,e⟩
   |false=>
    simp only[SF,Tz];refine KasT.fx (λr hr=>⟨hr.1,hr.2.1,by have:=hr.2.2.1;omega,hr.2.2.2⟩) _ (o8 O f _ (m+1) (q+1) hp (by omega) (by omega) (d.more O hp (by omega) (by omega) hc2) ?_)
    have QG:lt (pat p m) (pat p m)=false:=by
     cases hh:lt (pat p m) (pat p m)with
     |false=>rfl
     |true=>exact(O.as _ _ (hp.lt (by omega)) (hp.lt (by omega)) hh).symm.trans hh▸rfl
    intro i j h1 h2 h3 h4;rcases UJ i m with hi|hi
    ·rcases UJ j m with hj|hj
     ·exact e _ _ (by omega) hi (by omega) hj
     ·obtain rfl:j=m:=by omega
      exact O.tr _ _ _ (hp.lt (by omega)) (hp.lt (show j-1<n by omega)) (hp.lt (by omega)) hc2 (e _ _ (by omega) hi (by omega) (by omega))
    ·obtain rfl:i=m:=by omega
     rcases UJ j i with hj|hj
     ·exact O.tr _ _ _ (hp.lt (by omega)) (hp.lt (show i-1<n by omega)) (hp.lt (by omega)) (e _ _ (by omega) (by omega) (by omega) hj) hc
     ·obtain rfl:j=i:=by omega
      exact QG
noncomputable def FX(lt:Nat->Nat->Bool)(n:Nat)(r:Nat×WK):Prop:=cH n r.2/\1<=r.1/\r.1<=n/\zL lt r.2 r.1
theorem xa(O:nP lt n)(hp:cH n p)(h1:1<=m)(hm:m<=n)(d:jy lt p m):(kas_tail3 m n p).Run lt n (FX lt n):=by refine KasT.run_bind _ (KasT.fx (λr hr=>?_) _ (ym O (hp.rev 0 m) _ m h1 (by omega) (Mt hp hm d)));exact⟨hp.rev 0 m,by omega,by omega,hr.2.2.1⟩
theorem o9(O:nP lt n)(hp:cH n p)(h1:1<=m)(hm:m<n)(d:jy lt p (m+1)):(kas_descPart m n p).Run lt n (FX lt n):=by
 refine KasT.run_bind _ (KasT.fx (λr hr=>?_) _ (o8 O _ p _ 0 hp (by omega) (by omega) d ?_))
 ·split
  ·exact xa O (hr.1.rev _ _) (by omega) (by omega) (ub hr.1 (Ss _) (by omega) hr.2.2.2.1 hr.2.2.2.2)
  ·exact xa O hr.1 (by omega) (by omega) hr.2.2.2.1
 ·intro i j h1 h2 h3 h4;obtain rfl:j=i:=by omega
  cases hh:lt (pat p j) (pat p j)with
  |false=>rfl
  |true=>exact(O.as _ _ (hp.lt (by omega)) (hp.lt (by omega)) hh).symm.trans hh▸rfl
theorem Ez(O:nP lt n)(hp:cH n p)(h1:1<=n):(kas_count n p).Run lt n (FX lt n):=by
 unfold kas_count;refine KasT.run_bind _ (KasT.fx (λr hr=>?_) _ (ym O hp (n-1) 1 (Ss _) (by omega) λi j h h'=>by omega));obtain⟨hr1,hr2,up,st⟩:=hr;split
 ·exact⟨hp,hr1,by omega,up⟩
 ·rename_i hne
  have hlt:r<n:=by
   grind
  have hs:=st (by omega);split
  ·rename_i hgt;refine⟨hp.lt (by omega),hp.lt (by omega),?_⟩;dsimp only;split
   ·exact⟨hp,hr1,by show r<=n;omega,up⟩
   ·rename_i hc;have hc:lt (pat p 0) (pat p (r-1))=false:=by simpa using hc
    have eqs:Pp lt p 0 r:=by
     have lo:∀i,i<r->lt (pat p i) (pat p 0)=false:=λi hi=>by
      rcases Nat.eq_zero_or_pos i with rfl|h
      ·cases hh:lt (pat p 0) (pat p 0)with
       |false=>rfl
       |true=>exact(O.as _ _ (hp.lt (by omega)) (hp.lt (by omega)) hh).symm.trans hh▸rfl
      ·exact up 0 i h hi
     have hi:∀i,i<r->lt (pat p (r-1)) (pat p i)=false:=λi hi=>by
      rcases UJ i (r-1)with h|h
      ·exact up i (r-1) h (by omega)
      ·obtain rfl:i=r-1:=by omega
       exact O.QG (hp.lt (by omega))
     intro i j _ h2 _ h4;have a1:lt (pat p 0) (pat p j)=false:=O.tr _ _ _ (hp.lt (by omega)) (hp.lt (show r-1<n by omega)) (hp.lt (by omega)) (hi j h4) hc;exact O.tr _ _ _ (hp.lt (by omega)) (hp.lt (show 0<n by omega)) (hp.lt (by omega)) a1 (lo i h2)
    have dn:jy lt (kas_rev p 0 r) r:=ub hp (Ss r) (by omega) (λi j h h'=>eqs _ _ (by omega) (by omega) (by omega) h') eqs;refine o9 O (hp.rev 0 r) (by omega) hlt (dn.more O (hp.rev 0 r) (by omega) hlt ?_);rw[jx hp (by omega),jx hp (by omega),if_pos (by omega),if_neg (by omega)];refine O.tr _ _ _ (hp.lt (by omega)) (hp.lt (show r-1<n by omega)) (hp.lt (by omega)) (O.as _ _ (hp.lt (by omega)) (hp.lt (by omega)) hs) ?_;exact eqs _ _ (by omega) (by omega) (by omega) (by omega)
  ·obtain rfl:r=1:=by omega
   exact o9 O hp (by omega) hlt ((jy.zero).more O hp (by omega) hlt (O.as _ _ (hp.lt (by omega)) (hp.lt (by omega)) hs))
theorem qJ(O:nP lt n)(hp:cH n p)(hk:k<n)(u:zL lt p k):∀(f l r:Nat),l<=r->r<=k->r-l<=f ->
  (∀i,i<l->lt (pat p k) (pat p i)=false)->(∀i,r<=i->i<k->lt (pat p i) (pat p k)=false) ->
  (kas_place p k f l r).Run lt n (λm=>m<=k/\(∀i,i<m->lt (pat p k) (pat p i)=false)/\(∀i,m<=i->i<k->lt (pat p i) (pat p k)=false))
 |0,l,r,h1,h2,h3,a,b=>⟨by omega,a,λi hi=>b i (by omega)⟩
 |f+1,l,r,h1,h2,h3,a,b=>by
  unfold kas_place;split
  ·exact⟨by omega,a,λi hi=>b i (by omega)⟩
  ·rename_i hlr;refine⟨hp.lt hk,hp.lt (by omega),?_⟩;dsimp only;split
   ·rename_i hc;refine qJ O hp hk u f l ((l+r) / 2) (by omega) (by omega) (by omega) a λi hi hik=>?_;have hm:lt (pat p ((l+r) / 2)) (pat p k)=false:=O.as _ _ (hp.lt hk) (hp.lt (by omega)) hc;rcases UJ ((l+r) / 2) i with h|h
    ·exact O.tr _ _ _ (hp.lt hk) (hp.lt (show(l+r) / 2<n by omega)) (hp.lt (by omega)) hm (u _ _ h hik)
    ·obtain rfl:i=(l+r) / 2:=by omega
     exact hm
   ·rename_i hc;have hc:lt (pat p k) (pat p ((l+r) / 2))=false:=by simpa using hc
    refine qJ O hp hk u f ((l+r) / 2+1) r (by omega) h2 (by omega) (λi hi=>?_) b;rcases UJ i ((l+r) / 2)with h|h
    ·exact O.tr _ _ _ (hp.lt (by omega)) (hp.lt (show(l+r) / 2<n by omega)) (hp.lt hk) (u _ _ h (by omega)) hc
    ·obtain rfl:i=(l+r) / 2:=by omega
     exact hc
theorem CQ(O:nP lt n):∀(f:Nat) (p:WK) (k:Nat),cH n p->k+f=n->zL lt p k->(kas_bin f p k).Run lt n (λp=>cH n p/\zL lt p n)
 |0,p,k,hp,hk,u=>⟨hp,by grind⟩
 |f+1,p,k,hp,hk,u=>by
  unfold kas_bin;refine KasT.run_bind _ (KasT.fx (λm hm=>?_) _ (qJ O hp (by omega) u k 0 k (Ug _) (Ss _) (by omega) (λi h=>by omega) (λi h h'=>by omega)));obtain⟨hmk,lo,hi⟩:=hm;refine CQ O f _ (k+1) (hp.of (bubble_perm _ _ _)) (by omega) ?_;intro i j hij hj;have hd:k-(k-m)=m:=by omega
  rw[CP hp (by omega) (by omega),CP hp (by omega) (by omega),hd];by_cases j1:j=m
  ·grind
  ·rw[if_neg j1];by_cases i1:i=m
   ·rw[if_pos i1,if_pos (by omega)];exact hi _ (by omega) (by omega)
   ·rw[if_neg i1];by_cases j2:m<j/\j<=k
    ·rw[if_pos j2];by_cases i2:m<i/\i<=k
     ·rw[if_pos i2];exact u _ _ (by omega) (by omega)
     ·rw[if_neg i2];exact u _ _ (by omega) (by omega)
    ·rw[if_neg j2,if_neg (by omega)];exact u _ _ hij (by omega)
theorem FY(O:nP lt n)(h:1<=n):(kas_sort n).Run lt n (λp=>cH n p/\zL lt p n):=by
 refine KasT.run_bind _ (KasT.fx (λr hr=>?_) _ (Ez O ⟨List.Perm.refl _⟩ h));obtain⟨hp,h1,h2,u⟩:=hr;split
 ·have:max r.1 1=r.1:=by omega
  rw[this];exact CQ O _ _ _ hp (by omega) u
 ·refine⟨hp,?_⟩
  grind
end
end PySem.W
set_option maxHeartbeats 4000000
namespace PySem.W
open PySem PySem.Calls PyProof.Rows
section
variable {prog:WL} {w:World} {A:WN} {E:Wv} {s:WO}
noncomputable def FZ(prog:WL)(w:World)(A:WN)(vs:WC)(lt:Nat->Nat->Bool)(s:WO):Prop:=
 wpAny (model prog w) A (keyKind' vs.toArray) (λκ s'=>s'=s/\∀i j C,i<vs.length->j<vs.length->C (lt i j) s ->
  wpAny (model prog w) A (keyLt' κ (vs.getD i Value.none) (vs.getD j Value.none)) C (λ_ _=>False) s) (λ_ _=>False) s
theorem nX(ho:s.heap.get? a=some (seqObj "list" vs.toArray n))
 (O:nP lt vs.length)(h64:vs.length<64)
 (hk:∀h',(∀b o,b≠a->s.heap.get? b=some o->h'.get? b=some o)->2<=vs.length->FZ prog w A vs lt {s with heap:=h'})
 (h:∀p:WK,cH vs.length p->zL lt p vs.length->P (.done (.ret .none)) {s with heap:=sortedHeap s.heap a vs (p.toList.map λi=>vs.getD i Value.none).toArray}) :
  wpAny (model prog w) A (Builtin.«list.sort» ⟨[.ref a],[]⟩) P E s:=by
 rw[list_sort_plain];have ha:a<s.heap.objs.size:=Sv ho;refine Sm (listItems_at ho rfl ?_);refine Sm (listUpdate_at ho rfl ?_);obtain⟨e1,ho1⟩:∃e1,(s.heap.update a (Obj.mapSeq λ_=>#[])).get? a=some (seqObj "list" #[] e1):=⟨_,get?_update_seq ho (λ_=>#[])⟩;refine Sm (seqEpoch_at ho1 rfl ?_);refine Sm (wpAny_newTuple ?_);refine Sm (wpAny_newList ?_);refine Tf ?_;have ho6:(((s.heap.update a (Obj.mapSeq λ_=>#[])).push (seqObj "tuple" vs.toArray 0)).push (seqObj "list" #[] 0)).get? a=some (seqObj "list" #[] e1):=by rw[UX _ _ _ (by rw[size_push',Vq];exact SI (Um ha)),UX _ _ _ (by rw[Vq];exact SI ha)];exact ho1
 show wpAny (model prog w) A _ P E {s with heap:=((s.heap.update a (Obj.mapSeq λ_=>#[])).push (seqObj "tuple" vs.toArray 0)).push (seqObj "list" #[] 0)};dsimp only;by_cases h2:vs.toArray.size<2
 ·rw[if_pos h2,if_pos h2];refine Sm (Sn ?_);rw[StateT.run_pure];refine Sm (Sn ?_);dsimp only;refine Sm (seqEpoch_at ho6 rfl ?_);refine Sm (listUpdate_at ho6 rfl ?_ (hsz2:=by rw[Array.size_map];show(pairsOf vs).size<=_;rw[pairsOf_size,Ul];omega));simp only[bne_self_eq_false,SF,Tz];have hl:vs.length<2:=by simpa using h2
  have e:(arrOf (SortSt.mk' general' (vs.toArray.zip vs.toArray) #[] 7 none)).map (·.2)=(((List.range vs.length).toArray).toList.map λi=>vs.getD i Value.none).toArray:=by
   show(vs.toArray.zip vs.toArray).map (·.2)=_
   match vs,hl with
   | [],_=>simp
   | [x],_=>simp[List.range_succ]
  rw[e];exact Sn (h _ ⟨List.Perm.refl _⟩ λi j h1 h2=>by omega)
 ·rw[if_neg h2,if_neg h2];have hl:2<=vs.length:=by simp at h2;exact h2
  refine Sm (TZ (hk _ (λb o hb q=>?_) hl) (λκ s' hκ=>?_) λ_ _ x=>x.elim)
  ·have hbs:b<s.heap.objs.size:=Sv q;rw[UX _ _ _ (by rw[size_push',Vq];exact SI (Um hbs)),UX _ _ _ (by rw[Vq];exact SI hbs),Heap.get?_update_ne _ _ _ _ hb];exact q
  ·obtain⟨rfl,hc⟩:=hκ
   refine Sm (TZ (kat_run (E:=E) (vs:=vs) (ks:=vs) (κ:=κ) (G:=λp s'=>s'={s with heap:=((s.heap.update a (Obj.mapSeq λ_=>#[])).push (seqObj "tuple" vs.toArray 0)).push (seqObj "list" #[] 0)}/\cH vs.length p/\zL lt p vs.length)
    (Q:=λst' s'=>s'={s with heap:=((s.heap.update a (Obj.mapSeq λ_=>#[])).push (seqObj "tuple" vs.toArray 0)).push (seqObj "list" #[] 0)}/\failedOf st'=none/\∃p,cH vs.length p/\zL lt p vs.length/\(arrOf st').map (·.2)=List.toArray (p.toList.map λi=>vs.getD i Value.none))
    rfl hl h64 (λp st' s' a1 a2 a3 a4=>⟨a4.1,a3,p,a4.2.1,a4.2.2,kat_snds rfl a2⟩) ?_) ?_ λ_ _ e=>e)
   ·refine KasT.FW (lt:=lt) (n:=vs.length) (P:=λp=>cH vs.length p/\zL lt p vs.length) (I:=λs'=>s'={s with heap:=((s.heap.update a (Obj.mapSeq λ_=>#[])).push (seqObj "tuple" vs.toArray 0)).push (seqObj "list" #[] 0)}) ?_ ?_ _ _ (FY O (by omega)) rfl
    ·rintro i j C s' hi hj rfl q;exact hc i j C hi hj (q _ rfl)
    ·rintro p s' hp rfl;exact⟨rfl,hp⟩
   ·rintro⟨⟨⟩,st'⟩ s' ⟨rfl,hf,p,hp,hu,e⟩;dsimp only at hf e ⊢;rw[e];refine Sm (seqEpoch_at ho6 rfl ?_);refine Sm (listUpdate_at ho6 rfl ?_ (hsz2:=by rw[S5,SG,TQ,hp.size,Ul];omega));rw[hf];simp only[bne_self_eq_false,SF,Tz];exact Sn (h p hp hu)
theorem uc(hl:s.heap.IsList l vs.toArray)(O:nP lt vs.length)(h64:vs.length<64)
 (hk:∀h',(∀b o,s.heap.get? b=some o->h'.get? b=some o)->2<=vs.length->FZ prog w A.in1.in1 vs lt {s with heap:=h'})
 (h:∀p:WK,cH vs.length p->zL lt p vs.length->Q (.ref (s.heap.objs.size+1)) {s with heap:=sortedAll s.heap vs (p.toList.map λi=>vs.getD i Value.none).toArray}) :
  wpAny (model prog w) A (call (.builtin "sorted") [.ref l]) Q E s:=by
 refine Calls.call_function_entry kind_sorted plain_sorted entry_sorted (args_sorted1 _) ?_;unfold Builtin.«sorted»;refine Sm (m:=checkCount "sorted" 1 1 _) (Sn ?_);refine Sm (collect_list hl ?_);refine Sm (wpAny_newList ?_);have hsz:((s.heap.push (seqObj "list" #[] 0)).update s.heap.objs.size (Obj.mapSeq (·++vs.toArray))).objs.size=s.heap.objs.size+1:=by rw[Vq,size_push']
 have hoL:(((s.heap.push (seqObj "list" #[] 0)).update s.heap.objs.size (Obj.mapSeq (·++vs.toArray))).push (seqObj "list" vs.toArray 0)).get? (s.heap.objs.size+1)=some (seqObj "list" vs.toArray 0):=by rw[<- hsz];exact Sy _ rfl
 show wpAny _ _ _ _ _ {s with heap:=((s.heap.push (seqObj "list" #[] 0)).update s.heap.objs.size (Obj.mapSeq (·++vs.toArray))).push (seqObj "list" vs.toArray 0)};rw[hsz];refine Sm (Tf (Te slot_list_sort ⟨_,hoL,rfl⟩ entry_list_sort (nX hoL O h64 (λh' k h2=>hk h' (λb o q=>?_) h2) λp a1 a2=>⟨_,rfl,?_⟩) (args_list_sort _)))
 ·have hlt:b<s.heap.objs.size:=Sv q;refine k b o (SI (Um hlt)) ?_;show(((s.heap.push (seqObj "list" #[] 0)).update s.heap.objs.size (Obj.mapSeq (·++vs.toArray))).push (seqObj "list" vs.toArray 0)).get? b=some o;rw[UX _ _ _ (by rw[hsz];exact SI (Um hlt)),Heap.get?_update_ne _ _ _ _ (SI hlt),UX _ _ _ (SI hlt)];exact q
 ·exact Sn ⟨_,rfl,h p a1 a2⟩
end
end PySem.W
namespace L2
open PySem PySem.Spec PyProof.Rows
open PySem.W (nP cH zL FZ uc KatLex kat_lt kat_one kas_mapM kas_first_eq Looks pat)
noncomputable def oB(x y:Str):Bool:=decide (x.cps.toList<y.cps.toList)
theorem yn(x:Str):oB x x=false:=strKind.irrefl _
theorem BG(h:oB x y=true)(h':oB y z=true):oB x z=true:=strKind.trans _ _ _ h h'
theorem F0(h:oB x y=true):oB y x=false:=by
 cases e:oB y x with
 |false=>rfl
 |true=>have:=BG h e;grind[yn]
theorem CT(h:oB x y=false)(h':oB y x=false):x=y:=by have e:=strKind.total x.cps.toList y.cps.toList h h';cases x;simp_all
section
variable {P:WL} {w:World} {A:WN} {E:Wv} {s:WO}
theorem zM{vs:WC}(h2:1<=vs.length)(hT:∀v∈vs,Looks M s.heap (typeOf v) T)(hT2:(T==T)=true)(h:Q (some T) s) :
  wpAny M A (oneTypeOnly' vs.toArray) Q E s:=by
 obtain⟨v,rest,rfl⟩:∃v rest,vs=v::rest:=by
  match vs,h2 with
  |v::r,_=>exact⟨v,r,rfl⟩
 rw[oneTypeOnly'_eq,List.mapM_toArray,map_eq_pure_bind];refine Sm (Sm (kas_mapM (r:=T) _ (λv hv Q' hq=>(hT v hv).here hq) (Sn ?_)));have hall:((List.map (λ_=>T) (v::rest)).toArray.all λx=>x==T)=true:=by simp only[List.all_toArray,List.all_map,SR];intro _ _;exact hT2
 have h0:(List.map (λ_=>T) (v::rest)).toArray[0]?=some T:=by simp
 rw[h0];simp only[hall,Tg];exact Sn h
end
section
variable {X:Cx} {k:Nat}
theorem kH{α:Type}(d:α):∀(xs:List α),(List.range xs.length).map (λi=>xs.getD i d)=xs
 | []=>rfl
 |x::xs=>by
  rw[SM,List.range_succ_eq_map,SV,V9];have:=kH d xs
  conv=>rhs;rw[<- this]
  rfl
theorem EA(r:Vals vs us)(i:Nat)(hi:i<vs.length):RelV (vs.getD i .non) (us.getD i .none):=by
 obtain⟨u,h1,h2⟩:=r.get (i:=i) (x:=vs[i]) (by grind)
 simp_all
theorem xb(r:Vals vs us):∀(l:List Nat),(∀i∈l,i<vs.length)->Vals (l.map λi=>vs.getD i .non) (l.map λi=>us.getD i .none)
 | [],_=>.nil
 |i::l,h=>.cons (EA r i (h i (.head _))) (xb r l λj hj=>h j (.tail _ hj))
theorem xc(r:bh H ds vs)(dd:PyData):∀(l:List Nat),(∀i∈l,i<vs.length)->bh H (l.map λi=>ds.getD i dd) (l.map λi=>vs.getD i .non)
 | [],_=>bh.nil
 |i::l,h=>by
  refine bh.cons ?_ (xc r dd l λj hj=>h j (.tail _ hj));have hi:=h i (.head _);obtain⟨d,h1,h2⟩:=r.get (i:=i) (v:=vs[i]) (by grind)
  simp_all
end
end L2
namespace Ml
open PySem
structure Xc where
 cls:Str
 args:WA
inductive D where
 |dat (d:PyData)
 |ref (i:Nat)
 |jt (t:Bool) (kvs:Wx)
 |set (xs:WA)
 |fn (n:Str)
 |exc (x:Xc)
 |scr (ns:List Int)
 |ktup (xs:WA)
 |rpr (x:Str)
inductive MO where
 |lst (xs:List D)
 |jt (t:Bool) (kvs:Wx)
 |ins (C:Str) (fs:List (Str×D))
 |tab (P:Addr) (q:Str)
noncomputable abbrev Hm:=List MO
noncomputable abbrev Fm:=List (Option D)
inductive R (α:Type) where
 |ok (a:α) (h:Hm)
 |exc (x:Xc) (h:Hm)
 |bad
noncomputable def R.bind{α β:Type}:R α->(α->Hm->R β)->R β
 |.ok a h,f=>f a h
 |.exc x h,_=>.exc x h
 |.bad,_=>.bad
noncomputable def R.ud{α:Type}:R α->R α
 |.exc _ _=>.bad
 |r=>r
@[simp] theorem R.cK:(R.ok a h).ud=.ok a h:=rfl
@[simp] theorem R.Pq:(R.bad:R α).ud=.bad:=rfl
@[simp] theorem R.Pr:(R.exc x h:R α).ud=.bad:=rfl
@[simp] theorem R.aJ{f:α->Hm->R β}:(R.ok a h).bind f=f a h:=rfl
@[simp] theorem R.F1{f:α->Hm->R β}:(R.exc x h).bind f=.exc x h:=rfl
@[simp] theorem R.Oy:R.bad.bind f=.bad:=rfl
theorem R.bind_assoc(r:R α)(f:α->Hm->R β)(g:β->Hm->R γ):(r.bind f).bind g=r.bind λa h=>(f a h).bind g:=by cases r<;>rfl
noncomputable abbrev ME:=Fm->Hm->R D
noncomputable abbrev MT:=Fm->Hm->R Bool
noncomputable abbrev MA:=Fm->Hm->R (List D)
inductive Fl where
 |nx (ρ:Fm)
 |rt (d:D)
 |bk (ρ:Fm)
 |ct (ρ:Fm)
noncomputable abbrev MS:=Fm->Hm->R Fl
noncomputable abbrev Fn:=List D->Hm->R D
noncomputable abbrev D.none:D:=.dat .none
noncomputable abbrev D.bool(b:Bool):D:=.dat (.bool b)
noncomputable abbrev D.int(i:Int):D:=.dat (.int i)
noncomputable abbrev D.str(s:Str):D:=.dat (.str s)
noncomputable def ae(i:Nat):ME:=λρ h=>match ρ[i]? with
 |some (some d)=>.ok d h
 |_=>.bad
noncomputable def aj(d:PyData):ME:=λ_ h=>.ok (.dat d) h
noncomputable def R7(n:Str):ME:=λ_ h=>.ok (.fn n) h
noncomputable def ah:MA:=λ_ h=>.ok [] h
noncomputable def aa(e:ME)(a:MA):MA:=λρ h=>(e ρ h).bind λx h1=>(a ρ h1).bind λxs h2=>.ok (x::xs) h2
noncomputable def ai(f:D->D->Hm->R D)(a b:ME):ME:=λρ h=>(a ρ h).bind λx h1=>(b ρ h1).bind λy h2=>f x y h2
noncomputable def KP(f:D->Hm->R D)(a:ME):ME:=λρ h=>(a ρ h).bind λx h1=>f x h1
noncomputable def ag(f:Fn)(a:MA):ME:=λρ h=>(a ρ h).bind λxs h1=>f xs h1
noncomputable def aO(e:ME):MT:=λρ h=>(e ρ h).bind λx h1=>match x with
 |.dat (.bool b)=>.ok b h1
 |_=>.bad
noncomputable def i6(t:MT):MT:=λρ h=>(t ρ h).bind λb h1=>.ok (!b) h1
noncomputable def o3(t u:MT):MT:=λρ h=>(t ρ h).bind λb h1=>if b then u ρ h1 else .ok false h1
noncomputable def vU(t u:MT):MT:=λρ h=>(t ρ h).bind λb h1=>if b then .ok true h1 else u ρ h1
noncomputable def QH(a b:ME):ME:=λρ h=>(aO a ρ h).bind λc h1=>if c then b ρ h1 else .ok (.bool false) h1
noncomputable def R8(a b:ME):ME:=λρ h=>(aO a ρ h).bind λc h1=>if c then .ok (.bool true) h1 else b ρ h1
noncomputable def QJ(a:ME):ME:=λρ h=>(aO a ρ h).bind λc h1=>.ok (.bool !c) h1
noncomputable def R9(t:MT)(a b:ME):ME:=λρ h=>(t ρ h).bind λc h1=>if c then a ρ h1 else b ρ h1
noncomputable def D.data:D->Option PyData
 |.dat d=>some d
 |_=>Option.none
noncomputable def jb:List D->Option WA
 | []=>some []
 |x::xs=>match x.data,jb xs with
  |some d,some ds=>some (d::ds)
  |_,_=>Option.none
theorem ki(ds:WA):jb (ds.map D.dat)=some ds:=by
 induction ds with
 |nil=>rfl
 |cons d ds ih=>simp[jb,D.data,ih]
noncomputable def mj(n:Nat):Bool:=decide (n<=16777216)
noncomputable def lR(xs:List D)(h:Hm):R D:=match jb xs with
 |some ds=>if mj ds.length then .ok (.dat (.tuple ds)) h else .bad
 |Option.none=>.bad
noncomputable def eL(xs:List D)(h:Hm):R D:=match jb xs with
 |some ds=>if mj ds.length then .ok (.dat (.list ds)) h else .bad
 |Option.none=>.bad
noncomputable def CU(xs:List D)(h:Hm):R D:=if mj xs.length then .ok (.ref h.length) (h++[.lst xs])else .bad
noncomputable def br(a:MA):ME:=ag lR a
noncomputable def jc(a:MA):ME:=ag eL a
noncomputable def ue(a:MA):ME:=ag CU a
noncomputable def dz:MS:=λρ h=>.ok (.nx ρ) h
noncomputable def bj(a b:MS):MS:=λρ h=>(a ρ h).bind λf h1=>match f with
 |.nx ρ1=>b ρ1 h1
 |f=>.ok f h1
noncomputable def bU(i:Nat)(e:ME):MS:=λρ h=>(e ρ h).bind λx h1=>.ok (.nx (ρ.set i (some x))) h1
noncomputable def hG(e:ME):MS:=λρ h=>(e ρ h).bind λ_ h1=>.ok (.nx ρ) h1
noncomputable def cC(e:ME):MS:=λρ h=>(e ρ h).bind λx h1=>.ok (.rt x) h1
noncomputable def nY(t:MT)(a b:MS):MS:=λρ h=>(t ρ h).bind λc h1=>if c then a ρ h1 else b ρ h1
noncomputable def Mu:MS:=λρ h=>.ok (.bk ρ) h
noncomputable def Oz:MS:=λρ h=>.ok (.ct ρ) h
noncomputable abbrev MG:=D->Fm->Hm->R Fm
noncomputable def aq(i:Nat):MG:=λx ρ h=>.ok (ρ.set i (some x)) h
noncomputable abbrev Fh:=List D->Fm->Hm->R Fm
noncomputable def iI:Fh:=λxs ρ h=>match xs with
 | []=>.ok ρ h
 |_=>.bad
noncomputable def bP(g:MG)(gs:Fh):Fh:=λxs ρ h=>match xs with
 | []=>.bad
 |x::xs=>(g x ρ h).bind λρ1 h1=>gs xs ρ1 h1
noncomputable def i7(gs:Fh):MG:=λx ρ h=>match x with
 |.dat (.tuple ds)=>gs (ds.map D.dat) ρ h
 |_=>.bad
noncomputable def mG(g:MG)(e:ME):MS:=λρ h=>(e ρ h).bind λx h1=>(g x ρ h1).bind λρ1 h2=>.ok (.nx ρ1) h2
noncomputable def mH:List Nat->List D->Fm->Option Fm
 | [],[],ρ=>some ρ
 |i::is,x::xs,ρ=>mH is xs (ρ.set i (some x))
 |_,_,_=>Option.none
noncomputable def F2(is:List Nat)(a:MA):MS:=λρ h=>(a ρ h).bind λxs h1=>match mH is xs ρ with
 |some ρ1=>.ok (.nx ρ1) h1
 |Option.none=>.bad
noncomputable def CV(e:ME):MA:=λρ h=>(e ρ h).bind λx h1=>match x with
 |.dat (.tuple ds)=>.ok (ds.map D.dat) h1
 |_=>.bad
noncomputable def F3(e:ME):MA:=λρ h=>(e ρ h).bind λx h1=>match x with
 |.dat (.list ds)=>.ok (ds.map D.dat) h1
 |_=>.bad
noncomputable def signs(x:Str):List D:=(List.range x.cps.size).map λ(i:Nat)=>D.str ⟨#[x.cps.getD i 0]⟩
noncomputable def F4(e:ME):MA:=λρ h=>(e ρ h).bind λx h1=>match x with
 |.dat (.str s)=>.ok (signs s) h1
 |_=>.bad
noncomputable def nums(lo:Int)(n:Nat):List D:=(List.range n).map λ(i:Nat)=>D.int (lo+(i:Int))
noncomputable def rQ(a:MA):MA:=λρ h=>(a ρ h).bind λxs h1=>match xs with
 | [.dat (.int j)]=>if -(2^62)<=j/\j<2^62 then .ok (nums 0 j.toNat) h1 else .bad
 |_=>.bad
noncomputable def Mv(a:MA):MA:=λρ h=>(a ρ h).bind λxs h1=>match xs with
 | [.dat (.int i),.dat (.int j)]=>if -(2^62)<=i/\i<2^62/\-(2^62)<=j/\j<2^62 then .ok (nums i (j-i).toNat) h1 else .bad
 |_=>.bad
noncomputable def yo:WA->WA->List D
 |x::xs,y::ys=>.dat (.tuple [x,y])::yo xs ys
 |_,_=>[]
noncomputable def CW(a:MA):MA:=λρ h=>(a ρ h).bind λxs h1=>match xs with
 | [.dat (.tuple ds),.dat (.tuple es)]=>.ok (yo ds es) h1
 |_=>.bad
noncomputable def bX(g:MG)(b:MS):List D->Fm->Hm->R Fl
 | [],ρ,h=>.ok (.nx ρ) h
 |x::xs,ρ,h=>(g x ρ h).ud.bind λρ1 h1=>(b ρ1 h1).ud.bind λf h2=>match f with
  |.nx ρ2=>bX g b xs ρ2 h2
  |.ct ρ2=>bX g b xs ρ2 h2
  |.bk ρ2=>.ok (.nx ρ2) h2
  |.rt d=>.ok (.rt d) h2
noncomputable def nQ(it:MA)(g:MG)(b:MS):MS:=λρ h=>(it ρ h).ud.bind λxs h1=>bX g b xs ρ h1
noncomputable def ff(n:Nat)(ρ:Fm)(g:MG)(t:MT)(e:ME):List D->Hm->R (List D)
 | [],h=>.ok [] h
 |x::xs,h=>(g x (List.replicate n none++ρ) h).ud.bind λρ1 h1=>(t ρ1 h1).ud.bind λc h2=>
  if c then(e ρ1 h2).ud.bind λy h3=>(ff n ρ g t e xs h3).bind λys h4=>.ok (y::ys) h4
  else ff n ρ g t e xs h2
noncomputable def cX:MT:=λ_ h=>.ok true h
noncomputable def mI(n:Nat)(it:MA)(g:MG)(t:MT)(e:ME):MA:=λρ h=>(it ρ h).bind λxs h1=>if mj xs.length then ff n ρ g t e xs h1 else .bad
noncomputable def bZ(n:Nat)(it:MA)(g:MG)(t:MT)(e:ME):ME:=ag eL (mI n it g t e)
noncomputable def uf:Fl->Hm->R D
 |.rt d,h=>.ok d h
 |.nx _,h=>.ok D.none h
 |_,_=>.bad
noncomputable def bu(p n:Nat)(b:MS):Fn:=λxs h=>if xs.length=p then(b (xs.map some++List.replicate (n-p) none) h).bind uf else .bad
noncomputable def D.below(n:Nat):D->Bool
 |.ref i=>decide (i<n)
 |_=>true
noncomputable def MO.below(n:Nat):MO->Bool
 |.lst xs=>xs.all (D.below n)
 |.jt _ _=>true
 |.ins _ fs=>fs.all λp=>p.2.below n
 |.tab _ _=>true
noncomputable def f7(f:Fn):Fn:=λxs h=>match f xs h with
 |.ok d h'=>if d.below h.length&&(h'.take h.length).all (MO.below h.length)&&decide (h.length<=h'.length)then .ok d (h'.take h.length)else .bad
 |.exc x h'=>if(h'.take h.length).all (MO.below h.length)&&decide (h.length<=h'.length)then .exc x (h'.take h.length)else .bad
 |.bad=>.bad
noncomputable def nO(f:D->Option PyData):List D->Option WA
 | []=>some []
 |x::xs=>match f x,nO f xs with
  |some d,some ds=>some (d::ds)
  |_,_=>Option.none
noncomputable def zv(h:Hm):Nat->D->Option PyData
 |_,.dat d=>some d
 |_,.ktup xs=>some (.tuple xs)
 |n+1,.ref i=>match h[i]? with
  |some (.lst xs)=>(nO (zv h n) xs).map .list
  |_=>Option.none
 |_,_=>Option.none
noncomputable abbrev BH(h:Hm)(x:D):Option PyData:=zv h 3 x
@[simp] theorem yp(h:Hm)(n:Nat)(d:PyData):zv h n (.dat d)=some d:=by cases n<;>rfl
noncomputable def listOf(x:D)(h:Hm):Option WA:=match x with
 |.dat (.list ds)=>some ds
 |.ref i=>match h[i]? with
  |some (.lst ys)=>jb ys
  |_=>Option.none
 |_=>Option.none
noncomputable def dA(x y:D)(h:Hm):R D:=match x,y with
 |.dat (.int i),.dat (.int j)=>.ok (.int (i+j)) h
 |.dat (.str s),.dat (.str t)=>if mj (s.length+t.length)then .ok (.str (s++t)) h else .bad
 |.dat (.tuple xs),.dat (.tuple ys)=>if mj (xs.length+ys.length)then .ok (.dat (.tuple (xs++ys))) h else .bad
 |.dat (.list xs),.dat (.list ys)=>if mj (xs.length+ys.length)then .ok (.dat (.list (xs++ys))) h else .bad
 |_,_=>.bad
noncomputable def F5(x y:D)(h:Hm):R D:=match x,y with
 |.dat (.int i),.dat (.int j)=>.ok (.int (i-j)) h
 |_,_=>.bad
noncomputable def CY(i j:Int):Bool:=(decide (-(2^64)<i)&&decide (i<2^64)) || (decide (-(2^64)<j)&&decide (j<2^64))
noncomputable def pb(x y:D)(h:Hm):R D:=match x,y with
 |.dat (.int i),.dat (.int j)=>if CY i j then .ok (.int (i*j)) h else .bad
 |.dat (.list xs),.dat (.int k)=>if mj (xs.length*k.toNat)&&decide (-(2^63)<=k)&&decide (k<2^63)then .ok (.dat (.list (List.replicate k.toNat xs).flatten)) h else .bad
 |_,_=>.bad
noncomputable def oMod(x y:D)(h:Hm):R D:=match x,y with
 |.dat (.int i),.dat (.int j)=>if 0<j then .ok (.int (i % j)) h else .bad
 |_,_=>.bad
noncomputable def xf(x y:D)(h:Hm):R D:=match x,y with
 |.dat (.int i),.dat (.int j)=>if 0<j/\j<1073741824 then .ok (.int (i / j)) h else .bad
 |_,_=>.bad
noncomputable def QK(x:D)(h:Hm):R D:=match x with
 |.dat (.int i)=>.ok (.int (-i)) h
 |_=>.bad
noncomputable def noDict(d:PyData):Bool:=!d.hasDict
noncomputable def eqQ(d e:PyData):Option Bool:=if noDict d&&noDict e&&decide (min d.depth e.depth<=40)then some (PyData.eqv d e)else Option.none
noncomputable def EB(d e:PyData):Option Bool:=match d,e with
 |.str _,.dict _=>some false
 |.tuple ds,.dict _=>if noDict (.tuple ds)then some false else Option.none
 |d,e=>eqQ d e
noncomputable def oEq(x y:D)(h:Hm):R D:=match x,y with
 |.rpr s,.rpr t=>.ok (.bool (decide (s=t))) h
 |x,y=>match BH h x,BH h y with
  |some d,some e=>match eqQ d e with
   |some b=>.ok (.bool b) h
   |Option.none=>.bad
  |_,_=>.bad
noncomputable def kI(x y:D)(h:Hm):R D:=match x,y with
 |.rpr s,.rpr t=>.ok (.bool (!decide (s=t))) h
 |x,y=>match BH h x,BH h y with
  |some d,some e=>match eqQ d e with
   |some b=>.ok (.bool !b) h
   |Option.none=>.bad
  |_,_=>.bad
noncomputable def oB(x y:Str):Bool:=decide (x.cps.toList<y.cps.toList)
mutual
def cx:PyData->PyData->Option Bool
 |.int i,.int j=>some (decide (i<j))
 |.str x,.str y=>some (oB x y)
 |.tuple xs,.tuple ys=>dG xs ys
 |_,_=>Option.none
def dG:WA->WA->Option Bool
 | [],[]=>some false
 | [],_::_=>some true
 |_::_,[]=>some false
 |x::xs,y::ys=>if PyData.eqv x y then dG xs ys else cx x y
end
noncomputable def oLt(x y:D)(h:Hm):R D:=match x,y with
 |.dat d,.dat e=>if noDict d&&noDict e&&decide (min d.depth e.depth<=40)then match cx d e with
  |some b=>.ok (.bool b) h
  |Option.none=>.bad
  else .bad
 |_,_=>.bad
noncomputable def oLe(x y:D)(h:Hm):R D:=match x,y with
 |.dat (.int i),.dat (.int j)=>.ok (.bool (decide (i<=j))) h
 |.dat (.str s),.dat (.str t)=>.ok (.bool (!oB t s)) h
 |_,_=>.bad
noncomputable def Pt(x y:D)(h:Hm):R D:=match x,y with
 |.dat (.int i),.dat (.int j)=>.ok (.bool (decide (j<i))) h
 |_,_=>.bad
noncomputable def OA(x y:D)(h:Hm):R D:=match x,y with
 |.dat (.int i),.dat (.int j)=>.ok (.bool (decide (j<=i))) h
 |_,_=>.bad
noncomputable def F6(x:PyData):WA->Option Bool
 | []=>some false
 |y::ys=>match EB y x,F6 x ys with
  |some a,some b=>some (a || b)
  |_,_=>Option.none
noncomputable def iu:PyData->Bool
 |.tuple _=>true
 |_=>false
noncomputable def iw:PyData->Bool
 |.str _=>true
 |_=>false
noncomputable def pe(k:PyData)(kvs:Wx):Bool:=kvs.any λp=>PyData.eqv p.1 k
noncomputable def jz(y:D)(h:Hm):Option (Bool×Wx):=match y with
 |.jt t kvs=>some (t,kvs)
 |.ref i=>match h[i]? with
  |some (.jt t kvs)=>some (t,kvs)
  |_=>Option.none
 |_=>Option.none
mutual
def aG:PyData->Bool
 |.str _=>true
 |.tuple ds=>bE ds
 |_=>false
def bE:WA->Bool
 | []=>true
 |d::ds=>aG d&&bE ds
end
noncomputable def keyOk(t:Bool)(k:PyData):Bool:=if t then iu k&&aG k&&decide (k.depth<=8)else iw k
noncomputable def yq(x:D)(kvs:Wx)(t:Bool):Option Bool:=match x with
 |.dat d=>if keyOk t d then some (pe d kvs)else Option.none
 |_=>Option.none
noncomputable def pf(x y:D)(h:Hm):Option Bool:=match y with
 |.dat (.str s)=>match x with
  |.dat (.str t)=>some (!(Builtin.Str.occurrences s t 0 s.length 1).isEmpty)
  |_=>Option.none
 |y=>match BH h x,BH h y with
  |some d,some (.tuple ds)=>F6 d ds
  |some d,some (.list ds)=>F6 d ds
  |_,_=>Option.none
noncomputable def findIn(x y:D)(h:Hm):Option Bool:=match jz y h with
 |some p=>yq x p.2 p.1
 |Option.none=>pf x y h
noncomputable def qz(x y:D)(h:Hm):R D:=match findIn x y h with
 |some b=>.ok (.bool b) h
 |Option.none=>.bad
noncomputable def kj(x y:D)(h:Hm):R D:=match findIn x y h with
 |some b=>.ok (.bool !b) h
 |Option.none=>.bad
noncomputable def nZ:PyData->Bool
 |.none|.bool _|.int _|.str _=>true
 |_=>false
noncomputable def dput(kvs:Wx)(k v:PyData):Wx:=
 if pe k kvs then kvs.map (λp=>if PyData.eqv p.1 k then(p.1,v)else p)else kvs++[(k,v)]
noncomputable def wb(kvs:Wx)(k:PyData):Option PyData:=(kvs.find? λp=>PyData.eqv p.1 k).map (·.2)
noncomputable def wU(n:Nat)(i:Int):Option Nat:=if 0<=i then(if i<n then some i.toNat else Option.none)else if -(n:Int)<=i then some (i+n).toNat else Option.none
noncomputable def ox{α:Type}(xs:List α)(i:Int):Option α:=(wU xs.length i).bind λj=>xs[j]?
noncomputable def wc(x y:D)(h:Hm):R D:=match y with
 |.dat (.int i)=>match x with
  |.dat (.tuple ds)=>match ox ds i with|some d=>.ok (.dat d) h|Option.none=>.bad
  |.dat (.list ds)=>match ox ds i with|some d=>.ok (.dat d) h|Option.none=>.bad
  |.ref j=>match h[j]? with
   |some (.lst xs)=>match ox xs i with|some d=>.ok d h|Option.none=>.bad
   |_=>.bad
  |.scr ns=>match ox ns i with|some n=>.ok (.int n) h|Option.none=>.bad
  |_=>.bad
 |_=>.bad
noncomputable def cn(x y:D)(h:Hm):R D:=match jz x h with
 |some p=>match y with
  |.dat (.str k)=>if p.1 then .bad else match wb p.2 (.str k)with
   |some v=>.ok (.dat v) h
   |Option.none=>.bad
  |_=>.bad
 |Option.none=>wc x y h
noncomputable def fZ(n d:Nat):Option Int->Nat
 |Option.none=>d
 |some v=>if v<0 then(v+(n:Int)).toNat else min v.toNat n
noncomputable def cut{α:Type}(ds:List α)(lo hi:Option Int):List α:=(ds.drop (fZ ds.length 0 lo)).take (fZ ds.length ds.length hi-fZ ds.length 0 lo)
noncomputable abbrev KQ:=Fm->Hm->R (Option Int)
noncomputable def CZ:KQ:=λ_ h=>.ok Option.none h
noncomputable def n0(e:ME):KQ:=λρ h=>(e ρ h).bind λx h1=>match x with
 |.dat (.int i)=>.ok (some i) h1
 |_=>.bad
noncomputable def OB(x:D)(lo hi:Option Int)(h:Hm):R D:=match x with
 |.dat (.tuple ds)=>.ok (.dat (.tuple (cut ds lo hi))) h
 |.dat (.list ds)=>.ok (.dat (.list (cut ds lo hi))) h
 |_=>.bad
noncomputable def Pu(e:ME)(lo hi:KQ):ME:=λρ h=>(e ρ h).bind λx h1=>(lo ρ h1).bind λl h2=>(hi ρ h2).bind λu h3=>OB x l u h3
noncomputable def gb:Fn:=λxs h=>match xs with
 | [.dat (.str s)]=>if mj s.length then .ok (.int s.length) h else .bad
 | [.dat (.tuple ds)]=>.ok (.int ds.length) h
 | [.dat (.list ds)]=>.ok (.int ds.length) h
 | [.ref i]=>match h[i]? with
  |some (.lst ys)=>.ok (.int ys.length) h
  |_=>.bad
 | [.scr ns]=>.ok (.int ns.length) h
 |_=>.bad
noncomputable def bools:WA->Option (List Bool)
 | []=>some []
 |.bool b::ds=>(bools ds).map (b::·)
 |_=>Option.none
theorem EC(bs:List Bool):bools (bs.map .bool)=some bs:=by
 induction bs with
 |nil=>rfl
 |cons b bs ih=>simp[bools,ih]
noncomputable def yr:Fn:=λxs h=>match xs with
 | [.dat (.list ds)]=>match bools ds with
  |some bs=>.ok (.bool (bs.all id)) h
  |Option.none=>.bad
 |_=>.bad
noncomputable def isTup:PyData->Bool|.tuple _=>true|_=>false
noncomputable def isStr:PyData->Bool|.str _=>true|_=>false
noncomputable def isInt:PyData->Bool|.int _|.bool _=>true|_=>false
noncomputable def ug:PyData->Bool|.bool _=>true|_=>false
noncomputable def zN(f:PyData->Bool):D->Hm->R D:=λx h=>match x with
 |.dat d=>.ok (.bool (f d)) h
 |_=>.bad
noncomputable def je(x:Str):WA:=(List.range x.cps.size).map λ(i:Nat)=>.str ⟨#[x.cps.getD i 0]⟩
noncomputable def dH:Fn:=λxs h=>match xs with
 | [.dat (.tuple ds)]=>.ok (.dat (.tuple ds)) h
 | [.dat (.str s)]=>if mj s.cps.size then .ok (.dat (.tuple (je s))) h else .bad
 | [x]=>match listOf x h with
  |some ds=>.ok (.dat (.tuple ds)) h
  |Option.none=>.bad
 |_=>.bad
noncomputable def uh:Fn:=λxs h=>match xs with
 | [.dat (.tuple ds)]=>.ok (.dat (.list ds)) h
 | [x]=>match listOf x h with
  |some ds=>.ok (.dat (.list ds)) h
  |Option.none=>.bad
 |_=>.bad
noncomputable def BI(lt:PyData->PyData->Bool)(x:PyData):WA->WA
 | []=>[x]
 |y::ys=>if lt y x then y::BI lt x ys else x::y::ys
noncomputable def bY(lt:PyData->PyData->Bool):WA->WA
 | []=>[]
 |x::xs=>BI lt x (bY lt xs)
noncomputable def ltB(d e:PyData):Bool:=(cx d e).getD false
noncomputable def zO(d:PyData):Bool:=d.showable&&noDict d&&decide (d.depth<=40)&&mj d.shown.length
noncomputable def F7(d:PyData):Bool:=match d with
 |.dict _=>d.showable&&decide (d.depth<=20)&&mj d.shown.length
 |_=>false
noncomputable def gB:Fn:=λxs h=>match xs with
 | [x]=>match BH h x with
  |some d=>if zO d || F7 d then .ok (.rpr d.shown) h else .bad
  |Option.none=>.bad
 |_=>.bad
noncomputable def ph:Fn:=λxs h=>match xs with
 | [.dat (.int i),.dat (.int j)]=>if 0<j/\j<1073741824 then .ok (.dat (.tuple [.int (i / j),.int (i % j)])) h else .bad
 |_=>.bad
noncomputable def ED:Fn:=λxs h=>match xs with
 | [.dat (.int i),.dat (.int j)]=>.ok (.int (if j>i then j else i)) h
 |_=>.bad
noncomputable def ui:Fn:=λxs h=>match xs with
 | [.dat (.int i)]=>.ok (.int i) h
 | [.dat (.bool b)]=>.ok (.int (if b then 1 else 0)) h
 |_=>.bad
noncomputable def eF(x y:D)(h:Hm):R D:=match x with
 |.ref i=>match h[i]? with
  |some (.lst xs)=>if decide (xs.length<16777216)then .ok D.none (h.set i (.lst (xs++[y])))else .bad
  |_=>.bad
 |_=>.bad
noncomputable def qK(x y:D)(h:Hm):R D:=match x,y with
 |.ref i,.dat (.int k)=>match h[i]? with
  |some (.lst xs)=>if 0<=k/\k<xs.length/\k<1000000 then match xs[k.toNat]? with
    |some d=>.ok d (h.set i (.lst (xs.eraseIdx k.toNat)))
    |Option.none=>.bad
   else .bad
  |_=>.bad
 |_,_=>.bad
noncomputable def C0(x y v:D)(h:Hm):R Unit:=match x,y with
 |.ref i,.dat (.int k)=>match h[i]? with
  |some (.lst xs)=>match wU xs.length k with
   |some j=>.ok () (h.set i (.lst (xs.set j v)))
   |Option.none=>.bad
  |_=>.bad
 |_,_=>.bad
noncomputable def KR(i:Nat)(t:Bool)(kvs:Wx)(y v:D)(h:Hm):R Unit:=match y,v with
 |.dat k,.dat d=>if keyOk t k&&(t || nZ d)&&decide (kvs.length<16777216)then .ok () (h.set i (.jt t (dput kvs k d)))else .bad
 |_,_=>.bad
noncomputable def yt(x y v:D)(h:Hm):R Unit:=match x with
 |.ref i=>match h[i]? with
  |some (.jt t kvs)=>KR i t kvs y v h
  |_=>C0 x y v h
 |_=>.bad
noncomputable def zz(eo ei:ME):MG:=λv ρ h=>(eo ρ h).bind λo h1=>(ei ρ h1).bind λi h2=>(yt o i v h2).bind λ_ h3=>.ok ρ h3
noncomputable def truth(x:D)(h:Hm):Option Bool:=match x with
 |.dat .none=>some false
 |.dat (.bool b)=>some b
 |.dat (.int i)=>some (i != 0)
 |.dat (.str s)=>if mj s.length then some ((s.length:Int) != 0)else Option.none
 |.dat (.tuple ds)=>some !ds.isEmpty
 |.dat (.list ds)=>some !ds.isEmpty
 |.ref i=>match h[i]? with
  |some (.lst xs)=>some !xs.isEmpty
  |_=>Option.none
 |_=>Option.none
noncomputable def cy(e:ME):MT:=λρ h=>(e ρ h).bind λx h1=>match truth x h1 with
 |some b=>.ok b h1
 |Option.none=>.bad
mutual
def dQ:PyData->Bool
 |.str x=>PyData.strOk x
 |.list xs|.tuple xs=>cY xs
 |_=>true
def cY:WA->Bool
 | []=>true
 |x::xs=>dQ x&&cY xs
end
mutual
theorem jX:∀{d:PyData},dQ d=true->d.hasDict=false->d.canLay0=true
 |.none,_,_=>by rfl
 |.bool _,_,_=>by rfl
 |.int _,_,_=>by rfl
 |.str x,h,_=>by assumption
 |.tuple ds,h,k=>pj h k
 |.list ds,h,k=>by simp[dQ]at h;exact pj h k
 |.dict _,_,k=>by trivial
theorem pj:∀{ds:WA},cY ds=true->PyData.hasDictAll ds=false->PyData.canLayAll0 ds=true
 | [],_,_=>by rfl
 |d::ds,h,k=>by simp only[cY,Su]at h;simp only[PyData.hasDictAll,Bool.or_eq_false_iff]at k;simp only[PyData.canLayAll0,Su];exact⟨jX h.1 k.1,pj h.2 k.2⟩
end
mutual
def av:PyData->Bool
 |.int _|.str _=>true
 |.tuple ds=>ax ds
 |_=>false
def ax:WA->Bool
 | []=>true
 |d::ds=>av d&&ax ds
end
theorem aT:∀{ds:WA} {d:PyData},ax ds=true->d∈ds->av d=true
 |_::_,d,h,m=>by
  simp[ax]at h;rcases Sz.mp m with rfl|m
  ·grind
  ·exact aT h.2 m
theorem hU:∀{ds:WA},(∀d∈ds,av d=true)->ax ds=true
 | [],_=>by rfl
 |d::ds,h=>by simp[ax];exact⟨h d (by simp),hU λe m=>h e (by simp[m])⟩
mutual
theorem mJ:∀{d e:PyData},av d=true->av e=true->(PyData.eqv d e=true<->d=e)
 |.int i,.int j,_,_=>by simp[PyData.eqv]
 |.str x,.str y,_,_=>by simp[PyData.eqv]
 |.tuple xs,.tuple ys,h,k=>by simp only[av]at h k;simp only[PyData.eqv,PyData.tuple.injEq];exact xg h k
 |.int _,.str _,_,_=>by simp[PyData.eqv]
 |.int _,.tuple _,_,_=>by simp[PyData.eqv]
 |.str _,.int _,_,_=>by simp[PyData.eqv]
 |.str _,.tuple _,_,_=>by simp[PyData.eqv]
 |.tuple _,.int _,_,_=>by simp[PyData.eqv]
 |.tuple _,.str _,_,_=>by simp[PyData.eqv]
 |.none,_,h,_=>by simp[av]at h
 |.bool _,_,h,_=>by simp[av]at h
 |.list _,_,h,_=>by simp[av]at h
 |.dict _,_,h,_=>by simp[av]at h
 |.int _,.none,_,h=>by simp[av]at h
 |.int _,.bool _,_,h=>by simp[av]at h
 |.int _,.list _,_,h=>by simp[av]at h
 |.int _,.dict _,_,h=>by simp[av]at h
 |.str _,.none,_,h=>by simp[av]at h
 |.str _,.bool _,_,h=>by simp[av]at h
 |.str _,.list _,_,h=>by simp[av]at h
 |.str _,.dict _,_,h=>by simp[av]at h
 |.tuple _,.none,_,h=>by simp[av]at h
 |.tuple _,.bool _,_,h=>by simp[av]at h
 |.tuple _,.list _,_,h=>by simp[av]at h
 |.tuple _,.dict _,_,h=>by simp[av]at h
theorem xg:∀{xs ys:WA},ax xs=true->ax ys=true->(PyData.eqvAll xs ys=true<->xs=ys)
 | [],[],_,_=>by simp[PyData.eqvAll]
 | [],_::_,_,_=>by simp[PyData.eqvAll]
 |_::_,[],_,_=>by simp[PyData.eqvAll]
 |x::xs,y::ys,h,k=>by simp only[ax,Su]at h k;simp only[PyData.eqvAll,Su,List.cons.injEq];rw[mJ h.1 k.1,xg h.2 k.2]
end
mutual
theorem cN:∀{d:PyData},av d=true->d.hasDict=false
 |.int _,_=>rfl
 |.str _,_=>rfl
 |.tuple ds,h=>iJ h
 |.none,h=>by rfl
 |.bool _,h=>by rfl
 |.list _,h=>by trivial
 |.dict _,h=>by trivial
theorem iJ:∀{ds:WA},ax ds=true->PyData.hasDictAll ds=false
 | [],_=>rfl
 |d::ds,h=>by simp only[ax,Su]at h;simp only[PyData.hasDictAll,Bool.or_eq_false_iff];exact⟨cN h.1,iJ h.2⟩
end
theorem aU(h:av d=true):PyData.eqv d d=true:=(mJ h h).mpr rfl
theorem aZ(h:av d=true)(k:av e=true)(ne:d≠e):PyData.eqv d e=false:=by
 cases q:PyData.eqv d e with
 |false=>rfl
 |true=>exact absurd ((mJ h k).mp q) ne
theorem QL{x y:Str}(h:x.cps.toList=y.cps.toList):x=y:=by
 obtain⟨⟨a⟩⟩:=x
 simp_all
theorem yn(x:Str):oB x x=false:=Tr (List.lt_irrefl _)
theorem BG(h:oB x y=true)(h':oB y z=true):oB x z=true:=Tn (List.lt_trans (Uo h) (Uo h'))
theorem F0(h:oB x y=true):oB y x=false:=Tr λz=>List.lt_irrefl _ (List.lt_trans (Uo h) z)
theorem CT(h:oB x y=false)(h':oB y x=false):x=y:=
 QL (List.le_antisymm (List.not_lt.mp (of_decide_eq_false h')) (List.not_lt.mp (of_decide_eq_false h)))
mutual
theorem F9:∀{d e:PyData},av d=true->av e=true->cx d e=some true->cx e d=some false
 |.int i,.int j,_,_,h=>by grind[cx]
 |.str x,.str y,_,_,h=>by simp only[cx,UT]at h ⊢;exact F0 h
 |.tuple xs,.tuple ys,h,k,q=>by simp only[av]at h k;simp only[cx]at q ⊢;exact C1 h k q
 |.int _,.str _,_,_,h=>by trivial
 |.int _,.tuple _,_,_,h=>by trivial
 |.str _,.int _,_,_,h=>by trivial
 |.str _,.tuple _,_,_,h=>by trivial
 |.tuple _,.int _,_,_,h=>by trivial
 |.tuple _,.str _,_,_,h=>by simp[cx]at h
 |.none,_,h,_,_=>by simp[av]at h
 |.bool _,_,h,_,_=>by simp[av]at h
 |.list _,_,h,_,_=>by simp[av]at h
 |.dict _,_,h,_,_=>by simp[av]at h
 |_,.none,_,h,_=>by simp[av]at h
 |_,.bool _,_,h,_=>by simp[av]at h
 |_,.list _,_,h,_=>by simp[av]at h
 |_,.dict _,_,h,_=>by simp[av]at h
theorem C1:∀{xs ys:WA},ax xs=true->ax ys=true->dG xs ys=some true->dG ys xs=some false
 | [],[],_,_,h=>by simp[dG]at h
 | [],_::_,_,_,_=>by simp[dG]
 |_::_,[],_,_,h=>by simp[dG]at h
 |x::xs,y::ys,h,k,q=>by
  simp only[ax,Su]at h k;simp only[dG]at q ⊢;by_cases e:x=y
  ·subst e;rw[aU h.1,if_pos rfl]at q ⊢;exact C1 h.2 k.2 q
  ·rw[aZ h.1 k.1 e,if_neg (by simp)]at q;rw[aZ k.1 h.1 (λz=>e z.symm),if_neg (by simp)];exact F9 h.1 k.1 q
end
mutual
theorem C2:∀{d e:PyData},av d=true->av e=true->cx d e=some false->cx e d=some false->d=e
 |.int i,.int j,_,_,h,h'=>by grind[cx]
 |.str x,.str y,_,_,h,h'=>by simp only[cx,UT]at h h';rw[CT h h']
 |.tuple xs,.tuple ys,h,k,q,q'=>by simp only[av]at h k;simp only[cx]at q q';rw[zP h k q q']
 |.int _,.str _,_,_,h,_=>by trivial
 |.int _,.tuple _,_,_,h,_=>by trivial
 |.str _,.int _,_,_,h,_=>by trivial
 |.str _,.tuple _,_,_,h,_=>by trivial
 |.tuple _,.int _,_,_,h,_=>by simp[cx]at h
 |.tuple _,.str _,_,_,h,_=>by simp[cx]at h
 |.none,_,h,_,_,_=>by simp[av]at h
 |.bool _,_,h,_,_,_=>by simp[av]at h
 |.list _,_,h,_,_,_=>by simp[av]at h
 |.dict _,_,h,_,_,_=>by simp[av]at h
 |_,.none,_,h,_,_=>by simp[av]at h
 |_,.bool _,_,h,_,_=>by simp[av]at h
 |_,.list _,_,h,_,_=>by simp[av]at h
 |_,.dict _,_,h,_,_=>by simp[av]at h
theorem zP:∀{xs ys:WA},ax xs=true->ax ys=true->dG xs ys=some false->dG ys xs=some false->xs=ys
 | [],[],_,_,_,_=>rfl
 | [],_::_,_,_,h,_=>by simp[dG]at h
 |_::_,[],_,_,_,h=>by simp[dG]at h
 |x::xs,y::ys,h,k,q,q'=>by
  simp only[ax,Su]at h k;simp only[dG]at q q';by_cases e:x=y
  ·subst e;rw[aU h.1,if_pos rfl]at q q';rw[zP h.2 k.2 q q']
  ·rw[aZ h.1 k.1 e,if_neg (by simp)]at q;rw[aZ k.1 h.1 (λz=>e z.symm),if_neg (by simp)]at q';exact absurd (C2 h.1 k.1 q q') e
end
mutual
theorem C3:∀{d:PyData},av d=true->cx d d=some false
 |.int i,_=>by simp[cx]
 |.str x,_=>by simp[cx,yn]
 |.tuple xs,h=>zQ h
 |.none,h=>by trivial
 |.bool _,h=>by trivial
 |.list _,h=>by trivial
 |.dict _,h=>by trivial
theorem zQ:∀{xs:WA},ax xs=true->dG xs xs=some false
 | [],_=>by rfl
 |x::xs,h=>by simp only[ax,Su]at h;simp only[dG];rw[aU h.1,if_pos rfl];exact zQ h.2
end
mutual
theorem Ga:∀{d e f:PyData},av d=true->av e=true->av f=true->cx d e=some true->cx e f=some true->cx d f=some true
 |.int i,.int j,.int k,_,_,_,h,h'=>by grind[cx]
 |.str x,.str y,.str z,_,_,_,h,h'=>by simp only[cx,UT]at h h' ⊢;exact BG h h'
 |.tuple xs,.tuple ys,.tuple zs,h,k,l,q,q'=>by simp only[av]at h k l;simp only[cx]at q q' ⊢;exact C4 h k l q q'
 |.none,_,_,h,_,_,_,_=>by simp[av]at h
 |.bool _,_,_,h,_,_,_,_=>by simp[av]at h
 |.list _,_,_,h,_,_,_,_=>by simp[av]at h
 |.dict _,_,_,h,_,_,_,_=>by simp[av]at h
 |.int _,.none,_,_,_,_,h,_=>by simp[cx]at h
 |.int _,.bool _,_,_,_,_,h,_=>by simp[cx]at h
 |.int _,.str _,_,_,_,_,h,_=>by simp[cx]at h
 |.int _,.list _,_,_,_,_,h,_=>by simp[cx]at h
 |.int _,.tuple _,_,_,_,_,h,_=>by simp[cx]at h
 |.int _,.dict _,_,_,_,_,h,_=>by simp[cx]at h
 |.str _,.none,_,_,_,_,h,_=>by simp[cx]at h
 |.str _,.bool _,_,_,_,_,h,_=>by simp[cx]at h
 |.str _,.int _,_,_,_,_,h,_=>by simp[cx]at h
 |.str _,.list _,_,_,_,_,h,_=>by simp[cx]at h
 |.str _,.tuple _,_,_,_,_,h,_=>by simp[cx]at h
 |.str _,.dict _,_,_,_,_,h,_=>by simp[cx]at h
 |.tuple _,.none,_,_,_,_,h,_=>by simp[cx]at h
 |.tuple _,.bool _,_,_,_,_,h,_=>by simp[cx]at h
 |.tuple _,.int _,_,_,_,_,h,_=>by simp[cx]at h
 |.tuple _,.list _,_,_,_,_,h,_=>by simp[cx]at h
 |.tuple _,.str _,_,_,_,_,h,_=>by simp[cx]at h
 |.tuple _,.dict _,_,_,_,_,h,_=>by simp[cx]at h
 |.int _,.int _,.none,_,_,_,_,h=>by simp[cx]at h
 |.int _,.int _,.bool _,_,_,_,_,h=>by simp[cx]at h
 |.int _,.int _,.str _,_,_,_,_,h=>by simp[cx]at h
 |.int _,.int _,.list _,_,_,_,_,h=>by simp[cx]at h
 |.int _,.int _,.tuple _,_,_,_,_,h=>by simp[cx]at h
 |.int _,.int _,.dict _,_,_,_,_,h=>by simp[cx]at h
 |.str _,.str _,.none,_,_,_,_,h=>by simp[cx]at h
 |.str _,.str _,.bool _,_,_,_,_,h=>by simp[cx]at h
 |.str _,.str _,.int _,_,_,_,_,h=>by simp[cx]at h
 |.str _,.str _,.list _,_,_,_,_,h=>by simp[cx]at h
 |.str _,.str _,.tuple _,_,_,_,_,h=>by simp[cx]at h
 |.str _,.str _,.dict _,_,_,_,_,h=>by simp[cx]at h
 |.tuple _,.tuple _,.none,_,_,_,_,h=>by simp[cx]at h
 |.tuple _,.tuple _,.bool _,_,_,_,_,h=>by simp[cx]at h
 |.tuple _,.tuple _,.int _,_,_,_,_,h=>by simp[cx]at h
 |.tuple _,.tuple _,.list _,_,_,_,_,h=>by simp[cx]at h
 |.tuple _,.tuple _,.str _,_,_,_,_,h=>by simp[cx]at h
 |.tuple _,.tuple _,.dict _,_,_,_,_,h=>by simp[cx]at h
theorem C4:∀{xs ys zs:WA},ax xs=true->ax ys=true->ax zs=true->dG xs ys=some true->dG ys zs=some true->dG xs zs=some true
 | [],[],_,_,_,_,h,_=>by simp[dG]at h
 | [],_::_,[],_,_,_,_,h=>by simp[dG]at h
 | [],_::_,_::_,_,_,_,_,_=>by simp[dG]
 |_::_,[],_,_,_,_,h,_=>by simp[dG]at h
 |_::_,_::_,[],_,_,_,_,h=>by simp[dG]at h
 |x::xs,y::ys,z::zs,h,k,l,q,q'=>by
  simp only[ax,Su]at h k l;simp only[dG]at q q' ⊢;by_cases e1:x=y
  ·subst e1;rw[aU h.1,if_pos rfl]at q;by_cases e2:x=z
   ·subst e2;rw[aU h.1,if_pos rfl]at q' ⊢;exact C4 h.2 k.2 l.2 q q'
   ·rw[aZ h.1 l.1 e2,if_neg (by simp)]at q' ⊢;exact q'
  ·rw[aZ h.1 k.1 e1,if_neg (by simp)]at q;by_cases e2:y=z
   ·subst e2;rw[aZ h.1 k.1 e1,if_neg (by simp)];exact q
   ·rw[aZ k.1 l.1 e2,if_neg (by simp)]at q';have q3:=Ga h.1 k.1 l.1 q q';by_cases e3:x=z
    ·subst e3;rw[C3 h.1]at q3;cases q3
    ·rw[aZ h.1 l.1 e3,if_neg (by simp)];exact q3
end
noncomputable def dU(ds:WA):Bool:=ds.all λa=>ds.all λb=>(cx a b).isSome
theorem fP(h:dU ds=true)(ha:a∈ds)(hb:b∈ds):cx a b=some (ltB a b):=by
 have:=SR.mp (SR.mp h a ha) b hb;unfold ltB
 cases q:cx a b with
 |none=>grind
 |some k=>rfl
noncomputable def iy:PyData->Bool|.tuple _=>true|_=>false
noncomputable def uj:PyData->Bool|.str _=>true|_=>false
noncomputable def cL(ds:WA):Bool:=(ds.all uj || ds.all iy)&&ax ds&&dU ds&&decide (PyData.depthAll ds<=20)&&decide (ds.length<64)
noncomputable def cE:Fn:=λxs h=>match xs with
 | [x]=>match listOf x h with
  |some ds=>if cL ds then .ok (.dat (.list (bY ltB ds))) h else .bad
  |Option.none=>.bad
 |_=>.bad
theorem uk(c:dU ds=true)(t:ax ds=true)(ha:a∈ds)(hb:b∈ds)(h:ltB a b=true):ltB b a=false:=by have h1:=fP c ha hb;rw[h]at h1;unfold ltB;rw[F9 (aT t ha) (aT t hb) h1];rfl
theorem pq(c:dU ds=true)(t:ax ds=true)(ha:a∈ds)(hb:b∈ds)(h:ltB b a=false):ltB a b=true\/a=b:=by
 cases q:ltB a b with
 |true=>grind
 |false=>have h1:=fP c ha hb;have h2:=fP c hb ha;rw[q]at h1;rw[h]at h2;exact .inr (C2 (aT t ha) (aT t hb) h1 h2)
theorem C5(c:dU ds=true)(t:ax ds=true)(ha:a∈ds)(hb:b∈ds)(hd:d∈ds)(h:ltB b a=false)(h':ltB d b=false):ltB d a=false:=by
 rcases pq c t ha hb h with h1|rfl
 ·rcases pq c t hb hd h' with h2|rfl
  ·have q1:=fP c ha hb;have q2:=fP c hb hd;rw[h1]at q1;rw[h2]at q2;have q3:=Ga (aT t ha) (aT t hb) (aT t hd) q1 q2;exact uk c t ha hd (by simp_all[ltB])
  grind
 grind
theorem qL(lt:PyData->PyData->Bool)(x:PyData):∀ys:WA,(BI lt x ys).Perm (x::ys)
 | []=>.refl _
 |y::ys=>by
  unfold BI;split
  ·exact((qL lt x ys).cons y).trans (.swap x y ys)
  rfl
theorem bG(lt:PyData->PyData->Bool):∀xs:WA,(bY lt xs).Perm xs
 | []=>.refl _
 |x::xs=>(qL lt x _).trans ((bG lt xs).cons x)
noncomputable def Up(lt:PyData->PyData->Bool)(xs:WA):Prop:=xs.Pairwise λa b=>lt b a=false
structure Ord(lt:PyData->PyData->Bool)(ds:WA):Prop where
 as:∀{a b},a∈ds->b∈ds->lt a b=true->lt b a=false
 ntr:∀{a b d},a∈ds->b∈ds->d∈ds->lt b a=false->lt d b=false->lt d a=false
 tot:∀{a b},a∈ds->b∈ds->lt a b=false->lt b a=false->a=b
theorem Ord.sub(o:Ord lt ds)(h:∀e∈es,e∈ds):Ord lt es:=
 ⟨λa b=>o.as (h _ a) (h _ b),λa b d=>o.ntr (h _ a) (h _ b) (h _ d),λa b=>o.tot (h _ a) (h _ b)⟩
theorem C6:∀{ys:WA},Ord lt (x::ys)->Up lt ys->Up lt (BI lt x ys)
 | [],_,_=>by simp[BI,Up]
 |y::ys,o,u=>by
  unfold BI;unfold Up at u;rw[Tq]at u;split
  ·rename_i h;refine Tq.mpr ⟨λb hb=>?_,C6 (o.sub λe m=>by grind) u.2⟩;rcases Sz.mp ((qL lt x ys).mem_iff.mp hb)with rfl|hb
   ·exact o.as (by simp) (by simp) h
   grind
  ·have h':lt y x=false:=by grind
   refine Tq.mpr ⟨λb hb=>?_,Tq.mpr u⟩;rcases Sz.mp hb with rfl|hb
   ·exact h'
   ·exact o.ntr (by simp) (by simp) (by grind) h' (u.1 b hb)
theorem pv:∀{xs:WA},Ord lt xs->Up lt (bY lt xs)
 | [],_=>by simp[bY,Up]
 |x::xs,o=>C6 (o.sub λe m=>by
     rcases Sz.mp m with rfl|m
     ·simp
     ·simp[(bG lt xs).mem_iff.mp m]) (pv (o.sub λe m=>by simp[m]))
theorem qM:∀{xs ys:WA},Ord lt xs->xs.Perm ys->Up lt xs->Up lt ys->xs=ys
 | [],ys,_,p,_,_=>by simp_all
 |x::xs,ys,o,p,u,v=>by
  cases ys with
  |nil=>simp_all
  |cons y ys=>
   have hx:x∈y::ys:=p.mem_iff.mp (by simp);have hy:y∈x::xs:=p.mem_iff.mpr (by simp)
   have e:x=y:=by
    rcases Sz.mp hx with e|hx
    ·exact e
    rcases Sz.mp hy with e|hy
    ·grind
    exact o.tot (by simp) (by omega) ((Tq.mp v).1 x hx) ((Tq.mp u).1 y hy)
   subst e;rw[qM (o.sub λe m=>by simp[m]) (List.perm_cons x |>.mp p) (Tq.mp u).2 (Tq.mp v).2]
theorem gF(c:dU ds=true)(t:ax ds=true):Ord ltB ds where
 as:=λa b=>uk c t a b
 ntr:=λa b d=>C5 c t a b d
 tot:=λ{a b} ha hb h h'=>by
  rcases pq c t ha hb h' with q|q
  ·grind
  grind
theorem zR(c:dU ds=true)(t:ax ds=true)(p:es.Perm ds)(u:Up ltB es):es=bY ltB ds:=
 qM ((gF c t).sub λe m=>p.mem_iff.mp m) (p.trans (bG ltB ds).symm) u (pv (gF c t))
end Ml
namespace Ml
open PySem PySem.Spec L2
open Sem (wp)
mutual
theorem bf:∀{d:PyData},aG d=true->av d=true
 |.str _,_=>by rfl
 |.tuple ds,h=>by simp[aG]at h;exact pA h
 |.none,h=>by assumption
 |.bool _,h=>by assumption
 |.int _,h=>by rfl
 |.list _,h=>by assumption
 |.dict _,h=>by assumption
theorem pA:∀{ds:WA},bE ds=true->ax ds=true
 | [],_=>by rfl
 |d::ds,h=>by simp only[bE,Su]at h;simp only[ax,Su];exact⟨bf h.1,pA h.2⟩
end
mutual
def rR(w:World):PyData->Int
 |.str x=>hashStr w x
 |.tuple ds=>reduceHash (Builtin.Tuple.tupleHashOf (iz w ds))
 |_=>0
def iz(w:World):WA->List Int
 | []=>[]
 |d::ds=>rR w d::iz w ds
end
mutual
def oC:PyData->Nat
 |.str _=>1
 |.tuple ds=>pB ds+1
 |_=>0
def pB:WA->Nat
 | []=>0
 |d::ds=>oC d+pB ds
end
mutual
theorem kl(k:∀b o vs n,h.get? b=some o->o.cls=.type "tuple" -> o.data=.seq vs n->h'.get? b=some o):∀{d:PyData} {v:Value} {as:WB},aG d=true->Reads h v d as->Reads h' v d as
 |.str _,_,_,_,.str x t=>.str x t
 |.tuple ds,_,_,t,.tuple h1 h2 h3 h4=>.tuple (k _ _ _ _ h1 h2 h3) h2 h3 (pC k t h4)
 |.none,_,_,t,_=>by trivial
 |.bool _,_,_,t,_=>by trivial
 |.int _,_,_,t,_=>by trivial
 |.list _,_,_,t,_=>by trivial
 |.dict _,_,_,t,_=>by trivial
theorem pC{h h':Heap}(k:∀b o vs n,h.get? b=some o->o.cls=.type "tuple" -> o.data=.seq vs n->h'.get? b=some o):∀{ds:WA} {vs:WC} {as:WB},bE ds=true->ReadsAll h vs ds as->ReadsAll h' vs ds as
 | [],_,_,_,.nil=>.nil
 |d::ds,_,_,t,.cons r1 r2=>by simp only[bE,Su]at t;exact .cons (kl k t.1 r1) (pC k t.2 r2)
end
section
variable {P:WL} {w:World}
mutual
theorem oE:∀(d:PyData) (A:WN) (s:WO) (v:Value) (as:WB) (Q:Int->WO->Prop) (E:Wv),aG d=true->Reads s.heap v d as->A.units+d.depth<cLine->Q (rR w d) {s with toks:=s.toks+oC d}->wpAny (model P w) A (pyHash v) Q E s
 |.str x,A,s,v,as,Q,E,_,r,hu,h=>by cases r;simp only[rR,oC]at h;exact wpAny_pyHash_str h
 |.tuple ds,A,s,v,as,Q,E,t,r,hu,h=>by
  cases r with
  |tuple ho hc hd hi=>
   rename_i a o items n;have hT:s.TypeIs (.ref a) "tuple" := ⟨o,ho,hc⟩;simp only[aG]at t;simp only[PyData.depth]at hu;simp only[rR,oC]at h;unfold pyHash
   first|unfold pyHashByItsType|skip
   first|refine Sm (wpAny_cRoomFor_or (.inr (by omega)) ?_)|skip
   refine Sm (UW hT Vj.lookup ?_);show wpAny _ _ (if(some (Value.builtin "tuple.__hash__")==some Value.none)=true then _ else _) Q E s;rw[if_neg (by rw[beq_builtin_none];exact Tc)];refine Sm (UW hT Vj.lookup ?_);show wpAny _ _ (callSpecialIfBoundUnlessNone? (.ref a) "__hash__" _ >>= _) Q E s;refine Sm (wpAny_callSpecialIfBoundUnlessNone?_slot hT Vj (Te Vj hT F.entry_tuple_hash ?_ (F.args_tuple_hash_1 _)));show wpAny _ _ (Builtin.Tuple.tupleItemsOf (.ref a) >>= _) _ _ s;refine Sm (wpAny_tupleItemsOf ho hd ?_);refine Sm ?_;rw[<- Ut];refine pE ds A.in1 s items.toList _ #[] _ _ _ t hi (by show A.units+1+_<_;omega) ?_ ?_
   ·intro x b s' R k
    first
     |exact Sm (TZ k (λc s2 q=>Sn q) λ_ _ z=>z)
     |exact Sm (TZ k (λc s2 q=>Sm (Sn (Sn q))) λ_ _ z=>z)
   ·show wpAny _ _ (retInt (Builtin.Tuple.tupleHashOf (#[]++(iz w ds).toArray).toList)) _ _ _;have e1:(#[]++(iz w ds).toArray).toList=iz w ds:=by simp
    rw[e1];refine wpAny_ret_mkInt ?_;show wpAny _ _ (if(decide (-(2:Int)^63<=Builtin.Tuple.tupleHashOf (iz w ds))&&decide (Builtin.Tuple.tupleHashOf (iz w ds)<2^63))=true then _ else _) Q E _;unfold reduceHash at h;by_cases hr:(decide (-(2:Int)^63<=Builtin.Tuple.tupleHashOf (iz w ds))&&decide (Builtin.Tuple.tupleHashOf (iz w ds)<2^63))=true
    ·rw[if_pos hr];rw[if_pos hr]at h;exact Sn (by simpa [Nat.add_assoc]using h)
    ·rw[if_neg hr];rw[if_neg hr]at h;exact Sm (UA (Sn (by simpa [Nat.add_assoc]using h)))
 |.none,_,_,_,_,_,_,t,_,_,_=>by simp[aG]at t
 |.bool _,_,_,_,_,_,_,t,_,_,_=>by simp[aG]at t
 |.int _,_,_,_,_,_,_,t,_,_,_=>by simp[aG]at t
 |.list _,_,_,_,_,_,_,t,_,_,_=>by simp[aG]at t
 |.dict _,_,_,_,_,_,_,t,_,_,_=>by simp[aG]at t
theorem pE:∀(ds:WA) (A:WN) (s:WO) (vs:WC) (as:WB) (acc:Array Int) (R:Array Int->WO->Prop) (E':Wv) (body:Value->Array Int->Sem (ForInStep (Array Int))),bE ds=true->ReadsAll s.heap vs ds as->A.units+PyData.depthAll ds<cLine ->
  (∀(x:Value) (b:Array Int) (s':WO) (R':ForInStep (Array Int)->WO->Prop),wpAny (model P w) A (pyHash x) (λc s2=>R' (.yield (b.push c)) s2) E' s'->wpAny (model P w) A (body x b) R' E' s') ->
  R (acc++(iz w ds).toArray) {s with toks:=s.toks+pB ds}->wpAny (model P w) A (forIn vs acc body) R E' s
 | [],A,s,_,_,acc,R,E',body,_,.nil,_,hb,h=>by rw[Va];simp only[iz,pB]at h;exact Sn (by simpa using h)
 |d::ds,A,s,_,_,acc,R,E',body,t,.cons r1 r2,hu,hb,h=>by simp only[bE,Su]at t;simp only[PyData.depthAll]at hu;rw[Ue];refine Sm (hb _ _ _ _ ?_);refine oE d A s _ _ _ E' t.1 r1 (by omega) ?_;refine pE ds A _ _ _ (acc.push (rR w d)) R E' body t.2 r2 (by omega) hb ?_;simp only[iz,pB]at h;simpa [Nat.add_assoc]using h
end
mutual
theorem jA:∀(d:PyData) (n:Nat) (A:WN) (s:WO) (v:Value) (as:WB) (Q:Bool->WO->Prop) (E:Wv),aG d=true->d.depth<=n->Reads s.heap v d as->Q true s->wpAny (model P w) A (eqIsQuiet n v) Q E s
 |.str x,n,A,s,v,as,Q,E,_,_,r,h=>by cases r;rw[eqIsQuiet_byValue n rfl];exact Sn h
 |.tuple ds,n,A,s,v,as,Q,E,t,hn,r,h=>by
  cases r with
  |tuple ho hc hd hi=>
   rename_i a o items k;have hT:s.TypeIs (.ref a) "tuple" := ⟨o,ho,hc⟩;simp only[aG]at t;simp only[PyData.depth]at hn;obtain⟨m,rfl⟩:∃m,n=m+1:=⟨n-1,by omega⟩;unfold eqIsQuiet;refine Sm (UW hT V6.lookup ?_);show wpAny _ _ (isInstance (.ref a) (.type "tuple") >>= _) _ _ s;refine Sm (U9 hT isSubtype_tuple_tuple ?_);simp only[UK,SF,Tz];refine Sm (TY ho hd ?_);refine Sm ?_;show wpAny _ _ (forIn items _ _) _ _ s;rw[<- Ut];refine pF ds m A s items.toList _ _ E _ t (by omega) hi ?_ ?_
   ·intro x s' R k;refine Sm (TZ k (λc s2 q=>?_) λ_ _ z=>z);obtain⟨rfl,q⟩:=q;simp only[UK,SF,Tz];exact Sn q
   ·exact Sn h
 |.none,_,_,_,_,_,_,_,t,_,_,_=>by simp[aG]at t
 |.bool _,_,_,_,_,_,_,_,t,_,_,_=>by simp[aG]at t
 |.int _,_,_,_,_,_,_,_,t,_,_,_=>by simp[aG]at t
 |.list _,_,_,_,_,_,_,_,t,_,_,_=>by simp[aG]at t
 |.dict _,_,_,_,_,_,_,_,t,_,_,_=>by simp[aG]at t
theorem pF:∀(ds:WA) (n:Nat) (A:WN) (s:WO) (vs:WC) (as:WB) (R:Option Bool×Unit->WO->Prop) (E:Wv) (body:Value->Option Bool×Unit->Sem (ForInStep (Option Bool×Unit))),bE ds=true->PyData.depthAll ds<=n->ReadsAll s.heap vs ds as ->
  (∀(x:Value) (s':WO) (R':ForInStep (Option Bool×Unit)->WO->Prop),wpAny (model P w) A (eqIsQuiet n x) (λc s2=>c=true/\R' (.yield (none,())) s2) E s'->wpAny (model P w) A (body x (none,())) R' E s') ->
  R (none,()) s->wpAny (model P w) A (forIn vs (none,()) body) R E s
 | [],n,A,s,_,_,R,E,body,_,_,.nil,hb,h=>by rw[Va];exact Sn h
 |d::ds,n,A,s,_,_,R,E,body,t,hn,.cons r1 r2,hb,h=>by simp only[bE,Su]at t;simp only[PyData.depthAll]at hn;rw[Ue];refine Sm (hb _ _ _ (jA d n A s _ _ _ E t.1 (by omega) r1 ⟨rfl,?_⟩));exact pF ds n A s _ _ R E body t.2 (by omega) r2 hb h
end
end
noncomputable def Mw(h:Heap)(d:PyData)(a:Addr):Prop:=aG d=true/\d.depth<=8/\dQ d=true/\∃as,Reads h (.ref a) d as
noncomputable instance RD:DecidableEq PyData:=λa b=>Classical.propDecidable (a=b)
noncomputable def fz(P:WL)(w:World):HeapKind P w PyData where
 is:=Mw
 hash:=rR w
 draws:=oC
 room:=λA=>A.units+20<cLine
 inj:=λ{h a x y} ⟨_,_,_,as,hx⟩ ⟨_,_,_,bs,hy⟩=>(Wa hx _ _ hy).1
 keeps:=λ{h h' k a d o es ep} ⟨t,dp,so,as,r⟩ ho hd hs=>⟨t,dp,so,as,kl (λb ob vs n e c dd=>by
  have ne:b≠d:=λz=>by subst z;rw[ho]at e;cases e;rw[hd]at dd;cases dd
  exact(hs.2 b ne).trans e) t r⟩
 pyHash:=λ{A E s k a Q} hu ⟨t,dp,_,as,r⟩ h=>oE k A s _ as Q E t r (by omega) h
 eqBool:=λ{A E s x y a b Q} hu ⟨t1,d1,s1,as,r1⟩ ⟨t2,d2,s2,bs,r2⟩ h=>by
  have hq:PyData.eqv x y=decide (x=y):=by
   by_cases e:x=y
   ·subst e;rw[Tn rfl];exact aU (bf t1)
   ·rw[Tr e];exact aZ (bf t1) (bf t2) e
  have:=VX x y A s _ _ _ _ r1 r2 (jX s1 (cN (bf t1))) (jX s2 (cN (bf t2))) (by omega) P w E Q;rw[hq]at this;exact this h
 quiet:=λ{A E s k a Q} ⟨t,dp,_,as,r⟩ h=>jA k 8 A s _ as Q E t dp r h
noncomputable def dO(P:WL)(w:World)(xs:List (PyData×Addr×Value))(a:Addr):HO:=.ext λh=>xs.length<=sizeLine/\(a==sysModules)=false/\∃o es ep,h.get? a=some o/\o.ExactDict/\o.data=.dict es ep/\es.toList=xs.map (entryOfKey (fz P w))/\(xs.map (·.1)).Nodup
theorem KU(h1:xs.length<=sizeLine)(h2:(a==sysModules)=false)(h3:h.get? a=some o)(h4:o.ExactDict)(h5:o.data=.dict es ep)(h6:es.toList=xs.map (entryOfKey (fz P w)))(h7:(xs.map (·.1)).Nodup):cW P w H h a (dO P w xs a):=
 ⟨⟨h1,h2,o,es,ep,h3,h4,h5,h6,h7⟩,⟨o,h3⟩,λg1 g2 ⟨k1,k2,o',es',ep',k3,k4⟩ hk=>⟨k1,k2,o',es',ep',hk _ k3,k4⟩⟩
end Ml
namespace Ml
open PySem PySem.Spec L2
noncomputable def view(θ:WB)(H:Hp):Hp:=λa=>if a∈θ then none else H a
theorem ee(h:view θ H a=some o):a∉θ/\H a=some o:=by
 simp_all[view]
theorem eU(h:a∉θ):view θ H a=H a:=if_neg h
theorem aC(θ:WB)(H:Hp):bR (view θ H) H:=λa o h=>(ee h).2
noncomputable def pG(M:Hp)(p:PyData×PyData)(q:PyData×Addr×Value):Prop:=p.1=q.1/\aG p.1=true/\p.1.depth<=8/\dQ p.1=true/\Rep M p.1 (.ref q.2.1)/\∃v,RelV v q.2.2/\Rep M p.2 v/\dQ p.2=true
noncomputable def gC(P:WL)(w:World)(M G:Hp)(a:Addr)(t:Bool)(kvs:Wx):Prop:=
 (t=false/\∃ks,G a=some (.dK ks)/\aY ks=some kvs/\∀p∈kvs,dQ p.1=true/\dQ p.2=true)\/(t=true/\∃xs,G a=some (dO P w xs a)/\Paired (pG M) kvs xs)
structure Gx where
 P:WL
 w:World
 mg:Str->Option Value
 K:WD
noncomputable def Mx:PyData->V
 |.int i=>.int i
 |.str x=>.str x
 |.bool b=>.bl b
 |_=>.non
noncomputable def Gb(K:WD)(a:Addr)(xs:WA):Prop:=(∃(o:Obj) (its:WJ) (n:Nat),K.lookup a=some o/\o.cls=.type "tuple" /\ o.data=.seq its n/\its.size<=sizeLine/\Vals (xs.map Mx) its.toList)/\(∀x∈xs,(match x with|.int _|.str _|.bool _|.none=>true|_=>false)=true)/\cY xs=true
noncomputable def OC(G:Gx)(x:Xc)(cls:Value)(da:Option Addr)(M:Hp):Prop:=G.mg x.cls=some cls/\da=none/\x.args=[]
noncomputable def cj(G:Gx)(θ:WB)(H:Hp):D->V->Prop
 |.dat d,v=>Rep (view θ H) d v/\dQ d=true
 |.ref i,v=>∃a,θ[i]?=some a/\v=.ref a
 |.jt t kvs,v=>∃a,v=.ref a/\gC G.P G.w (view θ H) (view θ H) a t kvs
 |.set _,_=>False
 |.fn n,v=>∃f,G.mg n=some (.ref f)/\v=.ref f
 |.scr ns,v=>∃a,v=.ref a/\j9 G.K (view θ H) a (ns.map V.int)
 |.ktup xs,v=>∃a,v=.ref a/\Gb G.K a xs
 |.rpr x,v=>v=.str x
 |.exc x,v=>∃a cls,v=.ref a/\view θ H a=some (.ext (IY a cls))/\OC G x cls none (view θ H)
noncomputable abbrev aV(G:Gx)(θ:WB)(H:Hp):List D->List V->Prop:=Paired (cj G θ H)
noncomputable def TabAt(θ:WB)(H:Hp)(P:Addr)(q:Str):Prop:=∃ps:WJ,H P=some (.tbl ps)/\TriplesOk ps.toList/\∀(pos:Pos) (c:Value),codeAmong pos ps.toList=some c->∃b,c=.ref b/\b≠P/\view θ H b=some (.ext (recAt b q))
theorem TabAt.same(s:bR (view θ H) (view θ' H'))(e:∀o,H P=some o->H' P=some o)(x:TabAt θ H P q):TabAt θ' H' P q:=by obtain⟨ps,h1,h2,h3⟩:=x;exact⟨ps,e _ h1,h2,λpos c k=>let ⟨b,k1,k2,k3⟩:=h3 pos c k;⟨b,k1,k2,s _ _ k3⟩⟩
noncomputable def BJ(G:Gx)(θ:WB)(H:Hp)(a:Addr):MO->Prop
 |.lst xs=>∃vs,H a=some (.lst vs)/\aV G θ H xs vs
 |.jt t kvs=>gC G.P G.w (view θ H) H a t kvs
 |.ins _ _=>False
 |.tab P q=>a=P/\TabAt θ H P q
structure W(G:Gx)(θ:WB)(h:Hm)(H:Hp):Prop where
 len:θ.length=h.length
 nd:θ.Nodup
 obj:∀(i:Nat) (a:Addr) (o:MO),θ[i]?=some a->h[i]?=some o->BJ G θ H a o
noncomputable def Fr(G:Gx)(θ:WB)(H:Hp)(ρ:Fm)(σ:St):Prop:=ρ.length=σ.length/\∀(i:Nat) (d:D),ρ[i]?=some (some d)->∃v,σ[i]?=some (some v)/\cj G θ H d v
structure Ev(θ:WB)(H:Hp)(θ':WB)(H':Hp):Prop where
 pre:∃ext,θ'=θ++ext
 same:bR (view θ H) (view θ' H')
section
variable {G:Gx} {θ θ' θ'':WB} {H H' H'':Hp} {h h':Hm} {d:D} {v:V} {ρ:Fm} {σ:St}
theorem Ev.refl:Ev θ H θ H:=⟨⟨[],by simp⟩,bR.refl _⟩
theorem Ev.trans(a:Ev θ H θ' H')(b:Ev θ' H' θ'' H''):Ev θ H θ'' H'':=by obtain⟨e1,rfl⟩:=a.pre;obtain⟨e2,rfl⟩:=b.pre;exact⟨⟨e1++e2,by simp⟩,a.same.trans b.same⟩
theorem Ev.get(a:Ev θ H θ' H'){i:Nat}{x:Addr}(e:θ[i]?=some x):θ'[i]?=some x:=by obtain⟨ext,rfl⟩:=a.pre;rw[Ta (by have:=SJ.mp e;exact this.1)];exact e
theorem pG.same(s:bR M M')(h:pG M p q):pG M' p q:=by obtain⟨h1,h2,h3,h4,h5,v,h6,h7,h8⟩:=h;exact⟨h1,h2,h3,h4,h5.same s,v,h6,h7.same s,h8⟩
theorem gC.same{M M' G G':Hp}(s:bR M M')(h:gC P w M G a t kvs)(e:∀o,G a=some o->G' a=some o):gC P w M' G' a t kvs:=by
 rcases h with⟨ht,ks,h1,h2⟩|⟨ht,xs,h1,h2⟩
 ·exact .inl ⟨ht,ks,e _ h1,h2⟩
 ·exact .inr ⟨ht,xs,e _ h1,Paired.kD h2 λ_ _=>pG.same s⟩
theorem gC.some{M G:Hp}(h:gC P w M G a t kvs):G a≠none:=by
 rcases h with⟨_,ks,h1,_⟩|⟨_,xs,h1,_⟩
 ·grind
 grind
theorem cj.ev(e:Ev θ H θ' H')(r:cj G θ H d v):cj G θ' H' d v:=by
 cases d with
 |dat d=>exact⟨r.1.same e.same,r.2⟩
 |ref i=>obtain⟨a,h1,h2⟩:=r;exact⟨a,e.get h1,h2⟩
 |jt t kvs=>obtain⟨a,h1,h2⟩:=r;exact⟨a,h1,h2.same e.same λo=>e.same a o⟩
 |set xs=>exact r
 |fn n=>exact r
 |scr ns=>obtain⟨a,h1,h2⟩:=r;exact⟨a,h1,e.same.seq h2⟩
 |ktup xs=>exact r
 |rpr x=>exact r
 |exc x=>obtain⟨a,c,h1,h2,h3⟩:=r;exact⟨a,c,h1,e.same _ _ h2,h3⟩
theorem aV.ev(e:Ev θ H θ' H')(r:aV G θ H ds vs):aV G θ' H' ds vs:=Paired.kD r λ_ _=>cj.ev e
theorem Fr.ev(e:Ev θ H θ' H')(r:Fr G θ H ρ σ):Fr G θ' H' ρ σ:=⟨r.1,λi d q=>let ⟨v,h1,h2⟩:=r.2 i d q;⟨v,h1,h2.ev e⟩⟩
theorem Fr.set(r:Fr G θ H ρ σ)(q:cj G θ H d v):Fr G θ H (ρ.set i (some d)) (σ.set i (some v)):=by
 refine⟨by simp[r.1],λj e he=>?_⟩;by_cases hj:i=j
 ·subst hj;by_cases hl:i<ρ.length
  ·rw[Uj hl]at he;cases he;exact⟨v,by rw[Uj (by rw[<- r.1];exact hl)],q⟩
  simp_all
 ·rw[Vn hj]at he ⊢;exact r.2 j e he
theorem Fr.replicate(n:Nat)(r:Fr G θ H ρ σ):Fr G θ H (List.replicate n none++ρ) (List.replicate n none++σ):=by
 refine⟨by simp[r.1],λi d e=>?_⟩;by_cases hi:i<n
 ·rw[Ta (by simp_all),U5]at e
  grind
 ·rw[Th (by simp;omega)]at e ⊢;simp at e ⊢;exact r.2 _ d e
theorem Gd(hp:H p=none)(hn:p∉θ):Ev θ H θ (upd H p o):=⟨⟨[],by simp⟩,λa u q=>by
 obtain⟨h1,h2⟩:=ee q;rw[eU h1,aE (aI h2 hp)]
 exact h2⟩
theorem BJ.some(o:MO)(r:BJ G θ H a o):H a≠none:=by
 cases o with
 |lst xs=>obtain⟨vs,e,_⟩:=r;grind
 |jt t kvs=>exact gC.some r
 |ins=>trivial
 |tab P q=>obtain⟨rfl,ps,e,_⟩:=r;grind
theorem W.Ge(w:W G θ h H)(hp:H p=none):p∉θ:=λm=>by
 obtain⟨i,hi,e⟩:=UP.mp m;have hl:i<h.length:=by rw[<- w.len];exact hi
 exact BJ.some _ (w.obj i p h[i] (by simp_all) (SH hl)) hp
theorem W.put(w:W G θ h H)(hp:H p=none):Ev θ H θ (upd H p o)/\W G θ h (upd H p o)/\view θ (upd H p o) p=some o:=by
 have hn:=w.Ge hp;have e:=Gd (o:=o) hp hn;refine⟨e,⟨w.len,w.nd,λi a m h1 h2=>?_⟩,by rw[eU hn,bg]⟩;have r:=w.obj i a m h1 h2;have ha:a≠p:=λz=>by subst z;exact hn (SX h1)
 cases m with
 |lst xs=>obtain⟨vs,q1,q2⟩:=r;exact⟨vs,by rw[aE ha];exact q1,q2.ev e⟩
 |jt t kvs=>exact gC.same e.same r λo q=>by rw[aE ha];exact q
 |ins=>trivial
 |tab P q=>obtain⟨rfl,x⟩:=r;exact⟨rfl,x.same e.same λo q=>by rw[aE ha];exact q⟩
theorem W.grow(w:W G θ h H)(s:bR H H'):Ev θ H θ H'/\W G θ h H':=by
 have e:Ev θ H θ H':=⟨⟨[],by simp⟩,λa u q=>by
  obtain⟨h1,h2⟩:=ee q;rw[eU h1]
  exact s _ _ h2⟩
 refine⟨e,⟨w.len,w.nd,λi a m h1 h2=>?_⟩⟩;have r:=w.obj i a m h1 h2
 cases m with
 |lst xs=>obtain⟨vs,q1,q2⟩:=r;exact⟨vs,s _ _ q1,q2.ev e⟩
 |jt t kvs=>exact gC.same e.same r λo q=>s _ _ q
 |ins=>trivial
 |tab P q=>obtain⟨rfl,x⟩:=r;exact⟨rfl,x.same e.same λo q=>s _ _ q⟩
theorem W.alloc(w:W G θ h H)(hp:H p=none)(ho:BJ G (θ++[p]) (upd H p o) p m):Ev θ H (θ++[p]) (upd H p o)/\W G (θ++[p]) (h++[m]) (upd H p o):=by
 have hn:=w.Ge hp
 have e:Ev θ H (θ++[p]) (upd H p o):=⟨⟨[p],rfl⟩,λa u q=>by
  obtain⟨h1,h2⟩:=ee q;have ne:=aI h2 hp;rw[eU (by grind),aE ne]
  exact h2⟩
 refine⟨e,⟨by simp[w.len],?_,λi a m' h1 h2=>?_⟩⟩
 ·rw[T4];exact⟨w.nd,by simp,λx hx y hy z=>by grind⟩
 ·by_cases hi:i<θ.length
  ·rw[Ta hi]at h1;rw[Ta (by rw[<- w.len];exact hi)]at h2;have r:=w.obj i a m' h1 h2;have ha:a≠p:=λz=>by subst z;exact hn (SX h1)
   cases m' with
   |lst xs=>obtain⟨vs,q1,q2⟩:=r;exact⟨vs,by rw[aE ha];exact q1,q2.ev e⟩
   |jt t kvs=>exact gC.same e.same r λo q=>by rw[aE ha];exact q
   |ins=>exact r.elim
   |tab P q=>obtain⟨rfl,x⟩:=r;exact⟨rfl,x.same e.same λo q=>by rw[aE ha];exact q⟩
  ·rw[Th (by omega)]at h1;rw[Th (by rw[<- w.len];omega),<- w.len]at h2
   cases hk:i-θ.length with
   |zero=>rw[hk]at h1 h2;simp at h1 h2;subst h1;subst h2;exact ho
   |succ k=>rw[hk]at h1;simp at h1
theorem W.write(w:W G θ h H)(hi:θ[i]?=some p)(hl:i<h.length)(ho:BJ G θ (upd H p o) p m):Ev θ H θ (upd H p o)/\W G θ (h.set i m) (upd H p o):=by
 have hm:p∈θ:=SX hi
 have e:Ev θ H θ (upd H p o):=⟨⟨[],by simp⟩,λa u q=>by
  obtain⟨h1,h2⟩:=ee q;have ne:a≠p:=λz=>by grind
  simp_all[eU,h1,aE,ne]⟩
 refine⟨e,⟨by simp[w.len],w.nd,λj a m' h1 h2=>?_⟩⟩;by_cases hj:i=j
 ·simp_all
 ·rw[Vn hj]at h2
  have ha:a≠p:=λz=>by
   subst z;obtain⟨l1,e1⟩:=SJ.mp hi;obtain⟨l2,e2⟩:=SJ.mp h1;have pw:=UN.mp w.nd;rcases Nat.lt_or_gt_of_ne hj with z|z
   ·exact pw i j l1 l2 z (e1.trans e2.symm)
   ·exact pw j i l2 l1 z (e2.trans e1.symm)
  have r:=w.obj j a m' h1 h2
  cases m' with
  |lst xs=>obtain⟨vs,q1,q2⟩:=r;exact⟨vs,by rw[aE ha];exact q1,q2.ev e⟩
  |jt t kvs=>exact gC.same e.same r λo q=>by rw[aE ha];exact q
  |ins=>exact r.elim
  |tab P q=>obtain⟨rfl,x⟩:=r;exact⟨rfl,x.same e.same λo q=>by rw[aE ha];exact q⟩
end
noncomputable abbrev XP:=Xc->WB->Hm->Hp->Prop
noncomputable def aH{α:Type}(G:Gx)(E:XP)(θ:WB)(H:Hp):R α->(α->WB->Hm->Hp->Prop)->Prop
 |.ok a h',K=>∀θ' H',Ev θ H θ' H'->W G θ' h' H'->K a θ' h' H'
 |.exc x h',_=>∀θ' H',Ev θ H θ' H'->W G θ' h' H'->E x θ' h' H'
 |.bad,_=>False
section
variable {α β:Type} {G:Gx} {E E':XP} {θ θ':WB} {H H':Hp} {h:Hm} {r:R α} {f:α->Hm->R β} {K K':α->WB->Hm->Hp->Prop}
theorem aH.mono(p:aH G E θ H r K)(k:∀a θ' h' H',Ev θ H θ' H'->W G θ' h' H'->K a θ' h' H'->K' a θ' h' H'):aH G E θ H r K':=by
 cases r with
 |ok a h'=>exact λθ' H' e w=>k _ _ _ _ e w (p θ' H' e w)
 |exc x h'=>exact p
 |bad=>exact p
theorem aH.later(p:aH G E θ H r K)(e:Ev θ H θ' H'):aH G E θ' H' r K:=by
 cases r with
 |ok a h'=>exact λθ2 H2 e2 w=>p θ2 H2 (e.trans e2) w
 |exc x h'=>exact λθ2 H2 e2 w=>p θ2 H2 (e.trans e2) w
 |bad=>exact p
theorem aH.bind(p:aH G E θ H (r.bind f) L):aH G E θ H r λa θ1 h1 H1=>Ev θ H θ1 H1/\W G θ1 h1 H1/\aH G E θ1 H1 (f a h1) L:=by
 cases r with
 |ok a h'=>exact λθ1 H1 e w=>⟨e,w,aH.later p e⟩
 |exc x h'=>exact p
 |bad=>exact p
end
noncomputable def nR(G:Gx)(E:XK):XP:=λx θ _ H=>∀cls da,OC G x cls da (view θ H)->E cls da H
noncomputable def KV(G:Gx)(Q:VK):D->WB->Hm->Hp->Prop:=λd θ _ H=>∀v,cj G θ H d v->Q v H
noncomputable def Sa(G:Gx)(Q:List V->Hp->Prop):List D->WB->Hm->Hp->Prop:=λds θ _ H=>∀vs,aV G θ H ds vs->Q vs H
noncomputable def KS(G:Gx)(C:Ends):Fl->WB->Hm->Hp->Prop:=λf θ _ H=>match f with
 |.nx ρ=>∀σ,Fr G θ H ρ σ->C.nx σ H
 |.rt d=>∀v,cj G θ H d v->C.rt v H
 |.bk ρ=>∀σ,Fr G θ H ρ σ->C.bk σ H
 |.ct ρ=>∀σ,Fr G θ H ρ σ->C.ct σ H
noncomputable def lE(G:Gx)(E:XK)(m:ME):TE:=λσ H Q=>∃θ h ρ,W G θ h H/\Fr G θ H ρ σ/\aH G (nR G E) θ H (m ρ h) (KV G Q)
noncomputable def lT(G:Gx)(E:XK)(m:MT):TT:=λσ H Q=>∃θ h ρ,W G θ h H/\Fr G θ H ρ σ/\aH G (nR G E) θ H (m ρ h) (λb _ _ H'=>Q b H')
noncomputable def lA(G:Gx)(E:XK)(m:MA):TA:=λσ H Q=>∃θ h ρ,W G θ h H/\Fr G θ H ρ σ/\aH G (nR G E) θ H (m ρ h) (Sa G Q)
noncomputable def lS(G:Gx)(E:XK)(m:MS):TS:=λC σ H=>∃θ h ρ,W G θ h H/\Fr G θ H ρ σ/\aH G (nR G E) θ H (m ρ h) (KS G C)
noncomputable def lG(G:Gx)(E:XK)(g:MG):TG:=λv σ H Q=>∃θ h ρ d,W G θ h H/\Fr G θ H ρ σ/\cj G θ H d v/\aH G (nR G E) θ H (g d ρ h) (λρ' θ' _ H'=>∀σ',Fr G θ' H' ρ' σ'->Q σ' H')
noncomputable abbrev _root_.L2.Cx.G(X:Cx):Gx:=⟨X.prog,X.w,X.mg,X.K⟩
@[irreducible] noncomputable def DE(X:Cx)(E:XK)(m:ME)(e:Expr):Prop:=PE X e (lE X.G E m)
theorem bF(X:Cx)(E:XK)(m:ME)(e:Expr):DE X E m e=(PE X e (lE X.G E m)):=by
 grind[DE]
@[irreducible] noncomputable def DT(X:Cx)(E:XK)(m:MT)(e:Expr):Prop:=PT X e (lT X.G E m)
theorem mK(X:Cx)(E:XK)(m:MT)(e:Expr):DT X E m e=(PT X e (lT X.G E m)):=by
 grind[DT]
@[irreducible] noncomputable def DA(X:Cx)(E:XK)(m:MA)(es:WG):Prop:=PA X es (lA X.G E m)
theorem km(X:Cx)(E:XK)(m:MA)(es:WG):DA X E m es=(PA X es (lA X.G E m)):=by
 grind[DA]
@[irreducible] noncomputable def DS(X:Cx)(E:XK)(m:MS)(s:Stmt):Prop:=PS X s (lS X.G E m)
theorem ko(X:Cx)(E:XK)(m:MS)(s:Stmt):DS X E m s=(PS X s (lS X.G E m)):=by
 grind[DS]
@[irreducible] noncomputable def Gf(X:Cx)(E:XK)(m:MS)(s:List Stmt):Prop:=Bi X s (lS X.G E m)
theorem qN(X:Cx)(E:XK)(m:MS)(s:List Stmt):Gf X E m s=(Bi X s (lS X.G E m)):=by
 grind[Gf]
@[irreducible] noncomputable def DG(X:Cx)(E:XK)(m:MG)(e:Expr):Prop:=PG X e (lG X.G E m)
theorem n5(X:Cx)(E:XK)(m:MG)(e:Expr):DG X E m e=(PG X e (lG X.G E m)):=by
 grind[DG]
theorem PE.imp(h:PE X e t)(k:∀σ H Q,t' σ H Q->t σ H Q):PE X e t':=λpins s σ H Q I q=>h pins s σ H Q I (k _ _ _ q)
theorem PT.imp(h:PT X e t)(k:∀σ H Q,t' σ H Q->t σ H Q):PT X e t':=λpins s σ H Q I q=>h pins s σ H Q I (k _ _ _ q)
theorem PA.imp(h:PA X e t)(k:∀σ H Q,t' σ H Q->t σ H Q):PA X e t':=λpos pins s σ H Q I q=>h pos pins s σ H Q I (k _ _ _ q)
theorem PS.imp(h:PS X e t)(k:∀C σ H,t' C σ H->t C σ H):PS X e t':=λpins s σ H C I q=>h pins s σ H C I (k _ _ _ q)
theorem Bi.imp(h:Bi X e t)(k:∀C σ H,t' C σ H->t C σ H):Bi X e t':=λpins s σ H C I q=>h pins s σ H C I (k _ _ _ q)
noncomputable def My(G:Gx)(E:XK)(f:D->D->Hm->R D):R2:=λx y H Q=>∃θ h d1 d2,W G θ h H/\cj G θ H d1 x/\cj G θ H d2 y/\aH G (nR G E) θ H (f d1 d2 h) (KV G Q)
noncomputable def RE(G:Gx)(E:XK)(f:Fn):List V->Hp->VK->Prop:=λxs H Q=>∃θ h ds,W G θ h H/\aV G θ H ds xs/\aH G (nR G E) θ H (f ds h) (KV G Q)
noncomputable def pH(X:Cx)(E:XK)(op:Value->Value->Sem Value)(f:D->D->Hm->R D):Prop:=jr X op (My X.G E f)
noncomputable def um(X:Cx)(E:XK)(v:Value)(f:Fn):Prop:=eE X v (RE X.G E f)
theorem jr.imp(h:jr X op r)(k:∀x y H Q,r' x y H Q->r x y H Q):jr X op r':=λpins s σ H x y v u Q I rx ry q=>h pins s σ H x y v u Q I rx ry (k _ _ _ _ q)
theorem eE.imp(h:eE X f r)(k:∀xs H Q,r' xs H Q->r xs H Q):eE X f r':=λpins s σ H xs us Q I r q=>h pins s σ H xs us Q I r (k _ _ _ q)
theorem pH.of(h:jr X op r)
 (k:∀θ hm H d1 d2 x y Q,W X.G θ hm H->cj X.G θ H d1 x->cj X.G θ H d2 y->aH X.G (nR X.G E) θ H (f d1 d2 hm) (KV X.G Q)->r x y H Q):pH X E op f:=
 jr.imp h λx y H Q ⟨θ,hm,d1,d2,w,r1,r2,p⟩=>k θ hm H d1 d2 x y Q w r1 r2 p
theorem um.of(h:eE X v r)
 (k:∀θ hm H ds xs Q,W X.G θ hm H->aV X.G θ H ds xs->aH X.G (nR X.G E) θ H (f ds hm) (KV X.G Q)->r xs H Q):um X E v f:=
 eE.imp h λxs H Q ⟨θ,hm,ds,w,r1,p⟩=>k θ hm H ds xs Q w r1 p
section
variable {X:Cx} {E:XK} {m a b c:ME} {t u:MT} {e e1 e2 e3:Expr} {es:WG} {ma:MA} {pos:Pos} {i:Nat} {x:Str}
theorem Mz(hN:X.N[i]?=some x)(hv:Kx X.env.scope x)(hd:(x==("__debug__" : Str))=false:=by decide)(hcd:(x==("__classdict__" : Str))=false:=by decide):DE X E (ae i) (.Name x pos):=by
 simp only[bF]at *
 exact PE.imp (Lx hN hv hd hcd) λσ H Q ⟨θ,h,ρ,w,fr,p⟩=>by
   unfold ae at p
   cases e:ρ[i]? with
   |none=>rw[e]at p;exact p.elim
   |some o=>
    cases o with
    |none=>rw[e]at p;exact p.elim
    |some d=>rw[e]at p;obtain⟨v,h1,h2⟩:=fr.2 i d e;exact⟨v,h1,p θ H Ev.refl w v h2⟩
theorem Jb(h:PE X e (tC v))(r:∀G,Rep G d v)(s:dQ d=true):DE X E (aj d) e:=by simp[bF]at *;exact PE.imp h λσ H Q ⟨θ,hm,ρ,w,fr,p⟩=>p θ H Ev.refl w v ⟨r _,s⟩
theorem aD:DE X E (aj (.int k)) (.Constant (.int k) j pos):=Jb qE (λ_=>rfl) (by rfl)
theorem eV:DE X E (aj (.bool k)) (.Constant (.bool k) j pos):=Jb Kz (λ_=>rfl) (by rfl)
theorem eM(h:PyData.strOk k=true:=by decide +kernel):DE X E (aj (.str k)) (.Constant (.str k) j pos):=Jb Bk (λ_=>rfl) (by trivial)
theorem yu(h:lE G E (ai f a b) σ H Q):N5 (My G E f) (lE G E a) (lE G E b) σ H Q:=by obtain⟨θ,h,ρ,w,fr,p⟩:=h;refine⟨θ,h,ρ,w,fr,(aH.bind p).mono λx θ1 h1 H1 _ _ ⟨e1,w1,p1⟩ v r1=>?_⟩;exact⟨θ1,h1,ρ,w1,fr.ev e1,(aH.bind p1).mono λy θ2 h2 H2 _ _ ⟨e2,w2,p2⟩ u r2=>⟨θ2,h2,x,y,w2,r1.ev e2,r2,p2⟩⟩
theorem C7(h:lE G E (ag f ma) σ H Q):Qs (RE G E f) (lA G E ma) σ H Q:=by obtain⟨θ,h,ρ,w,fr,p⟩:=h;exact⟨θ,h,ρ,w,fr,(aH.bind p).mono λxs θ1 h1 H1 _ _ ⟨e1,w1,p1⟩ vs r1=>⟨θ1,h1,xs,w1,r1,p1⟩⟩
theorem cq(h:pH X E (binaryOp op) f)(ha:DE X E a e1)(hb:DE X E b e2):DE X E (ai f a b) (.BinOp e1 op e2 pos):=by simp[bF]at *;exact PE.imp (KC h ha hb) λ_ _ _=>yu
theorem eN(h:pH X E (compareOp op) f)(ha:DE X E a e1)(hb:DE X E b e2)(hm:behindInMarks op e2=false):DE X E (ai f a b) (.Compare e1 [op] [e2] pos):=by simp[bF]at *;exact PE.imp (Iy h ha hb hm) λ_ _ _=>yu
theorem bo(h:NL X (My X.G E f))(ha:DE X E a e1)(hb:DE X E b e2)(hs:CK e2):DE X E (ai f a b) (.Subscript e1 e2 pos):=by simp[bF]at *;exact PE.imp (Oi h ha hb hs) λ_ _ _=>yu
theorem C8(h:lT G E (aO m) σ H Q):lE G E m σ H λx H'=>∃k,x=.bl k/\Q k H':=by
 obtain⟨θ,h,ρ,w,fr,p⟩:=h;refine⟨θ,h,ρ,w,fr,(aH.bind p).mono λx θ1 h1 H1 _ _ ⟨e1,w1,p1⟩ v r1=>?_⟩
 cases x with
 |dat d=>
  cases d with
  |bool k=>exact⟨k,r1.1,p1 θ1 H1 Ev.refl w1⟩
  |_=>trivial
 |_=>trivial
theorem cu(h:pH X E (compareOp op) f)(ha:DE X E a e1)(hb:DE X E b e2)(hm:behindInMarks op e2=false):DT X E (aO (ai f a b)) (.Compare e1 [op] [e2] pos):=by simp[bF,mK]at *;exact PT.imp (Iz h ha hb hm) λ_ _ _ q=>yu (C8 q)
@[irreducible] noncomputable def DW(X:Cx)(E:XK)(t:MT)(e:Expr):Prop:=PW X e (lT X.G E t)
theorem zS(X:Cx)(E:XK)(t:MT)(e:Expr):DW X E t e=(PW X e (lT X.G E t)):=by
 grind[DW]
theorem DW.dt(h:DW X E t e):DT X E t e:=by simp[mK,zS]at *;exact PW.pt h
theorem PW.imp{t t':TT}(h:PW X e t)(k:∀σ H Q,t' σ H Q->t σ H Q):PW X e t':=λwh pins s σ H Q I q=>h wh pins s σ H Q I (k _ _ _ q)
theorem yw(ha:DT X E t e):DW X E t (.BoolOp .And [e] pos):=by simp[mK,zS]at *;exact Im ha
theorem mL(ha:DT X E t e):DW X E t (.BoolOp .Or [e] pos):=by simp[mK,zS]at *;exact Lz ha
theorem BK(ha:DT X E t e1)(hb:DW X E u (.BoolOp .And (e2::es) pos)):DW X E (o3 t u) (.BoolOp .And (e1::e2::es) pos):=by
 simp[mK,zS]at *
 exact PW.imp (LA ha hb) λσ H Q ⟨θ,h,ρ,w,fr,p⟩=>⟨θ,h,ρ,w,fr,(aH.bind p).mono λc θ1 h1 H1 _ _ ⟨ev,w1,p1⟩=>by
   cases c with
   |true=>exact⟨θ1,h1,ρ,w1,fr.ev ev,p1⟩
   |false=>exact p1 θ1 H1 Ev.refl w1⟩
theorem pI(ha:DT X E t e1)(hb:DW X E u (.BoolOp .Or (e2::es) pos)):DW X E (vU t u) (.BoolOp .Or (e1::e2::es) pos):=by
 simp[mK,zS]at *
 exact PW.imp (NW ha hb) λσ H Q ⟨θ,h,ρ,w,fr,p⟩=>⟨θ,h,ρ,w,fr,(aH.bind p).mono λc θ1 h1 H1 _ _ ⟨ev,w1,p1⟩=>by
   cases c with
   |true=>exact p1 θ1 H1 Ev.refl w1
   |false=>exact⟨θ1,h1,ρ,w1,fr.ev ev,p1⟩⟩
theorem iA(ha:DT X E t e):DT X E (i6 t) (.UnaryOp .Not e pos):=by simp[mK]at *;exact PT.imp (LB ha) λσ H Q ⟨θ,h,ρ,w,fr,p⟩=>⟨θ,h,ρ,w,fr,(aH.bind p).mono λc θ1 h1 H1 _ _ ⟨ev,w1,p1⟩=>p1 θ1 H1 Ev.refl w1⟩
theorem gc(h:DE X E m e):DE X E m (.BoolOp op [e] pos):=by simp[bF]at *;exact LC h
theorem af:DA X E ah []:=by simp[km]at *;exact PA.imp tV λσ H Q ⟨θ,h,ρ,w,fr,p⟩=>p θ H Ev.refl w _ .nil
theorem ab(ha:DE X E m e)(hr:DA X E ma es)(hs:starEach (e::es) X.env=(false,eval e X.env)::starEach es X.env:=by rfl):DA X E (aa m ma) (e::es):=by
 simp[bF,km]at *
 exact PA.imp (nq ha hr hs) λσ H Q ⟨θ,h,ρ,w,fr,p⟩=>⟨θ,h,ρ,w,fr,(aH.bind p).mono λx θ1 h1 H1 _ _ ⟨ev,w1,p1⟩ v r1=>
   ⟨θ1,h1,ρ,w1,fr.ev ev,(aH.bind p1).mono λxs θ2 h2 H2 _ _ ⟨ev2,w2,p2⟩ vs r2=>p2 θ2 H2 Ev.refl w2 _ (.cons (r1.ev ev2) r2)⟩⟩
theorem ny:∀{xs:List D} {vs:List V} {ds:WA},aV G θ H xs vs->jb xs=some ds->bh (view θ H) ds vs/\cY ds=true
 | [],_,ds,.nil,e=>by cases e;exact⟨rfl,by rfl⟩
 |x::xs,_,ds,.cons r rs,e=>by
  unfold jb at e
  cases x with
  |dat d=>
   cases e2:jb xs with
   |none=>simp_all
   |some ds'=>simp[D.data,e2]at e;subst e;obtain⟨h1,h2⟩:=ny rs e2;exact⟨.cons r.1 h1,by simp[cY,r.2,h2]⟩
  |_=>trivial
theorem yx:∀{ds:WA} {vs:List V},bh (view θ H) ds vs->cY ds=true->aV G θ H (ds.map D.dat) vs
 | [],_,h,_=>by cases h;exact .nil
 |d::ds,_,⟨v,vs,e,r,rs⟩,s=>by subst e;simp[cY]at s;exact .cons ⟨r,s.1⟩ (yx rs s.2)
theorem dW(h:mj n=true):n<=sizeLine:=by
 have:=Uo h
 simp_all[UY]
theorem qO:∀{xs:List D} {ds:WA},jb xs=some ds->ds.length=xs.length
 | [],ds,e=>by cases e;rfl
 |x::xs,ds,e=>by
  unfold jb at e
  cases e1:x.data with
  |none=>simp_all
  |some d=>
   cases e2:jb xs with
   |none=>simp_all
   |some ds'=>rw[e1,e2]at e;cases e;simp[qO e2]
theorem bq(h:DA X E ma es):DE X E (br ma) (.Tuple es x1 pos):=by
 simp only[bF,km]at *
 exact PE.imp (Bs h) λσ H Q ⟨θ,h,ρ,w,fr,p⟩=>⟨θ,h,ρ,w,fr,(aH.bind p).mono λxs θ1 h1 H1 _ _ ⟨ev,w1,p1⟩ vs r1=>by
   unfold lR at p1
   cases e:jb xs with
   |none=>rw[e]at p1;exact p1.elim
   |some ds=>
    rw[e]at p1;simp only at p1;split at p1
    ·rename_i hz;have hl:vs.length=xs.length:=(SW r1).symm;refine⟨by rw[hl,<- qO e];exact dW hz,λq hq=>?_⟩;obtain⟨e1,w2,g⟩:=w1.put (o:=.tup vs) hq;obtain⟨h1,h2⟩:=ny r1 e;exact p1 _ _ e1 w2 _ ⟨⟨q,vs,rfl,g,h1.same e1.same⟩,by assumption⟩
    ·trivial⟩
theorem kJ(h:DA X E ma es):DE X E (jc ma) (.List es pos):=by
 simp only[bF,km]at *
 exact PE.imp (Bt h) λσ H Q ⟨θ,h,ρ,w,fr,p⟩=>⟨θ,h,ρ,w,fr,(aH.bind p).mono λxs θ1 h1 H1 _ _ ⟨ev,w1,p1⟩ vs r1=>by
   unfold eL at p1
   cases e:jb xs with
   |none=>rw[e]at p1;exact p1.elim
   |some ds=>
    rw[e]at p1;simp only at p1;split at p1
    ·rename_i hz;have hl:vs.length=xs.length:=(SW r1).symm;refine⟨by rw[hl,<- qO e];exact dW hz,λq hq=>?_⟩;obtain⟨e1,w2,g⟩:=w1.put (o:=.lst vs) hq;obtain⟨h1,h2⟩:=ny r1 e;exact p1 _ _ e1 w2 _ ⟨⟨q,vs,rfl,g,h1.same e1.same⟩,by assumption⟩
    ·trivial⟩
theorem W.MB(w:W G θ h H)(r:aV G θ H xs vs)(hp:H p=none) :
  Ev θ H (θ++[p]) (upd H p (.lst vs))/\W G (θ++[p]) (h++[.lst xs]) (upd H p (.lst vs))/\cj G (θ++[p]) (upd H p (.lst vs)) (.ref h.length) (.ref p):=by
 have e:Ev θ H _ (upd H p (.lst vs)):=⟨⟨[p],rfl⟩,λa u q=>by
  obtain⟨h1,h2⟩:=ee q;have ne:=aI h2 hp;rw[eU (by grind),aE ne]
  exact h2⟩
 obtain⟨e1,w1⟩:=w.alloc (m:=.lst xs) hp ⟨vs,bg,r.ev e⟩;exact⟨e1,w1,p,by simp_all[w.len],rfl⟩
theorem uo(h:DA X E ma es):DE X E (ue ma) (.List es pos):=by
 simp[bF,km]at *
 exact PE.imp (Bt h) λσ H Q ⟨θ,h,ρ,w,fr,p⟩=>⟨θ,h,ρ,w,fr,(aH.bind p).mono λxs θ1 h1 H1 _ _ ⟨ev,w1,p1⟩ vs r1=>by
   unfold CU at p1;split at p1
   ·rename_i hz;have hl  := (SW r1).symm;refine⟨by rw[hl];exact dW hz,λq hq=>?_⟩;obtain⟨e1,w2,g⟩:=w1.MB r1 hq;exact p1 _ _ e1 w2 _ g
   ·trivial⟩
theorem Gg{id:String}(hc:um X E (.builtin id) f)(hg:Gl X x)(hm:X.mg x=none)(hv:bootBuiltins x=some (.builtin id)){p:Pos}(ha:DA X E ma (e::es))(hn:x ≠ "__name__" := by decide)(hdb:(x==("__debug__" : Str))=false:=by decide)
 (he:starEach (e::es) X.env=(false,eval e X.env)::starEach es X.env:=by rfl)(hpl:(backTo pos (starEach es X.env)).any (·.1)=false:=by rfl):DE X E (ag f ma) (.Call (.Name x p) (e::es) [] pos):=by
 simp only[bF,km]at *;exact PE.imp (zC hc hg hm hv ha hn hdb he hpl) λ_ _ _=>C7
theorem EE(hc:um X E (.type T) f)(hg:Gl X x)(hm:X.mg x=none)(hv:bootBuiltins x=some (.type T)){p:Pos}(ha:DA X E ma (e::es))(hn:x ≠ "__name__" := by decide)(hdb:(x==("__debug__" : Str))=false:=by decide)
 (he:starEach (e::es) X.env=(false,eval e X.env)::starEach es X.env:=by rfl)(hpl:(backTo pos (starEach es X.env)).any (·.1)=false:=by rfl):DE X E (ag f ma) (.Call (.Name x p) (e::es) [] pos):=by
 simp only[bF,km]at *;exact PE.imp (En hc hg hm hv ha hn hdb he hpl) λ_ _ _=>C7
end
section
variable {X:Cx} {E:XK} {m:ME} {a b:MS} {t:MT} {e e1:Expr} {st:Stmt} {sts:List Stmt} {ss ss':List Stmt} {ma:MA} {pos:Pos} {i:Nat} {x:Str} {g:MG}
theorem cZ:Gf X E dz []:=by simp[qN]at *;exact Bi.imp Io λC σ H ⟨θ,h,ρ,w,fr,p⟩=>p θ H Ev.refl w σ fr
theorem aA(h:DS X E a st):Gf X E a [st]:=by simp[ko,qN]at *;exact Ip h
theorem au(h1:DS X E a st)(h2:Gf X E b ss):Gf X E (bj a b) (st::ss):=by
 simp[ko,qN]at *
 exact Bi.imp (Fp h1 h2) λC σ H ⟨θ,h,ρ,w,fr,p⟩=>⟨θ,h,ρ,w,fr,(aH.bind p).mono λf θ1 h1 H1 _ _ ⟨ev,w1,p1⟩=>by
   cases f with
   |nx ρ1=>exact λσ1 fr1=>⟨θ1,h1,ρ1,w1,fr1,p1⟩
   |rt d=>exact p1 θ1 H1 Ev.refl w1
   |bk ρ1=>exact p1 θ1 H1 Ev.refl w1
   |ct ρ1=>exact p1 θ1 H1 Ev.refl w1⟩
theorem fH(he:DE X E m e)(hs:swapsWith e none pos.line X.env=pure false:=by rfl):DS X E (hG m) (.Expr e pos):=by simp[bF,ko]at *;exact PS.imp (Iq he hs) λC σ H ⟨θ,h,ρ,w,fr,p⟩=>⟨θ,h,ρ,w,fr,(aH.bind p).mono λd θ1 h1 H1 _ _ ⟨ev,w1,p1⟩ v _=>p1 θ1 H1 Ev.refl w1 σ (fr.ev ev)⟩
theorem bb(he:DE X E m e):DS X E (cC m) (.Return (some e) pos):=by simp[bF,ko]at *;exact PS.imp (LD he) λC σ H ⟨θ,h,ρ,w,fr,p⟩=>⟨θ,h,ρ,w,fr,(aH.bind p).mono λd θ1 h1 H1 _ _ ⟨ev,w1,p1⟩ v r=>p1 θ1 H1 Ev.refl w1 v r⟩
theorem hV(hc:DT X E t e)(ha:Gf X E a ss)(hb:Gf X E b ss'):DS X E (nY t a b) (.If e ss ss' pos):=by
 simp[mK,ko,qN]at *
 exact PS.imp (NZ hc ha hb) λC σ H ⟨θ,h,ρ,w,fr,p⟩=>⟨θ,h,ρ,w,fr,(aH.bind p).mono λc θ1 h1 H1 _ _ ⟨ev,w1,p1⟩=>by
   cases c with
   |true=>exact⟨θ1,h1,ρ,w1,fr.ev ev,p1⟩
   |false=>exact⟨θ1,h1,ρ,w1,fr.ev ev,p1⟩⟩
theorem Jc(hN:X.N.Nodup)(hi:X.N[i]?=some x)(hx:Loc X.env.scope x)(hf:X.fn x=true\/X.env.scope.names.lookup x=some .local:=by first|exact .inl rfl|exact .inr rfl|assumption):DG X E (aq i) (.Name x pos):=by simp[n5]at *;exact λpins s σ H v u Q I r ⟨θ,h,ρ,d,w,fr,rd,p⟩=>Ir hN hi hx hf pins s σ H v u Q I r (p θ H Ev.refl w _ (fr.set rd))
noncomputable def RF(G:Gx)(E:XK)(g:Fh):NI:=λvs σ H Q=>∃θ h ρ ds,W G θ h H/\Fr G θ H ρ σ/\aV G θ H ds vs/\aH G (nR G E) θ H (g ds ρ h) (λρ' θ' _ H'=>∀σ',Fr G θ' H' ρ' σ'->Q σ' H')
@[irreducible] noncomputable def MC(X:Cx)(E:XK)(m:Fh)(es:WG):Prop:=NJ X es (RF X.G E m)
theorem yy(X:Cx)(E:XK)(m:Fh)(es:WG):MC X E m es=(NJ X es (RF X.G E m)):=by
 grind[MC]
theorem fI:MC X E iI []:=by
 simp[yy]at *
 exact λpins s σ H vs us Q I r ⟨θ,h,ρ,ds,w,fr,rd,p⟩=>by
  cases rd with
  |nil=>exact Iu pins s σ H [] us Q I r ⟨rfl,p θ H Ev.refl w σ fr⟩
  |cons=>trivial
theorem bw(h1:DG X E g e)(h2:MC X E gs es)(hs:(assignEach (e::es) X.env).map (·.2)=assign e X.env::(assignEach es X.env).map (·.2):=by rfl):MC X E (bP g gs) (e::es):=by
 simp[n5,yy]at *
 exact λpins s σ H vs us Q I r ⟨θ,h,ρ,ds,w,fr,rd,p⟩=>by
   cases rd with
   |nil=>trivial
   |cons r1 rr=>exact Fq h1 h2 hs pins s σ H _ us Q I r ⟨_,_,rfl,θ,h,ρ,_,w,fr,r1,(aH.bind p).mono λρ1 θ1 h1 H1 _ _ ⟨ev,w1,p1⟩ σ1 fr1=>⟨θ1,h1,ρ1,_,w1,fr1,aV.ev ev rr,p1⟩⟩
theorem iK(r:cj G θ H (.dat (.tuple ds)) v):∃a xs,v=.ref a/\view θ H a=some (.tup xs)/\bh (view θ H) ds xs/\aV G θ H (ds.map D.dat) xs:=by obtain⟨⟨a,xs,e,ha,rr⟩,s⟩:=r;exact⟨a,xs,e,ha,rr,yx rr (by assumption)⟩
theorem iL(r:cj G θ H (.dat (.list ds)) v):∃a xs,v=.ref a/\view θ H a=some (.lst xs)/\bh (view θ H) ds xs/\aV G θ H (ds.map D.dat) xs:=by obtain⟨⟨a,xs,e,ha,rr⟩,s⟩:=r;exact⟨a,xs,e,ha,rr,yx rr (by assumption)⟩
@[irreducible] noncomputable def xh(gs:Fh)(n:Nat):Prop:=∀xs ρ h,xs.length≠n->gs xs ρ h=.bad
theorem uq(gs:Fh)(n:Nat):xh gs n=(∀xs ρ h,xs.length≠n->gs xs ρ h=.bad):=by
 grind[xh]
theorem dI:xh iI 0:=by
 simp[uq]at *
 exact λxs ρ h ne=>by
  cases xs with
  |nil=>grind
  |cons=>rfl
theorem aW{g:Nat}(t:xh gs n):xh (bP (aq g) gs) (n+1):=by
 simp[uq]at *
 exact λxs ρ h ne=>by
  cases xs with
  |nil=>rfl
  |cons x xs=>simp_all[bP,aq]
theorem jf{k n:Nat}(hc:X.calm=true)(h:MC X E gs es)(tk:xh gs n)(hn:(assignEach es X.env).length=n:=by rfl)(hst:(assignEach es X.env).findIdx? (·.1)=none:=by rfl):DG X E (i7 gs) (.Tuple es k pos):=by
 simp only[n5,yy,uq]at *
 exact λpins s σ H v u Q I r ⟨θ,hm,ρ,d,w,fr,rd,p⟩=>by
   cases d with
   |dat d=>
    cases d with
    |tuple ds=>
     obtain⟨a,xs,e,ha,rr,rr2⟩:=iK rd
     have hl:xs.length=n:=by
      have h1:xs.length=ds.length:=rr.length;by_cases z:ds.length=n
      ·grind
      ·have p':=p;simp only[i7]at p';rw[tk (ds.map D.dat) ρ hm (by grind)]at p';exact p'.elim
     exact Fs (n:=n) hc h hn hst pins s σ H v u Q I r ⟨a,xs,e,ip.of (aC _ _ _ _ ha),hl,θ,hm,ρ,_,w,fr,rr2,p⟩
    |_=>trivial
   |_=>exact p.elim
theorem MD(hN:X.N.Nodup)(hi:X.N[i]?=some x)(hx:Loc X.env.scope x)(he:DE X E m e)(hs:swapsWith e (some (.Name x pos')) pos.line X.env=pure false:=by rfl)(hf:X.fn x=true\/X.env.scope.names.lookup x=some .local:=by first|exact .inl rfl|exact .inr rfl|assumption) :
  DS X E (bU i m) (.Assign [.Name x pos'] e pos):=by
 simp[bF,ko]at *;exact PS.imp (LH hN hi hx he hs hf) λC σ H ⟨θ,h,ρ,w,fr,p⟩=>⟨θ,h,ρ,w,fr,(aH.bind p).mono λd θ1 h1 H1 _ _ ⟨ev,w1,p1⟩ v r=>p1 θ1 H1 Ev.refl w1 _ ((fr.ev ev).set r)⟩
theorem jY(he:DE X E m e)(hg:DG X E g tg)(hs:swapsWithSole [tg] e pos.line X.env=pure false:=by rfl)(hw:swappedStores [tg] e X.env=pure none:=by rfl)
 (h1:(assignEach [tg] X.env).map (·.2)=[assign tg X.env]:=by rfl):DS X E (mG g m) (.Assign [tg] e pos):=by
 simp only[bF,ko,n5]at *
 exact PS.imp (Ft he hg hs hw h1) λC σ H ⟨θ,h,ρ,w,fr,p⟩=>⟨θ,h,ρ,w,fr,(aH.bind p).mono λd θ1 h1 H1 _ _ ⟨ev,w1,p1⟩ v r=>
   ⟨θ1,h1,ρ,d,w1,fr.ev ev,r,(aH.bind p1).mono λρ1 θ2 h2 H2 _ _ ⟨ev2,w2,p2⟩ σ2 fr2=>p2 θ2 H2 Ev.refl w2 σ2 fr2⟩⟩
noncomputable def pJ(G:Gx)(θ:WB)(H:Hp)(xs:List D)(J:It):Prop:=∀θ' h' H',Ev θ H θ' H'->W G θ' h' H' ->
 (∀(i:Nat) (d:D),xs[i]?=some d->J.go i H'/\∀x H2,J.yld i H' x H2->Ev θ' H' θ' H2/\W G θ' h' H2/\cj G θ' H2 d x)/\J.stop xs.length H'
noncomputable def lI(G:Gx)(E:XK)(m:MA):TI:=λσ H R=>∃θ h ρ,W G θ h H/\Fr G θ H ρ σ/\aH G (nR G E) θ H (m ρ h) (λxs θ' _ H'=>∀J,pJ G θ' H' xs J->R J H')
@[irreducible] noncomputable def DI(X:Cx)(E:XK)(m:MA)(tg e:Expr):Prop:=PI X tg e (lI X.G E m)
theorem lU(X:Cx)(E:XK)(m:MA)(tg e:Expr):DI X E m tg e=(PI X tg e (lI X.G E m)):=by
 grind[DI]
theorem PI.imp{t t':TI}(h:PI X tg e t)(k:∀σ H Q,t' σ H Q->t σ H Q):PI X tg e t':=λpins s σ H Q I q=>h pins s σ H Q I (k _ _ _ q)
theorem aV.get:∀{ds:List D} {vs:List V} {i:Nat} {d:D} {v:V},aV G θ H ds vs->ds[i]?=some d->vs[i]?=some v->cj G θ H d v
 |_,_,i,_,_,.nil,e,_=>by simp at e
 |_,_,0,_,_,.cons r _,e,e'=>by grind
 |_,_,i+1,d,v,.cons _ t,e,e'=>aV.get (i:=i) t (by simp_all) (by simp_all)
theorem aV.some(r:aV G θ H ds vs)(e:ds[i]?=some d):∃v,vs[i]?=some v/\cj G θ H d v:=by
 have hl  := SW r;have hi:i<vs.length:=by rw[<- hl];exact(SJ.mp e).1
 exact⟨vs[i],SH hi,r.get e (SH hi)⟩
theorem MF{a:Addr}(ha:view θ H a=some (.tup xs))(r:aV G θ H ds xs):pJ G θ H ds (Pl K a):=λθ' h' H' ev w=>by have ha':=aC _ _ _ _ (ev.same _ _ ha);have q:ip K H' a xs:=ip.of ha';refine⟨λi d e=>?_,⟨xs,q,by rw[<- SW r];grind⟩⟩;obtain⟨v,ev',rv⟩:=r.some e;refine⟨⟨xs,v,q,ev'⟩,λx H2 ⟨e2,y⟩=>?_⟩;subst e2;have:=y xs q;rw[ev']at this;cases this;exact⟨Ev.refl,w,rv.ev ev⟩
theorem MH{a:Addr}(ha:view θ H a=some (.lst xs))(r:aV G θ H ds xs):pJ G θ H ds (Qh K a):=λθ' h' H' ev w=>by have ha':=aC _ _ _ _ (ev.same _ _ ha);have q:j9 K H' a xs:=j9.of ha';refine⟨λi d e=>?_,⟨xs,q,by rw[<- SW r];grind⟩⟩;obtain⟨v,ev',rv⟩:=r.some e;refine⟨⟨xs,v,q,ev'⟩,λx H2 ⟨e2,y⟩=>?_⟩;subst e2;have:=y xs q;rw[ev']at this;cases this;exact⟨Ev.refl,w,rv.ev ev⟩
theorem MI(h:DE X E m e):DI X E (CV m) tg e:=by
 simp[bF,lU]at *
 exact PI.imp (Fv h) λσ H R ⟨θ,h,ρ,w,fr,p⟩=>⟨θ,h,ρ,w,fr,(aH.bind p).mono λd θ1 h1 H1 _ _ ⟨ev,w1,p1⟩ v r=>by
   cases d with
   |dat d=>
    cases d with
    |tuple ds=>obtain⟨a,xs,e,ha,_,rr⟩:=iK r;exact⟨a,e,⟨xs,ip.of (aC _ _ _ _ ha)⟩,p1 θ1 H1 Ev.refl w1 _ (MF ha rr)⟩
    |_=>trivial
   |_=>trivial⟩
theorem MJ(h:DE X E m e):DI X E (F3 m) tg e:=by
 simp[bF,lU]at *
 exact PI.imp (Iv h) λσ H R ⟨θ,h,ρ,w,fr,p⟩=>⟨θ,h,ρ,w,fr,(aH.bind p).mono λd θ1 h1 H1 _ _ ⟨ev,w1,p1⟩ v r=>by
   cases d with
   |dat d=>
    cases d with
    |list ds=>obtain⟨a,xs,e,ha,_,rr⟩:=iL r;exact⟨a,e,⟨xs,j9.of (aC _ _ _ _ ha)⟩,p1 θ1 H1 Ev.refl w1 _ (MH ha rr)⟩
    |_=>trivial
   |_=>trivial⟩
theorem C9(s:PyData.strOk x=true):PyData.strOk ⟨#[x.cps.getD i 0]⟩=true:=by
 have q:=Array.all_eq_true.mp s;apply Array.all_eq_true.mpr;intro j hj;by_cases hi:i<x.cps.size
 ·simp_all
 simp_all
theorem MK(h:DE X E m e):DI X E (F4 m) tg e:=by
 simp only[bF,lU]at *
 exact PI.imp (Mk h) λσ H R ⟨θ,h,ρ,w,fr,p⟩=>⟨θ,h,ρ,w,fr,(aH.bind p).mono λd θ1 h1 H1 _ _ ⟨ev,w1,p1⟩ v r=>by
   cases d with
   |dat d=>
    cases d with
    |str s=>obtain⟨r1,r2⟩:=r;refine⟨s,r1,p1 θ1 H1 Ev.refl w1 _ λθ' h' H' ev w=>⟨λi d e=>?_,by show(signs s).length=_;simp[signs]⟩⟩;simp only[signs,Ua,TB]at e;obtain⟨j,e1,e2⟩:=e;obtain⟨hj,e3⟩:=SJ.mp e1;simp at hj e3;subst e3;subst e2;refine⟨hj,λx H2 ⟨z1,z2⟩=>?_⟩;subst z1;subst z2;exact⟨Ev.refl,w,rfl,by simp only[dQ];exact C9 (by simpa [dQ]using r2)⟩
    |_=>exact p1.elim
   |_=>exact p1.elim⟩
theorem Jd:pJ G θ H (nums lo n) (Pm lo n):=λθ' h' H' ev w=>by refine⟨λi d e=>?_,by show n<=(nums lo n).length;simp[nums]⟩;simp[nums]at e;obtain⟨j,e1,e2⟩:=e;obtain⟨hj,e3⟩:=SJ.mp e1;simp at hj e3;subst e3;subst e2;refine⟨hj,λx H2 ⟨z1,z2⟩=>?_⟩;subst z1;subst z2;exact⟨Ev.refl,w,rfl,by rfl⟩
theorem cA(r:cj G θ H (.int j) v):v=.int j:=r.1
theorem Dc{tg a:Expr}(hg:Gl X "range")(hm:X.mg "range" = none)(ha:DA X E ma [a])(hs:starEach [a] X.env=[(false,eval a X.env)]:=by rfl):DI X E (rQ ma) tg (.Call (.Name "range" p') [a] [] pos'):=by
 simp[km,lU]at *
 exact PI.imp (Ef hg hm ha hs) λσ H R ⟨θ,h,ρ,w,fr,p⟩=>⟨θ,h,ρ,w,fr,(aH.bind p).mono λds θ1 h1 H1 _ _ ⟨ev,w1,p1⟩ vs r=>by
   split at p1
   ·split at p1
    ·rename_i j _ hj
     cases r with
     |cons r1 rr=>cases rr;cases cA r1;exact⟨j,rfl,hj.1,hj.2,p1 θ1 H1 Ev.refl w1 _ Jd⟩
    ·trivial
   ·trivial⟩
theorem zT:∀(xs ys:WA),(yo xs ys).length=min xs.length ys.length
 | [],_=>by rfl
 |_::_,[]=>by rfl
 |x::xs,y::ys=>by simp[yo,zT xs ys]
theorem zU:∀(xs ys:WA) (i:Nat) (d:D),(yo xs ys)[i]?=some d->∃x y,xs[i]?=some x/\ys[i]?=some y/\d=.dat (.tuple [x,y])
 | [],_,i,d,e=>by trivial
 |_::_,[],i,d,e=>by trivial
 |x::xs,y::ys,0,d,e=>by grind[yo]
 |x::xs,y::ys,i+1,d,e=>by simpa using zU xs ys i d (by assumption)
theorem pK:∀{ds:WA} {i:Nat} {d:PyData},cY ds=true->ds[i]?=some d->dQ d=true
 | [],i,d,_,e=>by simp at e
 |x::xs,0,d,s,e=>by grind[cY]
 |x::xs,i+1,d,s,e=>by simp[cY]at s;exact pK (i:=i) s.2 (by simp_all)
theorem ML{kk:Nat}{es:WG}{tpos:Pos}{p' pos':Pos}(hg:Gl X "zip")(hm:X.mg "zip" = none)(ha:DA X E ma [e1,e2])(hs:starEach [e1,e2] X.env=[(false,eval e1 X.env),(false,eval e2 X.env)]:=by rfl)(hs2:starEach [e2] X.env=[(false,eval e2 X.env)]:=by rfl) :
  DI X E (CW ma) (.Tuple es kk tpos) (.Call (.Name "zip" p') [e1,e2] [] pos'):=by
 simp only[km,lU]at *
 exact PI.imp (Md hg hm ha hs hs2) λσ H R ⟨θ,h,ρ,w,fr,p⟩=>⟨θ,h,ρ,w,fr,(aH.bind p).mono λds θ1 h1 H1 _ _ ⟨ev,w1,p1⟩ vs r=>by
   split at p1
   ·rename_i xs ys _
    cases r with
    |cons r1 rr=>
     cases rr with
     |cons r2 rr=>
      cases rr;have s1:cY xs=true:=by simpa [dQ]using r1.2
      have s2:cY ys=true:=by simpa [dQ]using r2.2
      obtain⟨a1,us,rfl,ha1,q1,_⟩:=iK r1;obtain⟨a2,ws,rfl,ha2,q2,_⟩:=iK r2;refine⟨a1,a2,us,ws,rfl,ip.of (aC _ _ _ _ ha1),ip.of (aC _ _ _ _ ha2),p1 θ1 H1 Ev.refl w1 _ λθ' h' H' ev' w'=>?_⟩;have k1:ip X.K H' a1 us:=ip.of (aC _ _ _ _ (ev'.same _ _ ha1));have k2:ip X.K H' a2 ws:=ip.of (aC _ _ _ _ (ev'.same _ _ ha2));have l1:=q1.length;have l2:=q2.length;refine⟨λi d e=>?_,⟨us,ws,k1,k2,by rw[zT,l1,l2];omega⟩⟩;obtain⟨x,y,ex,ey,rfl⟩:=zU _ _ _ _ e;obtain⟨u,eu,ru⟩:=bh.get' q1 ex;obtain⟨z,ez,rz⟩:=bh.get' q2 ey;refine⟨⟨us,ws,u,z,k1,k2,eu,ez⟩,λv H2 ⟨pp,x',y',e1,hp,e2,c1,c2⟩=>?_⟩;have:=c1 us k1;rw[eu]at this;cases this;have:=c2 ws k2;rw[ez]at this;cases this;subst e1;subst e2;obtain⟨e3,w3,g3⟩:=w'.put (o:=.tup [u,z]) hp;exact⟨e3,w3,⟨pp,[u,z],rfl,g3,.cons (ru.same (ev'.same.trans e3.same)) (.one (rz.same (ev'.same.trans e3.same)))⟩,by simp[dQ,cY,pK s1 ex,pK s2 ey]⟩
   ·exact p1.elim⟩
noncomputable abbrev gz:XK:=λ_ _ _=>False
theorem aH.dB{f:α->Hm->R β}(p:aH G F θ H (r.ud.bind f) L) :
  aH G F' θ H r λa θ1 h1 H1=>Ev θ H θ1 H1/\W G θ1 h1 H1/\aH G F θ1 H1 (f a h1) L:=by
 cases r with
 |ok a h'=>exact λθ1 H1 e w=>⟨e,w,aH.later p e⟩
 |exc x h'=>trivial
 |bad=>trivial
theorem PS.NH{t:TS}(h:PS X.NH st t):PS X st t:=λpins s σ H D I hw=>
 TZ (h pins s σ H D (I.vV _) hw) (λ_ _ q=>q.mz) λ_ _ z=>False.elim z
end
end Ml
namespace L2
open PySem PySem.Spec PyProof.Rows
theorem KJ.Sb{K:WD}{st:Stmt}(F:KJ K x qual st f fd)(S:aQ N ps (aB st))(len:∀vs H Q E,sp vs H Q E->vs.length=ps.length)
 (hbody:∀(cdv:Value) (A:WN) (outer:List Env) (s:WO) (H:Hp) (vs:List V) (Q:VK) (E:XK),cG k (A.deeper (envOfC qual (aB st) s.heap.objs.size f cdv))->sp vs H Q E ->
   ∃t,Bi (vW (vT P w) P w K mg base N qual (aB st) f cdv A outer s H E) (f6 st) t/\t {nx:=λ_ H'=>Q .non H',rt:=Q} (start N vs) H):ka P w K mg base (vT P w) (k+1) f fd ps sp:=by
 obtain⟨oc,od,kV,doc,pm,an,cdv,ct,osl,rfl,lk,hcd⟩:=F.ex;exact Of lk hcd S len λA outer s H vs Q E hr hsp=>hbody cdv A outer s H vs Q E hr hsp
structure Gh(P:WL)(w:World)(K:WD)(mg:Wz)(base:Heap)(x:Str)(ps:WE)(k:Nat)(sp:Sp):Prop where
 ex:∃(f:Addr) (fd:FuncData),mg x=some (.ref f)/\PySem.W.keepIn K (.ref f)=true/\Binds K fd ps []/\ka P w K mg base (vT P w) k f fd ps sp
section
variable {X:Cx} {x:Str} {ps:WE} {k:Nat} {sp:Sp} {e:Expr} {es:WG} {t:TA} {p pos:Pos}
theorem MM(F:Gh X.prog X.w X.K X.mg X.base x ps k sp)(hx:Passes (vT X.prog X.w) X E)(hr:cG k X.A)(hg:Gl X x)(ha:PA X (e::es) t)(hdb:(x==("__debug__" : Str))=false:=by decide)(he:starEach (e::es) X.env=(false,eval e X.env)::starEach es X.env:=by rfl)
 (hpl:(backTo pos (starEach es X.env)).any (·.1)=false:=by rfl):PE X (.Call (.Name x p) (e::es) [] pos) (FD sp [] E t):=by
 obtain⟨f,fd,h1,h2,h3,h4⟩:=F.ex;exact IC h4 hr hg h1 h2 h3 .nil hx ha hdb he hpl
end
end L2
namespace Ml
open PySem PySem.Spec L2
section
variable {X:Cx} {E:XK} {m:ME} {a b:MS} {t:MT} {e e1 tg:Expr} {st:Stmt} {ss ss':List Stmt} {ma it:MA} {pos:Pos} {i:Nat} {x:Str} {g:MG}
theorem Gi(hJ:pJ G θ1 H1 xs J)(w1:W G θ1 h1 H1)(fr:Fr G θ1 H1 ρ σ)(p1:aH G F θ1 H1 (bX g b xs ρ h1) (KS G C)) :
  ∃W':Nat->Nat->St->Hp->Prop,(∃m,W' 0 m σ H1)/\∀i m σ H,W' i m σ H ->
   (J.stop i H/\C.nx σ H)\/(J.go i H/\∃N:St->Hp->Prop,(∀σ' H',N σ' H'->∃m',m'<m/\W' (i+1) m' σ' H')/\∀x H',J.yld i H x H'->lG G gz g x σ H' λσ2 H2=>lS G gz b {C with nx:=N,ct:=N,bk:=C.nx} σ2 H2):=by
 refine⟨λi m σ H=>m=xs.length-i/\i<=xs.length/\∃θ' h' ρ',Ev θ1 H1 θ' H/\W G θ' h' H/\Fr G θ' H ρ' σ/\aH G F θ' H (bX g b (xs.drop i) ρ' h') (KS G C),⟨xs.length,by simp,Ug _,θ1,h1,ρ,Ev.refl,w1,fr,p1⟩,?_⟩;rintro i m σ H ⟨rfl,hi,θ',h',ρ',ev,w,fr',p⟩;obtain⟨j1,j2⟩:=hJ θ' h' H ev w;by_cases hlt:i<xs.length
 ·have ed:xs.drop i=xs[i]::xs.drop (i+1):=TR hlt;rw[ed]at p;obtain⟨g1,g2⟩:=j1 i xs[i] (SH hlt);refine .inr ⟨g1,λσ2 H2=>i+1<=xs.length/\∃θ' h' ρ',Ev θ1 H1 θ' H2/\W G θ' h' H2/\Fr G θ' H2 ρ' σ2/\aH G F θ' H2 (bX g b (xs.drop (i+1)) ρ' h') (KS G C),λσ' H' q=>⟨xs.length-(i+1),by omega,rfl,q⟩,λx H2 y=>?_⟩;obtain⟨e2,w2,r2⟩:=g2 x H2 y;refine⟨θ',h',ρ',xs[i],w2,fr'.ev e2,r2,(aH.dB (p.later e2)).mono λρ3 θ3 h3 H3 _ _ ⟨e3,w3,p3⟩ σ3 fr3=>⟨θ3,h3,ρ3,w3,fr3,(aH.dB p3).mono λf θ4 h4 H4 _ _ ⟨e4,w4,p4⟩=>?_⟩⟩;have ev4:=(ev.trans e2).trans (e3.trans e4)
  cases f with
  |nx ρ5=>exact λσ5 fr5=>⟨hlt,θ4,h4,ρ5,ev4,w4,fr5,p4⟩
  |ct ρ5=>exact λσ5 fr5=>⟨hlt,θ4,h4,ρ5,ev4,w4,fr5,p4⟩
  |bk ρ5=>exact p4 θ4 H4 Ev.refl w4
  |rt d=>exact p4 θ4 H4 Ev.refl w4
 ·have hx:i=xs.length:=by omega
  subst hx;rw[T5 (Ss _)]at p;exact .inl ⟨j2,p θ' H Ev.refl w σ fr'⟩
theorem iB(hc:X.calm=true)(hi:DI X.NH gz it tg e)(hg:DG X.NH gz g tg)(hb:Gf X.NH gz b body)(hs:∀x,foldedSetIterable e X.env x=pure x:=by intro _;rfl):DS X E (nQ it g b) (.For tg e body [] pos):=by simp[ko,qN,n5,lU]at *;exact PS.NH (PS.imp (LJ PassesOwn.never hc hi hg hb hs) λC σ H ⟨θ,h,ρ,w,fr,p⟩=>⟨θ,h,ρ,w,fr,(aH.dB p).mono λxs θ1 h1 H1 _ _ ⟨ev,w1,p1⟩ J hJ=>Gi hJ w1 (fr.ev ev) p1⟩)
theorem fA:∀{xs ys:List α} {us ws:List β},Paired G xs us->Paired G ys ws->Paired G (xs++ys) (us++ws)
 |_,_,_,_,.nil,s=>s
 |_,_,_,_,.cons r t,s=>.cons r (fA t s)
theorem EF(hJ:pJ G θ1 H1 xs J)(w1:W G θ1 h1 H1)(fr:Fr G θ1 H1 ρ σ)(p1:aH G F θ1 H1 ((ff n ρ g t m xs h1).bind mk) (KV G Q))
 (hmk:∀ys vs θ h H,ys.length<=xs.length->W G θ h H->aV G θ H ys vs->aH G F θ H (mk ys h) (KV G Q)->∀p,H p=none->Q (.ref p) (upd H p (.lst vs)))(hz:xs.length<=sizeLine) :
  FK n J (lG G gz g) (lT G gz t) (lE G gz m) σ H1 Q:=by
 refine⟨λi m' ys H=>m'=xs.length-i/\i<=xs.length/\∃θ' h' acc,acc.length<=i/\Ev θ1 H1 θ' H/\W G θ' h' H/\aV G θ' H acc ys/\aH G F θ' H ((ff n ρ g t m (xs.drop i) h').bind λzs h2=>mk (acc++zs) h2) (KV G Q),
  ⟨xs.length,by simp,Ug _,θ1,h1,[],Ss _,Ev.refl,w1,.nil,p1⟩,?_⟩
 rintro i m' ys H ⟨rfl,hi,θ',h',acc,hacc,ev,w,ra,p⟩;obtain⟨j1,j2⟩:=hJ θ' h' H ev w;have hly:ys.length<=sizeLine:=by rw[<- show acc.length=ys.length from SW ra];omega
 by_cases hlt:i<xs.length
 ·have ed:xs.drop i=xs[i]::xs.drop (i+1):=TR hlt;rw[ed]at p;obtain⟨g1,g2⟩:=j1 i xs[i] (SH hlt);refine .inr ⟨g1,hly,λys2 H2=>i+1<=xs.length/\∃θ' h' acc,acc.length<=i+1/\Ev θ1 H1 θ' H2/\W G θ' h' H2/\aV G θ' H2 acc ys2/\aH G F θ' H2 ((ff n ρ g t m (xs.drop (i+1)) h').bind λzs h2=>mk (acc++zs) h2) (KV G Q),λys' H' q=>⟨xs.length-(i+1),by omega,rfl,q⟩,λx H2 y=>?_⟩;obtain⟨e2,w2,r2⟩:=g2 x H2 y;have p2:=p.later e2;unfold ff at p2;simp only[R.bind_assoc]at p2;refine⟨θ',h',_,xs[i],w2,((fr.ev ev).ev e2).replicate n,r2,(aH.dB p2).mono λρ3 θ3 h3 H3 _ _ ⟨e3,w3,p3⟩ σ3 fr3=>⟨θ3,h3,ρ3,w3,fr3,(aH.dB p3).mono λc θ4 h4 H4 _ _ ⟨e4,w4,p4⟩=>?_⟩⟩;have ev4:=(ev.trans e2).trans (e3.trans e4);have ra4:=aV.ev (e2.trans (e3.trans e4)) ra
  cases c with
  |false=>exact⟨hlt,θ4,h4,acc,by omega,ev4,w4,ra4,p4⟩
  |true=>
   simp only[Tg,R.bind_assoc]at p4;refine⟨θ4,h4,ρ3,w4,fr3.ev e4,(aH.dB p4).mono λy θ5 h5 H5 _ _ ⟨e5,w5,p5⟩ v5 r5=>⟨hlt,θ5,h5,acc++[y],by simp;omega,ev4.trans e5,w5,?_,?_⟩⟩
   ·exact fA (aV.ev e5 ra4) (.cons r5 .nil)
   ·simp only[R.bind_assoc,R.aJ]at p5;simpa using p5
 ·have hx:i=xs.length:=by omega
  subst hx;rw[T5 (Ss _)]at p;simp only[ff,R.aJ,US]at p;exact .inl ⟨j2,hly,hmk acc ys θ' h' H hacc w ra p⟩
variable {own:WE} {scope:Scope} {elt:Expr} {ifs:WG}
@[irreducible] noncomputable def Je(X:Cx)(E:XK)(t:MT)(es:WG):Prop:=Es X es (lT X.G E t)
theorem qP(X:Cx)(E:XK)(t:MT)(es:WG):Je X E t es=(Es X es (lT X.G E t)):=by
 grind[Je]
theorem gf:Je X E cX []:=by simp[qP]at *;exact λpins s σ H Q I ⟨θ,h,ρ,w,fr,p⟩=>IK pins s σ H Q I (p θ H Ev.refl w)
theorem eW(h:DT X E t e):Je X E t [e]:=by simp[mK,qP]at *;exact IL h
theorem Dd{mk:List D->Hm->R D}(h:lE G E (ag mk (mI n it g t m)) σ H Q)
 (hmk:∀ys vs θ h H,ys.length<=sizeLine->W G θ h H->aV G θ H ys vs->aH G (nR G E) θ H (mk ys h) (KV G Q)->∀p,H p=none->Q (.ref p) (upd H p (.lst vs))) :
  CM n (lI G E it) (lG G gz g) (lT G gz t) (lE G gz m) σ H Q:=by
 obtain⟨θ,h,ρ,w,fr,p⟩:=h;simp[ag,mI,R.bind_assoc]at p;refine⟨θ,h,ρ,w,fr,(aH.bind p).mono λxs θ1 h1 H1 _ _ ⟨ev,w1,p1⟩ J hJ=>?_⟩;split at p1
 ·rename_i hz;exact EF hJ w1 (fr.ev ev) p1 (λys vs θ h H hl=>hmk ys vs θ h H (Sw hl (dW hz))) (dW hz)
 ·trivial
theorem oF(ys:List D)(vs:List V)(θ:WB)(h:Hm)(H:Hp)(w1:W G θ h H)(r1:aV G θ H ys vs)(p1:aH G F θ H (eL ys h) (KV G Q))(q:Addr)(hq:H q=none):Q (.ref q) (upd H q (.lst vs)):=by
 unfold eL at p1
 cases e:jb ys with
 |none=>rw[e]at p1;exact p1.elim
 |some ds=>
  rw[e]at p1;simp only at p1;split at p1
  ·obtain⟨e1,w2,g⟩:=w1.put hq;obtain⟨h1,h2⟩:=ny r1 e;exact p1 _ _ e1 w2 _ ⟨⟨q,vs,rfl,g,h1.same e1.same⟩,by assumption⟩
  ·trivial
theorem dX(own:WE)(CS:fw X.env.scope X.N own scope=true)(hc:X.calm=true)(hi:DI X E it tg e)(hg:∀C s2 H2 fp pins,DG (ay X own scope C s2 H2 fp pins) gz g tg)
 (ht:∀C s2 H2 fp pins,Je (ay X own scope C s2 H2 fp pins) gz t ifs)(he:∀C s2 H2 fp pins,DE (ay X own scope C s2 H2 fp pins) gz m elt)(hs:∀x,foldedSetIterable e X.env x=pure x:=by intro _;rfl) :
  DE X E (bZ own.length it g t m) (.ListComp elt [⟨tg,e,ifs,0⟩] scope pos):=by
 simp[bF,n5,lU,qP]at *;exact PE.imp (IM own CS hc hi hg ht he hs) λσ H Q q=>Dd q λys vs θ h H _=>oF ys vs θ h H
theorem Jf{mk:List D->Hm->R D}(h:lS G E (bU i (ag mk (mI n it g t m))) C σ H)
 (hmk:∀Q ys vs θ h H,ys.length<=sizeLine->W G θ h H->aV G θ H ys vs->aH G (nR G E) θ H (mk ys h) (KV G Q)->∀p,H p=none->Q (.ref p) (upd H p (.lst vs))) :
  Ed (CM n (lI G E it) (lG G gz g) (lT G gz t) (lE G gz m)) (L2.aq i) C σ H:=by
 obtain⟨θ,h,ρ,w,fr,p⟩:=h;refine Dd ⟨θ,h,ρ,w,fr,(aH.bind p).mono λd θ1 h1 H1 _ _ ⟨ev,w1,p1⟩ v r=>p1 θ1 H1 Ev.refl w1 _ ((fr.ev ev).set r)⟩ (hmk _)
theorem pM(own:WE){pos' spos:Pos}(hN:X.N.Nodup)(hxi:X.N[i]?=some x)(hx:X.env.scope.names.lookup x=some .local)(CS:fw X.env.scope X.N own scope=true)(hc:X.calm=true)(hi:DI X E it tg e)(hg:∀C s2 H2 fp pins,DG (ay X own scope C s2 H2 fp pins) gz g tg)
 (ht:∀C s2 H2 fp pins,Je (ay X own scope C s2 H2 fp pins) gz t ifs)(he:∀C s2 H2 fp pins,DE (ay X own scope C s2 H2 fp pins) gz m elt)(hs:∀x,foldedSetIterable e X.env x=pure x:=by intro _;rfl)
 (hsw:swapsWith (.ListComp elt [⟨tg,e,ifs,0⟩] scope pos) (some (.Name x pos')) spos.line X.env=pure true:=by rfl):DS X E (bU i (bZ own.length it g t m)) (.Assign [.Name x pos'] (.ListComp elt [⟨tg,e,ifs,0⟩] scope pos) spos):=by
 simp[bF,ko,n5,lU,qP]at *;exact PS.imp (IP own hN hxi hx CS hc hi hg ht he hs hsw) λC σ H q=>Jf q λQ ys vs θ h H _=>oF ys vs θ h H
end
noncomputable def H0(G:Gx)(F:Fn):Sp:=λvs H Q E=>∃θ h ds,W G θ h H/\aV G θ H ds vs/\aH G (nR G E) θ H (F ds h) (KV G Q)
noncomputable def Gj(F:Fn)(n:Nat):Prop:=∀ds h,ds.length≠n->F ds h=.bad
theorem Jg(ar:Gj F n):∀vs H Q E,H0 G F vs H Q E->vs.length=n:=λvs H Q E ⟨θ,h,ds,w,r,p⟩=>by
 by_cases e:ds.length=n
 ·rw[<- e];exact(SW r).symm
 ·rw[ar ds h e]at p;exact p.elim
theorem xi:Gj (bu p n b) p:=λds h e=>by simp[bu,e]
structure bc(P:WL)(w:World)(K:WD)(mg:Wz)(base:Heap)(x:Str)(ps:WE)(k:Nat)(F:Fn):Prop where
 has:Gh P w K mg base x ps k (H0 ⟨P,w,mg,K⟩ F)
 ar:Gj F ps.length
section
variable {P:WL} {w:World} {K:WD} {mg:Wz} {base:Heap} {x qual:Str} {st:Stmt} {f:Addr} {fd:FuncData} {N ps:WE} {k:Nat} {b:MS} {F:Fn}
theorem Fr.start{n:Nat}(r:aV G θ H ds vs)(hl:ds.length=ps.length):Fr G θ H (ds.map some++List.replicate (N.length-ps.length) none) (start N vs):=by
 have hv:ds.length=vs.length:=SW r;unfold L2.start;rw[<- hv,hl];refine⟨by simp_all,λi d e=>?_⟩;by_cases hi:i<ds.length
 ·rw[Ta (by simp_all)]at e;rw[Ta (by simp_all)];simp only[Ua]at e ⊢
  cases e1:ds[i]? with
  |none=>grind
  |some d'=>rw[e1]at e;simp at e;subst e;obtain⟨v,e2,rv⟩:=r.some e1;exact⟨v,by simp_all,rv⟩
 ·rw[Th (by simpa using hi),U5]at e;split at e<;>cases e
theorem RG(Fu:KJ K x qual st f fd)(S:aQ N ps (aB st))(hbody:∀(cdv:Value) (A:WN) (outer:List Env) (s:WO) (H:Hp) (E:XK),cG k (A.deeper (PyProof.Rows.envOfC qual (aB st) s.heap.objs.size f cdv)) ->
   Gf (vW (vT P w) P w K mg base N qual (aB st) f cdv A outer s H E) E b (f6 st)):ka P w K mg base (vT P w) (k+1) f fd ps (H0 ⟨P,w,mg,K⟩ (bu ps.length N.length b)):=by
 simp[qN]at *;refine Fu.Sb S (Jg xi) λcdv A outer s H vs Q E hr ⟨θ,h,ds,w,r,p⟩=>⟨_,hbody cdv A outer s H E hr,?_⟩;unfold bu at p;split at p
 ·rename_i hl;refine⟨θ,h,_,w,Fr.start (n:=0) r hl,(aH.bind p).mono λfl θ1 h1 H1 _ _ ⟨ev,w1,p1⟩=>?_⟩
  cases fl with
  |nx ρ=>exact λσ fr=>p1 θ1 H1 Ev.refl w1 _ ⟨rfl,by rfl⟩
  |rt d=>exact p1 θ1 H1 Ev.refl w1
  |bk ρ=>trivial
  |ct ρ=>trivial
 ·trivial
theorem bc.mono(h:bc P w K mg base x ps j F)(l:j<=k):bc P w K mg base x ps k F:=by obtain⟨⟨f,fd,h1,h2,h3,h4⟩,ar⟩:=h;exact⟨⟨f,fd,h1,h2,h3,h4.mono l⟩,ar⟩
theorem bc.eq(h:bc P w K mg base x ps k F)(e:F=F'):bc P w K mg base x ps k F':=e▸h
end
section
variable {X:Cx} {E:XK} {x:Str} {ps:WE} {k:Nat} {F:Fn} {e:Expr} {es:WG} {ma:MA} {p pos:Pos}
theorem bS:Passes (vT X.prog X.w) X gz:=λ_ _ _ _ _ _ _ ⟨_,_,_,_,_,_,_,_,_,_,_,_,_,h⟩=>h.elim
theorem OD(F':bc X.prog X.w X.K X.mg X.base x ps k F)(hx:Passes (vT X.prog X.w) X E)(hr:cG k X.A)(hg:Gl X x)(ha:DA X E ma (e::es))(hdb:(x==("__debug__" : Str))=false:=by decide)(he:starEach (e::es) X.env=(false,eval e X.env)::starEach es X.env:=by rfl)
 (hpl:(backTo pos (starEach es X.env)).any (·.1)=false:=by rfl):DE X E (ag F ma) (.Call (.Name x p) (e::es) [] pos):=by
 simp only[bF,km]at *;exact PE.imp (MM F'.has hx hr hg ha hdb he hpl) λσ H Q ⟨θ,h,ρ,w,fr,p⟩=>⟨θ,h,ρ,w,fr,(aH.bind p).mono λxs θ1 h1 H1 _ _ ⟨ev,w1,p1⟩ vs r=>⟨θ1,h1,xs,w1,by grind,p1⟩⟩
theorem Gk(F':bc X.prog X.w X.K X.mg X.base x [] k F)(hx:Passes (vT X.prog X.w) X E)(hr:cG k X.A)(hg:Gl X x)(hdb:(x==("__debug__" : Str))=false:=by decide):DE X E (ag F ah) (.Call (.Name x p) [] [] pos):=by simp only[bF]at *;obtain⟨f,fd,h1,h2,h3,h4⟩:=F'.has.ex;exact PE.imp (FE h4 hr hg h1 h2 h3 .nil hx hdb) λσ H Q ⟨θ,h,ρ,w,fr,p⟩=>⟨θ,h,[],w,.nil,p⟩
end
theorem EG(hx:(match x with|.int _|.str _|.bool _|.none=>true|_=>false)=true)(r:RelV (Mx x) u):Reads h u x []:=by
 cases x with
 |none=>cases r;exact .none
 |bool b=>cases r;exact .bool b
 |int i=>obtain⟨t,rfl⟩:=r;exact .int i t
 |str s=>obtain⟨t,rfl⟩:=r;exact .str s t
 |_=>cases hx
theorem kK:∀{xs:WA} {us:WC},(∀x∈xs,(match x with|.int _|.str _|.bool _|.none=>true|_=>false)=true)->Vals (xs.map Mx) us->ReadsAll h us xs []
 | [],us,_,r=>by cases r;exact .nil
 |x::xs,us,hx,r=>by
  cases r with
  |cons r1 r2=>exact .cons (EG (hx x (by simp)) r1) (kK (λy m=>hx y (by simp[m])) r2)
section
variable {X:Cx} {pins:Ww} {σ:L2.St} {H:Hp} {s:WO} {θ:WB} {hm:Hm}
theorem gg(I:Inv X pins σ H s)(w:W X.G θ hm H):∀(n:Nat) {x:D} {v:V} {u:Value} {d:PyData},cj X.G θ H x v->RelV v u->zv hm n x=some d->(∃as,Reads s.heap u d as)/\dQ d=true:=by
 intro n
 induction n with
 |zero=>
  intro x v u d r rv e
  cases x with
  |dat d'=>simp only[zv]at e;cases e;exact⟨Rep.reads I (r.1.same (aC _ _)) rv,r.2⟩
  |ktup xs=>simp only[zv]at e;cases e;obtain⟨a,rfl,⟨o,its,k,hl,hc,hd,_,vs⟩,hx,hs⟩:=r;cases rv;exact⟨⟨_,.tuple (I.vS _ _ hl) hc hd (kK hx vs)⟩,by assumption⟩
  |_=>simp[zv]at e
 |succ n ih=>
  intro x v u d r rv e
  cases x with
  |dat d'=>simp only[zv]at e;cases e;exact⟨Rep.reads I (r.1.same (aC _ _)) rv,r.2⟩
  |ktup xs=>simp only[zv]at e;cases e;obtain⟨a,rfl,⟨o,its,k,hl,hc,hd,_,vs⟩,hx,hs⟩:=r;cases rv;exact⟨⟨_,.tuple (I.vS _ _ hl) hc hd (kK hx vs)⟩,by simpa [dQ]using hs⟩
  |ref i=>
   simp only[zv]at e;obtain⟨a,ha,rfl⟩:=r;cases rv
   cases e1:hm[i]? with
   |none=>rw[e1]at e;cases e
   |some o=>
    rw[e1]at e
    cases o with
    |lst xs=>
     simp only at e;obtain⟨vs,hv,rs⟩:=w.obj i a _ ha e1;obtain⟨_,its,k,rvs,ho⟩:=I.hok a _ hv
     have all:∀{xs:List D} {vs:List V} {us:WC} {ds:WA},aV X.G θ H xs vs->Vals vs us->nO (zv hm n) xs=some ds->(∃as,ReadsAll s.heap us ds as)/\cY ds=true:=by
      intro xs
      induction xs with
      |nil=>intro vs us ds r1 r2 e;cases r1;cases r2;cases e;exact⟨⟨_,.nil⟩,by simp[cY]⟩
      |cons x xs ihx=>
       intro vs us ds r1 r2 e
       cases r1 with
       |cons p1 p2=>
        cases r2 with
        |cons q1 q2=>
         unfold nO at e
         cases e2:zv hm n x with
         |none=>rw[e2]at e;cases e
         |some d=>
          cases e3:nO (zv hm n) xs with
          |none=>rw[e2,e3]at e;cases e
          |some ds'=>rw[e2,e3]at e;cases e;obtain⟨⟨as,z1⟩,s1⟩:=ih p1 q1 e2;obtain⟨⟨bs,z2⟩,s2⟩:=ihx p2 q2 e3;exact⟨⟨_,.cons z1 z2⟩,by simp[cY,s1,s2]⟩
     cases e2:nO (zv hm n) xs with
     |none=>rw[e2]at e;cases e
     |some ds=>rw[e2]at e;cases e;obtain⟨⟨as,z⟩,s1⟩:=all rs rvs e2;exact⟨⟨_,.list ho rfl rfl (by simpa using z)⟩,by simpa [dQ]using s1⟩
    |_=>cases e
  |_=>simp[zv]at e
end
end Ml
namespace PySem.SeqAt
open PySem PySem.MeetsSeq PySem.AutoSeq1
theorem ur(t:Addr)(its:WJ)(m:Nat)(d2:Option Addr)(sl2:WH)(l:Addr)(es:WI)(n:Nat)(dd:Option Addr)(sl:WH) :
  Meets (Builtin.«tuple.__eq__» ⟨[.ref t,.ref l],[]⟩) (λ_ R s=>s.heap.get? t=some {cls:=.type "tuple",dict:=d2,data:=.seq its m,slots:=sl2}/\s.heap.get? l=some {cls:=.type "dict",dict:=dd,data:=.dict es n,slots:=sl}/\R (.ok (.ret .notImplemented)) s):=
 .of_wp λprog w A R s h=>by
  obtain⟨hp,g,d,tk,os⟩:=s;obtain⟨ht,hl,h⟩:=h;have f1:=F.sub_dict_tuple
  wp_walk using wpAny_loadPart' hl,VO hl,wpAny_loadPart' ht,VO ht
  grind
theorem uv(t:Addr)(its:WJ)(m:Nat)(d2:Option Addr)(sl2:WH)(l:Addr)(es:WI)(n:Nat)(dd:Option Addr)(sl:WH) :
  Meets (Builtin.«dict.__eq__» ⟨[.ref l,.ref t],[]⟩) (λ_ R s=>s.heap.get? t=some {cls:=.type "tuple",dict:=d2,data:=.seq its m,slots:=sl2}/\s.heap.get? l=some {cls:=.type "dict",dict:=dd,data:=.dict es n,slots:=sl}/\R (.ok (.ret .notImplemented)) s):=
 .of_wp λprog w A R s h=>by
  obtain⟨hp,g,d,tk,os⟩:=s;obtain⟨ht,hl,h⟩:=h;have f1:=F.sub_tuple_dict
  wp_walk using wpAny_loadPart' hl,VO hl,wpAny_loadPart' ht,VO ht
  grind
theorem uw{h:Heap}(ht:h.get? t=some {cls:=.type "tuple",dict:=d2,data:=.seq its m,slots:=sl2})
 (hl:h.get? l=some {cls:=.type "dict",dict:=dd,data:=.dict es n,slots:=sl}):t≠l:=λe=>by
 grind
theorem RcAt.yz(ht:s.heap.get? t=some {cls:=.type "tuple",dict:=d2,data:=.seq its m,slots:=sl2})
 (hl:s.heap.get? l=some {cls:=.type "dict",dict:=dd,data:=.dict es n,slots:=sl})(hu:A.units<cLine):RcAt A s (.ref t) (.ref l) false:=λprog w E Q h=>
 have ne  := uw ht hl
 rc_eq_decline_or ⟨_,ht,rfl⟩ ⟨_,hl,rfl⟩ (by decide) F.sub_dict_tuple V6 Vu
  (λ_ hq=>VA V6 ⟨_,ht,rfl⟩ F.entry_tuple_eq (F.args_tuple_eq_2 _ _) (ur t its m d2 sl2 l es n dd sl) ⟨ht,hl,hq⟩)
  (λ_ hq=>VA Vu ⟨_,hl,rfl⟩ F.entry_dict_eq (F.args_dict_eq_2 _ _) (uv t its m d2 sl2 l es n dd sl) ⟨ht,hl,hq⟩)
  (λ_ hq=>wpAny_isSame_ref_other' ne ht hl (show Value.type "dict" ≠ Value.type "tuple" by decide) hq) (.inr hu) h
theorem EqAt.yz(ht:s.heap.get? t=some {cls:=.type "tuple",dict:=d2,data:=.seq its m,slots:=sl2})
 (hl:s.heap.get? l=some {cls:=.type "dict",dict:=dd,data:=.dict es n,slots:=sl})(hu:A.units<cLine):EqAt A s (.ref t) (.ref l) false:=
 .of_refs (uw ht hl) (.yz ht hl hu)
end PySem.SeqAt
namespace Ml
open PySem PySem.Spec L2
theorem BL(sa:dQ d=true)(sb:dQ e=true)(h:eqQ d e=some k):d.canLay0=true/\e.canLay0=true/\min d.depth e.depth<=40/\k=PyData.eqv d e:=by
 unfold eqQ at h;split at h
 ·rename_i hn;simp[noDict]at hn;cases h;exact⟨jX sa hn.1.1,jX sb hn.1.2,hn.2,rfl⟩
 grind
theorem MN(ra:Reads s.heap a d as)(rb:Reads s.heap b e bs)(sa:dQ d=true)(sb:dQ e=true)(hu:A.units+41<cLine)(h:EB d e=some k):SeqAt.EqAt A s a b k/\d.canLay0=true:=by
 unfold EB at h;split at h
 ·cases h;cases ra
  cases rb with
  | @dict a' o' es n kvs as1 bs1 h1 h2 h3 h4 h5=>obtain⟨oc,od,dat,osl⟩:=o';cases h2;cases h3;exact⟨SeqAt.EqAt.Ja _ _ h1 (by omega),by assumption⟩
 ·split at h
  ·rename_i hn;simp only[noDict,Wi]at hn;cases h;have hl:=jX sa hn
   cases ra with
   | @tuple l o vs m xs as1 g1 g2 g3 g4=>
    obtain⟨oc2,od2,dat2,osl2⟩:=o;cases g2;cases g3
    cases rb with
    | @dict a' o' es n kvs as1 bs1 h1 h2 h3 h4 h5=>obtain⟨oc,od,dat,osl⟩:=o';cases h2;cases h3;exact⟨SeqAt.EqAt.yz g1 h1 (by omega),hl⟩
  grind
 ·obtain⟨l1,l2,l3,rfl⟩:=BL sa sb h;exact⟨VX _ _ A s a b as bs ra rb l1 l2 (by omega),l1⟩
theorem aH.mn(p:aH G E θ H (.ok d h) (KV G Q))(w:W G θ h H)(r:cj G θ H d v):Q v H:=p θ H Ev.refl w v r
theorem cQ(b:Bool):cj G θ H (.bool b) (.bl b):=⟨rfl,by rfl⟩
theorem de(i:Int):cj G θ H (.int i) (.int i):=⟨rfl,by rfl⟩
theorem EH:cj G θ H D.none .non:=⟨rfl,by rfl⟩
section
variable {X:Cx} {E:XK} {k:Nat}
theorem BM(hr:cG k X.A):pH X E (compareOp .Eq) oEq:=by
 intro pins s σ H x y v u Q I rx ry ⟨θ,h,d1,d2,w,r1,r2,p⟩;unfold oEq at p;split at p
 ·exact Oa pins s σ H x y v u Q I rx ry (by cases r1;cases r2;exact⟨rfl,by simpa using p.mn w (cQ _)⟩)
 ·cases e1:BH h d1 with
  |none=>rw[e1]at p;exact p.elim
  |some d=>
   cases e2:BH h d2 with
   |none=>rw[e1,e2]at p;exact p.elim
   |some e=>
    rw[e1,e2]at p;simp only at p
    cases e3:eqQ d e with
    |none=>rw[e3]at p;exact p.elim
    |some b=>rw[e3]at p;obtain⟨⟨as,z1⟩,s1⟩:=gg I w 3 r1 rx e1;obtain⟨⟨bs,z2⟩,s2⟩:=gg I w 3 r2 ry e2;obtain⟨l1,l2,l3,rfl⟩:=BL s1 s2 e3;exact SeqAt.compareEq_reads z1 z2 l1 l2 (by have:=hr.units;omega) ⟨.bl _,H,I,rfl,p.mn w (cQ _)⟩
theorem we(hr:cG k X.A):pH X E (compareOp .NotEq) kI:=by
 intro pins s σ H x y v u Q I rx ry ⟨θ,h,d1,d2,w,r1,r2,p⟩;unfold kI at p;split at p
 ·exact Ob pins s σ H x y v u Q I rx ry (by cases r1;cases r2;exact⟨rfl,by simpa using p.mn w (cQ _)⟩)
 ·cases e1:BH h d1 with
  |none=>rw[e1]at p;exact p.elim
  |some d=>
   cases e2:BH h d2 with
   |none=>rw[e1,e2]at p;exact p.elim
   |some e=>
    rw[e1,e2]at p;simp only at p
    cases e3:eqQ d e with
    |none=>rw[e3]at p;exact p.elim
    |some b=>rw[e3]at p;obtain⟨⟨as,z1⟩,s1⟩:=gg I w 3 r1 rx e1;obtain⟨⟨bs,z2⟩,s2⟩:=gg I w 3 r2 ry e2;obtain⟨l1,l2,l3,rfl⟩:=BL s1 s2 e3;exact SeqAt.compareNe_reads z1 z2 l1 l2 (by have:=hr.units;omega) ⟨.bl _,H,I,rfl,p.mn w (cQ _)⟩
theorem yA(rx:Reads s.heap x d bs)(sx:dQ d=true)(hu:A.units+41<cLine):∀{vs:WC} {ds:WA} {as:WB} {b:Bool},ReadsAll s.heap vs ds as->cY ds=true->F6 d ds=some b ->
  (∀y∈vs,SeqAt.EqAt A s y x ((EB (SeqAt.readOf s.heap y) d).getD false))/\(vs.any λy=>(EB (SeqAt.readOf s.heap y) d).getD false)=b
 | [],_,_,b,.nil,_,e=>by cases e;grind
 |v::vs,_,_,b,.cons (d:=d1) (ds:=ds) r1 r2,so,e=>by
  simp only[cY,Su]at so;unfold F6 at e
  cases e1:EB d1 d with
  |none=>simp_all
  |some b1=>
   cases e2:F6 d ds with
   |none=>simp_all
   |some b2=>
    rw[e1,e2]at e;cases e;obtain⟨h1,h2⟩:=yA rx sx hu r2 so.2 e2;obtain⟨q1,q2⟩:=MN r1 rx so.1 sx hu e1;have er:SeqAt.readOf s.heap v=d1:=SeqAt.readOf_eq q2 r1
    grind
theorem Gm(hr:cG k X.A){σ:L2.St}(hsq:sq=.tuple ds\/sq=.list ds)(I:Inv X pins σ H s)(z1:Reads s.heap v d as)(z2:Reads s.heap u sq bs)(s1:dQ d=true)(s2:cY ds=true)(e:F6 d ds=some b) :
  (Q (.bl b) H->wpAny (model X.prog X.w) X.A (compareOp .In v u) (EP X pins σ Q) X.xe s)/\(Q (.bl !b) H->wpAny (model X.prog X.w) X.A (compareOp .NotIn v u) (EP X pins σ Q) X.xe s):=by
 have hu:X.A.in1.units+41<cLine:=by have:=hr.units;grind
 rcases hsq with rfl|rfl
 ·cases z2 with
  |tuple h1 h2 h3 h4=>
   obtain⟨q1,q2⟩:=yA (A:=X.A.in1) z1 s1 hu h4 s2 e;rename_i vs n;have q3:(vs.any λy=>(EB (SeqAt.readOf s.heap y) d).getD false)=b:=by grind
   exact⟨λq=>SeqAt.in_tupleAt _ ⟨_,h1,h2,_,h3⟩ (λy m=>q1 y (UO.mpr m)) (by rw[q3];exact⟨.bl b,H,I,rfl,q⟩),λq=>SeqAt.notIn_tupleAt _ ⟨_,h1,h2,_,h3⟩ (λy m=>q1 y (UO.mpr m)) (by rw[q3];exact⟨.bl (!b),H,I,rfl,q⟩)⟩
 ·cases z2 with
  |list h1 h2 h3 h4=>
   obtain⟨q1,q2⟩:=yA (A:=X.A.in1) z1 s1 hu h4 s2 e;rename_i vs n _;have q3:(vs.any λy=>(EB (SeqAt.readOf s.heap y) d).getD false)=b:=by rw[<- q2,<- Array.any_toList]
   exact⟨λq=>SeqAt.in_listAt _ ⟨_,h1,h2,_,h3⟩ (λy m=>q1 y (UO.mpr m)) (by rw[q3];exact⟨.bl b,H,I,rfl,q⟩),λq=>SeqAt.notIn_listAt _ ⟨_,h1,h2,_,h3⟩ (λy m=>q1 y (UO.mpr m)) (by rw[q3];exact⟨.bl (!b),H,I,rfl,q⟩)⟩
end
end Ml
namespace PySem.SeqAt
open PySem.AutoSeq1 (wpAny_loadPart')
open PySem.MeetsSeq PySem.MeetsSeq2 PySem.MeetsSeq3
noncomputable def Gn(A:WN)(s:WO)(y x:Value)(b:Bool):Prop:=
 ∀(prog:WL) (w:World) (E:Wv) (Q:Wv),Q (.bool b) s->wpAny (model prog w) A (richCompare .Lt y x) Q E s
inductive n6 (A:WN) (s:WO):WC->WC->Bool->Prop
 |nil:n6 A s [] [] false
 |left {w ws}:n6 A s [] (w::ws) true
 |right {v vs}:n6 A s (v::vs) [] false
 |eq {v vs w ws k}:EqAt A s v w true->n6 A s vs ws k->n6 A s (v::vs) (w::ws) k
 |ne {v vs w ws k}:EqAt A s v w false->Gn A s v w k->n6 A s (v::vs) (w::ws) k
theorem pN(l b:Addr)(its1 its2:WJ)(n n2:Nat)(dd dd2:Option Addr)(sl sl2:WH)(k:Bool) :
  Meets (Builtin.«tuple.__lt__» ⟨[.ref l,.ref b],[]⟩) (λA R s=>s.heap.get? l=some {cls:=.type "tuple",dict:=dd,data:=.seq its1 n,slots:=sl}/\s.heap.get? b=some {cls:=.type "tuple",dict:=dd2,data:=.seq its2 n2,slots:=sl2}/\n6 A.in1 s its1.toList its2.toList k/\R (.ok (.ret (.bool k))) s):=
 .of_wp λprog w A R s h=>by
  obtain⟨hp,g,d,tk,os⟩:=s;obtain⟨hl,hb,hx,h⟩:=h;have f2:=AutoSeq1.sub_tuple_tuple
  wp_walk using wpAny_loadPart' hl,wpAny_loadPart' hb,wpAny_forIn_list _ (λrest b s'=>b.1=none/\s'=⟨hp,g,d,tk,os⟩/\∃(vs ws:WC),rest=vs.zip ws/\n6 A.in1 ⟨hp,g,d,tk,os⟩ vs ws k/\vs.length+its2.size=ws.length+its1.size/\R (.ok (.ret (.bool k))) ⟨hp,g,d,tk,os⟩) _
  case turn=>
   rintro⟨y,x⟩ rest b s' ⟨hb',rfl,vs,ws,hz,hx,hlen,hR⟩
   cases hx with
   |nil=>rw[List.zip_nil_left]at hz;cases hz
   |left=>rw[List.zip_nil_left]at hz;cases hz
   |right=>rw[List.zip_nil_right]at hz;cases hz
   | @eq v vs w' ws k he hx'=>
    rw[Vf]at hz;injection hz with hyx hrest;injection hyx with hy hx;subst hy hx;simp only[SM]at hlen;refine Sm (he prog w _ _ ?_)
    wp_walk
    exact⟨rfl,rfl,_,_,hrest,hx',by omega,hR⟩
   | @ne v vs w' ws k he hlt=>
    rw[Vf]at hz;injection hz with hyx hrest;injection hyx with hy hx;subst hy hx;refine Sm (he prog w _ _ ?_);have hri:=hlt prog w
    wp_walk using hri
    exact⟨_,rfl,by simpa using hR⟩
  case fin=>
   rintro⟨b1,b2⟩ s' ⟨hb',rfl,vs,ws,hz,hx,hlen,hR⟩;simp only at hb';subst hb'
   have hv:k=decide (its1.size<its2.size):=by
    cases hx with
    |nil=>simp only[Ts]at hlen;exact(Tr (by omega)).symm
    |left=>simp only[Ts,SM]at hlen;exact(Tn (by omega)).symm
    |right=>simp only[Ts,SM]at hlen;exact(Tr (by omega)).symm
    |eq=>rw[Vf]at hz;cases hz
    |ne=>rw[Vf]at hz;cases hz
   rw[hv]at hR
   wp_walk
   exact⟨_,rfl,by simpa [Builtin.Tuple.tupleCompareSizes]using hR⟩
  case h=>exact⟨rfl,rfl,its1.toList,its2.toList,rfl,hx,by simp;omega,h⟩
theorem Gn.tuples(h1:s.heap.IsTuple l its1)(h2:s.heap.IsTuple b its2)(hu:A.units<cLine)(hx:n6 A.in1 s its1.toList its2.toList k):Gn A s (.ref l) (.ref b) k:=λprog w E Q h=>by
 obtain⟨⟨c1,d1,e1,l1⟩,p1,g1,n1,z1⟩:=h1;obtain⟨⟨c2,d2,e2,l2⟩,p2,g2,n2,z2⟩:=h2;subst g1 z1 g2 z2
 exact richCompare_meets_room ⟨_,p1,rfl⟩ ⟨_,p2,rfl⟩ VT PySem.F.entry_tuple_lt (PySem.F.args_tuple_lt_2 _ _) (pN l b _ _ n1 n2 d1 d2 l1 l2 k)
  ⟨p1,p2,hx,⟨(λx=>nomatch x),h⟩⟩ hu
end PySem.SeqAt
namespace Ml
open PySem PySem.Spec L2
open PySem.SeqAt
mutual
theorem pO:∀(d e:PyData) (A:WN) (s:WO) (a b:Value) (as bs:WB) (k:Bool),Reads s.heap a d as->Reads s.heap b e bs->d.canLay0=true->e.canLay0=true->A.units+min d.depth e.depth<cLine->cx d e=some k->Gn A s a b k
 |.int i,.int j,A,s,a,b,as,bs,k,ra,rb,_,_,_,h=>by cases ra;cases rb;simp only[cx]at h;cases h;exact λprog w E Q q=>(PyProof.Rows.lt_int q:wpAny (model prog w) A (compareOp .Lt _ _) Q E s)
 |.str x,.str y,A,s,a,b,as,bs,k,ra,rb,_,_,_,h=>by cases ra;cases rb;simp only[cx,oB]at h;cases h;exact λprog w E Q q=>(PySem.P.lt_str q:wpAny (model prog w) A (compareOp .Lt _ _) Q E s)
 |.tuple xs,.tuple ys,A,s,a,b,as,bs,k,ra,rb,ha,hb,hu,h=>by
  cases ra with
  |tuple g1 g2 g3 g4=>
   cases rb with
   |tuple k1 k2 k3 k4=>simp only[cx]at h;simp only[PyData.canLay0]at ha hb;simp only[PyData.depth]at hu;exact Gn.tuples ⟨_,g1,g2,_,g3⟩ ⟨_,k1,k2,_,k3⟩ (by omega) (qQ xs ys A.in1 s _ _ _ _ k g4 k4 ha hb (by show A.units+1+_<_;omega) h)
 |.none,_,_,_,_,_,_,_,_,_,_,_,_,_,h=>by simp[cx]at h
 |.bool _,_,_,_,_,_,_,_,_,_,_,_,_,_,h=>by simp[cx]at h
 |.list _,_,_,_,_,_,_,_,_,_,_,_,_,_,h=>by simp[cx]at h
 |.dict _,_,_,_,_,_,_,_,_,_,_,_,_,_,h=>by simp[cx]at h
 |.int _,.none,_,_,_,_,_,_,_,_,_,_,_,_,h=>by simp[cx]at h
 |.int _,.bool _,_,_,_,_,_,_,_,_,_,_,_,_,h=>by simp[cx]at h
 |.int _,.str _,_,_,_,_,_,_,_,_,_,_,_,_,h=>by simp[cx]at h
 |.int _,.list _,_,_,_,_,_,_,_,_,_,_,_,_,h=>by simp[cx]at h
 |.int _,.tuple _,_,_,_,_,_,_,_,_,_,_,_,_,h=>by simp[cx]at h
 |.int _,.dict _,_,_,_,_,_,_,_,_,_,_,_,_,h=>by simp[cx]at h
 |.str _,.none,_,_,_,_,_,_,_,_,_,_,_,_,h=>by simp[cx]at h
 |.str _,.bool _,_,_,_,_,_,_,_,_,_,_,_,_,h=>by simp[cx]at h
 |.str _,.int _,_,_,_,_,_,_,_,_,_,_,_,_,h=>by simp[cx]at h
 |.str _,.list _,_,_,_,_,_,_,_,_,_,_,_,_,h=>by simp[cx]at h
 |.str _,.tuple _,_,_,_,_,_,_,_,_,_,_,_,_,h=>by simp[cx]at h
 |.str _,.dict _,_,_,_,_,_,_,_,_,_,_,_,_,h=>by simp[cx]at h
 |.tuple _,.none,_,_,_,_,_,_,_,_,_,_,_,_,h=>by simp[cx]at h
 |.tuple _,.bool _,_,_,_,_,_,_,_,_,_,_,_,_,h=>by simp[cx]at h
 |.tuple _,.int _,_,_,_,_,_,_,_,_,_,_,_,_,h=>by simp[cx]at h
 |.tuple _,.str _,_,_,_,_,_,_,_,_,_,_,_,_,h=>by simp[cx]at h
 |.tuple _,.list _,_,_,_,_,_,_,_,_,_,_,_,_,h=>by simp[cx]at h
 |.tuple _,.dict _,_,_,_,_,_,_,_,_,_,_,_,_,h=>by simp[cx]at h
theorem qQ:∀(xs ys:WA) (A:WN) (s:WO) (vs ws:WC) (as bs:WB) (k:Bool),ReadsAll s.heap vs xs as->ReadsAll s.heap ws ys bs->PyData.canLayAll0 xs=true->PyData.canLayAll0 ys=true->A.units+min (PyData.depthAll xs) (PyData.depthAll ys)<cLine->dG xs ys=some k->n6 A s vs ws k
 | [],[],A,s,vs,ws,as,bs,k,ra,rb,_,_,_,h=>by cases ra;cases rb;simp only[dG]at h;cases h;exact .nil
 | [],_::_,A,s,vs,ws,as,bs,k,ra,rb,_,_,_,h=>by cases ra;cases rb;simp only[dG]at h;cases h;exact .left
 |_::_,[],A,s,vs,ws,as,bs,k,ra,rb,_,_,_,h=>by cases ra;cases rb;simp only[dG]at h;cases h;exact .right
 |x::xs,y::ys,A,s,vs,ws,as,bs,k,ra,rb,ha,hb,hu,h=>by
  cases ra with
  |cons r1 r2=>
   cases rb with
   |cons q1 q2=>
    simp only[PyData.canLayAll0,Su]at ha hb;simp only[PyData.depthAll]at hu;have he:=eqAt_reads x y A s _ _ _ _ r1 q1 ha.1 hb.1 (by omega);simp only[dG]at h
    cases hq:PyData.eqv x y with
    |true=>rw[hq]at he h;exact .eq he (qQ xs ys A s _ _ _ _ k r2 q2 ha.2 hb.2 (by omega) (by simpa using h))
    |false=>rw[hq]at he h;exact .ne he (pO x y A s _ _ _ _ k r1 q1 ha.1 hb.1 (by omega) (by simpa using h))
end
section
variable {X:Cx} {E:XK} {k:Nat}
theorem Jh(hr:cG k X.A):pH X E (compareOp .Lt) oLt:=by
 intro pins s σ H x y v u Q I rx ry ⟨θ,h,d1,d2,w,r1,r2,p⟩;unfold oLt at p
 cases d1 with
 |dat d=>
  cases d2 with
  |dat e=>
   simp only at p;split at p
   ·rename_i hn;simp only[Su,noDict,Wi,Td]at hn
    cases e3:cx d e with
    |none=>rw[e3]at p;exact p.elim
    |some b=>rw[e3]at p;obtain⟨⟨as,z1⟩,s1⟩:=gg I w 3 r1 rx (yp h 3 d);obtain⟨⟨bs,z2⟩,s2⟩:=gg I w 3 r2 ry (yp h 3 e);exact pO d e X.A s v u as bs b z1 z2 (jX s1 hn.1.1) (jX s2 hn.1.2) (by have:=hr.units;omega) e3 X.prog X.w X.xe _ ⟨.bl b,H,I,rfl,p.mn w (cQ b)⟩
   ·trivial
  |_=>trivial
 |_=>trivial
theorem KW(h:jr X op (rI C g))(k:∀θ hm H d1 d2 Q,W X.G θ hm H->aH X.G (nR X.G E) θ H (f d1 d2 hm) (KV X.G Q)->∃i j,d1=.int i/\d2=.int j/\C i j/\Q (g i j) H):pH X E op f:=
 pH.of h λθ hm H d1 d2 x y Q w r1 r2 p=>by obtain⟨i,j,rfl,rfl,c,q⟩:=k θ hm H d1 d2 Q w p;exact⟨i,j,cA r1,cA r2,c,q⟩
theorem BN(h:jr X op (KA g))(k:∀θ hm H d1 d2 Q,W X.G θ hm H->aH X.G (nR X.G E) θ H (f d1 d2 hm) (KV X.G Q)->∃i j,d1=.int i/\d2=.int j/\Q (g i j) H):pH X E op f:=
 pH.of h λθ hm H d1 d2 x y Q w r1 r2 p=>by obtain⟨i,j,rfl,rfl,q⟩:=k θ hm H d1 d2 Q w p;exact⟨i,j,cA r1,cA r2,q⟩
theorem OE:pH X E (binaryOp .Sub) F5:=BN LP λθ hm H d1 d2 Q w p=>by
 unfold F5 at p;split at p
 ·exact⟨_,_,rfl,rfl,p.mn w (de _)⟩
 ·trivial
theorem zV:pH X E (binaryOp .Mod) oMod:=KW LR λθ hm H d1 d2 Q w p=>by
 unfold oMod at p;split at p
 ·split at p
  ·rename_i hj;exact⟨_,_,rfl,rfl,hj,p.mn w (de _)⟩
  ·trivial
 ·trivial
theorem MP:pH X E (binaryOp .FloorDiv) xf:=KW Iw λθ hm H d1 d2 Q w p=>by
 unfold xf at p;split at p
 ·split at p
  ·rename_i hj;exact⟨_,_,rfl,rfl,hj,p.mn w (de _)⟩
  ·trivial
 ·trivial
theorem QM:pH X E (compareOp .Gt) Pt:=BN Od λθ hm H d1 d2 Q w p=>by
 unfold Pt at p;split at p
 ·exact⟨_,_,rfl,rfl,p.mn w (cQ _)⟩
 ·trivial
theorem QN:pH X E (compareOp .GtE) OA:=BN Oe λθ hm H d1 d2 Q w p=>by
 unfold OA at p;split at p
 ·exact⟨_,_,rfl,rfl,p.mn w (cQ _)⟩
 ·trivial
theorem Ji:pH X E (compareOp .LtE) oLe:=pH.of (jr.or Oc Ew) λθ hm H d1 d2 x y Q w r1 r2 p=>by
 unfold oLe at p;split at p
 ·exact .inl ⟨_,_,cA r1,cA r2,p.mn w (cQ _)⟩
 ·exact .inr ⟨_,_,r1.1,r2.1,p.mn w (cQ _)⟩
 ·trivial
end
end Ml
set_option maxHeartbeats 1000000
namespace Ml
open PySem PySem.Spec L2 PyProof.Rows PySem.W
noncomputable def rS:PyData->Nat
 |.int _=>0
 |.str _=>1
 |_=>2
noncomputable def Gp:Nat->String
 |0 => "int"
 |1 => "str"
 |_ => "tuple"
theorem uy(h1:h.get? a=some o)(h2:o.cls=.type "tuple"):Looks M h (typeOf (.ref a)) (.type "tuple"):=by obtain⟨oc,od,dat,osl⟩:=o;cases h2;exact(Looks.ld h1).andThen .now
theorem EI(r:Reads h v d as)(t:av d=true):Looks M h (typeOf v) (.type (Gp (rS d))):=by
 cases r with
 |int i t=>exact .now
 |str x t=>exact .now
 |tuple h1 h2 h3 h4=>exact uy h1 h2
 |_=>trivial
noncomputable def OF(h:Heap)(f:Option Value)(d:PyData):Prop:=match d with
 |.tuple []=>f=none
 |.tuple (x::_)=>∃u bs,f=some u/\Reads h u x bs
 |_=>False
section
variable {P:WL} {w:World} {A:WN} {E:Wv} {s:WO}
theorem rT:∀{vs:WC} {ds:WA} {as:WB} {Q:List (Option Value)->WO->Prop},ReadsAll s.heap vs ds as->ds.all iy=true->(∀fs,Paired (OF s.heap) fs ds->Q fs s)->wpAny M A (vs.mapM firstOfTuple') Q E s
 |_,_,_,Q,.nil,_,h=>by rw[List.mapM_nil];exact Sn (h [] .nil)
 |_,_,_,Q,.cons r t,al,h=>by
  simp only[List.all_cons,Su]at al;rw[List.mapM_cons];refine Sm ?_
  cases r with
  |tuple h1 h2 h3 h4=>
   rename_i o its n xs;rw[kas_first_eq];refine Sm (Looks.here (uy h1 h2) ?_);rw[if_neg (by first|decide|simp)];refine Sm (PyProof.Rows.listItems_at h1 h3 (Sn ?_));refine Sm (rT t al.2 λfs hf=>Sn (h _ (.cons ?_ hf)));have e0:its[0]?=its.toList[0]?:=by simp
   rw[e0];generalize its.toList=l at h4
   cases h4 with
   |nil=>rfl
   |cons r1 r2=>exact⟨_,_,rfl,r1⟩
  |_=>simp[iy]at al
theorem rV(t:ax ds=true)(c:dU ds=true)(h1:.tuple (x::xs)∈ds)(h2:.tuple (y::ys)∈ds):rS x=rS y:=by
 have t1:=aT t h1;have t2:=aT t h2;simp[av,ax]at t1 t2;have q:=fP c h1 h2;simp[cx,dG]at q;by_cases e:x=y
 ·rw[e]
 ·rw[aZ t1.1 t2.1 e,if_neg (by simp)]at q;cases x<;>cases y<;>first|rfl|trivial|rfl|rfl
theorem nA:∀{fs:List (Option Value)} {ds:WA},Paired (OF h) fs ds->∀v∈fs.filterMap id,∃x xs bs,.tuple (x::xs)∈ds/\Reads h v x bs
 |_,_,.nil,v,hv=>by grind
 |_,_,.cons (a:=f) (l₁:=fs) (b:=d) r p,v,hv=>by
  cases d with
  |tuple ys=>
   cases ys with
   |nil=>obtain rfl:f=none:=r;obtain⟨x,xs,bs,m,q⟩:=nA p v (by simp_all);exact⟨x,xs,bs,by simp[m],q⟩
   |cons y ys=>
    obtain⟨u,bs,rfl,q⟩:=r;rcases(show v=u\/some v∈fs by simpa using hv)with rfl|hv
    ·exact⟨y,ys,bs,by simp,q⟩
    ·obtain⟨x,xs,bs,m,q⟩:=nA p v (by simpa using hv);exact⟨x,xs,bs,by simp[m],q⟩
  |_=>exact(show False from r).elim
theorem readsAll_len:∀{vs:WC} {ds:WA} {as:WB},ReadsAll h vs ds as->vs.length=ds.length
 |_,_,_,.nil=>rfl
 |_,_,_,.cons _ t=>by simp[readsAll_len t]
theorem uz:∀{vs:WC} {ds:WA} {as:WB},ReadsAll h vs ds as->ds.all iy=true->∀v∈vs,Looks M h (typeOf v) (.type "tuple")
 |_,_,_,.nil,_,v,hv=>by cases hv
 |_,_,_,.cons r1 r2,al,v,hv=>by
  simp only[List.all_cons,Su]at al;rcases Sz.mp hv with rfl|hv
  ·cases r1 with
   |tuple g1 g2 g3 g4=>exact uy g1 g2
   |_=>grind[iy]
  ·exact uz r2 al.2 v hv
theorem EJ(r:ReadsAll s.heap vs ds as)(al:ds.all iy=true)(t:ax ds=true)(c:dU ds=true)(h2:1<=vs.length)
 (h1:∀b,(b=true->∀x xs,.tuple (x::xs)∈ds->rS x≠2)->Q (tuples' b) s)(h3:Q general' s)(h4:Q oneType' s):wpAny M A (keyKind' vs.toArray) Q E s:=by
 rw[PyProof.Rows.kat_kind_eq,List.mapM_toArray,map_eq_pure_bind];refine Sm (Sm (rT r al λfs hf=>Sn ?_));have hl:fs.length=ds.length:=SW hf;have hl2:vs.length=ds.length:=readsAll_len r;split
 ·rename_i hall;refine Sm (UA ?_);have e:(fs.toArray.filterMap id)=(fs.filterMap id).toArray:=by simp
  rw[e];have hall':∀f∈fs,f.isSome=true:=by simpa using hall
  obtain⟨u,us,eu⟩:∃u us,fs.filterMap id=u::us:=by
   match fs,hl,hall' with
   | [],hl,_=>simp at hl;omega
   |none::_,_,ha=>have:=ha none (.head _);cases this
   |some x::r,_,_=>exact⟨x,r.filterMap id,by simp⟩
  obtain⟨x,xs,bs,mx,rx⟩:=nA hf u (by rw[eu];simp);have tx:av x=true:=by have:=aT t mx;simp only[av,ax,Su]at this;exact this.1
  refine Sm (zM (T:=.type (Gp (rS x))) (by rw[eu];simp) (λv hv=>?_) (by simp) ?_)
  ·obtain⟨y,ys,bs,my,ry⟩:=nA hf v hv;have ty:av y=true:=by have:=aT t my;simp only[av,ax,Su]at this;exact this.1
   rw[rV t c mx my];exact EI ry ty
  ·refine Sn (h1 _ λhb y ys my=>?_);rw[<- rV t c mx my];intro z;rw[z]at hb;exact absurd hb (by decide)
 ·split
  ·exact Sn h3
  ·refine Sm (zM (T:=.type "tuple") h2 (λv hv=>?_) (by rfl) ?_)
   ·exact uz r al v hv
   ·exact Sn h4
theorem rW:∀{us vs:WC} {xs ys:WA} {as bs:WB} (i:Nat) (fin k:Bool),ReadsAll s.heap us xs as->ReadsAll s.heap vs ys bs->ax xs=true->ax ys=true->PyData.canLayAll0 xs=true->PyData.canLayAll0 ys=true ->
  A.units+min (PyData.depthAll xs) (PyData.depthAll ys)<cLine->fin=decide (xs.length<ys.length)->(b=true->i=0->∀x∈xs.head?,rS x≠2)->dG xs ys=some k->Q k s->KatLex P w A b fin Q (us.zip vs) i s
 |_,_,_,_,_,_,i,fin,k,.nil,.nil,_,_,_,_,_,e,_,h,q=>by subst e;simp[dG]at h;subst h;exact PySem.W.kat_nil q
 |_,_,_,_,_,_,i,fin,k,.nil,.cons _ _,_,_,_,_,_,e,_,h,q=>by subst e;simp[dG]at h;subst h;exact PySem.W.kat_nil (by simpa using q)
 |_,_,_,_,_,_,i,fin,k,.cons _ _,.nil,_,_,_,_,_,e,_,h,q=>by subst e;simp[dG]at h;subst h;exact PySem.W.kat_nil (by simpa using q)
 |_,_,_,_,_,_,i,fin,k,.cons (d:=x) (ds:=xs) r1 r2,.cons (d:=y) (ds:=ys) q1 q2,t1,t2,l1,l2,hu,e,hb,h,q=>by
  rw[Vf];refine PySem.W.kat_cons ?_;simp only[ax,PyData.canLayAll0,Su]at t1 t2 l1 l2;simp only[PyData.depthAll]at hu;refine VX x y A s _ _ _ _ r1 q1 l1.1 l2.1 (by omega) P w _ _ ?_;simp only[dG]at h
  cases hq:PyData.eqv x y with
  |true=>rw[hq,if_pos rfl]at h;exact PySem.W.kat_yes (rW (i+1) fin k r2 q2 t1.2 t2.2 l1.2 l2.2 (by omega) (by rw[e];simp) (λ_ z=>by omega) h q)
  |false=>
   rw[hq,if_neg (by simp)]at h;refine PySem.W.kat_no ?_;have fin2:wpAny (model P w) A (oneLt' false _ _) Q (λ_ _=>False) s:=kat_one _ _ (pO x y A s _ _ _ _ k r1 q1 l1.1 l2.1 (by omega) h P w (λ_ _=>False) _ q)
   cases hbi:(b&&i==0)with
   |false=>exact fin2
   |true=>
    simp only[Su,Wu]at hbi;have kx:=hb hbi.1 hbi.2 x (by simp)
    cases x with
    |int i1=>
     cases y with
     |int j1=>cases r1;cases q1;simp only[cx]at h;cases h;exact oneLt_int q
     |_=>simp[cx]at h
    |str i1=>
     cases y with
     |str j1=>cases r1;cases q1;simp only[cx,oB]at h;cases h;exact oneLt_str q
     |_=>simp[cx]at h
    |_=>exact absurd rfl kx
theorem BO(hu:A.units+41<cLine)(rx:Reads s.heap x (.tuple xs) as)(ry:Reads s.heap y (.tuple ys) bs)(t1:ax xs=true)(t2:ax ys=true)(l1:PyData.canLayAll0 xs=true)(l2:PyData.canLayAll0 ys=true)
 (hd:PyData.depthAll xs<=20)(h:dG xs ys=some k)(κ:SortKind)(hκ:(∃b,κ=tuples' b/\(b=true->∀x∈xs.head?,rS x≠2))\/κ=general'\/κ=oneType')(q:Q k s):wpAny (model P w) A (keyLt' κ x y) Q (λ_ _=>False) s:=by
 have ex:=rx;have ey:=ry
 cases rx with
 |tuple g1 g2 g3 g4=>
  rename_i o1 i1 n1
  cases ry with
  |tuple k1 k2 k3 k4=>
   rename_i o2 i2 n2;rcases hκ with⟨b,rfl,hb⟩|rfl|rfl
   ·refine kat_lt g1 g3 k1 k3 (rW 0 _ k g4 k4 t1 t2 l1 l2 (by omega) ?_ (λhb' _=>hb hb') h q);have z1:=readsAll_len g4;have z2:=readsAll_len k4
    grind
   ·show wpAny (model P w) A (oneLt' false _ _) Q _ s;exact kat_one _ _ (pO (.tuple xs) (.tuple ys) A s _ _ _ _ k ex ey (by simpa [PyData.canLay0]using l1) (by simpa [PyData.canLay0]using l2) (by simp only[PyData.depth];omega) (by simpa [cx]using h) P w (λ_ _=>False) _ q)
   ·rw[keyLt'_oneType,oneLt'_eq];simp only[Tg];refine Sm (wpAny_cRoomFor (by omega) ?_);obtain⟨c1,d1,e1,sl1⟩:=o1;obtain⟨c2,d2,e2,sl2⟩:=o2;cases g2;cases g3;cases k2;cases k3;refine Sm (wpAny_callSpecialIfBound?_slot ⟨_,g1,rfl⟩ VT (VA VT ⟨_,g1,rfl⟩ PySem.F.entry_tuple_lt (PySem.F.args_tuple_lt_2 _ _) (SeqAt.pN _ _ _ _ n1 n2 d1 d2 sl1 sl2 k) ⟨g1,k1,qQ xs ys _ s _ _ _ _ k g4 k4 l1 l2 (by show A.units+1+_<_;omega) h,?_⟩));exact Uk q
theorem qR:∀{vs:WC} {ds:WA} {as:WB} (i:Nat),ReadsAll h vs ds as->i<vs.length->∃bs,Reads h (vs.getD i .none) (ds.getD i .none) bs
 |_,_,_,i,.nil,hi=>by grind
 |_,_,_,0,.cons r1 _,_=>⟨_,r1⟩
 |_,_,_,i+1,.cons _ r2,hi=>by simpa using qR i r2 (by simp_all)
theorem getD_mem{α:Type}{xs:List α}{d:α}(h:i<xs.length):xs.getD i d∈xs:=by simp[h]
theorem uA:∀{ds:WA} {d:PyData},PyData.canLayAll0 ds=true->d∈ds->d.canLay0=true
 |_::_,d,h,m=>by
  simp[PyData.canLayAll0]at h;rcases Sz.mp m with rfl|m
  ·grind
  ·exact uA h.2 m
theorem uB:∀{ds:WA} {d:PyData},d∈ds->d.depth<=PyData.depthAll ds
 |_::_,d,m=>by
  rcases Sz.mp m with rfl|m
  ·exact Nat.le_max_left _ _
  ·exact Sw (uB m) (Nat.le_max_right _ _)
theorem xj(hu:A.units+41<cLine)(r:ReadsAll s.heap vs ds as)(al:ds.all iy=true)(t:ax ds=true)(c:dU ds=true)(l:PyData.canLayAll0 ds=true)(hd:PyData.depthAll ds<=20)(h2:1<=vs.length) :
  FZ P w A vs (λi j=>ltB (ds.getD i .none) (ds.getD j .none)) s:=by
 have hlen:=readsAll_len r
 have tup:∀{i:Nat},i<vs.length->∃xs bs,ds.getD i .none=.tuple xs/\.tuple xs∈ds/\Reads s.heap (vs.getD i .none) (.tuple xs) bs:=λ{i} hi=>by
  obtain⟨bs,q⟩:=qR i r hi;have m:ds.getD i .none∈ds:=getD_mem (by omega);have a:=SR.mp al _ m
  cases e:ds.getD i .none with
  |tuple xs=>grind
  |_=>rw[e]at a;simp[iy]at a
 have key:∀κ,((∃b,κ=tuples' b/\(b=true->∀x xs,.tuple (x::xs)∈ds->rS x≠2))\/κ=general'\/κ=oneType')->s=s/\∀i j C,i<vs.length->j<vs.length->C (ltB (ds.getD i .none) (ds.getD j .none)) s ->
   wpAny (model P w) A (keyLt' κ (vs.getD i Value.none) (vs.getD j Value.none)) C (λ_ _=>False) s:=λκ hκ=>⟨rfl,λi j C hi hj hC=>by
  obtain⟨xs,b1,e1,m1,q1⟩:=tup hi;obtain⟨ys,b2,e2,m2,q2⟩:=tup hj;have cc:=fP c m1 m2;have d1:=uB m1;have l1:=uA l m1;have l2:=uA l m2;have t1:=aT t m1;have t2:=aT t m2;simp only[PyData.depth]at d1;simp only[PyData.canLay0]at l1 l2;simp only[av]at t1 t2;rw[e1,e2]at hC;refine BO hu q1 q2 t1 t2 l1 l2 (by omega) (by simpa [cx]using cc) κ ?_ hC;rcases hκ with⟨b,rfl,hb⟩|h|h
  ·refine .inl ⟨b,rfl,λhb' x hx=>?_⟩
   cases xs with
   |nil=>simp at hx
   |cons z zs=>simp at hx;subst hx;exact hb hb' z zs m1
  ·exact .inr (.inl h)
  ·exact .inr (.inr h)⟩
 exact EJ r al t c h2 (λb hb=>key _ (.inl ⟨b,rfl,hb⟩)) (key _ (.inr (.inl rfl))) (key _ (.inr (.inr rfl)))
end
end Ml
namespace Ml
open PySem PySem.Spec L2
section
variable {X:Cx} {E:XK} {k:Nat} {θ:WB} {hm:Hm} {H:Hp}
theorem tD(w:W G θ hm H)(r:cj G θ H x v)(e:listOf x hm=some ds):∃a vs,v=.ref a/\H a=some (.lst vs)/\bh (view θ H) ds vs/\cY ds=true:=by
 unfold listOf at e;split at e
 ·cases e;obtain⟨⟨a,vs,rfl,ha,rr⟩,so⟩:=r;exact⟨a,vs,rfl,aC _ _ _ _ ha,rr,by assumption⟩
 ·obtain⟨a,ha,rfl⟩:=r;split at e
  ·rename_i ys hy;obtain⟨vs,hv,rs⟩:=w.obj _ _ _ ha hy;obtain⟨h1,h2⟩:=ny rs e
   simp_all
  grind
 grind
theorem xk(r:ReadsAll s.heap vs ds as)(al:ds.all uj=true)(h2:2<=vs.length):PySem.W.FZ P w A vs (λi j=>ltB (ds.getD i .none) (ds.getD j .none)) s:=by
 have hlen:=readsAll_len r
 have tup:∀{i:Nat},i<vs.length->∃x tk,ds.getD i .none=.str x/\vs.getD i .none=.str x tk:=λ{i} hi=>by
  obtain⟨bs,q⟩:=qR i r hi;have m:ds.getD i .none∈ds:=getD_mem (by omega);have a:=SR.mp al _ m
  cases e:ds.getD i .none with
  |str x=>rw[e]at q;generalize vs.getD i .none=z at q;cases q;exact⟨x,_,rfl,rfl⟩
  |_=>rw[e]at a;simp[uj]at a
 refine PySem.W.kas_kind h2 (T:=.type "str") (λv hv=>?_) (by decide) (by decide) ⟨rfl,λi j C hi hj hC=>?_⟩
 ·obtain⟨i,hi,e⟩:=UP.mp hv;obtain⟨x,tk,_,e2⟩:=tup hi;have:vs.getD i .none=v:=by simp[hi,e]
  rw[this]at e2;subst e2;exact .now
 ·obtain⟨x,t1,e1,f1⟩:=tup hi;obtain⟨y,t2,e2,f2⟩:=tup hj;rw[f1,f2,PyProof.Rows.keyLt'_oneType];simp only[e1,e2]at hC;exact PyProof.Rows.oneLt_str (by simpa [ltB,cx,oB]using hC)
theorem OG(o:Ord ltB ds):PySem.W.nP (λi j=>ltB (ds.getD i .none) (ds.getD j .none)) ds.length:=
 ⟨λa b ha hb h=>o.as (getD_mem ha) (getD_mem hb) h,λa b c ha hb hc h h'=>o.ntr (getD_mem ha) (getD_mem hb) (getD_mem hc) h h'⟩
theorem bx:∀{ds:WA},cY ds=true<->∀d∈ds,dQ d=true
 | []=>by trivial
 |d::ds=>by simp[cY,bx]
theorem xl(p:ds.Perm es)(h:cY ds=true):cY es=true:=bx.mpr λd m=>bx.mp h d (p.mem_iff.mpr m)
noncomputable def MQ:List V->Hp->VK->Prop:=λxs H Q=>∃(a:Addr) (vs:List V) (M:Hp) (ds:WA),xs=[.ref a]/\H a=some (.lst vs)/\bR M H/\bh M ds vs/\cY ds=true/\cL ds=true /\
 ∀(p:Addr) (us:List V),H p=none->bh M (bY ltB ds) us->us.length<=sizeLine->Q (.ref p) (upd H p (.lst us))
theorem yB(hr:cG k X.A):eE X (.builtin "sorted") MQ:=by
 intro pins s σ H xs us Q I r h;obtain⟨a,vs,M,ds,rfl,ha,sm,rp,so,ok,q⟩:=h;simp only[cL,Su,Td,UZ]at ok;obtain⟨⟨⟨⟨kd,tr⟩,cm⟩,dp⟩,h64⟩:=ok
 cases r with
 |cons r rr=>
  cases rr;cases r;obtain⟨its,rv,pl,_⟩:=I.list (j9.of (K:=X.K) ha);have hlen:vs.length=ds.length:=rp.length;have hlen2:its.length=ds.length:=by grind[rv.length]
  obtain⟨as,ra⟩:=bh.reads I (rp.same sm) rv;have nd:PyData.hasDictAll ds=false:=iJ tr;have la:=pj so nd;have O:=OG (gF cm tr);rw[<- hlen2]at O;refine PySem.W.uc pl.isList O (by omega) (λh' kp h2=>?_) λp hp hs=>?_
  ·have ra':ReadsAll h' its ds as:=Tu kp ra;rcases kd with kd|kd
   ·exact xk (s:={s with heap:=h'}) ra' kd h2
   ·exact xj (s:={s with heap:=h'}) (by have:=hr.un;show X.A.units+1+1+41<cLine;omega) ra' kd tr cm la dp (by omega)
  ·have ge:s.heap.objs.size<=s.heap.objs.size+1:=Uw _;have nn:H (s.heap.objs.size+1)=none:=I.hok.fresh ge;obtain⟨e,he⟩:=PyProof.Rows.sortedAll_at s.heap its (p.toList.map λi=>its.getD i Value.none).toArray;have hin:∀i∈p.toList,i<vs.length:=λi hi=>by have:=TK.mp (hp.perm.mem_iff.mp hi);omega
   have hlp:p.toList.length=ds.length:=by rw[hp.perm.length_eq,List.length_range,hlen2]
   have hz:(p.toList.map λi=>vs.getD i .non).length<=sizeLine:=by rw[SG,hlp];exact Sw (Vw h64) (by decide)
   refine⟨.ref _,_,I.laid (t':=s.toks) (o:=.lst (p.toList.map λi=>vs.getD i .non)) (λb o k=>PyProof.Rows.sortedAll_old k) ge ⟨hz,_,e,xb rv p.toList hin,by simpa [PyProof.Rows.seqObj]using he⟩,rfl,q _ _ nn ?_ hz⟩
   have e1:(p.toList.map λi=>ds.getD i .none)=bY ltB ds:=by
    refine zR cm tr ?_ ?_
    ·have:=hp.perm.map (λi=>ds.getD i .none);rw[hlen2,kH]at this;exact this
    ·unfold Up;rw[Vk,UN];intro i j hi hj hij;have e1:PySem.W.pat p i=p.toList[i]:=by simp only[TQ]at hi;rw[PySem.W.mF,Wt p i hi];simp
     have e2:PySem.W.pat p j=p.toList[j]:=by simp only[TQ]at hj;rw[PySem.W.mF,Wt p j hj];simp
     have:=hs i j hij (by rw[hlen2];omega);rw[e1,e2]at this;exact this
   rw[<- e1];exact xc rp .none p.toList hin
theorem mM(hr:cG k X.A):um X E (.builtin "sorted") cE:=um.of (yB hr) λθ hm H ds xs Q w r p=>by
 unfold cE at p;split at p
 ·cases r with
  |cons r rr=>
   cases rr;split at p
   ·rename_i ys hy;split at p
    ·rename_i ok;obtain⟨a,vs,rfl,ha,rp,so⟩:=tD w r hy;refine⟨a,vs,view θ H,ys,rfl,ha,aC _ _,rp,so,ok,λq us hq ru hz=>?_⟩;obtain⟨e1,w1,g⟩:=w.put hq;refine p _ _ e1 w1 _ ⟨⟨q,us,rfl,g,ru.same e1.same⟩,?_⟩;exact xl (bG _ _).symm so
    ·trivial
   ·trivial
 ·trivial
end
section
variable {X:Cx} {E:XK} {k:Nat} {θ:WB} {hm:Hm} {H:Hp} {m:ME} {t:MT} {e e1 e2:Expr} {pos:Pos}
theorem eG(r:cj G θ H (.str x) v):v=.str x/\PyData.strOk x=true:=⟨r.1,by simpa [dQ]using r.2⟩
theorem yC(h:PyData.strOk x=true)(h':PyData.strOk y=true):PyData.strOk (x++y)=true:=by have e:(x++y).cps=x.cps++y.cps:=rfl;unfold PyData.strOk at h h' ⊢;simp[e,h,h']
theorem zW(w:W G θ hm H)(x:Ext H (view θ H) H' M'):Ev θ H θ H'/\W G θ hm H'/\bR M' (view θ H'):=by
 obtain⟨e1,w1⟩:=w.grow x.sh;refine⟨e1,w1,λc o q=>?_⟩
 have nb:c∉θ:=λz=>by
  obtain⟨i,hi,ei⟩:=UP.mp z;have hl:i<hm.length:=by rw[<- w.len];exact hi
  have hn  := BJ.some _ (w.obj i c hm[i] (by simp_all) (SH hl));rw[x.old c hn]at q;exact(ee q).1 z
 rw[eU nb];exact x.gs c o q
theorem hX:pH X E (binaryOp .Add) dA:=pH.of (jr.or LO (jr.or Br (jr.or IZ L9))) λθ hm H d1 d2 x y Q w r1 r2 p=>by
 unfold dA at p;split at p
 ·exact .inl ⟨_,_,cA r1,cA r2,p.mn w (de _)⟩
 ·split at p
  ·rename_i hz;obtain⟨e1,s1⟩:=eG r1;obtain⟨e2,s2⟩:=eG r2;exact .inr (.inl ⟨_,_,e1,e2,dW hz,p.mn w ⟨rfl,by simp only[dQ];exact yC s1 s2⟩⟩)
  ·exact p.elim
 ·split at p
  ·rename_i xs ys hz;refine .inr (.inr (.inl ⟨view θ H,xs,ys,aC _ _,r1.1,r2.1,dW hz,λr H' M' ex rr=>?_⟩));obtain⟨e1,w1,sm⟩:=zW w ex;have s1:cY xs=true:=by simpa [dQ]using r1.2
   have s2:cY ys=true:=by simpa [dQ]using r2.2
   refine p _ _ e1 w1 _ ⟨rr.same sm,?_⟩;simp only[dQ]
   exact bx.mpr λd m=>by
    rcases SD.mp m with m|m
    ·exact bx.mp s1 d m
    ·exact bx.mp s2 d m
  ·exact p.elim
 ·split at p
  ·rename_i xs ys hz;have s1:cY xs=true:=by simpa [dQ]using r1.2
   have s2:cY ys=true:=by simpa [dQ]using r2.2
   obtain⟨a,us,rfl,ha,q1,_⟩:=iL r1;obtain⟨b,ws,rfl,hb,q2,_⟩:=iL r2;refine .inr (.inr (.inr ⟨a,b,us,ws,rfl,rfl,aC _ _ _ _ ha,aC _ _ _ _ hb,by rw[q1.length,q2.length];exact dW hz,λq hq=>?_⟩));obtain⟨e1,w1,g⟩:=w.put (o:=.lst (us++ws)) hq;refine p _ _ e1 w1 _ ⟨⟨q,_,rfl,g,(q1.append q2).same e1.same⟩,?_⟩;simp only[dQ]
   exact bx.mpr λd m=>by
    rcases SD.mp m with m|m
    ·exact bx.mp s1 d m
    ·exact bx.mp s2 d m
  ·exact p.elim
 ·exact p.elim
theorem xm(r:bh M ds vs):∀n:Nat,bh M (List.replicate n ds).flatten (List.replicate n vs).flatten
 |0=>rfl
 |n+1=>r.append (xm r n)
theorem De:pH X E (binaryOp .Mult) pb:=pH.of (jr.or LQ Ma) λθ hm H d1 d2 x y Q w r1 r2 p=>by
 unfold pb at p;split at p
 ·split at p
  ·rename_i hc;refine .inl ⟨_,_,cA r1,cA r2,?_,p.mn w (de _)⟩;simp only[CY,UZ,Su,Td]at hc;exact hc
  ·exact p.elim
 ·split at p
  ·rename_i xs j hc;simp only[Su,Td]at hc;have s1:cY xs=true:=by simpa [dQ]using r1.2
   obtain⟨a,us,rfl,ha,q1,_⟩:=iL r1;refine .inr ⟨a,j,us,rfl,cA r2,aC _ _ _ _ ha,hc.1.2,hc.2,by rw[q1.length];exact dW hc.1.1,λq hq=>?_⟩;obtain⟨e1,w1,g⟩:=w.put (o:=.lst (List.replicate j.toNat us).flatten) hq;refine p _ _ e1 w1 _ ⟨⟨q,_,rfl,g,(xm q1 _).same e1.same⟩,?_⟩;simp only[dQ];exact bx.mpr λd m=>by obtain⟨l,hl,hd⟩:=List.mem_flatten.mp m;rw[(List.mem_replicate.mp hl).2]at hd;exact bx.mp s1 d hd
  ·exact p.elim
 ·exact p.elim
theorem tE(f:α->β)(xs:List α)(i:Int):ox (xs.map f) i=(ox xs i).map f:=by
 unfold ox;rw[SG]
 cases wU xs.length i with
 |none=>rfl
 |some j=>simp
theorem yD(r:aV G θ H ds vs)(e:ox ds i=some d):∃v,L2.ox vs i=some v/\cj G θ H d v:=by
 have hl  := SW r;unfold L2.ox;rw[<- hl]
 change (wU ds.length i).bind _=_ at e
 show ∃v,(wU ds.length i).bind _=some v/\_
 cases hj:wU ds.length i with
 |none=>grind
 |some j=>rw[hj]at e;exact aV.some r e
theorem Gq:NL X (My X.G E wc):=by
 intro value slice pins s σ H x y v u Q I rx ry ⟨θ,h,d1,d2,w,r1,r2,p⟩ hs;unfold wc at p;split at p
 ·rename_i i;have ey:=cA r2;split at p
  ·rename_i ds;split at p
   ·rename_i d he;obtain⟨a,us,rfl,ha,q1,q2⟩:=iK r1;obtain⟨z,e1,rz⟩:=yD (i:=i) (d:=.dat d) q2 (by rw[tE,he];rfl);exact L5 value slice pins s σ H _ y v u Q I rx ry ⟨a,us,i,z,rfl,ey,ip.of (aC _ _ _ _ ha),e1,p.mn w rz⟩ hs
   ·exact p.elim
  ·rename_i ds;split at p
   ·rename_i d he;obtain⟨a,us,rfl,ha,q1,q2⟩:=iL r1;obtain⟨z,e1,rz⟩:=yD (i:=i) (d:=.dat d) q2 (by rw[tE,he];rfl);exact yb value slice pins s σ H _ y v u Q I rx ry ⟨a,us,i,z,rfl,ey,j9.of (aC _ _ _ _ ha),e1,p.mn w rz⟩ hs
   ·exact p.elim
  ·rename_i j;split at p
   ·rename_i xs hx;split at p
    ·rename_i d he;obtain⟨a,ha,rfl⟩:=r1;obtain⟨vs,hv,rs⟩:=w.obj _ _ _ ha hx;obtain⟨z,e1,rz⟩:=yD rs he;exact yb value slice pins s σ H _ y v u Q I rx ry ⟨a,vs,i,z,rfl,ey,j9.of hv,e1,p.mn w rz⟩ hs
    ·exact p.elim
   ·exact p.elim
  ·rename_i ns;split at p
   ·rename_i n he;obtain⟨a,rfl,hq⟩:=r1;have e1:L2.ox (ns.map V.int) i=some (.int n):=by have:=tE V.int ns i;rw[he]at this;exact this
    exact yb value slice pins s σ H _ y v u Q I rx ry ⟨a,_,i,_,rfl,ey,(aC _ _).seq hq,e1,p.mn w (de _)⟩ hs
   ·exact p.elim
  ·exact p.elim
 ·exact p.elim
noncomputable def lO(G:Gx)(E:XK)(m:KQ):TO:=λσ H Q=>∃θ h ρ,W G θ h H/\Fr G θ H ρ σ/\aH G (nR G E) θ H (m ρ h) (λo _ _ H'=>Q o H')
@[irreducible] noncomputable def DO(X:Cx)(E:XK)(m:KQ)(e:Option Expr):Prop:=PO X e (lO X.G E m)
theorem Dg(X:Cx)(E:XK)(m:KQ)(e:Option Expr):DO X E m e=(PO X e (lO X.G E m)):=by
 grind[DO]
theorem PO.imp{e:Option Expr}{t t':TO}(h:PO X e t)(k:∀σ H Q,t' σ H Q->t σ H Q):PO X e t':=λpins s σ H Q I q=>h pins s σ H Q I (k _ _ _ q)
theorem Jj:DO X E CZ none:=by simp[Dg]at *;exact PO.imp IF λσ H Q ⟨θ,h,ρ,w,fr,p⟩=>p θ H Ev.refl w
theorem yE(h:DE X E m e):DO X E (n0 m) (some e):=by
 simp[bF,Dg]at *
 exact PO.imp (IG h) λσ H Q ⟨θ,h,ρ,w,fr,p⟩=>⟨θ,h,ρ,w,fr,(aH.bind p).mono λd θ1 h1 H1 _ _ ⟨ev,w1,p1⟩ v r=>by
  split at p1
  ·exact⟨_,cA r,p1 θ1 H1 Ev.refl w1⟩
  ·trivial⟩
theorem Dh(r:bh M ds vs)(lo hi:Option Int):bh M (cut ds lo hi) (zE vs lo hi):=by unfold cut zE;have e  := r.length;rw[e];exact(r.drop _).take _
theorem Di(h:x∈cut xs lo hi):x∈xs:=List.mem_of_mem_drop (Vo h)
theorem uC(h:cY ds=true)(lo hi:Option Int):cY (cut ds lo hi)=true:=bx.mpr λd m=>bx.mp h d (Di m)
noncomputable def QO(G:Gx)(E:XK):V->Option Int->Option Int->Hp->VK->Prop:=λx lo hi H Q=>∃θ h d,W G θ h H/\cj G θ H d x/\aH G (nR G E) θ H (OB d lo hi h) (KV G Q)
theorem Jk:NK X (QO X.G E):=by
 intro pins s σ H x v vl vu lo hi sl Q I rx hs pl pu ⟨θ,h,d,w,r,p⟩;unfold OB at p;split at p
 ·rename_i ds;refine I0 pins s σ H x v vl vu lo hi sl Q I rx hs pl pu ⟨view θ H,ds,aC _ _,r.1,λr' H' M' ex rr=>?_⟩;obtain⟨e1,w1,sm⟩:=zW w ex;exact p _ _ e1 w1 _ ⟨rr.same sm,by simp only[dQ];exact uC (by simpa [dQ]using r.2) lo hi⟩
 ·rename_i ds;have so:cY ds=true:=by simpa [dQ]using r.2
  obtain⟨a,us,rfl,ha,q1,q2⟩:=iL r;refine CL pins s σ H _ v vl vu lo hi sl Q I rx hs pl pu ⟨a,us,rfl,j9.of (aC _ _ _ _ ha),λq hq=>?_⟩;obtain⟨e1,w1,g⟩:=w.put (o:=.lst (zE us lo hi)) hq;exact p _ _ e1 w1 _ ⟨⟨q,_,rfl,g,(Dh q1 lo hi).same e1.same⟩,by simp only[dQ];exact uC so lo hi⟩
 ·exact p.elim
theorem Gr(he:DE X E m e)(hl:DO X E ml lo)(hu:DO X E mh hi):DE X E (Pu m ml mh) (.Subscript e (.Slice lo hi none p2) pos):=by
 simp[bF,Dg]at *
 exact PE.imp (zD Jk he hl hu) λσ H Q ⟨θ,h,ρ,w,fr,p⟩=>⟨θ,h,ρ,w,fr,(aH.bind p).mono λd θ1 h1 H1 _ _ ⟨ev,w1,p1⟩ v r=>
   ⟨θ1,h1,ρ,w1,fr.ev ev,(aH.bind p1).mono λl θ2 h2 H2 _ _ ⟨ev2,w2,p2⟩=>⟨θ2,h2,ρ,w2,(fr.ev ev).ev ev2,(aH.bind p2).mono λu θ3 h3 H3 _ _ ⟨ev3,w3,p3⟩=>⟨θ3,h3,d,w3,(r.ev ev2).ev ev3,p3⟩⟩⟩⟩
theorem n8:um X E (.builtin "len") gb:=um.of FC λθ hm H ds xs Q w r p=>by
 unfold gb at p;split at p
 ·split at p
  ·rename_i hz
   cases r with
   |cons r rr=>cases rr;exact⟨_,_,rfl,by rw[(eG r).1];exact⟨dW hz,rfl⟩,p.mn w (de _)⟩
  ·exact p.elim
 ·cases r with
  |cons r rr=>cases rr;obtain⟨a,us,rfl,ha,q1,_⟩:=iK r;exact⟨_,_,rfl,.inr ⟨us,ip.of (aC _ _ _ _ ha),q1.length.symm⟩,p.mn w (de _)⟩
 ·cases r with
  |cons r rr=>cases rr;obtain⟨a,us,rfl,ha,q1,_⟩:=iL r;exact⟨_,_,rfl,.inl ⟨us,j9.of (aC _ _ _ _ ha),q1.length.symm⟩,p.mn w (de _)⟩
 ·rename_i i;split at p
  ·rename_i ys hy
   cases r with
   |cons r rr=>cases rr;obtain⟨a,ha,rfl⟩:=r;obtain⟨vs,hv,rs⟩:=w.obj _ _ _ ha hy;exact⟨_,_,rfl,.inl ⟨vs,j9.of hv,SW rs⟩,p.mn w (de _)⟩
  ·exact p.elim
 ·rename_i ns
  cases r with
  |cons r rr=>cases rr;obtain⟨a,rfl,hq⟩:=r;exact⟨_,_,rfl,.inl ⟨_,(aC _ _).seq hq,by simp⟩,p.mn w (de _)⟩
 ·exact p.elim
theorem uE:∀{ds:WA} {vs:List V} {bs:List Bool},bh M ds vs->bools ds=some bs->vs=bs.map V.bl
 | [],_,bs,h,e=>by cases h;cases e;rfl
 |d::ds,_,bs,⟨v,vs,rfl,r,rs⟩,e=>by
  cases d with
  |bool b=>simp[bools]at e;obtain⟨bs',e1,e2⟩:=e;subst e2;rw[uE rs e1,r];rfl
  |_=>trivial
theorem Dj(hc:X.calm=true):um X E (.builtin "all") yr:=um.of (FU hc) λθ hm H ds xs Q w r p=>by
 unfold yr at p;split at p
 ·split at p
  ·rename_i bs hb
   cases r with
   |cons r rr=>cases rr;obtain⟨a,us,rfl,ha,q1,_⟩:=iL r;rw[uE q1 hb]at ha;exact⟨a,bs,rfl,j9.of (aC _ _ _ _ ha),p.mn w (cQ _)⟩
  ·trivial
 ·trivial
end
section
variable {X:Cx} {E:XK} {k:Nat} {θ:WB} {hm:Hm} {H:Hp} {m:ME} {t:MT} {e e1 e2:Expr} {pos:Pos} {ma:MA}
theorem MR(kit:∀d,PySem.W.kitOne X.K (.type (Ov d)) (.type n)=some (f d))(bt:bootBuiltins T=some (.type n))(m1:X.mg "isinstance" = none)(m2:X.mg T=none)(h:DE X E m e){p p2:Pos}(g1:Gl X "isinstance" := by rfl)(g2:Gl X T:=by rfl)(hT:T ≠ "__name__" := by decide)(hT2:(T==("__debug__" : Str))=false:=by decide)
 (hs:starEach [e,.Name T p2] X.env=(false,eval e X.env)::starEach [.Name T p2] X.env:=by rfl)(hs2:starEach [.Name T p2] X.env=[(false,eval (.Name T p2) X.env)]:=by rfl)(hpl:(backTo pos (starEach [.Name T p2] X.env)).any (·.1)=false:=by rfl):DE X E (KP (zN f) m) (.Call (.Name "isinstance" p) [e,.Name T p2] [] pos):=by
 simp only[bF]at *
 exact PE.imp (zC FV g1 m1 v8 (nq h (nq (Il (v:=.ty n) g2 m2 bt rfl hT hT2) tV hs2) hs) (by decide) (by decide) hs hpl) λσ H Q ⟨θ,h,ρ,w,fr,p⟩=>⟨θ,h,ρ,w,fr,(aH.bind p).mono λd θ1 h1 H1 _ _ ⟨ev,w1,p1⟩ v r=>by
   cases d with
   |dat d=>exact⟨v,n,_,f d,rfl,(r.1.same (aC _ _)).ty,kit d,p1.mn w1 (cQ _)⟩
   |_=>trivial⟩
theorem uF(x:Str):∀(l:List Nat),bh M (l.map λi=>.str ⟨#[x.cps.getD i 0]⟩) (l.map (sgn x))
 | []=>rfl
 |i::l=>.cons rfl (uF x l)
theorem Gs(h:PyData.strOk x=true):cY (je x)=true:=bx.mpr λd m=>by obtain⟨i,_,rfl⟩:=SU.mp m;exact C9 h
theorem eX(hc:X.calm=true):um X E (.type "tuple") dH:=um.of (eE.or vY (zK hc)) λθ hm H ds xs Q w r p=>by
 unfold dH at p;split at p
 ·cases r with
  |cons r rr=>cases rr;obtain⟨a,us,e,ha,q1,_⟩:=iK r;subst e;exact .inl ⟨a,us,rfl,.inr ⟨ip.of (aC _ _ _ _ ha),p.mn w r⟩⟩
 ·split at p
  ·rename_i s hz
   cases r with
   |cons r rr=>cases rr;obtain⟨e1,s1⟩:=eG r;subst e1;refine .inr ⟨s,rfl,dW hz,λq hq=>?_⟩;obtain⟨e1,w1,g⟩:=w.put (o:=.tup ((List.range s.cps.size).map (sgn s))) hq;exact p _ _ e1 w1 _ ⟨⟨q,_,rfl,g,uF s _⟩,by simp only[dQ];exact Gs s1⟩
  ·exact p.elim
 ·split at p
  ·rename_i ds hy
   cases r with
   |cons r rr=>cases rr;obtain⟨a,vs,rfl,ha,rp,so⟩:=tD w r hy;refine .inl ⟨a,vs,rfl,.inl ⟨j9.of ha,λq hq=>?_⟩⟩;obtain⟨e1,w1,g⟩:=w.put (o:=.tup vs) hq;exact p _ _ e1 w1 _ ⟨⟨q,_,rfl,g,rp.same e1.same⟩,by simpa [dQ]using so⟩
  ·exact p.elim
 ·exact p.elim
theorem Dk:um X E (.type "list") uh:=um.of yd λθ hm H ds xs Q w r p=>by
 unfold uh at p;split at p
 ·cases r with
  |cons r rr=>cases rr;have so:=r.2;obtain⟨a,us,e,ha,q1,_⟩:=iK r;subst e;refine⟨a,us,rfl,.inr (ip.of (aC _ _ _ _ ha)),λq hq=>?_⟩;obtain⟨e1,w1,g⟩:=w.put (o:=.lst us) hq;exact p _ _ e1 w1 _ ⟨⟨q,_,rfl,g,q1.same e1.same⟩,by assumption⟩
 ·split at p
  ·rename_i ds hy
   cases r with
   |cons r rr=>cases rr;obtain⟨a,vs,rfl,ha,rp,so⟩:=tD w r hy;refine⟨a,vs,rfl,.inl (j9.of ha),λq hq=>?_⟩;obtain⟨e1,w1,g⟩:=w.put (o:=.lst vs) hq;exact p _ _ e1 w1 _ ⟨⟨q,_,rfl,g,rp.same e1.same⟩,by simpa [dQ]using so⟩
  ·exact p.elim
 ·exact p.elim
theorem Gu:um X E (.builtin "divmod") ph:=um.of zA λθ hm H ds xs Q w r p=>by
 unfold ph at p;split at p
 ·split at p
  ·rename_i i j hj
   cases r with
   |cons r1 rr=>
    cases rr with
    |cons r2 rr=>cases rr;cases cA r1;cases cA r2;refine⟨i,j,rfl,hj,λq hq=>?_⟩;obtain⟨e1,w1,g⟩:=w.put hq;exact p _ _ e1 w1 _ ⟨⟨q,_,rfl,g,.cons rfl (.one rfl)⟩,by rfl⟩
  ·trivial
 ·trivial
theorem OH(hc:X.calm=true):um X E (.builtin "max") ED:=um.of (Eh hc) λθ hm H ds xs Q w r p=>by
 unfold ED at p;split at p
 ·cases r with
  |cons r1 rr=>
   cases rr with
   |cons r2 rr=>cases rr;cases cA r1;cases cA r2;exact⟨_,_,rfl,p.mn w (de _)⟩
 ·exact p.elim
theorem KY:um X E (.type "int") ui:=um.of Ei λθ hm H ds xs Q w r p=>by
 unfold ui at p;split at p
 ·cases r with
  |cons r1 rr=>cases rr;cases cA r1;exact .inl ⟨_,rfl,p.mn w (de _)⟩
 ·cases r with
  |cons r1 rr=>cases rr;obtain⟨e1,_⟩:=r1;cases e1;exact .inr ⟨_,rfl,p.mn w (de _)⟩
 ·trivial
theorem qS(hr:cG k X.A):um X E (.builtin "repr") gB:=by
 intro pins s σ H xs us Q I r ⟨θ,h,ds,w,rs,p⟩;unfold gB at p;split at p
 ·rename_i x
  cases rs with
  |cons r1 rr=>
   cases rr
   cases r with
   |cons rv rr=>
    cases rr;rename_i v u;split at p
    ·rename_i d hd;obtain⟨⟨as,z⟩,so⟩:=gg I w 3 r1 rv hd;split at p
     ·rename_i ok;have fin:∀(h':Heap) (tk:Tok) (t':Nat),(∀b o,s.heap.get? b=some o->h'.get? b=some o)->EP X pins σ Q (.str d.shown tk) {s with heap:=h',toks:=t'}:=λh' tk t' hk=>⟨.str d.shown,H,I.kept hk,⟨_,rfl⟩,p.mn w rfl⟩;have fin0:∀(tk:Tok) (t':Nat),EP X pins σ Q (.str d.shown tk) {s with toks:=t'}:=λtk t'=>⟨.str d.shown,H,I.tok _,⟨_,rfl⟩,p.mn w rfl⟩;simp only[UZ]at ok;rcases ok with ok|ok
      rotate_left
      ·unfold F7 at ok;split at ok
       ·rename_i kvs;simp only[Su,Td]at ok
        cases x with
        |dat d'=>simp only[BH,yp,UT]at hd;subst hd;exact BE hr pins s σ H [v] [u] Q I (.cons rv .nil) ⟨kvs,v,rfl,r1.1.same (aC _ _),ok.1.1,ok.1.2,dW ok.2,p.mn w rfl⟩
        |ref i=>
         simp only[BH,zv]at hd;split at hd
         ·simp only[TB]at hd;obtain⟨_,_,z⟩:=hd;cases z
         ·cases hd
        |ktup xs=>simp[BH,zv]at hd
        |_=>simp[BH,zv]at hd
       ·cases ok
      have hsz:d.shown.length<=sizeLine/\d.showable=true/\d.depth<=40:=by simp only[zO,Su,Td]at ok;exact⟨dW ok.2,ok.1.1.1,ok.1.2⟩
      have hn:∀{as:WB},(d.hasDict=true->sysModules∉as):=λ{as} hd=>by simp only[zO,noDict,Su,Wi]at ok;rw[ok.1.1.2]at hd;cases hd
      cases z with
      |none=>exact PySem.P.repr_of_none (by simpa [PyData.shown]using fin0 _ _)
      |bool b=>exact PySem.P.repr_of_bool (by simpa [PyData.shown]using fin0 _ _)
      |int i t=>exact PySem.P.repr_of_int (by simpa [PyData.showable]using hsz.2.1) (by simpa [PyData.shown]using fin0 _ _)
      |str x t=>exact PySem.P.repr_of_str (by simpa [PyData.shown]using fin0 _ _) (by simpa [PyData.shown]using hsz.1)
      |list h1 h2 h3 h4=>exact Wd (.list h1 h2 h3 h4) hsz.2.1 hn hr.gd (by have:=hr.units;omega) (λ_ _ e=>e) (λh' t tk hk=>fin h' t tk hk) hsz.1
      |tuple h1 h2 h3 h4=>exact Wd (.tuple h1 h2 h3 h4) hsz.2.1 hn hr.gd (by have:=hr.units;omega) (λ_ _ e=>e) (λh' t tk hk=>fin h' t tk hk) hsz.1
      |dict h1 h2 h3 h4 h5=>exact Wd (.dict h1 h2 h3 h4 h5) hsz.2.1 hn hr.gd (by have:=hr.units;omega) (λ_ _ e=>e) (λh' t tk hk=>fin h' t tk hk) hsz.1
     ·exact p.elim
    ·exact p.elim
 ·exact p.elim
end
section
variable {X:Cx} {E:XK} {k:Nat} {θ:WB} {hm:Hm} {H:Hp} {m ma' mb:ME} {t:MT} {e e1 e2 o i:Expr} {es:WG} {pos:Pos} {ma:MA} {x:Str}
theorem iC(n:Nat)(h:Lit n e d)(s:dQ d=true):DE X E (aj d) e:=by simp[bF]at *;exact PE.imp (Ms n h) λσ H Q ⟨θ,hm,ρ,w,fr,p⟩ r H' N s1 nw rp=>by obtain⟨e1,w1⟩:=w.grow s1;refine p _ _ e1 w1 _ ⟨rp.same λc o q=>?_,s⟩;have nb  := w.Ge (nw c o q).1;rw[eU nb];exact(nw c o q).2
theorem Dn{p:Pos}(hm:∃t,X.mg x=some (.int n t))(hg:Gl X x:=by rfl)(hd:(x==("__debug__" : Str))=false:=by decide):DE X E (aj (.int n)) (.Name x p):=by obtain⟨t,hm⟩:=hm;exact Jb (x8 (v:=.int n) hg hm ⟨t,rfl⟩ hd) (λ_=>rfl) (by rfl)
noncomputable def RH(xs:WA):ME:=λ_ h=>.ok (.ktup xs) h
theorem Jl{p:Pos}(hm:∃a,X.mg x=some (.ref a)/\Gb X.K a xs)(hg:Gl X x:=by rfl)(hd:(x==("__debug__" : Str))=false:=by decide):DE X E (RH xs) (.Name x p):=by simp only[bF]at *;obtain⟨a,hm,kt⟩:=hm;exact PE.imp (x8 (v:=.ref a) hg hm rfl hd) λσ H Q ⟨θ,hm,ρ,w,fr,p⟩=>p.mn w ⟨a,rfl,kt⟩
theorem Jm(kt:Gb G.K a xs):pJ G θ H (xs.map D.dat) (Pl G.K a):=λθ' h' H' ev w=>by
 obtain⟨⟨o,its,n,hl,hc,hd,hz,rv⟩,fl,so⟩:=kt;have q:ip G.K H' a _:=.inr ⟨o,its,n,hl,hc,hd,hz,rv⟩;refine⟨λi d e=>?_,⟨_,q,by simp⟩⟩;rw[Ua,TB]at e;obtain⟨y,ey,rfl⟩:=e;refine⟨⟨_,Mx y,q,by simp[ey]⟩,λx H2 ⟨e2,z⟩=>?_⟩;subst e2;have:=z _ q;rw[Ua,ey]at this;cases this;have hy:=fl y (SX ey);refine⟨Ev.refl,w,?_,pK so ey⟩
 cases y with
 |none=>rfl
 |bool b=>rfl
 |int i=>rfl
 |str x=>rfl
 |_=>simp at hy
noncomputable def OI(e:ME):MA:=λρ h=>(e ρ h).bind λx h1=>match x with
 |.ktup xs=>.ok (xs.map D.dat) h1
 |_=>.bad
theorem Jn(h:DE X E m e):DI X E (OI m) tg e:=by
 simp[bF,lU]at *
 exact PI.imp (Fv h) λσ H R ⟨θ,h,ρ,w,fr,p⟩=>⟨θ,h,ρ,w,fr,(aH.bind p).mono λd θ1 h1 H1 _ _ ⟨ev,w1,p1⟩ v r=>by
   cases d with
   |ktup xs=>obtain⟨a,e,kt⟩:=r;exact⟨a,e,⟨_,.inr kt.1⟩,p1 θ1 H1 Ev.refl w1 _ (Jm kt)⟩
   |_=>trivial⟩
noncomputable def KZ(x:D)(h:Hm):Bool:=match x with
 |.ref j=>match h[j]? with
  |some (.lst _)=>true
  |_=>false
 |_=>false
noncomputable def mq(f:D->D->Hm->R D)(a b:ME):ME:=λρ h=>(a ρ h).bind λx h1=>if KZ x h1 then(b ρ h1).bind λy h2=>f x y h2 else .bad
theorem Jo{x:D}(e:KZ x h=true):∃j xs,x=.ref j/\h[j]?=some (.lst xs):=by
 unfold KZ at e;split at e
 ·split at e
  ·simp_all
  grind
 grind
theorem pP(w:W G θ hm H)(r:cj G θ H (.ref j) v)(e:hm[j]?=some (.lst xs)):∃a vs,v=.ref a/\θ[j]?=some a/\H a=some (.lst vs)/\aV G θ H xs vs:=by
 obtain⟨a,ha,rfl⟩:=r;obtain⟨vs,hv,rs⟩:=w.obj _ _ _ ha e
 simp_all
theorem aV.erase:∀{xs:List D} {vs:List V} (n:Nat),aV G θ H xs vs->aV G θ H (xs.eraseIdx n) (vs.eraseIdx n)
 |_,_,_,.nil=>.nil
 |_,_,0,.cons _ t=>t
 |_,_,n+1,.cons r t=>.cons r (aV.erase n t)
theorem aV.OJ(q:cj G θ H d v):∀{xs:List D} {vs:List V} (n:Nat),aV G θ H xs vs->aV G θ H (xs.set n d) (vs.set n v)
 |_,_,_,.nil=>.nil
 |_,_,0,.cons _ t=>.cons q t
 |_,_,n+1,.cons r t=>.cons r (aV.OJ q n t)
theorem W.BP(w:W G θ hm H)(ha:θ[j]?=some a)(hl:j<hm.length)(r:aV G θ H xs vs):Ev θ H θ (upd H a (.lst vs))/\W G θ (hm.set j (.lst xs)) (upd H a (.lst vs)):=by
 have hmm  := SX ha
 have e:Ev θ H θ (upd H a (.lst vs)):=⟨⟨[],by simp⟩,λb u q=>by
  obtain⟨h1,h2⟩:=ee q;have ne:b≠a:=λz=>by grind
  simp_all[eU,aE]⟩
 exact w.write ha hl ⟨vs,bg,r.ev e⟩
theorem kq{α:Type}{xs:List α}{i:Nat}{x:α}(h:xs[i]?=some x):i<xs.length:=(SJ.mp h).1
theorem Gv(h:lE G E (mq f ma' mb) σ H Q)(k:∀θ h H d1 d2 x y,W G θ h H->cj G θ H d1 x->cj G θ H d2 y->aH G (nR G E) θ H (f d1 d2 h) (KV G Q)->r x [y] H Q) :
  Rz K "list" r (lE G E ma') (KG (lE G E mb) LX) σ H Q:=by
 obtain⟨θ,h,ρ,w,fr,p⟩:=h;refine⟨θ,h,ρ,w,fr,(aH.bind p).mono λd θ1 h1 H1 _ _ ⟨ev,w1,p1⟩ v r1=>?_⟩;split at p1
 ·rename_i hl;obtain⟨j,xs,rfl,hx⟩:=Jo hl;obtain⟨a,vs,rfl,ha,hv,rs⟩:=pP w1 r1 hx;exact⟨.inl ⟨rfl,_,j9.of hv⟩,θ1,h1,ρ,w1,fr.ev ev,(aH.bind p1).mono λd2 θ2 h2 H2 _ _ ⟨ev2,w2,p2⟩ y r2=>k θ2 h2 H2 _ d2 _ y w2 (r1.ev ev2) r2 p2⟩
 ·trivial
theorem qT{apos cpos:Pos}(ho:DE X E ma' o)(ha:DE X E mb e)(hbase:attributeBase o "append" X.env (eval o X.env)=eval o X.env:=by rfl)
 (hfew:((backTo cpos (starEach [e] X.env)).all (λx=>!x.1)&&(backToKw cpos (keywordEach [] X.env)).all (λx=>x.1.isSome)&&decide ([e].length+([]:List Keyword).length+(if([]:List Keyword).isEmpty then 0 else 1)<30))=true:=by rfl)
 (hline:(apos.endLine==cpos.line)=true:=by rfl)(hs:starEach [e] X.env=(false,eval e X.env)::starEach [] X.env:=by rfl)(hplain:(backTo cpos (starEach [] X.env)).any (·.1)=false:=by rfl):DE X E (mq eF ma' mb) (.Call (.Attribute o "append" apos) [e] [] cpos):=by
 simp only[bF]at *
 exact PE.imp (KI PySem.F.plainAttrs_list PySem.F.slot_list_append PySem.F.type_list_append Eo ho (nq ha tV hs) hbase hfew hline hs hplain) λσ H Q q=>Gv q λθ h H d1 d2 x y w r1 r2 p=>by
   unfold eF at p;split at p
   ·rename_i j;split at p
    ·rename_i xs hx;split at p
     ·rename_i hz;obtain⟨a,vs,rfl,ha,hv,rs⟩:=pP w r1 hx;have hl:xs.length=vs.length:=SW rs;obtain⟨e1,w1⟩:=w.BP ha (kq hx) (fA rs (.cons r2 .nil));exact⟨a,vs,y,rfl,rfl,hv,by rw[<- hl,UY];exact Uo hz,p _ _ e1 w1 _ EH⟩
     ·exact p.elim
    ·exact p.elim
   ·exact p.elim
theorem Gw{apos cpos:Pos}(ho:DE X E ma' o)(ha:DE X E mb e)(hbase:attributeBase o "pop" X.env (eval o X.env)=eval o X.env:=by rfl)
 (hfew:((backTo cpos (starEach [e] X.env)).all (λx=>!x.1)&&(backToKw cpos (keywordEach [] X.env)).all (λx=>x.1.isSome)&&decide ([e].length+([]:List Keyword).length+(if([]:List Keyword).isEmpty then 0 else 1)<30))=true:=by rfl)
 (hline:(apos.endLine==cpos.line)=true:=by rfl)(hs:starEach [e] X.env=(false,eval e X.env)::starEach [] X.env:=by rfl)(hplain:(backTo cpos (starEach [] X.env)).any (·.1)=false:=by rfl):DE X E (mq qK ma' mb) (.Call (.Attribute o "pop" apos) [e] [] cpos):=by
 simp only[bF]at *
 exact PE.imp (KI PySem.F.plainAttrs_list PySem.F.slot_list_pop PySem.F.type_list_pop FI ho (nq ha tV hs) hbase hfew hline hs hplain) λσ H Q q=>Gv q λθ h H d1 d2 x y w r1 r2 p=>by
   unfold qK at p;split at p
   ·rename_i j kk;split at p
    ·rename_i xs hx;split at p
     ·rename_i hz;split at p
      ·rename_i d hd;obtain⟨a,vs,rfl,ha,hv,rs⟩:=pP w r1 hx;have hl:xs.length=vs.length:=SW rs;obtain⟨z,ez,rz⟩:=rs.some hd;obtain⟨e1,w1⟩:=w.BP ha (kq hx) (aV.erase kk.toNat rs);refine⟨a,vs,kk,kk.toNat,z,rfl,by rw[cA r2],hv,by omega,by omega,?_,ez,p _ _ e1 w1 _ (rz.ev e1)⟩;exact PySem.seqIndex_of hz.1 (by omega)
      ·exact p.elim
     ·exact p.elim
    ·exact p.elim
   ·exact p.elim
theorem EK{x y v:V}(w:W G θ hm H)(r1:cj G θ H d1 x)(r2:cj G θ H d2 y)(rd:cj G θ H d v)(p:aH G F θ H (C0 d1 d2 d hm) (λ_ _ _ H'=>Q H')):KH x y v H Q:=by
 cases d1 with
 |ref j=>
  cases d2 with
  |dat dd=>
   cases dd with
   |int kk=>
    simp only[C0]at p
    cases hx:hm[j]? with
    |none=>rw[hx]at p;exact p.elim
    |some oo=>
     rw[hx]at p
     cases oo with
     |lst xs=>
      simp only at p
      cases hn:wU xs.length kk with
      |none=>rw[hn]at p;exact p.elim
      |some n=>rw[hn]at p;obtain⟨a,vs,rfl,ha,hv,rs⟩:=pP w r1 hx;have hl:xs.length=vs.length:=SW rs;obtain⟨e1,w3⟩:=w.BP ha (kq hx) (aV.OJ rd n rs);exact⟨a,vs,kk,n,rfl,cA r2,hv,by rw[<- hl];exact hn,p _ _ e1 w3⟩
     |_=>exact p.elim
   |_=>exact p.elim
  |_=>exact p.elim
 |_=>exact p.elim
theorem Dq{α β:Type}{xs:List α}{ys:List β}(h:xs.length=ys.length):(!xs.isEmpty)=!ys.isEmpty:=by
 grind
theorem uG(w:W G θ hm H)(r:cj G θ H d v)(e:truth d hm=some b):LV G.K v H b:=by
 unfold truth at e;split at e
 ·cases e;cases r.1;rfl
 ·cases e;cases r.1;rfl
 ·cases e;cases r.1;rfl
 ·split at e
  ·rename_i hz;cases e;cases r.1;exact⟨dW hz,rfl⟩
  grind
 ·cases e;obtain⟨a,us,rfl,ha,q1,_⟩:=iK r;exact .inr (.inl ⟨us,ip.of (aC _ _ _ _ ha),Dq q1.length.symm⟩)
 ·cases e;obtain⟨a,us,rfl,ha,q1,_⟩:=iL r;exact .inl ⟨us,j9.of (aC _ _ _ _ ha),Dq q1.length.symm⟩
 ·split at e
  ·rename_i xs hx;cases e;obtain⟨a,vs,rfl,ha,hv,rs⟩:=pP w r hx;refine .inl ⟨vs,j9.of hv,?_⟩;cases rs<;>rfl
  ·cases e
 grind
theorem dJ(h:DE X E m e)(he:∀whole,isTrue e X.env whole=(do let v <- whole;standAt e.pos;holding [v] (truthy v)):=by intro _;rfl):DT X E (cy m) e:=by
 simp[bF,mK]at *
 exact PT.imp (FA h he) λσ H Q ⟨θ,h,ρ,w,fr,p⟩=>⟨θ,h,ρ,w,fr,(aH.bind p).mono λd θ1 h1 H1 _ _ ⟨ev,w1,p1⟩ v r=>by
   split at p1
   ·rename_i b hb;exact⟨b,uG w1 r hb,p1 θ1 H1 Ev.refl w1⟩
   ·trivial⟩
theorem Gy(hr:cG k X.A){σ:L2.St}{x y:V}(I:Inv X pins σ H s)(rx:RelV x v)(ry:RelV y u)(w:W X.G θ h H)(r1:cj X.G θ H d1 x)(r2:cj X.G θ H d2 y)(hb:pf d1 d2 h=some b) :
  (Q (.bl b) H->wpAny (model X.prog X.w) X.A (compareOp .In v u) (EP X pins σ Q) X.xe s)/\(Q (.bl !b) H->wpAny (model X.prog X.w) X.A (compareOp .NotIn v u) (EP X pins σ Q) X.xe s):=by
 unfold pf at hb;split at hb
 ·split at hb
  ·cases hb;exact⟨λq=>Eg pins s σ H x y v u Q I rx ry ⟨_,_,(eG r1).1,(eG r2).1,q⟩,λq=>x9 pins s σ H x y v u Q I rx ry ⟨_,_,(eG r1).1,(eG r2).1,q⟩⟩
  grind
 ·split at hb
  ·rename_i d ds e1 e2;obtain⟨⟨as,z1⟩,s1⟩:=gg I w 3 r1 rx e1;obtain⟨⟨bs,z2⟩,s2⟩:=gg I w 3 r2 ry e2;exact Gm hr (.inl rfl) I z1 z2 s1 (by assumption) hb
  ·rename_i d ds e1 e2;obtain⟨⟨as,z1⟩,s1⟩:=gg I w 3 r1 rx e1;obtain⟨⟨bs,z2⟩,s2⟩:=gg I w 3 r2 ry e2;exact Gm hr (.inr rfl) I z1 z2 s1 (by simpa [dQ]using s2) hb
  grind
end
section
variable {X:Cx} {E:XK} {k:Nat} {θ:WB} {hm:Hm} {H M:Hp} {pins:Ww} {σ:L2.St} {s:WO}
theorem kL:∀{ks:List (Key×V)} {kvs:Wx},aY ks=some kvs->pe (.str x) kvs=(ks.any λkv=>decide (kv.1=Sum.inr x))
 | [],kvs,e=>by cases e;rfl
 | (q,v)::ks,kvs,e=>by
  unfold aY at e
  cases e1:gA v with
  |none=>simp_all
  |some d=>
   cases e2:aY ks with
   |none=>simp_all
   |some ds=>
    rw[e1,e2]at e;cases e;have ih:=kL (x:=x) e2;unfold pe at ih ⊢;rw[Wl,Wl,ih]
    grind[zJ,PyData.eqv]
where
 key_lr' {a:Int} {b:Str}:decide ((Sum.inl a:Key)=Sum.inr b)=false:=Tr (λq=>nomatch q)
theorem yF(q:Key)(x:Str):PyData.eqv (zJ q) (.str x)=decide (q=Sum.inr x):=by
 grind[zJ,PyData.eqv]
theorem uH(hv:gA u=some dv):∀{ks:List (Key×V)} {kvs:Wx},aY ks=some kvs ->
  aY (ks.map λkv=>if kv.1=Sum.inr x then(kv.1,u)else kv)=some (kvs.map λp=>if PyData.eqv p.1 (.str x)then(p.1,dv)else p)
 | [],kvs,e=>by cases e;rfl
 | (q,v)::ks,kvs,e=>by
  unfold aY at e
  cases e1:gA v with
  |none=>simp_all
  |some d=>
   cases e2:aY ks with
   |none=>simp_all
   |some ds=>
    rw[e1,e2]at e;cases e;have ih:=uH (x:=x) hv e2;rw[SV,SV,yF];by_cases hq:q=Sum.inr x
    ·simp_all[aY,hv,ih]
    simp_all[hq,decide_false,Tz,SF,aY,e1,ih]
theorem rX(hv:gA u=some dv):∀{ks:List (Key×V)} {kvs:Wx},aY ks=some kvs->aY (ks++[(Sum.inr x,u)])=some (kvs++[(.str x,dv)])
 | [],kvs,e=>by simp_all[aY,hv,zJ]
 | (q,v)::ks,kvs,e=>by
  unfold aY at e
  cases e1:gA v with
  |none=>simp_all
  |some d=>
   cases e2:aY ks with
   |none=>simp_all
   |some ds=>rw[e1,e2]at e;cases e;have ih:=rX (x:=x) hv e2;rw[Ui];unfold aY;rw[e1,ih];rfl
theorem oG(hv:gA u=some dv)(e:aY ks=some kvs):aY (putK ks (Sum.inr x) u)=some (dput kvs (.str x) dv):=by
 unfold putK dput;rw[kL e];split
 ·exact uH hv e
 ·exact rX hv e
theorem kM:∀{ks:List (Key×V)} {kvs:Wx},aY ks=some kvs->ks.length=kvs.length
 | [],kvs,e=>by cases e;rfl
 | (q,v)::ks,kvs,e=>by
  unfold aY at e
  cases e1:gA v with
  |none=>simp_all
  |some d=>
   cases e2:aY ks with
   |none=>simp_all
   |some ds=>rw[e1,e2]at e;cases e;simp[kM e2]
theorem oH:∀{ks:List (Key×V)} {kvs:Wx} {d:PyData},aY ks=some kvs->wb kvs (.str x)=some d->∃u,qH ks (Sum.inr x)=some u/\gA u=some d
 | [],kvs,d,e,g=>by cases e;grind[wb]
 | (q,v)::ks,kvs,d,e,g=>by
  unfold aY at e
  cases e1:gA v with
  |none=>simp_all
  |some d'=>
   cases e2:aY ks with
   |none=>simp_all
   |some ds=>
    rw[e1,e2]at e;cases e;unfold wb at g;rw[List.find?_cons,yF]at g;by_cases hq:q=Sum.inr x
    ·simp only[hq,decide_true]at g;simp at g;subst g;exact⟨v,o6 (p:=(q,v)) hq,e1⟩
    ·simp only[hq,decide_false]at g;obtain⟨u,h1,h2⟩:=oH (x:=x) e2 g;exact⟨u,by rw[mD (p:=(q,v)) hq];exact h1,h2⟩
theorem zX(h:gA u=some d):Rep M d u:=by
 cases u with
 |non=>cases h;rfl
 |bl b=>cases h;rfl
 |int i=>cases h;rfl
 |str x=>cases h;rfl
 |_=>cases h
theorem uI(f:nZ d=true)(h:Rep M d u):gA u=some d:=by
 cases d with
 |none=>cases h;rfl
 |bool b=>cases h;rfl
 |int i=>cases h;rfl
 |str x=>cases h;rfl
 |_=>trivial
theorem kN(tq:aG q=true):∀{kvs:Wx} {xs:List (PyData×Addr×Value)},Paired (pG M) kvs xs->pe q kvs=(atKey xs q).isSome
 |_,_,.nil=>rfl
 |_,_,.cons (a:=p) (b:=x) h t=>by
  have ih:=kN tq t;unfold pe at ih ⊢;unfold atKey at ih ⊢;rw[Wl,List.find?_cons,ih];by_cases e:x.1=q
  ·rw[Tn e,h.1,e,aU (bf tq)];rfl
  ·have  := aZ (bf h.2.1) (bf tq) (by rw[h.1];exact e)
   simp_all
theorem Dr(I:Inv X pins σ H s)(sm:bR M H)(t:aG d=true)(dp:d.depth<=8)(so:dQ d=true)(r:Rep M d (.ref a)):Mw s.heap d a:=by obtain⟨as,z⟩:=Rep.reads I (r.same sm) rfl;exact⟨t,dp,so,as,z⟩
theorem yG(I:Inv X pins σ H s)(sm:bR M H):∀{kvs:Wx} {xs:List (PyData×Addr×Value)},Paired (pG M) kvs xs->∀x∈xs,Mw s.heap x.1 x.2.1
 |_,_,.nil,x,hx=>by cases hx
 |_,_,.cons h t,x,hx=>by
  rcases Sz.mp hx with rfl|hx
  ·obtain⟨e,t1,t2,t3,t4,_⟩:=h;rw[<- e];exact Dr I sm t1 t2 t3 t4
  ·exact yG I sm t x hx
theorem Gz(I:Inv X pins σ H s)(sm:bR M H)(ha:H a=some (dO X.prog X.w xs a))(r:Paired (pG M) kvs xs) :
  kvs.length<=sizeLine/\(a==sysModules)=false/\s.heap.DictOfH (fz X.prog X.w) a xs:=by
 obtain⟨⟨h1,h2,o,es,ep,h3,h4,h5,h6,h7⟩,_⟩:=I.hok a _ ha;exact⟨by rw[SW r];exact h1,h2,o,es,ep,h3,h4,h5,h6,yG I sm r,h7⟩
theorem MU(ha:H a=some (dO X.prog X.w xs a)):NG (H a):=by rw[ha];exact True.intro
theorem zY(tq:aG q=true)(rv:RelV v u)(rd:Rep M dv v)(sd:dQ dv=true):∀{kvs:Wx} {xs:List (PyData×Addr×Value)},Paired (pG M) kvs xs ->
  Paired (pG M) (kvs.map λp=>if PyData.eqv p.1 q then(p.1,dv)else p) (xs.map (putAt q u))
 |_,_,.nil=>.nil
 |_,_,.cons (a:=p) (b:=x) h t=>by
  rw[SV,SV];refine .cons ?_ (zY tq rv rd sd t);unfold putAt;by_cases e:x.1=q
  ·have e2:PyData.eqv p.1 q=true:=by rw[h.1,e];exact aU (bf tq)
   rw[if_pos e,if_pos e2];exact⟨h.1,h.2.1,h.2.2.1,h.2.2.2.1,h.2.2.2.2.1,v,rv,rd,sd⟩
  ·have e2  := aZ (bf h.2.1) (bf tq) (by rw[h.1];exact e)
   grind
theorem zZ(tq:aG q=true)(dq:q.depth<=8)(sq:dQ q=true)(rq:Rep M q (.ref b))(rv:RelV v u)(rd:Rep M dv v)(sd:dQ dv=true)(r:Paired (pG M) kvs xs) :
  Paired (pG M) (dput kvs q dv) (storedH xs q b u):=by
 unfold dput storedH;rw[kN tq r];split
 ·exact zY tq rv rd sd r
 ·exact fA r (.cons ⟨rfl,tq,dq,sq,rq,v,rv,rd,sd⟩ .nil)
theorem Aa(kvs:Wx)(q v:PyData):(dput kvs q v).length<=kvs.length+1:=by
 unfold dput;split
 ·simp
 ·simp
theorem W.GA(w:W G θ hm H)(ha:θ[j]?=some a)(hl:j<hm.length)(r:gC G.P G.w (view θ H) (upd H a o) a t kvs):Ev θ H θ (upd H a o)/\W G θ (hm.set j (.jt t kvs)) (upd H a o):=by
 have hmm  := SX ha
 have e:Ev θ H θ (upd H a o):=⟨⟨[],by simp⟩,λb u q=>by
  obtain⟨h1,h2⟩:=ee q;have ne:b≠a:=λz=>by grind
  simp_all[eU,aE]⟩
 exact w.write ha hl (gC.same e.same r λ_ q=>q)
noncomputable def OL(G:Gx)(E:XK):V->V->V->Hp->(Hp->Prop)->Prop:=λx y v H Q=>∃θ h d1 d2 d,W G θ h H/\cj G θ H d1 x/\cj G θ H d2 y/\cj G θ H d v/\aH G (nR G E) θ H (yt d1 d2 d h) (λ_ _ _ H'=>Q H')
theorem Jp(hr:cG k X.A):LF X (OL X.G E):=by
 intro pins s σ H x y v xv yv u Q I rx ry rv ⟨θ,h,d1,d2,d,w,r1,r2,rd,p⟩;unfold yt at p;split at p
 ·rename_i j;split at p
  ·rename_i t kvs hx;unfold KR at p;split at p
   ·rename_i q dv;split at p
    ·rename_i hc;simp only[Su,Td,UZ]at hc;obtain⟨a,ha,rfl⟩:=r1;cases rx;rcases w.obj _ _ _ ha hx with⟨rfl,ks,h1,h2,h3⟩|⟨rfl,xs,h1,h2⟩
     ·have hk:∃z,q=.str z:=by
       have:=hc.1.1;simp only[keyOk,SF,Tz]at this;cases q<;>first|exact⟨_,rfl⟩|simp[iw]at this
      obtain⟨z,rfl⟩:=hk;have fd:nZ dv=true:=by rcases hc.1.2 with z|z;cases z;exact z
      have hv:=uI fd rd.1;obtain⟨e2,s2⟩:=eG r2;subst e2
      have so:∀p∈dput kvs (.str z) dv,dQ p.1=true/\dQ p.2=true:=λp hp=>by
       unfold dput at hp;split at hp
       ·obtain⟨p0,hp0,e0⟩:=SU.mp hp;split at e0
        ·subst e0;exact⟨(h3 p0 hp0).1,rd.2⟩
        ·subst e0;exact h3 p0 hp0
       ·rcases SD.mp hp with hp|hp
        ·exact h3 p hp
        ·simp at hp;subst hp;exact⟨by simpa [dQ]using s2,rd.2⟩
      obtain⟨e1,w1⟩:=w.GA (o:=.dK (putK ks (Sum.inr z) v)) (t:=false) (kvs:=dput kvs (.str z) dv) ha (kq hx) (.inl ⟨rfl,_,bg,oG hv h2,so⟩);exact Eu (by have:=hr.units;omega) I (IS.k (k:=Sum.inr z) h1 (by rw[kM h2,UY];exact hc.2)) ry rv λs' I'=>⟨_,I',p _ _ e1 w1⟩
     ·have hk:=hc.1.1;simp only[keyOk,Tg,Su,Td]at hk
      obtain⟨b,vs,rfl,hb⟩:∃b vs,y=.ref b/\view θ H b=some (.tup vs):=by
       cases q with
       |tuple ds=>obtain⟨b,vs,e,hb,_⟩:=r2.1;exact⟨b,vs,e,hb⟩
       |_=>simp[iu]at hk
      cases ry;obtain⟨hz,hsys,dd⟩:=Gz I (aC θ H) h1 h2;have hz2:xs.length<=sizeLine:=by rw[<- show kvs.length=xs.length from SW h2];exact hz
      have kr:=zZ (b:=b) (u:=u) hk.1.2 hk.2 r2.2 r2.1 rv rd.1 rd.2 h2;refine wpAny_setItem_heap (knd:=fz X.prog X.w) (hsz:=hz2) (by show X.A.units+1+20<cLine;have:=hr.units;omega) (Dr I (aC θ H) hk.1.2 hk.2 r2.2 r2.1) dd λh' dd' hs=>?_;obtain⟨o,es,ep,g1,g2,g3,g4,_,g5⟩:=dd';have hl2:(storedH xs q b u).length<=sizeLine:=by rw[<- show(dput kvs q dv).length=_ from SW kr];have:=Aa kvs q dv;rw[UY];omega
      refine⟨_,tB (t':=_) I (MU h1) hs ⟨o,g1⟩ (KU (xs:=storedH xs q b u) hl2 hsys g1 g2 g3 g4 g5),?_⟩;obtain⟨e1,w1⟩:=w.GA (o:=dO X.prog X.w (storedH xs q b u) a) (t:=true) (kvs:=dput kvs q dv) ha (kq hx) (.inr ⟨rfl,_,bg,kr⟩);exact p _ _ e1 w1
    ·exact p.elim
   ·exact p.elim
  ·exact set_list pins s σ H x y v xv yv u Q I rx ry rv (EK w r1 r2 rd p)
 ·exact p.elim
theorem GB(hr:cG k X.A)(ho:DE X E ma' o)(hi:DE X E mb i)(ha:∀v,assign (.Subscript o i pos) X.env v=(do
   let ov <- holding [v] (eval o X.env)
   let iv <- holding [v,ov] (eval i X.env)
   standAt pos
   holding [v,ov,iv] (setItem ov iv v)
   release [v,ov,iv] []):=by intro _;rfl):DG X E (zz ma' mb) (.Subscript o i pos):=by
 simp[bF,n5]at *
 exact λpins s σ H v u Q I r ⟨θ,h,ρ,d,w,fr,rd,p⟩=>LG ho hi (Jp hr) ha pins s σ H v u Q I r ⟨θ,h,ρ,w,fr,(aH.bind p).mono λd1 θ1 h1 H1 _ _ ⟨ev,w1,p1⟩ x r1=>
   ⟨θ1,h1,ρ,w1,fr.ev ev,(aH.bind p1).mono λd2 θ2 h2 H2 _ _ ⟨ev2,w2,p2⟩ y r2=>
    ⟨θ2,h2,d1,d2,d,w2,r1.ev ev2,r2,rd.ev (ev.trans ev2),(aH.bind p2).mono λ_ θ3 h3 H3 _ _ ⟨ev3,w3,p3⟩=>p3 θ3 H3 Ev.refl w3 σ (((fr.ev ev).ev ev2).ev ev3)⟩⟩⟩
end
section
variable {X:Cx} {E:XK} {k:Nat} {θ:WB} {hm:Hm} {H M:Hp} {pins:Ww} {σ:L2.St} {s:WO} {pos:Pos} {e:Expr}
theorem Ab(w:W G θ hm H)(r:cj G θ H d v)(e:jz d hm=some (t,kvs)):∃a,v=.ref a/\gC G.P G.w (view θ H) H a t kvs:=by
 unfold jz at e;split at e
 ·cases e;obtain⟨a,h1,h2⟩:=r;exact⟨a,h1,h2.same (bR.refl _) λo q=>aC _ _ _ _ q⟩
 ·split at e
  ·rename_i hx;cases e;obtain⟨a,ha,h1⟩:=r;exact⟨a,h1,w.obj _ _ _ ha hx⟩
  grind
 grind
theorem Jq(hr:cG k X.A)(I:Inv X pins σ H s)(rx:RelV x v)(w:W X.G θ h H)(r1:cj X.G θ H d1 x)(dc:gC X.prog X.w (view θ H) H a t kvs)(hb:yq d1 kvs t=some b) :
  (Q (.bl b) H->wpAny (model X.prog X.w) X.A (compareOp .In v (.ref a)) (EP X pins σ Q) X.xe s)/\(Q (.bl !b) H->wpAny (model X.prog X.w) X.A (compareOp .NotIn v (.ref a)) (EP X pins σ Q) X.xe s):=by
 unfold yq at hb;split at hb
 ·rename_i d;split at hb
  ·rename_i ok;cases hb;rcases dc with⟨rfl,ks,h1,h2,h3⟩|⟨rfl,xs,h1,h2⟩
   ·simp only[keyOk,SF,Tz]at ok
    cases d with
    |str z=>
     cases(eG r1).1
     exact⟨λq=>QC (by have:=hr.units;omega) I (v7.k (k:=Sum.inr z) h1) rx λs' I'=>⟨.bl _,H,I',rfl,by rw[<- o7,<- kL h2];exact q⟩,
      λq=>IT (by have:=hr.units;omega) I (v7.k (k:=Sum.inr z) h1) rx λs' I'=>⟨.bl _,H,I',rfl,by rw[<- o7,<- kL h2];exact q⟩⟩
    |_=>simp[iw]at ok
   ·simp only[keyOk,Tg,Su,Td]at ok
    cases d with
    |tuple ds=>
     obtain⟨c,vs,rfl,hc,_⟩:=id r1.1;cases rx;obtain⟨hz,hsys,dd⟩:=Gz I (aC θ H) h1 h2;have room:(fz X.prog X.w).room X.A.in1:=by show X.A.units+1+20<cLine;have:=hr.units;omega
     have tk:=Dr I (aC θ H) ok.1.2 ok.2 r1.2 r1.1
     exact⟨λq=>wpAny_in_heap (knd:=fz X.prog X.w) room tk hsys dd ⟨.bl _,H,I.tok _,rfl,by rw[<- kN ok.1.2 h2];exact q⟩,
      λq=>PyProof.Rows.wpAny_notIn_heap (knd:=fz X.prog X.w) room tk hsys dd ⟨.bl _,H,I.tok _,rfl,by rw[<- kN ok.1.2 h2];exact q⟩⟩
    |_=>simp[iu]at ok
  grind
 grind
theorem tF(hr:cG k X.A)(I:Inv X pins σ H s)(rx:RelV x v)(ry:RelV y u)(w:W X.G θ h H)(r1:cj X.G θ H d1 x)(r2:cj X.G θ H d2 y)(hb:findIn d1 d2 h=some b) :
  (Q (.bl b) H->wpAny (model X.prog X.w) X.A (compareOp .In v u) (EP X pins σ Q) X.xe s)/\(Q (.bl !b) H->wpAny (model X.prog X.w) X.A (compareOp .NotIn v u) (EP X pins σ Q) X.xe s):=by
 unfold findIn at hb;split at hb
 ·rename_i p hp;obtain⟨a,rfl,dc⟩:=Ab w r2 hp;cases ry;exact Jq hr I rx w r1 dc hb
 ·exact Gy hr I rx ry w r1 r2 hb
theorem oJ(hr:cG k X.A):pH X E (compareOp .In) qz:=by
 intro pins s σ H x y v u Q I rx ry ⟨θ,h,d1,d2,w,r1,r2,p⟩;unfold qz at p;split at p
 ·rename_i b hb;exact(tF hr I rx ry w r1 r2 hb).1 (p.mn w (cQ _))
 ·trivial
theorem uJ(hr:cG k X.A):pH X E (compareOp .NotIn) kj:=by
 intro pins s σ H x y v u Q I rx ry ⟨θ,h,d1,d2,w,r1,r2,p⟩;unfold kj at p;split at p
 ·rename_i b hb;exact(tF hr I rx ry w r1 r2 hb).2 (p.mn w (cQ _))
 ·trivial
theorem GC(h:∀p∈kvs,dQ p.1=true/\dQ p.2=true)(e:wb kvs q=some d):dQ d=true:=by
 obtain⟨p,hp,rfl⟩:=TB.mp e
 grind
theorem aK(hr:cG k X.A):NL X (My X.G E cn):=by
 intro value slice pins s σ H x y v u Q I rx ry ⟨θ,h,d1,d2,w,r1,r2,p⟩ hs;unfold cn at p;split at p
 ·rename_i pp hp;obtain⟨t,kvs⟩:=pp;split at p
  ·rename_i z;split at p
   ·trivial
   ·rename_i ht;split at p
    ·rename_i d hd;obtain⟨a,rfl,dc⟩:=Ab w r1 hp;cases rx;rcases dc with⟨_,ks,h1,h2,h3⟩|⟨z1,_⟩
     ·obtain⟨e2,s2⟩:=eG r2;subst e2;obtain⟨uu,g1,g2⟩:=oH h2 hd;have T:s.TypeIs (.ref a) "dict" := by obtain⟨_,_,vs,_,o,_,_,e,ex,_⟩:=I.hok a _ h1;exact⟨o,e,ex.1⟩
      exact PyProof.Rows.tail_any (ops:=[.ref a,u]) T PySem.F.slot_dict_getitem.lookup (Et (by have:=hr.units;omega) I (by have:=v7.k (k:=Sum.inr z) h1;rw[g1]at this;exact this) ry λw' s' I' rw'=>⟨uu,H,I',rw',p.mn w ⟨zX g2,GC h3 hd⟩⟩) hs
     grind
    ·exact p.elim
  ·exact p.elim
 ·exact Gq value slice pins s σ H x y v u Q I rx ry ⟨θ,h,d1,d2,w,r1,r2,p⟩ hs
end
theorem cj.take(r:cj G θ H d v)(hb:d.below n=true):cj G (θ.take n) H d v:=by
 have sm:bR _ (view (θ.take n) H):=λa o q=>by obtain⟨h1,h2⟩:=ee q;rw[eU (λz=>h1 (Vo z))];exact h2
 cases d with
 |dat d=>exact⟨r.1.same sm,r.2⟩
 |ref i=>obtain⟨a,h1,h2⟩:=r;simp[D.below]at hb;exact⟨a,by simp_all,h2⟩
 |jt t kvs=>obtain⟨a,h1,h2⟩:=r;exact⟨a,h1,h2.same sm λo q=>sm _ _ q⟩
 |set xs=>exact r
 |fn n=>exact r
 |scr ns=>obtain⟨a,h1,h2⟩:=r;exact⟨a,h1,sm.seq h2⟩
 |ktup xs=>exact r
 |rpr x=>exact r
 |exc x=>obtain⟨a,c,h1,h2,h3⟩:=r;exact⟨a,c,h1,sm _ _ h2,h3⟩
theorem aV.take:∀{ds:List D} {vs:List V},aV G θ H ds vs->ds.all (D.below n)=true->aV G (θ.take n) H ds vs
 |_,_,.nil,_=>.nil
 |_,_,.cons r t,h=>by simp only[List.all_cons,Su]at h;exact .cons (r.take h.1) (aV.take t h.2)
theorem W.take(w:W G θ h H)(hb:(h.take n).all (MO.below n)=true):W G (θ.take n) (h.take n) H:=by
 have sm:bR _ (view (θ.take n) H):=λa o q=>by obtain⟨h1,h2⟩:=ee q;rw[eU (λz=>h1 (Vo z))];exact h2
 refine⟨by simp[w.len],w.nd.sublist (List.take_sublist _ _),λi a o h1 h2=>?_⟩
 have hi:i<n:=by
  grind
 have mo:=SR.mp hb o (SX h2);rw[Vx hi]at h1 h2;have r:=w.obj i a o h1 h2
 cases o with
 |lst xs=>obtain⟨vs,q1,q2⟩:=r;exact⟨vs,q1,q2.take mo⟩
 |jt t kvs=>exact gC.same sm r λ_ q=>q
 |ins=>trivial
 |tab P q=>obtain⟨rfl,x⟩:=r;exact⟨rfl,x.same sm λ_ q=>q⟩
theorem Ev.take(e:Ev θ H θ' H')(hn:n=θ.length):Ev θ H (θ'.take n) H':=by
 obtain⟨ext,rfl⟩:=e.pre;have:(θ++ext).take n=θ:=by grind
 rw[this];refine⟨⟨[],by simp⟩,λa o q=>?_⟩;obtain⟨h1,h2⟩:=ee (e.same a o q);rw[eU (λz=>h1 (S7 _ z))];exact h2
theorem aH.f7(w:W G θ h H)(p:aH G (nR G E) θ H (f7 F ds h) (KV G Q)):aH G (nR G E) θ H (F ds h) (KV G Q):=by
 unfold Ml.f7 at p
 cases e:F ds h with
 |bad=>simp_all
 |ok d h'=>
  rw[e]at p;simp only at p;split at p
  ·rename_i hc;simp only[Su]at hc;intro θ' H' ev w' v r;have w2:=w'.take hc.1.2;have ev2:=ev.take w.len.symm;exact p _ _ ev2 w2 v (r.take hc.1.1)
  ·trivial
 |exc x h'=>
  rw[e]at p;simp only at p;split at p
  ·rename_i hc;simp only[Su]at hc;intro θ' H' ev w' cls da xr;have w2:=w'.take hc.1;have ev2:=ev.take w.len.symm;exact p _ _ ev2 w2 cls da xr
  ·trivial
theorem bc.f7(h:bc P w K mg base x ps k F):bc P w K mg base x ps k (Ml.f7 F):=by obtain⟨⟨f,fd,h1,h2,h3,h4⟩,ar⟩:=h;refine⟨⟨f,fd,h1,h2,h3,h4.imp λvs H Q E ⟨θ,hm,ds,w,r,p⟩=>⟨θ,hm,ds,w,r,p.f7 w⟩⟩,λds hm l=>?_⟩;unfold Ml.f7;rw[ar ds hm l]
end Ml
namespace L2
open PySem PySem.Spec
section
variable {X:Cx} {a b:Expr} {rest:WG} {ta tb:TE} {pos:Pos}
theorem MV(ht:LK X r)(ha:PE X a ta)(hb:PE X (.BoolOp .Or (b::rest) pos) tb):PE X (.BoolOp .Or (a::b::rest) pos) (λσ H Q=>ta σ H λx H1=>r x H1 λc H2=>H2=H1/\if c=true then Q x H1 else tb σ H1 Q):=by
 intro pins s σ H Q I h;refine PyProof.Rows.BoolOp_or (bH (ha pins s σ H _ I h) λv s1 ⟨x,H1,I1,r1,q1⟩=>?_);refine bH (ht pins s1 σ H1 x v _ I1 r1 q1) λc s2 ⟨H2,I2,e,q2⟩=>?_;subst e
 cases c with
 |false=>exact hb pins s2 σ H2 Q I2 q2
 |true=>exact⟨x,H2,I2,r1,q2⟩
theorem Jr(ht:LK X r)(ha:PE X a ta)(hb:PE X (.BoolOp .And (b::rest) pos) tb):PE X (.BoolOp .And (a::b::rest) pos) (λσ H Q=>ta σ H λx H1=>r x H1 λc H2=>H2=H1/\if c=true then tb σ H1 Q else Q x H1):=by
 intro pins s σ H Q I h;refine PyProof.Rows.BoolOp_and (bH (ha pins s σ H _ I h) λv s1 ⟨x,H1,I1,r1,q1⟩=>?_);refine bH (ht pins s1 σ H1 x v _ I1 r1 q1) λc s2 ⟨H2,I2,e,q2⟩=>?_;subst e
 cases c with
 |true=>exact hb pins s2 σ H2 Q I2 q2
 |false=>exact⟨x,H2,I2,r1,q2⟩
end
end L2
namespace Ml
open PySem PySem.Spec L2
section
variable {X:Cx} {E:XK} {m a b c:ME} {t u:MT} {e e1 e2 e3:Expr} {es:WG} {ma:MA} {pos:Pos} {i:Nat} {x:Str}
noncomputable def EL(a b:ME):ME:=λρ h=>(a ρ h).bind λx h1=>match truth x h1 with
 |some c=>if c then .ok x h1 else b ρ h1
 |none=>.bad
noncomputable def lV(a b:ME):ME:=λρ h=>(a ρ h).bind λx h1=>match truth x h1 with
 |some c=>if c then b ρ h1 else .ok x h1
 |none=>.bad
theorem yH(ha:DE X E a e1)(hb:DE X E b (.BoolOp .Or (e2::es) pos)):DE X E (EL a b) (.BoolOp .Or (e1::e2::es) pos):=by
 simp[bF]at *
 exact PE.imp (MV Bq ha hb) λσ H Q ⟨θ,h,ρ,w,fr,p⟩=>⟨θ,h,ρ,w,fr,(aH.bind p).mono λd θ1 h1 H1 _ _ ⟨ev,w1,p1⟩ v r=>by
   split at p1
   ·rename_i b hb;refine⟨b,uG w1 r hb,rfl,?_⟩
    cases b with
    |true=>exact p1 θ1 H1 Ev.refl w1 v r
    |false=>exact⟨θ1,h1,ρ,w1,fr.ev ev,p1⟩
   ·trivial⟩
theorem gQ(ha:DE X E a e1)(hb:DE X E b (.BoolOp .And (e2::es) pos)):DE X E (lV a b) (.BoolOp .And (e1::e2::es) pos):=by
 simp[bF]at *
 exact PE.imp (Jr Bq ha hb) λσ H Q ⟨θ,h,ρ,w,fr,p⟩=>⟨θ,h,ρ,w,fr,(aH.bind p).mono λd θ1 h1 H1 _ _ ⟨ev,w1,p1⟩ v r=>by
   split at p1
   ·rename_i b hb;refine⟨b,uG w1 r hb,rfl,?_⟩
    cases b with
    |false=>exact p1 θ1 H1 Ev.refl w1 v r
    |true=>exact⟨θ1,h1,ρ,w1,fr.ev ev,p1⟩
   ·trivial⟩
noncomputable def oK(f g:D->D->Hm->R D)(a b c:ME):ME:=λρ h=>(a ρ h).bind λx h1=>(b ρ h1).bind λy h2=>(f x y h2).bind λz h3=>match z with
 |.dat (.bool k)=>if k then(c ρ h3).bind λw h4=>g y w h4 else .ok (.bool false) h3
 |_=>.bad
theorem Ac(h:lE G E (oK f g a b c) σ H Q):Bo (My G E f) (My G E g) (lE G E a) (lE G E b) (lE G E c) σ H Q:=by
 obtain⟨θ,h,ρ,w,fr,p⟩:=h;refine⟨θ,h,ρ,w,fr,(aH.bind p).mono λx θ1 h1 H1 _ _ ⟨e1,w1,p1⟩ v r1=>?_⟩;refine⟨θ1,h1,ρ,w1,fr.ev e1,(aH.bind p1).mono λy θ2 h2 H2 _ _ ⟨e2,w2,p2⟩ u r2=>⟨θ2,h2,x,y,w2,r1.ev e2,r2,(aH.bind p2).mono λz θ3 h3 H3 _ _ ⟨e3,w3,p3⟩ z' r3=>?_⟩⟩
 cases z with
 |dat z=>
  cases z with
  |bool k=>
   refine⟨k,r3.1,?_⟩
   cases k with
   |true=>exact⟨θ3,h3,ρ,w3,(fr.ev e1).ev (e2.trans e3),(aH.bind p3).mono λw' θ4 h4 H4 _ _ ⟨e4,w4,p4⟩ q r4=>⟨θ4,h4,y,w',w4,(r2.ev e3).ev e4,r4,p4⟩⟩
   |false=>exact p3 θ3 H3 Ev.refl w3 _ ⟨rfl,by rfl⟩
  |_=>trivial
 |_=>trivial
theorem GD(ho:pH X E (compareOp op) f)(ho':pH X E (compareOp op') g)(ha:DE X E a e1)(hb:DE X E b e2)(hc:DE X E c e3)
 (hm:lastMarks [op,op'] [e2,e3]=false:=by with_unfolding_all rfl):DE X E (oK f g a b c) (.Compare e1 [op,op'] [e2,e3] pos):=by
 simp[bF]at *;exact PE.imp (Fy ho ho' ha hb hc hm) λ_ _ _=>Ac
theorem GF(ho:pH X E (compareOp op) f)(ho':pH X E (compareOp op') g)(ha:DE X E a e1)(hb:DE X E b e2)(hc:DE X E c e3)
 (hm:lastMarks [op,op'] [e2,e3]=false:=by with_unfolding_all rfl):DT X E (aO (oK f g a b c)) (.Compare e1 [op,op'] [e2,e3] pos):=by
 simp[bF,mK]at *;exact PT.imp (Fz ho ho' ha hb hc hm) λ_ _ _ q=>Ac (C8 q)
end
section
variable {X:Cx} {E:XK} {m a b c:ME} {t u:MT} {e e1 e2 e3 tg:Expr} {es:WG} {ma:MA} {pos:Pos} {i:Nat} {x:Str} {ss:List Stmt} {st:Stmt}
theorem dv(i:Nat)(hN:X.N[i]?=some x:=by rfl)(hv:Kx X.env.scope x:=by first|exact Or.inl rfl|exact Or.inr (Or.inl rfl)|exact Or.inr (Or.inr rfl))(hd:(x==("__debug__" : Str))=false:=by decide)(hcd:(x==("__classdict__" : Str))=false:=by decide):DE X E (ae i) (.Name x pos):=Mz hN hv hd hcd
theorem dg(i:Nat)(hN:X.N.Nodup)(hi:X.N[i]?=some x:=by rfl)(hx:Loc X.env.scope x:=by first|exact Or.inl rfl|exact Or.inr rfl)(hf:X.fn x=true\/X.env.scope.names.lookup x=some .local:=by first|exact .inl rfl|exact .inr rfl|assumption):DG X E (aq i) (.Name x pos):=Jc hN hi hx hf
noncomputable def aN(e:ME):MA:=λρ h=>match e ρ h with
 |.ok (.dat (.tuple ds)) h1=>.ok (ds.map D.dat) h1
 |.ok (.dat (.list ds)) h1=>.ok (ds.map D.dat) h1
 |.ok (.dat (.str s)) h1=>.ok (signs s) h1
 |.ok (.ktup ds) h1=>.ok (ds.map D.dat) h1
 |.exc x h1=>.exc x h1
 |_=>.bad
theorem bI(h:DE X E m e):DI X E (aN m) tg e:=by
 have at':=MI (tg:=tg) h;have al':=MJ (tg:=tg) h;have as':=MK (tg:=tg) h;have ak':=Jn (tg:=tg) h;simp only[lU]at *;intro pins s σ H QI I ⟨θ,hm,ρ,w,fr,p⟩
 cases em:m ρ hm with
 |bad=>simp only[aN,em]at p;exact p.elim
 |exc x h1=>
  simp only[aN,em]at p;refine at' pins s σ H QI I ⟨θ,hm,ρ,w,fr,?_⟩
  simp_all[CV,em,R.F1]
 |ok d h1=>
  cases d with
  |dat d=>
   cases d with
   |tuple ds=>
    simp only[aN,em]at p;refine at' pins s σ H QI I ⟨θ,hm,ρ,w,fr,?_⟩
    simp_all[CV,em,R.aJ]
   |list ds=>simp only[aN,em]at p;refine al' pins s σ H QI I ⟨θ,hm,ρ,w,fr,?_⟩;simp only[F3,em,R.aJ];exact p
   |str ds=>simp only[aN,em]at p;refine as' pins s σ H QI I ⟨θ,hm,ρ,w,fr,?_⟩;simp only[F4,em,R.aJ];exact p
   |_=>simp only[aN,em]at p;exact p.elim
  |ktup ds=>simp only[aN,em]at p;refine ak' pins s σ H QI I ⟨θ,hm,ρ,w,fr,?_⟩;simp only[OI,em,R.aJ];exact p
  |_=>simp only[aN,em]at p;exact p.elim
end
section
variable {X:Cx} {E:XK} {m:ME} {e:Expr} {es:WG} {ma:MA} {pos pos' p p2:Pos} {i:Nat} {x T:Str} {f:Fn} {id n:String} {g:PyData->Bool}
theorem fX(i:Nat)(hN:X.N.Nodup)(he:DE X E m e)(hi:X.N[i]?=some x:=by rfl)(hx:Loc X.env.scope x:=by first|exact Or.inl rfl|exact Or.inr rfl)(hs:swapsWith e (some (.Name x pos')) pos.line X.env=pure false:=by kernel_rfl)(hf:X.fn x=true\/X.env.scope.names.lookup x=some .local:=by first|exact .inl rfl|exact .inr rfl|assumption) :
  DS X E (bU i m) (.Assign [.Name x pos'] e pos):=MD hN hi hx he hs hf
theorem qU(hc:um X E (.builtin id) f)(hm:X.mg x=none)(hv:bootBuiltins x=some (.builtin id))(ha:DA X E ma (e::es))(hg:Gl X x:=by rfl)(hn:x ≠ "__name__" := by decide)(hdb:(x==("__debug__" : Str))=false:=by decide)
 (he:starEach (e::es) X.env=(false,eval e X.env)::starEach es X.env:=by rfl)(hpl:(backTo pos (starEach es X.env)).any (·.1)=false:=by rfl):DE X E (ag f ma) (.Call (.Name x p) (e::es) [] pos):=Gg hc hg hm hv ha hn hdb he hpl
theorem jt(hc:um X E (.type id) f)(hm:X.mg x=none)(hv:bootBuiltins x=some (.type id))(ha:DA X E ma (e::es))(hg:Gl X x:=by rfl)(hn:x ≠ "__name__" := by decide)(hdb:(x==("__debug__" : Str))=false:=by decide)
 (he:starEach (e::es) X.env=(false,eval e X.env)::starEach es X.env:=by rfl)(hpl:(backTo pos (starEach es X.env)).any (·.1)=false:=by rfl):DE X E (ag f ma) (.Call (.Name x p) (e::es) [] pos):=EE hc hg hm hv ha hn hdb he hpl
theorem GG(kit:∀d,PySem.W.kitOne X.K (.type (Ov d)) (.type n)=some (g d))(bt:bootBuiltins T=some (.type n))(m1:X.mg "isinstance" = none)(m2:X.mg T=none)(h:DE X E m e)(g1:Gl X "isinstance" := by rfl)(g2:Gl X T:=by rfl)(hT:T ≠ "__name__" := by decide)(hT2:(T==("__debug__" : Str))=false:=by decide)
 (hs:starEach [e,.Name T p2] X.env=(false,eval e X.env)::starEach [.Name T p2] X.env:=by rfl)(hs2:starEach [.Name T p2] X.env=[(false,eval (.Name T p2) X.env)]:=by rfl)(hpl:(backTo pos (starEach [.Name T p2] X.env)).any (·.1)=false:=by rfl):DE X E (KP (zN g) m) (.Call (.Name "isinstance" p) [e,.Name T p2] [] pos):=MR kit bt m1 m2 h g1 g2 hT hT2 hs hs2 hpl
end
noncomputable def Df(K:WD)(mg:Wz)(x:Str)(ps:WE)(st:Stmt):Prop:=∃f fd,mg x=some (.ref f)/\KJ K x x st f fd/\Binds K fd ps []
theorem cw{oc kV dc pm cd ct:Value}(X:K.In h)(G:h.Ns mainGlobals mg)
 (a:PySem.W.nsIn K mainGlobals x=some (some (.ref f)))(l:K.lookup f=some ⟨oc,od,.func (PySem.W.fnOf x x (ju st) (f6 st) (aB st) .none kV dc pm an cd ct),sl⟩)(c:PySem.W.codeIn K cd x=true)(k:PySem.W.keepIn K (.ref f)=true)
 (hb:∀(kV doc pm:Value) (an:Option Addr) (cdv ct:Value) (us:WC),us.length=ps.length->bindArgs (PySem.W.fnOf x x (ju st) (f6 st) (aB st) .none kV doc pm an cdv ct) ⟨us,[]⟩=pure (ps.zip us)):Df K mg x ps st:=
 ⟨f,_,Vl X G a,By l c k,(By l c k).binds hb⟩
section
variable {P:WL} {w:World} {K:WD} {mg:Wz} {base:Heap} {x:Str} {st:Stmt} {ps N:WE} {k:Nat} {b:MS} {F:Fn}
theorem Df.has(d:Df K mg x ps st)(S:aQ N ps (aB st))(hbody:∀(f:Addr) (cdv:Value) (A:WN) (outer:List Env) (s:WO) (H:Hp) (E:XK),cG k (A.deeper (PyProof.Rows.envOfC x (aB st) s.heap.objs.size f cdv)) ->
   Gf (vW (vT P w) P w K mg base N x (aB st) f cdv A outer s H E) E b (f6 st)):bc P w K mg base x ps (k+1) (bu ps.length N.length b):=by
 obtain⟨f,fd,h1,Fu,bd⟩:=d;exact⟨⟨f,fd,h1,Fu.kp,bd,RG Fu S (hbody f)⟩,xi⟩
end
theorem GH:bootBuiltins "int" = some (.type "int"):=by rfl
theorem MW(h:ka P w K mg base (vT P w) k f fd ps (H0 ⟨P,w,mg,K⟩ F))(e:F=F'):ka P w K mg base (vT P w) k f fd ps (H0 ⟨P,w,mg,K⟩ F'):=e▸h
noncomputable def K0(K:WD):Sp:=λvs H Q _=>∃(a:Addr) (ns:List Int),vs=[.ref a]/\j9 K H a (ns.map V.int)/\ns.length<=63/\∀H',Q (.bl true) H'
theorem GI(hp:∀ns:List Int,ns.length<=63->∃h,F [.scr ns] []=.ok (.bool true) h)(z:K0 G.K vs H Q E):H0 G F vs H Q E:=by
 obtain⟨a,ns,rfl,hs,hl,q⟩:=z;obtain⟨h',e⟩:=hp ns hl;refine⟨[],[],[.scr ns],⟨rfl,.nil,λi a o e=>by grind⟩,.cons ⟨a,rfl,by assumption⟩ .nil,?_⟩;rw[e];intro θ' H' _ _ v r;cases r.1
 grind
end Ml
namespace Ml
open PySem
noncomputable def xn:MS:=bj (nY (vU (i6 (cy (KP (zN isStr) (ae 0)))) (i6 (aO (oK oLe oLe (aj (.int 1)) (ag gb (aa (ae 0) ah)) (aj (.int 6)))))) (cC (aj (.bool false))) dz)
    (cC (ag yr (aa (bZ 1 (aN (ae 0)) (aq 0) cX (oK oLe oLe (aj (.str "a")) (ae 0) (aj (.str "z")))) ah)))
noncomputable def ku:Fn:=bu 1 1 xn
noncomputable def rY:MS:=cC (ag yr (aa (bZ 2 (CW (aa (ae 0) (aa (Pu (ae 0) (n0 (aj (.int 1))) CZ) ah))) (i7 (bP (aq 0) (bP (aq 1) iI))) cX (ai oLt (ae 0) (ae 1))) ah))
noncomputable def hZ:Fn:=bu 1 1 rY
noncomputable def rZ:MS:=bj (nY (vU (i6 (cy (KP (zN isTup) (ae 0)))) (aO (ai Pt (ag gb (aa (ae 0) ah)) (aj (.int 12))))) (cC (aj (.bool false))) dz)
    (cC (lV (ag yr (aa (bZ 1 (aN (ae 0)) (aq 0) cX (ag ku (aa (ae 0) ah))) ah)) (ag hZ (aa (ae 0) ah))))
noncomputable def jB:Fn:=bu 1 1 rZ
noncomputable def si:MS:=bj (nY (vU (i6 (cy (KP (zN isTup) (ae 0)))) (aO (ai kI (ag gb (aa (ae 0) ah)) (aj (.int 2))))) (cC (aj (.bool false))) dz)
    (cC (lV (ai qz (ai cn (ae 0) (aj (.int 0))) (ae 1)) (ai qz (ai cn (ae 0) (aj (.int 1))) (ae 1))))
noncomputable def ia:Fn:=bu 2 2 si
noncomputable def n9:MS:=bj (nY (i6 (cy (KP (zN isTup) (ae 0)))) (cC (aj (.bool false))) dz)
    (cC (lV (ag yr (aa (bZ 1 (aN (ae 0)) (aq 0) cX (ag ia (aa (ae 0) (aa (ae 2) ah)))) ah)) (ag hZ (aa (ae 0) ah))))
noncomputable def dy:Fn:=bu 2 2 n9
noncomputable def Ad:MS:=bj (nY (vU (i6 (cy (KP (zN isTup) (ae 0)))) (aO (ai kI (ag gb (aa (ae 0) ah)) (aj (.int 2))))) (cC (aj (.bool false))) dz)
    (bj (mG (i7 (bP (aq 1) (bP (aq 2) iI))) (ae 0))
    (cC (lV (ag jB (aa (ae 1) ah)) (ag dy (aa (ae 2) (aa (ae 1) ah))))))
noncomputable def pQ:Fn:=bu 1 3 Ad
end Ml
namespace Ml
open PySem PySem.Spec L2
section
variable {X:Cx} {E:XK} {st:Stmt}
noncomputable def BQ:MS:=λ_ _=>.bad
theorem yI:DS X E BQ st:=by simp[ko]at *;exact λpins s σ H C I ⟨θ,hm,ρ,w,fr,p⟩=>p.elim
end
end Ml
namespace Ml
open PySem
noncomputable def sj:MS:=nY (i6 (cy (ag pQ (aa (ae 0) ah)))) BQ dz
noncomputable def dP:Fn:=bu 1 1 sj
noncomputable def pR:MS:=nY (aO (ai kI (ai cn (ae 0) (aj (.int 0))) (ai cn (ae 1) (aj (.int 0))))) BQ dz
noncomputable def iM:Fn:=bu 2 2 pR
noncomputable def yJ:WA:=[.str "grounded",.str "preferred",.str "stable",.str "standing",.str "whole"]
noncomputable def yK:MS:=nY (aO (ai kj (ae 0) (RH yJ))) BQ dz
noncomputable def iN:Fn:=bu 1 1 yK
noncomputable def pS:MS:=bj (hG (ag dP (aa (ae 0) ah)))
    (bj (hG (ag dP (aa (ae 1) ah)))
    (bj (hG (ag iM (aa (ae 0) (aa (ae 1) ah))))
    (hG (ag iN (aa (ae 2) ah)))))
noncomputable def iO:Fn:=bu 3 3 pS
noncomputable def jC:MS:=cC (ai qz (br (aa (ae 1) (aa (ae 1) ah))) (ae 0))
noncomputable def b0:Fn:=bu 3 3 jC
noncomputable def iF:MS:=cC (lV (ai qz (br (aa (ae 1) (aa (ae 1) ah))) (ae 0)) (EL (ai qz (br (aa (ae 2) (aa (ae 1) ah))) (ae 0)) (ai qz (br (aa (ae 2) (aa (ae 2) ah))) (ae 0))))
noncomputable def bC:Fn:=bu 3 3 iF
noncomputable def ky:MS:=cC (lV (ai qz (br (aa (ae 1) (aa (ae 1) ah))) (ae 0)) (ai qz (br (aa (ae 2) (aa (ae 2) ah))) (ae 0)))
noncomputable def cz:Fn:=bu 3 3 ky
noncomputable def iG:MS:=cC (lV (ai qz (br (aa (ae 2) (aa (ae 2) ah))) (ae 0)) (EL (ai qz (br (aa (ae 1) (aa (ae 1) ah))) (ae 0)) (ai qz (br (aa (ae 2) (aa (ae 1) ah))) (ae 0))))
noncomputable def bJ:Fn:=bu 3 3 iG
end Ml
namespace Ml
open PySem PySem.Spec L2
noncomputable def jD(x:D)(h:Hm):Option WA:=match x with
 |.dat (.tuple ds)=>some ds
 |.ktup ds=>some ds
 |x=>listOf x h
section
variable {X:Cx} {E:XK} {m:ME} {a:MA} {e:Expr} {es:WG} {p:Pos}
theorem Ae:∀{xs:WA},(∀x∈xs,(match x with|.int _|.str _|.bool _|.none=>true|_=>false)=true)->cY xs=true->aV G θ H (xs.map D.dat) (xs.map Mx)
 | [],_,_=>.nil
 |d::ds,h,s=>by simp[cY]at s;refine .cons ⟨?_,s.1⟩ (Ae (λx m=>h x (SE _ m)) s.2);have:=h d (SK ..);cases d<;>first|rfl|trivial
end
end Ml
namespace L2
open PySem PySem.Spec PyProof.Rows
section
variable {prog:WL} {w:World} {A:WN} {R:Result->WO->Prop} {s:WO} {elt target iter target2 iter2:Expr} {ifs ifs2:WG} {scope:Scope} {pos:Pos} {it acc:Value} {env:Env}
theorem Af:compTurn (.ListComp elt [⟨target,iter,ifs,0⟩,⟨target2,iter2,ifs2,0⟩] scope pos) 0 it acc env=(do
   standAt iter.pos
   match <- pyNext it with
   |none=>pure (.done .next)
   |some v=>
    letOwnedTupleGo target it v
    assign target env v
    let mut ok:=true
    for c in ifs do
     if ok then ok <- isTrue c env (eval c env)
    if ok then
     let x <- eval iter2 env
     standAt iter2.pos
     let x <- foldedSetIterable iter2 env x
     let _ <- runOwn (.compStart (.ListComp elt [⟨target,iter,ifs,0⟩,⟨target2,iter2,ifs2,0⟩] scope pos) 1 (<- holding [x] (pyIter x)) acc env) env
    again (.compLoop (.ListComp elt [⟨target,iter,ifs,0⟩,⟨target2,iter2,ifs2,0⟩] scope pos) 0 it acc env)):=by rfl
theorem Ag:compTurn (.ListComp elt [⟨target,iter,ifs,0⟩,⟨target2,iter2,ifs2,0⟩] scope pos) 1 it acc env=(do
   standAt iter2.pos
   match <- pyNext it with
   |none=>pure (.done .next)
   |some v=>
    letOwnedTupleGo target2 it v
    assign target2 env v
    let mut ok:=true
    for c in ifs2 do
     if ok then ok <- isTrue c env (eval c env)
    if ok then
     (do let _ <- call (.builtin "list.append") [acc,<- eval elt env])
    again (.compLoop (.ListComp elt [⟨target,iter,ifs,0⟩,⟨target2,iter2,ifs2,0⟩] scope pos) 1 it acc env)):=by rfl
theorem wg(I:Nat->WO->Prop)
 (turn:∀n s,I n s->wpAny (model prog w) A (pyNext it) (λr s1=>match r with
   |none=>R (.ok .next) s1
   |some v=>wpAny (model prog w) A (letOwnedTupleGo target2 it v) (λ_ s2=>wpAny (model prog w) A (assign target2 env v) (λ_ s3=>
     wpAny (model prog w) A (forIn ifs2 true λc r=>if r=true then do let ok <- isTrue c env (eval c env);pure (ForInStep.yield ok)else pure (ForInStep.yield r)) (λok s4=>
      if ok=true then wpAny (model prog w) A (eval elt env) (λx s5=>
       wpAny (model prog w) A (call (.builtin "list.append") [acc,x]) (λ_ s6=>∃m,m<n/\I m s6) (λ_ _=>False) s5) (λ_ _=>False) s4
      else ∃m,m<n/\I m s4) (λ_ _=>False) s3) (λ_ _=>False) s2) (λ_ _=>False) s1) (λ_ _=>False) s)
 (n:Nat)(h:I n s) :
  codeAny (model prog w) A (.compLoop (.ListComp elt [⟨target,iter,ifs,0⟩,⟨target2,iter2,ifs2,0⟩] scope pos) 1 it acc env) R s:=by
 refine codeAny_loop rfl I (λn s hI=>?_) n h;show wpAny _ A ((compTurn (.ListComp elt [⟨target,iter,ifs,0⟩,⟨target2,iter2,ifs2,0⟩] scope pos) 1 it acc env).onRaise (λx=>do noteFrame x env;theTreesLotGoes x)) _ _ s;refine wpAny_noted ?_;rw[Ag];refine TZ (E:=λ_ _=>False) (E':=_) (Q':=_) ?_ (λ_ _ q=>q) λ_ _ z=>z.elim;refine Sm (Uq (Sm (bH (turn n s hI) (λr s1 h1=>?_))))
 cases r with
 |none=>exact Sn h1
 |some v=>
  refine Sm (bH h1 λ_ s2 h2=>?_);refine Sm (bH h2 λ_ s3 h3=>Sm (bH h3 λok s4 h4=>?_))
  cases ok with
  |false=>exact Sn ⟨rfl,h4⟩
  |true=>exact Sm (Sm (bH h4 λx s5 h5=>Sm (bH h5 λ_ s6 h6=>Sn (Sn ⟨rfl,h6⟩))))
theorem wj(hs:∀x,foldedSetIterable iter2 env x=pure x)(I:Nat->WO->Prop)
 (turn:∀n s,I n s->wpAny (model prog w) A (pyNext it) (λr s1=>match r with
   |none=>R (.ok .next) s1
   |some v=>wpAny (model prog w) A (letOwnedTupleGo target it v) (λ_ s2=>wpAny (model prog w) A (assign target env v) (λ_ s3=>
     wpAny (model prog w) A (forIn ifs true λc r=>if r=true then do let ok <- isTrue c env (eval c env);pure (ForInStep.yield ok)else pure (ForInStep.yield r)) (λok s4=>
      if ok=true then wpAny (model prog w) A (eval iter2 env) (λx s5=>
       wpAny (model prog w) A (pyIter x) (λit2 s6=>codeAny (model prog w) (A.mark none) (.compStart (.ListComp elt [⟨target,iter,ifs,0⟩,⟨target2,iter2,ifs2,0⟩] scope pos) 1 it2 acc env) (λr s7=>match r with|.ok _=>∃m,m<n/\I m s7|.error _=>False) s6) (λ_ _=>False) s5) (λ_ _=>False) s4
      else ∃m,m<n/\I m s4) (λ_ _=>False) s3) (λ_ _=>False) s2) (λ_ _=>False) s1) (λ_ _=>False) s)
 (n:Nat)(h:I n s) :
  codeAny (model prog w) A (.compLoop (.ListComp elt [⟨target,iter,ifs,0⟩,⟨target2,iter2,ifs2,0⟩] scope pos) 0 it acc env) R s:=by
 refine codeAny_loop rfl I (λn s hI=>?_) n h;show wpAny _ A ((compTurn (.ListComp elt [⟨target,iter,ifs,0⟩,⟨target2,iter2,ifs2,0⟩] scope pos) 0 it acc env).onRaise (λx=>do noteFrame x env;theTreesLotGoes x)) _ _ s;refine wpAny_noted ?_;rw[Af];refine TZ (E:=λ_ _=>False) (E':=_) (Q':=_) ?_ (λ_ _ q=>q) λ_ _ z=>z.elim;refine Sm (Uq (Sm (bH (turn n s hI) (λr s1 h1=>?_))))
 cases r with
 |none=>exact Sn h1
 |some v=>
  refine Sm (bH h1 λ_ s2 h2=>?_);refine Sm (bH h2 λ_ s3 h3=>Sm (bH h3 λok s4 h4=>?_))
  cases ok with
  |false=>exact Sn ⟨rfl,h4⟩
  |true=>
   refine Sm (bH h4 λx s5 h5=>Sm (Uq (Sm (U6 (hs x) (Sm (Tf (bH h5 λit2 s6 h6=>?_)))))));refine Sm (wpAny_runOwn (VR h6 λr s7 h7=>?_))
   cases r with
   |error e=>exact h7.elim
   |ok f=>exact Sn ⟨rfl,h7⟩
theorem yL
  (h0:codeAny (model prog w) A (.compLoop (.ListComp elt [⟨target,iter,ifs,0⟩,⟨target2,iter2,ifs2,0⟩] scope pos) 1 it acc env) R s)
  (h:wpAny (model prog w) A (pyIter it) (λit' s'=>codeAny (model prog w) A (.compLoop (.ListComp elt [⟨target,iter,ifs,0⟩,⟨target2,iter2,ifs2,0⟩] scope pos) 1 it' acc env) R s')
   (notedBy (model prog w) A env λx s'=>R (.error x) s') s) :
  codeAny (model prog w) A (.compStart (.ListComp elt [⟨target,iter,ifs,0⟩,⟨target2,iter2,ifs2,0⟩] scope pos) 1 it acc env) R s:=by
 refine codeAny_of_tree ?_;refine wpAny_notedAt ?_;refine Sm (Vr (wpAny_ite ?_));split
 ·first
   |rfl
   |exact Sn (And.intro rfl h0)
 ·first
   |rfl
   | (show wpAny _ _ (standAt iter2.pos >>= _) _ _ s;exact Sm (Uq (Sm (TZ h (λit' s' h'=>Sn (And.intro rfl h')) λ_ _ x=>x))))
end
noncomputable def BR(n:Nat)(J:It)(g:TG)(tc:TT)(wi2:TI)(g2:TG)(tc2:TT)(te:TE)(σ:St)(H:Hp)(Q:VK):Prop:=
 ∃W:Nat->Nat->List V->Hp->Prop,(∃m,W 0 m [] H)/\∀i m ys H,W i m ys H ->
  (J.stop i H/\ys.length<=sizeLine/\∀p,H p=none->Q (.ref p) (upd H p (.lst ys))) \/
  (J.go i H/\ys.length<=sizeLine/\∃N:List V->Hp->Prop,(∀ys' H',N ys' H'->∃m',m'<m/\W (i+1) m' ys' H')/\∀x H',J.yld i H x H'->g x (List.replicate n none++σ) H' λσ2 H2=>tc σ2 H2 λb H3=>
   if b=true then wi2 σ2 H3 λJ2 H4=>∃W2:Nat->Nat->St->List V->Hp->Prop,(∃m2,W2 0 m2 σ2 ys H4)/\∀i2 m2 σ3 zs H5,W2 i2 m2 σ3 zs H5 ->
    (J2.stop i2 H5/\N zs H5) \/
    (J2.go i2 H5/\zs.length<=sizeLine/\∃N2:St->List V->Hp->Prop,(∀σ' zs' H',N2 σ' zs' H'->∃m',m'<m2/\W2 (i2+1) m' σ' zs' H')/\∀x2 H6,J2.yld i2 H5 x2 H6->g2 x2 σ3 H6 λσ4 H7=>tc2 σ4 H7 λb2 H8=>
     if b2=true then te σ4 H8 λy H9=>N2 σ4 (zs++[y]) H9 else N2 σ4 zs H8)
   else N ys H3)
theorem Ah{σ:St}
 {RR:Value->Addr->Result->WO->Prop}(I:Inv X pins σ H2 s2)(CS:cP X.env.scope X.N own scope)(hc:X.calm=true)(T:Turn X.prog X.w X.K tg J fp it tn)(st:tn 0 s2.heap)(hf:∀b∈fp,iq X pins H2 b)
 (hg:∀C s2 H2 fp pins,PG (ay X own scope C s2 H2 fp pins) tg g)(ht:∀C s2 H2 fp pins,Es (ay X own scope C s2 H2 fp pins) ifs tc)(he:∀C s2 H2 fp pins,PE (ay X own scope C s2 H2 fp pins) elt te)(hi2:∀C s2 H2 fp pins,PI (ay X own scope C s2 H2 fp pins) tg2 iter2 wi2)(hg2:∀C s2 H2 fp pins,PG (ay X own scope C s2 H2 fp pins) tg2 g2)(ht2:∀C s2 H2 fp pins,Es (ay X own scope C s2 H2 fp pins) ifs2 tc2)(hs2:∀(env:Env) x,foldedSetIterable iter2 env x=pure x)
 (hW:BR own.length J g tc wi2 g2 tc2 te σ H2 Q)
 (hR:∀D C H' s',Inv X pins σ H' s'->iq X pins H' C->(∃m,s'.heap.Ns C m)->Q (.ref D) H'->Kept X fp H2 H' s2 s'->RR (.ref D) C (.ok .next) s') :
  wpAny (model X.prog X.w) X.A (newList []) (λacc s3=>wpAny (model X.prog X.w) X.A (newFunctionEnv scope X.env.globals (fe X.env.cells scope.names []) [] X.env.qual none .none (some X.env)) (λcenv s4=>
   codeAny (model X.prog X.w) X.A (.compStart (.ListComp elt [⟨tg,iter,ifs,0⟩,⟨tg2,iter2,ifs2,0⟩] scope pos) 0 (.ref it) acc {cenv with scope:=relabel scope X.env}) (RR acc cenv.locals) s4) E s3) E s2:=by
 refine To (jT ?_);dsimp only;generalize hH:s2.heap.push {cls:=.type "list",dict:=none,data:=.seq ([]:WC).toArray}=h3;have hDC:h3.objs.size=s2.heap.objs.size+1:=by rw[<- hH,Tj]
 have eC:({scope:=relabel scope X.env,locals:=h3.objs.size,globals:=X.env.globals,cells:=cellsFrom (h3.objs.size+1) scope.names (fe X.env.cells scope.names []),qual:=X.env.qual,func:=none,code:=X.env.code,frame:=X.env.frame,builtins:=X.env.builtins}:Env)=jS scope h3.objs.size X.env:=rfl;rw[eC];generalize eD:s2.heap.objs.size=D at *;generalize eCC:h3.objs.size=C at *;have hl:∀b∈fp,b<s2.heap.objs.size:=λb hb=>by obtain⟨o,e,_⟩:=T.obj 0 _ st b hb;exact Sv e
 have hC:s2.heap.objs.size<=C:=by omega
 generalize hH4:pushCells (h3.push {cls:=.type "dict",data:=.dict #[]}) scope.names=h4;have k34:∀b o,(h3.push {cls:=.type "dict",data:=.dict #[]}).get? b=some o->h4.get? b=some o:=λb o e=>by rw[<- hH4];exact pushCells_keeps _ _ b o e
 have k24:∀b o,s2.heap.get? b=some o->h4.get? b=some o:=λb o e=>k34 b o (So _ (by rw[<- hH];exact So _ e));have nsC:h4.Ns C λ_=>none:=by have:=Heap.Ns.new h3 (.type "dict");rw[eCC]at this;exact this.keeps k34
 have accD:h4.get? D=some {cls:=.type "list",data:=.seq (([]:WC).toArray)}:=k34 _ _ (So _ (by rw[<- hH,<- eD];exact Sy _ rfl));have cellN:∀x c,(x,c)∈cellsFrom (C+1) scope.names []->h4.IsCell c none/\C+1<=c:=λx c hm=>by have ok:=cellsFrom_ok scope.names (h3.push {cls:=.type "dict",data:=.dict #[]}) (C+1) [] ⟨λ_ _ hm=>(nomatch hm),List.Pairwise.nil⟩ (by rw[Tj];omega);rw[Tj,eCC,hH4]at ok;exact ok.empty x c hm
 have hne:H2 D=none:=by rw[<- eD];exact I.hok.fresh (Ss _)
 have ok':(ay X own scope C s2 H2 fp pins).Ok:=ye I CS hC hf hl
 have rebase:∀{σ':St} {H':Hp} {ps:Ww} {s':WO},Inv (ay X own scope C s2 H2 fp pins) ps σ' H' s'->Inv (ay X own scope C s2 H2 fp pins) ps (List.replicate own.length none++σ) H' s':=λ{σ' H' ps s'} J'=>by
  obtain⟨m,hn,_⟩:=J'.loc;refine⟨J'.ok,J'.os,J'.bare,J'.base,⟨m,hn,ke I CS λc v z ⟨x,hx⟩=>?_⟩,J'.cell,J'.free,J'.freeC,J'.pin,J'.hok,?_⟩
  ·obtain⟨o,ho,hd⟩:=z;obtain⟨sl,e⟩:=J'.base.any ho (I.freeC x c hx) λhb=>(hf c hb).2.2.2.2.1 x c hx rfl;exact⟨_,e,hd⟩
  ·show(List.replicate own.length none++σ).length=(own++X.N).length;rw[SN,SN,TX,I.len]
 have start:Inv (ay X own scope C s2 H2 fp pins) [] (List.replicate own.length none++σ) H2 {s2 with heap:=h4}:=by
  have I4:Inv X pins σ H2 {s2 with heap:=h4}:=I.kept (t':=s2.toks) k24;refine⟨ok',rfl,I.bare,Un.kept k24,⟨_,nsC,ke I CS λc v z _=>z.keeps k24⟩,λx c h=>?_,I.hok.fresh hC,λx c h=>?_,λp hp=>?_,I4.hok,?_⟩
  ·rcases bT h with⟨a,_,_⟩|a
   ·exact⟨_,(cellN x c a).1⟩
   ·obtain⟨v,z⟩:=I.cell x c (eK I CS a).2;exact⟨v,z.keeps k24⟩
  ·rcases bT h with⟨_,_,a⟩|a
   ·exact I.hok.fresh (Sw hC (Sw (Uw _) a))
   ·exact I.freeC x c (eK I CS a).2
  ·have hp':p∈X.pn++pins:=by
    rcases SD.mp hp with z|z
    ·exact z
    ·exact nomatch z
   obtain⟨e,n,ne,nf,d⟩:=I.pin p hp';refine⟨k24 _ _ e,n,SI (Sx (Sv e) hC),λz=>?_,d⟩;rcases Sz.mp (I.jR _ z)with q|q
   ·exact ne q
   ·exact nf q
  ·show(List.replicate own.length none++σ).length=(own++X.N).length;rw[SN,SN,TX,I.len]
 obtain⟨W,⟨m0,w0⟩,turn⟩:=hW
 have nfs:∀b,s2.heap.objs.size<=b->b∉(ay X own scope C s2 H2 fp pins).fs:=λb hb z=>by
  rcases Sz.mp (I.jR b z)with q|q
  ·rw[q]at hb;exact absurd (Sx I.lt hb) (SQ _)
  ·exact I.Bj hb q
 have fpD:∀{H':Hp},H' D=none->iq (ay X own scope C s2 H2 fp pins) [] H' D:=λ{H'} hn=>by
  refine⟨hn,SI (by show D<C;omega),nfs D (by omega),.inr (by show s2.heap.objs.size<=D;omega),λx c h z=>?_,λp hp z=>?_⟩
  ·rcases bT h with⟨_,_,a⟩|a
   ·rw[z]at a;exact absurd (Sx (show D<C+1 by omega) a) (SQ _)
   ·obtain⟨v,q⟩:=I.cell x c (eK I CS a).2;have:=q.lt;rw[z,eD]at this;exact SQ _ this
  ·have hp':p∈X.pn++pins:=by
    rcases SD.mp hp with z|z
    ·exact z
    ·exact nomatch z
   have:=Sv (I.pin p hp').1;rw[z,eD]at this;exact SQ _ this
 have nD:D∉fp:=λz=>by have:=hl D z;rw[eD]at this;exact SQ _ this
 have stat:∀{H':Hp} {ps:Ww},(∀p∈ps,p.1=D)->(∀b∈fp,H' b=none)->∀b∈fp,iq (ay X own scope C s2 H2 fp pins) ps H' b:=λ{H' ps} hps hn b hb=>by
  obtain⟨f0,f1,f2,f3,f4,f5⟩:=hf b hb;refine⟨hn b hb,(ok'.exf b hb).1,ok'.exfs b hb,.inl hb,(ok'.exf b hb).2,λp hp=>?_⟩;rcases SD.mp hp with z|z
  ·exact f5 p z
  ·rw[hps p z];exact λq=>nD (q▸hb)
 let LI:Nat->WO->Prop:=λn s'=>∃i ys its k H',Inv (ay X own scope C s2 H2 fp pins) [] (List.replicate own.length none++σ) H' s'/\tn i s'.heap/\(∀b∈fp,H' b=none)/\H' D=none /\
  s'.heap.get? D=some {cls:=.type "list",data:=.seq (List.toArray its) k}/\Vals ys its/\W i n ys H'
 have l0:LI m0 {s2 with heap:=h4}:=⟨0,[],[],0,H2,start,T.keep _ _ _ st λb _ o e=>k24 b o e,λb hb=>(hf b hb).1,hne,accD,.nil,w0⟩
 have loop:codeAny (model X.prog X.w) X.A (.compLoop (.ListComp elt [⟨tg,iter,ifs,0⟩,⟨tg2,iter2,ifs2,0⟩] scope pos) 0 (.ref it) (.ref D) (jS scope C X.env)) (RR (.ref D) C) {s2 with heap:=h4}:=by
  refine wj (hs2 _) LI ?_ m0 l0;rintro n s3 ⟨i,ys,its,k,H3,I3,st3,fr3,d3,a3,v3,w3⟩;rcases turn i n ys H3 w3 with⟨stop,hz,qn⟩|⟨go,hz,NN,hNN,step⟩
  ·have I3p:=I3.pinned (fp:=[D]) (λb hb=>(SO.mp hb)▸fpD d3) λb hb=>⟨_,(SO.mp hb)▸a3,λv z=>(by cases z)⟩;refine bH (T.done (ay X own scope C s2 H2 fp pins) rfl rfl rfl hc i _ s3 _ H3 _ I3p (stat (λp hp=>by have q:p∈bW [D] s3.heap:=hp;have:=(eT q).1;simpa using this) fr3) st3 stop) λr s4 ⟨hr,I4⟩=>?_;subst hr;have a4:s4.heap.get? D=_:=(I4.pin (D,_) (Sr _ (Sr _ (aX (by simp) a3)))).1;have u4:Un (vR X.stack) fp H2 H3 s2.heap s4.heap:=I4.base
   have okD:mr X.prog X.w (upd H3 D (.lst ys)) s4.heap:=λb o e=>by
    by_cases hb:b=D
    ·subst hb;rw[bg]at e;cases e;exact⟨hz,its,k,v3,a4⟩
    ·rw[aE hb]at e;exact(I4.hok b o e).sV (λ_ _ _ q=>q) (λc q=>by rw[aE (aI q d3)];exact q) λc xs q=>by rw[aE (aI q d3)];exact q
   have nDo:∀b o,s2.heap.get? b=some o->b≠D:=λb o e=>by rw[<- eD];exact SI (Sv e)
   have uD:Un (vR X.stack) fp H2 (upd H3 D (.lst ys)) s2.heap s4.heap:=⟨u4.keep,u4.slot,λb o e n hx=>by rw[aE (nDo b o e)];exact u4.free b o e n hx,u4.there,
    λb xs e=>by rw[aE (aI e hne)];exact u4.tups b xs e,λb o xs e=>by rw[aE (aI e hne)];exact u4.frzs b o xs e,λb ps e=>by rw[aE (aI e hne)];exact u4.tbls b ps e⟩
   have kp:Kept X fp H2 (upd H3 D (.lst ys)) s2 s4:=⟨I4.os,uD,okD,I4.bare⟩;have I5:Inv X pins σ (upd H3 D (.lst ys)) s4:=kp.inv I hf;obtain⟨m,hn,_⟩:=I4.loc;refine hR D C _ s4 I5 ⟨by rw[aE (show C≠D by omega)];exact I4.free,UH (Sx I.lt hC),I.Bj hC,.inr (Sw I.sz hC),λx c e z=>?_,λp hp z=>?_⟩ ⟨m,hn⟩ (qn D d3) kp
   ·obtain⟨v,q⟩:=I.cell x c e;exact absurd (Sx q.lt (by rw[z];exact hC)) (SQ _)
   ·exact absurd (Sx (Sv (I.pin p hp).1) (by rw[z];exact hC)) (SQ _)
  ·have I3p:=I3.pinned (fp:=[D]) (λb hb=>(SO.mp hb)▸fpD d3) λb hb=>⟨_,(SO.mp hb)▸a3,λv z=>(by cases z)⟩;have onlyD:∀p∈([]++bW [D] s3.heap),p.1=D:=λp hp=>by have q:p∈bW [D] s3.heap:=hp;have:=(eT q).1;simpa using this
   refine bH (T.item (ay X own scope C s2 H2 fp pins) rfl rfl rfl hc i _ s3 _ H3 _ I3p (stat onlyD fr3) st3 go) λr s4 ⟨u,hr,h4'⟩=>?_;subst hr;refine bH h4' λ_ s5 ⟨x,H5,I5,r5,y5,st5,fr5⟩=>?_;have I5p:=I5.pinned (fp:=fp) (stat onlyD fr5) (T.obj _ _ st5)
   have cont:∀{s6:WO} {σ6:St} {H6:Hp},Inv (ay X own scope C s2 H2 fp pins) (([]++bW [D] s3.heap)++bW fp s5.heap) σ6 H6 s6 ->
     Inv (ay X own scope C s2 H2 fp pins) [] (List.replicate own.length none++σ) H6 s6/\tn (i+1) s6.heap/\(∀b∈fp,H6 b=none)/\H6 D=none/\s6.heap.get? D=some {cls:=.type "list",data:=.seq (List.toArray its) k}:=λ{s6 σ6 H6} I6=>by
    have pD:=I6.pin (D,_) (Sr _ (S7 _ (Sr _ (aX (by simp) a3))));refine⟨rebase (I6.iH λp hp=>nomatch hp),T.keep _ _ _ st5 λb hb o e=>(I6.pin (b,o) (Sr _ (Sr _ (aX hb e)))).1,λb hb=>?_,pD.2.1,pD.1⟩;obtain⟨o,e,_⟩:=T.obj _ _ st5 b hb;exact(I6.pin (b,o) (Sr _ (Sr _ (aX hb e)))).2.1
   refine bH (hg C s2 H2 fp pins _ s5 _ H5 x u _ I5p r5 (step x H5 y5)) λ_ s6 ⟨σ6,H6,I6,q6⟩=>?_;refine bH (ht C s2 H2 fp pins _ s6 σ6 H6 _ I6 q6) λb s7 ⟨H7,I7,q7⟩=>?_
   cases b with
   |false=>have q7':NN ys H7:=q7;obtain⟨m',hm,w7⟩:=hNN _ _ q7';obtain⟨c1,c2,c3,c4,c5⟩:=cont I7;exact⟨m',hm,i+1,ys,its,k,H7,c1,c2,c3,c4,c5,v3,w7⟩
   |true=>
    have pmD:(D,_)∈(([]++bW [D] s3.heap)++bW fp s5.heap):=S7 _ (Sr _ (aX (by simp) a3))
    have fpD2:∀{H':Hp},H' D=none->iq (ay X own scope C s2 H2 fp pins) (bW fp s5.heap) H' D:=λ{H'} hn=>by
     obtain⟨f0,f1,f2,f3,f4,f5⟩:=fpD hn;refine⟨f0,f1,f2,f3,f4,λp hp=>?_⟩;rcases SD.mp hp with z|z
     ·exact f5 p (S7 _ z)
     ·exact λq=>nD (q▸(eT z).1)
    have cont2:∀{s6:WO} {σ6:St} {H6:Hp},Inv (ay X own scope C s2 H2 fp pins) (bW fp s5.heap) σ6 H6 s6->Inv (ay X own scope C s2 H2 fp pins) [] (List.replicate own.length none++σ) H6 s6/\tn (i+1) s6.heap/\(∀b∈fp,H6 b=none):=λ{s6 σ6 H6} I6=>by refine⟨rebase (I6.iH λp hp=>nomatch hp),T.keep _ _ _ st5 λb hb o e=>(I6.pin (b,o) (Sr _ (aX hb e))).1,λb hb=>?_⟩;obtain⟨o,e,_⟩:=T.obj _ _ st5 b hb;exact(I6.pin (b,o) (Sr _ (aX hb e))).2.1
    refine bH (hi2 C s2 H2 fp pins _ s7 σ6 H7 _ I7 q7) λv s8 h8=>bH h8 λitv s9 h9=>?_;obtain⟨it2,fp2,tn2,J2,H9,e9,I9,T2,st9,f9,W2,⟨m2,w2⟩,turn2⟩:=h9;subst e9;have pD9:=I9.pin (D,_) (Sr _ pmD);have neD:∀b∈fp2,D≠b:=λb hb=>(f9 b hb).2.2.2.2.2 (D,_) (Sr _ pmD)
    have stat2:∀{H':Hp} {ps:Ww},(∀p∈ps,p.1=D)->(∀b∈fp2,H' b=none)->∀b∈fp2,iq (ay X own scope C s2 H2 fp pins) (bW fp s5.heap++ps) H' b:=λ{H' ps} hps hn b hb=>by
     obtain⟨g0,g1,g2',g3,g4,g5⟩:=f9 b hb;refine⟨hn b hb,g1,g2',g3,g4,λp hp=>?_⟩;rcases SD.mp hp with z|z
     ·exact g5 p (S7 _ z)
     ·rcases SD.mp z with z|z
      ·exact g5 p (Sr _ (Sr _ z))
      ·rw[hps p z];exact neD b hb
    let LI2:Nat->WO->Prop:=λn' s'=>∃i2 σ3 zs its2 k2 H',Inv (ay X own scope C s2 H2 fp pins) (bW fp s5.heap) σ3 H' s'/\tn2 i2 s'.heap/\(∀b∈fp2,H' b=none)/\H' D=none /\
     s'.heap.get? D=some {cls:=.type "list",data:=.seq (List.toArray its2) k2}/\Vals zs its2/\W2 i2 n' σ3 zs H'
    have i0:LI2 m2 s9:=⟨0,σ6,ys,its,k,H9,I9.iH (λp hp=>I9.pin p (Sr _ (Sr _ hp))),st9,λb hb=>(f9 b hb).1,pD9.2.1,pD9.1,v3,w2⟩
    have loop2:codeAny (model X.prog X.w) X.A (.compLoop (.ListComp elt [⟨tg,iter,ifs,0⟩,⟨tg2,iter2,ifs2,0⟩] scope pos) 1 (.ref it2) (.ref D) (jS scope C X.env)) (λr s7=>match r with|.ok _=>∃m,m<n/\LI m s7|.error _=>False) s9:=by
     refine wg LI2 ?_ m2 i0;rintro n2 t3 ⟨i2,σ3,zs,its2,k2,K3,J3,st3',fr3',d3',a3',v3',w3'⟩;have J3p:=J3.pinned (fp:=[D]) (λb hb=>(SO.mp hb)▸fpD2 d3') λb hb=>⟨_,(SO.mp hb)▸a3',λv z=>(by cases z)⟩;have onlyD2:∀p∈bW [D] t3.heap,p.1=D:=λp hp=>by have:=(eT hp).1;simpa using this
     rcases turn2 i2 n2 σ3 zs K3 w3' with⟨stop2,qn2⟩|⟨go2,hz2,NN2,hNN2,step2⟩
     ·refine bH (T2.done (ay X own scope C s2 H2 fp pins) rfl rfl rfl hc i2 _ t3 _ K3 _ J3p (stat2 onlyD2 fr3') st3' stop2) λr t4 ⟨hr,J4⟩=>?_;subst hr;have a4':t4.heap.get? D=_:=(J4.pin (D,_) (Sr _ (Sr _ (aX (by simp) a3')))).1;obtain⟨m',hm,w4⟩:=hNN _ _ qn2;obtain⟨c1,c2,c3⟩:=cont2 J4.i8;exact⟨m',hm,i+1,zs,its2,k2,K3,c1,c2,c3,d3',a4',v3',w4⟩
     ·refine bH (T2.item (ay X own scope C s2 H2 fp pins) rfl rfl rfl hc i2 _ t3 _ K3 _ J3p (stat2 onlyD2 fr3') st3' go2) λr t4 ⟨u2,hr,h4''⟩=>?_;subst hr;refine bH h4'' λ_ t5 ⟨x2,K5,J5,r5',y5',st5',fr5'⟩=>?_;have J5p:=J5.pinned (fp:=fp2) (stat2 onlyD2 fr5') (T2.obj _ _ st5')
      have contI:∀{t6:WO} {τ6:St} {K6:Hp},Inv (ay X own scope C s2 H2 fp pins) ((bW fp s5.heap++bW [D] t3.heap)++bW fp2 t5.heap) τ6 K6 t6 ->
        Inv (ay X own scope C s2 H2 fp pins) (bW fp s5.heap) τ6 K6 t6/\tn2 (i2+1) t6.heap/\(∀b∈fp2,K6 b=none)/\K6 D=none/\t6.heap.get? D=some {cls:=.type "list",data:=.seq (List.toArray its2) k2}:=λ{t6 τ6 K6} J6=>by
       have pD:=J6.pin (D,_) (Sr _ (S7 _ (Sr _ (aX (by simp) a3'))));refine⟨J6.i8.i8,T2.keep _ _ _ st5' λb hb o e=>(J6.pin (b,o) (Sr _ (Sr _ (aX hb e)))).1,λb hb=>?_,pD.2.1,pD.1⟩;obtain⟨o,e,_⟩:=T2.obj _ _ st5' b hb;exact(J6.pin (b,o) (Sr _ (Sr _ (aX hb e)))).2.1
      refine bH (hg2 C s2 H2 fp pins _ t5 _ K5 x2 u2 _ J5p r5' (step2 x2 K5 y5')) λ_ t6 ⟨τ6,K6,J6,q6'⟩=>?_;refine bH (ht2 C s2 H2 fp pins _ t6 τ6 K6 _ J6 q6') λb2 t7 ⟨K7,J7,q7'⟩=>?_
      cases b2 with
      |false=>have q7'':NN2 τ6 zs K7:=q7';obtain⟨m',hm,w7⟩:=hNN2 _ _ _ q7'';obtain⟨c1,c2,c3,c4,c5⟩:=contI J7;exact⟨m',hm,i2+1,τ6,zs,its2,k2,K7,c1,c2,c3,c4,c5,v3',w7⟩
      |true=>refine bH (he C s2 H2 fp pins _ t7 τ6 K7 _ J7 q7') λv t8 ⟨y,K8,J8,r8,q8⟩=>?_;obtain⟨m',hm,w8⟩:=hNN2 _ _ _ q8;obtain⟨c1,c2,c3,c4,c5⟩:=contI J8;refine wpAny_list_append_plain ⟨k2,c5⟩ (λh' hp hs=>?_) (by rw[S5,<- v3'.length];exact hz2);obtain⟨k',e'⟩:=hp;obtain⟨f0,f1,f2,f3,f4,f5⟩:=fpD2 c4;refine⟨m',hm,i2+1,τ6,zs++[y],its2++[v],k',K8,c1.turned (t':=t8.toks) (λb o hb e=>(hs.2 b hb).trans e) f0 f1 f3 f4 f5,T2.keep _ _ _ c2 λb hb o e=>(hs.2 b λz=>neD b hb z.symm).trans e,c3,c4,?_,v3'.append (.cons r8 .nil),w8⟩;show h'.get? D=_;rw[e'];simp
    exact yL loop2 (T2.self _ 0 s9 _ _ st9 loop2)
 exact codeAny_compStart_list loop (T.self X.A 0 {s2 with heap:=h4} _ _ (T.keep _ _ _ st λb _ o e=>k24 b o e) loop)
section
variable {X:Cx} {own:WE} {scope:Scope} {elt tg iter tg2 iter2:Expr} {ifs ifs2:WG} {pos:Pos} {wi wi2:TI} {g g2:TG} {tc tc2:TT} {te:TE}
noncomputable def BS(n:Nat)(wi:TI)(g:TG)(tc:TT)(wi2:TI)(g2:TG)(tc2:TT)(te:TE):TE:=λσ H Q=>wi σ H λJ H1=>BR n J g tc wi2 g2 tc2 te σ H1 Q
theorem GJ(own:WE){pos' spos:Pos}(hN:X.N.Nodup)(hxi:X.N[i]?=some x)(hx:X.env.scope.names.lookup x=some .local)(CS:fw X.env.scope X.N own scope=true)(hc:X.calm=true)(hi:PI X tg iter wi)(hg:∀C s2 H2 fp pins,PG (ay X own scope C s2 H2 fp pins) tg g)
 (ht:∀C s2 H2 fp pins,Es (ay X own scope C s2 H2 fp pins) ifs tc)(he:∀C s2 H2 fp pins,PE (ay X own scope C s2 H2 fp pins) elt te)(hi2:∀C s2 H2 fp pins,PI (ay X own scope C s2 H2 fp pins) tg2 iter2 wi2)(hg2:∀C s2 H2 fp pins,PG (ay X own scope C s2 H2 fp pins) tg2 g2)(ht2:∀C s2 H2 fp pins,Es (ay X own scope C s2 H2 fp pins) ifs2 tc2)(hs:∀x,foldedSetIterable iter X.env x=pure x:=by intro _;rfl)(hs2:∀(env:Env) x,foldedSetIterable iter2 env x=pure x:=by intro _ _;rfl)
 (hsw:swapsWith (.ListComp elt [⟨tg,iter,ifs,0⟩,⟨tg2,iter2,ifs2,0⟩] scope pos) (some (.Name x pos')) spos.line X.env=pure true:=by rfl) :
  PS X (.Assign [.Name x pos'] (.ListComp elt [⟨tg,iter,ifs,0⟩,⟨tg2,iter2,ifs2,0⟩] scope pos) spos) (Ed (BS own.length wi g tc wi2 g2 tc2 te) (aq i)):=by
 intro pins s σ H D I h;have CS:=cP.of CS;rw[exec_Assign_Name_used _ _ _ _ hsw];refine Sm (Uq (Sm ?_));show wpAny _ X.A (do let _ <- comprehension (.ListComp elt [⟨tg,iter,ifs,0⟩,⟨tg2,iter2,ifs2,0⟩] scope pos) scope X.env _ (newList []) false (eval iter X.env) (some (assign (.Name x pos') X.env))) _ _ s
 refine Sm (bH (UU (use:=some (assign (.Name x pos') X.env)) (Q:=λ_ s'=>SP X pins D .next s') (g:=⟨tg,iter,ifs,0⟩) rfl hs (gO λn hn=>I.ok.has n (CS.frees n hn)) CS.kind (kF CS)
  (bH (hi pins s σ H _ I h) λv s1 h1=>bH h1 λitv s2 h2=>?_)) λ_ s' hq=>Sn (Sn hq))
 obtain⟨it,fp,tn,J,H2,e,I2,T,st2,f2,hW⟩:=h2;subst e;refine Ah (Q:=λx H1=>aq i x σ H1 D.nx) (RR:=λacc C=>compPost (model X.prog X.w) X.A X.xe (some (assign (.Name x pos') X.env)) (λ_ s'=>SP X pins D .next s') acc C) I2 CS hc T st2 f2 hg ht he hi2 hg2 ht2 hs2 hW λDl C H' s' I' fC ⟨m,hn⟩ q _=>?_;show wpAny _ _ (assign (.Name x pos') X.env (.ref Dl)) _ _ s';refine wpAny_assign_Name (qC (v:=.ref Dl) I' hN hxi (.inl hx) rfl (λs'' I'' hsb=>?_) (.inr hx));obtain⟨f0,f1,f2',f3,f4,f5⟩:=fC;obtain⟨a,sb,ha⟩:=hsb
 have hCa:C≠a:=by
  rcases ha with e|e
  ·rw[e];exact f1
  ·exact(f4 x a e).symm
 refine⟨m,hn.sameBut sb hCa,λh' hs'=>⟨_,H',?_,q⟩⟩;exact I''.turned (t':=s''.toks) (λb o hb e=>(hs'.2 b hb).trans e) f0 f1 f3 f4 f5
end
end L2
namespace Ml
open PySem PySem.Spec L2
noncomputable def kO(g2:MG)(t2:MT)(e:ME):List D->Fm->Hm->R (List D)
 | [],_,h=>.ok [] h
 |y::ys,ρ,h=>(g2 y ρ h).ud.bind λρ1 h1=>(t2 ρ1 h1).ud.bind λc h2=>
  if c then(e ρ1 h2).ud.bind λz h3=>(kO g2 t2 e ys ρ1 h3).bind λzs h4=>.ok (z::zs) h4
  else kO g2 t2 e ys ρ1 h2
noncomputable def fJ(n:Nat)(ρ:Fm)(g:MG)(t:MT)(it2:MA)(g2:MG)(t2:MT)(e:ME):List D->Nat->Hm->R (List D)
 | [],_,h=>.ok [] h
 |x::xs,k,h=>(g x (List.replicate n none++ρ) h).ud.bind λρ1 h1=>(t ρ1 h1).ud.bind λc h2=>
  if c then(it2 ρ1 h2).ud.bind λys h3=>if mj (k+ys.length)then(kO g2 t2 e ys ρ1 h3).bind λzs h4=>(fJ n ρ g t it2 g2 t2 e xs (k+zs.length) h4).bind λws h5=>.ok (zs++ws) h5 else .bad
  else fJ n ρ g t it2 g2 t2 e xs k h2
noncomputable def uK(n:Nat)(it:MA)(g:MG)(t:MT)(it2:MA)(g2:MG)(t2:MT)(e:ME):MA:=λρ h=>(it ρ h).bind λxs h1=>if mj xs.length then fJ n ρ g t it2 g2 t2 e xs 0 h1 else .bad
noncomputable def yM(n:Nat)(it:MA)(g:MG)(t:MT)(it2:MA)(g2:MG)(t2:MT)(e:ME):ME:=ag eL (uK n it g t it2 g2 t2 e)
section
variable {X:Cx} {E:XK} {it it2:MA} {g g2:MG} {t t2:MT} {m:ME}
theorem BU(hJ:pJ G θ1 H1 xs J)(w1:W G θ1 h1 H1)(fr:Fr G θ1 H1 ρ σ)(p1:aH G F θ1 H1 ((fJ n ρ g t it2 g2 t2 m xs 0 h1).bind mk) (KV G Q))
 (hmk:∀ys vs θ h H,ys.length<=sizeLine->W G θ h H->aV G θ H ys vs->aH G F θ H (mk ys h) (KV G Q)->∀p,H p=none->Q (.ref p) (upd H p (.lst vs))) :
  BR n J (lG G gz g) (lT G gz t) (lI G gz it2) (lG G gz g2) (lT G gz t2) (lE G gz m) σ H1 Q:=by
 refine⟨λi m' ys H=>m'=xs.length-i/\i<=xs.length/\∃θ' h' acc,acc.length<=sizeLine/\Ev θ1 H1 θ' H/\W G θ' h' H/\aV G θ' H acc ys/\aH G F θ' H ((fJ n ρ g t it2 g2 t2 m (xs.drop i) acc.length h').bind λzs h2=>mk (acc++zs) h2) (KV G Q),
  ⟨xs.length,by simp,Ug _,θ1,h1,[],Ug _,Ev.refl,w1,.nil,p1⟩,?_⟩
 rintro i m' ys H ⟨rfl,hi,θ',h',acc,hacc,ev,w,ra,p⟩;obtain⟨j1,j2⟩:=hJ θ' h' H ev w;have hly:ys.length<=sizeLine:=by rw[<- show acc.length=ys.length from SW ra];omega
 by_cases hlt:i<xs.length
 ·have ed:xs.drop i=xs[i]::xs.drop (i+1):=TR hlt;rw[ed]at p;obtain⟨g1,g2'⟩:=j1 i xs[i] (SH hlt);refine .inr ⟨g1,hly,λys2 H2=>i+1<=xs.length/\∃θ' h' acc,acc.length<=sizeLine/\Ev θ1 H1 θ' H2/\W G θ' h' H2/\aV G θ' H2 acc ys2/\aH G F θ' H2 ((fJ n ρ g t it2 g2 t2 m (xs.drop (i+1)) acc.length h').bind λzs h2=>mk (acc++zs) h2) (KV G Q),λys' H' q=>⟨xs.length-(i+1),by omega,rfl,q⟩,λx H2 y=>?_⟩;obtain⟨e2,w2,r2⟩:=g2' x H2 y;have p2:=p.later e2;unfold fJ at p2;simp only[R.bind_assoc]at p2;refine⟨θ',h',_,xs[i],w2,((fr.ev ev).ev e2).replicate n,r2,(aH.dB p2).mono λρ3 θ3 h3 H3 _ _ ⟨e3,w3,p3⟩ σ3 fr3=>⟨θ3,h3,ρ3,w3,fr3,(aH.dB p3).mono λc θ4 h4 H4 _ _ ⟨e4,w4,p4⟩=>?_⟩⟩;have ev4:=(ev.trans e2).trans (e3.trans e4);have ra4:=aV.ev (e2.trans (e3.trans e4)) ra
  cases c with
  |false=>exact⟨hlt,θ4,h4,acc,hacc,ev4,w4,ra4,p4⟩
  |true=>
   simp only[Tg,R.bind_assoc]at p4;refine⟨θ4,h4,ρ3,w4,fr3.ev e4,(aH.dB p4).mono λzs θ5 h5 H5 _ _ ⟨e5,w5,p5⟩ J2 hJ2=>?_⟩;have fr5:=(fr3.ev e4).ev e5;have ra5:=aV.ev e5 ra4;split at p5
   ·rename_i hz;have hz':=dW hz;simp only[R.bind_assoc,R.aJ]at p5
    refine⟨λi2 m2 τ us K=>m2=zs.length-i2/\i2<=zs.length/\∃θ6 h6 acc6 ρ6,acc6.length<=acc.length+i2/\Ev θ5 H5 θ6 K/\W G θ6 h6 K/\aV G θ6 K acc6 us/\Fr G θ6 K ρ6 τ/\aH G F θ6 K ((kO g2 t2 m (zs.drop i2) ρ6 h6).bind λvs h7=>(fJ n ρ g t it2 g2 t2 m (xs.drop (i+1)) (acc6.length+vs.length) h7).bind λws h8=>mk (acc6++(vs++ws)) h8) (KV G Q),
     ⟨zs.length,by simp,Ug _,θ5,h5,acc,ρ3,by omega,Ev.refl,w5,ra5,fr5,p5⟩,?_⟩
    rintro i2 m2 τ us K ⟨rfl,hi2,θ6,h6,acc6,ρ6,hacc6,ev6,w6,ra6,fr6,p6⟩;obtain⟨k1,k2⟩:=hJ2 θ6 h6 K ev6 w6;have hlu:us.length<=sizeLine:=by rw[<- show acc6.length=us.length from SW ra6];omega
    by_cases hlt2:i2<zs.length
    ·have ed2:zs.drop i2=zs[i2]::zs.drop (i2+1):=TR hlt2;rw[ed2]at p6;obtain⟨l1,l2⟩:=k1 i2 zs[i2] (SH hlt2);refine .inr ⟨l1,hlu,λτ' us' K'=>i2+1<=zs.length/\∃θ6 h6 acc6 ρ6,acc6.length<=acc.length+(i2+1)/\Ev θ5 H5 θ6 K'/\W G θ6 h6 K'/\aV G θ6 K' acc6 us'/\Fr G θ6 K' ρ6 τ'/\aH G F θ6 K' ((kO g2 t2 m (zs.drop (i2+1)) ρ6 h6).bind λvs h7=>(fJ n ρ g t it2 g2 t2 m (xs.drop (i+1)) (acc6.length+vs.length) h7).bind λws h8=>mk (acc6++(vs++ws)) h8) (KV G Q),λτ' us' K' q=>⟨zs.length-(i2+1),by omega,rfl,q⟩,λx2 K2 y2=>?_⟩;obtain⟨e7,w7,r7⟩:=l2 x2 K2 y2;have p7:=p6.later e7;unfold kO at p7;simp only[R.bind_assoc]at p7;refine⟨θ6,h6,_,zs[i2],w7,fr6.ev e7,r7,(aH.dB p7).mono λρ8 θ8 h8 K8 _ _ ⟨e8,w8,p8⟩ τ8 fr8=>⟨θ8,h8,ρ8,w8,fr8,(aH.dB p8).mono λc2 θ9 h9 K9 _ _ ⟨e9,w9,p9⟩=>?_⟩⟩;have ev9:=(ev6.trans e7).trans (e8.trans e9);have ra9:=aV.ev (e7.trans (e8.trans e9)) ra6
     cases c2 with
     |false=>exact⟨hlt2,θ9,h9,acc6,ρ8,by omega,ev9,w9,ra9,fr8.ev e9,p9⟩
     |true=>
      simp only[Tg,R.bind_assoc]at p9;refine⟨θ9,h9,ρ8,w9,fr8.ev e9,(aH.dB p9).mono λy3 θ10 h10 K10 _ _ ⟨e10,w10,p10⟩ v10 r10=>⟨hlt2,θ10,h10,acc6++[y3],ρ8,by simp;omega,ev9.trans e10,w10,?_,(fr8.ev e9).ev e10,?_⟩⟩
      ·exact fA (aV.ev e10 ra9) (.cons r10 .nil)
      ·simp only[R.bind_assoc,R.aJ]at p10;have e11:∀vs:List D,(acc6++[y3]).length+vs.length=acc6.length+(y3::vs).length:=λvs=>by simp;omega
       simp only[e11];simpa using p10
    ·have hx:i2=zs.length:=by omega
     subst hx;rw[T5 (Ss _)]at p6;simp only[kO,R.aJ,TH,Ts,Nat.add_zero]at p6;exact .inl ⟨k2,hlt,θ6,h6,acc6,by omega,ev4.trans (e5.trans ev6),w6,ra6,p6⟩
   ·exact p5.elim
 ·have hx:i=xs.length:=by omega
  subst hx;rw[T5 (Ss _)]at p;simp only[fJ,R.aJ,US]at p;exact .inl ⟨j2,hly,hmk acc ys θ' h' H hacc w ra p⟩
end
section
variable {X:Cx} {E:XK} {it it2:MA} {g g2:MG} {t t2:MT} {m:ME} {own:WE} {scope:Scope} {elt tg e tg2 e2:Expr} {ifs ifs2:WG} {pos:Pos} {i:Nat} {x:Str}
theorem GK{mk:List D->Hm->R D}(h:lE G E (ag mk (uK n it g t it2 g2 t2 m)) σ H Q)
 (hmk:∀ys vs θ h H,ys.length<=sizeLine->W G θ h H->aV G θ H ys vs->aH G (nR G E) θ H (mk ys h) (KV G Q)->∀p,H p=none->Q (.ref p) (upd H p (.lst vs))) :
  BS n (lI G E it) (lG G gz g) (lT G gz t) (lI G gz it2) (lG G gz g2) (lT G gz t2) (lE G gz m) σ H Q:=by
 obtain⟨θ,h,ρ,w,fr,p⟩:=h;simp[ag,uK,R.bind_assoc]at p;refine⟨θ,h,ρ,w,fr,(aH.bind p).mono λxs θ1 h1 H1 _ _ ⟨ev,w1,p1⟩ J hJ=>?_⟩;split at p1
 ·exact BU hJ w1 (fr.ev ev) p1 hmk
 ·trivial
theorem GL{mk:List D->Hm->R D}(h:lS G E (bU i (ag mk (uK n it g t it2 g2 t2 m))) C σ H)
 (hmk:∀Q ys vs θ h H,ys.length<=sizeLine->W G θ h H->aV G θ H ys vs->aH G (nR G E) θ H (mk ys h) (KV G Q)->∀p,H p=none->Q (.ref p) (upd H p (.lst vs))) :
  Ed (BS n (lI G E it) (lG G gz g) (lT G gz t) (lI G gz it2) (lG G gz g2) (lT G gz t2) (lE G gz m)) (L2.aq i) C σ H:=by
 obtain⟨θ,h,ρ,w,fr,p⟩:=h;refine GK ⟨θ,h,ρ,w,fr,(aH.bind p).mono λd θ1 h1 H1 _ _ ⟨ev,w1,p1⟩ v r=>p1 θ1 H1 Ev.refl w1 _ ((fr.ev ev).set r)⟩ (hmk _)
theorem GN(own:WE){pos' spos:Pos}(hN:X.N.Nodup)(hxi:X.N[i]?=some x)(hx:X.env.scope.names.lookup x=some .local)(CS:fw X.env.scope X.N own scope=true)(hc:X.calm=true)(hi:DI X E it tg e)(hg:∀C s2 H2 fp pins,DG (ay X own scope C s2 H2 fp pins) gz g tg)
 (ht:∀C s2 H2 fp pins,Je (ay X own scope C s2 H2 fp pins) gz t ifs)(hi2:∀C s2 H2 fp pins,DI (ay X own scope C s2 H2 fp pins) gz it2 tg2 e2)(hg2:∀C s2 H2 fp pins,DG (ay X own scope C s2 H2 fp pins) gz g2 tg2)
 (ht2:∀C s2 H2 fp pins,Je (ay X own scope C s2 H2 fp pins) gz t2 ifs2)(he:∀C s2 H2 fp pins,DE (ay X own scope C s2 H2 fp pins) gz m elt)(hs:∀x,foldedSetIterable e X.env x=pure x:=by intro _;rfl)(hs2:∀(env:Env) x,foldedSetIterable e2 env x=pure x:=by intro _ _;rfl)
 (hsw:swapsWith (.ListComp elt [⟨tg,e,ifs,0⟩,⟨tg2,e2,ifs2,0⟩] scope pos) (some (.Name x pos')) spos.line X.env=pure true:=by rfl):DS X E (bU i (yM own.length it g t it2 g2 t2 m)) (.Assign [.Name x pos'] (.ListComp elt [⟨tg,e,ifs,0⟩,⟨tg2,e2,ifs2,0⟩] scope pos) spos):=by
 simp[bF,ko,n5,lU,qP]at *;exact PS.imp (GJ own hN hxi hx CS hc hi hg ht he hi2 hg2 ht2 hs hs2 hsw) λC σ H q=>GL q λQ ys vs θ h H _=>oF ys vs θ h H
end
noncomputable def GO:PyData->Value->Bool
 |.none,.none=>true
 |.bool b,.bool c=>b==c
 |.int i,.int j _=>i==j
 |.str x,.str y _=>x==y
 |_,_=>false
noncomputable def yN:WA->WC->Bool
 | [],[]=>true
 |d::ds,v::vs=>GO d v&&yN ds vs
 |_,_=>false
noncomputable def QP(K:WD)(a:Addr)(xs:WA):Bool:=match K.lookup a with
 |some o=>(match o.cls,o.data with
  |.type "tuple",.seq its _=>yN xs its.toList&&decide (its.size<=sizeLine)
  |_,_=>false)&&cY xs
 |Option.none=>false
theorem GP(h:GO d v=true):RelV (Mx d) v/\nZ d=true:=by
 unfold GO at h;split at h
 ·trivial
 ·have:=eq_of_beq h;subst this;exact⟨rfl,rfl⟩
 ·have:=eq_of_beq h;subst this;exact⟨⟨_,rfl⟩,rfl⟩
 ·have:=eq_of_beq h;subst this;exact⟨⟨_,rfl⟩,rfl⟩
 grind
theorem xo:∀{ds:WA} {vs:WC},yN ds vs=true->Vals (ds.map Mx) vs/\∀x∈ds,nZ x=true
 | [],[],_=>⟨.nil,by simp⟩
 | [],_::_,h=>by trivial
 |_::_,[],h=>by trivial
 |d::ds,v::vs,h=>by
  simp[yN]at h;obtain⟨h1,h2⟩:=GP h.1;obtain⟨k1,k2⟩:=xo h.2;refine⟨.cons h1 k1,λx m=>?_⟩
  grind
theorem MX(h:QP K a xs=true):Gb K a xs:=by
 unfold QP at h;split at h
 ·rename_i o ho;simp at h;obtain⟨h,hs⟩:=h;split at h
  ·rename_i its n hc hd;simp at h;obtain⟨k1,k2⟩:=xo h.1;exact⟨⟨o,its,n,ho,hc,hd,h.2,k1⟩,λx m=>by have:=k2 x m;cases x<;>simp_all[nZ],hs⟩
  grind
 grind
end Ml
namespace Ml
open PySem
noncomputable def fg:WA->WA
 | []=>[]
 |x::xs=>if xs.any (PyData.eqv x)then fg xs else x::fg xs
noncomputable def setOk(ds:WA):Bool:=(ds.all iu || ds.all iw)&&bE ds&&decide (PyData.depthAll ds<=8)&&decide (ds.length<=120)
noncomputable def fB:Fn:=λxs h=>match xs with
 | [x]=>match jD x h with
  |some ds=>if setOk ds&&cL (fg ds)then .ok (.dat (.list (bY ltB (fg ds)))) h else .bad
  |Option.none=>.bad
 |_=>.bad
noncomputable def Ia(ds es:WA):WA:=fg (ds++es)
noncomputable def Ai(ds es:WA):WA:=(fg ds).filter (λd=>!es.any (PyData.eqv d))++(fg es).filter (λd=>!ds.any (PyData.eqv d))
noncomputable def tG(f:WA->WA->WA)(a b:ME):ME:=λρ h=>(a ρ h).bind λx h1=>match jD x h1 with
 |some ds=>if setOk ds then(b ρ h1).bind λy h2=>match jD y h2 with
   |some es=>if setOk (ds++es)&&cL (f ds es)then .ok (.dat (.list (bY ltB (f ds es)))) h2 else .bad
   |Option.none=>.bad
  else .bad
 |Option.none=>.bad
theorem xp:∀{ds:WA},bE ds=true<->∀d∈ds,aG d=true
 | []=>by trivial
 |d::ds=>by simp[bE,xp]
theorem gR{ds:WA}(hd:∀d∈ds,aG d=true)(hx:aG x=true):ds.any (PyData.eqv x)=true<->x∈ds:=by
 rw[Wr];constructor
 ·rintro⟨y,hy,e⟩;rw[(mJ (bf hx) (bf (hd y hy))).mp e];exact hy
 ·exact λh=>⟨x,h,aU (bf hx)⟩
theorem fR:∀{ds:WA},(∀d∈ds,aG d=true)->∀d,d∈fg ds<->d∈ds
 | [],_,d=>by rfl
 |x::xs,h,d=>by
  have hx:=h x (SK ..);have hxs  := λd m=>h d (SE _ m);have ih:=fR hxs d;unfold fg;split
  ·rename_i z;rw[gR hxs hx]at z
   grind
  grind
theorem fS:∀{ds:WA},(∀d∈ds,aG d=true)->(fg ds).Nodup
 | [],_=>by trivial
 |x::xs,h=>by
  have hx:=h x (SK ..);have hxs  := λd m=>h d (SE _ m);unfold fg;split
  ·exact fS hxs
  ·rename_i z;refine TC.mpr ⟨λq=>z ?_,fS hxs⟩;rw[gR hxs hx];exact(fR hxs x).mp q
end Ml
namespace L2
open PySem PySem.Spec PyProof.Rows
section
variable {X:Cx} {pos:Pos}
noncomputable def OM(i j l:Nat)(ta:TA):TS:=λD σ H=>ta σ H λvs H1=>∃v w z,vs=[v,w,z]/\D.nx (((σ.set i (some v)).set j (some w)).set l (some z)) H1
theorem Js(hc:X.calm=true)(hN:X.N.Nodup)(hi:X.N[i]?=some x)(hj:X.N[j]?=some y)(hl:X.N[l]?=some z)(hij:i≠j)(hil:i≠l)(hjl:j≠l)
 (hx:X.env.scope.names.lookup x=some .local)(hy:X.env.scope.names.lookup y=some .local)(hz:X.env.scope.names.lookup z=some .local)(ha:PA X [a,b,c] ta)
 (hw:swappedStores [.Tuple [.Name x px,.Name y py,.Name z pz] kt pt] (.Tuple [a,b,c] k2 pt2) X.env=pure (some [x,y,z]))
 (hs:swapsWithSole [.Tuple [.Name x px,.Name y py,.Name z pz] kt pt] (.Tuple [a,b,c] k2 pt2) pos.line X.env=pure false:=by rfl) :
  PS X (.Assign [.Tuple [.Name x px,.Name y py,.Name z pz] kt pt] (.Tuple [a,b,c] k2 pt2) pos) (OM i j l ta):=by
 intro pins s σ H D I h;rw[exec_Assign_arm];refine Sm (Uq ?_);rw[hs];refine Sm (Sn ?_);rw[if_neg (by decide)];refine Sm (Tuple_ (bH (ha _ pins s σ H _ I h) λus s1 ⟨vs,H1,I1,r1,q1⟩=>?_));obtain⟨v,w,t,e1,q1⟩:=q1;subst e1
 obtain⟨u1,u2,u3,rfl,rv,rw',rt⟩:∃u1 u2 u3,us=[u1,u2,u3]/\RelV v u1/\RelV w u2/\RelV t u3:=by
  cases r1 with
  |cons p q=>
   cases q with
   |cons p' q'=>
    cases q' with
    |cons p2 q2=>cases q2;exact⟨_,_,_,rfl,p,p',p2⟩
 refine To ?_ (by show 3<=sizeLine;decide);have I2:Inv X pins σ H1 {s1 with heap:=s1.heap.push {cls:=.type "tuple",data:=.seq [u1,u2,u3].toArray}}:=I1.kept (t':=s1.toks) λb o e=>So _ e;rw[hw];refine Sm (Sn ?_);show wpAny (model X.prog X.w) X.A (do rule "assign.swapped-stores";let items <- unpackItems (.ref s1.heap.objs.size) 3 none;assignInOrder [λv=>bindName X.env z v,λv=>bindName X.env y v,λv=>bindName X.env x v] items.reverse;pure Flow.next) _ _ _;refine Sm (UA (Sm (unpackItems_tuple (items:=#[u1,u2,u3]) (I.ok.hd hc) (IsTup.new s1.heap _) λh' hx'=>?_)));have I3:=I2.kept (h':=h') (t':=s1.toks) λb o e=>hx' b o (SI (Sv e)) e;show wpAny _ _ (assignInOrder [λv=>bindName X.env z v,λv=>bindName X.env y v,λv=>bindName X.env x v] [u3,u2,u1] >>= λ_=>pure Flow.next) _ _ _;refine Sm (VD (wpAny_bindName (mw I3 hN hl (.inl hz) rt (λs2 I4=>?_) (.inr hz))));refine VD (wpAny_bindName (mw I4 hN hj (.inl hy) rw' (λs3 I5=>?_) (.inr hy)));refine VD (wpAny_bindName (mw I5 hN hi (.inl hx) rv (λs4 I6=>assignInOrder_nil (Sn ?_)) (.inr hx)));have e:((σ.set l (some t)).set j (some w)).set i (some v)=((σ.set i (some v)).set j (some w)).set l (some t):=by rw[List.set_comm _ _ hjl.symm,List.set_comm _ _ (VC hil),List.set_comm _ _ (VC hij)]
 rw[e]at I6;exact⟨_,H1,I6,q1⟩
end
end L2
namespace Ml
open PySem PySem.Spec L2
section
variable {X:Cx} {E:XK} {ma:MA} {pos:Pos} {x:Str}
theorem ON{y z:Str}{px py pz pt:Pos}{kt k2 pt2}(i j l:Nat)(hN:X.N.Nodup)(ha:DA X E ma [a,b,c])(hc:X.calm=true:=by rfl)(hi:X.N[i]?=some x:=by rfl)(hj:X.N[j]?=some y:=by rfl)(hl:X.N[l]?=some z:=by rfl)(hij:i≠j:=by decide)(hil:i≠l:=by decide)(hjl:j≠l:=by decide)
 (hx:X.env.scope.names.lookup x=some .local:=by rfl)(hy:X.env.scope.names.lookup y=some .local:=by rfl)(hz:X.env.scope.names.lookup z=some .local:=by rfl)
 (hw:swappedStores [.Tuple [.Name x px,.Name y py,.Name z pz] kt pt] (.Tuple [a,b,c] k2 pt2) X.env=pure (some [x,y,z]):=by kernel_rfl)
 (hs:swapsWithSole [.Tuple [.Name x px,.Name y py,.Name z pz] kt pt] (.Tuple [a,b,c] k2 pt2) pos.line X.env=pure false:=by rfl) :
  DS X E (F2 [i,j,l] ma) (.Assign [.Tuple [.Name x px,.Name y py,.Name z pz] kt pt] (.Tuple [a,b,c] k2 pt2) pos):=by
 rw[km]at ha;rw[ko]
 exact PS.imp (Js hc hN hi hj hl hij hil hjl hx hy hz ha hw hs) λC σ H ⟨θ,h,ρ,w,fr,p⟩=>⟨θ,h,ρ,w,fr,(aH.bind p).mono λds θ1 h1 H1 _ _ ⟨ev,w1,p1⟩ vs r=>by
   cases r with
   |nil=>trivial
   |cons r1 rr=>
    cases rr with
    |nil=>trivial
    |cons r2 rr=>
     cases rr with
     |nil=>exact p1.elim
     |cons r3 rr=>
      cases rr with
      |nil=>exact⟨_,_,_,rfl,p1 θ1 H1 Ev.refl w1 _ ((((fr.ev ev).set r1).set r2).set r3)⟩
      |cons=>exact p1.elim⟩
end
end Ml
namespace L2
open PySem PySem.Spec PyProof.Rows
noncomputable def Jt(K:WD)(mg:Wz)(a:Addr)(fs:List (Str×Str)):Prop:=
 ∃(o:Obj) (es:WI) (ep:Nat),K.lookup a=some o/\o.ExactDict/\o.data=.dict es ep/\(es.all λe=>isExactStrKey e.key)=true /\
  ∀k n,fs.lookup k=some n->∃f,mg n=some (.ref f)/\findBy (λk v=>v.isStr k) es k=some (.ref f)
theorem Ju(ho:s.heap.get? a=some o)(x:o.ExactDict)(hd:o.data=.dict es ep)
 (hall:(es.all λe=>isExactStrKey e.key)=true)(hf:findBy (λk v=>v.isStr k) es k=some v)(q:Q v {s with toks:=s.toks+1}):wpAny (model prog w) A (getItem (.ref a) (.str k tk)) Q E s:=by
 have ty:s.TypeIs (.ref a) "dict" := ⟨o,ho,x.1⟩;unfold getItem
 try with_reducible refine Tf ?_
 refine Sm (wpAny_sequenceKey ty (by decide) ?_)
 refine Sm (Ti (name:=Str.ofString "__getitem__") ty slot_dict_getitem
  (Te slot_dict_getitem ty entry_dict_getitem ?_ (args_dict_getitem _ _)))
 show wpAny _ _ (dictGet a (.str k tk) >>= _) _ _ s;refine Sm ?_;unfold dictGet
 try with_reducible refine Tf ?_
 refine Sm (wpAny_pyHash_str (Sm (PyProof.Rows.KTD.kt_dictFind_strs (s:={s with toks:=s.toks+1}) ho hd hall ?_)));rw[findBy_of_findIdx?]at hf
 cases hi:es.findIdx? λe=>e.key.isStr k with
 |none=>rw[hi]at hf;cases hf
 |some i=>rw[hi]at hf;refine Sm (wpAny_dictEntries (s:={s with toks:=s.toks+1}) ho hd (Sn ?_));have hf':Option.map (λx:DictEntry=>x.val) es[i]?=some v:=hf;rw[hf'];exact Sn ⟨v,rfl,Sn q⟩
section
variable {X:Cx} {o i:Expr} {pos:Pos} {td ty:TE}
noncomputable def OO(fs:List (Str×Str))(a:Addr)(mg:Wz)(td ty:TE):TE:=λσ H Q=>td σ H λx H1=>ty σ H1 λy H2=>∃k n,x=.ref a/\y=.str k/\fs.lookup k=some n/\∀f,mg n=some (.ref f)->Q (.ref f) H2
theorem MY(kf:Jt X.K X.mg a fs)(ho:PE X o td)(hi:PE X i ty)(hs:Mf i):PE X (.Subscript o i pos) (OO fs a X.mg td ty):=by intro pins s σ H Q I h;refine IU PySem.F.slot_dict_getitem.lookup hs (bH (ho pins s σ H _ I h) λu s1 ⟨x,H1,I1,rx,q1⟩=>bH (hi pins s1 σ H1 _ I1 q1) λiv s2 ⟨y,H2,I2,ry,k,n,ex,ey,lk,q2⟩=>?_);subst ex;subst ey;obtain rfl:u=Value.ref a:=rx;obtain⟨tk,rfl⟩:∃t,iv=Value.str k t:=ry;obtain⟨ob,es,ep,h1,h2,h3,h4,h5⟩:=kf;obtain⟨f,hf,hk⟩:=h5 k n lk;have g  := I2.vS a ob h1;exact⟨⟨ob,g,h2.1⟩,Ju g h2 h3 h4 hk ⟨.ref f,H2,I2.tok _,rfl,q2 f hf⟩⟩
end
noncomputable def K1(K:WD)(es:WI)(p:Str×Str):Bool:=match findBy (λk v=>v.isStr k) es p.1,PySem.W.nsIn K mainGlobals p.2 with
 |some (.ref f),some (some (.ref g))=>f==g
 |_,_=>false
noncomputable def QQ(K:WD)(a:Addr)(fs:List (Str×Str)):Bool:=match K.lookup a with
 |some ⟨.type "dict",none,.dict es _,sl⟩=>sl.isEmpty&&(es.all λe=>isExactStrKey e.key)&&fs.all (K1 K es)
 |_=>false
theorem lookup_mem{fs:List (Str×Str)}(h:fs.lookup k=some n):(k,n)∈fs:=by
 induction fs with
 |nil=>cases h
 |cons p ps ih=>
  obtain⟨x,y⟩:=p;rw[Uv]at h
  cases q:k==x with
  |true=>rw[q]at h;cases h;rw[eq_of_beq q];exact SK ..
  |false=>rw[q]at h;exact SE _ (ih h)
theorem MZ{K:WD}(G:∀n v,PySem.W.nsIn K mainGlobals n=some (some v)->mg n=some v)(h:QQ K a fs=true):Jt K mg a fs:=by
 unfold QQ at h;split at h
 ·rename_i es ep sl e;simp only[Su]at h;obtain⟨⟨h1,h2⟩,h3⟩:=h;refine⟨_,es,ep,e,⟨rfl,rfl,?_⟩,rfl,h2,λk n hl=>?_⟩
  ·grind
  ·have:=SR.mp h3 _ (lookup_mem hl);unfold K1 at this;split at this
   ·grind
   grind
 grind
end L2
namespace Ml
open PySem PySem.Spec L2
noncomputable def uL(fs:List (Str×Str))(m:ME):ME:=λρ h=>(m ρ h).bind λx h1=>match x with
 |.dat (.str k)=>match fs.lookup k with
  |some n=>.ok (.fn n) h1
  |Option.none=>.bad
 |_=>.bad
section
variable {X:Cx} {E:XK} {m:ME} {e:Expr} {x:Str} {pos p:Pos}
theorem Ds(hm:∃a,X.mg x=some (.ref a)/\Jt X.K X.mg a fs)(he:DE X E m e)(hs:Mf e)(hg:Gl X x:=by rfl)(hd:(x==("__debug__" : Str))=false:=by decide):DE X E (uL fs m) (.Subscript (.Name x p) e pos):=by
 simp only[bF]at *;obtain⟨a,hm,kf⟩:=hm
 exact PE.imp (MY kf (x8 (v:=.ref a) hg hm rfl hd) he hs) λσ H Q ⟨θ,h,ρ,w,fr,q⟩=>by
  refine⟨θ,h,ρ,w,fr,(aH.bind q).mono λd θ1 h1 H1 _ _ ⟨ev,w1,q1⟩ v r=>?_⟩
  cases d with
  |dat z=>
   cases z with
   |str k=>
    cases el:fs.lookup k with
    |none=>simp only[el]at q1;exact q1.elim
    |some n=>simp only[el]at q1;exact⟨k,n,rfl,r.1,el,λf hf=>q1 θ1 H1 Ev.refl w1 _ ⟨f,hf,rfl⟩⟩
   |_=>trivial
  |_=>exact q1.elim
end
noncomputable def kP(i:Nat)(fs:List (Str×Fn))(ma:MA):ME:=λρ h=>match ρ[i]? with
 |some (some (.fn n))=>match fs.lookup n with
  |some F=>ag F ma ρ h
  |Option.none=>.bad
 |_=>.bad
inductive oM (P:WL) (w:World) (K:WD) (mg:Wz) (base:Heap) (k:Nat):List (Str×Fn)->Prop
 |nil:oM P w K mg base k []
 |cons {n:Str} {ps:WE} {F:Fn} {fs:List (Str×Fn)}:bc P w K mg base n ps k F->oM P w K mg base k fs->oM P w K mg base k ((n,F)::fs)
theorem oM.get:∀{fs:List (Str×Fn)} {n:Str} {F:Fn},oM P w K mg base k fs->fs.lookup n=some F->∃ps,bc P w K mg base n ps k F
 |_,n,F,.cons (n:=m) h t,e=>by
  rw[Uv]at e
  cases q:n==m with
  |true=>
   rw[q]at e
   grind
  |false=>rw[q]at e;exact t.get e
section
variable {X:Cx} {E:XK} {x:Str} {k i:Nat} {fs:List (Str×Fn)} {e:Expr} {es:WG} {ma:MA} {p pos:Pos}
theorem GQ(hs:oM X.prog X.w X.K X.mg X.base k fs)(hx:Passes (vT X.prog X.w) X E)(hr:cG k X.A)(ha:DA X E ma (e::es))(hN:X.N[i]?=some x)(hv:Kx X.env.scope x)(hdb:(x==("__debug__" : Str))=false:=by decide)(hcd:(x==("__classdict__" : Str))=false:=by decide)
 (he:starEach (e::es) X.env=(false,eval e X.env)::starEach es X.env:=by rfl)(hpl:(backTo pos (starEach es X.env)).any (·.1)=false:=by rfl):DE X E (kP i fs ma) (.Call (.Name x p) (e::es) [] pos):=by
 simp only[bF,km]at *;intro pins s σ H Q I ⟨θ,h,ρ,w,fr,q⟩;unfold kP at q
 cases e1:ρ[i]? with
 |none=>rw[e1]at q;exact q.elim
 |some o=>
  cases o with
  |none=>rw[e1]at q;exact q.elim
  |some d=>
   rw[e1]at q;obtain⟨v,g1,g2⟩:=fr.2 i d e1
   cases d with
   |fn n=>
    cases el:fs.lookup n with
    |none=>simp only[el]at q;exact q.elim
    |some F=>
     simp only[el]at q;obtain⟨f,hf,rfl⟩:=g2;obtain⟨ps,F'⟩:=hs.get el;obtain⟨f',fd,h1,h2,h3,h4⟩:=F'.has.ex;have ef:f'=f:=by have z:X.mg n=some (.ref f):=hf;rw[h1]at z;cases z;rfl
     subst ef;obtain⟨m,hn,hl⟩:=I.loc;obtain⟨u,r,l⟩:=hl i x _ hN g1 hv;obtain rfl:u=Value.ref f':=r;have fin:wpAny (model X.prog X.w) X.A (callWith pos (.ref f') [] (backTo pos (starEach (e::es) X.env)) (backToKw pos (keywordEach [] X.env))) (EP X pins σ Q) X.xe s:=PySem.W.callWith_K (h₀:=X.base) I.ok.mod.kin h2 (bH (ha pos pins s σ H _ I ⟨θ,h,ρ,w,fr,(aH.bind q).mono λxs θ1 h1 H1 _ _ ⟨ev,w1,p1⟩ vs r=>show(H0 X.G F) (vs++[]) H1 Q E from⟨θ1,h1,xs,w1,by simpa using r,p1⟩⟩) λus s1 ⟨vs,H1,I1,r,q⟩=>⟨I1.vS,Bu h4 hr h3 .nil hx I1 r q⟩) he hpl;rcases l with⟨hk,hm⟩|⟨hk,c,hc,hcell⟩
     ·exact TL (Wg (wpAny_loadName_local I.ok.kind hk hn hm fin) hdb)
     ·rcases hk with hk|hk
      ·exact TL (Wg (wpAny_loadName_cell I.ok.kind hk hc hcell fin) hdb)
      ·exact TL (Wg (wpAny_loadName_free I.ok.kind hk hc hcell fin hcd) hdb)
   |_=>exact q.elim
theorem GR(i:Nat)(hs:oM X.prog X.w X.K X.mg X.base k fs)(hx:Passes (vT X.prog X.w) X E)(hr:cG k X.A)(ha:DA X E ma (e::es))(hN:X.N[i]?=some x:=by rfl)(hv:Kx X.env.scope x:=by first|exact Or.inl rfl|exact Or.inr (Or.inl rfl)|exact Or.inr (Or.inr rfl))(hdb:(x==("__debug__" : Str))=false:=by decide)(hcd:(x==("__classdict__" : Str))=false:=by decide)
 (he:starEach (e::es) X.env=(false,eval e X.env)::starEach es X.env:=by rfl)(hpl:(backTo pos (starEach es X.env)).any (·.1)=false:=by rfl):DE X E (kP i fs ma) (.Call (.Name x p) (e::es) [] pos):=GQ hs hx hr ha hN hv hdb hcd he hpl
end
end Ml
namespace L2
open PySem PySem.Spec PyProof.Rows
theorem Aj(I:Nat->WO->Prop)
 (turn:∀n s,I n s->wpAny (model prog w) A (pyNext it) (λr s1=>match r with
   |none=>R (.ok .next) s1
   |some v=>wpAny (model prog w) A (letOwnedTupleGo target it v) (λ_ s2=>wpAny (model prog w) A (assign target env v) (λ_ s3=>
     wpAny (model prog w) A (forIn ifs true λc r=>if r=true then do let ok <- isTrue c env (eval c env);pure (ForInStep.yield ok)else pure (ForInStep.yield r)) (λok s4=>
      if ok=true then wpAny (model prog w) A (eval kx env) (λx s5=>wpAny (model prog w) A (eval vx env) (λy s6=>
       wpAny (model prog w) A (dictSet D x y) (λ_ s7=>∃m,m<n/\I m s7) (λ_ _=>False) s6) (λ_ _=>False) s5) (λ_ _=>False) s4
      else ∃m,m<n/\I m s4) (λ_ _=>False) s3) (λ_ _=>False) s2) (λ_ _=>False) s1) (λ_ _=>False) s)
 (n:Nat)(h:I n s) :
  codeAny (model prog w) A (.compLoop (.DictComp kx vx [⟨target,iter,ifs,0⟩] scope pos) 0 it (.ref D) env) R s:=by
 refine codeAny_loop rfl I (λn s hI=>?_) n h;show wpAny _ A ((compTurn (.DictComp kx vx [⟨target,iter,ifs,0⟩] scope pos) 0 it (.ref D) env).onRaise (λx=>do noteFrame x env;theTreesLotGoes x)) _ _ s;refine wpAny_noted ?_;rw[compTurn_dict];refine TZ (E:=λ_ _=>False) (E':=_) (Q':=_) ?_ (λ_ _ q=>q) λ_ _ z=>z.elim;refine Sm (Uq (Sm (bH (turn n s hI) (λr s1 h1=>?_))))
 cases r with
 |none=>exact Sn h1
 |some v=>
  refine Sm (bH h1 λ_ s2 h2=>?_);refine Sm (bH h2 λ_ s3 h3=>Sm (bH h3 λok s4 h4=>?_))
  cases ok with
  |false=>exact Sn ⟨rfl,h4⟩
  |true=>exact Sm (Sm (bH h4 λx s5 h5=>Sm (Tf (bH h5 λy s6 h6=>Sm (Uq (Tf (bH h6 λ_ s7 h7=>Sn ⟨rfl,h7⟩)))))))
noncomputable def OP{τ:Type}(P:WL)(w:World)(A:WN)(ok:τ->Obj->Prop)(t:τ)(y z:V)(H:Hp)(N:τ->Hp->Prop):Prop:=
 ∀(Y:Cx) (pins:Ww) (σ:St) (s:WO) (D:Addr) (o:Obj) (u r:Value) (Q:Unit->WO->Prop) (E:Wv),Y.prog=P->Y.w=w->Inv Y pins σ H s->s.heap.get? D=some o->ok t o->RelV y u->RelV z r ->
  (∀(h':Heap) (o':Obj) (tk:Nat) (t':τ),N t' H->h'.get? D=some o'->ok t' o'->Heap.SameBut D s.heap h'->Q () {s with heap:=h',toks:=tk})->wpAny (model P w) A (dictSet D u r) Q E s
noncomputable def BV{τ:Type}(P:WL)(w:World)(A:WN)(ok:τ->Obj->Prop)(t0:τ)(n:Nat)(J:It)(g:TG)(tc:TT)(tk tv:TE)(σ:St)(H:Hp)(Q:VK):Prop:=
 ∃W:Nat->Nat->τ->Hp->Prop,(∃m,W 0 m t0 H)/\∀i m t H,W i m t H ->
  (J.stop i H/\∀p o,H p=none->ok t o->∃ho,(∀H' h,h.get? p=some o->p≠sysModules->cW P w H' h p ho)/\Q (.ref p) (upd H p ho)) \/
  (J.go i H/\∃N:τ->Hp->Prop,(∀t' H',N t' H'->∃m',m'<m/\W (i+1) m' t' H')/\∀x H',J.yld i H x H'->g x (List.replicate n none++σ) H' λσ2 H2=>tc σ2 H2 λb H3=>
   if b=true then tk σ2 H3 λy H4=>tv σ2 H4 λz H5=>OP P w A ok t y z H5 N else N t H3)
theorem Ak{own:WE}{scope:Scope}{pins:Ww}{σ:St}{H2:Hp}{s2:WO}{fp:WB}{it:Addr}{tn:Nat->Heap->Prop}{J:It}{kx vx tg iter:Expr}{ifs:WG}{pos:Pos}{g:TG}{tc:TT}{tk tv:TE}{Q:VK}
 {RR:Value->Addr->Result->WO->Prop}{E:Wv}(I:Inv X pins σ H2 s2)(CS:cP X.env.scope X.N own scope)(hc:X.calm=true)(T:Turn X.prog X.w X.K tg J fp it tn)(st:tn 0 s2.heap)(hf:∀b∈fp,iq X pins H2 b)
 (hg:∀C s2 H2 fp pins,PG (ay X own scope C s2 H2 fp pins) tg g)(ht:∀C s2 H2 fp pins,Es (ay X own scope C s2 H2 fp pins) ifs tc)(hk:∀C s2 H2 fp pins,PE (ay X own scope C s2 H2 fp pins) kx tk)(hv:∀C s2 H2 fp pins,PE (ay X own scope C s2 H2 fp pins) vx tv)
 (ok0:ok t0 {cls:=.type "dict",dict:=none,data:=.dict #[]})(okd:∀t o,ok t o->∃es ep,o.data=.dict es ep)
 (hW:BV X.prog X.w X.A ok t0 own.length J g tc tk tv σ H2 Q)
 (hR:∀D C H' s',Inv X pins σ H' s'->iq X pins H' C->(∃m,s'.heap.Ns C m)->Q (.ref D) H'->Kept X fp H2 H' s2 s'->RR (.ref D) C (.ok .next) s') :
  wpAny (model X.prog X.w) X.A newDict (λacc s3=>wpAny (model X.prog X.w) X.A (newFunctionEnv scope X.env.globals (fe X.env.cells scope.names []) [] X.env.qual none .none (some X.env)) (λcenv s4=>
   codeAny (model X.prog X.w) X.A (.compStart (.DictComp kx vx [⟨tg,iter,ifs,0⟩] scope pos) 0 (.ref it) acc {cenv with scope:=relabel scope X.env}) (RR acc cenv.locals) s4) E s3) E s2:=by
 refine To (jT ?_);dsimp only;generalize hH:s2.heap.push {cls:=.type "dict",dict:=none,data:=.dict #[]}=h3;have hDC:h3.objs.size=s2.heap.objs.size+1:=by rw[<- hH,Tj]
 have eC:({scope:=relabel scope X.env,locals:=h3.objs.size,globals:=X.env.globals,cells:=cellsFrom (h3.objs.size+1) scope.names (fe X.env.cells scope.names []),qual:=X.env.qual,func:=none,code:=X.env.code,frame:=X.env.frame,builtins:=X.env.builtins}:Env)=jS scope h3.objs.size X.env:=rfl;rw[eC];generalize eD:s2.heap.objs.size=D at *;generalize eCC:h3.objs.size=C at *;have hl:∀b∈fp,b<s2.heap.objs.size:=λb hb=>by obtain⟨o,e,_⟩:=T.obj 0 _ st b hb;exact Sv e
 have hC:s2.heap.objs.size<=C:=by omega
 generalize hH4:pushCells (h3.push {cls:=.type "dict",data:=.dict #[]}) scope.names=h4;have k34:∀b o,(h3.push {cls:=.type "dict",data:=.dict #[]}).get? b=some o->h4.get? b=some o:=λb o e=>by rw[<- hH4];exact pushCells_keeps _ _ b o e
 have k24:∀b o,s2.heap.get? b=some o->h4.get? b=some o:=λb o e=>k34 b o (So _ (by rw[<- hH];exact So _ e));have nsC:h4.Ns C λ_=>none:=by have:=Heap.Ns.new h3 (.type "dict");rw[eCC]at this;exact this.keeps k34
 have accD:h4.get? D=some {cls:=.type "dict",dict:=none,data:=.dict #[]}:=k34 _ _ (So _ (by rw[<- hH,<- eD];exact Sy _ rfl));have cellN:∀x c,(x,c)∈cellsFrom (C+1) scope.names []->h4.IsCell c none/\C+1<=c:=λx c hm=>by have ok:=cellsFrom_ok scope.names (h3.push {cls:=.type "dict",data:=.dict #[]}) (C+1) [] ⟨λ_ _ hm=>(nomatch hm),List.Pairwise.nil⟩ (by rw[Tj];omega);rw[Tj,eCC,hH4]at ok;exact ok.empty x c hm
 have hne:H2 D=none:=by rw[<- eD];exact I.hok.fresh (Ss _)
 have ok':(ay X own scope C s2 H2 fp pins).Ok:=ye I CS hC hf hl
 have rebase:∀{σ':St} {H':Hp} {ps:Ww} {s':WO},Inv (ay X own scope C s2 H2 fp pins) ps σ' H' s'->Inv (ay X own scope C s2 H2 fp pins) ps (List.replicate own.length none++σ) H' s':=λ{σ' H' ps s'} J'=>by
  obtain⟨m,hn,_⟩:=J'.loc;refine⟨J'.ok,J'.os,J'.bare,J'.base,⟨m,hn,ke I CS λc v z ⟨x,hx⟩=>?_⟩,J'.cell,J'.free,J'.freeC,J'.pin,J'.hok,?_⟩
  ·obtain⟨o,ho,hd⟩:=z;obtain⟨sl,e⟩:=J'.base.any ho (I.freeC x c hx) λhb=>(hf c hb).2.2.2.2.1 x c hx rfl;exact⟨_,e,hd⟩
  ·show(List.replicate own.length none++σ).length=(own++X.N).length;rw[SN,SN,TX,I.len]
 have start:Inv (ay X own scope C s2 H2 fp pins) [] (List.replicate own.length none++σ) H2 {s2 with heap:=h4}:=by
  have I4:Inv X pins σ H2 {s2 with heap:=h4}:=I.kept (t':=s2.toks) k24;refine⟨ok',rfl,I.bare,Un.kept k24,⟨_,nsC,ke I CS λc v z _=>z.keeps k24⟩,λx c h=>?_,I.hok.fresh hC,λx c h=>?_,λp hp=>?_,I4.hok,?_⟩
  ·rcases bT h with⟨a,_,_⟩|a
   ·exact⟨_,(cellN x c a).1⟩
   ·obtain⟨v,z⟩:=I.cell x c (eK I CS a).2;exact⟨v,z.keeps k24⟩
  ·rcases bT h with⟨_,_,a⟩|a
   ·exact I.hok.fresh (Sw hC (Sw (Uw _) a))
   ·exact I.freeC x c (eK I CS a).2
  ·have hp':p∈X.pn++pins:=by
    rcases SD.mp hp with z|z
    ·exact z
    ·exact nomatch z
   obtain⟨e,n,ne,nf,d⟩:=I.pin p hp';refine⟨k24 _ _ e,n,SI (Sx (Sv e) hC),λz=>?_,d⟩;rcases Sz.mp (I.jR _ z)with q|q
   ·exact ne q
   ·exact nf q
  ·show(List.replicate own.length none++σ).length=(own++X.N).length;rw[SN,SN,TX,I.len]
 obtain⟨W,⟨m0,w0⟩,turn⟩:=hW
 have nfs:∀b,s2.heap.objs.size<=b->b∉(ay X own scope C s2 H2 fp pins).fs:=λb hb z=>by
  rcases Sz.mp (I.jR b z)with q|q
  ·rw[q]at hb;exact absurd (Sx I.lt hb) (SQ _)
  ·exact I.Bj hb q
 have fpD:∀{H':Hp},H' D=none->iq (ay X own scope C s2 H2 fp pins) [] H' D:=λ{H'} hn=>by
  refine⟨hn,SI (by show D<C;omega),nfs D (by omega),.inr (by show s2.heap.objs.size<=D;omega),λx c h z=>?_,λp hp z=>?_⟩
  ·rcases bT h with⟨_,_,a⟩|a
   ·rw[z]at a;exact absurd (Sx (show D<C+1 by omega) a) (SQ _)
   ·obtain⟨v,q⟩:=I.cell x c (eK I CS a).2;have:=q.lt;rw[z,eD]at this;exact SQ _ this
  ·have hp':p∈X.pn++pins:=by
    rcases SD.mp hp with z|z
    ·exact z
    ·exact nomatch z
   have:=Sv (I.pin p hp').1;rw[z,eD]at this;exact SQ _ this
 have nD:D∉fp:=λz=>by have:=hl D z;rw[eD]at this;exact SQ _ this
 have stat:∀{H':Hp} {ps:Ww},(∀p∈ps,p.1=D)->(∀b∈fp,H' b=none)->∀b∈fp,iq (ay X own scope C s2 H2 fp pins) ps H' b:=λ{H' ps} hps hn b hb=>by
  obtain⟨f0,f1,f2,f3,f4,f5⟩:=hf b hb;refine⟨hn b hb,(ok'.exf b hb).1,ok'.exfs b hb,.inl hb,(ok'.exf b hb).2,λp hp=>?_⟩;rcases SD.mp hp with z|z
  ·exact f5 p z
  ·rw[hps p z];exact λq=>nD (q▸hb)
 let LI:Nat->WO->Prop:=λn s'=>∃i t o H',Inv (ay X own scope C s2 H2 fp pins) [] (List.replicate own.length none++σ) H' s'/\tn i s'.heap/\(∀b∈fp,H' b=none)/\H' D=none /\
  s'.heap.get? D=some o/\ok t o/\W i n t H'
 have l0:LI m0 {s2 with heap:=h4}:=⟨0,t0,_,H2,start,T.keep _ _ _ st λb _ o e=>k24 b o e,λb hb=>(hf b hb).1,hne,accD,ok0,w0⟩
 have loop:codeAny (model X.prog X.w) X.A (.compLoop (.DictComp kx vx [⟨tg,iter,ifs,0⟩] scope pos) 0 (.ref it) (.ref D) (jS scope C X.env)) (RR (.ref D) C) {s2 with heap:=h4}:=by
  refine Aj LI ?_ m0 l0;rintro n s3 ⟨i,t,oD,H3,I3,st3,fr3,d3,a3,v3,w3⟩;obtain⟨es0,ep0,dd3⟩:=okd t oD v3;rcases turn i n t H3 w3 with⟨stop,qn⟩|⟨go,NN,hNN,step⟩
  ·have I3p:=I3.pinned (fp:=[D]) (λb hb=>(SO.mp hb)▸fpD d3) λb hb=>⟨_,(SO.mp hb)▸a3,λv z=>(by rw[dd3]at z;cases z)⟩;refine bH (T.done (ay X own scope C s2 H2 fp pins) rfl rfl rfl hc i _ s3 _ H3 _ I3p (stat (λp hp=>by have q:p∈bW [D] s3.heap:=hp;have:=(eT q).1;simpa using this) fr3) st3 stop) λr s4 ⟨hr,I4⟩=>?_;subst hr;have a4:s4.heap.get? D=_:=(I4.pin (D,_) (Sr _ (Sr _ (aX (by simp) a3)))).1;have u4:Un (vR X.stack) fp H2 H3 s2.heap s4.heap:=I4.base;have hsys:D≠sysModules:=by rw[<- eD];exact VC (SI I.big)
   obtain⟨ho,Py,qD⟩:=qn D oD d3 v3
   have okD:mr X.prog X.w (upd H3 D ho) s4.heap:=λb o e=>by
    by_cases hb:b=D
    ·subst hb;rw[bg]at e;cases e;exact Py _ _ a4 hsys
    ·rw[aE hb]at e;exact(I4.hok b o e).sV (λ_ _ _ q=>q) (λc q=>by rw[aE (aI q d3)];exact q) λc xs q=>by rw[aE (aI q d3)];exact q
   have nDo:∀b o,s2.heap.get? b=some o->b≠D:=λb o e=>by rw[<- eD];exact SI (Sv e)
   have uD:Un (vR X.stack) fp H2 (upd H3 D ho) s2.heap s4.heap:=⟨u4.keep,u4.slot,λb o e n hx=>by rw[aE (nDo b o e)];exact u4.free b o e n hx,u4.there,
    λb xs e=>by rw[aE (aI e hne)];exact u4.tups b xs e,λb o xs e=>by rw[aE (aI e hne)];exact u4.frzs b o xs e,λb ps e=>by rw[aE (aI e hne)];exact u4.tbls b ps e⟩
   have kp:Kept X fp H2 (upd H3 D ho) s2 s4:=⟨I4.os,uD,okD,I4.bare⟩;have I5:Inv X pins σ (upd H3 D ho) s4:=kp.inv I hf;obtain⟨m,hn,_⟩:=I4.loc;refine hR D C _ s4 I5 ⟨by rw[aE (show C≠D by omega)];exact I4.free,UH (Sx I.lt hC),I.Bj hC,.inr (Sw I.sz hC),λx c e z=>?_,λp hp z=>?_⟩ ⟨m,hn⟩ qD kp
   ·obtain⟨v,q⟩:=I.cell x c e;exact absurd (Sx q.lt (by rw[z];exact hC)) (SQ _)
   ·exact absurd (Sx (Sv (I.pin p hp).1) (by rw[z];exact hC)) (SQ _)
  ·have I3p:=I3.pinned (fp:=[D]) (λb hb=>(SO.mp hb)▸fpD d3) λb hb=>⟨_,(SO.mp hb)▸a3,λv z=>(by rw[dd3]at z;cases z)⟩;have onlyD:∀p∈([]++bW [D] s3.heap),p.1=D:=λp hp=>by have q:p∈bW [D] s3.heap:=hp;have:=(eT q).1;simpa using this
   refine bH (T.item (ay X own scope C s2 H2 fp pins) rfl rfl rfl hc i _ s3 _ H3 _ I3p (stat onlyD fr3) st3 go) λr s4 ⟨u,hr,h4'⟩=>?_;subst hr;refine bH h4' λ_ s5 ⟨x,H5,I5,r5,y5,st5,fr5⟩=>?_;have I5p:=I5.pinned (fp:=fp) (stat onlyD fr5) (T.obj _ _ st5)
   have cont:∀{s6:WO} {σ6:St} {H6:Hp},Inv (ay X own scope C s2 H2 fp pins) (([]++bW [D] s3.heap)++bW fp s5.heap) σ6 H6 s6 ->
     Inv (ay X own scope C s2 H2 fp pins) [] (List.replicate own.length none++σ) H6 s6/\tn (i+1) s6.heap/\(∀b∈fp,H6 b=none)/\H6 D=none/\s6.heap.get? D=some oD:=λ{s6 σ6 H6} I6=>by
    have pD:=I6.pin (D,_) (Sr _ (S7 _ (Sr _ (aX (by simp) a3))));refine⟨rebase (I6.iH λp hp=>nomatch hp),T.keep _ _ _ st5 λb hb o e=>(I6.pin (b,o) (Sr _ (Sr _ (aX hb e)))).1,λb hb=>?_,pD.2.1,pD.1⟩;obtain⟨o,e,_⟩:=T.obj _ _ st5 b hb;exact(I6.pin (b,o) (Sr _ (Sr _ (aX hb e)))).2.1
   refine bH (hg C s2 H2 fp pins _ s5 _ H5 x u _ I5p r5 (step x H5 y5)) λ_ s6 ⟨σ6,H6,I6,q6⟩=>?_;refine bH (ht C s2 H2 fp pins _ s6 σ6 H6 _ I6 q6) λb s7 ⟨H7,I7,q7⟩=>?_
   cases b with
   |false=>have q7':NN t H7:=q7;obtain⟨m',hm,w7⟩:=hNN _ _ q7';obtain⟨c1,c2,c3,c4,c5⟩:=cont I7;exact⟨m',hm,i+1,t,oD,H7,c1,c2,c3,c4,c5,v3,w7⟩
   |true=>refine bH (hk C s2 H2 fp pins _ s7 σ6 H7 _ I7 q7) λkv s8 ⟨y,H8,I8,r8,q8⟩=>?_;refine bH (hv C s2 H2 fp pins _ s8 σ6 H8 _ I8 q8) λvv s9 ⟨z,H9,I9,r9,q9⟩=>?_;obtain⟨c1,c2,c3,c4,c5⟩:=cont I9;refine q9 (ay X own scope C s2 H2 fp pins) _ _ s9 D oD kv vv _ _ rfl rfl I9 c5 v3 r8 r9 λh' o' tk t' n' g' ok' sb=>?_;obtain⟨m',hm,w9⟩:=hNN _ _ n';obtain⟨f0,f1,f2,f3,f4,f5⟩:=fpD c4;exact⟨m',hm,i+1,t',o',H9,c1.turned (t':=tk) (λb o hb e=>(sb.2 b hb).trans e) f0 f1 f3 f4 f5,T.keep _ _ _ c2 λb hb o e=>(sb.2 b λz=>nD (z▸hb)).trans e,c3,c4,g',ok',w9⟩
 exact codeAny_compStart_dict loop (T.self X.A 0 {s2 with heap:=h4} _ _ (T.keep _ _ _ st λb _ o e=>k24 b o e) loop)
section
variable {X:Cx} {own:WE} {scope:Scope} {kx vx tg iter:Expr} {τ:Type} {ok:τ->Obj->Prop} {t0:τ} {ifs:WG} {pos:Pos} {wi:TI} {g:TG} {tc:TT} {tk tv:TE}
noncomputable def GS{τ:Type}(P:WL)(w:World)(A:WN)(ok:τ->Obj->Prop)(t0:τ)(n:Nat)(wi:TI)(g:TG)(tc:TT)(tk tv:TE):TE:=λσ H Q=>wi σ H λJ H1=>BV P w A ok t0 n J g tc tk tv σ H1 Q
theorem Al(own:WE)(CS:fw X.env.scope X.N own scope=true)(hc:X.calm=true)(hi:PI X tg iter wi)(hg:∀C s2 H2 fp pins,PG (ay X own scope C s2 H2 fp pins) tg g)
 (ht:∀C s2 H2 fp pins,Es (ay X own scope C s2 H2 fp pins) ifs tc)(hk:∀C s2 H2 fp pins,PE (ay X own scope C s2 H2 fp pins) kx tk)(hv:∀C s2 H2 fp pins,PE (ay X own scope C s2 H2 fp pins) vx tv)
 (ok0:ok t0 {cls:=.type "dict",dict:=none,data:=.dict #[]})(okd:∀t o,ok t o->∃es ep,o.data=.dict es ep)(hs:∀x,foldedSetIterable iter X.env x=pure x:=by intro _;rfl) :
  PE X (.DictComp kx vx [⟨tg,iter,ifs,0⟩] scope pos) (GS X.prog X.w X.A ok t0 own.length wi g tc tk tv):=by
 intro pins s σ H Q I h;have CS:=cP.of CS;refine UU rfl hs (gO λn hn=>I.ok.has n (CS.frees n hn)) CS.kind (kF CS) (bH (hi pins s σ H _ I h) λv s1 h1=>bH h1 λitv s2 h2=>?_);obtain⟨it,fp,tn,J,H2,e,I2,T,st2,f2,hW⟩:=h2;subst e;refine Ak I2 CS hc T st2 f2 hg ht hk hv ok0 okd hW λD C H' s' I' fC ⟨m,hn⟩ q _=>?_;refine⟨m,hn,λh' hs'=>⟨.ref D,H',?_,rfl,q⟩⟩;obtain⟨f0,f1,_,f3,f4,f5⟩:=fC;exact I'.turned (λb o hb e=>(hs'.2 b hb).trans e) f0 f1 f3 f4 f5
end
end L2
namespace Ml
open PySem PySem.Spec L2
noncomputable def gh(tb:Bool)(n:Nat)(ρ:Fm)(g:MG)(c:MT)(k v:ME):List D->Wx->Hm->R Wx
 | [],acc,h=>.ok acc h
 |x::xs,acc,h=>(g x (List.replicate n none++ρ) h).ud.bind λρ1 h1=>(c ρ1 h1).ud.bind λb h2=>
  if b then(k ρ1 h2).ud.bind λy h3=>(v ρ1 h3).ud.bind λz h4=>match y,z with
   |.dat kd,.dat vd=>if keyOk tb kd&&(tb || nZ vd)&&decide (acc.length<16777216)then gh tb n ρ g c k v xs (dput acc kd vd) h4 else .bad
   |_,_=>.bad
  else gh tb n ρ g c k v xs acc h2
noncomputable def qV(tb:Bool)(n:Nat)(it:MA)(g:MG)(c:MT)(k v:ME):ME:=λρ h=>(it ρ h).bind λxs h1=>(gh tb n ρ g c k v xs [] h1).bind λkvs h2=>R.ok (D.jt tb kvs) h2
structure Jv(G:Gx)(A:WN){τ:Type}(tb:Bool)(ok:τ->Obj->Prop)(t0:τ)(Rl:Wx->τ->WB->Hp->Prop):Prop where
 ok0:ok t0 {cls:=.type "dict",dict:=none,data:=.dict #[]}
 okd:∀t o,ok t o->∃es ep,o.data=.dict es ep
 nil:∀θ H,Rl [] t0 θ H
 ev:∀{acc t θ H θ' H'},Ev θ H θ' H'->Rl acc t θ H->Rl acc t θ' H'
 put:∀{acc t θ h H kd vd y z} {N:τ->Hp->Prop},W G θ h H->cj G θ H (.dat kd) y->cj G θ H (.dat vd) z->Rl acc t θ H->keyOk tb kd=true->(tb || nZ vd)=true->acc.length<16777216 ->
  (∀t',Rl (dput acc kd vd) t' θ H->N t' H)->OP G.P G.w A ok t y z H N
 fin:∀{acc t θ h H p o},W G θ h H->Rl acc t θ H->H p=none->ok t o->∃ho,(∀H' h,h.get? p=some o->p≠sysModules->cW G.P G.w H' h p ho)/\gC G.P G.w (view θ H) (upd H p ho) p tb acc
noncomputable def Sd(P:WL)(w:World)(ks:List (Key×V))(o:Obj):Prop:=ks.length<=sizeLine/\(∃es ep,o.data=.dict es ep)/\∃vs,L2.KV ks vs/\∀(h:Heap) (a:Addr),h.get? a=some o->h.DictOf (bV P w) a vs
theorem Jw:Jv G A false (Sd G.P G.w) [] λacc ks _ _=>aY ks=some acc/\∀p∈acc,dQ p.1=true/\dQ p.2=true where
 ok0:=⟨Ug _,⟨_,_,rfl⟩,[],.nil,λh a e=>V7.mpr ⟨_,e,(V7.mp (Heap.DictOf.new (knd:=bV G.P G.w) h)).elim λo ⟨e1,r⟩=>by
  have e2:(h.push {cls:=.type "dict",data:=.dict #[]}).get? h.objs.size=some {cls:=.type "dict",data:=.dict #[]}:=Sy _ rfl
  grind⟩⟩
 okd:=λt o h=>h.2.1
 nil:=λθ H=>⟨rfl,λp hp=>nomatch hp⟩
 ev:=λ_ h=>h
 put:=λ{acc t θ h H kd vd y z N} w r1 r2 rl hk hf hl hN=>by
  intro Y pins σ s D o u r Q E eP ew I gD ⟨lt,_,vs,kv,dd⟩ ry rz cont;obtain⟨q,rfl⟩:∃q,kd=.str q:=by simp only[keyOk,SF,Tz]at hk;cases kd<;>first|exact⟨_,rfl⟩|simp[iw]at hk
  have fd:nZ vd=true:=by simpa using hf
  have hv:=uI fd r2.1;obtain⟨e2,s2⟩:=eG r1;subst e2
  have so:∀p∈dput acc (.str q) vd,dQ p.1=true/\dQ p.2=true:=λp hp=>by
   unfold dput at hp;split at hp
   ·obtain⟨p0,hp0,e0⟩:=SU.mp hp;split at e0
    ·subst e0;exact⟨(rl.2 p0 hp0).1,r2.2⟩
    ·subst e0;exact rl.2 p0 hp0
   ·rcases SD.mp hp with hp|hp
    ·exact rl.2 p hp
    ·simp at hp;subst hp;exact⟨by simpa [dQ]using s2,r2.2⟩
  have hz:vs.length<=sizeLine:=by rw[<- kv.length];exact lt
  refine wpAny_dictSet_pairs (knd:=bV G.P G.w) (hsz:=hz) (rP (k:=Sum.inr q) ry) (dd _ _ gD) λh' dd' hs=>?_;obtain⟨o',g',rest⟩:=V7.mp dd';refine cont h' o' _ (putK t (Sum.inr q) z) (hN _ ⟨oG hv rl.1,so⟩) g' ⟨?_,?_,stored vs (Sum.inr q) r,kv.put (Sum.inr q) rz,λh2 a e2=>V7.mpr ⟨o',e2,rest⟩⟩ hs
  ·have:=jv t (Sum.inr q) z;rw[kM rl.1,UY]at *;omega
  ·obtain⟨o2,es,ep,g1,g2,g3,_⟩:=dd';rw[g']at g1;cases g1;exact⟨es,ep,g3⟩
 fin:=λ{acc t θ h H p o} w rl hp ⟨lt,_,vs,kv,dd⟩=>⟨.dK t,λH' h2 e ne=>yi lt (Vt.mpr ne) kv (dd _ _ e),.inl ⟨rfl,t,bg,rl.1,rl.2⟩⟩
noncomputable def Se(P:WL)(w:World)(xs:List (PyData×Addr×Value))(o:Obj):Prop:=xs.length<=sizeLine/\∃es ep,o.ExactDict/\o.data=.dict es ep/\es.toList=xs.map (entryOfKey (fz P w))/\(xs.map (·.1)).Nodup
theorem M0(hA:A.units+20<cLine):Jv G A true (Se G.P G.w) [] λacc xs θ H=>Paired (pG (view θ H)) acc xs where
 ok0:=⟨Ug _,_,_,⟨rfl,rfl,rfl⟩,rfl,rfl,List.nodup_nil⟩
 okd:=λt o ⟨_,es,ep,_,h,_⟩=>⟨es,ep,h⟩
 nil:=λθ H=>.nil
 ev:=λe h=>Paired.kD h λ_ _=>pG.same e.same
 put:=λ{acc t θ h H kd vd y z N} w r1 r2 rl hk hf hl hN=>by
  intro Y pins σ s D o u r Q E eP ew I gD ⟨lt,es,ep,g2,g3,g4,g5⟩ ry rz cont;simp only[keyOk,Tg,Su,Td]at hk
  obtain⟨b,vs,rfl,hb⟩:∃b vs,y=.ref b/\view θ H b=some (.tup vs):=by
   cases kd with
   |tuple ds=>obtain⟨b,vs,e,hb,_⟩:=r1.1;exact⟨b,vs,e,hb⟩
   |_=>simp[iu]at hk
  cases ry;have dd:s.heap.DictOfH (fz G.P G.w) D t:=⟨o,es,ep,gD,g2,g3,g4,yG I (aC θ H) rl,g5⟩;have kr:=zZ (b:=b) (u:=r) hk.1.2 hk.2 r1.2 r1.1 rz r2.1 r2.2 rl;refine wpAny_dictSet_heap (knd:=fz G.P G.w) (hsz:=lt) hA (Dr I (aC θ H) hk.1.2 hk.2 r1.2 r1.1) dd λh' dd' hs=>?_;obtain⟨o',es',ep',k1,k2,k3,k4,_,k5⟩:=dd';refine cont h' o' _ (storedH t kd b r) (hN _ kr) k1 ⟨?_,es',ep',k2,k3,k4,k5⟩ hs;rw[<- show(dput acc kd vd).length=_ from SW kr];have:=Aa acc kd vd
  grind[PySem.sizeLine_eq]
 fin:=λ{acc t θ h H p o} w rl hp ⟨lt,es,ep,g2,g3,g4,g5⟩=>⟨dO G.P G.w t p,λH' h2 e ne=>KU lt (Vt.mpr ne) e g2 g3 g4 g5,.inr ⟨rfl,t,bg,rl⟩⟩
section
variable {X:Cx} {E:XK} {mk mv:ME} {t:MT} {e tg kx vx:Expr} {ifs:WG} {it:MA} {pos:Pos} {i:Nat} {x:Str} {g:MG} {own:WE} {scope:Scope} {tb:Bool} {k:Nat}
theorem BW(AR:Jv G A tb ok t0 Rl){F:XP}{n:Nat}{θ1:WB}{H1:Hp}{h1:Hm}{xs:List D}{J:It}{σ:L2.St}{ρ:Fm}{Q:VK}(hJ:pJ G θ1 H1 xs J)(w1:W G θ1 h1 H1)(fr:Fr G θ1 H1 ρ σ)
 (p1:aH G F θ1 H1 ((gh tb n ρ g t mk mv xs [] h1).bind λkvs h2=>R.ok (D.jt tb kvs) h2) (Ml.KV G Q)) :
  BV G.P G.w A ok t0 n J (lG G gz g) (lT G gz t) (lE G gz mk) (lE G gz mv) σ H1 Q:=by
 refine⟨λi m' a H=>m'=xs.length-i/\i<=xs.length/\∃θ' h' acc,Ev θ1 H1 θ' H/\W G θ' h' H/\Rl acc a θ' H/\aH G F θ' H ((gh tb n ρ g t mk mv (xs.drop i) acc h').bind λkvs h2=>R.ok (D.jt tb kvs) h2) (Ml.KV G Q),
  ⟨xs.length,by simp,Ug _,θ1,h1,[],Ev.refl,w1,AR.nil _ _,p1⟩,?_⟩
 rintro i m' a H ⟨rfl,hi,θ',h',acc,ev,w,ra,p⟩;obtain⟨j1,j2⟩:=hJ θ' h' H ev w;by_cases hlt:i<xs.length
 ·have ed:xs.drop i=xs[i]::xs.drop (i+1):=TR hlt;rw[ed]at p;obtain⟨g1,g2⟩:=j1 i xs[i] (SH hlt);refine .inr ⟨g1,λa2 H2=>i+1<=xs.length/\∃θ' h' acc,Ev θ1 H1 θ' H2/\W G θ' h' H2/\Rl acc a2 θ' H2/\aH G F θ' H2 ((gh tb n ρ g t mk mv (xs.drop (i+1)) acc h').bind λkvs h2=>R.ok (D.jt tb kvs) h2) (Ml.KV G Q),λys' H' q=>⟨xs.length-(i+1),by omega,rfl,q⟩,λx H2 y=>?_⟩;obtain⟨e2,w2,r2⟩:=g2 x H2 y;have p2:=p.later e2;unfold gh at p2;simp only[R.bind_assoc]at p2;refine⟨θ',h',_,xs[i],w2,((fr.ev ev).ev e2).replicate n,r2,(aH.dB p2).mono λρ3 θ3 h3 H3 _ _ ⟨e3,w3,p3⟩ σ3 fr3=>⟨θ3,h3,ρ3,w3,fr3,(aH.dB p3).mono λc θ4 h4 H4 _ _ ⟨e4,w4,p4⟩=>?_⟩⟩;have ev4:=(ev.trans e2).trans (e3.trans e4);have ra4:=AR.ev (e2.trans (e3.trans e4)) ra
  cases c with
  |false=>exact⟨hlt,θ4,h4,acc,ev4,w4,ra4,p4⟩
  |true=>
   simp only[Tg,R.bind_assoc]at p4;refine⟨θ4,h4,ρ3,w4,fr3.ev e4,(aH.dB p4).mono λy θ5 h5 H5 _ _ ⟨e5,w5,p5⟩ v5 r5=>⟨θ5,h5,ρ3,w5,(fr3.ev e4).ev e5,(aH.dB p5).mono λz θ6 h6 H6 _ _ ⟨e6,w6,p6⟩ v6 r6=>?_⟩⟩;have ra6:=AR.ev (e5.trans e6) ra4;have r5':=cj.ev e6 r5
   cases y with
   |dat kd=>
    cases z with
    |dat vd=>
     simp only at p6;split at p6
     ·rename_i hc;simp only[Su,Td]at hc;exact AR.put w6 r5' r6 ra6 hc.1.1 hc.1.2 hc.2 λt' rt=>⟨hlt,θ6,h6,_,ev4.trans (e5.trans e6),w6,rt,p6⟩
     ·exact p6.elim
    |_=>exact p6.elim
   |_=>exact p6.elim
 ·have hx:i=xs.length:=by omega
  subst hx;rw[T5 (Ss _)]at p;simp only[gh,R.aJ]at p;refine .inl ⟨j2,λq o hq hok=>?_⟩;obtain⟨ho,h1,h2⟩:=AR.fin w ra hq hok;obtain⟨e3,w3,g3⟩:=w.put (o:=ho) hq;refine⟨ho,h1,p _ _ e3 w3 _ ⟨q,rfl,h2.same e3.same λo' e'=>?_⟩⟩;rw[bg]at e';rw[g3];exact e'
theorem Am(AR:Jv G A tb ok t0 Rl){n:Nat}{σ:L2.St}{H:Hp}{Q:VK}(h:lE G E (qV tb n it g t mk mv) σ H Q) :
  GS G.P G.w A ok t0 n (lI G E it) (lG G gz g) (lT G gz t) (lE G gz mk) (lE G gz mv) σ H Q:=by
 obtain⟨θ,h,ρ,w,fr,p⟩:=h;exact⟨θ,h,ρ,w,fr,(aH.bind p).mono λxs θ1 h1 H1 _ _ ⟨ev,w1,p1⟩ J hJ=>BW AR hJ w1 (fr.ev ev) p1⟩
theorem An(own:WE)(tb:Bool)(hr:cG k X.A)(CS:fw X.env.scope X.N own scope=true)(hc:X.calm=true)(hi:DI X E it tg e)(hg:∀C s2 H2 fp pins,DG (ay X own scope C s2 H2 fp pins) gz g tg)
 (ht:∀C s2 H2 fp pins,Je (ay X own scope C s2 H2 fp pins) gz t ifs)(hk:∀C s2 H2 fp pins,DE (ay X own scope C s2 H2 fp pins) gz mk kx)(hv:∀C s2 H2 fp pins,DE (ay X own scope C s2 H2 fp pins) gz mv vx)(hs:∀x,foldedSetIterable e X.env x=pure x:=by intro _;rfl) :
  DE X E (qV tb own.length it g t mk mv) (.DictComp kx vx [⟨tg,e,ifs,0⟩] scope pos):=by
 simp[bF,n5,lU,qP]at *
 cases tb with
 |false=>exact PE.imp (Al own CS hc hi hg ht hk hv (Jw (A:=X.A)).ok0 (Jw (A:=X.A)).okd hs) λσ H Q q=>Am Jw q
 |true=>
  have hu:X.A.units+20<cLine:=by have:=hr.units;omega
  exact PE.imp (Al own CS hc hi hg ht hk hv (M0 hu).ok0 (M0 hu).okd hs) λσ H Q q=>Am (M0 hu) q
end
end Ml
namespace Ml
open PySem
noncomputable def oN:List (Str×Str):=[("grounded", "idle_for_grounded"),("preferred", "idle_for_standing"),("stable", "idle_for_stable"),("standing", "idle_for_standing"),("whole", "idle_for_whole")]
noncomputable def GU:MS:=bj (hG (ag dP (aa (ae 0) ah)))
    (bj (hG (ag iN (aa (ae 1) ah)))
    (bj (bU 2 (uL oN (ae 1)))
    (bj (mG (i7 (bP (aq 3) (bP (aq 4) iI))) (ae 0))
    (bj (bU 5 (qV true 1 (aN (ae 4)) (aq 0) cX (ae 0) (aj (.bool true))))
    (bj (bU 6 (bZ 2 (aN (ae 4)) (i7 (bP (aq 0) (bP (aq 1) iI))) (vU (aO (ai oEq (ae 0) (ae 1))) (i6 (cy (kP 4 [("idle_for_grounded",bJ),("idle_for_standing",bC),("idle_for_stable",b0),("idle_for_whole",cz)] (aa (ae 7) (aa (ae 0) (aa (ae 1) ah))))))) (br (aa (ae 0) (aa (ae 1) ah)))))
    (cC (br (aa (ae 3) (aa (ag dH (aa (ae 6) ah)) ah)))))))))
noncomputable def pT:Fn:=bu 2 7 GU
noncomputable def EM:MS:=bj (mG (i7 (bP (aq 2) (bP (aq 3) iI))) (ag pT (aa (ae 0) (aa (ae 1) ah))))
    (bj (bU 4 (uL oN (ae 1)))
    (bj (bU 5 (qV true 1 (aN (ae 3)) (aq 0) cX (ae 0) (aj (.bool true))))
    (bj (bU 6 (yM 2 (aN (ae 2)) (aq 0) cX (aN (ae 4)) (aq 1) (vU (aO (ai qz (br (aa (ae 0) (aa (ae 1) ah))) (ae 7))) (o3 (aO (ai kI (ae 0) (ae 1))) (cy (kP 6 [("idle_for_grounded",bJ),("idle_for_standing",bC),("idle_for_stable",b0),("idle_for_whole",cz)] (aa (ae 7) (aa (ae 0) (aa (ae 1) ah))))))) (br (aa (ae 0) (aa (ae 1) ah)))))
    (cC (br (aa (ae 2) (aa (ag dH (aa (ae 6) ah)) ah)))))))
noncomputable def qW:Fn:=bu 2 7 EM
noncomputable def lW:MS:=nY (i6 (cy (ag dy (aa (ae 1) (aa (ai cn (ae 0) (aj (.int 0))) ah))))) BQ dz
noncomputable def fK:Fn:=bu 2 2 lW
noncomputable def GV:MS:=cC (br (aa (ai cn (ae 0) (aj (.int 0))) (aa (ag dH (aa (tG Ai (ai cn (ae 0) (aj (.int 1))) (ae 1)) ah)) ah)))
noncomputable def uM:Fn:=bu 2 2 GV
noncomputable def EN:MS:=bj (hG (ag dP (aa (ae 0) ah)))
    (bj (hG (ag fK (aa (ae 0) (aa (ae 1) ah))))
    (cC (ag uM (aa (ae 0) (aa (ae 1) ah)))))
noncomputable def iX:Fn:=bu 2 2 EN
noncomputable def yO:MS:=bj (hG (ag iO (aa (ae 0) (aa (ae 1) (aa (ae 2) ah)))))
    (bj (bU 3 (ai cn (ag pT (aa (ae 1) (aa (ae 2) ah))) (aj (.int 1))))
    (bj (bU 4 (ai cn (ag qW (aa (ae 1) (aa (ae 2) ah))) (aj (.int 1))))
    (bj (bU 5 (bZ 1 (aN (ae 3)) (aq 0) (aO (ai kj (ae 0) (ai cn (ae 1) (aj (.int 1))))) (ae 0)))
    (bj (bU 6 (bZ 1 (aN (ai cn (ae 0) (aj (.int 1)))) (aq 0) (aO (ai kj (ae 0) (ae 5))) (ae 0)))
    (cC (ag dH (aa (ag cE (aa (ai dA (ae 5) (ae 6)) ah)) ah)))))))
noncomputable def df:Fn:=bu 3 7 yO
noncomputable def su:MS:=bj (nY (aO (ai oLt (ae 1) (ag gb (aa (ae 0) ah)))) (cC (ai cn (ae 0) (ae 1))) dz)
    (cC (aj (.int 0)))
noncomputable def fT:Fn:=bu 2 2 su
noncomputable def uN:MS:=bj (bU 1 (ag ED (aa (ae 0) (aa (ai F5 (aj (.int 0)) (ae 0)) ah))))
    (cC (ue (aa (ae 1) (aa (ag ui (aa (ai OA (ae 1) (aj (.int (10^18)))) ah)) ah))))
noncomputable def jg:Fn:=bu 1 2 uN
noncomputable def mN:MS:=bj (nY (aO (ai oEq (ai cn (ae 0) (aj (.int 1))) (aj (.int 1)))) (bj (mG (i7 (bP (aq 2) (bP (aq 3) iI))) (ag ph (aa (ai cn (ae 0) (aj (.int 0))) (aa (ae 1) ah))))
    (bj (mG (zz (ae 0) (aj (.int 0))) (ae 2))
    (cC (ae 3)))) dz)
    (bj (bU 4 (ai oMod (ai pb (ai dA (ai oMod (ai cn (ae 0) (aj (.int 0))) (aj (.int 2147483647))) (aj (.int 40503))) (aj (.int 69621))) (aj (.int 2147483629))))
    (bj (bU 4 (ai oMod (ai dA (ai pb (ae 4) (ae 4)) (aj (.int 7817))) (aj (.int 2147483587))))
    (bj (mG (zz (ae 0) (aj (.int 0))) (ai oMod (ai dA (ai pb (ae 4) (aj (.int 48271))) (aj (.int 11))) (aj (.int 2147483629))))
    (cC (ai oMod (ai xf (ai cn (ae 0) (aj (.int 0))) (aj (.int 32))) (ae 1))))))
noncomputable def aF:Fn:=bu 2 5 mN
noncomputable def pU:MS:=bj (bU 2 (ue (aa (aj (.str "a")) (aa (aj (.str "aa")) (aa (aj (.str "ab")) (aa (aj (.str "abcdef")) (aa (aj (.str "b")) (aa (aj (.str "c")) (aa (aj (.str "d")) (aa (aj (.str "e")) (aa (aj (.str "m")) (aa (aj (.str "x")) (aa (aj (.str "zz")) (aa (aj (.str "zzzzzz")) ah))))))))))))))
    (cC (ag dH (aa (ag cE (aa (bZ 1 (rQ (aa (ag aF (aa (ae 0) (aa (ai dA (ae 1) (aj (.int 1))) ah))) ah)) (aq 0) cX (mq qK (ae 3) (ag aF (aa (ae 1) (aa (ag gb (aa (ae 3) ah)) ah))))) ah)) ah)))
noncomputable def kQ:Fn:=bu 2 3 pU
noncomputable def kR:Fn:=f7 kQ
noncomputable def BX:MS:=bj (mG (i7 (bP (aq 2) (bP (aq 3) (bP (aq 4) iI)))) (br (aa (ag kR (aa (ae 0) (aa (ae 1) ah))) (aa (ai cn (aj (.list [.int 1,.int 2,.int 3,.int 5])) (ag aF (aa (ae 0) (aa (aj (.int 4)) ah)))) (aa (aj (.list [])) ah)))))
    (bj (nQ (aN (ae 2)) (aq 5) (bU 4 (ai dA (ae 4) (bZ 1 (aN (ae 2)) (aq 0) (aO (ai oLt (ag aF (aa (ae 1) (aa (aj (.int 8)) ah))) (ae 4))) (br (aa (ae 6) (aa (ae 0) ah)))))))
    (cC (br (aa (ae 2) (aa (ag dH (aa (ae 4) ah)) ah)))))
noncomputable def oO:Fn:=bu 2 6 BX
noncomputable def Ao:MS:=bj (bU 1 (aj (.list [.tuple []])))
    (bj (nQ (aN (ae 0)) (aq 2) (bU 1 (ai dA (ae 1) (bZ 1 (aN (ae 1)) (aq 0) cX (ai dA (ae 0) (br (aa (ae 3) ah)))))))
    (cC (ae 1)))
noncomputable def mO:Fn:=bu 1 3 Ao
noncomputable def nS:MS:=cC (aj (.list [.str "stable",.str "standing",.str "preferred",.str "whole",.str "grounded"]))
noncomputable def dC:Fn:=bu 0 0 nS
end Ml
namespace L2
open PySem PySem.Spec
theorem Inv.adopt{σ:St}(I:Inv X pins σ H s)(f:iq X pins H D)(new:cW X.prog X.w (upd H D o) s.heap D o):Inv X pins σ (upd H D o) s:=by
 obtain⟨f0,f1,f2,f3,f4,f5⟩:=f;have u:=I.base;refine⟨I.ok,I.os,I.bare,⟨u.keep,u.slot,λb ob e n hx=>?_,u.there,λb xs e=>?_,λb ob xs e=>?_,λb ps e=>?_⟩,I.loc,I.cell,by rw[aE (VC f1)];exact I.free,λx c e=>by rw[aE (f4 x c e)];exact I.freeC x c e,λp hp=>?_,λb ob e=>?_,I.len⟩
 ·rw[aE]
  ·exact u.free b ob e n hx
  ·rintro rfl;rcases f3 with z|z
   ·grind
   ·exact absurd (Sx (Sv e) z) (SQ _)
 ·have:=u.tups b xs e;rw[aE (aI this f0)];grind
 ·have:=u.frzs b ob xs e;rw[aE (aI this f0)];exact this
 ·obtain⟨more,this⟩:=u.tbls b ps e;exact⟨more,by rw[aE (aI this f0)];exact this⟩
 ·obtain⟨h1,h2,h3⟩:=I.pin p hp;exact⟨h1,by rw[aE (f5 p hp)];exact h2,h3⟩
 ·by_cases hb:b=D
  ·subst hb;rw[bg]at e;cases e;exact new
  ·rw[aE hb]at e;exact(I.hok b ob e).sV (λ_ _ _ q=>q) (λc q=>by rw[aE (aI q f0)];exact q) λc xs q=>by rw[aE (aI q f0)];exact q
end L2
namespace Ml
open PySem PySem.Spec L2
noncomputable def kS:List (Str×ME)->Fm->Hm->R Wx
 | [],_,h=>.ok [] h
 | (k,e)::r,ρ,h=>(e ρ h).bind λy h1=>match y with
  |.dat d=>if nZ d then(kS r ρ h1).bind λkvs h2=>.ok ((.str k,d)::kvs) h2 else .bad
  |_=>.bad
noncomputable def Ap(acc kvs:Wx):Wx:=kvs.foldl (λacc kv=>dput acc kv.1 kv.2) acc
noncomputable def GW(kes:List (Str×ME)):ME:=λρ h=>(kS kes ρ h).bind λkvs h1=>.ok (.jt false (Ap [] kvs)) h1
noncomputable def Dt(kvs:Wx)(ks:List (Key×V)):Prop:=aY ks=some kvs/\∀p∈kvs,dQ p.1=true/\dQ p.2=true
noncomputable def RI(G:Gx)(E:XK)(kes:List (Str×ME))(σ:L2.St)(H:Hp)(Q:List (Key×V)->Hp->Prop):Prop:=
 ∃θ h ρ,W G θ h H/\Fr G θ H ρ σ/\aH G (nR G E) θ H (kS kes ρ h) (λkvs _ _ H'=>∀ks,Dt kvs ks->Q ks H')
@[irreducible] noncomputable def NM(X:Cx)(E:XK)(kes:List (Str×ME))(pos:Pos)(keys:List (Option Expr))(values:WG):Prop:=
 ∀(pins:Ww) (s:WO) (σ:L2.St) (H:Hp) (Q:List (Key×V)->Hp->Prop),Inv X pins σ H s->RI X.G E kes σ H Q ->
  wpAny (model X.prog X.w) X.A (evalPairs (pairTrees keys values X.env pos)) (λvs s'=>∃ks H',Inv X pins σ H' s'/\VV (ks.map λkv=>(kV kv.1,kv.2)) vs/\Q ks H') X.xe s
theorem BY(X:Cx)(E:XK)(kes:List (Str×ME))(pos:Pos)(keys:List (Option Expr))(values:WG):NM X E kes pos keys values =
 ∀(pins:Ww) (s:WO) (σ:L2.St) (H:Hp) (Q:List (Key×V)->Hp->Prop),Inv X pins σ H s->RI X.G E kes σ H Q ->
  wpAny (model X.prog X.w) X.A (evalPairs (pairTrees keys values X.env pos)) (λvs s'=>∃ks H',Inv X pins σ H' s'/\VV (ks.map λkv=>(kV kv.1,kv.2)) vs/\Q ks H') X.xe s:=by
 unfold NM;rfl
theorem sv:∀{more:List (Key×V)} {kvs:Wx} {acc:List (Key×V)} {akv:Wx},aY more=some kvs->(∀p∈more,∃x,p.1=Sum.inr x)->aY acc=some akv->aY (jU acc more)=some (Ap akv kvs)
 | [],kvs,acc,akv,e,_,a=>by cases e;exact a
 | (q,v)::more,kvs,acc,akv,e,hx,a=>by
  unfold aY at e
  cases e1:gA v with
  |none=>simp_all
  |some d=>
   cases e2:aY more with
   |none=>simp_all
   |some ds=>rw[e1,e2]at e;cases e;obtain⟨x,rfl⟩:=hx (q,v) (by simp);show aY (jU (putK acc (Sum.inr x) v) more)=some (Ap (dput akv (.str x) d) ds);exact sv e2 (λp m=>hx p (by simp[m])) (oG e1 a)
theorem GX(ha:∀p∈acc,dQ p.1=true/\dQ p.2=true)(hk:dQ k=true)(hv:dQ v=true):∀p∈dput acc k v,dQ p.1=true/\dQ p.2=true:=by
 intro p hp;unfold dput at hp;split at hp
 ·obtain⟨p0,hp0,e0⟩:=SU.mp hp;split at e0
  ·grind
  ·subst e0;exact ha p0 hp0
 ·rcases SD.mp hp with hp|hp
  ·exact ha p hp
  ·simp at hp;subst hp;exact⟨hk,hv⟩
theorem xq:∀{kvs acc:Wx},(∀p∈acc,dQ p.1=true/\dQ p.2=true)->(∀p∈kvs,dQ p.1=true/\dQ p.2=true)->∀p∈Ap acc kvs,dQ p.1=true/\dQ p.2=true
 | [],acc,ha,_=>ha
 |q::kvs,acc,ha,hk=>xq (acc:=dput acc q.1 q.2) (GX ha (hk q (by simp)).1 (hk q (by simp)).2) λp m=>hk p (by simp[m])
section
variable {X:Cx} {E:XK} {m md mk mx:ME} {e k v o f:Expr} {ks:List (Option Expr)} {vs:WG} {kes:List (Str×ME)} {pos apos cpos:Pos} {x:Str} {n:Nat}
theorem Jx:NM X E [] pos [] []:=by simp[BY];exact λpins s σ H Q I ⟨θ,h,ρ,w,fr,p⟩=>pairTrees_nil_walk ⟨[],H,I,.nil,p θ H Ev.refl w [] ⟨rfl,λp m=>nomatch m⟩⟩
theorem uO(hk:DE X E (aj (.str x)) k)(hv:DE X E m v)(hr:NM X E kes pos ks vs):NM X E ((x,m)::kes) pos (some k::ks) (v::vs):=by
 simp only[BY,bF]at *;intro pins s σ H Q I ⟨θ,h,ρ,w,fr,p⟩;refine pairTrees_cons_walk (bH (hk pins s σ H (λu H1=>(u=.str x/\PyData.strOk x=true)/\∃θ1,W X.G θ1 h H1/\Fr X.G θ1 H1 ρ σ/\aH X.G (nR X.G E) θ1 H1 (kS ((x,m)::kes) ρ h) (λkvs _ _ H'=>∀ks,Dt kvs ks->Q ks H')) I ⟨θ,h,ρ,w,fr,λθ1 H1 ev w1 u r=>⟨eG r,θ1,w1,fr.ev ev,p.later ev⟩⟩) λu s1 ⟨y,H1,I1,ry,⟨ey,sx⟩,θ1,w1,fr1,p1⟩=>?_);subst ey;refine bH (hv pins s1 σ H1 (λz H2=>∃d θ2 h2,gA z=some d/\dQ d=true/\W X.G θ2 h2 H2/\Fr X.G θ2 H2 ρ σ/\aH X.G (nR X.G E) θ2 H2 (kS kes ρ h2) (λkvs _ _ H'=>∀ks,Dt ((.str x,d)::kvs) ks->Q ks H')) I1 ⟨θ1,h,ρ,w1,fr1,(aH.bind (r:=m ρ h) p1).mono λz θ2 h2 H2 _ _ ⟨ev,w2,p2⟩ v r=>?_⟩) λu2 s2 ⟨z,H2,I2,rz,d,θ2,h2,sz,so,w2,fr2,p2⟩=>?_
 ·cases z with
  |dat d=>
   simp only at p2;split at p2
   ·rename_i fd;refine⟨d,θ2,h2,uI fd r.1,r.2,w2,fr1.ev ev,(aH.bind p2).mono λkvs θ3 h3 H3 _ _ ⟨ev3,w3,p3⟩=>p3 θ3 H3 Ev.refl w3⟩
   ·exact p2.elim
  |_=>exact p2.elim
 ·refine bH (hr pins s2 σ H2 (λks H3=>Q ((Sum.inr x,z)::ks) H3) I2 ⟨θ2,h2,ρ,w2,fr2,p2.mono λkvs θ3 h3 H3 _ _ q ks rk=>q _ ⟨by unfold aY;rw[sz,rk.1];rfl,λp hp=>?_⟩⟩) λws s3 ⟨ks,H3,I3,rel,q3⟩=>⟨(Sum.inr x,z)::ks,H3,I3,.cons ⟨ry,rz⟩ rel,q3⟩;rcases Sz.mp hp with rfl|hp
  ·exact⟨by simpa [dQ]using sx,so⟩
  ·exact rk.2 p hp
theorem Du:∀{ks:List (Key×V)} {kvs:Wx},aY ks=some kvs->(∀p∈kvs,iw p.1=true)->∀p∈ks,∃x,p.1=Sum.inr x
 | [],_,_,_,p,hp=>nomatch hp
 | (q,v)::ks,kvs,e,hs,p,hp=>by
  unfold aY at e
  cases e1:gA v with
  |none=>simp_all
  |some d=>
   cases e2:aY ks with
   |none=>simp_all
   |some ds=>
    rw[e1,e2]at e;cases e;rcases Sz.mp hp with rfl|hp
    ·have:=hs (zJ q,d) (by simp)
     grind[zJ,iw]
    ·exact Du e2 (λp m=>hs p (by simp[m])) p hp
theorem xt:∀{kes:List (Str×ME)} {ρ:Fm} {h:Hm} {kvs:Wx} {h':Hm},kS kes ρ h=.ok kvs h'->kvs.length=kes.length/\∀p∈kvs,iw p.1=true
 | [],ρ,h,kvs,h',e=>by cases e;grind
 | (k,m)::kes,ρ,h,kvs,h',e=>by
  unfold kS at e
  cases e1:m ρ h with
  |bad=>simp_all
  |exc x h1=>simp_all
  |ok y h1=>
   rw[e1]at e;simp only[R.aJ]at e;split at e
   ·split at e
    ·cases e2:kS kes ρ h1 with
     |bad=>simp_all
     |exc x h1=>simp_all
     |ok kv2 h2=>rw[e2]at e;cases e;obtain⟨q1,q2⟩:=xt e2;exact⟨by simp[q1],λp hp=>by rcases Sz.mp hp with rfl|hp;rfl;exact q2 p hp⟩
    grind
   grind
theorem Jy(hp:NM X E kes pos ks vs)(hall:ks.all (·.isSome)=true:=by rfl)(hl:ks.length=vs.length:=by rfl)(hk:ks.length=kes.length:=by rfl)(h0:ks≠[]:=by simp)(h15:ks.length<=15:=by decide):DE X E (GW kes) (.Dict ks vs pos):=by
 simp only[BY,bF]at *;intro pins s σ H Q I ⟨θ,h,ρ,w,fr,p⟩;have hD:H s.heap.objs.size=none:=I.hok.fresh (Ss _);have fD:=I.Bl (b:=s.heap.objs.size) (Ss _) hD;have I1:Inv X pins σ H {s with heap:=s.heap.push {cls:=.type "dict",data:=.dict #[]}}:=I.kept (t':=s.toks) λb u q=>So _ q;have gD:(s.heap.push {cls:=.type "dict",data:=.dict #[]}).get? s.heap.objs.size=some {cls:=.type "dict",data:=.dict #[]}:=Sy _ rfl;have I1p:=I1.pinned (fp:=[s.heap.objs.size]) (λb hb=>(SO.mp hb)▸fD) λb hb=>⟨_,(SO.mp hb)▸gD,λv z=>by cases z⟩;refine wpAny_Dict_walk (knd:=bV X.prog X.w) hall hl h0 h15 (bH (hp _ _ σ H (λks2 H2=>∃θ2 h2 kvs,W X.G θ2 h2 H2/\Dt kvs ks2/\(kvs.length=kes.length/\∀p∈kvs,iw p.1=true)/\aH X.G (nR X.G E) θ2 H2 (R.ok (D.jt false (Ap [] kvs)) h2) (Ml.KV X.G Q)) I1p ⟨θ,h,ρ,w,fr,?_⟩) λws s2 ⟨ks2,H2,I2,rel,θ2,h2,kvs,w2,rk,dk,p2⟩=>?_)
 ·unfold GW at p
  cases e:kS kes ρ h with
  |bad=>rw[e]at p;exact p.elim
  |exc x h1=>rw[e]at p;exact p
  |ok kvs h1=>rw[e]at p;exact λθ2 H2 ev w2 ks2 rk=>⟨θ2,h1,kvs,w2,rk,xt e,aH.later p ev⟩
 obtain⟨rs,c,rkv⟩:=oz (P:=X.prog) (w:=X.w) rel;have pD:=I2.pin (s.heap.objs.size,_) (Sr _ (Sr _ (aX (by simp) gD)));obtain⟨g2,n2,_⟩:=pD;have d0:s2.heap.DictOf (bV X.prog X.w) s.heap.objs.size []:=(Jw (G:=X.G) (A:=X.A)).ok0.2.2.elim λvs0 ⟨kv0,q⟩=>by cases kv0;exact q _ _ g2
 refine⟨rs,c,d0,λh' dd' hs=>?_⟩;have hz:(jU [] ks2).length<=sizeLine:=by have h1:=jV ks2 [];rw[Ts,kM rk.1,dk.1,<- hk]at h1;rw[Ul];omega
 have I3:=(I2.i8).turned (t':=s2.toks+ws.length) (λb ob hb e=>(hs.2 b hb).trans e) n2 fD.2.1 fD.2.2.2.1 fD.2.2.2.2.1 fD.2.2.2.2.2;have ne:s.heap.objs.size≠sysModules:=VC (SI I.big);have I4:=I3.adopt (D:=s.heap.objs.size) (o:=.dK (jU [] ks2)) ⟨n2,fD.2⟩ (yi hz (Vt.mpr ne) (rkv.merge .nil) dd');obtain⟨e3,w3,g3⟩:=w2.put (o:=.dK (jU [] ks2)) n2;exact⟨.ref s.heap.objs.size,_,I4,rfl,p2 _ _ e3 w3 _ ⟨_,rfl,.inl ⟨rfl,_,g3,sv rk.1 (Du rk.1 dk.2) rfl,xq (λp m=>nomatch m) rk.2⟩⟩⟩
noncomputable def OQ(d k x:D)(h:Hm):R D:=match d,k with
 |.jt false kvs,.dat (.str s)=>match wb kvs (.str s)with
  |some v=>.ok (.dat v) h
  |Option.none=>.ok x h
 |_,_=>.bad
noncomputable def GY:D->Bool
 |.jt false _=>true
 |_=>false
noncomputable def OR(d k x:ME):ME:=λρ h=>(d ρ h).bind λy h1=>if GY y then(k ρ h1).bind λz h2=>(x ρ h2).bind λu h3=>OQ y z u h3 else .bad
theorem sy:∀{ks:List (Key×V)} {kvs:Wx},aY ks=some kvs->wb kvs (.str x)=none->qH ks (Sum.inr x)=none
 | [],kvs,e,g=>by rfl
 | (q,v)::ks,kvs,e,g=>by
  unfold aY at e
  cases e1:gA v with
  |none=>simp_all
  |some d'=>
   cases e2:aY ks with
   |none=>simp_all
   |some ds=>
    rw[e1,e2]at e;cases e;unfold wb at g;rw[List.find?_cons,yF]at g;by_cases hq:q=Sum.inr x
    ·simp_all
    ·simp only[hq]at g;rw[mD hq];exact sy e2 g
theorem M1(hr:cG n X.A)(hd:DE X E md o)(hk:DE X E mk e)(hx:DE X E mx f)(mm:M2 X o "get" apos e f cpos):DE X E (OR md mk mx) (.Call (.Attribute o "get" apos) [e,f] [] cpos):=by
 simp only[bF]at *;refine PE.imp (FT (by have:=hr.units;omega) hd hk hx mm) λσ H Q ⟨θ,h,ρ,w,fr,p⟩=>⟨θ,h,ρ,w,fr,(aH.bind p).mono λy θ1 h1 H1 _ _ ⟨ev,w1,p1⟩ v r=>?_⟩;split at p1
 ·rename_i hy
  cases y with
  |jt t kvs=>
   have ht:t=false:=by cases t with|false=>rfl|true=>simp[GY]at hy
   subst ht;obtain⟨a,rfl,dc⟩:=r;have dc1:=dc.same (G':=H1) (bR.refl _) λob q=>aC _ _ _ _ q;refine⟨a,rfl,?_,θ1,h1,ρ,w1,fr.ev ev,(aH.bind p1).mono λz θ2 h2 H2 _ _ ⟨ev2,w2,p2⟩ u ru=>⟨θ2,h2,ρ,w2,(fr.ev ev).ev ev2,(aH.bind p2).mono λx θ3 h3 H3 _ _ ⟨ev3,w3,p3⟩ ux rx=>?_⟩⟩
   ·rcases dc1 with⟨_,ks,q,_⟩|⟨z,xs,q,_⟩
    ·exact .inl ⟨ks,.inl q⟩
    ·cases z
   ·have dc3:=(dc.same (G':=view θ3 H3) (ev2.trans ev3).same λob q=>(ev2.trans ev3).same _ _ q).same (G':=H3) (bR.refl _) λob q=>aC _ _ _ _ q;unfold OQ at p3
    cases z with
    |dat zd=>
     cases zd with
     |str q=>
      obtain⟨eu,_⟩:=eG ru;subst eu;rcases dc3 with⟨_,ks,q1,q2,q3⟩|⟨z,_⟩
      ·simp only at p3
       cases g:wb kvs (.str q)with
       |some v=>rw[g]at p3;obtain⟨u,q4,q5⟩:=oH q2 g;refine⟨some u,.inl ⟨ks,Sum.inr q,.inl q1,rfl,q4.symm⟩,p3 θ3 H3 Ev.refl w3 u ⟨zX q5,?_⟩⟩;unfold wb at g;obtain⟨pr,hp,e'⟩:=TB.mp g;rw[<- e'];exact(q3 pr (List.mem_of_find?_eq_some hp)).2
       |none=>rw[g]at p3;exact⟨none,.inl ⟨ks,Sum.inr q,.inl q1,rfl,(sy q2 g).symm⟩,p3 θ3 H3 Ev.refl w3 ux rx⟩
      ·cases z
     |_=>exact p3.elim
    |_=>exact p3.elim
  |_=>simp[GY]at hy
 ·exact p1.elim
end
end Ml
namespace Ml
open PySem
noncomputable def uP:MS:=bj (F2 [4,5,6] (aa (ai qz (br (aa (ae 2) (aa (ae 2) ah))) (ai cn (ae 0) (aj (.int 1)))) (aa (ai qz (br (aa (ae 3) (aa (ae 3) ah))) (ai cn (ae 0) (aj (.int 1)))) (aa (ai qz (br (aa (ae 3) (aa (ae 2) ah))) (ai cn (ae 0) (aj (.int 1)))) ah))))
    (cC (OR (GW [("stable",ae 4),("whole",lV (ae 4) (ae 5)),("grounded",lV (ae 5) (EL (ae 4) (ae 6)))]) (ae 1) (lV (ae 4) (EL (ae 6) (ae 5)))))
noncomputable def cD:Fn:=bu 4 7 uP
noncomputable def wm:MS:=bj (bU 2 (ue ah))
    (bj (nQ (aN (ai cn (ae 0) (aj (.int 1)))) (i7 (bP (aq 3) (bP (aq 4) iI))) (nY (vU (aO (ai oEq (ae 3) (ae 4))) (i6 (cy (ag cD (aa (ae 0) (aa (ae 1) (aa (ae 3) (aa (ae 4) ah)))))))) (hG (mq eF (ae 2) (br (aa (ae 3) (aa (ae 4) ah))))) dz))
    (cC (br (aa (ai cn (ae 0) (aj (.int 0))) (aa (ag dH (aa (ae 2) ah)) ah)))))
noncomputable def wo:Fn:=bu 2 5 wm
noncomputable def bN:Fn:=f7 wo
noncomputable def uQ:MS:=bj (bU 2 (aj (.list [])))
    (bj (nQ (aN (ai cn (ae 0) (aj (.int 0)))) (aq 3) (bU 2 (ai dA (ae 2) (bZ 1 (aN (ai cn (ae 0) (aj (.int 0)))) (aq 0) (o3 (aO (ai kI (ae 4) (ae 0))) (cy (ag cD (aa (ae 1) (aa (ae 2) (aa (ae 4) (aa (ae 0) ah))))))) (br (aa (ae 4) (aa (ae 0) ah)))))))
    (cC (br (aa (ai cn (ae 0) (aj (.int 0))) (aa (ag dH (aa (ag fB (aa (ai dA (ag uh (aa (ai cn (ae 0) (aj (.int 1))) ah)) (ae 2)) ah)) ah)) ah)))))
noncomputable def eO:Fn:=bu 2 4 uQ
noncomputable def wq:MS:=bj (bU 2 (ai dA (bZ 1 (aN (ae 0)) (aq 0) (aO (ai kj (ae 0) (ae 2))) (ae 0)) (bZ 1 (aN (ae 1)) (aq 0) (aO (ai kj (ae 0) (ae 1))) (ae 0))))
    (cC (ag dH (aa (ag cE (aa (ae 2) ah)) ah)))
noncomputable def bO:Fn:=bu 2 3 wq
noncomputable def Aq:MS:=bj (mG (i7 (bP (aq 3) (bP (aq 4) iI))) (ae 1))
    (bj (nQ (rQ (aa (ai pb (ag aF (aa (ae 0) (aa (ai dA (ae 2) (aj (.int 1))) ah))) (ag ui (aa (ai kI (ae 3) (aj (.tuple []))) ah))) ah)) (aq 5) (bj (bU 6 (br (aa (ai cn (ae 3) (ag aF (aa (ae 0) (aa (ag gb (aa (ae 3) ah)) ah)))) (aa (ai cn (ae 3) (ag aF (aa (ae 0) (aa (ag gb (aa (ae 3) ah)) ah)))) ah))))
    (bU 4 (ag bO (aa (ae 4) (aa (br (aa (ae 6) ah)) ah))))))
    (cC (br (aa (ae 3) (aa (ae 4) ah)))))
noncomputable def eQ:Fn:=bu 3 7 Aq
noncomputable def wt:MS:=bj (bU 2 (bZ 1 (aN (ai cn (ae 1) (aj (.int 0)))) (aq 0) (aO (ai oEq (ag aF (aa (ae 1) (aa (aj (.int 2)) ah))) (aj (.int 0)))) (br (aa (ae 0) (aa (ae 0) ah)))))
    (cC (br (aa (ai cn (ae 1) (aj (.int 0))) (aa (ag dH (aa (ag fB (aa (ai dA (ag uh (aa (ai cn (ae 1) (aj (.int 1))) ah)) (ae 2)) ah)) ah)) ah))))
noncomputable def fE:Fn:=bu 2 3 wt
noncomputable def BZ:MS:=bj (bU 2 (ag fE (aa (ae 0) (aa (ag oO (aa (ae 0) (aa (ae 1) ah))) ah))))
    (bj (bU 3 (ai cn (ag dC ah) (ag aF (aa (ae 0) (aa (aj (.int 5)) ah)))))
    (bj (bU 4 (ue (aa (ag eQ (aa (ae 0) (aa (ae 2) (aa (aj (.int 1)) ah)))) (aa (ag eQ (aa (ae 0) (aa (ae 2) (aa (aj (.int 3)) ah)))) (aa (ag bN (aa (ae 2) (aa (ae 3) ah))) (aa (ag eO (aa (ae 2) (aa (ae 3) ah))) ah))))))
    (bj (hG (mq eF (ae 4) (br (aa (ai cn (ae 2) (aj (.int 0))) (aa (ai cn (ag fE (aa (ae 0) (aa (br (aa (ai cn (ae 2) (aj (.int 0))) (aa (aj (.tuple [])) ah))) ah))) (aj (.int 1))) ah)))))
    (cC (br (aa (ae 2) (aa (ai cn (ae 4) (ag aF (aa (ae 0) (aa (aj (.int 5)) ah)))) ah)))))))
noncomputable def B0:Fn:=bu 2 5 BZ
noncomputable def kT:Fn:=f7 B0
noncomputable def uR:MS:=bj (mG (i7 (bP (aq 3) (bP (aq 4) iI))) (br (aa (ai cn (ag bN (aa (ae 1) (aa (ae 2) ah))) (aj (.int 1))) (aa (ai cn (ag eO (aa (ae 1) (aa (ae 2) ah))) (aj (.int 1))) ah))))
    (bj (bU 5 (bZ 1 (aN (ae 3)) (aq 0) (aO (ai kj (ae 0) (ai cn (ae 1) (aj (.int 1))))) (ae 0)))
    (cC (ag dH (aa (ag cE (aa (ai dA (ae 5) (bZ 1 (aN (ai cn (ae 0) (aj (.int 1)))) (aq 0) (aO (ai kj (ae 0) (ae 5))) (ae 0))) ah)) ah))))
noncomputable def gj:Fn:=bu 3 6 uR
end Ml
namespace Ml
open PySem PySem.Spec L2
noncomputable def QR(x:D)(lo hi:Option Int)(h:Hm):R D:=match x with
 |.scr ns=>.ok (.dat (.list (cut (ns.map PyData.int) lo hi))) h
 |_=>.bad
noncomputable def GZ(e:ME)(lo hi:KQ):ME:=λρ h=>(e ρ h).bind λx h1=>(lo ρ h1).bind λl h2=>(hi ρ h2).bind λu h3=>QR x l u h3
section
variable {X:Cx} {E:XK} {m:ME} {e:Expr} {pos:Pos}
noncomputable def OS(G:Gx)(E:XK):V->Option Int->Option Int->Hp->VK->Prop:=λx lo hi H Q=>∃θ h d,W G θ h H/\cj G θ H d x/\aH G (nR G E) θ H (QR d lo hi h) (KV G Q)
theorem xu:∀(ns:List Int),bh M (ns.map PyData.int) (ns.map V.int)
 | []=>rfl
 |n::ns=>⟨_,_,rfl,rfl,xu ns⟩
theorem M3:NK X (OS X.G E):=by
 intro pins s σ H x v vl vu lo hi sl Q I rx hs pl pu ⟨θ,h,d,w,r,p⟩;unfold QR at p;split at p
 ·rename_i ns;obtain⟨a,rfl,sq⟩:=r;refine CL pins s σ H _ v vl vu lo hi sl Q I rx hs pl pu ⟨a,ns.map V.int,rfl,(aC θ H).seq sq,λq hq=>?_⟩;obtain⟨e1,w1,g⟩:=w.put hq;refine p _ _ e1 w1 _ ⟨⟨q,_,rfl,g,(Dh (xu ns) lo hi).same e1.same⟩,?_⟩;exact uC (bx.mpr λd m=>by obtain⟨n,_,rfl⟩:=SU.mp m;rfl) lo hi
 ·trivial
theorem EO(he:DE X E m e)(hl:DO X E ml lo)(hu:DO X E mh hi):DE X E (GZ m ml mh) (.Subscript e (.Slice lo hi none p2) pos):=by
 simp[bF,Dg]at *
 exact PE.imp (zD M3 he hl hu) λσ H Q ⟨θ,h,ρ,w,fr,p⟩=>⟨θ,h,ρ,w,fr,(aH.bind p).mono λd θ1 h1 H1 _ _ ⟨ev,w1,p1⟩ v r=>
   ⟨θ1,h1,ρ,w1,fr.ev ev,(aH.bind p1).mono λl θ2 h2 H2 _ _ ⟨ev2,w2,p2⟩=>⟨θ2,h2,ρ,w2,(fr.ev ev).ev ev2,(aH.bind p2).mono λu θ3 h3 H3 _ _ ⟨ev3,w3,p3⟩=>⟨θ3,h3,d,w3,(r.ev ev2).ev ev3,p3⟩⟩⟩⟩
end
theorem lX{N ps:WE}{sc:Scope}(a:sc.kind=.function:=by rfl)(b:sc.isCoroutine=false:=by rfl)(c:sc.isGenerator=false:=by rfl)(d:N.Nodup:=by decide +kernel)(e:N.take ps.length=ps:=by rfl)
 (f:∀x∈ps,sc.names.lookup x=some .local\/sc.names.lookup x=some .cell:=by decide +kernel)(g:∀y∈sc.names,y.2≠.free:=by decide +kernel):aQ N ps sc:=⟨a,b,c,d,e,f,g⟩
section
variable {X:Cx} {E:XK} {x:Str} {ps:WE} {k j:Nat} {F:Fn} {e e1 e2:Expr} {es:WG} {ma:MA} {m1 m2:ME} {p pos:Pos}
theorem fY(F':bc X.prog X.w X.K X.mg X.base x ps k F)(hx:Passes (vT X.prog X.w) X E)(hr:cG j X.A)(ha:DA X E ma (e::es))(hk:k<=j:=by omega)(hg:Gl X x:=by rfl)(hdb:(x==("__debug__" : Str))=false:=by decide)(he:starEach (e::es) X.env=(false,eval e X.env)::starEach es X.env:=by rfl)
 (hpl:(backTo pos (starEach es X.env)).any (·.1)=false:=by rfl):DE X E (ag F ma) (.Call (.Name x p) (e::es) [] pos):=OD F' hx (hr.mono hk) hg ha hdb he hpl
end
open Classical in
noncomputable def G0(g:MG)(b:MS)(j:Nat)(all:List D):List D->Fm->Hm->R Fl
 | [],ρ,h=>if h[j]?=some (.lst all)then .ok (.nx ρ) h else .bad
 |x::xs,ρ,h=>if h[j]?=some (.lst all)then(g x ρ h).ud.bind λρ1 h1=>(b ρ1 h1).ud.bind λf h2=>match f with
  |.nx ρ2=>G0 g b j all xs ρ2 h2
  |.ct ρ2=>G0 g b j all xs ρ2 h2
  |.bk ρ2=>.ok (.nx ρ2) h2
  |.rt d=>.ok (.rt d) h2 else .bad
end Ml
namespace Ml
open PySem PySem.Spec L2
noncomputable def K4(gs:Fh)(n:Nat)(ma:MA):MS:=λρ h=>(ma ρ h).bind λxs h1=>if xs.length=n then(gs xs ρ h1).bind λρ1 h2=>.ok (.nx ρ1) h2 else .bad
theorem Jz{n k k2:Nat}{p1 p2 pos:Pos}(hc:X.calm=true)(ha:DA X E ma es)(hg:MC X E gs tgs)(hle:n<=1000:=by decide)(hn:(assignEach tgs X.env).length=n:=by rfl)(hst:(assignEach tgs X.env).findIdx? (·.1)=none:=by rfl)
 (hs:swapsWithSole [.Tuple tgs k p1] (.Tuple es k2 p2) pos.line X.env=pure false:=by rfl)(hw:swappedStores [.Tuple tgs k p1] (.Tuple es k2 p2) X.env=pure none:=by rfl)
 (h1:(assignEach [.Tuple tgs k p1] X.env).map (·.2)=[assign (.Tuple tgs k p1) X.env]:=by rfl):DS X E (K4 gs n ma) (.Assign [.Tuple tgs k p1] (.Tuple es k2 p2) pos):=by
 simp only[ko,km,yy]at *;refine PS.imp (Ft (Bs ha) (Fs (n:=n) hc hg hn hst) hs hw h1) λC σ H ⟨θ,h,ρ,w,fr,p⟩=>⟨θ,h,ρ,w,fr,(aH.bind p).mono λxs θ1 h1 H1 _ _ ⟨ev,w1,p1⟩ vs r1=>?_⟩;split at p1
 ·rename_i hl;have hv:vs.length=n:=by rw[<- show xs.length=vs.length from SW r1];exact hl
  refine⟨by rw[hv,Ul];omega,λq hq=>?_⟩;obtain⟨e2,w2,g2⟩:=w1.put (o:=.tup vs) hq;exact⟨q,vs,rfl,ip.of bg,hv,θ1,h1,ρ,xs,w2,(fr.ev ev).ev e2,aV.ev e2 r1,(aH.bind (aH.later p1 e2)).mono λρ1 θ2 h2 H2 _ _ ⟨ev2,w3,p3⟩ σ2 fr2=>p3 θ2 H2 Ev.refl w3 σ2 fr2⟩
 ·exact p1.elim
end Ml
namespace Ml
open PySem
noncomputable def wu:MS:=bj (K4 (bP (aq 3) (bP (aq 4) iI)) 2 (aa (aj (.list [])) (aa (ue ah) ah)))
    (bj (nQ (aN (ai cn (ae 0) (aj (.int 0)))) (aq 5) (bU 3 (ai dA (ae 3) (bZ 1 (aN (ai cn (ae 0) (aj (.int 0)))) (aq 0) cX (br (aa (ae 6) (aa (ae 0) ah)))))))
    (bj (nQ (aN (ag mO (aa (ae 3) ah))) (aq 6) (nY (aO (ai oEq (ag bN (aa (br (aa (ai cn (ae 0) (aj (.int 0))) (aa (ag bO (aa (ai cn (ae 0) (aj (.int 1))) (aa (ae 6) ah))) ah))) (aa (ae 2) ah))) (ag bN (aa (ae 1) (aa (ae 2) ah))))) (hG (mq eF (ae 4) (br (aa (ag gb (aa (ae 6) ah)) (aa (ae 6) ah))))) dz))
    (bj (bU 4 (ag cE (aa (ae 4) ah)))
    (cC (bZ 1 (aN (ae 4)) (aq 0) (aO (ai oEq (ai cn (ae 0) (aj (.int 0))) (ai cn (ai cn (ae 5) (aj (.int 0))) (aj (.int 0))))) (ai cn (ae 0) (aj (.int 1))))))))
noncomputable def wx:Fn:=bu 3 7 wu
noncomputable def gS:Fn:=f7 wx
noncomputable def yP:MS:=bj (nQ (aN (ag dC ah)) (aq 3) (bj (bU 4 (ag gj (aa (ae 1) (aa (ae 2) (aa (ae 3) ah)))))
    (bj (nY (aO (ai kI (ag gB (aa (jc (aa (ag df (aa (ae 1) (aa (ae 2) (aa (ae 3) ah)))) (aa (ag df (aa (ae 1) (aa (ae 2) (aa (ae 3) ah)))) ah))) ah)) (ag gB (aa (jc (aa (ae 4) (aa (ae 4) ah))) ah)))) (cC (aj (.bool false))) dz)
    (nY (o3 (aO (ai oLt (ag gb (aa (ai cn (ae 1) (aj (.int 0))) ah)) (aj (.int 3)))) (aO (ai kI (ag gS (aa (ae 1) (aa (ae 2) (aa (ae 3) ah)))) (jc (aa (ae 4) ah))))) (cC (aj (.bool false))) dz))))
    (bj (bU 5 (aj (.list [])))
    (bj (nQ (aN (ai cn (ae 1) (aj (.int 0)))) (aq 6) (bU 5 (ai dA (ae 5) (bZ 1 (aN (ai cn (ae 1) (aj (.int 0)))) (aq 0) cX (br (aa (ae 7) (aa (ae 0) ah)))))))
    (bj (nQ (aN (jc (aa (aj (.tuple [])) (aa (ag dH (aa (ae 5) ah)) (aa (ag dH (aa (bZ 1 (aN (ae 5)) (aq 0) (aO (ai oEq (ag aF (aa (ae 1) (aa (aj (.int 2)) ah))) (aj (.int 0)))) (ae 0)) ah)) (aa (ai cn (ae 1) (aj (.int 1))) ah)))))) (aq 7) (bj (bU 4 (br (aa (ai cn (ae 1) (aj (.int 0))) (aa (ag bO (aa (ai cn (ae 1) (aj (.int 1))) (aa (ae 7) ah))) ah))))
    (nY (aO (ai kI (ag gB (aa (jc (aa (ag iX (aa (ae 1) (aa (ae 7) ah))) (aa (ag iX (aa (ae 1) (aa (ae 7) ah))) ah))) ah)) (ag gB (aa (jc (aa (ae 4) (aa (ae 4) ah))) ah)))) (cC (aj (.bool false))) dz)))
    (cC (aj (.bool true))))))
noncomputable def eY:Fn:=bu 3 8 yP
noncomputable def OT:MS:=bj (nQ (aN (ai dA (jc (aa (ag fT (aa (ae 0) (aa (aj (.int 0)) ah))) ah)) (GZ (ae 0) (n0 (aj (.int 1))) (n0 (aj (.int 3)))))) (aq 1) (bj (bU 2 (ag jg (aa (ae 1) ah)))
    (nQ (aN (aj (.tuple [.int 6,.int 2]))) (aq 3) (bj (mG (i7 (bP (aq 4) (bP (aq 5) iI))) (ag kT (aa (ae 2) (aa (ae 3) ah))))
    (bj (bU 6 (ag gB (aa (jc (aa (ae 4) (aa (ae 5) ah))) ah)))
    (nY (vU (i6 (cy (ag eY (aa (ae 2) (aa (ae 4) (aa (ae 5) ah)))))) (vU (i6 (cy (ag eY (aa (ae 2) (aa (ae 5) (aa (ae 4) ah)))))) (aO (ai kI (ag gB (aa (jc (aa (ae 4) (aa (ae 5) ah))) ah)) (ae 6))))) (cC (aj (.bool false))) dz))))))
    (cC (aj (.bool true)))
noncomputable def Dv:Fn:=bu 1 7 OT
end Ml
namespace NO
open PySem
noncomputable abbrev oP(xs:WK):Prop:=xs.toList.Pairwise (· < ·)
theorem tH(r:oP xs)(hi:i<k)(hk:k<xs.size):xs[i]'(by omega)<xs[k]:=by
 have:=UN.mp r i k (by simpa using(by omega:i<xs.size)) (by omega) hi
 simp_all
theorem uS(r:oP xs)(j:Nat):∀(fuel lo hi:Nat),lo<=hi->hi<=xs.size->hi-lo<=fuel->(∀i (h:i<xs.size),i<lo->xs[i]<j)->(∀i (h:i<xs.size),hi<=i->j<=xs[i]) ->
  (∀i (h:i<xs.size),i<SetTable.below.go xs j fuel lo hi->xs[i]<j)/\(∀i (h:i<xs.size),SetTable.below.go xs j fuel lo hi<=i->j<=xs[i])/\SetTable.below.go xs j fuel lo hi<=xs.size
 |0,lo,hi,h1,h2,h3,a,b=>by
  grind[SetTable.below.go]
 |fuel+1,lo,hi,h1,h2,h3,a,b=>by
  simp only[SetTable.below.go];split
  ·rename_i hlt;have hm:(lo+hi) / 2<xs.size:=by omega
   simp only[Array.getD,hm,dif_pos];split
   ·rename_i hx;refine uS r j fuel _ hi (by omega) h2 (by omega) (λi h hi'=>?_) b;by_cases e:i=(lo+hi) / 2
    ·subst e;exact hx
    ·have:=tH r (i:=i) (k:=(lo+hi) / 2) (by omega) hm;have hx':xs[(lo+hi) / 2]<j:=hx;omega
   ·rename_i hx;refine uS r j fuel lo _ (by omega) (by omega) (by omega) a λi h hi'=>?_;have hx':¬ xs[(lo+hi) / 2]<j:=hx;by_cases e:i=(lo+hi) / 2
    ·subst e;omega
    ·have:=tH r (i:=(lo+hi) / 2) (k:=i) (by omega) h;omega
  grind
theorem jh(r:oP xs)(j:Nat):(∀i (h:i<xs.size),i<SetTable.below xs j->xs[i]<j)/\(∀i (h:i<xs.size),SetTable.below xs j<=i->j<=xs[i])/\SetTable.below xs j<=xs.size:=
 uS r j xs.size 0 xs.size (by omega) (by omega) (by omega) (λ_ _ h=>by omega) λ_ _ h=>by omega
theorem below_at(r:oP xs)(h:xs[i]?=some j):SetTable.below xs j=i:=by
 obtain⟨hi,e⟩:=TN.mp h;obtain⟨a,b,c⟩:=jh r j;by_cases h1:i<SetTable.below xs j
 ·grind
 ·by_cases h2:SetTable.below xs j=i
  ·exact h2
  ·have hb:SetTable.below xs j<xs.size:=by omega
   have:=b _ hb (Ss _);have:=tH r (i:=SetTable.below xs j) (by omega) hi;omega
theorem ji(r:oP xs):j∈xs.toList<->xs[SetTable.below xs j]?=some j:=by
 constructor
 ·intro h;obtain⟨i,hi,e⟩:=U7 h;have:xs[i]?=some j:=by rw[<- S8,SH hi,e]
  rw[below_at r this];grind
 ·intro h;rw[<- S8]at h;exact SX h
theorem kU(r:oP xs):SetTable.has xs j=true<->j∈xs.toList:=by unfold SetTable.has;rw[ji r,Wu]
theorem nC{t:WM}(r:oP t.place):t.slot j=.live i<->t.place[i]?=some j:=by
 unfold SetTable.slot;constructor
 ·grind
 ·intro h;have e:=below_at r h
  grind
theorem gG{t:WM}(r:oP t.place)(rd:oP t.dummies):t.slot j=.empty<->j∉t.place.toList/\j∉t.dummies.toList:=by
 rw[ji r,<- kU rd]
 grind[SetTable.slot]
theorem B1{t:WM}(r:oP t.place)(rd:oP t.dummies):t.slot j=.dummy->j∈t.dummies.toList:=by
 rw[<- kU rd]
 grind[SetTable.slot]
theorem oQ(r:oP xs)(h:j∉xs.toList):oP (SetTable.insertAt xs (SetTable.below xs j) j):=by
 obtain⟨a,b,c⟩:=jh r j;unfold oP;rw[VB];have r':xs.toList.Pairwise (· < ·):=r;rw[<- UL (SetTable.below xs j) xs.toList,Ux]at r';obtain⟨r1,r2,r3⟩:=r';rw[Ux];refine⟨r1,Tq.mpr ⟨λx hx=>?_,r2⟩,λx hx y hy=>?_⟩
 ·obtain⟨i,hi,e⟩:=U7 hx;simp at hi e;have:=b (SetTable.below xs j+i) (by omega) (by omega);have hne:xs[SetTable.below xs j+i]'(by omega)≠j:=λz=>h (by rw[<- z];simp);omega
 ·have hxj:x<j:=by
   obtain⟨i,hi,e⟩:=U7 hx;simp at hi e;have:=a i (by omega) (by omega);omega
  rcases Sz.mp hy with rfl|hy
  ·exact hxj
  ·exact r3 x hx y hy
theorem qX(r:oP xs)(p:Nat):oP (SetTable.eraseAt xs p):=by
 unfold oP SetTable.eraseAt;simp;have r':xs.toList.Pairwise _:=r;rw[<- UL p xs.toList,Ux]at r';rw[Ux];refine⟨r'.1,?_,λx hx y hy=>?_⟩
 ·grind
 ·refine r'.2.2 x hx y ?_;have:=Vo hy;rw[<- List.drop_drop]at this;exact List.mem_of_mem_drop this
structure Pc where
 j:Nat
 more:Nat
 i:Nat
 pt:Nat
noncomputable def pc(p:SetTable.Probe):Pc:=⟨p.j,p.more,p.i,p.perturb⟩
noncomputable def eI(mask i pt:Nat):Pc:=⟨i,SetTable.runEnd mask i-i,i,pt⟩
noncomputable def Dw(mask:Nat)(c:Pc):Pc:=eI mask (SetTable.leap mask c.i c.pt).1 (SetTable.leap mask c.i c.pt).2
noncomputable def step(mask:Nat)(c:Pc):Pc:=if c.more>0 then⟨c.j+1,c.more-1,c.i,c.pt⟩else Dw mask c
theorem B2(t:WM)(p:SetTable.Probe):pc (t.advance p)=step t.mask (pc p):=by unfold SetTable.advance step pc;split<;>rfl
theorem jZ(t:WM)(p:SetTable.Probe):(t.advance p).dummy=p.dummy:=by
 grind[SetTable.advance]
noncomputable def steps(mask:Nat):Nat->Pc->Pc
 |0,c=>c
 |n+1,c=>steps mask n (step mask c)
theorem nE(mask:Nat):∀(m n:Nat) (c:Pc),steps mask (m+n) c=steps mask n (steps mask m c)
 |0,n,c=>by simp[steps]
 |m+1,n,c=>by rw[show m+1+n=(m+n)+1 by omega];exact nE mask m n _
theorem yQ(mask:Nat):∀(k:Nat) (c:Pc),c.more=k->steps mask (k+1) c=Dw mask c
 |0,c,h=>by simp[steps,step,h]
 |k+1,c,h=>by
  have e:step mask c=⟨c.j+1,c.more-1,c.i,c.pt⟩:=by grind[step]
  simp[steps];have:=yQ mask k (step mask c) (by simp_all);simp[steps]at this;rw[this,e];rfl
theorem xw(mask i:Nat):SetTable.runEnd mask i-i<=9:=by grind[SetTable.runEnd]
noncomputable def gE(mask:Nat):Nat->Pc->Pc
 |0,c=>c
 |n+1,c=>gE mask n (Dw mask c)
theorem sA(mask:Nat):∀(n:Nat) (c:Pc),c.more<=9->∃m,m<=10*n/\steps mask m c=gE mask n c
 |0,c,_=>⟨0,by omega,rfl⟩
 |n+1,c,h=>by obtain⟨m,hm,e⟩:=sA mask n (Dw mask c) (xw _ _);refine⟨c.more+1+m,by omega,?_⟩;rw[nE,yQ mask c.more c rfl,e];rfl
theorem qY(mask:Nat):∀(m n:Nat) (c:Pc),gE mask (m+n) c=gE mask n (gE mask m c)
 |0,n,c=>by simp[gE]
 |m+1,n,c=>by rw[show m+1+n=(m+n)+1 by omega];exact qY mask m n _
theorem Ar(mask:Nat):∀(n:Nat) (c:Pc),(gE mask n c).pt=c.pt / 32^n
 |0,c=>by simp[gE]
 |n+1,c=>by simp[gE];rw[Ar mask n];show c.pt / 32 / 32^n=_;rw[Nat.div_div_eq_div_mul,Nat.pow_succ,Nat.mul_comm]
noncomputable def ER(m:Nat):Nat->Nat->Nat
 |0,i=>i
 |n+1,i=>ER m n ((i*5+1) % m)
theorem tI(m:Nat):∀(a b i:Nat),ER m (a+b) i=ER m b (ER m a i)
 |0,b,i=>by simp[ER]
 |a+1,b,i=>by rw[show a+1+b=(a+b)+1 by omega];exact tI m a b _
noncomputable def cover(m:Nat):Nat->Nat->Nat->Nat
 |0,_,acc=>acc
 |n+1,i,acc=>cover m n ((i*5+1) % m) (acc ||| 1 <<< i)
theorem xy(m:Nat):∀(n i acc e:Nat),(cover m n i acc).testBit e=true->acc.testBit e=true\/∃a,a<n/\ER m a i=e
 |0,i,acc,e,h=>.inl h
 |n+1,i,acc,e,h=>by
  rcases xy m n _ _ e h with h|⟨a,ha,h⟩
  ·rw[Nat.testBit_or,UZ]at h;rcases h with h|h
   ·exact .inl h
   ·refine .inr ⟨0,by omega,?_⟩;rw[Nat.shiftLeft_eq,Nat.one_mul,Nat.testBit_two_pow]at h;simpa [ER]using h
  ·exact .inr ⟨a+1,by omega,h⟩
noncomputable def sizeOk(m:Nat):Bool:=cover m m 0 0==2^m-1&&ER m m 0==0&&decide (8<=m/\m<=1024)&&decide (m % 2=0)
theorem G1(h:sizeOk m=true)(hi:i<m)(he:e<m):∃n,n<m/\ER m n i=e:=by
 unfold sizeOk at h;simp only[Su,Wu,Td]at h;obtain⟨⟨⟨h1,h2⟩,h3⟩,_⟩:=h
 have key:∀x,x<m->∃a,a<m/\ER m a 0=x:=λx hx=>by
  rcases xy m m 0 0 x (by grind)with z|z
  ·grind
  grind
 obtain⟨a,ha,ea⟩:=key i hi;obtain⟨b,hb,eb⟩:=key e he;by_cases hab:a<=b
 ·exact⟨b-a,by omega,by rw[<- ea,<- tI,show a+(b-a)=b by omega,eb]⟩
 ·exact⟨(m-a)+b,by omega,by rw[<- ea,<- tI,show a+((m-a)+b)=m+b by omega,tI,h2,eb]⟩
theorem La:sizeOk 8=true/\sizeOk 16=true/\sizeOk 32=true/\sizeOk 64=true/\sizeOk 128=true/\sizeOk 256=true/\sizeOk 512=true/\sizeOk 1024=true:=by decide +kernel
theorem xA:∀(n:Nat) (c:Pc),c.pt=0->(gE mask n c).i=ER (mask+1) n c.i
 |0,c,_=>rfl
 |n+1,c,h=>by simp[gE,ER];rw[xA n _ (by show c.pt / 32=0;rw[h])];show ER _ n (_ % _)=_;rw[h]
theorem JA(mask n:Nat)(c:Pc):(gE mask (n+1) c).j=(gE mask (n+1) c).i:=by rw[qY];rfl
theorem xB(h:sizeOk (mask+1)=true)(hp:c.pt<2^64)(he:e<=mask):∃n,n<=mask+12/\(gE mask (n+1) c).j=e:=by
 have h0:(gE mask 13 c).pt=0:=by
  grind[Ar]
 have hi  := by show(gE mask (12+1) c).i<mask+1;exact V2 _ (by omega)
 obtain⟨n,hn,en⟩:=G1 h hi (Nat.lt_succ_of_le he);refine⟨12+n,by omega,?_⟩;rw[show 12+n+1=_+1 from rfl,JA,show 12+n+1=13+n by omega,qY,xA n _ h0,en]
theorem Dx(h:Int):SetTable.bits h<2^64:=by
 grind[SetTable.bits]
noncomputable def c0(mask:Nat)(h:Int):Pc:=eI mask (SetTable.bits h % (mask+1)) (SetTable.bits h)
noncomputable def sq(mask:Nat)(h:Int)(n:Nat):Nat:=(steps mask n (c0 mask h)).j
theorem ES(hs:sizeOk (mask+1)=true)(h:Int)(he:e<=mask):∃n,n<=10*(mask+13)/\sq mask h n=e:=by obtain⟨n,hn,en⟩:=xB hs (c:=c0 mask h) (Dx h) he;obtain⟨m,hm,em⟩:=sA mask (n+1) (c0 mask h) (xw _ _);exact⟨m,by omega,by simp[sq,em,en]⟩
theorem least{P:Nat->Prop}:∀(N:Nat),P N->∃n,n<=N/\P n/\∀m,m<n->¬ P m:=by
 intro N
 induction N using Nat.strongRecOn with
 |_ N ih=>
  by_cases z:∃m,m<N/\P m
  ·obtain⟨m,hm,pm⟩:=z;obtain⟨n,h1,h2,h3⟩:=ih m hm pm
   grind
  ·grind
theorem B3:∀(n:Nat) (l:List Nat),(∀e,e<n->e∈l)->n<=l.length
 |0,_,_=>Ug _
 |n+1,l,h=>by
  have:=B3 n (l.erase n) λe he=>(List.mem_erase_of_ne (by omega)).mpr (h e (by omega))
  grind
theorem B4(mask n:Nat)(c:Pc):steps mask (n+1) c=step mask (steps mask n c):=by rw[nE];rfl
structure Tab(es:Wy)(t:WM):Prop where
 rp:oP t.place
 rd:oP t.dummies
 sz:t.place.size=es.size
 tf:t.fill*5<t.mask*3
 bp:∀j∈t.place.toList,j<=t.mask
 bd:∀j∈t.dummies.toList,j<=t.mask
 dj:∀j∈t.dummies.toList,j∉t.place.toList
 sm:sizeOk (t.mask+1)=true
 rc:∀(i:Nat) (e:Int×Value) (j:Nat),es[i]?=some e->t.place[i]?=some j->∃n,sq t.mask e.1 n=j/\∀m,m<n->t.slot (sq t.mask e.1 m)≠.empty
theorem Tab.fits(T:Tab es t):t.fits es.size=true:=by have:=T.tf;simp[SetTable.fits];exact⟨T.sz,by omega⟩
theorem Tab.odd(T:Tab es t):t.gaveWay=false:=by
 have h:=T.sm;unfold SetTable.gaveWay;unfold sizeOk at h
 grind
theorem Tab.le(T:Tab es t):t.mask<=1023:=by
 have h:=T.sm
 simp_all[sizeOk]
theorem Tab.free(T:Tab es t)(h:Int):∃N,N<=10*(t.mask+13)/\t.slot (sq t.mask h N)=.empty/\∀m,m<N->t.slot (sq t.mask h m)≠.empty:=by
 have:∃e,e<=t.mask/\t.slot e=.empty:=by
  apply Tx;intro z;have:=B3 (t.mask+1) _ λe he=>by apply Tx;intro hn;rw[SD,not_or]at hn;exact z ⟨e,by omega,(gG T.rp T.rd).mpr hn⟩
  have tf:=T.tf
  grind[SetTable.fill,tf,List.length_append,Array.length_toList]
 obtain⟨e,he,hs⟩:=this;obtain⟨n,hn,en⟩:=ES T.sm h he;obtain⟨N,h1,h2,h3⟩:=least (P:=λn=>t.slot (sq t.mask h n)=.empty) n (by grind)
 grind
noncomputable def Dm(t:WM)(h:Int)(n:Nat)(d:Option Nat):Prop:=d=none\/∃m,m<n/\d=some (sq t.mask h m)/\t.slot (sq t.mask h m)=.dummy
theorem Dm.mono(x:Dm t h n d)(hn:n<=n'):Dm t h n' d:=by
 rcases x with x|⟨m,a,b,c⟩
 ·exact .inl x
 ·exact .inr ⟨m,by omega,b,c⟩
theorem tJ(hN:t.slot (sq t.mask h N)=.empty)(hne:∀m,m<N->t.slot (sq t.mask h m)≠.empty) :
  ∀(fuel n:Nat) (p:SetTable.Probe),n<=N->N-n<fuel->pc p=steps t.mask n (c0 t.mask h)->Dm t h n p.dummy ->
   (∃d,SetTable.probe.go t hashAt h fuel p=some (.empty (sq t.mask h N) d)/\Dm t h N d/\∀m,n<=m->m<N->∀i,t.slot (sq t.mask h m)=.live i->hashAt i≠h) \/
   (∃k i q,SetTable.probe.go t hashAt h fuel p=some (.candidate (sq t.mask h k) i q)/\n<=k/\k<N/\t.slot (sq t.mask h k)=.live i/\hashAt i=h/\pc q=steps t.mask (k+1) (c0 t.mask h)/\Dm t h (k+1) q.dummy /\
    ∀m,n<=m->m<k->∀i,t.slot (sq t.mask h m)=.live i->hashAt i≠h)
 |0,n,p,h1,h2,h3,h4=>by omega
 |fuel+1,n,p,h1,h2,h3,h4=>by
  have ej:p.j=sq t.mask h n:=by have:=VG Pc.j h3;exact this
  have nx:∀(p':SetTable.Probe),pc p'=pc p->n<N->pc (t.advance p')=steps t.mask (n+1) (c0 t.mask h):=λp' e _=>by rw[B2,e,h3,B4]
  simp only[SetTable.probe.go];rw[ej];by_cases e:n=N
  ·subst e;rw[hN];exact .inl ⟨p.dummy,rfl,h4,λm a b=>by omega⟩
  ·have hlt:n<N:=by omega
   cases hs:t.slot (sq t.mask h n)with
   |empty=>exact absurd hs (hne n hlt)
   |dummy=>
    dsimp only;rcases tJ hN hne fuel (n+1) (t.advance {p with j:=sq t.mask h n,dummy:=some (sq t.mask h n)}) hlt (by omega) (nx _ (by unfold pc;rw[ej]) hlt) (by rw[jZ];exact .inr ⟨n,by omega,rfl,hs⟩)with⟨d,a,b,c⟩|⟨k,i,q,a,b,c,d,e',f,g,r⟩
    ·refine .inl ⟨d,a,b,λm h5 h6 i h7=>?_⟩;by_cases z:m=n
     ·subst z;rw[hs]at h7;cases h7
     ·exact c m (by omega) h6 i h7
    ·refine .inr ⟨k,i,q,a,by omega,c,d,e',f,g,λm h5 h6 i h7=>?_⟩;by_cases z:m=n
     ·subst z;rw[hs]at h7;cases h7
     ·exact r m (by omega) h6 i h7
   |live i=>
    dsimp only;by_cases hh:hashAt i=h
    ·rw[if_pos (by simpa using hh)];refine .inr ⟨n,i,t.advance p,rfl,by omega,hlt,hs,hh,nx p rfl hlt,?_,λm a b=>by omega⟩;rw[jZ];exact h4.mono (by omega)
    ·rw[if_neg (by simpa using hh)];rcases tJ hN hne fuel (n+1) (t.advance p) hlt (by omega) (nx _ rfl hlt) (by rw[jZ];exact h4.mono (by omega))with⟨d,a,b,c⟩|⟨k,i',q,a,b,c,d,e',f,g,r⟩
     ·refine .inl ⟨d,a,b,λm h5 h6 i' h7=>?_⟩;by_cases z:m=n
      ·subst z;rw[hs]at h7;cases h7;exact hh
      ·exact c m (by omega) h6 i' h7
     ·refine .inr ⟨k,i',q,a,by omega,c,d,e',f,g,λm h5 h6 i' h7=>?_⟩;by_cases z:m=n
      ·subst z;rw[hs]at h7;cases h7;exact hh
      ·exact r m (by omega) h6 i' h7
theorem qZ(r:oP xs)(hj:j∈xs.toList):x∈(SetTable.eraseAt xs (SetTable.below xs j)).toList<->x∈xs.toList/\x≠j:=by
 have hb:=(ji r).mp hj;obtain⟨hl,e⟩:=TN.mp hb;have sp:xs.toList=xs.toList.take (SetTable.below xs j)++j::xs.toList.drop (SetTable.below xs j+1):=by have e1:=(UL (SetTable.below xs j) xs.toList).symm;rw[TR (by simpa using hl)]at e1;rw[Array.getElem_toList,e]at e1;exact e1
 have se:(SetTable.eraseAt xs (SetTable.below xs j)).toList=xs.toList.take (SetTable.below xs j)++xs.toList.drop (SetTable.below xs j+1):=by unfold SetTable.eraseAt;simp only[Array.toList_append,Array.toList_extract,List.extract_eq_take_drop,List.drop_zero,Nat.sub_zero];congr 1;rw[Vc];simp
 have nd:xs.toList.Nodup:=List.Pairwise.imp (λh=>SI h) r;rw[sp]at nd;rw[se];have nd2:=(T4.mp nd);have nd3:=TC.mp nd2.2.1;constructor
 ·intro h;refine⟨by rw[sp];rcases SD.mp h with h|h;exact S7 _ h;exact Sr _ (SE _ h),λz=>?_⟩;subst z;rcases SD.mp h with h|h
  ·exact nd2.2.2 x h x (SK ..) rfl
  ·exact nd3.1 h
 grind
theorem gH{p:Nat}(hp:p<xs.size):(SetTable.eraseAt xs p).size=xs.size-1:=by
 grind[SetTable.eraseAt]
theorem ic:(SetTable.insertAt xs p x).size=xs.size+1:=by
 have:=(SetTable.insertAt_perm xs p x).length_eq
 grind
theorem oR:y∈(SetTable.insertAt xs p x).toList<->y=x\/y∈xs.toList:=by rw[(SetTable.insertAt_perm xs p x).mem_iff];simp[or_comm]
theorem uT{x:α}(hp:p<=xs.size)(i:Nat):(SetTable.insertAt xs p x)[i]?=if i<p then xs[i]? else if i=p then some x else xs[i-1]?:=by
 rw[<- S8,VB]
 grind
theorem xC(T:Tab es t)(hs:∀i,t.slot s≠.live i)(x:Nat)(h:(t.put s).1.slot x=.empty):t.slot x=.empty:=by
 have hp:s∉t.place.toList:=λz=>by have:=(ji T.rp).mp z;exact hs _ ((nC T.rp).mpr this)
 have rp':oP (t.put s).1.place:=oQ T.rp hp
 have rd':oP (t.put s).1.dummies:=by
  show oP (if SetTable.has t.dummies s=true then _ else _);split
  ·exact qX T.rd _
  ·exact T.rd
 rw[gG rp' rd']at h;rw[gG T.rp T.rd];obtain⟨h1,h2⟩:=h
 have h1':x≠s/\x∉t.place.toList:=by
  have:x∉(SetTable.insertAt t.place (SetTable.below t.place s) s).toList:=h1;rw[oR,not_or]at this
  grind
 refine⟨h1'.2,λz=>h2 ?_⟩;show x∈(if SetTable.has t.dummies s=true then _ else _:WK).toList;split
 ·rename_i hd;exact(qZ T.rd ((kU T.rd).mp hd)).mpr ⟨z,h1'.1⟩
 grind
structure wy(es:Wy)(t:WM):Prop where
 rp:oP t.place
 rd:oP t.dummies
 sz:t.place.size=es.size
 fl:t.fill<=t.mask
 bp:∀j∈t.place.toList,j<=t.mask
 bd:∀j∈t.dummies.toList,j<=t.mask
 dj:∀j∈t.dummies.toList,j∉t.place.toList
 sm:sizeOk (t.mask+1)=true
 rc:∀(i:Nat) (e:Int×Value) (j:Nat),es[i]?=some e->t.place[i]?=some j->∃n,sq t.mask e.1 n=j/\∀m,m<n->t.slot (sq t.mask e.1 m)≠.empty
theorem wy.fits(T:wy es t):t.fits es.size=true:=by simp[SetTable.fits];exact⟨T.sz,T.fl⟩
theorem wy.tab(T:wy es t)(h:t.fill*5<t.mask*3):Tab es t:=⟨T.rp,T.rd,T.sz,h,T.bp,T.bd,T.dj,T.sm,T.rc⟩
theorem wy.flags(T:wy es t)(h1:t'.mask=t.mask)(h2:t'.place=t.place)(h3:t'.dummies=t.dummies):wy es t':=by obtain⟨a',b',c',d',e',f',l'⟩:=t';subst h1 h2 h3;exact⟨T.rp,T.rd,T.sz,T.fl,T.bp,T.bd,T.dj,T.sm,T.rc⟩
theorem Tab.M4(T:Tab es t):wy es t:=⟨T.rp,T.rd,T.sz,by have:=T.tf;omega,T.bp,T.bd,T.dj,T.sm,T.rc⟩
theorem JB(T:Tab es t)(hs:∀i,t.slot s≠.live i)(hm:s<=t.mask)(hn:sq t.mask h n=s)(hp:∀m,m<n->t.slot (sq t.mask h m)≠.empty) :
  wy (SetTable.insertAt es (t.put s).2 (h,x)) (t.put s).1/\(t.slot s=.dummy->(t.put s).1.fill=t.fill):=by
 have nip:s∉t.place.toList:=λz=>by have:=(ji T.rp).mp z;exact hs _ ((nC T.rp).mpr this)
 have rp':oP (t.put s).1.place:=oQ T.rp nip
 have rd':oP (t.put s).1.dummies:=by
  show oP (if SetTable.has t.dummies s=true then _ else _);split
  ·exact qX T.rd _
  ·exact T.rd
 have mp:∀y,y∈(t.put s).1.place.toList<->y=s\/y∈t.place.toList:=λy=>oR
 have md:∀y,y∈(t.put s).1.dummies.toList->y∈t.dummies.toList/\y≠s:=λy hy=>by
  have hy:y∈(if SetTable.has t.dummies s=true then SetTable.eraseAt t.dummies (SetTable.below t.dummies s)else t.dummies).toList:=hy;split at hy
  ·rename_i hd;exact(qZ T.rd ((kU T.rd).mp hd)).mp hy
  ·rename_i hd;exact⟨hy,λz=>hd ((kU T.rd).mpr (z▸hy))⟩
 have ple:SetTable.below t.place s<=t.place.size:=(jh T.rp s).2.2;have psz:(t.put s).1.place.size=t.place.size+1:=ic;have tf:=T.tf;unfold SetTable.fill at tf;have hmask:7<=t.mask:=by have h:=T.sm;unfold sizeOk at h;simp only[Su,Wu,Td]at h;omega
 have dsz:(t.put s).1.dummies.size<=t.dummies.size:=by
  show(if SetTable.has t.dummies s=true then SetTable.eraseAt t.dummies (SetTable.below t.dummies s)else t.dummies).size<=_;split
  ·rename_i hd;have hb:=(ji T.rd).mp ((kU T.rd).mp hd);rw[gH (TN.mp hb).1];omega
  ·exact Ss _
 refine⟨⟨rp',rd',?_,?_,λj hj=>?_,λj hj=>T.bd j (md j hj).1,λj hj hj'=>?_,T.sm,λi e j hi hj=>?_⟩,λhd=>?_⟩
 ·rw[psz,ic,T.sz]
 ·unfold SetTable.fill;rw[psz];show t.place.size+1+(t.put s).1.dummies.size<=t.mask;omega
 ·rcases(mp j).mp hj with rfl|hj
  ·exact hm
  ·exact T.bp j hj
 ·obtain⟨d1,d2⟩:=md j hj;rcases(mp j).mp hj' with z|z
  ·exact d2 z
  ·exact T.dj j d1 z
 ·have hj':(SetTable.insertAt t.place (SetTable.below t.place s) s)[i]?=some j:=hj;have hi':(SetTable.insertAt es (SetTable.below t.place s) (h,x))[i]?=some e:=hi;rw[uT ple]at hj';rw[uT (by rw[<- T.sz];exact ple)]at hi';have old:∀i',es[i']?=some e->t.place[i']?=some j->∃n,sq t.mask e.1 n=j/\∀m,m<n->(t.put s).1.slot (sq t.mask e.1 m)≠.empty:=λi' a b=>by obtain⟨n',n1,n2⟩:=T.rc i' e j a b;exact⟨n',n1,λm hm' z=>n2 m hm' (xC T hs _ z)⟩
  show ∃n,sq t.mask e.1 n=j/\∀m,m<n->(t.put s).1.slot (sq t.mask e.1 m)≠.empty;by_cases h1:i<SetTable.below t.place s
  ·rw[if_pos h1]at hi' hj';exact old i hi' hj'
  ·rw[if_neg h1]at hi' hj';by_cases h2:i=SetTable.below t.place s
   ·rw[if_pos h2]at hi' hj';cases hi';cases hj';exact⟨n,hn,λm hm' z=>hp m hm' (xC T hs _ z)⟩
   ·rw[if_neg h2]at hi' hj';exact old _ hi' hj'
 ·have hd':=B1 T.rp T.rd hd;have hh:=(kU T.rd).mpr hd';unfold SetTable.fill;rw[psz];have:(t.put s).1.dummies.size=t.dummies.size-1:=by show(if SetTable.has t.dummies s=true then SetTable.eraseAt t.dummies (SetTable.below t.dummies s)else t.dummies).size=_;rw[if_pos hh];exact gH (TN.mp ((ji T.rd).mp hd')).1
  rw[this];have:0<t.dummies.size:=by have:=List.length_pos_of_mem hd';simpa using this
  omega
theorem xD{p:Nat}(hp:p<xs.size)(i:Nat):(SetTable.eraseAt xs p)[i]?=if i<p then xs[i]? else xs[i+1]?:=by
 have se:(SetTable.eraseAt xs p).toList=xs.toList.take p++xs.toList.drop (p+1):=by
  simp_all[SetTable.eraseAt,Vc]
 rw[<- S8,se];have hl:(xs.toList.take p).length=p:=by grind
 by_cases h1:i<p
 ·rw[if_pos h1,Ta (by omega),Vx h1,S8]
 ·rw[if_neg h1,Th (by omega),hl,List.getElem?_drop,S8]
  grind
theorem G2(T:Tab es t)(hi:i<es.size):Tab (SetTable.eraseAt es i) (t.drop i)/\(t.drop i).mask=t.mask/\(t.drop i).led=t.led:=by
 have hip:i<t.place.size:=by grind[T.sz]
 have hj:=SY hip;generalize hjj:t.place[i]=j at hj
 have ed:t.drop i={t with place:=SetTable.eraseAt t.place i,dummies:=SetTable.insertAt t.dummies (SetTable.below t.dummies j) j}:=by
  simp_all[SetTable.drop,hj]
 have jp:j∈t.place.toList:=by rw[<- hjj];simp
 have jd:j∉t.dummies.toList:=λz=>T.dj j z jp;have ib:i=SetTable.below t.place j:=(below_at T.rp hj).symm;have mp:∀y,y∈(SetTable.eraseAt t.place i).toList<->y∈t.place.toList/\y≠j:=λy=>by rw[ib];exact qZ T.rp jp
 have md:∀y,y∈(SetTable.insertAt t.dummies (SetTable.below t.dummies j) j).toList<->y=j\/y∈t.dummies.toList:=λy=>oR;have rp':oP (SetTable.eraseAt t.place i):=qX T.rp _;have rd':oP (SetTable.insertAt t.dummies (SetTable.below t.dummies j) j):=oQ T.rd jd;rw[ed];refine⟨⟨rp',rd',?_,?_,λy hy=>T.bp y ((mp y).mp hy).1,λy hy=>?_,λy hy hy'=>?_,T.sm,λi' e j' h1 h2=>?_⟩,rfl,rfl⟩
 ·show(SetTable.eraseAt t.place i).size=_;rw[gH hip,gH hi,T.sz]
 ·have tf:=T.tf;unfold SetTable.fill at tf ⊢;show((SetTable.eraseAt t.place i).size+(SetTable.insertAt t.dummies (SetTable.below t.dummies j) j).size)*5<t.mask*3;rw[gH hip,ic];omega
 ·rcases(md y).mp hy with rfl|hy
  ·exact T.bp y jp
  ·exact T.bd y hy
 ·obtain⟨a,b⟩:=(mp y).mp hy';rcases(md y).mp hy with z|z
  ·exact b z
  ·exact T.dj y z a
 ·have h2':(SetTable.eraseAt t.place i)[i']?=some j':=h2
  have key:∃i2:Nat,es[i2]?=some e/\t.place[i2]?=some j':=by
   rw[xD hi]at h1;rw[xD hip]at h2';split at h1
   ·rename_i z;rw[if_pos z]at h2';exact⟨_,h1,h2'⟩
   ·rename_i z;rw[if_neg z]at h2';exact⟨_,h1,h2'⟩
  obtain⟨i2,a,b⟩:=key;obtain⟨n,n1,n2⟩:=T.rc i2 e j' a b;refine⟨n,n1,λm hm z=>n2 m hm ?_⟩;have z':SetTable.slot {t with place:=SetTable.eraseAt t.place i,dummies:=SetTable.insertAt t.dummies (SetTable.below t.dummies j) j} (sq t.mask e.1 m)=.empty:=z;rw[gG (t:={t with place:=SetTable.eraseAt t.place i,dummies:=SetTable.insertAt t.dummies (SetTable.below t.dummies j) j}) rp' rd']at z';rw[gG T.rp T.rd];obtain⟨z1,z2⟩:=z';have z2':sq t.mask e.1 m∉(SetTable.insertAt t.dummies (SetTable.below t.dummies j) j).toList:=z2;have z1':sq t.mask e.1 m∉(SetTable.eraseAt t.place i).toList:=z1;rw[md,not_or]at z2';rw[mp]at z1';exact⟨λq=>z1' ⟨q,z2'.1⟩,z2'.2⟩
noncomputable def As(owner:Array (Option Nat))(j:Nat):Prop:=(owner.getD j (some 0)).isNone=false
theorem rf(mask:Nat):∀(k:Nat) (c:Pc),k<=c.more->steps mask k c=⟨c.j+k,c.more-k,c.i,c.pt⟩
 |0,c,_=>by rfl
 |k+1,c,h=>by
  have e:step mask c=⟨c.j+1,c.more-1,c.i,c.pt⟩:=by grind[step]
  simp[steps];rw[e,rf mask k _ (by grind)]
  grind
theorem xE:∀(fuel i pt:Nat),(∃n,n<fuel/\¬ As owner (gE mask n (eI mask i pt)).j) ->
  ∃n,SetTable.layClean.free mask owner fuel i pt=some (steps mask n (eI mask i pt)).j/\¬ As owner (steps mask n (eI mask i pt)).j/\∀m,m<n->As owner (steps mask m (eI mask i pt)).j
 |0,i,pt,⟨n,hn,_⟩=>by omega
 |fuel+1,i,pt,⟨n,hn,hf⟩=>by
  have hre:SetTable.runEnd mask i+1-i=(eI mask i pt).more+1:=by
   show _=SetTable.runEnd mask i-i+1
   grind[SetTable.runEnd]
  simp only[SetTable.layClean.free];rw[hre]
  cases hfi:(List.range ((eI mask i pt).more+1)).find? λk=>(owner.getD (i+k) (some 0)).isNone with
  |some k=>
   dsimp only;obtain⟨h1,h2,h3⟩:=List.find?_range_eq_some.mp hfi;have hk:k<=(eI mask i pt).more:=by have:=TK.mp h2;omega
   have es:∀m,m<=k->(steps mask m (eI mask i pt)).j=i+m:=λm hm=>by rw[rf mask m _ (by omega)];rfl
   refine⟨k,by rw[es k (Ss _)],?_,λm hm=>?_⟩
   ·rw[es k (Ss _)];unfold As;rw[h1];simp
   ·rw[es m (by omega)];have:=h3 m hm;simpa [As]using this
  |none=>
   dsimp only;have h1:=List.find?_range_eq_none.mp hfi;have occ:∀m,m<(eI mask i pt).more+1->As owner (steps mask m (eI mask i pt)).j:=λm hm=>by rw[rf mask m _ (by omega)];have:=h1 m hm;show As owner (i+m);simpa [As]using this
   have hn0:n≠0:=λz=>by subst z;have:=occ 0 (by omega);exact hf this
   obtain⟨n',rfl⟩:∃n',n=n'+1:=⟨n-1,by omega⟩;have tl:=yQ mask (eI mask i pt).more (eI mask i pt) rfl;obtain⟨q,q1,q2,q3⟩:=xE (mask:=mask) (owner:=owner) fuel (SetTable.leap mask i pt).1 (SetTable.leap mask i pt).2 ⟨n',by omega,hf⟩;have es:∀m,steps mask ((eI mask i pt).more+1+m) (eI mask i pt)=steps mask m (eI mask (SetTable.leap mask i pt).1 (SetTable.leap mask i pt).2):=λm=>by rw[nE,tl];rfl
   refine⟨(eI mask i pt).more+1+q,by rw[es];exact q1,by rw[es];exact q2,λm hm=>?_⟩;by_cases hmm:m<(eI mask i pt).more+1
   ·exact occ m hmm
   ·have:=q3 (m-((eI mask i pt).more+1)) (by omega);rw[<- es]at this;rw[show m=(eI mask i pt).more+1+(m-((eI mask i pt).more+1))by omega];exact this
noncomputable def cS(mask:Nat)(owner:Array (Option Nat)):List (Nat×Nat):=(List.range (mask+1)).filterMap λj=>(owner.getD j none).map (j,·)
theorem Au{α β:Type}{f g:α->Option β}:∀{l:List α},(∀x∈l,g x=f x)->l.filterMap g=l.filterMap f
 | [],_=>rfl
 |a::l,h=>by have ih:=Au λx hx=>h x (SE _ hx);rw[List.filterMap_cons,List.filterMap_cons,h a (SK ..),ih]
theorem G3{α β:Type}{f g:α->Option β}{j:α}{v:β}(hf:f j=none)(hg:g j=some v):∀{l:List α},l.Nodup->j∈l->(∀x∈l,x≠j->f x=g x)->List.Perm (l.filterMap g) (v::l.filterMap f)
 | [],_,h,_=>by grind
 |a::l,nd,h,e=>by
  obtain⟨n1,n2⟩:=TC.mp nd;by_cases z:a=j
  ·subst z;rw[U0 hg,List.filterMap_cons_none hf];have:l.filterMap g=l.filterMap f:=Au λx hx=>(e x (SE _ hx) (λq=>n1 (q▸hx))).symm;rw[this]
  ·have hj:j∈l:=by
    grind
   have ih:=G3 hf hg n2 hj λx hx=>e x (SE _ hx);have ea:=e a (SK ..) z
   cases hfa:f a with
   |none=>simp_all
   |some b=>rw[U0 (by rw[<- ea];exact hfa),U0 hfa];exact(ih.cons b).trans (.swap _ _ _)
structure Own(mask:Nat)(hs:List Int)(js:List Nat)(owner:Array (Option Nat)):Prop where
 sz:owner.size=mask+1
 ln:js.length=hs.length
 lv:List.Perm (cS mask owner) (js.zip (List.range hs.length))
 rc:∀(k:Nat) (h:Int) (j:Nat),hs[k]?=some h->js[k]?=some j->∃n,sq mask h n=j/\∀m,m<n->As owner (sq mask h m)
noncomputable def JC(mask:Nat)(acc:Option (Array (Option Nat)×Nat))(h:Int):Option (Array (Option Nat)×Nat):=do
    let (owner,k) <- acc
    let j <- SetTable.layClean.free mask owner (SetTable.turns mask) (SetTable.bits h % (mask+1)) (SetTable.bits h)
    pure (owner.setIfInBounds j (some k),k+1)
theorem G4(hm:sizeOk (mask+1)=true)(O:Own mask hs js owner)(hl:hs.length<=mask)(h:Int) :
  ∃j owner',JC mask (some (owner,hs.length)) h=some (owner',hs.length+1)/\Own mask (hs++[h]) (js++[j]) owner':=by
 have occ_iff:∀j,As owner j<->owner[j]?≠some none:=λj=>by
  unfold As;rw[TJ]
  cases owner[j]? with
  |none=>simp
  |some o=>cases o<;>simp
 have hfree:∃e,e<=mask/\¬ As owner e:=by
  apply Tx;intro z
  have hp:=B3 (mask+1) ((cS mask owner).map (·.1)) λe he=>by
   have ho:As owner e:=Tx λq=>z ⟨e,by omega,q⟩;rw[occ_iff]at ho;have hlt:e<owner.size:=by rw[O.sz];exact he
   rw[SY hlt]at ho
   cases hv:owner[e]with
   |none=>rw[hv]at ho;exact absurd rfl ho
   |some k=>refine SU.mpr ⟨(e,k),Vd.mpr ⟨e,TK.mpr he,?_⟩,rfl⟩;simp[Array.getD,hlt,hv]
  rw[SG,O.lv.length_eq,List.length_zip,O.ln]at hp;simp at hp;omega
 obtain⟨e,he,hne⟩:=hfree;obtain⟨n,hn,en⟩:=xB hm (c:=c0 mask h) (Dx h) he
 obtain⟨q,q1,q2,q3⟩:=xE (mask:=mask) (owner:=owner) (SetTable.turns mask) (SetTable.bits h % (mask+1)) (SetTable.bits h) ⟨n+1,by unfold SetTable.turns;omega,by
  have:(gE mask (n+1) (eI mask (SetTable.bits h % (mask+1)) (SetTable.bits h))).j=e:=en
  rw[this];exact hne⟩
 generalize hj:(steps mask q (eI mask (SetTable.bits h % (mask+1)) (SetTable.bits h))).j=j at q1 q2;have hjn:owner[j]?=some none:=Tx λz=>q2 ((occ_iff j).mpr z);have hjl:j<owner.size:=(TN.mp hjn).1
 have get':∀x,(owner.setIfInBounds j (some hs.length))[x]?=if x=j then some (some hs.length)else owner[x]?:=λx=>by
  rw[Array.getElem?_setIfInBounds];by_cases z:j=x
  ·subst z;simp[hjl]
  ·rw[if_neg z,if_neg (λq=>z q.symm)]
 have occ':∀x,As owner x->As (owner.setIfInBounds j (some hs.length)) x:=λx hx=>by
  unfold As at hx ⊢;rw[TJ]at hx ⊢;rw[get'];by_cases z:x=j
  ·rw[if_pos z];rfl
  ·rw[if_neg z];exact hx
 refine⟨j,owner.setIfInBounds j (some hs.length),?_,⟨by simp[O.sz],by simp[O.ln],?_,λk h' j' a b=>?_⟩⟩
 ·unfold JC;simp only[Option.bind_eq_bind,Option.bind_some];rw[q1];rfl
 ·have hp:List.Perm (cS mask (owner.setIfInBounds j (some hs.length))) ((j,hs.length)::cS mask owner):=by
   refine G3 (j:=j) ?_ ?_ List.nodup_range (TK.mpr (by rw[<- O.sz];exact hjl)) λx _ hx=>?_
   ·rw[TJ,hjn];rfl
   ·rw[TJ,get',if_pos rfl];rfl
   ·rw[TJ,TJ,get',if_neg hx]
  refine hp.trans ((O.lv.cons _).trans ?_);rw[SN,List.length_singleton,List.range_succ,List.zip_append (by simp[O.ln])];exact(List.perm_append_singleton _ _).symm
 ·by_cases z:k<hs.length
  ·rw[Ta z]at a;rw[Ta (by rw[O.ln];exact z)]at b;obtain⟨n',n1,n2⟩:=O.rc k h' j' a b;exact⟨n',n1,λm hm'=>occ' _ (n2 m hm')⟩
  ·have hk:k=hs.length:=by
    have:=(SJ.mp a).1;simp at this;omega
   subst hk;rw[Th (Ss _)]at a;rw[<- O.ln,Th (Ss _)]at b;simp at a b;subst a;subst b;exact⟨q,hj,λm hm'=>occ' _ (q3 m hm')⟩
theorem Dy(hm:sizeOk (mask+1)=true):∀(hs2 hs:List Int) (js:List Nat) (owner:Array (Option Nat)),Own mask hs js owner->(hs++hs2).length<=mask+1 ->
  ∃js' owner',hs2.foldl (JC mask) (some (owner,hs.length))=some (owner',(hs++hs2).length)/\Own mask (hs++hs2) js' owner'
 | [],hs,js,owner,O,_=>⟨js,owner,by simp,by grind⟩
 |h::hs2,hs,js,owner,O,hl=>by
  obtain⟨j,owner',e,O'⟩:=G4 hm O (by grind) h;obtain⟨js',owner2,e2,O2⟩:=Dy hm hs2 _ _ _ O' (by grind);refine⟨js',owner2,?_,by simp_all⟩
  simp_all
theorem Av(mask:Nat)(hashes:Array Int):SetTable.layClean mask hashes=(hashes.toList.foldl (JC mask) (some (Array.replicate (mask+1) none,0))).map (·.1):=by unfold SetTable.layClean;rw[<- Array.foldl_toList];rfl
theorem JD(mask:Nat):Own mask [] [] (Array.replicate (mask+1) none):=by
 refine⟨by simp,rfl,?_,λk h j a=>by simp⟩
 simp_all[cS]
theorem B5{α:Type}{es:Array α}:∀{l:List (Nat×Nat)},(∀p∈l,p.2<es.size)->((l.map (·.2)).filterMap (λk=>es[k]?)).length=l.length/\∀(i:Nat) (p:Nat×Nat),l[i]?=some p->((l.map (·.2)).filterMap (λk=>es[k]?))[i]?=es[p.2]?
 | [],_=>⟨rfl,λi p h=>by grind⟩
 |a::l,h=>by
  obtain⟨h1,h2⟩:=B5 (l:=l) λp hp=>h p (SE _ hp);have ha:=h a (SK ..);rw[SV,U0 (SY ha)];refine⟨by grind,λi p hi=>?_⟩
  cases i with
  |zero=>simp_all
  |succ i=>simpa using h2 i p (by simpa using hi)
theorem Dz{es:Wy}(hm:sizeOk (mask+1)=true)(hn:es.size*5<mask*3)(finger moves:Nat)(led plain:Bool) :
  ∃t' order,SetTable.laid mask finger moves led plain (es.map (·.1))=some (t',order)/\Tab (order.filterMap (es[·]?)) t'/\List.Perm (order.filterMap (es[·]?)).toList es.toList/\t'.mask=mask/\t'.led=led/\List.Perm order.toList (List.range es.size):=by
 obtain⟨js,owner,e,O⟩:=Dy hm (es.map (·.1)).toList [] [] _ (JD mask) (by grind);simp only[TH,Ts]at e O;have hlen:(es.map (·.1)).toList.length=es.size:=by simp
 have hsnd:List.Perm ((cS mask owner).map (·.2)) (List.range es.size):=by have:=O.lv.map (·.2);rw[hlen]at this;refine this.trans ?_;rw[List.map_snd_zip (by rw[O.ln,hlen];simp)]
 have hbelow:∀p∈cS mask owner,p.2<es.size:=λp hp=>by have:=hsnd.mem_iff.mp (SU.mpr ⟨p,hp,rfl⟩);exact TK.mp this
 obtain⟨g1,g2⟩:=B5 (es:=es) hbelow;have hfst:((cS mask owner).map (·.1)).Pairwise (· < ·):=by rw[Vk];unfold cS;rw[List.pairwise_filterMap];refine List.Pairwise.imp ?_ List.pairwise_lt_range;intro a b hab x hx y hy;rw[TB]at hx hy;obtain⟨_,_,rfl⟩:=hx;obtain⟨_,_,rfl⟩:=hy;exact hab
 have hmem:∀p∈cS mask owner,p.1<=mask/\owner.getD p.1 none=some p.2:=λp hp=>by obtain⟨j,hj,ej⟩:=Vd.mp hp;rw[TB]at ej;obtain⟨k,hk,rfl⟩:=ej;exact⟨by have:=TK.mp hj;omega,hk⟩
 refine⟨{mask,place:=((cS mask owner).map (·.1)).toArray,dummies:=#[],finger,led,moves,plain},((cS mask owner).map (·.2)).toArray,?_,?_,?_,rfl,rfl,by simpa using hsnd⟩
 ·unfold SetTable.laid;rw[Av,e];rfl
 ·have efm:((((cS mask owner).map (·.2)).toArray.filterMap (es[·]?)):Array _)=(((cS mask owner).map (·.2)).filterMap (λk=>es[k]?)).toArray:=by simp
  have llen:(cS mask owner).length=es.size:=by have:=hsnd.length_eq;simpa using this
  refine⟨hfst,List.Pairwise.nil,?_,?_,λj hj=>?_,λj hj=>by simp at hj,λj hj=>by simp at hj,hm,λi e' j h1 h2=>?_⟩
  ·rw[efm,S5,S5,g1,SG]
  ·show(((cS mask owner).map (·.1)).toArray.size+0)*5<mask*3;simp only[S5,SG,llen,Nat.add_zero];exact hn
  ·obtain⟨p,hp,rfl⟩:=SU.mp (by simpa using hj:j∈(cS mask owner).map (·.1));exact(hmem p hp).1
  ·rw[efm]at h1;have h2':((cS mask owner).map (·.1))[i]?=some j:=by simpa using h2
   rw[Ua,TB]at h2';obtain⟨p,hp,rfl⟩:=h2';have h1':(((cS mask owner).map (·.2)).filterMap (λk=>es[k]?))[i]?=some e':=by simpa using h1
   rw[g2 i p hp]at h1';have pm:=SX hp;have pz:=O.lv.mem_iff.mp pm;rw[hlen]at pz;obtain⟨k,hk,ek⟩:=U7 pz;rw[List.getElem_zip]at ek;simp only[List.getElem_range]at ek;have ek1:js[k]?=some p.1:=by rw[<- VG Prod.fst ek];exact SH _
   have ek2:p.2=k:=(VG Prod.snd ek).symm;obtain⟨n,n1,n2⟩:=O.rc k e'.1 p.1 (by simp only[Array.toList_map,Ua,S8];rw[<- ek2,h1'];rfl) ek1;refine⟨n,n1,λm hm' z=>?_⟩;have oc:=n2 m hm';have z':SetTable.slot {mask,place:=((cS mask owner).map (·.1)).toArray,dummies:=#[],finger,led,moves,plain} (sq mask e'.1 m)=.empty:=z;rw[gG (t:={mask,place:=((cS mask owner).map (·.1)).toArray,dummies:=#[],finger,led,moves,plain}) hfst List.Pairwise.nil]at z';by_cases hin:sq mask e'.1 m<owner.size
   ·unfold As at oc;rw[TJ,SY hin]at oc;simp only[VW]at oc
    cases hv:owner[sq mask e'.1 m]with
    |none=>rw[hv]at oc;simp at oc
    |some k'=>refine z'.1 ?_;have:sq mask e'.1 m∈(cS mask owner).map (·.1):=SU.mpr ⟨(sq mask e'.1 m,k'),Vd.mpr ⟨_,TK.mpr (by rw[<- O.sz];exact hin),by simp[Array.getD,hin,hv]⟩,rfl⟩;simpa using this
   ·exfalso
    have bound:∀q (c:Pc),c.j+c.more<=mask->(steps mask q c).j+(steps mask q c).more<=mask:=by
     intro q
     induction q with
     |zero=>intro c hc;exact hc
     |succ q ih=>
      intro c hc;simp only[steps];refine ih _ ?_;unfold step;split
      ·show c.j+1+(c.more-1)<=mask;omega
      ·show(SetTable.leap mask c.i c.pt).1+(SetTable.runEnd mask (SetTable.leap mask c.i c.pt).1-(SetTable.leap mask c.i c.pt).1)<=mask;have:(SetTable.leap mask c.i c.pt).1<mask+1:=V2 _ (by omega);unfold SetTable.runEnd;split<;>omega
    have hb:=bound m (c0 mask e'.1) (by
     show SetTable.bits e'.1 % (mask+1)+(SetTable.runEnd mask (SetTable.bits e'.1 % (mask+1))-SetTable.bits e'.1 % (mask+1))<=mask;have:SetTable.bits e'.1 % (mask+1)<mask+1:=V2 _ (by omega);unfold SetTable.runEnd
     split<;>omega)
    have:sq mask e'.1 m<=mask:=by unfold sq;omega
    rw[O.sz]at hin;omega
 grind[Array.toList_filterMap,filterMap_getElem?_range]
theorem kW:∀n,n<1024->(n<SetTable.sizeAbove n/\SetTable.sizeAbove n∈[8,16,32,64,128,256,512,1024]):=by trivial
theorem ET(h:m∈[8,16,32,64,128,256,512,1024]):sizeOk m=true:=by
 obtain⟨a,b,c,d,e,f,g,i⟩:=La;simp at h
 grind
theorem EU{es:Wy}{t:WM}(hw:wanted<1024)(hn:es.size*5<wanted*3\/es.size<=4) :
  ∃t' order,t.relaid (es.map (·.1)) wanted=some (t',order)/\Tab (order.filterMap (es[·]?)) t'/\List.Perm (order.filterMap (es[·]?)).toList es.toList/\t'.led=t.led/\List.Perm order.toList (List.range es.size)/\t'.mask+1=SetTable.sizeAbove wanted/\SetTable.sizeAbove wanted<=1024:=by
 obtain⟨h1,h2⟩:=kW wanted hw;have h8:8<=SetTable.sizeAbove wanted:=by simp[Sz,Tb,UC]at h2;omega
 have e:SetTable.sizeAbove wanted-1+1=SetTable.sizeAbove wanted:=by omega
 obtain⟨t',order,a,b,c,d,f,g⟩:=Dz (es:=es) (by rw[e];exact ET h2) (by omega) t.finger (t.movedTo (SetTable.sizeAbove wanted-1)) t.led t.plain;exact⟨t',order,a,b,c,f,g,by omega,by simp only[Sz,Tb,UC]at h2;omega⟩
end NO
namespace NO
open PySem PySem.Spec L2 Ml
structure El(vp:Value->Prop)(w:World)(h:Heap)(md:Bool)(e:Int×Value)(d:PyData):Prop where
 tr:aG d=true
 dp:d.depth<=8
 so:dQ d=true
 hs:e.1=rR w d
 kd:iu d=md
 rd:∃as,Reads h e.2 d as
 vl:vp e.2
noncomputable abbrev bD(es:Wy)(ep:Nat)(t:WM):Obj:={cls:=.type "set",dict:=none,data:=.set es ep t,slots:=#[]}
noncomputable abbrev cU(w:World):Bool:=w.params.followText "set-order"
structure cI(vp:Value->Prop)(w:World)(h:Heap)(a:Addr)(md:Bool)(ds:WA)(es:Wy)(ep:Nat)(t:WM):Prop where
 ob:h.get? a=some (bD es ep t)
 tb:Tab es t
 ld:t.led=true\/cU w=true
 nd:ds.Nodup
 ln:ds.length<=120
 el:Paired (El vp w h md) es.toList ds
noncomputable def b9(vp:Value->Prop)(w:World)(h:Heap)(a:Addr)(md:Bool)(ds:WA):Prop:=∃es ep t,cI vp w h a md ds es ep t
theorem El.keep(x:El vp w h md e d)(k:∀b o vs n,h.get? b=some o->o.cls=.type "tuple" -> o.data=.seq vs n->h'.get? b=some o):El vp w h' md e d:=
 ⟨x.tr,x.dp,x.so,x.hs,x.kd,let ⟨as,r⟩:=x.rd;⟨as,kl k x.tr r⟩,x.vl⟩
theorem cI.size(S:cI vp w h a md ds es ep t):es.size=ds.length:=by
 have:=SW S.el
 grind
theorem fQ{R:α->β->Prop}:∀{xs:List α} {ys:List β},Paired R xs ys->∀{i:Nat} {x:α},xs[i]?=some x->∃y,ys[i]?=some y/\R x y
 |_,_,.nil,i,x,h=>by simp at h
 |_,_,.cons r _,0,x,h=>by grind
 |_,_,.cons _ t,i+1,x,h=>by simpa using fQ t (by simp_all)
theorem jE{R:α->β->Prop}:∀{xs:List α} {ys:List β},Paired R xs ys->∀{i:Nat} {y:β},ys[i]?=some y->∃x,xs[i]?=some x/\R x y
 |_,_,.nil,i,x,h=>by simp at h
 |_,_,.cons r _,0,x,h=>by grind
 |_,_,.cons _ t,i+1,x,h=>by simpa using jE t (by simp_all)
theorem cI.get(S:cI vp w h a md ds es ep t){i:Nat}{e:Int×Value}(he:es[i]?=some e):∃d,ds[i]?=some d/\El vp w h md e d:=by rw[<- S8]at he;exact fQ S.el he
section
variable {P:WL} {w:World} {A:WN} {E:Wv} {s:WO} {vp:Value->Prop}
theorem OU(x:El vp w s.heap md e d)(y:El vp w s.heap md' e' d')(hu:A.units+20<cLine)(h:Q (decide (d=d')) s):wpAny (model P w) A (eqBool e.2 e'.2) Q E s:=by
 obtain⟨as,r1⟩:=x.rd;obtain⟨bs,r2⟩:=y.rd
 have hq:PyData.eqv d d'=decide (d=d'):=by
  by_cases z:d=d'
  ·subst z;rw[Tn rfl];exact aU (bf x.tr)
  ·rw[Tr z];exact aZ (bf x.tr) (bf y.tr) z
 have:=VX d d' A s _ _ _ _ r1 r2 (jX x.so (cN (bf x.tr))) (jX y.so (cN (bf y.tr))) (by have:=x.dp;omega) P w E Q
 grind
mutual
theorem mP:∀(d:PyData) (n:Nat) (A:WN) (s:WO) (v:Value) (as:WB) (Q:Bool->WO->Prop) (E:Wv),aG d=true->d.depth<=n->Reads s.heap v d as->Q false s->wpAny (model P w) A (ofAClassStatement n v) Q E s
 |.str x,n,A,s,v,as,Q,E,_,_,r,h=>by cases r;unfold ofAClassStatement;exact Sn h
 |.tuple ds,n,A,s,v,as,Q,E,t,hn,r,h=>by
  cases r with
  |tuple ho hc hd hi=>
   rename_i a o items k;have hT:s.TypeIs (.ref a) "tuple" := ⟨o,ho,hc⟩;simp only[aG]at t;simp only[PyData.depth]at hn;obtain⟨m,rfl⟩:∃m,n=m+1:=⟨n-1,by omega⟩;unfold ofAClassStatement;refine Sm (Vz hT ?_);show wpAny _ _ (if("tuple" == "tuple")=true then _ else _) _ _ s;rw[if_pos (by decide)];refine Sm (Sn ?_);simp only[UK,SF,Tz];refine Sm (TY ho hd ?_);refine Sm ?_;show wpAny _ _ (forIn items _ _) _ _ s;rw[<- Ut];refine og ds m A s items.toList _ _ E _ t (by omega) hi ?_ ?_
   ·intro x s' R k;refine Sm (TZ k (λc s2 q=>?_) λ_ _ z=>z);obtain⟨rfl,q⟩:=q;simp only[SF,Tz];exact Sn q
   ·exact Sn h
 |.none,_,_,_,_,_,_,_,t,_,_,_=>by simp[aG]at t
 |.bool _,_,_,_,_,_,_,_,t,_,_,_=>by simp[aG]at t
 |.int _,_,_,_,_,_,_,_,t,_,_,_=>by simp[aG]at t
 |.list _,_,_,_,_,_,_,_,t,_,_,_=>by simp[aG]at t
 |.dict _,_,_,_,_,_,_,_,t,_,_,_=>by simp[aG]at t
theorem og:∀(ds:WA) (n:Nat) (A:WN) (s:WO) (vs:WC) (as:WB) (R:Option Bool×Unit->WO->Prop) (E:Wv) (body:Value->Option Bool×Unit->Sem (ForInStep (Option Bool×Unit))),bE ds=true->PyData.depthAll ds<=n->ReadsAll s.heap vs ds as ->
  (∀(x:Value) (s':WO) (R':ForInStep (Option Bool×Unit)->WO->Prop),wpAny (model P w) A (ofAClassStatement n x) (λc s2=>c=false/\R' (.yield (none,())) s2) E s'->wpAny (model P w) A (body x (none,())) R' E s') ->
  R (none,()) s->wpAny (model P w) A (forIn vs (none,()) body) R E s
 | [],n,A,s,_,_,R,E,body,_,_,.nil,hb,h=>by rw[Va];exact Sn h
 |d::ds,n,A,s,_,_,R,E,body,t,hn,.cons r1 r2,hb,h=>by simp only[bE,Su]at t;simp only[PyData.depthAll]at hn;rw[Ue];refine Sm (hb _ _ _ (mP d n A s _ _ _ E t.1 (by omega) r1 ⟨rfl,?_⟩));exact og ds n A s _ _ R E body t.2 (by omega) r2 hb h
end
theorem xF{G:Value->Prop}{R:Option Bool×Unit->WO->Prop}(hb:∀y,G y->∀R':ForInStep (Option Bool×Unit)->WO->Prop,R' (.yield (none,())) s->wpAny (model P w) A (body y (none,())) R' E s) :
  ∀ys:WC,(∀y∈ys,G y)->R (none,()) s->wpAny (model P w) A (forIn ys (none,()) body) R E s
 | [],_,h=>Sn h
 |y::ys,g,h=>by rw[Ue];refine Sm (hb y (g y (SK ..)) _ ?_);exact xF hb ys (λz hz=>g z (SE _ hz)) h
theorem G5(hx:El vp w s.heap md (h0,x) d)(hq:Q false s)(ys:WC)(hys:∀y∈ys,∃h1 d1,El vp w s.heap md (h1,y) d1):wpAny (model P w) A (searchCouldBeSeen x ys) Q E s:=by
 unfold searchCouldBeSeen;refine Sm (xF (G:=λy=>∃h1 d1,El vp w s.heap md (h1,y) d1) (λy gy R' hR=>?_) ys hys (Sn hq));obtain⟨h1,d1,hy⟩:=gy;obtain⟨as,r1⟩:=hx.rd;obtain⟨bs,r2⟩:=hy.rd;dsimp only;refine Tt (λ_=>Sn hR) λ_=>?_
 ·skip
  refine Sm (jA d 8 A s x as _ E hx.tr hx.dp r1 ?_);simp only[UK,SF,Tz];refine Sm (jA d1 8 A s y bs _ E hy.tr hy.dp r2 ?_);simp only[UK,SF,Tz];refine Sm (mP d 8 A s x as _ E hx.tr hx.dp r1 ?_);simp only[SF,Tz];refine Sm (mP d1 8 A s y bs _ E hy.tr hy.dp r2 ?_);simp only[SF,Tz];exact Sn hR
theorem Aw(x:El vp w h true e d):isSame e.2 e.2=pure true:=by
 obtain⟨as,r⟩:=x.rd;have k:=x.kd;obtain⟨e1,v⟩:=e;dsimp only at r ⊢
 cases r with
 |tuple=>exact if_pos (beq_self_eq_true _)
 |_=>simp[iu]at k
noncomputable def NP(es:Wy)(i:Nat):Int:=(es[i]?.map (·.1)).getD 0
theorem cb(ho:s.heap.get? a=some (bD es ep t))(hf:t.fits es.size=true)(h:Q (es,ep,t) s):wpAny (model P w) A (setState a) Q E s:=wpAny_setState_of ho rfl hf h
noncomputable def cG(t:WM)(h:Int)(slot:Nat)(wd:Bool):Prop:=(t.slot slot=if wd=true then .dummy else .empty)/\∃n,sq t.mask h n=slot/\∀m,m<n->t.slot (sq t.mask h m)≠.empty
theorem uU(S:cI vp w s.heap a true ds es ep t)(hx:El vp w s.heap true (h0,x) d)(hu:A.units+20<cLine)
 (hN:t.slot (sq t.mask h0 N)=.empty)(hne:∀m,m<N->t.slot (sq t.mask h0 m)≠.empty)(hNl:N<10*SetTable.turns t.mask)
 (q1:d∉ds->∀slot wd,cG t h0 slot wd->Q (.free slot wd) s)(q2:d∈ds->∀i,ds[i]?=some d->Q (.there (if adding=true then none else some i)) s) :
  ∀(fuel n:Nat) (st:Option SetTable.Probe),n<=N->N-n<fuel->pc (st.getD (t.probeStart h0))=steps t.mask n (c0 t.mask h0)->Dm t h0 n (st.getD (t.probeStart h0)).dummy ->
   (∀m,m<n->∀i,t.slot (sq t.mask h0 m)=.live i->ds[i]?≠some d)->wpAny (model P w) A (setSearchFrom a x h0 adding fuel st) Q E s
 |0,n,st,h1,h2,h3,h4,h5=>by omega
 |fuel+1,n,st,h1,h2,h3,h4,h5=>by
  have T:=S.tb;have hsh:∀(i:Nat) (e:Int×Value),es[i]?=some e->NP es i=e.1:=λi e he=>by unfold NP;rw[he];rfl
  have hlive:∀(j i:Nat),t.slot j=.live i->∃e d',es[i]?=some e/\ds[i]?=some d'/\El vp w s.heap true e d':=λj i hl=>by
   have hp:=(nC T.rp).mp hl;have hi:i<es.size:=by rw[<- T.sz];exact(TN.mp hp).1
   obtain⟨d',h1,h2⟩:=S.get (SY hi);exact⟨es[i],d',SY hi,h1,h2⟩
  have hdiff:∀(m i:Nat),t.slot (sq t.mask h0 m)=.live i->NP es i≠h0->ds[i]?≠some d:=λm i hl hh z=>by obtain⟨e,d',e1,e2,e3⟩:=hlive _ i hl;rw[e2]at z;cases z;rw[hsh i e e1,e3.hs]at hh;exact hh hx.hs.symm
  unfold setSearchFrom;refine Sm (cb S.ob T.fits ?_);dsimp only;rw[T.odd];simp only[SF,Tz];have hg:=tJ (hashAt:=NP es) hN hne (10*SetTable.turns t.mask) n (st.getD (t.probeStart h0)) h1 (by omega) h3 h4;have hpr:∀met,SetTable.probe.go t (NP es) h0 (10*SetTable.turns t.mask) (st.getD (t.probeStart h0))=some met->t.probe (NP es) h0 (st.getD (t.probeStart h0))=some met:=λ_ e=>e;rcases hg with⟨dm,e1,e2,e3⟩|⟨k,i,q,e1,e2,e3,e4,e5,e6,e7,e8⟩
  ·
   have hnd:d∉ds:=λhm=>by
    obtain⟨i,hi⟩:=TU hm;obtain⟨e,he,hel⟩:=jE S.el hi;rw[S8]at he;have hil:i<t.place.size:=by rw[T.sz];exact(TN.mp he).1
    obtain⟨n',n1,n2⟩:=T.rc i e t.place[i] he (SY hil);have hh:e.1=h0:=hel.hs.trans hx.hs.symm;rw[hh]at n1 n2;have hsl:t.slot (sq t.mask h0 n')=.live i:=(nC T.rp).mpr (by rw[n1];exact SY hil)
    have hnN:n'<N:=by
     apply Tx;intro z;by_cases z2:n'=N
     ·rw[z2,hN]at hsl;cases hsl
     ·exact n2 N (by omega) hN
    by_cases z:n'<n
    ·exact h5 n' z i hsl hi
    ·exact e3 n' (by omega) hnN i hsl (by rw[hsh i e he];exact hh)
   split
   case h_2 hno=>exact absurd (hpr _ e1) (hno _)
   rename_i met hmet;have hme:=hmet.symm.trans (hpr _ e1);cases hme;dsimp only;rcases e2 with rfl|⟨m,m1,rfl,m3⟩
   ·exact Sn (q1 hnd _ false ⟨by simpa using hN,N,rfl,hne⟩)
   ·dsimp only;rw[m3];have:(adding&&(SetTable.Slot.dummy != SetTable.Slot.dummy))=false:=by cases adding<;>rfl
    rw[this];simp only[SF,Tz];exact Sn (q1 hnd _ true ⟨by simpa using m3,m,rfl,λm' hm'=>hne m' (by omega)⟩)
  ·
   split
   case h_2 hno=>exact absurd (hpr _ e1) (hno _)
   rename_i met hmet;have hme:=hmet.symm.trans (hpr _ e1);cases hme;dsimp only;obtain⟨e,d',f1,f2,f3⟩:=hlive _ i e4
   have go:wpAny (model P w) A (do
     let some (_,y):=es[i]? | unsupported "internal:set-entry"
     let equal <- holding [y] (eqBool y x)
     let (es',_,t') <- setState a
     if adding&&equal then return SetFound.there none
     let some same:=t'.sameMemory t.moves t.mask|unsupported "set.changed-during-lookup:is-the-new-block-at-the-old-address"
     let still <- match (if same then t'.slot (sq t.mask h0 k)else .empty)with
      |.live i'=>match es'[i']? with
       |some (_,y')=>do pure (if <- isSame y' y then some i' else none)
       |none=>pure none
      |_=>pure none
     match still with
     |none=>rule "set.search.anew";setSearchFrom a x h0 adding fuel none
     |some i'=>if equal then return .there (some i')else setSearchFrom a x h0 adding fuel (some q)) Q E s:=by
    rw[f1];obtain⟨he,y⟩:=e;dsimp only;refine Sm (Tf (OU f3 hx hu ?_));refine Sm (cb S.ob T.fits ?_);dsimp only;have hsm:t.sameMemory t.moves t.mask=some true:=by unfold SetTable.sameMemory;simp
    by_cases z:d'=d
    ·subst z;have hm:d'∈ds:=SX f2;have Q2:=q2 hm i f2
     cases adding with
     |true=>simp only[decide_true,Wm,Tg]at Q2 ⊢;exact Sn Q2
     |false=>simp only[VQ,SF,Tz]at Q2 ⊢;rw[hsm];dsimp only;rw[if_pos rfl,e4];dsimp only;rw[f1];dsimp only;refine Sm (U6 (a:=true) (Aw f3) ?_);refine Sm (Sn ?_);simp only[decide_true,Tg];exact Sn Q2
    ·simp only[Tr z,Bool.and_false,SF,Tz];rw[hsm];dsimp only;rw[if_pos rfl,e4];dsimp only;rw[f1];dsimp only;refine Sm (U6 (a:=true) (Aw f3) ?_);refine Sm (Sn ?_);simp only[Tg];refine uU S hx hu hN hne hNl q1 q2 fuel (k+1) (some q) (by omega) (by omega) e6 e7 λm hm i' hi'=>?_;by_cases z1:m<n
     ·exact h5 m z1 i' hi'
     ·by_cases z2:m=k
      ·subst z2;rw[e4]at hi';cases hi';rw[f2];exact λq=>z (UB q)
      ·exact hdiff m i' hi' (e8 m (by omega) (by omega) i' hi')
   by_cases hl:t.led=true
   ·rw[hl];simp only[UK,SF,Tz];exact go
   ·have hl':t.led=false:=by simpa using hl
    rw[hl'];simp only[We,Tg];refine Sm (G5 hx ?_ _ λy hy=>?_)
    ·simp only[SF,Tz];exact go
    ·obtain⟨e',he',rfl⟩:=SU.mp hy;have hm:e'∈es.toList:=by have:=he';simp at this;simpa using this.1
     obtain⟨i',hi'⟩:=TU hm;obtain⟨d2,_,hd2⟩:=fQ S.el hi';exact⟨e'.1,d2,hd2⟩
end
theorem sC{R:α->β->Prop}:∀{xs:List α} {ys:List β} (p:Nat),Paired R xs ys->Paired R (xs.take p) (ys.take p)/\Paired R (xs.drop p) (ys.drop p)
 |_,_,0,h=>⟨.nil,by grind⟩
 |_,_,p+1,.nil=>⟨.nil,.nil⟩
 |_,_,p+1,.cons r t=>by obtain⟨a,b⟩:=sC p t;exact⟨.cons r a,by grind⟩
theorem uV{R:α->β->Prop}:∀{xs us:List α} {ys vs:List β},Paired R xs ys->Paired R us vs->Paired R (xs++us) (ys++vs)
 |_,_,_,_,.nil,h=>h
 |_,_,_,_,.cons r t,h=>.cons r (uV t h)
theorem wz{R:α->β->Prop}(p:Nat)(h:Paired R xs.toList ys)(r:R x y):Paired R (SetTable.insertAt xs p x).toList (ys.take p++y::ys.drop p):=by rw[VB];obtain⟨a,b⟩:=sC p h;exact uV a (.cons r b)
theorem ie{R:α->β->Prop}(p:List.Perm xs xs'):∀{ys:List β},Paired R xs ys->∃ys',List.Perm ys ys'/\Paired R xs' ys':=by
 induction p with
 |nil=>exact λh=>⟨_,.refl _,h⟩
 |cons x _ ih=>
  intro ys h
  cases h with
  |cons r t=>obtain⟨ys',a,b⟩:=ih t;exact⟨_,a.cons _,.cons r b⟩
 |swap x y l=>
  intro ys h
  cases h with
  |cons r t=>
   cases t with
   |cons r' t=>exact⟨_,.swap _ _ _,.cons r' (.cons r t)⟩
 |trans _ _ ih1 ih2=>intro ys h;obtain⟨y1,a,b⟩:=ih1 h;obtain⟨y2,c,d⟩:=ih2 b;exact⟨y2,a.trans c,d⟩
theorem uW(ds:WA)(p:Nat)(d:PyData):List.Perm (ds.take p++d::ds.drop p) (d::ds):=by have:=UL p ds;exact List.perm_middle.trans (by grind)
theorem nF{ds ds':WA}(p:List.Perm ds ds')(h:ds.Nodup):ds'.Nodup:=p.nodup_iff.mp h
section
variable {P:WL} {w:World} {A:WN} {E:Wv} {s:WO} {vp:Value->Prop}
theorem El.text(x:El vp w h false e d):∃y t,d=.str y/\e.2=.str y t/\e.1=hashStr w y:=by
 obtain⟨as,r⟩:=x.rd;have k:=x.kd;have t:=x.tr;have hs:=x.hs;obtain⟨e1,v⟩:=e
 cases r with
 |str y u=>exact⟨y,u,rfl,rfl,hs⟩
 |tuple=>trivial
 |_=>trivial
theorem El.refs(x:El vp w h true e d):∃a,e.2=.ref a:=by
 obtain⟨as,r⟩:=x.rd;have k:=x.kd;obtain⟨e1,v⟩:=e
 cases r with
 |tuple=>grind
 |_=>trivial
theorem uX(p:Paired (El vp w h false) es ds):ElemsOf (strKind P w) es:=by intro e he;obtain⟨i,hi⟩:=TU he;obtain⟨d,_,x⟩:=fQ p hi;obtain⟨y,t,e1,e2,e3⟩:=x.text;exact⟨⟨y,by rw[e2];show Value.isStrOf y (.str y t)=true;simp[Value.isStrOf],e3⟩,by rw[e2];rfl⟩
theorem Ax(p:Paired (El vp w h false) es ds)(y:Str) :
  match es.findIdx? (λe=>(strKind P w).is y e.2)with
  |some j=>ds[j]?=some (.str y)
  |none=>PyData.str y∉ds:=by
 have hk:∀{e:Int×Value} {d:PyData},El vp w h false e d->((strKind P w).is y e.2=true<->d=.str y):=λ{e d} x=>by
  obtain⟨z,t,rfl,e2,_⟩:=x.text;rw[e2];show Value.isStrOf y (.str z t)=true<->_;constructor
  ·intro q;obtain⟨u,hu⟩:=Value.isStrOf_shape q
   grind
  grind[Value.isStrOf]
 cases hr:es.findIdx? (λe=>(strKind P w).is y e.2)with
 |some j=>obtain⟨hj,hp,_⟩:=List.findIdx?_eq_some_iff_getElem.mp hr;obtain⟨d,h1,h2⟩:=fQ p (SH hj);show ds[j]?=_;rw[h1,(hk h2).mp hp]
 |none=>
  intro hm;obtain⟨i,hi⟩:=TU hm;obtain⟨e,h1,h2⟩:=jE p hi;have:=List.findIdx?_eq_none_iff.mp hr e (SX h1)
  grind
theorem cI.scan(S:cI vp w h a false ds es ep t)(hx:x=.str y u):byScan x es=true:=
 byScan_of (knd:=strKind default w) (by rw[hx];rfl) (by rw[S.size];have:=S.ln;show _<4096;omega) (uX S.el)
theorem G6:byScan (.ref b) es=false:=rfl
theorem tF(S:cI vp w s.heap a md ds es ep t)(hx:El vp w s.heap md (h0,x) d)(hu:A.units+20<cLine)
 (q1:d∉ds->Q none s)(q2:∀i,ds[i]?=some d->Q (some i) s):wpAny (model P w) A (setFind a x h0) Q E s:=by
 unfold setFind setFindIn;refine Sm (cb S.ob S.tb.fits ?_);dsimp only
 cases md with
 |true=>obtain⟨b,hb⟩:=hx.refs;dsimp only at hb;subst hb;rw[G6];simp only[SF,Tz];obtain⟨N,n1,n2,n3⟩:=S.tb.free h0;unfold setSearch;have hle:=S.tb.le;refine Sm (uU (N:=N) S hx hu n2 n3 (by unfold SetTable.turns;omega) (λhn slot wd _=>Sn (q1 hn)) (λ_ i hi=>Sn (q2 i hi)) 100000 0 none (by omega) (by omega) rfl (.inl rfl) λm hm=>by omega)
 |false=>
  obtain⟨y,u,rfl,e2,e3⟩:=hx.text;dsimp only at e2 e3;rw[S.scan e2];simp only[Tg];refine Sm (UA ?_);have hk:(strKind P w).is y x=true:=by rw[e2];show Value.isStrOf y (.str y u)=true;simp[Value.isStrOf]
  rw[e3];refine Sm (wpAny_setScan_of (knd:=strKind P w) hk S.ob rfl S.tb.fits (uX S.el) ?_);have ti:=Ax (P:=P) S.el y
  cases hr:es.toList.findIdx? (λe=>(strKind P w).is y e.2)with
  |some j=>rw[hr]at ti;dsimp only at ti ⊢;refine Sn ?_;rw[Nat.zero_add];exact q2 j ti
  |none=>rw[hr]at ti;dsimp only at ti ⊢;exact Sn (q1 ti)
end
section
variable {P:WL} {w:World} {A:WN} {E:Wv} {s:WO} {vp:Value->Prop}
theorem pV{α:Type}{body:α->Option Bool×Unit->Sem (ForInStep (Option Bool×Unit))}{G:α->Prop}{R:Option Bool×Unit->WO->Prop}(hb:∀y,G y->∀R':ForInStep (Option Bool×Unit)->WO->Prop,R' (.yield (none,())) s->R' (.done (some false,())) s->wpAny (model P w) A (body y (none,())) R' E s) :
  ∀ys:List α,(∀y∈ys,G y)->R (none,()) s->R (some false,()) s->wpAny (model P w) A (forIn ys (none,()) body) R E s
 | [],_,h,_=>Sn h
 |y::ys,g,h,h'=>by
  rw[Ue];refine Sm (hb y (g y (SK ..)) _ ?_ ?_)
  ·exact pV hb ys (λz hz=>g z (SE _ hz)) h h'
  ·exact Sn h'
mutual
theorem xG:∀(d:PyData) (n:Nat) (v:Value) (as:WB) (Q:Bool->WO->Prop),aG d=true->d.depth<=n->Reads s.heap v d as->(∀b,Q b s)->wpAny (model P w) A (hashByValue n v) Q E s
 |.str x,n,v,as,Q,_,_,r,h=>by
  cases r;have:hashByValue n (.str x ‹_›)=pure false:=by cases n<;>rfl
  rw[this];exact Sn (h _)
 |.tuple ds,n,v,as,Q,t,hn,r,h=>by
  cases r with
  |tuple ho hc hd hi=>
   rename_i a o items k;have hT:s.TypeIs (.ref a) "tuple" := ⟨o,ho,hc⟩;simp only[aG]at t;simp only[PyData.depth]at hn;obtain⟨m,rfl⟩:∃m,n=m+1:=⟨n-1,by omega⟩;unfold hashByValue;refine Sm (UW hT Vj.lookup ?_);dsimp only;refine Sm (TY ho hd ?_);simp only[VW];refine Sm ?_;rw[<- Ut];refine pV (G:=λy=>∃d' as',aG d'=true/\d'.depth<=m/\Reads s.heap y d' as'/\∀Q':Bool->WO->Prop,(∀b,Q' b s)->wpAny (model P w) A (hashByValue m y) Q' E s) (λy ⟨d',as',g1,g2,g3,g4⟩ R' r1 r2=>?_) items.toList ?_ (Sn (h _)) (Sn (h _))
   ·refine Sm (g4 _ λb=>?_);cases b
    ·exact Sn r2
    ·exact Sn r1
   ·exact uY ds m items.toList _ t (by omega) hi
 |.none,_,_,_,_,t,_,_,_=>by simp[aG]at t
 |.bool _,_,_,_,_,t,_,_,_=>by simp[aG]at t
 |.int _,_,_,_,_,t,_,_,_=>by simp[aG]at t
 |.list _,_,_,_,_,t,_,_,_=>by simp[aG]at t
 |.dict _,_,_,_,_,t,_,_,_=>by simp[aG]at t
theorem uY:∀(ds:WA) (m:Nat) (vs:WC) (as:WB),bE ds=true->PyData.depthAll ds<=m->ReadsAll s.heap vs ds as->∀y∈vs,∃d' as',aG d'=true/\d'.depth<=m/\Reads s.heap y d' as'/\∀Q':Bool->WO->Prop,(∀b,Q' b s)->wpAny (model P w) A (hashByValue m y) Q' E s
 | [],m,_,_,_,_,.nil,y,hy=>by simp at hy
 |d::ds,m,_,_,t,hn,.cons r1 r2,y,hy=>by
  simp only[bE,Su]at t;simp only[PyData.depthAll]at hn;rcases Sz.mp hy with rfl|hy
  ·exact⟨d,_,t.1,by omega,r1,λQ' h=>xG d m _ _ Q' t.1 (by omega) r1 h⟩
  ·exact uY ds m _ _ t.2 (by omega) r2 y hy
end
theorem RJ(x:El vp w s.heap md e d)(h:∀b,Q b s):wpAny (model P w) A (hashByValue 8 e.2) Q E s:=by obtain⟨as,r⟩:=x.rd;exact xG d 8 _ as Q x.tr x.dp r h
theorem eh(ho:h.get? a=some (bD es ep t))(sb:Heap.SameBut a h h'):∀b o vs n,h.get? b=some o->o.cls=.type "tuple" -> o.data=.seq vs n->h'.get? b=some o:=λb o vs n e c _=>by
 refine(sb.2 b λz=>?_).trans e
 grind
theorem ig(ho:s.heap.get? a=some (bD es ep t))(hz:es'.size<=1000)
 (h:∀h',h'.get? a=some (bD es' (ep+1) t')->Heap.SameBut a s.heap h'->Q () {s with heap:=h'}):wpAny (model P w) A (storeSet a es' t') Q E s:=by
 refine wpAny_storeSet_of ho rfl (h _ ?_ (Vs ..)) (by grind[sizeLine_eq]);have:=Ur (Obj.putSet es' t') ho (by rfl);rw[putSet_of es' t' rfl]at this
 grind
structure pW(vp:Value->Prop)(w:World)(h:Heap)(md:Bool)(ds:WA)(es:Wy)(t:WM):Prop where
 tb:wy es t
 ld:t.led=true\/cU w=true
 nd:ds.Nodup
 ln:ds.length<=120
 el:Paired (El vp w h md) es.toList ds
theorem pW.size(S:pW vp w h md ds es t):es.size=ds.length:=by
 have:=SW S.el
 grind
theorem pW.keep(S:pW vp w h md ds es t)(k:∀b o vs n,h.get? b=some o->o.cls=.type "tuple" -> o.data=.seq vs n->h'.get? b=some o):pW vp w h' md ds es t:=
 ⟨S.tb,S.ld,S.nd,S.ln,Paired.kD S.el λ_ _ x=>El.keep x k⟩
theorem uZ(S:cI vp w h a md ds es ep t)(hx:El vp w h md (h0,x) d)(hn:d∉ds)(hl:ds.length<120)(R:cG t h0 slot wd)(pl:Bool) :
  ∃ds',List.Perm ds' (d::ds)/\pW vp w h md ds' (SetTable.insertAt es (t.put slot).2 (h0,x)) {(t.put slot).1 with plain:=pl}/\((!wd&&({(t.put slot).1 with plain:=pl}:WM).tooFull)=false->({(t.put slot).1 with plain:=pl}:WM).fill*5<({(t.put slot).1 with plain:=pl}:WM).mask*3):=by
 obtain⟨r1,n,r2,r3⟩:=R;have hs:∀i,t.slot slot≠.live i:=λi z=>by grind
 have hm:slot<=t.mask:=by
  rw[<- r2];unfold sq
  have bound:∀q (c:Pc),c.j+c.more<=t.mask->(steps t.mask q c).j+(steps t.mask q c).more<=t.mask:=by
   intro q
   induction q with
   |zero=>intro c hc;exact hc
   |succ q ih=>
    intro c hc;simp only[steps];refine ih _ ?_;unfold step;split
    ·show c.j+1+(c.more-1)<=t.mask;omega
    ·show(SetTable.leap t.mask c.i c.pt).1+(SetTable.runEnd t.mask (SetTable.leap t.mask c.i c.pt).1-(SetTable.leap t.mask c.i c.pt).1)<=t.mask;have:(SetTable.leap t.mask c.i c.pt).1<t.mask+1:=V2 _ (by omega);unfold SetTable.runEnd;split<;>omega
  have hb:=bound n (c0 t.mask h0) (by
   show SetTable.bits h0 % (t.mask+1)+(SetTable.runEnd t.mask (SetTable.bits h0 % (t.mask+1))-SetTable.bits h0 % (t.mask+1))<=t.mask;have:SetTable.bits h0 % (t.mask+1)<t.mask+1:=V2 _ (by omega);unfold SetTable.runEnd
   split<;>omega)
  omega
 obtain⟨T1,T2⟩:=JB (x:=x) S.tb hs hm r2 r3;refine⟨_,uW ds (t.put slot).2 d,⟨T1.flags rfl rfl rfl,S.ld,?_,?_,wz _ S.el hx⟩,λhq=>?_⟩
 ·exact nF (uW ds _ d).symm (TC.mpr ⟨hn,S.nd⟩)
 ·rw[(uW ds _ d).length_eq];simp;omega
 ·cases wd with
  |true=>have:=T2 (by simpa using r1);show(t.put slot).1.fill*5<t.mask*3;rw[this];exact S.tb.tf
  |false=>simp only[We,Bool.true_and]at hq;unfold SetTable.tooFull at hq;simp only[decide_eq_false_iff_not]at hq;exact Nat.lt_of_not_le hq
theorem sD(S:pW vp w h md ds es t)(hw:wanted<1024)(hn:es.size*5<wanted*3\/es.size<=4) :
  ∃t' order ds',t.relaid (es.map (·.1)) wanted=some (t',order)/\List.Perm ds' ds/\pW vp w h md ds' (order.filterMap (es[·]?)) t'/\Tab (order.filterMap (es[·]?)) t'/\List.Perm order.toList (List.range es.size)/\t'.mask+1=SetTable.sizeAbove wanted:=by
 obtain⟨t',order,e1,e2,e3,e4,e5,e6,_⟩:=EU hw hn;obtain⟨ds',p1,p2⟩:=ie e3.symm S.el;exact⟨t',order,ds',e1,p1.symm,⟨e2.M4,by rw[e4];exact S.ld,nF p1 S.nd,by rw[<- p1.length_eq];exact S.ln,p2⟩,e2,e5,e6⟩
theorem Ay(h:n<=121):SetTable.grown n<1024/\(n*5<SetTable.grown n*3\/n<=4):=by
 grind[SetTable.grown]
theorem pW.at(S:pW vp w h md ds es t)(T:Tab es t)(ho:h.get? a=some (bD es ep t)):cI vp w h a md ds es ep t:=⟨ho,T,S.ld,S.nd,S.ln,S.el⟩
theorem Az(ho:s.heap.get? a=some (bD es ep t))(S:pW vp w s.heap md ds es t)(hw:wanted<1024)(hn:es.size*5<wanted*3\/es.size<=4)
 (h:∀h' ds' es' ep' t',Heap.SameBut a s.heap h'->cI vp w h' a md ds' es' ep' t'->List.Perm ds' ds->t'.mask+1=SetTable.sizeAbove wanted->Q () {s with heap:=h'}):wpAny (model P w) A (setRelay a wanted) Q E s:=by
 unfold setRelay;refine Sm (cb ho S.tb.fits ?_);dsimp only;have hsz:=(kW wanted hw).2;have hsl:¬ SetTable.sizeAbove wanted>sizeLine:=by rw[Ul];simp only[Sz,Tb,UC]at hsz;omega
 rw[if_neg hsl];obtain⟨t',order,ds',e1,e2,e3,e4,_,e5⟩:=sD S hw hn;refine Sm ?_;rw[e1];show wpAny _ _ (if((order.filterMap (es[·]?)).size != es.size)=true then _ else pure (order.filterMap (es[·]?),t')) _ _ _;have hse:(order.filterMap (es[·]?)).size=es.size:=by rw[e3.size,S.size,e2.length_eq]
 rw[if_neg (by simp[hse])];refine Sn ?_;dsimp only;refine ig ho (by rw[hse,S.size];have:=S.ln;omega) λh' g1 g2=>?_;exact h h' ds' _ _ t' g2 ((e3.keep (eh ho g2)).at e4 g1) e2 e5
end
section
variable {P:WL} {w:World} {A:WN} {E:Wv} {s:WO} {vp:Value->Prop}
theorem G7(S:cI vp w s.heap a md ds es ep t)(hx:El vp w s.heap md (h0,x) d)(hn:d∉ds)(hl:ds.length<120)(R:cG t h0 slot wd)(pl:Bool)
 (q:∀h' ds',Heap.SameBut a s.heap h'->b9 vp w h' a md ds'->List.Perm ds' (d::ds)->R' true {s with heap:=h'}) :
  wpAny (model P w) A (do
   storeSet a (SetTable.insertAt es (t.put slot).2 (h0,x)) {(t.put slot).1 with plain:=pl}
   if(!wd&&({(t.put slot).1 with plain:=pl}:WM).tooFull)=true then do
    setRelay a (SetTable.grown (es.size+1))
    pure true
   else pure true) R' E s:=by
 obtain⟨ds',p1,H,p3⟩:=uZ S hx hn hl R pl;have hsz:(SetTable.insertAt es (t.put slot).2 (h0,x)).size=es.size+1:=ic;have hes:=S.size;refine Sm (ig S.ob (by omega) λh' g1 g2=>?_);have H':=H.keep (eh S.ob g2);by_cases hf:(!wd&&({(t.put slot).1 with plain:=pl}:WM).tooFull)=true
 ·rw[if_pos hf];obtain⟨k1,k2⟩:=Ay (n:=es.size+1) (by omega);refine Sm (Az g1 H' k1 (by simp_all) λh2 ds2 es2 ep2 t2 f1 f2 f3 _=>Sn ?_);exact q h2 ds2 (g2.trans f1) ⟨_,_,_,f2⟩ (f3.trans p1)
 ·rw[if_neg hf];exact Sn (q h' ds' g2 ⟨_,_,_,H'.at (H'.tb.tab (p3 (by grind))) g1⟩ p1)
theorem EV(T:Tab es t)(h0:Int):∃slot wd,t.freeSlot h0=some (slot,wd)/\cG t h0 slot wd:=by
 obtain⟨N,n1,n2,n3⟩:=T.free h0;have hg:=tJ (hashAt:=λ_=>h0+1) n2 n3 (10*SetTable.turns t.mask) 0 (t.probeStart h0) (by omega) (by grind[SetTable.turns]) rfl (.inl rfl);rcases hg with⟨dm,e1,e2,_⟩|⟨k,i,q,_,_,_,_,e5,_⟩
 ·have hp:t.probe (λ_=>h0+1) h0 (t.probeStart h0)=some (.empty (sq t.mask h0 N) dm):=e1;unfold SetTable.freeSlot;rw[hp];rcases e2 with rfl|⟨m,m1,rfl,m3⟩
  ·exact⟨_,_,rfl,by grind,N,rfl,n3⟩
  ·exact⟨_,_,rfl,by grind,m,rfl,λm' hm'=>n3 m' (by omega)⟩
 ·omega
theorem AA(S:pW vp w h md ds es t)(hw:wanted<1024)(hn:es.size*5<wanted*3\/es.size<=4) :
  ∃es' t' ds',relayAll t es wanted=(es',t',false)/\List.Perm ds' ds/\pW vp w h md ds' es' t'/\Tab es' t'/\es'.size=es.size:=by
 obtain⟨t',order,ds',e1,e2,e3,e4,e5,_⟩:=sD S hw hn;have hse:(order.filterMap (es[·]?)).size=es.size:=by rw[e3.size,S.size,e2.length_eq]
 refine⟨_,_,ds',?_,e2,e3,e4,hse⟩;unfold relayAll;rw[e1];dsimp only;rw[if_pos];simp;exact⟨List.isPerm_iff.mpr e5,e4.fits⟩
theorem B6(S:b9 vp w s.heap a md ds)(hx:El vp w s.heap md (h0,x) d)(hu:A.units+20<cLine)(hl:ds.length<120)
 (q1:d∈ds->Q false s)(q2:d∉ds->∀h' ds',Heap.SameBut a s.heap h'->b9 vp w h' a md ds'->List.Perm ds' (d::ds)->Q true {s with heap:=h'}) :
  wpAny (model P w) A (setAddHashed a x h0) Q E s:=by
 obtain⟨es,ep,t,S⟩:=S;unfold setAddHashed setAddHashedIn;refine Tf (Sm (cb S.ob S.tb.fits ?_));dsimp only
 cases md with
 |true=>
  obtain⟨b,hb⟩:=hx.refs;dsimp only at hb;subst hb;rw[G6];simp only[SF,Tz];obtain⟨N,n1,n2,n3⟩:=S.tb.free h0;have hle:=S.tb.le;unfold setSearch;refine Sm (uU (N:=N) (adding:=true) S hx hu n2 n3 (by unfold SetTable.turns;omega) (λhn slot wd R=>?_) (λhm i hi=>?_) 100000 0 none (by omega) (by omega) rfl (.inl rfl) λm hm=>by omega)
  ·dsimp only;refine Sm (cb S.ob S.tb.fits ?_);dsimp only
   have fin:∀pl,wpAny (model P w) A (do
     storeSet a (SetTable.insertAt es (t.put slot).2 (h0,.ref b)) {(t.put slot).1 with plain:=pl}
     if(!wd&&({(t.put slot).1 with plain:=pl}:WM).tooFull)=true then do
      setRelay a (SetTable.grown (es.size+1))
      pure true
     else pure true) Q E s:=λpl=>G7 S hx hn hl R pl (q2 hn)
   refine Tt (λ_=>Sm (RJ hx λbv=>?_)) λ_=>Sm (Sn (fin (t.put slot).1.plain))
   cases bv with
   |true=>exact fin (t.put slot).1.plain
   |false=>exact fin false
  ·simp only[Tg];exact Sn (q1 hm)
 |false=>
  obtain⟨y,u,rfl,e2,e3⟩:=hx.text;dsimp only at e2 e3;rw[S.scan e2];simp only[Tg];unfold setAddByScan;refine Sm ?_;refine Sm (UA ?_);have hk:(strKind P w).is y x=true:=by rw[e2];show Value.isStrOf y (.str y u)=true;simp[Value.isStrOf]
  have ti:=Ax (P:=P) S.el y;rw[show h0=(strKind P w).hash y from e3];refine Sm (wpAny_setScan_of (knd:=strKind P w) hk S.ob rfl S.tb.fits (uX S.el) ?_);rw[<- show h0=(strKind P w).hash y from e3]
  cases hr:es.toList.findIdx? (λe=>(strKind P w).is y e.2)with
  |some j=>rw[hr]at ti;dsimp only at ti ⊢;exact Sn (Sn (q1 (SX ti)))
  |none=>
   rw[hr]at ti;dsimp only at ti ⊢;obtain⟨slot,wd,f1,R⟩:=EV S.tb h0;obtain⟨ds1,_,H1,_⟩:=uZ S hx ti hl R (t.put slot).1.plain;have hfit:(t.put slot).1.fits (SetTable.insertAt es (t.put slot).2 (h0,x)).size=true:=H1.tb.fits;have hlay:layNew t es h0 x=(SetTable.insertAt es (t.put slot).2 (h0,x),(t.put slot).1,wd,false):=by unfold layNew;rw[f1];dsimp only;unfold SetTable.orStandIn;rw[if_pos hfit,hfit];rfl
   rw[hlay];dsimp only;refine Sm (Sn ?_);have hsz:(SetTable.insertAt es (t.put slot).2 (h0,x)).size=es.size+1:=ic;have hle:=S.ln;have hes:=S.size
   have fin:∀pl,wpAny (model P w) A (do
     storeSet a (SetTable.insertAt es (t.put slot).2 (h0,x)) {(t.put slot).1 with plain:=pl}
     if(!wd&&({(t.put slot).1 with plain:=pl}:WM).tooFull)=true then do
      (match (relayAll {(t.put slot).1 with plain:=pl} (SetTable.insertAt es (t.put slot).2 (h0,x)) (SetTable.grown (SetTable.insertAt es (t.put slot).2 (h0,x)).size)).2.2 with|true=>rule "set.scan.the-table-gave-way" |false=>pure ())
      storeSet a (relayAll {(t.put slot).1 with plain:=pl} (SetTable.insertAt es (t.put slot).2 (h0,x)) (SetTable.grown (SetTable.insertAt es (t.put slot).2 (h0,x)).size)).1 (relayAll {(t.put slot).1 with plain:=pl} (SetTable.insertAt es (t.put slot).2 (h0,x)) (SetTable.grown (SetTable.insertAt es (t.put slot).2 (h0,x)).size)).2.1
      pure (some true)
     else pure (some true)) (λr s'=>wpAny (model P w) A (match r with|some added=>pure added|none=>setAddHashedIn a x h0 99999) Q E s') E s:=λpl=>by
    obtain⟨ds',p1,H,p3⟩:=uZ S hx ti hl R pl;refine Sm (ig S.ob (by rw[hsz];omega) λh' g1 g2=>?_);have H':=H.keep (eh S.ob g2);by_cases hf:(!wd&&({(t.put slot).1 with plain:=pl}:WM).tooFull)=true
    ·rw[if_pos hf];obtain⟨k1,k2⟩:=Ay (n:=es.size+1) (by omega);obtain⟨es2,t2,ds2,m1,m2,m3,m4,m5⟩:=AA (wanted:=SetTable.grown (SetTable.insertAt es (t.put slot).2 (h0,x)).size) H' (by rw[hsz];exact k1) (by rw[hsz];exact k2);rw[m1];dsimp only;refine Sm (Sn ?_);refine Sm (ig (s:={s with heap:=h'}) g1 (by rw[m5,hsz];omega) λh2 g3 g4=>Sn (Sn ?_));exact q2 ti h2 ds2 (g2.trans g4) ⟨_,_,_,(m3.keep (eh g1 g4)).at m4 g3⟩ (m2.trans p1)
    ·rw[if_neg hf];exact Sn (Sn (q2 ti h' ds' g2 ⟨_,_,_,H'.at (H'.tb.tab (p3 (by simpa using hf))) g1⟩ p1))
   refine Tt (λ_=>Sm (RJ hx λbv=>?_)) λ_=>Sm (Sn (fin (t.put slot).1.plain))
   cases bv with
   |true=>exact fin (t.put slot).1.plain
   |false=>exact fin false
end
theorem eR{α:Type}{l:List α}(h:i<l.length):List.Perm (l[i]::l.eraseIdx i) l:=by
 rw[U1];have e:=UL i l;rw[TR h]at e
 conv=>rhs;rw[<- e]
 exact List.perm_middle.symm
theorem DB(next:Nat->Nat):∀(fuel k:Nat) (left:List α) (out:Array α),fuel=left.length->List.Perm (pickOrder.go next fuel k left out).toList (out.toList++left)
 |0,k,left,out,h=>by
  have  := Uy.mp h.symm
  simp_all[pickOrder.go]
 |fuel+1,k,left,out,h=>by
  have hpos:0<left.length:=by omega
  have hlt:next k % left.length<left.length:=V2 _ hpos;simp[pickOrder.go];rw[SH hlt];refine(DB next fuel _ _ _ (by grind)).trans ?_;rw[Array.toList_push,List.append_assoc,List.singleton_append];refine List.Perm.append_left _ ?_;exact eR hlt
theorem xH(next:Nat->Nat)(xs:Array α):List.Perm (pickOrder next xs).toList xs.toList:=by unfold pickOrder;simpa using DB next xs.size 0 xs.toList #[] (by simp)
section
variable {P:WL} {w:World} {A:WN} {E:Wv} {s:WO} {vp:Value->Prop}
theorem yR(hn:n≠0)(h:∀i,i<n->Q i {s with drawn:=s.drawn.bump src}):wpAny (model P w) A (choose src n) Q E s:=λΓ p hΓ=>⟨hn,h _ (V2 _ (Nat.pos_of_ne_zero hn))⟩
theorem yS:∀(n:Nat) (xs:List α) (s:WO) (Q:List α->WO->Prop),n=xs.length->(∀L dr,List.Perm L xs->Q L {s with drawn:=dr})->wpAny (model P w) A (drawOrder n xs) Q E s
 |0,xs,s,Q,h,q=>by have  := Uy.mp h.symm;subst this;exact Sn (q [] s.drawn (.refl _))
 |n+1,[],s,Q,h,q=>by grind
 |n+1,x::xs,s,Q,h,q=>by unfold drawOrder;refine Sm (yR (by simp) λi hi=>?_);rw[SH hi];refine Sm (yS n _ _ _ (by grind) λL dr p=>Sn ?_);exact q _ dr ((p.cons _).trans (eR hi))
theorem gI(h:Q (cU w) s):wpAny (model P w) A setsByText Q E s:=Sm (Vr (Sn h))
theorem DC(S:cI vp w s.heap a md ds es ep t)(q:∀L dr,List.Perm (L:Wy).toList es.toList->Q L {s with drawn:=dr}):wpAny (model P w) A (setWalk a) Q E s:=by
 refine Sm (cb S.ob S.tb.fits ?_);refine Sm (gI ?_);refine Tt (λ_=>?_) λhb=>?_
 ·refine Sm (Vr (Sn ?_));exact q _ s.drawn (xH _ _)
 ·refine Tt (λ_=>?_) λ_=>?_
  ·refine Sm (yS es.size es.toList s _ (by simp) λL dr p=>Sn (q _ dr (by omega)))
  ·have hl:t.led=true:=by
    rcases S.ld with h|h
    ·exact h
    grind
   refine Sm (m:=(if _=true then unsupported "set:maker-not-led" else pure ())) ?_;rw[hl];exact Sn (Sn (q es s.drawn (.refl _)))
theorem G8:∀(sets:WB) {Q:Bool->WO->Prop},(∀a∈sets,∃md ds,b9 vp w s.heap a md ds)->(∀b,Q b s)->wpAny (model P w) A (setsQuiet sets) Q E s:=by
 intro sets Q hs hQ;unfold setsQuiet;refine Sm ?_;refine pV (G:=λa=>∃md ds,b9 vp w s.heap a md ds) (λa ⟨md,ds,es,ep,t,S⟩ R' r1 r2=>?_) sets hs (Sn (hQ true)) (Sn (hQ false));refine Sm (V8 S.ob rfl S.tb.fits ?_);refine Sm ?_;rw[<- Ut];refine pV (G:=λe=>e∈es.toList) (λe he R2 q1 q2=>?_) es.toList (λ_ h=>h) (Sn r1) (Sn r2);obtain⟨i,hi⟩:=TU he;obtain⟨d,_,x⟩:=fQ S.el hi;obtain⟨h1,v⟩:=e;dsimp only
 cases md with
 |true=>
  obtain⟨as,r⟩:=x.rd;have k:=x.kd;dsimp only at r
  cases r with
  |tuple ho hc hd hi=>have hT:s.TypeIs (.ref _) "tuple" := ⟨_,ho,hc⟩;refine Sm (UW hT V6.lookup ?_);exact Tt (λ_=>Sn q2) λ_=>Sn q1
  |_=>simp[iu]at k
 |false=>obtain⟨y,u,_,e2,_⟩:=x.text;dsimp only at e2;subst e2;exact Sn q1
end
section
variable {P:WL} {w:World} {A:WN} {E:Wv} {s:WO} {vp:Value->Prop}
theorem Tab.flags(T:Tab es t)(h1:t'.mask=t.mask)(h2:t'.place=t.place)(h3:t'.dummies=t.dummies):Tab es t':=
 (T.M4.flags h1 h2 h3).tab (by have:=T.tf;simp_all[SetTable.fill])
theorem cI.other(S:cI vp w h a md ds es ep t)(ob:h.get? b=some (bD es' ep' t'))(sb:Heap.SameBut b h h')(ne:a≠b):cI vp w h' a md ds es ep t:=
 ⟨(sb.2 a ne).trans S.ob,S.tb,S.ld,S.nd,S.ln,Paired.kD S.el λ_ _ x=>El.keep x (eh ob sb)⟩
theorem cI.keep(S:cI vp w h a md ds es ep t)(k:∀b o,h.get? b=some o->h'.get? b=some o):cI vp w h' a md ds es ep t:=
 ⟨k _ _ S.ob,S.tb,S.ld,S.nd,S.ln,Paired.kD S.el λ_ _ x=>El.keep x λb o _ _ e _ _=>k b o e⟩
theorem xI(S:cI vp w s.heap o md eds es ep t)(F:b9 vp w s.heap f md' fds)(ne:o≠f)
 (q:∀(L:Wy) h' dr,List.Perm L.toList es.toList->Heap.SameBut f s.heap h'->b9 vp w h' f md' fds->Q L {s with heap:=h',drawn:=dr}):wpAny (model P w) A (setWalkUnseen o [f] (some f)) Q E s:=by
 have q0:∀(L:Wy) dr,List.Perm L.toList es.toList->Q L {s with drawn:=dr}:=λL dr p=>q L s.heap dr p (Vm _ _) F;unfold setWalkUnseen;refine Sm (cb S.ob S.tb.fits ?_);dsimp only;refine Sm (gI ?_);refine Tt (λ_=>DC S q0) λhb=>?_;refine Sm (G8 (vp:=vp) _ (λa ha=>?_) λb=>?_)
 ·simp only[Sz,Tb,UC]at ha;rcases ha with rfl|rfl
  ·exact⟨md,eds,_,_,_,S⟩
  grind
 ·refine Tt (λ_=>DC S q0) λ_=>?_;refine Sm (UA ?_);obtain⟨ef,epf,tf,F⟩:=F;refine Sm (cb F.ob F.tb.fits ?_);dsimp only;refine Tt (λ_=>?_) λ_=>Sn (q0 es s.drawn (.refl _));refine Sm (ig F.ob (by rw[F.size];have:=F.ln;omega) λh' g1 g2=>Sn ?_);refine q es h' s.drawn (.refl _) g2 ⟨_,_,_,g1,F.tb.flags rfl rfl rfl,?_,F.nd,F.ln,Paired.kD F.el λ_ _ x=>El.keep x (eh F.ob g2)⟩;rcases S.ld with h1|h1
  ·rcases F.ld with h2|h2
   ·exact .inl (by show(tf.led&&t.led)=true;rw[h1,h2];rfl)
   ·exact .inr h2
  ·exact .inr h1
theorem JE(S:b9 vp w s.heap a md ds)(hm:ds.length+more<=240)
 (q:∀h' ds' es' ep' t',Heap.SameBut a s.heap h'->cI vp w h' a md ds' es' ep' t'->List.Perm ds' ds->(more=0\/more*5<t'.mask*3)->Q () {s with heap:=h'}):wpAny (model P w) A (setRoomFor a more) Q E s:=by
 obtain⟨es,ep,t,S⟩:=S;unfold setRoomFor;refine Sm (cb S.ob S.tb.fits ?_);dsimp only;have hsz:t.place.size=ds.length:=by rw[S.tb.sz,S.size]
 unfold SetTable.roomFor;by_cases hc:(t.fill+more)*5>=t.mask*3
 ·rw[if_pos hc];dsimp only;have H:pW vp w s.heap md ds es t:=⟨S.tb.M4,S.ld,S.nd,S.ln,S.el⟩;have hes:=S.size;have hln:=S.ln;refine Az S.ob H (by omega) ?_ λh' ds' es' ep' t' g1 g2 g3 g4=>q h' ds' es' ep' t' g1 g2 g3 ?_
  ·omega
  ·have:=(kW ((t.place.size+more)*2) (by rw[hsz];omega)).1;omega
 ·rw[if_neg hc];dsimp only;refine Sn (q s.heap ds es ep t (Vm _ _) S (.refl _) ?_);omega
theorem u0{h0:Heap}{R:PUnit->WO->Prop}(hu:A.units+20<cLine)(hao:a≠o)(ho:h0.get? o=some oo)
 (hb:∀(e:Int×Value) (s1:WO) (R':ForInStep PUnit->WO->Prop),wpAny (model P w) A (setAddHashed a e.2 e.1) (λ_ s2=>s2.heap.get? o=some oo/\R' (.yield ⟨⟩) s2) E s1->wpAny (model P w) A (body e ⟨⟩) R' E s1) :
  ∀(l:List (Int×Value)) (ys ds:WA) (s:WO),Paired (El vp w s.heap md) l ys->b9 vp w s.heap a md ds->ds.length+ys.length<=120->s.heap.get? o=some oo ->
   (∀h' ds',Heap.SameBut a s.heap h'->b9 vp w h' a md ds'->(∀d,d∈ds'<->d∈ds\/d∈ys)->R ⟨⟩ {s with heap:=h'})->wpAny (model P w) A (forIn l PUnit.unit body) R E s
 | [],_,ds,s,.nil,S,hl,hoo,q=>by rw[Va];exact Sn (q s.heap ds (Vm _ _) S λd=>by simp)
 |e::l,_,ds,s,.cons (b:=y) (l₂:=ys) x xs,S,hl,hoo,q=>by
  rw[Ue];simp only[SM]at hl;refine Sm (hb e s _ (B6 (d:=y) S x hu (by omega) (λhm=>⟨hoo,?_⟩) λhn h' ds' sb S' p=>⟨(sb.2 o hao.symm).trans hoo,?_⟩))
  ·exact u0 hu hao ho hb l ys ds s xs S (by omega) hoo λh' ds' g1 g2 g3=>q h' ds' g1 g2 λd=>by
    grind
  ·obtain⟨es1,ep1,t1,S1⟩:=S;refine u0 hu hao ho hb l ys ds' {s with heap:=h'} (Paired.kD xs λ_ _ z=>El.keep z (eh S1.ob sb)) S' (by rw[p.length_eq];simp;omega) ((sb.2 o hao.symm).trans hoo) λh2 ds2 g1 g2 g3=>q h2 ds2 (sb.trans g1) g2 λd=>?_;rw[g3,p.mem_iff];simp only[Sz];constructor
   ·rintro((h|h)|h)
    ·exact .inr (.inl h)
    ·exact .inl h
    ·exact .inr (.inr h)
   ·rintro(h|h|h)
    ·exact .inl (.inr h)
    ·exact .inl (.inl h)
    ·exact .inr h
theorem G9(hu:A.units+20<cLine)(hao:a≠o)(S:b9 vp w s.heap a md ds)(O:cI vp w s.heap o md eds eo epo to)(hl:ds.length+eds.length<=120)
 (he:∀(s':WO) (R:Unit->WO->Prop),s'.heap.get? o=some (bD eo epo to)->R () s'->wpAny (model P w) A each R E s')
 (q:∀h' ds' dr,Heap.SameBut a s.heap h'->b9 vp w h' a md ds'->(∀d,d∈ds'<->d∈ds\/d∈eds)->Q () {s with heap:=h',drawn:=dr}):wpAny (model P w) A (setMerge a o each) Q E s:=by
 unfold setMerge;rw[if_neg (by grind)];refine Sm (cb O.ob O.tb.fits ?_);dsimp only;have hosz:=O.size;refine Tt (λhz=>Sn ?_) λhnz=>?_
 ·have e0:eds=[]:=by
   grind
  subst e0;exact q s.heap ds s.drawn (Vm _ _) S λd=>by simp
 ·have hpos:0<eo.size:=by
   apply Nat.pos_of_ne_zero;intro z;exact hnz (by simpa using z)
  have S0:=S;obtain⟨es0,ep0,t0,SA0⟩:=S;refine Sm (JE (more:=eo.size) S0 (by omega) λh1 ds1 es1 ep1 t1 sb1 S1 p1 r1=>?_);have O1:cI vp w h1 o md eds eo epo to:=O.other SA0.ob sb1 hao.symm;have hm1:eo.size*5<t1.mask*3:=by omega
  refine Sm (cb (s:={s with heap:=h1}) S1.ob S1.tb.fits ?_);dsimp only
  have ld':(t1.led&&to.led)=true\/cU w=true:=by
   rcases S1.ld with z|z
   ·rcases O.ld with z2|z2
    ·exact .inl (by rw[z,z2];rfl)
    ·exact .inr z2
   ·exact .inr z
  have emp:t1.fill=0->ds=[]:=λz=>by
   have:=S1.size;have:=S1.tb.sz;unfold SetTable.fill at z;have:ds1.length=0:=by omega
   rw[p1.length_eq]at this;exact Uy.mp this
  cases hr:t1.road to with
  |slotForSlot=>
   unfold SetTable.road at hr;split at hr
   ·cases hr
   ·rename_i hf;have hf0:t1.fill=0:=by simpa using hf
    split at hr
    ·rename_i hc;refine ig (s:={s with heap:=h1}) S1.ob (by have:=O.ln;omega) λh2 g1 g2=>?_;have e0:=emp hf0;subst e0;refine q h2 eds s.drawn (sb1.trans g2) ⟨_,_,_,g1,O.tb.flags rfl rfl rfl,ld',O.nd,O.ln,Paired.kD O1.el λ_ _ x=>El.keep x (eh S1.ob g2)⟩ λd=>by simp
    ·cases hr
  |clean=>
   unfold SetTable.road at hr;split at hr
   ·cases hr
   ·rename_i hf;have hf0:t1.fill=0:=by simpa using hf
    have e0:=emp hf0;subst e0;dsimp only;obtain⟨t',order,k1,k2,k3,k4,k5,k6⟩:=Dz (es:=eo) (mask:=t1.mask) S1.tb.sm hm1 t1.finger t1.moves (t1.led&&to.led) (t1.plain&&to.plain);refine Sm ?_;rw[k1];have hse:(order.filterMap (eo[·]?)).size=eo.size:=by have:=k3.length_eq;rw[TQ,TQ]at this;exact this
    show wpAny _ _ (if((order.filterMap (eo[·]?)).size != eo.size)=true then _ else pure (order.filterMap (eo[·]?),t')) _ _ _;rw[if_neg (by simp[hse])];refine Sn ?_;dsimp only;refine ig (s:={s with heap:=h1}) S1.ob (by rw[hse];have:=O.ln;omega) λh2 g1 g2=>?_;obtain⟨ds2,p2,e2⟩:=ie k3.symm O1.el;refine q h2 ds2 s.drawn (sb1.trans g2) ⟨_,_,_,g1,k2,by rw[k5];exact ld',nF p2 O.nd,by rw[<- p2.length_eq];exact O.ln,Paired.kD e2 λ_ _ x=>El.keep x (eh S1.ob g2)⟩ λd=>?_;rw[<- p2.mem_iff];simp
  |oneByOne=>
   dsimp only;refine Sm (xI (s:={s with heap:=h1}) (md':=md) (f:=a) (fds:=ds1) O1 ⟨_,_,_,S1⟩ hao.symm λL h2 dr pL sb2 S2=>?_);have O2:cI vp w h2 o md eds eo epo to:=O1.other S1.ob sb2 hao.symm;obtain⟨eds2,p2,e2⟩:=ie pL.symm O2.el;rw[<- Ut];refine Sm (u0 (R:=λ_ s'=>wpAny (model P w) A (pure ()) Q E s') (h0:=h2) hu hao O2.ob (λe s1 R' hadd=>?_) L.toList eds2 ds1 {s with heap:=h2,drawn:=dr} e2 S2 (by rw[p1.length_eq,<- p2.length_eq];omega) O2.ob λh3 ds3 sb3 S3 m3=>Sn ?_)
   ·obtain⟨hh,xx⟩:=e;dsimp only;refine Sm (Tf (TZ hadd (λ_ s2 ⟨z1,z2⟩=>?_) λ_ _ z=>z));refine Sm (he s2 _ z1 ?_);refine Sm (cb z1 O.tb.fits ?_);dsimp only;rw[if_neg (by simp)];exact Sn z2
   ·refine q h3 ds3 dr (sb1.trans (sb2.trans sb3)) S3 λd=>?_;rw[m3,p1.mem_iff,<- p2.mem_iff]
end
section
variable {P:WL} {w:World} {A:WN} {E:Wv} {s:WO} {vp:Value->Prop}
theorem pX{R:α->β->Prop}:∀{xs:List α} {ys:List β} (p:Nat),Paired R xs ys->Paired R (xs.eraseIdx p) (ys.eraseIdx p)
 |_,_,p,.nil=>.nil
 |_,_,0,.cons r t=>by grind
 |_,_,p+1,.cons r t=>.cons r (pX p t)
theorem yT(xs:Array α)(p:Nat):(SetTable.eraseAt xs p).toList=xs.toList.eraseIdx p:=by simp[SetTable.eraseAt,U1,Vc]
theorem B7(S:b9 vp w s.heap a md ds)(hx:El vp w s.heap md (h0,x) d)(hu:A.units+20<cLine)
 (q1:d∉ds->Q false s)(q2:∀h' ds',Heap.SameBut a s.heap h'->b9 vp w h' a md ds'->List.Perm (d::ds') ds->Q true {s with heap:=h'}):wpAny (model P w) A (setDiscardHashed a x h0) Q E s:=by
 obtain⟨es,ep,t,S⟩:=S;unfold setDiscardHashed;refine Sm (tF S hx hu (λhn=>?_) λi hi=>?_)
 ·exact Sn (q1 hn)
 ·dsimp only;have hil:i<ds.length:=(SJ.mp hi).1;have hie:i<es.size:=by rw[S.size];exact hil
  have hp:List.Perm (d::ds.eraseIdx i) ds:=by have:=eR hil;rw[(SJ.mp hi).2]at this;exact this
  refine Sm (cb S.ob S.tb.fits ?_);dsimp only;obtain⟨T,_,T3⟩:=G2 S.tb hie;refine Sm (ig S.ob (by rw[gH hie,S.size];have:=S.ln;omega) λh' g1 g2=>?_);refine Sm (wpAny_point (Sn (q2 h' _ g2 ⟨_,_,_,g1,T,by rw[T3];exact S.ld,?_,?_,?_⟩ hp)))
  ·exact(TC.mp (nF hp.symm S.nd)).2
  ·have:=hp.length_eq;have:=S.ln;simp at *;omega
  ·rw[yT];exact Paired.kD (pX i S.el) λ_ _ x=>El.keep x (eh S.ob g2)
theorem rg{R:PUnit->WO->Prop}(hu:A.units+20<cLine)(hao:a≠o)
 (hb:∀(e:Int×Value) (s1:WO) (R':ForInStep PUnit->WO->Prop),wpAny (model P w) A (setDiscardHashed a e.2 e.1) (λb s2=>if b=true then s2.heap.get? o=some oo/\R' (.yield ⟨⟩) s2 else wpAny (model P w) A (setAddHashed a e.2 e.1) (λ_ s3=>s3.heap.get? o=some oo/\R' (.yield ⟨⟩) s3) E s2) E s1->wpAny (model P w) A (body e ⟨⟩) R' E s1) :
  ∀(l:List (Int×Value)) (ys ds:WA) (s:WO),Paired (El vp w s.heap md) l ys->ys.Nodup->b9 vp w s.heap a md ds->ds.length+ys.length<=120->s.heap.get? o=some oo ->
   (∀h' ds',Heap.SameBut a s.heap h'->b9 vp w h' a md ds'->(∀d,d∈ds'<->(d∈ds/\d∉ys)\/(d∉ds/\d∈ys))->R ⟨⟩ {s with heap:=h'})->wpAny (model P w) A (forIn l PUnit.unit body) R E s
 | [],_,ds,s,.nil,_,S,hl,hoo,q=>by rw[Va];exact Sn (q s.heap ds (Vm _ _) S λd=>by simp)
 |e::l,_,ds,s,.cons (b:=y) (l₂:=ys) x xs,nd,S,hl,hoo,q=>by
  rw[Ue];simp only[SM]at hl;obtain⟨nd1,nd2⟩:=TC.mp nd;have S0:=S;obtain⟨es1,ep1,t1,S1⟩:=S0;refine Sm (hb e s _ (B7 (d:=y) S x hu (λhn=>?_) λh' ds' sb S' p=>?_))
  ·rw[if_neg (by simp)];refine B6 (d:=y) S x hu (by omega) (λhm=>absurd hm hn) λ_ h' ds' sb S' p=>⟨(sb.2 o hao.symm).trans hoo,?_⟩;refine rg hu hao hb l ys ds' {s with heap:=h'} (Paired.kD xs λ_ _ z=>El.keep z (eh S1.ob sb)) nd2 S' (by rw[p.length_eq];simp;omega) ((sb.2 o hao.symm).trans hoo) λh2 ds2 g1 g2 g3=>q h2 ds2 (sb.trans g1) g2 λd=>?_;rw[g3,p.mem_iff];simp only[Sz,not_or];by_cases z:d=y
   ·subst z;simp[hn,nd1]
   ·simp[z]
  ·rw[if_pos rfl];have hy:y∈ds:=p.mem_iff.mp (SK ..);have hny:y∉ds':=(TC.mp (nF p.symm S1.nd)).1;have hlen:=p.length_eq;refine⟨(sb.2 o hao.symm).trans hoo,rg hu hao hb l ys ds' {s with heap:=h'} (Paired.kD xs λ_ _ z=>El.keep z (eh S1.ob sb)) nd2 S' (by simp at hlen;omega) ((sb.2 o hao.symm).trans hoo) λh2 ds2 g1 g2 g3=>q h2 ds2 (sb.trans g1) g2 λd=>?_⟩;rw[g3,<- p.mem_iff];simp only[Sz,not_or];by_cases z:d=y
   ·subst z;simp[hny,nd1]
   ·simp[z]
theorem AB(ho:h.get? a=some (bD #[] 0 (.fresh 0 0 led)))(hl:led=true\/cU w=true):b9 vp w h a md []:=
 ⟨#[],0,_,ho,⟨List.Pairwise.nil,List.Pairwise.nil,rfl,(by decide:(0:Nat)*5<7*3),λj hj=>by trivial,λj hj=>by trivial,λj hj=>by trivial,La.1,λi e j h1=>by simp at h1⟩,hl,List.nodup_nil,by simp,.nil⟩
theorem EW(q:∀h',h'.objs.size=s.heap.objs.size+1->(∀b o,s.heap.get? b=some o->h'.get? b=some o)->b9 vp w h' s.heap.objs.size md []->Q (.ref s.heap.objs.size) {s with heap:=h'}):wpAny (model P w) A (newSet (.type "set")) Q E s:=by
 refine Sm (gI ?_);refine Sm (wpAny_alloc (Sn ?_));refine q _ (Tj _ _) (λb o e=>So _ e) (AB (Sy _ rfl) ?_)
 grind
theorem mQ(S:b9 vp w s.heap a md ds):s.TypeIs (.ref a) "set" := let ⟨_,_,_,S⟩:=S;⟨_,S.ob,rfl⟩
theorem nG(S:b9 vp w s.heap a md ds)(q:Q true s):wpAny (model P w) A (Builtin.Frozenset.isAnySet (.ref a)) Q E s:=by refine Sm (U9 (mQ S) sub_set_self ?_);exact Sn q
theorem JF(S:b9 vp w s.heap a md ds)(q:Q (.type "set") s):wpAny (model P w) A (Builtin.Frozenset.baseOf a) Q E s:=by refine Sm (U9 (mQ S) sub_set_self ?_);exact Sn q
theorem JG{id:String}(hu:A.units+20<cLine)(hao:a≠o)(S:b9 vp w s.heap a md ds)(O:b9 vp w s.heap o md eds)(hl:ds.length+eds.length<=120)
 (q:∀h' ds' dr,Heap.SameBut a s.heap h'->b9 vp w h' a md ds'->(∀d,d∈ds'<->d∈ds\/d∈eds)->Q () {s with heap:=h',drawn:=dr}):wpAny (model P w) A (Builtin.Frozenset.updateFrom id a (.ref o)) Q E s:=by
 unfold Builtin.Frozenset.updateFrom;refine Sm (nG O ?_);simp only[Tg];refine Sm (m:=Builtin.Frozenset.addrOf (.ref o)) (Sn ?_);obtain⟨eo,epo,to,O⟩:=O;unfold Builtin.Frozenset.merge;refine Sm (U2 O.ob rfl O.tb.fits ?_);refine G9 hu hao S O hl (λs' R h1 h2=>?_) q;unfold Builtin.Frozenset.unchanged;refine Sm (U2 h1 rfl O.tb.fits ?_);rw[if_neg (by simp)];exact Sn h2
noncomputable def Ha(vp:Value->Prop)(w:World)(s:WO)(md:Bool)(G:PyData->Prop)(Q:Wv):Prop:=∀a h' ds dr,s.heap.objs.size<=a->(∀b o,s.heap.get? b=some o->h'.get? b=some o)->b9 vp w h' a md ds->(∀d,d∈ds<->G d)->Q (.ref a) {s with heap:=h',drawn:=dr}
end
theorem wA:entryFor table "set.__xor__" = some Builtin.«frozenset.__xor__» := entryFor_alias (id' := "frozenset.__xor__") (by kernel_rfl) rfl (by decide +kernel) (by kernel_rfl)
theorem Hb:typeLookup (.type "set") (dunderR "xor")=pure (some (.builtin "set.__rxor__")):=by rfl
theorem EX:fillsNumberSlot (.type "set") "xor" = pure true:=fillsNumberSlot_of F.slot_set_xor.lookup (by rfl) Hb
section
variable {P:WL} {w:World} {A:WN} {E:Wv} {s:WO} {vp:Value->Prop}
theorem M5(hu:A.units+21<cLine)(hlr:l≠r)(L:b9 vp w s.heap l md ds)(R:b9 vp w s.heap r md eds)(hl:ds.length+eds.length<=120)(q:Ha vp w s md (λd=>(d∈ds/\d∉eds)\/(d∉ds/\d∈eds)) Q) :
  wpAny (model P w) A (binaryOp .BitXor (.ref l) (.ref r)) Q E s:=by
 refine wpAny_binaryOp_same (op:=.BitXor) (mQ L) (mQ R) EX F.slot_set_xor (Te F.slot_set_xor (mQ L) wA ?_ (F.args_set_xor_2 _ _));show wpAny _ _ (Builtin.Frozenset.slot1 "__xor__" ⟨[.ref l,.ref r],[]⟩ >>= _) _ _ _;refine Sm (U6 (a:=(Value.ref l,Value.ref r)) rfl ?_);dsimp only;refine Sm (m:=(Builtin.Frozenset.isAnySet (.ref l) <&&> Builtin.Frozenset.isAnySet (.ref r))) (Sm (nG L ?_));refine nG R ?_;simp only[UK,SF,Tz];refine Sm (m:=Builtin.Frozenset.addrOf (.ref l)) (Sn ?_);refine Sm ?_;show wpAny _ _ (Builtin.Frozenset.baseOf l >>= _) _ _ _;refine Sm (JF L ?_);refine Sm ?_;unfold Builtin.Frozenset.newFrom;refine Sm (EW (vp:=vp) (md:=md) λh1 sz k1 S1=>?_);obtain⟨el,epl,tl,L⟩:=L;obtain⟨er,epr,tr,R⟩:=R;have hr:s.heap.objs.size≠r:=UH (Sv R.ob);have hll:s.heap.objs.size≠l:=UH (Sv L.ob);refine Sm (m:=Builtin.Frozenset.addrOf _) (Sn (Sm (Tf ?_)));refine JG (s:={s with heap:=h1}) (by show A.units+1+20<cLine;omega) hr S1 ⟨_,_,_,R.keep k1⟩ (by simp;omega) λh2 ds2 dr2 sb S2 m2=>Sn ?_;simp only[Tb,false_or]at m2;refine Sm (m:=Builtin.Frozenset.addrOf _) (Sn (Sm (Tf ?_)));obtain⟨e1,ep1,t1,S1'⟩:=S1;have L2:cI vp w h2 l md ds el epl tl:=(L.keep k1).other S1'.ob sb hll.symm;have hlen:ds2.length=eds.length:=by obtain⟨_,_,_,S2'⟩:=S2;exact(UE S2'.nd R.nd).mpr m2 |>.length_eq
 unfold Builtin.Frozenset.symmetricDifferenceUpdate;have hc:¬ (Value.ref l==Value.ref s.heap.objs.size)=true:=by rw[Wu];exact λz=>hll (Value.ref.inj z).symm
 rw[if_neg hc];refine Sm (Vz (T := "set") ⟨_,L2.ob,rfl⟩ ?_);rw[if_neg (by decide)];refine Sm (nG (md:=md) (ds:=ds) ⟨_,_,_,L2⟩ ?_);simp only[Tg];refine Sm (Sn ?_);refine Sm (m:=Builtin.Frozenset.addrOf _) (Sn ?_);refine Sm (U2 (s:={s with heap:=h2,drawn:=dr2}) L2.ob rfl L2.tb.fits ?_);refine Tf ?_;refine Sm (xI (s:={s with heap:=h2,drawn:=dr2}) L2 S2 hll.symm λLr h3 dr3 pL sb3 S3=>?_);obtain⟨e2,ep2,t2,S2'⟩:=S2;have L3:=L2.other S2'.ob sb3 hll.symm;obtain⟨ds3,p3,el3⟩:=ie pL.symm L3.el;rw[<- Ut];refine Sm (rg (a:=s.heap.objs.size) (o:=l) (oo:=bD el epl tl) (by show A.units+1+20<cLine;omega) hll (λe s1 R' hd=>?_) Lr.toList ds3 ds2 {s with heap:=h3,drawn:=dr3} el3 (nF p3 L.nd) S3 (by rw[<- p3.length_eq];omega) L3.ob λh4 ds4 sb4 S4 m4=>?_)
 ·obtain⟨hh,xx⟩:=e;dsimp only at hd ⊢;have un:∀(s2:WO),s2.heap.get? l=some (bD el epl tl)->R' (.yield ⟨⟩) s2->wpAny (model P w) A.in1 (Builtin.Frozenset.unchanged "frozenset.__xor__" l epl >>= λ_=>pure (ForInStep.yield PUnit.unit)) R' E s2:=λs2 z1 z2=>by unfold Builtin.Frozenset.unchanged;refine Sm (Sm (U2 z1 rfl L.tb.fits ?_));rw[if_neg (by simp)];exact Sn (Sn z2)
  refine Sm (Tf (Sm (TZ hd (λb s2 z=>?_) λ_ _ z=>z)))
  cases b with
  |true=>rw[if_pos rfl]at z;simp only[UK,SF,Tz];exact Sn (un s2 z.1 z.2)
  |false=>rw[if_neg (by simp)]at z;simp only[We,Tg];exact Sm (TZ z (λ_ s3 z3=>Sn (un s3 z3.1 z3.2)) λ_ _ z=>z)
 ·refine Sn (Sn (Sn ⟨_,rfl,(λz=>nomatch z),q _ h4 ds4 dr3 (Ss _) (λb ob e=>?_) S4 λd=>?_⟩))
  ·have hb:b≠s.heap.objs.size:=SI (Sv e);exact(sb4.2 b hb).trans ((sb3.2 b hb).trans ((sb.2 b hb).trans (k1 b ob e)))
  ·rw[m4,m2,<- p3.mem_iff];constructor
   ·rintro(⟨a,b⟩|⟨a,b⟩)
    ·exact .inr ⟨b,a⟩
    ·exact .inl ⟨b,a⟩
   ·rintro(⟨a,b⟩|⟨a,b⟩)
    ·exact .inr ⟨b,a⟩
    ·exact .inl ⟨b,a⟩
end
theorem sub_tuple_set:isSubtype (.type "tuple") (.type "set")=pure false:=by rfl
theorem sub_tuple_frozenset:isSubtype (.type "tuple") (.type "frozenset")=pure false:=by rfl
noncomputable def M6(md:Bool)(d:PyData):Prop:=aG d=true/\d.depth<=8/\dQ d=true/\iu d=md
section
variable {P:WL} {w:World} {A:WN} {E:Wv} {s:WO} {vp:Value->Prop}
theorem Hc{R:Result->WO->Prop}{St:Nat->Heap->Prop}{ys:WA}(W:Walks P w A.in1 I fp wr n Pv St)(S:Addr)(hSf:S∉fp)(hn:n=ys.length)(hl:n<=120)(hu:A.in1.units+20<cLine)
 (hv:∀i v,Pv i v->∃y,ys[i]?=some y/\M6 md y/\vp v/\∃as,Reads h0 v y as)(hw:∀b o,h0.get? b=some o->b∉wr)(hS0:h0.get? S=none)(hit:∀i h,St i h->∀b∈wr,∀o,h.get? b=some o->o.cls≠.type "tuple") :
  ∀(k i:Nat) (s:WO) (ds:WA),n-i=k->i<=n->St i s.heap->b9 vp w s.heap S md ds->(∀d,d∈ds<->d∈ys.take i)->ds.length<=i->(∀b o,h0.get? b=some o->s.heap.get? b=some o) ->
   (∀h' tk ds',b9 vp w h' S md ds'->(∀d,d∈ds'<->d∈ys)->(∀b o,h0.get? b=some o->h'.get? b=some o)->R (.ok (.ret .none)) {s with heap:=h',toks:=tk}) ->
   codeAny (model P w) A (.builtin "set.update.loop" ⟨[.ref S,.ref I],[]⟩) R s:=by
 have hSw:S∉wr:=λh=>hSf (W.sub _ h);intro k
 induction k with
 |zero=>
  intro i s ds hk hi hst hS hm hd h0k hR;have hin:i=n:=by omega
  subst hin;refine Vg Vp ?_;rw[UQ T7 _];show wpAny _ A.in1 (pyNext (.ref I) >>= _) _ _ s;refine Sm (W.done s _ _ hst λh' tk kp=>?_);show wpAny _ A.in1 (ret Value.none) _ _ _;obtain⟨es,ep,t,S'⟩:=hS;have kt:∀b o vs n,s.heap.get? b=some o->o.cls=.type "tuple" -> o.data=.seq vs n->h'.get? b=some o:=λb o vs n e c _=>kp b o (λz=>hit _ _ hst b z o e c) e;exact Sn (hR h' tk ds ⟨es,ep,t,kp _ _ hSw S'.ob,S'.tb,S'.ld,S'.nd,S'.ln,Paired.kD S'.el λ_ _ x=>El.keep x kt⟩ (λd=>by rw[hm,hn,List.take_length]) λb o e=>kp b o (hw b o e) (h0k b o e))
 |succ k ih=>
  intro i s ds hk hi hst hS hm hd h0k hR;have hlt:i<n:=by omega
  refine Vg Vp ?_;rw[UQ T7 _];show wpAny _ A.in1 (pyNext (.ref I) >>= _) _ _ s;refine Sm (W.item i s _ _ hlt hst λv h1 tk1 hP hst' kp=>?_);obtain⟨y,hy,⟨y1,y2,y3,y4⟩,vy,as,ry⟩:=hv i v hP;obtain⟨es,ep,t,S'⟩:=hS;have kt:∀b o vs n,s.heap.get? b=some o->o.cls=.type "tuple" -> o.data=.seq vs n->h1.get? b=some o:=λb o vs n e c _=>kp b o (λz=>hit _ _ hst b z o e c) e;have h0k1:∀b o,h0.get? b=some o->h1.get? b=some o:=λb o e=>kp b o (hw b o e) (h0k b o e);have S1:b9 vp w h1 S md ds:=⟨es,ep,t,kp _ _ hSw S'.ob,S'.tb,S'.ld,S'.nd,S'.ln,Paired.kD S'.el λ_ _ x=>El.keep x kt⟩;have r1:Reads h1 v y as:=kl (λb o vs n e _ _=>h0k1 b o e) y1 ry;have ey:El vp w h1 md (rR w y,v) y:=⟨y1,y2,y3,rfl,y4,⟨as,r1⟩,vy⟩;show wpAny _ A.in1 (holding [v] (setAdd S v) >>= _) _ _ _;refine Sm (Tf ?_);unfold setAdd;refine Tf ?_;refine Sm (oE y A.in1 {s with heap:=h1,toks:=tk1} v as _ _ y1 r1 (by omega) ?_);have htk:ys.take (i+1)=ys.take i++[y]:=by rw[List.take_add_one,hy];rfl
  refine B6 (s:={s with heap:=h1,toks:=tk1+oC y}) S1 ey hu (by omega) (λhmem=>?_) λhnm h2 ds2 sb S2 p2=>?_
  ·refine Sn ⟨V1 T7 _,ih (i+1) _ ds (by omega) hlt hst' S1 (λd=>?_) (by omega) h0k1 λh' tk ds' a b c=>hR h' tk ds' a b c⟩;rw[htk,SD,<- hm];constructor
   ·exact .inl
   ·rintro(z|z)
    ·exact z
    ·rw[SO.mp z];exact hmem
  ·obtain⟨es1,ep1,t1,S1'⟩:=S1;refine Sn ⟨V1 T7 _,ih (i+1) {s with heap:=h2,toks:=tk1+oC y} ds2 (by omega) hlt (W.frame _ _ _ hst' λb hb o e=>(sb.2 b λz=>hSf (z▸hb)).trans e) S2 (λd=>?_) (by rw[p2.length_eq];simp;omega) (λb o e=>(sb.2 b λz=>?_).trans (h0k1 b o e)) λh' tk ds' a b c=>hR h' tk ds' a b c⟩
   ·rw[p2.mem_iff,htk,SD,<- hm,Sz,SO];exact Or.comm
   ·rw[z,hS0]at e;cases e
theorem u5(a:Value)(h:Q₁ (.ref s.heap.objs.size) {s with heap:=s.heap.push (bD #[] 0 (.fresh 0 0 (!cU w)))}) :
  codeAny (model P w) A (.call (.builtin "set.__new__") ⟨[.type "set",a],[]⟩) (wants Q₁ E) s:=by
 refine codeAny_of_tree ?_;show wpAny _ A.in1 (do checkBuiltinCall "set.__new__" ⟨[.type "set",a],[]⟩;again (.builtin "set.__new__" ⟨[.type "set",a],[]⟩)) _ _ s;refine Sm (U6 (F.newCall_set_1 a) (Sn ⟨V1 F.plain_set_new _,Vg F.entry_set_new ?_⟩));rw[UQ F.plain_set_new _];unfold Builtin.«set.__new__» Builtin.Frozenset.newClass;have hsub:=sub_set_self;obtain⟨hp,g,d,tk,os⟩:=s;dsimp only
 wp_walk
 refine Vr (Sn ?_);dsimp only;simp only[newObj];refine Sm (wpAny_alloc (Sn ?_));exact Sn h
structure Src(P:WL)(w:World)(T:String)(l:Addr)(items:WJ)(OK:Heap->Prop):Prop where
 ob:∀h,OK h->∃od n sl,h.get? l=some {cls:=.type T,dict:=od,data:=.seq items n,slots:=sl}
 kp:∀h h',OK h->(∀o,h.get? l=some o->h'.get? l=some o)->OK h'
 s1:isSubtype (.type T) (.type "set")=pure false
 s2:isSubtype (.type T) (.type "frozenset")=pure false
 nd:(Value.type T==Value.type "dict")=false
 it:∀(A:WN) (E:Wv) (s:WO),A.handled=none->OK s.heap->∃(oI:Obj) (St:Nat->Heap->Prop),oI.cls≠.type "tuple" /\
  (∀Q:Wv,Q (.ref s.heap.objs.size) {s with heap:=s.heap.push oI}->wpAny (model P w) A (pyIter (.ref l)) Q E s) /\
  (∀A':WN,A'.handled=none->Walks P w A' s.heap.objs.size [s.heap.objs.size,l] [s.heap.objs.size] items.size (λi v=>items[i]?=some v) St)/\St 0 (s.heap.push oI)/\(∀i h,St i h->∀o,h.get? s.heap.objs.size=some o->o.cls≠.type "tuple")
theorem src_list(l:Addr)(items:WJ):Src P w "list" l items (λh=>h.IsList l items) where
 ob:=λh ⟨⟨c,d,da,sl⟩,ho,hc,n,hd⟩=>⟨d,n,sl,by grind⟩
 kp:=λh h' x k=>x.at k
 s1:=F.sub_list_set
 s2:=F.sub_list_frozenset
 nd:=by decide
 it:=λA E s hh hl=>by
  have hlS:l<s.heap.objs.size:=by obtain⟨_,e,_⟩:=hl;exact Sv e
  exact⟨{cls:=.type "list_iterator",data:=.fields #[.ref l,.int 0 0]},_,λz=>absurd (Value.type.inj z) (by decide),λQ q=>wpAny_pyIter_list hl q,λA' h'=>Walks.list h' _ l (SI hlS) items,⟨⟨_,Sy _ rfl,rfl,rfl⟩,hl.push _⟩,λi h ⟨⟨o',e,c,_⟩,_⟩ o eo=>by
   grind⟩
theorem src_tuple(l:Addr)(items:WJ):Src P w "tuple" l items (λh=>h.IsTuple l items) where
 ob:=λh ⟨⟨c,d,da,sl⟩,ho,hc,n,hd⟩=>⟨d,n,sl,by grind⟩
 kp:=λh h' ⟨o,e,r⟩ k=>⟨o,k _ e,r⟩
 s1:=sub_tuple_set
 s2:=sub_tuple_frozenset
 nd:=by decide
 it:=λA E s hh hl=>by
  have hlS:l<s.heap.objs.size:=by obtain⟨_,e,_⟩:=hl;exact Sv e
  exact⟨{cls:=.type "tuple_iterator",data:=.fields #[.ref l,.int 0 0]},_,λz=>absurd (Value.type.inj z) (by decide),λQ q=>VE hl q,λA' h'=>Walks.tuple h' _ l (SI hlS) items,⟨⟨_,Sy _ rfl,rfl,rfl⟩,hl.push _⟩,λi h ⟨⟨o',e,c,_⟩,_⟩ o eo=>by
   grind⟩
end
section
variable {P:WL} {w:World} {A:WN} {E:Wv} {s:WO} {vp:Value->Prop}
theorem readsAll_get:∀{vs:WC} {ds:WA} {as:WB},ReadsAll h vs ds as->∀{i:Nat} {v:Value},vs[i]?=some v->∃d bs,ds[i]?=some d/\Reads h v d bs
 |_,_,_,.nil,i,v,e=>by simp at e
 |_,_,_,.cons r _,0,v,e=>by grind
 |_,_,_,.cons _ t,i+1,v,e=>by simpa using readsAll_get t (by simp_all)
set_option maxHeartbeats 3200000 in
theorem u6{T:String}{l:Addr}{items:WJ}{OK:Heap->Prop}{md:Bool}{ys:WA}{as:WB}{Q:Wv}(K:Src P w T l items OK)(hh:A.handled=none)(hl:OK s.heap)(hr:ReadsAll s.heap items.toList ys as)(he:∀y∈ys,M6 md y)(hvp:∀v∈items.toList,vp v)(hn:ys.length<=120)(hu:A.units+25<cLine)
 (h:∀h' tk ds,b9 vp w h' s.heap.objs.size md ds->(∀d,d∈ds<->d∈ys)->(∀b o,s.heap.get? b=some o->h'.get? b=some o)->Q (.ref s.heap.objs.size) {s with heap:=h',toks:=tk}) :
  wpAny (model P w) A (call (.type "set") [.ref l]) Q E s:=by
 have hr0:=hr;have hlen:items.size=ys.length:=by have:=readsAll_len hr;simpa using this
 obtain⟨c,tl,hmro⟩:=Vh.mro;have hmade:=Vh.made;have hsub:=Vh.sub;refine wpAny_call (codeAny_of_tree ?_);show wpAny _ _ (callAny (.type "set") _) _ _ _;refine Sn ⟨Code.quiet_builtin _ (by decide +kernel),Vg F.entry_type_call ?_⟩;rw[Around.under_plain (weight_type_call_type "set" [.ref l] []) rfl];have h1:=Vh.notType;have h2:=Vh.canCreate;have hct:=F.typeCall_set_1 (.ref l)
 repeat (any_goals (first|assumption|wp_step))
 refine VR (u5 (.ref l) (E:=E) (Q₁:=λobj s₁=>obj=.ref s.heap.objs.size/\s₁={s with heap:=s.heap.push (bD #[] 0 (.fresh 0 0 (!cU w)))}) ⟨rfl,rfl⟩) λr s₁ hr=>?_
 cases r with
 |error e=>exact hr
 |ok fl=>
  cases fl with
  |ret obj=>
   obtain⟨rfl,rfl⟩:=hr;have hS:(s.heap.push (bD #[] 0 (.fresh 0 0 (!cU w)))).get? s.heap.objs.size=some (bD #[] 0 (.fresh 0 0 (!cU w))):=Sy _ rfl;have hT:Shared.TypeIs {s with heap:=s.heap.push (bD #[] 0 (.fresh 0 0 (!cU w)))} (.ref s.heap.objs.size) "set" := ⟨_,hS,rfl⟩;have hli:=Vh.init.lookup;have hbi:=Vh.init.bind (.ref s.heap.objs.size)
   repeat (any_goals (first|assumption|wp_step))
   refine VR (codeAny_call_builtin (R:=wants (λr s₂=>r=.none/\∃h' tk ds,s₂={s with heap:=h',toks:=tk}/\b9 vp w h' s.heap.objs.size md ds/\(∀d,d∈ds<->d∈ys)/\(∀b o,s.heap.get? b=some o->h'.get? b=some o)) E) Vh.init.plain F.entry_set_init (check_set_init_1 hT ?_)) λr₂ s₂ hr₂=>?_
   ·obtain⟨odict,nl,oslots,hol⟩:=K.ob _ hl;have hol':(s.heap.push (bD #[] 0 (.fresh 0 0 (!cU w)))).get? l=some {cls:=.type T,dict:=odict,data:=.seq items nl,slots:=oslots}:=So _ hol;have hsls:=K.s1;have hslf:=K.s2;have hne:=K.nd;have hl1:OK (s.heap.push (bD #[] 0 (.fresh 0 0 (!cU w)))):=K.kp _ _ hl λo e=>So _ e;have hh3:A.in1.in1.in1.handled=none:=by simp[hh]
    obtain⟨oI,St,i1,i2,i3,i4,i5⟩:=K.it A.in1.in1 (λe s'=>wants (λr s₂=>r=.none/\∃h' tk ds,s₂={s with heap:=h',toks:=tk}/\b9 vp w h' s.heap.objs.size md ds/\(∀d,d∈ds<->d∈ys)/\(∀b o,s.heap.get? b=some o->h'.get? b=some o)) E (.error e) s') {s with heap:=s.heap.push (bD #[] 0 (.fresh 0 0 (!cU w)))} (by simp[hh]) hl1;unfold Builtin.«set.__init__» noKeywords Builtin.Frozenset.updateFrom;generalize hPI:pyIter=PI
    wp_walk
    subst hPI;refine i2 _ ?_;refine Sm (wpAny_runValue ?_);have hlS:l<s.heap.objs.size:=Sv hol;have hsz:(s.heap.push (bD #[] 0 (.fresh 0 0 (!cU w)))).objs.size=s.heap.objs.size+1:=Tj _ _;have hSf:s.heap.objs.size∉[(s.heap.push (bD #[] 0 (.fresh 0 0 (!cU w)))).objs.size,l]:=by rw[hsz];simp only[Sz,SO,Tb,UC,not_or];exact⟨SI (UG _),UH hlS⟩
    have hS0:s.heap.get? s.heap.objs.size=none:=by
     cases e:s.heap.get? s.heap.objs.size with
     |none=>rfl
     |some o=>exact absurd (Sv e) (SQ _)
    refine Hc (vp:=vp) (A:=A.in1.in1) (h0:=s.heap) (ys:=ys) (md:=md) (i3 A.in1.in1.in1 hh3) s.heap.objs.size hSf hlen (by omega) (by show A.units+1+1+1+20<cLine;omega) (λi v hv=>?_) (λb o e hb=>?_) hS0 (λi h st b hb o e=>?_) (items.size-0) 0 _ [] rfl (Ug _) i4 (AB (So _ hS) ?_) (λd=>by simp) (Ug _) (λb o e=>So _ (So _ e)) λh' tk ds g1 g2 g3=>?_
    ·obtain⟨d,bs,e1,e2⟩:=readsAll_get hr0 (i:=i) (by rw[S8];exact hv);exact⟨d,e1,he d (SX e1),hvp v (SX (by rw[S8];exact hv)),bs,e2⟩
    ·have:=Sv e;rw[SO.mp hb]at this;have e2:(s.heap.push (bD #[] 0 (.fresh 0 0 (!cU w)))).objs.size<s.heap.objs.size:=this;rw[hsz]at e2;exact absurd e2 (Nat.not_lt.mpr (Uw _))
    ·exact i5 i h st o (by rw[SO.mp hb]at e;exact e)
    ·cases cU w
     ·exact .inl rfl
     ·exact .inr rfl
    ·refine Sn ?_;show wpAny _ _ (ret Value.none) _ _ _;exact Sn ⟨rfl,h',tk,ds,rfl,g1,g2,g3⟩
   ·cases r₂ with
    |error e=>exact hr₂
    |ok fl₂=>
     cases fl₂ with
     |ret r=>
      obtain⟨rfl,h',tk,ds,rfl,hS',hm',hk'⟩:=hr₂
      repeat (any_goals (first|assumption|wp_step))
      exact h _ _ _ hS' hm' hk'
     |_=>exact hr₂.elim
  |_=>exact hr.elim
end
noncomputable abbrev kz(v:Value)(i:Nat)(o:Value)(n ep:Nat):Obj:={cls:=.type "set_iterator",dict:=none,data:=.fields #[v,.int i 0,o,.int n 0,.int ep 0],slots:=#[]}
theorem u7:entryFor table "set.__iter__" = some Builtin.«frozenset.__iter__» := entryFor_alias (id' := "frozenset.__iter__") (by kernel_rfl) rfl (by decide +kernel) (by kernel_rfl)
theorem gU:entryFor table "set_iterator.__next__" = some Builtin.«set_iterator.__next__» := entryFor_of_tree (by rfl)
theorem cf:Slot "set_iterator" "__next__" "set_iterator.__next__" :=
 .of (by rfl) (by rfl) (by rfl) (by rfl)
  (by trivial) (by rfl)
theorem AD:Manifest.owners.lookup (String.ofList ['r', 'o', 't', 'a', 'r', 'e', 't', 'i', '_', 't', 'e', 's'].reverse)=some Manifest.sig_set_iterator:=by rfl
theorem iP(a:Value):argsOk "set_iterator.__next__" ⟨[a],[]⟩:=by unfold argsOk;rw[signature?_of (id := "set_iterator.__next__") (n:=['_', '_', 't', 'x', 'e', 'n', '_', '_']) (o:=['r', 'o', 't', 'a', 'r', 'e', 't', 'i', '_', 't', 'e', 's']) (by rfl) AD];rfl
section
variable {P:WL} {w:World} {A:WN} {E:Wv} {s:WO} {vp:Value->Prop}
theorem rh(hit:s.heap.get? I=some (kz v i o n ep))(hk:k<5)
 (q:∀h',h'.get? I=some {cls:=.type "set_iterator",dict:=none,data:=.fields ((#[v,.int i 0,o,.int n 0,.int ep 0]:WJ).setIfInBounds k x),slots:=#[]}->Heap.SameBut I s.heap h'->Q () {s with heap:=h'}):wpAny (model P w) A (setField (.ref I) k x) Q E s:=by
 refine wpAny_setField hit rfl (by omega) (q _ ?_ (Vs ..));have:=Ur (Obj.mapFields (·.setIfInBounds k x)) hit (Obj.isFreed_of_fields (Obj.data_mapFields rfl _));rw[this];rfl
theorem gk(hit:s.heap.get? I=some (kz v i o n ep)):s.TypeIs (.ref I) "set_iterator" := ⟨_,hit,rfl⟩
theorem DD{B:Builtin->Prop}(hh:A.handled=none)(hQ:∀h',Heap.ExtBut I h0 h'->Q none {s with heap:=h'})(he:Heap.ExtBut I h0 s.heap) :
  wpAny (model P w) A.in1 (newExc (.type "StopIteration") [] >>= λe=>(raiseNew e:Sem PySem.Fin)) (λfin s'=>∃r,fin=.done (.ret r)/\wpAny (model P w) A (pure (some r)) Q E s') (λe s'=>wpAny (model P w) A (do if <- isInstance e (.type "StopIteration")then pure none else throw e) Q E s') s:=by
 refine Sm ?_;simp only[newExc,newTuple];refine Sm (To ?_ (by size_fits));refine Sm (m:=firstArgMember _ _) (U6 (a:=Value.none) (by first|rfl | (simp only[firstArgMember];rfl)) ?_);refine To ?_ (by size_fits);simp only[raiseNew];refine Sm (wpAny_handled ?_);rw[show A.in1.handled=none from hh];refine Sm (Sn (wpAny_throw ?_));refine Sm (U9 (T := "StopIteration") (b:=true) ⟨_,Sy _ rfl,rfl⟩ isSubtype_stop ?_);exact Sn (hQ _ ((he.push _).push _))
end
section
variable {P:WL} {w:World} {A:WN} {E:Wv} {s:WO} {vp:Value->Prop}
variable {I a T:Addr} {i n ep sl:Nat} {es:Wy} {t:WM}
theorem tK{Q:PySem.Fin->WO->Prop}{E':Wv}(hit:s.heap.get? I=some (kz v i (.ref a) n ep))(ob:s.heap.get? a=some (bD es ep t))(ft:t.fits es.size=true)(hn:es.size=n)
 (q:wpAny (model P w) A (match v with
   |.int slot _=>do
    match <- setNext a slot.toNat i ep with
    |some (x,next)=>
     setField (.ref I) 0 (rawInt next)
     setField (.ref I) 1 (rawInt ((i:Int)+1))
     ret x
    |none=>setField (.ref I) 2 .none;raiseNew (<- newExc (.type "StopIteration") [])
   |first=>do
    let some places <- seqItems? first|unsupported "internal:set_iterator"
    match places[i]? with
    |some (.int place _)=>
     let x <- setNextDrawn a place.toNat ep
     setField (.ref I) 1 (rawInt ((i:Int)+1))
     ret x
    |some _=>unsupported "internal:set_iterator"
    |none=>setField (.ref I) 0 (rawInt 0);setField (.ref I) 2 .none;raiseNew (<- newExc (.type "StopIteration") [])) Q E' s) :
  wpAny (model P w) A (Builtin.«set_iterator.__next__» ⟨[.ref I],[]⟩) Q E' s:=by
 unfold Builtin.«set_iterator.__next__»;refine Sm (U6 (a:=(Value.ref I,[])) rfl ?_);dsimp only;refine Sm (wpAny_fieldsOf hit rfl ?_);dsimp only;refine Sm (V8 ob rfl ft ?_);rw[if_neg (by simp[hn])];simp only[Uz];cases v<;>exact q
theorem AE(hit:s.heap.get? I=some (kz (.int sl 0) i (.ref a) n ep))(ob:s.heap.get? a=some (bD es ep t))(ft:t.fits es.size=true)(hn:es.size=n)
 (hs:∀(A':WN) (Q':Option (Value×Nat)->WO->Prop) (E':Wv),Q' (some (x,nx)) s->wpAny (model P w) A' (setNext a sl i ep) Q' E' s)
 (q:∀h',h'.get? I=some (kz (.int nx 0) (i+1) (.ref a) n ep)->Heap.SameBut I s.heap h'->Q (some x) {s with heap:=h'}):wpAny (model P w) A (pyNext (.ref I)) Q E s:=by
 refine Sm (VI (Ti (gk hit) cf (Te cf (gk hit) gU ?_ (iP _))));refine tK hit ob ft hn ?_;refine Sm (hs _ _ _ ?_);refine Sm (rh hit (by omega) λh1 g1 b1=>?_);have g1'  := g1;refine Sm (rh g1' (by omega) λh2 g2 b2=>?_);exact Sn ⟨_,rfl,Sn (q h2 g2 (b1.trans b2))⟩
theorem DF(hh:A.handled=none)(hit:s.heap.get? I=some (kz (.int sl 0) i (.ref a) n ep))(ob:s.heap.get? a=some (bD es ep t))(ft:t.fits es.size=true)(hn:es.size=n)
 (hs:∀(A':WN) (Q':Option (Value×Nat)->WO->Prop) (E':Wv),Q' none s->wpAny (model P w) A' (setNext a sl i ep) Q' E' s)
 (q:∀h',Heap.ExtBut I s.heap h'->Q none {s with heap:=h'}):wpAny (model P w) A (pyNext (.ref I)) Q E s:=by
 refine Sm (VI (Ti (gk hit) cf (Te cf (gk hit) gU ?_ (iP _))));refine tK hit ob ft hn ?_;refine Sm (hs _ _ _ ?_);refine Sm (rh hit (by omega) λh1 g1 b1=>?_);exact DD (B:=λ_=>True) hh q b1.extBut
theorem Hd{place:Nat}(hit:s.heap.get? I=some (kz (.ref T) i (.ref a) n ep))(ob:s.heap.get? a=some (bD es ep t))(ft:t.fits es.size=true)(hn:es.size=n)(hT:s.heap.IsTuple T pl)(hp:pl[i]?=some (rawInt place))(hx:es[place]?=some x)
 (q:∀h',h'.get? I=some (kz (.ref T) (i+1) (.ref a) n ep)->Heap.SameBut I s.heap h'->Q (some x.2) {s with heap:=h'}):wpAny (model P w) A (pyNext (.ref I)) Q E s:=by
 unfold pyNext;refine Sm (VI (Ti (name:=Str.ofString "__next__") (gk hit) cf (Te cf (gk hit) gU ?_ (iP _))));refine tK hit ob ft hn ?_;dsimp only;obtain⟨oT,gT,cT,nT,dT⟩:=hT;refine Sm (TY gT dT ?_);dsimp only;rw[hp];show wpAny _ _ (setNextDrawn a (Int.toNat (place:Nat)) ep >>= _) _ _ _;rw[Uz];unfold setNextDrawn;refine Sm (Sm (cb ob ft ?_));dsimp only;rw[if_neg (by simp),hx];refine Sn ?_;refine Sm (rh hit (by omega) λh1 g1 b1=>?_);exact Sn ⟨_,rfl,Sn (q h1 g1 b1)⟩
theorem JH(hh:A.handled=none)(hit:s.heap.get? I=some (kz (.ref T) i (.ref a) n ep))(ob:s.heap.get? a=some (bD es ep t))(ft:t.fits es.size=true)(hn:es.size=n)(hT:s.heap.IsTuple T pl)(hp:pl[i]?=none)
 (q:∀h',Heap.ExtBut I s.heap h'->Q none {s with heap:=h'}):wpAny (model P w) A (pyNext (.ref I)) Q E s:=by
 refine Sm (VI (Ti (name:=Str.ofString "__next__") (gk hit) cf (Te cf (gk hit) gU ?_ (iP _))));refine tK hit ob ft hn ?_;obtain⟨oT,gT,cT,nT,dT⟩:=hT;refine Sm (TY gT dT ?_);dsimp only;rw[hp];refine Sm (rh hit (by omega) λh1 g1 b1=>?_);have g1':h1.get? I=some (kz (rawInt 0) i (.ref a) n ep):=g1;refine Sm (rh (s:={s with heap:=h1}) g1' (by omega) λh2 g2 b2=>?_);exact DD (s:={s with heap:=h2}) (h0:=s.heap) (B:=λ_=>True) hh q (b1.trans b2).extBut
theorem xJ(ob:s.heap.get? a=some (bD es ep t))(ft:t.fits es.size=true)(hb:cU w=true)(hL:L=pickOrder (w.params.setOrder a ep) es)(h:Q ((L[i]?).map λe=>(e.2,sl)) s):wpAny (model P w) A (setNext a sl i ep) Q E s:=by unfold setNext;refine Sm (cb ob ft ?_);dsimp only;refine Sm (gI ?_);rw[if_pos hb,if_neg (by simp)];unfold setWalk;refine Sm (Sm (cb ob ft ?_));dsimp only;refine Sm (gI ?_);rw[if_pos hb];refine Sm (Vr (Sn (Sn ?_)));rw[hL]at h;exact h
theorem u9(ob:s.heap.get? a=some (bD es ep t))(ft:t.fits es.size=true)(hb:cU w=false)(hd:(!t.plain&&decide (es.size>1))=false)(hl:t.led=true)
 (h:Q (match es[SetTable.below t.place sl]?,t.place[SetTable.below t.place sl]? with|some (_,x),some j=>some (x,j+1)|_,_=>none) s):wpAny (model P w) A (setNext a sl i ep) Q E s:=by
 unfold setNext;refine Sm (cb ob ft ?_);dsimp only;refine Sm (gI ?_);rw[if_neg (by rw[hb];simp)];refine Tt (λz=>absurd z (by show ¬ (!t.plain&&decide (es.size>1))=true;rw[hd];simp)) λ_=>?_;refine Sm (m:=(if(!t.led && !es.isEmpty)=true then unsupported "set:maker-not-led" else pure ())) ?_;rw[hl];simp only[UK,VQ,SF,Tz];exact Sn (Sn h)
end
theorem eZ:Slot "set_iterator" "__iter__" "set_iterator.__iter__" :=
 .of (by rfl) (by rfl) (by rfl) (by rfl)
  (by trivial) (by rfl)
theorem j0:entryFor table "set_iterator.__iter__" = some Builtin.«dict_keyiterator.__iter__» := entryFor_alias (id' := "dict_keyiterator.__iter__") (by kernel_rfl) rfl (by decide +kernel) (by kernel_rfl)
theorem kX(a:Value):argsOk "set_iterator.__iter__" ⟨[a],[]⟩:=by unfold argsOk;rw[signature?_of (id := "set_iterator.__iter__") (n:=['_', '_', 'r', 'e', 't', 'i', '_', '_']) (o:=['r', 'o', 't', 'a', 'r', 'e', 't', 'i', '_', 't', 'e', 's']) (by kernel_rfl) AD];rfl
noncomputable def slotAt(place:WK):Nat->Nat
 |0=>0
 |i+1=>place.getD i 0+1
theorem va(r:oP xs):∀i,i<=xs.size->SetTable.below xs (slotAt xs i)=i
 |0,_=>by
  obtain⟨a,_,c⟩:=jh r (slotAt xs 0);apply Tx;intro z;have h0:0<SetTable.below xs (slotAt xs 0):=by omega
  have:=a 0 (by omega) h0
  grind[slotAt]
 |i+1,h=>by
  have hi:i<xs.size:=by omega
  have e:slotAt xs (i+1)=xs[i]+1:=by simp[slotAt,Array.getD,hi]
  rw[e];obtain⟨a,b,c⟩:=jh r (xs[i]+1);apply Tx;intro z;by_cases h1:SetTable.below xs (xs[i]+1)<=i
  ·have:=b i hi h1;omega
  ·have h2:i+1<SetTable.below xs (xs[i]+1):=by omega
   have h3:i+1<xs.size:=by omega
   have:=a (i+1) h3 h2;have:=tH r (i:=i) (k:=i+1) (by omega) h3;omega
section
variable {P:WL} {w:World} {A:WN} {E:Wv} {s:WO} {vp:Value->Prop}
theorem yU{Q:Wv}(hT:s.TypeIs (.ref I) "set_iterator")(h:Q (.ref I) s):wpAny (model P w) A (Builtin.«dict_keyiterator.__iter__» ⟨[.ref I],[]⟩) (λfin s'=>∃v,fin=.done (.ret v)/\∃T' r,s'.TypeIs v T'/\typeLookup (.type T') (Str.ofString "__next__")=pure (some r)/\Q v s') E s:=Sn ⟨_,rfl, "set_iterator",_,hT,cf.lookup,h⟩
noncomputable def JI(P:WL)(w:World)(s:WO)(a:Addr)(es:Wy)(Q:Wv):Prop:=
 ∀(L:List (Int×Value)) (I:Addr) (h':Heap) (dr:Drawn) (fp:WB) (St:Nat->Heap->Prop),List.Perm L es.toList->(∀b∈fp,b<h'.objs.size)->I∈fp->(∀b∈fp,b=a\/s.heap.objs.size<=b)->s.heap.objs.size<=I->(∀b o,s.heap.get? b=some o->h'.get? b=some o) ->
  (∀A':WN,A'.handled=none->Walks P w A' I fp [I] L.length (λi v=>∃e,L[i]?=some e/\v=e.2) St)->St 0 h'->Q (.ref I) {s with heap:=h',drawn:=dr}
theorem He(S:cI vp w s.heap a md ds es ep t)(q:JI P w s a es Q):wpAny (model P w) A (pyIter (.ref a)) Q E s:=by
 have hT:s.TypeIs (.ref a) "set" := ⟨_,S.ob,rfl⟩;have hes:=S.size;have hln:=S.ln;have la:a<s.heap.objs.size:=Sv S.ob;refine VP hT F.slot_set_iter (Te F.slot_set_iter hT u7 ?_ (F.args_set_iter_1 _));unfold Builtin.«frozenset.__iter__»;refine Sm (U6 (a:=a) rfl ?_);unfold Builtin.Frozenset.sizeOf;refine Sm (Sm (V8 S.ob rfl S.tb.fits (Sn ?_)));unfold setDrawn;refine Sm (Sm (cb S.ob S.tb.fits ?_));dsimp only;refine Sm (gI (Sn ?_));have fits:=S.tb.fits;by_cases hd:(!cU w&&(!t.plain&&decide (es.size>1)))=true
 ·
  refine Tt (λ_=>?_) λz=>absurd hd z;refine Sm (yS es.size (List.range es.size) s _ (by simp) λidx dr p=>?_);have hil:idx.length=es.size:=by have:=p.length_eq;simpa using this
  refine Sm (wpAny_newTuple (hsz:=by rw[SG,hil,Ul];omega) ?_);refine Sm (U2 (s:={s with heap:=s.heap.push _,drawn:=dr}) (So _ S.ob) rfl fits ?_);refine Sm (To (Sn ⟨_,rfl, "set_iterator",_,⟨_,Sy _ rfl,rfl⟩,cf.lookup,?_⟩));generalize hob:({cls:=.type "tuple",data:=.seq (idx.map λ(i:Nat)=>rawInt i).toArray}:Obj)=oT;have hsz:(s.heap.push oT).objs.size=s.heap.objs.size+1:=Tj _ _;have hin:∀k∈idx,k<es.size:=λk hk=>TK.mp (p.mem_iff.mp hk);have hget:∀i k,idx[i]?=some k->∃e,es[k]?=some e:=λi k e=>⟨_,SY (hin k (SX e))⟩;obtain⟨g1,g2⟩:=B5 (es:=es) (l:=idx.map λk=>(0,k)) (λp hp=>by obtain⟨k,hk,rfl⟩:=SU.mp hp;exact hin k hk);have em:(idx.map λk=>((0:Nat),k)).map (·.2)=idx:=by rw[V9];exact Wn idx
  rw[em]at g1 g2;have hLp:List.Perm (idx.filterMap λk=>es[k]?) es.toList:=(p.filterMap _).trans (by rw[filterMap_getElem?_range]);have hLn:(idx.filterMap λk=>es[k]?).length=es.size:=by rw[hLp.length_eq];simp
  refine q (idx.filterMap λk=>es[k]?) (s.heap.push oT).objs.size _ dr [(s.heap.push oT).objs.size,s.heap.objs.size,a] (λi h=>h.get? (s.heap.push oT).objs.size=some (kz (.ref s.heap.objs.size) i (.ref a) es.size ep)/\h.IsTuple s.heap.objs.size (idx.map λ(i:Nat)=>rawInt i).toArray/\h.get? a=some (bD es ep t)) hLp (λb hb=>?_) (SK ..) (λb hb=>by simp only[Sz,Tb,UC]at hb;rcases hb with rfl|rfl|rfl;exact .inr (by rw[hsz];exact Uw _);exact .inr (Ss _);exact .inl rfl) (by rw[hsz];exact Uw _) (λb o e=>So _ (So _ e)) (λA' hh=>?_) ⟨?_,?_,?_⟩
  ·rw[Tj,hsz];simp only[Sz,Tb,UC]at hb;rcases hb with rfl|rfl|rfl
   ·rw[hsz];exact UG _
   ·exact Sx (UG _) (Uw _)
   ·exact Sx la (by omega)
  ·have n1:s.heap.objs.size≠(s.heap.push oT).objs.size:=by rw[hsz];exact SI (UG _)
   have n2:a≠(s.heap.push oT).objs.size:=by rw[hsz];exact SI (Um la)
   refine⟨λb hb=>by simp at hb;simp[hb],λi h h' ⟨x1,⟨o,x2,x3⟩,x4⟩ k=>⟨k _ (by simp) _ x1,⟨o,k _ (by simp) _ x2,x3⟩,k _ (by simp) _ x4⟩,λi s' Q' E' hi ⟨x1,x2,x3⟩ hQ=>?_,λs' Q' E' ⟨x1,x2,x3⟩ hQ=>?_,λi s' Q' E' ⟨x1,_,_⟩ hQ=>?_⟩
   ·rw[hLn]at hi;have hi2:i<idx.length:=by omega
    have ek:=SH hi2;obtain⟨e,he⟩:=hget i _ ek;refine Hd (x:=e) x1 x3 fits rfl x2 (place:=idx[i]) (by simp[ek]) he λh' y1 sb=>hQ e.2 h' s'.toks ⟨e,?_,rfl⟩ ⟨y1,?_,(sb.2 a n2).trans x3⟩ λb o hb eo=>(sb.2 b λz=>hb (by simp[z])).trans eo
    ·rw[g2 i (0,idx[i]) (by simp[ek])];exact he
    ·obtain⟨o,x2,x4⟩:=x2;exact⟨o,(sb.2 _ n1).trans x2,x4⟩
   ·rw[hLn]at x1;refine JH hh x1 x3 fits rfl x2 (by simp;omega) λh' eb=>hQ h' s'.toks λb o hb eo=>eb b o (λz=>hb (by simp[z])) eo
   ·have hT':s'.TypeIs (.ref (s.heap.push oT).objs.size) "set_iterator" := gk x1;exact VP hT' eZ (Te eZ hT' j0 (yU hT' hQ) (kX _))
  ·exact Sy _ rfl
  ·subst hob;exact⟨_,So _ (Sy _ rfl),rfl,_,rfl⟩
  ·exact So _ (So _ S.ob)
 ·refine Tt (λz=>absurd z hd) λ_=>?_;refine Sm (Sn ?_);refine Sm (U2 S.ob rfl fits ?_);refine Sm (To (Sn ⟨_,rfl, "set_iterator",_,⟨_,Sy _ rfl,rfl⟩,cf.lookup,?_⟩));have na:a≠s.heap.objs.size:=SI la;by_cases hb:cU w=true
  ·
   have pk:=xH (w.params.setOrder a ep) es;have pkn:(pickOrder (w.params.setOrder a ep) es).toList.length=es.size:=by rw[pk.length_eq];simp
   refine q (pickOrder (w.params.setOrder a ep) es).toList s.heap.objs.size _ s.drawn [s.heap.objs.size,a] (λi h=>h.get? s.heap.objs.size=some (kz (.int ((0:Nat):Int) 0) i (.ref a) es.size ep)/\h.get? a=some (bD es ep t)) pk (λb hb=>?_) (SK ..) (λb hb=>by simp only[Sz,Tb,UC]at hb;rcases hb with rfl|rfl;exact .inr (Ss _);exact .inl rfl) (Ss _) (λb o e=>So _ e) (λA' hh=>?_) ⟨Sy _ rfl,So _ S.ob⟩
   ·rw[Tj];simp only[Sz,Tb,UC]at hb;rcases hb with rfl|rfl
    ·exact UG _
    ·exact Um la
   ·refine⟨λb hb=>by simp at hb;simp[hb],λi h h' ⟨x1,x4⟩ k=>⟨k _ (by simp) _ x1,k _ (by simp) _ x4⟩,λi s' Q' E' hi ⟨x1,x3⟩ hQ=>?_,λs' Q' E' ⟨x1,x3⟩ hQ=>?_,λi s' Q' E' ⟨x1,_⟩ hQ=>?_⟩
    ·have ek:=SH hi;generalize (pickOrder (w.params.setOrder a ep) es).toList[i]=e at ek;refine AE (x:=e.2) (nx:=0) x1 x3 fits rfl (λA2 Q2 E2 h2=>xJ x3 fits hb rfl ?_) λh' y1 sb=>hQ e.2 h' s'.toks ⟨e,ek,rfl⟩ ⟨y1,(sb.2 a na).trans x3⟩ λb o hb eo=>(sb.2 b λz=>hb (by simp[z])).trans eo;rw[<- S8,ek];exact h2
    ·refine DF hh x1 x3 fits rfl (λA2 Q2 E2 h2=>xJ x3 fits hb rfl ?_) λh' eb=>hQ h' s'.toks λb o hb eo=>eb b o (λz=>hb (by simp[z])) eo;rw[<- S8,List.getElem?_eq_none (Ss _)];exact h2
    ·have hT':s'.TypeIs (.ref s.heap.objs.size) "set_iterator" := gk x1;exact VP hT' eZ (Te eZ hT' j0 (yU hT' hQ) (kX _))
  ·
   have hb':cU w=false:=by simpa using hb
   have hd':(!t.plain&&decide (es.size>1))=false:=by rw[hb']at hd;simpa using hd
   have hled:t.led=true:=by
    rcases S.ld with z|z
    ·exact z
    ·exact absurd z hb
   have hps:t.place.size=es.size:=S.tb.sz;refine q es.toList s.heap.objs.size _ s.drawn [s.heap.objs.size,a] (λi h=>h.get? s.heap.objs.size=some (kz (.int ((slotAt t.place i:Nat):Int) 0) i (.ref a) es.size ep)/\h.get? a=some (bD es ep t)) (.refl _) (λb hb=>?_) (SK ..) (λb hb=>by simp only[Sz,Tb,UC]at hb;rcases hb with rfl|rfl;exact .inr (Ss _);exact .inl rfl) (Ss _) (λb o e=>So _ e) (λA' hh=>?_) ⟨Sy _ rfl,So _ S.ob⟩
   ·rw[Tj];simp only[Sz,Tb,UC]at hb;rcases hb with rfl|rfl
    ·exact UG _
    ·exact Um la
   ·refine⟨λb hb=>by simp at hb;simp[hb],λi h h' ⟨x1,x4⟩ k=>⟨k _ (by simp) _ x1,k _ (by simp) _ x4⟩,λi s' Q' E' hi ⟨x1,x3⟩ hQ=>?_,λs' Q' E' ⟨x1,x3⟩ hQ=>?_,λi s' Q' E' ⟨x1,_⟩ hQ=>?_⟩
    ·have hi':i<es.size:=by simpa using hi
     have ek:=SY hi';have ep':=SY (show i<t.place.size by omega);refine AE (x:=es[i].2) (nx:=slotAt t.place (i+1)) x1 x3 fits rfl (λA2 Q2 E2 h2=>u9 x3 fits hb' hd' hled ?_) λh' y1 sb=>hQ es[i].2 h' s'.toks ⟨es[i],by rw[S8];exact ek,rfl⟩ ⟨y1,(sb.2 a na).trans x3⟩ λb o hb eo=>(sb.2 b λz=>hb (by simp[z])).trans eo;rw[va S.tb.rp i (by omega),ek,ep'];have:slotAt t.place (i+1)=t.place[i]'(by omega)+1:=by simp[slotAt,Array.getD,show i<t.place.size by omega]
     rw[this]at h2;exact h2
    ·have hl:es.toList.length=es.size:=by simp
     rw[hl]at x1;refine DF hh x1 x3 fits rfl (λA2 Q2 E2 h2=>u9 x3 fits hb' hd' hled ?_) λh' eb=>hQ h' s'.toks λb o hb eo=>eb b o (λz=>hb (by simp[z])) eo;rw[va S.tb.rp es.size (by omega),Array.getElem?_eq_none (Ss _)];exact h2
    ·have hT':s'.TypeIs (.ref s.heap.objs.size) "set_iterator" := gk x1;exact VP hT' eZ (Te eZ hT' j0 (yU hT' hQ) (kX _))
end
section
variable {P:WL} {w:World} {A:WN} {E:Wv} {s:WO} {vp:Value->Prop}
theorem Hf(hT:s.TypeIs (.ref r) "set")(h:Q false s):wpAny (model P w) A (Builtin.List.listLengthHint (.ref r)) Q E s:=by
 unfold Builtin.List.listLengthHint;refine Sm (UW hT PySem.F.slot_set_len.lookup ?_);generalize hid:("set.__len__" : String)=id0
 wp_delta
 rw[show splitId id0=some ("set", "__len__")from by subst hid;decide +kernel];subst hid;refine Sm (U9 (T := "set") (b:=true) hT sub_set_self ?_);refine Tt (λhab=>absurd hab (by decide)) (λ_=>?_);refine Tt (λ_=>?_) (λhab=>absurd (by decide +kernel) hab);refine Sm (Vz hT ?_);exact Sn h
theorem AF(S:cI vp w s.heap a md ds es ep t)(hh:A.handled=none)
 (q:∀(L:List (Int×Value)) h' dr tk,s.heap.objs.size<h'.objs.size->List.Perm L es.toList->(∀b o,s.heap.get? b=some o->h'.get? b=some o)->Q (L.map (·.2)) {s with heap:=h',drawn:=dr,toks:=tk}):wpAny (model P w) A (collect (.ref a)) Q E s:=by
 have hes:=S.size;have hln:=S.ln;unfold collect;refine Sm (wpAny_runValue (Vg F.entry_proto_collect ?_));rw[UQ F.plain_proto_collect _];show wpAny _ A.in1 (newList [] >>= λl=>again (.builtin "list.__iadd__" ⟨[l,.ref a],[]⟩)) _ _ s;refine Sm (To ?_);refine Sn ⟨V1 F.plain_list_iadd _,Vg F.entry_list_iadd ?_⟩;rw[UQ F.plain_list_iadd _];have hS₁:(s.heap.push {cls:=.type "list",data:=.seq ([]:WC).toArray}).get? s.heap.objs.size=some {cls:=.type "list",data:=.seq ([]:WC).toArray}:=Sy _ rfl;have la:=Sv S.ob;have h1:Builtin.List.listSameRef (.ref s.heap.objs.size) (.ref a)=false:=by simp[Builtin.List.listSameRef,UH la]
 have S1:cI vp w (s.heap.push {cls:=.type "list",data:=.seq ([]:WC).toArray}) a md ds es ep t:=S.keep λb o e=>So _ e;show wpAny _ A.in1 (Builtin.List.listExtendWith (.ref s.heap.objs.size) (.ref a) (.ref s.heap.objs.size)) _ _ _;unfold Builtin.List.listExtendWith;refine Sm (Vz (T := "set") ⟨_,S1.ob,rfl⟩ ?_);rw[if_neg (by rw[h1];decide)];refine Sm (He (s:={s with heap:=s.heap.push {cls:=.type "list",data:=.seq ([]:WC).toArray}}) S1 λL I h' dr fp St p f1 f2 f5 f3 f4 W st=>?_);have hS2:=f4 _ _ hS₁;refine Sm (Tf (Hf (s:={s with heap:=h',drawn:=dr}) ⟨_,f4 _ _ S1.ob,rfl⟩ ?_));rw[if_pos (by decide)];have hLn:L.length=es.size:=by rw[p.length_eq];simp
 have hSf:s.heap.objs.size∉fp:=λhm=>by
  rcases f5 _ hm with z|z
  ·exact absurd la (by rw[<- z];exact SQ _)
  ·have z':(s.heap.push {cls:=.type "list",data:=.seq ([]:WC).toArray}).objs.size<=s.heap.objs.size:=z;rw[Tj]at z';exact absurd z' (Nat.not_le.mpr (UG _))
 refine Sm (UA ?_);refine Sm ?_;show wpAny _ _ (updateSeq s.heap.objs.size (·.push .none) >>= λ_=>updateSeq s.heap.objs.size (·.pop)) _ _ _;refine Sm (wpAny_updateSeq hS2 rfl ?_);have hS3:=Ur (Obj.mapSeq (·.push Value.none)) hS2 rfl;refine wpAny_updateSeq (hz:=by seq_fits) hS3 rfl ?_;have hS4:=Ur (Obj.mapSeq (·.pop)) hS3 rfl;have oth:∀b o,b≠s.heap.objs.size->h'.get? b=some o->((h'.update s.heap.objs.size (Obj.mapSeq (·.push Value.none))).update s.heap.objs.size (Obj.mapSeq (·.pop))).get? b=some o:=λb o hb e=>(Vb _ _ (VC hb)).trans ((Vb _ _ (VC hb)).trans e);have st2:=(W A.in1 hh).frame 0 _ _ st λb hb o e=>oth b o (λz=>hSf (z▸hb)) e;refine Sn ⟨V1 F.plain_extend_loop _,codeAny_extend_loopS (W A.in1 hh).toS (by rw[hLn,Ul];omega) _ hSf _ L.length 0 _ _ _ rfl (Ug _) st2 hS4 (ItemsOf.nil _) λs' acc' c' hm hS' hacc=>?_⟩;show wpAny _ A (load s.heap.objs.size >>= _) _ _ s';refine Sm (VO hS' ?_);refine Sn ?_
 have e1:acc'.toList=L.map (·.2):=by
  apply List.ext_getElem?;intro j;rw[S8,Ua];by_cases hj:j<acc'.size
  ·obtain⟨e,he,hv⟩:=hacc.2 j acc'[j] (SY hj);rw[SY hj,he,hv];rfl
  ·rw[Array.getElem?_eq_none (by omega),List.getElem?_eq_none (by rw[<- hacc.1];omega)];rfl
 rw[e1];obtain⟨hp2,g2,d2,tk2,os2⟩:=s';have eg:g2=s.gens:=hm.gens;have ed:d2=dr:=hm.drawn;have eo:os2=s.os:=hm.os;subst eg;subst ed;subst eo;refine q L hp2 d2 tk2 (Sv hS') p λb o e=>hm.heap b o (λz=>?_) (oth b o (SI (Sv e)) (f4 _ _ (So _ e)));have lb:=Sv e;rcases Sz.mp z with z|z
 ·rw[z]at lb;exact SQ _ lb
 ·rw[SO.mp z]at lb;have f3':(s.heap.push {cls:=.type "list",data:=.seq ([]:WC).toArray}).objs.size<=I:=f3;rw[Tj]at f3';exact absurd (Sx lb (Nat.le_of_succ_le f3')) (SQ _)
end
theorem sE:∀{vs:WC} {ds:WA},Paired (λv d=>∃as,Reads h v d as) vs ds->∃as,ReadsAll h vs ds as
 |_,_,.nil=>⟨_,.nil⟩
 |_,_,.cons ⟨_,r⟩ t=>let ⟨_,q⟩:=sE t;⟨_,.cons r q⟩
theorem oh(r:ReadsAll h vs ds as):∀(p:List Nat),(∀i∈p,i<vs.length)->∃bs,ReadsAll h (p.map λi=>vs.getD i .none) (p.map λi=>ds.getD i .none) bs
 | [],_=>⟨_,.nil⟩
 |i::p,hp=>by
  have hi:=hp i (SK ..);obtain⟨bs,q⟩:=oh r p λj hj=>hp j (SE _ hj);obtain⟨d,cs,e1,e2⟩:=readsAll_get r (SH hi);refine⟨_,.cons (as:=cs) ?_ q⟩
  simp_all
section
variable {P:WL} {w:World} {A:WN} {E:Wv} {s:WO} {vp:Value->Prop}
theorem AG(p:List.Perm ds es)(h:dU ds=true):dU es=true:=by
 unfold dU at h ⊢;rw[SR]at h ⊢;intro a ha;have:=h a (p.mem_iff.mpr ha);rw[SR]at this ⊢
 grind
theorem AH{f:PyData->Bool}(p:List.Perm ds es)(h:ds.all f=true):es.all f=true:=by
 rw[SR]at h ⊢
 grind
theorem gm:∀{ds:WA} {n:Nat},PyData.depthAll ds<=n<->∀d∈ds,d.depth<=n
 | [],n=>by simp[PyData.depthAll]
 |d::ds,n=>by simp[PyData.depthAll];rw[<- gm];omega
theorem xK:ax ds=true<->∀d∈ds,av d=true:=⟨λh d m=>aT h m,hU⟩
theorem B8(S:b9 vp w s.heap a md ds)(hh:A.handled=none)(pz:List.Perm ds zs)(ok:cL zs=true)(hu:A.units+60<cLine)
 (q:∀h' dr tk p us e,s.heap.objs.size<=p->(∀b o,s.heap.get? b=some o->h'.get? b=some o)->h'.get? p=some (PyProof.Rows.seqObj "list" (us:WC).toArray e)->(∃as,ReadsAll h' us (bY ltB zs) as)->(∀u∈us,vp u)->Q (.ref p) {s with heap:=h',drawn:=dr,toks:=tk}):wpAny (model P w) A (call (.builtin "sorted") [.ref a]) Q E s:=by
 obtain⟨es,ep,t,S⟩:=S;simp only[cL,Su,Td,UZ]at ok;obtain⟨⟨⟨⟨kd,tr⟩,cm⟩,dp⟩,h64⟩:=ok;refine Calls.call_function_entry PyProof.Rows.kind_sorted PyProof.Rows.plain_sorted PyProof.Rows.entry_sorted (PyProof.Rows.args_sorted1 _) ?_;unfold Builtin.«sorted»;refine Sm (m:=checkCount "sorted" 1 1 _) (Sn ?_);refine Sm (AF S (by simp[hh]) λL h1 dr tk sz1 pL k1=>?_);obtain⟨ds1,p1,e1⟩:=ie pL.symm S.el;have pd:List.Perm ds1 zs:=p1.symm.trans pz;have hLd:L.length=ds1.length:=SW e1;have hdz:ds1.length=zs.length:=pd.length_eq;generalize hvs:L.map (·.2)=vs;have hvl:vs.length=zs.length:=by rw[<- hvs,SG,hLd,hdz]
 obtain⟨as,ra⟩:∃as,ReadsAll h1 vs ds1 as:=by
  refine sE ?_;rw[<- hvs]
  have:∀{l:List (Int×Value)} {ys:WA},Paired (El vp w s.heap md) l ys->Paired (λv d=>∃as,Reads h1 v d as) (l.map (·.2)) ys:=by
   intro l ys h
   induction h with
   |nil=>exact .nil
   |cons r _ ih=>exact .cons (let ⟨as,x⟩:=r.rd;⟨as,kl (λb o _ _ e _ _=>k1 b o e) r.tr x⟩) ih
  exact this e1
 refine Sm (wpAny_newList (hsz:=by rw[hvl,Ul];omega) ?_);have hoL:(h1.push (PyProof.Rows.seqObj "list" vs.toArray 0)).get? h1.objs.size=some (PyProof.Rows.seqObj "list" vs.toArray 0):=Sy _ rfl;have tr1:ax ds1=true:=xK.mpr λd m=>xK.mp tr d (pd.mem_iff.mp m);have cm1:=AG pd.symm cm;have O:=OG (gF cm1 tr1);rw[hdz,<- hvl]at O;refine Sm (Tf (Te PyProof.Rows.slot_list_sort ⟨_,hoL,rfl⟩ PyProof.Rows.entry_list_sort (PySem.W.nX hoL O (by omega) (λh' k h2=>?_) λp a1 a2=>⟨_,rfl,?_⟩) (PyProof.Rows.args_list_sort _)))
 ·have ra':ReadsAll h' vs ds1 as:=Tu (λb o e=>k b o (SI (Sv e)) (So _ e)) ra
  have la:PyData.canLayAll0 ds1=true:=pj (bx.mpr λd m=>by
   obtain⟨i,hi⟩:=TU m;obtain⟨e,_,x⟩:=jE e1 hi
   exact x.so) (iJ tr1)
  rcases kd with kd|kd
  ·exact xk (s:={s with heap:=h',drawn:=dr,toks:=tk}) ra' (AH pd.symm kd) h2
  ·exact xj (s:={s with heap:=h',drawn:=dr,toks:=tk}) (by show A.units+1+1+41<cLine;omega) ra' (AH pd.symm kd) tr1 cm1 la (gm.mpr λd m=>gm.mp dp d (pd.mem_iff.mp m)) (by omega)
 ·obtain⟨e,he⟩:=PyProof.Rows.sortedHeap_at (out:=(p.toList.map λi=>vs.getD i Value.none).toArray) hoL;have kp:∀b o,h1.get? b=some o->(PyProof.Rows.sortedHeap (h1.push (PyProof.Rows.seqObj "list" vs.toArray 0)) h1.objs.size vs (p.toList.map λi=>vs.getD i Value.none).toArray).get? b=some o:=λb o eb=>by rw[PyProof.Rows.sortedHeap_old (SI (Sv eb)) (by rw[Tj];exact Um (Sv eb))];exact So _ eb
  have hin:∀i∈p.toList,i<vs.length:=λi hi=>TK.mp (a1.perm.mem_iff.mp hi);obtain⟨bs,rb⟩:=oh ra p.toList hin
  have e1':(p.toList.map λi=>ds1.getD i .none)=bY ltB zs:=by
   refine zR cm tr ?_ ?_
   ·have:=a1.perm.map (λi=>ds1.getD i .none);rw[hvl,<- hdz,kH]at this;exact this.trans pd
   ·have hlp:p.toList.length=vs.length:=by rw[a1.perm.length_eq,List.length_range]
    unfold Up;rw[Vk,UN];intro i j hi hj hij;have x1:PySem.W.pat p i=p.toList[i]:=by simp only[TQ]at hi;rw[PySem.W.mF,Wt p i hi];simp
    have x2:PySem.W.pat p j=p.toList[j]:=by simp only[TQ]at hj;rw[PySem.W.mF,Wt p j hj];simp
    have:=a2 i j hij (by omega);rw[x1,x2]at this;exact this
  rw[e1']at rb;refine Sn ⟨_,rfl,q _ dr tk h1.objs.size (p.toList.map λi=>vs.getD i Value.none) e (Vw sz1) (λb o eb=>kp b o (k1 b o eb)) he ⟨bs,Tu kp rb⟩ λu hu=>?_⟩;obtain⟨i,hi,rfl⟩:=SU.mp hu;have hil:=hin i hi;have eu:vs.getD i Value.none=vs[i]:=by simp[hil]
  have hmem:vs[i]∈L.map (·.2):=by rw[hvs];exact Ws hil
  obtain⟨e',he',e2⟩:=SU.mp hmem;obtain⟨j,hj⟩:=TU he';obtain⟨d',_,x⟩:=fQ e1 hj;rw[eu,<- e2];exact x.vl
end
end NO
namespace Ml
open PySem PySem.Spec L2 NO
theorem _root_.L2.Inv.dr{σ:St}(I:L2.Inv X pins σ H s)(dr:Drawn):L2.Inv X pins σ H {s with drawn:=dr}:=⟨I.ok,I.os,I.bare,I.base,I.loc,I.cell,I.free,I.freeC,I.pin,I.hok,I.len⟩
structure Hg(X:Cx)(M:Hp)(s:WO)(b:Addr)(ds:WA)(vs:List V)(its:WC):Prop where
 src:∃T OK,Src X.prog X.w T b its.toArray OK/\OK s.heap
 rep:bh M ds vs
 val:Vals vs its
 so:cY ds=true
theorem yV{σ:St}(I:L2.Inv X pins σ H s)(w:W X.G θ hm H)(r:cj X.G θ H d v)(e:jD d hm=some ds) :
  ∃b vs its,v=.ref b/\Hg X (view θ H) s b ds vs its:=by
 have tup:∀(b:Addr) (vs:List V),v=.ref b->ip X.K H b vs->bh _ ds vs->cY ds=true->∃b vs its,v=.ref b/\Hg X (view θ H) s b ds vs its:=λb vs e1 e2 e3 e4=>by obtain⟨its,rv,pl,_⟩:=I.tuple e2;exact⟨b,vs,its,e1,⟨"tuple",_,src_tuple b its.toArray,pl⟩,e3,rv,e4⟩
 have hs:=e;unfold jD at hs;split at hs
 ·cases hs;obtain⟨⟨b,vs,rfl,hb,rr⟩,so⟩:=r;exact tup b vs rfl (.inl (.inl (aC _ _ _ _ hb))) rr (by assumption)
 ·cases hs;obtain⟨b,rfl,⟨o,its,n,k1,k2,k3,k4,k5⟩,k6,k7⟩:=r;refine tup b _ rfl (.inr ⟨o,its,n,k1,k2,k3,k4,k5⟩) (ny (Ae (G:=X.G) k6 k7) (ki _)).1 k7
 ·obtain⟨b,vs,rfl,hb,rr,so⟩:=tD w r hs;obtain⟨its,n,rv,eo,hz⟩:=I.lst hb;exact⟨b,vs,its,rfl,⟨"list",_,src_list b its.toArray,⟨_,eo,rfl,n,rfl⟩⟩,rr,rv,so⟩
theorem vb(rp:bh M ds vs)(rv:Vals vs its)(ra:ReadsAll h its ds as):∀{us:WC} {zs:WA} {bs:WB},ReadsAll h us zs bs->(∀u∈us,u∈its)->∃ws,Vals ws us/\bh M zs ws
 |_,_,_,.nil,_=>⟨[],.nil,rfl⟩
 |_,_,_,.cons r t,hu=>by obtain⟨ws,q1,q2⟩:=vb rp rv ra t λu m=>hu u (SE _ m);obtain⟨i,hi⟩:=TU (hu _ (SK ..));obtain⟨d,cs,e1,e2⟩:=readsAll_get ra hi;obtain⟨x,e3,e4⟩:=bh.get' rp e1;obtain⟨u',e5,e6⟩:=rv.get e3;rw[hi]at e5;cases e5;have:=(Wa r _ _ e2).1;subst this;exact⟨x::ws,.cons e6 q1,.cons e4 q2⟩
theorem vc(h:setOk ds=true)(so:cY ds=true):∃md,ds.length<=120/\(∀d∈ds,aG d=true)/\∀d∈ds,M6 md d:=by
 simp only[setOk,Su,Td,UZ]at h;obtain⟨⟨⟨h1,h2⟩,h3⟩,h4⟩:=h;have t:=xp.mp h2;rcases h1 with h1|h1
 ·exact⟨true,h4,t,λd m=>⟨t d m,gm.mp h3 d m,bx.mp so d m,SR.mp h1 d m⟩⟩
 ·refine⟨false,h4,t,λd m=>⟨t d m,gm.mp h3 d m,bx.mp so d m,?_⟩⟩;have:=SR.mp h1 d m;cases d<;>simp[iw]at this<;>rfl
section
variable {X:Cx} {E:XK} {m m2:ME} {e e2:Expr} {k:Nat} {pins:Ww} {σ:St} {H:Hp} {s:WO} {θ:WB} {hm:Hm} {Q:VK} {p1 p2 p3 p4 p5 p6 pos:Pos}
theorem ve(I:L2.Inv X pins σ H s)(w:W X.G θ hm H)(sm:M=view θ H)(hk:∀b o,s.heap.get? b=some o->s'.heap.get? b=some o)(hs:∃h tk dr,s'={s with heap:=h,toks:=tk,drawn:=dr})(hsz:s.heap.objs.size<=s'.heap.objs.size)
 (S:b9 vp X.w s'.heap a md dsS)(hh:X.A.handled=none)(pz:List.Perm dsS zs)(ok:cL zs=true)(so:cY zs=true)(hu:X.A.units+60<cLine)(rp:bh M ds vs)(rv:Vals vs its)(ra:ReadsAll s'.heap its ds as)(hvp:∀v,vp v->v∈its)
 (q:aH X.G (nR X.G E) θ H (.ok (.dat (.list (bY ltB zs))) hm) (KV X.G Q)):wpAny (model X.prog X.w) X.A (call (.builtin "sorted") [.ref a]) (EP X pins σ Q) X.xe s':=by
 obtain⟨h1,tk1,dr1,rfl⟩:=hs;refine B8 S hh pz ok hu λh' dr tk p us e' hp kp he ⟨bs,rb⟩ vu=>?_;have ra':ReadsAll h' its ds as:=Tu kp ra;obtain⟨ws,q1,q2⟩:=vb rp rv ra' rb λu m=>hvp u (vu u m);have hpp:s.heap.objs.size<=p:=Sw hsz hp;have hn:H p=none:=I.hok.fresh hpp;obtain⟨ev,w1,g⟩:=w.put (o:=.lst ws) hn
 have hlen:ws.length<=sizeLine:=by
  have x1:=q2.length;have x2:(bY ltB zs).length=zs.length:=(bG _ _).length_eq;simp only[cL,Su,Td]at ok
  grind[sizeLine_eq]
 have I2:L2.Inv X pins σ (upd H p (.lst ws)) {s with heap:=h',toks:=tk}:=I.laid (t':=tk) (λb o eb=>kp b o (hk b o eb)) hpp ⟨hlen,us,e',q1,he⟩;subst sm;exact⟨.ref p,_,I2.dr dr,rfl,q _ _ ev w1 _ ⟨⟨p,ws,rfl,g,q2.same ev.same⟩,by simp only[dQ];exact xl (bG _ _).symm so⟩⟩
theorem vf(hc:X.calm=true)(hr:L2.cG k X.A)(hm1:X.mg "sorted" = none)(hm2:X.mg "set" = none)(ha:DE X E m e)(hg:Gl X "sorted" := by rfl)(hg2:Gl X "set" := by rfl)(hs:starEach [e] X.env=[(false,eval e X.env)]:=by rfl)
 (hs3:starEach [.Call (.Name "set" p2) [e] [] p3] X.env=[(false,eval (.Call (.Name "set" p2) [e] [] p3) X.env)]:=by rfl) :
  DE X E (ag fB (aa m ah)) (.Call (.Name "sorted" p1) [.Call (.Name "set" p2) [e] [] p3] [] pos):=by
 simp only[bF]at *;intro pins s σ H Q I ⟨θ,h,ρ,w,fr,p⟩;refine TL (kE I hg hm1 (by decide +kernel:bootBuiltins "sorted" = some (.builtin "sorted")) ?_);refine U3 ?_ (by rw[hs3];rfl) (by rfl);rw[hs3];show wpAny _ _ (spliced ((false,eval (.Call (.Name "set" p2) [e] [] p3) X.env)::[])) _ _ s;refine Us ?_;refine TL (kE I hg2 hm2 (by decide +kernel:bootBuiltins "set" = some (.type "set")) ?_);refine Ub ?_ (by rw[hs];rfl) (by rfl);rw[hs];show wpAny _ _ (spliced ((false,eval e X.env)::[])) _ _ s;simp only[ag,aa,ah,R.bind_assoc,R.aJ]at p;refine Us (bH (ha pins s σ H (λv H1=>∃θ1 h1 d,W X.G θ1 h1 H1/\cj X.G θ1 H1 d v/\aH X.G (nR X.G E) θ1 H1 (fB [d] h1) (Ml.KV X.G Q)) I ⟨θ,h,ρ,w,fr,(aH.bind p).mono λd θ1 h1 H1 _ _ ⟨ev,w1,q1⟩ v r1=>⟨θ1,h1,d,w1,r1,q1⟩⟩) λu s1 ⟨v,H1,I1,rv1,θ1,h1,d,w1,r1,q1⟩=>?_);refine UR ?_
 cases hsq:jD d h1 with
 |none=>simp only[fB,hsq]at q1;exact q1.elim
 |some ds=>
  have hds:=hsq;simp only[fB,hsq]at q1;by_cases hc2:(setOk ds&&cL (fg ds))=true
  ·rw[if_pos hc2]at q1
   ·skip
    simp only[Su]at hc2;obtain⟨b,vs,its,rfl,SS⟩:=yV I1 w1 r1 hds;cases rv1;obtain⟨T,OK,src,hok⟩:=SS.src;obtain⟨as,ra⟩:=bh.reads I1 (SS.rep.same (aC _ _)) SS.val;obtain⟨md,hl,ht,hel⟩:=vc hc2.1 SS.so;have hun:=hr.un;refine u6 (vp:=λv=>v∈its) (md:=md) (ys:=ds) (as:=as) src (I1.ok.hd hc) hok (by simpa using ra) hel (λv m=>by simpa using m) hl (by omega) λh' tk dsS S md' kp=>?_;refine UR ?_;have S0:=S;obtain⟨_,_,_,SA⟩:=S0;refine ve (s:=s1) (s':={s1 with heap:=h',toks:=tk}) I1 w1 rfl kp ⟨h',tk,s1.drawn,rfl⟩ (Vw (Sv SA.ob)) S (I1.ok.hd hc) ?_ hc2.2 ?_ (by omega) SS.rep SS.val (Tu kp ra) (λv hv=>hv) q1
    ·refine(UE SA.nd (fS ht)).mpr λd=>?_;rw[md',fR ht]
    ·exact bx.mpr λd m=>bx.mp SS.so d ((fR ht d).mp m)
  ·rw[if_neg hc2]at q1;exact q1.elim
end
theorem pY:∀{us vs:WC} {ds es:WA} {as bs:WB},ReadsAll h us ds as->ReadsAll h vs es bs->∃cs,ReadsAll h (us++vs) (ds++es) cs
 |_,_,_,_,_,_,.nil,q=>⟨_,q⟩
 |_,_,_,_,_,_,.cons r t,q=>let ⟨_,x⟩:=pY t q;⟨_,.cons r x⟩
theorem AI:∀{ds es:WA} {vs us:List V},bh M ds vs->bh M es us->bh M (ds++es) (vs++us)
 | [],_,_,_,h,q=>by cases h;exact q
 |_::_,_,_,_,⟨x,xs,rfl,r1,r2⟩,q=>⟨x,_,rfl,r1,AI r2 q⟩
theorem gJ:∀{xs ys:WA},xs.Nodup->(∀x∈xs,x∈ys)->xs.length<=ys.length
 | [],_,_,_=>Ug _
 |x::xs,ys,nd,h=>by
  classical
  obtain⟨n1,n2⟩:=TC.mp nd;have hx:=h x (SK ..);obtain⟨i,hi,e⟩:=U7 hx;have p:=eR hi
  have:=gJ (ys:=ys.eraseIdx i) n2 λy hy=>by
   grind
  grind
theorem _root_.NO.cI.move(S:cI vp w h a md ds es ep t)(ob:h'.get? a=some (bD es ep t))(hv:∀v,vp v->vp' v)(hr:∀v d as,vp v->Reads h v d as->∃bs,Reads h' v d bs):cI vp' w h' a md ds es ep t:=
 ⟨ob,S.tb,S.ld,S.nd,S.ln,Paired.kD S.el λ_ _ x=>⟨x.tr,x.dp,x.so,x.hs,x.kd,let ⟨as,r⟩:=x.rd;hr _ _ as x.vl r,hv _ x.vl⟩⟩
section
variable {X:Cx} {E:XK} {m m2:ME} {e e2:Expr} {k:Nat} {p1 p2 p3 p4 p5 p6 pos:Pos}
theorem AJ{σ:St}{Qa:V->Hp->Prop}(hg2:Gl X "set")(hm2:X.mg "set" = none)(I:L2.Inv X pins σ H s)(ha:PE X e te)(ht:te σ H Qa)
 (hs:starEach [e] X.env=[(false,eval e X.env)])
 (q:∀u s1 v H1,L2.Inv X pins σ H1 s1->RelV v u->Qa v H1->wpAny (model X.prog X.w) X.A (call (.type "set") [u]) Q X.xe s1):wpAny (model X.prog X.w) X.A (eval (.Call (.Name "set" p2) [e] [] p3) X.env) Q X.xe s:=by
 refine TL (kE I hg2 hm2 (by rfl:bootBuiltins "set" = some (.type "set")) ?_);refine Ub ?_ (by trivial) (by rfl);rw[hs];show wpAny _ _ (spliced ((false,eval e X.env)::[])) _ _ s;refine Us (bH (ha pins s σ H Qa I ht) λu s1 ⟨v,H1,I1,rv1,q1⟩=>?_);exact UR (q u s1 v H1 I1 rv1 q1)
structure RK(X:Cx)(op:Operator)(f:WA->WA->WA)(G:WA->WA->PyData->Prop):Prop where
 run:∀{vp:Value->Prop} {md:Bool} {l r:Addr} {ds eds:WA} {Q:Wv} {s:WO},X.A.units+21<cLine->l≠r->b9 vp X.w s.heap l md ds->b9 vp X.w s.heap r md eds->ds.length+eds.length<=120->Ha vp X.w s md (G ds eds) Q->wpAny (model X.prog X.w) X.A (binaryOp op (.ref l) (.ref r)) Q X.xe s
 mem:∀{ds es:WA},(∀d∈ds++es,aG d=true)->(f ds es).Nodup/\∀d,d∈f ds es<->G ds es d
 congr:∀{ds es ds' es':WA},(∀d,d∈ds<->d∈ds')->(∀d,d∈es<->d∈es')->∀d,G ds es d<->G ds' es' d
 sub:∀{ds es:WA} {d},G ds es d->d∈ds++es
theorem JJ:RK X .BitXor Ai (λds es d=>(d∈ds/\d∉es)\/(d∉ds/\d∈es)) where
 run:=λh1 h2 h3 h4 h5 h6=>M5 h1 h2 h3 h4 h5 h6
 mem:=λ{ds es} h=>by
  have h1:∀d∈ds,aG d=true:=λd m=>h d (S7 _ m);have h2:∀d∈es,aG d=true:=λd m=>h d (Sr _ m)
  have key:∀d,d∈Ai ds es<->(d∈ds/\d∉es)\/(d∉ds/\d∈es):=λd=>by
   unfold Ai;rw[SD,S6,S6,fR h1,fR h2];constructor
   ·rintro(⟨a,b⟩|⟨a,b⟩)
    ·exact .inl ⟨a,λz=>by rw[(gR h2 (h1 d a)).mpr z]at b;cases b⟩
    ·exact .inr ⟨(λz=>by rw[(gR h1 (h2 d a)).mpr z]at b;cases b),a⟩
   ·rintro(⟨a,b⟩|⟨a,b⟩)
    ·refine .inl ⟨a,?_⟩
     cases z:es.any (PyData.eqv d)with
     |true=>exact absurd ((gR h2 (h1 d a)).mp z) b
     |false=>rfl
    ·refine .inr ⟨b,?_⟩
     cases z:ds.any (PyData.eqv d)with
     |true=>exact absurd ((gR h1 (h2 d b)).mp z) a
     |false=>rfl
  refine⟨?_,key⟩;unfold Ai;refine T4.mpr ⟨(fS h1).sublist T9,(fS h2).sublist T9,λx hx y hy z=>?_⟩;subst z;obtain⟨a,_⟩:=S6.mp hx;obtain⟨_,b⟩:=S6.mp hy;have a':=(fR h1 x).mp a;rw[(gR h1 (h1 x a')).mpr a']at b;cases b
 congr:=λh1 h2 d=>by rw[h1,h2]
 sub:=λh=>by
  rcases h with h|h
  ·exact S7 _ h.1
  ·exact Sr _ h.2
theorem EY(O:RK X op f G)(hc:X.calm=true)(hr:L2.cG k X.A)(hm1:X.mg "sorted" = none)(hm2:X.mg "set" = none)(ha:DE X E m e)(hb:DE X E m2 e2)(hg:Gl X "sorted" := by rfl)(hg2:Gl X "set" := by rfl)(hs:starEach [e] X.env=[(false,eval e X.env)]:=by rfl)(hs2:starEach [e2] X.env=[(false,eval e2 X.env)]:=by rfl)
 (hs3:starEach [.BinOp (.Call (.Name "set" p2) [e] [] p3) op (.Call (.Name "set" p4) [e2] [] p5) p6] X.env=[(false,eval (.BinOp (.Call (.Name "set" p2) [e] [] p3) op (.Call (.Name "set" p4) [e2] [] p5) p6) X.env)]:=by rfl) :
  DE X E (tG f m m2) (.Call (.Name "sorted" p1) [.BinOp (.Call (.Name "set" p2) [e] [] p3) op (.Call (.Name "set" p4) [e2] [] p5) p6] [] pos):=by
 simp only[bF]at *;intro pins s σ H Q I ⟨θ,h,ρ,w,fr,p⟩;refine TL (kE I hg hm1 (by decide +kernel:bootBuiltins "sorted" = some (.builtin "sorted")) ?_);refine U3 ?_ (by rw[hs3];rfl) (by rfl);rw[hs3];show wpAny _ _ (spliced ((false,eval (.BinOp (.Call (.Name "set" p2) [e] [] p3) op (.Call (.Name "set" p4) [e2] [] p5) p6) X.env)::[])) _ _ s;refine Us ?_;have hun:=hr.un;have hA:=I.ok.hd hc
 refine wpAny_BinOp (AJ (Qa:=λv H1=>∃θ1 h1 d,W X.G θ1 h1 H1/\Fr X.G θ1 H1 ρ σ/\cj X.G θ1 H1 d v/\aH X.G (nR X.G E) θ1 H1 (match jD d h1 with
   |some ds=>if setOk ds then(m2 ρ h1).bind λy h2=>match jD y h2 with
     |some es=>if setOk (ds++es)&&cL (f ds es)then .ok (.dat (.list (bY ltB (f ds es)))) h2 else .bad
     |Option.none=>.bad
    else .bad
   |Option.none=>.bad) (Ml.KV X.G Q)) hg2 hm2 I ha ⟨θ,h,ρ,w,fr,(aH.bind p).mono λd θ1 h1 H1 _ _ ⟨ev,w1,q1⟩ v r1=>⟨θ1,h1,d,w1,fr.ev ev,r1,q1⟩⟩ hs λu s1 v H1 I1 rv1 ⟨θ1,h1,d,w1,fr1,r1,q1⟩=>?_)
 cases hsq:jD d h1 with
 |none=>rw[hsq]at q1;exact q1.elim
 |some ds=>
  rw[hsq]at q1;dsimp only at q1;by_cases hc1:setOk ds=true
  case neg=>rw[if_neg hc1]at q1;exact q1.elim
  rw[if_pos hc1]at q1;obtain⟨b,vs,its,rfl,SS⟩:=yV I1 w1 r1 hsq;cases rv1;obtain⟨T,OK,src,hok⟩:=SS.src;obtain⟨as,ra⟩:=bh.reads I1 (SS.rep.same (aC _ _)) SS.val;obtain⟨md,hl,ht,hel⟩:=vc hc1 SS.so;refine u6 (vp:=λv=>v∈its) (md:=md) (ys:=ds) (as:=as) src hA hok (by simpa using ra) hel (λv m=>by simpa using m) hl (by omega) λg1 tk1 dsS S md1 kp1=>?_;obtain⟨es1,ep1,t1,SA⟩:=S;have I1':L2.Inv X pins σ H1 {s1 with heap:=g1,toks:=tk1}:=I1.kept (t':=tk1) kp1;have hna:H1 s1.heap.objs.size=none:=I1.hok.fresh (Ss _);have hfp:iq X pins H1 s1.heap.objs.size:=I1.Bl (Ss _) hna
  have I1p:L2.Inv X (pins++[(s1.heap.objs.size,bD es1 ep1 t1)]) σ H1 {s1 with heap:=g1,toks:=tk1}:=I1'.iH λp hp=>by
   rcases SD.mp hp with z|z
   ·exact I1'.pin p (Sr _ z)
   ·rw[SO.mp z];obtain⟨f0,f1,f2,_⟩:=hfp;exact⟨SA.ob,f0,f1,f2,λv z=>by cases z⟩
  refine AJ (Qa:=λv H2=>∃θ2 h2 d2,Ev θ1 H1 θ2 H2/\W X.G θ2 h2 H2/\cj X.G θ2 H2 d2 v/\aH X.G (nR X.G E) θ2 H2 (match jD d2 h2 with
     |some es=>if setOk (ds++es)&&cL (f ds es)then .ok (.dat (.list (bY ltB (f ds es)))) h2 else .bad
     |Option.none=>.bad) (Ml.KV X.G Q)) hg2 hm2 I1p hb ⟨θ1,h1,ρ,w1,fr1,(aH.bind q1).mono λd2 θ2 h2 H2 _ _ ⟨ev2,w2,q2⟩ v2 r2=>⟨θ2,h2,d2,ev2,w2,r2,q2⟩⟩ hs2 λu2 s2 v2 H2 I2 rv2 ⟨θ2,h2,d2,ev2,w2,r2,q2⟩=>?_
  cases hsq2:jD d2 h2 with
  |none=>rw[hsq2]at q2;exact q2.elim
  |some es=>
   rw[hsq2]at q2;dsimp only at q2;by_cases hc2:(setOk (ds++es)&&cL (f ds es))=true
   case neg=>rw[if_neg hc2]at q2;exact q2.elim
   rw[if_pos hc2]at q2;simp only[Su]at hc2;obtain⟨b2,vs2,its2,rfl,SS2⟩:=yV I2 w2 r2 hsq2;cases rv2;obtain⟨T2,OK2,src2,hok2⟩:=SS2.src;obtain⟨as2,ra2⟩:=bh.reads I2 (SS2.rep.same (aC _ _)) SS2.val;have rp1:bh (view θ2 H2) ds vs:=SS.rep.same ev2.same;obtain⟨as1,ra1⟩:=bh.reads I2 (rp1.same (aC _ _)) SS.val
   have so12:cY (ds++es)=true:=bx.mpr λx hx=>by
    rcases SD.mp hx with z|z
    ·exact bx.mp SS.so x z
    ·exact bx.mp SS2.so x z
   obtain⟨md2,hl2,ht2,hel2⟩:=vc hc2.1 so12;have obA:s2.heap.get? s1.heap.objs.size=some (bD es1 ep1 t1):=(I2.pin (s1.heap.objs.size,bD es1 ep1 t1) (by simp)).1;have ra1':ReadsAll g1 its ds as:=Tu kp1 ra;have SA2:cI (λv=>v∈its++its2) X.w s2.heap s1.heap.objs.size md dsS es1 ep1 t1:=SA.move obA (λv hv=>S7 _ hv) λv d' as' hv rd'=>by obtain⟨i,hi⟩:=TU hv;obtain⟨x,bs,e1,e2⟩:=readsAll_get ra1' hi;obtain⟨y,cs,e3,e4⟩:=readsAll_get ra1 hi;rw[e1]at e3;cases e3;have:=(Wa rd' _ _ e2).1;subst this;exact⟨cs,e4⟩
   have hmd:md=md2\/dsS=[]:=by
    cases hd:dsS with
    |nil=>exact .inr rfl
    |cons x xs=>have hx:x∈ds:=(md1 x).mp (by rw[hd];exact SK ..);exact .inl ((hel x hx).2.2.2.symm.trans (hel2 x (S7 _ hx)).2.2.2)
   have SB2:b9 (λv=>v∈its++its2) X.w s2.heap s1.heap.objs.size md2 dsS:=by
    rcases hmd with rfl|rfl
    ·exact⟨_,_,_,SA2⟩
    ·have:es1.toList=[]:=by
      have hh:=SA2.el;generalize es1.toList=l at hh;cases hh;rfl
     exact⟨es1,ep1,t1,SA2.ob,SA2.tb,SA2.ld,SA2.nd,SA2.ln,by rw[this];exact .nil⟩
   have hlen1:ds.length+es.length<=120:=by simpa using hl2
   refine u6 (vp:=λv=>v∈its++its2) (md:=md2) (ys:=es) (as:=as2) src2 hA hok2 (by simpa using ra2) (λy hy=>hel2 y (Sr _ hy)) (λv m=>Sr _ (by simpa using m)) (by omega) (by omega) λg3 tk3 dsS2 S3 md3 kp3=>?_;have SB3:b9 (λv=>v∈its++its2) X.w g3 s1.heap.objs.size md2 dsS:=by obtain⟨a1,a2,a3,a4⟩:=SB2;exact⟨a1,a2,a3,a4.keep kp3⟩
   have lt2:s1.heap.objs.size<s2.heap.objs.size:=Sv obA;have nd1:dsS.length<=ds.length:=by obtain⟨_,_,_,z⟩:=SB2;exact gJ z.nd λx hx=>(md1 x).mp hx
   have nd3:dsS2.length<=es.length:=by obtain⟨_,_,_,z⟩:=S3;exact gJ z.nd λx hx=>(md3 x).mp hx
   refine O.run (s:={s2 with heap:=g3,toks:=tk3}) (by omega) (SI lt2) SB3 S3 (by omega) λa4 g4 ds4 dr4 ge4 kp4 S4 md4=>?_;refine UR ?_;obtain⟨cs,rc⟩:=pY (Tu (λb o eb=>kp4 b o (kp3 b o eb)) ra1) (Tu (λb o eb=>kp4 b o (kp3 b o eb)) ra2);obtain⟨fn,fm⟩:=O.mem ht2;have I2p:L2.Inv X pins σ H2 s2:=I2.iH λp hp=>I2.pin p (by simp[hp]);have S40:=S4;obtain⟨_,_,_,SA4⟩:=S40;refine ve (s:=s2) (s':={s2 with heap:=g4,toks:=tk3,drawn:=dr4}) I2p w2 rfl (λb o eb=>kp4 b o (kp3 b o eb)) ⟨g4,tk3,dr4,rfl⟩ ?_ S4 hA ?_ hc2.2 ?_ (by omega) (AI rp1 SS2.rep) (SS.val.append SS2.val) rc (λv hv=>hv) q2
   ·have:=Sv SA4.ob;obtain⟨_,_,_,z⟩:=S3;have z2:=Sv z.ob;have:g3.objs.size<=a4:=ge4;exact Vw (Nat.lt_trans z2 (Nat.lt_of_le_of_lt this (Sv SA4.ob)))
   ·refine(UE SA4.nd fn).mpr λx=>?_;rw[md4,fm,O.congr md1 md3]
   ·exact bx.mpr λx hx=>bx.mp so12 x (O.sub ((fm x).mp hx))
end
end Ml
namespace K25
open PySem L2 Ml
noncomputable def top(i:Nat):Stmt:=PySem.Challenge.pw_everalike_k25_changes_and_webs_made_alik.main.body.getD i (.Pass ⟨0,0,0,0⟩)
structure Txt(K:WD)(mg:Wz):Prop where
 n_all:mg "all" = none
 n_len:mg "len" = none
 n_isinstance:mg "isinstance" = none
 n_str:mg "str" = none
 n_zip:mg "zip" = none
 n_tuple:mg "tuple" = none
 n_sorted:mg "sorted" = none
 n_set:mg "set" = none
 n_int:mg "int" = none
 n_max:mg "max" = none
 n_divmod:mg "divmod" = none
 n_range:mg "range" = none
 n_list:mg "list" = none
 n_repr:mg "repr" = none
 i_LONGEST_NAME:∃t,mg "LONGEST_NAME" = some (.int 6 t)
 i_MOST_NAMES:∃t,mg "MOST_NAMES" = some (.int 12 t)
 f_IDLE:∃a,mg "IDLE" = some (.ref a)/\Jt K mg a oN
 t_KINDS:∃a,mg "KINDS" = some (.ref a)/\Gb K a yJ
section
variable {P:WL} {w:World} {K:WD} {mg:Wz} {base:Heap} {XE:VK->XK} {bm:Addr}
noncomputable abbrev rj:Stmt:=top 9
noncomputable abbrev nH:WE:=["thing"]
theorem B9:aQ ["thing"] nH (aB rj):=lX
theorem yW:(["letter", "thing"]:WE).Nodup:=by decide +kernel
noncomputable abbrev xM(P:WL)(w:World)(K:WD)(mg:Wz)(base:Heap):Prop:=bc P w K mg base "is_name" nH 1 ku
theorem EZ(D:Df K mg "is_name" nH rj)(T:Txt K mg):xM P w K mg base:=
 bc.eq (Df.has (k:=0) D B9 (λf cdv A outer s H E hr=>
  au (hV (DW.dt (pI (iA (dJ (GG (IX _) Mo T.n_isinstance T.n_str (dv 0)))) (mL (iA (GF Ji Ji aD (qU n8 T.n_len jW (ab (dv 0) af)) (Dn T.i_LONGEST_NAME)))))) (aA (bb eV)) cZ)
  (aA (bb (qU (Dj rfl) T.n_all yk (ab (dX ["letter"] (by rfl) rfl (bI (dv 0)) (λ_ _ _ _ _=>dg 0 yW) (λ_ _ _ _ _=>gf) (λ_ _ _ _ _=>GD Ji Ji eM (dv 0) eM)) af)))))) (by kernel_rfl)
noncomputable abbrev mR:Stmt:=top 10
noncomputable abbrev jF:WE:=["things"]
theorem yX:aQ ["things"] jF (aB mR):=lX
theorem mS:(["low", "high", "things"]:WE).Nodup:=by decide +kernel
noncomputable abbrev mT(P:WL)(w:World)(K:WD)(mg:Wz)(base:Heap):Prop:=bc P w K mg base "is_rising" jF 1 hZ
theorem AK(D:Df K mg "is_rising" jF mR)(T:Txt K mg):mT P w K mg base:=
 bc.eq (Df.has (k:=0) D yX (λf cdv A outer s H E hr=>
  aA (bb (qU (Dj rfl) T.n_all yk (ab (dX ["low", "high"] (by rfl) rfl (ML (by rfl) T.n_zip (ab (dv 0) (ab (Gr (dv 0) (yE aD) Jj) af))) (λ_ _ _ _ _=>jf rfl (bw (dg 0 mS) (bw (dg 1 mS) fI)) (aW (aW dI))) (λ_ _ _ _ _=>gf) (λ_ _ _ _ _=>eN (Jh hr) (dv 0) (dv 1) (by rfl))) af))))) (by kernel_rfl)
noncomputable abbrev mU:Stmt:=top 11
noncomputable abbrev jG:WE:=["thing"]
theorem yY:aQ ["thing"] jG (aB mU):=lX
theorem vg:(["part", "thing"]:WE).Nodup:=by decide +kernel
noncomputable abbrev sF(P:WL)(w:World)(K:WD)(mg:Wz)(base:Heap):Prop:=bc P w K mg base "are_names" jG 2 jB
theorem AL(D:Df K mg "are_names" jG mU)(T:Txt K mg)(J10:mT P w K mg base)(J9:xM P w K mg base):sF P w K mg base:=
 bc.eq (Df.has (k:=1) D yY (λf cdv A outer s H E hr=>
  au (hV (DW.dt (pI (iA (dJ (GG (kit_tuple _) cB T.n_isinstance T.n_tuple (dv 0)))) (mL (cu QM (qU n8 T.n_len jW (ab (dv 0) af)) (Dn T.i_MOST_NAMES) (by rfl))))) (aA (bb eV)) cZ)
  (aA (bb (gQ (qU (Dj rfl) T.n_all yk (ab (dX ["part"] (by rfl) rfl (bI (dv 0)) (λ_ _ _ _ _=>dg 0 vg) (λ_ _ _ _ _=>gf) (λ_ _ _ _ _=>fY J9 bS hr (ab (dv 0) af))) af)) (gc (fY J10 aR hr (ab (dv 0) af)))))))) (by kernel_rfl)
noncomputable abbrev mV:Stmt:=top 12
noncomputable abbrev jH:WE:=["thing", "names"]
theorem yZ:aQ ["thing", "names"] jH (aB mV):=lX
noncomputable abbrev sG(P:WL)(w:World)(K:WD)(mg:Wz)(base:Heap):Prop:=bc P w K mg base "is_strike" jH 1 ia
theorem AM(D:Df K mg "is_strike" jH mV)(T:Txt K mg):sG P w K mg base:=
 bc.eq (Df.has (k:=0) D yZ (λf cdv A outer s H E hr=>
  au (hV (DW.dt (pI (iA (dJ (GG (kit_tuple _) cB T.n_isinstance T.n_tuple (dv 0)))) (mL (cu (we hr) (qU n8 T.n_len jW (ab (dv 0) af)) aD (by rfl))))) (aA (bb eV)) cZ)
  (aA (bb (gQ (eN (oJ hr) (bo (aK hr) (dv 0) aD (λ_ _=>rfl)) (dv 1) (by rfl)) (gc (eN (oJ hr) (bo (aK hr) (dv 0) aD (λ_ _=>rfl)) (dv 1) (by rfl)))))))) (by kernel_rfl)
noncomputable abbrev j3:Stmt:=top 13
noncomputable abbrev gV:WE:=["thing", "names"]
theorem vh:aQ ["thing", "names"] gV (aB j3):=lX
theorem rm:(["part", "thing", "names"]:WE).Nodup:=by decide +kernel
noncomputable abbrev j4(P:WL)(w:World)(K:WD)(mg:Wz)(base:Heap):Prop:=bc P w K mg base "are_strikes" gV 2 dy
theorem wB(D:Df K mg "are_strikes" gV j3)(T:Txt K mg)(J10:mT P w K mg base)(J12:sG P w K mg base):j4 P w K mg base:=
 bc.eq (Df.has (k:=1) D vh (λf cdv A outer s H E hr=>
  au (hV (iA (dJ (GG (kit_tuple _) cB T.n_isinstance T.n_tuple (dv 0)))) (aA (bb eV)) cZ)
  (aA (bb (gQ (qU (Dj rfl) T.n_all yk (ab (dX ["part"] (by rfl) rfl (bI (dv 0)) (λ_ _ _ _ _=>dg 0 rm) (λ_ _ _ _ _=>gf) (λ_ _ _ _ _=>fY J12 bS hr (ab (dv 0) (ab (dv 2) af)))) af)) (gc (fY J10 aR hr (ab (dv 0) af)))))))) (by kernel_rfl)
noncomputable abbrev vi:Stmt:=top 14
noncomputable abbrev pZ:WE:=["thing"]
theorem rA:aQ ["thing", "names", "strikes"] pZ (aB vi):=lX
noncomputable abbrev AN(P:WL)(w:World)(K:WD)(mg:Wz)(base:Heap):Prop:=bc P w K mg base "is_web" pZ 3 pQ
theorem Hh(D:Df K mg "is_web" pZ vi)(T:Txt K mg)(J13:j4 P w K mg base)(J11:sF P w K mg base):AN P w K mg base:=
 bc.eq (Df.has (k:=2) D rA (λf cdv A outer s H E hr=>
  au (hV (DW.dt (pI (iA (dJ (GG (kit_tuple _) cB T.n_isinstance T.n_tuple (dv 0)))) (mL (cu (we hr) (qU n8 T.n_len jW (ab (dv 0) af)) aD (by rfl))))) (aA (bb eV)) cZ)
  (au (jY (dv 0) (jf rfl (bw (dg 1 rA.nd) (bw (dg 2 rA.nd) fI)) (aW (aW dI))))
  (aA (bb (gQ (fY J11 aR hr (ab (dv 1) af)) (gc (fY J13 aR hr (ab (dv 2) (ab (dv 1) af)))))))))) (by kernel_rfl)
noncomputable abbrev mW:Stmt:=top 15
noncomputable abbrev jI:WE:=["thing"]
theorem y0:aQ ["thing"] jI (aB mW):=lX
noncomputable abbrev jJ(P:WL)(w:World)(K:WD)(mg:Wz)(base:Heap):Prop:=bc P w K mg base "check_web" jI 4 dP
theorem AO(D:Df K mg "check_web" jI mW)(T:Txt K mg)(J14:AN P w K mg base):jJ P w K mg base:=
 bc.eq (Df.has (k:=3) D y0 (λf cdv A outer s H E hr=>
  aA (hV (iA (dJ (fY J14 aR hr (ab (dv 0) af)))) (aA yI) cZ))) (by kernel_rfl)
noncomputable abbrev kY:Stmt:=top 16
noncomputable abbrev iQ:WE:=["one", "other"]
theorem wC:aQ ["one", "other"] iQ (aB kY):=lX
noncomputable abbrev qa(P:WL)(w:World)(K:WD)(mg:Wz)(base:Heap):Prop:=bc P w K mg base "check_pair" iQ 1 iM
theorem y6(D:Df K mg "check_pair" iQ kY)(T:Txt K mg):qa P w K mg base:=
 bc.eq (Df.has (k:=0) D wC (λf cdv A outer s H E hr=>
  aA (hV (cu (we hr) (bo (aK hr) (dv 0) aD (λ_ _=>rfl)) (bo (aK hr) (dv 1) aD (λ_ _=>rfl)) (by rfl)) (aA yI) cZ))) (by kernel_rfl)
noncomputable abbrev kZ:Stmt:=top 19
noncomputable abbrev iR:WE:=["thing"]
theorem wD:aQ ["thing"] iR (aB kZ):=lX
noncomputable abbrev lg(P:WL)(w:World)(K:WD)(mg:Wz)(base:Heap):Prop:=bc P w K mg base "check_kind" iR 1 iN
theorem y7(D:Df K mg "check_kind" iR kZ)(T:Txt K mg):lg P w K mg base:=
 bc.eq (Df.has (k:=0) D wD (λf cdv A outer s H E hr=>
  aA (hV (cu (uJ hr) (dv 0) (Jl T.t_KINDS) (by rfl)) (aA yI) cZ))) (by kernel_rfl)
noncomputable abbrev lh:Stmt:=top 20
noncomputable abbrev iS:WE:=["one", "other", "kind"]
theorem wF:aQ ["one", "other", "kind"] iS (aB lh):=lX
noncomputable abbrev qb(P:WL)(w:World)(K:WD)(mg:Wz)(base:Heap):Prop:=bc P w K mg base "check_same" iS 5 iO
theorem y8(D:Df K mg "check_same" iS lh)(T:Txt K mg)(J19:lg P w K mg base)(J16:qa P w K mg base)(J15:jJ P w K mg base):qb P w K mg base:=
 bc.eq (Df.has (k:=4) D wF (λf cdv A outer s H E hr=>
  au (fH (fY J15 aR hr (ab (dv 0) af)))
  (au (fH (fY J15 aR hr (ab (dv 1) af)))
  (au (fH (fY J16 aR hr (ab (dv 0) (ab (dv 1) af))))
  (aA (fH (fY J19 aR hr (ab (dv 2) af)))))))) (by kernel_rfl)
noncomputable abbrev gn:Stmt:=top 22
noncomputable abbrev eJ:WE:=["strikes", "one", "other"]
theorem oS:aQ ["strikes", "one", "other"] eJ (aB gn):=lX
noncomputable abbrev gp(P:WL)(w:World)(K:WD)(mg:Wz)(base:Heap):Prop:=bc P w K mg base "idle_for_stable" eJ 1 b0
theorem qc(D:Df K mg "idle_for_stable" eJ gn)(T:Txt K mg):gp P w K mg base:=
 bc.eq (Df.has (k:=0) D oS (λf cdv A outer s H E hr=>
  aA (bb (eN (oJ hr) (bq (ab (dv 1) (ab (dv 1) af))) (dv 0) (by rfl))))) (by kernel_rfl)
noncomputable abbrev fh:Stmt:=top 23
noncomputable abbrev dD:WE:=["strikes", "one", "other"]
theorem mY:aQ ["strikes", "one", "other"] dD (aB fh):=lX
noncomputable abbrev fi(P:WL)(w:World)(K:WD)(mg:Wz)(base:Heap):Prop:=bc P w K mg base "idle_for_standing" dD 1 bC
theorem nU(D:Df K mg "idle_for_standing" dD fh)(T:Txt K mg):fi P w K mg base:=
 bc.eq (Df.has (k:=0) D mY (λf cdv A outer s H E hr=>
  aA (bb (gQ (eN (oJ hr) (bq (ab (dv 1) (ab (dv 1) af))) (dv 0) (by rfl)) (gc (yH (eN (oJ hr) (bq (ab (dv 2) (ab (dv 1) af))) (dv 0) (by rfl)) (gc (eN (oJ hr) (bq (ab (dv 2) (ab (dv 2) af))) (dv 0) (by rfl))))))))) (by kernel_rfl)
noncomputable abbrev gK:Stmt:=top 24
noncomputable abbrev fb:WE:=["strikes", "one", "other"]
theorem qd:aQ ["strikes", "one", "other"] fb (aB gK):=lX
noncomputable abbrev gL(P:WL)(w:World)(K:WD)(mg:Wz)(base:Heap):Prop:=bc P w K mg base "idle_for_whole" fb 1 cz
theorem rB(D:Df K mg "idle_for_whole" fb gK)(T:Txt K mg):gL P w K mg base:=
 bc.eq (Df.has (k:=0) D qd (λf cdv A outer s H E hr=>
  aA (bb (gQ (eN (oJ hr) (bq (ab (dv 1) (ab (dv 1) af))) (dv 0) (by rfl)) (gc (eN (oJ hr) (bq (ab (dv 2) (ab (dv 2) af))) (dv 0) (by rfl))))))) (by kernel_rfl)
noncomputable abbrev fj:Stmt:=top 25
noncomputable abbrev dE:WE:=["strikes", "one", "other"]
theorem mZ:aQ ["strikes", "one", "other"] dE (aB fj):=lX
noncomputable abbrev fk(P:WL)(w:World)(K:WD)(mg:Wz)(base:Heap):Prop:=bc P w K mg base "idle_for_grounded" dE 1 bJ
theorem nV(D:Df K mg "idle_for_grounded" dE fj)(T:Txt K mg):fk P w K mg base:=
 bc.eq (Df.has (k:=0) D mZ (λf cdv A outer s H E hr=>
  aA (bb (gQ (eN (oJ hr) (bq (ab (dv 2) (ab (dv 2) af))) (dv 0) (by rfl)) (gc (yH (eN (oJ hr) (bq (ab (dv 1) (ab (dv 1) af))) (dv 0) (by rfl)) (gc (eN (oJ hr) (bq (ab (dv 2) (ab (dv 1) af))) (dv 0) (by rfl))))))))) (by kernel_rfl)
noncomputable abbrev vj:Stmt:=top 27
noncomputable abbrev qe:WE:=["web", "kind"]
theorem iY:aQ ["web", "kind", "idle", "names", "strikes", "there", "kept"] qe (aB vj):=lX
theorem sH:(["one", "other", "web", "kind", "idle", "names", "strikes", "there", "kept"]:WE).Nodup:=by decide +kernel
theorem AQ:(["strike", "web", "kind", "idle", "names", "strikes", "there", "kept"]:WE).Nodup:=by decide +kernel
noncomputable abbrev vk(P:WL)(w:World)(K:WD)(mg:Wz)(base:Heap):Prop:=bc P w K mg base "kernel" qe 5 pT
theorem Hi(D:Df K mg "kernel" qe vj)(T:Txt K mg)(J25:fk P w K mg base)(J23:fi P w K mg base)(J22:gp P w K mg base)(J24:gL P w K mg base)(J19:lg P w K mg base)(J15:jJ P w K mg base):vk P w K mg base:=
 bc.eq (Df.has (k:=4) D iY (λf cdv A outer s H E hr=>
  au (fH (fY J15 aR hr (ab (dv 0) af)))
  (au (fH (fY J19 aR hr (ab (dv 1) af)))
  (au (fX 2 iY.nd (Ds T.f_IDLE (dv 1) (λ_ _=>rfl)))
  (au (jY (dv 0) (jf rfl (bw (dg 3 iY.nd) (bw (dg 4 iY.nd) fI)) (aW (aW dI))))
  (au (fX 5 iY.nd (An ["strike"] true hr (by rfl) rfl (bI (dv 4)) (λ_ _ _ _ _=>dg 0 AQ) (λ_ _ _ _ _=>gf) (λ_ _ _ _ _=>dv 0) (λ_ _ _ _ _=>eV)))
  (au (pM (i:=6) ["one", "other"] iY.nd rfl rfl (by rfl) rfl (bI (dv 4)) (λ_ _ _ _ _=>jf rfl (bw (dg 0 sH) (bw (dg 1 sH) fI)) (aW (aW dI))) (λ_ _ _ _ _=>eW (DW.dt (pI (cu (BM hr) (dv 0) (dv 1) (by rfl)) (mL (iA (dJ (GR (k:=1) 4 (.cons (J25.mono (by decide)) (.cons (J23.mono (by decide)) (.cons (J22.mono (by decide)) (.cons (J24.mono (by decide)) (.nil))))) bS (hr.mono (by omega)) (ab (dv 7) (ab (dv 0) (ab (dv 1) af)))))))))) (λ_ _ _ _ _=>bq (ab (dv 0) (ab (dv 1) af))))
  (aA (bb (bq (ab (dv 3) (ab (jt (eX rfl) T.n_tuple cB (ab (dv 6) af)) af)))))))))))) (by kernel_rfl)
noncomputable abbrev rC:Stmt:=top 28
noncomputable abbrev nI:WE:=["web", "kind"]
theorem gM:aQ ["web", "kind", "names", "strikes", "idle", "there", "full"] nI (aB rC):=lX
theorem qf:(["one", "other", "web", "kind", "names", "strikes", "idle", "there", "full"]:WE).Nodup:=by decide +kernel
theorem y9:(["strike", "web", "kind", "names", "strikes", "idle", "there", "full"]:WE).Nodup:=by decide +kernel
noncomputable abbrev xN(P:WL)(w:World)(K:WD)(mg:Wz)(base:Heap):Prop:=bc P w K mg base "fullest" nI 6 qW
theorem E0(D:Df K mg "fullest" nI rC)(T:Txt K mg)(J25:fk P w K mg base)(J23:fi P w K mg base)(J22:gp P w K mg base)(J24:gL P w K mg base)(J27:vk P w K mg base):xN P w K mg base:=
 bc.eq (Df.has (k:=5) D gM (λf cdv A outer s H E hr=>
  au (jY (fY J27 aR hr (ab (dv 0) (ab (dv 1) af))) (jf rfl (bw (dg 2 gM.nd) (bw (dg 3 gM.nd) fI)) (aW (aW dI))))
  (au (fX 4 gM.nd (Ds T.f_IDLE (dv 1) (λ_ _=>rfl)))
  (au (fX 5 gM.nd (An ["strike"] true hr (by rfl) rfl (bI (dv 3)) (λ_ _ _ _ _=>dg 0 y9) (λ_ _ _ _ _=>gf) (λ_ _ _ _ _=>dv 0) (λ_ _ _ _ _=>eV)))
  (au (GN (i:=6) ["one", "other"] gM.nd rfl rfl (by rfl) rfl (bI (dv 2)) (λ_ _ _ _ _=>dg 0 qf) (λ_ _ _ _ _=>gf) (λ_ _ _ _ _=>bI (dv 4)) (λ_ _ _ _ _=>dg 1 qf) (λ_ _ _ _ _=>eW (DW.dt (pI (cu (oJ hr) (bq (ab (dv 0) (ab (dv 1) af))) (dv 7) (by rfl)) (mL (DW.dt (BK (cu (we hr) (dv 0) (dv 1) (by rfl)) (yw (dJ (GR (k:=1) 6 (.cons (J25.mono (by decide)) (.cons (J23.mono (by decide)) (.cons (J22.mono (by decide)) (.cons (J24.mono (by decide)) (.nil))))) bS (hr.mono (by omega)) (ab (dv 7) (ab (dv 0) (ab (dv 1) af)))))))))))) (λ_ _ _ _ _=>bq (ab (dv 0) (ab (dv 1) af))))
  (aA (bb (bq (ab (dv 2) (ab (jt (eX rfl) T.n_tuple cB (ab (dv 6) af)) af)))))))))) (by kernel_rfl)
noncomputable abbrev iD:Stmt:=top 30
noncomputable abbrev fL:WE:=["web", "thing"]
theorem rD:aQ ["web", "thing"] fL (aB iD):=lX
noncomputable abbrev lY(P:WL)(w:World)(K:WD)(mg:Wz)(base:Heap):Prop:=bc P w K mg base "check_changes" fL 3 fK
theorem sY(D:Df K mg "check_changes" fL iD)(T:Txt K mg)(J13:j4 P w K mg base):lY P w K mg base:=
 bc.eq (Df.has (k:=2) D rD (λf cdv A outer s H E hr=>
  aA (hV (iA (dJ (fY J13 aR hr (ab (dv 1) (ab (bo (aK hr) (dv 0) aD (λ_ _=>rfl)) af))))) (aA yI) cZ))) (by kernel_rfl)
noncomputable abbrev vm:Stmt:=top 31
noncomputable abbrev qg:WE:=["web", "changes"]
theorem E1:aQ ["web", "changes"] qg (aB vm):=lX
noncomputable abbrev AS(P:WL)(w:World)(K:WD)(mg:Wz)(base:Heap):Prop:=bc P w K mg base "turned" qg 1 uM
theorem Hj(D:Df K mg "turned" qg vm)(T:Txt K mg):AS P w K mg base:=
 bc.eq (Df.has (k:=0) D E1 (λf cdv A outer s H E hr=>
  aA (bb (bq (ab (bo (aK hr) (dv 0) aD (λ_ _=>rfl)) (ab (jt (eX rfl) T.n_tuple cB (ab (EY JJ rfl hr T.n_sorted T.n_set (bo (aK hr) (dv 0) aD (λ_ _=>rfl)) (dv 1)) af)) af)))))) (by kernel_rfl)
noncomputable abbrev rE:Stmt:=top 32
noncomputable abbrev nJ:WE:=["web", "changes"]
theorem Ca:aQ ["web", "changes"] nJ (aB rE):=lX
noncomputable abbrev xO(P:WL)(w:World)(K:WD)(mg:Wz)(base:Heap):Prop:=bc P w K mg base "changed" nJ 5 iX
theorem E3(D:Df K mg "changed" nJ rE)(T:Txt K mg)(J31:AS P w K mg base)(J30:lY P w K mg base)(J15:jJ P w K mg base):xO P w K mg base:=
 bc.eq (Df.has (k:=4) D Ca (λf cdv A outer s H E hr=>
  au (fH (fY J15 aR hr (ab (dv 0) af)))
  (au (fH (fY J30 aR hr (ab (dv 0) (ab (dv 1) af))))
  (aA (bb (fY J31 aR hr (ab (dv 0) (ab (dv 1) af)))))))) (by kernel_rfl)
noncomputable abbrev lj:Stmt:=top 33
noncomputable abbrev iT:WE:=["one", "other", "kind"]
theorem fF:aQ ["one", "other", "kind", "least", "most", "put", "taken"] iT (aB lj):=lX
theorem lZ:(["strike", "one", "other", "kind", "least", "most", "put", "taken"]:WE).Nodup:=by decide +kernel
noncomputable abbrev qh(P:WL)(w:World)(K:WD)(mg:Wz)(base:Heap):Prop:=bc P w K mg base "made_alike" iT 7 df
theorem za(D:Df K mg "made_alike" iT lj)(T:Txt K mg)(J28:xN P w K mg base)(J27:vk P w K mg base)(J20:qb P w K mg base):qh P w K mg base:=
 bc.eq (Df.has (k:=6) D fF (λf cdv A outer s H E hr=>
  au (fH (fY J20 aR hr (ab (dv 0) (ab (dv 1) (ab (dv 2) af)))))
  (au (fX 3 fF.nd (bo (aK hr) (fY J27 aR hr (ab (dv 1) (ab (dv 2) af))) aD (λ_ _=>rfl)))
  (au (fX 4 fF.nd (bo (aK hr) (fY J28 aR hr (ab (dv 1) (ab (dv 2) af))) aD (λ_ _=>rfl)))
  (au (pM (i:=5) ["strike"] fF.nd rfl rfl (by rfl) rfl (bI (dv 3)) (λ_ _ _ _ _=>dg 0 lZ) (λ_ _ _ _ _=>eW (cu (uJ hr) (dv 0) (bo (aK hr) (dv 1) aD (λ_ _=>rfl)) (by rfl))) (λ_ _ _ _ _=>dv 0))
  (au (pM (i:=6) ["strike"] fF.nd rfl rfl (by rfl) rfl (bI (bo (aK hr) (dv 0) aD (λ_ _=>rfl))) (λ_ _ _ _ _=>dg 0 lZ) (λ_ _ _ _ _=>eW (cu (uJ hr) (dv 0) (dv 5) (by rfl))) (λ_ _ _ _ _=>dv 0))
  (aA (bb (jt (eX rfl) T.n_tuple cB (ab (qU (mM hr) T.n_sorted kh (ab (cq hX (dv 5) (dv 6)) af)) af)))))))))) (by kernel_rfl)
noncomputable abbrev m6:Stmt:=top 35
noncomputable abbrev jK:WE:=["_law_script", "_law_k"]
theorem zb:aQ ["_law_script", "_law_k"] jK (aB m6):=lX
noncomputable abbrev sI(P:WL)(w:World)(K:WD)(mg:Wz)(base:Heap):Prop:=bc P w K mg base "_law_cell" jK 1 fT
theorem AU(D:Df K mg "_law_cell" jK m6)(T:Txt K mg):sI P w K mg base:=
 bc.eq (Df.has (k:=0) D zb (λf cdv A outer s H E hr=>
  au (hV (cu (Jh hr) (dv 1) (qU n8 T.n_len jW (ab (dv 0) af)) (by rfl)) (aA (bb (bo (aK hr) (dv 0) (dv 1) (λ_ _=>rfl)))) cZ)
  (aA (bb aD)))) (by kernel_rfl)
noncomputable abbrev oU:Stmt:=top 36
noncomputable abbrev lu:WE:=["_law_cell_here"]
theorem sJ:aQ ["_law_cell_here", "_law_more"] lu (aB oU):=lX
noncomputable abbrev vn(P:WL)(w:World)(K:WD)(mg:Wz)(base:Heap):Prop:=bc P w K mg base "_law_pen" lu 1 jg
theorem Cb(D:Df K mg "_law_pen" lu oU)(T:Txt K mg):vn P w K mg base:=
 bc.eq (Df.has (k:=0) D sJ (λf cdv A outer s H E hr=>
  au (fX 1 sJ.nd (qU (OH rfl) T.n_max Mn (ab (dv 0) (ab (cq OE aD (dv 0)) af))))
  (aA (bb (uo (ab (dv 1) (ab (jt KY T.n_int GH (ab (eN QN (dv 1) (iC 8 (d:=.int (10^18)) (Lit.of (by kernel_rfl)) (by decide +kernel)) (by rfl)) af)) af))))))) (by kernel_rfl)
noncomputable abbrev m7:Stmt:=top 37
noncomputable abbrev jL:WE:=["_law_pen_here", "_law_many"]
theorem gq:aQ ["_law_pen_here", "_law_many", "_law_rest", "_law_drawn", "_law_stir"] jL (aB m7):=lX
noncomputable abbrev eS(P:WL)(w:World)(K:WD)(mg:Wz)(base:Heap):Prop:=bc P w K mg base "_law_draw" jL 1 aF
theorem AV(D:Df K mg "_law_draw" jL m7)(T:Txt K mg):eS P w K mg base:=
 bc.eq (Df.has (k:=0) D gq (λf cdv A outer s H E hr=>
  au (hV (cu (BM hr) (bo (aK hr) (dv 0) aD (λ_ _=>rfl)) aD (by rfl)) (au (jY (qU Gu T.n_divmod Ey (ab (bo (aK hr) (dv 0) aD (λ_ _=>rfl)) (ab (dv 1) af))) (jf rfl (bw (dg 2 gq.nd) (bw (dg 3 gq.nd) fI)) (aW (aW dI))))
  (au (jY (dv 2) (GB hr (dv 0) aD (λ_=>rfl)))
  (aA (bb (dv 3))))) cZ)
  (au (fX 4 gq.nd (cq zV (cq De (cq hX (cq zV (bo (aK hr) (dv 0) aD (λ_ _=>rfl)) aD) aD) aD) aD))
  (au (fX 4 gq.nd (cq zV (cq hX (cq De (dv 4) (dv 4)) aD) aD))
  (au (jY (cq zV (cq hX (cq De (dv 4) aD) aD) aD) (GB hr (dv 0) aD (λ_=>rfl)))
  (aA (bb (cq zV (cq MP (bo (aK hr) (dv 0) aD (λ_ _=>rfl)) aD) (dv 1))))))))) (by kernel_rfl)
noncomputable abbrev lx:Stmt:=top 38
noncomputable abbrev iU:WE:=["_law_pen_here", "_law_most"]
theorem oj:aQ ["_law_pen_here", "_law_most", "_law_left"] iU (aB lx):=lX
theorem sZ:(["_law_lap", "_law_pen_here", "_law_most", "_law_left"]:WE).Nodup:=by decide +kernel
noncomputable abbrev qi(P:WL)(w:World)(K:WD)(mg:Wz)(base:Heap):Prop:=bc P w K mg base "_law_names" iU 2 kR
theorem zc(D:Df K mg "_law_names" iU lx)(T:Txt K mg)(J37:eS P w K mg base):qi P w K mg base:=
 bc.eq ((Df.has (k:=1) D oj (λf cdv A outer s H E hr=>
  au (fX 2 oj.nd (uo (ab eM (ab eM (ab eM (ab eM (ab eM (ab eM (ab eM (ab eM (ab eM (ab eM (ab eM (ab eM af))))))))))))))
  (aA (bb (jt (eX rfl) T.n_tuple cB (ab (qU (mM hr) T.n_sorted kh (ab (dX ["_law_lap"] (by rfl) rfl (Dc (by rfl) T.n_range (ab (fY J37 aR hr (ab (dv 0) (ab (cq hX (dv 1) aD) af))) af)) (λ_ _ _ _ _=>dg 0 sZ) (λ_ _ _ _ _=>gf) (λ_ _ _ _ _=>Gw (dv 3) (fY J37 bS hr (ab (dv 1) (ab (qU n8 T.n_len jW (ab (dv 3) af)) af))))) af)) af)))))).f7) (by kernel_rfl)
noncomputable abbrev oV:Stmt:=top 39
noncomputable abbrev ly:WE:=["_law_pen_here", "_law_most"]
theorem fU:aQ ["_law_pen_here", "_law_most", "_law_names_here", "_law_share", "_law_strikes", "_law_one"] ly (aB oV):=lX
theorem wG:(["_law_other", "_law_pen_here", "_law_most", "_law_names_here", "_law_share", "_law_strikes", "_law_one"]:WE).Nodup:=by decide +kernel
noncomputable abbrev vo(P:WL)(w:World)(K:WD)(mg:Wz)(base:Heap):Prop:=bc P w K mg base "_law_web" ly 3 oO
theorem Cc(D:Df K mg "_law_web" ly oV)(T:Txt K mg)(J37:eS P w K mg base)(J38:qi P w K mg base):vo P w K mg base:=
 bc.eq (Df.has (k:=2) D fU (λf cdv A outer s H E hr=>
  au (jY (bq (ab (fY J38 aR hr (ab (dv 0) (ab (dv 1) af))) (ab (bo (aK hr) (iC 8 (d:=.list [.int 1,.int 2,.int 3,.int 5]) (Lit.of (by kernel_rfl)) (by decide +kernel)) (fY J37 aR hr (ab (dv 0) (ab aD af))) (λ_ _=>rfl)) (ab (iC 8 (d:=.list []) (Lit.of (by kernel_rfl)) (by decide +kernel)) af)))) (jf rfl (bw (dg 2 fU.nd) (bw (dg 3 fU.nd) (bw (dg 4 fU.nd) fI))) (aW (aW (aW dI)))))
  (au (iB rfl (bI (dv 2)) (dg 5 fU.nd) (aA (fX 4 fU.nd (cq hX (dv 4) (dX ["_law_other"] (by rfl) rfl (bI (dv 2)) (λ_ _ _ _ _=>dg 0 wG) (λ_ _ _ _ _=>eW (cu (Jh hr) (fY J37 bS hr (ab (dv 1) (ab aD af))) (dv 4) (by rfl))) (λ_ _ _ _ _=>bq (ab (dv 6) (ab (dv 0) af))))))))
  (aA (bb (bq (ab (dv 2) (ab (jt (eX rfl) T.n_tuple cB (ab (dv 4) af)) af)))))))) (by kernel_rfl)
noncomputable abbrev m8:Stmt:=top 40
noncomputable abbrev jM:WE:=["_law_names_here"]
theorem iV:aQ ["_law_names_here", "_law_got", "_law_name"] jM (aB m8):=lX
theorem vq:(["_law_lot", "_law_names_here", "_law_got", "_law_name"]:WE).Nodup:=by decide +kernel
noncomputable abbrev sL(P:WL)(w:World)(K:WD)(mg:Wz)(base:Heap):Prop:=bc P w K mg base "_law_lots" jM 1 mO
theorem AW(D:Df K mg "_law_lots" jM m8)(T:Txt K mg):sL P w K mg base:=
 bc.eq (Df.has (k:=0) D iV (λf cdv A outer s H E hr=>
  au (fX 1 iV.nd (iC 8 (d:=.list [.tuple []]) (Lit.of (by kernel_rfl)) (by decide +kernel)))
  (au (iB rfl (bI (dv 0)) (dg 2 iV.nd) (aA (fX 1 iV.nd (cq hX (dv 1) (dX ["_law_lot"] (by rfl) rfl (bI (dv 1)) (λ_ _ _ _ _=>dg 0 vq) (λ_ _ _ _ _=>gf) (λ_ _ _ _ _=>cq hX (dv 0) (bq (ab (dv 3) af))))))))
  (aA (bb (dv 1)))))) (by kernel_rfl)
noncomputable abbrev fo:Stmt:=top 41
noncomputable abbrev dF:WE:=[]
theorem m9:aQ [] dF (aB fo):=lX
noncomputable abbrev fq(P:WL)(w:World)(K:WD)(mg:Wz)(base:Heap):Prop:=bc P w K mg base "_law_kernel_kinds" dF 1 dC
theorem nW(D:Df K mg "_law_kernel_kinds" dF fo)(T:Txt K mg):fq P w K mg base:=
 bc.eq (Df.has (k:=0) D m9 (λf cdv A outer s H E hr=>
  aA (bb (iC 8 (d:=.list [.str "stable",.str "standing",.str "preferred",.str "whole",.str "grounded"]) (Lit.of (by kernel_rfl)) (by decide +kernel))))) (by kernel_rfl)
noncomputable abbrev jj:Stmt:=top 42
noncomputable abbrev gr:WE:=["_law_web_here", "_law_kind", "_law_one", "_law_other"]
theorem mf:aQ ["_law_web_here", "_law_kind", "_law_one", "_law_other", "_law_mine", "_law_its", "_law_back"] gr (aB jj):=lX
noncomputable abbrev jk(P:WL)(w:World)(K:WD)(mg:Wz)(base:Heap):Prop:=bc P w K mg base "_law_is_idle" gr 1 cD
theorem vt(D:Df K mg "_law_is_idle" gr jj)(T:Txt K mg):jk P w K mg base:=
 bc.eq (Df.has (k:=0) D mf (λf cdv A outer s H E hr=>
  au (ON 4 5 6 mf.nd (ab (eN (oJ hr) (bq (ab (dv 2) (ab (dv 2) af))) (bo (aK hr) (dv 0) aD (λ_ _=>rfl)) (by rfl)) (ab (eN (oJ hr) (bq (ab (dv 3) (ab (dv 3) af))) (bo (aK hr) (dv 0) aD (λ_ _=>rfl)) (by rfl)) (ab (eN (oJ hr) (bq (ab (dv 3) (ab (dv 2) af))) (bo (aK hr) (dv 0) aD (λ_ _=>rfl)) (by rfl)) af))))
  (aA (bb (M1 hr (Jy (uO eM (dv 4) (uO eM (gQ (dv 4) (gc (dv 5))) (uO eM (gQ (dv 5) (gc (yH (dv 4) (gc (dv 6))))) Jx)))) (dv 1) (gQ (dv 4) (gc (yH (dv 6) (gc (dv 5))))) ⟨rfl,rfl,rfl,rfl⟩))))) (by kernel_rfl)
noncomputable abbrev j5:Stmt:=top 43
noncomputable abbrev gW:WE:=["_law_web_here", "_law_kind"]
theorem gu:aQ ["_law_web_here", "_law_kind", "_law_kept", "_law_one", "_law_other"] gW (aB j5):=lX
noncomputable abbrev gX(P:WL)(w:World)(K:WD)(mg:Wz)(base:Heap):Prop:=bc P w K mg base "_law_kernel" gW 2 bN
theorem wH(D:Df K mg "_law_kernel" gW j5)(T:Txt K mg)(J42:jk P w K mg base):gX P w K mg base:=
 bc.eq ((Df.has (k:=1) D gu (λf cdv A outer s H E hr=>
  au (fX 2 gu.nd (uo af))
  (au (iB rfl (bI (bo (aK hr) (dv 0) aD (λ_ _=>rfl))) (jf rfl (bw (dg 3 gu.nd) (bw (dg 4 gu.nd) fI)) (aW (aW dI))) (aA (hV (DW.dt (pI (cu (BM hr) (dv 3) (dv 4) (by rfl)) (mL (iA (dJ (fY J42 bS hr (ab (dv 0) (ab (dv 1) (ab (dv 3) (ab (dv 4) af)))))))))) (aA (fH (qT (dv 2) (bq (ab (dv 3) (ab (dv 4) af)))))) cZ)))
  (aA (bb (bq (ab (bo (aK hr) (dv 0) aD (λ_ _=>rfl)) (ab (jt (eX rfl) T.n_tuple cB (ab (dv 2) af)) af)))))))).f7) (by kernel_rfl)
noncomputable abbrev jl:Stmt:=top 44
noncomputable abbrev gv:WE:=["_law_web_here", "_law_kind"]
theorem fM:aQ ["_law_web_here", "_law_kind", "_law_more", "_law_one"] gv (aB jl):=lX
theorem qj:(["_law_other", "_law_web_here", "_law_kind", "_law_more", "_law_one"]:WE).Nodup:=by decide +kernel
noncomputable abbrev jm(P:WL)(w:World)(K:WD)(mg:Wz)(base:Heap):Prop:=bc P w K mg base "_law_fullest" gv 2 eO
theorem vw(D:Df K mg "_law_fullest" gv jl)(T:Txt K mg)(J42:jk P w K mg base):jm P w K mg base:=
 bc.eq (Df.has (k:=1) D fM (λf cdv A outer s H E hr=>
  au (fX 2 fM.nd (iC 8 (d:=.list []) (Lit.of (by kernel_rfl)) (by decide +kernel)))
  (au (iB rfl (bI (bo (aK hr) (dv 0) aD (λ_ _=>rfl))) (dg 3 fM.nd) (aA (fX 2 fM.nd (cq hX (dv 2) (dX ["_law_other"] (by rfl) rfl (bI (bo (aK hr) (dv 0) aD (λ_ _=>rfl))) (λ_ _ _ _ _=>dg 0 qj) (λ_ _ _ _ _=>eW (DW.dt (BK (cu (we hr) (dv 4) (dv 0) (by rfl)) (yw (dJ (fY J42 bS hr (ab (dv 1) (ab (dv 2) (ab (dv 4) (ab (dv 0) af)))))))))) (λ_ _ _ _ _=>bq (ab (dv 4) (ab (dv 0) af))))))))
  (aA (bb (bq (ab (bo (aK hr) (dv 0) aD (λ_ _=>rfl)) (ab (jt (eX rfl) T.n_tuple cB (ab (vf rfl hr T.n_sorted T.n_set (cq hX (jt Dk T.n_list CN (ab (bo (aK hr) (dv 0) aD (λ_ _=>rfl)) af)) (dv 2))) af)) af)))))))) (by kernel_rfl)
noncomputable abbrev j6:Stmt:=top 46
noncomputable abbrev gY:WE:=["_law_strikes", "_law_changes"]
theorem nc:aQ ["_law_strikes", "_law_changes", "_law_left"] gY (aB j6):=lX
theorem kA:(["_law_one", "_law_strikes", "_law_changes", "_law_left"]:WE).Nodup:=by decide +kernel
noncomputable abbrev gZ(P:WL)(w:World)(K:WD)(mg:Wz)(base:Heap):Prop:=bc P w K mg base "_law_turned" gY 1 bO
theorem wI(D:Df K mg "_law_turned" gY j6)(T:Txt K mg):gZ P w K mg base:=
 bc.eq (Df.has (k:=0) D nc (λf cdv A outer s H E hr=>
  au (fX 2 nc.nd (cq hX (dX ["_law_one"] (by rfl) rfl (bI (dv 0)) (λ_ _ _ _ _=>dg 0 kA) (λ_ _ _ _ _=>eW (cu (uJ hr) (dv 0) (dv 2) (by rfl))) (λ_ _ _ _ _=>dv 0)) (dX ["_law_one"] (by rfl) rfl (bI (dv 1)) (λ_ _ _ _ _=>dg 0 kA) (λ_ _ _ _ _=>eW (cu (uJ hr) (dv 0) (dv 1) (by rfl))) (λ_ _ _ _ _=>dv 0))))
  (aA (bb (jt (eX rfl) T.n_tuple cB (ab (qU (mM hr) T.n_sorted kh (ab (dv 2) af)) af)))))) (by kernel_rfl)
noncomputable abbrev ng:Stmt:=top 45
noncomputable abbrev jN:WE:=["_law_pen_here", "_law_web_here", "_law_far"]
theorem fc:aQ ["_law_pen_here", "_law_web_here", "_law_far", "_law_names_here", "_law_strikes", "_law_again", "_law_two_here"] jN (aB ng):=lX
noncomputable abbrev sM(P:WL)(w:World)(K:WD)(mg:Wz)(base:Heap):Prop:=bc P w K mg base "_law_mate" jN 2 eQ
theorem AX(D:Df K mg "_law_mate" jN ng)(T:Txt K mg)(J37:eS P w K mg base)(J46:gZ P w K mg base):sM P w K mg base:=
 bc.eq (Df.has (k:=1) D fc (λf cdv A outer s H E hr=>
  au (jY (dv 1) (jf rfl (bw (dg 3 fc.nd) (bw (dg 4 fc.nd) fI)) (aW (aW dI))))
  (au (iB rfl (Dc (by rfl) T.n_range (ab (cq De (fY J37 bS hr (ab (dv 0) (ab (cq hX (dv 2) aD) af))) (jt KY T.n_int GH (ab (eN (we hr) (dv 3) (iC 8 (d:=.tuple []) (Lit.of (by kernel_rfl)) (by decide +kernel)) (by rfl)) af))) af)) (dg 5 fc.nd) (au (fX 6 fc.nd (bq (ab (bo (aK hr) (dv 3) (fY J37 bS hr (ab (dv 0) (ab (qU n8 T.n_len jW (ab (dv 3) af)) af))) (λ_ _=>rfl)) (ab (bo (aK hr) (dv 3) (fY J37 bS hr (ab (dv 0) (ab (qU n8 T.n_len jW (ab (dv 3) af)) af))) (λ_ _=>rfl)) af))))
  (aA (fX 4 fc.nd (fY J46 bS hr (ab (dv 4) (ab (bq (ab (dv 6) af)) af)))))))
  (aA (bb (bq (ab (dv 3) (ab (dv 4) af)))))))) (by kernel_rfl)
noncomputable abbrev j7:Stmt:=top 48
noncomputable abbrev g6:WE:=["_law_pen_here", "_law_web_here"]
theorem nh:aQ ["_law_pen_here", "_law_web_here", "_law_more"] g6 (aB j7):=lX
theorem rF:(["_law_name", "_law_pen_here", "_law_web_here", "_law_more"]:WE).Nodup:=by decide +kernel
noncomputable abbrev om(P:WL)(w:World)(K:WD)(mg:Wz)(base:Heap):Prop:=bc P w K mg base "_law_selves" g6 2 fE
theorem wJ(D:Df K mg "_law_selves" g6 j7)(T:Txt K mg)(J37:eS P w K mg base):om P w K mg base:=
 bc.eq (Df.has (k:=1) D nh (λf cdv A outer s H E hr=>
  au (pM (i:=2) ["_law_name"] nh.nd rfl rfl (by rfl) rfl (bI (bo (aK hr) (dv 1) aD (λ_ _=>rfl))) (λ_ _ _ _ _=>dg 0 rF) (λ_ _ _ _ _=>eW (cu (BM hr) (fY J37 bS hr (ab (dv 1) (ab aD af))) aD (by rfl))) (λ_ _ _ _ _=>bq (ab (dv 0) (ab (dv 0) af))))
  (aA (bb (bq (ab (bo (aK hr) (dv 1) aD (λ_ _=>rfl)) (ab (jt (eX rfl) T.n_tuple cB (ab (vf rfl hr T.n_sorted T.n_set (cq hX (jt Dk T.n_list CN (ab (bo (aK hr) (dv 1) aD (λ_ _=>rfl)) af)) (dv 2))) af)) af))))))) (by kernel_rfl)
noncomputable abbrev oW:Stmt:=top 47
noncomputable abbrev lC:WE:=["_law_pen_here", "_law_most"]
theorem jO:aQ ["_law_pen_here", "_law_most", "_law_one", "_law_kind", "_law_some"] lC (aB oW):=lX
noncomputable abbrev vz(P:WL)(w:World)(K:WD)(mg:Wz)(base:Heap):Prop:=bc P w K mg base "_law_two" lC 4 kT
theorem Cd(D:Df K mg "_law_two" lC oW)(T:Txt K mg)(J37:eS P w K mg base)(J48:om P w K mg base)(J44:jm P w K mg base)(J43:gX P w K mg base)(J45:sM P w K mg base)(J41:fq P w K mg base)(J39:vo P w K mg base):vz P w K mg base:=
 bc.eq ((Df.has (k:=3) D jO (λf cdv A outer s H E hr=>
  au (fX 2 jO.nd (fY J48 aR hr (ab (dv 0) (ab (fY J39 aR hr (ab (dv 0) (ab (dv 1) af))) af))))
  (au (fX 3 jO.nd (bo (aK hr) (Gk J41 aR (hr.mono (by omega)) (by rfl)) (fY J37 aR hr (ab (dv 0) (ab aD af))) (λ_ _=>rfl)))
  (au (fX 4 jO.nd (uo (ab (fY J45 aR hr (ab (dv 0) (ab (dv 2) (ab aD af)))) (ab (fY J45 aR hr (ab (dv 0) (ab (dv 2) (ab aD af)))) (ab (fY J43 aR hr (ab (dv 2) (ab (dv 3) af))) (ab (fY J44 aR hr (ab (dv 2) (ab (dv 3) af))) af))))))
  (au (fH (qT (dv 4) (bq (ab (bo (aK hr) (dv 2) aD (λ_ _=>rfl)) (ab (bo (aK hr) (fY J48 aR hr (ab (dv 0) (ab (bq (ab (bo (aK hr) (dv 2) aD (λ_ _=>rfl)) (ab (iC 8 (d:=.tuple []) (Lit.of (by kernel_rfl)) (by decide +kernel)) af))) af))) aD (λ_ _=>rfl)) af)))))
  (aA (bb (bq (ab (dv 2) (ab (bo (aK hr) (dv 4) (fY J37 aR hr (ab (dv 0) (ab aD af))) (λ_ _=>rfl)) af)))))))))).f7) (by kernel_rfl)
noncomputable abbrev oX:Stmt:=top 49
noncomputable abbrev lD:WE:=["_law_one", "_law_other", "_law_kind"]
theorem jP:aQ ["_law_one", "_law_other", "_law_kind", "_law_least", "_law_most", "_law_some"] lD (aB oX):=lX
theorem oq:(["_law_strike", "_law_one", "_law_other", "_law_kind", "_law_least", "_law_most", "_law_some"]:WE).Nodup:=by decide +kernel
noncomputable abbrev vA(P:WL)(w:World)(K:WD)(mg:Wz)(base:Heap):Prop:=bc P w K mg base "_law_due" lD 3 gj
theorem Ce(D:Df K mg "_law_due" lD oX)(T:Txt K mg)(J44:jm P w K mg base)(J43:gX P w K mg base):vA P w K mg base:=
 bc.eq (Df.has (k:=2) D jP (λf cdv A outer s H E hr=>
  au (jY (bq (ab (bo (aK hr) (fY J43 aR hr (ab (dv 1) (ab (dv 2) af))) aD (λ_ _=>rfl)) (ab (bo (aK hr) (fY J44 aR hr (ab (dv 1) (ab (dv 2) af))) aD (λ_ _=>rfl)) af))) (jf rfl (bw (dg 3 jP.nd) (bw (dg 4 jP.nd) fI)) (aW (aW dI))))
  (au (pM (i:=5) ["_law_strike"] jP.nd rfl rfl (by rfl) rfl (bI (dv 3)) (λ_ _ _ _ _=>dg 0 oq) (λ_ _ _ _ _=>eW (cu (uJ hr) (dv 0) (bo (aK hr) (dv 1) aD (λ_ _=>rfl)) (by rfl))) (λ_ _ _ _ _=>dv 0))
  (aA (bb (jt (eX rfl) T.n_tuple cB (ab (qU (mM hr) T.n_sorted kh (ab (cq hX (dv 5) (dX ["_law_strike"] (by rfl) rfl (bI (bo (aK hr) (dv 0) aD (λ_ _=>rfl))) (λ_ _ _ _ _=>dg 0 oq) (λ_ _ _ _ _=>eW (cu (uJ hr) (dv 0) (dv 5) (by rfl))) (λ_ _ _ _ _=>dv 0))) af)) af))))))) (by kernel_rfl)
noncomputable abbrev j8:Stmt:=top 50
noncomputable abbrev g9:WE:=["_law_one", "_law_other", "_law_kind"]
theorem cR:aQ ["_law_one", "_law_other", "_law_kind", "_law_pairs", "_law_best", "_law_first", "_law_rows"] g9 (aB j8):=lX
theorem rG:(["_law_row", "_law_one", "_law_other", "_law_kind", "_law_pairs", "_law_best", "_law_first", "_law_rows"]:WE).Nodup:=by decide +kernel
theorem rH:(["_law_second", "_law_one", "_law_other", "_law_kind", "_law_pairs", "_law_best", "_law_first", "_law_rows"]:WE).Nodup:=by decide +kernel
noncomputable abbrev ou(P:WL)(w:World)(K:WD)(mg:Wz)(base:Heap):Prop:=bc P w K mg base "_law_by_all" g9 3 gS
theorem wK(D:Df K mg "_law_by_all" g9 j8)(T:Txt K mg)(J40:sL P w K mg base)(J43:gX P w K mg base)(J46:gZ P w K mg base):ou P w K mg base:=
 bc.eq ((Df.has (k:=2) D cR (λf cdv A outer s H E hr=>
  au (Jz (n:=2) rfl (ab (iC 8 (d:=.list []) (Lit.of (by kernel_rfl)) (by decide +kernel)) (ab (uo af) af)) (bw (dg 3 cR.nd) (bw (dg 4 cR.nd) fI)))
  (au (iB rfl (bI (bo (aK hr) (dv 0) aD (λ_ _=>rfl))) (dg 5 cR.nd) (aA (fX 3 cR.nd (cq hX (dv 3) (dX ["_law_second"] (by rfl) rfl (bI (bo (aK hr) (dv 0) aD (λ_ _=>rfl))) (λ_ _ _ _ _=>dg 0 rH) (λ_ _ _ _ _=>gf) (λ_ _ _ _ _=>bq (ab (dv 6) (ab (dv 0) af))))))))
  (au (iB rfl (bI (fY J40 bS hr (ab (dv 3) af))) (dg 6 cR.nd) (aA (hV (cu (BM hr) (fY J43 bS hr (ab (bq (ab (bo (aK hr) (dv 0) aD (λ_ _=>rfl)) (ab (fY J46 bS hr (ab (bo (aK hr) (dv 0) aD (λ_ _=>rfl)) (ab (dv 6) af))) af))) (ab (dv 2) af))) (fY J43 bS hr (ab (dv 1) (ab (dv 2) af))) (by rfl)) (aA (fH (qT (dv 4) (bq (ab (qU n8 T.n_len jW (ab (dv 6) af)) (ab (dv 6) af)))))) cZ)))
  (au (fX 4 cR.nd (qU (mM hr) T.n_sorted kh (ab (dv 4) af)))
  (aA (bb (dX ["_law_row"] (by rfl) rfl (bI (dv 4)) (λ_ _ _ _ _=>dg 0 rG) (λ_ _ _ _ _=>eW (cu (BM hr) (bo (aK hr) (dv 0) aD (λ_ _=>rfl)) (bo (aK hr) (bo (aK hr) (dv 5) aD (λ_ _=>rfl)) aD (λ_ _=>rfl)) (by rfl))) (λ_ _ _ _ _=>bo (aK hr) (dv 0) aD (λ_ _=>rfl)))))))))).f7) (by kernel_rfl)
noncomputable abbrev lF:Stmt:=top 51
noncomputable abbrev iW:WE:=["_law_pen_here", "_law_one", "_law_other"]
theorem cO:aQ ["_law_pen_here", "_law_one", "_law_other", "_law_kind", "_law_due_here", "_law_pairs", "_law_first", "_law_rows"] iW (aB lF):=lX
theorem tj:(["_law_two_here", "_law_pen_here", "_law_one", "_law_other", "_law_kind", "_law_due_here", "_law_pairs", "_law_first", "_law_rows"]:WE).Nodup:=by decide +kernel
theorem tm:(["_law_second", "_law_pen_here", "_law_one", "_law_other", "_law_kind", "_law_due_here", "_law_pairs", "_law_first", "_law_rows"]:WE).Nodup:=by decide +kernel
noncomputable abbrev qk(P:WL)(w:World)(K:WD)(mg:Wz)(base:Heap):Prop:=bc P w K mg base "_law_right" iW 8 eY
theorem ze(D:Df K mg "_law_right" iW lF)(T:Txt K mg)(J37:eS P w K mg base)(J32:xO P w K mg base)(J46:gZ P w K mg base)(J41:fq P w K mg base)(J50:ou P w K mg base)(J33:qh P w K mg base)(J49:vA P w K mg base):qk P w K mg base:=
 bc.eq (Df.has (k:=7) D cO (λf cdv A outer s H E hr=>
  au (iB rfl (bI (Gk J41 bS (hr.mono (by omega)) (by rfl))) (dg 3 cO.nd) (au (fX 4 cO.nd (fY J49 bS hr (ab (dv 1) (ab (dv 2) (ab (dv 3) af)))))
  (au (hV (cu (we hr) (qU (qS hr) T.n_repr nv (ab (kJ (ab (fY J33 bS hr (ab (dv 1) (ab (dv 2) (ab (dv 3) af)))) (ab (fY J33 bS hr (ab (dv 1) (ab (dv 2) (ab (dv 3) af)))) af))) af)) (qU (qS hr) T.n_repr nv (ab (kJ (ab (dv 4) (ab (dv 4) af))) af)) (by rfl)) (aA (bb eV)) cZ)
  (aA (hV (DW.dt (BK (cu (Jh hr) (qU n8 T.n_len jW (ab (bo (aK hr) (dv 1) aD (λ_ _=>rfl)) af)) aD (by rfl)) (yw (cu (we hr) (fY J50 bS hr (ab (dv 1) (ab (dv 2) (ab (dv 3) af)))) (kJ (ab (dv 4) af)) (by rfl))))) (aA (bb eV)) cZ)))))
  (au (fX 5 cO.nd (iC 8 (d:=.list []) (Lit.of (by kernel_rfl)) (by decide +kernel)))
  (au (iB rfl (bI (bo (aK hr) (dv 1) aD (λ_ _=>rfl))) (dg 6 cO.nd) (aA (fX 5 cO.nd (cq hX (dv 5) (dX ["_law_second"] (by rfl) rfl (bI (bo (aK hr) (dv 1) aD (λ_ _=>rfl))) (λ_ _ _ _ _=>dg 0 tm) (λ_ _ _ _ _=>gf) (λ_ _ _ _ _=>bq (ab (dv 7) (ab (dv 0) af))))))))
  (au (iB rfl (bI (kJ (ab (iC 8 (d:=.tuple []) (Lit.of (by kernel_rfl)) (by decide +kernel)) (ab (jt (eX rfl) T.n_tuple cB (ab (dv 5) af)) (ab (jt (eX rfl) T.n_tuple cB (ab (dX ["_law_two_here"] (by rfl) rfl (bI (dv 5)) (λ_ _ _ _ _=>dg 0 tj) (λ_ _ _ _ _=>eW (cu (BM hr) (fY J37 bS hr (ab (dv 1) (ab aD af))) aD (by rfl))) (λ_ _ _ _ _=>dv 0)) af)) (ab (bo (aK hr) (dv 1) aD (λ_ _=>rfl)) af)))))) (dg 7 cO.nd) (au (fX 4 cO.nd (bq (ab (bo (aK hr) (dv 1) aD (λ_ _=>rfl)) (ab (fY J46 bS hr (ab (bo (aK hr) (dv 1) aD (λ_ _=>rfl)) (ab (dv 7) af))) af))))
  (aA (hV (cu (we hr) (qU (qS hr) T.n_repr nv (ab (kJ (ab (fY J32 bS hr (ab (dv 1) (ab (dv 7) af))) (ab (fY J32 bS hr (ab (dv 1) (ab (dv 7) af))) af))) af)) (qU (qS hr) T.n_repr nv (ab (kJ (ab (dv 4) (ab (dv 4) af))) af)) (by rfl)) (aA (bb eV)) cZ))))
  (aA (bb eV))))))) (by kernel_rfl)
noncomputable abbrev ql:Stmt:=top 52
noncomputable abbrev OV:WE:=["_law_script"]
theorem oY:aQ ["_law_script", "_law_cell_here", "_law_pen_here", "_law_most", "_law_one", "_law_other", "_law_stood"] OV (aB ql):=lX
theorem M7{f:Addr}{fd:FuncData}(Fu:KJ K "law" "law" ql f fd)(T:Txt K mg)(J35:sI P w K mg base)(J51:qk P w K mg base)(J47:vz P w K mg base)(J36:vn P w K mg base):ka P w K mg base (vT P w) 9 f fd ["_law_script"] (H0 ⟨P,w,mg,K⟩ Dv):=
 MW (RG (k:=8) Fu oY (λcdv A outer s H E hr=>
  au (iB rfl (bI (cq hX (kJ (ab (fY J35 bS hr (ab (dv 0) (ab aD af))) af)) (EO (dv 0) (yE aD) (yE aD)))) (dg 1 oY.nd) (au (fX 2 oY.nd (fY J36 bS hr (ab (dv 1) af)))
  (aA (iB rfl (bI (iC 8 (d:=.tuple [.int 6,.int 2]) (Lit.of (by kernel_rfl)) (by decide +kernel))) (dg 3 oY.nd) (au (jY (fY J47 bS hr (ab (dv 2) (ab (dv 3) af))) (jf rfl (bw (dg 4 oY.nd) (bw (dg 5 oY.nd) fI)) (aW (aW dI))))
  (au (fX 6 oY.nd (qU (qS hr) T.n_repr nv (ab (kJ (ab (dv 4) (ab (dv 5) af))) af)))
  (aA (hV (DW.dt (pI (iA (dJ (fY J51 bS hr (ab (dv 2) (ab (dv 4) (ab (dv 5) af)))))) (pI (iA (dJ (fY J51 bS hr (ab (dv 2) (ab (dv 5) (ab (dv 4) af)))))) (mL (cu (we hr) (qU (qS hr) T.n_repr nv (ab (kJ (ab (dv 4) (ab (dv 5) af))) af)) (dv 6) (by rfl)))))) (aA (bb eV)) cZ))))))))
  (aA (bb eV)))) (by kernel_rfl)
end
end K25
namespace Ml
open PySem
@[simp] theorem QS(i:Nat)(ρ:Fm)(h:Hm):ae i ρ h=(match ρ[i]? with
 |some (some d)=>.ok d h
 |_=>.bad):=rfl
@[simp] theorem QT(d:PyData)(z0:Fm)(h:Hm):aj d z0 h=(.ok (.dat d) h):=rfl
@[simp] theorem RL(n:Str)(z0:Fm)(h:Hm):R7 n z0 h=(.ok (.fn n) h):=rfl
@[simp] theorem QU (z0:Fm)(h:Hm):ah  z0 h=(.ok [] h):=rfl
@[simp] theorem Pz(e:ME)(a:MA)(ρ:Fm)(h:Hm):aa e a ρ h=((e ρ h).bind λx h1=>(a ρ h1).bind λxs h2=>.ok (x::xs) h2):=rfl
@[simp] theorem QV(f:D->D->Hm->R D)(a b:ME)(ρ:Fm)(h:Hm):ai f a b ρ h=((a ρ h).bind λx h1=>(b ρ h1).bind λy h2=>f x y h2):=rfl
@[simp] theorem RM(f:D->Hm->R D)(a:ME)(ρ:Fm)(h:Hm):KP f a ρ h=((a ρ h).bind λx h1=>f x h1):=rfl
@[simp] theorem PB(f:Fn)(a:MA)(ρ:Fm)(h:Hm):ag f a ρ h=((a ρ h).bind λxs h1=>f xs h1):=rfl
@[simp] theorem PC(e:ME)(ρ:Fm)(h:Hm):aO e ρ h=((e ρ h).bind λx h1=>match x with
 |.dat (.bool b)=>.ok b h1
 |_=>.bad):=rfl
@[simp] theorem QW(t:MT)(ρ:Fm)(h:Hm):i6 t ρ h=((t ρ h).bind λb h1=>.ok (!b) h1):=rfl
@[simp] theorem QX(t u:MT)(ρ:Fm)(h:Hm):o3 t u ρ h=((t ρ h).bind λb h1=>if b then u ρ h1 else .ok false h1):=rfl
@[simp] theorem RN(t u:MT)(ρ:Fm)(h:Hm):vU t u ρ h=((t ρ h).bind λb h1=>if b then .ok true h1 else u ρ h1):=rfl
@[simp] theorem QY(a b:ME)(ρ:Fm)(h:Hm):QH a b ρ h=((aO a ρ h).bind λc h1=>if c then b ρ h1 else .ok (.bool false) h1):=rfl
@[simp] theorem RO(a b:ME)(ρ:Fm)(h:Hm):R8 a b ρ h=((aO a ρ h).bind λc h1=>if c then .ok (.bool true) h1 else b ρ h1):=rfl
@[simp] theorem QZ(a:ME)(ρ:Fm)(h:Hm):QJ a ρ h=((aO a ρ h).bind λc h1=>.ok (.bool !c) h1):=rfl
@[simp] theorem RP(t:MT)(a b:ME)(ρ:Fm)(h:Hm):R9 t a b ρ h=((t ρ h).bind λc h1=>if c then a ρ h1 else b ρ h1):=rfl
@[simp] theorem Q0(a:MA):br a=(ag lR a:ME):=rfl
@[simp] theorem Q1(a:MA):jc a=(ag eL a:ME):=rfl
@[simp] theorem Q3(a:MA):ue a=(ag CU a:ME):=rfl
@[simp] theorem PD (ρ:Fm)(h:Hm):dz  ρ h=(.ok (.nx ρ) h):=rfl
@[simp] theorem Q4(a b:MS)(ρ:Fm)(h:Hm):bj a b ρ h=((a ρ h).bind λf h1=>match f with
 |.nx ρ1=>b ρ1 h1
 |f=>.ok f h1):=rfl
@[simp] theorem Q5(i:Nat)(e:ME)(ρ:Fm)(h:Hm):bU i e ρ h=((e ρ h).bind λx h1=>.ok (.nx (ρ.set i (some x))) h1):=rfl
@[simp] theorem PF(e:ME)(ρ:Fm)(h:Hm):hG e ρ h=((e ρ h).bind λ_ h1=>.ok (.nx ρ) h1):=rfl
@[simp] theorem Q6(e:ME)(ρ:Fm)(h:Hm):cC e ρ h=((e ρ h).bind λx h1=>.ok (.rt x) h1):=rfl
@[simp] theorem RQ(t:MT)(a b:MS)(ρ:Fm)(h:Hm):nY t a b ρ h=((t ρ h).bind λc h1=>if c then a ρ h1 else b ρ h1):=rfl
@[simp] theorem OW (ρ:Fm)(h:Hm):Mu  ρ h=(.ok (.bk ρ) h):=rfl
@[simp] theorem PH (ρ:Fm)(h:Hm):Oz  ρ h=(.ok (.ct ρ) h):=rfl
@[simp] theorem PJ(i:Nat)(x:D)(ρ:Fm)(h:Hm):aq i x ρ h=(.ok (ρ.set i (some x)) h):=rfl
@[simp] theorem Q7 (xs:List D)(ρ:Fm)(h:Hm):iI  xs ρ h=(match xs with
 | []=>.ok ρ h
 |_=>.bad):=rfl
@[simp] theorem PK(g:MG)(gs:Fh)(xs:List D)(ρ:Fm)(h:Hm):bP g gs xs ρ h=(match xs with
 | []=>.bad
 |x::xs=>(g x ρ h).bind λρ1 h1=>gs xs ρ1 h1):=rfl
@[simp] theorem Q8(gs:Fh)(x:D)(ρ:Fm)(h:Hm):i7 gs x ρ h=(match x with
 |.dat (.tuple ds)=>gs (ds.map D.dat) ρ h
 |_=>.bad):=rfl
@[simp] theorem Q9(g:MG)(e:ME)(ρ:Fm)(h:Hm):mG g e ρ h=((e ρ h).bind λx h1=>(g x ρ h1).bind λρ1 h2=>.ok (.nx ρ1) h2):=rfl
@[simp] theorem Ra(is:List Nat)(a:MA)(ρ:Fm)(h:Hm):F2 is a ρ h=((a ρ h).bind λxs h1=>match mH is xs ρ with
 |some ρ1=>.ok (.nx ρ1) h1
 |Option.none=>.bad):=rfl
@[simp] theorem PL(e:ME)(ρ:Fm)(h:Hm):CV e ρ h=((e ρ h).bind λx h1=>match x with
 |.dat (.tuple ds)=>.ok (ds.map D.dat) h1
 |_=>.bad):=rfl
@[simp] theorem PM(e:ME)(ρ:Fm)(h:Hm):F3 e ρ h=((e ρ h).bind λx h1=>match x with
 |.dat (.list ds)=>.ok (ds.map D.dat) h1
 |_=>.bad):=rfl
@[simp] theorem PN(e:ME)(ρ:Fm)(h:Hm):F4 e ρ h=((e ρ h).bind λx h1=>match x with
 |.dat (.str s)=>.ok (signs s) h1
 |_=>.bad):=rfl
@[simp] theorem PQ(e:ME)(ρ:Fm)(h:Hm):aN e ρ h=(match e ρ h with
 |.ok (.dat (.tuple ds)) h1=>.ok (ds.map D.dat) h1
 |.ok (.dat (.list ds)) h1=>.ok (ds.map D.dat) h1
 |.ok (.dat (.str s)) h1=>.ok (signs s) h1
 |.ok (.ktup ds) h1=>.ok (ds.map D.dat) h1
 |.exc x h1=>.exc x h1
 |_=>.bad):=rfl
@[simp] theorem PR(a:MA)(ρ:Fm)(h:Hm):rQ a ρ h=((a ρ h).bind λxs h1=>match xs with
 | [.dat (.int j)]=>if -(2^62)<=j/\j<2^62 then .ok (nums 0 j.toNat) h1 else .bad
 |_=>.bad):=rfl
@[simp] theorem OX(a:MA)(ρ:Fm)(h:Hm):Mv a ρ h=((a ρ h).bind λxs h1=>match xs with
 | [.dat (.int i),.dat (.int j)]=>if -(2^62)<=i/\i<2^62/\-(2^62)<=j/\j<2^62 then .ok (nums i (j-i).toNat) h1 else .bad
 |_=>.bad):=rfl
@[simp] theorem PU(a:MA)(ρ:Fm)(h:Hm):CW a ρ h=((a ρ h).bind λxs h1=>match xs with
 | [.dat (.tuple ds),.dat (.tuple es)]=>.ok (yo ds es) h1
 |_=>.bad):=rfl
@[simp] theorem Rb(it:MA)(g:MG)(b:MS)(ρ:Fm)(h:Hm):nQ it g b ρ h=((it ρ h).ud.bind λxs h1=>bX g b xs ρ h1):=rfl
@[simp] theorem PV (z0:Fm)(h:Hm):cX  z0 h=(.ok true h):=rfl
@[simp] theorem PX(p n:Nat)(b:MS)(xs:List D)(h:Hm):bu p n b xs h=(if xs.length=p then(b (xs.map some++List.replicate (n-p) none) h).bind uf else .bad):=rfl
@[simp] theorem PY(x:D)(h:Hm):truth x h=(match x with
 |.dat .none=>some false
 |.dat (.bool b)=>some b
 |.dat (.int i)=>some (i != 0)
 |.dat (.str s)=>if mj s.length then some ((s.length:Int) != 0)else Option.none
 |.dat (.tuple ds)=>some !ds.isEmpty
 |.dat (.list ds)=>some !ds.isEmpty
 |.ref i=>match h[i]? with
  |some (.lst xs)=>some !xs.isEmpty
  |_=>Option.none
 |_=>Option.none:Option Bool):=rfl
@[simp] theorem OY(e:ME)(ρ:Fm)(h:Hm):cy e ρ h=((e ρ h).bind λx h1=>match truth x h1 with
 |some b=>.ok b h1
 |Option.none=>.bad):=rfl
@[simp] theorem Rc(a b:ME)(ρ:Fm)(h:Hm):EL a b ρ h=((a ρ h).bind λx h1=>match truth x h1 with
 |some c=>if c then .ok x h1 else b ρ h1
 |none=>.bad):=rfl
@[simp] theorem PZ(a b:ME)(ρ:Fm)(h:Hm):lV a b ρ h=((a ρ h).bind λx h1=>match truth x h1 with
 |some c=>if c then b ρ h1 else .ok x h1
 |none=>.bad):=rfl
@[simp] theorem OZ(f g:D->D->Hm->R D)(a b c:ME)(ρ:Fm)(h:Hm):oK f g a b c ρ h=((a ρ h).bind λx h1=>(b ρ h1).bind λy h2=>(f x y h2).bind λz h3=>match z with
 |.dat (.bool k)=>if k then(c ρ h3).bind λw h4=>g y w h4 else .ok (.bool false) h3
 |_=>.bad):=rfl
@[simp] theorem RS(e:ME)(lo hi:KQ)(ρ:Fm)(h:Hm):Pu e lo hi ρ h=((e ρ h).bind λx h1=>(lo ρ h1).bind λl h2=>(hi ρ h2).bind λu h3=>OB x l u h3):=rfl
@[simp] theorem P0 (z0:Fm)(h:Hm):CZ  z0 h=(.ok Option.none h):=rfl
@[simp] theorem P1(e:ME)(ρ:Fm)(h:Hm):n0 e ρ h=((e ρ h).bind λx h1=>match x with
 |.dat (.int i)=>.ok (some i) h1
 |_=>.bad):=rfl
@[simp] theorem RT(x:D)(lo hi:Option Int)(h:Hm):OB x lo hi h=(match x with
 |.dat (.tuple ds)=>.ok (.dat (.tuple (cut ds lo hi))) h
 |.dat (.list ds)=>.ok (.dat (.list (cut ds lo hi))) h
 |_=>.bad:R D):=rfl
@[simp] theorem Rf(f:PyData->Bool)(x:D)(h:Hm):zN f x h=(match x with
 |.dat d=>.ok (.bool (f d)) h
 |_=>.bad):=rfl
@[simp] theorem Rg(x y:D)(h:Hm):F5 x y h=(match x,y with
 |.dat (.int i),.dat (.int j)=>.ok (.int (i-j)) h
 |_,_=>.bad:R D):=rfl
@[simp] theorem RU(x y:D)(h:Hm):Pt x y h=(match x,y with
 |.dat (.int i),.dat (.int j)=>.ok (.bool (decide (j<i))) h
 |_,_=>.bad:R D):=rfl
@[simp] theorem RV(x y:D)(h:Hm):OA x y h=(match x,y with
 |.dat (.int i),.dat (.int j)=>.ok (.bool (decide (j<=i))) h
 |_,_=>.bad:R D):=rfl
@[simp] theorem Rh(x:D)(h:Hm):QK x h=(match x with
 |.dat (.int i)=>.ok (.int (-i)) h
 |_=>.bad:R D):=rfl
@[simp] theorem NQ(ρ:Fm):mH [] [] ρ=some ρ:=rfl
@[simp] theorem NR(i:Nat)(is:List Nat)(x:D)(xs:List D)(ρ:Fm):mH (i::is) (x::xs) ρ=mH is xs (ρ.set i (some x)):=rfl
@[simp] theorem NS(i:Nat)(is:List Nat)(ρ:Fm):mH (i::is) [] ρ=none:=rfl
@[simp] theorem NT(x:D)(xs:List D)(ρ:Fm):mH [] (x::xs) ρ=none:=rfl
@[simp] theorem P4(d:D)(h:Hm):uf (.rt d) h=.ok d h:=rfl
@[simp] theorem P5(ρ:Fm)(h:Hm):uf (.nx ρ) h=.ok D.none h:=rfl
@[simp] theorem P6(ρ:Fm)(h:Hm):uf (.bk ρ) h=.bad:=rfl
@[simp] theorem P7(ρ:Fm)(h:Hm):uf (.ct ρ) h=.bad:=rfl
@[simp] theorem JK  : isTup .none=false:=rfl
@[simp] theorem JL(b:Bool):isTup (.bool b)=false:=rfl
@[simp] theorem Lb(i:Int):isTup (.int i)=false:=rfl
@[simp] theorem Lc(s:Str):isTup (.str s)=false:=rfl
@[simp] theorem Ib(xs:WA):isTup (.tuple xs)=true:=rfl
@[simp] theorem JM(xs:WA):isTup (.list xs)=false:=rfl
@[simp] theorem JN(xs:Wx):isTup (.dict xs)=false:=rfl
@[simp] theorem JO  : isStr .none=false:=rfl
@[simp] theorem JP(b:Bool):isStr (.bool b)=false:=rfl
@[simp] theorem Ld(i:Int):isStr (.int i)=false:=rfl
@[simp] theorem Le(s:Str):isStr (.str s)=true:=rfl
@[simp] theorem Ic(xs:WA):isStr (.tuple xs)=false:=rfl
@[simp] theorem JQ(xs:WA):isStr (.list xs)=false:=rfl
@[simp] theorem JR(xs:Wx):isStr (.dict xs)=false:=rfl
@[simp] theorem JS  : isInt .none=false:=rfl
@[simp] theorem JT(b:Bool):isInt (.bool b)=true:=rfl
@[simp] theorem Lf(i:Int):isInt (.int i)=true:=rfl
@[simp] theorem Lg(s:Str):isInt (.str s)=false:=rfl
@[simp] theorem Ie(xs:WA):isInt (.tuple xs)=false:=rfl
@[simp] theorem JU(xs:WA):isInt (.list xs)=false:=rfl
@[simp] theorem JV(xs:Wx):isInt (.dict xs)=false:=rfl
@[simp] theorem JW  : ug .none=false:=rfl
@[simp] theorem JX(b:Bool):ug (.bool b)=true:=rfl
@[simp] theorem Lh(i:Int):ug (.int i)=false:=rfl
@[simp] theorem Li(s:Str):ug (.str s)=false:=rfl
@[simp] theorem Ig(xs:WA):ug (.tuple xs)=false:=rfl
@[simp] theorem JY(xs:WA):ug (.list xs)=false:=rfl
@[simp] theorem JZ(xs:Wx):ug (.dict xs)=false:=rfl
@[simp] theorem rep0{α:Type}(a:α):List.replicate 0 a=[]:=rfl
@[simp] theorem rep1{α:Type}(a:α):List.replicate 1 a=[a]:=rfl
@[simp] theorem rep2{α:Type}(a:α):List.replicate 2 a=[a,a]:=rfl
@[simp] theorem rep3{α:Type}(a:α):List.replicate 3 a=[a,a,a]:=rfl
@[simp] theorem Sf{α:Type}(a:α):List.replicate 4 a=[a,a,a,a]:=rfl
@[simp] theorem Sg{α:Type}(a:α):List.replicate 5 a=[a,a,a,a,a]:=rfl
@[simp] theorem Sh{α:Type}(a:α):List.replicate 6 a=[a,a,a,a,a,a]:=rfl
@[simp] theorem Si{α:Type}(a:α):List.replicate 7 a=[a,a,a,a,a,a,a]:=rfl
@[simp] theorem Sj{α:Type}(a:α):List.replicate 8 a=[a,a,a,a,a,a,a,a]:=rfl
@[simp] theorem Sk{α:Type}(a:α):List.replicate 9 a=[a,a,a,a,a,a,a,a,a]:=rfl
theorem sz(h:n<=16777216):mj n=true:=Tn h
@[simp] theorem nK(ds:WA)(h:Hm)(hz:ds.length<=16777216):lR (ds.map D.dat) h=.ok (.dat (.tuple ds)) h:=by simp[lR,ki,sz hz]
theorem cV(ds:WA)(h:Hm)(hz:ds.length<=16777216):eL (ds.map D.dat) h=.ok (.dat (.list ds)) h:=by simp[eL,ki,sz hz]
@[simp] theorem Ri(h:Hm):lR [] h=.ok (.dat (.tuple [])) h:=nK [] h (by decide)
@[simp] theorem Hk(a:PyData)(h:Hm):lR [.dat a] h=.ok (.dat (.tuple [a])) h:=nK [a] h (by simp)
@[simp] theorem M8(a b:PyData)(h:Hm):lR [.dat a,.dat b] h=.ok (.dat (.tuple [a,b])) h:=nK [a,b] h (by simp)
@[simp] theorem M9(a b c:PyData)(h:Hm):lR [.dat a,.dat b,.dat c] h=.ok (.dat (.tuple [a,b,c])) h:=nK [a,b,c] h (by simp)
@[simp] theorem Rj(h:Hm):eL [] h=.ok (.dat (.list [])) h:=cV [] h (by decide)
@[simp] theorem Na(a:PyData)(h:Hm):eL [.dat a] h=.ok (.dat (.list [a])) h:=cV [a] h (by simp)
@[simp] theorem rJ(a b:PyData)(h:Hm):eL [.dat a,.dat b] h=.ok (.dat (.list [a,b])) h:=cV [a,b] h (by simp)
@[simp] theorem Rk(a b c:PyData)(h:Hm):eL [.dat a,.dat b,.dat c] h=.ok (.dat (.list [a,b,c])) h:=cV [a,b,c] h (by simp)
theorem sN(c:D->Bool)(f:D->D):∀{xs:List D},(∀x∈xs,∃ρ1,g x (List.replicate n none++ρ) h=.ok ρ1 h/\t ρ1 h=.ok (c x) h/\(c x=true->e ρ1 h=.ok (f x) h))->ff n ρ g t e xs h=.ok ((xs.filter c).map f) h
 | [],_=>rfl
 |x::xs,H=>by
  obtain⟨ρ1,h1,h2,h3⟩:=H x (SK ..);have ih:=sN c f λy hy=>H y (SE _ hy);unfold ff;rw[h1];simp;rw[h2];simp
  cases hc:c x with
  |false=>grind
  |true=>
   simp_all
theorem vB(hit:it ρ h=.ok xs h1)(hz:xs.length<=16777216)(c:D->Bool)(f:D->PyData)
 (H:∀x∈xs,∃ρ1,g x (List.replicate n none++ρ) h1=.ok ρ1 h1/\t ρ1 h1=.ok (c x) h1/\(c x=true->e ρ1 h1=.ok (.dat (f x)) h1)):bZ n it g t e ρ h=.ok (.dat (.list ((xs.filter c).map f))) h1:=by
 unfold bZ ag mI;rw[hit];simp[sz hz];rw[sN c _ H];have e1:(List.map (λx=>D.dat (f x)) (List.filter c xs))=((xs.filter c).map f).map D.dat:=by simp
 rw[e1]
 exact cV _ _ (by
  rw[SG]
  exact Sw (S9 _ _) hz)
theorem gN{ds:WA}(hit:it ρ h=.ok (ds.map D.dat) h1)(hz:ds.length<=16777216)(f:PyData->PyData)
 (H:∀x∈ds,∃ρ1,g (.dat x) (List.replicate n none++ρ) h1=.ok ρ1 h1/\e ρ1 h1=.ok (.dat (f x)) h1):bZ n it g cX e ρ h=.ok (.dat (.list (ds.map f))) h1:=by
 have:=vB (n:=n) (t:=cX) (g:=g) (e:=e) hit (by grind) (λ_=>true) (λx=>match x with|.dat d=>f d|_=>.none) (λx hx=>by
  obtain⟨d,hd,rfl⟩:=SU.mp hx
  simp_all)
 rw[this,show _=λ_=>true from rfl,List.filter_eq_self.mpr (λ_ _=>rfl),V9];rfl
theorem dM{ds:WA}(hit:it ρ h=.ok (ds.map D.dat) h1)(hz:ds.length<=16777216)(c:PyData->Bool)(f:PyData->PyData)
 (H:∀x∈ds,∃ρ1,g (.dat x) (List.replicate n none++ρ) h1=.ok ρ1 h1/\t ρ1 h1=.ok (c x) h1/\(c x=true->e ρ1 h1=.ok (.dat (f x)) h1)):bZ n it g t e ρ h=.ok (.dat (.list ((ds.filter c).map f))) h1:=by
 have:=vB (n:=n) (t:=t) (g:=g) (e:=e) hit (by grind) (λx=>match x with|.dat d=>c d|_=>false) (λx=>match x with|.dat d=>f d|_=>.none) (λx hx=>by
  obtain⟨d,hd,rfl⟩:=SU.mp hx
  grind)
 simp[this,List.filter_map,Function.comp_def]
theorem Cf(bs:List Bool)(h:Hm):yr [.dat (.list (bs.map .bool))] h=.ok (.bool (bs.all id)) h:=by simp[yr,EC]
theorem jn(I:Hm->Prop)(f:D->D->Prop):∀{xs:List D} {h:Hm},(∀x∈xs,∀h,I h->∃ρ1 h1 c h2,g x (List.replicate n none++ρ) h=.ok ρ1 h1/\t ρ1 h1=.ok c h2/\((c=false/\I h2)\/(c=true/\∃y h3,e ρ1 h2=.ok y h3/\f x y/\I h3)))->I h ->
  ∃ys zs h',ff n ρ g t e xs h=.ok ys h'/\I h'/\zs.Sublist xs/\PySem.Paired f zs ys
 | [],h,_,a=>⟨[],[],h,rfl,a,.slnil,.nil⟩
 |x::xs,h,H,a=>by
  obtain⟨ρ1,h1,c,h2,e1,e2,k⟩:=H x (SK ..) h a;unfold ff;rw[e1];simp only[R.cK,R.aJ];rw[e2];simp only[R.cK,R.aJ];rcases k with⟨rfl,a2⟩|⟨rfl,y,h3,e3,fy,a3⟩
  ·obtain⟨ys,zs,h',q1,q2,q3,q4⟩:=jn I f (xs:=xs) (λy hy=>H y (SE _ hy)) a2
   grind
  ·obtain⟨ys,zs,h',q1,q2,q3,q4⟩:=jn I f (xs:=xs) (λy hy=>H y (SE _ hy)) a3;refine⟨y::ys,x::zs,h',?_,q2,.cons_cons _ q3,.cons fy q4⟩;simp only[Tg];rw[e3];simp only[R.cK,R.aJ];rw[q1];rfl
mutual
def tp:PyData->Bool
 |.none|.bool _=>true
 |.int i=>decide (i.natAbs<10^30)
 |.str x=>PyData.strOk x
 |.tuple ds=>ij ds
 |.list ds=>ij ds
 |.dict _=>false
def ij:WA->Bool
 | []=>true
 |d::ds=>tp d&&ij ds
end
theorem E4(h:tp (.int i)=true):PyData.showable (.int i)=true/\PyData.intsShort 31 (.int i)=true:=by
 simp only[tp,Td]at h;refine⟨?_,?_⟩
 ·simp[PyData.showable];by_cases z:i.natAbs=0
  ·simp_all
  ·rw[Nat.log2_lt z]
   grind
 ·simp[PyData.intsShort];have e:=PySem.int_text_length_le10 (by decide) h;show(Str.ofString _).length<=31;rw[ofString_length];exact e
mutual
theorem nL:∀{d:PyData},tp d=true->d.showable=true/\d.intsShort 31=true
 |.none,_=>by trivial
 |.bool _,_=>by trivial
 |.int _,h=>E4 h
 |.str x,h=>by trivial
 |.tuple ds,h=>lH h
 |.list ds,h=>lH h
 |.dict _,h=>by trivial
theorem lH:∀{ds:WA},ij ds=true->PyData.showableAll ds=true/\PyData.intsShortAll 31 ds=true
 | [],_=>by trivial
 |d::ds,h=>by simp only[ij,Su]at h;simp only[PyData.showableAll,PyData.intsShortAll,Su];exact⟨⟨(nL h.1).1,(lH h.2).1⟩,(nL h.1).2,(lH h.2).2⟩
end
mutual
theorem vC:∀{d:PyData},tp d=true->d.canLay0=true
 |.none,_=>by rfl
 |.bool _,_=>by rfl
 |.int _,h=>by rfl
 |.str x,h=>by assumption
 |.tuple ds,h=>rK h
 |.list ds,h=>rK h
 |.dict _,h=>by assumption
theorem rK:∀{ds:WA},ij ds=true->PyData.canLayAll0 ds=true
 | [],_=>by rfl
 |d::ds,h=>by simp only[ij,Su]at h;simp only[PyData.canLayAll0,Su];exact⟨vC h.1,rK h.2⟩
end
theorem qm:∀(a b:WA),ij (a++b)=(ij a&&ij b)
 | [],b=>by rfl
 |d::a,b=>by simp[ij,qm a b,Bool.and_assoc]
theorem sO:∀(a b:WA),PyData.weightAll (a++b)=PyData.weightAll a+PyData.weightAll b
 | [],b=>by simp[PyData.weightAll]
 |d::a,b=>by simp[PyData.weightAll,sO a b];omega
theorem sP:∀(a b:WA),PyData.depthAll (a++b)=max (PyData.depthAll a) (PyData.depthAll b)
 | [],b=>by rfl
 |d::a,b=>by simp only[Ui,PyData.depthAll,sP a b];omega
theorem AY:∀(a:WA),a.length<=PyData.weightAll a
 | []=>by simp
 |d::a=>by
  have:=AY a
  grind[PyData.weightAll,List.length_cons]
theorem xP:∀{ds:WA} {d:PyData},ij ds=true->d∈ds->tp d=true
 |e::ds,d,h,m=>by
  simp[ij]at h;rcases Sz.mp m with rfl|m
  ·grind
  ·exact xP h.2 m
theorem AZ:∀{ds:WA},(∀d∈ds,tp d=true)->ij ds=true
 | [],_=>rfl
 |d::ds,h=>by simp[ij];exact⟨h d (SK ..),AZ λe m=>h e (SE _ m)⟩
theorem xQ:∀{ds:WA} {d:PyData},d∈ds->d.depth<=PyData.depthAll ds
 |e::ds,d,m=>by
  simp[PyData.depthAll];rcases Sz.mp m with rfl|m
  ·omega
  ·have:=xQ m;omega
theorem dh:∀{ds:WA} {m:Nat},(∀d∈ds,d.depth<=m)->PyData.depthAll ds<=m
 | [],m,_=>by simp[PyData.depthAll]
 |d::ds,m,h=>by simp[PyData.depthAll];have h1:=h d (SK ..);have h2:=dh λe q=>h e (SE _ q);omega
theorem vD:∀{ds:WA} {d:PyData},d∈ds->d.weight+1<=PyData.weightAll ds
 |e::ds,d,m=>by
  simp[PyData.weightAll];rcases Sz.mp m with rfl|m
  ·omega
  ·have:=vD m;omega
theorem qo:∀{ds:WA} {n:Nat},(∀d∈ds,d.weight<=n)->PyData.weightAll ds<=ds.length*(n+1)
 | [],n,_=>by simp[PyData.weightAll]
 |d::ds,n,h=>by simp[PyData.weightAll,Nat.succ_mul];have h1:=h d (SK ..);have h2:=qo λe q=>h e (SE _ q);omega
structure Ok(n m:Nat)(x:PyData):Prop where
 f:tp x=true
 d:x.depth<=m
 w:x.weight<=n
structure lJ(n m:Nat)(ds:WA):Prop where
 f:ij ds=true
 d:PyData.depthAll ds<=m
 w:PyData.weightAll ds<=n
section
variable {n m n' m':Nat} {d x:PyData} {ds a b:WA}
theorem lJ.tup(o:lJ n m ds):Ok n (m+1) (.tuple ds):=⟨by simpa [tp]using o.f,by simp[PyData.depth];have:=o.d;omega,o.w⟩
theorem lJ.lst(o:lJ n m ds):Ok n (m+1) (.list ds):=⟨by simpa [tp]using o.f,by simp[PyData.depth];have:=o.d;omega,o.w⟩
theorem Ok.items(o:Ok n m (.tuple ds)):lJ n (m-1) ds:=⟨by simpa [tp]using o.f,by have:=o.d;grind[PyData.depth],by have:=o.w;grind[PyData.weight]⟩
theorem lJ.append(x:lJ n1 m a)(y:lJ n2 m b):lJ (n1+n2) m (a++b):=
 ⟨by rw[qm,x.f,y.f];rfl,by rw[sP];exact Nat.max_le.mpr ⟨x.d,y.d⟩,by rw[sO];exact Nat.add_le_add x.w y.w⟩
theorem lJ.one(x:Ok n m d):lJ (n+1) m [d]:=⟨by simp[ij,x.f],by simp[PyData.depthAll];exact x.d,by simp[PyData.weightAll];exact x.w⟩
theorem lJ.cons(x:Ok n m d)(y:lJ n' m ds):lJ (n+1+n') m (d::ds):=(lJ.one x).append y
theorem lJ.mono(x:lJ n m a)(h1:n<=n')(h2:m<=m'):lJ n' m' a:=⟨x.f,Sw x.d h2,Sw x.w h1⟩
theorem Ok.mono(x:Ok n m d)(h1:n<=n')(h2:m<=m'):Ok n' m' d:=⟨x.f,Sw x.d h2,Sw x.w h1⟩
theorem lJ.mem(o:lJ n m ds)(h:d∈ds):Ok n m d:=⟨xP o.f h,Sw (xQ h) o.d,by have:=vD h;have:=o.w;omega⟩
theorem lJ.len(o:lJ n m ds):ds.length<=n:=Sw (AY ds) o.w
theorem lJ.of(h:∀d∈ds,Ok n m d):lJ (ds.length*(n+1)) m ds:=⟨AZ λd q=>(h d q).f,dh λd q=>(h d q).d,qo λd q=>(h d q).w⟩
theorem Ok.Rm(o:Ok n m d):noDict d=true:=by have:=PyData.hasDict_of_canLay d (vC o.f);simp[noDict,this]
theorem Ok.shown(o:Ok n m d)(h:n<=10000):d.shown.length<=16777216:=by
 have h1:=PyData.shown_le 31 (by decide) d (PyData.leavesShort_of_canLay0 31 d (vC o.f) (nL o.f).2);have h2:=o.w
 grind
theorem Ok.rep(o:Ok n m d)(h:n<=10000)(h2:m<=40):zO d=true:=by have:=o.d;simp[zO];exact⟨⟨⟨(nL o.f).1,o.Rm⟩,by omega⟩,sz (o.shown h)⟩
theorem Ok.str(o:Ok n m (.str s)):s.length<=n:=o.w
end
theorem qp(o:Ok n m d)(h:Hm)(hn:n<=10000)(hm:m<=40):gB [.dat d] h=.ok (.rpr d.shown) h:=by simp[gB,o.rep hn hm]
theorem Hl(ds:WA)(z:Nat):cut ds (some (z:Int)) none=ds.drop z:=by
 simp only[cut,fZ];rw[if_neg (by omega),Uz];by_cases h:z<=ds.length
 ·rw[Nat.min_eq_left h,Vc (by simp)]
 ·rw[Nat.min_eq_right (by omega),T5 (Ss _),T5 (by omega)];simp
theorem Hn(ds:WA):cut ds (some 1) none=ds.drop 1:=Hl ds 1
noncomputable def az(c:Nat):Bool:=decide (97<=c)&&decide (c<=122)
noncomputable def isName:PyData->Bool
 |.str x=>decide (1<=x.length)&&decide (x.length<=6)&&x.cps.toList.all az
 |_=>false
theorem RW(a c:Nat):decide ([a]<[c])=decide (a<c):=by
 rw[decide_eq_decide];constructor
 ·intro h
  cases h with
  |rel h=>exact h
  |cons h=>cases h
 ·intro h;exact .rel h
theorem Ro:("a" : Str).cps.toList=[97]:=by rfl
theorem Rp:("z" : Str).cps.toList=[122]:=by rfl
theorem Sl(c:Nat):(!oB (⟨#[c]⟩:Str) ("a" : Str))=decide (97<=c):=by
 unfold oB;rw[Ro,show(_:Str).cps.toList=[c]from rfl,RW]
 grind
theorem ltZ(c:Nat):(!oB ("z" : Str) (⟨#[c]⟩:Str))=decide (c<=122):=by
 unfold oB;rw[Rp,show(_:Str).cps.toList=[c]from rfl,RW]
 grind
theorem Cg(x:Str):signs x=(je x).map D.dat:=by simp[signs,je]
theorem Ci(x:Str):(je x).length=x.length:=by simp[je];rfl
theorem Cj(x:Str)(p:Nat->Bool)(q:PyData->Bool)(h:∀c,q (.str ⟨#[c]⟩)=p c):(je x).all q=x.cps.toList.all p:=by
 rw[Uc,SR,SR];constructor
 ·intro H c hc;obtain⟨i,hi,e⟩:=UP.mp hc
  have:=H (.str ⟨#[c]⟩) (by
   simp only[je,SU,TK];refine⟨i,by simpa using hi,?_⟩;have hi':i<x.cps.size:=by simpa using hi
   simp[Array.getD,hi']
   simpa using e)
  rw[h]at this;exact this
 ·intro H d hd;simp only[je,SU,TK]at hd;obtain⟨i,hi,rfl⟩:=hd;rw[h];apply H;have:x.cps.getD i 0=x.cps[i]:=by simp[Array.getD,hi]
  rw[this];simp
theorem zf(i j:Int)(h:Hm):oLe (.int i) (.int j) h=.ok (.bool (decide (i<=j))) h:=rfl
theorem DH(x y:Str)(h:Hm):oLe (.str x) (.str y) h=.ok (.bool (!oB y x)) h:=rfl
theorem vE(h:Hm)(hz:x.length<=16777216):gb [.str x] h=.ok (.int x.length) h:=by simp[gb,sz hz]
@[simp] theorem O0(ds:WA)(h:Hm):gb [.dat (.tuple ds)] h=.ok (.int ds.length) h:=rfl
@[simp] theorem O6(ds:WA)(h:Hm):gb [.dat (.list ds)] h=.ok (.int ds.length) h:=rfl
noncomputable def iE{α:Type}(ds:List α)(f:α->Bool):Bool:=ds.all f
noncomputable def Rq{α:Type}(ds:List α)(f:α->Bool):Bool:=ds.any f
theorem gw:iE ds f=true<->∀x∈ds,f x=true:=SR
theorem kB:iE (a::ds) f=true<->f a=true/\iE ds f=true:=by simp[iE]
@[simp] theorem O7(f:α->Bool):iE [] f=true:=rfl
@[simp] theorem O8(f:α->Bool):Rq [] f=false:=rfl
theorem ni(ds:List α)(f:α->Bool)(h:Hm):yr [.dat (.list (ds.map λx=>.bool (f x)))] h=.ok (.bool (iE ds f)) h:=by
 unfold iE;have e1:ds.map (λx=>PyData.bool (f x))=(ds.map f).map .bool:=by simp
 rw[e1,Cf]
 simp_all
theorem Ck(o:Ok n m d)(hn:n<=10000)(h:Hm):ku [.dat d] h=.ok (.bool (isName d)) h:=by
 unfold ku xn
 cases d with
 |str x=>
  have hx:x.length<=16777216:=Sw o.str (by omega)
  have key:bZ 1 (aN (ae 0)) (aq 0) cX (oK oLe oLe (aj (.str "a")) (ae 0) (aj (.str "z"))) [some (.str x)] h=.ok (.dat (.list ((je x).map λd=>.bool (match d with|.str y=>!oB y "a" && !oB "z" y|_=>false)))) h:=by
   refine gN (by simp[Cg]) (by rw[Ci];exact hx) _ λy hy=>?_;simp only[je,SU,TK]at hy;obtain⟨i,hi,rfl⟩:=hy;generalize (⟨#[x.cps.getD i 0]⟩:Str)=y;refine⟨_,rfl,?_⟩;by_cases z:oB y "a" = true
   ·simp[DH,z]
   ·simp[DH,z]
  by_cases h1:1<=(x.length:Int)
  ·by_cases h2:(x.length:Int)<=6
   ·simp[vE h hx,zf,h1,h2,key,ni];unfold iE;rw[Cj x az _ (λc=>by simp only[az,Sl,ltZ])];simp[isName,show 1<=x.length by omega,show x.length<=6 by omega]
   ·simp[vE h hx,zf,h1,h2,isName,show ¬ x.length<=6 by omega]
  ·simp[vE h hx,zf,h1,isName,show ¬ 1<=x.length by omega]
 |_=>simp[isName]
noncomputable def wL(ds:WA):Bool:=iE (ds.zip ds.tail) λp=>ltB p.1 p.2
structure NU(ds:WA):Prop where
 nd:∀d∈ds,noDict d=true/\d.depth<=40
 lt:∀d∈ds,∀e∈ds,cx d e=some (ltB d e)
theorem Nb(h1:noDict d=true)(h2:noDict e=true)(h3:d.depth<=40)(h4:cx d e=some (ltB d e))(h:Hm):oLt (.dat d) (.dat e) h=.ok (.bool (ltB d e)) h:=by simp[oLt,h1,h2,h4,show min d.depth e.depth<=40 by omega]
theorem tL(i j:Int)(h:Hm):oLt (.int i) (.int j) h=.ok (.bool (decide (i<j))) h:=by rfl
theorem Ho(h:∀d∈ds,∃x,d=.str x):NU ds:=⟨λd m=>by obtain⟨x,rfl⟩:=h d m;simp[noDict,PyData.hasDict,PyData.depth],λd m e m'=>by
 obtain⟨x,rfl⟩:=h d m
 grind[ltB,cx]⟩
theorem DJ:∀(xs ys:WA),yo xs ys=((xs.zip ys).map λp=>PyData.tuple [p.1,p.2]).map D.dat
 | [],_=>by rfl
 |_::_,[]=>by rfl
 |x::xs,y::ys=>by simp[yo,DJ xs ys]
theorem J0{xs:WA}(h:p∈xs.zip xs.tail):p.1∈xs/\p.2∈xs:=by have:=V3 h;exact⟨this.1,List.mem_of_mem_tail this.2⟩
theorem qq(c:NU ds)(hz:ds.length<=16777216)(h:Hm):hZ [.dat (.tuple ds)] h=.ok (.bool (wL ds)) h:=by
 unfold hZ rY
 have key:bZ 2 (CW (aa (ae 0) (aa (Pu (ae 0) (n0 (aj (.int 1))) CZ) ah))) (i7 (bP (aq 0) (bP (aq 1) iI))) cX (ai oLt (ae 0) (ae 1)) [some (.dat (.tuple ds))] h=.ok (.dat (.list ((ds.zip ds.tail).map λp=>.bool (ltB p.1 p.2)))) h:=by
  rw[gN (h1:=h) (ds:=(ds.zip ds.tail).map λp=>PyData.tuple [p.1,p.2]) (by simp[Hn,DJ]) (by grind) (λd=>.bool (match d with|.tuple [a,b]=>ltB a b|_=>false)) λy hy=>?_]
  ·rw[V9];rfl
  ·obtain⟨p,hp,rfl⟩:=SU.mp hy;obtain⟨m1,m2⟩:=J0 hp;refine⟨_,rfl,?_⟩;simp[Nb (c.nd _ m1).1 (c.nd _ m2).1 (c.nd _ m1).2 (c.lt _ m1 _ m2)]
 simp[key,ni,wL]
mutual
def cm:PyData->PyData->Bool
 |.str _,.str _=>true
 |.int _,.int _=>true
 |.tuple xs,.tuple ys=>Hq xs ys
 |_,_=>false
def Hq:WA->WA->Bool
 |x::xs,y::ys=>cm x y&&Hq xs ys
 |_,_=>true
end
mutual
theorem Cm:∀{d e:PyData},cm d e=true->(cx d e).isSome=true
 |.str _,e,h=>by cases e<;>simp_all[cm,cx]
 |.int _,e,h=>by cases e<;>simp_all[cm,cx]
 |.tuple xs,e,h=>by
  cases e with
  |tuple ys=>simp only[cx];exact DK h
  |_=>assumption
 |.none,_,h=>by assumption
 |.bool _,_,h=>by assumption
 |.list _,_,h=>by assumption
 |.dict _,_,h=>by assumption
theorem DK:∀{xs ys:WA},Hq xs ys=true->(dG xs ys).isSome=true
 | [],[],_=>by rfl
 | [],_::_,_=>by rfl
 |_::_,[],_=>by rfl
 |x::xs,y::ys,h=>by
  simp only[Hq,Su]at h;unfold dG;split
  ·exact DK h.2
  ·exact Cm h.1
end
theorem J1(h:cm d e=true):cx d e=some (ltB d e):=by
 have:=Cm h;unfold ltB
 cases q:cx d e with
 |none=>grind
 |some b=>rfl
noncomputable def nj:PyData->Bool
 |.str _=>true
 |_=>false
theorem et(h:nj d=true):∃x,d=.str x:=by cases d<;>simp_all[nj]
theorem vF:∀{xs ys:WA},iE xs nj=true->iE ys nj=true->Hq xs ys=true
 | [],_,_,_=>by rfl
 |_::_,[],_,_=>by rfl
 |x::xs,y::ys,h,k=>by have h:=kB.mp h;have k:=kB.mp k;obtain⟨a,rfl⟩:=et h.1;obtain⟨b,rfl⟩:=et k.1;simp[Hq,cm,vF h.2 k.2]
theorem NU.of(o:lJ n m ds)(hm:m<=40)(h:∀d∈ds,∀e∈ds,cm d e=true):NU ds:=⟨λd q=>⟨(o.mem q).Rm,by have:=(o.mem q).d;omega⟩,λd q e r=>J1 (h d q e r)⟩
noncomputable def O9(ns:WA)(d:PyData):Bool:=ns.any λy=>PyData.eqv y d
theorem Hr(o:Ok n m d):∀{ns:WA},iE ns nj=true->F6 d ns=some (O9 ns d)
 | [],_=>rfl
 |y::ns,h=>by
  have h:=kB.mp h;obtain⟨x,rfl⟩:=et h.1;have ih:=Hr o h.2
  have e:EB (.str x) d=some (PyData.eqv (.str x) d):=by
   have hd  := o.Rm;unfold EB;split
   ·rfl
   ·grind
   grind[eqQ,noDict,PyData.hasDict,PyData.depth]
  simp[F6,e,ih,O9]
theorem Hs(o:Ok n m d)(h:iE ns nj=true)(hm:Hm):qz (.dat d) (.dat (.tuple ns)) hm=.ok (.bool (O9 ns d)) hm:=by simp[qz,findIn,jz,pf,Hr o h]
theorem DL(h:iE ns nj=true):O9 ns d=true<->d∈ns:=by
 simp[O9];constructor
 ·rintro⟨y,hy,e⟩;obtain⟨x,rfl⟩:=et (gw.mp h y hy);cases d<;>simp[PyData.eqv]at e
  grind
 ·intro q;obtain⟨x,rfl⟩:=et (gw.mp h d q)
  grind[PyData.eqv]
theorem Cn(h:isName d=true):nj d=true:=by cases d<;>simp_all[isName,nj]
theorem Co(h:iE ds isName=true):iE ds nj=true:=gw.mpr λd m=>Cn (gw.mp h d m)
theorem Ht(h:iE ds nj=true):∀d∈ds,∃x,d=.str x:=λd m=>et (gw.mp h d m)
noncomputable def jo:PyData->Bool
 |.tuple ds=>decide (ds.length<=12)&&iE ds isName&&wL ds
 |_=>false
theorem zg(o:Ok n m d)(hn:n<=10000)(h:Hm):jB [.dat d] h=.ok (.bool (jo d)) h:=by
 unfold jB rZ
 cases d with
 |tuple ds=>
  have hl:=o.items.len;have key:=gN (n:=1) (it:=aN (ae 0)) (g:=aq 0) (e:=ag ku (aa (ae 0) ah)) (ρ:=[some (.dat (.tuple ds))]) (h:=h) (h1:=h) (ds:=ds) (by simp) (by omega) (λx=>.bool (isName x)) (λx hx=>⟨_,rfl,by simp[Ck (o.items.mem hx) hn]⟩);by_cases h1:ds.length<=12
  ·by_cases h2:iE ds isName=true
   ·have:=qq (Ho (Ht (Co h2))) (by omega) h;simp[key,ni,h1,show ¬ (12:Int)<ds.length by omega,h2,this,jo]
   ·simp[key,ni,h1,show ¬ (12:Int)<ds.length by omega,h2,jo]
  ·simp[h1,show(12:Int)<ds.length by omega,jo]
 |_=>simp[jo]
theorem Ka(i j:Int)(h:Hm):oEq (.int i) (.int j) h=.ok (.bool (i==j)) h:=by rfl
@[simp] theorem P8(ds:WA)(i:Int)(h:Hm):cn (.dat (.tuple ds)) (.int i) h=match ox ds i with|some d=>.ok (.dat d) h|none=>.bad:=rfl
@[simp] theorem Kb(ds:WA)(i:Int)(h:Hm):cn (.dat (.list ds)) (.int i) h=match ox ds i with|some d=>.ok (.dat d) h|none=>.bad:=rfl
@[simp] theorem Pa(a:α)(r:List α):ox (a::r) 0=some a:=by simp[ox,wU]
theorem tw{i:Nat}{a:α}(h:xs[i]?=some a):ox xs (i:Int)=some a:=by obtain⟨hi,e⟩:=SJ.mp h;simp[ox,wU,hi,e]
@[simp] theorem RX(a b:α)(r:List α):ox (a::b::r) 1=some b:=tw rfl
noncomputable def Wf(h:Hm):Prop:=∀o∈h,MO.below h.length o=true
theorem Wf.set(w:Wf h)(b:MO.below h.length o=true):Wf (h.set i o):=λx hx=>by
 rw[List.length_set];rcases List.mem_or_eq_of_mem_set hx with m|rfl
 ·exact w x m
 grind
theorem D.lK(h:n<=m)(b:D.below n d=true):D.below m d=true:=by cases d<;>simp_all[D.below];omega
theorem MO.lK(h:n<=m)(b:MO.below n o=true):MO.below m o=true:=by
 cases o with
 |lst xs=>simp[MO.below]at b ⊢;exact λd q=>D.lK h (b d q)
 |jt t kvs=>rfl
 |ins C fs=>simp only[MO.below,SR]at b ⊢;exact λd q=>D.lK h (b d q)
 |tab P q=>rfl
theorem Wf.push(w:Wf h)(b:MO.below (h.length+1) o=true):Wf (h++[o]):=λx hx=>by
 rw[SN,List.length_singleton];rcases SD.mp hx with m|m
 ·exact MO.lK (Uw _) (w x m)
 grind
theorem Kc(ns:List Int)(k:Nat)(h:Hm):∃z:Int,fT [.scr ns,.int k] h=.ok (.int z) h:=by
 unfold fT su;by_cases hk:k<ns.length
 ·exact⟨ns[k],by simp[gb,tL,hk,cn,jz,wc,tw _]⟩
 simp[gb,tL,hk]
@[simp] theorem Pb(i j:Int)(h:Hm):dA (.int i) (.int j) h=.ok (.int (i+j)) h:=rfl
theorem tM{k:Nat}(h:k<xs.length):∃x,ox xs (k:Int)=some x/\x∈xs:=⟨xs[k],tw (SH h),Ws h⟩
theorem eA(h:Hm)(hz:xs.length+ys.length<=16777216):dA (.dat (.list xs)) (.dat (.list ys)) h=.ok (.dat (.list (xs++ys))) h:=by simp[dA,sz hz]
theorem Hu(h:Hm)(hz:xs.length+ys.length<=16777216):dA (.dat (.tuple xs)) (.dat (.tuple ys)) h=.ok (.dat (.tuple (xs++ys))) h:=by simp[dA,sz hz]
theorem zh:∀{ds:WA},ds.Pairwise (λa b=>ltB a b=true)->wL ds=true
 | [],_=>rfl
 | [_],_=>rfl
 |a::b::r,h=>by rw[Tq]at h;have ih:=zh h.2;exact kB.mpr ⟨h.1 b (by simp),ih⟩
theorem E5(c:dU ds=true)(t:ax ds=true)(nd:ds.Nodup):wL (bY ltB ds)=true:=by
 have p:=bG ltB ds;have u:=pv (gF c t);refine zh ?_;refine VL.mpr λ{a b} s=>?_;have both:=VL.mp u s;have ha:=p.mem_iff.mp (s.subset (by simp:a∈[a,b]));have hb:=p.mem_iff.mp (s.subset (by simp:b∈[a,b]));rcases pq c t ha hb both with q|q
 ·exact q
 grind
theorem Nc(c:dU ds=true)(t:ax ds=true)(hx:x∈ds)(hy:y∈ds)(hz:z∈ds)(h:ltB x y=true)(k:ltB y z=true):ltB x z=true:=by
 have h1:=uk c t hx hy h;have h2:=uk c t hy hz k;rcases pq c t hx hz (C5 c t hx hy hz h1 h2)with q|q
 ·exact q
 grind
theorem Cp(c:dU ds=true)(t:ax ds=true):∀{es:WA},(∀e∈es,e∈ds)->wL es=true->es.Pairwise λa b=>ltB a b=true
 | [],_,_=>.nil
 | [_],_,_=>by simp
 |a::b::r,s,h=>by
  unfold wL at h;simp at h;have h:=kB.mp h;have ih:=Cp c t (λe m=>s e (SE _ m)) (by grind[wL]);refine Tq.mpr ⟨λd m=>?_,ih⟩;rcases Sz.mp m with rfl|m'
  ·grind
  ·exact Nc c t (s a (by simp)) (s b (by simp)) (s d (by grind)) h.1 ((Tq.mp ih).1 d m')
namespace Nm
variable {c:Nat} {ns:WA}
end Nm
theorem nk(h:nj d=true):aG d=true:=by cases d<;>simp_all[nj,aG]
theorem vG(h:nj d=true):av d=true:=by cases d<;>simp_all[nj,av]
theorem xR(h:∀a∈ds,∀b∈ds,cm a b=true):dU ds=true:=SR.mpr λa ha=>SR.mpr λb hb=>Cm (h a ha b hb)
end Ml
namespace Ml
open PySem
theorem xS:∀{zs ys:List D},PySem.Paired (λx y=>y=x) zs ys->ys=zs
 |_,_,.nil=>rfl
 |_,_,.cons rfl r=>by rw[xS r]
theorem zi(s:zs.Sublist (ns.map D.dat)):∃ls:WA,zs=ls.map D.dat/\ls.Sublist ns:=by
 grind
theorem nM(e:a ρ h=.ok (.nx ρ1) h1):bj a b ρ h=b ρ1 h1:=by simp_all
theorem ao(ha:a ρ h=.ok x h1)(hb:b ρ h1=.ok y h2)(e:f x y h2=r):ai f a b ρ h=r:=by
 simp_all
theorem ak(he:e ρ h=.ok x h1)(ha:a ρ h1=.ok xs h2):aa e a ρ h=.ok (x::xs) h2:=by
 simp_all
theorem bz(ha:a ρ h=.ok xs h1):ag f a ρ h=f xs h1:=by simp_all
theorem tN(he:e ρ h=.ok x h1):bU i e ρ h=.ok (.nx (ρ.set i (some x))) h1:=by simp_all
section
variable {t u:MT} {a b:MS} {m:ME} {ρ:Fm} {h h1 h2:Hm} {x:D} {c d:Bool}
theorem bA(e:m ρ h=.ok (.bool c) h1):aO m ρ h=.ok c h1:=by simp_all
theorem xT(e:m ρ h=.ok x h1)(k:Ml.truth x h1=some c):cy m ρ h=.ok c h1:=by simp only[cy,e,R.aJ,k]
theorem qr(e:t ρ h=.ok c h1):i6 t ρ h=.ok (!c) h1:=by simp_all
theorem Nd(e:t ρ h=.ok true h1):o3 t u ρ h=u ρ h1:=by simp_all
theorem Nf(e:t ρ h=.ok false h1):o3 t u ρ h=.ok false h1:=by simp_all
theorem Lj(e:t ρ h=.ok true h1):nY t a b ρ h=a ρ h1:=by simp_all
theorem Lk(e:t ρ h=.ok false h1):nY t a b ρ h=b ρ h1:=by simp_all
theorem fN(e:it ρ h=.ok xs h1)(k:bX g a xs ρ h1=r):nQ it g a ρ h=r:=by simp_all
theorem jQ(e:m ρ h=.ok (.dat (.list ds)) h1):aN m ρ h=.ok (ds.map D.dat) h1:=by simp_all
theorem cv(e:m ρ h=.ok (.dat (.tuple ds)) h1):aN m ρ h=.ok (ds.map D.dat) h1:=by simp_all
theorem zj(e:m ρ h=.ok x h1):cC m ρ h=.ok (.rt x) h1:=by simp_all
end
theorem E6(e:a ρ h=.ok [.dat (.int j)] h1)(q:(-(2^62):Int)<=j/\j<2^62):rQ a ρ h=.ok (nums 0 j.toNat) h1:=by
 simp_all
theorem A0(e:a ρ h=.ok [.dat (.int (n:Int))] h1)(hn:n<1000000):rQ a ρ h=.ok (nums 0 n) h1:=by
 have:=E6 e (by omega)
 rwa [Uz]at this
noncomputable abbrev Hv(d:PyData):Prop:=isName d=true
noncomputable abbrev E7(p:PyData):Prop:=∃a b,Hv a/\Hv b/\p=.tuple [a,b]
theorem fu(h:Hv x):nj x=true:=by
 cases x with
 |str y=>rfl
 |_=>assumption
theorem Hw(h:Hv x):Ok 6 0 x:=by
 obtain⟨y,rfl⟩:=et (fu h);simp only[Hv,isName,Su,Td]at h;refine⟨?_,by simp[PyData.depth],h.1.2⟩;simp only[tp,PyData.strOk];rw[Array.all_eq_true_iff_forall_mem];intro x hx;have:=SR.mp h.2 x (by grind)
 grind[az]
theorem lL(h:E7 p):aG p=true/\av p=true/\iu p=true/\iy p=true/\p.depth<=1/\Ok 14 1 p:=by obtain⟨a,b,ha,hb,rfl⟩:=h;have oa:=Hw ha;have ob:=Hw hb;have ok:Ok 14 1 _:=((lJ.cons oa (lJ.one ob)).mono (by omega) (Ss _)).tup;exact⟨by simp[aG,bE,nk (fu ha),nk (fu hb)],by simp[av,ax,vG (fu ha),vG (fu hb)],rfl,rfl,ok.d,ok⟩
structure vH(U:PyData->Prop):Prop where
 c:∀a b,U a->U b->cm a b=true
 st:∀d,U d->aG d=true
 key:(∀d,U d->iu d=true)\/(∀d,U d->iw d=true)
 typ:(∀d,U d->uj d=true)\/(∀d,U d->iy d=true)
 dep:∀d,U d->d.depth<=1
theorem mi:vH Hv:=⟨λa b ha hb=>by
  obtain⟨x,rfl⟩:=et (fu ha);obtain⟨y,rfl⟩:=et (fu hb)
  rfl,λd m=>nk (fu m),.inr λd m=>by obtain⟨x,rfl⟩:=et (fu m);rfl,.inl λd m=>by obtain⟨x,rfl⟩:=et (fu m);rfl,λd m=>by obtain⟨x,rfl⟩:=et (fu m);simp[PyData.depth]⟩
theorem bQ:vH E7:=⟨λp q hp hq=>by
  obtain⟨a,b,ha,hb,rfl⟩:=hp;obtain⟨c,d,hc,hd,rfl⟩:=hq
  exact vF (by simp[iE,fu ha,fu hb]) (by simp[iE,fu hc,fu hd]),λd m=>(lL m).1,.inl λd m=>(lL m).2.2.1,.inr λd m=>(lL m).2.2.2.1,λd m=>(lL m).2.2.2.2.1⟩
section
variable {U:PyData->Prop} {xs ys:WA}
theorem vH.t(u:vH U)(h:U d):av d=true:=bf (u.st d h)
theorem vH.wZ(u:vH U)(h:∀d∈xs,U d):ax xs=true:=hU λd m=>u.t (h d m)
theorem vH.cmp(u:vH U)(h:∀d∈xs,U d):dU xs=true:=xR λa ha b hb=>u.c a b (h a ha) (h b hb)
structure Rw(U:PyData->Prop)(xs:WA):Prop where
 sub:∀d∈xs,U d
 ris:xs.Pairwise λa b=>ltB a b=true
theorem Hx(t:av a=true)(h:ltB a b=true):a≠b:=λe=>by
 have:=C3 t
 simp_all[ltB]
theorem fG(u:vH U)(r:Rw U xs):xs.Nodup:=Uu (λ{a b} ha hb l=>Hx (u.t (r.sub a ha)) l) r.ris
theorem Ll(u:vH U)(r:Rw U xs):Up ltB xs:=Uu (λ{a b} ha hb l=>uk (u.cmp r.sub) (u.wZ r.sub) ha hb l) r.ris
theorem DM(r:Rw U xs):wL xs=true:=zh r.ris
theorem vI(u:vH U)(r:Rw U xs)(q:Rw U ys)(h:∀d,d∈xs<->d∈ys):xs=ys:=
 qM (gF (u.cmp r.sub) (u.wZ r.sub)) ((UE (fG u r) (fG u q)).mpr h) (Ll u r) (Ll u q)
theorem tO(u:vH U)(h:∀d∈xs,U d)(nd:xs.Nodup):Rw U (bY ltB xs):=
 ⟨λd m=>h d ((bG _ _).mem_iff.mp m),Cp (u.cmp h) (u.wZ h) (λd m=>(bG _ _).mem_iff.mp m) (E5 (u.cmp h) (u.wZ h) nd)⟩
theorem Pd(u:vH U)(h:∀d∈xs,U d)(q:wL xs=true):Rw U xs:=⟨h,Cp (u.cmp h) (u.wZ h) (λ_ m=>m) q⟩
theorem ow:∀{ds:WA},(∀d∈ds,aG d=true)->bE ds=true
 | [],_=>by rfl
 |d::ds,h=>by simp[bE,h d _,ow (ds:=ds) λe m=>h e (by simp[m])]
theorem vH.set(u:vH U)(h:∀d∈xs,U d)(l:xs.length<=120):setOk xs=true:=by
 have h1:(xs.all iu || xs.all iw)=true:=by
  rcases u.key with k|k
  ·simp_all
  simp_all
 have h2  := ow λd m=>u.st d (h d m);have h3:PyData.depthAll xs<=8:=Sw (dh λd m=>u.dep d (h d m)) (by decide)
 simp_all[setOk]
theorem vH.Pe(u:vH U)(h:∀d∈xs,U d)(l:xs.length<64):cL xs=true:=by
 have h1:(xs.all uj || xs.all iy)=true:=by
  rcases u.typ with k|k
  ·simp_all
  simp_all
 have h3:PyData.depthAll xs<=20:=Sw (dh λd m=>u.dep d (h d m)) (by decide)
 simp_all[cL,u.wZ,u.cmp]
noncomputable def un(xs ys:WA):WA:=bY ltB (Ia xs ys)
theorem Hy(u:vH U)(r:∀d∈xs,U d)(q:∀d∈ys,U d):(∀d,d∈Ia xs ys<->d∈xs\/d∈ys)/\(Ia xs ys).Nodup/\(Ia xs ys).length<=xs.length+ys.length:=by
 have hs:∀d∈xs++ys,aG d=true:=λd m=>by
  rcases SD.mp m with z|z
  ·exact u.st d (r d z)
  ·exact u.st d (q d z)
 have hm:∀d,d∈Ia xs ys<->d∈xs\/d∈ys:=λd=>by unfold Ia;rw[fR hs,SD]
 have nd:(Ia xs ys).Nodup:=fS hs;have:=gJ nd λd m=>SD.mpr ((hm d).mp m)
 simp_all
theorem Lm(u:vH U)(r:∀d∈xs,U d)(q:∀d∈ys,U d):Rw U (un xs ys)/\(∀d,d∈un xs ys<->d∈xs\/d∈ys)/\(un xs ys).length<=xs.length+ys.length:=by obtain⟨h1,h2,h3⟩:=Hy u r q;refine⟨tO u (λd m=>((h1 d).mp m).elim (r d) (q d)) h2,λd=>(bG _ _).mem_iff.trans (h1 d),?_⟩;unfold un;rw[(bG _ _).length_eq];exact h3
theorem E8(u:vH U)(r:∀d∈xs,U d)(q:∀d∈ys,U d)(l:xs.length+ys.length<64)(h:Hm):fB [.dat (.list (xs++ys))] h=.ok (.dat (.list (un xs ys))) h:=by obtain⟨h1,h2,h3⟩:=Hy u r q;have s2  := u.set (λd m=>(SD.mp m).elim (r d) (q d)) (by grind);have s3:cL (fg _)=true:=u.Pe (xs:=Ia xs ys) (λd m=>((h1 d).mp m).elim (r d) (q d)) (by omega);simp[fB,jD,listOf,s2,s3,un,Ia]
end
structure Nr(ns:WA):Prop extends Rw Hv ns where
 le:ns.length<=12
structure Wb(k:Nat)(ns ss:WA):Prop where
 nr:Nr ns
 sr:Rw E7 ss
 cl:∀a b,.tuple [a,b]∈ss->a∈ns/\b∈ns
 le:ss.length<=k
section
variable {k:Nat} {ns ss:WA}
theorem Wb.sd(w:Wb k ns ss):iE ns nj=true:=gw.mpr λd m=>fu (w.nr.sub d m)
theorem Wb.Rr(w:Wb k ns ss)(h:a∈ns):Ok 6 0 a:=Hw (w.nr.sub a h)
theorem Wb.Py(w:Wb k ns ss):Ok 84 1 (.tuple ns):=by have:=w.nr.le;exact((lJ.of λd m=>w.Rr m).mono (by omega) (Ss _)).tup
theorem Wb.Rt(w:Wb k ns ss)(hk:k<=600):lJ 9000 1 ss:=by have:=w.le;exact(lJ.of λd m=>(lL (w.sr.sub d m)).2.2.2.2.2).mono (by omega) (Ss _)
theorem Wb.names(w:Wb k ns ss):jo (.tuple ns)=true:=by have h1  := gw.mpr λd m=>w.nr.sub d m;simp[jo,w.nr.le,DM w.nr.toRw,h1]
theorem Wb.get(w:Wb k ns ss){p:PyData}(h:p∈ss):∃a b,p=.tuple [a,b]/\a∈ns/\b∈ns:=by obtain⟨a,b,_,_,rfl⟩:=w.sr.sub p h;exact⟨a,b,rfl,w.cl a b h⟩
theorem Pf(h:Hm):kI (D.int 2) (D.dat (.int 2)) h=.ok (.bool false) h:=by rfl
theorem E9(w:Wb k ns ss)(ha:a∈ns)(hb:b∈ns)(h:Hm):ia [.dat (.tuple [a,b]),.dat (.tuple ns)] h=.ok (.bool true) h:=by unfold ia si;simp[Pf,Hs (w.Rr ha) w.sd,Hs (w.Rr hb) w.sd,(DL w.sd).mpr ha,(DL w.sd).mpr hb]
theorem vJ(w:Wb k ns ss)(hk:k<=600)(h:Hm):dy [.dat (.tuple ss),.dat (.tuple ns)] h=.ok (.bool true) h:=by
 unfold dy n9;have hl:=w.le
 have key:=gN (n:=1) (it:=aN (ae 0)) (g:=aq 0) (e:=ag ia (aa (ae 0) (aa (ae 2) ah))) (ρ:=[some (.dat (.tuple ss)),some (.dat (.tuple ns))]) (h:=h) (h1:=h) (ds:=ss) (by simp) (by omega) (λx=>.bool ((λ_=>true) x)) (λx hx=>⟨_,rfl,by
  obtain⟨a,b,rfl,ha,hb⟩:=w.get hx
  simp[E9 w ha hb]⟩)
 have al:iE ss (λ_=>true)=true:=gw.mpr λ_ _=>rfl;have cp:NU ss:=NU.of (w.Rt hk) (by decide) λd hd e he=>by obtain⟨a,b,rfl,ha,hb⟩:=w.get hd;obtain⟨a',b',rfl,ha',hb'⟩:=w.get he;have:=gw.mp w.sd;simp only[cm];exact vF (by simp[iE,this a ha,this b hb]) (by simp[iE,this a' ha',this b' hb'])
 have ir:=qq cp (by omega) h;rw[DM w.sr]at ir;have bm:=ni ss (λ_=>true) h
 simp_all
theorem Ng(w:Wb k ns ss)(hk:k<=600)(h:Hm):pQ [.dat (.tuple [.tuple ns,.tuple ss])] h=.ok (.bool true) h:=by have e1:=zg w.Py (by decide) h;rw[w.names]at e1;unfold pQ Ad;simp[Pf,e1,vJ w hk h]
theorem Nh(w:Wb k ns ss)(hk:k<=600)(h:Hm):dP [.dat (.tuple [.tuple ns,.tuple ss])] h=.ok D.none h:=by unfold dP sj;simp[Ng w hk h]
end
section
variable {k1 k2:Nat} {n1 s1 n2 s2:WA}
theorem Ke(w1:Wb k1 n1 s1):av (.tuple [.tuple n1,.tuple s1])=true:=by simp[av,ax,mi.wZ w1.nr.sub,bQ.wZ w1.sr.sub]
theorem ne_self(t:av d=true)(l:d.depth<=40)(h:Hm):kI (.dat d) (.dat d) h=.ok (.bool false) h:=by simp[kI,eqQ,noDict,cN t,l,aU t]
theorem Ni(w1:Wb k1 n1 s1):(PyData.tuple [.tuple n1,.tuple s1]).depth<=40:=by
 have a:=dh λd m=>mi.dep d (w1.nr.sub d m);have b:=dh λd m=>bQ.dep d (w1.sr.sub d m)
 grind[PyData.depth,PyData.depthAll]
end
noncomputable def Nj:PyData->PyData
 |.tuple [a,_]=>a
 |_=>.none
noncomputable def Nk:PyData->PyData
 |.tuple [_,b]=>b
 |_=>.none
theorem lM(n:Nat)(ds:WA):MO.below n (.lst (ds.map D.dat))=true:=by simp[MO.below,D.below]
theorem Cq(hg:g x (List.replicate n none++ρ) h=.ok ρ1 h1)(ht:t ρ1 h1=.ok true h2)(he:e ρ1 h2=.ok y h3)(hr:ff n ρ g t e xs h3=.ok ys h4):ff n ρ g t e (x::xs) h=.ok (y::ys) h4:=by
 simp_all[ff]
theorem vK:∀{ls:WA} {ys:List D},PySem.Paired (λx y=>∃d,x=.dat d/\y=.dat (.tuple [one,d])) (ls.map D.dat) ys->ys=(ls.map λy=>PyData.tuple [one,y]).map D.dat
 | [],ys,h=>by cases h;rfl
 |l::ls,ys,h=>by
  cases h with
  |cons a b=>obtain⟨d,e,rfl⟩:=a;cases e;rw[vK b];rfl
structure Pw(pre ns acc:WA):Prop where
 ris:acc.Pairwise λa b=>ltB a b=true
 mem:∀p∈acc,∃a b,p=.tuple [a,b]/\a∈pre/\b∈ns
 len:acc.length<=pre.length*ns.length
theorem Hz(tx:av x=true)(ta:av a=true)(tb:av b=true)(h:ltB a b=true):ltB (.tuple [x,a]) (.tuple [x,b])=true:=by
 have n:=aZ ta tb (Hx ta h)
 simp_all[ltB,cx,dG,aU]
theorem DN(ta:av a=true)(tb:av b=true)(h:ltB a b=true):ltB (.tuple [a,x]) (.tuple [b,y])=true:=by
 have n:=aZ ta tb (Hx ta h)
 simp_all[ltB,cx,dG]
theorem Pw.step{pre ns acc ls xs:WA}(r:Rw Hv ns)(e:ns=pre++one::xs)(P:Pw pre ns acc)(sl:ls.Sublist ns):Pw (pre++[one]) ns (acc++ls.map λy=>.tuple [one,y]):=by
 have tr:∀d∈ns,av d=true:=λd m=>mi.t (r.sub d m);have ho:one∈ns:=by rw[e];simp
 have hp:∀a∈pre,a∈ns:=λa m=>by rw[e];simp[m]
 refine⟨Ux.mpr ⟨P.ris,Vk.mpr (Uu (λ{a b} ha hb l=>Hz (tr one ho) (tr a (sl.subset ha)) (tr b (sl.subset hb)) l) (r.ris.sublist sl)),λp hp' q hq=>?_⟩,λp m=>?_,?_⟩
 ·obtain⟨a,b,rfl,ha,hb⟩:=P.mem p hp';obtain⟨y,hy,rfl⟩:=SU.mp hq;have rr:=r.ris;rw[e]at rr;exact DN (tr a (hp a ha)) (tr one ho) ((Ux.mp rr).2.2 a ha one (by simp))
 ·rcases SD.mp m with z|z
  ·obtain⟨a,b,rfl,ha,hb⟩:=P.mem p z;exact⟨a,b,rfl,by simp[ha],hb⟩
  ·obtain⟨y,hy,rfl⟩:=SU.mp z;exact⟨one,y,rfl,by simp,sl.subset hy⟩
 ·have l1:=P.len;have l2:=sl.length_le;simp only[SN,SG,SM,Ts,Nat.add_mul];omega
noncomputable abbrev Rel:=PyData->PyData->Bool
noncomputable def rows(ns:WA)(r:Rel):WA:=ns.flatMap λa=>(ns.filter (r a)).map λb=>.tuple [a,b]
noncomputable abbrev aS(ns:WA)(r:Rel):PyData:=.tuple [.tuple ns,.tuple (rows ns r)]
section
variable {ns:WA} {r q:Rel} {a b:PyData}
theorem bB:p∈rows ns r<->∃a b,p=.tuple [a,b]/\a∈ns/\b∈ns/\r a b=true:=by
 unfold rows;rw[List.mem_flatMap];constructor
 ·rintro⟨a,ha,m⟩;obtain⟨b,hb,rfl⟩:=SU.mp m;obtain⟨h1,h2⟩:=S6.mp hb;exact⟨a,b,rfl,ha,h1,h2⟩
 simp_all
theorem cg:.tuple [a,b]∈rows ns r<->a∈ns/\b∈ns/\r a b=true:=by
 rw[bB];constructor
 ·simp_all
 ·exact λh=>⟨a,b,rfl,h⟩
theorem dY(R:Nr ns)(h:a∈ns):av a=true:=mi.t (R.sub a h)
theorem aL(R:Nr ns):Rw E7 (rows ns r):=by
 refine⟨λp m=>?_,?_⟩
 ·obtain⟨a,b,rfl,ha,hb,_⟩:=bB.mp m;exact⟨a,b,R.sub a ha,R.sub b hb,rfl⟩
 ·refine List.pairwise_flatMap.mpr ⟨λa ha=>Vk.mpr ?_,?_⟩
  ·exact Uu (λ{x y} hx hy l=>Hz (dY R ha) (dY R ((S6.mp hx).1)) (dY R ((S6.mp hy).1)) l) (R.ris.filter _)
  ·refine Uu (λ{x y} hx hy l p hp q hq=>?_) R.ris;obtain⟨b,_,rfl⟩:=SU.mp hp;obtain⟨c,_,rfl⟩:=SU.mp hq;exact DN (dY R hx) (dY R hy) l
theorem DP{xs:WA}{f:PyData->WA}(h:∀a,(f a).length<=n):(xs.flatMap f).length<=xs.length*n:=by
 induction xs with
 |nil=>simp
 |cons x xs ih=>
  grind[List.flatMap_cons,List.length_append,List.length_cons,Nat.add_mul]
theorem dw:(rows ns r).length<=ns.length*ns.length:=DP λa=>by rw[SG];exact S9 _ _
theorem qt(R:Nr ns)(hk:ns.length*ns.length<=k):Wb k ns (rows ns r):=
 ⟨R,aL R,λa b m=>⟨(cg.mp m).1,(cg.mp m).2.1⟩,Sw dw hk⟩
theorem oZ(h:∀a∈ns,∀b∈ns,r a b=q a b):rows ns r=rows ns q:=by
 have k:∀xs:WA,(∀a∈xs,a∈ns)->xs.flatMap (λa=>(ns.filter (r a)).map λb=>PyData.tuple [a,b])=xs.flatMap (λa=>(ns.filter (q a)).map λb=>PyData.tuple [a,b]):=by
  intro xs
  induction xs with
  |nil=>grind
  |cons x xs ih=>intro hs;rw[Wj,Wj,ih λa m=>hs a (by simp[m]),Wk λb hb=>h x (hs x (by simp)) b hb]
 exact k ns λ_ m=>m
theorem A1(h:rows ns r=rows ns q)(ha:a∈ns)(hb:b∈ns):r a b=q a b:=by
 have e:(.tuple [a,b]∈rows ns r)<->(.tuple [a,b]∈rows ns q):=by rw[h]
 grind[cg]
noncomputable def ik(ss:WA):Rel:=λa b=>decide (.tuple [a,b]∈ss)
theorem zk(w:Wb k ns ss):ss=rows ns (ik ss):=by
 refine vI bQ w.sr (aL w.nr) λp=>?_;rw[bB];constructor
 ·intro m;obtain⟨a,b,rfl,ha,hb⟩:=w.get m;exact⟨a,b,rfl,ha,hb,Tn m⟩
 ·rintro⟨a,b,rfl,_,_,h⟩;exact Uo h
theorem A3(R:Nr ns):av (aS ns r)=true:=Ke (qt R (Ss _))
theorem Kf(R:Nr ns):(aS ns r).depth<=40:=Ni (qt R (Ss _))
theorem A4(td:av d=true)(te:av e=true)(l:min d.depth e.depth<=40)(h:Hm):oEq (.dat d) (.dat e) h=.ok (.bool (decide (d=e))) h:=by
 have q:PyData.eqv d e=decide (d=e):=by
  by_cases z:d=e
  ·subst z;rw[Tn rfl];exact aU td
  ·rw[Tr z];exact aZ td te z
 simp_all[oEq,eqQ,noDict,cN]
theorem vL(td:av d=true)(te:av e=true)(l:min d.depth e.depth<=40)(h:Hm):kI (.dat d) (.dat e) h=.ok (.bool !(decide (d=e))) h:=by
 have q:PyData.eqv d e=decide (d=e):=by
  by_cases z:d=e
  ·subst z;rw[Tn rfl];exact aU td
  ·rw[Tr z];exact aZ td te z
 simp_all[kI,eqQ,noDict,cN]
theorem Nl(h:Hm)(R:Nr ns)(R2:Nr n2):oEq (.dat (aS ns r)) (.dat (aS n2 q)) h=.ok (.bool (decide (aS ns r=aS n2 q))) h:=A4 (A3 R) (A3 R2) (by have:=Kf (r:=r) R;omega) h
theorem HA(td:av d=true)(te:av e=true)(l:d.depth<=40):EB d e=some (decide (d=e)):=by
 have q:PyData.eqv d e=decide (d=e):=by
  by_cases z:d=e
  ·subst z;rw[Tn rfl];exact aU td
  ·rw[Tr z];exact aZ td te z
 have l':decide (min d.depth e.depth<=40)=true:=Tn (by omega)
 have:EB d e=eqQ d e:=by
  unfold EB;split
  ·trivial
  ·trivial
  ·rfl
 simp_all[this,eqQ,noDict,cN,td,te,l',q,We,Wm]
theorem A5(td:av d=true):∀{ds:WA},ax ds=true->(∀e∈ds,e.depth<=40)->F6 d ds=some (decide (d∈ds))
 | [],_,_=>by rfl
 |e::ds,t,l=>by
  simp[ax]at t;have ih:=A5 td t.2 λx m=>l x (SE _ m);unfold F6;rw[HA t.1 td (l e (by simp)),ih];by_cases z:e=d
  ·grind
  ·have z':¬ d=e:=λy=>z y.symm
   simp_all
theorem qu(td:av d=true)(t:ax ds=true)(l:∀e∈ds,e.depth<=40)(h:Hm):findIn (.dat d) (.dat (.tuple ds)) h=some (decide (d∈ds))/\findIn (.dat d) (.dat (.list ds)) h=some (decide (d∈ds)):=by simp[findIn,jz,pf,A5 td t l]
theorem Kg(td:av d=true)(t:ax ds=true)(l:∀e∈ds,e.depth<=40)(h:Hm):qz (.dat d) (.dat (.tuple ds)) h=.ok (.bool (decide (d∈ds))) h:=by simp[qz,(qu td t l h).1]
theorem vM(td:av d=true)(t:ax ds=true)(l:∀e∈ds,e.depth<=40)(h:Hm):kj (.dat d) (.dat (.tuple ds)) h=.ok (.bool !(decide (d∈ds))) h:=by simp[kj,(qu td t l h).1]
theorem Cr(u:vH U)(R:Rw U xs):∀e∈xs,e.depth<=40:=λe m=>Sw (u.dep e (R.sub e m)) (by decide)
theorem xU(u:vH U)(R:Rw U xs):ax xs=true:=u.wZ R.sub
theorem zl(R:Nr ns)(ha:a∈ns)(hb:b∈ns):av (.tuple [a,b])=true:=by simp[av,ax,dY R ha,dY R hb]
theorem zo(R:Nr ns)(ha:a∈ns)(hb:b∈ns)(h:Hm):qz (.dat (.tuple [a,b])) (.dat (.tuple (rows ns r))) h=.ok (.bool (r a b)) h:=by
 have:decide (.tuple [a,b]∈rows ns r)=r a b:=by rw[Uc,TV,cg];simp[ha,hb]
 rw[Kg (zl R ha hb) (xU bQ (aL R)) (Cr bQ (aL R)),this]
end
inductive Kd where
 |stable
 |standing
 |preferred
 |whole
 |grounded
noncomputable def Kd.nm:Kd->Str
 |.stable => "stable"
 |.standing => "standing"
 |.preferred => "preferred"
 |.whole => "whole"
 |.grounded => "grounded"
noncomputable def Kd.I:Kd->Bool->Bool->Bool->Bool
 |.stable,x,_,_=>x
 |.standing,x,y,z=>x&&(z || y)
 |.preferred,x,y,z=>x&&(z || y)
 |.whole,x,y,_=>x&&y
 |.grounded,x,y,z=>y&&(x || z)
noncomputable def lN(kd:Kd)(r:Rel):Rel:=λa b=>kd.I (r a a) (r b b) (r b a)
noncomputable def dZ(kd:Kd)(r:Rel):Rel:=λa b=>r a b&&(decide (a=b) || !lN kd r a b)
noncomputable def nN(kd:Kd)(r:Rel):Rel:=λa b=>dZ kd r a b || (!decide (a=b)&&lN kd (dZ kd r) a b)
theorem Kd.back{kd:Kd}(h:kd.I x y z≠kd.I x y z'):kd.I y x w=false:=by cases kd<;>cases x<;>cases y<;>simp_all[Kd.I]
section
variable {ns:WA} {r q:Rel} {a b:PyData} {kd:Kd}
theorem HB(kd:Kd)(h:Hm):iN [.dat (.str kd.nm)] h=.ok D.none h:=by cases kd<;>kernel_rfl
noncomputable def A6(ns:WA)(r:Rel):D:=.jt true ((rows ns r).map λp=>(p,.bool true))
theorem xV(t:ax ds=true)(td:av d=true):pe d (ds.map λp=>(p,v))=decide (d∈ds):=by
 unfold pe;rw[List.any_map];rw[Uc,TV,Wr];constructor
 ·rintro⟨x,hx,e⟩;have:=(mJ (aT t hx) td).mp e;subst this;exact hx
 ·exact λm=>⟨d,m,aU td⟩
theorem HC(h:E7 p):keyOk true p=true:=by obtain⟨h1,h2,h3,h4,h5,_⟩:=lL h;have:p.depth<=8:=Sw h5 (by decide);simp[keyOk,h1,h3,this]
theorem HD(Rn:Nr ns)(ha:a∈ns)(hb:b∈ns):E7 (.tuple [a,b]):=⟨a,b,Rn.sub a ha,Rn.sub b hb,rfl⟩
theorem zp(Rn:Nr ns)(ha:a∈ns)(hb:b∈ns)(h:Hm):qz (.dat (.tuple [a,b])) (A6 ns r) h=.ok (.bool (r a b)) h:=by
 have e:decide (.tuple [a,b]∈rows ns r)=r a b:=by rw[Uc,TV,cg];simp[ha,hb]
 simp only[qz,findIn,jz,A6,yq,HC (HD Rn ha hb),Tg,xV (xU bQ (aL Rn)) (zl Rn ha hb),e]
theorem xW:∀{ss acc:WA},(∀d∈acc++ss,E7 d)->(acc++ss).Nodup->acc.length+ss.length<1000->gh true 1 ρ (aq 0) cX (ae 0) (aj (.bool true)) (ss.map D.dat) (acc.map λp=>(p,.bool true)) h=.ok ((acc++ss).map λp=>(p,.bool true)) h
 | [],acc,_,_,_=>by simp[gh]
 |d::ss,acc,hs,nd,hl=>by
  simp only[SM]at hl;have ih:=xW (ρ:=ρ) (h:=h) (ss:=ss) (acc:=acc++[d]) (by simpa using hs) (by simpa using nd) (by simp;omega);have hd:E7 d:=hs d (by simp);have ta:ax acc=true:=hU λx m=>bQ.t (hs x (by simp[m]));have kn:pe d (acc.map λp=>(p,PyData.bool true))=false:=by rw[xV ta (bQ.t hd)];refine Tr λm=>?_;exact(T4.mp nd).2.2 d m d (by simp) rfl
  have lt:decide ((acc.map λp=>(p,PyData.bool true)).length<16777216)=true:=Tn (by rw[SG];omega);have dp:dput (acc.map λp=>(p,PyData.bool true)) d (.bool true)=(acc++[d]).map λp=>(p,.bool true):=by simp[dput,kn]
  simp only[SV,gh,aq,R.cK,R.aJ,cX,Tg,rep1,Ui,TH,Tw,ae,Uh,aj,HC hd,Bool.true_or,Bool.true_and,lt,dp];rw[ih];simp
theorem tP(hn:ns.length<=12):(rows ns r).length<=144:=Sw dw (Tv hn hn)
theorem HE(Rn:Nr ns)(e:m ρ h=.ok (.dat (.tuple (rows ns r))) h):qV true 1 (aN m) (aq 0) cX (ae 0) (aj (.bool true)) ρ h=.ok (A6 ns r) h:=by
 have l:=tP (r:=r) (Rn.le);have:=xW (ρ:=ρ) (h:=h) (ss:=rows ns r) (acc:=[]) (by simpa using(aL Rn).sub) (by simpa using fG bQ (aL Rn)) (by grind)
 simp_all[qV,A6]
theorem Kh(Rn:Nr ns)(ha:a∈ns)(hb:b∈ns)(h:Hm) :
  b0 [A6 ns r,.dat a,.dat b] h=.ok (.bool (lN .stable r a b)) h/\bC [A6 ns r,.dat a,.dat b] h=.ok (.bool (lN .standing r a b)) h /\
  cz [A6 ns r,.dat a,.dat b] h=.ok (.bool (lN .whole r a b)) h/\bJ [A6 ns r,.dat a,.dat b] h=.ok (.bool (lN .grounded r a b)) h:=by
 have e1:=zp (r:=r) Rn ha ha h;have e2:=zp (r:=r) Rn hb hb h;have e3:=zp (r:=r) Rn hb ha h;refine⟨?_,?_,?_,?_⟩
 ·simp[b0,jC,e1,lN,Kd.I]
 ·cases x1:r a a<;>cases x2:r b b<;>cases x3:r b a<;>rw[x1]at e1<;>rw[x2]at e2<;>rw[x3]at e3<;>simp[bC,iF,e1,e2,e3,lN,Kd.I,x1,x2,x3]
 ·cases x1:r a a<;>cases x2:r b b<;>rw[x1]at e1<;>rw[x2]at e2<;>simp[cz,ky,e1,e2,lN,Kd.I,x1,x2]
 ·cases x1:r a a<;>cases x2:r b b<;>cases x3:r b a<;>rw[x1]at e1<;>rw[x2]at e2<;>rw[x3]at e3<;>simp[bJ,iG,e1,e2,e3,lN,Kd.I,x1,x2,x3]
noncomputable def Kd.fn:Kd->Str
 |.stable => "idle_for_stable"
 |.standing => "idle_for_standing"
 |.preferred => "idle_for_standing"
 |.whole => "idle_for_whole"
 |.grounded => "idle_for_grounded"
theorem DQ(kd:Kd)(e:m ρ h=.ok (.dat (.str kd.nm)) h):uL oN m ρ h=.ok (.fn kd.fn) h:=by unfold uL;rw[e];cases kd<;>kernel_rfl
noncomputable abbrev sQ:List (Str×Fn):=[("idle_for_grounded",bJ),("idle_for_standing",bC),("idle_for_stable",b0),("idle_for_whole",cz)]
theorem A7(Rn:Nr ns)(ha:a∈ns)(hb:b∈ns)(ei:ρ[i]?=some (some (.fn kd.fn)))(em:ma ρ h=.ok [A6 ns r,.dat a,.dat b] h):kP i sQ ma ρ h=.ok (.bool (lN kd r a b)) h:=by
 obtain⟨k1,k2,k3,k4⟩:=Kh (r:=r) Rn ha hb h;unfold kP;rw[ei];cases kd
 ·have:sQ.lookup (Kd.fn .stable)=some b0:=by rfl
  simp_all
 ·have:sQ.lookup (Kd.fn .standing)=some bC:=by rfl
  simp_all
 ·have:sQ.lookup (Kd.fn .preferred)=some bC:=by kernel_rfl
  simp only[this];rw[bz em,k2];rfl
 ·have:sQ.lookup (Kd.fn .whole)=some cz:=by kernel_rfl
  simp only[this];rw[bz em,k3]
 ·have:sQ.lookup (Kd.fn .grounded)=some bJ:=by kernel_rfl
  simp only[this];rw[bz em,k4]
end
section
variable {a b:MS} {t:MT} {m m2:ME} {ρ ρ1:Fm} {h h1 h2:Hm} {r:R Fl} {x y:D} {i:Nat} {g:MG} {it:MA} {f:Fn} {ma:MA} {xs:List D}
theorem aP(e:a ρ h=.ok (.nx ρ1) h1)(k:b ρ1 h1=r):bj a b ρ h=r:=(nM e).trans k
theorem bK(e:m ρ h=.ok x h1):bU i m ρ h=.ok (.nx (ρ.set i (some x))) h1:=tN e
theorem fO(e:m ρ h=.ok x h1):hG m ρ h=.ok (.nx ρ) h1:=by simp_all
theorem rL(e:m ρ h=.ok x h1)(k:g x ρ h1=.ok ρ1 h2):mG g m ρ h=.ok (.nx ρ1) h2:=by simp_all
theorem dN(e:m ρ h=.ok x h1):cC m ρ h=.ok (.rt x) h1:=zj e
theorem Pg(e:t ρ h=.ok true h1)(k:a ρ h1=r):nY t a b ρ h=r:=(Lj e).trans k
theorem A8(e:t ρ h=.ok false h1)(k:b ρ h1=r):nY t a b ρ h=r:=(Lk e).trans k
theorem fV(l:xs.length=p)(e:b (xs.map some++List.replicate (n-p) none) h=.ok (.rt x) h1):bu p n b xs h=.ok x h1:=by
 simp_all
theorem aw(ha:ma ρ h=.ok xs h1)(k:f xs h1=.ok d h2):ag f ma ρ h=.ok d h2:=(bz ha).trans k
theorem bL{a b:PyData}(e1:m ρ h=.ok (.dat a) h1)(e2:m2 ρ h1=.ok (.dat b) h2):br (aa m (aa m2 ah)) ρ h=.ok (.dat (.tuple [a,b])) h2:=(bz (ak e1 (ak e2 rfl))).trans (M8 _ _ _)
theorem HF(e:t ρ h=.ok false h1)(k:u ρ h1=.ok c h2):vU t u ρ h=.ok c h2:=by simp_all
theorem HG(e:t ρ h=.ok c h1)(k:u ρ h1=.ok d h1):vU t u ρ h=.ok (c || d) h1:=by cases c<;>simp[e,k]
theorem DR(e:t ρ h=.ok c h1)(k:u ρ h1=.ok d h1):o3 t u ρ h=.ok (c&&d) h1:=by cases c<;>simp[e,k]
theorem kC(e:m ρ h=.ok (.bool c) h1):cy m ρ h=.ok c h1:=xT e rfl
end
section
variable {ns:WA} {r q:Rel} {a b:PyData} {kd:Kd}
theorem sR(Rn:Nr ns)(c:Rel)(hf:∀a∈ns,∀b∈ns,f (.tuple [a,b])=c a b):(rows ns r).filter f=rows ns λa b=>r a b&&c a b:=by
 have s:Rw E7 ((rows ns r).filter f):=⟨λd m=>(aL Rn).sub d (S6.mp m).1,(aL Rn).ris.filter _⟩;refine vI bQ s (aL Rn) λp=>?_;rw[S6,bB,bB];constructor
 ·rintro⟨⟨a,b,rfl,ha,hb,h⟩,k⟩;exact⟨a,b,rfl,ha,hb,by grind⟩
 ·rintro⟨a,b,rfl,ha,hb,h⟩;simp at h;exact⟨⟨a,b,rfl,ha,hb,h.1⟩,by grind⟩
theorem DU(ha:av a=true)(hb:av b=true)(la:a.depth<=40)(h:Hm):oEq (.dat a) (.dat b) h=.ok (.bool (decide (a=b))) h:=A4 ha hb (by omega) h
theorem zq(Rn:Nr ns)(ha:a∈ns):a.depth<=40:=Sw (mi.dep a (Rn.sub a ha)) (by decide)
theorem qv(Rn:Nr ns)(h:Hm):dP [.dat (aS ns r)] h=.ok D.none h:=Nh (qt Rn (Ss _)) (by have:=Rn.le;exact Sw (Tv this this) (by decide)) h
noncomputable def Cs(kd:Kd)(r:Rel)(p:PyData):Bool:=decide (Nj p=Nk p) || !lN kd r (Nj p) (Nk p)
theorem xX(Rn:Nr ns)(kd:Kd)(h:Hm):pT [.dat (aS ns r),.dat (.str kd.nm)] h=.ok (.dat (aS ns (dZ kd r))) h:=by
 have l:=tP (r:=r) (Rn.le)
 have key:=dM (n:=2) (it:=aN (ae 4)) (g:=i7 (bP (aq 0) (bP (aq 1) iI))) (t:=vU (aO (ai oEq (ae 0) (ae 1))) (i6 (cy (kP 4 sQ (aa (ae 7) (aa (ae 0) (aa (ae 1) ah))))))) (e:=br (aa (ae 0) (aa (ae 1) ah)))
  (ρ:=[some (.dat (aS ns r)),some (.dat (.str kd.nm)),some (.fn kd.fn),some (.dat (.tuple ns)),some (.dat (.tuple (rows ns r))),some (A6 ns r),none]) (h:=h) (h1:=h) (ds:=rows ns r) (cv (by rfl)) (by omega) (Cs kd r) (λp=>p) (λp hp=>by
   obtain⟨a,b,rfl,ha,hb,hr⟩:=bB.mp hp;refine⟨[some (.dat a),some (.dat b),some (.dat (aS ns r)),some (.dat (.str kd.nm)),some (.fn kd.fn),some (.dat (.tuple ns)),some (.dat (.tuple (rows ns r))),some (A6 ns r),none],rfl,?_,λ_=>by simp⟩;have e1:aO (ai oEq (ae 0) (ae 1)) [some (.dat a),some (.dat b),some (.dat (aS ns r)),some (.dat (.str kd.nm)),some (.fn kd.fn),some (.dat (.tuple ns)),some (.dat (.tuple (rows ns r))),some (A6 ns r),none] h=.ok (decide (a=b)) h:=bA (ao rfl rfl (DU (dY Rn ha) (dY Rn hb) (zq Rn ha) h));have e2:=A7 (r:=r) (kd:=kd) Rn ha hb (i:=4) (ma:=aa (ae 7) (aa (ae 0) (aa (ae 1) ah))) (ρ:=[some (.dat a),some (.dat b),some (.dat (aS ns r)),some (.dat (.str kd.nm)),some (.fn kd.fn),some (.dat (.tuple ns)),some (.dat (.tuple (rows ns r))),some (A6 ns r),none]) (h:=h) rfl rfl;have e3:=qr (xT e2 (c:=lN kd r a b) rfl);unfold vU;rw[e1];simp only[R.aJ,Cs,Nj,Nk];by_cases z:a=b
   ·simp[z]
   ·simp only[z,decide_false,SF,Tz,Bool.false_or]
    exact e3)
 have fl:(rows ns r).filter (Cs kd r)=rows ns (dZ kd r):=sR Rn (λa b=>decide (a=b) || !lN kd r a b) λa _ b _=>rfl;rw[List.map_id',fl]at key;have l2:=tP (r:=dZ kd r) (Rn.le);have t1:=qv (r:=r) Rn h;have t2:=HB kd h;have t4:uL oN (ae 1) [some (.dat (aS ns r)),some (.dat (.str kd.nm)),none,none,none,none,none] h=.ok (.fn kd.fn) h:=DQ kd rfl;have t5:=HE (r:=r) Rn (ρ:=[some (.dat (aS ns r)),some (.dat (.str kd.nm)),some (.fn kd.fn),some (.dat (.tuple ns)),some (.dat (.tuple (rows ns r))),none,none]) (h:=h) (m:=ae 4) rfl;exact fV rfl (aP (fO (aw (xs:=[.dat (aS ns r)]) rfl t1)) (aP (fO (aw (xs:=[.dat (.str kd.nm)]) rfl t2)) (aP (bK t4) (aP (rL (x:=.dat (aS ns r)) rfl rfl) (aP (bK t5) (aP (bK key) (dN (bL (a:=.tuple ns) rfl (aw (xs:=[.dat (.list (rows ns (dZ kd r)))]) rfl rfl)))))))))
end
theorem sS(I:Fm->Prop)(c:D->Bool)(f:D->D):∀{ys:List D} {ρ:Fm},(∀y∈ys,∀ρ,I ρ->∃ρ1,g2 y ρ h=.ok ρ1 h/\t2 ρ1 h=.ok (c y) h/\(c y=true->e ρ1 h=.ok (f y) h)/\I ρ1)->I ρ->kO g2 t2 e ys ρ h=.ok ((ys.filter c).map f) h
 | [],ρ,_,_=>rfl
 |y::ys,ρ,H,i=>by
  obtain⟨ρ1,h1,h2,h3,i1⟩:=H y (SK ..) ρ i;have ih:=sS I c f (λz hz=>H z (SE _ hz)) i1;unfold kO;rw[h1];simp;rw[h2];simp
  cases hc:c y with
  |false=>grind
  |true=>
   simp_all
theorem Ct{ds es:WA}(hit:it ρ h=.ok (ds.map D.dat) h)(hz:ds.length*es.length+es.length<=100000)(hd:ds.length<=100000)(I:PyData->Fm->Prop)(c:PyData->PyData->Bool)(f:PyData->PyData->PyData)
 (H:∀a∈ds,∃ρ1,g (.dat a) (List.replicate n none++ρ) h=.ok ρ1 h/\it2 ρ1 h=.ok (es.map D.dat) h/\I a ρ1)(H2:∀a∈ds,∀b∈es,∀ρ,I a ρ->∃ρ1,g2 (.dat b) ρ h=.ok ρ1 h/\t2 ρ1 h=.ok (c a b) h/\(c a b=true->e ρ1 h=.ok (.dat (f a b)) h)/\I a ρ1) :
  yM n it g cX it2 g2 t2 e ρ h=.ok (.dat (.list (ds.flatMap λa=>(es.filter (c a)).map (f a)))) h:=by
 have go:∀(xs:WA) (k:Nat),(∀a∈xs,a∈ds)->k+xs.length*es.length+es.length<=200000->fJ n ρ g cX it2 g2 t2 e (xs.map D.dat) k h=.ok ((xs.flatMap λa=>(es.filter (c a)).map (f a)).map D.dat) h:=by
  intro xs
  induction xs with
  |nil=>intro k _ _;rfl
  |cons a xs ih=>
   intro k hs hk;obtain⟨ρ1,q1,q2,q3⟩:=H a (hs a (by simp))
   have inn:=sS (I a) (λy=>match y with|.dat b=>c a b|_=>false) (λy=>match y with|.dat b=>.dat (f a b)|_=>.dat .none) (ys:=es.map D.dat) (ρ:=ρ1) (g2:=g2) (t2:=t2) (e:=e) (h:=h) (λy hy ρ' i=>by
    obtain⟨b,hb,rfl⟩:=SU.mp hy;obtain⟨ρ2,z1,z2,z3,z4⟩:=H2 a (hs a (by simp)) b hb ρ' i
    exact⟨ρ2,z1,z2,z3,z4⟩) q3
   have fm:((es.map D.dat).filter (λy=>match y with|.dat b=>c a b|_=>false)).map (λy=>match y with|.dat b=>D.dat (f a b)|_=>.dat .none)=((es.filter (c a)).map (f a)).map D.dat:=by simp[List.filter_map,Function.comp_def]
   rw[fm]at inn;have lf:(es.filter (c a)).length<=es.length:=S9 _ _;simp only[SM,Nat.add_mul]at hk;have ih':=ih (k+((es.filter (c a)).map (f a)).length) (λb m=>hs b (by simp[m])) (by rw[SG];omega);simp only[SV];unfold fJ;rw[q1];simp only[R.cK,R.aJ,cX,Tg];rw[q2];simp only[R.cK,R.aJ,SG,sz (show k+es.length<=16777216 by omega),Tg];rw[inn];simp only[R.aJ,SG];rw[SG]at ih';rw[ih'];simp
 have g0:=go ds 0 (λ_ m=>m) (by omega);unfold yM ag uK;rw[hit];simp only[R.aJ,SG,sz (show ds.length<=16777216 by omega),Tg];rw[g0];simp only[R.aJ];refine cV _ h ?_;have:=DP (xs:=ds) (n:=es.length) (f:=λa=>(es.filter (c a)).map (f a)) λa=>by rw[SG];exact S9 _ _
 omega
section
variable {ns:WA} {r q:Rel} {a b:PyData} {kd:Kd}
theorem Cu(Rn:Nr ns)(kd:Kd)(h:Hm):qW [.dat (aS ns r),.dat (.str kd.nm)] h=.ok (.dat (aS ns (nN kd r))) h:=by
 have ln:=Rn.le;have lq:=Tv ln ln
 have key:=Ct (n:=2) (it:=aN (ae 2)) (it2:=aN (ae 4)) (g:=aq 0) (g2:=aq 1) (t2:=vU (aO (ai qz (br (aa (ae 0) (aa (ae 1) ah))) (ae 7))) (o3 (aO (ai kI (ae 0) (ae 1))) (cy (kP 6 sQ (aa (ae 7) (aa (ae 0) (aa (ae 1) ah))))))) (e:=br (aa (ae 0) (aa (ae 1) ah)))
  (ρ:=[some (.dat (aS ns r)),some (.dat (.str kd.nm)),some (.dat (.tuple ns)),some (.dat (.tuple (rows ns (dZ kd r)))),some (.fn kd.fn),some (A6 ns (dZ kd r)),none]) (h:=h) (ds:=ns) (es:=ns) (cv (by rfl)) (by omega) (by omega)
  (λa ρ=>∃o,ρ=[some (.dat a),o,some (.dat (aS ns r)),some (.dat (.str kd.nm)),some (.dat (.tuple ns)),some (.dat (.tuple (rows ns (dZ kd r)))),some (.fn kd.fn),some (A6 ns (dZ kd r)),none]) (nN kd r) (λa b=>.tuple [a,b])
  (λa ha=>⟨_,rfl,cv (by rfl),none,rfl⟩)
  (λa ha b hb ρ ⟨o,e⟩=>by
   subst e;refine⟨[some (.dat a),some (.dat b),some (.dat (aS ns r)),some (.dat (.str kd.nm)),some (.dat (.tuple ns)),some (.dat (.tuple (rows ns (dZ kd r)))),some (.fn kd.fn),some (A6 ns (dZ kd r)),none],rfl,?_,λ_=>bL rfl rfl,some (.dat b),rfl⟩;have e2:=A7 (r:=dZ kd r) (kd:=kd) Rn ha hb (i:=6) (ma:=aa (ae 7) (aa (ae 0) (aa (ae 1) ah))) (ρ:=[some (.dat a),some (.dat b),some (.dat (aS ns r)),some (.dat (.str kd.nm)),some (.dat (.tuple ns)),some (.dat (.tuple (rows ns (dZ kd r)))),some (.fn kd.fn),some (A6 ns (dZ kd r)),none]) (h:=h) rfl rfl
   exact HG (bA (ao (bL rfl rfl) rfl (zp Rn ha hb h))) (DR (bA (ao rfl rfl (vL (dY Rn ha) (dY Rn hb) (by have:=zq Rn ha;omega) h))) (kC e2)))
 have t4:uL oN (ae 1) [some (.dat (aS ns r)),some (.dat (.str kd.nm)),some (.dat (.tuple ns)),some (.dat (.tuple (rows ns (dZ kd r)))),none,none,none] h=.ok (.fn kd.fn) h:=DQ kd rfl;have t5:=HE (r:=dZ kd r) Rn (ρ:=[some (.dat (aS ns r)),some (.dat (.str kd.nm)),some (.dat (.tuple ns)),some (.dat (.tuple (rows ns (dZ kd r)))),some (.fn kd.fn),none,none]) (h:=h) (m:=ae 3) rfl;exact fV rfl (aP (rL (aw (xs:=[.dat (aS ns r),.dat (.str kd.nm)]) rfl (xX Rn kd h)) rfl) (aP (bK t4) (aP (bK t5) (aP (bK key) (dN (bL (a:=.tuple ns) rfl (aw (xs:=[.dat (.list (rows ns (nN kd r)))]) rfl rfl)))))))
theorem iZ(Rn:Nr ns)(hp:p∈rows ns q)(h:Hm):kj (.dat p) (.dat (.tuple (rows ns r))) h=.ok (.bool !(decide (p∈rows ns r))) h:=
 vM (aT (xU bQ (aL Rn)) hp) (xU bQ (aL Rn)) (Cr bQ (aL Rn)) h
end
section
variable {ns:WA} {r q:Rel} {a b x y:PyData} {kd:Kd}
noncomputable def DV(ns:WA)(kd:Kd)(r q:Rel):Prop:=∀a∈ns,∀b∈ns,(a=b\/lN kd r a b=false)->q a b=r a b
theorem DV.lN(A:DV ns kd r q)(ha:a∈ns)(hb:b∈ns):lN kd q a b=lN kd r a b:=by
 have e1:=A a ha a ha (.inl rfl);have e2:=A b hb b hb (.inl rfl);unfold Ml.lN;rw[e1,e2];by_cases h:kd.I (r a a) (r b b) (q b a)=kd.I (r a a) (r b b) (r b a)
 ·exact h
 ·have  := A b hb a ha (.inr (Kd.back h))
  grind
theorem DV.dZ(A:DV ns kd r q)(ha:a∈ns)(hb:b∈ns):dZ kd q a b=dZ kd r a b:=by
 have e:=A.lN ha hb;unfold Ml.dZ;rw[e];by_cases z:a=b
 ·rw[A a ha b hb (.inl z)]
 ·cases w:Ml.lN kd r a b with
  |true=>simp[z]
  |false=>rw[A a ha b hb (.inr w)]
theorem gx:DV ns kd r (dZ kd r):=λa ha b hb h=>by
 simp_all[dZ]
theorem Ki:DV ns kd r (nN kd r):=λa ha b hb h=>by
 have k:=gx a ha b hb h;unfold nN;rcases h with z|z
 ·grind
 ·rw[(gx).lN ha hb,z,k];simp
theorem DV.nN(A:DV ns kd r q)(ha:a∈ns)(hb:b∈ns):nN kd q a b=nN kd r a b:=by unfold Ml.nN;rw[A.dZ ha hb,(gx).lN ha hb,(gx).lN ha hb,A.lN ha hb]
theorem DX(h:dZ kd r a b=true):r a b=true:=by
 simp_all[dZ]
theorem DY(ha:a∈ns)(hb:b∈ns)(h:r a b=true):nN kd r a b=true:=by
 unfold nN;rw[(gx).lN ha hb]
 grind[dZ]
theorem Nn(h1:∀a∈ns,∀b∈ns,dZ kd r a b=true->q a b=true)(h2:∀a∈ns,∀b∈ns,q a b=true->nN kd r a b=true):DV ns kd r q:=λa ha b hb h=>by
 have k:=gx a ha b hb h;have f:=Ki a ha b hb h
 cases e:r a b with
 |true=>grind
 |false=>
  cases e2:q a b with
  |false=>rfl
  |true=>simp_all
theorem DV.A9(A:DV ns kd r q):rows ns (Ml.dZ kd q)=rows ns (Ml.dZ kd r):=oZ λa ha b hb=>A.dZ ha hb
noncomputable def Ih(r:Rel)(x y:PyData):Rel:=λa b=>if a=x/\b=y then !r a b else r a b
end
structure Px(i:Nat)(h:Hm):Prop where
 box:∃n f:Int,h[i]?=some (.lst [.int n,.int f])
 wf:Wf h
noncomputable def Ps(i:Nat)(h h':Hm):Prop:=∃n f:Int,h'=h.set i (.lst [.int n,.int f])
theorem Px.lt(b:Px i h):i<h.length:=by obtain⟨⟨n,f,e⟩,_⟩:=b;exact(SJ.mp e).1
theorem Px.refl(b:Px i h):Ps i h h:=by obtain⟨⟨n,f,e⟩,_⟩:=b;refine⟨n,f,?_⟩;obtain⟨l,e⟩:=SJ.mp e;rw[<- e];exact(List.set_getElem_self l).symm
theorem Ps.trans(a:Ps i h h')(b:Ps i h' h''):Ps i h h'':=by obtain⟨n,f,rfl⟩:=a;obtain⟨k,g,rfl⟩:=b;exact⟨k,g,by simp⟩
theorem Ps.px(s:Ps i h h')(b:Px i h):Px i h':=by obtain⟨n,f,rfl⟩:=s;exact⟨⟨n,f,by rw[Uj b.lt]⟩,b.wf.set rfl⟩
theorem Ps.len(s:Ps i h h'):h'.length=h.length:=by obtain⟨n,f,rfl⟩:=s;simp
theorem Px.push(b:Px i h)(q:MO.below (h.length+1) o=true):Px i (h++[o]):=by obtain⟨n,f,e⟩:=b.box;exact⟨⟨n,f,by rw[Ta b.lt];exact e⟩,b.wf.push q⟩
theorem Ps.pop(b:i<h.length)(s:Ps i (h++[o]) h'):∃h1,h'=h1++[o]/\Ps i h h1:=by obtain⟨n,f,rfl⟩:=s;exact⟨_,by grind,n,f,rfl⟩
noncomputable def Dp{α:Type}(i:Nat)(h:Hm)(r:R α)(P:α->Prop):Prop:=∃a h',r=.ok a h'/\Ps i h h'/\P a
section
variable {α β:Type} {i:Nat} {h:Hm} {r:R α} {f:α->Hm->R β} {P P':α->Prop} {Q:β->Prop}
theorem Dp.ok(b:Px i h)(p:P a):Dp i h (.ok a h) P:=⟨a,h,rfl,b.refl,p⟩
end
theorem Ba(b:Px i h)(e:f xs h=.ok (.dat x) (h1++t))(s:Ps i h h1):f7 f xs h=.ok (.dat x) h1:=by
 have hl:=s.len;have w:=(s.px b).wf;unfold f7;rw[e];have:(h1.all (MO.below h.length))=true:=by rw[<- hl];exact SR.mpr λo m=>w o m
 simp[D.below,this,hl]
theorem qw(h0:0<=j)(hj:j<1000000000000)(h:Hm):pb (.int i) (.int j) h=.ok (.int (i*j)) h:=by
 have:CY i j=true:=by
  grind[CY]
 simp[pb,this]
theorem qx(h0:0<j)(h:Hm):oMod (.int i) (.int j) h=.ok (.int (i % j)) h:=by simp[oMod,h0]
theorem HH(h0:0<j)(h1:j<1073741824)(h:Hm):xf (.int i) (.int j) h=.ok (.int (i / j)) h:=by simp[xf,h0,h1]
theorem vN(h:Hm):dA (.int i) (.int j) h=.ok (.int (i+j)) h:=rfl
theorem tQ(h:Hm):oEq (.int i) (.int j) h=.ok (.bool (decide (i=j))) h:=by rfl
theorem hE(b:Px i h)(h0:0<c)(h1:c<1073741824):Dp i h (aF [.ref i,.int c] h) λd=>∃k:Nat,d=.int k/\(k:Int)<c:=by
 obtain⟨⟨n,f,e⟩,_⟩:=b;have hl:=(SJ.mp e).1;have i0:∀a b c d:Option D,ai cn (ae 0) (aj (.int 0)) [some (.ref i),a,b,c,d] h=.ok (.int n) h:=λa b c d=>by simp[cn,jz,wc,e,ox,wU]
 have i1:∀a b c d:Option D,ai cn (ae 0) (aj (.int 1)) [some (.ref i),a,b,c,d] h=.ok (.int f) h:=λa b c d=>by simp[cn,jz,wc,e,ox,wU]
 have st:∀(m:Int) (a b c d:Option D),zz (ae 0) (aj (.int 0)) (.int m) [some (.ref i),a,b,c,d] h=.ok [some (.ref i),a,b,c,d] (h.set i (.lst [.int m,.int f])):=λm a b c d=>by simp[zz,yt,e,C0,wU]
 by_cases hf:f=1
 ·refine⟨.int (n % c),h.set i (.lst [.int (n / c),.int f]),?_,⟨_,_,rfl⟩,(n % c).toNat,?_,?_⟩
  ·have t1:aO (ai oEq (ai cn (ae 0) (aj (.int 1))) (aj (.int 1))) [some (.ref i),some (.int c),none,none,none] h=.ok true h:=bA (ao (i1 _ _ _ _) rfl (by rw[tQ];simp[hf]));have t2:ag ph (aa (ai cn (ae 0) (aj (.int 0))) (aa (ae 1) ah)) [some (.ref i),some (.int c),none,none,none] h=.ok (.dat (.tuple [.int (n / c),.int (n % c)])) h:=(bz (ak (i0 _ _ _ _) (ak rfl rfl))).trans (by simp[ph,h0,h1]);unfold aF mN bu;simp only[SM,Ts,Tg,SV,U4,Ui,TH,show 5-2=3 from rfl,rep3];unfold bj;rw[Lj t1];simp only[mG,t2,R.aJ,i7,SV,U4,bP,aq,iI,TM,Tw];simp only[ae,U8,Uh,R.aJ,st];rfl
  ·rw[Vv (VJ _ (by omega))]
  ·rw[Vv (VJ _ (by omega))];exact Wc _ h0
 ·generalize hA:(n % 2147483647+40503)*69621 % 2147483629=A;generalize hB:(A*A+7817) % 2147483587=B;generalize hC:(B*48271+11) % 2147483629=C;have a0:0<=A:=by rw[<- hA];exact VJ _ (by decide)
  have a1:A<2147483629:=by rw[<- hA];exact Wc _ (by decide)
  refine⟨.int (C / 32 % c),h.set i (.lst [.int C,.int f]),?_,⟨_,_,rfl⟩,(C / 32 % c).toNat,?_,?_⟩
  ·have t1:aO (ai oEq (ai cn (ae 0) (aj (.int 1))) (aj (.int 1))) [some (.ref i),some (.int c),none,none,none] h=.ok false h:=bA (ao (i1 _ _ _ _) rfl (by rw[tQ];simp[hf]));have t2:bU 4 (ai oMod (ai pb (ai dA (ai oMod (ai cn (ae 0) (aj (.int 0))) (aj (.int 2147483647))) (aj (.int 40503))) (aj (.int 69621))) (aj (.int 2147483629))) [some (.ref i),some (.int c),none,none,none] h=.ok (.nx [some (.ref i),some (.int c),none,none,some (.int A)]) h:=by rw[<- hA];exact(tN (ao (ao (ao (ao (i0 _ _ _ _) rfl (qx (by decide) h)) rfl (vN h)) rfl (qw (by decide) (by decide) h)) rfl (qx (by decide) h))).trans rfl
   have t3:bU 4 (ai oMod (ai dA (ai pb (ae 4) (ae 4)) (aj (.int 7817))) (aj (.int 2147483587))) [some (.ref i),some (.int c),none,none,some (.int A)] h=.ok (.nx [some (.ref i),some (.int c),none,none,some (.int B)]) h:=by rw[<- hB];exact(tN (ao (ao (ao rfl rfl (qw a0 (by omega) h)) rfl (vN h)) rfl (qx (by decide) h))).trans rfl
   have t4:mG (zz (ae 0) (aj (.int 0))) (ai oMod (ai dA (ai pb (ae 4) (aj (.int 48271))) (aj (.int 11))) (aj (.int 2147483629))) [some (.ref i),some (.int c),none,none,some (.int B)] h=.ok (.nx [some (.ref i),some (.int c),none,none,some (.int B)]) (h.set i (.lst [.int C,.int f])):=by
    have q:ai oMod (ai dA (ai pb (ae 4) (aj (.int 48271))) (aj (.int 11))) (aj (.int 2147483629)) [some (.ref i),some (.int c),none,none,some (.int B)] h=.ok (.int C) h:=by rw[<- hC];exact ao (ao (ao rfl rfl (qw (by decide) (by decide) h)) rfl (vN h)) rfl (qx (by decide) h)
    simp only[mG,q,R.aJ,st]
   have g:(h.set i (.lst [.int C,.int f]))[i]?=some (.lst [.int C,.int f]):=by rw[Uj hl]
   have t5:ai oMod (ai xf (ai cn (ae 0) (aj (.int 0))) (aj (.int 32))) (ae 1) [some (.ref i),some (.int c),none,none,some (.int B)] (h.set i (.lst [.int C,.int f]))=.ok (.int (C / 32 % c)) (h.set i (.lst [.int C,.int f])):=by
    have q:ai cn (ae 0) (aj (.int 0)) [some (.ref i),some (.int c),none,none,some (.int B)] (h.set i (.lst [.int C,.int f]))=.ok (.int C) (h.set i (.lst [.int C,.int f])):=by simp only[ai,ae,aj,R.aJ,Uh,cn,jz,wc,g,ox,wU];rfl
    exact ao (ao q rfl (HH (by decide) (by decide) _)) rfl (qx h0 _)
   unfold aF mN bu;simp only[SM,Ts,Tg,SV,U4,Ui,TH,show 5-2=3 from rfl,rep3];rw[nM ((Lk t1).trans rfl),nM t2,nM t3,nM t4,zj t5];rfl
  ·rw[Vv (VJ _ (by omega))]
  ·rw[Vv (VJ _ (by omega))];exact Wc _ h0
theorem Np(z:Int)(w:Wf h):∃n f:Int,jg [.int z] h=.ok (.ref h.length) (h++[.lst [.int n,.int f]])/\Px h.length (h++[.lst [.int n,.int f]]):=by
 obtain⟨n,hn⟩:∃n:Int,ED [.int z,.int (0-z)] h=.ok (.int n) h:=by unfold ED;exact⟨_,rfl⟩
 refine⟨n,if 10^18<=n then 1 else 0,?_,⟨⟨n,if 10^18<=n then 1 else 0,by simp⟩,w.push rfl⟩⟩;unfold jg uN bu;simp only[SM,Ts,Tg,SV,U4,Ui,TH,show 2-1=1 from rfl,rep1];have t1:bU 1 (ag ED (aa (ae 0) (aa (ai F5 (aj (.int 0)) (ae 0)) ah))) [some (.int z),none] h=.ok (.nx [some (.int z),some (.int n)]) h:=(tN ((bz (ak rfl (ak rfl rfl))).trans hn)).trans rfl;rw[nM t1];have t2:∀b:Bool,ui [.bool b] h=.ok (.int (if b then 1 else 0)) h:=λb=>rfl;have t3:ag ui (aa (ai OA (ae 1) (aj (.int (10^18)))) ah) [some (.int z),some (.int n)] h=.ok (.int (if 10^18<=n then 1 else 0)) h:=by refine(bz (ak (ao rfl rfl rfl) rfl)).trans ?_;rw[t2];simp
 refine(VG (λr=>R.bind r uf) (zj (m:=ue _) ((bz (ak rfl (ak t3 rfl))).trans rfl))).trans rfl
noncomputable def vO:WA:=[.str "a",.str "aa",.str "ab",.str "abcdef",.str "b",.str "c",.str "d",.str "e",.str "m",.str "x",.str "zz",.str "zzzzzz"]
theorem DZ:∀d∈vO,Hv d:=SR.mp (show vO.all isName=true by rfl)
theorem Kj:vO.Nodup:=fG mi (Pd mi DZ (by rfl))
noncomputable abbrev HI:ME:=mq qK (ae 3) (ag aF (aa (ae 1) (aa (ag gb (aa (ae 3) ah)) ah)))
theorem Kk{he h3:Hm}{left:WA}(hL:he.length=L)(l3:h3.length=L)(hk:k<left.length)(h12:left.length<=12)
 (e2:aF [.ref i,.int (left.length:Int)] (he++[.lst (left.map D.dat)])=.ok (.int k) (h3++[.lst (left.map D.dat)])) :
  HI [some x,some (.ref i),some (.int m),some (.ref L)] (he++[.lst (left.map D.dat)])=.ok (.dat left[k]) (h3++[.lst ((left.eraseIdx k).map D.dat)]):=by
 have g1:(he++[MO.lst (left.map D.dat)])[L]?=some (.lst (left.map D.dat)):=by subst hL;simp
 have g2:(h3++[MO.lst (left.map D.dat)])[L]?=some (.lst (left.map D.dat)):=by subst l3;simp
 have bl:gb [.ref L] (he++[.lst (left.map D.dat)])=.ok (.int (left.length:Int)) (he++[.lst (left.map D.dat)]):=by simp[gb,g1]
 have il:KZ (.ref L) (he++[.lst (left.map D.dat)])=true:=by simp[KZ,g1]
 have mp:qK (.ref L) (.int (k:Int)) (h3++[.lst (left.map D.dat)])=.ok (.dat left[k]) (h3++[.lst ((left.eraseIdx k).map D.dat)]):=by
  have c:(0:Int)<=k/\(k:Int)<(left.map D.dat).length/\(k:Int)<1000000:=by simp;omega
  have st:(h3++[MO.lst (left.map D.dat)]).set L (.lst ((left.map D.dat).eraseIdx k))=h3++[.lst ((left.eraseIdx k).map D.dat)]:=by subst l3;rw[Vi _ _ (Ss _)];simp[U1]
  simp only[qK,g2,if_pos c,Uz,Ua,SH hk,V4,st]
 unfold HI;simp only[mq,ag,aa,ah,ae,R.aJ,Uh,U8,il,Tg,bl,e2,mp]
theorem Ln:∀{xs:List D} {left:WA} {he:Hm},Px i he->he.length=L->xs.length<=left.length->left.length<=12 ->
  ∃(he':Hm) (out left':WA),ff 1 [some (.ref i),some (.int m),some (.ref L)] (aq 0) cX HI xs (he++[.lst (left.map D.dat)])=.ok (out.map D.dat) (he'++[.lst (left'.map D.dat)])/\Ps i he he'/\out.length=xs.length/\(out++left').Perm left
 | [],left,he,b,_,_,_=>⟨he,[],left,rfl,b.refl,rfl,List.Perm.refl _⟩
 |x::xs,left,he,b,hL,hl,h12=>by
  simp only[SM]at hl;have bp:Px i (he++[.lst (left.map D.dat)]):=b.push (lM _ _);obtain⟨_,h2,e2,s2,k,rfl,hk⟩:=hE bp (c:=(left.length:Int)) (by omega) (by omega);obtain⟨h3,rfl,s3⟩:=s2.pop b.lt;have b3:=s3.px b;have l3:h3.length=L:=by rw[s3.len,hL]
  have hk':k<left.length:=by omega
  have ll:=List.length_eraseIdx_of_lt hk';obtain⟨he',out,left',q1,q2,q3,q4⟩:=Ln (i:=i) (L:=L) (m:=m) (xs:=xs) (left:=left.eraseIdx k) (he:=h3) b3 l3 (by omega) (by omega);have ep:=Kk (x:=x) (m:=m) hL l3 hk' h12 e2;refine⟨he',left[k]::out,left',?_,s3.trans q2,by simp[q3],?_⟩
  ·exact Cq (by rfl) (by rfl) ep q1
  ·exact(List.Perm.cons _ q4).trans (NO.eR hk')
theorem HJ(b:Px i h){m:Nat}(hm:m<=11):Dp i h (kR [.ref i,.int (m:Int)] h) λd=>∃ns:WA,d=.dat (.tuple ns)/\Nr ns/\ns.length<=m:=by
 have b1:Px i (h++[.lst (vO.map D.dat)]):=b.push (lM _ _);obtain⟨_,h2',e2,s2',c,rfl,hc⟩:=hE b1 (c:=(m:Int)+1) (by omega) (by omega);obtain⟨h2,rfl,s2⟩:=s2'.pop b.lt;have b2:=s2.px b;have ln:(nums 0 c).length=c:=by simp[nums]
 obtain⟨h3,out,left,q1,q2,q3,q4⟩:=Ln (i:=i) (L:=h.length) (m:=(m:Int)) (xs:=nums 0 c) (left:=vO) (he:=h2) b2 s2.len (by rw[ln];simp[vO];omega) (by decide);have on:out.length=c:=by rw[q3,ln]
 have onm:∀d∈out,Hv d:=λd m=>DZ d (q4.mem_iff.mp (S7 _ m));have ond:out.Nodup:=(T4.mp (q4.nodup_iff.mpr Kj)).1;have rw0:Rw Hv (bY ltB out):=tO mi onm ond;have so:cL out=true:=mi.Pe onm (by omega);have nl:(bY ltB out).length=c:=by rw[(bG _ _).length_eq,on]
 have rn:Nr (bY ltB out):=⟨rw0,by omega⟩
 have ra:mI 1 (rQ (aa (ag aF (aa (ae 0) (aa (ai dA (ae 1) (aj (.int 1))) ah))) ah)) (aq 0) cX HI [some (.ref i),some (.int (m:Int)),some (.ref h.length)] (h++[.lst (vO.map D.dat)])=.ok (out.map D.dat) (h3++[.lst (left.map D.dat)]):=by
  have e1:aa (ag aF (aa (ae 0) (aa (ai dA (ae 1) (aj (.int 1))) ah))) ah [some (.ref i),some (.int (m:Int)),some (.ref h.length)] (h++[.lst (vO.map D.dat)])=.ok [.dat (.int (c:Int))] (h2++[.lst (vO.map D.dat)]):=
   ak (aw (ak rfl (ak (ao rfl rfl rfl) rfl)) e2) rfl
  unfold mI;rw[A0 e1 (by omega)];simp only[R.aJ];rw[if_pos (by rw[ln];exact sz (by omega))];exact q1
 have m1:=(bz (f:=eL) ra).trans (cV out _ (by omega));have m2:cE [.dat (.list out)] (h3++[.lst (left.map D.dat)])=.ok (.dat (.list (bY ltB out))) (h3++[.lst (left.map D.dat)]):=by simp[cE,listOf,so]
 have t1:bU 2 (ue (aa (aj (.str "a")) (aa (aj (.str "aa")) (aa (aj (.str "ab")) (aa (aj (.str "abcdef")) (aa (aj (.str "b")) (aa (aj (.str "c")) (aa (aj (.str "d")) (aa (aj (.str "e")) (aa (aj (.str "m")) (aa (aj (.str "x")) (aa (aj (.str "zz")) (aa (aj (.str "zzzzzz")) ah))))))))))))) [some (.ref i),some (.int (m:Int)),none] h=.ok (.nx [some (.ref i),some (.int (m:Int)),some (.ref h.length)]) (h++[.lst (vO.map D.dat)]):=rfl;have m3:ag cE (aa (bZ 1 (rQ (aa (ag aF (aa (ae 0) (aa (ai dA (ae 1) (aj (.int 1))) ah))) ah)) (aq 0) cX HI) ah) [some (.ref i),some (.int (m:Int)),some (.ref h.length)] (h++[.lst (vO.map D.dat)])=.ok (.dat (.list (bY ltB out))) (h3++[.lst (left.map D.dat)]):=aw (ak m1 rfl) m2;have m4:dH [.dat (.list (bY ltB out))] (h3++[.lst (left.map D.dat)])=.ok (.dat (.tuple (bY ltB out))) (h3++[.lst (left.map D.dat)]):=rfl;have run:kQ [.ref i,.int (m:Int)] h=.ok (.dat (.tuple (bY ltB out))) (h3++[.lst (left.map D.dat)]):=by unfold kQ pU;exact fV rfl (aP t1 (dN (aw (ak m3 rfl) m4)))
 exact⟨_,h3,Ba b run (s2.trans q2),s2.trans q2,bY ltB out,rfl,rn,by omega⟩
theorem HK(b:Px i h)(hz:ns.length<=16777216)(e2:∀h,aN (ae 2) ρ h=.ok (ns.map D.dat) h)(e0:ρ[0]?=some (some (.ref i)))(e3:ρ[3]?=some (some (.int s)))(e5:ρ[5]?=some (some (.dat one))) :
  Dp i h (bZ 1 (aN (ae 2)) (aq 0) (aO (ai oLt (ag aF (aa (ae 1) (aa (aj (.int 8)) ah))) (ae 4))) (br (aa (ae 6) (aa (ae 0) ah))) ρ h) λd=>∃ls:WA,d=.dat (.list (ls.map λy=>.tuple [one,y]))/\ls.Sublist ns:=by
 unfold bZ
 obtain⟨ys,zs,h',q1,q2,q3,q4⟩:=jn (n:=1) (ρ:=ρ) (g:=aq 0) (t:=aO (ai oLt (ag aF (aa (ae 1) (aa (aj (.int 8)) ah))) (ae 4))) (e:=br (aa (ae 6) (aa (ae 0) ah))) (Ps i h) (λx y=>∃d,x=.dat d/\y=.dat (.tuple [one,d])) (xs:=ns.map D.dat) (h:=h) (λx hx h1 s1=>by
  obtain⟨d,hd,rfl⟩:=SU.mp hx;obtain⟨_,h2,e2,s2,k,rfl,hk⟩:=hE (s1.px b) (c:=8) (by decide) (by decide);refine⟨some (.dat d)::ρ,h1,decide ((k:Int)<s),h2,rfl,?_,?_⟩
  ·simp[e0,e2,e3,tL]
  ·cases hc:decide ((k:Int)<s)with
   |false=>exact .inl ⟨rfl,s1.trans s2⟩
   |true=>exact .inr ⟨rfl,.dat (.tuple [one,d]),h2,by simp[e5],⟨d,rfl,rfl⟩,s1.trans s2⟩) b.refl
 obtain⟨ls,rfl,sl⟩:=zi q3;rw[vK q4]at q1;have ea:mI 1 (aN (ae 2)) (aq 0) (aO (ai oLt (ag aF (aa (ae 1) (aa (aj (.int 8)) ah))) (ae 4))) (br (aa (ae 6) (aa (ae 0) ah))) ρ h=.ok ((ls.map λy=>PyData.tuple [one,y]).map D.dat) h':=by unfold mI;rw[e2];simp only[R.aJ,SG,sz hz,Tg];exact q1
 refine⟨.dat (.list (ls.map λy=>.tuple [one,y])),h',?_,q2,ls,rfl,sl⟩;rw[bz ea];exact cV _ h' (by rw[SG];exact Sw sl.length_le hz)
noncomputable abbrev HL:MS:=bU 4 (ai dA (ae 4) (bZ 1 (aN (ae 2)) (aq 0) (aO (ai oLt (ag aF (aa (ae 1) (aa (aj (.int 8)) ah))) (ae 4))) (br (aa (ae 6) (aa (ae 0) ah)))))
theorem HM(r:Nr ns):∀{xs pre acc:WA} {h:Hm},ns=pre++xs->Px i h->Pw pre ns acc->∀a5:Option D,Dp i h (bX (aq 5) HL (xs.map D.dat) [some (.ref i),some (.int m),some (.dat (.tuple ns)),some (.int s),some (.dat (.list acc)),a5] h) λf=>∃(acc':WA) (b5:Option D),f=.nx [some (.ref i),some (.int m),some (.dat (.tuple ns)),some (.int s),some (.dat (.list acc')),b5]/\Pw ns ns acc'
 | [],pre,acc,h,e,b,P,a5=>by
  have e':ns=pre:=by grind
  exact Dp.ok b ⟨acc,a5,rfl,by grind⟩
 |x::xs,pre,acc,h,e,b,P,a5=>by
  have l12:=r.le;obtain⟨_,h2,e2,s2,ls,rfl,sl⟩:=HK (h:=h) b (ns:=ns) (s:=s) (one:=x) (ρ:=[some (.ref i),some (.int m),some (.dat (.tuple ns)),some (.int s),some (.dat (.list acc)),some (.dat x)]) (by omega) (λh=>cv rfl) rfl rfl rfl;have P2:=P.step r.toRw e sl;obtain⟨f,h3,e3,s3,k⟩:=HM (s:=s) (m:=m) r (xs:=xs) (pre:=pre++[x]) (acc:=acc++ls.map λy=>.tuple [x,y]) (by simp[e]) (s2.px b) P2 (some (.dat x));refine⟨f,h3,?_,s2.trans s3,k⟩
  have lp:acc.length+(ls.map λy=>PyData.tuple [x,y]).length<=16777216:=by
   have l1:=P2.len;have l3:(pre++[x]).length<=12:=by have:(pre++x::xs).length<=12:=e▸l12;simp only[SN,SM,Ts]at this ⊢;omega
   have l4:(pre++[x]).length*ns.length<=12*12:=Tv l3 l12;simp only[SN]at l1 l4 ⊢;omega
  have eb:HL [some (.ref i),some (.int m),some (.dat (.tuple ns)),some (.int s),some (.dat (.list acc)),some (.dat x)] h=.ok (.nx [some (.ref i),some (.int m),some (.dat (.tuple ns)),some (.int s),some (.dat (.list (acc++ls.map λy=>.tuple [x,y]))),some (.dat x)]) h2:=
   bK (ao (x:=.dat (.list acc)) rfl e2 (eA h2 lp))
  simp only[SV,bX,aq,R.cK,R.aJ,TM,Tw];rw[eb];simp only[R.cK,R.aJ];exact e3
theorem Nq(b:Px i h){m:Nat}(hm:m<=11):Dp i h (oO [.ref i,.int (m:Int)] h) λd=>∃(ns:WA) (r:Rel),d=.dat (aS ns r)/\Nr ns/\ns.length<=m:=by
 obtain⟨_,h2,e2,s2,ns,rfl,rn,nl⟩:=HJ b hm;have b2:=s2.px b;obtain⟨_,h4,e4,s4,u,rfl,hu⟩:=hE b2 (c:=4) (by decide) (by decide)
 obtain⟨sh,esh⟩:∃s:Int,ox [PyData.int 1,.int 2,.int 3,.int 5] (u:Int)=some (.int s):=by
  obtain⟨x,ex,mx⟩:=tM (xs:=[PyData.int 1,.int 2,.int 3,.int 5]) (k:=u) (by grind)
  grind
 obtain⟨_,h5,e5,s5,ss,b5,rfl,P⟩:=HM (i:=i) (s:=sh) (m:=(m:Int)) rn (xs:=ns) (pre:=[]) (acc:=[]) rfl (s4.px b2) ⟨.nil,by simp,by simp⟩ none
 have w:Wb (ns.length*ns.length) ns ss:=by
  refine⟨rn,⟨λp m=>?_,P.ris⟩,λx y m=>?_,P.len⟩
  ·obtain⟨x,y,rfl,hx,hy⟩:=P.mem p m;exact⟨x,y,rn.sub x hx,rn.sub y hy,rfl⟩
  ·obtain⟨x',y',e,hx,hy⟩:=P.mem _ m;simp only[PyData.tuple.injEq,List.cons.injEq,and_true]at e;obtain⟨rfl,rfl⟩:=e;exact⟨hx,hy⟩
 refine⟨.dat (.tuple [.tuple ns,.tuple ss]),h5,?_,(s2.trans s4).trans s5,ns,ik ss,by rw[aS,<- zk w],rn,nl⟩;have i1:ai cn (aj (.list [.int 1,.int 2,.int 3,.int 5])) (ag aF (aa (ae 0) (aa (aj (.int 4)) ah))) [some (.ref i),some (.int (m:Int)),none,none,none,none] h2=.ok (.int sh) h4:=ao rfl (aw (xs:=[.ref i,.int 4]) rfl e4) (by simp only[cn,jz,wc,esh])
 exact fV rfl (aP (rL (x:=.dat (.tuple [.tuple ns,.int sh,.list []])) ((bz (f:=lR) (ak (aw (xs:=[.ref i,.int (m:Int)]) rfl e2) (ak i1 (ak (x:=.dat (.list [])) rfl rfl)))).trans (M9 _ _ _ _)) rfl)
  (aP (fN (cv (ds:=ns) rfl) e5) (dN (bL (a:=.tuple ns) (b:=.tuple ss) rfl (aw (xs:=[.dat (.list ss)]) rfl rfl)))))
theorem sT:∀{ls:WA} {ys:List D},PySem.Paired (λx y=>∃d,x=.dat d/\y=.dat (.tuple [d,d])) (ls.map D.dat) ys->ys=(ls.map λy=>PyData.tuple [y,y]).map D.dat
 | [],ys,h=>by cases h;rfl
 |l::ls,ys,h=>by
  cases h with
  |cons a b=>obtain⟨d,e,rfl⟩:=a;cases e;rw[sT b];rfl
theorem xY(b:Px i h)(Rn:Nr ns)(nl:ns.length<=7):Dp i h (fE [.ref i,.dat (aS ns r)] h) λd=>∃q:Rel,d=.dat (aS ns q):=by
 obtain⟨ys,zs,h',q1,q2,q3,q4⟩:=jn (n:=1) (ρ:=[some (.ref i),some (.dat (aS ns r)),none]) (g:=aq 0) (t:=aO (ai oEq (ag aF (aa (ae 1) (aa (aj (.int 2)) ah))) (aj (.int 0)))) (e:=br (aa (ae 0) (aa (ae 0) ah))) (Ps i h) (λx y=>∃d,x=.dat d/\y=.dat (.tuple [d,d])) (xs:=ns.map D.dat) (h:=h) (λx hx h1 s1=>by
  obtain⟨d,hd,rfl⟩:=SU.mp hx;obtain⟨_,h2,e2,s2,k,rfl,hk⟩:=hE (s1.px b) (c:=2) (by decide) (by decide);refine⟨[some (.dat d),some (.ref i),some (.dat (aS ns r)),none],h1,decide ((k:Int)=0),h2,rfl,bA (ao (aw (xs:=[.ref i,.int 2]) rfl e2) rfl (tQ h2)),?_⟩
  cases hc:decide ((k:Int)=0)with
  |false=>exact .inl ⟨rfl,s1.trans s2⟩
  |true=>exact .inr ⟨rfl,.dat (.tuple [d,d]),h2,bL rfl rfl,⟨d,rfl,rfl⟩,s1.trans s2⟩) b.refl
 obtain⟨ls,rfl,sl⟩:=zi q3;rw[sT q4]at q1;have ll:=sl.length_le;have lr:(rows ns r).length<=49:=Sw dw (Tv nl nl);have lm:(ls.map λy=>PyData.tuple [y,y]).length=ls.length:=SG ..;have ea:bZ 1 (aN (ai cn (ae 1) (aj (.int 0)))) (aq 0) (aO (ai oEq (ag aF (aa (ae 1) (aa (aj (.int 2)) ah))) (aj (.int 0)))) (br (aa (ae 0) (aa (ae 0) ah))) [some (.ref i),some (.dat (aS ns r)),none] h=.ok (.dat (.list (ls.map λy=>.tuple [y,y]))) h':=by unfold bZ;refine aw (xs:=(ls.map λy=>PyData.tuple [y,y]).map D.dat) (h1:=h') ?_ (cV _ h' (by omega));unfold mI;rw[cv (ds:=ns) rfl];simp only[R.aJ,SG,sz (show ns.length<=16777216 by omega),Tg];exact q1
 have sub2:∀d∈ls.map (λy=>PyData.tuple [y,y]),∃a,d=.tuple [a,a]/\a∈ns:=λd m=>by obtain⟨a,ha,rfl⟩:=SU.mp m;exact⟨a,rfl,sl.subset ha⟩
 have in2:∀d∈ls.map (λy=>PyData.tuple [y,y]),E7 d:=λd m=>by obtain⟨a,rfl,ha⟩:=sub2 d m;exact⟨a,a,Rn.sub a ha,Rn.sub a ha,rfl⟩
 obtain⟨u1,u2,u3⟩:=Lm bQ (aL (r:=r) Rn).sub in2
 have w:Wb 100 ns (un (rows ns r) (ls.map λy=>.tuple [y,y])):=⟨Rn,u1,λx y m=>by
  rcases(u2 _).mp m with z|z
  ·exact⟨(cg.mp z).1,(cg.mp z).2.1⟩
  ·obtain⟨a,e,ha⟩:=sub2 _ z;simp only[PyData.tuple.injEq,List.cons.injEq,and_true]at e;obtain⟨rfl,rfl⟩:=e
   exact⟨ha,ha⟩,by omega⟩
 have so:=E8 bQ (aL (r:=r) Rn).sub in2 (by omega) h';refine⟨.dat (.tuple [.tuple ns,.tuple (un (rows ns r) (ls.map λy=>.tuple [y,y]))]),h',?_,q2,ik _,by rw[aS,<- zk w]⟩;have bl:uh [.dat (.tuple (rows ns r))] h'=.ok (.dat (.list (rows ns r))) h':=rfl;exact fV rfl (aP (bK ea) (dN (bL (a:=.tuple ns) rfl (aw (ak (aw (ak (ao (aw (xs:=[.dat (.tuple (rows ns r))]) rfl bl) (y:=.dat (.list (ls.map λy=>.tuple [y,y]))) rfl (eA h' (by omega))) rfl) so) rfl) rfl))))
section
variable {ns:WA} {r q:Rel} {a b x y:PyData} {kd:Kd}
theorem Nt(Rn:Nr ns)(hx:x∈ns)(hy:y∈ns):∀d,d∈rows ns (Ih r x y)<->(d∈rows ns r/\d≠.tuple [x,y])\/(d=.tuple [x,y]/\d∉rows ns r):=λd=>by
 rw[bB,bB];constructor
 ·rintro⟨a,b,rfl,ha,hb,h⟩;by_cases z:a=x/\b=y
  ·obtain⟨rfl,rfl⟩:=z;simp only[Ih,and_self,Tg]at h
   grind
  ·simp only[Ih,z,Tz]at h;exact .inl ⟨⟨a,b,rfl,ha,hb,h⟩,by simp_all⟩
 ·rintro(⟨⟨a,b,rfl,ha,hb,h⟩,z⟩|⟨rfl,z⟩)
  ·have z':¬ (a=x/\b=y):=by simpa using z
   exact⟨a,b,rfl,ha,hb,by simp only[Ih,z',Tz];exact h⟩
  ·refine⟨x,y,rfl,hx,hy,?_⟩;simp only[Ih,and_self,Tg]
   cases e:r x y with
   |false=>rfl
   |true=>exact absurd ⟨x,y,rfl,hx,hy,e⟩ z
theorem Fc(Rn:Nr ns)(hx:x∈ns)(hy:y∈ns)(nl:ns.length<=7)(h:Hm):bO [.dat (.tuple (rows ns r)),.dat (.tuple [.tuple [x,y]])] h=.ok (.dat (.tuple (rows ns (Ih r x y)))) h:=by
 have lr:(rows ns r).length<=49:=Sw dw (Tv nl nl);have tr:=xU bQ (aL (r:=r) Rn);have t1:ax [PyData.tuple [x,y]]=true:=by simp[ax,zl Rn hx hy]
 have d1:∀e∈[PyData.tuple [x,y]],e.depth<=40:=λe m=>by rw[SO.mp m];exact Sw (bQ.dep _ (HD Rn hx hy)) (by decide)
 have k1:=dM (n:=1) (it:=aN (ae 0)) (g:=aq 0) (t:=aO (ai kj (ae 0) (ae 2))) (e:=ae 0) (ρ:=[some (.dat (.tuple (rows ns r))),some (.dat (.tuple [.tuple [x,y]])),none]) (h:=h) (h1:=h) (ds:=rows ns r) (cv rfl) (by omega) (λd=>!decide (d∈[PyData.tuple [x,y]])) id (λd hd=>⟨_,rfl,bA (ao rfl rfl (vM (aT tr hd) t1 d1 h)),λ_=>rfl⟩);have k2:=dM (n:=1) (it:=aN (ae 1)) (g:=aq 0) (t:=aO (ai kj (ae 0) (ae 1))) (e:=ae 0) (ρ:=[some (.dat (.tuple (rows ns r))),some (.dat (.tuple [.tuple [x,y]])),none]) (h:=h) (h1:=h) (ds:=[PyData.tuple [x,y]]) (cv rfl) (by simp) (λd=>!decide (d∈rows ns r)) id (λd hd=>⟨_,rfl,bA (ao rfl rfl (vM (aT t1 hd) tr (Cr bQ (aL Rn)) h)),λ_=>rfl⟩);rw[Wn]at k1 k2;generalize hA:(rows ns r).filter (λd=>!decide (d∈[PyData.tuple [x,y]]))=A at k1;generalize hB:[PyData.tuple [x,y]].filter (λd=>!decide (d∈rows ns r))=B at k2;have la:A.length<=49:=by rw[<- hA];exact Sw (S9 _ _) lr
 have lb:B.length<=1:=by rw[<- hB];exact Sw (S9 _ _) (by simp)
 have ma:∀d,d∈A<->d∈rows ns r/\d≠.tuple [x,y]:=λd=>by rw[<- hA,S6];simp
 have mb:∀d,d∈B<->d=.tuple [x,y]/\d∉rows ns r:=λd=>by rw[<- hB,S6];simp
 have sub:∀d∈A++B,E7 d:=λd m=>by
  rcases SD.mp m with z|z
  ·exact(aL Rn).sub d ((ma d).mp z).1
  ·rw[((mb d).mp z).1];exact HD Rn hx hy
 have nd:(A++B).Nodup:=by
  refine T4.mpr ⟨?_,?_,λp hp q hq e=>?_⟩
  ·rw[<- hA];exact UM T9 (fG bQ (aL Rn))
  ·rw[<- hB];exact UM T9 (by simp)
  ·subst e;exact((ma p).mp hp).2 ((mb p).mp hq).1
 have so:cL (A++B)=true:=bQ.Pe sub (by simp;omega);have es:bY ltB (A++B)=rows ns (Ih r x y):=vI bQ (tO bQ sub nd) (aL Rn) λd=>by rw[(bG _ _).mem_iff,SD,ma,mb,Nt Rn hx hy]
 have bs:cE [.dat (.list (A++B))] h=.ok (.dat (.list (rows ns (Ih r x y)))) h:=by simp[cE,listOf,so,es]
 exact fV rfl (aP (bK (ao k1 k2 (eA h (by omega)))) (dN (aw (ak (aw (xs:=[.dat (.list (A++B))]) rfl bs) rfl) rfl)))
end
theorem qy(Rn:Nr ns)(s:zs.Sublist (rows ns r)):zs=rows ns (ik zs):=
 zk (k:=zs.length) ⟨Rn,⟨λd m=>(aL Rn).sub d (s.subset m),(aL Rn).ris.sublist s⟩,λa b m=>⟨(cg.mp (s.subset m)).1,(cg.mp (s.subset m)).2.1⟩,Ss _⟩
theorem Bb{ds:WA}(I:Fm->Prop)(H:∀d∈ds,∀ρ,I ρ->∃ρ1 ρ2,g (.dat d) ρ h=.ok ρ1 h/\b ρ1 h=.ok (.nx ρ2) h/\I ρ2)(i:I ρ):∃ρ',bX g b (ds.map D.dat) ρ h=.ok (.nx ρ') h/\I ρ':=by
 induction ds generalizing ρ with
 |nil=>exact⟨ρ,rfl,i⟩
 |cons d ds ih=>
  obtain⟨ρ1,ρ2,e1,e2,i2⟩:=H d (by simp) ρ i
  simp_all[bX]
noncomputable def Nu:WA:=[.str "stable",.str "standing",.str "preferred",.str "whole",.str "grounded"]
theorem HN(h:d∈Nu):∃kd:Kd,d=.str kd.nm:=by
 simp[Nu]at h;rcases h with rfl|rfl|rfl|rfl|rfl
 ·exact⟨.stable,rfl⟩
 ·exact⟨.standing,rfl⟩
 ·exact⟨.preferred,rfl⟩
 ·exact⟨.whole,rfl⟩
 ·exact⟨.grounded,rfl⟩
section
variable {ns:WA} {r q:Rel} {a b x y:PyData} {kd:Kd}
theorem xZ(Rn:Nr ns)(kd:Kd)(ha:a∈ns)(hb:b∈ns)(h:Hm):cD [.dat (aS ns r),.dat (.str kd.nm),.dat a,.dat b] h=.ok (.bool (lN kd r a b)) h:=by
 have ix:∀ρ:Fm,ρ[0]?=some (some (.dat (aS ns r)))->ai cn (ae 0) (aj (.int 1)) ρ h=.ok _ h:=λρ e=>ao (x:=.dat (aS ns r)) (by simp_all) rfl rfl
 have p1:F2 [4,5,6] (aa (ai qz (br (aa (ae 2) (aa (ae 2) ah))) (ai cn (ae 0) (aj (.int 1)))) (aa (ai qz (br (aa (ae 3) (aa (ae 3) ah))) (ai cn (ae 0) (aj (.int 1)))) (aa (ai qz (br (aa (ae 3) (aa (ae 2) ah))) (ai cn (ae 0) (aj (.int 1)))) ah))) [some (.dat (aS ns r)),some (.dat (.str kd.nm)),some (.dat a),some (.dat b),none,none,none] h =
   .ok (.nx [some (.dat (aS ns r)),some (.dat (.str kd.nm)),some (.dat a),some (.dat b),some (.bool (r a a)),some (.bool (r b b)),some (.bool (r b a))]) h:=by
  unfold F2;rw[ak (ao (bL rfl rfl) (ix _ rfl) (zo Rn ha ha h)) (ak (ao (bL rfl rfl) (ix _ rfl) (zo Rn hb hb h)) (ak (ao (bL rfl rfl) (ix _ rfl) (zo Rn hb ha h)) rfl))];rfl
 refine fV rfl (aP p1 (dN ?_));unfold lN;cases kd<;>cases r a a<;>cases r b b<;>cases r b a<;>kernel_rfl
noncomputable abbrev Fk(ns:WA)(r:Rel)(kd:Kd)(L:Nat)(x y:Option D):Fm:=[some (.dat (aS ns r)),some (.dat (.str kd.nm)),some (.ref L),x,y]
noncomputable abbrev hK(h:Hm)(acc:WA):Hm:=h++[.lst (acc.map D.dat)]
noncomputable abbrev Cv:MS:=nY (vU (aO (ai oEq (ae 3) (ae 4))) (i6 (cy (ag cD (aa (ae 0) (aa (ae 1) (aa (ae 3) (aa (ae 4) ah)))))))) (hG (mq eF (ae 2) (br (aa (ae 3) (aa (ae 4) ah))))) dz
theorem zr(Rn:Nr ns):∀{xs acc:WA},(∀p∈xs,p∈rows ns r)->acc.length+xs.length<=1000->∀a3 a4:Option D,∃b3 b4,bX (i7 (bP (aq 3) (bP (aq 4) iI))) Cv (xs.map D.dat) (Fk ns r kd h.length a3 a4) (hK h acc)=.ok (.nx (Fk ns r kd h.length b3 b4)) (hK h (acc++xs.filter (Cs kd r)))
 | [],acc,_,_,a3,a4=>⟨a3,a4,by simp[bX]⟩
 |p::xs,acc,hs,hl,a3,a4=>by
  obtain⟨a,b,rfl,ha,hb,_⟩:=bB.mp (hs p (by simp));simp only[SM]at hl;have e1:aO (ai oEq (ae 3) (ae 4)) (Fk ns r kd h.length (some (.dat a)) (some (.dat b))) (hK h acc)=.ok (decide (a=b)) (hK h acc):=bA (ao rfl rfl (DU (dY Rn ha) (dY Rn hb) (zq Rn ha) _));have e2:i6 (cy (ag cD (aa (ae 0) (aa (ae 1) (aa (ae 3) (aa (ae 4) ah)))))) (Fk ns r kd h.length (some (.dat a)) (some (.dat b))) (hK h acc)=.ok (!lN kd r a b) (hK h acc):=qr (kC (aw (xs:=[.dat (aS ns r),.dat (.str kd.nm),.dat a,.dat b]) rfl (xZ Rn kd ha hb _)));have e3:=HG e1 e2;have kc:Cs kd r (.tuple [a,b])=(decide (a=b) || !lN kd r a b):=rfl;rw[<- kc]at e3
  cases z:Cs kd r (.tuple [a,b])with
  |false=>rw[z]at e3;obtain⟨b3,b4,ih⟩:=zr Rn (h:=h) (xs:=xs) (acc:=acc) (λq m=>hs q (by simp[m])) (by omega) (some (.dat a)) (some (.dat b));refine⟨b3,b4,?_⟩;have st:Cv (Fk ns r kd h.length (some (.dat a)) (some (.dat b))) (hK h acc)=.ok (.nx (Fk ns r kd h.length (some (.dat a)) (some (.dat b)))) (hK h acc):=A8 e3 rfl;simp only[SV,bX,i7,U4,bP,aq,iI,R.aJ,R.cK,TM,Tw];rw[st];simp only[R.cK,R.aJ,VY,z,SF,Tz];exact ih
  |true=>
   rw[z]at e3;obtain⟨b3,b4,ih⟩:=zr Rn (h:=h) (xs:=xs) (acc:=acc++[.tuple [a,b]]) (λq m=>hs q (by simp[m])) (by simp;omega) (some (.dat a)) (some (.dat b));refine⟨b3,b4,?_⟩
   have ap:mq eF (ae 2) (br (aa (ae 3) (aa (ae 4) ah))) (Fk ns r kd h.length (some (.dat a)) (some (.dat b))) (hK h acc)=.ok D.none (hK h (acc++[PyData.tuple [a,b]])):=by
    have g:(h++[MO.lst (acc.map D.dat)])[h.length]?=some (.lst (acc.map D.dat)):=by simp
    have c:decide ((acc.map D.dat).length<16777216)=true:=Tn (by rw[SG];omega);have t:br (aa (ae 3) (aa (ae 4) ah)) (Fk ns r kd h.length (some (.dat a)) (some (.dat b))) (hK h acc)=.ok (.dat (.tuple [a,b])) (hK h acc):=bL rfl rfl;simp only[mq,ae,U8,Uh,R.aJ,KZ,g,Tg];rw[t];simp only[R.aJ,eF,g,c,Tg];rw[Vi _ _ (Ss _)];simp
   have st:Cv (Fk ns r kd h.length (some (.dat a)) (some (.dat b))) (hK h acc)=.ok (.nx (Fk ns r kd h.length (some (.dat a)) (some (.dat b)))) (hK h (acc++[PyData.tuple [a,b]])):=Pg e3 (fO ap);simp only[SV,bX,i7,U4,bP,aq,iI,R.aJ,R.cK,TM,Tw];rw[st];simp only[R.cK,R.aJ,VY,z,Tg];rw[ih];simp
theorem Bc(w:Wf h)(e:f xs h=.ok (.dat x) (h++t)):f7 f xs h=.ok (.dat x) h:=by
 unfold f7;have  := SR.mpr λo m=>w o m
 simp_all[D.below]
theorem lP(Rn:Nr ns)(kd:Kd)(w:Wf h):bN [.dat (aS ns r),.dat (.str kd.nm)] h=.ok (.dat (aS ns (dZ kd r))) h:=by
 have l:=tP (r:=r) (Rn.le);obtain⟨b3,b4,lp⟩:=zr Rn (xs:=rows ns r) (acc:=[]) (λ_ m=>m) (by grind) none none;have fl:(rows ns r).filter (Cs kd r)=rows ns (dZ kd r):=sR Rn (λa b=>decide (a=b) || !lN kd r a b) λa _ b _=>rfl;rw[TH,fl]at lp;have g:(h++[MO.lst ((rows ns (dZ kd r)).map D.dat)])[h.length]?=some (.lst ((rows ns (dZ kd r)).map D.dat)):=by simp
 have bt:dH [.ref h.length] (h++[.lst ((rows ns (dZ kd r)).map D.dat)])=.ok (.dat (.tuple (rows ns (dZ kd r)))) (h++[.lst ((rows ns (dZ kd r)).map D.dat)]):=by simp[dH,listOf,g,ki]
 refine Bc (t:=[.lst ((rows ns (dZ kd r)).map D.dat)]) w ?_;exact fV rfl (aP (bK (x:=.ref h.length) (h1:=h++[MO.lst (List.map D.dat [])]) rfl) (aP (fN (cv (ao (x:=.dat (aS ns r)) rfl (y:=.int 1) rfl rfl)) lp) (dN (bL (a:=.tuple ns) (ao (x:=.dat (aS ns r)) rfl (y:=.int 0) rfl rfl) (aw (xs:=[.ref h.length]) rfl bt)))))
end
section
variable {ns:WA} {r q:Rel} {a b x y:PyData} {kd:Kd}
theorem Fd(u:vH U)(r:∀d∈xs,U d)(q:∀d∈ys,U d)(l:xs.length+ys.length<=120)(l2:(un xs ys).length<64)(h:Hm):fB [.dat (.list (xs++ys))] h=.ok (.dat (.list (un xs ys))) h:=by
 obtain⟨h1,h2,h3⟩:=Hy u r q;have l3  := by unfold un at l2;rw[(bG _ _).length_eq]at l2;exact l2
 have s2  := u.set (λd m=>(SD.mp m).elim (r d) (q d)) (by simp;omega);have s3:cL (fg _)=true:=u.Pe (λd m=>((h1 d).mp m).elim (r d) (q d)) l3;simp[fB,jD,listOf,s2,s3,un,Ia]
theorem Kl(Rn:Nr ns):un (rows ns r) (rows ns q)=rows ns λa b=>r a b || q a b:=by
 obtain⟨u1,u2,u3⟩:=Lm bQ (aL Rn).sub (aL Rn).sub;refine vI bQ u1 (aL Rn) λp=>?_;rw[u2,bB,bB,bB];constructor
 ·rintro(⟨a,b,rfl,ha,hb,h⟩|⟨a,b,rfl,ha,hb,h⟩)
  ·exact⟨a,b,rfl,ha,hb,by simp[h]⟩
  ·exact⟨a,b,rfl,ha,hb,by simp[h]⟩
 ·rintro⟨a,b,rfl,ha,hb,h⟩;simp at h;exact h.elim (λh=>.inl ⟨a,b,rfl,ha,hb,h⟩) λh=>.inr ⟨a,b,rfl,ha,hb,h⟩
noncomputable def HP(kd:Kd)(r:Rel):Rel:=λa b=>!decide (a=b)&&lN kd r a b
theorem Nv:rows ns (λa b=>r a b || HP kd r a b)=rows ns (nN kd r):=oZ λa ha b hb=>by
 unfold nN HP;rw[(gx).lN ha hb];unfold dZ;by_cases z:a=b
 ·simp[z]
 ·cases r a b<;>cases lN kd r a b<;>simp
noncomputable abbrev Cw:MS:=bU 2 (ai dA (ae 2) (bZ 1 (aN (ai cn (ae 0) (aj (.int 0)))) (aq 0) (o3 (aO (ai kI (ae 4) (ae 0))) (cy (ag cD (aa (ae 1) (aa (ae 2) (aa (ae 4) (aa (ae 0) ah))))))) (br (aa (ae 4) (aa (ae 0) ah)))))
theorem D1(Rn:Nr ns):∀{xs acc:WA},(∀p∈xs,p∈ns)->acc.length+xs.length*12<=1000->∀a3:Option D,∃b3,bX (aq 3) Cw (xs.map D.dat) [some (.dat (aS ns r)),some (.dat (.str kd.nm)),some (.dat (.list acc)),a3] h=.ok (.nx [some (.dat (aS ns r)),some (.dat (.str kd.nm)),some (.dat (.list (acc++xs.flatMap λa=>(ns.filter (HP kd r a)).map λb=>PyData.tuple [a,b]))),b3]) h
 | [],acc,_,_,a3=>⟨a3,by simp[bX]⟩
 |a::xs,acc,hs,hl,a3=>by
  have ha:=hs a (by simp);have ln:=Rn.le;simp only[SM]at hl
  have key:=dM (n:=1) (it:=aN (ai cn (ae 0) (aj (.int 0)))) (g:=aq 0) (t:=o3 (aO (ai kI (ae 4) (ae 0))) (cy (ag cD (aa (ae 1) (aa (ae 2) (aa (ae 4) (aa (ae 0) ah))))))) (e:=br (aa (ae 4) (aa (ae 0) ah)))
   (ρ:=[some (.dat (aS ns r)),some (.dat (.str kd.nm)),some (.dat (.list acc)),some (.dat a)]) (h:=h) (h1:=h) (ds:=ns) (cv (ao (x:=.dat (aS ns r)) rfl (y:=.int 0) rfl rfl)) (by omega) (HP kd r a) (λb=>.tuple [a,b]) (λb hb=>⟨_,rfl,
    DR (bA (ao rfl rfl (vL (dY Rn ha) (dY Rn hb) (by have:=zq Rn ha;omega) h))) (kC (aw (xs:=[.dat (aS ns r),.dat (.str kd.nm),.dat a,.dat b]) rfl (xZ Rn kd ha hb h))),λ_=>bL rfl rfl⟩)
  have lf:((ns.filter (HP kd r a)).map λb=>PyData.tuple [a,b]).length<=12:=by rw[SG];exact Sw (S9 _ _) ln
  obtain⟨b3,ih⟩:=D1 Rn (h:=h) (xs:=xs) (acc:=acc++(ns.filter (HP kd r a)).map λb=>PyData.tuple [a,b]) (λq m=>hs q (by simp[m])) (by rw[SN];omega) (some (.dat a));refine⟨b3,?_⟩;have st:Cw [some (.dat (aS ns r)),some (.dat (.str kd.nm)),some (.dat (.list acc)),some (.dat a)] h=.ok (.nx [some (.dat (aS ns r)),some (.dat (.str kd.nm)),some (.dat (.list (acc++(ns.filter (HP kd r a)).map λb=>PyData.tuple [a,b]))),some (.dat a)]) h:=bK (ao rfl key (eA h (by omega)))
  simp_all[SV,bX,aq,R.cK,R.aJ,TM,Tw,st,ih]
theorem sU(Rn:Nr ns)(nl:ns.length<=7)(kd:Kd)(h:Hm):eO [.dat (aS ns r),.dat (.str kd.nm)] h=.ok (.dat (aS ns (nN kd r))) h:=by
 obtain⟨b3,lp⟩:=D1 Rn (acc:=[]) (λ_ m=>m) (by grind) none;have lr:∀r:Rel,(rows ns r).length<=49:=λr=>Sw dw (Tv nl nl);have lr1:=lr r;have lr2:=lr (HP kd r);have e:=Kl (r:=r) (q:=HP kd r) Rn;rw[Nv]at e;have so:=Fd bQ (aL (r:=r) Rn).sub (aL (r:=HP kd r) Rn).sub (by omega) (by grind) h;rw[e]at so;have lp':bX (aq 3) Cw (ns.map D.dat) [some (.dat (aS ns r)),some (.dat (.str kd.nm)),some (.dat (.list [])),none] h=.ok (.nx [some (.dat (aS ns r)),some (.dat (.str kd.nm)),some (.dat (.list (rows ns (HP kd r)))),b3]) h:=lp
 exact fV rfl (aP (bK rfl) (aP (fN (cv (ao rfl rfl rfl)) lp') (dN (bL (ao rfl rfl rfl)
  (aw (ak (aw (ak (ao (aw (ak (ao rfl rfl rfl) rfl) rfl) rfl (eA h (by omega))) rfl) so) rfl) rfl)))))
noncomputable abbrev Cy:MS:=bj (bU 6 (br (aa (ai cn (ae 3) (ag aF (aa (ae 0) (aa (ag gb (aa (ae 3) ah)) ah)))) (aa (ai cn (ae 3) (ag aF (aa (ae 0) (aa (ag gb (aa (ae 3) ah)) ah)))) ah))))
  (bU 4 (ag bO (aa (ae 4) (aa (br (aa (ae 6) ah)) ah))))
theorem Lo(b:Px i h)(hn:0<ns.length)(nl:ns.length<=12)(e0:ρ[0]?=some (some (.ref i)))(e3:ρ[3]?=some (some (.dat (.tuple ns)))):Dp i h (ai cn (ae 3) (ag aF (aa (ae 0) (aa (ag gb (aa (ae 3) ah)) ah))) ρ h) λd=>∃x,d=.dat x/\x∈ns:=by
 obtain⟨_,h2,e2,s2,k,rfl,hk⟩:=hE b (c:=(ns.length:Int)) (by omega) (by omega);obtain⟨x,ex,mx⟩:=tM (xs:=ns) (k:=k) (by omega);refine⟨.dat x,h2,?_,s2,x,rfl,mx⟩
 simp_all
theorem D2(Rn:Nr ns)(nl:ns.length<=7)(hn:0<ns.length):∀{xs:List D} {q:Rel} {h:Hm},Px i h->∀a5 a6:Option D,Dp i h (bX (aq 5) Cy xs [some (.ref i),a1,a2,some (.dat (.tuple ns)),some (.dat (.tuple (rows ns q))),a5,a6] h) λf=>∃(q':Rel) (b5 b6:Option D),f=.nx [some (.ref i),a1,a2,some (.dat (.tuple ns)),some (.dat (.tuple (rows ns q'))),b5,b6]
 | [],q,h,b,a5,a6=>Dp.ok b ⟨q,a5,a6,rfl⟩
 |x::xs,q,h,b,a5,a6=>by
  obtain⟨_,h2,e2,s2,y,rfl,hy⟩:=Lo b hn Rn.le (ρ:=[some (.ref i),a1,a2,some (.dat (.tuple ns)),some (.dat (.tuple (rows ns q))),some x,a6]) rfl rfl;have b2:=s2.px b;obtain⟨_,h3,e3,s3,z,rfl,hz⟩:=Lo b2 hn Rn.le (ρ:=[some (.ref i),a1,a2,some (.dat (.tuple ns)),some (.dat (.tuple (rows ns q))),some x,a6]) rfl rfl;have b3:=s3.px b2;obtain⟨f,h4,e4,s4,k⟩:=D2 Rn nl hn (a1:=a1) (a2:=a2) (xs:=xs) (q:=Ih q y z) b3 (some x) (some (.dat (.tuple [y,z])));refine⟨f,h4,?_,(s2.trans s3).trans s4,k⟩;have t1:br (aa (ae 6) ah) [some (.ref i),a1,a2,some (.dat (.tuple ns)),some (.dat (.tuple (rows ns q))),some x,some (.dat (.tuple [y,z]))] h3=.ok (.dat (.tuple [.tuple [y,z]])) h3:=(bz (f:=lR) (ak (x:=.dat (.tuple [y,z])) rfl rfl)).trans (Hk _ h3)
  have st:Cy [some (.ref i),a1,a2,some (.dat (.tuple ns)),some (.dat (.tuple (rows ns q))),some x,a6] h=.ok (.nx [some (.ref i),a1,a2,some (.dat (.tuple ns)),some (.dat (.tuple (rows ns (Ih q y z)))),some x,some (.dat (.tuple [y,z]))]) h3:=
   aP (bK (bL e2 e3)) (bK (aw (ak (x:=.dat (.tuple (rows ns q))) rfl (ak t1 rfl)) (Fc Rn hy hz nl h3)))
  simp only[bX,aq,R.cK,R.aJ,TM,Tw];rw[st];simp only[R.cK,R.aJ];exact e4
theorem D3(b:Px i h)(Rn:Nr ns)(nl:ns.length<=7){m:Nat}(hm:m<=100):Dp i h (eQ [.ref i,.dat (aS ns r),.int (m:Int)] h) λd=>∃q:Rel,d=.dat (aS ns q):=by
 obtain⟨_,h2,e2,s2,k,rfl,hk⟩:=hE b (c:=(m:Int)+1) (by omega) (by omega);have b2:=s2.px b;have t0:av (.tuple ns)=true:=by simp only[av];exact mi.wZ Rn.sub
 have ne:kI (.dat (.tuple ns)) (.dat (.tuple [])) h2=.ok (.bool !(decide (PyData.tuple ns=.tuple []))) h2:=vL t0 rfl (Sw (Nat.min_le_right _ _) (by decide)) h2
 have ev:ai pb (ag aF (aa (ae 0) (aa (ai dA (ae 2) (aj (.int 1))) ah))) (ag ui (aa (ai kI (ae 3) (aj (.tuple []))) ah)) [some (.ref i),some (.dat (aS ns r)),some (.int (m:Int)),some (.dat (.tuple ns)),some (.dat (.tuple (rows ns r))),none,none] h=.ok (.int ((k:Int)*(if ns=[]then 0 else 1))) h2:=by
  have bi:ag ui (aa (ai kI (ae 3) (aj (.tuple []))) ah) [some (.ref i),some (.dat (aS ns r)),some (.int (m:Int)),some (.dat (.tuple ns)),some (.dat (.tuple (rows ns r))),none,none] h2=.ok (.int (if ns=[]then 0 else 1)) h2:=by
   refine(bz (ak (ao (x:=.dat (.tuple ns)) rfl (y:=.dat (.tuple [])) rfl ne) rfl)).trans ?_;by_cases z:ns=[]
   ·simp[z,ui]
   ·simp[z,ui]
  refine ao (aw (xs:=[.ref i,.int ((m:Int)+1)]) rfl e2) bi (qw ?_ ?_ h2)
  ·split<;>decide
  ·split<;>decide
 have fin:∀(n:Nat) (h3:Hm) (q:Rel) (b5 b6:Option D),ai pb (ag aF (aa (ae 0) (aa (ai dA (ae 2) (aj (.int 1))) ah))) (ag ui (aa (ai kI (ae 3) (aj (.tuple []))) ah)) [some (.ref i),some (.dat (aS ns r)),some (.int (m:Int)),some (.dat (.tuple ns)),some (.dat (.tuple (rows ns r))),none,none] h=.ok (.int (n:Int)) h2->n<1000 ->
   bX (aq 5) Cy (nums 0 n) [some (.ref i),some (.dat (aS ns r)),some (.int (m:Int)),some (.dat (.tuple ns)),some (.dat (.tuple (rows ns r))),none,none] h2=.ok (.nx [some (.ref i),some (.dat (aS ns r)),some (.int (m:Int)),some (.dat (.tuple ns)),some (.dat (.tuple (rows ns q))),b5,b6]) h3->eQ [.ref i,.dat (aS ns r),.int (m:Int)] h=.ok (.dat (aS ns q)) h3:=λn h3 q b5 b6 en hn lp=>
  fV rfl (aP (rL (x:=.dat (aS ns r)) rfl rfl) (aP (fN (A0 (ak en rfl) (by omega)) lp) (dN (bL (a:=.tuple ns) rfl rfl))))
 by_cases z:ns=[]
 ·rw[if_pos z,Int.mul_zero]at ev;exact⟨_,h2,fin 0 h2 r none none ev (by decide) rfl,s2,r,rfl⟩
 ·rw[if_neg z,Int.mul_one]at ev;obtain⟨_,h3,e3,s3,q,b5,b6,rfl⟩:=D2 Rn nl (List.length_pos_iff.mpr z) (a1:=some (.dat (aS ns r))) (a2:=some (.int (m:Int))) (xs:=nums 0 k) (q:=r) b2 none none;exact⟨_,h3,fin k h3 q b5 b6 ev (by omega) e3,s2.trans s3,q,rfl⟩
end
theorem Km:rows ns (λ_ _=>false)=[]:=List.eq_nil_iff_forall_not_mem.mpr λp m=>by obtain⟨a,b,_,_,_,h⟩:=bB.mp m;cases h
theorem Nw(e:ma ρ h=.ok xs h1)(hz:xs.length<=1000):ue ma ρ h=.ok (.ref h1.length) (h1++[.lst xs]):=(bz e).trans (by simp[CU,sz (show xs.length<=16777216 by omega)])
theorem Ny{h h2:Hm}(l:h2.length=h.length)(ea:a ρ (h++[.lst xs])=.ok (.ref h.length) (h++[.lst xs]))(eb:b ρ (h++[.lst xs])=.ok y (h2++[.lst xs]))(hz:xs.length<=1000):mq eF a b ρ (h++[.lst xs])=.ok D.none (h2++[.lst (xs++[y])]):=by
 have g:(h++[MO.lst xs])[h.length]?=some (.lst xs):=by simp
 have g2:(h2++[MO.lst xs])[h.length]?=some (.lst xs):=by rw[<- l];simp
 have c:decide (xs.length<16777216)=true:=Tn (by omega);simp only[mq,ea,R.aJ,KZ,g,Tg,eb,eF,g2,c];rw[<- l,Vi _ _ (Ss _)];simp
theorem Kn{h:Hm}{ds:WA}(l:h.length=L)(hk:k<ds.length):∃x,cn (.ref L) (.int (k:Int)) (h++[.lst (ds.map D.dat)])=.ok (.dat x) (h++[.lst (ds.map D.dat)])/\x∈ds:=by
 obtain⟨x,ex,mx⟩:=tM (xs:=ds) (k:=k) hk;have g:(h++[MO.lst (ds.map D.dat)])[L]?=some (.lst (ds.map D.dat)):=by rw[<- l];simp
 have am:ox (ds.map D.dat) (k:Int)=some (.dat x):=by rw[tE,ex];rfl
 simp_all[cn,jz,g,wc,am]
theorem Nz(b:Px i h){m:Nat}(hm:m<=7):Dp i h (kT [.ref i,.int (m:Int)] h) λd=>∃(ns:WA) (r q:Rel),d=.dat (.tuple [aS ns r,aS ns q])/\Nr ns/\ns.length<=m:=by
 obtain⟨_,h1,e1,s1,ns,r0,rfl,rn,ln⟩:=Nq b (m:=m) (by omega);have b1:=s1.px b;have nl:ns.length<=7:=by omega
 obtain⟨_,h2,e2,s2,r,rfl⟩:=xY b1 (r:=r0) rn nl;have b2:=s2.px b1;obtain⟨_,h3,e3,s3,u,rfl,hu⟩:=hE b2 (c:=5) (by decide) (by decide);have b3:=s3.px b2;obtain⟨kx,ek,mk⟩:=tM (xs:=Nu) (k:=u) (by simp[Nu];omega);obtain⟨kd,rfl⟩:=HN mk;obtain⟨_,h4,e4,s4,q1,rfl⟩:=D3 b3 (r:=r) rn nl (m:=1) (by decide);have b4:=s4.px b3;obtain⟨_,h5,e5,s5,q2,rfl⟩:=D3 b4 (r:=r) rn nl (m:=3) (by decide);have b5:=s5.px b4;have k6:=lP (r:=r) rn kd b5.wf;have k7:=sU (r:=r) rn nl kd h5;generalize hL:[aS ns q1,aS ns q2,aS ns (dZ kd r),aS ns (nN kd r)]=L4;have b6:Px i (h5++[.lst (L4.map D.dat)]):=b5.push (lM _ _);obtain⟨_,h7',e7,s7',q5,rfl⟩:=xY b6 (r:=λ_ _=>false) rn nl;obtain⟨h7,rfl,s7⟩:=s7'.pop b5.lt;have b7:=s7.px b5;have b8:Px i (h7++[.lst ((L4++[aS ns q5]).map D.dat)]):=b7.push (lM _ _);obtain⟨_,h9',e9,s9',v,rfl,hv⟩:=hE b8 (c:=5) (by decide) (by decide);obtain⟨h9,rfl,s9⟩:=s9'.pop b7.lt;have sAll:=((((((s1.trans s2).trans s3).trans s4).trans s5).trans s7).trans s9);have l4:L4.length=4:=by rw[<- hL];rfl
 obtain⟨x,ex,mx⟩:=Kn (h:=h9) (L:=h5.length) (k:=v) (ds:=L4++[aS ns q5]) (by rw[s9.len,s7.len]) (by rw[SN,l4];simp;omega);obtain⟨q,rfl⟩:∃q,x=aS ns q:=by rw[<- hL]at mx;simp only[SD,Sz,Tb,UC]at mx;rcases mx with(rfl|rfl|rfl|rfl)|rfl<;>exact⟨_,rfl⟩
 refine⟨.dat (.tuple [aS ns r,aS ns q]),h9,Ba (t:=[.lst ((L4++[aS ns q5]).map D.dat)]) b ?_ sAll,sAll,ns,r,q,rfl,rn,ln⟩
 have t1:bU 3 (ai cn (ag dC ah) (ag aF (aa (ae 0) (aa (aj (.int 5)) ah)))) [some (.ref i),some (.int (m:Int)),some (.dat (aS ns r)),none,none] h2=.ok (.nx [some (.ref i),some (.int (m:Int)),some (.dat (aS ns r)),some (.dat (.str kd.nm)),none]) h3:=
  bK (ao (x:=.dat (.list Nu)) rfl (aw (xs:=[.ref i,.int 5]) rfl e3) (by simp only[cn,jz,wc,ek]))
 have t2:bU 4 (ue (aa (ag eQ (aa (ae 0) (aa (ae 2) (aa (aj (.int 1)) ah)))) (aa (ag eQ (aa (ae 0) (aa (ae 2) (aa (aj (.int 3)) ah)))) (aa (ag bN (aa (ae 2) (aa (ae 3) ah))) (aa (ag eO (aa (ae 2) (aa (ae 3) ah))) ah))))) [some (.ref i),some (.int (m:Int)),some (.dat (aS ns r)),some (.dat (.str kd.nm)),none] h3=.ok (.nx [some (.ref i),some (.int (m:Int)),some (.dat (aS ns r)),some (.dat (.str kd.nm)),some (.ref h5.length)]) (h5++[.lst (L4.map D.dat)]):=by rw[<- hL];exact bK (Nw (ak (aw (xs:=[.ref i,.dat (aS ns r),.int 1]) rfl e4) (ak (aw (xs:=[.ref i,.dat (aS ns r),.int 3]) rfl e5) (ak (aw (xs:=[.dat (aS ns r),.dat (.str kd.nm)]) rfl k6) (ak (aw (xs:=[.dat (aS ns r),.dat (.str kd.nm)]) rfl k7) rfl)))) (by simp))
 have w0:br (aa (ai cn (ae 2) (aj (.int 0))) (aa (aj (.tuple [])) ah)) [some (.ref i),some (.int (m:Int)),some (.dat (aS ns r)),some (.dat (.str kd.nm)),some (.ref h5.length)] (h5++[.lst (L4.map D.dat)])=.ok (.dat (aS ns λ_ _=>false)) (h5++[.lst (L4.map D.dat)]):=by rw[show aS ns (λ_ _=>false)=PyData.tuple [.tuple ns,.tuple []]by simp only[aS,Km]];exact bL (a:=.tuple ns) (ao (x:=.dat (aS ns r)) rfl (y:=.int 0) rfl rfl) rfl
 have t3:mq eF (ae 4) (br (aa (ai cn (ae 2) (aj (.int 0))) (aa (ai cn (ag fE (aa (ae 0) (aa (br (aa (ai cn (ae 2) (aj (.int 0))) (aa (aj (.tuple [])) ah))) ah))) (aj (.int 1))) ah))) [some (.ref i),some (.int (m:Int)),some (.dat (aS ns r)),some (.dat (.str kd.nm)),some (.ref h5.length)] (h5++[.lst (L4.map D.dat)])=.ok D.none (h7++[.lst (L4.map D.dat++[.dat (aS ns q5)])]):=
  Ny s7.len rfl (bL (a:=.tuple ns) (ao (x:=.dat (aS ns r)) rfl (y:=.int 0) rfl rfl) (ao (aw (ak (x:=.ref i) rfl (ak w0 rfl)) e7) (y:=.int 1) rfl rfl)) (by rw[SG,l4];decide)
 have em:L4.map D.dat++[.dat (aS ns q5)]=(L4++[aS ns q5]).map D.dat:=by simp
 rw[em]at t3;exact fV rfl (aP (bK (aw (ak (x:=.ref i) rfl (ak (aw (xs:=[.ref i,.int (m:Int)]) rfl e1) rfl)) e2)) (aP t1 (aP t2 (aP (fO t3) (dN (bL (a:=aS ns r) rfl (ao (x:=.ref h5.length) rfl (aw (xs:=[.ref i,.int 5]) rfl e9) ex)))))))
section
variable {n1 n2 ns:WA} {r q p:Rel} {a b:PyData} {kd:Kd}
theorem Ko(h:∀a∈ns,∀b∈ns,dZ kd r a b=dZ kd q a b):DV ns kd r q:=λa ha b hb z=>by
 have i1:lN kd q a b=lN kd r a b:=by
  rw[<- (gx).lN ha hb,<- (gx (r:=r)).lN ha hb]
  simp_all[lN]
 have k1:=gx a ha b hb z;have k2:=gx (r:=q) (kd:=kd) a ha b hb (z.imp id λz=>by grind)
 grind
end
section
variable {ns:WA} {r q:Rel} {a b:PyData} {kd:Kd}
noncomputable def xr(r q:Rel):Rel:=λa b=>r a b != q a b
theorem HQ:∀d,d∈rows ns (xr r q)<->(d∈rows ns r/\d∉rows ns q)\/(d∈rows ns q/\d∉rows ns r):=λd=>by
 constructor
 ·intro m;obtain⟨a,b,rfl,ha,hb,h⟩:=bB.mp m
  grind[cg,xr]
 ·rintro(⟨m,n⟩|⟨m,n⟩)
  ·obtain⟨a,b,rfl,ha,hb,h⟩:=bB.mp m;rw[cg]at n ⊢;refine⟨ha,hb,?_⟩
   cases e2:q a b with
   |false=>simp[xr,h,e2]
   |true=>grind
  ·obtain⟨a,b,rfl,ha,hb,h⟩:=bB.mp m;rw[cg]at n ⊢;refine⟨ha,hb,?_⟩
   cases e2:r a b with
   |false=>simp[xr,h,e2]
   |true=>simp_all
theorem vP(Rn:Nr ns)(nl:ns.length<=7)(ha:A.Nodup)(hb:B.Nodup)(hd:∀d∈A,d∉B)(hm:∀d,d∈rows ns t<->d∈A\/d∈B):cL (A++B)=true/\bY ltB (A++B)=rows ns t:=by have nd  := T4.mpr ⟨ha,hb,λp hp q hq e=>hd p hp (e▸hq)⟩;have sub  := λd m=>(hm d).mpr (SD.mp m);have subP  := λd m=>(aL Rn).sub d (sub d m);have l  := Sw (gJ nd sub) (Sw dw (Tv nl nl));refine⟨bQ.Pe subP (by omega),vI bQ (tO bQ subP nd) (aL Rn) λd=>?_⟩;rw[(bG _ _).mem_iff,SD,hm]
theorem rM(Rn:Nr ns)(f:PyData->Bool):((rows ns r).filter f).Nodup:=UM T9 (fG bQ (aL Rn))
theorem vQ(Rn:Nr ns)(nl:ns.length<=7)(h:Hm):bO [.dat (.tuple (rows ns r)),.dat (.tuple (rows ns q))] h=.ok (.dat (.tuple (rows ns (xr r q)))) h:=by
 have lr:∀r:Rel,(rows ns r).length<=49:=λr=>Sw dw (Tv nl nl);have l1:=lr r;have l2:=lr q;have k1:=dM (n:=1) (it:=aN (ae 0)) (g:=aq 0) (t:=aO (ai kj (ae 0) (ae 2))) (e:=ae 0) (ρ:=[some (.dat (.tuple (rows ns r))),some (.dat (.tuple (rows ns q))),none]) (ds:=rows ns r) (cv rfl) (by omega) (λd=>!decide (d∈rows ns q)) id (λd hd=>⟨_,rfl,bA (ao rfl rfl (iZ Rn hd h)),λ_=>rfl⟩);have k2:=dM (n:=1) (it:=aN (ae 1)) (g:=aq 0) (t:=aO (ai kj (ae 0) (ae 1))) (e:=ae 0) (ρ:=[some (.dat (.tuple (rows ns r))),some (.dat (.tuple (rows ns q))),none]) (h:=h) (h1:=h) (ds:=rows ns q) (cv rfl) (by omega) (λd=>!decide (d∈rows ns r)) id (λd hd=>⟨_,rfl,bA (ao rfl rfl (iZ Rn hd h)),λ_=>rfl⟩);rw[Wn]at k1 k2
 obtain⟨so,es⟩:=vP (t:=xr r q) Rn nl (rM (r:=r) Rn (λd=>!decide (d∈rows ns q))) (rM (r:=q) Rn (λd=>!decide (d∈rows ns r))) (λd m n=>by
  grind) (λd=>by grind[HQ,List.mem_filter])
 have la:=S9 (λd=>!decide (d∈rows ns q)) (rows ns r);have lb:=S9 (λd=>!decide (d∈rows ns r)) (rows ns q);have bs:cE [.dat (.list ((rows ns r).filter (λd=>!decide (d∈rows ns q))++(rows ns q).filter (λd=>!decide (d∈rows ns r))))] h=.ok (.dat (.list (rows ns (xr r q)))) h:=by simp[cE,listOf,so,Tg,es]
 exact fV rfl (aP (bK (ao k1 k2 (eA h (by omega)))) (dN (aw (ak (aw (ak rfl rfl) bs) rfl) rfl)))
theorem Bd(hs:∀d∈xs,aG d=true)(nd:xs.Nodup):fg xs=xs:=by
 induction xs with
 |nil=>rfl
 |cons x xs ih=>
  have n:xs.any (PyData.eqv x)=false:=by
   cases e:xs.any _ with
   |false=>rfl
   |true=>exact absurd ((gR (λd m=>hs d (by simp[m])) (hs x (by simp))).mp e) (TC.mp nd).1
  simp_all[fg]
theorem Cz(Rn:Nr ns)(nl:ns.length<=7)(h:Hm):iX [.dat (aS ns r),.dat (.tuple (rows ns q))] h=.ok (.dat (aS ns (xr r q))) h:=by
 have lr:∀r:Rel,(rows ns r).length<=49:=λr=>Sw dw (Tv nl nl);have l1:=lr r;have l2:=lr q;have st:∀r:Rel,∀d∈rows ns r,aG d=true:=λr d m=>bQ.st d ((aL Rn).sub d m);have nd:∀r:Rel,(rows ns r).Nodup:=λr=>fG bQ (aL Rn)
 have xe:Ai (rows ns r) (rows ns q)=(rows ns r).filter (λd=>!decide (d∈rows ns q))++(rows ns q).filter (λd=>!decide (d∈rows ns r)):=by
  unfold Ai;rw[Bd (st r) (nd r),Bd (st q) (nd q)];congr 1
  ·refine Wk λd m=>?_;have e:(rows ns q).any (PyData.eqv d)=decide (d∈rows ns q):=by rw[Uc,gR (st q) (st r d m),TV]
   rw[e]
  ·refine Wk λd m=>?_;have e:(rows ns r).any (PyData.eqv d)=decide (d∈rows ns r):=by rw[Uc,gR (st r) (st q d m),TV]
   rw[e]
 obtain⟨so,es⟩:=vP (t:=xr r q) Rn nl (rM (r:=r) Rn (λd=>!decide (d∈rows ns q))) (rM (r:=q) Rn (λd=>!decide (d∈rows ns r))) (λd m n=>by
  have:=(S6.mp n).2
  simp[(S6.mp m).1]at this) (λd=>by rw[HQ,S6,S6];simp)
 rw[<- xe]at so es;have s1:setOk (rows ns r)=true:=bQ.set (aL Rn).sub (by omega);have s2:setOk (rows ns r++rows ns q)=true:=bQ.set (λd m=>(SD.mp m).elim ((aL Rn).sub d) ((aL Rn).sub d)) (by simp;omega);have ev:tG Ai (ai cn (ae 0) (aj (.int 1))) (ae 1) [some (.dat (aS ns r)),some (.dat (.tuple (rows ns q)))] h=.ok (.dat (.list (rows ns (xr r q)))) h:=by have e0:ai cn (ae 0) (aj (.int 1)) [some (.dat (aS ns r)),some (.dat (.tuple (rows ns q)))] h=.ok (.dat (.tuple (rows ns r))) h:=ao (x:=.dat (aS ns r)) rfl (y:=.int 1) rfl rfl;have e1:ae 1 [some (.dat (aS ns r)),some (.dat (.tuple (rows ns q)))] h=.ok (.dat (.tuple (rows ns q))) h:=rfl;simp only[tG,e0,R.aJ,jD,s1,Tg,e1,s2,so,Wm,es]
 have tu:uM [.dat (aS ns r),.dat (.tuple (rows ns q))] h=.ok (.dat (aS ns (xr r q))) h:=fV rfl (dN (bL (a:=.tuple ns) (ao (x:=.dat (aS ns r)) rfl (y:=.int 0) rfl rfl) (aw (ak ev rfl) rfl)));have sk:dy [.dat (.tuple (rows ns q)),.dat (.tuple ns)] h=.ok (.bool true) h:=vJ (qt Rn (Ss _)) (Sw (Tv nl nl) (by decide)) h;have ck:fK [.dat (aS ns r),.dat (.tuple (rows ns q))] h=.ok D.none h:=by unfold fK lW bu;have:nY (i6 (cy (ag dy (aa (ae 1) (aa (ai cn (ae 0) (aj (.int 0))) ah))))) BQ dz [some (.dat (aS ns r)),some (.dat (.tuple (rows ns q)))] h=.ok (.nx [some (.dat (aS ns r)),some (.dat (.tuple (rows ns q)))]) h:=A8 (h1:=h) (qr (kC (aw (ak (x:=.dat (.tuple (rows ns q))) rfl (ak (ao (x:=.dat (aS ns r)) rfl (y:=.int 0) rfl rfl) rfl)) sk))) rfl;simp only[SM,Ts,Tg,SV,U4,Ui,TH,show 2-2=0 from rfl,rep0,US];rw[this];rfl
 exact fV rfl (aP (fO (aw (xs:=[.dat (aS ns r)]) rfl (qv Rn h))) (aP (fO (aw (xs:=[.dat (aS ns r),.dat (.tuple (rows ns q))]) rfl ck)) (dN (aw (xs:=[.dat (aS ns r),.dat (.tuple (rows ns q))]) rfl tu))))
noncomputable def cJ(kd:Kd)(r q:Rel):Rel:=λa b=>(dZ kd q a b && !r a b) || (r a b && !nN kd q a b)
theorem Kp(d:PyData):d∈rows ns (cJ kd r q)<->(d∈rows ns (dZ kd q)/\d∉rows ns r)\/(d∈rows ns r/\d∉rows ns (nN kd q)):=by
 constructor
 ·intro m;obtain⟨a,b,rfl,ha,hb,h⟩:=bB.mp m;rw[cg,cg,cg];simp[cJ]at h
  simp_all
 ·rintro(⟨m,n⟩|⟨m,n⟩)
  ·obtain⟨a,b,rfl,ha,hb,h⟩:=bB.mp m;rw[cg]at n ⊢;refine⟨ha,hb,?_⟩
   cases e:r a b with
   |false=>simp[cJ,h,e]
   |true=>grind
  ·obtain⟨a,b,rfl,ha,hb,h⟩:=bB.mp m;rw[cg]at n ⊢;refine⟨ha,hb,?_⟩
   cases e:nN kd q a b with
   |false=>simp[cJ,h,e]
   |true=>grind
theorem Be(Rn:Nr ns)(nl:ns.length<=7):cL ((rows ns (dZ kd q)).filter (λd=>!decide (d∈rows ns r))++(rows ns r).filter (λd=>!decide (d∈rows ns (nN kd q))))=true/\bY ltB ((rows ns (dZ kd q)).filter (λd=>!decide (d∈rows ns r))++(rows ns r).filter (λd=>!decide (d∈rows ns (nN kd q))))=rows ns (cJ kd r q):=
 vP Rn nl (rM Rn _) (rM Rn _) (λd m n=>by
  grind) (λd=>by simp[Kp])
theorem Kq(Rn:Nr ns)(nl:ns.length<=7)(kd:Kd)(h:Hm):df [.dat (aS ns r),.dat (aS ns q),.dat (.str kd.nm)] h=.ok (.dat (.tuple (rows ns (cJ kd r q)))) h:=by
 have lr:∀r:Rel,(rows ns r).length<=49:=λr=>Sw dw (Tv nl nl);have l1:=lr r;have l2:=lr (dZ kd q);obtain⟨so,es⟩:=Be (r:=r) (q:=q) (kd:=kd) Rn nl;have t0:av (.tuple ns)=true:=by simp only[av];exact mi.wZ Rn.sub
 have d0:(PyData.tuple ns).depth<=40:=by have:=dh (m:=1) (ds:=ns) λd m=>mi.dep d (Rn.sub d m);simp only[PyData.depth];omega
 have cp:iM [.dat (aS ns r),.dat (aS ns q)] h=.ok D.none h:=by unfold iM pR bu;have:nY (aO (ai kI (ai cn (ae 0) (aj (.int 0))) (ai cn (ae 1) (aj (.int 0))))) BQ dz [some (.dat (aS ns r)),some (.dat (aS ns q))] h=.ok (.nx [some (.dat (aS ns r)),some (.dat (aS ns q))]) h:=A8 (h1:=h) (bA (ao (ao (x:=.dat (aS ns r)) rfl (y:=.int 0) rfl rfl) (ao (x:=.dat (aS ns q)) rfl (y:=.int 0) rfl rfl) (f:=kI) (ne_self t0 d0 h))) rfl;simp only[SM,Ts,Tg,SV,U4,Ui,TH,show 2-2=0 from rfl,rep0,US];rw[this];rfl
 have cs:iO [.dat (aS ns r),.dat (aS ns q),.dat (.str kd.nm)] h=.ok D.none h:=by unfold iO pS bu;simp only[SM,Ts,Tg,SV,U4,Ui,TH,show 3-3=0 from rfl,rep0,US];rw[aP (fO (aw (xs:=[.dat (aS ns r)]) rfl (qv Rn h))) (aP (fO (aw (xs:=[.dat (aS ns q)]) rfl (qv Rn h))) (aP (fO (aw (xs:=[.dat (aS ns r),.dat (aS ns q)]) rfl cp)) (fO (aw (xs:=[.dat (.str kd.nm)]) rfl (HB kd h)))))];rfl
 have k1:=dM (n:=1) (it:=aN (ae 3)) (g:=aq 0) (t:=aO (ai kj (ae 0) (ai cn (ae 1) (aj (.int 1))))) (e:=ae 0) (ρ:=[some (.dat (aS ns r)),some (.dat (aS ns q)),some (.dat (.str kd.nm)),some (.dat (.tuple (rows ns (dZ kd q)))),some (.dat (.tuple (rows ns (nN kd q)))),none,none]) (h:=h) (h1:=h) (ds:=rows ns (dZ kd q)) (cv rfl) (by omega) (λd=>!decide (d∈rows ns r)) id (λd hd=>⟨_,rfl,bA (ao rfl (ao (x:=.dat (aS ns r)) rfl (y:=.int 1) rfl rfl) (iZ Rn hd h)),λ_=>rfl⟩);have k2:=dM (n:=1) (it:=aN (ai cn (ae 0) (aj (.int 1)))) (g:=aq 0) (t:=aO (ai kj (ae 0) (ae 5))) (e:=ae 0) (ρ:=[some (.dat (aS ns r)),some (.dat (aS ns q)),some (.dat (.str kd.nm)),some (.dat (.tuple (rows ns (dZ kd q)))),some (.dat (.tuple (rows ns (nN kd q)))),some (.dat (.list ((rows ns (dZ kd q)).filter (λd=>!decide (d∈rows ns r))))),none]) (h:=h) (h1:=h) (ds:=rows ns r) (cv (ao (x:=.dat (aS ns r)) rfl (y:=.int 1) rfl rfl)) (by omega) (λd=>!decide (d∈rows ns (nN kd q))) id (λd hd=>⟨_,rfl,bA (ao rfl rfl (iZ Rn hd h)),λ_=>rfl⟩);rw[Wn]at k1 k2;have la:=S9 (λd=>!decide (d∈rows ns r)) (rows ns (dZ kd q));have lb:=S9 (λd=>!decide (d∈rows ns (nN kd q))) (rows ns r);have bs:cE [.dat (.list ((rows ns (dZ kd q)).filter (λd=>!decide (d∈rows ns r))++(rows ns r).filter (λd=>!decide (d∈rows ns (nN kd q)))))] h=.ok (.dat (.list (rows ns (cJ kd r q)))) h:=by simp only[cE,listOf,so,Tg,es]
 exact fV rfl (aP (fO (aw (xs:=[.dat (aS ns r),.dat (aS ns q),.dat (.str kd.nm)]) rfl cs)) (aP (bK (ao (aw (xs:=[.dat (aS ns q),.dat (.str kd.nm)]) rfl (xX Rn kd h)) (y:=.int 1) rfl rfl)) (aP (bK (ao (aw (xs:=[.dat (aS ns q),.dat (.str kd.nm)]) rfl (Cu Rn kd h)) (y:=.int 1) rfl rfl)) (aP (bK k1) (aP (bK k2)
  (dN (aw (ak (aw (ak (ao rfl rfl (eA h (by omega))) rfl) bs) rfl) rfl)))))))
end
noncomputable def cF(ps:WA):List WA:=ps.foldl (λgot p=>got++got.map (·++[p])) [[]]
theorem jq(ps:WA)(p:PyData):cF (ps++[p])=cF ps++(cF ps).map (·++[p]):=by simp[cF]
theorem tR{P:WA->Prop}(h0:P [])(h1:∀ps p,P ps->P (ps++[p])):∀ps,P ps:=λps=>by
 rw[<- List.reverse_reverse ps]
 induction ps.reverse with
 |nil=>exact h0
 |cons p ps ih=>grind
theorem fW:∀ps:WA,∀zs∈cF ps,zs.Sublist ps:=tR (λzs m=>by grind[cF]) λps p ih zs m=>by
 rw[jq]at m;rcases SD.mp m with m|m
 ·simp_all
 ·obtain⟨z,hz,rfl⟩:=SU.mp m
  simp_all
theorem rN:∀ps:WA,(cF ps).length=2^ps.length:=tR rfl λps p ih=>by rw[jq,SN,SG,ih,SN];simp;omega
noncomputable abbrev HR:MS:=bU 1 (ai dA (ae 1) (bZ 1 (aN (ae 1)) (aq 0) cX (ai dA (ae 0) (br (aa (ae 3) ah)))))
theorem D4:∀{qs ps:WA},ps.length+qs.length<=12->∀a2:Option D,∃b2,bX (aq 2) HR (qs.map D.dat) [a0,some (.dat (.list ((cF ps).map .tuple))),a2] h=.ok (.nx [a0,some (.dat (.list ((cF (ps++qs)).map .tuple))),b2]) h
 | [],ps,_,a2=>⟨a2,by simp[bX]⟩
 |q::qs,ps,hl,a2=>by
  simp only[SM]at hl;obtain⟨b2,ih⟩:=D4 (a0:=a0) (h:=h) (qs:=qs) (ps:=ps++[q]) (by grind) (some (.dat q));refine⟨b2,?_⟩;have ll:(cF ps).length<=4096:=by rw[rN];exact V0 (by decide) (show ps.length<=12 by omega)
  have key:=gN (n:=1) (it:=aN (ae 1)) (g:=aq 0) (e:=ai dA (ae 0) (br (aa (ae 3) ah))) (ρ:=[a0,some (.dat (.list ((cF ps).map .tuple))),some (.dat q)]) (h:=h) (h1:=h) (ds:=(cF ps).map .tuple) (jQ rfl) (by rw[SG];omega) (λd=>match d with|.tuple zs=>.tuple (zs++[q])|d=>d) (λd hd=>by
   obtain⟨zs,hz,rfl⟩:=SU.mp hd;have lz:=(fW ps zs hz).length_le
   exact⟨_,rfl,ao (x:=.dat (.tuple zs)) rfl ((bz (f:=lR) (ak (x:=.dat q) rfl rfl)).trans (Hk _ h)) (Hu h (by simp;omega))⟩)
  have em:((cF ps).map PyData.tuple).map (λd=>match d with|.tuple zs=>PyData.tuple (zs++[q])|d=>d)=((cF ps).map (·++[q])).map .tuple:=by simp
  rw[em]at key;have st:HR [a0,some (.dat (.list ((cF ps).map .tuple))),some (.dat q)] h=.ok (.nx [a0,some (.dat (.list ((cF (ps++[q])).map .tuple))),some (.dat q)]) h:=by rw[jq,List.map_append];exact bK (ao (x:=.dat (.list ((cF ps).map .tuple))) rfl key (eA h (by simp;omega)))
  simp_all[SV,bX,aq,R.cK,R.aJ,TM,Tw,st,ih]
theorem Kr(hl:ps.length<=12)(h:Hm):mO [.dat (.list ps)] h=.ok (.dat (.list ((cF ps).map .tuple))) h:=by obtain⟨b2,lp⟩:=D4 (ps:=[]) (by simp;omega) none;exact fV rfl (aP (bK rfl) (aP (fN (jQ rfl) lp) (dN rfl)))
noncomputable abbrev allR:Rel:=λ_ _=>true
theorem Bf:(ns.flatMap λa=>ns.map λb=>PyData.tuple [a,b])=rows ns allR:=by have e:∀a,ns.filter (allR a)=ns:=λa=>List.filter_eq_self.mpr λ_ _=>rfl;simp[rows,e]
theorem Fe:∀ps:WA,∀zs:WA,zs.Sublist ps->zs∈cF ps:=tR (λzs s=>by simp[List.sublist_nil.mp,s,cF]) λps p ih zs s=>by
 rw[jq,SD,SU];obtain⟨x,y,rfl,hx,hy⟩:=List.sublist_append_iff.mp s
 grind
theorem Bg:∀ps:WA,ps.Nodup->(cF ps).Nodup:=tR (λ_=>by trivial) λps p ih nd=>by have hp  := λm=>(T4.mp nd).2.2 p m p (by simp) rfl;have ih:=ih (T4.mp nd).1;rw[jq];refine T4.mpr ⟨ih,List.Pairwise.map _ (λa b ne e=>ne (List.append_cancel_right e)) ih,λx hx y hy e=>?_⟩;exact hp ((fW ps x hx).subset (by grind))
theorem HS(I:Fm->Prop):∀{ds:WA} {h:Hm} {ρ:Fm},Px i h->(∀d∈ds,∀ρ h,Px i h->I ρ->∃ρ1 ρ2 h2,g (.dat d) ρ h=.ok ρ1 h/\b ρ1 h=.ok (.nx ρ2) h2/\Ps i h h2/\I ρ2)->I ρ->∃ρ' h',bX g b (ds.map D.dat) ρ h=.ok (.nx ρ') h'/\Ps i h h'/\I ρ'
 | [],h,ρ,p,_,a=>⟨ρ,h,rfl,p.refl,a⟩
 |d::ds,h,ρ,p,H,a=>by
  obtain⟨ρ1,ρ2,h2,e1,e2,s2,a2⟩:=H d (by simp) ρ h p a;obtain⟨ρ',h',e3,s3,a3⟩:=HS I (ds:=ds) (s2.px p) (λx m=>H x (by simp[m])) a2;refine⟨ρ',h',?_,s2.trans s3,a3⟩
  simp_all[bX]
theorem HU(ns:List Int)(hi:Int)(e0:ρ[0]?=some (some (.scr ns)))(hn:ns.length<=63)(h:Hm):∃ds:WA,aN (ai dA (jc (aa (ag fT (aa (ae 0) (aa (aj (.int 0)) ah))) ah)) (GZ (ae 0) (n0 (aj (.int 1))) (n0 (aj (.int hi))))) ρ h=.ok (ds.map D.dat) h/\∀d∈ds,∃z:Int,d=.int z:=by
 obtain⟨z,ez⟩:=Kc ns 0 h;have ev:ae 0 ρ h=.ok (.scr ns) h:=by simp[ae,e0]
 have l1:jc (aa (ag fT (aa (ae 0) (aa (aj (.int 0)) ah))) ah) ρ h=.ok (.dat (.list [.int z])) h:=(bz (f:=eL) (ak (aw (ak ev (ak (x:=.int 0) rfl rfl)) ez) rfl)).trans (Na _ h);have l2:GZ (ae 0) (n0 (aj (.int 1))) (n0 (aj (.int hi))) ρ h=.ok (.dat (.list (cut (ns.map PyData.int) (some 1) (some hi)))) h:=by unfold GZ;rw[ev];rfl
 have lc:(cut (ns.map PyData.int) (some 1) (some hi)).length<=63:=by unfold cut;rw[Wo,Wq,SG];omega
 refine⟨.int z::cut (ns.map PyData.int) (some 1) (some hi),jQ (ao l1 l2 (eA h (by simp;omega))),λd m=>?_⟩;rcases Sz.mp m with rfl|m
 ·exact⟨z,rfl⟩
 ·obtain⟨k,_,rfl⟩:=SU.mp (Di m);exact⟨k,rfl⟩
theorem Bh(I:Fm->Prop){ds:WA}(hd:∀d∈ds,∃z:Int,d=.int z)(H:∀(z:Int) ρ h,Wf h->I ρ->∃ρ1 ρ2 h2,g (.int z) ρ h=.ok ρ1 h/\b ρ1 h=.ok (.nx ρ2) h2/\Wf h2/\I ρ2):∀{h:Hm} {ρ:Fm},Wf h->I ρ->∃ρ' h',bX g b (ds.map D.dat) ρ h=.ok (.nx ρ') h'/\I ρ':=by
 induction ds with
 |nil=>exact λ{h ρ} w a=>⟨ρ,h,rfl,a⟩
 |cons d ds ih=>intro h ρ w a;obtain⟨z,rfl⟩:=hd d (by simp);obtain⟨ρ1,ρ2,h2,e1,e2,w2,a2⟩:=H z ρ h w a;obtain⟨ρ',h',e3,a3⟩:=ih (λx m=>hd x (by simp[m])) w2 a2;refine⟨ρ',h',?_,a3⟩;simp only[SV];unfold bX;rw[e1];simp only[R.cK,R.aJ];rw[e2];simp only[R.cK,R.aJ];exact e3
section
variable {ns:WA} {r q z:Rel} {a b:PyData} {kd:Kd}
theorem NA(Rn:Nr ns)(nl:ns.length<=7)(kd:Kd)(w:Wf h):gj [.dat (aS ns r),.dat (aS ns q),.dat (.str kd.nm)] h=.ok (.dat (.tuple (rows ns (cJ kd r q)))) h:=by
 have lr:∀r:Rel,(rows ns r).length<=49:=λr=>Sw dw (Tv nl nl);have l1:=lr r;have l2:=lr (dZ kd q);obtain⟨so,es⟩:=Be (r:=r) (q:=q) (kd:=kd) Rn nl;have k1:=dM (n:=1) (it:=aN (ae 3)) (g:=aq 0) (t:=aO (ai kj (ae 0) (ai cn (ae 1) (aj (.int 1))))) (e:=ae 0) (ρ:=[some (.dat (aS ns r)),some (.dat (aS ns q)),some (.dat (.str kd.nm)),some (.dat (.tuple (rows ns (dZ kd q)))),some (.dat (.tuple (rows ns (nN kd q)))),none]) (ds:=rows ns (dZ kd q)) (cv rfl) (by omega) (λd=>!decide (d∈rows ns r)) id (λd hd=>⟨_,rfl,bA (ao rfl (ao (x:=.dat (aS ns r)) rfl (y:=.int 1) rfl rfl) (iZ Rn hd h)),λ_=>rfl⟩);have k2:=dM (n:=1) (it:=aN (ai cn (ae 0) (aj (.int 1)))) (g:=aq 0) (t:=aO (ai kj (ae 0) (ae 5))) (e:=ae 0) (ρ:=[some (.dat (aS ns r)),some (.dat (aS ns q)),some (.dat (.str kd.nm)),some (.dat (.tuple (rows ns (dZ kd q)))),some (.dat (.tuple (rows ns (nN kd q)))),some (.dat (.list ((rows ns (dZ kd q)).filter (λd=>!decide (d∈rows ns r)))))]) (h:=h) (h1:=h) (ds:=rows ns r) (cv (ao (x:=.dat (aS ns r)) rfl (y:=.int 1) rfl rfl)) (by omega) (λd=>!decide (d∈rows ns (nN kd q))) id (λd hd=>⟨_,rfl,bA (ao rfl rfl (iZ Rn hd h)),λ_=>rfl⟩);rw[Wn]at k1 k2;have la:=S9 (λd=>!decide (d∈rows ns r)) (rows ns (dZ kd q));have lb:=S9 (λd=>!decide (d∈rows ns (nN kd q))) (rows ns r);have bs:cE [.dat (.list ((rows ns (dZ kd q)).filter (λd=>!decide (d∈rows ns r))++(rows ns r).filter (λd=>!decide (d∈rows ns (nN kd q)))))] h=.ok (.dat (.list (rows ns (cJ kd r q)))) h:=by simp[cE,listOf,so,Tg,es]
 exact fV rfl (aP (rL (bL (ao (aw (xs:=[.dat (aS ns q),.dat (.str kd.nm)]) rfl (lP Rn kd w)) (y:=.int 1) rfl rfl) (ao (aw (xs:=[.dat (aS ns q),.dat (.str kd.nm)]) rfl (sU Rn nl kd h)) (y:=.int 1) rfl rfl)) rfl) (aP (bK k1)
  (dN (aw (ak (aw (ak (ao rfl k2 (eA h (by omega))) rfl) bs) rfl) rfl))))
theorem HV:aS ns (dZ kd (xr r z))=aS ns (dZ kd q)<->∀a∈ns,∀b∈ns,(dZ kd q a b=true->xr r z a b=true)/\(xr r z a b=true->nN kd q a b=true):=by
 constructor
 ·intro e a ha b hb;have A:DV ns kd q (xr r z):=Ko λa ha b hb=>(A1 (by grind) ha hb).symm;refine⟨λk=>?_,λk=>?_⟩
  ·rw[<- A.dZ ha hb]at k;exact DX k
  ·rw[<- A.nN ha hb];exact DY ha hb k
 ·intro h;have A  := Nn (λa ha b hb k=>(h a ha b hb).1 k) λa ha b hb k=>(h a ha b hb).2 k;simp[A.A9]
theorem HW(ha:a∈ns)(hb:b∈ns)(h:dZ kd q a b=true):nN kd q a b=true:=DY ha hb (DX h)
theorem NB:aS ns (dZ kd (xr r (cJ kd r q)))=aS ns (dZ kd q):=HV.mpr λa ha b hb=>by
 have kf:=HW (kd:=kd) (q:=q) ha hb
 grind[xr,cJ]
theorem Ff(h:aS ns (dZ kd (xr r z))=aS ns (dZ kd q))(ha:a∈ns)(hb:b∈ns)(d:cJ kd r q a b=true):z a b=true:=by
 obtain⟨h1,h2⟩:=HV.mp h a ha b hb;unfold xr at h1 h2;unfold cJ at d
 grind
theorem D5(Rn:Nr ns)(hz:zs∈cF (rows ns allR))(h:aS ns (dZ kd (xr r (ik zs)))=aS ns (dZ kd q)):(rows ns (cJ kd r q)).length<=zs.length/\(zs.length<=(rows ns (cJ kd r q)).length->zs=rows ns (cJ kd r q)):=by
 have sl:=fW _ zs hz;have ez:=qy Rn sl;have nz:zs.Nodup:=UM sl (fG bQ (aL Rn));have nd:=fG bQ (aL (r:=cJ kd r q) Rn);have sub:∀d∈rows ns (cJ kd r q),d∈zs:=λd m=>by obtain⟨a,b,rfl,ha,hb,k⟩:=bB.mp m;exact Uo (Ff h ha hb k)
 refine⟨gJ nd sub,λhl=>?_⟩;refine vI bQ ⟨λd m=>(aL Rn).sub d (sl.subset m),(aL Rn).ris.sublist sl⟩ (aL Rn) λd=>⟨λm=>?_,sub d⟩;by_cases x:d∈rows ns (cJ kd r q)
 ·exact x
 ·have:=gJ (TC.mpr ⟨x,nd⟩) (ys:=zs) λe me=>by
   rcases Sz.mp me with rfl|me
   ·exact m
   ·exact sub e me
  simp only[SM]at this;omega
noncomputable def lQ(zs:WA):PyData:=.tuple [.int (zs.length:Int),.tuple zs]
theorem NC(h:x.length<y.length):ltB (lQ x) (lQ y)=true:=by
 have e:PyData.eqv (.int (x.length:Int)) (.int (y.length:Int))=false:=by grind[PyData.eqv]
 simp[ltB,lQ,cx,dG,e,h]
theorem ND{x:PyData}(nd:l.Nodup)(h:∀y,y∈l<->y=x):l=[x]:=by
 cases l with
 |nil=>simp_all
 |cons a l=>
  have ha  := (h a).mp (by simp);subst ha
  cases l with
  |nil=>rfl
  |cons b l=>
   simp_all
noncomputable def Ii(ns:WA)(kd:Kd)(r q:Rel)(zs:WA):Bool:=decide (aS ns (dZ kd (xr r (ik zs)))=aS ns (dZ kd q))
theorem Ks(Rn:Nr ns)(l2:ns.length<=2):cL (((cF (rows ns allR)).filter (Ii ns kd r q)).map lQ)=true/\∃rest,bY ltB (((cF (rows ns allR)).filter (Ii ns kd r q)).map lQ)=lQ (rows ns (cJ kd r q))::rest /\
  (bY ltB (((cF (rows ns allR)).filter (Ii ns kd r q)).map lQ)).filter (λe=>decide (e=lQ (rows ns (cJ kd r q))))=[lQ (rows ns (cJ kd r q))] /\
  ∀e∈bY ltB (((cF (rows ns allR)).filter (Ii ns kd r q)).map lQ),∃zs,e=lQ zs/\decide ((zs.length:Int)=((rows ns (cJ kd r q)).length:Int))=decide (e=lQ (rows ns (cJ kd r q))):=by
 have lr:(rows ns allR).length<=4:=Sw dw (Tv l2 l2);have ll:(cF (rows ns allR)).length<=16:=by rw[rN];exact V0 (by decide) lr
 generalize hB:((cF (rows ns allR)).filter (Ii ns kd r q)).map lQ=B;have lB:B.length<=16:=by rw[<- hB,SG];exact Sw (S9 _ _) ll
 have mB:∀e∈B,∃zs,e=lQ zs/\zs∈cF (rows ns allR)/\aS ns (dZ kd (xr r (ik zs)))=aS ns (dZ kd q):=λe m=>by rw[<- hB]at m;obtain⟨zs,hz,rfl⟩:=SU.mp m;obtain⟨h1,h2⟩:=S6.mp hz;exact⟨zs,rfl,h1,Uo h2⟩
 have dl:rows ns (cJ kd r q)∈cF (rows ns allR):=Fe _ _ (by
  have:(rows ns allR).filter (λp=>decide (p∈rows ns (cJ kd r q)))=rows ns (cJ kd r q):=by refine vI bQ ⟨λd m=>(aL Rn).sub d (S6.mp m).1,(aL Rn).ris.filter _⟩ (aL Rn) λd=>?_;rw[S6,TV];refine⟨λh=>h.2,λm=>⟨?_,m⟩⟩;obtain⟨a,b,rfl,ha,hb,_⟩:=bB.mp m;exact cg.mpr ⟨ha,hb,rfl⟩
  rw[<- this]
  exact T9)
 have dm:lQ (rows ns (cJ kd r q))∈B:=by
  rw[<- hB];refine SU.mpr ⟨_,S6.mpr ⟨dl,?_⟩,rfl⟩;unfold Ii;refine Tn ?_
  have e:rows ns (xr r (ik (rows ns (cJ kd r q))))=rows ns (xr r (cJ kd r q)):=oZ λa ha b hb=>by
   have:ik (rows ns (cJ kd r q)) a b=cJ kd r q a b:=by unfold ik;rw[Uc,TV,cg];simp[ha,hb]
   simp only[xr,this]
  have A:DV ns kd (xr r (cJ kd r q)) (xr r (ik (rows ns (cJ kd r q)))):=λa ha b hb _=>A1 e ha hb;rw[show aS ns (dZ kd (xr r (ik (rows ns (cJ kd r q)))))=aS ns (dZ kd (xr r (cJ kd r q)))by simp only[aS,A.A9]];exact NB
 have tinj:∀{x y:WA},lQ x=lQ y->x=y:=λ{x y} e=>by simp[lQ]at e;exact e.2
 have nB:B.Nodup:=by rw[<- hB];exact List.Pairwise.map _ (λa b ne e=>ne (tinj e)) (UM T9 (Bg _ (fG bQ (aL Rn))))
 have tr:ax B=true:=hU λe m=>by obtain⟨zs,rfl,hz,_⟩:=mB e m;simp[lQ,av,ax,bQ.wZ λd m=>(aL Rn).sub d ((fW _ zs hz).subset m)]
 have cm':dU B=true:=xR λx hx y hy=>by
  obtain⟨xs,rfl,h1,_⟩:=mB x hx;obtain⟨ys,rfl,h2,_⟩:=mB y hy
  have key:∀xs ys:WA,(∀d∈xs,E7 d)->(∀d∈ys,E7 d)->Hq xs ys=true:=λxs=>by
   induction xs with
   |nil=>intro ys _ _;simp[Hq]
   |cons x xs ih=>
    intro ys hx hy
    cases ys with
    |nil=>simp[Hq]
    |cons y ys=>simp[Hq,bQ.c x y (hx x (by simp)) (hy y (by simp)),ih ys (λd m=>hx d (by simp[m])) (λd m=>hy d (by simp[m]))]
  simp only[lQ,cm,Hq,Bool.true_and,Bool.and_true];exact key xs ys (λd m=>(aL Rn).sub d ((fW _ xs h1).subset m)) (λd m=>(aL Rn).sub d ((fW _ ys h2).subset m))
 have dp:PyData.depthAll B<=20:=Sw (dh (m:=3) λe m=>by
  obtain⟨zs,rfl,hz,_⟩:=mB e m;have:=dh (m:=1) (ds:=zs) λd m=>bQ.dep d ((aL Rn).sub d ((fW _ zs hz).subset m));simp only[lQ,PyData.depth,PyData.depthAll]
  omega) (by decide)
 have tt:B.all iy=true:=SR.mpr λe m=>by obtain⟨zs,rfl,_⟩:=mB e m;rfl
 have so:cL B=true:=by simp only[cL,tt,tr,cm',Tn dp,Tn (show B.length<64 by omega),Bool.or_true,Wm]
 have up:=pv (gF cm' tr);have pm:=bG ltB B
 have eqd:∀e∈B,∃zs,e=lQ zs/\decide ((zs.length:Int)=((rows ns (cJ kd r q)).length:Int))=decide (e=lQ (rows ns (cJ kd r q))):=λe m=>by
  obtain⟨zs,rfl,hz,hv⟩:=mB e m;refine⟨zs,rfl,?_⟩;obtain⟨g1,g2⟩:=D5 Rn hz hv;rw[Uc,TV,TV];constructor
  ·intro h;rw[g2 (by omega)]
  ·intro h;rw[tinj h]
 refine⟨so,?_⟩
 cases hS:bY ltB B with
 |nil=>rw[hS]at pm;rw[List.nil_perm.mp pm]at dm;cases dm
 |cons m rest=>
  rw[hS]at up pm;have mm:m∈B:=pm.mem_iff.mp (by simp);obtain⟨zm,rfl,hz,hv⟩:=mB m mm
  have hm:lQ zm=lQ (rows ns (cJ kd r q)):=by
   obtain⟨g1,g2⟩:=D5 Rn hz hv
   have le:zm.length<=(rows ns (cJ kd r q)).length:=by
    by_cases x:(rows ns (cJ kd r q)).length<zm.length
    ·exfalso;have lt:=NC x;have dS:lQ (rows ns (cJ kd r q))∈lQ zm::rest:=pm.mem_iff.mpr dm;rcases Sz.mp dS with e|dR
     ·have:=VG List.length (tinj e);omega
     ·have:=(Tq.mp up).1 _ dR;rw[lt]at this;cases this
    ·omega
   rw[g2 le]
  refine⟨rest,by rw[hm],?_,λe me=>eqd e (pm.mem_iff.mp me)⟩;refine ND (UM T9 (pm.nodup_iff.mpr nB)) λy=>?_;rw[S6,TV];exact⟨λh=>h.2,λh=>⟨by rw[h];exact pm.mem_iff.mpr dm,h⟩⟩
end
section
variable {ns:WA} {r q:Rel} {a b:PyData} {kd:Kd}
noncomputable abbrev Fb(ns:WA)(r q:Rel)(kd:Kd)(acc:WA)(x4 a5 a6:Option D):Fm:=[some (.dat (aS ns r)),some (.dat (aS ns q)),some (.dat (.str kd.nm)),some (.dat (.list acc)),x4,a5,a6]
noncomputable abbrev HX:MS:=bU 3 (ai dA (ae 3) (bZ 1 (aN (ai cn (ae 0) (aj (.int 0)))) (aq 0) cX (br (aa (ae 6) (aa (ae 0) ah)))))
theorem D6(nl:ns.length<=12):∀{xs acc:WA},acc.length+xs.length*12<=1000->∀a5:Option D,∃b5,bX (aq 5) HX (xs.map D.dat) (Fb ns r q kd acc x4 a5 a6) h=.ok (.nx (Fb ns r q kd (acc++xs.flatMap λa=>ns.map λb=>PyData.tuple [a,b]) x4 b5 a6)) h
 | [],acc,_,a5=>⟨a5,by simp[bX]⟩
 |x::xs,acc,hl,a5=>by
  have key:=gN (n:=1) (it:=aN (ai cn (ae 0) (aj (.int 0)))) (g:=aq 0) (e:=br (aa (ae 6) (aa (ae 0) ah))) (ρ:=Fb ns r q kd acc x4 (some (.dat x)) a6) (h1:=h) (cv (ao rfl rfl rfl)) (by omega) (λb=>.tuple [x,b]) (λb _=>⟨_,rfl,bL rfl rfl⟩);obtain⟨b5,ih⟩:=D6 (h:=h) (x4:=x4) (a6:=a6) nl (xs:=xs) (acc:=acc++ns.map λb=>PyData.tuple [x,b]) (by grind) (some (.dat x));have st:HX (Fb ns r q kd acc x4 (some (.dat x)) a6) h=.ok (.nx (Fb ns r q kd (acc++ns.map λb=>PyData.tuple [x,b]) x4 (some (.dat x)) a6)) h:=bK (ao (x:=.dat (.list acc)) rfl key (eA h (by grind)))
  simp_all[SV,bX,aq,R.cK,R.aJ,TM,Tw,st,ih]
noncomputable abbrev CA:MS:=nY (aO (ai oEq (ag bN (aa (br (aa (ai cn (ae 0) (aj (.int 0))) (aa (ag bO (aa (ai cn (ae 0) (aj (.int 1))) (aa (ae 6) ah))) ah))) (aa (ae 2) ah))) (ag bN (aa (ae 1) (aa (ae 2) ah))))) (hG (mq eF (ae 4) (br (aa (ag gb (aa (ae 6) ah)) (aa (ae 6) ah))))) dz
theorem Ph(w:Wf h)(acc:WA):Wf (hK h acc):=w.push (by
 simp[MO.below];intro d _
 rfl)
theorem zt(Rn:Nr ns)(nl:ns.length<=7)(w:Wf h):∀{zss:List WA} {acc:WA},(∀z∈zss,z∈cF (rows ns allR))->acc.length+zss.length<=100000->∀a6:Option D,∃b6,bX (aq 6) CA ((zss.map PyData.tuple).map D.dat) (Fb ns r q kd ps (some (.ref h.length)) a5 a6) (hK h acc)=.ok (.nx (Fb ns r q kd ps (some (.ref h.length)) a5 b6)) (hK h (acc++(zss.filter (Ii ns kd r q)).map lQ))
 | [],acc,_,_,a6=>⟨a6,by simp[bX]⟩
 |zs::zss,acc,hs,hl,a6=>by
  simp only[SM]at hl;have wk:=Ph w acc;have sl:=fW _ zs (hs zs (by simp));have ez:=qy Rn sl;have tt:bO [.dat (.tuple (rows ns r)),.dat (.tuple zs)] (hK h acc)=.ok (.dat (.tuple (rows ns (xr r (ik zs))))) (hK h acc):=by have:=vQ (r:=r) (q:=ik zs) Rn nl (hK h acc);rw[<- ez]at this;exact this
  have k1:aO (ai oEq (ag bN (aa (br (aa (ai cn (ae 0) (aj (.int 0))) (aa (ag bO (aa (ai cn (ae 0) (aj (.int 1))) (aa (ae 6) ah))) ah))) (aa (ae 2) ah))) (ag bN (aa (ae 1) (aa (ae 2) ah)))) (Fb ns r q kd ps (some (.ref h.length)) a5 (some (.dat (.tuple zs)))) (hK h acc)=.ok (Ii ns kd r q zs) (hK h acc):=
   bA (ao (aw (ak (x:=.dat (aS ns (xr r (ik zs)))) (bL (a:=.tuple ns) (ao (x:=.dat (aS ns r)) rfl (y:=.int 0) rfl rfl) (aw (ak (ao (x:=.dat (aS ns r)) rfl (y:=.int 1) rfl rfl) (ak (x:=.dat (.tuple zs)) rfl rfl)) tt)) (ak (x:=.dat (.str kd.nm)) rfl rfl)) (lP Rn kd wk)) (aw (xs:=[.dat (aS ns q),.dat (.str kd.nm)]) rfl (lP Rn kd wk)) (Nl (hK h acc) Rn Rn))
  cases z:Ii ns kd r q zs with
  |false=>rw[z]at k1;obtain⟨b6,ih⟩:=zt Rn nl w (ps:=ps) (a5:=a5) (zss:=zss) (acc:=acc) (λq m=>hs q (by simp[m])) (by omega) (some (.dat (.tuple zs)));refine⟨b6,?_⟩;have st:CA (Fb ns r q kd ps (some (.ref h.length)) a5 (some (.dat (.tuple zs)))) (hK h acc)=.ok (.nx (Fb ns r q kd ps (some (.ref h.length)) a5 (some (.dat (.tuple zs))))) (hK h acc):=A8 k1 rfl;simp only[SV,bX,aq,R.aJ,R.cK,TM,Tw];rw[st];simp only[R.cK,R.aJ,VY,z,SF,Tz];exact ih
  |true=>
   rw[z]at k1;obtain⟨b6,ih⟩:=zt Rn nl w (ps:=ps) (a5:=a5) (zss:=zss) (acc:=acc++[lQ zs]) (λq m=>hs q (by simp[m])) (by simp;omega) (some (.dat (.tuple zs)));refine⟨b6,?_⟩
   have ap:mq eF (ae 4) (br (aa (ag gb (aa (ae 6) ah)) (aa (ae 6) ah))) (Fb ns r q kd ps (some (.ref h.length)) a5 (some (.dat (.tuple zs)))) (hK h acc)=.ok D.none (hK h (acc++[lQ zs])):=by
    have g:(h++[MO.lst (acc.map D.dat)])[h.length]?=some (.lst (acc.map D.dat)):=by simp
    have c:decide ((acc.map D.dat).length<16777216)=true:=Tn (by rw[SG];omega);have t:br (aa (ag gb (aa (ae 6) ah)) (aa (ae 6) ah)) (Fb ns r q kd ps (some (.ref h.length)) a5 (some (.dat (.tuple zs)))) (hK h acc)=.ok (.dat (lQ zs)) (hK h acc):=bL (a:=.int (zs.length:Int)) (aw (xs:=[.dat (.tuple zs)]) rfl rfl) rfl;simp only[mq,ae,U8,Uh,R.aJ,KZ,g,Tg];rw[t];simp only[R.aJ,eF,g,c,Tg];rw[Vi _ _ (Ss _)];simp
   have st:CA (Fb ns r q kd ps (some (.ref h.length)) a5 (some (.dat (.tuple zs)))) (hK h acc)=.ok (.nx (Fb ns r q kd ps (some (.ref h.length)) a5 (some (.dat (.tuple zs))))) (hK h (acc++[lQ zs])):=Pg k1 (fO ap);simp only[SV,bX,aq,R.aJ,R.cK,TM,Tw];rw[st];simp only[R.cK,R.aJ,VY,z,Tg];rw[ih];simp
theorem Fg(Rn:Nr ns)(l2:ns.length<=2)(w:Wf h):gS [.dat (aS ns r),.dat (aS ns q),.dat (.str kd.nm)] h=.ok (.dat (.list [.tuple (rows ns (cJ kd r q))])) h:=by
 have lr:(rows ns allR).length<=4:=Sw dw (Tv l2 l2);have ll:(cF (rows ns allR)).length<=16:=by rw[rN];exact V0 (by decide) lr
 obtain⟨so,rest,e1,e2,e3⟩:=Ks (kd:=kd) (r:=r) (q:=q) Rn l2;obtain⟨b5,lp⟩:=D6 (r:=r) (q:=q) (kd:=kd) (h:=hK h []) (x4:=some (.ref h.length)) (a6:=none) (ns:=ns) (by omega) (xs:=ns) (acc:=[]) (by simp;omega) none;rw[TH,Bf]at lp;obtain⟨b6,lq⟩:=zt (r:=r) (q:=q) (kd:=kd) Rn (by omega) w (ps:=rows ns allR) (a5:=b5) (zss:=cF (rows ns allR)) (acc:=[]) (λ_ m=>m) (by simp;omega) none;rw[TH]at lq;generalize hB:((cF (rows ns allR)).filter (Ii ns kd r q)).map lQ=B at *;have lB:B.length<=16:=by rw[<- hB,SG];exact Sw (S9 _ _) ll
 have g:(h++[MO.lst (B.map D.dat)])[h.length]?=some (.lst (B.map D.dat)):=by simp
 have bs:cE [.ref h.length] (hK h B)=.ok (.dat (.list (bY ltB B))) (hK h B):=by simp only[cE,listOf,g,ki,so,Tg]
 have lS:(bY ltB B).length<=16:=by rw[(bG _ _).length_eq];exact lB
 have key:=dM (n:=1) (it:=aN (ae 4)) (g:=aq 0) (t:=aO (ai oEq (ai cn (ae 0) (aj (.int 0))) (ai cn (ai cn (ae 5) (aj (.int 0))) (aj (.int 0))))) (e:=ai cn (ae 0) (aj (.int 1))) (ρ:=Fb ns r q kd (rows ns allR) (some (.dat (.list (bY ltB B)))) b5 b6) (h:=hK h B) (h1:=hK h B) (ds:=bY ltB B) (jQ rfl) (by omega) (λe=>decide (e=lQ (rows ns (cJ kd r q)))) (λe=>match e with|.tuple [_,z]=>z|_=>.none) (λd hd=>by
  obtain⟨zs,rfl,ed⟩:=e3 d hd;refine⟨_,rfl,?_,λ_=>ao (x:=.dat (lQ zs)) rfl (y:=.int 1) rfl rfl⟩;have c:oEq (.dat (.int (zs.length:Int))) (.dat (.int ((rows ns (cJ kd r q)).length:Int))) (hK h B)=.ok (.bool (decide (lQ zs=lQ (rows ns (cJ kd r q))))) (hK h B):=by rw[<- ed];rw[show oEq (.dat (.int (zs.length:Int))) (.dat (.int ((rows ns (cJ kd r q)).length:Int))) (hK h B)=_ from Ka _ _ _];rfl
  refine bA (ao (ao (x:=.dat (lQ zs)) rfl (y:=.int 0) rfl rfl) (ao (x:=.dat (lQ (rows ns (cJ kd r q)))) (ao (x:=.dat (.list (bY ltB B))) rfl (y:=.int 0) rfl ?_) (y:=.int 0) rfl rfl) c)
  rw[Kb,e1,Pa])
 rw[e2]at key;refine Bc (t:=[.lst (B.map D.dat)]) w ?_;refine fV rfl (aP (ρ1:=Fb ns r q kd [] (some (.ref h.length)) none none) (h1:=hK h []) rfl (aP (fN (cv (ao (x:=.dat (aS ns r)) rfl (y:=.int 0) rfl rfl)) lp) (aP (fN (jQ (aw (xs:=[.dat (.list (rows ns allR))]) rfl (Kr (by omega) _))) lq) (aP (bK (aw (xs:=[.ref h.length]) rfl bs)) (dN key)))))
end
section
variable {ns:WA} {r q:Rel} {kd:Kd}
noncomputable abbrev Lp(v:ME):ME:=bZ 1 (aN v) (aq 0) (aO (ai oEq (ag aF (aa (ae 1) (aa (aj (.int 2)) ah))) (aj (.int 0)))) (ae 0)
theorem Kt(b:Px i h)(hz:ps.length<=1000)(e5:aN v ρ h=.ok (ps.map D.dat) h)(e0:ρ[0]?=some (some (.ref i))):Dp i h (Lp v ρ h) λd=>∃ls:WA,d=.dat (.list ls)/\ls.Sublist ps:=by
 obtain⟨ys,zs,h',q1,q2,q3,q4⟩:=jn (n:=1) (ρ:=ρ) (g:=aq 0) (t:=aO (ai oEq (ag aF (aa (ae 1) (aa (aj (.int 2)) ah))) (aj (.int 0)))) (e:=ae 0) (Ps i h) (λx y=>y=x) (xs:=ps.map D.dat) (h:=h) (λx hx h1 s1=>by
  obtain⟨d,hd,rfl⟩:=SU.mp hx;obtain⟨_,h2,e2,s2,k,rfl,hk⟩:=hE (s1.px b) (c:=2) (by decide) (by decide);have v1:ae 1 (some (.dat d)::ρ) h1=.ok (.ref i) h1:=by simp[ae,e0]
  refine⟨some (.dat d)::ρ,h1,decide ((k:Int)=0),h2,rfl,bA (ao (aw (ak v1 (ak (x:=.int 2) rfl rfl)) e2) rfl (tQ h2)),?_⟩
  cases hc:decide ((k:Int)=0)with
  |false=>exact .inl ⟨rfl,s1.trans s2⟩
  |true=>exact .inr ⟨rfl,.dat d,h2,rfl,rfl,s1.trans s2⟩) b.refl
 obtain⟨ls,rfl,sl⟩:=zi q3;rw[xS q4]at q1;have ll:=sl.length_le;refine⟨.dat (.list ls),h',?_,q2,ls,rfl,sl⟩;refine aw (xs:=ls.map D.dat) (h1:=h') ?_ (cV _ h' (by omega));unfold mI;rw[e5];simp only[R.aJ,SG,sz (show ps.length<=16777216 by omega),Tg];exact q1
theorem D7(Rn:Nr ns)(nl:ns.length<=7):Ok 740 2 (.tuple (rows ns r)):=by have lr:(rows ns r).length<=49:=Sw dw (Tv nl nl);exact((lJ.of λd m=>(lL ((aL Rn).sub d m)).2.2.2.2.2).mono (by omega) (Ss _)).tup
theorem zu(Rn:Nr ns)(nl:ns.length<=7):Ok 900 3 (aS ns r):=by have o1  := (qt (r:=r) Rn (Ss _)).Py;exact((lJ.cons (o1.mono (Ss _) (by decide)) (lJ.one (D7 Rn nl))).mono (by omega) (Ss _)).tup
theorem Ku(t:av x=true)(d:x.depth<=5)(h:Hm):kI (.dat (.list [x])) (.dat (.list [x])) h=.ok (.bool false) h:=by
 have l':decide (min (PyData.list [x]).depth (PyData.list [x]).depth<=40)=true:=Tn (by grind[PyData.depth,PyData.depthAll])
 simp_all[PyData.hasDict,PyData.hasDictAll,cN,PyData.eqv,PyData.eqvAll,aU,kI,eqQ,noDict]
noncomputable abbrev F8(i:Nat)(ns:WA)(r q:Rel)(a3 a4 a5 a6 a7:Option D):Fm:=[some (.ref i),some (.dat (aS ns r)),some (.dat (aS ns q)),a3,a4,a5,a6,a7]
noncomputable abbrev Pj:MS:=bj (bU 4 (ag gj (aa (ae 1) (aa (ae 2) (aa (ae 3) ah)))))
  (bj (nY (aO (ai kI (ag gB (aa (jc (aa (ag df (aa (ae 1) (aa (ae 2) (aa (ae 3) ah)))) (aa (ag df (aa (ae 1) (aa (ae 2) (aa (ae 3) ah)))) ah))) ah)) (ag gB (aa (jc (aa (ae 4) (aa (ae 4) ah))) ah)))) (cC (aj (.bool false))) dz)
  (nY (o3 (aO (ai oLt (ag gb (aa (ai cn (ae 1) (aj (.int 0))) ah)) (aj (.int 3)))) (aO (ai kI (ag gS (aa (ae 1) (aa (ae 2) (aa (ae 3) ah)))) (jc (aa (ae 4) ah))))) (cC (aj (.bool false))) dz))
theorem Kv(Rn:Nr ns)(nl:ns.length<=7)(w:Wf h):∃b4,Pj (F8 i ns r q (some (.dat (.str kd.nm))) a4 a5 a6 a7) h=.ok (.nx (F8 i ns r q (some (.dat (.str kd.nm))) b4 a5 a6 a7)) h:=by
 have du:=NA (r:=r) (q:=q) Rn nl kd w;have ma:=Kq (r:=r) (q:=q) Rn nl kd h;have o:=D7 (r:=cJ kd r q) Rn nl;have rp:=qp ((lJ.cons o (lJ.one o)).lst) h (by decide) (by decide);generalize hD:cJ kd r q=D0 at *;have i1:nY (aO (ai kI (ag gB (aa (jc (aa (ag df (aa (ae 1) (aa (ae 2) (aa (ae 3) ah)))) (aa (ag df (aa (ae 1) (aa (ae 2) (aa (ae 3) ah)))) ah))) ah)) (ag gB (aa (jc (aa (ae 4) (aa (ae 4) ah))) ah)))) (cC (aj (.bool false))) dz (F8 i ns r q (some (.dat (.str kd.nm))) (some (.dat (.tuple (rows ns D0)))) a5 a6 a7) h=.ok (.nx (F8 i ns r q (some (.dat (.str kd.nm))) (some (.dat (.tuple (rows ns D0)))) a5 a6 a7)) h:=by refine A8 (h1:=h) (bA (ao (aw (ak ((bz (f:=eL) (ak (aw (xs:=[.dat (aS ns r),.dat (aS ns q),.dat (.str kd.nm)]) rfl ma) (ak (aw (xs:=[.dat (aS ns r),.dat (aS ns q),.dat (.str kd.nm)]) rfl ma) rfl))).trans (rJ _ _ _)) rfl) rp) (aw (ak ((bz (f:=eL) (ak (x:=.dat (.tuple (rows ns D0))) rfl (ak (x:=.dat (.tuple (rows ns D0))) rfl rfl))).trans (rJ _ _ _)) rfl) rp) (f:=kI) (by simp[kI]))) rfl
 have c3:aO (ai oLt (ag gb (aa (ai cn (ae 1) (aj (.int 0))) ah)) (aj (.int 3))) (F8 i ns r q (some (.dat (.str kd.nm))) (some (.dat (.tuple (rows ns D0)))) a5 a6 a7) h=.ok (decide ((ns.length:Int)<3)) h:=bA (ao (aw (ak (ao (x:=.dat (aS ns r)) rfl (y:=.int 0) rfl rfl) rfl) (d:=.int (ns.length:Int)) rfl) (y:=.int 3) rfl (tL _ _ h));refine⟨_,aP (bK (aw (xs:=[.dat (aS ns r),.dat (aS ns q),.dat (.str kd.nm)]) rfl du)) (aP i1 (A8 (h1:=h) ?_ rfl))⟩;by_cases z:(ns.length:Int)<3
 ·rw[Tn z]at c3;have ba:=Fg (r:=r) (q:=q) (kd:=kd) Rn (by omega) w;rw[hD]at ba;exact(Nd c3).trans (bA (ao (aw (xs:=[.dat (aS ns r),.dat (aS ns q),.dat (.str kd.nm)]) rfl ba) ((bz (f:=eL) (ak (x:=.dat (.tuple (rows ns D0))) rfl rfl)).trans (cV [.tuple (rows ns D0)] h (by simp))) (Ku (by simpa [av]using xU bQ (aL (r:=D0) Rn)) (Sw o.d (by decide)) h)))
 ·rw[Tr z]at c3;exact Nf c3
noncomputable abbrev HY:MS:=bU 5 (ai dA (ae 5) (bZ 1 (aN (ai cn (ae 1) (aj (.int 0)))) (aq 0) cX (br (aa (ae 7) (aa (ae 0) ah)))))
theorem D8(nl:ns.length<=12):∀{xs acc:WA},acc.length+xs.length*12<=1000->∀a6:Option D,∃b6,bX (aq 6) HY (xs.map D.dat) (F8 i ns r q a3 a4 (some (.dat (.list acc))) a6 a7) h=.ok (.nx (F8 i ns r q a3 a4 (some (.dat (.list (acc++xs.flatMap λa=>ns.map λb=>PyData.tuple [a,b])))) b6 a7)) h
 | [],acc,_,a6=>⟨a6,by simp[bX]⟩
 |x::xs,acc,hl,a6=>by
  have key:=gN (n:=1) (it:=aN (ai cn (ae 1) (aj (.int 0)))) (g:=aq 0) (e:=br (aa (ae 7) (aa (ae 0) ah))) (ρ:=F8 i ns r q a3 a4 (some (.dat (.list acc))) (some (.dat x)) a7) (h1:=h) (cv (ao rfl rfl rfl)) (by omega) (λb=>.tuple [x,b]) (λb _=>⟨_,rfl,bL rfl rfl⟩);obtain⟨b6,ih⟩:=D8 (h:=h) (i:=i) (a3:=a3) (a4:=a4) (a7:=a7) nl (xs:=xs) (acc:=acc++ns.map λb=>PyData.tuple [x,b]) (by grind) (some (.dat x));have st:HY (F8 i ns r q a3 a4 (some (.dat (.list acc))) (some (.dat x)) a7) h=.ok (.nx (F8 i ns r q a3 a4 (some (.dat (.list (acc++ns.map λb=>PyData.tuple [x,b])))) (some (.dat x)) a7)) h:=bK (ao (x:=.dat (.list acc)) rfl key (eA h (by grind)))
  simp_all[SV,bX,aq,R.cK,R.aJ,TM,Tw,st,ih]
noncomputable abbrev Pk:MS:=bj (bU 4 (br (aa (ai cn (ae 1) (aj (.int 0))) (aa (ag bO (aa (ai cn (ae 1) (aj (.int 1))) (aa (ae 7) ah))) ah))))
  (nY (aO (ai kI (ag gB (aa (jc (aa (ag iX (aa (ae 1) (aa (ae 7) ah))) (aa (ag iX (aa (ae 1) (aa (ae 7) ah))) ah))) ah)) (ag gB (aa (jc (aa (ae 4) (aa (ae 4) ah))) ah)))) (cC (aj (.bool false))) dz)
theorem Kw(Rn:Nr ns)(nl:ns.length<=7):∃b4,Pk (F8 i ns r q a3 a4 a5 a6 (some (.dat (.tuple (rows ns p))))) h=.ok (.nx (F8 i ns r q a3 b4 a5 a6 (some (.dat (.tuple (rows ns p)))))) h:=by have tu:=vQ (r:=r) (q:=p) Rn nl h;have ch:=Cz (r:=r) (q:=p) Rn nl h;have o:=zu (r:=xr r p) Rn nl;have rp:=qp ((lJ.cons o (lJ.one o)).lst) h (by decide) (by decide);refine⟨_,aP (bK (x:=.dat (aS ns (xr r p))) (bL (a:=.tuple ns) (ao (x:=.dat (aS ns r)) rfl (y:=.int 0) rfl rfl) (aw (ak (ao (x:=.dat (aS ns r)) rfl (y:=.int 1) rfl rfl) (ak (x:=.dat (.tuple (rows ns p))) rfl rfl)) tu))) (A8 (h1:=h) (bA (ao (aw (ak ((bz (f:=eL) (ak (aw (xs:=[.dat (aS ns r),.dat (.tuple (rows ns p))]) rfl ch) (ak (aw (xs:=[.dat (aS ns r),.dat (.tuple (rows ns p))]) rfl ch) rfl))).trans (rJ _ _ _)) rfl) rp) (aw (ak ((bz (f:=eL) (ak (x:=.dat (aS ns (xr r p))) rfl (ak (x:=.dat (aS ns (xr r p))) rfl rfl))).trans (rJ _ _ _)) rfl) rp) (f:=kI) (by simp[kI]))) rfl)⟩
theorem D9(b:Px i h)(Rn:Nr ns)(nl:ns.length<=7):Dp i h (eY [.ref i,.dat (aS ns r),.dat (aS ns q)] h) λd=>d=.bool true:=by
 obtain⟨ρ1,e1,a3,a4,rfl⟩:=Bb (g:=aq 3) (b:=Pj) (ds:=Nu) (h:=h) (λρ=>∃a3 a4,ρ=F8 i ns r q a3 a4 none none none) (λd hd ρ ⟨a3,a4,e⟩=>by
  subst e;obtain⟨kd,rfl⟩:=HN hd;obtain⟨b4,e⟩:=Kv (r:=r) (q:=q) (kd:=kd) Rn nl b.wf (i:=i) (a4:=a4) (a5:=none) (a6:=none) (a7:=none)
  exact⟨_,_,rfl,e,_,_,rfl⟩) (ρ:=F8 i ns r q none none none none none) ⟨_,_,rfl⟩
 obtain⟨b6,lp⟩:=D8 (r:=r) (q:=q) (h:=h) (i:=i) (a3:=a3) (a4:=a4) (a7:=none) (ns:=ns) (by omega) (xs:=ns) (acc:=[]) (by simp;omega) none;rw[TH,Bf]at lp;have lr:(rows ns allR).length<=49:=Sw dw (Tv nl nl);obtain⟨_,h2,e2,s2,ls,rfl,sl⟩:=Kt b (v:=ae 5) (ps:=rows ns allR) (by omega) (ρ:=F8 i ns r q a3 a4 (some (.dat (.list (rows ns allR)))) b6 none) (jQ rfl) rfl
 have it:aN (jc (aa (aj (.tuple [])) (aa (ag dH (aa (ae 5) ah)) (aa (ag dH (aa (Lp (ae 5)) ah)) (aa (ai cn (ae 1) (aj (.int 1))) ah))))) (F8 i ns r q a3 a4 (some (.dat (.list (rows ns allR)))) b6 none) h=.ok ([PyData.tuple [],.tuple (rows ns allR),.tuple ls,.tuple (rows ns r)].map D.dat) h2:=
  jQ ((bz (f:=eL) (ak (x:=.dat (.tuple [])) (h1:=h) rfl (ak (x:=.dat (.tuple (rows ns allR))) (h1:=h) rfl (ak (x:=.dat (.tuple ls)) (aw (ak e2 rfl) rfl) (ak (x:=.dat (.tuple (rows ns r))) (h1:=h2) rfl rfl))))).trans (cV [PyData.tuple [],.tuple (rows ns allR),.tuple ls,.tuple (rows ns r)] h2 (by simp)))
 obtain⟨ρ3,e3,c4,c7,rfl⟩:=Bb (g:=aq 7) (b:=Pk) (ds:=[PyData.tuple [],.tuple (rows ns allR),.tuple ls,.tuple (rows ns r)]) (h:=h2) (λρ=>∃c4 c7,ρ=F8 i ns r q a3 c4 (some (.dat (.list (rows ns allR)))) b6 c7) (λd hd ρ ⟨c4,c7,e⟩=>by
  subst e
  obtain⟨p,rfl⟩:∃p:Rel,d=.tuple (rows ns p):=by
   simp only[Sz,Tb,UC]at hd;rcases hd with rfl|rfl|rfl|rfl
   ·exact⟨ik [],by rw[<- qy Rn (List.nil_sublist (rows ns allR))]⟩
   ·exact⟨_,rfl⟩
   ·exact⟨ik ls,by rw[<- qy Rn sl]⟩
   ·exact⟨_,rfl⟩
  obtain⟨b4,e⟩:=Kw (r:=r) (q:=q) Rn nl (h:=h2) (i:=i) (p:=p) (a3:=a3) (a4:=c4) (a5:=some (.dat (.list (rows ns allR)))) (a6:=b6)
  exact⟨_,_,rfl,e,_,_,rfl⟩) (ρ:=F8 i ns r q a3 a4 (some (.dat (.list (rows ns allR)))) b6 none) ⟨_,_,rfl⟩
 exact⟨_,h2,fV rfl (aP (fN (jQ (ds:=Nu) rfl) e1) (aP (bK (x:=.dat (.list [])) rfl) (aP (fN (cv (ao (x:=.dat (aS ns r)) rfl (y:=.int 0) rfl rfl)) lp) (aP (fN it e3) (dN rfl))))),s2,rfl⟩
end
noncomputable abbrev RY:MS:=bj (mG (i7 (bP (aq 4) (bP (aq 5) iI))) (ag kT (aa (ae 2) (aa (ae 3) ah))))
  (bj (bU 6 (ag gB (aa (jc (aa (ae 4) (aa (ae 5) ah))) ah)))
  (nY (vU (i6 (cy (ag eY (aa (ae 2) (aa (ae 4) (aa (ae 5) ah)))))) (vU (i6 (cy (ag eY (aa (ae 2) (aa (ae 5) (aa (ae 4) ah)))))) (aO (ai kI (ag gB (aa (jc (aa (ae 4) (aa (ae 5) ah))) ah)) (ae 6))))) (cC (aj (.bool false))) dz))
theorem HZ:∀ns:List Int,ns.length<=63->∃h,Dv [.scr ns] []=.ok (.bool true) h:=by
 intro ns hn;obtain⟨ds,ec,hd⟩:=HU ns 3 (ρ:=[some (.scr ns),none,none,none,none,none,none]) rfl hn []
 obtain⟨ρ',h',e,_⟩:=Bh (g:=aq 1) (b:=bj (bU 2 (ag jg (aa (ae 1) ah))) (nQ (aN (aj (.tuple [.int 6,.int 2]))) (aq 3) RY))
  (λρ=>∃a1 a2 a3 a4 a5 a6,ρ=[some (.scr ns),a1,a2,a3,a4,a5,a6]) hd (λz ρ h w ⟨a1,a2,a3,a4,a5,a6,e⟩=>by
   subst e;obtain⟨n,f,ep,px⟩:=Np z w
   obtain⟨ρ3,h3,e3,s3,b3,b4,b5,b6,rfl⟩:=HS (i:=h.length) (g:=aq 3) (b:=RY)
    (λρ=>∃b3 b4 b5 b6,ρ=[some (.scr ns),some (.int z),some (.ref h.length),b3,b4,b5,b6]) (ds:=[.int 6,.int 2]) (ρ:=[some (.scr ns),some (.int z),some (.ref h.length),a3,a4,a5,a6]) px (λd hd ρ hh p ⟨b3,b4,b5,b6,e⟩=>by
     subst e
     obtain⟨m,rfl,hm⟩:∃m:Nat,d=.int (m:Int)/\m<=7:=by
      simp only[Sz,Tb,UC]at hd;rcases hd with rfl|rfl
      ·exact⟨6,rfl,by decide⟩
      ·exact⟨2,rfl,by decide⟩
     obtain⟨_,h4,e4,s4,N,r,q,rfl,rn,ln⟩:=Nz p (m:=m) hm;have p4:=s4.px p;have ok2:=(lJ.cons (zu (r:=r) rn (by omega)) (lJ.one (zu (r:=q) rn (by omega)))).lst;obtain⟨_,h5,e5,s5,rfl⟩:=D9 p4 (r:=r) (q:=q) rn (by omega);have p5:=s5.px p4;obtain⟨_,h6,e6,s6,rfl⟩:=D9 p5 (r:=q) (q:=r) rn (by omega);have rp:=qp ok2 h4 (by decide) (by decide);have rp6:=qp ok2 h6 (by decide) (by decide)
     exact⟨_,_,h6,rfl,aP (rL (aw (xs:=[.ref h.length,.int (m:Int)]) rfl e4) rfl) (aP (bK (aw (ak ((bz (f:=eL) (ak (x:=.dat (aS N r)) rfl (ak (x:=.dat (aS N q)) rfl rfl))).trans (rJ _ _ _)) rfl) rp)) (A8 (h1:=h6) (HF (qr (kC (aw (xs:=[.ref h.length,.dat (aS N r),.dat (aS N q)]) rfl e5))) (HF (qr (kC (aw (xs:=[.ref h.length,.dat (aS N q),.dat (aS N r)]) rfl e6))) (bA (ao (aw (ak ((bz (f:=eL) (ak (x:=.dat (aS N r)) rfl (ak (x:=.dat (aS N q)) rfl rfl))).trans (rJ _ _ _)) rfl) rp6) (y:=.rpr (PyData.list [aS N r,aS N q]).shown) rfl (f:=kI) (by simp[kI]))))) rfl)),(s4.trans s5).trans s6,_,_,_,_,rfl⟩) ⟨_,_,_,_,rfl⟩
   exact⟨_,_,h3,rfl,aP (bK (aw (xs:=[.int z]) rfl ep)) (fN (cv (ds:=[.int 6,.int 2]) rfl) e3),(s3.px px).wf,_,_,_,_,_,_,rfl⟩) (h:=[]) (ρ:=[some (.scr ns),none,none,none,none,none,none]) (λo m=>by cases m) ⟨_,_,_,_,_,_,rfl⟩
 exact⟨h',fV rfl (aP (fN ec e) (dN rfl))⟩
section
variable {P:WC->Prop}
theorem Ru(h:P []):∀us,us.length=0->P us
 | [],_=>h
theorem all1(h:∀a,P [a]):∀us,us.length=1->P us
 | [a],_=>h a
theorem all2(h:∀a b,P [a,b]):∀us,us.length=2->P us
 | [a,b],_=>h a b
theorem wM(h:∀a b c,P [a,b,c]):∀us,us.length=3->P us
 | [a,b,c],_=>h a b c
theorem Rv(h:∀a b c d,P [a,b,c,d]):∀us,us.length=4->P us
 | [a,b,c,d],_=>h a b c d
end
end Ml
namespace K25
open PySem L2 Ml
theorem NF{K:WD}{h:Heap}{mg:Wz}{ta0:Addr}{fb0:Addr}{k0:Tok}{k1:Tok}(X:K.In h)(G:h.Ns mainGlobals mg)
 (z0:PySem.W.nsIn K mainGlobals "all" = some none)
 (z1:PySem.W.nsIn K mainGlobals "len" = some none)
 (z2:PySem.W.nsIn K mainGlobals "isinstance" = some none)
 (z3:PySem.W.nsIn K mainGlobals "str" = some none)
 (z4:PySem.W.nsIn K mainGlobals "zip" = some none)
 (z5:PySem.W.nsIn K mainGlobals "tuple" = some none)
 (z6:PySem.W.nsIn K mainGlobals "sorted" = some none)
 (z7:PySem.W.nsIn K mainGlobals "set" = some none)
 (z8:PySem.W.nsIn K mainGlobals "int" = some none)
 (z9:PySem.W.nsIn K mainGlobals "max" = some none)
 (z10:PySem.W.nsIn K mainGlobals "divmod" = some none)
 (z11:PySem.W.nsIn K mainGlobals "range" = some none)
 (z12:PySem.W.nsIn K mainGlobals "list" = some none)
 (z13:PySem.W.nsIn K mainGlobals "repr" = some none)
 (a0:PySem.W.nsIn K mainGlobals "LONGEST_NAME" = some (some (.int 6 k0)))
 (a1:PySem.W.nsIn K mainGlobals "MOST_NAMES" = some (some (.int 12 k1)))
 (fn0:PySem.W.nsIn K mainGlobals "IDLE" = some (some (.ref fb0)))(fk0:QQ K fb0 oN=true)
 (tn0:PySem.W.nsIn K mainGlobals "KINDS" = some (some (.ref ta0)))(tk0:QP K ta0 yJ=true)
  : Txt K mg:=⟨Tp X G z0,Tp X G z1,Tp X G z2,Tp X G z3,Tp X G z4,Tp X G z5,Tp X G z6,Tp X G z7,Tp X G z8,Tp X G z9,Tp X G z10,Tp X G z11,Tp X G z12,Tp X G z13,⟨_,Vl X G a0⟩,⟨_,Vl X G a1⟩,⟨_,Vl X G fn0,MZ (λ_ _=>Vl X G) fk0⟩,⟨_,Vl X G tn0,MX tk0⟩⟩
theorem all_mk{l:PySem.W.OpenLaw}{w:World}{K:WD}{h:Heap}{mg:Wz}{fa f:Addr}{od an:Option Addr}{sl:WH}{oc kV dc pm cd ct:Value}(X:K.In h)(G:h.Ns mainGlobals mg)(hfa:mg "law" = some (.ref fa))(T:Txt K mg)
 (d0:Df K mg "is_name" nH rj)
 (d1:Df K mg "is_rising" jF mR)
 (d2:Df K mg "are_names" jG mU)
 (d3:Df K mg "is_strike" jH mV)
 (d4:Df K mg "are_strikes" gV j3)
 (d5:Df K mg "is_web" pZ vi)
 (d6:Df K mg "check_web" jI mW)
 (d7:Df K mg "check_pair" iQ kY)
 (d8:Df K mg "check_kind" iR kZ)
 (d9:Df K mg "check_same" iS lh)
 (d10:Df K mg "idle_for_stable" eJ gn)
 (d11:Df K mg "idle_for_standing" dD fh)
 (d12:Df K mg "idle_for_whole" fb gK)
 (d13:Df K mg "idle_for_grounded" dE fj)
 (d14:Df K mg "kernel" qe vj)
 (d15:Df K mg "fullest" nI rC)
 (d16:Df K mg "check_changes" fL iD)
 (d17:Df K mg "turned" qg vm)
 (d18:Df K mg "changed" nJ rE)
 (d19:Df K mg "made_alike" iT lj)
 (d20:Df K mg "_law_cell" jK m6)
 (d21:Df K mg "_law_pen" lu oU)
 (d22:Df K mg "_law_draw" jL m7)
 (d23:Df K mg "_law_names" iU lx)
 (d24:Df K mg "_law_web" ly oV)
 (d25:Df K mg "_law_lots" jM m8)
 (d26:Df K mg "_law_kernel_kinds" dF fo)
 (d27:Df K mg "_law_is_idle" gr jj)
 (d28:Df K mg "_law_kernel" gW j5)
 (d29:Df K mg "_law_fullest" gv jl)
 (d30:Df K mg "_law_turned" gY j6)
 (d31:Df K mg "_law_mate" jN ng)
 (d32:Df K mg "_law_selves" g6 j7)
 (d33:Df K mg "_law_two" lC oW)
 (d34:Df K mg "_law_due" lD oX)
 (d35:Df K mg "_law_by_all" g9 j8)
 (d36:Df K mg "_law_right" iW lF)
 (a:PySem.W.nsIn K mainGlobals "law" = some (some (.ref f)))(l0:K.lookup f=some ⟨oc,od,.func (PySem.W.fnOf "law" "law" (ju ql) (f6 ql) (aB ql) .none kV dc pm an cd ct),sl⟩)(c:PySem.W.codeIn K cd "law" = true)(k:PySem.W.keepIn K (.ref f)=true) :
  ∃fd:FuncData,(∀(s:WO) (v:Value),BindsTo s fd ⟨[v],[]⟩ [("_law_script",v)])/\∀base:Heap,K.In base->base.Ns mainGlobals mg->ka l.prog w K mg base (vT l.prog w) 9 fa fd ["_law_script"] (H0 ⟨l.prog,w,mg,K⟩ Dv):=by
 have e:=hfa.symm.trans (Vl X G a);cases e;have FL:=By (st:=ql) l0 c k;refine⟨PySem.W.fnOf "law" "law" (ju ql) (f6 ql) (aB ql) .none kV dc pm an cd ct,λs v=>.of_eq rfl,λbase _ _=>?_⟩;have J9:=EZ (P:=l.prog) (w:=w) (base:=base) d0 T;have J10:=AK (P:=l.prog) (w:=w) (base:=base) d1 T;have J11:=AL (P:=l.prog) (w:=w) (base:=base) d2 T J10 J9;have J12:=AM (P:=l.prog) (w:=w) (base:=base) d3 T;have J13:=wB (P:=l.prog) (w:=w) (base:=base) d4 T J10 J12;have J14:=Hh (P:=l.prog) (w:=w) (base:=base) d5 T J13 J11;have J15:=AO (P:=l.prog) (w:=w) (base:=base) d6 T J14;have J16:=y6 (P:=l.prog) (w:=w) (base:=base) d7 T;have J19:=y7 (P:=l.prog) (w:=w) (base:=base) d8 T;have J20:=y8 (P:=l.prog) (w:=w) (base:=base) d9 T J19 J16 J15;have J22:=qc (P:=l.prog) (w:=w) (base:=base) d10 T;have J23:=nU (P:=l.prog) (w:=w) (base:=base) d11 T;have J24:=rB (P:=l.prog) (w:=w) (base:=base) d12 T;have J25:=nV (P:=l.prog) (w:=w) (base:=base) d13 T;have J27:=Hi (P:=l.prog) (w:=w) (base:=base) d14 T J25 J23 J22 J24 J19 J15;have J28:=E0 (P:=l.prog) (w:=w) (base:=base) d15 T J25 J23 J22 J24 J27;have J30:=sY (P:=l.prog) (w:=w) (base:=base) d16 T J13;have J31:=Hj (P:=l.prog) (w:=w) (base:=base) d17 T;have J32:=E3 (P:=l.prog) (w:=w) (base:=base) d18 T J31 J30 J15;have J33:=za (P:=l.prog) (w:=w) (base:=base) d19 T J28 J27 J20;have J35:=AU (P:=l.prog) (w:=w) (base:=base) d20 T;have J36:=Cb (P:=l.prog) (w:=w) (base:=base) d21 T;have J37:=AV (P:=l.prog) (w:=w) (base:=base) d22 T;have J38:=zc (P:=l.prog) (w:=w) (base:=base) d23 T J37;have J39:=Cc (P:=l.prog) (w:=w) (base:=base) d24 T J37 J38;have J40:=AW (P:=l.prog) (w:=w) (base:=base) d25 T;have J41:=nW (P:=l.prog) (w:=w) (base:=base) d26 T;have J42:=vt (P:=l.prog) (w:=w) (base:=base) d27 T;have J43:=wH (P:=l.prog) (w:=w) (base:=base) d28 T J42;have J44:=vw (P:=l.prog) (w:=w) (base:=base) d29 T J42;have J46:=wI (P:=l.prog) (w:=w) (base:=base) d30 T;have J45:=AX (P:=l.prog) (w:=w) (base:=base) d31 T J37 J46;have J48:=wJ (P:=l.prog) (w:=w) (base:=base) d32 T J37;have J47:=Cd (P:=l.prog) (w:=w) (base:=base) d33 T J37 J48 J44 J43 J45 J41 J39;have J49:=Ce (P:=l.prog) (w:=w) (base:=base) d34 T J44 J43;have J50:=wK (P:=l.prog) (w:=w) (base:=base) d35 T J40 J43 J46;have J51:=ze (P:=l.prog) (w:=w) (base:=base) d36 T J37 J32 J46 J41 J50 J33 J49;exact M7 (P:=l.prog) (w:=w) (base:=base) FL T J35 J51 J47 J36
theorem walk{l:PySem.W.OpenLaw}{q:WL}{loose:WE}{XP:(Wz)->Heap->Prop}{YP:World->Heap->Prop}{d:DefRec}{K:Params->WD}(hn:l.most=some 63)(hdf:d.params.defaults=[])
 (hY:∀(w:World) (h:Heap),YP w h->(K w.params).In h)
 (F:∀(w:World) (mg:Wz) (fa:Addr) (h:Heap),(K w.params).In h->h.Ns mainGlobals mg->mg d.name=some (.ref fa) ->
   ∃fd:FuncData,(∀(s:WO) (u:Value),BindsTo s fd ⟨[u],[]⟩ [("_law_script",u)])/\∀base:Heap,(K w.params).In base->base.Ns mainGlobals mg->ka l.prog w (K w.params) mg base (vT l.prog w) 9 fa fd ["_law_script"] (H0 ⟨l.prog,w,mg,K w.params⟩ Dv)) :
  PySem.W.WalkO q loose XP YP l.row.toRowW d [] (λf vs=>PySem.call f vs):=
 L2.IJ (n:=63) (k:=9) (x := "_law_script") (CX:=λw=>vT l.prog w) (sp:=λw=>K0 (K w.params)) hn (by decide) hdf ⟨rfl,by decide,by decide,rfl⟩ hY
  (λw mg fa h KX G hm=>let ⟨fd,b,o⟩:=F w mg fa h KX G hm;⟨fd,b,λbase k g=>(o base k g).imp λvs H Q E z=>GI HZ z⟩)
  (λw H a ns hl _ hS=>⟨a,ns,rfl,hS,hl,λ_=>rfl⟩) λw H s e s' ⟨_,_,_,_,_,_,_,_,_,_,_,_,_,z⟩=>z
end K25
open PySem PySem.W PyProof.Rows
structure PySem.W.Fast:Prop where
 (tw17309591820568056441 tw17549578411764079763 tw17100421122837525486 tw14670242567634436108 tw8157145891504556972 tw5511491059604416119 tw14530766938271998832 tw543921151415727124 tw12064773900642955844 tw14313964730307374340 tw9833843904672073875 tw5694706872045477189 tw17052963819469777420 tw15391402436314850870 tw4246449517056775311 tw17534055846226287902 tw15944946956935729134 tw6458900311229461158 tw16654043182389797840 tw3850368596652124484 tw10792496418522447371 tw11014874122307034979 tw1461379565805719274 tw13874716364407555573 tw9457128843094102350 tw2277684635620364362 tw9376836623610245535 tw3858347729476570403 tw11469826667567164686 tw14526134610233736975 tw3376530711385758622 tw10321606698247685055 tw11704121628342975039 tw11690977160359930579 tw16882111229286720918 tw13018679249155664749 tw4439042225844619532 tw4818653790975894999 tw7011735858609841020 tw15134741739330947070 tw16700900189048060620 tw5679652810794013807 tw4005128796774225648 tw9357832728116466263 tw17550892892371477479 tw16713097540403710629 tw17441382441252606081 tw15711049201961477384 tw110235669626473713 tw17122831009243693748 tw768483022739129566 tw6227493733728068574 tw6954895215956433055 tw17952219867985273872 tw4862688400501639390 tw15896398122137883191 tw17626549291841215830 tw16753457876613792604 tw267934345990600426 tw14680027948672316394 tw4692223530869054502 tw15899150737930984530 tw302168598294050023 tw1477119627398798525 tw1333477413944800784 tw15545101097009742339 tw16520704402923958416 tw6688584945791097463 tw8873995967311357831 tw16037612558037679452 tw5103278729180598626 tw2905109103702193278 tw9128230119736030223 tw8576491227906379396 tw1867404286056628493 tw13475816337926802611 tw15927911236515812362 tw18149251560901490217 tw3622420854794317609 tw3431534230964666645 tw1496383933965364476 tw4909638484620630904 tw16504639289582497561 tw4477709836367434233 tw1165303605885407662 tw2337913352693779215 tw14335661425713960957 tw17746424643723521709 tw9292537276889447690 tw3216653497765587712 tw15222733913868575223 tw10193622511184669536 tw10892629192266017860 tw18412726334541003412 tw18035511191970735634 tw888150621259642442 tw1879015894683750569 tw9069175604770357 tw6316598235837173229 tw11699902122031986024 tw11819277601285175142 tw10542496586722624559 tw11266681231239182527 tw691883721743464187 tw10798332800644825283 tw11845192898285108557 tw7333683017528753744 tw9400537330708606623 tw439937732729334309 tw2546859840270562640 tw14107884484271555175 tw1277600651167814055 tw10368938137541601040 tw16137005792556898613 tw18437556732970777502 tw10536473595396909778 tw13883211824709817384 tw4390845994700609762 tw9181610459668630115 tw2731034805477882958 tw14687598353577155495 tw1001659583079910138 tw16838294107607266240 tw5966886577047088524 tw2336471242791864284 tw18234194712348248760 tw11950741142936304356 tw13928462838057071530 tw14033666932352615670 tw1928817796513017263 tw16766216498579623393 tw16084728502280026163 tw7903185840005911688 tw16831680380977061882 tw419940151549120162 tw17192122961035845094 tw9524757127378206401 tw13103872107941500761 tw6321330888596797117 tw3718774051473378220 tw5922068637982502999 tw13726166381745487740 tw11526386991933787806 tw16068197367939291882 tw2696403015698355039 tw17795389625735281759 tw985685989388890853 tw403251404439545296 tw13699584100785882249 tw668630033990039627 tw4792441818465314323 tw3156714674172634719 tw792663214738498666 tw2779310594165478485 tw14869227362591510243 tw10234003443293813505 tw3986738224764003576 tw8410979271294738253 tw18039903547971513258 tw12660089677774953446 tw12207435425183019568 tw11542227334141366301 tw1724853555893988745 tw1408160011230770044 tw3816744564842878467 tw868023182047584847 tw2496667506681871744 tw2335328151114132972 tw3100235943005661676 tw14763898330088098326 tw12185625324768195548 tw1032011427947358983 tw14746101010831752085 tw79680322092264312 tw15270858975758712661 tw11310298551962559522 tw11108222773648760821 tw319390820208439338 tw14885091274906548683 tw6936381831322407144 tw8908978241039622754 tw11933383111473642924 tw1089619158926896725 tw1394244807360055875 tw2169734376537942526 tw14851114297998576727 tw11839390498424208932 tw9268160074680404918 tw6017657005103439739 tw2906396765893436792 tw2566212915616057662 tw13445475012572114513 tw14189850984228469917 tw12026675257813542483 tw15454936321433568588 tw3727846859884666086 tw3166044046863797907 tw6875278459707357897 tw1654303560701602080 tw1567710415349013507 tw8740678657180400325 tw8100428003705148191 tw18168930663333269821 tw18116131249432102975 tw14713138781699400142 tw4649488689140777821 tw6989497254054788704 tw17951651538927636766 tw14118088951811971091 tw1145888538907249695 tw10389547911746738041 tw14047400241643512283 tw6703681776945227040 tw17584829768462117352 tw16418467698044354207 tw14646809947366581302 tw6187749130281332209 tw347308065412288885 tw2304748658920280005 tw16389991163198610774 tw1081676311768779351 tw9870416973033766949 tw9016716866474431382 tw8694342437599085278 tw8432919090644776725 tw8391343923703226643 tw8320089625131534747 tw8290643082624011956 tw8193316668215600087 tw8100345220381652986 tw7943010593124149114 tw7850781004926877762 tw7527785382174582599 tw7465545632540348931 tw7085657768443652955 tw7038716549158802926 tw6776060438679228841 tw641085810065395206 tw6387964233136795121 tw6341528591247516916 tw5670786006894867334 tw562799867755793436 tw5481784462169345252 tw534873692251092819 tw5267050572894956759 tw5191910213222938950 tw4961456365543202014 tw4694091711208960760 tw4449276214413632286 tw4413873967688750549 tw371665864649795504 tw3689498116842827168 tw3625709777905699335 tw335421721295778189 tw3252616171809978776 tw2984242664110094081 tw2702326339206669270 tw2590924067708609676 tw2299616207190518331 tw18416486446701659638 tw18280757305669367771 tw17848675296438730621 tw17829683306880228033 tw17820203395419459791 tw17686777183471288277 tw17502195005153565879 tw17476489359587985419 tw16822811733339804138 tw16758699467194486287 tw16351148035047459791 tw16047537179125623912 tw15857091906739406352 tw15852781563593659032 tw15849434277934121616 tw154420008477261080 tw15437776590606619649 tw15169069220752698937 tw15098892380739849760 tw14655307558916542502 tw14346362901243769086 tw141432103568406416 tw14086411702117211675 tw13193776709866715093 tw13058331889649852542 tw1283812741116777971 tw12504282478416153680 tw12157393776208800048 tw12038189437800948990 tw11303038139535867553 tw11093234287373191014 tw10775809413146828825 tw10660831185990360842 tw10012077112311375748:True)
set_option maxRecDepth 100000 in
set_option maxHeartbeats 0 in
theorem PySem.Challenge.cw_everalike_k25_changes_and_webs_made_alik_holds : PySem.Challenge.rw_everalike_k25_changes_and_webs_made_alik.Holds := by
 w_on;o_law;k_head;(case hw=>w_witness2)
 k_fill
 refine K25.walk (l:=PySem.Challenge.rw_everalike_k25_changes_and_webs_made_alik) rfl rfl (λw h Y=>PySem.W.kIn_of Y) ?F
 case F=>
  intro w mg fa h KX G hmg
  refine' K25.all_mk KX G hmg ?T ?d0 ?d1 ?d2 ?d3 ?d4 ?d5 ?d6 ?d7 ?d8 ?d9 ?d10 ?d11 ?d12 ?d13 ?d14 ?d15 ?d16 ?d17 ?d18 ?d19 ?d20 ?d21 ?d22 ?d23 ?d24 ?d25 ?d26 ?d27 ?d28 ?d29 ?d30 ?d31 ?d32 ?d33 ?d34 ?d35 ?d36 ?a ?l ?c ?k
  case T=>
   refine' K25.NF KX G ?zz0 ?zz1 ?zz2 ?zz3 ?zz4 ?zz5 ?zz6 ?zz7 ?zz8 ?zz9 ?zz10 ?zz11 ?zz12 ?zz13 ?aa0 ?aa1 ?fn0 ?fk0 ?tn0 ?tk0
   (case zz0=>k_is)
   (case zz1=>k_is)
   (case zz2=>k_is)
   (case zz3=>k_is)
   (case zz4=>k_is)
   (case zz5=>k_is)
   (case zz6=>k_is)
   (case zz7=>k_is)
   (case zz8=>k_is)
   (case zz9=>k_is)
   (case zz10=>k_is)
   (case zz11=>k_is)
   (case zz12=>k_is)
   (case zz13=>k_is)
   (case aa0=>k_is)
   (case aa1=>k_is)
   (case fn0=>k_is)
   (case fk0=>kernel_rfl)
   (case tn0=>k_is)
   (case tk0=>kernel_rfl)
  case d0=>
   refine' Ml.cw KX G ?a0 ?l0 ?c0 ?k0 (λ_ _ _ _ _ _=>Ml.all1 λ_=>rfl)
   (case a0=>k_is);(case l0=>k_is);(case c0=>k_is);(case k0=>k_is)
  case d1=>
   refine' Ml.cw KX G ?a1 ?l1 ?c1 ?k1 (λ_ _ _ _ _ _=>Ml.all1 λ_=>rfl)
   (case a1=>k_is);(case l1=>k_is);(case c1=>k_is);(case k1=>k_is)
  case d2=>
   refine' Ml.cw KX G ?a2 ?l2 ?c2 ?k2 (λ_ _ _ _ _ _=>Ml.all1 λ_=>rfl)
   (case a2=>k_is);(case l2=>k_is);(case c2=>k_is);(case k2=>k_is)
  case d3=>
   refine' Ml.cw KX G ?a3 ?l3 ?c3 ?k3 (λ_ _ _ _ _ _=>Ml.all2 λ_ _=>rfl)
   (case a3=>k_is);(case l3=>k_is);(case c3=>k_is);(case k3=>k_is)
  case d4=>
   refine' Ml.cw KX G ?a4 ?l4 ?c4 ?k4 (λ_ _ _ _ _ _=>Ml.all2 λ_ _=>rfl)
   (case a4=>k_is);(case l4=>k_is);(case c4=>k_is);(case k4=>k_is)
  case d5=>
   refine' Ml.cw KX G ?a5 ?l5 ?c5 ?k5 (λ_ _ _ _ _ _=>Ml.all1 λ_=>rfl)
   (case a5=>k_is);(case l5=>k_is);(case c5=>k_is);(case k5=>k_is)
  case d6=>
   refine' Ml.cw KX G ?a6 ?l6 ?c6 ?k6 (λ_ _ _ _ _ _=>Ml.all1 λ_=>rfl)
   (case a6=>k_is);(case l6=>k_is);(case c6=>k_is);(case k6=>k_is)
  case d7=>
   refine' Ml.cw KX G ?a7 ?l7 ?c7 ?k7 (λ_ _ _ _ _ _=>Ml.all2 λ_ _=>rfl)
   (case a7=>k_is);(case l7=>k_is);(case c7=>k_is);(case k7=>k_is)
  case d8=>
   refine' Ml.cw KX G ?a8 ?l8 ?c8 ?k8 (λ_ _ _ _ _ _=>Ml.all1 λ_=>rfl)
   (case a8=>k_is);(case l8=>k_is);(case c8=>k_is);(case k8=>k_is)
  case d9=>
   refine' Ml.cw KX G ?a9 ?l9 ?c9 ?k9 (λ_ _ _ _ _ _=>Ml.wM λ_ _ _=>rfl)
   (case a9=>k_is);(case l9=>k_is);(case c9=>k_is);(case k9=>k_is)
  case d10=>
   refine' Ml.cw KX G ?a10 ?l10 ?c10 ?k10 (λ_ _ _ _ _ _=>Ml.wM λ_ _ _=>rfl)
   (case a10=>k_is);(case l10=>k_is);(case c10=>k_is);(case k10=>k_is)
  case d11=>
   refine' Ml.cw KX G ?a11 ?l11 ?c11 ?k11 (λ_ _ _ _ _ _=>Ml.wM λ_ _ _=>rfl)
   (case a11=>k_is);(case l11=>k_is);(case c11=>k_is);(case k11=>k_is)
  case d12=>
   refine' Ml.cw KX G ?a12 ?l12 ?c12 ?k12 (λ_ _ _ _ _ _=>Ml.wM λ_ _ _=>rfl)
   (case a12=>k_is);(case l12=>k_is);(case c12=>k_is);(case k12=>k_is)
  case d13=>
   refine' Ml.cw KX G ?a13 ?l13 ?c13 ?k13 (λ_ _ _ _ _ _=>Ml.wM λ_ _ _=>rfl)
   (case a13=>k_is);(case l13=>k_is);(case c13=>k_is);(case k13=>k_is)
  case d14=>
   refine' Ml.cw KX G ?a14 ?l14 ?c14 ?k14 (λ_ _ _ _ _ _=>Ml.all2 λ_ _=>rfl)
   (case a14=>k_is);(case l14=>k_is);(case c14=>k_is);(case k14=>k_is)
  case d15=>
   refine' Ml.cw KX G ?a15 ?l15 ?c15 ?k15 (λ_ _ _ _ _ _=>Ml.all2 λ_ _=>rfl)
   (case a15=>k_is);(case l15=>k_is);(case c15=>k_is);(case k15=>k_is)
  case d16=>
   refine' Ml.cw KX G ?a16 ?l16 ?c16 ?k16 (λ_ _ _ _ _ _=>Ml.all2 λ_ _=>rfl)
   (case a16=>k_is);(case l16=>k_is);(case c16=>k_is);(case k16=>k_is)
  case d17=>
   refine' Ml.cw KX G ?a17 ?l17 ?c17 ?k17 (λ_ _ _ _ _ _=>Ml.all2 λ_ _=>rfl)
   (case a17=>k_is);(case l17=>k_is);(case c17=>k_is);(case k17=>k_is)
  case d18=>
   refine' Ml.cw KX G ?a18 ?l18 ?c18 ?k18 (λ_ _ _ _ _ _=>Ml.all2 λ_ _=>rfl)
   (case a18=>k_is);(case l18=>k_is);(case c18=>k_is);(case k18=>k_is)
  case d19=>
   refine' Ml.cw KX G ?a19 ?l19 ?c19 ?k19 (λ_ _ _ _ _ _=>Ml.wM λ_ _ _=>rfl)
   (case a19=>k_is);(case l19=>k_is);(case c19=>k_is);(case k19=>k_is)
  case d20=>
   refine' Ml.cw KX G ?a20 ?l20 ?c20 ?k20 (λ_ _ _ _ _ _=>Ml.all2 λ_ _=>rfl)
   (case a20=>k_is);(case l20=>k_is);(case c20=>k_is);(case k20=>k_is)
  case d21=>
   refine' Ml.cw KX G ?a21 ?l21 ?c21 ?k21 (λ_ _ _ _ _ _=>Ml.all1 λ_=>rfl)
   (case a21=>k_is);(case l21=>k_is);(case c21=>k_is);(case k21=>k_is)
  case d22=>
   refine' Ml.cw KX G ?a22 ?l22 ?c22 ?k22 (λ_ _ _ _ _ _=>Ml.all2 λ_ _=>rfl)
   (case a22=>k_is);(case l22=>k_is);(case c22=>k_is);(case k22=>k_is)
  case d23=>
   refine' Ml.cw KX G ?a23 ?l23 ?c23 ?k23 (λ_ _ _ _ _ _=>Ml.all2 λ_ _=>rfl)
   (case a23=>k_is);(case l23=>k_is);(case c23=>k_is);(case k23=>k_is)
  case d24=>
   refine' Ml.cw KX G ?a24 ?l24 ?c24 ?k24 (λ_ _ _ _ _ _=>Ml.all2 λ_ _=>rfl)
   (case a24=>k_is);(case l24=>k_is);(case c24=>k_is);(case k24=>k_is)
  case d25=>
   refine' Ml.cw KX G ?a25 ?l25 ?c25 ?k25 (λ_ _ _ _ _ _=>Ml.all1 λ_=>rfl)
   (case a25=>k_is);(case l25=>k_is);(case c25=>k_is);(case k25=>k_is)
  case d26=>
   refine' Ml.cw KX G ?a26 ?l26 ?c26 ?k26 (λ_ _ _ _ _ _=>Ml.Ru rfl)
   (case a26=>k_is);(case l26=>k_is);(case c26=>k_is);(case k26=>k_is)
  case d27=>
   refine' Ml.cw KX G ?a27 ?l27 ?c27 ?k27 (λ_ _ _ _ _ _=>Ml.Rv λ_ _ _ _=>rfl)
   (case a27=>k_is);(case l27=>k_is);(case c27=>k_is);(case k27=>k_is)
  case d28=>
   refine' Ml.cw KX G ?a28 ?l28 ?c28 ?k28 (λ_ _ _ _ _ _=>Ml.all2 λ_ _=>rfl)
   (case a28=>k_is);(case l28=>k_is);(case c28=>k_is);(case k28=>k_is)
  case d29=>
   refine' Ml.cw KX G ?a29 ?l29 ?c29 ?k29 (λ_ _ _ _ _ _=>Ml.all2 λ_ _=>rfl)
   (case a29=>k_is);(case l29=>k_is);(case c29=>k_is);(case k29=>k_is)
  case d30=>
   refine' Ml.cw KX G ?a30 ?l30 ?c30 ?k30 (λ_ _ _ _ _ _=>Ml.all2 λ_ _=>rfl)
   (case a30=>k_is);(case l30=>k_is);(case c30=>k_is);(case k30=>k_is)
  case d31=>
   refine' Ml.cw KX G ?a31 ?l31 ?c31 ?k31 (λ_ _ _ _ _ _=>Ml.wM λ_ _ _=>rfl)
   (case a31=>k_is);(case l31=>k_is);(case c31=>k_is);(case k31=>k_is)
  case d32=>
   refine' Ml.cw KX G ?a32 ?l32 ?c32 ?k32 (λ_ _ _ _ _ _=>Ml.all2 λ_ _=>rfl)
   (case a32=>k_is);(case l32=>k_is);(case c32=>k_is);(case k32=>k_is)
  case d33=>
   refine' Ml.cw KX G ?a33 ?l33 ?c33 ?k33 (λ_ _ _ _ _ _=>Ml.all2 λ_ _=>rfl)
   (case a33=>k_is);(case l33=>k_is);(case c33=>k_is);(case k33=>k_is)
  case d34=>
   refine' Ml.cw KX G ?a34 ?l34 ?c34 ?k34 (λ_ _ _ _ _ _=>Ml.wM λ_ _ _=>rfl)
   (case a34=>k_is);(case l34=>k_is);(case c34=>k_is);(case k34=>k_is)
  case d35=>
   refine' Ml.cw KX G ?a35 ?l35 ?c35 ?k35 (λ_ _ _ _ _ _=>Ml.wM λ_ _ _=>rfl)
   (case a35=>k_is);(case l35=>k_is);(case c35=>k_is);(case k35=>k_is)
  case d36=>
   refine' Ml.cw KX G ?a36 ?l36 ?c36 ?k36 (λ_ _ _ _ _ _=>Ml.wM λ_ _ _=>rfl)
   (case a36=>k_is);(case l36=>k_is);(case c36=>k_is);(case k36=>k_is)
  (case a=>k_is);(case l=>k_is);(case c=>k_is);(case k=>k_is)
