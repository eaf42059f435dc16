import PyProof.Rows.All
import Wide.All
import OpenK.AllK
import Wide.FinOn
import Lean
import PyProof.EqAt
import PyProof.EqKinds
import PyProof.TupleCall
import KE.KSortTup
import PyProof.Rows.SortShellK
import PyProof.Rows.SortWalk
import KE.KDictList
import KE.KStar
import PyProof.ListMulRoad
import PyProof.FactsAll.tuple
import PyProof.DictCompW
import KE.KTab
import PySem.SetOps
import PyProof.SetScanFacts
import PyProof.SetNew
import PyProof.SetRoads
import PyProof.Rows.SetFrom
import PyProof.WalksMore
import PyProof.CollectWalk
import KE.KSortKey
import PySem.Challenge.RW_everalike_k34_lots_enforced
set_option linter.all false
namespace PySem
abbrev UY:=@PySem.wpAny_bind
abbrev UZ:=@PySem.wpAny_pure
abbrev U0:=@PySem.Heap.get?_push_of_some
abbrev U1:=@Bool.and_eq_true
abbrev U2:=@List.mem_cons_of_mem
abbrev U3:=@List.mem_append_right
abbrev U4:=@Nat.le_refl
abbrev U5:=@PySem.Heap.get?_push_size
abbrev U6:=@PySem.Heap.lt_size
abbrev U7:=@List.mem_filter
abbrev U8:=@Nat.le_trans
abbrev U9:=@List.getElem?_eq_some_iff
abbrev Va:=@List.getElem?_eq_getElem
abbrev Vb:=@List.mem_cons
abbrev Vc:=@Bool.false_eq_true
abbrev Vd:=@List.mem_append
abbrev Ve:=@List.length_map
abbrev Vf:=@Nat.lt_of_lt_of_le
abbrev Vg:=@List.all_eq_true
abbrev Vh:=@List.length_append
abbrev Vi:=@Nat.ne_of_lt
abbrev Vj:=@List.mem_cons_self
abbrev Vk:=@Array.getElem?_eq_getElem
abbrev Vl:=@List.mem_map
abbrev Vm:=@List.mem_singleton
abbrev Vn:=@List.length_filter_le
abbrev Vo:=@PySem.Paired.length
abbrev Vp:=@List.length_cons
abbrev Vq:=@List.size_toArray
abbrev Vr:=@List.mem_append_left
abbrev Vs:=@List.mem_of_getElem?
abbrev Vt:=@PySem.wpAny_call_entry
abbrev Vu:=@List.map_cons
abbrev Vv:=@Bool.false_ne_true
abbrev Vw:=@Array.getElem?_toList
abbrev Vx:=@PySem.W.mg_none_of
abbrev Vy:=@decide_eq_true_eq
abbrev Vz:=@List.getElem?_append_left
abbrev VA:=@PySem.wpAny_callSpecial?_slot
abbrev VB:=@PySem.wpAny_holding
abbrev VC:=@Option.map_eq_some_iff
abbrev VD:=@PySem.wpAny_newObj_type
abbrev VE:=@Nat.lt_irrefl
abbrev VF:=@List.getElem?_append_right
abbrev VG:=@List.pairwise_cons
abbrev VH:=@List.not_mem_nil
abbrev VI:=@List.mem_range
abbrev VJ:=@Classical.byContradiction
abbrev VL:=@List.any_eq_true
abbrev VM:=@PySem.wpAny_ite_split
abbrev VN:=@List.findSome?_cons
abbrev VO:=@Bool.eq_iff_iff
abbrev VP:=@List.nodup_cons
abbrev VQ:=@if_false
abbrev VR:=@if_true
abbrev VS:=@List.getElem?_map
abbrev VT:=@PyProof.Rows.slot_tuple_getitem
abbrev VU:=@PyProof.Rows.ReadsAll.keeps
abbrev VW:=@Array.getD_eq_getD_getElem?
abbrev VX:=@List.set_cons_succ
abbrev VY:=@List.set_cons_zero
abbrev VZ:=@Array.getElem?_eq_some_iff
abbrev V0:=@Array.length_toList
abbrev V1:=@PySem.Heap.size_push
abbrev V2:=@List.getElem?_of_mem
abbrev V3:=@PySem.wpAny_Call_Name_kw
abbrev V4:=@decide_eq_false
abbrev V5:=@List.findSome?_append
abbrev V6:=@PySem.wpAny_seqItems
abbrev V7:=@PySem.wpAny_mono
abbrev V8:=@PySem.wpAny_truthy_bool
abbrev V9:=@PySem.wpAny_standAt
abbrev Wa:=@PySem.W.kia_one
abbrev Wc:=@Bool.or_eq_true
abbrev Wd:=@List.drop_eq_getElem_cons
abbrev We:=@PyProof.Rows.F.plain_set_update_loop
abbrev Wg:=@PySem.mem_of_lookup
abbrev Wh:=@List.filter_sublist
abbrev Wi:=@PySem.Heap.get?_update_self
abbrev Wj:=@PySem.wpAny_comprehension_free
abbrev Wk:=@PySem.F.slot_dict_keyiterator_next
abbrev Wl:=@decide_eq_true
abbrev Wm:=@Option.some.inj
abbrev Wn:=@PySem.wpAny_field
abbrev Wo:=@List.forIn_cons
abbrev Wq:=@List.length_nil
abbrev Wr:=@Nat.zero_le
abbrev Ws:=@List.mem_iff_getElem
abbrev Wt:=@Nat.pow_le_pow_right
abbrev Wv:=@Nat.lt_or_ge
abbrev Ww:=@List.drop_of_length_le
abbrev Wx:=@Int.toNat_natCast
abbrev Wy:=@Nat.lt_succ_of_lt
abbrev Wz:=@of_decide_eq_true
abbrev WA:=@List.nodup_append
abbrev WB:=@List.flatMap_cons
abbrev WC:=@Bool.not_true
abbrev WE:=@PySem.wpAny_specialOf
abbrev WG:=@PySem.wpAny_rule
abbrev WH:=@Array.forIn_toList
abbrev WI:=@PySem.sizeLine_eq
abbrev WJ:=@List.lookup_cons
abbrev WK:=@Nat.lt_succ_self
abbrev WL:=@PySem.wpAny_typeNameOfWhole_keyiter
abbrev WM:=@List.pairwise_append
abbrev WN:=@List.length_eq_zero_iff
abbrev WO:=@PySem.W.mg_of
abbrev WQ:=@Bool.not_eq_true'
abbrev WR:=@PyProof.Rows.callWith_type1
abbrev WS:=@List.append_nil
abbrev WT:=@List.nil_append
abbrev WU:=@PySem.Heap.SameBut.update
abbrev WV:=@List.getElem?_set_self
abbrev WW:=@PySem.F.slot_tuple_iterator_next
abbrev WX:=@List.perm_ext_iff_of_nodup
abbrev WY:=@PySem.wpAny_isInstance
abbrev WZ:=@Option.getD_some
abbrev W0:=@PyProof.Rows.assignInOrder_cons
abbrev W3:=@PySem.wpAny_setField_rec
abbrev W4:=@List.take_append_drop
abbrev W5:=@Nat.le_succ
abbrev W6:=@PySem.wpAny_of_eq
abbrev W7:=@List.pairwise_iff_getElem
abbrev W8:=@List.getLastD_eq_getLast?
abbrev W9:=@Array.mem_toList_iff
abbrev Xa:=@PySem.Around.under_plainId
abbrev Xb:=@PySem.wpAny_passesOwn
abbrev Xd:=@PySem.wpAny_pyIter_list
abbrev Xe:=@Option.some.injEq
abbrev Xf:=@PySem.Heap.get?_push_ne
abbrev Xg:=@PySem.sizeLine_eq
abbrev Xh:=@PySem.wpAny_typeNameOf_keyiter
abbrev Xi:=@List.filterMap_cons_some
abbrev Xj:=@List.range_succ
abbrev Xk:=@PySem.wpAny_setEpoch_of
abbrev Xl:=@List.Pairwise.imp_of_mem
abbrev Xm:=@List.getLast?_eq_getLast
abbrev Xn:=@PyProof.Rows.callWith_builtin1
abbrev Xo:=@List.getElem?_replicate
abbrev Xp:=@PySem.wpAny_attempt
abbrev Xq:=@or_false
abbrev Xr:=@List.getElem_of_mem
abbrev Xs:=@List.getElem?_cons_succ
abbrev Xt:=@List.getElem?_cons_zero
abbrev Xu:=@List.filter_cons
abbrev Xv:=@List.forIn_nil
abbrev Xw:=@PySem.Heap.get?_update_other
abbrev Xx:=@List.take_of_length_le
abbrev Xy:=@List.mem_filterMap
abbrev Xz:=@congrArg
abbrev XA:=@PySem.Obj.data_mapFields
abbrev XB:=@List.zip_cons_cons
abbrev XC:=@Nat.ne_of_gt
abbrev XD:=@List.length_replicate
abbrev XF:=@PySem.codeAny_builtin
abbrev XG:=@PySem.F.called_set
abbrev XH:=@List.take_sublist
abbrev XI:=@PySem.F.slot_tuple_hash
abbrev XJ:=@PySem.wpAny_pyIter_slot
abbrev XM:=@PySem.Heap.SameBut.refl
abbrev XN:=@List.getElem?_set_ne
abbrev XO:=@List.mem_of_mem_take
abbrev XQ:=@Bool.false_and
abbrev XR:=@PyProof.Rows.F.entry_set_update_loop
abbrev XS:=@Nat.mul_le_mul
abbrev XT:=@List.length_take
abbrev XU:=@PySem.wpAny_askSetting
abbrev XW:=@beq_eq_false_iff_ne
abbrev XX:=@PySem.F.slot_dict_eq_refl
abbrev XY:=@PySem.codeAny_mono
abbrev XZ:=@List.getElem?_take_of_lt
abbrev X0:=@PySem.F.args_tuple_add_2
abbrev X1:=@PySem.wpAny_typeOf
abbrev X2:=@List.map_map
abbrev X3:=@PySem.SetTable.toList_insertAt
abbrev X4:=@Ne.symm
abbrev X5:=@PySem.wpAny_pyIter_tuple
abbrev X6:=@PySem.Calls.spliced_cons
abbrev X7:=@PySem.F.entry_tuple_add
abbrev X8:=@PySem.tupleKind_room_in1
abbrev X9:=@decide_eq_true_iff
abbrev Ya:=@List.pairwise_iff_forall_sublist
abbrev Yb:=@PySem.W.cellsFrom_some
abbrev Yc:=@PySem.F.slot_tuple_add
abbrev Yd:=@Array.getElem?_eq_none
abbrev Ye:=@PySem.wpAny_assign_Name
abbrev Yf:=@PySem.wpAny_load
abbrev Yg:=@List.any_eq_false
abbrev Yh:=@PySem.Calls.spliced_nil
abbrev Yi:=@PySem.call_meets
abbrev Yj:=@List.append_assoc
abbrev Yk:=@List.length_range
abbrev Yl:=@List.pairwise_map
abbrev Ym:=@PySem.wpAny_dictEntries
abbrev Yn:=@Nat.mod_lt
abbrev Yo:=@List.eraseIdx_eq_take_drop_succ
abbrev Yp:=@Function.comp_def
abbrev Yq:=@List.Sublist.refl
abbrev Yr:=@PySem.wpAny_bindName
abbrev Ys:=@PySem.wpAny_setField
abbrev Yt:=@Nat.le_of_lt
abbrev Yu:=@PySem.exec_Assign_Name_used
abbrev Yv:=@PySem.Obj.isFreed_of_fields
abbrev Yw:=@PySem.F.slot_tuple_lt
abbrev Yx:=@Nat.le_add_right
abbrev Yy:=@PySem.Heap.size_update
abbrev Yz:=@PySem.SeqAt.eqAt_reads
abbrev YA:=@List.cons_append
abbrev YB:=@List.mem_flatMap
abbrev YC:=@List.getLast_mem
abbrev YD:=@PySem.wpAny_loadName_local
abbrev YE:=@PySem.wpAny_updateSeq_pair
abbrev YF:=@List.any_cons
abbrev YG:=@PySem.plainId_quiet
abbrev YH:=@PySem.wpAny_loadName_cell
abbrev YI:=@PySem.wpAny_execs_nil
abbrev YJ:=@List.of_mem_zip
abbrev YK:=@PySem.F.slot_zip_next
abbrev YL:=@PySem.F.slot_tuple_eq
abbrev YM:=@PySem.Heap.dictOf_iff
abbrev YN:=@PySem.wpAny_setEntries_of
abbrev YO:=@PySem.Reads.unique
abbrev YQ:=@List.Nodup.sublist
abbrev YR:=@List.findSome?_map
abbrev YS:=@PySem.repr_of_reads'
abbrev YT:=@Bool.not_false
abbrev YU:=@PySem.wpAny_Name
abbrev YV:=@Option.isSome_map
abbrev YW:=@beq_iff_eq
abbrev YX:=@List.filter_congr
abbrev YY:=@List.set_comm
abbrev YZ:=@List.map_id
abbrev Y0:=@List.getElem_mem
abbrev Y1:=@Option.bind_some
abbrev Y2:=@List.map_flatMap
abbrev Y3:=@getElem?_pos
abbrev Y4:=Value → Shared → Prop
abbrev Y5:=List (Addr × Obj)
abbrev Y6:=List (PyData × PyData)
abbrev Y7:=Array (Int × Value)
abbrev Y8:=Str → Option Value
abbrev Y9:=List PyData
abbrev Za:=List Addr
abbrev Zb:=List Value
abbrev Zc:=PySem.W.Frag
abbrev Zd:=List Str
abbrev Ze:=List Expr
abbrev Zf:=Array (Option Value)
abbrev Zg:=Array DictEntry
abbrev Zh:=Array Value
abbrev Zi:=Array Nat
abbrev Zj:=Program
abbrev Zl:=SetTable
abbrev Zm:=Around
abbrev Zn:=Shared
end PySem
set_option bootstrap.genMatcherCode false
set_option genSizeOfSpec false
local macro_rules|`(tactic|omega)=>`(tactic|first|assumption|exact Nat.le_of_lt ‹_›|exact Nat.lt_of_lt_of_le ‹_› ‹_›|exact Nat.lt_of_le_of_lt ‹_› ‹_›|exact Nat.le_trans ‹_› ‹_›|exact Nat.le_refl _|exact Nat.lt_succ_of_le ‹_›|omega +splitNatSub)
local macro_rules
 |`(def $d:declId $s:optDeclSig $v:declVal)=>`(noncomputable def $d:declId $s:optDeclSig $v:declVal)
 |`(abbrev $d:declId $s:optDeclSig $v:declVal)=>`(noncomputable abbrev $d:declId $s:optDeclSig $v:declVal)
set_option hygiene false in
local macro_rules
 |`(#[1])=>`((by omega))
local macro_rules
 |`(($a,$b,*))=>`(⟨$a,$b,*⟩)
noncomputable section
set_option compiler.extract_closed false
set_option Elab.async false
set_option linter.all false
set_option maxRecDepth 100000
namespace L2
open PySem PySem.Spec PyProof.Rows
abbrev Key:=Sum Int Str
def uY:Key->Value->Bool
 |.inl k,v=>Value.isInt k v
 |.inr x,v=>Value.isStrOf x v
def SN(w:World):Key->Int
 |.inl k=>hashInt k
 |.inr x=>hashStr w x
theorem cy:∀{k:Key} {v:Value},uY k v=true->(∃i t,k=Sum.inl i/\v=Value.int i t)\/(∃x t,k=Sum.inr x/\v=Value.str x t)
 |.inl i,v,h=>by
  obtain⟨t,e⟩:=Value.isInt_shape h
  simp_all
 |.inr x,v,h=>by obtain⟨t,e⟩:=Value.isStrOf_shape h;exact .inr (x,t,rfl,e)
theorem Gf(i:Int)(t:Tok):uY (.inl i) (.int i t)=true:=by simp[uY,Value.isInt]
theorem Gg(x:Str)(t:Tok):uY (.inr x) (.str x t)=true:=by simp[uY,Value.isStrOf]
theorem NS(a b:Int):decide ((Sum.inl a:Key)=Sum.inl b)=(a==b):=by
 grind
theorem NT(a b:Str):decide ((Sum.inr a:Key)=Sum.inr b)=decide (a=b):=by
 grind
theorem NU(a:Int)(b:Str):decide ((Sum.inl a:Key)=Sum.inr b)=false:=V4 (λq=>nomatch q)
theorem NV(a:Str)(b:Int):decide ((Sum.inr a:Key)=Sum.inl b)=false:=V4 (λq=>nomatch q)
noncomputable def cw(prog:Zj)(w:World):PySem.KeyKind prog w Key where
 is:=uY
 hash:=SN w
 inj:=λv a b ha hb=>by
  rcases cy ha with⟨i,t,rfl,rfl⟩|⟨x,t,rfl,rfl⟩
  ·rcases cy hb with⟨j,u,rfl,e⟩|⟨y,u,rfl,e⟩
   ·injection e with e1 _;rw[e1]
   ·exact nomatch e
  ·rcases cy hb with⟨j,u,rfl,e⟩|⟨y,u,rfl,e⟩
   ·exact nomatch e
   ·injection e with e1 _;rw[e1]
 byValue:=λk v h=>by rcases cy h with⟨i,t,rfl,rfl⟩|⟨x,t,rfl,rfl⟩<;>rfl
 pyHash:=λhv h=>by
  rcases cy hv with⟨i,t,rfl,rfl⟩|⟨x,t,rfl,rfl⟩
  ·exact wpAny_pyHash_int h
  ·exact wpAny_pyHash_str h
 eqBool:=λhu hv h=>by
  rcases cy hu with⟨i,t,rfl,rfl⟩|⟨x,t,rfl,rfl⟩
  ·rcases cy hv with⟨j,u,rfl,rfl⟩|⟨y,u,rfl,rfl⟩
   ·rw[NS]at h;exact wpAny_eqBool_int h
   ·rw[NU]at h;exact SeqAt.EqAt.int_str i t y u _ _ _ _ h
  ·rcases cy hv with⟨j,u,rfl,rfl⟩|⟨y,u,rfl,rfl⟩
   ·rw[NV]at h;exact SeqAt.EqAt.str_int x t j u _ _ _ _ h
   ·rw[NT]at h;exact wpAny_eqBool_str h
 «strs» := λk x t v h=>by
  rcases cy h with⟨i,u,rfl,e⟩|⟨y,u,rfl,e⟩
  ·exact nomatch e
  ·injection e with e1 _;subst e1;cases v<;>rfl
theorem A3(prog:Zj)(w:World)(i:Int)(t:Tok):(cw prog w).is (.inl i) (.int i t)=true:=Gf i t
theorem A4(prog:Zj)(w:World)(x:Str)(t:Tok):(cw prog w).is (.inr x) (.str x t)=true:=Gg x t
inductive V where
 |non|bl (b:Bool)|int (i:Int)|str (x:Str)|byt (b:Array UInt8)|flt (b:UInt64)|ref (a:Addr)|ty (n:String)
 deriving DecidableEq
noncomputable def RelV:V->Value->Prop
 |.non,u=>u=Value.none
 |.bl b,u=>u=Value.bool b
 |.int i,u=>∃t,u=Value.int i t
 |.str x,u=>∃t,u=Value.str x t
 |.byt b,u=>∃t,u=Value.bytes b t
 |.flt b,u=>∃t,u=Value.float b t
 |.ref a,u=>u=Value.ref a
 |.ty n,u=>u=Value.type n
abbrev Vals:List V->Zb->Prop:=Paired RelV
theorem Vals.length(r:Vals xs us):xs.length=us.length:=Vo r
theorem Vals.get:∀{xs:List V} {us:Zb} {i:Nat} {x:V},Vals xs us->xs[i]?=some x->∃u,us[i]?=some u/\RelV x u
 |_,_,_,_,.nil,e=>by simp at e
 |_,_,0,_,.cons r _,e=>by grind
 |_,_,i+1,x,.cons _ t,e=>by
  obtain⟨u,h1,h2⟩:=Vals.get (i:=i) (x:=x) t (by simp_all)
  simp_all
theorem Vals.set(r:RelV x u):∀{xs:List V} {us:Zb} (i:Nat),Vals xs us->Vals (xs.set i x) (us.set i u)
 |_,_,_,.nil=>.nil
 |_,_,0,.cons _ t=>.cons r t
 |_,_,i+1,.cons q t=>.cons q (Vals.set r i t)
theorem Vals.append:∀{xs ys:List V} {us ws:Zb},Vals xs us->Vals ys ws->Vals (xs++ys) (us++ws)
 |_,_,_,_,.nil,s=>s
 |_,_,_,_,.cons r t,s=>.cons r (Vals.append t s)
theorem Vals.take:∀{xs:List V} {us:Zb} (n:Nat),Vals xs us->Vals (xs.take n) (us.take n)
 |_,_,0,_=>.nil
 |_,_,_+1,.nil=>.nil
 |_,_,n+1,.cons r t=>.cons r (Vals.take n t)
theorem Vals.drop:∀{xs:List V} {us:Zb} (n:Nat),Vals xs us->Vals (xs.drop n) (us.drop n)
 |_,_,0,r=>r
 |_,_,_+1,.nil=>.nil
 |_,_,n+1,.cons _ t=>Vals.drop n t
def uZ:Option V->Option Value->Prop
 |some v,some u=>RelV v u
 |none,none=>True
 |_,_=>False
def KV{κ:Type}:List (κ×V)->List (κ×Value)->Prop:=Paired λ(p:κ×V) (q:κ×Value)=>p.1=q.1/\RelV p.2 q.2
def kV:Key->V
 |.inl i=>.int i
 |.inr x=>.str x
inductive HO where
 |lst (xs:List V)
 |tup (xs:List V)
 |dK (kvs:List (Key×V))|dT (kvs:List (List Key×V))
 |set (S:Int->Bool) (n:Nat)
 |ins (C dx:Addr) (fs:List (Str×V))
 |own (x:Addr)
 |xd (fs:List (Str×V))
 |met (f x:Addr)
 |rng (lo hi:Int)
 |frz (o:Obj) (u:HO)
 |tbl (ps:Zh)
 |ext (φ:Heap->Prop)
abbrev Hp:=Addr->Option HO
def upd(H:Hp)(a:Addr)(o:HO):Hp:=λb=>if b=a then some o else H b
theorem bD:upd H a o a=some o:=by grind[upd]
theorem aQ(h:b≠a):upd H a o b=H b:=by simp[upd,h]
theorem QK{H:Hp}(h:H a=some o)(h':H b=some u)(d:o≠u):a≠b:=by
 grind
theorem br{H:Hp}(h:H a=some o)(h':H b=none):a≠b:=by
 grind
section
variable (P:Zj) (w:World)
noncomputable def cX(H:Hp)(h:Heap)(a:Addr):HO->Prop
 |.lst xs=>xs.length<=sizeLine/\∃(a_:Zb) (n:Nat),Vals xs a_/\h.get? a=some {cls:=.type "list",data:=.seq a_.toArray n}
 |.tup xs=>xs.length<=sizeLine/\∃a_:Zb,Vals xs a_/\IsTup h a a_.toArray
 |.dK kvs=>kvs.length<=sizeLine/\(a==sysModules)=false/\∃vs,KV kvs vs/\h.DictOf (cw P w) a vs
 |.dT kvs=>kvs.length<=sizeLine/\(a==sysModules)=false/\∃xs:List (List Key×Addr×Value),
   Paired (λ(p:List Key×V) (q:List Key×Addr×Value)=>p.1=q.1/\H q.2.1=some (.tup (p.1.map kV))/\RelV p.2 q.2.2) kvs xs /\
   ∃o es ep,h.get? a=some o/\o.ExactDict/\o.data=.dict es ep/\es.toList=xs.map (entryOfKey (tupleKind (cw P w)))/\(xs.map (·.1)).Nodup
 |.set S n=>h.SetOf (intKind P w) a S n
 |.ins C dx fs=>H dx=some (.own a)/\fs.length<=1000/\dx≠a/\h.get? a=some (PySem.W.instObj C dx) /\
   ∃mA,h.Ns1 dx mA/\(∀f,uZ (fs.lookup f) (mA f))/\PySem.Within mA (fs.map (·.1))
 |.own _=>∃o,h.get? a=some o
 |.xd fs=>∃mA,h.Ns1 a mA/\∀f,uZ (fs.lookup f) (mA f)
 |.rng lo hi=>∃t u v,h.get? a=some {cls:=.type "range",data:=.fields #[.int lo t,.int hi u,.int 1 v]}
 |.frz o u=>h.get? a=some o/\cX H h a u
 |.tbl ps=>h.get? a=some {cls:=.none,data:=.fields ps}
 |.met f x=>h.get? a=some (PySem.W.methodObj (.ref f) (.ref x))
 |.ext φ=>φ h/\(∃o,h.get? a=some o)/\∀h1 h2:Heap,φ h1->(∀o,h1.get? a=some o->h2.get? a=some o)->φ h2
def ox(H:Hp)(h:Heap):Prop:=∀a o,H a=some o->cX P w H h a o
end
section
variable {P:Zj} {w:World} {H H':Hp} {h h':Heap} {a:Addr} {o:HO}
theorem cX.lt(x:cX P w H h a o):a<h.objs.size:=by
 cases o with
 |lst xs=>obtain⟨_,_,_,_,e⟩:=x;exact U6 e
 |tup xs=>obtain⟨_,_,_,p⟩:=x;exact p.lt
 |dK kvs=>obtain⟨_,_,_,_,o,_,_,e,_⟩:=x;exact U6 e
 |dT kvs=>obtain⟨_,_,_,_,o,_,_,e,_⟩:=x;exact U6 e
 |set S n=>obtain⟨o,_,_,_,e,_⟩:=x;exact U6 e
 |ins C dx fs=>obtain⟨_,_,_,e,_⟩:=x;exact U6 e
 |own y=>obtain⟨_,e⟩:=x;exact U6 e
 |xd fs=>obtain⟨_,⟨_,_,_,e,_⟩,_⟩:=x;exact U6 e
 |rng lo hi=>obtain⟨_,_,_,e⟩:=x;exact U6 e
 |frz ob u=>obtain⟨e,_⟩:=x;exact U6 e
 |tbl ps=>exact U6 x
 |met f y=>exact U6 x
 |ext φ=>obtain⟨_,⟨_,e⟩,_⟩:=x;exact U6 e
theorem Paired.lK:∀{l₁:List α} {l₂:List β},Paired F l₁ l₂->(∀a b,F a b->G a b)->Paired G l₁ l₂
 |_,_,.nil,_=>.nil
 |_,_,.cons r t,f=>.cons (f _ _ r) (Paired.lK t f)
theorem cX.zq(x:cX P w H h a o)(k:∀b u,(b=a\/H b=some (.own a))->h.get? b=some u->h'.get? b=some u)
 (ho:∀b,H b=some (.own a)->H' b=some (.own a))(ht:∀b xs,H b=some (.tup xs)->H' b=some (.tup xs)):cX P w H' h' a o:=by
 induction o with
 |lst xs=>obtain⟨z,a_,n,r,e⟩:=x;exact(z,a_,n,r,k _ _ (.inl rfl) e)
 |tup xs=>obtain⟨z,a_,r,ob,e,c⟩:=x;exact(z,a_,r,ob,k _ _ (.inl rfl) e,c)
 |dK kvs=>obtain⟨z,y,vs,r,ob,es,ep,e,c⟩:=x;exact(z,y,vs,r,ob,es,ep,k _ _ (.inl rfl) e,c)
 |dT kvs=>obtain⟨z,y,xs,r,ob,es,ep,e,c⟩:=x;exact(z,y,xs,Paired.lK r λp q z=>(z.1,ht _ _ z.2.1,z.2.2),ob,es,ep,k _ _ (.inl rfl) e,c)
 |set S n=>obtain⟨ob,es,ep,t,e,c⟩:=x;exact(ob,es,ep,t,k _ _ (.inl rfl) e,c)
 |ins C dx fs=>obtain⟨d,z,ne,e,mA,⟨od,es,ep,e2,c⟩,r⟩:=x;exact(ho _ d,z,ne,k _ _ (.inl rfl) e,mA,(od,es,ep,k _ _ (.inr d) e2,c),r)
 |own y=>obtain⟨ob,e⟩:=x;exact(ob,k _ _ (.inl rfl) e)
 |xd fs=>obtain⟨mA,⟨od,es,ep,e,c⟩,r⟩:=x;exact(mA,(od,es,ep,k _ _ (.inl rfl) e,c),r)
 |rng lo hi=>obtain⟨t,u,v,e⟩:=x;exact(t,u,v,k _ _ (.inl rfl) e)
 |frz ob u ih=>obtain⟨e,q⟩:=x;exact(k _ _ (.inl rfl) e,ih q)
 |tbl ps=>have e:h.get? a=some {cls:=.none,data:=.fields ps}:=x;show h'.get? a=some {cls:=.none,data:=.fields ps};exact k a _ (.inl rfl) e
 |met f y=>have e:h.get? a=some (PySem.W.methodObj (.ref f) (.ref y)):=x;show h'.get? a=some (PySem.W.methodObj (.ref f) (.ref y));exact k a _ (.inl rfl) e
 |ext φ=>obtain⟨p,⟨o,e⟩,st⟩:=x;exact(st _ _ p λo q=>k _ _ (.inl rfl) q,(o,k _ _ (.inl rfl) e),st)
theorem ox.lt(x:ox P w H h)(e:H a=some o):a<h.objs.size:=(x a o e).lt
theorem ox.fresh(x:ox P w H h)(e:h.objs.size<=a):H a=none:=by
 cases q:H a with
 |none=>rfl
 |some u=>exact absurd (Vf (x.lt q) e) (VE _)
theorem ox.kept(x:ox P w H h)(k:∀b u,h.get? b=some u->h'.get? b=some u):ox P w H h':=λa o e=>
 (x a o e).zq (λb u _ q=>k b u q) (λ_ q=>q) λ_ _ q=>q
theorem ox.laid(x:ox P w H h)(k:∀b u,h.get? b=some u->h'.get? b=some u)(hp:h.objs.size<=a)(new:cX P w (upd H a o) h' a o):ox P w (upd H a o) h':=λb u e=>by
 have hn:=x.fresh hp;by_cases hb:b=a
 ·grind[bD]
 ·rw[aQ hb]at e;exact(x b u e).zq (λc v _ q=>k c v q) (λc q=>by rw[aQ (br q hn)];exact q) λc xs q=>by rw[aQ (br q hn)];exact q
end
def Rd(H:Hp)(a:Addr)(u:HO):Prop:=H a=some u\/∃o,H a=some (.frz o u)
theorem Rd.ok(r:Rd H a u)(x:ox P w H h):cX P w H h a u:=by
 rcases r with r|⟨o,r⟩
 ·exact x a u r
 ·obtain⟨_,q⟩:=x a _ r;exact q
def Qu:Option HO->Prop
 |some (.lst _)=>True
 |some (.dK _)=>True
 |some (.dT _)=>True
 |some (.set _ _)=>True
 |some (.ins _ _ _)=>True
 |some (.ext _)=>True
 |_=>False
section
variable {P:Zj} {w:World} {H:Hp} {h h':Heap} {x e:Addr} {o':HO}
theorem ox.write(ok:ox P w H h)(mu:Qu (H x))(he:e=x\/H e=some (.own x))(k:∀b u,b≠e->h.get? b=some u->h'.get? b=some u)(heo:∃u,h'.get? e=some u)
 (new:cX P w (upd H x o') h' x o'):ox P w (upd H x o') h':=λb u q=>by
 have nown:∀c y,H c=some (.own y)->c≠x:=λc y r z=>by subst z;rw[r]at mu;exact mu
 have ntup:∀c xs,H c=some (.tup xs)->c≠x:=λc xs r z=>by subst z;rw[r]at mu;exact mu
 by_cases hb:b=x
 ·grind[bD]
 ·rw[aQ hb]at q;by_cases hbe:b=e
  ·have q':H b=some (.own x):=by
    rcases he with z|z
    ·exact absurd (hbe.trans z) hb
    ·rw[hbe];exact z
   rw[q]at q';cases q';obtain⟨v,hv⟩:=heo;exact(v,by rw[hbe];exact hv)
  ·refine(ok b u q).zq (λc v hc r=>k c v ?_ r) (λc r=>by rw[aQ (nown c b r)];exact r) λc xs r=>by rw[aQ (ntup c xs r)];exact r
   rcases hc with rfl|hc
   ·exact hbe
   ·rintro rfl;rcases he with z|z
    ·exact nown c b hc z
    ·rw[hc]at z;cases z;exact hb rfl
end
structure Un(fs ex:Za)(H H':Hp)(h h':Heap):Prop where
 keep:∀b o,h.get? b=some o->H b=none->b∉fs->b∉ex->h'.get? b=some o
 slot:∀b o,h.get? b=some o->H b=none->b∈fs->b∉ex->∃sl,h'.get? b=some {o with slots:=sl}
 free:∀b o,h.get? b=some o->H b=none->b∉ex->H' b=none
 there:∀b o,h.get? b=some o->b∉ex->∃o',h'.get? b=some o'
 tups:∀b xs,H b=some (.tup xs)->H' b=some (.tup xs)
 frzs:∀b o u,H b=some (.frz o u)->H' b=some (.frz o u)
 tbls:∀b ps,H b=some (.tbl ps)->∃more,H' b=some (.tbl (ps++more))
section
variable {fs ZZ ex ex':Za} {H H1 H2:Hp} {h h1 h2 h':Heap} {a x e:Addr} {o:HO}
theorem Un.any(u:Un fs ex H H1 h h1)(q:h.get? b=some ob)(n:H b=none)(hx:b∉ex):∃sl,h1.get? b=some {ob with slots:=sl}:=by
 by_cases hb:b∈fs
 ·exact u.slot b ob q n hb hx
 ·exact(ob.slots,u.keep b ob q n hb hx)
theorem Un.kept(k:∀b u,h.get? b=some u->h'.get? b=some u):Un fs ex H H h h':=
 (λb ob q _ _ _=>k b ob q,λb ob q _ _ _=>(ob.slots,k b ob q),λ_ _ _ n _=>n,λb ob q _=>(ob,k b ob q),λ_ _ q=>q,λ_ _ _ q=>q,λ_ ps q=>(#[],by grind))
theorem Un.refl:Un fs ex H H h h:=Un.kept λ_ _ q=>q
theorem Un.laid(k:∀b u,h.get? b=some u->h'.get? b=some u)(hp:h.objs.size<=a)(hn:H a=none):Un fs ex H (upd H a o) h h' where
 keep:=λb u q _ _ _=>k b u q
 slot:=λb u q _ _ _=>(u.slots,k b u q)
 free:=λb u q n _=>by rw[aQ (Vi (Vf (U6 q) hp))];exact n
 there:=λb u q _=>(u,k b u q)
 tups:=λb xs q=>by rw[aQ (br q hn)];exact q
 frzs:=λb u xs q=>by rw[aQ (br q hn)];exact q
 tbls:=λb ps q=>(#[],by rw[aQ (br q hn),q];simp)
theorem Un.write(mu:Qu (H x))(he:e=x\/H e=some (.own x))(k:∀b u,b≠e->h.get? b=some u->h'.get? b=some u)(heo:∃u,h'.get? e=some u):Un fs ex H (upd H x o) h h':=by
 have hx:∀b,H b=none->b≠x:=λb n z=>by subst z;rw[n]at mu;exact mu
 have hb:∀b,H b=none->b≠e:=λb n z=>by
  grind
 have hm:∀b u,H b=some u->¬ Qu (some u)->b≠x:=λb u q nm z=>by grind
 refine(λb u q n _ _=>k b u (hb b n) q,λb u q n _ _=>(u.slots,k b u (hb b n) q),λb u q n _=>by rw[aQ (hx b n)];exact n,λb u q _=>?_,
  λb xs q=>by rw[aQ (hm b _ q λz=>z)];exact q,λb u xs q=>by rw[aQ (hm b _ q λz=>z)];exact q,λb ps q=>(#[],by rw[aQ (hm b _ q λz=>z),q];simp))
 grind
end
def Hv(h:Heap)(H:Hp):Za:=(List.range h.objs.size).filter λa=>(H a).isSome
def zr(h:Heap)(H:Hp):Heap:=PySem.W.hideAll h (Hv h H)
theorem Gh(h:Heap)(H:Hp):(zr h H).objs.size=h.objs.size:=PySem.W.hideAll_size _ _
theorem Hw(e:h.get? b=some o)(n:H b=none):(zr h H).get? b=some o:=
 PySem.W.hideAll_get _ e λhm=>by
  have q  := (U7.mp hm).2
  grind
theorem KI(e:(zr h H).get? b=some o):h.get? b=some o/\H b=none:=by
 have e'  := PySem.W.of_hideAll _ e;refine(e',?_)
 cases q:H b with
 |none=>rfl
 |some x=>
  have hm:b∈Hv h H:=U7.mpr (VI.mpr (U6 e'),by simp[q]);have z:(zr h H).get? b=none:=PySem.W.hideAll_none _ hm
  grind
def KJ(g h:Heap)(L:Addr):Y5:=(List.range h.objs.size).filterMap λa=>if a=L\/(g.get? a).isSome=true then none else(h.get? a).map λo=>(a,o)
def rest(g h:Heap)(L d:Addr):Y5:=(KJ g h L).filter λp=>decide (p.1≠d)
structure Mod(K:Zc)(mg:Y8)(base:Heap):Prop where
 kin:K.In base
 glob:base.Ns mainGlobals mg
 blt:∃mb,base.Ns builtinsNs mb/\∀x:Str,x ≠ "__name__" -> mb x=bootBuiltins x
 nolimit:base.NoLimit
structure Cx where
 prog:Zj
 w:World
 K:Zc
 mg:Str->Option Value
 base:Heap
 A:Zm
 N:Zd
 s₀:Zn
 H₀:Hp
 env:Env
 outer:List Env
 stack:List Env
 ex:Za
 fn:Str->Bool
 calm:Bool
 pn:Y5
 xe:Y4
def A0(l:List Env):Za:=l.filterMap (·.frame)
abbrev Cx.fs(X:Cx):Za:=A0 X.outer
def Hx(sc:Scope)(x:Str):Prop:=sc.names.lookup x=some .local\/sc.names.lookup x=some .cell\/sc.names.lookup x=some .free
def Loc(sc:Scope)(x:Str):Prop:=sc.names.lookup x=some .local\/sc.names.lookup x=some .cell
def Look(env:Env)(h:Heap)(m:Y8)(x:Str)(u:Value):Prop:=
 (env.kindOf x=some .local/\m x=some u)\/((env.kindOf x=some .cell\/env.kindOf x=some .free)/\∃c,env.cells.lookup x=some c/\h.IsCell c (some u))
structure Cx.Ok(X:Cx):Prop where
 mod:Mod X.K X.mg X.base
 kind:X.env.scope.kind=.function
 glob:X.env.globals=mainGlobals
 blt:X.env.builtins=builtinsNs
 above:X.s₀.heap.objs.size<=X.env.locals
 inj:∀x y c,X.env.cells.lookup x=some c->X.env.cells.lookup y=some c->x=y
 has:∀x,(X.env.kindOf x=some .cell\/X.env.kindOf x=some .free)->∃c,X.env.cells.lookup x=some c
 cab:∀x c,X.fn x=true->X.env.cells.lookup x=some c->X.s₀.heap.objs.size<=c
 hd:X.calm=true->X.A.handled=none
 frames:X.A.frames=some X.stack
 stk:X.stack=X.outer\/(X.stack=X.env::X.outer/\X.env.frame=some X.env.locals)
 exf:∀b∈X.ex,b≠X.env.locals/\∀x c,X.env.cells.lookup x=some c->c≠b
 bs:∀b o,X.base.get? b=some o->X.s₀.heap.get? b=some o/\X.H₀ b=none
 bsz:X.base.objs.size<=X.s₀.heap.objs.size
 noex:∀b o,X.base.get? b=some o->b∉X.ex
 exfs:∀b∈X.ex,b∉X.fs
 qw:X.s₀.heap.FunFrames X.base X.outer
 frf:∀b∈X.fs,X.H₀ b=none
structure Inv(X:Cx)(pins:Y5)(σ:List (Option V))(H:Hp)(s:Zn):Prop where
 ok:X.Ok
 os:s.os=X.s₀.os
 bare:AllBare s.gens
 base:Un X.fs X.ex X.H₀ H X.s₀.heap s.heap
 loc:∃m,s.heap.Ns X.env.locals m/\∀(i:Nat) (x:Str) (v:V),X.N[i]?=some x->σ[i]?=some (some v)->Hx X.env.scope x->∃u,RelV v u/\Look X.env s.heap m x u
 cell:∀x c,X.env.cells.lookup x=some c->∃v,s.heap.IsCell c v
 free:H X.env.locals=none
 freeC:∀x c,X.env.cells.lookup x=some c->H c=none
 pin:∀p∈X.pn++pins,s.heap.get? p.1=some p.2/\H p.1=none/\p.1≠X.env.locals/\p.1∉X.fs/\∀v,p.2.data≠.cell v
 hok:ox X.prog X.w H s.heap
 len:σ.length=X.N.length
section
variable {X:Cx} {pins:Y5} {σ:List (Option V)} {H H':Hp} {s:Zn} {h':Heap}
theorem Cx.Ok.SO(ok:X.Ok)(e:X.base.get? b=some o):b∉X.fs:=λhb=>by
 have:=(ok.qw.mem hb).1
 grind
theorem Inv.bs(I:Inv X pins σ H s):∀b o,X.base.get? b=some o->s.heap.get? b=some o/\H b=none:=λb o e=>
 (I.base.keep b o (I.ok.bs b o e).1 (I.ok.bs b o e).2 (I.ok.SO e) (I.ok.noex b o e),I.base.free b o (I.ok.bs b o e).1 (I.ok.bs b o e).2 (I.ok.noex b o e))
theorem Inv.bk(I:Inv X pins σ H s):∀b o,X.base.get? b=some o->s.heap.get? b=some o:=λb o e=>(I.bs b o e).1
theorem Inv.mod(I:Inv X pins σ H s):Mod X.K X.mg X.base:=I.ok.mod
theorem Inv.u0(I:Inv X pins σ H s):X.K.In s.heap:=I.ok.mod.kin.keeps I.bk
theorem Inv.lt(I:Inv X pins σ H s):X.env.locals<s.heap.objs.size:=by obtain⟨_,hn,_⟩:=I.loc;exact hn.lt
theorem Inv.sz(I:Inv X pins σ H s):X.s₀.heap.objs.size<=s.heap.objs.size:=U8 I.ok.above (Yt I.lt)
theorem Inv.NW(I:Inv X pins σ H s){a:Addr}(h:s.heap.objs.size<=a):a∉X.fs:=λhb=>by obtain⟨_,o,ho,_⟩:=I.ok.qw.mem hb;exact absurd (Vf (U6 ho) (U8 I.sz h)) (VE _)
theorem Inv.NX(I:Inv X pins σ H s):∀x c,X.env.cells.lookup x=some c->c≠X.env.locals:=λx c e z=>by
 obtain⟨v,o,ho,hd⟩:=I.cell x c e;obtain⟨m,⟨o',es,ep,UV,hd',_⟩,_⟩:=I.loc
 grind
theorem Inv.qw(I:Inv X pins σ H s):s.heap.FunFrames X.base X.outer:=by
 have all:∀(l:List Env),(∀b∈A0 l,b∈X.fs)->X.s₀.heap.FunFrames X.base l->s.heap.FunFrames X.base l:=by
  intro l
  induction l with
  |nil=>intro _ _;trivial
  |cons env r ih=>intro hs hl;obtain⟨hk,⟨L,o,hf,hn,ho,hd⟩,hr⟩:=hl;have hL  := hs L (by simp_all[A0]);obtain⟨sl,e⟩:=I.base.slot L o ho (I.ok.frf L hL) hL λz=>I.ok.exfs L z hL;exact(hk,(L,_,hf,hn,e,hd),ih (λb hb=>hs b (by simp_all[A0])) hr)
 exact all X.outer (λ_ hb=>hb) I.ok.qw
theorem Inv.stack(I:Inv X pins σ H s):s.heap.FunFrames X.base X.stack:=by
 rcases I.ok.stk with e|⟨e,hf⟩
 ·rw[e];exact I.qw
 ·rw[e];obtain⟨m,hn,_⟩:=I.loc;refine .cons (by grind[I.ok.kind]) hf hn ?_ I.qw;exact Heap.get?_none_of_le (U8 I.ok.bsz I.ok.above)
theorem Inv.si(I:Inv X pins σ H s):∀b∈A0 X.stack,b∈X.env.locals::X.fs:=λb hb=>by
 rcases I.ok.stk with e|⟨e,hf⟩
 ·grind
 simp_all[A0]
theorem Inv.EH(I:Inv X pins σ H s):∀b∈A0 X.stack,H b=none:=λb hb=>by
 rcases Vb.mp (I.si b hb)with e|hb
 ·rw[e];exact I.free
 ·obtain⟨_,o,ho,_⟩:=I.ok.qw.mem hb;exact I.base.free b o ho (I.ok.frf b hb) λz=>I.ok.exfs b z hb
theorem Inv.step{ch:Za}(I:Inv X pins σ H s)
 (ZY:∀b∈ch,(b∈X.ex\/X.s₀.heap.objs.size<=b)/\b≠X.env.locals/\(∀x c,X.env.cells.lookup x=some c->c≠b)/\∀p∈X.pn++pins,p.1≠b)
 (keep:∀b o,b≠X.env.locals->b∉X.fs->b∉ch->s.heap.get? b=some o->H b=none->h'.get? b=some o)
 (slot:∀b o,b≠X.env.locals->b∈X.fs->b∉ch->s.heap.get? b=some o->H b=none->∃sl,h'.get? b=some {o with slots:=sl})(free:∀b o,b∉ch->s.heap.get? b=some o->H b=none->H' b=none)
 (there:∀b o,b∉ch->s.heap.get? b=some o->∃o',h'.get? b=some o')
 (tups:∀b xs,H b=some (.tup xs)->H' b=some (.tup xs))(frzs:∀b o u,H b=some (.frz o u)->H' b=some (.frz o u))(tbls:∀b ps,H b=some (.tbl ps)->∃more,H' b=some (.tbl (ps++more)))
 (ns:∀m,s.heap.Ns X.env.locals m->h'.Ns X.env.locals m)(hok:ox X.prog X.w H' h')(hg:AllBare g') :
  Inv X pins σ H' {s with heap:=h',gens:=g',drawn:=d',toks:=t'}:=by
 have neL:∀b o,X.s₀.heap.get? b=some o->b≠X.env.locals:=λb o e=>Vi (Vf (U6 e) I.ok.above)
 have neC:∀b o,X.s₀.heap.get? b=some o->b∉X.ex->b∉ch:=λb o e hx hb=>by
  rcases(ZY b hb).1 with z|z
  ·exact hx z
  ·exact absurd (Vf (U6 e) z) (VE _)
 have cellK:∀x c,X.env.cells.lookup x=some c->∀v,s.heap.IsCell c v->h'.IsCell c v:=by
  rintro x c e v ⟨o,ho,hd⟩;have nch:c∉ch:=λz=>(ZY c z).2.2.1 x c e rfl;by_cases hc:c∈X.fs
  ·obtain⟨sl,q⟩:=slot c o (I.NX x c e) hc nch ho (I.freeC x c e);exact(_,q,hd)
  ·exact(o,keep c o (I.NX x c e) hc nch ho (I.freeC x c e),hd)
 refine(I.ok,I.os,hg,(λb o e n hb hx=>?_,λb o e n hb hx=>?_,λb o e n hx=>?_,λb o e hx=>?_,λb xs e=>tups b xs (I.base.tups b xs e),λb o xs e=>frzs b o xs (I.base.frzs b o xs e),λb ps e=>?_),?_,λx c e=>?_,?_,λx c e=>?_,λp hp=>?_,hok,I.len)
 ·exact keep b o (neL b o e) hb (neC b o e hx) (I.base.keep b o e n hb hx) (I.base.free b o e n hx)
 ·obtain⟨sl,e1⟩:=I.base.slot b o e n hb hx;obtain⟨sl',e2⟩:=slot b _ (neL b o e) hb (neC b o e hx) e1 (I.base.free b o e n hx);exact(sl',e2)
 ·obtain⟨o',e1⟩:=I.base.there b o e hx;exact free b o' (neC b o e hx) e1 (I.base.free b o e n hx)
 ·obtain⟨o',e1⟩:=I.base.there b o e hx;exact there b o' (neC b o e hx) e1
 ·obtain⟨m1,e1⟩:=I.base.tbls b ps e;obtain⟨m2,e2⟩:=tbls b _ e1;exact(m1++m2,by rw[e2,Array.append_assoc])
 ·obtain⟨m,hn,hl⟩:=I.loc;refine(m,ns m hn,λi x v e1 e2 e3=>?_);obtain⟨u,r,l⟩:=hl i x v e1 e2 e3;refine(u,r,?_);rcases l with l|⟨k,c,e,z⟩
  ·exact .inl l
  ·exact .inr (k,c,e,cellK x c e _ z)
 ·obtain⟨v,z⟩:=I.cell x c e;exact(v,cellK x c e v z)
 ·obtain⟨m,⟨o,_,_,ho,_⟩,_⟩:=I.loc;exact free _ o (λz=>(ZY _ z).2.1 rfl) ho I.free
 ·obtain⟨v,o,ho,hd⟩:=I.cell x c e;exact free c o (λz=>(ZY c z).2.2.1 x c e rfl) ho (I.freeC x c e)
 ·obtain⟨e,n,ne,nf,d⟩:=I.pin p hp;have nch:p.1∉ch:=λz=>(ZY p.1 z).2.2.2 p hp rfl;exact(keep p.1 p.2 ne nf nch e n,free p.1 p.2 nch e n,ne,nf,d)
theorem Inv.un(I:Inv X pins σ H s)(u:Un X.fs [] H H' s.heap h')(hok:ox X.prog X.w H' h'):Inv X pins σ H' {s with heap:=h',toks:=t'}:=by
 obtain⟨m,⟨o,es,ep,ho,r⟩,_⟩:=id I.loc;obtain⟨sl,hL⟩:=u.any ho I.free (by simp)
 exact I.step (ch:=[]) (λ_ z=>nomatch z) (λb o _ hb _ e n=>u.keep b o e n hb (by simp)) (λb o _ hb _ e n=>u.slot b o e n hb (by simp)) (λb o _ e n=>u.free b o e n (by simp)) (λb o _ e=>u.there b o e (by simp)) u.tups u.frzs u.tbls (λm' hm=>by
  obtain⟨o',r_,P3,UV,r'⟩:=hm;rw[ho]at UV;cases UV
  exact(_,r_,P3,hL,r')) hok I.bare
theorem Inv.call(I:Inv X pins σ H s)(u:Un (A0 X.stack) ch H H' s.heap h')(hok:ox X.prog X.w H' h')(hg:AllBare g')
 (ZY:∀b∈ch,(b∈X.ex\/X.s₀.heap.objs.size<=b)/\b≠X.env.locals/\(∀x c,X.env.cells.lookup x=some c->c≠b)/\∀p∈X.pn++pins,p.1≠b) :
  Inv X pins σ H' {s with heap:=h',gens:=g',drawn:=d',toks:=t'}:=by
 obtain⟨m,⟨o,es,ep,ho,r⟩,_⟩:=id I.loc;obtain⟨sl,hL⟩:=u.any ho I.free λz=>(ZY _ z).2.1 rfl
 exact I.step ZY (λb o hL hb hc e n=>u.keep b o e n (λz=>(Vb.mp (I.si b z)).elim hL hb) hc) (λb o _ _ hc e n=>u.any e n hc) (λb o hc e n=>u.free b o e n hc) (λb o hc e=>u.there b o e hc) u.tups u.frzs u.tbls (λm' hm=>by
  obtain⟨o',r_,P3,UV,r'⟩:=hm;rw[ho]at UV;cases UV
  exact(_,r_,P3,hL,r')) hok hg
theorem Inv.turned(I:Inv X pins σ H s)(k:∀b o,b≠it->s.heap.get? b=some o->h'.get? b=some o)(hn:H it=none)(hL:it≠X.env.locals)
 (h1:it∈X.ex\/X.s₀.heap.objs.size<=it)(h2:∀x c,X.env.cells.lookup x=some c->c≠it)(h3:∀p∈X.pn++pins,p.1≠it):Inv X pins σ H {s with heap:=h',toks:=t'}:=by
 have nit:∀b u,H b=some u->b≠it:=λb u e z=>by grind
 refine I.step (g':=s.gens) (d':=s.drawn) (ch:=[it]) (λb hb=>?_) (λb o _ _ hc e _=>k b o (λz=>hc (by simp[z])) e) (λb o _ _ hc e _=>(o.slots,k b o (λz=>hc (by simp[z])) e)) (λ_ _ _ _ n=>n)
  (λb o hc e=>(o,k b o (λz=>hc (by simp[z])) e)) (λ_ _ e=>e) (λ_ _ _ e=>e) (λb ps e=>(#[],by grind)) (λm hm=>?_) (λb u e=>?_) I.bare
 ·have e:b=it:=by grind
  subst e;exact(h1,hL,h2,h3)
 ·obtain⟨o,es,ep,ho,r⟩:=hm;exact(o,es,ep,k _ o (X4 hL) ho,r)
 ·refine(I.hok b u e).zq (λc v hc q=>k c v ?_ q) (λ_ q=>q) λ_ _ q=>q
  grind
theorem Inv.tok(I:Inv X pins σ H s)(t:Nat):Inv X pins σ H {s with toks:=t}:=I.un (h':=s.heap) (t':=t) Un.refl I.hok
theorem Inv.kept(I:Inv X pins σ H s)(k:∀b u,s.heap.get? b=some u->h'.get? b=some u):Inv X pins σ H {s with heap:=h',toks:=t'}:=I.un (Un.kept k) (I.hok.kept k)
theorem Inv.laid{a:Addr}(I:Inv X pins σ H s)(k:∀b u,s.heap.get? b=some u->h'.get? b=some u)(hp:s.heap.objs.size<=a)(new:cX X.prog X.w (upd H a o) h' a o) :
  Inv X pins σ (upd H a o) {s with heap:=h',toks:=t'}:=I.un (Un.laid k hp (I.hok.fresh hp)) (I.hok.laid k hp new)
theorem Inv.write(I:Inv X pins σ H s)(mu:Qu (H x))(he:e=x\/H e=some (.own x))(k:∀b u,b≠e->s.heap.get? b=some u->h'.get? b=some u)(heo:∃u,h'.get? e=some u)
 (new:cX X.prog X.w (upd H x o) h' x o):Inv X pins σ (upd H x o) {s with heap:=h',toks:=t'}:=I.un (Un.write mu he k heo) (I.hok.write mu he k heo new)
theorem Inv.ic(I:Inv X pins σ H s)(h:∀p∈pins',s.heap.get? p.1=some p.2/\H p.1=none/\p.1≠X.env.locals/\p.1∉X.fs/\∀v,p.2.data≠.cell v):Inv X pins' σ H s:=
 (I.ok,I.os,I.bare,I.base,I.loc,I.cell,I.free,I.freeC,λp hp=>(Vd.mp hp).elim (λz=>I.pin p (Vr _ z)) (h p),I.hok,I.len)
theorem A5{N:Zd}(hN:N.Nodup){i j:Nat}(a:N[i]?=some x)(b:N[j]?=some x):i=j:=by obtain⟨h1,e1⟩:=U9.mp a;obtain⟨h2,e2⟩:=U9.mp b;exact(List.getElem_inj hN).mp (e1.trans e2.symm)
theorem oy(I:Inv X pins σ H s)(hN:X.N.Nodup)(hi:X.N[i]?=some x)(hx:Loc X.env.scope x)(r:RelV v u)
 (h:∀s',Inv X pins (σ.set i (some v)) H s'->(∃a,Heap.SameBut a s.heap s'.heap/\(a=X.env.locals\/X.env.cells.lookup x=some a))->Q () s')(hf:X.fn x=true\/X.env.scope.names.lookup x=some .local:=by first|exact .inl rfl|exact .inr rfl|assumption):wpAny M A (storeName X.env x u) Q E s:=by
 obtain⟨m,hn,hl⟩:=id I.loc;have hcls:(X.env.scope.kind == .class || (X.env.scope.kind == .module&&X.env.locals != X.env.globals))=false:=by rw[I.ok.kind];rfl
 have hiσ:i<σ.length:=by grind[I.len]
 have NX:=I.NX
 have tracked:∀{a:Addr} {h':Heap},(∃o,s.heap.get? a=some o/\H a=none)->Heap.SameBut a s.heap h'->ox X.prog X.w H h':=λ{a h'} ha hs b ob e=>by
  obtain⟨_,_,Y_⟩:=ha;refine(I.hok b ob e).zq (λc w' hc q=>(hs.2 c ?_).trans q) (λ_ q=>q) λ_ _ q=>q;rintro rfl;rcases hc with rfl|hc
  ·rw[Y_]at e;cases e
  ·rw[Y_]at hc;cases hc
 rcases hx with hk|hk
 ·refine wpAny_storeName_local hk hn (λh' hn' hs=>?_) hcls;obtain⟨oL,_,_,hoL,_⟩:=id hn;refine h _ (I.ok,I.os,I.bare,(λb o e n hb hx=>?_,λb o e n hb hx=>?_,I.base.free,λb o e hx=>?_,I.base.tups,I.base.frzs,I.base.tbls),(_,hn',λj y v' e1 e2 e3=>?_),λy c e=>?_,I.free,I.freeC,λp hp=>?_,tracked (oL,hoL,I.free) hs,by simpa using I.len) (_,hs,.inl rfl)
  ·exact(hs.2 b (Vi (Vf (U6 e) I.ok.above))).trans (I.base.keep b o e n hb hx)
  ·obtain⟨sl,e1⟩:=I.base.slot b o e n hb hx;exact(sl,(hs.2 b (Vi (Vf (U6 e) I.ok.above))).trans e1)
  ·obtain⟨o',e1⟩:=I.base.there b o e hx;exact(o',(hs.2 b (Vi (Vf (U6 e) I.ok.above))).trans e1)
  ·by_cases hj:j=i
   ·subst hj;rw[hi]at e1;cases e1;rw[WV hiσ]at e2;cases e2;exact(u,r,.inl (hk,by simp))
   ·rw[XN (X4 hj)]at e2;obtain⟨u',r',q⟩:=hl j y v' e1 e2 e3;refine(u',r',?_);rcases q with⟨k,e⟩|⟨k,c,e,z⟩
    ·refine .inl (k,?_);have:y≠x:=λe=>hj (A5 hN e1 (e▸hi));simp[this,e]
    ·exact .inr (k,c,e,z.sameBut hs (NX y c e))
  ·obtain⟨w',z⟩:=I.cell y c e;exact(w',z.sameBut hs (NX y c e))
  ·obtain⟨e,n,ne,nf,d⟩:=I.pin p hp;exact((hs.2 p.1 ne).trans e,n,ne,nf,d)
 ·have hfn:X.fn x=true:=by
   rcases hf with z|z
   ·exact z
   ·rw[z]at hk;cases hk
  obtain⟨c,hc⟩:=I.ok.has x (.inl hk);obtain⟨w',z⟩:=I.cell x c hc;refine wpAny_storeName_cell I.ok.kind hk hc z (λh' hc' hs=>?_);obtain⟨oc,hoc,hocd⟩:=id z;refine h {s with heap:=h'} (I.ok,I.os,I.bare,(λb o e n hb hx=>?_,λb o e n hb hx=>?_,I.base.free,λb o e hx=>?_,I.base.tups,I.base.frzs,I.base.tbls),(m,hn.sameBut hs (X4 (NX x c hc)),λj y v' e1 e2 e3=>?_),λy c' e=>?_,I.free,I.freeC,λp hp=>?_,tracked (oc,hoc,I.freeC x c hc) hs,by simpa using I.len) (c,hs,.inr hc)
  ·exact(hs.2 b (Vi (Vf (U6 e) (I.ok.cab x c hfn hc)))).trans (I.base.keep b o e n hb hx)
  ·obtain⟨sl,e1⟩:=I.base.slot b o e n hb hx;exact(sl,(hs.2 b (Vi (Vf (U6 e) (I.ok.cab x c hfn hc)))).trans e1)
  ·obtain⟨o',e1⟩:=I.base.there b o e hx;exact(o',(hs.2 b (Vi (Vf (U6 e) (I.ok.cab x c hfn hc)))).trans e1)
  ·by_cases hj:j=i
   ·subst hj;rw[hi]at e1;cases e1;rw[WV hiσ]at e2;cases e2;exact(u,r,.inr (.inl hk,c,hc,hc'))
   ·rw[XN (X4 hj)]at e2;obtain⟨u',r',q⟩:=hl j y v' e1 e2 e3;refine(u',r',?_);rcases q with q|⟨k,c',e,z'⟩
    ·exact .inl q
    ·refine .inr (k,c',e,z'.sameBut hs ?_);rintro rfl;exact hj (A5 hN e1 (I.ok.inj _ _ _ e hc▸hi))
  ·by_cases hcc:c'=c
   ·subst hcc;exact(_,hc')
   ·obtain⟨w2,z2⟩:=I.cell y c' e;exact(w2,z2.sameBut hs hcc)
  ·obtain⟨e,n,ne,nf,d⟩:=I.pin p hp;refine((hs.2 p.1 ?_).trans e,n,ne,nf,d);intro q;rw[q,hoc]at e;have q':oc=p.2:=Wm e;exact d w' (by rw[<- q'];exact hocd)
theorem iz(I:Inv X pins σ H s)(hN:X.N.Nodup)(hi:X.N[i]?=some x)(hx:Loc X.env.scope x)(r:RelV v u)
 (h:∀s',Inv X pins (σ.set i (some v)) H s'->Q () s')(hf:X.fn x=true\/X.env.scope.names.lookup x=some .local:=by first|exact .inl rfl|exact .inr rfl|assumption):wpAny M A (storeName X.env x u) Q E s:=
 oy I hN hi hx r (λs' I' _=>h s' I') hf
theorem Inv.Nf(I:Inv X pins σ H s)(ho:s'.os=s.os)(u:Un (A0 X.stack) ch H H' s.heap s'.heap)(hok:ox X.prog X.w H' s'.heap)(hg:AllBare s'.gens)
 (ZY:∀b∈ch,(b∈X.ex\/X.s₀.heap.objs.size<=b)/\b≠X.env.locals/\(∀x c,X.env.cells.lookup x=some c->c≠b)/\∀p∈X.pn++pins,p.1≠b):Inv X pins σ H' s':=by
 obtain⟨h',g',d',t',o'⟩:=s';have e  := ho;subst e;exact I.call u hok hg ZY
end
abbrev XK:=Value->Option Addr->Hp->Prop
abbrev St:=List (Option V)
abbrev VK:=V->Hp->Prop
abbrev TE:=St->Hp->VK->Prop
abbrev TT:=St->Hp->(Bool->Hp->Prop)->Prop
abbrev TA:=St->Hp->(List V->Hp->Prop)->Prop
structure Ends where
 nx:St->Hp->Prop
 rt:VK
 bk:St->Hp->Prop:=λ_ _=>False
 ct:St->Hp->Prop:=λ_ _=>False
abbrev TS:=Ends->St->Hp->Prop
def EP(X:Cx)(pins:Y5)(σ:St)(Q:VK)(u:Value)(s':Zn):Prop:=∃v H',Inv X pins σ H' s'/\RelV v u/\Q v H'
def TP(X:Cx)(pins:Y5)(σ:St)(Q:Bool->Hp->Prop)(b:Bool)(s':Zn):Prop:=∃H',Inv X pins σ H' s'/\Q b H'
def AP(X:Cx)(pins:Y5)(σ:St)(Q:List V->Hp->Prop)(us:Zb)(s':Zn):Prop:=∃vs H',Inv X pins σ H' s'/\Vals vs us/\Q vs H'
noncomputable def SP(X:Cx)(pins:Y5)(D:Ends)(f:Flow)(s':Zn):Prop:=
 match f with
 |.next=>∃j_ H',Inv X pins j_ H' s'/\D.nx j_ H'
 |.brk=>∃j_ H',Inv X pins j_ H' s'/\D.bk j_ H'
 |.cont=>∃j_ H',Inv X pins j_ H' s'/\D.ct j_ H'
 |.ret u=>∃v j_ H',Inv X pins j_ H' s'/\RelV v u/\D.rt v H'
def PE(X:Cx)(e:Expr)(t:TE):Prop:=
 ∀(pins:Y5) (s:Zn) (σ:St) (H:Hp) (Q:VK),Inv X pins σ H s->t σ H Q->wpAny (model X.prog X.w) X.A (eval e X.env) (EP X pins σ Q) X.xe s
def PT(X:Cx)(e:Expr)(t:TT):Prop:=
 ∀(pins:Y5) (s:Zn) (σ:St) (H:Hp) (Q:Bool->Hp->Prop),Inv X pins σ H s->t σ H Q->wpAny (model X.prog X.w) X.A (isTrue e X.env (eval e X.env)) (TP X pins σ Q) X.xe s
def PW(X:Cx)(e:Expr)(t:TT):Prop:=
 ∀(whole:Sem Value) (pins:Y5) (s:Zn) (σ:St) (H:Hp) (Q:Bool->Hp->Prop),Inv X pins σ H s->t σ H Q->wpAny (model X.prog X.w) X.A (isTrue e X.env whole) (TP X pins σ Q) X.xe s
theorem PW.pt(h:PW X e t):PT X e t:=h _
def PA(X:Cx)(es:Ze)(t:TA):Prop:=
 ∀(pos:Pos) (pins:Y5) (s:Zn) (σ:St) (H:Hp) (Q:List V->Hp->Prop),Inv X pins σ H s->t σ H Q->wpAny (model X.prog X.w) X.A (spliced (backTo pos (starEach es X.env))) (AP X pins σ Q) X.xe s
def PS(X:Cx)(st:Stmt)(t:TS):Prop:=
 ∀(pins:Y5) (s:Zn) (σ:St) (H:Hp) (D:Ends),Inv X pins σ H s->t D σ H->wpAny (model X.prog X.w) X.A (exec st X.env) (SP X pins D) X.xe s
def A6(X:Cx)(st:List Stmt)(t:TS):Prop:=
 ∀(pins:Y5) (s:Zn) (σ:St) (H:Hp) (D:Ends),Inv X pins σ H s->t D σ H->wpAny (model X.prog X.w) X.A (execs st X.env) (SP X pins D) X.xe s
theorem bN{M:Model}{A:Zm}{E:Y4}{s:Zn}(h:wpAny M A t Q E s)(hQ:∀a s,Q a s->Q' a s):wpAny M A t Q' E s:=V7 h hQ λ_ _ x=>x
section
variable {X:Cx}
def SQ(i:Nat):TE:=λσ H Q=>∃v,σ[i]?=some (some v)/\Q v H
def tC(v:V):TE:=λ_ H Q=>Q v H
theorem NY{pos:Pos}(hN:X.N[i]?=some x)(hv:Hx X.env.scope x)(hd:(x==("__debug__" : Str))=false:=by decide)(KF:(x==("__classdict__" : Str))=false:=by decide):PE X (.Name x pos) (SQ i):=by
 intro pins s σ H Q I h;obtain⟨v,e,h⟩:=h;obtain⟨m,hn,hl⟩:=I.loc;obtain⟨u,r,l⟩:=hl i x v hN e hv;have fin:EP X pins σ Q u s:=(v,H,I,r,h);rcases l with⟨hk,hm⟩|⟨hk,c,hc,GM⟩
 ·exact YU (YD I.ok.kind hk hn hm fin) hd
 ·rcases hk with hk|hk
  ·exact YU (YH I.ok.kind hk hc GM fin) hd
  ·exact YU (wpAny_loadName_free I.ok.kind hk hc GM fin KF) hd
theorem Hy:PE X (.Constant (.int i) j pos) (tC (.int i)):=λ_ _ _ H _ I h=>wpAny_Constant_int (.int i,H,I.tok _,(_,rfl),h)
theorem Ng:PE X (.Constant (.bool b) j pos) (tC (.bl b)):=λ_ _ _ H _ I h=>Constant_bool (.bl b,H,I,rfl,h)
theorem Hz:PE X (.Constant .none j pos) (tC .non):=λ_ _ _ H _ I h=>Constant_none (.non,H,I,rfl,h)
theorem HA:PE X (.Constant (.str x) j pos) (tC (.str x)):=λ_ _ _ H _ I h=>Calls.Constant_str (.str x,H,I.tok _,(_,rfl),h)
def Gl(X:Cx)(x:Str):Prop:=X.env.kindOf x=some .globalImplicit
theorem zt{σ:St}(I:Inv X pins σ H s)(hg:Gl X x)(hm:X.mg x=some u)(h:Q u s)
 (hd:(x==("__debug__" : Str))=false:=by decide):wpAny (model X.prog X.w) X.A (eval (.Name x pos) X.env) Q E s:=
 Calls.Name_function_global I.ok.kind hg (Calls.loadGlobal_global (by rw[I.ok.glob];exact I.mod.glob.keeps I.bk) hm h) hd
theorem mW{E:Y4}{σ:St}{pos:Pos}(I:Inv X pins σ H s)(hg:Gl X x)(hm:X.mg x=none)(hv:bootBuiltins x=some u)(h:Q u s)
 (hn:x ≠ "__name__" := by decide)(hd:(x==("__debug__" : Str))=false:=by decide):wpAny (model X.prog X.w) X.A (eval (.Name x pos) X.env) Q E s:=by
 obtain⟨mb,h1,h2⟩:=I.mod.blt;exact Calls.Name_function_global I.ok.kind hg (Calls.loadGlobal_builtin (by rw[I.ok.glob];exact I.mod.glob.keeps I.bk) hm (by rw[I.ok.blt];exact h1.keeps I.bk) ((h2 x hn).trans hv) h) hd
theorem zu(hg:Gl X x)(hm:X.mg x=some u)(r:RelV v u)(hd:(x==("__debug__" : Str))=false:=by decide):PE X (.Name x pos) (tC v):=
 λ_ _ _ H _ I h=>zt I hg hm (v,H,I,r,h) hd
theorem KL{pos:Pos}(hg:Gl X x)(hm:X.mg x=none)(hv:bootBuiltins x=some u)(r:RelV v u)(hn:x ≠ "__name__" := by decide)(hd:(x==("__debug__" : Str))=false:=by decide):PE X (.Name x pos) (tC v):=
 λ_ _ _ H _ I h=>mW I hg hm hv (v,H,I,r,h) hn hd
variable {a b:Expr} {ta tb:TE} {pos:Pos}
variable {tA tB':TT} {rest:Ze}
def lM(t u:TT):TT:=λσ H Q=>t σ H λc H1=>if c=true then u σ H1 Q else Q false H1
def sj(t u:TT):TT:=λσ H Q=>t σ H λc H1=>if c=true then Q true H1 else u σ H1 Q
def gm(t:TT):TT:=λσ H Q=>t σ H λc H1=>Q (!c) H1
theorem KN(ha:PT X a tA):PW X (.BoolOp .And [a] pos) tA:=by
 intro wh pins s σ H Q I h;refine isTrue_and (bN (ha pins s σ H Q I h) λc s1 e=>?_)
 cases c with
 |true=>exact isTrue_and_nil e
 |false=>exact e
theorem NZ(ha:PT X a tA):PW X (.BoolOp .Or [a] pos) tA:=by
 intro wh pins s σ H Q I h;refine isTrue_or (bN (ha pins s σ H Q I h) λc s1 e=>?_)
 cases c with
 |false=>exact isTrue_or_nil e
 |true=>exact e
theorem N0(ha:PT X a tA)(hb:PW X (.BoolOp .And (b::rest) pos) tB'):PW X (.BoolOp .And (a::b::rest) pos) (lM tA tB'):=by
 intro wh pins s σ H Q I h;refine isTrue_and (bN (ha pins s σ H _ I h) λc s1 ⟨H1,I1,q1⟩=>?_)
 cases c with
 |true=>exact hb wh pins s1 σ H1 Q I1 q1
 |false=>assumption
theorem QL(ha:PT X a tA)(hb:PW X (.BoolOp .Or (b::rest) pos) tB'):PW X (.BoolOp .Or (a::b::rest) pos) (sj tA tB'):=by
 intro wh pins s σ H Q I h;refine isTrue_or (bN (ha pins s σ H _ I h) λc s1 ⟨H1,I1,q1⟩=>?_)
 cases c with
 |true=>assumption
 |false=>exact hb wh pins s1 σ H1 Q I1 q1
theorem N3(ha:PT X a tA):PT X (.UnaryOp .Not a pos) (gm tA):=by intro pins s σ H Q I h;exact isTrue_not (ha pins s σ H _ I h)
def QM(ta:TE):TE:=λσ H Q=>ta σ H λx H1=>∃c,x=.bl c/\Q (.bl (!c)) H1
theorem N4(h:PE X a t):PE X (.BoolOp op [a] pos) t:=λpins s σ H Q I hw=>BoolOp_one (h pins s σ H Q I hw)
theorem N5(ha:PE X a ta):PE X (.UnaryOp .Not a pos) (QM ta):=by intro pins s σ H Q I h;refine UnaryOp_ (bN (ha pins s σ H _ I h) λv s1 ⟨x,H1,I1,r1,q1⟩=>?_);obtain⟨c,rfl,q1⟩:=q1;cases r1;exact not_of (V8 (.bl (!c),H1,I1,rfl,q1))
def UE(t:TT)(ta tb:TE):TE:=λσ H Q=>t σ H λc H1=>if c=true then ta σ H1 Q else tb σ H1 Q
theorem HB(hc:PT X c tA)(ha:PE X a ta)(hb:PE X b tb):PE X (.IfExp c a b pos) (UE tA ta tb):=by
 intro pins s σ H Q I h;refine wpAny_IfExp (bN (hc pins s σ H _ I h) λd s1 ⟨H1,I1,q1⟩=>?_)
 cases d with
 |true=>exact ha pins s1 σ H1 Q I1 q1
 |false=>exact hb pins s1 σ H1 Q I1 q1
end
def iA(K:Zc)(H:Hp)(a:Addr)(xs:List V):Prop:=
 Rd H a (.lst xs) \/
  ∃(o:Obj) (a_:Zh) (n:Nat),K.lookup a=some o/\o.cls=.type "list" /\ o.dict=none/\o.data=.seq a_ n/\a_.size<=sizeLine/\Vals xs a_.toList
def i8(K:Zc)(H:Hp)(a:Addr)(xs:List V):Prop:=
 Rd H a (.tup xs) \/
  ∃(o:Obj) (a_:Zh) (n:Nat),K.lookup a=some o/\o.cls=.type "tuple" /\ o.data=.seq a_ n/\a_.size<=sizeLine/\Vals xs a_.toList
def SR:Value->Option V
 |.none=>some .non
 |.bool b=>some (.bl b)
 |.int i _=>some (.int i)
 |.str x _=>some (.str x)
 |.bytes b _=>some (.byt b)
 |.float b _=>some (.flt b)
 |.ref a=>some (.ref a)
 |.type n=>some (.ty n)
 |_=>none
theorem RelV.abs(r:RelV x u):SR u=some x:=by
 cases x with
 |non=>cases r;rfl
 |bl _=>cases r;rfl
 |int _=>obtain⟨t,rfl⟩:=r;rfl
 |str _=>obtain⟨t,rfl⟩:=r;rfl
 |byt _=>obtain⟨t,rfl⟩:=r;rfl
 |flt _=>obtain⟨t,rfl⟩:=r;rfl
 |ref _=>cases r;rfl
 |ty _=>cases r;rfl
theorem RelV.inj(r:RelV x u)(q:RelV y u):x=y:=Wm (r.abs.symm.trans q.abs)
theorem Vals.inj:∀{xs ys:List V} {us:Zb},Vals xs us->Vals ys us->xs=ys
 |_,_,_,.nil,.nil=>rfl
 |_,_,_,.cons r t,.cons r' t'=>by rw[r.inj r',Vals.inj t t']
section
variable {X:Cx} {pins:Y5} {σ:St} {H:Hp} {s:Zn} {a:Addr} {xs ys:List V}
theorem iA.of{K:Zc}(h:H a=some (.lst xs)):iA K H a xs:=.inl (.inl h)
theorem i8.of{K:Zc}(h:H a=some (.tup xs)):i8 K H a xs:=.inl (.inl h)
theorem Inv.list(I:Inv X pins σ H s)(h:iA X.K H a xs):∃a_:Zb,Vals xs a_/\PlainL s.heap a a_.toArray/\xs.length<=sizeLine:=by
 rcases h with h|⟨o,a_,n,hk,hc,hd,hs,hz,r⟩
 ·obtain⟨z,a_,n,r,e⟩:=h.ok I.hok;exact(a_,r,(_,n,e,rfl,rfl,rfl),z)
 ·refine(a_.toList,r,(o,n,I.u0 a o hk,hc,hd,by omega),?_);have e:=r.length
  grind
theorem Inv.tuple(I:Inv X pins σ H s)(h:i8 X.K H a xs):∃a_:Zb,Vals xs a_/\IsTup s.heap a a_.toArray/\xs.length<=sizeLine:=by
 rcases h with h|⟨o,a_,n,hk,hc,hs,hz,r⟩
 ·obtain⟨z,a_,r,p⟩:=h.ok I.hok
  grind
 ·refine(a_.toList,r,(o,I.u0 a o hk,hc,n,by omega),?_);have e:=r.length
  grind
theorem Inv.A7(I:Inv X pins σ H s)(h:iA X.K H a xs)(h':iA X.K H a ys):xs=ys:=by
 obtain⟨a_,r,⟨o,n,e,_,_,d⟩,_⟩:=I.list h;obtain⟨E_,r',⟨o',n',e',_,_,d'⟩,_⟩:=I.list h';rw[e]at e';cases e';have:a_=E_:=by grind
 subst this;exact r.inj r'
theorem Inv.yp(I:Inv X pins σ H s)(h:i8 X.K H a xs)(h':i8 X.K H a ys):xs=ys:=by
 obtain⟨a_,r,⟨o,e,_,n,d⟩,_⟩:=I.tuple h;obtain⟨E_,r',⟨o',e',_,n',d'⟩,_⟩:=I.tuple h';rw[e]at e';cases e';have:a_=E_:=by grind
 subst this;exact r.inj r'
end
abbrev Cx.xR(X:Cx)(E:Y4):Cx:={X with xe:=E}
abbrev Cx.Gi(X:Cx):Cx:=X.xR λ_ _=>False
theorem Cx.Ok.xR{X:Cx}(ok:X.Ok)(E:Y4):(X.xR E).Ok:=
 (ok.mod,ok.kind,ok.glob,ok.blt,ok.above,ok.inj,ok.has,ok.cab,ok.hd,ok.frames,ok.stk,ok.exf,ok.bs,ok.bsz,ok.noex,ok.exfs,ok.qw,ok.frf)
theorem Cx.Ok.mY{X:Cx}(ok:(X.xR E).Ok):X.Ok:=
 (ok.mod,ok.kind,ok.glob,ok.blt,ok.above,ok.inj,ok.has,ok.cab,ok.hd,ok.frames,ok.stk,ok.exf,ok.bs,ok.bsz,ok.noex,ok.exfs,ok.qw,ok.frf)
section
variable {X:Cx} {pins:Y5} {σ:St} {H:Hp} {s:Zn} {E:Y4}
theorem Inv.xR(I:Inv X pins σ H s)(E:Y4):Inv (X.xR E) pins σ H s:=(I.ok.xR E,I.os,I.bare,I.base,I.loc,I.cell,I.free,I.freeC,I.pin,I.hok,I.len)
theorem Inv.mY(I:Inv (X.xR E) pins σ H s):Inv X pins σ H s:=(I.ok.mY,I.os,I.bare,I.base,I.loc,I.cell,I.free,I.freeC,I.pin,I.hok,I.len)
theorem SP.mY(h:SP (X.xR E) pins D f s'):SP X pins D f s':=by
 cases f with
 |next=>obtain⟨j_,H',I,q⟩:=h;exact(j_,H',I.mY,q)
 |brk=>obtain⟨j_,H',I,q⟩:=h;exact(j_,H',I.mY,q)
 |cont=>obtain⟨j_,H',I,q⟩:=h;exact(j_,H',I.mY,q)
 |ret u=>obtain⟨v,j_,H',I,r,q⟩:=h;exact(v,j_,H',I.mY,r,q)
end
section
variable {X:Cx} {st:Stmt} {rest:List Stmt} {t u:TS} {e:Expr} {te:TE} {pos:Pos}
def QN:TS:=λD σ H=>D.nx σ H
def SU(t u:TS):TS:=λD σ H=>t {D with nx:=u D} σ H
theorem KO:A6 X [] QN:=λ_ _ σ H _ I h=>YI (σ,H,I,h)
theorem HC(h1:PS X st t)(h2:A6 X rest u):A6 X (st::rest) (SU t u):=by
 intro pins s σ H D I h;refine wpAny_execs_cons (bN (h1 pins s σ H {D with nx:=u D} I h) λf s1 q=>?_)
 cases f with
 |next=>obtain⟨j_,H',I',q⟩:=q;exact h2 pins s1 j_ H' D I' q
 |ret v=>exact q
 |brk=>exact q
 |cont=>exact q
theorem KP(h1:PS X st t):A6 X [st] t:=by
 intro pins s σ H D I h;refine wpAny_execs_cons (bN (h1 pins s σ H D I h) λf s1 q=>?_)
 cases f with
 |next=>exact YI q
 |ret v=>exact q
 |brk=>exact q
 |cont=>exact q
theorem Inv.quiet{σ:St}(I:Inv X pins σ H s):interactive X.env=false:=by simp[interactive,I.ok.kind]
def QO(te:TE):TS:=λD σ H=>te σ H λ_ H1=>D.nx σ H1
theorem KQ(he:PE X e te)(hs:swapsWith e none pos.line X.env=pure false:=by rfl):PS X (.Expr e pos) (QO te):=by intro pins s σ H D I h;exact wpAny_Expr_any (bN (he pins s σ H _ I h) (by rintro v s1 ⟨x,H1,I1,r1,q1⟩;exact(σ,H1,I1,q1))) I.quiet hs
def SV(te:TE):TS:=λD σ H=>te σ H D.rt
theorem N6(he:PE X e te):PS X (.Return (some e) pos) (SV te):=by intro pins s σ H D I h;exact wpAny_Return_some (bN (he pins s σ H _ I h) (by rintro v s1 ⟨x,H1,I1,r1,q1⟩;exact(x,σ,H1,I1,r1,q1)))
def SW(c:TT)(t u:TS):TS:=λD σ H=>c σ H λb H1=>if b=true then t D σ H1 else u D σ H1
theorem QP(hc:PT X c tc)(ha:A6 X a t)(hb:A6 X b u):PS X (.If c a b pos) (SW tc t u):=by
 intro pins s σ H D I h;refine wpAny_If (bN (hc pins s σ H _ I h) λd s1 ⟨H1,I1,q1⟩=>?_)
 cases d with
 |true=>exact ha pins s1 σ H1 D I1 q1
 |false=>exact hb pins s1 σ H1 D I1 q1
end
abbrev TG:=V->St->Hp->(St->Hp->Prop)->Prop
abbrev Qv:=List V->St->Hp->(St->Hp->Prop)->Prop
noncomputable def PG(X:Cx)(target:Expr)(t:TG):Prop:=
 ∀(pins:Y5) (s:Zn) (σ:St) (H:Hp) (v:V) (u:Value) (Q:St->Hp->Prop),Inv X pins σ H s->RelV v u->t v σ H Q ->
  wpAny (model X.prog X.w) X.A (assign target X.env u) (λ_ s'=>∃j_ H',Inv X pins j_ H' s'/\Q j_ H') X.xe s
noncomputable def Qw(X:Cx)(ts:Ze)(t:Qv):Prop:=
 ∀(pins:Y5) (s:Zn) (σ:St) (H:Hp) (vs:List V) (us:Zb) (Q:St->Hp->Prop),Inv X pins σ H s->Vals vs us->t vs σ H Q ->
  wpAny (model X.prog X.w) X.A (assignInOrder ((assignEach ts X.env).map (·.2)) us) (λ_ s'=>∃j_ H',Inv X pins j_ H' s'/\Q j_ H') X.xe s
abbrev QQ:=V->V->V->Hp->(Hp->Prop)->Prop
noncomputable def N7(X:Cx)(t:QQ):Prop:=
 ∀(pins:Y5) (s:Zn) (σ:St) (H:Hp) (o i v:V) (ov iv u:Value) (Q:Hp->Prop),Inv X pins σ H s->RelV o ov->RelV i iv->RelV v u->t o i v H Q ->
  wpAny (model X.prog X.w) X.A (setItem ov iv u) (λ_ s'=>∃H',Inv X pins σ H' s'/\Q H') X.xe s
abbrev SX:=V->V->Hp->VK->Prop
def Uj(X:Cx)(op:Operator)(t:SX):Prop:=
 ∀(pins:Y5) (s:Zn) (σ:St) (H:Hp) (x y:V) (v u:Value) (Q:VK),Inv X pins σ H s->RelV x v->RelV y u->t x y H Q ->
  wpAny (model X.prog X.w) X.A (inplaceOp op v u) (EP X pins σ Q) X.xe s
section
variable {X:Cx} {pos:Pos}
def af(i:Nat):TG:=λv σ H Q=>Q (σ.set i (some v)) H
theorem KR(hN:X.N.Nodup)(hi:X.N[i]?=some x)(hx:Loc X.env.scope x)(hf:X.fn x=true\/X.env.scope.names.lookup x=some .local:=by first|exact .inl rfl|exact .inr rfl|assumption):PG X (.Name x pos) (af i):=by intro pins s σ H v u Q I r h;exact Ye (iz I hN hi hx r (λs' I'=>(_,H,I',h)) hf)
def gn:Qv:=λvs σ H Q=>vs=[]/\Q σ H
def bA(t:TG)(u:Qv):Qv:=λvs σ H Q=>∃v r,vs=v::r/\t v σ H λj_ H'=>u r j_ H' Q
theorem KU:Qw X [] gn:=by intro pins s σ H vs us Q I r h;obtain⟨e,h⟩:=h;exact assignInOrder_nil (σ,H,I,h)
theorem HD(h1:PG X e t)(h2:Qw X es u)
 (hs:(assignEach (e::es) X.env).map (·.2)=assign e X.env::(assignEach es X.env).map (·.2):=by rfl):Qw X (e::es) (bA t u):=by
 intro pins s σ H vs us Q I r h;obtain⟨v,vr,e1,h⟩:=h;subst e1
 cases r with
 |cons r rr=>rw[hs];refine W0 (bN (h1 pins s σ H _ _ _ I r h) λ_ s1 ⟨σ1,H1,I1,q1⟩=>?_);exact h2 pins s1 σ1 H1 _ _ Q I1 rr q1
def iB(K:Zc)(n:Nat)(t:Qv):TG:=λv σ H Q=>∃a xs,v=.ref a/\i8 K H a xs/\xs.length=n/\t xs σ H Q
theorem HE{k:Nat}(hc:X.calm=true)(h:Qw X es t)
 (hn:(assignEach es X.env).length=n:=by rfl)(Zt:(assignEach es X.env).findIdx? (·.1)=none:=by rfl):PG X (.Tuple es k pos) (iB X.K n t):=by
 intro pins s σ H v u Q I r hw;obtain⟨a,xs,e1,hq,hl,hw⟩:=hw;subst e1;cases r;obtain⟨a_,rv,ht,hz⟩:=I.tuple hq;refine assign_Tuple_tuple (I.ok.hd hc) ht (by simp[hn,<- hl,rv.length]) Zt λh' hx=>?_;have I1:Inv X pins σ H {s with heap:=h'}:=I.kept λb o e=>hx b o (Vi (U6 e)) e;exact h pins _ σ H xs _ Q I1 #[1] hw
def pA(to ti:TE)(t:QQ):TG:=λv σ H Q=>to σ H λo H1=>ti σ H1 λi H2=>t o i v H2 λH3=>Q σ H3
theorem N8(ho:PE X o to)(hi:PE X i ti)(hs:N7 X t)
 (ha:∀v,assign (.Subscript o i pos) X.env v=(do
   let ov <- holding [v] (eval o X.env)
   let iv <- holding [v,ov] (eval i X.env)
   standAt pos
   holding [v,ov,iv] (setItem ov iv v)
   release [v,ov,iv] []):=by intro _;rfl):PG X (.Subscript o i pos) (pA to ti t):=by
 intro pins s σ H v u Q I r h;refine UY (VB (bN (ho pins s σ H _ I h) λov s1 ⟨x,H1,I1,r1,q1⟩=>?_));refine UY (VB (bN (hi pins s1 σ H1 _ I1 q1) λiv s2 ⟨y,H2,I2,r2,q2⟩=>?_));refine UY (V9 (UY (VB (bN (hs pins s2 σ H2 x y v ov iv u _ I2 r1 r2 r q2) λ_ s3 ⟨H3,I3,q3⟩=>?_))));exact wpAny_release (σ,H3,I3,q3)
def Dd(te:TE)(g:TG):TS:=λD σ H=>te σ H λx H1=>g x σ H1 D.nx
theorem HF(he:PE X e te)(hg:PG X tg g)(hs:swapsWithSole [tg] e pos.line X.env=pure false:=by rfl)(hw:swappedStores [tg] e X.env=pure none:=by rfl)
 (h1:(assignEach [tg] X.env).map (·.2)=[assign tg X.env]:=by rfl):PS X (.Assign [tg] e pos) (Dd te g):=by
 intro pins s σ H D I h;refine wpAny_Assign_stores (bN (he pins s σ H _ I h) λv s1 ⟨x,H1,I1,r1,q1⟩=>?_) hs hw;rw[h1];exact bN (hg pins s1 σ H1 x v _ I1 r1 q1) λ_ s2 q=>q
theorem N9(hN:X.N.Nodup)(hi:X.N[i]?=some x)(hx:Loc X.env.scope x)(he:PE X e te)(hs:swapsWith e (some (.Name x pos')) pos.line X.env=pure false:=by rfl)(hf:X.fn x=true\/X.env.scope.names.lookup x=some .local:=by first|exact .inl rfl|exact .inr rfl|assumption) :
  PS X (.Assign [.Name x pos'] e pos) (Dd te (af i)):=by
 intro pins s σ H D I h;refine wpAny_Assign_Name (bN (he pins s σ H _ I h) λv s1 ⟨y,H1,I1,r1,q1⟩=>?_) hs;exact iz I1 hN hi hx r1 (λs2 I2=>(_,H1,I2,q1)) hf
def QR(i j:Nat)(ta:TA):TS:=λD σ H=>ta σ H λvs H1=>∃v w,vs=[v,w]/\D.nx ((σ.set i (some v)).set j (some w)) H1
theorem Oa(hc:X.calm=true)(hN:X.N.Nodup)(hi:X.N[i]?=some x)(hj:X.N[j]?=some y)(J_:i≠j)
 (hx:X.env.scope.names.lookup x=some .local)(hy:X.env.scope.names.lookup y=some .local)(ha:PA X [a,b] ta)
 (hw:swappedStores [.Tuple [.Name x px,.Name y py] kt pt] (.Tuple [a,b] k2 Zs) X.env=pure (some [x,y]))
 (hs:swapsWithSole [.Tuple [.Name x px,.Name y py] kt pt] (.Tuple [a,b] k2 Zs) pos.line X.env=pure false:=by rfl) :
  PS X (.Assign [.Tuple [.Name x px,.Name y py] kt pt] (.Tuple [a,b] k2 Zs) pos) (QR i j ta):=by
 intro pins s σ H D I h;rw[exec_Assign_arm];refine UY (V9 ?_);rw[hs];refine UY (UZ ?_);rw[if_neg (by decide)];refine UY (Tuple_ (bN (ha _ pins s σ H _ I h) λus s1 ⟨vs,H1,I1,r1,q1⟩=>?_));obtain⟨v,w,e1,q1⟩:=q1;subst e1
 obtain⟨u1,u2,rfl,rv,Zr⟩:∃u1 u2,us=[u1,u2]/\RelV v u1/\RelV w u2:=by
  cases r1 with
  |cons p q=>
   cases q with
   |cons p' q'=>cases q';exact(_,_,rfl,p,p')
 refine VD ?_ (by show 2<=sizeLine;decide);have I2:Inv X pins σ H1 {s1 with heap:=s1.heap.push {cls:=.type "tuple",data:=.seq [u1,u2].toArray}}:=I1.kept (t':=s1.toks) λb o e=>U0 _ e;rw[hw];refine UY (UZ ?_);show wpAny (model X.prog X.w) X.A (do rule "assign.swapped-stores";let items <- unpackItems (.ref s1.heap.objs.size) 2 none;assignInOrder [λv=>bindName X.env y v,λv=>bindName X.env x v] items.reverse;pure Flow.next) _ _ _;refine UY (WG (UY (unpackItems_tuple (items:=#[u1,u2]) (I.ok.hd hc) (IsTup.new s1.heap _) λh' UF=>?_)));have I3:=I2.kept (h':=h') (t':=s1.toks) λb o e=>UF b o (Vi (U6 e)) e;show wpAny _ _ (assignInOrder [λv=>bindName X.env y v,λv=>bindName X.env x v] [u2,u1] >>= λ_=>pure Flow.next) _ _ _;refine UY (W0 (Yr (iz I3 hN hj (.inl hy) Zr (λs2 I4=>?_) (.inr hy))));refine W0 (Yr (iz I4 hN hi (.inl hx) rv (λs3 I5=>assignInOrder_nil (UZ ?_)) (.inr hx)));rw[YY _ _ (X4 J_)]at I5;exact(_,H1,I5,q1)
def SY(i:Nat)(te:TE)(ti:SX):TS:=λD σ H=>∃x,σ[i]?=some (some x)/\te σ H λy H1=>ti x y H1 λz H2=>D.nx (σ.set i (some z)) H2
theorem Oc(hN:X.N.Nodup)(hi:X.N[i]?=some x)(hx:Loc X.env.scope x)(he:PE X e te)(ho:Uj X op ti)(hf:X.fn x=true\/X.env.scope.names.lookup x=some .local:=by first|exact .inl rfl|exact .inr rfl|assumption) :
  PS X (.AugAssign (.Name x pos') op e pos) (SY i te ti):=by
 intro pins s σ H D I h;obtain⟨v,e1,h⟩:=h;obtain⟨m,hn,hl⟩:=I.loc;have vis:Hx X.env.scope x:=by rcases hx with k|k;exact .inl k;exact .inr (.inl k)
 obtain⟨u,r,l⟩:=hl i x v hi e1 vis;refine wpAny_AugAssign_Name ?_;have go:wpAny (model X.prog X.w) X.A (eval e X.env) (λw z_=>wpAny (model X.prog X.w) X.A (inplaceOp op u w) (λr s₃=>wpAny (model X.prog X.w) X.A (storeName X.env x r) (λ_=>SP X pins D .next) X.xe s₃) X.xe z_) X.xe s:=by refine bN (he pins s σ H _ I h) λw s1 ⟨y,H1,I1,r1,q1⟩=>?_;refine bN (ho pins s1 σ H1 v y u w _ I1 r r1 q1) λz s2 ⟨zv,H2,I2,r2,q2⟩=>?_;exact iz I2 hN hi hx r2 (λs3 I3=>(_,H2,I3,q2)) hf
 rcases l with⟨hk,hm⟩|⟨hk,c,hc,GM⟩
 ·exact YD I.ok.kind hk hn hm go
 ·rcases hk with hk|hk
  ·exact YH I.ok.kind hk hc GM go
  ·rcases hx with k|k
   ·have:X.env.scope.names.lookup x=some .free:=hk;rw[k]at this;cases this
   ·have:X.env.scope.names.lookup x=some .free:=hk;rw[k]at this;cases this
def UG(f:Int->Int->Int):SX:=λx y H Q=>∃i j,x=.int i/\y=.int j/\Q (.int (f i j)) H
theorem Od:Uj X .Sub (UG λi j=>i-j):=by intro pins s σ H x y v u Q I r1 r2 h;obtain⟨i,j,e1,e2,q⟩:=h;subst e1;subst e2;obtain⟨t,rfl⟩:=r1;obtain⟨t',rfl⟩:=r2;exact isub_int (.int _,H,I.tok _,(_,rfl),q)
end
section
variable {X:Cx} {pos:Pos}
def Oe(c:TT)(tb:TS):TS:=λD σ H=>∃W:Nat->St->Hp->Prop,(∃m,W m σ H)/\∀m σ H,W m σ H ->
 c σ H λb H1=>if b=true then ∃N:St->Hp->Prop,(∀j_ H',N j_ H'->∃m',m'<m/\W m' j_ H')/\tb {D with nx:=N,ct:=N,bk:=D.nx} σ H1 else D.nx σ H1
theorem HG(hp:PassesOwn (model X.prog X.w) X.A X.env X.xe)(hc:PT X c tc)(hb:A6 X body tb):PS X (.While c body [] pos) (Oe tc tb):=by
 intro pins s σ H D I h;obtain⟨W,⟨m0,w0⟩,turn⟩:=h;refine wpAny_While (codeAny_whileLoop (λn s'=>∃j_ H',Inv X pins j_ H' s'/\W n j_ H') ?_ m0 (σ,H,I,w0));rintro n s1 ⟨σ1,H1,I1,w1⟩;refine Xb hp (bN (hc pins s1 σ1 H1 _ I1 (turn n σ1 H1 w1)) λb s2 ⟨H2,I2,q2⟩=>?_)
 cases b with
 |true=>
  obtain⟨N,hN,q2⟩:=q2;rw[if_pos rfl];refine Xb hp (bN (hb pins s2 σ1 H2 _ I2 q2) λf s3 q3=>?_)
  cases f with
  |next=>obtain⟨FM,H3,I3,n3⟩:=q3;obtain⟨m',hm,w3⟩:=hN FM H3 n3;exact(m',hm,FM,H3,I3,w3)
  |cont=>obtain⟨FM,H3,I3,n3⟩:=q3;obtain⟨m',hm,w3⟩:=hN FM H3 n3;exact(m',hm,FM,H3,I3,w3)
  |brk=>exact q3
  |ret v=>exact q3
 |false=>rw[if_neg Vv];exact YI (σ1,H2,I2,q2)
end
structure It where
 go:Nat->Hp->Prop
 yld:Nat->Hp->V->Hp->Prop
 stop:Nat->Hp->Prop
def jT(X:Cx)(pins:Y5)(H:Hp)(b:Addr):Prop:=
 H b=none/\b≠X.env.locals/\b∉X.fs/\(b∈X.ex\/X.s₀.heap.objs.size<=b)/\(∀x c,X.env.cells.lookup x=some c->c≠b)/\∀p∈X.pn++pins,p.1≠b
theorem Inv.Gj{σ:St}{b:Addr}(I:Inv X pins σ H s)(hb:s.heap.objs.size<=b)(hn:H' b=none):jT X pins H' b:=by
 refine(hn,XC (Vf I.lt hb),I.NW hb,.inr (U8 I.sz hb),λx c e z=>?_,λp hp z=>?_)
 ·obtain⟨v,q⟩:=I.cell x c e;exact absurd (Vf q.lt (by simp_all)) (VE _)
 ·exact absurd (Vf (U6 (I.pin p hp).1) (by simp_all)) (VE _)
structure Turn(P:Zj)(w:World)(K:Zc)(tg:Expr)(J:It)(fp:Za)(it:Addr)(tn:Nat->Heap->Prop):Prop where
 mem:it∈fp
 obj:∀i h,tn i h->∀b∈fp,∃o,h.get? b=some o/\∀v,o.data≠.cell v
 keep:∀i h h',tn i h->(∀b∈fp,∀o,h.get? b=some o->h'.get? b=some o)->tn i h'
 item:∀(X:Cx),X.prog=P->X.w=w->X.K=K->X.calm=true->∀(i:Nat) (pins:Y5) (s:Zn) (σ:St) (H:Hp) (E:Y4),Inv X pins σ H s->(∀b∈fp,jT X pins H b)->tn i s.heap->J.go i H ->
  wpAny (model P w) X.A (pyNext (.ref it)) (λr s1=>∃u,r=some u /\
   wpAny (model P w) X.A (letOwnedTupleGo tg (.ref it) u) (λ_ s2=>∃x H',Inv X pins σ H' s2/\RelV x u/\J.yld i H x H'/\tn (i+1) s2.heap/\∀b∈fp,H' b=none) E s1) E s
 done:∀(X:Cx),X.prog=P->X.w=w->X.K=K->X.calm=true->∀(i:Nat) (pins:Y5) (s:Zn) (σ:St) (H:Hp) (E:Y4),Inv X pins σ H s->(∀b∈fp,jT X pins H b)->tn i s.heap->J.stop i H ->
  wpAny (model P w) X.A (pyNext (.ref it)) (λr s1=>r=none/\Inv X pins σ H s1) E s
 self:∀(A:Zm) (i:Nat) (s:Zn) (Q:Y4) (E:Y4),tn i s.heap->Q (.ref it) s->wpAny (model P w) A (pyIter (.ref it)) Q E s
abbrev TI:=St->Hp->(It->Hp->Prop)->Prop
noncomputable def Uk(X:Cx)(pins:Y5)(σ:St)(tg:Expr)(R:It->Hp->Prop)(Z5:Value)(s2:Zn):Prop:=
 ∃(it:Addr) (fp:Za) (tn:Nat->Heap->Prop) (J:It) (H':Hp),Z5=.ref it/\Inv X pins σ H' s2/\Turn X.prog X.w X.K tg J fp it tn/\tn 0 s2.heap/\(∀b∈fp,jT X pins H' b)/\R J H'
noncomputable def PI(X:Cx)(tg iter:Expr)(wi:TI):Prop:=
 ∀(pins:Y5) (s:Zn) (σ:St) (H:Hp) (R:It->Hp->Prop),Inv X pins σ H s->wi σ H R ->
  wpAny (model X.prog X.w) X.A (eval iter X.env) (λv s1=>wpAny (model X.prog X.w) X.A (pyIter v) (Uk X pins σ tg R) X.xe s1) X.xe s
theorem EI(ho:s.heap.get? it=some o)(hc:o.cls=.type n)(hd:o.data=.fields vs)
 (hn:["enumerate", "zip", "dict_itemiterator", "dict_reverseitemiterator", "odict_iterator", "itertools.zip_longest", "itertools.pairwise"].contains n=false)(hQ:Q () s):wpAny M A (letOwnedTupleGo tg (.ref it) u) Q E s:=by
 unfold letOwnedTupleGo
 cases tg<;>first
  |exact UZ hQ
  | (cases u<;>first
    |exact UZ hQ
    | (refine UY (Yf ho ?_)
       rw[hc,hd];show wpAny M A (if(["enumerate", "zip", "dict_itemiterator", "dict_reverseitemiterator", "odict_iterator", "itertools.zip_longest", "itertools.pairwise"].contains n&&vs[0]? == some (rawInt _))=true then _ else _) Q E s;rw[if_neg (by intro h;rw[hn,XQ]at h;cases h)]
       exact UZ hQ))
def Qx(K:Zc)(a:Addr):It:=
 (λi H=>∃xs x,iA K H a xs/\xs[i]?=some x,λi H x H'=>H'=H/\∀xs,iA K H a xs->xs[i]?=some x,λi H=>∃xs,iA K H a xs/\xs.length<=i)
def Se(K:Zc)(a:Addr):It:=
 (λi H=>∃xs x,i8 K H a xs/\xs[i]?=some x,λi H x H'=>H'=H/\∀xs,i8 K H a xs->xs[i]?=some x,λi H=>∃xs,i8 K H a xs/\xs.length<=i)
def Sf(lo:Int)(n:Nat):It:=(λi _=>i<n,λi H x H'=>H'=H/\x=.int (lo+i),λi _=>n<=i)
theorem Gk{K:Zc}(a it:Addr):Turn P w K tg (Qx K a) [it] it (λi h=>h.IsListIter it a i) where
 mem:=by simp
 obj:=λi h st b hb=>by
  have e:b=it:=by grind
  subst e;obtain⟨o,e,c,d⟩:=st
  grind
 keep:=λi h h' st k=>st.at λo e=>k it (by simp) o e
 item:=by intro X hP hw hK hc i pins s σ H E I hf st hg;subst hP hw hK;obtain⟨xs,x,hq,hx⟩:=hg;obtain⟨a_,rv,p,hz⟩:=I.list hq;obtain⟨u,hu,ru⟩:=rv.get hx;obtain⟨f0,f1,f2,f3,f4,f5⟩:=hf it (by simp);refine wpAny_pyNext_list_item st p.isList (x:=u) (by simpa using hu) λh' O_ sb=>?_;have I1:Inv X pins σ H {s with heap:=h'}:=I.turned (t':=s.toks) (λb o hb e=>(sb.2 b hb).trans e) f0 f1 f3 f4 f5;obtain⟨o,e,c,d⟩:=id O_;exact(u,rfl,EI (s:={s with heap:=h'}) e c d (by decide) (x,H,I1,ru,(rfl,λys hy=>by rw[I.A7 hy hq];exact hx),O_,λb hb=>(hf b hb).1))
 done:=by intro X hP hw hK hc i pins s σ H E I hf st hg;subst hP hw hK;obtain⟨xs,hq,hx⟩:=hg;obtain⟨a_,rv,p,hz⟩:=I.list hq;obtain⟨f0,f1,f2,f3,f4,f5⟩:=hf it (by simp);have hl:=rv.length;exact wpAny_pyNext_list_end (I.ok.hd hc) st p.isList (by simp;omega) λh' eb=>(rfl,I.turned (t':=s.toks) (λb o hb e=>eb b o hb e) f0 f1 f3 f4 f5)
 self:=λ_ _ _ _ _ st h=>wpAny_pyIter_listiter st h
theorem De{K:Zc}(a it:Addr):Turn P w K tg (Se K a) [it] it (λi h=>h.IsTupleIter it a i) where
 mem:=by simp
 obj:=λi h st b hb=>by
  have e:b=it:=by grind
  subst e;obtain⟨o,e,c,d⟩:=st
  grind
 keep:=λi h h' st k=>st.at λo e=>k it (by simp) o e
 item:=by intro X hP hw hK hc i pins s σ H E I hf st hg;subst hP hw hK;obtain⟨xs,x,hq,hx⟩:=hg;obtain⟨a_,rv,p,hz⟩:=I.tuple hq;obtain⟨u,hu,ru⟩:=rv.get hx;obtain⟨f0,f1,f2,f3,f4,f5⟩:=hf it (by simp);refine wpAny_pyNext_tuple_item st (show s.heap.IsTuple a a_.toArray from p) (x:=u) (by simpa using hu) λh' O_ sb=>?_;have I1:Inv X pins σ H {s with heap:=h'}:=I.turned (t':=s.toks) (λb o hb e=>(sb.2 b hb).trans e) f0 f1 f3 f4 f5;obtain⟨o,e,c,d⟩:=id O_;exact(u,rfl,EI (s:={s with heap:=h'}) e c d (by decide) (x,H,I1,ru,(rfl,λys hy=>by rw[I.yp hy hq];exact hx),O_,λb hb=>(hf b hb).1))
 done:=by intro X hP hw hK hc i pins s σ H E I hf st hg;subst hP hw hK;obtain⟨xs,hq,hx⟩:=hg;obtain⟨a_,rv,p,hz⟩:=I.tuple hq;obtain⟨f0,f1,f2,f3,f4,f5⟩:=hf it (by simp);have hl:=rv.length;exact wpAny_pyNext_tuple_end (I.ok.hd hc) st (show s.heap.IsTuple a a_.toArray from p) (by simp;omega) λh' eb=>(rfl,I.turned (t':=s.toks) (λb o hb e=>eb b o hb e) f0 f1 f3 f4 f5)
 self:=λ_ _ _ _ _ st h=>wpAny_pyIter_tupleiter st h
theorem Dg{K:Zc}(it:Addr)(lo:Int)(n:Nat):Turn P w K tg (Sf lo n) [it] it (λi h=>IsRangeIter h it (lo+(i:Nat)*1) ((n:Int)-(i:Nat)) 1) where
 mem:=by simp
 obj:=λi h st b hb=>by
  grind
 keep:=λi h h' st k=>k it (by simp) _ st
 item:=by intro X hP hw hK hc i pins s σ H E I hf st hg;subst hP hw hK;obtain⟨f0,f1,f2,f3,f4,f5⟩:=hf it (by simp);have W:=Walks.range (prog:=X.prog) (w:=X.w) (I.ok.hd hc) it lo 1 n;refine W.item i s _ _ hg st λv h' tk hv O_ kk=>?_;obtain⟨t,rfl⟩:=hv;have I1:Inv X pins σ H {s with heap:=h',toks:=tk}:=I.turned (λb o hb e=>kk b o (by simpa using hb) e) f0 f1 f3 f4 f5;refine(_,rfl,EI (s:={s with heap:=h',toks:=tk}) (n := "range_iterator") O_ rfl rfl (by decide) (.int (lo+i),H,I1,(t,?_),(rfl,rfl),O_,λb hb=>(hf b hb).1));rw[Int.mul_one]
 done:=by intro X hP hw hK hc i pins s σ H E I hf st hg;subst hP hw hK;obtain⟨f0,f1,f2,f3,f4,f5⟩:=hf it (by simp);exact wpAny_pyNext_range_end (I.ok.hd hc) st (by have:n<=i:=hg;omega) λh' eb=>(rfl,I.turned (t':=s.toks) (λb o hb e=>eb b o hb e) f0 f1 f3 f4 f5)
 self:=λ_ _ _ _ _ st h=>wpAny_pyIter_rangeiter st h
section
variable {X:Cx} {tg:Expr}
def QS(K:Zc)(tl:TE):TI:=λσ H R=>tl σ H λx H1=>∃a,x=.ref a/\(∃xs,iA K H1 a xs)/\R (Qx K a) H1
def S5(K:Zc)(tl:TE):TI:=λσ H R=>tl σ H λx H1=>∃a,x=.ref a/\(∃xs,i8 K H1 a xs)/\R (Se K a) H1
theorem EJ(hl:PE X l tl):PI X tg l (QS X.K tl):=by
 intro pins s σ H R I h;refine bN (hl pins s σ H _ I h) λv s1 ⟨x,H1,I1,r1,q1⟩=>?_;obtain⟨a,e,⟨xs,hq⟩,q⟩:=q1;subst e;cases r1;obtain⟨a_,rv,p,hz⟩:=I1.list hq;refine Xd p.isList ?_;refine(s1.heap.objs.size,[s1.heap.objs.size],_,_,H1,rfl,I1.kept λb o e=>U0 _ e,Gk a _,(_,U5 _ rfl,rfl,rfl),λb hb=>?_,q);have e:b=s1.heap.objs.size:=by grind
 subst e;exact I1.Gj (U4 _) (I1.hok.fresh (U4 _))
theorem HH(hl:PE X l tl):PI X tg l (S5 X.K tl):=by
 intro pins s σ H R I h;refine bN (hl pins s σ H _ I h) λv s1 ⟨x,H1,I1,r1,q1⟩=>?_;obtain⟨a,e,⟨xs,hq⟩,q⟩:=q1;subst e;cases r1;obtain⟨a_,rv,p,hz⟩:=I1.tuple hq;refine X5 p ?_;refine(s1.heap.objs.size,[s1.heap.objs.size],_,_,H1,rfl,I1.kept λb o e=>U0 _ e,De a _,(_,U5 _ rfl,rfl,rfl),λb hb=>?_,q);have e:b=s1.heap.objs.size:=by grind
 subst e;exact I1.Gj (U4 _) (I1.hok.fresh (U4 _))
theorem HI{σ:St}{lo hi:Int}(I:Inv X pins σ H s)(h1:-(2^62)<=lo)(h2:lo<2^62)(h3:-(2^62)<=hi)(h4:hi<2^62)
 (q:R (Sf lo (hi-lo).toNat) H):wpAny (model X.prog X.w) X.A (pyIter (.ref s.heap.objs.size)) (Uk X pins σ tg R) E {s with heap:=s.heap.push {cls:=.type "range",data:=.fields #[.int lo t,.int hi u,.int 1 v]},toks:=tk}:=by
 refine wpAny_pyIter_range (IsRange.new ..) (small_one h1 h2 h3 h4) ?_;have I1:Inv X pins σ H {s with heap:=s.heap.push {cls:=.type "range",data:=.fields #[.int lo t,.int hi u,.int 1 v]},toks:=tk}:=I.kept λb o e=>U0 _ e
 refine((s.heap.push {cls:=.type "range",data:=.fields #[.int lo t,.int hi u,.int 1 v]}).objs.size,[(s.heap.push {cls:=.type "range",data:=.fields #[.int lo t,.int hi u,.int 1 v]}).objs.size],_,_,H,rfl,
  I1.kept (t':=tk) λb o e=>U0 _ e,Dg _ lo (hi-lo).toNat,?_,λb hb=>?_,q)
 ·have e1:lo+((0:Nat):Int)*1=lo:=by simp
  have e2:(((hi-lo).toNat:Nat):Int)-((0:Nat):Int)=Builtin.Range.rangeSize lo hi 1:=by grind[rangeSize_one]
  rw[e1,e2];exact U5 _ rfl
 ·have e:b=(s.heap.push {cls:=.type "range",data:=.fields #[.int lo t,.int hi u,.int 1 v]}).objs.size:=by grind
  subst e;exact I1.Gj (U4 _) (I1.hok.fresh (U4 _))
def QT(ta:TA):TI:=λσ H R=>ta σ H λvs H1=>∃j:Int,vs=[.int j]/\-(2^62)<=j/\j<2^62/\R (Sf 0 j.toNat) H1
theorem Gm(hg:Gl X "range")(hm:X.mg "range" = none)(ha:PA X [a] ta)(hs:starEach [a] X.env=[(false,eval a X.env)]:=by rfl):PI X tg (.Call (.Name "range" p) [a] [] pos) (QT ta):=by
 intro pins s σ H R I h;refine Call_ (mW I hg hm boot_range (WR (bN (ha pos pins s σ H _ I h) λus s1 ⟨vs,H1,I1,r1,q1⟩=>?_) hs rfl));obtain⟨j,e,q1,q2,q⟩:=q1;subst e
 cases r1 with
 |cons r rr=>cases rr;obtain⟨t,rfl⟩:=r;exact call_range_1 (HI I1 #[1] #[1] q1 q2 (by grind))
noncomputable def S6(wi:TI)(g:TG)(tb:TS):TS:=λD σ H=>wi σ H λJ H1=>∃W:Nat->Nat->St->Hp->Prop,(∃m,W 0 m σ H1)/\∀i m σ H,W i m σ H ->
 (J.stop i H/\D.nx σ H)\/(J.go i H/\∃N:St->Hp->Prop,(∀j_ H',N j_ H'->∃m',m'<m/\W (i+1) m' j_ H')/\∀x H',J.yld i H x H'->g x σ H' λw_ H2=>tb {D with nx:=N,ct:=N,bk:=D.nx} w_ H2)
def gU(fp:Za)(h:Heap):Y5:=fp.filterMap λb=>(h.get? b).map λo=>(b,o)
theorem df(hb:b∈fp)(e:h.get? b=some o):(b,o)∈gU fp h:=Xy.mpr (b,hb,by grind)
theorem oz(hp:p∈gU fp h):p.1∈fp/\h.get? p.1=some p.2:=by
 obtain⟨b,hb,e⟩:=Xy.mp hp
 cases q:h.get? b with
 |none=>grind
 |some o=>
  rw[q]at e;have e'  := Wm e
  grind
theorem Inv.pinned{σ:St}(I:Inv X pins σ H s)(hf:∀b∈fp,jT X pins H b)(ho:∀b∈fp,∃o,s.heap.get? b=some o/\∀v,o.data≠.cell v):Inv X (pins++gU fp s.heap) σ H s:=
 I.ic λp hp=>(Vd.mp hp).elim (λz=>I.pin p (U3 _ z)) λz=>by
  obtain⟨hb,e⟩:=oz z;obtain⟨f0,f1,f2,_⟩:=hf p.1 hb
  grind
theorem Inv.kM{σ:St}(I:Inv X (pins++pl) σ H s):Inv X pins σ H s:=I.ic λp hp=>I.pin p (U3 _ (Vr _ hp))
theorem HJ(hp:PassesOwn (model X.prog X.w) X.A X.env X.xe)(hc:X.calm=true)(hi:PI X tg iter wi)(hg:PG X tg g)(hb:A6 X body tb)
 (hs:∀x,foldedSetIterable iter X.env x=pure x:=by intro _;rfl):PS X (.For tg iter body [] pos) (S6 wi g tb):=by
 intro pins s σ H D I h;refine wpAny_For (bN (hi pins s σ H _ I h) λv s1 h1=>bN h1 λZ5 s2 h2=>?_) hs;obtain⟨it,fp,tn,J,H2,e,I2,T,FB,f2,W,⟨m0,w0⟩,turn⟩:=h2;subst e;have SL:∀{H':Hp},(∀b∈fp,H' b=none)->∀b∈fp,jT X pins H' b:=λhn b hb=>(hn b hb,(f2 b hb).2);refine codeAny_forLoop_any (λn s'=>∃i j_ H',Inv X pins j_ H' s'/\tn i s'.heap/\(∀b∈fp,H' b=none)/\W i n j_ H') ?_ m0 (0,σ,H2,I2,FB,λb hb=>(f2 b hb).1,w0);rintro n s3 ⟨i,FM,H3,I3,st3,SC,w3⟩;rcases turn i n FM H3 w3 with⟨stop,qn⟩|⟨go,N,hN,step⟩
 ·refine Xb hp (bN (T.done X rfl rfl rfl hc i pins s3 FM H3 X.xe I3 (SL SC) st3 stop) λr s4 ⟨hr,I4⟩=>?_);subst hr;exact YI (FM,H3,I4,qn)
 ·refine Xb hp (bN (T.item X rfl rfl rfl hc i pins s3 FM H3 X.xe I3 (SL SC) st3 go) λr s4 ⟨u,hr,h4⟩=>?_);subst hr;refine Xb hp (bN h4 λ_ s5 ⟨x,H5,I5,r5,y5,st5,N_⟩=>?_);have I5':=I5.pinned (SL N_) (T.obj _ _ st5);refine Xb hp (bN (hg _ s5 FM H5 x u _ I5' r5 (step x H5 y5)) λ_ s6 ⟨G_,H6,I6,q6⟩=>?_);refine Xb hp (bN (hb _ s6 G_ H6 _ I6 q6) λf s7 q7=>?_);have again:∀{ZC:St} {H7:Hp},Inv X (pins++gU fp s5.heap) ZC H7 s7->N ZC H7->∃m,m<n/\∃i j_ H',Inv X pins j_ H' s7/\tn i s7.heap/\(∀b∈fp,H' b=none)/\W i m j_ H':=λ{ZC H7} I7 n7=>by obtain⟨m',hm,w7⟩:=hN ZC H7 n7;refine(m',hm,i+1,ZC,H7,I7.kM,T.keep _ _ _ st5 λb hb o e=>(I7.pin (b,o) (U3 _ (U3 _ (df hb e)))).1,λb hb=>?_,w7);obtain⟨o,e,d⟩:=T.obj _ _ st5 b hb;exact(I7.pin (b,o) (U3 _ (U3 _ (df hb e)))).2.1
  cases f with
  |next=>obtain⟨ZC,H7,I7,n7⟩:=q7;exact again I7 n7
  |cont=>obtain⟨ZC,H7,I7,n7⟩:=q7;exact again I7 n7
  |brk=>obtain⟨ZC,H7,I7,q7⟩:=q7;exact(ZC,H7,I7.kM,q7)
  |ret v=>obtain⟨x7,ZC,H7,I7,r7,q7⟩:=q7;exact(x7,ZC,H7,I7.kM,r7,q7)
end
abbrev R2:=V->V->Hp->VK->Prop
def jU(X:Cx)(f:Value->Value->Sem Value)(r:R2):Prop:=
 ∀(pins:Y5) (s:Zn) (σ:St) (H:Hp) (x y:V) (v u:Value) (Q:VK),Inv X pins σ H s->RelV x v->RelV y u->r x y H Q ->
  wpAny (model X.prog X.w) X.A (f v u) (EP X pins σ Q) X.xe s
def S7(X:Cx)(f:Value->Sem Value)(r:V->Hp->VK->Prop):Prop:=
 ∀(pins:Y5) (s:Zn) (σ:St) (H:Hp) (x:V) (v:Value) (Q:VK),Inv X pins σ H s->RelV x v->r x H Q ->
  wpAny (model X.prog X.w) X.A (f v) (EP X pins σ Q) X.xe s
def dB(X:Cx)(f:Value)(r:List V->Hp->VK->Prop):Prop:=
 ∀(pins:Y5) (s:Zn) (σ:St) (H:Hp) (xs:List V) (us:Zb) (Q:VK),Inv X pins σ H s->Vals xs us->r xs H Q ->
  wpAny (model X.prog X.w) X.A (call f us) (EP X pins σ Q) X.xe s
def Of(X:Cx)(r:V->Hp->(Bool->Hp->Prop)->Prop):Prop:=
 ∀(pins:Y5) (s:Zn) (σ:St) (H:Hp) (x:V) (v:Value) (Q:Bool->Hp->Prop),Inv X pins σ H s->RelV x v->r x H Q ->
  wpAny (model X.prog X.w) X.A (truthy v) (TP X pins σ Q) X.xe s
def QU(r:R2)(ta tb:TE):TE:=λσ H Q=>ta σ H λx H1=>tb σ H1 λy H2=>r x y H2 Q
def UH(r:V->Hp->VK->Prop)(ta:TE):TE:=λσ H Q=>ta σ H λx H1=>r x H1 Q
def rI(C:Int->Int->Prop)(g:Int->Int->V):R2:=λx y H Q=>∃i j,x=.int i/\y=.int j/\C i j/\Q (g i j) H
def Og(g:Int->Int->V):R2:=λx y H Q=>∃i j,x=.int i/\y=.int j/\Q (g i j) H
def rU(g:Int->V):V->Hp->VK->Prop:=λx H Q=>∃i,x=.int i/\Q (g i) H
section
variable {X:Cx} {a b c:Expr} {ta tb tc:TE} {pos:Pos}
theorem Oh(ha:PE X a ta)(hb:PE X b tb){σ:St}{R:V->V->Hp->Prop}(I:Inv X pins σ H s)
 (h:ta σ H λx H1=>tb σ H1 λy H2=>R x y H2){f:Value->Value->Sem Value}
 (hf:∀v u s2 x y H2,Inv X pins σ H2 s2->RelV x v->RelV y u->R x y H2->wpAny (model X.prog X.w) X.A (f v u) Q X.xe s2) :
  wpAny (model X.prog X.w) X.A (eval a X.env) (λv f_=>wpAny (model X.prog X.w) X.A (eval b X.env) (λu z_=>wpAny (model X.prog X.w) X.A (f v u) Q X.xe z_) X.xe f_) X.xe s:=by
 refine bN (ha pins s σ H _ I h) λv s1 ⟨x,H1,I1,r1,q1⟩=>?_;refine bN (hb pins s1 σ H1 _ I1 q1) λu s2 ⟨y,H2,I2,r2,q2⟩=>?_;exact hf v u s2 x y H2 I2 r1 r2 q2
theorem Nh(ho:jU X (binaryOp op) r)(ha:PE X a ta)(hb:PE X b tb):PE X (.BinOp a op b pos) (QU r ta tb):=by intro pins s σ H Q I h;exact wpAny_BinOp (Oh ha hb I h λv u s2 x y H2 I2 rx ry q=>ho pins s2 σ H2 x y v u Q I2 rx ry q)
theorem QV(ho:S7 X (unaryOp op) r)(ha:PE X a ta):PE X (.UnaryOp op a pos) (UH r ta):=by intro pins s σ H Q I h;exact UnaryOp_ (bN (ha pins s σ H _ I h) (by rintro v s1 ⟨x,H1,I1,r1,q1⟩;exact ho pins s1 σ H1 x v Q I1 r1 q1))
theorem Sg{g:Int->Int->Int}
 (rule:∀(i j:Int) (t u:Tok) (s:Zn) (Q:Y4) (E:Y4),C i j->Q (.int (g i j) s.toks) {s with toks:=s.toks+1}->wpAny (model X.prog X.w) X.A (f (.int i t) (.int j u)) Q E s) :
  jU X f (rI C λi j=>.int (g i j)):=by
 intro pins s σ H x y v u Q I rx ry h;obtain⟨i,j,rfl,rfl,hc,q⟩:=h;obtain⟨t,rfl⟩:=rx;obtain⟨t',rfl⟩:=ry;exact rule i j t t' s _ _ hc (.int _,H,I.tok _,(_,rfl),q)
theorem QW{g:Int->Int->Int}
 (rule:∀(i j:Int) (t u:Tok) (s:Zn) (Q:Y4) (E:Y4),Q (.int (g i j) s.toks) {s with toks:=s.toks+1}->wpAny (model X.prog X.w) X.A (f (.int i t) (.int j u)) Q E s) :
  jU X f (Og λi j=>.int (g i j)):=by
 intro pins s σ H x y v u Q I rx ry h;obtain⟨i,j,rfl,rfl,q⟩:=h;obtain⟨t,rfl⟩:=rx;obtain⟨t',rfl⟩:=ry;exact rule i j t t' s _ _ (.int _,H,I.tok _,(_,rfl),q)
theorem QX{g:Int->Int->Bool}
 (rule:∀(i j:Int) (t u:Tok) (s:Zn) (Q:Y4) (E:Y4),Q (.bool (g i j)) s->wpAny (model X.prog X.w) X.A (f (.int i t) (.int j u)) Q E s) :
  jU X f (Og λi j=>.bl (g i j)):=by
 intro pins s σ H x y v u Q I rx ry h;obtain⟨i,j,rfl,rfl,q⟩:=h;obtain⟨t,rfl⟩:=rx;obtain⟨t',rfl⟩:=ry;exact rule i j t t' s _ _ (.bl _,H,I,rfl,q)
def QY(i j:Int):Prop:=0<j/\j<1073741824
def S8(i j:Int):Prop:=0<=j/\j<=1000000/\i.natAbs<2^64
def Oi(i j:Int):Prop:=(-(2^64)<i/\i<2^64)\/(-(2^64)<j/\j<2^64)
theorem Oi.ok(h:Oi i j):IntMulOk i j:=by
 rcases h with⟨h1,h2⟩|⟨h1,h2⟩
 ·exact .of_left (intBits_le_64 h1 h2)
 ·exact .of_right (intBits_le_64 h1 h2)
theorem Oj:jU X (binaryOp .Add) (Og λi j=>.int (i+j)):=QW λ_ _ _ _ _ _ _ q=>add_int q
theorem Ol:jU X (binaryOp .Sub) (Og λi j=>.int (i-j)):=QW λ_ _ _ _ _ _ _ q=>sub_int q
theorem Om:jU X (binaryOp .Mult) (rI Oi λi j=>.int (i*j)):=Sg λ_ _ _ _ _ _ _ hc q=>mul_int q hc.ok
theorem KW:jU X (binaryOp .FloorDiv) (rI QY λi j=>.int (i / j)):=Sg λi j _ _ _ _ _ hc q=>by have h1  := hc.1;have h2  := hc.2;exact floordiv_int #[1] (by grind) (.inl (PyProof.noPylong_small #[1]))
theorem Oo:jU X (binaryOp .Mod) (rI (λ_ j=>0<j) λi j=>.int (i % j)):=Sg λi j _ _ _ _ _ hc q=>mod_int' #[1] (by rw[Int.fmod_eq_emod_of_nonneg i #[1]];exact q)
theorem Oq:jU X (binaryOp .Pow) (rI S8 λi j=>.int (i^j.toNat)):=Sg λ_ _ _ _ _ _ _ hc q=>pow_int_small hc.1 hc.2.1 hc.2.2 q
theorem UI{g:Int->Int}
 (rule:∀(i:Int) (t:Tok) (s:Zn) (Q:Y4) (E:Y4),Q (.int (g i) s.toks) {s with toks:=s.toks+1}->wpAny (model X.prog X.w) X.A (f (.int i t)) Q E s) :
  S7 X f (rU λi=>.int (g i)):=by
 intro pins s σ H x v Q I rx h;obtain⟨i,rfl,q⟩:=h;obtain⟨t,rfl⟩:=rx;exact rule i t s _ _ (.int (g i),H,I.tok _,(_,rfl),q)
theorem Ot:S7 X (unaryOp .USub) (rU λi=>.int (-i)):=UI λ_ _ _ _ _ q=>neg_int q
end
noncomputable def QZ:V->V->Bool
 |.non,.non=>true|.non,.int _=>true|.int _,.non=>true|.non,.bl _=>true|.bl _,.non=>true|.non,.str _=>true|.str _,.non=>true
 |.int _,.int _=>true|.bl _,.bl _=>true|.str _,.str _=>true|.byt _,.byt _=>true
 |.int _,.str _=>true|.str _,.int _=>true|.bl _,.str _=>true|.str _,.bl _=>true
 |_,_=>false
def UJ:R2:=λx y H Q=>QZ x y=true/\Q (.bl (decide (x=y))) H
def UK:R2:=λx y H Q=>QZ x y=true/\Q (.bl (!decide (x=y))) H
theorem EK:decide (V.int i=V.int j)=(i==j):=by
 grind
theorem HK:decide (V.bl i=V.bl j)=(i==j):=by
 grind
theorem EL:decide (V.str i=V.str j)=(i==j):=by
 grind
theorem EM:decide (V.byt i=V.byt j)=(i.toList==j.toList):=by
 rw[VO]
 simp_all
section
variable {X:Cx} {a b c:Expr} {ta tb tc:TE} {pos:Pos}
theorem bR{σ:St}(I:Inv X pins σ H s)(q:Q (.bl k) H)(e:k=k'):EP X pins σ Q (.bool k') s:=by subst e;exact(.bl k,H,I,rfl,q)
theorem Q0:jU X (compareOp .Eq) UJ:=by
 intro pins s σ H x y v u Q I rx ry h;obtain⟨hs,q⟩:=h
 cases x with
 |non=>
  cases rx
  cases y with
  |non=>cases ry;exact PySem.EqNone.eq_none_none (bR I q (by simp))
  |bl j=>cases ry;exact PySem.EqNone.eq_none_bool (bR I q (by simp))
  |int j=>obtain⟨t',rfl⟩:=ry;exact PySem.EqNone.eq_none_int (bR I q (by simp))
  |str j=>obtain⟨t',rfl⟩:=ry;exact PySem.EqNone.eq_none_str (bR I q (by simp))
  |_=>exact absurd (show false=true from hs) Vv
 |bl i=>
  cases rx
  cases y with
  |non=>cases ry;exact PySem.EqNone.eq_bool_none (bR I q (by simp))
  |bl j=>cases ry;exact eq_bool (bR I q HK)
  |str j=>obtain⟨t',rfl⟩:=ry;exact PySem.EqMixed.eq_bool_str (bR I q (by simp))
  |_=>exact absurd (show false=true from hs) Vv
 |int i=>
  obtain⟨t,rfl⟩:=rx
  cases y with
  |non=>cases ry;exact PySem.EqNone.eq_int_none (bR I q (by simp))
  |int j=>obtain⟨t',rfl⟩:=ry;exact eq_int (bR I q EK)
  |str j=>obtain⟨t',rfl⟩:=ry;exact PySem.EqMixed.eq_int_str (bR I q (by simp))
  |_=>exact absurd (show false=true from hs) Vv
 |str i=>
  obtain⟨t,rfl⟩:=rx
  cases y with
  |non=>cases ry;exact PySem.EqNone.eq_str_none (bR I q (by simp))
  |bl j=>cases ry;exact PySem.EqMixed.eq_str_bool (bR I q (by simp))
  |int j=>obtain⟨t',rfl⟩:=ry;exact PySem.EqMixed.eq_str_int (bR I q (by simp))
  |str j=>obtain⟨t',rfl⟩:=ry;exact eq_str (bR I q EL)
  |_=>exact absurd (show false=true from hs) Vv
 |byt i=>
  obtain⟨t,rfl⟩:=rx
  cases y with
  |byt j=>obtain⟨t',rfl⟩:=ry;exact PySem.W.eq_bytes (bR I q EM)
  |_=>exact absurd (show false=true from hs) Vv
 |_=>cases y<;>exact absurd (show false=true from hs) Vv
theorem Q1:jU X (compareOp .NotEq) UK:=by
 intro pins s σ H x y v u Q I rx ry h;obtain⟨hs,q⟩:=h
 cases x with
 |non=>
  cases rx
  cases y with
  |non=>cases ry;exact PySem.EqNone.ne_none_none (bR I q (by simp))
  |bl j=>cases ry;exact PySem.EqNone.ne_none_bool (bR I q (by simp))
  |int j=>obtain⟨t',rfl⟩:=ry;exact PySem.EqNone.ne_none_int (bR I q (by simp))
  |str j=>obtain⟨t',rfl⟩:=ry;exact PySem.EqNone.ne_none_str (bR I q (by simp))
  |_=>exact absurd (show false=true from hs) Vv
 |bl i=>
  cases rx
  cases y with
  |non=>cases ry;exact PySem.EqNone.ne_bool_none (bR I q (by simp))
  |bl j=>cases ry;exact ne_bool (bR I q (Xz not HK))
  |str j=>obtain⟨t',rfl⟩:=ry;exact PySem.EqMixed.ne_bool_str (bR I q (by simp))
  |_=>exact absurd (show false=true from hs) Vv
 |int i=>
  obtain⟨t,rfl⟩:=rx
  cases y with
  |non=>cases ry;exact PySem.EqNone.ne_int_none (bR I q (by simp))
  |int j=>obtain⟨t',rfl⟩:=ry;exact ne_int (bR I q (Xz not EK))
  |str j=>obtain⟨t',rfl⟩:=ry;exact PySem.EqMixed.ne_int_str (bR I q (by simp))
  |_=>exact absurd (show false=true from hs) Vv
 |str i=>
  obtain⟨t,rfl⟩:=rx
  cases y with
  |non=>cases ry;exact PySem.EqNone.ne_str_none (bR I q (by simp))
  |bl j=>cases ry;exact PySem.EqMixed.ne_str_bool (bR I q (by simp))
  |int j=>obtain⟨t',rfl⟩:=ry;exact PySem.EqMixed.ne_str_int (bR I q (by simp))
  |str j=>obtain⟨t',rfl⟩:=ry;exact ne_str (bR I q (Xz not EL))
  |_=>exact absurd (show false=true from hs) Vv
 |byt i=>
  obtain⟨t,rfl⟩:=rx
  cases y with
  |byt j=>obtain⟨t',rfl⟩:=ry;exact PySem.W.ne_bytes (bR I q (Xz not EM))
  |_=>exact absurd (show false=true from hs) Vv
 |_=>cases y<;>exact absurd (show false=true from hs) Vv
theorem Q3:jU X (compareOp .LtE) (Og λi j=>.bl (decide (i<=j))):=QX λ_ _ _ _ _ _ _ q=>le_int q
theorem Q4:jU X (compareOp .Gt) (Og λi j=>.bl (decide (j<i))):=QX λ_ _ _ _ _ _ _ q=>gt_int q
theorem Gn:jU X (compareOp .In) (λx y H Q=>∃i j,x=.str i/\y=.str j/\Q (.bl (!(Builtin.Str.occurrences j i 0 j.length 1).isEmpty)) H):=by intro pins s σ H x y v u Q I rx ry h;obtain⟨i,j,rfl,rfl,q⟩:=h;obtain⟨t,rfl⟩:=rx;obtain⟨t',rfl⟩:=ry;exact in_str (bR I q rfl)
theorem zw:jU X (compareOp .NotIn) (λx y H Q=>∃i j,x=.str i/\y=.str j/\Q (.bl (!(!(Builtin.Str.occurrences j i 0 j.length 1).isEmpty))) H):=by intro pins s σ H x y v u Q I rx ry h;obtain⟨i,j,rfl,rfl,q⟩:=h;obtain⟨t,rfl⟩:=rx;obtain⟨t',rfl⟩:=ry;exact notIn_str (bR I q rfl)
theorem jU.or(h:jU X f r)(h':jU X f r'):jU X f (λx y H Q=>r x y H Q\/r' x y H Q):=by
 intro pins s σ H x y v u Q I rx ry q;rcases q with q|q
 ·exact h pins s σ H x y v u Q I rx ry q
 ·exact h' pins s σ H x y v u Q I rx ry q
theorem S9(b:Expr)(h:op≠.In:=by decide)(h2:op≠.NotIn:=by decide):behindInMarks op b=false:=by
 have e1:(op==CmpOp.In)=false:=by grind
 have e2:(op==CmpOp.NotIn)=false:=by grind
 cases b<;>simp[behindInMarks,e1,e2]
theorem KY(ho:jU X (compareOp op) r)(ha:PE X a ta)(hb:PE X b tb)(hm:behindInMarks op b=false):PE X (.Compare a [op] [b] pos) (QU r ta tb):=by intro pins s σ H Q I h;exact wpAny_Compare1 (Oh ha hb I h λv u s2 x y H2 I2 rx ry q=>ho pins s2 σ H2 x y v u Q I2 rx ry q) hm
def Ni(t:TE):TT:=λσ H Q=>t σ H λx H'=>∃k,x=.bl k/\Q k H'
theorem KZ(ho:jU X (compareOp op) r)(ha:PE X a ta)(hb:PE X b tb)(hm:behindInMarks op b=false):PT X (.Compare a [op] [b] pos) (Ni (QU r ta tb)):=by
 intro pins s σ H Q I h
 refine wpAny_isTrue_Compare1 (bN (ha pins s σ H _ I h) λv s1 ⟨x,H1,I1,r1,q1⟩=>bN (hb pins s1 σ H1 _ I1 q1) λu s2 ⟨y,H2,I2,r2,q2⟩=>
  bN (ho pins s2 σ H2 x y v u _ I2 r1 r2 q2) λc s3 ⟨z,H3,I3,r3,k,e,q3⟩=>?_) hm
 subst e;cases r3;exact V8 (H3,I3,q3)
def Dh(r r':R2)(ta tb tc:TE):TE:=λσ H Q=>ta σ H λx H1=>tb σ H1 λy H2=>r x y H2 λz H3=>∃k,z=.bl k /\
 (if k=true then tc σ H3 λw' H4=>r' y w' H4 Q else Q (.bl false) H3)
theorem HM(ho:jU X (compareOp op) r)(UV:jU X (compareOp ZD) r')(ha:PE X a ta)(hb:PE X b tb)(hc:PE X c tc)
 (hm:lastMarks [op,ZD] [b,c]=false:=by with_unfolding_all rfl):PE X (.Compare a [op,ZD] [b,c] pos) (Dh r r' ta tb tc):=by
 intro pins s σ H Q I h
 refine Compare_chain (bN (ha pins s σ H _ I h) λv s1 ⟨x,H1,I1,r1,q1⟩=>chain_link (bN (hb pins s1 σ H1 _ I1 q1) λu s2 ⟨y,H2,I2,r2,q2⟩=>
  bN (ho pins s2 σ H2 x y v u _ I2 r1 r2 q2) λd s3 ⟨z,H3,I3,r3,k,e,q3⟩=>?_)) hm
 subst e;cases r3;refine V8 ?_
 cases k with
 |false=>exact ite_ff (.bl false,H3,I3,rfl,q3)
 |true=>exact ite_tt (chain_last (bN (hc pins s3 σ H3 _ I3 q3) (by rintro w' s4 ⟨z',H4,I4,r4,q4⟩;exact UV pins s4 σ H4 y z' u w' Q I4 r2 r4 q4)))
theorem HN(ho:jU X (compareOp op) r)(UV:jU X (compareOp ZD) r')(ha:PE X a ta)(hb:PE X b tb)(hc:PE X c tc)
 (hm:lastMarks [op,ZD] [b,c]=false:=by with_unfolding_all rfl):PT X (.Compare a [op,ZD] [b,c] pos) (Ni (Dh r r' ta tb tc)):=by
 intro pins s σ H Q I h
 refine isTrue_chain (bN (ha pins s σ H _ I h) λv s1 ⟨x,H1,I1,r1,q1⟩=>test_link (bN (hb pins s1 σ H1 _ I1 q1) λu s2 ⟨y,H2,I2,r2,q2⟩=>
  bN (ho pins s2 σ H2 x y v u _ I2 r1 r2 q2) λd s3 ⟨z,H3,I3,r3,k,e,q3⟩=>?_)) hm
 subst e;cases r3;refine V8 ?_
 cases k with
 |false=>obtain⟨k',e',q'⟩:=q3;cases e';exact ite_ff (H3,I3,q')
 |true=>refine ite_tt (test_last (bN (hc pins s3 σ H3 _ I3 q3) λw' s4 ⟨z',H4,I4,r4,q4⟩=>bN (UV pins s4 σ H4 y z' u w' _ I4 r2 r4 q4) λd' s5 ⟨z2,H5,I5,r5,k2,e2,q5⟩=>?_));subst e2;cases r5;exact V8 (H5,I5,q5)
noncomputable def Ou(K:Zc)(x:V)(H:Hp)(k:Bool):Prop:=
 match x with
 |.non=>k=false
 |.bl b=>k=b
 |.int i=>k=(i != 0)
 |.str y=>y.length<=sizeLine/\k=((y.length:Int) != 0)
 |.byt y=>y.size<=sizeLine/\k=((y.size:Int) != 0)
 |.ref p=>(∃xs,iA K H p xs/\k=!xs.isEmpty)\/(∃xs,i8 K H p xs/\k=!xs.isEmpty)\/∃kvs,H p=some (.dK kvs)/\k=!kvs.isEmpty
 |_=>False
theorem Di(r:KV kvs vs):(!vs.isEmpty)=!kvs.isEmpty:=by cases r<;>rfl
theorem u5(r:Vals xs a_):(!a_.toArray.isEmpty)=!xs.isEmpty:=by cases r<;>simp
theorem u6:(sizeLine:Nat)<2^63:=by trivial
theorem Dj:Of X (λx H Q=>∃k,Ou X.K x H k/\Q k H):=by
 intro pins s σ H x v Q I rx h;obtain⟨k,e,q⟩:=h;have hl:=u6;have hs:sizeLine=16777216:=WI
 cases x with
 |non=>cases rx;have e':k=false:=e;subst e';exact truthy_none (H,I,q)
 |bl b=>cases rx;have e':k=b:=e;subst e';exact V8 (H,I,q)
 |int i=>obtain⟨t,rfl⟩:=rx;have e':k=(i != 0):=e;subst e';exact PySem.P.truthy_int (H,I,q)
 |str y=>obtain⟨t,rfl⟩:=rx;obtain⟨hy,e'⟩:y.length<=sizeLine/\k=((y.length:Int) != 0):=e;subst e';exact PySem.P.truthy_str #[1] (H,I.tok _,q)
 |byt y=>obtain⟨t,rfl⟩:=rx;obtain⟨hy,e'⟩:y.size<=sizeLine/\k=((y.size:Int) != 0):=e;subst e';exact PySem.W.truthy_bytes #[1] (H,I.tok _,q)
 |ref p=>
  cases rx;have e':(∃xs,iA X.K H p xs/\k=!xs.isEmpty)\/(∃xs,i8 X.K H p xs/\k=!xs.isEmpty)\/∃kvs,H p=some (.dK kvs)/\k=!kvs.isEmpty:=e;rcases e' with⟨xs,hx,e'⟩|⟨xs,hx,e'⟩|⟨kvs,hx,e'⟩
  ·subst e';obtain⟨a_,r,pl,hz⟩:=I.list hx;have hlen:=r.length;exact wpAny_truthy_list pl.isList (by simp only[Vq];omega) (H,I.tok _,by rw[u5 r];exact q)
  ·subst e';obtain⟨a_,r,pl,hz⟩:=I.tuple hx;have hlen:=r.length;exact truthy_tuple pl (by simp only[Vq];omega) (H,I.tok _,by rw[u5 r];exact q)
  ·subst e';obtain⟨hz,hS,vs,r,m⟩:kvs.length<=sizeLine/\(p==sysModules)=false/\∃vs,KV kvs vs/\s.heap.DictOf (cw X.prog X.w) p vs:=I.hok p _ hx;have hlen:kvs.length=vs.length:=Vo r;exact wpAny_truthy_dict hS m #[1] (H,I.tok _,by rw[Di r];exact q)
 |_=>exact(show False from e).elim
theorem HP(ha:PE X a ta)(he:∀whole,isTrue a X.env whole=(do let v <- whole;standAt a.pos;holding [v] (truthy v))) :
  PT X a (λσ H Q=>ta σ H λx H'=>∃k,Ou X.K x H' k/\Q k H'):=by
 intro pins s σ H Q I h;exact isTrue_plain (bN (ha pins s σ H _ I h) (by rintro v s1 ⟨x,H1,I1,r1,q1⟩;exact Dj pins s1 σ H1 x v Q I1 r1 q1)) (he _)
theorem Dk:jU X (binaryOp .Add) (λx y H Q=>∃i j,x=.str i/\y=.str j/\i.length+j.length<=sizeLine/\Q (.str (i++j)) H):=by intro pins s σ H x y v u Q I rx ry h;obtain⟨i,j,rfl,rfl,hz,q⟩:=h;obtain⟨t,rfl⟩:=rx;obtain⟨t',rfl⟩:=ry;exact add_str (λt' tk=>(.str _,H,I.tok _,(_,rfl),q)) hz
theorem vals1(r:Vals [x] us):∃u,us=[u]/\RelV x u:=by
 cases r with
 |cons r1 r2=>cases r2;grind
theorem vals2(r:Vals [x,y] us):∃u w',us=[u,w']/\RelV x u/\RelV y w':=by
 cases r with
 |cons r1 r2=>
  cases r2 with
  |cons r3 r4=>cases r4;grind
theorem HQ:dB X (.builtin "abs") (λxs H Q=>∃i,xs=[.int i]/\Q (.int (if i<0 then -i else i)) H):=by intro pins s σ H xs us Q I r h;obtain⟨i,rfl,q⟩:=h;obtain⟨u,rfl,t,rfl⟩:=vals1 r;exact call_abs_int λu tk=>(.int _,H,I.tok _,(_,rfl),q)
theorem Gp(hc:X.calm=true):dB X (.builtin "max") (λxs H Q=>∃i j,xs=[.int i,.int j]/\Q (.int (if j>i then j else i)) H):=by
 intro pins s σ H xs us Q I r h;obtain⟨i,j,rfl,q⟩:=h;obtain⟨u,w',rfl,⟨t,rfl⟩,⟨t',rfl⟩⟩:=vals2 r;refine max_two_ints (I.ok.hd hc) λh' tk k=>(_,H,I.kept k,?_,q);by_cases hj:j>i
 ·rw[if_pos hj,if_pos hj];exact(_,rfl)
 ·rw[if_neg hj,if_neg hj];exact(_,rfl)
theorem Gq(hc:X.calm=true):dB X (.builtin "min") (λxs H Q=>∃i j,xs=[.int i,.int j]/\Q (.int (if j<i then j else i)) H):=by
 intro pins s σ H xs us Q I r h;obtain⟨i,j,rfl,q⟩:=h;obtain⟨u,w',rfl,⟨t,rfl⟩,⟨t',rfl⟩⟩:=vals2 r;refine min_two_ints (I.ok.hd hc) λh' tk k=>(_,H,I.kept k,?_,q);by_cases hj:j<i
 ·rw[if_pos hj,if_pos hj];exact(_,rfl)
 ·rw[if_neg hj,if_neg hj];exact(_,rfl)
theorem Gr:dB X (.type "int") (λxs H Q=>(∃i,xs=[.int i]/\Q (.int i) H)\/∃k,xs=[.bl k]/\Q (.int (if k then 1 else 0)) H):=by
 intro pins s σ H xs us Q I r h;rcases h with⟨i,rfl,q⟩|⟨k,rfl,q⟩
 ·obtain⟨u,rfl,t,rfl⟩:=vals1 r;exact call_int_int (.int i,H,I,(_,rfl),q)
 ·obtain⟨u,rfl,r1⟩:=vals1 r;cases r1;exact call_int_bool (.int _,H,I.tok _,(_,rfl),q)
def Ta(K:Zc)(x:V)(H:Hp)(n:Nat):Prop:=
 match x with
 |.str y=>y.length<=sizeLine/\n=y.length
 |.byt y=>y.size<=sizeLine/\n=y.size
 |.ref p=>(∃xs,iA K H p xs/\n=xs.length)\/∃xs,i8 K H p xs/\n=xs.length
 |_=>False
theorem HR:dB X (.builtin "len") (λxs H Q=>∃x n,xs=[x]/\Ta X.K x H n/\Q (.int n) H):=by
 intro pins s σ H xs us Q I r h;obtain⟨x,n,rfl,e,q⟩:=h;obtain⟨u,rfl,rx⟩:=vals1 r;have hl:=u6;have hs:sizeLine=16777216:=WI
 cases x with
 |str y=>obtain⟨t,rfl⟩:=rx;obtain⟨hy,e'⟩:y.length<=sizeLine/\n=y.length:=e;subst e';exact len_str #[1] (.int _,H,I.tok _,(_,rfl),q)
 |byt y=>obtain⟨t,rfl⟩:=rx;obtain⟨hy,e'⟩:y.size<=sizeLine/\n=y.size:=e;subst e';exact PySem.W.len_bytes #[1] (.int _,H,I.tok _,(_,rfl),q)
 |ref p=>
  cases rx;have e':(∃xs,iA X.K H p xs/\n=xs.length)\/∃xs,i8 X.K H p xs/\n=xs.length:=e;rcases e' with⟨xs,hx,e'⟩|⟨xs,hx,e'⟩
  ·subst e';obtain⟨a_,r',pl,hz⟩:=I.list hx;have hlen:=r'.length;exact Calls.call_len_list pl.isList (by simp only[Vq];omega) (.int xs.length,H,I.tok _,(_,by simp only[Vq];rw[hlen]),q)
  ·subst e';obtain⟨a_,r',pl,hz⟩:=I.tuple hx;have hlen:=r'.length;exact len_tuple pl (by simp only[Vq];omega) (.int xs.length,H,I.tok _,(_,by simp only[Vq];rw[hlen]),q)
 |_=>exact(show False from e).elim
theorem A8:dB X (.builtin "divmod") (λxs H Q=>∃i j,xs=[.int i,.int j]/\QY i j/\∀p,H p=none->Q (.ref p) (upd H p (.tup [.int (i / j),.int (i % j)]))):=by intro pins s σ H xs us Q I r h;obtain⟨i,j,rfl,⟨h1,h2⟩,q⟩:=h;obtain⟨u,w',rfl,⟨t,rfl⟩,⟨t',rfl⟩⟩:=vals2 r;refine divmod_int #[1] ?_ (.inl (PyProof.noPylong_small #[1]));rw[Int.fdiv_eq_ediv_of_nonneg i #[1],Int.fmod_eq_emod_of_nonneg i #[1]];have hn  := I.hok.fresh (U4 _);refine(.ref s.heap.objs.size,_,?_,rfl,q _ hn);refine I.laid (λb o e=>U0 _ e) (U4 _) (by simp[WI],[.int _ s.toks,.int _ (s.toks+1)],.cons (_,rfl) (.cons (_,rfl) .nil),?_);exact(_,U5 s.heap rfl,rfl,0,rfl)
end
structure Ov(h:Heap)(x dx C:Addr)(mA:Y8):Prop where
 obj:h.get? x=some (PySem.W.instObj C dx)
 ns:h.Ns1 dx mA
 ne:dx≠x
theorem Gs{h:Heap}(n:h.Ns1 dx mA):∃od,h.get? dx=some od/\∀name,PySem.W.lookIn name od=some (mA name):=by
 obtain⟨o,es,ep,ho,hd,hk,_,hm⟩:=n;refine(o,ho,λname=>?_);have e:=hm name;unfold nsFind findBy at e;rw[<- Array.find?_toList]at e;unfold PySem.W.lookIn;rw[hd];dsimp only;split
 ·grind
 ·rename_i q;rw[q]at e;have a:es.toList.any (·.refKey)=false:=by rw[Yg];intro y hy;obtain⟨z,t,hkey⟩:=hk y (W9.mp hy);simp[DictEntry.refKey,hkey]
  grind
theorem Ov.look(I:Ov h x dx C mA):∃od,PySem.W.InstAt h x (PySem.W.instObj C dx) C (some od)/\∀name,PySem.W.lookIn name od=some (mA name):=
 by obtain⟨od,ho,hl⟩:=Gs I.ns;exact(od,(I.obj,rfl,rfl,ho),hl)
theorem uZ.some_of(r:uZ (some v) o):∃u,o=some u/\RelV v u:=by
 cases o with
 |none=>trivial
 |some u=>exact(u,rfl,r)
section
variable {P:Zj} {w:World} {H H':Hp} {h h':Heap} {a C dx:Addr} {fs ZZ:List (Str×V)}
theorem K0(hok:ox P w H h)(e:H a=some (.ins C dx fs)):∃mA,Ov h a dx C mA/\(∀f,uZ (fs.lookup f) (mA f))/\PySem.Within mA (fs.map (·.1))/\fs.length<=1000/\H dx=some (.own a):=by obtain⟨d,z,ne,ob,mA,n,r,q⟩:=(hok a _ e);exact(mA,(ob,n,ne),r,q,z,d)
end
structure Tb(K:Zc)(C:Addr):Prop where
 pg:PySem.W.plainGet K C Str.empty=true
 hd:PySem.W.hasDictIn K C=true
 po:PySem.W.plainOver K C=true
 sa:PySem.W.findIn K (.ref C) "__setattr__" = some (some (.builtin "object.__setattr__"))
theorem Tb.get{K:Zc}(c:Tb K C)(f:Str):PySem.W.plainGet K C f=true:=c.pg
section
variable {X:Cx} {pins:Y5} {σ:St} {H:Hp} {s:Zn} {A:Zm} {E:Y4} {Q:Y4} {c:Value} {b:Bool}
inductive qx (K:Zc) (H:Hp):V->Value->Prop where
 |non:qx K H .non (.type "NoneType")
 |bl (x:Bool):qx K H (.bl x) (.type "bool")
 |int (i:Int):qx K H (.int i) (.type "int")
 |str (x:Str):qx K H (.str x) (.type "str")
 |flt (x:UInt64):qx K H (.flt x) (.type "float")
 |lst {a:Addr} {xs:List V} (e:H a=some (.lst xs)):qx K H (.ref a) (.type "list")
 |frz {a:Addr} {o:Obj} {xs:List V} (e:H a=some (.frz o (.lst xs))):qx K H (.ref a) (.type "list")
 |tup {a:Addr} {xs:List V} (e:H a=some (.tup xs)):qx K H (.ref a) (.type "tuple")
 |dK {a:Addr} {kvs:List (Key×V)} (e:H a=some (.dK kvs)):qx K H (.ref a) (.type "dict")
 |dT {a:Addr} {kvs:List (List Key×V)} (e:H a=some (.dT kvs)):qx K H (.ref a) (.type "dict")
 |ins {a C dx:Addr} {fs:List (Str×V)} (e:H a=some (.ins C dx fs)) (cl:Tb K C) (ha:PySem.W.findIn K (.ref C) "__class__" = some (some (.builtin "object.__class__")))
   (hn:PySem.W.specialIn K (.builtin "object.__class__") "__get__" = some (some (.builtin "getset_descriptor.__get__"))) (htk:PySem.W.takesIn K (.builtin "object.__class__")=some true)
   (hm:PySem.W.mroIn K C (.type "object")=some true):qx K H (.ref a) (.ref C)
theorem Gu(I:Inv X pins σ H s)(rx:RelV x u)(ty:qx X.K H x t)(e:PySem.W.kitOne X.K t c=some b)(h:∀tk,Q (.bool b) {s with toks:=tk}) :
  wpAny (model X.prog X.w) A (call (.builtin "isinstance") [u,c]) Q E s:=by
 cases ty with
 |non=>cases(show u=Value.none from rx);exact Wa PySem.W.kitx_none I.u0 True.intro e (λz=>nomatch z) h
 |bl y=>cases(show u=Value.bool y from rx);exact Wa PySem.W.kitx_bool I.u0 True.intro e (λz=>nomatch z) h
 |int i=>obtain⟨t,q⟩:=(show ∃t,u=Value.int i t from rx);cases q;exact Wa PySem.W.kitx_int I.u0 True.intro e (λz=>nomatch z) h
 |str y=>obtain⟨t,q⟩:=(show ∃t,u=Value.str y t from rx);cases q;exact Wa PySem.W.kitx_str I.u0 True.intro e (λz=>nomatch z) h
 |flt y=>obtain⟨t,q⟩:=(show ∃t,u=Value.float y t from rx);cases q;exact Wa PySem.W.kitx_float I.u0 True.intro e (λz=>nomatch z) h
 | @lst a xs ea=>cases(show u=Value.ref a from rx);obtain⟨_,_,n,_,h1⟩:=(show cX X.prog X.w H s.heap a (.lst xs)from I.hok a _ ea);exact Wa PySem.W.kitx_list I.u0 (_,h1,rfl) e (λz=>nomatch z) h
 | @frz a ob xs ea=>cases(show u=Value.ref a from rx);obtain⟨_,_,_,n,_,h1⟩:=(show cX X.prog X.w H s.heap a (.frz ob (.lst xs))from I.hok a _ ea);exact Wa PySem.W.kitx_list I.u0 (_,h1,rfl) e (λz=>nomatch z) h
 | @tup a xs ea=>cases(show u=Value.ref a from rx);obtain⟨_,_,_,p⟩:=(show cX X.prog X.w H s.heap a (.tup xs)from I.hok a _ ea);obtain⟨o,h1,h2,_⟩:=p;exact Wa PySem.W.kitx_tuple I.u0 (o,h1,h2) e (λz=>nomatch z) h
 | @dK a kvs ea=>cases(show u=Value.ref a from rx);obtain⟨_,_,vs,_,p⟩:=(show cX X.prog X.w H s.heap a (.dK kvs)from I.hok a _ ea);obtain⟨o,es,ep,h1,h2,_⟩:=p;exact Wa PySem.W.kitx_dict I.u0 (o,h1,h2.1) e (λz=>nomatch z) h
 | @dT a kvs ea=>cases(show u=Value.ref a from rx);obtain⟨_,_,xs,_,o,es,ep,h1,h2,_⟩:=(show cX X.prog X.w H s.heap a (.dT kvs)from I.hok a _ ea);exact Wa PySem.W.kitx_dict I.u0 (o,h1,h2.1) e (λz=>nomatch z) h
 | @ins a C dx fs ea cl ha hn htk hm=>cases(show u=Value.ref a from rx);obtain⟨mA,O,_⟩:=K0 I.hok ea;obtain⟨od,J,_⟩:=O.look;exact Wa (PySem.W.kitx_own (cl.get _) cl.hd ha hn htk hm) I.u0 J e (λz=>nomatch z) h
end
structure cE(k:Nat)(A:Zm):Prop where
 hd:A.handled=none
 dp:A.depth+3*k+5<recursionLimit
 un:A.units+16*k+200<cLine
 gd:A.guards=some []
theorem cE.mono(r:cE k A)(h:j<=k):cE j A:=(r.hd,by have:=r.dp;omega,by have:=r.un;omega,r.gd)
theorem cE.deeper(r:cE (k+1) A)(env:Env):cE k (A.deeper env):=
 (r.hd,by have:=r.dp;show A.depth+1+3*k+5<_;omega,by have:=r.un;show A.units+3+16*k+200<_;omega,r.gd)
theorem cE.depth(r:cE k A):A.depth<recursionLimit:=by have:=r.dp;omega
theorem cE.units(r:cE k A):A.units+64<cLine:=by have:=r.un;omega
def Ow:TA:=λ_ H Q=>Q [] H
def HS(ta:TE)(tr:TA):TA:=λσ H Q=>ta σ H λx H1=>tr σ H1 λxs H2=>Q (x::xs) H2
section
variable {X:Cx} {e:Expr} {es:Ze} {te:TE} {t:TA} {pos:Pos}
theorem zx:PA X [] Ow:=λ_ _ _ _ H Q I h=>Yh ([],H,I,.nil,h)
theorem qy(ha:PE X e te)(hr:PA X es t)(hs:starEach (e::es) X.env=(false,eval e X.env)::starEach es X.env:=by rfl):PA X (e::es) (HS te t):=by intro pos pins s σ H Q I h;rw[hs];refine X6 (bN (ha pins s σ H _ I h) λu s1 ⟨x,H1,I1,r1,q1⟩=>?_);exact bN (hr pos pins s1 σ H1 _ I1 q1) (by rintro us s2 ⟨xs,H2,I2,r2,q2⟩;exact(x::xs,H2,I2,.cons r1 r2,q2))
def Tc(t:TA):TE:=λσ H Q=>t σ H λxs H1=>xs.length<=sizeLine/\∀p,H1 p=none->Q (.ref p) (upd H1 p (.tup xs))
def Td(t:TA):TE:=λσ H Q=>t σ H λxs H1=>xs.length<=sizeLine/\∀p,H1 p=none->Q (.ref p) (upd H1 p (.lst xs))
theorem Dn(h:PA X es t):PE X (.Tuple es x1 pos) (Tc t):=by intro pins s σ H Q I hq;refine wpAny_Tuple_spliced (bN (h pos pins s σ H _ I hq) λus s1 ⟨xs,H1,I1,r,z,q⟩=>(by grind[r.length],?_));have hf  := I1.hok.fresh (U4 _);refine(.ref s1.heap.objs.size,upd H1 s1.heap.objs.size _,I1.laid (λb u e=>U0 _ e) (U4 _) ?_,rfl,q _ hf);exact(z,us,r,(_,U5 _ rfl,rfl,_,rfl))
theorem Dp(h:PA X es t):PE X (.List es pos) (Td t):=by intro pins s σ H Q I hq;refine wpAny_List_spliced (bN (h pos pins s σ H _ I hq) λus s1 ⟨xs,H1,I1,r,z,q⟩=>(by grind[r.length],?_));have hf  := I1.hok.fresh (U4 _);refine(.ref s1.heap.objs.size,upd H1 s1.heap.objs.size _,I1.laid (λb u e=>U0 _ e) (U4 _) ?_,rfl,q _ hf);exact(z,us,0,r,U5 _ rfl)
end
abbrev Sp:=List V->Hp->VK->XK->Prop
abbrev Nj:=List Env->Hp->Zn->XK->Y4
structure K4(P:Zj)(w:World)(K:Zc)(mg:Y8)(base:Heap)(A:Zm)(outer:List Env)(s:Zn)(H:Hp):Prop where
 frames:A.frames=some outer
 mod:Mod K mg base
 bs:∀b o,base.get? b=some o->s.heap.get? b=some o/\H b=none
 bsz:base.objs.size<=s.heap.objs.size
 qw:s.heap.FunFrames base outer
 frf:∀b∈A0 outer,H b=none
 hok:ox P w H s.heap
 bare:AllBare s.gens
def CE(outer:List Env)(P:Zj)(w:World)(H:Hp)(s:Zn)(Q:VK)(u:Value)(s':Zn):Prop:=
 ∃v H',s'.os=s.os/\AllBare s'.gens/\Un (A0 outer) [] H H' s.heap s'.heap/\ox P w H' s'.heap/\RelV v u/\Q v H'
def CR(CX:Nj)(outer:List Env)(P:Zj)(w:World)(H:Hp)(s:Zn)(Q:VK)(E:XK)(r:Result)(s':Zn):Prop:=
 match r with
 |.ok (.ret u)=>CE outer P w H s Q u s'
 |.ok _=>False
 |.error e=>CX outer H s E e s'
structure jV(P:Zj)(w:World)(K:Zc)(mg:Y8)(base:Heap)(CX:Nj)(k:Nat)(f:Addr)(fd:FuncData)(ps:Zd)(sp:Sp):Prop where
 len:∀vs H Q E,sp vs H Q E->vs.length=ps.length
 run:∀(A:Zm) (outer:List Env) (s:Zn) (H:Hp) (args:Args) (us:Zb) (vs:List V) (Q:VK) (E:XK),cE k A->K4 P w K mg base A outer s H->BindsTo s fd args (ps.zip us)->Vals vs us->sp vs H Q E ->
  codeAny (model P w) A (.call (.ref f) args) (CR CX outer P w H s Q E) s
theorem jV.mono{K:Zc}(F:jV P w K mg base CX j f fd ps sp)(h:j<=k) :
  jV P w K mg base CX k f fd ps sp:=(F.len,λA outer s H args us vs Q E hr=>F.run A outer s H args us vs Q E (hr.mono h))
theorem jV.imp{K:Zc}(F:jV P w K mg base CX k f fd ps sp)
 (h:∀vs H Q E,sp' vs H Q E->sp vs H Q E):jV P w K mg base CX k f fd ps sp':=
 (λvs H Q E q=>F.len vs H Q E (h _ _ _ _ q),λA outer s H args us vs Q E hr he hb hv hs=>F.run A outer s H args us vs Q E hr he hb hv (h _ _ _ _ hs))
section
variable {X:Cx} {pins:Y5} {σ:St} {H:Hp} {s s':Zn}
theorem Inv.Q5(I:Inv X pins σ H s):K4 X.prog X.w X.K X.mg X.base X.A X.stack s H:=
 (I.ok.frames,I.ok.mod,I.bs,U8 I.ok.bsz I.sz,I.stack,I.EH,I.hok,I.bare)
theorem Inv.after(I:Inv X pins σ H s)(h:CE X.stack X.prog X.w H s Q u s'):EP X pins σ Q u s':=by obtain⟨v,H',os,bare,un,hok,r,q⟩:=h;obtain⟨hh,g,d,t,os'⟩:=s';obtain rfl:os'=s.os:=os;exact(v,H',I.call un hok bare (λb z=>absurd z (by simp)),r,q)
end
def Nk(sp:Sp)(dvs:List V)(E:XK)(t:TA):TE:=λσ H Q=>t σ H λvs H1=>sp (vs++dvs) H1 Q E
def Binds(K:Zc)(fd:FuncData)(ps:Zd)(ds:Zb):Prop:=
 ∀(s:Zn) (us:Zb),K.In s.heap->(us++ds).length=ps.length->BindsTo s fd (us,[]) (ps.zip (us++ds))
theorem Binds.all{K:Zc}(h:∀us:Zb,us.length=ps.length->bindArgs fd (us,[])=pure (ps.zip us)):Binds K fd ps []:=λs us _ hl=>by rw[WS]at hl ⊢;exact .of_eq (h us hl)
def Passes(CX:Nj)(X:Cx)(E:XK):Prop:=∀(pins:Y5) (σ:St) (H:Hp) (s:Zn) (e:Value) (s':Zn),Inv X pins σ H s->CX X.stack H s E e s'->X.xe e s'
section
variable {X:Cx} {CX:Nj} {k:Nat} {f C:Addr} {fd:FuncData} {ps:Zd} {sp:Sp} {dvs:List V} {ds:Zb} {E:XK} {x m:Str} {p pos apos:Pos} {e o:Expr} {es:Ze} {ta:TE} {t:TA}
theorem HU{σ:St}(F:jV X.prog X.w X.K X.mg X.base CX k f fd ps sp)(hr:cE k X.A)(hb:Binds X.K fd ps ds)(hd:Vals dvs ds)(hx:Passes CX X E)
 (I:Inv X pins σ H s)(r:Vals vs us)(h:sp (vs++dvs) H Q E):wpAny (model X.prog X.w) X.A (call (.ref f) us) (EP X pins σ Q) X.xe s:=by
 have r2  := r.append hd;have hl:(us++ds).length=ps.length:=by rw[<- r2.length];exact F.len _ _ _ _ h
 refine wpAny_call (XY (F.run X.A X.stack s H _ _ _ Q E hr I.Q5 (hb s us I.u0 hl) r2 h) λr s' hq=>?_)
 cases r with
 |error e=>exact hx pins σ H s e s' I hq
 |ok fl=>
  cases fl with
  |ret u=>exact I.after hq
  |next=>assumption
  |brk=>assumption
  |cont=>assumption
theorem La(F:jV X.prog X.w X.K X.mg X.base CX k f fd ps sp)(hr:cE k X.A)(hg:Gl X x)(hm:X.mg x=some (.ref f))(hk:PySem.W.keepIn X.K (.ref f)=true)(hb:Binds X.K fd ps ds)(hd:Vals dvs ds)(hx:Passes CX X E)
 (ha:PA X (e::es) t)(x_:(x==("__debug__" : Str))=false:=by decide)(he:starEach (e::es) X.env=(false,eval e X.env)::starEach es X.env:=by rfl)(t_:(backTo pos (starEach es X.env)).any (·.1)=false:=by rfl) :
  PE X (.Call (.Name x p) (e::es) [] pos) (Nk sp dvs E t):=by
 intro pins s σ H Q I h;refine V3 (zt I hg hm ?_ x_);refine PySem.W.callWith_K I.ok.mod.kin hk (bN (ha pos pins s σ H _ I h) λus s1 ⟨vs,H1,I1,r,q⟩=>(I1.u0,?_)) he t_;exact HU F hr hb hd hx I1 r q
end
noncomputable def PK(X:Cx)(FS:List Keyword)(t:TA):Prop:=
 ∀(pos:Pos) (pins:Y5) (s:Zn) (σ:St) (H:Hp) (Q:List V->Hp->Prop),Inv X pins σ H s->t σ H Q->wpAny (model X.prog X.w) X.A (evalAll ((backToKw pos (keywordEach FS X.env)).map (·.2))) (AP X pins σ Q) X.xe s
section
variable {X:Cx} {CX:Nj} {k:Nat} {f C:Addr} {fd:FuncData} {ps ks:Zd} {sp:Sp} {E:XK} {x m:Str} {p pos apos kpos:Pos} {e o:Expr} {es:Ze} {FS:List Keyword} {te ta:TE} {t tk:TA} {nm:Option Str}
theorem Ox:PK X [] Ow:=λ_ _ _ _ H Q I h=>wpAny_evalAll_nil ([],H,I,.nil,h)
theorem Lb(ha:PE X e te)(hr:PK X FS t):PK X ((nm,e,kpos)::FS) (HS te t):=by intro pos pins s σ H Q I h;refine wpAny_evalAll_cons (UY (bN (ha pins s σ H _ I h) λu s1 ⟨x,H1,I1,r1,q1⟩=>UY (V9 (UZ ?_))));exact bN (hr pos pins s1 σ H1 _ I1 q1) (by rintro us s2 ⟨xs,H2,I2,r2,q2⟩;exact(x::xs,H2,I2,.cons r1 r2,q2))
structure zy(K:Zc)(fd:FuncData)(ps ks:Zd)(g:Zb->Zb->Zb)(gV:List V->List V->List V):Prop where
 to:∀(s:Zn) (us ws:Zb),K.In s.heap->(g us ws).length=ps.length->BindsTo s fd (us,ks.zip ws) (ps.zip (g us ws))
 rel:∀{vs:List V} {us:Zb} {zs:List V} {ws:Zb},Vals vs us->Vals zs ws->Vals (gV vs zs) (g us ws)
def Oy(sp:Sp)(gV:List V->List V->List V)(E:XK)(t tk:TA):TE:=λσ H Q=>t σ H λvs H1=>tk σ H1 λzs H2=>sp (gV vs zs) H2 Q E
variable {g:Zb->Zb->Zb} {gV:List V->List V->List V}
theorem Lc{σ:St}(F:jV X.prog X.w X.K X.mg X.base CX k f fd ps sp)(hr:cE k X.A)(hb:zy X.K fd ps ks g gV)(hx:Passes CX X E)
 (I:Inv X pins σ H s)(r:Vals vs us)(rz:Vals zs ws)(h:sp (gV vs zs) H Q E):wpAny (model X.prog X.w) X.A (call (.ref f) us (ks.zip ws)) (EP X pins σ Q) X.xe s:=by
 have r2:=hb.rel r rz;have hl:(g us ws).length=ps.length:=by rw[<- r2.length];exact F.len _ _ _ _ h
 refine wpAny_call (XY (F.run X.A X.stack s H _ _ _ Q E hr I.Q5 (hb.to s us ws I.u0 hl) r2 h) λr s' hq=>?_)
 cases r with
 |error e=>exact hx pins σ H s e s' I hq
 |ok fl=>
  cases fl with
  |ret u=>exact I.after hq
  |next=>assumption
  |brk=>assumption
  |cont=>assumption
theorem HV(F:jV X.prog X.w X.K X.mg X.base CX k f fd ps sp)(hr:cE k X.A)(hg:Gl X x)(hm:X.mg x=some (.ref f))(hk:PySem.W.keepIn X.K (.ref f)=true)(hb:zy X.K fd ps ks g gV)(hx:Passes CX X E)
 (ha:PA X (e::es) t)(hkw:PK X FS tk)(AC:(backToKw pos (keywordEach FS X.env)).all (·.1.isSome)=true:=by rfl)(hks:(backToKw pos (keywordEach FS X.env)).filterMap (·.1)=ks:=by rfl)
 (x_:(x==("__debug__" : Str))=false:=by decide)(he:starEach (e::es) X.env=(false,eval e X.env)::starEach es X.env:=by rfl)
 (t_:((backTo pos (starEach (e::es) X.env)).any (·.1) || (backToKw pos (keywordEach FS X.env)).any (·.1.isNone))=false:=by rfl) :
  PE X (.Call (.Name x p) (e::es) FS pos) (Oy sp gV E t tk):=by
 intro pins s σ H Q I h;refine V3 (zt I hg hm ?_ x_);refine PySem.W.callWith_KW (h₀:=X.base) I.ok.mod.kin hk AC (bN (ha pos pins s σ H _ I h) λus s1 ⟨vs,H1,I1,r,q⟩=>?_) t_ he;refine bN (hkw pos pins s1 σ H1 _ I1 q) λws s2 ⟨zs,H2,I2,rz,q2⟩=>(I2.u0,?_);rw[hks];exact Lc F hr hb hx I2 r rz q2
end
structure aO(N P:Zd)(sc:Scope):Prop where
 kind:sc.kind=.function
 co:sc.isCoroutine=false
 gen:sc.isGenerator=false
 nd:N.Nodup
 pre:N.take P.length=P
 par:∀x∈P,sc.names.lookup x=some .local\/sc.names.lookup x=some .cell
 nofree:∀y∈sc.names,y.2≠.free
theorem yq{kindOf:Str->Option NameKind}:∀{binds:List (Str×Value)} {m:Y8},(∀v,(x,v)∉binds)->bindL kindOf binds m x=m x
 | [],_,_=>rfl
 | (n,v)::r,m,h=>by
  unfold bindL;rw[yq λw hw=>h w (U2 _ hw)];split
  ·grind
  ·rfl
theorem yr{kindOf:Str->Option NameKind}:∀{binds:List (Str×Value)} {m:Y8},(∀v,(x,v)∉binds)->bindC kindOf binds m x=m x
 | [],_,_=>rfl
 | (n,v)::r,m,h=>by
  unfold bindC;rw[yr λw hw=>h w (U2 _ hw)];split
  ·rfl
  grind
theorem yt{kindOf:Str->Option NameKind}:∀{P:Zd} {vs:Zb} {i:Nat} {m:Y8},P.Nodup->P[i]?=some x->vs[i]?=some v->kindOf x=some .local ->
  bindL kindOf (P.zip vs) m x=some v
 | [],_,_,_,_,h,_,_=>by simp at h
 |_::_,[],_,_,_,_,h,_=>by simp at h
 |p::P,w::vs,0,m,nd,h1,h2,hk=>by simp at h1 h2;subst h1;subst h2;show bindL kindOf ((p,w)::P.zip vs) m p=_;unfold bindL;rw[yq λv hv=>(VP.mp nd).1 (YJ hv).1,if_pos hk];simp
 |p::P,w::vs,i+1,m,nd,h1,h2,hk=>by unfold bindL;exact yt (i:=i) (VP.mp nd).2 (by simp_all) (by simp_all) hk
theorem yu{kindOf:Str->Option NameKind}:∀{P:Zd} {vs:Zb} {i:Nat} {m:Y8},P.Nodup->P[i]?=some x->vs[i]?=some v->kindOf x≠some .local ->
  bindC kindOf (P.zip vs) m x=some v
 | [],_,_,_,_,h,_,_=>by simp at h
 |_::_,[],_,_,_,_,h,_=>by simp at h
 |p::P,w::vs,0,m,nd,h1,h2,hk=>by simp at h1 h2;subst h1;subst h2;show bindC kindOf ((p,w)::P.zip vs) m p=_;unfold bindC;rw[yr λv hv=>(VP.mp nd).1 (YJ hv).1,if_neg hk];simp
 |p::P,w::vs,i+1,m,nd,h1,h2,hk=>by unfold bindC;exact yu (i:=i) (VP.mp nd).2 (by simp_all) (by simp_all) hk
def start(N:Zd)(vs:List V):St:=vs.map some++List.replicate (N.length-vs.length) none
noncomputable def u7(CX:Nj)(P:Zj)(w:World)(K:Zc)(mg:Y8)(base:Heap)(N:Zd)(qual:Str)(scope:Scope)(f:Addr)(cd:Value)(A:Zm)(outer:List Env)(s:Zn)(H:Hp)(E:XK):Cx where
 prog:=P
 w:=w
 K:=K
 mg:=mg
 base:=base
 A:=A.deeper (envOfC qual scope s.heap.objs.size f cd)
 N:=N
 s₀:=s
 H₀:=H
 env:=envOfC qual scope s.heap.objs.size f cd
 outer:=outer
 stack:=envOfC qual scope s.heap.objs.size f cd::outer
 ex:=[]
 calm:=true
 fn:=λ_=>true
 pn:=[]
 xe:=λe s'=>wpAny (model P w) (A.deeper (envOfC qual scope s.heap.objs.size f cd)) (leaving (envOfC qual scope s.heap.objs.size f cd) e) (λ_ Z3=>CX outer H s E e Z3) (λe' Z3=>CX outer H s E e' Z3) s'
theorem A9{sc:Scope}(h:sc.names.lookup x=some .cell):∃c,(cellsFrom n sc.names []).lookup x=some c:=by have q:=Yb sc.names n [] (.inl h);exact Option.isSome_iff_exists.mp q
theorem Gv{K:Zc}
 (S:aO N ps scope)(hd:A.handled=none)(e0:K4 P w K mg base A outer s H)(hl:vs.length=ps.length)(r:Vals vs us)
 (x:InCallC s s.heap.objs.size (bindL (envOfC qual scope s.heap.objs.size f cd).kindOf (ps.zip us) λ_=>none) (cellsFrom (s.heap.objs.size+1) scope.names []) (bindC (envOfC qual scope s.heap.objs.size f cd).kindOf (ps.zip us) λ_=>none) s1) :
  Inv (u7 CX P w K mg base N qual scope f cd A outer s H E) [] (start N vs) H s1:=by
 have t_:ps.length<=N.length:=by have:=Xz List.length S.pre;grind
 obtain⟨h1,tk,rfl,hk⟩:=x.done;have ZE:∀b:Addr,b∉(u7 CX P w K mg base N qual scope f cd A outer s H E).ex:=λb z=>absurd (show b∈([]:Za)from z) (by simp)
 refine((e0.mod,S.kind,rfl,rfl,U4 _,λy z c h1 h2=>?_,λy hy=>?_,λy c _ h=>?_,λ_=>hd,Around.frames_deeper e0.frames,.inr (rfl,rfl),λb z=>absurd z (ZE b),e0.bs,e0.bsz,λb _ _=>ZE b,λb z=>absurd z (ZE b),e0.qw,e0.frf),
  rfl,e0.bare,Un.kept hk,(_,x.toInCall.ns,λi y v h1 h2 h3=>?_),λy c h=>(_,x.cell y c h),e0.hok.fresh (U4 _),λy c h=>?_,λp hp=>absurd (show p∈([]:Y5)from hp) (by simp),e0.hok.kept hk,?_)
 ·exact name_of_addr x.apart (Wg h1) (Wg h2)
 ·have hy:scope.names.lookup y=some .cell\/scope.names.lookup y=some .free:=hy;rcases hy with hy|hy
  ·exact A9 hy
  ·exact absurd rfl (S.nofree _ (Wg hy))
 ·exact Yt (x.above y c (Wg h))
 ·have hi:i<vs.length:=by
   unfold start at h2;by_cases hi:i<vs.length
   ·exact hi
   ·rw[VF (by simpa using hi)]at h2;rw[Xo]at h2;split at h2<;>cases h2
  have ha:vs[i]?=some v:=by
   unfold start at h2;rw[Vz (by simpa using hi),VS]at h2
   cases e:vs[i]? with
   |none=>rw[e]at h2;cases h2
   |some a=>rw[e]at h2;cases h2;rfl
  obtain⟨u,hu,rv⟩:=r.get ha;have hp:ps[i]?=some y:=by rw[<- S.pre,XZ #[1]];exact h1
  have ndP:ps.Nodup:=by rw[<- S.pre];exact S.nd.sublist (XH _ _)
  refine(u,rv,?_);rcases S.par y (Vs hp)with k|k
  ·exact .inl (k,yt ndP hp hu k)
  ·obtain⟨c,e⟩:=A9 (n:=s.heap.objs.size+1) k;refine .inr (.inl k,c,e,?_);have q:=x.cell y c e;rw[yu ndP hp hu (by show scope.names.lookup y≠_;rw[k];decide)]at q;exact q
 ·exact e0.hok.fresh (Yt (x.above y c (Wg h)))
 ·unfold start;show _=N.length;rw[Vh,Ve,XD];omega
theorem Q6{K:Zc}{dV kV doc pm h_ ct oc:Value}
 (lk:K.lookup f=some (oc,od,.func (PySem.W.fnOf name qual params body scope dV kV doc pm an h_ ct),Z4))(KF:PySem.W.codeIn K h_ qual=true)(S:aO N ps scope)
 (len:∀vs H Q E,sp vs H Q E->vs.length=ps.length)
 (y_:∀(A:Zm) (outer:List Env) (s:Zn) (H:Hp) (vs:List V) (Q:VK) (E:XK),cE k (A.deeper (envOfC qual scope s.heap.objs.size f h_))->sp vs H Q E ->
   ∃t,A6 (u7 CX P w K mg base N qual scope f h_ A outer s H E) body t/\t {nx:=λ_ H'=>Q .non H',rt:=Q} (start N vs) H) :
  jV P w K mg base CX (k+1) f (PySem.W.fnOf name qual params body scope dV kV doc pm an h_ ct) ps sp:=by
 refine(len,λA outer s H args us vs Q E hr e0 hb r hsp=>?_);have hl:=len _ _ _ _ hsp;have KX:K.In s.heap:=e0.mod.kin.keeps λb o e=>(e0.bs b o e).1;have lim:s.heap.NoLimit:=e0.mod.nolimit.keeps λb o e=>(e0.bs b o e).1
 have hkind:∀y∈ps.zip us,scope.names.lookup y.1=some .local\/(scope.names.lookup y.1=some .cell/\((cellsFrom (s.heap.objs.size+1) scope.names []).lookup y.1).isSome=true):=by
  rintro⟨n,v⟩ hy;rcases S.par n (YJ hy).1 with q|q
  ·grind
  ·exact .inr (q,Yb _ _ _ (.inl q))
 refine codeAny_call_function hr.depth (KX _ _ lk) rfl S.co S.gen rfl (PySem.W.codeRec_of KX KF) (hb _ _ _ _ ?_);refine wpAny_newFunctionEnv_cells S.kind hkind λenv he s1 x=>?_;subst he;refine(lim.keeps x.toInCall.keep,codeAny_func ?_);obtain⟨t,ht,hq⟩:=y_ A outer s H vs Q E (hr.deeper _) hsp;have I:Inv (u7 CX P w K mg base N qual scope f h_ A outer s H E) [] (start N vs) H s1:=Gv S hr.hd e0 hl r x;refine V7 (ht [] s1 (start N vs) H _ I hq) (λfl s' hs=>?_) λe s' hs=>hs
 have fin:∀{j_:St} {H':Hp} {v:V} {u:Value},Inv (u7 CX P w K mg base N qual scope f h_ A outer s H E) [] j_ H' s'->RelV v u->Q v H'->CE outer P w H s Q u s':=
  λ{j_ H' v u} J rv q=>(v,H',J.os,J.bare,J.base,J.hok,rv,q)
 cases fl with
 |ret u=>obtain⟨v,j_,H',J,rv,q⟩:=hs;exact fin J rv q
 |next=>obtain⟨j_,H',J,q⟩:=hs;exact fin (v:=V.non) (u:=Value.none) J rfl q
 |brk=>obtain⟨_,_,_,q⟩:=hs;exact False.elim q
 |cont=>obtain⟨_,_,_,q⟩:=hs;exact False.elim q
section
variable {X:Cx} {x:Str} {p pos:Pos} {e:Expr} {es:Ze} {t:TA} {id T:String} {r:List V->Hp->VK->Prop}
def Te(r:List V->Hp->VK->Prop)(t:TA):TE:=λσ H Q=>t σ H λvs H1=>r vs H1 Q
theorem Ba(hc:dB X (.builtin id) r)(hg:Gl X x)(hm:X.mg x=none)(hv:bootBuiltins x=some (.builtin id))(ha:PA X (e::es) t)(hn:x ≠ "__name__" := by decide)(x_:(x==("__debug__" : Str))=false:=by decide)
 (he:starEach (e::es) X.env=(false,eval e X.env)::starEach es X.env:=by rfl)(t_:(backTo pos (starEach es X.env)).any (·.1)=false:=by rfl):PE X (.Call (.Name x p) (e::es) [] pos) (Te r t):=by
 intro pins s σ H Q I h;refine V3 (mW I hg hm hv ?_ hn x_);exact Xn (bN (ha pos pins s σ H _ I h) (by rintro us s1 ⟨vs,H1,I1,r1,q1⟩;exact hc pins s1 σ H1 vs us Q I1 r1 q1)) he t_
theorem Gw(hc:dB X (.type T) r)(hg:Gl X x)(hm:X.mg x=none)(hv:bootBuiltins x=some (.type T))(ha:PA X (e::es) t)(hn:x ≠ "__name__" := by decide)(x_:(x==("__debug__" : Str))=false:=by decide)
 (he:starEach (e::es) X.env=(false,eval e X.env)::starEach es X.env:=by rfl)(t_:(backTo pos (starEach es X.env)).any (·.1)=false:=by rfl):PE X (.Call (.Name x p) (e::es) [] pos) (Te r t):=by
 intro pins s σ H Q I h;refine V3 (mW I hg hm hv ?_ hn x_);exact WR (bN (ha pos pins s σ H _ I h) (by rintro us s1 ⟨vs,H1,I1,r1,q1⟩;exact hc pins s1 σ H1 vs us Q I1 r1 q1)) he t_
end
end L2
namespace HT
open PySem PyProof.Rows
section
variable {prog:Zj} {w:World} {A:Zm} {E:Y4} {s:Zn}
theorem Ld(ht:IsTup s.heap t vs.toArray)(hb:IsTup s.heap b ws.toArray)(hv:vs≠[])
 (h1:ws=[]->Q (.ref t) s)(h2:ws≠[]->Q (.ref s.heap.objs.size) {s with heap:=s.heap.push {cls:=.type "tuple",data:=.seq (vs++ws).toArray}})
 (hsz:vs.length+ws.length<=sizeLine):wpAny (model prog w) A (binaryOp .Add (.ref t) (.ref b)) Q E s:=by
 obtain⟨⟨cls,dd,data,sl⟩,ho,hc,n,hd⟩:=id ht;obtain⟨⟨cls2,dd2,data2,Q_⟩,ho2,V_,n2,hd2⟩:=id hb;subst hc hd V_ hd2;by_cases hw:ws=[]
 ·exact concat_meets (_,ho,rfl) (_,ho2,rfl) noFill_tuple_add seq_tuple_add Yc X7 (X0 _ _)
   (tuple_addW1 t b vs.toArray ws.toArray n n2 dd dd2 sl Q_ (by grind) (by grind)) (ho,ho2,h1 hw)
 ·refine concat_meets (_,ho,rfl) (_,ho2,rfl) noFill_tuple_add seq_tuple_add Yc X7 (X0 _ _)
   (tuple_addW2 t b vs.toArray ws.toArray n n2 dd dd2 sl Q_ (by grind) (by simp_all) #[1]) (ho,ho2,?_)
  simp_all
def gq(n d:Nat):Option Int->Nat
 |none=>d
 |some v=>if v<0 then(v+(n:Int)).toNat else min v.toNat n
theorem Oz(n d:Nat)(hd:d<=n)(o:Option Int):gq n d o<=n:=by
 cases o with
 |none=>exact hd
 |some v=>
  show(if v<0 then(v+(n:Int)).toNat else min v.toNat n)<=n
  grind
theorem EN(v:Int)(n d:Nat):(if v<0 then max (v+(n:Int)) 0 else min v (n:Int))=((gq n d (some v):Nat):Int):=by
 show _=(((if v<0 then(v+(n:Int)).toNat else min v.toNat n):Nat):Int)
 grind
theorem Dq(lo hi:Option Int)(n:Nat):Builtin.Slice.sliceAdjust lo hi 1 (n:Int)=(((gq n 0 lo:Nat):Int),((gq n n hi:Nat):Int)):=by
 refine Prod.ext ?_ ?_
 ·cases lo with
  |none=>rfl
  |some v=>exact EN v n 0
 ·cases hi with
  |none=>rfl
  |some v=>exact EN v n n
theorem Ds(i j:Nat):Builtin.Slice.slicePlaces (i:Int) (j:Int) 1=j-i:=by
 grind[Builtin.Slice.slicePlaces]
theorem u9(p:IsPart v o)(h:Q o s):wpAny (model prog w) A (Builtin.Slice.slicePartIndex v) Q E s:=by
 cases p with
 |none=>exact slicePart_none h
 |int i t=>exact slicePart_int h
theorem kN{lo hi:Option Int}{Q:Int×Int×Nat->Zn->Prop}(hs:s.heap.IsSliceOf sl vl vu .none)(pl:IsPart vl lo)(pu:IsPart vu hi)
 (h:Q (((gq n 0 lo:Nat):Int),1,gq n n hi-gq n 0 lo) s):wpAny (model prog w) A (Builtin.Slice.sliceApplied (.ref sl) (pure (n:Int))) Q E s:=by
 obtain⟨os,hos,hcs,hds⟩:=id hs;refine UY (UY (Wn hos hds rfl (UY (Wn hos hds rfl (UY (Wn hos hds rfl (UZ ?_)))))));refine UY (slicePart_none ?_);refine UY (u9 pl (UY (u9 pu (UY (UZ ?_)))));show wpAny _ _ (match Builtin.Slice.sliceAdjust lo hi 1 (n:Int)with | (lo,hi)=>pure (Prod.mk (lo) (Prod.mk ((1:Int)) (Builtin.Slice.slicePlaces lo hi 1)))) _ _ s;rw[Dq lo hi n];show wpAny _ _ (pure (Prod.mk (((gq n 0 lo:Nat):Int)) (Prod.mk ((1:Int)) (Builtin.Slice.slicePlaces ((gq n 0 lo:Nat):Int) ((gq n n hi:Nat):Int) 1)))) _ _ s;rw[Ds];exact UZ h
theorem HW(xs:Zh)(i k:Nat):((List.range k).filterMap λ(m:Nat)=>xs[((i:Int)+(m:Int)*1).toNat]?).toArray=((xs.toList.drop i).take k).toArray:=by
 have e:(λ(m:Nat)=>xs[((i:Int)+(m:Int)*1).toNat]?)=λm=>xs[i+m]?:=by
  grind
 have:=pick_run xs i k;have e2:((λx=>xs[x]?)∘λx=>i+x)=λm=>xs[i+m]?:=rfl
 grind
theorem qz{lo hi:Option Int}(ht:IsTup s.heap t items)(hs:s.heap.IsSliceOf sl vl vu .none)(pl:IsPart vl lo)(pu:IsPart vu hi)
 (hw:¬ (gq items.size 0 lo=0/\gq items.size items.size hi=items.size))
 (h:Q (.ref s.heap.objs.size) {s with heap:=s.heap.push {cls:=.type "tuple",data:=.seq ((items.toList.drop (gq items.size 0 lo)).take (gq items.size items.size hi-gq items.size 0 lo)).toArray}})
 (hsz:items.size<=sizeLine):wpAny (model prog w) A (getItem (.ref t) (.ref sl)) Q E s:=by
 have W_:sizeOk (.seq ((items.toList.drop (gq items.size 0 lo)).take (gq items.size items.size hi-gq items.size 0 lo)).toArray):=by show((items.toList.drop (gq items.size 0 lo)).take (gq items.size items.size hi-gq items.size 0 lo)).toArray.size<=sizeLine;rw[Vq,XT,List.length_drop,V0];omega
 have hj:gq items.size items.size hi<=items.size:=Oz _ _ (U4 _) hi;obtain⟨os,hos,hcs,hds⟩:=id hs;have hTs:s.TypeIs (.ref sl) "slice" := (os,hos,hcs);unfold getItem
 try with_reducible refine VB ?_
 first|refine UY (UZ ?_)|skip
 refine UY (wpAny_sequenceKey ht.typeIs (by decide) ?_)
 refine UY (VA (name:=Str.ofString "__getitem__") ht.typeIs VT
  (Vt VT ht.typeIs entry_tuple_getitem ?_ (args_tuple_getitem _ _)))
 show wpAny _ _ (Builtin.Tuple.tupleItemsOf (.ref t) >>= _) _ _ s;refine UY (tupleItemsOf_ ht ?_);refine UY (X1 hTs ?_);rw[if_pos (by decide)];refine UY (kN hs pl pu ?_);have hno:¬ ((((gq items.size 0 lo:Nat):Int)==0&&(1:Int)==1&&(gq items.size items.size hi-gq items.size 0 lo)==items.size)=true):=by intro q;rw[U1,U1]at q;have q1:((gq items.size 0 lo:Nat):Int)=0:=eq_of_beq q.1.1;have q2:gq items.size items.size hi-gq items.size 0 lo=items.size:=eq_of_beq q.2;exact hw (by omega,by omega)
 show wpAny _ _ (if(((gq items.size 0 lo:Nat):Int)==0&&(1:Int)==1&&(gq items.size items.size hi-gq items.size 0 lo)==items.size)=true then _ else _) _ _ s;rw[if_neg hno,HW]
 first
  |exact UY (m:=Builtin.Tuple.tupleExact _) (VD (UZ (_,rfl,UZ h)) W_)
  |exact UY (m:=Builtin.Tuple.tupleExact _) (VD (UY (UZ (UZ (_,rfl,UZ h)))) W_)
  |exact UY (UY (m:=Builtin.Tuple.tupleExact _) (VD (UZ (UZ (_,rfl,UZ h))) W_))
  |exact UY (UY (m:=Builtin.Tuple.tupleExact _) (VD (UZ (_,rfl,UZ h)) W_))
end
end HT
namespace L2
open PySem PySem.Spec PyProof.Rows
abbrev TO:=St->Hp->(Option Int->Hp->Prop)->Prop
def PO(X:Cx)(e:Option Expr)(t:TO):Prop:=
 ∀(pins:Y5) (s:Zn) (σ:St) (H:Hp) (Q:Option Int->Hp->Prop),Inv X pins σ H s->t σ H Q ->
  wpAny (model X.prog X.w) X.A (evalPart e X.env) (λu s'=>∃o H',Inv X pins σ H' s'/\IsPart u o/\Q o H') X.xe s
def Le:TO:=λ_ H Q=>Q none H
def Q7(t:TE):TO:=λσ H Q=>t σ H λx H1=>∃i,x=.int i/\Q (some i) H1
section
variable {X:Cx} {e:Expr} {te:TE} {lo hi:Option Expr} {tl th:TO} {pos p2:Pos}
theorem Lf:PO X none Le:=by intro pins s σ H Q I h;exact UZ (none,H,I,.none,h)
theorem Lg(h:PE X e te):PO X (some e) (Q7 te):=by intro pins s σ H Q I hw;refine bN (h pins s σ H _ I hw) λu s1 ⟨x,H1,I1,r1,q1⟩=>?_;obtain⟨i,rfl,q⟩:=q1;obtain⟨t,rfl⟩:=r1;exact(some i,H1,I1,.int i t,q)
noncomputable def Q8(X:Cx)(r:V->Option Int->Option Int->Hp->VK->Prop):Prop:=
 ∀(pins:Y5) (s:Zn) (σ:St) (H:Hp) (x:V) (v vl vu:Value) (lo hi:Option Int) (sl:Addr) (Q:VK),Inv X pins σ H s->RelV x v->s.heap.IsSliceOf sl vl vu .none->IsPart vl lo->IsPart vu hi->r x lo hi H Q ->
  ∃T id,typeLookup (.type T) "__getitem__" = pure (some (.builtin id))/\s.TypeIs v T/\wpAny (model X.prog X.w) X.A (getItem v (.ref sl)) (EP X pins σ Q) X.xe s
def UL(r:V->Option Int->Option Int->Hp->VK->Prop)(te:TE)(tl th:TO):TE:=λσ H Q=>te σ H λx H1=>tl σ H1 λl H2=>th σ H2 λu H3=>r x l u H3 Q
theorem HX(hr:Q8 X r)(he:PE X e te)(hl:PO X lo tl)(hu:PO X hi th):PE X (.Subscript e (.Slice lo hi none p2) pos) (UL r te tl th):=by intro pins s σ H Q I h;refine Subscript_ (bN (he pins s σ H _ I h) λv s1 ⟨x,H1,I1,r1,q1⟩=>?_);refine wpAny_Slice (bN (hl pins s1 σ H1 _ I1 q1) λvl s2 ⟨l,H2,I2,pl,q2⟩=>bN (hu pins s2 σ H2 _ I2 q2) λvu s3 ⟨u,H3,I3,pu,q3⟩=>?_);refine UZ ?_;have I4:Inv X pins σ H3 {s3 with heap:=s3.heap.push {cls:=.type "slice",data:=.fields #[vl,vu,.none]}}:=I3.kept λb ob q=>U0 _ q;obtain⟨T,id,hT,ht,hg⟩:=hr pins {s3 with heap:=s3.heap.push {cls:=.type "slice",data:=.fields #[vl,vu,.none]}} σ H3 x v vl vu l u s3.heap.objs.size Q I4 r1 (Heap.IsSliceOf.new ..) pl pu q3;exact tail_any ht hT hg (by rfl)
def Bb(xs:List V)(lo hi:Option Int):List V:=(xs.drop (HT.gq xs.length 0 lo)).take (HT.gq xs.length xs.length hi-HT.gq xs.length 0 lo)
theorem tp(xs:List V)(lo hi:Option Int):(Bb xs lo hi).length<=xs.length:=by
 grind[Bb,List.length_take,List.length_drop]
def Tf(K:Zc):V->Option Int->Option Int->Hp->VK->Prop:=λx lo hi H Q=>∃a xs,x=.ref a/\i8 K H a xs /\
 ¬ (HT.gq xs.length 0 lo=0/\HT.gq xs.length xs.length hi=xs.length)/\∀p,H p=none->Q (.ref p) (upd H p (.tup (Bb xs lo hi)))
theorem OA:Q8 X (Tf X.K):=by intro pins s σ H x v vl vu lo hi sl Q I rx hs pl pu h;obtain⟨a,xs,rfl,hx,hw,q⟩:=h;cases rx;obtain⟨a_,r,ht,hz⟩:=I.tuple hx;have hlen:a_.toArray.size=xs.length:=r.length.symm;refine("tuple",_,VT.lookup,ht.typeIs,?_);refine HT.qz ht hs pl pu (by grind) ?_ (by simp_all);rw[hlen];refine(.ref s.heap.objs.size,_,I.laid (λb ob q=>U0 _ q) (U4 _) ?_,rfl,q _ (I.hok.fresh (U4 _)));exact(U8 (tp xs lo hi) hz,_,(r.drop _).take _,IsTup.new _ _)
def Q9(K:Zc):R2:=λx y H Q=>∃a b xs ys,x=.ref a/\y=.ref b/\i8 K H a xs/\i8 K H b ys/\xs≠[]/\xs.length+ys.length<=sizeLine /\
 (ys=[]->Q (.ref a) H)/\(ys≠[]->∀p,H p=none->Q (.ref p) (upd H p (.tup (xs++ys))))
theorem Vals.zz(r:Vals xs us):us=[]<->xs=[]:=by
 cases r with
 |nil=>simp
 |cons _ _=>simp
theorem Lh:jU X (binaryOp .Add) (Q9 X.K):=by intro pins s σ H x y v u Q I rx ry h;obtain⟨a,b,xs,ys,rfl,rfl,ha,hb,hx,hz,q1,q2⟩:=h;cases rx;cases ry;obtain⟨a_,r1,p1,_⟩:=I.tuple ha;obtain⟨k_,r2,p2,_⟩:=I.tuple hb;refine HT.Ld p1 p2 (λz=>hx (r1.zz.mp z)) (λz=>(.ref a,H,I,rfl,q1 (r2.zz.mp z))) (λz=>?_) (by grind[r1.length,r2.length]);refine(.ref s.heap.objs.size,_,I.laid (λb ob q=>U0 _ q) (U4 _) ?_,rfl,q2 (λw=>z (r2.zz.mpr w)) _ (I.hok.fresh (U4 _)));exact(by simp_all,_,r1.append r2,IsTup.new _ _)
end
def xS(n:Nat)(i:Int):Option Nat:=if 0<=i then(if i<n then some i.toNat else none)else if -(n:Int)<=i then some (i+n).toNat else none
def mU{α:Type}(xs:List α)(i:Int):Option α:=(xS xs.length i).bind λj=>xs[j]?
theorem EO(h:xS n i=some j):seqIndex? i n=some j/\j<n/\-(n:Int)<=i/\i<n:=by
 unfold xS at h;by_cases h0:0<=i
 ·rw[if_pos h0]at h;by_cases h1:i<n
  ·rw[if_pos h1]at h;have e:i.toNat=j:=Wm h;exact(by rw[seqIndex_of h0 h1,e],by omega,by omega,h1)
  grind
 ·rw[if_neg h0]at h;by_cases h1:-(n:Int)<=i
  ·rw[if_pos h1]at h;have e:(i+n).toNat=j:=Wm h;exact(by rw[seqIndex_neg #[1] h1,e],by omega,h1,by omega)
  grind
theorem ER(h:mU xs i=some v):∃j,seqIndex? i xs.length=some j/\xs[j]?=some v/\j<xs.length/\-(xs.length:Int)<=i/\i<xs.length:=by
 unfold mU at h
 cases e:xS xs.length i with
 |none=>simp_all
 |some j=>
  obtain⟨h1,h2,h3,h4⟩:=EO e
  simp_all
theorem qA{j:Nat}{v:α}(h:xs[j]?=some v):mU xs (j:Int)=some v:=by
 have hj  := (U9.mp h).1
 simp_all[xS,mU]
theorem va(xs:List α)(v:α):mU (xs++[v]) (-1)=some v:=by
 have e:xS (xs++[v]).length (-1)=some xs.length:=by
  unfold xS
  grind
 simp_all[mU]
def ES(b:Expr):Prop:=∀o i,subscripted b false o i=operate [o,i] (getItem o i)
noncomputable def Qy(X:Cx)(r:R2):Prop:=
 ∀(value slice:Expr) (pins:Y5) (s:Zn) (σ:St) (H:Hp) (x y:V) (v u:Value) (Q:VK),Inv X pins σ H s->RelV x v->RelV y u->r x y H Q ->
  subscripted slice false v u=operate [v,u] (getItem v u)->wpAny (model X.prog X.w) X.A (subscriptTail value slice v u) (EP X pins σ Q) X.xe s
noncomputable def UM(X:Cx)(id:String)(r:V->List V->Hp->VK->Prop):Prop:=
 ∀(pins:Y5) (s:Zn) (σ:St) (H:Hp) (x:V) (xs:List V) (v:Value) (us:Zb) (Q:VK),Inv X pins σ H s->RelV x v->Vals xs us->r x xs H Q ->
  wpAny (model X.prog X.w) X.A (call (.builtin id) (v::us)) (EP X pins σ Q) X.xe s
section
variable {X:Cx} {a b:Expr} {ta tb:TE} {pos:Pos}
theorem Ra(hr:Qy X r)(ha:PE X a ta)(hb:PE X b tb)(hs:ES b):PE X (.Subscript a b pos) (QU r ta tb):=by intro pins s σ H Q I h;exact Subscript_ (Oh ha hb I h λv u s2 x y H2 I2 rx ry q=>hr a b pins s2 σ H2 x y v u Q I2 rx ry q (hs _ _))
def Tg(K:Zc):R2:=λx y H Q=>∃p xs i v,x=.ref p/\y=.int i/\iA K H p xs/\mU xs i=some v/\Q v H
def Th(K:Zc):R2:=λx y H Q=>∃p xs i v,x=.ref p/\y=.int i/\i8 K H p xs/\mU xs i=some v/\Q v H
theorem zA:Qy X (Tg X.K):=by
 intro value slice pins s σ H x y v u Q I rx ry h hs;obtain⟨p,xs,i,z,rfl,rfl,hq,he,q⟩:=h;cases rx;obtain⟨t,rfl⟩:=ry;obtain⟨a_,r,pl,hz⟩:=I.list hq;obtain⟨j,h1,h2,h3,h4,h5⟩:=ER he;obtain⟨w,ew,Zr⟩:=r.get h2;have hl:=r.length;have hn:=u6;have fin:EP X pins σ Q w s:=(z,H,I,Zr,q);by_cases h0:0<=i
 ·have hj:i.toNat=j:=by
   simp_all[seqIndex_of,h0,h5]
  exact item_listR pl.isList h0 #[1] (by grind) fin hs
 ·have hj:(i+(a_.toArray.size:Int)).toNat=j:=by
   rw[seqIndex_neg #[1] h4]at h1;rw[Vq,<- hl];exact Wm h1
  exact subscriptTail_builtinR (x:=w) pl.isList.typeIs slot_list_getitem.lookup
   (wpAny_getItem_list_neg (Q:=λr s'=>r=w/\EP X pins σ Q r s') pl.isList #[1] (by rw[Vq]<;>omega) #[1] (by rw[hj];simpa using ew) (rfl,fin)) hs
theorem OB:Qy X (Th X.K):=by
 intro value slice pins s σ H x y v u Q I rx ry h hs;obtain⟨p,xs,i,z,rfl,rfl,hq,he,q⟩:=h;cases rx;obtain⟨t,rfl⟩:=ry;obtain⟨a_,r,pl,hz⟩:=I.tuple hq;obtain⟨j,h1,h2,h3,h4,h5⟩:=ER he;obtain⟨w,ew,Zr⟩:=r.get h2;have hl:=r.length;have hn:=u6;have fin:EP X pins σ Q w s:=(z,H,I,Zr,q)
 exact subscriptTail_builtinR pl.typeIs slot_tuple_getitem.lookup
  (getItem_tuple (j:=j) pl #[1] #[1] (by grind) (by grind) (rfl,fin)) hs
theorem Dt(a_:Zb)(n j:Nat)(u:Value):Obj.mapSeq (·.setIfInBounds j u) {cls:=.type "list",data:=.seq a_.toArray n}={cls:=.type "list",data:=.seq (a_.set j u).toArray n}:=by simp[Obj.mapSeq]
theorem Inv.lst{σ:St}(I:Inv X pins σ H s)(h:H p=some (.lst xs)) :
  ∃(a_:Zb) (n:Nat),Vals xs a_/\s.heap.get? p=some {cls:=.type "list",data:=.seq a_.toArray n}/\xs.length<=sizeLine:=by
 obtain⟨z,a_,n,r,e⟩:=I.hok p _ h
 simp_all
theorem Inv.OC{σ:St}{a_ E_:Zb}(I:Inv X pins σ H s)(h:H p=some (.lst xs))
 (ho:s.heap.get? p=some {cls:=.type "list",data:=.seq a_.toArray n})(hf:f {cls:=.type "list",data:=.seq a_.toArray n}={cls:=.type "list",data:=.seq E_.toArray n'})(r:Vals ys E_)(hz:ys.length<=sizeLine)(t:Nat) :
  Inv X pins σ (upd H p (.lst ys)) {s with heap:=s.heap.update p f,toks:=t}:=by
 have e:(s.heap.update p f).get? p=some {cls:=.type "list",data:=.seq E_.toArray n'}:=by rw[Wi f ho (by rw[hf]<;>rfl),hf]
 refine I.write (by rw[h];trivial) (.inl rfl) (λb u hb q=>(Xw _ _ (X4 hb)).trans q) (_,e) ?_;exact(hz,E_,n',r,e)
def Nl:V->V->V->Hp->(Hp->Prop)->Prop:=λo i v H Q=>∃p xs k j,o=.ref p/\i=.int k/\H p=some (.lst xs)/\xS xs.length k=some j/\Q (upd H p (.lst (xs.set j v)))
theorem set_list:N7 X Nl:=by
 intro pins s σ H o i v ov iv u Q I ro ri rv h;obtain⟨p,xs,k,j,rfl,rfl,hp,hj,q⟩:=h;cases ro;obtain⟨t,rfl⟩:=ri;obtain⟨a_,n,r,ho,hz⟩:=I.lst hp;obtain⟨h1,h2,h3,h4⟩:=EO hj;have hl:=r.length;have hn:=u6
 have I':Inv X pins σ (upd H p (.lst (xs.set j v))) {s with heap:=s.heap.update p (Obj.mapSeq (·.setIfInBounds j u))}:=
  I.OC hp ho (Dt a_ n j u) (r.set rv j) (by grind) s.toks
 by_cases h0:0<=k
 ·have hk:k.toNat=j:=by
   simp_all[seqIndex_of,h0,h4]
  exact PySem.W.ki_setAt ho h0 #[1] (by grind) (by rw[hk];exact(_,I',q))
 ·have hk:(k+(a_.toArray.size:Int)).toNat=j:=by
   rw[seqIndex_neg #[1] h3]at h1;rw[Vq,<- hl];exact Wm h1
  exact PySem.W.ki_setBack ho #[1] (by rw[Vq,<- hl];exact h3) #[1] (by rw[hk];exact(_,I',q))
theorem zB(lo hi:Option Int)(n:Nat):(sliceBounds lo hi none n).1=((HT.gq n 0 lo:Nat):Int)/\(sliceBounds lo hi none n).2.1=((HT.gq n n hi:Nat):Int)/\(sliceBounds lo hi none n).2.2=1:=by
 refine(?_,?_,rfl)
 ·cases lo with
  |none=>rfl
  |some i=>
   simp only[sliceBounds,HT.gq,Option.getD_none,show(1:Int)>0 by decide,VR];by_cases h:i<0
   ·simp only[h,VR]<;>omega
   grind
 ·cases hi with
  |none=>rfl
  |some i=>
   simp only[sliceBounds,HT.gq,Option.getD_none,show(1:Int)>0 by decide,VR];by_cases h:i<0
   ·simp only[h,VR]<;>omega
   ·simp only[h,VQ]<;>omega
theorem xT(a_:Zb)(lo hi:Option Int):slicePick a_.toArray lo hi none=((a_.drop (HT.gq a_.length 0 lo)).take (HT.gq a_.length a_.length hi-HT.gq a_.length 0 lo)).toArray:=by obtain⟨h1,h2,h3⟩:=zB lo hi a_.toArray.size;unfold slicePick;rw[h1,h2,h3];simp only[sliceRange_one,pick_run]<;>rfl
def Ti(K:Zc):V->Option Int->Option Int->Hp->VK->Prop:=λx lo hi H Q=>∃a xs,x=.ref a/\iA K H a xs/\∀p,H p=none->Q (.ref p) (upd H p (.lst (Bb xs lo hi)))
theorem Li:Q8 X (Ti X.K):=by intro pins s σ H x v vl vu lo hi sl Q I rx hs pl pu h;obtain⟨a,xs,rfl,hx,q⟩:=h;cases rx;obtain⟨a_,r,ht,hz⟩:=I.list hx;have hlen:=r.length;refine("list",_,slot_list_getitem.lookup,ht.isList.typeIs,?_);refine wpAny_getItem_list_slice ht.isList hs pl pu .none (by simp) ?_ (by grind);rw[xT,<- hlen];refine(.ref s.heap.objs.size,_,I.laid (λb ob q=>U0 _ q) (U4 _) ?_,rfl,q _ (I.hok.fresh (U4 _)));exact(U8 (tp xs lo hi) hz,_,0,(r.drop _).take _,U5 _ rfl)
theorem dB.or(h:dB X f r)(h':dB X f r'):dB X f (λxs H Q=>r xs H Q\/r' xs H Q):=by
 intro pins s σ H xs us Q I rs q;rcases q with q|q
 ·exact h pins s σ H xs us Q I rs q
 ·exact h' pins s σ H xs us Q I rs q
theorem zC:dB X (.type "list") (λxs H Q=>∃p ys,xs=[.ref p]/\(iA X.K H p ys\/i8 X.K H p ys)/\∀l,H l=none->Q (.ref l) (upd H l (.lst ys))):=by
 intro pins s σ H xs us Q I r h;obtain⟨p,ys,rfl,hq,q⟩:=h;obtain⟨u,rfl,rx⟩:=vals1 r;cases rx
 have fin:∀(a_:Zb),Vals ys a_->ys.length<=sizeLine->∀(h':Heap) (c':Nat),_ ->
   h'.get? s.heap.objs.size=some {cls:=.type "list",dict:=none,data:=.seq a_.toArray c',slots:=#[]}->EP X pins σ Q _ {s with heap:=h'}:=λa_ r' hz h' c' kp e=>
  (.ref s.heap.objs.size,_,I.laid kp (U4 _) (show cX X.prog X.w _ h' _ (.lst ys)from(hz,a_,c',r',e)),rfl,q _ (I.hok.fresh (U4 _)))
 rcases hq with hq|hq
 ·obtain⟨a_,r',pl,hz⟩:=I.list hq;have hlen:=r'.length;obtain⟨o,ho,hc,n,hd⟩:=pl.isList;exact call_list_seq p (.inl rfl) ho hc hd (λh' c' kp e=>fin a_ r' hz h' c' kp e) (by grind)
 ·obtain⟨a_,r',pl,hz⟩:=I.tuple hq;have hlen:=r'.length;obtain⟨o,ho,hc,n,hd⟩:=pl;exact call_list_seq p (.inr rfl) ho hc hd (λh' c' kp e=>fin a_ r' hz h' c' kp e) (by grind)
theorem xU:dB X (.type "tuple") (λxs H Q=>∃p ys,xs=[.ref p]/\((iA X.K H p ys/\∀l,H l=none->Q (.ref l) (upd H l (.tup ys)))\/(i8 X.K H p ys/\Q (.ref p) H))):=by
 intro pins s σ H xs us Q I r h;obtain⟨p,ys,rfl,h⟩:=h;obtain⟨u,rfl,rx⟩:=vals1 r;cases rx;rcases h with⟨hq,q⟩|⟨hq,q⟩
 ·obtain⟨a_,r',pl,hz⟩:=I.list hq;have hlen:=r'.length;refine call_tuple_list pl.isList (λh' kp=>?_) (by grind);have I1:Inv X pins σ H {s with heap:=h'}:=I.kept kp
  have I2:Inv X pins σ (upd H h'.objs.size (.tup ys)) {s with heap:=h'.push {cls:=.type "tuple",data:=.seq a_.toArray}}:=
   I1.laid (λb o e=>U0 _ e) (U4 _) ((hz,a_,r',IsTup.new _ _))
  exact(.ref h'.objs.size,_,I2,rfl,q _ (I1.hok.fresh (U4 _)))
 ·obtain⟨a_,r',pl,hz⟩:=I.tuple hq;exact call_tuple_same pl (.ref p,H,I,rfl,q)
noncomputable def Ul(K:Zc)(T:String)(x:V)(H:Hp):Prop:=match x with
 |.str _=>T = "str"
 |.int _=>T = "int"
 |.ref p=>(T = "list" /\ ∃xs,iA K H p xs)\/(T = "tuple" /\ ∃o,K.lookup p=some o/\o.cls=.type "tuple" /\ o.dict=none) \/
   (T = "dict" /\ ((∃kvs,H p=some (.dK kvs))\/∃kvs,H p=some (.dT kvs)))\/(T = "set" /\ ∃S n,H p=some (.set S n))
 |_=>False
theorem OD{σ:St}(I:Inv X pins σ H s)(r:RelV x v)(ty:Ul X.K T x H) :
  s.TypeIs v T/\∀a,v=.ref a->∃ob,s.heap.get? a=some ob/\ob.dict=none:=by
 cases x with
 |str z=>obtain⟨t,rfl⟩:=r;cases(show T = "str" from ty);exact(typeIs_str s z t,λ_ e=>nomatch e)
 |int i=>obtain⟨t,rfl⟩:=r;cases(show T = "int" from ty);exact(typeIs_int s i t,λ_ e=>nomatch e)
 |ref p=>
  cases r;rcases ty with⟨rfl,xs,hq⟩|⟨rfl,o,hk,hc,hd⟩|⟨rfl,hk⟩|⟨rfl,S,n,hk⟩
  ·obtain⟨a_,_,pl,_⟩:=I.list hq;refine(pl.isList.typeIs,λa e=>?_);cases e;obtain⟨o,n,e,c,hd,_⟩:=pl
   grind
  ·refine((o,I.u0 p o hk,hc),λa e=>?_);cases e;exact(o,I.u0 _ o hk,hd)
  ·have z:∃o,s.heap.get? p=some o/\o.ExactDict:=by
    rcases hk with⟨kvs,hk⟩|⟨kvs,hk⟩
    ·obtain⟨_,_,_,_,o,_,_,e,ex,_⟩:=I.hok p _ hk
     grind
    ·obtain⟨_,_,_,_,o,_,_,e,ex,_⟩:=I.hok p _ hk;exact(o,e,ex)
   obtain⟨o,e,ex⟩:=z;refine((o,e,ex.1),λa e2=>?_);cases e2;exact(o,e,ex.2.1)
  ·obtain⟨o,_,_,_,e,ex,_⟩:=I.hok p _ hk;refine((o,e,ex.1),λa e2=>?_);cases e2;exact(o,e,ex.2.1)
 |_=>exact False.elim ty
def Um(K:Zc)(T:String)(r:V->List V->Hp->VK->Prop)(to:TE)(t:TA):TE:=λσ H Q=>to σ H λx H1=>Ul K T x H1/\t σ H1 λxs H2=>r x xs H2 Q
variable {o e:Expr} {es:Ze} {to:TE} {t:TA} {name:Str} {apos Fk:Pos} {T id:String} {r:V->List V->Hp->VK->Prop}
theorem Rb(pa:PlainAttrs T)(slot:Slot T name id)(hty:typeOf (.builtin id)=pure (.type "method_descriptor"))(hm:UM X id r)(ho:PE X o to)(ha:PA X (e::es) t)
 (ZO:attributeBase o name X.env (eval o X.env)=eval o X.env:=by rfl)
 (hfew:((backTo Fk (starEach (e::es) X.env)).all (λx=>!x.1)&&(backToKw Fk (keywordEach [] X.env)).all (λx=>x.1.isSome)
   && decide ((e::es).length+([]:List Keyword).length+(if([]:List Keyword).isEmpty then 0 else 1)<30))=true:=by rfl)
 (ZN:(apos.endLine==Fk.line)=true:=by rfl)(hs:starEach (e::es) X.env=(false,eval e X.env)::starEach es X.env:=by rfl)(ZP:(backTo Fk (starEach es X.env)).any (·.1)=false:=by rfl) :
  PE X (.Call (.Attribute o name apos) (e::es) [] Fk) (Um X.K T r to t):=by
 intro pins s σ H Q I h;refine wpAny_Call_method_late ZO hfew ZN rfl (bN (ho pins s σ H _ I h) λv s1 ⟨x,H1,I1,r1,ty,q1⟩=>?_);obtain⟨h1,h2⟩:=OD I1 r1 ty;refine(T,id,pa,slot,hty,h1,h2,?_);have hA:=ha Fk pins s1 σ H1 _ I1 q1;rw[hs]at hA ⊢;refine Calls.callWith_builtin (by simp_all) (Calls.evalArgs_plain ?_);exact bN hA (by rintro us s2 ⟨vs,H2,I2,r2,q2⟩;exact hm pins s2 σ H2 x vs v us Q I2 r1 r2 q2)
end
noncomputable def UN(X:Cx)(id:String)(r:V->List V->Hp->VK->Prop):Prop:=
 ∀(pins:Y5) (s:Zn) (σ:St) (H:Hp) (x:V) (xs:List V) (v:Value) (us:Zb) (Q:VK),Inv X pins σ H s->RelV x v->Vals xs us->r x xs H Q ->
  wpAny (model X.prog X.w) X.A (call (.builtin id) (v::us)) (EP X pins σ Q) X.xe s
theorem Vals.one:∀{x:V} {us:Zb},Vals [x] us->∃u,us=[u]/\RelV x u
 |_,_,.cons r .nil=>(_,rfl,r)
theorem Vals.rep(h:Vals xs us):∀k:Nat,Vals (List.replicate k xs).flatten (List.replicate k us).flatten
 |0=>.nil
 |k+1=>Vals.append h (Vals.rep h k)
theorem foldl_rep(a_:Zb):∀(k:Nat) (acc:Zb),
  List.foldl (λx1 x2=>x1++x2) acc.toArray (List.replicate k a_.toArray)=(acc++(List.replicate k a_).flatten).toArray
 |0,acc=>by simp
 |k+1,acc=>by
  have e:acc.toArray++a_.toArray=(acc++a_).toArray:=by simp
  have e2:(acc++a_)++(List.replicate k a_).flatten=acc++(List.replicate (k+1) a_).flatten:=by
   grind
  rw[<- e2,<- foldl_rep a_ k _,<- e,List.replicate_succ,List.foldl_cons]
section
variable {X:Cx} {pins:Y5} {σ:St} {H:Hp} {s:Zn} {l b:Addr} {xs ys zs:List V}
theorem Inv.Tj{a_ E_:Zb}(I:Inv X pins σ H s)(hH:H l=some (.lst xs))
 (e:s.heap.get? l=some {cls:=.type "list",data:=.seq a_.toArray n})(hf:f a_.toArray=E_.toArray)(hv:Vals ys E_)(hz:ys.length<=sizeLine) :
  Inv X pins σ (upd H l (.lst ys)) {s with heap:=s.heap.update l (Obj.mapSeq f),toks:=t'}:=by
 have q:=PySem.IsL.update e f;rw[hf]at q;refine I.write (by rw[hH];exact trivial) (.inl rfl) (λb' u hb hu=>(Xw s.heap _ (X4 hb)).trans hu) (_,q) ?_;exact(hz,E_,_,hv,q)
theorem Inv.Rc(I:Inv X pins σ H s)(hv:Vals ys a_)(hz:ys.length<=sizeLine) :
  Inv X pins σ (upd H s.heap.objs.size (.lst ys)) {s with heap:=s.heap.push {cls:=.type "list",data:=.seq a_.toArray},toks:=t'}:=
 I.laid (λ_ _ q=>U0 _ q) (U4 _) (hz,a_,0,hv,U5 _ rfl)
theorem Inv.fresh(I:Inv X pins σ H s):H s.heap.objs.size=none:=I.hok.fresh (U4 _)
theorem Inv.Lj(I:Inv X pins σ H s)(hH:H l=some (.lst xs)):xs.length<=sizeLine/\∃(a_:Zb) (n:Nat),Vals xs a_/\xs.length=a_.length/\s.heap.get? l=some {cls:=.type "list",data:=.seq a_.toArray n}:=by obtain⟨z,a_,n,r,e⟩:=I.hok l _ hH;exact(z,a_,n,r,r.length,e)
theorem HY(h:n<=sizeLine):Builtin.List.listTooLong n=false:=by
 grind[Builtin.List.listTooLong]
end
section
variable {X:Cx}
def Lk:V->List V->Hp->VK->Prop:=λx vs H Q=>∃l xs y,x=.ref l/\vs=[y]/\H l=some (.lst xs)/\xs.length<sizeLine/\Q .non (upd H l (.lst (xs++[y])))
theorem Gy:UN X "list.append" Lk:=by
 intro pins s σ H x vs v us Q I rx rv h;obtain⟨l,xs,y,rfl,rfl,hH,hz,q⟩:=h;cases rx;obtain⟨u,rfl,ru⟩:=rv.one;obtain⟨z,a_,n,r,hl,e⟩:=I.Lj hH;refine Yi F.slot_list_append (_,e,rfl) F.entry_list_append (F.args_list_append_2 _ _) (PySem.list_append l a_.toArray n u (by grind)) (e,?_);refine(.non,_,I.Tj hH e (by simp) (r.append (.cons ru .nil)) ?_,rfl,q)
 grind
def Tn:R2:=λx y H Q=>∃l b xs zs,x=.ref l/\y=.ref b/\H l=some (.lst xs)/\H b=some (.lst zs)/\xs.length+zs.length<=sizeLine/\∀p,H p=none->Q (.ref p) (upd H p (.lst (xs++zs)))
theorem OE:jU X (binaryOp .Add) Tn:=by
 intro pins s σ H x y v u Q I rx ry h;obtain⟨l,b,xs,zs,rfl,rfl,hH,hB,hz,q⟩:=h;cases rx;cases ry;obtain⟨z,a_,n,r,hl,e⟩:=I.Lj hH;obtain⟨z2,k_,n2,r2,Z8,e2⟩:=I.Lj hB;refine PySem.P.add_list e e2 ?_ (by grind);have ea:a_.toArray++k_.toArray=(a_++k_).toArray:=by simp
 rw[ea];exact(.ref _,_,I.Rc (r.append r2) (by grind),rfl,q _ I.fresh)
def To:R2:=λx y H Q=>∃l k xs,x=.ref l/\y=.int k/\H l=some (.lst xs)/\-(2^63)<=k/\k<2^63/\xs.length*k.toNat<=sizeLine /\
 ∀p,H p=none->Q (.ref p) (upd H p (.lst (List.replicate k.toNat xs).flatten))
theorem len_rep{α:Type}(xs:List α)(k:Nat):(List.replicate k xs).flatten.length=k*xs.length:=by simp
theorem OF:jU X (binaryOp .Mult) To:=by
 intro pins s σ H x y v u Q I rx ry h;obtain⟨l,k,xs,rfl,rfl,hH,h1,h2,hz,q⟩:=h;cases rx;obtain⟨t,rfl⟩:=ry;obtain⟨z,a_,n,r,hl,e⟩:=I.Lj hH;have hlen:a_.toArray.size*k.toNat<=sizeLine:=by grind
 have hcap:¬ a_.toArray.size*k.toNat>(2^63-1) / 8:=by
  have:(sizeLine:Nat)<=(2^63-1) / 8:=by decide
  omega
 have hfit:¬ (!Builtin.List.listFitsIndex k)=true:=by
  simp_all[fitsIndex_both,h1,h2]
 have hlong:¬ Builtin.List.listTooLong (a_.toArray.size*k.toNat)=true:=by
  simp_all[HY,hlen]
 have hnew:List.foldl (λx1 x2=>x1++x2) #[] (List.replicate (if a_.toArray.isEmpty=true then 0 else k.toNat) a_.toArray)=(List.replicate k.toNat a_).flatten.toArray:=by
  have f0:∀m:Nat,List.foldl (λx1 x2=>x1++x2) #[] (List.replicate m a_.toArray)=(List.replicate m a_).flatten.toArray:=λm=>by have:=foldl_rep a_ m [];rw[WT]at this;exact this
  rw[f0]
  cases a_ with
  |nil=>simp
  |cons a r'=>rw[if_neg (by simp)]
 refine wpAny_binaryOp_repeat_ref (T := "list") (U := "int") (by decide) (_,e,rfl) (λs'=>typeIs_int s' k t) noFill_list_mul F.fills_int_mul F.slot_int_rmul repeat_list F.slot_int_index.lookup
  (Yi F.slot_int_rmul (typeIs_int s k t) F.entry_int_rmul (F.args_int_rmul_2 _ _) (int___rmul___int_list k t l a_.toArray n)
   (e,rfl,(_,e,rfl),Yi F.slot_list_mul (_,e,rfl) F.entry_list_mul (F.args_list_mul_2 _ _) (AutoListH.list___mul___list_int_3 l a_.toArray n k t hfit hcap hlong) (e,?_)))
 rw[hnew];exact(.ref _,_,I.Rc (t':=s.toks) (r.rep k.toNat) (by rw[len_rep,Nat.mul_comm];exact hz),rfl,q _ I.fresh)
end
end L2
namespace Att
open PySem PySem.W PySem.Calls PyProof.Rows
theorem uq:∀(ns:List Int) (vs:Zb),WellAll P h vs (ns.map WData.int)->IntsAre vs ns:=by
 intro ns
 induction ns with
 |nil=>intro vs w;cases w;exact .nil
 |cons n ns ih=>
  intro vs w
  cases w with
  |cons a b=>cases a;exact .cons _ _ (ih _ b)
theorem Gz{l:OpenLaw}(hn:l.most=some n)
 (hpre:l.row.toRowW.claim.pre args=true)(hwl:WellAll P h vals args) :
  ∃a vs ns,vals=[Value.ref a]/\args=[WData.list (ns.map WData.int)]/\h.get? a=some {cls:=.type "list",data:=.seq vs.toArray}/\IntsAre vs ns/\ns.length<=n:=by
 have hsh  := (pre_splitW hpre).1;have hc:l.pre.holds [] {args:=args}=true:=(pre_splitW hpre).2;obtain⟨d,r,rfl,h1,h2⟩:=hasAllW_cons hsh;obtain rfl:=hasAllW_nil h2;obtain⟨xs,rfl,h3⟩:=hasW_list h1;obtain⟨ns,rfl⟩:=items_int h3
 have hlen:ns.length<=n:=by
  have h4:(WTm.not (.lt (.lit (.int (n:Int))) (.len (.arg 0)))).holds [] {args:=[.list (ns.map .int)]}=true:=by
   have h4:=(holds_andW hc).1
   simp_all
  have h5:=condW_of h4 (w_not (w_lt w_lit (w_len_list (w_arg rfl))))
  simp_all
 cases hwl with
 |cons w1 w2=>
  cases w2
  cases w1 with
  |list ho AC=>exact(_,_,ns,rfl,rfl,ho,uq ns _ AC,hlen)
theorem GA(l:OpenLaw)(args:List WData):l.row.toRowW.claim.post args (.bool true) args=true:=
 postW_of
  (show WShape.has [] _ .bool=true by rfl)
  (w_eq_bool (w_res rfl) w_lit) rfl
theorem Bc{l:OpenLaw}
 (hn:l.most=some n)(hdf:d.params.defaults=[])
 (call:∀(w:World) (s₀ f_:Zn) (mg mb:Y8) (fa:Addr) (o:Obj) (pm cd doc:Value) (a:Addr) (vs:Zb) (ns:List Int),
   Ground q loose [] XP w s₀ mg mb f_.heap->YP w f_.heap ->
   f_.heap.get? fa=some o->o.data=.func (docDef d.name d.params d.body d.scope pm cd doc)->f_.heap.CodeRec cd d.name->mg d.name=some (.ref fa) ->
   f_.heap.get? a=some {cls:=.type "list",data:=.seq vs.toArray}->IntsAre vs ns->ns.length<=n->f_.gens=#[] ->
   codeAny (model l.prog w) callerA (.call (.ref fa) ([.ref a],[])) (λr s'=>r=.ok (.ret (.bool true))/\OldK f_.heap s'.heap/\s'.os=f_.os/\AllBare s'.gens) f_) :
  WalkO q loose XP YP l.row.toRowW d [] (λf vs=>PySem.call f vs):=by
 intro w s₀ f_ mg mb G Y fa o pm cd doc dV kV ho hd KF hD hmg hg args vals as hpre hlay hrd hwl hlo;obtain rfl:dV=.none:=Dflts.none hD hdf;obtain rfl:kV=.none:=Dflts.noKw hD;obtain⟨a,vs,ns,rfl,rfl,hobj,hints,hlen⟩:=Gz hn hpre hwl;refine enter_call (XY (call w s₀ f_ mg mb fa o pm cd doc a vs ns G Y ho (fd_plain hd) KF hmg hobj hints hlen hg) λr s' hq=>?_);obtain⟨rfl,h2,h3,h4⟩:=hq;exact(.inl (.bool true,.bool true,[],rfl,λ_=>rfl,.bool true,GA l _,λ_=>(List.Pairwise.nil,λ_ hm=>(nomatch hm))),h2,h3,h4)
end Att
namespace L2
open PySem PySem.Spec PyProof.Rows
theorem yw:∀{vs:Zb} {ns:List Int},IntsAre vs ns->Vals (ns.map V.int) vs
 |_,_,.nil=>.nil
 |_,_,.cons n t h=>.cons (t,rfl) (yw h)
def OG(H:Hp):Prop:=∀b,H b=none\/∃o xs,H b=some (.frz o (.lst xs))
theorem HZ{K:Zc}
 (KX:K.In f_.heap)(PP:f_.heap.Ns mainGlobals mg)(hb:f_.heap.Ns builtinsNs mb)(hbb:∀x:Str,x ≠ "__name__" -> mb x=bootBuiltins x)(hlim:f_.heap.NoLimit)(hg:f_.gens=#[])
 (ha:f_.heap.get? a=some {cls:=.type "list",data:=.seq vs.toArray})(hi:IntsAre vs ns)(hl:ns.length<=sizeLine)(hr:cE k callerA)
 (F:∀base:Heap,K.In base->base.Ns mainGlobals mg->jV P w K mg base CX k fa fd [x] sp)(hbind:∀(s:Zn) (u:Value),BindsTo s fd ([u],[]) [(x,u)])
 (hsp:∀H:Hp,OG H->iA K H a (ns.map V.int)->sp [.ref a] H (λv _=>v=.bl true) λ_ _ _=>False)
 (hCX:∀H e s',CX [] H f_ (λ_ _ _=>False) e s'->False) :
  codeAny (model P w) callerA (.call (.ref fa) ([.ref a],[])) (λr s'=>r=.ok (.ret (.bool true))/\OldK f_.heap s'.heap/\s'.os=f_.os/\AllBare s'.gens) f_:=by
 have rv:=yw hi;have lenV:=hi.length
 have core:∀H:Hp,OG H->iA K H a (ns.map V.int)->ox P w H f_.heap->(∀b,H b≠none->b=a)->(H a≠none->K.lookup a=none) ->
   codeAny (model P w) callerA (.call (.ref fa) ([.ref a],[])) (λr s'=>r=.ok (.ret (.bool true))/\OldK f_.heap s'.heap/\s'.os=f_.os/\AllBare s'.gens) f_:=by
  intro H hO hS hok hA hK;have base_of:∀{b:Addr} {o:Obj},f_.heap.get? b=some o->H b=none->(zr f_.heap H).get? b=some o:=λe n=>Hw e n
  have ZE:∀{b:Addr} {o:Obj} {es:Zg} {ep:Nat},f_.heap.get? b=some o->o.data=.dict es ep->H b=none:=λ{b o es ep} e d=>by
   cases q:H b with
   |none=>rfl
   |some u=>have e':b=a:=hA b (by rw[q];simp);subst e';rw[ha]at e;cases e;have d':Data.seq vs.toArray _=Data.dict es ep:=d;cases d'
  have nsK:∀{b:Addr} {m:Y8},f_.heap.Ns b m->(zr f_.heap H).Ns b m:=λ{b m} ⟨o,es,ep,e,d,r⟩=>(o,es,ep,base_of e (ZE e d),d,r)
  have hKb:K.In (zr f_.heap H):=λb o e=>base_of (KX b o e) (by
   cases q:H b with
   |none=>rfl
   |some u=>
    have e':b=a:=hA b (by rw[q];simp);subst e'
    rw[hK (by rw[q];simp)]at e;cases e)
  have hM:Mod K mg (zr f_.heap H):=(hKb,nsK PP,(mb,nsK hb,hbb),by obtain⟨mc,h1,h2⟩:=hlim;exact(mc,nsK h1,h2));have e0:K4 P w K mg (zr f_.heap H) callerA [] f_ H:=(rfl,hM,λb o e=>KI e,Nat.le_of_eq (Gh _ _),trivial,λb hb=>absurd (show b∈([]:Za)from hb) (by simp),hok,.of_eq hg);refine XY ((F _ hKb (nsK PP)).run callerA [] f_ H ([.ref a],[]) [.ref a] [.ref a] _ _ hr e0 (hbind f_ (.ref a)) (.cons rfl .nil) (hsp H hO hS)) λr s' h=>?_
  cases r with
  |error e=>exact(hCX H e s' h).elim
  |ok fl=>
   cases fl with
   |next=>exact False.elim h
   |brk=>exact False.elim h
   |cont=>exact False.elim h
   |ret u=>
    obtain⟨v,H',os,bare,un,hok',r',q⟩:=h;have q':v=.bl true:=q;subst q';obtain rfl:u=Value.bool true:=r';refine(rfl,OldK.of_keep λb o e=>?_,os,bare)
    cases q:H b with
    |none=>exact un.keep b o e q (by intro z;exact absurd (show b∈([]:Za)from z) (by simp)) (by simp)
    |some u=>
     rcases hO b with z|⟨ob,xs,z⟩
     ·rw[q]at z;cases z
     ·have z2:=un.frzs b ob _ z;obtain⟨e1,_⟩:=hok b _ z;obtain⟨e2,_⟩:=hok' b _ z2;rw[e]at e1;cases e1;exact e2
 cases hk:K.lookup a with
 |some o=>have e:=KX a o hk;rw[ha]at e;cases e;refine core (λ_=>none) (λ_=>.inl rfl) (.inr (_,vs.toArray,_,hk,rfl,rfl,rfl,by rw[Vq,lenV];exact hl,by simpa using rv)) (λb u z=>by have z':(none:Option HO)=some u:=z;cases z') (λb z=>absurd rfl z) λz=>absurd rfl z
 |none=>
  refine core (λb=>if b=a then some (.frz {cls:=.type "list",data:=.seq vs.toArray} (.lst (ns.map V.int)))else none) (λb=>?_) (.inl (.inr ({cls:=.type "list",data:=.seq vs.toArray},if_pos rfl))) (λb u z=>?_) (λb z=>?_) λ_=>hk
  ·by_cases hb:b=a
   ·exact .inr (_,_,if_pos hb)
   ·exact .inl (if_neg hb)
  ·by_cases hb:b=a
   ·have z':=(if_pos hb).symm.trans z;cases z';subst hb;exact(ha,by rw[Ve];exact hl,vs,_,rv,ha)
   ·have z':=(if_neg hb).symm.trans z;cases z'
  ·by_cases hb:b=a
   ·exact hb
   ·exact absurd (if_neg hb) z
theorem Ll{l:PySem.W.OpenLaw}{K:Params->Zc}{CX:World->Nj}{sp:World->Sp}
 (hn:l.most=some n)(hn2:n<=sizeLine)(hdf:d.params.defaults=[])(hr:cE k callerA)
 (hY:∀(w:World) (h:Heap),YP w h->(K w.params).In h)
 (F:∀(w:World) (mg:Y8) (fa:Addr) (h:Heap),(K w.params).In h->h.Ns mainGlobals mg->mg d.name=some (.ref fa) ->
   ∃fd:FuncData,(∀(s:Zn) (u:Value),BindsTo s fd ([u],[]) [(x,u)]) /\
    ∀base:Heap,(K w.params).In base->base.Ns mainGlobals mg->jV l.prog w (K w.params) mg base (CX w) k fa fd [x] (sp w))
 (hsp:∀(w:World) (H:Hp) (a:Addr) (ns:List Int),ns.length<=n->OG H->iA (K w.params) H a (ns.map V.int)->sp w [.ref a] H (λv _=>v=.bl true) λ_ _ _=>False)
 (hCX:∀(w:World) (H:Hp) (s:Zn) (e:Value) (s':Zn),CX w [] H s (λ_ _ _=>False) e s'->False) :
  PySem.W.WalkO q loose XP YP l.row.toRowW d [] (λf vs=>PySem.call f vs):=by
 refine Att.Bc hn hdf λw s₀ f_ mg mb fa o pm cd doc a vs ns G Y ho hd KF hmg hobj hints hlen hg=>?_;have KX:=hY w _ Y;obtain⟨fd,hb,hF⟩:=F w mg fa _ KX G.T.g hmg;exact HZ KX G.T.g G.T.b G.T.builtins G.T.nolimit hg hobj hints (U8 hlen hn2) hr hF hb (λH hO hS=>hsp w H a ns hlen hO hS) λH e s'=>hCX w H f_ e s'
end L2
namespace L2
open PySem PySem.Spec PyProof.Rows
def ie(s:Stmt):Arguments:=match s with
 |.FunctionDef _ a _ _ _ _ _ _ _ _=>a
 |_=>{posonlyargs:=[],args:=[],vararg:=none,kwonlyargs:=[],kw_defaults:=[],kwarg:=none,defaults:=[]}
def eK(s:Stmt):List Stmt:=match s with
 |.FunctionDef _ _ b _ _ _ _ _ _ _=>b
 |_=>[]
def av(s:Stmt):Scope:=match s with
 |.FunctionDef _ _ _ _ _ _ sc _ _ _=>sc
 |_=>{kind:=.function,names:=[],isGenerator:=false,isCoroutine:=false}
structure Lm(K:Zc)(x qual:Str)(st:Stmt)(f:Addr)(fd:FuncData):Prop where
 ex:∃(oc:Value) (od:Option Addr) (kV doc pm:Value) (an:Option Addr) (h_ ct:Value) (Z4:Zf),
  fd=PySem.W.fnOf x qual (ie st) (eK st) (av st) .none kV doc pm an h_ ct/\K.lookup f=some (oc,od,.func fd,Z4)/\PySem.W.codeIn K h_ qual=true
 kp:PySem.W.keepIn K (.ref f)=true
section
variable {P:Zj} {w:World} {K:Zc} {mg:Y8} {base:Heap}
theorem Lm.binds{st:Stmt}(F:Lm K x qual st f fd)
 (h:∀(kV doc pm:Value) (an:Option Addr) (h_ ct:Value) (us:Zb),us.length=ps.length->bindArgs (PySem.W.fnOf x qual (ie st) (eK st) (av st) .none kV doc pm an h_ ct) (us,[])=pure (ps.zip us)):Binds K fd ps []:=by
 obtain⟨oc,od,kV,doc,pm,an,h_,ct,Z4,rfl,lk,KF⟩:=F.ex;exact .all (h kV doc pm an h_ ct)
theorem zD{st:Stmt}{kV doc pm h_ ct:Value}(l:K.lookup f=some (oc,od,.func (PySem.W.fnOf x qual (ie st) (eK st) (av st) .none kV doc pm an h_ ct),Z4))
 (c:PySem.W.codeIn K h_ qual=true)(k:PySem.W.keepIn K (.ref f)=true):Lm K x qual st f (PySem.W.fnOf x qual (ie st) (eK st) (av st) .none kV doc pm an h_ ct):=((oc,od,kV,doc,pm,an,h_,ct,Z4,rfl,l,c),k)
end
def bZ(H H':Hp):Prop:=∀b o,H b=some o->H' b=some o
theorem bZ.refl(H:Hp):bZ H H:=λ_ _ h=>h
theorem bZ.trans(a:bZ H H1)(b:bZ H1 H2):bZ H H2:=λc o h=>b c o (a c o h)
theorem bZ.free(e:bZ H H')(h:H' l=Option.none):H l=Option.none:=by
 cases q:H l with
 |none=>rfl
 |some o=>rw[e l o q]at h;cases h
theorem bZ.seq{K:Zc}(e:bZ H H')(h:iA K H a xs):iA K H' a xs:=by
 rcases h with(h|⟨o,h⟩)|h
 ·exact .inl (.inl (e _ _ h))
 ·exact .inl (.inr (o,e _ _ h))
 ·exact .inr h
def fz(cells:List (Str×Addr)):List (Str×NameKind)->List (Str×Addr)->List (Str×Addr)
 | [],acc=>acc
 | (n,k)::r,acc=>if k == .free then fz cells r ((n,(cells.lookup n).getD 0)::acc)else fz cells r acc
theorem pB:∀(names:List (Str×NameKind)) (acc:List (Str×Addr)),(∀n,(n,NameKind.free)∈names->∃c,env.cells.lookup n=some c) ->
  (forIn (m:=Sem) names acc λ(x:Str×NameKind) (cs:List (Str×Addr))=>match x with
   | (name,kind)=>if(kind==NameKind.free)=true then(do let a <- cellOf env name;pure (ForInStep.yield ((name,a)::cs)))else pure (ForInStep.yield cs))=pure (fz env.cells names acc)
 | [],acc,_=>by rfl
 | (n,k)::r,acc,h=>by
  rw[Wo];unfold fz;by_cases hk:(k==NameKind.free)=true
  ·obtain⟨c,hc⟩:=h n (by grind);have e:cellOf env n=pure c:=by simp[cellOf,hc]
   simp only[hk,VR];rw[e,hc];exact pB r _ λm hm=>h m (U2 _ hm)
  ·simp only[hk];exact pB r _ λm hm=>h m (U2 _ hm)
theorem dY(h:∀n,(n,NameKind.free)∈scope.names->∃c,env.cells.lookup n=some c):closureFor scope env=pure (fz env.cells scope.names []):=by
 have q:=pB scope.names [] h
 simp_all[closureFor]
theorem oA:∀{names:List (Str×NameKind)} {acc:List (Str×Addr)},(x,NameKind.free)∉names->(fz cells names acc).lookup x=acc.lookup x
 | [],_,_=>rfl
 | (n,k)::r,acc,h=>by
  unfold fz;by_cases hk:(k==NameKind.free)=true
  ·rw[if_pos hk,oA λz=>h (U2 _ z),WJ]
   have:(x==n)=false:=by
    grind
   rw[this]
  ·rw[if_neg hk,oA λz=>h (U2 _ z)]
theorem ji:∀{names:List (Str×NameKind)} {acc:List (Str×Addr)},(x,NameKind.free)∈names->(fz cells names acc).lookup x=some ((cells.lookup x).getD 0)
 | (n,k)::r,acc,h=>by
  unfold fz;by_cases hr:(x,NameKind.free)∈r
  ·by_cases hk:(k==NameKind.free)=true
   ·rw[if_pos hk];exact ji hr
   ·rw[if_neg hk];exact ji hr
  ·rcases Vb.mp h with e|e
   ·cases e;rw[if_pos (show(NameKind.free==NameKind.free)=true from rfl),oA hr,WJ];simp
   grind
theorem dZ:∀(names:List (Str×NameKind)) (n:Nat) (acc:List (Str×Addr)),cellsFrom n names acc=cellsFrom n names []++acc
 | [],_,_=>rfl
 | (x,k)::r,n,acc=>by
  unfold cellsFrom;by_cases hk:(k==NameKind.cell)=true
  ·rw[if_pos hk,if_pos hk,dZ r (n+1) ((x,n)::acc),dZ r (n+1) [(x,n)],Yj];rfl
  ·rw[if_neg hk,if_neg hk];exact dZ r n acc
theorem ig:∀{names:List (Str×NameKind)} {n:Nat},(x,c)∈cellsFrom n names []->(x,NameKind.cell)∈names/\n<=c
 | [],_,h=>nomatch h
 | (y,k)::r,n,h=>by
  unfold cellsFrom at h;by_cases hk:(k==NameKind.cell)=true
  ·rw[if_pos hk,dZ]at h;rcases Vd.mp h with h|h
   ·obtain⟨h1,h2⟩:=ig h;exact(U2 _ h1,by omega)
   ·have e:(Prod.mk (x) (c))=(y,n):=by simpa using h
    cases e;have:=eq_of_beq hk;subst this;exact(Vj,U4 _)
  ·rw[if_neg hk]at h;obtain⟨h1,h2⟩:=ig h;exact(U2 _ h1,h2)
structure cj(sc:Scope)(N own:Zd)(scope:Scope):Prop where
 kind:scope.kind=.function
 frees:∀n,(n,NameKind.free)∈scope.names->sc.names.lookup n=some .cell\/sc.names.lookup n=some .free
 own:∀x∈own,(x,NameKind.free)∉scope.names
 out:∀x∈N,scope.names.lookup x≠some .local/\scope.names.lookup x≠some .cell
 uniq:∀p∈scope.names,scope.names.lookup p.1=some p.2
noncomputable def c7(sc:Scope)(N own:Zd)(scope:Scope):Bool:=
 (scope.kind == .function)&&scope.names.all (λp=>p.2 != .free || (sc.names.lookup p.1==some .cell) || (sc.names.lookup p.1==some .free)) &&
 own.all (λx=>scope.names.all λp=>!(p.1==x&&p.2 == .free))&&N.all (λx=>scope.names.lookup x != some .local&&scope.names.lookup x != some .cell) &&
 scope.names.all (λp=>scope.names.lookup p.1==some p.2)
theorem cj.of{N own:Zd}(h:c7 sc N own scope=true):cj sc N own scope:=by
 unfold c7 at h;simp only[U1]at h;obtain⟨⟨⟨⟨h1,h2⟩,h3⟩,h4⟩,h5⟩:=h;refine(eq_of_beq h1,λn hn=>?_,λx hx hn=>?_,λx hx=>?_,λp hp=>?_)
 ·have:=Vg.mp h2 _ hn
  simp_all
 ·have:=Vg.mp (Vg.mp h3 x hx) _ hn
  simp_all
 ·simp_all
 grind
theorem mZ{env:Env}:∀(names:List (Str×NameKind)),
  (names.map λ(n,k)=>if(k==NameKind.free&&env.scope.kind == .function&&env.kindOf n==some .cell)then(n,NameKind.cell)else(n,k)).lookup x
   = (names.lookup x).map λk=>if(k==NameKind.free&&env.scope.kind == .function&&env.kindOf x==some .cell)then NameKind.cell else k
 | []=>rfl
 | (n,k)::r=>by
  have ih:=mZ (env:=env) (x:=x) r;rw[Vu];show List.lookup x ((if(k==NameKind.free&&env.scope.kind == .function&&env.kindOf n==some .cell)=true then(n,NameKind.cell)else(n,k))::_)=_;by_cases hc:(k==NameKind.free&&env.scope.kind == .function&&env.kindOf n==some .cell)=true
  ·rw[if_pos hc,WJ,WJ]
   cases hx:x==n with
   |true=>simp_all
   |false=>exact ih
  ·rw[if_neg hc,WJ,WJ]
   cases hx:x==n with
   |true=>have:=eq_of_beq hx;subst this;exact Xz some (if_neg hc).symm
   |false=>exact ih
theorem mem_of_lookupK{names:List (Str×NameKind)}(h:names.lookup x=some k):(x,k)∈names:=Wg h
noncomputable def pC(scope:Scope)(C:Addr)(env:Env):Env:=
 {scope:=relabel scope env,locals:=C,globals:=env.globals,cells:=cellsFrom (C+1) scope.names (fz env.cells scope.names []),qual:=env.qual,func:=none,code:=env.code,frame:=env.frame,builtins:=env.builtins}
theorem xV
  (hQ:Q {scope:=scope,locals:=s.heap.objs.size,globals:=env.globals,cells:=cellsFrom (s.heap.objs.size+1) scope.names cl,qual:=env.qual,func:=none,code:=env.code,frame:=env.frame,builtins:=env.builtins}
   {s with heap:=pushCells (s.heap.push {cls:=.type "dict",data:=.dict #[]}) scope.names}) :
  wpAny M A (newFunctionEnv scope env.globals cl [] env.qual none .none (some env)) Q E s:=by
 refine UY (wpAny_alloc ?_);refine UY (wpAny_layCells _ (λname kind cells=>by rfl) _ _ _ _ ?_);rw[V1 ..];exact UZ hQ
noncomputable def aA(X:Cx)(own:Zd)(scope:Scope)(C:Addr)(s2:Zn)(H2:Hp)(fp:Za)(pins:Y5):Cx where
 prog:=X.prog
 w:=X.w
 K:=X.K
 mg:=X.mg
 base:=X.base
 A:=X.A
 N:=own++X.N
 s₀:=s2
 H₀:=H2
 env:=pC scope C X.env
 outer:=X.stack
 stack:=X.stack
 ex:=fp
 fn:=λx=>own.any (· == x)
 calm:=X.calm
 pn:=X.pn++pins
 xe:=λ_ _=>False
abbrev Cx.xW(X:Cx)(N':Zd):Cx:={X with N:=N'}
def oB(sc:Scope)(N N':Zd):Bool:=decide (N'.length=N.length)&&(N'.zip N).all λp=>p.1==p.2 || (sc.names.lookup p.1).isNone
theorem Inv.xW{σ:St}(I:Inv X pins σ H s)(h:oB X.env.scope X.N N'=true):Inv (X.xW N') pins σ H s:=by
 unfold oB at h;simp only[U1,Vy]at h;obtain⟨hl,ha⟩:=h;obtain⟨m,hn,hv⟩:=I.loc;have o:=I.ok;refine((o.mod,o.kind,o.glob,o.blt,o.above,o.inj,o.has,o.cab,o.hd,o.frames,o.stk,o.exf,o.bs,o.bsz,o.noex,o.exfs,o.qw,o.frf),I.os,I.bare,I.base,(m,hn,λi x v h1 h2 h3=>?_),I.cell,I.free,I.freeC,I.pin,I.hok,by rw[I.len];exact hl.symm);have h1':N'[i]?=some x:=h1;obtain⟨li,ei⟩:=U9.mp h1';have li2:i<X.N.length:=by rw[<- hl];exact li
 have hm:(x,X.N[i])∈N'.zip X.N:=by rw[Ws];exact(i,by simp;omega,by simp[ei])
 have q:=Vg.mp ha _ hm;simp only[Wc]at q;rcases q with q|q
 ·have e:=eq_of_beq q;exact hv i x v (by rw[Va li2,<- e]) h2 h3
 ·exfalso;have h3':Hx X.env.scope x:=h3;unfold Hx at h3';rw[Option.isNone_iff_eq_none.mp q]at h3';rcases h3' with z|z|z<;>cases z
def Kept(X:Cx)(fp:Za)(H H':Hp)(s s':Zn):Prop:=s'.os=s.os/\Un (A0 X.stack) fp H H' s.heap s'.heap/\ox X.prog X.w H' s'.heap/\AllBare s'.gens
theorem Kept.inv{σ:St}(k:Kept X fp H H' s s')(I:Inv X pins σ H s)(hf:∀b∈fp,jT X pins H b):Inv X pins σ H' s':=
 I.Nf k.1 k.2.1 k.2.2.1 k.2.2.2 λb hb=>((hf b hb).2.2.2.1,(hf b hb).2.1,(hf b hb).2.2.2.2.1,(hf b hb).2.2.2.2.2)
section
variable {X:Cx}
theorem jj(x:Str):(relabel scope X.env).names.lookup x=(scope.names.lookup x).map λk=>if(k==NameKind.free&&X.env.scope.kind == .function&&X.env.kindOf x==some .cell)then NameKind.cell else k:=
 mZ _
theorem eV(h:(pC scope C X.env).cells.lookup x=some c):((x,c)∈cellsFrom (C+1) scope.names []/\(x,NameKind.cell)∈scope.names/\C+1<=c)\/(fz X.env.cells scope.names []).lookup x=some c:=by
 have h':(cellsFrom (C+1) scope.names (fz X.env.cells scope.names [])).lookup x=some c:=h;rw[dZ,List.lookup_append]at h'
 cases e:(cellsFrom (C+1) scope.names []).lookup x with
 |some d=>rw[e]at h';cases h';have m:=Wg e;exact .inl (m,ig m)
 |none=>rw[e]at h';exact .inr h'
theorem m6(I:Inv X pins σ H2 s2)(CS:cj X.env.scope X.N own scope)(h:(fz X.env.cells scope.names []).lookup x=some c):(x,NameKind.free)∈scope.names/\X.env.cells.lookup x=some c:=by
 by_cases hf:(x,NameKind.free)∈scope.names
 ·rw[ji hf]at h;obtain⟨d,hd⟩:=I.ok.has x (CS.frees x hf)
  grind
 simp_all[oA]
theorem Ln(I:Inv X pins σ H2 s2)(CS:cj X.env.scope X.N own scope){C:Addr}(hC:s2.heap.objs.size<=C)(hf:∀b∈fp,jT X pins H2 b)(hl:∀b∈fp,b<s2.heap.objs.size):(aA X own scope C s2 H2 fp pins).Ok:=by
 have old:∀x c,(fz X.env.cells scope.names []).lookup x=some c->X.env.cells.lookup x=some c/\c<s2.heap.objs.size:=λx c h=>by obtain⟨_,q⟩:=m6 I CS h;obtain⟨v,z⟩:=I.cell x c q;exact(q,z.lt)
 refine(I.ok.mod,CS.kind,I.ok.glob,I.ok.blt,hC,λx y c h1 h2=>?_,λx hx=>?_,λx c hx h=>?_,I.ok.hd,I.ok.frames,.inl rfl,λb hb=>(?_,λx c h=>?_),I.bs,U8 I.ok.bsz I.sz,λb o e hb=>?_,λb hb z=>?_,I.stack,I.EH)
 ·rcases eV h1 with⟨a1,_,a2⟩|a1<;>rcases eV h2 with⟨b1,_,b2⟩|b1
  ·have ap:=(cellsFrom_ok scope.names {(default:Heap)with objs:=Array.replicate (C+1) default} (C+1) [] (λ_ _ hm=>(nomatch hm),List.Pairwise.nil) (by simp)).apart;simp only[Array.size_replicate]at ap;exact name_of_addr ap a1 b1
  ·exact absurd (Vf (old y c b1).2 (U8 hC (U8 (W5 _) a2))) (VE _)
  ·exact absurd (Vf (old x c a1).2 (U8 hC (U8 (W5 _) b2))) (VE _)
  ·exact I.ok.inj x y c (old x c a1).1 (old y c b1).1
 ·have UF:(relabel scope X.env).names.lookup x=some .cell\/(relabel scope X.env).names.lookup x=some .free:=hx;rw[jj]at UF;show ∃c,(cellsFrom (C+1) scope.names (fz X.env.cells scope.names [])).lookup x=some c;refine Option.isSome_iff_exists.mp (Yb _ _ _ ?_)
  cases e:scope.names.lookup x with
  |none=>rw[e]at UF;simp at UF
  |some k=>
   rw[e]at UF;by_cases hk:k=.free
   ·subst hk;exact .inr (by rw[ji (mem_of_lookupK e)];rfl)
   ·have hb:(k==NameKind.free)=false:=by simpa using hk
    simp only[Option.map_some,hb,XQ,Vc,VQ,Xe]at UF;rcases UF with q|q
    ·exact .inl (by rw[q])
    ·exact absurd q hk
 ·obtain⟨y,hy,e⟩:=VL.mp hx;have:=eq_of_beq e;subst this;rcases eV h with⟨_,_,a⟩|a
  ·exact U8 hC (U8 (W5 _) a)
  ·exact absurd (m6 I CS a).1 (CS.own _ hy)
 ·exact Vi (Vf (hl b hb) hC)
 ·rcases eV h with⟨_,_,a⟩|a
  ·exact X4 (Vi (Vf (hl b hb) (U8 hC (U8 (W5 _) a))))
  ·exact(hf b hb).2.2.2.2.1 x c (old x c a).1
 ·rcases(hf b hb).2.2.2.1 with z|z
  ·exact I.ok.noex b o e z
  ·exact absurd (Vf (U6 e) (U8 I.ok.bsz z)) (VE _)
 ·rcases Vb.mp (I.si b z)with e|e
  ·exact(hf b hb).2.1 e
  ·exact(hf b hb).2.2.1 e
theorem Bd(I:Inv X pins σ H2 s2)(CS:cj X.env.scope X.N own scope)(hc:∀c v,s2.heap.IsCell c v->(∃x,X.env.cells.lookup x=some c)->h.IsCell c v) :
  ∀(i:Nat) (x:Str) (v:V),(own++X.N)[i]?=some x->(List.replicate own.length (none:Option V)++σ)[i]?=some (some v)->Hx (relabel scope X.env) x->∃u,RelV v u/\Look (pC scope C X.env) h m x u:=by
 intro i x v h1 h2 h3
 have hi:own.length<=i:=by
  by_cases hi:own.length<=i
  ·exact hi
  ·rw[Vz (by simpa using hi),Xo]at h2;split at h2<;>cases h2
 rw[VF hi]at h1;rw[VF (by simpa using hi),XD]at h2;have hN:=CS.out x (Vs h1)
 have hfr:scope.names.lookup x=some .free:=by
  unfold Hx at h3;rw[jj]at h3
  cases e:scope.names.lookup x with
  |none=>rw[e]at h3;simp at h3
  |some k=>
   rw[e]at h3 hN;by_cases hk:k=.free
   ·rw[hk]
   ·have hb:(k==NameKind.free)=false:=by simpa using hk
    simp only[Option.map_some,hb,XQ,Vc,VQ,Xe]at h3;rcases h3 with q|q|q
    ·exact absurd (by rw[q]) hN.1
    ·exact absurd (by rw[q]) hN.2
    ·exact absurd q hk
 have hm:=mem_of_lookupK hfr;have hk:=CS.frees x hm;obtain⟨mX,hn,hl⟩:=I.loc;obtain⟨u,r,l⟩:=hl _ x v h1 h2 (hk.elim (λz=>.inr (.inl z)) λz=>.inr (.inr z));refine(u,r,?_);rcases l with⟨z,_⟩|⟨_,c,hcx,z⟩
 ·have z':X.env.scope.names.lookup x=some .local:=z;rcases hk with q|q<;>rw[q]at z'<;>cases z'
 ·refine .inr (?_,c,?_,hc c _ z (x,hcx))
  ·show(relabel scope X.env).names.lookup x=some .cell\/(relabel scope X.env).names.lookup x=some .free;rw[jj,hfr];simp only[Option.map_some];split
   ·exact .inl rfl
   ·exact .inr rfl
  ·show(cellsFrom (C+1) scope.names (fz X.env.cells scope.names [])).lookup x=some c;rw[dZ,List.lookup_append]
   have no:(cellsFrom (C+1) scope.names []).lookup x=none:=by
    cases e:(cellsFrom (C+1) scope.names []).lookup x with
    |none=>rfl
    |some d=>have:=CS.uniq _ (ig (Wg e)).1;simp only[]at this;rw[hfr]at this;cases this
   rw[no,ji hm,hcx];rfl
end
theorem Du(I:Nat->Zn->Prop)
 (turn:∀n s,I n s->wpAny (model prog w) A (pyNext it) (λr s1=>match r with
   |none=>R (.ok .next) s1
   |some v=>wpAny (model prog w) A (letOwnedTupleGo target it v) (λ_ s2=>wpAny (model prog w) A (assign target env v) (λ_ s3=>
     wpAny (model prog w) A (forIn ifs true λc r=>if r=true then do let ok <- isTrue c env (eval c env);pure (ForInStep.yield ok)else pure (ForInStep.yield r)) (λok s4=>
      if ok=true then wpAny (model prog w) A (eval elt env) (λx s5=>
       wpAny (model prog w) A (call (.builtin "list.append") [acc,x]) (λ_ s6=>∃m,m<n/\I m s6) (λ_ _=>False) s5) (λ_ _=>False) s4
      else ∃m,m<n/\I m s4) (λ_ _=>False) s3) (λ_ _=>False) s2) (λ_ _=>False) s1) (λ_ _=>False) s)
 (n:Nat)(h:I n s) :
  codeAny (model prog w) A (.compLoop (.ListComp elt [(target,iter,ifs,0)] scope pos) 0 it acc env) R s:=by
 refine codeAny_loop rfl I (λn s hI=>?_) n h;show wpAny _ A ((compTurn (.ListComp elt [(target,iter,ifs,0)] scope pos) 0 it acc env).onRaise (λx=>do noteFrame x env;theTreesLotGoes x)) _ _ s;refine wpAny_noted ?_;rw[compTurn_list];refine V7 (E:=λ_ _=>False) (E':=_) (Q':=_) ?_ (λ_ _ q=>q) λ_ _ z=>z.elim;refine UY (V9 (UY (bN (turn n s hI) (λr s1 h1=>?_))))
 cases r with
 |none=>exact UZ h1
 |some v=>
  refine UY (bN h1 λ_ s2 h2=>?_);refine UY (bN h2 λ_ s3 h3=>UY (bN h3 λok s4 h4=>?_))
  cases ok with
  |false=>exact UZ (rfl,h4)
  |true=>exact UY (UY (bN h4 λx s5 h5=>UY (bN h5 λ_ s6 h6=>UZ (UZ (rfl,h6)))))
noncomputable def C7(X:Cx)(ifs:Ze)(t:TT):Prop:=
 ∀(pins:Y5) (s:Zn) (σ:St) (H:Hp) (Q:Bool->Hp->Prop),Inv X pins σ H s->t σ H Q ->
  wpAny (model X.prog X.w) X.A (forIn ifs true λc r=>if r=true then do let ok <- isTrue c X.env (eval c X.env);pure (ForInStep.yield ok)else pure (ForInStep.yield r)) (TP X pins σ Q) X.xe s
def Tp:TT:=λ_ H Q=>Q true H
theorem Lo:C7 X [] Tp:=λ_ _ _ H _ I h=>wpAny_tests_nil (H,I,h)
theorem Lp(h:PT X c t):C7 X [c] t:=λpins s σ H Q I q=>wpAny_tests_one (h pins s σ H Q I q)
noncomputable def gW{β:Type}(n:Nat)(J:It)(g:TG)(tc:TT)(t0:β)(FIN:β->Hp->Prop)(PRE:β->Prop)(BODY:β->(β->Hp->Prop)->St->Hp->Prop)(σ:St)(H:Hp):Prop:=
 ∃W:Nat->Nat->β->Hp->Prop,(∃m,W 0 m t0 H)/\∀i m t H,W i m t H ->
  (J.stop i H/\FIN t H) \/
  (J.go i H/\PRE t/\∃N:β->Hp->Prop,(∀t' H',N t' H'->∃m',m'<m/\W (i+1) m' t' H')/\∀x H',J.yld i H x H'->g x (List.replicate n none++σ) H' λw_ H2=>tc w_ H2 λb H3=>
   if b=true then BODY t N w_ H3 else N t H3)
def Lq(Q:VK)(ys:List V)(H:Hp):Prop:=ys.length<=sizeLine/\∀p,H p=none->Q (.ref p) (upd H p (.lst ys))
def H0(n:Nat)(J:It)(g:TG)(tc:TT)(te:TE)(σ:St)(H:Hp)(Q:VK):Prop:=
 gW n J g tc [] (Lq Q) (λys=>ys.length<=sizeLine) (λys N w_ H3=>te w_ H3 λy H4=>N (ys++[y]) H4) σ H
theorem zE{okA:β->Obj->Prop}{BD:Addr->Env->(Zn->Prop)->Zn->Prop}{Q:VK}{σ:St}
 {RR:Value->Addr->Result->Zn->Prop}(I:Inv X pins σ H2 s2)(CS:cj X.env.scope X.N own scope)(hc:X.calm=true)(T:Turn X.prog X.w X.K tg J fp it tn)(st:tn 0 s2.heap)(hf:∀b∈fp,jT X pins H2 b)
 (hg:∀C s2 H2 fp pins,PG (aA X own scope C s2 H2 fp pins) tg g)(ht:∀C s2 H2 fp pins,C7 (aA X own scope C s2 H2 fp pins) ifs tc)
 (hsz:sizeOk d0)(hfr:({cls:=.type T0,dict:=none,data:=d0}:Obj).isFreed=false)(ok0:okA t0 {cls:=.type T0,dict:=none,data:=d0})(okd:∀t o,okA t o->∀v,o.data≠.cell v)
 (hfin:∀t o p H,s2.heap.objs.size<=p->H p=none->okA t o->FIN t H->∃ho,(∀H' h,h.get? p=some o->cX X.prog X.w H' h p ho)/\Q (.ref p) (upd H p ho))
 (lp:∀(D:Addr) (env:Env) (R:Result->Zn->Prop) (LI:Nat->Zn->Prop),(∀n s,LI n s->wpAny (model X.prog X.w) X.A (pyNext (.ref it)) (λr s1=>match r with
   |none=>R (.ok .next) s1
   |some v=>wpAny (model X.prog X.w) X.A (letOwnedTupleGo tg (.ref it) v) (λ_ s2=>wpAny (model X.prog X.w) X.A (assign tg env v) (λ_ s3=>
     wpAny (model X.prog X.w) X.A (forIn ifs true λc r=>if r=true then do let ok <- isTrue c env (eval c env);pure (ForInStep.yield ok)else pure (ForInStep.yield r)) (λok s4=>
      if ok=true then BD D env (λs6=>∃m,m<n/\LI m s6) s4
      else ∃m,m<n/\LI m s4) (λ_ _=>False) s3) (λ_ _=>False) s2) (λ_ _=>False) s1) (λ_ _=>False) s)->∀n s,LI n s ->
   codeAny (model X.prog X.w) X.A (.compLoop ce 0 (.ref it) (.ref D) env) R s)
 (hB:∀(C D:Addr) (o:Obj) (t:β) (N:β->Hp->Prop) (ps:Y5) (G_:St) (H7:Hp) (s7:Zn) (post:Zn->Prop),PRE t->okA t o->Inv (aA X own scope C s2 H2 fp pins) ((D,o)::ps) G_ H7 s7 ->
   (∀H',H' D=none->jT (aA X own scope C s2 H2 fp pins) ps H' D)->(∀(σ8:St) (H8:Hp) (s8:Zn) (t':β) (o':Obj),Inv (aA X own scope C s2 H2 fp pins) ps σ8 H8 s8->H8 D=none->s8.heap.get? D=some o'->okA t' o'->N t' H8->post s8) ->
   BODY t N G_ H7->BD D (pC scope C X.env) post s7)
 (Zt:∀(D:Addr) (env:Env) (R:Result->Zn->Prop) (s:Zn),codeAny (model X.prog X.w) X.A (.compLoop ce 0 (.ref it) (.ref D) env) R s->wpAny (model X.prog X.w) X.A (pyIter (.ref it)) (λit' s'=>codeAny (model X.prog X.w) X.A (.compLoop ce 0 it' (.ref D) env) R s') (notedBy (model X.prog X.w) X.A env λx s'=>R (.error x) s') s->codeAny (model X.prog X.w) X.A (.compStart ce 0 (.ref it) (.ref D) env) R s)
 (hW:gW own.length J g tc t0 FIN PRE BODY σ H2)
 (hR:∀D C H' s',Inv X pins σ H' s'->jT X pins H' C->(∃m,s'.heap.Ns C m)->Q (.ref D) H'->Kept X fp H2 H' s2 s'->RR (.ref D) C (.ok .next) s') :
  wpAny (model X.prog X.w) X.A (newObj (.type T0) d0 none) (λacc s3=>wpAny (model X.prog X.w) X.A (newFunctionEnv scope X.env.globals (fz X.env.cells scope.names []) [] X.env.qual none .none (some X.env)) (λGc s4=>
   codeAny (model X.prog X.w) X.A (.compStart ce 0 (.ref it) acc {Gc with scope:=relabel scope X.env}) (RR acc Gc.locals) s4) E s3) E s2:=by
 refine VD (xV ?_) hsz;dsimp only;generalize hH:s2.heap.push {cls:=.type T0,dict:=none,data:=d0}=h3;have hDC:h3.objs.size=s2.heap.objs.size+1:=by rw[<- hH,V1]
 have eC:({scope:=relabel scope X.env,locals:=h3.objs.size,globals:=X.env.globals,cells:=cellsFrom (h3.objs.size+1) scope.names (fz X.env.cells scope.names []),qual:=X.env.qual,func:=none,code:=X.env.code,frame:=X.env.frame,builtins:=X.env.builtins}:Env)=pC scope h3.objs.size X.env:=rfl;rw[eC];generalize eD:s2.heap.objs.size=D at *;generalize eCC:h3.objs.size=C at *;have hl:∀b∈fp,b<s2.heap.objs.size:=λb hb=>by obtain⟨o,e,_⟩:=T.obj 0 _ st b hb;exact U6 e
 have hC:s2.heap.objs.size<=C:=by omega
 generalize hH4:pushCells (h3.push {cls:=.type "dict",data:=.dict #[]}) scope.names=h4;have k34:∀b o,(h3.push {cls:=.type "dict",data:=.dict #[]}).get? b=some o->h4.get? b=some o:=λb o e=>by rw[<- hH4];exact pushCells_keeps _ _ b o e
 have k24:∀b o,s2.heap.get? b=some o->h4.get? b=some o:=λb o e=>k34 b o (U0 _ (by rw[<- hH];exact U0 _ e));have nsC:h4.Ns C λ_=>none:=by have:=Heap.Ns.new h3 (.type "dict");rw[eCC]at this;exact this.keeps k34
 have accD:h4.get? D=some {cls:=.type T0,dict:=none,data:=d0}:=k34 _ _ (U0 _ (by rw[<- hH,<- eD];exact U5 _ hfr));have cellN:∀x c,(x,c)∈cellsFrom (C+1) scope.names []->h4.IsCell c none/\C+1<=c:=λx c hm=>by have ok:=cellsFrom_ok scope.names (h3.push {cls:=.type "dict",data:=.dict #[]}) (C+1) [] (λ_ _ hm=>(nomatch hm),List.Pairwise.nil) (by rw[V1];omega);rw[V1,eCC,hH4]at ok;exact ok.empty x c hm
 have I_:H2 D=none:=by rw[<- eD];exact I.hok.fresh (U4 _)
 have ok':(aA X own scope C s2 H2 fp pins).Ok:=Ln I CS hC hf hl
 have rebase:∀{j_:St} {H':Hp} {ps:Y5} {s':Zn},Inv (aA X own scope C s2 H2 fp pins) ps j_ H' s'->Inv (aA X own scope C s2 H2 fp pins) ps (List.replicate own.length none++σ) H' s':=λ{j_ H' ps s'} J'=>by
  obtain⟨m,hn,_⟩:=J'.loc;refine(J'.ok,J'.os,J'.bare,J'.base,(m,hn,Bd I CS λc v z ⟨x,hx⟩=>?_),J'.cell,J'.free,J'.freeC,J'.pin,J'.hok,?_)
  ·obtain⟨o,ho,hd⟩:=z;obtain⟨sl,e⟩:=J'.base.any ho (I.freeC x c hx) λhb=>(hf c hb).2.2.2.2.1 x c hx rfl;exact(_,e,hd)
  ·show(List.replicate own.length none++σ).length=(own++X.N).length;rw[Vh,Vh,XD,I.len]
 have start:Inv (aA X own scope C s2 H2 fp pins) [] (List.replicate own.length none++σ) H2 {s2 with heap:=h4}:=by
  have I4:Inv X pins σ H2 {s2 with heap:=h4}:=I.kept (t':=s2.toks) k24;refine(ok',rfl,I.bare,Un.kept k24,(_,nsC,Bd I CS λc v z _=>z.keeps k24),λx c h=>?_,I.hok.fresh hC,λx c h=>?_,λp hp=>?_,I4.hok,?_)
  ·rcases eV h with⟨a,_,_⟩|a
   ·exact(_,(cellN x c a).1)
   ·obtain⟨v,z⟩:=I.cell x c (m6 I CS a).2;exact(v,z.keeps k24)
  ·rcases eV h with⟨_,_,a⟩|a
   ·exact I.hok.fresh (U8 hC (U8 (W5 _) a))
   ·exact I.freeC x c (m6 I CS a).2
  ·have hp':p∈X.pn++pins:=by
    rcases Vd.mp hp with z|z
    ·exact z
    ·exact nomatch z
   obtain⟨e,n,ne,nf,d⟩:=I.pin p hp';refine(k24 _ _ e,n,Vi (Vf (U6 e) hC),λz=>?_,d);rcases Vb.mp (I.si _ z)with q|q
   ·exact ne q
   ·exact nf q
  ·show(List.replicate own.length none++σ).length=(own++X.N).length;rw[Vh,Vh,XD,I.len]
 obtain⟨W,⟨m0,w0⟩,turn⟩:=hW
 have nfs:∀b,s2.heap.objs.size<=b->b∉(aA X own scope C s2 H2 fp pins).fs:=λb hb z=>by
  rcases Vb.mp (I.si b z)with q|q
  ·rw[q]at hb;exact absurd (Vf I.lt hb) (VE _)
  ·exact I.NW hb q
 have fpD:∀{H':Hp},H' D=none->jT (aA X own scope C s2 H2 fp pins) [] H' D:=λ{H'} hn=>by
  refine(hn,Vi (by show D<C;omega),nfs D #[1],.inr (by show s2.heap.objs.size<=D;omega),λx c h z=>?_,λp hp z=>?_)
  ·rcases eV h with⟨_,_,a⟩|a
   ·rw[z]at a;exact absurd (Vf (show D<C+1 by omega) a) (VE _)
   ·obtain⟨v,q⟩:=I.cell x c (m6 I CS a).2;have:=q.lt;rw[z,eD]at this;exact VE _ this
  ·have hp':p∈X.pn++pins:=by
    rcases Vd.mp hp with z|z
    ·exact z
    ·exact nomatch z
   have:=U6 (I.pin p hp').1;rw[z,eD]at this;exact VE _ this
 have nD:D∉fp:=λz=>by have:=hl D z;rw[eD]at this;exact VE _ this
 have SL:∀{H':Hp} {ps:Y5},(∀p∈ps,p.1=D)->(∀b∈fp,H' b=none)->∀b∈fp,jT (aA X own scope C s2 H2 fp pins) ps H' b:=λ{H' ps} hps hn b hb=>by
  obtain⟨f0,f1,f2,f3,f4,f5⟩:=hf b hb;refine(hn b hb,(ok'.exf b hb).1,ok'.exfs b hb,.inl hb,(ok'.exf b hb).2,λp hp=>?_);rcases Vd.mp hp with z|z
  ·exact f5 p z
  ·rw[hps p z];exact λq=>nD (q▸hb)
 let LI:Nat->Zn->Prop:=λn s'=>∃i t o H',Inv (aA X own scope C s2 H2 fp pins) [] (List.replicate own.length none++σ) H' s'/\tn i s'.heap/\(∀b∈fp,H' b=none)/\H' D=none /\
  s'.heap.get? D=some o/\okA t o/\W i n t H'
 have l0:LI m0 {s2 with heap:=h4}:=(0,t0,_,H2,start,T.keep _ _ _ st λb _ o e=>k24 b o e,λb hb=>(hf b hb).1,I_,accD,ok0,w0)
 have loop:codeAny (model X.prog X.w) X.A (.compLoop ce 0 (.ref it) (.ref D) (pC scope C X.env)) (RR (.ref D) C) {s2 with heap:=h4}:=by
  refine lp D _ _ LI ?_ m0 _ l0;rintro n s3 ⟨i,t,oD,H3,I3,st3,SC,d3,a3,v3,w3⟩;have I3p:=I3.pinned (fp:=[D]) (λb hb=>(Vm.mp hb)▸fpD d3) λb hb=>(_,(Vm.mp hb)▸a3,okd t oD v3);have ZL:∀p∈([]++gU [D] s3.heap),p.1=D:=λp hp=>by have q:p∈gU [D] s3.heap:=hp;have:=(oz q).1;simpa using this
  rcases turn i n t H3 w3 with⟨stop,qn⟩|⟨go,hz,NN,hNN,step⟩
  ·refine bN (T.done (aA X own scope C s2 H2 fp pins) rfl rfl rfl hc i _ s3 _ H3 _ I3p (SL ZL SC) st3 stop) λr s4 ⟨hr,I4⟩=>?_;subst hr;have a4:s4.heap.get? D=_:=(I4.pin (D,_) (U3 _ (U3 _ (df (by simp) a3)))).1;have u4:Un (A0 X.stack) fp H2 H3 s2.heap s4.heap:=I4.base;obtain⟨ho,Sh,qD⟩:=hfin t oD D H3 (U4 _) d3 v3 qn
   have okD:ox X.prog X.w (upd H3 D ho) s4.heap:=λb o e=>by
    by_cases hb:b=D
    ·subst hb;rw[bD]at e;cases e;exact Sh _ _ a4
    ·rw[aQ hb]at e;exact(I4.hok b o e).zq (λ_ _ _ q=>q) (λc q=>by rw[aQ (br q d3)];exact q) λc xs q=>by rw[aQ (br q d3)];exact q
   have nDo:∀b o,s2.heap.get? b=some o->b≠D:=λb o e=>by rw[<- eD];exact Vi (U6 e)
   have uD:Un (A0 X.stack) fp H2 (upd H3 D ho) s2.heap s4.heap:=(u4.keep,u4.slot,λb o e n hx=>by rw[aQ (nDo b o e)];exact u4.free b o e n hx,u4.there,
    λb xs e=>by rw[aQ (br e I_)];exact u4.tups b xs e,λb o xs e=>by rw[aQ (br e I_)];exact u4.frzs b o xs e,λb ps e=>by rw[aQ (br e I_)];exact u4.tbls b ps e)
   have kp:Kept X fp H2 (upd H3 D ho) s2 s4:=(I4.os,uD,okD,I4.bare);obtain⟨m,hn,_⟩:=I4.loc;refine hR D C _ s4 (kp.inv I hf) (by rw[aQ (show C≠D by omega)];exact I4.free,XC (Vf I.lt hC),I.NW hC,.inr (U8 I.sz hC),λx c e z=>?_,λp hp z=>?_) (m,hn) qD kp
   ·obtain⟨v,q⟩:=I.cell x c e;exact absurd (Vf q.lt (by rw[z];exact hC)) (VE _)
   ·exact absurd (Vf (U6 (I.pin p hp).1) (by rw[z];exact hC)) (VE _)
  ·refine bN (T.item (aA X own scope C s2 H2 fp pins) rfl rfl rfl hc i _ s3 _ H3 _ I3p (SL ZL SC) st3 go) λr s4 ⟨u,hr,h4'⟩=>?_;subst hr;refine bN h4' λ_ s5 ⟨x,H5,I5,r5,y5,st5,N_⟩=>?_;have I5p:=I5.pinned (fp:=fp) (SL ZL N_) (T.obj _ _ st5);have post:∀(σ8:St) (H8:Hp) (s8:Zn) (t':β) (o':Obj),Inv (aA X own scope C s2 H2 fp pins) (gU fp s5.heap) σ8 H8 s8->H8 D=none->s8.heap.get? D=some o'->okA t' o'->NN t' H8->∃m,m<n/\LI m s8:=λσ8 H8 s8 t' o' I8 d8 g8 k8 n8=>by obtain⟨m',hm,w8⟩:=hNN _ _ n8;refine(m',hm,i+1,t',o',H8,rebase (I8.ic λp hp=>nomatch hp),T.keep _ _ _ st5 λb hb o e=>(I8.pin (b,o) (U3 _ (df hb e))).1,λb hb=>?_,d8,g8,k8,w8);obtain⟨o,e,_⟩:=T.obj _ _ st5 b hb;exact(I8.pin (b,o) (U3 _ (df hb e))).2.1
   have re:∀{G_ H6 s6},Inv (aA X own scope C s2 H2 fp pins) (([]++gU [D] s3.heap)++gU fp s5.heap) G_ H6 s6->Inv (aA X own scope C s2 H2 fp pins) ((D,oD)::gU fp s5.heap) G_ H6 s6:=λ{G_ H6 s6} I6=>I6.ic λp hp=>by
    rcases Vb.mp hp with rfl|z
    ·exact I6.pin _ (U3 _ (Vr _ (U3 _ (df (by simp) a3))))
    ·exact I6.pin p (U3 _ (U3 _ z))
   refine bN (hg C s2 H2 fp pins _ s5 _ H5 x u _ I5p r5 (step x H5 y5)) λ_ s6 ⟨G_,H6,I6,q6⟩=>?_;refine bN (ht C s2 H2 fp pins _ s6 G_ H6 _ I6 q6) λb s7 ⟨H7,I7,q7⟩=>?_;have J7:=re I7
   cases b with
   |false=>have pD:=J7.pin (D,oD) (U3 _ (.head _));exact post G_ H7 s7 t oD (J7.ic λp hp=>J7.pin p (U3 _ (U2 _ hp))) pD.2.1 pD.1 v3 q7
   |true=>
    refine hB C D oD t NN _ G_ H7 s7 _ hz v3 J7 (λH' hn=>?_) post q7;obtain⟨f0,f1,f2,f3,f4,f5⟩:=fpD hn;refine(f0,f1,f2,f3,f4,λp hp=>?_);rcases Vd.mp hp with z|z
    ·exact f5 p (Vr _ z)
    ·exact λq=>nD (q▸(oz z).1)
 exact Zt D _ _ _ loop (T.self X.A 0 {s2 with heap:=h4} _ _ (T.keep _ _ _ st λb _ o e=>k24 b o e) loop)
theorem lP{σ:St}
 {RR:Value->Addr->Result->Zn->Prop}(I:Inv X pins σ H2 s2)(CS:cj X.env.scope X.N own scope)(hc:X.calm=true)(T:Turn X.prog X.w X.K tg J fp it tn)(st:tn 0 s2.heap)(hf:∀b∈fp,jT X pins H2 b)
 (hg:∀C s2 H2 fp pins,PG (aA X own scope C s2 H2 fp pins) tg g)(ht:∀C s2 H2 fp pins,C7 (aA X own scope C s2 H2 fp pins) ifs tc)(he:∀C s2 H2 fp pins,PE (aA X own scope C s2 H2 fp pins) elt te)
 (hW:H0 own.length J g tc te σ H2 Q)
 (hR:∀D C H' s',Inv X pins σ H' s'->jT X pins H' C->(∃m,s'.heap.Ns C m)->Q (.ref D) H'->Kept X fp H2 H' s2 s'->RR (.ref D) C (.ok .next) s') :
  wpAny (model X.prog X.w) X.A (newList []) (λacc s3=>wpAny (model X.prog X.w) X.A (newFunctionEnv scope X.env.globals (fz X.env.cells scope.names []) [] X.env.qual none .none (some X.env)) (λGc s4=>
   codeAny (model X.prog X.w) X.A (.compStart (.ListComp elt [(tg,iter,ifs,0)] scope pos) 0 (.ref it) acc {Gc with scope:=relabel scope X.env}) (RR acc Gc.locals) s4) E s3) E s2:=by
 exact zE (okA:=λys o=>∃a_ k,o={cls:=.type "list",data:=.seq (List.toArray a_) k}/\Vals ys a_) (t0:=[]) (PRE:=λys=>ys.length<=sizeLine) (FIN:=Lq Q) (BODY:=λys N w_ H3=>te w_ H3 λy H4=>N (ys++[y]) H4)
  (BD:=λacc env post s=>wpAny (model X.prog X.w) X.A (eval elt env) (λx s5=>wpAny (model X.prog X.w) X.A (call (.builtin "list.append") [.ref acc,x]) (λ_ s6=>post s6) (λ_ _=>False) s5) (λ_ _=>False) s)
  I CS hc T st hf hg ht (by size_fits) rfl ([],0,rfl,.nil) (by grind) (by rintro ys o p H _ hn ⟨a_,k,rfl,v⟩ ⟨hz,q⟩;exact(.lst ys,λ_ _ a=>(hz,a_,k,v,a),q p hn))
  (λD env R LI h n s=>Du LI h n) (by
   rintro C D o ys N ps G_ H7 s7 post hz ⟨a_,k,rfl,v3⟩ J7 fD pst q7;refine bN (he C s2 H2 fp pins _ s7 G_ H7 _ J7 q7) λv s8 ⟨y,H8,I8,r8,q8⟩=>?_;have pD:=I8.pin (D,_) (U3 _ (.head _));refine wpAny_list_append_plain (k,pD.1) (λh' hp hs=>?_) (by rw[Vq,<- v3.length];exact hz);obtain⟨k',e'⟩:=hp;obtain⟨f0,f1,f2,f3,f4,f5⟩:=fD H8 pD.2.1
   refine pst G_ H8 _ (ys++[y]) _ ((I8.ic λp hp=>I8.pin p (U3 _ (U2 _ hp))).turned (t':=s8.toks) (λb o hb e=>(hs.2 b hb).trans e) f0 f1 f3 f4 f5) pD.2.1 e' (a_++[v],k',by simp,v3.append (.cons r8 .nil)) q8)
  (λD env R s a b=>codeAny_compStart_list a b) hW hR
section
def yx(n:Nat)(wi:TI)(g:TG)(tc:TT)(te:TE):TE:=λσ H Q=>wi σ H λJ H1=>H0 n J g tc te σ H1 Q
theorem gX(CS:cj sc N own scope):∀x∈scope.names,x.2=.local->scope.names.lookup x.1=some .local:=λx hx e=>by rw[CS.uniq x hx,e]
theorem Ls(own:Zd)(CS:c7 X.env.scope X.N own scope=true)(hc:X.calm=true)(hi:PI X tg iter wi)(hg:∀C s2 H2 fp pins,PG (aA X own scope C s2 H2 fp pins) tg g)
 (ht:∀C s2 H2 fp pins,C7 (aA X own scope C s2 H2 fp pins) ifs tc)(he:∀C s2 H2 fp pins,PE (aA X own scope C s2 H2 fp pins) elt te)(hs:∀x,foldedSetIterable iter X.env x=pure x:=by intro _;rfl) :
  PE X (.ListComp elt [(tg,iter,ifs,0)] scope pos) (yx own.length wi g tc te):=by
 intro pins s σ H Q I h;have CS:=cj.of CS;refine Wj rfl hs (dY λn hn=>I.ok.has n (CS.frees n hn)) CS.kind (gX CS) (bN (hi pins s σ H _ I h) λv s1 h1=>bN h1 λZ5 s2 h2=>?_);obtain⟨it,fp,tn,J,H2,e,I2,T,FB,f2,hW⟩:=h2;subst e;refine lP I2 CS hc T FB f2 hg ht he hW λD C H' s' I' fC ⟨m,hn⟩ q _=>?_;refine(m,hn,λh' IR=>(.ref D,H',?_,rfl,q));obtain⟨f0,f1,_,f3,f4,f5⟩:=fC;exact I'.turned (λb o hb e=>(IR.2 b hb).trans e) f0 f1 f3 f4 f5
theorem Lu(own:Zd){pos' p_:Pos}(hN:X.N.Nodup)(ZF:X.N[i]?=some x)(hx:X.env.scope.names.lookup x=some .local)(CS:c7 X.env.scope X.N own scope=true)(hc:X.calm=true)(hi:PI X tg iter wi)(hg:∀C s2 H2 fp pins,PG (aA X own scope C s2 H2 fp pins) tg g)
 (ht:∀C s2 H2 fp pins,C7 (aA X own scope C s2 H2 fp pins) ifs tc)(he:∀C s2 H2 fp pins,PE (aA X own scope C s2 H2 fp pins) elt te)(hs:∀x,foldedSetIterable iter X.env x=pure x:=by intro _;rfl)
 (ZG:swapsWith (.ListComp elt [(tg,iter,ifs,0)] scope pos) (some (.Name x pos')) p_.line X.env=pure true:=by rfl) :
  PS X (.Assign [.Name x pos'] (.ListComp elt [(tg,iter,ifs,0)] scope pos) p_) (Dd (yx own.length wi g tc te) (af i)):=by
 intro pins s σ H D I h;have CS:=cj.of CS;rw[Yu _ _ _ _ ZG];refine UY (V9 (UY ?_));show wpAny _ X.A (do let _ <- comprehension (.ListComp elt [(tg,iter,ifs,0)] scope pos) scope X.env _ (newList []) false (eval iter X.env) (some (assign (.Name x pos') X.env))) _ _ s
 refine UY (bN (Wj (use:=some (assign (.Name x pos') X.env)) (Q:=λ_ s'=>SP X pins D .next s') (g:=(tg,iter,ifs,0)) rfl hs (dY λn hn=>I.ok.has n (CS.frees n hn)) CS.kind (gX CS)
  (bN (hi pins s σ H _ I h) λv s1 h1=>bN h1 λZ5 s2 h2=>?_)) λ_ s' hq=>UZ (UZ hq))
 obtain⟨it,fp,tn,J,H2,e,I2,T,FB,f2,hW⟩:=h2;subst e;refine lP (Q:=λx H1=>af i x σ H1 D.nx) (RR:=λacc C=>compPost (model X.prog X.w) X.A X.xe (some (assign (.Name x pos') X.env)) (λ_ s'=>SP X pins D .next s') acc C) I2 CS hc T FB f2 hg ht he hW λDl C H' s' I' fC ⟨m,hn⟩ q _=>?_;show wpAny _ _ (assign (.Name x pos') X.env (.ref Dl)) _ _ s';refine Ye (oy (v:=.ref Dl) I' hN ZF (.inl hx) rfl (λZ3 I'' hsb=>?_) (.inr hx));obtain⟨f0,f1,f2',f3,f4,f5⟩:=fC;obtain⟨a,sb,ha⟩:=hsb
 have hCa:C≠a:=by
  rcases ha with e|e
  ·rw[e];exact f1
  ·exact(f4 x a e).symm
 refine(m,hn.sameBut sb hCa,λh' IR=>(_,H',?_,q));exact I''.turned (t':=Z3.toks) (λb o hb e=>(IR.2 b hb).trans e) f0 f1 f3 f4 f5
theorem Ia(own N':Zd)(HL:oB X.env.scope X.N N'=true)(CS:c7 X.env.scope N' own scope=true)(hc:X.calm=true)(hi:PI X tg iter wi)(hg:∀C s2 H2 fp pins,PG (aA (X.xW N') own scope C s2 H2 fp pins) tg g)
 (ht:∀C s2 H2 fp pins,C7 (aA (X.xW N') own scope C s2 H2 fp pins) ifs tc)(he:∀C s2 H2 fp pins,PE (aA (X.xW N') own scope C s2 H2 fp pins) elt te)(hs:∀x,foldedSetIterable iter X.env x=pure x:=by intro _;rfl) :
  PE X (.ListComp elt [(tg,iter,ifs,0)] scope pos) (yx own.length wi g tc te):=by
 intro pins s σ H Q I h;have CS:=cj.of CS;refine Wj rfl hs (dY λn hn=>I.ok.has n (CS.frees n hn)) CS.kind (gX CS) (bN (hi pins s σ H _ I h) λv s1 h1=>bN h1 λZ5 s2 h2=>?_);obtain⟨it,fp,tn,J,H2,e,I2,T,FB,f2,hW⟩:=h2;subst e;refine lP (X:=X.xW N') (I2.xW HL) CS hc T FB f2 hg ht he hW λD C H' s' _ fC ⟨m,hn⟩ q kp=>?_;have I':Inv X pins σ H' s':=Kept.inv kp I2 f2;refine(m,hn,λh' IR=>(.ref D,H',?_,rfl,q));obtain⟨f0,f1,_,f3,f4,f5⟩:=fC;exact I'.turned (λb o hb e=>(IR.2 b hb).trans e) f0 f1 f3 f4 f5
theorem Ib(own N':Zd){pos' p_:Pos}(hN:X.N.Nodup)(ZF:X.N[i]?=some x)(hx:X.env.scope.names.lookup x=some .local)(HL:oB X.env.scope X.N N'=true)(CS:c7 X.env.scope N' own scope=true)(hc:X.calm=true)(hi:PI X tg iter wi)(hg:∀C s2 H2 fp pins,PG (aA (X.xW N') own scope C s2 H2 fp pins) tg g)
 (ht:∀C s2 H2 fp pins,C7 (aA (X.xW N') own scope C s2 H2 fp pins) ifs tc)(he:∀C s2 H2 fp pins,PE (aA (X.xW N') own scope C s2 H2 fp pins) elt te)(hs:∀x,foldedSetIterable iter X.env x=pure x:=by intro _;rfl)
 (ZG:swapsWith (.ListComp elt [(tg,iter,ifs,0)] scope pos) (some (.Name x pos')) p_.line X.env=pure true:=by rfl) :
  PS X (.Assign [.Name x pos'] (.ListComp elt [(tg,iter,ifs,0)] scope pos) p_) (Dd (yx own.length wi g tc te) (af i)):=by
 intro pins s σ H D I h;have CS:=cj.of CS;rw[Yu _ _ _ _ ZG];refine UY (V9 (UY ?_));show wpAny _ X.A (do let _ <- comprehension (.ListComp elt [(tg,iter,ifs,0)] scope pos) scope X.env _ (newList []) false (eval iter X.env) (some (assign (.Name x pos') X.env))) _ _ s
 refine UY (bN (Wj (use:=some (assign (.Name x pos') X.env)) (Q:=λ_ s'=>SP X pins D .next s') (g:=(tg,iter,ifs,0)) rfl hs (dY λn hn=>I.ok.has n (CS.frees n hn)) CS.kind (gX CS)
  (bN (hi pins s σ H _ I h) λv s1 h1=>bN h1 λZ5 s2 h2=>?_)) λ_ s' hq=>UZ (UZ hq))
 obtain⟨it,fp,tn,J,H2,e,I2,T,FB,f2,hW⟩:=h2;subst e;refine lP (X:=X.xW N') (Q:=λx H1=>af i x σ H1 D.nx) (RR:=λacc C=>compPost (model X.prog X.w) X.A X.xe (some (assign (.Name x pos') X.env)) (λ_ s'=>SP X pins D .next s') acc C) (I2.xW HL) CS hc T FB f2 hg ht he hW λDl C H' s' _ fC ⟨m,hn⟩ q kp=>?_;have I':Inv X pins σ H' s':=Kept.inv kp I2 f2;show wpAny _ _ (assign (.Name x pos') X.env (.ref Dl)) _ _ s';refine Ye (oy (v:=.ref Dl) I' hN ZF (.inl hx) rfl (λZ3 I'' hsb=>?_) (.inr hx));obtain⟨f0,f1,f2',f3,f4,f5⟩:=fC;obtain⟨a,sb,ha⟩:=hsb
 have hCa:C≠a:=by
  rcases ha with e|e
  ·rw[e];exact f1
  ·exact(f4 x a e).symm
 refine(m,hn.sameBut sb hCa,λh' IR=>(_,H',?_,q));exact I''.turned (t':=Z3.toks) (λb o hb e=>(IR.2 b hb).trans e) f0 f1 f3 f4 f5
end
structure Nx(P:Zj)(w:World)(i l:Addr)(st:Nat->Heap->Prop)(xs:Zb):Prop where
 obj:∀k h,st k h->∃o vs,h.get? i=some o/\o.data=.fields vs
 keep:∀k h h',st k h->(∀o,h.get? i=some o->h'.get? i=some o)->(∀o,h.get? l=some o->h'.get? l=some o)->st k h'
 item:∀(A:Zm) k (s:Zn) x (Q:Y4) (E:Y4),st k s.heap->xs[k]?=some x->(∀h',st (k+1) h'->Heap.SameBut i s.heap h'->Q x {s with heap:=h'}) ->
  wpAny (model P w) A (Builtin.SmallTypes.nextOf (.ref i)) Q E s
 done:∀(A:Zm) k (s:Zn) (Q:Y4) (E:Y4),A.handled=none->st k s.heap->xs[k]?=none ->
  (∀h' e,Heap.ExtBut i s.heap h'->(∃o,h'.get? e=some o/\o.cls=.type "StopIteration")->E (.ref e) {s with heap:=h'})->wpAny (model P w) A (Builtin.SmallTypes.nextOf (.ref i)) Q E s
section
theorem Be{h:Heap}(a:h.IsTupleIter i l k)(b:h.IsTuple l a_):i≠l:=λe=>by
 obtain⟨o,h1,c1,_⟩:=a;obtain⟨o',h2,c2,_⟩:=b
 grind
theorem Bf{h:Heap}(a:h.IsListIter i l k)(b:h.IsList l a_):i≠l:=λe=>by
 obtain⟨o,h1,c1,_⟩:=a;obtain⟨o',h2,c2,_⟩:=b
 grind
theorem Dv(a:s.heap.IsTupleIter it t k)(b:s.heap.IsTuple t a_)(hx:a_[k]?=some x)
 (q:∀h',h'.IsTupleIter it t (k+1)->Heap.SameBut it s.heap h'->Q x {s with heap:=h'}):wpAny (model P w) A (Builtin.SmallTypes.nextOf (.ref it)) Q E s:=by
 obtain⟨oi,gi,ci,di⟩:=id a;obtain⟨ot,gt,_,nt,dt⟩:=b;unfold Builtin.SmallTypes.nextOf;refine UY (VA (name:=Str.ofString "__next__") a.typeIs WW (Vt WW a.typeIs F.entry_tuple_iterator_next ?_ (F.args_tuple_iterator_next_1 _)));show wpAny _ _ (field (Value.ref it) 0 >>= _) _ _ s;refine UY (Wn (x:=Value.ref t) gi di rfl ?_);rw[if_neg (show ¬ (Value.ref t==Value.none)=true from Vv)];show wpAny _ _ (field (Value.ref it) 1 >>= _) _ _ s;refine UY (Wn (x:=Value.int k 0) gi di rfl ?_);show wpAny _ _ (seqItems? (Value.ref t) >>= _) _ _ s;refine UY (V6 gt dt ?_);simp only[hx,Wx];refine UY (Ys gi di (by simp) (UZ (x,rfl,UZ (q _ (_,Wi _ gi (Yv (XA di _)),(Obj.cls_mapFields ..).trans ci,?_) (WU ..)))));rw[XA di];simp[rawInt]
theorem vb(hh:A.handled=none)(a:s.heap.IsTupleIter it t k)(b:s.heap.IsTuple t a_)(hx:a_[k]?=none)
 (q:∀h' e,Heap.ExtBut it s.heap h'->(∃o,h'.get? e=some o/\o.cls=.type "StopIteration")->E (.ref e) {s with heap:=h'}):wpAny (model P w) A (Builtin.SmallTypes.nextOf (.ref it)) Q E s:=by
 obtain⟨oi,gi,ci,di⟩:=id a;obtain⟨ot,gt,_,nt,dt⟩:=b;unfold Builtin.SmallTypes.nextOf;refine UY (VA (name:=Str.ofString "__next__") a.typeIs WW (Vt WW a.typeIs F.entry_tuple_iterator_next ?_ (F.args_tuple_iterator_next_1 _)));show wpAny _ _ (field (Value.ref it) 0 >>= _) _ _ s;refine UY (Wn (x:=Value.ref t) gi di rfl ?_);rw[if_neg (show ¬ (Value.ref t==Value.none)=true from Vv)];show wpAny _ _ (field (Value.ref it) 1 >>= _) _ _ s;refine UY (Wn (x:=Value.int k 0) gi di rfl ?_);show wpAny _ _ (seqItems? (Value.ref t) >>= _) _ _ s;refine UY (V6 gt dt ?_);simp only[hx,Wx];refine UY (WG (UY (Ys gi di (by simp) ?_)));show wpAny _ _ (newExc (Value.type "StopIteration") [] >>= _) _ _ _;refine UY ?_;simp only[newTuple,newExc];refine UY (VD ?_ (by size_fits));refine UY (m:=firstArgMember _ _) (W6 (a:=Value.none) (by first|rfl | (unfold firstArgMember;rfl)) ?_);refine VD ?_ (by size_fits);unfold raiseNew;refine UY (wpAny_handled ?_);rw[show A.in1.handled=none from hh];exact UY (UZ (wpAny_throw (q _ _ (((WU ..).extBut.push _).push _) (_,U5 _ rfl,rfl))))
theorem OH(i l:Addr)(xs:Zb):Nx P w i l (λk h=>h.IsTupleIter i l k/\h.IsTuple l xs.toArray) xs where
 obj:=by rintro k h ⟨⟨o,a,_,c⟩,_⟩;exact⟨o,_,a,c⟩
 keep:=by rintro k h h' ⟨a,b⟩ k1 k2;exact⟨a.at k1,by obtain⟨o,e,r⟩:=b;exact(o,k2 o e,r)⟩
 item:=λA k s x Q E ⟨a,b⟩ hx q=>Dv a b (by simp_all) λh' a' sb=>q h' (a',let ⟨o,e,r⟩:=b;(o,(sb.2 l (Be a b).symm).trans e,r)) sb
 done:=λA k s Q E hh ⟨a,b⟩ hx q=>vb hh a b (by simp_all) q
theorem OI(i l:Addr)(xs:Zb):Nx P w i l (λk h=>h.IsListIter i l k/\h.IsList l xs.toArray) xs where
 obj:=by rintro k h ⟨⟨o,a,_,c⟩,_⟩;exact⟨o,_,a,c⟩
 keep:=by rintro k h h' ⟨a,b⟩ k1 k2;exact⟨a.at k1,by obtain⟨o,e,r⟩:=b;exact(o,k2 o e,r)⟩
 item:=λA k s x Q E ⟨a,b⟩ hx q=>wpAny_nextOf_list_item a b (by simp_all) λh' a' sb=>q h' (a',let ⟨o,e,r⟩:=b;(o,(sb.2 l (Bf a b).symm).trans e,r)) sb
 done:=λA k s Q E hh ⟨a,b⟩ hx q=>wpAny_nextOf_list_end hh a b (by simp_all) q
structure ZA(z TI TO i1 i2 l1 l2:Addr):Prop where
 a1:TI≠z
 a2:TO≠z
 a3:i1≠z
 a4:i2≠z
 a5:TI≠TO
 a6:TI≠i1
 a7:TI≠i2
 a8:TO≠i1
 a9:TO≠i2
 b1:i1≠i2
 b2:l1≠z
 b3:l1≠TO
 b4:l1≠i2
 b5:l2≠z
 b6:l2≠TO
 b7:l2≠i1
variable {TI TO:Addr}
theorem aN(sb:Heap.SameBut c h h')(ne:d≠c)(e:h.get? d=some o):h'.get? d=some o:=(sb.2 d ne).trans e
theorem Ic(D:ZA z TI TO i1 i2 l1 l2)(N1:Nx P w i1 l1 st1 xs)(N2:Nx P w i2 l2 FB ys){Q:Y4}(hz:IsZip s.heap z TI TO .none)(hI:IsPair s.heap TI (.ref i1) (.ref i2))(hO:IsPair s.heap TO a b)
 (s1:st1 k s.heap)(s2:FB k s.heap)(hx:xs[k]?=some x)(hy:ys[k]?=some y)
 (q:∀h',IsZip h' z TI TO (rawInt s.heap.objs.size)->IsPair h' TO x y->st1 (k+1) h'->FB (k+1) h'->IsPair h' s.heap.objs.size x y ->
   (∀c o,c≠z->c≠TO->c≠i1->c≠i2->s.heap.get? c=some o->h'.get? c=some o)->Q (.ref s.heap.objs.size) {s with heap:=h'}) :
  wpAny (model P w) A (Builtin.«zip.__next__» ([.ref z],[])) (λfin s'=>∃v,fin=.done (.ret v)/\Q v s') E s:=by
 show wpAny _ _ (field (Value.ref z) 2 >>= _) _ _ _;refine UY (Wn (x:=Value.bool false) hz rfl rfl ?_);show wpAny _ _ (field (Value.ref z) 3 >>= _) _ _ _;refine UY (Wn (x:=Value.ref TI) hz rfl rfl ?_);refine UY (V6 hI rfl ?_);show wpAny _ _ (Builtin.SmallTypes.ownedTupleIsFree (Value.ref z) >>= _) _ _ _;refine UY ?_;unfold Builtin.SmallTypes.ownedTupleIsFree;refine UY (Wn (x:=Value.none) hz rfl rfl (UZ ?_));simp only[VR];refine UY (WG (UY (Wn (x:=Value.ref TO) hz rfl rfl ?_)));refine UY (W3 hz (by simp) λg1 z1 e1=>?_);have z1:IsZip g1 z TI TO .ellipsis:=z1;refine UY ?_;simp only[List.zipIdx_nil,List.zipIdx_cons,Xv,Wo];refine UY (UY (wpAny_onRaise ?_));show wpAny _ _ (Builtin.SmallTypes.nextOf (Value.ref i1) >>= _) _ _ _;refine UY (N1.item _ k _ x _ _ (N1.keep _ _ _ s1 (λo=>aN e1 D.a3) λo=>aN e1 D.b2) hx λg2 t1 e2=>UZ ?_);have O2:IsPair g2 TO a b:=aN e2 D.a8 (aN e1 D.a2 hO);refine UY (V6 O2 rfl (UY (YE O2 λg3 O3 e3=>?_)));have O3:IsPair g3 TO x b:=O3;refine UY (wpAny_letGo (UZ (UY (UY (wpAny_onRaise ?_)))));show wpAny _ _ (Builtin.SmallTypes.nextOf (Value.ref i2) >>= _) _ _ _;refine UY (N2.item _ k _ y _ _ (N2.keep _ _ _ s2 (λo e=>aN e3 D.a9.symm (aN e2 D.b1.symm (aN e1 D.a4 e))) λo e=>aN e3 D.b6 (aN e2 D.b7 (aN e1 D.b5 e))) hy λg4 t2 e4=>UZ ?_);have O4:IsPair g4 TO x b:=aN e4 D.a9 O3;refine UY (V6 O4 rfl (UY (YE O4 λg5 O5 e5=>?_)));have O5:IsPair g5 TO x y:=O5;refine UY (wpAny_letGo (UZ (UZ (UY (V6 O5 rfl (UY (wpAny_newTuple ?_)))))));have sz:g5.objs.size=s.heap.objs.size:=by rw[e5.1,e4.1,e3.1,e2.1,e1.1]
 have z5:IsZip g5 z TI TO .ellipsis:=aN e5 D.a2.symm (aN e4 D.a4.symm (aN e3 D.a2.symm (aN e2 D.a3.symm z1)));have zlt:z<g5.objs.size:=U6 z5;have u1:st1 (k+1) g5:=N1.keep _ _ _ t1 (λo e=>aN e5 D.a8.symm (aN e4 D.b1 (aN e3 D.a8.symm e))) λo e=>aN e5 D.b3 (aN e4 D.b4 (aN e3 D.b3 e));have u2:FB (k+1) g5:=N2.keep _ _ _ t2 (λo e=>aN e5 D.a9.symm e) λo e=>aN e5 D.b6 e;show wpAny _ _ (Builtin.SmallTypes.ownedTupleHandOut (Value.ref z) (.ref g5.objs.size) >>= _) _ _ _;refine UY ?_;unfold Builtin.SmallTypes.ownedTupleHandOut;have z6:IsZip (g5.push {cls:=.type "tuple",data:=.seq #[x,y]}) z TI TO .ellipsis:=U0 _ z5;refine UY (W3 z6 (by simp) λg7 z7 e7=>?_);have z7:IsZip g7 z TI TO (rawInt g5.objs.size):=z7;refine W3 z7 (by simp) λg8 z8 e8=>?_;have z8:IsZip g8 z TI TO (rawInt g5.objs.size):=z8;have up:∀c o,c≠z->g5.get? c=some o->g8.get? c=some o:=λc o n e=>aN e8 n (aN e7 n (U0 _ e));have nw:IsPair g8 g5.objs.size x y:=aN e8 (XC zlt) (aN e7 (XC zlt) (U5 _ rfl));rw[sz]at z8 nw;refine UZ (_,rfl,?_);show Q (.ref g5.objs.size) _;rw[sz]
 exact q g8 z8 (up _ _ D.a2 O5) (N1.keep _ _ _ u1 (λo=>up _ o D.a3) λo=>up _ o D.b2) (N2.keep _ _ _ u2 (λo=>up _ o D.a4) λo=>up _ o D.b5) nw λc o n1 n2 n3 n4 e=>
  up c o n1 (aN e5 n2 (aN e4 n4 (aN e3 n2 (aN e2 n3 (aN e1 n1 e)))))
theorem Lv(hh:A.handled=none)(D:ZA z TI TO i1 i2 l1 l2)(N1:Nx P w i1 l1 st1 xs)(N2:Nx P w i2 l2 FB ys)(hz:IsZip s.heap z TI TO .none)(hI:IsPair s.heap TI (.ref i1) (.ref i2))(hO:IsPair s.heap TO a b)
 (s1:st1 k s.heap)(s2:FB k s.heap)(hend:xs[k]?=none\/ys[k]?=none)
 (q:∀h' e,(∀c o,c≠z->c≠TO->c≠i1->c≠i2->s.heap.get? c=some o->h'.get? c=some o)->(∃o,h'.get? e=some o/\o.cls=.type "StopIteration")->E (.ref e) {s with heap:=h'}) :
  wpAny (model P w) A (Builtin.«zip.__next__» ([.ref z],[])) Q E s:=by
 show wpAny _ _ (field (Value.ref z) 2 >>= _) _ _ _;refine UY (Wn (x:=Value.bool false) hz rfl rfl ?_);show wpAny _ _ (field (Value.ref z) 3 >>= _) _ _ _;refine UY (Wn (x:=Value.ref TI) hz rfl rfl ?_);refine UY (V6 hI rfl ?_);show wpAny _ _ (Builtin.SmallTypes.ownedTupleIsFree (Value.ref z) >>= _) _ _ _;refine UY ?_;unfold Builtin.SmallTypes.ownedTupleIsFree;refine UY (Wn (x:=Value.none) hz rfl rfl (UZ ?_));simp only[VR];refine UY (WG (UY (Wn (x:=Value.ref TO) hz rfl rfl ?_)));refine UY (W3 hz (by simp) λg1 z1 e1=>?_);have z1:IsZip g1 z TI TO .ellipsis:=z1;refine UY ?_;simp only[List.zipIdx_nil,List.zipIdx_cons,Xv,Wo];refine UY (UY (wpAny_onRaise ?_));show wpAny _ _ (Builtin.SmallTypes.nextOf (Value.ref i1) >>= _) _ _ _;have t1:st1 k g1:=N1.keep _ _ _ s1 (λo=>aN e1 D.a3) λo=>aN e1 D.b2
 cases hx:xs[k]? with
 |none=>
  refine UY (N1.done _ k _ _ _ hh t1 hx λg2 e e2 ⟨oe,he,ce⟩=>?_);have z2:IsZip g2 z TI TO .ellipsis:=e2 _ _ D.a3.symm z1;have ne:e≠z:=λr=>by rw[r,z2]at he;cases he;exact absurd (show Value.type "zip" = Value.type "StopIteration" from ce) (by decide)
  exact W3 z2 (by simp) λg3 _ e3=>q g3 e (λc o n1 _ n3 _ r=>aN e3 n1 (e2 _ _ n3 (aN e1 n1 r))) (oe,aN e3 ne he,ce)
 |some x=>
  have hy:ys[k]?=none:=by
   rcases hend with r|r
   ·rw[hx]at r;cases r
   ·exact r
  refine UY (N1.item _ k _ x _ _ t1 hx λg2 t1 e2=>UZ ?_);have O2:IsPair g2 TO a b:=aN e2 D.a8 (aN e1 D.a2 hO);refine UY (V6 O2 rfl (UY (YE O2 λg3 O3 e3=>?_)));refine UY (wpAny_letGo (UZ (UY (UY (wpAny_onRaise ?_)))));show wpAny _ _ (Builtin.SmallTypes.nextOf (Value.ref i2) >>= _) _ _ _;refine UY (N2.done _ k _ _ _ hh (N2.keep _ _ _ s2 (λo e=>aN e3 D.a9.symm (aN e2 D.b1.symm (aN e1 D.a4 e))) λo e=>aN e3 D.b6 (aN e2 D.b7 (aN e1 D.b5 e))) hy λg4 e e4 ⟨oe,he,ce⟩=>?_);have z4:IsZip g4 z TI TO .ellipsis:=e4 _ _ D.a4.symm (aN e3 D.a2.symm (aN e2 D.a3.symm z1));have ne:e≠z:=λr=>by rw[r,z4]at he;cases he;exact absurd (show Value.type "zip" = Value.type "StopIteration" from ce) (by decide)
  exact W3 z4 (by simp) λg5 _ e5=>q g5 e (λc o n1 n2 n3 n4 r=>aN e5 n1 (e4 _ _ n4 (aN e3 n2 (aN e2 n3 (aN e1 n1 r))))) (oe,aN e5 ne he,ce)
end
section
abbrev GB(ci:String)(h:Heap)(i l:Addr)(k:Nat):Prop:=∃o,h.get? i=some o/\o.cls=.type ci/\o.data=.fields #[.ref l,.int k 0]
theorem zF{ci:String}{h h':Heap}(a:GB ci h i l k)(kp:∀o,h.get? i=some o->h'.get? i=some o):GB ci h' i l k:=by obtain⟨o,e,r⟩:=a;exact(o,kp o e,r)
structure Rf(ci:String)(h h':Heap)(l1 l2:Addr):Prop where
 z:IsZip h' (h.objs.size+4) (h.objs.size+2) (h.objs.size+3) .none
 ti:IsPair h' (h.objs.size+2) (.ref h.objs.size) (.ref (h.objs.size+1))
 to:IsPair h' (h.objs.size+3) .none .none
 i1:GB ci h' h.objs.size l1 0
 i2:GB ci h' (h.objs.size+1) l2 0
 sz:h'.objs.size=h.objs.size+5
 keep:∀c o,h.get? c=some o->h'.get? c=some o
abbrev mV(ci:String)(h:Heap)(u:Addr):Heap:=h.push {cls:=.type ci,data:=.fields #[.ref u,.int 0 0]}
abbrev KD(h:Heap)(a b:Addr):Heap:=h.push {cls:=.type "tuple",data:=.seq #[.ref a,.ref b]}
abbrev Nn(h:Heap):Heap:=h.push {cls:=.type "tuple",data:=.seq #[.none,.none]}
abbrev UO(h:Heap)(a b:Addr):Heap:=h.push {cls:=.type "zip",data:=.fields #[.none,.bool false,.bool false,.ref a,.ref b]}
abbrev xX(ci:String)(h:Heap)(l1 l2:Addr):Heap:=UO (Nn (KD (mV ci (mV ci h l1) l2) h.objs.size (mV ci h l1).objs.size)) (mV ci (mV ci h l1) l2).objs.size (KD (mV ci (mV ci h l1) l2) h.objs.size (mV ci h l1).objs.size).objs.size
theorem Ie(ci:String)(h:Heap)(l1 l2:Addr):Rf ci h (xX ci h l1 l2) l1 l2:=by
 have e1:(mV ci h l1).objs.size=h.objs.size+1:=V1 ..;have e2:(mV ci (mV ci h l1) l2).objs.size=h.objs.size+2:=by simp_all
 have e3:(KD (mV ci (mV ci h l1) l2) h.objs.size (mV ci h l1).objs.size).objs.size=h.objs.size+3:=by simp_all
 have e4:(Nn (KD (mV ci (mV ci h l1) l2) h.objs.size (mV ci h l1).objs.size)).objs.size=h.objs.size+4:=by simp_all
 have p5:(xX ci h l1 l2).get? (Nn _).objs.size=some _:=U5 _ rfl;have p4:(xX ci h l1 l2).get? (KD _ h.objs.size (mV ci h l1).objs.size).objs.size=some _:=U0 _ (U5 _ rfl);have p3:(xX ci h l1 l2).get? (mV ci (mV ci h l1) l2).objs.size=some _:=U0 _ (U0 _ (U5 _ rfl));have p2:(xX ci h l1 l2).get? (mV ci h l1).objs.size=some _:=U0 _ (U0 _ (U0 _ (U5 _ rfl)));have p1:(xX ci h l1 l2).get? h.objs.size=some _:=U0 _ (U0 _ (U0 _ (U0 _ (U5 _ rfl))));rw[e2,e3,e4]at p5;rw[e3]at p4;rw[e2,e1]at p3;rw[e1]at p2;exact(p5,p3,p4,(_,p1,rfl,rfl),(_,p2,rfl,rfl),by simp_all,λc o e=>U0 _ (U0 _ (U0 _ (U0 _ (U0 _ e)))))
theorem Bg(l1 l2:Addr)(xs ys:Zh) :
  Meets (Builtin.«zip.__new__» ([.type "zip",.ref l1,.ref l2],[])) (λ_ R s=>s.heap.IsTuple l1 xs/\s.heap.IsTuple l2 ys/\R (.ok (.ret (.ref (Nn (KD (mV "tuple_iterator" (mV "tuple_iterator" s.heap l1) l2) s.heap.objs.size (mV "tuple_iterator" s.heap l1).objs.size)).objs.size))) {s with heap:=xX "tuple_iterator" s.heap l1 l2}):=
 .of_wp λprog w A R s h=>by
  obtain⟨hp,g,d,tk,os⟩:=s;obtain⟨t1,t2,h⟩:=h;have hsub:=sub_zip;have T1:Heap.IsTuple (Shared.heap (hp,g,d,tk,os)) l1 xs:=t1;have T2:Heap.IsTuple (Shared.heap (hp.push {cls:=.type "tuple_iterator",data:=.fields #[.ref l1,.int 0 0]},g,d,tk,os)) l2 ys:=Heap.IsTuple.push t2 _
  wp_walk using X5 T1,X5 T2
  exact(_,rfl,h)
theorem GC{ci:String}{Ob:Heap->Addr->Zh->Prop}{xs ys:Zh}(hm:Meets (Builtin.«zip.__new__» ([.type "zip",.ref l1,.ref l2],[])) (λ_ R s=>Ob s.heap l1 xs/\Ob s.heap l2 ys/\R (.ok (.ret (.ref (Nn (KD (mV ci (mV ci s.heap l1) l2) s.heap.objs.size (mV ci s.heap l1).objs.size)).objs.size))) {s with heap:=xX ci s.heap l1 l2}))
 (t1:Ob s.heap l1 xs)(t2:Ob s.heap l2 ys)(q:∀h',Rf ci s.heap h' l1 l2->Q (.ref (s.heap.objs.size+4)) {s with heap:=h'}) :
  wpAny (model P w) A (call (.type "zip") [.ref l1,.ref l2]) Q E s:=by
 refine callType_new F.called_zip (by decide) (F.typeCall_zip_2 _ _) (F.newCall_zip_2 _ _) (λobj=>F.args_object_init_3 obj _ _) F.entry_zip_new hm (t1,t2,?_);have n:=Ie ci s.heap l1 l2
 have e4:(Nn (KD (mV ci (mV ci s.heap l1) l2) s.heap.objs.size (mV ci s.heap l1).objs.size)).objs.size=s.heap.objs.size+4:=by
  simp_all
 show _/\_;rw[e4];exact((_,n.z,rfl),q _ n)
structure Zk(P:Zj)(w:World)(ci:String)(Ob:Heap->Addr->Zh->Prop)(Sq:Zc->Hp->Addr->List V->Prop):Prop where
 nx:∀(i l:Addr) (xs:Zb),Nx P w i l (λk h=>GB ci h i l k/\Ob h l xs.toArray) xs
 rd:∀{X:Cx} {pins:Y5} {σ:St} {H:Hp} {s:Zn} {a:Addr} {xs:List V},X.prog=P->X.w=w->Inv X pins σ H s->Sq X.K H a xs->∃a_:Zb,Vals xs a_/\Ob s.heap a a_.toArray
 inj:∀{X:Cx} {pins:Y5} {σ:St} {H:Hp} {s:Zn} {a:Addr} {xs ys:List V},Inv X pins σ H s->Sq X.K H a xs->Sq X.K H a ys->xs=ys
 lt:∀{h:Heap} {a:Addr} {a_:Zh},Ob h a a_->a<h.objs.size
 new:∀(l1 l2:Addr) (xs ys:Zh),Meets (Builtin.«zip.__new__» ([.type "zip",.ref l1,.ref l2],[])) (λ_ R s=>Ob s.heap l1 xs/\Ob s.heap l2 ys/\R (.ok (.ret (.ref (Nn (KD (mV ci (mV ci s.heap l1) l2) s.heap.objs.size (mV ci s.heap l1).objs.size)).objs.size))) {s with heap:=xX ci s.heap l1 l2})
theorem OJ:Zk P w "tuple_iterator" (λh a a_=>h.IsTuple a a_) i8:=
 (λi l xs=>OH i l xs,λ_ _ I q=>by obtain⟨a_,r,p,_⟩:=I.tuple q;exact(a_,r,p),λI a b=>I.yp a b,λ⟨_,e,_⟩=>U6 e,Bg)
theorem xY(Z:Zk P w ci Ob Sq){z TI TO i1 i2 l1 l2:Addr}{xs ys:Zb}(D:ZA z TI TO i1 i2 l1 l2)(hz:IsZip s.heap z TI TO .none)(hI:IsPair s.heap TI (.ref i1) (.ref i2))(hO:IsPair s.heap TO a b)
 (t1:GB ci s.heap i1 l1 k)(t2:GB ci s.heap i2 l2 k)(h1:Ob s.heap l1 xs.toArray)(h2:Ob s.heap l2 ys.toArray)(hx:xs[k]?=some x)(hy:ys[k]?=some y)
 (q:∀h',IsZip h' z TI TO (rawInt s.heap.objs.size)->IsPair h' TO x y->GB ci h' i1 l1 (k+1)->GB ci h' i2 l2 (k+1)->IsPair h' s.heap.objs.size x y ->
   (∀c o,c≠z->c≠TO->c≠i1->c≠i2->s.heap.get? c=some o->h'.get? c=some o)->Q (some (.ref s.heap.objs.size)) {s with heap:=h'}):wpAny (model P w) A (pyNext (.ref z)) Q E s:=by
 have hT:s.TypeIs (.ref z) "zip" := (_,hz,rfl);refine UY (Xp (VA hT YK (Vt YK hT F.entry_zip_next ?_ (F.args_zip_next_1 _))));exact Ic D (Z.nx i1 l1 xs) (Z.nx i2 l2 ys) hz hI hO (t1,h1) (t2,h2) hx hy λh' a1 a2 a3 a4 a5 a6=>UZ (q h' a1 a2 a3.1 a4.1 a5 a6)
theorem zG(Z:Zk P w ci Ob Sq){z TI TO i1 i2 l1 l2:Addr}{xs ys:Zb}(hh:A.handled=none)(D:ZA z TI TO i1 i2 l1 l2)(hz:IsZip s.heap z TI TO .none)(hI:IsPair s.heap TI (.ref i1) (.ref i2))(hO:IsPair s.heap TO a b)
 (t1:GB ci s.heap i1 l1 k)(t2:GB ci s.heap i2 l2 k)(h1:Ob s.heap l1 xs.toArray)(h2:Ob s.heap l2 ys.toArray)(hend:xs[k]?=none\/ys[k]?=none)
 (q:∀h',(∀c o,c≠z->c≠TO->c≠i1->c≠i2->s.heap.get? c=some o->h'.get? c=some o)->Q none {s with heap:=h'}):wpAny (model P w) A (pyNext (.ref z)) Q E s:=by
 have hT:s.TypeIs (.ref z) "zip" := (_,hz,rfl);refine UY (Xp (VA hT YK (Vt YK hT F.entry_zip_next ?_ (F.args_zip_next_1 _))));refine Lv (A:=A.in1) hh D (Z.nx i1 l1 xs) (Z.nx i2 l2 ys) hz hI hO (t1,h1) (t2,h2) hend λh' e hk ⟨o,ho,hc⟩=>?_;exact UY (WY (o,ho,hc) isSubtype_stop (UZ (q _ hk)))
end
noncomputable def Rg(Sq:Zc->Hp->Addr->List V->Prop)(K:Zc)(a1 a2:Addr):It:=
 (λi H=>∃xs ys x y,Sq K H a1 xs/\Sq K H a2 ys/\xs[i]?=some x/\ys[i]?=some y,
  λi H v H'=>∃p x y,v=.ref p/\H p=none/\H'=upd H p (.tup [x,y])/\(∀xs,Sq K H a1 xs->xs[i]?=some x)/\∀ys,Sq K H a2 ys->ys[i]?=some y,
  λi H=>∃xs ys,Sq K H a1 xs/\Sq K H a2 ys/\(xs.length<=i\/ys.length<=i))
theorem Ig{K:Zc}{ci:String}{Ob:Heap->Addr->Zh->Prop}{Sq:Zc->Hp->Addr->List V->Prop}(Z:Zk P w ci Ob Sq)(a1 a2 z TI TO i1 i2:Addr)(D:ZA z TI TO i1 i2 a1 a2):Turn P w K (.Tuple es kk Zw) (Rg Sq K a1 a2) [z,TI,TO,i1,i2] z
  (λk h=>IsZip h z TI TO .none/\IsPair h TI (.ref i1) (.ref i2)/\(∃a b,IsPair h TO a b)/\GB ci h i1 a1 k/\GB ci h i2 a2 k) where
 mem:=Vj
 obj:=λk h st b hb=>by
  obtain⟨hz,hI,⟨a,c,hO⟩,⟨o1,e1,_,d1⟩,⟨o2,e2,_,d2⟩⟩:=st
  grind
 keep:=λk h h' st kp=>by obtain⟨hz,hI,⟨a,c,hO⟩,t1,t2⟩:=st;exact(kp z (by simp) _ hz,kp TI (by simp) _ hI,(a,c,kp TO (by simp) _ hO),zF t1 (kp i1 (by simp)),zF t2 (kp i2 (by simp)))
 item:=by
  intro X hP hw hK hc i pins s σ H E I hf st hg;subst hP hw hK;obtain⟨xs,ys,x,y,q1,q2,hx,hy⟩:=hg;obtain⟨D_,r1,p1⟩:=Z.rd rfl rfl I q1;obtain⟨k_,r2,p2⟩:=Z.rd rfl rfl I q2;obtain⟨u1,hu1,ru1⟩:=r1.get hx;obtain⟨u2,hu2,ru2⟩:=r2.get hy;obtain⟨hz,hI,⟨a,c,hO⟩,t1,t2⟩:=st;refine xY Z D hz hI hO t1 t2 p1 p2 hu1 hu2 λh' z' o' t1' t2' nw kp=>?_;refine(_,rfl,wpAny_letOwnedTupleGo_zip z' λh2 z2 sb=>?_);have lt:∀{b:Addr} {o:Obj},s.heap.get? b=some o->b≠s.heap.objs.size:=λe=>Vi (U6 e);have nz:s.heap.objs.size≠z:=(lt hz).symm;have ZW:H s.heap.objs.size=none:=I.hok.fresh (U4 _);have hI2:IsPair h2 TI (.ref i1) (.ref i2):=aN sb D.a1 (kp _ _ D.a1 D.a5 D.a6 D.a7 hI);have F_:∀b o,b∉[z,TI,TO,i1,i2]->s.heap.get? b=some o->h2.get? b=some o:=λb o hb e=>by simp only[Vb,VH,Xq,not_or]at hb;exact aN sb hb.1 (kp b o hb.1 hb.2.2.1 hb.2.2.2.1 hb.2.2.2.2 e)
  have Hv:∀{b:Addr} {u:HO},H b=some u->b∉[z,TI,TO,i1,i2]:=λ{b u} e hb=>by rw[(hf b hb).1]at e;cases e
  have there:∀b o,s.heap.get? b=some o->∃o',h2.get? b=some o':=λb o e=>by
   by_cases hb:b∈[z,TI,TO,i1,i2]
   ·simp only[Vb,VH,Xq]at hb;rcases hb with rfl|rfl|rfl|rfl|rfl
    ·exact(_,z2)
    ·exact(_,hI2)
    ·exact(_,aN sb D.a2 o')
    ·obtain⟨_,e1,_⟩:=t1';exact(_,aN sb D.a3 e1)
    ·obtain⟨_,e1,_⟩:=t2';exact(_,aN sb D.a4 e1)
   ·exact(o,F_ b o hb e)
  have hokN:ox X.prog X.w (upd H s.heap.objs.size (.tup [x,y])) h2:=λb u e=>by
   by_cases hb:b=s.heap.objs.size
   ·subst hb;rw[bD]at e;cases e;exact(by show 2<=sizeLine;decide,[u1,u2],.cons ru1 (.cons ru2 .nil),(_,aN sb nz nw,rfl,_,rfl))
   ·rw[aQ hb]at e;refine(I.hok b u e).zq (λd v hd r=>F_ d v ?_ r) (λd r=>by rw[aQ (br r ZW)];exact r) λd vs r=>by rw[aQ (br r ZW)];exact r
    rcases hd with rfl|hd
    ·exact Hv e
    ·exact Hv hd
  have I2:Inv X pins σ (upd H s.heap.objs.size (.tup [x,y])) {s with heap:=h2}:=by
   refine I.step (g':=s.gens) (d':=s.drawn) (t':=s.toks) (ch:=[z,TI,TO,i1,i2]) (λb hb=>((hf b hb).2.2.2.1,(hf b hb).2.1,(hf b hb).2.2.2.2.1,(hf b hb).2.2.2.2.2)) (λb o _ _ hb e _=>F_ b o hb e) (λb o _ _ hb e _=>(o.slots,F_ b o hb e))
    (λb o _ e n=>by rw[aQ (lt e)];exact n) (λb o _ e=>there b o e) (λb vs e=>by rw[aQ (br e ZW)];exact e) (λb o v e=>by rw[aQ (br e ZW)];exact e) (λb ps e=>(#[],by rw[aQ (br e ZW),e];simp)) (λm hm=>?_) hokN I.bare
   obtain⟨o,r_,ep,e,r⟩:=hm;exact(o,r_,ep,F_ _ o (λhb=>(hf _ hb).2.1 rfl) e,r)
  refine(.ref s.heap.objs.size,_,I2,rfl,(_,x,y,rfl,ZW,rfl,λvs h=>by rw[Z.inj I h q1];exact hx,λvs h=>by rw[Z.inj I h q2];exact hy),(z2,hI2,(_,_,aN sb D.a2 o'),zF t1' λo e=>aN sb D.a3 e,zF t2' λo e=>aN sb D.a4 e),λb hb=>?_);have R_:=(hf b hb).1;by_cases e:b=s.heap.objs.size
  ·exfalso;simp only[Vb,VH,Xq]at hb;rcases hb with r|r|r|r|r
   ·exact lt hz (r▸e)
   ·exact lt hI (r▸e)
   ·exact lt hO (r▸e)
   ·obtain⟨_,e1,_⟩:=t1;exact lt e1 (r▸e)
   ·obtain⟨_,e1,_⟩:=t2;exact lt e1 (r▸e)
  ·rw[aQ e];exact R_
 done:=by
  intro X hP hw hK hc i pins s σ H E I hf st hg;subst hP hw hK;obtain⟨xs,ys,q1,q2,hl⟩:=hg;obtain⟨D_,r1,p1⟩:=Z.rd rfl rfl I q1;obtain⟨k_,r2,p2⟩:=Z.rd rfl rfl I q2;obtain⟨hz,hI,⟨a,c,hO⟩,t1,t2⟩:=st;refine zG Z (I.ok.hd hc) D hz hI hO t1 t2 p1 p2 ?_ λh' kp=>(rfl,?_)
  ·have e1:=r1.length;have e2:=r2.length;rcases hl with r|r
   ·exact .inl (List.getElem?_eq_none_iff.mpr #[1])
   ·exact .inr (List.getElem?_eq_none_iff.mpr #[1])
  ·have F_:∀b o,b∉[z,TI,TO,i1,i2]->s.heap.get? b=some o->h'.get? b=some o:=λb o hb e=>by
    simp only[Vb,VH,Xq,not_or]at hb;exact kp b o hb.1 hb.2.2.1 hb.2.2.2.1 hb.2.2.2.2 e
   have Hv:∀{b:Addr} {u:HO},H b=some u->b∉[z,TI,TO,i1,i2]:=λ{b u} e hb=>by rw[(hf b hb).1]at e;cases e
   refine I.step (g':=s.gens) (d':=s.drawn) (t':=s.toks) (ch:=[z,TI,TO,i1,i2]) (λb hb=>((hf b hb).2.2.2.1,(hf b hb).2.1,(hf b hb).2.2.2.2.1,(hf b hb).2.2.2.2.2)) (λb o _ _ hb e _=>F_ b o hb e) (λb o _ _ hb e _=>(o.slots,F_ b o hb e))
    (λb o _ e n=>n) (λb o hb e=>(o,F_ b o hb e)) (λb vs e=>e) (λb o v e=>e) (λb ps e=>(#[],by rw[e];simp)) (λm hm=>?_) (λb u e=>(I.hok b u e).zq (λd v hd r=>F_ d v ?_ r) (λ_ r=>r) λ_ _ r=>r) I.bare
   ·obtain⟨o,r_,ep,e,r⟩:=hm;exact(o,r_,ep,F_ _ o (λhb=>(hf _ hb).2.1 rfl) e,r)
   ·rcases hd with rfl|hd
    ·exact Hv e
    ·exact Hv hd
 self:=λ_ _ _ _ _ st h=>wpAny_pyIter_zip st.1 h
section
theorem Tq(a b:Nat)(h:a≠b):@Ne Addr a b:=h
theorem Rh(n a b:Nat)(h1:a<n)(h2:b<n):ZA (n+4) (n+2) (n+3) n (n+1) a b:=by constructor<;>refine Tq _ _ ?_<;>omega
def Np(Sq:Zc->Hp->Addr->List V->Prop)(K:Zc)(ta:TA):TI:=λσ H R=>ta σ H λvs H1=>∃a1 a2 xs ys,vs=[.ref a1,.ref a2]/\Sq K H1 a1 xs/\Sq K H1 a2 ys/\R (Rg Sq K a1 a2) H1
theorem ET{p pos:Pos}{ci:String}{Ob:Heap->Addr->Zh->Prop}{Sq:Zc->Hp->Addr->List V->Prop}(Z:Zk X.prog X.w ci Ob Sq)(hg:Gl X "zip")(hm:X.mg "zip" = none)(ha:PA X [e1,e2] ta)(hs:starEach [e1,e2] X.env=[(false,eval e1 X.env),(false,eval e2 X.env)]:=by rfl)(B_:starEach [e2] X.env=[(false,eval e2 X.env)]:=by rfl) :
  PI X (.Tuple es kk Zw) (.Call (.Name "zip" p) [e1,e2] [] pos) (Np Sq X.K ta):=by
 intro pins s σ H R I h;refine Call_ (mW I hg hm (by rfl:bootBuiltins "zip" = some (.type "zip")) (WR (bN (ha pos pins s σ H _ I h) λus s1 ⟨vs,H1,I1,r1,q1⟩=>?_) (by grind) (by rw[B_];rfl)));obtain⟨a1,a2,xs,ys,e,t1,t2,q⟩:=q1;subst e
 cases r1 with
 |cons r rr=>
  cases rr with
  |cons r' rr=>
   cases rr;cases r;cases r';obtain⟨D_,v1,p1⟩:=Z.rd rfl rfl I1 t1;obtain⟨k_,v2,p2⟩:=Z.rd rfl rfl I1 t2;have L1:a1<s1.heap.objs.size:=Z.lt p1;have L2:a2<s1.heap.objs.size:=Z.lt p2;refine GC (Z.new a1 a2 D_.toArray k_.toArray) p1 p2 λh' N=>?_;refine wpAny_pyIter_zip (s:={s1 with heap:=h'}) N.z ?_;have I2:Inv X pins σ H1 {s1 with heap:=h'}:=I1.kept (t':=s1.toks) N.keep;refine(s1.heap.objs.size+4,[s1.heap.objs.size+4,s1.heap.objs.size+2,s1.heap.objs.size+3,s1.heap.objs.size,s1.heap.objs.size+1],_,_,H1,rfl,I2,Ig Z a1 a2 _ _ _ _ _ (Rh _ _ _ L1 L2),(N.z,N.ti,(_,_,N.to),N.i1,N.i2),λb hb=>?_,q)
   have ge:s1.heap.objs.size<=b:=by
    simp only[Vb,VH,Xq]at hb;rcases hb with rfl|rfl|rfl|rfl|rfl
    ·exact Yx _ _
    ·exact Yx _ _
    ·exact Yx _ _
    ·exact U4 _
    ·exact Yx _ _
   exact I1.Gj ge (I1.hok.fresh ge)
end
abbrev Tr:=Np i8
section
theorem OL{p pos:Pos}(hg:Gl X "zip")(hm:X.mg "zip" = none)(ha:PA X [e1,e2] ta)(hs:starEach [e1,e2] X.env=[(false,eval e1 X.env),(false,eval e2 X.env)]:=by rfl)(B_:starEach [e2] X.env=[(false,eval e2 X.env)]:=by rfl) :
  PI X (.Tuple es kk Zw) (.Call (.Name "zip" p) [e1,e2] [] pos) (Tr X.K ta):=ET OJ hg hm ha hs B_
end
section
variable {κ:Type} [DecidableEq κ]
def uv(kvs:List (κ×V))(k:κ):Option V:=(kvs.find? λkv=>decide (kv.1=k)).map (·.2)
def putK(kvs:List (κ×V))(k:κ)(v:V):List (κ×V):=
 if(kvs.any λkv=>decide (kv.1=k))=true then kvs.map (λkv=>if kv.1=k then(kv.1,v)else kv)else kvs++[(k,v)]
theorem qB{k:κ}(e:p.1=k):uv (p::r) k=some p.2:=by simp[uv,e]
theorem qC{k:κ}(e:¬ p.1=k):uv (p::r) k=uv r k:=by simp[uv,e]
theorem qE(k:κ):∀kvs:List (κ×V),(kvs.any λkv=>decide (kv.1=k))=(uv kvs k).isSome
 | []=>rfl
 |p::r=>by
  rw[YF];by_cases e:p.1=k
  ·simp[qB,e]
  ·rw[qC e,V4 e,Bool.false_or];exact qE k r
theorem jW(kvs:List (κ×V))(k:κ)(v:V):(putK kvs k v).length<=kvs.length+1:=by
 grind[putK,List.length_map,List.length_append,List.length_cons,List.length_nil]
theorem uZ.kO(r:uZ o u):o.isSome=u.isSome:=by
 cases o with
 |none=>cases u with
  |none=>rfl
  |some _=>trivial
 |some _=>cases u with
  |none=>trivial
  |some _=>rfl
theorem KV.val(r:KV kvs vs)(k:κ):uZ (uv kvs k) (valueAt vs k):=by
 induction r with
 |nil=>trivial
 | @cons p q ps qs h t ih=>
  obtain⟨h1,h2⟩:=h;by_cases e:p.1=k
  ·have e'  := h1.symm.trans e;have b:valueAt (q::qs) k=some q.2:=by simp[valueAt,e']
   rw[qB e,b];exact h2
  ·have e':¬ q.1=k:=λz=>e (h1.trans z);have b:valueAt (q::qs) k=valueAt qs k:=by simp[valueAt,e']
   rw[qC e,b];exact ih
theorem KV.any(r:KV kvs vs)(k:κ):(kvs.any λkv=>decide (kv.1=k))=vs.any λkv=>decide (kv.1=k):=by
 induction r with
 |nil=>rfl
 |cons h t ih=>simp_all
theorem KV.OM(r:KV kvs vs)(k:κ)(ry:RelV y u) :
  KV (kvs.map λkv=>if kv.1=k then(kv.1,y)else kv) (vs.map λkv=>if kv.1=k then(kv.1,u)else kv):=by
 unfold KV at r ⊢
 induction r with
 |nil=>exact .nil
 | @cons p q ps qs h t ih=>
  rw[Vu,Vu];refine .cons ?_ ih;obtain⟨h1,h2⟩:=h;by_cases e:p.1=k
  ·rw[if_pos e,if_pos (h1.symm.trans e)];exact(h1,ry)
  ·rw[if_neg e,if_neg (λz=>e (h1.trans z))];exact(h1,h2)
theorem KV.put(r:KV kvs vs)(k:κ)(ry:RelV y u):KV (putK kvs k y) (stored vs k u):=by
 unfold putK stored;rw[r.any k];by_cases e:(vs.any λkv=>decide (kv.1=k))=true
 ·rw[if_pos e,if_pos e];exact r.OM k ry
 ·rw[if_neg e,if_neg e];exact Paired.snoc r (rfl,ry)
theorem KV.length{vs:List (κ×Value)}(r:KV kvs vs):kvs.length=vs.length:=Vo r
end
theorem vc(r:RelV (kV k) u):(cw P w).is k u=true:=by
 cases k with
 |inl i=>obtain⟨t,e⟩:=(r);subst e;exact A3 P w i t
 |inr x=>obtain⟨t,e⟩:=(r);subst e;exact A4 P w x t
theorem yy:∀{ks:List Key} {us:Zb},Vals (ks.map kV) us->ItemsAre (cw P w) ks us
 | [],_,r=>by cases r;exact .nil
 |k::ks,_,r=>by
  cases r with
  |cons h t=>exact .cons (vc h) (yy t)
abbrev KT(H:Hp):List (List Key×V)->List (List Key×Addr×Value)->Prop:=Paired λp q=>p.1=q.1/\H q.2.1=some (.tup (p.1.map kV))/\RelV p.2 q.2.2
theorem KT.val(r:KT H kvs xs)(k:List Key):uZ (uv kvs k) ((atKey xs k).map (·.2)):=by
 induction r with
 |nil=>trivial
 | @cons p q ps qs h t ih=>
  obtain⟨h1,_,h2⟩:=h;by_cases e:p.1=k
  ·have e'  := h1.symm.trans e;have b:atKey (q::qs) k=some q.2:=by simp[atKey,e']
   rw[qB e,b];exact h2
  ·have e':¬ q.1=k:=λz=>e (h1.trans z);have b:atKey (q::qs) k=atKey qs k:=by simp[atKey,e']
   rw[qC e,b];exact ih
theorem KT.OM(r:KT H kvs xs)(k:List Key)(ry:RelV y u) :
  KT H (kvs.map λkv=>if kv.1=k then(kv.1,y)else kv) (xs.map (putAt k u)):=by
 induction r with
 |nil=>exact .nil
 | @cons p q ps qs h t ih=>
  rw[Vu,Vu];refine .cons ?_ ih;obtain⟨h1,h2,h3⟩:=h;unfold putAt;by_cases e:p.1=k
  ·rw[if_pos e,if_pos (h1.symm.trans e)];exact(h1,h2,ry)
  ·rw[if_neg e,if_neg (λz=>e (h1.trans z))];exact(h1,h2,h3)
theorem KT.put(r:KT H kvs xs)(k:List Key)(hb:H b=some (.tup (k.map kV)))(ry:RelV y u) :
  KT H (putK kvs k y) (storedH xs k b u):=by
 have e:(kvs.any λkv=>decide (kv.1=k))=(atKey xs k).isSome:=by rw[qE,(r.val k).kO,YV]
 unfold putK storedH;rw[e];by_cases q:(atKey xs k).isSome=true
 ·rw[if_pos q,if_pos q];exact r.OM k ry
 ·rw[if_neg q,if_neg q];exact Paired.snoc r (rfl,hb,ry)
theorem KT.keeps(r:KT H kvs xs)(ht:∀b ys,H b=some (.tup ys)->H' b=some (.tup ys)):KT H' kvs xs:=
 Paired.lK r λ_ _ z=>(z.1,ht _ _ z.2.1,z.2.2)
section
variable {P:Zj} {w:World} {H:Hp} {h:Heap} {a:Addr}
theorem Nq(ok:ox P w H h)(e:Rd H a u):cX P w H h a u:=e.ok ok
theorem EU(ok:ox P w H h)(e:Rd H a (.dK kvs)):kvs.length<=sizeLine/\(a==sysModules)=false/\∃vs,KV kvs vs/\h.DictOf (cw P w) a vs:=
 show cX P w H h a (.dK kvs)from Nq ok e
theorem Nt(ok:ox P w H h)(e:H a=some (.dK kvs)):kvs.length<=sizeLine/\(a==sysModules)=false/\∃vs,KV kvs vs/\h.DictOf (cw P w) a vs:=EU ok (.inl e)
theorem ve(ok:ox P w H h)(e:H a=some (.tup (ks.map kV))):(tupleKind (cw P w)).is h ks a:=by obtain⟨_,a_,r,o,h1,h2,n,h3⟩:=(ok a _ e);exact(o,a_.toArray,n,h1,h2,h3,by simpa using yy r)
theorem EV(ok:ox P w H h)(e:Rd H a (.dT kvs)):kvs.length<=sizeLine/\(a==sysModules)=false /\
  ∃xs,KT H kvs xs/\h.DictOfH (tupleKind (cw P w)) a xs:=by
 obtain⟨z,y,xs,r,o,es,ep,h1,h2,h3,h4,h5⟩:=(show cX P w H h a (.dT kvs)from Nq ok e);refine(z,y,xs,r,o,es,ep,h1,h2,h3,h4,λx hx=>?_,h5)
 have all:∀{l:List (List Key×V)} {m:List (List Key×Addr×Value)},KT H l m->∀x∈m,(tupleKind (cw P w)).is h x.1 x.2.1:=by
  intro l m q
  induction q with
  |nil=>grind
  | @cons p q ps qs hq t ih=>
   intro x hx;rcases Vb.mp hx with e|hx
   ·subst e;exact ve ok (by rw[<- hq.1];exact hq.2.1)
   ·exact ih x hx
 grind
theorem Ri(ok:ox P w H h)(e:H a=some (.dT kvs)):kvs.length<=sizeLine/\(a==sysModules)=false /\
  ∃xs,KT H kvs xs/\h.DictOfH (tupleKind (cw P w)) a xs:=EV ok (.inl e)
end
def Bh(H:Hp)(a:Addr)(y:V)(r:Option V):Prop:=
 (∃kvs k,Rd H a (.dK kvs)/\y=kV k/\r=uv kvs k)\/∃kvs k b,Rd H a (.dT kvs)/\y=.ref b/\H b=some (.tup (k.map kV))/\r=uv kvs k
noncomputable def Lw(H:Hp)(a:Addr)(y v:V)(H':Hp):Prop:=
 (∃kvs k,H a=some (.dK kvs)/\y=kV k/\kvs.length<sizeLine/\H'=upd H a (.dK (putK kvs k v))) \/
 ∃kvs k b,H a=some (.dT kvs)/\y=.ref b/\H b=some (.tup (k.map kV))/\kvs.length<sizeLine/\H'=upd H a (.dT (putK kvs k v))
theorem Bh.k{k:Key}(e:H a=some (.dK kvs)):Bh H a (kV k) (uv kvs k):=.inl (kvs,k,.inl e,rfl,rfl)
theorem Lw.k{k:Key}{v:V}(e:H a=some (.dK kvs))(hl:kvs.length<sizeLine):Lw H a (kV k) v (upd H a (.dK (putK kvs k v))):=.inl (kvs,k,e,rfl,hl,rfl)
section
variable {X:Cx} {pins:Y5} {σ:St} {H:Hp} {s:Zn} {a:Addr} {y v:V} {u r:Value} {o:Option V} {A:Zm} {E:Y4}
theorem Inv.big(I:Inv X pins σ H s):sysModules<s.heap.objs.size:=by have h  := (I.mod.glob.keeps I.bk).lt;exact Nat.lt_trans (by decide) h
theorem GD(hu:A.units+1<cLine)(I:Inv X pins σ H s)(g:Bh H a y (some v))(ry:RelV y u)(h:∀w' s',Inv X pins σ H s'->RelV v w'->Q w' s') :
  wpAny (model X.prog X.w) A (getItem (.ref a) u) Q E s:=by
 rcases g with⟨kvs,k,e,ey,l⟩|⟨kvs,k,b,e,ey,eb,l⟩
 ·subst ey;obtain⟨z,hd,vs,rel,dd⟩:=EU I.hok e;obtain⟨w',hw,Zr⟩:=uZ.some_of (v:=v) (o:=valueAt vs k) (by rw[l];exact rel.val k);exact wpAny_getItem_of (vc ry) dd.mapOf hw (h w' _ (I.tok _) Zr)
 ·subst ey;cases(show u=Value.ref b from ry);obtain⟨z,hd,xs,rel,dd⟩:=EV I.hok e;obtain⟨w',hw,Zr⟩:=uZ.some_of (v:=v) (o:=(atKey xs k).map (·.2)) (by rw[l];exact rel.val k);obtain⟨p,hp,Z7⟩:=VC.mp hw;refine wpAny_getItem_heap (X8 hu) (ve I.hok eb) dd hp ?_;rw[Z7];exact h w' _ (I.tok _) Zr
theorem Ts(hu:A.units+1<cLine)(I:Inv X pins σ H s)(g:Bh H a y o)(ry:RelV y u)(h:∀s',Inv X pins σ H s'->Q (.bool o.isSome) s') :
  wpAny (model X.prog X.w) A (compareOp .In u (.ref a)) Q E s:=by
 rcases g with⟨kvs,k,e,ey,l⟩|⟨kvs,k,b,e,ey,eb,l⟩
 ·subst ey;obtain⟨z,hd,vs,rel,dd⟩:=EU I.hok e;refine wpAny_in_of (vc ry) hd dd.mapOf ?_;rw[<- (rel.val k).kO,<- l];exact h _ (I.tok _)
 ·subst ey;cases(show u=Value.ref b from ry);obtain⟨z,hd,xs,rel,dd⟩:=EV I.hok e;refine wpAny_in_heap (X8 hu) (ve I.hok eb) hd dd ?_;have q:=(rel.val k).kO;rw[YV]at q;rw[<- q,<- l];exact h _ (I.tok _)
theorem Lx(hu:A.units+1<cLine)(I:Inv X pins σ H s)(g:Bh H a y o)(ry:RelV y u)(h:∀s',Inv X pins σ H s'->Q (.bool (!o.isSome)) s') :
  wpAny (model X.prog X.w) A (compareOp .NotIn u (.ref a)) Q E s:=by
 rcases g with⟨kvs,k,e,ey,l⟩|⟨kvs,k,b,e,ey,eb,l⟩
 ·subst ey;obtain⟨z,hd,vs,rel,dd⟩:=EU I.hok e;refine wpAny_notIn_of (vc ry) hd dd.mapOf ?_;rw[<- (rel.val k).kO,<- l];exact h _ (I.tok _)
 ·subst ey;cases(show u=Value.ref b from ry);obtain⟨z,hd,xs,rel,dd⟩:=EV I.hok e;refine wpAny_notIn_heap (X8 hu) (ve I.hok eb) hd dd ?_;have q:=(rel.val k).kO;rw[YV]at q;rw[<- q,<- l];exact h _ (I.tok _)
theorem uH(I:Inv X pins σ H s)(mu:Qu (H a))(hs:Heap.SameBut a s.heap h')(he:∃q,h'.get? a=some q)(new:cX X.prog X.w (upd H a ob) h' a ob) :
  Inv X pins σ (upd H a ob) {s with heap:=h',toks:=t'}:=
 I.write (x:=a) (e:=a) mu (.inl rfl) (λb q hb z=>(hs.2 b hb).trans z) he new
theorem Dw(z:kvs.length<=sizeLine)(hd:(a==sysModules)=false)(rel:KV kvs vs)(dd:h'.DictOf (cw P w) a vs) :
  cX P w H' h' a (.dK kvs):=(z,hd,vs,rel,dd)
theorem GF(hu:A.units+1<cLine)(I:Inv X pins σ H s)(g:Lw H a y v H')(ry:RelV y u)(rv:RelV v r)(h:∀s',Inv X pins σ H' s'->Q () s') :
  wpAny (model X.prog X.w) A (setItem (.ref a) u r) Q E s:=by
 rcases g with⟨kvs,k,e,ey,l,eH⟩|⟨kvs,k,b,e,ey,eb,l,eH⟩
 ·subst ey eH;obtain⟨z,hd,vs,rel,dd⟩:=Nt I.hok e;have hz:vs.length<=sizeLine:=by grind[rel.length]
  have hl:(putK kvs k v).length<=sizeLine:=by have:=jW kvs k v;omega
  refine wpAny_setItem_pairs (hsz:=hz) (vc ry) dd λh' W1 hs=>h _ ?_;have he:∃q,h'.get? a=some q:=by obtain⟨q,_,_,hq,_⟩:=W1;grind
  exact uH I (by rw[e];exact True.intro) hs he (Dw hl hd (rel.put k rv) W1)
 ·subst ey eH;cases(show u=Value.ref b from ry);obtain⟨z,hd,xs,rel,dd⟩:=Ri I.hok e;have hz:xs.length<=sizeLine:=by rw[<- Vo rel];exact z
  have hl:(putK kvs k v).length<=sizeLine:=by have:=jW kvs k v;omega
  refine wpAny_setItem_heap (hsz:=hz) (X8 hu) (ve I.hok eb) dd λh' W1 hs=>h _ ?_;obtain⟨q,es,ep,hq,h2,h3,h4,_,h5⟩:=W1;refine uH I (by rw[e];exact True.intro) hs (q,hq) (hl,hd,_,(rel.put k eb rv).keeps λc ys ec=>?_,q,es,ep,hq,h2,h3,h4,h5);rw[aQ (QK ec e (λz=>nomatch z))];exact ec
end
def ON(i:Expr):Prop:=∀ov iv,subscripted i false ov iv=operate [ov,iv] (getItem ov iv)
theorem Ly{T id:String}
 (hl:typeLookup (.type T) "__getitem__" = pure (some (.builtin id)))(hs:ON slice)
 (h:wpAny (model prog w) A (eval value env) (λo f_=>wpAny (model prog w) A (eval slice env) (λi z_=>z_.TypeIs o T/\wpAny (model prog w) A (getItem o i) Q E z_) E f_) E s) :
  wpAny (model prog w) A (eval (.Subscript value slice pos) env) Q E s:=by
 refine Subscript_ (V7 h (λo f_ h₁=>V7 h₁ (λi z_ h₂=>?_) λ_ _ x=>x) λ_ _ x=>x);obtain⟨hT,h₂⟩:=h₂;refine UY ?_;refine UY (WE hT hl ?_);have fin:wpAny (model prog w) A (subscripted slice false o i) (λr s₃=>wpAny (model prog w) A (letTemporaryGo value o r >>= λ_=>pure r) Q E s₃) E z_:=by rw[hs o i];exact wpAny_operating (V7 h₂ (λr s₃ h₃=>UY (wpAny_letTemporaryGo (UZ h₃))) λ_ _ x=>x)
 first
  |exact UZ (UY fin)
  |rfl
  |rfl
theorem Bi(h:Heap)(hb:sysModules<h.objs.size):cX P w H (h.push {cls:=.type "dict",data:=.dict #[]}) h.objs.size (.dK []):=
 (Wr _,XW.mpr (X4 (Vi hb)),[],.nil,Heap.DictOf.new h)
def OO:TE:=λ_ H Q=>∀p,H p=none->Q (.ref p) (upd H p (.dK []))
section
variable {X:Cx} {pos:Pos}
theorem Ih:PE X (.Dict [] [] pos) OO:=λpins s σ H Q I h=>
 wpAny_Dict_empty (.ref s.heap.objs.size,_,I.laid (a:=s.heap.objs.size) (o:=.dK []) (t':=s.toks) (λ_ _ q=>U0 _ q) (U4 _) (Bi s.heap I.big),rfl,h _ (I.hok.fresh (U4 _)))
end
def Dx:List (TE×TE)->St->Hp->(List (V×V)->Hp->Prop)->Prop
 | [],_,H,Q=>Q [] H
 | (tk,tv)::r,σ,H,Q=>tk σ H λx H1=>tv σ H1 λy H2=>Dx r σ H2 λps H3=>Q ((x,y)::ps) H3
abbrev VV:List (V×V)->List (Value×Value)->Prop:=Paired λp q=>RelV p.1 q.1/\RelV p.2 q.2
noncomputable def Si(X:Cx)(pos:Pos)(keys:List (Option Expr))(values:Ze)(C8:List (TE×TE)):Prop:=
 ∀(pins:Y5) (s:Zn) (σ:St) (H:Hp) (Q:List (V×V)->Hp->Prop),Inv X pins σ H s->Dx C8 σ H Q ->
  wpAny (model X.prog X.w) X.A (evalPairs (pairTrees keys values X.env pos)) (λvs s'=>∃ps H',Inv X pins σ H' s'/\VV ps vs/\Q ps H') X.xe s
theorem Lz:Si X pos [] [] []:=λpins s σ H Q I h=>pairTrees_nil_walk ([],H,I,.nil,h)
theorem Ii(hk:PE X k tk)(hv:PE X v tv)(hr:Si X pos ks vs C8) :
  Si X pos (some k::ks) (v::vs) ((tk,tv)::C8):=λpins s σ H Q I h=>
 pairTrees_cons_walk (bN (hk pins s σ H _ I h) λu s1 ⟨x,H1,I1,rx,q1⟩=>bN (hv pins s1 σ H1 _ I1 q1) (by rintro w2 s2 ⟨y,H2,I2,ry,q2⟩;exact bN (hr pins s2 σ H2 _ I2 q2) (by rintro ws s3 ⟨ps,H3,I3,rel,q3⟩;exact((x,y)::ps,H3,I3,.cons (rx,ry) rel,q3))))
def vf(kvs more:List (Key×V)):List (Key×V):=more.foldl (λacc kv=>putK acc kv.1 kv.2) kvs
theorem KV.merge:∀{more:List (Key×V)} {rs:List (Key×Value)} {kvs:List (Key×V)} {vs:List (Key×Value)},KV more rs->KV kvs vs->KV (vf kvs more) (merged vs rs):=by
 intro more rs kvs vs r
 induction r generalizing kvs vs with
 |nil=>intro q;exact q
 | @cons p q ps qs h t ih=>
  intro r0
  have e:KV (putK kvs p.1 p.2) (stored vs q.1 q.2):=by
   have:=r0.put p.1 h.2
   grind
  exact ih e
theorem oZ:∀(more kvs:List (Key×V)),(vf kvs more).length<=kvs.length+more.length
 | [],kvs=>by show kvs.length<=kvs.length+0;omega
 |p::r,kvs=>by
  have h1:=oZ r (putK kvs p.1 p.2);have h2:=jW kvs p.1 p.2;show(vf _ r).length<=_
  grind
theorem vg:∀{kvs:List (Key×V)} {ws:List (Value×Value)},VV (kvs.map λkv=>(kV kv.1,kv.2)) ws->∃rs,Carries (cw P w) ws rs/\KV kvs rs
 | [],_,r=>by cases r;exact([],True.intro,.nil)
 |p::kvs,_,r=>by
  cases r with
  | @cons a b as bs h t=>obtain⟨rs,c,q⟩:=vg t;obtain⟨b1,b2⟩:=b;exact((p.1,b2)::rs,(vc h.1,rfl,c),.cons (rfl,h.2) q)
def Rj(C8:List (TE×TE)):TE:=λσ H Q=>∀p,H p=none->Dx C8 σ (upd H p (.dK [])) λps H2=>H2 p=some (.dK [])/\∃kvs:List (Key×V),ps=kvs.map (λkv=>(kV kv.1,kv.2))/\kvs.length<=15/\Q (.ref p) (upd H2 p (.dK (vf [] kvs)))
theorem LA(h:Si X pos keys values C8)(AC:keys.all (·.isSome)=true)(hl:keys.length=values.length)(h0:keys≠[])
 (h15:keys.length<=15):PE X (.Dict keys values pos) (Rj C8):=by
 intro pins s σ H Q I q;have hn:=I.hok.fresh (U4 s.heap.objs.size);have I1:=I.laid (a:=s.heap.objs.size) (o:=.dK []) (h':=s.heap.push {cls:=.type "dict",data:=.dict #[]}) (t':=s.toks) (λ_ _ q=>U0 _ q) (U4 _) (Bi s.heap I.big);refine wpAny_Dict_walk (knd:=cw X.prog X.w) AC hl h0 h15 (bN (h pins _ σ _ _ I1 (q _ hn)) λws s2 ⟨ps,H2,I2,rel,e,kvs,ep,lk,q2⟩=>?_);subst ep;obtain⟨rs,c,rk⟩:=vg (P:=X.prog) (w:=X.w) rel;obtain⟨z,hd,vs0,r0,dd⟩:=Nt I2.hok e;cases r0;refine(rs,c,dd,λh' W1 hs=>(.ref s.heap.objs.size,_,?_,rfl,q2))
 have hz:(vf [] kvs).length<=sizeLine:=by
  have h1:=oZ kvs []
  grind[List.length_nil,sizeLine_eq]
 have he:∃q,h'.get? s.heap.objs.size=some q:=by obtain⟨q,_,_,hq,_⟩:=W1;grind
 exact uH I2 (by rw[e];exact True.intro) hs he (Dw hz hd (rk.merge .nil) W1)
theorem vh{K:Zc}{St:Nat->Heap->Prop}{f:Nat->V}(W:∀A:Zm,A.handled=none->Walks P w A it [it] [it] n Pv St)
 (ob:∀i h,St i h->∃(o:Obj) (m:String) (vs:Zh),h.get? it=some o/\o.cls=.type m/\o.data=.fields vs/\["enumerate", "zip", "dict_itemiterator", "dict_reverseitemiterator", "odict_iterator", "itertools.zip_longest", "itertools.pairwise"].contains m=false)
 (rel:∀i v,i<n->Pv i v->RelV (f i) v)(sf:∀(A:Zm) (i:Nat) (s:Zn) (Q:Y4) (E:Y4),St i s.heap->Q (.ref it) s->wpAny (model P w) A (pyIter (.ref it)) Q E s):Turn P w K tg (λi _=>i<n,λi H x H'=>H'=H/\x=f i,λi _=>i=n) [it] it St where
 mem:=by simp
 obj:=λi h st b hb=>by
  grind
 keep:=λi h h' st k=>(W {handled:=none,depth:=0,frames:=none,guards:=none,units:=0} rfl).frame i h h' st λb hb o e=>k b hb o e
 item:=by intro X hP hw hK hc i pins s σ H E I hf st hg;subst hP hw hK;obtain⟨f0,f1,f2,f3,f4,f5⟩:=hf it (by simp);refine(W X.A (I.ok.hd hc)).item i s _ _ hg st λv h' tk hv O_ kk=>?_;have I1:Inv X pins σ H {s with heap:=h',toks:=tk}:=I.turned (λb o hb e=>kk b o (by grind) e) f0 f1 f3 f4 f5;obtain⟨o,m,vs,e,c,d,nm⟩:=ob _ _ O_;exact(v,rfl,EI (s:={s with heap:=h',toks:=tk}) e c d nm (f i,H,I1,rel i v hg hv,(rfl,rfl),O_,λb hb=>(hf b hb).1))
 done:=by intro X hP hw hK hc i pins s σ H E I hf st hg;subst hP hw hK;obtain⟨f0,f1,f2,f3,f4,f5⟩:=hf it (by simp);have hg':i=n:=hg;subst hg';exact(W X.A (I.ok.hd hc)).done s _ _ st λh' tk kk=>(rfl,I.turned (λb o hb e=>kk b o (by simpa using hb) e) f0 f1 f3 f4 f5)
 self:=sf
def sgn(x:Str)(i:Nat):V:=.str ⟨#[x.cps.getD i 0]⟩
def Tt(x:Str):It:=(λi _=>i<x.cps.size,λi H v H'=>H'=H/\v=sgn x i,λi _=>i=x.cps.size)
theorem zH(i:Nat)(v:Value)(hi:i<x.cps.size)(h:SignAt x i v):RelV (sgn x i) v:=by
 obtain⟨c,u,e,rfl⟩:=h;refine(u,?_)
 simp_all
section
def Tu(tl:TE):TI:=λσ H R=>tl σ H λv H1=>∃x,v=.str x/\R (Tt x) H1
theorem OP(hl:PE X l tl):PI X tg l (Tu tl):=by
 intro pins s σ H R I h;refine bN (hl pins s σ H _ I h) λv s1 ⟨x,H1,I1,r1,q1⟩=>?_;obtain⟨x,e,q⟩:=q1;subst e;obtain⟨t,rfl⟩:=r1
 have fp:∀b∈[s1.heap.objs.size],jT X pins H1 b:=λb hb=>by
  have e:b=s1.heap.objs.size:=by grind
  subst e;exact I1.Gj (U4 _) (I1.hok.fresh (U4 _))
 cases ha:x.cps.all (· < 128)with
 |false=>
  refine wpAny_pyIter_wide ha ?_
  refine(s1.heap.objs.size,[s1.heap.objs.size],_,Tt x,H1,rfl,I1.kept (t':=s1.toks) λb o e=>U0 _ e,
   vh (λA hA=>Walks.strWide hA _ x t) (by rintro i h ⟨o,e,c,d⟩;exact⟨o,_,_,e,c,d,by decide⟩) zH λA i s Q E st h=>wpAny_pyIter_striter_wide st h,(_,U5 _ rfl,rfl,rfl),fp,q)
 |true=>
  refine wpAny_pyIter_ascii ha ?_
  refine(s1.heap.objs.size,[s1.heap.objs.size],_,Tt x,H1,rfl,I1.kept (t':=s1.toks) λb o e=>U0 _ e,
   vh (λA hA=>Walks.strAscii hA _ x t) (by rintro i h ⟨o,e,c,d⟩;exact⟨o,_,_,e,c,d,by decide⟩) zH λA i s Q E st h=>wpAny_pyIter_striter_ascii st h,(_,U5 _ rfl,rfl,rfl),fp,q)
end
section
theorem all_range(bs:List Bool):((List.range bs.length).all λi=>(bs[i]?).getD true)=bs.all id:=by
 rw[VO];simp only[Vg,VI,id];constructor
 ·intro h b hb;obtain⟨i,hi,rfl⟩:=Ws.mp hb
  simp_all
 ·intro h i hi;simp only[hi,Va,WZ];exact h _ (Y0 hi)
theorem Ij(hc:X.calm=true):dB X (.builtin "all") (λxs H Q=>∃(l:Addr) (bs:List Bool),xs=[.ref l]/\iA X.K H l (bs.map V.bl)/\Q (.bl (bs.all id)) H):=by
 intro pins s σ H vs us Q I r h;obtain⟨l,bs,rfl,hq,q⟩:=h
 cases r with
 |cons r rr=>
  cases rr;cases r;obtain⟨a_,rv,p,_⟩:=I.list hq;have pl:=p.isList;have m_:l<s.heap.objs.size:=by obtain⟨_,e,_⟩:=pl;exact U6 e
  refine call_all_walk (Xd pl ?_);refine(s.heap.objs.size,[s.heap.objs.size,l],[s.heap.objs.size],a_.toArray.size,_,_,λi=>(bs[i]?).getD true,rfl,Walks.list (A:=X.A.in1) (I.ok.hd hc) _ l (Vi m_) a_.toArray,((_,U5 _ rfl,rfl,rfl),pl.push _),λi v s' Q' E' hP hQ=>?_,λh' tk hk=>?_)
  ·have hP':a_[i]?=some v:=by simpa using hP
   have hi:i<(bs.map V.bl).length:=by rw[rv.length];exact(U9.mp hP').1
   obtain⟨u,hu,ru⟩:=rv.get (i:=i) (x:=(bs.map V.bl)[i]) (by simp[hi]);rw[hP']at hu;cases hu;rw[Ve]at hi;simp only[List.getElem_map]at ru;obtain rfl:v=Value.bool bs[i]:=ru;have hQ':=hQ;simp only[hi,Va,WZ]at hQ';exact V8 hQ'
  ·have e:((List.range a_.toArray.size).all λi=>(bs[i]?).getD true)=bs.all id:=by
    rw[Vq,<- rv.length,Ve];exact all_range bs
   rw[e];exact(.bl _,H,I.kept λb o e=>hk b o (λhm=>by rw[Vm.mp hm]at e;exact VE _ (U6 e)) (U0 _ e),rfl,q)
theorem GG:jU X (compareOp .LtE) (λx y H Q=>∃i j,x=.str i/\y=.str j/\Q (.bl (!decide (j.cps.toList<i.cps.toList))) H):=by intro pins s σ H x y v u Q I rx ry h;obtain⟨i,j,rfl,rfl,q⟩:=h;obtain⟨t,rfl⟩:=rx;obtain⟨t',rfl⟩:=ry;exact P.le_str (.bl _,H,I,rfl,q)
end
def jk:V->Option PyData
 |.non=>some .none
 |.bl b=>some (.bool b)
 |.int i=>some (.int i)
 |.str x=>some (.str x)
 |_=>none
def GH:Key->PyData
 |.inl i=>.int i
 |.inr x=>.str x
def bP:List (Key×V)->Option Y6
 | []=>some []
 | (k,v)::r=>match jk v,bP r with
  |some d,some ds=>some ((GH k,d)::ds)
  |_,_=>none
mutual
noncomputable def Rep(H:Hp):PyData->V->Prop
 |.none,v=>v=.non
 |.bool b,v=>v=.bl b
 |.int i,v=>v=.int i
 |.str x,v=>v=.str x
 |.tuple ds,v=>∃a vs,v=.ref a/\H a=some (.tup vs)/\bu H ds vs
 |.list ds,v=>∃a vs,v=.ref a/\H a=some (.lst vs)/\bu H ds vs
 |.dict kvs,v=>∃a ks,v=.ref a/\H a=some (.dK ks)/\bP ks=some kvs
noncomputable def bu(H:Hp):Y9->List V->Prop
 | [],vs=>vs=[]
 |d::ds,vs=>∃w ws,vs=w::ws/\Rep H d w/\bu H ds ws
end
mutual
theorem Rep.same(s:bZ H H'):∀{d:PyData} {v:V},Rep H d v->Rep H' d v
 |.none,_,h=>h
 |.bool _,_,h=>h
 |.int _,_,h=>h
 |.str _,_,h=>h
 |.tuple ds,_,(a,vs,e,h,r)=>(a,vs,e,s _ _ h,bu.same s r)
 |.list ds,_,(a,vs,e,h,r)=>(a,vs,e,s _ _ h,bu.same s r)
 |.dict _,_,(a,ks,e,h,r)=>(a,ks,e,s _ _ h,r)
theorem bu.same{H H':Hp}(s:bZ H H'):∀{ds:Y9} {vs:List V},bu H ds vs->bu H' ds vs
 | [],_,h=>h
 |_::_,_,(w,ws,e,h,r)=>(w,ws,e,Rep.same s h,bu.same s r)
end
theorem bu.length:∀{ds:Y9} {vs:List V},bu H ds vs->vs.length=ds.length
 | [],_,h=>by cases h;rfl
 |_::ds,_,(w,ws,e,_,r)=>by rw[e,Vp,Vp,bu.length r]
theorem bu.get:∀{ds:Y9} {vs:List V} {i:Nat} {v:V},bu H ds vs->vs[i]?=some v->∃d,ds[i]?=some d/\Rep H d v
 | [],_,i,v,h,e=>by cases h;simp at e
 |d::ds,_,0,v,(w,ws,e0,h,r),e=>by grind
 |d::ds,_,i+1,v,(w,ws,e0,h,r),e=>by
  subst e0;obtain⟨u,e1,e2⟩:=bu.get r (by trivial)
  simp_all
theorem bu.get':∀{ds:Y9} {vs:List V} {i:Nat} {d:PyData},bu H ds vs->ds[i]?=some d->∃v,vs[i]?=some v/\Rep H d v
 | [],_,i,v,h,e=>by simp at e
 |d::ds,_,0,v,(w,ws,e0,h,r),e=>by grind
 |d::ds,_,i+1,v,(w,ws,e0,h,r),e=>by
  obtain⟨u,e1,e2⟩:=bu.get' r (by trivial)
  simp_all
theorem bu.append:∀{ds es:Y9} {vs us:List V},bu H ds vs->bu H es us->bu H (ds++es) (vs++us)
 | [],_,_,_,h,r=>by cases h;exact r
 |d::ds,_,_,_,(w,ws,e,h,q),r=>by subst e;exact(w,_,rfl,h,bu.append q r)
theorem bu.nil:bu H [] []:=rfl
theorem bu.cons{v:V}{vs:List V}(h:Rep H d v)(r:bu H ds vs):bu H (d::ds) (v::vs):=(v,vs,rfl,h,r)
theorem bu.one(h:Rep H d v):bu H [d] [v]:=.cons h .nil
theorem bu.take:∀{ds:Y9} {vs:List V} (n:Nat),bu H ds vs->bu H (ds.take n) (vs.take n)
 | [],_,n,h=>by grind[bu]
 |d::ds,_,0,_=>by rfl
 |d::ds,_,n+1,(w,ws,e,h,r)=>by subst e;exact .cons h (bu.take n r)
theorem bu.drop:∀{ds:Y9} {vs:List V} (n:Nat),bu H ds vs->bu H (ds.drop n) (vs.drop n)
 | [],_,n,h=>by grind[bu]
 |d::ds,_,0,h=>h
 |d::ds,_,n+1,(w,ws,e,h,r)=>by subst e;exact bu.drop n r
theorem Dy(e:jk v=some d)(r:RelV v u):Reads h u d []:=by
 cases v with
 |non=>cases e;cases r;exact .none
 |bl b=>cases e;cases r;exact .bool b
 |int i=>cases e;obtain⟨t,rfl⟩:=r;exact .int i t
 |str x=>cases e;obtain⟨t,rfl⟩:=r;exact .str x t
 |_=>cases e
theorem GI(e:uY k u=true):Reads h u (GH k) []:=by
 rcases cy e with⟨i,t,rfl,rfl⟩|⟨x,t,rfl,rfl⟩
 ·exact .int i t
 ·exact .str x t
theorem m7:∀{ks:List (Key×V)} {vs:List (Key×Value)} {es:List DictEntry} {kvs:Y6},bP ks=some kvs->KV ks vs->Pairs (cw P w) es vs ->
  ReadsAll h (es.map (·.key)) (kvs.map (·.1)) []/\ReadsAll h (es.map (·.val)) (kvs.map (·.2)) []
 | [],_,es,kvs,e,r,p=>by
  cases e;cases r
  cases es with
  |nil=>exact(.nil,.nil)
  |cons _ _=>trivial
 | (k,v)::ks,_,es,kvs,e,r,p=>by
  cases r with
  |cons r1 r2=>
   rename_i q vs';obtain⟨k',u⟩:=q;obtain⟨e1,e2⟩:=r1;simp only at e1 e2;subst e1
   cases p with
   |cons hk hv hr=>
    unfold bP at e
    cases e1:jk v with
    |none=>simp_all
    |some d=>
     cases e3:bP ks with
     |none=>simp_all
     |some ds=>rw[e1,e3]at e;cases e;obtain⟨z1,z2⟩:=m7 e3 r2 hr;exact(.cons (as:=[]) (bs:=[]) (GI hk) z1,.cons (as:=[]) (bs:=[]) (by show Reads h (DictEntry.val _) d [];rw[hv];exact Dy e1 e2) z2)
section
mutual
theorem Rep.reads(I:Inv X pins σ H s):∀{d:PyData} {v:V} {u:Value},Rep H d v->RelV v u->∃as,Reads s.heap u d as
 |.none,_,u,h,r=>by cases h;cases r;exact(_,.none)
 |.bool b,_,u,h,r=>by cases h;cases r;exact(_,.bool b)
 |.int i,_,u,h,r=>by cases h;obtain⟨t,rfl⟩:=r;exact(_,.int i t)
 |.str x,_,u,h,r=>by cases h;obtain⟨t,rfl⟩:=r;exact(_,.str x t)
 |.tuple ds,_,u,(a,vs,e,h,q),r=>by subst e;cases r;obtain⟨_,a_,rv,o,ho,hc,n,hd⟩:=I.hok a _ h;obtain⟨as,z⟩:=bu.reads I q rv;exact(_,.tuple ho hc hd (by simpa using z))
 |.list ds,_,u,(a,vs,e,h,q),r=>by subst e;cases r;obtain⟨_,a_,n,rv,ho⟩:=I.hok a _ h;obtain⟨as,z⟩:=bu.reads I q rv;exact(_,.list ho rfl rfl (by simpa using z))
 |.dict kvs,_,u,(a,ks,e,h,q),r=>by subst e;cases r;obtain⟨_,_,vs,rk,o,es,ep,ho,hx,hd,_,hp,_⟩:=I.hok a _ h;obtain⟨z1,z2⟩:=m7 (P:=X.prog) (w:=X.w) (h:=s.heap) q rk hp;exact(_,.dict ho hx.1 hd z1 z2)
theorem bu.reads(I:Inv X pins σ H s):∀{ds:Y9} {vs:List V} {us:Zb},bu H ds vs->Vals vs us->∃as,ReadsAll s.heap us ds as
 | [],_,us,h,r=>by cases h;cases r;exact(_,.nil)
 |d::ds,_,us,(w,ws,e,h,q),r=>by
  subst e
  cases r with
  |cons r1 r2=>obtain⟨as,z⟩:=Rep.reads I h r1;obtain⟨bs,y⟩:=bu.reads I q r2;exact(_,.cons z y)
end
end
section
def OQ:List V->Hp->VK->Prop:=λxs H Q=>∃kvs v,xs=[v]/\Rep H (.dict kvs) v/\(PyData.dict kvs).showable=true/\(PyData.dict kvs).depth<=20/\(PyData.dict kvs).shown.length<=sizeLine/\Q (.str (PyData.dict kvs).shown) H
theorem Dz(hr:cE k X.A):dB X (.builtin "repr") OQ:=by
 intro pins s σ H vs us Q I r h;obtain⟨kvs,v,rfl,h1,hs,hd,hz,q⟩:=h;obtain⟨a,ks,rfl,ha,e⟩:=h1
 cases r with
 |cons r rr=>
  cases rr;cases r;obtain⟨_,ne,vs,rk,o,es,ep,ho,hx,hdd,_,hp,_⟩:=I.hok a _ ha;obtain⟨z1,z2⟩:=m7 e rk hp;refine YS (Reads.dict ho hx.1 hdd z1 z2) hs (λ_ hm=>?_) hr.gd (by have:=hr.units;omega) (λ_ _ e=>e) (λh' t tk hk=>(.str _,H,I.kept hk,(_,rfl),q)) hz
  grind
def OR:PyData->String
 |.none => "NoneType"
 |.bool _ => "bool"
 |.int _ => "int"
 |.str _ => "str"
 |.tuple _ => "tuple"
 |.list _ => "list"
 |.dict _ => "dict"
theorem Rep.ty{K:Zc}(h:Rep H d v):qx K H v (.type (OR d)):=by
 cases d with
 |none=>cases h;exact .non
 |bool b=>cases h;exact .bl b
 |int i=>cases h;exact .int i
 |str x=>cases h;exact .str x
 |tuple ds=>obtain⟨a,vs,rfl,e,_⟩:=h;exact .tup e
 |list ds=>obtain⟨a,vs,rfl,e,_⟩:=h;exact .lst e
 |dict ds=>obtain⟨a,ks,rfl,e,_⟩:=h;exact .dK e
theorem Ik:dB X (.builtin "isinstance") (λxs H Q=>∃x n t b,xs=[x,.ty n]/\qx X.K H x t/\PySem.W.kitOne X.K t (.type n)=some b/\Q (.bl b) H):=by
 intro pins s σ H vs us Q I r h;obtain⟨x,n,t,b,rfl,ty,e,q⟩:=h
 cases r with
 |cons r rr=>
  cases rr with
  |cons r' rr=>cases rr;cases r';exact Gu I r ty e λtk=>(.bl b,H,I.tok _,rfl,q)
theorem kit_tuple(K:Zc)(d:PyData):PySem.W.kitOne K (.type (OR d)) (.type "tuple")=some (match d with|.tuple _=>true|_=>false):=by cases d<;>first|rfl|decide
theorem LB(K:Zc)(d:PyData):PySem.W.kitOne K (.type (OR d)) (.type "str")=some (match d with|.str _=>true|_=>false):=by cases d<;>first|rfl|decide
end
theorem bZ.upd(s:bZ H H')(hp:H' p=none):bZ H (upd H' p o):=λb u e=>by rw[aQ (br (s b u e) hp)];exact s b u e
theorem bZ.new(hp:H p=none):bZ H (L2.upd H p o):=(bZ.refl H).upd hp
theorem xZ:bootBuiltins "isinstance" = some (.builtin "isinstance"):=by rfl
theorem kA:bootBuiltins "len" = some (.builtin "len"):=by rfl
theorem pE:bootBuiltins "all" = some (.builtin "all"):=by rfl
theorem uI:bootBuiltins "repr" = some (.builtin "repr"):=by rfl
theorem kP:bootBuiltins "sorted" = some (.builtin "sorted"):=by rfl
theorem GJ:bootBuiltins "divmod" = some (.builtin "divmod"):=by rfl
theorem OS:bootBuiltins "abs" = some (.builtin "abs"):=by rfl
theorem OT:bootBuiltins "min" = some (.builtin "min"):=by rfl
theorem OU:bootBuiltins "max" = some (.builtin "max"):=by rfl
theorem OV:bootBuiltins "str" = some (.type "str"):=by rfl
theorem eW:bootBuiltins "tuple" = some (.type "tuple"):=by rfl
theorem LC:bootBuiltins "list" = some (.type "list"):=by rfl
section
def isTup:PyData->Bool|.tuple _=>true|_=>false
def isStr:PyData->Bool|.str _=>true|_=>false
end
def mT(f:Expr->Option PyData):Ze->Option Y9
 | []=>some []
 |e::es=>match f e,mT f es with
  |some d,some ds=>some (d::ds)
  |_,_=>none
def Rk:Const->Option PyData
 |.none=>some .none
 |.bool b=>some (.bool b)
 |.int i=>some (.int i)
 |.str x=>some (.str x)
 |_=>none
def Rm:Option PyData->Option PyData
 |some (.int i)=>some (.int (-i))
 |_=>none
def OW:Option PyData->Option PyData->Option PyData
 |some (.int a),some (.int b)=>if 0<=b/\b<=1000000/\a.natAbs<2^64 then some (.int (a^b.toNat))else none
 |_,_=>none
def OX:Option PyData->Option PyData->Option PyData
 |some (.str k),some (.int i)=>some (.dict [(.str k,.int i)])
 |_,_=>none
noncomputable def jl:Nat->Expr->Option PyData
 |0,_=>none
 |n+1,e=>match e with
  |.Constant c _ _=>Rk c
  |.Tuple es _ _=>if es.length<=1000 then(mT (jl n) es).map .tuple else none
  |.List es _=>if es.length<=1000 then(mT (jl n) es).map .list else none
  |.UnaryOp o x _=>match o with
   |.USub=>Rm (jl n x)
   |_=>none
  |.BinOp a o b _=>match o with
   |.Pow=>OW (jl n a) (jl n b)
   |_=>none
  |.Dict ks vs _=>match ks with
   | []=>match vs with
    | []=>some (.dict [])
    |_=>none
   |k::ks=>match k with
    |some k=>match vs with
     |v::vs=>if ks.isEmpty&&vs.isEmpty then OX (jl n k) (jl n v)else none
     |_=>none
    |_=>none
  |_=>none
abbrev EW(n:Nat)(es:Ze):Option Y9:=mT (jl n) es
def jX(H H' N:Hp):Prop:=∀c o,N c=some o->H c=none/\H' c=some o
def OY(d:PyData):TE:=λ_ H Q=>∀r H' N,bZ H H'->jX H H' N->Rep N d r->Q r H'
def Rn(ds:Y9):TA:=λ_ H Q=>∀rs H' N,bZ H H'->jX H H' N->bu N ds rs->Q rs H'
def Bj:Hp:=λ_=>none
theorem jX.no:jX H H' Bj:=λ_ _ e=>by cases e
def pF(N M:Hp):Hp:=λc=>match N c with|some o=>some o|none=>M c
theorem OZ:bZ N (pF N M):=λc o e=>by simp[pF,e]
theorem O0(n:jX H H1 N)(m:jX H1 H2 M):bZ M (pF N M):=λc o e=>by
 have h1:=(m c o e).1
 cases q:N c with
 |none=>simp[pF,q,e]
 |some u=>rw[(n c u q).2]at h1;cases h1
theorem jX.plus(s1:bZ H H1)(s2:bZ H1 H2)(n:jX H H1 N)(m:jX H1 H2 M):jX H H2 (pF N M):=λc o e=>by
 cases q:N c with
 |some u=>simp[pF,q]at e;cases e;exact((n c _ q).1,s2 _ _ (n c _ q).2)
 |none=>simp[pF,q]at e;exact(s1.free (m c o e).1,(m c o e).2)
theorem jX.put(s1:bZ H H1)(n:jX H H1 N)(hp:H1 p=none):jX H (upd H1 p o) (upd N p o)/\bZ N (upd N p o):=by
 have np:∀c u,N c=some u->c≠p:=λc u e z=>by subst z;rw[(n c u e).2]at hp;cases hp
 refine(λc u e=>?_,λc u e=>by rw[aQ (np c u e)];exact e);by_cases hc:c=p
 ·subst hc;rw[bD]at e;cases e;exact(s1.free hp,bD)
 ·rw[aQ hc]at e;exact((n c u e).1,by rw[aQ hc];exact(n c u e).2)
theorem lQ:∀{es:Ze} {n:Nat} {ds:Y9},EW n es=some ds->ds.length=es.length
 | [],n,ds,h=>by simp_all[mT]
 |e::es,n,ds,h=>by
  unfold EW mT at h;split at h
  ·rename_i d i_ h1 h2;cases h;rw[Vp,Vp,lQ h2]
  grind
section
theorem zI(ih:∀(e:Expr) (d:PyData),jl n e=some d->PE X e (OY d)/\∀es:Ze,starEach (e::es) X.env=(false,eval e X.env)::starEach es X.env):∀(es:Ze) (ds:Y9),EW n es=some ds->PA X es (Rn ds)
 | [],ds,h=>by cases h;intro pos pins s σ H Q I q;exact zx pos pins s σ H Q I (q [] H Bj (bZ.refl H) .no rfl)
 |e::es,ds,h=>by
  unfold EW mT at h;split at h
  ·rename_i d i_ h1 h2;cases h;obtain⟨a,b⟩:=ih e d h1;intro pos pins s σ H Q I q;refine qy a (zI ih es i_ h2) (b es) pos pins s σ H Q I λr H1 N1 s1 n1 hr rs H2 N2 s2 n2 hrs=>q _ H2 _ (s1.trans s2) (n1.plus s1 s2 n2) (.cons (hr.same OZ) (hrs.same (O0 n1 n2)))
  grind
theorem EX{n:Nat}{es:Ze}{f:Y9->PyData}{d:PyData}(h:(if es.length<=1000 then(mT (jl n) es).map f else none)=some d):es.length<=1000/\∃ds,mT (jl n) es=some ds/\f ds=d:=by
 by_cases hl:es.length<=1000
 ·rw[if_pos hl]at h;exact(hl,VC.mp h)
 ·rw[if_neg hl]at h;cases h
theorem LD:∀{x y:Option PyData},OW x y=some d->∃i j:Int,x=some (.int i)/\y=some (.int j)/\(0<=j/\j<=1000000/\i.natAbs<2^64)/\.int (i^j.toNat)=d:=by
 intro x y h
 cases x with
 |none=>cases h
 |some x=>cases x with
  |int i=>cases y with
   |none=>cases h
   |some y=>cases y with
    |int j=>
     have h:(if 0<=j/\j<=1000000/\i.natAbs<2^64 then some (PyData.int (i^j.toNat))else none)=some d:=h;by_cases hl:0<=j/\j<=1000000/\i.natAbs<2^64
     ·rw[if_pos hl]at h;exact(i,j,rfl,rfl,hl,Wm h)
     ·rw[if_neg hl]at h;cases h
    |_=>cases h
  |_=>cases h
theorem LF{ks:List (Option Expr)}{vs:Ze}{x y:Option PyData}(h:(if ks.isEmpty&&vs.isEmpty then OX x y else none)=some d):∃k i,x=some (.str k)/\y=some (.int i)/\ks=[]/\vs=[]/\.dict [(.str k,.int i)]=d:=by
 cases ks with
 |cons=>cases h
 |nil=>cases vs with
  |cons=>cases h
  |nil=>cases x with
   |none=>cases h
   |some x=>cases x with
    |str k=>cases y with
     |none=>cases h
     |some y=>cases y with
      |int i=>exact(k,i,rfl,rfl,rfl,rfl,Wm h)
      |_=>cases h
    |_=>cases h
theorem DB:∀(n:Nat) (e:Expr) (d:PyData),jl n e=some d->PE X e (OY d)/\∀es:Ze,starEach (e::es) X.env=(false,eval e X.env)::starEach es X.env:=by
 intro n
 induction n with
 |zero=>intro e d h;cases h
 |succ n ih=>
  intro e d h
  cases e with
  |Constant c p q=>
   have h:Rk c=some d:=h;refine(λpins s σ H Q I q=>?_,λ_=>rfl)
   cases c with
   |none=>cases h;exact Hz pins s σ H Q I (q _ H Bj (bZ.refl H) .no rfl)
   |bool b=>cases h;exact Ng pins s σ H Q I (q _ H Bj (bZ.refl H) .no rfl)
   |int i=>cases h;exact Hy pins s σ H Q I (q _ H Bj (bZ.refl H) .no rfl)
   |str x=>cases h;exact HA pins s σ H Q I (q _ H Bj (bZ.refl H) .no rfl)
   |_=>cases h
  |Tuple es k p=>have h:(if es.length<=1000 then(mT (jl n) es).map .tuple else none)=some d:=h;obtain⟨hl,ds,h1,rfl⟩:=EX h;refine(λpins s σ H Q I q=>Dn (zI ih es ds h1) pins s σ H Q I λrs H1 N1 s1 n1 hrs=>(?_,λp hp=>q _ _ _ (s1.upd hp) (n1.put s1 hp).1 (p,rs,rfl,bD,hrs.same (n1.put s1 hp).2)),λ_=>rfl);rw[hrs.length,lQ h1];exact U8 hl (by decide)
  |List es p=>have h:(if es.length<=1000 then(mT (jl n) es).map .list else none)=some d:=h;obtain⟨hl,ds,h1,rfl⟩:=EX h;refine(λpins s σ H Q I q=>Dp (zI ih es ds h1) pins s σ H Q I λrs H1 N1 s1 n1 hrs=>(?_,λp hp=>q _ _ _ (s1.upd hp) (n1.put s1 hp).1 (p,rs,rfl,bD,hrs.same (n1.put s1 hp).2)),λ_=>rfl);rw[hrs.length,lQ h1];exact U8 hl (by decide)
  |UnaryOp o x p=>
   cases o with
   |USub=>
    have h:Rm (jl n x)=some d:=h;refine(λpins s σ H Q I q=>?_,λ_=>rfl)
    cases hx:jl n x with
    |none=>rw[hx]at h;cases h
    |some y=>
     rw[hx]at h
     cases y with
     |int i=>cases h;exact QV Ot (ih x _ hx).1 pins s σ H Q I λr H' N s1 n1 hr=>(i,hr,q _ H' N s1 n1 rfl)
     |_=>cases h
   |_=>cases h
  |BinOp a o b p=>
   cases o with
   |Pow=>have h:OW (jl n a) (jl n b)=some d:=h;refine(λpins s σ H Q I q=>?_,λ_=>rfl);obtain⟨i,j,hi,hj,hl,rfl⟩:=LD h;exact Nh Oq (ih a _ hi).1 (ih b _ hj).1 pins s σ H Q I λr H1 N1 s1 n1 hr r2 H2 N2 s2 n2 hr2=>(i,j,hr,hr2,hl,q _ H2 _ (s1.trans s2) (n1.plus s1 s2 n2) rfl)
   |_=>cases h
  |Dict ks vs p=>
   refine(λpins s σ H Q I q=>?_,λ_=>rfl)
   cases ks with
   |nil=>cases vs with
    |nil=>cases h;exact Ih pins s σ H Q I λp hp=>q _ _ (upd Bj p (.dK [])) (bZ.new hp) (jX.put (bZ.refl H) .no hp).1 (p,[],rfl,bD,rfl)
    |cons=>cases h
   |cons k ks=>cases k with
    |none=>cases h
    |some k=>cases vs with
     |nil=>cases h
     |cons v vs=>
      obtain⟨k1,i,hk,hi,rfl,rfl,rfl⟩:=LF (show(if ks.isEmpty&&vs.isEmpty then OX (jl n k) (jl n v)else none)=some d from h)
      exact LA (Ii (ih k _ hk).1 (ih v _ hi).1 Lz) rfl rfl (by simp) (by show 1<=15;decide) pins s σ H Q I λp hp r H1 N1 s1 n1 hr r2 H2 N2 s2 n2 hr2=>by
       cases hr;cases hr2;refine(s2 _ _ (s1 _ _ bD),[(Sum.inr k1,V.int i)],rfl,by show 1<=15;decide,q _ _ (upd Bj p (.dK [(Sum.inr k1,V.int i)])) (λb o e=>?_) (λc o e=>?_) (p,_,rfl,bD,rfl))
       ·have hb:=br e hp;rw[aQ hb];exact s2 _ _ (s1 _ _ ((aQ hb).trans e))
       ·by_cases hc:c=p
        ·subst hc;rw[bD]at e;cases e;exact(hp,bD)
        ·rw[aQ hc]at e;cases e
  |_=>cases h
@[irreducible] noncomputable def Lit(n:Nat)(e:Expr)(d:PyData):Prop:=jl n e=some d
theorem Lit.of(h:jl n e=some d):Lit n e d:=by grind[Lit]
theorem Lit.eq(h:Lit n e d):jl n e=some d:=by simp_all[Lit]
theorem O6(n:Nat){e:Expr}{d:PyData}(h:Lit n e d):PE X e (OY d):=(DB n e d h.eq).1
end
section
def cutD(ds:Y9)(lo hi:Option Int):Y9:=(ds.drop (HT.gq ds.length 0 lo)).take (HT.gq ds.length ds.length hi-HT.gq ds.length 0 lo)
theorem x5{lo hi:Option Int}(ht:IsTup s.heap t items)(hs:s.heap.IsSliceOf sl vl vu .none)(pl:IsPart vl lo)(pu:IsPart vu hi)
 (h0:HT.gq items.size 0 lo=0)(h1:HT.gq items.size items.size hi=items.size)(q:Q (.ref t) s):wpAny (model P w) A (getItem (.ref t) (.ref sl)) Q E s:=by
 obtain⟨os,hos,hcs,hds⟩:=id hs;have hTs:s.TypeIs (.ref sl) "slice" := (os,hos,hcs);unfold getItem
 try with_reducible refine VB ?_
 first|refine UY (UZ ?_)|skip
 refine UY (wpAny_sequenceKey ht.typeIs (by decide) ?_);refine UY (VA (name:=Str.ofString "__getitem__") ht.typeIs VT (Vt VT ht.typeIs entry_tuple_getitem ?_ (args_tuple_getitem _ _)));show wpAny _ _ (Builtin.Tuple.tupleItemsOf (.ref t) >>= _) _ _ s;refine UY (tupleItemsOf_ ht (UY (X1 hTs ?_)));rw[if_pos (by decide)];refine UY (HT.kN hs pl pu ?_);rw[h0,h1];show wpAny _ _ (if((((0:Nat):Int)==0&&(1:Int)==1&&(items.size-0)==items.size)=true)then _ else _) _ _ s;rw[if_pos (by simp)];unfold Builtin.Tuple.tupleIsExact;refine UY (UY (X1 ht.typeIs (UZ ?_)))
 first
  |exact UY (WG (UY (UZ (UZ (_,rfl,UZ q)))))
  |exact UY (WG (UZ (_,rfl,UZ q)))
  | (rw[if_pos (by decide)];exact UY (WG (UY (UZ (UZ (_,rfl,UZ q))))))
  | (rw[if_pos (by decide)];exact UY (WG (UZ (_,rfl,UZ q))))
end
noncomputable def uJ(P:Zj)(w:World):Nj:=λouter H s E e s'=>
 ∃(a:Addr) (cls:Value) (t:Addr) (B:Heap) (H':Hp),e=.ref a/\s'.os=s.os/\AllBare s'.gens/\Un (A0 outer) [] H H' s.heap s'.heap/\ox P w H' s'.heap/\Heap.FlyingW B outer a cls (.ref t) s'.heap /\
  (∀b o,s.heap.get? b=some o->b∉A0 outer->∃o',s'.heap.get? b=some o'/\B.get? b=some o')/\(∀b u,H' b=some u->∃o',s'.heap.get? b=some o'/\B.get? b=some o')/\E cls none H'
section
variable {K:Zc}
theorem bz:Passes (uJ P w) (u7 (uJ P w) P w K mg base N qual scope f cd A outer s H E) E:=by
 rintro pins σ H1 s1 e s' I ⟨a,cls,t,B,H',e1,os,bare,un,hok,fl,old,Hv,q⟩;subst e1;have J:=I.Nf os un hok bare (λb z=>nomatch z);have hfr:(A.deeper (envOfC qual scope s.heap.objs.size f cd)).frames=some (envOfC qual scope s.heap.objs.size f cd::outer):=I.ok.frames;have ZE:∀b:Addr,b∉(u7 (uJ P w) P w K mg base N qual scope f cd A outer s H E).ex:=λb z=>nomatch z
 have inB:∀b o,s.heap.get? b=some o->b∉A0 outer->∃o',s'.heap.get? b=some o'/\B.get? b=some o':=λb o e hb=>by
  obtain⟨o1,e1⟩:=I.base.there b o e (ZE b);refine old b o1 e1 λz=>?_;rcases Vb.mp (I.si b z)with z|z
  ·have z2:b=s.heap.objs.size:=z;exact absurd (U6 e) (by rw[z2];exact VE _)
  ·exact hb z
 refine wpAny_leaves_onW hfr rfl fl λh' fl' up=>?_;refine(a,cls,t,B,H',rfl,os.trans I.os,bare,(λb o e n hb _=>?_,λb o e n hb _=>?_,λb o e n _=>J.base.free b o e n (ZE b),λb o e _=>?_,J.base.tups,J.base.frzs,J.base.tbls),λb u e=>?_,fl',λb o e hb=>?_,λb u e=>?_,q)
 ·have e2:=J.base.keep b o e n hb (ZE b);obtain⟨o',e3,e4⟩:=inB b o e hb;rw[e2]at e3;cases e3;exact fl'.1 b o e4
 ·obtain⟨sl,e2⟩:=J.base.slot b o e n hb (ZE b);obtain⟨_,o',e3,nf⟩:=J.qw.mem hb;rw[e2]at e3;cases e3;obtain⟨sl',e4⟩:=up b _ e2 nf;exact(sl',e4)
 ·by_cases hb:b∈A0 outer
  ·obtain⟨o2,e2⟩:=J.base.there b o e (ZE b);obtain⟨_,o',e3,nf⟩:=J.qw.mem hb;obtain⟨sl',e4⟩:=up b _ e3 nf;exact(_,e4)
  ·obtain⟨o',e3,e4⟩:=inB b o e hb;exact(o',fl'.1 b o' e4)
 ·refine(hok b u e).zq (λc v hc z=>?_) (λ_ z=>z) λ_ _ z=>z
  have:∃u',H' c=some u':=by
   rcases hc with hc|hc
   ·exact(u,hc▸e)
   ·exact(_,hc)
  obtain⟨u',hu⟩:=this;obtain⟨o',e3,e4⟩:=Hv c u' hu;rw[z]at e3;cases e3;exact fl'.1 c v e4
 ·obtain⟨o',e3,e4⟩:=inB b o e hb;exact(o',fl'.1 b o' e4,e4)
 ·obtain⟨o',e3,e4⟩:=Hv b u e;exact(o',fl'.1 b o' e4,e4)
end
def LG(a:Addr)(cls:Value):Heap->Prop:=λh=>∃o,h.get? a=some o/\o.cls=cls
structure Ext(H G H' G':Hp):Prop where
 sh:bZ H H'
 sg:bZ G G'
 gs:bZ G' H'
 old:∀c,H c≠none->G' c=G c
theorem Ext.refl{H G:Hp}(s:bZ G H):Ext H G H G:=(bZ.refl H,bZ.refl G,s,λ_ _=>rfl)
theorem Ext.new(s:bZ G H)(hp:H p=none):Ext H G (upd H p o) (upd G p o):=by
 refine(bZ.new hp,bZ.new (s.free hp),λc u e=>?_,λc hc=>aQ λz=>hc (z▸hp));by_cases h:c=p
 ·grind[bD]
 ·rw[aQ h]at e ⊢;exact s c u e
section
def Ro:R2:=λx y H Q=>∃G ds es,bZ G H/\Rep G (.tuple ds) x/\Rep G (.tuple es) y/\ds.length+es.length<=sizeLine/\∀r H' G',Ext H G H' G'->Rep G' (.tuple (ds++es)) r->Q r H'
theorem LH:jU X (binaryOp .Add) Ro:=by
 intro pins s σ H x y v u Q I rx ry h;obtain⟨G,ds,es,sg,h1,h2,hz,q⟩:=h;obtain⟨a,vs,rfl,ha,r1⟩:=id h1;obtain⟨b,us,rfl,hb,r2⟩:=id h2;by_cases hv:vs=[]
 ·subst hv;have hd:ds=[]:=WN.mp r1.length.symm;subst hd;cases rx;cases ry;obtain⟨D_,v1,⟨⟨c1,d1,e1,l1⟩,p1,g1,n1,z1⟩,_⟩:=I.tuple (i8.of (K:=X.K) (sg _ _ ha));obtain⟨k_,v2,⟨⟨c2,d2,e2,l2⟩,p2,g2,n2,z2⟩,_⟩:=I.tuple (i8.of (K:=X.K) (sg _ _ hb));simp only at g1 z1 g2 z2;subst g1 z1 g2 z2;cases v1;exact concat_meets (_,p1,rfl) (_,p2,rfl) noFill_tuple_add seq_tuple_add Yc X7 (X0 _ _) (tuple_addW0 a b _ _ n1 n2 d1 d2 l1 l2 rfl) (p1,p2,(.ref b,H,I,rfl,q _ H G (Ext.refl sg) h2))
 ·refine Lh pins s σ H _ _ v u Q I rx ry (a,b,vs,us,rfl,rfl,i8.of (sg _ _ ha),i8.of (sg _ _ hb),hv,by grind[r1.length,r2.length],λe=>?_,λe p hp=>?_)
  ·subst e;have he:es=[]:=WN.mp r2.length.symm;subst he;exact q _ H G (Ext.refl sg) (by rw[WS];exact h1)
  ·have x:=Ext.new (o:=.tup (vs++us)) sg hp;exact q _ _ _ x (p,_,rfl,bD,bu.append (r1.same x.sg) (r2.same x.sg))
def Tv:V->Option Int->Option Int->Hp->VK->Prop:=λx lo hi H Q=>∃G ds,bZ G H/\Rep G (.tuple ds) x/\∀r H' G',Ext H G H' G'->Rep G' (.tuple (cutD ds lo hi)) r->Q r H'
theorem LJ:Q8 X Tv:=by
 intro pins s σ H x v vl vu lo hi sl Q I rx hs pl pu h;obtain⟨G,ds,sg,h1,q⟩:=h;obtain⟨a,xs,rfl,ha,r1⟩:=id h1;cases rx;obtain⟨a_,rv,ht,hz⟩:=I.tuple (i8.of (K:=X.K) (sg _ _ ha));have hl:a_.toArray.size=xs.length:=by rw[Vq];exact rv.length.symm
 by_cases hw:HT.gq xs.length 0 lo=0/\HT.gq xs.length xs.length hi=xs.length
 ·refine("tuple",_,VT.lookup,ht.typeIs,x5 ht hs pl pu (by grind) (by grind) (.ref a,H,I,rfl,q _ H G (Ext.refl sg) ?_))
  have e:cutD ds lo hi=ds:=by
   simp_all[cutD,r1.length,hw,List.drop_zero,Nat.sub_zero,List.take_length]
  grind
 ·refine OA pins s σ H (.ref a) _ vl vu lo hi sl Q I rfl hs pl pu (a,xs,rfl,i8.of (sg _ _ ha),hw,λp hp=>?_);have x:=Ext.new (o:=.tup (Bb xs lo hi)) sg hp;refine q _ _ _ x (p,_,rfl,bD,?_);have e:cutD ds lo hi=(ds.drop (HT.gq xs.length 0 lo)).take (HT.gq xs.length xs.length hi-HT.gq xs.length 0 lo):=by unfold cutD;rw[r1.length]
  rw[e];exact((r1.same x.sg).drop _).take _
end
theorem Vals.Nu:∀(us:Zb) (f:Nat->V),(∀j v,us[j]?=some v->RelV (f j) v)->Vals ((List.range us.length).map f) us
 | [],_,_=>.nil
 |u::us,f,h=>by rw[Vp,List.range_succ_eq_map,Vu,X2];exact .cons (h 0 u rfl) (Vals.Nu us _ λj v e=>h _ v e)
section
theorem Bk(hc:X.calm=true):dB X (.type "tuple") (λxs H Q=>∃x,xs=[.str x]/\x.cps.size<=sizeLine/\∀p,H p=none->Q (.ref p) (upd H p (.tup ((List.range x.cps.size).map (sgn x))))):=by
 intro pins s σ H xs us Q I r h;obtain⟨x,rfl,hz,q⟩:=h;obtain⟨u,rfl,rx⟩:=vals1 r;obtain⟨t,rfl⟩:=rx;refine call_tuple_str (I.ok.hd hc) x t (λh' tk acc kp KM=>?_) hz;have I1:Inv X pins σ H {s with heap:=h',toks:=tk}:=I.kept (t':=tk) kp
 have hv:Vals ((List.range x.cps.size).map (sgn x)) acc.toList:=by
  have e:acc.toList.length=x.cps.size:=by rw[V0,KM.1]
  rw[<- e];refine Vals.Nu _ _ λj v ev=>zH j v ?_ (KM.2 j v (by simp_all));rw[<- e]
  grind
 have I2:Inv X pins σ (upd H h'.objs.size (.tup ((List.range x.cps.size).map (sgn x)))) {s with heap:=h'.push {cls:=.type "tuple",data:=.seq acc},toks:=tk}:=by
  refine I1.laid (t':=tk) (λb o e=>U0 _ e) (U4 _) (show cX X.prog X.w _ _ _ (.tup _)from(by simp_all,acc.toList,hv,?_));have:=IsTup.new h' acc
  simp_all
 exact(.ref h'.objs.size,_,I2,rfl,q _ (I1.hok.fresh (U4 _)))
end
def recAt(c:Addr)(q:Str):Heap->Prop:=λh=>h.CodeRec (.ref c) q
end L2
namespace PySem.SeqAt
open PySem PySem.MeetsSeq PySem.AutoSeq1
theorem vi(b:Str)(u:Tok)(l:Addr)(es:Zg)(n:Nat)(dd:Option Addr)(sl:Zf) :
  Meets (Builtin.«str.__eq__» ([.str b u,.ref l],[])) (λ_ R s=>s.heap.get? l=some {cls:=.type "dict",dict:=dd,data:=.dict es n,slots:=sl}/\R (.ok (.ret .notImplemented)) s):=
 .of_wp λprog w A R s h=>by
  obtain⟨hl,h⟩:=h
  wp_walk using wpAny_loadPart' hl,Yf hl
  grind
theorem vj(b:Str)(u:Tok)(l:Addr)(es:Zg)(n:Nat)(dd:Option Addr)(sl:Zf) :
  Meets (Builtin.«dict.__eq__» ([.ref l,.str b u],[])) (λ_ R s=>s.heap.get? l=some {cls:=.type "dict",dict:=dd,data:=.dict es n,slots:=sl}/\R (.ok (.ret .notImplemented)) s):=
 .of_wp λprog w A R s h=>by
  obtain⟨hp,g,d,tk,os⟩:=s;obtain⟨hl,h⟩:=h;have f1:=F.sub_str_dict
  wp_walk using wpAny_loadPart' hl,Yf hl
  exact(_,rfl,h)
theorem EqAt.LK(b:Str)(u:Tok)(hl:s.heap.get? l=some {cls:=.type "dict",dict:=dd,data:=.dict es n,slots:=sl})(hu:A.units<cLine):EqAt A s (.str b u) (.ref l) false:=λprog w E Q h=>by
 refine VB (VM (λhab=>absurd (eq_of_beq hab) nofun) (λ_=>UY ?_))
 refine rc_eq_decline_or (typeIs_str s b u) (_,hl,rfl) (by decide) F.sub_dict_str F.slot_str_eq XX
  (λ_ hq=>Yi F.slot_str_eq (typeIs_str s b u) F.entry_str_eq (F.args_str_eq_2 _ _) (vi b u l es n dd sl) (hl,hq))
  (λ_ hq=>Yi XX (_,hl,rfl) F.entry_dict_eq (F.args_dict_eq_2 _ _) (vj b u l es n dd sl) (hl,hq))
  (λ_ hq=>W6 (rfl:isSame _ _=pure false) hq) (.inr hu) (V8 h)
end PySem.SeqAt
set_option maxHeartbeats 4000000
namespace PySem.W
open PySem PySem.Calls PyProof.Rows
def KasT.Run{α:Type}(lt:Nat->Nat->Bool)(n:Nat):KasT α->(α->Prop)->Prop
 |.ret a,P=>P a
 |.ask i j k,P=>i<n/\j<n/\(k (lt i j)).Run lt n P
theorem KasT.run_bind{P:β->Prop} :
  ∀(t:KasT α),t.Run lt n (λa=>(f a).Run lt n P)->(t.bind f).Run lt n P
 |.ret _,h=>h
 |.ask _ _ k,h=>(h.1,h.2.1,KasT.run_bind (k _) h.2.2)
theorem KasT.fA{P Q:α->Prop}(hq:∀a,P a->Q a) :
  ∀(t:KasT α),t.Run lt n P->t.Run lt n Q
 |.ret a,h=>hq a h
 |.ask _ _ k,h=>(h.1,h.2.1,KasT.fA hq (k _) h.2.2)
theorem KasT.Il{Q:α->Zn->Prop}{I:Zn->Prop}
 (hc:∀i j C s,i<n->j<n->I s->(∀s',I s'->C (lt i j) s')->cmp i j C s)(hq:∀a s,P a->I s->Q a s) :
  ∀(t:KasT α) (s:Zn),t.Run lt n P->I s->t.kasWp cmp Q s
 |.ret a,s,h,hi=>hq a s h hi
 |.ask i j k,s,h,hi=>hc i j _ s h.1 h.2.1 hi (λs' IR=>KasT.Il hc hq (k _) s' h.2.2 IR)
structure oW(lt:Nat->Nat->Bool)(n:Nat):Prop where
 as:∀a b,a<n->b<n->lt a b=true->lt b a=false
 tr:∀a b c,a<n->b<n->c<n->lt b a=false->lt c b=false->lt c a=false
abbrev pat(p:Zi)(k:Nat):Nat:=p.getD k 0
theorem m8(p:Zi)(k:Nat):pat p k=p[k]?.getD 0:=by simp
structure cI(n:Nat)(p:Zi):Prop where
 perm:p.toList.Perm (List.range n)
theorem cI.size(h:cI n p):p.size=n:=by
 have:=h.perm.length_eq
 grind
theorem cI.lt(h:cI n p)(hk:k<n):pat p k<n:=by
 have hs:k<p.size:=by simp_all[h.size]
 have e:pat p k=p[k]:=by simp_all
 rw[e];have:p[k]∈p.toList:=by simp
 exact VI.mp (h.perm.mem_iff.mp this)
theorem cI.of(h:cI n p)(e:q.Perm p):cI n q:=
 ⟨(Array.perm_iff_toList_perm.mp e).trans h.perm⟩
theorem cI.rev(h:cI n p)(i j:Nat):cI n (kas_rev p i j):=h.of (mirror_perm _ _ _ _)
theorem jY(h:cI n p)(hj:j<=n)(k:Nat) :
  pat (kas_rev p i j) k=if i<=k/\k<j then pat p (i+j-1-k)else pat p k:=by
 rw[m8];unfold kas_rev;rw[getElem?_mirror_all (by simp_all[h.size])];split<;>rw[m8]
theorem EY(h:cI n p)(hk:k<n)(hd:d<=k)(i:Nat) :
  pat (bubble p k d) i=if i=k-d then pat p k else if k-d<i/\i<=k then pat p (i-1)else pat p i:=by
 rw[m8,getElem?_bubble (by simp_all[h.size]) d hd];split
 ·simp
 ·split<;>rw[m8]
section
def Bl(lt:Nat->Nat->Bool)(p:Zi)(m:Nat):Prop:=∀i j,i<j->j<m->lt (pat p j) (pat p i)=false
def jZ(lt:Nat->Nat->Bool)(p:Zi)(m:Nat):Prop:=∀i j,i<j->j<m->lt (pat p i) (pat p j)=false
theorem oW.Nv(O:oW lt n)(hx:x<n):lt x x=false:=by
 cases hh:lt x x with
 |false=>rfl
 |true=>have:=O.as _ _ hx hx hh;grind
theorem Bl.more(O:oW lt n)(hp:cI n p)(h1:1<=m)(hm:m<n)(u:Bl lt p m)(h:lt (pat p m) (pat p (m-1))=false):Bl lt p (m+1):=by
 intro i j J_ hj;rcases Wv j m with h'|h'
 ·exact u i j J_ h'
 ·obtain rfl:j=m:=by omega
  rcases Wv i _ with h''|h''
  ·exact O.tr _ _ _ (hp.lt #[1]) (hp.lt #[1]) (hp.lt hm) (u i _ h'' #[1]) h
  ·obtain rfl:i=j-1:=by omega
   exact h
theorem jZ.more(O:oW lt n)(hp:cI n p)(h1:1<=m)(hm:m<n)(u:jZ lt p m)(h:lt (pat p (m-1)) (pat p m)=false):jZ lt p (m+1):=by
 intro i j J_ hj;rcases Wv j m with h'|h'
 ·exact u i j J_ h'
 ·obtain rfl:j=m:=by omega
  rcases Wv i _ with h''|h''
  ·exact O.tr _ _ _ (hp.lt hm) (hp.lt #[1]) (hp.lt #[1]) h (u i _ h'' #[1])
  ·obtain rfl:i=j-1:=by omega
   exact h
theorem zJ(O:oW lt n)(hp:cI n p):∀(f m:Nat),1<=m->m+f<=n->Bl lt p m ->
  (kas_asc p f m).Run lt n (λr=>m<=r/\r<=m+f/\Bl lt p r/\(r<m+f->lt (pat p r) (pat p (r-1))=true))
 |0,m,h1,hm,u=>(U4 _,U4 _,u,λh=>absurd h (VE _))
 |f+1,m,h1,hm,u=>by
  refine(hp.lt #[1],hp.lt #[1],?_)
  cases hc:lt _ _ with
  |true=>exact(U4 _,by omega,u,λ_=>hc)
  |false=>
   have hc':=hc;refine KasT.fA (λr hr=>?_) _ (zJ O hp f _ #[1] #[1] (u.more O hp h1 #[1] hc'))
   grind
def Sj(lt:Nat->Nat->Bool)(p:Zi)(a b:Nat):Prop:=∀i j,a<=i->i<b->a<=j->j<b->lt (pat p i) (pat p j)=false
theorem vk(hp:cI n p)(hb:b<=m)(hm:m<=n)(d:jZ lt p m)(e:Sj lt p a b):jZ lt (kas_rev p a b) m:=by
 intro i j J_ hj;rw[jY hp #[1],jY hp #[1]];split
 ·split
  ·exact e _ _ #[1] #[1] #[1] #[1]
  ·exact d _ _ #[1] #[1]
 ·split
  ·exact d _ _ #[1] #[1]
  ·exact d _ _ J_ hj
theorem O7(hp:cI n p)(hm:m<=n)(d:jZ lt p m):Bl lt (kas_rev p 0 m) m:=by intro i j J_ hj;rw[jY hp hm,jY hp hm,if_pos #[1],if_pos #[1]];exact d _ _ #[1] #[1]
theorem jZ.zero:jZ lt p 1:=λi j h h'=>by omega
theorem qF(O:oW lt n):∀(f:Nat) (p:Zi) (m q:Nat),cI n p->q+1<=m->m+f<=n->jZ lt p m->Sj lt p (m-(q+1)) m ->
  (kas_desc f p m q).Run lt n (λr=>cI n r.1/\r.2.2+1<=r.2.1/\r.2.1<=m+f/\jZ lt r.1 r.2.1/\Sj lt r.1 (r.2.1-(r.2.2+1)) r.2.1)
 |0,p,m,q,hp,hq,hm,d,e=>(hp,hq,U4 _,d,e)
 |f+1,p,m,q,hp,hq,hm,d,e=>by
  refine(hp.lt #[1],hp.lt #[1],?_)
  cases hc:lt (p.getD m 0) (p.getD (m-1) 0)with
  |true=>
   simp only[VR];have h1:lt (pat p (m-1)) (pat p m)=false:=O.as _ _ (hp.lt #[1]) (hp.lt #[1]) hc;split
   ·have hd2:=vk (n:=n) hp (U4 m) #[1] d e;have Z7:=hp.rev (m-(q+1)) m;refine KasT.fA (λr hr=>(hr.1,hr.2.1,by have:=hr.2.2.1;omega,hr.2.2.2)) _ (qF O f _ (m+1) 0 Z7 #[1] #[1] ?_ ?_)
    ·refine hd2.more O Z7 #[1] #[1] ?_;rw[jY hp #[1],jY hp #[1],if_pos #[1],if_neg #[1]];refine O.tr _ _ _ (hp.lt #[1]) (hp.lt #[1]) (hp.lt #[1]) h1 ?_;exact e _ _ #[1] #[1] #[1] #[1]
    ·intro i j h1 h2 h3 h4;obtain rfl:i=m:=by omega
     obtain rfl:j=i:=by omega
     exact O.Nv (Z7.lt #[1])
   ·refine KasT.fA (λr hr=>(hr.1,hr.2.1,by have:=hr.2.2.1;omega,hr.2.2.2)) _ (qF O f _ (m+1) 0 hp #[1] #[1] (d.more O hp #[1] #[1] h1) ?_);intro i j h1 h2 h3 h4;obtain rfl:i=m:=by omega
    obtain rfl:j=i:=by omega
    exact O.Nv (hp.lt #[1])
  |false=>
   simp only[Vc,VQ];refine(hp.lt #[1],hp.lt #[1],?_)
   cases V_:lt (p.getD (m-1) 0) (p.getD m 0)with
   |true=>simp only[VR];exact(hp,hq,by show m<=_;omega,d,e)
   |false=>
    simp only[Vc,VQ];refine KasT.fA (λr hr=>(hr.1,hr.2.1,by have:=hr.2.2.1;omega,hr.2.2.2)) _ (qF O f _ (m+1) (q+1) hp #[1] #[1] (d.more O hp #[1] #[1] V_) ?_);have Nv:lt (pat p m) (pat p m)=false:=by exact O.Nv (hp.lt #[1])
    intro i j h1 h2 h3 h4;rcases Wv i m with hi|hi
    ·rcases Wv j m with hj|hj
     ·exact e _ _ #[1] hi #[1] hj
     ·obtain rfl:j=m:=by omega
      exact O.tr _ _ _ (hp.lt #[1]) (hp.lt (show j-1<n by omega)) (hp.lt #[1]) V_ (e _ _ #[1] hi #[1] #[1])
    ·obtain rfl:i=m:=by omega
     rcases Wv j i with hj|hj
     ·exact O.tr _ _ _ (hp.lt #[1]) (hp.lt (show i-1<n by omega)) (hp.lt #[1]) (e _ _ #[1] #[1] #[1] hj) hc
     ·obtain rfl:j=i:=by omega
      exact Nv
def Im(lt:Nat->Nat->Bool)(n:Nat)(r:Nat×Zi):Prop:=cI n r.2/\1<=r.1/\r.1<=n/\Bl lt r.2 r.1
theorem yz(O:oW lt n)(hp:cI n p)(h1:1<=m)(hm:m<=n)(d:jZ lt p m):(kas_tail3 m n p).Run lt n (Im lt n):=by refine KasT.run_bind _ (KasT.fA (λr hr=>?_) _ (zJ O (hp.rev 0 m) _ m h1 #[1] (O7 hp hm d)));exact(hp.rev 0 m,by omega,by omega,hr.2.2.1)
theorem qG(O:oW lt n)(hp:cI n p)(h1:1<=m)(hm:m<n)(d:jZ lt p (m+1)):(kas_descPart m n p).Run lt n (Im lt n):=by
 refine KasT.run_bind _ (KasT.fA (λr hr=>?_) _ (qF O _ p _ 0 hp #[1] #[1] d ?_))
 ·split
  ·exact yz O (hr.1.rev _ _) #[1] #[1] (vk hr.1 (U4 _) #[1] hr.2.2.2.1 hr.2.2.2.2)
  ·exact yz O hr.1 #[1] #[1] hr.2.2.2.1
 ·intro i j h1 h2 h3 h4;obtain rfl:j=i:=by omega
  exact O.Nv (hp.lt #[1])
theorem GK(O:oW lt n)(hp:cI n p)(h1:1<=n):(kas_count n p).Run lt n (Im lt n):=by
 unfold kas_count;refine KasT.run_bind _ (KasT.fA (λr hr=>?_) _ (zJ O hp (n-1) 1 (U4 _) #[1] λi j h h'=>by omega));obtain⟨hr1,hr2,up,st⟩:=hr;split
 ·exact(hp,hr1,by omega,up)
 ·rename_i I_
  have m_:r<n:=by
   grind
  have hs:=st #[1];split
  ·rename_i hgt;refine(hp.lt #[1],hp.lt #[1],?_);dsimp only;split
   ·exact(hp,hr1,by show r<=n;omega,up)
   ·rename_i hc;have hc:lt (pat p 0) (pat p (r-1))=false:=by simpa using hc
    have eqs:Sj lt p 0 r:=by
     have lo:∀i,i<r->lt (pat p i) (pat p 0)=false:=λi hi=>by
      rcases Nat.eq_zero_or_pos i with rfl|h
      ·exact O.Nv (hp.lt #[1])
      ·exact up 0 i h hi
     have hi:∀i,i<r->lt (pat p (r-1)) (pat p i)=false:=λi hi=>by
      rcases Wv i (r-1)with h|h
      ·exact up i (r-1) h #[1]
      ·obtain rfl:i=r-1:=by omega
       exact O.Nv (hp.lt #[1])
     intro i j _ h2 _ h4;have a1:lt (pat p 0) (pat p j)=false:=O.tr _ _ _ (hp.lt #[1]) (hp.lt (show r-1<n by omega)) (hp.lt #[1]) (hi j h4) hc;exact O.tr _ _ _ (hp.lt #[1]) (hp.lt (show 0<n by omega)) (hp.lt #[1]) a1 (lo i h2)
    have dn:jZ lt (kas_rev p 0 r) r:=vk hp (U4 r) #[1] (λi j h h'=>eqs _ _ #[1] #[1] #[1] h') eqs;refine qG O (hp.rev 0 r) #[1] m_ (dn.more O (hp.rev 0 r) #[1] m_ ?_);rw[jY hp #[1],jY hp #[1],if_pos #[1],if_neg #[1]];refine O.tr _ _ _ (hp.lt #[1]) (hp.lt (show r-1<n by omega)) (hp.lt #[1]) (O.as _ _ (hp.lt #[1]) (hp.lt #[1]) hs) ?_;exact eqs _ _ #[1] #[1] #[1] #[1]
  ·obtain rfl:r=1:=by omega
   exact qG O hp #[1] m_ ((jZ.zero).more O hp #[1] m_ (O.as _ _ (hp.lt #[1]) (hp.lt #[1]) hs))
theorem sk(O:oW lt n)(hp:cI n p)(hk:k<n)(u:Bl lt p k):∀(f l r:Nat),l<=r->r<=k->r-l<=f ->
  (∀i,i<l->lt (pat p k) (pat p i)=false)->(∀i,r<=i->i<k->lt (pat p i) (pat p k)=false) ->
  (kas_place p k f l r).Run lt n (λm=>m<=k/\(∀i,i<m->lt (pat p k) (pat p i)=false)/\(∀i,m<=i->i<k->lt (pat p i) (pat p k)=false))
 |0,l,r,h1,h2,h3,a,b=>(by omega,a,λi hi=>b i #[1])
 |f+1,l,r,h1,h2,h3,a,b=>by
  unfold kas_place;split
  ·exact(by omega,a,λi hi=>b i #[1])
  ·rename_i hlr;refine(hp.lt hk,hp.lt #[1],?_);dsimp only;split
   ·rename_i hc;refine sk O hp hk u f l ((l+r) / 2) #[1] #[1] #[1] a λi hi hik=>?_;have hm:lt (pat p ((l+r) / 2)) (pat p k)=false:=O.as _ _ (hp.lt hk) (hp.lt #[1]) hc;rcases Wv ((l+r) / 2) i with h|h
    ·exact O.tr _ _ _ (hp.lt hk) (hp.lt (show(l+r) / 2<n by omega)) (hp.lt #[1]) hm (u _ _ h hik)
    ·obtain rfl:i=(l+r) / 2:=by omega
     exact hm
   ·rename_i hc;have hc:lt (pat p k) (pat p ((l+r) / 2))=false:=by simpa using hc
    refine sk O hp hk u f ((l+r) / 2+1) r #[1] h2 #[1] (λi hi=>?_) b;rcases Wv i ((l+r) / 2)with h|h
    ·exact O.tr _ _ _ (hp.lt #[1]) (hp.lt (show(l+r) / 2<n by omega)) (hp.lt hk) (u _ _ h #[1]) hc
    ·obtain rfl:i=(l+r) / 2:=by omega
     exact hc
theorem EZ(O:oW lt n):∀(f:Nat) (p:Zi) (k:Nat),cI n p->k+f=n->Bl lt p k->(kas_bin f p k).Run lt n (λp=>cI n p/\Bl lt p n)
 |0,p,k,hp,hk,u=>(hp,by grind)
 |f+1,p,k,hp,hk,u=>by
  unfold kas_bin;refine KasT.run_bind _ (KasT.fA (λm hm=>?_) _ (sk O hp #[1] u k 0 k (Wr _) (U4 _) #[1] (λi h=>by omega) (λi h h'=>by omega)));obtain⟨Zy,lo,hi⟩:=hm;refine EZ O f _ (k+1) (hp.of (bubble_perm _ _ _)) #[1] ?_;intro i j J_ hj;have hd:k-(k-m)=m:=by omega
  rw[EY hp #[1] #[1],EY hp #[1] #[1],hd];by_cases j1:j=m
  ·grind
  ·rw[if_neg j1];by_cases i1:i=m
   ·rw[if_pos i1,if_pos #[1]];exact hi _ #[1] #[1]
   ·rw[if_neg i1];by_cases j2:m<j/\j<=k
    ·rw[if_pos j2];by_cases i2:m<i/\i<=k
     ·rw[if_pos i2];exact u _ _ #[1] #[1]
     ·rw[if_neg i2];exact u _ _ #[1] #[1]
    ·rw[if_neg j2,if_neg #[1]];exact u _ _ J_ #[1]
theorem Io(O:oW lt n)(h:1<=n):(kas_sort n).Run lt n (λp=>cI n p/\Bl lt p n):=by
 refine KasT.run_bind _ (KasT.fA (λr hr=>?_) _ (GK O ⟨List.Perm.refl _⟩ h));obtain⟨hp,h1,h2,u⟩:=hr;split
 ·have:max r.1 1=r.1:=by omega
  rw[this];exact EZ O _ _ _ hp #[1] u
 ·refine(hp,?_)
  grind
end
end PySem.W
set_option maxHeartbeats 4000000
namespace PySem.W
open PySem PySem.Calls PyProof.Rows
section
noncomputable def Ip(prog:Zj)(w:World)(A:Zm)(vs:Zb)(lt:Nat->Nat->Bool)(s:Zn):Prop:=
 wpAny (model prog w) A (keyKind' vs.toArray) (λκ s'=>s'=s/\∀i j C,i<vs.length->j<vs.length->C (lt i j) s ->
  wpAny (model prog w) A (keyLt' κ (vs.getD i Value.none) (vs.getD j Value.none)) C (λ_ _=>False) s) (λ_ _=>False) s
theorem LL{vs:Zb}(hl:vs.length<2):(vs.toArray.zip vs.toArray).map (·.2)=(((List.range vs.length).toArray).toList.map λi=>vs.getD i Value.none).toArray:=by
 rcases vs with _|⟨x,_|⟨y,vs⟩⟩
 ·simp
 ·simp
 grind
theorem o3(ho:s.heap.get? a=some (seqObj "list" vs.toArray n))
 (O:oW lt vs.length)(h64:vs.length<64)
 (hk:∀h',(∀b o,b≠a->s.heap.get? b=some o->h'.get? b=some o)->2<=vs.length->Ip prog w A vs lt {s with heap:=h'})
 (h:∀p:Zi,cI vs.length p->Bl lt p vs.length->P (.done (.ret .none)) {s with heap:=sortedHeap s.heap a vs (p.toList.map λi=>vs.getD i Value.none).toArray}) :
  wpAny (model prog w) A (Builtin.«list.sort» ([.ref a],[])) P E s:=by
 rw[list_sort_plain];have ha:a<s.heap.objs.size:=U6 ho;refine UY (listItems_at ho rfl ?_);refine UY (listUpdate_at ho rfl ?_);obtain⟨e1,ho1⟩:∃e1,(s.heap.update a (Obj.mapSeq λ_=>#[])).get? a=some (seqObj "list" #[] e1):=(_,get?_update_seq ho (λ_=>#[]));refine UY (seqEpoch_at ho1 rfl ?_);refine UY (wpAny_newTuple ?_);refine UY (wpAny_newList ?_);refine VB ?_;have ho6:(((s.heap.update a (Obj.mapSeq λ_=>#[])).push (seqObj "tuple" vs.toArray 0)).push (seqObj "list" #[] 0)).get? a=some (seqObj "list" #[] e1):=by rw[Xf _ _ _ (by rw[size_push',Yy];exact Vi (Wy ha)),Xf _ _ _ (by rw[Yy];exact Vi ha)];exact ho1
 show wpAny (model prog w) A _ P E {s with heap:=((s.heap.update a (Obj.mapSeq λ_=>#[])).push (seqObj "tuple" vs.toArray 0)).push (seqObj "list" #[] 0)};dsimp only;by_cases h2:vs.toArray.size<2
 ·rw[if_pos h2,if_pos h2];refine UY (UZ ?_);rw[StateT.run_pure];refine UY (UZ ?_);dsimp only;refine UY (seqEpoch_at ho6 rfl ?_);refine UY (listUpdate_at ho6 rfl ?_ (hsz2:=by rw[Array.size_map];show(pairsOf vs).size<=_;rw[pairsOf_size,WI];omega));simp only[bne_self_eq_false,Vc,VQ];have hl:vs.length<2:=by simpa using h2
  have e:(arrOf (SortSt.mk' general' (vs.toArray.zip vs.toArray) #[] 7 none)).map (·.2)=(((List.range vs.length).toArray).toList.map λi=>vs.getD i Value.none).toArray:=by show(vs.toArray.zip vs.toArray).map (·.2)=_;exact LL hl
  rw[e];exact UZ (h _ ⟨List.Perm.refl _⟩ λi j h1 h2=>by omega)
 ·rw[if_neg h2,if_neg h2];have hl:2<=vs.length:=by simp at h2;exact h2
  refine UY (V7 (hk _ (λb o hb q=>?_) hl) (λκ s' hκ=>?_) λ_ _ x=>x.elim)
  ·have hbs:b<s.heap.objs.size:=U6 q;rw[Xf _ _ _ (by rw[size_push',Yy];exact Vi (Wy hbs)),Xf _ _ _ (by rw[Yy];exact Vi hbs),Heap.get?_update_ne _ _ _ _ hb];exact q
  ·obtain⟨rfl,hc⟩:=hκ
   refine UY (V7 (kat_run (E:=E) (vs:=vs) (ks:=vs) (κ:=κ) (G:=λp s'=>s'={s with heap:=((s.heap.update a (Obj.mapSeq λ_=>#[])).push (seqObj "tuple" vs.toArray 0)).push (seqObj "list" #[] 0)}/\cI vs.length p/\Bl lt p vs.length)
    (Q:=λO_ s'=>s'={s with heap:=((s.heap.update a (Obj.mapSeq λ_=>#[])).push (seqObj "tuple" vs.toArray 0)).push (seqObj "list" #[] 0)}/\failedOf O_=none/\∃p,cI vs.length p/\Bl lt p vs.length/\(arrOf O_).map (·.2)=List.toArray (p.toList.map λi=>vs.getD i Value.none))
    rfl hl h64 (λp O_ s' a1 a2 a3 a4=>(a4.1,a3,p,a4.2.1,a4.2.2,kat_snds rfl a2)) ?_) ?_ λ_ _ e=>e)
   ·refine KasT.Il (lt:=lt) (n:=vs.length) (P:=λp=>cI vs.length p/\Bl lt p vs.length) (I:=λs'=>s'={s with heap:=((s.heap.update a (Obj.mapSeq λ_=>#[])).push (seqObj "tuple" vs.toArray 0)).push (seqObj "list" #[] 0)}) ?_ ?_ _ _ (Io O #[1]) rfl
    ·rintro i j C s' hi hj rfl q;exact hc i j C hi hj (q _ rfl)
    ·rintro p s' hp rfl;exact⟨rfl,hp⟩
   ·rintro⟨⟨⟩,O_⟩ s' ⟨rfl,hf,p,hp,hu,e⟩;dsimp only at hf e ⊢;rw[e];refine UY (seqEpoch_at ho6 rfl ?_);refine UY (listUpdate_at ho6 rfl ?_ (hsz2:=by rw[Vq,Ve,V0,hp.size,WI];omega));rw[hf];simp only[bne_self_eq_false,Vc,VQ];exact UZ (h p hp hu)
theorem vm(hl:s.heap.IsList l vs.toArray)(O:oW lt vs.length)(h64:vs.length<64)
 (hk:∀h',(∀b o,s.heap.get? b=some o->h'.get? b=some o)->2<=vs.length->Ip prog w A.in1.in1 vs lt {s with heap:=h'})
 (h:∀p:Zi,cI vs.length p->Bl lt p vs.length->Q (.ref (s.heap.objs.size+1)) {s with heap:=sortedAll s.heap vs (p.toList.map λi=>vs.getD i Value.none).toArray}) :
  wpAny (model prog w) A (call (.builtin "sorted") [.ref l]) Q E s:=by
 refine Calls.call_function_entry kind_sorted plain_sorted entry_sorted (args_sorted1 _) ?_;unfold Builtin.«sorted»;refine UY (m:=checkCount "sorted" 1 1 _) (UZ ?_);refine UY (collect_list hl ?_);refine UY (wpAny_newList ?_)
 have hsz:((s.heap.push (seqObj "list" #[] 0)).update s.heap.objs.size (Obj.mapSeq (·++vs.toArray))).objs.size=s.heap.objs.size+1:=by
  simp_all
 have hoL:(((s.heap.push (seqObj "list" #[] 0)).update s.heap.objs.size (Obj.mapSeq (·++vs.toArray))).push (seqObj "list" vs.toArray 0)).get? (s.heap.objs.size+1)=some (seqObj "list" vs.toArray 0):=by rw[<- hsz];exact U5 _ rfl
 show wpAny _ _ _ _ _ {s with heap:=((s.heap.push (seqObj "list" #[] 0)).update s.heap.objs.size (Obj.mapSeq (·++vs.toArray))).push (seqObj "list" vs.toArray 0)};rw[hsz];refine UY (VB (Vt slot_list_sort (_,hoL,rfl) entry_list_sort (o3 hoL O h64 (λh' k h2=>hk h' (λb o q=>?_) h2) λp a1 a2=>(_,rfl,?_)) (args_list_sort _)))
 ·have m_:b<s.heap.objs.size:=U6 q;refine k b o (Vi (Wy m_)) ?_;show(((s.heap.push (seqObj "list" #[] 0)).update s.heap.objs.size (Obj.mapSeq (·++vs.toArray))).push (seqObj "list" vs.toArray 0)).get? b=some o;rw[Xf _ _ _ (by rw[hsz];exact Vi (Wy m_)),Heap.get?_update_ne _ _ _ _ (Vi m_),Xf _ _ _ (Vi m_)];exact q
 ·exact UZ (_,rfl,h p a1 a2)
end
end PySem.W
namespace L2
open PySem PySem.Spec PyProof.Rows
open PySem.W (oW cI Bl Ip vm KatLex kat_lt kat_one kas_mapM kas_first_eq Looks pat)
def pG(x y:Str):Bool:=decide (x.cps.toList<y.cps.toList)
theorem zK(x:Str):pG x x=false:=strKind.irrefl _
theorem DC(h:pG x y=true)(h':pG y z=true):pG x z=true:=strKind.trans _ _ _ h h'
theorem Iq(h:pG x y=true):pG y x=false:=by
 cases e:pG y x with
 |false=>rfl
 |true=>have:=DC h e;grind[zK]
theorem E0(h:pG x y=false)(h':pG y x=false):x=y:=by have e:=strKind.total x.cps.toList y.cps.toList h h';cases x;simp_all
section
variable {s:Zn}
theorem Bm{vs:Zb}(h2:1<=vs.length)(hT:∀v∈vs,Looks M s.heap (typeOf v) T)(hT2:(T==T)=true)(h:Q (some T) s) :
  wpAny M A (oneTypeOnly' vs.toArray) Q E s:=by
 obtain⟨v,rest,rfl⟩:∃v rest,vs=v::rest:=by
  match vs,h2 with
  |v::r,_=>exact(v,r,rfl)
 rw[oneTypeOnly'_eq,List.mapM_toArray,map_eq_pure_bind];refine UY (UY (kas_mapM (r:=T) _ (λv hv Q' hq=>(hT v hv).here hq) (UZ ?_)));have AC:((List.map (λ_=>T) (v::rest)).toArray.all λx=>x==T)=true:=by simp only[List.all_toArray,List.all_map,Vg];intro _ _;exact hT2
 have h0:(List.map (λ_=>T) (v::rest)).toArray[0]?=some T:=by simp
 rw[h0];simp only[AC,VR];exact UZ h
end
section
theorem lR{α:Type}(d:α):∀(xs:List α),(List.range xs.length).map (λi=>xs.getD i d)=xs
 | []=>rfl
 |x::xs=>by
  rw[Vp,List.range_succ_eq_map,Vu,X2];have:=lR d xs
  conv=>rhs;rw[<- this]
  rfl
theorem GL(r:Vals vs us)(i:Nat)(hi:i<vs.length):RelV (vs.getD i .non) (us.getD i .none):=by
 obtain⟨u,h1,h2⟩:=r.get (i:=i) (x:=vs[i]) (by grind)
 simp_all
theorem yA(r:Vals vs us):∀(l:List Nat),(∀i∈l,i<vs.length)->Vals (l.map λi=>vs.getD i .non) (l.map λi=>us.getD i .none)
 | [],_=>.nil
 |i::l,h=>.cons (GL r i (h i (.head _))) (yA r l λj hj=>h j (.tail _ hj))
theorem yB(r:bu H ds vs)(dd:PyData):∀(l:List Nat),(∀i∈l,i<vs.length)->bu H (l.map λi=>ds.getD i dd) (l.map λi=>vs.getD i .non)
 | [],_=>bu.nil
 |i::l,h=>by
  refine bu.cons ?_ (yB r dd l λj hj=>h j (.tail _ hj));have hi:=h i (.head _);obtain⟨d,h1,h2⟩:=r.get (i:=i) (v:=vs[i]) (by grind)
  simp_all
end
end L2
namespace Ml
open PySem
structure Xc where
 cls:Str
 args:Y9
inductive D where
 |dat (d:PyData)
 |ref (i:Nat)
 |iC (t:Bool) (kvs:Y6)
 |set (xs:Y9)
 |fn (n:Str)
 |exc (x:Xc)
 |scr (ns:List Int)
 |ktup (xs:Y9)
 |rpr (x:Str)
inductive MO where
 |lst (xs:List D)
 |iC (t:Bool) (kvs:Y6)
 |ins (C:Str) (fs:List (Str×D))
 |tab (P:Addr) (q:Str)
abbrev Hm:=List MO
abbrev Fm:=List (Option D)
inductive R (α:Type) where
 |ok (a:α) (h:Hm)
 |exc (x:Xc) (h:Hm)
 |bad
def R.bind{α β:Type}:R α->(α->Hm->R β)->R β
 |.ok a h,f=>f a h
 |.exc x h,_=>.exc x h
 |.bad,_=>.bad
def R.oX{α:Type}:R α->R α
 |.exc _ _=>.bad
 |r=>r
@[simp] theorem R.dC:(R.ok a h).oX=.ok a h:=rfl
@[simp] theorem R.aW{f:α->Hm->R β}:(R.ok a h).bind f=f a h:=rfl
@[simp] theorem R.Ir{f:α->Hm->R β}:(R.exc x h).bind f=.exc x h:=rfl
@[simp] theorem R.Rp:R.bad.bind f=.bad:=rfl
theorem R.bind_assoc(r:R α)(f:α->Hm->R β)(g:β->Hm->R γ):(r.bind f).bind g=r.bind λa h=>(f a h).bind g:=by cases r<;>rfl
abbrev ME:=Fm->Hm->R D
abbrev MT:=Fm->Hm->R Bool
abbrev MA:=Fm->Hm->R (List D)
inductive Fl where
 |nx (ρ:Fm)
 |rt (d:D)
 |bk (ρ:Fm)
 |ct (ρ:Fm)
abbrev MS:=Fm->Hm->R Fl
abbrev Fn:=List D->Hm->R D
abbrev D.none:D:=.dat .none
abbrev D.bool(b:Bool):D:=.dat (.bool b)
abbrev D.int(i:Int):D:=.dat (.int i)
abbrev D.str(s:Str):D:=.dat (.str s)
def aa(i:Nat):ME:=λρ h=>match ρ[i]? with
 |some (some d)=>.ok d h
 |_=>.bad
def ak(d:PyData):ME:=λ_ h=>.ok (.dat d) h
def UP(n:Str):ME:=λ_ h=>.ok (.fn n) h
def ai:MA:=λ_ h=>.ok [] h
def ab(e:ME)(a:MA):MA:=λρ h=>(e ρ h).bind λx h1=>(a ρ h1).bind λxs h2=>.ok (x::xs) h2
def ah(f:D->D->Hm->R D)(a b:ME):ME:=λρ h=>(a ρ h).bind λx h1=>(b ρ h1).bind λy h2=>f x y h2
def Iu(f:D->Hm->R D)(a:ME):ME:=λρ h=>(a ρ h).bind λx h1=>f x h1
def ag(f:Fn)(a:MA):ME:=λρ h=>(a ρ h).bind λxs h1=>f xs h1
def aJ(e:ME):MT:=λρ h=>(e ρ h).bind λx h1=>match x with
 |.dat (.bool b)=>.ok b h1
 |_=>.bad
def gm(t:MT):MT:=λρ h=>(t ρ h).bind λb h1=>.ok (!b) h1
def lM(t u:MT):MT:=λρ h=>(t ρ h).bind λb h1=>if b then u ρ h1 else .ok false h1
def sj(t u:MT):MT:=λρ h=>(t ρ h).bind λb h1=>if b then .ok true h1 else u ρ h1
def LM(a:ME):ME:=λρ h=>(aJ a ρ h).bind λc h1=>.ok (.bool !c) h1
def Hr(t:MT)(a b:ME):ME:=λρ h=>(t ρ h).bind λc h1=>if c then a ρ h1 else b ρ h1
def D.data:D->Option PyData
 |.dat d=>some d
 |_=>Option.none
def jm:List D->Option Y9
 | []=>some []
 |x::xs=>match x.data,jm xs with
  |some d,some ds=>some (d::ds)
  |_,_=>Option.none
theorem oC(ds:Y9):jm (ds.map D.dat)=some ds:=by
 induction ds with
 |nil=>rfl
 |cons d ds ih=>simp[jm,D.data,ih]
def kQ(n:Nat):Bool:=decide (n<=16777216)
def yC(xs:List D)(h:Hm):R D:=match jm xs with
 |some ds=>if kQ ds.length then .ok (.dat (.tuple ds)) h else .bad
 |Option.none=>.bad
def qH(xs:List D)(h:Hm):R D:=match jm xs with
 |some ds=>if kQ ds.length then .ok (.dat (.list ds)) h else .bad
 |Option.none=>.bad
def vn(xs:List D)(h:Hm):R D:=if kQ xs.length then .ok (.ref h.length) (h++[.lst xs])else .bad
def cW(a:MA):ME:=ag yC a
def pH(a:MA):ME:=ag qH a
def vo(a:MA):ME:=ag vn a
def cz:MS:=λρ h=>.ok (.nx ρ) h
def aU(a b:MS):MS:=λρ h=>(a ρ h).bind λf h1=>match f with
 |.nx c_=>b c_ h1
 |f=>.ok f h1
def bC(i:Nat)(e:ME):MS:=λρ h=>(e ρ h).bind λx h1=>.ok (.nx (ρ.set i (some x))) h1
def gP(e:ME):MS:=λρ h=>(e ρ h).bind λ_ h1=>.ok (.nx ρ) h1
def bU(e:ME):MS:=λρ h=>(e ρ h).bind λx h1=>.ok (.rt x) h1
def lV(t:MT)(a b:MS):MS:=λρ h=>(t ρ h).bind λc h1=>if c then a ρ h1 else b ρ h1
def O8:MS:=λρ h=>.ok (.bk ρ) h
def Rq:MS:=λρ h=>.ok (.ct ρ) h
abbrev MG:=D->Fm->Hm->R Fm
def af(i:Nat):MG:=λx ρ h=>.ok (ρ.set i (some x)) h
abbrev Hs:=List D->Fm->Hm->R Fm
def gn:Hs:=λxs ρ h=>match xs with
 | []=>.ok ρ h
 |_=>.bad
def bA(g:MG)(gs:Hs):Hs:=λxs ρ h=>match xs with
 | []=>.bad
 |x::xs=>(g x ρ h).bind λc_ h1=>gs xs c_ h1
def iB(gs:Hs):MG:=λx ρ h=>match x with
 |.dat (.tuple ds)=>gs (ds.map D.dat) ρ h
 |_=>.bad
def oY(g:MG)(e:ME):MS:=λρ h=>(e ρ h).bind λx h1=>(g x ρ h1).bind λc_ h2=>.ok (.nx c_) h2
def sA:List Nat->List D->Fm->Option Fm
 | [],[],ρ=>some ρ
 |i::is,x::xs,ρ=>sA is xs (ρ.set i (some x))
 |_,_,_=>Option.none
def zL(is:List Nat)(a:MA):MS:=λρ h=>(a ρ h).bind λxs h1=>match sA is xs ρ with
 |some c_=>.ok (.nx c_) h1
 |Option.none=>.bad
def E1(e:ME):MA:=λρ h=>(e ρ h).bind λx h1=>match x with
 |.dat (.tuple ds)=>.ok (ds.map D.dat) h1
 |_=>.bad
def Nw(e:ME):MA:=λρ h=>(e ρ h).bind λx h1=>match x with
 |.dat (.list ds)=>.ok (ds.map D.dat) h1
 |_=>.bad
def signs(x:Str):List D:=(List.range x.cps.size).map λ(i:Nat)=>D.str ⟨#[x.cps.getD i 0]⟩
def Ny(e:ME):MA:=λρ h=>(e ρ h).bind λx h1=>match x with
 |.dat (.str s)=>.ok (signs s) h1
 |_=>.bad
def nums(lo:Int)(n:Nat):List D:=(List.range n).map λ(i:Nat)=>D.int (lo+(i:Int))
def fY(a:MA):MA:=λρ h=>(a ρ h).bind λxs h1=>match xs with
 | [.dat (.int j)]=>if -(2^62)<=j/\j<2^62 then .ok (nums 0 j.toNat) h1 else .bad
 |_=>.bad
def uw:Y9->Y9->List D
 |x::xs,y::ys=>.dat (.tuple [x,y])::uw xs ys
 |_,_=>[]
def E3(a:MA):MA:=λρ h=>(a ρ h).bind λxs h1=>match xs with
 | [.dat (.tuple ds),.dat (.tuple es)]=>.ok (uw ds es) h1
 |_=>.bad
noncomputable def cn(g:MG)(b:MS):List D->Fm->Hm->R Fl
 | [],ρ,h=>.ok (.nx ρ) h
 |x::xs,ρ,h=>(g x ρ h).oX.bind λc_ h1=>(b c_ h1).oX.bind λf h2=>match f with
  |.nx Da=>cn g b xs Da h2
  |.ct Da=>cn g b xs Da h2
  |.bk Da=>.ok (.nx Da) h2
  |.rt d=>.ok (.rt d) h2
def gp(it:MA)(g:MG)(b:MS):MS:=λρ h=>(it ρ h).oX.bind λxs h1=>cn g b xs ρ h1
noncomputable def lW(t:MT)(b:MS):Nat->Fm->Hm->R Fl
 |0,_,_=>.bad
 |n+1,ρ,h=>(t ρ h).oX.bind λc h1=>if c then(b ρ h1).oX.bind λf h2=>match f with
     |.nx Da=>lW t b n Da h2
     |.ct Da=>lW t b n Da h2
     |.bk Da=>.ok (.nx Da) h2
     |.rt d=>.ok (.rt d) h2
  else .ok (.nx ρ) h1
def Iv(n:Nat)(t:MT)(b:MS):MS:=lW t b n
noncomputable def kB(n:Nat)(ρ:Fm)(g:MG)(t:MT)(e:ME):List D->Hm->R (List D)
 | [],h=>.ok [] h
 |x::xs,h=>(g x (List.replicate n none++ρ) h).oX.bind λc_ h1=>(t c_ h1).oX.bind λc h2=>
  if c then(e c_ h2).oX.bind λy h3=>(kB n ρ g t e xs h3).bind λys h4=>.ok (y::ys) h4
  else kB n ρ g t e xs h2
def cq:MT:=λ_ h=>.ok true h
def Bn(n:Nat)(it:MA)(g:MG)(t:MT)(e:ME):MA:=λρ h=>(it ρ h).bind λxs h1=>if kQ xs.length then kB n ρ g t e xs h1 else .bad
def aZ(n:Nat)(it:MA)(g:MG)(t:MT)(e:ME):ME:=ag qH (Bn n it g t e)
def E4:Fl->Hm->R D
 |.rt d,h=>.ok d h
 |.nx _,h=>.ok D.none h
 |_,_=>.bad
def bI(p n:Nat)(b:MS):Fn:=λxs h=>if xs.length=p then(b (xs.map some++List.replicate (n-p) none) h).bind E4 else .bad
def D.below(n:Nat):D->Bool
 |.ref i=>decide (i<n)
 |_=>true
def MO.below(n:Nat):MO->Bool
 |.lst xs=>xs.all (D.below n)
 |.iC _ _=>true
 |.ins _ fs=>fs.all λp=>p.2.below n
 |.tab _ _=>true
noncomputable def iD(f:Fn):Fn:=λxs h=>match f xs h with
 |.ok d h'=>if d.below h.length&&(h'.take h.length).all (MO.below h.length)&&decide (h.length<=h'.length)then .ok d (h'.take h.length)else .bad
 |.exc x h'=>if(h'.take h.length).all (MO.below h.length)&&decide (h.length<=h'.length)then .exc x (h'.take h.length)else .bad
 |.bad=>.bad
def mT(f:D->Option PyData):List D->Option Y9
 | []=>some []
 |x::xs=>match f x,mT f xs with
  |some d,some ds=>some (d::ds)
  |_,_=>Option.none
def A1(h:Hm):Nat->D->Option PyData
 |_,.dat d=>some d
 |_,.ktup xs=>some (.tuple xs)
 |n+1,.ref i=>match h[i]? with
  |some (.lst xs)=>(mT (A1 h n) xs).map .list
  |_=>Option.none
 |_,_=>Option.none
abbrev DD(h:Hm)(x:D):Option PyData:=A1 h 3 x
@[simp] theorem zM(h:Hm)(n:Nat)(d:PyData):A1 h n (.dat d)=some d:=by cases n<;>rfl
def listOf(x:D)(h:Hm):Option Y9:=match x with
 |.dat (.list ds)=>some ds
 |.ref i=>match h[i]? with
  |some (.lst ys)=>jm ys
  |_=>Option.none
 |_=>Option.none
noncomputable def cJ(x y:D)(h:Hm):R D:=match x,y with
 |.dat (.int i),.dat (.int j)=>.ok (.int (i+j)) h
 |.dat (.str s),.dat (.str t)=>if kQ (s.length+t.length)then .ok (.str (s++t)) h else .bad
 |.dat (.tuple xs),.dat (.tuple ys)=>if kQ (xs.length+ys.length)then .ok (.dat (.tuple (xs++ys))) h else .bad
 |.dat (.list xs),.dat (.list ys)=>if kQ (xs.length+ys.length)then .ok (.dat (.list (xs++ys))) h else .bad
 |_,_=>.bad
def x6(x y:D)(h:Hm):R D:=match x,y with
 |.dat (.int i),.dat (.int j)=>.ok (.int (i-j)) h
 |_,_=>.bad
def vq(i j:Int):Bool:=(decide (-(2^64)<i)&&decide (i<2^64)) || (decide (-(2^64)<j)&&decide (j<2^64))
noncomputable def i9(x y:D)(h:Hm):R D:=match x,y with
 |.dat (.int i),.dat (.int j)=>if vq i j then .ok (.int (i*j)) h else .bad
 |.dat (.list xs),.dat (.int k)=>if kQ (xs.length*k.toNat)&&decide (-(2^63)<=k)&&decide (k<2^63)then .ok (.dat (.list (List.replicate k.toNat xs).flatten)) h else .bad
 |_,_=>.bad
def oMod(x y:D)(h:Hm):R D:=match x,y with
 |.dat (.int i),.dat (.int j)=>if 0<j then .ok (.int (i % j)) h else .bad
 |_,_=>.bad
def j0(x y:D)(h:Hm):R D:=match x,y with
 |.dat (.int i),.dat (.int j)=>if 0<j/\j<1073741824 then .ok (.int (i / j)) h else .bad
 |_,_=>.bad
def noDict(d:PyData):Bool:=!d.hasDict
def eqQ(d e:PyData):Option Bool:=if noDict d&&noDict e&&decide (min d.depth e.depth<=40)then some (PyData.eqv d e)else Option.none
def E5(d e:PyData):Option Bool:=match d,e with
 |.str _,.dict _=>some false
 |.tuple ds,.dict _=>if noDict (.tuple ds)then some false else Option.none
 |d,e=>eqQ d e
def oEq(x y:D)(h:Hm):R D:=match x,y with
 |.rpr s,.rpr t=>.ok (.bool (decide (s=t))) h
 |x,y=>match DD h x,DD h y with
  |some d,some e=>match eqQ d e with
   |some b=>.ok (.bool b) h
   |Option.none=>.bad
  |_,_=>.bad
def zN(x y:D)(h:Hm):R D:=match x,y with
 |.rpr s,.rpr t=>.ok (.bool (!decide (s=t))) h
 |x,y=>match DD h x,DD h y with
  |some d,some e=>match eqQ d e with
   |some b=>.ok (.bool !b) h
   |Option.none=>.bad
  |_,_=>.bad
def pG(x y:Str):Bool:=decide (x.cps.toList<y.cps.toList)
mutual
noncomputable def cv:PyData->PyData->Option Bool
 |.int i,.int j=>some (decide (i<j))
 |.str x,.str y=>some (pG x y)
 |.tuple xs,.tuple ys=>dN xs ys
 |_,_=>Option.none
noncomputable def dN:Y9->Y9->Option Bool
 | [],[]=>some false
 | [],_::_=>some true
 |_::_,[]=>some false
 |x::xs,y::ys=>if PyData.eqv x y then dN xs ys else cv x y
end
def oLt(x y:D)(h:Hm):R D:=match x,y with
 |.dat d,.dat e=>if noDict d&&noDict e&&decide (min d.depth e.depth<=40)then match cv d e with
  |some b=>.ok (.bool b) h
  |Option.none=>.bad
  else .bad
 |_,_=>.bad
def oLe(x y:D)(h:Hm):R D:=match x,y with
 |.dat (.int i),.dat (.int j)=>.ok (.bool (decide (i<=j))) h
 |.dat (.str s),.dat (.str t)=>.ok (.bool (!pG t s)) h
 |_,_=>.bad
def E6(x y:D)(h:Hm):R D:=match x,y with
 |.dat (.int i),.dat (.int j)=>.ok (.bool (decide (j<i))) h
 |_,_=>.bad
def GN(x:PyData):Y9->Option Bool
 | []=>some false
 |y::ys=>match E5 y x,GN x ys with
  |some a,some b=>some (a || b)
  |_,_=>Option.none
def gY:PyData->Bool
 |.tuple _=>true
 |_=>false
def m9:PyData->Bool
 |.str _=>true
 |_=>false
def kR(k:PyData)(kvs:Y6):Bool:=kvs.any λp=>PyData.eqv p.1 k
def iE(y:D)(h:Hm):Option (Bool×Y6):=match y with
 |.iC t kvs=>some (t,kvs)
 |.ref i=>match h[i]? with
  |some (.iC t kvs)=>some (t,kvs)
  |_=>Option.none
 |_=>Option.none
mutual
noncomputable def aD:PyData->Bool
 |.str _=>true
 |.tuple ds=>bL ds
 |_=>false
noncomputable def bL:Y9->Bool
 | []=>true
 |d::ds=>aD d&&bL ds
end
def keyOk(t:Bool)(k:PyData):Bool:=if t then gY k&&aD k&&decide (k.depth<=8)else m9 k
def zO(x:D)(kvs:Y6)(t:Bool):Option Bool:=match x with
 |.dat d=>if keyOk t d then some (kR d kvs)else Option.none
 |_=>Option.none
noncomputable def lY(x y:D)(h:Hm):Option Bool:=match y with
 |.dat (.str s)=>match x with
  |.dat (.str t)=>some (!(Builtin.Str.occurrences s t 0 s.length 1).isEmpty)
  |_=>Option.none
 |y=>match DD h x,DD h y with
  |some d,some (.tuple ds)=>GN d ds
  |some d,some (.list ds)=>GN d ds
  |_,_=>Option.none
def findIn(x y:D)(h:Hm):Option Bool:=match iE y h with
 |some p=>zO x p.2 p.1
 |Option.none=>lY x y h
def j3(x y:D)(h:Hm):R D:=match findIn x y h with
 |some b=>.ok (.bool b) h
 |Option.none=>.bad
def gr(x y:D)(h:Hm):R D:=match findIn x y h with
 |some b=>.ok (.bool !b) h
 |Option.none=>.bad
def nc:PyData->Bool
 |.none|.bool _|.int _|.str _=>true
 |_=>false
def dput(kvs:Y6)(k v:PyData):Y6:=
 if kR k kvs then kvs.map (λp=>if PyData.eqv p.1 k then(p.1,v)else p)else kvs++[(k,v)]
def Iw(kvs:Y6)(k:PyData):Option PyData:=(kvs.find? λp=>PyData.eqv p.1 k).map (·.2)
def xS(n:Nat)(i:Int):Option Nat:=if 0<=i then(if i<n then some i.toNat else Option.none)else if -(n:Int)<=i then some (i+n).toNat else Option.none
def mU{α:Type}(xs:List α)(i:Int):Option α:=(xS xs.length i).bind λj=>xs[j]?
noncomputable def zP(x y:D)(h:Hm):R D:=match y with
 |.dat (.int i)=>match x with
  |.dat (.tuple ds)=>match mU ds i with|some d=>.ok (.dat d) h|Option.none=>.bad
  |.dat (.list ds)=>match mU ds i with|some d=>.ok (.dat d) h|Option.none=>.bad
  |.ref j=>match h[j]? with
   |some (.lst xs)=>match mU xs i with|some d=>.ok d h|Option.none=>.bad
   |_=>.bad
  |.scr ns=>match mU ns i with|some n=>.ok (.int n) h|Option.none=>.bad
  |_=>.bad
 |_=>.bad
def dw(x y:D)(h:Hm):R D:=match iE x h with
 |some p=>match y with
  |.dat (.str k)=>if p.1 then .bad else match Iw p.2 (.str k)with
   |some v=>.ok (.dat v) h
   |Option.none=>.bad
  |_=>.bad
 |Option.none=>zP x y h
def gq(n d:Nat):Option Int->Nat
 |Option.none=>d
 |some v=>if v<0 then(v+(n:Int)).toNat else min v.toNat n
def cut{α:Type}(ds:List α)(lo hi:Option Int):List α:=(ds.drop (gq ds.length 0 lo)).take (gq ds.length ds.length hi-gq ds.length 0 lo)
abbrev O9:=Fm->Hm->R (Option Int)
def yD:O9:=λ_ h=>.ok Option.none h
def yE(e:ME):O9:=λρ h=>(e ρ h).bind λx h1=>match x with
 |.dat (.int i)=>.ok (some i) h1
 |_=>.bad
def Rr(x:D)(lo hi:Option Int)(h:Hm):R D:=match x with
 |.dat (.tuple ds)=>.ok (.dat (.tuple (cut ds lo hi))) h
 |.dat (.list ds)=>.ok (.dat (.list (cut ds lo hi))) h
 |_=>.bad
def Qz(e:ME)(lo hi:O9):ME:=λρ h=>(e ρ h).bind λx h1=>(lo ρ h1).bind λl h2=>(hi ρ h2).bind λu h3=>Rr x l u h3
noncomputable def iZ:Fn:=λxs h=>match xs with
 | [.dat (.str s)]=>if kQ s.length then .ok (.int s.length) h else .bad
 | [.dat (.tuple ds)]=>.ok (.int ds.length) h
 | [.dat (.list ds)]=>.ok (.int ds.length) h
 | [.ref i]=>match h[i]? with
  |some (.lst ys)=>.ok (.int ys.length) h
  |_=>.bad
 | [.scr ns]=>.ok (.int ns.length) h
 |_=>.bad
def bools:Y9->Option (List Bool)
 | []=>some []
 |.bool b::ds=>(bools ds).map (b::·)
 |_=>Option.none
theorem yF(bs:List Bool):bools (bs.map .bool)=some bs:=by
 induction bs with
 |nil=>rfl
 |cons b bs ih=>simp[bools,ih]
def sC:Fn:=λxs h=>match xs with
 | [.dat (.list ds)]=>match bools ds with
  |some bs=>.ok (.bool (bs.all id)) h
  |Option.none=>.bad
 |_=>.bad
def GO:Fn:=λxs h=>match xs with
 | [.dat (.list ds)]=>match bools ds with
  |some bs=>.ok (.bool (bs.any id)) h
  |Option.none=>.bad
 |_=>.bad
def isTup:PyData->Bool|.tuple _=>true|_=>false
def isStr:PyData->Bool|.str _=>true|_=>false
def isInt:PyData->Bool|.int _|.bool _=>true|_=>false
def Nz:PyData->Bool|.bool _=>true|_=>false
def vt(f:PyData->Bool):D->Hm->R D:=λx h=>match x with
 |.dat d=>.ok (.bool (f d)) h
 |_=>.bad
def jn(x:Str):Y9:=(List.range x.cps.size).map λ(i:Nat)=>.str ⟨#[x.cps.getD i 0]⟩
noncomputable def jo:Fn:=λxs h=>match xs with
 | [.dat (.tuple ds)]=>.ok (.dat (.tuple ds)) h
 | [.dat (.str s)]=>if kQ s.cps.size then .ok (.dat (.tuple (jn s))) h else .bad
 | [x]=>match listOf x h with
  |some ds=>.ok (.dat (.tuple ds)) h
  |Option.none=>.bad
 |_=>.bad
def DF:Fn:=λxs h=>match xs with
 | [.dat (.tuple ds)]=>.ok (.dat (.list ds)) h
 | [x]=>match listOf x h with
  |some ds=>.ok (.dat (.list ds)) h
  |Option.none=>.bad
 |_=>.bad
def Bo:Fn:=λxs h=>match xs with
 | [x]=>match iE x h with
  |some p=>.ok (.dat (.list (p.2.map (·.1)))) h
  |Option.none=>DF [x] h
 |_=>.bad
def DH(lt:PyData->PyData->Bool)(x:PyData):Y9->Y9
 | []=>[x]
 |y::ys=>if lt y x then y::DH lt x ys else x::y::ys
def cQ(lt:PyData->PyData->Bool):Y9->Y9
 | []=>[]
 |x::xs=>DH lt x (cQ lt xs)
def ltB(d e:PyData):Bool:=(cv d e).getD false
def Bp(d:PyData):Bool:=d.showable&&noDict d&&decide (d.depth<=40)&&kQ d.shown.length
def Iy(d:PyData):Bool:=match d with
 |.dict _=>d.showable&&decide (d.depth<=20)&&kQ d.shown.length
 |_=>false
def mO:Fn:=λxs h=>match xs with
 | [x]=>match DD h x with
  |some d=>if Bp d || Iy d then .ok (.rpr d.shown) h else .bad
  |Option.none=>.bad
 |_=>.bad
def uK:Fn:=λxs h=>match xs with
 | [.dat (.int i),.dat (.int j)]=>if 0<j/\j<1073741824 then .ok (.dat (.tuple [.int (i / j),.int (i % j)])) h else .bad
 |_=>.bad
def LN:Fn:=λxs h=>match xs with
 | [.dat (.int i)]=>.ok (.int (if i<0 then -i else i)) h
 |_=>.bad
def Iz:Fn:=λxs h=>match xs with
 | [.dat (.int i),.dat (.int j)]=>.ok (.int (if j>i then j else i)) h
 |_=>.bad
def IA:Fn:=λxs h=>match xs with
 | [.dat (.int i),.dat (.int j)]=>.ok (.int (if j<i then j else i)) h
 |_=>.bad
def zQ:Fn:=λxs h=>match xs with
 | [.dat (.int i)]=>.ok (.int i) h
 | [.dat (.bool b)]=>.ok (.int (if b then 1 else 0)) h
 |_=>.bad
def fK(x y:D)(h:Hm):R D:=match x with
 |.ref i=>match h[i]? with
  |some (.lst xs)=>if decide (xs.length<16777216)then .ok D.none (h.set i (.lst (xs++[y])))else .bad
  |_=>.bad
 |_=>.bad
def E7(x y v:D)(h:Hm):R Unit:=match x,y with
 |.ref i,.dat (.int k)=>match h[i]? with
  |some (.lst xs)=>match xS xs.length k with
   |some j=>.ok () (h.set i (.lst (xs.set j v)))
   |Option.none=>.bad
  |_=>.bad
 |_,_=>.bad
def IB(i:Nat)(t:Bool)(kvs:Y6)(y v:D)(h:Hm):R Unit:=match y,v with
 |.dat k,.dat d=>if keyOk t k&&(t || nc d)&&decide (kvs.length<16777216)then .ok () (h.set i (.iC t (dput kvs k d)))else .bad
 |_,_=>.bad
def pI(x y v:D)(h:Hm):R Unit:=match x with
 |.ref i=>match h[i]? with
  |some (.iC t kvs)=>IB i t kvs y v h
  |_=>E7 x y v h
 |_=>.bad
def pA(eo ei:ME):MG:=λv ρ h=>(eo ρ h).bind λo h1=>(ei ρ h1).bind λi h2=>(pI o i v h2).bind λ_ h3=>.ok ρ h3
noncomputable def truth(x:D)(h:Hm):Option Bool:=match x with
 |.dat .none=>some false
 |.dat (.bool b)=>some b
 |.dat (.int i)=>some (i != 0)
 |.dat (.str s)=>if kQ s.length then some ((s.length:Int) != 0)else Option.none
 |.dat (.tuple ds)=>some !ds.isEmpty
 |.dat (.list ds)=>some !ds.isEmpty
 |.ref i=>match h[i]? with
  |some (.lst xs)=>some !xs.isEmpty
  |_=>Option.none
 |_=>Option.none
def aX(e:ME):MT:=λρ h=>(e ρ h).bind λx h1=>match truth x h1 with
 |some b=>.ok b h1
 |Option.none=>.bad
mutual
noncomputable def fw:PyData->Bool
 |.str x=>PyData.strOk x
 |.list xs|.tuple xs=>cF xs
 |_=>true
noncomputable def cF:Y9->Bool
 | []=>true
 |x::xs=>fw x&&cF xs
end
mutual
theorem kC:∀{d:PyData},fw d=true->d.hasDict=false->d.canLay0=true
 |.none,_,_=>by rfl
 |.bool _,_,_=>by rfl
 |.int _,_,_=>by rfl
 |.str x,h,_=>by assumption
 |.tuple ds,h,k=>qI h k
 |.list ds,h,k=>by simp[fw]at h;exact qI h k
 |.dict _,_,k=>by trivial
theorem qI:∀{ds:Y9},cF ds=true->PyData.hasDictAll ds=false->PyData.canLayAll0 ds=true
 | [],_,_=>by rfl
 |d::ds,h,k=>by simp only[cF,U1]at h;simp only[PyData.hasDictAll,Bool.or_eq_false_iff]at k;simp only[PyData.canLayAll0,U1];exact(kC h.1 k.1,qI h.2 k.2)
end
mutual
noncomputable def au:PyData->Bool
 |.int _|.str _=>true
 |.tuple ds=>aI ds
 |_=>false
noncomputable def aI:Y9->Bool
 | []=>true
 |d::ds=>au d&&aI ds
end
theorem bF:∀{ds:Y9} {d:PyData},aI ds=true->d∈ds->au d=true
 |_::_,d,h,m=>by
  simp[aI]at h;rcases Vb.mp m with rfl|m
  ·grind
  ·exact bF h.2 m
theorem j4:∀{ds:Y9},(∀d∈ds,au d=true)->aI ds=true
 | [],_=>by rfl
 |d::ds,h=>by simp[aI];exact(h d (by simp),j4 λe m=>h e (by simp[m]))
mutual
theorem gu:∀{d e:PyData},au d=true->au e=true->(PyData.eqv d e=true<->d=e)
 |.int i,.int j,_,_=>by simp[PyData.eqv]
 |.str x,.str y,_,_=>by simp[PyData.eqv]
 |.tuple xs,.tuple ys,h,k=>by simp only[au]at h k;simp only[PyData.eqv,PyData.tuple.injEq];exact yG h k
 |.int _,.str _,_,_=>by simp[PyData.eqv]
 |.int _,.tuple _,_,_=>by simp[PyData.eqv]
 |.str _,.int _,_,_=>by simp[PyData.eqv]
 |.str _,.tuple _,_,_=>by simp[PyData.eqv]
 |.tuple _,.int _,_,_=>by simp[PyData.eqv]
 |.tuple _,.str _,_,_=>by simp[PyData.eqv]
 |.none,_,h,_=>by simp[au]at h
 |.bool _,_,h,_=>by simp[au]at h
 |.list _,_,h,_=>by simp[au]at h
 |.dict _,_,h,_=>by simp[au]at h
 |.int _,.none,_,h=>by simp[au]at h
 |.int _,.bool _,_,h=>by simp[au]at h
 |.int _,.list _,_,h=>by simp[au]at h
 |.int _,.dict _,_,h=>by simp[au]at h
 |.str _,.none,_,h=>by simp[au]at h
 |.str _,.bool _,_,h=>by simp[au]at h
 |.str _,.list _,_,h=>by simp[au]at h
 |.str _,.dict _,_,h=>by simp[au]at h
 |.tuple _,.none,_,h=>by simp[au]at h
 |.tuple _,.bool _,_,h=>by simp[au]at h
 |.tuple _,.list _,_,h=>by simp[au]at h
 |.tuple _,.dict _,_,h=>by simp[au]at h
theorem yG:∀{xs ys:Y9},aI xs=true->aI ys=true->(PyData.eqvAll xs ys=true<->xs=ys)
 | [],[],_,_=>by simp[PyData.eqvAll]
 | [],_::_,_,_=>by simp[PyData.eqvAll]
 |_::_,[],_,_=>by simp[PyData.eqvAll]
 |x::xs,y::ys,h,k=>by simp only[aI,U1]at h k;simp only[PyData.eqvAll,U1,List.cons.injEq];rw[gu h.1 k.1,yG h.2 k.2]
end
mutual
theorem bW:∀{d:PyData},au d=true->d.hasDict=false
 |.int _,_=>rfl
 |.str _,_=>rfl
 |.tuple ds,h=>ja h
 |.none,h=>by rfl
 |.bool _,h=>by rfl
 |.list _,h=>by trivial
 |.dict _,h=>by trivial
theorem ja:∀{ds:Y9},aI ds=true->PyData.hasDictAll ds=false
 | [],_=>rfl
 |d::ds,h=>by simp only[aI,U1]at h;simp only[PyData.hasDictAll,Bool.or_eq_false_iff];exact(bW h.1,ja h.2)
end
theorem bH(h:au d=true):PyData.eqv d d=true:=(gu h h).mpr rfl
theorem bE(h:au d=true)(k:au e=true)(ne:d≠e):PyData.eqv d e=false:=by
 cases q:PyData.eqv d e with
 |false=>rfl
 |true=>exact absurd ((gu h k).mp q) ne
theorem Tw{x y:Str}(h:x.cps.toList=y.cps.toList):x=y:=by
 obtain⟨⟨a⟩⟩:=x
 simp_all
theorem zK(x:Str):pG x x=false:=V4 (List.lt_irrefl _)
theorem DC(h:pG x y=true)(h':pG y z=true):pG x z=true:=Wl (List.lt_trans (Wz h) (Wz h'))
theorem Iq(h:pG x y=true):pG y x=false:=V4 λz=>List.lt_irrefl _ (List.lt_trans (Wz h) z)
theorem E0(h:pG x y=false)(h':pG y x=false):x=y:=
 Tw (List.le_antisymm (List.not_lt.mp (of_decide_eq_false h')) (List.not_lt.mp (of_decide_eq_false h)))
mutual
theorem IC:∀{d e:PyData},au d=true->au e=true->cv d e=some true->cv e d=some false
 |.int i,.int j,_,_,h=>by grind[cv]
 |.str x,.str y,_,_,h=>by simp only[cv,Xe]at h ⊢;exact Iq h
 |.tuple xs,.tuple ys,h,k,q=>by simp only[au]at h k;simp only[cv]at q ⊢;exact E8 h k q
 |.int _,.str _,_,_,h=>by trivial
 |.int _,.tuple _,_,_,h=>by trivial
 |.str _,.int _,_,_,h=>by trivial
 |.str _,.tuple _,_,_,h=>by trivial
 |.tuple _,.int _,_,_,h=>by trivial
 |.tuple _,.str _,_,_,h=>by simp[cv]at h
 |.none,_,h,_,_=>by simp[au]at h
 |.bool _,_,h,_,_=>by simp[au]at h
 |.list _,_,h,_,_=>by simp[au]at h
 |.dict _,_,h,_,_=>by simp[au]at h
 |_,.none,_,h,_=>by simp[au]at h
 |_,.bool _,_,h,_=>by simp[au]at h
 |_,.list _,_,h,_=>by simp[au]at h
 |_,.dict _,_,h,_=>by simp[au]at h
theorem E8:∀{xs ys:Y9},aI xs=true->aI ys=true->dN xs ys=some true->dN ys xs=some false
 | [],[],_,_,h=>by simp[dN]at h
 | [],_::_,_,_,_=>by simp[dN]
 |_::_,[],_,_,h=>by simp[dN]at h
 |x::xs,y::ys,h,k,q=>by
  simp only[aI,U1]at h k;simp only[dN]at q ⊢;by_cases e:x=y
  ·subst e;rw[bH h.1,if_pos rfl]at q ⊢;exact E8 h.2 k.2 q
  ·rw[bE h.1 k.1 e,if_neg (by simp)]at q;rw[bE k.1 h.1 (λz=>e z.symm),if_neg (by simp)];exact IC h.1 k.1 q
end
mutual
theorem E9:∀{d e:PyData},au d=true->au e=true->cv d e=some false->cv e d=some false->d=e
 |.int i,.int j,_,_,h,h'=>by grind[cv]
 |.str x,.str y,_,_,h,h'=>by simp only[cv,Xe]at h h';rw[E0 h h']
 |.tuple xs,.tuple ys,h,k,q,q'=>by simp only[au]at h k;simp only[cv]at q q';rw[Bq h k q q']
 |.int _,.str _,_,_,h,_=>by trivial
 |.int _,.tuple _,_,_,h,_=>by trivial
 |.str _,.int _,_,_,h,_=>by trivial
 |.str _,.tuple _,_,_,h,_=>by trivial
 |.tuple _,.int _,_,_,h,_=>by simp[cv]at h
 |.tuple _,.str _,_,_,h,_=>by simp[cv]at h
 |.none,_,h,_,_,_=>by simp[au]at h
 |.bool _,_,h,_,_,_=>by simp[au]at h
 |.list _,_,h,_,_,_=>by simp[au]at h
 |.dict _,_,h,_,_,_=>by simp[au]at h
 |_,.none,_,h,_,_=>by simp[au]at h
 |_,.bool _,_,h,_,_=>by simp[au]at h
 |_,.list _,_,h,_,_=>by simp[au]at h
 |_,.dict _,_,h,_,_=>by simp[au]at h
theorem Bq:∀{xs ys:Y9},aI xs=true->aI ys=true->dN xs ys=some false->dN ys xs=some false->xs=ys
 | [],[],_,_,_,_=>rfl
 | [],_::_,_,_,h,_=>by simp[dN]at h
 |_::_,[],_,_,_,h=>by simp[dN]at h
 |x::xs,y::ys,h,k,q,q'=>by
  simp only[aI,U1]at h k;simp only[dN]at q q';by_cases e:x=y
  ·subst e;rw[bH h.1,if_pos rfl]at q q';rw[Bq h.2 k.2 q q']
  ·rw[bE h.1 k.1 e,if_neg (by simp)]at q;rw[bE k.1 h.1 (λz=>e z.symm),if_neg (by simp)]at q';exact absurd (E9 h.1 k.1 q q') e
end
mutual
theorem Fb:∀{d:PyData},au d=true->cv d d=some false
 |.int i,_=>by simp[cv]
 |.str x,_=>by simp[cv,zK]
 |.tuple xs,h=>Br h
 |.none,h=>by trivial
 |.bool _,h=>by trivial
 |.list _,h=>by trivial
 |.dict _,h=>by trivial
theorem Br:∀{xs:Y9},aI xs=true->dN xs xs=some false
 | [],_=>by rfl
 |x::xs,h=>by simp only[aI,U1]at h;simp only[dN];rw[bH h.1,if_pos rfl];exact Br h.2
end
mutual
theorem ID:∀{d e f:PyData},au d=true->au e=true->au f=true->cv d e=some true->cv e f=some true->cv d f=some true
 |.int i,.int j,.int k,_,_,_,h,h'=>by grind[cv]
 |.str x,.str y,.str z,_,_,_,h,h'=>by simp only[cv,Xe]at h h' ⊢;exact DC h h'
 |.tuple xs,.tuple ys,.tuple zs,h,k,l,q,q'=>by simp only[au]at h k l;simp only[cv]at q q' ⊢;exact Fc h k l q q'
 |.none,_,_,h,_,_,_,_=>by simp[au]at h
 |.bool _,_,_,h,_,_,_,_=>by simp[au]at h
 |.list _,_,_,h,_,_,_,_=>by simp[au]at h
 |.dict _,_,_,h,_,_,_,_=>by simp[au]at h
 |.int _,.none,_,_,_,_,h,_=>by simp[cv]at h
 |.int _,.bool _,_,_,_,_,h,_=>by simp[cv]at h
 |.int _,.str _,_,_,_,_,h,_=>by simp[cv]at h
 |.int _,.list _,_,_,_,_,h,_=>by simp[cv]at h
 |.int _,.tuple _,_,_,_,_,h,_=>by simp[cv]at h
 |.int _,.dict _,_,_,_,_,h,_=>by simp[cv]at h
 |.str _,.none,_,_,_,_,h,_=>by simp[cv]at h
 |.str _,.bool _,_,_,_,_,h,_=>by simp[cv]at h
 |.str _,.int _,_,_,_,_,h,_=>by simp[cv]at h
 |.str _,.list _,_,_,_,_,h,_=>by simp[cv]at h
 |.str _,.tuple _,_,_,_,_,h,_=>by simp[cv]at h
 |.str _,.dict _,_,_,_,_,h,_=>by simp[cv]at h
 |.tuple _,.none,_,_,_,_,h,_=>by simp[cv]at h
 |.tuple _,.bool _,_,_,_,_,h,_=>by simp[cv]at h
 |.tuple _,.int _,_,_,_,_,h,_=>by simp[cv]at h
 |.tuple _,.list _,_,_,_,_,h,_=>by simp[cv]at h
 |.tuple _,.str _,_,_,_,_,h,_=>by simp[cv]at h
 |.tuple _,.dict _,_,_,_,_,h,_=>by simp[cv]at h
 |.int _,.int _,.none,_,_,_,_,h=>by simp[cv]at h
 |.int _,.int _,.bool _,_,_,_,_,h=>by simp[cv]at h
 |.int _,.int _,.str _,_,_,_,_,h=>by simp[cv]at h
 |.int _,.int _,.list _,_,_,_,_,h=>by simp[cv]at h
 |.int _,.int _,.tuple _,_,_,_,_,h=>by simp[cv]at h
 |.int _,.int _,.dict _,_,_,_,_,h=>by simp[cv]at h
 |.str _,.str _,.none,_,_,_,_,h=>by simp[cv]at h
 |.str _,.str _,.bool _,_,_,_,_,h=>by simp[cv]at h
 |.str _,.str _,.int _,_,_,_,_,h=>by simp[cv]at h
 |.str _,.str _,.list _,_,_,_,_,h=>by simp[cv]at h
 |.str _,.str _,.tuple _,_,_,_,_,h=>by simp[cv]at h
 |.str _,.str _,.dict _,_,_,_,_,h=>by simp[cv]at h
 |.tuple _,.tuple _,.none,_,_,_,_,h=>by simp[cv]at h
 |.tuple _,.tuple _,.bool _,_,_,_,_,h=>by simp[cv]at h
 |.tuple _,.tuple _,.int _,_,_,_,_,h=>by simp[cv]at h
 |.tuple _,.tuple _,.list _,_,_,_,_,h=>by simp[cv]at h
 |.tuple _,.tuple _,.str _,_,_,_,_,h=>by simp[cv]at h
 |.tuple _,.tuple _,.dict _,_,_,_,_,h=>by simp[cv]at h
theorem Fc:∀{xs ys zs:Y9},aI xs=true->aI ys=true->aI zs=true->dN xs ys=some true->dN ys zs=some true->dN xs zs=some true
 | [],[],_,_,_,_,h,_=>by simp[dN]at h
 | [],_::_,[],_,_,_,_,h=>by simp[dN]at h
 | [],_::_,_::_,_,_,_,_,_=>by simp[dN]
 |_::_,[],_,_,_,_,h,_=>by simp[dN]at h
 |_::_,_::_,[],_,_,_,_,h=>by simp[dN]at h
 |x::xs,y::ys,z::zs,h,k,l,q,q'=>by
  simp only[aI,U1]at h k l;simp only[dN]at q q' ⊢;by_cases e1:x=y
  ·subst e1;rw[bH h.1,if_pos rfl]at q;by_cases e2:x=z
   ·subst e2;rw[bH h.1,if_pos rfl]at q' ⊢;exact Fc h.2 k.2 l.2 q q'
   ·rw[bE h.1 l.1 e2,if_neg (by simp)]at q' ⊢;exact q'
  ·rw[bE h.1 k.1 e1,if_neg (by simp)]at q;by_cases e2:y=z
   ·subst e2;rw[bE h.1 k.1 e1,if_neg (by simp)];exact q
   ·rw[bE k.1 l.1 e2,if_neg (by simp)]at q';have q3:=ID h.1 k.1 l.1 q q';by_cases e3:x=z
    ·subst e3;rw[Fb h.1]at q3;cases q3
    ·rw[bE h.1 l.1 e3,if_neg (by simp)];exact q3
end
def eG(ds:Y9):Bool:=ds.all λa=>ds.all λb=>(cv a b).isSome
theorem fR(h:eG ds=true)(ha:a∈ds)(hb:b∈ds):cv a b=some (ltB a b):=by
 have:=Vg.mp (Vg.mp h a ha) b hb;unfold ltB
 cases q:cv a b with
 |none=>grind
 |some k=>rfl
def gv:PyData->Bool|.tuple _=>true|_=>false
def vw:PyData->Bool|.str _=>true|_=>false
def eY(ds:Y9):Bool:=(ds.all vw || ds.all gv)&&aI ds&&eG ds&&decide (PyData.depthAll ds<=20)&&decide (ds.length<64)
def dz:Fn:=λxs h=>match xs with
 | [x]=>match listOf x h with
  |some ds=>if eY ds then .ok (.dat (.list (cQ ltB ds))) h else .bad
  |Option.none=>.bad
 |_=>.bad
theorem vz(c:eG ds=true)(t:aI ds=true)(ha:a∈ds)(hb:b∈ds)(h:ltB a b=true):ltB b a=false:=by have h1:=fR c ha hb;rw[h]at h1;unfold ltB;rw[IC (bF t ha) (bF t hb) h1];rfl
theorem qJ(c:eG ds=true)(t:aI ds=true)(ha:a∈ds)(hb:b∈ds)(h:ltB b a=false):ltB a b=true\/a=b:=by
 cases q:ltB a b with
 |true=>grind
 |false=>have h1:=fR c ha hb;have h2:=fR c hb ha;rw[q]at h1;rw[h]at h2;exact .inr (E9 (bF t ha) (bF t hb) h1 h2)
theorem Fd(c:eG ds=true)(t:aI ds=true)(ha:a∈ds)(hb:b∈ds)(hd:d∈ds)(h:ltB b a=false)(h':ltB d b=false):ltB d a=false:=by
 rcases qJ c t ha hb h with h1|rfl
 ·rcases qJ c t hb hd h' with h2|rfl
  ·have q1:=fR c ha hb;have q2:=fR c hb hd;rw[h1]at q1;rw[h2]at q2;have q3:=ID (bF t ha) (bF t hb) (bF t hd) q1 q2;exact vz c t ha hd (by simp_all[ltB])
  grind
 grind
theorem sD(lt:PyData->PyData->Bool)(x:PyData):∀ys:Y9,(DH lt x ys).Perm (x::ys)
 | []=>.refl _
 |y::ys=>by
  unfold DH;split
  ·exact((sD lt x ys).cons y).trans (.swap x y ys)
  rfl
theorem aY(lt:PyData->PyData->Bool):∀xs:Y9,(cQ lt xs).Perm xs
 | []=>.refl _
 |x::xs=>(sD lt x _).trans ((aY lt xs).cons x)
def Up(lt:PyData->PyData->Bool)(xs:Y9):Prop:=xs.Pairwise λa b=>lt b a=false
structure Ord(lt:PyData->PyData->Bool)(ds:Y9):Prop where
 as:∀{a b},a∈ds->b∈ds->lt a b=true->lt b a=false
 ntr:∀{a b d},a∈ds->b∈ds->d∈ds->lt b a=false->lt d b=false->lt d a=false
 tot:∀{a b},a∈ds->b∈ds->lt a b=false->lt b a=false->a=b
theorem Ord.sub(o:Ord lt ds)(h:∀e∈es,e∈ds):Ord lt es:=
 (λa b=>o.as (h _ a) (h _ b),λa b d=>o.ntr (h _ a) (h _ b) (h _ d),λa b=>o.tot (h _ a) (h _ b))
theorem Fe:∀{ys:Y9},Ord lt (x::ys)->Up lt ys->Up lt (DH lt x ys)
 | [],_,_=>by simp[DH,Up]
 |y::ys,o,u=>by
  unfold DH;unfold Up at u;rw[VG]at u;split
  ·rename_i h;refine VG.mpr (λb hb=>?_,Fe (o.sub λe m=>by grind) u.2);rcases Vb.mp ((sD lt x ys).mem_iff.mp hb)with rfl|hb
   ·exact o.as (by simp) (by simp) h
   grind
  ·have h':lt y x=false:=by grind
   refine VG.mpr (λb hb=>?_,VG.mpr u);rcases Vb.mp hb with rfl|hb
   ·exact h'
   ·exact o.ntr (by simp) (by simp) (by grind) h' (u.1 b hb)
theorem vA:∀{xs:Y9},Ord lt xs->Up lt (cQ lt xs)
 | [],_=>by simp[cQ,Up]
 |x::xs,o=>Fe (o.sub λe m=>by
     rcases Vb.mp m with rfl|m
     ·simp
     ·simp[(aY lt xs).mem_iff.mp m]) (vA (o.sub λe m=>by simp[m]))
theorem sE:∀{xs ys:Y9},Ord lt xs->xs.Perm ys->Up lt xs->Up lt ys->xs=ys
 | [],ys,_,p,_,_=>by simp_all
 |x::xs,ys,o,p,u,v=>by
  cases ys with
  |nil=>simp_all
  |cons y ys=>
   have hx:x∈y::ys:=p.mem_iff.mp (by simp);have hy:y∈x::xs:=p.mem_iff.mpr (by simp)
   have e:x=y:=by
    rcases Vb.mp hx with e|hx
    ·exact e
    rcases Vb.mp hy with e|hy
    ·grind
    exact o.tot (by simp) #[1] ((VG.mp v).1 x hx) ((VG.mp u).1 y hy)
   subst e;rw[sE (o.sub λe m=>by simp[m]) (List.perm_cons x |>.mp p) (VG.mp u).2 (VG.mp v).2]
theorem jf(c:eG ds=true)(t:aI ds=true):Ord ltB ds where
 as:=λa b=>vz c t a b
 ntr:=λa b d=>Fd c t a b d
 tot:=λ{a b} ha hb h h'=>by
  rcases qJ c t ha hb h' with q|q
  ·grind
  grind
theorem Bt(c:eG ds=true)(t:aI ds=true)(p:es.Perm ds)(u:Up ltB es):es=cQ ltB ds:=
 sE ((jf c t).sub λe m=>p.mem_iff.mp m) (p.trans (aY ltB ds).symm) u (vA (jf c t))
end Ml
namespace Ml
open PySem PySem.Spec L2
open Sem (wp)
mutual
theorem bw:∀{d:PyData},aD d=true->au d=true
 |.str _,_=>by rfl
 |.tuple ds,h=>by simp[aD]at h;exact qK h
 |.none,h=>by assumption
 |.bool _,h=>by assumption
 |.int _,h=>by rfl
 |.list _,h=>by assumption
 |.dict _,h=>by assumption
theorem qK:∀{ds:Y9},bL ds=true->aI ds=true
 | [],_=>by rfl
 |d::ds,h=>by simp only[bL,U1]at h;simp only[aI,U1];exact(bw h.1,qK h.2)
end
mutual
noncomputable def tw(w:World):PyData->Int
 |.str x=>hashStr w x
 |.tuple ds=>reduceHash (Builtin.Tuple.tupleHashOf (i6 w ds))
 |_=>0
noncomputable def i6(w:World):Y9->List Int
 | []=>[]
 |d::ds=>tw w d::i6 w ds
end
mutual
noncomputable def pJ:PyData->Nat
 |.str _=>1
 |.tuple ds=>qL ds+1
 |_=>0
noncomputable def qL:Y9->Nat
 | []=>0
 |d::ds=>pJ d+qL ds
end
mutual
theorem kS(k:∀b o vs n,h.get? b=some o->o.cls=.type "tuple" -> o.data=.seq vs n->h'.get? b=some o):∀{d:PyData} {v:Value} {as:Za},aD d=true->Reads h v d as->Reads h' v d as
 |.str _,_,_,_,.str x t=>.str x t
 |.tuple ds,_,_,t,.tuple h1 h2 h3 h4=>.tuple (k _ _ _ _ h1 h2 h3) h2 h3 (qM k t h4)
 |.none,_,_,t,_=>by trivial
 |.bool _,_,_,t,_=>by trivial
 |.int _,_,_,t,_=>by trivial
 |.list _,_,_,t,_=>by trivial
 |.dict _,_,_,t,_=>by trivial
theorem qM{h h':Heap}(k:∀b o vs n,h.get? b=some o->o.cls=.type "tuple" -> o.data=.seq vs n->h'.get? b=some o):∀{ds:Y9} {vs:Zb} {as:Za},bL ds=true->ReadsAll h vs ds as->ReadsAll h' vs ds as
 | [],_,_,_,.nil=>.nil
 |d::ds,_,_,t,.cons r1 r2=>by simp only[bL,U1]at t;exact .cons (kS k t.1 r1) (qM k t.2 r2)
end
section
mutual
theorem pK:∀(d:PyData) (A:Zm) (s:Zn) (v:Value) (as:Za) (Q:Int->Zn->Prop) (E:Y4),aD d=true->Reads s.heap v d as->A.units+d.depth<cLine->Q (tw w d) {s with toks:=s.toks+pJ d}->wpAny (model P w) A (pyHash v) Q E s
 |.str x,A,s,v,as,Q,E,_,r,hu,h=>by cases r;simp only[tw,pJ]at h;exact wpAny_pyHash_str h
 |.tuple ds,A,s,v,as,Q,E,t,r,hu,h=>by
  cases r with
  |tuple ho hc hd hi=>
   rename_i a o items n;have hT:s.TypeIs (.ref a) "tuple" := (o,ho,hc);simp only[aD]at t;simp only[PyData.depth]at hu;simp only[tw,pJ]at h;unfold pyHash
   first|unfold pyHashByItsType|skip
   first|refine UY (wpAny_cRoomFor_or (.inr #[1]) ?_)|skip
   refine UY (WE hT XI.lookup ?_);show wpAny _ _ (if(some (Value.builtin "tuple.__hash__")==some Value.none)=true then _ else _) Q E s;rw[if_neg (by rw[beq_builtin_none];exact Vv)];refine UY (WE hT XI.lookup ?_);show wpAny _ _ (callSpecialIfBoundUnlessNone? (.ref a) "__hash__" _ >>= _) Q E s;refine UY (wpAny_callSpecialIfBoundUnlessNone?_slot hT XI (Vt XI hT F.entry_tuple_hash ?_ (F.args_tuple_hash_1 _)));show wpAny _ _ (Builtin.Tuple.tupleItemsOf (.ref a) >>= _) _ _ s;refine UY (wpAny_tupleItemsOf ho hd ?_);refine UY ?_;rw[<- WH];refine qN ds A.in1 s items.toList _ #[] _ _ _ t hi (by show A.units+1+_<_;omega) ?_ ?_
   ·intro x b s' R k
    first
     |exact UY (V7 k (λc s2 q=>UZ q) λ_ _ z=>z)
     |exact UY (V7 k (λc s2 q=>UY (UZ (UZ q))) λ_ _ z=>z)
   ·show wpAny _ _ (retInt (Builtin.Tuple.tupleHashOf (#[]++(i6 w ds).toArray).toList)) _ _ _;have e1:(#[]++(i6 w ds).toArray).toList=i6 w ds:=by simp
    rw[e1];refine wpAny_ret_mkInt ?_;show wpAny _ _ (if(decide (-(2:Int)^63<=Builtin.Tuple.tupleHashOf (i6 w ds))&&decide (Builtin.Tuple.tupleHashOf (i6 w ds)<2^63))=true then _ else _) Q E _;unfold reduceHash at h;by_cases hr:(decide (-(2:Int)^63<=Builtin.Tuple.tupleHashOf (i6 w ds))&&decide (Builtin.Tuple.tupleHashOf (i6 w ds)<2^63))=true
    ·rw[if_pos hr];rw[if_pos hr]at h;exact UZ (by simpa [Nat.add_assoc]using h)
    ·rw[if_neg hr];rw[if_neg hr]at h;exact UY (WG (UZ (by simpa [Nat.add_assoc]using h)))
 |.none,_,_,_,_,_,_,t,_,_,_=>by simp[aD]at t
 |.bool _,_,_,_,_,_,_,t,_,_,_=>by simp[aD]at t
 |.int _,_,_,_,_,_,_,t,_,_,_=>by simp[aD]at t
 |.list _,_,_,_,_,_,_,t,_,_,_=>by simp[aD]at t
 |.dict _,_,_,_,_,_,_,t,_,_,_=>by simp[aD]at t
theorem qN:∀(ds:Y9) (A:Zm) (s:Zn) (vs:Zb) (as:Za) (acc:Array Int) (R:Array Int->Zn->Prop) (E':Y4) (body:Value->Array Int->Sem (ForInStep (Array Int))),bL ds=true->ReadsAll s.heap vs ds as->A.units+PyData.depthAll ds<cLine ->
  (∀(x:Value) (b:Array Int) (s':Zn) (R':ForInStep (Array Int)->Zn->Prop),wpAny (model P w) A (pyHash x) (λc s2=>R' (.yield (b.push c)) s2) E' s'->wpAny (model P w) A (body x b) R' E' s') ->
  R (acc++(i6 w ds).toArray) {s with toks:=s.toks+qL ds}->wpAny (model P w) A (forIn vs acc body) R E' s
 | [],A,s,_,_,acc,R,E',body,_,.nil,_,hb,h=>by rw[Xv];simp only[i6,qL]at h;exact UZ (by simpa using h)
 |d::ds,A,s,_,_,acc,R,E',body,t,.cons r1 r2,hu,hb,h=>by simp only[bL,U1]at t;simp only[PyData.depthAll]at hu;rw[Wo];refine UY (hb _ _ _ _ ?_);refine pK d A s _ _ _ E' t.1 r1 #[1] ?_;refine qN ds A _ _ _ (acc.push (tw w d)) R E' body t.2 r2 #[1] hb ?_;simp only[i6,qL]at h;simpa [Nat.add_assoc]using h
end
mutual
theorem j5:∀(d:PyData) (n:Nat) (A:Zm) (s:Zn) (v:Value) (as:Za) (Q:Bool->Zn->Prop) (E:Y4),aD d=true->d.depth<=n->Reads s.heap v d as->Q true s->wpAny (model P w) A (eqIsQuiet n v) Q E s
 |.str x,n,A,s,v,as,Q,E,_,_,r,h=>by cases r;rw[eqIsQuiet_byValue n rfl];exact UZ h
 |.tuple ds,n,A,s,v,as,Q,E,t,hn,r,h=>by
  cases r with
  |tuple ho hc hd hi=>
   rename_i a o items k;have hT:s.TypeIs (.ref a) "tuple" := (o,ho,hc);simp only[aD]at t;simp only[PyData.depth]at hn;obtain⟨m,rfl⟩:∃m,n=m+1:=(n-1,by omega);unfold eqIsQuiet;refine UY (WE hT YL.lookup ?_);show wpAny _ _ (isInstance (.ref a) (.type "tuple") >>= _) _ _ s;refine UY (WY hT isSubtype_tuple_tuple ?_);simp only[WC,Vc,VQ];refine UY (V6 ho hd ?_);refine UY ?_;show wpAny _ _ (forIn items _ _) _ _ s;rw[<- WH];refine qO ds m A s items.toList _ _ E _ t #[1] hi ?_ ?_
   ·intro x s' R k;refine UY (V7 k (λc s2 q=>?_) λ_ _ z=>z);obtain⟨rfl,q⟩:=q;simp only[WC,Vc,VQ];exact UZ q
   ·exact UZ h
 |.none,_,_,_,_,_,_,_,t,_,_,_=>by simp[aD]at t
 |.bool _,_,_,_,_,_,_,_,t,_,_,_=>by simp[aD]at t
 |.int _,_,_,_,_,_,_,_,t,_,_,_=>by simp[aD]at t
 |.list _,_,_,_,_,_,_,_,t,_,_,_=>by simp[aD]at t
 |.dict _,_,_,_,_,_,_,_,t,_,_,_=>by simp[aD]at t
theorem qO:∀(ds:Y9) (n:Nat) (A:Zm) (s:Zn) (vs:Zb) (as:Za) (R:Option Bool×Unit->Zn->Prop) (E:Y4) (body:Value->Option Bool×Unit->Sem (ForInStep (Option Bool×Unit))),bL ds=true->PyData.depthAll ds<=n->ReadsAll s.heap vs ds as ->
  (∀(x:Value) (s':Zn) (R':ForInStep (Option Bool×Unit)->Zn->Prop),wpAny (model P w) A (eqIsQuiet n x) (λc s2=>c=true/\R' (.yield (none,())) s2) E s'->wpAny (model P w) A (body x (none,())) R' E s') ->
  R (none,()) s->wpAny (model P w) A (forIn vs (none,()) body) R E s
 | [],n,A,s,_,_,R,E,body,_,_,.nil,hb,h=>by rw[Xv];exact UZ h
 |d::ds,n,A,s,_,_,R,E,body,t,hn,.cons r1 r2,hb,h=>by simp only[bL,U1]at t;simp only[PyData.depthAll]at hn;rw[Wo];refine UY (hb _ _ _ (j5 d n A s _ _ _ E t.1 #[1] r1 (rfl,?_)));exact qO ds n A s _ _ R E body t.2 #[1] r2 hb h
end
end
def Pa(h:Heap)(d:PyData)(a:Addr):Prop:=aD d=true/\d.depth<=8/\fw d=true/\∃as,Reads h (.ref a) d as
noncomputable instance Uo:DecidableEq PyData:=λa b=>Classical.propDecidable (a=b)
noncomputable def fB(P:Zj)(w:World):HeapKind P w PyData where
 is:=Pa
 hash:=tw w
 draws:=pJ
 room:=λA=>A.units+20<cLine
 inj:=λ{h a x y} ⟨_,_,_,as,hx⟩ ⟨_,_,_,bs,hy⟩=>(YO hx _ _ hy).1
 keeps:=λ{h h' k a d o es ep} ⟨t,dp,so,as,r⟩ ho hd hs=>(t,dp,so,as,kS (λb ob vs n e c dd=>by
  have ne:b≠d:=λz=>by subst z;rw[ho]at e;cases e;rw[hd]at dd;cases dd
  exact(hs.2 b ne).trans e) t r)
 pyHash:=λ{A E s k a Q} hu ⟨t,dp,_,as,r⟩ h=>pK k A s _ as Q E t r #[1] h
 eqBool:=λ{A E s x y a b Q} hu ⟨t1,d1,s1,as,r1⟩ (t2,d2,s2,bs,r2) h=>by
  have hq:PyData.eqv x y=decide (x=y):=by
   by_cases e:x=y
   ·subst e;rw[Wl rfl];exact bH (bw t1)
   ·rw[V4 e];exact bE (bw t1) (bw t2) e
  have:=Yz x y A s _ _ _ _ r1 r2 (kC s1 (bW (bw t1))) (kC s2 (bW (bw t2))) #[1] P w E Q;rw[hq]at this;exact this h
 quiet:=λ{A E s k a Q} ⟨t,dp,_,as,r⟩ h=>j5 k 8 A s _ as Q E t dp r h
def dO(P:Zj)(w:World)(xs:List (PyData×Addr×Value))(a:Addr):HO:=.ext λh=>xs.length<=sizeLine/\(a==sysModules)=false/\∃o es ep,h.get? a=some o/\o.ExactDict/\o.data=.dict es ep/\es.toList=xs.map (entryOfKey (fB P w))/\(xs.map (·.1)).Nodup
theorem IE(h1:xs.length<=sizeLine)(h2:(a==sysModules)=false)(h3:h.get? a=some o)(h4:o.ExactDict)(h5:o.data=.dict es ep)(h6:es.toList=xs.map (entryOfKey (fB P w)))(h7:(xs.map (·.1)).Nodup):cX P w H h a (dO P w xs a):=
 ((h1,h2,o,es,ep,h3,h4,h5,h6,h7),(o,h3),by rintro g1 g2 ⟨k1,k2,o',r_,P3,k3,k4⟩ hk;exact(k1,k2,o',r_,P3,hk _ k3,k4))
end Ml
namespace Ml
open PySem PySem.Spec L2
def view(θ:Za)(H:Hp):Hp:=λa=>if a∈θ then none else H a
theorem dD(h:view θ H a=some o):a∉θ/\H a=some o:=by
 simp_all[view]
theorem eN(h:a∉θ):view θ H a=H a:=if_neg h
theorem ax(θ:Za)(H:Hp):bZ (view θ H) H:=λa o h=>(dD h).2
def pM(M:Hp)(p:PyData×PyData)(q:PyData×Addr×Value):Prop:=p.1=q.1/\aD p.1=true/\p.1.depth<=8/\fw p.1=true/\Rep M p.1 (.ref q.2.1)/\∃v,RelV v q.2.2/\Rep M p.2 v/\fw p.2=true
def fZ(P:Zj)(w:World)(M G:Hp)(a:Addr)(t:Bool)(kvs:Y6):Prop:=
 (t=false/\∃ks,G a=some (.dK ks)/\bP ks=some kvs/\∀p∈kvs,fw p.1=true/\fw p.2=true)\/(t=true/\∃xs,G a=some (dO P w xs a)/\Paired (pM M) kvs xs)
structure Gx where
 P:Zj
 w:World
 mg:Str->Option Value
 K:Zc
def Pb:PyData->V
 |.int i=>.int i
 |.str x=>.str x
 |.bool b=>.bl b
 |_=>.non
noncomputable def IF(K:Zc)(a:Addr)(xs:Y9):Prop:=(∃(o:Obj) (a_:Zh) (n:Nat),K.lookup a=some o/\o.cls=.type "tuple" /\ o.data=.seq a_ n/\a_.size<=sizeLine/\Vals (xs.map Pb) a_.toList)/\(∀x∈xs,(match x with|.int _|.str _|.bool _|.none=>true|_=>false)=true)/\cF xs=true
def Rt(G:Gx)(x:Xc)(cls:Value)(da:Option Addr)(M:Hp):Prop:=G.mg x.cls=some cls/\da=none/\x.args=[]
noncomputable def ck(G:Gx)(θ:Za)(H:Hp):D->V->Prop
 |.dat d,v=>Rep (view θ H) d v/\fw d=true
 |.ref i,v=>∃a,θ[i]?=some a/\v=.ref a
 |.iC t kvs,v=>∃a,v=.ref a/\fZ G.P G.w (view θ H) (view θ H) a t kvs
 |.set _,_=>False
 |.fn n,v=>∃f,G.mg n=some (.ref f)/\v=.ref f
 |.scr ns,v=>∃a,v=.ref a/\iA G.K (view θ H) a (ns.map V.int)
 |.ktup xs,v=>∃a,v=.ref a/\IF G.K a xs
 |.rpr x,v=>v=.str x
 |.exc x,v=>∃a cls,v=.ref a/\view θ H a=some (.ext (LG a cls))/\Rt G x cls none (view θ H)
abbrev bj(G:Gx)(θ:Za)(H:Hp):List D->List V->Prop:=Paired (ck G θ H)
def TabAt(θ:Za)(H:Hp)(P:Addr)(q:Str):Prop:=∃ps:Zh,H P=some (.tbl ps)/\TriplesOk ps.toList/\∀(pos:Pos) (c:Value),codeAmong pos ps.toList=some c->∃b,c=.ref b/\b≠P/\view θ H b=some (.ext (recAt b q))
theorem TabAt.same(s:bZ (view θ H) (view d_ H'))(e:∀o,H P=some o->H' P=some o)(x:TabAt θ H P q):TabAt d_ H' P q:=by obtain⟨ps,h1,h2,h3⟩:=x;exact(ps,e _ h1,h2,λpos c k=>by obtain⟨b,k1,k2,k3⟩:=h3 pos c k;exact(b,k1,k2,s _ _ k3))
def DJ(G:Gx)(θ:Za)(H:Hp)(a:Addr):MO->Prop
 |.lst xs=>∃vs,H a=some (.lst vs)/\bj G θ H xs vs
 |.iC t kvs=>fZ G.P G.w (view θ H) H a t kvs
 |.ins _ _=>False
 |.tab P q=>a=P/\TabAt θ H P q
structure W(G:Gx)(θ:Za)(h:Hm)(H:Hp):Prop where
 len:θ.length=h.length
 nd:θ.Nodup
 obj:∀(i:Nat) (a:Addr) (o:MO),θ[i]?=some a->h[i]?=some o->DJ G θ H a o
def Fr(G:Gx)(θ:Za)(H:Hp)(ρ:Fm)(σ:St):Prop:=ρ.length=σ.length/\∀(i:Nat) (d:D),ρ[i]?=some (some d)->∃v,σ[i]?=some (some v)/\ck G θ H d v
structure Ev(θ:Za)(H:Hp)(d_:Za)(H':Hp):Prop where
 pre:∃ext,d_=θ++ext
 same:bZ (view θ H) (view d_ H')
section
theorem Ev.refl:Ev θ H θ H:=(([],by simp),bZ.refl _)
theorem Ev.trans(a:Ev θ H d_ H')(b:Ev d_ H' θ'' H''):Ev θ H θ'' H'':=by obtain⟨e1,rfl⟩:=a.pre;obtain⟨e2,rfl⟩:=b.pre;exact((e1++e2,by simp),a.same.trans b.same)
theorem Ev.get(a:Ev θ H d_ H'){i:Nat}{x:Addr}(e:θ[i]?=some x):d_[i]?=some x:=by obtain⟨ext,rfl⟩:=a.pre;rw[Vz (by have:=U9.mp e;exact this.1)];exact e
theorem pM.same(s:bZ M M')(h:pM M p q):pM M' p q:=by obtain⟨h1,h2,h3,h4,h5,v,h6,h7,h8⟩:=h;exact(h1,h2,h3,h4,h5.same s,v,h6,h7.same s,h8)
theorem fZ.same{M M' G G':Hp}(s:bZ M M')(h:fZ P w M G a t kvs)(e:∀o,G a=some o->G' a=some o):fZ P w M' G' a t kvs:=by
 rcases h with⟨ht,ks,h1,h2⟩|⟨ht,xs,h1,h2⟩
 ·exact .inl (ht,ks,e _ h1,h2)
 ·exact .inr (ht,xs,e _ h1,Paired.lK h2 λ_ _=>pM.same s)
theorem fZ.some{M G:Hp}(h:fZ P w M G a t kvs):G a≠none:=by
 rcases h with⟨_,ks,h1,_⟩|⟨_,xs,h1,_⟩
 ·grind
 grind
theorem ck.ev(e:Ev θ H d_ H')(r:ck G θ H d v):ck G d_ H' d v:=by
 cases d with
 |dat d=>exact(r.1.same e.same,r.2)
 |ref i=>obtain⟨a,h1,h2⟩:=r;exact(a,e.get h1,h2)
 |iC t kvs=>obtain⟨a,h1,h2⟩:=r;exact(a,h1,h2.same e.same λo=>e.same a o)
 |set xs=>exact r
 |fn n=>exact r
 |scr ns=>obtain⟨a,h1,h2⟩:=r;exact(a,h1,e.same.seq h2)
 |ktup xs=>exact r
 |rpr x=>exact r
 |exc x=>obtain⟨a,c,h1,h2,h3⟩:=r;exact(a,c,h1,e.same _ _ h2,h3)
theorem bj.ev(e:Ev θ H d_ H')(r:bj G θ H ds vs):bj G d_ H' ds vs:=Paired.lK r λ_ _=>ck.ev e
theorem Fr.ev(e:Ev θ H d_ H')(r:Fr G θ H ρ σ):Fr G d_ H' ρ σ:=(r.1,λi d q=>by obtain⟨v,h1,h2⟩:=r.2 i d q;exact(v,h1,h2.ev e))
theorem Fr.set(r:Fr G θ H ρ σ)(q:ck G θ H d v):Fr G θ H (ρ.set i (some d)) (σ.set i (some v)):=by
 refine(by simp[r.1],λj e he=>?_);by_cases hj:i=j
 ·subst hj;by_cases hl:i<ρ.length
  ·rw[WV hl]at he;cases he;exact(v,by rw[WV (by rw[<- r.1];exact hl)],q)
  simp_all
 ·rw[XN hj]at he ⊢;exact r.2 j e he
theorem Fr.replicate(n:Nat)(r:Fr G θ H ρ σ):Fr G θ H (List.replicate n none++ρ) (List.replicate n none++σ):=by
 refine(by simp[r.1],λi d e=>?_);by_cases hi:i<n
 ·rw[Vz (by simp_all),Xo]at e
  grind
 ·rw[VF (by simp;omega)]at e ⊢;simp at e ⊢;exact r.2 _ d e
theorem IG(hp:H p=none)(hn:p∉θ):Ev θ H θ (upd H p o):=(([],by simp),λa u q=>by
 obtain⟨h1,h2⟩:=dD q;rw[eN h1,aQ (br h2 hp)]
 exact h2)
theorem DJ.some(o:MO)(r:DJ G θ H a o):H a≠none:=by
 cases o with
 |lst xs=>obtain⟨vs,e,_⟩:=r;grind
 |iC t kvs=>exact fZ.some r
 |ins=>trivial
 |tab P q=>obtain⟨rfl,ps,e,_⟩:=r;grind
theorem W.IH(w:W G θ h H)(hp:H p=none):p∉θ:=λm=>by
 obtain⟨i,hi,e⟩:=Ws.mp m;have hl:i<h.length:=by rw[<- w.len];exact hi
 exact DJ.some _ (w.obj i p h[i] (by simp_all) (Va hl)) hp
theorem W.put(w:W G θ h H)(hp:H p=none):Ev θ H θ (upd H p o)/\W G θ h (upd H p o)/\view θ (upd H p o) p=some o:=by
 have hn:=w.IH hp;have e:=IG (o:=o) hp hn;refine(e,(w.len,w.nd,λi a m h1 h2=>?_),by rw[eN hn,bD]);have r:=w.obj i a m h1 h2;have ha:a≠p:=λz=>by subst z;exact hn (Vs h1)
 cases m with
 |lst xs=>obtain⟨vs,q1,q2⟩:=r;exact(vs,by rw[aQ ha];exact q1,q2.ev e)
 |iC t kvs=>exact fZ.same e.same r λo q=>by rw[aQ ha];exact q
 |ins=>trivial
 |tab P q=>obtain⟨rfl,x⟩:=r;exact(rfl,x.same e.same λo q=>by rw[aQ ha];exact q)
theorem W.grow(w:W G θ h H)(s:bZ H H'):Ev θ H θ H'/\W G θ h H':=by
 have e:Ev θ H θ H':=(([],by simp),λa u q=>by
  obtain⟨h1,h2⟩:=dD q;rw[eN h1]
  exact s _ _ h2)
 refine(e,(w.len,w.nd,λi a m h1 h2=>?_));have r:=w.obj i a m h1 h2
 cases m with
 |lst xs=>obtain⟨vs,q1,q2⟩:=r;exact(vs,s _ _ q1,q2.ev e)
 |iC t kvs=>exact fZ.same e.same r λo q=>s _ _ q
 |ins=>trivial
 |tab P q=>obtain⟨rfl,x⟩:=r;exact(rfl,x.same e.same λo q=>s _ _ q)
theorem W.alloc(w:W G θ h H)(hp:H p=none)(ho:DJ G (θ++[p]) (upd H p o) p m):Ev θ H (θ++[p]) (upd H p o)/\W G (θ++[p]) (h++[m]) (upd H p o):=by
 have hn:=w.IH hp
 have e:Ev θ H (θ++[p]) (upd H p o):=(([p],rfl),λa u q=>by
  obtain⟨h1,h2⟩:=dD q;have ne:=br h2 hp;rw[eN (by grind),aQ ne]
  exact h2)
 refine(e,(by simp[w.len],?_,λi a m' h1 h2=>?_))
 ·rw[WA];exact(w.nd,by simp,λx hx y hy z=>by grind)
 ·by_cases hi:i<θ.length
  ·rw[Vz hi]at h1;rw[Vz (by rw[<- w.len];exact hi)]at h2;have r:=w.obj i a m' h1 h2;have ha:a≠p:=λz=>by subst z;exact hn (Vs h1)
   cases m' with
   |lst xs=>obtain⟨vs,q1,q2⟩:=r;exact(vs,by rw[aQ ha];exact q1,q2.ev e)
   |iC t kvs=>exact fZ.same e.same r λo q=>by rw[aQ ha];exact q
   |ins=>exact r.elim
   |tab P q=>obtain⟨rfl,x⟩:=r;exact(rfl,x.same e.same λo q=>by rw[aQ ha];exact q)
  ·rw[VF #[1]]at h1;rw[VF (by rw[<- w.len];omega),<- w.len]at h2
   cases hk:i-θ.length with
   |zero=>rw[hk]at h1 h2;simp at h1 h2;subst h1;subst h2;exact ho
   |succ k=>rw[hk]at h1;simp at h1
theorem W.write(w:W G θ h H)(hi:θ[i]?=some p)(hl:i<h.length)(ho:DJ G θ (upd H p o) p m):Ev θ H θ (upd H p o)/\W G θ (h.set i m) (upd H p o):=by
 have hm:p∈θ:=Vs hi
 have e:Ev θ H θ (upd H p o):=(([],by simp),λa u q=>by
  obtain⟨h1,h2⟩:=dD q;have ne:a≠p:=λz=>by grind
  simp_all[eN,h1,aQ,ne])
 refine(e,(by simp[w.len],w.nd,λj a m' h1 h2=>?_));by_cases hj:i=j
 ·simp_all
 ·rw[XN hj]at h2
  have ha:a≠p:=λz=>by
   subst z;obtain⟨l1,e1⟩:=U9.mp hi;obtain⟨l2,e2⟩:=U9.mp h1;have pw:=W7.mp w.nd;rcases Nat.lt_or_gt_of_ne hj with z|z
   ·exact pw i j l1 l2 z (e1.trans e2.symm)
   ·exact pw j i l2 l1 z (e2.trans e1.symm)
  have r:=w.obj j a m' h1 h2
  cases m' with
  |lst xs=>obtain⟨vs,q1,q2⟩:=r;exact(vs,by rw[aQ ha];exact q1,q2.ev e)
  |iC t kvs=>exact fZ.same e.same r λo q=>by rw[aQ ha];exact q
  |ins=>exact r.elim
  |tab P q=>obtain⟨rfl,x⟩:=r;exact(rfl,x.same e.same λo q=>by rw[aQ ha];exact q)
end
abbrev XP:=Xc->Za->Hm->Hp->Prop
def aG{α:Type}(G:Gx)(E:XP)(θ:Za)(H:Hp):R α->(α->Za->Hm->Hp->Prop)->Prop
 |.ok a h',K=>∀d_ H',Ev θ H d_ H'->W G d_ h' H'->K a d_ h' H'
 |.exc x h',_=>∀d_ H',Ev θ H d_ H'->W G d_ h' H'->E x d_ h' H'
 |.bad,_=>False
section
theorem aG.mono(p:aG G E θ H r K)(k:∀a d_ h' H',Ev θ H d_ H'->W G d_ h' H'->K a d_ h' H'->K' a d_ h' H'):aG G E θ H r K':=by
 cases r with
 |ok a h'=>exact λd_ H' e w=>k _ _ _ _ e w (p d_ H' e w)
 |exc x h'=>exact p
 |bad=>exact p
theorem aG.later(p:aG G E θ H r K)(e:Ev θ H d_ H'):aG G E d_ H' r K:=by
 cases r with
 |ok a h'=>exact λq_ H2 e2 w=>p q_ H2 (e.trans e2) w
 |exc x h'=>exact λq_ H2 e2 w=>p q_ H2 (e.trans e2) w
 |bad=>exact p
theorem aG.bind(p:aG G E θ H (r.bind f) L):aG G E θ H r λa b_ h1 H1=>Ev θ H b_ H1/\W G b_ h1 H1/\aG G E b_ H1 (f a h1) L:=by
 cases r with
 |ok a h'=>exact λb_ H1 e w=>(e,w,aG.later p e)
 |exc x h'=>exact p
 |bad=>exact p
end
def qr(G:Gx)(E:XK):XP:=λx θ _ H=>∀cls da,Rt G x cls da (view θ H)->E cls da H
def KV(G:Gx)(Q:VK):D->Za->Hm->Hp->Prop:=λd θ _ H=>∀v,ck G θ H d v->Q v H
def UQ(G:Gx)(Q:List V->Hp->Prop):List D->Za->Hm->Hp->Prop:=λds θ _ H=>∀vs,bj G θ H ds vs->Q vs H
def KS(G:Gx)(C:Ends):Fl->Za->Hm->Hp->Prop:=λf θ _ H=>match f with
 |.nx ρ=>∀σ,Fr G θ H ρ σ->C.nx σ H
 |.rt d=>∀v,ck G θ H d v->C.rt v H
 |.bk ρ=>∀σ,Fr G θ H ρ σ->C.bk σ H
 |.ct ρ=>∀σ,Fr G θ H ρ σ->C.ct σ H
def lE(G:Gx)(E:XK)(m:ME):TE:=λσ H Q=>∃θ h ρ,W G θ h H/\Fr G θ H ρ σ/\aG G (qr G E) θ H (m ρ h) (KV G Q)
def lT(G:Gx)(E:XK)(m:MT):TT:=λσ H Q=>∃θ h ρ,W G θ h H/\Fr G θ H ρ σ/\aG G (qr G E) θ H (m ρ h) (λb _ _ H'=>Q b H')
def lA(G:Gx)(E:XK)(m:MA):TA:=λσ H Q=>∃θ h ρ,W G θ h H/\Fr G θ H ρ σ/\aG G (qr G E) θ H (m ρ h) (UQ G Q)
def lS(G:Gx)(E:XK)(m:MS):TS:=λC σ H=>∃θ h ρ,W G θ h H/\Fr G θ H ρ σ/\aG G (qr G E) θ H (m ρ h) (KS G C)
def lG(G:Gx)(E:XK)(g:MG):TG:=λv σ H Q=>∃θ h ρ d,W G θ h H/\Fr G θ H ρ σ/\ck G θ H d v/\aG G (qr G E) θ H (g d ρ h) (λs_ d_ _ H'=>∀j_,Fr G d_ H' s_ j_->Q j_ H')
abbrev _root_.L2.Cx.G(X:Cx):Gx:=(X.prog,X.w,X.mg,X.K)
@[irreducible] noncomputable def DE(X:Cx)(E:XK)(m:ME)(e:Expr):Prop:=PE X e (lE X.G E m)
theorem bG(X:Cx)(E:XK)(m:ME)(e:Expr):DE X E m e=(PE X e (lE X.G E m)):=by
 grind[DE]
@[irreducible] noncomputable def DT(X:Cx)(E:XK)(m:MT)(e:Expr):Prop:=PT X e (lT X.G E m)
theorem kT(X:Cx)(E:XK)(m:MT)(e:Expr):DT X E m e=(PT X e (lT X.G E m)):=by
 grind[DT]
@[irreducible] noncomputable def DA(X:Cx)(E:XK)(m:MA)(es:Ze):Prop:=PA X es (lA X.G E m)
theorem iF(X:Cx)(E:XK)(m:MA)(es:Ze):DA X E m es=(PA X es (lA X.G E m)):=by
 grind[DA]
@[irreducible] noncomputable def DS(X:Cx)(E:XK)(m:MS)(s:Stmt):Prop:=PS X s (lS X.G E m)
theorem gQ(X:Cx)(E:XK)(m:MS)(s:Stmt):DS X E m s=(PS X s (lS X.G E m)):=by
 grind[DS]
@[irreducible] noncomputable def Ff(X:Cx)(E:XK)(m:MS)(s:List Stmt):Prop:=A6 X s (lS X.G E m)
theorem ng(X:Cx)(E:XK)(m:MS)(s:List Stmt):Ff X E m s=(A6 X s (lS X.G E m)):=by
 grind[Ff]
@[irreducible] noncomputable def DG(X:Cx)(E:XK)(m:MG)(e:Expr):Prop:=PG X e (lG X.G E m)
theorem kU(X:Cx)(E:XK)(m:MG)(e:Expr):DG X E m e=(PG X e (lG X.G E m)):=by
 grind[DG]
theorem PE.imp(h:PE X e t)(k:∀σ H Q,t' σ H Q->t σ H Q):PE X e t':=λpins s σ H Q I q=>h pins s σ H Q I (k _ _ _ q)
theorem PT.imp(h:PT X e t)(k:∀σ H Q,t' σ H Q->t σ H Q):PT X e t':=λpins s σ H Q I q=>h pins s σ H Q I (k _ _ _ q)
theorem PA.imp(h:PA X e t)(k:∀σ H Q,t' σ H Q->t σ H Q):PA X e t':=λpos pins s σ H Q I q=>h pos pins s σ H Q I (k _ _ _ q)
theorem PS.imp(h:PS X e t)(k:∀C σ H,t' C σ H->t C σ H):PS X e t':=λpins s σ H C I q=>h pins s σ H C I (k _ _ _ q)
theorem A6.imp(h:A6 X e t)(k:∀C σ H,t' C σ H->t C σ H):A6 X e t':=λpins s σ H C I q=>h pins s σ H C I (k _ _ _ q)
def Pd(G:Gx)(E:XK)(f:D->D->Hm->R D):R2:=λx y H Q=>∃θ h d1 d2,W G θ h H/\ck G θ H d1 x/\ck G θ H d2 y/\aG G (qr G E) θ H (f d1 d2 h) (KV G Q)
def Uq(G:Gx)(E:XK)(f:Fn):List V->Hp->VK->Prop:=λxs H Q=>∃θ h ds,W G θ h H/\bj G θ H ds xs/\aG G (qr G E) θ H (f ds h) (KV G Q)
def qP(X:Cx)(E:XK)(op:Value->Value->Sem Value)(f:D->D->Hm->R D):Prop:=jU X op (Pd X.G E f)
def qt(X:Cx)(E:XK)(v:Value)(f:Fn):Prop:=dB X v (Uq X.G E f)
theorem jU.imp(h:jU X op r)(k:∀x y H Q,r' x y H Q->r x y H Q):jU X op r':=λpins s σ H x y v u Q I rx ry q=>h pins s σ H x y v u Q I rx ry (k _ _ _ _ q)
theorem dB.imp(h:dB X f r)(k:∀xs H Q,r' xs H Q->r xs H Q):dB X f r':=λpins s σ H xs us Q I r q=>h pins s σ H xs us Q I r (k _ _ _ q)
theorem qP.of(h:jU X op r)
 (k:∀θ hm H d1 d2 x y Q,W X.G θ hm H->ck X.G θ H d1 x->ck X.G θ H d2 y->aG X.G (qr X.G E) θ H (f d1 d2 hm) (KV X.G Q)->r x y H Q):qP X E op f:=
 jU.imp h (by rintro x y H Q ⟨θ,hm,d1,d2,w,r1,r2,p⟩;exact k θ hm H d1 d2 x y Q w r1 r2 p)
theorem qt.of(h:dB X v r)
 (k:∀θ hm H ds xs Q,W X.G θ hm H->bj X.G θ H ds xs->aG X.G (qr X.G E) θ H (f ds hm) (KV X.G Q)->r xs H Q):qt X E v f:=
 dB.imp h (by rintro xs H Q ⟨θ,hm,ds,w,r1,p⟩;exact k θ hm H ds xs Q w r1 p)
section
theorem Pe(hN:X.N[i]?=some x)(hv:Hx X.env.scope x)(hd:(x==("__debug__" : Str))=false:=by decide)(KF:(x==("__classdict__" : Str))=false:=by decide):DE X E (aa i) (.Name x pos):=by
 simp only[bG]at *
 exact PE.imp (NY hN hv hd KF) (by
   rintro σ H Q ⟨θ,h,ρ,w,fr,p⟩;unfold aa at p
   cases e:ρ[i]? with
   |none=>rw[e]at p;exact p.elim
   |some o=>
    cases o with
    |none=>rw[e]at p;exact p.elim
    |some d=>
     rw[e]at p;obtain⟨v,h1,h2⟩:=fr.2 i d e
     exact(v,h1,p θ H Ev.refl w v h2))
theorem II(h:PE X e (tC v))(r:∀G,Rep G d v)(s:fw d=true):DE X E (ak d) e:=by simp[bG]at *;exact PE.imp h (by rintro σ H Q ⟨θ,hm,ρ,w,fr,p⟩;exact p θ H Ev.refl w v (r _,s))
theorem aE:DE X E (ak (.int k)) (.Constant (.int k) j pos):=II Hy (λ_=>rfl) (by rfl)
theorem cV:DE X E (ak (.bool k)) (.Constant (.bool k) j pos):=II Ng (λ_=>rfl) (by rfl)
theorem Fg:DE X E (ak .none) (.Constant .none j pos):=II Hz (λ_=>rfl) (by rfl)
theorem pN(h:PyData.strOk k=true:=by decide +kernel):DE X E (ak (.str k)) (.Constant (.str k) j pos):=II HA (λ_=>rfl) (by trivial)
theorem zR(h:lE G E (ah f a b) σ H Q):QU (Pd G E f) (lE G E a) (lE G E b) σ H Q:=by obtain⟨θ,h,ρ,w,fr,p⟩:=h;refine(θ,h,ρ,w,fr,(aG.bind p).mono λx b_ h1 H1 _ _ ⟨e1,w1,p1⟩ v r1=>?_);exact(b_,h1,ρ,w1,fr.ev e1,(aG.bind p1).mono (by rintro y q_ h2 H2 _ _ ⟨e2,w2,p2⟩ u r2;exact(q_,h2,x,y,w2,r1.ev e2,r2,p2)))
theorem Fh(h:lE G E (ag f ma) σ H Q):Te (Uq G E f) (lA G E ma) σ H Q:=by obtain⟨θ,h,ρ,w,fr,p⟩:=h;exact(θ,h,ρ,w,fr,(aG.bind p).mono (by rintro xs b_ h1 H1 _ _ ⟨e1,w1,p1⟩ vs r1;exact(b_,h1,xs,w1,r1,p1)))
theorem bB(h:qP X E (binaryOp op) f)(ha:DE X E a e1)(hb:DE X E b e2):DE X E (ah f a b) (.BinOp e1 op e2 pos):=by simp[bG]at *;exact PE.imp (Nh h ha hb) λ_ _ _=>zR
theorem eI(h:qP X E (compareOp op) f)(ha:DE X E a e1)(hb:DE X E b e2)(hm:behindInMarks op e2=false):DE X E (ah f a b) (.Compare e1 [op] [e2] pos):=by simp[bG]at *;exact PE.imp (KY h ha hb hm) λ_ _ _=>zR
theorem cA(h:Qy X (Pd X.G E f))(ha:DE X E a e1)(hb:DE X E b e2)(hs:ES e2):DE X E (ah f a b) (.Subscript e1 e2 pos):=by simp[bG]at *;exact PE.imp (Ra h ha hb hs) λ_ _ _=>zR
theorem zS(h:lT G E (aJ m) σ H Q):lE G E m σ H λx H'=>∃k,x=.bl k/\Q k H':=by
 obtain⟨θ,h,ρ,w,fr,p⟩:=h;refine(θ,h,ρ,w,fr,(aG.bind p).mono λx b_ h1 H1 _ _ ⟨e1,w1,p1⟩ v r1=>?_)
 cases x with
 |dat d=>
  cases d with
  |bool k=>exact(k,r1.1,p1 b_ H1 Ev.refl w1)
  |_=>trivial
 |_=>trivial
theorem aV(h:qP X E (compareOp op) f)(ha:DE X E a e1)(hb:DE X E b e2)(hm:behindInMarks op e2=false):DT X E (aJ (ah f a b)) (.Compare e1 [op] [e2] pos):=by simp[bG,kT]at *;exact PT.imp (KZ h ha hb hm) λ_ _ _ q=>zR (zS q)
@[irreducible] noncomputable def DW(X:Cx)(E:XK)(t:MT)(e:Expr):Prop:=PW X e (lT X.G E t)
theorem Bu(X:Cx)(E:XK)(t:MT)(e:Expr):DW X E t e=(PW X e (lT X.G E t)):=by
 grind[DW]
theorem DW.dt(h:DW X E t e):DT X E t e:=by simp[kT,Bu]at *;exact PW.pt h
theorem PW.imp{t t':TT}(h:PW X e t)(k:∀σ H Q,t' σ H Q->t σ H Q):PW X e t':=λwh pins s σ H Q I q=>h wh pins s σ H Q I (k _ _ _ q)
theorem j6(ha:DT X E t e):DW X E t (.BoolOp .And [e] pos):=by simp[kT,Bu]at *;exact KN ha
theorem jq(ha:DT X E t e):DW X E t (.BoolOp .Or [e] pos):=by simp[kT,Bu]at *;exact NZ ha
theorem nh(ha:DT X E t e1)(hb:DW X E u (.BoolOp .And (e2::es) pos)):DW X E (lM t u) (.BoolOp .And (e1::e2::es) pos):=by
 simp[kT,Bu]at *
 exact PW.imp (N0 ha hb) (by rintro σ H Q ⟨θ,h,ρ,w,fr,p⟩;exact(θ,h,ρ,w,fr,(aG.bind p).mono (by
   rintro c b_ h1 H1 _ _ ⟨ev,w1,p1⟩
   cases c with
   |true=>exact(b_,h1,ρ,w1,fr.ev ev,p1)
   |false=>exact p1 b_ H1 Ev.refl w1)))
theorem mP(ha:DT X E t e1)(hb:DW X E u (.BoolOp .Or (e2::es) pos)):DW X E (sj t u) (.BoolOp .Or (e1::e2::es) pos):=by
 simp[kT,Bu]at *
 exact PW.imp (QL ha hb) (by rintro σ H Q ⟨θ,h,ρ,w,fr,p⟩;exact(θ,h,ρ,w,fr,(aG.bind p).mono (by
   rintro c b_ h1 H1 _ _ ⟨ev,w1,p1⟩
   cases c with
   |true=>exact p1 b_ H1 Ev.refl w1
   |false=>exact(b_,h1,ρ,w1,fr.ev ev,p1))))
theorem fS(ha:DT X E t e):DT X E (gm t) (.UnaryOp .Not e pos):=by simp[kT]at *;exact PT.imp (N3 ha) (by rintro σ H Q ⟨θ,h,ρ,w,fr,p⟩;exact(θ,h,ρ,w,fr,(aG.bind p).mono (by rintro c b_ h1 H1 _ _ ⟨ev,w1,p1⟩;exact p1 b_ H1 Ev.refl w1)))
theorem ni(h:DE X E m e):DE X E m (.BoolOp op [e] pos):=by simp[bG]at *;exact N4 h
theorem Pf(ha:DE X E a e):DE X E (LM a) (.UnaryOp .Not e pos):=by simp[bG]at *;exact PE.imp (N5 ha) (by rintro σ H Q ⟨θ,h,ρ,w,fr,p⟩;exact zS (θ,h,ρ,w,fr,(aG.bind p).mono (by rintro c b_ h1 H1 _ _ ⟨ev,w1,p1⟩;exact p1 b_ H1 Ev.refl w1 _ (rfl,by rfl))))
theorem Fi(hc:DT X E t e1)(ha:DE X E a e2)(hb:DE X E b e3):DE X E (Hr t a b) (.IfExp e1 e2 e3 pos):=by
 simp[bG,kT]at *
 exact PE.imp (HB hc ha hb) (by rintro σ H Q ⟨θ,h,ρ,w,fr,p⟩;exact(θ,h,ρ,w,fr,(aG.bind p).mono (by
   rintro c b_ h1 H1 _ _ ⟨ev,w1,p1⟩
   cases c with
   |true=>exact(b_,h1,ρ,w1,fr.ev ev,p1)
   |false=>exact(b_,h1,ρ,w1,fr.ev ev,p1))))
theorem aj:DA X E ai []:=by simp[iF]at *;exact PA.imp zx (by rintro σ H Q ⟨θ,h,ρ,w,fr,p⟩;exact p θ H Ev.refl w _ .nil)
theorem ae(ha:DE X E m e)(hr:DA X E ma es)(hs:starEach (e::es) X.env=(false,eval e X.env)::starEach es X.env:=by rfl):DA X E (ab m ma) (e::es):=by simp[bG,iF]at *;exact PA.imp (qy ha hr hs) (by rintro σ H Q ⟨θ,h,ρ,w,fr,p⟩;exact(θ,h,ρ,w,fr,(aG.bind p).mono (by rintro x b_ h1 H1 _ _ ⟨ev,w1,p1⟩ v r1;exact(b_,h1,ρ,w1,fr.ev ev,(aG.bind p1).mono (by rintro xs q_ h2 H2 _ _ ⟨C_,w2,p2⟩ vs r2;exact p2 q_ H2 Ev.refl w2 _ (.cons (r1.ev C_) r2))))))
theorem oE:∀{xs:List D} {vs:List V} {ds:Y9},bj G θ H xs vs->jm xs=some ds->bu (view θ H) ds vs/\cF ds=true
 | [],_,ds,.nil,e=>by cases e;exact(rfl,by rfl)
 |x::xs,_,ds,.cons r rs,e=>by
  unfold jm at e
  cases x with
  |dat d=>
   cases e2:jm xs with
   |none=>simp_all
   |some i_=>simp[D.data,e2]at e;subst e;obtain⟨h1,h2⟩:=oE rs e2;exact(.cons r.1 h1,by simp[cF,r.2,h2])
  |_=>trivial
theorem zT:∀{ds:Y9} {vs:List V},bu (view θ H) ds vs->cF ds=true->bj G θ H (ds.map D.dat) vs
 | [],_,h,_=>by cases h;exact .nil
 |d::ds,_,(v,vs,e,r,rs),s=>by subst e;simp[cF]at s;exact .cons (r,s.1) (zT rs s.2)
theorem dP(h:kQ n=true):n<=sizeLine:=by
 have:=Wz h
 simp_all[Xg]
theorem sF:∀{xs:List D} {ds:Y9},jm xs=some ds->ds.length=xs.length
 | [],ds,e=>by cases e;rfl
 |x::xs,ds,e=>by
  unfold jm at e
  cases e1:x.data with
  |none=>simp_all
  |some d=>
   cases e2:jm xs with
   |none=>simp_all
   |some i_=>rw[e1,e2]at e;cases e;simp[sF e2]
theorem fT(h:DA X E ma es):DE X E (cW ma) (.Tuple es x1 pos):=by
 simp only[bG,iF]at *
 exact PE.imp (Dn h) (by rintro σ H Q ⟨θ,h,ρ,w,fr,p⟩;exact(θ,h,ρ,w,fr,(aG.bind p).mono (by
   rintro xs b_ h1 H1 _ _ ⟨ev,w1,p1⟩ vs r1;unfold yC at p1
   cases e:jm xs with
   |none=>rw[e]at p1;exact p1.elim
   |some ds=>
    rw[e]at p1;simp only at p1;split at p1
    ·rename_i hz;have hl:vs.length=xs.length:=(Vo r1).symm;refine(by rw[hl,<- sF e];exact dP hz,λq hq=>?_);obtain⟨e1,w2,g⟩:=w1.put (o:=.tup vs) hq;obtain⟨h1,h2⟩:=oE r1 e;exact p1 _ _ e1 w2 _ ((q,vs,rfl,g,h1.same e1.same),by assumption)
    ·trivial)))
theorem zU(h:DA X E ma es):DE X E (pH ma) (.List es pos):=by
 simp only[bG,iF]at *
 exact PE.imp (Dp h) (by rintro σ H Q ⟨θ,h,ρ,w,fr,p⟩;exact(θ,h,ρ,w,fr,(aG.bind p).mono (by
   rintro xs b_ h1 H1 _ _ ⟨ev,w1,p1⟩ vs r1;unfold qH at p1
   cases e:jm xs with
   |none=>rw[e]at p1;exact p1.elim
   |some ds=>
    rw[e]at p1;simp only at p1;split at p1
    ·rename_i hz;have hl:vs.length=xs.length:=(Vo r1).symm;refine(by rw[hl,<- sF e];exact dP hz,λq hq=>?_);obtain⟨e1,w2,g⟩:=w1.put (o:=.lst vs) hq;obtain⟨h1,h2⟩:=oE r1 e;exact p1 _ _ e1 w2 _ ((q,vs,rfl,g,h1.same e1.same),by assumption)
    ·trivial)))
theorem W.Pg(w:W G θ h H)(r:bj G θ H xs vs)(hp:H p=none) :
  Ev θ H (θ++[p]) (upd H p (.lst vs))/\W G (θ++[p]) (h++[.lst xs]) (upd H p (.lst vs))/\ck G (θ++[p]) (upd H p (.lst vs)) (.ref h.length) (.ref p):=by
 have e:Ev θ H _ (upd H p (.lst vs)):=(([p],rfl),λa u q=>by
  obtain⟨h1,h2⟩:=dD q;have ne:=br h2 hp;rw[eN (by grind),aQ ne]
  exact h2)
 obtain⟨e1,w1⟩:=w.alloc (m:=.lst xs) hp (vs,bD,r.ev e);exact(e1,w1,p,by simp_all[w.len],rfl)
theorem vB(h:DA X E ma es):DE X E (vo ma) (.List es pos):=by
 simp[bG,iF]at *
 exact PE.imp (Dp h) (by rintro σ H Q ⟨θ,h,ρ,w,fr,p⟩;exact(θ,h,ρ,w,fr,(aG.bind p).mono (by
   rintro xs b_ h1 H1 _ _ ⟨ev,w1,p1⟩ vs r1;unfold vn at p1;split at p1
   ·rename_i hz;have hl  := (Vo r1).symm;refine(by rw[hl];exact dP hz,λq hq=>?_);obtain⟨e1,w2,g⟩:=w1.Pg r1 hq;exact p1 _ _ e1 w2 _ g
   ·trivial)))
theorem IJ{id:String}(hc:qt X E (.builtin id) f)(hg:Gl X x)(hm:X.mg x=none)(hv:bootBuiltins x=some (.builtin id)){p:Pos}(ha:DA X E ma (e::es))(hn:x ≠ "__name__" := by decide)(x_:(x==("__debug__" : Str))=false:=by decide)
 (he:starEach (e::es) X.env=(false,eval e X.env)::starEach es X.env:=by rfl)(t_:(backTo pos (starEach es X.env)).any (·.1)=false:=by rfl):DE X E (ag f ma) (.Call (.Name x p) (e::es) [] pos):=by
 simp only[bG,iF]at *;exact PE.imp (Ba hc hg hm hv ha hn x_ he t_) λ_ _ _=>Fh
theorem GP(hc:qt X E (.type T) f)(hg:Gl X x)(hm:X.mg x=none)(hv:bootBuiltins x=some (.type T)){p:Pos}(ha:DA X E ma (e::es))(hn:x ≠ "__name__" := by decide)(x_:(x==("__debug__" : Str))=false:=by decide)
 (he:starEach (e::es) X.env=(false,eval e X.env)::starEach es X.env:=by rfl)(t_:(backTo pos (starEach es X.env)).any (·.1)=false:=by rfl):DE X E (ag f ma) (.Call (.Name x p) (e::es) [] pos):=by
 simp only[bG,iF]at *;exact PE.imp (Gw hc hg hm hv ha hn x_ he t_) λ_ _ _=>Fh
end
section
variable {i:Nat}
theorem bX:Ff X E cz []:=by simp[ng]at *;exact A6.imp KO (by rintro C σ H ⟨θ,h,ρ,w,fr,p⟩;exact p θ H Ev.refl w σ fr)
theorem aq(h:DS X E a st):Ff X E a [st]:=by simp[gQ,ng]at *;exact KP h
theorem ao(h1:DS X E a st)(h2:Ff X E b ss):Ff X E (aU a b) (st::ss):=by
 simp[gQ,ng]at *
 exact A6.imp (HC h1 h2) (by rintro C σ H ⟨θ,h,ρ,w,fr,p⟩;exact(θ,h,ρ,w,fr,(aG.bind p).mono (by
   rintro f b_ h1 H1 _ _ ⟨ev,w1,p1⟩
   cases f with
   |nx c_=>exact λσ1 fr1=>(b_,h1,c_,w1,fr1,p1)
   |rt d=>exact p1 b_ H1 Ev.refl w1
   |bk c_=>exact p1 b_ H1 Ev.refl w1
   |ct c_=>exact p1 b_ H1 Ev.refl w1)))
theorem j7(he:DE X E m e)(hs:swapsWith e none pos.line X.env=pure false:=by rfl):DS X E (gP m) (.Expr e pos):=by simp[bG,gQ]at *;exact PS.imp (KQ he hs) (by rintro C σ H ⟨θ,h,ρ,w,fr,p⟩;exact(θ,h,ρ,w,fr,(aG.bind p).mono (by rintro d b_ h1 H1 _ _ ⟨ev,w1,p1⟩ v _;exact p1 b_ H1 Ev.refl w1 σ (fr.ev ev))))
theorem aT(he:DE X E m e):DS X E (bU m) (.Return (some e) pos):=by simp[bG,gQ]at *;exact PS.imp (N6 he) (by rintro C σ H ⟨θ,h,ρ,w,fr,p⟩;exact(θ,h,ρ,w,fr,(aG.bind p).mono (by rintro d b_ h1 H1 _ _ ⟨ev,w1,p1⟩ v r;exact p1 b_ H1 Ev.refl w1 v r)))
theorem eO(hc:DT X E t e)(ha:Ff X E a ss)(hb:Ff X E b ss'):DS X E (lV t a b) (.If e ss ss' pos):=by
 simp[kT,gQ,ng]at *
 exact PS.imp (QP hc ha hb) (by rintro C σ H ⟨θ,h,ρ,w,fr,p⟩;exact(θ,h,ρ,w,fr,(aG.bind p).mono (by
   rintro c b_ h1 H1 _ _ ⟨ev,w1,p1⟩
   cases c with
   |true=>exact(b_,h1,ρ,w1,fr.ev ev,p1)
   |false=>exact(b_,h1,ρ,w1,fr.ev ev,p1))))
theorem LO(hN:X.N.Nodup)(hi:X.N[i]?=some x)(hx:Loc X.env.scope x)(hf:X.fn x=true\/X.env.scope.names.lookup x=some .local:=by first|exact .inl rfl|exact .inr rfl|assumption):DG X E (af i) (.Name x pos):=by simp[kU]at *;exact by rintro pins s σ H v u Q I r ⟨θ,h,ρ,d,w,fr,rd,p⟩;exact KR hN hi hx hf pins s σ H v u Q I r (p θ H Ev.refl w _ (fr.set rd))
def Ur(G:Gx)(E:XK)(g:Hs):Qv:=λvs σ H Q=>∃θ h ρ ds,W G θ h H/\Fr G θ H ρ σ/\bj G θ H ds vs/\aG G (qr G E) θ H (g ds ρ h) (λs_ d_ _ H'=>∀j_,Fr G d_ H' s_ j_->Q j_ H')
@[irreducible] noncomputable def Ph(X:Cx)(E:XK)(m:Hs)(es:Ze):Prop:=Qw X es (Ur X.G E m)
theorem zV(X:Cx)(E:XK)(m:Hs)(es:Ze):Ph X E m es=(Qw X es (Ur X.G E m)):=by
 grind[Ph]
theorem dQ:Ph X E gn []:=by
 simp[zV]at *
 exact by
  rintro pins s σ H vs us Q I r ⟨θ,h,ρ,ds,w,fr,rd,p⟩
  cases rd with
  |nil=>exact KU pins s σ H [] us Q I r (rfl,p θ H Ev.refl w σ fr)
  |cons=>trivial
theorem bf(h1:DG X E g e)(h2:Ph X E gs es)(hs:(assignEach (e::es) X.env).map (·.2)=assign e X.env::(assignEach es X.env).map (·.2):=by rfl):Ph X E (bA g gs) (e::es):=by
 simp[kU,zV]at *
 exact by
   rintro pins s σ H vs us Q I r ⟨θ,h,ρ,ds,w,fr,rd,p⟩
   cases rd with
   |nil=>trivial
   |cons r1 rr=>exact HD h1 h2 hs pins s σ H _ us Q I r (_,_,rfl,θ,h,ρ,_,w,fr,r1,(aG.bind p).mono (by rintro c_ b_ h1 H1 _ _ ⟨ev,w1,p1⟩ σ1 fr1;exact(b_,h1,c_,_,w1,fr1,bj.ev ev rr,p1)))
theorem jb(r:ck G θ H (.dat (.tuple ds)) v):∃a xs,v=.ref a/\view θ H a=some (.tup xs)/\bu (view θ H) ds xs/\bj G θ H (ds.map D.dat) xs:=by obtain⟨⟨a,xs,e,ha,rr⟩,s⟩:=r;exact(a,xs,e,ha,rr,zT rr (by assumption))
theorem fL(r:ck G θ H (.dat (.list ds)) v):∃a xs,v=.ref a/\view θ H a=some (.lst xs)/\bu (view θ H) ds xs/\bj G θ H (ds.map D.dat) xs:=by obtain⟨⟨a,xs,e,ha,rr⟩,s⟩:=r;exact(a,xs,e,ha,rr,zT rr (by assumption))
@[irreducible] noncomputable def yH(gs:Hs)(n:Nat):Prop:=∀xs ρ h,xs.length≠n->gs xs ρ h=.bad
theorem vC(gs:Hs)(n:Nat):yH gs n=(∀xs ρ h,xs.length≠n->gs xs ρ h=.bad):=by
 grind[yH]
theorem cP:yH gn 0:=by
 simp[vC]at *
 exact λxs ρ h ne=>by
  cases xs with
  |nil=>grind
  |cons=>rfl
theorem aR{g:Nat}(t:yH gs n):yH (bA (af g) gs) (n+1):=by
 simp[vC]at *
 exact λxs ρ h ne=>by
  cases xs with
  |nil=>rfl
  |cons x xs=>simp_all[bA,af]
theorem gZ{k n:Nat}(hc:X.calm=true)(h:Ph X E gs es)(tk:yH gs n)(hn:(assignEach es X.env).length=n:=by rfl)(Zt:(assignEach es X.env).findIdx? (·.1)=none:=by rfl):DG X E (iB gs) (.Tuple es k pos):=by
 simp only[kU,zV,vC]at *
 exact by
   rintro pins s σ H v u Q I r ⟨θ,hm,ρ,d,w,fr,rd,p⟩
   cases d with
   |dat d=>
    cases d with
    |tuple ds=>
     obtain⟨a,xs,e,ha,rr,rr2⟩:=jb rd
     have hl:xs.length=n:=by
      have h1:xs.length=ds.length:=rr.length;by_cases z:ds.length=n
      ·grind
      ·have p':=p;simp only[iB]at p';rw[tk (ds.map D.dat) ρ hm (by grind)]at p';exact p'.elim
     exact HE (n:=n) hc h hn Zt pins s σ H v u Q I r (a,xs,e,i8.of (ax _ _ _ _ ha),hl,θ,hm,ρ,_,w,fr,rr2,p)
    |_=>trivial
   |_=>exact p.elim
theorem Pj(hN:X.N.Nodup)(hi:X.N[i]?=some x)(hx:Loc X.env.scope x)(he:DE X E m e)(hs:swapsWith e (some (.Name x pos')) pos.line X.env=pure false:=by rfl)(hf:X.fn x=true\/X.env.scope.names.lookup x=some .local:=by first|exact .inl rfl|exact .inr rfl|assumption) :
  DS X E (bC i m) (.Assign [.Name x pos'] e pos):=by
 simp[bG,gQ]at *;exact PS.imp (N9 hN hi hx he hs hf) (by rintro C σ H ⟨θ,h,ρ,w,fr,p⟩;exact(θ,h,ρ,w,fr,(aG.bind p).mono (by rintro d b_ h1 H1 _ _ ⟨ev,w1,p1⟩ v r;exact p1 b_ H1 Ev.refl w1 _ ((fr.ev ev).set r))))
theorem nj(he:DE X E m e)(hg:DG X E g tg)(hs:swapsWithSole [tg] e pos.line X.env=pure false:=by rfl)(hw:swappedStores [tg] e X.env=pure none:=by rfl)
 (h1:(assignEach [tg] X.env).map (·.2)=[assign tg X.env]:=by rfl):DS X E (oY g m) (.Assign [tg] e pos):=by
 simp only[bG,gQ,kU]at *;exact PS.imp (HF he hg hs hw h1) (by rintro C σ H ⟨θ,h,ρ,w,fr,p⟩;exact(θ,h,ρ,w,fr,(aG.bind p).mono (by rintro d b_ h1 H1 _ _ ⟨ev,w1,p1⟩ v r;exact(b_,h1,ρ,d,w1,fr.ev ev,r,(aG.bind p1).mono (by rintro c_ q_ h2 H2 _ _ ⟨C_,w2,p2⟩ w_ fr2;exact p2 q_ H2 Ev.refl w2 w_ fr2)))))
theorem LP(h:PS X st (QR i j (lA X.G E ma))):DS X E (zL [i,j] ma) st:=by
 simp[gQ]at *
 exact PS.imp h (by rintro C σ H ⟨θ,h,ρ,w,fr,p⟩;exact(θ,h,ρ,w,fr,(aG.bind p).mono (by
   rintro ds b_ h1 H1 _ _ ⟨ev,w1,p1⟩ vs r
   cases r with
   |nil=>trivial
   |cons r1 rr=>
    cases rr with
    |nil=>trivial
    |cons r2 rr=>
     cases rr with
     |nil=>exact(_,_,rfl,p1 b_ H1 Ev.refl w1 _ (((fr.ev ev).set r1).set r2))
     |cons=>trivial)))
def o4(G:Gx)(θ:Za)(H:Hp)(xs:List D)(J:It):Prop:=∀d_ h' H',Ev θ H d_ H'->W G d_ h' H' ->
 (∀(i:Nat) (d:D),xs[i]?=some d->J.go i H'/\∀x H2,J.yld i H' x H2->Ev d_ H' d_ H2/\W G d_ h' H2/\ck G d_ H2 d x)/\J.stop xs.length H'
def lI(G:Gx)(E:XK)(m:MA):TI:=λσ H R=>∃θ h ρ,W G θ h H/\Fr G θ H ρ σ/\aG G (qr G E) θ H (m ρ h) (λxs d_ _ H'=>∀J,o4 G d_ H' xs J->R J H')
@[irreducible] noncomputable def DI(X:Cx)(E:XK)(m:MA)(tg e:Expr):Prop:=PI X tg e (lI X.G E m)
theorem jr(X:Cx)(E:XK)(m:MA)(tg e:Expr):DI X E m tg e=(PI X tg e (lI X.G E m)):=by
 grind[DI]
theorem PI.imp{t t':TI}(h:PI X tg e t)(k:∀σ H Q,t' σ H Q->t σ H Q):PI X tg e t':=λpins s σ H Q I q=>h pins s σ H Q I (k _ _ _ q)
theorem bj.get:∀{ds:List D} {vs:List V} {i:Nat} {d:D} {v:V},bj G θ H ds vs->ds[i]?=some d->vs[i]?=some v->ck G θ H d v
 |_,_,i,_,_,.nil,e,_=>by simp at e
 |_,_,0,_,_,.cons r _,e,e'=>by grind
 |_,_,i+1,d,v,.cons _ t,e,e'=>bj.get (i:=i) t (by simp_all) (by simp_all)
theorem bj.some(r:bj G θ H ds vs)(e:ds[i]?=some d):∃v,vs[i]?=some v/\ck G θ H d v:=by
 have hl  := Vo r;have hi:i<vs.length:=by rw[<- hl];exact(U9.mp e).1
 exact(vs[i],Va hi,r.get e (Va hi))
theorem Pk{a:Addr}(ha:view θ H a=some (.tup xs))(r:bj G θ H ds xs):o4 G θ H ds (Se K a):=λd_ h' H' ev w=>by have ha':=ax _ _ _ _ (ev.same _ _ ha);have q:i8 K H' a xs:=i8.of ha';refine(λi d e=>?_,(xs,q,by rw[<- Vo r];grind));obtain⟨v,M_,rv⟩:=r.some e;refine((xs,v,q,M_),λx H2 ⟨e2,y⟩=>?_);subst e2;have:=y xs q;rw[M_]at this;cases this;exact(Ev.refl,w,rv.ev ev)
theorem Pl{a:Addr}(ha:view θ H a=some (.lst xs))(r:bj G θ H ds xs):o4 G θ H ds (Qx K a):=λd_ h' H' ev w=>by have ha':=ax _ _ _ _ (ev.same _ _ ha);have q:iA K H' a xs:=iA.of ha';refine(λi d e=>?_,(xs,q,by rw[<- Vo r];grind));obtain⟨v,M_,rv⟩:=r.some e;refine((xs,v,q,M_),λx H2 ⟨e2,y⟩=>?_);subst e2;have:=y xs q;rw[M_]at this;cases this;exact(Ev.refl,w,rv.ev ev)
theorem Pm(h:DE X E m e):DI X E (E1 m) tg e:=by
 simp[bG,jr]at *
 exact PI.imp (HH h) (by rintro σ H R ⟨θ,h,ρ,w,fr,p⟩;exact(θ,h,ρ,w,fr,(aG.bind p).mono (by
   rintro d b_ h1 H1 _ _ ⟨ev,w1,p1⟩ v r
   cases d with
   |dat d=>
    cases d with
    |tuple ds=>obtain⟨a,xs,e,ha,_,rr⟩:=jb r;exact(a,e,(xs,i8.of (ax _ _ _ _ ha)),p1 b_ H1 Ev.refl w1 _ (Pk ha rr))
    |_=>trivial
   |_=>trivial)))
theorem Pn(h:DE X E m e):DI X E (Nw m) tg e:=by
 simp[bG,jr]at *
 exact PI.imp (EJ h) (by rintro σ H R ⟨θ,h,ρ,w,fr,p⟩;exact(θ,h,ρ,w,fr,(aG.bind p).mono (by
   rintro d b_ h1 H1 _ _ ⟨ev,w1,p1⟩ v r
   cases d with
   |dat d=>
    cases d with
    |list ds=>obtain⟨a,xs,e,ha,_,rr⟩:=fL r;exact(a,e,(xs,iA.of (ax _ _ _ _ ha)),p1 b_ H1 Ev.refl w1 _ (Pl ha rr))
    |_=>trivial
   |_=>trivial)))
theorem Fj(s:PyData.strOk x=true):PyData.strOk ⟨#[x.cps.getD i 0]⟩=true:=by
 have q:=Array.all_eq_true.mp s;apply Array.all_eq_true.mpr;intro j hj;by_cases hi:i<x.cps.size
 ·simp_all
 simp_all
theorem Po(h:DE X E m e):DI X E (Ny m) tg e:=by
 simp only[bG,jr]at *
 exact PI.imp (OP h) (by rintro σ H R ⟨θ,h,ρ,w,fr,p⟩;exact(θ,h,ρ,w,fr,(aG.bind p).mono (by
   rintro d b_ h1 H1 _ _ ⟨ev,w1,p1⟩ v r
   cases d with
   |dat d=>
    cases d with
    |str s=>obtain⟨r1,r2⟩:=r;refine(s,r1,p1 b_ H1 Ev.refl w1 _ λd_ h' H' ev w=>(λi d e=>?_,by show(signs s).length=_;simp[signs]));simp only[signs,VS,VC]at e;obtain⟨j,e1,e2⟩:=e;obtain⟨hj,e3⟩:=U9.mp e1;simp at hj e3;subst e3;subst e2;refine(hj,λx H2 ⟨z1,z2⟩=>?_);subst z1;subst z2;exact(Ev.refl,w,rfl,by simp only[fw];exact Fj (by simpa [fw]using r2))
    |_=>exact p1.elim
   |_=>exact p1.elim)))
theorem LQ:o4 G θ H (nums lo n) (Sf lo n):=λd_ h' H' ev w=>by refine(λi d e=>?_,by show n<=(nums lo n).length;simp[nums]);simp[nums]at e;obtain⟨j,e1,e2⟩:=e;obtain⟨hj,e3⟩:=U9.mp e1;simp at hj e3;subst e3;subst e2;refine(hj,λx H2 ⟨z1,z2⟩=>?_);subst z1;subst z2;exact(Ev.refl,w,rfl,by rfl)
theorem bT(r:ck G θ H (.int j) v):v=.int j:=r.1
theorem j8{tg a:Expr}(hg:Gl X "range")(hm:X.mg "range" = none)(ha:DA X E ma [a])(hs:starEach [a] X.env=[(false,eval a X.env)]:=by rfl):DI X E (fY ma) tg (.Call (.Name "range" p') [a] [] pos'):=by
 simp[iF,jr]at *
 exact PI.imp (Gm hg hm ha hs) (by rintro σ H R ⟨θ,h,ρ,w,fr,p⟩;exact(θ,h,ρ,w,fr,(aG.bind p).mono λds b_ h1 H1 _ _ ⟨ev,w1,p1⟩ vs r=>by
   split at p1
   ·split at p1
    ·rename_i j _ hj
     cases r with
     |cons r1 rr=>cases rr;cases bT r1;exact(j,rfl,hj.1,hj.2,p1 b_ H1 Ev.refl w1 _ LQ)
    ·trivial
   ·trivial))
theorem vD:∀(xs ys:Y9),(uw xs ys).length=min xs.length ys.length
 | [],_=>by rfl
 |_::_,[]=>by rfl
 |x::xs,y::ys=>by simp[uw,vD xs ys]
theorem vE:∀(xs ys:Y9) (i:Nat) (d:D),(uw xs ys)[i]?=some d->∃x y,xs[i]?=some x/\ys[i]?=some y/\d=.dat (.tuple [x,y])
 | [],_,i,d,e=>by trivial
 |_::_,[],i,d,e=>by trivial
 |x::xs,y::ys,0,d,e=>by grind[uw]
 |x::xs,y::ys,i+1,d,e=>by simpa using vE xs ys i d (by assumption)
theorem kW:∀{ds:Y9} {i:Nat} {d:PyData},cF ds=true->ds[i]?=some d->fw d=true
 | [],i,d,_,e=>by simp at e
 |x::xs,0,d,s,e=>by grind[cF]
 |x::xs,i+1,d,s,e=>by simp[cF]at s;exact kW (i:=i) s.2 (by simp_all)
theorem Pp{kk:Nat}{es:Ze}{Zw:Pos}{p' pos':Pos}(hg:Gl X "zip")(hm:X.mg "zip" = none)(ha:DA X E ma [e1,e2])(hs:starEach [e1,e2] X.env=[(false,eval e1 X.env),(false,eval e2 X.env)]:=by rfl)(B_:starEach [e2] X.env=[(false,eval e2 X.env)]:=by rfl) :
  DI X E (E3 ma) (.Tuple es kk Zw) (.Call (.Name "zip" p') [e1,e2] [] pos'):=by
 simp only[iF,jr]at *
 exact PI.imp (OL hg hm ha hs B_) (by rintro σ H R ⟨θ,h,ρ,w,fr,p⟩;exact(θ,h,ρ,w,fr,(aG.bind p).mono λds b_ h1 H1 _ _ ⟨ev,w1,p1⟩ vs r=>by
   split at p1
   ·rename_i xs ys _
    cases r with
    |cons r1 rr=>
     cases rr with
     |cons r2 rr=>
      cases rr;have s1:cF xs=true:=by simpa [fw]using r1.2
      have s2:cF ys=true:=by simpa [fw]using r2.2
      obtain⟨a1,us,rfl,ha1,q1,_⟩:=jb r1;obtain⟨a2,ws,rfl,ha2,q2,_⟩:=jb r2;refine(a1,a2,us,ws,rfl,i8.of (ax _ _ _ _ ha1),i8.of (ax _ _ _ _ ha2),p1 b_ H1 Ev.refl w1 _ λd_ h' H' M_ w'=>?_);have k1:i8 X.K H' a1 us:=i8.of (ax _ _ _ _ (M_.same _ _ ha1));have k2:i8 X.K H' a2 ws:=i8.of (ax _ _ _ _ (M_.same _ _ ha2));have l1:=q1.length;have l2:=q2.length;refine(λi d e=>?_,(us,ws,k1,k2,by rw[vD,l1,l2];omega));obtain⟨x,y,ex,ey,rfl⟩:=vE _ _ _ _ e;obtain⟨u,eu,ru⟩:=bu.get' q1 ex;obtain⟨z,ez,rz⟩:=bu.get' q2 ey;refine((us,ws,u,z,k1,k2,eu,ez),λv H2 ⟨pp,x',y',e1,hp,e2,c1,c2⟩=>?_);have:=c1 us k1;rw[eu]at this;cases this;have:=c2 ws k2;rw[ez]at this;cases this;subst e1;subst e2;obtain⟨e3,w3,g3⟩:=w'.put (o:=.tup [u,z]) hp;exact(e3,w3,(pp,[u,z],rfl,g3,.cons (ru.same (M_.same.trans e3.same)) (.one (rz.same (M_.same.trans e3.same)))),by simp[fw,cF,kW s1 ex,kW s2 ey])
   ·exact p1.elim))
abbrev eU:XK:=λ_ _ _=>False
theorem aG.c8{f:α->Hm->R β}(p:aG G F θ H (r.oX.bind f) L) :
  aG G F' θ H r λa b_ h1 H1=>Ev θ H b_ H1/\W G b_ h1 H1/\aG G F b_ H1 (f a h1) L:=by
 cases r with
 |ok a h'=>exact λb_ H1 e w=>(e,w,aG.later p e)
 |exc x h'=>trivial
 |bad=>trivial
theorem PS.Gi{t:TS}(h:PS X.Gi st t):PS X st t:=λpins s σ H D I hw=>
 V7 (h pins s σ H D (I.xR _) hw) (λ_ _ q=>q.mY) λ_ _ z=>False.elim z
end
end Ml
namespace L2
open PySem PySem.Spec PyProof.Rows
theorem Lm.UR{K:Zc}{st:Stmt}(F:Lm K x qual st f fd)(S:aO N ps (av st))(len:∀vs H Q E,sp vs H Q E->vs.length=ps.length)
 (y_:∀(h_:Value) (A:Zm) (outer:List Env) (s:Zn) (H:Hp) (vs:List V) (Q:VK) (E:XK),cE k (A.deeper (envOfC qual (av st) s.heap.objs.size f h_))->sp vs H Q E ->
   ∃t,A6 (u7 (uJ P w) P w K mg base N qual (av st) f h_ A outer s H E) (eK st) t/\t {nx:=λ_ H'=>Q .non H',rt:=Q} (start N vs) H):jV P w K mg base (uJ P w) (k+1) f fd ps sp:=by
 obtain⟨oc,od,kV,doc,pm,an,h_,ct,Z4,rfl,lk,KF⟩:=F.ex;exact Q6 lk KF S len λA outer s H vs Q E hr hsp=>y_ h_ A outer s H vs Q E hr hsp
structure IK(P:Zj)(w:World)(K:Zc)(mg:Y8)(base:Heap)(x:Str)(ps:Zd)(k:Nat)(sp:Sp):Prop where
 ex:∃(f:Addr) (fd:FuncData),mg x=some (.ref f)/\PySem.W.keepIn K (.ref f)=true/\Binds K fd ps []/\jV P w K mg base (uJ P w) k f fd ps sp
section
theorem Pq(F:IK X.prog X.w X.K X.mg X.base x ps k sp)(hx:Passes (uJ X.prog X.w) X E)(hr:cE k X.A)(hg:Gl X x)(ha:PA X (e::es) t)(x_:(x==("__debug__" : Str))=false:=by decide)(he:starEach (e::es) X.env=(false,eval e X.env)::starEach es X.env:=by rfl)
 (t_:(backTo pos (starEach es X.env)).any (·.1)=false:=by rfl):PE X (.Call (.Name x p) (e::es) [] pos) (Nk sp [] E t):=by
 obtain⟨f,fd,h1,h2,h3,h4⟩:=F.ex;exact La h4 hr hg h1 h2 h3 .nil hx ha x_ he t_
end
end L2
namespace Ml
open PySem PySem.Spec L2
section
theorem IL(hJ:o4 G b_ H1 xs J)(w1:W G b_ h1 H1)(fr:Fr G b_ H1 ρ σ)(p1:aG G F b_ H1 (cn g b xs ρ h1) (KS G C)) :
  ∃W':Nat->Nat->St->Hp->Prop,(∃m,W' 0 m σ H1)/\∀i m σ H,W' i m σ H ->
   (J.stop i H/\C.nx σ H)\/(J.go i H/\∃N:St->Hp->Prop,(∀j_ H',N j_ H'->∃m',m'<m/\W' (i+1) m' j_ H')/\∀x H',J.yld i H x H'->lG G eU g x σ H' λw_ H2=>lS G eU b {C with nx:=N,ct:=N,bk:=C.nx} w_ H2):=by
 refine(λi m σ H=>m=xs.length-i/\i<=xs.length/\∃d_ h' s_,Ev b_ H1 d_ H/\W G d_ h' H/\Fr G d_ H s_ σ/\aG G F d_ H (cn g b (xs.drop i) s_ h') (KS G C),(xs.length,by simp,Wr _,b_,h1,ρ,Ev.refl,w1,fr,p1),?_);rintro i m σ H ⟨rfl,hi,d_,h',s_,ev,w,fr',p⟩;obtain⟨j1,j2⟩:=hJ d_ h' H ev w;by_cases m_:i<xs.length
 ·have ed:xs.drop i=xs[i]::xs.drop (i+1):=Wd m_;rw[ed]at p;obtain⟨g1,g2⟩:=j1 i xs[i] (Va m_);refine .inr (g1,λw_ H2=>i+1<=xs.length/\∃d_ h' s_,Ev b_ H1 d_ H2/\W G d_ h' H2/\Fr G d_ H2 s_ w_/\aG G F d_ H2 (cn g b (xs.drop (i+1)) s_ h') (KS G C),λj_ H' q=>(xs.length-(i+1),by omega,rfl,q),λx H2 y=>?_);obtain⟨e2,w2,r2⟩:=g2 x H2 y;refine(d_,h',s_,xs[i],w2,fr'.ev e2,r2,(aG.c8 (p.later e2)).mono λρ3 Zx h3 H3 _ _ ⟨e3,w3,p3⟩ FM SC=>(Zx,h3,ρ3,w3,SC,(aG.c8 p3).mono λf H_ h4 H4 _ _ ⟨e4,w4,p4⟩=>?_));have ev4:=(ev.trans e2).trans (e3.trans e4)
  cases f with
  |nx T_=>exact λσ5 N_=>(m_,H_,h4,T_,ev4,w4,N_,p4)
  |ct T_=>exact λσ5 N_=>(m_,H_,h4,T_,ev4,w4,N_,p4)
  |bk T_=>exact p4 H_ H4 Ev.refl w4
  |rt d=>exact p4 H_ H4 Ev.refl w4
 ·have hx:i=xs.length:=by omega
  subst hx;rw[Ww (U4 _)]at p;exact .inl (j2,p d_ H Ev.refl w σ fr')
theorem fy(hc:X.calm=true)(hi:DI X.Gi eU it tg e)(hg:DG X.Gi eU g tg)(hb:Ff X.Gi eU b body)(hs:∀x,foldedSetIterable e X.env x=pure x:=by intro _;rfl):DS X E (gp it g b) (.For tg e body [] pos):=by simp[gQ,ng,kU,jr]at *;exact PS.Gi (PS.imp (HJ PassesOwn.never hc hi hg hb hs) (by rintro C σ H ⟨θ,h,ρ,w,fr,p⟩;exact(θ,h,ρ,w,fr,(aG.c8 p).mono (by rintro xs b_ h1 H1 _ _ ⟨ev,w1,p1⟩ J hJ;exact IL hJ w1 (fr.ev ev) p1))))
theorem IM(hc:DT X.Gi eU t e)(hb:Ff X.Gi eU b body):DS X E (Iv n t b) (.While e body [] pos):=by
 simp only[kT,gQ,ng]at *
 exact PS.Gi (PS.imp (HG PassesOwn.never hc hb) (by
   rintro C σ H ⟨θ,h,ρ,w,fr,p⟩;refine(λm σ H=>∃θ h ρ,W X.G θ h H/\Fr X.G θ H ρ σ/\aG X.G (qr X.G E) θ H (lW t b m ρ h) (KS X.G C),(n,θ,h,ρ,w,fr,p),?_);rintro m σ H ⟨θ,h,ρ,w,fr,p⟩
   cases m with
   |zero=>trivial
   |succ m=>
    refine(θ,h,ρ,w,fr,(aG.c8 p).mono λc b_ h1 H1 _ _ ⟨ev,w1,p1⟩=>?_)
    cases c with
    |false=>exact p1 b_ H1 Ev.refl w1 σ (fr.ev ev)
    |true=>
     refine(λj_ H'=>∃θ h ρ,W X.G θ h H'/\Fr X.G θ H' ρ j_/\aG X.G (qr X.G E) θ H' (lW t b m ρ h) (KS X.G C),λj_ H' q=>(m,WK _,q),b_,h1,ρ,w1,fr.ev ev,(aG.c8 p1).mono λf H_ h4 H4 _ _ ⟨e4,w4,p4⟩=>?_)
     cases f with
     |nx T_=>exact λσ5 N_=>(H_,h4,T_,w4,N_,p4)
     |ct T_=>exact λσ5 N_=>(H_,h4,T_,w4,N_,p4)
     |bk T_=>exact p4 H_ H4 Ev.refl w4
     |rt d=>exact p4 H_ H4 Ev.refl w4))
theorem et:∀{xs ys:List α} {us ws:List β},Paired G xs us->Paired G ys ws->Paired G (xs++ys) (us++ws)
 |_,_,_,_,.nil,s=>s
 |_,_,_,_,.cons r t,s=>.cons r (et t s)
theorem zW{γ:Type}{go:List D->γ->Hm->R ζ}{bd:List D->γ->Fm->Hm->R ζ}{RL:List D->γ->β->Za->Hp->Prop}(a0:γ)(hJ:o4 G b_ H1 xs J)(w1:W G b_ h1 H1)(fr:Fr G b_ H1 ρ σ)(p1:aG G F b_ H1 (go xs a0 h1) L)(r0:RL xs a0 t0 b_ H1)
 (eq:∀x r acc h,go (x::r) acc h=(g x (List.replicate n none++ρ) h).oX.bind λc_ h1=>(t c_ h1).oX.bind λc h2=>if c=true then bd r acc c_ h2 else go r acc h2)
 (rev:∀{r acc a θ H d_ H'},Ev θ H d_ H'->RL r acc a θ H->RL r acc a d_ H')(rtl:∀{x r acc a θ H},RL (x::r) acc a θ H->RL r acc a θ H)(pre:∀{x r acc a θ H},RL (x::r) acc a θ H->PRE a)
 (fin:∀{acc a θ h H},W G θ h H->RL [] acc a θ H->aG G F θ H (go [] acc h) L->FIN a H)
 (body:∀{x r acc a ρ θ h H σ} {N:β->Hp->Prop},W G θ h H->Fr G θ H ρ σ->RL (x::r) acc a θ H->aG G F θ H (bd r acc ρ h) L->(∀{K_ a' d_ h' H'},Ev θ H d_ H'->W G d_ h' H'->RL r K_ a' d_ H'->aG G F d_ H' (go r K_ h') L->N a' H')->BODY a N σ H) :
  gW n J (lG G eU g) (lT G eU t) t0 FIN PRE BODY σ H1:=by
 refine(λi m a H=>m=xs.length-i/\i<=xs.length/\∃d_ h' acc,Ev b_ H1 d_ H/\W G d_ h' H/\RL (xs.drop i) acc a d_ H/\aG G F d_ H (go (xs.drop i) acc h') L,(xs.length,by simp,Wr _,b_,h1,a0,Ev.refl,w1,r0,p1),?_);rintro i m a H ⟨rfl,hi,d_,h',acc,ev,w,ra,p⟩;obtain⟨j1,j2⟩:=hJ d_ h' H ev w;by_cases m_:i<xs.length
 ·have ed:xs.drop i=xs[i]::xs.drop (i+1):=Wd m_;rw[ed]at p ra;obtain⟨g1,g2⟩:=j1 i xs[i] (Va m_);refine .inr (g1,pre ra,λa2 H2=>i+1<=xs.length/\∃d_ h' acc,Ev b_ H1 d_ H2/\W G d_ h' H2/\RL (xs.drop (i+1)) acc a2 d_ H2/\aG G F d_ H2 (go (xs.drop (i+1)) acc h') L,λ_ H' q=>(xs.length-(i+1),by omega,rfl,q),λx H2 y=>?_);obtain⟨e2,w2,r2⟩:=g2 x H2 y;have p2:=p.later e2;rw[eq]at p2;refine(d_,h',_,xs[i],w2,((fr.ev ev).ev e2).replicate n,r2,(aG.c8 p2).mono λρ3 Zx h3 H3 _ _ ⟨e3,w3,p3⟩ FM SC=>(Zx,h3,ρ3,w3,SC,(aG.c8 p3).mono λc H_ h4 H4 _ _ ⟨e4,w4,p4⟩=>?_));have ev4:=(ev.trans e2).trans (e3.trans e4);have ra4:=rev (e2.trans (e3.trans e4)) ra
  cases c with
  |false=>exact(m_,H_,h4,acc,ev4,w4,rtl ra4,p4)
  |true=>exact body w4 (SC.ev e4) ra4 p4 λe5 w5 r5 p5=>(m_,_,_,_,ev4.trans e5,w5,r5,p5)
 ·have hx:i=xs.length:=by omega
  subst hx;rw[Ww (U4 _)]at p ra;exact .inl (j2,fin w ra p)
theorem GQ(hJ:o4 G b_ H1 xs J)(w1:W G b_ h1 H1)(fr:Fr G b_ H1 ρ σ)(p1:aG G F b_ H1 ((kB n ρ g t m xs h1).bind mk) (KV G Q))
 (Zy:∀ys vs θ h H,ys.length<=xs.length->W G θ h H->bj G θ H ys vs->aG G F θ H (mk ys h) (KV G Q)->∀p,H p=none->Q (.ref p) (upd H p (.lst vs)))(hz:xs.length<=sizeLine) :
  H0 n J (lG G eU g) (lT G eU t) (lE G eU m) σ H1 Q:=by
 refine zW (go:=λr acc h=>(kB n ρ g t m r h).bind λzs h2=>mk (acc++zs) h2) (bd:=λr acc c_ h=>(m c_ h).oX.bind λy h3=>(kB n ρ g t m r h3).bind λzs h2=>mk ((acc++[y])++zs) h2) (RL:=λr acc ys θ H=>acc.length+r.length<=xs.length/\bj G θ H acc ys) [] hJ w1 fr p1 (by simp,.nil) (λx r acc h=>?_) (λe ⟨l,r⟩=>(l,bj.ev e r)) (λ⟨l,r⟩=>(by simp at l;omega,r))
  (λ⟨l,r⟩=>by rw[<- Vo r];simp at l;omega) (λ{acc a θ h H} w ⟨l,r⟩ p=>?_) λw fr ⟨l,r⟩ p hN=>(_,_,_,w,fr,(aG.c8 p).mono λy Z2 h5 H5 _ _ ⟨e5,w5,p5⟩ v5 r5=>hN e5 w5 (by simp at l ⊢;omega,et (bj.ev e5 r) (.cons r5 .nil)) p5)
 ·simp only[kB,R.bind_assoc];congr;funext _ _;congr;funext c _;cases c<;>simp[R.bind_assoc]
 ·simp only[kB,R.aW,WS]at p;exact(by rw[<- Vo r];simp at l;omega,Zy acc a θ h H (by simpa using l) w r p)
@[irreducible] noncomputable def IP(X:Cx)(E:XK)(t:MT)(es:Ze):Prop:=C7 X es (lT X.G E t)
theorem nk(X:Cx)(E:XK)(t:MT)(es:Ze):IP X E t es=(C7 X es (lT X.G E t)):=by
 grind[IP]
theorem dR:IP X E cq []:=by simp[nk]at *;exact by rintro pins s σ H Q I ⟨θ,h,ρ,w,fr,p⟩;exact Lo pins s σ H Q I (p θ H Ev.refl w)
theorem b0(h:DT X E t e):IP X E t [e]:=by simp[kT,nk]at *;exact Lp h
theorem zX{mk:List D->Hm->R D}(h:lE G E (ag mk (Bn n it g t m)) σ H Q)
 (Zy:∀ys vs θ h H,ys.length<=sizeLine->W G θ h H->bj G θ H ys vs->aG G (qr G E) θ H (mk ys h) (KV G Q)->∀p,H p=none->Q (.ref p) (upd H p (.lst vs))) :
  yx n (lI G E it) (lG G eU g) (lT G eU t) (lE G eU m) σ H Q:=by
 obtain⟨θ,h,ρ,w,fr,p⟩:=h;simp[ag,Bn,R.bind_assoc]at p;refine(θ,h,ρ,w,fr,(aG.bind p).mono λxs b_ h1 H1 _ _ ⟨ev,w1,p1⟩ J hJ=>?_);split at p1
 ·rename_i hz;exact GQ hJ w1 (fr.ev ev) p1 (λys vs θ h H hl=>Zy ys vs θ h H (U8 hl (dP hz))) (dP hz)
 ·trivial
theorem jt(ys:List D)(vs:List V)(θ:Za)(h:Hm)(H:Hp)(w1:W G θ h H)(r1:bj G θ H ys vs)(p1:aG G F θ H (qH ys h) (KV G Q))(q:Addr)(hq:H q=none):Q (.ref q) (upd H q (.lst vs)):=by
 unfold qH at p1
 cases e:jm ys with
 |none=>rw[e]at p1;exact p1.elim
 |some ds=>
  rw[e]at p1;simp only at p1;split at p1
  ·obtain⟨e1,w2,g⟩:=w1.put hq;obtain⟨h1,h2⟩:=oE r1 e;exact p1 _ _ e1 w2 _ ((q,vs,rfl,g,h1.same e1.same),by assumption)
  ·trivial
theorem bY(own:Zd)(CS:c7 X.env.scope X.N own scope=true)(hc:X.calm=true)(hi:DI X E it tg e)(hg:∀C s2 H2 fp pins,DG (aA X own scope C s2 H2 fp pins) eU g tg)
 (ht:∀C s2 H2 fp pins,IP (aA X own scope C s2 H2 fp pins) eU t ifs)(he:∀C s2 H2 fp pins,DE (aA X own scope C s2 H2 fp pins) eU m elt)(hs:∀x,foldedSetIterable e X.env x=pure x:=by intro _;rfl) :
  DE X E (aZ own.length it g t m) (.ListComp elt [(tg,e,ifs,0)] scope pos):=by
 simp[bG,kU,jr,nk]at *;exact PE.imp (Ls own CS hc hi hg ht he hs) λσ H Q q=>zX q λys vs θ h H _=>jt ys vs θ h H
theorem Fo{mk:List D->Hm->R D}(h:lS G E (bC i (ag mk (Bn n it g t m))) C σ H)
 (Zy:∀Q ys vs θ h H,ys.length<=sizeLine->W G θ h H->bj G θ H ys vs->aG G (qr G E) θ H (mk ys h) (KV G Q)->∀p,H p=none->Q (.ref p) (upd H p (.lst vs))) :
  Dd (yx n (lI G E it) (lG G eU g) (lT G eU t) (lE G eU m)) (L2.af i) C σ H:=by
 obtain⟨θ,h,ρ,w,fr,p⟩:=h;refine zX (θ,h,ρ,w,fr,(aG.bind p).mono (by rintro d b_ h1 H1 _ _ ⟨ev,w1,p1⟩ v r;exact p1 b_ H1 Ev.refl w1 _ ((fr.ev ev).set r))) (Zy _)
theorem uL(own:Zd){pos' p_:Pos}(hN:X.N.Nodup)(ZF:X.N[i]?=some x)(hx:X.env.scope.names.lookup x=some .local)(CS:c7 X.env.scope X.N own scope=true)(hc:X.calm=true)(hi:DI X E it tg e)(hg:∀C s2 H2 fp pins,DG (aA X own scope C s2 H2 fp pins) eU g tg)
 (ht:∀C s2 H2 fp pins,IP (aA X own scope C s2 H2 fp pins) eU t ifs)(he:∀C s2 H2 fp pins,DE (aA X own scope C s2 H2 fp pins) eU m elt)(hs:∀x,foldedSetIterable e X.env x=pure x:=by intro _;rfl)
 (ZG:swapsWith (.ListComp elt [(tg,e,ifs,0)] scope pos) (some (.Name x pos')) p_.line X.env=pure true:=by rfl):DS X E (bC i (aZ own.length it g t m)) (.Assign [.Name x pos'] (.ListComp elt [(tg,e,ifs,0)] scope pos) p_):=by
 simp[bG,gQ,kU,jr,nk]at *;exact PS.imp (Lu own hN ZF hx CS hc hi hg ht he hs ZG) λC σ H q=>Fo q λQ ys vs θ h H _=>jt ys vs θ h H
theorem IQ(own N':Zd)(HL:oB X.env.scope X.N N'=true)(CS:c7 X.env.scope N' own scope=true)(hc:X.calm=true)(hi:DI X E it tg e)(hg:∀C s2 H2 fp pins,DG (aA (X.xW N') own scope C s2 H2 fp pins) eU g tg)
 (ht:∀C s2 H2 fp pins,IP (aA (X.xW N') own scope C s2 H2 fp pins) eU t ifs)(he:∀C s2 H2 fp pins,DE (aA (X.xW N') own scope C s2 H2 fp pins) eU m elt)(hs:∀x,foldedSetIterable e X.env x=pure x:=by intro _;rfl) :
  DE X E (aZ own.length it g t m) (.ListComp elt [(tg,e,ifs,0)] scope pos):=by
 simp[bG,kU,jr,nk]at *;exact PE.imp (Ia own N' HL CS hc hi hg ht he hs) λσ H Q q=>zX q λys vs θ h H _=>jt ys vs θ h H
theorem vF(own N':Zd){pos' p_:Pos}(hN:X.N.Nodup)(ZF:X.N[i]?=some x)(hx:X.env.scope.names.lookup x=some .local)(HL:oB X.env.scope X.N N'=true)(CS:c7 X.env.scope N' own scope=true)(hc:X.calm=true)(hi:DI X E it tg e)(hg:∀C s2 H2 fp pins,DG (aA (X.xW N') own scope C s2 H2 fp pins) eU g tg)
 (ht:∀C s2 H2 fp pins,IP (aA (X.xW N') own scope C s2 H2 fp pins) eU t ifs)(he:∀C s2 H2 fp pins,DE (aA (X.xW N') own scope C s2 H2 fp pins) eU m elt)(hs:∀x,foldedSetIterable e X.env x=pure x:=by intro _;rfl)
 (ZG:swapsWith (.ListComp elt [(tg,e,ifs,0)] scope pos) (some (.Name x pos')) p_.line X.env=pure true:=by rfl):DS X E (bC i (aZ own.length it g t m)) (.Assign [.Name x pos'] (.ListComp elt [(tg,e,ifs,0)] scope pos) p_):=by
 simp[bG,gQ,kU,jr,nk]at *;exact PS.imp (Ib own N' hN ZF hx HL CS hc hi hg ht he hs ZG) λC σ H q=>Fo q λQ ys vs θ h H _=>jt ys vs θ h H
end
def IS(G:Gx)(F:Fn):Sp:=λvs H Q E=>∃θ h ds,W G θ h H/\bj G θ H ds vs/\aG G (qr G E) θ H (F ds h) (KV G Q)
def IT(F:Fn)(n:Nat):Prop:=∀ds h,ds.length≠n->F ds h=.bad
theorem LR(ar:IT F n):∀vs H Q E,IS G F vs H Q E->vs.length=n:=by
 rintro vs H Q E ⟨θ,h,ds,w,r,p⟩;by_cases e:ds.length=n
 ·rw[<- e];exact(Vo r).symm
 ·rw[ar ds h e]at p;exact p.elim
theorem yI:IT (bI p n b) p:=λds h e=>by simp[bI,e]
structure cB(P:Zj)(w:World)(K:Zc)(mg:Y8)(base:Heap)(x:Str)(ps:Zd)(k:Nat)(F:Fn):Prop where
 has:IK P w K mg base x ps k (IS (P,w,mg,K) F)
 ar:IT F ps.length
section
variable {ps:Zd}
theorem Fr.start{n:Nat}(r:bj G θ H ds vs)(hl:ds.length=ps.length):Fr G θ H (ds.map some++List.replicate (N.length-ps.length) none) (start N vs):=by
 have hv:ds.length=vs.length:=Vo r;unfold L2.start;rw[<- hv,hl];refine(by simp_all,λi d e=>?_);by_cases hi:i<ds.length
 ·rw[Vz (by simp_all)]at e;rw[Vz (by simp_all)];simp only[VS]at e ⊢
  cases e1:ds[i]? with
  |none=>grind
  |some d'=>rw[e1]at e;simp at e;subst e;obtain⟨v,e2,rv⟩:=r.some e1;exact(v,by simp_all,rv)
 ·rw[VF (by simpa using hi),Xo]at e;split at e<;>cases e
theorem Tx(Fu:Lm K x qual st f fd)(S:aO N ps (av st))(y_:∀(h_:Value) (A:Zm) (outer:List Env) (s:Zn) (H:Hp) (E:XK),cE k (A.deeper (PyProof.Rows.envOfC qual (av st) s.heap.objs.size f h_)) ->
   Ff (u7 (uJ P w) P w K mg base N qual (av st) f h_ A outer s H E) E b (eK st)):jV P w K mg base (uJ P w) (k+1) f fd ps (IS (P,w,mg,K) (bI ps.length N.length b)):=by
 simp[ng]at *;refine Fu.UR S (LR yI) λh_ A outer s H vs Q E hr ⟨θ,h,ds,w,r,p⟩=>(_,y_ h_ A outer s H E hr,?_);unfold bI at p;split at p
 ·rename_i hl;refine(θ,h,_,w,Fr.start (n:=0) r hl,(aG.bind p).mono λfl b_ h1 H1 _ _ ⟨ev,w1,p1⟩=>?_)
  cases fl with
  |nx ρ=>exact λσ fr=>p1 b_ H1 Ev.refl w1 _ (rfl,by rfl)
  |rt d=>exact p1 b_ H1 Ev.refl w1
  |bk ρ=>trivial
  |ct ρ=>trivial
 ·trivial
theorem cB.mono(h:cB P w K mg base x ps j F)(l:j<=k):cB P w K mg base x ps k F:=by obtain⟨⟨f,fd,h1,h2,h3,h4⟩,ar⟩:=h;exact((f,fd,h1,h2,h3,h4.mono l),ar)
theorem cB.eq(h:cB P w K mg base x ps k F)(e:F=F'):cB P w K mg base x ps k F':=e▸h
end
section
theorem cL:Passes (uJ X.prog X.w) X eU:=by rintro _ _ _ _ _ _ _ ⟨_,_,_,_,_,_,_,_,_,_,_,_,_,h⟩;exact h.elim
theorem Ru(F':cB X.prog X.w X.K X.mg X.base x ps k F)(hx:Passes (uJ X.prog X.w) X E)(hr:cE k X.A)(hg:Gl X x)(ha:DA X E ma (e::es))(x_:(x==("__debug__" : Str))=false:=by decide)(he:starEach (e::es) X.env=(false,eval e X.env)::starEach es X.env:=by rfl)
 (t_:(backTo pos (starEach es X.env)).any (·.1)=false:=by rfl):DE X E (ag F ma) (.Call (.Name x p) (e::es) [] pos):=by
 simp only[bG,iF]at *;exact PE.imp (Pq F'.has hx hr hg ha x_ he t_) (by rintro σ H Q ⟨θ,h,ρ,w,fr,p⟩;exact(θ,h,ρ,w,fr,(aG.bind p).mono (by rintro xs b_ h1 H1 _ _ ⟨ev,w1,p1⟩ vs r;exact(b_,h1,xs,w1,by grind,p1))))
end
theorem GR(hx:(match x with|.int _|.str _|.bool _|.none=>true|_=>false)=true)(r:RelV (Pb x) u):Reads h u x []:=by
 cases x with
 |none=>cases r;exact .none
 |bool b=>cases r;exact .bool b
 |int i=>obtain⟨t,rfl⟩:=r;exact .int i t
 |str s=>obtain⟨t,rfl⟩:=r;exact .str s t
 |_=>cases hx
theorem lZ:∀{xs:Y9} {us:Zb},(∀x∈xs,(match x with|.int _|.str _|.bool _|.none=>true|_=>false)=true)->Vals (xs.map Pb) us->ReadsAll h us xs []
 | [],us,_,r=>by cases r;exact .nil
 |x::xs,us,hx,r=>by
  cases r with
  |cons r1 r2=>exact .cons (GR (hx x (by simp)) r1) (lZ (λy m=>hx y (by simp[m])) r2)
section
theorem gx(I:Inv X pins σ H s)(w:W X.G θ hm H):∀(n:Nat) {x:D} {v:V} {u:Value} {d:PyData},ck X.G θ H x v->RelV v u->A1 hm n x=some d->(∃as,Reads s.heap u d as)/\fw d=true:=by
 intro n
 induction n with
 |zero=>
  intro x v u d r rv e
  cases x with
  |dat d'=>simp only[A1]at e;cases e;exact(Rep.reads I (r.1.same (ax _ _)) rv,r.2)
  |ktup xs=>simp only[A1]at e;cases e;obtain⟨a,rfl,⟨o,a_,k,hl,hc,hd,_,vs⟩,hx,hs⟩:=r;cases rv;exact((_,.tuple (I.u0 _ _ hl) hc hd (lZ hx vs)),by assumption)
  |_=>simp[A1]at e
 |succ n ih=>
  intro x v u d r rv e
  cases x with
  |dat d'=>simp only[A1]at e;cases e;exact(Rep.reads I (r.1.same (ax _ _)) rv,r.2)
  |ktup xs=>simp only[A1]at e;cases e;obtain⟨a,rfl,⟨o,a_,k,hl,hc,hd,_,vs⟩,hx,hs⟩:=r;cases rv;exact((_,.tuple (I.u0 _ _ hl) hc hd (lZ hx vs)),by simpa [fw]using hs)
  |ref i=>
   simp only[A1]at e;obtain⟨a,ha,rfl⟩:=r;cases rv
   cases e1:hm[i]? with
   |none=>rw[e1]at e;cases e
   |some o=>
    rw[e1]at e
    cases o with
    |lst xs=>
     simp only at e;obtain⟨vs,hv,rs⟩:=w.obj i a _ ha e1;obtain⟨_,a_,k,rvs,ho⟩:=I.hok a _ hv
     have all:∀{xs:List D} {vs:List V} {us:Zb} {ds:Y9},bj X.G θ H xs vs->Vals vs us->mT (A1 hm n) xs=some ds->(∃as,ReadsAll s.heap us ds as)/\cF ds=true:=by
      intro xs
      induction xs with
      |nil=>intro vs us ds r1 r2 e;cases r1;cases r2;cases e;exact((_,.nil),by simp[cF])
      |cons x xs ihx=>
       intro vs us ds r1 r2 e
       cases r1 with
       |cons p1 p2=>
        cases r2 with
        |cons q1 q2=>
         unfold mT at e
         cases e2:A1 hm n x with
         |none=>rw[e2]at e;cases e
         |some d=>
          cases e3:mT (A1 hm n) xs with
          |none=>rw[e2,e3]at e;cases e
          |some i_=>rw[e2,e3]at e;cases e;obtain⟨⟨as,z1⟩,s1⟩:=ih p1 q1 e2;obtain⟨⟨bs,z2⟩,s2⟩:=ihx p2 q2 e3;exact((_,.cons z1 z2),by simp[cF,s1,s2])
     cases e2:mT (A1 hm n) xs with
     |none=>rw[e2]at e;cases e
     |some ds=>rw[e2]at e;cases e;obtain⟨⟨as,z⟩,s1⟩:=all rs rvs e2;exact((_,.list ho rfl rfl (by simpa using z)),by simpa [fw]using s1)
    |_=>cases e
  |_=>simp[A1]at e
end
end Ml
namespace PySem.SeqAt
open PySem PySem.MeetsSeq PySem.AutoSeq1
theorem vG(t:Addr)(a_:Zh)(m:Nat)(d2:Option Addr)(Q_:Zf)(l:Addr)(es:Zg)(n:Nat)(dd:Option Addr)(sl:Zf) :
  Meets (Builtin.«tuple.__eq__» ([.ref t,.ref l],[])) (λ_ R s=>s.heap.get? t=some {cls:=.type "tuple",dict:=d2,data:=.seq a_ m,slots:=Q_}/\s.heap.get? l=some {cls:=.type "dict",dict:=dd,data:=.dict es n,slots:=sl}/\R (.ok (.ret .notImplemented)) s):=
 .of_wp λprog w A R s h=>by
  obtain⟨hp,g,d,tk,os⟩:=s;obtain⟨ht,hl,h⟩:=h;have f1:=F.sub_dict_tuple
  wp_walk using wpAny_loadPart' hl,Yf hl,wpAny_loadPart' ht,Yf ht
  grind
theorem vH(t:Addr)(a_:Zh)(m:Nat)(d2:Option Addr)(Q_:Zf)(l:Addr)(es:Zg)(n:Nat)(dd:Option Addr)(sl:Zf) :
  Meets (Builtin.«dict.__eq__» ([.ref l,.ref t],[])) (λ_ R s=>s.heap.get? t=some {cls:=.type "tuple",dict:=d2,data:=.seq a_ m,slots:=Q_}/\s.heap.get? l=some {cls:=.type "dict",dict:=dd,data:=.dict es n,slots:=sl}/\R (.ok (.ret .notImplemented)) s):=
 .of_wp λprog w A R s h=>by
  obtain⟨hp,g,d,tk,os⟩:=s;obtain⟨ht,hl,h⟩:=h;have f1:=F.sub_tuple_dict
  wp_walk using wpAny_loadPart' hl,Yf hl,wpAny_loadPart' ht,Yf ht
  grind
theorem vI{h:Heap}(ht:h.get? t=some {cls:=.type "tuple",dict:=d2,data:=.seq a_ m,slots:=Q_})
 (hl:h.get? l=some {cls:=.type "dict",dict:=dd,data:=.dict es n,slots:=sl}):t≠l:=λe=>by
 grind
theorem RcAt.zY(ht:s.heap.get? t=some {cls:=.type "tuple",dict:=d2,data:=.seq a_ m,slots:=Q_})
 (hl:s.heap.get? l=some {cls:=.type "dict",dict:=dd,data:=.dict es n,slots:=sl})(hu:A.units<cLine):RcAt A s (.ref t) (.ref l) false:=λprog w E Q h=>
 have ne  := vI ht hl
 rc_eq_decline_or (_,ht,rfl) (_,hl,rfl) (by decide) F.sub_dict_tuple YL XX
  (λ_ hq=>Yi YL (_,ht,rfl) F.entry_tuple_eq (F.args_tuple_eq_2 _ _) (vG t a_ m d2 Q_ l es n dd sl) (ht,hl,hq))
  (λ_ hq=>Yi XX (_,hl,rfl) F.entry_dict_eq (F.args_dict_eq_2 _ _) (vH t a_ m d2 Q_ l es n dd sl) (ht,hl,hq))
  (λ_ hq=>wpAny_isSame_ref_other' ne ht hl (show Value.type "dict" ≠ Value.type "tuple" by decide) hq) (.inr hu) h
theorem EqAt.zY(ht:s.heap.get? t=some {cls:=.type "tuple",dict:=d2,data:=.seq a_ m,slots:=Q_})
 (hl:s.heap.get? l=some {cls:=.type "dict",dict:=dd,data:=.dict es n,slots:=sl})(hu:A.units<cLine):EqAt A s (.ref t) (.ref l) false:=
 .of_refs (vI ht hl) (.zY ht hl hu)
end PySem.SeqAt
namespace Ml
open PySem PySem.Spec L2
theorem DK(sa:fw d=true)(sb:fw e=true)(h:eqQ d e=some k):d.canLay0=true/\e.canLay0=true/\min d.depth e.depth<=40/\k=PyData.eqv d e:=by
 unfold eqQ at h;split at h
 ·rename_i hn;simp[noDict]at hn;cases h;exact(kC sa hn.1.1,kC sb hn.1.2,hn.2,rfl)
 grind
theorem Pr(ra:Reads s.heap a d as)(rb:Reads s.heap b e bs)(sa:fw d=true)(sb:fw e=true)(hu:A.units+41<cLine)(h:E5 d e=some k):SeqAt.EqAt A s a b k/\d.canLay0=true:=by
 unfold E5 at h;split at h
 ·cases h;cases ra
  cases rb with
  | @dict a' o' es n kvs as1 bs1 h1 h2 h3 h4 h5=>obtain⟨oc,od,dat,Z4⟩:=o';cases h2;cases h3;exact(SeqAt.EqAt.LK _ _ h1 #[1],by assumption)
 ·split at h
  ·rename_i hn;simp only[noDict,WQ]at hn;cases h;have hl:=kC sa hn
   cases ra with
   | @tuple l o vs m xs as1 g1 g2 g3 g4=>
    obtain⟨oc2,od2,dat2,osl2⟩:=o;cases g2;cases g3
    cases rb with
    | @dict a' o' es n kvs as1 bs1 h1 h2 h3 h4 h5=>obtain⟨oc,od,dat,Z4⟩:=o';cases h2;cases h3;exact(SeqAt.EqAt.zY g1 h1 #[1],hl)
  grind
 ·obtain⟨l1,l2,l3,rfl⟩:=DK sa sb h;exact(Yz _ _ A s a b as bs ra rb l1 l2 #[1],l1)
theorem aG.lD(p:aG G E θ H (.ok d h) (KV G Q))(w:W G θ h H)(r:ck G θ H d v):Q v H:=p θ H Ev.refl w v r
theorem cG(b:Bool):ck G θ H (.bool b) (.bl b):=(rfl,by rfl)
theorem cu(i:Int):ck G θ H (.int i) (.int i):=(rfl,by rfl)
theorem GS:ck G θ H D.none .non:=(rfl,by rfl)
section
theorem ju(hr:cE k X.A):qP X E (compareOp .Eq) oEq:=by
 rintro pins s σ H x y v u Q I rx ry ⟨θ,h,d1,d2,w,r1,r2,p⟩;unfold oEq at p;split at p
 ·exact Q0 pins s σ H x y v u Q I rx ry (by cases r1;cases r2;exact(rfl,by simpa using p.lD w (cG _)))
 ·cases e1:DD h d1 with
  |none=>rw[e1]at p;exact p.elim
  |some d=>
   cases e2:DD h d2 with
   |none=>rw[e1,e2]at p;exact p.elim
   |some e=>
    rw[e1,e2]at p;simp only at p
    cases e3:eqQ d e with
    |none=>rw[e3]at p;exact p.elim
    |some b=>rw[e3]at p;obtain⟨⟨as,z1⟩,s1⟩:=gx I w 3 r1 rx e1;obtain⟨⟨bs,z2⟩,s2⟩:=gx I w 3 r2 ry e2;obtain⟨l1,l2,l3,rfl⟩:=DK s1 s2 e3;exact SeqAt.compareEq_reads z1 z2 l1 l2 (by have:=hr.units;omega) (.bl _,H,I,rfl,p.lD w (cG _))
theorem GU(hr:cE k X.A):qP X E (compareOp .NotEq) zN:=by
 rintro pins s σ H x y v u Q I rx ry ⟨θ,h,d1,d2,w,r1,r2,p⟩;unfold zN at p;split at p
 ·exact Q1 pins s σ H x y v u Q I rx ry (by cases r1;cases r2;exact(rfl,by simpa using p.lD w (cG _)))
 ·cases e1:DD h d1 with
  |none=>rw[e1]at p;exact p.elim
  |some d=>
   cases e2:DD h d2 with
   |none=>rw[e1,e2]at p;exact p.elim
   |some e=>
    rw[e1,e2]at p;simp only at p
    cases e3:eqQ d e with
    |none=>rw[e3]at p;exact p.elim
    |some b=>rw[e3]at p;obtain⟨⟨as,z1⟩,s1⟩:=gx I w 3 r1 rx e1;obtain⟨⟨bs,z2⟩,s2⟩:=gx I w 3 r2 ry e2;obtain⟨l1,l2,l3,rfl⟩:=DK s1 s2 e3;exact SeqAt.compareNe_reads z1 z2 l1 l2 (by have:=hr.units;omega) (.bl _,H,I,rfl,p.lD w (cG _))
theorem zZ(rx:Reads s.heap x d bs)(sx:fw d=true)(hu:A.units+41<cLine):∀{vs:Zb} {ds:Y9} {as:Za} {b:Bool},ReadsAll s.heap vs ds as->cF ds=true->GN d ds=some b ->
  (∀y∈vs,SeqAt.EqAt A s y x ((E5 (SeqAt.readOf s.heap y) d).getD false))/\(vs.any λy=>(E5 (SeqAt.readOf s.heap y) d).getD false)=b
 | [],_,_,b,.nil,_,e=>by cases e;grind
 |v::vs,_,_,b,.cons (d:=d1) (ds:=ds) r1 r2,so,e=>by
  simp only[cF,U1]at so;unfold GN at e
  cases e1:E5 d1 d with
  |none=>simp_all
  |some b1=>
   cases e2:GN d ds with
   |none=>simp_all
   |some b2=>
    rw[e1,e2]at e;cases e;obtain⟨h1,h2⟩:=zZ rx sx hu r2 so.2 e2;obtain⟨q1,q2⟩:=Pr r1 rx so.1 sx hu e1;have er:SeqAt.readOf s.heap v=d1:=SeqAt.readOf_eq q2 r1
    grind
theorem IU(hr:cE k X.A){σ:L2.St}(Z6:sq=.tuple ds\/sq=.list ds)(I:Inv X pins σ H s)(z1:Reads s.heap v d as)(z2:Reads s.heap u sq bs)(s1:fw d=true)(s2:cF ds=true)(e:GN d ds=some b) :
  (Q (.bl b) H->wpAny (model X.prog X.w) X.A (compareOp .In v u) (EP X pins σ Q) X.xe s)/\(Q (.bl !b) H->wpAny (model X.prog X.w) X.A (compareOp .NotIn v u) (EP X pins σ Q) X.xe s):=by
 have hu:X.A.in1.units+41<cLine:=by have:=hr.units;grind
 rcases Z6 with rfl|rfl
 ·cases z2 with
  |tuple h1 h2 h3 h4=>
   obtain⟨q1,q2⟩:=zZ (A:=X.A.in1) z1 s1 hu h4 s2 e;rename_i vs n;have q3:(vs.any λy=>(E5 (SeqAt.readOf s.heap y) d).getD false)=b:=by grind
   exact(λq=>SeqAt.in_tupleAt _ (_,h1,h2,_,h3) (λy m=>q1 y (W9.mpr m)) (by rw[q3];exact(.bl b,H,I,rfl,q)),λq=>SeqAt.notIn_tupleAt _ (_,h1,h2,_,h3) (λy m=>q1 y (W9.mpr m)) (by rw[q3];exact(.bl (!b),H,I,rfl,q)))
 ·cases z2 with
  |list h1 h2 h3 h4=>
   obtain⟨q1,q2⟩:=zZ (A:=X.A.in1) z1 s1 hu h4 s2 e;rename_i vs n _;have q3:(vs.any λy=>(E5 (SeqAt.readOf s.heap y) d).getD false)=b:=by rw[<- q2,<- Array.any_toList]
   exact(λq=>SeqAt.in_listAt _ (_,h1,h2,_,h3) (λy m=>q1 y (W9.mpr m)) (by rw[q3];exact(.bl b,H,I,rfl,q)),λq=>SeqAt.notIn_listAt _ (_,h1,h2,_,h3) (λy m=>q1 y (W9.mpr m)) (by rw[q3];exact(.bl (!b),H,I,rfl,q)))
end
end Ml
namespace PySem.SeqAt
open PySem.AutoSeq1 (wpAny_loadPart')
open PySem.MeetsSeq PySem.MeetsSeq2 PySem.MeetsSeq3
def IV(A:Zm)(s:Zn)(y x:Value)(b:Bool):Prop:=
 ∀(prog:Zj) (w:World) (E:Y4) (Q:Y4),Q (.bool b) s->wpAny (model prog w) A (richCompare .Lt y x) Q E s
inductive o5 (A:Zm) (s:Zn):Zb->Zb->Bool->Prop
 |nil:o5 A s [] [] false
 |left {w ws}:o5 A s [] (w::ws) true
 |right {v vs}:o5 A s (v::vs) [] false
 |eq {v vs w ws k}:EqAt A s v w true->o5 A s vs ws k->o5 A s (v::vs) (w::ws) k
 |ne {v vs w ws k}:EqAt A s v w false->IV A s v w k->o5 A s (v::vs) (w::ws) k
theorem qQ(l b:Addr)(D_ k_:Zh)(n n2:Nat)(dd dd2:Option Addr)(sl Q_:Zf)(k:Bool) :
  Meets (Builtin.«tuple.__lt__» ([.ref l,.ref b],[])) (λA R s=>s.heap.get? l=some {cls:=.type "tuple",dict:=dd,data:=.seq D_ n,slots:=sl}/\s.heap.get? b=some {cls:=.type "tuple",dict:=dd2,data:=.seq k_ n2,slots:=Q_}/\o5 A.in1 s D_.toList k_.toList k/\R (.ok (.ret (.bool k))) s):=
 .of_wp λprog w A R s h=>by
  obtain⟨hp,g,d,tk,os⟩:=s;obtain⟨hl,hb,hx,h⟩:=h;have f2:=AutoSeq1.sub_tuple_tuple
  wp_walk using wpAny_loadPart' hl,wpAny_loadPart' hb,wpAny_forIn_list _ (λrest b s'=>b.1=none/\s'=(hp,g,d,tk,os)/\∃(vs ws:Zb),rest=vs.zip ws/\o5 A.in1 (hp,g,d,tk,os) vs ws k/\vs.length+k_.size=ws.length+D_.size/\R (.ok (.ret (.bool k))) (hp,g,d,tk,os)) _
  case turn=>
   rintro⟨y,x⟩ rest b s' ⟨R_,rfl,vs,ws,hz,hx,hlen,hR⟩
   cases hx with
   |nil=>rw[List.zip_nil_left]at hz;cases hz
   |left=>rw[List.zip_nil_left]at hz;cases hz
   |right=>rw[List.zip_nil_right]at hz;cases hz
   | @eq v vs w' ws k he UF=>
    rw[XB]at hz;injection hz with hyx hrest;injection hyx with hy hx;subst hy hx;simp only[Vp]at hlen;refine UY (he prog w _ _ ?_)
    wp_walk
    exact(rfl,rfl,_,_,hrest,UF,by omega,hR)
   | @ne v vs w' ws k he m_=>
    rw[XB]at hz;injection hz with hyx hrest;injection hyx with hy hx;subst hy hx;refine UY (he prog w _ _ ?_);have hri:=m_ prog w
    wp_walk using hri
    exact(_,rfl,by simpa using hR)
  case fin=>
   rintro⟨b1,b2⟩ s' ⟨R_,rfl,vs,ws,hz,hx,hlen,hR⟩;simp only at R_;subst R_
   have hv:k=decide (D_.size<k_.size):=by
    cases hx with
    |nil=>simp only[Wq]at hlen;exact(V4 #[1]).symm
    |left=>simp only[Wq,Vp]at hlen;exact(Wl #[1]).symm
    |right=>simp only[Wq,Vp]at hlen;exact(V4 #[1]).symm
    |eq=>rw[XB]at hz;cases hz
    |ne=>rw[XB]at hz;cases hz
   rw[hv]at hR
   wp_walk
   exact(_,rfl,by simpa [Builtin.Tuple.tupleCompareSizes]using hR)
  case h=>exact(rfl,rfl,D_.toList,k_.toList,rfl,hx,by simp;omega,h)
theorem IV.tuples(h1:s.heap.IsTuple l D_)(h2:s.heap.IsTuple b k_)(hu:A.units<cLine)(hx:o5 A.in1 s D_.toList k_.toList k):IV A s (.ref l) (.ref b) k:=λprog w E Q h=>by
 obtain⟨⟨c1,d1,e1,l1⟩,p1,g1,n1,z1⟩:=h1;obtain⟨⟨c2,d2,e2,l2⟩,p2,g2,n2,z2⟩:=h2;subst g1 z1 g2 z2
 exact richCompare_meets_room (_,p1,rfl) (_,p2,rfl) Yw PySem.F.entry_tuple_lt (PySem.F.args_tuple_lt_2 _ _) (qQ l b _ _ n1 n2 d1 d2 l1 l2 k)
  (p1,p2,hx,((λx=>nomatch x),h)) hu
end PySem.SeqAt
namespace Ml
open PySem PySem.Spec L2
open PySem.SeqAt
mutual
theorem qR:∀(d e:PyData) (A:Zm) (s:Zn) (a b:Value) (as bs:Za) (k:Bool),Reads s.heap a d as->Reads s.heap b e bs->d.canLay0=true->e.canLay0=true->A.units+min d.depth e.depth<cLine->cv d e=some k->IV A s a b k
 |.int i,.int j,A,s,a,b,as,bs,k,ra,rb,_,_,_,h=>by cases ra;cases rb;simp only[cv]at h;cases h;exact λprog w E Q q=>(PyProof.Rows.lt_int q:wpAny (model prog w) A (compareOp .Lt _ _) Q E s)
 |.str x,.str y,A,s,a,b,as,bs,k,ra,rb,_,_,_,h=>by cases ra;cases rb;simp only[cv,pG]at h;cases h;exact λprog w E Q q=>(PySem.P.lt_str q:wpAny (model prog w) A (compareOp .Lt _ _) Q E s)
 |.tuple xs,.tuple ys,A,s,a,b,as,bs,k,ra,rb,ha,hb,hu,h=>by
  cases ra with
  |tuple g1 g2 g3 g4=>
   cases rb with
   |tuple k1 k2 k3 k4=>simp only[cv]at h;simp only[PyData.canLay0]at ha hb;simp only[PyData.depth]at hu;exact IV.tuples (_,g1,g2,_,g3) (_,k1,k2,_,k3) #[1] (sG xs ys A.in1 s _ _ _ _ k g4 k4 ha hb (by show A.units+1+_<_;omega) h)
 |.none,_,_,_,_,_,_,_,_,_,_,_,_,_,h=>by simp[cv]at h
 |.bool _,_,_,_,_,_,_,_,_,_,_,_,_,_,h=>by simp[cv]at h
 |.list _,_,_,_,_,_,_,_,_,_,_,_,_,_,h=>by simp[cv]at h
 |.dict _,_,_,_,_,_,_,_,_,_,_,_,_,_,h=>by simp[cv]at h
 |.int _,.none,_,_,_,_,_,_,_,_,_,_,_,_,h=>by simp[cv]at h
 |.int _,.bool _,_,_,_,_,_,_,_,_,_,_,_,_,h=>by simp[cv]at h
 |.int _,.str _,_,_,_,_,_,_,_,_,_,_,_,_,h=>by simp[cv]at h
 |.int _,.list _,_,_,_,_,_,_,_,_,_,_,_,_,h=>by simp[cv]at h
 |.int _,.tuple _,_,_,_,_,_,_,_,_,_,_,_,_,h=>by simp[cv]at h
 |.int _,.dict _,_,_,_,_,_,_,_,_,_,_,_,_,h=>by simp[cv]at h
 |.str _,.none,_,_,_,_,_,_,_,_,_,_,_,_,h=>by simp[cv]at h
 |.str _,.bool _,_,_,_,_,_,_,_,_,_,_,_,_,h=>by simp[cv]at h
 |.str _,.int _,_,_,_,_,_,_,_,_,_,_,_,_,h=>by simp[cv]at h
 |.str _,.list _,_,_,_,_,_,_,_,_,_,_,_,_,h=>by simp[cv]at h
 |.str _,.tuple _,_,_,_,_,_,_,_,_,_,_,_,_,h=>by simp[cv]at h
 |.str _,.dict _,_,_,_,_,_,_,_,_,_,_,_,_,h=>by simp[cv]at h
 |.tuple _,.none,_,_,_,_,_,_,_,_,_,_,_,_,h=>by simp[cv]at h
 |.tuple _,.bool _,_,_,_,_,_,_,_,_,_,_,_,_,h=>by simp[cv]at h
 |.tuple _,.int _,_,_,_,_,_,_,_,_,_,_,_,_,h=>by simp[cv]at h
 |.tuple _,.str _,_,_,_,_,_,_,_,_,_,_,_,_,h=>by simp[cv]at h
 |.tuple _,.list _,_,_,_,_,_,_,_,_,_,_,_,_,h=>by simp[cv]at h
 |.tuple _,.dict _,_,_,_,_,_,_,_,_,_,_,_,_,h=>by simp[cv]at h
theorem sG:∀(xs ys:Y9) (A:Zm) (s:Zn) (vs ws:Zb) (as bs:Za) (k:Bool),ReadsAll s.heap vs xs as->ReadsAll s.heap ws ys bs->PyData.canLayAll0 xs=true->PyData.canLayAll0 ys=true->A.units+min (PyData.depthAll xs) (PyData.depthAll ys)<cLine->dN xs ys=some k->o5 A s vs ws k
 | [],[],A,s,vs,ws,as,bs,k,ra,rb,_,_,_,h=>by cases ra;cases rb;simp only[dN]at h;cases h;exact .nil
 | [],_::_,A,s,vs,ws,as,bs,k,ra,rb,_,_,_,h=>by cases ra;cases rb;simp only[dN]at h;cases h;exact .left
 |_::_,[],A,s,vs,ws,as,bs,k,ra,rb,_,_,_,h=>by cases ra;cases rb;simp only[dN]at h;cases h;exact .right
 |x::xs,y::ys,A,s,vs,ws,as,bs,k,ra,rb,ha,hb,hu,h=>by
  cases ra with
  |cons r1 r2=>
   cases rb with
   |cons q1 q2=>
    simp only[PyData.canLayAll0,U1]at ha hb;simp only[PyData.depthAll]at hu;have he:=eqAt_reads x y A s _ _ _ _ r1 q1 ha.1 hb.1 #[1];simp only[dN]at h
    cases hq:PyData.eqv x y with
    |true=>rw[hq]at he h;exact .eq he (sG xs ys A s _ _ _ _ k r2 q2 ha.2 hb.2 #[1] (by simpa using h))
    |false=>rw[hq]at he h;exact .ne he (qR x y A s _ _ _ _ k r1 q1 ha.1 hb.1 #[1] (by simpa using h))
end
section
theorem LS(hr:cE k X.A):qP X E (compareOp .Lt) oLt:=by
 rintro pins s σ H x y v u Q I rx ry ⟨θ,h,d1,d2,w,r1,r2,p⟩;unfold oLt at p
 cases d1 with
 |dat d=>
  cases d2 with
  |dat e=>
   simp only at p;split at p
   ·rename_i hn;simp only[U1,noDict,WQ,Vy]at hn
    cases e3:cv d e with
    |none=>rw[e3]at p;exact p.elim
    |some b=>rw[e3]at p;obtain⟨⟨as,z1⟩,s1⟩:=gx I w 3 r1 rx (zM h 3 d);obtain⟨⟨bs,z2⟩,s2⟩:=gx I w 3 r2 ry (zM h 3 e);exact qR d e X.A s v u as bs b z1 z2 (kC s1 hn.1.1) (kC s2 hn.1.2) (by have:=hr.units;omega) e3 X.prog X.w X.xe _ (.bl b,H,I,rfl,p.lD w (cG b))
   ·trivial
  |_=>trivial
 |_=>trivial
theorem NA(h:jU X op (rI C g))(k:∀θ hm H d1 d2 Q,W X.G θ hm H->aG X.G (qr X.G E) θ H (f d1 d2 hm) (KV X.G Q)->∃i j,d1=.int i/\d2=.int j/\C i j/\Q (g i j) H):qP X E op f:=
 qP.of h λθ hm H d1 d2 x y Q w r1 r2 p=>by obtain⟨i,j,rfl,rfl,c,q⟩:=k θ hm H d1 d2 Q w p;exact(i,j,bT r1,bT r2,c,q)
theorem IW(h:jU X op (Og g))(k:∀θ hm H d1 d2 Q,W X.G θ hm H->aG X.G (qr X.G E) θ H (f d1 d2 hm) (KV X.G Q)->∃i j,d1=.int i/\d2=.int j/\Q (g i j) H):qP X E op f:=
 qP.of h λθ hm H d1 d2 x y Q w r1 r2 p=>by obtain⟨i,j,rfl,rfl,q⟩:=k θ hm H d1 d2 Q w p;exact(i,j,bT r1,bT r2,q)
theorem NB:qP X E (binaryOp .Sub) x6:=IW Ol λθ hm H d1 d2 Q w p=>by
 unfold x6 at p;split at p
 ·exact(_,_,rfl,rfl,p.lD w (cu _))
 ·trivial
theorem yJ:qP X E (binaryOp .Mod) oMod:=NA Oo λθ hm H d1 d2 Q w p=>by
 unfold oMod at p;split at p
 ·split at p
  ·rename_i hj;exact(_,_,rfl,rfl,hj,p.lD w (cu _))
  ·trivial
 ·trivial
theorem vJ:qP X E (binaryOp .FloorDiv) j0:=NA KW λθ hm H d1 d2 Q w p=>by
 unfold j0 at p;split at p
 ·split at p
  ·rename_i hj;exact(_,_,rfl,rfl,hj,p.lD w (cu _))
  ·trivial
 ·trivial
theorem IX:qP X E (compareOp .Gt) E6:=IW Q4 λθ hm H d1 d2 Q w p=>by
 unfold E6 at p;split at p
 ·exact(_,_,rfl,rfl,p.lD w (cG _))
 ·trivial
theorem GV:qP X E (compareOp .LtE) oLe:=qP.of (jU.or Q3 GG) λθ hm H d1 d2 x y Q w r1 r2 p=>by
 unfold oLe at p;split at p
 ·exact .inl (_,_,bT r1,bT r2,p.lD w (cG _))
 ·exact .inr (_,_,r1.1,r2.1,p.lD w (cG _))
 ·trivial
end
end Ml
set_option maxHeartbeats 1000000
namespace Ml
open PySem PySem.Spec L2 PyProof.Rows PySem.W
def tB:PyData->Nat
 |.int _=>0
 |.str _=>1
 |_=>2
def IY:Nat->String
 |0 => "int"
 |1 => "str"
 |_ => "tuple"
theorem vK(h1:h.get? a=some o)(h2:o.cls=.type "tuple"):Looks M h (typeOf (.ref a)) (.type "tuple"):=by obtain⟨oc,od,dat,Z4⟩:=o;cases h2;exact(Looks.ld h1).andThen .now
theorem GW(r:Reads h v d as)(t:au d=true):Looks M h (typeOf v) (.type (IY (tB d))):=by
 cases r with
 |int i t=>exact .now
 |str x t=>exact .now
 |tuple h1 h2 h3 h4=>exact vK h1 h2
 |_=>trivial
def Rv(h:Heap)(f:Option Value)(d:PyData):Prop:=match d with
 |.tuple []=>f=none
 |.tuple (x::_)=>∃u bs,f=some u/\Reads h u x bs
 |_=>False
section
theorem tD:∀{vs:Zb} {ds:Y9} {as:Za} {Q:List (Option Value)->Zn->Prop},ReadsAll s.heap vs ds as->ds.all gv=true->(∀fs,Paired (Rv s.heap) fs ds->Q fs s)->wpAny M A (vs.mapM firstOfTuple') Q E s
 |_,_,_,Q,.nil,_,h=>by rw[List.mapM_nil];exact UZ (h [] .nil)
 |_,_,_,Q,.cons r t,al,h=>by
  simp only[List.all_cons,U1]at al;rw[List.mapM_cons];refine UY ?_
  cases r with
  |tuple h1 h2 h3 h4=>
   rename_i o a_ n xs;rw[kas_first_eq];refine UY (Looks.here (vK h1 h2) ?_);rw[if_neg (by first|decide|simp)];refine UY (PyProof.Rows.listItems_at h1 h3 (UZ ?_));refine UY (tD t al.2 λfs hf=>UZ (h _ (.cons ?_ hf)));have e0:a_[0]?=a_.toList[0]?:=by simp
   rw[e0];generalize a_.toList=l at h4
   cases h4 with
   |nil=>rfl
   |cons r1 r2=>exact(_,_,rfl,r1)
  |_=>simp[gv]at al
theorem tE(t:aI ds=true)(c:eG ds=true)(h1:.tuple (x::xs)∈ds)(h2:.tuple (y::ys)∈ds):tB x=tB y:=by
 have t1:=bF t h1;have t2:=bF t h2;simp[au,aI]at t1 t2;have q:=fR c h1 h2;simp[cv,dN]at q;by_cases e:x=y
 ·rw[e]
 ·rw[bE t1.1 t2.1 e,if_neg (by simp)]at q;cases x<;>cases y<;>first|rfl|trivial|rfl|rfl
theorem oF:∀{fs:List (Option Value)} {ds:Y9},Paired (Rv h) fs ds->∀v∈fs.filterMap id,∃x xs bs,.tuple (x::xs)∈ds/\Reads h v x bs
 |_,_,.nil,v,hv=>by grind
 |_,_,.cons (a:=f) (l₁:=fs) (b:=d) r p,v,hv=>by
  cases d with
  |tuple ys=>
   cases ys with
   |nil=>obtain rfl:f=none:=r;obtain⟨x,xs,bs,m,q⟩:=oF p v (by simp_all);exact(x,xs,bs,by simp[m],q)
   |cons y ys=>
    obtain⟨u,bs,rfl,q⟩:=r;rcases(show v=u\/some v∈fs by simp_all)with rfl|hv
    ·exact(y,ys,bs,by simp,q)
    ·obtain⟨x,xs,bs,m,q⟩:=oF p v (by simpa using hv);exact(x,xs,bs,by simp[m],q)
  |_=>exact(show False from r).elim
theorem readsAll_len:∀{vs:Zb} {ds:Y9} {as:Za},ReadsAll h vs ds as->vs.length=ds.length
 |_,_,_,.nil=>rfl
 |_,_,_,.cons _ t=>by simp[readsAll_len t]
theorem vL:∀{vs:Zb} {ds:Y9} {as:Za},ReadsAll h vs ds as->ds.all gv=true->∀v∈vs,Looks M h (typeOf v) (.type "tuple")
 |_,_,_,.nil,_,v,hv=>by cases hv
 |_,_,_,.cons r1 r2,al,v,hv=>by
  simp only[List.all_cons,U1]at al;rcases Vb.mp hv with rfl|hv
  ·cases r1 with
   |tuple g1 g2 g3 g4=>exact vK g1 g2
   |_=>grind[gv]
  ·exact vL r2 al.2 v hv
theorem GX(r:ReadsAll s.heap vs ds as)(al:ds.all gv=true)(t:aI ds=true)(c:eG ds=true)(h2:1<=vs.length)
 (h1:∀b,(b=true->∀x xs,.tuple (x::xs)∈ds->tB x≠2)->Q (tuples' b) s)(h3:Q general' s)(h4:Q oneType' s):wpAny M A (keyKind' vs.toArray) Q E s:=by
 rw[PyProof.Rows.kat_kind_eq,List.mapM_toArray,map_eq_pure_bind];refine UY (UY (tD r al λfs hf=>UZ ?_));have hl:fs.length=ds.length:=Vo hf;have Z8:vs.length=ds.length:=readsAll_len r;split
 ·rename_i AC;refine UY (WG ?_);have e:(fs.toArray.filterMap id)=(fs.filterMap id).toArray:=by simp
  rw[e];have hall':∀f∈fs,f.isSome=true:=by simpa using AC
  obtain⟨u,us,eu⟩:∃u us,fs.filterMap id=u::us:=by
   match fs,hl,hall' with
   | [],hl,_=>simp at hl;omega
   |none::_,_,ha=>have:=ha none (.head _);cases this
   |some x::r,_,_=>exact(x,r.filterMap id,by simp)
  obtain⟨x,xs,bs,mx,rx⟩:=oF hf u (by rw[eu];simp);have tx:au x=true:=by have:=bF t mx;simp only[au,aI,U1]at this;exact this.1
  refine UY (Bm (T:=.type (IY (tB x))) (by rw[eu];simp) (λv hv=>?_) (by simp) ?_)
  ·obtain⟨y,ys,bs,my,ry⟩:=oF hf v hv;have ty:au y=true:=by have:=bF t my;simp only[au,aI,U1]at this;exact this.1
   rw[tE t c mx my];exact GW ry ty
  ·refine UZ (h1 _ λhb y ys my=>?_);rw[<- tE t c mx my];intro z;rw[z]at hb;exact absurd hb (by decide)
 ·split
  ·exact UZ h3
  ·refine UY (Bm (T:=.type "tuple") h2 (λv hv=>?_) (by rfl) ?_)
   ·exact vL r al v hv
   ·exact UZ h4
theorem Bv:∀{us vs:Zb} {xs ys:Y9} {as bs:Za} (i:Nat) (fin k:Bool),ReadsAll s.heap us xs as->ReadsAll s.heap vs ys bs->aI xs=true->aI ys=true->PyData.canLayAll0 xs=true->PyData.canLayAll0 ys=true ->
  A.units+min (PyData.depthAll xs) (PyData.depthAll ys)<cLine->fin=decide (xs.length<ys.length)->(b=true->i=0->∀x∈xs.head?,tB x≠2)->dN xs ys=some k->Q k s->KatLex P w A b fin Q (us.zip vs) i s:=by
 intro us vs xs
 induction xs generalizing us vs with
 |nil=>
  intro ys as bs i fin k r q _ _ _ _ _ e _ h z;subst e;cases r
  cases q with
  |nil=>simp[dN]at h;subst h;exact PySem.W.kat_nil z
  |cons=>simp[dN]at h;subst h;exact PySem.W.kat_nil (by simpa using z)
 |cons x xs ih=>
  intro ys as bs i fin k r qq t1 t2 l1 l2 hu e hb h q
  cases r with
  |cons r1 r2=>cases qq with
   |nil=>subst e;simp[dN]at h;subst h;exact PySem.W.kat_nil (by simpa using q)
   | @cons _ _ y ys _ _ q1 q2=>
    rw[XB];refine PySem.W.kat_cons ?_;simp only[aI,PyData.canLayAll0,U1]at t1 t2 l1 l2;simp only[PyData.depthAll]at hu;refine Yz x y A s _ _ _ _ r1 q1 l1.1 l2.1 #[1] P w _ _ ?_;simp only[dN]at h
    cases hq:PyData.eqv x y with
    |true=>rw[hq,if_pos rfl]at h;exact PySem.W.kat_yes (ih (i+1) fin k r2 q2 t1.2 t2.2 l1.2 l2.2 #[1] (by rw[e];simp) (λ_ z=>by omega) h q)
    |false=>
     rw[hq,if_neg (by simp)]at h;refine PySem.W.kat_no ?_;have fin2:wpAny (model P w) A (oneLt' false _ _) Q (λ_ _=>False) s:=kat_one _ _ (qR x y A s _ _ _ _ k r1 q1 l1.1 l2.1 #[1] h P w (λ_ _=>False) _ q)
     cases hbi:(b&&i==0)with
     |false=>exact fin2
     |true=>
      simp only[U1,YW]at hbi;have kx:=hb hbi.1 hbi.2 x (by simp)
      cases x with
      |int i1=>
       cases y with
       |int j1=>cases r1;cases q1;simp only[cv]at h;cases h;exact oneLt_int q
       |_=>simp[cv]at h
      |str i1=>
       cases y with
       |str j1=>cases r1;cases q1;simp only[cv,pG]at h;cases h;exact oneLt_str q
       |_=>simp[cv]at h
      |_=>exact absurd rfl kx
theorem DL(hu:A.units+41<cLine)(rx:Reads s.heap x (.tuple xs) as)(ry:Reads s.heap y (.tuple ys) bs)(t1:aI xs=true)(t2:aI ys=true)(l1:PyData.canLayAll0 xs=true)(l2:PyData.canLayAll0 ys=true)
 (hd:PyData.depthAll xs<=20)(h:dN xs ys=some k)(κ:SortKind)(hκ:(∃b,κ=tuples' b/\(b=true->∀x∈xs.head?,tB x≠2))\/κ=general'\/κ=oneType')(q:Q k s):wpAny (model P w) A (keyLt' κ x y) Q (λ_ _=>False) s:=by
 have ex:=rx;have ey:=ry
 cases rx with
 |tuple g1 g2 g3 g4=>
  rename_i o1 i1 n1
  cases ry with
  |tuple k1 k2 k3 k4=>
   rename_i o2 i2 n2;rcases hκ with⟨b,rfl,hb⟩|rfl|rfl
   ·refine kat_lt g1 g3 k1 k3 (Bv 0 _ k g4 k4 t1 t2 l1 l2 #[1] ?_ (λR_ _=>hb R_) h q);have z1:=readsAll_len g4;have z2:=readsAll_len k4
    grind
   ·show wpAny (model P w) A (oneLt' false _ _) Q _ s;exact kat_one _ _ (qR (.tuple xs) (.tuple ys) A s _ _ _ _ k ex ey (by simpa [PyData.canLay0]using l1) (by simpa [PyData.canLay0]using l2) (by simp only[PyData.depth];omega) (by simpa [cv]using h) P w (λ_ _=>False) _ q)
   ·rw[keyLt'_oneType,oneLt'_eq];simp only[VR];refine UY (wpAny_cRoomFor #[1] ?_);obtain⟨c1,d1,e1,sl1⟩:=o1;obtain⟨c2,d2,e2,Q_⟩:=o2;cases g2;cases g3;cases k2;cases k3;refine UY (wpAny_callSpecialIfBound?_slot (_,g1,rfl) Yw (Yi Yw (_,g1,rfl) PySem.F.entry_tuple_lt (PySem.F.args_tuple_lt_2 _ _) (SeqAt.qQ _ _ _ _ n1 n2 d1 d2 sl1 Q_ k) (g1,k1,sG xs ys _ s _ _ _ _ k g4 k4 l1 l2 (by show A.units+1+_<_;omega) h,?_)));exact V8 q
theorem sH:∀{vs:Zb} {ds:Y9} {as:Za} (i:Nat),ReadsAll h vs ds as->i<vs.length->∃bs,Reads h (vs.getD i .none) (ds.getD i .none) bs
 |_,_,_,i,.nil,hi=>by grind
 |_,_,_,0,.cons r1 _,_=>(_,r1)
 |_,_,_,i+1,.cons _ r2,hi=>by simpa using sH i r2 (by simp_all)
theorem getD_mem{α:Type}{xs:List α}{d:α}(h:i<xs.length):xs.getD i d∈xs:=by simp[h]
theorem vM:∀{ds:Y9} {d:PyData},PyData.canLayAll0 ds=true->d∈ds->d.canLay0=true
 |_::_,d,h,m=>by
  simp[PyData.canLayAll0]at h;rcases Vb.mp m with rfl|m
  ·grind
  ·exact vM h.2 m
theorem vN:∀{ds:Y9} {d:PyData},d∈ds->d.depth<=PyData.depthAll ds
 |_::_,d,m=>by
  rcases Vb.mp m with rfl|m
  ·exact Nat.le_max_left _ _
  ·exact U8 (vN m) (Nat.le_max_right _ _)
theorem yK(hu:A.units+41<cLine)(r:ReadsAll s.heap vs ds as)(al:ds.all gv=true)(t:aI ds=true)(c:eG ds=true)(l:PyData.canLayAll0 ds=true)(hd:PyData.depthAll ds<=20)(h2:1<=vs.length) :
  Ip P w A vs (λi j=>ltB (ds.getD i .none) (ds.getD j .none)) s:=by
 have hlen:=readsAll_len r
 have tup:∀{i:Nat},i<vs.length->∃xs bs,ds.getD i .none=.tuple xs/\.tuple xs∈ds/\Reads s.heap (vs.getD i .none) (.tuple xs) bs:=λ{i} hi=>by
  obtain⟨bs,q⟩:=sH i r hi;have m:ds.getD i .none∈ds:=getD_mem #[1];have a:=Vg.mp al _ m
  cases e:ds.getD i .none with
  |tuple xs=>grind
  |_=>rw[e]at a;simp[gv]at a
 have key:∀κ,((∃b,κ=tuples' b/\(b=true->∀x xs,.tuple (x::xs)∈ds->tB x≠2))\/κ=general'\/κ=oneType')->s=s/\∀i j C,i<vs.length->j<vs.length->C (ltB (ds.getD i .none) (ds.getD j .none)) s ->
   wpAny (model P w) A (keyLt' κ (vs.getD i Value.none) (vs.getD j Value.none)) C (λ_ _=>False) s:=λκ hκ=>(rfl,λi j C hi hj hC=>by
  obtain⟨xs,b1,e1,m1,q1⟩:=tup hi;obtain⟨ys,b2,e2,m2,q2⟩:=tup hj;have cc:=fR c m1 m2;have d1:=vN m1;have l1:=vM l m1;have l2:=vM l m2;have t1:=bF t m1;have t2:=bF t m2;simp only[PyData.depth]at d1;simp only[PyData.canLay0]at l1 l2;simp only[au]at t1 t2;rw[e1,e2]at hC;refine DL hu q1 q2 t1 t2 l1 l2 #[1] (by simpa [cv]using cc) κ ?_ hC;rcases hκ with⟨b,rfl,hb⟩|h|h
  ·refine .inl (b,rfl,λR_ x hx=>?_)
   cases xs with
   |nil=>simp at hx
   |cons z zs=>simp at hx;subst hx;exact hb R_ z zs m1
  ·exact .inr (.inl h)
  ·exact .inr (.inr h))
 exact GX r al t c h2 (λb hb=>key _ (.inl (b,rfl,hb))) (key _ (.inr (.inl rfl))) (key _ (.inr (.inr rfl)))
end
end Ml
namespace Ml
open PySem PySem.Spec L2
section
theorem qS(w:W G θ hm H)(r:ck G θ H x v)(e:listOf x hm=some ds):∃a vs,v=.ref a/\H a=some (.lst vs)/\bu (view θ H) ds vs/\cF ds=true:=by
 unfold listOf at e;split at e
 ·cases e;obtain⟨⟨a,vs,rfl,ha,rr⟩,so⟩:=r;exact(a,vs,rfl,ax _ _ _ _ ha,rr,by assumption)
 ·obtain⟨a,ha,rfl⟩:=r;split at e
  ·rename_i ys hy;obtain⟨vs,hv,rs⟩:=w.obj _ _ _ ha hy;obtain⟨h1,h2⟩:=oE rs e
   simp_all
  grind
 grind
theorem yL(r:ReadsAll s.heap vs ds as)(al:ds.all vw=true)(h2:2<=vs.length):PySem.W.Ip P w A vs (λi j=>ltB (ds.getD i .none) (ds.getD j .none)) s:=by
 have hlen:=readsAll_len r
 have tup:∀{i:Nat},i<vs.length->∃x tk,ds.getD i .none=.str x/\vs.getD i .none=.str x tk:=λ{i} hi=>by
  obtain⟨bs,q⟩:=sH i r hi;have m:ds.getD i .none∈ds:=getD_mem #[1];have a:=Vg.mp al _ m
  cases e:ds.getD i .none with
  |str x=>rw[e]at q;generalize vs.getD i .none=z at q;cases q;exact(x,_,rfl,rfl)
  |_=>rw[e]at a;simp[vw]at a
 refine PySem.W.kas_kind h2 (T:=.type "str") (λv hv=>?_) (by decide) (by decide) (rfl,λi j C hi hj hC=>?_)
 ·obtain⟨i,hi,e⟩:=Ws.mp hv;obtain⟨x,tk,_,e2⟩:=tup hi;have:vs.getD i .none=v:=by simp[hi,e]
  rw[this]at e2;subst e2;exact .now
 ·obtain⟨x,t1,e1,f1⟩:=tup hi;obtain⟨y,t2,e2,f2⟩:=tup hj;rw[f1,f2,PyProof.Rows.keyLt'_oneType];simp only[e1,e2]at hC;exact PyProof.Rows.oneLt_str (by simpa [ltB,cv,pG]using hC)
theorem Rx(o:Ord ltB ds):PySem.W.oW (λi j=>ltB (ds.getD i .none) (ds.getD j .none)) ds.length:=
 (λa b ha hb h=>o.as (getD_mem ha) (getD_mem hb) h,λa b c ha hb hc h h'=>o.ntr (getD_mem ha) (getD_mem hb) (getD_mem hc) h h')
theorem bM:∀{ds:Y9},cF ds=true<->∀d∈ds,fw d=true
 | []=>by trivial
 |d::ds=>by simp[cF,bM]
theorem yM(p:ds.Perm es)(h:cF ds=true):cF es=true:=bM.mpr λd m=>bM.mp h d (p.mem_iff.mpr m)
noncomputable def Pt:List V->Hp->VK->Prop:=λxs H Q=>∃(a:Addr) (vs:List V) (M:Hp) (ds:Y9),xs=[.ref a]/\H a=some (.lst vs)/\bZ M H/\bu M ds vs/\cF ds=true/\eY ds=true /\
 ∀(p:Addr) (us:List V),H p=none->bu M (cQ ltB ds) us->us.length<=sizeLine->Q (.ref p) (upd H p (.lst us))
theorem Aa(hr:cE k X.A):dB X (.builtin "sorted") Pt:=by
 intro pins s σ H xs us Q I r h;obtain⟨a,vs,M,ds,rfl,ha,sm,rp,so,ok,q⟩:=h;simp only[eY,U1,Vy,Wc]at ok;obtain⟨⟨⟨⟨kd,tr⟩,cm⟩,dp⟩,h64⟩:=ok
 cases r with
 |cons r rr=>
  cases rr;cases r;obtain⟨a_,rv,pl,_⟩:=I.list (iA.of (K:=X.K) ha);have hlen:vs.length=ds.length:=rp.length;have X_:a_.length=ds.length:=by grind[rv.length]
  obtain⟨as,ra⟩:=bu.reads I (rp.same sm) rv;have nd:PyData.hasDictAll ds=false:=ja tr;have la:=qI so nd;have O:=Rx (jf cm tr);rw[<- X_]at O;refine PySem.W.vm pl.isList O #[1] (λh' kp h2=>?_) λp hp hs=>?_
  ·have ra':ReadsAll h' a_ ds as:=VU kp ra;rcases kd with kd|kd
   ·exact yL (s:={s with heap:=h'}) ra' kd h2
   ·exact yK (s:={s with heap:=h'}) (by have:=hr.un;show X.A.units+1+1+41<cLine;omega) ra' kd tr cm la dp #[1]
  ·have ge:s.heap.objs.size<=s.heap.objs.size+1:=W5 _;have nn:H (s.heap.objs.size+1)=none:=I.hok.fresh ge;obtain⟨e,he⟩:=PyProof.Rows.sortedAll_at s.heap a_ (p.toList.map λi=>a_.getD i Value.none).toArray;have Re:∀i∈p.toList,i<vs.length:=λi hi=>by have:=VI.mp (hp.perm.mem_iff.mp hi);omega
   have hlp:p.toList.length=ds.length:=by rw[hp.perm.length_eq,Yk,X_]
   have hz:(p.toList.map λi=>vs.getD i .non).length<=sizeLine:=by rw[Ve,hlp];exact U8 (Yt h64) (by decide)
   refine(.ref _,_,I.laid (t':=s.toks) (o:=.lst (p.toList.map λi=>vs.getD i .non)) (λb o k=>PyProof.Rows.sortedAll_old k) ge (hz,_,e,yA rv p.toList Re,by simpa [PyProof.Rows.seqObj]using he),rfl,q _ _ nn ?_ hz)
   have e1:(p.toList.map λi=>ds.getD i .none)=cQ ltB ds:=by
    refine Bt cm tr ?_ ?_
    ·have:=hp.perm.map (λi=>ds.getD i .none);rw[X_,lR]at this;exact this
    ·unfold Up;rw[Yl,W7];intro i j hi hj J_;have e1:PySem.W.pat p i=p.toList[i]:=by simp only[V0]at hi;rw[PySem.W.m8,Y3 p i hi];simp
     have e2:PySem.W.pat p j=p.toList[j]:=by simp only[V0]at hj;rw[PySem.W.m8,Y3 p j hj];simp
     have:=hs i j J_ (by rw[X_];omega);rw[e1,e2]at this;exact this
   rw[<- e1];exact yB rp .none p.toList Re
theorem nq(hr:cE k X.A):qt X E (.builtin "sorted") dz:=qt.of (Aa hr) λθ hm H ds xs Q w r p=>by
 unfold dz at p;split at p
 ·cases r with
  |cons r rr=>
   cases rr;split at p
   ·rename_i ys hy;split at p
    ·rename_i ok;obtain⟨a,vs,rfl,ha,rp,so⟩:=qS w r hy;refine(a,vs,view θ H,ys,rfl,ha,ax _ _,rp,so,ok,λq us hq ru hz=>?_);obtain⟨e1,w1,g⟩:=w.put hq;refine p _ _ e1 w1 _ ((q,us,rfl,g,ru.same e1.same),?_);exact yM (aY _ _).symm so
    ·trivial
   ·trivial
 ·trivial
end
section
theorem fM(r:ck G θ H (.str x) v):v=.str x/\PyData.strOk x=true:=(r.1,by simpa [fw]using r.2)
theorem Ab(h:PyData.strOk x=true)(h':PyData.strOk y=true):PyData.strOk (x++y)=true:=by have e:(x++y).cps=x.cps++y.cps:=rfl;unfold PyData.strOk at h h' ⊢;simp[e,h,h']
theorem Bw(w:W G θ hm H)(x:Ext H (view θ H) H' M'):Ev θ H θ H'/\W G θ hm H'/\bZ M' (view θ H'):=by
 obtain⟨e1,w1⟩:=w.grow x.sh;refine(e1,w1,λc o q=>?_)
 have nb:c∉θ:=λz=>by
  obtain⟨i,hi,ei⟩:=Ws.mp z;have hl:i<hm.length:=by rw[<- w.len];exact hi
  have hn  := DJ.some _ (w.obj i c hm[i] (by simp_all) (Va hl));rw[x.old c hn]at q;exact(dD q).1 z
 rw[eN nb];exact x.gs c o q
theorem gR:qP X E (binaryOp .Add) cJ:=qP.of (jU.or Oj (jU.or Dk (jU.or LH OE))) λθ hm H d1 d2 x y Q w r1 r2 p=>by
 unfold cJ at p;split at p
 ·exact .inl (_,_,bT r1,bT r2,p.lD w (cu _))
 ·split at p
  ·rename_i hz;obtain⟨e1,s1⟩:=fM r1;obtain⟨e2,s2⟩:=fM r2;exact .inr (.inl (_,_,e1,e2,dP hz,p.lD w (rfl,by simp only[fw];exact Ab s1 s2)))
  ·exact p.elim
 ·split at p
  ·rename_i xs ys hz;refine .inr (.inr (.inl (view θ H,xs,ys,ax _ _,r1.1,r2.1,dP hz,λr H' M' ex rr=>?_)));obtain⟨e1,w1,sm⟩:=Bw w ex;have s1:cF xs=true:=by simpa [fw]using r1.2
   have s2:cF ys=true:=by simpa [fw]using r2.2
   refine p _ _ e1 w1 _ (rr.same sm,?_);simp only[fw]
   exact bM.mpr λd m=>by
    rcases Vd.mp m with m|m
    ·exact bM.mp s1 d m
    ·exact bM.mp s2 d m
  ·exact p.elim
 ·split at p
  ·rename_i xs ys hz;have s1:cF xs=true:=by simpa [fw]using r1.2
   have s2:cF ys=true:=by simpa [fw]using r2.2
   obtain⟨a,us,rfl,ha,q1,_⟩:=fL r1;obtain⟨b,ws,rfl,hb,q2,_⟩:=fL r2;refine .inr (.inr (.inr (a,b,us,ws,rfl,rfl,ax _ _ _ _ ha,ax _ _ _ _ hb,by rw[q1.length,q2.length];exact dP hz,λq hq=>?_)));obtain⟨e1,w1,g⟩:=w.put (o:=.lst (us++ws)) hq;refine p _ _ e1 w1 _ ((q,_,rfl,g,(q1.append q2).same e1.same),?_);simp only[fw]
   exact bM.mpr λd m=>by
    rcases Vd.mp m with m|m
    ·exact bM.mp s1 d m
    ·exact bM.mp s2 d m
  ·exact p.elim
 ·exact p.elim
theorem yN(r:bu M ds vs):∀n:Nat,bu M (List.replicate n ds).flatten (List.replicate n vs).flatten
 |0=>rfl
 |n+1=>r.append (yN r n)
theorem o6:qP X E (binaryOp .Mult) i9:=qP.of (jU.or Om OF) λθ hm H d1 d2 x y Q w r1 r2 p=>by
 unfold i9 at p;split at p
 ·split at p
  ·rename_i hc;refine .inl (_,_,bT r1,bT r2,?_,p.lD w (cu _));simp only[vq,Wc,U1,Vy]at hc;exact hc
  ·exact p.elim
 ·split at p
  ·rename_i xs j hc;simp only[U1,Vy]at hc;have s1:cF xs=true:=by simpa [fw]using r1.2
   obtain⟨a,us,rfl,ha,q1,_⟩:=fL r1;refine .inr (a,j,us,rfl,bT r2,ax _ _ _ _ ha,hc.1.2,hc.2,by rw[q1.length];exact dP hc.1.1,λq hq=>?_);obtain⟨e1,w1,g⟩:=w.put (o:=.lst (List.replicate j.toNat us).flatten) hq;refine p _ _ e1 w1 _ ((q,_,rfl,g,(yN q1 _).same e1.same),?_);simp only[fw];exact bM.mpr λd m=>by obtain⟨l,hl,hd⟩:=List.mem_flatten.mp m;rw[(List.mem_replicate.mp hl).2]at hd;exact bM.mp s1 d hd
  ·exact p.elim
 ·exact p.elim
theorem Ac(f:α->β)(xs:List α)(i:Int):mU (xs.map f) i=(mU xs i).map f:=by
 unfold mU;rw[Ve]
 cases xS xs.length i with
 |none=>rfl
 |some j=>simp
theorem Ad(r:bj G θ H ds vs)(e:mU ds i=some d):∃v,L2.mU vs i=some v/\ck G θ H d v:=by
 have hl  := Vo r;unfold L2.mU;rw[<- hl]
 change (xS ds.length i).bind _=_ at e
 show ∃v,(xS ds.length i).bind _=some v/\_
 cases hj:xS ds.length i with
 |none=>grind
 |some j=>rw[hj]at e;exact bj.some r e
theorem IZ:Qy X (Pd X.G E zP):=by
 rintro value slice pins s σ H x y v u Q I rx ry ⟨θ,h,d1,d2,w,r1,r2,p⟩ hs;unfold zP at p;split at p
 ·rename_i i;have ey:=bT r2;split at p
  ·rename_i ds;split at p
   ·rename_i d he;obtain⟨a,us,rfl,ha,q1,q2⟩:=jb r1;obtain⟨z,e1,rz⟩:=Ad (i:=i) (d:=.dat d) q2 (by rw[Ac,he];rfl);exact OB value slice pins s σ H _ y v u Q I rx ry (a,us,i,z,rfl,ey,i8.of (ax _ _ _ _ ha),e1,p.lD w rz) hs
   ·exact p.elim
  ·rename_i ds;split at p
   ·rename_i d he;obtain⟨a,us,rfl,ha,q1,q2⟩:=fL r1;obtain⟨z,e1,rz⟩:=Ad (i:=i) (d:=.dat d) q2 (by rw[Ac,he];rfl);exact zA value slice pins s σ H _ y v u Q I rx ry (a,us,i,z,rfl,ey,iA.of (ax _ _ _ _ ha),e1,p.lD w rz) hs
   ·exact p.elim
  ·rename_i j;split at p
   ·rename_i xs hx;split at p
    ·rename_i d he;obtain⟨a,ha,rfl⟩:=r1;obtain⟨vs,hv,rs⟩:=w.obj _ _ _ ha hx;obtain⟨z,e1,rz⟩:=Ad rs he;exact zA value slice pins s σ H _ y v u Q I rx ry (a,vs,i,z,rfl,ey,iA.of hv,e1,p.lD w rz) hs
    ·exact p.elim
   ·exact p.elim
  ·rename_i ns;split at p
   ·rename_i n he;obtain⟨a,rfl,hq⟩:=r1;have e1:L2.mU (ns.map V.int) i=some (.int n):=by have:=Ac V.int ns i;rw[he]at this;exact this
    exact zA value slice pins s σ H _ y v u Q I rx ry (a,_,i,_,rfl,ey,(ax _ _).seq hq,e1,p.lD w (cu _)) hs
   ·exact p.elim
  ·exact p.elim
 ·exact p.elim
def lO(G:Gx)(E:XK)(m:O9):TO:=λσ H Q=>∃θ h ρ,W G θ h H/\Fr G θ H ρ σ/\aG G (qr G E) θ H (m ρ h) (λo _ _ H'=>Q o H')
@[irreducible] noncomputable def DO(X:Cx)(E:XK)(m:O9)(e:Option Expr):Prop:=PO X e (lO X.G E m)
theorem I0(X:Cx)(E:XK)(m:O9)(e:Option Expr):DO X E m e=(PO X e (lO X.G E m)):=by
 grind[DO]
theorem PO.imp{e:Option Expr}{t t':TO}(h:PO X e t)(k:∀σ H Q,t' σ H Q->t σ H Q):PO X e t':=λpins s σ H Q I q=>h pins s σ H Q I (k _ _ _ q)
theorem Fp:DO X E yD none:=by simp[I0]at *;exact PO.imp Lf (by rintro σ H Q ⟨θ,h,ρ,w,fr,p⟩;exact p θ H Ev.refl w)
theorem Fq(h:DE X E m e):DO X E (yE m) (some e):=by
 simp[bG,I0]at *
 exact PO.imp (Lg h) (by rintro σ H Q ⟨θ,h,ρ,w,fr,p⟩;exact(θ,h,ρ,w,fr,(aG.bind p).mono (by
  rintro d b_ h1 H1 _ _ ⟨ev,w1,p1⟩ v r;split at p1
  ·exact(_,bT r,p1 b_ H1 Ev.refl w1)
  ·trivial)))
theorem LU(r:bu M ds vs)(lo hi:Option Int):bu M (cut ds lo hi) (Bb vs lo hi):=by unfold cut Bb;have e  := r.length;rw[e];exact(r.drop _).take _
theorem LV(h:x∈cut xs lo hi):x∈xs:=List.mem_of_mem_drop (XO h)
theorem By(h:cF ds=true)(lo hi:Option Int):cF (cut ds lo hi)=true:=bM.mpr λd m=>bM.mp h d (LV m)
def Tz(G:Gx)(E:XK):V->Option Int->Option Int->Hp->VK->Prop:=λx lo hi H Q=>∃θ h d,W G θ h H/\ck G θ H d x/\aG G (qr G E) θ H (Rr d lo hi h) (KV G Q)
theorem LW:Q8 X (Tz X.G E):=by
 rintro pins s σ H x v vl vu lo hi sl Q I rx hs pl pu ⟨θ,h,d,w,r,p⟩;unfold Rr at p;split at p
 ·rename_i ds;refine LJ pins s σ H x v vl vu lo hi sl Q I rx hs pl pu (view θ H,ds,ax _ _,r.1,λr' H' M' ex rr=>?_);obtain⟨e1,w1,sm⟩:=Bw w ex;exact p _ _ e1 w1 _ (rr.same sm,by simp only[fw];exact By (by simpa [fw]using r.2) lo hi)
 ·rename_i ds;have so:cF ds=true:=by simpa [fw]using r.2
  obtain⟨a,us,rfl,ha,q1,q2⟩:=fL r;refine Li pins s σ H _ v vl vu lo hi sl Q I rx hs pl pu (a,us,rfl,iA.of (ax _ _ _ _ ha),λq hq=>?_);obtain⟨e1,w1,g⟩:=w.put (o:=.lst (Bb us lo hi)) hq;exact p _ _ e1 w1 _ ((q,_,rfl,g,(LU q1 lo hi).same e1.same),by simp only[fw];exact By so lo hi)
 ·exact p.elim
theorem Bz(he:DE X E m e)(hl:DO X E ml lo)(hu:DO X E mh hi):DE X E (Qz m ml mh) (.Subscript e (.Slice lo hi none p2) pos):=by simp[bG,I0]at *;exact PE.imp (HX LW he hl hu) (by rintro σ H Q ⟨θ,h,ρ,w,fr,p⟩;exact(θ,h,ρ,w,fr,(aG.bind p).mono (by rintro d b_ h1 H1 _ _ ⟨ev,w1,p1⟩ v r;exact(b_,h1,ρ,w1,fr.ev ev,(aG.bind p1).mono (by rintro l q_ h2 H2 _ _ ⟨C_,w2,p2⟩;exact(q_,h2,ρ,w2,(fr.ev ev).ev C_,(aG.bind p2).mono (by rintro u Zx h3 H3 _ _ ⟨ev3,w3,p3⟩;exact(Zx,h3,d,w3,(r.ev C_).ev ev3,p3))))))))
theorem o7:qt X E (.builtin "len") iZ:=qt.of HR λθ hm H ds xs Q w r p=>by
 unfold iZ at p;split at p
 ·split at p
  ·rename_i hz
   cases r with
   |cons r rr=>cases rr;exact(_,_,rfl,by rw[(fM r).1];exact(dP hz,rfl),p.lD w (cu _))
  ·exact p.elim
 ·cases r with
  |cons r rr=>cases rr;obtain⟨a,us,rfl,ha,q1,_⟩:=jb r;exact(_,_,rfl,.inr (us,i8.of (ax _ _ _ _ ha),q1.length.symm),p.lD w (cu _))
 ·cases r with
  |cons r rr=>cases rr;obtain⟨a,us,rfl,ha,q1,_⟩:=fL r;exact(_,_,rfl,.inl (us,iA.of (ax _ _ _ _ ha),q1.length.symm),p.lD w (cu _))
 ·rename_i i;split at p
  ·rename_i ys hy
   cases r with
   |cons r rr=>cases rr;obtain⟨a,ha,rfl⟩:=r;obtain⟨vs,hv,rs⟩:=w.obj _ _ _ ha hy;exact(_,_,rfl,.inl (vs,iA.of hv,Vo rs),p.lD w (cu _))
  ·exact p.elim
 ·rename_i ns
  cases r with
  |cons r rr=>cases rr;obtain⟨a,rfl,hq⟩:=r;exact(_,_,rfl,.inl (_,(ax _ _).seq hq,by simp),p.lD w (cu _))
 ·exact p.elim
theorem pO:∀{ds:Y9} {vs:List V} {bs:List Bool},bu M ds vs->bools ds=some bs->vs=bs.map V.bl
 | [],_,bs,h,e=>by cases h;cases e;rfl
 |d::ds,_,bs,(v,vs,rfl,r,rs),e=>by
  cases d with
  |bool b=>simp[bools]at e;obtain⟨bs',e1,e2⟩:=e;subst e2;rw[pO rs e1,r];rfl
  |_=>trivial
theorem vO(hc:X.calm=true):qt X E (.builtin "all") sC:=qt.of (Ij hc) λθ hm H ds xs Q w r p=>by
 unfold sC at p;split at p
 ·split at p
  ·rename_i bs hb
   cases r with
   |cons r rr=>cases rr;obtain⟨a,us,rfl,ha,q1,_⟩:=fL r;rw[pO q1 hb]at ha;exact(a,bs,rfl,iA.of (ax _ _ _ _ ha),p.lD w (cG _))
  ·trivial
 ·trivial
end
end Ml
namespace L2
open PySem PySem.Spec PyProof.Rows
section
theorem any_range(bs:List Bool):((List.range bs.length).any λi=>(bs[i]?).getD true)=bs.any id:=by
 rw[VO,VL,VL];constructor
 ·rintro⟨i,hi,h⟩;have Do:=VI.mp hi;simp only[Do,Va,WZ]at h;exact(bs[i],Y0 Do,h)
 ·rintro⟨b,hb,h⟩;obtain⟨i,hi,e⟩:=Ws.mp hb;refine(i,VI.mpr hi,?_);simp only[hi,Va,WZ,e];exact h
theorem Ja(hc:X.calm=true):dB X (.builtin "any") (λxs H Q=>∃(l:Addr) (bs:List Bool),xs=[.ref l]/\iA X.K H l (bs.map V.bl)/\Q (.bl (bs.any id)) H):=by
 intro pins s σ H vs us Q I r h;obtain⟨l,bs,rfl,hq,q⟩:=h
 cases r with
 |cons r rr=>
  cases rr;cases r;obtain⟨a_,rv,p,_⟩:=I.list hq;have pl:=p.isList;have m_:l<s.heap.objs.size:=by obtain⟨_,e,_⟩:=pl;exact U6 e
  refine call_any_walk (Xd pl ?_);refine(s.heap.objs.size,[s.heap.objs.size,l],[s.heap.objs.size],a_.toArray.size,_,_,λi=>(bs[i]?).getD true,rfl,Walks.list (A:=X.A.in1) (I.ok.hd hc) _ l (Vi m_) a_.toArray,((_,U5 _ rfl,rfl,rfl),pl.push _),λi v s' Q' E' hP hQ=>?_,λh' tk hk=>?_)
  ·have hP':a_[i]?=some v:=by simpa using hP
   have hi:i<(bs.map V.bl).length:=by rw[rv.length];exact(U9.mp hP').1
   obtain⟨u,hu,ru⟩:=rv.get (i:=i) (x:=(bs.map V.bl)[i]) (by simp[hi]);rw[hP']at hu;cases hu;rw[Ve]at hi;simp only[List.getElem_map]at ru;obtain rfl:v=Value.bool bs[i]:=ru;have hQ':=hQ;simp only[hi,Va,WZ]at hQ';exact V8 hQ'
  ·have e:((List.range a_.toArray.size).any λi=>(bs[i]?).getD true)=bs.any id:=by
    rw[Vq,<- rv.length,Ve];exact any_range bs
   rw[e];exact(.bl _,H,I.kept λb o e=>hk b o (λhm=>by rw[Vm.mp hm]at e;exact VE _ (U6 e)) (U0 _ e),rfl,q)
theorem LX(K:Zc)(d:PyData):PySem.W.kitOne K (.type (OR d)) (.type "int")=some (match d with|.int _|.bool _=>true|_=>false):=by cases d<;>first|rfl|decide
theorem Jb(K:Zc)(d:PyData):PySem.W.kitOne K (.type (OR d)) (.type "bool")=some (match d with|.bool _=>true|_=>false):=by cases d<;>first|rfl|decide
end
end L2
namespace Ml
open PySem PySem.Spec L2
section
theorem Ry(hc:X.calm=true):qt X E (.builtin "any") GO:=qt.of (Ja hc) λθ hm H ds xs Q w r p=>by
 unfold GO at p;split at p
 ·split at p
  ·rename_i bs hb
   cases r with
   |cons r rr=>cases rr;obtain⟨a,us,rfl,ha,q1,_⟩:=fL r;rw[pO q1 hb]at ha;exact(a,bs,rfl,iA.of (ax _ _ _ _ ha),p.lD w (cG _))
  ·trivial
 ·trivial
theorem Pu(kit:∀d,PySem.W.kitOne X.K (.type (OR d)) (.type n)=some (f d))(bt:bootBuiltins T=some (.type n))(m1:X.mg "isinstance" = none)(m2:X.mg T=none)(h:DE X E m e){p p2:Pos}(g1:Gl X "isinstance" := by rfl)(g2:Gl X T:=by rfl)(hT:T ≠ "__name__" := by decide)(hT2:(T==("__debug__" : Str))=false:=by decide)
 (hs:starEach [e,.Name T p2] X.env=(false,eval e X.env)::starEach [.Name T p2] X.env:=by rfl)(B_:starEach [.Name T p2] X.env=[(false,eval (.Name T p2) X.env)]:=by rfl)(t_:(backTo pos (starEach [.Name T p2] X.env)).any (·.1)=false:=by rfl):DE X E (Iu (vt f) m) (.Call (.Name "isinstance" p) [e,.Name T p2] [] pos):=by
 simp only[bG]at *
 exact PE.imp (Ba Ik g1 m1 xZ (qy h (qy (KL (v:=.ty n) g2 m2 bt rfl hT hT2) zx B_) hs) (by decide) (by decide) hs t_) (by rintro σ H Q ⟨θ,h,ρ,w,fr,p⟩;exact(θ,h,ρ,w,fr,(aG.bind p).mono (by
   rintro d b_ h1 H1 _ _ ⟨ev,w1,p1⟩ v r
   cases d with
   |dat d=>exact(v,n,_,f d,rfl,(r.1.same (ax _ _)).ty,kit d,p1.lD w1 (cG _))
   |_=>trivial)))
theorem vP(x:Str):∀(l:List Nat),bu M (l.map λi=>.str ⟨#[x.cps.getD i 0]⟩) (l.map (sgn x))
 | []=>rfl
 |i::l=>.cons rfl (vP x l)
theorem Jc(h:PyData.strOk x=true):cF (jn x)=true:=bM.mpr λd m=>by obtain⟨i,_,rfl⟩:=Vl.mp m;exact Fj h
theorem oG(hc:X.calm=true):qt X E (.type "tuple") jo:=qt.of (dB.or xU (Bk hc)) λθ hm H ds xs Q w r p=>by
 unfold jo at p;split at p
 ·cases r with
  |cons r rr=>cases rr;obtain⟨a,us,e,ha,q1,_⟩:=jb r;subst e;exact .inl (a,us,rfl,.inr (i8.of (ax _ _ _ _ ha),p.lD w r))
 ·split at p
  ·rename_i s hz
   cases r with
   |cons r rr=>cases rr;obtain⟨e1,s1⟩:=fM r;subst e1;refine .inr (s,rfl,dP hz,λq hq=>?_);obtain⟨e1,w1,g⟩:=w.put (o:=.tup ((List.range s.cps.size).map (sgn s))) hq;exact p _ _ e1 w1 _ ((q,_,rfl,g,vP s _),by simp only[fw];exact Jc s1)
  ·exact p.elim
 ·split at p
  ·rename_i ds hy
   cases r with
   |cons r rr=>cases rr;obtain⟨a,vs,rfl,ha,rp,so⟩:=qS w r hy;refine .inl (a,vs,rfl,.inl (iA.of ha,λq hq=>?_));obtain⟨e1,w1,g⟩:=w.put (o:=.tup vs) hq;exact p _ _ e1 w1 _ ((q,_,rfl,g,rp.same e1.same),by simpa [fw]using so)
  ·exact p.elim
 ·exact p.elim
theorem LY:qt X E (.type "list") DF:=qt.of zC λθ hm H ds xs Q w r p=>by
 unfold DF at p;split at p
 ·cases r with
  |cons r rr=>cases rr;have so:=r.2;obtain⟨a,us,e,ha,q1,_⟩:=jb r;subst e;refine(a,us,rfl,.inr (i8.of (ax _ _ _ _ ha)),λq hq=>?_);obtain⟨e1,w1,g⟩:=w.put (o:=.lst us) hq;exact p _ _ e1 w1 _ ((q,_,rfl,g,q1.same e1.same),by assumption)
 ·split at p
  ·rename_i ds hy
   cases r with
   |cons r rr=>cases rr;obtain⟨a,vs,rfl,ha,rp,so⟩:=qS w r hy;refine(a,vs,rfl,.inl (iA.of ha),λq hq=>?_);obtain⟨e1,w1,g⟩:=w.put (o:=.lst vs) hq;exact p _ _ e1 w1 _ ((q,_,rfl,g,rp.same e1.same),by simpa [fw]using so)
  ·exact p.elim
 ·exact p.elim
theorem Jd:qt X E (.builtin "divmod") uK:=qt.of A8 λθ hm H ds xs Q w r p=>by
 unfold uK at p;split at p
 ·split at p
  ·rename_i i j hj
   cases r with
   |cons r1 rr=>
    cases rr with
    |cons r2 rr=>cases rr;cases bT r1;cases bT r2;refine(i,j,rfl,hj,λq hq=>?_);obtain⟨e1,w1,g⟩:=w.put hq;exact p _ _ e1 w1 _ ((q,_,rfl,g,.cons rfl (.one rfl)),by rfl)
  ·trivial
 ·trivial
theorem Rz:qt X E (.builtin "abs") LN:=qt.of HQ λθ hm H ds xs Q w r p=>by
 unfold LN at p;split at p
 ·cases r with
  |cons r1 rr=>cases rr;cases bT r1;exact(_,rfl,p.lD w (cu _))
 ·trivial
theorem RA(hc:X.calm=true):qt X E (.builtin "max") Iz:=qt.of (Gp hc) λθ hm H ds xs Q w r p=>by
 unfold Iz at p;split at p
 ·cases r with
  |cons r1 rr=>
   cases rr with
   |cons r2 rr=>cases rr;cases bT r1;cases bT r2;exact(_,_,rfl,p.lD w (cu _))
 ·exact p.elim
theorem RB(hc:X.calm=true):qt X E (.builtin "min") IA:=qt.of (Gq hc) λθ hm H ds xs Q w r p=>by
 unfold IA at p;split at p
 ·cases r with
  |cons r1 rr=>
   cases rr with
   |cons r2 rr=>cases rr;cases bT r1;cases bT r2;exact(_,_,rfl,p.lD w (cu _))
 ·trivial
theorem NC:qt X E (.type "int") zQ:=qt.of Gr λθ hm H ds xs Q w r p=>by
 unfold zQ at p;split at p
 ·cases r with
  |cons r1 rr=>cases rr;cases bT r1;exact .inl (_,rfl,p.lD w (cu _))
 ·cases r with
  |cons r1 rr=>cases rr;obtain⟨e1,_⟩:=r1;cases e1;exact .inr (_,rfl,p.lD w (cu _))
 ·trivial
theorem Ae(hr:cE k X.A):qt X E (.builtin "repr") mO:=by
 rintro pins s σ H xs us Q I r ⟨θ,h,ds,w,rs,p⟩;unfold mO at p;split at p
 ·rename_i x
  cases rs with
  |cons r1 rr=>
   cases rr
   cases r with
   |cons rv rr=>
    cases rr;rename_i v u;split at p
    ·rename_i d hd;obtain⟨⟨as,z⟩,so⟩:=gx I w 3 r1 rv hd;split at p
     ·rename_i ok;have fin:∀(h':Heap) (tk:Tok) (t':Nat),(∀b o,s.heap.get? b=some o->h'.get? b=some o)->EP X pins σ Q (.str d.shown tk) {s with heap:=h',toks:=t'}:=λh' tk t' hk=>(.str d.shown,H,I.kept hk,(_,rfl),p.lD w rfl);have fin0:∀(tk:Tok) (t':Nat),EP X pins σ Q (.str d.shown tk) {s with toks:=t'}:=λtk t'=>(.str d.shown,H,I.tok _,(_,rfl),p.lD w rfl);simp only[Wc]at ok;rcases ok with ok|ok
      rotate_left
      ·unfold Iy at ok;split at ok
       ·rename_i kvs;simp only[U1,Vy]at ok
        cases x with
        |dat d'=>simp only[DD,zM,Xe]at hd;subst hd;exact Dz hr pins s σ H [v] [u] Q I (.cons rv .nil) (kvs,v,rfl,r1.1.same (ax _ _),ok.1.1,ok.1.2,dP ok.2,p.lD w rfl)
        |ref i=>
         simp only[DD,A1]at hd;split at hd
         ·simp only[VC]at hd;obtain⟨_,_,z⟩:=hd;cases z
         ·cases hd
        |ktup xs=>simp[DD,A1]at hd
        |_=>simp[DD,A1]at hd
       ·cases ok
      have hsz:d.shown.length<=sizeLine/\d.showable=true/\d.depth<=40:=by simp only[Bp,U1,Vy]at ok;exact(dP ok.2,ok.1.1.1,ok.1.2)
      have hn:∀{as:Za},(d.hasDict=true->sysModules∉as):=λ{as} hd=>by simp only[Bp,noDict,U1,WQ]at ok;rw[ok.1.1.2]at hd;cases hd
      cases z with
      |none=>exact PySem.P.repr_of_none (by simpa [PyData.shown]using fin0 _ _)
      |bool b=>exact PySem.P.repr_of_bool (by simpa [PyData.shown]using fin0 _ _)
      |int i t=>exact PySem.P.repr_of_int (by simpa [PyData.showable]using hsz.2.1) (by simpa [PyData.shown]using fin0 _ _)
      |str x t=>exact PySem.P.repr_of_str (by simpa [PyData.shown]using fin0 _ _) (by simpa [PyData.shown]using hsz.1)
      |list h1 h2 h3 h4=>exact YS (.list h1 h2 h3 h4) hsz.2.1 hn hr.gd (by have:=hr.units;omega) (λ_ _ e=>e) (λh' t tk hk=>fin h' t tk hk) hsz.1
      |tuple h1 h2 h3 h4=>exact YS (.tuple h1 h2 h3 h4) hsz.2.1 hn hr.gd (by have:=hr.units;omega) (λ_ _ e=>e) (λh' t tk hk=>fin h' t tk hk) hsz.1
      |dict h1 h2 h3 h4 h5=>exact YS (.dict h1 h2 h3 h4 h5) hsz.2.1 hn hr.gd (by have:=hr.units;omega) (λ_ _ e=>e) (λh' t tk hk=>fin h' t tk hk) hsz.1
     ·exact p.elim
    ·exact p.elim
 ·exact p.elim
end
section
theorem cR(n:Nat)(h:Lit n e d)(s:fw d=true):DE X E (ak d) e:=by
 simp[bG]at *
 exact PE.imp (O6 n h) (by
   rintro σ H Q ⟨θ,hm,ρ,w,fr,p⟩ r H' N s1 nw rp;obtain⟨e1,w1⟩:=w.grow s1;refine p _ _ e1 w1 _ (rp.same λc o q=>?_,s);have nb  := w.IH (nw c o q).1;rw[eN nb]
   exact(nw c o q).2)
theorem uM{p:Pos}(hm:∃t,X.mg x=some (.int n t))(hg:Gl X x:=by rfl)(hd:(x==("__debug__" : Str))=false:=by decide):DE X E (ak (.int n)) (.Name x p):=by obtain⟨t,hm⟩:=hm;exact II (zu (v:=.int n) hg hm (t,rfl) hd) (λ_=>rfl) (by rfl)
def TB(xs:Y9):ME:=λ_ h=>.ok (.ktup xs) h
theorem LZ{p:Pos}(hm:∃a,X.mg x=some (.ref a)/\IF X.K a xs)(hg:Gl X x:=by rfl)(hd:(x==("__debug__" : Str))=false:=by decide):DE X E (TB xs) (.Name x p):=by simp only[bG]at *;obtain⟨a,hm,kt⟩:=hm;exact PE.imp (zu (v:=.ref a) hg hm rfl hd) (by rintro σ H Q ⟨θ,hm,ρ,w,fr,p⟩;exact p.lD w (a,rfl,kt))
theorem L0(kt:IF G.K a xs):o4 G θ H (xs.map D.dat) (Se G.K a):=λd_ h' H' ev w=>by
 obtain⟨⟨o,a_,n,hl,hc,hd,hz,rv⟩,fl,so⟩:=kt;have q:i8 G.K H' a _:=.inr (o,a_,n,hl,hc,hd,hz,rv);refine(λi d e=>?_,(_,q,by simp));rw[VS,VC]at e;obtain⟨y,ey,rfl⟩:=e;refine((_,Pb y,q,by simp[ey]),λx H2 ⟨e2,z⟩=>?_);subst e2;have:=z _ q;rw[VS,ey]at this;cases this;have hy:=fl y (Vs ey);refine(Ev.refl,w,?_,kW so ey)
 cases y with
 |none=>rfl
 |bool b=>rfl
 |int i=>rfl
 |str x=>rfl
 |_=>simp at hy
def RC(e:ME):MA:=λρ h=>(e ρ h).bind λx h1=>match x with
 |.ktup xs=>.ok (xs.map D.dat) h1
 |_=>.bad
theorem L4(h:DE X E m e):DI X E (RC m) tg e:=by
 simp[bG,jr]at *
 exact PI.imp (HH h) (by rintro σ H R ⟨θ,h,ρ,w,fr,p⟩;exact(θ,h,ρ,w,fr,(aG.bind p).mono (by
   rintro d b_ h1 H1 _ _ ⟨ev,w1,p1⟩ v r
   cases d with
   |ktup xs=>obtain⟨a,e,kt⟩:=r;exact(a,e,(_,.inr kt.1),p1 b_ H1 Ev.refl w1 _ (L0 kt))
   |_=>trivial)))
def QA(x:D)(h:Hm):Bool:=match x with
 |.ref j=>match h[j]? with
  |some (.lst _)=>true
  |_=>false
 |_=>false
def uy(f:D->D->Hm->R D)(a b:ME):ME:=λρ h=>(a ρ h).bind λx h1=>if QA x h1 then(b ρ h1).bind λy h2=>f x y h2 else .bad
theorem L5{x:D}(e:QA x h=true):∃j xs,x=.ref j/\h[j]?=some (.lst xs):=by
 unfold QA at e;split at e
 ·split at e
  ·simp_all
  grind
 grind
theorem uN(w:W G θ hm H)(r:ck G θ H (.ref j) v)(e:hm[j]?=some (.lst xs)):∃a vs,v=.ref a/\θ[j]?=some a/\H a=some (.lst vs)/\bj G θ H xs vs:=by
 obtain⟨a,ha,rfl⟩:=r;obtain⟨vs,hv,rs⟩:=w.obj _ _ _ ha e
 simp_all
theorem bj.RD(q:ck G θ H d v):∀{xs:List D} {vs:List V} (n:Nat),bj G θ H xs vs->bj G θ H (xs.set n d) (vs.set n v)
 |_,_,_,.nil=>.nil
 |_,_,0,.cons _ t=>.cons q t
 |_,_,n+1,.cons r t=>.cons r (bj.RD q n t)
theorem W.Je(w:W G θ hm H)(ha:θ[j]?=some a)(hl:j<hm.length)(r:bj G θ H xs vs):Ev θ H θ (upd H a (.lst vs))/\W G θ (hm.set j (.lst xs)) (upd H a (.lst vs)):=by
 have hmm  := Vs ha
 have e:Ev θ H θ (upd H a (.lst vs)):=(([],by simp),λb u q=>by
  obtain⟨h1,h2⟩:=dD q;have ne:b≠a:=λz=>by grind
  simp_all[eN,aQ])
 exact w.write ha hl (vs,bD,r.ev e)
theorem oH{α:Type}{xs:List α}{i:Nat}{x:α}(h:xs[i]?=some x):i<xs.length:=(U9.mp h).1
theorem Pw(h:lE G E (uy f ma' mb) σ H Q)(k:∀θ h H d1 d2 x y,W G θ h H->ck G θ H d1 x->ck G θ H d2 y->aG G (qr G E) θ H (f d1 d2 h) (KV G Q)->r x [y] H Q) :
  Um K "list" r (lE G E ma') (HS (lE G E mb) Ow) σ H Q:=by
 obtain⟨θ,h,ρ,w,fr,p⟩:=h;refine(θ,h,ρ,w,fr,(aG.bind p).mono λd b_ h1 H1 _ _ ⟨ev,w1,p1⟩ v r1=>?_);split at p1
 ·rename_i hl;obtain⟨j,xs,rfl,hx⟩:=L5 hl;obtain⟨a,vs,rfl,ha,hv,rs⟩:=uN w1 r1 hx;exact(.inl (rfl,_,iA.of hv),b_,h1,ρ,w1,fr.ev ev,(aG.bind p1).mono (by rintro d2 q_ h2 H2 _ _ ⟨C_,w2,p2⟩ y r2;exact k q_ h2 H2 _ d2 _ y w2 (r1.ev C_) r2 p2))
 ·trivial
theorem sI{apos Fk:Pos}(ho:DE X E ma' o)(ha:DE X E mb e)(ZO:attributeBase o "append" X.env (eval o X.env)=eval o X.env:=by rfl)
 (hfew:((backTo Fk (starEach [e] X.env)).all (λx=>!x.1)&&(backToKw Fk (keywordEach [] X.env)).all (λx=>x.1.isSome)&&decide ([e].length+([]:List Keyword).length+(if([]:List Keyword).isEmpty then 0 else 1)<30))=true:=by rfl)
 (ZN:(apos.endLine==Fk.line)=true:=by rfl)(hs:starEach [e] X.env=(false,eval e X.env)::starEach [] X.env:=by rfl)(ZP:(backTo Fk (starEach [] X.env)).any (·.1)=false:=by rfl):DE X E (uy fK ma' mb) (.Call (.Attribute o "append" apos) [e] [] Fk):=by
 simp only[bG]at *
 exact PE.imp (Rb PySem.F.plainAttrs_list PySem.F.slot_list_append PySem.F.type_list_append Gy ho (qy ha zx hs) ZO hfew ZN hs ZP) λσ H Q q=>Pw q λθ h H d1 d2 x y w r1 r2 p=>by
   unfold fK at p;split at p
   ·rename_i j;split at p
    ·rename_i xs hx;split at p
     ·rename_i hz;obtain⟨a,vs,rfl,ha,hv,rs⟩:=uN w r1 hx;have hl:xs.length=vs.length:=Vo rs;obtain⟨e1,w1⟩:=w.Je ha (oH hx) (et rs (.cons r2 .nil));exact(a,vs,y,rfl,rfl,hv,by rw[<- hl,Xg];exact Wz hz,p _ _ e1 w1 _ GS)
     ·exact p.elim
    ·exact p.elim
   ·exact p.elim
theorem GY{x y v:V}(w:W G θ hm H)(r1:ck G θ H d1 x)(r2:ck G θ H d2 y)(rd:ck G θ H d v)(p:aG G F θ H (E7 d1 d2 d hm) (λ_ _ _ H'=>Q H')):Nl x y v H Q:=by
 cases d1 with
 |ref j=>
  cases d2 with
  |dat dd=>
   cases dd with
   |int kk=>
    simp only[E7]at p
    cases hx:hm[j]? with
    |none=>rw[hx]at p;exact p.elim
    |some oo=>
     rw[hx]at p
     cases oo with
     |lst xs=>
      simp only at p
      cases hn:xS xs.length kk with
      |none=>rw[hn]at p;exact p.elim
      |some n=>rw[hn]at p;obtain⟨a,vs,rfl,ha,hv,rs⟩:=uN w r1 hx;have hl:xs.length=vs.length:=Vo rs;obtain⟨e1,w3⟩:=w.Je ha (oH hx) (bj.RD rd n rs);exact(a,vs,kk,n,rfl,bT r2,hv,by rw[<- hl];exact hn,p _ _ e1 w3)
     |_=>exact p.elim
   |_=>exact p.elim
  |_=>exact p.elim
 |_=>exact p.elim
theorem Fs{α β:Type}{xs:List α}{ys:List β}(h:xs.length=ys.length):(!xs.isEmpty)=!ys.isEmpty:=by
 grind
theorem vQ(w:W G θ hm H)(r:ck G θ H d v)(e:truth d hm=some b):Ou G.K v H b:=by
 unfold truth at e;split at e
 ·cases e;cases r.1;rfl
 ·cases e;cases r.1;rfl
 ·cases e;cases r.1;rfl
 ·split at e
  ·rename_i hz;cases e;cases r.1;exact(dP hz,rfl)
  grind
 ·cases e;obtain⟨a,us,rfl,ha,q1,_⟩:=jb r;exact .inr (.inl (us,i8.of (ax _ _ _ _ ha),Fs q1.length.symm))
 ·cases e;obtain⟨a,us,rfl,ha,q1,_⟩:=fL r;exact .inl (us,iA.of (ax _ _ _ _ ha),Fs q1.length.symm)
 ·split at e
  ·rename_i xs hx;cases e;obtain⟨a,vs,rfl,ha,hv,rs⟩:=uN w r hx;refine .inl (vs,iA.of hv,?_);cases rs<;>rfl
  ·cases e
 grind
theorem bO(h:DE X E m e)(he:∀whole,isTrue e X.env whole=(do let v <- whole;standAt e.pos;holding [v] (truthy v)):=by intro _;rfl):DT X E (aX m) e:=by
 simp[bG,kT]at *
 exact PT.imp (HP h he) (by rintro σ H Q ⟨θ,h,ρ,w,fr,p⟩;exact(θ,h,ρ,w,fr,(aG.bind p).mono (by
   rintro d b_ h1 H1 _ _ ⟨ev,w1,p1⟩ v r;split at p1
   ·rename_i b hb;exact(b,vQ w1 r hb,p1 b_ H1 Ev.refl w1)
   ·trivial)))
def vR:D->Option PyData
 |.dat .none=>some .none
 |.dat (.bool b)=>some (.bool b)
 |_=>none
def TC:PyData->PyData->Bool
 |.none,.none=>true
 |.bool a,.bool b=>a==b
 |_,_=>false
def vS(x y:D)(h:Hm):R D:=match vR y with
 |some e=>match x with
  |.dat d=>.ok (.bool !(TC d e)) h
  |_=>.bad
 |none=>.bad
theorem Px{d e:PyData}(re:vR (.dat e)=some e)(r1:Rep M d v)(r2:Rep M e u)(ra:RelV v a)(rb:RelV u b):(a==b)=TC d e/\PySem.plainIs a b=true:=by
 cases e with
 |none=>
  cases r2;cases rb
  cases d with
  |none=>cases r1;cases ra;exact(by decide,by decide)
  |bool c=>cases r1;cases ra;cases c<;>exact(by decide,by decide)
  |int c=>cases r1;obtain⟨t,rfl⟩:=ra;exact(rfl,rfl)
  |str c=>cases r1;obtain⟨t,rfl⟩:=ra;exact(rfl,rfl)
  |list c=>obtain⟨x,_,rfl,_⟩:=r1;cases ra;exact(rfl,rfl)
  |tuple c=>obtain⟨x,_,rfl,_⟩:=r1;cases ra;exact(rfl,rfl)
  |dict c=>obtain⟨x,_,rfl,_⟩:=r1;cases ra;exact(rfl,rfl)
 |bool f=>
  cases r2;cases rb
  cases d with
  |none=>cases r1;cases ra;cases f<;>exact(by decide,by decide)
  |bool c=>cases r1;cases ra;cases c<;>cases f<;>exact(by decide,by decide)
  |int c=>cases r1;obtain⟨t,rfl⟩:=ra;exact(rfl,rfl)
  |str c=>cases r1;obtain⟨t,rfl⟩:=ra;exact(rfl,rfl)
  |list c=>obtain⟨x,_,rfl,_⟩:=r1;cases ra;exact(rfl,rfl)
  |tuple c=>obtain⟨x,_,rfl,_⟩:=r1;cases ra;exact(rfl,rfl)
  |dict c=>obtain⟨x,_,rfl,_⟩:=r1;cases ra;exact(rfl,rfl)
 |_=>simp[vR]at re
theorem Ft:qP X E (compareOp .IsNot) vS:=by
 rintro pins s σ H x y v u Q I rx ry ⟨θ,h,d1,d2,w,r1,r2,p⟩;unfold vS at p;split at p
 ·rename_i e he;split at p
  ·have:d2=.dat e:=by unfold vR at he;split at he<;>cases he<;>rfl
   subst this;obtain⟨q1,q2⟩:=Px he r1.1 r2.1 rx ry;exact PySem.wpAny_isNot_plain q2 (by rw[q1];exact(.bl _,H,I,rfl,p.lD w (cG _)))
  ·trivial
 ·trivial
theorem Jf(hr:cE k X.A){σ:L2.St}{x y:V}(I:Inv X pins σ H s)(rx:RelV x v)(ry:RelV y u)(w:W X.G θ h H)(r1:ck X.G θ H d1 x)(r2:ck X.G θ H d2 y)(hb:lY d1 d2 h=some b) :
  (Q (.bl b) H->wpAny (model X.prog X.w) X.A (compareOp .In v u) (EP X pins σ Q) X.xe s)/\(Q (.bl !b) H->wpAny (model X.prog X.w) X.A (compareOp .NotIn v u) (EP X pins σ Q) X.xe s):=by
 unfold lY at hb;split at hb
 ·split at hb
  ·cases hb;exact(λq=>Gn pins s σ H x y v u Q I rx ry (_,_,(fM r1).1,(fM r2).1,q),λq=>zw pins s σ H x y v u Q I rx ry (_,_,(fM r1).1,(fM r2).1,q))
  grind
 ·split at hb
  ·rename_i d ds e1 e2;obtain⟨⟨as,z1⟩,s1⟩:=gx I w 3 r1 rx e1;obtain⟨⟨bs,z2⟩,s2⟩:=gx I w 3 r2 ry e2;exact IU hr (.inl rfl) I z1 z2 s1 (by assumption) hb
  ·rename_i d ds e1 e2;obtain⟨⟨as,z1⟩,s1⟩:=gx I w 3 r1 rx e1;obtain⟨⟨bs,z2⟩,s2⟩:=gx I w 3 r2 ry e2;exact IU hr (.inr rfl) I z1 z2 s1 (by simpa [fw]using s2) hb
  grind
end
end Ml
namespace PySem
open Sem (wp)
def Heap.fN(h:Heap)(d:Addr)(es:Zg)(ep:Nat):Prop:=∃o,h.get? d=some o/\o.ExactDict/\o.data=.dict es ep
theorem Heap.fN.typeIs{s:Zn}(x:s.heap.fN d es ep):s.TypeIs (.ref d) "dict" := by obtain⟨o,ho,hc,_⟩:=x;exact(o,ho,hc.1)
theorem Heap.fN.at{h h':Heap}(x:h.fN d es ep)(e:∀o,h.get? d=some o->h'.get? d=some o):h'.fN d es ep:=by obtain⟨o,ho,r⟩:=x;exact(o,e _ ho,r)
section
theorem Jg(hd:(d==sysModules)=false)(hm:s.heap.fN d es ep)
 (hQ:Q (.ref s.heap.objs.size) {s with heap:=s.heap.push {cls:=.type "dict_keyiterator",data:=.fields #[.ref d,.int 0 0,.int es.size 0,.int ep 0]}}):wpAny (model prog w) A (pyIter (.ref d)) Q E s:=by
 have hT:=hm.typeIs;obtain⟨o,ho,hc,hdat⟩:=hm;refine XJ hT F.slot_dict_iter (Vt F.slot_dict_iter hT F.entry_dict_iter ?_ (F.args_dict_iter_1 _));unfold Builtin.«dict.__iter__»;refine UY ?_;unfold Builtin.Dict.dictSlotNone;refine UY (wpAny_notOrdered_dict hT ?_);show wpAny _ _ (pure (Value.ref d)) _ _ s;refine UZ ?_;show wpAny _ _ (Builtin.Dict.showsAll d >>= _) _ _ s;unfold Builtin.Dict.showsAll;rw[if_neg (by simp_all)];refine UY (UZ ?_);refine UY (Ym ho hdat ?_);refine UY (wpAny_dictEpoch ho hdat ?_);refine UY (VD (UZ (_,rfl, "dict_keyiterator",_,(_,U5 _ rfl,rfl),Wk.lookup,?_)))
 grind[rawInt]
theorem Jh(hit:s.heap.IsKeyIter it d i es.size ep)(hm:s.heap.fN d es ep)(m_:i<es.size)
 (hQ:∀h',h'.IsKeyIter it d (i+1) es.size ep->Heap.SameBut it s.heap h'->Q (some es[i].key) {s with heap:=h'}):wpAny (model prog w) A (pyNext (.ref it)) Q E s:=by
 obtain⟨o,ho,hc,hd⟩:=id hit;obtain⟨od,hod,KF,hdd⟩:=id hm;unfold pyNext
 refine UY (Xp (VA (name:=Str.ofString "__next__") hit.typeIs Wk
  (Vt Wk hit.typeIs F.entry_dict_keyiterator_next ?_ (F.args_dict_keyiterator_next_1 _))))
 refine UY (UZ ?_);refine UY ?_;refine UY ?_
 first|refine UY (WL hit.typeIs (UZ ?_))|refine UY (Xh hit.typeIs (UZ ?_))
 refine UY (wpAny_fieldsOf ho hd ?_);have hown:Builtin.Dict_items.ownsTuple "dict_keyiterator" = false:=by decide
 simp only[hown,Vc,VQ];show wpAny _ _ (if(Value.ref d==Value.none)=true then _ else _) _ _ s;rw[if_neg (show ¬ ((Value.ref d==Value.none)=true)from Vv)];refine UY (UZ ?_);refine UY (Ym hod hdd ?_);rw[if_neg (by simp)];refine UY (UZ ?_);refine UY (wpAny_dictEpoch hod hdd ?_);rw[if_neg (by simp)];refine UZ ?_;simp only[show ¬ ((i:Int)<0)from by omega,VQ,Wx,Vk m_];refine UY ?_
 first|refine UY (WL hit.typeIs (UZ ?_))|refine UY (Xh hit.typeIs (UZ ?_))
 refine UY (wpAny_isOneOf_keyiter hit.typeIs ?_);show wpAny _ _ (setField (.ref it) 1 (rawInt ((i:Int)+1)) >>= _) _ _ s;refine UY (Ys ho hd (by simp) ?_)
 have hit':(s.heap.update it (Obj.mapFields (·.setIfInBounds 1 (rawInt ((i:Int)+1))))).IsKeyIter it d (i+1) es.size ep:=
  (_,Wi _ ho (Yv (XA hd _)),(Obj.cls_mapFields ..).trans hc,by rw[XA hd];simp[rawInt])
 refine UY (VB ?_);refine UY (wpAny_isOneOf_keyiter (s:={s with heap:=s.heap.update it (Obj.mapFields (·.setIfInBounds 1 (rawInt ((i:Int)+1))))}) hit'.typeIs ?_);show wpAny _ _ (pure es[i].key) _ _ _;exact UZ (UZ (_,rfl,UZ (hQ _ hit' (WU ..))))
theorem L6(hh:A.handled=none)(hit:s.heap.IsKeyIter it d i es.size ep)(hm:s.heap.fN d es ep)(hge:es.size<=i)
 (hQ:∀h',Heap.ExtBut it s.heap h'->Q none {s with heap:=h'}):wpAny (model prog w) A (pyNext (.ref it)) Q E s:=by
 obtain⟨o,ho,hc,hd⟩:=id hit;obtain⟨od,hod,KF,hdd⟩:=id hm;unfold pyNext
 refine UY (Xp (VA (name:=Str.ofString "__next__") hit.typeIs Wk
  (Vt Wk hit.typeIs F.entry_dict_keyiterator_next ?_ (F.args_dict_keyiterator_next_1 _))))
 refine UY (UZ ?_);refine UY ?_;refine UY ?_
 first|refine UY (WL hit.typeIs (UZ ?_))|refine UY (Xh hit.typeIs (UZ ?_))
 refine UY (wpAny_fieldsOf ho hd ?_);have hown:Builtin.Dict_items.ownsTuple "dict_keyiterator" = false:=by decide
 simp only[hown,Vc,VQ];show wpAny _ _ (if(Value.ref d==Value.none)=true then _ else _) _ _ s;rw[if_neg (show ¬ ((Value.ref d==Value.none)=true)from Vv)];refine UY (UZ ?_);refine UY (Ym hod hdd ?_);rw[if_neg (by simp)];refine UY (UZ ?_);refine UY (wpAny_dictEpoch hod hdd ?_);rw[if_neg (by simp)];refine UZ ?_;simp only[show ¬ ((i:Int)<0)from by omega,VQ,Wx,Yd hge];refine UY ?_
 first|refine UY (WL hit.typeIs (UZ ?_))|refine UY (Xh hit.typeIs (UZ ?_))
 show wpAny _ _ (setField (.ref it) 0 .none >>= _) _ _ s;refine UY (Ys ho hd (by simp) ?_);show wpAny _ _ (newExc (.type "StopIteration") [] >>= _) _ _ _;refine UY ?_;simp only[newExc,newTuple];refine UY (VD ?_ (by size_fits));refine UY (m:=firstArgMember _ _) (W6 (a:=Value.none) (by first|rfl | (simp only[firstArgMember];rfl)) ?_);refine VD ?_ (by size_fits);simp only[raiseNew];refine UY (wpAny_handled ?_);rw[show A.in1.handled=none from hh];refine UY (UZ (wpAny_throw ?_));refine UY (WY (T := "StopIteration") (b:=true) (_,U5 _ rfl,rfl) isSubtype_stop ?_);exact UZ (hQ _ (((WU ..).extBut.push _).push _))
theorem Walks.L7(hh:A.handled=none)(I d:Addr)(I_:d≠I)(es:Zg)(ep:Nat) :
  Walks prog w A I [I,d] [I] es.size (λi v=>∃e,es[i]?=some e/\v=e.key) (λi h=>h.IsKeyIter I d i es.size ep/\h.fN d es ep) where
 sub:=λb hb=>by grind
 frame:=λ_ _ _ st hk=>(st.1.at λo e=>hk I (by simp) o e,st.2.at λo e=>hk d (by simp) o e)
 item:=λi s Q E hi st hQ=>Jh st.1 st.2 hi λh' hit' IR=>
  hQ _ h' s.toks (es[i],Vk hi,rfl) (hit',st.2.at λo e=>IR.extBut d o I_ e) λb o hb e=>IR.extBut b o (λh=>hb (by simp[h])) e
 done:=λs Q E st hQ=>L6 hh st.1 st.2 (U4 _) λh' ZX=>hQ h' s.toks λb o hb e=>ZX b o (λh=>hb (by simp[h])) e
 self:=λ_ _ _ _ st hQ=>wpAny_pyIter_keyiter st.1 hQ
theorem L8(lo:(d==sysModules)=false):PySem.W.KdlSrc prog w "dict" d d es.size (λi v=>∃e,es[i]?=some e/\v=e.key) (λh=>h.fN d es ep) where
 type:=λ_ hm=>hm.typeIs
 there:=λ_ hm=>by obtain⟨_,ho,_⟩:=hm;exact(U6 ho,U6 ho)
 keep:=λ_ _ hm hk=>hm.at λo e=>hk d (.inl rfl) o e
 notList:=by decide
 notTuple:=by decide
 hint:=λ_ _ _ _ hm hq=>PySem.W.kdl_hint_dict hm.typeIs hq
 iter:=λ_ _ hh hm=>(_,_,(λ_ _ hq=>Jg lo hm hq),Walks.L7 hh _ d (by obtain⟨_,ho,_⟩:=hm;exact Vi (U6 ho)) es ep,((_,U5 _ rfl,rfl,rfl),hm.at λo e=>U0 _ e))
theorem Ji(lo:(d==sysModules)=false)(hh:A.handled=none)(hm:s.heap.fN d es ep)(hn:es.size<=sizeLine)
 (hQ:∀h' tk c',(∀b o,s.heap.get? b=some o->h'.get? b=some o)->h'.get? s.heap.objs.size=some {cls:=.type "list",dict:=none,data:=.seq (es.map (·.key)) c',slots:=#[]}->Q (.ref s.heap.objs.size) {s with heap:=h',toks:=tk}) :
  wpAny (model prog w) A (call (.type "list") [.ref d]) Q E s:=
 PySem.W.kdl_call (L8 lo) hh hm hn λh' tk K_ c' hk hS KM=>by
  have e:K_=es.map (·.key):=by
   apply Array.ext
   ·simp[KM.1]
   ·intro j h1 h2;obtain⟨e,he,hv⟩:=KM.2 j K_[j] (Vk h1);have hj:j<es.size:=by simp_all
    simp_all
  simp_all
end
end PySem
namespace Ml
open PySem PySem.Spec L2
section
variable {X:Cx} {H:Hp}
theorem l6:∀{ks:List (Key×V)} {kvs:Y6},bP ks=some kvs->kR (.str x) kvs=(ks.any λkv=>decide (kv.1=Sum.inr x))
 | [],kvs,e=>by cases e;rfl
 | (q,v)::ks,kvs,e=>by
  unfold bP at e
  cases e1:jk v with
  |none=>simp_all
  |some d=>
   cases e2:bP ks with
   |none=>simp_all
   |some ds=>
    rw[e1,e2]at e;cases e;have ih:=l6 (x:=x) e2;unfold kR at ih ⊢;rw[YF,YF,ih]
    grind[GH,PyData.eqv]
where
 key_lr' {a:Int} {b:Str}:decide ((Sum.inl a:Key)=Sum.inr b)=false:=V4 (λq=>nomatch q)
theorem Fv(q:Key)(x:Str):PyData.eqv (GH q) (.str x)=decide (q=Sum.inr x):=by
 grind[GH,PyData.eqv]
theorem vT(hv:jk u=some dv):∀{ks:List (Key×V)} {kvs:Y6},bP ks=some kvs ->
  bP (ks.map λkv=>if kv.1=Sum.inr x then(kv.1,u)else kv)=some (kvs.map λp=>if PyData.eqv p.1 (.str x)then(p.1,dv)else p)
 | [],kvs,e=>by cases e;rfl
 | (q,v)::ks,kvs,e=>by
  unfold bP at e
  cases e1:jk v with
  |none=>simp_all
  |some d=>
   cases e2:bP ks with
   |none=>simp_all
   |some ds=>
    rw[e1,e2]at e;cases e;have ih:=vT (x:=x) hv e2;rw[Vu,Vu,Fv];by_cases hq:q=Sum.inr x
    ·simp_all[bP,hv,ih]
    simp_all[hq,decide_false,VQ,Vc,bP,e1,ih]
theorem tF(hv:jk u=some dv):∀{ks:List (Key×V)} {kvs:Y6},bP ks=some kvs->bP (ks++[(Sum.inr x,u)])=some (kvs++[(.str x,dv)])
 | [],kvs,e=>by simp_all[bP,hv,GH]
 | (q,v)::ks,kvs,e=>by
  unfold bP at e
  cases e1:jk v with
  |none=>simp_all
  |some d=>
   cases e2:bP ks with
   |none=>simp_all
   |some ds=>rw[e1,e2]at e;cases e;have ih:=tF (x:=x) hv e2;rw[YA];unfold bP;rw[e1,ih];rfl
theorem vU(hv:jk u=some dv)(e:bP ks=some kvs):bP (putK ks (Sum.inr x) u)=some (dput kvs (.str x) dv):=by
 unfold putK dput;rw[l6 e];split
 ·exact vT hv e
 ·exact tF hv e
theorem l7:∀{ks:List (Key×V)} {kvs:Y6},bP ks=some kvs->ks.length=kvs.length
 | [],kvs,e=>by cases e;rfl
 | (q,v)::ks,kvs,e=>by
  unfold bP at e
  cases e1:jk v with
  |none=>simp_all
  |some d=>
   cases e2:bP ks with
   |none=>simp_all
   |some ds=>rw[e1,e2]at e;cases e;simp[l7 e2]
theorem vV:∀{ks:List (Key×V)} {kvs:Y6} {d:PyData},bP ks=some kvs->Iw kvs (.str x)=some d->∃u,uv ks (Sum.inr x)=some u/\jk u=some d
 | [],kvs,d,e,g=>by cases e;grind[Iw]
 | (q,v)::ks,kvs,d,e,g=>by
  unfold bP at e
  cases e1:jk v with
  |none=>simp_all
  |some d'=>
   cases e2:bP ks with
   |none=>simp_all
   |some ds=>
    rw[e1,e2]at e;cases e;unfold Iw at g;rw[List.find?_cons,Fv]at g;by_cases hq:q=Sum.inr x
    ·simp only[hq,decide_true]at g;simp at g;subst g;exact(v,qB (p:=(q,v)) hq,e1)
    ·simp only[hq,decide_false]at g;obtain⟨u,h1,h2⟩:=vV (x:=x) e2 g;exact(u,by rw[qC (p:=(q,v)) hq];exact h1,h2)
theorem Jj(h:jk u=some d):Rep M d u:=by
 cases u with
 |non=>cases h;rfl
 |bl b=>cases h;rfl
 |int i=>cases h;rfl
 |str x=>cases h;rfl
 |_=>cases h
theorem BA(f:nc d=true)(h:Rep M d u):jk u=some d:=by
 cases d with
 |none=>cases h;rfl
 |bool b=>cases h;rfl
 |int i=>cases h;rfl
 |str x=>cases h;rfl
 |_=>trivial
theorem l8(tq:aD q=true):∀{kvs:Y6} {xs:List (PyData×Addr×Value)},Paired (pM M) kvs xs->kR q kvs=(atKey xs q).isSome
 |_,_,.nil=>rfl
 |_,_,.cons (a:=p) (b:=x) h t=>by
  have ih:=l8 tq t;unfold kR at ih ⊢;unfold atKey at ih ⊢;rw[YF,List.find?_cons,ih];by_cases e:x.1=q
  ·rw[Wl e,h.1,e,bH (bw tq)];rfl
  ·have  := bE (bw h.2.1) (bw tq) (by rw[h.1];exact e)
   simp_all
theorem Fw(I:Inv X pins σ H s)(sm:bZ M H)(t:aD d=true)(dp:d.depth<=8)(so:fw d=true)(r:Rep M d (.ref a)):Pa s.heap d a:=by obtain⟨as,z⟩:=Rep.reads I (r.same sm) rfl;exact(t,dp,so,as,z)
theorem Af(I:Inv X pins σ H s)(sm:bZ M H):∀{kvs:Y6} {xs:List (PyData×Addr×Value)},Paired (pM M) kvs xs->∀x∈xs,Pa s.heap x.1 x.2.1
 |_,_,.nil,x,hx=>by cases hx
 |_,_,.cons h t,x,hx=>by
  rcases Vb.mp hx with rfl|hx
  ·obtain⟨e,t1,t2,t3,t4,_⟩:=h;rw[<- e];exact Fw I sm t1 t2 t3 t4
  ·exact Af I sm t x hx
theorem DM(I:Inv X pins σ H s)(sm:bZ M H)(ha:H a=some (dO X.prog X.w xs a))(r:Paired (pM M) kvs xs) :
  kvs.length<=sizeLine/\(a==sysModules)=false/\s.heap.DictOfH (fB X.prog X.w) a xs:=by
 obtain⟨⟨h1,h2,o,es,ep,h3,h4,h5,h6,h7⟩,_⟩:=I.hok a _ ha;exact(by rw[Vo r];exact h1,h2,o,es,ep,h3,h4,h5,h6,Af I sm r,h7)
theorem Py(ha:H a=some (dO X.prog X.w xs a)):Qu (H a):=by rw[ha];exact True.intro
theorem BB(tq:aD q=true)(rv:RelV v u)(rd:Rep M dv v)(sd:fw dv=true):∀{kvs:Y6} {xs:List (PyData×Addr×Value)},Paired (pM M) kvs xs ->
  Paired (pM M) (kvs.map λp=>if PyData.eqv p.1 q then(p.1,dv)else p) (xs.map (putAt q u))
 |_,_,.nil=>.nil
 |_,_,.cons (a:=p) (b:=x) h t=>by
  rw[Vu,Vu];refine .cons ?_ (BB tq rv rd sd t);unfold putAt;by_cases e:x.1=q
  ·have e2:PyData.eqv p.1 q=true:=by rw[h.1,e];exact bH (bw tq)
   rw[if_pos e,if_pos e2];exact(h.1,h.2.1,h.2.2.1,h.2.2.2.1,h.2.2.2.2.1,v,rv,rd,sd)
  ·have e2  := bE (bw h.2.1) (bw tq) (by rw[h.1];exact e)
   grind
theorem BC(tq:aD q=true)(dq:q.depth<=8)(sq:fw q=true)(rq:Rep M q (.ref b))(rv:RelV v u)(rd:Rep M dv v)(sd:fw dv=true)(r:Paired (pM M) kvs xs) :
  Paired (pM M) (dput kvs q dv) (storedH xs q b u):=by
 unfold dput storedH;rw[l8 tq r];split
 ·exact BB tq rv rd sd r
 ·exact et r (.cons (rfl,tq,dq,sq,rq,v,rv,rd,sd) .nil)
theorem BE(kvs:Y6)(q v:PyData):(dput kvs q v).length<=kvs.length+1:=by
 unfold dput;split
 ·simp
 ·simp
theorem W.Jk(w:W G θ hm H)(ha:θ[j]?=some a)(hl:j<hm.length)(r:fZ G.P G.w (view θ H) (upd H a o) a t kvs):Ev θ H θ (upd H a o)/\W G θ (hm.set j (.iC t kvs)) (upd H a o):=by
 have hmm  := Vs ha
 have e:Ev θ H θ (upd H a o):=(([],by simp),λb u q=>by
  obtain⟨h1,h2⟩:=dD q;have ne:b≠a:=λz=>by grind
  simp_all[eN,aQ])
 exact w.write ha hl (fZ.same e.same r λ_ q=>q)
def RE(G:Gx)(E:XK):V->V->V->Hp->(Hp->Prop)->Prop:=λx y v H Q=>∃θ h d1 d2 d,W G θ h H/\ck G θ H d1 x/\ck G θ H d2 y/\ck G θ H d v/\aG G (qr G E) θ H (pI d1 d2 d h) (λ_ _ _ H'=>Q H')
theorem L9(hr:cE k X.A):N7 X (RE X.G E):=by
 rintro pins s σ H x y v xv yv u Q I rx ry rv ⟨θ,h,d1,d2,d,w,r1,r2,rd,p⟩;unfold pI at p;split at p
 ·rename_i j;split at p
  ·rename_i t kvs hx;unfold IB at p;split at p
   ·rename_i q dv;split at p
    ·rename_i hc;simp only[U1,Vy,Wc]at hc;obtain⟨a,ha,rfl⟩:=r1;cases rx;rcases w.obj _ _ _ ha hx with⟨rfl,ks,h1,h2,h3⟩|⟨rfl,xs,h1,h2⟩
     ·have hk:∃z,q=.str z:=by
       have:=hc.1.1;simp only[keyOk,Vc,VQ]at this;cases q<;>first|exact(_,rfl)|simp[m9]at this
      obtain⟨z,rfl⟩:=hk;have fd:nc dv=true:=by rcases hc.1.2 with z|z;cases z;exact z
      have hv:=BA fd rd.1;obtain⟨e2,s2⟩:=fM r2;subst e2
      have so:∀p∈dput kvs (.str z) dv,fw p.1=true/\fw p.2=true:=λp hp=>by
       unfold dput at hp;split at hp
       ·obtain⟨p0,hp0,e0⟩:=Vl.mp hp;split at e0
        ·subst e0;exact((h3 p0 hp0).1,rd.2)
        ·subst e0;exact h3 p0 hp0
       ·rcases Vd.mp hp with hp|hp
        ·exact h3 p hp
        ·simp at hp;subst hp;exact(by simpa [fw]using s2,rd.2)
      obtain⟨e1,w1⟩:=w.Jk (o:=.dK (putK ks (Sum.inr z) v)) (t:=false) (kvs:=dput kvs (.str z) dv) ha (oH hx) (.inl (rfl,_,bD,vU hv h2,so));exact GF (by have:=hr.units;omega) I (Lw.k (k:=Sum.inr z) h1 (by rw[l7 h2,Xg];exact hc.2)) ry rv λs' I'=>(_,I',p _ _ e1 w1)
     ·have hk:=hc.1.1;simp only[keyOk,VR,U1,Vy]at hk
      obtain⟨b,vs,rfl,hb⟩:∃b vs,y=.ref b/\view θ H b=some (.tup vs):=by
       cases q with
       |tuple ds=>obtain⟨b,vs,e,hb,_⟩:=r2.1;exact(b,vs,e,hb)
       |_=>simp[gY]at hk
      cases ry;obtain⟨hz,On,dd⟩:=DM I (ax θ H) h1 h2;have hz2:xs.length<=sizeLine:=by rw[<- show kvs.length=xs.length from Vo h2];exact hz
      have kr:=BC (b:=b) (u:=u) hk.1.2 hk.2 r2.2 r2.1 rv rd.1 rd.2 h2;refine wpAny_setItem_heap (knd:=fB X.prog X.w) (hsz:=hz2) (by show X.A.units+1+20<cLine;have:=hr.units;omega) (Fw I (ax θ H) hk.1.2 hk.2 r2.2 r2.1) dd λh' W1 hs=>?_;obtain⟨o,es,ep,g1,g2,g3,g4,_,g5⟩:=W1;have Z8:(storedH xs q b u).length<=sizeLine:=by rw[<- show(dput kvs q dv).length=_ from Vo kr];have:=BE kvs q dv;rw[Xg];omega
      refine(_,uH (t':=_) I (Py h1) hs (o,g1) (IE (xs:=storedH xs q b u) Z8 On g1 g2 g3 g4 g5),?_);obtain⟨e1,w1⟩:=w.Jk (o:=dO X.prog X.w (storedH xs q b u) a) (t:=true) (kvs:=dput kvs q dv) ha (oH hx) (.inr (rfl,_,bD,kr));exact p _ _ e1 w1
    ·exact p.elim
   ·exact p.elim
  ·exact set_list pins s σ H x y v xv yv u Q I rx ry rv (GY w r1 r2 rd p)
 ·exact p.elim
theorem Ag(hr:cE k X.A)(ho:DE X E ma' o)(hi:DE X E mb i)(ha:∀v,assign (.Subscript o i pos) X.env v=(do
   let ov <- holding [v] (eval o X.env)
   let iv <- holding [v,ov] (eval i X.env)
   standAt pos
   holding [v,ov,iv] (setItem ov iv v)
   release [v,ov,iv] []):=by intro _;rfl):DG X E (pA ma' mb) (.Subscript o i pos):=by
 simp[bG,kU]at *;exact by rintro pins s σ H v u Q I r ⟨θ,h,ρ,d,w,fr,rd,p⟩;exact N8 ho hi (L9 hr) ha pins s σ H v u Q I r (θ,h,ρ,w,fr,(aG.bind p).mono (by rintro d1 b_ h1 H1 _ _ ⟨ev,w1,p1⟩ x r1;exact(b_,h1,ρ,w1,fr.ev ev,(aG.bind p1).mono (by rintro d2 q_ h2 H2 _ _ ⟨C_,w2,p2⟩ y r2;exact(q_,h2,d1,d2,d,w2,r1.ev C_,r2,rd.ev (ev.trans C_),(aG.bind p2).mono (by rintro _ Zx h3 H3 _ _ ⟨ev3,w3,p3⟩;exact p3 Zx H3 Ev.refl w3 σ (((fr.ev ev).ev C_).ev ev3)))))))
end
section
theorem vW(w:W G θ hm H)(r:ck G θ H d v)(e:iE d hm=some (t,kvs)):∃a,v=.ref a/\fZ G.P G.w (view θ H) H a t kvs:=by
 unfold iE at e;split at e
 ·cases e;obtain⟨a,h1,h2⟩:=r;exact(a,h1,h2.same (bZ.refl _) λo q=>ax _ _ _ _ q)
 ·split at e
  ·rename_i hx;cases e;obtain⟨a,ha,h1⟩:=r;exact(a,h1,w.obj _ _ _ ha hx)
  grind
 grind
theorem Ma(hr:cE k X.A)(I:Inv X pins σ H s)(rx:RelV x v)(w:W X.G θ h H)(r1:ck X.G θ H d1 x)(dc:fZ X.prog X.w (view θ H) H a t kvs)(hb:zO d1 kvs t=some b) :
  (Q (.bl b) H->wpAny (model X.prog X.w) X.A (compareOp .In v (.ref a)) (EP X pins σ Q) X.xe s)/\(Q (.bl !b) H->wpAny (model X.prog X.w) X.A (compareOp .NotIn v (.ref a)) (EP X pins σ Q) X.xe s):=by
 unfold zO at hb;split at hb
 ·rename_i d;split at hb
  ·rename_i ok;cases hb;rcases dc with⟨rfl,ks,h1,h2,h3⟩|⟨rfl,xs,h1,h2⟩
   ·simp only[keyOk,Vc,VQ]at ok
    cases d with
    |str z=>
     cases(fM r1).1
     exact(λq=>Ts (by have:=hr.units;omega) I (Bh.k (k:=Sum.inr z) h1) rx λs' I'=>(.bl _,H,I',rfl,by rw[<- qE,<- l6 h2];exact q),
      λq=>Lx (by have:=hr.units;omega) I (Bh.k (k:=Sum.inr z) h1) rx λs' I'=>(.bl _,H,I',rfl,by rw[<- qE,<- l6 h2];exact q))
    |_=>simp[m9]at ok
   ·simp only[keyOk,VR,U1,Vy]at ok
    cases d with
    |tuple ds=>
     obtain⟨c,vs,rfl,hc,_⟩:=id r1.1;cases rx;obtain⟨hz,On,dd⟩:=DM I (ax θ H) h1 h2;have room:(fB X.prog X.w).room X.A.in1:=by show X.A.units+1+20<cLine;have:=hr.units;omega
     have tk:=Fw I (ax θ H) ok.1.2 ok.2 r1.2 r1.1
     exact(λq=>wpAny_in_heap (knd:=fB X.prog X.w) room tk On dd (.bl _,H,I.tok _,rfl,by rw[<- l8 ok.1.2 h2];exact q),
      λq=>PyProof.Rows.wpAny_notIn_heap (knd:=fB X.prog X.w) room tk On dd (.bl _,H,I.tok _,rfl,by rw[<- l8 ok.1.2 h2];exact q))
    |_=>simp[gY]at ok
  grind
 grind
theorem uO(hr:cE k X.A)(I:Inv X pins σ H s)(rx:RelV x v)(ry:RelV y u)(w:W X.G θ h H)(r1:ck X.G θ H d1 x)(r2:ck X.G θ H d2 y)(hb:findIn d1 d2 h=some b) :
  (Q (.bl b) H->wpAny (model X.prog X.w) X.A (compareOp .In v u) (EP X pins σ Q) X.xe s)/\(Q (.bl !b) H->wpAny (model X.prog X.w) X.A (compareOp .NotIn v u) (EP X pins σ Q) X.xe s):=by
 unfold findIn at hb;split at hb
 ·rename_i p hp;obtain⟨a,rfl,dc⟩:=vW w r2 hp;cases ry;exact Ma hr I rx w r1 dc hb
 ·exact Jf hr I rx ry w r1 r2 hb
theorem nu(hr:cE k X.A):qP X E (compareOp .In) j3:=by
 rintro pins s σ H x y v u Q I rx ry ⟨θ,h,d1,d2,w,r1,r2,p⟩;unfold j3 at p;split at p
 ·rename_i b hb;exact(uO hr I rx ry w r1 r2 hb).1 (p.lD w (cG _))
 ·trivial
theorem qT(hr:cE k X.A):qP X E (compareOp .NotIn) gr:=by
 rintro pins s σ H x y v u Q I rx ry ⟨θ,h,d1,d2,w,r1,r2,p⟩;unfold gr at p;split at p
 ·rename_i b hb;exact(uO hr I rx ry w r1 r2 hb).2 (p.lD w (cG _))
 ·trivial
theorem Jl(h:∀p∈kvs,fw p.1=true/\fw p.2=true)(e:Iw kvs q=some d):fw d=true:=by
 obtain⟨p,hp,rfl⟩:=VC.mp e
 grind
theorem bo(hr:cE k X.A):Qy X (Pd X.G E dw):=by
 rintro value slice pins s σ H x y v u Q I rx ry ⟨θ,h,d1,d2,w,r1,r2,p⟩ hs;unfold dw at p;split at p
 ·rename_i pp hp;obtain⟨t,kvs⟩:=pp;split at p
  ·rename_i z;split at p
   ·trivial
   ·rename_i ht;split at p
    ·rename_i d hd;obtain⟨a,rfl,dc⟩:=vW w r1 hp;cases rx;rcases dc with⟨_,ks,h1,h2,h3⟩|⟨z1,_⟩
     ·obtain⟨e2,s2⟩:=fM r2;subst e2;obtain⟨uu,g1,g2⟩:=vV h2 hd;have T:s.TypeIs (.ref a) "dict" := by obtain⟨_,_,vs,_,o,_,_,e,ex,_⟩:=I.hok a _ h1;exact(o,e,ex.1)
      exact PyProof.Rows.tail_any (ops:=[.ref a,u]) T PySem.F.slot_dict_getitem.lookup (GD (by have:=hr.units;omega) I (by have:=Bh.k (k:=Sum.inr z) h1;rw[g1]at this;exact this) ry λw' s' I' Zr=>(uu,H,I',Zr,p.lD w (Jj g2,Jl h3 hd))) hs
     grind
    ·exact p.elim
  ·exact p.elim
 ·exact IZ value slice pins s σ H x y v u Q I rx ry (θ,h,d1,d2,w,r1,r2,p) hs
end
section
theorem yO:∀{kvs:Y6} {xs:List (PyData×Addr×Value)},Paired (pM M) kvs xs->bu M (kvs.map (·.1)) (xs.map λx=>V.ref x.2.1)/\cF (kvs.map (·.1))=true
 |_,_,.nil=>(rfl,rfl)
 |_,_,.cons h t=>by obtain⟨h1,h2⟩:=yO t;exact(.cons h.2.2.2.2.1 h1,by simp[cF,h.2.2.2.1,h2])
theorem yP:∀(xs:List (PyData×Addr×Value)),Vals (xs.map λx=>V.ref x.2.1) (xs.map λx=>Value.ref x.2.1)
 | []=>.nil
 |_::xs=>.cons rfl (yP xs)
theorem Fx:∀{ks:List (Key×V)} {vs:List (Key×Value)} {es:List DictEntry} {kvs:Y6},bP ks=some kvs->L2.KV ks vs->Pairs (cw P w) es vs->∃us:List V,Vals us (es.map (·.key))/\bu M (kvs.map (·.1)) us
 | [],_,es,kvs,e,r,p=>by
  cases e;cases r
  cases es with
  |nil=>exact([],.nil,rfl)
  |cons _ _=>trivial
 | (q,v)::ks,_,es,kvs,e,r,p=>by
  cases r with
  |cons r1 r2=>
   rename_i q' vs';obtain⟨k',u⟩:=q';obtain⟨e1,e2⟩:=r1;simp only at e1 e2;subst e1
   cases p with
   |cons hk hv hr=>
    unfold bP at e
    cases e1:jk v with
    |none=>simp_all
    |some d=>
     cases e3:bP ks with
     |none=>rw[e1,e3]at e;cases e
     |some ds=>
      rw[e1,e3]at e;cases e;obtain⟨us,z1,z2⟩:=Fx e3 r2 hr;rcases cy hk with⟨i,t,rfl,hk'⟩|⟨x,t,rfl,hk'⟩
      ·exact(.int i::us,.cons (t,hk') z1,.cons rfl z2)
      ·exact(.str x::us,.cons (t,hk') z1,.cons rfl z2)
theorem Pz(hc:X.calm=true):qt X E (.type "list") Bo:=by
 rintro pins s σ H xs us Q I r ⟨θ,h,ds,w,rs,p⟩;unfold Bo at p;split at p
 ·rename_i x;split at p
  ·rename_i pp hp;obtain⟨t,kvs⟩:=pp
   cases rs with
   |cons r1 rr=>
    cases rr;obtain⟨a,rfl,dc⟩:=vW w r1 hp
    cases r with
    |cons rv rr=>
     cases rr;cases rv
     have fin:∀(es:Zg) (ep:Nat) (vs:List V),s.heap.fN a es ep->(a==sysModules)=false->kvs.length<=sizeLine->es.size=kvs.length->Vals vs (es.toList.map (·.key))->bu (view θ H) (kvs.map (·.1)) vs->cF (kvs.map (·.1))=true ->
       wpAny (model X.prog X.w) X.A (call (.type "list") [.ref a]) (EP X pins σ Q) X.xe s:=λes ep vs raw On hz hsz hv hrp hso=>by
      refine Ji On (I.ok.hd hc) raw (by rw[hsz];exact hz) λh' tk c' hk hl=>?_;have hn:H s.heap.objs.size=none:=I.hok.fresh (U4 _);obtain⟨e1,w1,g⟩:=w.put (o:=.lst vs) hn;have hlen:vs.length=kvs.length:=by have:=hrp.length;simpa using this
      refine(.ref s.heap.objs.size,upd H s.heap.objs.size (.lst vs),I.laid (λb o q=>hk b o q) (U4 _) (by rw[hlen];exact hz,es.toList.map (·.key),c',hv,?_),rfl,p _ _ e1 w1 _ ((_,vs,rfl,g,hrp.same e1.same),by simpa [fw]using hso));rw[hl];have ee:es.map (·.key)=(es.toList.map (·.key)).toArray:=by apply Array.ext' ;simp
      rw[ee]
     rcases dc with⟨rfl,ks,h1,h2,h3⟩|⟨rfl,xs,h1,h2⟩
     ·obtain⟨z,ne,vs,rk,o,es,ep,ho,hx,hd,_,hpp,_⟩:=I.hok a _ h1;obtain⟨us,v1,v2⟩:=Fx (M:=view θ H) h2 rk hpp;have hl1:ks.length=kvs.length:=l7 h2;have Z8:es.size=kvs.length:=by have a1:=v1.length;have a2:=v2.length;simp at a1 a2;omega
      exact fin es ep us (o,ho,hx,hd) ne #[1] Z8 v1 v2 (bM.mpr λd m=>by obtain⟨p0,hp0,rfl⟩:=Vl.mp m;exact(h3 p0 hp0).1)
     ·obtain⟨hz,On,dd⟩:=DM I (ax θ H) h1 h2;obtain⟨o,es,ep,g1,g2,g3,g4,_,_⟩:=dd;obtain⟨k1,k2⟩:=yO h2;have hes:es.toList.map (·.key)=xs.map λx=>Value.ref x.2.1:=by rw[g4,X2];rfl
      have Z8:es.size=kvs.length:=by have:=Xz List.length g4;rw[Ve,<- show kvs.length=xs.length from Vo h2]at this;simpa using this
      exact fin es ep _ (o,g1,g2,g3) On hz Z8 (by rw[hes];exact yP xs) k1 k2
  ·exact LY (E:=E) pins s σ H xs us Q I r (θ,h,_,w,rs,p)
 ·exact p.elim
def Fy(t:Bool):ME:=λ_ h=>.ok (.ref h.length) (h++[.iC t []])
theorem W.PB(w:W G θ hm H)(hp:H p=none)(r:fZ G.P G.w (view θ H) (upd H p o) p t []) :
  Ev θ H (θ++[p]) (upd H p o)/\W G (θ++[p]) (hm++[.iC t []]) (upd H p o)/\ck G (θ++[p]) (upd H p o) (.ref hm.length) (.ref p):=by
 have e:Ev θ H (θ++[p]) (upd H p o):=(([p],rfl),λa u q=>by
  obtain⟨h1,h2⟩:=dD q;have ne:=br h2 hp;rw[eN (by simp;exact(h1,ne)),aQ ne]
  exact h2)
 obtain⟨e1,w1⟩:=w.alloc (m:=.iC t []) hp (fZ.same e.same r λ_ q=>q);exact(e1,w1,p,by rw[<- w.len];simp,rfl)
theorem Jm(h:Heap)(hb:sysModules<h.objs.size):cX P w H (h.push {cls:=.type "dict",data:=.dict #[]}) h.objs.size (dO P w [] h.objs.size):=
 IE (Wr _) (XW.mpr (X4 (Vi hb))) (U5 _ rfl) (rfl,rfl,rfl) rfl rfl List.nodup_nil
theorem Mb:DE X E (Fy true) (.Dict [] [] pos):=by simp[bG]at *;exact by rintro pins s σ H Q I ⟨θ,h,ρ,w,fr,p⟩;have hn  := I.hok.fresh (U4 _);obtain⟨e1,w1,g⟩:=w.PB hn (.inr (rfl,[],bD,.nil));exact wpAny_Dict_empty (.ref s.heap.objs.size,_,I.laid (λ_ _ q=>U0 _ q) (U4 _) (Jm s.heap I.big),rfl,p _ _ e1 w1 _ g)
end
theorem ck.take(r:ck G θ H d v)(hb:d.below n=true):ck G (θ.take n) H d v:=by
 have sm:bZ _ (view (θ.take n) H):=λa o q=>by obtain⟨h1,h2⟩:=dD q;rw[eN (λz=>h1 (XO z))];exact h2
 cases d with
 |dat d=>exact(r.1.same sm,r.2)
 |ref i=>obtain⟨a,h1,h2⟩:=r;simp[D.below]at hb;exact(a,by simp_all,h2)
 |iC t kvs=>obtain⟨a,h1,h2⟩:=r;exact(a,h1,h2.same sm λo q=>sm _ _ q)
 |set xs=>exact r
 |fn n=>exact r
 |scr ns=>obtain⟨a,h1,h2⟩:=r;exact(a,h1,sm.seq h2)
 |ktup xs=>exact r
 |rpr x=>exact r
 |exc x=>obtain⟨a,c,h1,h2,h3⟩:=r;exact(a,c,h1,sm _ _ h2,h3)
theorem bj.take:∀{ds:List D} {vs:List V},bj G θ H ds vs->ds.all (D.below n)=true->bj G (θ.take n) H ds vs
 |_,_,.nil,_=>.nil
 |_,_,.cons r t,h=>by simp only[List.all_cons,U1]at h;exact .cons (r.take h.1) (bj.take t h.2)
theorem W.take(w:W G θ h H)(hb:(h.take n).all (MO.below n)=true):W G (θ.take n) (h.take n) H:=by
 have sm:bZ _ (view (θ.take n) H):=λa o q=>by obtain⟨h1,h2⟩:=dD q;rw[eN (λz=>h1 (XO z))];exact h2
 refine(by simp[w.len],w.nd.sublist (XH _ _),λi a o h1 h2=>?_)
 have hi:i<n:=by
  grind
 have mo:=Vg.mp hb o (Vs h2);rw[XZ hi]at h1 h2;have r:=w.obj i a o h1 h2
 cases o with
 |lst xs=>obtain⟨vs,q1,q2⟩:=r;exact(vs,q1,q2.take mo)
 |iC t kvs=>exact fZ.same sm r λ_ q=>q
 |ins=>trivial
 |tab P q=>obtain⟨rfl,x⟩:=r;exact(rfl,x.same sm λ_ q=>q)
theorem Ev.take(e:Ev θ H d_ H')(hn:n=θ.length):Ev θ H (d_.take n) H':=by
 obtain⟨ext,rfl⟩:=e.pre;have:(θ++ext).take n=θ:=by grind
 rw[this];refine(([],by simp),λa o q=>?_);obtain⟨h1,h2⟩:=dD (e.same a o q);rw[eN (λz=>h1 (Vr _ z))];exact h2
theorem aG.iD(w:W G θ h H)(p:aG G (qr G E) θ H (iD F ds h) (KV G Q)):aG G (qr G E) θ H (F ds h) (KV G Q):=by
 unfold Ml.iD at p
 cases e:F ds h with
 |bad=>simp_all
 |ok d h'=>
  rw[e]at p;simp only at p;split at p
  ·rename_i hc;simp only[U1]at hc;intro d_ H' ev w' v r;have w2:=w'.take hc.1.2;have C_:=ev.take w.len.symm;exact p _ _ C_ w2 v (r.take hc.1.1)
  ·trivial
 |exc x h'=>
  rw[e]at p;simp only at p;split at p
  ·rename_i hc;simp only[U1]at hc;intro d_ H' ev w' cls da xr;have w2:=w'.take hc.1;have C_:=ev.take w.len.symm;exact p _ _ C_ w2 cls da xr
  ·trivial
theorem cB.iD(h:cB P w K mg base x ps k F):cB P w K mg base x ps k (Ml.iD F):=by obtain⟨⟨f,fd,h1,h2,h3,h4⟩,ar⟩:=h;refine((f,fd,h1,h2,h3,h4.imp (by rintro vs H Q E ⟨θ,hm,ds,w,r,p⟩;exact(θ,hm,ds,w,r,p.iD w))),λds hm l=>?_);unfold Ml.iD;rw[ar ds hm l]
end Ml
namespace L2
open PySem PySem.Spec
section
variable {rest:Ze}
theorem PC(ht:Of X r)(ha:PE X a ta)(hb:PE X (.BoolOp .Or (b::rest) pos) tb):PE X (.BoolOp .Or (a::b::rest) pos) (λσ H Q=>ta σ H λx H1=>r x H1 λc H2=>H2=H1/\if c=true then Q x H1 else tb σ H1 Q):=by
 intro pins s σ H Q I h;refine PyProof.Rows.BoolOp_or (bN (ha pins s σ H _ I h) λv s1 ⟨x,H1,I1,r1,q1⟩=>?_);refine bN (ht pins s1 σ H1 x v _ I1 r1 q1) λc s2 ⟨H2,I2,e,q2⟩=>?_;subst e
 cases c with
 |false=>exact hb pins s2 σ H2 Q I2 q2
 |true=>exact(x,H2,I2,r1,q2)
theorem Mc(ht:Of X r)(ha:PE X a ta)(hb:PE X (.BoolOp .And (b::rest) pos) tb):PE X (.BoolOp .And (a::b::rest) pos) (λσ H Q=>ta σ H λx H1=>r x H1 λc H2=>H2=H1/\if c=true then tb σ H1 Q else Q x H1):=by
 intro pins s σ H Q I h;refine PyProof.Rows.BoolOp_and (bN (ha pins s σ H _ I h) λv s1 ⟨x,H1,I1,r1,q1⟩=>?_);refine bN (ht pins s1 σ H1 x v _ I1 r1 q1) λc s2 ⟨H2,I2,e,q2⟩=>?_;subst e
 cases c with
 |true=>exact hb pins s2 σ H2 Q I2 q2
 |false=>exact(x,H2,I2,r1,q2)
end
end L2
namespace Ml
open PySem PySem.Spec L2
section
def Md(a b:ME):ME:=λρ h=>(a ρ h).bind λx h1=>match truth x h1 with
 |some c=>if c then .ok x h1 else b ρ h1
 |none=>.bad
def mQ(a b:ME):ME:=λρ h=>(a ρ h).bind λx h1=>match truth x h1 with
 |some c=>if c then b ρ h1 else .ok x h1
 |none=>.bad
theorem PD(ha:DE X E a e1)(hb:DE X E b (.BoolOp .Or (e2::es) pos)):DE X E (Md a b) (.BoolOp .Or (e1::e2::es) pos):=by
 simp[bG]at *
 exact PE.imp (PC Dj ha hb) (by rintro σ H Q ⟨θ,h,ρ,w,fr,p⟩;exact(θ,h,ρ,w,fr,(aG.bind p).mono (by
   rintro d b_ h1 H1 _ _ ⟨ev,w1,p1⟩ v r;split at p1
   ·rename_i b hb;refine(b,vQ w1 r hb,rfl,?_)
    cases b with
    |true=>exact p1 b_ H1 Ev.refl w1 v r
    |false=>exact(b_,h1,ρ,w1,fr.ev ev,p1)
   ·trivial)))
theorem l9(ha:DE X E a e1)(hb:DE X E b (.BoolOp .And (e2::es) pos)):DE X E (mQ a b) (.BoolOp .And (e1::e2::es) pos):=by
 simp[bG]at *
 exact PE.imp (Mc Dj ha hb) (by rintro σ H Q ⟨θ,h,ρ,w,fr,p⟩;exact(θ,h,ρ,w,fr,(aG.bind p).mono (by
   rintro d b_ h1 H1 _ _ ⟨ev,w1,p1⟩ v r;split at p1
   ·rename_i b hb;refine(b,vQ w1 r hb,rfl,?_)
    cases b with
    |false=>exact p1 b_ H1 Ev.refl w1 v r
    |true=>exact(b_,h1,ρ,w1,fr.ev ev,p1)
   ·trivial)))
def nv(f g:D->D->Hm->R D)(a b c:ME):ME:=λρ h=>(a ρ h).bind λx h1=>(b ρ h1).bind λy h2=>(f x y h2).bind λz h3=>match z with
 |.dat (.bool k)=>if k then(c ρ h3).bind λw h4=>g y w h4 else .ok (.bool false) h3
 |_=>.bad
theorem BF(h:lE G E (nv f g a b c) σ H Q):Dh (Pd G E f) (Pd G E g) (lE G E a) (lE G E b) (lE G E c) σ H Q:=by
 obtain⟨θ,h,ρ,w,fr,p⟩:=h;refine(θ,h,ρ,w,fr,(aG.bind p).mono λx b_ h1 H1 _ _ ⟨e1,w1,p1⟩ v r1=>?_);refine(b_,h1,ρ,w1,fr.ev e1,(aG.bind p1).mono λy q_ h2 H2 _ _ ⟨e2,w2,p2⟩ u r2=>(q_,h2,x,y,w2,r1.ev e2,r2,(aG.bind p2).mono λz Zx h3 H3 _ _ ⟨e3,w3,p3⟩ z' r3=>?_))
 cases z with
 |dat z=>
  cases z with
  |bool k=>
   refine(k,r3.1,?_)
   cases k with
   |true=>exact(Zx,h3,ρ,w3,(fr.ev e1).ev (e2.trans e3),(aG.bind p3).mono (by rintro w' H_ h4 H4 _ _ ⟨e4,w4,p4⟩ q r4;exact(H_,h4,y,w',w4,(r2.ev e3).ev e4,r4,p4)))
   |false=>exact p3 Zx H3 Ev.refl w3 _ (rfl,by rfl)
  |_=>trivial
 |_=>trivial
theorem Jn(ho:qP X E (compareOp op) f)(UV:qP X E (compareOp ZD) g)(ha:DE X E a e1)(hb:DE X E b e2)(hc:DE X E c e3)
 (hm:lastMarks [op,ZD] [e2,e3]=false:=by with_unfolding_all rfl):DE X E (nv f g a b c) (.Compare e1 [op,ZD] [e2,e3] pos):=by
 simp[bG]at *;exact PE.imp (HM ho UV ha hb hc hm) λ_ _ _=>BF
theorem BG(ho:qP X E (compareOp op) f)(UV:qP X E (compareOp ZD) g)(ha:DE X E a e1)(hb:DE X E b e2)(hc:DE X E c e3)
 (hm:lastMarks [op,ZD] [e2,e3]=false:=by with_unfolding_all rfl):DT X E (aJ (nv f g a b c)) (.Compare e1 [op,ZD] [e2,e3] pos):=by
 simp[bG,kT]at *;exact PT.imp (HN ho UV ha hb hc hm) λ_ _ _ q=>BF (zS q)
end
section
theorem dv(i:Nat)(hN:X.N[i]?=some x:=by rfl)(hv:Hx X.env.scope x:=by first|exact Or.inl rfl|exact Or.inr (Or.inl rfl)|exact Or.inr (Or.inr rfl))(hd:(x==("__debug__" : Str))=false:=by decide)(KF:(x==("__classdict__" : Str))=false:=by decide):DE X E (aa i) (.Name x pos):=Pe hN hv hd KF
theorem dg(i:Nat)(hN:X.N.Nodup)(hi:X.N[i]?=some x:=by rfl)(hx:Loc X.env.scope x:=by first|exact Or.inl rfl|exact Or.inr rfl)(hf:X.fn x=true\/X.env.scope.names.lookup x=some .local:=by first|exact .inl rfl|exact .inr rfl|assumption):DG X E (af i) (.Name x pos):=LO hN hi hx hf
noncomputable def ay(e:ME):MA:=λρ h=>match e ρ h with
 |.ok (.dat (.tuple ds)) h1=>.ok (ds.map D.dat) h1
 |.ok (.dat (.list ds)) h1=>.ok (ds.map D.dat) h1
 |.ok (.dat (.str s)) h1=>.ok (signs s) h1
 |.ok (.ktup ds) h1=>.ok (ds.map D.dat) h1
 |.exc x h1=>.exc x h1
 |_=>.bad
theorem bq(h:DE X E m e):DI X E (ay m) tg e:=by
 have at':=Pm (tg:=tg) h;have al':=Pn (tg:=tg) h;have as':=Po (tg:=tg) h;have ak':=L4 (tg:=tg) h;simp only[jr]at *;rintro pins s σ H QI I ⟨θ,hm,ρ,w,fr,p⟩
 cases em:m ρ hm with
 |bad=>simp only[ay,em]at p;exact p.elim
 |exc x h1=>
  simp only[ay,em]at p;refine at' pins s σ H QI I (θ,hm,ρ,w,fr,?_)
  simp_all[E1,em,R.Ir]
 |ok d h1=>
  cases d with
  |dat d=>
   cases d with
   |tuple ds=>
    simp only[ay,em]at p;refine at' pins s σ H QI I (θ,hm,ρ,w,fr,?_)
    simp_all[E1,em,R.aW]
   |list ds=>simp only[ay,em]at p;refine al' pins s σ H QI I (θ,hm,ρ,w,fr,?_);simp only[Nw,em,R.aW];exact p
   |str ds=>simp only[ay,em]at p;refine as' pins s σ H QI I (θ,hm,ρ,w,fr,?_);simp only[Ny,em,R.aW];exact p
   |_=>simp only[ay,em]at p;exact p.elim
  |ktup ds=>simp only[ay,em]at p;refine ak' pins s σ H QI I (θ,hm,ρ,w,fr,?_);simp only[RC,em,R.aW];exact p
  |_=>simp only[ay,em]at p;exact p.elim
end
section
variable {id:String}
theorem fU(i:Nat)(hN:X.N.Nodup)(he:DE X E m e)(hi:X.N[i]?=some x:=by rfl)(hx:Loc X.env.scope x:=by first|exact Or.inl rfl|exact Or.inr rfl)(hs:swapsWith e (some (.Name x pos')) pos.line X.env=pure false:=by kernel_rfl)(hf:X.fn x=true\/X.env.scope.names.lookup x=some .local:=by first|exact .inl rfl|exact .inr rfl|assumption) :
  DS X E (bC i m) (.Assign [.Name x pos'] e pos):=Pj hN hi hx he hs hf
theorem RF{y:Str}{px py pt:Pos}{kt k2 Zs}(i j:Nat)(hN:X.N.Nodup)(ha:DA X E ma [a,b])(hc:X.calm=true:=by rfl)(hi:X.N[i]?=some x:=by rfl)(hj:X.N[j]?=some y:=by rfl)(J_:i≠j:=by decide)
 (hx:X.env.scope.names.lookup x=some .local:=by rfl)(hy:X.env.scope.names.lookup y=some .local:=by rfl)
 (hw:swappedStores [.Tuple [.Name x px,.Name y py] kt pt] (.Tuple [a,b] k2 Zs) X.env=pure (some [x,y]):=by kernel_rfl)
 (hs:swapsWithSole [.Tuple [.Name x px,.Name y py] kt pt] (.Tuple [a,b] k2 Zs) pos.line X.env=pure false:=by rfl) :
  DS X E (zL [i,j] ma) (.Assign [.Tuple [.Name x px,.Name y py] kt pt] (.Tuple [a,b] k2 Zs) pos):=by
 rw[iF]at ha;exact LP (Oa hc hN hi hj J_ hx hy ha hw hs)
theorem pP(hc:qt X E (.builtin id) f)(hm:X.mg x=none)(hv:bootBuiltins x=some (.builtin id))(ha:DA X E ma (e::es))(hg:Gl X x:=by rfl)(hn:x ≠ "__name__" := by decide)(x_:(x==("__debug__" : Str))=false:=by decide)
 (he:starEach (e::es) X.env=(false,eval e X.env)::starEach es X.env:=by rfl)(t_:(backTo pos (starEach es X.env)).any (·.1)=false:=by rfl):DE X E (ag f ma) (.Call (.Name x p) (e::es) [] pos):=IJ hc hg hm hv ha hn x_ he t_
theorem iC(hc:qt X E (.type id) f)(hm:X.mg x=none)(hv:bootBuiltins x=some (.type id))(ha:DA X E ma (e::es))(hg:Gl X x:=by rfl)(hn:x ≠ "__name__" := by decide)(x_:(x==("__debug__" : Str))=false:=by decide)
 (he:starEach (e::es) X.env=(false,eval e X.env)::starEach es X.env:=by rfl)(t_:(backTo pos (starEach es X.env)).any (·.1)=false:=by rfl):DE X E (ag f ma) (.Call (.Name x p) (e::es) [] pos):=GP hc hg hm hv ha hn x_ he t_
theorem BH(kit:∀d,PySem.W.kitOne X.K (.type (OR d)) (.type n)=some (g d))(bt:bootBuiltins T=some (.type n))(m1:X.mg "isinstance" = none)(m2:X.mg T=none)(h:DE X E m e)(g1:Gl X "isinstance" := by rfl)(g2:Gl X T:=by rfl)(hT:T ≠ "__name__" := by decide)(hT2:(T==("__debug__" : Str))=false:=by decide)
 (hs:starEach [e,.Name T p2] X.env=(false,eval e X.env)::starEach [.Name T p2] X.env:=by rfl)(B_:starEach [.Name T p2] X.env=[(false,eval (.Name T p2) X.env)]:=by rfl)(t_:(backTo pos (starEach [.Name T p2] X.env)).any (·.1)=false:=by rfl):DE X E (Iu (vt g) m) (.Call (.Name "isinstance" p) [e,.Name T p2] [] pos):=Pu kit bt m1 m2 h g1 g2 hT hT2 hs B_ t_
end
def Df(K:Zc)(mg:Y8)(x:Str)(ps:Zd)(st:Stmt):Prop:=∃f fd,mg x=some (.ref f)/\Lm K x x st f fd/\Binds K fd ps []
theorem Fz{oc kV dc pm cd ct:Value}(X:K.In h)(G:h.Ns mainGlobals mg)
 (a:PySem.W.nsIn K mainGlobals x=some (some (.ref f)))(l:K.lookup f=some (oc,od,.func (PySem.W.fnOf x x (ie st) (eK st) (av st) .none kV dc pm an cd ct),sl))(c:PySem.W.codeIn K cd x=true)(k:PySem.W.keepIn K (.ref f)=true)
 (hb:∀(kV doc pm:Value) (an:Option Addr) (h_ ct:Value) (us:Zb),us.length=ps.length->bindArgs (PySem.W.fnOf x x (ie st) (eK st) (av st) .none kV doc pm an h_ ct) (us,[])=pure (ps.zip us)):Df K mg x ps st:=
 (f,_,WO X G a,zD l c k,(zD l c k).binds hb)
section
theorem Df.has(d:Df K mg x ps st)(S:aO N ps (av st))(y_:∀(f:Addr) (h_:Value) (A:Zm) (outer:List Env) (s:Zn) (H:Hp) (E:XK),cE k (A.deeper (PyProof.Rows.envOfC x (av st) s.heap.objs.size f h_)) ->
   Ff (u7 (uJ P w) P w K mg base N x (av st) f h_ A outer s H E) E b (eK st)):cB P w K mg base x ps (k+1) (bI ps.length N.length b):=by
 obtain⟨f,fd,h1,Fu,bd⟩:=d;exact((f,fd,h1,Fu.kp,bd,Tx Fu S (y_ f)),yI)
end
theorem DN:bootBuiltins "int" = some (.type "int"):=by rfl
theorem Me:bootBuiltins "bool" = some (.type "bool"):=by rfl
theorem PF:bootBuiltins "any" = some (.builtin "any"):=by rfl
theorem PH(h:jV P w K mg base (uJ P w) k f fd ps (IS (P,w,mg,K) F))(e:F=F'):jV P w K mg base (uJ P w) k f fd ps (IS (P,w,mg,K) F'):=e▸h
def ND(K:Zc):Sp:=λvs H Q _=>∃(a:Addr) (ns:List Int),vs=[.ref a]/\iA K H a (ns.map V.int)/\ns.length<=63/\∀H',Q (.bl true) H'
theorem Jo(hp:∀ns:List Int,ns.length<=63->∃h,F [.scr ns] []=.ok (.bool true) h)(z:ND G.K vs H Q E):IS G F vs H Q E:=by
 obtain⟨a,ns,rfl,hs,hl,q⟩:=z;obtain⟨h',e⟩:=hp ns hl;refine([],[],[.scr ns],(rfl,.nil,λi a o e=>by grind),.cons (a,rfl,by assumption) .nil,?_);rw[e];intro d_ H' _ _ v r;cases r.1
 grind
section
def BI:MS:=λ_ _=>.bad
theorem pQ:DS X E BI st:=by simp[gQ]at *;exact by rintro pins s σ H C I ⟨θ,hm,ρ,w,fr,p⟩;exact p.elim
end
end Ml
namespace L2
open PySem PySem.Spec PyProof.Rows
section
def RG(te:TE)(t:TA)(K:Zc):TA:=λσ H Q=>te σ H λx H1=>∃a vs,x=.ref a/\(H1 a=some (.lst vs)\/i8 K H1 a vs)/\t σ H1 λus H2=>Q (vs++us) H2
theorem Mf(ha:PE X e te)(hr:PA X es t)(he:starEach (.Starred e p::es) X.env=(true,eval e X.env)::starEach es X.env:=by rfl):PA X (.Starred e p::es) (RG te t X.K):=by
 intro pos pins s σ H Q I h;refine PySem.W.items_star (bN (ha pins s σ H _ I h) λu s1 ⟨x,H1,I1,r1,a,vs,hx,hseq,q1⟩=>?_) he;subst hx;cases r1;have key:∀(a_:Zb),Vals vs a_->∀h',(∀b o',s1.heap.get? b=some o'->h'.get? b=some o')->wpAny (model X.prog X.w) X.A (spliced (backTo pos (starEach es X.env))) (λws s3=>AP X pins σ Q (a_++ws) s3) X.xe {s1 with heap:=h'}:=λa_ rv h' hk=>by have I2:Inv X pins σ H1 {s1 with heap:=h'}:=I1.kept (t':=s1.toks) hk;exact bN (hr pos pins _ σ H1 _ I2 q1) (by rintro us s2 ⟨xs,H2,I3,r2,q2⟩;exact(vs++xs,H2,I3,rv.append r2,q2))
 unfold PySem.W.StarOf notIterableAtAll;rcases hseq with hl|ht
 ·obtain⟨a_,n,rv,eo,hz⟩:=I1.lst hl;have SB:s1.TypeIs (.ref a) "list" := (_,eo,rfl);refine UY (WE SB PySem.F.slot_list_iter.lookup (UZ (rfl,?_)));exact wpAny_collect_seq a (.inl rfl) eo rfl rfl (λh' hk=>by grind) (by rw[Vq,<- rv.length];exact hz)
 ·obtain⟨a_,rv,⟨o,eo,hc,n,hd⟩,hz⟩:=I1.tuple ht;have SB:s1.TypeIs (.ref a) "tuple" := (o,eo,hc);refine UY (WE SB PySem.F.slot_tuple_iter.lookup (UZ (rfl,?_)));exact wpAny_collect_seq a (.inr rfl) eo hc hd (λh' hk=>by simpa using key a_ rv h' hk) (by rw[Vq,<- rv.length];exact hz)
end
end L2
namespace Ml
open PySem PySem.Spec L2
def f6(x:D)(h:Hm):Option Y9:=match x with
 |.dat (.tuple ds)=>some ds
 |.ktup ds=>some ds
 |x=>listOf x h
def iG(m:ME)(a:MA):MA:=λρ h=>(m ρ h).bind λx h1=>match f6 x h1 with
 |some ds=>(a ρ h1).bind λys h2=>.ok (ds.map D.dat++ys) h2
 |Option.none=>.bad
section
theorem pR:∀{ds:Y9} {vs:List V},bu (view θ H) ds vs->cF ds=true->bj G θ H (ds.map D.dat) vs
 | [],_,r,_=>by subst r;exact .nil
 |d::ds,_,r,s=>by simp[cF]at s;obtain⟨w,ws,rfl,r1,r2⟩:=r;exact .cons (r1,s.1) (pR r2 s.2)
theorem yQ:∀{xs ys:List D} {vs us:List V},bj G θ H xs vs->bj G θ H ys us->bj G θ H (xs++ys) (vs++us)
 |_,_,_,_,.nil,r=>r
 |_,_,_,_,.cons a r,q=>.cons a (yQ r q)
theorem vX:∀{xs:Y9},(∀x∈xs,(match x with|.int _|.str _|.bool _|.none=>true|_=>false)=true)->cF xs=true->bj G θ H (xs.map D.dat) (xs.map Pb)
 | [],_,_=>.nil
 |d::ds,h,s=>by simp[cF]at s;refine .cons (?_,s.1) (vX (λx m=>h x (U2 _ m)) s.2);have:=h d (Vj ..);cases d<;>first|rfl|trivial
theorem uP(hm:DE X E m e)(ha:DA X E a es)(he:starEach (.Starred e p::es) X.env=(true,eval e X.env)::starEach es X.env:=by rfl):DA X E (iG m a) (.Starred e p::es):=by
 simp only[bG,iF]at *;rintro pos pins s σ H Q I ⟨θ,h,ρ,w,fr,p⟩;refine Mf hm ha he pos pins s σ H Q I (θ,h,ρ,w,fr,(aG.bind p).mono λd b_ h1 H1 _ _ ⟨ev,w1,p1⟩ v r=>?_);have fin:∀(b:Addr) (ds:Y9) (vs:List V),v=.ref b->(H1 b=some (.lst vs)\/i8 X.K H1 b vs)->bj X.G b_ H1 (ds.map D.dat) vs->f6 d h1=some ds->∃a_1 vs,v=.ref a_1/\(H1 a_1=some (.lst vs)\/i8 X.K H1 a_1 vs)/\lA X.G E a σ H1 λus H2=>Q (vs++us) H2:=λb ds vs e1 e2 e3 e4=>by rw[e4]at p1;refine(b,vs,e1,e2,b_,h1,ρ,w1,fr.ev ev,(aG.bind p1).mono λys q_ h2 H2 _ _ ⟨C_,w2,p2⟩ us ru=>?_);exact p2 q_ H2 Ev.refl w2 _ (yQ (e3.ev C_) ru)
 cases hs:f6 d h1 with
 |none=>rw[hs]at p1;exact p1.elim
 |some ds=>
  have IR:=hs;unfold f6 at hs;split at hs
  ·cases hs;obtain⟨⟨b,vs,rfl,hb,rr⟩,so⟩:=r;exact fin b ds vs rfl (.inr (.inl (.inl (ax _ _ _ _ hb)))) (pR rr (by simpa [fw]using so)) IR
  ·cases hs;obtain⟨b,rfl,⟨o,a_,n,k1,k2,k3,k4,k5⟩,k6,k7⟩:=r;exact fin b ds _ rfl (.inr (.inr (o,a_,n,k1,k2,k3,k4,k5))) (vX k6 k7) IR
  ·obtain⟨b,vs,rfl,hb,rr,so⟩:=qS w1 r hs;exact fin b ds vs rfl (.inl hb) (pR rr so) IR
end
end Ml
namespace L2
open PySem PySem.Spec PyProof.Rows
section
theorem BJ:compTurn (.ListComp elt [(target,iter,ifs,0),(l_,g_,n_,0)] scope pos) 0 it acc env=(do
   standAt iter.pos
   match <- pyNext it with
   |none=>pure (.done .next)
   |some v=>
    letOwnedTupleGo target it v
    assign target env v
    let mut ok:=true
    for c in ifs do
     if ok then ok <- isTrue c env (eval c env)
    if ok then
     let x <- eval g_ env
     standAt g_.pos
     let x <- foldedSetIterable g_ env x
     let _ <- runOwn (.compStart (.ListComp elt [(target,iter,ifs,0),(l_,g_,n_,0)] scope pos) 1 (<- holding [x] (pyIter x)) acc env) env
    again (.compLoop (.ListComp elt [(target,iter,ifs,0),(l_,g_,n_,0)] scope pos) 0 it acc env)):=by rfl
theorem x8(I:Nat->Zn->Prop)
 (turn:∀n s,I n s->wpAny (model prog w) A (pyNext it) (λr s1=>match r with
   |none=>R (.ok .next) s1
   |some v=>wpAny (model prog w) A (letOwnedTupleGo l_ it v) (λ_ s2=>wpAny (model prog w) A (assign l_ env v) (λ_ s3=>
     wpAny (model prog w) A (forIn n_ true λc r=>if r=true then do let ok <- isTrue c env (eval c env);pure (ForInStep.yield ok)else pure (ForInStep.yield r)) (λok s4=>
      if ok=true then wpAny (model prog w) A (eval elt env) (λx s5=>
       wpAny (model prog w) A (call (.builtin "list.append") [acc,x]) (λ_ s6=>∃m,m<n/\I m s6) (λ_ _=>False) s5) (λ_ _=>False) s4
      else ∃m,m<n/\I m s4) (λ_ _=>False) s3) (λ_ _=>False) s2) (λ_ _=>False) s1) (λ_ _=>False) s)
 (n:Nat)(h:I n s) :
  codeAny (model prog w) A (.compLoop (.ListComp elt [(target,iter,ifs,0),(l_,g_,n_,0)] scope pos) 1 it acc env) R s:=by
 refine codeAny_loop rfl I (λn s hI=>?_) n h;refine wpAny_noted ?_;refine V7 (E:=λ_ _=>False) (E':=_) (Q':=_) ?_ (λ_ _ q=>q) λ_ _ z=>z.elim;refine UY (V9 (UY (bN (turn n s hI) (λr s1 h1=>?_))))
 cases r with
 |none=>exact UZ h1
 |some v=>
  refine UY (bN h1 λ_ s2 h2=>?_);refine UY (bN h2 λ_ s3 h3=>UY (bN h3 λok s4 h4=>?_))
  cases ok with
  |false=>exact UZ (rfl,h4)
  |true=>exact UY (UY (bN h4 λx s5 h5=>UY (bN h5 λ_ s6 h6=>UZ (UZ (rfl,h6)))))
theorem x9(hs:∀x,foldedSetIterable g_ env x=pure x)(I:Nat->Zn->Prop)
 (turn:∀n s,I n s->wpAny (model prog w) A (pyNext it) (λr s1=>match r with
   |none=>R (.ok .next) s1
   |some v=>wpAny (model prog w) A (letOwnedTupleGo target it v) (λ_ s2=>wpAny (model prog w) A (assign target env v) (λ_ s3=>
     wpAny (model prog w) A (forIn ifs true λc r=>if r=true then do let ok <- isTrue c env (eval c env);pure (ForInStep.yield ok)else pure (ForInStep.yield r)) (λok s4=>
      if ok=true then wpAny (model prog w) A (eval g_ env) (λx s5=>
       wpAny (model prog w) A (pyIter x) (λit2 s6=>codeAny (model prog w) (A.mark none) (.compStart (.ListComp elt [(target,iter,ifs,0),(l_,g_,n_,0)] scope pos) 1 it2 acc env) (λr s7=>match r with|.ok _=>∃m,m<n/\I m s7|.error _=>False) s6) (λ_ _=>False) s5) (λ_ _=>False) s4
      else ∃m,m<n/\I m s4) (λ_ _=>False) s3) (λ_ _=>False) s2) (λ_ _=>False) s1) (λ_ _=>False) s)
 (n:Nat)(h:I n s) :
  codeAny (model prog w) A (.compLoop (.ListComp elt [(target,iter,ifs,0),(l_,g_,n_,0)] scope pos) 0 it acc env) R s:=by
 refine codeAny_loop rfl I (λn s hI=>?_) n h;show wpAny _ A ((compTurn (.ListComp elt [(target,iter,ifs,0),(l_,g_,n_,0)] scope pos) 0 it acc env).onRaise (λx=>do noteFrame x env;theTreesLotGoes x)) _ _ s;refine wpAny_noted ?_;rw[BJ];refine V7 (E:=λ_ _=>False) (E':=_) (Q':=_) ?_ (λ_ _ q=>q) λ_ _ z=>z.elim;refine UY (V9 (UY (bN (turn n s hI) (λr s1 h1=>?_))))
 cases r with
 |none=>exact UZ h1
 |some v=>
  refine UY (bN h1 λ_ s2 h2=>?_);refine UY (bN h2 λ_ s3 h3=>UY (bN h3 λok s4 h4=>?_))
  cases ok with
  |false=>exact UZ (rfl,h4)
  |true=>
   refine UY (bN h4 λx s5 h5=>UY (V9 (UY (W6 (hs x) (UY (VB (bN h5 λit2 s6 h6=>?_)))))));refine UY (wpAny_runOwn (XY h6 λr s7 h7=>?_))
   cases r with
   |error e=>exact h7.elim
   |ok f=>exact UZ (rfl,h7)
theorem Ah
  (h0:codeAny (model prog w) A (.compLoop (.ListComp elt [(target,iter,ifs,0),(l_,g_,n_,0)] scope pos) 1 it acc env) R s)
  (h:wpAny (model prog w) A (pyIter it) (λit' s'=>codeAny (model prog w) A (.compLoop (.ListComp elt [(target,iter,ifs,0),(l_,g_,n_,0)] scope pos) 1 it' acc env) R s')
   (notedBy (model prog w) A env λx s'=>R (.error x) s') s) :
  codeAny (model prog w) A (.compStart (.ListComp elt [(target,iter,ifs,0),(l_,g_,n_,0)] scope pos) 1 it acc env) R s:=by
 refine codeAny_of_tree ?_;refine wpAny_notedAt ?_;refine UY (XU (wpAny_ite ?_));split
 ·first
   |rfl
   |exact UZ (And.intro rfl h0)
 ·first
   |rfl
   | (show wpAny _ _ (standAt g_.pos >>= _) _ _ s;exact UY (V9 (UY (V7 h (λit' s' h'=>UZ (And.intro rfl h')) λ_ _ x=>x))))
end
noncomputable def Jp(ZS:TI)(g2:TG)(ZT:TT)(te:TE)(ys:List V)(N:List V->Hp->Prop)(w_:St)(H3:Hp):Prop:=ZS w_ H3 λJ2 H4=>∃W2:Nat->Nat->St->List V->Hp->Prop,(∃m2,W2 0 m2 w_ ys H4)/\∀i2 m2 FM zs H5,W2 i2 m2 FM zs H5 ->
 (J2.stop i2 H5/\N zs H5) \/
 (J2.go i2 H5/\zs.length<=sizeLine/\∃N2:St->List V->Hp->Prop,(∀j_ zs' H',N2 j_ zs' H'->∃m',m'<m2/\W2 (i2+1) m' j_ zs' H')/\∀x2 H6,J2.yld i2 H5 x2 H6->g2 x2 FM H6 λσ4 H7=>ZT σ4 H7 λb2 H8=>
  if b2=true then te σ4 H8 λy H9=>N2 σ4 (zs++[y]) H9 else N2 σ4 zs H8)
def DP(n:Nat)(J:It)(g:TG)(tc:TT)(ZS:TI)(g2:TG)(ZT:TT)(te:TE)(σ:St)(H:Hp)(Q:VK):Prop:=
 gW n J g tc [] (Lq Q) (λys=>ys.length<=sizeLine) (Jp ZS g2 ZT te) σ H
theorem BK{σ:St}
 {RR:Value->Addr->Result->Zn->Prop}(I:Inv X pins σ H2 s2)(CS:cj X.env.scope X.N own scope)(hc:X.calm=true)(T:Turn X.prog X.w X.K tg J fp it tn)(st:tn 0 s2.heap)(hf:∀b∈fp,jT X pins H2 b)
 (hg:∀C s2 H2 fp pins,PG (aA X own scope C s2 H2 fp pins) tg g)(ht:∀C s2 H2 fp pins,C7 (aA X own scope C s2 H2 fp pins) ifs tc)(he:∀C s2 H2 fp pins,PE (aA X own scope C s2 H2 fp pins) elt te)(hi2:∀C s2 H2 fp pins,PI (aA X own scope C s2 H2 fp pins) Zq g_ ZS)(Zz:∀C s2 H2 fp pins,PG (aA X own scope C s2 H2 fp pins) Zq g2)(ht2:∀C s2 H2 fp pins,C7 (aA X own scope C s2 H2 fp pins) n_ ZT)(B_:∀(env:Env) x,foldedSetIterable g_ env x=pure x)
 (hW:DP own.length J g tc ZS g2 ZT te σ H2 Q)
 (hR:∀D C H' s',Inv X pins σ H' s'->jT X pins H' C->(∃m,s'.heap.Ns C m)->Q (.ref D) H'->Kept X fp H2 H' s2 s'->RR (.ref D) C (.ok .next) s') :
  wpAny (model X.prog X.w) X.A (newList []) (λacc s3=>wpAny (model X.prog X.w) X.A (newFunctionEnv scope X.env.globals (fz X.env.cells scope.names []) [] X.env.qual none .none (some X.env)) (λGc s4=>
   codeAny (model X.prog X.w) X.A (.compStart (.ListComp elt [(tg,iter,ifs,0),(Zq,g_,n_,0)] scope pos) 0 (.ref it) acc {Gc with scope:=relabel scope X.env}) (RR acc Gc.locals) s4) E s3) E s2:=by
 exact zE (okA:=λys o=>∃a_ k,o={cls:=.type "list",data:=.seq (List.toArray a_) k}/\Vals ys a_) (t0:=[]) (PRE:=λys=>ys.length<=sizeLine) (FIN:=Lq Q) (BODY:=Jp ZS g2 ZT te)
  (BD:=λacc env post s=>wpAny (model X.prog X.w) X.A (eval g_ env) (λx s5=>
       wpAny (model X.prog X.w) X.A (pyIter x) (λit2 s6=>codeAny (model X.prog X.w) (X.A.mark none) (.compStart (.ListComp elt [(tg,iter,ifs,0),(Zq,g_,n_,0)] scope pos) 1 it2 (.ref acc) env) (λr s7=>match r with|.ok _=>post s7|.error _=>False) s6) (λ_ _=>False) s5) (λ_ _=>False) s)
  I CS hc T st hf hg ht (by size_fits) rfl ([],0,rfl,.nil) (by grind) (by rintro ys o p H _ hn ⟨a_,k,rfl,v⟩ ⟨hz,q⟩;exact(.lst ys,λ_ _ a=>(hz,a_,k,v,a),q p hn))
  (λD env R LI h n s=>x9 (B_ _) LI h n) (by
   rintro C D o ys N ps G_ H7 s7 post hz ⟨a_,k,rfl,v3⟩ J7 fpD2 pst q7;refine bN (hi2 C s2 H2 fp pins _ s7 G_ H7 _ J7 q7) λv s8 h8=>bN h8 λZ5 s9 h9=>?_;obtain⟨it2,fp2,tn2,J2,H9,e9,I9,T2,st9,f9,W2,⟨m2,w2⟩,turn2⟩:=h9;subst e9;have pD9:=I9.pin (D,_) (U3 _ (.head _));have neD:∀b∈fp2,D≠b:=λb hb=>(f9 b hb).2.2.2.2.2 (D,_) (U3 _ (.head _))
   have ZK:∀{H':Hp} {qs:Y5},(∀p∈qs,p.1=D)->(∀b∈fp2,H' b=none)->∀b∈fp2,jT (aA X own scope C s2 H2 fp pins) (ps++qs) H' b:=λ{H' qs} hps hn b hb=>by
    obtain⟨g0,g1,g2',g3,g4,g5⟩:=f9 b hb;refine(hn b hb,g1,g2',g3,g4,λp hp=>?_);rcases Vd.mp hp with z|z
    ·exact g5 p (Vr _ z)
    ·rcases Vd.mp z with z|z
     ·exact g5 p (U3 _ (U2 _ z))
     ·rw[hps p z];exact neD b hb
   let LI2:Nat->Zn->Prop:=λn' s'=>∃i2 FM zs k_ k2 H',Inv (aA X own scope C s2 H2 fp pins) ps FM H' s'/\tn2 i2 s'.heap/\(∀b∈fp2,H' b=none)/\H' D=none /\
    s'.heap.get? D=some {cls:=.type "list",data:=.seq (List.toArray k_) k2}/\Vals zs k_/\W2 i2 n' FM zs H'
   have i0:LI2 m2 s9:=(0,G_,ys,a_,k,H9,I9.ic (λp hp=>I9.pin p (U3 _ (U2 _ hp))),st9,λb hb=>(f9 b hb).1,pD9.2.1,pD9.1,v3,w2)
   have loop2:codeAny (model X.prog X.w) X.A (.compLoop (.ListComp elt [(tg,iter,ifs,0),(Zq,g_,n_,0)] scope pos) 1 (.ref it2) (.ref D) (pC scope C X.env)) (λr s7=>match r with|.ok _=>post s7|.error _=>False) s9:=by
    refine x8 LI2 ?_ m2 i0;rintro n2 t3 ⟨i2,FM,zs,k_,k2,K3,J3,st3',fr3',d3',a3',v3',w3'⟩;have J3p:=J3.pinned (fp:=[D]) (λb hb=>(Vm.mp hb)▸fpD2 _ d3') λb hb=>(_,(Vm.mp hb)▸a3',λv z=>(by cases z));have SZ:∀p∈gU [D] t3.heap,p.1=D:=λp hp=>by have:=(oz hp).1;simpa using this
    rcases turn2 i2 n2 FM zs K3 w3' with⟨stop2,qn2⟩|⟨go2,hz2,NN2,hNN2,step2⟩
    ·refine bN (T2.done (aA X own scope C s2 H2 fp pins) rfl rfl rfl hc i2 _ t3 _ K3 _ J3p (ZK SZ fr3') st3' stop2) λr t4 ⟨hr,J4⟩=>?_;subst hr;have a4':t4.heap.get? D=_:=(J4.pin (D,_) (U3 _ (U3 _ (df (by simp) a3')))).1;exact pst _ K3 t4 zs _ J4.kM d3' a4' (k_,k2,rfl,v3') qn2
    ·refine bN (T2.item (aA X own scope C s2 H2 fp pins) rfl rfl rfl hc i2 _ t3 _ K3 _ J3p (ZK SZ fr3') st3' go2) λr t4 ⟨u2,hr,h4''⟩=>?_;subst hr;refine bN h4'' λ_ t5 ⟨x2,K5,J5,r5',y5',st5',fr5'⟩=>?_;have J5p:=J5.pinned (fp:=fp2) (ZK SZ fr5') (T2.obj _ _ st5')
     have contI:∀{t6:Zn} {Z1:St} {K6:Hp},Inv (aA X own scope C s2 H2 fp pins) ((ps++gU [D] t3.heap)++gU fp2 t5.heap) Z1 K6 t6 ->
       Inv (aA X own scope C s2 H2 fp pins) ps Z1 K6 t6/\tn2 (i2+1) t6.heap/\(∀b∈fp2,K6 b=none)/\K6 D=none/\t6.heap.get? D=some {cls:=.type "list",data:=.seq (List.toArray k_) k2}:=λ{t6 Z1 K6} J6=>by
      have pD:=J6.pin (D,_) (U3 _ (Vr _ (U3 _ (df (by simp) a3'))));refine(J6.kM.kM,T2.keep _ _ _ st5' λb hb o e=>(J6.pin (b,o) (U3 _ (U3 _ (df hb e)))).1,λb hb=>?_,pD.2.1,pD.1);obtain⟨o,e,_⟩:=T2.obj _ _ st5' b hb;exact(J6.pin (b,o) (U3 _ (U3 _ (df hb e)))).2.1
     refine bN (Zz C s2 H2 fp pins _ t5 _ K5 x2 u2 _ J5p r5' (step2 x2 K5 y5')) λ_ t6 ⟨Z1,K6,J6,q6'⟩=>?_;refine bN (ht2 C s2 H2 fp pins _ t6 Z1 K6 _ J6 q6') λb2 t7 ⟨K7,J7,q7'⟩=>?_
     cases b2 with
     |false=>have q7'':NN2 Z1 zs K7:=q7';obtain⟨m',hm,w7⟩:=hNN2 _ _ _ q7'';obtain⟨c1,c2,c3,c4,c5⟩:=contI J7;exact(m',hm,i2+1,Z1,zs,k_,k2,K7,c1,c2,c3,c4,c5,v3',w7)
     |true=>refine bN (he C s2 H2 fp pins _ t7 Z1 K7 _ J7 q7') λv t8 ⟨y,K8,J8,r8,q8⟩=>?_;obtain⟨m',hm,w8⟩:=hNN2 _ _ _ q8;obtain⟨c1,c2,c3,c4,c5⟩:=contI J8;refine wpAny_list_append_plain (k2,c5) (λh' hp hs=>?_) (by rw[Vq,<- v3'.length];exact hz2);obtain⟨k',e'⟩:=hp;obtain⟨f0,f1,f2,f3,f4,f5⟩:=fpD2 _ c4;refine(m',hm,i2+1,Z1,zs++[y],k_++[v],k',K8,c1.turned (t':=t8.toks) (λb o hb e=>(hs.2 b hb).trans e) f0 f1 f3 f4 f5,T2.keep _ _ _ c2 λb hb o e=>(hs.2 b λz=>neD b hb z.symm).trans e,c3,c4,?_,v3'.append (.cons r8 .nil),w8);show h'.get? D=_;rw[e'];simp
   exact Ah loop2 (T2.self _ 0 s9 _ _ st9 loop2))
  (λD env R s a b=>codeAny_compStart_list a b) hW hR
section
def DQ(n:Nat)(wi:TI)(g:TG)(tc:TT)(ZS:TI)(g2:TG)(ZT:TT)(te:TE):TE:=λσ H Q=>wi σ H λJ H1=>DP n J g tc ZS g2 ZT te σ H1 Q
theorem Jq(own:Zd){pos' p_:Pos}(hN:X.N.Nodup)(ZF:X.N[i]?=some x)(hx:X.env.scope.names.lookup x=some .local)(CS:c7 X.env.scope X.N own scope=true)(hc:X.calm=true)(hi:PI X tg iter wi)(hg:∀C s2 H2 fp pins,PG (aA X own scope C s2 H2 fp pins) tg g)
 (ht:∀C s2 H2 fp pins,C7 (aA X own scope C s2 H2 fp pins) ifs tc)(he:∀C s2 H2 fp pins,PE (aA X own scope C s2 H2 fp pins) elt te)(hi2:∀C s2 H2 fp pins,PI (aA X own scope C s2 H2 fp pins) Zq g_ ZS)(Zz:∀C s2 H2 fp pins,PG (aA X own scope C s2 H2 fp pins) Zq g2)(ht2:∀C s2 H2 fp pins,C7 (aA X own scope C s2 H2 fp pins) n_ ZT)(hs:∀x,foldedSetIterable iter X.env x=pure x:=by intro _;rfl)(B_:∀(env:Env) x,foldedSetIterable g_ env x=pure x:=by intro _ _;rfl)
 (ZG:swapsWith (.ListComp elt [(tg,iter,ifs,0),(Zq,g_,n_,0)] scope pos) (some (.Name x pos')) p_.line X.env=pure true:=by rfl) :
  PS X (.Assign [.Name x pos'] (.ListComp elt [(tg,iter,ifs,0),(Zq,g_,n_,0)] scope pos) p_) (Dd (DQ own.length wi g tc ZS g2 ZT te) (af i)):=by
 intro pins s σ H D I h;have CS:=cj.of CS;rw[Yu _ _ _ _ ZG];refine UY (V9 (UY ?_));show wpAny _ X.A (do let _ <- comprehension (.ListComp elt [(tg,iter,ifs,0),(Zq,g_,n_,0)] scope pos) scope X.env _ (newList []) false (eval iter X.env) (some (assign (.Name x pos') X.env))) _ _ s
 refine UY (bN (Wj (use:=some (assign (.Name x pos') X.env)) (Q:=λ_ s'=>SP X pins D .next s') (g:=(tg,iter,ifs,0)) rfl hs (dY λn hn=>I.ok.has n (CS.frees n hn)) CS.kind (gX CS)
  (bN (hi pins s σ H _ I h) λv s1 h1=>bN h1 λZ5 s2 h2=>?_)) λ_ s' hq=>UZ (UZ hq))
 obtain⟨it,fp,tn,J,H2,e,I2,T,FB,f2,hW⟩:=h2;subst e;refine BK (Q:=λx H1=>af i x σ H1 D.nx) (RR:=λacc C=>compPost (model X.prog X.w) X.A X.xe (some (assign (.Name x pos') X.env)) (λ_ s'=>SP X pins D .next s') acc C) I2 CS hc T FB f2 hg ht he hi2 Zz ht2 B_ hW λDl C H' s' I' fC ⟨m,hn⟩ q _=>?_;show wpAny _ _ (assign (.Name x pos') X.env (.ref Dl)) _ _ s';refine Ye (oy (v:=.ref Dl) I' hN ZF (.inl hx) rfl (λZ3 I'' hsb=>?_) (.inr hx));obtain⟨f0,f1,f2',f3,f4,f5⟩:=fC;obtain⟨a,sb,ha⟩:=hsb
 have hCa:C≠a:=by
  rcases ha with e|e
  ·rw[e];exact f1
  ·exact(f4 x a e).symm
 refine(m,hn.sameBut sb hCa,λh' IR=>(_,H',?_,q));exact I''.turned (t':=Z3.toks) (λb o hb e=>(IR.2 b hb).trans e) f0 f1 f3 f4 f5
end
end L2
namespace Ml
open PySem PySem.Spec L2
noncomputable def kD(g2:MG)(t2:MT)(e:ME):List D->Fm->Hm->R (List D)
 | [],_,h=>.ok [] h
 |y::ys,ρ,h=>(g2 y ρ h).oX.bind λc_ h1=>(t2 c_ h1).oX.bind λc h2=>
  if c then(e c_ h2).oX.bind λz h3=>(kD g2 t2 e ys c_ h3).bind λzs h4=>.ok (z::zs) h4
  else kD g2 t2 e ys c_ h2
noncomputable def fO(n:Nat)(ρ:Fm)(g:MG)(t:MT)(it2:MA)(g2:MG)(t2:MT)(e:ME):List D->Nat->Hm->R (List D)
 | [],_,h=>.ok [] h
 |x::xs,k,h=>(g x (List.replicate n none++ρ) h).oX.bind λc_ h1=>(t c_ h1).oX.bind λc h2=>
  if c then(it2 c_ h2).oX.bind λys h3=>if kQ (k+ys.length)then(kD g2 t2 e ys c_ h3).bind λzs h4=>(fO n ρ g t it2 g2 t2 e xs (k+zs.length) h4).bind λws h5=>.ok (zs++ws) h5 else .bad
  else fO n ρ g t it2 g2 t2 e xs k h2
def vY(n:Nat)(it:MA)(g:MG)(t:MT)(it2:MA)(g2:MG)(t2:MT)(e:ME):MA:=λρ h=>(it ρ h).bind λxs h1=>if kQ xs.length then fO n ρ g t it2 g2 t2 e xs 0 h1 else .bad
def pS(n:Nat)(it:MA)(g:MG)(t:MT)(it2:MA)(g2:MG)(t2:MT)(e:ME):ME:=ag qH (vY n it g t it2 g2 t2 e)
section
inductive TF (G:Gx) (Z2:Za) (H5:Hp) (z:Nat) (P:List D->Fm->Za->Hm->Hp->Prop) (τ:St) (us:List V) (K:Hp):Prop
 |mk (Zo:Za) (h6:Hm) (v_:List D) (ρ6:Fm) (l:v_.length<=z) (e:Ev Z2 H5 Zo K) (w:W G Zo h6 K) (r:bj G Zo K v_ us) (f:Fr G Zo K ρ6 τ) (p:P v_ ρ6 Zo h6 K):TF G Z2 H5 z P τ us K
theorem DR(hJ:o4 G b_ H1 xs J)(w1:W G b_ h1 H1)(fr:Fr G b_ H1 ρ σ)(p1:aG G F b_ H1 ((fO n ρ g t it2 g2 t2 m xs 0 h1).bind mk) (KV G Q))
 (Zy:∀ys vs θ h H,ys.length<=sizeLine->W G θ h H->bj G θ H ys vs->aG G F θ H (mk ys h) (KV G Q)->∀p,H p=none->Q (.ref p) (upd H p (.lst vs))) :
  DP n J (lG G eU g) (lT G eU t) (lI G eU it2) (lG G eU g2) (lT G eU t2) (lE G eU m) σ H1 Q:=by
 refine zW (go:=λr acc h=>(fO n ρ g t it2 g2 t2 m r acc.length h).bind λzs h2=>mk (acc++zs) h2) (bd:=λr acc c_ h=>((it2 c_ h).oX.bind λys h3=>if kQ (acc.length+ys.length)then(kD g2 t2 m ys c_ h3).bind λzs h4=>(fO n ρ g t it2 g2 t2 m r (acc.length+zs.length) h4).bind λws h5=>.ok (zs++ws) h5 else .bad).bind λzs h2=>mk (acc++zs) h2)
  (RL:=λ_ acc ys θ H=>acc.length<=sizeLine/\bj G θ H acc ys) [] hJ w1 fr p1 (Wr _,.nil) (λx r acc h=>?_) (λe ⟨l,r⟩=>(l,bj.ev e r)) (λr=>r)
  (λ⟨l,r⟩=>by rw[<- Vo r];exact l) (λ{acc a θ h H} w ⟨l,r⟩ p=>?_) λ{x r acc ys ρ3 H_ h4 H4 FM N} w4 SC (KM,ra4) p4 hN=>?_
 ·simp only[fO,R.bind_assoc];congr;funext _ _;congr;funext c _;cases c<;>simp[R.bind_assoc]
 ·simp only[fO,R.aW,WS]at p;exact(by rw[<- Vo r];exact l,Zy acc a θ h H l w r p)
 ·simp only[R.bind_assoc]at p4;refine(H_,h4,ρ3,w4,SC,(aG.c8 p4).mono λzs Z2 h5 H5 _ _ ⟨e5,w5,p5⟩ J2 hJ2=>?_);have N_:=SC.ev e5;have ra5:=bj.ev e5 ra4;split at p5
  ·rename_i hz;have hz':=dP hz;simp only[R.bind_assoc,R.aW]at p5
   refine(λi2 m2 τ us K=>m2=zs.length-i2/\i2<=zs.length/\TF G Z2 H5 (acc.length+i2) (λv_ ρ6 Zo h6 K=>aG G F Zo K ((kD g2 t2 m (zs.drop i2) ρ6 h6).bind λvs h7=>(fO n ρ g t it2 g2 t2 m r (v_.length+vs.length) h7).bind λws h8=>mk (v_++(vs++ws)) h8) (KV G Q)) τ us K,
    (zs.length,by simp,Wr _,Z2,h5,acc,ρ3,U4 _,Ev.refl,w5,ra5,N_,p5),?_)
   rintro i2 m2 τ us K ⟨rfl,hi2,Zo,h6,v_,ρ6,hacc6,ev6,w6,ra6,fr6,p6⟩;obtain⟨k1,k2⟩:=hJ2 Zo h6 K ev6 w6;have hlu:us.length<=sizeLine:=by rw[<- show v_.length=us.length from Vo ra6];omega
   by_cases hlt2:i2<zs.length
   ·have ed2:zs.drop i2=zs[i2]::zs.drop (i2+1):=Wd hlt2;rw[ed2]at p6;obtain⟨l1,l2⟩:=k1 i2 zs[i2] (Va hlt2);refine .inr (l1,hlu,λτ us K=>i2+1<=zs.length/\TF G Z2 H5 (acc.length+(i2+1)) (λv_ ρ6 Zo h6 K=>aG G F Zo K ((kD g2 t2 m (zs.drop (i2+1)) ρ6 h6).bind λvs h7=>(fO n ρ g t it2 g2 t2 m r (v_.length+vs.length) h7).bind λws h8=>mk (v_++(vs++ws)) h8) (KV G Q)) τ us K,λ_ _ _ q=>(zs.length-(i2+1),by omega,rfl,q),λx2 K2 y2=>?_);obtain⟨e7,w7,r7⟩:=l2 x2 K2 y2;have p7:=p6.later e7;unfold kD at p7;simp only[R.bind_assoc]at p7;refine(Zo,h6,_,zs[i2],w7,fr6.ev e7,r7,(aG.c8 p7).mono λρ8 θ8 h8 K8 _ _ ⟨e8,w8,p8⟩ τ8 fr8=>(θ8,h8,ρ8,w8,fr8,(aG.c8 p8).mono λc2 θ9 h9 K9 _ _ ⟨e9,w9,p9⟩=>?_));have ev9:=(ev6.trans e7).trans (e8.trans e9);have ra9:=bj.ev (e7.trans (e8.trans e9)) ra6
    cases c2 with
    |false=>exact(hlt2,θ9,h9,v_,ρ8,by omega,ev9,w9,ra9,fr8.ev e9,p9)
    |true=>
     simp only[VR,R.bind_assoc]at p9;refine(θ9,h9,ρ8,w9,fr8.ev e9,(aG.c8 p9).mono λy3 θ10 h10 K10 _ _ ⟨e10,w10,p10⟩ v10 r10=>(hlt2,θ10,h10,v_++[y3],ρ8,by simp;omega,ev9.trans e10,w10,?_,(fr8.ev e9).ev e10,?_))
     ·exact et (bj.ev e10 ra9) (.cons r10 .nil)
     ·simp only[R.bind_assoc,R.aW]at p10;have e11:∀vs:List D,(v_++[y3]).length+vs.length=v_.length+(y3::vs).length:=λvs=>by simp;omega
      simp only[e11];simpa using p10
   ·have hx:i2=zs.length:=by omega
    subst hx;rw[Ww (U4 _)]at p6;simp only[kD,R.aW,WT,Wq,Nat.add_zero]at p6;exact .inl (k2,hN (e5.trans ev6) w6 (by omega,ra6) p6)
  ·exact p5.elim
end
section
theorem Jr{mk:List D->Hm->R D}(h:lE G E (ag mk (vY n it g t it2 g2 t2 m)) σ H Q)
 (Zy:∀ys vs θ h H,ys.length<=sizeLine->W G θ h H->bj G θ H ys vs->aG G (qr G E) θ H (mk ys h) (KV G Q)->∀p,H p=none->Q (.ref p) (upd H p (.lst vs))) :
  DQ n (lI G E it) (lG G eU g) (lT G eU t) (lI G eU it2) (lG G eU g2) (lT G eU t2) (lE G eU m) σ H Q:=by
 obtain⟨θ,h,ρ,w,fr,p⟩:=h;simp[ag,vY,R.bind_assoc]at p;refine(θ,h,ρ,w,fr,(aG.bind p).mono λxs b_ h1 H1 _ _ ⟨ev,w1,p1⟩ J hJ=>?_);split at p1
 ·exact DR hJ w1 (fr.ev ev) p1 Zy
 ·trivial
theorem Js{mk:List D->Hm->R D}(h:lS G E (bC i (ag mk (vY n it g t it2 g2 t2 m))) C σ H)
 (Zy:∀Q ys vs θ h H,ys.length<=sizeLine->W G θ h H->bj G θ H ys vs->aG G (qr G E) θ H (mk ys h) (KV G Q)->∀p,H p=none->Q (.ref p) (upd H p (.lst vs))) :
  Dd (DQ n (lI G E it) (lG G eU g) (lT G eU t) (lI G eU it2) (lG G eU g2) (lT G eU t2) (lE G eU m)) (L2.af i) C σ H:=by
 obtain⟨θ,h,ρ,w,fr,p⟩:=h;refine Jr (θ,h,ρ,w,fr,(aG.bind p).mono (by rintro d b_ h1 H1 _ _ ⟨ev,w1,p1⟩ v r;exact p1 b_ H1 Ev.refl w1 _ ((fr.ev ev).set r))) (Zy _)
theorem BL(own:Zd){pos' p_:Pos}(hN:X.N.Nodup)(ZF:X.N[i]?=some x)(hx:X.env.scope.names.lookup x=some .local)(CS:c7 X.env.scope X.N own scope=true)(hc:X.calm=true)(hi:DI X E it tg e)(hg:∀C s2 H2 fp pins,DG (aA X own scope C s2 H2 fp pins) eU g tg)
 (ht:∀C s2 H2 fp pins,IP (aA X own scope C s2 H2 fp pins) eU t ifs)(hi2:∀C s2 H2 fp pins,DI (aA X own scope C s2 H2 fp pins) eU it2 Zq e2)(Zz:∀C s2 H2 fp pins,DG (aA X own scope C s2 H2 fp pins) eU g2 Zq)
 (ht2:∀C s2 H2 fp pins,IP (aA X own scope C s2 H2 fp pins) eU t2 n_)(he:∀C s2 H2 fp pins,DE (aA X own scope C s2 H2 fp pins) eU m elt)(hs:∀x,foldedSetIterable e X.env x=pure x:=by intro _;rfl)(B_:∀(env:Env) x,foldedSetIterable e2 env x=pure x:=by intro _ _;rfl)
 (ZG:swapsWith (.ListComp elt [(tg,e,ifs,0),(Zq,e2,n_,0)] scope pos) (some (.Name x pos')) p_.line X.env=pure true:=by rfl):DS X E (bC i (pS own.length it g t it2 g2 t2 m)) (.Assign [.Name x pos'] (.ListComp elt [(tg,e,ifs,0),(Zq,e2,n_,0)] scope pos) p_):=by
 simp[bG,gQ,kU,jr,nk]at *;exact PS.imp (Jq own hN ZF hx CS hc hi hg ht he hi2 Zz ht2 hs B_ ZG) λC σ H q=>Js q λQ ys vs θ h H _=>jt ys vs θ h H
end
def Jt:PyData->Value->Bool
 |.none,.none=>true
 |.bool b,.bool c=>b==c
 |.int i,.int j _=>i==j
 |.str x,.str y _=>x==y
 |_,_=>false
def Ai:Y9->Zb->Bool
 | [],[]=>true
 |d::ds,v::vs=>Jt d v&&Ai ds vs
 |_,_=>false
def TH(K:Zc)(a:Addr)(xs:Y9):Bool:=match K.lookup a with
 |some o=>(match o.cls,o.data with
  |.type "tuple",.seq a_ _=>Ai xs a_.toList&&decide (a_.size<=sizeLine)
  |_,_=>false)&&cF xs
 |Option.none=>false
theorem Ju(h:Jt d v=true):RelV (Pb d) v/\nc d=true:=by
 unfold Jt at h;split at h
 ·trivial
 ·have:=eq_of_beq h;subst this;exact(rfl,rfl)
 ·have:=eq_of_beq h;subst this;exact((_,rfl),rfl)
 ·have:=eq_of_beq h;subst this;exact((_,rfl),rfl)
 grind
theorem yR:∀{ds:Y9} {vs:Zb},Ai ds vs=true->Vals (ds.map Pb) vs/\∀x∈ds,nc x=true
 | [],[],_=>(.nil,by simp)
 | [],_::_,h=>by trivial
 |_::_,[],h=>by trivial
 |d::ds,v::vs,h=>by
  simp[Ai]at h;obtain⟨h1,h2⟩:=Ju h.1;obtain⟨k1,k2⟩:=yR h.2;refine(.cons h1 k1,λx m=>?_)
  grind
theorem PJ(h:TH K a xs=true):IF K a xs:=by
 unfold TH at h;split at h
 ·rename_i o ho;simp at h;obtain⟨h,hs⟩:=h;split at h
  ·rename_i a_ n hc hd;simp at h;obtain⟨k1,k2⟩:=yR h.1;exact((o,a_,n,ho,hc,hd,h.2,k1),λx m=>by have:=k2 x m;cases x<;>simp_all[nc],hs)
  grind
 grind
end Ml
namespace Ml
open PySem
def cC:Y9->Y9
 | []=>[]
 |x::xs=>if xs.any (PyData.eqv x)then cC xs else x::cC xs
def setOk(ds:Y9):Bool:=(ds.all gY || ds.all m9)&&bL ds&&decide (PyData.depthAll ds<=8)&&decide (ds.length<=120)
def me:Fn:=λxs h=>match xs with
 | [x]=>match f6 x h with
  |some ds=>if setOk ds then .ok (.int (cC ds).length) h else .bad
  |Option.none=>.bad
 |_=>.bad
def pT(ds es:Y9):Y9:=(cC ds).filter (λd=>!es.any (PyData.eqv d))++(cC es).filter (λd=>!ds.any (PyData.eqv d))
noncomputable def uQ(f:Y9->Y9->Y9)(a b:ME):ME:=λρ h=>(a ρ h).bind λx h1=>match f6 x h1 with
 |some ds=>if setOk ds then(b ρ h1).bind λy h2=>match f6 y h2 with
   |some es=>if setOk (ds++es)&&eY (f ds es)then .ok (.dat (.list (cQ ltB (f ds es)))) h2 else .bad
   |Option.none=>.bad
  else .bad
 |Option.none=>.bad
theorem yS:∀{ds:Y9},bL ds=true<->∀d∈ds,aD d=true
 | []=>by trivial
 |d::ds=>by simp[bL,yS]
theorem ij{ds:Y9}(hd:∀d∈ds,aD d=true)(hx:aD x=true):ds.any (PyData.eqv x)=true<->x∈ds:=by
 rw[VL];constructor
 ·rintro⟨y,hy,e⟩;rw[(gu (bw hx) (bw (hd y hy))).mp e];exact hy
 ·exact λh=>(x,h,bH (bw hx))
theorem dE:∀{ds:Y9},(∀d∈ds,aD d=true)->∀d,d∈cC ds<->d∈ds
 | [],_,d=>by rfl
 |x::xs,h,d=>by
  have hx:=h x (Vj ..);have hxs  := λd m=>h d (U2 _ m);have ih:=dE hxs d;unfold cC;split
  ·rename_i z;rw[ij hxs hx]at z
   grind
  grind
theorem f7:∀{ds:Y9},(∀d∈ds,aD d=true)->(cC ds).Nodup
 | [],_=>by trivial
 |x::xs,h=>by
  have hx:=h x (Vj ..);have hxs  := λd m=>h d (U2 _ m);unfold cC;split
  ·exact f7 hxs
  ·rename_i z;refine VP.mpr (λq=>z ?_,f7 hxs);rw[ij hxs hx];exact(dE hxs x).mp q
end Ml
namespace L2
open PySem PySem.Spec PyProof.Rows
section
def RH(i j l:Nat)(ta:TA):TS:=λD σ H=>ta σ H λvs H1=>∃v w z,vs=[v,w,z]/\D.nx (((σ.set i (some v)).set j (some w)).set l (some z)) H1
theorem Mg(hc:X.calm=true)(hN:X.N.Nodup)(hi:X.N[i]?=some x)(hj:X.N[j]?=some y)(hl:X.N[l]?=some z)(J_:i≠j)(U_:i≠l)(hjl:j≠l)
 (hx:X.env.scope.names.lookup x=some .local)(hy:X.env.scope.names.lookup y=some .local)(hz:X.env.scope.names.lookup z=some .local)(ha:PA X [a,b,c] ta)
 (hw:swappedStores [.Tuple [.Name x px,.Name y py,.Name z pz] kt pt] (.Tuple [a,b,c] k2 Zs) X.env=pure (some [x,y,z]))
 (hs:swapsWithSole [.Tuple [.Name x px,.Name y py,.Name z pz] kt pt] (.Tuple [a,b,c] k2 Zs) pos.line X.env=pure false:=by rfl) :
  PS X (.Assign [.Tuple [.Name x px,.Name y py,.Name z pz] kt pt] (.Tuple [a,b,c] k2 Zs) pos) (RH i j l ta):=by
 intro pins s σ H D I h;rw[exec_Assign_arm];refine UY (V9 ?_);rw[hs];refine UY (UZ ?_);rw[if_neg (by decide)];refine UY (Tuple_ (bN (ha _ pins s σ H _ I h) λus s1 ⟨vs,H1,I1,r1,q1⟩=>?_));obtain⟨v,w,t,e1,q1⟩:=q1;subst e1
 obtain⟨u1,u2,u3,rfl,rv,Zr,rt⟩:∃u1 u2 u3,us=[u1,u2,u3]/\RelV v u1/\RelV w u2/\RelV t u3:=by
  cases r1 with
  |cons p q=>
   cases q with
   |cons p' q'=>
    cases q' with
    |cons p2 q2=>cases q2;exact(_,_,_,rfl,p,p',p2)
 refine VD ?_ (by show 3<=sizeLine;decide);have I2:Inv X pins σ H1 {s1 with heap:=s1.heap.push {cls:=.type "tuple",data:=.seq [u1,u2,u3].toArray}}:=I1.kept (t':=s1.toks) λb o e=>U0 _ e;rw[hw];refine UY (UZ ?_);show wpAny (model X.prog X.w) X.A (do rule "assign.swapped-stores";let items <- unpackItems (.ref s1.heap.objs.size) 3 none;assignInOrder [λv=>bindName X.env z v,λv=>bindName X.env y v,λv=>bindName X.env x v] items.reverse;pure Flow.next) _ _ _;refine UY (WG (UY (unpackItems_tuple (items:=#[u1,u2,u3]) (I.ok.hd hc) (IsTup.new s1.heap _) λh' UF=>?_)));have I3:=I2.kept (h':=h') (t':=s1.toks) λb o e=>UF b o (Vi (U6 e)) e;show wpAny _ _ (assignInOrder [λv=>bindName X.env z v,λv=>bindName X.env y v,λv=>bindName X.env x v] [u3,u2,u1] >>= λ_=>pure Flow.next) _ _ _;refine UY (W0 (Yr (iz I3 hN hl (.inl hz) rt (λs2 I4=>?_) (.inr hz))));refine W0 (Yr (iz I4 hN hj (.inl hy) Zr (λs3 I5=>?_) (.inr hy)));refine W0 (Yr (iz I5 hN hi (.inl hx) rv (λs4 I6=>assignInOrder_nil (UZ ?_)) (.inr hx)));have e:((σ.set l (some t)).set j (some w)).set i (some v)=((σ.set i (some v)).set j (some w)).set l (some t):=by rw[YY _ _ hjl.symm,YY _ _ (X4 U_),YY _ _ (X4 J_)]
 rw[e]at I6;exact(_,H1,I6,q1)
end
end L2
namespace Ml
open PySem PySem.Spec L2
section
theorem RI{y z:Str}{px py pz pt:Pos}{kt k2 Zs}(i j l:Nat)(hN:X.N.Nodup)(ha:DA X E ma [a,b,c])(hc:X.calm=true:=by rfl)(hi:X.N[i]?=some x:=by rfl)(hj:X.N[j]?=some y:=by rfl)(hl:X.N[l]?=some z:=by rfl)(J_:i≠j:=by decide)(U_:i≠l:=by decide)(hjl:j≠l:=by decide)
 (hx:X.env.scope.names.lookup x=some .local:=by rfl)(hy:X.env.scope.names.lookup y=some .local:=by rfl)(hz:X.env.scope.names.lookup z=some .local:=by rfl)
 (hw:swappedStores [.Tuple [.Name x px,.Name y py,.Name z pz] kt pt] (.Tuple [a,b,c] k2 Zs) X.env=pure (some [x,y,z]):=by kernel_rfl)
 (hs:swapsWithSole [.Tuple [.Name x px,.Name y py,.Name z pz] kt pt] (.Tuple [a,b,c] k2 Zs) pos.line X.env=pure false:=by rfl) :
  DS X E (zL [i,j,l] ma) (.Assign [.Tuple [.Name x px,.Name y py,.Name z pz] kt pt] (.Tuple [a,b,c] k2 Zs) pos):=by
 rw[iF]at ha;rw[gQ]
 exact PS.imp (Mg hc hN hi hj hl J_ U_ hjl hx hy hz ha hw hs) (by rintro C σ H ⟨θ,h,ρ,w,fr,p⟩;exact(θ,h,ρ,w,fr,(aG.bind p).mono (by
   rintro ds b_ h1 H1 _ _ ⟨ev,w1,p1⟩ vs r
   cases r with
   |nil=>trivial
   |cons r1 rr=>
    cases rr with
    |nil=>trivial
    |cons r2 rr=>
     cases rr with
     |nil=>exact p1.elim
     |cons r3 rr=>
      cases rr with
      |nil=>exact(_,_,_,rfl,p1 b_ H1 Ev.refl w1 _ ((((fr.ev ev).set r1).set r2).set r3))
      |cons=>exact p1.elim)))
end
theorem lH{N ps:Zd}{sc:Scope}(a:sc.kind=.function:=by rfl)(b:sc.isCoroutine=false:=by rfl)(c:sc.isGenerator=false:=by rfl)(d:N.Nodup:=by decide +kernel)(e:N.take ps.length=ps:=by rfl)
 (f:∀x∈ps,sc.names.lookup x=some .local\/sc.names.lookup x=some .cell:=by decide +kernel)(g:∀y∈sc.names,y.2≠.free:=by decide +kernel):aO N ps sc:=(a,b,c,d,e,f,g)
section
theorem i7(F':cB X.prog X.w X.K X.mg X.base x ps k F)(hx:Passes (uJ X.prog X.w) X E)(hr:cE j X.A)(ha:DA X E ma (e::es))(hk:k<=j:=by omega)(hg:Gl X x:=by rfl)(x_:(x==("__debug__" : Str))=false:=by decide)(he:starEach (e::es) X.env=(false,eval e X.env)::starEach es X.env:=by rfl)
 (t_:(backTo pos (starEach es X.env)).any (·.1)=false:=by rfl):DE X E (ag F ma) (.Call (.Name x p) (e::es) [] pos):=Ru F' hx (hr.mono hk) hg ha x_ he t_
end
def gK{α:Type}(n:Nat)(us ws:List α):List α:=if us.length=n then us++ws else[]
structure vZ(P:Zj)(w:World)(K:Zc)(mg:Y8)(base:Heap)(x:Str)(ps:Zd)(n k:Nat)(F:Fn):Prop where
 ex:∃(f:Addr) (fd:FuncData),mg x=some (.ref f)/\PySem.W.keepIn K (.ref f)=true/\zy K fd ps (ps.drop n) (gK n) (gK n)/\jV P w K mg base (uJ P w) k f fd ps (IS (P,w,mg,K) F)
def QB(K:Zc)(mg:Y8)(x:Str)(ps:Zd)(n:Nat)(st:Stmt):Prop:=∃f fd,mg x=some (.ref f)/\Lm K x x st f fd/\zy K fd ps (ps.drop n) (gK n) (gK n)
theorem PM(r:Vals vs us)(q:Vals zs ws):Vals (gK n vs zs) (gK n us ws):=by
 unfold gK;rw[r.length];split
 ·exact r.append q
 ·exact .nil
theorem PN{oc kV dc pm cd ct:Value}(X:K.In h)(G:h.Ns mainGlobals mg)
 (a:PySem.W.nsIn K mainGlobals x=some (some (.ref f)))(l:K.lookup f=some (oc,od,.func (PySem.W.fnOf x x (ie st) (eK st) (av st) .none kV dc pm an cd ct),sl))(c:PySem.W.codeIn K cd x=true)(k:PySem.W.keepIn K (.ref f)=true)
 (hn:0<ps.length)(hb:∀(us ws:Zb),us.length=n->n+ws.length=ps.length->bindArgs (PySem.W.fnOf x x (ie st) (eK st) (av st) .none kV dc pm an cd ct) (us,(ps.drop n).zip ws)=pure (ps.zip (us++ws))):QB K mg x ps n st:=
 (f,_,WO X G a,zD l c k,(λs us ws _ hl=>by
  unfold gK at hl ⊢;split at hl
  ·rename_i e;rw[if_pos e];rw[Vh,e]at hl;exact .of_eq (hb us ws e hl)
  grind,PM))
section
theorem QB.has(d:QB K mg x ps n st)(S:aO N ps (av st))(y_:∀(f:Addr) (h_:Value) (A:Zm) (outer:List Env) (s:Zn) (H:Hp) (E:XK),cE k (A.deeper (PyProof.Rows.envOfC x (av st) s.heap.objs.size f h_)) ->
   Ff (u7 (uJ P w) P w K mg base N x (av st) f h_ A outer s H E) E b (eK st)):vZ P w K mg base x ps n (k+1) (bI ps.length N.length b):=by
 obtain⟨f,fd,h1,Fu,bd⟩:=d;exact⟨(f,fd,h1,Fu.kp,bd,Tx Fu S (y_ f))⟩
theorem vZ.eq(h:vZ P w K mg base x ps n k F)(e:F=F'):vZ P w K mg base x ps n k F':=e▸h
end
def sJ(n:Nat)(F:Fn)(ma mk:MA):ME:=λρ h=>(ma ρ h).bind λxs h1=>(mk ρ h1).bind λys h2=>if xs.length=n then F (xs++ys) h2 else .bad
section
@[irreducible] noncomputable def QC(X:Cx)(E:XK)(m:MA)(FS:List Keyword):Prop:=PK X FS (lA X.G E m)
theorem DU(X:Cx)(E:XK)(m:MA)(FS:List Keyword):QC X E m FS=(PK X FS (lA X.G E m)):=by
 grind[QC]
theorem PK.imp(h:PK X FS t)(k:∀σ H Q,t' σ H Q->t σ H Q):PK X FS t':=λpos pins s σ H Q I q=>h pos pins s σ H Q I (k _ _ _ q)
theorem PQ:QC X E ai []:=by simp[DU]at *;exact PK.imp Ox (by rintro σ H Q ⟨θ,h,ρ,w,fr,p⟩;exact p θ H Ev.refl w _ .nil)
theorem FA(ha:DE X E m e)(hr:QC X E ma FS):QC X E (ab m ma) ((nm,e,kpos)::FS):=by simp[bG,DU]at *;exact PK.imp (Lb ha hr) (by rintro σ H Q ⟨θ,h,ρ,w,fr,p⟩;exact(θ,h,ρ,w,fr,(aG.bind p).mono (by rintro x b_ h1 H1 _ _ ⟨ev,w1,p1⟩ v r1;exact(b_,h1,ρ,w1,fr.ev ev,(aG.bind p1).mono (by rintro xs q_ h2 H2 _ _ ⟨C_,w2,p2⟩ vs r2;exact p2 q_ H2 Ev.refl w2 _ (.cons (r1.ev C_) r2))))))
theorem Jv(F':vZ X.prog X.w X.K X.mg X.base x ps n k F)(hx:Passes (uJ X.prog X.w) X E)(hr:cE j X.A)(ha:DA X E ma (e::es))(hw:QC X E mk FS)(hk:k<=j:=by omega)(hg:Gl X x:=by rfl)
 (AC:(backToKw pos (keywordEach FS X.env)).all (·.1.isSome)=true:=by rfl)(hks:(backToKw pos (keywordEach FS X.env)).filterMap (·.1)=ps.drop n:=by rfl)
 (x_:(x==("__debug__" : Str))=false:=by decide)(he:starEach (e::es) X.env=(false,eval e X.env)::starEach es X.env:=by rfl)
 (t_:((backTo pos (starEach (e::es) X.env)).any (·.1) || (backToKw pos (keywordEach FS X.env)).any (·.1.isNone))=false:=by rfl) :
  DE X E (sJ n F ma mk) (.Call (.Name x p) (e::es) FS pos):=by
 simp only[bG,iF,DU]at *;obtain⟨f,fd,h1,h2,h3,h4⟩:=F'.ex;refine PE.imp (HV h4 (hr.mono hk) hg h1 h2 h3 hx ha hw AC hks x_ he t_) λσ H Q ⟨θ,h,ρ,w,fr,p⟩=>(θ,h,ρ,w,fr,(aG.bind p).mono λxs b_ h1 H1 _ _ ⟨ev,w1,p1⟩ vs r=>(b_,h1,ρ,w1,fr.ev ev,(aG.bind p1).mono λys q_ h2 H2 _ _ ⟨C_,w2,p2⟩ zs r2=>?_));split at p2
 ·rename_i hn;have hv:vs.length=n:=by rw[<- hn];exact(Vo r).symm
  refine(q_,h2,xs++ys,w2,?_,p2);unfold gK;rw[if_pos hv];exact et (r.ev C_) r2
 ·exact p2.elim
end
def Jw(i:Nat)(m:ME):MS:=λρ h=>match ρ[i]? with
 |some (some (.dat (.int a)))=>(m ρ h).bind λy h1=>match y with
  |.dat (.int b)=>.ok (.nx (ρ.set i (some (.int (a-b))))) h1
  |_=>.bad
 |_=>.bad
section
theorem Mh(hN:X.N.Nodup)(hi:X.N[i]?=some x)(hx:Loc X.env.scope x)(he:DE X E m e)(hf:X.fn x=true\/X.env.scope.names.lookup x=some .local:=by first|exact .inl rfl|exact .inr rfl|assumption) :
  DS X E (Jw i m) (.AugAssign (.Name x pos') .Sub e pos):=by
 simp only[bG,gQ]at *
 exact PS.imp (Oc hN hi hx he Od hf) (by
  rintro C σ H ⟨θ,h,ρ,w,fr,p⟩;unfold Jw at p
  cases e1:ρ[i]? with
  |none=>rw[e1]at p;exact p.elim
  |some o=>
   cases o with
   |none=>rw[e1]at p;exact p.elim
   |some d=>
    rw[e1]at p;obtain⟨v,h1,h2⟩:=fr.2 i d e1
    cases d with
    |dat q=>
     cases q with
     |int a=>
      have hv:v=.int a:=bT h2;refine(v,h1,θ,h,ρ,w,fr,(aG.bind p).mono λy b_ h1' H1 _ _ ⟨ev,w1,p1⟩ u r=>?_)
      cases y with
      |dat q2=>
       cases q2 with
       |int b=>have hu:u=.int b:=bT r;refine(a,b,hv,hu,p1 b_ H1 Ev.refl w1 _ ((fr.ev ev).set (cu _)))
       |_=>trivial
      |_=>trivial
     |_=>exact p.elim
    |_=>exact p.elim)
theorem RJ(i:Nat)(hN:X.N.Nodup)(he:DE X E m e)(hi:X.N[i]?=some x:=by rfl)(hx:Loc X.env.scope x:=by first|exact Or.inl rfl|exact Or.inr rfl)(hf:X.fn x=true\/X.env.scope.names.lookup x=some .local:=by first|exact Or.inl rfl|exact Or.inr rfl) :
  DS X E (Jw i m) (.AugAssign (.Name x pos') .Sub e pos):=Mh hN hi hx he hf
end
end Ml
namespace Ml
open PySem L2
structure CX where
 P:Zj
 w:World
 K:Zc
 mg:Str->Option Value
 base:Heap
abbrev dU(c:CX)(x:Str)(ps:Zd)(k:Nat)(F:Fn):=cB c.P c.w c.K c.mg c.base x ps k F
abbrev RK(c:CX)(x:Str)(ps:Zd)(n k:Nat)(F:Fn):=vZ c.P c.w c.K c.mg c.base x ps n k F
abbrev mR(c:CX):=Df c.K c.mg
abbrev TJ(c:CX):=QB c.K c.mg
abbrev ap(a b:Zd):Zd:=a++b
abbrev rZ(a b:Zd):Prop:=(a++b).Nodup
end Ml
namespace Ml
open PySem
noncomputable def yT:MS:=aU (lV (sj (gm (aX (Iu (vt isStr) (aa 0)))) (gm (aJ (nv oLe oLe (ak (.int 1)) (ag iZ (ab (aa 0) ai)) (ak (.int 6)))))) (bU (ak (.bool false))) cz)
    (bU (ag sC (ab (aZ 1 (ay (aa 0)) (af 0) cq (nv oLe oLe (ak (.str "a")) (aa 0) (ak (.str "z")))) ai)))
def kX:Fn:=bI 1 1 yT
def tG:MS:=bU (ag sC (ab (aZ 2 (E3 (ab (aa 0) (ab (Qz (aa 0) (yE (ak (.int 1))) yD) ai))) (iB (bA (af 0) (bA (af 1) gn))) cq (ah oLt (aa 0) (aa 1))) ai))
def gb:Fn:=bI 1 1 tG
noncomputable def tH:MS:=aU (lV (sj (gm (aX (Iu (vt isTup) (aa 0)))) (aJ (ah E6 (ag iZ (ab (aa 0) ai)) (ak (.int 12))))) (bU (ak (.bool false))) cz)
    (bU (mQ (ag sC (ab (aZ 1 (ay (aa 0)) (af 0) cq (ag kX (ab (aa 0) ai))) ai)) (ag gb (ab (aa 0) ai))))
def j9:Fn:=bI 1 1 tH
def tI:MS:=aU (lV (sj (gm (aX (Iu (vt isTup) (aa 0)))) (aJ (ah zN (ag iZ (ab (aa 0) ai)) (ak (.int 2))))) (bU (ak (.bool false))) cz)
    (bU (mQ (ah j3 (ah dw (aa 0) (ak (.int 0))) (aa 1)) (ah j3 (ah dw (aa 0) (ak (.int 1))) (aa 1))))
def iH:Fn:=bI 2 2 tI
def o8:MS:=aU (lV (gm (aX (Iu (vt isTup) (aa 0)))) (bU (ak (.bool false))) cz)
    (bU (mQ (ag sC (ab (aZ 1 (ay (aa 0)) (af 0) cq (ag iH (ab (aa 0) (ab (aa 2) ai)))) ai)) (ag gb (ab (aa 0) ai))))
def ik:Fn:=bI 2 2 o8
noncomputable def BN:MS:=aU (lV (sj (gm (aX (Iu (vt isTup) (aa 0)))) (aJ (ah zN (ag iZ (ab (aa 0) ai)) (ak (.int 2))))) (bU (ak (.bool false))) cz)
    (aU (oY (iB (bA (af 1) (bA (af 2) gn))) (aa 0))
    (bU (mQ (ag j9 (ab (aa 1) ai)) (ag ik (ab (aa 2) (ab (aa 1) ai))))))
def qU:Fn:=bI 1 3 BN
def tJ:MS:=lV (gm (aX (ag qU (ab (aa 0) ai)))) BI cz
def ka:Fn:=bI 1 1 tJ
def BO:MS:=aU (lV (gm (aX (Iu (vt isTup) (aa 0)))) (bU (ak (.bool false))) cz)
    (bU (mQ (ag sC (ab (aZ 1 (ay (aa 0)) (af 0) cq (ah j3 (aa 0) (aa 2))) ai)) (ag gb (ab (aa 0) ai))))
def qV:Fn:=bI 2 2 BO
def tK:MS:=lV (gm (aX (ag qV (ab (aa 1) (ab (ah dw (aa 0) (ak (.int 0))) ai))))) BI cz
def kc:Fn:=bI 2 2 tK
def tL:MS:=lV (aJ (ah E6 (ag iZ (ab (ah dw (aa 0) (ak (.int 0))) ai)) (aa 1))) BI cz
def ke:Fn:=bI 2 2 tL
def tM:MS:=bU (ag sC (ab (aZ 1 (ay (aa 0)) (af 0) cq (ah j3 (aa 0) (aa 2))) ai))
def kg:Fn:=bI 2 2 tM
end Ml
namespace L2
open PySem PySem.Spec PyProof.Rows
theorem BP(I:Nat->Zn->Prop)
 (turn:∀n s,I n s->wpAny (model prog w) A (pyNext it) (λr s1=>match r with
   |none=>R (.ok .next) s1
   |some v=>wpAny (model prog w) A (letOwnedTupleGo target it v) (λ_ s2=>wpAny (model prog w) A (assign target env v) (λ_ s3=>
     wpAny (model prog w) A (forIn ifs true λc r=>if r=true then do let ok <- isTrue c env (eval c env);pure (ForInStep.yield ok)else pure (ForInStep.yield r)) (λok s4=>
      if ok=true then wpAny (model prog w) A (eval kx env) (λx s5=>wpAny (model prog w) A (eval vx env) (λy s6=>
       wpAny (model prog w) A (dictSet D x y) (λ_ s7=>∃m,m<n/\I m s7) (λ_ _=>False) s6) (λ_ _=>False) s5) (λ_ _=>False) s4
      else ∃m,m<n/\I m s4) (λ_ _=>False) s3) (λ_ _=>False) s2) (λ_ _=>False) s1) (λ_ _=>False) s)
 (n:Nat)(h:I n s) :
  codeAny (model prog w) A (.compLoop (.DictComp kx vx [(target,iter,ifs,0)] scope pos) 0 it (.ref D) env) R s:=by
 refine codeAny_loop rfl I (λn s hI=>?_) n h;show wpAny _ A ((compTurn (.DictComp kx vx [(target,iter,ifs,0)] scope pos) 0 it (.ref D) env).onRaise (λx=>do noteFrame x env;theTreesLotGoes x)) _ _ s;refine wpAny_noted ?_;rw[compTurn_dict];refine V7 (E:=λ_ _=>False) (E':=_) (Q':=_) ?_ (λ_ _ q=>q) λ_ _ z=>z.elim;refine UY (V9 (UY (bN (turn n s hI) (λr s1 h1=>?_))))
 cases r with
 |none=>exact UZ h1
 |some v=>
  refine UY (bN h1 λ_ s2 h2=>?_);refine UY (bN h2 λ_ s3 h3=>UY (bN h3 λok s4 h4=>?_))
  cases ok with
  |false=>exact UZ (rfl,h4)
  |true=>exact UY (UY (bN h4 λx s5 h5=>UY (VB (bN h5 λy s6 h6=>UY (V9 (VB (bN h6 λ_ s7 h7=>UZ (rfl,h7))))))))
noncomputable def PR{τ:Type}(P:Zj)(w:World)(A:Zm)(ok:τ->Obj->Prop)(t:τ)(y z:V)(H:Hp)(N:τ->Hp->Prop):Prop:=
 ∀(Y:Cx) (pins:Y5) (σ:St) (s:Zn) (D:Addr) (o:Obj) (u r:Value) (Q:Unit->Zn->Prop) (E:Y4),Y.prog=P->Y.w=w->Inv Y pins σ H s->s.heap.get? D=some o->ok t o->RelV y u->RelV z r ->
  (∀(h':Heap) (o':Obj) (tk:Nat) (t':τ),N t' H->h'.get? D=some o'->ok t' o'->Heap.SameBut D s.heap h'->Q () {s with heap:=h',toks:=tk})->wpAny (model P w) A (dictSet D u r) Q E s
def RM{τ:Type}(P:Zj)(w:World)(ok:τ->Obj->Prop)(Q:VK)(t:τ)(H:Hp):Prop:=∀p o,H p=none->ok t o->∃ho,(∀H' h,h.get? p=some o->p≠sysModules->cX P w H' h p ho)/\Q (.ref p) (upd H p ho)
def DV{τ:Type}(P:Zj)(w:World)(A:Zm)(ok:τ->Obj->Prop)(t0:τ)(n:Nat)(J:It)(g:TG)(tc:TT)(tk tv:TE)(σ:St)(H:Hp)(Q:VK):Prop:=
 gW n J g tc t0 (RM P w ok Q) (λ_=>True) (λt N w_ H3=>tk w_ H3 λy H4=>tv w_ H4 λz H5=>PR P w A ok t y z H5 N) σ H
theorem BQ{own:Zd}{scope:Scope}{pins:Y5}{σ:St}{H2:Hp}{s2:Zn}{fp:Za}{it:Addr}{tn:Nat->Heap->Prop}{J:It}{kx vx tg iter:Expr}{ifs:Ze}{pos:Pos}{g:TG}{tc:TT}{tk tv:TE}{Q:VK}
 {RR:Value->Addr->Result->Zn->Prop}{E:Y4}(I:Inv X pins σ H2 s2)(CS:cj X.env.scope X.N own scope)(hc:X.calm=true)(T:Turn X.prog X.w X.K tg J fp it tn)(st:tn 0 s2.heap)(hf:∀b∈fp,jT X pins H2 b)
 (hg:∀C s2 H2 fp pins,PG (aA X own scope C s2 H2 fp pins) tg g)(ht:∀C s2 H2 fp pins,C7 (aA X own scope C s2 H2 fp pins) ifs tc)(hk:∀C s2 H2 fp pins,PE (aA X own scope C s2 H2 fp pins) kx tk)(hv:∀C s2 H2 fp pins,PE (aA X own scope C s2 H2 fp pins) vx tv)
 (ok0:ok t0 {cls:=.type "dict",dict:=none,data:=.dict #[]})(okd:∀t o,ok t o->∃es ep,o.data=.dict es ep)
 (hW:DV X.prog X.w X.A ok t0 own.length J g tc tk tv σ H2 Q)
 (hR:∀D C H' s',Inv X pins σ H' s'->jT X pins H' C->(∃m,s'.heap.Ns C m)->Q (.ref D) H'->Kept X fp H2 H' s2 s'->RR (.ref D) C (.ok .next) s') :
  wpAny (model X.prog X.w) X.A newDict (λacc s3=>wpAny (model X.prog X.w) X.A (newFunctionEnv scope X.env.globals (fz X.env.cells scope.names []) [] X.env.qual none .none (some X.env)) (λGc s4=>
   codeAny (model X.prog X.w) X.A (.compStart (.DictComp kx vx [(tg,iter,ifs,0)] scope pos) 0 (.ref it) acc {Gc with scope:=relabel scope X.env}) (RR acc Gc.locals) s4) E s3) E s2:=by
 exact zE (okA:=ok) (t0:=t0) (PRE:=λ_=>True) (FIN:=RM X.prog X.w ok Q) (BODY:=λt N w_ H3=>tk w_ H3 λy H4=>tv w_ H4 λz H5=>PR X.prog X.w X.A ok t y z H5 N)
  (BD:=λD env post s=>wpAny (model X.prog X.w) X.A (eval kx env) (λx s5=>wpAny (model X.prog X.w) X.A (eval vx env) (λy s6=>wpAny (model X.prog X.w) X.A (dictSet D x y) (λ_ s7=>post s7) (λ_ _=>False) s6) (λ_ _=>False) s5) (λ_ _=>False) s)
  I CS hc T st hf hg ht (by size_fits) rfl ok0 (λt o k v z=>by grind) (λt o p H hp hn k q=>by
   obtain⟨ho,a,b⟩:=q p o hn k
   exact(ho,λH' h e=>a H' h e (X4 (Vi (Vf I.big hp))),b))
  (λD env R LI h n s=>BP LI h n) (by
   rintro C D o t N ps G_ H7 s7 post _ k3 J7 fD pst q7;refine bN (hk C s2 H2 fp pins _ s7 G_ H7 _ J7 q7) λkv s8 ⟨y,H8,I8,r8,q8⟩=>?_;refine bN (hv C s2 H2 fp pins _ s8 G_ H8 _ I8 q8) λvv s9 ⟨z,H9,I9,r9,q9⟩=>?_;have pD:=I9.pin (D,o) (U3 _ (.head _));refine q9 (aA X own scope C s2 H2 fp pins) _ _ s9 D o kv vv _ _ rfl rfl I9 pD.1 k3 r8 r9 λh' o' tk t' n' g' ok' sb=>?_;obtain⟨f0,f1,f2,f3,f4,f5⟩:=fD H9 pD.2.1
   exact pst G_ H9 _ t' o' ((I9.ic λp hp=>I9.pin p (U3 _ (U2 _ hp))).turned (t':=tk) (λb o hb e=>(sb.2 b hb).trans e) f0 f1 f3 f4 f5) pD.2.1 g' ok' n')
  (λD env R s a b=>codeAny_compStart_dict a b) hW hR
section
def Jx{τ:Type}(P:Zj)(w:World)(A:Zm)(ok:τ->Obj->Prop)(t0:τ)(n:Nat)(wi:TI)(g:TG)(tc:TT)(tk tv:TE):TE:=λσ H Q=>wi σ H λJ H1=>DV P w A ok t0 n J g tc tk tv σ H1 Q
theorem BR(own:Zd)(CS:c7 X.env.scope X.N own scope=true)(hc:X.calm=true)(hi:PI X tg iter wi)(hg:∀C s2 H2 fp pins,PG (aA X own scope C s2 H2 fp pins) tg g)
 (ht:∀C s2 H2 fp pins,C7 (aA X own scope C s2 H2 fp pins) ifs tc)(hk:∀C s2 H2 fp pins,PE (aA X own scope C s2 H2 fp pins) kx tk)(hv:∀C s2 H2 fp pins,PE (aA X own scope C s2 H2 fp pins) vx tv)
 (ok0:ok t0 {cls:=.type "dict",dict:=none,data:=.dict #[]})(okd:∀t o,ok t o->∃es ep,o.data=.dict es ep)(hs:∀x,foldedSetIterable iter X.env x=pure x:=by intro _;rfl) :
  PE X (.DictComp kx vx [(tg,iter,ifs,0)] scope pos) (Jx X.prog X.w X.A ok t0 own.length wi g tc tk tv):=by
 intro pins s σ H Q I h;have CS:=cj.of CS;refine Wj rfl hs (dY λn hn=>I.ok.has n (CS.frees n hn)) CS.kind (gX CS) (bN (hi pins s σ H _ I h) λv s1 h1=>bN h1 λZ5 s2 h2=>?_);obtain⟨it,fp,tn,J,H2,e,I2,T,FB,f2,hW⟩:=h2;subst e;refine BQ I2 CS hc T FB f2 hg ht hk hv ok0 okd hW λD C H' s' I' fC ⟨m,hn⟩ q _=>?_;refine(m,hn,λh' IR=>(.ref D,H',?_,rfl,q));obtain⟨f0,f1,_,f3,f4,f5⟩:=fC;exact I'.turned (λb o hb e=>(IR.2 b hb).trans e) f0 f1 f3 f4 f5
end
end L2
namespace Ml
open PySem PySem.Spec L2
noncomputable def il(tb:Bool)(n:Nat)(ρ:Fm)(g:MG)(c:MT)(k v:ME):List D->Y6->Hm->R Y6
 | [],acc,h=>.ok acc h
 |x::xs,acc,h=>(g x (List.replicate n none++ρ) h).oX.bind λc_ h1=>(c c_ h1).oX.bind λb h2=>
  if b then(k c_ h2).oX.bind λy h3=>(v c_ h3).oX.bind λz h4=>match y,z with
   |.dat kd,.dat vd=>if keyOk tb kd&&(tb || nc vd)&&decide (acc.length<16777216)then il tb n ρ g c k v xs (dput acc kd vd) h4 else .bad
   |_,_=>.bad
  else il tb n ρ g c k v xs acc h2
def sL(tb:Bool)(n:Nat)(it:MA)(g:MG)(c:MT)(k v:ME):ME:=λρ h=>(it ρ h).bind λxs h1=>(il tb n ρ g c k v xs [] h1).bind λkvs h2=>R.ok (D.iC tb kvs) h2
structure Mi(G:Gx)(A:Zm){τ:Type}(tb:Bool)(ok:τ->Obj->Prop)(t0:τ)(Rl:Y6->τ->Za->Hp->Prop):Prop where
 ok0:ok t0 {cls:=.type "dict",dict:=none,data:=.dict #[]}
 okd:∀t o,ok t o->∃es ep,o.data=.dict es ep
 nil:∀θ H,Rl [] t0 θ H
 ev:∀{acc t θ H d_ H'},Ev θ H d_ H'->Rl acc t θ H->Rl acc t d_ H'
 put:∀{acc t θ h H kd vd y z} {N:τ->Hp->Prop},W G θ h H->ck G θ H (.dat kd) y->ck G θ H (.dat vd) z->Rl acc t θ H->keyOk tb kd=true->(tb || nc vd)=true->acc.length<16777216 ->
  (∀t',Rl (dput acc kd vd) t' θ H->N t' H)->PR G.P G.w A ok t y z H N
 fin:∀{acc t θ h H p o},W G θ h H->Rl acc t θ H->H p=none->ok t o->∃ho,(∀H' h,h.get? p=some o->p≠sysModules->cX G.P G.w H' h p ho)/\fZ G.P G.w (view θ H) (upd H p ho) p tb acc
def US(P:Zj)(w:World)(ks:List (Key×V))(o:Obj):Prop:=ks.length<=sizeLine/\(∃es ep,o.data=.dict es ep)/\∃vs,L2.KV ks vs/\∀(h:Heap) (a:Addr),h.get? a=some o->h.DictOf (cw P w) a vs
theorem PU:Mi G A false (US G.P G.w) [] λacc ks _ _=>bP ks=some acc/\∀p∈acc,fw p.1=true/\fw p.2=true where
 ok0:=(Wr _,(_,_,rfl),[],.nil,λh a e=>YM.mpr (_,e,(YM.mp (Heap.DictOf.new (knd:=cw G.P G.w) h)).elim (by
  rintro o ⟨e1,r⟩;have e2:(h.push {cls:=.type "dict",data:=.dict #[]}).get? h.objs.size=some {cls:=.type "dict",data:=.dict #[]}:=U5 _ rfl
  grind)))
 okd:=λt o h=>h.2.1
 nil:=λθ H=>(rfl,λp hp=>nomatch hp)
 ev:=λ_ h=>h
 put:=λ{acc t θ h H kd vd y z N} w r1 r2 rl hk hf hl hN=>by
  intro Y pins σ s D o u r Q E eP ew I gD (lt,_,vs,kv,dd) ry rz cont;obtain⟨q,rfl⟩:∃q,kd=.str q:=by simp only[keyOk,Vc,VQ]at hk;cases kd<;>first|exact(_,rfl)|simp[m9]at hk
  have fd:nc vd=true:=by simpa using hf
  have hv:=BA fd r2.1;obtain⟨e2,s2⟩:=fM r1;subst e2
  have so:∀p∈dput acc (.str q) vd,fw p.1=true/\fw p.2=true:=λp hp=>by
   unfold dput at hp;split at hp
   ·obtain⟨p0,hp0,e0⟩:=Vl.mp hp;split at e0
    ·subst e0;exact((rl.2 p0 hp0).1,r2.2)
    ·subst e0;exact rl.2 p0 hp0
   ·rcases Vd.mp hp with hp|hp
    ·exact rl.2 p hp
    ·simp at hp;subst hp;exact(by simpa [fw]using s2,r2.2)
  have hz:vs.length<=sizeLine:=by rw[<- kv.length];exact lt
  refine wpAny_dictSet_pairs (knd:=cw G.P G.w) (hsz:=hz) (vc (k:=Sum.inr q) ry) (dd _ _ gD) λh' W1 hs=>?_;obtain⟨o',g',rest⟩:=YM.mp W1;refine cont h' o' _ (putK t (Sum.inr q) z) (hN _ (vU hv rl.1,so)) g' (?_,?_,stored vs (Sum.inr q) r,kv.put (Sum.inr q) rz,λh2 a e2=>YM.mpr (o',e2,rest)) hs
  ·have:=jW t (Sum.inr q) z;rw[l7 rl.1,Xg]at *;omega
  ·obtain⟨o2,es,ep,g1,g2,g3,_⟩:=W1;rw[g']at g1;cases g1;exact(es,ep,g3)
 fin:=λ{acc t θ h H p o} w rl hp ⟨lt,_,vs,kv,dd⟩=>(.dK t,λH' h2 e ne=>Dw lt (XW.mpr ne) kv (dd _ _ e),.inl (rfl,t,bD,rl.1,rl.2))
def UT(P:Zj)(w:World)(xs:List (PyData×Addr×Value))(o:Obj):Prop:=xs.length<=sizeLine/\∃es ep,o.ExactDict/\o.data=.dict es ep/\es.toList=xs.map (entryOfKey (fB P w))/\(xs.map (·.1)).Nodup
theorem PV(hA:A.units+20<cLine):Mi G A true (UT G.P G.w) [] λacc xs θ H=>Paired (pM (view θ H)) acc xs where
 ok0:=(Wr _,_,_,(rfl,rfl,rfl),rfl,rfl,List.nodup_nil)
 okd:=by rintro t o ⟨_,es,ep,_,h,_⟩;exact(es,ep,h)
 nil:=λθ H=>.nil
 ev:=λe h=>Paired.lK h λ_ _=>pM.same e.same
 put:=λ{acc t θ h H kd vd y z N} w r1 r2 rl hk hf hl hN=>by
  intro Y pins σ s D o u r Q E eP ew I gD (lt,es,ep,g2,g3,g4,g5) ry rz cont;simp only[keyOk,VR,U1,Vy]at hk
  obtain⟨b,vs,rfl,hb⟩:∃b vs,y=.ref b/\view θ H b=some (.tup vs):=by
   cases kd with
   |tuple ds=>obtain⟨b,vs,e,hb,_⟩:=r1.1;exact(b,vs,e,hb)
   |_=>simp[gY]at hk
  cases ry;have dd:s.heap.DictOfH (fB G.P G.w) D t:=(o,es,ep,gD,g2,g3,g4,Af I (ax θ H) rl,g5);have kr:=BC (b:=b) (u:=r) hk.1.2 hk.2 r1.2 r1.1 rz r2.1 r2.2 rl;refine wpAny_dictSet_heap (knd:=fB G.P G.w) (hsz:=lt) hA (Fw I (ax θ H) hk.1.2 hk.2 r1.2 r1.1) dd λh' W1 hs=>?_;obtain⟨o',r_,P3,k1,k2,k3,k4,_,k5⟩:=W1;refine cont h' o' _ (storedH t kd b r) (hN _ kr) k1 (?_,r_,P3,k2,k3,k4,k5) hs;rw[<- show(dput acc kd vd).length=_ from Vo kr];have:=BE acc kd vd
  grind[PySem.sizeLine_eq]
 fin:=λ{acc t θ h H p o} w rl hp ⟨lt,es,ep,g2,g3,g4,g5⟩=>(dO G.P G.w t p,λH' h2 e ne=>IE lt (XW.mpr ne) e g2 g3 g4 g5,.inr (rfl,t,bD,rl))
section
theorem DX(AR:Mi G A tb ok t0 Rl){F:XP}{n:Nat}{b_:Za}{H1:Hp}{h1:Hm}{xs:List D}{J:It}{σ:L2.St}{ρ:Fm}{Q:VK}(hJ:o4 G b_ H1 xs J)(w1:W G b_ h1 H1)(fr:Fr G b_ H1 ρ σ)
 (p1:aG G F b_ H1 ((il tb n ρ g t mk mv xs [] h1).bind λkvs h2=>R.ok (D.iC tb kvs) h2) (Ml.KV G Q)) :
  DV G.P G.w A ok t0 n J (lG G eU g) (lT G eU t) (lE G eU mk) (lE G eU mv) σ H1 Q:=by
 refine zW (go:=λr acc h=>(il tb n ρ g t mk mv r acc h).bind λkvs h2=>R.ok (D.iC tb kvs) h2) (bd:=λr acc c_ h=>((mk c_ h).oX.bind λy h3=>(mv c_ h3).oX.bind λz h4=>match y,z with
   |.dat kd,.dat vd=>if keyOk tb kd&&(tb || nc vd)&&decide (acc.length<16777216)then il tb n ρ g t mk mv r (dput acc kd vd) h4 else .bad
   |_,_=>.bad).bind λkvs h2=>R.ok (D.iC tb kvs) h2) (RL:=λ_=>Rl) [] hJ w1 fr p1 (AR.nil _ _) (λx r acc h=>?_) (λe r=>AR.ev e r) (λr=>r) (λ_=>trivial)
  (λ{acc a θ h H} w r p q o hq hok=>?_) λ{x r acc a ρ θ h H σ N} w fr ra p hN=>?_
 ·simp only[il,R.bind_assoc];congr;funext _ _;congr;funext c _;cases c<;>simp[R.bind_assoc]
 ·obtain⟨ho,h1,h2⟩:=AR.fin w r hq hok;obtain⟨e3,w3,g3⟩:=w.put (o:=ho) hq;refine(ho,h1,p _ _ e3 w3 _ (q,rfl,h2.same e3.same λo' e'=>?_));rw[bD]at e';rw[g3];exact e'
 ·simp only[R.bind_assoc]at p;refine(θ,h,ρ,w,fr,(aG.c8 p).mono λy Z2 h5 H5 _ _ ⟨e5,w5,p5⟩ v5 r5=>(Z2,h5,ρ,w5,fr.ev e5,(aG.c8 p5).mono λz Zo h6 H6 _ _ ⟨e6,w6,p6⟩ v6 r6=>?_));have ra6:=AR.ev (e5.trans e6) ra;have r5':=ck.ev e6 r5
  cases y with
  |dat kd=>
   cases z with
   |dat vd=>
    simp only at p6;split at p6
    ·rename_i hc;simp only[U1,Vy]at hc;exact AR.put w6 r5' r6 ra6 hc.1.1 hc.1.2 hc.2 λt' rt=>hN (e5.trans e6) w6 rt p6
    ·exact p6.elim
   |_=>exact p6.elim
  |_=>exact p6.elim
theorem BS(AR:Mi G A tb ok t0 Rl){n:Nat}{σ:L2.St}{H:Hp}{Q:VK}(h:lE G E (sL tb n it g t mk mv) σ H Q) :
  Jx G.P G.w A ok t0 n (lI G E it) (lG G eU g) (lT G eU t) (lE G eU mk) (lE G eU mv) σ H Q:=by
 obtain⟨θ,h,ρ,w,fr,p⟩:=h;exact(θ,h,ρ,w,fr,(aG.bind p).mono (by rintro xs b_ h1 H1 _ _ ⟨ev,w1,p1⟩ J hJ;exact DX AR hJ w1 (fr.ev ev) p1))
theorem BU(own:Zd)(tb:Bool)(hr:cE k X.A)(CS:c7 X.env.scope X.N own scope=true)(hc:X.calm=true)(hi:DI X E it tg e)(hg:∀C s2 H2 fp pins,DG (aA X own scope C s2 H2 fp pins) eU g tg)
 (ht:∀C s2 H2 fp pins,IP (aA X own scope C s2 H2 fp pins) eU t ifs)(hk:∀C s2 H2 fp pins,DE (aA X own scope C s2 H2 fp pins) eU mk kx)(hv:∀C s2 H2 fp pins,DE (aA X own scope C s2 H2 fp pins) eU mv vx)(hs:∀x,foldedSetIterable e X.env x=pure x:=by intro _;rfl) :
  DE X E (sL tb own.length it g t mk mv) (.DictComp kx vx [(tg,e,ifs,0)] scope pos):=by
 simp[bG,kU,jr,nk]at *
 cases tb with
 |false=>exact PE.imp (BR own CS hc hi hg ht hk hv (PU (A:=X.A)).ok0 (PU (A:=X.A)).okd hs) λσ H Q q=>BS PU q
 |true=>
  have hu:X.A.units+20<cLine:=by have:=hr.units;omega
  exact PE.imp (BR own CS hc hi hg ht hk hv (PV hu).ok0 (PV hu).okd hs) λσ H Q q=>BS (PV hu) q
end
end Ml
namespace Ml
open PySem
def BV:MS:=bU (sL false 2 (ay (ah dw (aa 0) (ak (.int 1)))) (iB (bA (af 0) (bA (af 1) gn))) (aJ (ah j3 (aa 0) (aa 3))) (aa 1) (ak (.bool true)))
def ny:Fn:=bI 2 2 BV
noncomputable def v7:MS:=aU (oY (iB (bA (af 2) (bA (af 3) gn))) (aa 0))
    (aU (bC 4 (ag ny (ab (aa 0) (ab (aa 1) ai))))
    (aU (bC 5 (sL false 2 (ay (aa 3)) (iB (bA (af 0) (bA (af 1) gn))) (aJ (ah gr (aa 0) (aa 6))) (aa 1) (ak (.bool true))))
    (bU (ag jo (ab (aZ 1 (ay (aa 2)) (af 0) (aJ (ah gr (aa 0) (aa 6))) (aa 0)) ai)))))
def jv:Fn:=bI 2 6 v7
def ya:MS:=bU (LM (ag GO (ab (aZ 2 (ay (ah dw (aa 0) (ak (.int 1)))) (iB (bA (af 0) (bA (af 1) gn))) cq (mQ (ah j3 (aa 0) (aa 3)) (ah j3 (aa 1) (aa 3)))) ai)))
def ip:Fn:=bI 2 2 ya
def yb:MS:=bU (ag kg (ab (aa 1) (ab (ag jv (ab (aa 0) (ab (aa 1) ai))) ai)))
def fE:Fn:=bI 2 2 yb
def DY:MS:=bU (ah oEq (aa 1) (ag jv (ab (aa 0) (ab (aa 1) ai))))
def jw:Fn:=bI 2 2 DY
def tN:MS:=aU (bC 2 (ag ny (ab (aa 0) (ab (aa 1) ai))))
    (bU (ag sC (ab (aZ 1 (ay (ah dw (aa 0) (ak (.int 0)))) (af 0) cq (Md (ah j3 (aa 0) (aa 2)) (ah j3 (aa 0) (aa 3)))) ai)))
def gc:Fn:=bI 2 3 tN
def Jy:MS:=bU (cW (ab (ah dw (aa 0) (ak (.int 0))) (ab (ag jo (ab (uQ pT (ah dw (aa 0) (ak (.int 1))) (aa 1)) ai)) ai)))
def jx:Fn:=bI 2 2 Jy
def qW:MS:=aU (bC 2 (ak (.list [.tuple []])))
    (aU (gp (ay (aa 0)) (af 3) (aU (bC 4 (aZ 1 (ay (aa 2)) (af 0) cq (cW (iG (aa 0) (ab (aa 4) ai)))))
    (bC 2 (Hr (aJ (ah j3 (aa 3) (aa 1))) (aa 4) (ah cJ (aa 2) (aa 4))))))
    (bU (aa 2)))
def gz:Fn:=bI 2 5 qW
noncomputable def FC:MS:=aU (bC 2 (ak (.list [.tuple []])))
    (aU (Iv 9 (aJ (ah E6 (aa 1) (ak (.int 0)))) (aU (bC 2 (pS 2 (ay (aa 2)) (af 0) cq (ay (aa 2)) (af 1) (sj (gm (aX (aa 0))) (aJ (ah oLt (ah dw (aa 0) (ak (.int (-1)))) (aa 1)))) (cW (iG (aa 0) (ab (aa 1) ai)))))
    (Jw 1 (ak (.int 1)))))
    (bU (aa 2)))
def iq:Fn:=bI 2 3 FC
def fj:Y9:=[.str "stable",.str "standing",.str "whole"]
def kY:MS:=aU (gP (ag ka (ab (aa 0) ai)))
    (aU (gP (ag ke (ab (aa 0) (ab (ak (.int 5)) ai))))
    (aU (gP (ag kc (ab (aa 0) (ab (aa 1) ai))))
    (lV (aJ (ah gr (aa 2) (TB fj))) BI cz)))
def fk:Fn:=bI 3 3 kY
noncomputable def nC:MS:=aU (lV (lM (aJ (ah vS (aa 0) (ak (.bool true)))) (aJ (ah vS (aa 0) (ak (.bool false))))) BI cz)
    (lV (sj (gm (aX (Iu (vt isInt) (aa 1)))) (sj (aX (Iu (vt Nz) (aa 1))) (gm (aJ (nv oLe oLe (ak (.int 0)) (aa 1) (ak (.int 4))))))) BI cz)
def gA:Fn:=bI 2 2 nC
end Ml
namespace L2
open PySem PySem.Spec PyProof.Rows
noncomputable def Mj(K:Zc)(mg:Y8)(a:Addr)(fs:List (Str×Str)):Prop:=
 ∃(o:Obj) (es:Zg) (ep:Nat),K.lookup a=some o/\o.ExactDict/\o.data=.dict es ep/\(es.all λe=>isExactStrKey e.key)=true /\
  ∀k n,fs.lookup k=some n->∃f,mg n=some (.ref f)/\findBy (λk v=>v.isStr k) es k=some (.ref f)
theorem Mk(ho:s.heap.get? a=some o)(x:o.ExactDict)(hd:o.data=.dict es ep)
 (AC:(es.all λe=>isExactStrKey e.key)=true)(hf:findBy (λk v=>v.isStr k) es k=some v)(q:Q v {s with toks:=s.toks+1}):wpAny (model prog w) A (getItem (.ref a) (.str k tk)) Q E s:=by
 have ty:s.TypeIs (.ref a) "dict" := (o,ho,x.1);unfold getItem
 try with_reducible refine VB ?_
 refine UY (wpAny_sequenceKey ty (by decide) ?_)
 refine UY (VA (name:=Str.ofString "__getitem__") ty slot_dict_getitem
  (Vt slot_dict_getitem ty entry_dict_getitem ?_ (args_dict_getitem _ _)))
 show wpAny _ _ (dictGet a (.str k tk) >>= _) _ _ s;refine UY ?_;unfold dictGet
 try with_reducible refine VB ?_
 refine UY (wpAny_pyHash_str (UY (PyProof.Rows.KTD.kt_dictFind_strs (s:={s with toks:=s.toks+1}) ho hd AC ?_)));rw[findBy_of_findIdx?]at hf
 cases hi:es.findIdx? λe=>e.key.isStr k with
 |none=>rw[hi]at hf;cases hf
 |some i=>rw[hi]at hf;refine UY (Ym (s:={s with toks:=s.toks+1}) ho hd (UZ ?_));have hf':Option.map (λx:DictEntry=>x.val) es[i]?=some v:=hf;rw[hf'];exact UZ (v,rfl,UZ q)
section
def RN(fs:List (Str×Str))(a:Addr)(mg:Y8)(td ty:TE):TE:=λσ H Q=>td σ H λx H1=>ty σ H1 λy H2=>∃k n,x=.ref a/\y=.str k/\fs.lookup k=some n/\∀f,mg n=some (.ref f)->Q (.ref f) H2
theorem PX(kf:Mj X.K X.mg a fs)(ho:PE X o td)(hi:PE X i ty)(hs:ON i):PE X (.Subscript o i pos) (RN fs a X.mg td ty):=by intro pins s σ H Q I h;refine Ly PySem.F.slot_dict_getitem.lookup hs (bN (ho pins s σ H _ I h) λu s1 ⟨x,H1,I1,rx,q1⟩=>bN (hi pins s1 σ H1 _ I1 q1) λiv s2 ⟨y,H2,I2,ry,k,n,ex,ey,lk,q2⟩=>?_);subst ex;subst ey;obtain rfl:u=Value.ref a:=rx;obtain⟨tk,rfl⟩:∃t,iv=Value.str k t:=ry;obtain⟨ob,es,ep,h1,h2,h3,h4,h5⟩:=kf;obtain⟨f,hf,hk⟩:=h5 k n lk;have g  := I2.u0 a ob h1;exact((ob,g,h2.1),Mk g h2 h3 h4 hk (.ref f,H2,I2.tok _,rfl,q2 f hf))
end
def NF(K:Zc)(es:Zg)(p:Str×Str):Bool:=match findBy (λk v=>v.isStr k) es p.1,PySem.W.nsIn K mainGlobals p.2 with
 |some (.ref f),some (some (.ref g))=>f==g
 |_,_=>false
def TK(K:Zc)(a:Addr)(fs:List (Str×Str)):Bool:=match K.lookup a with
 |some (.type "dict",none,.dict es _,sl)=>sl.isEmpty&&(es.all λe=>isExactStrKey e.key)&&fs.all (NF K es)
 |_=>false
theorem lookup_mem{fs:List (Str×Str)}(h:fs.lookup k=some n):(k,n)∈fs:=by
 induction fs with
 |nil=>cases h
 |cons p ps ih=>
  obtain⟨x,y⟩:=p;rw[WJ]at h
  cases q:k==x with
  |true=>rw[q]at h;cases h;rw[eq_of_beq q];exact Vj ..
  |false=>rw[q]at h;exact U2 _ (ih h)
theorem PY{K:Zc}(G:∀n v,PySem.W.nsIn K mainGlobals n=some (some v)->mg n=some v)(h:TK K a fs=true):Mj K mg a fs:=by
 unfold TK at h;split at h
 ·rename_i es ep sl e;simp only[U1]at h;obtain⟨⟨h1,h2⟩,h3⟩:=h;refine(_,es,ep,e,(rfl,rfl,?_),rfl,h2,λk n hl=>?_)
  ·grind
  ·have:=Vg.mp h3 _ (lookup_mem hl);unfold NF at this;split at this
   ·grind
   grind
 grind
end L2
namespace Ml
open PySem PySem.Spec L2
def FD(fs:List (Str×Str))(m:ME):ME:=λρ h=>(m ρ h).bind λx h1=>match x with
 |.dat (.str k)=>match fs.lookup k with
  |some n=>.ok (.fn n) h1
  |Option.none=>.bad
 |_=>.bad
section
theorem Mm(hm:∃a,X.mg x=some (.ref a)/\Mj X.K X.mg a fs)(he:DE X E m e)(hs:ON e)(hg:Gl X x:=by rfl)(hd:(x==("__debug__" : Str))=false:=by decide):DE X E (FD fs m) (.Subscript (.Name x p) e pos):=by
 simp only[bG]at *;obtain⟨a,hm,kf⟩:=hm
 exact PE.imp (PX kf (zu (v:=.ref a) hg hm rfl hd) he hs) (by
  rintro σ H Q ⟨θ,h,ρ,w,fr,q⟩;refine(θ,h,ρ,w,fr,(aG.bind q).mono λd b_ h1 H1 _ _ ⟨ev,w1,q1⟩ v r=>?_)
  cases d with
  |dat z=>
   cases z with
   |str k=>
    cases el:fs.lookup k with
    |none=>simp only[el]at q1;exact q1.elim
    |some n=>simp only[el]at q1;exact(k,n,rfl,r.1,el,λf hf=>q1 b_ H1 Ev.refl w1 _ (f,hf,rfl))
   |_=>trivial
  |_=>exact q1.elim)
end
def pU(i:Nat)(fs:List (Str×Fn))(ma:MA):ME:=λρ h=>match ρ[i]? with
 |some (some (.fn n))=>match fs.lookup n with
  |some F=>ag F ma ρ h
  |Option.none=>.bad
 |_=>.bad
inductive pV (P:Zj) (w:World) (K:Zc) (mg:Y8) (base:Heap) (k:Nat):List (Str×Fn)->Prop
 |nil:pV P w K mg base k []
 |cons {n:Str} {ps:Zd} {F:Fn} {fs:List (Str×Fn)}:cB P w K mg base n ps k F->pV P w K mg base k fs->pV P w K mg base k ((n,F)::fs)
theorem pV.get:∀{fs:List (Str×Fn)} {n:Str} {F:Fn},pV P w K mg base k fs->fs.lookup n=some F->∃ps,cB P w K mg base n ps k F
 |_,n,F,.cons (n:=m) h t,e=>by
  rw[WJ]at e
  cases q:n==m with
  |true=>
   rw[q]at e
   grind
  |false=>rw[q]at e;exact t.get e
section
theorem Jz(hs:pV X.prog X.w X.K X.mg X.base k fs)(hx:Passes (uJ X.prog X.w) X E)(hr:cE k X.A)(ha:DA X E ma (e::es))(hN:X.N[i]?=some x)(hv:Hx X.env.scope x)(x_:(x==("__debug__" : Str))=false:=by decide)(KF:(x==("__classdict__" : Str))=false:=by decide)
 (he:starEach (e::es) X.env=(false,eval e X.env)::starEach es X.env:=by rfl)(t_:(backTo pos (starEach es X.env)).any (·.1)=false:=by rfl):DE X E (pU i fs ma) (.Call (.Name x p) (e::es) [] pos):=by
 simp only[bG,iF]at *;rintro pins s σ H Q I ⟨θ,h,ρ,w,fr,q⟩;unfold pU at q
 cases e1:ρ[i]? with
 |none=>rw[e1]at q;exact q.elim
 |some o=>
  cases o with
  |none=>rw[e1]at q;exact q.elim
  |some d=>
   rw[e1]at q;obtain⟨v,g1,g2⟩:=fr.2 i d e1
   cases d with
   |fn n=>
    cases el:fs.lookup n with
    |none=>simp only[el]at q;exact q.elim
    |some F=>
     simp only[el]at q;obtain⟨f,hf,rfl⟩:=g2;obtain⟨ps,F'⟩:=hs.get el;obtain⟨f',fd,h1,h2,h3,h4⟩:=F'.has.ex;have ef:f'=f:=by have z:X.mg n=some (.ref f):=hf;rw[h1]at z;cases z;rfl
     subst ef;obtain⟨m,hn,hl⟩:=I.loc;obtain⟨u,r,l⟩:=hl i x _ hN g1 hv;obtain rfl:u=Value.ref f':=r;have fin:wpAny (model X.prog X.w) X.A (callWith pos (.ref f') [] (backTo pos (starEach (e::es) X.env)) (backToKw pos (keywordEach [] X.env))) (EP X pins σ Q) X.xe s:=PySem.W.callWith_K (h₀:=X.base) I.ok.mod.kin h2 (bN (ha pos pins s σ H _ I (θ,h,ρ,w,fr,(aG.bind q).mono (by rintro xs b_ h1 H1 _ _ ⟨ev,w1,p1⟩ vs r;exact show(IS X.G F) (vs++[]) H1 Q E from(b_,h1,xs,w1,by simpa using r,p1)))) (by rintro us s1 ⟨vs,H1,I1,r,q⟩;exact(I1.u0,HU h4 hr h3 .nil hx I1 r q))) he t_;rcases l with⟨hk,hm⟩|⟨hk,c,hc,GM⟩
     ·exact V3 (YU (YD I.ok.kind hk hn hm fin) x_)
     ·rcases hk with hk|hk
      ·exact V3 (YU (YH I.ok.kind hk hc GM fin) x_)
      ·exact V3 (YU (wpAny_loadName_free I.ok.kind hk hc GM fin KF) x_)
   |_=>exact q.elim
theorem PZ(i:Nat)(hs:pV X.prog X.w X.K X.mg X.base k fs)(hx:Passes (uJ X.prog X.w) X E)(hr:cE k X.A)(ha:DA X E ma (e::es))(hN:X.N[i]?=some x:=by rfl)(hv:Hx X.env.scope x:=by first|exact Or.inl rfl|exact Or.inr (Or.inl rfl)|exact Or.inr (Or.inr rfl))(x_:(x==("__debug__" : Str))=false:=by decide)(KF:(x==("__classdict__" : Str))=false:=by decide)
 (he:starEach (e::es) X.env=(false,eval e X.env)::starEach es X.env:=by rfl)(t_:(backTo pos (starEach es X.env)).any (·.1)=false:=by rfl):DE X E (pU i fs ma) (.Call (.Name x p) (e::es) [] pos):=Jz hs hx hr ha hN hv x_ KF he t_
end
end Ml
namespace Ml
open PySem
def kZ:List (Str×Str):=[("stable", "is_stable"),("standing", "is_standing"),("whole", "is_whole")]
noncomputable def qX:MS:=aU (bC 3 (FD kZ (aa 2)))
    (aU (gp (ay (aa 1)) (af 4) (lV (lM (aX (ag ip (ab (aa 0) (ab (aa 4) ai)))) (aX (pU 3 [("is_stable",gc),("is_standing",fE),("is_whole",jw)] (ab (aa 0) (ab (aa 4) ai))))) (bU (ak (.bool true))) cz))
    (bU (ak (.bool false))))
def gB:Fn:=bI 3 5 qX
noncomputable def pW:MS:=aU (gP (ag fk (ab (aa 0) (ab (aa 1) (ab (aa 2) ai)))))
    (aU (gP (ag gA (ab (aa 3) (ab (aa 4) ai))))
    (aU (oY (iB (bA (af 5) (bA (af 6) gn))) (aa 0))
    (aU (bC 7 (aZ 2 (ay (aa 6)) (iB (bA (af 0) (bA (af 1) gn))) (lM (aJ (ah j3 (aa 0) (aa 3))) (aJ (ah j3 (aa 1) (aa 3)))) (cW (ab (aa 0) (ab (aa 1) ai)))))
    (aU (bC 8 (pS 2 (ay (aa 5)) (af 0) cq (ay (aa 7)) (af 1) (sj (aJ (ah gr (aa 0) (aa 3))) (aJ (ah gr (aa 1) (aa 3)))) (cW (ab (aa 0) (ab (aa 1) ai)))))
    (aU (bC 9 (Hr (aX (aa 3)) (pH (ab (aa 1) ai)) (ag gz (ab (aa 5) (ab (aa 1) ai)))))
    (aU (gp (fY (ab (ah cJ (ah x6 (aa 4) (ag iZ (ab (aa 7) ai))) (ak (.int 1))) ai)) (af 10) (gp (ay (ag iq (ab (aa 8) (ab (aa 10) ai)))) (af 11) (aU (bC 12 (ag dz (ab (pH (iG (aa 7) (iG (aa 11) ai))) ai)))
    (lV (aX (ag gB (ab (ag jx (ab (aa 0) (ab (aa 12) ai))) (ab (aa 9) (ab (aa 2) ai))))) (bU (ag jo (ab (aa 12) ai))) cz))))
    (bU (ak .none))))))))
def fV:Fn:=bI 5 13 pW
def tO:MS:=aU (lV (aJ (ah oLt (aa 1) (ag iZ (ab (aa 0) ai)))) (bU (ah dw (aa 0) (aa 1))) cz)
    (bU (ak (.int 0)))
def kh:Fn:=bI 2 2 tO
noncomputable def v8:MS:=aU (bC 2 (ak (.list [.int 48271,.int 69621,.int 16807,.int 39373,.int 30269,.int 40014,.int 40692,.int 50021,.int 61687,.int 71993,.int 83869,.int 95561,.int 30307])))
    (aU (bC 3 (ah i9 (ah cJ (ah oMod (aa 0) (ak (.int 2147483647))) (ak (.int 12345))) (ah dw (aa 2) (ah oMod (aa 1) (ak (.int 13))))))
    (aU (bC 3 (ah cJ (ah cJ (aa 3) (ah i9 (ak (.int 977)) (aa 1))) (ah i9 (ak (.int 7919)) (ah j0 (aa 1) (ak (.int 13))))))
    (aU (bC 3 (ah oMod (aa 3) (ak (.int 1000000007))))
    (bU (ah j0 (ah oMod (ah cJ (ah i9 (aa 3) (aa 3)) (ah i9 (ak (.int 48271)) (aa 1))) (ak (.int 1000000007))) (ak (.int 7)))))))
def g6:Fn:=bI 2 4 v8
noncomputable def v9:MS:=aU (bC 3 (ag kh (ab (aa 0) (ab (aa 1) ai))))
    (aU (lV (lM (aJ (ah oEq (ah oMod (aa 3) (ak (.int 2))) (ak (.int 0)))) (aJ (ah oEq (aa 2) (ak (.int 0))))) (bU (vo (ab (ah j0 (ag LN (ab (aa 3) ai)) (ak (.int 2))) ai))) cz)
    (aU (bC 4 (ak (.int 0)))
    (aU (gp (fY (ab (ak (.int 90)) ai)) (af 5) (bC 4 (ah cJ (ah i9 (aa 4) (ak (.int 142857143))) (ag g6 (ab (aa 3) (ab (ah cJ (ah i9 (ak (.int 90)) (aa 2)) (aa 5)) ai))))))
    (bU (vo (ab (aa 4) ai))))))
def fW:Fn:=bI 3 6 v9
def tP:MS:=aU (oY (iB (bA (af 2) (bA (af 3) gn))) (ag uK (ab (ah dw (aa 0) (ak (.int 0))) (ab (aa 1) ai))))
    (aU (oY (pA (aa 0) (ak (.int 0))) (aa 2))
    (bU (aa 3)))
def aP:Fn:=bI 2 4 tP
noncomputable def DZ:MS:=aU (zL [2,3,4] (ab (ag aP (ab (aa 0) (ab (ah cJ (aa 1) (ak (.int 1))) ai))) (ab (ag aP (ab (aa 0) (ab (ak (.int 7)) ai))) (ab (Fy true) ai))))
    (aU (bC 5 (vo (ab (ak (.list [.str "a",.str "b",.str "c",.str "d",.str "e",.str "f",.str "g"])) ai)))
    (aU (gP (uy fK (aa 5) (ak (.list [.str "ann",.str "bo",.str "c",.str "dora",.str "elias",.str "f",.str "gwenda"]))))
    (aU (bC 5 (ah dw (aa 5) (ag aP (ab (aa 0) (ab (ak (.int 2)) ai)))))
    (aU (gp (fY (ab (ah dw (pH (ab (ak (.int 0)) (ab (aa 2) (ab (ah i9 (ak (.int 2)) (aa 2)) (ab (ah i9 (ak (.int 3)) (aa 2)) (ab (aa 2) (ab (ah j0 (aa 2) (ak (.int 2))) (ab (ah j0 (aa 2) (ak (.int 2))) ai)))))))) (aa 3)) ai)) (af 6) (aU (zL [7,8] (ab (ah dw (aa 5) (ag aP (ab (aa 0) (ab (aa 2) ai)))) (ab (ah dw (aa 5) (ag aP (ab (aa 0) (ab (aa 2) ai)))) ai)))
    (lV (sj (aJ (ah zN (aa 7) (aa 8))) (aJ (ah oEq (ag aP (ab (aa 0) (ab (ak (.int 3)) ai))) (ak (.int 0))))) (aU (oY (pA (aa 4) (cW (ab (aa 7) (ab (aa 8) ai)))) (ak (.bool true)))
    (oY (pA (aa 4) (Hr (aJ (ah oEq (aa 3) (ak (.int 4)))) (cW (ab (aa 8) (ab (aa 7) ai))) (cW (ab (aa 7) (ab (aa 8) ai))))) (ak (.bool true)))) cz)))
    (aU (gp (fY (ab (ah x6 (ah i9 (aa 2) (ag zQ (ab (ah E6 (aa 3) (ak (.int 4))) ai))) (ag zQ (ab (mQ (ah oEq (aa 3) (ak (.int 6))) (ah E6 (aa 2) (ak (.int 0)))) ai))) ai)) (af 9) (oY (pA (aa 4) (cW (ab (ah dw (aa 5) (aa 9)) (ab (ah dw (aa 5) (ah oMod (ah cJ (aa 9) (ak (.int 1))) (aa 2))) ai)))) (ak (.bool true))))
    (bU (cW (ab (ag jo (ab (Qz (aa 5) yD (yE (aa 2))) ai)) (ab (ag jo (ab (ag dz (ab (ag Bo (ab (aa 4) ai)) ai)) ai)) ai)))))))))
def pX:Fn:=bI 2 10 DZ
def mf:Fn:=iD pX
def yc:MS:=bU (ah oEq (aZ 1 (ay (aa 0)) (af 0) (aJ (ah gr (aa 0) (aa 2))) (aa 0)) (ak (.list [])))
def eA:Fn:=bI 2 2 yc
def wa:MS:=aU (bC 1 (ak (.list [.tuple []])))
    (aU (gp (ay (aa 0)) (af 2) (bC 1 (ah cJ (aa 1) (aZ 1 (ay (aa 1)) (af 0) cq (ah cJ (aa 0) (cW (ab (aa 3) ai)))))))
    (bU (aa 1)))
def cS:Fn:=bI 1 3 wa
def wb:MS:=bU (ah oEq (aZ 2 (ay (ah dw (aa 0) (ak (.int 1)))) (iB (bA (af 0) (bA (af 1) gn))) (lM (aJ (ah j3 (aa 0) (aa 3))) (aJ (ah j3 (aa 1) (aa 3)))) (ak (.int 1))) (ak (.list [])))
def eZ:Fn:=bI 2 2 wb
noncomputable def wc:MS:=aU (bC 3 (aZ 2 (ay (ah dw (aa 0) (ak (.int 1)))) (iB (bA (af 0) (bA (af 1) gn))) (aJ (ah oEq (aa 1) (aa 4))) (aa 0)))
    (bU (ah oEq (aZ 1 (ay (aa 3)) (af 0) (aJ (ah oEq (aZ 1 (ay (aa 2)) (af 0) (aJ (ah j3 (cW (ab (aa 0) (ab (aa 1) ai))) (ah dw (aa 2) (ak (.int 1))))) (ak (.int 1))) (ak (.list [])))) (aa 0)) (ak (.list []))))
def b8:Fn:=bI 3 4 wc
def BW:MS:=bU (aZ 1 (ay (aa 0)) (af 0) (aJ (ah oEq (aZ 1 (ay (aa 1)) (af 0) (lM (aJ (ah zN (aa 0) (aa 1))) (aX (ag eA (ab (aa 1) (ab (aa 0) ai))))) (ak (.int 1))) (ak (.list [])))) (aa 0))
def tQ:Fn:=bI 1 1 BW
end Ml
namespace L2
open PySem PySem.Spec PyProof.Rows
theorem BX(l1 l2:Addr)(xs ys:Zh) :
  Meets (Builtin.«zip.__new__» ([.type "zip",.ref l1,.ref l2],[])) (λ_ R s=>s.heap.IsList l1 xs/\s.heap.IsList l2 ys/\R (.ok (.ret (.ref (Nn (KD (mV "list_iterator" (mV "list_iterator" s.heap l1) l2) s.heap.objs.size (mV "list_iterator" s.heap l1).objs.size)).objs.size))) {s with heap:=xX "list_iterator" s.heap l1 l2}):=
 .of_wp λprog w A R s h=>by
  obtain⟨hp,g,d,tk,os⟩:=s;obtain⟨t1,t2,h⟩:=h;have hsub:=sub_zip;have T1:Heap.IsList (Shared.heap (hp,g,d,tk,os)) l1 xs:=t1;have T2:Heap.IsList (Shared.heap (hp.push {cls:=.type "list_iterator",data:=.fields #[.ref l1,.int 0 0]},g,d,tk,os)) l2 ys:=Heap.IsList.push t2 _
  wp_walk using Xd T1,Xd T2
  exact(_,rfl,h)
theorem P0:Zk P w "list_iterator" (λh a a_=>h.IsList a a_) iA:=
 (λi l xs=>OI i l xs,λ_ _ I q=>by obtain⟨a_,r,p,_⟩:=I.list q;exact(a_,r,p.isList),λI a b=>I.A7 a b,λ⟨_,e,_⟩=>U6 e,BX)
end L2
namespace Ml
open PySem PySem.Spec L2
def D0(a:MA):MA:=λρ h=>(a ρ h).bind λxs h1=>match xs with
 | [.dat (.list ds),.dat (.list es)]=>.ok (uw ds es) h1
 |_=>.bad
theorem Mn{X:Cx}{E:XK}{kk:Nat}{es:Ze}{Zw:Pos}{p' pos':Pos}(hg:Gl X "zip")(hm:X.mg "zip" = none)(ha:DA X E ma [e1,e2])(hs:starEach [e1,e2] X.env=[(false,eval e1 X.env),(false,eval e2 X.env)]:=by rfl)(B_:starEach [e2] X.env=[(false,eval e2 X.env)]:=by rfl) :
  DI X E (D0 ma) (.Tuple es kk Zw) (.Call (.Name "zip" p') [e1,e2] [] pos'):=by
 simp only[iF,jr]at *
 exact PI.imp (ET P0 hg hm ha hs B_) (by rintro σ H R ⟨θ,h,ρ,w,fr,p⟩;exact(θ,h,ρ,w,fr,(aG.bind p).mono λds b_ h1 H1 _ _ ⟨ev,w1,p1⟩ vs r=>by
   split at p1
   ·rename_i xs ys _
    cases r with
    |cons r1 rr=>
     cases rr with
     |cons r2 rr=>
      cases rr;have s1:cF xs=true:=by simpa [fw]using r1.2
      have s2:cF ys=true:=by simpa [fw]using r2.2
      obtain⟨a1,us,rfl,ha1,q1,_⟩:=fL r1;obtain⟨a2,ws,rfl,ha2,q2,_⟩:=fL r2;refine(a1,a2,us,ws,rfl,iA.of (ax _ _ _ _ ha1),iA.of (ax _ _ _ _ ha2),p1 b_ H1 Ev.refl w1 _ λd_ h' H' M_ w'=>?_);have k1:iA X.K H' a1 us:=iA.of (ax _ _ _ _ (M_.same _ _ ha1));have k2:iA X.K H' a2 ws:=iA.of (ax _ _ _ _ (M_.same _ _ ha2));have l1:=q1.length;have l2:=q2.length;refine(λi d e=>?_,(us,ws,k1,k2,by rw[vD,l1,l2];omega));obtain⟨x,y,ex,ey,rfl⟩:=vE _ _ _ _ e;obtain⟨u,eu,ru⟩:=bu.get' q1 ex;obtain⟨z,ez,rz⟩:=bu.get' q2 ey;refine((us,ws,u,z,k1,k2,eu,ez),λv H2 ⟨pp,x',y',e1,hp,e2,c1,c2⟩=>?_);have:=c1 us k1;rw[eu]at this;cases this;have:=c2 ws k2;rw[ez]at this;cases this;subst e1;subst e2;obtain⟨e3,w3,g3⟩:=w'.put (o:=.tup [u,z]) hp;exact(e3,w3,(pp,[u,z],rfl,g3,.cons (ru.same (M_.same.trans e3.same)) (.one (rz.same (M_.same.trans e3.same)))),by simp[fw,cF,kW s1 ex,kW s2 ey])
   ·exact p1.elim))
end Ml
namespace Ml
open PySem
noncomputable def we:MS:=aU (bC 2 (aZ 1 (ay (ag cS (ab (ah dw (aa 0) (ak (.int 0))) ai))) (af 0) (aX (ag eZ (ab (aa 1) (ab (aa 0) ai)))) (aa 0)))
    (aU (bC 3 (aZ 1 (ay (aa 2)) (af 0) (aJ (ah oEq (aZ 1 (ay (aa 0)) (af 0) (gm (aX (ag b8 (ab (aa 2) (ab (aa 1) (ab (aa 0) ai)))))) (aa 0)) (ak (.list [])))) (aa 0)))
    (aU (bC 4 (vo ai))
    (aU (gp (ay (aa 3)) (af 5) (lV (aJ (ah oEq (aZ 1 (ay (ah dw (aa 0) (ak (.int 0)))) (af 0) (lM (aJ (ah gr (aa 0) (aa 6))) (aX (ag b8 (ab (aa 1) (ab (aa 6) (ab (aa 0) ai)))))) (aa 0)) (ak (.list [])))) (gP (uy fK (aa 4) (aa 5))) cz))
    (aU (lV (sj (aJ (ah oEq (aa 1) (ak (.str "standing")))) (aJ (ah oEq (aa 1) (ak (.str "preferred"))))) (bU (ag dz (ab (Hr (aJ (ah oEq (aa 1) (ak (.str "standing")))) (aa 3) (ag tQ (ab (aa 3) ai))) ai))) cz)
    (aU (lV (aJ (ah oEq (aa 1) (ak (.str "whole")))) (bU (ag dz (ab (aa 4) ai))) cz)
    (aU (lV (aJ (ah oEq (aa 1) (ak (.str "grounded")))) BI cz)
    (aU (bC 6 (aZ 1 (ay (aa 2)) (af 0) cq (aZ 2 (ay (ah dw (aa 1) (ak (.int 1)))) (iB (bA (af 0) (bA (af 1) gn))) (aJ (ah j3 (aa 0) (aa 2))) (aa 1))))
    (bU (ag dz (ab (aZ 2 (D0 (ab (aa 2) (ab (aa 6) ai))) (iB (bA (af 0) (bA (af 1) gn))) (aJ (ah oEq (ah cJ (ag me (ab (aa 1) ai)) (ag iZ (ab (aa 0) ai))) (ag iZ (ab (ah dw (aa 2) (ak (.int 0))) ai)))) (aa 0)) ai))))))))))
def nE:Fn:=bI 2 7 we
def dF:Fn:=iD nE
noncomputable def wg:MS:=bU (cW (ab (ah dw (aa 0) (ak (.int 0))) (ab (ag jo (ab (ah cJ (aZ 1 (ay (ah dw (aa 0) (ak (.int 1)))) (af 0) (aJ (ah gr (aa 0) (aa 2))) (aa 0)) (aZ 1 (ay (aa 1)) (af 0) (aJ (ah gr (aa 0) (ah dw (aa 1) (ak (.int 1))))) (aa 0))) ai)) ai)))
def fb:Fn:=bI 2 2 wg
end Ml
namespace Ml
open PySem PySem.Spec L2
open Classical in
noncomputable def g9(g:MG)(b:MS)(j:Nat)(all:List D):List D->Fm->Hm->R Fl
 | [],ρ,h=>if h[j]?=some (.lst all)then .ok (.nx ρ) h else .bad
 |x::xs,ρ,h=>if h[j]?=some (.lst all)then(g x ρ h).oX.bind λc_ h1=>(b c_ h1).oX.bind λf h2=>match f with
  |.nx Da=>g9 g b j all xs Da h2
  |.ct Da=>g9 g b j all xs Da h2
  |.bk Da=>.ok (.nx Da) h2
  |.rt d=>.ok (.rt d) h2 else .bad
def FE(m:ME)(g:MG)(b:MS):MS:=λρ h=>(m ρ h).oX.bind λx h1=>match x with
 |.ref j=>match h1[j]? with
  |some (.lst all)=>g9 g b j all all ρ h1
  |_=>.bad
 |_=>.bad
section
theorem GZ(ha:b_[j]?=some a)(w1:W G b_ h1 H1)(fr:Fr G b_ H1 ρ σ)(p1:aG G F b_ H1 (g9 g b j all all ρ h1) (KS G C)) :
  ∃W':Nat->Nat->L2.St->Hp->Prop,(∃m,W' 0 m σ H1)/\∀i m σ H,W' i m σ H ->
   ((Qx G.K a).stop i H/\C.nx σ H)\/((Qx G.K a).go i H/\∃N:L2.St->Hp->Prop,(∀j_ H',N j_ H'->∃m',m'<m/\W' (i+1) m' j_ H')/\∀x H',(Qx G.K a).yld i H x H'->lG G eU g x σ H' λw_ H2=>lS G eU b {C with nx:=N,ct:=N,bk:=C.nx} w_ H2):=by
 refine(λi m σ H=>m=all.length-i/\i<=all.length/\∃d_ h' s_,Ev b_ H1 d_ H/\W G d_ h' H/\Fr G d_ H s_ σ/\aG G F d_ H (g9 g b j all (all.drop i) s_ h') (KS G C),(all.length,by simp,Wr _,b_,h1,ρ,Ev.refl,w1,fr,p1),?_);rintro i m σ H ⟨rfl,hi,d_,h',s_,ev,w,fr',p⟩
 have hj:h'[j]?=some (.lst all):=by
  by_cases z:h'[j]?=some (.lst all)
  ·exact z
  ·exfalso;generalize all.drop i=ds at p
   cases ds with
   |nil=>unfold g9 at p;rw[if_neg z]at p;exact p
   |cons x xs=>unfold g9 at p;rw[if_neg z]at p;exact p
 obtain⟨vs,hv,rs⟩:=w.obj j a _ (ev.get ha) hj;have q:iA G.K H a vs:=iA.of hv;have hl:all.length=vs.length:=Vo rs;by_cases m_:i<all.length
 ·have ed:all.drop i=all[i]::all.drop (i+1):=Wd m_;rw[ed]at p;simp only[g9,hj,VR]at p;obtain⟨v,M_,rv⟩:=rs.some (Va m_);refine .inr ((vs,v,q,M_),λw_ H2=>i+1<=all.length/\∃d_ h' s_,Ev b_ H1 d_ H2/\W G d_ h' H2/\Fr G d_ H2 s_ w_/\aG G F d_ H2 (g9 g b j all (all.drop (i+1)) s_ h') (KS G C),λj_ H' q=>(all.length-(i+1),by omega,rfl,q),λx H2 y=>?_);obtain⟨e2,y⟩:=y;subst e2;have:=y vs q;rw[M_]at this;cases this;refine(d_,h',s_,all[i],w,fr',rv,(aG.c8 p).mono λρ3 Zx h3 H3 _ _ ⟨e3,w3,p3⟩ FM SC=>(Zx,h3,ρ3,w3,SC,(aG.c8 p3).mono λf H_ h4 H4 _ _ ⟨e4,w4,p4⟩=>?_));have ev4:=ev.trans (e3.trans e4)
  cases f with
  |nx T_=>exact λσ5 N_=>(m_,H_,h4,T_,ev4,w4,N_,p4)
  |ct T_=>exact λσ5 N_=>(m_,H_,h4,T_,ev4,w4,N_,p4)
  |bk T_=>exact p4 H_ H4 Ev.refl w4
  |rt d=>exact p4 H_ H4 Ev.refl w4
 ·have hx:i=all.length:=by omega
  subst hx;rw[Ww (U4 _)]at p;simp only[g9,hj,VR]at p;exact .inl ((vs,q,by rw[<- hl];exact U4 _),p d_ H Ev.refl w σ fr')
theorem Mo(hc:X.calm=true)(hm:DE X.Gi eU m e)(hg:DG X.Gi eU g tg)(hb:Ff X.Gi eU b body)(hs:∀x,foldedSetIterable e X.env x=pure x:=by intro _;rfl):DS X E (FE m g b) (.For tg e body [] pos):=by
 simp only[gQ,ng,kU,bG]at *;refine PS.Gi (PS.imp (HJ PassesOwn.never hc (EJ hm) hg hb hs) λC σ H ⟨θ,h,ρ,w,fr,p⟩=>(θ,h,ρ,w,fr,(aG.c8 p).mono λd b_ h1 H1 _ _ ⟨ev,w1,p1⟩ v r=>?_))
 cases d with
 |ref j=>
  obtain⟨a,ha,rfl⟩:=r
  cases hj:h1[j]? with
  |none=>simp only[hj]at p1;exact p1.elim
  |some o=>
   cases o with
   |lst all=>simp only[hj]at p1;obtain⟨vs,hv,rs⟩:=w1.obj j a _ ha hj;exact(a,rfl,(vs,iA.of hv),GZ ha w1 (fr.ev ev) p1)
   |_=>simp only[hj]at p1;exact p1.elim
 |_=>exact p1.elim
end
end Ml
namespace Ml
open PySem
noncomputable def BY:MS:=aU (bC 2 (vo (ab (ak (.list [.tuple []])) ai)))
  (aU (gp (fY (ab (aa 1) ai)) (af 3) (aU (bC 4 (ak (.list [])))
  (aU (gp (ay (ah dw (aa 2) (ak (.int (-1))))) (af 5) (bC 4 (ah cJ (aa 4) (aZ 1 (ay (aa 0)) (af 0) (sj (aJ (ah oEq (aa 6) (ak (.tuple [])))) (aJ (ah oLt (ah dw (aa 6) (ak (.int (-1)))) (aa 0)))) (ah cJ (aa 6) (cW (ab (aa 0) ai)))))))
  (gP (uy fK (aa 2) (aa 4))))))
  (aU (bC 6 (ak (.list [])))
  (aU (FE (aa 2) (af 7) (bC 6 (ah cJ (aa 6) (aa 7))))
  (bU (aa 6)))))
def BZ:Fn:=bI 2 8 BY
def kj:Fn:=iD BZ
noncomputable def wj:MS:=aU (bC 5 (ak (.list [])))
  (aU (gp (ay (ah dw (aa 0) (ak (.int 0)))) (af 6) (bC 5 (ah cJ (aa 5) (aZ 1 (ay (ah dw (aa 0) (ak (.int 0)))) (af 0) cq (cW (ab (aa 7) (ab (aa 0) ai)))))))
  (aU (gp (ay (ag kj (ab (aa 5) (ab (aa 4) ai)))) (af 7) (aU (bC 8 (ag dF (ab (ag fb (ab (aa 0) (ab (aa 7) ai))) (ab (aa 2) ai))))
  (lV (sj (aJ (ah j3 (aa 1) (aa 8))) (lM (gm (aX (aa 3))) (aJ (ah zN (aZ 1 (ay (aa 8)) (af 0) (aX (ag eA (ab (aa 2) (ab (aa 0) ai)))) (ak (.int 1))) (ak (.list [])))))) (bU (aa 7)) cz)))
  (bU (ak .none))))
def gC:Fn:=bI 5 9 wj
end Ml
namespace Ml
open PySem PySem.Spec L2
def wk(gs:Hs)(n:Nat)(ma:MA):MS:=λρ h=>(ma ρ h).bind λxs h1=>if xs.length=n then(gs xs ρ h1).bind λc_ h2=>.ok (.nx c_) h2 else .bad
theorem FF{n k k2:Nat}{p1 p2 pos:Pos}(hc:X.calm=true)(ha:DA X E ma es)(hg:Ph X E gs tgs)(hle:n<=1000:=by decide)(hn:(assignEach tgs X.env).length=n:=by rfl)(Zt:(assignEach tgs X.env).findIdx? (·.1)=none:=by rfl)
 (hs:swapsWithSole [.Tuple tgs k p1] (.Tuple es k2 p2) pos.line X.env=pure false:=by rfl)(hw:swappedStores [.Tuple tgs k p1] (.Tuple es k2 p2) X.env=pure none:=by rfl)
 (h1:(assignEach [.Tuple tgs k p1] X.env).map (·.2)=[assign (.Tuple tgs k p1) X.env]:=by rfl):DS X E (wk gs n ma) (.Assign [.Tuple tgs k p1] (.Tuple es k2 p2) pos):=by
 simp only[gQ,iF,zV]at *;refine PS.imp (HF (Dn ha) (HE (n:=n) hc hg hn Zt) hs hw h1) λC σ H ⟨θ,h,ρ,w,fr,p⟩=>(θ,h,ρ,w,fr,(aG.bind p).mono λxs b_ h1 H1 _ _ ⟨ev,w1,p1⟩ vs r1=>?_);split at p1
 ·rename_i hl;have hv:vs.length=n:=by rw[<- show xs.length=vs.length from Vo r1];exact hl
  refine(by rw[hv,WI];omega,λq hq=>?_);obtain⟨e2,w2,g2⟩:=w1.put (o:=.tup vs) hq;exact(q,vs,rfl,i8.of bD,hv,b_,h1,ρ,xs,w2,(fr.ev ev).ev e2,bj.ev e2 r1,(aG.bind (aG.later p1 e2)).mono λc_ q_ h2 H2 _ _ ⟨C_,w3,p3⟩ w_ fr2=>p3 q_ H2 Ev.refl w3 w_ fr2)
 ·exact p1.elim
end Ml
namespace Ml
open PySem
noncomputable def Aj:MS:=aU (wk (bA (af 1) (bA (af 2) gn)) 2 (ab (ag mf (ab (aa 0) (ab (ak (.int 3)) ai))) (ab (ag aP (ab (aa 0) (ab (ak (.int 3)) ai))) ai)))
  (aU (wk (bA (af 3) (bA (af 4) gn)) 2 (ab (ag mO (ab (aa 1) ai)) (ab (ah oEq (ag aP (ab (aa 0) (ab (ak (.int 2)) ai))) (ak (.int 0))) ai)))
  (aU (bC 5 (ah dw (ak (.list [.str "standing",.str "whole",.str "stable"])) (ag aP (ab (aa 0) (ab (ak (.int 3)) ai)))))
  (aU (gp (ay (ag cS (ab (ah dw (aa 1) (ak (.int 0))) ai))) (af 6) (aU (bC 7 (ag gC (ab (aa 1) (ab (aa 6) (ab (aa 5) (ab (aa 4) (ab (aa 2) ai)))))))
  (aU (bC 8 (aZ 1 (fY (ab (ak (.int 2)) ai)) (af 0) cq (sJ 3 fV (ab (aa 2) (ab (aa 7) (ab (aa 6) ai))) (ab (aa 5) (ab (aa 3) ai)))))
  (lV (aJ (ah zN (ag mO (ab (aa 8) ai)) (ag mO (ab (pH (ab (aa 7) (ab (aa 7) ai))) ai)))) (bU (ak (.bool false))) cz))))
  (bU (ah oEq (ag mO (ab (aa 1) ai)) (aa 3))))))
def mi:Fn:=bI 1 9 Aj
noncomputable def RO:MS:=aU (gp (fY (ab (ag Iz (ab (ak (.int 1)) (ab (ag IA (ab (ag iZ (ab (aa 0) ai)) (ab (ak (.int 2)) ai))) ai))) ai)) (af 1) (gp (fY (ab (ak (.int 2)) ai)) (af 2) (lV (gm (aX (ag mi (ab (ag fW (ab (aa 0) (ab (aa 1) (ab (aa 2) ai)))) ai)))) (bU (ak (.bool false))) cz)))
  (bU (ak (.bool true)))
def FG:Fn:=bI 1 3 RO
end Ml
namespace RP
open PySem
abbrev pY(xs:Zi):Prop:=xs.toList.Pairwise (· < ·)
theorem uR(r:pY xs)(hi:i<k)(hk:k<xs.size):xs[i]'#[1]<xs[k]:=by
 have:=W7.mp r i k (by simpa using(by omega:i<xs.size)) #[1] hi
 simp_all
theorem wm(r:pY xs)(j:Nat):∀(fuel lo hi:Nat),lo<=hi->hi<=xs.size->hi-lo<=fuel->(∀i (h:i<xs.size),i<lo->xs[i]<j)->(∀i (h:i<xs.size),hi<=i->j<=xs[i]) ->
  (∀i (h:i<xs.size),i<SetTable.below.go xs j fuel lo hi->xs[i]<j)/\(∀i (h:i<xs.size),SetTable.below.go xs j fuel lo hi<=i->j<=xs[i])/\SetTable.below.go xs j fuel lo hi<=xs.size
 |0,lo,hi,h1,h2,h3,a,b=>by
  grind[SetTable.below.go]
 |fuel+1,lo,hi,h1,h2,h3,a,b=>by
  simp only[SetTable.below.go];split
  ·rename_i m_;have hm:(lo+hi) / 2<xs.size:=by omega
   simp only[Array.getD,hm,dif_pos];split
   ·rename_i hx;refine wm r j fuel _ hi #[1] h2 #[1] (λi h Do=>?_) b;by_cases e:i=(lo+hi) / 2
    ·subst e;exact hx
    ·have:=uR r (i:=i) (k:=(lo+hi) / 2) #[1] hm;have UF:xs[(lo+hi) / 2]<j:=hx;omega
   ·rename_i hx;refine wm r j fuel lo _ #[1] #[1] #[1] a λi h Do=>?_;have UF:¬ xs[(lo+hi) / 2]<j:=hx;by_cases e:i=(lo+hi) / 2
    ·subst e;omega
    ·have:=uR r (i:=(lo+hi) / 2) (k:=i) #[1] h;omega
  grind
theorem jy(r:pY xs)(j:Nat):(∀i (h:i<xs.size),i<SetTable.below xs j->xs[i]<j)/\(∀i (h:i<xs.size),SetTable.below xs j<=i->j<=xs[i])/\SetTable.below xs j<=xs.size:=
 wm r j xs.size 0 xs.size #[1] #[1] #[1] (λ_ _ h=>by omega) λ_ _ h=>by omega
theorem below_at(r:pY xs)(h:xs[i]?=some j):SetTable.below xs j=i:=by
 obtain⟨hi,e⟩:=VZ.mp h;obtain⟨a,b,c⟩:=jy r j;by_cases h1:i<SetTable.below xs j
 ·grind
 ·by_cases h2:SetTable.below xs j=i
  ·exact h2
  ·have hb:SetTable.below xs j<xs.size:=by omega
   have:=b _ hb (U4 _);have:=uR r (i:=SetTable.below xs j) #[1] hi;omega
theorem jz(r:pY xs):j∈xs.toList<->xs[SetTable.below xs j]?=some j:=by
 constructor
 ·intro h;obtain⟨i,hi,e⟩:=Xr h;have:xs[i]?=some j:=by rw[<- Vw,Va hi,e]
  rw[below_at r this];grind
 ·intro h;rw[<- Vw]at h;exact Vs h
theorem mj(r:pY xs):SetTable.has xs j=true<->j∈xs.toList:=by unfold SetTable.has;rw[jz r,YW]
theorem oJ{t:Zl}(r:pY t.place):t.slot j=.live i<->t.place[i]?=some j:=by
 unfold SetTable.slot;constructor
 ·grind
 ·intro h;have e:=below_at r h
  grind
theorem hE{t:Zl}(r:pY t.place)(rd:pY t.dummies):t.slot j=.empty<->j∉t.place.toList/\j∉t.dummies.toList:=by
 rw[jz r,<- mj rd]
 grind[SetTable.slot]
theorem D1{t:Zl}(r:pY t.place)(rd:pY t.dummies):t.slot j=.dummy->j∈t.dummies.toList:=by
 rw[<- mj rd]
 grind[SetTable.slot]
theorem pZ(r:pY xs)(h:j∉xs.toList):pY (SetTable.insertAt xs (SetTable.below xs j) j):=by
 obtain⟨a,b,c⟩:=jy r j;unfold pY;rw[X3];have r':xs.toList.Pairwise (· < ·):=r;rw[<- W4 (SetTable.below xs j) xs.toList,WM]at r';obtain⟨r1,r2,r3⟩:=r';rw[WM];refine(r1,VG.mpr (λx hx=>?_,r2),λx hx y hy=>?_)
 ·obtain⟨i,hi,e⟩:=Xr hx;simp at hi e;have:=b (SetTable.below xs j+i) #[1] #[1];have I_:xs[SetTable.below xs j+i]'#[1]≠j:=λz=>h (by rw[<- z];simp);omega
 ·have hxj:x<j:=by
   obtain⟨i,hi,e⟩:=Xr hx;simp at hi e;have:=a i #[1] #[1];omega
  rcases Vb.mp hy with rfl|hy
  ·exact hxj
  ·exact r3 x hx y hy
theorem sM(r:pY xs)(p:Nat):pY (SetTable.eraseAt xs p):=by
 unfold pY SetTable.eraseAt;simp;have r':xs.toList.Pairwise _:=r;rw[<- W4 p xs.toList,WM]at r';rw[WM];refine(r'.1,?_,λx hx y hy=>?_)
 ·grind
 ·refine r'.2.2 x hx y ?_;have:=XO hy;rw[<- List.drop_drop]at this;exact List.mem_of_mem_drop this
structure Pc where
 j:Nat
 more:Nat
 i:Nat
 pt:Nat
def pc(p:SetTable.Probe):Pc:=(p.j,p.more,p.i,p.perturb)
def eQ(mask i pt:Nat):Pc:=(i,SetTable.runEnd mask i-i,i,pt)
def FH(mask:Nat)(c:Pc):Pc:=eQ mask (SetTable.leap mask c.i c.pt).1 (SetTable.leap mask c.i c.pt).2
def step(mask:Nat)(c:Pc):Pc:=if c.more>0 then(c.j+1,c.more-1,c.i,c.pt)else FH mask c
theorem D2(t:Zl)(p:SetTable.Probe):pc (t.advance p)=step t.mask (pc p):=by unfold SetTable.advance step pc;split<;>rfl
theorem kE(t:Zl)(p:SetTable.Probe):(t.advance p).dummy=p.dummy:=by
 grind[SetTable.advance]
def steps(mask:Nat):Nat->Pc->Pc
 |0,c=>c
 |n+1,c=>steps mask n (step mask c)
theorem oK(mask:Nat):∀(m n:Nat) (c:Pc),steps mask (m+n) c=steps mask n (steps mask m c)
 |0,n,c=>by simp[steps]
 |m+1,n,c=>by rw[show m+1+n=(m+n)+1 by omega];exact oK mask m n _
theorem Ak(mask:Nat):∀(k:Nat) (c:Pc),c.more=k->steps mask (k+1) c=FH mask c
 |0,c,h=>by simp[steps,step,h]
 |k+1,c,h=>by
  have e:step mask c=(c.j+1,c.more-1,c.i,c.pt):=by grind[step]
  simp[steps];have:=Ak mask k (step mask c) (by simp_all);simp[steps]at this;rw[this,e];rfl
theorem yU(mask i:Nat):SetTable.runEnd mask i-i<=9:=by grind[SetTable.runEnd]
def gS(mask:Nat):Nat->Pc->Pc
 |0,c=>c
 |n+1,c=>gS mask n (FH mask c)
theorem tR(mask:Nat):∀(n:Nat) (c:Pc),c.more<=9->∃m,m<=10*n/\steps mask m c=gS mask n c
 |0,c,_=>(0,by omega,rfl)
 |n+1,c,h=>by obtain⟨m,hm,e⟩:=tR mask n (FH mask c) (yU _ _);refine(c.more+1+m,by omega,?_);rw[oK,Ak mask c.more c rfl,e];rfl
theorem sN(mask:Nat):∀(m n:Nat) (c:Pc),gS mask (m+n) c=gS mask n (gS mask m c)
 |0,n,c=>by simp[gS]
 |m+1,n,c=>by rw[show m+1+n=(m+n)+1 by omega];exact sN mask m n _
theorem B0(mask:Nat):∀(n:Nat) (c:Pc),(gS mask n c).pt=c.pt / 32^n
 |0,c=>by simp[gS]
 |n+1,c=>by simp[gS];rw[B0 mask n];show c.pt / 32 / 32^n=_;rw[Nat.div_div_eq_div_mul,Nat.pow_succ,Nat.mul_comm]
def G0(m:Nat):Nat->Nat->Nat
 |0,i=>i
 |n+1,i=>G0 m n ((i*5+1) % m)
theorem uS(m:Nat):∀(a b i:Nat),G0 m (a+b) i=G0 m b (G0 m a i)
 |0,b,i=>by simp[G0]
 |a+1,b,i=>by rw[show a+1+b=(a+b)+1 by omega];exact uS m a b _
def cover(m:Nat):Nat->Nat->Nat->Nat
 |0,_,acc=>acc
 |n+1,i,acc=>cover m n ((i*5+1) % m) (acc ||| 1 <<< i)
theorem yV(m:Nat):∀(n i acc e:Nat),(cover m n i acc).testBit e=true->acc.testBit e=true\/∃a,a<n/\G0 m a i=e
 |0,i,acc,e,h=>.inl h
 |n+1,i,acc,e,h=>by
  rcases yV m n _ _ e h with h|⟨a,ha,h⟩
  ·rw[Nat.testBit_or,Wc]at h;rcases h with h|h
   ·exact .inl h
   ·refine .inr (0,by omega,?_);rw[Nat.shiftLeft_eq,Nat.one_mul,Nat.testBit_two_pow]at h;simpa [G0]using h
  ·exact .inr (a+1,by omega,h)
def sizeOk(m:Nat):Bool:=cover m m 0 0==2^m-1&&G0 m m 0==0&&decide (8<=m/\m<=1024)&&decide (m % 2=0)
theorem JA(h:sizeOk m=true)(hi:i<m)(he:e<m):∃n,n<m/\G0 m n i=e:=by
 unfold sizeOk at h;simp only[U1,YW,Vy]at h;obtain⟨⟨⟨h1,h2⟩,h3⟩,_⟩:=h
 have key:∀x,x<m->∃a,a<m/\G0 m a 0=x:=λx hx=>by
  rcases yV m m 0 0 x (by grind)with z|z
  ·grind
  grind
 obtain⟨a,ha,ea⟩:=key i hi;obtain⟨b,hb,eb⟩:=key e he;by_cases hab:a<=b
 ·exact(b-a,by omega,by rw[<- ea,<- uS,show a+(b-a)=b by omega,eb])
 ·exact((m-a)+b,by omega,by rw[<- ea,<- uS,show a+((m-a)+b)=m+b by omega,uS,h2,eb])
theorem NG:sizeOk 8=true/\sizeOk 16=true/\sizeOk 32=true/\sizeOk 64=true/\sizeOk 128=true/\sizeOk 256=true/\sizeOk 512=true/\sizeOk 1024=true:=by decide +kernel
theorem yW:∀(n:Nat) (c:Pc),c.pt=0->(gS mask n c).i=G0 (mask+1) n c.i
 |0,c,_=>rfl
 |n+1,c,h=>by simp[gS,G0];rw[yW n _ (by show c.pt / 32=0;rw[h])];show G0 _ n (_ % _)=_;rw[h]
theorem Mp(mask n:Nat)(c:Pc):(gS mask (n+1) c).j=(gS mask (n+1) c).i:=by rw[sN];rfl
theorem yX(h:sizeOk (mask+1)=true)(hp:c.pt<2^64)(he:e<=mask):∃n,n<=mask+12/\(gS mask (n+1) c).j=e:=by
 have h0:(gS mask 13 c).pt=0:=by
  grind[B0]
 have hi  := by show(gS mask (12+1) c).i<mask+1;exact Yn _ #[1]
 obtain⟨n,hn,en⟩:=JA h hi (Nat.lt_succ_of_le he);refine(12+n,by omega,?_);rw[show 12+n+1=_+1 from rfl,Mp,show 12+n+1=13+n by omega,sN,yW n _ h0,en]
theorem FI(h:Int):SetTable.bits h<2^64:=by
 grind[SetTable.bits]
def c0(mask:Nat)(h:Int):Pc:=eQ mask (SetTable.bits h % (mask+1)) (SetTable.bits h)
def sq(mask:Nat)(h:Int)(n:Nat):Nat:=(steps mask n (c0 mask h)).j
theorem G1(hs:sizeOk (mask+1)=true)(h:Int)(he:e<=mask):∃n,n<=10*(mask+13)/\sq mask h n=e:=by obtain⟨n,hn,en⟩:=yX hs (c:=c0 mask h) (FI h) he;obtain⟨m,hm,em⟩:=tR mask (n+1) (c0 mask h) (yU _ _);exact(m,by omega,by simp[sq,em,en])
theorem least{P:Nat->Prop}:∀(N:Nat),P N->∃n,n<=N/\P n/\∀m,m<n->¬ P m:=by
 intro N
 induction N using Nat.strongRecOn with
 |_ N ih=>
  by_cases z:∃m,m<N/\P m
  ·obtain⟨m,hm,pm⟩:=z;obtain⟨n,h1,h2,h3⟩:=ih m hm pm
   grind
  ·grind
theorem D3:∀(n:Nat) (l:List Nat),(∀e,e<n->e∈l)->n<=l.length
 |0,_,_=>Wr _
 |n+1,l,h=>by
  have:=D3 n (l.erase n) λe he=>(List.mem_erase_of_ne #[1]).mpr (h e #[1])
  grind
theorem D4(mask n:Nat)(c:Pc):steps mask (n+1) c=step mask (steps mask n c):=by rw[oK];rfl
structure Tab(es:Y7)(t:Zl):Prop where
 rp:pY t.place
 rd:pY t.dummies
 sz:t.place.size=es.size
 tf:t.fill*5<t.mask*3
 bp:∀j∈t.place.toList,j<=t.mask
 bd:∀j∈t.dummies.toList,j<=t.mask
 dj:∀j∈t.dummies.toList,j∉t.place.toList
 sm:sizeOk (t.mask+1)=true
 rc:∀(i:Nat) (e:Int×Value) (j:Nat),es[i]?=some e->t.place[i]?=some j->∃n,sq t.mask e.1 n=j/\∀m,m<n->t.slot (sq t.mask e.1 m)≠.empty
theorem Tab.fits(T:Tab es t):t.fits es.size=true:=by have:=T.tf;simp[SetTable.fits];exact(T.sz,by omega)
theorem Tab.odd(T:Tab es t):t.gaveWay=false:=by
 have h:=T.sm;unfold SetTable.gaveWay;unfold sizeOk at h
 grind
theorem Tab.le(T:Tab es t):t.mask<=1023:=by
 have h:=T.sm
 simp_all[sizeOk]
theorem Tab.free(T:Tab es t)(h:Int):∃N,N<=10*(t.mask+13)/\t.slot (sq t.mask h N)=.empty/\∀m,m<N->t.slot (sq t.mask h m)≠.empty:=by
 have:∃e,e<=t.mask/\t.slot e=.empty:=by
  apply VJ;intro z;have:=D3 (t.mask+1) _ λe he=>by apply VJ;intro hn;rw[Vd,not_or]at hn;exact z (e,by omega,(hE T.rp T.rd).mpr hn)
  have tf:=T.tf
  grind[SetTable.fill,tf,List.length_append,Array.length_toList]
 obtain⟨e,he,hs⟩:=this;obtain⟨n,hn,en⟩:=G1 T.sm h he;obtain⟨N,h1,h2,h3⟩:=least (P:=λn=>t.slot (sq t.mask h n)=.empty) n (by grind)
 grind
def Dm(t:Zl)(h:Int)(n:Nat)(d:Option Nat):Prop:=d=none\/∃m,m<n/\d=some (sq t.mask h m)/\t.slot (sq t.mask h m)=.dummy
theorem Dm.mono(x:Dm t h n d)(hn:n<=n'):Dm t h n' d:=by
 rcases x with x|⟨m,a,b,c⟩
 ·exact .inl x
 ·exact .inr (m,by omega,b,c)
theorem uT(hN:t.slot (sq t.mask h N)=.empty)(I_:∀m,m<N->t.slot (sq t.mask h m)≠.empty) :
  ∀(fuel n:Nat) (p:SetTable.Probe),n<=N->N-n<fuel->pc p=steps t.mask n (c0 t.mask h)->Dm t h n p.dummy ->
   (∃d,SetTable.probe.go t hashAt h fuel p=some (.empty (sq t.mask h N) d)/\Dm t h N d/\∀m,n<=m->m<N->∀i,t.slot (sq t.mask h m)=.live i->hashAt i≠h) \/
   (∃k i q,SetTable.probe.go t hashAt h fuel p=some (.candidate (sq t.mask h k) i q)/\n<=k/\k<N/\t.slot (sq t.mask h k)=.live i/\hashAt i=h/\pc q=steps t.mask (k+1) (c0 t.mask h)/\Dm t h (k+1) q.dummy /\
    ∀m,n<=m->m<k->∀i,t.slot (sq t.mask h m)=.live i->hashAt i≠h)
 |0,n,p,h1,h2,h3,h4=>by omega
 |fuel+1,n,p,h1,h2,h3,h4=>by
  have ej:p.j=sq t.mask h n:=by have:=Xz Pc.j h3;exact this
  have nx:∀(p':SetTable.Probe),pc p'=pc p->n<N->pc (t.advance p')=steps t.mask (n+1) (c0 t.mask h):=λp' e _=>by rw[D2,e,h3,D4]
  simp only[SetTable.probe.go];rw[ej];by_cases e:n=N
  ·subst e;rw[hN];exact .inl (p.dummy,rfl,h4,λm a b=>by omega)
  ·have m_:n<N:=by omega
   cases hs:t.slot (sq t.mask h n)with
   |empty=>exact absurd hs (I_ n m_)
   |dummy=>
    dsimp only;rcases uT hN I_ fuel (n+1) (t.advance {p with j:=sq t.mask h n,dummy:=some (sq t.mask h n)}) m_ #[1] (nx _ (by unfold pc;rw[ej]) m_) (by rw[kE];exact .inr (n,by omega,rfl,hs))with⟨d,a,b,c⟩|⟨k,i,q,a,b,c,d,e',f,g,r⟩
    ·refine .inl (d,a,b,λm h5 h6 i h7=>?_);by_cases z:m=n
     ·subst z;rw[hs]at h7;cases h7
     ·exact c m #[1] h6 i h7
    ·refine .inr (k,i,q,a,by omega,c,d,e',f,g,λm h5 h6 i h7=>?_);by_cases z:m=n
     ·subst z;rw[hs]at h7;cases h7
     ·exact r m #[1] h6 i h7
   |live i=>
    dsimp only;by_cases hh:hashAt i=h
    ·rw[if_pos (by simpa using hh)];refine .inr (n,i,t.advance p,rfl,by omega,m_,hs,hh,nx p rfl m_,?_,λm a b=>by omega);rw[kE];exact h4.mono #[1]
    ·rw[if_neg (by simpa using hh)];rcases uT hN I_ fuel (n+1) (t.advance p) m_ #[1] (nx _ rfl m_) (by rw[kE];exact h4.mono #[1])with⟨d,a,b,c⟩|⟨k,i',q,a,b,c,d,e',f,g,r⟩
     ·refine .inl (d,a,b,λm h5 h6 i' h7=>?_);by_cases z:m=n
      ·subst z;rw[hs]at h7;cases h7;exact hh
      ·exact c m #[1] h6 i' h7
     ·refine .inr (k,i',q,a,by omega,c,d,e',f,g,λm h5 h6 i' h7=>?_);by_cases z:m=n
      ·subst z;rw[hs]at h7;cases h7;exact hh
      ·exact r m #[1] h6 i' h7
theorem sO(r:pY xs)(hj:j∈xs.toList):x∈(SetTable.eraseAt xs (SetTable.below xs j)).toList<->x∈xs.toList/\x≠j:=by
 have hb:=(jz r).mp hj;obtain⟨hl,e⟩:=VZ.mp hb;have sp:xs.toList=xs.toList.take (SetTable.below xs j)++j::xs.toList.drop (SetTable.below xs j+1):=by have e1:=(W4 (SetTable.below xs j) xs.toList).symm;rw[Wd (by simpa using hl)]at e1;rw[Array.getElem_toList,e]at e1;exact e1
 have se:(SetTable.eraseAt xs (SetTable.below xs j)).toList=xs.toList.take (SetTable.below xs j)++xs.toList.drop (SetTable.below xs j+1):=by unfold SetTable.eraseAt;simp only[Array.toList_append,Array.toList_extract,List.extract_eq_take_drop,List.drop_zero,Nat.sub_zero];congr 1;rw[Xx];simp
 have nd:xs.toList.Nodup:=List.Pairwise.imp (λh=>Vi h) r;rw[sp]at nd;rw[se];have ZU:=(WA.mp nd);have nd3:=VP.mp ZU.2.1;constructor
 ·intro h;refine⟨by rw[sp];rcases Vd.mp h with h|h;exact Vr _ h;exact U3 _ (U2 _ h),λz=>?_⟩;subst z;rcases Vd.mp h with h|h
  ·exact ZU.2.2 x h x (Vj ..) rfl
  ·exact nd3.1 h
 grind
theorem hG{p:Nat}(hp:p<xs.size):(SetTable.eraseAt xs p).size=xs.size-1:=by
 grind[SetTable.eraseAt]
theorem iI:(SetTable.insertAt xs p x).size=xs.size+1:=by
 have:=(SetTable.insertAt_perm xs p x).length_eq
 grind
theorem qa:y∈(SetTable.insertAt xs p x).toList<->y=x\/y∈xs.toList:=by rw[(SetTable.insertAt_perm xs p x).mem_iff];simp[or_comm]
theorem wo{x:α}(hp:p<=xs.size)(i:Nat):(SetTable.insertAt xs p x)[i]?=if i<p then xs[i]? else if i=p then some x else xs[i-1]?:=by
 rw[<- Vw,X3]
 grind
theorem yY(T:Tab es t)(hs:∀i,t.slot s≠.live i)(x:Nat)(h:(t.put s).1.slot x=.empty):t.slot x=.empty:=by
 have hp:s∉t.place.toList:=λz=>by have:=(jz T.rp).mp z;exact hs _ ((oJ T.rp).mpr this)
 have rp':pY (t.put s).1.place:=pZ T.rp hp
 have rd':pY (t.put s).1.dummies:=by
  show pY (if SetTable.has t.dummies s=true then _ else _);split
  ·exact sM T.rd _
  ·exact T.rd
 rw[hE rp' rd']at h;rw[hE T.rp T.rd];obtain⟨h1,h2⟩:=h
 have h1':x≠s/\x∉t.place.toList:=by
  have:x∉(SetTable.insertAt t.place (SetTable.below t.place s) s).toList:=h1;rw[qa,not_or]at this
  grind
 refine(h1'.2,λz=>h2 ?_);show x∈(if SetTable.has t.dummies s=true then _ else _:Zi).toList;split
 ·rename_i hd;exact(sO T.rd ((mj T.rd).mp hd)).mpr (z,h1'.1)
 grind
structure yd(es:Y7)(t:Zl):Prop where
 rp:pY t.place
 rd:pY t.dummies
 sz:t.place.size=es.size
 fl:t.fill<=t.mask
 bp:∀j∈t.place.toList,j<=t.mask
 bd:∀j∈t.dummies.toList,j<=t.mask
 dj:∀j∈t.dummies.toList,j∉t.place.toList
 sm:sizeOk (t.mask+1)=true
 rc:∀(i:Nat) (e:Int×Value) (j:Nat),es[i]?=some e->t.place[i]?=some j->∃n,sq t.mask e.1 n=j/\∀m,m<n->t.slot (sq t.mask e.1 m)≠.empty
theorem yd.fits(T:yd es t):t.fits es.size=true:=by simp[SetTable.fits];exact(T.sz,T.fl)
theorem yd.tab(T:yd es t)(h:t.fill*5<t.mask*3):Tab es t:=(T.rp,T.rd,T.sz,h,T.bp,T.bd,T.dj,T.sm,T.rc)
theorem yd.flags(T:yd es t)(h1:t'.mask=t.mask)(h2:t'.place=t.place)(h3:t'.dummies=t.dummies):yd es t':=by obtain⟨a',b',c',d',e',f',l'⟩:=t';subst h1 h2 h3;exact(T.rp,T.rd,T.sz,T.fl,T.bp,T.bd,T.dj,T.sm,T.rc)
theorem Tab.P1(T:Tab es t):yd es t:=(T.rp,T.rd,T.sz,by have:=T.tf;omega,T.bp,T.bd,T.dj,T.sm,T.rc)
theorem Mq(T:Tab es t)(hs:∀i,t.slot s≠.live i)(hm:s<=t.mask)(hn:sq t.mask h n=s)(hp:∀m,m<n->t.slot (sq t.mask h m)≠.empty) :
  yd (SetTable.insertAt es (t.put s).2 (h,x)) (t.put s).1/\(t.slot s=.dummy->(t.put s).1.fill=t.fill):=by
 have nip:s∉t.place.toList:=λz=>by have:=(jz T.rp).mp z;exact hs _ ((oJ T.rp).mpr this)
 have rp':pY (t.put s).1.place:=pZ T.rp nip
 have rd':pY (t.put s).1.dummies:=by
  show pY (if SetTable.has t.dummies s=true then _ else _);split
  ·exact sM T.rd _
  ·exact T.rd
 have mp:∀y,y∈(t.put s).1.place.toList<->y=s\/y∈t.place.toList:=λy=>qa
 have md:∀y,y∈(t.put s).1.dummies.toList->y∈t.dummies.toList/\y≠s:=λy hy=>by
  have hy:y∈(if SetTable.has t.dummies s=true then SetTable.eraseAt t.dummies (SetTable.below t.dummies s)else t.dummies).toList:=hy;split at hy
  ·rename_i hd;exact(sO T.rd ((mj T.rd).mp hd)).mp hy
  ·rename_i hd;exact(hy,λz=>hd ((mj T.rd).mpr (z▸hy)))
 have ple:SetTable.below t.place s<=t.place.size:=(jy T.rp s).2.2;have psz:(t.put s).1.place.size=t.place.size+1:=iI;have tf:=T.tf;unfold SetTable.fill at tf;have hmask:7<=t.mask:=by have h:=T.sm;unfold sizeOk at h;simp only[U1,YW,Vy]at h;omega
 have dsz:(t.put s).1.dummies.size<=t.dummies.size:=by
  show(if SetTable.has t.dummies s=true then SetTable.eraseAt t.dummies (SetTable.below t.dummies s)else t.dummies).size<=_;split
  ·rename_i hd;have hb:=(jz T.rd).mp ((mj T.rd).mp hd);rw[hG (VZ.mp hb).1];omega
  ·exact U4 _
 refine((rp',rd',?_,?_,λj hj=>?_,λj hj=>T.bd j (md j hj).1,λj hj ZV=>?_,T.sm,λi e j hi hj=>?_),λhd=>?_)
 ·rw[psz,iI,T.sz]
 ·unfold SetTable.fill;rw[psz];show t.place.size+1+(t.put s).1.dummies.size<=t.mask;omega
 ·rcases(mp j).mp hj with rfl|hj
  ·exact hm
  ·exact T.bp j hj
 ·obtain⟨d1,d2⟩:=md j hj;rcases(mp j).mp ZV with z|z
  ·exact d2 z
  ·exact T.dj j d1 z
 ·have ZV:(SetTable.insertAt t.place (SetTable.below t.place s) s)[i]?=some j:=hj;have Do:(SetTable.insertAt es (SetTable.below t.place s) (h,x))[i]?=some e:=hi;rw[wo ple]at ZV;rw[wo (by rw[<- T.sz];exact ple)]at Do;have old:∀i',es[i']?=some e->t.place[i']?=some j->∃n,sq t.mask e.1 n=j/\∀m,m<n->(t.put s).1.slot (sq t.mask e.1 m)≠.empty:=λi' a b=>by obtain⟨n',n1,n2⟩:=T.rc i' e j a b;exact(n',n1,λm Zu z=>n2 m Zu (yY T hs _ z))
  show ∃n,sq t.mask e.1 n=j/\∀m,m<n->(t.put s).1.slot (sq t.mask e.1 m)≠.empty;by_cases h1:i<SetTable.below t.place s
  ·rw[if_pos h1]at Do ZV;exact old i Do ZV
  ·rw[if_neg h1]at Do ZV;by_cases h2:i=SetTable.below t.place s
   ·rw[if_pos h2]at Do ZV;cases Do;cases ZV;exact(n,hn,λm Zu z=>hp m Zu (yY T hs _ z))
   ·rw[if_neg h2]at Do ZV;exact old _ Do ZV
 ·have hd':=D1 T.rp T.rd hd;have hh:=(mj T.rd).mpr hd';unfold SetTable.fill;rw[psz];have:(t.put s).1.dummies.size=t.dummies.size-1:=by show(if SetTable.has t.dummies s=true then SetTable.eraseAt t.dummies (SetTable.below t.dummies s)else t.dummies).size=_;rw[if_pos hh];exact hG (VZ.mp ((jz T.rd).mp hd')).1
  rw[this];have:0<t.dummies.size:=by have:=List.length_pos_of_mem hd';simpa using this
  omega
theorem yZ{p:Nat}(hp:p<xs.size)(i:Nat):(SetTable.eraseAt xs p)[i]?=if i<p then xs[i]? else xs[i+1]?:=by
 have se:(SetTable.eraseAt xs p).toList=xs.toList.take p++xs.toList.drop (p+1):=by
  simp_all[SetTable.eraseAt,Xx]
 rw[<- Vw,se];have hl:(xs.toList.take p).length=p:=by grind
 by_cases h1:i<p
 ·rw[if_pos h1,Vz #[1],XZ h1,Vw]
 ·rw[if_neg h1,VF #[1],hl,List.getElem?_drop,Vw]
  grind
theorem JB(T:Tab es t)(hi:i<es.size):Tab (SetTable.eraseAt es i) (t.drop i)/\(t.drop i).mask=t.mask/\(t.drop i).led=t.led:=by
 have hip:i<t.place.size:=by grind[T.sz]
 have hj:=Vk hip;generalize hjj:t.place[i]=j at hj
 have ed:t.drop i={t with place:=SetTable.eraseAt t.place i,dummies:=SetTable.insertAt t.dummies (SetTable.below t.dummies j) j}:=by
  simp_all[SetTable.drop,hj]
 have jp:j∈t.place.toList:=by rw[<- hjj];simp
 have jd:j∉t.dummies.toList:=λz=>T.dj j z jp;have ib:i=SetTable.below t.place j:=(below_at T.rp hj).symm;have mp:∀y,y∈(SetTable.eraseAt t.place i).toList<->y∈t.place.toList/\y≠j:=λy=>by rw[ib];exact sO T.rp jp
 have md:∀y,y∈(SetTable.insertAt t.dummies (SetTable.below t.dummies j) j).toList<->y=j\/y∈t.dummies.toList:=λy=>qa;have rp':pY (SetTable.eraseAt t.place i):=sM T.rp _;have rd':pY (SetTable.insertAt t.dummies (SetTable.below t.dummies j) j):=pZ T.rd jd;rw[ed];refine((rp',rd',?_,?_,λy hy=>T.bp y ((mp y).mp hy).1,λy hy=>?_,λy hy hy'=>?_,T.sm,λi' e j' h1 h2=>?_),rfl,rfl)
 ·show(SetTable.eraseAt t.place i).size=_;rw[hG hip,hG hi,T.sz]
 ·have tf:=T.tf;unfold SetTable.fill at tf ⊢;show((SetTable.eraseAt t.place i).size+(SetTable.insertAt t.dummies (SetTable.below t.dummies j) j).size)*5<t.mask*3;rw[hG hip,iI];omega
 ·rcases(md y).mp hy with rfl|hy
  ·exact T.bp y jp
  ·exact T.bd y hy
 ·obtain⟨a,b⟩:=(mp y).mp hy';rcases(md y).mp hy with z|z
  ·exact b z
  ·exact T.dj y z a
 ·have h2':(SetTable.eraseAt t.place i)[i']?=some j':=h2
  have key:∃i2:Nat,es[i2]?=some e/\t.place[i2]?=some j':=by
   rw[yZ hi]at h1;rw[yZ hip]at h2';split at h1
   ·rename_i z;rw[if_pos z]at h2';exact(_,h1,h2')
   ·rename_i z;rw[if_neg z]at h2';exact(_,h1,h2')
  obtain⟨i2,a,b⟩:=key;obtain⟨n,n1,n2⟩:=T.rc i2 e j' a b;refine(n,n1,λm hm z=>n2 m hm ?_);have z':SetTable.slot {t with place:=SetTable.eraseAt t.place i,dummies:=SetTable.insertAt t.dummies (SetTable.below t.dummies j) j} (sq t.mask e.1 m)=.empty:=z;rw[hE (t:={t with place:=SetTable.eraseAt t.place i,dummies:=SetTable.insertAt t.dummies (SetTable.below t.dummies j) j}) rp' rd']at z';rw[hE T.rp T.rd];obtain⟨z1,z2⟩:=z';have z2':sq t.mask e.1 m∉(SetTable.insertAt t.dummies (SetTable.below t.dummies j) j).toList:=z2;have z1':sq t.mask e.1 m∉(SetTable.eraseAt t.place i).toList:=z1;rw[md,not_or]at z2';rw[mp]at z1';exact(λq=>z1' (q,z2'.1),z2'.2)
def B1(owner:Array (Option Nat))(j:Nat):Prop:=(owner.getD j (some 0)).isNone=false
theorem sP(mask:Nat):∀(k:Nat) (c:Pc),k<=c.more->steps mask k c=(c.j+k,c.more-k,c.i,c.pt)
 |0,c,_=>by rfl
 |k+1,c,h=>by
  have e:step mask c=(c.j+1,c.more-1,c.i,c.pt):=by grind[step]
  simp[steps];rw[e,sP mask k _ (by grind)]
  grind
theorem y0:∀(fuel i pt:Nat),(∃n,n<fuel/\¬ B1 owner (gS mask n (eQ mask i pt)).j) ->
  ∃n,SetTable.layClean.free mask owner fuel i pt=some (steps mask n (eQ mask i pt)).j/\¬ B1 owner (steps mask n (eQ mask i pt)).j/\∀m,m<n->B1 owner (steps mask m (eQ mask i pt)).j
 |0,i,pt,(n,hn,_)=>by omega
 |fuel+1,i,pt,(n,hn,hf)=>by
  have hre:SetTable.runEnd mask i+1-i=(eQ mask i pt).more+1:=by
   show _=SetTable.runEnd mask i-i+1
   grind[SetTable.runEnd]
  simp only[SetTable.layClean.free];rw[hre]
  cases hfi:(List.range ((eQ mask i pt).more+1)).find? λk=>(owner.getD (i+k) (some 0)).isNone with
  |some k=>
   dsimp only;obtain⟨h1,h2,h3⟩:=List.find?_range_eq_some.mp hfi;have hk:k<=(eQ mask i pt).more:=by have:=VI.mp h2;omega
   have es:∀m,m<=k->(steps mask m (eQ mask i pt)).j=i+m:=λm hm=>by rw[sP mask m _ #[1]];rfl
   refine(k,by rw[es k (U4 _)],?_,λm hm=>?_)
   ·rw[es k (U4 _)];unfold B1;rw[h1];simp
   ·rw[es m #[1]];have:=h3 m hm;simpa [B1]using this
  |none=>
   dsimp only;have h1:=List.find?_range_eq_none.mp hfi;have occ:∀m,m<(eQ mask i pt).more+1->B1 owner (steps mask m (eQ mask i pt)).j:=λm hm=>by rw[sP mask m _ #[1]];have:=h1 m hm;show B1 owner (i+m);simpa [B1]using this
   have hn0:n≠0:=λz=>by subst z;have:=occ 0 #[1];exact hf this
   obtain⟨n',rfl⟩:∃n',n=n'+1:=(n-1,by omega);have tl:=Ak mask (eQ mask i pt).more (eQ mask i pt) rfl;obtain⟨q,q1,q2,q3⟩:=y0 (mask:=mask) (owner:=owner) fuel (SetTable.leap mask i pt).1 (SetTable.leap mask i pt).2 (n',by omega,hf);have es:∀m,steps mask ((eQ mask i pt).more+1+m) (eQ mask i pt)=steps mask m (eQ mask (SetTable.leap mask i pt).1 (SetTable.leap mask i pt).2):=λm=>by rw[oK,tl];rfl
   refine((eQ mask i pt).more+1+q,by rw[es];exact q1,by rw[es];exact q2,λm hm=>?_);by_cases hmm:m<(eQ mask i pt).more+1
   ·exact occ m hmm
   ·have:=q3 (m-((eQ mask i pt).more+1)) #[1];rw[<- es]at this;rw[show m=(eQ mask i pt).more+1+(m-((eQ mask i pt).more+1))by omega];exact this
def cY(mask:Nat)(owner:Array (Option Nat)):List (Nat×Nat):=(List.range (mask+1)).filterMap λj=>(owner.getD j none).map (Prod.mk j)
theorem B2{α β:Type}{f g:α->Option β}:∀{l:List α},(∀x∈l,g x=f x)->l.filterMap g=l.filterMap f
 | [],_=>rfl
 |a::l,h=>by have ih:=B2 λx hx=>h x (U2 _ hx);rw[List.filterMap_cons,List.filterMap_cons,h a (Vj ..),ih]
theorem JC{α β:Type}{f g:α->Option β}{j:α}{v:β}(hf:f j=none)(hg:g j=some v):∀{l:List α},l.Nodup->j∈l->(∀x∈l,x≠j->f x=g x)->List.Perm (l.filterMap g) (v::l.filterMap f)
 | [],_,h,_=>by grind
 |a::l,nd,h,e=>by
  obtain⟨n1,n2⟩:=VP.mp nd;by_cases z:a=j
  ·subst z;rw[Xi hg,List.filterMap_cons_none hf];have:l.filterMap g=l.filterMap f:=B2 λx hx=>(e x (U2 _ hx) (λq=>n1 (q▸hx))).symm;rw[this]
  ·have hj:j∈l:=by
    grind
   have ih:=JC hf hg n2 hj λx hx=>e x (U2 _ hx);have ea:=e a (Vj ..) z
   cases hfa:f a with
   |none=>simp_all
   |some b=>rw[Xi (by rw[<- ea];exact hfa),Xi hfa];exact(ih.cons b).trans (.swap _ _ _)
structure Own(mask:Nat)(hs:List Int)(js:List Nat)(owner:Array (Option Nat)):Prop where
 sz:owner.size=mask+1
 ln:js.length=hs.length
 lv:List.Perm (cY mask owner) (js.zip (List.range hs.length))
 rc:∀(k:Nat) (h:Int) (j:Nat),hs[k]?=some h->js[k]?=some j->∃n,sq mask h n=j/\∀m,m<n->B1 owner (sq mask h m)
noncomputable def Mr(mask:Nat)(acc:Option (Array (Option Nat)×Nat))(h:Int):Option (Array (Option Nat)×Nat):=do
    let (owner,k) <- acc
    let j <- SetTable.layClean.free mask owner (SetTable.turns mask) (SetTable.bits h % (mask+1)) (SetTable.bits h)
    pure (Prod.mk (owner.setIfInBounds j (some k)) (k+1))
theorem JD(hm:sizeOk (mask+1)=true)(O:Own mask hs js owner)(hl:hs.length<=mask)(h:Int) :
  ∃j A_,Mr mask (some (owner,hs.length)) h=some (A_,hs.length+1)/\Own mask (hs++[h]) (js++[j]) A_:=by
 have occ_iff:∀j,B1 owner j<->owner[j]?≠some none:=λj=>by
  unfold B1;rw[VW]
  cases owner[j]? with
  |none=>simp
  |some o=>cases o<;>simp
 have Y_:∃e,e<=mask/\¬ B1 owner e:=by
  apply VJ;intro z
  have hp:=D3 (mask+1) ((cY mask owner).map (·.1)) λe he=>by
   have ho:B1 owner e:=VJ λq=>z (e,by omega,q);rw[occ_iff]at ho;have m_:e<owner.size:=by rw[O.sz];exact he
   rw[Vk m_]at ho
   cases hv:owner[e]with
   |none=>rw[hv]at ho;exact absurd rfl ho
   |some k=>refine Vl.mpr ((e,k),Xy.mpr (e,VI.mpr he,?_),rfl);simp[Array.getD,m_,hv]
  rw[Ve,O.lv.length_eq,List.length_zip,O.ln]at hp;simp at hp;omega
 obtain⟨e,he,I_⟩:=Y_;obtain⟨n,hn,en⟩:=yX hm (c:=c0 mask h) (FI h) he
 obtain⟨q,q1,q2,q3⟩:=y0 (mask:=mask) (owner:=owner) (SetTable.turns mask) (SetTable.bits h % (mask+1)) (SetTable.bits h) (n+1,by unfold SetTable.turns;omega,by
  have:(gS mask (n+1) (eQ mask (SetTable.bits h % (mask+1)) (SetTable.bits h))).j=e:=en
  rw[this];exact I_)
 generalize hj:(steps mask q (eQ mask (SetTable.bits h % (mask+1)) (SetTable.bits h))).j=j at q1 q2;have hjn:owner[j]?=some none:=VJ λz=>q2 ((occ_iff j).mpr z);have hjl:j<owner.size:=(VZ.mp hjn).1
 have get':∀x,(owner.setIfInBounds j (some hs.length))[x]?=if x=j then some (some hs.length)else owner[x]?:=λx=>by
  rw[Array.getElem?_setIfInBounds];by_cases z:j=x
  ·subst z;simp[hjl]
  ·rw[if_neg z,if_neg (λq=>z q.symm)]
 have occ':∀x,B1 owner x->B1 (owner.setIfInBounds j (some hs.length)) x:=λx hx=>by
  unfold B1 at hx ⊢;rw[VW]at hx ⊢;rw[get'];by_cases z:x=j
  ·rw[if_pos z];rfl
  ·rw[if_neg z];exact hx
 refine(j,owner.setIfInBounds j (some hs.length),?_,(by simp[O.sz],by simp[O.ln],?_,λk h' j' a b=>?_))
 ·unfold Mr;simp only[Option.bind_eq_bind,Y1];rw[q1];rfl
 ·have hp:List.Perm (cY mask (owner.setIfInBounds j (some hs.length))) ((j,hs.length)::cY mask owner):=by
   refine JC (j:=j) ?_ ?_ List.nodup_range (VI.mpr (by rw[<- O.sz];exact hjl)) λx _ hx=>?_
   ·rw[VW,hjn];rfl
   ·rw[VW,get',if_pos rfl];rfl
   ·rw[VW,VW,get',if_neg hx]
  refine hp.trans ((O.lv.cons _).trans ?_);rw[Vh,List.length_singleton,Xj,List.zip_append (by simp[O.ln])];exact(List.perm_append_singleton _ _).symm
 ·by_cases z:k<hs.length
  ·rw[Vz z]at a;rw[Vz (by rw[O.ln];exact z)]at b;obtain⟨n',n1,n2⟩:=O.rc k h' j' a b;exact(n',n1,λm Zu=>occ' _ (n2 m Zu))
  ·have hk:k=hs.length:=by
    have:=(U9.mp a).1;simp at this;omega
   subst hk;rw[VF (U4 _)]at a;rw[<- O.ln,VF (U4 _)]at b;simp at a b;subst a;subst b;exact(q,hj,λm Zu=>occ' _ (q3 m Zu))
theorem FJ(hm:sizeOk (mask+1)=true):∀(B_ hs:List Int) (js:List Nat) (owner:Array (Option Nat)),Own mask hs js owner->(hs++B_).length<=mask+1 ->
  ∃js' A_,B_.foldl (Mr mask) (some (owner,hs.length))=some (A_,(hs++B_).length)/\Own mask (hs++B_) js' A_
 | [],hs,js,owner,O,_=>(js,owner,by simp,by grind)
 |h::B_,hs,js,owner,O,hl=>by
  obtain⟨j,A_,e,O'⟩:=JD hm O (by grind) h;obtain⟨js',owner2,e2,O2⟩:=FJ hm B_ _ _ _ O' (by grind);refine(js',owner2,?_,by simp_all)
  simp_all
theorem B3(mask:Nat)(hashes:Array Int):SetTable.layClean mask hashes=(hashes.toList.foldl (Mr mask) (some (Array.replicate (mask+1) none,0))).map (·.1):=by unfold SetTable.layClean;rw[<- Array.foldl_toList];rfl
theorem Ms(mask:Nat):Own mask [] [] (Array.replicate (mask+1) none):=by
 refine(by simp,rfl,?_,λk h j a=>by simp)
 simp_all[cY]
theorem D5{α:Type}{es:Array α}:∀{l:List (Nat×Nat)},(∀p∈l,p.2<es.size)->((l.map (·.2)).filterMap (λk=>es[k]?)).length=l.length/\∀(i:Nat) (p:Nat×Nat),l[i]?=some p->((l.map (·.2)).filterMap (λk=>es[k]?))[i]?=es[p.2]?
 | [],_=>(rfl,λi p h=>by grind)
 |a::l,h=>by
  obtain⟨h1,h2⟩:=D5 (l:=l) λp hp=>h p (U2 _ hp);have ha:=h a (Vj ..);rw[Vu,Xi (Vk ha)];refine(by grind,λi p hi=>?_)
  cases i with
  |zero=>simp_all
  |succ i=>simpa using h2 i p (by simpa using hi)
theorem FK{es:Y7}(hm:sizeOk (mask+1)=true)(hn:es.size*5<mask*3)(finger moves:Nat)(led plain:Bool) :
  ∃t' order,SetTable.laid mask finger moves led plain (es.map (·.1))=some (t',order)/\Tab (order.filterMap (es[·]?)) t'/\List.Perm (order.filterMap (es[·]?)).toList es.toList/\t'.mask=mask/\t'.led=led/\List.Perm order.toList (List.range es.size):=by
 obtain⟨js,owner,e,O⟩:=FJ hm (es.map (·.1)).toList [] [] _ (Ms mask) (by grind);simp only[WT,Wq]at e O;have hlen:(es.map (·.1)).toList.length=es.size:=by simp
 have hsnd:List.Perm ((cY mask owner).map (·.2)) (List.range es.size):=by have:=O.lv.map (·.2);rw[hlen]at this;refine this.trans ?_;rw[List.map_snd_zip (by rw[O.ln,hlen];simp)]
 have hbelow:∀p∈cY mask owner,p.2<es.size:=λp hp=>by have:=hsnd.mem_iff.mp (Vl.mpr (p,hp,rfl));exact VI.mp this
 obtain⟨g1,g2⟩:=D5 (es:=es) hbelow;have hfst:((cY mask owner).map (·.1)).Pairwise (· < ·):=by rw[Yl];unfold cY;rw[List.pairwise_filterMap];refine List.Pairwise.imp ?_ List.pairwise_lt_range;intro a b hab x hx y hy;rw[VC]at hx hy;obtain⟨_,_,rfl⟩:=hx;obtain⟨_,_,rfl⟩:=hy;exact hab
 have ZJ:∀p∈cY mask owner,p.1<=mask/\owner.getD p.1 none=some p.2:=λp hp=>by obtain⟨j,hj,ej⟩:=Xy.mp hp;rw[VC]at ej;obtain⟨k,hk,rfl⟩:=ej;exact(by have:=VI.mp hj;omega,hk)
 refine({mask,place:=((cY mask owner).map (·.1)).toArray,dummies:=#[],finger,led,moves,plain},((cY mask owner).map (·.2)).toArray,?_,?_,?_,rfl,rfl,by simpa using hsnd)
 ·unfold SetTable.laid;rw[B3,e];rfl
 ·have efm:((((cY mask owner).map (·.2)).toArray.filterMap (es[·]?)):Array _)=(((cY mask owner).map (·.2)).filterMap (λk=>es[k]?)).toArray:=by simp
  have llen:(cY mask owner).length=es.size:=by have:=hsnd.length_eq;simpa using this
  refine(hfst,List.Pairwise.nil,?_,?_,λj hj=>?_,λj hj=>by simp at hj,λj hj=>by simp at hj,hm,λi e' j h1 h2=>?_)
  ·rw[efm,Vq,Vq,g1,Ve]
  ·show(((cY mask owner).map (·.1)).toArray.size+0)*5<mask*3;simp only[Vq,Ve,llen,Nat.add_zero];exact hn
  ·obtain⟨p,hp,rfl⟩:=Vl.mp (by simpa using hj:j∈(cY mask owner).map (·.1));exact(ZJ p hp).1
  ·rw[efm]at h1;have h2':((cY mask owner).map (·.1))[i]?=some j:=by simpa using h2
   rw[VS,VC]at h2';obtain⟨p,hp,rfl⟩:=h2';have h1':(((cY mask owner).map (·.2)).filterMap (λk=>es[k]?))[i]?=some e':=by simpa using h1
   rw[g2 i p hp]at h1';have pm:=Vs hp;have pz:=O.lv.mem_iff.mp pm;rw[hlen]at pz;obtain⟨k,hk,ek⟩:=Xr pz;rw[List.getElem_zip]at ek;simp only[List.getElem_range]at ek;have ek1:js[k]?=some p.1:=by rw[<- Xz Prod.fst ek];exact Va _
   have ek2:p.2=k:=(Xz Prod.snd ek).symm;obtain⟨n,n1,n2⟩:=O.rc k e'.1 p.1 (by simp only[Array.toList_map,VS,Vw];rw[<- ek2,h1'];rfl) ek1;refine(n,n1,λm Zu z=>?_);have oc:=n2 m Zu;have z':SetTable.slot {mask,place:=((cY mask owner).map (·.1)).toArray,dummies:=#[],finger,led,moves,plain} (sq mask e'.1 m)=.empty:=z;rw[hE (t:={mask,place:=((cY mask owner).map (·.1)).toArray,dummies:=#[],finger,led,moves,plain}) hfst List.Pairwise.nil]at z';by_cases Re:sq mask e'.1 m<owner.size
   ·unfold B1 at oc;rw[VW,Vk Re]at oc;simp only[WZ]at oc
    cases hv:owner[sq mask e'.1 m]with
    |none=>rw[hv]at oc;simp at oc
    |some k'=>refine z'.1 ?_;have:sq mask e'.1 m∈(cY mask owner).map (·.1):=Vl.mpr ((sq mask e'.1 m,k'),Xy.mpr (_,VI.mpr (by rw[<- O.sz];exact Re),by simp[Array.getD,Re,hv]),rfl);simpa using this
   ·exfalso
    have bound:∀q (c:Pc),c.j+c.more<=mask->(steps mask q c).j+(steps mask q c).more<=mask:=by
     intro q
     induction q with
     |zero=>intro c hc;exact hc
     |succ q ih=>
      intro c hc;simp only[steps];refine ih _ ?_;unfold step;split
      ·show c.j+1+(c.more-1)<=mask;omega
      ·show(SetTable.leap mask c.i c.pt).1+(SetTable.runEnd mask (SetTable.leap mask c.i c.pt).1-(SetTable.leap mask c.i c.pt).1)<=mask;have:(SetTable.leap mask c.i c.pt).1<mask+1:=Yn _ #[1];unfold SetTable.runEnd;split<;>omega
    have hb:=bound m (c0 mask e'.1) (by
     show SetTable.bits e'.1 % (mask+1)+(SetTable.runEnd mask (SetTable.bits e'.1 % (mask+1))-SetTable.bits e'.1 % (mask+1))<=mask;have:SetTable.bits e'.1 % (mask+1)<mask+1:=Yn _ #[1];unfold SetTable.runEnd
     split<;>omega)
    have:sq mask e'.1 m<=mask:=by unfold sq;omega
    rw[O.sz]at Re;omega
 grind[Array.toList_filterMap,filterMap_getElem?_range]
theorem mn:∀n,n<1024->(n<SetTable.sizeAbove n/\SetTable.sizeAbove n∈[8,16,32,64,128,256,512,1024]):=by trivial
theorem G2(h:m∈[8,16,32,64,128,256,512,1024]):sizeOk m=true:=by
 obtain⟨a,b,c,d,e,f,g,i⟩:=NG;simp at h
 grind
theorem G3{es:Y7}{t:Zl}(hw:wanted<1024)(hn:es.size*5<wanted*3\/es.size<=4) :
  ∃t' order,t.relaid (es.map (·.1)) wanted=some (t',order)/\Tab (order.filterMap (es[·]?)) t'/\List.Perm (order.filterMap (es[·]?)).toList es.toList/\t'.led=t.led/\List.Perm order.toList (List.range es.size)/\t'.mask+1=SetTable.sizeAbove wanted/\SetTable.sizeAbove wanted<=1024:=by
 obtain⟨h1,h2⟩:=mn wanted hw;have h8:8<=SetTable.sizeAbove wanted:=by simp[Vb,VH,Xq]at h2;omega
 have e:SetTable.sizeAbove wanted-1+1=SetTable.sizeAbove wanted:=by omega
 obtain⟨t',order,a,b,c,d,f,g⟩:=FK (es:=es) (by rw[e];exact G2 h2) #[1] t.finger (t.movedTo (SetTable.sizeAbove wanted-1)) t.led t.plain;exact(t',order,a,b,c,f,g,by omega,by simp only[Vb,VH,Xq]at h2;omega)
end RP
namespace RP
open PySem PySem.Spec L2 Ml
structure El(vp:Value->Prop)(w:World)(h:Heap)(md:Bool)(e:Int×Value)(d:PyData):Prop where
 tr:aD d=true
 dp:d.depth<=8
 so:fw d=true
 hs:e.1=tw w d
 kd:gY d=md
 rd:∃as,Reads h e.2 d as
 vl:vp e.2
abbrev bJ(es:Y7)(ep:Nat)(t:Zl):Obj:={cls:=.type "set",dict:=none,data:=.set es ep t,slots:=#[]}
abbrev cZ(w:World):Bool:=w.params.followText "set-order"
structure cK(vp:Value->Prop)(w:World)(h:Heap)(a:Addr)(md:Bool)(ds:Y9)(es:Y7)(ep:Nat)(t:Zl):Prop where
 ob:h.get? a=some (bJ es ep t)
 tb:Tab es t
 ld:t.led=true\/cZ w=true
 nd:ds.Nodup
 ln:ds.length<=120
 el:Paired (El vp w h md) es.toList ds
def b9(vp:Value->Prop)(w:World)(h:Heap)(a:Addr)(md:Bool)(ds:Y9):Prop:=∃es ep t,cK vp w h a md ds es ep t
theorem El.keep(x:El vp w h md e d)(k:∀b o vs n,h.get? b=some o->o.cls=.type "tuple" -> o.data=.seq vs n->h'.get? b=some o):El vp w h' md e d:=
 (x.tr,x.dp,x.so,x.hs,x.kd,by obtain⟨as,r⟩:=x.rd;exact(as,kS k x.tr r),x.vl)
theorem cK.size(S:cK vp w h a md ds es ep t):es.size=ds.length:=by
 have:=Vo S.el
 grind
theorem fX{R:α->β->Prop}:∀{xs:List α} {ys:List β},Paired R xs ys->∀{i:Nat} {x:α},xs[i]?=some x->∃y,ys[i]?=some y/\R x y
 |_,_,.nil,i,x,h=>by simp at h
 |_,_,.cons r _,0,x,h=>by grind
 |_,_,.cons _ t,i+1,x,h=>by simpa using fX t (by simp_all)
theorem km{R:α->β->Prop}:∀{xs:List α} {ys:List β},Paired R xs ys->∀{i:Nat} {y:β},ys[i]?=some y->∃x,xs[i]?=some x/\R x y
 |_,_,.nil,i,x,h=>by simp at h
 |_,_,.cons r _,0,x,h=>by grind
 |_,_,.cons _ t,i+1,x,h=>by simpa using km t (by simp_all)
theorem cK.get(S:cK vp w h a md ds es ep t){i:Nat}{e:Int×Value}(he:es[i]?=some e):∃d,ds[i]?=some d/\El vp w h md e d:=by rw[<- Vw]at he;exact fX S.el he
section
theorem RQ(x:El vp w s.heap md e d)(y:El vp w s.heap md' e' d')(hu:A.units+20<cLine)(h:Q (decide (d=d')) s):wpAny (model P w) A (eqBool e.2 e'.2) Q E s:=by
 obtain⟨as,r1⟩:=x.rd;obtain⟨bs,r2⟩:=y.rd
 have hq:PyData.eqv d d'=decide (d=d'):=by
  by_cases z:d=d'
  ·subst z;rw[Wl rfl];exact bH (bw x.tr)
  ·rw[V4 z];exact bE (bw x.tr) (bw y.tr) z
 have:=Yz d d' A s _ _ _ _ r1 r2 (kC x.so (bW (bw x.tr))) (kC y.so (bW (bw y.tr))) (by have:=x.dp;omega) P w E Q
 grind
mutual
theorem nF:∀(d:PyData) (n:Nat) (A:Zm) (s:Zn) (v:Value) (as:Za) (Q:Bool->Zn->Prop) (E:Y4),aD d=true->d.depth<=n->Reads s.heap v d as->Q false s->wpAny (model P w) A (ofAClassStatement n v) Q E s
 |.str x,n,A,s,v,as,Q,E,_,_,r,h=>by cases r;unfold ofAClassStatement;exact UZ h
 |.tuple ds,n,A,s,v,as,Q,E,t,hn,r,h=>by
  cases r with
  |tuple ho hc hd hi=>
   rename_i a o items k;have hT:s.TypeIs (.ref a) "tuple" := (o,ho,hc);simp only[aD]at t;simp only[PyData.depth]at hn;obtain⟨m,rfl⟩:∃m,n=m+1:=(n-1,by omega);unfold ofAClassStatement;refine UY (X1 hT ?_);show wpAny _ _ (if("tuple" == "tuple")=true then _ else _) _ _ s;rw[if_pos (by decide)];refine UY (UZ ?_);simp only[WC,Vc,VQ];refine UY (V6 ho hd ?_);refine UY ?_;show wpAny _ _ (forIn items _ _) _ _ s;rw[<- WH];refine o9 ds m A s items.toList _ _ E _ t #[1] hi ?_ ?_
   ·intro x s' R k;refine UY (V7 k (λc s2 q=>?_) λ_ _ z=>z);obtain⟨rfl,q⟩:=q;simp only[Vc,VQ];exact UZ q
   ·exact UZ h
 |.none,_,_,_,_,_,_,_,t,_,_,_=>by simp[aD]at t
 |.bool _,_,_,_,_,_,_,_,t,_,_,_=>by simp[aD]at t
 |.int _,_,_,_,_,_,_,_,t,_,_,_=>by simp[aD]at t
 |.list _,_,_,_,_,_,_,_,t,_,_,_=>by simp[aD]at t
 |.dict _,_,_,_,_,_,_,_,t,_,_,_=>by simp[aD]at t
theorem o9:∀(ds:Y9) (n:Nat) (A:Zm) (s:Zn) (vs:Zb) (as:Za) (R:Option Bool×Unit->Zn->Prop) (E:Y4) (body:Value->Option Bool×Unit->Sem (ForInStep (Option Bool×Unit))),bL ds=true->PyData.depthAll ds<=n->ReadsAll s.heap vs ds as ->
  (∀(x:Value) (s':Zn) (R':ForInStep (Option Bool×Unit)->Zn->Prop),wpAny (model P w) A (ofAClassStatement n x) (λc s2=>c=false/\R' (.yield (none,())) s2) E s'->wpAny (model P w) A (body x (none,())) R' E s') ->
  R (none,()) s->wpAny (model P w) A (forIn vs (none,()) body) R E s
 | [],n,A,s,_,_,R,E,body,_,_,.nil,hb,h=>by rw[Xv];exact UZ h
 |d::ds,n,A,s,_,_,R,E,body,t,hn,.cons r1 r2,hb,h=>by simp only[bL,U1]at t;simp only[PyData.depthAll]at hn;rw[Wo];refine UY (hb _ _ _ (nF d n A s _ _ _ E t.1 #[1] r1 (rfl,?_)));exact o9 ds n A s _ _ R E body t.2 #[1] r2 hb h
end
theorem za{G:Value->Prop}{R:Option Bool×Unit->Zn->Prop}(hb:∀y,G y->∀R':ForInStep (Option Bool×Unit)->Zn->Prop,R' (.yield (none,())) s->wpAny (model P w) A (body y (none,())) R' E s) :
  ∀ys:Zb,(∀y∈ys,G y)->R (none,()) s->wpAny (model P w) A (forIn ys (none,()) body) R E s
 | [],_,h=>UZ h
 |y::ys,g,h=>by rw[Wo];refine UY (hb y (g y (Vj ..)) _ ?_);exact za hb ys (λz hz=>g z (U2 _ hz)) h
theorem JE(hx:El vp w s.heap md (h0,x) d)(hq:Q false s)(ys:Zb)(hys:∀y∈ys,∃h1 d1,El vp w s.heap md (h1,y) d1):wpAny (model P w) A (searchCouldBeSeen x ys) Q E s:=by
 unfold searchCouldBeSeen;refine UY (za (G:=λy=>∃h1 d1,El vp w s.heap md (h1,y) d1) (λy gy R' hR=>?_) ys hys (UZ hq));obtain⟨h1,d1,hy⟩:=gy;obtain⟨as,r1⟩:=hx.rd;obtain⟨bs,r2⟩:=hy.rd;dsimp only;refine VM (λ_=>UZ hR) λ_=>?_
 ·skip
  refine UY (j5 d 8 A s x as _ E hx.tr hx.dp r1 ?_);simp only[WC,Vc,VQ];refine UY (j5 d1 8 A s y bs _ E hy.tr hy.dp r2 ?_);simp only[WC,Vc,VQ];refine UY (nF d 8 A s x as _ E hx.tr hx.dp r1 ?_);simp only[Vc,VQ];refine UY (nF d1 8 A s y bs _ E hy.tr hy.dp r2 ?_);simp only[Vc,VQ];exact UZ hR
theorem B4(x:El vp w h true e d):isSame e.2 e.2=pure true:=by
 obtain⟨as,r⟩:=x.rd;have k:=x.kd;obtain⟨e1,v⟩:=e;dsimp only at r ⊢
 cases r with
 |tuple=>exact if_pos (beq_self_eq_true _)
 |_=>simp[gY]at k
def QD(es:Y7)(i:Nat):Int:=(es[i]?.map (·.1)).getD 0
theorem cb(ho:s.heap.get? a=some (bJ es ep t))(hf:t.fits es.size=true)(h:Q (es,ep,t) s):wpAny (model P w) A (setState a) Q E s:=wpAny_setState_of ho rfl hf h
def cE(t:Zl)(h:Int)(slot:Nat)(wd:Bool):Prop:=(t.slot slot=if wd=true then .dummy else .empty)/\∃n,sq t.mask h n=slot/\∀m,m<n->t.slot (sq t.mask h m)≠.empty
theorem wq(S:cK vp w s.heap a true ds es ep t)(hx:El vp w s.heap true (h0,x) d)(hu:A.units+20<cLine)
 (hN:t.slot (sq t.mask h0 N)=.empty)(I_:∀m,m<N->t.slot (sq t.mask h0 m)≠.empty)(hNl:N<10*SetTable.turns t.mask)
 (q1:d∉ds->∀slot wd,cE t h0 slot wd->Q (.free slot wd) s)(q2:d∈ds->∀i,ds[i]?=some d->Q (.there (if adding=true then none else some i)) s) :
  ∀(fuel n:Nat) (st:Option SetTable.Probe),n<=N->N-n<fuel->pc (st.getD (t.probeStart h0))=steps t.mask n (c0 t.mask h0)->Dm t h0 n (st.getD (t.probeStart h0)).dummy ->
   (∀m,m<n->∀i,t.slot (sq t.mask h0 m)=.live i->ds[i]?≠some d)->wpAny (model P w) A (setSearchFrom a x h0 adding fuel st) Q E s
 |0,n,st,h1,h2,h3,h4,h5=>by omega
 |fuel+1,n,st,h1,h2,h3,h4,h5=>by
  have T:=S.tb;have hsh:∀(i:Nat) (e:Int×Value),es[i]?=some e->QD es i=e.1:=λi e he=>by unfold QD;rw[he];rfl
  have hlive:∀(j i:Nat),t.slot j=.live i->∃e d',es[i]?=some e/\ds[i]?=some d'/\El vp w s.heap true e d':=λj i hl=>by
   have hp:=(oJ T.rp).mp hl;have hi:i<es.size:=by rw[<- T.sz];exact(VZ.mp hp).1
   obtain⟨d',h1,h2⟩:=S.get (Vk hi);exact(es[i],d',Vk hi,h1,h2)
  have hdiff:∀(m i:Nat),t.slot (sq t.mask h0 m)=.live i->QD es i≠h0->ds[i]?≠some d:=λm i hl hh z=>by obtain⟨e,d',e1,e2,e3⟩:=hlive _ i hl;rw[e2]at z;cases z;rw[hsh i e e1,e3.hs]at hh;exact hh hx.hs.symm
  unfold setSearchFrom;refine UY (cb S.ob T.fits ?_);dsimp only;rw[T.odd];simp only[Vc,VQ];have hg:=uT (hashAt:=QD es) hN I_ (10*SetTable.turns t.mask) n (st.getD (t.probeStart h0)) h1 #[1] h3 h4;have hpr:∀met,SetTable.probe.go t (QD es) h0 (10*SetTable.turns t.mask) (st.getD (t.probeStart h0))=some met->t.probe (QD es) h0 (st.getD (t.probeStart h0))=some met:=λ_ e=>e;rcases hg with⟨dm,e1,e2,e3⟩|⟨k,i,q,e1,e2,e3,e4,e5,e6,e7,e8⟩
  ·
   have hnd:d∉ds:=λhm=>by
    obtain⟨i,hi⟩:=V2 hm;obtain⟨e,he,hel⟩:=km S.el hi;rw[Vw]at he;have U_:i<t.place.size:=by rw[T.sz];exact(VZ.mp he).1
    obtain⟨n',n1,n2⟩:=T.rc i e t.place[i] he (Vk U_);have hh:e.1=h0:=hel.hs.trans hx.hs.symm;rw[hh]at n1 n2;have hsl:t.slot (sq t.mask h0 n')=.live i:=(oJ T.rp).mpr (by rw[n1];exact Vk U_)
    have hnN:n'<N:=by
     apply VJ;intro z;by_cases z2:n'=N
     ·rw[z2,hN]at hsl;cases hsl
     ·exact n2 N #[1] hN
    by_cases z:n'<n
    ·exact h5 n' z i hsl hi
    ·exact e3 n' #[1] hnN i hsl (by rw[hsh i e he];exact hh)
   split
   case h_2 hno=>exact absurd (hpr _ e1) (hno _)
   rename_i met hmet;have hme:=hmet.symm.trans (hpr _ e1);cases hme;dsimp only;rcases e2 with rfl|⟨m,m1,rfl,m3⟩
   ·exact UZ (q1 hnd _ false (by simpa using hN,N,rfl,I_))
   ·dsimp only;rw[m3];have:(adding&&(SetTable.Slot.dummy != SetTable.Slot.dummy))=false:=by cases adding<;>rfl
    rw[this];simp only[Vc,VQ];exact UZ (q1 hnd _ true (by simpa using m3,m,rfl,λm' Zu=>I_ m' #[1]))
  ·
   split
   case h_2 hno=>exact absurd (hpr _ e1) (hno _)
   rename_i met hmet;have hme:=hmet.symm.trans (hpr _ e1);cases hme;dsimp only;obtain⟨e,d',f1,f2,f3⟩:=hlive _ i e4
   have go:wpAny (model P w) A (do
     let some (_,y):=es[i]? | unsupported "internal:set-entry"
     let equal <- holding [y] (eqBool y x)
     let (r_,_,t') <- setState a
     if adding&&equal then return SetFound.there none
     let some same:=t'.sameMemory t.moves t.mask|unsupported "set.changed-during-lookup:is-the-new-block-at-the-old-address"
     let still <- match (if same then t'.slot (sq t.mask h0 k)else .empty)with
      |.live i'=>match r_[i']? with
       |some (_,y')=>do pure (if <- isSame y' y then some i' else none)
       |none=>pure none
      |_=>pure none
     match still with
     |none=>rule "set.search.anew";setSearchFrom a x h0 adding fuel none
     |some i'=>if equal then return .there (some i')else setSearchFrom a x h0 adding fuel (some q)) Q E s:=by
    rw[f1];obtain⟨he,y⟩:=e;dsimp only;refine UY (VB (RQ f3 hx hu ?_));refine UY (cb S.ob T.fits ?_);dsimp only;have hsm:t.sameMemory t.moves t.mask=some true:=by unfold SetTable.sameMemory;simp
    by_cases z:d'=d
    ·subst z;have hm:d'∈ds:=Vs f2;have Q2:=q2 hm i f2
     cases adding with
     |true=>simp only[decide_true,Bool.and_self,VR]at Q2 ⊢;exact UZ Q2
     |false=>simp only[XQ,Vc,VQ]at Q2 ⊢;rw[hsm];dsimp only;rw[if_pos rfl,e4];dsimp only;rw[f1];dsimp only;refine UY (W6 (a:=true) (B4 f3) ?_);refine UY (UZ ?_);simp only[decide_true,VR];exact UZ Q2
    ·simp only[V4 z,Bool.and_false,Vc,VQ];rw[hsm];dsimp only;rw[if_pos rfl,e4];dsimp only;rw[f1];dsimp only;refine UY (W6 (a:=true) (B4 f3) ?_);refine UY (UZ ?_);simp only[VR];refine wq S hx hu hN I_ hNl q1 q2 fuel (k+1) (some q) #[1] #[1] e6 e7 λm hm i' Do=>?_;by_cases z1:m<n
     ·exact h5 m z1 i' Do
     ·by_cases z2:m=k
      ·subst z2;rw[e4]at Do;cases Do;rw[f2];exact λq=>z (Wm q)
      ·exact hdiff m i' Do (e8 m #[1] #[1] i' Do)
   by_cases hl:t.led=true
   ·rw[hl];simp only[WC,Vc,VQ];exact go
   ·have hl':t.led=false:=by simpa using hl
    rw[hl'];simp only[YT,VR];refine UY (JE hx ?_ _ λy hy=>?_)
    ·simp only[Vc,VQ];exact go
    ·obtain⟨e',ZX,rfl⟩:=Vl.mp hy;have hm:e'∈es.toList:=by have:=ZX;simp at this;simpa using this.1
     obtain⟨i',Do⟩:=V2 hm;obtain⟨d2,_,hd2⟩:=fX S.el Do;exact(e'.1,d2,hd2)
end
theorem tS{R:α->β->Prop}:∀{xs:List α} {ys:List β} (p:Nat),Paired R xs ys->Paired R (xs.take p) (ys.take p)/\Paired R (xs.drop p) (ys.drop p)
 |_,_,0,h=>(.nil,by grind)
 |_,_,p+1,.nil=>(.nil,.nil)
 |_,_,p+1,.cons r t=>by obtain⟨a,b⟩:=tS p t;exact(.cons r a,by grind)
theorem wt{R:α->β->Prop}:∀{xs us:List α} {ys vs:List β},Paired R xs ys->Paired R us vs->Paired R (xs++us) (ys++vs)
 |_,_,_,_,.nil,h=>h
 |_,_,_,_,.cons r t,h=>.cons r (wt t h)
theorem ye{R:α->β->Prop}(p:Nat)(h:Paired R xs.toList ys)(r:R x y):Paired R (SetTable.insertAt xs p x).toList (ys.take p++y::ys.drop p):=by rw[X3];obtain⟨a,b⟩:=tS p h;exact wt a (.cons r b)
theorem iJ{R:α->β->Prop}(p:List.Perm xs xs'):∀{ys:List β},Paired R xs ys->∃ys',List.Perm ys ys'/\Paired R xs' ys':=by
 induction p with
 |nil=>exact λh=>(_,.refl _,h)
 |cons x _ ih=>
  intro ys h
  cases h with
  |cons r t=>obtain⟨ys',a,b⟩:=ih t;exact(_,a.cons _,.cons r b)
 |swap x y l=>
  intro ys h
  cases h with
  |cons r t=>
   cases t with
   |cons r' t=>exact(_,.swap _ _ _,.cons r' (.cons r t))
 |trans _ _ ih1 ih2=>intro ys h;obtain⟨y1,a,b⟩:=ih1 h;obtain⟨y2,c,d⟩:=ih2 b;exact(y2,a.trans c,d)
theorem wu(ds:Y9)(p:Nat)(d:PyData):List.Perm (ds.take p++d::ds.drop p) (d::ds):=by have:=W4 p ds;exact List.perm_middle.trans (by grind)
theorem oM{ds i_:Y9}(p:List.Perm ds i_)(h:ds.Nodup):i_.Nodup:=p.nodup_iff.mp h
section
theorem El.text(x:El vp w h false e d):∃y t,d=.str y/\e.2=.str y t/\e.1=hashStr w y:=by
 obtain⟨as,r⟩:=x.rd;have k:=x.kd;have t:=x.tr;have hs:=x.hs;obtain⟨e1,v⟩:=e
 cases r with
 |str y u=>exact(y,u,rfl,rfl,hs)
 |tuple=>trivial
 |_=>trivial
theorem El.refs(x:El vp w h true e d):∃a,e.2=.ref a:=by
 obtain⟨as,r⟩:=x.rd;have k:=x.kd;obtain⟨e1,v⟩:=e
 cases r with
 |tuple=>grind
 |_=>trivial
theorem wx(p:Paired (El vp w h false) es ds):ElemsOf (strKind P w) es:=by intro e he;obtain⟨i,hi⟩:=V2 he;obtain⟨d,_,x⟩:=fX p hi;obtain⟨y,t,e1,e2,e3⟩:=x.text;exact((y,by rw[e2];show Value.isStrOf y (.str y t)=true;simp[Value.isStrOf],e3),by rw[e2];rfl)
theorem B5(p:Paired (El vp w h false) es ds)(y:Str) :
  match es.findIdx? (λe=>(strKind P w).is y e.2)with
  |some j=>ds[j]?=some (.str y)
  |none=>PyData.str y∉ds:=by
 have hk:∀{e:Int×Value} {d:PyData},El vp w h false e d->((strKind P w).is y e.2=true<->d=.str y):=λ{e d} x=>by
  obtain⟨z,t,rfl,e2,_⟩:=x.text;rw[e2];show Value.isStrOf y (.str z t)=true<->_;constructor
  ·intro q;obtain⟨u,hu⟩:=Value.isStrOf_shape q
   grind
  grind[Value.isStrOf]
 cases hr:es.findIdx? (λe=>(strKind P w).is y e.2)with
 |some j=>obtain⟨hj,hp,_⟩:=List.findIdx?_eq_some_iff_getElem.mp hr;obtain⟨d,h1,h2⟩:=fX p (Va hj);show ds[j]?=_;rw[h1,(hk h2).mp hp]
 |none=>
  intro hm;obtain⟨i,hi⟩:=V2 hm;obtain⟨e,h1,h2⟩:=km p hi;have:=List.findIdx?_eq_none_iff.mp hr e (Vs h1)
  grind
theorem cK.scan(S:cK vp w h a false ds es ep t)(hx:x=.str y u):byScan x es=true:=
 byScan_of (knd:=strKind default w) (by rw[hx];rfl) (by rw[S.size];have:=S.ln;show _<4096;omega) (wx S.el)
theorem JF:byScan (.ref b) es=false:=rfl
theorem uO(S:cK vp w s.heap a md ds es ep t)(hx:El vp w s.heap md (h0,x) d)(hu:A.units+20<cLine)
 (q1:d∉ds->Q none s)(q2:∀i,ds[i]?=some d->Q (some i) s):wpAny (model P w) A (setFind a x h0) Q E s:=by
 unfold setFind setFindIn;refine UY (cb S.ob S.tb.fits ?_);dsimp only
 cases md with
 |true=>obtain⟨b,hb⟩:=hx.refs;dsimp only at hb;subst hb;rw[JF];simp only[Vc,VQ];obtain⟨N,n1,n2,n3⟩:=S.tb.free h0;unfold setSearch;have hle:=S.tb.le;refine UY (wq (N:=N) S hx hu n2 n3 (by unfold SetTable.turns;omega) (λhn slot wd _=>UZ (q1 hn)) (λ_ i hi=>UZ (q2 i hi)) 100000 0 none #[1] #[1] rfl (.inl rfl) λm hm=>by omega)
 |false=>
  obtain⟨y,u,rfl,e2,e3⟩:=hx.text;dsimp only at e2 e3;rw[S.scan e2];simp only[VR];refine UY (WG ?_);have hk:(strKind P w).is y x=true:=by rw[e2];show Value.isStrOf y (.str y u)=true;simp[Value.isStrOf]
  rw[e3];refine UY (wpAny_setScan_of (knd:=strKind P w) hk S.ob rfl S.tb.fits (wx S.el) ?_);have ti:=B5 (P:=P) S.el y
  cases hr:es.toList.findIdx? (λe=>(strKind P w).is y e.2)with
  |some j=>rw[hr]at ti;dsimp only at ti ⊢;refine UZ ?_;rw[Nat.zero_add];exact q2 j ti
  |none=>rw[hr]at ti;dsimp only at ti ⊢;exact UZ (q1 ti)
end
section
theorem qY{α:Type}{body:α->Option Bool×Unit->Sem (ForInStep (Option Bool×Unit))}{G:α->Prop}{R:Option Bool×Unit->Zn->Prop}(hb:∀y,G y->∀R':ForInStep (Option Bool×Unit)->Zn->Prop,R' (.yield (none,())) s->R' (.done (some false,())) s->wpAny (model P w) A (body y (none,())) R' E s) :
  ∀ys:List α,(∀y∈ys,G y)->R (none,()) s->R (some false,()) s->wpAny (model P w) A (forIn ys (none,()) body) R E s
 | [],_,h,_=>UZ h
 |y::ys,g,h,h'=>by
  rw[Wo];refine UY (hb y (g y (Vj ..)) _ ?_ ?_)
  ·exact qY hb ys (λz hz=>g z (U2 _ hz)) h h'
  ·exact UZ h'
mutual
theorem zb:∀(d:PyData) (n:Nat) (v:Value) (as:Za) (Q:Bool->Zn->Prop),aD d=true->d.depth<=n->Reads s.heap v d as->(∀b,Q b s)->wpAny (model P w) A (hashByValue n v) Q E s
 |.str x,n,v,as,Q,_,_,r,h=>by
  cases r;have:hashByValue n (.str x ‹_›)=pure false:=by cases n<;>rfl
  rw[this];exact UZ (h _)
 |.tuple ds,n,v,as,Q,t,hn,r,h=>by
  cases r with
  |tuple ho hc hd hi=>
   rename_i a o items k;have hT:s.TypeIs (.ref a) "tuple" := (o,ho,hc);simp only[aD]at t;simp only[PyData.depth]at hn;obtain⟨m,rfl⟩:∃m,n=m+1:=(n-1,by omega);unfold hashByValue;refine UY (WE hT XI.lookup ?_);dsimp only;refine UY (V6 ho hd ?_);simp only[WZ];refine UY ?_;rw[<- WH];refine qY (G:=λy=>∃d' as',aD d'=true/\d'.depth<=m/\Reads s.heap y d' as'/\∀Q':Bool->Zn->Prop,(∀b,Q' b s)->wpAny (model P w) A (hashByValue m y) Q' E s) (λy ⟨d',as',g1,g2,g3,g4⟩ R' r1 r2=>?_) items.toList ?_ (UZ (h _)) (UZ (h _))
   ·refine UY (g4 _ λb=>?_);cases b
    ·exact UZ r2
    ·exact UZ r1
   ·exact wy ds m items.toList _ t #[1] hi
 |.none,_,_,_,_,t,_,_,_=>by simp[aD]at t
 |.bool _,_,_,_,_,t,_,_,_=>by simp[aD]at t
 |.int _,_,_,_,_,t,_,_,_=>by simp[aD]at t
 |.list _,_,_,_,_,t,_,_,_=>by simp[aD]at t
 |.dict _,_,_,_,_,t,_,_,_=>by simp[aD]at t
theorem wy:∀(ds:Y9) (m:Nat) (vs:Zb) (as:Za),bL ds=true->PyData.depthAll ds<=m->ReadsAll s.heap vs ds as->∀y∈vs,∃d' as',aD d'=true/\d'.depth<=m/\Reads s.heap y d' as'/\∀Q':Bool->Zn->Prop,(∀b,Q' b s)->wpAny (model P w) A (hashByValue m y) Q' E s
 | [],m,_,_,_,_,.nil,y,hy=>by simp at hy
 |d::ds,m,_,_,t,hn,.cons r1 r2,y,hy=>by
  simp only[bL,U1]at t;simp only[PyData.depthAll]at hn;rcases Vb.mp hy with rfl|hy
  ·exact(d,_,t.1,by omega,r1,λQ' h=>zb d m _ _ Q' t.1 #[1] r1 h)
  ·exact wy ds m _ _ t.2 #[1] r2 y hy
end
theorem Us(x:El vp w s.heap md e d)(h:∀b,Q b s):wpAny (model P w) A (hashByValue 8 e.2) Q E s:=by obtain⟨as,r⟩:=x.rd;exact zb d 8 _ as Q x.tr x.dp r h
theorem dW(ho:h.get? a=some (bJ es ep t))(sb:Heap.SameBut a h h'):∀b o vs n,h.get? b=some o->o.cls=.type "tuple" -> o.data=.seq vs n->h'.get? b=some o:=λb o vs n e c _=>by
 refine(sb.2 b λz=>?_).trans e
 grind
theorem iK(ho:s.heap.get? a=some (bJ es ep t))(hz:r_.size<=1000)
 (h:∀h',h'.get? a=some (bJ r_ (ep+1) t')->Heap.SameBut a s.heap h'->Q () {s with heap:=h'}):wpAny (model P w) A (storeSet a r_ t') Q E s:=by
 refine wpAny_storeSet_of ho rfl (h _ ?_ (WU ..)) (by grind[sizeLine_eq]);have:=Wi (Obj.putSet r_ t') ho (by rfl);rw[putSet_of r_ t' rfl]at this
 grind
structure qZ(vp:Value->Prop)(w:World)(h:Heap)(md:Bool)(ds:Y9)(es:Y7)(t:Zl):Prop where
 tb:yd es t
 ld:t.led=true\/cZ w=true
 nd:ds.Nodup
 ln:ds.length<=120
 el:Paired (El vp w h md) es.toList ds
theorem qZ.size(S:qZ vp w h md ds es t):es.size=ds.length:=by
 have:=Vo S.el
 grind
theorem qZ.keep(S:qZ vp w h md ds es t)(k:∀b o vs n,h.get? b=some o->o.cls=.type "tuple" -> o.data=.seq vs n->h'.get? b=some o):qZ vp w h' md ds es t:=
 (S.tb,S.ld,S.nd,S.ln,Paired.lK S.el λ_ _ x=>El.keep x k)
theorem wz(S:cK vp w h a md ds es ep t)(hx:El vp w h md (h0,x) d)(hn:d∉ds)(hl:ds.length<120)(R:cE t h0 slot wd)(pl:Bool) :
  ∃i_,List.Perm i_ (d::ds)/\qZ vp w h md i_ (SetTable.insertAt es (t.put slot).2 (h0,x)) {(t.put slot).1 with plain:=pl}/\((!wd&&({(t.put slot).1 with plain:=pl}:Zl).tooFull)=false->({(t.put slot).1 with plain:=pl}:Zl).fill*5<({(t.put slot).1 with plain:=pl}:Zl).mask*3):=by
 obtain⟨r1,n,r2,r3⟩:=R;have hs:∀i,t.slot slot≠.live i:=λi z=>by grind
 have hm:slot<=t.mask:=by
  rw[<- r2];unfold sq
  have bound:∀q (c:Pc),c.j+c.more<=t.mask->(steps t.mask q c).j+(steps t.mask q c).more<=t.mask:=by
   intro q
   induction q with
   |zero=>intro c hc;exact hc
   |succ q ih=>
    intro c hc;simp only[steps];refine ih _ ?_;unfold step;split
    ·show c.j+1+(c.more-1)<=t.mask;omega
    ·show(SetTable.leap t.mask c.i c.pt).1+(SetTable.runEnd t.mask (SetTable.leap t.mask c.i c.pt).1-(SetTable.leap t.mask c.i c.pt).1)<=t.mask;have:(SetTable.leap t.mask c.i c.pt).1<t.mask+1:=Yn _ #[1];unfold SetTable.runEnd;split<;>omega
  have hb:=bound n (c0 t.mask h0) (by
   show SetTable.bits h0 % (t.mask+1)+(SetTable.runEnd t.mask (SetTable.bits h0 % (t.mask+1))-SetTable.bits h0 % (t.mask+1))<=t.mask;have:SetTable.bits h0 % (t.mask+1)<t.mask+1:=Yn _ #[1];unfold SetTable.runEnd
   split<;>omega)
  omega
 obtain⟨T1,T2⟩:=Mq (x:=x) S.tb hs hm r2 r3;refine(_,wu ds (t.put slot).2 d,(T1.flags rfl rfl rfl,S.ld,?_,?_,ye _ S.el hx),λhq=>?_)
 ·exact oM (wu ds _ d).symm (VP.mpr (hn,S.nd))
 ·rw[(wu ds _ d).length_eq];simp;omega
 ·cases wd with
  |true=>have:=T2 (by simpa using r1);show(t.put slot).1.fill*5<t.mask*3;rw[this];exact S.tb.tf
  |false=>simp only[YT,Bool.true_and]at hq;unfold SetTable.tooFull at hq;simp only[decide_eq_false_iff_not]at hq;exact Nat.lt_of_not_le hq
theorem tT(S:qZ vp w h md ds es t)(hw:wanted<1024)(hn:es.size*5<wanted*3\/es.size<=4) :
  ∃t' order i_,t.relaid (es.map (·.1)) wanted=some (t',order)/\List.Perm i_ ds/\qZ vp w h md i_ (order.filterMap (es[·]?)) t'/\Tab (order.filterMap (es[·]?)) t'/\List.Perm order.toList (List.range es.size)/\t'.mask+1=SetTable.sizeAbove wanted:=by
 obtain⟨t',order,e1,e2,e3,e4,e5,e6,_⟩:=G3 hw hn;obtain⟨i_,p1,p2⟩:=iJ e3.symm S.el;exact(t',order,i_,e1,p1.symm,(e2.P1,by rw[e4];exact S.ld,oM p1 S.nd,by rw[<- p1.length_eq];exact S.ln,p2),e2,e5,e6)
theorem B6(h:n<=121):SetTable.grown n<1024/\(n*5<SetTable.grown n*3\/n<=4):=by
 grind[SetTable.grown]
theorem qZ.at(S:qZ vp w h md ds es t)(T:Tab es t)(ho:h.get? a=some (bJ es ep t)):cK vp w h a md ds es ep t:=(ho,T,S.ld,S.nd,S.ln,S.el)
theorem B7(ho:s.heap.get? a=some (bJ es ep t))(S:qZ vp w s.heap md ds es t)(hw:wanted<1024)(hn:es.size*5<wanted*3\/es.size<=4)
 (h:∀h' i_ r_ P3 t',Heap.SameBut a s.heap h'->cK vp w h' a md i_ r_ P3 t'->List.Perm i_ ds->t'.mask+1=SetTable.sizeAbove wanted->Q () {s with heap:=h'}):wpAny (model P w) A (setRelay a wanted) Q E s:=by
 unfold setRelay;refine UY (cb ho S.tb.fits ?_);dsimp only;have hsz:=(mn wanted hw).2;have hsl:¬ SetTable.sizeAbove wanted>sizeLine:=by rw[WI];simp only[Vb,VH,Xq]at hsz;omega
 rw[if_neg hsl];obtain⟨t',order,i_,e1,e2,e3,e4,_,e5⟩:=tT S hw hn;refine UY ?_;rw[e1];show wpAny _ _ (if((order.filterMap (es[·]?)).size != es.size)=true then _ else pure (Prod.mk (order.filterMap (es[·]?)) (t'))) _ _ _;have hse:(order.filterMap (es[·]?)).size=es.size:=by rw[e3.size,S.size,e2.length_eq]
 rw[if_neg (by simp[hse])];refine UZ ?_;dsimp only;refine iK ho (by rw[hse,S.size];have:=S.ln;omega) λh' g1 g2=>?_;exact h h' i_ _ _ t' g2 ((e3.keep (dW ho g2)).at e4 g1) e2 e5
end
section
theorem JG(S:cK vp w s.heap a md ds es ep t)(hx:El vp w s.heap md (h0,x) d)(hn:d∉ds)(hl:ds.length<120)(R:cE t h0 slot wd)(pl:Bool)
 (q:∀h' i_,Heap.SameBut a s.heap h'->b9 vp w h' a md i_->List.Perm i_ (d::ds)->R' true {s with heap:=h'}) :
  wpAny (model P w) A (do
   storeSet a (SetTable.insertAt es (t.put slot).2 (h0,x)) {(t.put slot).1 with plain:=pl}
   if(!wd&&({(t.put slot).1 with plain:=pl}:Zl).tooFull)=true then do
    setRelay a (SetTable.grown (es.size+1))
    pure true
   else pure true) R' E s:=by
 obtain⟨i_,p1,H,p3⟩:=wz S hx hn hl R pl;have hsz:(SetTable.insertAt es (t.put slot).2 (h0,x)).size=es.size+1:=iI;have hes:=S.size;refine UY (iK S.ob #[1] λh' g1 g2=>?_);have H':=H.keep (dW S.ob g2);by_cases hf:(!wd&&({(t.put slot).1 with plain:=pl}:Zl).tooFull)=true
 ·rw[if_pos hf];obtain⟨k1,k2⟩:=B6 (n:=es.size+1) #[1];refine UY (B7 g1 H' k1 (by simp_all) λh2 P_ es2 ep2 t2 f1 f2 f3 _=>UZ ?_);exact q h2 P_ (g2.trans f1) (_,_,_,f2) (f3.trans p1)
 ·rw[if_neg hf];exact UZ (q h' i_ g2 (_,_,_,H'.at (H'.tb.tab (p3 (by grind))) g1) p1)
theorem G4(T:Tab es t)(h0:Int):∃slot wd,t.freeSlot h0=some (slot,wd)/\cE t h0 slot wd:=by
 obtain⟨N,n1,n2,n3⟩:=T.free h0;have hg:=uT (hashAt:=λ_=>h0+1) n2 n3 (10*SetTable.turns t.mask) 0 (t.probeStart h0) #[1] (by grind[SetTable.turns]) rfl (.inl rfl);rcases hg with⟨dm,e1,e2,_⟩|⟨k,i,q,_,_,_,_,e5,_⟩
 ·have hp:t.probe (λ_=>h0+1) h0 (t.probeStart h0)=some (.empty (sq t.mask h0 N) dm):=e1;unfold SetTable.freeSlot;rw[hp];rcases e2 with rfl|⟨m,m1,rfl,m3⟩
  ·exact(_,_,rfl,by grind,N,rfl,n3)
  ·exact(_,_,rfl,by grind,m,rfl,λm' Zu=>n3 m' #[1])
 ·omega
theorem B8(S:qZ vp w h md ds es t)(hw:wanted<1024)(hn:es.size*5<wanted*3\/es.size<=4) :
  ∃r_ t' i_,relayAll t es wanted=(r_,t',false)/\List.Perm i_ ds/\qZ vp w h md i_ r_ t'/\Tab r_ t'/\r_.size=es.size:=by
 obtain⟨t',order,i_,e1,e2,e3,e4,e5,_⟩:=tT S hw hn;have hse:(order.filterMap (es[·]?)).size=es.size:=by rw[e3.size,S.size,e2.length_eq]
 refine(_,_,i_,?_,e2,e3,e4,hse);unfold relayAll;rw[e1];dsimp only;rw[if_pos];simp;exact(List.isPerm_iff.mpr e5,e4.fits)
theorem D6(S:b9 vp w s.heap a md ds)(hx:El vp w s.heap md (h0,x) d)(hu:A.units+20<cLine)(hl:ds.length<120)
 (q1:d∈ds->Q false s)(q2:d∉ds->∀h' i_,Heap.SameBut a s.heap h'->b9 vp w h' a md i_->List.Perm i_ (d::ds)->Q true {s with heap:=h'}) :
  wpAny (model P w) A (setAddHashed a x h0) Q E s:=by
 obtain⟨es,ep,t,S⟩:=S;unfold setAddHashed setAddHashedIn;refine VB (UY (cb S.ob S.tb.fits ?_));dsimp only
 cases md with
 |true=>
  obtain⟨b,hb⟩:=hx.refs;dsimp only at hb;subst hb;rw[JF];simp only[Vc,VQ];obtain⟨N,n1,n2,n3⟩:=S.tb.free h0;have hle:=S.tb.le;unfold setSearch;refine UY (wq (N:=N) (adding:=true) S hx hu n2 n3 (by unfold SetTable.turns;omega) (λhn slot wd R=>?_) (λhm i hi=>?_) 100000 0 none #[1] #[1] rfl (.inl rfl) λm hm=>by omega)
  ·dsimp only;refine UY (cb S.ob S.tb.fits ?_);dsimp only
   have fin:∀pl,wpAny (model P w) A (do
     storeSet a (SetTable.insertAt es (t.put slot).2 (h0,.ref b)) {(t.put slot).1 with plain:=pl}
     if(!wd&&({(t.put slot).1 with plain:=pl}:Zl).tooFull)=true then do
      setRelay a (SetTable.grown (es.size+1))
      pure true
     else pure true) Q E s:=λpl=>JG S hx hn hl R pl (q2 hn)
   refine VM (λ_=>UY (Us hx λbv=>?_)) λ_=>UY (UZ (fin (t.put slot).1.plain))
   cases bv with
   |true=>exact fin (t.put slot).1.plain
   |false=>exact fin false
  ·simp only[VR];exact UZ (q1 hm)
 |false=>
  obtain⟨y,u,rfl,e2,e3⟩:=hx.text;dsimp only at e2 e3;rw[S.scan e2];simp only[VR];unfold setAddByScan;refine UY ?_;refine UY (WG ?_);have hk:(strKind P w).is y x=true:=by rw[e2];show Value.isStrOf y (.str y u)=true;simp[Value.isStrOf]
  have ti:=B5 (P:=P) S.el y;rw[show h0=(strKind P w).hash y from e3];refine UY (wpAny_setScan_of (knd:=strKind P w) hk S.ob rfl S.tb.fits (wx S.el) ?_);rw[<- show h0=(strKind P w).hash y from e3]
  cases hr:es.toList.findIdx? (λe=>(strKind P w).is y e.2)with
  |some j=>rw[hr]at ti;dsimp only at ti ⊢;exact UZ (UZ (q1 (Vs ti)))
  |none=>
   rw[hr]at ti;dsimp only at ti ⊢;obtain⟨slot,wd,f1,R⟩:=G4 S.tb h0;obtain⟨Wp,_,H1,_⟩:=wz S hx ti hl R (t.put slot).1.plain;have hfit:(t.put slot).1.fits (SetTable.insertAt es (t.put slot).2 (h0,x)).size=true:=H1.tb.fits;have hlay:layNew t es h0 x=(SetTable.insertAt es (t.put slot).2 (h0,x),(t.put slot).1,wd,false):=by unfold layNew;rw[f1];dsimp only;unfold SetTable.orStandIn;rw[if_pos hfit,hfit];rfl
   rw[hlay];dsimp only;refine UY (UZ ?_);have hsz:(SetTable.insertAt es (t.put slot).2 (h0,x)).size=es.size+1:=iI;have hle:=S.ln;have hes:=S.size
   have fin:∀pl,wpAny (model P w) A (do
     storeSet a (SetTable.insertAt es (t.put slot).2 (h0,x)) {(t.put slot).1 with plain:=pl}
     if(!wd&&({(t.put slot).1 with plain:=pl}:Zl).tooFull)=true then do
      (match (relayAll {(t.put slot).1 with plain:=pl} (SetTable.insertAt es (t.put slot).2 (h0,x)) (SetTable.grown (SetTable.insertAt es (t.put slot).2 (h0,x)).size)).2.2 with|true=>rule "set.scan.the-table-gave-way" |false=>pure ())
      storeSet a (relayAll {(t.put slot).1 with plain:=pl} (SetTable.insertAt es (t.put slot).2 (h0,x)) (SetTable.grown (SetTable.insertAt es (t.put slot).2 (h0,x)).size)).1 (relayAll {(t.put slot).1 with plain:=pl} (SetTable.insertAt es (t.put slot).2 (h0,x)) (SetTable.grown (SetTable.insertAt es (t.put slot).2 (h0,x)).size)).2.1
      pure (some true)
     else pure (some true)) (λr s'=>wpAny (model P w) A (match r with|some added=>pure added|none=>setAddHashedIn a x h0 99999) Q E s') E s:=λpl=>by
    obtain⟨i_,p1,H,p3⟩:=wz S hx ti hl R pl;refine UY (iK S.ob (by rw[hsz];omega) λh' g1 g2=>?_);have H':=H.keep (dW S.ob g2);by_cases hf:(!wd&&({(t.put slot).1 with plain:=pl}:Zl).tooFull)=true
    ·rw[if_pos hf];obtain⟨k1,k2⟩:=B6 (n:=es.size+1) #[1];obtain⟨es2,t2,P_,m1,m2,m3,m4,m5⟩:=B8 (wanted:=SetTable.grown (SetTable.insertAt es (t.put slot).2 (h0,x)).size) H' (by rw[hsz];exact k1) (by rw[hsz];exact k2);rw[m1];dsimp only;refine UY (UZ ?_);refine UY (iK (s:={s with heap:=h'}) g1 (by rw[m5,hsz];omega) λh2 g3 g4=>UZ (UZ ?_));exact q2 ti h2 P_ (g2.trans g4) (_,_,_,(m3.keep (dW g1 g4)).at m4 g3) (m2.trans p1)
    ·rw[if_neg hf];exact UZ (UZ (q2 ti h' i_ g2 (_,_,_,H'.at (H'.tb.tab (p3 (by simpa using hf))) g1) p1))
   refine VM (λ_=>UY (Us hx λbv=>?_)) λ_=>UY (UZ (fin (t.put slot).1.plain))
   cases bv with
   |true=>exact fin (t.put slot).1.plain
   |false=>exact fin false
end
theorem gE{α:Type}{l:List α}(h:i<l.length):List.Perm (l[i]::l.eraseIdx i) l:=by
 rw[Yo];have e:=W4 i l;rw[Wd h]at e
 conv=>rhs;rw[<- e]
 exact List.perm_middle.symm
theorem FN(next:Nat->Nat):∀(fuel k:Nat) (left:List α) (out:Array α),fuel=left.length->List.Perm (pickOrder.go next fuel k left out).toList (out.toList++left)
 |0,k,left,out,h=>by
  have  := WN.mp h.symm
  simp_all[pickOrder.go]
 |fuel+1,k,left,out,h=>by
  have hpos:0<left.length:=by omega
  have m_:next k % left.length<left.length:=Yn _ hpos;simp[pickOrder.go];rw[Va m_];refine(FN next fuel _ _ _ (by grind)).trans ?_;rw[Array.toList_push,Yj,List.singleton_append];refine List.Perm.append_left _ ?_;exact gE m_
theorem zc(next:Nat->Nat)(xs:Array α):List.Perm (pickOrder next xs).toList xs.toList:=by unfold pickOrder;simpa using FN next xs.size 0 xs.toList #[] (by simp)
section
theorem Al(hn:n≠0)(h:∀i,i<n->Q i {s with drawn:=s.drawn.bump src}):wpAny (model P w) A (choose src n) Q E s:=λΓ p hΓ=>(hn,h _ (Yn _ (Nat.pos_of_ne_zero hn)))
theorem Am:∀(n:Nat) (xs:List α) (s:Zn) (Q:List α->Zn->Prop),n=xs.length->(∀L dr,List.Perm L xs->Q L {s with drawn:=dr})->wpAny (model P w) A (drawOrder n xs) Q E s
 |0,xs,s,Q,h,q=>by have  := WN.mp h.symm;subst this;exact UZ (q [] s.drawn (.refl _))
 |n+1,[],s,Q,h,q=>by grind
 |n+1,x::xs,s,Q,h,q=>by unfold drawOrder;refine UY (Al (by simp) λi hi=>?_);rw[Va hi];refine UY (Am n _ _ _ (by grind) λL dr p=>UZ ?_);exact q _ dr ((p.cons _).trans (gE hi))
theorem hV(h:Q (cZ w) s):wpAny (model P w) A setsByText Q E s:=UY (XU (UZ h))
theorem FO(S:cK vp w s.heap a md ds es ep t)(q:∀L dr,List.Perm (L:Y7).toList es.toList->Q L {s with drawn:=dr}):wpAny (model P w) A (setWalk a) Q E s:=by
 refine UY (cb S.ob S.tb.fits ?_);refine UY (hV ?_);refine VM (λ_=>?_) λhb=>?_
 ·refine UY (XU (UZ ?_));exact q _ s.drawn (zc _ _)
 ·refine VM (λ_=>?_) λ_=>?_
  ·refine UY (Am es.size es.toList s _ (by simp) λL dr p=>UZ (q _ dr #[1]))
  ·have hl:t.led=true:=by
    rcases S.ld with h|h
    ·exact h
    grind
   refine UY (m:=(if _=true then unsupported "set:maker-not-led" else pure ())) ?_;rw[hl];exact UZ (UZ (q es s.drawn (.refl _)))
theorem JH:∀(sets:Za) {Q:Bool->Zn->Prop},(∀a∈sets,∃md ds,b9 vp w s.heap a md ds)->(∀b,Q b s)->wpAny (model P w) A (setsQuiet sets) Q E s:=by
 intro sets Q hs hQ;unfold setsQuiet;refine UY ?_;refine qY (G:=λa=>∃md ds,b9 vp w s.heap a md ds) (λa ⟨md,ds,es,ep,t,S⟩ R' r1 r2=>?_) sets hs (UZ (hQ true)) (UZ (hQ false));refine UY (YN S.ob rfl S.tb.fits ?_);refine UY ?_;rw[<- WH];refine qY (G:=λe=>e∈es.toList) (λe he R2 q1 q2=>?_) es.toList (λ_ h=>h) (UZ r1) (UZ r2);obtain⟨i,hi⟩:=V2 he;obtain⟨d,_,x⟩:=fX S.el hi;obtain⟨h1,v⟩:=e;dsimp only
 cases md with
 |true=>
  obtain⟨as,r⟩:=x.rd;have k:=x.kd;dsimp only at r
  cases r with
  |tuple ho hc hd hi=>have hT:s.TypeIs (.ref _) "tuple" := (_,ho,hc);refine UY (WE hT YL.lookup ?_);exact VM (λ_=>UZ q2) λ_=>UZ q1
  |_=>simp[gY]at k
 |false=>obtain⟨y,u,_,e2,_⟩:=x.text;dsimp only at e2;subst e2;exact UZ q1
end
section
theorem Tab.flags(T:Tab es t)(h1:t'.mask=t.mask)(h2:t'.place=t.place)(h3:t'.dummies=t.dummies):Tab es t':=
 (T.P1.flags h1 h2 h3).tab (by have:=T.tf;simp_all[SetTable.fill])
theorem cK.other(S:cK vp w h a md ds es ep t)(ob:h.get? b=some (bJ r_ P3 t'))(sb:Heap.SameBut b h h')(ne:a≠b):cK vp w h' a md ds es ep t:=
 ((sb.2 a ne).trans S.ob,S.tb,S.ld,S.nd,S.ln,Paired.lK S.el λ_ _ x=>El.keep x (dW ob sb))
theorem cK.keep(S:cK vp w h a md ds es ep t)(k:∀b o,h.get? b=some o->h'.get? b=some o):cK vp w h' a md ds es ep t:=
 (k _ _ S.ob,S.tb,S.ld,S.nd,S.ln,Paired.lK S.el λ_ _ x=>El.keep x λb o _ _ e _ _=>k b o e)
theorem zd(S:cK vp w s.heap o md KB es ep t)(F:b9 vp w s.heap f md' fds)(ne:o≠f)
 (q:∀(L:Y7) h' dr,List.Perm L.toList es.toList->Heap.SameBut f s.heap h'->b9 vp w h' f md' fds->Q L {s with heap:=h',drawn:=dr}):wpAny (model P w) A (setWalkUnseen o [f] (some f)) Q E s:=by
 have q0:∀(L:Y7) dr,List.Perm L.toList es.toList->Q L {s with drawn:=dr}:=λL dr p=>q L s.heap dr p (XM _ _) F;unfold setWalkUnseen;refine UY (cb S.ob S.tb.fits ?_);dsimp only;refine UY (hV ?_);refine VM (λ_=>FO S q0) λhb=>?_;refine UY (JH (vp:=vp) _ (λa ha=>?_) λb=>?_)
 ·simp only[Vb,VH,Xq]at ha;rcases ha with rfl|rfl
  ·exact(md,KB,_,_,_,S)
  grind
 ·refine VM (λ_=>FO S q0) λ_=>?_;refine UY (WG ?_);obtain⟨ef,epf,tf,F⟩:=F;refine UY (cb F.ob F.tb.fits ?_);dsimp only;refine VM (λ_=>?_) λ_=>UZ (q0 es s.drawn (.refl _));refine UY (iK F.ob (by rw[F.size];have:=F.ln;omega) λh' g1 g2=>UZ ?_);refine q es h' s.drawn (.refl _) g2 (_,_,_,g1,F.tb.flags rfl rfl rfl,?_,F.nd,F.ln,Paired.lK F.el λ_ _ x=>El.keep x (dW F.ob g2));rcases S.ld with h1|h1
  ·rcases F.ld with h2|h2
   ·exact .inl (by show(tf.led&&t.led)=true;rw[h1,h2];rfl)
   ·exact .inr h2
  ·exact .inr h1
theorem Mt(S:b9 vp w s.heap a md ds)(hm:ds.length+more<=240)
 (q:∀h' i_ r_ P3 t',Heap.SameBut a s.heap h'->cK vp w h' a md i_ r_ P3 t'->List.Perm i_ ds->(more=0\/more*5<t'.mask*3)->Q () {s with heap:=h'}):wpAny (model P w) A (setRoomFor a more) Q E s:=by
 obtain⟨es,ep,t,S⟩:=S;unfold setRoomFor;refine UY (cb S.ob S.tb.fits ?_);dsimp only;have hsz:t.place.size=ds.length:=by rw[S.tb.sz,S.size]
 unfold SetTable.roomFor;by_cases hc:(t.fill+more)*5>=t.mask*3
 ·rw[if_pos hc];dsimp only;have H:qZ vp w s.heap md ds es t:=(S.tb.P1,S.ld,S.nd,S.ln,S.el);have hes:=S.size;have hln:=S.ln;refine B7 S.ob H #[1] ?_ λh' i_ r_ P3 t' g1 g2 g3 g4=>q h' i_ r_ P3 t' g1 g2 g3 ?_
  ·omega
  ·have:=(mn ((t.place.size+more)*2) (by rw[hsz];omega)).1;omega
 ·rw[if_neg hc];dsimp only;refine UZ (q s.heap ds es ep t (XM _ _) S (.refl _) ?_);omega
theorem wA{h0:Heap}{R:PUnit->Zn->Prop}(hu:A.units+20<cLine)(L_:a≠o)(ho:h0.get? o=some oo)
 (hb:∀(e:Int×Value) (s1:Zn) (R':ForInStep PUnit->Zn->Prop),wpAny (model P w) A (setAddHashed a e.2 e.1) (λ_ s2=>s2.heap.get? o=some oo/\R' (.yield ⟨⟩) s2) E s1->wpAny (model P w) A (body e ⟨⟩) R' E s1) :
  ∀(l:List (Int×Value)) (ys ds:Y9) (s:Zn),Paired (El vp w s.heap md) l ys->b9 vp w s.heap a md ds->ds.length+ys.length<=120->s.heap.get? o=some oo ->
   (∀h' i_,Heap.SameBut a s.heap h'->b9 vp w h' a md i_->(∀d,d∈i_<->d∈ds\/d∈ys)->R ⟨⟩ {s with heap:=h'})->wpAny (model P w) A (forIn l PUnit.unit body) R E s
 | [],_,ds,s,.nil,S,hl,ZH,q=>by rw[Xv];exact UZ (q s.heap ds (XM _ _) S λd=>by simp)
 |e::l,_,ds,s,.cons (b:=y) (l₂:=ys) x xs,S,hl,ZH,q=>by
  rw[Wo];simp only[Vp]at hl;refine UY (hb e s _ (D6 (d:=y) S x hu #[1] (λhm=>(ZH,?_)) λhn h' i_ sb S' p=>((sb.2 o L_.symm).trans ZH,?_)))
  ·exact wA hu L_ ho hb l ys ds s xs S #[1] ZH λh' i_ g1 g2 g3=>q h' i_ g1 g2 λd=>by
    grind
  ·obtain⟨ZI,Z0,t1,S1⟩:=S;refine wA hu L_ ho hb l ys i_ {s with heap:=h'} (Paired.lK xs λ_ _ z=>El.keep z (dW S1.ob sb)) S' (by rw[p.length_eq];simp;omega) ((sb.2 o L_.symm).trans ZH) λh2 P_ g1 g2 g3=>q h2 P_ (sb.trans g1) g2 λd=>?_;rw[g3,p.mem_iff];simp only[Vb];constructor
   ·rintro((h|h)|h)
    ·exact .inr (.inl h)
    ·exact .inl h
    ·exact .inr (.inr h)
   ·rintro(h|h|h)
    ·exact .inl (.inr h)
    ·exact .inl (.inl h)
    ·exact .inr h
theorem JI(hu:A.units+20<cLine)(L_:a≠o)(S:b9 vp w s.heap a md ds)(O:cK vp w s.heap o md KB eo epo to)(hl:ds.length+KB.length<=120)
 (he:∀(s':Zn) (R:Unit->Zn->Prop),s'.heap.get? o=some (bJ eo epo to)->R () s'->wpAny (model P w) A each R E s')
 (q:∀h' i_ dr,Heap.SameBut a s.heap h'->b9 vp w h' a md i_->(∀d,d∈i_<->d∈ds\/d∈KB)->Q () {s with heap:=h',drawn:=dr}):wpAny (model P w) A (setMerge a o each) Q E s:=by
 unfold setMerge;rw[if_neg (by grind)];refine UY (cb O.ob O.tb.fits ?_);dsimp only;have hosz:=O.size;refine VM (λhz=>UZ ?_) λhnz=>?_
 ·have e0:KB=[]:=by
   grind
  subst e0;exact q s.heap ds s.drawn (XM _ _) S λd=>by simp
 ·have hpos:0<eo.size:=by
   apply Nat.pos_of_ne_zero;intro z;exact hnz (by simpa using z)
  have S0:=S;obtain⟨es0,ep0,t0,SA0⟩:=S;refine UY (Mt (more:=eo.size) S0 #[1] λh1 Wp ZI Z0 t1 sb1 S1 p1 r1=>?_);have O1:cK vp w h1 o md KB eo epo to:=O.other SA0.ob sb1 L_.symm;have hm1:eo.size*5<t1.mask*3:=by omega
  refine UY (cb (s:={s with heap:=h1}) S1.ob S1.tb.fits ?_);dsimp only
  have ld':(t1.led&&to.led)=true\/cZ w=true:=by
   rcases S1.ld with z|z
   ·rcases O.ld with z2|z2
    ·exact .inl (by rw[z,z2];rfl)
    ·exact .inr z2
   ·exact .inr z
  have emp:t1.fill=0->ds=[]:=λz=>by
   have:=S1.size;have:=S1.tb.sz;unfold SetTable.fill at z;have:Wp.length=0:=by omega
   rw[p1.length_eq]at this;exact WN.mp this
  cases hr:t1.road to with
  |slotForSlot=>
   unfold SetTable.road at hr;split at hr
   ·cases hr
   ·rename_i hf;have ZW:t1.fill=0:=by simpa using hf
    split at hr
    ·rename_i hc;refine iK (s:={s with heap:=h1}) S1.ob (by have:=O.ln;omega) λh2 g1 g2=>?_;have e0:=emp ZW;subst e0;refine q h2 KB s.drawn (sb1.trans g2) (_,_,_,g1,O.tb.flags rfl rfl rfl,ld',O.nd,O.ln,Paired.lK O1.el λ_ _ x=>El.keep x (dW S1.ob g2)) λd=>by simp
    ·cases hr
  |clean=>
   unfold SetTable.road at hr;split at hr
   ·cases hr
   ·rename_i hf;have ZW:t1.fill=0:=by simpa using hf
    have e0:=emp ZW;subst e0;dsimp only;obtain⟨t',order,k1,k2,k3,k4,k5,k6⟩:=FK (es:=eo) (mask:=t1.mask) S1.tb.sm hm1 t1.finger t1.moves (t1.led&&to.led) (t1.plain&&to.plain);refine UY ?_;rw[k1];have hse:(order.filterMap (eo[·]?)).size=eo.size:=by have:=k3.length_eq;rw[V0,V0]at this;exact this
    show wpAny _ _ (if((order.filterMap (eo[·]?)).size != eo.size)=true then _ else pure (Prod.mk (order.filterMap (eo[·]?)) (t'))) _ _ _;rw[if_neg (by simp[hse])];refine UZ ?_;dsimp only;refine iK (s:={s with heap:=h1}) S1.ob (by rw[hse];have:=O.ln;omega) λh2 g1 g2=>?_;obtain⟨P_,p2,e2⟩:=iJ k3.symm O1.el;refine q h2 P_ s.drawn (sb1.trans g2) (_,_,_,g1,k2,by rw[k5];exact ld',oM p2 O.nd,by rw[<- p2.length_eq];exact O.ln,Paired.lK e2 λ_ _ x=>El.keep x (dW S1.ob g2)) λd=>?_;rw[<- p2.mem_iff];simp
  |oneByOne=>
   dsimp only;refine UY (zd (s:={s with heap:=h1}) (md':=md) (f:=a) (fds:=Wp) O1 (_,_,_,S1) L_.symm λL h2 dr pL sb2 S2=>?_);have O2:cK vp w h2 o md KB eo epo to:=O1.other S1.ob sb2 L_.symm;obtain⟨eds2,p2,e2⟩:=iJ pL.symm O2.el;rw[<- WH];refine UY (wA (R:=λ_ s'=>wpAny (model P w) A (pure ()) Q E s') (h0:=h2) hu L_ O2.ob (λe s1 R' hadd=>?_) L.toList eds2 Wp {s with heap:=h2,drawn:=dr} e2 S2 (by rw[p1.length_eq,<- p2.length_eq];omega) O2.ob λh3 ds3 sb3 S3 m3=>UZ ?_)
   ·obtain⟨hh,xx⟩:=e;dsimp only;refine UY (VB (V7 hadd (λ_ s2 ⟨z1,z2⟩=>?_) λ_ _ z=>z));refine UY (he s2 _ z1 ?_);refine UY (cb z1 O.tb.fits ?_);dsimp only;rw[if_neg (by simp)];exact UZ z2
   ·refine q h3 ds3 dr (sb1.trans (sb2.trans sb3)) S3 λd=>?_;rw[m3,p1.mem_iff,<- p2.mem_iff]
end
section
variable {s:Zn}
theorem rf{R:α->β->Prop}:∀{xs:List α} {ys:List β} (p:Nat),Paired R xs ys->Paired R (xs.eraseIdx p) (ys.eraseIdx p)
 |_,_,p,.nil=>.nil
 |_,_,0,.cons r t=>by grind
 |_,_,p+1,.cons r t=>.cons r (rf p t)
theorem An(xs:Array α)(p:Nat):(SetTable.eraseAt xs p).toList=xs.toList.eraseIdx p:=by simp[SetTable.eraseAt,Yo,Xx]
theorem D7(S:b9 vp w s.heap a md ds)(hx:El vp w s.heap md (h0,x) d)(hu:A.units+20<cLine)
 (q1:d∉ds->Q false s)(q2:∀h' i_,Heap.SameBut a s.heap h'->b9 vp w h' a md i_->List.Perm (d::i_) ds->Q true {s with heap:=h'}):wpAny (model P w) A (setDiscardHashed a x h0) Q E s:=by
 obtain⟨es,ep,t,S⟩:=S;unfold setDiscardHashed;refine UY (uO S hx hu (λhn=>?_) λi hi=>?_)
 ·exact UZ (q1 hn)
 ·dsimp only;have U_:i<ds.length:=(U9.mp hi).1;have hie:i<es.size:=by rw[S.size];exact U_
  have hp:List.Perm (d::ds.eraseIdx i) ds:=by have:=gE U_;rw[(U9.mp hi).2]at this;exact this
  refine UY (cb S.ob S.tb.fits ?_);dsimp only;obtain⟨T,_,T3⟩:=JB S.tb hie;refine UY (iK S.ob (by rw[hG hie,S.size];have:=S.ln;omega) λh' g1 g2=>?_);refine UY (wpAny_point (UZ (q2 h' _ g2 (_,_,_,g1,T,by rw[T3];exact S.ld,?_,?_,?_) hp)))
  ·exact(VP.mp (oM hp.symm S.nd)).2
  ·have:=hp.length_eq;have:=S.ln;simp at *;omega
  ·rw[An];exact Paired.lK (rf i S.el) λ_ _ x=>El.keep x (dW S.ob g2)
theorem sQ{R:PUnit->Zn->Prop}(hu:A.units+20<cLine)(L_:a≠o)
 (hb:∀(e:Int×Value) (s1:Zn) (R':ForInStep PUnit->Zn->Prop),wpAny (model P w) A (setDiscardHashed a e.2 e.1) (λb s2=>if b=true then s2.heap.get? o=some oo/\R' (.yield ⟨⟩) s2 else wpAny (model P w) A (setAddHashed a e.2 e.1) (λ_ s3=>s3.heap.get? o=some oo/\R' (.yield ⟨⟩) s3) E s2) E s1->wpAny (model P w) A (body e ⟨⟩) R' E s1) :
  ∀(l:List (Int×Value)) (ys ds:Y9) (s:Zn),Paired (El vp w s.heap md) l ys->ys.Nodup->b9 vp w s.heap a md ds->ds.length+ys.length<=120->s.heap.get? o=some oo ->
   (∀h' i_,Heap.SameBut a s.heap h'->b9 vp w h' a md i_->(∀d,d∈i_<->(d∈ds/\d∉ys)\/(d∉ds/\d∈ys))->R ⟨⟩ {s with heap:=h'})->wpAny (model P w) A (forIn l PUnit.unit body) R E s
 | [],_,ds,s,.nil,_,S,hl,ZH,q=>by rw[Xv];exact UZ (q s.heap ds (XM _ _) S λd=>by simp)
 |e::l,_,ds,s,.cons (b:=y) (l₂:=ys) x xs,nd,S,hl,ZH,q=>by
  rw[Wo];simp only[Vp]at hl;obtain⟨nd1,ZU⟩:=VP.mp nd;have S0:=S;obtain⟨ZI,Z0,t1,S1⟩:=S0;refine UY (hb e s _ (D7 (d:=y) S x hu (λhn=>?_) λh' i_ sb S' p=>?_))
  ·rw[if_neg (by simp)];refine D6 (d:=y) S x hu #[1] (λhm=>absurd hm hn) λ_ h' i_ sb S' p=>((sb.2 o L_.symm).trans ZH,?_);refine sQ hu L_ hb l ys i_ {s with heap:=h'} (Paired.lK xs λ_ _ z=>El.keep z (dW S1.ob sb)) ZU S' (by rw[p.length_eq];simp;omega) ((sb.2 o L_.symm).trans ZH) λh2 P_ g1 g2 g3=>q h2 P_ (sb.trans g1) g2 λd=>?_;rw[g3,p.mem_iff];simp only[Vb,not_or];by_cases z:d=y
   ·subst z;simp[hn,nd1]
   ·simp[z]
  ·rw[if_pos rfl];have hy:y∈ds:=p.mem_iff.mp (Vj ..);have hny:y∉i_:=(VP.mp (oM p.symm S1.nd)).1;have hlen:=p.length_eq;refine((sb.2 o L_.symm).trans ZH,sQ hu L_ hb l ys i_ {s with heap:=h'} (Paired.lK xs λ_ _ z=>El.keep z (dW S1.ob sb)) ZU S' (by simp at hlen;omega) ((sb.2 o L_.symm).trans ZH) λh2 P_ g1 g2 g3=>q h2 P_ (sb.trans g1) g2 λd=>?_);rw[g3,<- p.mem_iff];simp only[Vb,not_or];by_cases z:d=y
   ·subst z;simp[hny,nd1]
   ·simp[z]
theorem B9(ho:h.get? a=some (bJ #[] 0 (.fresh 0 0 led)))(hl:led=true\/cZ w=true):b9 vp w h a md []:=
 (#[],0,_,ho,(List.Pairwise.nil,List.Pairwise.nil,rfl,(by decide:(0:Nat)*5<7*3),λj hj=>by trivial,λj hj=>by trivial,λj hj=>by trivial,NG.1,λi e j h1=>by simp at h1),hl,List.nodup_nil,by simp,.nil)
theorem G5(q:∀h',h'.objs.size=s.heap.objs.size+1->(∀b o,s.heap.get? b=some o->h'.get? b=some o)->b9 vp w h' s.heap.objs.size md []->Q (.ref s.heap.objs.size) {s with heap:=h'}):wpAny (model P w) A (newSet (.type "set")) Q E s:=by
 refine UY (hV ?_);refine UY (wpAny_alloc (UZ ?_));refine q _ (V1 _ _) (λb o e=>U0 _ e) (B9 (U5 _ rfl) ?_)
 grind
theorem nG(S:b9 vp w s.heap a md ds):s.TypeIs (.ref a) "set" := by obtain⟨_,_,_,S⟩:=S;exact(_,S.ob,rfl)
theorem oN(S:b9 vp w s.heap a md ds)(q:Q true s):wpAny (model P w) A (Builtin.Frozenset.isAnySet (.ref a)) Q E s:=by refine UY (WY (nG S) sub_set_self ?_);exact UZ q
theorem Mu(S:b9 vp w s.heap a md ds)(q:Q (.type "set") s):wpAny (model P w) A (Builtin.Frozenset.baseOf a) Q E s:=by refine UY (WY (nG S) sub_set_self ?_);exact UZ q
theorem Mv{id:String}(hu:A.units+20<cLine)(L_:a≠o)(S:b9 vp w s.heap a md ds)(O:b9 vp w s.heap o md KB)(hl:ds.length+KB.length<=120)
 (q:∀h' i_ dr,Heap.SameBut a s.heap h'->b9 vp w h' a md i_->(∀d,d∈i_<->d∈ds\/d∈KB)->Q () {s with heap:=h',drawn:=dr}):wpAny (model P w) A (Builtin.Frozenset.updateFrom id a (.ref o)) Q E s:=by
 unfold Builtin.Frozenset.updateFrom;refine UY (oN O ?_);simp only[VR];refine UY (m:=Builtin.Frozenset.addrOf (.ref o)) (UZ ?_);obtain⟨eo,epo,to,O⟩:=O;unfold Builtin.Frozenset.merge;refine UY (Xk O.ob rfl O.tb.fits ?_);refine JI hu L_ S O hl (λs' R h1 h2=>?_) q;unfold Builtin.Frozenset.unchanged;refine UY (Xk h1 rfl O.tb.fits ?_);rw[if_neg (by simp)];exact UZ h2
def JJ(vp:Value->Prop)(w:World)(s:Zn)(md:Bool)(G:PyData->Prop)(Q:Y4):Prop:=∀a h' ds dr,s.heap.objs.size<=a->(∀b o,s.heap.get? b=some o->h'.get? b=some o)->b9 vp w h' a md ds->(∀d,d∈ds<->G d)->Q (.ref a) {s with heap:=h',drawn:=dr}
end
theorem yf:entryFor table "set.__xor__" = some Builtin.«frozenset.__xor__» := entryFor_alias (id' := "frozenset.__xor__") (by kernel_rfl) rfl (by decide +kernel) (by kernel_rfl)
theorem JK:typeLookup (.type "set") (dunderR "xor")=pure (some (.builtin "set.__rxor__")):=by rfl
theorem G6:fillsNumberSlot (.type "set") "xor" = pure true:=fillsNumberSlot_of F.slot_set_xor.lookup (by rfl) JK
section
theorem P2(hu:A.units+21<cLine)(hlr:l≠r)(L:b9 vp w s.heap l md ds)(R:b9 vp w s.heap r md KB)(hl:ds.length+KB.length<=120)(q:JJ vp w s md (λd=>(d∈ds/\d∉KB)\/(d∉ds/\d∈KB)) Q) :
  wpAny (model P w) A (binaryOp .BitXor (.ref l) (.ref r)) Q E s:=by
 refine wpAny_binaryOp_same (op:=.BitXor) (nG L) (nG R) G6 F.slot_set_xor (Vt F.slot_set_xor (nG L) yf ?_ (F.args_set_xor_2 _ _));show wpAny _ _ (Builtin.Frozenset.slot1 "__xor__" ([.ref l,.ref r],[]) >>= _) _ _ _;refine UY (W6 (a:=(Value.ref l,Value.ref r)) rfl ?_);dsimp only;refine UY (m:=(Builtin.Frozenset.isAnySet (.ref l) <&&> Builtin.Frozenset.isAnySet (.ref r))) (UY (oN L ?_));refine oN R ?_;simp only[WC,Vc,VQ];refine UY (m:=Builtin.Frozenset.addrOf (.ref l)) (UZ ?_);refine UY ?_;show wpAny _ _ (Builtin.Frozenset.baseOf l >>= _) _ _ _;refine UY (Mu L ?_);refine UY ?_;unfold Builtin.Frozenset.newFrom;refine UY (G5 (vp:=vp) (md:=md) λh1 sz k1 S1=>?_);obtain⟨el,epl,tl,L⟩:=L;obtain⟨er,epr,tr,R⟩:=R;have hr:s.heap.objs.size≠r:=XC (U6 R.ob);have hll:s.heap.objs.size≠l:=XC (U6 L.ob);refine UY (m:=Builtin.Frozenset.addrOf _) (UZ (UY (VB ?_)));refine Mv (s:={s with heap:=h1}) (by show A.units+1+20<cLine;omega) hr S1 (_,_,_,R.keep k1) (by simp;omega) λh2 P_ dr2 sb S2 m2=>UZ ?_;simp only[VH,false_or]at m2;refine UY (m:=Builtin.Frozenset.addrOf _) (UZ (UY (VB ?_)));obtain⟨e1,Z0,t1,S1'⟩:=S1;have L2:cK vp w h2 l md ds el epl tl:=(L.keep k1).other S1'.ob sb hll.symm;have hlen:P_.length=KB.length:=by obtain⟨_,_,_,S2'⟩:=S2;exact(WX S2'.nd R.nd).mpr m2 |>.length_eq
 unfold Builtin.Frozenset.symmetricDifferenceUpdate;have hc:¬ (Value.ref l==Value.ref s.heap.objs.size)=true:=by rw[YW];exact λz=>hll (Value.ref.inj z).symm
 rw[if_neg hc];refine UY (X1 (T := "set") (_,L2.ob,rfl) ?_);rw[if_neg (by decide)];refine UY (oN (md:=md) (ds:=ds) (_,_,_,L2) ?_);simp only[VR];refine UY (UZ ?_);refine UY (m:=Builtin.Frozenset.addrOf _) (UZ ?_);refine UY (Xk (s:={s with heap:=h2,drawn:=dr2}) L2.ob rfl L2.tb.fits ?_);refine VB ?_;refine UY (zd (s:={s with heap:=h2,drawn:=dr2}) L2 S2 hll.symm λLr h3 dr3 pL sb3 S3=>?_);obtain⟨e2,ep2,t2,S2'⟩:=S2;have L3:=L2.other S2'.ob sb3 hll.symm;obtain⟨ds3,p3,el3⟩:=iJ pL.symm L3.el;rw[<- WH];refine UY (sQ (a:=s.heap.objs.size) (o:=l) (oo:=bJ el epl tl) (by show A.units+1+20<cLine;omega) hll (λe s1 R' hd=>?_) Lr.toList ds3 P_ {s with heap:=h3,drawn:=dr3} el3 (oM p3 L.nd) S3 (by rw[<- p3.length_eq];omega) L3.ob λh4 ds4 sb4 S4 m4=>?_)
 ·obtain⟨hh,xx⟩:=e;dsimp only at hd ⊢;have un:∀(s2:Zn),s2.heap.get? l=some (bJ el epl tl)->R' (.yield ⟨⟩) s2->wpAny (model P w) A.in1 (Builtin.Frozenset.unchanged "frozenset.__xor__" l epl >>= λ_=>pure (ForInStep.yield PUnit.unit)) R' E s2:=λs2 z1 z2=>by unfold Builtin.Frozenset.unchanged;refine UY (UY (Xk z1 rfl L.tb.fits ?_));rw[if_neg (by simp)];exact UZ (UZ z2)
  refine UY (VB (UY (V7 hd (λb s2 z=>?_) λ_ _ z=>z)))
  cases b with
  |true=>rw[if_pos rfl]at z;simp only[WC,Vc,VQ];exact UZ (un s2 z.1 z.2)
  |false=>rw[if_neg (by simp)]at z;simp only[YT,VR];exact UY (V7 z (λ_ s3 z3=>UZ (un s3 z3.1 z3.2)) λ_ _ z=>z)
 ·refine UZ (UZ (UZ (_,rfl,(λz=>nomatch z),q _ h4 ds4 dr3 (U4 _) (λb ob e=>?_) S4 λd=>?_)))
  ·have hb:b≠s.heap.objs.size:=Vi (U6 e);exact(sb4.2 b hb).trans ((sb3.2 b hb).trans ((sb.2 b hb).trans (k1 b ob e)))
  ·rw[m4,m2,<- p3.mem_iff];constructor
   ·rintro(⟨a,b⟩|⟨a,b⟩)
    ·exact .inr (b,a)
    ·exact .inl (b,a)
   ·rintro(⟨a,b⟩|⟨a,b⟩)
    ·exact .inr (b,a)
    ·exact .inl (b,a)
end
theorem sub_tuple_set:isSubtype (.type "tuple") (.type "set")=pure false:=by rfl
theorem sub_tuple_frozenset:isSubtype (.type "tuple") (.type "frozenset")=pure false:=by rfl
def P4(md:Bool)(d:PyData):Prop:=aD d=true/\d.depth<=8/\fw d=true/\gY d=md
section
theorem JL{R:Result->Zn->Prop}{St:Nat->Heap->Prop}{ys:Y9}(W:Walks P w A.in1 I fp wr n Pv St)(S:Addr)(hSf:S∉fp)(hn:n=ys.length)(hl:n<=120)(hu:A.in1.units+20<cLine)
 (hv:∀i v,Pv i v->∃y,ys[i]?=some y/\P4 md y/\vp v/\∃as,Reads h0 v y as)(hw:∀b o,h0.get? b=some o->b∉wr)(hS0:h0.get? S=none)(hit:∀i h,St i h->∀b∈wr,∀o,h.get? b=some o->o.cls≠.type "tuple") :
  ∀(k i:Nat) (s:Zn) (ds:Y9),n-i=k->i<=n->St i s.heap->b9 vp w s.heap S md ds->(∀d,d∈ds<->d∈ys.take i)->ds.length<=i->(∀b o,h0.get? b=some o->s.heap.get? b=some o) ->
   (∀h' tk i_,b9 vp w h' S md i_->(∀d,d∈i_<->d∈ys)->(∀b o,h0.get? b=some o->h'.get? b=some o)->R (.ok (.ret .none)) {s with heap:=h',toks:=tk}) ->
   codeAny (model P w) A (.builtin "set.update.loop" ([.ref S,.ref I],[])) R s:=by
 have hSw:S∉wr:=λh=>hSf (W.sub _ h);intro k
 induction k with
 |zero=>
  intro i s ds hk hi Zt hS hm hd h0k hR;have Re:i=n:=by omega
  subst Re;refine XF XR ?_;rw[Xa We _];show wpAny _ A.in1 (pyNext (.ref I) >>= _) _ _ s;refine UY (W.done s _ _ Zt λh' tk kp=>?_);show wpAny _ A.in1 (ret Value.none) _ _ _;obtain⟨es,ep,t,S'⟩:=hS;have kt:∀b o vs n,s.heap.get? b=some o->o.cls=.type "tuple" -> o.data=.seq vs n->h'.get? b=some o:=λb o vs n e c _=>kp b o (λz=>hit _ _ Zt b z o e c) e;exact UZ (hR h' tk ds (es,ep,t,kp _ _ hSw S'.ob,S'.tb,S'.ld,S'.nd,S'.ln,Paired.lK S'.el λ_ _ x=>El.keep x kt) (λd=>by rw[hm,hn,List.take_length]) λb o e=>kp b o (hw b o e) (h0k b o e))
 |succ k ih=>
  intro i s ds hk hi Zt hS hm hd h0k hR;have m_:i<n:=by omega
  refine XF XR ?_;rw[Xa We _];show wpAny _ A.in1 (pyNext (.ref I) >>= _) _ _ s;refine UY (W.item i s _ _ m_ Zt λv h1 tk1 hP hst' kp=>?_);obtain⟨y,hy,⟨y1,y2,y3,y4⟩,vy,as,ry⟩:=hv i v hP;obtain⟨es,ep,t,S'⟩:=hS;have kt:∀b o vs n,s.heap.get? b=some o->o.cls=.type "tuple" -> o.data=.seq vs n->h1.get? b=some o:=λb o vs n e c _=>kp b o (λz=>hit _ _ Zt b z o e c) e;have h0k1:∀b o,h0.get? b=some o->h1.get? b=some o:=λb o e=>kp b o (hw b o e) (h0k b o e);have S1:b9 vp w h1 S md ds:=(es,ep,t,kp _ _ hSw S'.ob,S'.tb,S'.ld,S'.nd,S'.ln,Paired.lK S'.el λ_ _ x=>El.keep x kt);have r1:Reads h1 v y as:=kS (λb o vs n e _ _=>h0k1 b o e) y1 ry;have ey:El vp w h1 md (tw w y,v) y:=(y1,y2,y3,rfl,y4,(as,r1),vy);show wpAny _ A.in1 (holding [v] (setAdd S v) >>= _) _ _ _;refine UY (VB ?_);unfold setAdd;refine VB ?_;refine UY (pK y A.in1 {s with heap:=h1,toks:=tk1} v as _ _ y1 r1 #[1] ?_);have htk:ys.take (i+1)=ys.take i++[y]:=by rw[List.take_add_one,hy];rfl
  refine D6 (s:={s with heap:=h1,toks:=tk1+pJ y}) S1 ey hu #[1] (λZJ=>?_) λhnm h2 P_ sb S2 p2=>?_
  ·refine UZ (YG We _,ih (i+1) _ ds #[1] m_ hst' S1 (λd=>?_) #[1] h0k1 λh' tk i_ a b c=>hR h' tk i_ a b c);rw[htk,Vd,<- hm];constructor
   ·exact .inl
   ·rintro(z|z)
    ·exact z
    ·rw[Vm.mp z];exact ZJ
  ·obtain⟨ZI,Z0,t1,S1'⟩:=S1;refine UZ (YG We _,ih (i+1) {s with heap:=h2,toks:=tk1+pJ y} P_ #[1] m_ (W.frame _ _ _ hst' λb hb o e=>(sb.2 b λz=>hSf (z▸hb)).trans e) S2 (λd=>?_) (by rw[p2.length_eq];simp;omega) (λb o e=>(sb.2 b λz=>?_).trans (h0k1 b o e)) λh' tk i_ a b c=>hR h' tk i_ a b c)
   ·rw[p2.mem_iff,htk,Vd,<- hm,Vb,Vm];exact Or.comm
   ·rw[z,hS0]at e;cases e
theorem wB(a:Value)(h:Q₁ (.ref s.heap.objs.size) {s with heap:=s.heap.push (bJ #[] 0 (.fresh 0 0 (!cZ w)))}) :
  codeAny (model P w) A (.call (.builtin "set.__new__") ([.type "set",a],[])) (wants Q₁ E) s:=by
 refine codeAny_of_tree ?_;show wpAny _ A.in1 (do checkBuiltinCall "set.__new__" ([.type "set",a],[]);again (.builtin "set.__new__" ([.type "set",a],[]))) _ _ s;refine UY (W6 (F.newCall_set_1 a) (UZ (YG F.plain_set_new _,XF F.entry_set_new ?_)));rw[Xa F.plain_set_new _];unfold Builtin.«set.__new__» Builtin.Frozenset.newClass;have hsub:=sub_set_self;obtain⟨hp,g,d,tk,os⟩:=s;dsimp only
 wp_walk
 refine XU (UZ ?_);dsimp only;simp only[newObj];refine UY (wpAny_alloc (UZ ?_));exact UZ h
structure Src(P:Zj)(w:World)(T:String)(l:Addr)(items:Zh)(OK:Heap->Prop):Prop where
 ob:∀h,OK h->∃od n sl,h.get? l=some {cls:=.type T,dict:=od,data:=.seq items n,slots:=sl}
 kp:∀h h',OK h->(∀o,h.get? l=some o->h'.get? l=some o)->OK h'
 s1:isSubtype (.type T) (.type "set")=pure false
 s2:isSubtype (.type T) (.type "frozenset")=pure false
 nd:(Value.type T==Value.type "dict")=false
 it:∀(A:Zm) (E:Y4) (s:Zn),A.handled=none->OK s.heap->∃(oI:Obj) (St:Nat->Heap->Prop),oI.cls≠.type "tuple" /\
  (∀Q:Y4,Q (.ref s.heap.objs.size) {s with heap:=s.heap.push oI}->wpAny (model P w) A (pyIter (.ref l)) Q E s) /\
  (∀A':Zm,A'.handled=none->Walks P w A' s.heap.objs.size [s.heap.objs.size,l] [s.heap.objs.size] items.size (λi v=>items[i]?=some v) St)/\St 0 (s.heap.push oI)/\(∀i h,St i h->∀o,h.get? s.heap.objs.size=some o->o.cls≠.type "tuple")
theorem src_list(l:Addr)(items:Zh):Src P w "list" l items (λh=>h.IsList l items) where
 ob:=by rintro h ⟨⟨c,d,da,sl⟩,ho,hc,n,hd⟩;exact(d,n,sl,by grind)
 kp:=λh h' x k=>x.at k
 s1:=F.sub_list_set
 s2:=F.sub_list_frozenset
 nd:=by decide
 it:=λA E s hh hl=>by
  have hlS:l<s.heap.objs.size:=by obtain⟨_,e,_⟩:=hl;exact U6 e
  exact({cls:=.type "list_iterator",data:=.fields #[.ref l,.int 0 0]},_,λz=>absurd (Value.type.inj z) (by decide),λQ q=>Xd hl q,λA' h'=>Walks.list h' _ l (Vi hlS) items,((_,U5 _ rfl,rfl,rfl),hl.push _),by
   rintro i h ⟨⟨o',e,c,_⟩,_⟩ o eo
   grind)
theorem src_tuple(l:Addr)(items:Zh):Src P w "tuple" l items (λh=>h.IsTuple l items) where
 ob:=by rintro h ⟨⟨c,d,da,sl⟩,ho,hc,n,hd⟩;exact(d,n,sl,by grind)
 kp:=by rintro h h' ⟨o,e,r⟩ k;exact⟨o,k _ e,r⟩
 s1:=sub_tuple_set
 s2:=sub_tuple_frozenset
 nd:=by decide
 it:=λA E s hh hl=>by
  have hlS:l<s.heap.objs.size:=by obtain⟨_,e,_⟩:=hl;exact U6 e
  exact({cls:=.type "tuple_iterator",data:=.fields #[.ref l,.int 0 0]},_,λz=>absurd (Value.type.inj z) (by decide),λQ q=>X5 hl q,λA' h'=>Walks.tuple h' _ l (Vi hlS) items,((_,U5 _ rfl,rfl,rfl),hl.push _),by
   rintro i h ⟨⟨o',e,c,_⟩,_⟩ o eo
   grind)
end
section
theorem readsAll_get:∀{vs:Zb} {ds:Y9} {as:Za},ReadsAll h vs ds as->∀{i:Nat} {v:Value},vs[i]?=some v->∃d bs,ds[i]?=some d/\Reads h v d bs
 |_,_,_,.nil,i,v,e=>by simp at e
 |_,_,_,.cons r _,0,v,e=>by grind
 |_,_,_,.cons _ t,i+1,v,e=>by simpa using readsAll_get t (by simp_all)
set_option maxHeartbeats 3200000 in
theorem wC{T:String}{l:Addr}{items:Zh}{OK:Heap->Prop}{md:Bool}{ys:Y9}{as:Za}{Q:Y4}(K:Src P w T l items OK)(hh:A.handled=none)(hl:OK s.heap)(hr:ReadsAll s.heap items.toList ys as)(he:∀y∈ys,P4 md y)(hvp:∀v∈items.toList,vp v)(hn:ys.length<=120)(hu:A.units+25<cLine)
 (h:∀h' tk ds,b9 vp w h' s.heap.objs.size md ds->(∀d,d∈ds<->d∈ys)->(∀b o,s.heap.get? b=some o->h'.get? b=some o)->Q (.ref s.heap.objs.size) {s with heap:=h',toks:=tk}) :
  wpAny (model P w) A (call (.type "set") [.ref l]) Q E s:=by
 have hr0:=hr;have hlen:items.size=ys.length:=by have:=readsAll_len hr;simpa using this
 obtain⟨c,tl,hmro⟩:=XG.mro;have hmade:=XG.made;have hsub:=XG.sub;refine wpAny_call (codeAny_of_tree ?_);show wpAny _ _ (callAny (.type "set") _) _ _ _;refine UZ (Code.quiet_builtin _ (by decide +kernel),XF F.entry_type_call ?_);rw[Around.under_plain (weight_type_call_type "set" [.ref l] []) rfl];have h1:=XG.notType;have h2:=XG.canCreate;have hct:=F.typeCall_set_1 (.ref l)
 repeat (any_goals (first|assumption|wp_step))
 refine XY (wB (.ref l) (E:=E) (Q₁:=λobj f_=>obj=.ref s.heap.objs.size/\f_={s with heap:=s.heap.push (bJ #[] 0 (.fresh 0 0 (!cZ w)))}) (rfl,rfl)) λr f_ hr=>?_
 cases r with
 |error e=>exact hr
 |ok fl=>
  cases fl with
  |ret obj=>
   obtain⟨rfl,rfl⟩:=hr;have hS:(s.heap.push (bJ #[] 0 (.fresh 0 0 (!cZ w)))).get? s.heap.objs.size=some (bJ #[] 0 (.fresh 0 0 (!cZ w))):=U5 _ rfl;have hT:Shared.TypeIs {s with heap:=s.heap.push (bJ #[] 0 (.fresh 0 0 (!cZ w)))} (.ref s.heap.objs.size) "set" := (_,hS,rfl);have hli:=XG.init.lookup;have hbi:=XG.init.bind (.ref s.heap.objs.size)
   repeat (any_goals (first|assumption|wp_step))
   refine XY (codeAny_call_builtin (R:=wants (λr z_=>r=.none/\∃h' tk ds,z_={s with heap:=h',toks:=tk}/\b9 vp w h' s.heap.objs.size md ds/\(∀d,d∈ds<->d∈ys)/\(∀b o,s.heap.get? b=some o->h'.get? b=some o)) E) XG.init.plain F.entry_set_init (check_set_init_1 hT ?_)) λr₂ z_ ZM=>?_
   ·obtain⟨odict,nl,oslots,hol⟩:=K.ob _ hl;have hol':(s.heap.push (bJ #[] 0 (.fresh 0 0 (!cZ w)))).get? l=some {cls:=.type T,dict:=odict,data:=.seq items nl,slots:=oslots}:=U0 _ hol;have hsls:=K.s1;have hslf:=K.s2;have I_:=K.nd;have hl1:OK (s.heap.push (bJ #[] 0 (.fresh 0 0 (!cZ w)))):=K.kp _ _ hl λo e=>U0 _ e;have hh3:A.in1.in1.in1.handled=none:=by simp[hh]
    obtain⟨oI,St,i1,i2,i3,i4,i5⟩:=K.it A.in1.in1 (λe s'=>wants (λr z_=>r=.none/\∃h' tk ds,z_={s with heap:=h',toks:=tk}/\b9 vp w h' s.heap.objs.size md ds/\(∀d,d∈ds<->d∈ys)/\(∀b o,s.heap.get? b=some o->h'.get? b=some o)) E (.error e) s') {s with heap:=s.heap.push (bJ #[] 0 (.fresh 0 0 (!cZ w)))} (by simp[hh]) hl1;unfold Builtin.«set.__init__» noKeywords Builtin.Frozenset.updateFrom;generalize hPI:pyIter=PI
    wp_walk
    subst hPI;refine i2 _ ?_;refine UY (wpAny_runValue ?_);have hlS:l<s.heap.objs.size:=U6 hol;have hsz:(s.heap.push (bJ #[] 0 (.fresh 0 0 (!cZ w)))).objs.size=s.heap.objs.size+1:=V1 _ _;have hSf:s.heap.objs.size∉[(s.heap.push (bJ #[] 0 (.fresh 0 0 (!cZ w)))).objs.size,l]:=by rw[hsz];simp only[Vb,Vm,VH,Xq,not_or];exact(Vi (WK _),XC hlS)
    have hS0:s.heap.get? s.heap.objs.size=none:=by
     cases e:s.heap.get? s.heap.objs.size with
     |none=>rfl
     |some o=>exact absurd (U6 e) (VE _)
    refine JL (vp:=vp) (A:=A.in1.in1) (h0:=s.heap) (ys:=ys) (md:=md) (i3 A.in1.in1.in1 hh3) s.heap.objs.size hSf hlen #[1] (by show A.units+1+1+1+20<cLine;omega) (λi v hv=>?_) (λb o e hb=>?_) hS0 (λi h st b hb o e=>?_) (items.size-0) 0 _ [] rfl (Wr _) i4 (B9 (U0 _ hS) ?_) (λd=>by simp) (Wr _) (λb o e=>U0 _ (U0 _ e)) λh' tk ds g1 g2 g3=>?_
    ·obtain⟨d,bs,e1,e2⟩:=readsAll_get hr0 (i:=i) (by rw[Vw];exact hv);exact(d,e1,he d (Vs e1),hvp v (Vs (by rw[Vw];exact hv)),bs,e2)
    ·have:=U6 e;rw[Vm.mp hb]at this;have e2:(s.heap.push (bJ #[] 0 (.fresh 0 0 (!cZ w)))).objs.size<s.heap.objs.size:=this;rw[hsz]at e2;exact absurd e2 (Nat.not_lt.mpr (W5 _))
    ·exact i5 i h st o (by rw[Vm.mp hb]at e;exact e)
    ·cases cZ w
     ·exact .inl rfl
     ·exact .inr rfl
    ·refine UZ ?_;show wpAny _ _ (ret Value.none) _ _ _;exact UZ (rfl,h',tk,ds,rfl,g1,g2,g3)
   ·cases r₂ with
    |error e=>exact ZM
    |ok fl₂=>
     cases fl₂ with
     |ret r=>
      obtain⟨rfl,h',tk,ds,rfl,hS',Zu,hk'⟩:=ZM
      repeat (any_goals (first|assumption|wp_step))
      exact h _ _ _ hS' Zu hk'
     |_=>exact ZM.elim
  |_=>exact hr.elim
end
abbrev k9(v:Value)(i:Nat)(o:Value)(n ep:Nat):Obj:={cls:=.type "set_iterator",dict:=none,data:=.fields #[v,.int i 0,o,.int n 0,.int ep 0],slots:=#[]}
theorem wD:entryFor table "set.__iter__" = some Builtin.«frozenset.__iter__» := entryFor_alias (id' := "frozenset.__iter__") (by kernel_rfl) rfl (by decide +kernel) (by kernel_rfl)
theorem iu:entryFor table "set_iterator.__next__" = some Builtin.«set_iterator.__next__» := entryFor_of_tree (by rfl)
theorem cf:Slot "set_iterator" "__next__" "set_iterator.__next__" :=
 .of (by rfl) (by rfl) (by rfl) (by rfl)
  (by trivial) (by rfl)
theorem Ca:Manifest.owners.lookup (String.ofList ['r', 'o', 't', 'a', 'r', 'e', 't', 'i', '_', 't', 'e', 's'].reverse)=some Manifest.sig_set_iterator:=by rfl
theorem jc(a:Value):argsOk "set_iterator.__next__" ([a],[]):=by unfold argsOk;rw[signature?_of (id := "set_iterator.__next__") (n:=['_', '_', 't', 'x', 'e', 'n', '_', '_']) (o:=['r', 'o', 't', 'a', 'r', 'e', 't', 'i', '_', 't', 'e', 's']) (by rfl) Ca];rfl
section
variable {s:Zn}
theorem sR(hit:s.heap.get? I=some (k9 v i o n ep))(hk:k<5)
 (q:∀h',h'.get? I=some {cls:=.type "set_iterator",dict:=none,data:=.fields ((#[v,.int i 0,o,.int n 0,.int ep 0]:Zh).setIfInBounds k x),slots:=#[]}->Heap.SameBut I s.heap h'->Q () {s with heap:=h'}):wpAny (model P w) A (setField (.ref I) k x) Q E s:=by
 refine Ys hit rfl #[1] (q _ ?_ (WU ..));have:=Wi (Obj.mapFields (·.setIfInBounds k x)) hit (Yv (XA rfl _));rw[this];rfl
theorem gF(hit:s.heap.get? I=some (k9 v i o n ep)):s.TypeIs (.ref I) "set_iterator" := (_,hit,rfl)
theorem FP{B:Builtin->Prop}(hh:A.handled=none)(hQ:∀h',Heap.ExtBut I h0 h'->Q none {s with heap:=h'})(he:Heap.ExtBut I h0 s.heap) :
  wpAny (model P w) A.in1 (newExc (.type "StopIteration") [] >>= λe=>(raiseNew e:Sem PySem.Fin)) (λfin s'=>∃r,fin=.done (.ret r)/\wpAny (model P w) A (pure (some r)) Q E s') (λe s'=>wpAny (model P w) A (do if <- isInstance e (.type "StopIteration")then pure none else throw e) Q E s') s:=by
 refine UY ?_;simp only[newExc,newTuple];refine UY (VD ?_ (by size_fits));refine UY (m:=firstArgMember _ _) (W6 (a:=Value.none) (by first|rfl | (simp only[firstArgMember];rfl)) ?_);refine VD ?_ (by size_fits);simp only[raiseNew];refine UY (wpAny_handled ?_);rw[show A.in1.handled=none from hh];refine UY (UZ (wpAny_throw ?_));refine UY (WY (T := "StopIteration") (b:=true) (_,U5 _ rfl,rfl) isSubtype_stop ?_);exact UZ (hQ _ ((he.push _).push _))
end
section
variable {s:Zn}
variable {sl:Nat}
theorem uU{Q:PySem.Fin->Zn->Prop}{E':Y4}(hit:s.heap.get? I=some (k9 v i (.ref a) n ep))(ob:s.heap.get? a=some (bJ es ep t))(ft:t.fits es.size=true)(hn:es.size=n)
 (q:wpAny (model P w) A (match v with
   |.int slot _=>do
    match <- setNext a slot.toNat i ep with
    |some (x,next)=>
     setField (.ref I) 0 (rawInt next)
     setField (.ref I) 1 (rawInt ((i:Int)+1))
     ret x
    |none=>setField (.ref I) 2 .none;raiseNew (<- newExc (.type "StopIteration") [])
   |first=>do
    let some places <- seqItems? first|unsupported "internal:set_iterator"
    match places[i]? with
    |some (.int place _)=>
     let x <- setNextDrawn a place.toNat ep
     setField (.ref I) 1 (rawInt ((i:Int)+1))
     ret x
    |some _=>unsupported "internal:set_iterator"
    |none=>setField (.ref I) 0 (rawInt 0);setField (.ref I) 2 .none;raiseNew (<- newExc (.type "StopIteration") [])) Q E' s) :
  wpAny (model P w) A (Builtin.«set_iterator.__next__» ([.ref I],[])) Q E' s:=by
 unfold Builtin.«set_iterator.__next__»;refine UY (W6 (a:=(Value.ref I,[])) rfl ?_);dsimp only;refine UY (wpAny_fieldsOf hit rfl ?_);dsimp only;refine UY (YN ob rfl ft ?_);rw[if_neg (by simp[hn])];simp only[Wx];cases v<;>exact q
theorem Cb(hit:s.heap.get? I=some (k9 (.int sl 0) i (.ref a) n ep))(ob:s.heap.get? a=some (bJ es ep t))(ft:t.fits es.size=true)(hn:es.size=n)
 (hs:∀(A':Zm) (Q':Option (Value×Nat)->Zn->Prop) (E':Y4),Q' (some (x,nx)) s->wpAny (model P w) A' (setNext a sl i ep) Q' E' s)
 (q:∀h',h'.get? I=some (k9 (.int nx 0) (i+1) (.ref a) n ep)->Heap.SameBut I s.heap h'->Q (some x) {s with heap:=h'}):wpAny (model P w) A (pyNext (.ref I)) Q E s:=by
 refine UY (Xp (VA (gF hit) cf (Vt cf (gF hit) iu ?_ (jc _))));refine uU hit ob ft hn ?_;refine UY (hs _ _ _ ?_);refine UY (sR hit #[1] λh1 g1 b1=>?_);have g1'  := g1;refine UY (sR g1' #[1] λh2 g2 b2=>?_);exact UZ (_,rfl,UZ (q h2 g2 (b1.trans b2)))
theorem FQ(hh:A.handled=none)(hit:s.heap.get? I=some (k9 (.int sl 0) i (.ref a) n ep))(ob:s.heap.get? a=some (bJ es ep t))(ft:t.fits es.size=true)(hn:es.size=n)
 (hs:∀(A':Zm) (Q':Option (Value×Nat)->Zn->Prop) (E':Y4),Q' none s->wpAny (model P w) A' (setNext a sl i ep) Q' E' s)
 (q:∀h',Heap.ExtBut I s.heap h'->Q none {s with heap:=h'}):wpAny (model P w) A (pyNext (.ref I)) Q E s:=by
 refine UY (Xp (VA (gF hit) cf (Vt cf (gF hit) iu ?_ (jc _))));refine uU hit ob ft hn ?_;refine UY (hs _ _ _ ?_);refine UY (sR hit #[1] λh1 g1 b1=>?_);exact FP (B:=λ_=>True) hh q b1.extBut
theorem JM{place:Nat}(hit:s.heap.get? I=some (k9 (.ref T) i (.ref a) n ep))(ob:s.heap.get? a=some (bJ es ep t))(ft:t.fits es.size=true)(hn:es.size=n)(hT:s.heap.IsTuple T pl)(hp:pl[i]?=some (rawInt place))(hx:es[place]?=some x)
 (q:∀h',h'.get? I=some (k9 (.ref T) (i+1) (.ref a) n ep)->Heap.SameBut I s.heap h'->Q (some x.2) {s with heap:=h'}):wpAny (model P w) A (pyNext (.ref I)) Q E s:=by
 unfold pyNext;refine UY (Xp (VA (name:=Str.ofString "__next__") (gF hit) cf (Vt cf (gF hit) iu ?_ (jc _))));refine uU hit ob ft hn ?_;dsimp only;obtain⟨oT,gT,cT,nT,dT⟩:=hT;refine UY (V6 gT dT ?_);dsimp only;rw[hp];show wpAny _ _ (setNextDrawn a (Int.toNat (place:Nat)) ep >>= _) _ _ _;rw[Wx];unfold setNextDrawn;refine UY (UY (cb ob ft ?_));dsimp only;rw[if_neg (by simp),hx];refine UZ ?_;refine UY (sR hit #[1] λh1 g1 b1=>?_);exact UZ (_,rfl,UZ (q h1 g1 b1))
theorem Mw(hh:A.handled=none)(hit:s.heap.get? I=some (k9 (.ref T) i (.ref a) n ep))(ob:s.heap.get? a=some (bJ es ep t))(ft:t.fits es.size=true)(hn:es.size=n)(hT:s.heap.IsTuple T pl)(hp:pl[i]?=none)
 (q:∀h',Heap.ExtBut I s.heap h'->Q none {s with heap:=h'}):wpAny (model P w) A (pyNext (.ref I)) Q E s:=by
 refine UY (Xp (VA (name:=Str.ofString "__next__") (gF hit) cf (Vt cf (gF hit) iu ?_ (jc _))));refine uU hit ob ft hn ?_;obtain⟨oT,gT,cT,nT,dT⟩:=hT;refine UY (V6 gT dT ?_);dsimp only;rw[hp];refine UY (sR hit #[1] λh1 g1 b1=>?_);have g1':h1.get? I=some (k9 (rawInt 0) i (.ref a) n ep):=g1;refine UY (sR (s:={s with heap:=h1}) g1' #[1] λh2 g2 b2=>?_);exact FP (s:={s with heap:=h2}) (h0:=s.heap) (B:=λ_=>True) hh q (b1.trans b2).extBut
theorem ze(ob:s.heap.get? a=some (bJ es ep t))(ft:t.fits es.size=true)(hb:cZ w=true)(hL:L=pickOrder (w.params.setOrder a ep) es)(h:Q ((L[i]?).map λe=>(e.2,sl)) s):wpAny (model P w) A (setNext a sl i ep) Q E s:=by unfold setNext;refine UY (cb ob ft ?_);dsimp only;refine UY (hV ?_);rw[if_pos hb,if_neg (by simp)];unfold setWalk;refine UY (UY (cb ob ft ?_));dsimp only;refine UY (hV ?_);rw[if_pos hb];refine UY (XU (UZ (UZ ?_)));rw[hL]at h;exact h
theorem wG(ob:s.heap.get? a=some (bJ es ep t))(ft:t.fits es.size=true)(hb:cZ w=false)(hd:(!t.plain&&decide (es.size>1))=false)(hl:t.led=true)
 (h:Q (match es[SetTable.below t.place sl]?,t.place[SetTable.below t.place sl]? with|some (_,x),some j=>some (x,j+1)|_,_=>none) s):wpAny (model P w) A (setNext a sl i ep) Q E s:=by
 unfold setNext;refine UY (cb ob ft ?_);dsimp only;refine UY (hV ?_);rw[if_neg (by rw[hb];simp)];refine VM (λz=>absurd z (by show ¬ (!t.plain&&decide (es.size>1))=true;rw[hd];simp)) λ_=>?_;refine UY (m:=(if(!t.led && !es.isEmpty)=true then unsupported "set:maker-not-led" else pure ())) ?_;rw[hl];simp only[WC,XQ,Vc,VQ];exact UZ (UZ h)
end
theorem fo:Slot "set_iterator" "__iter__" "set_iterator.__iter__" :=
 .of (by rfl) (by rfl) (by rfl) (by rfl)
  (by trivial) (by rfl)
theorem kF:entryFor table "set_iterator.__iter__" = some Builtin.«dict_keyiterator.__iter__» := entryFor_alias (id' := "dict_keyiterator.__iter__") (by kernel_rfl) rfl (by decide +kernel) (by kernel_rfl)
theorem mr(a:Value):argsOk "set_iterator.__iter__" ([a],[]):=by unfold argsOk;rw[signature?_of (id := "set_iterator.__iter__") (n:=['_', '_', 'r', 'e', 't', 'i', '_', '_']) (o:=['r', 'o', 't', 'a', 'r', 'e', 't', 'i', '_', 't', 'e', 's']) (by kernel_rfl) Ca];rfl
def slotAt(place:Zi):Nat->Nat
 |0=>0
 |i+1=>place.getD i 0+1
theorem wH(r:pY xs):∀i,i<=xs.size->SetTable.below xs (slotAt xs i)=i
 |0,_=>by
  obtain⟨a,_,c⟩:=jy r (slotAt xs 0);apply VJ;intro z;have h0:0<SetTable.below xs (slotAt xs 0):=by omega
  have:=a 0 #[1] h0
  grind[slotAt]
 |i+1,h=>by
  have hi:i<xs.size:=by omega
  have e:slotAt xs (i+1)=xs[i]+1:=by simp[slotAt,Array.getD,hi]
  rw[e];obtain⟨a,b,c⟩:=jy r (xs[i]+1);apply VJ;intro z;by_cases h1:SetTable.below xs (xs[i]+1)<=i
  ·have:=b i hi h1;omega
  ·have h2:i+1<SetTable.below xs (xs[i]+1):=by omega
   have h3:i+1<xs.size:=by omega
   have:=a (i+1) h3 h2;have:=uR r (i:=i) (k:=i+1) #[1] h3;omega
section
theorem Ao{Q:Y4}(hT:s.TypeIs (.ref I) "set_iterator")(h:Q (.ref I) s):wpAny (model P w) A (Builtin.«dict_keyiterator.__iter__» ([.ref I],[])) (λfin s'=>∃v,fin=.done (.ret v)/\∃T' r,s'.TypeIs v T'/\typeLookup (.type T') (Str.ofString "__next__")=pure (some r)/\Q v s') E s:=UZ (_,rfl, "set_iterator",_,hT,cf.lookup,h)
noncomputable def Mx(P:Zj)(w:World)(s:Zn)(a:Addr)(es:Y7)(Q:Y4):Prop:=
 ∀(L:List (Int×Value)) (I:Addr) (h':Heap) (dr:Drawn) (fp:Za) (St:Nat->Heap->Prop),List.Perm L es.toList->(∀b∈fp,b<h'.objs.size)->I∈fp->(∀b∈fp,b=a\/s.heap.objs.size<=b)->s.heap.objs.size<=I->(∀b o,s.heap.get? b=some o->h'.get? b=some o) ->
  (∀A':Zm,A'.handled=none->Walks P w A' I fp [I] L.length (λi v=>∃e,L[i]?=some e/\v=e.2) St)->St 0 h'->Q (.ref I) {s with heap:=h',drawn:=dr}
theorem JN(S:cK vp w s.heap a md ds es ep t)(q:Mx P w s a es Q):wpAny (model P w) A (pyIter (.ref a)) Q E s:=by
 have hT:s.TypeIs (.ref a) "set" := (_,S.ob,rfl);have hes:=S.size;have hln:=S.ln;have la:a<s.heap.objs.size:=U6 S.ob;refine XJ hT F.slot_set_iter (Vt F.slot_set_iter hT wD ?_ (F.args_set_iter_1 _));unfold Builtin.«frozenset.__iter__»;refine UY (W6 (a:=a) rfl ?_);unfold Builtin.Frozenset.sizeOf;refine UY (UY (YN S.ob rfl S.tb.fits (UZ ?_)));unfold setDrawn;refine UY (UY (cb S.ob S.tb.fits ?_));dsimp only;refine UY (hV (UZ ?_));have fits:=S.tb.fits;by_cases hd:(!cZ w&&(!t.plain&&decide (es.size>1)))=true
 ·
  refine VM (λ_=>?_) λz=>absurd hd z;refine UY (Am es.size (List.range es.size) s _ (by simp) λidx dr p=>?_);have U_:idx.length=es.size:=by have:=p.length_eq;simpa using this
  refine UY (wpAny_newTuple (hsz:=by rw[Ve,U_,WI];omega) ?_);refine UY (Xk (s:={s with heap:=s.heap.push _,drawn:=dr}) (U0 _ S.ob) rfl fits ?_);refine UY (VD (UZ (_,rfl, "set_iterator",_,(_,U5 _ rfl,rfl),cf.lookup,?_)));generalize hob:({cls:=.type "tuple",data:=.seq (idx.map λ(i:Nat)=>rawInt i).toArray}:Obj)=oT;have hsz:(s.heap.push oT).objs.size=s.heap.objs.size+1:=V1 _ _;have Re:∀k∈idx,k<es.size:=λk hk=>VI.mp (p.mem_iff.mp hk);have hget:∀i k,idx[i]?=some k->∃e,es[k]?=some e:=λi k e=>(_,Vk (Re k (Vs e)));obtain⟨g1,g2⟩:=D5 (es:=es) (l:=idx.map λk=>(0,k)) (λp hp=>by obtain⟨k,hk,rfl⟩:=Vl.mp hp;exact Re k hk);have em:(idx.map λk=>Prod.mk (0:Nat) k).map (·.2)=idx:=by rw[X2];exact YZ idx
  rw[em]at g1 g2;have hLp:List.Perm (idx.filterMap λk=>es[k]?) es.toList:=(p.filterMap _).trans (by rw[filterMap_getElem?_range]);have hLn:(idx.filterMap λk=>es[k]?).length=es.size:=by rw[hLp.length_eq];simp
  refine q (idx.filterMap λk=>es[k]?) (s.heap.push oT).objs.size _ dr [(s.heap.push oT).objs.size,s.heap.objs.size,a] (λi h=>h.get? (s.heap.push oT).objs.size=some (k9 (.ref s.heap.objs.size) i (.ref a) es.size ep)/\h.IsTuple s.heap.objs.size (idx.map λ(i:Nat)=>rawInt i).toArray/\h.get? a=some (bJ es ep t)) hLp (λb hb=>?_) (Vj ..) (λb hb=>by simp only[Vb,VH,Xq]at hb;rcases hb with rfl|rfl|rfl;exact .inr (by rw[hsz];exact W5 _);exact .inr (U4 _);exact .inl rfl) (by rw[hsz];exact W5 _) (λb o e=>U0 _ (U0 _ e)) (λA' hh=>?_) (?_,?_,?_)
  ·rw[V1,hsz];simp only[Vb,VH,Xq]at hb;rcases hb with rfl|rfl|rfl
   ·rw[hsz];exact WK _
   ·exact Vf (WK _) (W5 _)
   ·exact Vf la #[1]
  ·have n1:s.heap.objs.size≠(s.heap.push oT).objs.size:=by rw[hsz];exact Vi (WK _)
   have n2:a≠(s.heap.push oT).objs.size:=by rw[hsz];exact Vi (Wy la)
   refine(λb hb=>by simp at hb;simp[hb],by rintro i h h' ⟨x1,⟨o,x2,x3⟩,x4⟩ k;exact(k _ (by simp) _ x1,(o,k _ (by simp) _ x2,x3),k _ (by simp) _ x4),λi s' Q' E' hi ⟨x1,x2,x3⟩ hQ=>?_,λs' Q' E' ⟨x1,x2,x3⟩ hQ=>?_,λi s' Q' E' ⟨x1,_,_⟩ hQ=>?_)
   ·rw[hLn]at hi;have hi2:i<idx.length:=by omega
    have ek:=Va hi2;obtain⟨e,he⟩:=hget i _ ek;refine JM (x:=e) x1 x3 fits rfl x2 (place:=idx[i]) (by simp[ek]) he λh' y1 sb=>hQ e.2 h' s'.toks (e,?_,rfl) (y1,?_,(sb.2 a n2).trans x3) λb o hb eo=>(sb.2 b λz=>hb (by simp[z])).trans eo
    ·rw[g2 i (0,idx[i]) (by simp[ek])];exact he
    ·obtain⟨o,x2,x4⟩:=x2;exact(o,(sb.2 _ n1).trans x2,x4)
   ·rw[hLn]at x1;refine Mw hh x1 x3 fits rfl x2 (by simp;omega) λh' eb=>hQ h' s'.toks λb o hb eo=>eb b o (λz=>hb (by simp[z])) eo
   ·have SB:s'.TypeIs (.ref (s.heap.push oT).objs.size) "set_iterator" := gF x1;exact XJ SB fo (Vt fo SB kF (Ao SB hQ) (mr _))
  ·exact U5 _ rfl
  ·subst hob;exact(_,U0 _ (U5 _ rfl),rfl,_,rfl)
  ·exact U0 _ (U0 _ S.ob)
 ·refine VM (λz=>absurd z hd) λ_=>?_;refine UY (UZ ?_);refine UY (Xk S.ob rfl fits ?_);refine UY (VD (UZ (_,rfl, "set_iterator",_,(_,U5 _ rfl,rfl),cf.lookup,?_)));have na:a≠s.heap.objs.size:=Vi la;by_cases hb:cZ w=true
  ·
   have pk:=zc (w.params.setOrder a ep) es;have pkn:(pickOrder (w.params.setOrder a ep) es).toList.length=es.size:=by rw[pk.length_eq];simp
   refine q (pickOrder (w.params.setOrder a ep) es).toList s.heap.objs.size _ s.drawn [s.heap.objs.size,a] (λi h=>h.get? s.heap.objs.size=some (k9 (.int ((0:Nat):Int) 0) i (.ref a) es.size ep)/\h.get? a=some (bJ es ep t)) pk (λb hb=>?_) (Vj ..) (λb hb=>by simp only[Vb,VH,Xq]at hb;rcases hb with rfl|rfl;exact .inr (U4 _);exact .inl rfl) (U4 _) (λb o e=>U0 _ e) (λA' hh=>?_) (U5 _ rfl,U0 _ S.ob)
   ·rw[V1];simp only[Vb,VH,Xq]at hb;rcases hb with rfl|rfl
    ·exact WK _
    ·exact Wy la
   ·refine(λb hb=>by simp at hb;simp[hb],by rintro i h h' ⟨x1,x4⟩ k;exact⟨k _ (by simp) _ x1,k _ (by simp) _ x4⟩,λi s' Q' E' hi ⟨x1,x3⟩ hQ=>?_,λs' Q' E' ⟨x1,x3⟩ hQ=>?_,λi s' Q' E' ⟨x1,_⟩ hQ=>?_)
    ·have ek:=Va hi;generalize (pickOrder (w.params.setOrder a ep) es).toList[i]=e at ek;refine Cb (x:=e.2) (nx:=0) x1 x3 fits rfl (λA2 Q2 E2 h2=>ze x3 fits hb rfl ?_) λh' y1 sb=>hQ e.2 h' s'.toks (e,ek,rfl) (y1,(sb.2 a na).trans x3) λb o hb eo=>(sb.2 b λz=>hb (by simp[z])).trans eo;rw[<- Vw,ek];exact h2
    ·refine FQ hh x1 x3 fits rfl (λA2 Q2 E2 h2=>ze x3 fits hb rfl ?_) λh' eb=>hQ h' s'.toks λb o hb eo=>eb b o (λz=>hb (by simp[z])) eo;rw[<- Vw,List.getElem?_eq_none (U4 _)];exact h2
    ·have SB:s'.TypeIs (.ref s.heap.objs.size) "set_iterator" := gF x1;exact XJ SB fo (Vt fo SB kF (Ao SB hQ) (mr _))
  ·
   have R_:cZ w=false:=by simpa using hb
   have hd':(!t.plain&&decide (es.size>1))=false:=by rw[R_]at hd;simpa using hd
   have hled:t.led=true:=by
    rcases S.ld with z|z
    ·exact z
    ·exact absurd z hb
   have hps:t.place.size=es.size:=S.tb.sz;refine q es.toList s.heap.objs.size _ s.drawn [s.heap.objs.size,a] (λi h=>h.get? s.heap.objs.size=some (k9 (.int ((slotAt t.place i:Nat):Int) 0) i (.ref a) es.size ep)/\h.get? a=some (bJ es ep t)) (.refl _) (λb hb=>?_) (Vj ..) (λb hb=>by simp only[Vb,VH,Xq]at hb;rcases hb with rfl|rfl;exact .inr (U4 _);exact .inl rfl) (U4 _) (λb o e=>U0 _ e) (λA' hh=>?_) (U5 _ rfl,U0 _ S.ob)
   ·rw[V1];simp only[Vb,VH,Xq]at hb;rcases hb with rfl|rfl
    ·exact WK _
    ·exact Wy la
   ·refine(λb hb=>by simp at hb;simp[hb],by rintro i h h' ⟨x1,x4⟩ k;exact⟨k _ (by simp) _ x1,k _ (by simp) _ x4⟩,λi s' Q' E' hi ⟨x1,x3⟩ hQ=>?_,λs' Q' E' ⟨x1,x3⟩ hQ=>?_,λi s' Q' E' ⟨x1,_⟩ hQ=>?_)
    ·have Do:i<es.size:=by simpa using hi
     have ek:=Vk Do;have P3:=Vk (show i<t.place.size by omega);refine Cb (x:=es[i].2) (nx:=slotAt t.place (i+1)) x1 x3 fits rfl (λA2 Q2 E2 h2=>wG x3 fits R_ hd' hled ?_) λh' y1 sb=>hQ es[i].2 h' s'.toks (es[i],by rw[Vw];exact ek,rfl) (y1,(sb.2 a na).trans x3) λb o hb eo=>(sb.2 b λz=>hb (by simp[z])).trans eo;rw[wH S.tb.rp i #[1],ek,P3];have:slotAt t.place (i+1)=t.place[i]'#[1]+1:=by simp[slotAt,Array.getD,show i<t.place.size by omega]
     rw[this]at h2;exact h2
    ·have hl:es.toList.length=es.size:=by simp
     rw[hl]at x1;refine FQ hh x1 x3 fits rfl (λA2 Q2 E2 h2=>wG x3 fits R_ hd' hled ?_) λh' eb=>hQ h' s'.toks λb o hb eo=>eb b o (λz=>hb (by simp[z])) eo;rw[wH S.tb.rp es.size #[1],Yd (U4 _)];exact h2
    ·have SB:s'.TypeIs (.ref s.heap.objs.size) "set_iterator" := gF x1;exact XJ SB fo (Vt fo SB kF (Ao SB hQ) (mr _))
end
section
theorem JO(hT:s.TypeIs (.ref r) "set")(h:Q false s):wpAny (model P w) A (Builtin.List.listLengthHint (.ref r)) Q E s:=by
 unfold Builtin.List.listLengthHint;refine UY (WE hT PySem.F.slot_set_len.lookup ?_);generalize xW:("set.__len__" : String)=id0
 wp_delta
 rw[show splitId id0=some ("set", "__len__")from by subst xW;decide +kernel];subst xW;refine UY (WY (T := "set") (b:=true) hT sub_set_self ?_);refine VM (λhab=>absurd hab (by decide)) (λ_=>?_);refine VM (λ_=>?_) (λhab=>absurd (by decide +kernel) hab);refine UY (X1 hT ?_);exact UZ h
theorem Cc(S:cK vp w s.heap a md ds es ep t)(hh:A.handled=none)
 (q:∀(L:List (Int×Value)) h' dr tk,s.heap.objs.size<h'.objs.size->List.Perm L es.toList->(∀b o,s.heap.get? b=some o->h'.get? b=some o)->Q (L.map (·.2)) {s with heap:=h',drawn:=dr,toks:=tk}):wpAny (model P w) A (collect (.ref a)) Q E s:=by
 have hes:=S.size;have hln:=S.ln;unfold collect;refine UY (wpAny_runValue (XF F.entry_proto_collect ?_));rw[Xa F.plain_proto_collect _];show wpAny _ A.in1 (newList [] >>= λl=>again (.builtin "list.__iadd__" ([l,.ref a],[]))) _ _ s;refine UY (VD ?_);refine UZ (YG F.plain_list_iadd _,XF F.entry_list_iadd ?_);rw[Xa F.plain_list_iadd _];have hS₁:(s.heap.push {cls:=.type "list",data:=.seq ([]:Zb).toArray}).get? s.heap.objs.size=some {cls:=.type "list",data:=.seq ([]:Zb).toArray}:=U5 _ rfl;have la:=U6 S.ob;have h1:Builtin.List.listSameRef (.ref s.heap.objs.size) (.ref a)=false:=by simp[Builtin.List.listSameRef,XC la]
 have S1:cK vp w (s.heap.push {cls:=.type "list",data:=.seq ([]:Zb).toArray}) a md ds es ep t:=S.keep λb o e=>U0 _ e;show wpAny _ A.in1 (Builtin.List.listExtendWith (.ref s.heap.objs.size) (.ref a) (.ref s.heap.objs.size)) _ _ _;unfold Builtin.List.listExtendWith;refine UY (X1 (T := "set") (_,S1.ob,rfl) ?_);rw[if_neg (by rw[h1];decide)];refine UY (JN (s:={s with heap:=s.heap.push {cls:=.type "list",data:=.seq ([]:Zb).toArray}}) S1 λL I h' dr fp St p f1 f2 f5 f3 f4 W st=>?_);have hS2:=f4 _ _ hS₁;refine UY (VB (JO (s:={s with heap:=h',drawn:=dr}) (_,f4 _ _ S1.ob,rfl) ?_));rw[if_pos (by decide)];have hLn:L.length=es.size:=by rw[p.length_eq];simp
 have hSf:s.heap.objs.size∉fp:=λhm=>by
  rcases f5 _ hm with z|z
  ·exact absurd la (by rw[<- z];exact VE _)
  ·have z':(s.heap.push {cls:=.type "list",data:=.seq ([]:Zb).toArray}).objs.size<=s.heap.objs.size:=z;rw[V1]at z';exact absurd z' (Nat.not_le.mpr (WK _))
 refine UY (WG ?_);refine UY ?_;show wpAny _ _ (updateSeq s.heap.objs.size (·.push .none) >>= λ_=>updateSeq s.heap.objs.size (·.pop)) _ _ _;refine UY (wpAny_updateSeq hS2 rfl ?_);have hS3:=Wi (Obj.mapSeq (·.push Value.none)) hS2 rfl;refine wpAny_updateSeq (hz:=by seq_fits) hS3 rfl ?_;have hS4:=Wi (Obj.mapSeq (·.pop)) hS3 rfl;have oth:∀b o,b≠s.heap.objs.size->h'.get? b=some o->((h'.update s.heap.objs.size (Obj.mapSeq (·.push Value.none))).update s.heap.objs.size (Obj.mapSeq (·.pop))).get? b=some o:=λb o hb e=>(Xw _ _ (X4 hb)).trans ((Xw _ _ (X4 hb)).trans e);have FB:=(W A.in1 hh).frame 0 _ _ st λb hb o e=>oth b o (λz=>hSf (z▸hb)) e;refine UZ (YG F.plain_extend_loop _,codeAny_extend_loopS (W A.in1 hh).toS (by rw[hLn,WI];omega) _ hSf _ L.length 0 _ _ _ rfl (Wr _) FB hS4 (ItemsOf.nil _) λs' K_ c' hm hS' KM=>?_);show wpAny _ A (load s.heap.objs.size >>= _) _ _ s';refine UY (Yf hS' ?_);refine UZ ?_
 have e1:K_.toList=L.map (·.2):=by
  apply List.ext_getElem?;intro j;rw[Vw,VS];by_cases hj:j<K_.size
  ·obtain⟨e,he,hv⟩:=KM.2 j K_[j] (Vk hj);rw[Vk hj,he,hv];rfl
  ·rw[Yd #[1],List.getElem?_eq_none (by rw[<- KM.1];omega)];rfl
 rw[e1];obtain⟨Z7,g2,d2,tk2,os2⟩:=s';have eg:g2=s.gens:=hm.gens;have ed:d2=dr:=hm.drawn;have eo:os2=s.os:=hm.os;subst eg;subst ed;subst eo;refine q L Z7 d2 tk2 (U6 hS') p λb o e=>hm.heap b o (λz=>?_) (oth b o (Vi (U6 e)) (f4 _ _ (U0 _ e)));have lb:=U6 e;rcases Vb.mp z with z|z
 ·rw[z]at lb;exact VE _ lb
 ·rw[Vm.mp z]at lb;have f3':(s.heap.push {cls:=.type "list",data:=.seq ([]:Zb).toArray}).objs.size<=I:=f3;rw[V1]at f3';exact absurd (Vf lb (Nat.le_of_succ_le f3')) (VE _)
end
theorem tU:∀{vs:Zb} {ds:Y9},Paired (λv d=>∃as,Reads h v d as) vs ds->∃as,ReadsAll h vs ds as
 |_,_,.nil=>(_,.nil)
 |_,_,.cons (_,r) t=>by obtain⟨_,q⟩:=tU t;exact(_,.cons r q)
theorem pb(r:ReadsAll h vs ds as):∀(p:List Nat),(∀i∈p,i<vs.length)->∃bs,ReadsAll h (p.map λi=>vs.getD i .none) (p.map λi=>ds.getD i .none) bs
 | [],_=>(_,.nil)
 |i::p,hp=>by
  have hi:=hp i (Vj ..);obtain⟨bs,q⟩:=pb r p λj hj=>hp j (U2 _ hj);obtain⟨d,cs,e1,e2⟩:=readsAll_get r (Va hi);refine(_,.cons (as:=cs) ?_ q)
  simp_all
section
theorem Cd(p:List.Perm ds es)(h:eG ds=true):eG es=true:=by
 unfold eG at h ⊢;rw[Vg]at h ⊢;intro a ha;have:=h a (p.mem_iff.mpr ha);rw[Vg]at this ⊢
 grind
theorem Ce{f:PyData->Bool}(p:List.Perm ds es)(h:ds.all f=true):es.all f=true:=by
 rw[Vg]at h ⊢
 grind
theorem gG:∀{ds:Y9} {n:Nat},PyData.depthAll ds<=n<->∀d∈ds,d.depth<=n
 | [],n=>by simp[PyData.depthAll]
 |d::ds,n=>by simp[PyData.depthAll];rw[<- gG];omega
theorem zf:aI ds=true<->∀d∈ds,au d=true:=(λh d m=>bF h m,j4)
theorem D8(S:b9 vp w s.heap a md ds)(hh:A.handled=none)(pz:List.Perm ds zs)(ok:eY zs=true)(hu:A.units+60<cLine)
 (q:∀h' dr tk p us e,s.heap.objs.size<=p->(∀b o,s.heap.get? b=some o->h'.get? b=some o)->h'.get? p=some (PyProof.Rows.seqObj "list" (us:Zb).toArray e)->(∃as,ReadsAll h' us (cQ ltB zs) as)->(∀u∈us,vp u)->Q (.ref p) {s with heap:=h',drawn:=dr,toks:=tk}):wpAny (model P w) A (call (.builtin "sorted") [.ref a]) Q E s:=by
 obtain⟨es,ep,t,S⟩:=S;simp only[eY,U1,Vy,Wc]at ok;obtain⟨⟨⟨⟨kd,tr⟩,cm⟩,dp⟩,h64⟩:=ok;refine Calls.call_function_entry PyProof.Rows.kind_sorted PyProof.Rows.plain_sorted PyProof.Rows.entry_sorted (PyProof.Rows.args_sorted1 _) ?_;unfold Builtin.«sorted»;refine UY (m:=checkCount "sorted" 1 1 _) (UZ ?_);refine UY (Cc S (by simp[hh]) λL h1 dr tk sz1 pL k1=>?_);obtain⟨Wp,p1,e1⟩:=iJ pL.symm S.el;have pd:List.Perm Wp zs:=p1.symm.trans pz;have hLd:L.length=Wp.length:=Vo e1;have hdz:Wp.length=zs.length:=pd.length_eq;generalize hvs:L.map (·.2)=vs;have hvl:vs.length=zs.length:=by rw[<- hvs,Ve,hLd,hdz]
 obtain⟨as,ra⟩:∃as,ReadsAll h1 vs Wp as:=by
  refine tU ?_;rw[<- hvs]
  have:∀{l:List (Int×Value)} {ys:Y9},Paired (El vp w s.heap md) l ys->Paired (λv d=>∃as,Reads h1 v d as) (l.map (·.2)) ys:=by
   intro l ys h
   induction h with
   |nil=>exact .nil
   |cons r _ ih=>exact .cons (by obtain⟨as,x⟩:=r.rd;exact(as,kS (λb o _ _ e _ _=>k1 b o e) r.tr x)) ih
  exact this e1
 refine UY (wpAny_newList (hsz:=by rw[hvl,WI];omega) ?_);have hoL:(h1.push (PyProof.Rows.seqObj "list" vs.toArray 0)).get? h1.objs.size=some (PyProof.Rows.seqObj "list" vs.toArray 0):=U5 _ rfl;have tr1:aI Wp=true:=zf.mpr λd m=>zf.mp tr d (pd.mem_iff.mp m);have cm1:=Cd pd.symm cm;have O:=Rx (jf cm1 tr1);rw[hdz,<- hvl]at O;refine UY (VB (Vt PyProof.Rows.slot_list_sort (_,hoL,rfl) PyProof.Rows.entry_list_sort (PySem.W.o3 hoL O #[1] (λh' k h2=>?_) λp a1 a2=>(_,rfl,?_)) (PyProof.Rows.args_list_sort _)))
 ·have ra':ReadsAll h' vs Wp as:=VU (λb o e=>k b o (Vi (U6 e)) (U0 _ e)) ra
  have la:PyData.canLayAll0 Wp=true:=qI (bM.mpr λd m=>by
   obtain⟨i,hi⟩:=V2 m;obtain⟨e,_,x⟩:=km e1 hi
   exact x.so) (ja tr1)
  rcases kd with kd|kd
  ·exact yL (s:={s with heap:=h',drawn:=dr,toks:=tk}) ra' (Ce pd.symm kd) h2
  ·exact yK (s:={s with heap:=h',drawn:=dr,toks:=tk}) (by show A.units+1+1+41<cLine;omega) ra' (Ce pd.symm kd) tr1 cm1 la (gG.mpr λd m=>gG.mp dp d (pd.mem_iff.mp m)) #[1]
 ·obtain⟨e,he⟩:=PyProof.Rows.sortedHeap_at (out:=(p.toList.map λi=>vs.getD i Value.none).toArray) hoL;have kp:∀b o,h1.get? b=some o->(PyProof.Rows.sortedHeap (h1.push (PyProof.Rows.seqObj "list" vs.toArray 0)) h1.objs.size vs (p.toList.map λi=>vs.getD i Value.none).toArray).get? b=some o:=λb o eb=>by rw[PyProof.Rows.sortedHeap_old (Vi (U6 eb)) (by rw[V1];exact Wy (U6 eb))];exact U0 _ eb
  have Re:∀i∈p.toList,i<vs.length:=λi hi=>VI.mp (a1.perm.mem_iff.mp hi);obtain⟨bs,rb⟩:=pb ra p.toList Re
  have e1':(p.toList.map λi=>Wp.getD i .none)=cQ ltB zs:=by
   refine Bt cm tr ?_ ?_
   ·have:=a1.perm.map (λi=>Wp.getD i .none);rw[hvl,<- hdz,lR]at this;exact this.trans pd
   ·have hlp:p.toList.length=vs.length:=by rw[a1.perm.length_eq,Yk]
    unfold Up;rw[Yl,W7];intro i j hi hj J_;have x1:PySem.W.pat p i=p.toList[i]:=by simp only[V0]at hi;rw[PySem.W.m8,Y3 p i hi];simp
    have x2:PySem.W.pat p j=p.toList[j]:=by simp only[V0]at hj;rw[PySem.W.m8,Y3 p j hj];simp
    have:=a2 i j J_ #[1];rw[x1,x2]at this;exact this
  rw[e1']at rb;refine UZ (_,rfl,q _ dr tk h1.objs.size (p.toList.map λi=>vs.getD i Value.none) e (Yt sz1) (λb o eb=>kp b o (k1 b o eb)) he (bs,VU kp rb) λu hu=>?_);obtain⟨i,hi,rfl⟩:=Vl.mp hu;have U_:=Re i hi;have eu:vs.getD i Value.none=vs[i]:=by simp[U_]
  have ZJ:vs[i]∈L.map (·.2):=by rw[hvs];exact Y0 U_
  obtain⟨e',ZX,e2⟩:=Vl.mp ZJ;obtain⟨j,hj⟩:=V2 ZX;obtain⟨d',_,x⟩:=fX e1 hj;rw[eu,<- e2];exact x.vl
end
end RP
namespace Ml
open PySem PySem.Spec L2 RP
theorem _root_.L2.Inv.dr{σ:St}(I:L2.Inv X pins σ H s)(dr:Drawn):L2.Inv X pins σ H {s with drawn:=dr}:=(I.ok,I.os,I.bare,I.base,I.loc,I.cell,I.free,I.freeC,I.pin,I.hok,I.len)
structure JP(X:Cx)(M:Hp)(s:Zn)(b:Addr)(ds:Y9)(vs:List V)(a_:Zb):Prop where
 src:∃T OK,Src X.prog X.w T b a_.toArray OK/\OK s.heap
 rep:bu M ds vs
 val:Vals vs a_
 so:cF ds=true
theorem Ap{σ:St}(I:L2.Inv X pins σ H s)(w:W X.G θ hm H)(r:ck X.G θ H d v)(e:f6 d hm=some ds) :
  ∃b vs a_,v=.ref b/\JP X (view θ H) s b ds vs a_:=by
 have tup:∀(b:Addr) (vs:List V),v=.ref b->i8 X.K H b vs->bu _ ds vs->cF ds=true->∃b vs a_,v=.ref b/\JP X (view θ H) s b ds vs a_:=λb vs e1 e2 e3 e4=>by obtain⟨a_,rv,pl,_⟩:=I.tuple e2;exact(b,vs,a_,e1,("tuple",_,src_tuple b a_.toArray,pl),e3,rv,e4)
 have hs:=e;unfold f6 at hs;split at hs
 ·cases hs;obtain⟨⟨b,vs,rfl,hb,rr⟩,so⟩:=r;exact tup b vs rfl (.inl (.inl (ax _ _ _ _ hb))) rr (by assumption)
 ·cases hs;obtain⟨b,rfl,⟨o,a_,n,k1,k2,k3,k4,k5⟩,k6,k7⟩:=r;refine tup b _ rfl (.inr (o,a_,n,k1,k2,k3,k4,k5)) (oE (vX (G:=X.G) k6 k7) (oC _)).1 k7
 ·obtain⟨b,vs,rfl,hb,rr,so⟩:=qS w r hs;obtain⟨a_,n,rv,eo,hz⟩:=I.lst hb;exact(b,vs,a_,rfl,("list",_,src_list b a_.toArray,(_,eo,rfl,n,rfl)),rr,rv,so)
theorem wI(rp:bu M ds vs)(rv:Vals vs a_)(ra:ReadsAll h a_ ds as):∀{us:Zb} {zs:Y9} {bs:Za},ReadsAll h us zs bs->(∀u∈us,u∈a_)->∃ws,Vals ws us/\bu M zs ws
 |_,_,_,.nil,_=>([],.nil,rfl)
 |_,_,_,.cons r t,hu=>by obtain⟨ws,q1,q2⟩:=wI rp rv ra t λu m=>hu u (U2 _ m);obtain⟨i,hi⟩:=V2 (hu _ (Vj ..));obtain⟨d,cs,e1,e2⟩:=readsAll_get ra hi;obtain⟨x,e3,e4⟩:=bu.get' rp e1;obtain⟨u',e5,e6⟩:=rv.get e3;rw[hi]at e5;cases e5;have:=(YO r _ _ e2).1;subst this;exact(x::ws,.cons e6 q1,.cons e4 q2)
theorem wJ(h:setOk ds=true)(so:cF ds=true):∃md,ds.length<=120/\(∀d∈ds,aD d=true)/\∀d∈ds,P4 md d:=by
 simp only[setOk,U1,Vy,Wc]at h;obtain⟨⟨⟨h1,h2⟩,h3⟩,h4⟩:=h;have t:=yS.mp h2;rcases h1 with h1|h1
 ·exact(true,h4,t,λd m=>(t d m,gG.mp h3 d m,bM.mp so d m,Vg.mp h1 d m))
 ·refine(false,h4,t,λd m=>(t d m,gG.mp h3 d m,bM.mp so d m,?_));have:=Vg.mp h1 d m;cases d<;>simp[m9]at this<;>rfl
section
theorem D9(I:L2.Inv X pins σ H s)(w:W X.G θ hm H)(sm:M=view θ H)(hk:∀b o,s.heap.get? b=some o->s'.heap.get? b=some o)(hs:∃h tk dr,s'={s with heap:=h,toks:=tk,drawn:=dr})(hsz:s.heap.objs.size<=s'.heap.objs.size)
 (S:b9 vp X.w s'.heap a md Z9)(hh:X.A.handled=none)(pz:List.Perm Z9 zs)(ok:eY zs=true)(so:cF zs=true)(hu:X.A.units+60<cLine)(rp:bu M ds vs)(rv:Vals vs a_)(ra:ReadsAll s'.heap a_ ds as)(hvp:∀v,vp v->v∈a_)
 (q:aG X.G (qr X.G E) θ H (.ok (.dat (.list (cQ ltB zs))) hm) (KV X.G Q)):wpAny (model X.prog X.w) X.A (call (.builtin "sorted") [.ref a]) (EP X pins σ Q) X.xe s':=by
 obtain⟨h1,tk1,dr1,rfl⟩:=hs;refine D8 S hh pz ok hu λh' dr tk p us e' hp kp he ⟨bs,rb⟩ vu=>?_;have ra':ReadsAll h' a_ ds as:=VU kp ra;obtain⟨ws,q1,q2⟩:=wI rp rv ra' rb λu m=>hvp u (vu u m);have hpp:s.heap.objs.size<=p:=U8 hsz hp;have hn:H p=none:=I.hok.fresh hpp;obtain⟨ev,w1,g⟩:=w.put (o:=.lst ws) hn
 have hlen:ws.length<=sizeLine:=by
  have x1:=q2.length;have x2:(cQ ltB zs).length=zs.length:=(aY _ _).length_eq;simp only[eY,U1,Vy]at ok
  grind[sizeLine_eq]
 have I2:L2.Inv X pins σ (upd H p (.lst ws)) {s with heap:=h',toks:=tk}:=I.laid (t':=tk) (λb o eb=>kp b o (hk b o eb)) hpp (hlen,us,e',q1,he);subst sm;exact(.ref p,_,I2.dr dr,rfl,q _ _ ev w1 _ ((p,ws,rfl,g,q2.same ev.same),by simp only[fw];exact yM (aY _ _).symm so))
end
theorem rh:∀{us vs:Zb} {ds es:Y9} {as bs:Za},ReadsAll h us ds as->ReadsAll h vs es bs->∃cs,ReadsAll h (us++vs) (ds++es) cs
 |_,_,_,_,_,_,.nil,q=>(_,q)
 |_,_,_,_,_,_,.cons r t,q=>by obtain⟨_,x⟩:=rh t q;exact(_,.cons r x)
theorem Cf:∀{ds es:Y9} {vs us:List V},bu M ds vs->bu M es us->bu M (ds++es) (vs++us)
 | [],_,_,_,h,q=>by cases h;exact q
 |_::_,_,_,_,(x,xs,rfl,r1,r2),q=>(x,_,rfl,r1,Cf r2 q)
theorem fq:∀{xs ys:Y9},xs.Nodup->(∀x∈xs,x∈ys)->xs.length<=ys.length
 | [],_,_,_=>Wr _
 |x::xs,ys,nd,h=>by
  classical
  obtain⟨n1,n2⟩:=VP.mp nd;have hx:=h x (Vj ..);obtain⟨i,hi,e⟩:=Xr hx;have p:=gE hi
  have:=fq (ys:=ys.eraseIdx i) n2 λy hy=>by
   grind
  grind
theorem _root_.RP.cK.move(S:cK vp w h a md ds es ep t)(ob:h'.get? a=some (bJ es ep t))(hv:∀v,vp v->vp' v)(hr:∀v d as,vp v->Reads h v d as->∃bs,Reads h' v d bs):cK vp' w h' a md ds es ep t:=
 (ob,S.tb,S.ld,S.nd,S.ln,Paired.lK S.el λ_ _ x=>(x.tr,x.dp,x.so,x.hs,x.kd,by obtain⟨as,r⟩:=x.rd;exact hr _ _ as x.vl r,hv _ x.vl))
section
theorem wK{σ:St}{Qa:V->Hp->Prop}(Zz:Gl X "set")(hm2:X.mg "set" = none)(I:L2.Inv X pins σ H s)(ha:PE X e te)(ht:te σ H Qa)
 (hs:starEach [e] X.env=[(false,eval e X.env)])
 (q:∀u s1 v H1,L2.Inv X pins σ H1 s1->RelV v u->Qa v H1->wpAny (model X.prog X.w) X.A (call (.type "set") [u]) Q X.xe s1):wpAny (model X.prog X.w) X.A (eval (.Call (.Name "set" p2) [e] [] p3) X.env) Q X.xe s:=by
 refine V3 (mW I Zz hm2 (by rfl:bootBuiltins "set" = some (.type "set")) ?_);refine WR ?_ (by trivial) (by rfl);rw[hs];show wpAny _ _ (spliced ((false,eval e X.env)::[])) _ _ s;refine X6 (bN (ha pins s σ H Qa I ht) λu s1 ⟨v,H1,I1,rv1,q1⟩=>?_);exact Yh (q u s1 v H1 I1 rv1 q1)
structure Ut(X:Cx)(op:Operator)(f:Y9->Y9->Y9)(G:Y9->Y9->PyData->Prop):Prop where
 run:∀{vp:Value->Prop} {md:Bool} {l r:Addr} {ds KB:Y9} {Q:Y4} {s:Zn},X.A.units+21<cLine->l≠r->b9 vp X.w s.heap l md ds->b9 vp X.w s.heap r md KB->ds.length+KB.length<=120->JJ vp X.w s md (G ds KB) Q->wpAny (model X.prog X.w) X.A (binaryOp op (.ref l) (.ref r)) Q X.xe s
 mem:∀{ds es:Y9},(∀d∈ds++es,aD d=true)->(f ds es).Nodup/\∀d,d∈f ds es<->G ds es d
 congr:∀{ds es i_ r_:Y9},(∀d,d∈ds<->d∈i_)->(∀d,d∈es<->d∈r_)->∀d,G ds es d<->G i_ r_ d
 sub:∀{ds es:Y9} {d},G ds es d->d∈ds++es
theorem My:Ut X .BitXor pT (λds es d=>(d∈ds/\d∉es)\/(d∉ds/\d∈es)) where
 run:=λh1 h2 h3 h4 h5 h6=>P2 h1 h2 h3 h4 h5 h6
 mem:=λ{ds es} h=>by
  have h1:∀d∈ds,aD d=true:=λd m=>h d (Vr _ m);have h2:∀d∈es,aD d=true:=λd m=>h d (U3 _ m)
  have key:∀d,d∈pT ds es<->(d∈ds/\d∉es)\/(d∉ds/\d∈es):=λd=>by
   unfold pT;rw[Vd,U7,U7,dE h1,dE h2];constructor
   ·rintro(⟨a,b⟩|⟨a,b⟩)
    ·exact .inl (a,λz=>by rw[(ij h2 (h1 d a)).mpr z]at b;cases b)
    ·exact .inr ((λz=>by rw[(ij h1 (h2 d a)).mpr z]at b;cases b),a)
   ·rintro(⟨a,b⟩|⟨a,b⟩)
    ·refine .inl (a,?_)
     cases z:es.any (PyData.eqv d)with
     |true=>exact absurd ((ij h2 (h1 d a)).mp z) b
     |false=>rfl
    ·refine .inr (b,?_)
     cases z:ds.any (PyData.eqv d)with
     |true=>exact absurd ((ij h1 (h2 d b)).mp z) a
     |false=>rfl
  refine(?_,key);unfold pT;refine WA.mpr ((f7 h1).sublist Wh,(f7 h2).sublist Wh,λx hx y hy z=>?_);subst z;obtain⟨a,_⟩:=U7.mp hx;obtain⟨_,b⟩:=U7.mp hy;have a':=(dE h1 x).mp a;rw[(ij h1 (h1 x a')).mpr a']at b;cases b
 congr:=λh1 h2 d=>by rw[h1,h2]
 sub:=λh=>by
  rcases h with h|h
  ·exact Vr _ h.1
  ·exact U3 _ h.2
theorem G7(O:Ut X op f G)(hc:X.calm=true)(hr:L2.cE k X.A)(hm1:X.mg "sorted" = none)(hm2:X.mg "set" = none)(ha:DE X E m e)(hb:DE X E m2 e2)(hg:Gl X "sorted" := by rfl)(Zz:Gl X "set" := by rfl)(hs:starEach [e] X.env=[(false,eval e X.env)]:=by rfl)(B_:starEach [e2] X.env=[(false,eval e2 X.env)]:=by rfl)
 (hs3:starEach [.BinOp (.Call (.Name "set" p2) [e] [] p3) op (.Call (.Name "set" p4) [e2] [] p5) p6] X.env=[(false,eval (.BinOp (.Call (.Name "set" p2) [e] [] p3) op (.Call (.Name "set" p4) [e2] [] p5) p6) X.env)]:=by rfl) :
  DE X E (uQ f m m2) (.Call (.Name "sorted" p1) [.BinOp (.Call (.Name "set" p2) [e] [] p3) op (.Call (.Name "set" p4) [e2] [] p5) p6] [] pos):=by
 simp only[bG]at *;rintro pins s σ H Q I ⟨θ,h,ρ,w,fr,p⟩;refine V3 (mW I hg hm1 (by decide +kernel:bootBuiltins "sorted" = some (.builtin "sorted")) ?_);refine Xn ?_ (by rw[hs3];rfl) (by rfl);rw[hs3];show wpAny _ _ (spliced ((false,eval (.BinOp (.Call (.Name "set" p2) [e] [] p3) op (.Call (.Name "set" p4) [e2] [] p5) p6) X.env)::[])) _ _ s;refine X6 ?_;have hun:=hr.un;have hA:=I.ok.hd hc
 refine wpAny_BinOp (wK (Qa:=λv H1=>∃b_ h1 d,W X.G b_ h1 H1/\Fr X.G b_ H1 ρ σ/\ck X.G b_ H1 d v/\aG X.G (qr X.G E) b_ H1 (match f6 d h1 with
   |some ds=>if setOk ds then(m2 ρ h1).bind λy h2=>match f6 y h2 with
     |some es=>if setOk (ds++es)&&eY (f ds es)then .ok (.dat (.list (cQ ltB (f ds es)))) h2 else .bad
     |Option.none=>.bad
    else .bad
   |Option.none=>.bad) (Ml.KV X.G Q)) Zz hm2 I ha (θ,h,ρ,w,fr,(aG.bind p).mono (by rintro d b_ h1 H1 _ _ ⟨ev,w1,q1⟩ v r1;exact(b_,h1,d,w1,fr.ev ev,r1,q1))) hs λu s1 v H1 I1 rv1 ⟨b_,h1,d,w1,fr1,r1,q1⟩=>?_)
 cases Z6:f6 d h1 with
 |none=>rw[Z6]at q1;exact q1.elim
 |some ds=>
  rw[Z6]at q1;dsimp only at q1;by_cases hc1:setOk ds=true
  case neg=>rw[if_neg hc1]at q1;exact q1.elim
  rw[if_pos hc1]at q1;obtain⟨b,vs,a_,rfl,SS⟩:=Ap I1 w1 r1 Z6;cases rv1;obtain⟨T,OK,src,hok⟩:=SS.src;obtain⟨as,ra⟩:=bu.reads I1 (SS.rep.same (ax _ _)) SS.val;obtain⟨md,hl,ht,hel⟩:=wJ hc1 SS.so;refine wC (vp:=λv=>v∈a_) (md:=md) (ys:=ds) (as:=as) src hA hok (by simpa using ra) hel (λv m=>by simpa using m) hl #[1] λg1 tk1 Z9 S md1 kp1=>?_;obtain⟨ZI,Z0,t1,SA⟩:=S;have I1':L2.Inv X pins σ H1 {s1 with heap:=g1,toks:=tk1}:=I1.kept (t':=tk1) kp1;have hna:H1 s1.heap.objs.size=none:=I1.hok.fresh (U4 _);have hfp:jT X pins H1 s1.heap.objs.size:=I1.Gj (U4 _) hna
  have I1p:L2.Inv X (pins++[(s1.heap.objs.size,bJ ZI Z0 t1)]) σ H1 {s1 with heap:=g1,toks:=tk1}:=I1'.ic λp hp=>by
   rcases Vd.mp hp with z|z
   ·exact I1'.pin p (U3 _ z)
   ·rw[Vm.mp z];obtain⟨f0,f1,f2,_⟩:=hfp;exact(SA.ob,f0,f1,f2,λv z=>by cases z)
  refine wK (Qa:=λv H2=>∃q_ h2 d2,Ev b_ H1 q_ H2/\W X.G q_ h2 H2/\ck X.G q_ H2 d2 v/\aG X.G (qr X.G E) q_ H2 (match f6 d2 h2 with
     |some es=>if setOk (ds++es)&&eY (f ds es)then .ok (.dat (.list (cQ ltB (f ds es)))) h2 else .bad
     |Option.none=>.bad) (Ml.KV X.G Q)) Zz hm2 I1p hb (b_,h1,ρ,w1,fr1,(aG.bind q1).mono (by rintro d2 q_ h2 H2 _ _ ⟨C_,w2,q2⟩ v2 r2;exact(q_,h2,d2,C_,w2,r2,q2))) B_ λu2 s2 v2 H2 I2 rv2 ⟨q_,h2,d2,C_,w2,r2,q2⟩=>?_
  cases hsq2:f6 d2 h2 with
  |none=>rw[hsq2]at q2;exact q2.elim
  |some es=>
   rw[hsq2]at q2;dsimp only at q2;by_cases V_:(setOk (ds++es)&&eY (f ds es))=true
   case neg=>rw[if_neg V_]at q2;exact q2.elim
   rw[if_pos V_]at q2;simp only[U1]at V_;obtain⟨b2,vs2,k_,rfl,SS2⟩:=Ap I2 w2 r2 hsq2;cases rv2;obtain⟨T2,OK2,src2,hok2⟩:=SS2.src;obtain⟨as2,ra2⟩:=bu.reads I2 (SS2.rep.same (ax _ _)) SS2.val;have rp1:bu (view q_ H2) ds vs:=SS.rep.same C_.same;obtain⟨as1,ra1⟩:=bu.reads I2 (rp1.same (ax _ _)) SS.val
   have so12:cF (ds++es)=true:=bM.mpr λx hx=>by
    rcases Vd.mp hx with z|z
    ·exact bM.mp SS.so x z
    ·exact bM.mp SS2.so x z
   obtain⟨md2,Z8,ht2,hel2⟩:=wJ V_.1 so12;have obA:s2.heap.get? s1.heap.objs.size=some (bJ ZI Z0 t1):=(I2.pin (s1.heap.objs.size,bJ ZI Z0 t1) (by simp)).1;have ra1':ReadsAll g1 a_ ds as:=VU kp1 ra;have SA2:cK (λv=>v∈a_++k_) X.w s2.heap s1.heap.objs.size md Z9 ZI Z0 t1:=SA.move obA (λv hv=>Vr _ hv) λv d' as' hv rd'=>by obtain⟨i,hi⟩:=V2 hv;obtain⟨x,bs,e1,e2⟩:=readsAll_get ra1' hi;obtain⟨y,cs,e3,e4⟩:=readsAll_get ra1 hi;rw[e1]at e3;cases e3;have:=(YO rd' _ _ e2).1;subst this;exact(cs,e4)
   have hmd:md=md2\/Z9=[]:=by
    cases hd:Z9 with
    |nil=>exact .inr rfl
    |cons x xs=>have hx:x∈ds:=(md1 x).mp (by rw[hd];exact Vj ..);exact .inl ((hel x hx).2.2.2.symm.trans (hel2 x (Vr _ hx)).2.2.2)
   have SB2:b9 (λv=>v∈a_++k_) X.w s2.heap s1.heap.objs.size md2 Z9:=by
    rcases hmd with rfl|rfl
    ·exact(_,_,_,SA2)
    ·have:ZI.toList=[]:=by
      have hh:=SA2.el;generalize ZI.toList=l at hh;cases hh;rfl
     exact(ZI,Z0,t1,SA2.ob,SA2.tb,SA2.ld,SA2.nd,SA2.ln,by rw[this];exact .nil)
   have hlen1:ds.length+es.length<=120:=by simpa using Z8
   refine wC (vp:=λv=>v∈a_++k_) (md:=md2) (ys:=es) (as:=as2) src2 hA hok2 (by simpa using ra2) (λy hy=>hel2 y (U3 _ hy)) (λv m=>U3 _ (by simpa using m)) #[1] #[1] λg3 tk3 dsS2 S3 md3 kp3=>?_;have SB3:b9 (λv=>v∈a_++k_) X.w g3 s1.heap.objs.size md2 Z9:=by obtain⟨a1,a2,a3,a4⟩:=SB2;exact(a1,a2,a3,a4.keep kp3)
   have lt2:s1.heap.objs.size<s2.heap.objs.size:=U6 obA;have nd1:Z9.length<=ds.length:=by obtain⟨_,_,_,z⟩:=SB2;exact fq z.nd λx hx=>(md1 x).mp hx
   have nd3:dsS2.length<=es.length:=by obtain⟨_,_,_,z⟩:=S3;exact fq z.nd λx hx=>(md3 x).mp hx
   refine O.run (s:={s2 with heap:=g3,toks:=tk3}) #[1] (Vi lt2) SB3 S3 #[1] λa4 g4 ds4 dr4 ge4 kp4 S4 md4=>?_;refine Yh ?_;obtain⟨cs,rc⟩:=rh (VU (λb o eb=>kp4 b o (kp3 b o eb)) ra1) (VU (λb o eb=>kp4 b o (kp3 b o eb)) ra2);obtain⟨fn,fm⟩:=O.mem ht2;have I2p:L2.Inv X pins σ H2 s2:=I2.ic λp hp=>I2.pin p (by simp[hp]);have S40:=S4;obtain⟨_,_,_,SA4⟩:=S40;refine D9 (s:=s2) (s':={s2 with heap:=g4,toks:=tk3,drawn:=dr4}) I2p w2 rfl (λb o eb=>kp4 b o (kp3 b o eb)) (g4,tk3,dr4,rfl) ?_ S4 hA ?_ V_.2 ?_ #[1] (Cf rp1 SS2.rep) (SS.val.append SS2.val) rc (λv hv=>hv) q2
   ·have:=U6 SA4.ob;obtain⟨_,_,_,z⟩:=S3;have z2:=U6 z.ob;have:g3.objs.size<=a4:=ge4;exact Yt (Nat.lt_trans z2 (Nat.lt_of_le_of_lt this (U6 SA4.ob)))
   ·refine(WX SA4.nd fn).mpr λx=>?_;rw[md4,fm,O.congr md1 md3]
   ·exact bM.mpr λx hx=>bM.mp so12 x (O.sub ((fm x).mp hx))
end
section
theorem G8(hc:X.calm=true)(hr:L2.cE k X.A)(hm1:X.mg "len" = none)(hm2:X.mg "set" = none)(ha:DE X E m e)(hg:Gl X "len" := by rfl)(Zz:Gl X "set" := by rfl)(hs:starEach [e] X.env=[(false,eval e X.env)]:=by rfl)
 (hs3:starEach [.Call (.Name "set" p2) [e] [] p3] X.env=[(false,eval (.Call (.Name "set" p2) [e] [] p3) X.env)]:=by rfl) :
  DE X E (ag me (ab m ai)) (.Call (.Name "len" p1) [.Call (.Name "set" p2) [e] [] p3] [] pos):=by
 simp only[bG]at *;rintro pins s σ H Q I ⟨θ,h,ρ,w,fr,p⟩;refine V3 (mW I hg hm1 (by decide +kernel:bootBuiltins "len" = some (.builtin "len")) ?_);refine Xn ?_ (by rw[hs3];rfl) (by rfl);rw[hs3];show wpAny _ _ (spliced ((false,eval (.Call (.Name "set" p2) [e] [] p3) X.env)::[])) _ _ s;refine X6 ?_;simp only[ag,ab,ai,R.bind_assoc,R.aW]at p;refine wK (Qa:=λv H1=>∃b_ h1 d,W X.G b_ h1 H1/\ck X.G b_ H1 d v/\aG X.G (qr X.G E) b_ H1 (me [d] h1) (Ml.KV X.G Q)) Zz hm2 I ha (θ,h,ρ,w,fr,(aG.bind p).mono (by rintro d b_ h1 H1 _ _ ⟨ev,w1,q1⟩ v r1;exact(b_,h1,d,w1,r1,q1))) hs λu s1 v H1 I1 rv1 ⟨b_,h1,d,w1,r1,q1⟩=>?_
 cases Z6:f6 d h1 with
 |none=>simp only[me,Z6]at q1;exact q1.elim
 |some ds=>
  simp only[me,Z6]at q1;by_cases V_:setOk ds=true
  case neg=>rw[if_neg V_]at q1;exact q1.elim
  rw[if_pos V_]at q1;obtain⟨b,vs,a_,rfl,SS⟩:=Ap I1 w1 r1 Z6;cases rv1;obtain⟨T,OK,src,hok⟩:=SS.src;obtain⟨as,ra⟩:=bu.reads I1 (SS.rep.same (ax _ _)) SS.val;obtain⟨md,hl,ht,hel⟩:=wJ V_ SS.so;have hun:=hr.un;refine wC (vp:=λv=>v∈a_) (md:=md) (ys:=ds) (as:=as) src (I1.ok.hd hc) hok (by simpa using ra) hel (λv m=>by simpa using m) hl #[1] λh' tk Z9 S md' kp=>?_;refine Yh ?_;obtain⟨es,ep,t,SA⟩:=S;have hz:es.size=(cC ds).length:=by rw[SA.size];exact((WX SA.nd (f7 ht)).mpr λd=>by rw[md',dE ht]).length_eq
  have hb:=SA.ln;have hz2:=SA.size;refine call_len_set SA.ob (rfl,rfl,rfl) rfl SA.tb.fits #[1] ?_;rw[hz];have I2:L2.Inv X pins σ H1 {s1 with heap:=h',toks:=tk}:=I1.kept (t':=tk) kp;exact(.int (cC ds).length,H1,I2.tok _,(_,rfl),q1 _ _ .refl w1 _ (cu _))
end
end Ml
namespace K34
open PySem L2 Ml
def top(i:Nat):Stmt:=PySem.Challenge.pw_everalike_k34_lots_enforced.main.body.getD i (.Pass (0,0,0,0))
structure Txt(K:Zc)(mg:Y8):Prop where
 n_all:mg "all" = none
 n_len:mg "len" = none
 n_isinstance:mg "isinstance" = none
 n_str:mg "str" = none
 n_zip:mg "zip" = none
 n_tuple:mg "tuple" = none
 n_any:mg "any" = none
 n_sorted:mg "sorted" = none
 n_set:mg "set" = none
 n_bool:mg "bool" = none
 n_int:mg "int" = none
 n_range:mg "range" = none
 n_abs:mg "abs" = none
 n_divmod:mg "divmod" = none
 n_list:mg "list" = none
 n_repr:mg "repr" = none
 n_max:mg "max" = none
 n_min:mg "min" = none
 i_LONGEST_NAME:∃t,mg "LONGEST_NAME" = some (.int 6 t)
 i_MOST_NAMES:∃t,mg "MOST_NAMES" = some (.int 12 t)
 i_MOST_ENFORCED:∃t,mg "MOST_ENFORCED" = some (.int 5 t)
 i_MOST_CHANGES:∃t,mg "MOST_CHANGES" = some (.int 4 t)
 f_JUDGES:∃a,mg "JUDGES" = some (.ref a)/\Mj K mg a kZ
 t_ENFORCED_KINDS:∃a,mg "ENFORCED_KINDS" = some (.ref a)/\IF K a fj
section
abbrev mw(c:CX):=Txt c.K c.mg
variable {c:CX} {P:Zj} {w:World} {K:Zc} {mg:Y8} {base:Heap} {XE:VK->XK} {bm:Addr}
abbrev sS:Stmt:=top 11
abbrev jg:Zd:=["thing"]
theorem Ea:aO jg jg (av sS):=lH
theorem Aq:rZ ["letter"] jg:=by decide +kernel
abbrev zg(c:CX):Prop:=dU c "is_name" jg 1 kX
theorem G9(D:mR c "is_name" jg sS)(T:mw c):zg c:=
 cB.eq (Df.has (k:=0) D Ea (λf h_ A outer s H E hr=>
  ao (eO (DW.dt (mP (fS (bO (BH (LB _) OV T.n_isinstance T.n_str (dv 0)))) (jq (fS (BG GV GV aE (pP o7 T.n_len kA (ae (dv 0) aj)) (uM T.i_LONGEST_NAME)))))) (aq (aT cV)) bX)
  (aq (aT (pP (vO rfl) T.n_all pE (ae (bY ["letter"] (by rfl) rfl (bq (dv 0)) (λ_ _ _ _ _=>dg 0 Aq) (λ_ _ _ _ _=>dR) (λ_ _ _ _ _=>Jn GV GV pN (dv 0) pN)) aj)))))) (by kernel_rfl)
abbrev nH:Stmt:=top 12
abbrev gf:Zd:=["things"]
theorem Ar:aO gf gf (av nH):=lH
theorem nI:rZ ["low", "high"] gf:=by decide +kernel
abbrev kn(c:CX):Prop:=dU c "is_rising" gf 1 gb
theorem Cg(D:mR c "is_rising" gf nH)(T:mw c):kn c:=
 cB.eq (Df.has (k:=0) D Ar (λf h_ A outer s H E hr=>
  aq (aT (pP (vO rfl) T.n_all pE (ae (bY ["low", "high"] (by rfl) rfl (Pp (by rfl) T.n_zip (ae (dv 0) (ae (Bz (dv 0) (Fq aE) Fp) aj))) (λ_ _ _ _ _=>gZ rfl (bf (dg 0 nI) (bf (dg 1 nI) dQ)) (aR (aR cP))) (λ_ _ _ _ _=>dR) (λ_ _ _ _ _=>eI (LS hr) (dv 0) (dv 1) (by rfl))) aj))))) (by kernel_rfl)
abbrev nJ:Stmt:=top 13
abbrev gg:Zd:=["thing"]
theorem As:aO gg gg (av nJ):=lH
theorem wL:rZ ["part"] gg:=by decide +kernel
abbrev tV(c:CX):Prop:=dU c "are_names" gg 2 j9
theorem Ci(D:mR c "are_names" gg nJ)(T:mw c)(Z_:kn c)(J11:zg c):tV c:=
 cB.eq (Df.has (k:=1) D As (λf h_ A outer s H E hr=>
  ao (eO (DW.dt (mP (fS (bO (BH (kit_tuple _) eW T.n_isinstance T.n_tuple (dv 0)))) (jq (aV IX (pP o7 T.n_len kA (ae (dv 0) aj)) (uM T.i_MOST_NAMES) (by rfl))))) (aq (aT cV)) bX)
  (aq (aT (l9 (pP (vO rfl) T.n_all pE (ae (bY ["part"] (by rfl) rfl (bq (dv 0)) (λ_ _ _ _ _=>dg 0 wL) (λ_ _ _ _ _=>dR) (λ_ _ _ _ _=>i7 J11 cL hr (ae (dv 0) aj))) aj)) (ni (i7 Z_ bz hr (ae (dv 0) aj)))))))) (by kernel_rfl)
abbrev nK:Stmt:=top 14
abbrev iL:Zd:=["thing", "names"]
theorem Au:aO iL iL (av nK):=lH
abbrev tW(c:CX):Prop:=dU c "is_strike" iL 1 iH
theorem Cj(D:mR c "is_strike" iL nK)(T:mw c):tW c:=
 cB.eq (Df.has (k:=0) D Au (λf h_ A outer s H E hr=>
  ao (eO (DW.dt (mP (fS (bO (BH (kit_tuple _) eW T.n_isinstance T.n_tuple (dv 0)))) (jq (aV (GU hr) (pP o7 T.n_len kA (ae (dv 0) aj)) aE (by rfl))))) (aq (aT cV)) bX)
  (aq (aT (l9 (eI (nu hr) (cA (bo hr) (dv 0) aE (λ_ _=>rfl)) (dv 1) (by rfl)) (ni (eI (nu hr) (cA (bo hr) (dv 0) aE (λ_ _=>rfl)) (dv 1) (by rfl)))))))) (by kernel_rfl)
abbrev kG:Stmt:=top 15
abbrev eB:Zd:=["thing", "names"]
theorem wM:aO eB eB (av kG):=lH
theorem sT:rZ ["part"] eB:=by decide +kernel
abbrev pf(c:CX):Prop:=dU c "are_strikes" eB 2 ik
theorem yg(D:mR c "are_strikes" eB kG)(T:mw c)(Z_:kn c)(J14:tW c):pf c:=
 cB.eq (Df.has (k:=1) D wM (λf h_ A outer s H E hr=>
  ao (eO (fS (bO (BH (kit_tuple _) eW T.n_isinstance T.n_tuple (dv 0)))) (aq (aT cV)) bX)
  (aq (aT (l9 (pP (vO rfl) T.n_all pE (ae (bY ["part"] (by rfl) rfl (bq (dv 0)) (λ_ _ _ _ _=>dg 0 sT) (λ_ _ _ _ _=>dR) (λ_ _ _ _ _=>i7 J14 cL hr (ae (dv 0) (ae (dv 2) aj)))) aj)) (ni (i7 Z_ bz hr (ae (dv 0) aj)))))))) (by kernel_rfl)
abbrev wN:Stmt:=top 16
abbrev nL:Zd:=["thing"]
theorem sU:aO (ap nL ["names", "strikes"]) nL (av wN):=lH
abbrev Ck(c:CX):Prop:=dU c "is_web" nL 3 qU
theorem JQ(D:mR c "is_web" nL wN)(T:mw c)(J15:pf c)(J13:tV c):Ck c:=
 cB.eq (Df.has (k:=2) D sU (λf h_ A outer s H E hr=>
  ao (eO (DW.dt (mP (fS (bO (BH (kit_tuple _) eW T.n_isinstance T.n_tuple (dv 0)))) (jq (aV (GU hr) (pP o7 T.n_len kA (ae (dv 0) aj)) aE (by rfl))))) (aq (aT cV)) bX)
  (ao (nj (dv 0) (gZ rfl (bf (dg 1 sU.nd) (bf (dg 2 sU.nd) dQ)) (aR (aR cP))))
  (aq (aT (l9 (i7 J13 bz hr (ae (dv 1) aj)) (ni (i7 J15 bz hr (ae (dv 2) (ae (dv 1) aj)))))))))) (by kernel_rfl)
abbrev nM:Stmt:=top 17
abbrev iM:Zd:=["thing"]
theorem Av:aO iM iM (av nM):=lH
abbrev tX(c:CX):Prop:=dU c "check_web" iM 4 ka
theorem Cm(D:mR c "check_web" iM nM)(T:mw c)(J16:Ck c):tX c:=
 cB.eq (Df.has (k:=3) D Av (λf h_ A outer s H E hr=>
  aq (eO (fS (bO (i7 J16 bz hr (ae (dv 0) aj)))) (aq pQ) bX))) (by kernel_rfl)
abbrev wO:Stmt:=top 18
abbrev lg:Zd:=["thing", "names"]
theorem Ha:aO lg lg (av wO):=lH
theorem Cn:rZ ["part"] lg:=by decide +kernel
abbrev Co(c:CX):Prop:=dU c "is_lot" lg 2 qV
theorem JR(D:mR c "is_lot" lg wO)(T:mw c)(Z_:kn c):Co c:=
 cB.eq (Df.has (k:=1) D Ha (λf h_ A outer s H E hr=>
  ao (eO (fS (bO (BH (kit_tuple _) eW T.n_isinstance T.n_tuple (dv 0)))) (aq (aT cV)) bX)
  (aq (aT (l9 (pP (vO rfl) T.n_all pE (ae (bY ["part"] (by rfl) rfl (bq (dv 0)) (λ_ _ _ _ _=>dg 0 Cn) (λ_ _ _ _ _=>dR) (λ_ _ _ _ _=>eI (nu hr) (dv 0) (dv 2) (by rfl))) aj)) (ni (i7 Z_ bz hr (ae (dv 0) aj)))))))) (by kernel_rfl)
abbrev nN:Stmt:=top 19
abbrev iN:Zd:=["web", "thing"]
theorem Aw:aO iN iN (av nN):=lH
abbrev tY(c:CX):Prop:=dU c "check_lot" iN 3 kc
theorem Cp(D:mR c "check_lot" iN nN)(T:mw c)(J18:Co c):tY c:=
 cB.eq (Df.has (k:=2) D Aw (λf h_ A outer s H E hr=>
  aq (eO (fS (bO (i7 J18 bz hr (ae (dv 1) (ae (cA (bo hr) (dv 0) aE (λ_ _=>rfl)) aj))))) (aq pQ) bX))) (by kernel_rfl)
abbrev nO:Stmt:=top 20
abbrev iO:Zd:=["web", "most"]
theorem Ax:aO iO iO (av nO):=lH
abbrev tZ(c:CX):Prop:=dU c "check_few" iO 1 ke
theorem Cq(D:mR c "check_few" iO nO)(T:mw c):tZ c:=
 cB.eq (Df.has (k:=0) D Ax (λf h_ A outer s H E hr=>
  aq (eO (aV IX (pP o7 T.n_len kA (ae (cA (bo hr) (dv 0) aE (λ_ _=>rfl)) aj)) (dv 1) (by rfl)) (aq pQ) bX))) (by kernel_rfl)
abbrev nP:Stmt:=top 22
abbrev gh:Zd:=["lot", "others"]
theorem Ay:aO gh gh (av nP):=lH
theorem wQ:rZ ["name"] gh:=by decide +kernel
abbrev t9(c:CX):Prop:=dU c "is_within" gh 1 kg
theorem Cr(D:mR c "is_within" gh nP)(T:mw c):t9 c:=
 cB.eq (Df.has (k:=0) D Ay (λf h_ A outer s H E hr=>
  aq (aT (pP (vO rfl) T.n_all pE (ae (bY ["name"] (by rfl) rfl (bq (dv 0)) (λ_ _ _ _ _=>dg 0 wQ) (λ_ _ _ _ _=>dR) (λ_ _ _ _ _=>eI (nu hr) (dv 0) (dv 2) (by rfl))) aj))))) (by kernel_rfl)
abbrev wR:Stmt:=top 23
abbrev lj:Zd:=["web", "lot"]
theorem Hb:aO lj lj (av wR):=lH
theorem ua:rZ ["one", "other"] lj:=by decide +kernel
abbrev wU(c:CX):Prop:=dU c "hit_by" lj 1 ny
theorem JS(D:mR c "hit_by" lj wR)(T:mw c):wU c:=
 cB.eq (Df.has (k:=0) D Hb (λf h_ A outer s H E hr=>
  aq (aT (BU ["one", "other"] false hr (by rfl) rfl (bq (cA (bo hr) (dv 0) aE (λ_ _=>rfl))) (λ_ _ _ _ _=>gZ rfl (bf (dg 0 ua) (bf (dg 1 ua) dQ)) (aR (aR cP))) (λ_ _ _ _ _=>b0 (aV (nu hr) (dv 0) (dv 3) (by rfl))) (λ_ _ _ _ _=>dv 1) (λ_ _ _ _ _=>cV))))) (by kernel_rfl)
abbrev qb:Stmt:=top 24
abbrev jA:Zd:=["web", "lot"]
abbrev qc:Zd:=ap jA ["names", "strikes", "hit", "bare"]
theorem iP:aO qc jA (av qb):=lH
theorem yh:rZ ["name"] qc:=by decide +kernel
theorem ph:rZ ["one", "other"] qc:=by decide +kernel
abbrev qd(c:CX):Prop:=dU c "defended" jA 2 jv
theorem Eb(D:mR c "defended" jA qb)(T:mw c)(J23:wU c):qd c:=
 cB.eq (Df.has (k:=1) D iP (λf h_ A outer s H E hr=>
  ao (nj (dv 0) (gZ rfl (bf (dg 2 iP.nd) (bf (dg 3 iP.nd) dQ)) (aR (aR cP))))
  (ao (fU 4 iP.nd (i7 J23 bz hr (ae (dv 0) (ae (dv 1) aj))))
  (ao (fU 5 iP.nd (BU ["one", "other"] false hr (by rfl) rfl (bq (dv 3)) (λ_ _ _ _ _=>gZ rfl (bf (dg 0 ph) (bf (dg 1 ph) dQ)) (aR (aR cP))) (λ_ _ _ _ _=>b0 (aV (qT hr) (dv 0) (dv 6) (by rfl))) (λ_ _ _ _ _=>dv 1) (λ_ _ _ _ _=>cV)))
  (aq (aT (iC (oG rfl) T.n_tuple eW (ae (bY ["name"] (by rfl) rfl (bq (dv 2)) (λ_ _ _ _ _=>dg 0 yh) (λ_ _ _ _ _=>b0 (aV (qT hr) (dv 0) (dv 6) (by rfl))) (λ_ _ _ _ _=>dv 0)) aj)))))))) (by kernel_rfl)
abbrev kH:Stmt:=top 25
abbrev eE:Zd:=["web", "lot"]
theorem wV:aO eE eE (av kH):=lH
theorem ll:rZ ["one", "other"] eE:=by decide +kernel
abbrev pj(c:CX):Prop:=dU c "is_peaceful" eE 1 ip
theorem yi(D:mR c "is_peaceful" eE kH)(T:mw c):pj c:=
 cB.eq (Df.has (k:=0) D wV (λf h_ A outer s H E hr=>
  aq (aT (Pf (pP (Ry rfl) T.n_any PF (ae (bY ["one", "other"] (by rfl) rfl (bq (cA (bo hr) (dv 0) aE (λ_ _=>rfl))) (λ_ _ _ _ _=>gZ rfl (bf (dg 0 ll) (bf (dg 1 ll) dQ)) (aR (aR cP))) (λ_ _ _ _ _=>dR) (λ_ _ _ _ _=>l9 (eI (nu hr) (dv 0) (dv 3) (by rfl)) (ni (eI (nu hr) (dv 1) (dv 3) (by rfl))))) aj)))))) (by kernel_rfl)
abbrev kI:Stmt:=top 26
abbrev fF:Zd:=["web", "lot"]
theorem wW:aO fF fF (av kI):=lH
abbrev pq(c:CX):Prop:=dU c "is_standing" fF 3 fE
theorem yj(D:mR c "is_standing" fF kI)(T:mw c)(J22:t9 c)(J24:qd c):pq c:=
 cB.eq (Df.has (k:=2) D wW (λf h_ A outer s H E hr=>
  aq (aT (i7 J22 bz hr (ae (dv 1) (ae (i7 J24 bz hr (ae (dv 0) (ae (dv 1) aj))) aj)))))) (by kernel_rfl)
abbrev qe:Stmt:=top 27
abbrev jB:Zd:=["web", "lot"]
theorem Cs:aO jB jB (av qe):=lH
abbrev wX(c:CX):Prop:=dU c "is_whole" jB 3 jw
theorem Ec(D:mR c "is_whole" jB qe)(T:mw c)(J24:qd c):wX c:=
 cB.eq (Df.has (k:=2) D Cs (λf h_ A outer s H E hr=>
  aq (aT (eI (ju hr) (dv 1) (i7 J24 bz hr (ae (dv 0) (ae (dv 1) aj))) (by rfl))))) (by kernel_rfl)
abbrev nQ:Stmt:=top 28
abbrev iQ:Zd:=["web", "lot"]
abbrev ub:Zd:=ap iQ ["hit"]
theorem rj:aO ub iQ (av nQ):=lH
theorem wY:rZ ["name"] ub:=by decide +kernel
abbrev uc(c:CX):Prop:=dU c "is_stable" iQ 2 gc
theorem Ct(D:mR c "is_stable" iQ nQ)(T:mw c)(J23:wU c):uc c:=
 cB.eq (Df.has (k:=1) D rj (λf h_ A outer s H E hr=>
  ao (fU 2 rj.nd (i7 J23 bz hr (ae (dv 0) (ae (dv 1) aj))))
  (aq (aT (pP (vO rfl) T.n_all pE (ae (bY ["name"] (by rfl) rfl (bq (cA (bo hr) (dv 0) aE (λ_ _=>rfl))) (λ_ _ _ _ _=>dg 0 wY) (λ_ _ _ _ _=>dR) (λ_ _ _ _ _=>PD (eI (nu hr) (dv 0) (dv 2) (by rfl)) (ni (eI (nu hr) (dv 0) (dv 3) (by rfl))))) aj)))))) (by kernel_rfl)
abbrev wZ:Stmt:=top 31
abbrev nR:Zd:=["web", "changes"]
theorem Hc:aO nR nR (av wZ):=lH
abbrev Cu(c:CX):Prop:=dU c "turned" nR 1 jx
theorem JT(D:mR c "turned" nR wZ)(T:mw c):Cu c:=
 cB.eq (Df.has (k:=0) D Hc (λf h_ A outer s H E hr=>
  aq (aT (fT (ae (cA (bo hr) (dv 0) aE (λ_ _=>rfl)) (ae (iC (oG rfl) T.n_tuple eW (ae (G7 My rfl hr T.n_sorted T.n_set (cA (bo hr) (dv 0) aE (λ_ _=>rfl)) (dv 1)) aj)) aj)))))) (by kernel_rfl)
abbrev mB:Stmt:=top 33
abbrev gH:Zd:=["names", "lot"]
abbrev rm:Zd:=ap gH ["found", "name", "longer"]
theorem fG:aO rm gH (av mB):=lH
theorem uz:rZ ["some"] rm:=by decide +kernel
abbrev rn(c:CX):Prop:=dU c "wider_lots" gH 1 gz
theorem Az(D:mR c "wider_lots" gH mB)(T:mw c):rn c:=
 cB.eq (Df.has (k:=0) D fG (λf h_ A outer s H E hr=>
  ao (fU 2 fG.nd (cR 8 (d:=.list [.tuple []]) (Lit.of (by kernel_rfl)) (by decide +kernel)))
  (ao (fy rfl (bq (dv 0)) (dg 3 fG.nd) (ao (uL (i:=4) ["some"] fG.nd rfl rfl (by rfl) rfl (bq (dv 2)) (λ_ _ _ _ _=>dg 0 uz) (λ_ _ _ _ _=>dR) (λ_ _ _ _ _=>fT (uP (dv 0) (ae (dv 4) aj))))
  (aq (fU 2 fG.nd (Fi (aV (nu hr) (dv 3) (dv 1) (by rfl)) (dv 4) (bB gR (dv 2) (dv 4)))))))
  (aq (aT (dv 2)))))) (by kernel_rfl)
abbrev AA:Stmt:=top 34
abbrev rA:Zd:=["spots", "many"]
abbrev FR:Zd:=ap rA ["found"]
theorem rB:aO FR rA (av AA):=lH
theorem xa:rZ ["pick", "spot"] FR:=by decide +kernel
abbrev FT(c:CX):Prop:=dU c "picks" rA 1 iq
theorem Mz(D:mR c "picks" rA AA)(T:mw c):FT c:=
 cB.eq (Df.has (k:=0) D rB (λf h_ A outer s H E hr=>
  ao (fU 2 rB.nd (cR 8 (d:=.list [.tuple []]) (Lit.of (by kernel_rfl)) (by decide +kernel)))
  (ao (IM (n:=9) (aV IX (dv 1) aE (by rfl)) (ao (BL (i:=2) ["pick", "spot"] rB.nd rfl rfl (by rfl) rfl (bq (dv 2)) (λ_ _ _ _ _=>dg 0 xa) (λ_ _ _ _ _=>dR) (λ_ _ _ _ _=>bq (dv 2)) (λ_ _ _ _ _=>dg 1 xa) (λ_ _ _ _ _=>b0 (DW.dt (mP (fS (bO (dv 0))) (jq (aV (LS hr) (cA (bo hr) (dv 0) (cR 8 (d:=.int (-1)) (Lit.of (by kernel_rfl)) (by decide +kernel)) (λ_ _=>rfl)) (dv 1) (by rfl)))))) (λ_ _ _ _ _=>fT (uP (dv 0) (ae (dv 1) aj))))
  (aq (RJ 1 rB.nd aE))))
  (aq (aT (dv 2)))))) (by kernel_rfl)
abbrev hZ:Stmt:=top 39
abbrev dG:Zd:=["web", "lot", "kind"]
theorem rC:aO dG dG (av hZ):=lH
abbrev lq(c:CX):Prop:=dU c "check_enforced" dG 5 fk
theorem sV(D:mR c "check_enforced" dG hZ)(T:mw c)(J19:tY c)(J20:tZ c)(J17:tX c):lq c:=
 cB.eq (Df.has (k:=4) D rC (λf h_ A outer s H E hr=>
  ao (j7 (i7 J17 bz hr (ae (dv 0) aj)))
  (ao (j7 (i7 J20 bz hr (ae (dv 0) (ae (uM T.i_MOST_ENFORCED) aj))))
  (ao (j7 (i7 J19 bz hr (ae (dv 0) (ae (dv 1) aj))))
  (aq (eO (aV (qT hr) (dv 2) (LZ T.t_ENFORCED_KINDS) (by rfl)) (aq pQ) bX)))))) (by kernel_rfl)
abbrev jC:Stmt:=top 40
abbrev fc:Zd:=["strict", "most"]
theorem uA:aO fc fc (av jC):=lH
abbrev nS(c:CX):Prop:=dU c "check_limits" fc 1 gA
theorem xb(D:mR c "check_limits" fc jC)(T:mw c):nS c:=
 cB.eq (Df.has (k:=0) D uA (λf h_ A outer s H E hr=>
  ao (eO (DW.dt (nh (aV Ft (dv 0) cV (by rfl)) (j6 (aV Ft (dv 0) cV (by rfl))))) (aq pQ) bX)
  (aq (eO (DW.dt (mP (fS (bO (BH (LX _) DN T.n_isinstance T.n_int (dv 1)))) (mP (bO (BH (Jb _) Me T.n_isinstance T.n_bool (dv 1))) (jq (fS (BG GV GV aE (dv 1) (uM T.i_MOST_CHANGES))))))) (aq pQ) bX)))) (by kernel_rfl)
abbrev mC:Stmt:=top 41
abbrev gI:Zd:=["web", "goals", "kind"]
theorem kJ:aO (ap gI ["judge", "goal"]) gI (av mC):=lH
abbrev rD(c:CX):Prop:=dU c "is_reached" gI 4 gB
theorem AB(D:mR c "is_reached" gI mC)(T:mw c)(J28:uc c)(J26:pq c)(J27:wX c)(J25:pj c):rD c:=
 cB.eq (Df.has (k:=3) D kJ (λf h_ A outer s H E hr=>
  ao (fU 3 kJ.nd (Mm T.f_JUDGES (dv 2) (λ_ _=>rfl)))
  (ao (fy rfl (bq (dv 1)) (dg 4 kJ.nd) (aq (eO (DW.dt (nh (bO (i7 J25 cL hr (ae (dv 0) (ae (dv 4) aj)))) (j6 (bO (PZ (k:=3) 3 (.cons (J28.mono (by decide)) (.cons (J26.mono (by decide)) (.cons (J27.mono (by decide)) (.nil)))) cL (hr.mono #[1]) (ae (dv 0) (ae (dv 4) aj))))))) (aq (aT cV)) bX)))
  (aq (aT cV))))) (by kernel_rfl)
abbrev qf:Stmt:=top 42
abbrev jD:Zd:=["web", "lot", "kind", "strict", "most"]
abbrev xc:Zd:=ap jD ["names", "strikes", "inner", "spots", "goals", "many", "pick", "changes"]
theorem c9:aO xc jD (av qf):=lH
theorem iw:rZ ["one", "other"] xc:=by decide +kernel
abbrev xf(c:CX):Prop:=RK c "enforced" jD 3 6 fV
theorem Ed(D:TJ c "enforced" jD 3 qf)(T:mw c)(J34:FT c)(J41:rD c)(J31:Cu c)(J33:rn c)(J40:nS c)(J39:lq c):xf c:=
 vZ.eq (QB.has (k:=5) D c9 (λf h_ A outer s H E hr=>
  ao (j7 (i7 J39 bz hr (ae (dv 0) (ae (dv 1) (ae (dv 2) aj)))))
  (ao (j7 (i7 J40 bz hr (ae (dv 3) (ae (dv 4) aj))))
  (ao (nj (dv 0) (gZ rfl (bf (dg 5 c9.nd) (bf (dg 6 c9.nd) dQ)) (aR (aR cP))))
  (ao (uL (i:=7) ["one", "other"] c9.nd rfl rfl (by rfl) rfl (bq (dv 6)) (λ_ _ _ _ _=>gZ rfl (bf (dg 0 iw) (bf (dg 1 iw) dQ)) (aR (aR cP))) (λ_ _ _ _ _=>b0 (DW.dt (nh (aV (nu hr) (dv 0) (dv 3) (by rfl)) (j6 (aV (nu hr) (dv 1) (dv 3) (by rfl)))))) (λ_ _ _ _ _=>fT (ae (dv 0) (ae (dv 1) aj))))
  (ao (BL (i:=8) ["one", "other"] c9.nd rfl rfl (by rfl) rfl (bq (dv 5)) (λ_ _ _ _ _=>dg 0 iw) (λ_ _ _ _ _=>dR) (λ_ _ _ _ _=>bq (dv 7)) (λ_ _ _ _ _=>dg 1 iw) (λ_ _ _ _ _=>b0 (DW.dt (mP (aV (qT hr) (dv 0) (dv 3) (by rfl)) (jq (aV (qT hr) (dv 1) (dv 3) (by rfl)))))) (λ_ _ _ _ _=>fT (ae (dv 0) (ae (dv 1) aj))))
  (ao (fU 9 c9.nd (Fi (bO (dv 3)) (zU (ae (dv 1) aj)) (i7 J33 bz hr (ae (dv 5) (ae (dv 1) aj)))))
  (ao (fy rfl (j8 (by rfl) T.n_range (ae (bB gR (bB NB (dv 4) (pP o7 T.n_len kA (ae (dv 7) aj))) aE) aj)) (dg 10 c9.nd) (aq (fy rfl (bq (i7 J34 cL hr (ae (dv 8) (ae (dv 10) aj)))) (dg 11 c9.nd) (ao (fU 12 c9.nd (pP (nq hr) T.n_sorted kP (ae (zU (uP (dv 7) (uP (dv 11) aj))) aj)))
  (aq (eO (bO (i7 J41 cL hr (ae (i7 J31 cL hr (ae (dv 0) (ae (dv 12) aj))) (ae (dv 9) (ae (dv 2) aj))))) (aq (aT (iC (oG rfl) T.n_tuple eW (ae (dv 12) aj)))) bX))))))
  (aq (aT Fg)))))))))) (by kernel_rfl)
abbrev nU:Stmt:=top 44
abbrev iR:Zd:=["_law_script", "_law_k"]
theorem AD:aO iR iR (av nU):=lH
abbrev ud(c:CX):Prop:=dU c "_law_cell" iR 1 kh
theorem Cv(D:mR c "_law_cell" iR nU)(T:mw c):ud c:=
 cB.eq (Df.has (k:=0) D AD (λf h_ A outer s H E hr=>
  ao (eO (aV (LS hr) (dv 1) (pP o7 T.n_len kA (ae (dv 0) aj)) (by rfl)) (aq (aT (cA (bo hr) (dv 0) (dv 1) (λ_ _=>rfl)))) bX)
  (aq (aT aE)))) (by kernel_rfl)
abbrev qg:Stmt:=top 45
abbrev jE:Zd:=["_law_cell_here", "_law_k"]
theorem iS:aO (ap jE ["_law_some", "_law_stir"]) jE (av qg):=lH
abbrev xg(c:CX):Prop:=dU c "_law_mix" jE 1 g6
theorem Ee(D:mR c "_law_mix" jE qg)(T:mw c):xg c:=
 cB.eq (Df.has (k:=0) D iS (λf h_ A outer s H E hr=>
  ao (fU 2 iS.nd (cR 8 (d:=.list [.int 48271,.int 69621,.int 16807,.int 39373,.int 30269,.int 40014,.int 40692,.int 50021,.int 61687,.int 71993,.int 83869,.int 95561,.int 30307]) (Lit.of (by kernel_rfl)) (by decide +kernel)))
  (ao (fU 3 iS.nd (bB o6 (bB gR (bB yJ (dv 0) aE) aE) (cA (bo hr) (dv 2) (bB yJ (dv 1) aE) (λ_ _=>rfl))))
  (ao (fU 3 iS.nd (bB gR (bB gR (dv 3) (bB o6 aE (dv 1))) (bB o6 aE (bB vJ (dv 1) aE))))
  (ao (fU 3 iS.nd (bB yJ (dv 3) aE))
  (aq (aT (bB vJ (bB yJ (bB gR (bB o6 (dv 3) (dv 3)) (bB o6 aE (dv 1))) aE) aE)))))))) (by kernel_rfl)
abbrev qh:Stmt:=top 46
abbrev jF:Zd:=["_law_script", "_law_k", "_law_lap"]
theorem iT:aO (ap jF ["_law_cell_here", "_law_number", "_law_j"]) jF (av qh):=lH
abbrev xh(c:CX):Prop:=dU c "_law_box" jF 2 fW
theorem Ef(D:mR c "_law_box" jF qh)(T:mw c)(J45:xg c)(J44:ud c):xh c:=
 cB.eq (Df.has (k:=1) D iT (λf h_ A outer s H E hr=>
  ao (fU 3 iT.nd (i7 J44 bz hr (ae (dv 0) (ae (dv 1) aj))))
  (ao (eO (DW.dt (nh (aV (ju hr) (bB yJ (dv 3) aE) aE (by rfl)) (j6 (aV (ju hr) (dv 2) aE (by rfl))))) (aq (aT (vB (ae (bB vJ (pP Rz T.n_abs OS (ae (dv 3) aj)) aE) aj)))) bX)
  (ao (fU 4 iT.nd aE)
  (ao (fy rfl (j8 (by rfl) T.n_range (ae aE aj)) (dg 5 iT.nd) (aq (fU 4 iT.nd (bB gR (bB o6 (dv 4) aE) (i7 J45 cL hr (ae (dv 3) (ae (bB gR (bB o6 aE (dv 2)) (dv 5)) aj)))))))
  (aq (aT (vB (ae (dv 4) aj))))))))) (by kernel_rfl)
abbrev nV:Stmt:=top 47
abbrev iU:Zd:=["_law_box_here", "_law_count"]
theorem mD:aO (ap iU ["_law_left", "_law_digit"]) iU (av nV):=lH
abbrev nW(c:CX):Prop:=dU c "_law_take" iU 1 aP
theorem Cw(D:mR c "_law_take" iU nV)(T:mw c):nW c:=
 cB.eq (Df.has (k:=0) D mD (λf h_ A outer s H E hr=>
  ao (nj (pP Jd T.n_divmod GJ (ae (cA (bo hr) (dv 0) aE (λ_ _=>rfl)) (ae (dv 1) aj))) (gZ rfl (bf (dg 2 mD.nd) (bf (dg 3 mD.nd) dQ)) (aR (aR cP))))
  (ao (nj (dv 2) (Ag hr (dv 0) aE (λ_=>rfl)))
  (aq (aT (dv 3)))))) (by kernel_rfl)
abbrev qi:Stmt:=top 48
abbrev jG:Zd:=["_law_box_here", "_law_most_names"]
theorem fe:aO (ap jG ["_law_count", "_law_way", "_law_seen", "_law_names", "_law_turn", "_law_one", "_law_other", "_law_at"]) jG (av qi):=lH
abbrev xi(c:CX):Prop:=dU c "_law_web" jG 2 mf
theorem Eg(D:mR c "_law_web" jG qi)(T:mw c)(Zv:nW c):xi c:=
 cB.eq ((Df.has (k:=1) D fe (λf h_ A outer s H E hr=>
  ao (RI 2 3 4 fe.nd (ae (i7 Zv bz hr (ae (dv 0) (ae (bB gR (dv 1) aE) aj))) (ae (i7 Zv bz hr (ae (dv 0) (ae aE aj))) (ae Mb aj))))
  (ao (fU 5 fe.nd (vB (ae (cR 8 (d:=.list [.str "a",.str "b",.str "c",.str "d",.str "e",.str "f",.str "g"]) (Lit.of (by kernel_rfl)) (by decide +kernel)) aj)))
  (ao (j7 (sI (dv 5) (cR 8 (d:=.list [.str "ann",.str "bo",.str "c",.str "dora",.str "elias",.str "f",.str "gwenda"]) (Lit.of (by kernel_rfl)) (by decide +kernel))))
  (ao (fU 5 fe.nd (cA (bo hr) (dv 5) (i7 Zv bz hr (ae (dv 0) (ae aE aj))) (λ_ _=>rfl)))
  (ao (fy rfl (j8 (by rfl) T.n_range (ae (cA (bo hr) (zU (ae aE (ae (dv 2) (ae (bB o6 aE (dv 2)) (ae (bB o6 aE (dv 2)) (ae (dv 2) (ae (bB vJ (dv 2) aE) (ae (bB vJ (dv 2) aE) aj)))))))) (dv 3) (λ_ _=>rfl)) aj)) (dg 6 fe.nd) (ao (RF 7 8 fe.nd (ae (cA (bo hr) (dv 5) (i7 Zv cL hr (ae (dv 0) (ae (dv 2) aj))) (λ_ _=>rfl)) (ae (cA (bo hr) (dv 5) (i7 Zv cL hr (ae (dv 0) (ae (dv 2) aj))) (λ_ _=>rfl)) aj)))
  (aq (eO (DW.dt (mP (aV (GU hr) (dv 7) (dv 8) (by rfl)) (jq (aV (ju hr) (i7 Zv cL hr (ae (dv 0) (ae aE aj))) aE (by rfl))))) (ao (nj cV (Ag hr (dv 4) (fT (ae (dv 7) (ae (dv 8) aj))) (λ_=>rfl)))
  (aq (nj cV (Ag hr (dv 4) (Fi (aV (ju hr) (dv 3) aE (by rfl)) (fT (ae (dv 8) (ae (dv 7) aj))) (fT (ae (dv 7) (ae (dv 8) aj)))) (λ_=>rfl))))) bX))))
  (ao (fy rfl (j8 (by rfl) T.n_range (ae (bB NB (bB o6 (dv 2) (iC NC T.n_int DN (ae (eI IX (dv 3) aE (by rfl)) aj))) (iC NC T.n_int DN (ae (l9 (eI (ju hr) (dv 3) aE (by rfl)) (ni (eI IX (dv 2) aE (by rfl)))) aj))) aj)) (dg 9 fe.nd) (aq (nj cV (Ag hr (dv 4) (fT (ae (cA (bo hr) (dv 5) (dv 9) (λ_ _=>rfl)) (ae (cA (bo hr) (dv 5) (bB yJ (bB gR (dv 9) aE) (dv 2)) (λ_ _=>rfl)) aj))) (λ_=>rfl)))))
  (aq (aT (fT (ae (iC (oG rfl) T.n_tuple eW (ae (Bz (dv 5) Fp (Fq (dv 2))) aj)) (ae (iC (oG rfl) T.n_tuple eW (ae (pP (nq hr) T.n_sorted kP (ae (iC (Pz rfl) T.n_list LC (ae (dv 4) aj)) aj)) aj)) aj)))))))))))).iD) (by kernel_rfl)
abbrev kK:Stmt:=top 49
abbrev eF:Zd:=["_law_one", "_law_other"]
theorem xj:aO eF eF (av kK):=lH
theorem sW:rZ ["_law_thing"] eF:=by decide +kernel
abbrev kL(c:CX):Prop:=dU c "_law_inside" eF 1 eA
theorem yk(D:mR c "_law_inside" eF kK)(T:mw c):kL c:=
 cB.eq (Df.has (k:=0) D xj (λf h_ A outer s H E hr=>
  aq (aT (eI (ju hr) (bY ["_law_thing"] (by rfl) rfl (bq (dv 0)) (λ_ _ _ _ _=>dg 0 sW) (λ_ _ _ _ _=>b0 (aV (qT hr) (dv 0) (dv 2) (by rfl))) (λ_ _ _ _ _=>dv 0)) (cR 8 (d:=.list []) (Lit.of (by kernel_rfl)) (by decide +kernel)) (by rfl))))) (by kernel_rfl)
abbrev jH:Stmt:=top 50
abbrev ff:Zd:=["_law_names"]
abbrev nX:Zd:=ap ff ["_law_rows_here", "_law_name"]
theorem fP:aO nX ff (av jH):=lH
theorem rE:rZ ["_law_row"] nX:=by decide +kernel
abbrev jI(c:CX):Prop:=dU c "_law_subsets" ff 1 cS
theorem xk(D:mR c "_law_subsets" ff jH)(T:mw c):jI c:=
 cB.eq (Df.has (k:=0) D fP (λf h_ A outer s H E hr=>
  ao (fU 1 fP.nd (cR 8 (d:=.list [.tuple []]) (Lit.of (by kernel_rfl)) (by decide +kernel)))
  (ao (fy rfl (bq (dv 0)) (dg 2 fP.nd) (aq (fU 1 fP.nd (bB gR (dv 1) (bY ["_law_row"] (by rfl) rfl (bq (dv 1)) (λ_ _ _ _ _=>dg 0 rE) (λ_ _ _ _ _=>dR) (λ_ _ _ _ _=>bB gR (dv 0) (fT (ae (dv 3) aj))))))))
  (aq (aT (dv 1)))))) (by kernel_rfl)
abbrev jJ:Stmt:=top 51
abbrev dH:Zd:=["_law_web_here", "_law_lot"]
theorem uB:aO dH dH (av jJ):=lH
theorem ko:rZ ["_law_one", "_law_other"] dH:=by decide +kernel
abbrev nY(c:CX):Prop:=dU c "_law_is_calm" dH 1 eZ
theorem xm(D:mR c "_law_is_calm" dH jJ)(T:mw c):nY c:=
 cB.eq (Df.has (k:=0) D uB (λf h_ A outer s H E hr=>
  aq (aT (eI (ju hr) (bY ["_law_one", "_law_other"] (by rfl) rfl (bq (cA (bo hr) (dv 0) aE (λ_ _=>rfl))) (λ_ _ _ _ _=>gZ rfl (bf (dg 0 ko) (bf (dg 1 ko) dQ)) (aR (aR cP))) (λ_ _ _ _ _=>b0 (DW.dt (nh (aV (nu hr) (dv 0) (dv 3) (by rfl)) (j6 (aV (nu hr) (dv 1) (dv 3) (by rfl)))))) (λ_ _ _ _ _=>aE)) (cR 8 (d:=.list []) (Lit.of (by kernel_rfl)) (by decide +kernel)) (by rfl))))) (by kernel_rfl)
abbrev jK:Stmt:=top 52
abbrev fg:Zd:=["_law_web_here", "_law_lot", "_law_name"]
abbrev gJ:Zd:=ap fg ["_law_foes"]
theorem mS:aO gJ fg (av jK):=lH
theorem rF:rZ ["_law_one"] gJ:=by decide +kernel
theorem rG:rZ ["_law_own", "_law_one"] gJ:=by decide +kernel
theorem kq:rZ ["_law_one", "_law_other"] gJ:=by decide +kernel
abbrev nZ(c:CX):Prop:=dU c "_law_defends" fg 1 b8
theorem xn(D:mR c "_law_defends" fg jK)(T:mw c):nZ c:=
 cB.eq (Df.has (k:=0) D mS (λf h_ A outer s H E hr=>
  ao (uL (i:=3) ["_law_one", "_law_other"] mS.nd rfl rfl (by rfl) rfl (bq (cA (bo hr) (dv 0) aE (λ_ _=>rfl))) (λ_ _ _ _ _=>gZ rfl (bf (dg 0 kq) (bf (dg 1 kq) dQ)) (aR (aR cP))) (λ_ _ _ _ _=>b0 (aV (ju hr) (dv 1) (dv 4) (by rfl))) (λ_ _ _ _ _=>dv 0))
  (aq (aT (eI (ju hr) (bY ["_law_one"] (by rfl) rfl (bq (dv 3)) (λ_ _ _ _ _=>dg 0 rF) (λ_ _ _ _ _=>b0 (aV (ju hr) (bY ["_law_own"] (by rfl) rfl (bq (dv 2)) (λ_ _ _ _ _=>dg 0 rG) (λ_ _ _ _ _=>b0 (aV (nu hr) (fT (ae (dv 0) (ae (dv 1) aj))) (cA (bo hr) (dv 2) aE (λ_ _=>rfl)) (by rfl))) (λ_ _ _ _ _=>aE)) (cR 8 (d:=.list []) (Lit.of (by kernel_rfl)) (by decide +kernel)) (by rfl))) (λ_ _ _ _ _=>dv 0)) (cR 8 (d:=.list []) (Lit.of (by kernel_rfl)) (by decide +kernel)) (by rfl)))))) (by kernel_rfl)
abbrev n5:Stmt:=top 53
abbrev fh:Zd:=["_law_rows_here"]
theorem AE:aO fh fh (av n5):=lH
theorem xo:rZ ["_law_row"] fh:=by decide +kernel
theorem xq:rZ ["_law_other", "_law_row"] fh:=by decide +kernel
abbrev ue(c:CX):Prop:=dU c "_law_tops" fh 2 tQ
theorem Cy(D:mR c "_law_tops" fh n5)(T:mw c)(J49:kL c):ue c:=
 cB.eq (Df.has (k:=1) D AE (λf h_ A outer s H E hr=>
  aq (aT (bY ["_law_row"] (by rfl) rfl (bq (dv 0)) (λ_ _ _ _ _=>dg 0 xo) (λ_ _ _ _ _=>b0 (aV (ju hr) (bY ["_law_other"] (by rfl) rfl (bq (dv 1)) (λ_ _ _ _ _=>dg 0 xq) (λ_ _ _ _ _=>b0 (DW.dt (nh (aV (GU hr) (dv 0) (dv 1) (by rfl)) (j6 (bO (i7 J49 cL hr (ae (dv 1) (ae (dv 0) aj)))))))) (λ_ _ _ _ _=>aE)) (cR 8 (d:=.list []) (Lit.of (by kernel_rfl)) (by decide +kernel)) (by rfl))) (λ_ _ _ _ _=>dv 0))))) (by kernel_rfl)
abbrev jL:Stmt:=top 54
abbrev fi:Zd:=["_law_web_here", "_law_kind"]
abbrev n6:Zd:=ap fi ["_law_calm", "_law_firm", "_law_full", "_law_lot", "_law_hits"]
theorem c6:aO n6 fi (av jL):=lH
theorem ku:(["_law_lot", "_law_hit", "_law_web_here", "_law_kind", "_law_calm", "_law_firm", "_law_full", "!_law_lot", "_law_hits"]:Zd).Nodup:=by decide +kernel
theorem gL:(["_law_lot", "_law_web_here", "_law_kind", "_law_calm", "_law_firm", "_law_full", "!_law_lot", "_law_hits"]:Zd).Nodup:=by decide +kernel
theorem ky:(["_law_one", "_law_other", "_law_lot", "_law_web_here", "_law_kind", "_law_calm", "_law_firm", "_law_full", "!_law_lot", "_law_hits"]:Zd).Nodup:=by decide +kernel
theorem rH:rZ ["_law_name"] n6:=by decide +kernel
theorem rJ:(["_law_name", "_law_lot", "_law_web_here", "_law_kind", "_law_calm", "_law_firm", "_law_full", "!_law_lot", "_law_hits"]:Zd).Nodup:=by decide +kernel
abbrev n9(c:CX):Prop:=dU c "_law_lots_of" fi 3 dF
theorem xt(D:mR c "_law_lots_of" fi jL)(T:mw c)(J53:ue c)(J52:nZ c)(J50:jI c)(J51:nY c):n9 c:=
 cB.eq ((Df.has (k:=2) D c6 (λf h_ A outer s H E hr=>
  ao (vF (i:=2) ["_law_lot"] ["_law_web_here", "_law_kind", "_law_calm", "_law_firm", "_law_full", "!_law_lot", "_law_hits"] c6.nd rfl rfl (by rfl) (by rfl) rfl (bq (i7 J50 bz hr (ae (cA (bo hr) (dv 0) aE (λ_ _=>rfl)) aj))) (λ_ _ _ _ _=>dg 0 gL) (λ_ _ _ _ _=>b0 (bO (i7 J51 cL hr (ae (dv 1) (ae (dv 0) aj))))) (λ_ _ _ _ _=>dv 0))
  (ao (vF (i:=3) ["_law_lot"] ["_law_web_here", "_law_kind", "_law_calm", "_law_firm", "_law_full", "!_law_lot", "_law_hits"] c6.nd rfl rfl (by rfl) (by rfl) rfl (bq (dv 2)) (λ_ _ _ _ _=>dg 0 gL) (λ_ _ _ _ _=>b0 (aV (ju hr) (bY ["_law_name"] (by rfl) rfl (bq (dv 0)) (λ_ _ _ _ _=>dg 0 rJ) (λ_ _ _ _ _=>b0 (fS (bO (i7 J52 cL hr (ae (dv 2) (ae (dv 1) (ae (dv 0) aj))))))) (λ_ _ _ _ _=>dv 0)) (cR 8 (d:=.list []) (Lit.of (by kernel_rfl)) (by decide +kernel)) (by rfl))) (λ_ _ _ _ _=>dv 0))
  (ao (fU 4 c6.nd (vB aj))
  (ao (fy rfl (bq (dv 3)) (dg 5 c6.nd) (aq (eO (aV (ju hr) (bY ["_law_name"] (by rfl) rfl (bq (cA (bo hr) (dv 0) aE (λ_ _=>rfl))) (λ_ _ _ _ _=>dg 0 rH) (λ_ _ _ _ _=>b0 (DW.dt (nh (aV (qT hr) (dv 0) (dv 6) (by rfl)) (j6 (bO (i7 J52 cL hr (ae (dv 1) (ae (dv 6) (ae (dv 0) aj))))))))) (λ_ _ _ _ _=>dv 0)) (cR 8 (d:=.list []) (Lit.of (by kernel_rfl)) (by decide +kernel)) (by rfl)) (aq (j7 (sI (dv 4) (dv 5)))) bX)))
  (ao (eO (DW.dt (mP (aV (ju hr) (dv 1) pN (by rfl)) (jq (aV (ju hr) (dv 1) pN (by rfl))))) (aq (aT (pP (nq hr) T.n_sorted kP (ae (Fi (aV (ju hr) (dv 1) pN (by rfl)) (dv 3) (i7 J53 bz hr (ae (dv 3) aj))) aj)))) bX)
  (ao (eO (aV (ju hr) (dv 1) pN (by rfl)) (aq (aT (pP (nq hr) T.n_sorted kP (ae (dv 4) aj)))) bX)
  (ao (eO (aV (ju hr) (dv 1) pN (by rfl)) (aq pQ) bX)
  (ao (vF (i:=6) ["_law_lot"] ["_law_web_here", "_law_kind", "_law_calm", "_law_firm", "_law_full", "!_law_lot", "_law_hits"] c6.nd rfl rfl (by rfl) (by rfl) rfl (bq (dv 2)) (λ_ _ _ _ _=>dg 0 gL) (λ_ _ _ _ _=>dR) (λ_ _ _ _ _=>bY ["_law_one", "_law_other"] (by rfl) rfl (bq (cA (bo hr) (dv 1) aE (λ_ _=>rfl))) (λ_ _ _ _ _=>gZ rfl (bf (dg 0 ky) (bf (dg 1 ky) dQ)) (aR (aR cP))) (λ_ _ _ _ _=>b0 (aV (nu hr) (dv 0) (dv 2) (by rfl))) (λ_ _ _ _ _=>dv 1)))
  (aq (aT (pP (nq hr) T.n_sorted kP (ae (IQ ["_law_lot", "_law_hit"] ["_law_web_here", "_law_kind", "_law_calm", "_law_firm", "_law_full", "!_law_lot", "_law_hits"] (by rfl) (by rfl) rfl (Mn (by rfl) T.n_zip (ae (dv 2) (ae (dv 6) aj))) (λ_ _ _ _ _=>gZ rfl (bf (dg 0 ku) (bf (dg 1 ku) dQ)) (aR (aR cP))) (λ_ _ _ _ _=>b0 (aV (ju hr) (bB gR (G8 rfl hr T.n_len T.n_set (dv 1)) (pP o7 T.n_len kA (ae (dv 0) aj))) (pP o7 T.n_len kA (ae (cA (bo hr) (dv 2) aE (λ_ _=>rfl)) aj)) (by rfl))) (λ_ _ _ _ _=>dv 0)) aj))))))))))))).iD) (by kernel_rfl)
abbrev jM:Stmt:=top 55
abbrev dI:Zd:=["_law_web_here", "_law_some"]
theorem uC:aO dI dI (av jM):=lH
theorem kz:rZ ["_law_one"] dI:=by decide +kernel
abbrev og(c:CX):Prop:=dU c "_law_changed" dI 1 fb
theorem xu(D:mR c "_law_changed" dI jM)(T:mw c):og c:=
 cB.eq (Df.has (k:=0) D uC (λf h_ A outer s H E hr=>
  aq (aT (fT (ae (cA (bo hr) (dv 0) aE (λ_ _=>rfl)) (ae (iC (oG rfl) T.n_tuple eW (ae (bB gR (bY ["_law_one"] (by rfl) rfl (bq (cA (bo hr) (dv 0) aE (λ_ _=>rfl))) (λ_ _ _ _ _=>dg 0 kz) (λ_ _ _ _ _=>b0 (aV (qT hr) (dv 0) (dv 2) (by rfl))) (λ_ _ _ _ _=>dv 0)) (bY ["_law_one"] (by rfl) rfl (bq (dv 1)) (λ_ _ _ _ _=>dg 0 kz) (λ_ _ _ _ _=>b0 (aV (qT hr) (dv 0) (cA (bo hr) (dv 1) aE (λ_ _=>rfl)) (by rfl))) (λ_ _ _ _ _=>dv 0))) aj)) aj)))))) (by kernel_rfl)
abbrev oh:Stmt:=top 56
abbrev iV:Zd:=["_law_pairs", "_law_most_picked"]
abbrev uf:Zd:=ap iV ["_law_by_many", "_law_nth", "_law_longer", "_law_row", "_law_found", "_law_rows_here"]
theorem cM:aO uf iV (av oh):=lH
theorem xw:rZ ["_law_pair"] uf:=by decide +kernel
abbrev ug(c:CX):Prop:=dU c "_law_rows" iV 1 kj
theorem Cz(D:mR c "_law_rows" iV oh)(T:mw c):ug c:=
 cB.eq ((Df.has (k:=0) D cM (λf h_ A outer s H E hr=>
  ao (fU 2 cM.nd (vB (ae (cR 8 (d:=.list [.tuple []]) (Lit.of (by kernel_rfl)) (by decide +kernel)) aj)))
  (ao (fy rfl (j8 (by rfl) T.n_range (ae (dv 1) aj)) (dg 3 cM.nd) (ao (fU 4 cM.nd (cR 8 (d:=.list []) (Lit.of (by kernel_rfl)) (by decide +kernel)))
  (ao (fy rfl (bq (cA (bo hr) (dv 2) (cR 8 (d:=.int (-1)) (Lit.of (by kernel_rfl)) (by decide +kernel)) (λ_ _=>rfl))) (dg 5 cM.nd) (aq (fU 4 cM.nd (bB gR (dv 4) (bY ["_law_pair"] (by rfl) rfl (bq (dv 0)) (λ_ _ _ _ _=>dg 0 xw) (λ_ _ _ _ _=>b0 (DW.dt (mP (aV (ju hr) (dv 6) (cR 8 (d:=.tuple []) (Lit.of (by kernel_rfl)) (by decide +kernel)) (by rfl)) (jq (aV (LS hr) (cA (bo hr) (dv 6) (cR 8 (d:=.int (-1)) (Lit.of (by kernel_rfl)) (by decide +kernel)) (λ_ _=>rfl)) (dv 0) (by rfl)))))) (λ_ _ _ _ _=>bB gR (dv 6) (fT (ae (dv 0) aj))))))))
  (aq (j7 (sI (dv 2) (dv 4)))))))
  (ao (fU 6 cM.nd (cR 8 (d:=.list []) (Lit.of (by kernel_rfl)) (by decide +kernel)))
  (ao (Mo rfl (dv 2) (dg 7 cM.nd) (aq (fU 6 cM.nd (bB gR (dv 6) (dv 7)))))
  (aq (aT (dv 6)))))))).iD) (by kernel_rfl)
abbrev qj:Stmt:=top 57
abbrev jN:Zd:=["_law_web_here", "_law_lot", "_law_kind", "_law_is_strict", "_law_most_picked"]
abbrev qk:Zd:=ap jN ["_law_pairs", "_law_one", "_law_row", "_law_told"]
theorem gj:aO qk jN (av qj):=lH
theorem yl:rZ ["_law_some"] qk:=by decide +kernel
theorem ym:rZ ["_law_other"] qk:=by decide +kernel
abbrev xy(c:CX):Prop:=dU c "_law_due" jN 4 gC
theorem Eh(D:mR c "_law_due" jN qj)(T:mw c)(J56:ug c)(J49:kL c)(J54:n9 c)(J55:og c):xy c:=
 cB.eq (Df.has (k:=3) D gj (λf h_ A outer s H E hr=>
  ao (fU 5 gj.nd (cR 8 (d:=.list []) (Lit.of (by kernel_rfl)) (by decide +kernel)))
  (ao (fy rfl (bq (cA (bo hr) (dv 0) aE (λ_ _=>rfl))) (dg 6 gj.nd) (aq (fU 5 gj.nd (bB gR (dv 5) (bY ["_law_other"] (by rfl) rfl (bq (cA (bo hr) (dv 0) aE (λ_ _=>rfl))) (λ_ _ _ _ _=>dg 0 ym) (λ_ _ _ _ _=>dR) (λ_ _ _ _ _=>fT (ae (dv 7) (ae (dv 0) aj))))))))
  (ao (fy rfl (bq (i7 J56 cL hr (ae (dv 5) (ae (dv 4) aj)))) (dg 7 gj.nd) (ao (fU 8 gj.nd (i7 J54 cL hr (ae (i7 J55 cL hr (ae (dv 0) (ae (dv 7) aj))) (ae (dv 2) aj))))
  (aq (eO (DW.dt (mP (aV (nu hr) (dv 1) (dv 8) (by rfl)) (jq (DW.dt (nh (fS (bO (dv 3))) (j6 (aV (GU hr) (bY ["_law_some"] (by rfl) rfl (bq (dv 8)) (λ_ _ _ _ _=>dg 0 yl) (λ_ _ _ _ _=>b0 (bO (i7 J49 cL hr (ae (dv 2) (ae (dv 0) aj))))) (λ_ _ _ _ _=>aE)) (cR 8 (d:=.list []) (Lit.of (by kernel_rfl)) (by decide +kernel)) (by rfl)))))))) (aq (aT (dv 7))) bX))))
  (aq (aT Fg)))))) (by kernel_rfl)
abbrev mE:Stmt:=top 58
abbrev gM:Zd:=["_law_box_here"]
abbrev rK:Zd:=ap gM ["_law_web_here", "_law_count", "_law_ahead", "_law_is_strict", "_law_kind", "_law_lot", "_law_due_here", "_law_told"]
theorem cx:aO rK gM (av mE):=lH
theorem uE:rZ ["_law_nth"] rK:=by decide +kernel
abbrev rL(c:CX):Prop:=dU c "_law_right" gM 7 mi
theorem AF(D:mR c "_law_right" gM mE)(T:mw c)(J50:jI c)(J42:xf c)(J57:xy c)(Zv:nW c)(J48:xi c):rL c:=
 cB.eq (Df.has (k:=6) D cx (λf h_ A outer s H E hr=>
  ao (FF (n:=2) rfl (ae (i7 J48 bz hr (ae (dv 0) (ae aE aj))) (ae (i7 Zv bz hr (ae (dv 0) (ae aE aj))) aj)) (bf (dg 1 cx.nd) (bf (dg 2 cx.nd) dQ)))
  (ao (FF (n:=2) rfl (ae (pP (Ae hr) T.n_repr uI (ae (dv 1) aj)) (ae (eI (ju hr) (i7 Zv bz hr (ae (dv 0) (ae aE aj))) aE (by rfl)) aj)) (bf (dg 3 cx.nd) (bf (dg 4 cx.nd) dQ)))
  (ao (fU 5 cx.nd (cA (bo hr) (cR 8 (d:=.list [.str "standing",.str "whole",.str "stable"]) (Lit.of (by kernel_rfl)) (by decide +kernel)) (i7 Zv bz hr (ae (dv 0) (ae aE aj))) (λ_ _=>rfl)))
  (ao (fy rfl (bq (i7 J50 cL hr (ae (cA (bo hr) (dv 1) aE (λ_ _=>rfl)) aj))) (dg 6 cx.nd) (ao (fU 7 cx.nd (i7 J57 cL hr (ae (dv 1) (ae (dv 6) (ae (dv 5) (ae (dv 4) (ae (dv 2) aj)))))))
  (ao (uL (i:=8) ["_law_nth"] cx.nd rfl rfl (by rfl) rfl (j8 (by rfl) T.n_range (ae aE aj)) (λ_ _ _ _ _=>dg 0 uE) (λ_ _ _ _ _=>dR) (λ_ _ _ _ _=>Jv J42 cL hr (ae (dv 2) (ae (dv 7) (ae (dv 6) aj))) (FA (dv 5) (FA (dv 3) PQ))))
  (aq (eO (aV (GU hr) (pP (Ae hr) T.n_repr uI (ae (dv 8) aj)) (pP (Ae hr) T.n_repr uI (ae (zU (ae (dv 7) (ae (dv 7) aj))) aj)) (by rfl)) (aq (aT cV)) bX)))))
  (aq (aT (eI (ju hr) (pP (Ae hr) T.n_repr uI (ae (dv 1) aj)) (dv 3) (by rfl))))))))) (by kernel_rfl)
abbrev rM:Stmt:=top 59
abbrev NH:Zd:=["_law_script"]
theorem Ei:aO (ap NH ["_law_k", "_law_lap"]) NH (av rM):=lH
theorem P5{f:Addr}{fd:FuncData}(Fu:Lm K "law" "law" rM f fd)(T:Txt K mg)(J58:rL (P,w,K,mg,base))(J46:xh (P,w,K,mg,base)):jV P w K mg base (uJ P w) 8 f fd ["_law_script"] (IS (P,w,mg,K) FG):=
 PH (Tx (k:=7) Fu Ei (λh_ A outer s H E hr=>
  ao (fy rfl (j8 (by rfl) T.n_range (ae (pP (RA rfl) T.n_max OU (ae aE (ae (pP (RB rfl) T.n_min OT (ae (pP o7 T.n_len kA (ae (dv 0) aj)) (ae aE aj))) aj))) aj)) (dg 1 Ei.nd) (aq (fy rfl (j8 (by rfl) T.n_range (ae aE aj)) (dg 2 Ei.nd) (aq (eO (fS (bO (i7 J58 cL hr (ae (i7 J46 cL hr (ae (dv 0) (ae (dv 1) (ae (dv 2) aj)))) aj)))) (aq (aT cV)) bX)))))
  (aq (aT cV)))) (by kernel_rfl)
end
end K34
namespace Ml
open PySem
@[simp] theorem TL(i:Nat)(ρ:Fm)(h:Hm):aa i ρ h=(match ρ[i]? with
 |some (some d)=>.ok d h
 |_=>.bad):=rfl
@[simp] theorem P6(d:PyData)(z0:Fm)(h:Hm):ak d z0 h=(.ok (.dat d) h):=rfl
@[simp] theorem Uu(n:Str)(z0:Fm)(h:Hm):UP n z0 h=(.ok (.fn n) h):=rfl
@[simp] theorem TM (z0:Fm)(h:Hm):ai  z0 h=(.ok [] h):=rfl
@[simp] theorem Sk(e:ME)(a:MA)(ρ:Fm)(h:Hm):ab e a ρ h=((e ρ h).bind λx h1=>(a ρ h1).bind λxs h2=>.ok (x::xs) h2):=rfl
@[simp] theorem TN(f:D->D->Hm->R D)(a b:ME)(ρ:Fm)(h:Hm):ah f a b ρ h=((a ρ h).bind λx h1=>(b ρ h1).bind λy h2=>f x y h2):=rfl
@[simp] theorem Uv(f:D->Hm->R D)(a:ME)(ρ:Fm)(h:Hm):Iu f a ρ h=((a ρ h).bind λx h1=>f x h1):=rfl
@[simp] theorem Sl(f:Fn)(a:MA)(ρ:Fm)(h:Hm):ag f a ρ h=((a ρ h).bind λxs h1=>f xs h1):=rfl
@[simp] theorem Sm(e:ME)(ρ:Fm)(h:Hm):aJ e ρ h=((e ρ h).bind λx h1=>match x with
 |.dat (.bool b)=>.ok b h1
 |_=>.bad):=rfl
@[simp] theorem TQ(t:MT)(ρ:Fm)(h:Hm):gm t ρ h=((t ρ h).bind λb h1=>.ok (!b) h1):=rfl
@[simp] theorem TR(t u:MT)(ρ:Fm)(h:Hm):lM t u ρ h=((t ρ h).bind λb h1=>if b then u ρ h1 else .ok false h1):=rfl
@[simp] theorem Uw(t u:MT)(ρ:Fm)(h:Hm):sj t u ρ h=((t ρ h).bind λb h1=>if b then .ok true h1 else u ρ h1):=rfl
@[simp] theorem TU(a:MA):cW a=(ag yC a:ME):=rfl
@[simp] theorem TV(a:MA):vo a=(ag vn a:ME):=rfl
@[simp] theorem Sn (ρ:Fm)(h:Hm):cz  ρ h=(.ok (.nx ρ) h):=rfl
@[simp] theorem TX(a b:MS)(ρ:Fm)(h:Hm):aU a b ρ h=((a ρ h).bind λf h1=>match f with
 |.nx c_=>b c_ h1
 |f=>.ok f h1):=rfl
@[simp] theorem TY(i:Nat)(e:ME)(ρ:Fm)(h:Hm):bC i e ρ h=((e ρ h).bind λx h1=>.ok (.nx (ρ.set i (some x))) h1):=rfl
@[simp] theorem So(e:ME)(ρ:Fm)(h:Hm):gP e ρ h=((e ρ h).bind λ_ h1=>.ok (.nx ρ) h1):=rfl
@[simp] theorem TZ(e:ME)(ρ:Fm)(h:Hm):bU e ρ h=((e ρ h).bind λx h1=>.ok (.rt x) h1):=rfl
@[simp] theorem Ux(t:MT)(a b:MS)(ρ:Fm)(h:Hm):lV t a b ρ h=((t ρ h).bind λc h1=>if c then a ρ h1 else b ρ h1):=rfl
@[simp] theorem RS (ρ:Fm)(h:Hm):O8  ρ h=(.ok (.bk ρ) h):=rfl
@[simp] theorem Sr (ρ:Fm)(h:Hm):Rq  ρ h=(.ok (.ct ρ) h):=rfl
@[simp] theorem Ss(i:Nat)(x:D)(ρ:Fm)(h:Hm):af i x ρ h=(.ok (ρ.set i (some x)) h):=rfl
@[simp] theorem T4 (xs:List D)(ρ:Fm)(h:Hm):gn  xs ρ h=(match xs with
 | []=>.ok ρ h
 |_=>.bad):=rfl
@[simp] theorem Su(g:MG)(gs:Hs)(xs:List D)(ρ:Fm)(h:Hm):bA g gs xs ρ h=(match xs with
 | []=>.bad
 |x::xs=>(g x ρ h).bind λc_ h1=>gs xs c_ h1):=rfl
@[simp] theorem T5(gs:Hs)(x:D)(ρ:Fm)(h:Hm):iB gs x ρ h=(match x with
 |.dat (.tuple ds)=>gs (ds.map D.dat) ρ h
 |_=>.bad):=rfl
@[simp] theorem T6(g:MG)(e:ME)(ρ:Fm)(h:Hm):oY g e ρ h=((e ρ h).bind λx h1=>(g x ρ h1).bind λc_ h2=>.ok (.nx c_) h2):=rfl
@[simp] theorem T7(is:List Nat)(a:MA)(ρ:Fm)(h:Hm):zL is a ρ h=((a ρ h).bind λxs h1=>match sA is xs ρ with
 |some c_=>.ok (.nx c_) h1
 |Option.none=>.bad):=rfl
@[simp] theorem Sv(e:ME)(ρ:Fm)(h:Hm):E1 e ρ h=((e ρ h).bind λx h1=>match x with
 |.dat (.tuple ds)=>.ok (ds.map D.dat) h1
 |_=>.bad):=rfl
@[simp] theorem Sw(e:ME)(ρ:Fm)(h:Hm):ay e ρ h=(match e ρ h with
 |.ok (.dat (.tuple ds)) h1=>.ok (ds.map D.dat) h1
 |.ok (.dat (.list ds)) h1=>.ok (ds.map D.dat) h1
 |.ok (.dat (.str s)) h1=>.ok (signs s) h1
 |.ok (.ktup ds) h1=>.ok (ds.map D.dat) h1
 |.exc x h1=>.exc x h1
 |_=>.bad):=rfl
@[simp] theorem Sx(a:MA)(ρ:Fm)(h:Hm):fY a ρ h=((a ρ h).bind λxs h1=>match xs with
 | [.dat (.int j)]=>if -(2^62)<=j/\j<2^62 then .ok (nums 0 j.toNat) h1 else .bad
 |_=>.bad):=rfl
@[simp] theorem Sy(a:MA)(ρ:Fm)(h:Hm):E3 a ρ h=((a ρ h).bind λxs h1=>match xs with
 | [.dat (.tuple ds),.dat (.tuple es)]=>.ok (uw ds es) h1
 |_=>.bad):=rfl
@[simp] theorem T8(it:MA)(g:MG)(b:MS)(ρ:Fm)(h:Hm):gp it g b ρ h=((it ρ h).oX.bind λxs h1=>cn g b xs ρ h1):=rfl
@[simp] theorem Sz (z0:Fm)(h:Hm):cq  z0 h=(.ok true h):=rfl
@[simp] theorem SD(p n:Nat)(b:MS)(xs:List D)(h:Hm):bI p n b xs h=(if xs.length=p then(b (xs.map some++List.replicate (n-p) none) h).bind E4 else .bad):=rfl
@[simp] theorem SE(x:D)(h:Hm):truth x h=(match x with
 |.dat .none=>some false
 |.dat (.bool b)=>some b
 |.dat (.int i)=>some (i != 0)
 |.dat (.str s)=>if kQ s.length then some ((s.length:Int) != 0)else Option.none
 |.dat (.tuple ds)=>some !ds.isEmpty
 |.dat (.list ds)=>some !ds.isEmpty
 |.ref i=>match h[i]? with
  |some (.lst xs)=>some !xs.isEmpty
  |_=>Option.none
 |_=>Option.none:Option Bool):=rfl
@[simp] theorem RT(e:ME)(ρ:Fm)(h:Hm):aX e ρ h=((e ρ h).bind λx h1=>match truth x h1 with
 |some b=>.ok b h1
 |Option.none=>.bad):=rfl
@[simp] theorem T9(a b:ME)(ρ:Fm)(h:Hm):Md a b ρ h=((a ρ h).bind λx h1=>match truth x h1 with
 |some c=>if c then .ok x h1 else b ρ h1
 |none=>.bad):=rfl
@[simp] theorem SF(a b:ME)(ρ:Fm)(h:Hm):mQ a b ρ h=((a ρ h).bind λx h1=>match truth x h1 with
 |some c=>if c then b ρ h1 else .ok x h1
 |none=>.bad):=rfl
@[simp] theorem RU(f g:D->D->Hm->R D)(a b c:ME)(ρ:Fm)(h:Hm):nv f g a b c ρ h=((a ρ h).bind λx h1=>(b ρ h1).bind λy h2=>(f x y h2).bind λz h3=>match z with
 |.dat (.bool k)=>if k then(c ρ h3).bind λw h4=>g y w h4 else .ok (.bool false) h3
 |_=>.bad):=rfl
@[simp] theorem Uy(e:ME)(lo hi:O9)(ρ:Fm)(h:Hm):Qz e lo hi ρ h=((e ρ h).bind λx h1=>(lo ρ h1).bind λl h2=>(hi ρ h2).bind λu h3=>Rr x l u h3):=rfl
@[simp] theorem SG (z0:Fm)(h:Hm):yD  z0 h=(.ok Option.none h):=rfl
@[simp] theorem SH(e:ME)(ρ:Fm)(h:Hm):yE e ρ h=((e ρ h).bind λx h1=>match x with
 |.dat (.int i)=>.ok (some i) h1
 |_=>.bad):=rfl
@[simp] theorem Uz(x:D)(lo hi:Option Int)(h:Hm):Rr x lo hi h=(match x with
 |.dat (.tuple ds)=>.ok (.dat (.tuple (cut ds lo hi))) h
 |.dat (.list ds)=>.ok (.dat (.list (cut ds lo hi))) h
 |_=>.bad:R D):=rfl
@[simp] theorem Ua(f:PyData->Bool)(x:D)(h:Hm):vt f x h=(match x with
 |.dat d=>.ok (.bool (f d)) h
 |_=>.bad):=rfl
@[simp] theorem P7(x y:D)(h:Hm):x6 x y h=(match x,y with
 |.dat (.int i),.dat (.int j)=>.ok (.int (i-j)) h
 |_,_=>.bad:R D):=rfl
@[simp] theorem UA(x y:D)(h:Hm):E6 x y h=(match x,y with
 |.dat (.int i),.dat (.int j)=>.ok (.bool (decide (j<i))) h
 |_,_=>.bad:R D):=rfl
@[simp] theorem QE(ρ:Fm):sA [] [] ρ=some ρ:=rfl
@[simp] theorem QF(i:Nat)(is:List Nat)(x:D)(xs:List D)(ρ:Fm):sA (i::is) (x::xs) ρ=sA is xs (ρ.set i (some x)):=rfl
@[simp] theorem SI(d:D)(h:Hm):E4 (.rt d) h=.ok d h:=rfl
@[simp] theorem SJ(ρ:Fm)(h:Hm):E4 (.nx ρ) h=.ok D.none h:=rfl
@[simp] theorem MB  : isTup .none=false:=rfl
@[simp] theorem MC(b:Bool):isTup (.bool b)=false:=rfl
@[simp] theorem NI(i:Int):isTup (.int i)=false:=rfl
@[simp] theorem NJ(s:Str):isTup (.str s)=false:=rfl
@[simp] theorem KG(xs:Y9):isTup (.tuple xs)=true:=rfl
@[simp] theorem MD(xs:Y9):isTup (.list xs)=false:=rfl
@[simp] theorem MF(xs:Y6):isTup (.dict xs)=false:=rfl
@[simp] theorem MH  : isStr .none=false:=rfl
@[simp] theorem MI(b:Bool):isStr (.bool b)=false:=rfl
@[simp] theorem NK(i:Int):isStr (.int i)=false:=rfl
@[simp] theorem NL(s:Str):isStr (.str s)=true:=rfl
@[simp] theorem KH(xs:Y9):isStr (.tuple xs)=false:=rfl
@[simp] theorem MJ(xs:Y9):isStr (.list xs)=false:=rfl
@[simp] theorem MK(xs:Y6):isStr (.dict xs)=false:=rfl
@[simp] theorem NM(i:Int):isInt (.int i)=true:=rfl
@[simp] theorem NO(i:Int):Nz (.int i)=false:=rfl
@[simp] theorem rep0{α:Type}(a:α):List.replicate 0 a=[]:=rfl
@[simp] theorem rep2{α:Type}(a:α):List.replicate 2 a=[a,a]:=rfl
theorem sz(h:n<=16777216):kQ n=true:=Wl h
@[simp] theorem oO(ds:Y9)(h:Hm)(hz:ds.length<=16777216):yC (ds.map D.dat) h=.ok (.dat (.tuple ds)) h:=by simp[yC,oC,sz hz]
theorem lu(ds:Y9)(h:Hm)(hz:ds.length<=16777216):qH (ds.map D.dat) h=.ok (.dat (.list ds)) h:=by simp[qH,oC,sz hz]
@[simp] theorem P8(a b:PyData)(h:Hm):yC [.dat a,.dat b] h=.ok (.dat (.tuple [a,b])) h:=oO [a,b] h (by simp)
@[simp] theorem P9(a:PyData)(h:Hm):qH [.dat a] h=.ok (.dat (.list [a])) h:=lu [a] h (by simp)
theorem uh(c:D->Bool)(f:D->D):∀{xs:List D},(∀x∈xs,∃c_,g x (List.replicate n none++ρ) h=.ok c_ h/\t c_ h=.ok (c x) h/\(c x=true->e c_ h=.ok (f x) h))->kB n ρ g t e xs h=.ok ((xs.filter c).map f) h
 | [],_=>rfl
 |x::xs,H=>by
  obtain⟨c_,h1,h2,h3⟩:=H x (Vj ..);have ih:=uh c f λy hy=>H y (U2 _ hy);unfold kB;rw[h1];simp;rw[h2];simp
  cases hc:c x with
  |false=>grind
  |true=>
   simp_all
theorem xA(hit:it ρ h=.ok xs h1)(hz:xs.length<=16777216)(c:D->Bool)(f:D->PyData)
 (H:∀x∈xs,∃c_,g x (List.replicate n none++ρ) h1=.ok c_ h1/\t c_ h1=.ok (c x) h1/\(c x=true->e c_ h1=.ok (.dat (f x)) h1)):aZ n it g t e ρ h=.ok (.dat (.list ((xs.filter c).map f))) h1:=by
 unfold aZ ag Bn;rw[hit];simp[sz hz];rw[uh c _ H];have e1:(List.map (λx=>D.dat (f x)) (List.filter c xs))=((xs.filter c).map f).map D.dat:=by simp
 rw[e1]
 exact lu _ _ (by
  rw[Ve]
  exact U8 (Vn _ _) hz)
theorem dJ{ds:Y9}(hit:it ρ h=.ok (ds.map D.dat) h1)(hz:ds.length<=16777216)(f:PyData->PyData)
 (H:∀x∈ds,∃c_,g (.dat x) (List.replicate n none++ρ) h1=.ok c_ h1/\e c_ h1=.ok (.dat (f x)) h1):aZ n it g cq e ρ h=.ok (.dat (.list (ds.map f))) h1:=by
 have:=xA (n:=n) (t:=cq) (g:=g) (e:=e) hit (by grind) (λ_=>true) (λx=>match x with|.dat d=>f d|_=>.none) (λx hx=>by
  obtain⟨d,hd,rfl⟩:=Vl.mp hx
  simp_all)
 rw[this,show _=λ_=>true from rfl,List.filter_eq_self.mpr (λ_ _=>rfl),X2];rfl
theorem bQ{ds:Y9}(hit:it ρ h=.ok (ds.map D.dat) h1)(hz:ds.length<=16777216)(c:PyData->Bool)(f:PyData->PyData)
 (H:∀x∈ds,∃c_,g (.dat x) (List.replicate n none++ρ) h1=.ok c_ h1/\t c_ h1=.ok (c x) h1/\(c x=true->e c_ h1=.ok (.dat (f x)) h1)):aZ n it g t e ρ h=.ok (.dat (.list ((ds.filter c).map f))) h1:=by
 have:=xA (n:=n) (t:=t) (g:=g) (e:=e) hit (by grind) (λx=>match x with|.dat d=>c d|_=>false) (λx=>match x with|.dat d=>f d|_=>.none) (λx hx=>by
  obtain⟨d,hd,rfl⟩:=Vl.mp hx
  grind)
 simp[this,List.filter_map,Yp]
theorem xB(bs:List Bool)(h:Hm):sC [.dat (.list (bs.map .bool))] h=.ok (.bool (bs.all id)) h:=by simp[sC,yF]
theorem Ej(bs:List Bool)(h:Hm):GO [.dat (.list (bs.map .bool))] h=.ok (.bool (bs.any id)) h:=by simp[GO,yF]
theorem zh{ds:Y9}(hit:it ρ h=.ok (ds.map D.dat) h1)(hz:ds.length<=16777216)(f:PyData->Bool)
 (H:∀x∈ds,∃c_,g (.dat x) (List.replicate n none++ρ) h1=.ok c_ h1/\e c_ h1=.ok (.bool (f x)) h1):ag sC (ab (aZ n it g cq e) ai) ρ h=.ok (.bool (ds.all f)) h1:=by
 unfold ag ab;rw[dJ hit hz _ H];simp;have e1:ds.map (λx=>PyData.bool (f x))=(ds.map f).map .bool:=by simp
 rw[e1,xB]
 simp_all
theorem Hd{ds:Y9}(hit:it ρ h=.ok (ds.map D.dat) h1)(hz:ds.length<=16777216)(f:PyData->Bool)
 (H:∀x∈ds,∃c_,g (.dat x) (List.replicate n none++ρ) h1=.ok c_ h1/\e c_ h1=.ok (.bool (f x)) h1):ag GO (ab (aZ n it g cq e) ai) ρ h=.ok (.bool (ds.any f)) h1:=by
 unfold ag ab;rw[dJ hit hz _ H];simp;have e1:ds.map (λx=>PyData.bool (f x))=(ds.map f).map .bool:=by simp
 rw[e1,Ej]
 simp_all
theorem ia(I:Nat->Fm->Hm->Prop):∀(xs:List D) (i:Nat) (ρ:Fm) (h:Hm),(∀(j:Nat) (x:D),xs[j]?=some x->∀ρ h,I (i+j) ρ h->∃c_ h1 Da h2,g x ρ h=.ok c_ h1/\(b c_ h1=.ok (.nx Da) h2\/b c_ h1=.ok (.ct Da) h2)/\I (i+j+1) Da h2)->I i ρ h ->
  ∃s_ h',cn g b xs ρ h=.ok (.nx s_) h'/\I (i+xs.length) s_ h'
 | [],i,ρ,h,_,a=>(ρ,h,rfl,by omega)
 |x::xs,i,ρ,h,H,a=>by
  obtain⟨c_,h1,Da,h2,e1,e2,a2⟩:=H 0 x rfl ρ h #[1]
  obtain⟨s_,h',e3,a3⟩:=ia I xs (i+1) Da h2 (λj y e ρ h a=>by
   have:=H (j+1) y (by simpa using e) ρ h (by rw[show i+(j+1)=i+1+j by omega];exact a)
   rwa [show i+(j+1)+1=i+1+j+1 by omega]at this) (by simpa using a2)
  refine(s_,h',?_,by rw[Vp,show i+(xs.length+1)=i+1+xs.length by omega];exact a3);unfold cn;rw[e1];simp only[R.dC,R.aW];rcases e2 with e2|e2<;>rw[e2]<;>exact e3
mutual
noncomputable def uF:PyData->Bool
 |.none|.bool _=>true
 |.int i=>decide (i.natAbs<10^30)
 |.str x=>PyData.strOk x
 |.tuple ds=>iW ds
 |.list ds=>iW ds
 |.dict _=>false
noncomputable def iW:Y9->Bool
 | []=>true
 |d::ds=>uF d&&iW ds
end
theorem He(h:uF (.int i)=true):PyData.showable (.int i)=true/\PyData.intsShort 31 (.int i)=true:=by
 simp only[uF,Vy]at h;refine(?_,?_)
 ·simp[PyData.showable];by_cases z:i.natAbs=0
  ·simp_all
  ·rw[Nat.log2_lt z]
   grind
 ·simp[PyData.intsShort];have e:=PySem.int_text_length_le10 (by decide) h;show(Str.ofString _).length<=31;rw[ofString_length];exact e
mutual
theorem oP:∀{d:PyData},uF d=true->d.showable=true/\d.intsShort 31=true
 |.none,_=>by trivial
 |.bool _,_=>by trivial
 |.int _,h=>He h
 |.str x,h=>by trivial
 |.tuple ds,h=>mF h
 |.list ds,h=>mF h
 |.dict _,h=>by trivial
theorem mF:∀{ds:Y9},iW ds=true->PyData.showableAll ds=true/\PyData.intsShortAll 31 ds=true
 | [],_=>by trivial
 |d::ds,h=>by simp only[iW,U1]at h;simp only[PyData.showableAll,PyData.intsShortAll,U1];exact(((oP h.1).1,(mF h.2).1),(oP h.1).2,(mF h.2).2)
end
mutual
theorem xC:∀{d:PyData},uF d=true->d.canLay0=true
 |.none,_=>by rfl
 |.bool _,_=>by rfl
 |.int _,h=>by rfl
 |.str x,h=>by assumption
 |.tuple ds,h=>sX h
 |.list ds,h=>sX h
 |.dict _,h=>by assumption
theorem sX:∀{ds:Y9},iW ds=true->PyData.canLayAll0 ds=true
 | [],_=>by rfl
 |d::ds,h=>by simp only[iW,U1]at h;simp only[PyData.canLayAll0,U1];exact(xC h.1,sX h.2)
end
theorem rO:∀(a b:Y9),iW (a++b)=(iW a&&iW b)
 | [],b=>by rfl
 |d::a,b=>by simp[iW,rO a b,Bool.and_assoc]
theorem ui:∀(a b:Y9),PyData.weightAll (a++b)=PyData.weightAll a+PyData.weightAll b
 | [],b=>by simp[PyData.weightAll]
 |d::a,b=>by simp[PyData.weightAll,ui a b];omega
theorem uj:∀(a b:Y9),PyData.depthAll (a++b)=max (PyData.depthAll a) (PyData.depthAll b)
 | [],b=>by rfl
 |d::a,b=>by simp only[YA,PyData.depthAll,uj a b];omega
theorem CA:∀(a:Y9),a.length<=PyData.weightAll a
 | []=>by simp
 |d::a=>by
  have:=CA a
  grind[PyData.weightAll,List.length_cons]
theorem zi:∀{ds:Y9} {d:PyData},iW ds=true->d∈ds->uF d=true
 |e::ds,d,h,m=>by
  simp[iW]at h;rcases Vb.mp m with rfl|m
  ·grind
  ·exact zi h.2 m
theorem CB:∀{ds:Y9},(∀d∈ds,uF d=true)->iW ds=true
 | [],_=>rfl
 |d::ds,h=>by simp[iW];exact(h d (Vj ..),CB λe m=>h e (U2 _ m))
theorem zj:∀{ds:Y9} {d:PyData},d∈ds->d.depth<=PyData.depthAll ds
 |e::ds,d,m=>by
  simp[PyData.depthAll];rcases Vb.mp m with rfl|m
  ·omega
  ·have:=zj m;omega
theorem gk:∀{ds:Y9} {m:Nat},(∀d∈ds,d.depth<=m)->PyData.depthAll ds<=m
 | [],m,_=>by simp[PyData.depthAll]
 |d::ds,m,h=>by simp[PyData.depthAll];have h1:=h d (Vj ..);have h2:=gk λe q=>h e (U2 _ q);omega
theorem xD:∀{ds:Y9} {d:PyData},d∈ds->d.weight+1<=PyData.weightAll ds
 |e::ds,d,m=>by
  simp[PyData.weightAll];rcases Vb.mp m with rfl|m
  ·omega
  ·have:=xD m;omega
theorem rP:∀{ds:Y9} {n:Nat},(∀d∈ds,d.weight<=n)->PyData.weightAll ds<=ds.length*(n+1)
 | [],n,_=>by simp[PyData.weightAll]
 |d::ds,n,h=>by simp[PyData.weightAll,Nat.succ_mul];have h1:=h d (Vj ..);have h2:=rP λe q=>h e (U2 _ q);omega
structure Ok(n m:Nat)(x:PyData):Prop where
 f:uF x=true
 d:x.depth<=m
 w:x.weight<=n
structure jO(n m:Nat)(ds:Y9):Prop where
 f:iW ds=true
 d:PyData.depthAll ds<=m
 w:PyData.weightAll ds<=n
section
variable {d:PyData}
theorem jO.tup(o:jO n m ds):Ok n (m+1) (.tuple ds):=(by simpa [uF]using o.f,by simp[PyData.depth];have:=o.d;omega,o.w)
theorem jO.lst(o:jO n m ds):Ok n (m+1) (.list ds):=(by simpa [uF]using o.f,by simp[PyData.depth];have:=o.d;omega,o.w)
theorem Ok.items(o:Ok n m (.tuple ds)):jO n (m-1) ds:=(by simpa [uF]using o.f,by have:=o.d;grind[PyData.depth],by have:=o.w;grind[PyData.weight])
theorem jO.append(x:jO n1 m a)(y:jO n2 m b):jO (n1+n2) m (a++b):=
 (by rw[rO,x.f,y.f];rfl,by rw[uj];exact Nat.max_le.mpr (x.d,y.d),by rw[ui];exact Nat.add_le_add x.w y.w)
theorem jO.one(x:Ok n m d):jO (n+1) m [d]:=(by simp[iW,x.f],by simp[PyData.depthAll];exact x.d,by simp[PyData.weightAll];exact x.w)
theorem jO.cons(x:Ok n m d)(y:jO n' m ds):jO (n+1+n') m (d::ds):=(jO.one x).append y
theorem jO.mono(x:jO n m a)(h1:n<=n')(h2:m<=m'):jO n' m' a:=(x.f,U8 x.d h2,U8 x.w h1)
theorem Ok.mono(x:Ok n m d)(h1:n<=n')(h2:m<=m'):Ok n' m' d:=(x.f,U8 x.d h2,U8 x.w h1)
theorem jO.mem(o:jO n m ds)(h:d∈ds):Ok n m d:=(zi o.f h,U8 (zj h) o.d,by have:=xD h;have:=o.w;omega)
theorem jO.len(o:jO n m ds):ds.length<=n:=U8 (CA ds) o.w
theorem jO.of(h:∀d∈ds,Ok n m d):jO (ds.length*(n+1)) m ds:=(CB λd q=>(h d q).f,gk λd q=>(h d q).d,rP λd q=>(h d q).w)
theorem Ok.RV(o:Ok n m d):noDict d=true:=by have:=PyData.hasDict_of_canLay d (xC o.f);simp[noDict,this]
theorem Ok.shown(o:Ok n m d)(h:n<=10000):d.shown.length<=16777216:=by
 have h1:=PyData.shown_le 31 (by decide) d (PyData.leavesShort_of_canLay0 31 d (xC o.f) (oP o.f).2);have h2:=o.w
 grind
theorem Ok.rep(o:Ok n m d)(h:n<=10000)(h2:m<=40):Bp d=true:=by have:=o.d;simp[Bp];exact((((oP o.f).1,o.RV),by omega),sz (o.shown h))
theorem Ok.str(o:Ok n m (.str s)):s.length<=n:=o.w
end
theorem xE(o:Ok n m d)(h:Hm)(hn:n<=10000)(hm:m<=40):mO [.dat d] h=.ok (.rpr d.shown) h:=by simp[mO,o.rep hn hm]
theorem Qb(ds:Y9)(z:Nat):cut ds none (some (z:Int))=ds.take z:=by
 grind[cut,gq]
theorem JU(ds:Y9)(z:Nat):cut ds (some (z:Int)) none=ds.drop z:=by
 simp only[cut,gq];rw[if_neg #[1],Wx];by_cases h:z<=ds.length
 ·rw[Nat.min_eq_left h,Xx (by simp)]
 ·rw[Nat.min_eq_right #[1],Ww (U4 _),Ww #[1]];simp
theorem JV(ds:Y9):cut ds (some 1) none=ds.drop 1:=JU ds 1
theorem FU(xs:Y9):PyData.eqv (.list xs) (.list [])=xs.isEmpty:=by cases xs<;>simp[PyData.eqv,PyData.eqvAll]
theorem oQ(o:jO n m xs)(h:Hm):oEq (.dat (.list xs)) (.dat (.list [])) h=.ok (.bool xs.isEmpty) h:=by
 have h1:PyData.hasDictAll xs=false:=by have:=o.lst.RV;grind[noDict,PyData.hasDict]
 simp[oEq,eqQ,h1,FU,noDict,PyData.hasDict,PyData.hasDictAll,PyData.depth,PyData.depthAll]
def az(c:Nat):Bool:=decide (97<=c)&&decide (c<=122)
def isName:PyData->Bool
 |.str x=>decide (1<=x.length)&&decide (x.length<=6)&&x.cps.toList.all az
 |_=>false
theorem UB(a c:Nat):decide ([a]<[c])=decide (a<c):=by
 rw[decide_eq_decide];constructor
 ·intro h
  cases h with
  |rel h=>exact h
  |cons h=>cases h
 ·intro h;exact .rel h
theorem Ub:("a" : Str).cps.toList=[97]:=by rfl
theorem Uc:("z" : Str).cps.toList=[122]:=by rfl
theorem UU(c:Nat):(!pG (⟨#[c]⟩:Str) ("a" : Str))=decide (97<=c):=by
 unfold pG;rw[Ub,show(_:Str).cps.toList=[c]from rfl,UB]
 grind
theorem ltZ(c:Nat):(!pG ("z" : Str) (⟨#[c]⟩:Str))=decide (c<=122):=by
 unfold pG;rw[Uc,show(_:Str).cps.toList=[c]from rfl,UB]
 grind
theorem Ek(x:Str):signs x=(jn x).map D.dat:=by simp[signs,jn]
theorem Em(x:Str):(jn x).length=x.length:=by simp[jn];rfl
theorem En(x:Str)(p:Nat->Bool)(q:PyData->Bool)(h:∀c,q (.str ⟨#[c]⟩)=p c):(jn x).all q=x.cps.toList.all p:=by
 rw[VO,Vg,Vg];constructor
 ·intro H c hc;obtain⟨i,hi,e⟩:=Ws.mp hc
  have:=H (.str ⟨#[c]⟩) (by
   simp only[jn,Vl,VI];refine(i,by simpa using hi,?_);have Do:i<x.cps.size:=by simpa using hi
   simp[Array.getD,Do]
   simpa using e)
  rw[h]at this;exact this
 ·intro H d hd;simp only[jn,Vl,VI]at hd;obtain⟨i,hi,rfl⟩:=hd;rw[h];apply H;have:x.cps.getD i 0=x.cps[i]:=by simp[Array.getD,hi]
  rw[this];simp
theorem uV(i j:Int)(h:Hm):oLe (.int i) (.int j) h=.ok (.bool (decide (i<=j))) h:=rfl
theorem FV(x y:Str)(h:Hm):oLe (.str x) (.str y) h=.ok (.bool (!pG y x)) h:=rfl
theorem xF(h:Hm)(hz:x.length<=16777216):iZ [.str x] h=.ok (.int x.length) h:=by simp[iZ,sz hz]
@[simp] theorem RW(ds:Y9)(h:Hm):iZ [.dat (.tuple ds)] h=.ok (.int ds.length) h:=rfl
def eJ{α:Type}(ds:List α)(f:α->Bool):Bool:=ds.all f
theorem cD:eJ ds f=true<->∀x∈ds,f x=true:=Vg
theorem jh:eJ (a::ds) f=true<->f a=true/\eJ ds f=true:=by simp[eJ]
theorem jP(ds:List α)(f:α->Bool)(h:Hm):sC [.dat (.list (ds.map λx=>.bool (f x)))] h=.ok (.bool (eJ ds f)) h:=by
 unfold eJ;have e1:ds.map (λx=>PyData.bool (f x))=(ds.map f).map .bool:=by simp
 rw[e1,xB]
 simp_all
theorem Eo(o:Ok n m d)(hn:n<=10000)(h:Hm):kX [.dat d] h=.ok (.bool (isName d)) h:=by
 unfold kX yT
 cases d with
 |str x=>
  have hx:x.length<=16777216:=U8 o.str #[1]
  have key:aZ 1 (ay (aa 0)) (af 0) cq (nv oLe oLe (ak (.str "a")) (aa 0) (ak (.str "z"))) [some (.str x)] h=.ok (.dat (.list ((jn x).map λd=>.bool (match d with|.str y=>!pG y "a" && !pG "z" y|_=>false)))) h:=by
   refine dJ (by simp[Ek]) (by rw[Em];exact hx) _ λy hy=>?_;simp only[jn,Vl,VI]at hy;obtain⟨i,hi,rfl⟩:=hy;generalize (⟨#[x.cps.getD i 0]⟩:Str)=y;refine(_,rfl,?_);by_cases z:pG y "a" = true
   ·simp[FV,z]
   ·simp[FV,z]
  by_cases h1:1<=(x.length:Int)
  ·by_cases h2:(x.length:Int)<=6
   ·simp[xF h hx,uV,h1,h2,key,jP];unfold eJ;rw[En x az _ (λc=>by simp only[az,UU,ltZ])];simp[isName,show 1<=x.length by omega,show x.length<=6 by omega]
   ·simp[xF h hx,uV,h1,h2,isName,show ¬ x.length<=6 by omega]
  ·simp[xF h hx,uV,h1,isName,show ¬ 1<=x.length by omega]
 |_=>simp[isName]
def yn(ds:Y9):Bool:=eJ (ds.zip ds.tail) λp=>ltB p.1 p.2
structure QG(ds:Y9):Prop where
 nd:∀d∈ds,noDict d=true/\d.depth<=40
 lt:∀d∈ds,∀e∈ds,cv d e=some (ltB d e)
theorem JW(h1:noDict d=true)(h2:noDict e=true)(h3:d.depth<=40)(h4:cv d e=some (ltB d e))(h:Hm):oLt (.dat d) (.dat e) h=.ok (.bool (ltB d e)) h:=by simp[oLt,h1,h2,h4,show min d.depth e.depth<=40 by omega]
theorem FW(i j:Int)(h:Hm):oLt (.int i) (.int j) h=.ok (.bool (decide (i<j))) h:=by rfl
theorem CC(h:∀d∈ds,∃x,d=.str x):QG ds:=(λd m=>by obtain⟨x,rfl⟩:=h d m;simp[noDict,PyData.hasDict,PyData.depth],λd m e m'=>by
 obtain⟨x,rfl⟩:=h d m
 grind[ltB,cv])
theorem FX:∀(xs ys:Y9),uw xs ys=((xs.zip ys).map λp=>PyData.tuple [p.1,p.2]).map D.dat
 | [],_=>by rfl
 |_::_,[]=>by rfl
 |x::xs,y::ys=>by simp[uw,FX xs ys]
theorem ML{xs:Y9}(h:p∈xs.zip xs.tail):p.1∈xs/\p.2∈xs:=by have:=YJ h;exact(this.1,List.mem_of_mem_tail this.2)
theorem mG(c:QG ds)(hz:ds.length<=16777216)(h:Hm):gb [.dat (.tuple ds)] h=.ok (.bool (yn ds)) h:=by
 unfold gb tG
 have key:aZ 2 (E3 (ab (aa 0) (ab (Qz (aa 0) (yE (ak (.int 1))) yD) ai))) (iB (bA (af 0) (bA (af 1) gn))) cq (ah oLt (aa 0) (aa 1)) [some (.dat (.tuple ds))] h=.ok (.dat (.list ((ds.zip ds.tail).map λp=>.bool (ltB p.1 p.2)))) h:=by
  rw[dJ (h1:=h) (ds:=(ds.zip ds.tail).map λp=>PyData.tuple [p.1,p.2]) (by simp[JV,FX]) (by grind) (λd=>.bool (match d with|.tuple [a,b]=>ltB a b|_=>false)) λy hy=>?_]
  ·rw[X2];rfl
  ·obtain⟨p,hp,rfl⟩:=Vl.mp hy;obtain⟨m1,m2⟩:=ML hp;refine(_,rfl,?_);simp[JW (c.nd _ m1).1 (c.nd _ m2).1 (c.nd _ m1).2 (c.lt _ m1 _ m2)]
 simp[key,jP,yn]
theorem all_filter(l:List α)(p:α->Bool)(f:α->β):((l.filter λx=>!p x).map f).isEmpty=eJ l p:=by
 unfold eJ
 induction l with
 |nil=>rfl
 |cons a l ih=>cases h:p a<;>simp[h,<- ih]
theorem AG(l:List α):jO (l.length*2) 0 (l.map λ_=>PyData.int 1):=by
 have:=jO.of (n:=1) (m:=0) (ds:=l.map λ_=>PyData.int 1) λd hd=>by obtain⟨_,_,rfl⟩:=Vl.mp hd;exact(by decide,by decide,by trivial)
 simp_all
theorem jO.sub{ds es:Y9}(o:∀d∈ds,Ok n m d)(h:∀e∈es,e∈ds):jO (es.length*(n+1)) m es:=jO.of λd hd=>o d (h d hd)
mutual
noncomputable def cm:PyData->PyData->Bool
 |.str _,.str _=>true
 |.int _,.int _=>true
 |.tuple xs,.tuple ys=>QH xs ys
 |_,_=>false
noncomputable def QH:Y9->Y9->Bool
 |x::xs,y::ys=>cm x y&&QH xs ys
 |_,_=>true
end
mutual
theorem Ep:∀{d e:PyData},cm d e=true->(cv d e).isSome=true
 |.str _,e,h=>by cases e<;>simp_all[cm,cv]
 |.int _,e,h=>by cases e<;>simp_all[cm,cv]
 |.tuple xs,e,h=>by
  cases e with
  |tuple ys=>simp only[cv];exact FY h
  |_=>assumption
 |.none,_,h=>by assumption
 |.bool _,_,h=>by assumption
 |.list _,_,h=>by assumption
 |.dict _,_,h=>by assumption
theorem FY:∀{xs ys:Y9},QH xs ys=true->(dN xs ys).isSome=true
 | [],[],_=>by rfl
 | [],_::_,_=>by rfl
 |_::_,[],_=>by rfl
 |x::xs,y::ys,h=>by
  simp only[QH,U1]at h;unfold dN;split
  ·exact FY h.2
  ·exact Ep h.1
end
theorem FZ(h:cm d e=true):cv d e=some (ltB d e):=by
 have:=Ep h;unfold ltB
 cases q:cv d e with
 |none=>grind
 |some b=>rfl
def iX:PyData->Bool
 |.str _=>true
 |_=>false
theorem cg(h:iX d=true):∃x,d=.str x:=by cases d<;>simp_all[iX]
theorem rQ:∀{xs ys:Y9},eJ xs iX=true->eJ ys iX=true->QH xs ys=true
 | [],_,_,_=>by rfl
 |_::_,[],_,_=>by rfl
 |x::xs,y::ys,h,k=>by have h:=jh.mp h;have k:=jh.mp k;obtain⟨a,rfl⟩:=cg h.1;obtain⟨b,rfl⟩:=cg k.1;simp[QH,cm,rQ h.2 k.2]
theorem QG.of(o:jO n m ds)(hm:m<=40)(h:∀d∈ds,∀e∈ds,cm d e=true):QG ds:=(λd q=>((o.mem q).RV,by have:=(o.mem q).d;omega),λd q e r=>FZ (h d q e r))
def iY(ns:Y9)(d:PyData):Bool:=ns.any λy=>PyData.eqv y d
theorem Er(o:Ok n m d):∀{ns:Y9},eJ ns iX=true->GN d ns=some (iY ns d)
 | [],_=>rfl
 |y::ns,h=>by
  have h:=jh.mp h;obtain⟨x,rfl⟩:=cg h.1;have ih:=Er o h.2
  have e:E5 (.str x) d=some (PyData.eqv (.str x) d):=by
   have hd  := o.RV;unfold E5;split
   ·rfl
   ·grind
   grind[eqQ,noDict,PyData.hasDict,PyData.depth]
  simp[GN,e,ih,iY]
theorem gN(o:Ok n m d)(h:eJ ns iX=true)(hm:Hm):j3 (.dat d) (.dat (.tuple ns)) hm=.ok (.bool (iY ns d)) hm:=by simp[j3,findIn,iE,lY,Er o h]
theorem uW(o:Ok n m d)(h:eJ ns iX=true)(hm:Hm):gr (.dat d) (.dat (.tuple ns)) hm=.ok (.bool (!iY ns d)) hm:=by simp[gr,findIn,iE,lY,Er o h]
theorem cN(h:eJ ns iX=true):iY ns d=true<->d∈ns:=by
 simp[iY];constructor
 ·rintro⟨y,hy,e⟩;obtain⟨x,rfl⟩:=cg (cD.mp h y hy);cases d<;>simp[PyData.eqv]at e
  grind
 ·intro q;obtain⟨x,rfl⟩:=cg (cD.mp h d q)
  grind[PyData.eqv]
theorem Es(h:isName d=true):iX d=true:=by cases d<;>simp_all[isName,iX]
theorem Et(h:eJ ds isName=true):eJ ds iX=true:=cD.mpr λd m=>Es (cD.mp h d m)
theorem CD(h:eJ ds iX=true):∀d∈ds,∃x,d=.str x:=λd m=>cg (cD.mp h d m)
def jQ:PyData->Bool
 |.tuple ds=>decide (ds.length<=12)&&eJ ds isName&&yn ds
 |_=>false
theorem AH(o:Ok n m d)(hn:n<=10000)(h:Hm):j9 [.dat d] h=.ok (.bool (jQ d)) h:=by
 unfold j9 tH
 cases d with
 |tuple ds=>
  have hl:=o.items.len;have key:=dJ (n:=1) (it:=ay (aa 0)) (g:=af 0) (e:=ag kX (ab (aa 0) ai)) (ρ:=[some (.dat (.tuple ds))]) (h:=h) (h1:=h) (ds:=ds) (by simp) #[1] (λx=>.bool (isName x)) (λx hx=>(_,rfl,by simp[Eo (o.items.mem hx) hn]));by_cases h1:ds.length<=12
  ·by_cases h2:eJ ds isName=true
   ·have:=mG (CC (CD (Et h2))) #[1] h;simp[key,jP,h1,show ¬ (12:Int)<ds.length by omega,h2,this,jQ]
   ·simp[key,jP,h1,show ¬ (12:Int)<ds.length by omega,h2,jQ]
  ·simp[h1,show(12:Int)<ds.length by omega,jQ]
 |_=>simp[jQ]
def zk(ns:Y9):PyData->Bool
 |.tuple ds=>eJ ds (iY ns)&&yn ds
 |_=>false
theorem Hf(o:Ok n m d)(hn:n<=10000)(hs:eJ ns iX=true)(h:Hm):qV [.dat d,.dat (.tuple ns)] h=.ok (.bool (zk ns d)) h:=by
 unfold qV BO
 cases d with
 |tuple ds=>
  have hl:=o.items.len;have key:=dJ (n:=1) (it:=ay (aa 0)) (g:=af 0) (e:=ah j3 (aa 0) (aa 2)) (ρ:=[some (.dat (.tuple ds)),some (.dat (.tuple ns))]) (h:=h) (h1:=h) (ds:=ds) (by simp) #[1] (λx=>.bool (iY ns x)) (λx hx=>(_,rfl,by simp[gN (o.items.mem hx) hs]));by_cases h2:eJ ds (iY ns)=true
  ·have:=mG (CC (λd m=>CD hs d ((cN hs).mp (cD.mp h2 d m)))) #[1] h;simp[key,jP,h2,this,zk]
  ·simp[key,jP,h2,zk]
 |_=>simp[zk]
theorem je(i j:Int)(h:Hm):oEq (.int i) (.int j) h=.ok (.bool (i==j)) h:=by rfl
def aB:PyData->Y9
 |.tuple ds=>ds
 |_=>[]
@[simp] theorem SK(ds:Y9)(i:Int)(h:Hm):dw (.dat (.tuple ds)) (.int i) h=match mU ds i with|some d=>.ok (.dat d) h|none=>.bad:=rfl
@[simp] theorem SM(ds:Y9)(i:Int)(h:Hm):dw (.dat (.list ds)) (.int i) h=match mU ds i with|some d=>.ok (.dat d) h|none=>.bad:=rfl
@[simp] theorem UC(a:α)(r:List α):mU (a::r) 0=some a:=by simp[mU,xS]
theorem qA{i:Nat}{a:α}(h:xs[i]?=some a):mU xs (i:Int)=some a:=by obtain⟨hi,e⟩:=U9.mp h;simp[mU,xS,hi,e]
@[simp] theorem UD(a b:α)(r:List α):mU (a::b::r) 1=some b:=qA rfl
def Wf(h:Hm):Prop:=∀o∈h,MO.below h.length o=true
structure Bx(i:Nat)(h:Hm):Prop where
 box:∃n:Int,h[i]?=some (.lst [.int n])
 wf:Wf h
def Bs(i:Nat)(h h':Hm):Prop:=∃n:Int,h'=h.set i (.lst [.int n])
theorem Bx.lt(b:Bx i h):i<h.length:=by obtain⟨⟨n,e⟩,_⟩:=b;exact(U9.mp e).1
theorem Bx.refl(b:Bx i h):Bs i h h:=by obtain⟨⟨n,e⟩,_⟩:=b;refine(n,?_);obtain⟨l,e⟩:=U9.mp e;rw[<- e];exact(List.set_getElem_self l).symm
theorem Bs.trans(a:Bs i h h')(b:Bs i h' h''):Bs i h h'':=by obtain⟨n,rfl⟩:=a;obtain⟨k,rfl⟩:=b;exact(k,by simp)
theorem Wf.set(w:Wf h)(b:MO.below h.length o=true):Wf (h.set i o):=λx hx=>by
 rw[List.length_set];rcases List.mem_or_eq_of_mem_set hx with m|rfl
 ·exact w x m
 grind
theorem D.mH(h:n<=m)(b:D.below n d=true):D.below m d=true:=by cases d<;>simp_all[D.below];omega
theorem MO.mH(h:n<=m)(b:MO.below n o=true):MO.below m o=true:=by
 cases o with
 |lst xs=>simp[MO.below]at b ⊢;exact λd q=>D.mH h (b d q)
 |iC t kvs=>rfl
 |ins C fs=>simp only[MO.below,Vg]at b ⊢;exact λd q=>D.mH h (b d q)
 |tab P q=>rfl
theorem Wf.push(w:Wf h)(b:MO.below (h.length+1) o=true):Wf (h++[o]):=λx hx=>by
 rw[Vh,List.length_singleton];rcases Vd.mp hx with m|m
 ·exact MO.mH (W5 _) (w x m)
 grind
theorem Bs.bx(s:Bs i h h')(b:Bx i h):Bx i h':=by obtain⟨n,rfl⟩:=s;exact((n,by rw[WV b.lt]),b.wf.set rfl)
theorem Bs.len(s:Bs i h h'):h'.length=h.length:=by obtain⟨n,rfl⟩:=s;simp
theorem Bx.push(b:Bx i h)(q:MO.below (h.length+1) o=true):Bx i (h++[o]):=by obtain⟨n,e⟩:=b.box;exact((n,by rw[Vz b.lt];exact e),b.wf.push q)
def Dr{α:Type}(i:Nat)(h:Hm)(r:R α)(P:α->Prop):Prop:=∃a h',r=.ok a h'/\Bs i h h'/\P a
theorem oR(b:Bx i h)(h0:0<c)(h1:c<1073741824):Dr i h (aP [.ref i,.int c] h) λd=>∃k:Nat,d=.int k/\(k:Int)<c:=by
 obtain⟨⟨n,e⟩,_⟩:=b;have hl:=(U9.mp e).1;refine(.int (n % c),h.set i (.lst [.int (n / c)]),?_,(n / c,rfl),(n % c).toNat,?_,?_)
 ·unfold aP tP;simp[dw,iE,zP,e,uK,h0,h1,pA,pI,E7,xS]
 ·rw[Int.toNat_of_nonneg (Int.emod_nonneg _ #[1])]
 ·rw[Int.toNat_of_nonneg (Int.emod_nonneg _ #[1])];exact Int.emod_lt_of_pos _ h0
theorem MM(ns:List Int)(k:Nat)(h:Hm):∃z:Int,kh [.scr ns,.int k] h=.ok (.int z) h:=by
 unfold kh tO;by_cases hk:k<ns.length
 ·exact(ns[k],by simp[iZ,FW,hk,dw,iE,zP,qA _])
 simp[iZ,FW,hk]
def xG:Y9:=[.int 48271,.int 69621,.int 16807,.int 39373,.int 30269,.int 40014,.int 40692,.int 50021,.int 61687,.int 71993,.int 83869,.int 95561,.int 30307]
theorem CF(i:Int)(h0:0<=i)(h1:i<13):∃n:Int,mU xG i=some (.int n)/\0<=n/\n<100000:=by
 obtain⟨k,rfl⟩:=Int.eq_ofNat_of_zero_le h0;have hk:k<13:=by omega
 have all:∀k<13,∃n:Int,xG[k]?=some (.int n)/\0<=n/\n<100000:=by
  intro k hk
  match k,hk with
  |0,_=>exact(_,rfl,by decide,by decide)
  |1,_=>exact(_,rfl,by decide,by decide)
  |2,_=>exact(_,rfl,by decide,by decide)
  |3,_=>exact(_,rfl,by decide,by decide)
  |4,_=>exact(_,rfl,by decide,by decide)
  |5,_=>exact(_,rfl,by decide,by decide)
  |6,_=>exact(_,rfl,by decide,by decide)
  |7,_=>exact(_,rfl,by decide,by decide)
  |8,_=>exact(_,rfl,by decide,by decide)
  |9,_=>exact(_,rfl,by decide,by decide)
  |10,_=>exact(_,rfl,by decide,by decide)
  |11,_=>exact(_,rfl,by decide,by decide)
  |12,_=>exact(_,rfl,by decide,by decide)
 obtain⟨n,e,h⟩:=all k hk;exact(n,qA e,h)
theorem oj(h:Hm)(hj:0<j):oMod (.int i) (.int j) h=.ok (.int (i % j)) h:=by simp[oMod,hj]
theorem sY(h:Hm)(hj:0<j)(h2:j<1073741824):j0 (.int i) (.int j) h=.ok (.int (i / j)) h:=by simp[j0,hj,h2]
theorem om(h:Hm)(hj:vq i j=true):i9 (.int i) (.int j) h=.ok (.int (i*j)) h:=by simp[i9,hj]
@[simp] theorem RX(i j:Int)(h:Hm):cJ (.int i) (.int j) h=.ok (.int (i+j)) h:=rfl
theorem AI(h0:-18446744073709551616<j)(h1:j<18446744073709551616):vq i j=true:=by
 simp_all[vq]
theorem mI(h0:-18446744073709551616<i)(h1:i<18446744073709551616):vq i j=true:=by
 simp_all[vq]
theorem Qc(c:Int)(k:Nat)(h:Hm):∃z:Int,g6 [.int c,.int k] h=.ok (.int z) h:=by
 unfold g6 v8;obtain⟨n,e,n0,n1⟩:=CF ((k:Int) % 13) (Int.emod_nonneg _ (by decide)) (Int.emod_lt_of_pos _ (by decide));simp[xG]at e
 refine(_,by
  simp[oj,e,om,AI (j:=n) #[1] #[1],sY,mI (i:=977) (by decide) (by decide),mI (i:=7919) (by decide) (by decide),mI (i:=48271) (by decide) (by decide),mI (i:=((c % 2147483647+12345)*n+977 * ↑k+7919*(↑k / 13)) % 1000000007) #[1] #[1]]
  rfl)
theorem Qd(ns:List Int)(k l:Nat)(h:Hm):∃n:Int,fW [.scr ns,.int k,.int l] h=.ok (.ref h.length) (h++[.lst [.int n]]):=by
 unfold fW v9;obtain⟨c,ec⟩:=MM ns k h;have hn:nums 0 90=(List.range 90).map λ(i:Nat)=>D.int (0+(i:Int)):=rfl
 obtain⟨s_,h',e,z,rfl,j,rfl⟩:=ia (g:=af 5) (b:=bC 4 (ah cJ (ah i9 (aa 4) (ak (.int 142857143))) (ag g6 (ab (aa 3) (ab (ah cJ (ah i9 (ak (.int 90)) (aa 2)) (aa 5)) ai)))))
  (λ_ ρ h'=>∃z:Int,h'=h/\∃j,ρ=[some (.scr ns),some (.int k),some (.int l),some (.int c),some (.int z),j]) (nums 0 90) 0 [some (.scr ns),some (.int k),some (.int l),some (.int c),some (.int 0),none] h (by
   rintro j x hx ρ h' ⟨z,eh,y,er⟩;subst eh;subst er;simp only[nums,VS,VC]at hx;obtain⟨i,_,rfl⟩:=hx;obtain⟨q,eq⟩:=Qc c (90*l+i) h';refine(_,h',[some (.scr ns),some (.int k),some (.int l),some (.int c),some (.int (z*142857143+q)),some (.int i)],h',rfl,.inl ?_,_,rfl,_,rfl);have e2:g6 [.int c,.int (90*(l:Int)+i)] h'=.ok (.int q) h':=by rw[show(90:Int)*l+i=((90*l+i:Nat):Int)by omega];exact eq
   simp[om,AI (i:=z) (j:=142857143) (by decide) (by decide),mI (i:=90) (j:=l) (by decide) (by decide),e2]) (0,rfl,none,rfl)
 by_cases h1:c % 2=0/\(l:Int)=0
 ·exact((if c<0 then -c else c) / 2,by simp[ec,oj,je,h1.1,h1.2,LN,sY,vn,sz])
 ·refine(z,?_);by_cases h2:c % 2=0
  ·have h3:¬ (l=0):=λq=>h1 (h2,by omega);simp[ec,oj,je,h2,h3,e,vn,sz,show(-(2^62):Int)<=90/\(90:Int)<2^62 by decide]
  ·simp[ec,oj,je,h2,e,vn,sz,show(-(2^62):Int)<=90/\(90:Int)<2^62 by decide]
theorem ly(h:Hm)(hz:xs.length+ys.length<=16777216):cJ (.dat (.list xs)) (.dat (.list ys)) h=.ok (.dat (.list (xs++ys))) h:=by simp[cJ,sz hz]
theorem CG(h:Hm)(hz:xs.length+ys.length<=16777216):cJ (.dat (.tuple xs)) (.dat (.tuple ys)) h=.ok (.dat (.tuple (xs++ys))) h:=by simp[cJ,sz hz]
def dX(kvs:Y6):Y9:=kvs.map (·.1)
theorem sZ:dX (dput kvs k v)=if kR k kvs then dX kvs else dX kvs++[k]:=by
 unfold dput dX;split
 ·rw[X2];congr 1
  funext p
  grind
 ·simp
theorem oS(tk:au k=true)(h:∀q∈dX kvs,au q=true):kR k kvs=true<->k∈dX kvs:=by
 simp only[kR,VL,dX,Vl];constructor
 ·rintro⟨p,hp,e⟩;exact(p,hp,(gu (h _ (List.mem_map_of_mem hp)) tk).mp e)
 ·rintro⟨p,hp,rfl⟩;exact(p,hp,bH tk)
theorem Eu(tk:au k=true)(h:∀q∈dX kvs,au q=true)(nd:(dX kvs).Nodup):(dX (dput kvs k v)).Nodup:=by
 rw[sZ];split
 ·exact nd
 ·rename_i hk;refine WA.mpr (nd,by simp,?_);intro a ha b hb;simp at hb;subst hb;rintro rfl;exact hk ((oS tk h).mpr ha)
theorem CH(h:q∈dX (dput kvs k v)):q∈dX kvs\/q=k:=by
 grind[sZ]
theorem CI(kvs:Y6)(k v:PyData):(dput kvs k v).length<=kvs.length+1:=by unfold dput;split<;>simp
theorem AJ:∀{ds:Y9},ds.Pairwise (λa b=>ltB a b=true)->yn ds=true
 | [],_=>rfl
 | [_],_=>rfl
 |a::b::r,h=>by rw[VG]at h;have ih:=AJ h.2;exact jh.mpr (h.1 b (by simp),ih)
theorem Hg(c:eG ds=true)(t:aI ds=true)(nd:ds.Nodup):yn (cQ ltB ds)=true:=by
 have p:=aY ltB ds;have u:=vA (jf c t);refine AJ ?_;refine Ya.mpr λ{a b} s=>?_;have both:=Ya.mp u s;have ha:=p.mem_iff.mp (s.subset (by simp:a∈[a,b]));have hb:=p.mem_iff.mp (s.subset (by simp:b∈[a,b]));rcases qJ c t ha hb both with q|q
 ·exact q
 grind
theorem Ew(c:eG ds=true)(t:aI ds=true)(hx:x∈ds)(hy:y∈ds)(hz:z∈ds)(h:ltB x y=true)(k:ltB y z=true):ltB x z=true:=by
 have h1:=vz c t hx hy h;have h2:=vz c t hy hz k;rcases qJ c t hx hz (Fd c t hx hy hz h1 h2)with q|q
 ·exact q
 grind
theorem JX(c:eG ds=true)(t:aI ds=true):∀{es:Y9},(∀e∈es,e∈ds)->yn es=true->es.Pairwise λa b=>ltB a b=true
 | [],_,_=>.nil
 | [_],_,_=>by simp
 |a::b::r,s,h=>by
  unfold yn at h;simp at h;have h:=jh.mp h;have ih:=JX c t (λe m=>s e (U2 _ m)) (by grind[yn]);refine VG.mpr (λd m=>?_,ih);rcases Vb.mp m with rfl|m'
  ·grind
  ·exact Ew c t (s a (by simp)) (s b (by simp)) (s d (by grind)) h.1 ((VG.mp ih).1 d m')
theorem JY(b:Bx i h)(e:f xs h=.ok (.dat x) (h1++t))(s:Bs i h h1):iD f xs h=.ok (.dat x) h1:=by
 have hl:=s.len;have w:=(s.bx b).wf;have e2  := Vg.mpr λo m=>hl▸w o m
 simp_all[iD,D.below]
namespace Nm
end Nm
theorem oq(h:iX d=true):aD d=true:=by cases d<;>simp_all[iX,aD]
theorem cU(h:iX d=true):au d=true:=by cases d<;>simp_all[iX,au]
theorem fH:∀{ds:Y9},eJ ds iX=true->aI ds=true
 | [],_=>by rfl
 |d::ds,h=>by have h:=jh.mp h;simp[aI,cU,h,fH]
theorem ql(h:eJ ds iX=true):PyData.depthAll ds=0:=by
 have:=gk (m:=0) λd q=>by obtain⟨x,rfl⟩:=cg (cD.mp h d q);simp[PyData.depth]
 omega
theorem zl(h:∀a∈ds,∀b∈ds,cm a b=true):eG ds=true:=Vg.mpr λa ha=>Vg.mpr λb hb=>Ep (h a ha b hb)
end Ml
namespace Ml
open PySem
theorem AK(e:a ρ h=.ok (.nx c_) h1):aU a b ρ h=b c_ h1:=by simp_all
theorem aH(ha:a ρ h=.ok x h1)(hb:b ρ h1=.ok y h2)(e:f x y h2=r):ah f a b ρ h=r:=by
 simp_all
theorem bK(he:e ρ h=.ok x h1)(ha:a ρ h1=.ok xs h2):ab e a ρ h=.ok (x::xs) h2:=by
 simp_all
theorem jR(ha:a ρ h=.ok xs h1):ag f a ρ h=f xs h1:=by simp_all
theorem MN(he:e ρ h=.ok x h1):bC i e ρ h=.ok (.nx (ρ.set i (some x))) h1:=by simp_all
section
theorem bg(e:m ρ h=.ok (.bool c) h1):aJ m ρ h=.ok c h1:=by simp_all
theorem Hh(e:m ρ h=.ok x h1)(k:Ml.truth x h1=some c):aX m ρ h=.ok c h1:=by simp only[aX,e,R.aW,k]
theorem F0(e:t ρ h=.ok c h1):gm t ρ h=.ok (!c) h1:=by simp_all
theorem RY(e:t ρ h=.ok true h1):lV t a b ρ h=a ρ h1:=by simp_all
theorem RZ(e:t ρ h=.ok false h1):lV t a b ρ h=b ρ h1:=by simp_all
theorem cH(e:it ρ h=.ok xs h1)(k:cn g a xs ρ h1=r):gp it g a ρ h=r:=by simp_all
theorem fQ(e:m ρ h=.ok (.dat (.list ds)) h1):ay m ρ h=.ok (ds.map D.dat) h1:=by simp_all
theorem oU(e:m ρ h=.ok (.dat (.tuple ds)) h1):ay m ρ h=.ok (ds.map D.dat) h1:=by simp_all
theorem MP(e:m ρ h=.ok x h1):bU m ρ h=.ok (.rt x) h1:=by simp_all
end
theorem zm(e:a ρ h=.ok [.dat (.int j)] h1)(q:(-(2^62):Int)<=j/\j<2^62):fY a ρ h=.ok (nums 0 j.toNat) h1:=by
 simp_all
theorem ou(e:a ρ h=.ok [.dat (.int (n:Int))] h1)(hn:n<1000000):fY a ρ h=.ok (nums 0 n) h1:=by
 have:=zm e #[1]
 rwa [Wx]at this
abbrev uk(d:PyData):Prop:=isName d=true
abbrev tj(p:PyData):Prop:=∃a b,uk a/\uk b/\p=.tuple [a,b]
theorem bV(h:uk x):iX x=true:=by
 cases x with
 |str y=>rfl
 |_=>assumption
theorem F1(h:uk x):Ok 6 0 x:=by
 obtain⟨y,rfl⟩:=cg (bV h);simp only[uk,isName,U1,Vy]at h;refine(?_,by simp[PyData.depth],h.1.2);simp only[uF,PyData.strOk];rw[Array.all_eq_true_iff_forall_mem];intro x hx;have:=Vg.mp h.2 x (by grind)
 grind[az]
theorem fu(h:tj p):aD p=true/\au p=true/\gY p=true/\gv p=true/\p.depth<=1/\Ok 14 1 p:=by obtain⟨a,b,ha,hb,rfl⟩:=h;have oa:=F1 ha;have ob:=F1 hb;have ok:Ok 14 1 _:=((jO.cons oa (jO.one ob)).mono #[1] (U4 _)).tup;exact(by simp[aD,bL,oq (bV ha),oq (bV hb)],by simp[au,aI,cU (bV ha),cU (bV hb)],rfl,rfl,ok.d,ok)
structure C9(U:PyData->Prop):Prop where
 c:∀a b,U a->U b->cm a b=true
 st:∀d,U d->aD d=true
 key:(∀d,U d->gY d=true)\/(∀d,U d->m9 d=true)
 typ:(∀d,U d->vw d=true)\/(∀d,U d->gv d=true)
 dep:∀d,U d->d.depth<=1
theorem zo:C9 uk:=(λa b ha hb=>by
  obtain⟨x,rfl⟩:=cg (bV ha);obtain⟨y,rfl⟩:=cg (bV hb)
  rfl,λd m=>oq (bV m),.inr λd m=>by obtain⟨x,rfl⟩:=cg (bV m);rfl,.inl λd m=>by obtain⟨x,rfl⟩:=cg (bV m);rfl,λd m=>by obtain⟨x,rfl⟩:=cg (bV m);simp[PyData.depth])
theorem de:C9 tj:=(λp q hp hq=>by
  obtain⟨a,b,ha,hb,rfl⟩:=hp;obtain⟨c,d,hc,hd,rfl⟩:=hq
  exact rQ (by simp[eJ,bV ha,bV hb]) (by simp[eJ,bV hc,bV hd]),λd m=>(fu m).1,.inl λd m=>(fu m).2.2.1,.inr λd m=>(fu m).2.2.2.1,λd m=>(fu m).2.2.2.2.1)
section
theorem C9.t(u:C9 U)(h:U d):au d=true:=bw (u.st d h)
theorem C9.C8(u:C9 U)(h:∀d∈xs,U d):aI xs=true:=j4 λd m=>u.t (h d m)
theorem C9.cmp(u:C9 U)(h:∀d∈xs,U d):eG xs=true:=zl λa ha b hb=>u.c a b (h a ha) (h b hb)
structure Rw(U:PyData->Prop)(xs:Y9):Prop where
 sub:∀d∈xs,U d
 ris:xs.Pairwise λa b=>ltB a b=true
theorem CJ(t:au a=true)(h:ltB a b=true):a≠b:=λe=>by
 have:=Fb t
 simp_all[ltB]
theorem fI(u:C9 U)(r:Rw U xs):xs.Nodup:=Xl (λ{a b} ha hb l=>CJ (u.t (r.sub a ha)) l) r.ris
theorem NP(u:C9 U)(r:Rw U xs):Up ltB xs:=Xl (λ{a b} ha hb l=>vz (u.cmp r.sub) (u.C8 r.sub) ha hb l) r.ris
theorem AL(r:Rw U xs):yn xs=true:=AJ r.ris
theorem F2(u:C9 U)(r:Rw U xs)(q:Rw U ys)(h:∀d,d∈xs<->d∈ys):xs=ys:=
 sE (jf (u.cmp r.sub) (u.C8 r.sub)) ((WX (fI u r) (fI u q)).mpr h) (NP u r) (NP u q)
theorem AM(u:C9 U)(h:∀d∈xs,U d)(nd:xs.Nodup):Rw U (cQ ltB xs):=
 (λd m=>h d ((aY _ _).mem_iff.mp m),JX (u.cmp h) (u.C8 h) (λd m=>(aY _ _).mem_iff.mp m) (Hg (u.cmp h) (u.C8 h) nd))
theorem pv:∀{ds:Y9},(∀d∈ds,aD d=true)->bL ds=true
 | [],_=>by rfl
 |d::ds,h=>by simp[bL,h d _,pv (ds:=ds) λe m=>h e (by simp[m])]
theorem C9.set(u:C9 U)(h:∀d∈xs,U d)(l:xs.length<=120):setOk xs=true:=by
 have h1:(xs.all gY || xs.all m9)=true:=by
  rcases u.key with k|k
  ·simp_all
  simp_all
 have h2  := pv λd m=>u.st d (h d m);have h3:PyData.depthAll xs<=8:=U8 (gk λd m=>u.dep d (h d m)) (by decide)
 simp_all[setOk]
theorem C9.Ud(u:C9 U)(h:∀d∈xs,U d)(l:xs.length<64):eY xs=true:=by
 have h1:(xs.all vw || xs.all gv)=true:=by
  rcases u.typ with k|k
  ·simp_all
  simp_all
 have h3:PyData.depthAll xs<=20:=U8 (gk λd m=>u.dep d (h d m)) (by decide)
 simp_all[eY,u.C8,u.cmp]
end
structure Nr(ns:Y9):Prop extends Rw uk ns where
 le:ns.length<=12
structure Wb(k:Nat)(ns ss:Y9):Prop where
 nr:Nr ns
 sr:Rw tj ss
 cl:∀a b,.tuple [a,b]∈ss->a∈ns/\b∈ns
 le:ss.length<=k
section
theorem Wb.sd(w:Wb k ns ss):eJ ns iX=true:=cD.mpr λd m=>bV (w.nr.sub d m)
theorem Wb.uX(w:Wb k ns ss)(h:a∈ns):Ok 6 0 a:=F1 (w.nr.sub a h)
theorem Wb.Sh(w:Wb k ns ss):Ok 84 1 (.tuple ns):=by have:=w.nr.le;exact((jO.of λd m=>w.uX m).mono #[1] (U4 _)).tup
theorem Wb.R0(w:Wb k ns ss)(hk:k<=600):jO 9000 1 ss:=by have:=w.le;exact(jO.of λd m=>(fu (w.sr.sub d m)).2.2.2.2.2).mono #[1] (U4 _)
theorem Wb.names(w:Wb k ns ss):jQ (.tuple ns)=true:=by have h1  := cD.mpr λd m=>w.nr.sub d m;simp[jQ,w.nr.le,AL w.nr.toRw,h1]
theorem Wb.get(w:Wb k ns ss){p:PyData}(h:p∈ss):∃a b,p=.tuple [a,b]/\a∈ns/\b∈ns:=by obtain⟨a,b,_,_,rfl⟩:=w.sr.sub p h;exact(a,b,rfl,w.cl a b h)
theorem R1(h:Hm):zN (D.int 2) (D.dat (.int 2)) h=.ok (.bool false) h:=by rfl
theorem Hi(w:Wb k ns ss)(ha:a∈ns)(hb:b∈ns)(h:Hm):iH [.dat (.tuple [a,b]),.dat (.tuple ns)] h=.ok (.bool true) h:=by unfold iH tI;simp[R1,gN (w.uX ha) w.sd,gN (w.uX hb) w.sd,(cN w.sd).mpr ha,(cN w.sd).mpr hb]
theorem Ex(w:Wb k ns ss)(hk:k<=600)(h:Hm):ik [.dat (.tuple ss),.dat (.tuple ns)] h=.ok (.bool true) h:=by
 unfold ik o8;have hl:=w.le
 have key:=dJ (n:=1) (it:=ay (aa 0)) (g:=af 0) (e:=ag iH (ab (aa 0) (ab (aa 2) ai))) (ρ:=[some (.dat (.tuple ss)),some (.dat (.tuple ns))]) (h:=h) (h1:=h) (ds:=ss) (by simp) #[1] (λx=>.bool ((λ_=>true) x)) (λx hx=>(_,rfl,by
  obtain⟨a,b,rfl,ha,hb⟩:=w.get hx
  simp[Hi w ha hb]))
 have al:eJ ss (λ_=>true)=true:=cD.mpr λ_ _=>rfl;have cp:QG ss:=QG.of (w.R0 hk) (by decide) λd hd e he=>by obtain⟨a,b,rfl,ha,hb⟩:=w.get hd;obtain⟨a',b',rfl,ha',R_⟩:=w.get he;have:=cD.mp w.sd;simp only[cm];exact rQ (by simp[eJ,this a ha,this b hb]) (by simp[eJ,this a' ha',this b' R_])
 have ir:=mG cp #[1] h;rw[AL w.sr]at ir;have bm:=jP ss (λ_=>true) h
 simp_all
theorem Qe(w:Wb k ns ss)(hk:k<=600)(h:Hm):qU [.dat (.tuple [.tuple ns,.tuple ss])] h=.ok (.bool true) h:=by have e1:=AH w.Sh (by decide) h;rw[w.names]at e1;unfold qU BN;simp[R1,e1,Ex w hk h]
theorem Qf(w:Wb k ns ss)(hk:k<=600)(h:Hm):ka [.dat (.tuple [.tuple ns,.tuple ss])] h=.ok D.none h:=by unfold ka tJ;simp[Qe w hk h]
end
def dy:PyData->PyData
 |.tuple [a,_]=>a
 |_=>.none
def gO:PyData->PyData
 |.tuple [_,b]=>b
 |_=>.none
theorem Qg(tx:au x=true)(ta:au a=true)(tb:au b=true)(h:ltB a b=true):ltB (.tuple [x,a]) (.tuple [x,b])=true:=by
 have n:=bE ta tb (CJ ta h)
 simp_all[ltB,cv,dN,bH]
theorem MQ(ta:au a=true)(tb:au b=true)(h:ltB a b=true):ltB (.tuple [a,x]) (.tuple [b,y])=true:=by
 have n:=bE ta tb (CJ ta h)
 simp_all[ltB,cv,dN]
section
theorem aK(e:a ρ h=.ok (.nx c_) h1)(k:b c_ h1=r):aU a b ρ h=r:=(AK e).trans k
theorem xH(e:a ρ h=.ok (.rt x) h1):aU a b ρ h=.ok (.rt x) h1:=by simp_all
theorem bS(e:m ρ h=.ok x h1):bC i m ρ h=.ok (.nx (ρ.set i (some x))) h1:=MN e
theorem rR(e:m ρ h=.ok x h1):gP m ρ h=.ok (.nx ρ) h1:=by simp_all
theorem qm(e:m ρ h=.ok x h1)(k:g x ρ h1=.ok c_ h2):oY g m ρ h=.ok (.nx c_) h2:=by simp_all
theorem cO(e:m ρ h=.ok x h1):bU m ρ h=.ok (.rt x) h1:=MP e
theorem CK(e:t ρ h=.ok true h1)(k:a ρ h1=r):lV t a b ρ h=r:=(RY e).trans k
theorem xI(e:t ρ h=.ok false h1)(k:b ρ h1=r):lV t a b ρ h=r:=(RZ e).trans k
theorem fx(l:xs.length=p)(e:b (xs.map some++List.replicate (n-p) none) h=.ok (.rt x) h1):bI p n b xs h=.ok x h1:=by
 simp_all
theorem aM(ha:ma ρ h=.ok xs h1)(k:f xs h1=.ok d h2):ag f ma ρ h=.ok d h2:=(jR ha).trans k
theorem iy{a b:PyData}(e1:m ρ h=.ok (.dat a) h1)(e2:m2 ρ h1=.ok (.dat b) h2):cW (ab m (ab m2 ai)) ρ h=.ok (.dat (.tuple [a,b])) h2:=(jR (bK e1 (bK e2 rfl))).trans (P8 _ _ _)
theorem Ey(e:t ρ h=.ok true h1):sj t u ρ h=.ok true h1:=by simp_all
theorem AN(e:t ρ h=.ok false h1)(k:u ρ h1=.ok c h2):sj t u ρ h=.ok c h2:=by simp_all
theorem JZ(e:t ρ h=.ok c h1)(k:u ρ h1=.ok d h1):sj t u ρ h=.ok (c || d) h1:=by cases c<;>simp[e,k]
theorem rS(e:t ρ h=.ok c h1)(k:u ρ h1=.ok d h1):lM t u ρ h=.ok (c&&d) h1:=by cases c<;>simp[e,k]
theorem fJ(e:m ρ h=.ok (.bool c) h1):aX m ρ h=.ok c h1:=Hh e rfl
end
end Ml
set_option maxHeartbeats 4000000
namespace Ml
open PySem
def mJ(ss lot:Y9)(x:PyData):Bool:=ss.any λp=>iY lot (dy p)&&PyData.eqv (gO p) x
def dM(ss lot:Y9)(x:PyData):Bool:=ss.any λp=>!mJ ss lot (dy p)&&PyData.eqv (gO p) x
def Ez(ns ss lot:Y9):Y9:=ns.filter λx=>!dM ss lot x
theorem mK{ρ:Fm}{f:PyData->Bool}:∀{ps:Y9} {acc:Y6},(∀p∈ps,∃a b,p=.tuple [a,b]/\uk a/\uk b/\c (some (.dat a)::some (.dat b)::ρ) h=.ok (f p) h)->(∀q∈dX acc,uk q)->acc.length+ps.length<1000 ->
  ∃kvs,il false 2 ρ (iB (bA (af 0) (bA (af 1) gn))) c (aa 1) (ak (.bool true)) (ps.map D.dat) acc h=.ok kvs h/\(∀q∈dX kvs,uk q)/\∀x,x∈dX kvs<->x∈dX acc\/∃p∈ps,f p=true/\gO p=x
 | [],acc,_,ha,_=>(acc,rfl,ha,by simp)
 |p::ps,acc,H,ha,hl=>by
  simp only[Vp]at hl;obtain⟨a,b,rfl,na,nb,e⟩:=H p (.head _);have H2:=λq m=>H q (U2 _ m)
  cases hf:f (.tuple [a,b])with
  |false=>
   rw[hf]at e;obtain⟨kvs,e1,e2,e3⟩:=mK (ps:=ps) (acc:=acc) H2 ha #[1];refine(kvs,?_,e2,λx=>(e3 x).trans (or_congr_right ?_))
   ·simp only[Vu];unfold il;simp[e,e1]
   ·constructor
    ·rintro⟨q,m,r⟩;exact(q,U2 _ m,r)
    ·rintro⟨q,m,r1,r2⟩;rcases Vb.mp m with rfl|m
     ·rw[hf]at r1;cases r1
     ·exact(q,m,r1,r2)
  |true=>
   rw[hf]at e;have tb:=cU (bV nb);have ta:∀q∈dX acc,au q=true:=λq m=>cU (bV (ha q m))
   have ha2:∀q∈dX (dput acc b (.bool true)),uk q:=λq m=>by
    rcases CH m with m|rfl
    ·exact ha q m
    ·exact nb
   have hk:keyOk false b=true:=by obtain⟨y,rfl⟩:=cg (bV nb);rfl
   obtain⟨kvs,e1,e2,e3⟩:=mK (ps:=ps) (acc:=dput acc b (.bool true)) H2 ha2 (by have:=CI acc b (.bool true);omega);refine(kvs,?_,e2,λx=>(e3 x).trans ?_)
   ·simp only[Vu];unfold il;simp[e,hk,nc,show acc.length<16777216 by omega,e1]
   ·have k1:x∈dX (dput acc b (.bool true))<->x∈dX acc\/b=x:=by
     rw[sZ];split
     ·rename_i z;have:=(oS tb ta).mp z;constructor
      ·exact .inl
      ·rintro(m|rfl)
       ·exact m
       ·exact this
     ·simp[eq_comm]
    rw[k1];constructor
    ·rintro((m|rfl)|⟨q,m,r⟩)
     ·exact .inl m
     ·exact .inr (_,.head _,hf,rfl)
     ·exact .inr (q,U2 _ m,r)
    ·rintro(m|⟨q,m,r1,r2⟩)
     ·exact .inl (.inl m)
     ·rcases Vb.mp m with rfl|m
      ·exact .inl (.inr r2)
      ·exact .inr (q,m,r1,r2)
theorem EA(hx:uk x)(h:Hm):j3 (.dat x) (.iC false kvs) h=.ok (.bool (kR x kvs)) h/\gr (.dat x) (.iC false kvs) h=.ok (.bool (!kR x kvs)) h:=by
 have hk:keyOk false x=true:=by obtain⟨y,rfl⟩:=cg (bV hx);rfl
 simp[j3,gr,findIn,iE,zO,hk]
theorem mL(ha:uk a)(hb:uk b):PyData.eqv a b=true<->a=b:=gu (cU (bV ha)) (cU (bV hb))
section
abbrev WD(ns ss:Y9):PyData:=.tuple [.tuple ns,.tuple ss]
theorem dS(w:Wb 25 ns ss)(hl:lot.Sublist ns):eJ lot iX=true:=cD.mpr λd m=>cD.mp w.sd d (hl.subset m)
theorem J0(w:Wb 25 ns ss)(hl:lot.Sublist ns)(h:Hm):∃kvs,ny [.dat (WD ns ss),.dat (.tuple lot)] h=.ok (.iC false kvs) h/\∀x,uk x->kR x kvs=mJ ss lot x:=by
 obtain⟨kvs,e1,e2,e3⟩:=mK (ρ:=[some (.dat (WD ns ss)),some (.dat (.tuple lot))]) (c:=aJ (ah j3 (aa 0) (aa 3))) (h:=h) (f:=λp=>iY lot (dy p)) (ps:=ss) (acc:=[]) (λp m=>by
  obtain⟨a,b,rfl,ha,hb⟩:=w.get m
  exact(a,b,rfl,w.nr.sub a ha,w.nr.sub b hb,by simp[gN (w.uX ha) (dS w hl),dy])) (by simp[dX]) (by have:=w.le;simp;omega)
 refine(kvs,?_,λx hx=>?_)
 ·unfold ny BV;simp[sL,e1]
 ·rw[VO,oS (cU (bV hx)) (λq m=>cU (bV (e2 q m))),e3];unfold mJ;rw[VL];constructor
  ·rintro(m|⟨p,m,r1,r2⟩)
   ·simp[dX]at m
   ·refine(p,m,?_);subst r2;obtain⟨a,b,rfl,ha,hb⟩:=w.get m;simp[r1,gO,(mL (w.nr.sub b hb) (w.nr.sub b hb)).mpr rfl]
  ·rintro⟨p,m,r⟩;simp only[U1]at r;obtain⟨a,b,rfl,ha,hb⟩:=w.get m;exact .inr (_,m,r.1,(mL (w.nr.sub b hb) hx).mp r.2)
theorem J1(w:Wb 25 ns ss)(hl:lot.Sublist ns)(h:Hm):jv [.dat (WD ns ss),.dat (.tuple lot)] h=.ok (.dat (.tuple (Ez ns ss lot))) h:=by
 obtain⟨kv,e1,e2⟩:=J0 w hl h;have hc:Ez ns ss lot=(ns.filter λx=>!dM ss lot x).map id:=by simp[Ez]
 obtain⟨kw,f1,f2,f3⟩:=mK (ρ:=[some (.dat (WD ns ss)),some (.dat (.tuple lot)),some (.dat (.tuple ns)),some (.dat (.tuple ss)),some (.iC false kv),none]) (c:=aJ (ah gr (aa 0) (aa 6))) (h:=h) (f:=λp=>!mJ ss lot (dy p)) (ps:=ss) (acc:=[]) (λp m=>by
  obtain⟨a,b,rfl,ha,hb⟩:=w.get m
  exact(a,b,rfl,w.nr.sub a ha,w.nr.sub b hb,by simp[(EA (w.nr.sub a ha) h).2,e2 a (w.nr.sub a ha),dy])) (by simp[dX]) (by have:=w.le;simp;omega)
 have kb:∀x,uk x->kR x kw=dM ss lot x:=λx hx=>by
  rw[VO,oS (cU (bV hx)) (λq m=>cU (bV (f2 q m))),f3];unfold dM;rw[VL];constructor
  ·rintro(m|⟨p,m,r1,r2⟩)
   ·simp[dX]at m
   ·refine(p,m,?_);subst r2;obtain⟨a,b,rfl,ha,hb⟩:=w.get m;rw[U1];exact(r1,(mL (w.nr.sub b hb) (w.nr.sub b hb)).mpr rfl)
  ·rintro⟨p,m,r⟩;simp only[U1]at r;obtain⟨a,b,rfl,ha,hb⟩:=w.get m;exact .inr (_,m,r.1,(mL (w.nr.sub b hb) hx).mp r.2)
 have key:=bQ (n:=1) (it:=ay (aa 2)) (g:=af 0) (t:=aJ (ah gr (aa 0) (aa 6))) (e:=aa 0) (ρ:=[some (.dat (WD ns ss)),some (.dat (.tuple lot)),some (.dat (.tuple ns)),some (.dat (.tuple ss)),some (.iC false kv),some (.iC false kw)]) (h:=h) (h1:=h) (ds:=ns) (by simp) (by have:=w.nr.le;omega) (λx=>!dM ss lot x) id (λx hx=>(_,rfl,by simp[(EA (w.nr.sub x hx) h).2,kb x (w.nr.sub x hx)],λ_=>rfl));rw[<- hc]at key;unfold jv v7;refine fx rfl (aK (qm rfl rfl) (aK (bS (aM rfl e1)) (aK (bS (x:=.iC false kw) ?_) (cO (aM (bK key rfl) rfl)))));simp[sL,f1]
theorem oV:(Ez ns ss lot).Sublist ns:=Wh
end
end Ml
namespace Ml
open PySem PySem.Spec L2
open Classical in
noncomputable def F3(n:Nat)(ρ:Fm)(g:MG)(t:MT)(e:ME)(j:Nat)(all:List D):List D->Hm->R (List D)
 | [],h=>if h[j]?=some (.lst all)then .ok [] h else .bad
 |x::xs,h=>if h[j]?=some (.lst all)then(g x (List.replicate n none++ρ) h).oX.bind λc_ h1=>(t c_ h1).oX.bind λc h2=>
  if c then(e c_ h2).oX.bind λy h3=>(F3 n ρ g t e j all xs h3).bind λys h4=>.ok (y::ys) h4
  else F3 n ρ g t e j all xs h2 else .bad
end Ml
namespace Ml
open PySem
def qu(ns:Y9)(d:PyData):Prop:=∃xs,d=.tuple xs/\xs.Sublist ns
section
theorem R3(ha:uk a)(hb:uk b)(h:Hm):oEq (.dat a) (.dat b) h=.ok (.bool (PyData.eqv a b)) h:=by obtain⟨x,rfl⟩:=cg (bV ha);obtain⟨y,rfl⟩:=cg (bV hb);rfl
theorem CL(w:Wb 25 ns ss)(hf:∀d∈fs,qu ns d)(hl:fs.length<64):eY fs=true:=by
 have st:∀d∈fs,∃xs,d=.tuple xs/\eJ xs iX=true:=λd m=>by obtain⟨xs,rfl,s⟩:=hf d m;exact(xs,rfl,dS w s)
 have h1:fs.all gv=true:=Vg.mpr λd m=>by obtain⟨xs,rfl,_⟩:=st d m;rfl
 have h2  := j4 λd m=>by obtain⟨xs,rfl,s⟩:=st d m;simp[au,fH s]
 have h3  := zl λa ha b hb=>by obtain⟨xs,rfl,s⟩:=st a ha;obtain⟨ys,rfl,t⟩:=st b hb;simpa [cm]using rQ s t
 have h4:PyData.depthAll fs<=20:=U8 (gk (m:=1) λd m=>by
  obtain⟨xs,rfl,s⟩:=st d m
  simp[PyData.depth,ql s]) (by decide)
 simp_all[eY]
theorem CM(w:Wb 25 ns ss)(hf:∀d∈fs,qu ns d)(hl:fs.length<64)(h:Hm):dz [.dat (.list fs)] h=.ok (.dat (.list (cQ ltB fs))) h/\(∀d∈cQ ltB fs,qu ns d)/\(cQ ltB fs).length<64:=
 (by simp[dz,listOf,CL w hf hl],λd m=>hf d ((aY _ _).mem_iff.mp m),by rw[(aY _ _).length_eq];exact hl)
end
section
theorem Hj(w:Wb 25 ns ss)(sx:xs.Sublist ns)(sy:ys.Sublist ns)(h:Hm):kg [.dat (.tuple xs),.dat (.tuple ys)] h=.ok (.bool (xs.all (iY ys))) h:=by
 have lx:=sx.length_le;have ln:=w.nr.le;have key:=zh (n:=1) (it:=ay (aa 0)) (g:=af 0) (e:=ah j3 (aa 0) (aa 2)) (ρ:=[some (.dat (.tuple xs)),some (.dat (.tuple ys))]) (h:=h) (h1:=h) (ds:=xs) (by simp) #[1] (iY ys) (λx hx=>(_,rfl,by simp[gN (w.uX (sx.subset hx)) (dS w sy)]))
 simp_all[kg,tM]
theorem J9(w:Wb 25 ns ss)(s:lot.Sublist ns)(h:Hm):fE [.dat (WD ns ss),.dat (.tuple lot)] h=.ok (.bool (lot.all (iY (Ez ns ss lot)))) h:=fx rfl (cO (aM (bK rfl (bK (aM rfl (J1 w s h)) rfl)) (Hj w s oV h)))
theorem MR(w:Wb 25 ns ss)(sx:xs.Sublist ns)(sy:ys.Sublist ns)(h:Hm):oEq (.dat (.tuple xs)) (.dat (.tuple ys)) h=.ok (.bool (PyData.eqv (.tuple xs) (.tuple ys))) h/\zN (.dat (.tuple xs)) (.dat (.tuple ys)) h=.ok (.bool (!PyData.eqv (.tuple xs) (.tuple ys))) h:=by
 have t1:au (.tuple xs)=true:=by simp[au,fH (dS w sx)]
 have t2:au (.tuple ys)=true:=by simp[au,fH (dS w sy)]
 have d1:(PyData.tuple xs).depth<=1:=by simp[PyData.depth,ql (dS w sx)]
 have m:min (PyData.tuple xs).depth (PyData.tuple ys).depth<=40:=by omega
 simp_all[oEq,zN,eqQ,noDict,bW]
theorem Ka(w:Wb 25 ns ss)(s:lot.Sublist ns)(h:Hm):jw [.dat (WD ns ss),.dat (.tuple lot)] h=.ok (.bool (PyData.eqv (.tuple lot) (.tuple (Ez ns ss lot)))) h:=fx rfl (cO (aH rfl (aM rfl (J1 w s h)) (MR w s oV h).1))
theorem Hk(w:Wb 25 ns ss)(s:lot.Sublist ns)(h:Hm):gc [.dat (WD ns ss),.dat (.tuple lot)] h=.ok (.bool (ns.all λx=>iY lot x || mJ ss lot x)) h:=by
 obtain⟨kv,e1,e2⟩:=J0 w s h
 have key:=zh (n:=1) (it:=ay (ah dw (aa 0) (ak (.int 0)))) (g:=af 0) (e:=Md (ah j3 (aa 0) (aa 2)) (ah j3 (aa 0) (aa 3))) (ρ:=[some (.dat (WD ns ss)),some (.dat (.tuple lot)),some (.iC false kv)]) (h:=h) (h1:=h) (ds:=ns) (by simp) (by have:=w.nr.le;omega) (λx=>iY lot x || mJ ss lot x) (λx hx=>(_,rfl,by
  have k:=e2 x (w.nr.sub x hx)
  cases q:iY lot x<;>simp[gN (w.uX hx) (dS w s),q,(EA (w.nr.sub x hx) h).1,k]))
 simp_all[gc,tN]
theorem CN(w:Wf h)(e:f xs h=.ok (.dat x) (h++t)):iD f xs h=.ok (.dat x) h:=by
 have e2  := Vg.mpr λo m=>w o m
 simp_all[iD,D.below]
end
def nA:Y9:=[.str "a",.str "b",.str "c",.str "d",.str "e",.str "f",.str "g"]
def nB:Y9:=[.str "ann",.str "bo",.str "c",.str "dora",.str "elias",.str "f",.str "gwenda"]
theorem Qh(h:X=nA\/X=nB):Rw uk X/\X.length=7:=by
 rcases h with rfl|rfl
 ·exact((by trivial,by trivial),rfl)
 ·exact((by trivial,by trivial),rfl)
theorem Rw.tm(r:Rw U ys)(s:xs.Sublist ys):Rw U xs:=(λd m=>r.sub d (s.subset m),r.ris.sublist s)
abbrev lJ(kvs:Y6):Hm:=[.iC true kvs,.lst [.dat (.list nA),.dat (.list nB)]]
theorem UW(b:Bx i h):Bx i (h++lJ kvs):=by
 have:=(b.push (o:=.iC true kvs) rfl).push (o:=.lst [.dat (.list nA),.dat (.list nB)]) rfl
 simp_all
theorem Bs.Ue(b:i<h.length)(s:Bs i (h++t) h'):∃h1,h'=h1++t/\Bs i h h1:=by obtain⟨n,rfl⟩:=s;exact(_,List.set_append_left _ _ b,n,rfl)
theorem F4(b:Bx i h)(h0:0<c)(h1:c<1000):∃(k:Nat) (h1:Hm),aP [.ref i,.int c] (h++lJ kvs)=.ok (.int k) (h1++lJ kvs)/\Bs i h h1/\(k:Int)<c:=by obtain⟨_,h2,e,s,k,rfl,hk⟩:=oR (UW b) h0 #[1];obtain⟨h3,rfl,s3⟩:=s.Ue b.lt;exact(k,h3,e,s3,hk)
theorem rT{X:Y9}(h:k<c)(hc:c<=X.length):∃z,mU X (k:Int)=some z/\z∈X.take c:=
 (X[k],qA (Va _),List.mem_take_iff_getElem.mpr (k,by omega,rfl))
structure Kv(ns:Y9)(kvs:Y6):Prop where
 nd:(dX kvs).Nodup
 mem:∀q∈dX kvs,∃a b,a∈ns/\b∈ns/\q=.tuple [a,b]
theorem Kv.pp(k:Kv ns kvs)(r:Rw uk ns):∀q∈dX kvs,tj q:=λq m=>by obtain⟨a,b,ha,hb,rfl⟩:=k.mem q m;exact(a,b,r.sub a ha,r.sub b hb,rfl)
theorem Kv.len(k:Kv ns kvs)(l:ns.length<=5):kvs.length<=25:=by
 have h1:=fq (ys:=ns.flatMap λa=>ns.map λb=>PyData.tuple [a,b]) k.nd λq m=>by
  obtain⟨a,b,ha,hb,rfl⟩:=k.mem q m
  simp_all
 simp[dX]at h1;rw[List.map_const',List.sum_replicate_nat]at h1;exact U8 h1 (XS l l)
theorem AO(k:Kv ns kvs)(r:Rw uk ns)(l:ns.length<=5)(ha:a∈ns)(hb:b∈ns) :
  ∃o_,pI (.ref he.length) (.dat (.tuple [a,b])) (.bool true) (he++lJ kvs)=.ok () (he++lJ o_)/\Kv ns o_:=by
 have pt:=fu (a,b,r.sub a ha,r.sub b hb,rfl);have gt:(he++lJ kvs)[he.length]?=some (.iC true kvs):=by simp
 have st:(he++lJ kvs).set he.length (.iC true (dput kvs (.tuple [a,b]) (.bool true)))=he++lJ (dput kvs (.tuple [a,b]) (.bool true)):=by simp
 have kk:keyOk true (.tuple [a,b])=true:=by simp[keyOk,gY,pt.1];omega
 have kl:=k.len l;refine(dput kvs _ (.bool true),by simp[pI,IB,kk,show kvs.length<16777216 by omega],Eu pt.2.1 (λq m=>(fu (k.pp r q m)).2.1) k.nd,λq m=>?_);rcases CH m with m|rfl
 ·exact k.mem q m
 grind
abbrev R4:MS:=(aU (zL [7,8] (ab (ah dw (aa 5) (ag aP (ab (aa 0) (ab (aa 2) ai)))) (ab (ah dw (aa 5) (ag aP (ab (aa 0) (ab (aa 2) ai)))) ai)))
  (lV (sj (aJ (ah zN (aa 7) (aa 8))) (aJ (ah oEq (ag aP (ab (aa 0) (ab (ak (.int 3)) ai))) (ak (.int 0))))) (aU (oY (pA (aa 4) (cW (ab (aa 7) (ab (aa 8) ai)))) (ak (.bool true)))
  (oY (pA (aa 4) (Hr (aJ (ah oEq (aa 3) (ak (.int 4)))) (cW (ab (aa 8) (ab (aa 7) ai))) (cW (ab (aa 7) (ab (aa 8) ai))))) (ak (.bool true)))) cz))
abbrev R5:MS:=(oY (pA (aa 4) (cW (ab (ah dw (aa 5) (aa 9)) (ab (ah dw (aa 5) (ah oMod (ah cJ (aa 9) (ak (.int 1))) (aa 2))) ai)))) (ak (.bool true)))
abbrev wρ(m i c w p:Nat)(X:Y9)(y6 y7 y8 y9:Option D):Fm:=[some (.ref i),some (.int m),some (.int c),some (.int w),some (.ref p),some (.dat (.list X)),y6,y7,y8,y9]
theorem Kb(ha:uk a)(hb:uk b)(h:Hm):∃z,zN (.dat a) (.dat b) h=.ok (.bool z) h:=by obtain⟨x,rfl⟩:=cg (bV ha);obtain⟨y,rfl⟩:=cg (bV hb);simp[zN,eqQ,noDict,PyData.hasDict,PyData.depth]
theorem Kc(e:mU X k=some z)(h:Hm):dw (.dat (.list X)) (.dat (.int k)) h=.ok (.dat z) h:=by
 simp_all
theorem qo(e:t ρ h=.ok c h1)(k:(if c then a else b) ρ h1=r):Hr t a b ρ h=r:=by unfold Hr;rw[e];cases c<;>exact k
theorem rV(e1:eo ρ h=.ok o h)(e2:ei ρ h=.ok k h)(e3:pI o k v h=.ok () h1):pA eo ei v ρ h=.ok ρ h1:=by simp[pA,e1,e2,e3]
theorem MU(hX:X=nA\/X=nB)(hc:c<=5)(c0:0<c)(PP:ns=X.take c)(b:Bx i he)(k:Kv ns kvs) :
  ∃ZX o_ z7 z8,R4 (wρ m i c w he.length X y6 y7 y8 y9) (he++lJ kvs)=.ok (.nx (wρ m i c w he.length X y6 z7 z8 y9)) (ZX++lJ o_)/\Bs i he ZX/\Kv ns o_:=by
 obtain⟨rX,lX⟩:=Qh hX;have rN:Rw uk ns:=PP▸rX.tm (XH _ _);have lN:ns.length<=5:=by rw[PP,XT];omega
 obtain⟨u,h1,e1,s1,hu⟩:=F4 b (kvs:=kvs) (c:=c) #[1] #[1];obtain⟨p,ep,mp⟩:=rT (X:=X) (k:=u) (c:=c) #[1] #[1];have b1:=s1.bx b;obtain⟨v,h2,e2,s2,hv⟩:=F4 b1 (kvs:=kvs) (c:=c) #[1] #[1];obtain⟨q,eq,mq⟩:=rT (X:=X) (k:=v) (c:=c) #[1] #[1];have b2:=s2.bx b1;rw[<- PP]at mp mq;obtain⟨w0,h3,e3,s3,_⟩:=F4 b2 (kvs:=kvs) (c:=3) (by decide) (by decide);have b3:=s3.bx b2;have fst:zL [7,8] (ab (ah dw (aa 5) (ag aP (ab (aa 0) (ab (aa 2) ai)))) (ab (ah dw (aa 5) (ag aP (ab (aa 0) (ab (aa 2) ai)))) ai)) (wρ m i c w he.length X y6 y7 y8 y9) (he++lJ kvs)=.ok (.nx (wρ m i c w he.length X y6 (some (.dat p)) (some (.dat q)) y9)) (h2++lJ kvs):=by simp[e1,e2,ep,eq]
 obtain⟨z,ne⟩:=Kb (rN.sub p mp) (rN.sub q mq) (h2++lJ kvs)
 have puts:∀hh,Bx i hh->hh.length=he.length->∃o_,(aU (oY (pA (aa 4) (cW (ab (aa 7) (ab (aa 8) ai)))) (ak (.bool true))) (oY (pA (aa 4) (Hr (aJ (ah oEq (aa 3) (ak (.int 4)))) (cW (ab (aa 8) (ab (aa 7) ai))) (cW (ab (aa 7) (ab (aa 8) ai))))) (ak (.bool true)))) (wρ m i c w he.length X y6 (some (.dat p)) (some (.dat q)) y9) (hh++lJ kvs)=.ok (.nx (wρ m i c w he.length X y6 (some (.dat p)) (some (.dat q)) y9)) (hh++lJ o_)/\Kv ns o_:=by
  intro hh bh lh;obtain⟨k1,q1,K1⟩:=AO (he:=hh) k rN lN mp mq;rw[lh]at q1;have w4:oEq (.int (w:Int)) (.int 4) (hh++lJ k1)=.ok (.bool ((w:Int)==4)) (hh++lJ k1):=je _ _ _;by_cases q4:(w:Int)=4
  ·obtain⟨k2,q2,K2⟩:=AO (he:=hh) K1 rN lN mq mp;rw[lh]at q2;refine(k2,aK (qm rfl (rV rfl (iy rfl rfl) q1)) (qm rfl (rV rfl (qo (bg (aH rfl rfl w4)) ?_) q2)),K2);simp[q4]
  ·obtain⟨k2,q2,K2⟩:=AO (he:=hh) K1 rN lN mp mq;rw[lh]at q2;refine(k2,aK (qm rfl (rV rfl (iy rfl rfl) q1)) (qm rfl (rV rfl (qo (bg (aH rfl rfl w4)) ?_) q2)),K2);simp[q4]
 cases z with
 |true=>obtain⟨o_,ek,K⟩:=puts h2 b2 (by rw[s2.len,s1.len]);exact(h2,o_,_,_,aK fst (CK (Ey (bg (aH rfl rfl ne))) ek),s1.trans s2,K)
 |false=>
  have t3:aJ (ah oEq (ag aP (ab (aa 0) (ab (ak (.int 3)) ai))) (ak (.int 0))) (wρ m i c w he.length X y6 (some (.dat p)) (some (.dat q)) y9) (h2++lJ kvs)=.ok ((w0:Int)==0) (h3++lJ kvs):=bg (aH (aM rfl e3) rfl (je _ _ _))
  cases hz:((w0:Int)==0)with
  |true=>rw[hz]at t3;obtain⟨o_,ek,K⟩:=puts h3 b3 (by rw[s3.len,s2.len,s1.len]);exact(h3,o_,_,_,aK fst (CK (AN (bg (aH rfl rfl ne)) t3) ek),(s1.trans s2).trans s3,K)
  |false=>rw[hz]at t3;exact(h3,kvs,_,_,aK fst (xI (AN (bg (aH rfl rfl ne)) t3) rfl),(s1.trans s2).trans s3,k)
theorem MV(hX:X=nA\/X=nB)(hc:c<=5)(hj:j<c)(PP:ns=X.take c)(k:Kv ns kvs) :
  ∃o_,R5 (wρ m i c w he.length X y6 y7 y8 (some (.int (0+(j:Int))))) (he++lJ kvs)=.ok (.nx (wρ m i c w he.length X y6 y7 y8 (some (.int (0+(j:Int)))))) (he++lJ o_)/\Kv ns o_:=by
 obtain⟨rX,lX⟩:=Qh hX;have rN  := PP▸rX.tm (XH _ _);have lN:ns.length<=5:=by grind
 obtain⟨p,ep,mp⟩:=rT (X:=X) #[1] #[1];obtain⟨q,eq,mq⟩:=rT (X:=X) (c:=c) (Yn _ #[1]) #[1];rw[<- PP]at mp mq;obtain⟨k1,q1,K1⟩:=AO k rN lN mp mq;have em:oMod (.int ((j:Int)+1)) (.int c) (he++lJ kvs)=.ok (.int (((j+1) % c:Nat):Int)) (he++lJ kvs):=by rw[oj _ #[1]];simp
 rw[Int.zero_add];exact(k1,qm rfl (rV rfl (iy (aH rfl rfl (Kc ep _)) (aH rfl (aH (aH rfl rfl rfl) rfl em) (Kc eq _))) q1),K1)
abbrev R6:ME:=ah dw (pH (ab (ak (.int 0)) (ab (aa 2) (ab (ah i9 (ak (.int 2)) (aa 2)) (ab (ah i9 (ak (.int 3)) (aa 2)) (ab (aa 2) (ab (ah j0 (aa 2) (ak (.int 2))) (ab (ah j0 (aa 2) (ak (.int 2))) ai)))))))) (aa 3)
abbrev R7:ME:=ah x6 (ah i9 (aa 2) (ag zQ (ab (ah E6 (aa 3) (ak (.int 4))) ai))) (ag zQ (ab (mQ (ah oEq (aa 3) (ak (.int 6))) (ah E6 (aa 2) (ak (.int 0)))) ai))
theorem Qi(hc:c<=5)(hw:w<7)(h:Hm):∃t:Nat,R6 (wρ m i c w p X y6 y7 y8 y9) h=.ok (.int t) h/\t<=15/\(0<t->0<c):=by
 have m2:i9 (.int 2) (.int c) h=.ok (.int (2*(c:Int))) h:=om _ (mI (by decide) (by decide));have m3:i9 (.int 3) (.int c) h=.ok (.int (3*(c:Int))) h:=om _ (mI (by decide) (by decide));have f2:j0 (.int c) (.int 2) h=.ok (.int ((c:Int) / 2)) h:=sY _ (by decide) (by decide);have el:pH (ab (ak (.int 0)) (ab (aa 2) (ab (ah i9 (ak (.int 2)) (aa 2)) (ab (ah i9 (ak (.int 3)) (aa 2)) (ab (aa 2) (ab (ah j0 (aa 2) (ak (.int 2))) (ab (ah j0 (aa 2) (ak (.int 2))) ai))))))) (wρ m i c w p X y6 y7 y8 y9) h=.ok (.dat (.list [.int 0,.int c,.int (2*(c:Int)),.int (3*(c:Int)),.int c,.int ((c:Int) / 2),.int ((c:Int) / 2)])) h:=by rfl
 have fin:∀t:Nat,mU [PyData.int 0,.int c,.int (2*(c:Int)),.int (3*(c:Int)),.int c,.int ((c:Int) / 2),.int ((c:Int) / 2)] (w:Int)=some (.int (t:Int))->R6 (wρ m i c w p X y6 y7 y8 y9) h=.ok (.int t) h:=λt e=>aH el rfl (Kc e h);have hw':w=0\/w=1\/w=2\/w=3\/w=4\/w=5\/w=6:=by omega
 rcases hw' with rfl|rfl|rfl|rfl|rfl|rfl|rfl
 ·exact(0,fin _ rfl,by omega,by omega)
 ·exact(c,fin _ rfl,by omega,by omega)
 ·exact(2*c,fin _ rfl,by omega,by omega)
 ·exact(3*c,fin _ rfl,by omega,by omega)
 ·exact(c,fin _ rfl,by omega,by omega)
 ·exact(c / 2,fin _ rfl,by omega,by omega)
 ·exact(c / 2,fin _ rfl,by omega,by omega)
theorem R8(b:Bool)(h:Hm):zQ [.bool b] h=.ok (.int (if b then 1 else 0)) h:=by rfl
theorem MW(hc:c<=5)(h:Hm):∃t:Nat,R7 (wρ m i c w p X y6 y7 y8 y9) h=.ok (.int t) h/\t<=c:=by
 have e1:ag zQ (ab (ah E6 (aa 3) (ak (.int 4))) ai) (wρ m i c w p X y6 y7 y8 y9) h=.ok (.int (if decide ((4:Int)<w)then 1 else 0)) h:=aM (bK (aH rfl rfl rfl) rfl) (R8 _ _);have e6:oEq (.int (w:Int)) (.int 6) h=.ok (.bool ((w:Int)==6)) h:=je _ _ _;have mz:∀z:Bool,i9 (.int c) (.int (if z then 1 else 0)) h=.ok (.int ((c:Int)*(if z then 1 else 0))) h:=λz=>om _ (by cases z<;>exact AI (by decide) (by decide))
 have e2:ag zQ (ab (mQ (ah oEq (aa 3) (ak (.int 6))) (ah E6 (aa 2) (ak (.int 0)))) ai) (wρ m i c w p X y6 y7 y8 y9) h=.ok (.int (if((w:Int)==6)&&decide ((0:Int)<c)then 1 else 0)) h:=by
  refine aM (bK (x:=.bool (((w:Int)==6)&&decide ((0:Int)<c))) ?_ rfl) (R8 _ _);by_cases q6:(w:Int)=6
  ·have e66:oEq (D.int 6) (D.dat (.int 6)) h=.ok (.bool true) h:=je 6 6 h;simp[q6,e66]
  ·simp[e6,q6]
 refine(c*(if decide ((4:Int)<w)then 1 else 0)-(if((w:Int)==6)&&decide ((0:Int)<c)then 1 else 0),aH (aH rfl e1 (mz _)) e2 ?_,?_)
 ·simp only[P7,R.ok.injEq,and_true];by_cases q1:(4:Int)<w
  ·by_cases q2:(w:Int)=6
   ·by_cases q3:0<c
    ·simp[q1,q2,q3];omega
    ·simp[q1,q2,q3]
   ·simp[q1,q2]
  ·have q2:¬ (w:Int)=6:=by omega
   simp[q1,q2]
 ·by_cases q1:(4:Int)<w
  ·simp[q1]
  ·simp[q1]
theorem Qj{i m:Nat}(b:Bx i h)(hm:m<=5):Dr i h (mf [.ref i,.int m] h) λd=>∃ns ss,d=.dat (.tuple [.tuple ns,.tuple ss])/\Wb 25 ns ss/\ns.length<=m:=by
 obtain⟨_,ha,ea,sa,c,rfl,hc⟩:=oR b (c:=(m:Int)+1) #[1] #[1];have ba:=sa.bx b;obtain⟨_,hb,eb,sb,w,rfl,hw⟩:=oR ba (c:=7) (by decide) (by decide);have bb:=sb.bx ba;obtain⟨u,hd,ed,sd,hu⟩:=F4 bb (kvs:=[]) (c:=2) (by decide) (by decide);have bd:=sd.bx bb
 obtain⟨X,eX,hX⟩:∃X,mU [D.dat (.list nA),D.dat (.list nB)] (u:Int)=some (.dat (.list X))/\(X=nA\/X=nB):=by
  have:u=0\/u=1:=by omega
  rcases this with rfl|rfl
  ·exact(nA,rfl,.inl rfl)
  ·exact(nB,rfl,.inr rfl)
 obtain⟨rX,lX⟩:=Qh hX;obtain⟨ns,PP⟩:∃ns,ns=X.take c:=(_,rfl);have rN:Rw uk ns:=PP▸rX.tm (XH _ _);have lN:ns.length<=5:=by rw[PP,XT];omega
 have ld:hd.length=hb.length:=sd.len;obtain⟨t1,k1,l1,p1⟩:=Qi (m:=m) (i:=i) (p:=hb.length) (X:=X) (y6:=none) (y7:=none) (y8:=none) (y9:=none) (show c<=5 by omega) (show w<7 by omega) (hd++lJ [])
 obtain⟨s_,h',eL,he,kvs,rfl,sh,K,y6,y7,y8,rfl⟩:=ia (g:=af 6) (b:=R4)
  (λj ρ hh=>∃he kvs,hh=he++lJ kvs/\Bs i hd he/\Kv ns kvs/\∃y6 y7 y8,ρ=wρ m i c w hb.length X y6 y7 y8 none)
  (nums 0 t1) 0 (wρ m i c w hb.length X none none none none) (hd++lJ []) (by
   rintro j x hx ρ hh ⟨he,kvs,rfl,s1,K,y6,y7,y8,rfl⟩;have hj:j<t1:=by simpa [nums]using(U9.mp hx).1
   have le:he.length=hb.length:=by rw[s1.len,ld]
   obtain⟨ZX,o_,z7,z8,e,s2,K2⟩:=MU (m:=m) (y6:=some x) (y7:=y7) (y8:=y8) (y9:=none) hX (show c<=5 by omega) (p1 #[1]) PP (s1.bx bd) K (w:=w);rw[le]at e
   exact(_,_,_,_,rfl,.inl e,ZX,o_,rfl,s1.trans s2,K2,_,_,_,rfl)) (hd,[],rfl,bd.refl,(by simp[dX],by simp[dX]),none,none,none,rfl)
 have bh:=sh.bx bd;have lh:he.length=hb.length:=by rw[sh.len,ld]
 obtain⟨t2,k2,l2⟩:=MW (m:=m) (i:=i) (w:=w) (p:=hb.length) (X:=X) (y6:=y6) (y7:=y7) (y8:=y8) (y9:=none) (show c<=5 by omega) (he++lJ kvs)
 obtain⟨s_,h',eM,u_,rfl,K2,y9,rfl⟩:=ia (g:=af 9) (b:=R5)
  (λj ρ hh=>∃kvs,hh=he++lJ kvs/\Kv ns kvs/\∃y9,ρ=wρ m i c w hb.length X y6 y7 y8 y9)
  (nums 0 t2) 0 (wρ m i c w hb.length X y6 y7 y8 none) (he++lJ kvs) (by
   rintro j x hx ρ hh ⟨kvs,rfl,K,y9,rfl⟩;simp only[nums,VS,VC]at hx;obtain⟨k,hk,rfl⟩:=hx;have hk2:=(U9.mp hk).1;have hk3:=(U9.mp hk).2;simp at hk2 hk3;obtain⟨o_,e,K2⟩:=MV (m:=m) (i:=i) (he:=he) (w:=w) (y6:=y6) (y7:=y7) (y8:=y8) hX (show c<=5 by omega) (show k<c by omega) PP K;rw[lh]at e
   exact(_,_,_,_,rfl,.inl e,o_,rfl,K2,_,rfl)) (kvs,rfl,K,none,rfl)
 have pp:=K2.pp rN;have so:eY (dX u_)=true:=de.Ud pp (by have:=K2.len lN;simp[dX];omega);have gt:(he++lJ u_)[hb.length]?=some (.iC true u_):=by rw[<- lh];simp
 have res:=JY (f:=pX) (xs:=[.ref i,.int m]) (h:=h) (h1:=he) (t:=lJ u_) (x:=.tuple [.tuple ns,.tuple (cQ ltB (dX u_))]) b (by
  unfold pX;have z1:zL [2,3,4] (ab (ag aP (ab (aa 0) (ab (ah cJ (aa 1) (ak (.int 1))) ai))) (ab (ag aP (ab (aa 0) (ab (ak (.int 7)) ai))) (ab (Fy true) ai))) [some (D.ref i),some (.int m),none,none,none,none,none,none,none,none] h=.ok (.nx [some (D.ref i),some (.int m),some (.int c),some (.int w),some (.ref hb.length),none,none,none,none,none]) (hb++[.iC true []]):=by simp[ea,eb,Fy]
  have z2:bC 5 (vo (ab (ak (.list [.str "a",.str "b",.str "c",.str "d",.str "e",.str "f",.str "g"])) ai)) [some (D.ref i),some (.int m),some (.int c),some (.int w),some (.ref hb.length),none,none,none,none,none] (hb++[.iC true []])=.ok (.nx [some (D.ref i),some (.int m),some (.int c),some (.int w),some (.ref hb.length),some (.ref (hb.length+1)),none,none,none,none]) (hb++[.iC true [],.lst [.dat (.list nA)]]):=by simp[vn,kQ,nA]
  have g2:(hb++[MO.iC true [],.lst [.dat (.list nA)]])[hb.length+1]?=some (.lst [.dat (.list nA)]):=by simp
  have z3:gP (uy fK (aa 5) (ak (.list [.str "ann",.str "bo",.str "c",.str "dora",.str "elias",.str "f",.str "gwenda"]))) [some (D.ref i),some (.int m),some (.int c),some (.int w),some (.ref hb.length),some (.ref (hb.length+1)),none,none,none,none] (hb++[.iC true [],.lst [.dat (.list nA)]])=.ok (.nx [some (D.ref i),some (.int m),some (.int c),some (.int w),some (.ref hb.length),some (.ref (hb.length+1)),none,none,none,none]) (hb++lJ []):=by unfold gP uy;simp only[aa,Xs,Xt,R.aW,QA,g2,VR,P6];simp[fK,g2,nB]
  have g3:(hd++lJ [])[hb.length+1]?=some (.lst [.dat (.list nA),.dat (.list nB)]):=by rw[<- ld];simp
  have z4:bC 5 (ah dw (aa 5) (ag aP (ab (aa 0) (ab (ak (.int 2)) ai)))) [some (D.ref i),some (.int m),some (.int c),some (.int w),some (.ref hb.length),some (.ref (hb.length+1)),none,none,none,none] (hb++lJ [])=.ok (.nx (wρ m i c w hb.length X none none none none)) (hd++lJ []):=by refine bS (x:=.dat (.list X)) (aH rfl (aM rfl ed) ?_);simp only[dw,iE,g3,zP,eX]
  have z7:bU (cW (ab (ag jo (ab (Qz (aa 5) yD (yE (aa 2))) ai)) (ab (ag jo (ab (ag dz (ab (ag Bo (ab (aa 4) ai)) ai)) ai)) ai))) (wρ m i c w hb.length X y6 y7 y8 y9) (he++lJ u_)=.ok (.rt (.dat (.tuple [.tuple ns,.tuple (cQ ltB (dX u_))]))) (he++lJ u_):=by
   have em:(List.map (λ(x:PyData×PyData)=>x.1) u_)=dX u_:=rfl;have ct:=Qb X c;rw[<- PP]at ct;refine cO (iy (h1:=he++lJ u_) (aM (h1:=he++lJ u_) (xs:=[.dat (.list ns)]) ?_ rfl) (aM (h1:=he++lJ u_) (xs:=[.dat (.list (cQ ltB (dX u_)))]) ?_ rfl))
   ·simp[ct]
   ·simp[Bo,iE,gt,em,dz,so,listOf]
  refine fx rfl (aK z1 (aK z2 (aK z3 (aK z4 (aK (cH (ou (bK k1 rfl) #[1]) eL) (aK (cH (ou (bK k2 rfl) #[1]) eM) z7))))))) (((sa.trans sb).trans sd).trans sh)
 refine(_,he,res,((sa.trans sb).trans sd).trans sh,ns,cQ ltB (dX u_),rfl,((rN,by omega),AM de pp K2.nd,λa b m=>?_,?_),by rw[PP,XT];omega)
 ·obtain⟨a',b',h1,h2,e⟩:=K2.mem _ ((aY ltB _).mem_iff.mp m);simp at e;obtain⟨rfl,rfl⟩:=e;exact(h1,h2)
 ·rw[(aY ltB _).length_eq];simpa [dX]using K2.len lN
abbrev Rel:=PyData->PyData->Bool
def rows(ns:Y9)(r:Rel):Y9:=ns.flatMap λa=>(ns.filter (r a)).map λb=>.tuple [a,b]
section
theorem fv:p∈rows ns r<->∃a b,p=.tuple [a,b]/\a∈ns/\b∈ns/\r a b=true:=by
 unfold rows;rw[YB];constructor
 ·rintro⟨a,ha,m⟩;obtain⟨b,hb,rfl⟩:=Vl.mp m;obtain⟨h1,h2⟩:=U7.mp hb;exact(a,b,rfl,ha,h1,h2)
 simp_all
theorem rW(R:Nr ns)(h:a∈ns):au a=true:=zo.t (R.sub a h)
theorem dA(R:Nr ns):Rw tj (rows ns r):=by
 refine(λp m=>?_,?_)
 ·obtain⟨a,b,rfl,ha,hb,_⟩:=fv.mp m;exact(a,b,R.sub a ha,R.sub b hb,rfl)
 ·refine List.pairwise_flatMap.mpr (λa ha=>Yl.mpr ?_,?_)
  ·exact Xl (λ{x y} hx hy l=>Qg (rW R ha) (rW R ((U7.mp hx).1)) (rW R ((U7.mp hy).1)) l) (R.ris.filter _)
  ·refine Xl (λ{x y} hx hy l p hp q hq=>?_) R.ris;obtain⟨b,_,rfl⟩:=Vl.mp hp;obtain⟨c,_,rfl⟩:=Vl.mp hq;exact MQ (rW R hx) (rW R hy) l
theorem AQ{xs:Y9}{f:PyData->Y9}(h:∀a,(f a).length<=n):(xs.flatMap f).length<=xs.length*n:=by
 induction xs with
 |nil=>simp
 |cons x xs ih=>
  grind[List.flatMap_cons,List.length_append,List.length_cons,Nat.add_mul]
theorem CO:(rows ns r).length<=ns.length*ns.length:=AQ λa=>by rw[Ve];exact Vn _ _
theorem Ke(td:au d=true)(te:au e=true)(l:min d.depth e.depth<=40)(h:Hm):oEq (.dat d) (.dat e) h=.ok (.bool (decide (d=e))) h:=by
 have q:PyData.eqv d e=decide (d=e):=by
  by_cases z:d=e
  ·subst z;rw[Wl rfl];exact bH td
  ·rw[V4 z];exact bE td te z
 simp_all[oEq,eqQ,noDict,bW]
end
inductive Kd where
 |stable
 |standing
 |preferred
 |whole
 |grounded
theorem um(I:Fm->Prop)(c:D->Bool)(f:D->D):∀{ys:List D} {ρ:Fm},(∀y∈ys,∀ρ,I ρ->∃c_,g2 y ρ h=.ok c_ h/\t2 c_ h=.ok (c y) h/\(c y=true->e c_ h=.ok (f y) h)/\I c_)->I ρ->kD g2 t2 e ys ρ h=.ok ((ys.filter c).map f) h
 | [],ρ,_,_=>rfl
 |y::ys,ρ,H,i=>by
  obtain⟨c_,h1,h2,h3,i1⟩:=H y (Vj ..) ρ i;have ih:=um I c f (λz hz=>H z (U2 _ hz)) i1;unfold kD;rw[h1];simp;rw[h2];simp
  cases hc:c y with
  |false=>grind
  |true=>
   simp_all
theorem xJ{ds es:Y9}(hit:it ρ h=.ok (ds.map D.dat) h)(hz:ds.length*es.length+es.length<=100000)(hd:ds.length<=100000)(I:PyData->Fm->Prop)(c:PyData->PyData->Bool)(f:PyData->PyData->PyData)
 (H:∀a∈ds,∃c_,g (.dat a) (List.replicate n none++ρ) h=.ok c_ h/\it2 c_ h=.ok (es.map D.dat) h/\I a c_)(H2:∀a∈ds,∀b∈es,∀ρ,I a ρ->∃c_,g2 (.dat b) ρ h=.ok c_ h/\t2 c_ h=.ok (c a b) h/\(c a b=true->e c_ h=.ok (.dat (f a b)) h)/\I a c_) :
  pS n it g cq it2 g2 t2 e ρ h=.ok (.dat (.list (ds.flatMap λa=>(es.filter (c a)).map (f a)))) h:=by
 have go:∀(xs:Y9) (k:Nat),(∀a∈xs,a∈ds)->k+xs.length*es.length+es.length<=200000->fO n ρ g cq it2 g2 t2 e (xs.map D.dat) k h=.ok ((xs.flatMap λa=>(es.filter (c a)).map (f a)).map D.dat) h:=by
  intro xs
  induction xs with
  |nil=>intro k _ _;rfl
  |cons a xs ih=>
   intro k hs hk;obtain⟨c_,q1,q2,q3⟩:=H a (hs a (by simp))
   have inn:=um (I a) (λy=>match y with|.dat b=>c a b|_=>false) (λy=>match y with|.dat b=>.dat (f a b)|_=>.dat .none) (ys:=es.map D.dat) (ρ:=c_) (g2:=g2) (t2:=t2) (e:=e) (h:=h) (λy hy s_ i=>by
    obtain⟨b,hb,rfl⟩:=Vl.mp hy;obtain⟨Da,z1,z2,z3,z4⟩:=H2 a (hs a (by simp)) b hb s_ i
    exact(Da,z1,z2,z3,z4)) q3
   have fm:((es.map D.dat).filter (λy=>match y with|.dat b=>c a b|_=>false)).map (λy=>match y with|.dat b=>D.dat (f a b)|_=>.dat .none)=((es.filter (c a)).map (f a)).map D.dat:=by simp[List.filter_map,Yp]
   rw[fm]at inn;have lf:(es.filter (c a)).length<=es.length:=Vn _ _;simp only[Vp,Nat.add_mul]at hk;have ih':=ih (k+((es.filter (c a)).map (f a)).length) (λb m=>hs b (by simp[m])) (by rw[Ve];omega);simp only[Vu];unfold fO;rw[q1];simp only[R.dC,R.aW,cq,VR];rw[q2];simp only[R.dC,R.aW,Ve,sz (show k+es.length<=16777216 by omega),VR];rw[inn];simp only[R.aW,Ve];rw[Ve]at ih';rw[ih'];simp
 have g0:=go ds 0 (λ_ m=>m) #[1];unfold pS ag vY;rw[hit];simp only[R.aW,Ve,sz (show ds.length<=16777216 by omega),VR];rw[g0];simp only[R.aW];refine lu _ h ?_;have:=AQ (xs:=ds) (n:=es.length) (f:=λa=>(es.filter (c a)).map (f a)) λa=>by rw[Ve];exact Vn _ _
 omega
inductive K3 where
 |st
 |wh
 |sb
def K3.nm:K3->Str
 |.st => "standing"
 |.wh => "whole"
 |.sb => "stable"
def K3.jd(k:K3)(ns ss g:Y9):Bool:=match k with
 |.st=>g.all (iY (Ez ns ss g))
 |.wh=>PyData.eqv (.tuple g) (.tuple (Ez ns ss g))
 |.sb=>ns.all λx=>iY g x || mJ ss g x
def uG(ss g:Y9):Bool:=!(ss.any λp=>iY g (dy p)&&iY g (gO p))
section
theorem MX(e:m ρ h=.ok (.bool c) h):LM m ρ h=.ok (.bool !c) h:=by unfold LM;rw[bg e];rfl
theorem CP(w:Wb 25 ns ss)(s:lot.Sublist ns)(h:Hm):ip [.dat (WD ns ss),.dat (.tuple lot)] h=.ok (.bool (uG ss lot)) h:=by
 have sd:=dS w s;have hl:=w.le
 have key:=Hd (n:=2) (it:=ay (ah dw (aa 0) (ak (.int 1)))) (g:=iB (bA (af 0) (bA (af 1) gn))) (e:=mQ (ah j3 (aa 0) (aa 3)) (ah j3 (aa 1) (aa 3))) (ρ:=[some (.dat (WD ns ss)),some (.dat (.tuple lot))]) (h:=h) (h1:=h) (ds:=ss) (by simp) #[1] (λp=>iY lot (dy p)&&iY lot (gO p)) (λp hp=>by
  obtain⟨a,b,rfl,ha,hb⟩:=w.get hp
  cases q:iY lot a<;>simp[gN (w.uX ha) sd,gN (w.uX hb) sd,q,dy,gO])
 exact fx rfl (cO (MX key))
theorem judge_ok(k:K3)(w:Wb 25 ns ss)(s:lot.Sublist ns)(h:Hm)(ρ:Fm)(n:Str)(e:kZ.lookup k.nm=some n)(e3:ρ[3]?=some (some (.fn n)))(e0:ρ[0]?=some (some (.dat (WD ns ss))))(e4:ρ[4]?=some (some (.dat (.tuple lot)))) :
  pU 3 [("is_stable",gc),("is_standing",fE),("is_whole",jw)] (ab (aa 0) (ab (aa 4) ai)) ρ h=.ok (.bool (k.jd ns ss lot)) h:=by
 have ar:(ab (aa 0) (ab (aa 4) ai)) ρ h=.ok [.dat (WD ns ss),.dat (.tuple lot)] h:=by simp_all
 unfold pU;rw[e3]
 cases k with
 |st=>cases e;exact aM ar (J9 w s h)
 |wh=>cases e;exact aM ar (Ka w s h)
 |sb=>cases e;exact aM ar (Hk w s h)
def Dc(k:K3)(ns ss:Y9)(gs:Y9):Bool:=gs.any λg=>uG ss (aB g)&&k.jd ns ss (aB g)
theorem EB(k:K3)(w:Wb 25 ns ss)(hg:∀g∈gs,qu ns g)(h:Hm):gB [.dat (WD ns ss),.dat (.list gs),.dat (.str k.nm)] h=.ok (.bool (Dc k ns ss gs)) h:=by
 obtain⟨n,en⟩:∃n,kZ.lookup k.nm=some n:=by cases k<;>exact(_,rfl)
 have go:∀(xs:Y9) (a4:Option D),(∀g∈xs,qu ns g)->∃b4,cn (af 4) (lV (lM (aX (ag ip (ab (aa 0) (ab (aa 4) ai)))) (aX (pU 3 [("is_stable",gc),("is_standing",fE),("is_whole",jw)] (ab (aa 0) (ab (aa 4) ai))))) (bU (ak (.bool true))) cz) (xs.map D.dat) [some (.dat (WD ns ss)),some (.dat (.list gs)),some (.dat (.str k.nm)),some (.fn n),a4] h =
   if Dc k ns ss xs=true then .ok (.rt (.bool true)) h else .ok (.nx [some (.dat (WD ns ss)),some (.dat (.list gs)),some (.dat (.str k.nm)),some (.fn n),b4]) h:=by
  intro xs
  induction xs with
  |nil=>exact λa4 _=>(a4,rfl)
  |cons x xs ih=>
   intro a4 H;obtain⟨b4,e⟩:=ih (some (.dat x)) λg m=>H g (U2 _ m);obtain⟨lot,rfl,s⟩:=H x (.head _);refine(b4,?_);have c:=rS (fJ (aM (ma:=ab (aa 0) (ab (aa 4) ai)) (ρ:=[some (.dat (WD ns ss)),some (.dat (.list gs)),some (.dat (.str k.nm)),some (.fn n),some (.dat (.tuple lot))]) rfl (CP w s h))) (fJ (judge_ok k w s h [some (.dat (WD ns ss)),some (.dat (.list gs)),some (.dat (.str k.nm)),some (.fn n),some (.dat (.tuple lot))] n en rfl rfl rfl));simp only[Vu,cn,af,R.dC,R.aW,VX,VY]
   cases q:(uG ss lot&&k.jd ns ss lot)with
   |true=>rw[q]at c;rw[CK c (cO rfl),if_pos (by simp[Dc,aB]at q ⊢;exact .inl q)];rfl
   |false=>
    rw[q]at c;have e1:Dc k ns ss (.tuple lot::xs)=Dc k ns ss xs:=by unfold Dc;rw[YF];simp only[aB,q,Bool.false_or]
    rw[xI c rfl,e1];exact e
 obtain⟨b4,e⟩:=go gs none hg;unfold gB qX bI;simp only[Vp,Wq,VR,Vu,List.map_nil,YA,WT,show 5-3=2 from rfl,rep2];have s1:bC 3 (FD kZ (aa 2)) [some (.dat (WD ns ss)),some (.dat (.list gs)),some (.dat (.str k.nm)),none,none] h=.ok (.nx [some (.dat (WD ns ss)),some (.dat (.list gs)),some (.dat (.str k.nm)),some (.fn n),none]) h:=bS (by simp[FD,en]);rw[AK s1]
 cases q:Dc k ns ss gs with
 |true=>rw[q]at e;rw[xH (cH (fQ rfl) e)];rfl
 |false=>rw[q]at e;rw[AK (cH (fQ rfl) e)];rfl
theorem CQ(e0:ρ[i]?=some (some (.dat (.tuple ys))))(e1:ρ[j]?=some (some (.dat x)))(hz:ys.length<=1000)(h:Hm):cW (iG (aa i) (ab (aa j) ai)) ρ h=.ok (.dat (.tuple (ys++[x]))) h:=by
 have mk:=oO (ys++[x]) h (by simp;omega)
 simp_all[iG,f6]
theorem Kf(w:Wb 25 ns ss)(l5:ns.length<=5)(s:lot.Sublist ns)(h:Hm):∃gs,gz [.dat (.tuple ns),.dat (.tuple lot)] h=.ok (.dat (.list gs)) h/\(∀g∈gs,qu ns g/\∀x∈lot,x∈aB g)/\∀ys,ys.Sublist ns->(∀x∈lot,x∈ys)->.tuple ys∈gs:=by
 have sd:=dS w s;have nd:=fI zo w.nr.toRw
 have loop:∀(xs pre fs:Y9) (y3 y4:Option D),ns=pre++xs->(∀d∈fs,qu pre d/\∀x∈lot,x∈pre->x∈aB d)->fs.length<=2^pre.length->(∀ys,ys.Sublist pre->(∀x∈lot,x∈pre->x∈ys)->.tuple ys∈fs) ->
   ∃ZZ z3 z4,cn (af 3) (aU (bC 4 (aZ 1 (ay (aa 2)) (af 0) cq (cW (iG (aa 0) (ab (aa 4) ai))))) (bC 2 (Hr (aJ (ah j3 (aa 3) (aa 1))) (aa 4) (ah cJ (aa 2) (aa 4))))) (xs.map D.dat) [some (.dat (.tuple ns)),some (.dat (.tuple lot)),some (.dat (.list fs)),y3,y4] h=.ok (.nx [some (.dat (.tuple ns)),some (.dat (.tuple lot)),some (.dat (.list ZZ)),z3,z4]) h /\
    (∀d∈ZZ,qu ns d/\∀x∈lot,x∈ns->x∈aB d)/\(∀ys,ys.Sublist ns->(∀x∈lot,x∈ns->x∈ys)->.tuple ys∈ZZ):=by
  intro xs
  induction xs with
  |nil=>intro pre fs y3 y4 e hf hl hA;rw[WS]at e;subst e;exact(fs,y3,y4,rfl,hf,hA)
  |cons x xs ih=>
   intro pre fs y3 y4 e hf hl hA;have hx:x∈ns:=by rw[e];simp
   have hp:pre.length<=4:=by have:=Xz List.length e;simp at this;omega
   have xp:x∉pre:=λm=>by rw[e]at nd;exact(WA.mp nd).2.2 x m x (by simp) rfl
   have l2:(2:Nat)^pre.length<=16:=U8 (Wt (by decide) hp) (by decide)
   have key:=dJ (n:=1) (it:=ay (aa 2)) (g:=af 0) (e:=cW (iG (aa 0) (ab (aa 4) ai))) (ρ:=[some (.dat (.tuple ns)),some (.dat (.tuple lot)),some (.dat (.list fs)),some (.dat x),y4]) (h:=h) (h1:=h) (ds:=fs) (by simp) #[1] (λd=>.tuple (aB d++[x])) (λd m=>by
    obtain⟨⟨ys,rfl,sy⟩,_⟩:=hf d m;have:=sy.length_le
    exact(_,rfl,CQ rfl rfl (by show ys.length<=1000;omega) h))
   have up:∀d∈fs.map (λd=>PyData.tuple (aB d++[x])),qu (pre++[x]) d/\∀z∈lot,z∈pre++[x]->z∈aB d:=λd m=>by
    obtain⟨q,hq,rfl⟩:=Vl.mp m;obtain⟨⟨ys,rfl,sy⟩,hy⟩:=hf q hq;refine((ys++[x],rfl,List.Sublist.append sy (Yq _)),λz hz hm=>?_);simp only[aB]at hy ⊢;rcases Vd.mp hm with hm|hm
    ·exact Vr _ (hy z hz hm)
    ·exact U3 _ hm
   have t:=bg (aH (a:=aa 3) (b:=aa 1) (ρ:=[some (.dat (.tuple ns)),some (.dat (.tuple lot)),some (.dat (.list fs)),some (.dat x),some (.dat (.list (fs.map λd=>PyData.tuple (aB d++[x]))))]) (h:=h) rfl rfl (gN (w.uX hx) sd h))
   suffices fin:∃fs1,(aU (bC 4 (aZ 1 (ay (aa 2)) (af 0) cq (cW (iG (aa 0) (ab (aa 4) ai))))) (bC 2 (Hr (aJ (ah j3 (aa 3) (aa 1))) (aa 4) (ah cJ (aa 2) (aa 4))))) [some (.dat (.tuple ns)),some (.dat (.tuple lot)),some (.dat (.list fs)),some (.dat x),y4] h=.ok (.nx [some (.dat (.tuple ns)),some (.dat (.tuple lot)),some (.dat (.list fs1)),some (.dat x),some (.dat (.list (fs.map λd=>PyData.tuple (aB d++[x]))))]) h /\
     (∀d∈fs1,qu (pre++[x]) d/\∀z∈lot,z∈pre++[x]->z∈aB d)/\fs1.length<=2^(pre++[x]).length/\(∀ys,ys.Sublist (pre++[x])->(∀z∈lot,z∈pre++[x]->z∈ys)->.tuple ys∈fs1)by
    obtain⟨fs1,e1,h1,h2,h3⟩:=fin;obtain⟨fs2,u3,u4,e2,r⟩:=ih (pre++[x]) fs1 (some (.dat x)) (some (.dat (.list (fs.map λd=>PyData.tuple (aB d++[x]))))) (by rw[e];simp) h1 h2 h3;refine(fs2,u3,u4,?_,r);simp only[Vu,cn,af,R.dC,R.aW,VX,VY];rw[e1];exact e2
   have ends:∀ys,ys.Sublist (pre++[x])->(ys.Sublist pre)\/∃us,ys=us++[x]/\us.Sublist pre:=λys sy=>by
    obtain⟨us,vs,rfl,su,sv⟩:=List.sublist_append_iff.mp sy
    cases sv with
    |cons _ s0=>cases s0;exact .inl (by simpa using su)
    |cons_cons _ s0=>cases s0;exact .inr (us,rfl,su)
   have mapin:∀us,us.Sublist pre->(∀z∈lot,z∈pre++[x]->z∈us++[x])->PyData.tuple (us++[x])∈fs.map (λd=>PyData.tuple (aB d++[x])):=λus su hz=>
    Vl.mpr (.tuple us,hA us su λz m q=>by
     rcases Vd.mp (hz z m (Vr _ q))with r|r
     ·exact r
     ·rw[Vm.mp r]at q;exact absurd q xp,rfl)
   cases q:iY lot x with
   |true=>
    rw[q]at t;have xl:=(cN sd).mp q;refine(_,aK (bS key) (bS (qo t rfl)),up,by rw[Ve,Vh];exact U8 hl (Wt (by decide) (by simp)),λys sy hy=>?_);rcases ends ys sy with su|⟨us,rfl,su⟩
    ·exact absurd (su.subset (hy x xl (by simp))) xp
    ·exact mapin us su hy
   |false=>
    rw[q]at t;have xl:x∉lot:=λm=>by rw[(cN sd).mpr m]at q;cases q
    refine(_,aK (bS key) (bS (qo t (aH rfl rfl (ly h (by rw[Ve];omega))))),λd m=>?_,by rw[Vh,Ve,Vh];show _<=2^(pre.length+1);rw[Nat.pow_succ];omega,λys sy hy=>?_)
    ·rcases Vd.mp m with m|m
     ·obtain⟨⟨ys,rfl,sy⟩,hy⟩:=hf d m;refine((ys,rfl,sy.trans (List.sublist_append_left ..)),λz hz hm=>?_);rcases Vd.mp hm with hm|hm
      ·exact hy z hz hm
      ·rw[Vm.mp hm]at hz;exact absurd hz xl
     ·exact up d m
    ·rcases ends ys sy with su|⟨us,rfl,su⟩
     ·exact Vr _ (hA ys su λz hz hm=>hy z hz (Vr _ hm))
     ·exact U3 _ (mapin us su hy)
 obtain⟨fs,z3,z4,e,hf,hA⟩:=loop ns [] [.tuple []] none none rfl (λd m=>by rw[Vm.mp m];exact(([],rfl,Yq _),by simp)) (by simp) (λys sy _=>by rw[List.sublist_nil.mp sy];simp);refine(fs,?_,λg m=>((hf g m).1,λx hx=>(hf g m).2 x hx (s.subset hx)),λys sy hy=>hA ys sy λx hx _=>hy x hx);unfold gz qW;exact fx rfl (aK (bS rfl) (aK (cH (oU rfl) e) (cO rfl)))
end
section
def AS(p s:PyData):Bool:=(aB p).isEmpty || ltB ((aB p).getLastD .none) s
def pk(e_:Y9):Nat->Y9
 |0=>[.tuple []]
 |m+1=>(pk e_ m).flatMap λp=>(e_.filter (AS p)).map λs=>.tuple (aB p++[s])
theorem va{xs:Y9}(h:xs≠[]):mU xs (-1)=some (xs.getLastD .none):=by
 have l:0<xs.length:=List.length_pos_iff.mpr h;unfold mU xS;rw[if_neg #[1],if_pos #[1]];have:((-1:Int)+(xs.length:Int)).toNat=xs.length-1:=by omega
 simp only[Y1,this];rw[Va #[1],W8,List.getLast?_eq_getElem?,Va #[1]];rfl
theorem F5(ha:tj a)(hb:tj b)(h:Hm):oLt (.dat a) (.dat b) h=.ok (.bool (ltB a b)) h:=by
 have ta:=fu ha;have tb:=fu hb;refine JW ?_ ?_ #[1] (FZ (de.c a b ha hb)) h
 ·simp[noDict,bW ta.2.1]
 simp[noDict,bW,tb]
theorem F6(r:Rw tj e_):∀(m:Nat),∀p∈pk e_ m,∃xs,p=.tuple xs/\Rw tj xs/\(∀d∈xs,d∈e_)/\xs.length=m
 |0,p,hp=>by rw[Vm.mp hp];exact([],rfl,(by simp,.nil),by simp,rfl)
 |m+1,p,hp=>by
  obtain⟨q,hq,mq⟩:=YB.mp hp;obtain⟨s,hs,rfl⟩:=Vl.mp mq;obtain⟨xs,rfl,rx,sx,lx⟩:=F6 r m q hq;obtain⟨ms,cs⟩:=U7.mp hs;simp only[aB]
  have sub:∀d∈xs++[s],d∈e_:=λd hd=>by
   rcases Vd.mp hd with hd|hd
   ·exact sx d hd
   ·rw[Vm.mp hd];exact ms
  refine(xs++[s],rfl,(λd hd=>r.sub d (sub d hd),WM.mpr (rx.ris,List.pairwise_singleton ..,λa ha b hb=>?_)),sub,by simp[lx]);rw[Vm.mp hb];simp only[AS,aB,Wc,List.isEmpty_iff]at cs;rcases cs with rfl|cs
  ·simp at ha
  ·
   have ne:xs≠[]:=λe=>by rw[e]at ha;simp at ha
   have eL:xs=xs.dropLast++[xs.getLast ne]:=(List.dropLast_concat_getLast ne).symm;have lastD:xs.getLastD .none=xs.getLast ne:=by rw[W8,Xm ne];rfl
   rw[lastD]at cs;have hpw:=rx.ris;rw[eL]at ha hpw;rcases Vd.mp ha with ha|ha
   ·have h1:=(WM.mp hpw).2.2 a ha (xs.getLast ne) (by simp);exact Ew (de.cmp r.sub) (de.C8 r.sub) (sx a (by rw[eL];exact Vr _ ha)) (sx _ (YC ne)) ms h1 cs
   ·rw[Vm.mp ha];exact cs
theorem AU(hs:e_.length<=16):∀m,(pk e_ m).length<=16^m
 |0=>by simp[pk]
 |m+1=>by
  refine U8 (AQ (n:=16) λa=>?_) ?_
  ·grind
  ·exact Nat.mul_le_mul_right _ (AU hs m)
abbrev R9:MS:=(aU (bC 2 (pS 2 (ay (aa 2)) (af 0) cq (ay (aa 2)) (af 1) (sj (gm (aX (aa 0))) (aJ (ah oLt (ah dw (aa 0) (ak (.int (-1)))) (aa 1)))) (cW (iG (aa 0) (ab (aa 1) ai)))))
  (Jw 1 (ak (.int 1))))
theorem MY(r:Rw tj e_)(hs:e_.length<=16)(m:Nat)(hm:m<=1)(j:Int)(h:Hm):R9 [some (.dat (.list e_)),some (.int j),some (.dat (.list (pk e_ m)))] h=.ok (.nx [some (.dat (.list e_)),some (.int (j-1)),some (.dat (.list (pk e_ (m+1))))]) h:=by
 have lp:(pk e_ m).length<=16:=U8 (AU hs m) (U8 (Wt (by decide) hm) (by decide))
 have key:=xJ (n:=2) (it:=ay (aa 2)) (g:=af 0) (it2:=ay (aa 2)) (g2:=af 1) (t2:=sj (gm (aX (aa 0))) (aJ (ah oLt (ah dw (aa 0) (ak (.int (-1)))) (aa 1)))) (e:=cW (iG (aa 0) (ab (aa 1) ai))) (ρ:=[some (.dat (.list e_)),some (.int j),some (.dat (.list (pk e_ m)))]) (h:=h) (ds:=pk e_ m) (es:=e_) (by simp)
  (U8 (Nat.add_le_add (XS lp hs) hs) (by decide)) #[1] (λa ρ=>∃z,ρ=[some (.dat a),z,some (.dat (.list e_)),some (.int j),some (.dat (.list (pk e_ m)))]) AS (λp s=>.tuple (aB p++[s])) (λa _=>(_,rfl,by simp,_,rfl)) (by
   rintro a ha b hb ρ ⟨z,e⟩;subst e;obtain⟨xs,rfl,rx,sx,lx⟩:=F6 r m a ha;refine(_,rfl,?_,λ_=>CQ rfl rfl (by show xs.length<=1000;omega) h,_,rfl)
   have c1:gm (aX (aa 0)) [some (.dat (.tuple xs)),some (.dat b),some (.dat (.list e_)),some (.int j),some (.dat (.list (pk e_ m)))] h=.ok xs.isEmpty h:=by
    simp_all
   by_cases ne:xs=[]
   ·subst ne;exact Ey c1
   ·have e1:xs.isEmpty=false:=by cases xs<;>simp_all
    rw[e1]at c1;have S_:xs.getLastD .none∈xs:=by rw[W8,Xm ne];exact YC ne
    have c2:=bg (aH (f:=oLt) (a:=ah dw (aa 0) (ak (.int (-1)))) (b:=aa 1) (ρ:=[some (.dat (.tuple xs)),some (.dat b),some (.dat (.list e_)),some (.int j),some (.dat (.list (pk e_ m)))]) (h:=h) (aH (x:=.dat (.tuple xs)) rfl (y:=.int (-1)) rfl (by simp[dw,iE,zP,va ne])) rfl (F5 (rx.sub _ S_) (r.sub b hb) h));have:=AN c1 c2
    simpa [AS,aB,e1]using this)
 exact aK (bS key) rfl
theorem Kg(r:Rw tj e_)(hs:e_.length<=16)(m:Nat)(hm:m<=2)(h:Hm):iq [.dat (.list e_),.int m] h=.ok (.dat (.list (pk e_ m))) h:=by
 have go:∀(n j:Nat),j<n->j<=m->∃x1,lW (aJ (ah E6 (aa 1) (ak (.int 0)))) R9 n [some (.dat (.list e_)),some (.int j),some (.dat (.list (pk e_ (m-j))))] h=.ok (.nx [some (.dat (.list e_)),x1,some (.dat (.list (pk e_ m)))]) h:=by
  intro n
  induction n with
  |zero=>omega
  |succ n ih=>
   intro j hj hjm;have c:=bg (aH (f:=E6) (a:=aa 1) (b:=ak (.int 0)) (ρ:=[some (.dat (.list e_)),some (.int (j:Int)),some (.dat (.list (pk e_ (m-j))))]) (h:=h) rfl rfl (r:=.ok (.bool (decide ((0:Int)<j))) h) rfl);unfold lW;rw[c];simp only[R.dC,R.aW];by_cases q:0<j
   ·rw[Wl (by omega:(0:Int)<j)];obtain⟨x1,e⟩:=ih (j-1) #[1] #[1];have st:=MY r hs (m-j) #[1] (j:Int) h;have e1:(j:Int)-1=((j-1:Nat):Int):=by omega
    have e2:m-j+1=m-(j-1):=by omega
    rw[e1,e2]at st;refine(x1,?_);simp only[VR,st,R.dC,R.aW];exact e
   grind
 obtain⟨x1,e⟩:=go 9 m #[1] (U4 _);rw[Nat.sub_self]at e;unfold iq FC;exact fx rfl (aK (bS rfl) (aK e (cO rfl)))
theorem Hl(hs:∀d∈xs,aD d=true)(nd:xs.Nodup):cC xs=xs:=by
 induction xs with
 |nil=>rfl
 |cons x xs ih=>
  have n:xs.any (PyData.eqv x)=false:=by
   cases e:xs.any _ with
   |false=>rfl
   |true=>exact absurd ((ij (λd m=>hs d (by simp[m])) (hs x (by simp))).mp e) (VP.mp nd).1
  simp_all[cC]
structure Ch(ns c:Y9):Prop where
 r:Rw tj c
 cl:∀a b,.tuple [a,b]∈c->a∈ns/\b∈ns
 le:c.length<=30
def tu(ss c:Y9):Y9:=cQ ltB (pT ss c)
theorem NQ(w:Wb 25 ns ss)(l5:ns.length<=5)(hc:Ch ns c)(h:Hm):(jx [.dat (WD ns ss),.dat (.list c)] h=.ok (.dat (WD ns (tu ss c))) h/\jx [.dat (WD ns ss),.dat (.tuple c)] h=.ok (.dat (WD ns (tu ss c))) h)/\Wb 25 ns (tu ss c):=by
 have st:∀d∈ss,aD d=true:=λd m=>de.st d (w.sr.sub d m);have FB:∀d∈c,aD d=true:=λd m=>de.st d (hc.r.sub d m);have n1:=fI de w.sr;have n2:=fI de hc.r
 have xe:pT ss c=ss.filter (λd=>!c.any (PyData.eqv d))++c.filter (λd=>!ss.any (PyData.eqv d)):=by
  simp_all[pT,Hl,st,n1,FB,n2]
 have mem:∀d∈pT ss c,d∈ss\/d∈c:=λd m=>by
  rw[xe]at m;rcases Vd.mp m with m|m
  ·exact .inl (U7.mp m).1
  ·exact .inr (U7.mp m).1
 have pp:∀d∈pT ss c,tj d:=λd m=>(mem d m).elim (w.sr.sub d) (hc.r.sub d);have nd:(pT ss c).Nodup:=by rw[xe];refine WA.mpr (YQ Wh n1,YQ Wh n2,λp hp q hq e=>?_);subst e;have h1:=(U7.mp hp).2;rw[(ij FB (st p (U7.mp hp).1)).mpr (U7.mp hq).1]at h1;simp at h1
 have lx:(pT ss c).length<=55:=by rw[xe,Vh];have a1:=Vn (λd=>!c.any (PyData.eqv d)) ss;have a2:=Vn (λd=>!ss.any (PyData.eqv d)) c;have:=w.le;have:=hc.le;omega
 have so:=de.Ud pp #[1];have s1:=de.set w.sr.sub (by have:=w.le;omega);have s2:setOk (ss++c)=true:=de.set (λd m=>(Vd.mp m).elim (w.sr.sub d) (hc.r.sub d)) (by have:=w.le;have:=hc.le;simp;omega)
 have run:∀x,f6 x h=some c->jx [.dat (WD ns ss),x] h=.ok (.dat (WD ns (tu ss c))) h:=λx ex=>by
  have ev:uQ pT (ah dw (aa 0) (ak (.int 1))) (aa 1) [some (.dat (WD ns ss)),some x] h=.ok (.dat (.list (tu ss c))) h:=by have e0:ah dw (aa 0) (ak (.int 1)) [some (.dat (WD ns ss)),some x] h=.ok (.dat (.tuple ss)) h:=aH (x:=.dat (WD ns ss)) rfl (y:=.int 1) rfl rfl;have e1:aa 1 [some (.dat (WD ns ss)),some x] h=.ok x h:=rfl;have e2:f6 (.dat (.tuple ss)) h=some ss:=rfl;simp only[uQ,e0,R.aW,e2,s1,VR,e1,ex,s2,so,Bool.and_self,tu]
  exact fx rfl (cO (iy (a:=.tuple ns) (aH (x:=.dat (WD ns ss)) rfl (y:=.int 0) rfl rfl) (aM (bK ev rfl) rfl)))
 refine((run _ rfl,run _ rfl),(w.nr,AM de pp nd,λa b m=>?_,?_))
 ·rcases mem _ ((aY _ _).mem_iff.mp m)with m|m
  ·exact w.cl a b m
  ·exact hc.cl a b m
 ·unfold tu;rw[(aY _ _).length_eq];have h1:=fq (ys:=ns.flatMap λa=>ns.map λb=>PyData.tuple [a,b]) nd λq m=>by obtain⟨a,b,_,_,rfl⟩:=pp q m;obtain⟨ha,hb⟩:=(mem _ m).elim (w.cl a b) (hc.cl a b);exact YB.mpr (a,ha,Vl.mpr (b,hb,rfl))
  simp only[List.length_flatMap,Ve]at h1;rw[List.map_const',List.sum_replicate_nat]at h1;exact U8 h1 (XS l5 l5)
end
section
theorem Kh(w:Wb 25 ns ss)(s:lot.Sublist ns):zk ns (.tuple lot)=true:=by have h1  := cD.mpr λx m=>(cN w.sd).mpr (s.subset m);simp[zk,h1,AL (w.nr.toRw.tm s)]
def inner(ss lot:Y9):Y9:=ss.filter λp=>iY lot (dy p)&&iY lot (gO p)
def dh(lot:Y9):Rel:=λa b=>!iY lot a || !iY lot b
def chg(ss lot:Y9)(p:PyData):Y9:=cQ ltB (inner ss lot++aB p)
def AV(k:K3)(ns ss lot gs:Y9)(ps:Y9):Option Y9:=ps.findSome? λp=>if Dc k ns (tu ss (chg ss lot p)) gs then some (chg ss lot p)else none
def yo(k:K3)(ns ss lot gs:Y9)(n:Nat):Option Y9:=(List.range n).findSome? λm=>AV k ns ss lot gs (pk (rows ns (dh lot)) m)
def MZ:Option Y9->PyData
 |some c=>.tuple c
 |none=>.none
theorem EC(w:Wb 25 ns ss)(s:lot.Sublist ns)(l5:ns.length<=4)(hm:m<=2)(hp:p∈pk (rows ns (dh lot)) m) :
  ∃xs,p=.tuple xs/\xs.length=m/\Ch ns (chg ss lot p)/\(chg ss lot p).length=(inner ss lot).length+m/\eY (inner ss lot++xs)=true:=by
 have sd:=dS w s;obtain⟨xs,rfl,rx,sx,lx⟩:=F6 (dA w.nr) m p hp
 have hi:∀d∈inner ss lot,d∈ss/\iY lot (dy d)=true/\iY lot (gO d)=true:=λd m=>by
  obtain⟨q,r⟩:=U7.mp m
  grind
 have pp:∀d∈inner ss lot++xs,tj d:=λd m=>(Vd.mp m).elim (λq=>w.sr.sub d (hi d q).1) (rx.sub d)
 have nd:(inner ss lot++xs).Nodup:=WA.mpr (YQ Wh (fI de w.sr),fI de rx,λa ha b hb e=>by
  subst e;obtain⟨x,y,rfl,_,_,r⟩:=fv.mp (sx a hb);have:=hi _ ha;simp only[dy,gO]at this
  simp[dh,this.2.1,this.2.2]at r)
 have li:(inner ss lot).length<=25:=U8 (Vn ..) w.le;have so:=de.Ud pp (by rw[Vh];omega);refine(xs,rfl,lx,(AM de pp nd,λa b m=>?_,?_),?_,so)
 ·rcases Vd.mp ((aY _ _).mem_iff.mp m)with m|m
  ·exact w.cl a b (hi _ m).1
  ·obtain⟨x,y,e,hx,hy,_⟩:=fv.mp (sx _ m);simp at e;obtain⟨rfl,rfl⟩:=e;exact(hx,hy)
 ·show(cQ ltB (inner ss lot++xs)).length<=30;rw[(aY _ _).length_eq,Vh];omega
 ·show(cQ ltB (inner ss lot++xs)).length=_;rw[(aY _ _).length_eq,Vh,lx]
abbrev ED:MS:=(aU (bC 12 (ag dz (ab (pH (iG (aa 7) (iG (aa 11) ai))) ai)))
  (lV (aX (ag gB (ab (ag jx (ab (aa 0) (ab (aa 12) ai))) (ab (aa 9) (ab (aa 2) ai))))) (bU (ag jo (ab (aa 12) ai))) cz))
abbrev eρ(k:K3)(ns ss lot gs:Y9)(b:Bool)(most:Nat)(y10 Zp Os:Option D):Fm:=
 [some (.dat (WD ns ss)),some (.dat (.tuple lot)),some (.dat (.str k.nm)),some (.bool b),some (.int most),some (.dat (.tuple ns)),some (.dat (.tuple ss)),some (.dat (.list (inner ss lot))),some (.dat (.list (rows ns (dh lot)))),some (.dat (.list gs)),y10,Zp,Os]
theorem M0(w:Wb 25 ns ss)(s:lot.Sublist ns)(l5:ns.length<=4)(hg:∀g∈gs,qu ns g)(hm:m<=2)(h:Hm) :
  ∀(ps:Y9) (Zp Os:Option D),(∀p∈ps,p∈pk (rows ns (dh lot)) m)->∃ZR ZQ,cn (af 11) ED (ps.map D.dat) (eρ k ns ss lot gs b most y10 Zp Os) h=match AV k ns ss lot gs ps with
   |some c=>.ok (.rt (.dat (.tuple c))) h
   |none=>.ok (.nx (eρ k ns ss lot gs b most y10 ZR ZQ)) h:=by
 intro ps
 induction ps with
 |nil=>exact λZp Os _=>(Zp,Os,rfl)
 |cons p ps ih=>
  intro Zp Os H;obtain⟨ZR,ZQ,e⟩:=ih (some (.dat p)) (some (.dat (.list (chg ss lot p)))) λq m=>H q (U2 _ m);obtain⟨xs,rfl,lx,hc,lc,so⟩:=EC w s l5 hm (H p (.head _));obtain⟨⟨t1,_⟩,w2⟩:=NQ w #[1] hc h;have li:(inner ss lot).length<=25:=U8 (Vn ..) w.le
  have e1:bC 12 (ag dz (ab (pH (iG (aa 7) (iG (aa 11) ai))) ai)) (eρ k ns ss lot gs b most y10 (some (.dat (.tuple xs))) Os) h=.ok (.nx (eρ k ns ss lot gs b most y10 (some (.dat (.tuple xs))) (some (.dat (.list (chg ss lot (.tuple xs))))))) h:=by
   have mk:=lu (inner ss lot++xs) h (by rw[Vh];omega);rw[List.map_append]at mk;have bs:dz [.dat (.list (inner ss lot++xs))] h=.ok (.dat (.list (chg ss lot (.tuple xs)))) h:=by simp only[dz,listOf,so,VR];rfl
   refine bS (aM (xs:=[.dat (.list (inner ss lot++xs))]) (bK ?_ rfl) bs);unfold pH;refine(jR (xs:=(inner ss lot).map D.dat++xs.map D.dat) (h1:=h) ?_).trans mk;simp[iG,f6,listOf]
  have c:=fJ (aM (ρ:=eρ k ns ss lot gs b most y10 (some (.dat (.tuple xs))) (some (.dat (.list (chg ss lot (.tuple xs)))))) (bK (e:=ag jx (ab (aa 0) (ab (aa 12) ai))) (aM (xs:=[.dat (WD ns ss),.dat (.list (chg ss lot (.tuple xs)))]) rfl t1) (bK (e:=aa 9) rfl (bK (e:=aa 2) (a:=ai) rfl rfl))) (EB k w2 hg h));refine(ZR,ZQ,?_);simp only[Vu,cn,af,R.dC,R.aW,VX,VY]
  cases q:Dc k ns (tu ss (chg ss lot (.tuple xs))) gs with
  |true=>
   rw[q]at c;have st:ED (eρ k ns ss lot gs b most y10 (some (.dat (.tuple xs))) Os) h=.ok (.rt (.dat (.tuple (chg ss lot (.tuple xs))))) h:=aK e1 (CK c (cO (aM rfl rfl)));have f1:AV k ns ss lot gs (.tuple xs::ps)=some (chg ss lot (.tuple xs)):=by simp[AV,q]
   rw[st,f1];rfl
  |false=>
   rw[q]at c;have st:ED (eρ k ns ss lot gs b most y10 (some (.dat (.tuple xs))) Os) h=.ok (.nx (eρ k ns ss lot gs b most y10 (some (.dat (.tuple xs))) (some (.dat (.list (chg ss lot (.tuple xs))))))) h:=aK e1 (xI c rfl);have f1:AV k ns ss lot gs (.tuple xs::ps)=AV k ns ss lot gs ps:=by simp[AV,q]
   rw[st,f1];exact e
theorem Ki(w:Wb 25 ns ss)(s:lot.Sublist ns)(l5:ns.length<=4)(hg:∀g∈gs,qu ns g)(h:Hm):∀(ms:List Nat) (y10 Zp Os:Option D),(∀m∈ms,m<=2) ->
  ∃z10 ZR ZQ,cn (af 10) (gp (ay (ag iq (ab (aa 8) (ab (aa 10) ai)))) (af 11) ED) (ms.map λ(m:Nat)=>D.int (0+(m:Int))) (eρ k ns ss lot gs b most y10 Zp Os) h=match ms.findSome? (λm=>AV k ns ss lot gs (pk (rows ns (dh lot)) m))with
   |some c=>.ok (.rt (.dat (.tuple c))) h
   |none=>.ok (.nx (eρ k ns ss lot gs b most z10 ZR ZQ)) h:=by
 have lr:(rows ns (dh lot)).length<=16:=U8 CO (XS l5 l5);intro ms
 induction ms with
 |nil=>exact λy10 Zp Os _=>(y10,Zp,Os,rfl)
 |cons m ms ih=>
  intro y10 Zp Os H;have pe:iq [.dat (.list (rows ns (dh lot))),.int (0+(m:Int))] h=.ok (.dat (.list (pk (rows ns (dh lot)) m))) h:=by rw[Int.zero_add];exact Kg (dA w.nr) lr m (H m (.head _)) h
  obtain⟨u11,u12,e1⟩:=M0 (k:=k) (b:=b) (most:=most) (y10:=some (.int (0+(m:Int)))) w s l5 hg (H m (.head _)) h (pk (rows ns (dh lot)) m) Zp Os λp q=>q;obtain⟨z10,ZR,ZQ,e2⟩:=ih (some (.int (0+(m:Int)))) u11 u12 λq r=>H q (U2 _ r);refine(z10,ZR,ZQ,?_);have it:ay (ag iq (ab (aa 8) (ab (aa 10) ai))) (eρ k ns ss lot gs b most (some (.int (0+(m:Int)))) Zp Os) h=.ok ((pk (rows ns (dh lot)) m).map D.dat) h:=fQ (aM (xs:=[.dat (.list (rows ns (dh lot))),.int (0+(m:Int))]) rfl pe);simp only[Vu,cn,af,R.dC,R.aW,VX,VY,VN];rw[cH it e1]
  cases q:AV k ns ss lot gs (pk (rows ns (dh lot)) m)with
  |some c=>rfl
  |none=>simp only[R.dC,R.aW];exact e2
theorem Hn(b:Bool)(most:Nat)(hm:most<=4)(h:Hm):gA [.bool b,.int most] h=.ok D.none h:=by
 have:(most:Int)<=4:=by omega
 simp_all[gA,nC,vS,vR,TC,uV]
structure CT(b:Bool)(ns lot gs:Y9):Prop where
 ok:∀g∈gs,qu ns g/\∀x∈lot,x∈aB g
 st:b=true->gs=[.tuple lot]
 all:b=false->∀ys,ys.Sublist ns->(∀x∈lot,x∈ys)->.tuple ys∈gs
theorem CU(w:Wb 25 ns ss)(l5:ns.length<=4)(s:lot.Sublist ns)(k:K3)(b:Bool)(h:Hm):∃gs,CT b ns lot gs/\∀most:Nat,most<=2->fV [.dat (WD ns ss),.dat (.tuple lot),.dat (.str k.nm),.bool b,.int most] h=.ok (.dat (MZ (yo k ns ss lot gs (most+1-(inner ss lot).length)))) h:=by
 have sd:=dS w s;have ol:Ok 84 1 (.tuple lot):=(jO.sub (es:=lot) (λd m=>w.uX m) λd m=>s.subset m).tup.mono (by have:=s.length_le;omega) (U4 _);have li:(inner ss lot).length<=25:=U8 (Vn ..) w.le;obtain⟨gw,ew,hw,aw⟩:=Kf w #[1] s h
 obtain⟨gs,G,eg⟩:∃gs,CT b ns lot gs/\∀ρ:Fm,ρ[1]?=some (some (.dat (.tuple lot)))->ρ[3]?=some (some (.bool b))->ρ[5]?=some (some (.dat (.tuple ns)))->Hr (aX (aa 3)) (pH (ab (aa 1) ai)) (ag gz (ab (aa 5) (ab (aa 1) ai))) ρ h=.ok (.dat (.list gs)) h:=by
  cases b with
  |true=>refine([.tuple lot],(λg m=>by rw[Vm.mp m];exact((lot,rfl,s),λx q=>q),λ_=>rfl,λz=>by cases z),λρ e1 e3 e5=>qo (fJ (c:=true) (h1:=h) (by simp[e3])) ?_);rw[if_pos rfl];unfold pH;exact(jR (bK (x:=.dat (.tuple lot)) (by simp[e1]) rfl)).trans (P9 _ _)
  |false=>refine(gw,(hw,(λz=>by cases z),λ_=>aw),λρ e1 e3 e5=>qo (fJ (c:=false) (h1:=h) (by simp[e3])) ?_);rw[if_neg (by simp)];exact aM (xs:=[.dat (.tuple ns),.dat (.tuple lot)]) (by simp[e1,e5]) ew
 refine(gs,G,λmost hm=>?_)
 have ce:fk [.dat (WD ns ss),.dat (.tuple lot),.dat (.str k.nm)] h=.ok D.none h:=by
  have c1:=Qf w (by decide) h;have c2:ke [.dat (WD ns ss),.int 5] h=.ok D.none h:=by simp[ke,tL,show ¬ (5:Int)<ns.length by omega]
  have c3:kc [.dat (WD ns ss),.dat (.tuple lot)] h=.ok D.none h:=by have:=Hf ol (by decide) w.sd h;rw[Kh w s]at this;simp[kc,tK,this]
  have c4:aJ (ah gr (aa 2) (TB fj)) [some (.dat (WD ns ss)),some (.dat (.tuple lot)),some (.dat (.str k.nm))] h=.ok false h:=by cases k<;>rfl
  have st:kY [some (.dat (WD ns ss)),some (.dat (.tuple lot)),some (.dat (.str k.nm))] h=.ok (.nx [some (.dat (WD ns ss)),some (.dat (.tuple lot)),some (.dat (.str k.nm))]) h:=
   aK (rR (aM rfl c1)) (aK (rR (aM (xs:=[.dat (WD ns ss),.int 5]) rfl c2)) (aK (rR (aM (xs:=[.dat (WD ns ss),.dat (.tuple lot)]) rfl c3)) (xI c4 rfl)))
  unfold fk bI;simp only[Vp,Wq,VR,Vu,List.map_nil,YA,WT,show 3-3=0 from rfl,rep0,WS];rw[st];rfl
 have ki:=bQ (n:=2) (it:=ay (aa 6)) (g:=iB (bA (af 0) (bA (af 1) gn))) (t:=lM (aJ (ah j3 (aa 0) (aa 3))) (aJ (ah j3 (aa 1) (aa 3)))) (e:=cW (ab (aa 0) (ab (aa 1) ai))) (ρ:=[some (.dat (WD ns ss)),some (.dat (.tuple lot)),some (.dat (.str k.nm)),some (.bool b),some (.int most),some (.dat (.tuple ns)),some (.dat (.tuple ss)),none,none,none,none,none,none]) (h:=h) (h1:=h) (ds:=ss) (by simp) (by have:=w.le;omega) (λp=>iY lot (dy p)&&iY lot (gO p)) id (λp hp=>by
  obtain⟨a,c,rfl,ha,hc⟩:=w.get hp
  exact(_,rfl,rS (bg (aH rfl rfl (gN (w.uX ha) sd h))) (bg (aH rfl rfl (gN (w.uX hc) sd h))),λ_=>iy rfl rfl))
 rw[YZ]at ki
 have ks:=xJ (n:=2) (it:=ay (aa 5)) (g:=af 0) (it2:=ay (aa 7)) (g2:=af 1) (t2:=sj (aJ (ah gr (aa 0) (aa 3))) (aJ (ah gr (aa 1) (aa 3)))) (e:=cW (ab (aa 0) (ab (aa 1) ai))) (ρ:=[some (.dat (WD ns ss)),some (.dat (.tuple lot)),some (.dat (.str k.nm)),some (.bool b),some (.int most),some (.dat (.tuple ns)),some (.dat (.tuple ss)),some (.dat (.list (inner ss lot))),none,none,none,none,none]) (h:=h) (ds:=ns) (es:=ns) (by simp)
  (U8 (Nat.add_le_add (XS l5 l5) l5) (by decide)) #[1] (λa ρ=>∃z,ρ=[some (.dat a),z,some (.dat (WD ns ss)),some (.dat (.tuple lot)),some (.dat (.str k.nm)),some (.bool b),some (.int most),some (.dat (.tuple ns)),some (.dat (.tuple ss)),some (.dat (.list (inner ss lot))),none,none,none,none,none]) (dh lot) (λa c=>.tuple [a,c]) (λa _=>(_,rfl,by simp,_,rfl)) (by
   rintro a ha c hc ρ ⟨z,e⟩;subst e
   exact(_,rfl,JZ (bg (aH rfl rfl (uW (w.uX ha) sd h))) (bg (aH rfl rfl (uW (w.uX hc) sd h))),λ_=>iy rfl rfl,_,rfl))
 have ks':pS 2 (ay (aa 5)) (af 0) cq (ay (aa 7)) (af 1) (sj (aJ (ah gr (aa 0) (aa 3))) (aJ (ah gr (aa 1) (aa 3)))) (cW (ab (aa 0) (ab (aa 1) ai))) [some (.dat (WD ns ss)),some (.dat (.tuple lot)),some (.dat (.str k.nm)),some (.bool b),some (.int most),some (.dat (.tuple ns)),some (.dat (.tuple ss)),some (.dat (.list (inner ss lot))),none,none,none,none,none] h=.ok (.dat (.list (rows ns (dh lot)))) h:=ks
 have rg:fY (ab (ah cJ (ah x6 (aa 4) (ag iZ (ab (aa 7) ai))) (ak (.int 1))) ai) (eρ k ns ss lot gs b most none none none) h=.ok (nums 0 (most+1-(inner ss lot).length)) h:=by
  have:=zm (a:=ab (ah cJ (ah x6 (aa 4) (ag iZ (ab (aa 7) ai))) (ak (.int 1))) ai) (ρ:=eρ k ns ss lot gs b most none none none) (h:=h) (h1:=h) (j:=(most:Int)-(inner ss lot).length+1) rfl #[1];have e:((most:Int)-(inner ss lot).length+1).toNat=most+1-(inner ss lot).length:=by omega
  rwa [e]at this
 obtain⟨z10,ZR,ZQ,eo⟩:=Ki (k:=k) (b:=b) (most:=most) w s l5 (λg m=>(G.ok g m).1) h (List.range (most+1-(inner ss lot).length)) none none none λm q=>by have:=VI.mp q;omega
 have pre:∀r:R Fl,gp (fY (ab (ah cJ (ah x6 (aa 4) (ag iZ (ab (aa 7) ai))) (ak (.int 1))) ai)) (af 10) (gp (ay (ag iq (ab (aa 8) (ab (aa 10) ai)))) (af 11) ED) (eρ k ns ss lot gs b most none none none) h=r->cn (af 10) (gp (ay (ag iq (ab (aa 8) (ab (aa 10) ai)))) (af 11) ED) (nums 0 (most+1-(inner ss lot).length)) (eρ k ns ss lot gs b most none none none) h=r:=λr e=>by rw[<- e];exact(cH rg rfl).symm
 have go:∀(last:R Fl) (d:PyData),last=.ok (.rt (.dat d)) h->pW [some (.dat (WD ns ss)),some (.dat (.tuple lot)),some (.dat (.str k.nm)),some (.bool b),some (.int most),none,none,none,none,none,none,none,none] h=last->fV [.dat (WD ns ss),.dat (.tuple lot),.dat (.str k.nm),.bool b,.int most] h=.ok (.dat d) h:=λlast d e1 e2=>by unfold fV;exact fx rfl (e2.trans e1)
 have heads:∀r:R Fl,aU (gp (fY (ab (ah cJ (ah x6 (aa 4) (ag iZ (ab (aa 7) ai))) (ak (.int 1))) ai)) (af 10) (gp (ay (ag iq (ab (aa 8) (ab (aa 10) ai)))) (af 11) ED)) (bU (ak .none)) (eρ k ns ss lot gs b most none none none) h=r->pW [some (.dat (WD ns ss)),some (.dat (.tuple lot)),some (.dat (.str k.nm)),some (.bool b),some (.int most),none,none,none,none,none,none,none,none] h=r:=λr e=>
  aK (rR (aM (xs:=[.dat (WD ns ss),.dat (.tuple lot),.dat (.str k.nm)]) rfl ce)) (aK (rR (aM (xs:=[.bool b,.int most]) rfl (Hn b most #[1] h))) (aK (qm rfl rfl) (aK (bS ki) (aK (bS ks') (aK (bS (eg _ rfl rfl rfl)) e)))))
 have es:yo k ns ss lot gs (most+1-(inner ss lot).length)=(List.range (most+1-(inner ss lot).length)).findSome? (λm=>AV k ns ss lot gs (pk (rows ns (dh lot)) m)):=rfl;rw[es]
 cases q:(List.range (most+1-(inner ss lot).length)).findSome? (λm=>AV k ns ss lot gs (pk (rows ns (dh lot)) m))with
 |some c=>rw[q]at eo;exact go _ _ rfl (heads _ (xH (cH rg eo)))
 |none=>rw[q]at eo;exact go _ _ rfl (heads _ (aK (cH rg eo) (cO rfl)))
end
section
theorem rY(w:Wb 25 ns ss)(l:qu ns d):au d=true/\d.depth<=1:=by obtain⟨xs,rfl,s⟩:=l;exact(by simp[au,fH (dS w s)],by simp[PyData.depth,ql (dS w s)])
theorem F7(w:Wb 25 ns ss)(s:lot.Sublist ns):∀{ds:Y9},(∀x∈ds,qu ns x)->GN (.tuple lot) ds=some (decide (.tuple lot∈ds))
 | [],_=>rfl
 |x::ds,H=>by
  have ih:=F7 w s (ds:=ds) λy q=>H y (U2 _ q);obtain⟨tx,dx⟩:=rY w (H x (.head _));obtain⟨tl,dl⟩:=rY w (d:=.tuple lot) (lot,rfl,s);obtain⟨xs,rfl,sx⟩:=H x (.head _);have m:min (PyData.tuple xs).depth (PyData.tuple lot).depth<=40:=by omega
  have e:E5 (.tuple xs) (.tuple lot)=some (PyData.eqv (.tuple xs) (.tuple lot)):=by simp[E5,eqQ,noDict,bW tx,bW tl,m]
  have e2:PyData.eqv (.tuple xs) (.tuple lot)=decide (PyData.tuple lot=.tuple xs):=by rw[VO,gu tx tl,X9,eq_comm]
  simp only[GN,e,ih,e2,Vb,Bool.decide_or]
theorem Kj(o:jO n m xs)(h:Hm):zN (.dat (.list xs)) (.dat (.list [])) h=.ok (.bool (!xs.isEmpty)) h:=by
 have h1:PyData.hasDictAll xs=false:=by have:=o.lst.RV;grind[noDict,PyData.hasDict]
 simp[zN,eqQ,h1,FU,noDict,PyData.hasDict,PyData.hasDictAll,PyData.depth,PyData.depthAll]
theorem CV{α:Type}(f:Nat->Option α):∀n,match (List.range n).findSome? f with
  |some c=>∃m,m<n/\f m=some c/\∀m',m'<m->f m'=none
  |none=>∀m,m<n->f m=none
 |0=>λm hm=>absurd hm (Nat.not_lt_zero _)
 |n+1=>by
  have ih:=CV f n;rw[Xj,V5]
  cases q:(List.range n).findSome? f with
  |some c=>rw[q]at ih;obtain⟨m,h1,h2⟩:=ih;exact(m,by omega,h2)
  |none=>
   rw[q]at ih;simp
   cases q2:f n with
   |some c=>grind
   |none=>
    grind
theorem Kk(e:AV k ns ss lot gs ps=some c):∃p∈ps,c=chg ss lot p/\Dc k ns (tu ss c) gs=true:=by
 obtain⟨p,hp,q⟩:=List.exists_of_findSome?_eq_some e
 grind
structure UX(k:K3)(ns ss lot gs:Y9)(m:Nat)(c:Y9):Prop where
 f:AV k ns ss lot gs (pk (rows ns (dh lot)) m)=some c
 lt:∀m',m'<m->AV k ns ss lot gs (pk (rows ns (dh lot)) m')=none
theorem Kl(e:yo k ns ss lot gs n=some c):∃m,m<n/\UX k ns ss lot gs m c:=by have:=CV (λm=>AV k ns ss lot gs (pk (rows ns (dh lot)) m)) n;unfold yo at e;rw[e]at this;obtain⟨m,h1,h2,h3⟩:=this;exact(m,h1,h2,h3)
end
def mM:Y9->Nat->List Y9
 |_,0=>[[]]
 | [],_+1=>[]
 |x::xs,m+1=>(mM xs m).map (x::·)++mM xs (m+1)
theorem ow:∀{xs:Y9} {m:Nat},∀p∈mM xs m,p.Sublist xs/\p.length=m
 |xs,0,p,h=>by
  grind[mM,List.mem_singleton]
 | [],m+1,p,h=>by trivial
 |x::xs,m+1,p,h=>by
  simp[mM]at h;rcases h with⟨q,hq,rfl⟩|h
  ·obtain⟨a,b⟩:=ow q hq
   simp_all
  ·obtain⟨a,b⟩:=ow p h
   grind
def M1(xs p:Y9):List Y9:=(xs.filter λs=>AS (.tuple p) s).map λs=>p++[s]
theorem CW(r:Rw tj (a::xs))(hb:b∈xs):ltB b a=false:=by
 have h:=(VG.mp r.ris).1 b hb
 cases z:ltB b a with
 |false=>rfl
 |true=>have t:=Ew (de.cmp r.sub) (de.C8 r.sub) (.head _) (U2 _ hb) (.head _) h z;exact absurd rfl (CJ (de.t (r.sub a (.head _))) t)
theorem Km(h:p≠[]):AS (.tuple p) s=ltB (p.getLast h) s:=by
 simp_all[AS,aB,Xm]
theorem Kn(r:Rw tj (x::xs))(sq:q.Sublist xs):M1 (x::xs) (x::q)=(M1 xs q).map (x::·):=by
 have hx:AS (.tuple (x::q)) x=false:=by
  rw[Km (by simp)]
  cases q with
  |nil=>
   cases z:ltB _ x with
   |false=>rfl
   |true=>exact absurd rfl (CJ (de.t (r.sub x (.head _))) z)
  |cons y q=>exact CW r (sq.subset (by simp_all))
 have hs:∀s∈xs,AS (.tuple (x::q)) s=AS (.tuple q) s:=λs m=>by
  cases q with
  |nil=>simpa [AS,aB]using(VG.mp r.ris).1 s m
  |cons y q=>rfl
 simp_all[M1,YX]
theorem Ko(r:Rw tj (x::xs))(sq:q.Sublist xs)(h:q≠[]):M1 (x::xs) q=M1 xs q:=by unfold M1;rw[Xu,Km h,CW r (sq.subset (YC _))];rfl
theorem F8:∀xs:Y9,mM xs 1=xs.map λs=>[s]
 | []=>rfl
 |x::xs=>by simp[mM,F8 xs]
theorem jS{f g:Y9->List Y9}:∀{xs:List Y9},(∀x∈xs,f x=g x)->xs.flatMap f=xs.flatMap g
 | [],_=>rfl
 |x::xs,h=>by rw[WB,WB,h x (.head _),jS λy m=>h y (U2 _ m)]
theorem AW:∀{xs:Y9} {m:Nat},Rw tj xs->mM xs (m+1)=(mM xs m).flatMap (M1 xs)
 |xs,0,_=>by
  have:(xs.filter λs=>AS (.tuple []) s)=xs:=List.filter_eq_self.mpr λa _=>by rfl
  simp[F8,mM,M1,this]
 | [],m+1,_=>by rfl
 |x::xs,m+1,r=>by have r2:Rw tj xs:=(λd h=>r.sub d (U2 _ h),(VG.mp r.ris).2);have e1:=AW (m:=m) r2;have e2:=AW (m:=m+1) r2;show(mM xs _).map _++mM xs _=((mM xs m).map _++mM xs _).flatMap _;rw[List.flatMap_append,List.flatMap_map,jS λq hq=>Kn r (ow q hq).1,jS λq hq=>Ko r (ow q hq).1 λz=>by have:=(ow q hq).2;grind,<- e2,e1,Y2]
theorem AX(r:Rw tj xs):∀m,pk xs m=(mM xs m).map .tuple
 |0=>by simp[pk,mM]
 |m+1=>by rw[AW r,pk,AX r m,List.flatMap_map,Y2];simp[M1,aB,Yp]
def qv(w i:PyData->Bool)(xs p:Y9):Y9:=xs.filter λz=>if w z then i z else decide (z∈p)
theorem F9{α β:Type}{f:α->Option β}{xs:List α}(h:∀x∈xs,f x=none):xs.findSome? f=none:=List.findSome?_eq_none_iff.mpr h
theorem xK{β:Type}(w i:PyData->Bool):∀{xs:Y9},xs.Nodup->∀(n:Nat) (G:Y9->Option β),(∀row,row.Sublist xs->G row≠none->∀z∈xs,w z=true->(z∈row<->i z=true)) ->
  (mM xs n).findSome? G=if(xs.filter λz=>w z&&i z).length<=n then(mM (xs.filter λz=>!w z) (n-(xs.filter λz=>w z&&i z).length)).findSome? λp=>G (qv w i xs p)else none
 |xs,nd,0,G,H=>by
  simp only[mM,VN,List.findSome?_nil]
  cases e:xs.filter λz=>w z&&i z with
  |nil=>
   have e2:qv w i xs []=[]:=by
    refine Eq.trans (YX λz _=>?_) e
    grind
   simp[mM,Wq,U4,VR,Nat.sub_self,VN,List.findSome?_nil,e2]
  |cons y ys=>
   have hy:y∈xs.filter λz=>w z&&i z:=by rw[e];simp
   obtain⟨h1,h2⟩:=U7.mp hy;rw[U1]at h2;rw[if_neg (by simp)]
   cases q:G []with
   |none=>rfl
   |some c=>have:=(H [] (List.nil_sublist _) (by rw[q];simp) y h1 h2.1).mpr h2.2;simp at this
 | [],nd,n+1,G,H=>by simp[mM]
 |x::xs,nd,n+1,G,H=>by
  obtain⟨nx,ZU⟩:=VP.mp nd;have ih1:=xK (β:=β) w i ZU (n+1) G λrow sr h z m=>H row (sr.cons x) h z (U2 _ m);have ih2:=xK (β:=β) w i ZU n (λrow=>G (x::row)) λrow sr h z m hw=>by rw[<- H _ (sr.cons_cons x) h z (U2 _ m) hw,Vb];exact(.inr,λq=>q.resolve_left λe=>nx (e▸m))
  have e0:(mM (x::xs) (n+1)).findSome? G=((mM xs n).findSome? λrow=>G (x::row)).or ((mM xs (n+1)).findSome? G):=by rw[mM,V5,YR];rfl
  have mx:∀q:Y9,qv w i xs (x::q)=qv w i xs q:=λq=>YX λz hz=>by have:z≠x:=λe=>nx (e▸hz);simp[this]
  rw[e0,ih1,ih2]
  cases hw:w x with
  |true=>
   cases hi:i x with
   |true=>
    have g0:((mM (xs.filter λz=>!w z) (n+1-(xs.filter λz=>w z&&i z).length)).findSome? λp=>G (qv w i xs p))=none:=F9 λp hp=>by
     cases q:G (qv w i xs p)with
     |none=>rfl
     |some c=>have:=(H (qv w i xs p) (Wh.cons x) (by rw[q];simp) x (.head _) hw).mpr hi;exact absurd (U7.mp this).1 nx
    have m1:∀p,qv w i (x::xs) p=x::qv w i xs p:=λp=>by simp[qv,hw,hi]
    simp only[Xu,hw,hi,Bool.and_self,VR,WC,Vp,g0,m1,Nat.add_le_add_iff_right,Nat.add_sub_add_right];split<;>simp
   |false=>
    have g0:((mM (xs.filter λz=>!w z) (n-(xs.filter λz=>w z&&i z).length)).findSome? λp=>G (x::qv w i xs p))=none:=F9 λp hp=>by
     cases q:G (x::qv w i xs p)with
     |none=>rfl
     |some c=>have:=(H (x::qv w i xs p) (Wh.cons_cons x) (by rw[q];simp) x (.head _) hw).mp (by simp);rw[hi]at this;cases this
    have m1:∀p,qv w i (x::xs) p=qv w i xs p:=λp=>by simp[qv,hw,hi]
    simp only[Xu,hw,hi,Bool.and_false,WC,g0,m1];split<;>simp
  |false=>
   have m1:∀p,x∉p->qv w i (x::xs) p=qv w i xs p:=λp h=>by simp[qv,hw,h]
   have m2:∀p,qv w i (x::xs) (x::p)=x::qv w i xs p:=λp=>by rw[<- mx p];simp[qv,hw]
   have nin:∀m p,p∈mM (xs.filter λz=>!w z) m->x∉p:=λm p hp q=>nx (U7.mp ((ow p hp).1.subset q)).1
   have c1:∀m,((mM (xs.filter λz=>!w z) m).findSome? λp=>G (qv w i (x::xs) p))=(mM (xs.filter λz=>!w z) m).findSome? λp=>G (qv w i xs p):=λm=>by
    have:∀(L:List Y9),(∀p∈L,x∉p)->(L.findSome? λp=>G (qv w i (x::xs) p))=L.findSome? λp=>G (qv w i xs p):=λL=>by
     induction L with
     |nil=>intro _;rfl
     |cons p L ih=>intro h;rw[VN,VN,m1 p (h p (.head _)),ih λq m=>h q (U2 _ m)]
    exact this _ (nin m)
   simp only[Xu,hw,XQ,YT,VR,Vc,VQ];generalize (xs.filter λz=>w z&&i z).length=t at *;rcases Wv n t with z|z
   ·rcases Wv (n+1) t with z2|z2
    ·rw[if_neg #[1],if_neg #[1],if_neg #[1]];rfl
    ·obtain rfl:t=n+1:=by omega
     rw[if_neg #[1],if_pos #[1],if_pos #[1],Nat.sub_self];simp[mM,m1]
   ·rw[if_pos z,if_pos #[1],if_pos #[1],show n+1-t=(n-t)+1 by omega,mM,V5,YR,c1];simp[Yp,m2]
theorem uo{β:Type}{f g:Nat->Option β}(h:∀n,f n=if t<=n then g (n-t)else none):∀N,(List.range N).findSome? f=(List.range (N-t)).findSome? g
 |0=>by simp
 |N+1=>by
  rw[Xj,V5,uo h N,VN,h N];rcases Wv N t with z|z
  ·grind
  ·rw[if_pos z,show N+1-t=(N-t)+1 by omega,Xj,V5,VN];rfl
section
theorem Kp(e1:ma ρ h=.ok xs h)(e2:mk ρ h=.ok ys h)(hn:xs.length=n)(e3:F (xs++ys) h=r):sJ n F ma mk ρ h=r:=by
 simp_all[sJ]
theorem Kq(w:Wb 25 ns ss)(s:lot.Sublist ns)(h1:∀x∈ns,x∈Ez ns ss lot<->x∈lot):Ez ns ss lot=lot:=
 F2 zo (w.nr.toRw.tm oV) (w.nr.toRw.tm s) λd=>(λm=>(h1 d (oV.subset m)).mp m,λm=>(h1 d (s.subset m)).mpr m)
end
theorem EE(PL:∀{i:Nat} {h:Hm},Bx i h->Dr i h (right [.ref i] h) λd=>d=.bool true) :
  ∀(h:Hm),Wf h->∃h' y1 y2,cn (af 1) (gp (fY (ab (ak (.int 2)) ai)) (af 2) (lV (gm (aX (ag right (ab (ag fW (ab (aa 0) (ab (aa 1) (ab (aa 2) ai)))) ai)))) (bU (ak (.bool false))) cz)) (nums 0 N) [some (.scr ns),none,none] h=.ok (.nx [some (.scr ns),y1,y2]) h':=by
 intro h w
 obtain⟨s_,h',e,w',y1,y2,rfl⟩:=ia (g:=af 1) (b:=gp (fY (ab (ak (.int 2)) ai)) (af 2) (lV (gm (aX (ag right (ab (ag fW (ab (aa 0) (ab (aa 1) (ab (aa 2) ai)))) ai)))) (bU (ak (.bool false))) cz))
  (λ_ ρ hh=>Wf hh/\∃y1 y2,ρ=[some (.scr ns),y1,y2]) (nums 0 N) 0 [some (.scr ns),none,none] h (by
   rintro j x hx ρ hh ⟨w,y1,y2,e2⟩;subst e2;simp only[nums,VS,VC]at hx;obtain⟨k,_,rfl⟩:=hx
   obtain⟨s_,h',e,w',z2,rfl⟩:=ia (g:=af 2) (b:=lV (gm (aX (ag right (ab (ag fW (ab (aa 0) (ab (aa 1) (ab (aa 2) ai)))) ai)))) (bU (ak (.bool false))) cz)
    (λ_ ρ hh=>Wf hh/\∃y2,ρ=[some (.scr ns),some (.int (0+(k:Int))),y2]) (nums 0 2) 0 [some (.scr ns),some (.int (0+(k:Int))),y2] hh (by
     rintro j x hx ρ hh ⟨w,y2,e2⟩;subst e2;simp only[nums,VS,VC]at hx;obtain⟨l,_,rfl⟩:=hx;obtain⟨n,eb⟩:=Qd ns k l hh;have bx:Bx hh.length (hh++[.lst [.int n]]):=((n,by simp),w.push rfl);obtain⟨_,h2,e2,s2,rfl⟩:=PL bx
     exact(_,hh,[some (.scr ns),some (.int (0+(k:Int))),some (.int (0+(l:Int)))],h2,rfl,.inl (by simp[eb,e2]),(s2.bx bx).wf,_,rfl)) (w,y2,rfl)
   refine(_,hh,[some (.scr ns),some (.int (0+(k:Int))),z2],h',rfl,.inl ?_,w',_,_,rfl)
   exact cH (ou (n:=2) (by simp) (by decide)) e) (w,none,none,rfl)
 grind
section
theorem M3(hs:∀d∈ss,aD d=true)(hc:∀d∈c,aD d=true):z∈pT ss c<->(z∈ss/\z∉c)\/(z∉ss/\z∈c):=by
 unfold pT;rw[Vd,U7,U7,dE hs,dE hc];have k:∀{xs:Y9},_->aD z=true->((!xs.any (PyData.eqv z))=true<->z∉xs):=λ{xs} hx hz=>by rw[<- ij hx hz];simp
 constructor
 ·rintro(⟨a,b⟩|⟨a,b⟩)
  ·exact .inl (a,(k hc (hs z a)).mp b)
  simp_all
 ·rintro(⟨a,b⟩|⟨a,b⟩)
  ·exact .inl (a,(k hc (hs z a)).mpr b)
  ·exact .inr (b,(k hs (hc z b)).mpr a)
theorem Kr(w:Wb 25 ns ss)(hc:∀d∈c,tj d):z∈tu ss c<->(z∈ss/\z∉c)\/(z∉ss/\z∈c):=by unfold tu;rw[(aY _ _).mem_iff];exact M3 (λd m=>de.st d (w.sr.sub d m)) λd m=>de.st d (hc d m)
abbrev eT(ns:Y9):Y9:=rows ns λ_ _=>true
def Ht(lot:Y9)(z:PyData):Bool:=iY lot (dy z)&&iY lot (gO z)
def Qk(ss:Y9)(z:PyData):Bool:=decide (z∈ss)
def lz(k:K3)(ns ss gs row:Y9):Option Y9:=if Dc k ns (tu ss row) gs then some row else none
theorem xM(w:Wb 25 ns ss):(eT ns).filter (λz=>!Ht lot z)=rows ns (dh lot):=by
 refine F2 de (λd m=>(dA w.nr).sub d (U7.mp m).1,(dA w.nr).ris.filter _) (dA w.nr) λd=>?_;rw[U7,fv,fv];constructor
 ·rintro⟨⟨a,b,rfl,ha,hb,_⟩,h⟩;exact(a,b,rfl,ha,hb,by grind[Ht,dh,dy,gO])
 ·rintro⟨a,b,rfl,ha,hb,h⟩;exact((a,b,rfl,ha,hb,rfl),by simp_all[Ht,dh,dy,gO])
theorem Ks(w:Wb 25 ns ss)(m:z∈ss):z∈eT ns:=by obtain⟨a,b,rfl,ha,hb⟩:=w.get m;exact fv.mpr (a,b,rfl,ha,hb,rfl)
theorem CY(w:Wb 25 ns ss):(eT ns).filter (λz=>Ht lot z&&Qk ss z)=inner ss lot:=by
 refine F2 de (λd m=>(dA w.nr).sub d (U7.mp m).1,(dA w.nr).ris.filter _) (λd m=>w.sr.sub d (U7.mp m).1,w.sr.ris.filter _) λd=>?_;unfold inner;rw[U7,U7,U1];constructor
 ·rintro⟨_,h1,h2⟩;exact(Wz h2,h1)
 ·rintro⟨h1,h2⟩;exact(Ks w h1,h2,Wl h1)
theorem Ql(w:Wb 25 ns ss)(s:lot.Sublist ns)(l4:ns.length<=4)(hm:m<=2)(hp:p∈mM (rows ns (dh lot)) m):qv (Ht lot) (Qk ss) (eT ns) p=chg ss lot (.tuple p):=by
 have Z7:PyData.tuple p∈pk (rows ns (dh lot)) m:=by
  rw[AX (dA w.nr)]
  grind
 obtain⟨xs,e,_,hc,_⟩:=EC w s l4 hm Z7;have sp:=(ow p hp).1;refine F2 de (λd m=>(dA w.nr).sub d (U7.mp m).1,(dA w.nr).ris.filter _) hc.r λd=>?_;unfold chg qv;rw[(aY _ _).mem_iff,U7,Vd,<- CY w,U7]
 have np:d∈p->Ht lot d=false:=λm=>by
  have:=sp.subset m;rw[<- xM w]at this
  grind
 have ap:d∈p->d∈eT ns:=λm=>by
  have:=sp.subset m;rw[<- xM w]at this
  grind
 simp[aB]
 cases q:Ht lot d with
 |true=>
  simp_all
 |false=>
  simp_all
theorem Qm(w:Wb 25 ns ss)(s:lot.Sublist ns)(hg:∀g∈gs,qu ns g/\∀x∈lot,x∈aB g)(sr:row.Sublist (eT ns))(e:lz k ns ss gs row≠none):∀z∈eT ns,Ht lot z=true->(z∈row<->Qk ss z=true):=by
 intro z hz hw;unfold lz at e;split at e
 case isFalse=>grind
 rename_i r;obtain⟨g,mg,r⟩:=VL.mp r;rw[U1]at r;obtain⟨⟨xs,rfl,sx⟩,hx⟩:=hg g mg;obtain⟨a,b,rfl,ha,hb,_⟩:=fv.mp hz;have pr:∀d∈row,tj d:=λd m=>(dA w.nr).sub d (sr.subset m);have sd:=dS w s;simp only[Ht,dy,gO,U1]at hw;have h1:=hx a ((cN sd).mp hw.1);have h2:=hx b ((cN sd).mp hw.2);have np:PyData.tuple [a,b]∉tu ss row:=λm=>by have q:=r.1;unfold uG at q;rw[WQ,Yg]at q;have sdx:=dS w sx;simp only[aB]at h1 h2;exact q _ m (by simp[aB,dy,gO,(cN sdx).mpr h1,(cN sdx).mpr h2])
 rw[Kr w pr]at np;unfold Qk
 grind
theorem Kt(w:Wb 25 ns ss)(s:lot.Sublist ns)(l4:ns.length<=4)(k:K3)(hg:∀g∈gs,qu ns g/\∀x∈lot,x∈aB g)(N:Nat)(hN:N<=3) :
  ((List.range N).findSome? λn=>(mM (eT ns) n).findSome? (lz k ns ss gs))=yo k ns ss lot gs (N-(inner ss lot).length):=by
 unfold yo
 have key:∀n,n<=2->(mM (eT ns) n).findSome? (lz k ns ss gs)=if(inner ss lot).length<=n then AV k ns ss lot gs (pk (rows ns (dh lot)) (n-(inner ss lot).length))else none:=λn hn=>by
  rw[xK (Ht lot) (Qk ss) (fI de (dA w.nr)) n (lz k ns ss gs) λrow sr e=>Qm w s hg sr e,CY w,xM w];split
  ·rw[AX (dA w.nr)];unfold AV;rw[YR]
   have:∀(L:List Y9),(∀p∈L,qv (Ht lot) (Qk ss) (eT ns) p=chg ss lot (.tuple p))->(L.findSome? λp=>lz k ns ss gs (qv (Ht lot) (Qk ss) (eT ns) p))=L.findSome? ((λp=>if Dc k ns (tu ss (chg ss lot p)) gs then some (chg ss lot p)else none)∘PyData.tuple):=λL=>by
    induction L with
    |nil=>grind
    |cons p L ih=>intro H;rw[VN,VN,H p (.head _),ih λq m=>H q (U2 _ m)];rfl
   exact this _ λp hp=>Ql w s l4 #[1] hp
  ·rfl
 have cut:∀N,N<=3->((List.range N).findSome? λn=>(mM (eT ns) n).findSome? (lz k ns ss gs))=(List.range N).findSome? λn=>if(inner ss lot).length<=n then AV k ns ss lot gs (pk (rows ns (dh lot)) (n-(inner ss lot).length))else none:=by
  intro N
  induction N with
  |zero=>grind
  |succ N ih=>intro hN;rw[Xj,V5,V5,ih #[1],VN,VN,key N #[1]];rfl
 rw[cut N hN];exact uo (g:=λm=>AV k ns ss lot gs (pk (rows ns (dh lot)) m)) (λ_=>rfl) N
end
structure Wu(ns ts:Y9):Prop where
 nr:Nr ns
 pr:∀d∈ts,∃a b,d=.tuple [a,b]/\a∈ns/\b∈ns
 le:ts.length<=30
theorem lB(l:List α)(c:α->Bool)(f:α->β):((l.filter c).map f).isEmpty=!l.any c:=by
 induction l with
 |nil=>rfl
 |cons a l ih=>
  cases q:c a with
  |true=>grind
  |false=>simp_all
theorem CZ(td:au (.tuple es)=true)(dd:(PyData.tuple es).depth<=40):∀{ds:Y9},(∀x∈ds,au x=true/\gv x=true)->GN (.tuple es) ds=some (decide (.tuple es∈ds))
 | [],_=>rfl
 |x::ds,H=>by
  have ih:=CZ td dd (ds:=ds) λy q=>H y (U2 _ q);obtain⟨tx,ux⟩:=H x (.head _);cases x<;>simp only[gv,Vc]at ux;rename_i xs;have m:min (PyData.tuple xs).depth (PyData.tuple es).depth<=40:=by omega
  have e:E5 (.tuple xs) (.tuple es)=some (PyData.eqv (.tuple xs) (.tuple es)):=by simp[E5,eqQ,noDict,bW tx,bW td,m]
  have e2:PyData.eqv (.tuple xs) (.tuple es)=decide (PyData.tuple es=.tuple xs):=by rw[VO,gu tx td,X9,eq_comm]
  simp only[GN,e,ih,e2,Vb,Bool.decide_or]
section
theorem Wu.sd(u:Wu ns ts):eJ ns iX=true:=cD.mpr λd m=>bV (u.nr.sub d m)
theorem Wu.uX(u:Wu ns ts)(h:a∈ns):Ok 6 0 a:=F1 (u.nr.sub a h)
theorem Wu.pp(u:Wu ns ts):∀d∈ts,tj d:=λd m=>by obtain⟨a,b,rfl,ha,hb⟩:=u.pr d m;exact(a,b,u.nr.sub a ha,u.nr.sub b hb,rfl)
theorem mN(u:Wu ns ts)(hl:lot.Sublist ns):eJ lot iX=true:=cD.mpr λd m=>cD.mp u.sd d (hl.subset m)
theorem EF(u:Wu ns ts)(ha:a∈ns)(hb:b∈ns)(h:Hm):j3 (.dat (.tuple [a,b])) (.dat (.tuple ts)) h=.ok (.bool (decide (.tuple [a,b]∈ts))) h/\gr (.dat (.tuple [a,b])) (.dat (.tuple ts)) h=.ok (.bool (!decide (.tuple [a,b]∈ts))) h:=by have t:=fu (a,b,u.nr.sub a ha,u.nr.sub b hb,rfl);have:=CZ t.2.1 #[1] λx m=>((fu (u.pp x m)).2.1,(fu (u.pp x m)).2.2.2.1);simp[j3,gr,findIn,iE,lY,this]
theorem Ho(u:Wu ns ts)(sx:xs.Sublist ns)(sy:ys.Sublist ns)(h:Hm):eA [.dat (.tuple xs),.dat (.tuple ys)] h=.ok (.bool (xs.all (iY ys))) h:=by have sd:=mN u sy;have key:=bQ (n:=1) (it:=ay (aa 0)) (g:=af 0) (t:=aJ (ah gr (aa 0) (aa 2))) (e:=aa 0) (ρ:=[some (.dat (.tuple xs)),some (.dat (.tuple ys))]) (h:=h) (h1:=h) (ds:=xs) (by simp) (by have:=u.nr.le;grind) (λx=>!iY ys x) id (λx hx=>(_,rfl,by simp[uW (u.uX (sx.subset hx)) sd],λ_=>rfl));have ok:=jO.sub (es:=(xs.filter (λx=>!iY ys x)).map id) (λd hd=>u.uX (sx.subset hd)) (by grind);have e1:=all_filter xs (iY ys) id;have:=oQ ok h;rw[e1]at this;exact fx rfl (cO (aH key rfl this))
theorem M4(u:Wu ns ts)(s:lot.Sublist ns)(h:Hm):eZ [.dat (WD ns ts),.dat (.tuple lot)] h=.ok (.bool (uG ts lot)) h:=by
 have sd:=mN u s
 have key:=bQ (n:=2) (it:=ay (ah dw (aa 0) (ak (.int 1)))) (g:=iB (bA (af 0) (bA (af 1) gn))) (t:=lM (aJ (ah j3 (aa 0) (aa 3))) (aJ (ah j3 (aa 1) (aa 3)))) (e:=ak _) (ρ:=[some (.dat (WD ns ts)),some _]) (h:=h) (h1:=h) (ds:=ts) (by simp) (by have:=u.le;omega) (λp=>iY lot (dy p)&&iY lot (gO p)) (λ_=>.int 1) (λp hp=>by
  obtain⟨a,b,rfl,ha,hb⟩:=u.pr p hp
  exact(_,rfl,rS (bg (aH rfl rfl (gN (u.uX ha) sd h))) (bg (aH rfl rfl (gN (u.uX hb) sd h))),λ_=>rfl))
 have:=oQ (AG (ts.filter λp=>iY lot (dy p)&&iY lot (gO p))) h;rw[lB]at this;exact fx rfl (cO (aH key rfl this))
theorem M5(u:Wu ns ts)(s:lot.Sublist ns)(hx:x∈ns):(lot.any λy=>decide (.tuple [y,x]∈ts))=mJ ts lot x:=by
 have sd:=mN u s;unfold mJ;rw[VO,VL,VL];constructor
 ·rintro⟨y,hy,e⟩;exact(_,Wz e,by simp[dy,gO,(cN sd).mpr hy,(mL (u.nr.sub x hx) (u.nr.sub x hx)).mpr rfl])
 ·rintro⟨p,hp,e⟩;obtain⟨a,b,rfl,ha,hb⟩:=u.pr p hp;rw[U1]at e;have:=(mL (u.nr.sub b hb) (u.nr.sub x hx)).mp e.2;subst this;exact(a,(cN sd).mp e.1,Wl hp)
theorem xN(u:Wu ns ts)(s:lot.Sublist ns)(hx:x∈ns)(h:Hm):b8 [.dat (WD ns ts),.dat (.tuple lot),.dat x] h=.ok (.bool (!dM ts lot x)) h:=by
 have sd:=mN u s
 have k1:=bQ (n:=2) (it:=ay (ah dw (aa 0) (ak (.int 1)))) (g:=iB (bA (af 0) (bA (af 1) gn))) (t:=aJ (ah oEq (aa 1) (aa 4))) (e:=aa 0) (ρ:=[some (.dat (WD ns ts)),some (.dat (.tuple lot)),some (.dat x),none]) (h:=h) (h1:=h) (ds:=ts) (by simp) (by have:=u.le;omega) (λs=>PyData.eqv (gO s) x) dy (λs hs=>by
  obtain⟨a,b,rfl,ha,hb⟩:=u.pr s hs
  exact(_,rfl,by simp[R3 (u.nr.sub b hb) (u.nr.sub x hx),gO],λ_=>by rfl))
 have fin:∀f∈(ts.filter λs=>PyData.eqv (gO s) x).map dy,f∈ns:=λf m=>by obtain⟨p,hp,rfl⟩:=Vl.mp m;obtain⟨a,b,rfl,ha,hb⟩:=u.pr p (U7.mp hp).1;exact ha
 have fl:((ts.filter λs=>PyData.eqv (gO s) x).map dy).length<=30:=by rw[Ve];exact U8 (Vn ..) u.le
 have be:dM ts lot x=((ts.filter λs=>PyData.eqv (gO s) x).map dy).any λf=>!mJ ts lot f:=by
  rw[List.any_map,List.any_filter];unfold dM;congr 1
  funext p
  simp[Bool.and_comm]
 generalize (ts.filter λs=>PyData.eqv (gO s) x).map dy=fs at *
 have k2:=bQ (n:=1) (it:=ay (aa 3)) (g:=af 0) (t:=aJ (ah oEq (aZ 1 (ay (aa 2)) (af 0) (aJ (ah j3 (cW (ab (aa 0) (ab (aa 1) ai))) (ah dw (aa 2) (ak (.int 1))))) (ak (.int 1))) (ak (.list [])))) (e:=aa 0) (ρ:=[some (.dat (WD ns ts)),some (.dat (.tuple lot)),some (.dat x),some (.dat (.list fs))]) (h:=h) (h1:=h) (ds:=fs) (by simp) #[1] (λf=>!mJ ts lot f) id (λf hf=>by
  have k3:=bQ (n:=1) (it:=ay (aa 2)) (g:=af 0) (t:=aJ (ah j3 (cW (ab (aa 0) (ab (aa 1) ai))) (ah dw (aa 2) (ak (.int 1))))) (e:=ak (.int 1)) (ρ:=[some (.dat f),some (.dat (WD ns ts)),some (.dat (.tuple lot)),some (.dat x),some (.dat (.list fs))]) (h:=h) (h1:=h) (ds:=lot) (by simp) (by have:=u.nr.le;have:=s.length_le;omega) (λy=>decide (.tuple [y,f]∈ts)) (λ_=>.int 1) (λy hy=>(_,rfl,bg (aH (iy rfl rfl) (aH (x:=.dat (WD ns ts)) rfl (y:=.int 1) rfl rfl) (EF u (s.subset hy) (fin f hf) h).1),λ_=>rfl));have:=oQ (AG (lot.filter λy=>decide (.tuple [y,f]∈ts))) h;rw[lB,M5 u s (fin f hf)]at this
  exact(_,rfl,bg (aH k3 rfl this),λ_=>rfl))
 have ok:=jO.sub (es:=(fs.filter λf=>!mJ ts lot f).map id) (λd hd=>u.uX hd) (by simp;exact λe a _=>fin e a);have:=oQ ok h;rw[lB,<- be]at this;exact fx rfl (aK (bS k1) (cO (aH k2 rfl this)))
theorem xO(u:Wu ns ts)(l4:ns.length<=4)(h:Hm):∃ds,cS [.dat (.tuple ns)] h=.ok (.dat (.list ds)) h/\(∀d∈ds,qu ns d)/\(∀ys,ys.Sublist ns->.tuple ys∈ds)/\ds.length<=16:=by
 have loop:∀(xs pre fs:Y9) (y2:Option D),ns=pre++xs->(∀d∈fs,qu pre d)->fs.length<=2^pre.length->(∀ys,ys.Sublist pre->.tuple ys∈fs) ->
   ∃ZZ z2,cn (af 2) (bC 1 (ah cJ (aa 1) (aZ 1 (ay (aa 1)) (af 0) cq (ah cJ (aa 0) (cW (ab (aa 3) ai)))))) (xs.map D.dat) [some (.dat (.tuple ns)),some (.dat (.list fs)),y2] h=.ok (.nx [some (.dat (.tuple ns)),some (.dat (.list ZZ)),z2]) h /\
    (∀d∈ZZ,qu ns d)/\(∀ys,ys.Sublist ns->.tuple ys∈ZZ)/\ZZ.length<=2^ns.length:=by
  intro xs
  induction xs with
  |nil=>intro pre fs y2 e hf hl hA;rw[WS]at e;subst e;exact(fs,y2,rfl,hf,hA,hl)
  |cons x xs ih=>
   intro pre fs y2 e hf hl hA;have hp:pre.length<=3:=by have:=Xz List.length e;simp at this;omega
   have l2:(2:Nat)^pre.length<=8:=U8 (Wt (by decide) hp) (by decide)
   have key:=dJ (n:=1) (it:=ay (aa 1)) (g:=af 0) (e:=ah cJ (aa 0) (cW (ab (aa 3) ai))) (ρ:=[some (.dat (.tuple ns)),some (.dat (.list fs)),some (.dat x)]) (h:=h) (h1:=h) (ds:=fs) (by simp) #[1] (λd=>.tuple (aB d++[x])) (λd m=>by
    obtain⟨ys,rfl,sy⟩:=hf d m;have:=sy.length_le;refine(_,rfl,aH rfl (y:=.dat (.tuple [x])) ?_ (CG h (by simp;omega)))
    exact(jR (xs:=[.dat x]) rfl).trans (oO [x] h (by simp)))
   obtain⟨fs2,z2,e2,r⟩:=ih (pre++[x]) (fs++fs.map λd=>.tuple (aB d++[x])) (some (.dat x)) (by rw[e];simp) (λd m=>by
    rcases Vd.mp m with m|m
    ·obtain⟨ys,rfl,sy⟩:=hf d m;exact(ys,rfl,sy.trans (List.sublist_append_left ..))
    ·obtain⟨q,hq,rfl⟩:=Vl.mp m;obtain⟨ys,rfl,sy⟩:=hf q hq
     exact(ys++[x],rfl,List.Sublist.append sy (Yq _))) (by
    rw[Vh,Ve,Vh];show _<=2^(pre.length+1);rw[Nat.pow_succ]
    omega) (λys sy=>by
    obtain⟨us,vs,rfl,su,sv⟩:=List.sublist_append_iff.mp sy
    cases sv with
    |cons _ s0=>cases s0;rw[WS];exact Vr _ (hA us su)
    |cons_cons _ s0=>cases s0;exact U3 _ (Vl.mpr (.tuple us,hA us su,rfl)))
   refine(fs2,z2,?_,r);have st:bC 1 (ah cJ (aa 1) (aZ 1 (ay (aa 1)) (af 0) cq (ah cJ (aa 0) (cW (ab (aa 3) ai))))) [some (.dat (.tuple ns)),some (.dat (.list fs)),some (.dat x)] h=.ok (.nx [some (.dat (.tuple ns)),some (.dat (.list (fs++fs.map λd=>.tuple (aB d++[x])))),some (.dat x)]) h:=bS (aH rfl key (ly h (by rw[Ve];omega)));simp only[Vu,cn,af,R.dC,R.aW,VX,VY];rw[st];exact e2
 obtain⟨fs,z2,e,hf,hA,hl⟩:=loop ns [] [.tuple []] none rfl (λd m=>by rw[Vm.mp m];exact([],rfl,Yq _)) (by simp) (λys sy=>by rw[List.sublist_nil.mp sy];simp);refine(fs,?_,hf,hA,U8 hl (U8 (Wt (by decide) l4) (by decide)));exact fx rfl (aK (bS rfl) (aK (cH (oU rfl) e) (cO rfl)))
def QJ(ss row:Y9):Y9:=ss.filter (λd=>!decide (d∈row))++row.filter (λd=>!decide (d∈ss))
theorem C0(w:Wb 25 ns ss)(sr:row.Sublist (eT ns))(hl:row.length<=4)(h:Hm):fb [.dat (WD ns ss),.dat (.tuple row)] h=.ok (.dat (WD ns (QJ ss row))) h/\Wu ns (QJ ss row)/\∀z,z∈QJ ss row<->z∈tu ss row:=by
 have us:Wu ns ss:=(w.nr,λd m=>w.get m,by have:=w.le;omega)
 have ur:Wu ns row:=(w.nr,λd m=>by
  obtain⟨a,b,e,ha,hb,_⟩:=fv.mp (sr.subset m)
  grind,by omega)
 have l1:=w.le
 have k1:=bQ (n:=1) (it:=ay (ah dw (aa 0) (ak (.int 1)))) (g:=af 0) (t:=aJ (ah gr (aa 0) (aa 2))) (e:=aa 0) (ρ:=[some (.dat (WD ns ss)),some (.dat (.tuple row))]) (h:=h) (h1:=h) (ds:=ss) (by simp) #[1] (λd=>!decide (d∈row)) id (λd hd=>by
  obtain⟨a,b,rfl,ha,hb⟩:=w.get hd
  exact(_,rfl,bg (aH rfl rfl (EF ur ha hb h).2),λ_=>rfl))
 have k2:=bQ (n:=1) (it:=ay (aa 1)) (g:=af 0) (t:=aJ (ah gr (aa 0) (ah dw (aa 1) (ak (.int 1))))) (e:=aa 0) (ρ:=[some (.dat (WD ns ss)),some (.dat (.tuple row))]) (h:=h) (h1:=h) (ds:=row) (by simp) #[1] (λd=>!decide (d∈ss)) id (λd hd=>by
  obtain⟨a,b,rfl,ha,hb⟩:=ur.pr d hd
  exact(_,rfl,bg (aH rfl (aH (x:=.dat (WD ns ss)) rfl (y:=.int 1) rfl rfl) (EF us ha hb h).2),λ_=>rfl))
 rw[YZ]at k1 k2;have b1:=Vn (λd=>!decide (d∈row)) ss;have b2:=Vn (λd=>!decide (d∈ss)) row;refine(fx rfl (cO (iy (a:=.tuple ns) (aH (x:=.dat (WD ns ss)) rfl (y:=.int 0) rfl rfl) (aM (bK (aH k1 k2 (ly h #[1])) rfl) rfl))),(w.nr,λd m=>?_,?_),λz=>?_)
 ·rcases Vd.mp m with m|m
  ·exact us.pr d (U7.mp m).1
  ·exact ur.pr d (U7.mp m).1
 ·unfold QJ;rw[Vh];omega
 ·rw[Kr w ur.pp];unfold QJ;simp[Vd,U7]
  grind
end
theorem AY{xs ys:List α}(f:α->Bool)(h:∀z,z∈xs<->z∈ys):xs.any f=ys.any f:=by
 rw[VO,VL,VL]
 simp_all
section
theorem zp(hm:∀z,z∈ts<->z∈ss):mJ ts lot x=mJ ss lot x:=AY _ hm
theorem qp(hm:∀z,z∈ts<->z∈ss):dM ts lot x=dM ss lot x:=by
 unfold dM;rw[AY _ hm];congr 1
 funext p
 rw[zp hm]
theorem xP(hm:∀z,z∈ts<->z∈ss):uG ts lot=uG ss lot:=by unfold uG;rw[AY _ hm]
def dk(ts lot:Y9):Y9:=(ts.filter λp=>iY lot (dy p)).map gO
theorem C1(u:Wu ns ts)(hx:x∈ns):x∈dk ts lot<->mJ ts lot x=true:=by
 unfold dk mJ;rw[Vl,VL];constructor
 ·rintro⟨p,hp,rfl⟩;obtain⟨m,e⟩:=U7.mp hp;obtain⟨a,b,rfl,ha,hb⟩:=u.pr p m;exact(_,m,by simp[e,gO,(mL (u.nr.sub b hb) (u.nr.sub b hb)).mpr rfl])
 ·rintro⟨p,m,e⟩;rw[U1]at e;obtain⟨a,b,rfl,ha,hb⟩:=u.pr p m;exact(_,U7.mpr (m,e.1),(mL (u.nr.sub b hb) (u.nr.sub x hx)).mp e.2)
theorem xQ(u:Wu ns ts):∀x∈dk ts lot,x∈ns:=λx m=>by obtain⟨p,hp,rfl⟩:=Vl.mp m;obtain⟨a,b,rfl,ha,hb⟩:=u.pr p (U7.mp hp).1;exact hb
theorem Ku(u:Wu ns ts):(dk ts lot).length<=30:=by unfold dk;rw[Ve];exact U8 (Vn ..) u.le
theorem Hq(u:Wu ns ts)(s:lot.Sublist ns)(hp:uG ts lot=true):decide ((cC (dk ts lot)).length+lot.length=ns.length)=ns.all λx=>iY lot x || mJ ts lot x:=by
 have sd:=mN u s;have st:∀d∈dk ts lot,aD d=true:=λd m=>zo.st d (u.nr.sub d (xQ u d m));have nd1:=f7 st;have ndn:=fI zo u.nr.toRw;have ZU:=ndn.sublist s;have dis:∀x∈cC (dk ts lot),x∉lot:=λx m q=>by have hx:=s.subset q;have h1:=(C1 u hx).mp ((dE st x).mp m);unfold mJ at h1;obtain⟨p,mp,e⟩:=VL.mp h1;rw[U1]at e;obtain⟨a,b,rfl,ha,hb⟩:=u.pr p mp;have e2:b=x:=(mL (u.nr.sub b hb) (u.nr.sub x hx)).mp e.2;subst e2;unfold uG at hp;rw[WQ,Yg]at hp;exact hp _ mp (by simp[e.1,gO,(cN sd).mpr q])
 have nd:(cC (dk ts lot)++lot).Nodup:=WA.mpr (nd1,ZU,λa ha b hb e=>dis a ha (e▸hb));have sub:∀x∈cC (dk ts lot)++lot,x∈ns:=λx m=>(Vd.mp m).elim (λq=>xQ u x ((dE st x).mp q)) λq=>s.subset q;have cov:∀x∈ns,x∈cC (dk ts lot)++lot<->(iY lot x || mJ ts lot x)=true:=λx hx=>by rw[Vd,dE st,C1 u hx,Wc,cN sd,or_comm]
 rw[<- Vh,VO,X9,Vg];constructor
 ·intro e x hx;rw[<- cov x hx];refine VJ λz=>?_
  have:=fq (xs:=x::(cC (dk ts lot)++lot)) (ys:=ns) (VP.mpr (z,nd)) λy m=>by
   rcases Vb.mp m with rfl|m
   ·exact hx
   ·exact sub y m
  rw[Vp]at this;omega
 ·intro H;have h1:=fq nd sub;have h2:=fq ndn λx hx=>(cov x hx).mpr (H x hx);omega
theorem C2(f:PyData->PyData):∀xs:Y9,uw xs (xs.map f)=(xs.map λx=>PyData.tuple [x,f x]).map D.dat
 | []=>rfl
 |x::xs=>by have:=C2 f xs;simp[uw,this]
abbrev Kw:MS:=lV (aJ (ah oEq (aZ 1 (ay (ah dw (aa 0) (ak (.int 0)))) (af 0) (lM (aJ (ah gr (aa 0) (aa 6))) (aX (ag b8 (ab (aa 1) (ab (aa 6) (ab (aa 0) ai)))))) (aa 0)) (ak (.list [])))) (gP (uy fK (aa 4) (aa 5))) cz
def Hu(ns ts lot:Y9):Bool:=!ns.any λx=>!iY lot x && !dM ts lot x
abbrev lρ(ns ts:Y9)(k:Str)(cs fs:Y9)(j:Nat)(a5 a6:Option D):Fm:=[some (.dat (WD ns ts)),some (.dat (.str k)),some (.dat (.list cs)),some (.dat (.list fs)),some (.ref j),a5,a6]
theorem AZ(u:Wu ns ts)(k:Str)(cs fs:Y9)(h:Hm):∀(xs gs:Y9) (a5:Option D),(∀d∈xs,qu ns d)->gs.length+xs.length<64 ->
  ∃z5,cn (af 5) Kw (xs.map D.dat) (lρ ns ts k cs fs h.length a5 none) (h++[.lst (gs.map D.dat)])=.ok (.nx (lρ ns ts k cs fs h.length z5 none)) (h++[.lst ((gs++xs.filter λd=>Hu ns ts (aB d)).map D.dat)])
 | [],gs,a5,_,_=>(a5,by simp[cn])
 |x::xs,gs,a5,H,hl=>by
  obtain⟨lot,rfl,s⟩:=H x (.head _);have sd:=mN u s;have gi:(h++[MO.lst (gs.map D.dat)])[h.length]?=some (.lst (gs.map D.dat)):=by simp
  have H2:=λd m=>H d (U2 _ m);simp only[Vp]at hl;have key:=bQ (n:=1) (it:=ay (ah dw (aa 0) (ak (.int 0)))) (g:=af 0) (t:=lM (aJ (ah gr (aa 0) (aa 6))) (aX (ag b8 (ab (aa 1) (ab (aa 6) (ab (aa 0) ai)))))) (e:=aa 0) (ρ:=lρ ns ts k cs fs h.length (some (.dat (.tuple lot))) none) (h:=h++[.lst (gs.map D.dat)]) (h1:=h++[.lst (gs.map D.dat)]) (ds:=ns) (by simp) (by have:=u.nr.le;omega) (λx=>!iY lot x && !dM ts lot x) id (λx hx=>(_,rfl,rS (bg (aH rfl rfl (uW (u.uX hx) sd _))) (fJ (aM (xs:=[.dat (WD ns ts),.dat (.tuple lot),.dat x]) rfl (xN u s hx _))),λ_=>rfl));have ok:=jO.sub (es:=(ns.filter λx=>!iY lot x && !dM ts lot x).map id) (λd hd=>u.uX hd) (by simp;exact λe a _ _=>a);have t:=oQ ok (h++[.lst (gs.map D.dat)]);rw[lB]at t;have t2:=bg (aH key (b:=ak (.list [])) rfl t);have e1:(!ns.any λx=>!iY lot x && !dM ts lot x)=Hu ns ts lot:=rfl;rw[e1]at t2
  cases q:Hu ns ts lot with
  |false=>rw[q]at t2;obtain⟨z5,e⟩:=AZ u k cs fs h xs gs (some (.dat (.tuple lot))) H2 #[1];refine(z5,?_);have st:Kw (lρ ns ts k cs fs h.length (some (.dat (.tuple lot))) none) (h++[.lst (gs.map D.dat)])=.ok (.nx (lρ ns ts k cs fs h.length (some (.dat (.tuple lot))) none)) (h++[.lst (gs.map D.dat)]):=xI t2 rfl;simp only[Vu,cn,af,R.dC,R.aW,VX,VY];rw[st,Xu,if_neg (show ¬ Hu ns ts (aB (.tuple lot))=true from by show ¬ Hu ns ts lot=true;rw[q];simp)];exact e
  |true=>
   rw[q]at t2;obtain⟨z5,e⟩:=AZ u k cs fs h xs (gs++[.tuple lot]) (some (.dat (.tuple lot))) H2 (by simp;omega);refine(z5,?_);have ap:gP (uy fK (aa 4) (aa 5)) (lρ ns ts k cs fs h.length (some (.dat (.tuple lot))) none) (h++[.lst (gs.map D.dat)])=.ok (.nx (lρ ns ts k cs fs h.length (some (.dat (.tuple lot))) none)) (h++[.lst ((gs++[PyData.tuple lot]).map D.dat)]):=by unfold gP uy;simp only[aa,Xs,Xt,R.aW,QA,gi,VR];simp[fK,gi,show gs.length<16777216 by omega]
   have st:Kw (lρ ns ts k cs fs h.length (some (.dat (.tuple lot))) none) (h++[.lst (gs.map D.dat)])=.ok (.nx (lρ ns ts k cs fs h.length (some (.dat (.tuple lot))) none)) (h++[.lst ((gs++[PyData.tuple lot]).map D.dat)]):=CK t2 ap;simp only[Vu,cn,af,R.dC,R.aW,VX,VY];rw[st,Xu,if_pos (show Hu ns ts (aB (.tuple lot))=true from q)];simp only[R.dC,R.aW];rw[e,Yj];rfl
theorem Sa(w:Wb 25 ns ss)(s:lot.Sublist ns)(hm:∀z,z∈ts<->z∈ss):(lot.all λx=>!dM ts lot x)=K3.st.jd ns ss lot:=by have sdd:eJ (Ez ns ss lot) iX=true:=dS w oV;unfold K3.jd;rw[VO,Vg,Vg];refine forall_congr' λx=>forall_congr' λhx=>?_;rw[cN sdd,qp hm];unfold Ez;rw[U7];exact(λq=>(s.subset hx,q),λq=>q.2)
theorem Sb(w:Wb 25 ns ss)(s:lot.Sublist ns)(hm:∀z,z∈ts<->z∈ss):((lot.all λx=>!dM ts lot x)&&Hu ns ts lot)=K3.wh.jd ns ss lot:=by
 have sd:=dS w s;unfold K3.jd;rw[VO,gu (rY w (lot,rfl,s)).1 (rY w (_,rfl,oV)).1,U1,Vg];unfold Hu;rw[WQ,Yg];constructor
 ·rintro⟨h1,h2⟩;refine Xz _ (Eq.symm (Kq w s λx hx=>?_));unfold Ez;rw[U7,<- qp hm];constructor
  ·rintro⟨_,q⟩;refine(cN sd).mp (VJ λz=>h2 x hx ?_);rw[Bool.not_eq_true]at z;simp[z,q]
  ·exact λq=>(hx,h1 x q)
 ·intro e;have e:=PyData.tuple.inj e
  have k:∀x,x∈lot<->x∈ns/\(!dM ts lot x)=true:=λx=>by
   rw[qp hm];have:x∈lot<->x∈Ez ns ss lot:=by rw[<- e]
   rw[this];unfold Ez;rw[U7]
  refine(λx hx=>((k x).mp hx).2,λx hx q=>?_);rw[U1]at q;have:=(cN sd).mpr ((k x).mpr (hx,q.2));rw[this]at q;exact absurd q.1 (by simp)
theorem EG(k:K3)(w:Wb 25 ns ss)(u:Wu ns ts)(l4:ns.length<=4)(hm:∀z,z∈ts<->z∈ss)(wf:Wf h):∃ds,dF [.dat (WD ns ts),.dat (.str k.nm)] h=.ok (.dat (.list ds)) h/\(∀d∈ds,qu ns d)/\ds.length<64/\∀ys,ys.Sublist ns->(.tuple ys∈ds<->(uG ss ys&&k.jd ns ss ys)=true):=by
 obtain⟨S,eS,hS,aS,lS⟩:=xO u l4 h
 have k1:=bQ (n:=1) (it:=ay (ag cS (ab (ah dw (aa 0) (ak (.int 0))) ai))) (g:=af 0) (t:=aX (ag eZ (ab (aa 1) (ab (aa 0) ai)))) (e:=aa 0) (ρ:=[some (.dat (WD ns ts)),some (.dat (.str k.nm)),none,none,none,none,none]) (h:=h) (h1:=h) (ds:=S) (fQ (aM (xs:=[.dat (.tuple ns)]) rfl eS)) #[1] (λd=>uG ts (aB d)) id (λd m=>by
  obtain⟨lot,rfl,s⟩:=hS d m
  exact(_,rfl,fJ (aM (xs:=[.dat (WD ns ts),.dat (.tuple lot)]) rfl (M4 u s h)),λ_=>rfl))
 rw[YZ]at k1;have hC:∀d∈S.filter (λd=>uG ts (aB d)),qu ns d/\uG ts (aB d)=true:=λd m=>(hS d (U7.mp m).1,(U7.mp m).2);have aC:∀ys,ys.Sublist ns->(.tuple ys∈S.filter (λd=>uG ts (aB d))<->uG ss ys=true):=λys sy=>by rw[U7,<- xP hm];exact(λq=>q.2,λq=>(aS ys sy,q))
 have lC:(S.filter (λd=>uG ts (aB d))).length<=16:=U8 (Vn ..) lS;generalize S.filter (λd=>uG ts (aB d))=C at *
 have k2:=bQ (n:=1) (it:=ay (aa 2)) (g:=af 0) (t:=aJ (ah oEq (aZ 1 (ay (aa 0)) (af 0) (gm (aX (ag b8 (ab (aa 2) (ab (aa 1) (ab (aa 0) ai)))))) (aa 0)) (ak (.list [])))) (e:=aa 0) (ρ:=[some (.dat (WD ns ts)),some (.dat (.str k.nm)),some (.dat (.list C)),none,none,none,none]) (h:=h) (h1:=h) (ds:=C) (fQ rfl) #[1] (λd=>(aB d).all λx=>!dM ts (aB d) x) id (λd m=>by
  obtain⟨⟨lot,rfl,s⟩,_⟩:=hC d m;have k3:=bQ (n:=1) (it:=ay (aa 0)) (g:=af 0) (t:=gm (aX (ag b8 (ab (aa 2) (ab (aa 1) (ab (aa 0) ai)))))) (e:=aa 0) (ρ:=[some (.dat (.tuple lot)),some (.dat (WD ns ts)),some (.dat (.str k.nm)),some (.dat (.list C)),none,none,none,none]) (h:=h) (h1:=h) (ds:=lot) (oU rfl) (by have:=u.nr.le;have:=s.length_le;omega) (λx=>!!dM ts lot x) id (λx hx=>(_,rfl,F0 (fJ (aM (xs:=[.dat (WD ns ts),.dat (.tuple lot),.dat x]) rfl (xN u s (s.subset hx) h))),λ_=>rfl));have ok:=jO.sub (es:=(lot.filter λx=>!!dM ts lot x).map id) (λd hd=>u.uX (s.subset hd)) (by simp;exact λe a _=>a);have t:=oQ ok h;rw[all_filter lot (λx=>!dM ts lot x) id]at t
  exact(_,rfl,bg (aH k3 rfl t),λ_=>rfl))
 rw[YZ]at k2;have aF:∀ys,ys.Sublist ns->(.tuple ys∈C.filter (λd=>(aB d).all λx=>!dM ts (aB d) x)<->(uG ss ys&&K3.st.jd ns ss ys)=true):=λys sy=>by rw[U7,aC ys sy,U1,<- Sa w sy hm];rfl
 have hF:∀d∈C.filter (λd=>(aB d).all λx=>!dM ts (aB d) x),qu ns d:=λd m=>(hC d (U7.mp m).1).1;have lF:(C.filter (λd=>(aB d).all λx=>!dM ts (aB d) x)).length<=16:=U8 (Vn ..) lC;have wF:∀ys,ys.Sublist ns->(.tuple ys∈(C.filter (λd=>(aB d).all λx=>!dM ts (aB d) x)).filter (λd=>Hu ns ts (aB d))<->(uG ss ys&&K3.wh.jd ns ss ys)=true):=λys sy=>by rw[U7,U7,aC ys sy,<- Sb w sy hm,U1,U1,and_assoc];rfl
 generalize C.filter (λd=>(aB d).all λx=>!dM ts (aB d) x)=F at *;obtain⟨z5,k4⟩:=AZ u k.nm C F h F [] none hF (by simp;omega);have lU:(F.filter λd=>Hu ns ts (aB d)).length<=16:=U8 (Vn ..) lF;have hU:∀d∈F.filter (λd=>Hu ns ts (aB d)),qu ns d:=λd m=>hF d (U7.mp m).1;rw[WT]at k4;generalize F.filter (λd=>Hu ns ts (aB d))=U at *
 have pre:∀(rest:MS) (ds:Y9),rest (lρ ns ts k.nm C F h.length z5 none) (h++[.lst (U.map D.dat)])=.ok (.rt (.dat (.list ds))) (h++[.lst (U.map D.dat)])->aU (bC 2 (aZ 1 (ay (ag cS (ab (ah dw (aa 0) (ak (.int 0))) ai))) (af 0) (aX (ag eZ (ab (aa 1) (ab (aa 0) ai)))) (aa 0)))
  (aU (bC 3 (aZ 1 (ay (aa 2)) (af 0) (aJ (ah oEq (aZ 1 (ay (aa 0)) (af 0) (gm (aX (ag b8 (ab (aa 2) (ab (aa 1) (ab (aa 0) ai)))))) (aa 0)) (ak (.list [])))) (aa 0)))
  (aU (bC 4 (vo ai))
  (aU (gp (ay (aa 3)) (af 5) Kw) rest))) [some (.dat (WD ns ts)),some (.dat (.str k.nm)),none,none,none,none,none] h=.ok (.rt (.dat (.list ds))) (h++[.lst (U.map D.dat)]):=λrest ds e=>
  by
  have s4:bC 4 (vo ai) [some (.dat (WD ns ts)),some (.dat (.str k.nm)),some (.dat (.list C)),some (.dat (.list F)),none,none,none] h=.ok (.nx (lρ ns ts k.nm C F h.length none none)) (h++[.lst (([]:Y9).map D.dat)]):=rfl;have s5:gp (ay (aa 3)) (af 5) Kw (lρ ns ts k.nm C F h.length none none) (h++[.lst (([]:Y9).map D.dat)])=.ok (.nx (lρ ns ts k.nm C F h.length z5 none)) (h++[.lst (U.map D.dat)]):=cH (fQ rfl) k4;exact aK (bS k1) (aK (bS k2) (aK s4 (aK s5 e)))
 have tell:∀ds,nE [.dat (WD ns ts),.dat (.str k.nm)] h=.ok (.dat (.list ds)) (h++[.lst (U.map D.dat)])->dF [.dat (WD ns ts),.dat (.str k.nm)] h=.ok (.dat (.list ds)) h:=λds e=>CN wf e;have gi:(h++[MO.lst (U.map D.dat)])[h.length]?=some (.lst (U.map D.dat)):=by simp
 have fin:∀{L:Y9},(∀d∈L,qu ns d)->L.length<=16->(∀ys,ys.Sublist ns->(.tuple ys∈L<->(uG ss ys&&k.jd ns ss ys)=true))->(∀d∈cQ ltB L,qu ns d)/\(cQ ltB L).length<64/\∀ys,ys.Sublist ns->(.tuple ys∈cQ ltB L<->(uG ss ys&&k.jd ns ss ys)=true):=λ{L} a1 a2 a3=>
  (λd m=>a1 d ((aY _ _).mem_iff.mp m),by rw[(aY _ _).length_eq];omega,λys sy=>by rw[(aY _ _).mem_iff];exact a3 ys sy)
 cases k with
 |st=>refine(_,tell _ (fx rfl (pre _ _ (xH (CK (h1:=h++[.lst (U.map D.dat)]) rfl (cO (aM (xs:=[.dat (.list F)]) (h1:=h++[.lst (U.map D.dat)]) (bK (h1:=h++[.lst (U.map D.dat)]) (qo (c:=true) (h1:=h++[.lst (U.map D.dat)]) rfl rfl) rfl) (CM w hF #[1] _).1)))))),fin hF lF aF)
 |wh=>
  refine(_,tell _ (fx rfl (pre _ _ (aK (xI (h1:=h++[.lst (U.map D.dat)]) rfl rfl) (xH (CK (h1:=h++[.lst (U.map D.dat)]) rfl (cO (aM (xs:=[.ref h.length]) (h1:=h++[.lst (U.map D.dat)]) rfl ?_))))))),fin hU lU wF)
  ·have so:=CL w hU #[1];simp only[dz,listOf,gi,oC,so,VR]
 |sb=>
  have k6:=dJ (n:=1) (it:=ay (aa 2)) (g:=af 0) (e:=aZ 2 (ay (ah dw (aa 1) (ak (.int 1)))) (iB (bA (af 0) (bA (af 1) gn))) (aJ (ah j3 (aa 0) (aa 2))) (aa 1)) (ρ:=lρ ns ts K3.sb.nm C F h.length z5 none) (h:=h++[.lst (U.map D.dat)]) (h1:=h++[.lst (U.map D.dat)]) (ds:=C) (fQ rfl) #[1] (λd=>.list (dk ts (aB d))) (λd m=>by
   obtain⟨⟨lot,rfl,s⟩,_⟩:=hC d m
   exact(_,rfl,bQ (n:=2) (ds:=ts) (by simp) (by have:=u.le;omega) (λp=>iY lot (dy p)) gO (λp hp=>by
    obtain⟨a,b,rfl,ha,hb⟩:=u.pr p hp
    exact(_,rfl,bg (aH rfl rfl (gN (u.uX ha) (mN u s) _)),λ_=>rfl))))
  have k7:=bQ (n:=2) (it:=D0 (ab (aa 2) (ab (aa 6) ai))) (g:=iB (bA (af 0) (bA (af 1) gn))) (t:=aJ (ah oEq (ah cJ (ag me (ab (aa 1) ai)) (ag iZ (ab (aa 0) ai))) (ag iZ (ab (ah dw (aa 2) (ak (.int 0))) ai)))) (e:=aa 0) (ρ:=lρ ns ts K3.sb.nm C F h.length z5 (some (.dat (.list (C.map λd=>.list (dk ts (aB d))))))) (h:=h++[.lst (U.map D.dat)]) (h1:=h++[.lst (U.map D.dat)]) (ds:=C.map λd=>.tuple [d,.list (dk ts (aB d))]) (by
   have z:=C2 (λd=>.list (dk ts (aB d))) C;rw[<- z]
   rfl) (by rw[Ve];omega) (λp=>decide ((cC (dk ts (aB (dy p)))).length+(aB (dy p)).length=ns.length)) dy (λp hp=>by
   obtain⟨d,m,rfl⟩:=Vl.mp hp;obtain⟨⟨lot,rfl,s⟩,_⟩:=hC d m;have so:setOk (dk ts lot)=true:=zo.set (λd q=>u.nr.sub d (xQ u d q)) (by have:=Ku (lot:=lot) u;omega);refine(_,rfl,bg (aH (h1:=h++[.lst (U.map D.dat)]) (h2:=h++[.lst (U.map D.dat)]) (x:=.int ((cC (dk ts lot)).length+lot.length)) (y:=.int ns.length) (aH (h1:=h++[.lst (U.map D.dat)]) (h2:=h++[.lst (U.map D.dat)]) (x:=.int (cC (dk ts lot)).length) (y:=.int lot.length) (aM (xs:=[.dat (.list (dk ts lot))]) (h1:=h++[.lst (U.map D.dat)]) rfl ?_) rfl rfl) rfl ?_),λ_=>rfl)
   ·simp only[me,f6,listOf,so,VR]
   ·rw[je];simp only[dy,aB];congr 2;rw[VO,YW]
    exact(λq=>Wl #[1],λq=>by have:=Wz q;omega))
  have aL:∀ys,ys.Sublist ns->(.tuple ys∈((C.map λd=>PyData.tuple [d,.list (dk ts (aB d))]).filter (λp=>decide ((cC (dk ts (aB (dy p)))).length+(aB (dy p)).length=ns.length))).map dy<->(uG ss ys&&K3.sb.jd ns ss ys)=true):=λys sy=>by
   have card:uG ts ys=true->(decide ((cC (dk ts ys)).length+ys.length=ns.length)=true<->K3.sb.jd ns ss ys=true):=λhp=>by rw[Hq u sy hp];unfold K3.jd;simp only[zp hm]
   rw[Vl,U1];constructor
   ·rintro⟨p,hp,e⟩;obtain⟨m1,m2⟩:=U7.mp hp;obtain⟨d,m,rfl⟩:=Vl.mp m1;simp only[dy]at e m2;subst e;have c:=(aC ys sy).mp m;exact(c,(card ((xP hm).trans c)).mp m2)
   ·rintro⟨c,j⟩;exact(_,U7.mpr (Vl.mpr (_,(aC ys sy).mpr c,rfl),(card ((xP hm).trans c)).mpr j),rfl)
  have hL:∀d∈((C.map λd=>PyData.tuple [d,.list (dk ts (aB d))]).filter (λp=>decide ((cC (dk ts (aB (dy p)))).length+(aB (dy p)).length=ns.length))).map dy,qu ns d:=λd m=>by obtain⟨p,hp,rfl⟩:=Vl.mp m;obtain⟨d,m,rfl⟩:=Vl.mp (U7.mp hp).1;rename_i m2;exact(hC d m2).1
  have lL:(((C.map λd=>PyData.tuple [d,.list (dk ts (aB d))]).filter (λp=>decide ((cC (dk ts (aB (dy p)))).length+(aB (dy p)).length=ns.length))).map dy).length<=16:=by rw[Ve];refine U8 (Vn ..) ?_;rw[Ve];exact lC
  refine(_,tell _ (fx rfl (pre _ _ (aK (xI (h1:=h++[.lst (U.map D.dat)]) rfl rfl) (aK (xI (h1:=h++[.lst (U.map D.dat)]) rfl rfl) (aK (xI (h1:=h++[.lst (U.map D.dat)]) rfl rfl) (aK (bS k6) (cO (aM (bK k7 rfl) (CM w hL #[1] _).1)))))))),fin hL lL aL)
end
theorem M6:mU (xs++[z]) (-1)=some z:=by
 unfold mU xS;rw[if_neg #[1],if_pos (by simp;omega)];have:((-1:Int)+((xs++[z]).length:Int)).toNat=xs.length:=by simp;omega
 simp only[Y1,this];simp
section
theorem M7(r:Rw tj xs)(h:Hm):oEq (.dat (.tuple xs)) (.dat (.tuple [])) h=.ok (.bool xs.isEmpty) h:=by
 have t:au (.tuple xs)=true:=de.C8 r.sub;rw[Ke t rfl (U8 (Nat.min_le_right _ _) (by decide))];congr 2
 grind
abbrev Qn:MS:=bC 4 (ah cJ (aa 4) (aZ 1 (ay (aa 0)) (af 0) (sj (aJ (ah oEq (aa 6) (ak (.tuple [])))) (aJ (ah oLt (ah dw (aa 6) (ak (.int (-1)))) (aa 0)))) (ah cJ (aa 6) (cW (ab (aa 0) ai)))))
abbrev C3(ps:Y9)(N:Nat)(j:Nat)(a3 a4 a5 a6 a7:Option D):Fm:=[some (.dat (.list ps)),some (.int N),some (.ref j),a3,a4,a5,a6,a7]
theorem Ga(r:Rw tj ps)(lp:ps.length<=16)(m:Nat)(N j:Nat)(a3:Option D)(h:Hm):∀(qs acc:Y9) (a5:Option D),(∀q∈qs,q∈pk ps m)->acc.length+qs.length*16<=100000 ->
  ∃z5,cn (af 5) Qn (qs.map D.dat) (C3 ps N j a3 (some (.dat (.list acc))) a5 none none) h=.ok (.nx (C3 ps N j a3 (some (.dat (.list (acc++qs.flatMap λp=>(ps.filter (AS p)).map λs=>.tuple (aB p++[s]))))) z5 none none)) h
 | [],acc,a5,_,_=>(a5,by simp[cn])
 |q::qs,acc,a5,H,hl=>by
  obtain⟨xs,rfl,rx,sx,lx⟩:=F6 r m q (H q (.head _));simp only[Vp]at hl;have lf:=Vn (AS (.tuple xs)) ps;have lxs:xs.length<=16:=U8 (fq (fI de rx) sx) lp
  have key:=bQ (n:=1) (it:=ay (aa 0)) (g:=af 0) (t:=sj (aJ (ah oEq (aa 6) (ak (.tuple [])))) (aJ (ah oLt (ah dw (aa 6) (ak (.int (-1)))) (aa 0)))) (e:=ah cJ (aa 6) (cW (ab (aa 0) ai))) (ρ:=C3 ps N j a3 (some (.dat (.list acc))) (some (.dat (.tuple xs))) none none) (h:=h) (h1:=h) (ds:=ps) (fQ rfl) #[1] (AS (.tuple xs)) (λs=>.tuple (xs++[s])) (λs hs=>by
   refine(_,rfl,?_,λ_=>aH rfl (y:=.dat (.tuple [s])) ((jR (xs:=[.dat s]) rfl).trans (oO [s] h (by simp))) (CG h (by simp;omega)));have c1:=bg (aH (f:=oEq) (a:=aa 6) (b:=ak (.tuple [])) (ρ:=some (.dat s)::C3 ps N j a3 (some (.dat (.list acc))) (some (.dat (.tuple xs))) none none) (h:=h) rfl rfl (M7 rx h));by_cases ne:xs=[]
   ·subst ne;exact Ey c1
   ·have e1:xs.isEmpty=false:=by cases xs<;>simp_all
    rw[e1]at c1;have S_:xs.getLastD .none∈xs:=by rw[W8,Xm ne];exact YC ne
    have c2:=bg (aH (f:=oLt) (a:=ah dw (aa 6) (ak (.int (-1)))) (b:=aa 0) (ρ:=some (.dat s)::C3 ps N j a3 (some (.dat (.list acc))) (some (.dat (.tuple xs))) none none) (h:=h) (aH (x:=.dat (.tuple xs)) rfl (y:=.int (-1)) rfl (by simp[dw,iE,zP,va ne])) rfl (F5 (rx.sub _ S_) (r.sub s hs) h));have:=AN c1 c2
    simpa [AS,aB,e1]using this)
  obtain⟨z5,e⟩:=Ga r lp m N j a3 h qs (acc++(ps.filter (AS (.tuple xs))).map λs=>.tuple (xs++[s])) (some (.dat (.tuple xs))) (λp m=>H p (U2 _ m)) (by rw[Vh,Ve];omega);refine(z5,?_);have st:Qn (C3 ps N j a3 (some (.dat (.list acc))) (some (.dat (.tuple xs))) none none) h=.ok (.nx (C3 ps N j a3 (some (.dat (.list (acc++(ps.filter (AS (.tuple xs))).map λs=>.tuple (xs++[s]))))) (some (.dat (.tuple xs))) none none)) h:=bS (aH rfl key (ly h (by rw[Ve];omega)));simp only[Vu,cn,af,R.dC,R.aW,VX,VY];rw[st];simp only[R.dC,R.aW];rw[e,WB,Yj];rfl
def BM(ps:Y9)(j:Nat):List D:=(List.range (j+1)).map λm=>.dat (.list (pk ps m))
theorem Qo(ps:Y9)(j:Nat):∃ys,BM ps j=ys++[.dat (.list (pk ps j))]:=((List.range j).map λm=>.dat (.list (pk ps m)),by simp[BM,Xj])
theorem C4(ps:Y9)(N j:Nat)(a3 a4 a5:Option D)(h:Hm)(all:List D)(hj:h[j]?=some (.lst all)):∀(ms:List Nat) (acc:Y9) (a7:Option D),acc.length+(ms.flatMap (pk ps)).length<=16777216 ->
  ∃z7,g9 (af 7) (bC 6 (ah cJ (aa 6) (aa 7))) j all (ms.map λm=>D.dat (.list (pk ps m))) (C3 ps N j a3 a4 a5 (some (.dat (.list acc))) a7) h=.ok (.nx (C3 ps N j a3 a4 a5 (some (.dat (.list (acc++ms.flatMap (pk ps))))) z7)) h
 | [],acc,a7,_=>(a7,by simp[g9,hj])
 |m::ms,acc,a7,hl=>by
  rw[WB,Vh]at hl;obtain⟨z7,e⟩:=C4 ps N j a3 a4 a5 h all hj ms (acc++pk ps m) (some (.dat (.list (pk ps m)))) (by grind);refine(z7,?_);have st:bC 6 (ah cJ (aa 6) (aa 7)) (C3 ps N j a3 a4 a5 (some _) (some (.dat (.list (pk ps m))))) h=.ok (.nx (C3 ps N j a3 a4 a5 (some (.dat (.list (acc++pk ps m)))) (some (.dat (.list (pk ps m)))))) h:=bS (aH rfl rfl (ly h #[1]))
  simp_all[g9]
theorem C5{f:Nat->Y9}:∀{ms:List Nat} {k:Nat},(∀m∈ms,(f m).length<=k)->(ms.flatMap f).length<=ms.length*k
 | [],k,_=>by simp
 |m::ms,k,H=>by
  have:=C5 λq r=>H q (U2 _ r)
  grind[List.flatMap_cons,List.length_append,List.length_cons,Nat.add_mul]
theorem M8(r:Rw tj ps)(lp:ps.length<=16)(N:Nat)(hN:N<=2)(wf:Wf h):kj [.dat (.list ps),.int N] h=.ok (.dat (.list ((List.range (N+1)).flatMap (pk ps)))) h:=by
 obtain⟨s_,h',eL,rfl,a3,a4,a5,rfl⟩:=ia (g:=af 3) (b:=aU (bC 4 (ak (.list []))) (aU (gp (ay (ah dw (aa 2) (ak (.int (-1))))) (af 5) Qn) (gP (uy fK (aa 2) (aa 4)))))
  (λj ρ hh=>hh=h++[.lst (BM ps j)]/\∃a3 a4 a5,ρ=C3 ps N h.length a3 a4 a5 none none) (nums 0 N) 0 (C3 ps N h.length none none none none none) (h++[.lst (BM ps 0)]) (by
   rintro j x hx ρ hh ⟨rfl,a3,a4,a5,rfl⟩;have hj:j<N:=by simpa [nums]using(U9.mp hx).1
   rw[Nat.zero_add];have gi:(h++[MO.lst (BM ps j)])[h.length]?=some (.lst (BM ps j)):=by simp
   obtain⟨ys,ey⟩:=Qo ps j;have l1:(pk ps j).length<=16:=U8 (AU lp j) (U8 (Wt (by decide) (by omega:j<=1)) (by decide));obtain⟨z5,e⟩:=Ga r lp j N h.length (some x) (h++[.lst (BM ps j)]) (pk ps j) [] a5 (λq m=>m) (by simp;omega)
   have ix:ay (ah dw (aa 2) (ak (.int (-1)))) (C3 ps N h.length (some x) (some (.dat (.list []))) a5 none none) (h++[.lst (BM ps j)])=.ok ((pk ps j).map D.dat) (h++[.lst (BM ps j)]):=fQ (aH rfl rfl (by
    have gi2:=gi;rw[ey]at gi2 ⊢
    simp only[dw,iE,gi2,zP,M6]))
   refine(_,_,_,_,rfl,.inl (aK (bS (x:=.dat (.list [])) rfl) (aK (cH ix e) ?_)),rfl,some x,some (.dat (.list ([]++(pk ps j).flatMap λp=>(ps.filter (AS p)).map λs=>.tuple (aB p++[s])))),z5,rfl);have e1:BM ps (j+1)=BM ps j++[.dat (.list (pk ps (j+1)))]:=by simp[BM,Xj (n:=j+1)]
   unfold gP uy;simp only[aa,Xs,Xt,R.aW,QA,gi,VR,e1];have lb:(BM ps j).length<16777216:=by simp[BM];omega
   simp[fK,gi,lb,pk]) (rfl,none,none,none,rfl)
 simp only[nums,Ve,Yk,Nat.zero_add]at eL;have gi:(h++[MO.lst (BM ps N)])[h.length]?=some (.lst (BM ps N)):=by simp
 have tot:((List.range (N+1)).flatMap (pk ps)).length<=16777216:=by have:=C5 (f:=pk ps) (ms:=List.range (N+1)) (k:=256) λm hm=>U8 (AU lp m) (U8 (Wt (by decide) (by have:=VI.mp hm;omega:m<=2)) (by decide));rw[Yk]at this;omega
 obtain⟨z7,eS⟩:=C4 ps N h.length a3 a4 a5 (h++[.lst (BM ps N)]) (BM ps N) gi (List.range (N+1)) [] none (by simpa using tot);rw[WT]at eS;refine CN (t:=[.lst (BM ps N)]) wf ?_;have s1:bC 2 (vo (ab (ak (.list [.tuple []])) ai)) [some (.dat (.list ps)),some (.int N),none,none,none,none,none,none] h=.ok (.nx (C3 ps N h.length none none none none none)) (h++[.lst (BM ps 0)]):=rfl;have s3:FE (aa 2) (af 7) (bC 6 (ah cJ (aa 6) (aa 7))) (C3 ps N h.length a3 a4 a5 (some (.dat (.list []))) none) (h++[.lst (BM ps N)])=.ok (.nx (C3 ps N h.length a3 a4 a5 (some (.dat (.list ((List.range (N+1)).flatMap (pk ps))))) z7)) (h++[.lst (BM ps N)]):=by unfold FE;simp only[aa,Xs,Xt,R.dC,R.aW,gi];exact eS
 exact fx rfl (aK s1 (aK (cH (ou (n:=N) rfl #[1]) eL) (aK (bS (x:=.dat (.list [])) rfl) (aK s3 (cO rfl)))))
end
section
variable {lot:Y9}
abbrev dρ(ns ss lot:Y9)(k:K3)(b:Bool)(N:Nat)(a5 a6 a7 a8:Option D):Fm:=[some (.dat (WD ns ss)),some (.dat (.tuple lot)),some (.dat (.str k.nm)),some (.bool b),some (.int N),a5,a6,a7,a8]
theorem Kx(w:Wb 25 ns ss)(l4:ns.length<=4)(k:K3)(b:Bool)(N:Nat)(a7 a8:Option D)(h:Hm):∀(xs acc:Y9) (a6:Option D),(∀x∈xs,x∈ns)->acc.length+xs.length*4<=1000 ->
  ∃z6,cn (af 6) (bC 5 (ah cJ (aa 5) (aZ 1 (ay (ah dw (aa 0) (ak (.int 0)))) (af 0) cq (cW (ab (aa 7) (ab (aa 0) ai)))))) (xs.map D.dat) (dρ ns ss lot k b N (some (.dat (.list acc))) a6 a7 a8) h =
   .ok (.nx (dρ ns ss lot k b N (some (.dat (.list (acc++xs.flatMap λa=>(ns.filter λ_=>true).map λc=>.tuple [a,c])))) z6 a7 a8)) h
 | [],acc,a6,_,_=>(a6,by simp[cn])
 |x::xs,acc,a6,H,hl=>by
  simp only[Vp]at hl;have lf:=Vn (λ_:PyData=>true) ns;have key:=bQ (n:=1) (it:=ay (ah dw (aa 0) (ak (.int 0)))) (g:=af 0) (t:=cq) (e:=cW (ab (aa 7) (ab (aa 0) ai))) (ρ:=dρ ns ss lot k b N (some (.dat (.list acc))) (some (.dat x)) a7 a8) (h:=h) (h1:=h) (ds:=ns) (oU rfl) #[1] (λ_=>true) (λc=>.tuple [x,c]) (λc hc=>(_,rfl,rfl,λ_=>iy rfl rfl));obtain⟨z6,e⟩:=Kx w l4 k b N a7 a8 h xs (acc++(ns.filter λ_=>true).map λc=>.tuple [x,c]) (some (.dat x)) (λy m=>H y (U2 _ m)) (by grind);refine(z6,?_);have st:bC 5 (ah cJ (aa 5) (aZ 1 (ay (ah dw (aa 0) (ak (.int 0)))) (af 0) cq (cW (ab (aa 7) (ab (aa 0) ai))))) (dρ ns ss lot k b N (some (.dat (.list acc))) (some (.dat x)) a7 a8) h=.ok (.nx (dρ ns ss lot k b N (some (.dat (.list (acc++(ns.filter λ_=>true).map λc=>.tuple [x,c])))) (some (.dat x)) a7 a8)) h:=bS (aH rfl key (ly h (by rw[Ve];omega)))
  simp_all[Vu,cn,af,R.dC,R.aW,VX,VY,st,e,WB]
abbrev NR:MT:=sj (aJ (ah j3 (aa 1) (aa 8))) (lM (gm (aX (aa 3))) (aJ (ah zN (aZ 1 (ay (aa 8)) (af 0) (aX (ag eA (ab (aa 2) (ab (aa 0) ai)))) (ak (.int 1))) (ak (.list [])))))
theorem M9(k:K3)(w:Wb 25 ns ss)(s:lot.Sublist ns)(G:CT b ns lot gs)(hd:∀d∈ds,qu ns d)(hl:ds.length<64)(hm:∀ys,ys.Sublist ns->(.tuple ys∈ds<->(uG ss2 ys&&k.jd ns ss2 ys)=true))(N:Nat)(a5 a6 a7:Option D)(h:Hm) :
  NR (dρ ns ss lot k b N a5 a6 a7 (some (.dat (.list ds)))) h=.ok (Dc k ns ss2 gs) h:=by
 have u:Wu ns ss:=(w.nr,λd m=>w.get m,by have:=w.le;omega);have t1:aJ (ah j3 (aa 1) (aa 8)) (dρ ns ss lot k b N a5 a6 a7 (some (.dat (.list ds)))) h=.ok (decide (.tuple lot∈ds)) h:=bg (aH rfl rfl (by simp[j3,findIn,iE,lY,F7 w s hd]))
 have key:=bQ (n:=1) (it:=ay (aa 8)) (g:=af 0) (t:=aX (ag eA (ab (aa 2) (ab (aa 0) ai)))) (e:=ak (.int 1)) (ρ:=dρ ns ss lot k b N a5 a6 a7 (some (.dat (.list ds)))) (h:=h) (h1:=h) (ds:=ds) (fQ rfl) #[1] (λg=>lot.all (iY (aB g))) (λ_=>.int 1) (λg m=>by
  obtain⟨xs,rfl,sx⟩:=hd g m
  exact(_,rfl,fJ (aM (xs:=[.dat (.tuple lot),.dat (.tuple xs)]) rfl (Ho u s sx h)),λ_=>rfl))
 have ne:=Kj (AG (ds.filter λg=>lot.all (iY (aB g)))) h;rw[lB,Bool.not_not]at ne;have t2:=rS (F0 (fJ (m:=aa 3) (ρ:=dρ ns ss lot k b N a5 a6 a7 (some (.dat (.list ds)))) (h:=h) (c:=b) rfl)) (bg (aH key (b:=ak (.list [])) rfl ne));have t:=JZ t1 t2;refine t.trans (Xz (λz=>R.ok z h) ?_);rw[VO,Wc,U1,WQ,X9,hm lot s]
 cases b with
 |true=>rw[G.st rfl];simp[Dc,aB]
 |false=>
  unfold Dc;rw[VL,VL];constructor
  ·rintro(q|⟨_,g,mg,q⟩)
   ·exact(_,G.all rfl lot s λx hx=>hx,q)
   ·obtain⟨xs,rfl,sx⟩:=hd g mg;exact(.tuple xs,G.all rfl xs sx λx hx=>(cN (dS w sx)).mp (Vg.mp q x hx),(hm xs sx).mp mg)
  ·rintro⟨g,mg,q⟩;obtain⟨⟨xs,rfl,sx⟩,hx⟩:=G.ok g mg;exact .inr (rfl,_,(hm xs sx).mpr q,Vg.mpr λx m=>(cN (dS w sx)).mpr (hx x m))
abbrev Qp:MS:=aU (bC 8 (ag dF (ab (ag fb (ab (aa 0) (ab (aa 7) ai))) (ab (aa 2) ai))))
  (lV NR (bU (aa 7)) cz)
theorem C6(k:K3)(w:Wb 25 ns ss)(l4:ns.length<=4)(s:lot.Sublist ns)(G:CT b ns lot gs)(N:Nat)(a5 a6:Option D)(wf:Wf h):∀(ps:List Y9) (a7 a8:Option D),(∀p∈ps,p.Sublist (eT ns)/\p.length<=2) ->
  ∃z7 z8,cn (af 7) Qp ((ps.map PyData.tuple).map D.dat) (dρ ns ss lot k b N a5 a6 a7 a8) h=match ps.findSome? (lz k ns ss gs)with
   |some c=>.ok (.rt (.dat (.tuple c))) h
   |none=>.ok (.nx (dρ ns ss lot k b N a5 a6 z7 z8)) h
 | [],a7,a8,_=>(a7,a8,rfl)
 |p::ps,a7,a8,H=>by
  obtain⟨sp,lp⟩:=H p (.head _);obtain⟨e1,u,mm⟩:=C0 w sp #[1] h
  have hc:Ch ns p:=((λd m=>(dA w.nr).sub d (sp.subset m),(dA w.nr).ris.sublist sp),λa c m=>by
   obtain⟨x,y,e,hx,hy,_⟩:=fv.mp (sp.subset m);simp at e;obtain⟨rfl,rfl⟩:=e
   exact(hx,hy),by omega)
  have w2:=(NQ w #[1] hc h).2;obtain⟨ds,e2,hd,hl,hm⟩:=EG k w2 u l4 mm wf;obtain⟨z7,z8,e⟩:=C6 k w l4 s G N a5 a6 wf ps (some (.dat (.tuple p))) (some (.dat (.list ds))) λq m=>H q (U2 _ m)
  have st:bC 8 (ag dF (ab (ag fb (ab (aa 0) (ab (aa 7) ai))) (ab (aa 2) ai))) (dρ ns ss lot k b N a5 a6 (some (.dat (.tuple p))) a8) h=.ok (.nx (dρ ns ss lot k b N a5 a6 (some (.dat (.tuple p))) (some (.dat (.list ds))))) h:=
   bS (aM (xs:=[.dat (WD ns (QJ ss p)),.dat (.str k.nm)]) (bK (aM (xs:=[.dat (WD ns ss),.dat (.tuple p)]) rfl e1) rfl) e2)
  have c:=M9 k (a5:=a5) (a6:=a6) (a7:=some (.dat (.tuple p))) w s G hd hl hm N h;refine(z7,z8,?_);simp only[Vu,cn,af,R.dC,R.aW,VX,VY]
  cases q:Dc k ns (tu ss p) gs with
  |true=>
   rw[q]at c;have f1:(p::ps).findSome? (lz k ns ss gs)=some p:=by simp[lz,q]
   have s2:Qp (dρ ns ss lot k b N a5 a6 (some (.dat (.tuple p))) a8) h=.ok (.rt (.dat (.tuple p))) h:=aK st (CK c (cO rfl));rw[s2,f1];rfl
  |false=>
   rw[q]at c;have f1:(p::ps).findSome? (lz k ns ss gs)=ps.findSome? (lz k ns ss gs):=by simp[lz,q]
   have s2:Qp (dρ ns ss lot k b N a5 a6 (some (.dat (.tuple p))) a8) h=.ok (.nx (dρ ns ss lot k b N a5 a6 (some (.dat (.tuple p))) (some (.dat (.list ds))))) h:=aK st (xI c rfl);rw[s2,f1];exact e
theorem Gb{α β:Type}(f:Nat->List α)(g:α->Option β):∀ms:List Nat,(ms.flatMap f).findSome? g=ms.findSome? λn=>(f n).findSome? g
 | []=>rfl
 |m::ms=>by rw[WB,V5,Gb f g ms,VN];cases(f m).findSome? g<;>rfl
theorem Qq(k:K3)(w:Wb 25 ns ss)(l4:ns.length<=4)(s:lot.Sublist ns)(G:CT b ns lot gs)(N:Nat)(hN:N<=2)(wf:Wf h):gC [.dat (WD ns ss),.dat (.tuple lot),.dat (.str k.nm),.bool b,.int N] h=.ok (.dat (MZ (yo k ns ss lot gs (N+1-(inner ss lot).length)))) h:=by
 have rp:Rw tj (eT ns):=dA w.nr;have lp:(eT ns).length<=16:=U8 CO (XS l4 l4);obtain⟨z6,e1⟩:=Kx (lot:=lot) w l4 k b N none none h ns [] none (λx m=>m) (by simp;omega);rw[WT]at e1;have e1':cn (af 6) (bC 5 (ah cJ (aa 5) (aZ 1 (ay (ah dw (aa 0) (ak (.int 0)))) (af 0) cq (cW (ab (aa 7) (ab (aa 0) ai)))))) (ns.map D.dat) (dρ ns ss lot k b N (some (.dat (.list []))) none none none) h=.ok (.nx (dρ ns ss lot k b N (some (.dat (.list (eT ns)))) z6 none none)) h:=e1;have rk:=M8 rp lp N hN wf;have er:(List.range (N+1)).flatMap (pk (eT ns))=((List.range (N+1)).flatMap (mM (eT ns))).map PyData.tuple:=by rw[Y2];exact Xz (λf=>(List.range (N+1)).flatMap f) (funext λm=>AX rp m)
 rw[er]at rk;obtain⟨z7,z8,e2⟩:=C6 k w l4 s G N (some (.dat (.list (eT ns)))) z6 wf ((List.range (N+1)).flatMap (mM (eT ns))) none none λp hp=>by obtain⟨m,hm,mp⟩:=YB.mp hp;obtain⟨a,c⟩:=ow p mp;exact(a,by have:=VI.mp hm;omega)
 rw[Gb,Kt w s l4 k (λg m=>G.ok g m) (N+1) #[1]]at e2;have i2:ay (ag kj (ab (aa 5) (ab (aa 4) ai))) (dρ ns ss lot k b N (some (.dat (.list (eT ns)))) z6 none none) h=.ok ((((List.range (N+1)).flatMap (mM (eT ns))).map PyData.tuple).map D.dat) h:=fQ (aM (xs:=[.dat (.list (eT ns)),.int N]) rfl rk)
 cases q:yo k ns ss lot gs (N+1-(inner ss lot).length)with
 |some c=>rw[q]at e2;exact fx rfl (aK (bS (x:=.dat (.list [])) rfl) (aK (cH (oU rfl) e1') (xH (cH i2 e2))))
 |none=>rw[q]at e2;exact fx rfl (aK (bS (x:=.dat (.list [])) rfl) (aK (cH (oU rfl) e1') (aK (cH i2 e2) (cO rfl))))
end
theorem Gd(e:ma ρ h=.ok xs h1)(l:xs.length=n)(k:gs xs ρ h1=.ok c_ h2):wk gs n ma ρ h=.ok (.nx c_) h2:=by
 simp_all[wk]
section
theorem Ky(w:Wb 25 ns ss):Ok 9999 3 (WD ns ss):=by have o1  := w.Sh;have o2  := (w.R0 (by decide)).tup;exact(jO.cons (o1.mono (U4 _) (by decide)) (jO.one o2)).tup.mono (by decide) (U4 _)
theorem Na(c:Option Y9)(hc:∀x,c=some x->Ch ns x):Ok 450 2 (MZ c):=by
 cases c with
 |none=>exact(rfl,by decide,by decide)
 |some x=>have k:=hc x rfl;have o  := jO.of λd m=>(fu (k.r.sub d m)).2.2.2.2.2;exact o.tup.mono (by have:=k.le;omega) (U4 _)
theorem Nb(w:Wb 25 ns ss)(l4:ns.length<=4)(s:lot.Sublist ns)(hn:n<=3):∀x,yo k ns ss lot gs n=some x->Ch ns x:=λx e=>by obtain⟨m,hm,F⟩:=Kl e;obtain⟨p,hp,rfl,_⟩:=Kk F.f;obtain⟨_,_,_,hc,_⟩:=EC w s l4 (by omega:m<=2) hp;exact hc
abbrev Sd:MS:=aU (bC 7 (ag gC (ab (aa 1) (ab (aa 6) (ab (aa 5) (ab (aa 4) (ab (aa 2) ai)))))))
  (aU (bC 8 (aZ 1 (fY (ab (ak (.int 2)) ai)) (af 0) cq (sJ 3 fV (ab (aa 2) (ab (aa 7) (ab (aa 6) ai))) (ab (aa 5) (ab (aa 3) ai)))))
  (lV (aJ (ah zN (ag mO (ab (aa 8) ai)) (ag mO (ab (pH (ab (aa 7) (ab (aa 7) ai))) ai)))) (bU (ak (.bool false))) cz))
abbrev Nc(i:Nat)(ns ss:Y9)(N:Nat)(S:Str)(b:Bool)(k:K3)(a6 a7 a8:Option D):Fm:=[some (.ref i),some (.dat (WD ns ss)),some (.int N),some (.rpr S),some (.bool b),some (.dat (.str k.nm)),a6,a7,a8]
theorem Nd(k:K3)(b:Bool)(w:Wb 25 ns ss)(l4:ns.length<=4)(s:lot.Sublist ns)(N:Nat)(hN:N<=2)(wf:Wf h)(i:Nat)(S:Str)(a7 a8:Option D) :
  ∃z7 z8,Sd (Nc i ns ss N S b k (some (.dat (.tuple lot))) a7 a8) h=.ok (.nx (Nc i ns ss N S b k (some (.dat (.tuple lot))) z7 z8)) h:=by
 obtain⟨gs,G,en⟩:=CU w l4 s k b h;have du:=Qq k w l4 s G N hN wf;have e1:=en N hN;have hc:=Nb (k:=k) (gs:=gs) w l4 s (show N+1-(inner ss lot).length<=3 by omega);have o:=Na (ns:=ns) _ hc;generalize MZ (yo k ns ss lot gs (N+1-(inner ss lot).length))=d at *;have key:=dJ (n:=1) (it:=fY (ab (ak (.int 2)) ai)) (g:=af 0) (e:=sJ 3 fV (ab (aa 2) (ab (aa 7) (ab (aa 6) ai))) (ab (aa 5) (ab (aa 3) ai))) (ρ:=Nc i ns ss N S b k (some (.dat (.tuple lot))) (some (.dat d)) a8) (h:=h) (h1:=h) (ds:=[.int 0,.int 1]) rfl (by decide) (λ_=>d) (λx _=>(_,rfl,Kp (xs:=[.dat (WD ns ss),.dat (.tuple lot),.dat (.str k.nm)]) (ys:=[.bool b,.int N]) rfl rfl rfl e1));have rp:=xE ((jO.cons o (jO.one o)).lst) h (by decide) (by decide);have ml:pH (ab (aa 7) (ab (aa 7) ai)) (Nc i ns ss N S b k (some (.dat (.tuple lot))) (some (.dat d)) (some (.dat (.list [d,d])))) h=.ok (.dat (.list [d,d])) h:=by unfold pH;exact(jR (xs:=[.dat d,.dat d]) rfl).trans (lu [d,d] h (by simp))
 refine(_,_,aK (bS (aM (xs:=[.dat (WD ns ss),.dat (.tuple lot),.dat (.str k.nm),.bool b,.int N]) rfl du)) (aK (bS key) (xI (bg (aH (aM (xs:=[.dat (.list [d,d])]) rfl rp) (aM (bK ml rfl) rp) (by simp[zN]))) rfl)))
theorem Ge(k:K3)(b:Bool)(w:Wb 25 ns ss)(l4:ns.length<=4)(N:Nat)(hN:N<=2)(wf:Wf h)(i:Nat)(S:Str):∀(xs:Y9) (a6 a7 a8:Option D),(∀x∈xs,qu ns x) ->
  ∃z6 z7 z8,cn (af 6) Sd (xs.map D.dat) (Nc i ns ss N S b k a6 a7 a8) h=.ok (.nx (Nc i ns ss N S b k z6 z7 z8)) h
 | [],a6,a7,a8,_=>(a6,a7,a8,rfl)
 |x::xs,a6,a7,a8,H=>by obtain⟨lot,rfl,s⟩:=H x (.head _);obtain⟨y7,y8,e1⟩:=Nd k b w l4 s N hN wf i S a7 a8;obtain⟨z6,z7,z8,e2⟩:=Ge k b w l4 N hN wf i S xs _ y7 y8 λq m=>H q (U2 _ m);refine(z6,z7,z8,?_);simp only[Vu,cn,af,R.dC,R.aW,VX,VY];rw[e1];exact e2
theorem Kz(b:Bx i h):Dr i h (mi [.ref i] h) λd=>d=.bool true:=by
 obtain⟨_,ha,ea,sa,ns,ss,rfl,w,l3⟩:=Qj (m:=3) b (by decide);have ba:=sa.bx b;obtain⟨_,hb,eb,sb,N,rfl,hN⟩:=oR ba (c:=3) (by decide) (by decide);have bb:=sb.bx ba;have rp:=xE (Ky w) hb (by decide) (by decide);obtain⟨_,hc,ec,sc,n2,rfl,hn2⟩:=oR bb (c:=2) (by decide) (by decide);have bc:=sc.bx bb;obtain⟨_,hd,ed,sd,n3,rfl,hn3⟩:=oR bc (c:=3) (by decide) (by decide);have bd:=sd.bx bc;have rp2:=xE (Ky w) hd (by decide) (by decide);generalize (WD ns ss).shown=S at *;have us:Wu ns ss:=(w.nr,λd m=>w.get m,by have:=w.le;omega);obtain⟨L,eL,hL,_,_⟩:=xO us #[1] hd
 obtain⟨k,ek⟩:∃k:K3,dw (.dat (.list [.str "standing",.str "whole",.str "stable"])) (.int n3) hd=.ok (.dat (.str k.nm)) hd:=by
  have:n3=0\/n3=1\/n3=2:=by omega
  rcases this with rfl|rfl|rfl
  ·exact(.st,rfl)
  ·exact(.wh,rfl)
  ·exact(.sb,rfl)
 obtain⟨z6,z7,z8,eR⟩:=Ge k ((n2:Int)==0) w #[1] N #[1] bd.wf i S L none none none hL;refine(_,hd,?_,((sa.trans sb).trans sc).trans sd,rfl)
 have s1:wk (bA (af 1) (bA (af 2) gn)) 2 (ab (ag mf (ab (aa 0) (ab (ak (.int 3)) ai))) (ab (ag aP (ab (aa 0) (ab (ak (.int 3)) ai))) ai)) [some (.ref i),none,none,none,none,none,none,none,none] h=.ok (.nx [some (.ref i),some (.dat (WD ns ss)),some (.int N),none,none,none,none,none,none]) hb:=
  Gd (bK (aM (xs:=[.ref i,.int 3]) rfl ea) (bK (aM (xs:=[.ref i,.int 3]) rfl eb) rfl)) rfl rfl
 have s2:wk (bA (af 3) (bA (af 4) gn)) 2 (ab (ag mO (ab (aa 1) ai)) (ab (ah oEq (ag aP (ab (aa 0) (ab (ak (.int 2)) ai))) (ak (.int 0))) ai)) [some (.ref i),some (.dat (WD ns ss)),some (.int N),none,none,none,none,none,none] hb=.ok (.nx [some (.ref i),some (.dat (WD ns ss)),some (.int N),some (.rpr S),some (.bool ((n2:Int)==0)),none,none,none,none]) hc:=
  Gd (bK (aM (xs:=[.dat (WD ns ss)]) rfl rp) (bK (aH (aM (xs:=[.ref i,.int 2]) rfl ec) (y:=.int 0) rfl (je _ _ _)) rfl)) rfl rfl
 have s3:bC 5 (ah dw (ak (.list [.str "standing",.str "whole",.str "stable"])) (ag aP (ab (aa 0) (ab (ak (.int 3)) ai)))) [some (.ref i),some (.dat (WD ns ss)),some (.int N),some (.rpr S),some (.bool ((n2:Int)==0)),none,none,none,none] hc=.ok (.nx (Nc i ns ss N S ((n2:Int)==0) k none none none)) hd:=bS (aH rfl (aM (xs:=[.ref i,.int 3]) rfl ed) ek);have i4:ay (ag cS (ab (ah dw (aa 1) (ak (.int 0))) ai)) (Nc i ns ss N S ((n2:Int)==0) k none none none) hd=.ok (L.map D.dat) hd:=fQ (aM (xs:=[.dat (.tuple ns)]) rfl eL);have fin:ah oEq (ag mO (ab (aa 1) ai)) (aa 3) (Nc i ns ss N S ((n2:Int)==0) k z6 z7 z8) hd=.ok (.bool true) hd:=aH (aM (xs:=[.dat (WD ns ss)]) rfl rp2) (y:=.rpr S) rfl (by simp[oEq]);exact fx rfl (aK s1 (aK s2 (aK s3 (aK (cH i4 eR) (cO fin)))))
theorem KA:∀ns:List Int,ns.length<=63->∃h,FG [.scr ns] []=.ok (.bool true) h:=by
 intro ns hn;obtain⟨h',y1,y2,e⟩:=EE (λb=>Kz b) [] (λo m=>by cases m)
 have it:fY (ab (ag Iz (ab (ak (.int 1)) (ab (ag IA (ab (ag iZ (ab (aa 0) ai)) (ab (ak (.int 2)) ai))) ai))) ai) [some (.scr ns),none,none] []=.ok (nums 0 (max 1 (min ns.length 2))) []:=ou (by
   simp[iZ,IA,Iz]
   grind) #[1]
 exact(h',fx rfl (aK (cH it e) (cO rfl)))
end
section
variable {P:Zb->Prop}
theorem Ug(h:P []) us(hl:us.length=0):P us:=List.eq_nil_of_length_eq_zero hl▸h
theorem KC(h:∀a us,us.length=n->P (a::us)) us(hl:us.length=n+1):P us:=by
 cases us with
 |nil=>cases hl
 |cons a us=>exact h a us (Nat.succ.inj hl)
theorem all1(h:∀a,P [a]):∀us,us.length=1->P us:=KC λa=>Ug (h a)
theorem all2(h:∀a b,P [a,b]):∀us,us.length=2->P us:=KC λa=>all1 (h a)
theorem Qr(h:∀a b c,P [a,b,c]):∀us,us.length=3->P us:=KC λa=>all2 (h a)
theorem Uh(h:∀a b c d,P [a,b,c,d]):∀us,us.length=4->P us:=KC λa=>Qr (h a)
theorem Ui(h:∀a b c d e,P [a,b,c,d,e]):∀us,us.length=5->P us:=KC λa=>Uh (h a)
theorem Qs{P:Zb->Zb->Prop}(h:∀a b c d e,P [a,b,c] [d,e]):∀us ws,us.length=3->3+ws.length=5->P us ws:=λus ws hu hw=>Qr (P:=λus=>P us ws) (λa b c=>all2 (λd e=>h a b c d e) ws #[1]) us hu
end
end Ml
namespace K34
open PySem L2 Ml
theorem Qt{K:Zc}{h:Heap}{mg:Y8}{ta0:Addr}{fb0:Addr}{k0:Tok}{k1:Tok}{k2:Tok}{k3:Tok}(X:K.In h)(G:h.Ns mainGlobals mg)
 (z0:PySem.W.nsIn K mainGlobals "all" = some none)
 (z1:PySem.W.nsIn K mainGlobals "len" = some none)
 (z2:PySem.W.nsIn K mainGlobals "isinstance" = some none)
 (z3:PySem.W.nsIn K mainGlobals "str" = some none)
 (z4:PySem.W.nsIn K mainGlobals "zip" = some none)
 (z5:PySem.W.nsIn K mainGlobals "tuple" = some none)
 (z6:PySem.W.nsIn K mainGlobals "any" = some none)
 (z7:PySem.W.nsIn K mainGlobals "sorted" = some none)
 (z8:PySem.W.nsIn K mainGlobals "set" = some none)
 (z9:PySem.W.nsIn K mainGlobals "bool" = some none)
 (z10:PySem.W.nsIn K mainGlobals "int" = some none)
 (ZR:PySem.W.nsIn K mainGlobals "range" = some none)
 (ZQ:PySem.W.nsIn K mainGlobals "abs" = some none)
 (z13:PySem.W.nsIn K mainGlobals "divmod" = some none)
 (z14:PySem.W.nsIn K mainGlobals "list" = some none)
 (z15:PySem.W.nsIn K mainGlobals "repr" = some none)
 (z16:PySem.W.nsIn K mainGlobals "max" = some none)
 (z17:PySem.W.nsIn K mainGlobals "min" = some none)
 (a0:PySem.W.nsIn K mainGlobals "LONGEST_NAME" = some (some (.int 6 k0)))
 (a1:PySem.W.nsIn K mainGlobals "MOST_NAMES" = some (some (.int 12 k1)))
 (a2:PySem.W.nsIn K mainGlobals "MOST_ENFORCED" = some (some (.int 5 k2)))
 (a3:PySem.W.nsIn K mainGlobals "MOST_CHANGES" = some (some (.int 4 k3)))
 (fn0:PySem.W.nsIn K mainGlobals "JUDGES" = some (some (.ref fb0)))(fk0:TK K fb0 kZ=true)
 (tn0:PySem.W.nsIn K mainGlobals "ENFORCED_KINDS" = some (some (.ref ta0)))(tk0:TH K ta0 fj=true)
  : Txt K mg:=(Vx X G z0,Vx X G z1,Vx X G z2,Vx X G z3,Vx X G z4,Vx X G z5,Vx X G z6,Vx X G z7,Vx X G z8,Vx X G z9,Vx X G z10,Vx X G ZR,Vx X G ZQ,Vx X G z13,Vx X G z14,Vx X G z15,Vx X G z16,Vx X G z17,(_,WO X G a0),(_,WO X G a1),(_,WO X G a2),(_,WO X G a3),(_,WO X G fn0,PY (λ_ _=>WO X G) fk0),(_,WO X G tn0,PJ tk0))
theorem all_mk{l:PySem.W.OpenLaw}{w:World}{K:Zc}{h:Heap}{mg:Y8}{fa f:Addr}{od an:Option Addr}{sl:Zf}{oc kV dc pm cd ct:Value}(X:K.In h)(G:h.Ns mainGlobals mg)(hfa:mg "law" = some (.ref fa))(T:Txt K mg)
 (d0:Df K mg "is_name" jg sS)
 (d1:Df K mg "is_rising" gf nH)
 (d2:Df K mg "are_names" gg nJ)
 (d3:Df K mg "is_strike" iL nK)
 (d4:Df K mg "are_strikes" eB kG)
 (d5:Df K mg "is_web" nL wN)
 (d6:Df K mg "check_web" iM nM)
 (d7:Df K mg "is_lot" lg wO)
 (d8:Df K mg "check_lot" iN nN)
 (d9:Df K mg "check_few" iO nO)
 (d10:Df K mg "is_within" gh nP)
 (d11:Df K mg "hit_by" lj wR)
 (d12:Df K mg "defended" jA qb)
 (d13:Df K mg "is_peaceful" eE kH)
 (d14:Df K mg "is_standing" fF kI)
 (d15:Df K mg "is_whole" jB qe)
 (d16:Df K mg "is_stable" iQ nQ)
 (d17:Df K mg "turned" nR wZ)
 (d18:Df K mg "wider_lots" gH mB)
 (d19:Df K mg "picks" rA AA)
 (d20:Df K mg "check_enforced" dG hZ)
 (d21:Df K mg "check_limits" fc jC)
 (d22:Df K mg "is_reached" gI mC)
 (d23:QB K mg "enforced" jD 3 qf)
 (d24:Df K mg "_law_cell" iR nU)
 (d25:Df K mg "_law_mix" jE qg)
 (d26:Df K mg "_law_box" jF qh)
 (d27:Df K mg "_law_take" iU nV)
 (d28:Df K mg "_law_web" jG qi)
 (d29:Df K mg "_law_inside" eF kK)
 (d30:Df K mg "_law_subsets" ff jH)
 (d31:Df K mg "_law_is_calm" dH jJ)
 (d32:Df K mg "_law_defends" fg jK)
 (d33:Df K mg "_law_tops" fh n5)
 (d34:Df K mg "_law_lots_of" fi jL)
 (d35:Df K mg "_law_changed" dI jM)
 (d36:Df K mg "_law_rows" iV oh)
 (d37:Df K mg "_law_due" jN qj)
 (d38:Df K mg "_law_right" gM mE)
 (a:PySem.W.nsIn K mainGlobals "law" = some (some (.ref f)))(l0:K.lookup f=some (oc,od,.func (PySem.W.fnOf "law" "law" (ie rM) (eK rM) (av rM) .none kV dc pm an cd ct),sl))(c:PySem.W.codeIn K cd "law" = true)(k:PySem.W.keepIn K (.ref f)=true) :
  ∃fd:FuncData,(∀(s:Zn) (v:Value),BindsTo s fd ([v],[]) [("_law_script",v)])/\∀base:Heap,K.In base->base.Ns mainGlobals mg->jV l.prog w K mg base (uJ l.prog w) 8 fa fd ["_law_script"] (IS (l.prog,w,mg,K) FG):=by
 have e:=hfa.symm.trans (WO X G a);cases e;have FL:=zD (st:=rM) l0 c k;refine(PySem.W.fnOf "law" "law" (ie rM) (eK rM) (av rM) .none kV dc pm an cd ct,λs v=>.of_eq rfl,λbase _ _=>?_)
 let C:CX:=(l.prog,w,K,mg,base)
 have J11:=G9 (c:=C) d0 T;have Z_:=Cg (c:=C) d1 T;have J13:=Ci (c:=C) d2 T Z_ J11;have J14:=Cj (c:=C) d3 T;have J15:=yg (c:=C) d4 T Z_ J14;have J16:=JQ (c:=C) d5 T J15 J13;have J17:=Cm (c:=C) d6 T J16;have J18:=JR (c:=C) d7 T Z_;have J19:=Cp (c:=C) d8 T J18;have J20:=Cq (c:=C) d9 T;have J22:=Cr (c:=C) d10 T;have J23:=JS (c:=C) d11 T;have J24:=Eb (c:=C) d12 T J23;have J25:=yi (c:=C) d13 T;have J26:=yj (c:=C) d14 T J22 J24;have J27:=Ec (c:=C) d15 T J24;have J28:=Ct (c:=C) d16 T J23;have J31:=JT (c:=C) d17 T;have J33:=Az (c:=C) d18 T;have J34:=Mz (c:=C) d19 T;have J39:=sV (c:=C) d20 T J19 J20 J17;have J40:=xb (c:=C) d21 T;have J41:=AB (c:=C) d22 T J28 J26 J27 J25;have J42:=Ed (c:=C) d23 T J34 J41 J31 J33 J40 J39;have J44:=Cv (c:=C) d24 T;have J45:=Ee (c:=C) d25 T;have J46:=Ef (c:=C) d26 T J45 J44;have Zv:=Cw (c:=C) d27 T;have J48:=Eg (c:=C) d28 T Zv;have J49:=yk (c:=C) d29 T;have J50:=xk (c:=C) d30 T;have J51:=xm (c:=C) d31 T;have J52:=xn (c:=C) d32 T;have J53:=Cy (c:=C) d33 T J49;have J54:=xt (c:=C) d34 T J53 J52 J50 J51;have J55:=xu (c:=C) d35 T;have J56:=Cz (c:=C) d36 T;have J57:=Eh (c:=C) d37 T J56 J49 J54 J55;have J58:=AF (c:=C) d38 T J50 J42 J57 Zv J48;exact P5 (P:=l.prog) (w:=w) (base:=base) FL T J58 J46
theorem walk{l:PySem.W.OpenLaw}{q:Zj}{loose:Zd}{XP:(Y8)->Heap->Prop}{YP:World->Heap->Prop}{d:DefRec}{K:Params->Zc}(hn:l.most=some 63)(hdf:d.params.defaults=[])
 (hY:∀(w:World) (h:Heap),YP w h->(K w.params).In h)
 (F:∀(w:World) (mg:Y8) (fa:Addr) (h:Heap),(K w.params).In h->h.Ns mainGlobals mg->mg d.name=some (.ref fa) ->
   ∃fd:FuncData,(∀(s:Zn) (u:Value),BindsTo s fd ([u],[]) [("_law_script",u)])/\∀base:Heap,(K w.params).In base->base.Ns mainGlobals mg->jV l.prog w (K w.params) mg base (uJ l.prog w) 8 fa fd ["_law_script"] (IS (l.prog,w,mg,K w.params) FG)) :
  PySem.W.WalkO q loose XP YP l.row.toRowW d [] (λf vs=>PySem.call f vs):=
 L2.Ll (n:=63) (k:=8) (x := "_law_script") (CX:=λw=>uJ l.prog w) (sp:=λw=>ND (K w.params)) hn (by decide) hdf (rfl,by decide,by decide,rfl) hY
  (λw mg fa h KX G hm=>by obtain⟨fd,b,o⟩:=F w mg fa h KX G hm;exact(fd,b,λbase k g=>(o base k g).imp λvs H Q E z=>Jo KA z))
  (λw H a ns hl _ hS=>(a,ns,rfl,hS,hl,λ_=>rfl)) (by rintro w H s e s' ⟨_,_,_,_,_,_,_,_,_,_,_,_,_,z⟩;exact z)
end K34
open PySem PySem.W PyProof.Rows
structure PySem.W.Fast:Prop where
 (tw18064123318621666409 tw7957380128413184567 tw17564719487752775675 tw7600237887085636338 tw6223263730620727890 tw3370376563535077448 tw7896563175106662021 tw16556744397156787437 tw8814537042153683637 tw12306219691590239624 tw2599884837196409106 tw8377995333246993226 tw2250461881877126174 tw7019588739405400317 tw8376771314409580253 tw6460417974878547185 tw18286842001291723451 tw12574566811174138716 tw2186748157511352936 tw16159101898576373440 tw3759348326259077538 tw4336466577369444727 tw17533912366715479987 tw3707634310158954318 tw14638900278647576371 tw2121231392368369334 tw11771373995864681245 tw14815269875968859071 tw2390884418099892540 tw13203053111566933708 tw17274472068438059589 tw4367682156199581826 tw13803084437616232092 tw3823116724229779956 tw6764675255452509094 tw2955783875637286960 tw16353429964157814209 tw18137877053631920717 tw9746114476255959393 tw1422922507309159175 tw17409568162036533604 tw5771025158626266647 tw10477269749150146977 tw10563714989354526964 tw5382134001204128988 tw1449804128985638846 tw3463603487843405405 tw8095485037714970712 tw4945016121620099034 tw13698112229150625772 tw1213545163620574122 tw1599979505063819276 tw8885684105145919356 tw17092362576838060951 tw8286697901363451890 tw11540121593498999341 tw8381982386836177364 tw4532069481836664960 tw16518396021803519640 tw15517209288755130756 tw11107209780773814192 tw4306897197972400694 tw1810285131903578557 tw592290376583977425 tw15551602110667145831 tw4703454857168947371 tw6015182643510466682 tw16087499596249407311 tw13555725162782537922 tw10627631347907302857 tw14256834456182817900 tw2631798552652735822 tw8477618875270617147 tw11187331743176130489 tw15364726945849031100 tw11529176189703404250 tw5367330422121852480 tw9730710925816591414 tw3379647382715610971 tw14293252840240653942 tw13270406687051735100 tw14234794410804564203 tw3731062569524484505 tw14455711006075854305 tw7448910262410113461 tw11200228212249901379 tw4061932748161568337 tw13188103644080785090 tw5547489210253444135 tw7886231180562883515 tw7340718614249172730 tw18052867533705834788 tw12450415347407838293 tw4843636063901209019 tw7747274855925622763 tw1210081623081960424 tw7825131960157758039 tw16074782904784064051 tw3213453643091659848 tw15401688039744367509 tw2084579761397880385 tw14879138473625601715 tw12497630712356019457 tw5808754304068591194 tw15952830427241513083 tw1064825377589598882 tw17047997029559570488 tw11183650464096414048 tw11129115257213985880 tw12245969362997625629 tw12784724111013047812 tw12796818832591697372 tw2621447872878561210 tw17353843060166110987 tw6271529903548004385 tw666274130072127451 tw4051764046721066762 tw9088354015359476679 tw5639780993604285263 tw16877831951171523497 tw7178293487086034787 tw3493351493904595196 tw16241270261089244860 tw13798806481018029703 tw10704235655325489827 tw14558818511735929808 tw15747624106445174056 tw13745409628341343164 tw15887989865148977025 tw18218671651635409870 tw6469420470206694206 tw489612199652621231 tw10215993312554657090 tw9400260980503715666 tw6747894246889459074 tw13337259934412582247 tw3543391103902060198 tw9858531855651678732 tw12498175186590709923 tw10079626997514917366 tw13828006971623591944 tw14534102540373171530 tw12790896513595095991 tw446371018924746251 tw3531580548503422257 tw409961853887936629 tw9624524114358227901 tw2963492154140820745 tw852974380003942608 tw2137981677914162838 tw13398419623284518943 tw5242255556940210125 tw18070871860136971846 tw9445409289953246425 tw17920306326625187906 tw9340938628933971920 tw3110770295881636832 tw13345753199435919626 tw7709755684489152937 tw4395324006880224787 tw15189771290199178431 tw13148177562960024059 tw7994653804176108920 tw4050237677078711543 tw15739198040304144182 tw8943403511753678491 tw5291362573213476685 tw12531108868622139900 tw5712569934255918754 tw6242187904827916769 tw16034714254435739984 tw11847159891240715200 tw6522316330924038118 tw17257576374671787503 tw14207662472431095116 tw17691928916661696585 tw11536978207454949899 tw12740810221455910379 tw17233785912941759010 tw10504902277184943282 tw10899205611230138043 tw3147974969699216086 tw14707962612967214568 tw9902046614568105888 tw9325644707746388662 tw15247514462568149241 tw3022347299133092768 tw8065913829251281923 tw1855536037382177840 tw15998925071170640153 tw16765464738832645267 tw12518587047292454375 tw13821277151507310538 tw1607607027967266336 tw12730571284191165307 tw5501301056414081495 tw17924847151291291578 tw13259141079293890038 tw4595791512080013183 tw2114316585014341610 tw5124147741133256205 tw3500052388986604734 tw3531457284907260388 tw11260597581119558079 tw2851800943485940354 tw3289894777055079751 tw1401764635876469 tw11372777593698072659 tw8404591251935072212 tw6989997040605194917 tw4893447736268421561 tw3909952609389675007 tw15282802757820929386 tw14951033465701052367 tw10361715476559229666 tw5158266809474636912 tw8545504680176780930 tw4588792303219293175 tw6174460567341577873 tw12498040617813930944 tw5140711930678173301 tw13459155624872268335 tw8916213159793425518 tw1645409591698716727 tw13313889247690920045 tw15904868855648667378 tw4575468364602035882 tw8267912210254748217 tw7576651911297123538 tw5095002579290720619 tw456792967594294923 tw3233132534343397768 tw2218393700889217349 tw14052636715817238129 tw5213375214297538649 tw894813217717358205 tw7529287005329780277 tw6673972067875468460 tw6514922911766723266 tw3689856233661013868 tw197094182524223927 tw11476888747549377131 tw12929369787236594223 tw8326146841920482946 tw7448667028450320619 tw7248797718475261668 tw5331478165708079594 tw2293786201121758060 tw115276347583567930 tw10035371991877040783 tw9315819942805038858 tw6749073912387916657 tw17376258072146916531 tw13782776162955163297 tw13348185901331786309 tw11994021728415041473 tw10255437076961258915 tw687515456949052679 tw9539846153094888444 tw9234390426562468932 tw7984992857807965306 tw7799516014335553701 tw7661759814545388203 tw7644085298408202489 tw7585287090850374294 tw7326828951669228866 tw6831650774479729427 tw6685859359698571080 tw6433548434527658996 tw627617202072184062 tw6143618153730184862 tw5991281214676399649 tw5903887986238859014 tw580469171450955324 tw5777187207446972498 tw5677580918706255258 tw5412738765746615343 tw5271821063818340567 tw510805446665960627 tw478174701357881053 tw4610237688394955686 tw4381240921843730272 tw4232204751575362954 tw4035344285284139821 tw3897003843746138710 tw3895263422580418602 tw3794789116165625705 tw3787238975543940277 tw3717106784262343488 tw359403908319407727 tw3581661002259258489 tw3161044144570453496 tw3145465993688255731 tw2902608229725737844 tw287130219393661780 tw2858071771073248060 tw2755027040761558279 tw2501296335921272135 tw2012170468878884488 tw18434752599717689607 tw17971439338264297378 tw17326509285306373374 tw16664926574873551276 tw16592399366303134812 tw16475765483705785483 tw16045508180205917526 tw15937465046215612088 tw15842591618947199922 tw15571974266932608051 tw15419266056279209655 tw15040853219670650565 tw14653665147567337940 tw14505338060874403563 tw1402253362784513718 tw13885542554551759195 tw13851984259936335124 tw13129841119491790204 tw13012166077684453686 tw12371617246433009365 tw1208760325817043388 tw11918496273541181109 tw11859344836499380006 tw11789391358415665394 tw11510641076317022047 tw11464756336019627980 tw11005123338711069186 tw10748269111809239900 tw10335374157101745363 tw1033375553146210599 tw10118617046261859281:True)
set_option maxRecDepth 100000 in
set_option maxHeartbeats 0 in
theorem PySem.Challenge.cw_everalike_k34_lots_enforced_holds : PySem.Challenge.rw_everalike_k34_lots_enforced.Holds := by
 w_on;o_law;k_head;(case hw=>w_witness2)
 k_fill
 refine K34.walk (l:=PySem.Challenge.rw_everalike_k34_lots_enforced) rfl rfl (λw h Y=>PySem.W.kIn_of Y) ?F
 case F=>
  intro w mg fa h KX G hmg
  refine' K34.all_mk KX G hmg ?T ?d0 ?d1 ?d2 ?d3 ?d4 ?d5 ?d6 ?d7 ?d8 ?d9 ?d10 ?d11 ?d12 ?d13 ?d14 ?d15 ?d16 ?d17 ?d18 ?d19 ?d20 ?d21 ?d22 ?d23 ?d24 ?d25 ?d26 ?d27 ?d28 ?d29 ?d30 ?d31 ?d32 ?d33 ?d34 ?d35 ?d36 ?d37 ?d38 ?a ?l ?c ?k
  case T=>
   refine' K34.Qt KX G ?zz0 ?zz1 ?zz2 ?zz3 ?zz4 ?zz5 ?zz6 ?zz7 ?zz8 ?zz9 ?zz10 ?zz11 ?zz12 ?zz13 ?zz14 ?zz15 ?zz16 ?zz17 ?aa0 ?aa1 ?aa2 ?aa3 ?fn0 ?fk0 ?tn0 ?tk0
   case zz0|zz1|zz2|zz3|zz4|zz5|zz6|zz7|zz8|zz9|zz10|zz11|zz12|zz13|zz14|zz15|zz16|zz17|aa0|aa1|aa2|aa3|fn0=>k_is
   (case fk0=>kernel_rfl)
   case tn0=>k_is
   (case tk0=>kernel_rfl)
  case d0|d1|d2|d5|d6|d30|d33|d38=>refine' Ml.Fz KX G ?_ ?_ ?_ ?_ (λ_ _ _ _ _ _=>Ml.all1 λ_=>rfl);any_goals k_is
  case d3|d4|d7|d8|d9|d10|d11|d12|d13|d14|d15|d16|d17|d18|d19|d21|d24|d25|d27|d28|d29|d31|d34|d35|d36=>refine' Ml.Fz KX G ?_ ?_ ?_ ?_ (λ_ _ _ _ _ _=>Ml.all2 λ_ _=>rfl);any_goals k_is
  case d20|d22|d26|d32=>refine' Ml.Fz KX G ?_ ?_ ?_ ?_ (λ_ _ _ _ _ _=>Ml.Qr λ_ _ _=>rfl);any_goals k_is
  case d23=>refine' Ml.PN KX G ?_ ?_ ?_ ?_ (by decide) (Ml.Qs λ_ _ _ _ _=>rfl);any_goals k_is
  case d37=>refine' Ml.Fz KX G ?_ ?_ ?_ ?_ (λ_ _ _ _ _ _=>Ml.Ui λ_ _ _ _ _=>rfl);any_goals k_is
  (case a=>k_is);(case l=>k_is);(case c=>k_is);(case k=>k_is)
