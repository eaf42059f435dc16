import PyProof.Rows.All
import Wide.All
import OpenK.AllK
import Wide.FinOn
import Lean
import PyProof.EqAt
import PyProof.EqKinds
import PyProof.TupleCall
import KE.KSortTup
import PyProof.Rows.SortShellK
import PyProof.Rows.SortWalk
import KE.KDictList
import KE.KStar
import PyProof.ListMulRoad
import PyProof.FactsAll.tuple
import PyProof.DictCompW
import KE.KSortKey
import KE.KTab
import PySem.SetOps
import PyProof.SetScanFacts
import PyProof.SetNew
import PyProof.SetRoads
import PyProof.Rows.SetFrom
import PyProof.WalksMore
import PyProof.CollectWalk
import PySem.Challenge.RW_everalike_k36_whole_lots_enforced
set_option linter.all false
namespace PySem
abbrev UC:=@PySem.wpAny_bind
abbrev UD:=@PySem.wpAny_pure
abbrev UE:=@PySem.Heap.get?_push_of_some
abbrev UG:=@List.mem_append_right
abbrev UH:=@Bool.and_eq_true
abbrev UI:=@List.mem_cons_of_mem
abbrev UJ:=@Nat.le_refl
abbrev UK:=@List.getElem?_eq_getElem
abbrev UL:=@PySem.Heap.get?_push_size
abbrev UM:=@PySem.Heap.lt_size
abbrev UN:=@List.getElem?_eq_some_iff
abbrev UO:=@Nat.le_trans
abbrev UP:=@List.mem_cons
abbrev UQ:=@Bool.false_eq_true
abbrev UR:=@List.mem_append
abbrev US:=@Nat.lt_of_lt_of_le
abbrev UT:=@Nat.ne_of_lt
abbrev UU:=@List.mem_singleton
abbrev UW:=@List.all_eq_true
abbrev UX:=@List.length_map
abbrev UY:=@List.size_toArray
abbrev UZ:=@List.mem_cons_self
abbrev U0:=@List.mem_filter
abbrev U1:=@Array.getElem?_eq_getElem
abbrev U2:=@List.mem_map
abbrev U3:=@PySem.Paired.length
abbrev U4:=@List.mem_append_left
abbrev U5:=@List.length_append
abbrev U6:=@List.mem_of_getElem?
abbrev U7:=@PySem.wpAny_call_entry
abbrev U8:=@PySem.wpAny_holding
abbrev U9:=@Bool.false_ne_true
abbrev Va:=@List.map_cons
abbrev Vb:=@Array.getElem?_toList
abbrev Vc:=@List.getElem?_append_left
abbrev Vd:=@PySem.wpAny_callSpecial?_slot
abbrev Ve:=@PySem.W.mg_none_of
abbrev Vf:=@List.length_cons
abbrev Vg:=@Option.map_eq_some_iff
abbrev Vh:=@PySem.wpAny_newObj_type
abbrev Vi:=@decide_eq_true_eq
abbrev Vj:=@List.not_mem_nil
abbrev Vk:=@Nat.lt_irrefl
abbrev Vl:=@List.getElem?_append_right
abbrev Vm:=@List.mem_range
abbrev Vn:=@List.length_filter_le
abbrev Vo:=@List.getElem?_map
abbrev Vp:=@PySem.wpAny_ite_split
abbrev Vq:=@List.pairwise_cons
abbrev Vr:=@Array.length_toList
abbrev Vs:=@List.drop_eq_getElem_cons
abbrev Vt:=@Classical.byContradiction
abbrev Vu:=@if_false
abbrev Vv:=@PyProof.Rows.slot_tuple_getitem
abbrev Vw:=@Nat.zero_le
abbrev Vx:=@Nat.lt_succ_of_lt
abbrev Vy:=@PyProof.Rows.ReadsAll.keeps
abbrev Vz:=@Array.getD_eq_getD_getElem?
abbrev VA:=@Array.getElem?_eq_some_iff
abbrev VB:=@PySem.sizeLine_eq
abbrev VC:=@if_true
abbrev VD:=@PySem.Heap.SameBut.update
abbrev VE:=@List.nodup_cons
abbrev VF:=@List.any_eq_true
abbrev VG:=@PySem.wpAny_mono
abbrev VH:=@PySem.Heap.size_push
abbrev VI:=@List.getElem?_of_mem
abbrev VJ:=@List.drop_of_length_le
abbrev VL:=@PySem.wpAny_Call_Name_kw
abbrev VM:=@PySem.wpAny_seqItems
abbrev VN:=@PySem.wpAny_truthy_bool
abbrev VO:=@PySem.wpAny_standAt
abbrev VP:=@List.set_cons_succ
abbrev VQ:=@List.set_cons_zero
abbrev VR:=@decide_eq_false
abbrev VS:=@PySem.W.kia_one
abbrev VT:=@PyProof.Rows.F.plain_set_update_loop
abbrev VU:=@PySem.W.mg_of
abbrev VW:=@PySem.mem_of_lookup
abbrev VX:=@PySem.Heap.get?_update_self
abbrev VY:=@PySem.F.slot_dict_keyiterator_next
abbrev VZ:=@Option.some.inj
abbrev V0:=@Bool.eq_iff_iff
abbrev V1:=@List.append_nil
abbrev V2:=@PySem.wpAny_field
abbrev V3:=@List.forIn_cons
abbrev V4:=@List.length_eq_zero_iff
abbrev V5:=@PySem.wpAny_rule
abbrev V6:=@List.mem_iff_getElem
abbrev V7:=@Int.toNat_natCast
abbrev V8:=@PySem.Heap.get?_push_ne
abbrev V9:=@List.length_nil
abbrev Wa:=@PySem.wpAny_specialOf
abbrev Wc:=@PySem.wpAny_comprehension_free
abbrev Wd:=@Array.forIn_toList
abbrev We:=@List.lookup_cons
abbrev Wg:=@Nat.lt_succ_self
abbrev Wh:=@PySem.wpAny_typeNameOfWhole_keyiter
abbrev Wi:=@List.pairwise_append
abbrev Wj:=@Nat.pow_le_pow_right
abbrev Wk:=@Nat.lt_or_ge
abbrev Wl:=@List.nodup_append
abbrev Wm:=@PyProof.Rows.callWith_type1
abbrev Wn:=@Bool.or_eq_true
abbrev Wo:=@Nat.le_succ
abbrev Wq:=@List.filter_sublist
abbrev Wr:=@List.getElem?_set_self
abbrev Ws:=@List.take_of_length_le
abbrev Wt:=@PySem.F.slot_tuple_iterator_next
abbrev Wu:=@List.getD_eq_getElem?_getD
abbrev Wv:=@PySem.wpAny_isInstance
abbrev Ww:=@Option.getD_some
abbrev Wx:=@PyProof.Rows.assignInOrder_cons
abbrev Wy:=@PySem.wpAny_setField_rec
abbrev Wz:=@PySem.wpAny_attempt
abbrev WA:=@Bool.not_true
abbrev WB:=@List.zip_cons_cons
abbrev WC:=@List.take_append_drop
abbrev WE:=@PySem.wpAny_of_eq
abbrev WG:=@List.pairwise_iff_getElem
abbrev WH:=@Array.mem_toList_iff
abbrev WI:=@or_false
abbrev WJ:=@PySem.Around.under_plainId
abbrev WK:=@PySem.wpAny_passesOwn
abbrev WL:=@PySem.sizeLine_eq
abbrev WM:=@Bool.not_eq_true'
abbrev WN:=@PySem.wpAny_typeNameOf_keyiter
abbrev WO:=@List.filterMap_cons_some
abbrev WQ:=@PySem.wpAny_setEpoch_of
abbrev WR:=@List.Pairwise.imp_of_mem
abbrev WS:=@Nat.ne_of_gt
abbrev WT:=@List.getElem?_replicate
abbrev WU:=@List.getElem_of_mem
abbrev WV:=@List.length_take
abbrev WW:=@List.forIn_nil
abbrev WX:=@decide_eq_true
abbrev WY:=@PySem.Heap.get?_update_other
abbrev WZ:=@List.mem_filterMap
abbrev W0:=@PySem.Obj.data_mapFields
abbrev W3:=@List.length_replicate
abbrev W4:=@List.map_map
abbrev W5:=@PySem.codeAny_builtin
abbrev W6:=@PySem.F.called_set
abbrev W7:=@List.take_sublist
abbrev W8:=@Option.some.injEq
abbrev W9:=@PyProof.Rows.listUpdate_at
abbrev Xa:=@of_decide_eq_true
abbrev Xb:=@PySem.F.slot_tuple_hash
abbrev Xd:=@PySem.wpAny_pyIter_slot
abbrev Xe:=@List.reverse_cons
abbrev Xf:=@PySem.Heap.SameBut.refl
abbrev Xg:=@List.perm_ext_iff_of_nodup
abbrev Xh:=@List.getElem?_set_ne
abbrev Xi:=@List.mem_of_mem_take
abbrev Xj:=@PyProof.Rows.F.entry_set_update_loop
abbrev Xk:=@List.getLastD_eq_getLast?
abbrev Xl:=@PySem.Heap.size_update
abbrev Xm:=@PySem.wpAny_askSetting
abbrev Xn:=@beq_eq_false_iff_ne
abbrev Xo:=@PySem.F.slot_dict_eq_refl
abbrev Xp:=@Nat.le_of_lt
abbrev Xq:=@PySem.codeAny_mono
abbrev Xr:=@List.getElem?_take_of_lt
abbrev Xs:=@PySem.F.args_tuple_add_2
abbrev Xt:=@PySem.wpAny_typeOf
abbrev Xu:=@PySem.SetTable.toList_insertAt
abbrev Xv:=@Ne.symm
abbrev Xw:=@PySem.wpAny_pyIter_tuple
abbrev Xx:=@congrArg
abbrev Xy:=@PySem.F.entry_tuple_add
abbrev Xz:=@List.nil_append
abbrev XA:=@PySem.tupleKind_room_in1
abbrev XB:=@List.sublist_append_iff
abbrev XC:=@List.pairwise_iff_forall_sublist
abbrev XD:=@PySem.W.cellsFrom_some
abbrev XF:=@PySem.F.slot_tuple_add
abbrev XG:=@Array.getElem?_eq_none
abbrev XH:=@PySem.wpAny_assign_Name
abbrev XI:=@PySem.wpAny_load
abbrev XJ:=@PySem.wpAny_pyIter_list
abbrev XM:=@List.any_eq_false
abbrev XN:=@PySem.call_meets
abbrev XO:=@List.pairwise_map
abbrev XQ:=@PySem.wpAny_dictEntries
abbrev XR:=@Nat.mod_lt
abbrev XS:=@List.eraseIdx_eq_take_drop_succ
abbrev XT:=@List.Sublist.refl
abbrev XU:=@PySem.wpAny_bindName
abbrev XW:=@Bool.false_and
abbrev XX:=@PySem.wpAny_setField
abbrev XY:=@Nat.mul_le_mul
abbrev XZ:=@PyProof.Rows.callWith_builtin1
abbrev X0:=@PySem.exec_Assign_Name_used
abbrev X1:=@PySem.Obj.isFreed_of_fields
abbrev X2:=@PySem.F.slot_tuple_lt
abbrev X3:=@Nat.le_add_right
abbrev X4:=@List.getElem_mem
abbrev X5:=@PySem.SeqAt.eqAt_reads
abbrev X6:=@List.cons_append
abbrev X7:=@PySem.wpAny_loadName_local
abbrev X8:=@PySem.wpAny_updateSeq_pair
abbrev X9:=@List.any_cons
abbrev Ya:=@PySem.wpAny_newList
abbrev Yb:=@PySem.plainId_quiet
abbrev Yc:=@PySem.wpAny_loadName_cell
abbrev Yd:=@PySem.wpAny_execs_nil
abbrev Ye:=@List.of_mem_zip
abbrev Yf:=@PySem.F.slot_zip_next
abbrev Yg:=@PySem.Heap.get?_update_ne
abbrev Yh:=@PySem.F.slot_tuple_eq
abbrev Yi:=@PySem.Heap.dictOf_iff
abbrev Yj:=@List.length_reverse
abbrev Yk:=@PySem.wpAny_setEntries_of
abbrev Yl:=@PySem.Reads.unique
abbrev Ym:=@Nat.lt_of_le_of_lt
abbrev Yn:=@List.map_nil
abbrev Yo:=@List.Nodup.sublist
abbrev Yp:=@PySem.wpAny_newTuple
abbrev Yq:=@PySem.wpAny_Name
abbrev Yr:=@Option.isSome_map
abbrev Ys:=@bne_self_eq_false
abbrev Yt:=@beq_iff_eq
abbrev Yu:=@List.length_range
abbrev Yv:=@List.set_comm
abbrev Yw:=@List.mem_flatMap
abbrev Yx:=@getElem?_pos
abbrev Yy:=Value → Shared → Prop
abbrev Yz:=List (Addr × Obj)
abbrev YA:=List (PyData × PyData)
abbrev YB:=Array (Int × Value)
abbrev YC:=Str → Option Value
abbrev YD:=List PyData
abbrev YE:=List Addr
abbrev YF:=List Value
abbrev YG:=PySem.W.Frag
abbrev YH:=List Str
abbrev YI:=List Expr
abbrev YJ:=Array (Option Value)
abbrev YK:=Array DictEntry
abbrev YL:=Array Value
abbrev YM:=Array Nat
abbrev YN:=Program
abbrev YO:=SetTable
abbrev YQ:=Around
abbrev YR:=Shared
end PySem
set_option bootstrap.genMatcherCode false
set_option genSizeOfSpec false
local macro_rules
 |`(def $d:declId $s:optDeclSig $v:declVal)=>`(noncomputable def $d:declId $s:optDeclSig $v:declVal)
 |`(abbrev $d:declId $s:optDeclSig $v:declVal)=>`(noncomputable abbrev $d:declId $s:optDeclSig $v:declVal)
set_option hygiene false in
local macro_rules
 |`(#[1])=>`((by omega))
 |`(#[2])=>`(s.heap.objs.size)
 |`(#[3])=>`((ay X own scope C s2 H2 fp pins))
noncomputable section
set_option compiler.extract_closed false
set_option Elab.async false
set_option linter.all false
set_option maxRecDepth 100000
namespace L2
open PySem PySem.Spec PyProof.Rows
abbrev Key:=Sum Int Str
def vi:Key->Value->Bool
 |.inl k,v=>Value.isInt k v
 |.inr x,v=>Value.isStrOf x v
def Sq(w:World):Key->Int
 |.inl k=>hashInt k
 |.inr x=>hashStr w x
theorem cq:∀{k:Key} {v:Value},vi k v=true->(∃i t,k=Sum.inl i/\v=Value.int i t)\/(∃x t,k=Sum.inr x/\v=Value.str x t)
 |.inl i,v,h=>by
  obtain⟨t,e⟩:=Value.isInt_shape h
  simp_all
 |.inr x,v,h=>by obtain⟨t,e⟩:=Value.isStrOf_shape h;exact .inr ⟨x,t,rfl,e⟩
theorem Ge(i:Int)(t:Tok):vi (.inl i) (.int i t)=true:=by simp[vi,Value.isInt]
theorem Gf(x:Str)(t:Tok):vi (.inr x) (.str x t)=true:=by simp[vi,Value.isStrOf]
theorem NG(a b:Int):decide ((Sum.inl a:Key)=Sum.inl b)=(a==b):=by
 grind
theorem NH(a b:Str):decide ((Sum.inr a:Key)=Sum.inr b)=decide (a=b):=by
 grind
theorem NI(a:Int)(b:Str):decide ((Sum.inl a:Key)=Sum.inr b)=false:=VR (λq=>nomatch q)
theorem NJ(a:Str)(b:Int):decide ((Sum.inr a:Key)=Sum.inl b)=false:=VR (λq=>nomatch q)
noncomputable def cj(prog:YN)(w:World):PySem.KeyKind prog w Key where
 is:=vi
 hash:=Sq w
 inj:=λv a b ha hb=>by
  rcases cq ha with⟨i,t,rfl,rfl⟩|⟨x,t,rfl,rfl⟩
  ·rcases cq hb with⟨j,u,rfl,e⟩|⟨y,u,rfl,e⟩
   ·injection e with e1 _;rw[e1]
   ·exact nomatch e
  ·rcases cq hb with⟨j,u,rfl,e⟩|⟨y,u,rfl,e⟩
   ·exact nomatch e
   ·injection e with e1 _;rw[e1]
 byValue:=λk v h=>by rcases cq h with⟨i,t,rfl,rfl⟩|⟨x,t,rfl,rfl⟩<;>rfl
 pyHash:=λhv h=>by
  rcases cq hv with⟨i,t,rfl,rfl⟩|⟨x,t,rfl,rfl⟩
  ·exact wpAny_pyHash_int h
  ·exact wpAny_pyHash_str h
 eqBool:=λhu hv h=>by
  rcases cq hu with⟨i,t,rfl,rfl⟩|⟨x,t,rfl,rfl⟩
  ·rcases cq hv with⟨j,u,rfl,rfl⟩|⟨y,u,rfl,rfl⟩
   ·rw[NG]at h;exact wpAny_eqBool_int h
   ·rw[NI]at h;exact SeqAt.EqAt.int_str i t y u _ _ _ _ h
  ·rcases cq hv with⟨j,u,rfl,rfl⟩|⟨y,u,rfl,rfl⟩
   ·rw[NJ]at h;exact SeqAt.EqAt.str_int x t j u _ _ _ _ h
   ·rw[NH]at h;exact wpAny_eqBool_str h
 «strs» := λk x t v h=>by
  rcases cq h with⟨i,u,rfl,e⟩|⟨y,u,rfl,e⟩
  ·exact nomatch e
  ·injection e with e1 _;subst e1;cases v<;>rfl
theorem AZ(prog:YN)(w:World)(i:Int)(t:Tok):(cj prog w).is (.inl i) (.int i t)=true:=Ge i t
theorem A0(prog:YN)(w:World)(x:Str)(t:Tok):(cj prog w).is (.inr x) (.str x t)=true:=Gf x t
inductive V where
 |non|bl (b:Bool)|int (i:Int)|str (x:Str)|byt (b:Array UInt8)|flt (b:UInt64)|ref (a:Addr)|ty (n:String)
 deriving DecidableEq
noncomputable def RelV:V->Value->Prop
 |.non,u=>u=Value.none
 |.bl b,u=>u=Value.bool b
 |.int i,u=>∃t,u=Value.int i t
 |.str x,u=>∃t,u=Value.str x t
 |.byt b,u=>∃t,u=Value.bytes b t
 |.flt b,u=>∃t,u=Value.float b t
 |.ref a,u=>u=Value.ref a
 |.ty n,u=>u=Value.type n
abbrev Vals:List V->YF->Prop:=Paired RelV
theorem Vals.length(r:Vals xs us):xs.length=us.length:=U3 r
theorem Vals.get:∀{xs:List V} {us:YF} {i:Nat} {x:V},Vals xs us->xs[i]?=some x->∃u,us[i]?=some u/\RelV x u
 |_,_,_,_,.nil,e=>by simp at e
 |_,_,0,_,.cons r _,e=>by grind
 |_,_,i+1,x,.cons _ t,e=>by
  obtain⟨u,h1,h2⟩:=Vals.get (i:=i) (x:=x) t (by simp_all)
  simp_all
theorem Vals.set(r:RelV x u):∀{xs:List V} {us:YF} (i:Nat),Vals xs us->Vals (xs.set i x) (us.set i u)
 |_,_,_,.nil=>.nil
 |_,_,0,.cons _ t=>.cons r t
 |_,_,i+1,.cons q t=>.cons q (Vals.set r i t)
theorem Vals.append:∀{xs ys:List V} {us ws:YF},Vals xs us->Vals ys ws->Vals (xs++ys) (us++ws)
 |_,_,_,_,.nil,s=>s
 |_,_,_,_,.cons r t,s=>.cons r (Vals.append t s)
theorem Vals.take:∀{xs:List V} {us:YF} (n:Nat),Vals xs us->Vals (xs.take n) (us.take n)
 |_,_,0,_=>.nil
 |_,_,_+1,.nil=>.nil
 |_,_,n+1,.cons r t=>.cons r (Vals.take n t)
theorem Vals.drop:∀{xs:List V} {us:YF} (n:Nat),Vals xs us->Vals (xs.drop n) (us.drop n)
 |_,_,0,r=>r
 |_,_,_+1,.nil=>.nil
 |_,_,n+1,.cons _ t=>Vals.drop n t
def vj:Option V->Option Value->Prop
 |some v,some u=>RelV v u
 |none,none=>True
 |_,_=>False
def KV{κ:Type}:List (κ×V)->List (κ×Value)->Prop:=Paired λ(p:κ×V) (q:κ×Value)=>p.1=q.1/\RelV p.2 q.2
def kV:Key->V
 |.inl i=>.int i
 |.inr x=>.str x
inductive HO where
 |lst (xs:List V)
 |tup (xs:List V)
 |dK (kvs:List (Key×V))|dT (kvs:List (List Key×V))
 |set (S:Int->Bool) (n:Nat)
 |ins (C dx:Addr) (fs:List (Str×V))
 |own (x:Addr)
 |xd (fs:List (Str×V))
 |met (f x:Addr)
 |rng (lo hi:Int)
 |frz (o:Obj) (u:HO)
 |tbl (ps:YL)
 |ext (φ:Heap->Prop)
abbrev Hp:=Addr->Option HO
def upd(H:Hp)(a:Addr)(o:HO):Hp:=λb=>if b=a then some o else H b
theorem bg:upd H a o a=some o:=by grind[upd]
theorem aM(h:b≠a):upd H a o b=H b:=by simp[upd,h]
theorem Qs{H:Hp}(h:H a=some o)(h':H b=some u)(d:o≠u):a≠b:=by
 grind
theorem aV{H:Hp}(h:H a=some o)(h':H b=none):a≠b:=by
 grind
section
variable (P:YN) (w:World)
noncomputable def cL(H:Hp)(h:Heap)(a:Addr):HO->Prop
 |.lst xs=>xs.length<=sizeLine/\∃(its:YF) (n:Nat),Vals xs its/\h.get? a=some {cls:=.type "list",data:=.seq its.toArray n}
 |.tup xs=>xs.length<=sizeLine/\∃its:YF,Vals xs its/\IsTup h a its.toArray
 |.dK kvs=>kvs.length<=sizeLine/\(a==sysModules)=false/\∃vs,KV kvs vs/\h.DictOf (cj P w) a vs
 |.dT kvs=>kvs.length<=sizeLine/\(a==sysModules)=false/\∃xs:List (List Key×Addr×Value),
   Paired (λ(p:List Key×V) (q:List Key×Addr×Value)=>p.1=q.1/\H q.2.1=some (.tup (p.1.map kV))/\RelV p.2 q.2.2) kvs xs /\
   ∃o es ep,h.get? a=some o/\o.ExactDict/\o.data=.dict es ep/\es.toList=xs.map (entryOfKey (tupleKind (cj P w)))/\(xs.map (·.1)).Nodup
 |.set S n=>h.SetOf (intKind P w) a S n
 |.ins C dx fs=>H dx=some (.own a)/\fs.length<=1000/\dx≠a/\h.get? a=some (PySem.W.instObj C dx) /\
   ∃mA,h.Ns1 dx mA/\(∀f,vj (fs.lookup f) (mA f))/\PySem.Within mA (fs.map (·.1))
 |.own _=>∃o,h.get? a=some o
 |.xd fs=>∃mA,h.Ns1 a mA/\∀f,vj (fs.lookup f) (mA f)
 |.rng lo hi=>∃t u v,h.get? a=some {cls:=.type "range",data:=.fields #[.int lo t,.int hi u,.int 1 v]}
 |.frz o u=>h.get? a=some o/\cL H h a u
 |.tbl ps=>h.get? a=some {cls:=.none,data:=.fields ps}
 |.met f x=>h.get? a=some (PySem.W.methodObj (.ref f) (.ref x))
 |.ext φ=>φ h/\(∃o,h.get? a=some o)/\∀h1 h2:Heap,φ h1->(∀o,h1.get? a=some o->h2.get? a=some o)->φ h2
def nZ(H:Hp)(h:Heap):Prop:=∀a o,H a=some o->cL P w H h a o
end
section
variable {P:YN} {w:World} {H H':Hp} {h h':Heap} {a:Addr} {o:HO}
theorem cL.lt(x:cL P w H h a o):a<h.objs.size:=by
 cases o with
 |lst xs=>obtain⟨_,_,_,_,e⟩:=x;exact UM e
 |tup xs=>obtain⟨_,_,_,p⟩:=x;exact p.lt
 |dK kvs=>obtain⟨_,_,_,_,o,_,_,e,_⟩:=x;exact UM e
 |dT kvs=>obtain⟨_,_,_,_,o,_,_,e,_⟩:=x;exact UM e
 |set S n=>obtain⟨o,_,_,_,e,_⟩:=x;exact UM e
 |ins C dx fs=>obtain⟨_,_,_,e,_⟩:=x;exact UM e
 |own y=>obtain⟨_,e⟩:=x;exact UM e
 |xd fs=>obtain⟨_,⟨_,_,_,e,_⟩,_⟩:=x;exact UM e
 |rng lo hi=>obtain⟨_,_,_,e⟩:=x;exact UM e
 |frz ob u=>obtain⟨e,_⟩:=x;exact UM e
 |tbl ps=>exact UM x
 |met f y=>exact UM x
 |ext φ=>obtain⟨_,⟨_,e⟩,_⟩:=x;exact UM e
theorem Paired.lB:∀{l₁:List α} {l₂:List β},Paired F l₁ l₂->(∀a b,F a b->G a b)->Paired G l₁ l₂
 |_,_,.nil,_=>.nil
 |_,_,.cons r t,f=>.cons (f _ _ r) (Paired.lB t f)
theorem cL.zh(x:cL P w H h a o)(k:∀b u,(b=a\/H b=some (.own a))->h.get? b=some u->h'.get? b=some u)
 (ho:∀b,H b=some (.own a)->H' b=some (.own a))(ht:∀b xs,H b=some (.tup xs)->H' b=some (.tup xs)):cL P w H' h' a o:=by
 induction o with
 |lst xs=>obtain⟨z,its,n,r,e⟩:=x;exact⟨z,its,n,r,k _ _ (.inl rfl) e⟩
 |tup xs=>obtain⟨z,its,r,ob,e,c⟩:=x;exact⟨z,its,r,ob,k _ _ (.inl rfl) e,c⟩
 |dK kvs=>obtain⟨z,y,vs,r,ob,es,ep,e,c⟩:=x;exact⟨z,y,vs,r,ob,es,ep,k _ _ (.inl rfl) e,c⟩
 |dT kvs=>obtain⟨z,y,xs,r,ob,es,ep,e,c⟩:=x;exact⟨z,y,xs,Paired.lB r λp q z=>⟨z.1,ht _ _ z.2.1,z.2.2⟩,ob,es,ep,k _ _ (.inl rfl) e,c⟩
 |set S n=>obtain⟨ob,es,ep,t,e,c⟩:=x;exact⟨ob,es,ep,t,k _ _ (.inl rfl) e,c⟩
 |ins C dx fs=>obtain⟨d,z,ne,e,mA,⟨od,es,ep,e2,c⟩,r⟩:=x;exact⟨ho _ d,z,ne,k _ _ (.inl rfl) e,mA,⟨od,es,ep,k _ _ (.inr d) e2,c⟩,r⟩
 |own y=>obtain⟨ob,e⟩:=x;exact⟨ob,k _ _ (.inl rfl) e⟩
 |xd fs=>obtain⟨mA,⟨od,es,ep,e,c⟩,r⟩:=x;exact⟨mA,⟨od,es,ep,k _ _ (.inl rfl) e,c⟩,r⟩
 |rng lo hi=>obtain⟨t,u,v,e⟩:=x;exact⟨t,u,v,k _ _ (.inl rfl) e⟩
 |frz ob u ih=>obtain⟨e,q⟩:=x;exact⟨k _ _ (.inl rfl) e,ih q⟩
 |tbl ps=>have e:h.get? a=some {cls:=.none,data:=.fields ps}:=x;show h'.get? a=some {cls:=.none,data:=.fields ps};exact k a _ (.inl rfl) e
 |met f y=>have e:h.get? a=some (PySem.W.methodObj (.ref f) (.ref y)):=x;show h'.get? a=some (PySem.W.methodObj (.ref f) (.ref y));exact k a _ (.inl rfl) e
 |ext φ=>obtain⟨p,⟨o,e⟩,st⟩:=x;exact⟨st _ _ p λo q=>k _ _ (.inl rfl) q,⟨o,k _ _ (.inl rfl) e⟩,st⟩
theorem nZ.lt(x:nZ P w H h)(e:H a=some o):a<h.objs.size:=(x a o e).lt
theorem nZ.fresh(x:nZ P w H h)(e:h.objs.size<=a):H a=none:=by
 cases q:H a with
 |none=>rfl
 |some u=>exact absurd (US (x.lt q) e) (Vk _)
theorem nZ.kept(x:nZ P w H h)(k:∀b u,h.get? b=some u->h'.get? b=some u):nZ P w H h':=λa o e=>
 (x a o e).zh (λb u _ q=>k b u q) (λ_ q=>q) λ_ _ q=>q
theorem nZ.laid(x:nZ P w H h)(k:∀b u,h.get? b=some u->h'.get? b=some u)(hp:h.objs.size<=a)(new:cL P w (upd H a o) h' a o):nZ P w (upd H a o) h':=λb u e=>by
 have hn:=x.fresh hp;by_cases hb:b=a
 ·grind[bg]
 ·rw[aM hb]at e;exact(x b u e).zh (λc v _ q=>k c v q) (λc q=>by rw[aM (aV q hn)];exact q) λc xs q=>by rw[aM (aV q hn)];exact q
end
def Rd(H:Hp)(a:Addr)(u:HO):Prop:=H a=some u\/∃o,H a=some (.frz o u)
theorem Rd.ok(r:Rd H a u)(x:nZ P w H h):cL P w H h a u:=by
 rcases r with r|⟨o,r⟩
 ·exact x a u r
 ·obtain⟨_,q⟩:=x a _ r;exact q
def Qf:Option HO->Prop
 |some (.lst _)=>True
 |some (.dK _)=>True
 |some (.dT _)=>True
 |some (.set _ _)=>True
 |some (.ins _ _ _)=>True
 |some (.ext _)=>True
 |_=>False
section
variable {P:YN} {w:World} {H:Hp} {h h':Heap} {x e:Addr} {o':HO}
theorem nZ.write(ok:nZ P w H h)(mu:Qf (H x))(he:e=x\/H e=some (.own x))(k:∀b u,b≠e->h.get? b=some u->h'.get? b=some u)(heo:∃u,h'.get? e=some u)
 (new:cL P w (upd H x o') h' x o'):nZ P w (upd H x o') h':=λb u q=>by
 have nown:∀c y,H c=some (.own y)->c≠x:=λc y r z=>by subst z;rw[r]at mu;exact mu
 have ntup:∀c xs,H c=some (.tup xs)->c≠x:=λc xs r z=>by subst z;rw[r]at mu;exact mu
 by_cases hb:b=x
 ·grind[bg]
 ·rw[aM hb]at q;by_cases hbe:b=e
  ·have q':H b=some (.own x):=by
    rcases he with z|z
    ·exact absurd (hbe.trans z) hb
    ·rw[hbe];exact z
   rw[q]at q';cases q';obtain⟨v,hv⟩:=heo;exact⟨v,by rw[hbe];exact hv⟩
  ·refine(ok b u q).zh (λc v hc r=>k c v ?_ r) (λc r=>by rw[aM (nown c b r)];exact r) λc xs r=>by rw[aM (ntup c xs r)];exact r
   rcases hc with rfl|hc
   ·exact hbe
   ·rintro rfl;rcases he with z|z
    ·exact nown c b hc z
    ·rw[hc]at z;cases z;exact hb rfl
end
structure Un(fs ex:YE)(H H':Hp)(h h':Heap):Prop where
 keep:∀b o,h.get? b=some o->H b=none->b∉fs->b∉ex->h'.get? b=some o
 slot:∀b o,h.get? b=some o->H b=none->b∈fs->b∉ex->∃sl,h'.get? b=some {o with slots:=sl}
 free:∀b o,h.get? b=some o->H b=none->b∉ex->H' b=none
 there:∀b o,h.get? b=some o->b∉ex->∃o',h'.get? b=some o'
 tups:∀b xs,H b=some (.tup xs)->H' b=some (.tup xs)
 frzs:∀b o u,H b=some (.frz o u)->H' b=some (.frz o u)
 tbls:∀b ps,H b=some (.tbl ps)->∃more,H' b=some (.tbl (ps++more))
section
variable {fs fs' ex ex':YE} {H H1 H2:Hp} {h h1 h2 h':Heap} {a x e:Addr} {o:HO}
theorem Un.any(u:Un fs ex H H1 h h1)(q:h.get? b=some ob)(n:H b=none)(hx:b∉ex):∃sl,h1.get? b=some {ob with slots:=sl}:=by
 by_cases hb:b∈fs
 ·exact u.slot b ob q n hb hx
 ·exact⟨ob.slots,u.keep b ob q n hb hx⟩
theorem Un.kept(k:∀b u,h.get? b=some u->h'.get? b=some u):Un fs ex H H h h':=
 ⟨λb ob q _ _ _=>k b ob q,λb ob q _ _ _=>⟨ob.slots,k b ob q⟩,λ_ _ _ n _=>n,λb ob q _=>⟨ob,k b ob q⟩,λ_ _ q=>q,λ_ _ _ q=>q,λ_ ps q=>⟨#[],by grind⟩⟩
theorem Un.refl:Un fs ex H H h h:=Un.kept λ_ _ q=>q
theorem Un.laid(k:∀b u,h.get? b=some u->h'.get? b=some u)(hp:h.objs.size<=a)(hn:H a=none):Un fs ex H (upd H a o) h h' where
 keep:=λb u q _ _ _=>k b u q
 slot:=λb u q _ _ _=>⟨u.slots,k b u q⟩
 free:=λb u q n _=>by rw[aM (UT (US (UM q) hp))];exact n
 there:=λb u q _=>⟨u,k b u q⟩
 tups:=λb xs q=>by rw[aM (aV q hn)];exact q
 frzs:=λb u xs q=>by rw[aM (aV q hn)];exact q
 tbls:=λb ps q=>⟨#[],by rw[aM (aV q hn),q];simp⟩
theorem Un.write(mu:Qf (H x))(he:e=x\/H e=some (.own x))(k:∀b u,b≠e->h.get? b=some u->h'.get? b=some u)(heo:∃u,h'.get? e=some u):Un fs ex H (upd H x o) h h':=by
 have hx:∀b,H b=none->b≠x:=λb n z=>by subst z;rw[n]at mu;exact mu
 have hb:∀b,H b=none->b≠e:=λb n z=>by
  grind
 have hm:∀b u,H b=some u->¬ Qf (some u)->b≠x:=λb u q nm z=>by grind
 refine⟨λb u q n _ _=>k b u (hb b n) q,λb u q n _ _=>⟨u.slots,k b u (hb b n) q⟩,λb u q n _=>by rw[aM (hx b n)];exact n,λb u q _=>?_,
  λb xs q=>by rw[aM (hm b _ q λz=>z)];exact q,λb u xs q=>by rw[aM (hm b _ q λz=>z)];exact q,λb ps q=>⟨#[],by rw[aM (hm b _ q λz=>z),q];simp⟩⟩
 grind
end
def Ho(h:Heap)(H:Hp):YE:=(List.range h.objs.size).filter λa=>(H a).isSome
def zi(h:Heap)(H:Hp):Heap:=PySem.W.hideAll h (Ho h H)
theorem Gg(h:Heap)(H:Hp):(zi h H).objs.size=h.objs.size:=PySem.W.hideAll_size _ _
theorem Hq(e:h.get? b=some o)(n:H b=none):(zi h H).get? b=some o:=
 PySem.W.hideAll_get _ e λhm=>by
  have q  := (U0.mp hm).2
  grind
theorem KI(e:(zi h H).get? b=some o):h.get? b=some o/\H b=none:=by
 have e'  := PySem.W.of_hideAll _ e;refine⟨e',?_⟩
 cases q:H b with
 |none=>rfl
 |some x=>
  have hm:b∈Ho h H:=U0.mpr ⟨Vm.mpr (UM e'),by simp[q]⟩;have z:(zi h H).get? b=none:=PySem.W.hideAll_none _ hm
  grind
def KJ(g h:Heap)(L:Addr):Yz:=(List.range h.objs.size).filterMap λa=>if a=L\/(g.get? a).isSome=true then none else(h.get? a).map λo=>(a,o)
def rest(g h:Heap)(L d:Addr):Yz:=(KJ g h L).filter λp=>decide (p.1≠d)
structure Mod(K:YG)(mg:YC)(base:Heap):Prop where
 kin:K.In base
 glob:base.Ns mainGlobals mg
 blt:∃mb,base.Ns builtinsNs mb/\∀x:Str,x ≠ "__name__" -> mb x=bootBuiltins x
 nolimit:base.NoLimit
structure Cx where
 prog:YN
 w:World
 K:YG
 mg:Str->Option Value
 base:Heap
 A:YQ
 N:YH
 s₀:YR
 H₀:Hp
 env:Env
 outer:List Env
 stack:List Env
 ex:YE
 fn:Str->Bool
 calm:Bool
 pn:Yz
 xe:Yy
def AX(l:List Env):YE:=l.filterMap (·.frame)
abbrev Cx.fs(X:Cx):YE:=AX X.outer
def Hr(sc:Scope)(x:Str):Prop:=sc.names.lookup x=some .local\/sc.names.lookup x=some .cell\/sc.names.lookup x=some .free
def Loc(sc:Scope)(x:Str):Prop:=sc.names.lookup x=some .local\/sc.names.lookup x=some .cell
def Look(env:Env)(h:Heap)(m:YC)(x:Str)(u:Value):Prop:=
 (env.kindOf x=some .local/\m x=some u)\/((env.kindOf x=some .cell\/env.kindOf x=some .free)/\∃c,env.cells.lookup x=some c/\h.IsCell c (some u))
structure Cx.Ok(X:Cx):Prop where
 mod:Mod X.K X.mg X.base
 kind:X.env.scope.kind=.function
 glob:X.env.globals=mainGlobals
 blt:X.env.builtins=builtinsNs
 above:X.s₀.heap.objs.size<=X.env.locals
 inj:∀x y c,X.env.cells.lookup x=some c->X.env.cells.lookup y=some c->x=y
 has:∀x,(X.env.kindOf x=some .cell\/X.env.kindOf x=some .free)->∃c,X.env.cells.lookup x=some c
 cab:∀x c,X.fn x=true->X.env.cells.lookup x=some c->X.s₀.heap.objs.size<=c
 hd:X.calm=true->X.A.handled=none
 frames:X.A.frames=some X.stack
 stk:X.stack=X.outer\/(X.stack=X.env::X.outer/\X.env.frame=some X.env.locals)
 exf:∀b∈X.ex,b≠X.env.locals/\∀x c,X.env.cells.lookup x=some c->c≠b
 bs:∀b o,X.base.get? b=some o->X.s₀.heap.get? b=some o/\X.H₀ b=none
 bsz:X.base.objs.size<=X.s₀.heap.objs.size
 noex:∀b o,X.base.get? b=some o->b∉X.ex
 exfs:∀b∈X.ex,b∉X.fs
 qj:X.s₀.heap.FunFrames X.base X.outer
 frf:∀b∈X.fs,X.H₀ b=none
structure Inv(X:Cx)(pins:Yz)(σ:List (Option V))(H:Hp)(s:YR):Prop where
 ok:X.Ok
 os:s.os=X.s₀.os
 bare:AllBare s.gens
 base:Un X.fs X.ex X.H₀ H X.s₀.heap s.heap
 loc:∃m,s.heap.Ns X.env.locals m/\∀(i:Nat) (x:Str) (v:V),X.N[i]?=some x->σ[i]?=some (some v)->Hr X.env.scope x->∃u,RelV v u/\Look X.env s.heap m x u
 cell:∀x c,X.env.cells.lookup x=some c->∃v,s.heap.IsCell c v
 free:H X.env.locals=none
 freeC:∀x c,X.env.cells.lookup x=some c->H c=none
 pin:∀p∈X.pn++pins,s.heap.get? p.1=some p.2/\H p.1=none/\p.1≠X.env.locals/\p.1∉X.fs/\∀v,p.2.data≠.cell v
 hok:nZ X.prog X.w H s.heap
 len:σ.length=X.N.length
section
variable {X:Cx} {pins:Yz} {σ:List (Option V)} {H H':Hp} {s:YR} {h':Heap}
theorem Cx.Ok.Sr(ok:X.Ok)(e:X.base.get? b=some o):b∉X.fs:=λhb=>by
 have:=(ok.qj.mem hb).1
 grind
theorem Inv.bs(I:Inv X pins σ H s):∀b o,X.base.get? b=some o->s.heap.get? b=some o/\H b=none:=λb o e=>
 ⟨I.base.keep b o (I.ok.bs b o e).1 (I.ok.bs b o e).2 (I.ok.Sr e) (I.ok.noex b o e),I.base.free b o (I.ok.bs b o e).1 (I.ok.bs b o e).2 (I.ok.noex b o e)⟩
theorem Inv.bk(I:Inv X pins σ H s):∀b o,X.base.get? b=some o->s.heap.get? b=some o:=λb o e=>(I.bs b o e).1
theorem Inv.mod(I:Inv X pins σ H s):Mod X.K X.mg X.base:=I.ok.mod
theorem Inv.vk(I:Inv X pins σ H s):X.K.In s.heap:=I.ok.mod.kin.keeps I.bk
theorem Inv.lt(I:Inv X pins σ H s):X.env.locals<#[2]:=by obtain⟨_,hn,_⟩:=I.loc;exact hn.lt
theorem Inv.sz(I:Inv X pins σ H s):X.s₀.heap.objs.size<=#[2]:=UO I.ok.above (Xp I.lt)
theorem Inv.NK(I:Inv X pins σ H s){a:Addr}(h:#[2]<=a):a∉X.fs:=λhb=>by obtain⟨_,o,ho,_⟩:=I.ok.qj.mem hb;exact absurd (US (UM ho) (UO I.sz h)) (Vk _)
theorem Inv.NL(I:Inv X pins σ H s):∀x c,X.env.cells.lookup x=some c->c≠X.env.locals:=λx c e z=>by
 obtain⟨v,o,ho,hd⟩:=I.cell x c e;obtain⟨m,⟨o',es,ep,ho',hd',_⟩,_⟩:=I.loc
 grind
theorem Inv.qj(I:Inv X pins σ H s):s.heap.FunFrames X.base X.outer:=by
 have all:∀(l:List Env),(∀b∈AX l,b∈X.fs)->X.s₀.heap.FunFrames X.base l->s.heap.FunFrames X.base l:=by
  intro l
  induction l with
  |nil=>intro _ _;trivial
  |cons env r ih=>intro hs hl;obtain⟨hk,⟨L,o,hf,hn,ho,hd⟩,hr⟩:=hl;have hL  := hs L (by simp_all[AX]);obtain⟨sl,e⟩:=I.base.slot L o ho (I.ok.frf L hL) hL λz=>I.ok.exfs L z hL;exact⟨hk,⟨L,_,hf,hn,e,hd⟩,ih (λb hb=>hs b (by simp_all[AX])) hr⟩
 exact all X.outer (λ_ hb=>hb) I.ok.qj
theorem Inv.stack(I:Inv X pins σ H s):s.heap.FunFrames X.base X.stack:=by
 rcases I.ok.stk with e|⟨e,hf⟩
 ·rw[e];exact I.qj
 ·rw[e];obtain⟨m,hn,_⟩:=I.loc;refine .cons (by grind[I.ok.kind]) hf hn ?_ I.qj;exact Heap.get?_none_of_le (UO I.ok.bsz I.ok.above)
theorem Inv.rT(I:Inv X pins σ H s):∀b∈AX X.stack,b∈X.env.locals::X.fs:=λb hb=>by
 rcases I.ok.stk with e|⟨e,hf⟩
 ·grind
 simp_all[AX]
theorem Inv.EI(I:Inv X pins σ H s):∀b∈AX X.stack,H b=none:=λb hb=>by
 rcases UP.mp (I.rT b hb)with e|hb
 ·rw[e];exact I.free
 ·obtain⟨_,o,ho,_⟩:=I.ok.qj.mem hb;exact I.base.free b o ho (I.ok.frf b hb) λz=>I.ok.exfs b z hb
theorem Inv.step{ch:YE}(I:Inv X pins σ H s)
 (hch:∀b∈ch,(b∈X.ex\/X.s₀.heap.objs.size<=b)/\b≠X.env.locals/\(∀x c,X.env.cells.lookup x=some c->c≠b)/\∀p∈X.pn++pins,p.1≠b)
 (keep:∀b o,b≠X.env.locals->b∉X.fs->b∉ch->s.heap.get? b=some o->H b=none->h'.get? b=some o)
 (slot:∀b o,b≠X.env.locals->b∈X.fs->b∉ch->s.heap.get? b=some o->H b=none->∃sl,h'.get? b=some {o with slots:=sl})(free:∀b o,b∉ch->s.heap.get? b=some o->H b=none->H' b=none)
 (there:∀b o,b∉ch->s.heap.get? b=some o->∃o',h'.get? b=some o')
 (tups:∀b xs,H b=some (.tup xs)->H' b=some (.tup xs))(frzs:∀b o u,H b=some (.frz o u)->H' b=some (.frz o u))(tbls:∀b ps,H b=some (.tbl ps)->∃more,H' b=some (.tbl (ps++more)))
 (ns:∀m,s.heap.Ns X.env.locals m->h'.Ns X.env.locals m)(hok:nZ X.prog X.w H' h')(hg:AllBare g') :
  Inv X pins σ H' {s with heap:=h',gens:=g',drawn:=d',toks:=t'}:=by
 have neL:∀b o,X.s₀.heap.get? b=some o->b≠X.env.locals:=λb o e=>UT (US (UM e) I.ok.above)
 have neC:∀b o,X.s₀.heap.get? b=some o->b∉X.ex->b∉ch:=λb o e hx hb=>by
  rcases(hch b hb).1 with z|z
  ·exact hx z
  ·exact absurd (US (UM e) z) (Vk _)
 have cellK:∀x c,X.env.cells.lookup x=some c->∀v,s.heap.IsCell c v->h'.IsCell c v:=by
  rintro x c e v ⟨o,ho,hd⟩;have nch:c∉ch:=λz=>(hch c z).2.2.1 x c e rfl;by_cases hc:c∈X.fs
  ·obtain⟨sl,q⟩:=slot c o (I.NL x c e) hc nch ho (I.freeC x c e);exact⟨_,q,hd⟩
  ·exact⟨o,keep c o (I.NL x c e) hc nch ho (I.freeC x c e),hd⟩
 refine⟨I.ok,I.os,hg,⟨λb o e n hb hx=>?_,λb o e n hb hx=>?_,λb o e n hx=>?_,λb o e hx=>?_,λb xs e=>tups b xs (I.base.tups b xs e),λb o xs e=>frzs b o xs (I.base.frzs b o xs e),λb ps e=>?_⟩,?_,λx c e=>?_,?_,λx c e=>?_,λp hp=>?_,hok,I.len⟩
 ·exact keep b o (neL b o e) hb (neC b o e hx) (I.base.keep b o e n hb hx) (I.base.free b o e n hx)
 ·obtain⟨sl,e1⟩:=I.base.slot b o e n hb hx;obtain⟨sl',e2⟩:=slot b _ (neL b o e) hb (neC b o e hx) e1 (I.base.free b o e n hx);exact⟨sl',e2⟩
 ·obtain⟨o',e1⟩:=I.base.there b o e hx;exact free b o' (neC b o e hx) e1 (I.base.free b o e n hx)
 ·obtain⟨o',e1⟩:=I.base.there b o e hx;exact there b o' (neC b o e hx) e1
 ·obtain⟨m1,e1⟩:=I.base.tbls b ps e;obtain⟨m2,e2⟩:=tbls b _ e1;exact⟨m1++m2,by rw[e2,Array.append_assoc]⟩
 ·obtain⟨m,hn,hl⟩:=I.loc;refine⟨m,ns m hn,λi x v e1 e2 e3=>?_⟩;obtain⟨u,r,l⟩:=hl i x v e1 e2 e3;refine⟨u,r,?_⟩;rcases l with l|⟨k,c,e,z⟩
  ·exact .inl l
  ·exact .inr ⟨k,c,e,cellK x c e _ z⟩
 ·obtain⟨v,z⟩:=I.cell x c e;exact⟨v,cellK x c e v z⟩
 ·obtain⟨m,⟨o,_,_,ho,_⟩,_⟩:=I.loc;exact free _ o (λz=>(hch _ z).2.1 rfl) ho I.free
 ·obtain⟨v,o,ho,hd⟩:=I.cell x c e;exact free c o (λz=>(hch c z).2.2.1 x c e rfl) ho (I.freeC x c e)
 ·obtain⟨e,n,ne,nf,d⟩:=I.pin p hp;have nch:p.1∉ch:=λz=>(hch p.1 z).2.2.2 p hp rfl;exact⟨keep p.1 p.2 ne nf nch e n,free p.1 p.2 nch e n,ne,nf,d⟩
theorem Inv.un(I:Inv X pins σ H s)(u:Un X.fs [] H H' s.heap h')(hok:nZ X.prog X.w H' h'):Inv X pins σ H' {s with heap:=h',toks:=t'}:=by
 obtain⟨m,⟨o,es,ep,ho,r⟩,_⟩:=id I.loc;obtain⟨sl,hL⟩:=u.any ho I.free (by simp)
 exact I.step (ch:=[]) (λ_ z=>nomatch z) (λb o _ hb _ e n=>u.keep b o e n hb (by simp)) (λb o _ hb _ e n=>u.slot b o e n hb (by simp)) (λb o _ e n=>u.free b o e n (by simp)) (λb o _ e=>u.there b o e (by simp)) u.tups u.frzs u.tbls (λm' hm=>by
  obtain⟨o',es',ep',ho',r'⟩:=hm;rw[ho]at ho';cases ho'
  exact⟨_,es',ep',hL,r'⟩) hok I.bare
theorem Inv.call(I:Inv X pins σ H s)(u:Un (AX X.stack) ch H H' s.heap h')(hok:nZ X.prog X.w H' h')(hg:AllBare g')
 (hch:∀b∈ch,(b∈X.ex\/X.s₀.heap.objs.size<=b)/\b≠X.env.locals/\(∀x c,X.env.cells.lookup x=some c->c≠b)/\∀p∈X.pn++pins,p.1≠b) :
  Inv X pins σ H' {s with heap:=h',gens:=g',drawn:=d',toks:=t'}:=by
 obtain⟨m,⟨o,es,ep,ho,r⟩,_⟩:=id I.loc;obtain⟨sl,hL⟩:=u.any ho I.free λz=>(hch _ z).2.1 rfl
 exact I.step hch (λb o hL hb hc e n=>u.keep b o e n (λz=>(UP.mp (I.rT b z)).elim hL hb) hc) (λb o _ _ hc e n=>u.any e n hc) (λb o hc e n=>u.free b o e n hc) (λb o hc e=>u.there b o e hc) u.tups u.frzs u.tbls (λm' hm=>by
  obtain⟨o',es',ep',ho',r'⟩:=hm;rw[ho]at ho';cases ho'
  exact⟨_,es',ep',hL,r'⟩) hok hg
theorem Inv.turned(I:Inv X pins σ H s)(k:∀b o,b≠it->s.heap.get? b=some o->h'.get? b=some o)(hn:H it=none)(hL:it≠X.env.locals)
 (h1:it∈X.ex\/X.s₀.heap.objs.size<=it)(h2:∀x c,X.env.cells.lookup x=some c->c≠it)(h3:∀p∈X.pn++pins,p.1≠it):Inv X pins σ H {s with heap:=h',toks:=t'}:=by
 have nit:∀b u,H b=some u->b≠it:=λb u e z=>by grind
 refine I.step (g':=s.gens) (d':=s.drawn) (ch:=[it]) (λb hb=>?_) (λb o _ _ hc e _=>k b o (λz=>hc (by simp[z])) e) (λb o _ _ hc e _=>⟨o.slots,k b o (λz=>hc (by simp[z])) e⟩) (λ_ _ _ _ n=>n)
  (λb o hc e=>⟨o,k b o (λz=>hc (by simp[z])) e⟩) (λ_ _ e=>e) (λ_ _ _ e=>e) (λb ps e=>⟨#[],by grind⟩) (λm hm=>?_) (λb u e=>?_) I.bare
 ·have e:b=it:=by grind
  subst e;exact⟨h1,hL,h2,h3⟩
 ·obtain⟨o,es,ep,ho,r⟩:=hm;exact⟨o,es,ep,k _ o (Xv hL) ho,r⟩
 ·refine(I.hok b u e).zh (λc v hc q=>k c v ?_ q) (λ_ q=>q) λ_ _ q=>q
  grind
theorem Inv.tok(I:Inv X pins σ H s)(t:Nat):Inv X pins σ H {s with toks:=t}:=I.un (h':=s.heap) (t':=t) Un.refl I.hok
theorem Inv.kept(I:Inv X pins σ H s)(k:∀b u,s.heap.get? b=some u->h'.get? b=some u):Inv X pins σ H {s with heap:=h',toks:=t'}:=I.un (Un.kept k) (I.hok.kept k)
theorem Inv.laid{a:Addr}(I:Inv X pins σ H s)(k:∀b u,s.heap.get? b=some u->h'.get? b=some u)(hp:#[2]<=a)(new:cL X.prog X.w (upd H a o) h' a o) :
  Inv X pins σ (upd H a o) {s with heap:=h',toks:=t'}:=I.un (Un.laid k hp (I.hok.fresh hp)) (I.hok.laid k hp new)
theorem Inv.write(I:Inv X pins σ H s)(mu:Qf (H x))(he:e=x\/H e=some (.own x))(k:∀b u,b≠e->s.heap.get? b=some u->h'.get? b=some u)(heo:∃u,h'.get? e=some u)
 (new:cL X.prog X.w (upd H x o) h' x o):Inv X pins σ (upd H x o) {s with heap:=h',toks:=t'}:=I.un (Un.write mu he k heo) (I.hok.write mu he k heo new)
theorem Inv.gQ(I:Inv X pins σ H s)(h:∀p∈pins',s.heap.get? p.1=some p.2/\H p.1=none/\p.1≠X.env.locals/\p.1∉X.fs/\∀v,p.2.data≠.cell v):Inv X pins' σ H s:=
 ⟨I.ok,I.os,I.bare,I.base,I.loc,I.cell,I.free,I.freeC,λp hp=>(UR.mp hp).elim (λz=>I.pin p (U4 _ z)) (h p),I.hok,I.len⟩
theorem A1{N:YH}(hN:N.Nodup){i j:Nat}(a:N[i]?=some x)(b:N[j]?=some x):i=j:=by obtain⟨h1,e1⟩:=UN.mp a;obtain⟨h2,e2⟩:=UN.mp b;exact(List.getElem_inj hN).mp (e1.trans e2.symm)
theorem n5(I:Inv X pins σ H s)(hN:X.N.Nodup)(hi:X.N[i]?=some x)(hx:Loc X.env.scope x)(r:RelV v u)
 (h:∀s',Inv X pins (σ.set i (some v)) H s'->(∃a,Heap.SameBut a s.heap s'.heap/\(a=X.env.locals\/X.env.cells.lookup x=some a))->Q () s')(hf:X.fn x=true\/X.env.scope.names.lookup x=some .local:=by first|exact .inl rfl|exact .inr rfl|assumption):wpAny M A (storeName X.env x u) Q E s:=by
 obtain⟨m,hn,hl⟩:=id I.loc;have hcls:(X.env.scope.kind == .class || (X.env.scope.kind == .module&&X.env.locals != X.env.globals))=false:=by rw[I.ok.kind];rfl
 have hiσ:i<σ.length:=by grind[I.len]
 have NL:=I.NL
 have tracked:∀{a:Addr} {h':Heap},(∃o,s.heap.get? a=some o/\H a=none)->Heap.SameBut a s.heap h'->nZ X.prog X.w H h':=λ{a h'} ha hs b ob e=>by
  obtain⟨_,_,hfree⟩:=ha;refine(I.hok b ob e).zh (λc w' hc q=>(hs.2 c ?_).trans q) (λ_ q=>q) λ_ _ q=>q;rintro rfl;rcases hc with rfl|hc
  ·rw[hfree]at e;cases e
  ·rw[hfree]at hc;cases hc
 rcases hx with hk|hk
 ·refine wpAny_storeName_local hk hn (λh' hn' hs=>?_) hcls;obtain⟨oL,_,_,hoL,_⟩:=id hn;refine h _ ⟨I.ok,I.os,I.bare,⟨λb o e n hb hx=>?_,λb o e n hb hx=>?_,I.base.free,λb o e hx=>?_,I.base.tups,I.base.frzs,I.base.tbls⟩,⟨_,hn',λj y v' e1 e2 e3=>?_⟩,λy c e=>?_,I.free,I.freeC,λp hp=>?_,tracked ⟨oL,hoL,I.free⟩ hs,by simpa using I.len⟩ ⟨_,hs,.inl rfl⟩
  ·exact(hs.2 b (UT (US (UM e) I.ok.above))).trans (I.base.keep b o e n hb hx)
  ·obtain⟨sl,e1⟩:=I.base.slot b o e n hb hx;exact⟨sl,(hs.2 b (UT (US (UM e) I.ok.above))).trans e1⟩
  ·obtain⟨o',e1⟩:=I.base.there b o e hx;exact⟨o',(hs.2 b (UT (US (UM e) I.ok.above))).trans e1⟩
  ·by_cases hj:j=i
   ·subst hj;rw[hi]at e1;cases e1;rw[Wr hiσ]at e2;cases e2;exact⟨u,r,.inl ⟨hk,by simp⟩⟩
   ·rw[Xh (Xv hj)]at e2;obtain⟨u',r',q⟩:=hl j y v' e1 e2 e3;refine⟨u',r',?_⟩;rcases q with⟨k,e⟩|⟨k,c,e,z⟩
    ·refine .inl ⟨k,?_⟩;have:y≠x:=λe=>hj (A1 hN e1 (e▸hi));simp[this,e]
    ·exact .inr ⟨k,c,e,z.sameBut hs (NL y c e)⟩
  ·obtain⟨w',z⟩:=I.cell y c e;exact⟨w',z.sameBut hs (NL y c e)⟩
  ·obtain⟨e,n,ne,nf,d⟩:=I.pin p hp;exact⟨(hs.2 p.1 ne).trans e,n,ne,nf,d⟩
 ·have hfn:X.fn x=true:=by
   rcases hf with z|z
   ·exact z
   ·rw[z]at hk;cases hk
  obtain⟨c,hc⟩:=I.ok.has x (.inl hk);obtain⟨w',z⟩:=I.cell x c hc;refine wpAny_storeName_cell I.ok.kind hk hc z (λh' hc' hs=>?_);obtain⟨oc,hoc,hocd⟩:=id z;refine h {s with heap:=h'} ⟨I.ok,I.os,I.bare,⟨λb o e n hb hx=>?_,λb o e n hb hx=>?_,I.base.free,λb o e hx=>?_,I.base.tups,I.base.frzs,I.base.tbls⟩,⟨m,hn.sameBut hs (Xv (NL x c hc)),λj y v' e1 e2 e3=>?_⟩,λy c' e=>?_,I.free,I.freeC,λp hp=>?_,tracked ⟨oc,hoc,I.freeC x c hc⟩ hs,by simpa using I.len⟩ ⟨c,hs,.inr hc⟩
  ·exact(hs.2 b (UT (US (UM e) (I.ok.cab x c hfn hc)))).trans (I.base.keep b o e n hb hx)
  ·obtain⟨sl,e1⟩:=I.base.slot b o e n hb hx;exact⟨sl,(hs.2 b (UT (US (UM e) (I.ok.cab x c hfn hc)))).trans e1⟩
  ·obtain⟨o',e1⟩:=I.base.there b o e hx;exact⟨o',(hs.2 b (UT (US (UM e) (I.ok.cab x c hfn hc)))).trans e1⟩
  ·by_cases hj:j=i
   ·subst hj;rw[hi]at e1;cases e1;rw[Wr hiσ]at e2;cases e2;exact⟨u,r,.inr ⟨.inl hk,c,hc,hc'⟩⟩
   ·rw[Xh (Xv hj)]at e2;obtain⟨u',r',q⟩:=hl j y v' e1 e2 e3;refine⟨u',r',?_⟩;rcases q with q|⟨k,c',e,z'⟩
    ·exact .inl q
    ·refine .inr ⟨k,c',e,z'.sameBut hs ?_⟩;rintro rfl;exact hj (A1 hN e1 (I.ok.inj _ _ _ e hc▸hi))
  ·by_cases hcc:c'=c
   ·subst hcc;exact⟨_,hc'⟩
   ·obtain⟨w2,z2⟩:=I.cell y c' e;exact⟨w2,z2.sameBut hs hcc⟩
  ·obtain⟨e,n,ne,nf,d⟩:=I.pin p hp;refine⟨(hs.2 p.1 ?_).trans e,n,ne,nf,d⟩;intro q;rw[q,hoc]at e;have q':oc=p.2:=VZ e;exact d w' (by rw[<- q'];exact hocd)
theorem hZ(I:Inv X pins σ H s)(hN:X.N.Nodup)(hi:X.N[i]?=some x)(hx:Loc X.env.scope x)(r:RelV v u)
 (h:∀s',Inv X pins (σ.set i (some v)) H s'->Q () s')(hf:X.fn x=true\/X.env.scope.names.lookup x=some .local:=by first|exact .inl rfl|exact .inr rfl|assumption):wpAny M A (storeName X.env x u) Q E s:=
 n5 I hN hi hx r (λs' I' _=>h s' I') hf
theorem Inv.M1(I:Inv X pins σ H s)(ho:s'.os=s.os)(u:Un (AX X.stack) ch H H' s.heap s'.heap)(hok:nZ X.prog X.w H' s'.heap)(hg:AllBare s'.gens)
 (hch:∀b∈ch,(b∈X.ex\/X.s₀.heap.objs.size<=b)/\b≠X.env.locals/\(∀x c,X.env.cells.lookup x=some c->c≠b)/\∀p∈X.pn++pins,p.1≠b):Inv X pins σ H' s':=by
 obtain⟨h',g',d',t',o'⟩:=s';have e  := ho;subst e;exact I.call u hok hg hch
end
abbrev XK:=Value->Option Addr->Hp->Prop
abbrev St:=List (Option V)
abbrev VK:=V->Hp->Prop
abbrev TE:=St->Hp->VK->Prop
abbrev TT:=St->Hp->(Bool->Hp->Prop)->Prop
abbrev TA:=St->Hp->(List V->Hp->Prop)->Prop
structure Ends where
 nx:St->Hp->Prop
 rt:VK
 bk:St->Hp->Prop:=λ_ _=>False
 ct:St->Hp->Prop:=λ_ _=>False
abbrev TS:=Ends->St->Hp->Prop
def EP(X:Cx)(pins:Yz)(σ:St)(Q:VK)(u:Value)(s':YR):Prop:=∃v H',Inv X pins σ H' s'/\RelV v u/\Q v H'
def TP(X:Cx)(pins:Yz)(σ:St)(Q:Bool->Hp->Prop)(b:Bool)(s':YR):Prop:=∃H',Inv X pins σ H' s'/\Q b H'
def AP(X:Cx)(pins:Yz)(σ:St)(Q:List V->Hp->Prop)(us:YF)(s':YR):Prop:=∃vs H',Inv X pins σ H' s'/\Vals vs us/\Q vs H'
noncomputable def SP(X:Cx)(pins:Yz)(D:Ends)(f:Flow)(s':YR):Prop:=
 match f with
 |.next=>∃σ' H',Inv X pins σ' H' s'/\D.nx σ' H'
 |.brk=>∃σ' H',Inv X pins σ' H' s'/\D.bk σ' H'
 |.cont=>∃σ' H',Inv X pins σ' H' s'/\D.ct σ' H'
 |.ret u=>∃v σ' H',Inv X pins σ' H' s'/\RelV v u/\D.rt v H'
def PE(X:Cx)(e:Expr)(t:TE):Prop:=
 ∀(pins:Yz) (s:YR) (σ:St) (H:Hp) (Q:VK),Inv X pins σ H s->t σ H Q->wpAny (model X.prog X.w) X.A (eval e X.env) (EP X pins σ Q) X.xe s
def PT(X:Cx)(e:Expr)(t:TT):Prop:=
 ∀(pins:Yz) (s:YR) (σ:St) (H:Hp) (Q:Bool->Hp->Prop),Inv X pins σ H s->t σ H Q->wpAny (model X.prog X.w) X.A (isTrue e X.env (eval e X.env)) (TP X pins σ Q) X.xe s
def PW(X:Cx)(e:Expr)(t:TT):Prop:=
 ∀(whole:Sem Value) (pins:Yz) (s:YR) (σ:St) (H:Hp) (Q:Bool->Hp->Prop),Inv X pins σ H s->t σ H Q->wpAny (model X.prog X.w) X.A (isTrue e X.env whole) (TP X pins σ Q) X.xe s
theorem PW.pt(h:PW X e t):PT X e t:=h _
def PA(X:Cx)(es:YI)(t:TA):Prop:=
 ∀(pos:Pos) (pins:Yz) (s:YR) (σ:St) (H:Hp) (Q:List V->Hp->Prop),Inv X pins σ H s->t σ H Q->wpAny (model X.prog X.w) X.A (spliced (backTo pos (starEach es X.env))) (AP X pins σ Q) X.xe s
def PS(X:Cx)(st:Stmt)(t:TS):Prop:=
 ∀(pins:Yz) (s:YR) (σ:St) (H:Hp) (D:Ends),Inv X pins σ H s->t D σ H->wpAny (model X.prog X.w) X.A (exec st X.env) (SP X pins D) X.xe s
def A3(X:Cx)(st:List Stmt)(t:TS):Prop:=
 ∀(pins:Yz) (s:YR) (σ:St) (H:Hp) (D:Ends),Inv X pins σ H s->t D σ H->wpAny (model X.prog X.w) X.A (execs st X.env) (SP X pins D) X.xe s
theorem bE{M:Model}{A:YQ}{E:Yy}{s:YR}(h:wpAny M A t Q E s)(hQ:∀a s,Q a s->Q' a s):wpAny M A t Q' E s:=VG h hQ λ_ _ x=>x
section
variable {X:Cx}
def Ss(i:Nat):TE:=λσ H Q=>∃v,σ[i]?=some (some v)/\Q v H
def tC(v:V):TE:=λ_ H Q=>Q v H
theorem NM{pos:Pos}(hN:X.N[i]?=some x)(hv:Hr X.env.scope x)(hd:(x==("__debug__" : Str))=false:=by decide)(hcd:(x==("__classdict__" : Str))=false:=by decide):PE X (.Name x pos) (Ss i):=by
 intro pins s σ H Q I h;obtain⟨v,e,h⟩:=h;obtain⟨m,hn,hl⟩:=I.loc;obtain⟨u,r,l⟩:=hl i x v hN e hv;have fin:EP X pins σ Q u s:=⟨v,H,I,r,h⟩;rcases l with⟨hk,hm⟩|⟨hk,c,hc,hcell⟩
 ·exact Yq (X7 I.ok.kind hk hn hm fin) hd
 ·rcases hk with hk|hk
  ·exact Yq (Yc I.ok.kind hk hc hcell fin) hd
  ·exact Yq (wpAny_loadName_free I.ok.kind hk hc hcell fin hcd) hd
theorem Hs:PE X (.Constant (.int i) j pos) (tC (.int i)):=λ_ _ _ H _ I h=>wpAny_Constant_int ⟨.int i,H,I.tok _,⟨_,rfl⟩,h⟩
theorem Ht:PE X (.Constant (.bool b) j pos) (tC (.bl b)):=λ_ _ _ H _ I h=>Constant_bool ⟨.bl b,H,I,rfl,h⟩
theorem Hu:PE X (.Constant .none j pos) (tC .non):=λ_ _ _ H _ I h=>Constant_none ⟨.non,H,I,rfl,h⟩
theorem Hv:PE X (.Constant (.str x) j pos) (tC (.str x)):=λ_ _ _ H _ I h=>Calls.Constant_str ⟨.str x,H,I.tok _,⟨_,rfl⟩,h⟩
def Gl(X:Cx)(x:Str):Prop:=X.env.kindOf x=some .globalImplicit
theorem zj{σ:St}(I:Inv X pins σ H s)(hg:Gl X x)(hm:X.mg x=some u)(h:Q u s)
 (hd:(x==("__debug__" : Str))=false:=by decide):wpAny (model X.prog X.w) X.A (eval (.Name x pos) X.env) Q E s:=
 Calls.Name_function_global I.ok.kind hg (Calls.loadGlobal_global (by rw[I.ok.glob];exact I.mod.glob.keeps I.bk) hm h) hd
theorem lC{E:Yy}{σ:St}{pos:Pos}(I:Inv X pins σ H s)(hg:Gl X x)(hm:X.mg x=none)(hv:bootBuiltins x=some u)(h:Q u s)
 (hn:x ≠ "__name__" := by decide)(hd:(x==("__debug__" : Str))=false:=by decide):wpAny (model X.prog X.w) X.A (eval (.Name x pos) X.env) Q E s:=by
 obtain⟨mb,h1,h2⟩:=I.mod.blt;exact Calls.Name_function_global I.ok.kind hg (Calls.loadGlobal_builtin (by rw[I.ok.glob];exact I.mod.glob.keeps I.bk) hm (by rw[I.ok.blt];exact h1.keeps I.bk) ((h2 x hn).trans hv) h) hd
theorem zk(hg:Gl X x)(hm:X.mg x=some u)(r:RelV v u)(hd:(x==("__debug__" : Str))=false:=by decide):PE X (.Name x pos) (tC v):=
 λ_ _ _ H _ I h=>zj I hg hm ⟨v,H,I,r,h⟩ hd
theorem KL{pos:Pos}(hg:Gl X x)(hm:X.mg x=none)(hv:bootBuiltins x=some u)(r:RelV v u)(hn:x ≠ "__name__" := by decide)(hd:(x==("__debug__" : Str))=false:=by decide):PE X (.Name x pos) (tC v):=
 λ_ _ _ H _ I h=>lC I hg hm hv ⟨v,H,I,r,h⟩ hn hd
variable {a b:Expr} {ta tb:TE} {pos:Pos}
variable {tA tB':TT} {rest:YI}
def vm(t u:TT):TT:=λσ H Q=>t σ H λc H1=>if c=true then u σ H1 Q else Q false H1
def xE(t u:TT):TT:=λσ H Q=>t σ H λc H1=>if c=true then Q true H1 else u σ H1 Q
def eI(t:TT):TT:=λσ H Q=>t σ H λc H1=>Q (!c) H1
theorem KN(ha:PT X a tA):PW X (.BoolOp .And [a] pos) tA:=by
 intro wh pins s σ H Q I h;refine isTrue_and (bE (ha pins s σ H Q I h) λc s1 e=>?_)
 cases c with
 |true=>exact isTrue_and_nil e
 |false=>exact e
theorem NO(ha:PT X a tA):PW X (.BoolOp .Or [a] pos) tA:=by
 intro wh pins s σ H Q I h;refine isTrue_or (bE (ha pins s σ H Q I h) λc s1 e=>?_)
 cases c with
 |false=>exact isTrue_or_nil e
 |true=>exact e
theorem NP(ha:PT X a tA)(hb:PW X (.BoolOp .And (b::rest) pos) tB'):PW X (.BoolOp .And (a::b::rest) pos) (vm tA tB'):=by
 intro wh pins s σ H Q I h;refine isTrue_and (bE (ha pins s σ H _ I h) λc s1 ⟨H1,I1,q1⟩=>?_)
 cases c with
 |true=>exact hb wh pins s1 σ H1 Q I1 q1
 |false=>assumption
theorem Qt(ha:PT X a tA)(hb:PW X (.BoolOp .Or (b::rest) pos) tB'):PW X (.BoolOp .Or (a::b::rest) pos) (xE tA tB'):=by
 intro wh pins s σ H Q I h;refine isTrue_or (bE (ha pins s σ H _ I h) λc s1 ⟨H1,I1,q1⟩=>?_)
 cases c with
 |true=>assumption
 |false=>exact hb wh pins s1 σ H1 Q I1 q1
theorem NQ(ha:PT X a tA):PT X (.UnaryOp .Not a pos) (eI tA):=by intro pins s σ H Q I h;exact isTrue_not (ha pins s σ H _ I h)
def Qu(ta:TE):TE:=λσ H Q=>ta σ H λx H1=>∃c,x=.bl c/\Q (.bl (!c)) H1
theorem NR(h:PE X a t):PE X (.BoolOp op [a] pos) t:=λpins s σ H Q I hw=>BoolOp_one (h pins s σ H Q I hw)
theorem NS(ha:PE X a ta):PE X (.UnaryOp .Not a pos) (Qu ta):=by intro pins s σ H Q I h;refine UnaryOp_ (bE (ha pins s σ H _ I h) λv s1 ⟨x,H1,I1,r1,q1⟩=>?_);obtain⟨c,rfl,q1⟩:=q1;cases r1;exact not_of (VN ⟨.bl (!c),H1,I1,rfl,q1⟩)
def Uj(t:TT)(ta tb:TE):TE:=λσ H Q=>t σ H λc H1=>if c=true then ta σ H1 Q else tb σ H1 Q
theorem Hw(hc:PT X c tA)(ha:PE X a ta)(hb:PE X b tb):PE X (.IfExp c a b pos) (Uj tA ta tb):=by
 intro pins s σ H Q I h;refine wpAny_IfExp (bE (hc pins s σ H _ I h) λd s1 ⟨H1,I1,q1⟩=>?_)
 cases d with
 |true=>exact ha pins s1 σ H1 Q I1 q1
 |false=>exact hb pins s1 σ H1 Q I1 q1
end
def ji(K:YG)(H:Hp)(a:Addr)(xs:List V):Prop:=
 Rd H a (.lst xs) \/
  ∃(o:Obj) (its:YL) (n:Nat),K.lookup a=some o/\o.cls=.type "list" /\ o.dict=none/\o.data=.seq its n/\its.size<=sizeLine/\Vals xs its.toList
def gA(K:YG)(H:Hp)(a:Addr)(xs:List V):Prop:=
 Rd H a (.tup xs) \/
  ∃(o:Obj) (its:YL) (n:Nat),K.lookup a=some o/\o.cls=.type "tuple" /\ o.data=.seq its n/\its.size<=sizeLine/\Vals xs its.toList
def Su:Value->Option V
 |.none=>some .non
 |.bool b=>some (.bl b)
 |.int i _=>some (.int i)
 |.str x _=>some (.str x)
 |.bytes b _=>some (.byt b)
 |.float b _=>some (.flt b)
 |.ref a=>some (.ref a)
 |.type n=>some (.ty n)
 |_=>none
theorem RelV.abs(r:RelV x u):Su u=some x:=by
 cases x with
 |non=>cases r;rfl
 |bl _=>cases r;rfl
 |int _=>obtain⟨t,rfl⟩:=r;rfl
 |str _=>obtain⟨t,rfl⟩:=r;rfl
 |byt _=>obtain⟨t,rfl⟩:=r;rfl
 |flt _=>obtain⟨t,rfl⟩:=r;rfl
 |ref _=>cases r;rfl
 |ty _=>cases r;rfl
theorem RelV.inj(r:RelV x u)(q:RelV y u):x=y:=VZ (r.abs.symm.trans q.abs)
theorem Vals.inj:∀{xs ys:List V} {us:YF},Vals xs us->Vals ys us->xs=ys
 |_,_,_,.nil,.nil=>rfl
 |_,_,_,.cons r t,.cons r' t'=>by rw[r.inj r',Vals.inj t t']
section
variable {X:Cx} {pins:Yz} {σ:St} {H:Hp} {s:YR} {a:Addr} {xs ys:List V}
theorem ji.of{K:YG}(h:H a=some (.lst xs)):ji K H a xs:=.inl (.inl h)
theorem gA.of{K:YG}(h:H a=some (.tup xs)):gA K H a xs:=.inl (.inl h)
theorem Inv.list(I:Inv X pins σ H s)(h:ji X.K H a xs):∃its:YF,Vals xs its/\PlainL s.heap a its.toArray/\xs.length<=sizeLine:=by
 rcases h with h|⟨o,its,n,hk,hc,hd,hs,hz,r⟩
 ·obtain⟨z,its,n,r,e⟩:=h.ok I.hok;exact⟨its,r,⟨_,n,e,rfl,rfl,rfl⟩,z⟩
 ·refine⟨its.toList,r,⟨o,n,I.vk a o hk,hc,hd,by omega⟩,?_⟩;have e:=r.length
  grind
theorem Inv.tuple(I:Inv X pins σ H s)(h:gA X.K H a xs):∃its:YF,Vals xs its/\IsTup s.heap a its.toArray/\xs.length<=sizeLine:=by
 rcases h with h|⟨o,its,n,hk,hc,hs,hz,r⟩
 ·obtain⟨z,its,r,p⟩:=h.ok I.hok
  grind
 ·refine⟨its.toList,r,⟨o,I.vk a o hk,hc,n,by omega⟩,?_⟩;have e:=r.length
  grind
theorem Inv.Hx(I:Inv X pins σ H s)(h:ji X.K H a xs)(h':ji X.K H a ys):xs=ys:=by
 obtain⟨its,r,⟨o,n,e,_,_,d⟩,_⟩:=I.list h;obtain⟨its',r',⟨o',n',e',_,_,d'⟩,_⟩:=I.list h';rw[e]at e';cases e';have:its=its':=by grind
 subst this;exact r.inj r'
theorem Inv.rV(I:Inv X pins σ H s)(h:gA X.K H a xs)(h':gA X.K H a ys):xs=ys:=by
 obtain⟨its,r,⟨o,e,_,n,d⟩,_⟩:=I.tuple h;obtain⟨its',r',⟨o',e',_,n',d'⟩,_⟩:=I.tuple h';rw[e]at e';cases e';have:its=its':=by grind
 subst this;exact r.inj r'
end
abbrev Cx.xF(X:Cx)(E:Yy):Cx:={X with xe:=E}
abbrev Cx.KO(X:Cx):Cx:=X.xF λ_ _=>False
theorem Cx.Ok.xF{X:Cx}(ok:X.Ok)(E:Yy):(X.xF E).Ok:=
 ⟨ok.mod,ok.kind,ok.glob,ok.blt,ok.above,ok.inj,ok.has,ok.cab,ok.hd,ok.frames,ok.stk,ok.exf,ok.bs,ok.bsz,ok.noex,ok.exfs,ok.qj,ok.frf⟩
theorem Cx.Ok.mR{X:Cx}(ok:(X.xF E).Ok):X.Ok:=
 ⟨ok.mod,ok.kind,ok.glob,ok.blt,ok.above,ok.inj,ok.has,ok.cab,ok.hd,ok.frames,ok.stk,ok.exf,ok.bs,ok.bsz,ok.noex,ok.exfs,ok.qj,ok.frf⟩
section
variable {X:Cx} {pins:Yz} {σ:St} {H:Hp} {s:YR} {E:Yy}
theorem Inv.xF(I:Inv X pins σ H s)(E:Yy):Inv (X.xF E) pins σ H s:=⟨I.ok.xF E,I.os,I.bare,I.base,I.loc,I.cell,I.free,I.freeC,I.pin,I.hok,I.len⟩
theorem Inv.mR(I:Inv (X.xF E) pins σ H s):Inv X pins σ H s:=⟨I.ok.mR,I.os,I.bare,I.base,I.loc,I.cell,I.free,I.freeC,I.pin,I.hok,I.len⟩
theorem SP.mR(h:SP (X.xF E) pins D f s'):SP X pins D f s':=by
 cases f with
 |next=>obtain⟨σ',H',I,q⟩:=h;exact⟨σ',H',I.mR,q⟩
 |brk=>obtain⟨σ',H',I,q⟩:=h;exact⟨σ',H',I.mR,q⟩
 |cont=>obtain⟨σ',H',I,q⟩:=h;exact⟨σ',H',I.mR,q⟩
 |ret u=>obtain⟨v,σ',H',I,r,q⟩:=h;exact⟨v,σ',H',I.mR,r,q⟩
end
section
variable {X:Cx} {st:Stmt} {rest:List Stmt} {t u:TS} {e:Expr} {te:TE} {pos:Pos}
def Qv:TS:=λD σ H=>D.nx σ H
def Sv(t u:TS):TS:=λD σ H=>t {D with nx:=u D} σ H
theorem KP:A3 X [] Qv:=λ_ _ σ H _ I h=>Yd ⟨σ,H,I,h⟩
theorem Hy(h1:PS X st t)(h2:A3 X rest u):A3 X (st::rest) (Sv t u):=by
 intro pins s σ H D I h;refine wpAny_execs_cons (bE (h1 pins s σ H {D with nx:=u D} I h) λf s1 q=>?_)
 cases f with
 |next=>obtain⟨σ',H',I',q⟩:=q;exact h2 pins s1 σ' H' D I' q
 |ret v=>exact q
 |brk=>exact q
 |cont=>exact q
theorem KQ(h1:PS X st t):A3 X [st] t:=by
 intro pins s σ H D I h;refine wpAny_execs_cons (bE (h1 pins s σ H D I h) λf s1 q=>?_)
 cases f with
 |next=>exact Yd q
 |ret v=>exact q
 |brk=>exact q
 |cont=>exact q
theorem Inv.quiet{σ:St}(I:Inv X pins σ H s):interactive X.env=false:=by simp[interactive,I.ok.kind]
def Qw(te:TE):TS:=λD σ H=>te σ H λ_ H1=>D.nx σ H1
theorem KR(he:PE X e te)(hs:swapsWith e none pos.line X.env=pure false:=by rfl):PS X (.Expr e pos) (Qw te):=by intro pins s σ H D I h;exact wpAny_Expr_any (bE (he pins s σ H _ I h) (by rintro v s1 ⟨x,H1,I1,r1,q1⟩;exact⟨σ,H1,I1,q1⟩)) I.quiet hs
def Sw(te:TE):TS:=λD σ H=>te σ H D.rt
theorem NT(he:PE X e te):PS X (.Return (some e) pos) (Sw te):=by intro pins s σ H D I h;exact wpAny_Return_some (bE (he pins s σ H _ I h) (by rintro v s1 ⟨x,H1,I1,r1,q1⟩;exact⟨x,σ,H1,I1,r1,q1⟩))
def Sx(c:TT)(t u:TS):TS:=λD σ H=>c σ H λb H1=>if b=true then t D σ H1 else u D σ H1
theorem Qx(hc:PT X c tc)(ha:A3 X a t)(hb:A3 X b u):PS X (.If c a b pos) (Sx tc t u):=by
 intro pins s σ H D I h;refine wpAny_If (bE (hc pins s σ H _ I h) λd s1 ⟨H1,I1,q1⟩=>?_)
 cases d with
 |true=>exact ha pins s1 σ H1 D I1 q1
 |false=>exact hb pins s1 σ H1 D I1 q1
end
abbrev TG:=V->St->Hp->(St->Hp->Prop)->Prop
abbrev Qg:=List V->St->Hp->(St->Hp->Prop)->Prop
noncomputable def PG(X:Cx)(target:Expr)(t:TG):Prop:=
 ∀(pins:Yz) (s:YR) (σ:St) (H:Hp) (v:V) (u:Value) (Q:St->Hp->Prop),Inv X pins σ H s->RelV v u->t v σ H Q ->
  wpAny (model X.prog X.w) X.A (assign target X.env u) (λ_ s'=>∃σ' H',Inv X pins σ' H' s'/\Q σ' H') X.xe s
noncomputable def Qh(X:Cx)(ts:YI)(t:Qg):Prop:=
 ∀(pins:Yz) (s:YR) (σ:St) (H:Hp) (vs:List V) (us:YF) (Q:St->Hp->Prop),Inv X pins σ H s->Vals vs us->t vs σ H Q ->
  wpAny (model X.prog X.w) X.A (assignInOrder ((assignEach ts X.env).map (·.2)) us) (λ_ s'=>∃σ' H',Inv X pins σ' H' s'/\Q σ' H') X.xe s
abbrev Qy:=V->V->V->Hp->(Hp->Prop)->Prop
noncomputable def NU(X:Cx)(t:Qy):Prop:=
 ∀(pins:Yz) (s:YR) (σ:St) (H:Hp) (o i v:V) (ov iv u:Value) (Q:Hp->Prop),Inv X pins σ H s->RelV o ov->RelV i iv->RelV v u->t o i v H Q ->
  wpAny (model X.prog X.w) X.A (setItem ov iv u) (λ_ s'=>∃H',Inv X pins σ H' s'/\Q H') X.xe s
abbrev Sy:=V->V->Hp->VK->Prop
def TQ(X:Cx)(op:Operator)(t:Sy):Prop:=
 ∀(pins:Yz) (s:YR) (σ:St) (H:Hp) (x y:V) (v u:Value) (Q:VK),Inv X pins σ H s->RelV x v->RelV y u->t x y H Q ->
  wpAny (model X.prog X.w) X.A (inplaceOp op v u) (EP X pins σ Q) X.xe s
section
variable {X:Cx} {pos:Pos}
def aq(i:Nat):TG:=λv σ H Q=>Q (σ.set i (some v)) H
theorem KU(hN:X.N.Nodup)(hi:X.N[i]?=some x)(hx:Loc X.env.scope x)(hf:X.fn x=true\/X.env.scope.names.lookup x=some .local:=by first|exact .inl rfl|exact .inr rfl|assumption):PG X (.Name x pos) (aq i):=by intro pins s σ H v u Q I r h;exact XH (hZ I hN hi hx r (λs' I'=>⟨_,H,I',h⟩) hf)
def jN:Qg:=λvs σ H Q=>vs=[]/\Q σ H
def bS(t:TG)(u:Qg):Qg:=λvs σ H Q=>∃v r,vs=v::r/\t v σ H λσ' H'=>u r σ' H' Q
theorem KW:Qh X [] jN:=by intro pins s σ H vs us Q I r h;obtain⟨e,h⟩:=h;exact assignInOrder_nil ⟨σ,H,I,h⟩
theorem Hz(h1:PG X e t)(h2:Qh X es u)
 (hs:(assignEach (e::es) X.env).map (·.2)=assign e X.env::(assignEach es X.env).map (·.2):=by rfl):Qh X (e::es) (bS t u):=by
 intro pins s σ H vs us Q I r h;obtain⟨v,vr,e1,h⟩:=h;subst e1
 cases r with
 |cons r rr=>rw[hs];refine Wx (bE (h1 pins s σ H _ _ _ I r h) λ_ s1 ⟨σ1,H1,I1,q1⟩=>?_);exact h2 pins s1 σ1 H1 _ _ Q I1 rr q1
def jO(K:YG)(n:Nat)(t:Qg):TG:=λv σ H Q=>∃a xs,v=.ref a/\gA K H a xs/\xs.length=n/\t xs σ H Q
theorem NV{k:Nat}(hc:X.calm=true)(h:Qh X es t)
 (hn:(assignEach es X.env).length=n:=by rfl)(hst:(assignEach es X.env).findIdx? (·.1)=none:=by rfl):PG X (.Tuple es k pos) (jO X.K n t):=by
 intro pins s σ H v u Q I r hw;obtain⟨a,xs,e1,hq,hl,hw⟩:=hw;subst e1;cases r;obtain⟨its,rv,ht,hz⟩:=I.tuple hq;refine assign_Tuple_tuple (I.ok.hd hc) ht (by simp[hn,<- hl,rv.length]) hst λh' hx=>?_;have I1:Inv X pins σ H {s with heap:=h'}:=I.kept λb o e=>hx b o (UT (UM e)) e;exact h pins _ σ H xs _ Q I1 #[1] hw
def o4(to ti:TE)(t:Qy):TG:=λv σ H Q=>to σ H λo H1=>ti σ H1 λi H2=>t o i v H2 λH3=>Q σ H3
theorem NW(ho:PE X o to)(hi:PE X i ti)(hs:NU X t)
 (ha:∀v,assign (.Subscript o i pos) X.env v=(do
   let ov <- holding [v] (eval o X.env)
   let iv <- holding [v,ov] (eval i X.env)
   standAt pos
   holding [v,ov,iv] (setItem ov iv v)
   release [v,ov,iv] []):=by intro _;rfl):PG X (.Subscript o i pos) (o4 to ti t):=by
 intro pins s σ H v u Q I r h;refine UC (U8 (bE (ho pins s σ H _ I h) λov s1 ⟨x,H1,I1,r1,q1⟩=>?_));refine UC (U8 (bE (hi pins s1 σ H1 _ I1 q1) λiv s2 ⟨y,H2,I2,r2,q2⟩=>?_));refine UC (VO (UC (U8 (bE (hs pins s2 σ H2 x y v ov iv u _ I2 r1 r2 r q2) λ_ s3 ⟨H3,I3,q3⟩=>?_))));exact wpAny_release ⟨σ,H3,I3,q3⟩
def CY(te:TE)(g:TG):TS:=λD σ H=>te σ H λx H1=>g x σ H1 D.nx
theorem NX(he:PE X e te)(hg:PG X tg g)(hs:swapsWithSole [tg] e pos.line X.env=pure false:=by rfl)(hw:swappedStores [tg] e X.env=pure none:=by rfl)
 (h1:(assignEach [tg] X.env).map (·.2)=[assign tg X.env]:=by rfl):PS X (.Assign [tg] e pos) (CY te g):=by
 intro pins s σ H D I h;refine wpAny_Assign_stores (bE (he pins s σ H _ I h) λv s1 ⟨x,H1,I1,r1,q1⟩=>?_) hs hw;rw[h1];exact bE (hg pins s1 σ H1 x v _ I1 r1 q1) λ_ s2 q=>q
theorem NY(hN:X.N.Nodup)(hi:X.N[i]?=some x)(hx:Loc X.env.scope x)(he:PE X e te)(hs:swapsWith e (some (.Name x pos')) pos.line X.env=pure false:=by rfl)(hf:X.fn x=true\/X.env.scope.names.lookup x=some .local:=by first|exact .inl rfl|exact .inr rfl|assumption) :
  PS X (.Assign [.Name x pos'] e pos) (CY te (aq i)):=by
 intro pins s σ H D I h;refine wpAny_Assign_Name (bE (he pins s σ H _ I h) λv s1 ⟨y,H1,I1,r1,q1⟩=>?_) hs;exact hZ I1 hN hi hx r1 (λs2 I2=>⟨_,H1,I2,q1⟩) hf
def Qz(i j:Nat)(ta:TA):TS:=λD σ H=>ta σ H λvs H1=>∃v w,vs=[v,w]/\D.nx ((σ.set i (some v)).set j (some w)) H1
theorem NZ(hc:X.calm=true)(hN:X.N.Nodup)(hi:X.N[i]?=some x)(hj:X.N[j]?=some y)(hij:i≠j)
 (hx:X.env.scope.names.lookup x=some .local)(hy:X.env.scope.names.lookup y=some .local)(ha:PA X [a,b] ta)
 (hw:swappedStores [.Tuple [.Name x px,.Name y py] kt pt] (.Tuple [a,b] k2 pt2) X.env=pure (some [x,y]))
 (hs:swapsWithSole [.Tuple [.Name x px,.Name y py] kt pt] (.Tuple [a,b] k2 pt2) pos.line X.env=pure false:=by rfl) :
  PS X (.Assign [.Tuple [.Name x px,.Name y py] kt pt] (.Tuple [a,b] k2 pt2) pos) (Qz i j ta):=by
 intro pins s σ H D I h;rw[exec_Assign_arm];refine UC (VO ?_);rw[hs];refine UC (UD ?_);rw[if_neg (by decide)];refine UC (Tuple_ (bE (ha _ pins s σ H _ I h) λus s1 ⟨vs,H1,I1,r1,q1⟩=>?_));obtain⟨v,w,e1,q1⟩:=q1;subst e1
 obtain⟨u1,u2,rfl,rv,rw'⟩:∃u1 u2,us=[u1,u2]/\RelV v u1/\RelV w u2:=by
  cases r1 with
  |cons p q=>
   cases q with
   |cons p' q'=>cases q';exact⟨_,_,rfl,p,p'⟩
 refine Vh ?_ (by show 2<=sizeLine;decide);have I2:Inv X pins σ H1 {s1 with heap:=s1.heap.push {cls:=.type "tuple",data:=.seq [u1,u2].toArray}}:=I1.kept (t':=s1.toks) λb o e=>UE _ e;rw[hw];refine UC (UD ?_);show wpAny (model X.prog X.w) X.A (do rule "assign.swapped-stores";let items <- unpackItems (.ref s1.heap.objs.size) 2 none;assignInOrder [λv=>bindName X.env y v,λv=>bindName X.env x v] items.reverse;pure Flow.next) _ _ _;refine UC (V5 (UC (unpackItems_tuple (items:=#[u1,u2]) (I.ok.hd hc) (IsTup.new s1.heap _) λh' hx'=>?_)));have I3:=I2.kept (h':=h') (t':=s1.toks) λb o e=>hx' b o (UT (UM e)) e;show wpAny _ _ (assignInOrder [λv=>bindName X.env y v,λv=>bindName X.env x v] [u2,u1] >>= λ_=>pure Flow.next) _ _ _;refine UC (Wx (XU (hZ I3 hN hj (.inl hy) rw' (λs2 I4=>?_) (.inr hy))));refine Wx (XU (hZ I4 hN hi (.inl hx) rv (λs3 I5=>assignInOrder_nil (UD ?_)) (.inr hx)));rw[Yv _ _ (Xv hij)]at I5;exact⟨_,H1,I5,q1⟩
def Sz(i:Nat)(te:TE)(ti:Sy):TS:=λD σ H=>∃x,σ[i]?=some (some x)/\te σ H λy H1=>ti x y H1 λz H2=>D.nx (σ.set i (some z)) H2
theorem N0(hN:X.N.Nodup)(hi:X.N[i]?=some x)(hx:Loc X.env.scope x)(he:PE X e te)(ho:TQ X op ti)(hf:X.fn x=true\/X.env.scope.names.lookup x=some .local:=by first|exact .inl rfl|exact .inr rfl|assumption) :
  PS X (.AugAssign (.Name x pos') op e pos) (Sz i te ti):=by
 intro pins s σ H D I h;obtain⟨v,e1,h⟩:=h;obtain⟨m,hn,hl⟩:=I.loc;have vis:Hr X.env.scope x:=by rcases hx with k|k;exact .inl k;exact .inr (.inl k)
 obtain⟨u,r,l⟩:=hl i x v hi e1 vis;refine wpAny_AugAssign_Name ?_;have go:wpAny (model X.prog X.w) X.A (eval e X.env) (λw s₂=>wpAny (model X.prog X.w) X.A (inplaceOp op u w) (λr s₃=>wpAny (model X.prog X.w) X.A (storeName X.env x r) (λ_=>SP X pins D .next) X.xe s₃) X.xe s₂) X.xe s:=by refine bE (he pins s σ H _ I h) λw s1 ⟨y,H1,I1,r1,q1⟩=>?_;refine bE (ho pins s1 σ H1 v y u w _ I1 r r1 q1) λz s2 ⟨zv,H2,I2,r2,q2⟩=>?_;exact hZ I2 hN hi hx r2 (λs3 I3=>⟨_,H2,I3,q2⟩) hf
 rcases l with⟨hk,hm⟩|⟨hk,c,hc,hcell⟩
 ·exact X7 I.ok.kind hk hn hm go
 ·rcases hk with hk|hk
  ·exact Yc I.ok.kind hk hc hcell go
  ·rcases hx with k|k
   ·have:X.env.scope.names.lookup x=some .free:=hk;rw[k]at this;cases this
   ·have:X.env.scope.names.lookup x=some .free:=hk;rw[k]at this;cases this
def Uk(f:Int->Int->Int):Sy:=λx y H Q=>∃i j,x=.int i/\y=.int j/\Q (.int (f i j)) H
theorem N3:TQ X .Sub (Uk λi j=>i-j):=by intro pins s σ H x y v u Q I r1 r2 h;obtain⟨i,j,e1,e2,q⟩:=h;subst e1;subst e2;obtain⟨t,rfl⟩:=r1;obtain⟨t',rfl⟩:=r2;exact isub_int ⟨.int _,H,I.tok _,⟨_,rfl⟩,q⟩
end
section
variable {X:Cx} {pos:Pos}
def N4(c:TT)(tb:TS):TS:=λD σ H=>∃W:Nat->St->Hp->Prop,(∃m,W m σ H)/\∀m σ H,W m σ H ->
 c σ H λb H1=>if b=true then ∃N:St->Hp->Prop,(∀σ' H',N σ' H'->∃m',m'<m/\W m' σ' H')/\tb {D with nx:=N,ct:=N,bk:=D.nx} σ H1 else D.nx σ H1
theorem HA(hp:PassesOwn (model X.prog X.w) X.A X.env X.xe)(hc:PT X c tc)(hb:A3 X body tb):PS X (.While c body [] pos) (N4 tc tb):=by
 intro pins s σ H D I h;obtain⟨W,⟨m0,w0⟩,turn⟩:=h;refine wpAny_While (codeAny_whileLoop (λn s'=>∃σ' H',Inv X pins σ' H' s'/\W n σ' H') ?_ m0 ⟨σ,H,I,w0⟩);rintro n s1 ⟨σ1,H1,I1,w1⟩;refine WK hp (bE (hc pins s1 σ1 H1 _ I1 (turn n σ1 H1 w1)) λb s2 ⟨H2,I2,q2⟩=>?_)
 cases b with
 |true=>
  obtain⟨N,hN,q2⟩:=q2;rw[if_pos rfl];refine WK hp (bE (hb pins s2 σ1 H2 _ I2 q2) λf s3 q3=>?_)
  cases f with
  |next=>obtain⟨σ3,H3,I3,n3⟩:=q3;obtain⟨m',hm,w3⟩:=hN σ3 H3 n3;exact⟨m',hm,σ3,H3,I3,w3⟩
  |cont=>obtain⟨σ3,H3,I3,n3⟩:=q3;obtain⟨m',hm,w3⟩:=hN σ3 H3 n3;exact⟨m',hm,σ3,H3,I3,w3⟩
  |brk=>exact q3
  |ret v=>exact q3
 |false=>rw[if_neg U9];exact Yd ⟨σ1,H2,I2,q2⟩
end
structure It where
 go:Nat->Hp->Prop
 yld:Nat->Hp->V->Hp->Prop
 stop:Nat->Hp->Prop
def jP(X:Cx)(pins:Yz)(H:Hp)(b:Addr):Prop:=
 H b=none/\b≠X.env.locals/\b∉X.fs/\(b∈X.ex\/X.s₀.heap.objs.size<=b)/\(∀x c,X.env.cells.lookup x=some c->c≠b)/\∀p∈X.pn++pins,p.1≠b
theorem Inv.Gh{σ:St}{b:Addr}(I:Inv X pins σ H s)(hb:#[2]<=b)(hn:H' b=none):jP X pins H' b:=by
 refine⟨hn,WS (US I.lt hb),I.NK hb,.inr (UO I.sz hb),λx c e z=>?_,λp hp z=>?_⟩
 ·obtain⟨v,q⟩:=I.cell x c e;exact absurd (US q.lt (by simp_all)) (Vk _)
 ·exact absurd (US (UM (I.pin p hp).1) (by simp_all)) (Vk _)
structure Turn(P:YN)(w:World)(K:YG)(tg:Expr)(J:It)(fp:YE)(it:Addr)(tn:Nat->Heap->Prop):Prop where
 mem:it∈fp
 obj:∀i h,tn i h->∀b∈fp,∃o,h.get? b=some o/\∀v,o.data≠.cell v
 keep:∀i h h',tn i h->(∀b∈fp,∀o,h.get? b=some o->h'.get? b=some o)->tn i h'
 item:∀(X:Cx),X.prog=P->X.w=w->X.K=K->X.calm=true->∀(i:Nat) (pins:Yz) (s:YR) (σ:St) (H:Hp) (E:Yy),Inv X pins σ H s->(∀b∈fp,jP X pins H b)->tn i s.heap->J.go i H ->
  wpAny (model P w) X.A (pyNext (.ref it)) (λr s1=>∃u,r=some u /\
   wpAny (model P w) X.A (letOwnedTupleGo tg (.ref it) u) (λ_ s2=>∃x H',Inv X pins σ H' s2/\RelV x u/\J.yld i H x H'/\tn (i+1) s2.heap/\∀b∈fp,H' b=none) E s1) E s
 done:∀(X:Cx),X.prog=P->X.w=w->X.K=K->X.calm=true->∀(i:Nat) (pins:Yz) (s:YR) (σ:St) (H:Hp) (E:Yy),Inv X pins σ H s->(∀b∈fp,jP X pins H b)->tn i s.heap->J.stop i H ->
  wpAny (model P w) X.A (pyNext (.ref it)) (λr s1=>r=none/\Inv X pins σ H s1) E s
 self:∀(A:YQ) (i:Nat) (s:YR) (Q:Yy) (E:Yy),tn i s.heap->Q (.ref it) s->wpAny (model P w) A (pyIter (.ref it)) Q E s
abbrev TI:=St->Hp->(It->Hp->Prop)->Prop
noncomputable def TR(X:Cx)(pins:Yz)(σ:St)(tg:Expr)(R:It->Hp->Prop)(itv:Value)(s2:YR):Prop:=
 ∃(it:Addr) (fp:YE) (tn:Nat->Heap->Prop) (J:It) (H':Hp),itv=.ref it/\Inv X pins σ H' s2/\Turn X.prog X.w X.K tg J fp it tn/\tn 0 s2.heap/\(∀b∈fp,jP X pins H' b)/\R J H'
noncomputable def PI(X:Cx)(tg iter:Expr)(wi:TI):Prop:=
 ∀(pins:Yz) (s:YR) (σ:St) (H:Hp) (R:It->Hp->Prop),Inv X pins σ H s->wi σ H R ->
  wpAny (model X.prog X.w) X.A (eval iter X.env) (λv s1=>wpAny (model X.prog X.w) X.A (pyIter v) (TR X pins σ tg R) X.xe s1) X.xe s
theorem EJ(ho:s.heap.get? it=some o)(hc:o.cls=.type n)(hd:o.data=.fields vs)
 (hn:["enumerate", "zip", "dict_itemiterator", "dict_reverseitemiterator", "odict_iterator", "itertools.zip_longest", "itertools.pairwise"].contains n=false)(hQ:Q () s):wpAny M A (letOwnedTupleGo tg (.ref it) u) Q E s:=by
 unfold letOwnedTupleGo
 cases tg<;>first
  |exact UD hQ
  | (cases u<;>first
    |exact UD hQ
    | (refine UC (XI ho ?_)
       rw[hc,hd];show wpAny M A (if(["enumerate", "zip", "dict_itemiterator", "dict_reverseitemiterator", "odict_iterator", "itertools.zip_longest", "itertools.pairwise"].contains n&&vs[0]? == some (rawInt _))=true then _ else _) Q E s;rw[if_neg (by intro h;rw[hn,XW]at h;cases h)]
       exact UD hQ))
def RO(K:YG)(a:Addr):It:=
 ⟨λi H=>∃xs x,ji K H a xs/\xs[i]?=some x,λi H x H'=>H'=H/\∀xs,ji K H a xs->xs[i]?=some x,λi H=>∃xs,ji K H a xs/\xs.length<=i⟩
def RP(K:YG)(a:Addr):It:=
 ⟨λi H=>∃xs x,gA K H a xs/\xs[i]?=some x,λi H x H'=>H'=H/\∀xs,gA K H a xs->xs[i]?=some x,λi H=>∃xs,gA K H a xs/\xs.length<=i⟩
def RQ(lo:Int)(n:Nat):It:=⟨λi _=>i<n,λi H x H'=>H'=H/\x=.int (lo+i),λi _=>n<=i⟩
theorem Gi{K:YG}(a it:Addr):Turn P w K tg (RO K a) [it] it (λi h=>h.IsListIter it a i) where
 mem:=by simp
 obj:=λi h st b hb=>by
  have e:b=it:=by grind
  subst e;obtain⟨o,e,c,d⟩:=st
  grind
 keep:=λi h h' st k=>st.at λo e=>k it (by simp) o e
 item:=by intro X hP hw hK hc i pins s σ H E I hf st hg;subst hP hw hK;obtain⟨xs,x,hq,hx⟩:=hg;obtain⟨its,rv,p,hz⟩:=I.list hq;obtain⟨u,hu,ru⟩:=rv.get hx;obtain⟨f0,f1,f2,f3,f4,f5⟩:=hf it (by simp);refine wpAny_pyNext_list_item st p.isList (x:=u) (by simpa using hu) λh' st' sb=>?_;have I1:Inv X pins σ H {s with heap:=h'}:=I.turned (t':=s.toks) (λb o hb e=>(sb.2 b hb).trans e) f0 f1 f3 f4 f5;obtain⟨o,e,c,d⟩:=id st';exact⟨u,rfl,EJ (s:={s with heap:=h'}) e c d (by decide) ⟨x,H,I1,ru,⟨rfl,λys hy=>by rw[I.Hx hy hq];exact hx⟩,st',λb hb=>(hf b hb).1⟩⟩
 done:=by intro X hP hw hK hc i pins s σ H E I hf st hg;subst hP hw hK;obtain⟨xs,hq,hx⟩:=hg;obtain⟨its,rv,p,hz⟩:=I.list hq;obtain⟨f0,f1,f2,f3,f4,f5⟩:=hf it (by simp);have hl:=rv.length;exact wpAny_pyNext_list_end (I.ok.hd hc) st p.isList (by simp;omega) λh' eb=>⟨rfl,I.turned (t':=s.toks) (λb o hb e=>eb b o hb e) f0 f1 f3 f4 f5⟩
 self:=λ_ _ _ _ _ st h=>wpAny_pyIter_listiter st h
theorem CZ{K:YG}(a it:Addr):Turn P w K tg (RP K a) [it] it (λi h=>h.IsTupleIter it a i) where
 mem:=by simp
 obj:=λi h st b hb=>by
  have e:b=it:=by grind
  subst e;obtain⟨o,e,c,d⟩:=st
  grind
 keep:=λi h h' st k=>st.at λo e=>k it (by simp) o e
 item:=by intro X hP hw hK hc i pins s σ H E I hf st hg;subst hP hw hK;obtain⟨xs,x,hq,hx⟩:=hg;obtain⟨its,rv,p,hz⟩:=I.tuple hq;obtain⟨u,hu,ru⟩:=rv.get hx;obtain⟨f0,f1,f2,f3,f4,f5⟩:=hf it (by simp);refine wpAny_pyNext_tuple_item st (show s.heap.IsTuple a its.toArray from p) (x:=u) (by simpa using hu) λh' st' sb=>?_;have I1:Inv X pins σ H {s with heap:=h'}:=I.turned (t':=s.toks) (λb o hb e=>(sb.2 b hb).trans e) f0 f1 f3 f4 f5;obtain⟨o,e,c,d⟩:=id st';exact⟨u,rfl,EJ (s:={s with heap:=h'}) e c d (by decide) ⟨x,H,I1,ru,⟨rfl,λys hy=>by rw[I.rV hy hq];exact hx⟩,st',λb hb=>(hf b hb).1⟩⟩
 done:=by intro X hP hw hK hc i pins s σ H E I hf st hg;subst hP hw hK;obtain⟨xs,hq,hx⟩:=hg;obtain⟨its,rv,p,hz⟩:=I.tuple hq;obtain⟨f0,f1,f2,f3,f4,f5⟩:=hf it (by simp);have hl:=rv.length;exact wpAny_pyNext_tuple_end (I.ok.hd hc) st (show s.heap.IsTuple a its.toArray from p) (by simp;omega) λh' eb=>⟨rfl,I.turned (t':=s.toks) (λb o hb e=>eb b o hb e) f0 f1 f3 f4 f5⟩
 self:=λ_ _ _ _ _ st h=>wpAny_pyIter_tupleiter st h
theorem C0{K:YG}(it:Addr)(lo:Int)(n:Nat):Turn P w K tg (RQ lo n) [it] it (λi h=>IsRangeIter h it (lo+(i:Nat)*1) ((n:Int)-(i:Nat)) 1) where
 mem:=by simp
 obj:=λi h st b hb=>by
  grind
 keep:=λi h h' st k=>k it (by simp) _ st
 item:=by intro X hP hw hK hc i pins s σ H E I hf st hg;subst hP hw hK;obtain⟨f0,f1,f2,f3,f4,f5⟩:=hf it (by simp);have W:=Walks.range (prog:=X.prog) (w:=X.w) (I.ok.hd hc) it lo 1 n;refine W.item i s _ _ hg st λv h' tk hv st' kk=>?_;obtain⟨t,rfl⟩:=hv;have I1:Inv X pins σ H {s with heap:=h',toks:=tk}:=I.turned (λb o hb e=>kk b o (by simpa using hb) e) f0 f1 f3 f4 f5;refine⟨_,rfl,EJ (s:={s with heap:=h',toks:=tk}) (n := "range_iterator") st' rfl rfl (by decide) ⟨.int (lo+i),H,I1,⟨t,?_⟩,⟨rfl,rfl⟩,st',λb hb=>(hf b hb).1⟩⟩;rw[Int.mul_one]
 done:=by intro X hP hw hK hc i pins s σ H E I hf st hg;subst hP hw hK;obtain⟨f0,f1,f2,f3,f4,f5⟩:=hf it (by simp);exact wpAny_pyNext_range_end (I.ok.hd hc) st (by have:n<=i:=hg;omega) λh' eb=>⟨rfl,I.turned (t':=s.toks) (λb o hb e=>eb b o hb e) f0 f1 f3 f4 f5⟩
 self:=λ_ _ _ _ _ st h=>wpAny_pyIter_rangeiter st h
section
variable {X:Cx} {tg:Expr}
def M3(K:YG)(tl:TE):TI:=λσ H R=>tl σ H λx H1=>∃a,x=.ref a/\(∃xs,ji K H1 a xs)/\R (RO K a) H1
def SD(K:YG)(tl:TE):TI:=λσ H R=>tl σ H λx H1=>∃a,x=.ref a/\(∃xs,gA K H1 a xs)/\R (RP K a) H1
theorem EK(hl:PE X l tl):PI X tg l (M3 X.K tl):=by
 intro pins s σ H R I h;refine bE (hl pins s σ H _ I h) λv s1 ⟨x,H1,I1,r1,q1⟩=>?_;obtain⟨a,e,⟨xs,hq⟩,q⟩:=q1;subst e;cases r1;obtain⟨its,rv,p,hz⟩:=I1.list hq;refine XJ p.isList ?_;refine⟨s1.heap.objs.size,[s1.heap.objs.size],_,_,H1,rfl,I1.kept λb o e=>UE _ e,Gi a _,⟨_,UL _ rfl,rfl,rfl⟩,λb hb=>?_,q⟩;have e:b=s1.heap.objs.size:=by grind
 subst e;exact I1.Gh (UJ _) (I1.hok.fresh (UJ _))
theorem HB(hl:PE X l tl):PI X tg l (SD X.K tl):=by
 intro pins s σ H R I h;refine bE (hl pins s σ H _ I h) λv s1 ⟨x,H1,I1,r1,q1⟩=>?_;obtain⟨a,e,⟨xs,hq⟩,q⟩:=q1;subst e;cases r1;obtain⟨its,rv,p,hz⟩:=I1.tuple hq;refine Xw p ?_;refine⟨s1.heap.objs.size,[s1.heap.objs.size],_,_,H1,rfl,I1.kept λb o e=>UE _ e,CZ a _,⟨_,UL _ rfl,rfl,rfl⟩,λb hb=>?_,q⟩;have e:b=s1.heap.objs.size:=by grind
 subst e;exact I1.Gh (UJ _) (I1.hok.fresh (UJ _))
theorem HC{σ:St}{lo hi:Int}(I:Inv X pins σ H s)(h1:-(2^62)<=lo)(h2:lo<2^62)(h3:-(2^62)<=hi)(h4:hi<2^62)
 (q:R (RQ lo (hi-lo).toNat) H):wpAny (model X.prog X.w) X.A (pyIter (.ref #[2])) (TR X pins σ tg R) E {s with heap:=s.heap.push {cls:=.type "range",data:=.fields #[.int lo t,.int hi u,.int 1 v]},toks:=tk}:=by
 refine wpAny_pyIter_range (IsRange.new ..) (small_one h1 h2 h3 h4) ?_;have I1:Inv X pins σ H {s with heap:=s.heap.push {cls:=.type "range",data:=.fields #[.int lo t,.int hi u,.int 1 v]},toks:=tk}:=I.kept λb o e=>UE _ e
 refine⟨(s.heap.push {cls:=.type "range",data:=.fields #[.int lo t,.int hi u,.int 1 v]}).objs.size,[(s.heap.push {cls:=.type "range",data:=.fields #[.int lo t,.int hi u,.int 1 v]}).objs.size],_,_,H,rfl,
  I1.kept (t':=tk) λb o e=>UE _ e,C0 _ lo (hi-lo).toNat,?_,λb hb=>?_,q⟩
 ·have e1:lo+((0:Nat):Int)*1=lo:=by simp
  have e2:(((hi-lo).toNat:Nat):Int)-((0:Nat):Int)=Builtin.Range.rangeSize lo hi 1:=by grind[rangeSize_one]
  rw[e1,e2];exact UL _ rfl
 ·have e:b=(s.heap.push {cls:=.type "range",data:=.fields #[.int lo t,.int hi u,.int 1 v]}).objs.size:=by grind
  subst e;exact I1.Gh (UJ _) (I1.hok.fresh (UJ _))
def QA(ta:TA):TI:=λσ H R=>ta σ H λvs H1=>∃j:Int,vs=[.int j]/\-(2^62)<=j/\j<2^62/\R (RQ 0 j.toNat) H1
theorem Gj(hg:Gl X "range")(hm:X.mg "range" = none)(ha:PA X [a] ta)(hs:starEach [a] X.env=[(false,eval a X.env)]:=by rfl):PI X tg (.Call (.Name "range" p) [a] [] pos) (QA ta):=by
 intro pins s σ H R I h;refine Call_ (lC I hg hm boot_range (Wm (bE (ha pos pins s σ H _ I h) λus s1 ⟨vs,H1,I1,r1,q1⟩=>?_) hs rfl));obtain⟨j,e,q1,q2,q⟩:=q1;subst e
 cases r1 with
 |cons r rr=>cases rr;obtain⟨t,rfl⟩:=r;exact call_range_1 (HC I1 #[1] #[1] q1 q2 (by grind))
noncomputable def SE(wi:TI)(g:TG)(tb:TS):TS:=λD σ H=>wi σ H λJ H1=>∃W:Nat->Nat->St->Hp->Prop,(∃m,W 0 m σ H1)/\∀i m σ H,W i m σ H ->
 (J.stop i H/\D.nx σ H)\/(J.go i H/\∃N:St->Hp->Prop,(∀σ' H',N σ' H'->∃m',m'<m/\W (i+1) m' σ' H')/\∀x H',J.yld i H x H'->g x σ H' λσ2 H2=>tb {D with nx:=N,ct:=N,bk:=D.nx} σ2 H2)
def gB(fp:YE)(h:Heap):Yz:=fp.filterMap λb=>(h.get? b).map λo=>(b,o)
theorem cX(hb:b∈fp)(e:h.get? b=some o):(b,o)∈gB fp h:=WZ.mpr ⟨b,hb,by grind⟩
theorem n6(hp:p∈gB fp h):p.1∈fp/\h.get? p.1=some p.2:=by
 obtain⟨b,hb,e⟩:=WZ.mp hp
 cases q:h.get? b with
 |none=>grind
 |some o=>
  rw[q]at e;have e'  := VZ e
  grind
theorem Inv.pinned{σ:St}(I:Inv X pins σ H s)(hf:∀b∈fp,jP X pins H b)(ho:∀b∈fp,∃o,s.heap.get? b=some o/\∀v,o.data≠.cell v):Inv X (pins++gB fp s.heap) σ H s:=
 I.gQ λp hp=>(UR.mp hp).elim (λz=>I.pin p (UG _ z)) λz=>by
  obtain⟨hb,e⟩:=n6 z;obtain⟨f0,f1,f2,_⟩:=hf p.1 hb
  grind
theorem Inv.kH{σ:St}(I:Inv X (pins++pl) σ H s):Inv X pins σ H s:=I.gQ λp hp=>I.pin p (UG _ (U4 _ hp))
theorem N5(hp:PassesOwn (model X.prog X.w) X.A X.env X.xe)(hc:X.calm=true)(hi:PI X tg iter wi)(hg:PG X tg g)(hb:A3 X body tb)
 (hs:∀x,foldedSetIterable iter X.env x=pure x:=by intro _;rfl):PS X (.For tg iter body [] pos) (SE wi g tb):=by
 intro pins s σ H D I h;refine wpAny_For (bE (hi pins s σ H _ I h) λv s1 h1=>bE h1 λitv s2 h2=>?_) hs;obtain⟨it,fp,tn,J,H2,e,I2,T,st2,f2,W,⟨m0,w0⟩,turn⟩:=h2;subst e;have stat:∀{H':Hp},(∀b∈fp,H' b=none)->∀b∈fp,jP X pins H' b:=λhn b hb=>⟨hn b hb,(f2 b hb).2⟩;refine codeAny_forLoop_any (λn s'=>∃i σ' H',Inv X pins σ' H' s'/\tn i s'.heap/\(∀b∈fp,H' b=none)/\W i n σ' H') ?_ m0 ⟨0,σ,H2,I2,st2,λb hb=>(f2 b hb).1,w0⟩;rintro n s3 ⟨i,σ3,H3,I3,st3,fr3,w3⟩;rcases turn i n σ3 H3 w3 with⟨stop,qn⟩|⟨go,N,hN,step⟩
 ·refine WK hp (bE (T.done X rfl rfl rfl hc i pins s3 σ3 H3 X.xe I3 (stat fr3) st3 stop) λr s4 ⟨hr,I4⟩=>?_);subst hr;exact Yd ⟨σ3,H3,I4,qn⟩
 ·refine WK hp (bE (T.item X rfl rfl rfl hc i pins s3 σ3 H3 X.xe I3 (stat fr3) st3 go) λr s4 ⟨u,hr,h4⟩=>?_);subst hr;refine WK hp (bE h4 λ_ s5 ⟨x,H5,I5,r5,y5,st5,fr5⟩=>?_);have I5':=I5.pinned (stat fr5) (T.obj _ _ st5);refine WK hp (bE (hg _ s5 σ3 H5 x u _ I5' r5 (step x H5 y5)) λ_ s6 ⟨σ6,H6,I6,q6⟩=>?_);refine WK hp (bE (hb _ s6 σ6 H6 _ I6 q6) λf s7 q7=>?_);have again:∀{σ7:St} {H7:Hp},Inv X (pins++gB fp s5.heap) σ7 H7 s7->N σ7 H7->∃m,m<n/\∃i σ' H',Inv X pins σ' H' s7/\tn i s7.heap/\(∀b∈fp,H' b=none)/\W i m σ' H':=λ{σ7 H7} I7 n7=>by obtain⟨m',hm,w7⟩:=hN σ7 H7 n7;refine⟨m',hm,i+1,σ7,H7,I7.kH,T.keep _ _ _ st5 λb hb o e=>(I7.pin (b,o) (UG _ (UG _ (cX hb e)))).1,λb hb=>?_,w7⟩;obtain⟨o,e,d⟩:=T.obj _ _ st5 b hb;exact(I7.pin (b,o) (UG _ (UG _ (cX hb e)))).2.1
  cases f with
  |next=>obtain⟨σ7,H7,I7,n7⟩:=q7;exact again I7 n7
  |cont=>obtain⟨σ7,H7,I7,n7⟩:=q7;exact again I7 n7
  |brk=>obtain⟨σ7,H7,I7,q7⟩:=q7;exact⟨σ7,H7,I7.kH,q7⟩
  |ret v=>obtain⟨x7,σ7,H7,I7,r7,q7⟩:=q7;exact⟨x7,σ7,H7,I7.kH,r7,q7⟩
end
abbrev R2:=V->V->Hp->VK->Prop
def jL(X:Cx)(f:Value->Value->Sem Value)(r:R2):Prop:=
 ∀(pins:Yz) (s:YR) (σ:St) (H:Hp) (x y:V) (v u:Value) (Q:VK),Inv X pins σ H s->RelV x v->RelV y u->r x y H Q ->
  wpAny (model X.prog X.w) X.A (f v u) (EP X pins σ Q) X.xe s
def SF(X:Cx)(f:Value->Sem Value)(r:V->Hp->VK->Prop):Prop:=
 ∀(pins:Yz) (s:YR) (σ:St) (H:Hp) (x:V) (v:Value) (Q:VK),Inv X pins σ H s->RelV x v->r x H Q ->
  wpAny (model X.prog X.w) X.A (f v) (EP X pins σ Q) X.xe s
def dy(X:Cx)(f:Value)(r:List V->Hp->VK->Prop):Prop:=
 ∀(pins:Yz) (s:YR) (σ:St) (H:Hp) (xs:List V) (us:YF) (Q:VK),Inv X pins σ H s->Vals xs us->r xs H Q ->
  wpAny (model X.prog X.w) X.A (call f us) (EP X pins σ Q) X.xe s
def N6(X:Cx)(r:V->Hp->(Bool->Hp->Prop)->Prop):Prop:=
 ∀(pins:Yz) (s:YR) (σ:St) (H:Hp) (x:V) (v:Value) (Q:Bool->Hp->Prop),Inv X pins σ H s->RelV x v->r x H Q ->
  wpAny (model X.prog X.w) X.A (truthy v) (TP X pins σ Q) X.xe s
def QB(r:R2)(ta tb:TE):TE:=λσ H Q=>ta σ H λx H1=>tb σ H1 λy H2=>r x y H2 Q
def Ul(r:V->Hp->VK->Prop)(ta:TE):TE:=λσ H Q=>ta σ H λx H1=>r x H1 Q
def rI(C:Int->Int->Prop)(g:Int->Int->V):R2:=λx y H Q=>∃i j,x=.int i/\y=.int j/\C i j/\Q (g i j) H
def M4(g:Int->Int->V):R2:=λx y H Q=>∃i j,x=.int i/\y=.int j/\Q (g i j) H
def rU(g:Int->V):V->Hp->VK->Prop:=λx H Q=>∃i,x=.int i/\Q (g i) H
section
variable {X:Cx} {a b c:Expr} {ta tb tc:TE} {pos:Pos}
theorem N7(ha:PE X a ta)(hb:PE X b tb){σ:St}{R:V->V->Hp->Prop}(I:Inv X pins σ H s)
 (h:ta σ H λx H1=>tb σ H1 λy H2=>R x y H2){f:Value->Value->Sem Value}
 (hf:∀v u s2 x y H2,Inv X pins σ H2 s2->RelV x v->RelV y u->R x y H2->wpAny (model X.prog X.w) X.A (f v u) Q X.xe s2) :
  wpAny (model X.prog X.w) X.A (eval a X.env) (λv s₁=>wpAny (model X.prog X.w) X.A (eval b X.env) (λu s₂=>wpAny (model X.prog X.w) X.A (f v u) Q X.xe s₂) X.xe s₁) X.xe s:=by
 refine bE (ha pins s σ H _ I h) λv s1 ⟨x,H1,I1,r1,q1⟩=>?_;refine bE (hb pins s1 σ H1 _ I1 q1) λu s2 ⟨y,H2,I2,r2,q2⟩=>?_;exact hf v u s2 x y H2 I2 r1 r2 q2
theorem M5(ho:jL X (binaryOp op) r)(ha:PE X a ta)(hb:PE X b tb):PE X (.BinOp a op b pos) (QB r ta tb):=by intro pins s σ H Q I h;exact wpAny_BinOp (N7 ha hb I h λv u s2 x y H2 I2 rx ry q=>ho pins s2 σ H2 x y v u Q I2 rx ry q)
theorem QC(ho:SF X (unaryOp op) r)(ha:PE X a ta):PE X (.UnaryOp op a pos) (Ul r ta):=by intro pins s σ H Q I h;exact UnaryOp_ (bE (ha pins s σ H _ I h) (by rintro v s1 ⟨x,H1,I1,r1,q1⟩;exact ho pins s1 σ H1 x v Q I1 r1 q1))
theorem RS{g:Int->Int->Int}
 (rule:∀(i j:Int) (t u:Tok) (s:YR) (Q:Yy) (E:Yy),C i j->Q (.int (g i j) s.toks) {s with toks:=s.toks+1}->wpAny (model X.prog X.w) X.A (f (.int i t) (.int j u)) Q E s) :
  jL X f (rI C λi j=>.int (g i j)):=by
 intro pins s σ H x y v u Q I rx ry h;obtain⟨i,j,rfl,rfl,hc,q⟩:=h;obtain⟨t,rfl⟩:=rx;obtain⟨t',rfl⟩:=ry;exact rule i j t t' s _ _ hc ⟨.int _,H,I.tok _,⟨_,rfl⟩,q⟩
theorem QD{g:Int->Int->Int}
 (rule:∀(i j:Int) (t u:Tok) (s:YR) (Q:Yy) (E:Yy),Q (.int (g i j) s.toks) {s with toks:=s.toks+1}->wpAny (model X.prog X.w) X.A (f (.int i t) (.int j u)) Q E s) :
  jL X f (M4 λi j=>.int (g i j)):=by
 intro pins s σ H x y v u Q I rx ry h;obtain⟨i,j,rfl,rfl,q⟩:=h;obtain⟨t,rfl⟩:=rx;obtain⟨t',rfl⟩:=ry;exact rule i j t t' s _ _ ⟨.int _,H,I.tok _,⟨_,rfl⟩,q⟩
theorem N8{g:Int->Int->Bool}
 (rule:∀(i j:Int) (t u:Tok) (s:YR) (Q:Yy) (E:Yy),Q (.bool (g i j)) s->wpAny (model X.prog X.w) X.A (f (.int i t) (.int j u)) Q E s) :
  jL X f (M4 λi j=>.bl (g i j)):=by
 intro pins s σ H x y v u Q I rx ry h;obtain⟨i,j,rfl,rfl,q⟩:=h;obtain⟨t,rfl⟩:=rx;obtain⟨t',rfl⟩:=ry;exact rule i j t t' s _ _ ⟨.bl _,H,I,rfl,q⟩
def QE(i j:Int):Prop:=0<j/\j<1073741824
def SG(i j:Int):Prop:=0<=j/\j<=1000000/\i.natAbs<2^64
def N9(i j:Int):Prop:=(-(2^64)<i/\i<2^64)\/(-(2^64)<j/\j<2^64)
theorem N9.ok(h:N9 i j):IntMulOk i j:=by
 rcases h with⟨h1,h2⟩|⟨h1,h2⟩
 ·exact .of_left (intBits_le_64 h1 h2)
 ·exact .of_right (intBits_le_64 h1 h2)
theorem Oa:jL X (binaryOp .Add) (M4 λi j=>.int (i+j)):=QD λ_ _ _ _ _ _ _ q=>add_int q
theorem Ob:jL X (binaryOp .Sub) (M4 λi j=>.int (i-j)):=QD λ_ _ _ _ _ _ _ q=>sub_int q
theorem Oc:jL X (binaryOp .Mult) (rI N9 λi j=>.int (i*j)):=RS λ_ _ _ _ _ _ _ hc q=>mul_int q hc.ok
theorem KY:jL X (binaryOp .FloorDiv) (rI QE λi j=>.int (i / j)):=RS λi j _ _ _ _ _ hc q=>by have h1  := hc.1;have h2  := hc.2;exact floordiv_int #[1] (by grind) (.inl (PyProof.noPylong_small #[1]))
theorem Od:jL X (binaryOp .Mod) (rI (λ_ j=>0<j) λi j=>.int (i % j)):=RS λi j _ _ _ _ _ hc q=>mod_int' #[1] (by rw[Int.fmod_eq_emod_of_nonneg i #[1]];exact q)
theorem Oe:jL X (binaryOp .Pow) (rI SG λi j=>.int (i^j.toNat)):=RS λ_ _ _ _ _ _ _ hc q=>pow_int_small hc.1 hc.2.1 hc.2.2 q
theorem Um{g:Int->Int}
 (rule:∀(i:Int) (t:Tok) (s:YR) (Q:Yy) (E:Yy),Q (.int (g i) s.toks) {s with toks:=s.toks+1}->wpAny (model X.prog X.w) X.A (f (.int i t)) Q E s) :
  SF X f (rU λi=>.int (g i)):=by
 intro pins s σ H x v Q I rx h;obtain⟨i,rfl,q⟩:=h;obtain⟨t,rfl⟩:=rx;exact rule i t s _ _ ⟨.int (g i),H,I.tok _,⟨_,rfl⟩,q⟩
theorem Of:SF X (unaryOp .USub) (rU λi=>.int (-i)):=Um λ_ _ _ _ _ q=>neg_int q
end
noncomputable def QF:V->V->Bool
 |.non,.non=>true|.non,.int _=>true|.int _,.non=>true|.non,.bl _=>true|.bl _,.non=>true|.non,.str _=>true|.str _,.non=>true
 |.int _,.int _=>true|.bl _,.bl _=>true|.str _,.str _=>true|.byt _,.byt _=>true
 |.int _,.str _=>true|.str _,.int _=>true|.bl _,.str _=>true|.str _,.bl _=>true
 |_,_=>false
def Uo:R2:=λx y H Q=>QF x y=true/\Q (.bl (decide (x=y))) H
def Uq:R2:=λx y H Q=>QF x y=true/\Q (.bl (!decide (x=y))) H
theorem EL:decide (V.int i=V.int j)=(i==j):=by
 grind
theorem HD:decide (V.bl i=V.bl j)=(i==j):=by
 grind
theorem EM:decide (V.str i=V.str j)=(i==j):=by
 grind
theorem EN:decide (V.byt i=V.byt j)=(i.toList==j.toList):=by
 rw[V0]
 simp_all
section
variable {X:Cx} {a b c:Expr} {ta tb tc:TE} {pos:Pos}
theorem bL{σ:St}(I:Inv X pins σ H s)(q:Q (.bl k) H)(e:k=k'):EP X pins σ Q (.bool k') s:=by subst e;exact⟨.bl k,H,I,rfl,q⟩
theorem QG:jL X (compareOp .Eq) Uo:=by
 intro pins s σ H x y v u Q I rx ry h;obtain⟨hs,q⟩:=h
 cases x with
 |non=>
  cases rx
  cases y with
  |non=>cases ry;exact PySem.EqNone.eq_none_none (bL I q (by simp))
  |bl j=>cases ry;exact PySem.EqNone.eq_none_bool (bL I q (by simp))
  |int j=>obtain⟨t',rfl⟩:=ry;exact PySem.EqNone.eq_none_int (bL I q (by simp))
  |str j=>obtain⟨t',rfl⟩:=ry;exact PySem.EqNone.eq_none_str (bL I q (by simp))
  |_=>exact absurd (show false=true from hs) U9
 |bl i=>
  cases rx
  cases y with
  |non=>cases ry;exact PySem.EqNone.eq_bool_none (bL I q (by simp))
  |bl j=>cases ry;exact eq_bool (bL I q HD)
  |str j=>obtain⟨t',rfl⟩:=ry;exact PySem.EqMixed.eq_bool_str (bL I q (by simp))
  |_=>exact absurd (show false=true from hs) U9
 |int i=>
  obtain⟨t,rfl⟩:=rx
  cases y with
  |non=>cases ry;exact PySem.EqNone.eq_int_none (bL I q (by simp))
  |int j=>obtain⟨t',rfl⟩:=ry;exact eq_int (bL I q EL)
  |str j=>obtain⟨t',rfl⟩:=ry;exact PySem.EqMixed.eq_int_str (bL I q (by simp))
  |_=>exact absurd (show false=true from hs) U9
 |str i=>
  obtain⟨t,rfl⟩:=rx
  cases y with
  |non=>cases ry;exact PySem.EqNone.eq_str_none (bL I q (by simp))
  |bl j=>cases ry;exact PySem.EqMixed.eq_str_bool (bL I q (by simp))
  |int j=>obtain⟨t',rfl⟩:=ry;exact PySem.EqMixed.eq_str_int (bL I q (by simp))
  |str j=>obtain⟨t',rfl⟩:=ry;exact eq_str (bL I q EM)
  |_=>exact absurd (show false=true from hs) U9
 |byt i=>
  obtain⟨t,rfl⟩:=rx
  cases y with
  |byt j=>obtain⟨t',rfl⟩:=ry;exact PySem.W.eq_bytes (bL I q EN)
  |_=>exact absurd (show false=true from hs) U9
 |_=>cases y<;>exact absurd (show false=true from hs) U9
theorem QH:jL X (compareOp .NotEq) Uq:=by
 intro pins s σ H x y v u Q I rx ry h;obtain⟨hs,q⟩:=h
 cases x with
 |non=>
  cases rx
  cases y with
  |non=>cases ry;exact PySem.EqNone.ne_none_none (bL I q (by simp))
  |bl j=>cases ry;exact PySem.EqNone.ne_none_bool (bL I q (by simp))
  |int j=>obtain⟨t',rfl⟩:=ry;exact PySem.EqNone.ne_none_int (bL I q (by simp))
  |str j=>obtain⟨t',rfl⟩:=ry;exact PySem.EqNone.ne_none_str (bL I q (by simp))
  |_=>exact absurd (show false=true from hs) U9
 |bl i=>
  cases rx
  cases y with
  |non=>cases ry;exact PySem.EqNone.ne_bool_none (bL I q (by simp))
  |bl j=>cases ry;exact ne_bool (bL I q (Xx not HD))
  |str j=>obtain⟨t',rfl⟩:=ry;exact PySem.EqMixed.ne_bool_str (bL I q (by simp))
  |_=>exact absurd (show false=true from hs) U9
 |int i=>
  obtain⟨t,rfl⟩:=rx
  cases y with
  |non=>cases ry;exact PySem.EqNone.ne_int_none (bL I q (by simp))
  |int j=>obtain⟨t',rfl⟩:=ry;exact ne_int (bL I q (Xx not EL))
  |str j=>obtain⟨t',rfl⟩:=ry;exact PySem.EqMixed.ne_int_str (bL I q (by simp))
  |_=>exact absurd (show false=true from hs) U9
 |str i=>
  obtain⟨t,rfl⟩:=rx
  cases y with
  |non=>cases ry;exact PySem.EqNone.ne_str_none (bL I q (by simp))
  |bl j=>cases ry;exact PySem.EqMixed.ne_str_bool (bL I q (by simp))
  |int j=>obtain⟨t',rfl⟩:=ry;exact PySem.EqMixed.ne_str_int (bL I q (by simp))
  |str j=>obtain⟨t',rfl⟩:=ry;exact ne_str (bL I q (Xx not EM))
  |_=>exact absurd (show false=true from hs) U9
 |byt i=>
  obtain⟨t,rfl⟩:=rx
  cases y with
  |byt j=>obtain⟨t',rfl⟩:=ry;exact PySem.W.ne_bytes (bL I q (Xx not EN))
  |_=>exact absurd (show false=true from hs) U9
 |_=>cases y<;>exact absurd (show false=true from hs) U9
theorem QJ:jL X (compareOp .LtE) (M4 λi j=>.bl (decide (i<=j))):=N8 λ_ _ _ _ _ _ _ q=>le_int q
theorem QK:jL X (compareOp .Gt) (M4 λi j=>.bl (decide (j<i))):=N8 λ_ _ _ _ _ _ _ q=>gt_int q
theorem QL:jL X (compareOp .GtE) (M4 λi j=>.bl (decide (j<=i))):=N8 λ_ _ _ _ _ _ _ q=>ge_int q
theorem Gk:jL X (compareOp .In) (λx y H Q=>∃i j,x=.str i/\y=.str j/\Q (.bl (!(Builtin.Str.occurrences j i 0 j.length 1).isEmpty)) H):=by intro pins s σ H x y v u Q I rx ry h;obtain⟨i,j,rfl,rfl,q⟩:=h;obtain⟨t,rfl⟩:=rx;obtain⟨t',rfl⟩:=ry;exact in_str (bL I q rfl)
theorem zl:jL X (compareOp .NotIn) (λx y H Q=>∃i j,x=.str i/\y=.str j/\Q (.bl (!(!(Builtin.Str.occurrences j i 0 j.length 1).isEmpty))) H):=by intro pins s σ H x y v u Q I rx ry h;obtain⟨i,j,rfl,rfl,q⟩:=h;obtain⟨t,rfl⟩:=rx;obtain⟨t',rfl⟩:=ry;exact notIn_str (bL I q rfl)
theorem jL.or(h:jL X f r)(h':jL X f r'):jL X f (λx y H Q=>r x y H Q\/r' x y H Q):=by
 intro pins s σ H x y v u Q I rx ry q;rcases q with q|q
 ·exact h pins s σ H x y v u Q I rx ry q
 ·exact h' pins s σ H x y v u Q I rx ry q
theorem SH(b:Expr)(h:op≠.In:=by decide)(h2:op≠.NotIn:=by decide):behindInMarks op b=false:=by
 have e1:(op==CmpOp.In)=false:=by grind
 have e2:(op==CmpOp.NotIn)=false:=by grind
 cases b<;>simp[behindInMarks,e1,e2]
theorem KZ(ho:jL X (compareOp op) r)(ha:PE X a ta)(hb:PE X b tb)(hm:behindInMarks op b=false):PE X (.Compare a [op] [b] pos) (QB r ta tb):=by intro pins s σ H Q I h;exact wpAny_Compare1 (N7 ha hb I h λv u s2 x y H2 I2 rx ry q=>ho pins s2 σ H2 x y v u Q I2 rx ry q) hm
def M6(t:TE):TT:=λσ H Q=>t σ H λx H'=>∃k,x=.bl k/\Q k H'
theorem K0(ho:jL X (compareOp op) r)(ha:PE X a ta)(hb:PE X b tb)(hm:behindInMarks op b=false):PT X (.Compare a [op] [b] pos) (M6 (QB r ta tb)):=by
 intro pins s σ H Q I h
 refine wpAny_isTrue_Compare1 (bE (ha pins s σ H _ I h) λv s1 ⟨x,H1,I1,r1,q1⟩=>bE (hb pins s1 σ H1 _ I1 q1) λu s2 ⟨y,H2,I2,r2,q2⟩=>
  bE (ho pins s2 σ H2 x y v u _ I2 r1 r2 q2) λc s3 ⟨z,H3,I3,r3,k,e,q3⟩=>?_) hm
 subst e;cases r3;exact VN ⟨H3,I3,q3⟩
def C1(r r':R2)(ta tb tc:TE):TE:=λσ H Q=>ta σ H λx H1=>tb σ H1 λy H2=>r x y H2 λz H3=>∃k,z=.bl k /\
 (if k=true then tc σ H3 λw' H4=>r' y w' H4 Q else Q (.bl false) H3)
theorem HE(ho:jL X (compareOp op) r)(ho':jL X (compareOp op') r')(ha:PE X a ta)(hb:PE X b tb)(hc:PE X c tc)
 (hm:lastMarks [op,op'] [b,c]=false:=by with_unfolding_all rfl):PE X (.Compare a [op,op'] [b,c] pos) (C1 r r' ta tb tc):=by
 intro pins s σ H Q I h
 refine Compare_chain (bE (ha pins s σ H _ I h) λv s1 ⟨x,H1,I1,r1,q1⟩=>chain_link (bE (hb pins s1 σ H1 _ I1 q1) λu s2 ⟨y,H2,I2,r2,q2⟩=>
  bE (ho pins s2 σ H2 x y v u _ I2 r1 r2 q2) λd s3 ⟨z,H3,I3,r3,k,e,q3⟩=>?_)) hm
 subst e;cases r3;refine VN ?_
 cases k with
 |false=>exact ite_ff ⟨.bl false,H3,I3,rfl,q3⟩
 |true=>exact ite_tt (chain_last (bE (hc pins s3 σ H3 _ I3 q3) (by rintro w' s4 ⟨z',H4,I4,r4,q4⟩;exact ho' pins s4 σ H4 y z' u w' Q I4 r2 r4 q4)))
theorem HF(ho:jL X (compareOp op) r)(ho':jL X (compareOp op') r')(ha:PE X a ta)(hb:PE X b tb)(hc:PE X c tc)
 (hm:lastMarks [op,op'] [b,c]=false:=by with_unfolding_all rfl):PT X (.Compare a [op,op'] [b,c] pos) (M6 (C1 r r' ta tb tc)):=by
 intro pins s σ H Q I h
 refine isTrue_chain (bE (ha pins s σ H _ I h) λv s1 ⟨x,H1,I1,r1,q1⟩=>test_link (bE (hb pins s1 σ H1 _ I1 q1) λu s2 ⟨y,H2,I2,r2,q2⟩=>
  bE (ho pins s2 σ H2 x y v u _ I2 r1 r2 q2) λd s3 ⟨z,H3,I3,r3,k,e,q3⟩=>?_)) hm
 subst e;cases r3;refine VN ?_
 cases k with
 |false=>obtain⟨k',e',q'⟩:=q3;cases e';exact ite_ff ⟨H3,I3,q'⟩
 |true=>refine ite_tt (test_last (bE (hc pins s3 σ H3 _ I3 q3) λw' s4 ⟨z',H4,I4,r4,q4⟩=>bE (ho' pins s4 σ H4 y z' u w' _ I4 r2 r4 q4) λd' s5 ⟨z2,H5,I5,r5,k2,e2,q5⟩=>?_));subst e2;cases r5;exact VN ⟨H5,I5,q5⟩
noncomputable def Og(K:YG)(x:V)(H:Hp)(k:Bool):Prop:=
 match x with
 |.non=>k=false
 |.bl b=>k=b
 |.int i=>k=(i != 0)
 |.str y=>y.length<=sizeLine/\k=((y.length:Int) != 0)
 |.byt y=>y.size<=sizeLine/\k=((y.size:Int) != 0)
 |.ref p=>(∃xs,ji K H p xs/\k=!xs.isEmpty)\/(∃xs,gA K H p xs/\k=!xs.isEmpty)\/∃kvs,H p=some (.dK kvs)/\k=!kvs.isEmpty
 |_=>False
theorem C2(r:KV kvs vs):(!vs.isEmpty)=!kvs.isEmpty:=by cases r<;>rfl
theorem vn(r:Vals xs its):(!its.toArray.isEmpty)=!xs.isEmpty:=by cases r<;>simp
theorem rW:(sizeLine:Nat)<2^63:=by trivial
theorem C3:N6 X (λx H Q=>∃k,Og X.K x H k/\Q k H):=by
 intro pins s σ H x v Q I rx h;obtain⟨k,e,q⟩:=h;have hl:=rW;have hs:sizeLine=16777216:=VB
 cases x with
 |non=>cases rx;have e':k=false:=e;subst e';exact truthy_none ⟨H,I,q⟩
 |bl b=>cases rx;have e':k=b:=e;subst e';exact VN ⟨H,I,q⟩
 |int i=>obtain⟨t,rfl⟩:=rx;have e':k=(i != 0):=e;subst e';exact PySem.P.truthy_int ⟨H,I,q⟩
 |str y=>obtain⟨t,rfl⟩:=rx;obtain⟨hy,e'⟩:y.length<=sizeLine/\k=((y.length:Int) != 0):=e;subst e';exact PySem.P.truthy_str #[1] ⟨H,I.tok _,q⟩
 |byt y=>obtain⟨t,rfl⟩:=rx;obtain⟨hy,e'⟩:y.size<=sizeLine/\k=((y.size:Int) != 0):=e;subst e';exact PySem.W.truthy_bytes #[1] ⟨H,I.tok _,q⟩
 |ref p=>
  cases rx;have e':(∃xs,ji X.K H p xs/\k=!xs.isEmpty)\/(∃xs,gA X.K H p xs/\k=!xs.isEmpty)\/∃kvs,H p=some (.dK kvs)/\k=!kvs.isEmpty:=e;rcases e' with⟨xs,hx,e'⟩|⟨xs,hx,e'⟩|⟨kvs,hx,e'⟩
  ·subst e';obtain⟨its,r,pl,hz⟩:=I.list hx;have hlen:=r.length;exact wpAny_truthy_list pl.isList (by simp only[UY];omega) ⟨H,I.tok _,by rw[vn r];exact q⟩
  ·subst e';obtain⟨its,r,pl,hz⟩:=I.tuple hx;have hlen:=r.length;exact truthy_tuple pl (by simp only[UY];omega) ⟨H,I.tok _,by rw[vn r];exact q⟩
  ·subst e';obtain⟨hz,hS,vs,r,m⟩:kvs.length<=sizeLine/\(p==sysModules)=false/\∃vs,KV kvs vs/\s.heap.DictOf (cj X.prog X.w) p vs:=I.hok p _ hx;have hlen:kvs.length=vs.length:=U3 r;exact wpAny_truthy_dict hS m #[1] ⟨H,I.tok _,by rw[C2 r];exact q⟩
 |_=>exact(show False from e).elim
theorem HG(ha:PE X a ta)(he:∀whole,isTrue a X.env whole=(do let v <- whole;standAt a.pos;holding [v] (truthy v))) :
  PT X a (λσ H Q=>ta σ H λx H'=>∃k,Og X.K x H' k/\Q k H'):=by
 intro pins s σ H Q I h;exact isTrue_plain (bE (ha pins s σ H _ I h) (by rintro v s1 ⟨x,H1,I1,r1,q1⟩;exact C3 pins s1 σ H1 x v Q I1 r1 q1)) (he _)
theorem C4:jL X (binaryOp .Add) (λx y H Q=>∃i j,x=.str i/\y=.str j/\i.length+j.length<=sizeLine/\Q (.str (i++j)) H):=by intro pins s σ H x y v u Q I rx ry h;obtain⟨i,j,rfl,rfl,hz,q⟩:=h;obtain⟨t,rfl⟩:=rx;obtain⟨t',rfl⟩:=ry;exact add_str (λt' tk=>⟨.str _,H,I.tok _,⟨_,rfl⟩,q⟩) hz
theorem vals1(r:Vals [x] us):∃u,us=[u]/\RelV x u:=by
 cases r with
 |cons r1 r2=>cases r2;grind
theorem vals2(r:Vals [x,y] us):∃u w',us=[u,w']/\RelV x u/\RelV y w':=by
 cases r with
 |cons r1 r2=>
  cases r2 with
  |cons r3 r4=>cases r4;grind
theorem HH:dy X (.builtin "abs") (λxs H Q=>∃i,xs=[.int i]/\Q (.int (if i<0 then -i else i)) H):=by intro pins s σ H xs us Q I r h;obtain⟨i,rfl,q⟩:=h;obtain⟨u,rfl,t,rfl⟩:=vals1 r;exact call_abs_int λu tk=>⟨.int _,H,I.tok _,⟨_,rfl⟩,q⟩
theorem Gm(hc:X.calm=true):dy X (.builtin "max") (λxs H Q=>∃i j,xs=[.int i,.int j]/\Q (.int (if j>i then j else i)) H):=by
 intro pins s σ H xs us Q I r h;obtain⟨i,j,rfl,q⟩:=h;obtain⟨u,w',rfl,⟨t,rfl⟩,⟨t',rfl⟩⟩:=vals2 r;refine max_two_ints (I.ok.hd hc) λh' tk k=>⟨_,H,I.kept k,?_,q⟩;by_cases hj:j>i
 ·rw[if_pos hj,if_pos hj];exact⟨_,rfl⟩
 ·rw[if_neg hj,if_neg hj];exact⟨_,rfl⟩
theorem Gn(hc:X.calm=true):dy X (.builtin "min") (λxs H Q=>∃i j,xs=[.int i,.int j]/\Q (.int (if j<i then j else i)) H):=by
 intro pins s σ H xs us Q I r h;obtain⟨i,j,rfl,q⟩:=h;obtain⟨u,w',rfl,⟨t,rfl⟩,⟨t',rfl⟩⟩:=vals2 r;refine min_two_ints (I.ok.hd hc) λh' tk k=>⟨_,H,I.kept k,?_,q⟩;by_cases hj:j<i
 ·rw[if_pos hj,if_pos hj];exact⟨_,rfl⟩
 ·rw[if_neg hj,if_neg hj];exact⟨_,rfl⟩
theorem Gp:dy X (.type "int") (λxs H Q=>(∃i,xs=[.int i]/\Q (.int i) H)\/∃k,xs=[.bl k]/\Q (.int (if k then 1 else 0)) H):=by
 intro pins s σ H xs us Q I r h;rcases h with⟨i,rfl,q⟩|⟨k,rfl,q⟩
 ·obtain⟨u,rfl,t,rfl⟩:=vals1 r;exact call_int_int ⟨.int i,H,I,⟨_,rfl⟩,q⟩
 ·obtain⟨u,rfl,r1⟩:=vals1 r;cases r1;exact call_int_bool ⟨.int _,H,I.tok _,⟨_,rfl⟩,q⟩
def SI(K:YG)(x:V)(H:Hp)(n:Nat):Prop:=
 match x with
 |.str y=>y.length<=sizeLine/\n=y.length
 |.byt y=>y.size<=sizeLine/\n=y.size
 |.ref p=>(∃xs,ji K H p xs/\n=xs.length)\/∃xs,gA K H p xs/\n=xs.length
 |_=>False
theorem HI:dy X (.builtin "len") (λxs H Q=>∃x n,xs=[x]/\SI X.K x H n/\Q (.int n) H):=by
 intro pins s σ H xs us Q I r h;obtain⟨x,n,rfl,e,q⟩:=h;obtain⟨u,rfl,rx⟩:=vals1 r;have hl:=rW;have hs:sizeLine=16777216:=VB
 cases x with
 |str y=>obtain⟨t,rfl⟩:=rx;obtain⟨hy,e'⟩:y.length<=sizeLine/\n=y.length:=e;subst e';exact len_str #[1] ⟨.int _,H,I.tok _,⟨_,rfl⟩,q⟩
 |byt y=>obtain⟨t,rfl⟩:=rx;obtain⟨hy,e'⟩:y.size<=sizeLine/\n=y.size:=e;subst e';exact PySem.W.len_bytes #[1] ⟨.int _,H,I.tok _,⟨_,rfl⟩,q⟩
 |ref p=>
  cases rx;have e':(∃xs,ji X.K H p xs/\n=xs.length)\/∃xs,gA X.K H p xs/\n=xs.length:=e;rcases e' with⟨xs,hx,e'⟩|⟨xs,hx,e'⟩
  ·subst e';obtain⟨its,r',pl,hz⟩:=I.list hx;have hlen:=r'.length;exact Calls.call_len_list pl.isList (by simp only[UY];omega) ⟨.int xs.length,H,I.tok _,⟨_,by simp only[UY];rw[hlen]⟩,q⟩
  ·subst e';obtain⟨its,r',pl,hz⟩:=I.tuple hx;have hlen:=r'.length;exact len_tuple pl (by simp only[UY];omega) ⟨.int xs.length,H,I.tok _,⟨_,by simp only[UY];rw[hlen]⟩,q⟩
 |_=>exact(show False from e).elim
theorem A4:dy X (.builtin "divmod") (λxs H Q=>∃i j,xs=[.int i,.int j]/\QE i j/\∀p,H p=none->Q (.ref p) (upd H p (.tup [.int (i / j),.int (i % j)]))):=by intro pins s σ H xs us Q I r h;obtain⟨i,j,rfl,⟨h1,h2⟩,q⟩:=h;obtain⟨u,w',rfl,⟨t,rfl⟩,⟨t',rfl⟩⟩:=vals2 r;refine divmod_int #[1] ?_ (.inl (PyProof.noPylong_small #[1]));rw[Int.fdiv_eq_ediv_of_nonneg i #[1],Int.fmod_eq_emod_of_nonneg i #[1]];have hn  := I.hok.fresh (UJ _);refine⟨.ref #[2],_,?_,rfl,q _ hn⟩;refine I.laid (λb o e=>UE _ e) (UJ _) ⟨by simp[VB],[.int _ s.toks,.int _ (s.toks+1)],.cons ⟨_,rfl⟩ (.cons ⟨_,rfl⟩ .nil),?_⟩;exact⟨_,UL s.heap rfl,rfl,0,rfl⟩
end
structure Oh(h:Heap)(x dx C:Addr)(mA:YC):Prop where
 obj:h.get? x=some (PySem.W.instObj C dx)
 ns:h.Ns1 dx mA
 ne:dx≠x
theorem Gq{h:Heap}(n:h.Ns1 dx mA):∃od,h.get? dx=some od/\∀name,PySem.W.lookIn name od=some (mA name):=by
 obtain⟨o,es,ep,ho,hd,hk,_,hm⟩:=n;refine⟨o,ho,λname=>?_⟩;have e:=hm name;unfold nsFind findBy at e;rw[<- Array.find?_toList]at e;unfold PySem.W.lookIn;rw[hd];dsimp only;split
 ·grind
 ·rename_i q;rw[q]at e;have a:es.toList.any (·.refKey)=false:=by rw[XM];intro y hy;obtain⟨z,t,hkey⟩:=hk y (WH.mp hy);simp[DictEntry.refKey,hkey]
  grind
theorem Oh.look(I:Oh h x dx C mA):∃od,PySem.W.InstAt h x (PySem.W.instObj C dx) C (some od)/\∀name,PySem.W.lookIn name od=some (mA name):=
 by obtain⟨od,ho,hl⟩:=Gq I.ns;exact⟨od,⟨I.obj,rfl,rfl,ho⟩,hl⟩
theorem vj.some_of(r:vj (some v) o):∃u,o=some u/\RelV v u:=by
 cases o with
 |none=>trivial
 |some u=>exact⟨u,rfl,r⟩
section
variable {P:YN} {w:World} {H H':Hp} {h h':Heap} {a C dx:Addr} {fs fs':List (Str×V)}
theorem K4(hok:nZ P w H h)(e:H a=some (.ins C dx fs)):∃mA,Oh h a dx C mA/\(∀f,vj (fs.lookup f) (mA f))/\PySem.Within mA (fs.map (·.1))/\fs.length<=1000/\H dx=some (.own a):=by obtain⟨d,z,ne,ob,mA,n,r,q⟩:=(hok a _ e);exact⟨mA,⟨ob,n,ne⟩,r,q,z,d⟩
end
structure SJ(K:YG)(C:Addr):Prop where
 pg:PySem.W.plainGet K C Str.empty=true
 hd:PySem.W.hasDictIn K C=true
 po:PySem.W.plainOver K C=true
 sa:PySem.W.findIn K (.ref C) "__setattr__" = some (some (.builtin "object.__setattr__"))
theorem SJ.get{K:YG}(c:SJ K C)(f:Str):PySem.W.plainGet K C f=true:=c.pg
section
variable {X:Cx} {pins:Yz} {σ:St} {H:Hp} {s:YR} {A:YQ} {E:Yy} {Q:Yy} {c:Value} {b:Bool}
inductive qk (K:YG) (H:Hp):V->Value->Prop where
 |non:qk K H .non (.type "NoneType")
 |bl (x:Bool):qk K H (.bl x) (.type "bool")
 |int (i:Int):qk K H (.int i) (.type "int")
 |str (x:Str):qk K H (.str x) (.type "str")
 |flt (x:UInt64):qk K H (.flt x) (.type "float")
 |lst {a:Addr} {xs:List V} (e:H a=some (.lst xs)):qk K H (.ref a) (.type "list")
 |frz {a:Addr} {o:Obj} {xs:List V} (e:H a=some (.frz o (.lst xs))):qk K H (.ref a) (.type "list")
 |tup {a:Addr} {xs:List V} (e:H a=some (.tup xs)):qk K H (.ref a) (.type "tuple")
 |dK {a:Addr} {kvs:List (Key×V)} (e:H a=some (.dK kvs)):qk K H (.ref a) (.type "dict")
 |dT {a:Addr} {kvs:List (List Key×V)} (e:H a=some (.dT kvs)):qk K H (.ref a) (.type "dict")
 |ins {a C dx:Addr} {fs:List (Str×V)} (e:H a=some (.ins C dx fs)) (cl:SJ K C) (ha:PySem.W.findIn K (.ref C) "__class__" = some (some (.builtin "object.__class__")))
   (hn:PySem.W.specialIn K (.builtin "object.__class__") "__get__" = some (some (.builtin "getset_descriptor.__get__"))) (htk:PySem.W.takesIn K (.builtin "object.__class__")=some true)
   (hm:PySem.W.mroIn K C (.type "object")=some true):qk K H (.ref a) (.ref C)
theorem Gr(I:Inv X pins σ H s)(rx:RelV x u)(ty:qk X.K H x t)(e:PySem.W.kitOne X.K t c=some b)(h:∀tk,Q (.bool b) {s with toks:=tk}) :
  wpAny (model X.prog X.w) A (call (.builtin "isinstance") [u,c]) Q E s:=by
 cases ty with
 |non=>cases(show u=Value.none from rx);exact VS PySem.W.kitx_none I.vk True.intro e (λz=>nomatch z) h
 |bl y=>cases(show u=Value.bool y from rx);exact VS PySem.W.kitx_bool I.vk True.intro e (λz=>nomatch z) h
 |int i=>obtain⟨t,q⟩:=(show ∃t,u=Value.int i t from rx);cases q;exact VS PySem.W.kitx_int I.vk True.intro e (λz=>nomatch z) h
 |str y=>obtain⟨t,q⟩:=(show ∃t,u=Value.str y t from rx);cases q;exact VS PySem.W.kitx_str I.vk True.intro e (λz=>nomatch z) h
 |flt y=>obtain⟨t,q⟩:=(show ∃t,u=Value.float y t from rx);cases q;exact VS PySem.W.kitx_float I.vk True.intro e (λz=>nomatch z) h
 | @lst a xs ea=>cases(show u=Value.ref a from rx);obtain⟨_,_,n,_,h1⟩:=(show cL X.prog X.w H s.heap a (.lst xs)from I.hok a _ ea);exact VS PySem.W.kitx_list I.vk ⟨_,h1,rfl⟩ e (λz=>nomatch z) h
 | @frz a ob xs ea=>cases(show u=Value.ref a from rx);obtain⟨_,_,_,n,_,h1⟩:=(show cL X.prog X.w H s.heap a (.frz ob (.lst xs))from I.hok a _ ea);exact VS PySem.W.kitx_list I.vk ⟨_,h1,rfl⟩ e (λz=>nomatch z) h
 | @tup a xs ea=>cases(show u=Value.ref a from rx);obtain⟨_,_,_,p⟩:=(show cL X.prog X.w H s.heap a (.tup xs)from I.hok a _ ea);obtain⟨o,h1,h2,_⟩:=p;exact VS PySem.W.kitx_tuple I.vk ⟨o,h1,h2⟩ e (λz=>nomatch z) h
 | @dK a kvs ea=>cases(show u=Value.ref a from rx);obtain⟨_,_,vs,_,p⟩:=(show cL X.prog X.w H s.heap a (.dK kvs)from I.hok a _ ea);obtain⟨o,es,ep,h1,h2,_⟩:=p;exact VS PySem.W.kitx_dict I.vk ⟨o,h1,h2.1⟩ e (λz=>nomatch z) h
 | @dT a kvs ea=>cases(show u=Value.ref a from rx);obtain⟨_,_,xs,_,o,es,ep,h1,h2,_⟩:=(show cL X.prog X.w H s.heap a (.dT kvs)from I.hok a _ ea);exact VS PySem.W.kitx_dict I.vk ⟨o,h1,h2.1⟩ e (λz=>nomatch z) h
 | @ins a C dx fs ea cl ha hn htk hm=>cases(show u=Value.ref a from rx);obtain⟨mA,O,_⟩:=K4 I.hok ea;obtain⟨od,J,_⟩:=O.look;exact VS (PySem.W.kitx_own (cl.get _) cl.hd ha hn htk hm) I.vk J e (λz=>nomatch z) h
end
structure cE(k:Nat)(A:YQ):Prop where
 hd:A.handled=none
 dp:A.depth+3*k+5<recursionLimit
 un:A.units+16*k+200<cLine
 gd:A.guards=some []
theorem cE.mono(r:cE k A)(h:j<=k):cE j A:=⟨r.hd,by have:=r.dp;omega,by have:=r.un;omega,r.gd⟩
theorem cE.deeper(r:cE (k+1) A)(env:Env):cE k (A.deeper env):=
 ⟨r.hd,by have:=r.dp;show A.depth+1+3*k+5<_;omega,by have:=r.un;show A.units+3+16*k+200<_;omega,r.gd⟩
theorem cE.depth(r:cE k A):A.depth<recursionLimit:=by have:=r.dp;omega
theorem cE.units(r:cE k A):A.units+64<cLine:=by have:=r.un;omega
def Oi:TA:=λ_ H Q=>Q [] H
def HJ(ta:TE)(tr:TA):TA:=λσ H Q=>ta σ H λx H1=>tr σ H1 λxs H2=>Q (x::xs) H2
section
variable {X:Cx} {e:Expr} {es:YI} {te:TE} {t:TA} {pos:Pos}
theorem zm:PA X [] Oi:=λ_ _ _ _ H Q I h=>Calls.spliced_nil ⟨[],H,I,.nil,h⟩
theorem ql(ha:PE X e te)(hr:PA X es t)(hs:starEach (e::es) X.env=(false,eval e X.env)::starEach es X.env:=by rfl):PA X (e::es) (HJ te t):=by intro pos pins s σ H Q I h;rw[hs];refine Calls.spliced_cons (bE (ha pins s σ H _ I h) λu s1 ⟨x,H1,I1,r1,q1⟩=>?_);exact bE (hr pos pins s1 σ H1 _ I1 q1) (by rintro us s2 ⟨xs,H2,I2,r2,q2⟩;exact⟨x::xs,H2,I2,.cons r1 r2,q2⟩)
def SK(t:TA):TE:=λσ H Q=>t σ H λxs H1=>xs.length<=sizeLine/\∀p,H1 p=none->Q (.ref p) (upd H1 p (.tup xs))
def SM(t:TA):TE:=λσ H Q=>t σ H λxs H1=>xs.length<=sizeLine/\∀p,H1 p=none->Q (.ref p) (upd H1 p (.lst xs))
theorem HK(h:PA X es t):PE X (.Tuple es x1 pos) (SK t):=by intro pins s σ H Q I hq;refine wpAny_Tuple_spliced (bE (h pos pins s σ H _ I hq) λus s1 ⟨xs,H1,I1,r,z,q⟩=>⟨by grind[r.length],?_⟩);have hf  := I1.hok.fresh (UJ _);refine⟨.ref s1.heap.objs.size,upd H1 s1.heap.objs.size _,I1.laid (λb u e=>UE _ e) (UJ _) ?_,rfl,q _ hf⟩;exact⟨z,us,r,⟨_,UL _ rfl,rfl,_,rfl⟩⟩
theorem C5(h:PA X es t):PE X (.List es pos) (SM t):=by intro pins s σ H Q I hq;refine wpAny_List_spliced (bE (h pos pins s σ H _ I hq) λus s1 ⟨xs,H1,I1,r,z,q⟩=>⟨by grind[r.length],?_⟩);have hf  := I1.hok.fresh (UJ _);refine⟨.ref s1.heap.objs.size,upd H1 s1.heap.objs.size _,I1.laid (λb u e=>UE _ e) (UJ _) ?_,rfl,q _ hf⟩;exact⟨z,us,0,r,UL _ rfl⟩
end
abbrev Sp:=List V->Hp->VK->XK->Prop
abbrev M7:=List Env->Hp->YR->XK->Yy
structure La(P:YN)(w:World)(K:YG)(mg:YC)(base:Heap)(A:YQ)(outer:List Env)(s:YR)(H:Hp):Prop where
 frames:A.frames=some outer
 mod:Mod K mg base
 bs:∀b o,base.get? b=some o->s.heap.get? b=some o/\H b=none
 bsz:base.objs.size<=#[2]
 qj:s.heap.FunFrames base outer
 frf:∀b∈AX outer,H b=none
 hok:nZ P w H s.heap
 bare:AllBare s.gens
def CE(outer:List Env)(P:YN)(w:World)(H:Hp)(s:YR)(Q:VK)(u:Value)(s':YR):Prop:=
 ∃v H',s'.os=s.os/\AllBare s'.gens/\Un (AX outer) [] H H' s.heap s'.heap/\nZ P w H' s'.heap/\RelV v u/\Q v H'
def CR(CX:M7)(outer:List Env)(P:YN)(w:World)(H:Hp)(s:YR)(Q:VK)(E:XK)(r:Result)(s':YR):Prop:=
 match r with
 |.ok (.ret u)=>CE outer P w H s Q u s'
 |.ok _=>False
 |.error e=>CX outer H s E e s'
structure jQ(P:YN)(w:World)(K:YG)(mg:YC)(base:Heap)(CX:M7)(k:Nat)(f:Addr)(fd:FuncData)(ps:YH)(sp:Sp):Prop where
 len:∀vs H Q E,sp vs H Q E->vs.length=ps.length
 run:∀(A:YQ) (outer:List Env) (s:YR) (H:Hp) (args:Args) (us:YF) (vs:List V) (Q:VK) (E:XK),cE k A->La P w K mg base A outer s H->BindsTo s fd args (ps.zip us)->Vals vs us->sp vs H Q E ->
  codeAny (model P w) A (.call (.ref f) args) (CR CX outer P w H s Q E) s
theorem jQ.mono{K:YG}(F:jQ P w K mg base CX j f fd ps sp)(h:j<=k) :
  jQ P w K mg base CX k f fd ps sp:=⟨F.len,λA outer s H args us vs Q E hr=>F.run A outer s H args us vs Q E (hr.mono h)⟩
theorem jQ.imp{K:YG}(F:jQ P w K mg base CX k f fd ps sp)
 (h:∀vs H Q E,sp' vs H Q E->sp vs H Q E):jQ P w K mg base CX k f fd ps sp':=
 ⟨λvs H Q E q=>F.len vs H Q E (h _ _ _ _ q),λA outer s H args us vs Q E hr he hb hv hs=>F.run A outer s H args us vs Q E hr he hb hv (h _ _ _ _ hs)⟩
section
variable {X:Cx} {pins:Yz} {σ:St} {H:Hp} {s s':YR}
theorem Inv.QM(I:Inv X pins σ H s):La X.prog X.w X.K X.mg X.base X.A X.stack s H:=
 ⟨I.ok.frames,I.ok.mod,I.bs,UO I.ok.bsz I.sz,I.stack,I.EI,I.hok,I.bare⟩
theorem Inv.after(I:Inv X pins σ H s)(h:CE X.stack X.prog X.w H s Q u s'):EP X pins σ Q u s':=by obtain⟨v,H',os,bare,un,hok,r,q⟩:=h;obtain⟨hh,g,d,t,os'⟩:=s';obtain rfl:os'=s.os:=os;exact⟨v,H',I.call un hok bare (λb z=>absurd z (by simp)),r,q⟩
end
def M8(sp:Sp)(dvs:List V)(E:XK)(t:TA):TE:=λσ H Q=>t σ H λvs H1=>sp (vs++dvs) H1 Q E
def Binds(K:YG)(fd:FuncData)(ps:YH)(ds:YF):Prop:=
 ∀(s:YR) (us:YF),K.In s.heap->(us++ds).length=ps.length->BindsTo s fd ⟨us,[]⟩ (ps.zip (us++ds))
theorem Binds.all{K:YG}(h:∀us:YF,us.length=ps.length->bindArgs fd ⟨us,[]⟩=pure (ps.zip us)):Binds K fd ps []:=λs us _ hl=>by rw[V1]at hl ⊢;exact .of_eq (h us hl)
def Passes(CX:M7)(X:Cx)(E:XK):Prop:=∀(pins:Yz) (σ:St) (H:Hp) (s:YR) (e:Value) (s':YR),Inv X pins σ H s->CX X.stack H s E e s'->X.xe e s'
section
variable {X:Cx} {CX:M7} {k:Nat} {f C:Addr} {fd:FuncData} {ps:YH} {sp:Sp} {dvs:List V} {ds:YF} {E:XK} {x m:Str} {p pos apos:Pos} {e o:Expr} {es:YI} {ta:TE} {t:TA}
theorem HM{σ:St}(F:jQ X.prog X.w X.K X.mg X.base CX k f fd ps sp)(hr:cE k X.A)(hb:Binds X.K fd ps ds)(hd:Vals dvs ds)(hx:Passes CX X E)
 (I:Inv X pins σ H s)(r:Vals vs us)(h:sp (vs++dvs) H Q E):wpAny (model X.prog X.w) X.A (call (.ref f) us) (EP X pins σ Q) X.xe s:=by
 have r2  := r.append hd;have hl:(us++ds).length=ps.length:=by rw[<- r2.length];exact F.len _ _ _ _ h
 refine wpAny_call (Xq (F.run X.A X.stack s H _ _ _ Q E hr I.QM (hb s us I.vk hl) r2 h) λr s' hq=>?_)
 cases r with
 |error e=>exact hx pins σ H s e s' I hq
 |ok fl=>
  cases fl with
  |ret u=>exact I.after hq
  |next=>assumption
  |brk=>assumption
  |cont=>assumption
theorem Lb(F:jQ X.prog X.w X.K X.mg X.base CX k f fd ps sp)(hr:cE k X.A)(hg:Gl X x)(hm:X.mg x=some (.ref f))(hk:PySem.W.keepIn X.K (.ref f)=true)(hb:Binds X.K fd ps ds)(hd:Vals dvs ds)(hx:Passes CX X E)
 (ha:PA X (e::es) t)(hdb:(x==("__debug__" : Str))=false:=by decide)(he:starEach (e::es) X.env=(false,eval e X.env)::starEach es X.env:=by rfl)(hpl:(backTo pos (starEach es X.env)).any (·.1)=false:=by rfl) :
  PE X (.Call (.Name x p) (e::es) [] pos) (M8 sp dvs E t):=by
 intro pins s σ H Q I h;refine VL (zj I hg hm ?_ hdb);refine PySem.W.callWith_K I.ok.mod.kin hk (bE (ha pos pins s σ H _ I h) λus s1 ⟨vs,H1,I1,r,q⟩=>⟨I1.vk,?_⟩) he hpl;exact HM F hr hb hd hx I1 r q
end
noncomputable def PK(X:Cx)(kws:List Keyword)(t:TA):Prop:=
 ∀(pos:Pos) (pins:Yz) (s:YR) (σ:St) (H:Hp) (Q:List V->Hp->Prop),Inv X pins σ H s->t σ H Q->wpAny (model X.prog X.w) X.A (evalAll ((backToKw pos (keywordEach kws X.env)).map (·.2))) (AP X pins σ Q) X.xe s
section
variable {X:Cx} {CX:M7} {k:Nat} {f C:Addr} {fd:FuncData} {ps ks:YH} {sp:Sp} {E:XK} {x m:Str} {p pos apos kpos:Pos} {e o:Expr} {es:YI} {kws:List Keyword} {te ta:TE} {t tk:TA} {nm:Option Str}
theorem Oj:PK X [] Oi:=λ_ _ _ _ H Q I h=>wpAny_evalAll_nil ⟨[],H,I,.nil,h⟩
theorem Lc(ha:PE X e te)(hr:PK X kws t):PK X (⟨nm,e,kpos⟩::kws) (HJ te t):=by intro pos pins s σ H Q I h;refine wpAny_evalAll_cons (UC (bE (ha pins s σ H _ I h) λu s1 ⟨x,H1,I1,r1,q1⟩=>UC (VO (UD ?_))));exact bE (hr pos pins s1 σ H1 _ I1 q1) (by rintro us s2 ⟨xs,H2,I2,r2,q2⟩;exact⟨x::xs,H2,I2,.cons r1 r2,q2⟩)
structure zo(K:YG)(fd:FuncData)(ps ks:YH)(g:YF->YF->YF)(gV:List V->List V->List V):Prop where
 to:∀(s:YR) (us ws:YF),K.In s.heap->(g us ws).length=ps.length->BindsTo s fd ⟨us,ks.zip ws⟩ (ps.zip (g us ws))
 rel:∀{vs:List V} {us:YF} {zs:List V} {ws:YF},Vals vs us->Vals zs ws->Vals (gV vs zs) (g us ws)
def Ol(sp:Sp)(gV:List V->List V->List V)(E:XK)(t tk:TA):TE:=λσ H Q=>t σ H λvs H1=>tk σ H1 λzs H2=>sp (gV vs zs) H2 Q E
variable {g:YF->YF->YF} {gV:List V->List V->List V}
theorem Ld{σ:St}(F:jQ X.prog X.w X.K X.mg X.base CX k f fd ps sp)(hr:cE k X.A)(hb:zo X.K fd ps ks g gV)(hx:Passes CX X E)
 (I:Inv X pins σ H s)(r:Vals vs us)(rz:Vals zs ws)(h:sp (gV vs zs) H Q E):wpAny (model X.prog X.w) X.A (call (.ref f) us (ks.zip ws)) (EP X pins σ Q) X.xe s:=by
 have r2:=hb.rel r rz;have hl:(g us ws).length=ps.length:=by rw[<- r2.length];exact F.len _ _ _ _ h
 refine wpAny_call (Xq (F.run X.A X.stack s H _ _ _ Q E hr I.QM (hb.to s us ws I.vk hl) r2 h) λr s' hq=>?_)
 cases r with
 |error e=>exact hx pins σ H s e s' I hq
 |ok fl=>
  cases fl with
  |ret u=>exact I.after hq
  |next=>assumption
  |brk=>assumption
  |cont=>assumption
theorem HN(F:jQ X.prog X.w X.K X.mg X.base CX k f fd ps sp)(hr:cE k X.A)(hg:Gl X x)(hm:X.mg x=some (.ref f))(hk:PySem.W.keepIn X.K (.ref f)=true)(hb:zo X.K fd ps ks g gV)(hx:Passes CX X E)
 (ha:PA X (e::es) t)(hkw:PK X kws tk)(hall:(backToKw pos (keywordEach kws X.env)).all (·.1.isSome)=true:=by rfl)(hks:(backToKw pos (keywordEach kws X.env)).filterMap (·.1)=ks:=by rfl)
 (hdb:(x==("__debug__" : Str))=false:=by decide)(he:starEach (e::es) X.env=(false,eval e X.env)::starEach es X.env:=by rfl)
 (hpl:((backTo pos (starEach (e::es) X.env)).any (·.1) || (backToKw pos (keywordEach kws X.env)).any (·.1.isNone))=false:=by rfl) :
  PE X (.Call (.Name x p) (e::es) kws pos) (Ol sp gV E t tk):=by
 intro pins s σ H Q I h;refine VL (zj I hg hm ?_ hdb);refine PySem.W.callWith_KW (h₀:=X.base) I.ok.mod.kin hk hall (bE (ha pos pins s σ H _ I h) λus s1 ⟨vs,H1,I1,r,q⟩=>?_) hpl he;refine bE (hkw pos pins s1 σ H1 _ I1 q) λws s2 ⟨zs,H2,I2,rz,q2⟩=>⟨I2.vk,?_⟩;rw[hks];exact Ld F hr hb hx I2 r rz q2
end
structure aE(N P:YH)(sc:Scope):Prop where
 kind:sc.kind=.function
 co:sc.isCoroutine=false
 gen:sc.isGenerator=false
 nd:N.Nodup
 pre:N.take P.length=P
 par:∀x∈P,sc.names.lookup x=some .local\/sc.names.lookup x=some .cell
 nofree:∀y∈sc.names,y.2≠.free
theorem yb{kindOf:Str->Option NameKind}:∀{binds:List (Str×Value)} {m:YC},(∀v,(x,v)∉binds)->bindL kindOf binds m x=m x
 | [],_,_=>rfl
 | (n,v)::r,m,h=>by
  unfold bindL;rw[yb λw hw=>h w (UI _ hw)];split
  ·grind
  ·rfl
theorem yc{kindOf:Str->Option NameKind}:∀{binds:List (Str×Value)} {m:YC},(∀v,(x,v)∉binds)->bindC kindOf binds m x=m x
 | [],_,_=>rfl
 | (n,v)::r,m,h=>by
  unfold bindC;rw[yc λw hw=>h w (UI _ hw)];split
  ·rfl
  grind
theorem yd{kindOf:Str->Option NameKind}:∀{P:YH} {vs:YF} {i:Nat} {m:YC},P.Nodup->P[i]?=some x->vs[i]?=some v->kindOf x=some .local ->
  bindL kindOf (P.zip vs) m x=some v
 | [],_,_,_,_,h,_,_=>by simp at h
 |_::_,[],_,_,_,_,h,_=>by simp at h
 |p::P,w::vs,0,m,nd,h1,h2,hk=>by simp at h1 h2;subst h1;subst h2;show bindL kindOf ((p,w)::P.zip vs) m p=_;unfold bindL;rw[yb λv hv=>(VE.mp nd).1 (Ye hv).1,if_pos hk];simp
 |p::P,w::vs,i+1,m,nd,h1,h2,hk=>by unfold bindL;exact yd (i:=i) (VE.mp nd).2 (by simp_all) (by simp_all) hk
theorem ye{kindOf:Str->Option NameKind}:∀{P:YH} {vs:YF} {i:Nat} {m:YC},P.Nodup->P[i]?=some x->vs[i]?=some v->kindOf x≠some .local ->
  bindC kindOf (P.zip vs) m x=some v
 | [],_,_,_,_,h,_,_=>by simp at h
 |_::_,[],_,_,_,_,h,_=>by simp at h
 |p::P,w::vs,0,m,nd,h1,h2,hk=>by simp at h1 h2;subst h1;subst h2;show bindC kindOf ((p,w)::P.zip vs) m p=_;unfold bindC;rw[yc λv hv=>(VE.mp nd).1 (Ye hv).1,if_neg hk];simp
 |p::P,w::vs,i+1,m,nd,h1,h2,hk=>by unfold bindC;exact ye (i:=i) (VE.mp nd).2 (by simp_all) (by simp_all) hk
def start(N:YH)(vs:List V):St:=vs.map some++List.replicate (N.length-vs.length) none
noncomputable def vo(CX:M7)(P:YN)(w:World)(K:YG)(mg:YC)(base:Heap)(N:YH)(qual:Str)(scope:Scope)(f:Addr)(cd:Value)(A:YQ)(outer:List Env)(s:YR)(H:Hp)(E:XK):Cx where
 prog:=P
 w:=w
 K:=K
 mg:=mg
 base:=base
 A:=A.deeper (envOfC qual scope #[2] f cd)
 N:=N
 s₀:=s
 H₀:=H
 env:=envOfC qual scope #[2] f cd
 outer:=outer
 stack:=envOfC qual scope #[2] f cd::outer
 ex:=[]
 calm:=true
 fn:=λ_=>true
 pn:=[]
 xe:=λe s'=>wpAny (model P w) (A.deeper (envOfC qual scope #[2] f cd)) (leaving (envOfC qual scope #[2] f cd) e) (λ_ s''=>CX outer H s E e s'') (λe' s''=>CX outer H s E e' s'') s'
theorem A5{sc:Scope}(h:sc.names.lookup x=some .cell):∃c,(cellsFrom n sc.names []).lookup x=some c:=by have q:=XD sc.names n [] (.inl h);exact Option.isSome_iff_exists.mp q
theorem Gs{K:YG}
 (S:aE N ps scope)(hd:A.handled=none)(e0:La P w K mg base A outer s H)(hl:vs.length=ps.length)(r:Vals vs us)
 (x:InCallC s #[2] (bindL (envOfC qual scope #[2] f cd).kindOf (ps.zip us) λ_=>none) (cellsFrom (#[2]+1) scope.names []) (bindC (envOfC qual scope #[2] f cd).kindOf (ps.zip us) λ_=>none) s1) :
  Inv (vo CX P w K mg base N qual scope f cd A outer s H E) [] (start N vs) H s1:=by
 have hpl:ps.length<=N.length:=by have:=Xx List.length S.pre;grind
 obtain⟨h1,tk,rfl,hk⟩:=x.done;have noA:∀b:Addr,b∉(vo CX P w K mg base N qual scope f cd A outer s H E).ex:=λb z=>absurd (show b∈([]:YE)from z) (by simp)
 refine⟨⟨e0.mod,S.kind,rfl,rfl,UJ _,λy z c h1 h2=>?_,λy hy=>?_,λy c _ h=>?_,λ_=>hd,Around.frames_deeper e0.frames,.inr ⟨rfl,rfl⟩,λb z=>absurd z (noA b),e0.bs,e0.bsz,λb _ _=>noA b,λb z=>absurd z (noA b),e0.qj,e0.frf⟩,
  rfl,e0.bare,Un.kept hk,⟨_,x.toInCall.ns,λi y v h1 h2 h3=>?_⟩,λy c h=>⟨_,x.cell y c h⟩,e0.hok.fresh (UJ _),λy c h=>?_,λp hp=>absurd (show p∈([]:Yz)from hp) (by simp),e0.hok.kept hk,?_⟩
 ·exact name_of_addr x.apart (VW h1) (VW h2)
 ·have hy:scope.names.lookup y=some .cell\/scope.names.lookup y=some .free:=hy;rcases hy with hy|hy
  ·exact A5 hy
  ·exact absurd rfl (S.nofree _ (VW hy))
 ·exact Xp (x.above y c (VW h))
 ·have hi:i<vs.length:=by
   unfold start at h2;by_cases hi:i<vs.length
   ·exact hi
   ·rw[Vl (by simpa using hi)]at h2;rw[WT]at h2;split at h2<;>cases h2
  have ha:vs[i]?=some v:=by
   unfold start at h2;rw[Vc (by simpa using hi),Vo]at h2
   cases e:vs[i]? with
   |none=>rw[e]at h2;cases h2
   |some a=>rw[e]at h2;cases h2;rfl
  obtain⟨u,hu,rv⟩:=r.get ha;have hp:ps[i]?=some y:=by rw[<- S.pre,Xr #[1]];exact h1
  have ndP:ps.Nodup:=by rw[<- S.pre];exact S.nd.sublist (W7 _ _)
  refine⟨u,rv,?_⟩;rcases S.par y (U6 hp)with k|k
  ·exact .inl ⟨k,yd ndP hp hu k⟩
  ·obtain⟨c,e⟩:=A5 (n:=#[2]+1) k;refine .inr ⟨.inl k,c,e,?_⟩;have q:=x.cell y c e;rw[ye ndP hp hu (by show scope.names.lookup y≠_;rw[k];decide)]at q;exact q
 ·exact e0.hok.fresh (Xp (x.above y c (VW h)))
 ·unfold start;show _=N.length;rw[U5,UX,W3];omega
theorem QN{K:YG}{dV kV doc pm cdv ct oc:Value}
 (lk:K.lookup f=some ⟨oc,od,.func (PySem.W.fnOf name qual params body scope dV kV doc pm an cdv ct),osl⟩)(hcd:PySem.W.codeIn K cdv qual=true)(S:aE N ps scope)
 (len:∀vs H Q E,sp vs H Q E->vs.length=ps.length)
 (hbody:∀(A:YQ) (outer:List Env) (s:YR) (H:Hp) (vs:List V) (Q:VK) (E:XK),cE k (A.deeper (envOfC qual scope #[2] f cdv))->sp vs H Q E ->
   ∃t,A3 (vo CX P w K mg base N qual scope f cdv A outer s H E) body t/\t {nx:=λ_ H'=>Q .non H',rt:=Q} (start N vs) H) :
  jQ P w K mg base CX (k+1) f (PySem.W.fnOf name qual params body scope dV kV doc pm an cdv ct) ps sp:=by
 refine⟨len,λA outer s H args us vs Q E hr e0 hb r hsp=>?_⟩;have hl:=len _ _ _ _ hsp;have KX:K.In s.heap:=e0.mod.kin.keeps λb o e=>(e0.bs b o e).1;have lim:s.heap.NoLimit:=e0.mod.nolimit.keeps λb o e=>(e0.bs b o e).1
 have hkind:∀y∈ps.zip us,scope.names.lookup y.1=some .local\/(scope.names.lookup y.1=some .cell/\((cellsFrom (#[2]+1) scope.names []).lookup y.1).isSome=true):=by
  rintro⟨n,v⟩ hy;rcases S.par n (Ye hy).1 with q|q
  ·grind
  ·exact .inr ⟨q,XD _ _ _ (.inl q)⟩
 refine codeAny_call_function hr.depth (KX _ _ lk) rfl S.co S.gen rfl (PySem.W.codeRec_of KX hcd) (hb _ _ _ _ ?_);refine wpAny_newFunctionEnv_cells S.kind hkind λenv he s1 x=>?_;subst he;refine⟨lim.keeps x.toInCall.keep,codeAny_func ?_⟩;obtain⟨t,ht,hq⟩:=hbody A outer s H vs Q E (hr.deeper _) hsp;have I:Inv (vo CX P w K mg base N qual scope f cdv A outer s H E) [] (start N vs) H s1:=Gs S hr.hd e0 hl r x;refine VG (ht [] s1 (start N vs) H _ I hq) (λfl s' hs=>?_) λe s' hs=>hs
 have fin:∀{σ':St} {H':Hp} {v:V} {u:Value},Inv (vo CX P w K mg base N qual scope f cdv A outer s H E) [] σ' H' s'->RelV v u->Q v H'->CE outer P w H s Q u s':=
  λ{σ' H' v u} J rv q=>⟨v,H',J.os,J.bare,J.base,J.hok,rv,q⟩
 cases fl with
 |ret u=>obtain⟨v,σ',H',J,rv,q⟩:=hs;exact fin J rv q
 |next=>obtain⟨σ',H',J,q⟩:=hs;exact fin (v:=V.non) (u:=Value.none) J rfl q
 |brk=>obtain⟨_,_,_,q⟩:=hs;exact False.elim q
 |cont=>obtain⟨_,_,_,q⟩:=hs;exact False.elim q
section
variable {X:Cx} {x:Str} {p pos:Pos} {e:Expr} {es:YI} {t:TA} {id T:String} {r:List V->Hp->VK->Prop}
def SN(r:List V->Hp->VK->Prop)(t:TA):TE:=λσ H Q=>t σ H λvs H1=>r vs H1 Q
theorem A6(hc:dy X (.builtin id) r)(hg:Gl X x)(hm:X.mg x=none)(hv:bootBuiltins x=some (.builtin id))(ha:PA X (e::es) t)(hn:x ≠ "__name__" := by decide)(hdb:(x==("__debug__" : Str))=false:=by decide)
 (he:starEach (e::es) X.env=(false,eval e X.env)::starEach es X.env:=by rfl)(hpl:(backTo pos (starEach es X.env)).any (·.1)=false:=by rfl):PE X (.Call (.Name x p) (e::es) [] pos) (SN r t):=by
 intro pins s σ H Q I h;refine VL (lC I hg hm hv ?_ hn hdb);exact XZ (bE (ha pos pins s σ H _ I h) (by rintro us s1 ⟨vs,H1,I1,r1,q1⟩;exact hc pins s1 σ H1 vs us Q I1 r1 q1)) he hpl
theorem Gu(hc:dy X (.type T) r)(hg:Gl X x)(hm:X.mg x=none)(hv:bootBuiltins x=some (.type T))(ha:PA X (e::es) t)(hn:x ≠ "__name__" := by decide)(hdb:(x==("__debug__" : Str))=false:=by decide)
 (he:starEach (e::es) X.env=(false,eval e X.env)::starEach es X.env:=by rfl)(hpl:(backTo pos (starEach es X.env)).any (·.1)=false:=by rfl):PE X (.Call (.Name x p) (e::es) [] pos) (SN r t):=by
 intro pins s σ H Q I h;refine VL (lC I hg hm hv ?_ hn hdb);exact Wm (bE (ha pos pins s σ H _ I h) (by rintro us s1 ⟨vs,H1,I1,r1,q1⟩;exact hc pins s1 σ H1 vs us Q I1 r1 q1)) he hpl
end
end L2
namespace HT
open PySem PyProof.Rows
section
variable {prog:YN} {w:World} {A:YQ} {E:Yy} {s:YR}
theorem Le(ht:IsTup s.heap t vs.toArray)(hb:IsTup s.heap b ws.toArray)(hv:vs≠[])
 (h1:ws=[]->Q (.ref t) s)(h2:ws≠[]->Q (.ref #[2]) {s with heap:=s.heap.push {cls:=.type "tuple",data:=.seq (vs++ws).toArray}})
 (hsz:vs.length+ws.length<=sizeLine):wpAny (model prog w) A (binaryOp .Add (.ref t) (.ref b)) Q E s:=by
 obtain⟨⟨cls,dd,data,sl⟩,ho,hc,n,hd⟩:=id ht;obtain⟨⟨cls2,dd2,data2,sl2⟩,ho2,hc2,n2,hd2⟩:=id hb;subst hc hd hc2 hd2;by_cases hw:ws=[]
 ·exact concat_meets ⟨_,ho,rfl⟩ ⟨_,ho2,rfl⟩ noFill_tuple_add seq_tuple_add XF Xy (Xs _ _)
   (tuple_addW1 t b vs.toArray ws.toArray n n2 dd dd2 sl sl2 (by grind) (by grind)) ⟨ho,ho2,h1 hw⟩
 ·refine concat_meets ⟨_,ho,rfl⟩ ⟨_,ho2,rfl⟩ noFill_tuple_add seq_tuple_add XF Xy (Xs _ _)
   (tuple_addW2 t b vs.toArray ws.toArray n n2 dd dd2 sl sl2 (by grind) (by simp_all) #[1]) ⟨ho,ho2,?_⟩
  simp_all
def fT(n d:Nat):Option Int->Nat
 |none=>d
 |some v=>if v<0 then(v+(n:Int)).toNat else min v.toNat n
theorem Om(n d:Nat)(hd:d<=n)(o:Option Int):fT n d o<=n:=by
 cases o with
 |none=>exact hd
 |some v=>
  show(if v<0 then(v+(n:Int)).toNat else min v.toNat n)<=n
  grind
theorem EO(v:Int)(n d:Nat):(if v<0 then max (v+(n:Int)) 0 else min v (n:Int))=((fT n d (some v):Nat):Int):=by
 show _=(((if v<0 then(v+(n:Int)).toNat else min v.toNat n):Nat):Int)
 grind
theorem C6(lo hi:Option Int)(n:Nat):Builtin.Slice.sliceAdjust lo hi 1 (n:Int)=(((fT n 0 lo:Nat):Int),((fT n n hi:Nat):Int)):=by
 refine Prod.ext ?_ ?_
 ·cases lo with
  |none=>rfl
  |some v=>exact EO v n 0
 ·cases hi with
  |none=>rfl
  |some v=>exact EO v n n
theorem C7(i j:Nat):Builtin.Slice.slicePlaces (i:Int) (j:Int) 1=j-i:=by
 grind[Builtin.Slice.slicePlaces]
theorem vq(p:IsPart v o)(h:Q o s):wpAny (model prog w) A (Builtin.Slice.slicePartIndex v) Q E s:=by
 cases p with
 |none=>exact slicePart_none h
 |int i t=>exact slicePart_int h
theorem kI{lo hi:Option Int}{Q:Int×Int×Nat->YR->Prop}(hs:s.heap.IsSliceOf sl vl vu .none)(pl:IsPart vl lo)(pu:IsPart vu hi)
 (h:Q (((fT n 0 lo:Nat):Int),1,fT n n hi-fT n 0 lo) s):wpAny (model prog w) A (Builtin.Slice.sliceApplied (.ref sl) (pure (n:Int))) Q E s:=by
 obtain⟨os,hos,hcs,hds⟩:=id hs;refine UC (UC (V2 hos hds rfl (UC (V2 hos hds rfl (UC (V2 hos hds rfl (UD ?_)))))));refine UC (slicePart_none ?_);refine UC (vq pl (UC (vq pu (UC (UD ?_)))));show wpAny _ _ (match Builtin.Slice.sliceAdjust lo hi 1 (n:Int)with | (lo,hi)=>pure (lo,(1:Int),Builtin.Slice.slicePlaces lo hi 1)) _ _ s;rw[C6 lo hi n];show wpAny _ _ (pure (((fT n 0 lo:Nat):Int),(1:Int),Builtin.Slice.slicePlaces ((fT n 0 lo:Nat):Int) ((fT n n hi:Nat):Int) 1)) _ _ s;rw[C7];exact UD h
theorem HP(xs:YL)(i k:Nat):((List.range k).filterMap λ(m:Nat)=>xs[((i:Int)+(m:Int)*1).toNat]?).toArray=((xs.toList.drop i).take k).toArray:=by
 have e:(λ(m:Nat)=>xs[((i:Int)+(m:Int)*1).toNat]?)=λm=>xs[i+m]?:=by
  grind
 have:=pick_run xs i k;have e2:((λx=>xs[x]?)∘λx=>i+x)=λm=>xs[i+m]?:=rfl
 grind
theorem qm{lo hi:Option Int}(ht:IsTup s.heap t items)(hs:s.heap.IsSliceOf sl vl vu .none)(pl:IsPart vl lo)(pu:IsPart vu hi)
 (hw:¬ (fT items.size 0 lo=0/\fT items.size items.size hi=items.size))
 (h:Q (.ref #[2]) {s with heap:=s.heap.push {cls:=.type "tuple",data:=.seq ((items.toList.drop (fT items.size 0 lo)).take (fT items.size items.size hi-fT items.size 0 lo)).toArray}})
 (hsz:items.size<=sizeLine):wpAny (model prog w) A (getItem (.ref t) (.ref sl)) Q E s:=by
 have htake:sizeOk (.seq ((items.toList.drop (fT items.size 0 lo)).take (fT items.size items.size hi-fT items.size 0 lo)).toArray):=by show((items.toList.drop (fT items.size 0 lo)).take (fT items.size items.size hi-fT items.size 0 lo)).toArray.size<=sizeLine;rw[UY,WV,List.length_drop,Vr];omega
 have hj:fT items.size items.size hi<=items.size:=Om _ _ (UJ _) hi;obtain⟨os,hos,hcs,hds⟩:=id hs;have hTs:s.TypeIs (.ref sl) "slice" := ⟨os,hos,hcs⟩;unfold getItem
 try with_reducible refine U8 ?_
 first|refine UC (UD ?_)|skip
 refine UC (wpAny_sequenceKey ht.typeIs (by decide) ?_)
 refine UC (Vd (name:=Str.ofString "__getitem__") ht.typeIs Vv
  (U7 Vv ht.typeIs entry_tuple_getitem ?_ (args_tuple_getitem _ _)))
 show wpAny _ _ (Builtin.Tuple.tupleItemsOf (.ref t) >>= _) _ _ s;refine UC (tupleItemsOf_ ht ?_);refine UC (Xt hTs ?_);rw[if_pos (by decide)];refine UC (kI hs pl pu ?_);have hno:¬ ((((fT items.size 0 lo:Nat):Int)==0&&(1:Int)==1&&(fT items.size items.size hi-fT items.size 0 lo)==items.size)=true):=by intro q;rw[UH,UH]at q;have q1:((fT items.size 0 lo:Nat):Int)=0:=eq_of_beq q.1.1;have q2:fT items.size items.size hi-fT items.size 0 lo=items.size:=eq_of_beq q.2;exact hw ⟨by omega,by omega⟩
 show wpAny _ _ (if(((fT items.size 0 lo:Nat):Int)==0&&(1:Int)==1&&(fT items.size items.size hi-fT items.size 0 lo)==items.size)=true then _ else _) _ _ s;rw[if_neg hno,HP]
 first
  |exact UC (m:=Builtin.Tuple.tupleExact _) (Vh (UD ⟨_,rfl,UD h⟩) htake)
  |exact UC (m:=Builtin.Tuple.tupleExact _) (Vh (UC (UD (UD ⟨_,rfl,UD h⟩))) htake)
  |exact UC (UC (m:=Builtin.Tuple.tupleExact _) (Vh (UD (UD ⟨_,rfl,UD h⟩)) htake))
  |exact UC (UC (m:=Builtin.Tuple.tupleExact _) (Vh (UD ⟨_,rfl,UD h⟩) htake))
end
end HT
namespace L2
open PySem PySem.Spec PyProof.Rows
abbrev TO:=St->Hp->(Option Int->Hp->Prop)->Prop
def PO(X:Cx)(e:Option Expr)(t:TO):Prop:=
 ∀(pins:Yz) (s:YR) (σ:St) (H:Hp) (Q:Option Int->Hp->Prop),Inv X pins σ H s->t σ H Q ->
  wpAny (model X.prog X.w) X.A (evalPart e X.env) (λu s'=>∃o H',Inv X pins σ H' s'/\IsPart u o/\Q o H') X.xe s
def Lf:TO:=λ_ H Q=>Q none H
def QO(t:TE):TO:=λσ H Q=>t σ H λx H1=>∃i,x=.int i/\Q (some i) H1
section
variable {X:Cx} {e:Expr} {te:TE} {lo hi:Option Expr} {tl th:TO} {pos p2:Pos}
theorem Lg:PO X none Lf:=by intro pins s σ H Q I h;exact UD ⟨none,H,I,.none,h⟩
theorem Lh(h:PE X e te):PO X (some e) (QO te):=by intro pins s σ H Q I hw;refine bE (h pins s σ H _ I hw) λu s1 ⟨x,H1,I1,r1,q1⟩=>?_;obtain⟨i,rfl,q⟩:=q1;obtain⟨t,rfl⟩:=r1;exact⟨some i,H1,I1,.int i t,q⟩
noncomputable def QP(X:Cx)(r:V->Option Int->Option Int->Hp->VK->Prop):Prop:=
 ∀(pins:Yz) (s:YR) (σ:St) (H:Hp) (x:V) (v vl vu:Value) (lo hi:Option Int) (sl:Addr) (Q:VK),Inv X pins σ H s->RelV x v->s.heap.IsSliceOf sl vl vu .none->IsPart vl lo->IsPart vu hi->r x lo hi H Q ->
  ∃T id,typeLookup (.type T) "__getitem__" = pure (some (.builtin id))/\s.TypeIs v T/\wpAny (model X.prog X.w) X.A (getItem v (.ref sl)) (EP X pins σ Q) X.xe s
def Ur(r:V->Option Int->Option Int->Hp->VK->Prop)(te:TE)(tl th:TO):TE:=λσ H Q=>te σ H λx H1=>tl σ H1 λl H2=>th σ H2 λu H3=>r x l u H3 Q
theorem HQ(hr:QP X r)(he:PE X e te)(hl:PO X lo tl)(hu:PO X hi th):PE X (.Subscript e (.Slice lo hi none p2) pos) (Ur r te tl th):=by intro pins s σ H Q I h;refine Subscript_ (bE (he pins s σ H _ I h) λv s1 ⟨x,H1,I1,r1,q1⟩=>?_);refine wpAny_Slice (bE (hl pins s1 σ H1 _ I1 q1) λvl s2 ⟨l,H2,I2,pl,q2⟩=>bE (hu pins s2 σ H2 _ I2 q2) λvu s3 ⟨u,H3,I3,pu,q3⟩=>?_);refine UD ?_;have I4:Inv X pins σ H3 {s3 with heap:=s3.heap.push {cls:=.type "slice",data:=.fields #[vl,vu,.none]}}:=I3.kept λb ob q=>UE _ q;obtain⟨T,id,hT,ht,hg⟩:=hr pins {s3 with heap:=s3.heap.push {cls:=.type "slice",data:=.fields #[vl,vu,.none]}} σ H3 x v vl vu l u s3.heap.objs.size Q I4 r1 (Heap.IsSliceOf.new ..) pl pu q3;exact tail_any ht hT hg (by rfl)
def A7(xs:List V)(lo hi:Option Int):List V:=(xs.drop (HT.fT xs.length 0 lo)).take (HT.fT xs.length xs.length hi-HT.fT xs.length 0 lo)
theorem tL(xs:List V)(lo hi:Option Int):(A7 xs lo hi).length<=xs.length:=by
 grind[A7,List.length_take,List.length_drop]
def SO(K:YG):V->Option Int->Option Int->Hp->VK->Prop:=λx lo hi H Q=>∃a xs,x=.ref a/\gA K H a xs /\
 ¬ (HT.fT xs.length 0 lo=0/\HT.fT xs.length xs.length hi=xs.length)/\∀p,H p=none->Q (.ref p) (upd H p (.tup (A7 xs lo hi)))
theorem Oo:QP X (SO X.K):=by intro pins s σ H x v vl vu lo hi sl Q I rx hs pl pu h;obtain⟨a,xs,rfl,hx,hw,q⟩:=h;cases rx;obtain⟨its,r,ht,hz⟩:=I.tuple hx;have hlen:its.toArray.size=xs.length:=r.length.symm;refine⟨"tuple",_,Vv.lookup,ht.typeIs,?_⟩;refine HT.qm ht hs pl pu (by grind) ?_ (by simp_all);rw[hlen];refine⟨.ref #[2],_,I.laid (λb ob q=>UE _ q) (UJ _) ?_,rfl,q _ (I.hok.fresh (UJ _))⟩;exact⟨UO (tL xs lo hi) hz,_,(r.drop _).take _,IsTup.new _ _⟩
def QQ(K:YG):R2:=λx y H Q=>∃a b xs ys,x=.ref a/\y=.ref b/\gA K H a xs/\gA K H b ys/\xs≠[]/\xs.length+ys.length<=sizeLine /\
 (ys=[]->Q (.ref a) H)/\(ys≠[]->∀p,H p=none->Q (.ref p) (upd H p (.tup (xs++ys))))
theorem Vals.zp(r:Vals xs us):us=[]<->xs=[]:=by
 cases r with
 |nil=>simp
 |cons _ _=>simp
theorem Li:jL X (binaryOp .Add) (QQ X.K):=by intro pins s σ H x y v u Q I rx ry h;obtain⟨a,b,xs,ys,rfl,rfl,ha,hb,hx,hz,q1,q2⟩:=h;cases rx;cases ry;obtain⟨its,r1,p1,_⟩:=I.tuple ha;obtain⟨its2,r2,p2,_⟩:=I.tuple hb;refine HT.Le p1 p2 (λz=>hx (r1.zp.mp z)) (λz=>⟨.ref a,H,I,rfl,q1 (r2.zp.mp z)⟩) (λz=>?_) (by grind[r1.length,r2.length]);refine⟨.ref #[2],_,I.laid (λb ob q=>UE _ q) (UJ _) ?_,rfl,q2 (λw=>z (r2.zp.mpr w)) _ (I.hok.fresh (UJ _))⟩;exact⟨by simp_all,_,r1.append r2,IsTup.new _ _⟩
end
def yf(n:Nat)(i:Int):Option Nat:=if 0<=i then(if i<n then some i.toNat else none)else if -(n:Int)<=i then some (i+n).toNat else none
def mS{α:Type}(xs:List α)(i:Int):Option α:=(yf xs.length i).bind λj=>xs[j]?
theorem ER(h:yf n i=some j):seqIndex? i n=some j/\j<n/\-(n:Int)<=i/\i<n:=by
 unfold yf at h;by_cases h0:0<=i
 ·rw[if_pos h0]at h;by_cases h1:i<n
  ·rw[if_pos h1]at h;have e:i.toNat=j:=VZ h;exact⟨by rw[seqIndex_of h0 h1,e],by omega,by omega,h1⟩
  grind
 ·rw[if_neg h0]at h;by_cases h1:-(n:Int)<=i
  ·rw[if_pos h1]at h;have e:(i+n).toNat=j:=VZ h;exact⟨by rw[seqIndex_neg #[1] h1,e],by omega,h1,by omega⟩
  grind
theorem ES(h:mS xs i=some v):∃j,seqIndex? i xs.length=some j/\xs[j]?=some v/\j<xs.length/\-(xs.length:Int)<=i/\i<xs.length:=by
 unfold mS at h
 cases e:yf xs.length i with
 |none=>simp_all
 |some j=>
  obtain⟨h1,h2,h3,h4⟩:=ER e
  simp_all
theorem qo{j:Nat}{v:α}(h:xs[j]?=some v):mS xs (j:Int)=some v:=by
 have hj  := (UN.mp h).1
 simp_all[yf,mS]
theorem A8(xs:List α)(v:α):mS (xs++[v]) (-1)=some v:=by
 have e:yf (xs++[v]).length (-1)=some xs.length:=by
  unfold yf
  grind
 simp_all[mS]
def ET(b:Expr):Prop:=∀o i,subscripted b false o i=operate [o,i] (getItem o i)
noncomputable def Qi(X:Cx)(r:R2):Prop:=
 ∀(value slice:Expr) (pins:Yz) (s:YR) (σ:St) (H:Hp) (x y:V) (v u:Value) (Q:VK),Inv X pins σ H s->RelV x v->RelV y u->r x y H Q ->
  subscripted slice false v u=operate [v,u] (getItem v u)->wpAny (model X.prog X.w) X.A (subscriptTail value slice v u) (EP X pins σ Q) X.xe s
noncomputable def Us(X:Cx)(id:String)(r:V->List V->Hp->VK->Prop):Prop:=
 ∀(pins:Yz) (s:YR) (σ:St) (H:Hp) (x:V) (xs:List V) (v:Value) (us:YF) (Q:VK),Inv X pins σ H s->RelV x v->Vals xs us->r x xs H Q ->
  wpAny (model X.prog X.w) X.A (call (.builtin id) (v::us)) (EP X pins σ Q) X.xe s
section
variable {X:Cx} {a b:Expr} {ta tb:TE} {pos:Pos}
theorem QR(hr:Qi X r)(ha:PE X a ta)(hb:PE X b tb)(hs:ET b):PE X (.Subscript a b pos) (QB r ta tb):=by intro pins s σ H Q I h;exact Subscript_ (N7 ha hb I h λv u s2 x y H2 I2 rx ry q=>hr a b pins s2 σ H2 x y v u Q I2 rx ry q (hs _ _))
def SQ(K:YG):R2:=λx y H Q=>∃p xs i v,x=.ref p/\y=.int i/\ji K H p xs/\mS xs i=some v/\Q v H
def SR(K:YG):R2:=λx y H Q=>∃p xs i v,x=.ref p/\y=.int i/\gA K H p xs/\mS xs i=some v/\Q v H
theorem zq:Qi X (SQ X.K):=by
 intro value slice pins s σ H x y v u Q I rx ry h hs;obtain⟨p,xs,i,z,rfl,rfl,hq,he,q⟩:=h;cases rx;obtain⟨t,rfl⟩:=ry;obtain⟨its,r,pl,hz⟩:=I.list hq;obtain⟨j,h1,h2,h3,h4,h5⟩:=ES he;obtain⟨w,ew,rw'⟩:=r.get h2;have hl:=r.length;have hn:=rW;have fin:EP X pins σ Q w s:=⟨z,H,I,rw',q⟩;by_cases h0:0<=i
 ·have hj:i.toNat=j:=by
   simp_all[seqIndex_of,h0,h5]
  exact item_listR pl.isList h0 #[1] (by grind) fin hs
 ·have hj:(i+(its.toArray.size:Int)).toNat=j:=by
   rw[seqIndex_neg #[1] h4]at h1;rw[UY,<- hl];exact VZ h1
  exact subscriptTail_builtinR (x:=w) pl.isList.typeIs slot_list_getitem.lookup
   (wpAny_getItem_list_neg (Q:=λr s'=>r=w/\EP X pins σ Q r s') pl.isList #[1] (by rw[UY]<;>omega) #[1] (by rw[hj];simpa using ew) ⟨rfl,fin⟩) hs
theorem Oq:Qi X (SR X.K):=by
 intro value slice pins s σ H x y v u Q I rx ry h hs;obtain⟨p,xs,i,z,rfl,rfl,hq,he,q⟩:=h;cases rx;obtain⟨t,rfl⟩:=ry;obtain⟨its,r,pl,hz⟩:=I.tuple hq;obtain⟨j,h1,h2,h3,h4,h5⟩:=ES he;obtain⟨w,ew,rw'⟩:=r.get h2;have hl:=r.length;have hn:=rW;have fin:EP X pins σ Q w s:=⟨z,H,I,rw',q⟩
 exact subscriptTail_builtinR pl.typeIs slot_tuple_getitem.lookup
  (getItem_tuple (j:=j) pl #[1] #[1] (by grind) (by grind) ⟨rfl,fin⟩) hs
theorem C8(its:YF)(n j:Nat)(u:Value):Obj.mapSeq (·.setIfInBounds j u) {cls:=.type "list",data:=.seq its.toArray n}={cls:=.type "list",data:=.seq (its.set j u).toArray n}:=by simp[Obj.mapSeq]
theorem Inv.lst{σ:St}(I:Inv X pins σ H s)(h:H p=some (.lst xs)) :
  ∃(its:YF) (n:Nat),Vals xs its/\s.heap.get? p=some {cls:=.type "list",data:=.seq its.toArray n}/\xs.length<=sizeLine:=by
 obtain⟨z,its,n,r,e⟩:=I.hok p _ h
 simp_all
theorem Inv.Ot{σ:St}{its its':YF}(I:Inv X pins σ H s)(h:H p=some (.lst xs))
 (ho:s.heap.get? p=some {cls:=.type "list",data:=.seq its.toArray n})(hf:f {cls:=.type "list",data:=.seq its.toArray n}={cls:=.type "list",data:=.seq its'.toArray n'})(r:Vals ys its')(hz:ys.length<=sizeLine)(t:Nat) :
  Inv X pins σ (upd H p (.lst ys)) {s with heap:=s.heap.update p f,toks:=t}:=by
 have e:(s.heap.update p f).get? p=some {cls:=.type "list",data:=.seq its'.toArray n'}:=by rw[VX f ho (by rw[hf]<;>rfl),hf]
 refine I.write (by rw[h];trivial) (.inl rfl) (λb u hb q=>(WY _ _ (Xv hb)).trans q) ⟨_,e⟩ ?_;exact⟨hz,its',n',r,e⟩
def M9:V->V->V->Hp->(Hp->Prop)->Prop:=λo i v H Q=>∃p xs k j,o=.ref p/\i=.int k/\H p=some (.lst xs)/\yf xs.length k=some j/\Q (upd H p (.lst (xs.set j v)))
theorem set_list:NU X M9:=by
 intro pins s σ H o i v ov iv u Q I ro ri rv h;obtain⟨p,xs,k,j,rfl,rfl,hp,hj,q⟩:=h;cases ro;obtain⟨t,rfl⟩:=ri;obtain⟨its,n,r,ho,hz⟩:=I.lst hp;obtain⟨h1,h2,h3,h4⟩:=ER hj;have hl:=r.length;have hn:=rW
 have I':Inv X pins σ (upd H p (.lst (xs.set j v))) {s with heap:=s.heap.update p (Obj.mapSeq (·.setIfInBounds j u))}:=
  I.Ot hp ho (C8 its n j u) (r.set rv j) (by grind) s.toks
 by_cases h0:0<=k
 ·have hk:k.toNat=j:=by
   simp_all[seqIndex_of,h0,h4]
  exact PySem.W.ki_setAt ho h0 #[1] (by grind) (by rw[hk];exact⟨_,I',q⟩)
 ·have hk:(k+(its.toArray.size:Int)).toNat=j:=by
   rw[seqIndex_neg #[1] h3]at h1;rw[UY,<- hl];exact VZ h1
  exact PySem.W.ki_setBack ho #[1] (by rw[UY,<- hl];exact h3) #[1] (by rw[hk];exact⟨_,I',q⟩)
theorem zr(lo hi:Option Int)(n:Nat):(sliceBounds lo hi none n).1=((HT.fT n 0 lo:Nat):Int)/\(sliceBounds lo hi none n).2.1=((HT.fT n n hi:Nat):Int)/\(sliceBounds lo hi none n).2.2=1:=by
 refine⟨?_,?_,rfl⟩
 ·cases lo with
  |none=>rfl
  |some i=>
   simp only[sliceBounds,HT.fT,Option.getD_none,show(1:Int)>0 by decide,VC];by_cases h:i<0
   ·simp only[h,VC]<;>omega
   grind
 ·cases hi with
  |none=>rfl
  |some i=>
   simp only[sliceBounds,HT.fT,Option.getD_none,show(1:Int)>0 by decide,VC];by_cases h:i<0
   ·simp only[h,VC]<;>omega
   ·simp only[h,Vu]<;>omega
theorem xG(its:YF)(lo hi:Option Int):slicePick its.toArray lo hi none=((its.drop (HT.fT its.length 0 lo)).take (HT.fT its.length its.length hi-HT.fT its.length 0 lo)).toArray:=by obtain⟨h1,h2,h3⟩:=zr lo hi its.toArray.size;unfold slicePick;rw[h1,h2,h3];simp only[sliceRange_one,pick_run]<;>rfl
def SU(K:YG):V->Option Int->Option Int->Hp->VK->Prop:=λx lo hi H Q=>∃a xs,x=.ref a/\ji K H a xs/\∀p,H p=none->Q (.ref p) (upd H p (.lst (A7 xs lo hi)))
theorem Lj:QP X (SU X.K):=by intro pins s σ H x v vl vu lo hi sl Q I rx hs pl pu h;obtain⟨a,xs,rfl,hx,q⟩:=h;cases rx;obtain⟨its,r,ht,hz⟩:=I.list hx;have hlen:=r.length;refine⟨"list",_,slot_list_getitem.lookup,ht.isList.typeIs,?_⟩;refine wpAny_getItem_list_slice ht.isList hs pl pu .none (by simp) ?_ (by grind);rw[xG,<- hlen];refine⟨.ref #[2],_,I.laid (λb ob q=>UE _ q) (UJ _) ?_,rfl,q _ (I.hok.fresh (UJ _))⟩;exact⟨UO (tL xs lo hi) hz,_,0,(r.drop _).take _,UL _ rfl⟩
theorem dy.or(h:dy X f r)(h':dy X f r'):dy X f (λxs H Q=>r xs H Q\/r' xs H Q):=by
 intro pins s σ H xs us Q I rs q;rcases q with q|q
 ·exact h pins s σ H xs us Q I rs q
 ·exact h' pins s σ H xs us Q I rs q
theorem zt:dy X (.type "list") (λxs H Q=>∃p ys,xs=[.ref p]/\(ji X.K H p ys\/gA X.K H p ys)/\∀l,H l=none->Q (.ref l) (upd H l (.lst ys))):=by
 intro pins s σ H xs us Q I r h;obtain⟨p,ys,rfl,hq,q⟩:=h;obtain⟨u,rfl,rx⟩:=vals1 r;cases rx
 have fin:∀(its:YF),Vals ys its->ys.length<=sizeLine->∀(h':Heap) (c':Nat),_ ->
   h'.get? #[2]=some {cls:=.type "list",dict:=none,data:=.seq its.toArray c',slots:=#[]}->EP X pins σ Q _ {s with heap:=h'}:=λits r' hz h' c' kp e=>
  ⟨.ref #[2],_,I.laid kp (UJ _) (show cL X.prog X.w _ h' _ (.lst ys)from⟨hz,its,c',r',e⟩),rfl,q _ (I.hok.fresh (UJ _))⟩
 rcases hq with hq|hq
 ·obtain⟨its,r',pl,hz⟩:=I.list hq;have hlen:=r'.length;obtain⟨o,ho,hc,n,hd⟩:=pl.isList;exact call_list_seq p (.inl rfl) ho hc hd (λh' c' kp e=>fin its r' hz h' c' kp e) (by grind)
 ·obtain⟨its,r',pl,hz⟩:=I.tuple hq;have hlen:=r'.length;obtain⟨o,ho,hc,n,hd⟩:=pl;exact call_list_seq p (.inr rfl) ho hc hd (λh' c' kp e=>fin its r' hz h' c' kp e) (by grind)
theorem xH:dy X (.type "tuple") (λxs H Q=>∃p ys,xs=[.ref p]/\((ji X.K H p ys/\∀l,H l=none->Q (.ref l) (upd H l (.tup ys)))\/(gA X.K H p ys/\Q (.ref p) H))):=by
 intro pins s σ H xs us Q I r h;obtain⟨p,ys,rfl,h⟩:=h;obtain⟨u,rfl,rx⟩:=vals1 r;cases rx;rcases h with⟨hq,q⟩|⟨hq,q⟩
 ·obtain⟨its,r',pl,hz⟩:=I.list hq;have hlen:=r'.length;refine call_tuple_list pl.isList (λh' kp=>?_) (by grind);have I1:Inv X pins σ H {s with heap:=h'}:=I.kept kp
  have I2:Inv X pins σ (upd H h'.objs.size (.tup ys)) {s with heap:=h'.push {cls:=.type "tuple",data:=.seq its.toArray}}:=
   I1.laid (λb o e=>UE _ e) (UJ _) (⟨hz,its,r',IsTup.new _ _⟩)
  exact⟨.ref h'.objs.size,_,I2,rfl,q _ (I1.hok.fresh (UJ _))⟩
 ·obtain⟨its,r',pl,hz⟩:=I.tuple hq;exact call_tuple_same pl ⟨.ref p,H,I,rfl,q⟩
noncomputable def TU(K:YG)(T:String)(x:V)(H:Hp):Prop:=match x with
 |.str _=>T = "str"
 |.int _=>T = "int"
 |.ref p=>(T = "list" /\ ∃xs,ji K H p xs)\/(T = "tuple" /\ ∃o,K.lookup p=some o/\o.cls=.type "tuple" /\ o.dict=none) \/
   (T = "dict" /\ ((∃kvs,H p=some (.dK kvs))\/∃kvs,H p=some (.dT kvs)))\/(T = "set" /\ ∃S n,H p=some (.set S n))
 |_=>False
theorem Ou{σ:St}(I:Inv X pins σ H s)(r:RelV x v)(ty:TU X.K T x H) :
  s.TypeIs v T/\∀a,v=.ref a->∃ob,s.heap.get? a=some ob/\ob.dict=none:=by
 cases x with
 |str z=>obtain⟨t,rfl⟩:=r;cases(show T = "str" from ty);exact⟨typeIs_str s z t,λ_ e=>nomatch e⟩
 |int i=>obtain⟨t,rfl⟩:=r;cases(show T = "int" from ty);exact⟨typeIs_int s i t,λ_ e=>nomatch e⟩
 |ref p=>
  cases r;rcases ty with⟨rfl,xs,hq⟩|⟨rfl,o,hk,hc,hd⟩|⟨rfl,hk⟩|⟨rfl,S,n,hk⟩
  ·obtain⟨its,_,pl,_⟩:=I.list hq;refine⟨pl.isList.typeIs,λa e=>?_⟩;cases e;obtain⟨o,n,e,c,hd,_⟩:=pl
   grind
  ·refine⟨⟨o,I.vk p o hk,hc⟩,λa e=>?_⟩;cases e;exact⟨o,I.vk _ o hk,hd⟩
  ·have z:∃o,s.heap.get? p=some o/\o.ExactDict:=by
    rcases hk with⟨kvs,hk⟩|⟨kvs,hk⟩
    ·obtain⟨_,_,_,_,o,_,_,e,ex,_⟩:=I.hok p _ hk
     grind
    ·obtain⟨_,_,_,_,o,_,_,e,ex,_⟩:=I.hok p _ hk;exact⟨o,e,ex⟩
   obtain⟨o,e,ex⟩:=z;refine⟨⟨o,e,ex.1⟩,λa e2=>?_⟩;cases e2;exact⟨o,e,ex.2.1⟩
  ·obtain⟨o,_,_,_,e,ex,_⟩:=I.hok p _ hk;refine⟨⟨o,e,ex.1⟩,λa e2=>?_⟩;cases e2;exact⟨o,e,ex.2.1⟩
 |_=>exact False.elim ty
def TV(K:YG)(T:String)(r:V->List V->Hp->VK->Prop)(to:TE)(t:TA):TE:=λσ H Q=>to σ H λx H1=>TU K T x H1/\t σ H1 λxs H2=>r x xs H2 Q
variable {o e:Expr} {es:YI} {to:TE} {t:TA} {name:Str} {apos cpos:Pos} {T id:String} {r:V->List V->Hp->VK->Prop}
theorem QS(pa:PlainAttrs T)(slot:Slot T name id)(hty:typeOf (.builtin id)=pure (.type "method_descriptor"))(hm:Us X id r)(ho:PE X o to)(ha:PA X (e::es) t)
 (hbase:attributeBase o name X.env (eval o X.env)=eval o X.env:=by rfl)
 (hfew:((backTo cpos (starEach (e::es) X.env)).all (λx=>!x.1)&&(backToKw cpos (keywordEach [] X.env)).all (λx=>x.1.isSome)
   && decide ((e::es).length+([]:List Keyword).length+(if([]:List Keyword).isEmpty then 0 else 1)<30))=true:=by rfl)
 (hline:(apos.endLine==cpos.line)=true:=by rfl)(hs:starEach (e::es) X.env=(false,eval e X.env)::starEach es X.env:=by rfl)(hplain:(backTo cpos (starEach es X.env)).any (·.1)=false:=by rfl) :
  PE X (.Call (.Attribute o name apos) (e::es) [] cpos) (TV X.K T r to t):=by
 intro pins s σ H Q I h;refine wpAny_Call_method_late hbase hfew hline rfl (bE (ho pins s σ H _ I h) λv s1 ⟨x,H1,I1,r1,ty,q1⟩=>?_);obtain⟨h1,h2⟩:=Ou I1 r1 ty;refine⟨T,id,pa,slot,hty,h1,h2,?_⟩;have hA:=ha cpos pins s1 σ H1 _ I1 q1;rw[hs]at hA ⊢;refine Calls.callWith_builtin (by simp_all) (Calls.evalArgs_plain ?_);exact bE hA (by rintro us s2 ⟨vs,H2,I2,r2,q2⟩;exact hm pins s2 σ H2 x vs v us Q I2 r1 r2 q2)
end
noncomputable def Ut(X:Cx)(id:String)(r:V->List V->Hp->VK->Prop):Prop:=
 ∀(pins:Yz) (s:YR) (σ:St) (H:Hp) (x:V) (xs:List V) (v:Value) (us:YF) (Q:VK),Inv X pins σ H s->RelV x v->Vals xs us->r x xs H Q ->
  wpAny (model X.prog X.w) X.A (call (.builtin id) (v::us)) (EP X pins σ Q) X.xe s
theorem Vals.one:∀{x:V} {us:YF},Vals [x] us->∃u,us=[u]/\RelV x u
 |_,_,.cons r .nil=>⟨_,rfl,r⟩
theorem Vals.rep(h:Vals xs us):∀k:Nat,Vals (List.replicate k xs).flatten (List.replicate k us).flatten
 |0=>.nil
 |k+1=>Vals.append h (Vals.rep h k)
theorem foldl_rep(its:YF):∀(k:Nat) (acc:YF),
  List.foldl (λx1 x2=>x1++x2) acc.toArray (List.replicate k its.toArray)=(acc++(List.replicate k its).flatten).toArray
 |0,acc=>by simp
 |k+1,acc=>by
  have e:acc.toArray++its.toArray=(acc++its).toArray:=by simp
  have e2:(acc++its)++(List.replicate k its).flatten=acc++(List.replicate (k+1) its).flatten:=by
   grind
  rw[<- e2,<- foldl_rep its k _,<- e,List.replicate_succ,List.foldl_cons]
section
variable {X:Cx} {pins:Yz} {σ:St} {H:Hp} {s:YR} {l b:Addr} {xs ys zs:List V}
theorem Inv.SV{its its':YF}(I:Inv X pins σ H s)(hH:H l=some (.lst xs))
 (e:s.heap.get? l=some {cls:=.type "list",data:=.seq its.toArray n})(hf:f its.toArray=its'.toArray)(hv:Vals ys its')(hz:ys.length<=sizeLine) :
  Inv X pins σ (upd H l (.lst ys)) {s with heap:=s.heap.update l (Obj.mapSeq f),toks:=t'}:=by
 have q:=PySem.IsL.update e f;rw[hf]at q;refine I.write (by rw[hH];exact trivial) (.inl rfl) (λb' u hb hu=>(WY s.heap _ (Xv hb)).trans hu) ⟨_,q⟩ ?_;exact⟨hz,its',_,hv,q⟩
theorem Inv.QT(I:Inv X pins σ H s)(hv:Vals ys its)(hz:ys.length<=sizeLine) :
  Inv X pins σ (upd H #[2] (.lst ys)) {s with heap:=s.heap.push {cls:=.type "list",data:=.seq its.toArray},toks:=t'}:=
 I.laid (λ_ _ q=>UE _ q) (UJ _) ⟨hz,its,0,hv,UL _ rfl⟩
theorem Inv.fresh(I:Inv X pins σ H s):H #[2]=none:=I.hok.fresh (UJ _)
theorem Inv.Lk(I:Inv X pins σ H s)(hH:H l=some (.lst xs)):xs.length<=sizeLine/\∃(its:YF) (n:Nat),Vals xs its/\xs.length=its.length/\s.heap.get? l=some {cls:=.type "list",data:=.seq its.toArray n}:=by obtain⟨z,its,n,r,e⟩:=I.hok l _ hH;exact⟨z,its,n,r,r.length,e⟩
theorem HR(h:n<=sizeLine):Builtin.List.listTooLong n=false:=by
 grind[Builtin.List.listTooLong]
end
section
variable {X:Cx}
def Ll:V->List V->Hp->VK->Prop:=λx vs H Q=>∃l xs y,x=.ref l/\vs=[y]/\H l=some (.lst xs)/\xs.length<sizeLine/\Q .non (upd H l (.lst (xs++[y])))
theorem Gv:Ut X "list.append" Ll:=by
 intro pins s σ H x vs v us Q I rx rv h;obtain⟨l,xs,y,rfl,rfl,hH,hz,q⟩:=h;cases rx;obtain⟨u,rfl,ru⟩:=rv.one;obtain⟨z,its,n,r,hl,e⟩:=I.Lk hH;refine XN F.slot_list_append ⟨_,e,rfl⟩ F.entry_list_append (F.args_list_append_2 _ _) (PySem.list_append l its.toArray n u (by grind)) ⟨e,?_⟩;refine⟨.non,_,I.SV hH e (by simp) (r.append (.cons ru .nil)) ?_,rfl,q⟩
 grind
def SW:R2:=λx y H Q=>∃l b xs zs,x=.ref l/\y=.ref b/\H l=some (.lst xs)/\H b=some (.lst zs)/\xs.length+zs.length<=sizeLine/\∀p,H p=none->Q (.ref p) (upd H p (.lst (xs++zs)))
theorem Ov:jL X (binaryOp .Add) SW:=by
 intro pins s σ H x y v u Q I rx ry h;obtain⟨l,b,xs,zs,rfl,rfl,hH,hB,hz,q⟩:=h;cases rx;cases ry;obtain⟨z,its,n,r,hl,e⟩:=I.Lk hH;obtain⟨z2,its2,n2,r2,hl2,e2⟩:=I.Lk hB;refine PySem.P.add_list e e2 ?_ (by grind);have ea:its.toArray++its2.toArray=(its++its2).toArray:=by simp
 rw[ea];exact⟨.ref _,_,I.QT (r.append r2) (by grind),rfl,q _ I.fresh⟩
def SX:R2:=λx y H Q=>∃l k xs,x=.ref l/\y=.int k/\H l=some (.lst xs)/\-(2^63)<=k/\k<2^63/\xs.length*k.toNat<=sizeLine /\
 ∀p,H p=none->Q (.ref p) (upd H p (.lst (List.replicate k.toNat xs).flatten))
theorem len_rep{α:Type}(xs:List α)(k:Nat):(List.replicate k xs).flatten.length=k*xs.length:=by simp
theorem Ow:jL X (binaryOp .Mult) SX:=by
 intro pins s σ H x y v u Q I rx ry h;obtain⟨l,k,xs,rfl,rfl,hH,h1,h2,hz,q⟩:=h;cases rx;obtain⟨t,rfl⟩:=ry;obtain⟨z,its,n,r,hl,e⟩:=I.Lk hH;have hlen:its.toArray.size*k.toNat<=sizeLine:=by grind
 have hcap:¬ its.toArray.size*k.toNat>(2^63-1) / 8:=by
  have:(sizeLine:Nat)<=(2^63-1) / 8:=by decide
  omega
 have hfit:¬ (!Builtin.List.listFitsIndex k)=true:=by
  simp_all[fitsIndex_both,h1,h2]
 have hlong:¬ Builtin.List.listTooLong (its.toArray.size*k.toNat)=true:=by
  simp_all[HR,hlen]
 have hnew:List.foldl (λx1 x2=>x1++x2) #[] (List.replicate (if its.toArray.isEmpty=true then 0 else k.toNat) its.toArray)=(List.replicate k.toNat its).flatten.toArray:=by
  have f0:∀m:Nat,List.foldl (λx1 x2=>x1++x2) #[] (List.replicate m its.toArray)=(List.replicate m its).flatten.toArray:=λm=>by have:=foldl_rep its m [];rw[Xz]at this;exact this
  rw[f0]
  cases its with
  |nil=>simp
  |cons a r'=>rw[if_neg (by simp)]
 refine wpAny_binaryOp_repeat_ref (T := "list") (U := "int") (by decide) ⟨_,e,rfl⟩ (λs'=>typeIs_int s' k t) noFill_list_mul F.fills_int_mul F.slot_int_rmul repeat_list F.slot_int_index.lookup
  (XN F.slot_int_rmul (typeIs_int s k t) F.entry_int_rmul (F.args_int_rmul_2 _ _) (int___rmul___int_list k t l its.toArray n)
   ⟨e,rfl,⟨_,e,rfl⟩,XN F.slot_list_mul ⟨_,e,rfl⟩ F.entry_list_mul (F.args_list_mul_2 _ _) (AutoListH.list___mul___list_int_3 l its.toArray n k t hfit hcap hlong) ⟨e,?_⟩⟩)
 rw[hnew];exact⟨.ref _,_,I.QT (t':=s.toks) (r.rep k.toNat) (by rw[len_rep,Nat.mul_comm];exact hz),rfl,q _ I.fresh⟩
end
end L2
namespace Att
open PySem PySem.W PySem.Calls PyProof.Rows
theorem uC:∀(ns:List Int) (vs:YF),WellAll P h vs (ns.map WData.int)->IntsAre vs ns:=by
 intro ns
 induction ns with
 |nil=>intro vs w;cases w;exact .nil
 |cons n ns ih=>
  intro vs w
  cases w with
  |cons a b=>cases a;exact .cons _ _ (ih _ b)
theorem Gw{l:OpenLaw}(hn:l.most=some n)
 (hpre:l.row.toRowW.claim.pre args=true)(hwl:WellAll P h vals args) :
  ∃a vs ns,vals=[Value.ref a]/\args=[WData.list (ns.map WData.int)]/\h.get? a=some {cls:=.type "list",data:=.seq vs.toArray}/\IntsAre vs ns/\ns.length<=n:=by
 have hsh  := (pre_splitW hpre).1;have hc:l.pre.holds [] {args:=args}=true:=(pre_splitW hpre).2;obtain⟨d,r,rfl,h1,h2⟩:=hasAllW_cons hsh;obtain rfl:=hasAllW_nil h2;obtain⟨xs,rfl,h3⟩:=hasW_list h1;obtain⟨ns,rfl⟩:=items_int h3
 have hlen:ns.length<=n:=by
  have h4:(WTm.not (.lt (.lit (.int (n:Int))) (.len (.arg 0)))).holds [] {args:=[.list (ns.map .int)]}=true:=by
   have h4:=(holds_andW hc).1
   simp_all
  have h5:=condW_of h4 (w_not (w_lt w_lit (w_len_list (w_arg rfl))))
  simp_all
 cases hwl with
 |cons w1 w2=>
  cases w2
  cases w1 with
  |list ho hall=>exact⟨_,_,ns,rfl,rfl,ho,uC ns _ hall,hlen⟩
theorem Gy(l:OpenLaw)(args:List WData):l.row.toRowW.claim.post args (.bool true) args=true:=
 postW_of
  (show WShape.has [] _ .bool=true by rfl)
  (w_eq_bool (w_res rfl) w_lit) rfl
theorem A9{l:OpenLaw}
 (hn:l.most=some n)(hdf:d.params.defaults=[])
 (call:∀(w:World) (s₀ s₁:YR) (mg mb:YC) (fa:Addr) (o:Obj) (pm cd doc:Value) (a:Addr) (vs:YF) (ns:List Int),
   Ground q loose [] XP w s₀ mg mb s₁.heap->YP w s₁.heap ->
   s₁.heap.get? fa=some o->o.data=.func (docDef d.name d.params d.body d.scope pm cd doc)->s₁.heap.CodeRec cd d.name->mg d.name=some (.ref fa) ->
   s₁.heap.get? a=some {cls:=.type "list",data:=.seq vs.toArray}->IntsAre vs ns->ns.length<=n->s₁.gens=#[] ->
   codeAny (model l.prog w) callerA (.call (.ref fa) ⟨[.ref a],[]⟩) (λr s'=>r=.ok (.ret (.bool true))/\OldK s₁.heap s'.heap/\s'.os=s₁.os/\AllBare s'.gens) s₁) :
  WalkO q loose XP YP l.row.toRowW d [] (λf vs=>PySem.call f vs):=by
 intro w s₀ s₁ mg mb G Y fa o pm cd doc dV kV ho hd hcd hD hmg hg args vals as hpre hlay hrd hwl hlo;obtain rfl:dV=.none:=Dflts.none hD hdf;obtain rfl:kV=.none:=Dflts.noKw hD;obtain⟨a,vs,ns,rfl,rfl,hobj,hints,hlen⟩:=Gw hn hpre hwl;refine enter_call (Xq (call w s₀ s₁ mg mb fa o pm cd doc a vs ns G Y ho (fd_plain hd) hcd hmg hobj hints hlen hg) λr s' hq=>?_);obtain⟨rfl,h2,h3,h4⟩:=hq;exact⟨.inl ⟨.bool true,.bool true,[],rfl,λ_=>rfl,.bool true,Gy l _,λ_=>⟨List.Pairwise.nil,λ_ hm=>(nomatch hm)⟩⟩,h2,h3,h4⟩
end Att
namespace L2
open PySem PySem.Spec PyProof.Rows
theorem yg:∀{vs:YF} {ns:List Int},IntsAre vs ns->Vals (ns.map V.int) vs
 |_,_,.nil=>.nil
 |_,_,.cons n t h=>.cons ⟨t,rfl⟩ (yg h)
def Ox(H:Hp):Prop:=∀b,H b=none\/∃o xs,H b=some (.frz o (.lst xs))
theorem HS{K:YG}
 (KX:K.In s₁.heap)(hns:s₁.heap.Ns mainGlobals mg)(hb:s₁.heap.Ns builtinsNs mb)(hbb:∀x:Str,x ≠ "__name__" -> mb x=bootBuiltins x)(hlim:s₁.heap.NoLimit)(hg:s₁.gens=#[])
 (ha:s₁.heap.get? a=some {cls:=.type "list",data:=.seq vs.toArray})(hi:IntsAre vs ns)(hl:ns.length<=sizeLine)(hr:cE k callerA)
 (F:∀base:Heap,K.In base->base.Ns mainGlobals mg->jQ P w K mg base CX k fa fd [x] sp)(hbind:∀(s:YR) (u:Value),BindsTo s fd ⟨[u],[]⟩ [(x,u)])
 (hsp:∀H:Hp,Ox H->ji K H a (ns.map V.int)->sp [.ref a] H (λv _=>v=.bl true) λ_ _ _=>False)
 (hCX:∀H e s',CX [] H s₁ (λ_ _ _=>False) e s'->False) :
  codeAny (model P w) callerA (.call (.ref fa) ⟨[.ref a],[]⟩) (λr s'=>r=.ok (.ret (.bool true))/\OldK s₁.heap s'.heap/\s'.os=s₁.os/\AllBare s'.gens) s₁:=by
 have rv:=yg hi;have lenV:=hi.length
 have core:∀H:Hp,Ox H->ji K H a (ns.map V.int)->nZ P w H s₁.heap->(∀b,H b≠none->b=a)->(H a≠none->K.lookup a=none) ->
   codeAny (model P w) callerA (.call (.ref fa) ⟨[.ref a],[]⟩) (λr s'=>r=.ok (.ret (.bool true))/\OldK s₁.heap s'.heap/\s'.os=s₁.os/\AllBare s'.gens) s₁:=by
  intro H hO hS hok hA hK;have base_of:∀{b:Addr} {o:Obj},s₁.heap.get? b=some o->H b=none->(zi s₁.heap H).get? b=some o:=λe n=>Hq e n
  have noA:∀{b:Addr} {o:Obj} {es:YK} {ep:Nat},s₁.heap.get? b=some o->o.data=.dict es ep->H b=none:=λ{b o es ep} e d=>by
   cases q:H b with
   |none=>rfl
   |some u=>have e':b=a:=hA b (by rw[q];simp);subst e';rw[ha]at e;cases e;have d':Data.seq vs.toArray _=Data.dict es ep:=d;cases d'
  have nsK:∀{b:Addr} {m:YC},s₁.heap.Ns b m->(zi s₁.heap H).Ns b m:=λ{b m} ⟨o,es,ep,e,d,r⟩=>⟨o,es,ep,base_of e (noA e d),d,r⟩
  have hKb:K.In (zi s₁.heap H):=λb o e=>base_of (KX b o e) (by
   cases q:H b with
   |none=>rfl
   |some u=>
    have e':b=a:=hA b (by rw[q];simp);subst e'
    rw[hK (by rw[q];simp)]at e;cases e)
  have hM:Mod K mg (zi s₁.heap H):=⟨hKb,nsK hns,⟨mb,nsK hb,hbb⟩,by obtain⟨mc,h1,h2⟩:=hlim;exact⟨mc,nsK h1,h2⟩⟩;have e0:La P w K mg (zi s₁.heap H) callerA [] s₁ H:=⟨rfl,hM,λb o e=>KI e,Nat.le_of_eq (Gg _ _),trivial,λb hb=>absurd (show b∈([]:YE)from hb) (by simp),hok,.of_eq hg⟩;refine Xq ((F _ hKb (nsK hns)).run callerA [] s₁ H ⟨[.ref a],[]⟩ [.ref a] [.ref a] _ _ hr e0 (hbind s₁ (.ref a)) (.cons rfl .nil) (hsp H hO hS)) λr s' h=>?_
  cases r with
  |error e=>exact(hCX H e s' h).elim
  |ok fl=>
   cases fl with
   |next=>exact False.elim h
   |brk=>exact False.elim h
   |cont=>exact False.elim h
   |ret u=>
    obtain⟨v,H',os,bare,un,hok',r',q⟩:=h;have q':v=.bl true:=q;subst q';obtain rfl:u=Value.bool true:=r';refine⟨rfl,OldK.of_keep λb o e=>?_,os,bare⟩
    cases q:H b with
    |none=>exact un.keep b o e q (by intro z;exact absurd (show b∈([]:YE)from z) (by simp)) (by simp)
    |some u=>
     rcases hO b with z|⟨ob,xs,z⟩
     ·rw[q]at z;cases z
     ·have z2:=un.frzs b ob _ z;obtain⟨e1,_⟩:=hok b _ z;obtain⟨e2,_⟩:=hok' b _ z2;rw[e]at e1;cases e1;exact e2
 cases hk:K.lookup a with
 |some o=>have e:=KX a o hk;rw[ha]at e;cases e;refine core (λ_=>none) (λ_=>.inl rfl) (.inr ⟨_,vs.toArray,_,hk,rfl,rfl,rfl,by rw[UY,lenV];exact hl,by simpa using rv⟩) (λb u z=>by have z':(none:Option HO)=some u:=z;cases z') (λb z=>absurd rfl z) λz=>absurd rfl z
 |none=>
  refine core (λb=>if b=a then some (.frz {cls:=.type "list",data:=.seq vs.toArray} (.lst (ns.map V.int)))else none) (λb=>?_) (.inl (.inr ⟨{cls:=.type "list",data:=.seq vs.toArray},if_pos rfl⟩)) (λb u z=>?_) (λb z=>?_) λ_=>hk
  ·by_cases hb:b=a
   ·exact .inr ⟨_,_,if_pos hb⟩
   ·exact .inl (if_neg hb)
  ·by_cases hb:b=a
   ·have z':=(if_pos hb).symm.trans z;cases z';subst hb;exact⟨ha,by rw[UX];exact hl,vs,_,rv,ha⟩
   ·have z':=(if_neg hb).symm.trans z;cases z'
  ·by_cases hb:b=a
   ·exact hb
   ·exact absurd (if_neg hb) z
theorem Lm{l:PySem.W.OpenLaw}{K:Params->YG}{CX:World->M7}{sp:World->Sp}
 (hn:l.most=some n)(hn2:n<=sizeLine)(hdf:d.params.defaults=[])(hr:cE k callerA)
 (hY:∀(w:World) (h:Heap),YP w h->(K w.params).In h)
 (F:∀(w:World) (mg:YC) (fa:Addr) (h:Heap),(K w.params).In h->h.Ns mainGlobals mg->mg d.name=some (.ref fa) ->
   ∃fd:FuncData,(∀(s:YR) (u:Value),BindsTo s fd ⟨[u],[]⟩ [(x,u)]) /\
    ∀base:Heap,(K w.params).In base->base.Ns mainGlobals mg->jQ l.prog w (K w.params) mg base (CX w) k fa fd [x] (sp w))
 (hsp:∀(w:World) (H:Hp) (a:Addr) (ns:List Int),ns.length<=n->Ox H->ji (K w.params) H a (ns.map V.int)->sp w [.ref a] H (λv _=>v=.bl true) λ_ _ _=>False)
 (hCX:∀(w:World) (H:Hp) (s:YR) (e:Value) (s':YR),CX w [] H s (λ_ _ _=>False) e s'->False) :
  PySem.W.WalkO q loose XP YP l.row.toRowW d [] (λf vs=>PySem.call f vs):=by
 refine Att.A9 hn hdf λw s₀ s₁ mg mb fa o pm cd doc a vs ns G Y ho hd hcd hmg hobj hints hlen hg=>?_;have KX:=hY w _ Y;obtain⟨fd,hb,hF⟩:=F w mg fa _ KX G.T.g hmg;exact HS KX G.T.g G.T.b G.T.builtins G.T.nolimit hg hobj hints (UO hlen hn2) hr hF hb (λH hO hS=>hsp w H a ns hlen hO hS) λH e s'=>hCX w H s₁ e s'
end L2
namespace L2
open PySem PySem.Spec PyProof.Rows
def gR(s:Stmt):Arguments:=match s with
 |.FunctionDef _ a _ _ _ _ _ _ _ _=>a
 |_=>{posonlyargs:=[],args:=[],vararg:=none,kwonlyargs:=[],kw_defaults:=[],kwarg:=none,defaults:=[]}
def dZ(s:Stmt):List Stmt:=match s with
 |.FunctionDef _ _ b _ _ _ _ _ _ _=>b
 |_=>[]
def au(s:Stmt):Scope:=match s with
 |.FunctionDef _ _ _ _ _ _ sc _ _ _=>sc
 |_=>{kind:=.function,names:=[],isGenerator:=false,isCoroutine:=false}
structure Ln(K:YG)(x qual:Str)(st:Stmt)(f:Addr)(fd:FuncData):Prop where
 ex:∃(oc:Value) (od:Option Addr) (kV doc pm:Value) (an:Option Addr) (cdv ct:Value) (osl:YJ),
  fd=PySem.W.fnOf x qual (gR st) (dZ st) (au st) .none kV doc pm an cdv ct/\K.lookup f=some ⟨oc,od,.func fd,osl⟩/\PySem.W.codeIn K cdv qual=true
 kp:PySem.W.keepIn K (.ref f)=true
section
variable {P:YN} {w:World} {K:YG} {mg:YC} {base:Heap}
theorem Ln.binds{st:Stmt}(F:Ln K x qual st f fd)
 (h:∀(kV doc pm:Value) (an:Option Addr) (cdv ct:Value) (us:YF),us.length=ps.length->bindArgs (PySem.W.fnOf x qual (gR st) (dZ st) (au st) .none kV doc pm an cdv ct) ⟨us,[]⟩=pure (ps.zip us)):Binds K fd ps []:=by
 obtain⟨oc,od,kV,doc,pm,an,cdv,ct,osl,rfl,lk,hcd⟩:=F.ex;exact .all (h kV doc pm an cdv ct)
theorem zu{st:Stmt}{kV doc pm cdv ct:Value}(l:K.lookup f=some ⟨oc,od,.func (PySem.W.fnOf x qual (gR st) (dZ st) (au st) .none kV doc pm an cdv ct),osl⟩)
 (c:PySem.W.codeIn K cdv qual=true)(k:PySem.W.keepIn K (.ref f)=true):Ln K x qual st f (PySem.W.fnOf x qual (gR st) (dZ st) (au st) .none kV doc pm an cdv ct):=⟨⟨oc,od,kV,doc,pm,an,cdv,ct,osl,rfl,l,c⟩,k⟩
end
def bT(H H':Hp):Prop:=∀b o,H b=some o->H' b=some o
theorem bT.refl(H:Hp):bT H H:=λ_ _ h=>h
theorem bT.trans(a:bT H H1)(b:bT H1 H2):bT H H2:=λc o h=>b c o (a c o h)
theorem bT.free(e:bT H H')(h:H' l=Option.none):H l=Option.none:=by
 cases q:H l with
 |none=>rfl
 |some o=>rw[e l o q]at h;cases h
theorem bT.seq{K:YG}(e:bT H H')(h:ji K H a xs):ji K H' a xs:=by
 rcases h with(h|⟨o,h⟩)|h
 ·exact .inl (.inl (e _ _ h))
 ·exact .inl (.inr ⟨o,e _ _ h⟩)
 ·exact .inr h
def fh(cells:List (Str×Addr)):List (Str×NameKind)->List (Str×Addr)->List (Str×Addr)
 | [],acc=>acc
 | (n,k)::r,acc=>if k == .free then fh cells r ((n,(cells.lookup n).getD 0)::acc)else fh cells r acc
theorem o5:∀(names:List (Str×NameKind)) (acc:List (Str×Addr)),(∀n,(n,NameKind.free)∈names->∃c,env.cells.lookup n=some c) ->
  (forIn (m:=Sem) names acc λ(x:Str×NameKind) (cs:List (Str×Addr))=>match x with
   | (name,kind)=>if(kind==NameKind.free)=true then(do let a <- cellOf env name;pure (ForInStep.yield ((name,a)::cs)))else pure (ForInStep.yield cs))=pure (fh env.cells names acc)
 | [],acc,_=>by rfl
 | (n,k)::r,acc,h=>by
  rw[V3];unfold fh;by_cases hk:(k==NameKind.free)=true
  ·obtain⟨c,hc⟩:=h n (by grind);have e:cellOf env n=pure c:=by simp[cellOf,hc]
   simp only[hk,VC];rw[e,hc];exact o5 r _ λm hm=>h m (UI _ hm)
  ·simp only[hk];exact o5 r _ λm hm=>h m (UI _ hm)
theorem fi(h:∀n,(n,NameKind.free)∈scope.names->∃c,env.cells.lookup n=some c):closureFor scope env=pure (fh env.cells scope.names []):=by
 have q:=o5 scope.names [] h
 simp_all[closureFor]
theorem n9:∀{names:List (Str×NameKind)} {acc:List (Str×Addr)},(x,NameKind.free)∉names->(fh cells names acc).lookup x=acc.lookup x
 | [],_,_=>rfl
 | (n,k)::r,acc,h=>by
  unfold fh;by_cases hk:(k==NameKind.free)=true
  ·rw[if_pos hk,n9 λz=>h (UI _ z),We]
   have:(x==n)=false:=by
    grind
   rw[this]
  ·rw[if_neg hk,n9 λz=>h (UI _ z)]
theorem jj:∀{names:List (Str×NameKind)} {acc:List (Str×Addr)},(x,NameKind.free)∈names->(fh cells names acc).lookup x=some ((cells.lookup x).getD 0)
 | (n,k)::r,acc,h=>by
  unfold fh;by_cases hr:(x,NameKind.free)∈r
  ·by_cases hk:(k==NameKind.free)=true
   ·rw[if_pos hk];exact jj hr
   ·rw[if_neg hk];exact jj hr
  ·rcases UP.mp h with e|e
   ·cases e;rw[if_pos (show(NameKind.free==NameKind.free)=true from rfl),n9 hr,We];simp
   grind
theorem dN:∀(names:List (Str×NameKind)) (n:Nat) (acc:List (Str×Addr)),cellsFrom n names acc=cellsFrom n names []++acc
 | [],_,_=>rfl
 | (x,k)::r,n,acc=>by
  unfold cellsFrom;by_cases hk:(k==NameKind.cell)=true
  ·rw[if_pos hk,if_pos hk,dN r (n+1) ((x,n)::acc),dN r (n+1) [(x,n)],List.append_assoc];rfl
  ·rw[if_neg hk,if_neg hk];exact dN r n acc
theorem gS:∀{names:List (Str×NameKind)} {n:Nat},(x,c)∈cellsFrom n names []->(x,NameKind.cell)∈names/\n<=c
 | [],_,h=>nomatch h
 | (y,k)::r,n,h=>by
  unfold cellsFrom at h;by_cases hk:(k==NameKind.cell)=true
  ·rw[if_pos hk,dN]at h;rcases UR.mp h with h|h
   ·obtain⟨h1,h2⟩:=gS h;exact⟨UI _ h1,by omega⟩
   ·have e:(x,c)=(y,n):=by simpa using h
    cases e;have:=eq_of_beq hk;subst this;exact⟨UZ,UJ _⟩
  ·rw[if_neg hk]at h;obtain⟨h1,h2⟩:=gS h;exact⟨UI _ h1,h2⟩
structure cf(sc:Scope)(N own:YH)(scope:Scope):Prop where
 kind:scope.kind=.function
 frees:∀n,(n,NameKind.free)∈scope.names->sc.names.lookup n=some .cell\/sc.names.lookup n=some .free
 own:∀x∈own,(x,NameKind.free)∉scope.names
 out:∀x∈N,scope.names.lookup x≠some .local/\scope.names.lookup x≠some .cell
 uniq:∀p∈scope.names,scope.names.lookup p.1=some p.2
noncomputable def c7(sc:Scope)(N own:YH)(scope:Scope):Bool:=
 (scope.kind == .function)&&scope.names.all (λp=>p.2 != .free || (sc.names.lookup p.1==some .cell) || (sc.names.lookup p.1==some .free)) &&
 own.all (λx=>scope.names.all λp=>!(p.1==x&&p.2 == .free))&&N.all (λx=>scope.names.lookup x != some .local&&scope.names.lookup x != some .cell) &&
 scope.names.all (λp=>scope.names.lookup p.1==some p.2)
theorem cf.of{N own:YH}(h:c7 sc N own scope=true):cf sc N own scope:=by
 unfold c7 at h;simp only[UH]at h;obtain⟨⟨⟨⟨h1,h2⟩,h3⟩,h4⟩,h5⟩:=h;refine⟨eq_of_beq h1,λn hn=>?_,λx hx hn=>?_,λx hx=>?_,λp hp=>?_⟩
 ·have:=UW.mp h2 _ hn
  simp_all
 ·have:=UW.mp (UW.mp h3 x hx) _ hn
  simp_all
 ·simp_all
 grind
theorem mT{env:Env}:∀(names:List (Str×NameKind)),
  (names.map λ(n,k)=>if(k==NameKind.free&&env.scope.kind == .function&&env.kindOf n==some .cell)then(n,NameKind.cell)else(n,k)).lookup x
   = (names.lookup x).map λk=>if(k==NameKind.free&&env.scope.kind == .function&&env.kindOf x==some .cell)then NameKind.cell else k
 | []=>rfl
 | (n,k)::r=>by
  have ih:=mT (env:=env) (x:=x) r;rw[Va];show List.lookup x ((if(k==NameKind.free&&env.scope.kind == .function&&env.kindOf n==some .cell)=true then(n,NameKind.cell)else(n,k))::_)=_;by_cases hc:(k==NameKind.free&&env.scope.kind == .function&&env.kindOf n==some .cell)=true
  ·rw[if_pos hc,We,We]
   cases hx:x==n with
   |true=>simp_all
   |false=>exact ih
  ·rw[if_neg hc,We,We]
   cases hx:x==n with
   |true=>have:=eq_of_beq hx;subst this;exact Xx some (if_neg hc).symm
   |false=>exact ih
theorem mem_of_lookupK{names:List (Str×NameKind)}(h:names.lookup x=some k):(x,k)∈names:=VW h
noncomputable def o6(scope:Scope)(C:Addr)(env:Env):Env:=
 {scope:=relabel scope env,locals:=C,globals:=env.globals,cells:=cellsFrom (C+1) scope.names (fh env.cells scope.names []),qual:=env.qual,func:=none,code:=env.code,frame:=env.frame,builtins:=env.builtins}
theorem xI
  (hQ:Q {scope:=scope,locals:=#[2],globals:=env.globals,cells:=cellsFrom (#[2]+1) scope.names cl,qual:=env.qual,func:=none,code:=env.code,frame:=env.frame,builtins:=env.builtins}
   {s with heap:=pushCells (s.heap.push {cls:=.type "dict",data:=.dict #[]}) scope.names}) :
  wpAny M A (newFunctionEnv scope env.globals cl [] env.qual none .none (some env)) Q E s:=by
 refine UC (wpAny_alloc ?_);refine UC (wpAny_layCells _ (λname kind cells=>by rfl) _ _ _ _ ?_);rw[VH ..];exact UD hQ
noncomputable def ay(X:Cx)(own:YH)(scope:Scope)(C:Addr)(s2:YR)(H2:Hp)(fp:YE)(pins:Yz):Cx where
 prog:=X.prog
 w:=X.w
 K:=X.K
 mg:=X.mg
 base:=X.base
 A:=X.A
 N:=own++X.N
 s₀:=s2
 H₀:=H2
 env:=o6 scope C X.env
 outer:=X.stack
 stack:=X.stack
 ex:=fp
 fn:=λx=>own.any (· == x)
 calm:=X.calm
 pn:=X.pn++pins
 xe:=λ_ _=>False
abbrev Cx.Gz(X:Cx)(N':YH):Cx:={X with N:=N'}
def uT(sc:Scope)(N N':YH):Bool:=decide (N'.length=N.length)&&(N'.zip N).all λp=>p.1==p.2 || (sc.names.lookup p.1).isNone
theorem Inv.Gz{σ:St}(I:Inv X pins σ H s)(h:uT X.env.scope X.N N'=true):Inv (X.Gz N') pins σ H s:=by
 unfold uT at h;simp only[UH,Vi]at h;obtain⟨hl,ha⟩:=h;obtain⟨m,hn,hv⟩:=I.loc;have o:=I.ok;refine⟨⟨o.mod,o.kind,o.glob,o.blt,o.above,o.inj,o.has,o.cab,o.hd,o.frames,o.stk,o.exf,o.bs,o.bsz,o.noex,o.exfs,o.qj,o.frf⟩,I.os,I.bare,I.base,⟨m,hn,λi x v h1 h2 h3=>?_⟩,I.cell,I.free,I.freeC,I.pin,I.hok,by rw[I.len];exact hl.symm⟩;have h1':N'[i]?=some x:=h1;obtain⟨li,ei⟩:=UN.mp h1';have li2:i<X.N.length:=by rw[<- hl];exact li
 have hm:(x,X.N[i])∈N'.zip X.N:=by rw[V6];exact⟨i,by simp;omega,by simp[ei]⟩
 have q:=UW.mp ha _ hm;simp only[Wn]at q;rcases q with q|q
 ·have e:=eq_of_beq q;exact hv i x v (by rw[UK li2,<- e]) h2 h3
 ·exfalso;have h3':Hr X.env.scope x:=h3;unfold Hr at h3';rw[Option.isNone_iff_eq_none.mp q]at h3';rcases h3' with z|z|z<;>cases z
def Kept(X:Cx)(fp:YE)(H H':Hp)(s s':YR):Prop:=s'.os=s.os/\Un (AX X.stack) fp H H' s.heap s'.heap/\nZ X.prog X.w H' s'.heap/\AllBare s'.gens
theorem Kept.inv{σ:St}(k:Kept X fp H H' s s')(I:Inv X pins σ H s)(hf:∀b∈fp,jP X pins H b):Inv X pins σ H' s':=
 I.M1 k.1 k.2.1 k.2.2.1 k.2.2.2 λb hb=>⟨(hf b hb).2.2.2.1,(hf b hb).2.1,(hf b hb).2.2.2.2.1,(hf b hb).2.2.2.2.2⟩
section
variable {X:Cx} {own:YH} {scope:Scope} {pins:Yz} {σ:St} {H2:Hp} {s2:YR} {fp:YE}
theorem jk(x:Str):(relabel scope X.env).names.lookup x=(scope.names.lookup x).map λk=>if(k==NameKind.free&&X.env.scope.kind == .function&&X.env.kindOf x==some .cell)then NameKind.cell else k:=
 mT _
theorem eJ(h:(o6 scope C X.env).cells.lookup x=some c):((x,c)∈cellsFrom (C+1) scope.names []/\(x,NameKind.cell)∈scope.names/\C+1<=c)\/(fh X.env.cells scope.names []).lookup x=some c:=by
 have h':(cellsFrom (C+1) scope.names (fh X.env.cells scope.names [])).lookup x=some c:=h;rw[dN,List.lookup_append]at h'
 cases e:(cellsFrom (C+1) scope.names []).lookup x with
 |some d=>rw[e]at h';cases h';have m:=VW e;exact .inl ⟨m,gS m⟩
 |none=>rw[e]at h';exact .inr h'
theorem mU(I:Inv X pins σ H2 s2)(CS:cf X.env.scope X.N own scope)(h:(fh X.env.cells scope.names []).lookup x=some c):(x,NameKind.free)∈scope.names/\X.env.cells.lookup x=some c:=by
 by_cases hf:(x,NameKind.free)∈scope.names
 ·rw[jj hf]at h;obtain⟨d,hd⟩:=I.ok.has x (CS.frees x hf)
  grind
 simp_all[n9]
theorem Lo(I:Inv X pins σ H2 s2)(CS:cf X.env.scope X.N own scope){C:Addr}(hC:s2.heap.objs.size<=C)(hf:∀b∈fp,jP X pins H2 b)(hl:∀b∈fp,b<s2.heap.objs.size):#[3].Ok:=by
 have old:∀x c,(fh X.env.cells scope.names []).lookup x=some c->X.env.cells.lookup x=some c/\c<s2.heap.objs.size:=λx c h=>by obtain⟨_,q⟩:=mU I CS h;obtain⟨v,z⟩:=I.cell x c q;exact⟨q,z.lt⟩
 refine⟨I.ok.mod,CS.kind,I.ok.glob,I.ok.blt,hC,λx y c h1 h2=>?_,λx hx=>?_,λx c hx h=>?_,I.ok.hd,I.ok.frames,.inl rfl,λb hb=>⟨?_,λx c h=>?_⟩,I.bs,UO I.ok.bsz I.sz,λb o e hb=>?_,λb hb z=>?_,I.stack,I.EI⟩
 ·rcases eJ h1 with⟨a1,_,a2⟩|a1<;>rcases eJ h2 with⟨b1,_,b2⟩|b1
  ·have ap:=(cellsFrom_ok scope.names {(default:Heap)with objs:=Array.replicate (C+1) default} (C+1) [] ⟨λ_ _ hm=>(nomatch hm),List.Pairwise.nil⟩ (by simp)).apart;simp only[Array.size_replicate]at ap;exact name_of_addr ap a1 b1
  ·exact absurd (US (old y c b1).2 (UO hC (UO (Wo _) a2))) (Vk _)
  ·exact absurd (US (old x c a1).2 (UO hC (UO (Wo _) b2))) (Vk _)
  ·exact I.ok.inj x y c (old x c a1).1 (old y c b1).1
 ·have hx':(relabel scope X.env).names.lookup x=some .cell\/(relabel scope X.env).names.lookup x=some .free:=hx;rw[jk]at hx';show ∃c,(cellsFrom (C+1) scope.names (fh X.env.cells scope.names [])).lookup x=some c;refine Option.isSome_iff_exists.mp (XD _ _ _ ?_)
  cases e:scope.names.lookup x with
  |none=>rw[e]at hx';simp at hx'
  |some k=>
   rw[e]at hx';by_cases hk:k=.free
   ·subst hk;exact .inr (by rw[jj (mem_of_lookupK e)];rfl)
   ·have hb:(k==NameKind.free)=false:=by simpa using hk
    simp only[Option.map_some,hb,XW,UQ,Vu,W8]at hx';rcases hx' with q|q
    ·exact .inl (by rw[q])
    ·exact absurd q hk
 ·obtain⟨y,hy,e⟩:=VF.mp hx;have:=eq_of_beq e;subst this;rcases eJ h with⟨_,_,a⟩|a
  ·exact UO hC (UO (Wo _) a)
  ·exact absurd (mU I CS a).1 (CS.own _ hy)
 ·exact UT (US (hl b hb) hC)
 ·rcases eJ h with⟨_,_,a⟩|a
  ·exact Xv (UT (US (hl b hb) (UO hC (UO (Wo _) a))))
  ·exact(hf b hb).2.2.2.2.1 x c (old x c a).1
 ·rcases(hf b hb).2.2.2.1 with z|z
  ·exact I.ok.noex b o e z
  ·exact absurd (US (UM e) (UO I.ok.bsz z)) (Vk _)
 ·rcases UP.mp (I.rT b z)with e|e
  ·exact(hf b hb).2.1 e
  ·exact(hf b hb).2.2.1 e
theorem Ba(I:Inv X pins σ H2 s2)(CS:cf X.env.scope X.N own scope)(hc:∀c v,s2.heap.IsCell c v->(∃x,X.env.cells.lookup x=some c)->h.IsCell c v) :
  ∀(i:Nat) (x:Str) (v:V),(own++X.N)[i]?=some x->(List.replicate own.length (none:Option V)++σ)[i]?=some (some v)->Hr (relabel scope X.env) x->∃u,RelV v u/\Look (o6 scope C X.env) h m x u:=by
 intro i x v h1 h2 h3
 have hi:own.length<=i:=by
  by_cases hi:own.length<=i
  ·exact hi
  ·rw[Vc (by simpa using hi),WT]at h2;split at h2<;>cases h2
 rw[Vl hi]at h1;rw[Vl (by simpa using hi),W3]at h2;have hN:=CS.out x (U6 h1)
 have hfr:scope.names.lookup x=some .free:=by
  unfold Hr at h3;rw[jk]at h3
  cases e:scope.names.lookup x with
  |none=>rw[e]at h3;simp at h3
  |some k=>
   rw[e]at h3 hN;by_cases hk:k=.free
   ·rw[hk]
   ·have hb:(k==NameKind.free)=false:=by simpa using hk
    simp only[Option.map_some,hb,XW,UQ,Vu,W8]at h3;rcases h3 with q|q|q
    ·exact absurd (by rw[q]) hN.1
    ·exact absurd (by rw[q]) hN.2
    ·exact absurd q hk
 have hm:=mem_of_lookupK hfr;have hk:=CS.frees x hm;obtain⟨mX,hn,hl⟩:=I.loc;obtain⟨u,r,l⟩:=hl _ x v h1 h2 (hk.elim (λz=>.inr (.inl z)) λz=>.inr (.inr z));refine⟨u,r,?_⟩;rcases l with⟨z,_⟩|⟨_,c,hcx,z⟩
 ·have z':X.env.scope.names.lookup x=some .local:=z;rcases hk with q|q<;>rw[q]at z'<;>cases z'
 ·refine .inr ⟨?_,c,?_,hc c _ z ⟨x,hcx⟩⟩
  ·show(relabel scope X.env).names.lookup x=some .cell\/(relabel scope X.env).names.lookup x=some .free;rw[jk,hfr];simp only[Option.map_some];split
   ·exact .inl rfl
   ·exact .inr rfl
  ·show(cellsFrom (C+1) scope.names (fh X.env.cells scope.names [])).lookup x=some c;rw[dN,List.lookup_append]
   have no:(cellsFrom (C+1) scope.names []).lookup x=none:=by
    cases e:(cellsFrom (C+1) scope.names []).lookup x with
    |none=>rfl
    |some d=>have:=CS.uniq _ (gS (VW e)).1;simp only[]at this;rw[hfr]at this;cases this
   rw[no,jj hm,hcx];rfl
end
theorem C9(I:Nat->YR->Prop)
 (turn:∀n s,I n s->wpAny (model prog w) A (pyNext it) (λr s1=>match r with
   |none=>R (.ok .next) s1
   |some v=>wpAny (model prog w) A (letOwnedTupleGo target it v) (λ_ s2=>wpAny (model prog w) A (assign target env v) (λ_ s3=>
     wpAny (model prog w) A (forIn ifs true λc r=>if r=true then do let ok <- isTrue c env (eval c env);pure (ForInStep.yield ok)else pure (ForInStep.yield r)) (λok s4=>
      if ok=true then wpAny (model prog w) A (eval elt env) (λx s5=>
       wpAny (model prog w) A (call (.builtin "list.append") [acc,x]) (λ_ s6=>∃m,m<n/\I m s6) (λ_ _=>False) s5) (λ_ _=>False) s4
      else ∃m,m<n/\I m s4) (λ_ _=>False) s3) (λ_ _=>False) s2) (λ_ _=>False) s1) (λ_ _=>False) s)
 (n:Nat)(h:I n s) :
  codeAny (model prog w) A (.compLoop (.ListComp elt [⟨target,iter,ifs,0⟩] scope pos) 0 it acc env) R s:=by
 refine codeAny_loop rfl I (λn s hI=>?_) n h;show wpAny _ A ((compTurn (.ListComp elt [⟨target,iter,ifs,0⟩] scope pos) 0 it acc env).onRaise (λx=>do noteFrame x env;theTreesLotGoes x)) _ _ s;refine wpAny_noted ?_;rw[compTurn_list];refine VG (E:=λ_ _=>False) (E':=_) (Q':=_) ?_ (λ_ _ q=>q) λ_ _ z=>z.elim;refine UC (VO (UC (bE (turn n s hI) (λr s1 h1=>?_))))
 cases r with
 |none=>exact UD h1
 |some v=>
  refine UC (bE h1 λ_ s2 h2=>?_);refine UC (bE h2 λ_ s3 h3=>UC (bE h3 λok s4 h4=>?_))
  cases ok with
  |false=>exact UD ⟨rfl,h4⟩
  |true=>exact UC (UC (bE h4 λx s5 h5=>UC (bE h5 λ_ s6 h6=>UD (UD ⟨rfl,h6⟩))))
noncomputable def Dc(X:Cx)(ifs:YI)(t:TT):Prop:=
 ∀(pins:Yz) (s:YR) (σ:St) (H:Hp) (Q:Bool->Hp->Prop),Inv X pins σ H s->t σ H Q ->
  wpAny (model X.prog X.w) X.A (forIn ifs true λc r=>if r=true then do let ok <- isTrue c X.env (eval c X.env);pure (ForInStep.yield ok)else pure (ForInStep.yield r)) (TP X pins σ Q) X.xe s
def SY:TT:=λ_ H Q=>Q true H
theorem Lp:Dc X [] SY:=λ_ _ _ H _ I h=>wpAny_tests_nil ⟨H,I,h⟩
theorem Lq(h:PT X c t):Dc X [c] t:=λpins s σ H Q I q=>wpAny_tests_one (h pins s σ H Q I q)
noncomputable def EU(n:Nat)(J:It)(g:TG)(tc:TT)(te:TE)(σ:St)(H:Hp)(Q:VK):Prop:=
 ∃W:Nat->Nat->List V->Hp->Prop,(∃m,W 0 m [] H)/\∀i m ys H,W i m ys H ->
  (J.stop i H/\ys.length<=sizeLine/\∀p,H p=none->Q (.ref p) (upd H p (.lst ys))) \/
  (J.go i H/\ys.length<=sizeLine/\∃N:List V->Hp->Prop,(∀ys' H',N ys' H'->∃m',m'<m/\W (i+1) m' ys' H')/\∀x H',J.yld i H x H'->g x (List.replicate n none++σ) H' λσ2 H2=>tc σ2 H2 λb H3=>
   if b=true then te σ2 H3 λy H4=>N (ys++[y]) H4 else N ys H3)
noncomputable def gW{β:Type}(n:Nat)(J:It)(g:TG)(tc:TT)(t0:β)(FIN:β->Hp->Prop)(PRE:β->Prop)(BODY:β->(β->Hp->Prop)->St->Hp->Prop)(σ:St)(H:Hp):Prop:=
 ∃W:Nat->Nat->β->Hp->Prop,(∃m,W 0 m t0 H)/\∀i m t H,W i m t H ->
  (J.stop i H/\FIN t H) \/
  (J.go i H/\PRE t/\∃N:β->Hp->Prop,(∀t' H',N t' H'->∃m',m'<m/\W (i+1) m' t' H')/\∀x H',J.yld i H x H'->g x (List.replicate n none++σ) H' λσ2 H2=>tc σ2 H2 λb H3=>
   if b=true then BODY t N σ2 H3 else N t H3)
theorem zw{β:Type}{T0:String}{d0:Data}{okA:β->Obj->Prop}{t0:β}{FIN:β->Hp->Prop}{PRE:β->Prop}{BODY:β->(β->Hp->Prop)->St->Hp->Prop}{BD:Addr->Env->(YR->Prop)->YR->Prop}{ce:Expr}{Q:VK}{σ:St}{J:It}{g:TG}{tc:TT}{tg:Expr}{ifs:YI}
 {RR:Value->Addr->Result->YR->Prop}{E:Yy}(I:Inv X pins σ H2 s2)(CS:cf X.env.scope X.N own scope)(hc:X.calm=true)(T:Turn X.prog X.w X.K tg J fp it tn)(st:tn 0 s2.heap)(hf:∀b∈fp,jP X pins H2 b)
 (hg:∀C s2 H2 fp pins,PG #[3] tg g)(ht:∀C s2 H2 fp pins,Dc #[3] ifs tc)
 (hsz:sizeOk d0)(hfr:({cls:=.type T0,dict:=none,data:=d0}:Obj).isFreed=false)(ok0:okA t0 {cls:=.type T0,dict:=none,data:=d0})(okd:∀t o,okA t o->∀v,o.data≠.cell v)
 (hfin:∀t o p H,s2.heap.objs.size<=p->H p=none->okA t o->FIN t H->∃ho,(∀H' h,h.get? p=some o->cL X.prog X.w H' h p ho)/\Q (.ref p) (upd H p ho))
 (lp:∀(D:Addr) (env:Env) (R:Result->YR->Prop) (LI:Nat->YR->Prop),(∀n s,LI n s->wpAny (model X.prog X.w) X.A (pyNext (.ref it)) (λr s1=>match r with
   |none=>R (.ok .next) s1
   |some v=>wpAny (model X.prog X.w) X.A (letOwnedTupleGo tg (.ref it) v) (λ_ s2=>wpAny (model X.prog X.w) X.A (assign tg env v) (λ_ s3=>
     wpAny (model X.prog X.w) X.A (forIn ifs true λc r=>if r=true then do let ok <- isTrue c env (eval c env);pure (ForInStep.yield ok)else pure (ForInStep.yield r)) (λok s4=>
      if ok=true then BD D env (λs6=>∃m,m<n/\LI m s6) s4
      else ∃m,m<n/\LI m s4) (λ_ _=>False) s3) (λ_ _=>False) s2) (λ_ _=>False) s1) (λ_ _=>False) s)->∀n s,LI n s ->
   codeAny (model X.prog X.w) X.A (.compLoop ce 0 (.ref it) (.ref D) env) R s)
 (hB:∀(C D:Addr) (o:Obj) (t:β) (N:β->Hp->Prop) (ps:Yz) (σ6:St) (H7:Hp) (s7:YR) (post:YR->Prop),PRE t->okA t o->Inv #[3] ((D,o)::ps) σ6 H7 s7 ->
   (∀H',H' D=none->jP #[3] ps H' D)->(∀(σ8:St) (H8:Hp) (s8:YR) (t':β) (o':Obj),Inv #[3] ps σ8 H8 s8->H8 D=none->s8.heap.get? D=some o'->okA t' o'->N t' H8->post s8) ->
   BODY t N σ6 H7->BD D (o6 scope C X.env) post s7)
 (hst:∀(D:Addr) (env:Env) (R:Result->YR->Prop) (s:YR),codeAny (model X.prog X.w) X.A (.compLoop ce 0 (.ref it) (.ref D) env) R s->wpAny (model X.prog X.w) X.A (pyIter (.ref it)) (λit' s'=>codeAny (model X.prog X.w) X.A (.compLoop ce 0 it' (.ref D) env) R s') (notedBy (model X.prog X.w) X.A env λx s'=>R (.error x) s') s->codeAny (model X.prog X.w) X.A (.compStart ce 0 (.ref it) (.ref D) env) R s)
 (hW:gW own.length J g tc t0 FIN PRE BODY σ H2)
 (hR:∀D C H' s',Inv X pins σ H' s'->jP X pins H' C->(∃m,s'.heap.Ns C m)->Q (.ref D) H'->Kept X fp H2 H' s2 s'->RR (.ref D) C (.ok .next) s') :
  wpAny (model X.prog X.w) X.A (newObj (.type T0) d0 none) (λacc s3=>wpAny (model X.prog X.w) X.A (newFunctionEnv scope X.env.globals (fh X.env.cells scope.names []) [] X.env.qual none .none (some X.env)) (λcenv s4=>
   codeAny (model X.prog X.w) X.A (.compStart ce 0 (.ref it) acc {cenv with scope:=relabel scope X.env}) (RR acc cenv.locals) s4) E s3) E s2:=by
 refine Vh (xI ?_) hsz;dsimp only;generalize hH:s2.heap.push {cls:=.type T0,dict:=none,data:=d0}=h3;have hDC:h3.objs.size=s2.heap.objs.size+1:=by rw[<- hH,VH]
 have eC:({scope:=relabel scope X.env,locals:=h3.objs.size,globals:=X.env.globals,cells:=cellsFrom (h3.objs.size+1) scope.names (fh X.env.cells scope.names []),qual:=X.env.qual,func:=none,code:=X.env.code,frame:=X.env.frame,builtins:=X.env.builtins}:Env)=o6 scope h3.objs.size X.env:=rfl;rw[eC];generalize eD:s2.heap.objs.size=D at *;generalize eCC:h3.objs.size=C at *;have hl:∀b∈fp,b<s2.heap.objs.size:=λb hb=>by obtain⟨o,e,_⟩:=T.obj 0 _ st b hb;exact UM e
 have hC:s2.heap.objs.size<=C:=by omega
 generalize hH4:pushCells (h3.push {cls:=.type "dict",data:=.dict #[]}) scope.names=h4;have k34:∀b o,(h3.push {cls:=.type "dict",data:=.dict #[]}).get? b=some o->h4.get? b=some o:=λb o e=>by rw[<- hH4];exact pushCells_keeps _ _ b o e
 have k24:∀b o,s2.heap.get? b=some o->h4.get? b=some o:=λb o e=>k34 b o (UE _ (by rw[<- hH];exact UE _ e));have nsC:h4.Ns C λ_=>none:=by have:=Heap.Ns.new h3 (.type "dict");rw[eCC]at this;exact this.keeps k34
 have accD:h4.get? D=some {cls:=.type T0,dict:=none,data:=d0}:=k34 _ _ (UE _ (by rw[<- hH,<- eD];exact UL _ hfr));have cellN:∀x c,(x,c)∈cellsFrom (C+1) scope.names []->h4.IsCell c none/\C+1<=c:=λx c hm=>by have ok:=cellsFrom_ok scope.names (h3.push {cls:=.type "dict",data:=.dict #[]}) (C+1) [] ⟨λ_ _ hm=>(nomatch hm),List.Pairwise.nil⟩ (by rw[VH];omega);rw[VH,eCC,hH4]at ok;exact ok.empty x c hm
 have hne:H2 D=none:=by rw[<- eD];exact I.hok.fresh (UJ _)
 have ok':#[3].Ok:=Lo I CS hC hf hl
 have rebase:∀{σ':St} {H':Hp} {ps:Yz} {s':YR},Inv #[3] ps σ' H' s'->Inv #[3] ps (List.replicate own.length none++σ) H' s':=λ{σ' H' ps s'} J'=>by
  obtain⟨m,hn,_⟩:=J'.loc;refine⟨J'.ok,J'.os,J'.bare,J'.base,⟨m,hn,Ba I CS λc v z ⟨x,hx⟩=>?_⟩,J'.cell,J'.free,J'.freeC,J'.pin,J'.hok,?_⟩
  ·obtain⟨o,ho,hd⟩:=z;obtain⟨sl,e⟩:=J'.base.any ho (I.freeC x c hx) λhb=>(hf c hb).2.2.2.2.1 x c hx rfl;exact⟨_,e,hd⟩
  ·show(List.replicate own.length none++σ).length=(own++X.N).length;rw[U5,U5,W3,I.len]
 have start:Inv #[3] [] (List.replicate own.length none++σ) H2 {s2 with heap:=h4}:=by
  have I4:Inv X pins σ H2 {s2 with heap:=h4}:=I.kept (t':=s2.toks) k24;refine⟨ok',rfl,I.bare,Un.kept k24,⟨_,nsC,Ba I CS λc v z _=>z.keeps k24⟩,λx c h=>?_,I.hok.fresh hC,λx c h=>?_,λp hp=>?_,I4.hok,?_⟩
  ·rcases eJ h with⟨a,_,_⟩|a
   ·exact⟨_,(cellN x c a).1⟩
   ·obtain⟨v,z⟩:=I.cell x c (mU I CS a).2;exact⟨v,z.keeps k24⟩
  ·rcases eJ h with⟨_,_,a⟩|a
   ·exact I.hok.fresh (UO hC (UO (Wo _) a))
   ·exact I.freeC x c (mU I CS a).2
  ·have hp':p∈X.pn++pins:=by
    rcases UR.mp hp with z|z
    ·exact z
    ·exact nomatch z
   obtain⟨e,n,ne,nf,d⟩:=I.pin p hp';refine⟨k24 _ _ e,n,UT (US (UM e) hC),λz=>?_,d⟩;rcases UP.mp (I.rT _ z)with q|q
   ·exact ne q
   ·exact nf q
  ·show(List.replicate own.length none++σ).length=(own++X.N).length;rw[U5,U5,W3,I.len]
 obtain⟨W,⟨m0,w0⟩,turn⟩:=hW
 have nfs:∀b,s2.heap.objs.size<=b->b∉#[3].fs:=λb hb z=>by
  rcases UP.mp (I.rT b z)with q|q
  ·rw[q]at hb;exact absurd (US I.lt hb) (Vk _)
  ·exact I.NK hb q
 have fpD:∀{H':Hp},H' D=none->jP #[3] [] H' D:=λ{H'} hn=>by
  refine⟨hn,UT (by show D<C;omega),nfs D #[1],.inr (by show s2.heap.objs.size<=D;omega),λx c h z=>?_,λp hp z=>?_⟩
  ·rcases eJ h with⟨_,_,a⟩|a
   ·rw[z]at a;exact absurd (US (show D<C+1 by omega) a) (Vk _)
   ·obtain⟨v,q⟩:=I.cell x c (mU I CS a).2;have:=q.lt;rw[z,eD]at this;exact Vk _ this
  ·have hp':p∈X.pn++pins:=by
    rcases UR.mp hp with z|z
    ·exact z
    ·exact nomatch z
   have:=UM (I.pin p hp').1;rw[z,eD]at this;exact Vk _ this
 have nD:D∉fp:=λz=>by have:=hl D z;rw[eD]at this;exact Vk _ this
 have stat:∀{H':Hp} {ps:Yz},(∀p∈ps,p.1=D)->(∀b∈fp,H' b=none)->∀b∈fp,jP #[3] ps H' b:=λ{H' ps} hps hn b hb=>by
  obtain⟨f0,f1,f2,f3,f4,f5⟩:=hf b hb;refine⟨hn b hb,(ok'.exf b hb).1,ok'.exfs b hb,.inl hb,(ok'.exf b hb).2,λp hp=>?_⟩;rcases UR.mp hp with z|z
  ·exact f5 p z
  ·rw[hps p z];exact λq=>nD (q▸hb)
 let LI:Nat->YR->Prop:=λn s'=>∃i t o H',Inv #[3] [] (List.replicate own.length none++σ) H' s'/\tn i s'.heap/\(∀b∈fp,H' b=none)/\H' D=none /\
  s'.heap.get? D=some o/\okA t o/\W i n t H'
 have l0:LI m0 {s2 with heap:=h4}:=⟨0,t0,_,H2,start,T.keep _ _ _ st λb _ o e=>k24 b o e,λb hb=>(hf b hb).1,hne,accD,ok0,w0⟩
 have loop:codeAny (model X.prog X.w) X.A (.compLoop ce 0 (.ref it) (.ref D) (o6 scope C X.env)) (RR (.ref D) C) {s2 with heap:=h4}:=by
  refine lp D _ _ LI ?_ m0 _ l0;rintro n s3 ⟨i,t,oD,H3,I3,st3,fr3,d3,a3,v3,w3⟩;have I3p:=I3.pinned (fp:=[D]) (λb hb=>(UU.mp hb)▸fpD d3) λb hb=>⟨_,(UU.mp hb)▸a3,okd t oD v3⟩;have onlyD:∀p∈([]++gB [D] s3.heap),p.1=D:=λp hp=>by have q:p∈gB [D] s3.heap:=hp;have:=(n6 q).1;simpa using this
  rcases turn i n t H3 w3 with⟨stop,qn⟩|⟨go,hz,NN,hNN,step⟩
  ·refine bE (T.done #[3] rfl rfl rfl hc i _ s3 _ H3 _ I3p (stat onlyD fr3) st3 stop) λr s4 ⟨hr,I4⟩=>?_;subst hr;have a4:s4.heap.get? D=_:=(I4.pin (D,_) (UG _ (UG _ (cX (by simp) a3)))).1;have u4:Un (AX X.stack) fp H2 H3 s2.heap s4.heap:=I4.base;obtain⟨ho,S5,qD⟩:=hfin t oD D H3 (UJ _) d3 v3 qn
   have okD:nZ X.prog X.w (upd H3 D ho) s4.heap:=λb o e=>by
    by_cases hb:b=D
    ·subst hb;rw[bg]at e;cases e;exact S5 _ _ a4
    ·rw[aM hb]at e;exact(I4.hok b o e).zh (λ_ _ _ q=>q) (λc q=>by rw[aM (aV q d3)];exact q) λc xs q=>by rw[aM (aV q d3)];exact q
   have nDo:∀b o,s2.heap.get? b=some o->b≠D:=λb o e=>by rw[<- eD];exact UT (UM e)
   have uD:Un (AX X.stack) fp H2 (upd H3 D ho) s2.heap s4.heap:=⟨u4.keep,u4.slot,λb o e n hx=>by rw[aM (nDo b o e)];exact u4.free b o e n hx,u4.there,
    λb xs e=>by rw[aM (aV e hne)];exact u4.tups b xs e,λb o xs e=>by rw[aM (aV e hne)];exact u4.frzs b o xs e,λb ps e=>by rw[aM (aV e hne)];exact u4.tbls b ps e⟩
   have kp:Kept X fp H2 (upd H3 D ho) s2 s4:=⟨I4.os,uD,okD,I4.bare⟩;obtain⟨m,hn,_⟩:=I4.loc;refine hR D C _ s4 (kp.inv I hf) ⟨by rw[aM (show C≠D by omega)];exact I4.free,WS (US I.lt hC),I.NK hC,.inr (UO I.sz hC),λx c e z=>?_,λp hp z=>?_⟩ ⟨m,hn⟩ qD kp
   ·obtain⟨v,q⟩:=I.cell x c e;exact absurd (US q.lt (by rw[z];exact hC)) (Vk _)
   ·exact absurd (US (UM (I.pin p hp).1) (by rw[z];exact hC)) (Vk _)
  ·refine bE (T.item #[3] rfl rfl rfl hc i _ s3 _ H3 _ I3p (stat onlyD fr3) st3 go) λr s4 ⟨u,hr,h4'⟩=>?_;subst hr;refine bE h4' λ_ s5 ⟨x,H5,I5,r5,y5,st5,fr5⟩=>?_;have I5p:=I5.pinned (fp:=fp) (stat onlyD fr5) (T.obj _ _ st5);have post:∀(σ8:St) (H8:Hp) (s8:YR) (t':β) (o':Obj),Inv #[3] (gB fp s5.heap) σ8 H8 s8->H8 D=none->s8.heap.get? D=some o'->okA t' o'->NN t' H8->∃m,m<n/\LI m s8:=λσ8 H8 s8 t' o' I8 d8 g8 k8 n8=>by obtain⟨m',hm,w8⟩:=hNN _ _ n8;refine⟨m',hm,i+1,t',o',H8,rebase (I8.gQ λp hp=>nomatch hp),T.keep _ _ _ st5 λb hb o e=>(I8.pin (b,o) (UG _ (cX hb e))).1,λb hb=>?_,d8,g8,k8,w8⟩;obtain⟨o,e,_⟩:=T.obj _ _ st5 b hb;exact(I8.pin (b,o) (UG _ (cX hb e))).2.1
   have re:∀{σ6 H6 s6},Inv #[3] (([]++gB [D] s3.heap)++gB fp s5.heap) σ6 H6 s6->Inv #[3] ((D,oD)::gB fp s5.heap) σ6 H6 s6:=λ{σ6 H6 s6} I6=>I6.gQ λp hp=>by
    rcases UP.mp hp with rfl|z
    ·exact I6.pin _ (UG _ (U4 _ (UG _ (cX (by simp) a3))))
    ·exact I6.pin p (UG _ (UG _ z))
   refine bE (hg C s2 H2 fp pins _ s5 _ H5 x u _ I5p r5 (step x H5 y5)) λ_ s6 ⟨σ6,H6,I6,q6⟩=>?_;refine bE (ht C s2 H2 fp pins _ s6 σ6 H6 _ I6 q6) λb s7 ⟨H7,I7,q7⟩=>?_;have J7:=re I7
   cases b with
   |false=>have pD:=J7.pin (D,oD) (UG _ (.head _));exact post σ6 H7 s7 t oD (J7.gQ λp hp=>J7.pin p (UG _ (UI _ hp))) pD.2.1 pD.1 v3 q7
   |true=>
    refine hB C D oD t NN _ σ6 H7 s7 _ hz v3 J7 (λH' hn=>?_) post q7;obtain⟨f0,f1,f2,f3,f4,f5⟩:=fpD hn;refine⟨f0,f1,f2,f3,f4,λp hp=>?_⟩;rcases UR.mp hp with z|z
    ·exact f5 p (U4 _ z)
    ·exact λq=>nD (q▸(n6 z).1)
 exact hst D _ _ _ loop (T.self X.A 0 {s2 with heap:=h4} _ _ (T.keep _ _ _ st λb _ o e=>k24 b o e) loop)
theorem o7{σ:St}
 {RR:Value->Addr->Result->YR->Prop}(I:Inv X pins σ H2 s2)(CS:cf X.env.scope X.N own scope)(hc:X.calm=true)(T:Turn X.prog X.w X.K tg J fp it tn)(st:tn 0 s2.heap)(hf:∀b∈fp,jP X pins H2 b)
 (hg:∀C s2 H2 fp pins,PG #[3] tg g)(ht:∀C s2 H2 fp pins,Dc #[3] ifs tc)(he:∀C s2 H2 fp pins,PE #[3] elt te)
 (hW:EU own.length J g tc te σ H2 Q)
 (hR:∀D C H' s',Inv X pins σ H' s'->jP X pins H' C->(∃m,s'.heap.Ns C m)->Q (.ref D) H'->Kept X fp H2 H' s2 s'->RR (.ref D) C (.ok .next) s') :
  wpAny (model X.prog X.w) X.A (newList []) (λacc s3=>wpAny (model X.prog X.w) X.A (newFunctionEnv scope X.env.globals (fh X.env.cells scope.names []) [] X.env.qual none .none (some X.env)) (λcenv s4=>
   codeAny (model X.prog X.w) X.A (.compStart (.ListComp elt [⟨tg,iter,ifs,0⟩] scope pos) 0 (.ref it) acc {cenv with scope:=relabel scope X.env}) (RR acc cenv.locals) s4) E s3) E s2:=by
 exact zw (okA:=λys o=>∃its k,o={cls:=.type "list",data:=.seq (List.toArray its) k}/\Vals ys its) (t0:=[]) (PRE:=λys=>ys.length<=sizeLine) (FIN:=λys H=>ys.length<=sizeLine/\∀p,H p=none->Q (.ref p) (upd H p (.lst ys))) (BODY:=λys N σ2 H3=>te σ2 H3 λy H4=>N (ys++[y]) H4)
  (BD:=λacc env post s=>wpAny (model X.prog X.w) X.A (eval elt env) (λx s5=>wpAny (model X.prog X.w) X.A (call (.builtin "list.append") [.ref acc,x]) (λ_ s6=>post s6) (λ_ _=>False) s5) (λ_ _=>False) s)
  I CS hc T st hf hg ht (by size_fits) rfl ⟨[],0,rfl,.nil⟩ (by rintro t o ⟨_,_,rfl,_⟩ v z;cases z) (by rintro ys o p H _ hn ⟨its,k,rfl,v⟩ ⟨hz,q⟩;exact⟨.lst ys,λ_ _ a=>⟨hz,its,k,v,a⟩,q p hn⟩)
  (λD env R LI h n s=>C9 LI h n) (by
   rintro C D o ys N ps σ6 H7 s7 post hz ⟨its,k,rfl,v3⟩ J7 fD pst q7;refine bE (he C s2 H2 fp pins _ s7 σ6 H7 _ J7 q7) λv s8 ⟨y,H8,I8,r8,q8⟩=>?_;have pD:=I8.pin (D,_) (UG _ (.head _));refine wpAny_list_append_plain ⟨k,pD.1⟩ (λh' hp hs=>?_) (by rw[UY,<- v3.length];exact hz);obtain⟨k',e'⟩:=hp;obtain⟨f0,f1,f2,f3,f4,f5⟩:=fD H8 pD.2.1
   refine pst σ6 H8 _ (ys++[y]) _ ((I8.gQ λp hp=>I8.pin p (UG _ (UI _ hp))).turned (t':=s8.toks) (λb o hb e=>(hs.2 b hb).trans e) f0 f1 f3 f4 f5) pD.2.1 e' ⟨its++[v],k',by simp,v3.append (.cons r8 .nil)⟩ q8)
  (λD env R s a b=>codeAny_compStart_list a b) hW hR
section
variable {X:Cx} {own:YH} {scope:Scope} {elt tg iter:Expr} {ifs:YI} {pos:Pos} {wi:TI} {g:TG} {tc:TT} {te:TE}
def yh(n:Nat)(wi:TI)(g:TG)(tc:TT)(te:TE):TE:=λσ H Q=>wi σ H λJ H1=>EU n J g tc te σ H1 Q
theorem jl(CS:cf sc N own scope):∀x∈scope.names,x.2=.local->scope.names.lookup x.1=some .local:=λx hx e=>by rw[CS.uniq x hx,e]
theorem EV(own:YH)(CS:c7 X.env.scope X.N own scope=true)(hc:X.calm=true)(hi:PI X tg iter wi)(hg:∀C s2 H2 fp pins,PG #[3] tg g)
 (ht:∀C s2 H2 fp pins,Dc #[3] ifs tc)(he:∀C s2 H2 fp pins,PE #[3] elt te)(hs:∀x,foldedSetIterable iter X.env x=pure x:=by intro _;rfl) :
  PE X (.ListComp elt [⟨tg,iter,ifs,0⟩] scope pos) (yh own.length wi g tc te):=by
 intro pins s σ H Q I h;have CS:=cf.of CS;refine Wc rfl hs (fi λn hn=>I.ok.has n (CS.frees n hn)) CS.kind (jl CS) (bE (hi pins s σ H _ I h) λv s1 h1=>bE h1 λitv s2 h2=>?_);obtain⟨it,fp,tn,J,H2,e,I2,T,st2,f2,hW⟩:=h2;subst e;refine o7 I2 CS hc T st2 f2 hg ht he hW λD C H' s' I' fC ⟨m,hn⟩ q _=>?_;refine⟨m,hn,λh' hs'=>⟨.ref D,H',?_,rfl,q⟩⟩;obtain⟨f0,f1,_,f3,f4,f5⟩:=fC;exact I'.turned (λb o hb e=>(hs'.2 b hb).trans e) f0 f1 f3 f4 f5
theorem Ls(own:YH){pos' spos:Pos}(hN:X.N.Nodup)(hxi:X.N[i]?=some x)(hx:X.env.scope.names.lookup x=some .local)(CS:c7 X.env.scope X.N own scope=true)(hc:X.calm=true)(hi:PI X tg iter wi)(hg:∀C s2 H2 fp pins,PG #[3] tg g)
 (ht:∀C s2 H2 fp pins,Dc #[3] ifs tc)(he:∀C s2 H2 fp pins,PE #[3] elt te)(hs:∀x,foldedSetIterable iter X.env x=pure x:=by intro _;rfl)
 (hsw:swapsWith (.ListComp elt [⟨tg,iter,ifs,0⟩] scope pos) (some (.Name x pos')) spos.line X.env=pure true:=by rfl) :
  PS X (.Assign [.Name x pos'] (.ListComp elt [⟨tg,iter,ifs,0⟩] scope pos) spos) (CY (yh own.length wi g tc te) (aq i)):=by
 intro pins s σ H D I h;have CS:=cf.of CS;rw[X0 _ _ _ _ hsw];refine UC (VO (UC ?_));show wpAny _ X.A (do let _ <- comprehension (.ListComp elt [⟨tg,iter,ifs,0⟩] scope pos) scope X.env _ (newList []) false (eval iter X.env) (some (assign (.Name x pos') X.env))) _ _ s
 refine UC (bE (Wc (use:=some (assign (.Name x pos') X.env)) (Q:=λ_ s'=>SP X pins D .next s') (g:=⟨tg,iter,ifs,0⟩) rfl hs (fi λn hn=>I.ok.has n (CS.frees n hn)) CS.kind (jl CS)
  (bE (hi pins s σ H _ I h) λv s1 h1=>bE h1 λitv s2 h2=>?_)) λ_ s' hq=>UD (UD hq))
 obtain⟨it,fp,tn,J,H2,e,I2,T,st2,f2,hW⟩:=h2;subst e;refine o7 (Q:=λx H1=>aq i x σ H1 D.nx) (RR:=λacc C=>compPost (model X.prog X.w) X.A X.xe (some (assign (.Name x pos') X.env)) (λ_ s'=>SP X pins D .next s') acc C) I2 CS hc T st2 f2 hg ht he hW λDl C H' s' I' fC ⟨m,hn⟩ q _=>?_;show wpAny _ _ (assign (.Name x pos') X.env (.ref Dl)) _ _ s';refine XH (n5 (v:=.ref Dl) I' hN hxi (.inl hx) rfl (λs'' I'' hsb=>?_) (.inr hx));obtain⟨f0,f1,f2',f3,f4,f5⟩:=fC;obtain⟨a,sb,ha⟩:=hsb
 have hCa:C≠a:=by
  rcases ha with e|e
  ·rw[e];exact f1
  ·exact(f4 x a e).symm
 refine⟨m,hn.sameBut sb hCa,λh' hs'=>⟨_,H',?_,q⟩⟩;exact I''.turned (t':=s''.toks) (λb o hb e=>(hs'.2 b hb).trans e) f0 f1 f3 f4 f5
theorem HU(own N':YH){pos' spos:Pos}(hN:X.N.Nodup)(hxi:X.N[i]?=some x)(hx:X.env.scope.names.lookup x=some .local)(HL:uT X.env.scope X.N N'=true)(CS:c7 X.env.scope N' own scope=true)(hc:X.calm=true)(hi:PI X tg iter wi)(hg:∀C s2 H2 fp pins,PG (ay (X.Gz N') own scope C s2 H2 fp pins) tg g)
 (ht:∀C s2 H2 fp pins,Dc (ay (X.Gz N') own scope C s2 H2 fp pins) ifs tc)(he:∀C s2 H2 fp pins,PE (ay (X.Gz N') own scope C s2 H2 fp pins) elt te)(hs:∀x,foldedSetIterable iter X.env x=pure x:=by intro _;rfl)
 (hsw:swapsWith (.ListComp elt [⟨tg,iter,ifs,0⟩] scope pos) (some (.Name x pos')) spos.line X.env=pure true:=by rfl) :
  PS X (.Assign [.Name x pos'] (.ListComp elt [⟨tg,iter,ifs,0⟩] scope pos) spos) (CY (yh own.length wi g tc te) (aq i)):=by
 intro pins s σ H D I h;have CS:=cf.of CS;rw[X0 _ _ _ _ hsw];refine UC (VO (UC ?_));show wpAny _ X.A (do let _ <- comprehension (.ListComp elt [⟨tg,iter,ifs,0⟩] scope pos) scope X.env _ (newList []) false (eval iter X.env) (some (assign (.Name x pos') X.env))) _ _ s
 refine UC (bE (Wc (use:=some (assign (.Name x pos') X.env)) (Q:=λ_ s'=>SP X pins D .next s') (g:=⟨tg,iter,ifs,0⟩) rfl hs (fi λn hn=>I.ok.has n (CS.frees n hn)) CS.kind (jl CS)
  (bE (hi pins s σ H _ I h) λv s1 h1=>bE h1 λitv s2 h2=>?_)) λ_ s' hq=>UD (UD hq))
 obtain⟨it,fp,tn,J,H2,e,I2,T,st2,f2,hW⟩:=h2;subst e;refine o7 (X:=X.Gz N') (Q:=λx H1=>aq i x σ H1 D.nx) (RR:=λacc C=>compPost (model X.prog X.w) X.A X.xe (some (assign (.Name x pos') X.env)) (λ_ s'=>SP X pins D .next s') acc C) (I2.Gz HL) CS hc T st2 f2 hg ht he hW λDl C H' s' _ fC ⟨m,hn⟩ q kp=>?_;have I':Inv X pins σ H' s':=Kept.inv kp I2 f2;show wpAny _ _ (assign (.Name x pos') X.env (.ref Dl)) _ _ s';refine XH (n5 (v:=.ref Dl) I' hN hxi (.inl hx) rfl (λs'' I'' hsb=>?_) (.inr hx));obtain⟨f0,f1,f2',f3,f4,f5⟩:=fC;obtain⟨a,sb,ha⟩:=hsb
 have hCa:C≠a:=by
  rcases ha with e|e
  ·rw[e];exact f1
  ·exact(f4 x a e).symm
 refine⟨m,hn.sameBut sb hCa,λh' hs'=>⟨_,H',?_,q⟩⟩;exact I''.turned (t':=s''.toks) (λb o hb e=>(hs'.2 b hb).trans e) f0 f1 f3 f4 f5
end
structure Nx(P:YN)(w:World)(i l:Addr)(st:Nat->Heap->Prop)(xs:YF):Prop where
 obj:∀k h,st k h->∃o vs,h.get? i=some o/\o.data=.fields vs
 keep:∀k h h',st k h->(∀o,h.get? i=some o->h'.get? i=some o)->(∀o,h.get? l=some o->h'.get? l=some o)->st k h'
 item:∀(A:YQ) k (s:YR) x (Q:Yy) (E:Yy),st k s.heap->xs[k]?=some x->(∀h',st (k+1) h'->Heap.SameBut i s.heap h'->Q x {s with heap:=h'}) ->
  wpAny (model P w) A (Builtin.SmallTypes.nextOf (.ref i)) Q E s
 done:∀(A:YQ) k (s:YR) (Q:Yy) (E:Yy),A.handled=none->st k s.heap->xs[k]?=none ->
  (∀h' e,Heap.ExtBut i s.heap h'->(∃o,h'.get? e=some o/\o.cls=.type "StopIteration")->E (.ref e) {s with heap:=h'})->wpAny (model P w) A (Builtin.SmallTypes.nextOf (.ref i)) Q E s
section
variable {P:YN} {w:World} {A:YQ} {E:Yy} {s:YR}
theorem Bb{h:Heap}(a:h.IsTupleIter i l k)(b:h.IsTuple l its):i≠l:=λe=>by
 obtain⟨o,h1,c1,_⟩:=a;obtain⟨o',h2,c2,_⟩:=b
 grind
theorem Dd(a:s.heap.IsTupleIter it t k)(b:s.heap.IsTuple t its)(hx:its[k]?=some x)
 (q:∀h',h'.IsTupleIter it t (k+1)->Heap.SameBut it s.heap h'->Q x {s with heap:=h'}):wpAny (model P w) A (Builtin.SmallTypes.nextOf (.ref it)) Q E s:=by
 obtain⟨oi,gi,ci,di⟩:=id a;obtain⟨ot,gt,_,nt,dt⟩:=b;unfold Builtin.SmallTypes.nextOf;refine UC (Vd (name:=Str.ofString "__next__") a.typeIs Wt (U7 Wt a.typeIs F.entry_tuple_iterator_next ?_ (F.args_tuple_iterator_next_1 _)));show wpAny _ _ (field (Value.ref it) 0 >>= _) _ _ s;refine UC (V2 (x:=Value.ref t) gi di rfl ?_);rw[if_neg (show ¬ (Value.ref t==Value.none)=true from U9)];show wpAny _ _ (field (Value.ref it) 1 >>= _) _ _ s;refine UC (V2 (x:=Value.int k 0) gi di rfl ?_);show wpAny _ _ (seqItems? (Value.ref t) >>= _) _ _ s;refine UC (VM gt dt ?_);simp only[hx,V7];refine UC (XX gi di (by simp) (UD ⟨x,rfl,UD (q _ ⟨_,VX _ gi (X1 (W0 di _)),(Obj.cls_mapFields ..).trans ci,?_⟩ (VD ..))⟩));rw[W0 di];simp[rawInt]
theorem vt(hh:A.handled=none)(a:s.heap.IsTupleIter it t k)(b:s.heap.IsTuple t its)(hx:its[k]?=none)
 (q:∀h' e,Heap.ExtBut it s.heap h'->(∃o,h'.get? e=some o/\o.cls=.type "StopIteration")->E (.ref e) {s with heap:=h'}):wpAny (model P w) A (Builtin.SmallTypes.nextOf (.ref it)) Q E s:=by
 obtain⟨oi,gi,ci,di⟩:=id a;obtain⟨ot,gt,_,nt,dt⟩:=b;unfold Builtin.SmallTypes.nextOf;refine UC (Vd (name:=Str.ofString "__next__") a.typeIs Wt (U7 Wt a.typeIs F.entry_tuple_iterator_next ?_ (F.args_tuple_iterator_next_1 _)));show wpAny _ _ (field (Value.ref it) 0 >>= _) _ _ s;refine UC (V2 (x:=Value.ref t) gi di rfl ?_);rw[if_neg (show ¬ (Value.ref t==Value.none)=true from U9)];show wpAny _ _ (field (Value.ref it) 1 >>= _) _ _ s;refine UC (V2 (x:=Value.int k 0) gi di rfl ?_);show wpAny _ _ (seqItems? (Value.ref t) >>= _) _ _ s;refine UC (VM gt dt ?_);simp only[hx,V7];refine UC (V5 (UC (XX gi di (by simp) ?_)));show wpAny _ _ (newExc (Value.type "StopIteration") [] >>= _) _ _ _;refine UC ?_;simp only[newTuple,newExc];refine UC (Vh ?_ (by size_fits));refine UC (m:=firstArgMember _ _) (WE (a:=Value.none) (by first|rfl | (unfold firstArgMember;rfl)) ?_);refine Vh ?_ (by size_fits);unfold raiseNew;refine UC (wpAny_handled ?_);rw[show A.in1.handled=none from hh];exact UC (UD (wpAny_throw (q _ _ (((VD ..).extBut.push _).push _) ⟨_,UL _ rfl,rfl⟩)))
theorem zx(i l:Addr)(xs:YF):Nx P w i l (λk h=>h.IsTupleIter i l k/\h.IsTuple l xs.toArray) xs where
 obj:=by rintro k h ⟨⟨o,a,_,c⟩,_⟩;exact⟨o,_,a,c⟩
 keep:=by rintro k h h' ⟨a,b⟩ k1 k2;exact⟨a.at k1,by obtain⟨o,e,r⟩:=b;exact⟨o,k2 o e,r⟩⟩
 item:=λA k s x Q E ⟨a,b⟩ hx q=>Dd a b (by simp_all) λh' a' sb=>q h' ⟨a',let ⟨o,e,r⟩:=b;⟨o,(sb.2 l (Bb a b).symm).trans e,r⟩⟩ sb
 done:=λA k s Q E hh ⟨a,b⟩ hx q=>vt hh a b (by simp_all) q
structure ZA(z TI TO i1 i2 l1 l2:Addr):Prop where
 a1:TI≠z
 a2:TO≠z
 a3:i1≠z
 a4:i2≠z
 a5:TI≠TO
 a6:TI≠i1
 a7:TI≠i2
 a8:TO≠i1
 a9:TO≠i2
 b1:i1≠i2
 b2:l1≠z
 b3:l1≠TO
 b4:l1≠i2
 b5:l2≠z
 b6:l2≠TO
 b7:l2≠i1
variable {st1 st2:Nat->Heap->Prop} {xs ys:YF} {z TI TO i1 i2 l1 l2:Addr} {k:Nat} {a b:Value}
theorem aJ(sb:Heap.SameBut c h h')(ne:d≠c)(e:h.get? d=some o):h'.get? d=some o:=(sb.2 d ne).trans e
theorem HV(D:ZA z TI TO i1 i2 l1 l2)(N1:Nx P w i1 l1 st1 xs)(N2:Nx P w i2 l2 st2 ys){Q:Yy}(hz:IsZip s.heap z TI TO .none)(hI:IsPair s.heap TI (.ref i1) (.ref i2))(hO:IsPair s.heap TO a b)
 (s1:st1 k s.heap)(s2:st2 k s.heap)(hx:xs[k]?=some x)(hy:ys[k]?=some y)
 (q:∀h',IsZip h' z TI TO (rawInt #[2])->IsPair h' TO x y->st1 (k+1) h'->st2 (k+1) h'->IsPair h' #[2] x y ->
   (∀c o,c≠z->c≠TO->c≠i1->c≠i2->s.heap.get? c=some o->h'.get? c=some o)->Q (.ref #[2]) {s with heap:=h'}) :
  wpAny (model P w) A (Builtin.«zip.__next__» ⟨[.ref z],[]⟩) (λfin s'=>∃v,fin=.done (.ret v)/\Q v s') E s:=by
 show wpAny _ _ (field (Value.ref z) 2 >>= _) _ _ _;refine UC (V2 (x:=Value.bool false) hz rfl rfl ?_);show wpAny _ _ (field (Value.ref z) 3 >>= _) _ _ _;refine UC (V2 (x:=Value.ref TI) hz rfl rfl ?_);refine UC (VM hI rfl ?_);show wpAny _ _ (Builtin.SmallTypes.ownedTupleIsFree (Value.ref z) >>= _) _ _ _;refine UC ?_;unfold Builtin.SmallTypes.ownedTupleIsFree;refine UC (V2 (x:=Value.none) hz rfl rfl (UD ?_));simp only[VC];refine UC (V5 (UC (V2 (x:=Value.ref TO) hz rfl rfl ?_)));refine UC (Wy hz (by simp) λg1 z1 e1=>?_);have z1:IsZip g1 z TI TO .ellipsis:=z1;refine UC ?_;simp only[List.zipIdx_nil,List.zipIdx_cons,WW,V3];refine UC (UC (wpAny_onRaise ?_));show wpAny _ _ (Builtin.SmallTypes.nextOf (Value.ref i1) >>= _) _ _ _;refine UC (N1.item _ k _ x _ _ (N1.keep _ _ _ s1 (λo=>aJ e1 D.a3) λo=>aJ e1 D.b2) hx λg2 t1 e2=>UD ?_);have O2:IsPair g2 TO a b:=aJ e2 D.a8 (aJ e1 D.a2 hO);refine UC (VM O2 rfl (UC (X8 O2 λg3 O3 e3=>?_)));have O3:IsPair g3 TO x b:=O3;refine UC (wpAny_letGo (UD (UC (UC (wpAny_onRaise ?_)))));show wpAny _ _ (Builtin.SmallTypes.nextOf (Value.ref i2) >>= _) _ _ _;refine UC (N2.item _ k _ y _ _ (N2.keep _ _ _ s2 (λo e=>aJ e3 D.a9.symm (aJ e2 D.b1.symm (aJ e1 D.a4 e))) λo e=>aJ e3 D.b6 (aJ e2 D.b7 (aJ e1 D.b5 e))) hy λg4 t2 e4=>UD ?_);have O4:IsPair g4 TO x b:=aJ e4 D.a9 O3;refine UC (VM O4 rfl (UC (X8 O4 λg5 O5 e5=>?_)));have O5:IsPair g5 TO x y:=O5;refine UC (wpAny_letGo (UD (UD (UC (VM O5 rfl (UC (Yp ?_)))))));have sz:g5.objs.size=#[2]:=by rw[e5.1,e4.1,e3.1,e2.1,e1.1]
 have z5:IsZip g5 z TI TO .ellipsis:=aJ e5 D.a2.symm (aJ e4 D.a4.symm (aJ e3 D.a2.symm (aJ e2 D.a3.symm z1)));have zlt:z<g5.objs.size:=UM z5;have u1:st1 (k+1) g5:=N1.keep _ _ _ t1 (λo e=>aJ e5 D.a8.symm (aJ e4 D.b1 (aJ e3 D.a8.symm e))) λo e=>aJ e5 D.b3 (aJ e4 D.b4 (aJ e3 D.b3 e));have u2:st2 (k+1) g5:=N2.keep _ _ _ t2 (λo e=>aJ e5 D.a9.symm e) λo e=>aJ e5 D.b6 e;show wpAny _ _ (Builtin.SmallTypes.ownedTupleHandOut (Value.ref z) (.ref g5.objs.size) >>= _) _ _ _;refine UC ?_;unfold Builtin.SmallTypes.ownedTupleHandOut;have z6:IsZip (g5.push {cls:=.type "tuple",data:=.seq #[x,y]}) z TI TO .ellipsis:=UE _ z5;refine UC (Wy z6 (by simp) λg7 z7 e7=>?_);have z7:IsZip g7 z TI TO (rawInt g5.objs.size):=z7;refine Wy z7 (by simp) λg8 z8 e8=>?_;have z8:IsZip g8 z TI TO (rawInt g5.objs.size):=z8;have up:∀c o,c≠z->g5.get? c=some o->g8.get? c=some o:=λc o n e=>aJ e8 n (aJ e7 n (UE _ e));have nw:IsPair g8 g5.objs.size x y:=aJ e8 (WS zlt) (aJ e7 (WS zlt) (UL _ rfl));rw[sz]at z8 nw;refine UD ⟨_,rfl,?_⟩;show Q (.ref g5.objs.size) _;rw[sz]
 exact q g8 z8 (up _ _ D.a2 O5) (N1.keep _ _ _ u1 (λo=>up _ o D.a3) λo=>up _ o D.b2) (N2.keep _ _ _ u2 (λo=>up _ o D.a4) λo=>up _ o D.b5) nw λc o n1 n2 n3 n4 e=>
  up c o n1 (aJ e5 n2 (aJ e4 n4 (aJ e3 n2 (aJ e2 n3 (aJ e1 n1 e)))))
theorem Lu(hh:A.handled=none)(D:ZA z TI TO i1 i2 l1 l2)(N1:Nx P w i1 l1 st1 xs)(N2:Nx P w i2 l2 st2 ys)(hz:IsZip s.heap z TI TO .none)(hI:IsPair s.heap TI (.ref i1) (.ref i2))(hO:IsPair s.heap TO a b)
 (s1:st1 k s.heap)(s2:st2 k s.heap)(hend:xs[k]?=none\/ys[k]?=none)
 (q:∀h' e,(∀c o,c≠z->c≠TO->c≠i1->c≠i2->s.heap.get? c=some o->h'.get? c=some o)->(∃o,h'.get? e=some o/\o.cls=.type "StopIteration")->E (.ref e) {s with heap:=h'}) :
  wpAny (model P w) A (Builtin.«zip.__next__» ⟨[.ref z],[]⟩) Q E s:=by
 show wpAny _ _ (field (Value.ref z) 2 >>= _) _ _ _;refine UC (V2 (x:=Value.bool false) hz rfl rfl ?_);show wpAny _ _ (field (Value.ref z) 3 >>= _) _ _ _;refine UC (V2 (x:=Value.ref TI) hz rfl rfl ?_);refine UC (VM hI rfl ?_);show wpAny _ _ (Builtin.SmallTypes.ownedTupleIsFree (Value.ref z) >>= _) _ _ _;refine UC ?_;unfold Builtin.SmallTypes.ownedTupleIsFree;refine UC (V2 (x:=Value.none) hz rfl rfl (UD ?_));simp only[VC];refine UC (V5 (UC (V2 (x:=Value.ref TO) hz rfl rfl ?_)));refine UC (Wy hz (by simp) λg1 z1 e1=>?_);have z1:IsZip g1 z TI TO .ellipsis:=z1;refine UC ?_;simp only[List.zipIdx_nil,List.zipIdx_cons,WW,V3];refine UC (UC (wpAny_onRaise ?_));show wpAny _ _ (Builtin.SmallTypes.nextOf (Value.ref i1) >>= _) _ _ _;have t1:st1 k g1:=N1.keep _ _ _ s1 (λo=>aJ e1 D.a3) λo=>aJ e1 D.b2
 cases hx:xs[k]? with
 |none=>
  refine UC (N1.done _ k _ _ _ hh t1 hx λg2 e e2 ⟨oe,he,ce⟩=>?_);have z2:IsZip g2 z TI TO .ellipsis:=e2 _ _ D.a3.symm z1;have ne:e≠z:=λr=>by rw[r,z2]at he;cases he;exact absurd (show Value.type "zip" = Value.type "StopIteration" from ce) (by decide)
  exact Wy z2 (by simp) λg3 _ e3=>q g3 e (λc o n1 _ n3 _ r=>aJ e3 n1 (e2 _ _ n3 (aJ e1 n1 r))) ⟨oe,aJ e3 ne he,ce⟩
 |some x=>
  have hy:ys[k]?=none:=by
   rcases hend with r|r
   ·rw[hx]at r;cases r
   ·exact r
  refine UC (N1.item _ k _ x _ _ t1 hx λg2 t1 e2=>UD ?_);have O2:IsPair g2 TO a b:=aJ e2 D.a8 (aJ e1 D.a2 hO);refine UC (VM O2 rfl (UC (X8 O2 λg3 O3 e3=>?_)));refine UC (wpAny_letGo (UD (UC (UC (wpAny_onRaise ?_)))));show wpAny _ _ (Builtin.SmallTypes.nextOf (Value.ref i2) >>= _) _ _ _;refine UC (N2.done _ k _ _ _ hh (N2.keep _ _ _ s2 (λo e=>aJ e3 D.a9.symm (aJ e2 D.b1.symm (aJ e1 D.a4 e))) λo e=>aJ e3 D.b6 (aJ e2 D.b7 (aJ e1 D.b5 e))) hy λg4 e e4 ⟨oe,he,ce⟩=>?_);have z4:IsZip g4 z TI TO .ellipsis:=e4 _ _ D.a4.symm (aJ e3 D.a2.symm (aJ e2 D.a3.symm z1));have ne:e≠z:=λr=>by rw[r,z4]at he;cases he;exact absurd (show Value.type "zip" = Value.type "StopIteration" from ce) (by decide)
  exact Wy z4 (by simp) λg5 _ e5=>q g5 e (λc o n1 n2 n3 n4 r=>aJ e5 n1 (e4 _ _ n4 (aJ e3 n2 (aJ e2 n3 (aJ e1 n1 r))))) ⟨oe,aJ e5 ne he,ce⟩
end
section
variable {P:YN} {w:World} {A:YQ} {E:Yy} {s:YR}
structure QU(h h':Heap)(l1 l2:Addr):Prop where
 z:IsZip h' (h.objs.size+4) (h.objs.size+2) (h.objs.size+3) .none
 ti:IsPair h' (h.objs.size+2) (.ref h.objs.size) (.ref (h.objs.size+1))
 to:IsPair h' (h.objs.size+3) .none .none
 i1:h'.IsTupleIter h.objs.size l1 0
 i2:h'.IsTupleIter (h.objs.size+1) l2 0
 sz:h'.objs.size=h.objs.size+5
 keep:∀c o,h.get? c=some o->h'.get? c=some o
abbrev rY(h:Heap)(u:Addr):Heap:=h.push {cls:=.type "tuple_iterator",data:=.fields #[.ref u,.int 0 0]}
abbrev Oy(h:Heap)(a b:Addr):Heap:=h.push {cls:=.type "tuple",data:=.seq #[.ref a,.ref b]}
abbrev QV(h:Heap):Heap:=h.push {cls:=.type "tuple",data:=.seq #[.none,.none]}
abbrev Uu(h:Heap)(a b:Addr):Heap:=h.push {cls:=.type "zip",data:=.fields #[.none,.bool false,.bool false,.ref a,.ref b]}
abbrev De(h:Heap)(l1 l2:Addr):Heap:=Uu (QV (Oy (rY (rY h l1) l2) h.objs.size (rY h l1).objs.size)) (rY (rY h l1) l2).objs.size (Oy (rY (rY h l1) l2) h.objs.size (rY h l1).objs.size).objs.size
theorem HW(h:Heap)(l1 l2:Addr):QU h (De h l1 l2) l1 l2:=by
 have e1:(rY h l1).objs.size=h.objs.size+1:=VH ..;have e2:(rY (rY h l1) l2).objs.size=h.objs.size+2:=by simp_all
 have e3:(Oy (rY (rY h l1) l2) h.objs.size (rY h l1).objs.size).objs.size=h.objs.size+3:=by simp_all
 have e4:(QV (Oy (rY (rY h l1) l2) h.objs.size (rY h l1).objs.size)).objs.size=h.objs.size+4:=by simp_all
 have p5:(De h l1 l2).get? (QV _).objs.size=some _:=UL _ rfl;have p4:(De h l1 l2).get? (Oy _ h.objs.size (rY h l1).objs.size).objs.size=some _:=UE _ (UL _ rfl);have p3:(De h l1 l2).get? (rY (rY h l1) l2).objs.size=some _:=UE _ (UE _ (UL _ rfl));have p2:(De h l1 l2).get? (rY h l1).objs.size=some _:=UE _ (UE _ (UE _ (UL _ rfl)));have p1:(De h l1 l2).get? h.objs.size=some _:=UE _ (UE _ (UE _ (UE _ (UL _ rfl))));rw[e2,e3,e4]at p5;rw[e3]at p4;rw[e2,e1]at p3;rw[e1]at p2;exact⟨p5,p3,p4,⟨_,p1,rfl,rfl⟩,⟨_,p2,rfl,rfl⟩,by simp_all,λc o e=>UE _ (UE _ (UE _ (UE _ (UE _ e))))⟩
theorem Bc(l1 l2:Addr)(xs ys:YL) :
  Meets (Builtin.«zip.__new__» ⟨[.type "zip",.ref l1,.ref l2],[]⟩) (λ_ R s=>s.heap.IsTuple l1 xs/\s.heap.IsTuple l2 ys/\R (.ok (.ret (.ref (QV (Oy (rY (rY s.heap l1) l2) #[2] (rY s.heap l1).objs.size)).objs.size))) {s with heap:=De s.heap l1 l2}):=
 .of_wp λprog w A R s h=>by
  obtain⟨hp,g,d,tk,os⟩:=s;obtain⟨t1,t2,h⟩:=h;have hsub:=sub_zip;have T1:Heap.IsTuple (Shared.heap ⟨hp,g,d,tk,os⟩) l1 xs:=t1;have T2:Heap.IsTuple (Shared.heap ⟨hp.push {cls:=.type "tuple_iterator",data:=.fields #[.ref l1,.int 0 0]},g,d,tk,os⟩) l2 ys:=Heap.IsTuple.push t2 _
  wp_walk using Xw T1,Xw T2
  exact⟨_,rfl,h⟩
theorem zy(t1:s.heap.IsTuple l1 xs)(t2:s.heap.IsTuple l2 ys)(q:∀h',QU s.heap h' l1 l2->Q (.ref (#[2]+4)) {s with heap:=h'}) :
  wpAny (model P w) A (call (.type "zip") [.ref l1,.ref l2]) Q E s:=by
 refine callType_new F.called_zip (by decide) (F.typeCall_zip_2 _ _) (F.newCall_zip_2 _ _) (λobj=>F.args_object_init_3 obj _ _) F.entry_zip_new (Bc l1 l2 xs ys) ⟨t1,t2,?_⟩;have n:=HW s.heap l1 l2
 have e4:(QV (Oy (rY (rY s.heap l1) l2) #[2] (rY s.heap l1).objs.size)).objs.size=#[2]+4:=by
  simp_all
 show _/\_;rw[e4];exact⟨⟨_,n.z,rfl⟩,q _ n⟩
theorem xJ{z TI TO i1 i2 l1 l2:Addr}{xs ys:YF}(D:ZA z TI TO i1 i2 l1 l2)(hz:IsZip s.heap z TI TO .none)(hI:IsPair s.heap TI (.ref i1) (.ref i2))(hO:IsPair s.heap TO a b)
 (t1:s.heap.IsTupleIter i1 l1 k)(t2:s.heap.IsTupleIter i2 l2 k)(h1:s.heap.IsTuple l1 xs.toArray)(h2:s.heap.IsTuple l2 ys.toArray)(hx:xs[k]?=some x)(hy:ys[k]?=some y)
 (q:∀h',IsZip h' z TI TO (rawInt #[2])->IsPair h' TO x y->h'.IsTupleIter i1 l1 (k+1)->h'.IsTupleIter i2 l2 (k+1)->IsPair h' #[2] x y ->
   (∀c o,c≠z->c≠TO->c≠i1->c≠i2->s.heap.get? c=some o->h'.get? c=some o)->Q (some (.ref #[2])) {s with heap:=h'}):wpAny (model P w) A (pyNext (.ref z)) Q E s:=by
 have hT:s.TypeIs (.ref z) "zip" := ⟨_,hz,rfl⟩;refine UC (Wz (Vd hT Yf (U7 Yf hT F.entry_zip_next ?_ (F.args_zip_next_1 _))));exact HV D (zx i1 l1 xs) (zx i2 l2 ys) hz hI hO ⟨t1,h1⟩ ⟨t2,h2⟩ hx hy λh' a1 a2 a3 a4 a5 a6=>UD (q h' a1 a2 a3.1 a4.1 a5 a6)
theorem zz{z TI TO i1 i2 l1 l2:Addr}{xs ys:YF}(hh:A.handled=none)(D:ZA z TI TO i1 i2 l1 l2)(hz:IsZip s.heap z TI TO .none)(hI:IsPair s.heap TI (.ref i1) (.ref i2))(hO:IsPair s.heap TO a b)
 (t1:s.heap.IsTupleIter i1 l1 k)(t2:s.heap.IsTupleIter i2 l2 k)(h1:s.heap.IsTuple l1 xs.toArray)(h2:s.heap.IsTuple l2 ys.toArray)(hend:xs[k]?=none\/ys[k]?=none)
 (q:∀h',(∀c o,c≠z->c≠TO->c≠i1->c≠i2->s.heap.get? c=some o->h'.get? c=some o)->Q none {s with heap:=h'}):wpAny (model P w) A (pyNext (.ref z)) Q E s:=by
 have hT:s.TypeIs (.ref z) "zip" := ⟨_,hz,rfl⟩;refine UC (Wz (Vd hT Yf (U7 Yf hT F.entry_zip_next ?_ (F.args_zip_next_1 _))));refine Lu (A:=A.in1) hh D (zx i1 l1 xs) (zx i2 l2 ys) hz hI hO ⟨t1,h1⟩ ⟨t2,h2⟩ hend λh' e hk ⟨o,ho,hc⟩=>?_;exact UC (Wv ⟨o,ho,hc⟩ isSubtype_stop (UD (q _ hk)))
end
noncomputable def TX(K:YG)(a1 a2:Addr):It:=
 ⟨λi H=>∃xs ys x y,gA K H a1 xs/\gA K H a2 ys/\xs[i]?=some x/\ys[i]?=some y,
  λi H v H'=>∃p x y,v=.ref p/\H p=none/\H'=upd H p (.tup [x,y])/\(∀xs,gA K H a1 xs->xs[i]?=some x)/\∀ys,gA K H a2 ys->ys[i]?=some y,
  λi H=>∃xs ys,gA K H a1 xs/\gA K H a2 ys/\(xs.length<=i\/ys.length<=i)⟩
theorem HX{K:YG}(a1 a2 z TI TO i1 i2:Addr)(D:ZA z TI TO i1 i2 a1 a2):Turn P w K (.Tuple es kk tpos) (TX K a1 a2) [z,TI,TO,i1,i2] z
  (λk h=>IsZip h z TI TO .none/\IsPair h TI (.ref i1) (.ref i2)/\(∃a b,IsPair h TO a b)/\h.IsTupleIter i1 a1 k/\h.IsTupleIter i2 a2 k) where
 mem:=UZ
 obj:=λk h st b hb=>by
  obtain⟨hz,hI,⟨a,c,hO⟩,⟨o1,e1,_,d1⟩,⟨o2,e2,_,d2⟩⟩:=st
  grind
 keep:=λk h h' st kp=>by obtain⟨hz,hI,⟨a,c,hO⟩,t1,t2⟩:=st;exact⟨kp z (by simp) _ hz,kp TI (by simp) _ hI,⟨a,c,kp TO (by simp) _ hO⟩,t1.at (kp i1 (by simp)),t2.at (kp i2 (by simp))⟩
 item:=by
  intro X hP hw hK hc i pins s σ H E I hf st hg;subst hP hw hK;obtain⟨xs,ys,x,y,q1,q2,hx,hy⟩:=hg;obtain⟨its1,r1,p1,_⟩:=I.tuple q1;obtain⟨its2,r2,p2,_⟩:=I.tuple q2;obtain⟨u1,hu1,ru1⟩:=r1.get hx;obtain⟨u2,hu2,ru2⟩:=r2.get hy;obtain⟨hz,hI,⟨a,c,hO⟩,t1,t2⟩:=st;refine xJ D hz hI hO t1 t2 (show s.heap.IsTuple a1 its1.toArray from p1) (show s.heap.IsTuple a2 its2.toArray from p2) hu1 hu2 λh' z' o' t1' t2' nw kp=>?_;refine⟨_,rfl,wpAny_letOwnedTupleGo_zip z' λh2 z2 sb=>?_⟩;have lt:∀{b:Addr} {o:Obj},s.heap.get? b=some o->b≠#[2]:=λe=>UT (UM e);have nz:#[2]≠z:=(lt hz).symm;have hf0:H #[2]=none:=I.hok.fresh (UJ _);have hI2:IsPair h2 TI (.ref i1) (.ref i2):=aJ sb D.a1 (kp _ _ D.a1 D.a5 D.a6 D.a7 hI);have kall:∀b o,b∉[z,TI,TO,i1,i2]->s.heap.get? b=some o->h2.get? b=some o:=λb o hb e=>by simp only[UP,Vj,WI,not_or]at hb;exact aJ sb hb.1 (kp b o hb.1 hb.2.2.1 hb.2.2.2.1 hb.2.2.2.2 e)
  have Ho:∀{b:Addr} {u:HO},H b=some u->b∉[z,TI,TO,i1,i2]:=λ{b u} e hb=>by rw[(hf b hb).1]at e;cases e
  have there:∀b o,s.heap.get? b=some o->∃o',h2.get? b=some o':=λb o e=>by
   by_cases hb:b∈[z,TI,TO,i1,i2]
   ·simp only[UP,Vj,WI]at hb;rcases hb with rfl|rfl|rfl|rfl|rfl
    ·exact⟨_,z2⟩
    ·exact⟨_,hI2⟩
    ·exact⟨_,aJ sb D.a2 o'⟩
    ·obtain⟨_,e1,_⟩:=t1';exact⟨_,aJ sb D.a3 e1⟩
    ·obtain⟨_,e1,_⟩:=t2';exact⟨_,aJ sb D.a4 e1⟩
   ·exact⟨o,kall b o hb e⟩
  have hokN:nZ X.prog X.w (upd H #[2] (.tup [x,y])) h2:=λb u e=>by
   by_cases hb:b=#[2]
   ·subst hb;rw[bg]at e;cases e;exact⟨by show 2<=sizeLine;decide,[u1,u2],.cons ru1 (.cons ru2 .nil),⟨_,aJ sb nz nw,rfl,_,rfl⟩⟩
   ·rw[aM hb]at e;refine(I.hok b u e).zh (λd v hd r=>kall d v ?_ r) (λd r=>by rw[aM (aV r hf0)];exact r) λd vs r=>by rw[aM (aV r hf0)];exact r
    rcases hd with rfl|hd
    ·exact Ho e
    ·exact Ho hd
  have I2:Inv X pins σ (upd H #[2] (.tup [x,y])) {s with heap:=h2}:=by
   refine I.step (g':=s.gens) (d':=s.drawn) (t':=s.toks) (ch:=[z,TI,TO,i1,i2]) (λb hb=>⟨(hf b hb).2.2.2.1,(hf b hb).2.1,(hf b hb).2.2.2.2.1,(hf b hb).2.2.2.2.2⟩) (λb o _ _ hb e _=>kall b o hb e) (λb o _ _ hb e _=>⟨o.slots,kall b o hb e⟩)
    (λb o _ e n=>by rw[aM (lt e)];exact n) (λb o _ e=>there b o e) (λb vs e=>by rw[aM (aV e hf0)];exact e) (λb o v e=>by rw[aM (aV e hf0)];exact e) (λb ps e=>⟨#[],by rw[aM (aV e hf0),e];simp⟩) (λm hm=>?_) hokN I.bare
   obtain⟨o,es',ep,e,r⟩:=hm;exact⟨o,es',ep,kall _ o (λhb=>(hf _ hb).2.1 rfl) e,r⟩
  refine⟨.ref #[2],_,I2,rfl,⟨_,x,y,rfl,hf0,rfl,λvs h=>by rw[I.rV h q1];exact hx,λvs h=>by rw[I.rV h q2];exact hy⟩,⟨z2,hI2,⟨_,_,aJ sb D.a2 o'⟩,t1'.at λo e=>aJ sb D.a3 e,t2'.at λo e=>aJ sb D.a4 e⟩,λb hb=>?_⟩;have hb':=(hf b hb).1;by_cases e:b=#[2]
  ·exfalso;simp only[UP,Vj,WI]at hb;rcases hb with r|r|r|r|r
   ·exact lt hz (r▸e)
   ·exact lt hI (r▸e)
   ·exact lt hO (r▸e)
   ·obtain⟨_,e1,_⟩:=t1;exact lt e1 (r▸e)
   ·obtain⟨_,e1,_⟩:=t2;exact lt e1 (r▸e)
  ·rw[aM e];exact hb'
 done:=by
  intro X hP hw hK hc i pins s σ H E I hf st hg;subst hP hw hK;obtain⟨xs,ys,q1,q2,hl⟩:=hg;obtain⟨its1,r1,p1,_⟩:=I.tuple q1;obtain⟨its2,r2,p2,_⟩:=I.tuple q2;obtain⟨hz,hI,⟨a,c,hO⟩,t1,t2⟩:=st;refine zz (I.ok.hd hc) D hz hI hO t1 t2 (show s.heap.IsTuple a1 its1.toArray from p1) (show s.heap.IsTuple a2 its2.toArray from p2) ?_ λh' kp=>⟨rfl,?_⟩
  ·have e1:=r1.length;have e2:=r2.length;rcases hl with r|r
   ·exact .inl (List.getElem?_eq_none_iff.mpr #[1])
   ·exact .inr (List.getElem?_eq_none_iff.mpr #[1])
  ·have kall:∀b o,b∉[z,TI,TO,i1,i2]->s.heap.get? b=some o->h'.get? b=some o:=λb o hb e=>by
    simp only[UP,Vj,WI,not_or]at hb;exact kp b o hb.1 hb.2.2.1 hb.2.2.2.1 hb.2.2.2.2 e
   have Ho:∀{b:Addr} {u:HO},H b=some u->b∉[z,TI,TO,i1,i2]:=λ{b u} e hb=>by rw[(hf b hb).1]at e;cases e
   refine I.step (g':=s.gens) (d':=s.drawn) (t':=s.toks) (ch:=[z,TI,TO,i1,i2]) (λb hb=>⟨(hf b hb).2.2.2.1,(hf b hb).2.1,(hf b hb).2.2.2.2.1,(hf b hb).2.2.2.2.2⟩) (λb o _ _ hb e _=>kall b o hb e) (λb o _ _ hb e _=>⟨o.slots,kall b o hb e⟩)
    (λb o _ e n=>n) (λb o hb e=>⟨o,kall b o hb e⟩) (λb vs e=>e) (λb o v e=>e) (λb ps e=>⟨#[],by rw[e];simp⟩) (λm hm=>?_) (λb u e=>(I.hok b u e).zh (λd v hd r=>kall d v ?_ r) (λ_ r=>r) λ_ _ r=>r) I.bare
   ·obtain⟨o,es',ep,e,r⟩:=hm;exact⟨o,es',ep,kall _ o (λhb=>(hf _ hb).2.1 rfl) e,r⟩
   ·rcases hd with rfl|hd
    ·exact Ho e
    ·exact Ho hd
 self:=λ_ _ _ _ _ st h=>wpAny_pyIter_zip st.1 h
section
variable {X:Cx} {es:YI} {kk:Nat} {tpos:Pos}
theorem S6(a b:Nat)(h:a≠b):@Ne Addr a b:=h
theorem QW(n a b:Nat)(h1:a<n)(h2:b<n):ZA (n+4) (n+2) (n+3) n (n+1) a b:=by constructor<;>refine S6 _ _ ?_<;>omega
def S7(K:YG)(ta:TA):TI:=λσ H R=>ta σ H λvs H1=>∃a1 a2 xs ys,vs=[.ref a1,.ref a2]/\gA K H1 a1 xs/\gA K H1 a2 ys/\R (TX K a1 a2) H1
theorem Oz{p pos:Pos}(hg:Gl X "zip")(hm:X.mg "zip" = none)(ha:PA X [e1,e2] ta)(hs:starEach [e1,e2] X.env=[(false,eval e1 X.env),(false,eval e2 X.env)]:=by rfl)(hs2:starEach [e2] X.env=[(false,eval e2 X.env)]:=by rfl) :
  PI X (.Tuple es kk tpos) (.Call (.Name "zip" p) [e1,e2] [] pos) (S7 X.K ta):=by
 intro pins s σ H R I h;refine Call_ (lC I hg hm (by rfl:bootBuiltins "zip" = some (.type "zip")) (Wm (bE (ha pos pins s σ H _ I h) λus s1 ⟨vs,H1,I1,r1,q1⟩=>?_) (by grind) (by rw[hs2];rfl)));obtain⟨a1,a2,xs,ys,e,t1,t2,q⟩:=q1;subst e
 cases r1 with
 |cons r rr=>
  cases rr with
  |cons r' rr=>
   cases rr;cases r;cases r';obtain⟨its1,v1,p1,_⟩:=I1.tuple t1;obtain⟨its2,v2,p2,_⟩:=I1.tuple t2;have L1:a1<s1.heap.objs.size:=by obtain⟨_,e,_⟩:=p1;exact UM e
   have L2:a2<s1.heap.objs.size:=by obtain⟨_,e,_⟩:=p2;exact UM e
   refine zy (show s1.heap.IsTuple a1 its1.toArray from p1) (show s1.heap.IsTuple a2 its2.toArray from p2) λh' N=>?_;refine wpAny_pyIter_zip (s:={s1 with heap:=h'}) N.z ?_;have I2:Inv X pins σ H1 {s1 with heap:=h'}:=I1.kept (t':=s1.toks) N.keep;refine⟨s1.heap.objs.size+4,[s1.heap.objs.size+4,s1.heap.objs.size+2,s1.heap.objs.size+3,s1.heap.objs.size,s1.heap.objs.size+1],_,_,H1,rfl,I2,HX a1 a2 _ _ _ _ _ (QW _ _ _ L1 L2),⟨N.z,N.ti,⟨_,_,N.to⟩,N.i1,N.i2⟩,λb hb=>?_,q⟩
   have ge:s1.heap.objs.size<=b:=by
    simp only[UP,Vj,WI]at hb;rcases hb with rfl|rfl|rfl|rfl|rfl
    ·exact X3 _ _
    ·exact X3 _ _
    ·exact X3 _ _
    ·exact UJ _
    ·exact X3 _ _
   exact I1.Gh ge (I1.hok.fresh ge)
end
section
variable {κ:Type} [DecidableEq κ]
def uE(kvs:List (κ×V))(k:κ):Option V:=(kvs.find? λkv=>decide (kv.1=k)).map (·.2)
def putK(kvs:List (κ×V))(k:κ)(v:V):List (κ×V):=
 if(kvs.any λkv=>decide (kv.1=k))=true then kvs.map (λkv=>if kv.1=k then(kv.1,v)else kv)else kvs++[(k,v)]
theorem qp{k:κ}(e:p.1=k):uE (p::r) k=some p.2:=by simp[uE,e]
theorem qr{k:κ}(e:¬ p.1=k):uE (p::r) k=uE r k:=by simp[uE,e]
theorem qt(k:κ):∀kvs:List (κ×V),(kvs.any λkv=>decide (kv.1=k))=(uE kvs k).isSome
 | []=>rfl
 |p::r=>by
  rw[X9];by_cases e:p.1=k
  ·simp[qp,e]
  ·rw[qr e,VR e,Bool.false_or];exact qt k r
theorem jT(kvs:List (κ×V))(k:κ)(v:V):(putK kvs k v).length<=kvs.length+1:=by
 grind[putK,List.length_map,List.length_append,List.length_cons,List.length_nil]
theorem vj.kJ(r:vj o u):o.isSome=u.isSome:=by
 cases o with
 |none=>cases u with
  |none=>rfl
  |some _=>trivial
 |some _=>cases u with
  |none=>trivial
  |some _=>rfl
theorem KV.val(r:KV kvs vs)(k:κ):vj (uE kvs k) (valueAt vs k):=by
 induction r with
 |nil=>trivial
 | @cons p q ps qs h t ih=>
  obtain⟨h1,h2⟩:=h;by_cases e:p.1=k
  ·have e'  := h1.symm.trans e;have b:valueAt (q::qs) k=some q.2:=by simp[valueAt,e']
   rw[qp e,b];exact h2
  ·have e':¬ q.1=k:=λz=>e (h1.trans z);have b:valueAt (q::qs) k=valueAt qs k:=by simp[valueAt,e']
   rw[qr e,b];exact ih
theorem KV.any(r:KV kvs vs)(k:κ):(kvs.any λkv=>decide (kv.1=k))=vs.any λkv=>decide (kv.1=k):=by
 induction r with
 |nil=>rfl
 |cons h t ih=>simp_all
theorem KV.OA(r:KV kvs vs)(k:κ)(ry:RelV y u) :
  KV (kvs.map λkv=>if kv.1=k then(kv.1,y)else kv) (vs.map λkv=>if kv.1=k then(kv.1,u)else kv):=by
 unfold KV at r ⊢
 induction r with
 |nil=>exact .nil
 | @cons p q ps qs h t ih=>
  rw[Va,Va];refine .cons ?_ ih;obtain⟨h1,h2⟩:=h;by_cases e:p.1=k
  ·rw[if_pos e,if_pos (h1.symm.trans e)];exact⟨h1,ry⟩
  ·rw[if_neg e,if_neg (λz=>e (h1.trans z))];exact⟨h1,h2⟩
theorem KV.put(r:KV kvs vs)(k:κ)(ry:RelV y u):KV (putK kvs k y) (stored vs k u):=by
 unfold putK stored;rw[r.any k];by_cases e:(vs.any λkv=>decide (kv.1=k))=true
 ·rw[if_pos e,if_pos e];exact r.OA k ry
 ·rw[if_neg e,if_neg e];exact Paired.snoc r ⟨rfl,ry⟩
theorem KV.length{vs:List (κ×Value)}(r:KV kvs vs):kvs.length=vs.length:=U3 r
end
theorem vw(r:RelV (kV k) u):(cj P w).is k u=true:=by
 cases k with
 |inl i=>obtain⟨t,e⟩:=(r);subst e;exact AZ P w i t
 |inr x=>obtain⟨t,e⟩:=(r);subst e;exact A0 P w x t
theorem yi:∀{ks:List Key} {us:YF},Vals (ks.map kV) us->ItemsAre (cj P w) ks us
 | [],_,r=>by cases r;exact .nil
 |k::ks,_,r=>by
  cases r with
  |cons h t=>exact .cons (vw h) (yi t)
abbrev KT(H:Hp):List (List Key×V)->List (List Key×Addr×Value)->Prop:=Paired λp q=>p.1=q.1/\H q.2.1=some (.tup (p.1.map kV))/\RelV p.2 q.2.2
theorem KT.val(r:KT H kvs xs)(k:List Key):vj (uE kvs k) ((atKey xs k).map (·.2)):=by
 induction r with
 |nil=>trivial
 | @cons p q ps qs h t ih=>
  obtain⟨h1,_,h2⟩:=h;by_cases e:p.1=k
  ·have e'  := h1.symm.trans e;have b:atKey (q::qs) k=some q.2:=by simp[atKey,e']
   rw[qp e,b];exact h2
  ·have e':¬ q.1=k:=λz=>e (h1.trans z);have b:atKey (q::qs) k=atKey qs k:=by simp[atKey,e']
   rw[qr e,b];exact ih
theorem KT.OA(r:KT H kvs xs)(k:List Key)(ry:RelV y u) :
  KT H (kvs.map λkv=>if kv.1=k then(kv.1,y)else kv) (xs.map (putAt k u)):=by
 induction r with
 |nil=>exact .nil
 | @cons p q ps qs h t ih=>
  rw[Va,Va];refine .cons ?_ ih;obtain⟨h1,h2,h3⟩:=h;unfold putAt;by_cases e:p.1=k
  ·rw[if_pos e,if_pos (h1.symm.trans e)];exact⟨h1,h2,ry⟩
  ·rw[if_neg e,if_neg (λz=>e (h1.trans z))];exact⟨h1,h2,h3⟩
theorem KT.put(r:KT H kvs xs)(k:List Key)(hb:H b=some (.tup (k.map kV)))(ry:RelV y u) :
  KT H (putK kvs k y) (storedH xs k b u):=by
 have e:(kvs.any λkv=>decide (kv.1=k))=(atKey xs k).isSome:=by rw[qt,(r.val k).kJ,Yr]
 unfold putK storedH;rw[e];by_cases q:(atKey xs k).isSome=true
 ·rw[if_pos q,if_pos q];exact r.OA k ry
 ·rw[if_neg q,if_neg q];exact Paired.snoc r ⟨rfl,hb,ry⟩
theorem KT.keeps(r:KT H kvs xs)(ht:∀b ys,H b=some (.tup ys)->H' b=some (.tup ys)):KT H' kvs xs:=
 Paired.lB r λ_ _ z=>⟨z.1,ht _ _ z.2.1,z.2.2⟩
section
variable {P:YN} {w:World} {H:Hp} {h:Heap} {a:Addr}
theorem Na(ok:nZ P w H h)(e:Rd H a u):cL P w H h a u:=e.ok ok
theorem EW(ok:nZ P w H h)(e:Rd H a (.dK kvs)):kvs.length<=sizeLine/\(a==sysModules)=false/\∃vs,KV kvs vs/\h.DictOf (cj P w) a vs:=
 show cL P w H h a (.dK kvs)from Na ok e
theorem Nb(ok:nZ P w H h)(e:H a=some (.dK kvs)):kvs.length<=sizeLine/\(a==sysModules)=false/\∃vs,KV kvs vs/\h.DictOf (cj P w) a vs:=EW ok (.inl e)
theorem vz(ok:nZ P w H h)(e:H a=some (.tup (ks.map kV))):(tupleKind (cj P w)).is h ks a:=by obtain⟨_,its,r,o,h1,h2,n,h3⟩:=(ok a _ e);exact⟨o,its.toArray,n,h1,h2,h3,by simpa using yi r⟩
theorem EX(ok:nZ P w H h)(e:Rd H a (.dT kvs)):kvs.length<=sizeLine/\(a==sysModules)=false /\
  ∃xs,KT H kvs xs/\h.DictOfH (tupleKind (cj P w)) a xs:=by
 obtain⟨z,y,xs,r,o,es,ep,h1,h2,h3,h4,h5⟩:=(show cL P w H h a (.dT kvs)from Na ok e);refine⟨z,y,xs,r,o,es,ep,h1,h2,h3,h4,λx hx=>?_,h5⟩
 have all:∀{l:List (List Key×V)} {m:List (List Key×Addr×Value)},KT H l m->∀x∈m,(tupleKind (cj P w)).is h x.1 x.2.1:=by
  intro l m q
  induction q with
  |nil=>grind
  | @cons p q ps qs hq t ih=>
   intro x hx;rcases UP.mp hx with e|hx
   ·subst e;exact vz ok (by rw[<- hq.1];exact hq.2.1)
   ·exact ih x hx
 grind
theorem QX(ok:nZ P w H h)(e:H a=some (.dT kvs)):kvs.length<=sizeLine/\(a==sysModules)=false /\
  ∃xs,KT H kvs xs/\h.DictOfH (tupleKind (cj P w)) a xs:=EX ok (.inl e)
end
def Bd(H:Hp)(a:Addr)(y:V)(r:Option V):Prop:=
 (∃kvs k,Rd H a (.dK kvs)/\y=kV k/\r=uE kvs k)\/∃kvs k b,Rd H a (.dT kvs)/\y=.ref b/\H b=some (.tup (k.map kV))/\r=uE kvs k
noncomputable def Lv(H:Hp)(a:Addr)(y v:V)(H':Hp):Prop:=
 (∃kvs k,H a=some (.dK kvs)/\y=kV k/\kvs.length<sizeLine/\H'=upd H a (.dK (putK kvs k v))) \/
 ∃kvs k b,H a=some (.dT kvs)/\y=.ref b/\H b=some (.tup (k.map kV))/\kvs.length<sizeLine/\H'=upd H a (.dT (putK kvs k v))
theorem Bd.k{k:Key}(e:H a=some (.dK kvs)):Bd H a (kV k) (uE kvs k):=.inl ⟨kvs,k,.inl e,rfl,rfl⟩
theorem Lv.k{k:Key}{v:V}(e:H a=some (.dK kvs))(hl:kvs.length<sizeLine):Lv H a (kV k) v (upd H a (.dK (putK kvs k v))):=.inl ⟨kvs,k,e,rfl,hl,rfl⟩
section
variable {X:Cx} {pins:Yz} {σ:St} {H:Hp} {s:YR} {a:Addr} {y v:V} {u r:Value} {o:Option V} {A:YQ} {E:Yy}
theorem Inv.big(I:Inv X pins σ H s):sysModules<#[2]:=by have h  := (I.mod.glob.keeps I.bk).lt;exact Nat.lt_trans (by decide) h
theorem GA(hu:A.units+1<cLine)(I:Inv X pins σ H s)(g:Bd H a y (some v))(ry:RelV y u)(h:∀w' s',Inv X pins σ H s'->RelV v w'->Q w' s') :
  wpAny (model X.prog X.w) A (getItem (.ref a) u) Q E s:=by
 rcases g with⟨kvs,k,e,ey,l⟩|⟨kvs,k,b,e,ey,eb,l⟩
 ·subst ey;obtain⟨z,hd,vs,rel,dd⟩:=EW I.hok e;obtain⟨w',hw,rw'⟩:=vj.some_of (v:=v) (o:=valueAt vs k) (by rw[l];exact rel.val k);exact wpAny_getItem_of (vw ry) dd.mapOf hw (h w' _ (I.tok _) rw')
 ·subst ey;cases(show u=Value.ref b from ry);obtain⟨z,hd,xs,rel,dd⟩:=EX I.hok e;obtain⟨w',hw,rw'⟩:=vj.some_of (v:=v) (o:=(atKey xs k).map (·.2)) (by rw[l];exact rel.val k);obtain⟨p,hp,hp2⟩:=Vg.mp hw;refine wpAny_getItem_heap (XA hu) (vz I.hok eb) dd hp ?_;rw[hp2];exact h w' _ (I.tok _) rw'
theorem S8(hu:A.units+1<cLine)(I:Inv X pins σ H s)(g:Bd H a y o)(ry:RelV y u)(h:∀s',Inv X pins σ H s'->Q (.bool o.isSome) s') :
  wpAny (model X.prog X.w) A (compareOp .In u (.ref a)) Q E s:=by
 rcases g with⟨kvs,k,e,ey,l⟩|⟨kvs,k,b,e,ey,eb,l⟩
 ·subst ey;obtain⟨z,hd,vs,rel,dd⟩:=EW I.hok e;refine wpAny_in_of (vw ry) hd dd.mapOf ?_;rw[<- (rel.val k).kJ,<- l];exact h _ (I.tok _)
 ·subst ey;cases(show u=Value.ref b from ry);obtain⟨z,hd,xs,rel,dd⟩:=EX I.hok e;refine wpAny_in_heap (XA hu) (vz I.hok eb) hd dd ?_;have q:=(rel.val k).kJ;rw[Yr]at q;rw[<- q,<- l];exact h _ (I.tok _)
theorem Lw(hu:A.units+1<cLine)(I:Inv X pins σ H s)(g:Bd H a y o)(ry:RelV y u)(h:∀s',Inv X pins σ H s'->Q (.bool (!o.isSome)) s') :
  wpAny (model X.prog X.w) A (compareOp .NotIn u (.ref a)) Q E s:=by
 rcases g with⟨kvs,k,e,ey,l⟩|⟨kvs,k,b,e,ey,eb,l⟩
 ·subst ey;obtain⟨z,hd,vs,rel,dd⟩:=EW I.hok e;refine wpAny_notIn_of (vw ry) hd dd.mapOf ?_;rw[<- (rel.val k).kJ,<- l];exact h _ (I.tok _)
 ·subst ey;cases(show u=Value.ref b from ry);obtain⟨z,hd,xs,rel,dd⟩:=EX I.hok e;refine wpAny_notIn_heap (XA hu) (vz I.hok eb) hd dd ?_;have q:=(rel.val k).kJ;rw[Yr]at q;rw[<- q,<- l];exact h _ (I.tok _)
theorem uU(I:Inv X pins σ H s)(mu:Qf (H a))(hs:Heap.SameBut a s.heap h')(he:∃q,h'.get? a=some q)(new:cL X.prog X.w (upd H a ob) h' a ob) :
  Inv X pins σ (upd H a ob) {s with heap:=h',toks:=t'}:=
 I.write (x:=a) (e:=a) mu (.inl rfl) (λb q hb z=>(hs.2 b hb).trans z) he new
theorem Dg(z:kvs.length<=sizeLine)(hd:(a==sysModules)=false)(rel:KV kvs vs)(dd:h'.DictOf (cj P w) a vs) :
  cL P w H' h' a (.dK kvs):=⟨z,hd,vs,rel,dd⟩
theorem GB(hu:A.units+1<cLine)(I:Inv X pins σ H s)(g:Lv H a y v H')(ry:RelV y u)(rv:RelV v r)(h:∀s',Inv X pins σ H' s'->Q () s') :
  wpAny (model X.prog X.w) A (setItem (.ref a) u r) Q E s:=by
 rcases g with⟨kvs,k,e,ey,l,eH⟩|⟨kvs,k,b,e,ey,eb,l,eH⟩
 ·subst ey eH;obtain⟨z,hd,vs,rel,dd⟩:=Nb I.hok e;have hz:vs.length<=sizeLine:=by grind[rel.length]
  have hl:(putK kvs k v).length<=sizeLine:=by have:=jT kvs k v;omega
  refine wpAny_setItem_pairs (hsz:=hz) (vw ry) dd λh' dd' hs=>h _ ?_;have he:∃q,h'.get? a=some q:=by obtain⟨q,_,_,hq,_⟩:=dd';grind
  exact uU I (by rw[e];exact True.intro) hs he (Dg hl hd (rel.put k rv) dd')
 ·subst ey eH;cases(show u=Value.ref b from ry);obtain⟨z,hd,xs,rel,dd⟩:=QX I.hok e;have hz:xs.length<=sizeLine:=by rw[<- U3 rel];exact z
  have hl:(putK kvs k v).length<=sizeLine:=by have:=jT kvs k v;omega
  refine wpAny_setItem_heap (hsz:=hz) (XA hu) (vz I.hok eb) dd λh' dd' hs=>h _ ?_;obtain⟨q,es,ep,hq,h2,h3,h4,_,h5⟩:=dd';refine uU I (by rw[e];exact True.intro) hs ⟨q,hq⟩ ⟨hl,hd,_,(rel.put k eb rv).keeps λc ys ec=>?_,q,es,ep,hq,h2,h3,h4,h5⟩;rw[aM (Qs ec e (λz=>nomatch z))];exact ec
end
def OB(i:Expr):Prop:=∀ov iv,subscripted i false ov iv=operate [ov,iv] (getItem ov iv)
theorem Lx{T id:String}
 (hl:typeLookup (.type T) "__getitem__" = pure (some (.builtin id)))(hs:OB slice)
 (h:wpAny (model prog w) A (eval value env) (λo s₁=>wpAny (model prog w) A (eval slice env) (λi s₂=>s₂.TypeIs o T/\wpAny (model prog w) A (getItem o i) Q E s₂) E s₁) E s) :
  wpAny (model prog w) A (eval (.Subscript value slice pos) env) Q E s:=by
 refine Subscript_ (VG h (λo s₁ h₁=>VG h₁ (λi s₂ h₂=>?_) λ_ _ x=>x) λ_ _ x=>x);obtain⟨hT,h₂⟩:=h₂;refine UC ?_;refine UC (Wa hT hl ?_);have fin:wpAny (model prog w) A (subscripted slice false o i) (λr s₃=>wpAny (model prog w) A (letTemporaryGo value o r >>= λ_=>pure r) Q E s₃) E s₂:=by rw[hs o i];exact wpAny_operating (VG h₂ (λr s₃ h₃=>UC (wpAny_letTemporaryGo (UD h₃))) λ_ _ x=>x)
 first
  |exact UD (UC fin)
  |rfl
  |rfl
theorem Be(h:Heap)(hb:sysModules<h.objs.size):cL P w H (h.push {cls:=.type "dict",data:=.dict #[]}) h.objs.size (.dK []):=
 ⟨Vw _,Xn.mpr (Xv (UT hb)),[],.nil,Heap.DictOf.new h⟩
def OC:TE:=λ_ H Q=>∀p,H p=none->Q (.ref p) (upd H p (.dK []))
section
variable {X:Cx} {pos:Pos}
theorem HY:PE X (.Dict [] [] pos) OC:=λpins s σ H Q I h=>
 wpAny_Dict_empty ⟨.ref #[2],_,I.laid (a:=#[2]) (o:=.dK []) (t':=s.toks) (λ_ _ q=>UE _ q) (UJ _) (Be s.heap I.big),rfl,h _ (I.hok.fresh (UJ _))⟩
end
def Dh:List (TE×TE)->St->Hp->(List (V×V)->Hp->Prop)->Prop
 | [],_,H,Q=>Q [] H
 | (tk,tv)::r,σ,H,Q=>tk σ H λx H1=>tv σ H1 λy H2=>Dh r σ H2 λps H3=>Q ((x,y)::ps) H3
abbrev VV:List (V×V)->List (Value×Value)->Prop:=Paired λp q=>RelV p.1 q.1/\RelV p.2 q.2
noncomputable def RT(X:Cx)(pos:Pos)(keys:List (Option Expr))(values:YI)(Di:List (TE×TE)):Prop:=
 ∀(pins:Yz) (s:YR) (σ:St) (H:Hp) (Q:List (V×V)->Hp->Prop),Inv X pins σ H s->Dh Di σ H Q ->
  wpAny (model X.prog X.w) X.A (evalPairs (pairTrees keys values X.env pos)) (λvs s'=>∃ps H',Inv X pins σ H' s'/\VV ps vs/\Q ps H') X.xe s
theorem Ly:RT X pos [] [] []:=λpins s σ H Q I h=>pairTrees_nil_walk ⟨[],H,I,.nil,h⟩
theorem HZ(hk:PE X k tk)(hv:PE X v tv)(hr:RT X pos ks vs Di) :
  RT X pos (some k::ks) (v::vs) ((tk,tv)::Di):=λpins s σ H Q I h=>
 pairTrees_cons_walk (bE (hk pins s σ H _ I h) λu s1 ⟨x,H1,I1,rx,q1⟩=>bE (hv pins s1 σ H1 _ I1 q1) (by rintro w2 s2 ⟨y,H2,I2,ry,q2⟩;exact bE (hr pins s2 σ H2 _ I2 q2) (by rintro ws s3 ⟨ps,H3,I3,rel,q3⟩;exact⟨(x,y)::ps,H3,I3,.cons ⟨rx,ry⟩ rel,q3⟩)))
def vA(kvs more:List (Key×V)):List (Key×V):=more.foldl (λacc kv=>putK acc kv.1 kv.2) kvs
theorem KV.merge:∀{more:List (Key×V)} {rs:List (Key×Value)} {kvs:List (Key×V)} {vs:List (Key×Value)},KV more rs->KV kvs vs->KV (vA kvs more) (merged vs rs):=by
 intro more rs kvs vs r
 induction r generalizing kvs vs with
 |nil=>intro q;exact q
 | @cons p q ps qs h t ih=>
  intro r0
  have e:KV (putK kvs p.1 p.2) (stored vs q.1 q.2):=by
   have:=r0.put p.1 h.2
   grind
  exact ih e
theorem oK:∀(more kvs:List (Key×V)),(vA kvs more).length<=kvs.length+more.length
 | [],kvs=>by show kvs.length<=kvs.length+0;omega
 |p::r,kvs=>by
  have h1:=oK r (putK kvs p.1 p.2);have h2:=jT kvs p.1 p.2;show(vA _ r).length<=_
  grind
theorem vB:∀{kvs:List (Key×V)} {ws:List (Value×Value)},VV (kvs.map λkv=>(kV kv.1,kv.2)) ws->∃rs,Carries (cj P w) ws rs/\KV kvs rs
 | [],_,r=>by cases r;exact⟨[],True.intro,.nil⟩
 |p::kvs,_,r=>by
  cases r with
  | @cons a b as bs h t=>obtain⟨rs,c,q⟩:=vB t;obtain⟨b1,b2⟩:=b;exact⟨(p.1,b2)::rs,⟨vw h.1,rfl,c⟩,.cons ⟨rfl,h.2⟩ q⟩
def QY(Di:List (TE×TE)):TE:=λσ H Q=>∀p,H p=none->Dh Di σ (upd H p (.dK [])) λps H2=>H2 p=some (.dK [])/\∃kvs:List (Key×V),ps=kvs.map (λkv=>(kV kv.1,kv.2))/\kvs.length<=15/\Q (.ref p) (upd H2 p (.dK (vA [] kvs)))
theorem Lz(h:RT X pos keys values Di)(hall:keys.all (·.isSome)=true)(hl:keys.length=values.length)(h0:keys≠[])
 (h15:keys.length<=15):PE X (.Dict keys values pos) (QY Di):=by
 intro pins s σ H Q I q;have hn:=I.hok.fresh (UJ #[2]);have I1:=I.laid (a:=#[2]) (o:=.dK []) (h':=s.heap.push {cls:=.type "dict",data:=.dict #[]}) (t':=s.toks) (λ_ _ q=>UE _ q) (UJ _) (Be s.heap I.big);refine wpAny_Dict_walk (knd:=cj X.prog X.w) hall hl h0 h15 (bE (h pins _ σ _ _ I1 (q _ hn)) λws s2 ⟨ps,H2,I2,rel,e,kvs,ep,lk,q2⟩=>?_);subst ep;obtain⟨rs,c,rk⟩:=vB (P:=X.prog) (w:=X.w) rel;obtain⟨z,hd,vs0,r0,dd⟩:=Nb I2.hok e;cases r0;refine⟨rs,c,dd,λh' dd' hs=>⟨.ref #[2],_,?_,rfl,q2⟩⟩
 have hz:(vA [] kvs).length<=sizeLine:=by
  have h1:=oK kvs []
  grind[List.length_nil,sizeLine_eq]
 have he:∃q,h'.get? #[2]=some q:=by obtain⟨q,_,_,hq,_⟩:=dd';grind
 exact uU I2 (by rw[e];exact True.intro) hs he (Dg hz hd (rk.merge .nil) dd')
theorem vC{K:YG}{St:Nat->Heap->Prop}{f:Nat->V}(W:∀A:YQ,A.handled=none->Walks P w A it [it] [it] n Pv St)
 (ob:∀i h,St i h->∃(o:Obj) (m:String) (vs:YL),h.get? it=some o/\o.cls=.type m/\o.data=.fields vs/\["enumerate", "zip", "dict_itemiterator", "dict_reverseitemiterator", "odict_iterator", "itertools.zip_longest", "itertools.pairwise"].contains m=false)
 (rel:∀i v,i<n->Pv i v->RelV (f i) v)(sf:∀(A:YQ) (i:Nat) (s:YR) (Q:Yy) (E:Yy),St i s.heap->Q (.ref it) s->wpAny (model P w) A (pyIter (.ref it)) Q E s):Turn P w K tg ⟨λi _=>i<n,λi H x H'=>H'=H/\x=f i,λi _=>i=n⟩ [it] it St where
 mem:=by simp
 obj:=λi h st b hb=>by
  grind
 keep:=λi h h' st k=>(W {handled:=none,depth:=0,frames:=none,guards:=none,units:=0} rfl).frame i h h' st λb hb o e=>k b hb o e
 item:=by intro X hP hw hK hc i pins s σ H E I hf st hg;subst hP hw hK;obtain⟨f0,f1,f2,f3,f4,f5⟩:=hf it (by simp);refine(W X.A (I.ok.hd hc)).item i s _ _ hg st λv h' tk hv st' kk=>?_;have I1:Inv X pins σ H {s with heap:=h',toks:=tk}:=I.turned (λb o hb e=>kk b o (by grind) e) f0 f1 f3 f4 f5;obtain⟨o,m,vs,e,c,d,nm⟩:=ob _ _ st';exact⟨v,rfl,EJ (s:={s with heap:=h',toks:=tk}) e c d nm ⟨f i,H,I1,rel i v hg hv,⟨rfl,rfl⟩,st',λb hb=>(hf b hb).1⟩⟩
 done:=by intro X hP hw hK hc i pins s σ H E I hf st hg;subst hP hw hK;obtain⟨f0,f1,f2,f3,f4,f5⟩:=hf it (by simp);have hg':i=n:=hg;subst hg';exact(W X.A (I.ok.hd hc)).done s _ _ st λh' tk kk=>⟨rfl,I.turned (λb o hb e=>kk b o (by simpa using hb) e) f0 f1 f3 f4 f5⟩
 self:=sf
def sgn(x:Str)(i:Nat):V:=.str ⟨#[x.cps.getD i 0]⟩
def S9(x:Str):It:=⟨λi _=>i<x.cps.size,λi H v H'=>H'=H/\v=sgn x i,λi _=>i=x.cps.size⟩
theorem zA(i:Nat)(v:Value)(hi:i<x.cps.size)(h:SignAt x i v):RelV (sgn x i) v:=by
 obtain⟨c,u,e,rfl⟩:=h;refine⟨u,?_⟩
 simp_all
section
variable {X:Cx} {tg:Expr}
def Ta(tl:TE):TI:=λσ H R=>tl σ H λv H1=>∃x,v=.str x/\R (S9 x) H1
theorem OD(hl:PE X l tl):PI X tg l (Ta tl):=by
 intro pins s σ H R I h;refine bE (hl pins s σ H _ I h) λv s1 ⟨x,H1,I1,r1,q1⟩=>?_;obtain⟨x,e,q⟩:=q1;subst e;obtain⟨t,rfl⟩:=r1
 have fp:∀b∈[s1.heap.objs.size],jP X pins H1 b:=λb hb=>by
  have e:b=s1.heap.objs.size:=by grind
  subst e;exact I1.Gh (UJ _) (I1.hok.fresh (UJ _))
 cases ha:x.cps.all (· < 128)with
 |false=>
  refine wpAny_pyIter_wide ha ?_
  refine⟨s1.heap.objs.size,[s1.heap.objs.size],_,S9 x,H1,rfl,I1.kept (t':=s1.toks) λb o e=>UE _ e,
   vC (λA hA=>Walks.strWide hA _ x t) (by rintro i h ⟨o,e,c,d⟩;exact⟨o,_,_,e,c,d,by decide⟩) zA λA i s Q E st h=>wpAny_pyIter_striter_wide st h,⟨_,UL _ rfl,rfl,rfl⟩,fp,q⟩
 |true=>
  refine wpAny_pyIter_ascii ha ?_
  refine⟨s1.heap.objs.size,[s1.heap.objs.size],_,S9 x,H1,rfl,I1.kept (t':=s1.toks) λb o e=>UE _ e,
   vC (λA hA=>Walks.strAscii hA _ x t) (by rintro i h ⟨o,e,c,d⟩;exact⟨o,_,_,e,c,d,by decide⟩) zA λA i s Q E st h=>wpAny_pyIter_striter_ascii st h,⟨_,UL _ rfl,rfl,rfl⟩,fp,q⟩
end
section
variable {X:Cx}
theorem all_range(bs:List Bool):((List.range bs.length).all λi=>(bs[i]?).getD true)=bs.all id:=by
 rw[V0];simp only[UW,Vm,id];constructor
 ·intro h b hb;obtain⟨i,hi,rfl⟩:=V6.mp hb
  simp_all
 ·intro h i hi;simp only[hi,UK,Ww];exact h _ (X4 hi)
theorem H0(hc:X.calm=true):dy X (.builtin "all") (λxs H Q=>∃(l:Addr) (bs:List Bool),xs=[.ref l]/\ji X.K H l (bs.map V.bl)/\Q (.bl (bs.all id)) H):=by
 intro pins s σ H vs us Q I r h;obtain⟨l,bs,rfl,hq,q⟩:=h
 cases r with
 |cons r rr=>
  cases rr;cases r;obtain⟨its,rv,p,_⟩:=I.list hq;have pl:=p.isList;have hlt:l<#[2]:=by obtain⟨_,e,_⟩:=pl;exact UM e
  refine call_all_walk (XJ pl ?_);refine⟨#[2],[#[2],l],[#[2]],its.toArray.size,_,_,λi=>(bs[i]?).getD true,rfl,Walks.list (A:=X.A.in1) (I.ok.hd hc) _ l (UT hlt) its.toArray,⟨⟨_,UL _ rfl,rfl,rfl⟩,pl.push _⟩,λi v s' Q' E' hP hQ=>?_,λh' tk hk=>?_⟩
  ·have hP':its[i]?=some v:=by simpa using hP
   have hi:i<(bs.map V.bl).length:=by rw[rv.length];exact(UN.mp hP').1
   obtain⟨u,hu,ru⟩:=rv.get (i:=i) (x:=(bs.map V.bl)[i]) (by simp[hi]);rw[hP']at hu;cases hu;rw[UX]at hi;simp only[List.getElem_map]at ru;obtain rfl:v=Value.bool bs[i]:=ru;have hQ':=hQ;simp only[hi,UK,Ww]at hQ';exact VN hQ'
  ·have e:((List.range its.toArray.size).all λi=>(bs[i]?).getD true)=bs.all id:=by
    rw[UY,<- rv.length,UX];exact all_range bs
   rw[e];exact⟨.bl _,H,I.kept λb o e=>hk b o (λhm=>by rw[UU.mp hm]at e;exact Vk _ (UM e)) (UE _ e),rfl,q⟩
theorem GC:jL X (compareOp .LtE) (λx y H Q=>∃i j,x=.str i/\y=.str j/\Q (.bl (!decide (j.cps.toList<i.cps.toList))) H):=by intro pins s σ H x y v u Q I rx ry h;obtain⟨i,j,rfl,rfl,q⟩:=h;obtain⟨t,rfl⟩:=rx;obtain⟨t',rfl⟩:=ry;exact P.le_str ⟨.bl _,H,I,rfl,q⟩
end
def jm:V->Option PyData
 |.non=>some .none
 |.bl b=>some (.bool b)
 |.int i=>some (.int i)
 |.str x=>some (.str x)
 |_=>none
def GD:Key->PyData
 |.inl i=>.int i
 |.inr x=>.str x
def bI:List (Key×V)->Option YA
 | []=>some []
 | (k,v)::r=>match jm v,bI r with
  |some d,some ds=>some ((GD k,d)::ds)
  |_,_=>none
mutual
noncomputable def Rep(H:Hp):PyData->V->Prop
 |.none,v=>v=.non
 |.bool b,v=>v=.bl b
 |.int i,v=>v=.int i
 |.str x,v=>v=.str x
 |.tuple ds,v=>∃a vs,v=.ref a/\H a=some (.tup vs)/\aZ H ds vs
 |.list ds,v=>∃a vs,v=.ref a/\H a=some (.lst vs)/\aZ H ds vs
 |.dict kvs,v=>∃a ks,v=.ref a/\H a=some (.dK ks)/\bI ks=some kvs
noncomputable def aZ(H:Hp):YD->List V->Prop
 | [],vs=>vs=[]
 |d::ds,vs=>∃w ws,vs=w::ws/\Rep H d w/\aZ H ds ws
end
mutual
theorem Rep.same(s:bT H H'):∀{d:PyData} {v:V},Rep H d v->Rep H' d v
 |.none,_,h=>h
 |.bool _,_,h=>h
 |.int _,_,h=>h
 |.str _,_,h=>h
 |.tuple ds,_,⟨a,vs,e,h,r⟩=>⟨a,vs,e,s _ _ h,aZ.same s r⟩
 |.list ds,_,⟨a,vs,e,h,r⟩=>⟨a,vs,e,s _ _ h,aZ.same s r⟩
 |.dict _,_,⟨a,ks,e,h,r⟩=>⟨a,ks,e,s _ _ h,r⟩
theorem aZ.same{H H':Hp}(s:bT H H'):∀{ds:YD} {vs:List V},aZ H ds vs->aZ H' ds vs
 | [],_,h=>h
 |_::_,_,⟨w,ws,e,h,r⟩=>⟨w,ws,e,Rep.same s h,aZ.same s r⟩
end
theorem aZ.length:∀{ds:YD} {vs:List V},aZ H ds vs->vs.length=ds.length
 | [],_,h=>by cases h;rfl
 |_::ds,_,⟨w,ws,e,_,r⟩=>by rw[e,Vf,Vf,aZ.length r]
theorem aZ.get:∀{ds:YD} {vs:List V} {i:Nat} {v:V},aZ H ds vs->vs[i]?=some v->∃d,ds[i]?=some d/\Rep H d v
 | [],_,i,v,h,e=>by cases h;simp at e
 |d::ds,_,0,v,⟨w,ws,e0,h,r⟩,e=>by grind
 |d::ds,_,i+1,v,⟨w,ws,e0,h,r⟩,e=>by
  subst e0;obtain⟨u,e1,e2⟩:=aZ.get r (by trivial)
  simp_all
theorem aZ.get':∀{ds:YD} {vs:List V} {i:Nat} {d:PyData},aZ H ds vs->ds[i]?=some d->∃v,vs[i]?=some v/\Rep H d v
 | [],_,i,v,h,e=>by simp at e
 |d::ds,_,0,v,⟨w,ws,e0,h,r⟩,e=>by grind
 |d::ds,_,i+1,v,⟨w,ws,e0,h,r⟩,e=>by
  obtain⟨u,e1,e2⟩:=aZ.get' r (by trivial)
  simp_all
theorem aZ.append:∀{ds es:YD} {vs us:List V},aZ H ds vs->aZ H es us->aZ H (ds++es) (vs++us)
 | [],_,_,_,h,r=>by cases h;exact r
 |d::ds,_,_,_,⟨w,ws,e,h,q⟩,r=>by subst e;exact⟨w,_,rfl,h,aZ.append q r⟩
theorem aZ.nil:aZ H [] []:=rfl
theorem aZ.cons{v:V}{vs:List V}(h:Rep H d v)(r:aZ H ds vs):aZ H (d::ds) (v::vs):=⟨v,vs,rfl,h,r⟩
theorem aZ.one(h:Rep H d v):aZ H [d] [v]:=.cons h .nil
theorem aZ.take:∀{ds:YD} {vs:List V} (n:Nat),aZ H ds vs->aZ H (ds.take n) (vs.take n)
 | [],_,n,h=>by grind[aZ]
 |d::ds,_,0,_=>by rfl
 |d::ds,_,n+1,⟨w,ws,e,h,r⟩=>by subst e;exact .cons h (aZ.take n r)
theorem aZ.drop:∀{ds:YD} {vs:List V} (n:Nat),aZ H ds vs->aZ H (ds.drop n) (vs.drop n)
 | [],_,n,h=>by grind[aZ]
 |d::ds,_,0,h=>h
 |d::ds,_,n+1,⟨w,ws,e,h,r⟩=>by subst e;exact aZ.drop n r
theorem Dj(e:jm v=some d)(r:RelV v u):Reads h u d []:=by
 cases v with
 |non=>cases e;cases r;exact .none
 |bl b=>cases e;cases r;exact .bool b
 |int i=>cases e;obtain⟨t,rfl⟩:=r;exact .int i t
 |str x=>cases e;obtain⟨t,rfl⟩:=r;exact .str x t
 |_=>cases e
theorem GF(e:vi k u=true):Reads h u (GD k) []:=by
 rcases cq e with⟨i,t,rfl,rfl⟩|⟨x,t,rfl,rfl⟩
 ·exact .int i t
 ·exact .str x t
theorem tM:∀{ks:List (Key×V)} {vs:List (Key×Value)} {es:List DictEntry} {kvs:YA},bI ks=some kvs->KV ks vs->Pairs (cj P w) es vs ->
  ReadsAll h (es.map (·.key)) (kvs.map (·.1)) []/\ReadsAll h (es.map (·.val)) (kvs.map (·.2)) []
 | [],_,es,kvs,e,r,p=>by
  cases e;cases r
  cases es with
  |nil=>exact⟨.nil,.nil⟩
  |cons _ _=>trivial
 | (k,v)::ks,_,es,kvs,e,r,p=>by
  cases r with
  |cons r1 r2=>
   rename_i q vs';obtain⟨k',u⟩:=q;obtain⟨e1,e2⟩:=r1;simp only at e1 e2;subst e1
   cases p with
   |cons hk hv hr=>
    unfold bI at e
    cases e1:jm v with
    |none=>simp_all
    |some d=>
     cases e3:bI ks with
     |none=>simp_all
     |some ds=>rw[e1,e3]at e;cases e;obtain⟨z1,z2⟩:=tM e3 r2 hr;exact⟨.cons (as:=[]) (bs:=[]) (GF hk) z1,.cons (as:=[]) (bs:=[]) (by show Reads h (DictEntry.val _) d [];rw[hv];exact Dj e1 e2) z2⟩
section
variable {X:Cx} {pins:Yz} {σ:St} {H:Hp} {s:YR}
mutual
theorem Rep.reads(I:Inv X pins σ H s):∀{d:PyData} {v:V} {u:Value},Rep H d v->RelV v u->∃as,Reads s.heap u d as
 |.none,_,u,h,r=>by cases h;cases r;exact⟨_,.none⟩
 |.bool b,_,u,h,r=>by cases h;cases r;exact⟨_,.bool b⟩
 |.int i,_,u,h,r=>by cases h;obtain⟨t,rfl⟩:=r;exact⟨_,.int i t⟩
 |.str x,_,u,h,r=>by cases h;obtain⟨t,rfl⟩:=r;exact⟨_,.str x t⟩
 |.tuple ds,_,u,⟨a,vs,e,h,q⟩,r=>by subst e;cases r;obtain⟨_,its,rv,o,ho,hc,n,hd⟩:=I.hok a _ h;obtain⟨as,z⟩:=aZ.reads I q rv;exact⟨_,.tuple ho hc hd (by simpa using z)⟩
 |.list ds,_,u,⟨a,vs,e,h,q⟩,r=>by subst e;cases r;obtain⟨_,its,n,rv,ho⟩:=I.hok a _ h;obtain⟨as,z⟩:=aZ.reads I q rv;exact⟨_,.list ho rfl rfl (by simpa using z)⟩
 |.dict kvs,_,u,⟨a,ks,e,h,q⟩,r=>by subst e;cases r;obtain⟨_,_,vs,rk,o,es,ep,ho,hx,hd,_,hp,_⟩:=I.hok a _ h;obtain⟨z1,z2⟩:=tM (P:=X.prog) (w:=X.w) (h:=s.heap) q rk hp;exact⟨_,.dict ho hx.1 hd z1 z2⟩
theorem aZ.reads(I:Inv X pins σ H s):∀{ds:YD} {vs:List V} {us:YF},aZ H ds vs->Vals vs us->∃as,ReadsAll s.heap us ds as
 | [],_,us,h,r=>by cases h;cases r;exact⟨_,.nil⟩
 |d::ds,_,us,⟨w,ws,e,h,q⟩,r=>by
  subst e
  cases r with
  |cons r1 r2=>obtain⟨as,z⟩:=Rep.reads I h r1;obtain⟨bs,y⟩:=aZ.reads I q r2;exact⟨_,.cons z y⟩
end
end
section
variable {X:Cx} {k:Nat}
def OE:PyData->String
 |.none => "NoneType"
 |.bool _ => "bool"
 |.int _ => "int"
 |.str _ => "str"
 |.tuple _ => "tuple"
 |.list _ => "list"
 |.dict _ => "dict"
theorem Rep.ty{K:YG}(h:Rep H d v):qk K H v (.type (OE d)):=by
 cases d with
 |none=>cases h;exact .non
 |bool b=>cases h;exact .bl b
 |int i=>cases h;exact .int i
 |str x=>cases h;exact .str x
 |tuple ds=>obtain⟨a,vs,rfl,e,_⟩:=h;exact .tup e
 |list ds=>obtain⟨a,vs,rfl,e,_⟩:=h;exact .lst e
 |dict ds=>obtain⟨a,ks,rfl,e,_⟩:=h;exact .dK e
theorem Ia:dy X (.builtin "isinstance") (λxs H Q=>∃x n t b,xs=[x,.ty n]/\qk X.K H x t/\PySem.W.kitOne X.K t (.type n)=some b/\Q (.bl b) H):=by
 intro pins s σ H vs us Q I r h;obtain⟨x,n,t,b,rfl,ty,e,q⟩:=h
 cases r with
 |cons r rr=>
  cases rr with
  |cons r' rr=>cases rr;cases r';exact Gr I r ty e λtk=>⟨.bl b,H,I.tok _,rfl,q⟩
theorem kit_tuple(K:YG)(d:PyData):PySem.W.kitOne K (.type (OE d)) (.type "tuple")=some (match d with|.tuple _=>true|_=>false):=by cases d<;>first|rfl|decide
theorem LA(K:YG)(d:PyData):PySem.W.kitOne K (.type (OE d)) (.type "str")=some (match d with|.str _=>true|_=>false):=by cases d<;>first|rfl|decide
end
theorem bT.upd(s:bT H H')(hp:H' p=none):bT H (upd H' p o):=λb u e=>by rw[aM (aV (s b u e) hp)];exact s b u e
theorem bT.new(hp:H p=none):bT H (L2.upd H p o):=(bT.refl H).upd hp
theorem xK:bootBuiltins "isinstance" = some (.builtin "isinstance"):=by rfl
theorem km:bootBuiltins "len" = some (.builtin "len"):=by rfl
theorem o8:bootBuiltins "all" = some (.builtin "all"):=by rfl
theorem og:bootBuiltins "sorted" = some (.builtin "sorted"):=by rfl
theorem GG:bootBuiltins "divmod" = some (.builtin "divmod"):=by rfl
theorem OF:bootBuiltins "abs" = some (.builtin "abs"):=by rfl
theorem OG:bootBuiltins "min" = some (.builtin "min"):=by rfl
theorem OH:bootBuiltins "max" = some (.builtin "max"):=by rfl
theorem OI:bootBuiltins "str" = some (.type "str"):=by rfl
theorem eK:bootBuiltins "tuple" = some (.type "tuple"):=by rfl
theorem LB:bootBuiltins "list" = some (.type "list"):=by rfl
section
variable {X:Cx} {e e2:Expr} {te te2:TE} {t:TA} {p p2 pos:Pos}
def isTup:PyData->Bool|.tuple _=>true|_=>false
def isStr:PyData->Bool|.str _=>true|_=>false
def zB:PyData->Nat
 |.str x=>x.length
 |.tuple ds=>ds.length
 |.list ds=>ds.length
 |_=>0
end
def mO(f:Expr->Option PyData):YI->Option YD
 | []=>some []
 |e::es=>match f e,mO f es with
  |some d,some ds=>some (d::ds)
  |_,_=>none
def QZ:Const->Option PyData
 |.none=>some .none
 |.bool b=>some (.bool b)
 |.int i=>some (.int i)
 |.str x=>some (.str x)
 |_=>none
def Q0:Option PyData->Option PyData
 |some (.int i)=>some (.int (-i))
 |_=>none
def OJ:Option PyData->Option PyData->Option PyData
 |some (.int a),some (.int b)=>if 0<=b/\b<=1000000/\a.natAbs<2^64 then some (.int (a^b.toNat))else none
 |_,_=>none
def OL:Option PyData->Option PyData->Option PyData
 |some (.str k),some (.int i)=>some (.dict [(.str k,.int i)])
 |_,_=>none
noncomputable def jn:Nat->Expr->Option PyData
 |0,_=>none
 |n+1,e=>match e with
  |.Constant c _ _=>QZ c
  |.Tuple es _ _=>if es.length<=1000 then(mO (jn n) es).map .tuple else none
  |.List es _=>if es.length<=1000 then(mO (jn n) es).map .list else none
  |.UnaryOp o x _=>match o with
   |.USub=>Q0 (jn n x)
   |_=>none
  |.BinOp a o b _=>match o with
   |.Pow=>OJ (jn n a) (jn n b)
   |_=>none
  |.Dict ks vs _=>match ks with
   | []=>match vs with
    | []=>some (.dict [])
    |_=>none
   |k::ks=>match k with
    |some k=>match vs with
     |v::vs=>if ks.isEmpty&&vs.isEmpty then OL (jn n k) (jn n v)else none
     |_=>none
    |_=>none
  |_=>none
abbrev EY(n:Nat)(es:YI):Option YD:=mO (jn n) es
def jU(H H' N:Hp):Prop:=∀c o,N c=some o->H c=none/\H' c=some o
def OM(d:PyData):TE:=λ_ H Q=>∀r H' N,bT H H'->jU H H' N->Rep N d r->Q r H'
def Q1(ds:YD):TA:=λ_ H Q=>∀rs H' N,bT H H'->jU H H' N->aZ N ds rs->Q rs H'
def Bf:Hp:=λ_=>none
theorem jU.no:jU H H' Bf:=λ_ _ e=>by cases e
def o9(N M:Hp):Hp:=λc=>match N c with|some o=>some o|none=>M c
theorem ON:bT N (o9 N M):=λc o e=>by simp[o9,e]
theorem OO(n:jU H H1 N)(m:jU H1 H2 M):bT M (o9 N M):=λc o e=>by
 have h1:=(m c o e).1
 cases q:N c with
 |none=>simp[o9,q,e]
 |some u=>rw[(n c u q).2]at h1;cases h1
theorem jU.plus(s1:bT H H1)(s2:bT H1 H2)(n:jU H H1 N)(m:jU H1 H2 M):jU H H2 (o9 N M):=λc o e=>by
 cases q:N c with
 |some u=>simp[o9,q]at e;cases e;exact⟨(n c _ q).1,s2 _ _ (n c _ q).2⟩
 |none=>simp[o9,q]at e;exact⟨s1.free (m c o e).1,(m c o e).2⟩
theorem jU.put(s1:bT H H1)(n:jU H H1 N)(hp:H1 p=none):jU H (upd H1 p o) (upd N p o)/\bT N (upd N p o):=by
 have np:∀c u,N c=some u->c≠p:=λc u e z=>by subst z;rw[(n c u e).2]at hp;cases hp
 refine⟨λc u e=>?_,λc u e=>by rw[aM (np c u e)];exact e⟩;by_cases hc:c=p
 ·subst hc;rw[bg]at e;cases e;exact⟨s1.free hp,bg⟩
 ·rw[aM hc]at e;exact⟨(n c u e).1,by rw[aM hc];exact(n c u e).2⟩
theorem lD:∀{es:YI} {n:Nat} {ds:YD},EY n es=some ds->ds.length=es.length
 | [],n,ds,h=>by simp_all[mO]
 |e::es,n,ds,h=>by
  unfold EY mO at h;split at h
  ·rename_i d ds' h1 h2;cases h;rw[Vf,Vf,lD h2]
  grind
section
variable {X:Cx}
theorem zC(ih:∀(e:Expr) (d:PyData),jn n e=some d->PE X e (OM d)/\∀es:YI,starEach (e::es) X.env=(false,eval e X.env)::starEach es X.env):∀(es:YI) (ds:YD),EY n es=some ds->PA X es (Q1 ds)
 | [],ds,h=>by cases h;intro pos pins s σ H Q I q;exact zm pos pins s σ H Q I (q [] H Bf (bT.refl H) .no rfl)
 |e::es,ds,h=>by
  unfold EY mO at h;split at h
  ·rename_i d ds' h1 h2;cases h;obtain⟨a,b⟩:=ih e d h1;intro pos pins s σ H Q I q;refine ql a (zC ih es ds' h2) (b es) pos pins s σ H Q I λr H1 N1 s1 n1 hr rs H2 N2 s2 n2 hrs=>q _ H2 _ (s1.trans s2) (n1.plus s1 s2 n2) (.cons (hr.same ON) (hrs.same (OO n1 n2)))
  grind
theorem EZ{n:Nat}{es:YI}{f:YD->PyData}{d:PyData}(h:(if es.length<=1000 then(mO (jn n) es).map f else none)=some d):es.length<=1000/\∃ds,mO (jn n) es=some ds/\f ds=d:=by
 by_cases hl:es.length<=1000
 ·rw[if_pos hl]at h;exact⟨hl,Vg.mp h⟩
 ·rw[if_neg hl]at h;cases h
theorem LC:∀{x y:Option PyData},OJ x y=some d->∃i j:Int,x=some (.int i)/\y=some (.int j)/\(0<=j/\j<=1000000/\i.natAbs<2^64)/\.int (i^j.toNat)=d:=by
 intro x y h
 cases x with
 |none=>cases h
 |some x=>cases x with
  |int i=>cases y with
   |none=>cases h
   |some y=>cases y with
    |int j=>
     have h:(if 0<=j/\j<=1000000/\i.natAbs<2^64 then some (PyData.int (i^j.toNat))else none)=some d:=h;by_cases hl:0<=j/\j<=1000000/\i.natAbs<2^64
     ·rw[if_pos hl]at h;exact⟨i,j,rfl,rfl,hl,VZ h⟩
     ·rw[if_neg hl]at h;cases h
    |_=>cases h
  |_=>cases h
theorem LD{ks:List (Option Expr)}{vs:YI}{x y:Option PyData}(h:(if ks.isEmpty&&vs.isEmpty then OL x y else none)=some d):∃k i,x=some (.str k)/\y=some (.int i)/\ks=[]/\vs=[]/\.dict [(.str k,.int i)]=d:=by
 cases ks with
 |cons=>cases h
 |nil=>cases vs with
  |cons=>cases h
  |nil=>cases x with
   |none=>cases h
   |some x=>cases x with
    |str k=>cases y with
     |none=>cases h
     |some y=>cases y with
      |int i=>exact⟨k,i,rfl,rfl,rfl,rfl,VZ h⟩
      |_=>cases h
    |_=>cases h
theorem Dk:∀(n:Nat) (e:Expr) (d:PyData),jn n e=some d->PE X e (OM d)/\∀es:YI,starEach (e::es) X.env=(false,eval e X.env)::starEach es X.env:=by
 intro n
 induction n with
 |zero=>intro e d h;cases h
 |succ n ih=>
  intro e d h
  cases e with
  |Constant c p q=>
   have h:QZ c=some d:=h;refine⟨λpins s σ H Q I q=>?_,λ_=>rfl⟩
   cases c with
   |none=>cases h;exact Hu pins s σ H Q I (q _ H Bf (bT.refl H) .no rfl)
   |bool b=>cases h;exact Ht pins s σ H Q I (q _ H Bf (bT.refl H) .no rfl)
   |int i=>cases h;exact Hs pins s σ H Q I (q _ H Bf (bT.refl H) .no rfl)
   |str x=>cases h;exact Hv pins s σ H Q I (q _ H Bf (bT.refl H) .no rfl)
   |_=>cases h
  |Tuple es k p=>have h:(if es.length<=1000 then(mO (jn n) es).map .tuple else none)=some d:=h;obtain⟨hl,ds,h1,rfl⟩:=EZ h;refine⟨λpins s σ H Q I q=>HK (zC ih es ds h1) pins s σ H Q I λrs H1 N1 s1 n1 hrs=>⟨?_,λp hp=>q _ _ _ (s1.upd hp) (n1.put s1 hp).1 ⟨p,rs,rfl,bg,hrs.same (n1.put s1 hp).2⟩⟩,λ_=>rfl⟩;rw[hrs.length,lD h1];exact UO hl (by decide)
  |List es p=>have h:(if es.length<=1000 then(mO (jn n) es).map .list else none)=some d:=h;obtain⟨hl,ds,h1,rfl⟩:=EZ h;refine⟨λpins s σ H Q I q=>C5 (zC ih es ds h1) pins s σ H Q I λrs H1 N1 s1 n1 hrs=>⟨?_,λp hp=>q _ _ _ (s1.upd hp) (n1.put s1 hp).1 ⟨p,rs,rfl,bg,hrs.same (n1.put s1 hp).2⟩⟩,λ_=>rfl⟩;rw[hrs.length,lD h1];exact UO hl (by decide)
  |UnaryOp o x p=>
   cases o with
   |USub=>
    have h:Q0 (jn n x)=some d:=h;refine⟨λpins s σ H Q I q=>?_,λ_=>rfl⟩
    cases hx:jn n x with
    |none=>rw[hx]at h;cases h
    |some y=>
     rw[hx]at h
     cases y with
     |int i=>cases h;exact QC Of (ih x _ hx).1 pins s σ H Q I λr H' N s1 n1 hr=>⟨i,hr,q _ H' N s1 n1 rfl⟩
     |_=>cases h
   |_=>cases h
  |BinOp a o b p=>
   cases o with
   |Pow=>have h:OJ (jn n a) (jn n b)=some d:=h;refine⟨λpins s σ H Q I q=>?_,λ_=>rfl⟩;obtain⟨i,j,hi,hj,hl,rfl⟩:=LC h;exact M5 Oe (ih a _ hi).1 (ih b _ hj).1 pins s σ H Q I λr H1 N1 s1 n1 hr r2 H2 N2 s2 n2 hr2=>⟨i,j,hr,hr2,hl,q _ H2 _ (s1.trans s2) (n1.plus s1 s2 n2) rfl⟩
   |_=>cases h
  |Dict ks vs p=>
   refine⟨λpins s σ H Q I q=>?_,λ_=>rfl⟩
   cases ks with
   |nil=>cases vs with
    |nil=>cases h;exact HY pins s σ H Q I λp hp=>q _ _ (upd Bf p (.dK [])) (bT.new hp) (jU.put (bT.refl H) .no hp).1 ⟨p,[],rfl,bg,rfl⟩
    |cons=>cases h
   |cons k ks=>cases k with
    |none=>cases h
    |some k=>cases vs with
     |nil=>cases h
     |cons v vs=>
      obtain⟨k1,i,hk,hi,rfl,rfl,rfl⟩:=LD (show(if ks.isEmpty&&vs.isEmpty then OL (jn n k) (jn n v)else none)=some d from h)
      exact Lz (HZ (ih k _ hk).1 (ih v _ hi).1 Ly) rfl rfl (by simp) (by show 1<=15;decide) pins s σ H Q I λp hp r H1 N1 s1 n1 hr r2 H2 N2 s2 n2 hr2=>by
       cases hr;cases hr2;refine⟨s2 _ _ (s1 _ _ bg),[(Sum.inr k1,V.int i)],rfl,by show 1<=15;decide,q _ _ (upd Bf p (.dK [(Sum.inr k1,V.int i)])) (λb o e=>?_) (λc o e=>?_) ⟨p,_,rfl,bg,rfl⟩⟩
       ·have hb:=aV e hp;rw[aM hb];exact s2 _ _ (s1 _ _ ((aM hb).trans e))
       ·by_cases hc:c=p
        ·subst hc;rw[bg]at e;cases e;exact⟨hp,bg⟩
        ·rw[aM hc]at e;cases e
  |_=>cases h
@[irreducible] noncomputable def Lit(n:Nat)(e:Expr)(d:PyData):Prop:=jn n e=some d
theorem Lit.of(h:jn n e=some d):Lit n e d:=by grind[Lit]
theorem Lit.eq(h:Lit n e d):jn n e=some d:=by simp_all[Lit]
theorem OP(n:Nat){e:Expr}{d:PyData}(h:Lit n e d):PE X e (OM d):=(Dk n e d h.eq).1
end
section
variable {X:Cx} {k:Nat}
def cutD(ds:YD)(lo hi:Option Int):YD:=(ds.drop (HT.fT ds.length 0 lo)).take (HT.fT ds.length ds.length hi-HT.fT ds.length 0 lo)
theorem xM{lo hi:Option Int}(ht:IsTup s.heap t items)(hs:s.heap.IsSliceOf sl vl vu .none)(pl:IsPart vl lo)(pu:IsPart vu hi)
 (h0:HT.fT items.size 0 lo=0)(h1:HT.fT items.size items.size hi=items.size)(q:Q (.ref t) s):wpAny (model P w) A (getItem (.ref t) (.ref sl)) Q E s:=by
 obtain⟨os,hos,hcs,hds⟩:=id hs;have hTs:s.TypeIs (.ref sl) "slice" := ⟨os,hos,hcs⟩;unfold getItem
 try with_reducible refine U8 ?_
 first|refine UC (UD ?_)|skip
 refine UC (wpAny_sequenceKey ht.typeIs (by decide) ?_);refine UC (Vd (name:=Str.ofString "__getitem__") ht.typeIs Vv (U7 Vv ht.typeIs entry_tuple_getitem ?_ (args_tuple_getitem _ _)));show wpAny _ _ (Builtin.Tuple.tupleItemsOf (.ref t) >>= _) _ _ s;refine UC (tupleItemsOf_ ht (UC (Xt hTs ?_)));rw[if_pos (by decide)];refine UC (HT.kI hs pl pu ?_);rw[h0,h1];show wpAny _ _ (if((((0:Nat):Int)==0&&(1:Int)==1&&(items.size-0)==items.size)=true)then _ else _) _ _ s;rw[if_pos (by simp)];unfold Builtin.Tuple.tupleIsExact;refine UC (UC (Xt ht.typeIs (UD ?_)))
 first
  |exact UC (V5 (UC (UD (UD ⟨_,rfl,UD q⟩))))
  |exact UC (V5 (UD ⟨_,rfl,UD q⟩))
  | (rw[if_pos (by decide)];exact UC (V5 (UC (UD (UD ⟨_,rfl,UD q⟩)))))
  | (rw[if_pos (by decide)];exact UC (V5 (UD ⟨_,rfl,UD q⟩)))
end
noncomputable def uV(P:YN)(w:World):M7:=λouter H s E e s'=>
 ∃(a:Addr) (cls:Value) (t:Addr) (B:Heap) (H':Hp),e=.ref a/\s'.os=s.os/\AllBare s'.gens/\Un (AX outer) [] H H' s.heap s'.heap/\nZ P w H' s'.heap/\Heap.FlyingW B outer a cls (.ref t) s'.heap /\
  (∀b o,s.heap.get? b=some o->b∉AX outer->∃o',s'.heap.get? b=some o'/\B.get? b=some o')/\(∀b u,H' b=some u->∃o',s'.heap.get? b=some o'/\B.get? b=some o')/\E cls none H'
section
variable {P:YN} {w:World} {K:YG} {mg:YC} {base:Heap} {N:YH} {qual:Str} {scope:Scope} {f:Addr} {cd:Value} {A:YQ} {outer:List Env} {s:YR} {H:Hp} {E:XK}
theorem aG:Passes (uV P w) (vo (uV P w) P w K mg base N qual scope f cd A outer s H E) E:=by
 rintro pins σ H1 s1 e s' I ⟨a,cls,t,B,H',e1,os,bare,un,hok,fl,old,Ho,q⟩;subst e1;have J:=I.M1 os un hok bare (λb z=>nomatch z);have hfr:(A.deeper (envOfC qual scope #[2] f cd)).frames=some (envOfC qual scope #[2] f cd::outer):=I.ok.frames;have noA:∀b:Addr,b∉(vo (uV P w) P w K mg base N qual scope f cd A outer s H E).ex:=λb z=>nomatch z
 have inB:∀b o,s.heap.get? b=some o->b∉AX outer->∃o',s'.heap.get? b=some o'/\B.get? b=some o':=λb o e hb=>by
  obtain⟨o1,e1⟩:=I.base.there b o e (noA b);refine old b o1 e1 λz=>?_;rcases UP.mp (I.rT b z)with z|z
  ·have z2:b=#[2]:=z;exact absurd (UM e) (by rw[z2];exact Vk _)
  ·exact hb z
 refine wpAny_leaves_onW hfr rfl fl λh' fl' up=>?_;refine⟨a,cls,t,B,H',rfl,os.trans I.os,bare,⟨λb o e n hb _=>?_,λb o e n hb _=>?_,λb o e n _=>J.base.free b o e n (noA b),λb o e _=>?_,J.base.tups,J.base.frzs,J.base.tbls⟩,λb u e=>?_,fl',λb o e hb=>?_,λb u e=>?_,q⟩
 ·have e2:=J.base.keep b o e n hb (noA b);obtain⟨o',e3,e4⟩:=inB b o e hb;rw[e2]at e3;cases e3;exact fl'.1 b o e4
 ·obtain⟨sl,e2⟩:=J.base.slot b o e n hb (noA b);obtain⟨_,o',e3,nf⟩:=J.qj.mem hb;rw[e2]at e3;cases e3;obtain⟨sl',e4⟩:=up b _ e2 nf;exact⟨sl',e4⟩
 ·by_cases hb:b∈AX outer
  ·obtain⟨o2,e2⟩:=J.base.there b o e (noA b);obtain⟨_,o',e3,nf⟩:=J.qj.mem hb;obtain⟨sl',e4⟩:=up b _ e3 nf;exact⟨_,e4⟩
  ·obtain⟨o',e3,e4⟩:=inB b o e hb;exact⟨o',fl'.1 b o' e4⟩
 ·refine(hok b u e).zh (λc v hc z=>?_) (λ_ z=>z) λ_ _ z=>z
  have:∃u',H' c=some u':=by
   rcases hc with hc|hc
   ·exact⟨u,hc▸e⟩
   ·exact⟨_,hc⟩
  obtain⟨u',hu⟩:=this;obtain⟨o',e3,e4⟩:=Ho c u' hu;rw[z]at e3;cases e3;exact fl'.1 c v e4
 ·obtain⟨o',e3,e4⟩:=inB b o e hb;exact⟨o',fl'.1 b o' e4,e4⟩
 ·obtain⟨o',e3,e4⟩:=Ho b u e;exact⟨o',fl'.1 b o' e4,e4⟩
end
def LF(a:Addr)(cls:Value):Heap->Prop:=λh=>∃o,h.get? a=some o/\o.cls=cls
structure Ext(H G H' G':Hp):Prop where
 sh:bT H H'
 sg:bT G G'
 gs:bT G' H'
 old:∀c,H c≠none->G' c=G c
theorem Ext.refl{H G:Hp}(s:bT G H):Ext H G H G:=⟨bT.refl H,bT.refl G,s,λ_ _=>rfl⟩
theorem Ext.new(s:bT G H)(hp:H p=none):Ext H G (upd H p o) (upd G p o):=by
 refine⟨bT.new hp,bT.new (s.free hp),λc u e=>?_,λc hc=>aM λz=>hc (z▸hp)⟩;by_cases h:c=p
 ·grind[bg]
 ·rw[aM h]at e ⊢;exact s c u e
section
variable {X:Cx} {k:Nat}
def Q3:R2:=λx y H Q=>∃G ds es,bT G H/\Rep G (.tuple ds) x/\Rep G (.tuple es) y/\ds.length+es.length<=sizeLine/\∀r H' G',Ext H G H' G'->Rep G' (.tuple (ds++es)) r->Q r H'
theorem LG:jL X (binaryOp .Add) Q3:=by
 intro pins s σ H x y v u Q I rx ry h;obtain⟨G,ds,es,sg,h1,h2,hz,q⟩:=h;obtain⟨a,vs,rfl,ha,r1⟩:=id h1;obtain⟨b,us,rfl,hb,r2⟩:=id h2;by_cases hv:vs=[]
 ·subst hv;have hd:ds=[]:=V4.mp r1.length.symm;subst hd;cases rx;cases ry;obtain⟨its1,v1,⟨⟨c1,d1,e1,l1⟩,p1,g1,n1,z1⟩,_⟩:=I.tuple (gA.of (K:=X.K) (sg _ _ ha));obtain⟨its2,v2,⟨⟨c2,d2,e2,l2⟩,p2,g2,n2,z2⟩,_⟩:=I.tuple (gA.of (K:=X.K) (sg _ _ hb));simp only at g1 z1 g2 z2;subst g1 z1 g2 z2;cases v1;exact concat_meets ⟨_,p1,rfl⟩ ⟨_,p2,rfl⟩ noFill_tuple_add seq_tuple_add XF Xy (Xs _ _) (tuple_addW0 a b _ _ n1 n2 d1 d2 l1 l2 rfl) ⟨p1,p2,⟨.ref b,H,I,rfl,q _ H G (Ext.refl sg) h2⟩⟩
 ·refine Li pins s σ H _ _ v u Q I rx ry ⟨a,b,vs,us,rfl,rfl,gA.of (sg _ _ ha),gA.of (sg _ _ hb),hv,by grind[r1.length,r2.length],λe=>?_,λe p hp=>?_⟩
  ·subst e;have he:es=[]:=V4.mp r2.length.symm;subst he;exact q _ H G (Ext.refl sg) (by rw[V1];exact h1)
  ·have x:=Ext.new (o:=.tup (vs++us)) sg hp;exact q _ _ _ x ⟨p,_,rfl,bg,aZ.append (r1.same x.sg) (r2.same x.sg)⟩
def Tb:V->Option Int->Option Int->Hp->VK->Prop:=λx lo hi H Q=>∃G ds,bT G H/\Rep G (.tuple ds) x/\∀r H' G',Ext H G H' G'->Rep G' (.tuple (cutD ds lo hi)) r->Q r H'
theorem LH:QP X Tb:=by
 intro pins s σ H x v vl vu lo hi sl Q I rx hs pl pu h;obtain⟨G,ds,sg,h1,q⟩:=h;obtain⟨a,xs,rfl,ha,r1⟩:=id h1;cases rx;obtain⟨its,rv,ht,hz⟩:=I.tuple (gA.of (K:=X.K) (sg _ _ ha));have hl:its.toArray.size=xs.length:=by rw[UY];exact rv.length.symm
 by_cases hw:HT.fT xs.length 0 lo=0/\HT.fT xs.length xs.length hi=xs.length
 ·refine⟨"tuple",_,Vv.lookup,ht.typeIs,xM ht hs pl pu (by grind) (by grind) ⟨.ref a,H,I,rfl,q _ H G (Ext.refl sg) ?_⟩⟩
  have e:cutD ds lo hi=ds:=by
   simp_all[cutD,r1.length,hw,List.drop_zero,Nat.sub_zero,List.take_length]
  grind
 ·refine Oo pins s σ H (.ref a) _ vl vu lo hi sl Q I rfl hs pl pu ⟨a,xs,rfl,gA.of (sg _ _ ha),hw,λp hp=>?_⟩;have x:=Ext.new (o:=.tup (A7 xs lo hi)) sg hp;refine q _ _ _ x ⟨p,_,rfl,bg,?_⟩;have e:cutD ds lo hi=(ds.drop (HT.fT xs.length 0 lo)).take (HT.fT xs.length xs.length hi-HT.fT xs.length 0 lo):=by unfold cutD;rw[r1.length]
  rw[e];exact((r1.same x.sg).drop _).take _
end
theorem Vals.Nc:∀(us:YF) (f:Nat->V),(∀j v,us[j]?=some v->RelV (f j) v)->Vals ((List.range us.length).map f) us
 | [],_,_=>.nil
 |u::us,f,h=>by rw[Vf,List.range_succ_eq_map,Va,W4];exact .cons (h 0 u rfl) (Vals.Nc us _ λj v e=>h _ v e)
section
variable {X:Cx}
theorem Bg(hc:X.calm=true):dy X (.type "tuple") (λxs H Q=>∃x,xs=[.str x]/\x.cps.size<=sizeLine/\∀p,H p=none->Q (.ref p) (upd H p (.tup ((List.range x.cps.size).map (sgn x))))):=by
 intro pins s σ H xs us Q I r h;obtain⟨x,rfl,hz,q⟩:=h;obtain⟨u,rfl,rx⟩:=vals1 r;obtain⟨t,rfl⟩:=rx;refine call_tuple_str (I.ok.hd hc) x t (λh' tk acc kp hacc=>?_) hz;have I1:Inv X pins σ H {s with heap:=h',toks:=tk}:=I.kept (t':=tk) kp
 have hv:Vals ((List.range x.cps.size).map (sgn x)) acc.toList:=by
  have e:acc.toList.length=x.cps.size:=by rw[Vr,hacc.1]
  rw[<- e];refine Vals.Nc _ _ λj v ev=>zA j v ?_ (hacc.2 j v (by simp_all));rw[<- e]
  grind
 have I2:Inv X pins σ (upd H h'.objs.size (.tup ((List.range x.cps.size).map (sgn x)))) {s with heap:=h'.push {cls:=.type "tuple",data:=.seq acc},toks:=tk}:=by
  refine I1.laid (t':=tk) (λb o e=>UE _ e) (UJ _) (show cL X.prog X.w _ _ _ (.tup _)from⟨by simp_all,acc.toList,hv,?_⟩);have:=IsTup.new h' acc
  simp_all
 exact⟨.ref h'.objs.size,_,I2,rfl,q _ (I1.hok.fresh (UJ _))⟩
end
def recAt(c:Addr)(q:Str):Heap->Prop:=λh=>h.CodeRec (.ref c) q
end L2
namespace PySem.SeqAt
open PySem PySem.MeetsSeq PySem.AutoSeq1
theorem vD(b:Str)(u:Tok)(l:Addr)(es:YK)(n:Nat)(dd:Option Addr)(sl:YJ) :
  Meets (Builtin.«str.__eq__» ⟨[.str b u,.ref l],[]⟩) (λ_ R s=>s.heap.get? l=some {cls:=.type "dict",dict:=dd,data:=.dict es n,slots:=sl}/\R (.ok (.ret .notImplemented)) s):=
 .of_wp λprog w A R s h=>by
  obtain⟨hl,h⟩:=h
  wp_walk using wpAny_loadPart' hl,XI hl
  grind
theorem vE(b:Str)(u:Tok)(l:Addr)(es:YK)(n:Nat)(dd:Option Addr)(sl:YJ) :
  Meets (Builtin.«dict.__eq__» ⟨[.ref l,.str b u],[]⟩) (λ_ R s=>s.heap.get? l=some {cls:=.type "dict",dict:=dd,data:=.dict es n,slots:=sl}/\R (.ok (.ret .notImplemented)) s):=
 .of_wp λprog w A R s h=>by
  obtain⟨hp,g,d,tk,os⟩:=s;obtain⟨hl,h⟩:=h;have f1:=F.sub_str_dict
  wp_walk using wpAny_loadPart' hl,XI hl
  exact⟨_,rfl,h⟩
theorem EqAt.LJ(b:Str)(u:Tok)(hl:s.heap.get? l=some {cls:=.type "dict",dict:=dd,data:=.dict es n,slots:=sl})(hu:A.units<cLine):EqAt A s (.str b u) (.ref l) false:=λprog w E Q h=>by
 refine U8 (Vp (λhab=>absurd (eq_of_beq hab) nofun) (λ_=>UC ?_))
 refine rc_eq_decline_or (typeIs_str s b u) ⟨_,hl,rfl⟩ (by decide) F.sub_dict_str F.slot_str_eq Xo
  (λ_ hq=>XN F.slot_str_eq (typeIs_str s b u) F.entry_str_eq (F.args_str_eq_2 _ _) (vD b u l es n dd sl) ⟨hl,hq⟩)
  (λ_ hq=>XN Xo ⟨_,hl,rfl⟩ F.entry_dict_eq (F.args_dict_eq_2 _ _) (vE b u l es n dd sl) ⟨hl,hq⟩)
  (λ_ hq=>WE (rfl:isSame _ _=pure false) hq) (.inr hu) (VN h)
end PySem.SeqAt
set_option maxHeartbeats 4000000
namespace PySem.W
open PySem PySem.Calls PyProof.Rows
def KasT.Run{α:Type}(lt:Nat->Nat->Bool)(n:Nat):KasT α->(α->Prop)->Prop
 |.ret a,P=>P a
 |.ask i j k,P=>i<n/\j<n/\(k (lt i j)).Run lt n P
theorem KasT.run_bind{P:β->Prop} :
  ∀(t:KasT α),t.Run lt n (λa=>(f a).Run lt n P)->(t.bind f).Run lt n P
 |.ret _,h=>h
 |.ask _ _ k,h=>⟨h.1,h.2.1,KasT.run_bind (k _) h.2.2⟩
theorem KasT.eN{P Q:α->Prop}(hq:∀a,P a->Q a) :
  ∀(t:KasT α),t.Run lt n P->t.Run lt n Q
 |.ret a,h=>hq a h
 |.ask _ _ k,h=>⟨h.1,h.2.1,KasT.eN hq (k _) h.2.2⟩
theorem KasT.Dn{Q:α->YR->Prop}{I:YR->Prop}
 (hc:∀i j C s,i<n->j<n->I s->(∀s',I s'->C (lt i j) s')->cmp i j C s)(hq:∀a s,P a->I s->Q a s) :
  ∀(t:KasT α) (s:YR),t.Run lt n P->I s->t.kasWp cmp Q s
 |.ret a,s,h,hi=>hq a s h hi
 |.ask i j k,s,h,hi=>hc i j _ s h.1 h.2.1 hi (λs' hs'=>KasT.Dn hc hq (k _) s' h.2.2 hs')
structure mV(lt:Nat->Nat->Bool)(n:Nat):Prop where
 as:∀a b,a<n->b<n->lt a b=true->lt b a=false
 tr:∀a b c,a<n->b<n->c<n->lt b a=false->lt c b=false->lt c a=false
abbrev pat(p:YM)(k:Nat):Nat:=p.getD k 0
theorem mW(p:YM)(k:Nat):pat p k=p[k]?.getD 0:=by simp
structure cB(n:Nat)(p:YM):Prop where
 perm:p.toList.Perm (List.range n)
theorem cB.size(h:cB n p):p.size=n:=by
 have:=h.perm.length_eq
 grind
theorem cB.lt(h:cB n p)(hk:k<n):pat p k<n:=by
 have hs:k<p.size:=by simp_all[h.size]
 have e:pat p k=p[k]:=by simp_all
 rw[e];have:p[k]∈p.toList:=by simp
 exact Vm.mp (h.perm.mem_iff.mp this)
theorem cB.of(h:cB n p)(e:q.Perm p):cB n q:=
 ⟨(Array.perm_iff_toList_perm.mp e).trans h.perm⟩
theorem cB.rev(h:cB n p)(i j:Nat):cB n (kas_rev p i j):=h.of (mirror_perm _ _ _ _)
theorem jV(h:cB n p)(hj:j<=n)(k:Nat) :
  pat (kas_rev p i j) k=if i<=k/\k<j then pat p (i+j-1-k)else pat p k:=by
 rw[mW];unfold kas_rev;rw[getElem?_mirror_all (by simp_all[h.size])];split<;>rw[mW]
theorem E0(h:cB n p)(hk:k<n)(hd:d<=k)(i:Nat) :
  pat (bubble p k d) i=if i=k-d then pat p k else if k-d<i/\i<=k then pat p (i-1)else pat p i:=by
 rw[mW,getElem?_bubble (by simp_all[h.size]) d hd];split
 ·simp
 ·split<;>rw[mW]
section
variable {lt:Nat->Nat->Bool} {n:Nat}
def Bh(lt:Nat->Nat->Bool)(p:YM)(m:Nat):Prop:=∀i j,i<j->j<m->lt (pat p j) (pat p i)=false
def jW(lt:Nat->Nat->Bool)(p:YM)(m:Nat):Prop:=∀i j,i<j->j<m->lt (pat p i) (pat p j)=false
theorem mV.Nd(O:mV lt n)(hx:x<n):lt x x=false:=by
 cases hh:lt x x with
 |false=>rfl
 |true=>have:=O.as _ _ hx hx hh;grind
theorem Bh.more(O:mV lt n)(hp:cB n p)(h1:1<=m)(hm:m<n)(u:Bh lt p m)(h:lt (pat p m) (pat p (m-1))=false):Bh lt p (m+1):=by
 intro i j hij hj;rcases Wk j m with h'|h'
 ·exact u i j hij h'
 ·obtain rfl:j=m:=by omega
  rcases Wk i _ with h''|h''
  ·exact O.tr _ _ _ (hp.lt #[1]) (hp.lt #[1]) (hp.lt hm) (u i _ h'' #[1]) h
  ·obtain rfl:i=j-1:=by omega
   exact h
theorem jW.more(O:mV lt n)(hp:cB n p)(h1:1<=m)(hm:m<n)(u:jW lt p m)(h:lt (pat p (m-1)) (pat p m)=false):jW lt p (m+1):=by
 intro i j hij hj;rcases Wk j m with h'|h'
 ·exact u i j hij h'
 ·obtain rfl:j=m:=by omega
  rcases Wk i _ with h''|h''
  ·exact O.tr _ _ _ (hp.lt hm) (hp.lt #[1]) (hp.lt #[1]) h (u i _ h'' #[1])
  ·obtain rfl:i=j-1:=by omega
   exact h
theorem zD(O:mV lt n)(hp:cB n p):∀(f m:Nat),1<=m->m+f<=n->Bh lt p m ->
  (kas_asc p f m).Run lt n (λr=>m<=r/\r<=m+f/\Bh lt p r/\(r<m+f->lt (pat p r) (pat p (r-1))=true))
 |0,m,h1,hm,u=>⟨UJ _,UJ _,u,λh=>absurd h (Vk _)⟩
 |f+1,m,h1,hm,u=>by
  refine⟨hp.lt #[1],hp.lt #[1],?_⟩
  cases hc:lt _ _ with
  |true=>exact⟨UJ _,by omega,u,λ_=>hc⟩
  |false=>
   have hc':=hc;refine KasT.eN (λr hr=>?_) _ (zD O hp f _ #[1] #[1] (u.more O hp h1 #[1] hc'))
   grind
def RU(lt:Nat->Nat->Bool)(p:YM)(a b:Nat):Prop:=∀i j,a<=i->i<b->a<=j->j<b->lt (pat p i) (pat p j)=false
theorem vF(hp:cB n p)(hb:b<=m)(hm:m<=n)(d:jW lt p m)(e:RU lt p a b):jW lt (kas_rev p a b) m:=by
 intro i j hij hj;rw[jV hp #[1],jV hp #[1]];split
 ·split
  ·exact e _ _ #[1] #[1] #[1] #[1]
  ·exact d _ _ #[1] #[1]
 ·split
  ·exact d _ _ #[1] #[1]
  ·exact d _ _ hij hj
theorem OQ(hp:cB n p)(hm:m<=n)(d:jW lt p m):Bh lt (kas_rev p 0 m) m:=by intro i j hij hj;rw[jV hp hm,jV hp hm,if_pos #[1],if_pos #[1]];exact d _ _ #[1] #[1]
theorem jW.zero:jW lt p 1:=λi j h h'=>by omega
theorem qu(O:mV lt n):∀(f:Nat) (p:YM) (m q:Nat),cB n p->q+1<=m->m+f<=n->jW lt p m->RU lt p (m-(q+1)) m ->
  (kas_desc f p m q).Run lt n (λr=>cB n r.1/\r.2.2+1<=r.2.1/\r.2.1<=m+f/\jW lt r.1 r.2.1/\RU lt r.1 (r.2.1-(r.2.2+1)) r.2.1)
 |0,p,m,q,hp,hq,hm,d,e=>⟨hp,hq,UJ _,d,e⟩
 |f+1,p,m,q,hp,hq,hm,d,e=>by
  refine⟨hp.lt #[1],hp.lt #[1],?_⟩
  cases hc:lt (p.getD m 0) (p.getD (m-1) 0)with
  |true=>
   simp only[VC];have h1:lt (pat p (m-1)) (pat p m)=false:=O.as _ _ (hp.lt #[1]) (hp.lt #[1]) hc;split
   ·have hd2:=vF (n:=n) hp (UJ m) #[1] d e;have hp2:=hp.rev (m-(q+1)) m;refine KasT.eN (λr hr=>⟨hr.1,hr.2.1,by have:=hr.2.2.1;omega,hr.2.2.2⟩) _ (qu O f _ (m+1) 0 hp2 #[1] #[1] ?_ ?_)
    ·refine hd2.more O hp2 #[1] #[1] ?_;rw[jV hp #[1],jV hp #[1],if_pos #[1],if_neg #[1]];refine O.tr _ _ _ (hp.lt #[1]) (hp.lt #[1]) (hp.lt #[1]) h1 ?_;exact e _ _ #[1] #[1] #[1] #[1]
    ·intro i j h1 h2 h3 h4;obtain rfl:i=m:=by omega
     obtain rfl:j=i:=by omega
     exact O.Nd (hp2.lt #[1])
   ·refine KasT.eN (λr hr=>⟨hr.1,hr.2.1,by have:=hr.2.2.1;omega,hr.2.2.2⟩) _ (qu O f _ (m+1) 0 hp #[1] #[1] (d.more O hp #[1] #[1] h1) ?_);intro i j h1 h2 h3 h4;obtain rfl:i=m:=by omega
    obtain rfl:j=i:=by omega
    exact O.Nd (hp.lt #[1])
  |false=>
   simp only[UQ,Vu];refine⟨hp.lt #[1],hp.lt #[1],?_⟩
   cases hc2:lt (p.getD (m-1) 0) (p.getD m 0)with
   |true=>simp only[VC];exact⟨hp,hq,by show m<=_;omega,d,e⟩
   |false=>
    simp only[UQ,Vu];refine KasT.eN (λr hr=>⟨hr.1,hr.2.1,by have:=hr.2.2.1;omega,hr.2.2.2⟩) _ (qu O f _ (m+1) (q+1) hp #[1] #[1] (d.more O hp #[1] #[1] hc2) ?_);have Nd:lt (pat p m) (pat p m)=false:=by exact O.Nd (hp.lt #[1])
    intro i j h1 h2 h3 h4;rcases Wk i m with hi|hi
    ·rcases Wk j m with hj|hj
     ·exact e _ _ #[1] hi #[1] hj
     ·obtain rfl:j=m:=by omega
      exact O.tr _ _ _ (hp.lt #[1]) (hp.lt (show j-1<n by omega)) (hp.lt #[1]) hc2 (e _ _ #[1] hi #[1] #[1])
    ·obtain rfl:i=m:=by omega
     rcases Wk j i with hj|hj
     ·exact O.tr _ _ _ (hp.lt #[1]) (hp.lt (show i-1<n by omega)) (hp.lt #[1]) (e _ _ #[1] #[1] #[1] hj) hc
     ·obtain rfl:j=i:=by omega
      exact Nd
def Ib(lt:Nat->Nat->Bool)(n:Nat)(r:Nat×YM):Prop:=cB n r.2/\1<=r.1/\r.1<=n/\Bh lt r.2 r.1
theorem yj(O:mV lt n)(hp:cB n p)(h1:1<=m)(hm:m<=n)(d:jW lt p m):(kas_tail3 m n p).Run lt n (Ib lt n):=by refine KasT.run_bind _ (KasT.eN (λr hr=>?_) _ (zD O (hp.rev 0 m) _ m h1 #[1] (OQ hp hm d)));exact⟨hp.rev 0 m,by omega,by omega,hr.2.2.1⟩
theorem qv(O:mV lt n)(hp:cB n p)(h1:1<=m)(hm:m<n)(d:jW lt p (m+1)):(kas_descPart m n p).Run lt n (Ib lt n):=by
 refine KasT.run_bind _ (KasT.eN (λr hr=>?_) _ (qu O _ p _ 0 hp #[1] #[1] d ?_))
 ·split
  ·exact yj O (hr.1.rev _ _) #[1] #[1] (vF hr.1 (UJ _) #[1] hr.2.2.2.1 hr.2.2.2.2)
  ·exact yj O hr.1 #[1] #[1] hr.2.2.2.1
 ·intro i j h1 h2 h3 h4;obtain rfl:j=i:=by omega
  exact O.Nd (hp.lt #[1])
theorem GH(O:mV lt n)(hp:cB n p)(h1:1<=n):(kas_count n p).Run lt n (Ib lt n):=by
 unfold kas_count;refine KasT.run_bind _ (KasT.eN (λr hr=>?_) _ (zD O hp (n-1) 1 (UJ _) #[1] λi j h h'=>by omega));obtain⟨hr1,hr2,up,st⟩:=hr;split
 ·exact⟨hp,hr1,by omega,up⟩
 ·rename_i hne
  have hlt:r<n:=by
   grind
  have hs:=st #[1];split
  ·rename_i hgt;refine⟨hp.lt #[1],hp.lt #[1],?_⟩;dsimp only;split
   ·exact⟨hp,hr1,by show r<=n;omega,up⟩
   ·rename_i hc;have hc:lt (pat p 0) (pat p (r-1))=false:=by simpa using hc
    have eqs:RU lt p 0 r:=by
     have lo:∀i,i<r->lt (pat p i) (pat p 0)=false:=λi hi=>by
      rcases Nat.eq_zero_or_pos i with rfl|h
      ·exact O.Nd (hp.lt #[1])
      ·exact up 0 i h hi
     have hi:∀i,i<r->lt (pat p (r-1)) (pat p i)=false:=λi hi=>by
      rcases Wk i (r-1)with h|h
      ·exact up i (r-1) h #[1]
      ·obtain rfl:i=r-1:=by omega
       exact O.Nd (hp.lt #[1])
     intro i j _ h2 _ h4;have a1:lt (pat p 0) (pat p j)=false:=O.tr _ _ _ (hp.lt #[1]) (hp.lt (show r-1<n by omega)) (hp.lt #[1]) (hi j h4) hc;exact O.tr _ _ _ (hp.lt #[1]) (hp.lt (show 0<n by omega)) (hp.lt #[1]) a1 (lo i h2)
    have dn:jW lt (kas_rev p 0 r) r:=vF hp (UJ r) #[1] (λi j h h'=>eqs _ _ #[1] #[1] #[1] h') eqs;refine qv O (hp.rev 0 r) #[1] hlt (dn.more O (hp.rev 0 r) #[1] hlt ?_);rw[jV hp #[1],jV hp #[1],if_pos #[1],if_neg #[1]];refine O.tr _ _ _ (hp.lt #[1]) (hp.lt (show r-1<n by omega)) (hp.lt #[1]) (O.as _ _ (hp.lt #[1]) (hp.lt #[1]) hs) ?_;exact eqs _ _ #[1] #[1] #[1] #[1]
  ·obtain rfl:r=1:=by omega
   exact qv O hp #[1] hlt ((jW.zero).more O hp #[1] hlt (O.as _ _ (hp.lt #[1]) (hp.lt #[1]) hs))
theorem rZ(O:mV lt n)(hp:cB n p)(hk:k<n)(u:Bh lt p k):∀(f l r:Nat),l<=r->r<=k->r-l<=f ->
  (∀i,i<l->lt (pat p k) (pat p i)=false)->(∀i,r<=i->i<k->lt (pat p i) (pat p k)=false) ->
  (kas_place p k f l r).Run lt n (λm=>m<=k/\(∀i,i<m->lt (pat p k) (pat p i)=false)/\(∀i,m<=i->i<k->lt (pat p i) (pat p k)=false))
 |0,l,r,h1,h2,h3,a,b=>⟨by omega,a,λi hi=>b i #[1]⟩
 |f+1,l,r,h1,h2,h3,a,b=>by
  unfold kas_place;split
  ·exact⟨by omega,a,λi hi=>b i #[1]⟩
  ·rename_i hlr;refine⟨hp.lt hk,hp.lt #[1],?_⟩;dsimp only;split
   ·rename_i hc;refine rZ O hp hk u f l ((l+r) / 2) #[1] #[1] #[1] a λi hi hik=>?_;have hm:lt (pat p ((l+r) / 2)) (pat p k)=false:=O.as _ _ (hp.lt hk) (hp.lt #[1]) hc;rcases Wk ((l+r) / 2) i with h|h
    ·exact O.tr _ _ _ (hp.lt hk) (hp.lt (show(l+r) / 2<n by omega)) (hp.lt #[1]) hm (u _ _ h hik)
    ·obtain rfl:i=(l+r) / 2:=by omega
     exact hm
   ·rename_i hc;have hc:lt (pat p k) (pat p ((l+r) / 2))=false:=by simpa using hc
    refine rZ O hp hk u f ((l+r) / 2+1) r #[1] h2 #[1] (λi hi=>?_) b;rcases Wk i ((l+r) / 2)with h|h
    ·exact O.tr _ _ _ (hp.lt #[1]) (hp.lt (show(l+r) / 2<n by omega)) (hp.lt hk) (u _ _ h #[1]) hc
    ·obtain rfl:i=(l+r) / 2:=by omega
     exact hc
theorem E1(O:mV lt n):∀(f:Nat) (p:YM) (k:Nat),cB n p->k+f=n->Bh lt p k->(kas_bin f p k).Run lt n (λp=>cB n p/\Bh lt p n)
 |0,p,k,hp,hk,u=>⟨hp,by grind⟩
 |f+1,p,k,hp,hk,u=>by
  unfold kas_bin;refine KasT.run_bind _ (KasT.eN (λm hm=>?_) _ (rZ O hp #[1] u k 0 k (Vw _) (UJ _) #[1] (λi h=>by omega) (λi h h'=>by omega)));obtain⟨hmk,lo,hi⟩:=hm;refine E1 O f _ (k+1) (hp.of (bubble_perm _ _ _)) #[1] ?_;intro i j hij hj;have hd:k-(k-m)=m:=by omega
  rw[E0 hp #[1] #[1],E0 hp #[1] #[1],hd];by_cases j1:j=m
  ·grind
  ·rw[if_neg j1];by_cases i1:i=m
   ·rw[if_pos i1,if_pos #[1]];exact hi _ #[1] #[1]
   ·rw[if_neg i1];by_cases j2:m<j/\j<=k
    ·rw[if_pos j2];by_cases i2:m<i/\i<=k
     ·rw[if_pos i2];exact u _ _ #[1] #[1]
     ·rw[if_neg i2];exact u _ _ #[1] #[1]
    ·rw[if_neg j2,if_neg #[1]];exact u _ _ hij #[1]
theorem vG(O:mV lt n)(h:1<=n):(kas_sort n).Run lt n (λp=>cB n p/\Bh lt p n):=by
 refine KasT.run_bind _ (KasT.eN (λr hr=>?_) _ (GH O ⟨List.Perm.refl _⟩ h));obtain⟨hp,h1,h2,u⟩:=hr;split
 ·have:max r.1 1=r.1:=by omega
  rw[this];exact E1 O _ _ _ hp #[1] u
 ·refine⟨hp,?_⟩
  grind
end
end PySem.W
set_option maxHeartbeats 4000000
namespace PySem.W
open PySem PySem.Calls PyProof.Rows
section
variable {prog:YN} {w:World} {A:YQ} {E:Yy} {s:YR}
noncomputable def Ic(prog:YN)(w:World)(A:YQ)(vs:YF)(lt:Nat->Nat->Bool)(s:YR):Prop:=
 wpAny (model prog w) A (keyKind' vs.toArray) (λκ s'=>s'=s/\∀i j C,i<vs.length->j<vs.length->C (lt i j) s ->
  wpAny (model prog w) A (keyLt' κ (vs.getD i Value.none) (vs.getD j Value.none)) C (λ_ _=>False) s) (λ_ _=>False) s
theorem LK{vs:YF}(hl:vs.length<2):(vs.toArray.zip vs.toArray).map (·.2)=(((List.range vs.length).toArray).toList.map λi=>vs.getD i Value.none).toArray:=by
 rcases vs with _|⟨x,_|⟨y,vs⟩⟩
 ·simp
 ·simp
 grind
theorem oM(ho:s.heap.get? a=some (seqObj "list" vs.toArray n))
 (O:mV lt vs.length)(h64:vs.length<64)
 (hk:∀h',(∀b o,b≠a->s.heap.get? b=some o->h'.get? b=some o)->2<=vs.length->Ic prog w A vs lt {s with heap:=h'})
 (h:∀p:YM,cB vs.length p->Bh lt p vs.length->P (.done (.ret .none)) {s with heap:=sortedHeap s.heap a vs (p.toList.map λi=>vs.getD i Value.none).toArray}) :
  wpAny (model prog w) A (Builtin.«list.sort» ⟨[.ref a],[]⟩) P E s:=by
 rw[list_sort_plain];have ha:a<#[2]:=UM ho;refine UC (listItems_at ho rfl ?_);refine UC (W9 ho rfl ?_);obtain⟨e1,ho1⟩:∃e1,(s.heap.update a (Obj.mapSeq λ_=>#[])).get? a=some (seqObj "list" #[] e1):=⟨_,get?_update_seq ho (λ_=>#[])⟩;refine UC (seqEpoch_at ho1 rfl ?_);refine UC (Yp ?_);refine UC (Ya ?_);refine U8 ?_;have ho6:(((s.heap.update a (Obj.mapSeq λ_=>#[])).push (seqObj "tuple" vs.toArray 0)).push (seqObj "list" #[] 0)).get? a=some (seqObj "list" #[] e1):=by rw[V8 _ _ _ (by rw[size_push',Xl];exact UT (Vx ha)),V8 _ _ _ (by rw[Xl];exact UT ha)];exact ho1
 show wpAny (model prog w) A _ P E {s with heap:=((s.heap.update a (Obj.mapSeq λ_=>#[])).push (seqObj "tuple" vs.toArray 0)).push (seqObj "list" #[] 0)};dsimp only;by_cases h2:vs.toArray.size<2
 ·rw[if_pos h2,if_pos h2];refine UC (UD ?_);rw[StateT.run_pure];refine UC (UD ?_);dsimp only;refine UC (seqEpoch_at ho6 rfl ?_);refine UC (W9 ho6 rfl ?_ (hsz2:=by rw[Array.size_map];show(pairsOf vs).size<=_;rw[pairsOf_size,VB];omega));simp only[Ys,UQ,Vu];have hl:vs.length<2:=by simpa using h2
  have e:(arrOf (SortSt.mk' general' (vs.toArray.zip vs.toArray) #[] 7 none)).map (·.2)=(((List.range vs.length).toArray).toList.map λi=>vs.getD i Value.none).toArray:=by show(vs.toArray.zip vs.toArray).map (·.2)=_;exact LK hl
  rw[e];exact UD (h _ ⟨List.Perm.refl _⟩ λi j h1 h2=>by omega)
 ·rw[if_neg h2,if_neg h2];have hl:2<=vs.length:=by simp at h2;exact h2
  refine UC (VG (hk _ (λb o hb q=>?_) hl) (λκ s' hκ=>?_) λ_ _ x=>x.elim)
  ·have hbs:b<#[2]:=UM q;rw[V8 _ _ _ (by rw[size_push',Xl];exact UT (Vx hbs)),V8 _ _ _ (by rw[Xl];exact UT hbs),Yg _ _ _ _ hb];exact q
  ·obtain⟨rfl,hc⟩:=hκ
   refine UC (VG (kat_run (E:=E) (vs:=vs) (ks:=vs) (κ:=κ) (G:=λp s'=>s'={s with heap:=((s.heap.update a (Obj.mapSeq λ_=>#[])).push (seqObj "tuple" vs.toArray 0)).push (seqObj "list" #[] 0)}/\cB vs.length p/\Bh lt p vs.length)
    (Q:=λst' s'=>s'={s with heap:=((s.heap.update a (Obj.mapSeq λ_=>#[])).push (seqObj "tuple" vs.toArray 0)).push (seqObj "list" #[] 0)}/\failedOf st'=none/\∃p,cB vs.length p/\Bh lt p vs.length/\(arrOf st').map (·.2)=List.toArray (p.toList.map λi=>vs.getD i Value.none))
    rfl hl h64 (λp st' s' a1 a2 a3 a4=>⟨a4.1,a3,p,a4.2.1,a4.2.2,kat_snds rfl a2⟩) ?_) ?_ λ_ _ e=>e)
   ·refine KasT.Dn (lt:=lt) (n:=vs.length) (P:=λp=>cB vs.length p/\Bh lt p vs.length) (I:=λs'=>s'={s with heap:=((s.heap.update a (Obj.mapSeq λ_=>#[])).push (seqObj "tuple" vs.toArray 0)).push (seqObj "list" #[] 0)}) ?_ ?_ _ _ (vG O #[1]) rfl
    ·rintro i j C s' hi hj rfl q;exact hc i j C hi hj (q _ rfl)
    ·rintro p s' hp rfl;exact⟨rfl,hp⟩
   ·rintro⟨⟨⟩,st'⟩ s' ⟨rfl,hf,p,hp,hu,e⟩;dsimp only at hf e ⊢;rw[e];refine UC (seqEpoch_at ho6 rfl ?_);refine UC (W9 ho6 rfl ?_ (hsz2:=by rw[UY,UX,Vr,hp.size,VB];omega));rw[hf];simp only[Ys,UQ,Vu];exact UD (h p hp hu)
theorem vH(hl:s.heap.IsList l vs.toArray)(O:mV lt vs.length)(h64:vs.length<64)
 (hk:∀h',(∀b o,s.heap.get? b=some o->h'.get? b=some o)->2<=vs.length->Ic prog w A.in1.in1 vs lt {s with heap:=h'})
 (h:∀p:YM,cB vs.length p->Bh lt p vs.length->Q (.ref (#[2]+1)) {s with heap:=sortedAll s.heap vs (p.toList.map λi=>vs.getD i Value.none).toArray}) :
  wpAny (model prog w) A (call (.builtin "sorted") [.ref l]) Q E s:=by
 refine Calls.call_function_entry kind_sorted plain_sorted entry_sorted (args_sorted1 _) ?_;unfold Builtin.«sorted»;refine UC (m:=checkCount "sorted" 1 1 _) (UD ?_);refine UC (collect_list hl ?_);refine UC (Ya ?_)
 have hsz:((s.heap.push (seqObj "list" #[] 0)).update #[2] (Obj.mapSeq (·++vs.toArray))).objs.size=#[2]+1:=by
  simp_all
 have hoL:(((s.heap.push (seqObj "list" #[] 0)).update #[2] (Obj.mapSeq (·++vs.toArray))).push (seqObj "list" vs.toArray 0)).get? (#[2]+1)=some (seqObj "list" vs.toArray 0):=by rw[<- hsz];exact UL _ rfl
 show wpAny _ _ _ _ _ {s with heap:=((s.heap.push (seqObj "list" #[] 0)).update #[2] (Obj.mapSeq (·++vs.toArray))).push (seqObj "list" vs.toArray 0)};rw[hsz];refine UC (U8 (U7 slot_list_sort ⟨_,hoL,rfl⟩ entry_list_sort (oM hoL O h64 (λh' k h2=>hk h' (λb o q=>?_) h2) λp a1 a2=>⟨_,rfl,?_⟩) (args_list_sort _)))
 ·have hlt:b<#[2]:=UM q;refine k b o (UT (Vx hlt)) ?_;show(((s.heap.push (seqObj "list" #[] 0)).update #[2] (Obj.mapSeq (·++vs.toArray))).push (seqObj "list" vs.toArray 0)).get? b=some o;rw[V8 _ _ _ (by rw[hsz];exact UT (Vx hlt)),Yg _ _ _ _ (UT hlt),V8 _ _ _ (UT hlt)];exact q
 ·exact UD ⟨_,rfl,h p a1 a2⟩
end
end PySem.W
namespace L2
open PySem PySem.Spec PyProof.Rows
open PySem.W (mV cB Bh Ic vH KatLex kat_lt kat_one kas_mapM kas_first_eq Looks pat)
def pb(x y:Str):Bool:=decide (x.cps.toList<y.cps.toList)
theorem zE(x:Str):pb x x=false:=strKind.irrefl _
theorem Dp(h:pb x y=true)(h':pb y z=true):pb x z=true:=strKind.trans _ _ _ h h'
theorem Ie(h:pb x y=true):pb y x=false:=by
 cases e:pb y x with
 |false=>rfl
 |true=>have:=Dp h e;grind[zE]
theorem E3(h:pb x y=false)(h':pb y x=false):x=y:=by have e:=strKind.total x.cps.toList y.cps.toList h h';cases x;simp_all
section
variable {P:YN} {w:World} {A:YQ} {E:Yy} {s:YR}
theorem Bi{vs:YF}(h2:1<=vs.length)(hT:∀v∈vs,Looks M s.heap (typeOf v) T)(hT2:(T==T)=true)(h:Q (some T) s) :
  wpAny M A (oneTypeOnly' vs.toArray) Q E s:=by
 obtain⟨v,rest,rfl⟩:∃v rest,vs=v::rest:=by
  match vs,h2 with
  |v::r,_=>exact⟨v,r,rfl⟩
 rw[oneTypeOnly'_eq,List.mapM_toArray,map_eq_pure_bind];refine UC (UC (kas_mapM (r:=T) _ (λv hv Q' hq=>(hT v hv).here hq) (UD ?_)));have hall:((List.map (λ_=>T) (v::rest)).toArray.all λx=>x==T)=true:=by simp only[List.all_toArray,List.all_map,UW];intro _ _;exact hT2
 have h0:(List.map (λ_=>T) (v::rest)).toArray[0]?=some T:=by simp
 rw[h0];simp only[hall,VC];exact UD h
end
section
variable {X:Cx} {k:Nat}
theorem iY{α:Type}(d:α):∀(xs:List α),(List.range xs.length).map (λi=>xs.getD i d)=xs
 | []=>rfl
 |x::xs=>by
  rw[Vf,List.range_succ_eq_map,Va,W4];have:=iY d xs
  conv=>rhs;rw[<- this]
  rfl
theorem GI(r:Vals vs us)(i:Nat)(hi:i<vs.length):RelV (vs.getD i .non) (us.getD i .none):=by
 obtain⟨u,h1,h2⟩:=r.get (i:=i) (x:=vs[i]) (by grind)
 simp_all
theorem si(r:Vals vs us):∀(l:List Nat),(∀i∈l,i<vs.length)->Vals (l.map λi=>vs.getD i .non) (l.map λi=>us.getD i .none)
 | [],_=>.nil
 |i::l,h=>.cons (GI r i (h i (.head _))) (si r l λj hj=>h j (.tail _ hj))
theorem sj(r:aZ H ds vs)(dd:PyData):∀(l:List Nat),(∀i∈l,i<vs.length)->aZ H (l.map λi=>ds.getD i dd) (l.map λi=>vs.getD i .non)
 | [],_=>aZ.nil
 |i::l,h=>by
  refine aZ.cons ?_ (sj r dd l λj hj=>h j (.tail _ hj));have hi:=h i (.head _);obtain⟨d,h1,h2⟩:=r.get (i:=i) (v:=vs[i]) (by grind)
  simp_all
end
end L2
namespace Ml
open PySem
structure Xc where
 cls:Str
 args:YD
inductive D where
 |dat (d:PyData)
 |ref (i:Nat)
 |ia (t:Bool) (kvs:YA)
 |set (xs:YD)
 |fn (n:Str)
 |exc (x:Xc)
 |scr (ns:List Int)
 |ktup (xs:YD)
 |rpr (x:Str)
inductive MO where
 |lst (xs:List D)
 |ia (t:Bool) (kvs:YA)
 |ins (C:Str) (fs:List (Str×D))
 |tab (P:Addr) (q:Str)
abbrev Hm:=List MO
abbrev Fm:=List (Option D)
inductive R (α:Type) where
 |ok (a:α) (h:Hm)
 |exc (x:Xc) (h:Hm)
 |bad
def R.bind{α β:Type}:R α->(α->Hm->R β)->R β
 |.ok a h,f=>f a h
 |.exc x h,_=>.exc x h
 |.bad,_=>.bad
def R.tN{α:Type}:R α->R α
 |.exc _ _=>.bad
 |r=>r
@[simp] theorem R.dB:(R.ok a h).tN=.ok a h:=rfl
@[simp] theorem R.aP{f:α->Hm->R β}:(R.ok a h).bind f=f a h:=rfl
@[simp] theorem R.Ig{f:α->Hm->R β}:(R.exc x h).bind f=.exc x h:=rfl
@[simp] theorem R.Q4:R.bad.bind f=.bad:=rfl
theorem R.bind_assoc(r:R α)(f:α->Hm->R β)(g:β->Hm->R γ):(r.bind f).bind g=r.bind λa h=>(f a h).bind g:=by cases r<;>rfl
abbrev ME:=Fm->Hm->R D
abbrev MT:=Fm->Hm->R Bool
abbrev MA:=Fm->Hm->R (List D)
inductive Fl where
 |nx (ρ:Fm)
 |rt (d:D)
 |bk (ρ:Fm)
 |ct (ρ:Fm)
abbrev MS:=Fm->Hm->R Fl
abbrev Fn:=List D->Hm->R D
abbrev D.none:D:=.dat .none
abbrev D.bool(b:Bool):D:=.dat (.bool b)
abbrev D.int(i:Int):D:=.dat (.int i)
abbrev D.str(s:Str):D:=.dat (.str s)
def ab(i:Nat):ME:=λρ h=>match ρ[i]? with
 |some (some d)=>.ok d h
 |_=>.bad
def aj(d:PyData):ME:=λ_ h=>.ok (.dat d) h
def Uv(n:Str):ME:=λ_ h=>.ok (.fn n) h
def ah:MA:=λ_ h=>.ok [] h
def aa(e:ME)(a:MA):MA:=λρ h=>(e ρ h).bind λx h1=>(a ρ h1).bind λxs h2=>.ok (x::xs) h2
def ao(f:D->D->Hm->R D)(a b:ME):ME:=λρ h=>(a ρ h).bind λx h1=>(b ρ h1).bind λy h2=>f x y h2
def Ih(f:D->Hm->R D)(a:ME):ME:=λρ h=>(a ρ h).bind λx h1=>f x h1
def af(f:Fn)(a:MA):ME:=λρ h=>(a ρ h).bind λxs h1=>f xs h1
def aI(e:ME):MT:=λρ h=>(e ρ h).bind λx h1=>match x with
 |.dat (.bool b)=>.ok b h1
 |_=>.bad
def eI(t:MT):MT:=λρ h=>(t ρ h).bind λb h1=>.ok (!b) h1
def vm(t u:MT):MT:=λρ h=>(t ρ h).bind λb h1=>if b then u ρ h1 else .ok false h1
def xE(t u:MT):MT:=λρ h=>(t ρ h).bind λb h1=>if b then .ok true h1 else u ρ h1
def LL(a:ME):ME:=λρ h=>(aI a ρ h).bind λc h1=>.ok (.bool !c) h1
def Dq(t:MT)(a b:ME):ME:=λρ h=>(t ρ h).bind λc h1=>if c then a ρ h1 else b ρ h1
def D.data:D->Option PyData
 |.dat d=>some d
 |_=>Option.none
def jo:List D->Option YD
 | []=>some []
 |x::xs=>match x.data,jo xs with
  |some d,some ds=>some (d::ds)
  |_,_=>Option.none
theorem sA(ds:YD):jo (ds.map D.dat)=some ds:=by
 induction ds with
 |nil=>rfl
 |cons d ds ih=>simp[jo,D.data,ih]
def mP(n:Nat):Bool:=decide (n<=16777216)
def yk(xs:List D)(h:Hm):R D:=match jo xs with
 |some ds=>if mP ds.length then .ok (.dat (.tuple ds)) h else .bad
 |Option.none=>.bad
def oN(xs:List D)(h:Hm):R D:=match jo xs with
 |some ds=>if mP ds.length then .ok (.dat (.list ds)) h else .bad
 |Option.none=>.bad
def vI(xs:List D)(h:Hm):R D:=if mP xs.length then .ok (.ref h.length) (h++[.lst xs])else .bad
def eV(a:MA):ME:=af yk a
def uF(a:MA):ME:=af oN a
def Ds(a:MA):ME:=af vI a
def bM:MS:=λρ h=>.ok (.nx ρ) h
def aS(a b:MS):MS:=λρ h=>(a ρ h).bind λf h1=>match f with
 |.nx ρ1=>b ρ1 h1
 |f=>.ok f h1
def bP(i:Nat)(e:ME):MS:=λρ h=>(e ρ h).bind λx h1=>.ok (.nx (ρ.set i (some x))) h1
def iT(e:ME):MS:=λρ h=>(e ρ h).bind λ_ h1=>.ok (.nx ρ) h1
def bw(e:ME):MS:=λρ h=>(e ρ h).bind λx h1=>.ok (.rt x) h1
def jq(t:MT)(a b:MS):MS:=λρ h=>(t ρ h).bind λc h1=>if c then a ρ h1 else b ρ h1
def OR:MS:=λρ h=>.ok (.bk ρ) h
def Q5:MS:=λρ h=>.ok (.ct ρ) h
abbrev MG:=D->Fm->Hm->R Fm
def aq(i:Nat):MG:=λx ρ h=>.ok (ρ.set i (some x)) h
abbrev Ii:=List D->Fm->Hm->R Fm
def jN:Ii:=λxs ρ h=>match xs with
 | []=>.ok ρ h
 |_=>.bad
def bS(g:MG)(gs:Ii):Ii:=λxs ρ h=>match xs with
 | []=>.bad
 |x::xs=>(g x ρ h).bind λρ1 h1=>gs xs ρ1 h1
def jO(gs:Ii):MG:=λx ρ h=>match x with
 |.dat (.tuple ds)=>gs (ds.map D.dat) ρ h
 |_=>.bad
def oH(g:MG)(e:ME):MS:=λρ h=>(e ρ h).bind λx h1=>(g x ρ h1).bind λρ1 h2=>.ok (.nx ρ1) h2
def sC:List Nat->List D->Fm->Option Fm
 | [],[],ρ=>some ρ
 |i::is,x::xs,ρ=>sC is xs (ρ.set i (some x))
 |_,_,_=>Option.none
def zF(is:List Nat)(a:MA):MS:=λρ h=>(a ρ h).bind λxs h1=>match sC is xs ρ with
 |some ρ1=>.ok (.nx ρ1) h1
 |Option.none=>.bad
def E4(e:ME):MA:=λρ h=>(e ρ h).bind λx h1=>match x with
 |.dat (.tuple ds)=>.ok (ds.map D.dat) h1
 |_=>.bad
def Nf(e:ME):MA:=λρ h=>(e ρ h).bind λx h1=>match x with
 |.dat (.list ds)=>.ok (ds.map D.dat) h1
 |_=>.bad
def signs(x:Str):List D:=(List.range x.cps.size).map λ(i:Nat)=>D.str ⟨#[x.cps.getD i 0]⟩
def Ng(e:ME):MA:=λρ h=>(e ρ h).bind λx h1=>match x with
 |.dat (.str s)=>.ok (signs s) h1
 |_=>.bad
def nums(lo:Int)(n:Nat):List D:=(List.range n).map λ(i:Nat)=>D.int (lo+(i:Int))
def ic(a:MA):MA:=λρ h=>(a ρ h).bind λxs h1=>match xs with
 | [.dat (.int j)]=>if -(2^62)<=j/\j<2^62 then .ok (nums 0 j.toNat) h1 else .bad
 |_=>.bad
def zG:YD->YD->List D
 |x::xs,y::ys=>.dat (.tuple [x,y])::zG xs ys
 |_,_=>[]
def E5(a:MA):MA:=λρ h=>(a ρ h).bind λxs h1=>match xs with
 | [.dat (.tuple ds),.dat (.tuple es)]=>.ok (zG ds es) h1
 |_=>.bad
noncomputable def dz(g:MG)(b:MS):List D->Fm->Hm->R Fl
 | [],ρ,h=>.ok (.nx ρ) h
 |x::xs,ρ,h=>(g x ρ h).tN.bind λρ1 h1=>(b ρ1 h1).tN.bind λf h2=>match f with
  |.nx ρ2=>dz g b xs ρ2 h2
  |.ct ρ2=>dz g b xs ρ2 h2
  |.bk ρ2=>.ok (.nx ρ2) h2
  |.rt d=>.ok (.rt d) h2
def ie(it:MA)(g:MG)(b:MS):MS:=λρ h=>(it ρ h).tN.bind λxs h1=>dz g b xs ρ h1
noncomputable def lF(t:MT)(b:MS):Nat->Fm->Hm->R Fl
 |0,_,_=>.bad
 |n+1,ρ,h=>(t ρ h).tN.bind λc h1=>if c then(b ρ h1).tN.bind λf h2=>match f with
     |.nx ρ2=>lF t b n ρ2 h2
     |.ct ρ2=>lF t b n ρ2 h2
     |.bk ρ2=>.ok (.nx ρ2) h2
     |.rt d=>.ok (.rt d) h2
  else .ok (.nx ρ) h1
def Dt(n:Nat)(t:MT)(b:MS):MS:=lF t b n
noncomputable def gC(n:Nat)(ρ:Fm)(g:MG)(t:MT)(e:ME):List D->Hm->R (List D)
 | [],h=>.ok [] h
 |x::xs,h=>(g x (List.replicate n none++ρ) h).tN.bind λρ1 h1=>(t ρ1 h1).tN.bind λc h2=>
  if c then(e ρ1 h2).tN.bind λy h3=>(gC n ρ g t e xs h3).bind λys h4=>.ok (y::ys) h4
  else gC n ρ g t e xs h2
def cM:MT:=λ_ h=>.ok true h
def yl(n:Nat)(it:MA)(g:MG)(t:MT)(e:ME):MA:=λρ h=>(it ρ h).bind λxs h1=>if mP xs.length then gC n ρ g t e xs h1 else .bad
def bR(n:Nat)(it:MA)(g:MG)(t:MT)(e:ME):ME:=af oN (yl n it g t e)
def E6:Fl->Hm->R D
 |.rt d,h=>.ok d h
 |.nx _,h=>.ok D.none h
 |_,_=>.bad
def aY(p n:Nat)(b:MS):Fn:=λxs h=>if xs.length=p then(b (xs.map some++List.replicate (n-p) none) h).bind E6 else .bad
def D.below(n:Nat):D->Bool
 |.ref i=>decide (i<n)
 |_=>true
def MO.below(n:Nat):MO->Bool
 |.lst xs=>xs.all (D.below n)
 |.ia _ _=>true
 |.ins _ fs=>fs.all λp=>p.2.below n
 |.tab _ _=>true
noncomputable def kK(f:Fn):Fn:=λxs h=>match f xs h with
 |.ok d h'=>if d.below h.length&&(h'.take h.length).all (MO.below h.length)&&decide (h.length<=h'.length)then .ok d (h'.take h.length)else .bad
 |.exc x h'=>if(h'.take h.length).all (MO.below h.length)&&decide (h.length<=h'.length)then .exc x (h'.take h.length)else .bad
 |.bad=>.bad
def mO(f:D->Option PyData):List D->Option YD
 | []=>some []
 |x::xs=>match f x,mO f xs with
  |some d,some ds=>some (d::ds)
  |_,_=>Option.none
def Du(h:Hm):Nat->D->Option PyData
 |_,.dat d=>some d
 |_,.ktup xs=>some (.tuple xs)
 |n+1,.ref i=>match h[i]? with
  |some (.lst xs)=>(mO (Du h n) xs).map .list
  |_=>Option.none
 |_,_=>Option.none
abbrev KD(h:Hm)(x:D):Option PyData:=Du h 3 x
@[simp] theorem E7(h:Hm)(n:Nat)(d:PyData):Du h n (.dat d)=some d:=by cases n<;>rfl
def listOf(x:D)(h:Hm):Option YD:=match x with
 |.dat (.list ds)=>some ds
 |.ref i=>match h[i]? with
  |some (.lst ys)=>jo ys
  |_=>Option.none
 |_=>Option.none
noncomputable def gv(x y:D)(h:Hm):R D:=match x,y with
 |.dat (.int i),.dat (.int j)=>.ok (.int (i+j)) h
 |.dat (.str s),.dat (.str t)=>if mP (s.length+t.length)then .ok (.str (s++t)) h else .bad
 |.dat (.tuple xs),.dat (.tuple ys)=>if mP (xs.length+ys.length)then .ok (.dat (.tuple (xs++ys))) h else .bad
 |.dat (.list xs),.dat (.list ys)=>if mP (xs.length+ys.length)then .ok (.dat (.list (xs++ys))) h else .bad
 |_,_=>.bad
def xN(x y:D)(h:Hm):R D:=match x,y with
 |.dat (.int i),.dat (.int j)=>.ok (.int (i-j)) h
 |_,_=>.bad
def vJ(i j:Int):Bool:=(decide (-(2^64)<i)&&decide (i<2^64)) || (decide (-(2^64)<j)&&decide (j<2^64))
noncomputable def iZ(x y:D)(h:Hm):R D:=match x,y with
 |.dat (.int i),.dat (.int j)=>if vJ i j then .ok (.int (i*j)) h else .bad
 |.dat (.list xs),.dat (.int k)=>if mP (xs.length*k.toNat)&&decide (-(2^63)<=k)&&decide (k<2^63)then .ok (.dat (.list (List.replicate k.toNat xs).flatten)) h else .bad
 |_,_=>.bad
def oMod(x y:D)(h:Hm):R D:=match x,y with
 |.dat (.int i),.dat (.int j)=>if 0<j then .ok (.int (i % j)) h else .bad
 |_,_=>.bad
def jX(x y:D)(h:Hm):R D:=match x,y with
 |.dat (.int i),.dat (.int j)=>if 0<j/\j<1073741824 then .ok (.int (i / j)) h else .bad
 |_,_=>.bad
def noDict(d:PyData):Bool:=!d.hasDict
def eqQ(d e:PyData):Option Bool:=if noDict d&&noDict e&&decide (min d.depth e.depth<=40)then some (PyData.eqv d e)else Option.none
def Hn(d e:PyData):Option Bool:=match d,e with
 |.str _,.dict _=>some false
 |.tuple ds,.dict _=>if noDict (.tuple ds)then some false else Option.none
 |d,e=>eqQ d e
def oEq(x y:D)(h:Hm):R D:=match x,y with
 |.rpr s,.rpr t=>.ok (.bool (decide (s=t))) h
 |x,y=>match KD h x,KD h y with
  |some d,some e=>match eqQ d e with
   |some b=>.ok (.bool b) h
   |Option.none=>.bad
  |_,_=>.bad
def uW(x y:D)(h:Hm):R D:=match x,y with
 |.rpr s,.rpr t=>.ok (.bool (!decide (s=t))) h
 |x,y=>match KD h x,KD h y with
  |some d,some e=>match eqQ d e with
   |some b=>.ok (.bool !b) h
   |Option.none=>.bad
  |_,_=>.bad
def pb(x y:Str):Bool:=decide (x.cps.toList<y.cps.toList)
mutual
noncomputable def cg:PyData->PyData->Option Bool
 |.int i,.int j=>some (decide (i<j))
 |.str x,.str y=>some (pb x y)
 |.tuple xs,.tuple ys=>dw xs ys
 |_,_=>Option.none
noncomputable def dw:YD->YD->Option Bool
 | [],[]=>some false
 | [],_::_=>some true
 |_::_,[]=>some false
 |x::xs,y::ys=>if PyData.eqv x y then dw xs ys else cg x y
end
def oLt(x y:D)(h:Hm):R D:=match x,y with
 |.dat d,.dat e=>if noDict d&&noDict e&&decide (min d.depth e.depth<=40)then match cg d e with
  |some b=>.ok (.bool b) h
  |Option.none=>.bad
  else .bad
 |_,_=>.bad
def oLe(x y:D)(h:Hm):R D:=match x,y with
 |.dat (.int i),.dat (.int j)=>.ok (.bool (decide (i<=j))) h
 |.dat (.str s),.dat (.str t)=>.ok (.bool (!pb t s)) h
 |_,_=>.bad
def Bj(x y:D)(h:Hm):R D:=match x,y with
 |.dat (.int i),.dat (.int j)=>.ok (.bool (decide (j<i))) h
 |_,_=>.bad
def Q6(x y:D)(h:Hm):R D:=match x,y with
 |.dat (.int i),.dat (.int j)=>.ok (.bool (decide (j<=i))) h
 |_,_=>.bad
def Ij(x:PyData):YD->Option Bool
 | []=>some false
 |y::ys=>match Hn y x,Ij x ys with
  |some a,some b=>some (a || b)
  |_,_=>Option.none
def gE:PyData->Bool
 |.tuple _=>true
 |_=>false
def mY:PyData->Bool
 |.str _=>true
 |_=>false
def kL(k:PyData)(kvs:YA):Bool:=kvs.any λp=>PyData.eqv p.1 k
def iU(y:D)(h:Hm):Option (Bool×YA):=match y with
 |.ia t kvs=>some (t,kvs)
 |.ref i=>match h[i]? with
  |some (.ia t kvs)=>some (t,kvs)
  |_=>Option.none
 |_=>Option.none
mutual
noncomputable def aC:PyData->Bool
 |.str _=>true
 |.tuple ds=>bA ds
 |_=>false
noncomputable def bA:YD->Bool
 | []=>true
 |d::ds=>aC d&&bA ds
end
def keyOk(t:Bool)(k:PyData):Bool:=if t then gE k&&aC k&&decide (k.depth<=8)else mY k
def zH(x:D)(kvs:YA)(t:Bool):Option Bool:=match x with
 |.dat d=>if keyOk t d then some (kL d kvs)else Option.none
 |_=>Option.none
noncomputable def jY(x y:D)(h:Hm):Option Bool:=match y with
 |.dat (.str s)=>match x with
  |.dat (.str t)=>some (!(Builtin.Str.occurrences s t 0 s.length 1).isEmpty)
  |_=>Option.none
 |y=>match KD h x,KD h y with
  |some d,some (.tuple ds)=>Ij d ds
  |some d,some (.list ds)=>Ij d ds
  |_,_=>Option.none
def findIn(x y:D)(h:Hm):Option Bool:=match iU y h with
 |some p=>zH x p.2 p.1
 |Option.none=>jY x y h
def mQ(x y:D)(h:Hm):R D:=match findIn x y h with
 |some b=>.ok (.bool b) h
 |Option.none=>.bad
def gF(x y:D)(h:Hm):R D:=match findIn x y h with
 |some b=>.ok (.bool !b) h
 |Option.none=>.bad
def oO:PyData->Bool
 |.none|.bool _|.int _|.str _=>true
 |_=>false
def dput(kvs:YA)(k v:PyData):YA:=
 if kL k kvs then kvs.map (λp=>if PyData.eqv p.1 k then(p.1,v)else p)else kvs++[(k,v)]
def Ik(kvs:YA)(k:PyData):Option PyData:=(kvs.find? λp=>PyData.eqv p.1 k).map (·.2)
def yf(n:Nat)(i:Int):Option Nat:=if 0<=i then(if i<n then some i.toNat else Option.none)else if -(n:Int)<=i then some (i+n).toNat else Option.none
def mS{α:Type}(xs:List α)(i:Int):Option α:=(yf xs.length i).bind λj=>xs[j]?
noncomputable def Dv(x y:D)(h:Hm):R D:=match y with
 |.dat (.int i)=>match x with
  |.dat (.tuple ds)=>match mS ds i with|some d=>.ok (.dat d) h|Option.none=>.bad
  |.dat (.list ds)=>match mS ds i with|some d=>.ok (.dat d) h|Option.none=>.bad
  |.ref j=>match h[j]? with
   |some (.lst xs)=>match mS xs i with|some d=>.ok d h|Option.none=>.bad
   |_=>.bad
  |.scr ns=>match mS ns i with|some n=>.ok (.int n) h|Option.none=>.bad
  |_=>.bad
 |_=>.bad
def gU(x y:D)(h:Hm):R D:=match iU x h with
 |some p=>match y with
  |.dat (.str k)=>if p.1 then .bad else match Ik p.2 (.str k)with
   |some v=>.ok (.dat v) h
   |Option.none=>.bad
  |_=>.bad
 |Option.none=>Dv x y h
def fT(n d:Nat):Option Int->Nat
 |Option.none=>d
 |some v=>if v<0 then(v+(n:Int)).toNat else min v.toNat n
def cut{α:Type}(ds:List α)(lo hi:Option Int):List α:=(ds.drop (fT ds.length 0 lo)).take (fT ds.length ds.length hi-fT ds.length 0 lo)
abbrev OS:=Fm->Hm->R (Option Int)
def ym:OS:=λ_ h=>.ok Option.none h
def yn(e:ME):OS:=λρ h=>(e ρ h).bind λx h1=>match x with
 |.dat (.int i)=>.ok (some i) h1
 |_=>.bad
def Q7(x:D)(lo hi:Option Int)(h:Hm):R D:=match x with
 |.dat (.tuple ds)=>.ok (.dat (.tuple (cut ds lo hi))) h
 |.dat (.list ds)=>.ok (.dat (.list (cut ds lo hi))) h
 |_=>.bad
def Qj(e:ME)(lo hi:OS):ME:=λρ h=>(e ρ h).bind λx h1=>(lo ρ h1).bind λl h2=>(hi ρ h2).bind λu h3=>Q7 x l u h3
noncomputable def iI:Fn:=λxs h=>match xs with
 | [.dat (.str s)]=>if mP s.length then .ok (.int s.length) h else .bad
 | [.dat (.tuple ds)]=>.ok (.int ds.length) h
 | [.dat (.list ds)]=>.ok (.int ds.length) h
 | [.ref i]=>match h[i]? with
  |some (.lst ys)=>.ok (.int ys.length) h
  |_=>.bad
 | [.scr ns]=>.ok (.int ns.length) h
 |_=>.bad
def bools:YD->Option (List Bool)
 | []=>some []
 |.bool b::ds=>(bools ds).map (b::·)
 |_=>Option.none
theorem yo(bs:List Bool):bools (bs.map .bool)=some bs:=by
 induction bs with
 |nil=>rfl
 |cons b bs ih=>simp[bools,ih]
def sD:Fn:=λxs h=>match xs with
 | [.dat (.list ds)]=>match bools ds with
  |some bs=>.ok (.bool (bs.all id)) h
  |Option.none=>.bad
 |_=>.bad
def xO:Fn:=λxs h=>match xs with
 | [.dat (.list ds)]=>match bools ds with
  |some bs=>.ok (.bool (bs.any id)) h
  |Option.none=>.bad
 |_=>.bad
def isTup:PyData->Bool|.tuple _=>true|_=>false
def isStr:PyData->Bool|.str _=>true|_=>false
def isInt:PyData->Bool|.int _|.bool _=>true|_=>false
def Nh:PyData->Bool|.bool _=>true|_=>false
def vK(f:PyData->Bool):D->Hm->R D:=λx h=>match x with
 |.dat d=>.ok (.bool (f d)) h
 |_=>.bad
def jr(x:Str):YD:=(List.range x.cps.size).map λ(i:Nat)=>.str ⟨#[x.cps.getD i 0]⟩
noncomputable def jt:Fn:=λxs h=>match xs with
 | [.dat (.tuple ds)]=>.ok (.dat (.tuple ds)) h
 | [.dat (.str s)]=>if mP s.cps.size then .ok (.dat (.tuple (jr s))) h else .bad
 | [x]=>match listOf x h with
  |some ds=>.ok (.dat (.tuple ds)) h
  |Option.none=>.bad
 |_=>.bad
def Dw:Fn:=λxs h=>match xs with
 | [.dat (.tuple ds)]=>.ok (.dat (.list ds)) h
 | [x]=>match listOf x h with
  |some ds=>.ok (.dat (.list ds)) h
  |Option.none=>.bad
 |_=>.bad
def Bk:Fn:=λxs h=>match xs with
 | [x]=>match iU x h with
  |some p=>.ok (.dat (.list (p.2.map (·.1)))) h
  |Option.none=>Dw [x] h
 |_=>.bad
def Dx(lt:PyData->PyData->Bool)(x:PyData):YD->YD
 | []=>[x]
 |y::ys=>if lt y x then y::Dx lt x ys else x::y::ys
def c6(lt:PyData->PyData->Bool):YD->YD
 | []=>[]
 |x::xs=>Dx lt x (c6 lt xs)
def ltB(d e:PyData):Bool:=(cg d e).getD false
def uX:Fn:=λxs h=>match xs with
 | [.dat (.int i),.dat (.int j)]=>if 0<j/\j<1073741824 then .ok (.dat (.tuple [.int (i / j),.int (i % j)])) h else .bad
 |_=>.bad
def LM:Fn:=λxs h=>match xs with
 | [.dat (.int i)]=>.ok (.int (if i<0 then -i else i)) h
 |_=>.bad
def Il:Fn:=λxs h=>match xs with
 | [.dat (.int i),.dat (.int j)]=>.ok (.int (if j>i then j else i)) h
 |_=>.bad
def Im:Fn:=λxs h=>match xs with
 | [.dat (.int i),.dat (.int j)]=>.ok (.int (if j<i then j else i)) h
 |_=>.bad
def zI:Fn:=λxs h=>match xs with
 | [.dat (.int i)]=>.ok (.int i) h
 | [.dat (.bool b)]=>.ok (.int (if b then 1 else 0)) h
 |_=>.bad
def oh(x y:D)(h:Hm):R D:=match x with
 |.ref i=>match h[i]? with
  |some (.lst xs)=>if decide (xs.length<16777216)then .ok D.none (h.set i (.lst (xs++[y])))else .bad
  |_=>.bad
 |_=>.bad
def E8(x y v:D)(h:Hm):R Unit:=match x,y with
 |.ref i,.dat (.int k)=>match h[i]? with
  |some (.lst xs)=>match yf xs.length k with
   |some j=>.ok () (h.set i (.lst (xs.set j v)))
   |Option.none=>.bad
  |_=>.bad
 |_,_=>.bad
def Io(i:Nat)(t:Bool)(kvs:YA)(y v:D)(h:Hm):R Unit:=match y,v with
 |.dat k,.dat d=>if keyOk t k&&(t || oO d)&&decide (kvs.length<16777216)then .ok () (h.set i (.ia t (dput kvs k d)))else .bad
 |_,_=>.bad
def pf(x y v:D)(h:Hm):R Unit:=match x with
 |.ref i=>match h[i]? with
  |some (.ia t kvs)=>Io i t kvs y v h
  |_=>E8 x y v h
 |_=>.bad
def o4(eo ei:ME):MG:=λv ρ h=>(eo ρ h).bind λo h1=>(ei ρ h1).bind λi h2=>(pf o i v h2).bind λ_ h3=>.ok ρ h3
noncomputable def truth(x:D)(h:Hm):Option Bool:=match x with
 |.dat .none=>some false
 |.dat (.bool b)=>some b
 |.dat (.int i)=>some (i != 0)
 |.dat (.str s)=>if mP s.length then some ((s.length:Int) != 0)else Option.none
 |.dat (.tuple ds)=>some !ds.isEmpty
 |.dat (.list ds)=>some !ds.isEmpty
 |.ref i=>match h[i]? with
  |some (.lst xs)=>some !xs.isEmpty
  |_=>Option.none
 |_=>Option.none
def aR(e:ME):MT:=λρ h=>(e ρ h).bind λx h1=>match truth x h1 with
 |some b=>.ok b h1
 |Option.none=>.bad
mutual
noncomputable def fj:PyData->Bool
 |.str x=>PyData.strOk x
 |.list xs|.tuple xs=>cF xs
 |_=>true
noncomputable def cF:YD->Bool
 | []=>true
 |x::xs=>fj x&&cF xs
end
mutual
theorem kn:∀{d:PyData},fj d=true->d.hasDict=false->d.canLay0=true
 |.none,_,_=>by rfl
 |.bool _,_,_=>by rfl
 |.int _,_,_=>by rfl
 |.str x,h,_=>by assumption
 |.tuple ds,h,k=>qw h k
 |.list ds,h,k=>by simp[fj]at h;exact qw h k
 |.dict _,_,k=>by trivial
theorem qw:∀{ds:YD},cF ds=true->PyData.hasDictAll ds=false->PyData.canLayAll0 ds=true
 | [],_,_=>by rfl
 |d::ds,h,k=>by simp only[cF,UH]at h;simp only[PyData.hasDictAll,Bool.or_eq_false_iff]at k;simp only[PyData.canLayAll0,UH];exact⟨kn h.1 k.1,qw h.2 k.2⟩
end
mutual
noncomputable def av:PyData->Bool
 |.int _|.str _=>true
 |.tuple ds=>aB ds
 |_=>false
noncomputable def aB:YD->Bool
 | []=>true
 |d::ds=>av d&&aB ds
end
theorem bf:∀{ds:YD} {d:PyData},aB ds=true->d∈ds->av d=true
 |_::_,d,h,m=>by
  simp[aB]at h;rcases UP.mp m with rfl|m
  ·grind
  ·exact bf h.2 m
theorem jZ:∀{ds:YD},(∀d∈ds,av d=true)->aB ds=true
 | [],_=>by rfl
 |d::ds,h=>by simp[aB];exact⟨h d (by simp),jZ λe m=>h e (by simp[m])⟩
mutual
theorem ig:∀{d e:PyData},av d=true->av e=true->(PyData.eqv d e=true<->d=e)
 |.int i,.int j,_,_=>by simp[PyData.eqv]
 |.str x,.str y,_,_=>by simp[PyData.eqv]
 |.tuple xs,.tuple ys,h,k=>by simp only[av]at h k;simp only[PyData.eqv,PyData.tuple.injEq];exact yp h k
 |.int _,.str _,_,_=>by simp[PyData.eqv]
 |.int _,.tuple _,_,_=>by simp[PyData.eqv]
 |.str _,.int _,_,_=>by simp[PyData.eqv]
 |.str _,.tuple _,_,_=>by simp[PyData.eqv]
 |.tuple _,.int _,_,_=>by simp[PyData.eqv]
 |.tuple _,.str _,_,_=>by simp[PyData.eqv]
 |.none,_,h,_=>by simp[av]at h
 |.bool _,_,h,_=>by simp[av]at h
 |.list _,_,h,_=>by simp[av]at h
 |.dict _,_,h,_=>by simp[av]at h
 |.int _,.none,_,h=>by simp[av]at h
 |.int _,.bool _,_,h=>by simp[av]at h
 |.int _,.list _,_,h=>by simp[av]at h
 |.int _,.dict _,_,h=>by simp[av]at h
 |.str _,.none,_,h=>by simp[av]at h
 |.str _,.bool _,_,h=>by simp[av]at h
 |.str _,.list _,_,h=>by simp[av]at h
 |.str _,.dict _,_,h=>by simp[av]at h
 |.tuple _,.none,_,h=>by simp[av]at h
 |.tuple _,.bool _,_,h=>by simp[av]at h
 |.tuple _,.list _,_,h=>by simp[av]at h
 |.tuple _,.dict _,_,h=>by simp[av]at h
theorem yp:∀{xs ys:YD},aB xs=true->aB ys=true->(PyData.eqvAll xs ys=true<->xs=ys)
 | [],[],_,_=>by simp[PyData.eqvAll]
 | [],_::_,_,_=>by simp[PyData.eqvAll]
 |_::_,[],_,_=>by simp[PyData.eqvAll]
 |x::xs,y::ys,h,k=>by simp only[aB,UH]at h k;simp only[PyData.eqvAll,UH,List.cons.injEq];rw[ig h.1 k.1,yp h.2 k.2]
end
mutual
theorem cu:∀{d:PyData},av d=true->d.hasDict=false
 |.int _,_=>rfl
 |.str _,_=>rfl
 |.tuple ds,h=>i6 h
 |.none,h=>by rfl
 |.bool _,h=>by rfl
 |.list _,h=>by trivial
 |.dict _,h=>by trivial
theorem i6:∀{ds:YD},aB ds=true->PyData.hasDictAll ds=false
 | [],_=>rfl
 |d::ds,h=>by simp only[aB,UH]at h;simp only[PyData.hasDictAll,Bool.or_eq_false_iff];exact⟨cu h.1,i6 h.2⟩
end
theorem bc(h:av d=true):PyData.eqv d d=true:=(ig h h).mpr rfl
theorem bq(h:av d=true)(k:av e=true)(ne:d≠e):PyData.eqv d e=false:=by
 cases q:PyData.eqv d e with
 |false=>rfl
 |true=>exact absurd ((ig h k).mp q) ne
theorem Tc{x y:Str}(h:x.cps.toList=y.cps.toList):x=y:=by
 obtain⟨⟨a⟩⟩:=x
 simp_all
theorem zE(x:Str):pb x x=false:=VR (List.lt_irrefl _)
theorem Dp(h:pb x y=true)(h':pb y z=true):pb x z=true:=WX (List.lt_trans (Xa h) (Xa h'))
theorem Ie(h:pb x y=true):pb y x=false:=VR λz=>List.lt_irrefl _ (List.lt_trans (Xa h) z)
theorem E3(h:pb x y=false)(h':pb y x=false):x=y:=
 Tc (List.le_antisymm (List.not_lt.mp (of_decide_eq_false h')) (List.not_lt.mp (of_decide_eq_false h)))
mutual
theorem Ip:∀{d e:PyData},av d=true->av e=true->cg d e=some true->cg e d=some false
 |.int i,.int j,_,_,h=>by grind[cg]
 |.str x,.str y,_,_,h=>by simp only[cg,W8]at h ⊢;exact Ie h
 |.tuple xs,.tuple ys,h,k,q=>by simp only[av]at h k;simp only[cg]at q ⊢;exact E9 h k q
 |.int _,.str _,_,_,h=>by trivial
 |.int _,.tuple _,_,_,h=>by trivial
 |.str _,.int _,_,_,h=>by trivial
 |.str _,.tuple _,_,_,h=>by trivial
 |.tuple _,.int _,_,_,h=>by trivial
 |.tuple _,.str _,_,_,h=>by simp[cg]at h
 |.none,_,h,_,_=>by simp[av]at h
 |.bool _,_,h,_,_=>by simp[av]at h
 |.list _,_,h,_,_=>by simp[av]at h
 |.dict _,_,h,_,_=>by simp[av]at h
 |_,.none,_,h,_=>by simp[av]at h
 |_,.bool _,_,h,_=>by simp[av]at h
 |_,.list _,_,h,_=>by simp[av]at h
 |_,.dict _,_,h,_=>by simp[av]at h
theorem E9:∀{xs ys:YD},aB xs=true->aB ys=true->dw xs ys=some true->dw ys xs=some false
 | [],[],_,_,h=>by simp[dw]at h
 | [],_::_,_,_,_=>by simp[dw]
 |_::_,[],_,_,h=>by simp[dw]at h
 |x::xs,y::ys,h,k,q=>by
  simp only[aB,UH]at h k;simp only[dw]at q ⊢;by_cases e:x=y
  ·subst e;rw[bc h.1,if_pos rfl]at q ⊢;exact E9 h.2 k.2 q
  ·rw[bq h.1 k.1 e,if_neg (by simp)]at q;rw[bq k.1 h.1 (λz=>e z.symm),if_neg (by simp)];exact Ip h.1 k.1 q
end
mutual
theorem Fb:∀{d e:PyData},av d=true->av e=true->cg d e=some false->cg e d=some false->d=e
 |.int i,.int j,_,_,h,h'=>by grind[cg]
 |.str x,.str y,_,_,h,h'=>by simp only[cg,W8]at h h';rw[E3 h h']
 |.tuple xs,.tuple ys,h,k,q,q'=>by simp only[av]at h k;simp only[cg]at q q';rw[Bl h k q q']
 |.int _,.str _,_,_,h,_=>by trivial
 |.int _,.tuple _,_,_,h,_=>by trivial
 |.str _,.int _,_,_,h,_=>by trivial
 |.str _,.tuple _,_,_,h,_=>by trivial
 |.tuple _,.int _,_,_,h,_=>by simp[cg]at h
 |.tuple _,.str _,_,_,h,_=>by simp[cg]at h
 |.none,_,h,_,_,_=>by simp[av]at h
 |.bool _,_,h,_,_,_=>by simp[av]at h
 |.list _,_,h,_,_,_=>by simp[av]at h
 |.dict _,_,h,_,_,_=>by simp[av]at h
 |_,.none,_,h,_,_=>by simp[av]at h
 |_,.bool _,_,h,_,_=>by simp[av]at h
 |_,.list _,_,h,_,_=>by simp[av]at h
 |_,.dict _,_,h,_,_=>by simp[av]at h
theorem Bl:∀{xs ys:YD},aB xs=true->aB ys=true->dw xs ys=some false->dw ys xs=some false->xs=ys
 | [],[],_,_,_,_=>rfl
 | [],_::_,_,_,h,_=>by simp[dw]at h
 |_::_,[],_,_,_,h=>by simp[dw]at h
 |x::xs,y::ys,h,k,q,q'=>by
  simp only[aB,UH]at h k;simp only[dw]at q q';by_cases e:x=y
  ·subst e;rw[bc h.1,if_pos rfl]at q q';rw[Bl h.2 k.2 q q']
  ·rw[bq h.1 k.1 e,if_neg (by simp)]at q;rw[bq k.1 h.1 (λz=>e z.symm),if_neg (by simp)]at q';exact absurd (Fb h.1 k.1 q q') e
end
mutual
theorem Fc:∀{d:PyData},av d=true->cg d d=some false
 |.int i,_=>by simp[cg]
 |.str x,_=>by simp[cg,zE]
 |.tuple xs,h=>Bm h
 |.none,h=>by trivial
 |.bool _,h=>by trivial
 |.list _,h=>by trivial
 |.dict _,h=>by trivial
theorem Bm:∀{xs:YD},aB xs=true->dw xs xs=some false
 | [],_=>by rfl
 |x::xs,h=>by simp only[aB,UH]at h;simp only[dw];rw[bc h.1,if_pos rfl];exact Bm h.2
end
mutual
theorem Iq:∀{d e f:PyData},av d=true->av e=true->av f=true->cg d e=some true->cg e f=some true->cg d f=some true
 |.int i,.int j,.int k,_,_,_,h,h'=>by grind[cg]
 |.str x,.str y,.str z,_,_,_,h,h'=>by simp only[cg,W8]at h h' ⊢;exact Dp h h'
 |.tuple xs,.tuple ys,.tuple zs,h,k,l,q,q'=>by simp only[av]at h k l;simp only[cg]at q q' ⊢;exact Fd h k l q q'
 |.none,_,_,h,_,_,_,_=>by simp[av]at h
 |.bool _,_,_,h,_,_,_,_=>by simp[av]at h
 |.list _,_,_,h,_,_,_,_=>by simp[av]at h
 |.dict _,_,_,h,_,_,_,_=>by simp[av]at h
 |.int _,.none,_,_,_,_,h,_=>by simp[cg]at h
 |.int _,.bool _,_,_,_,_,h,_=>by simp[cg]at h
 |.int _,.str _,_,_,_,_,h,_=>by simp[cg]at h
 |.int _,.list _,_,_,_,_,h,_=>by simp[cg]at h
 |.int _,.tuple _,_,_,_,_,h,_=>by simp[cg]at h
 |.int _,.dict _,_,_,_,_,h,_=>by simp[cg]at h
 |.str _,.none,_,_,_,_,h,_=>by simp[cg]at h
 |.str _,.bool _,_,_,_,_,h,_=>by simp[cg]at h
 |.str _,.int _,_,_,_,_,h,_=>by simp[cg]at h
 |.str _,.list _,_,_,_,_,h,_=>by simp[cg]at h
 |.str _,.tuple _,_,_,_,_,h,_=>by simp[cg]at h
 |.str _,.dict _,_,_,_,_,h,_=>by simp[cg]at h
 |.tuple _,.none,_,_,_,_,h,_=>by simp[cg]at h
 |.tuple _,.bool _,_,_,_,_,h,_=>by simp[cg]at h
 |.tuple _,.int _,_,_,_,_,h,_=>by simp[cg]at h
 |.tuple _,.list _,_,_,_,_,h,_=>by simp[cg]at h
 |.tuple _,.str _,_,_,_,_,h,_=>by simp[cg]at h
 |.tuple _,.dict _,_,_,_,_,h,_=>by simp[cg]at h
 |.int _,.int _,.none,_,_,_,_,h=>by simp[cg]at h
 |.int _,.int _,.bool _,_,_,_,_,h=>by simp[cg]at h
 |.int _,.int _,.str _,_,_,_,_,h=>by simp[cg]at h
 |.int _,.int _,.list _,_,_,_,_,h=>by simp[cg]at h
 |.int _,.int _,.tuple _,_,_,_,_,h=>by simp[cg]at h
 |.int _,.int _,.dict _,_,_,_,_,h=>by simp[cg]at h
 |.str _,.str _,.none,_,_,_,_,h=>by simp[cg]at h
 |.str _,.str _,.bool _,_,_,_,_,h=>by simp[cg]at h
 |.str _,.str _,.int _,_,_,_,_,h=>by simp[cg]at h
 |.str _,.str _,.list _,_,_,_,_,h=>by simp[cg]at h
 |.str _,.str _,.tuple _,_,_,_,_,h=>by simp[cg]at h
 |.str _,.str _,.dict _,_,_,_,_,h=>by simp[cg]at h
 |.tuple _,.tuple _,.none,_,_,_,_,h=>by simp[cg]at h
 |.tuple _,.tuple _,.bool _,_,_,_,_,h=>by simp[cg]at h
 |.tuple _,.tuple _,.int _,_,_,_,_,h=>by simp[cg]at h
 |.tuple _,.tuple _,.list _,_,_,_,_,h=>by simp[cg]at h
 |.tuple _,.tuple _,.str _,_,_,_,_,h=>by simp[cg]at h
 |.tuple _,.tuple _,.dict _,_,_,_,_,h=>by simp[cg]at h
theorem Fd:∀{xs ys zs:YD},aB xs=true->aB ys=true->aB zs=true->dw xs ys=some true->dw ys zs=some true->dw xs zs=some true
 | [],[],_,_,_,_,h,_=>by simp[dw]at h
 | [],_::_,[],_,_,_,_,h=>by simp[dw]at h
 | [],_::_,_::_,_,_,_,_,_=>by simp[dw]
 |_::_,[],_,_,_,_,h,_=>by simp[dw]at h
 |_::_,_::_,[],_,_,_,_,h=>by simp[dw]at h
 |x::xs,y::ys,z::zs,h,k,l,q,q'=>by
  simp only[aB,UH]at h k l;simp only[dw]at q q' ⊢;by_cases e1:x=y
  ·subst e1;rw[bc h.1,if_pos rfl]at q;by_cases e2:x=z
   ·subst e2;rw[bc h.1,if_pos rfl]at q' ⊢;exact Fd h.2 k.2 l.2 q q'
   ·rw[bq h.1 l.1 e2,if_neg (by simp)]at q' ⊢;exact q'
  ·rw[bq h.1 k.1 e1,if_neg (by simp)]at q;by_cases e2:y=z
   ·subst e2;rw[bq h.1 k.1 e1,if_neg (by simp)];exact q
   ·rw[bq k.1 l.1 e2,if_neg (by simp)]at q';have q3:=Iq h.1 k.1 l.1 q q';by_cases e3:x=z
    ·subst e3;rw[Fc h.1]at q3;cases q3
    ·rw[bq h.1 l.1 e3,if_neg (by simp)];exact q3
end
def dU(ds:YD):Bool:=ds.all λa=>ds.all λb=>(cg a b).isSome
theorem fG(h:dU ds=true)(ha:a∈ds)(hb:b∈ds):cg a b=some (ltB a b):=by
 have:=UW.mp (UW.mp h a ha) b hb;unfold ltB
 cases q:cg a b with
 |none=>grind
 |some k=>rfl
def fU:PyData->Bool|.tuple _=>true|_=>false
def vL:PyData->Bool|.str _=>true|_=>false
def eO(ds:YD):Bool:=(ds.all vL || ds.all fU)&&aB ds&&dU ds&&decide (PyData.depthAll ds<=20)&&decide (ds.length<64)
def et:Fn:=λxs h=>match xs with
 | [x]=>match listOf x h with
  |some ds=>if eO ds then .ok (.dat (.list (c6 ltB ds))) h else .bad
  |Option.none=>.bad
 |_=>.bad
theorem vM(c:dU ds=true)(t:aB ds=true)(ha:a∈ds)(hb:b∈ds)(h:ltB a b=true):ltB b a=false:=by have h1:=fG c ha hb;rw[h]at h1;unfold ltB;rw[Ip (bf t ha) (bf t hb) h1];rfl
theorem qx(c:dU ds=true)(t:aB ds=true)(ha:a∈ds)(hb:b∈ds)(h:ltB b a=false):ltB a b=true\/a=b:=by
 cases q:ltB a b with
 |true=>grind
 |false=>have h1:=fG c ha hb;have h2:=fG c hb ha;rw[q]at h1;rw[h]at h2;exact .inr (Fb (bf t ha) (bf t hb) h1 h2)
theorem Fe(c:dU ds=true)(t:aB ds=true)(ha:a∈ds)(hb:b∈ds)(hd:d∈ds)(h:ltB b a=false)(h':ltB d b=false):ltB d a=false:=by
 rcases qx c t ha hb h with h1|rfl
 ·rcases qx c t hb hd h' with h2|rfl
  ·have q1:=fG c ha hb;have q2:=fG c hb hd;rw[h1]at q1;rw[h2]at q2;have q3:=Iq (bf t ha) (bf t hb) (bf t hd) q1 q2;exact vM c t ha hd (by simp_all[ltB])
  grind
 grind
theorem sE(lt:PyData->PyData->Bool)(x:PyData):∀ys:YD,(Dx lt x ys).Perm (x::ys)
 | []=>.refl _
 |y::ys=>by
  unfold Dx;split
  ·exact((sE lt x ys).cons y).trans (.swap x y ys)
  rfl
theorem aW(lt:PyData->PyData->Bool):∀xs:YD,(c6 lt xs).Perm xs
 | []=>.refl _
 |x::xs=>(sE lt x _).trans ((aW lt xs).cons x)
def Up(lt:PyData->PyData->Bool)(xs:YD):Prop:=xs.Pairwise λa b=>lt b a=false
structure Ord(lt:PyData->PyData->Bool)(ds:YD):Prop where
 as:∀{a b},a∈ds->b∈ds->lt a b=true->lt b a=false
 ntr:∀{a b d},a∈ds->b∈ds->d∈ds->lt b a=false->lt d b=false->lt d a=false
 tot:∀{a b},a∈ds->b∈ds->lt a b=false->lt b a=false->a=b
theorem Ord.sub(o:Ord lt ds)(h:∀e∈es,e∈ds):Ord lt es:=
 ⟨λa b=>o.as (h _ a) (h _ b),λa b d=>o.ntr (h _ a) (h _ b) (h _ d),λa b=>o.tot (h _ a) (h _ b)⟩
theorem Ff:∀{ys:YD},Ord lt (x::ys)->Up lt ys->Up lt (Dx lt x ys)
 | [],_,_=>by simp[Dx,Up]
 |y::ys,o,u=>by
  unfold Dx;unfold Up at u;rw[Vq]at u;split
  ·rename_i h;refine Vq.mpr ⟨λb hb=>?_,Ff (o.sub λe m=>by grind) u.2⟩;rcases UP.mp ((sE lt x ys).mem_iff.mp hb)with rfl|hb
   ·exact o.as (by simp) (by simp) h
   grind
  ·have h':lt y x=false:=by grind
   refine Vq.mpr ⟨λb hb=>?_,Vq.mpr u⟩;rcases UP.mp hb with rfl|hb
   ·exact h'
   ·exact o.ntr (by simp) (by simp) (by grind) h' (u.1 b hb)
theorem vN:∀{xs:YD},Ord lt xs->Up lt (c6 lt xs)
 | [],_=>by simp[c6,Up]
 |x::xs,o=>Ff (o.sub λe m=>by
     rcases UP.mp m with rfl|m
     ·simp
     ·simp[(aW lt xs).mem_iff.mp m]) (vN (o.sub λe m=>by simp[m]))
theorem sF:∀{xs ys:YD},Ord lt xs->xs.Perm ys->Up lt xs->Up lt ys->xs=ys
 | [],ys,_,p,_,_=>by simp_all
 |x::xs,ys,o,p,u,v=>by
  cases ys with
  |nil=>simp_all
  |cons y ys=>
   have hx:x∈y::ys:=p.mem_iff.mp (by simp);have hy:y∈x::xs:=p.mem_iff.mpr (by simp)
   have e:x=y:=by
    rcases UP.mp hx with e|hx
    ·exact e
    rcases UP.mp hy with e|hy
    ·grind
    exact o.tot (by simp) #[1] ((Vq.mp v).1 x hx) ((Vq.mp u).1 y hy)
   subst e;rw[sF (o.sub λe m=>by simp[m]) (List.perm_cons x |>.mp p) (Vq.mp u).2 (Vq.mp v).2]
theorem jf(c:dU ds=true)(t:aB ds=true):Ord ltB ds where
 as:=λa b=>vM c t a b
 ntr:=λa b d=>Fe c t a b d
 tot:=λ{a b} ha hb h h'=>by
  rcases qx c t ha hb h' with q|q
  ·grind
  grind
theorem Bn(c:dU ds=true)(t:aB ds=true)(p:es.Perm ds)(u:Up ltB es):es=c6 ltB ds:=
 sF ((jf c t).sub λe m=>p.mem_iff.mp m) (p.trans (aW ltB ds).symm) u (vN (jf c t))
end Ml
namespace Ml
open PySem PySem.Spec L2
open Sem (wp)
mutual
theorem aX:∀{d:PyData},aC d=true->av d=true
 |.str _,_=>by rfl
 |.tuple ds,h=>by simp[aC]at h;exact qy h
 |.none,h=>by assumption
 |.bool _,h=>by assumption
 |.int _,h=>by rfl
 |.list _,h=>by assumption
 |.dict _,h=>by assumption
theorem qy:∀{ds:YD},bA ds=true->aB ds=true
 | [],_=>by rfl
 |d::ds,h=>by simp only[bA,UH]at h;simp only[aB,UH];exact⟨aX h.1,qy h.2⟩
end
mutual
noncomputable def tO(w:World):PyData->Int
 |.str x=>hashStr w x
 |.tuple ds=>reduceHash (Builtin.Tuple.tupleHashOf (iJ w ds))
 |_=>0
noncomputable def iJ(w:World):YD->List Int
 | []=>[]
 |d::ds=>tO w d::iJ w ds
end
mutual
noncomputable def ph:PyData->Nat
 |.str _=>1
 |.tuple ds=>qz ds+1
 |_=>0
noncomputable def qz:YD->Nat
 | []=>0
 |d::ds=>ph d+qz ds
end
mutual
theorem kM(k:∀b o vs n,h.get? b=some o->o.cls=.type "tuple" -> o.data=.seq vs n->h'.get? b=some o):∀{d:PyData} {v:Value} {as:YE},aC d=true->Reads h v d as->Reads h' v d as
 |.str _,_,_,_,.str x t=>.str x t
 |.tuple ds,_,_,t,.tuple h1 h2 h3 h4=>.tuple (k _ _ _ _ h1 h2 h3) h2 h3 (qA k t h4)
 |.none,_,_,t,_=>by trivial
 |.bool _,_,_,t,_=>by trivial
 |.int _,_,_,t,_=>by trivial
 |.list _,_,_,t,_=>by trivial
 |.dict _,_,_,t,_=>by trivial
theorem qA{h h':Heap}(k:∀b o vs n,h.get? b=some o->o.cls=.type "tuple" -> o.data=.seq vs n->h'.get? b=some o):∀{ds:YD} {vs:YF} {as:YE},bA ds=true->ReadsAll h vs ds as->ReadsAll h' vs ds as
 | [],_,_,_,.nil=>.nil
 |d::ds,_,_,t,.cons r1 r2=>by simp only[bA,UH]at t;exact .cons (kM k t.1 r1) (qA k t.2 r2)
end
section
variable {P:YN} {w:World}
mutual
theorem pj:∀(d:PyData) (A:YQ) (s:YR) (v:Value) (as:YE) (Q:Int->YR->Prop) (E:Yy),aC d=true->Reads s.heap v d as->A.units+d.depth<cLine->Q (tO w d) {s with toks:=s.toks+ph d}->wpAny (model P w) A (pyHash v) Q E s
 |.str x,A,s,v,as,Q,E,_,r,hu,h=>by cases r;simp only[tO,ph]at h;exact wpAny_pyHash_str h
 |.tuple ds,A,s,v,as,Q,E,t,r,hu,h=>by
  cases r with
  |tuple ho hc hd hi=>
   rename_i a o items n;have hT:s.TypeIs (.ref a) "tuple" := ⟨o,ho,hc⟩;simp only[aC]at t;simp only[PyData.depth]at hu;simp only[tO,ph]at h;unfold pyHash
   first|unfold pyHashByItsType|skip
   first|refine UC (wpAny_cRoomFor_or (.inr #[1]) ?_)|skip
   refine UC (Wa hT Xb.lookup ?_);show wpAny _ _ (if(some (Value.builtin "tuple.__hash__")==some Value.none)=true then _ else _) Q E s;rw[if_neg (by rw[beq_builtin_none];exact U9)];refine UC (Wa hT Xb.lookup ?_);show wpAny _ _ (callSpecialIfBoundUnlessNone? (.ref a) "__hash__" _ >>= _) Q E s;refine UC (wpAny_callSpecialIfBoundUnlessNone?_slot hT Xb (U7 Xb hT F.entry_tuple_hash ?_ (F.args_tuple_hash_1 _)));show wpAny _ _ (Builtin.Tuple.tupleItemsOf (.ref a) >>= _) _ _ s;refine UC (wpAny_tupleItemsOf ho hd ?_);refine UC ?_;rw[<- Wd];refine qB ds A.in1 s items.toList _ #[] _ _ _ t hi (by show A.units+1+_<_;omega) ?_ ?_
   ·intro x b s' R k
    first
     |exact UC (VG k (λc s2 q=>UD q) λ_ _ z=>z)
     |exact UC (VG k (λc s2 q=>UC (UD (UD q))) λ_ _ z=>z)
   ·show wpAny _ _ (retInt (Builtin.Tuple.tupleHashOf (#[]++(iJ w ds).toArray).toList)) _ _ _;have e1:(#[]++(iJ w ds).toArray).toList=iJ w ds:=by simp
    rw[e1];refine wpAny_ret_mkInt ?_;show wpAny _ _ (if(decide (-(2:Int)^63<=Builtin.Tuple.tupleHashOf (iJ w ds))&&decide (Builtin.Tuple.tupleHashOf (iJ w ds)<2^63))=true then _ else _) Q E _;unfold reduceHash at h;by_cases hr:(decide (-(2:Int)^63<=Builtin.Tuple.tupleHashOf (iJ w ds))&&decide (Builtin.Tuple.tupleHashOf (iJ w ds)<2^63))=true
    ·rw[if_pos hr];rw[if_pos hr]at h;exact UD (by simpa [Nat.add_assoc]using h)
    ·rw[if_neg hr];rw[if_neg hr]at h;exact UC (V5 (UD (by simpa [Nat.add_assoc]using h)))
 |.none,_,_,_,_,_,_,t,_,_,_=>by simp[aC]at t
 |.bool _,_,_,_,_,_,_,t,_,_,_=>by simp[aC]at t
 |.int _,_,_,_,_,_,_,t,_,_,_=>by simp[aC]at t
 |.list _,_,_,_,_,_,_,t,_,_,_=>by simp[aC]at t
 |.dict _,_,_,_,_,_,_,t,_,_,_=>by simp[aC]at t
theorem qB:∀(ds:YD) (A:YQ) (s:YR) (vs:YF) (as:YE) (acc:Array Int) (R:Array Int->YR->Prop) (E':Yy) (body:Value->Array Int->Sem (ForInStep (Array Int))),bA ds=true->ReadsAll s.heap vs ds as->A.units+PyData.depthAll ds<cLine ->
  (∀(x:Value) (b:Array Int) (s':YR) (R':ForInStep (Array Int)->YR->Prop),wpAny (model P w) A (pyHash x) (λc s2=>R' (.yield (b.push c)) s2) E' s'->wpAny (model P w) A (body x b) R' E' s') ->
  R (acc++(iJ w ds).toArray) {s with toks:=s.toks+qz ds}->wpAny (model P w) A (forIn vs acc body) R E' s
 | [],A,s,_,_,acc,R,E',body,_,.nil,_,hb,h=>by rw[WW];simp only[iJ,qz]at h;exact UD (by simpa using h)
 |d::ds,A,s,_,_,acc,R,E',body,t,.cons r1 r2,hu,hb,h=>by simp only[bA,UH]at t;simp only[PyData.depthAll]at hu;rw[V3];refine UC (hb _ _ _ _ ?_);refine pj d A s _ _ _ E' t.1 r1 #[1] ?_;refine qB ds A _ _ _ (acc.push (tO w d)) R E' body t.2 r2 #[1] hb ?_;simp only[iJ,qz]at h;simpa [Nat.add_assoc]using h
end
mutual
theorem j0:∀(d:PyData) (n:Nat) (A:YQ) (s:YR) (v:Value) (as:YE) (Q:Bool->YR->Prop) (E:Yy),aC d=true->d.depth<=n->Reads s.heap v d as->Q true s->wpAny (model P w) A (eqIsQuiet n v) Q E s
 |.str x,n,A,s,v,as,Q,E,_,_,r,h=>by cases r;rw[eqIsQuiet_byValue n rfl];exact UD h
 |.tuple ds,n,A,s,v,as,Q,E,t,hn,r,h=>by
  cases r with
  |tuple ho hc hd hi=>
   rename_i a o items k;have hT:s.TypeIs (.ref a) "tuple" := ⟨o,ho,hc⟩;simp only[aC]at t;simp only[PyData.depth]at hn;obtain⟨m,rfl⟩:∃m,n=m+1:=⟨n-1,by omega⟩;unfold eqIsQuiet;refine UC (Wa hT Yh.lookup ?_);show wpAny _ _ (isInstance (.ref a) (.type "tuple") >>= _) _ _ s;refine UC (Wv hT isSubtype_tuple_tuple ?_);simp only[WA,UQ,Vu];refine UC (VM ho hd ?_);refine UC ?_;show wpAny _ _ (forIn items _ _) _ _ s;rw[<- Wd];refine qC ds m A s items.toList _ _ E _ t #[1] hi ?_ ?_
   ·intro x s' R k;refine UC (VG k (λc s2 q=>?_) λ_ _ z=>z);obtain⟨rfl,q⟩:=q;simp only[WA,UQ,Vu];exact UD q
   ·exact UD h
 |.none,_,_,_,_,_,_,_,t,_,_,_=>by simp[aC]at t
 |.bool _,_,_,_,_,_,_,_,t,_,_,_=>by simp[aC]at t
 |.int _,_,_,_,_,_,_,_,t,_,_,_=>by simp[aC]at t
 |.list _,_,_,_,_,_,_,_,t,_,_,_=>by simp[aC]at t
 |.dict _,_,_,_,_,_,_,_,t,_,_,_=>by simp[aC]at t
theorem qC:∀(ds:YD) (n:Nat) (A:YQ) (s:YR) (vs:YF) (as:YE) (R:Option Bool×Unit->YR->Prop) (E:Yy) (body:Value->Option Bool×Unit->Sem (ForInStep (Option Bool×Unit))),bA ds=true->PyData.depthAll ds<=n->ReadsAll s.heap vs ds as ->
  (∀(x:Value) (s':YR) (R':ForInStep (Option Bool×Unit)->YR->Prop),wpAny (model P w) A (eqIsQuiet n x) (λc s2=>c=true/\R' (.yield (none,())) s2) E s'->wpAny (model P w) A (body x (none,())) R' E s') ->
  R (none,()) s->wpAny (model P w) A (forIn vs (none,()) body) R E s
 | [],n,A,s,_,_,R,E,body,_,_,.nil,hb,h=>by rw[WW];exact UD h
 |d::ds,n,A,s,_,_,R,E,body,t,hn,.cons r1 r2,hb,h=>by simp only[bA,UH]at t;simp only[PyData.depthAll]at hn;rw[V3];refine UC (hb _ _ _ (j0 d n A s _ _ _ E t.1 #[1] r1 ⟨rfl,?_⟩));exact qC ds n A s _ _ R E body t.2 #[1] r2 hb h
end
end
def OT(h:Heap)(d:PyData)(a:Addr):Prop:=aC d=true/\d.depth<=8/\fj d=true/\∃as,Reads h (.ref a) d as
noncomputable instance TY:DecidableEq PyData:=λa b=>Classical.propDecidable (a=b)
noncomputable def fk(P:YN)(w:World):HeapKind P w PyData where
 is:=OT
 hash:=tO w
 draws:=ph
 room:=λA=>A.units+20<cLine
 inj:=λ{h a x y} ⟨_,_,_,as,hx⟩ ⟨_,_,_,bs,hy⟩=>(Yl hx _ _ hy).1
 keeps:=λ{h h' k a d o es ep} ⟨t,dp,so,as,r⟩ ho hd hs=>⟨t,dp,so,as,kM (λb ob vs n e c dd=>by
  have ne:b≠d:=λz=>by subst z;rw[ho]at e;cases e;rw[hd]at dd;cases dd
  exact(hs.2 b ne).trans e) t r⟩
 pyHash:=λ{A E s k a Q} hu ⟨t,dp,_,as,r⟩ h=>pj k A s _ as Q E t r #[1] h
 eqBool:=λ{A E s x y a b Q} hu ⟨t1,d1,s1,as,r1⟩ ⟨t2,d2,s2,bs,r2⟩ h=>by
  have hq:PyData.eqv x y=decide (x=y):=by
   by_cases e:x=y
   ·subst e;rw[WX rfl];exact bc (aX t1)
   ·rw[VR e];exact bq (aX t1) (aX t2) e
  have:=X5 x y A s _ _ _ _ r1 r2 (kn s1 (cu (aX t1))) (kn s2 (cu (aX t2))) #[1] P w E Q;rw[hq]at this;exact this h
 quiet:=λ{A E s k a Q} ⟨t,dp,_,as,r⟩ h=>j0 k 8 A s _ as Q E t dp r h
def dO(P:YN)(w:World)(xs:List (PyData×Addr×Value))(a:Addr):HO:=.ext λh=>xs.length<=sizeLine/\(a==sysModules)=false/\∃o es ep,h.get? a=some o/\o.ExactDict/\o.data=.dict es ep/\es.toList=xs.map (entryOfKey (fk P w))/\(xs.map (·.1)).Nodup
theorem Ir(h1:xs.length<=sizeLine)(h2:(a==sysModules)=false)(h3:h.get? a=some o)(h4:o.ExactDict)(h5:o.data=.dict es ep)(h6:es.toList=xs.map (entryOfKey (fk P w)))(h7:(xs.map (·.1)).Nodup):cL P w H h a (dO P w xs a):=
 ⟨⟨h1,h2,o,es,ep,h3,h4,h5,h6,h7⟩,⟨o,h3⟩,by rintro g1 g2 ⟨k1,k2,o',es',ep',k3,k4⟩ hk;exact⟨k1,k2,o',es',ep',hk _ k3,k4⟩⟩
end Ml
namespace Ml
open PySem PySem.Spec L2
def view(θ:YE)(H:Hp):Hp:=λa=>if a∈θ then none else H a
theorem c8(h:view θ H a=some o):a∉θ/\H a=some o:=by
 simp_all[view]
theorem eA(h:a∉θ):view θ H a=H a:=if_neg h
theorem ax(θ:YE)(H:Hp):bT (view θ H) H:=λa o h=>(c8 h).2
def pq(M:Hp)(p:PyData×PyData)(q:PyData×Addr×Value):Prop:=p.1=q.1/\aC p.1=true/\p.1.depth<=8/\fj p.1=true/\Rep M p.1 (.ref q.2.1)/\∃v,RelV v q.2.2/\Rep M p.2 v/\fj p.2=true
def fM(P:YN)(w:World)(M G:Hp)(a:Addr)(t:Bool)(kvs:YA):Prop:=
 (t=false/\∃ks,G a=some (.dK ks)/\bI ks=some kvs/\∀p∈kvs,fj p.1=true/\fj p.2=true)\/(t=true/\∃xs,G a=some (dO P w xs a)/\Paired (pq M) kvs xs)
structure Gx where
 P:YN
 w:World
 mg:Str->Option Value
 K:YG
def OU:PyData->V
 |.int i=>.int i
 |.str x=>.str x
 |.bool b=>.bl b
 |_=>.non
noncomputable def GJ(K:YG)(a:Addr)(xs:YD):Prop:=(∃(o:Obj) (its:YL) (n:Nat),K.lookup a=some o/\o.cls=.type "tuple" /\ o.data=.seq its n/\its.size<=sizeLine/\Vals (xs.map OU) its.toList)/\(∀x∈xs,(match x with|.int _|.str _|.bool _|.none=>true|_=>false)=true)/\cF xs=true
def Q8(G:Gx)(x:Xc)(cls:Value)(da:Option Addr)(M:Hp):Prop:=G.mg x.cls=some cls/\da=none/\x.args=[]
noncomputable def b9(G:Gx)(θ:YE)(H:Hp):D->V->Prop
 |.dat d,v=>Rep (view θ H) d v/\fj d=true
 |.ref i,v=>∃a,θ[i]?=some a/\v=.ref a
 |.ia t kvs,v=>∃a,v=.ref a/\fM G.P G.w (view θ H) (view θ H) a t kvs
 |.set _,_=>False
 |.fn n,v=>∃f,G.mg n=some (.ref f)/\v=.ref f
 |.scr ns,v=>∃a,v=.ref a/\ji G.K (view θ H) a (ns.map V.int)
 |.ktup xs,v=>∃a,v=.ref a/\GJ G.K a xs
 |.rpr x,v=>v=.str x
 |.exc x,v=>∃a cls,v=.ref a/\view θ H a=some (.ext (LF a cls))/\Q8 G x cls none (view θ H)
abbrev aO(G:Gx)(θ:YE)(H:Hp):List D->List V->Prop:=Paired (b9 G θ H)
def TabAt(θ:YE)(H:Hp)(P:Addr)(q:Str):Prop:=∃ps:YL,H P=some (.tbl ps)/\TriplesOk ps.toList/\∀(pos:Pos) (c:Value),codeAmong pos ps.toList=some c->∃b,c=.ref b/\b≠P/\view θ H b=some (.ext (recAt b q))
theorem TabAt.same(s:bT (view θ H) (view θ' H'))(e:∀o,H P=some o->H' P=some o)(x:TabAt θ H P q):TabAt θ' H' P q:=by obtain⟨ps,h1,h2,h3⟩:=x;exact⟨ps,e _ h1,h2,λpos c k=>by obtain⟨b,k1,k2,k3⟩:=h3 pos c k;exact⟨b,k1,k2,s _ _ k3⟩⟩
def Dy(G:Gx)(θ:YE)(H:Hp)(a:Addr):MO->Prop
 |.lst xs=>∃vs,H a=some (.lst vs)/\aO G θ H xs vs
 |.ia t kvs=>fM G.P G.w (view θ H) H a t kvs
 |.ins _ _=>False
 |.tab P q=>a=P/\TabAt θ H P q
structure W(G:Gx)(θ:YE)(h:Hm)(H:Hp):Prop where
 len:θ.length=h.length
 nd:θ.Nodup
 obj:∀(i:Nat) (a:Addr) (o:MO),θ[i]?=some a->h[i]?=some o->Dy G θ H a o
def Fr(G:Gx)(θ:YE)(H:Hp)(ρ:Fm)(σ:St):Prop:=ρ.length=σ.length/\∀(i:Nat) (d:D),ρ[i]?=some (some d)->∃v,σ[i]?=some (some v)/\b9 G θ H d v
structure Ev(θ:YE)(H:Hp)(θ':YE)(H':Hp):Prop where
 pre:∃ext,θ'=θ++ext
 same:bT (view θ H) (view θ' H')
section
variable {G:Gx} {θ θ' θ'':YE} {H H' H'':Hp} {h h':Hm} {d:D} {v:V} {ρ:Fm} {σ:St}
theorem Ev.refl:Ev θ H θ H:=⟨⟨[],by simp⟩,bT.refl _⟩
theorem Ev.trans(a:Ev θ H θ' H')(b:Ev θ' H' θ'' H''):Ev θ H θ'' H'':=by obtain⟨e1,rfl⟩:=a.pre;obtain⟨e2,rfl⟩:=b.pre;exact⟨⟨e1++e2,by simp⟩,a.same.trans b.same⟩
theorem Ev.get(a:Ev θ H θ' H'){i:Nat}{x:Addr}(e:θ[i]?=some x):θ'[i]?=some x:=by obtain⟨ext,rfl⟩:=a.pre;rw[Vc (by have:=UN.mp e;exact this.1)];exact e
theorem pq.same(s:bT M M')(h:pq M p q):pq M' p q:=by obtain⟨h1,h2,h3,h4,h5,v,h6,h7,h8⟩:=h;exact⟨h1,h2,h3,h4,h5.same s,v,h6,h7.same s,h8⟩
theorem fM.same{M M' G G':Hp}(s:bT M M')(h:fM P w M G a t kvs)(e:∀o,G a=some o->G' a=some o):fM P w M' G' a t kvs:=by
 rcases h with⟨ht,ks,h1,h2⟩|⟨ht,xs,h1,h2⟩
 ·exact .inl ⟨ht,ks,e _ h1,h2⟩
 ·exact .inr ⟨ht,xs,e _ h1,Paired.lB h2 λ_ _=>pq.same s⟩
theorem fM.some{M G:Hp}(h:fM P w M G a t kvs):G a≠none:=by
 rcases h with⟨_,ks,h1,_⟩|⟨_,xs,h1,_⟩
 ·grind
 grind
theorem b9.ev(e:Ev θ H θ' H')(r:b9 G θ H d v):b9 G θ' H' d v:=by
 cases d with
 |dat d=>exact⟨r.1.same e.same,r.2⟩
 |ref i=>obtain⟨a,h1,h2⟩:=r;exact⟨a,e.get h1,h2⟩
 |ia t kvs=>obtain⟨a,h1,h2⟩:=r;exact⟨a,h1,h2.same e.same λo=>e.same a o⟩
 |set xs=>exact r
 |fn n=>exact r
 |scr ns=>obtain⟨a,h1,h2⟩:=r;exact⟨a,h1,e.same.seq h2⟩
 |ktup xs=>exact r
 |rpr x=>exact r
 |exc x=>obtain⟨a,c,h1,h2,h3⟩:=r;exact⟨a,c,h1,e.same _ _ h2,h3⟩
theorem aO.ev(e:Ev θ H θ' H')(r:aO G θ H ds vs):aO G θ' H' ds vs:=Paired.lB r λ_ _=>b9.ev e
theorem Fr.ev(e:Ev θ H θ' H')(r:Fr G θ H ρ σ):Fr G θ' H' ρ σ:=⟨r.1,λi d q=>by obtain⟨v,h1,h2⟩:=r.2 i d q;exact⟨v,h1,h2.ev e⟩⟩
theorem Fr.set(r:Fr G θ H ρ σ)(q:b9 G θ H d v):Fr G θ H (ρ.set i (some d)) (σ.set i (some v)):=by
 refine⟨by simp[r.1],λj e he=>?_⟩;by_cases hj:i=j
 ·subst hj;by_cases hl:i<ρ.length
  ·rw[Wr hl]at he;cases he;exact⟨v,by rw[Wr (by rw[<- r.1];exact hl)],q⟩
  simp_all
 ·rw[Xh hj]at he ⊢;exact r.2 j e he
theorem Fr.replicate(n:Nat)(r:Fr G θ H ρ σ):Fr G θ H (List.replicate n none++ρ) (List.replicate n none++σ):=by
 refine⟨by simp[r.1],λi d e=>?_⟩;by_cases hi:i<n
 ·rw[Vc (by simp_all),WT]at e
  grind
 ·rw[Vl (by simp;omega)]at e ⊢;simp at e ⊢;exact r.2 _ d e
theorem Iu(hp:H p=none)(hn:p∉θ):Ev θ H θ (upd H p o):=⟨⟨[],by simp⟩,λa u q=>by
 obtain⟨h1,h2⟩:=c8 q;rw[eA h1,aM (aV h2 hp)]
 exact h2⟩
theorem Dy.some(o:MO)(r:Dy G θ H a o):H a≠none:=by
 cases o with
 |lst xs=>obtain⟨vs,e,_⟩:=r;grind
 |ia t kvs=>exact fM.some r
 |ins=>trivial
 |tab P q=>obtain⟨rfl,ps,e,_⟩:=r;grind
theorem W.Iv(w:W G θ h H)(hp:H p=none):p∉θ:=λm=>by
 obtain⟨i,hi,e⟩:=V6.mp m;have hl:i<h.length:=by rw[<- w.len];exact hi
 exact Dy.some _ (w.obj i p h[i] (by simp_all) (UK hl)) hp
theorem W.put(w:W G θ h H)(hp:H p=none):Ev θ H θ (upd H p o)/\W G θ h (upd H p o)/\view θ (upd H p o) p=some o:=by
 have hn:=w.Iv hp;have e:=Iu (o:=o) hp hn;refine⟨e,⟨w.len,w.nd,λi a m h1 h2=>?_⟩,by rw[eA hn,bg]⟩;have r:=w.obj i a m h1 h2;have ha:a≠p:=λz=>by subst z;exact hn (U6 h1)
 cases m with
 |lst xs=>obtain⟨vs,q1,q2⟩:=r;exact⟨vs,by rw[aM ha];exact q1,q2.ev e⟩
 |ia t kvs=>exact fM.same e.same r λo q=>by rw[aM ha];exact q
 |ins=>trivial
 |tab P q=>obtain⟨rfl,x⟩:=r;exact⟨rfl,x.same e.same λo q=>by rw[aM ha];exact q⟩
theorem W.grow(w:W G θ h H)(s:bT H H'):Ev θ H θ H'/\W G θ h H':=by
 have e:Ev θ H θ H':=⟨⟨[],by simp⟩,λa u q=>by
  obtain⟨h1,h2⟩:=c8 q;rw[eA h1]
  exact s _ _ h2⟩
 refine⟨e,⟨w.len,w.nd,λi a m h1 h2=>?_⟩⟩;have r:=w.obj i a m h1 h2
 cases m with
 |lst xs=>obtain⟨vs,q1,q2⟩:=r;exact⟨vs,s _ _ q1,q2.ev e⟩
 |ia t kvs=>exact fM.same e.same r λo q=>s _ _ q
 |ins=>trivial
 |tab P q=>obtain⟨rfl,x⟩:=r;exact⟨rfl,x.same e.same λo q=>s _ _ q⟩
theorem W.alloc(w:W G θ h H)(hp:H p=none)(ho:Dy G (θ++[p]) (upd H p o) p m):Ev θ H (θ++[p]) (upd H p o)/\W G (θ++[p]) (h++[m]) (upd H p o):=by
 have hn:=w.Iv hp
 have e:Ev θ H (θ++[p]) (upd H p o):=⟨⟨[p],rfl⟩,λa u q=>by
  obtain⟨h1,h2⟩:=c8 q;have ne:=aV h2 hp;rw[eA (by grind),aM ne]
  exact h2⟩
 refine⟨e,⟨by simp[w.len],?_,λi a m' h1 h2=>?_⟩⟩
 ·rw[Wl];exact⟨w.nd,by simp,λx hx y hy z=>by grind⟩
 ·by_cases hi:i<θ.length
  ·rw[Vc hi]at h1;rw[Vc (by rw[<- w.len];exact hi)]at h2;have r:=w.obj i a m' h1 h2;have ha:a≠p:=λz=>by subst z;exact hn (U6 h1)
   cases m' with
   |lst xs=>obtain⟨vs,q1,q2⟩:=r;exact⟨vs,by rw[aM ha];exact q1,q2.ev e⟩
   |ia t kvs=>exact fM.same e.same r λo q=>by rw[aM ha];exact q
   |ins=>exact r.elim
   |tab P q=>obtain⟨rfl,x⟩:=r;exact⟨rfl,x.same e.same λo q=>by rw[aM ha];exact q⟩
  ·rw[Vl #[1]]at h1;rw[Vl (by rw[<- w.len];omega),<- w.len]at h2
   cases hk:i-θ.length with
   |zero=>rw[hk]at h1 h2;simp at h1 h2;subst h1;subst h2;exact ho
   |succ k=>rw[hk]at h1;simp at h1
theorem W.write(w:W G θ h H)(hi:θ[i]?=some p)(hl:i<h.length)(ho:Dy G θ (upd H p o) p m):Ev θ H θ (upd H p o)/\W G θ (h.set i m) (upd H p o):=by
 have hm:p∈θ:=U6 hi
 have e:Ev θ H θ (upd H p o):=⟨⟨[],by simp⟩,λa u q=>by
  obtain⟨h1,h2⟩:=c8 q;have ne:a≠p:=λz=>by grind
  simp_all[eA,h1,aM,ne]⟩
 refine⟨e,⟨by simp[w.len],w.nd,λj a m' h1 h2=>?_⟩⟩;by_cases hj:i=j
 ·simp_all
 ·rw[Xh hj]at h2
  have ha:a≠p:=λz=>by
   subst z;obtain⟨l1,e1⟩:=UN.mp hi;obtain⟨l2,e2⟩:=UN.mp h1;have pw:=WG.mp w.nd;rcases Nat.lt_or_gt_of_ne hj with z|z
   ·exact pw i j l1 l2 z (e1.trans e2.symm)
   ·exact pw j i l2 l1 z (e2.trans e1.symm)
  have r:=w.obj j a m' h1 h2
  cases m' with
  |lst xs=>obtain⟨vs,q1,q2⟩:=r;exact⟨vs,by rw[aM ha];exact q1,q2.ev e⟩
  |ia t kvs=>exact fM.same e.same r λo q=>by rw[aM ha];exact q
  |ins=>exact r.elim
  |tab P q=>obtain⟨rfl,x⟩:=r;exact⟨rfl,x.same e.same λo q=>by rw[aM ha];exact q⟩
end
abbrev XP:=Xc->YE->Hm->Hp->Prop
def aA{α:Type}(G:Gx)(E:XP)(θ:YE)(H:Hp):R α->(α->YE->Hm->Hp->Prop)->Prop
 |.ok a h',K=>∀θ' H',Ev θ H θ' H'->W G θ' h' H'->K a θ' h' H'
 |.exc x h',_=>∀θ' H',Ev θ H θ' H'->W G θ' h' H'->E x θ' h' H'
 |.bad,_=>False
section
variable {α β:Type} {G:Gx} {E E':XP} {θ θ':YE} {H H':Hp} {h:Hm} {r:R α} {f:α->Hm->R β} {K K':α->YE->Hm->Hp->Prop}
theorem aA.mono(p:aA G E θ H r K)(k:∀a θ' h' H',Ev θ H θ' H'->W G θ' h' H'->K a θ' h' H'->K' a θ' h' H'):aA G E θ H r K':=by
 cases r with
 |ok a h'=>exact λθ' H' e w=>k _ _ _ _ e w (p θ' H' e w)
 |exc x h'=>exact p
 |bad=>exact p
theorem aA.later(p:aA G E θ H r K)(e:Ev θ H θ' H'):aA G E θ' H' r K:=by
 cases r with
 |ok a h'=>exact λθ2 H2 e2 w=>p θ2 H2 (e.trans e2) w
 |exc x h'=>exact λθ2 H2 e2 w=>p θ2 H2 (e.trans e2) w
 |bad=>exact p
theorem aA.bind(p:aA G E θ H (r.bind f) L):aA G E θ H r λa θ1 h1 H1=>Ev θ H θ1 H1/\W G θ1 h1 H1/\aA G E θ1 H1 (f a h1) L:=by
 cases r with
 |ok a h'=>exact λθ1 H1 e w=>⟨e,w,aA.later p e⟩
 |exc x h'=>exact p
 |bad=>exact p
end
def qi(G:Gx)(E:XK):XP:=λx θ _ H=>∀cls da,Q8 G x cls da (view θ H)->E cls da H
def KV(G:Gx)(Q:VK):D->YE->Hm->Hp->Prop:=λd θ _ H=>∀v,b9 G θ H d v->Q v H
def Uw(G:Gx)(Q:List V->Hp->Prop):List D->YE->Hm->Hp->Prop:=λds θ _ H=>∀vs,aO G θ H ds vs->Q vs H
def KS(G:Gx)(C:Ends):Fl->YE->Hm->Hp->Prop:=λf θ _ H=>match f with
 |.nx ρ=>∀σ,Fr G θ H ρ σ->C.nx σ H
 |.rt d=>∀v,b9 G θ H d v->C.rt v H
 |.bk ρ=>∀σ,Fr G θ H ρ σ->C.bk σ H
 |.ct ρ=>∀σ,Fr G θ H ρ σ->C.ct σ H
def lE(G:Gx)(E:XK)(m:ME):TE:=λσ H Q=>∃θ h ρ,W G θ h H/\Fr G θ H ρ σ/\aA G (qi G E) θ H (m ρ h) (KV G Q)
def lT(G:Gx)(E:XK)(m:MT):TT:=λσ H Q=>∃θ h ρ,W G θ h H/\Fr G θ H ρ σ/\aA G (qi G E) θ H (m ρ h) (λb _ _ H'=>Q b H')
def lA(G:Gx)(E:XK)(m:MA):TA:=λσ H Q=>∃θ h ρ,W G θ h H/\Fr G θ H ρ σ/\aA G (qi G E) θ H (m ρ h) (Uw G Q)
def lS(G:Gx)(E:XK)(m:MS):TS:=λC σ H=>∃θ h ρ,W G θ h H/\Fr G θ H ρ σ/\aA G (qi G E) θ H (m ρ h) (KS G C)
def lG(G:Gx)(E:XK)(g:MG):TG:=λv σ H Q=>∃θ h ρ d,W G θ h H/\Fr G θ H ρ σ/\b9 G θ H d v/\aA G (qi G E) θ H (g d ρ h) (λρ' θ' _ H'=>∀σ',Fr G θ' H' ρ' σ'->Q σ' H')
abbrev _root_.L2.Cx.G(X:Cx):Gx:=⟨X.prog,X.w,X.mg,X.K⟩
@[irreducible] noncomputable def DE(X:Cx)(E:XK)(m:ME)(e:Expr):Prop:=PE X e (lE X.G E m)
theorem bj(X:Cx)(E:XK)(m:ME)(e:Expr):DE X E m e=(PE X e (lE X.G E m)):=by
 grind[DE]
@[irreducible] noncomputable def DT(X:Cx)(E:XK)(m:MT)(e:Expr):Prop:=PT X e (lT X.G E m)
theorem kN(X:Cx)(E:XK)(m:MT)(e:Expr):DT X E m e=(PT X e (lT X.G E m)):=by
 grind[DT]
@[irreducible] noncomputable def DA(X:Cx)(E:XK)(m:MA)(es:YI):Prop:=PA X es (lA X.G E m)
theorem iV(X:Cx)(E:XK)(m:MA)(es:YI):DA X E m es=(PA X es (lA X.G E m)):=by
 grind[DA]
@[irreducible] noncomputable def DS(X:Cx)(E:XK)(m:MS)(s:Stmt):Prop:=PS X s (lS X.G E m)
theorem iW(X:Cx)(E:XK)(m:MS)(s:Stmt):DS X E m s=(PS X s (lS X.G E m)):=by
 grind[DS]
@[irreducible] noncomputable def GK(X:Cx)(E:XK)(m:MS)(s:List Stmt):Prop:=A3 X s (lS X.G E m)
theorem pv(X:Cx)(E:XK)(m:MS)(s:List Stmt):GK X E m s=(A3 X s (lS X.G E m)):=by
 grind[GK]
@[irreducible] noncomputable def DG(X:Cx)(E:XK)(m:MG)(e:Expr):Prop:=PG X e (lG X.G E m)
theorem mG(X:Cx)(E:XK)(m:MG)(e:Expr):DG X E m e=(PG X e (lG X.G E m)):=by
 grind[DG]
theorem PE.imp(h:PE X e t)(k:∀σ H Q,t' σ H Q->t σ H Q):PE X e t':=λpins s σ H Q I q=>h pins s σ H Q I (k _ _ _ q)
theorem PT.imp(h:PT X e t)(k:∀σ H Q,t' σ H Q->t σ H Q):PT X e t':=λpins s σ H Q I q=>h pins s σ H Q I (k _ _ _ q)
theorem PA.imp(h:PA X e t)(k:∀σ H Q,t' σ H Q->t σ H Q):PA X e t':=λpos pins s σ H Q I q=>h pos pins s σ H Q I (k _ _ _ q)
theorem PS.imp(h:PS X e t)(k:∀C σ H,t' C σ H->t C σ H):PS X e t':=λpins s σ H C I q=>h pins s σ H C I (k _ _ _ q)
theorem A3.imp(h:A3 X e t)(k:∀C σ H,t' C σ H->t C σ H):A3 X e t':=λpins s σ H C I q=>h pins s σ H C I (k _ _ _ q)
def OV(G:Gx)(E:XK)(f:D->D->Hm->R D):R2:=λx y H Q=>∃θ h d1 d2,W G θ h H/\b9 G θ H d1 x/\b9 G θ H d2 y/\aA G (qi G E) θ H (f d1 d2 h) (KV G Q)
def TZ(G:Gx)(E:XK)(f:Fn):List V->Hp->VK->Prop:=λxs H Q=>∃θ h ds,W G θ h H/\aO G θ H ds xs/\aA G (qi G E) θ H (f ds h) (KV G Q)
def pA(X:Cx)(E:XK)(op:Value->Value->Sem Value)(f:D->D->Hm->R D):Prop:=jL X op (OV X.G E f)
def qE(X:Cx)(E:XK)(v:Value)(f:Fn):Prop:=dy X v (TZ X.G E f)
theorem jL.imp(h:jL X op r)(k:∀x y H Q,r' x y H Q->r x y H Q):jL X op r':=λpins s σ H x y v u Q I rx ry q=>h pins s σ H x y v u Q I rx ry (k _ _ _ _ q)
theorem dy.imp(h:dy X f r)(k:∀xs H Q,r' xs H Q->r xs H Q):dy X f r':=λpins s σ H xs us Q I r q=>h pins s σ H xs us Q I r (k _ _ _ q)
theorem pA.of(h:jL X op r)
 (k:∀θ hm H d1 d2 x y Q,W X.G θ hm H->b9 X.G θ H d1 x->b9 X.G θ H d2 y->aA X.G (qi X.G E) θ H (f d1 d2 hm) (KV X.G Q)->r x y H Q):pA X E op f:=
 jL.imp h (by rintro x y H Q ⟨θ,hm,d1,d2,w,r1,r2,p⟩;exact k θ hm H d1 d2 x y Q w r1 r2 p)
theorem qE.of(h:dy X v r)
 (k:∀θ hm H ds xs Q,W X.G θ hm H->aO X.G θ H ds xs->aA X.G (qi X.G E) θ H (f ds hm) (KV X.G Q)->r xs H Q):qE X E v f:=
 dy.imp h (by rintro xs H Q ⟨θ,hm,ds,w,r1,p⟩;exact k θ hm H ds xs Q w r1 p)
section
variable {X:Cx} {E:XK} {m a b c:ME} {t u:MT} {e e1 e2 e3:Expr} {es:YI} {ma:MA} {pos:Pos} {i:Nat} {x:Str}
theorem OW(hN:X.N[i]?=some x)(hv:Hr X.env.scope x)(hd:(x==("__debug__" : Str))=false:=by decide)(hcd:(x==("__classdict__" : Str))=false:=by decide):DE X E (ab i) (.Name x pos):=by
 simp only[bj]at *
 exact PE.imp (NM hN hv hd hcd) (by
   rintro σ H Q ⟨θ,h,ρ,w,fr,p⟩;unfold ab at p
   cases e:ρ[i]? with
   |none=>rw[e]at p;exact p.elim
   |some o=>
    cases o with
    |none=>rw[e]at p;exact p.elim
    |some d=>
     rw[e]at p;obtain⟨v,h1,h2⟩:=fr.2 i d e
     exact⟨v,h1,p θ H Ev.refl w v h2⟩)
theorem Iw(h:PE X e (tC v))(r:∀G,Rep G d v)(s:fj d=true):DE X E (aj d) e:=by simp[bj]at *;exact PE.imp h (by rintro σ H Q ⟨θ,hm,ρ,w,fr,p⟩;exact p θ H Ev.refl w v ⟨r _,s⟩)
theorem aD:DE X E (aj (.int k)) (.Constant (.int k) j pos):=Iw Hs (λ_=>rfl) (by rfl)
theorem bJ:DE X E (aj (.bool k)) (.Constant (.bool k) j pos):=Iw Ht (λ_=>rfl) (by rfl)
theorem qF:DE X E (aj .none) (.Constant .none j pos):=Iw Hu (λ_=>rfl) (by rfl)
theorem Iy(h:PyData.strOk k=true:=by decide +kernel):DE X E (aj (.str k)) (.Constant (.str k) j pos):=Iw Hv (λ_=>rfl) (by trivial)
theorem zJ(h:lE G E (ao f a b) σ H Q):QB (OV G E f) (lE G E a) (lE G E b) σ H Q:=by obtain⟨θ,h,ρ,w,fr,p⟩:=h;refine⟨θ,h,ρ,w,fr,(aA.bind p).mono λx θ1 h1 H1 _ _ ⟨e1,w1,p1⟩ v r1=>?_⟩;exact⟨θ1,h1,ρ,w1,fr.ev e1,(aA.bind p1).mono (by rintro y θ2 h2 H2 _ _ ⟨e2,w2,p2⟩ u r2;exact⟨θ2,h2,x,y,w2,r1.ev e2,r2,p2⟩)⟩
theorem Fg(h:lE G E (af f ma) σ H Q):SN (TZ G E f) (lA G E ma) σ H Q:=by obtain⟨θ,h,ρ,w,fr,p⟩:=h;exact⟨θ,h,ρ,w,fr,(aA.bind p).mono (by rintro xs θ1 h1 H1 _ _ ⟨e1,w1,p1⟩ vs r1;exact⟨θ1,h1,xs,w1,r1,p1⟩)⟩
theorem bB(h:pA X E (binaryOp op) f)(ha:DE X E a e1)(hb:DE X E b e2):DE X E (ao f a b) (.BinOp e1 op e2 pos):=by simp[bj]at *;exact PE.imp (M5 h ha hb) λ_ _ _=>zJ
theorem dW(h:pA X E (compareOp op) f)(ha:DE X E a e1)(hb:DE X E b e2)(hm:behindInMarks op e2=false):DE X E (ao f a b) (.Compare e1 [op] [e2] pos):=by simp[bj]at *;exact PE.imp (KZ h ha hb hm) λ_ _ _=>zJ
theorem c9(h:Qi X (OV X.G E f))(ha:DE X E a e1)(hb:DE X E b e2)(hs:ET e2):DE X E (ao f a b) (.Subscript e1 e2 pos):=by simp[bj]at *;exact PE.imp (QR h ha hb hs) λ_ _ _=>zJ
theorem zK(h:lT G E (aI m) σ H Q):lE G E m σ H λx H'=>∃k,x=.bl k/\Q k H':=by
 obtain⟨θ,h,ρ,w,fr,p⟩:=h;refine⟨θ,h,ρ,w,fr,(aA.bind p).mono λx θ1 h1 H1 _ _ ⟨e1,w1,p1⟩ v r1=>?_⟩
 cases x with
 |dat d=>
  cases d with
  |bool k=>exact⟨k,r1.1,p1 θ1 H1 Ev.refl w1⟩
  |_=>trivial
 |_=>trivial
theorem br(h:pA X E (compareOp op) f)(ha:DE X E a e1)(hb:DE X E b e2)(hm:behindInMarks op e2=false):DT X E (aI (ao f a b)) (.Compare e1 [op] [e2] pos):=by simp[bj,kN]at *;exact PT.imp (K0 h ha hb hm) λ_ _ _ q=>zJ (zK q)
@[irreducible] noncomputable def DW(X:Cx)(E:XK)(t:MT)(e:Expr):Prop:=PW X e (lT X.G E t)
theorem Bo(X:Cx)(E:XK)(t:MT)(e:Expr):DW X E t e=(PW X e (lT X.G E t)):=by
 grind[DW]
theorem DW.dt(h:DW X E t e):DT X E t e:=by simp[kN,Bo]at *;exact PW.pt h
theorem PW.imp{t t':TT}(h:PW X e t)(k:∀σ H Q,t' σ H Q->t σ H Q):PW X e t':=λwh pins s σ H Q I q=>h wh pins s σ H Q I (k _ _ _ q)
theorem uY(ha:DT X E t e):DW X E t (.BoolOp .And [e] pos):=by simp[kN,Bo]at *;exact KN ha
theorem mZ(ha:DT X E t e):DW X E t (.BoolOp .Or [e] pos):=by simp[kN,Bo]at *;exact NO ha
theorem zL(ha:DT X E t e1)(hb:DW X E u (.BoolOp .And (e2::es) pos)):DW X E (vm t u) (.BoolOp .And (e1::e2::es) pos):=by
 simp[kN,Bo]at *
 exact PW.imp (NP ha hb) (by rintro σ H Q ⟨θ,h,ρ,w,fr,p⟩;exact⟨θ,h,ρ,w,fr,(aA.bind p).mono (by
   rintro c θ1 h1 H1 _ _ ⟨ev,w1,p1⟩
   cases c with
   |true=>exact⟨θ1,h1,ρ,w1,fr.ev ev,p1⟩
   |false=>exact p1 θ1 H1 Ev.refl w1)⟩)
theorem qG(ha:DT X E t e1)(hb:DW X E u (.BoolOp .Or (e2::es) pos)):DW X E (xE t u) (.BoolOp .Or (e1::e2::es) pos):=by
 simp[kN,Bo]at *
 exact PW.imp (Qt ha hb) (by rintro σ H Q ⟨θ,h,ρ,w,fr,p⟩;exact⟨θ,h,ρ,w,fr,(aA.bind p).mono (by
   rintro c θ1 h1 H1 _ _ ⟨ev,w1,p1⟩
   cases c with
   |true=>exact p1 θ1 H1 Ev.refl w1
   |false=>exact⟨θ1,h1,ρ,w1,fr.ev ev,p1⟩)⟩)
theorem dX(ha:DT X E t e):DT X E (eI t) (.UnaryOp .Not e pos):=by simp[kN]at *;exact PT.imp (NQ ha) (by rintro σ H Q ⟨θ,h,ρ,w,fr,p⟩;exact⟨θ,h,ρ,w,fr,(aA.bind p).mono (by rintro c θ1 h1 H1 _ _ ⟨ev,w1,p1⟩;exact p1 θ1 H1 Ev.refl w1)⟩)
theorem m6(h:DE X E m e):DE X E m (.BoolOp op [e] pos):=by simp[bj]at *;exact NR h
theorem OX(ha:DE X E a e):DE X E (LL a) (.UnaryOp .Not e pos):=by simp[bj]at *;exact PE.imp (NS ha) (by rintro σ H Q ⟨θ,h,ρ,w,fr,p⟩;exact zK ⟨θ,h,ρ,w,fr,(aA.bind p).mono (by rintro c θ1 h1 H1 _ _ ⟨ev,w1,p1⟩;exact p1 θ1 H1 Ev.refl w1 _ ⟨rfl,by rfl⟩)⟩)
theorem Bp(hc:DT X E t e1)(ha:DE X E a e2)(hb:DE X E b e3):DE X E (Dq t a b) (.IfExp e1 e2 e3 pos):=by
 simp[bj,kN]at *
 exact PE.imp (Hw hc ha hb) (by rintro σ H Q ⟨θ,h,ρ,w,fr,p⟩;exact⟨θ,h,ρ,w,fr,(aA.bind p).mono (by
   rintro c θ1 h1 H1 _ _ ⟨ev,w1,p1⟩
   cases c with
   |true=>exact⟨θ1,h1,ρ,w1,fr.ev ev,p1⟩
   |false=>exact⟨θ1,h1,ρ,w1,fr.ev ev,p1⟩)⟩)
theorem ag:DA X E ah []:=by simp[iV]at *;exact PA.imp zm (by rintro σ H Q ⟨θ,h,ρ,w,fr,p⟩;exact p θ H Ev.refl w _ .nil)
theorem ae(ha:DE X E m e)(hr:DA X E ma es)(hs:starEach (e::es) X.env=(false,eval e X.env)::starEach es X.env:=by rfl):DA X E (aa m ma) (e::es):=by simp[bj,iV]at *;exact PA.imp (ql ha hr hs) (by rintro σ H Q ⟨θ,h,ρ,w,fr,p⟩;exact⟨θ,h,ρ,w,fr,(aA.bind p).mono (by rintro x θ1 h1 H1 _ _ ⟨ev,w1,p1⟩ v r1;exact⟨θ1,h1,ρ,w1,fr.ev ev,(aA.bind p1).mono (by rintro xs θ2 h2 H2 _ _ ⟨ev2,w2,p2⟩ vs r2;exact p2 θ2 H2 Ev.refl w2 _ (.cons (r1.ev ev2) r2))⟩)⟩)
theorem oj:∀{xs:List D} {vs:List V} {ds:YD},aO G θ H xs vs->jo xs=some ds->aZ (view θ H) ds vs/\cF ds=true
 | [],_,ds,.nil,e=>by cases e;exact⟨rfl,by rfl⟩
 |x::xs,_,ds,.cons r rs,e=>by
  unfold jo at e
  cases x with
  |dat d=>
   cases e2:jo xs with
   |none=>simp_all
   |some ds'=>simp[D.data,e2]at e;subst e;obtain⟨h1,h2⟩:=oj rs e2;exact⟨.cons r.1 h1,by simp[cF,r.2,h2]⟩
  |_=>trivial
theorem zM:∀{ds:YD} {vs:List V},aZ (view θ H) ds vs->cF ds=true->aO G θ H (ds.map D.dat) vs
 | [],_,h,_=>by cases h;exact .nil
 |d::ds,_,⟨v,vs,e,r,rs⟩,s=>by subst e;simp[cF]at s;exact .cons ⟨r,s.1⟩ (zM rs s.2)
theorem eB(h:mP n=true):n<=sizeLine:=by
 have:=Xa h
 simp_all[WL]
theorem sG:∀{xs:List D} {ds:YD},jo xs=some ds->ds.length=xs.length
 | [],ds,e=>by cases e;rfl
 |x::xs,ds,e=>by
  unfold jo at e
  cases e1:x.data with
  |none=>simp_all
  |some d=>
   cases e2:jo xs with
   |none=>simp_all
   |some ds'=>rw[e1,e2]at e;cases e;simp[sG e2]
theorem ju(h:DA X E ma es):DE X E (eV ma) (.Tuple es x1 pos):=by
 simp only[bj,iV]at *
 exact PE.imp (HK h) (by rintro σ H Q ⟨θ,h,ρ,w,fr,p⟩;exact⟨θ,h,ρ,w,fr,(aA.bind p).mono (by
   rintro xs θ1 h1 H1 _ _ ⟨ev,w1,p1⟩ vs r1;unfold yk at p1
   cases e:jo xs with
   |none=>rw[e]at p1;exact p1.elim
   |some ds=>
    rw[e]at p1;simp only at p1;split at p1
    ·rename_i hz;have hl:vs.length=xs.length:=(U3 r1).symm;refine⟨by rw[hl,<- sG e];exact eB hz,λq hq=>?_⟩;obtain⟨e1,w2,g⟩:=w1.put (o:=.tup vs) hq;obtain⟨h1,h2⟩:=oj r1 e;exact p1 _ _ e1 w2 _ ⟨⟨q,vs,rfl,g,h1.same e1.same⟩,by assumption⟩
    ·trivial)⟩)
theorem zN(h:DA X E ma es):DE X E (uF ma) (.List es pos):=by
 simp only[bj,iV]at *
 exact PE.imp (C5 h) (by rintro σ H Q ⟨θ,h,ρ,w,fr,p⟩;exact⟨θ,h,ρ,w,fr,(aA.bind p).mono (by
   rintro xs θ1 h1 H1 _ _ ⟨ev,w1,p1⟩ vs r1;unfold oN at p1
   cases e:jo xs with
   |none=>rw[e]at p1;exact p1.elim
   |some ds=>
    rw[e]at p1;simp only at p1;split at p1
    ·rename_i hz;have hl:vs.length=xs.length:=(U3 r1).symm;refine⟨by rw[hl,<- sG e];exact eB hz,λq hq=>?_⟩;obtain⟨e1,w2,g⟩:=w1.put (o:=.lst vs) hq;obtain⟨h1,h2⟩:=oj r1 e;exact p1 _ _ e1 w2 _ ⟨⟨q,vs,rfl,g,h1.same e1.same⟩,by assumption⟩
    ·trivial)⟩)
theorem W.OY(w:W G θ h H)(r:aO G θ H xs vs)(hp:H p=none) :
  Ev θ H (θ++[p]) (upd H p (.lst vs))/\W G (θ++[p]) (h++[.lst xs]) (upd H p (.lst vs))/\b9 G (θ++[p]) (upd H p (.lst vs)) (.ref h.length) (.ref p):=by
 have e:Ev θ H _ (upd H p (.lst vs)):=⟨⟨[p],rfl⟩,λa u q=>by
  obtain⟨h1,h2⟩:=c8 q;have ne:=aV h2 hp;rw[eA (by grind),aM ne]
  exact h2⟩
 obtain⟨e1,w1⟩:=w.alloc (m:=.lst xs) hp ⟨vs,bg,r.ev e⟩;exact⟨e1,w1,p,by simp_all[w.len],rfl⟩
theorem zO(h:DA X E ma es):DE X E (Ds ma) (.List es pos):=by
 simp[bj,iV]at *
 exact PE.imp (C5 h) (by rintro σ H Q ⟨θ,h,ρ,w,fr,p⟩;exact⟨θ,h,ρ,w,fr,(aA.bind p).mono (by
   rintro xs θ1 h1 H1 _ _ ⟨ev,w1,p1⟩ vs r1;unfold vI at p1;split at p1
   ·rename_i hz;have hl  := (U3 r1).symm;refine⟨by rw[hl];exact eB hz,λq hq=>?_⟩;obtain⟨e1,w2,g⟩:=w1.OY r1 hq;exact p1 _ _ e1 w2 _ g
   ·trivial)⟩)
theorem Iz{id:String}(hc:qE X E (.builtin id) f)(hg:Gl X x)(hm:X.mg x=none)(hv:bootBuiltins x=some (.builtin id)){p:Pos}(ha:DA X E ma (e::es))(hn:x ≠ "__name__" := by decide)(hdb:(x==("__debug__" : Str))=false:=by decide)
 (he:starEach (e::es) X.env=(false,eval e X.env)::starEach es X.env:=by rfl)(hpl:(backTo pos (starEach es X.env)).any (·.1)=false:=by rfl):DE X E (af f ma) (.Call (.Name x p) (e::es) [] pos):=by
 simp only[bj,iV]at *;exact PE.imp (A6 hc hg hm hv ha hn hdb he hpl) λ_ _ _=>Fg
theorem GL(hc:qE X E (.type T) f)(hg:Gl X x)(hm:X.mg x=none)(hv:bootBuiltins x=some (.type T)){p:Pos}(ha:DA X E ma (e::es))(hn:x ≠ "__name__" := by decide)(hdb:(x==("__debug__" : Str))=false:=by decide)
 (he:starEach (e::es) X.env=(false,eval e X.env)::starEach es X.env:=by rfl)(hpl:(backTo pos (starEach es X.env)).any (·.1)=false:=by rfl):DE X E (af f ma) (.Call (.Name x p) (e::es) [] pos):=by
 simp only[bj,iV]at *;exact PE.imp (Gu hc hg hm hv ha hn hdb he hpl) λ_ _ _=>Fg
end
section
variable {X:Cx} {E:XK} {m:ME} {a b:MS} {t:MT} {e e1:Expr} {st:Stmt} {sts:List Stmt} {ss ss':List Stmt} {ma:MA} {pos:Pos} {i:Nat} {x:Str} {g:MG}
theorem bz:GK X E bM []:=by simp[pv]at *;exact A3.imp KP (by rintro C σ H ⟨θ,h,ρ,w,fr,p⟩;exact p θ H Ev.refl w σ fr)
theorem ak(h:DS X E a st):GK X E a [st]:=by simp[iW,pv]at *;exact KQ h
theorem ai(h1:DS X E a st)(h2:GK X E b ss):GK X E (aS a b) (st::ss):=by
 simp[iW,pv]at *
 exact A3.imp (Hy h1 h2) (by rintro C σ H ⟨θ,h,ρ,w,fr,p⟩;exact⟨θ,h,ρ,w,fr,(aA.bind p).mono (by
   rintro f θ1 h1 H1 _ _ ⟨ev,w1,p1⟩
   cases f with
   |nx ρ1=>exact λσ1 fr1=>⟨θ1,h1,ρ1,w1,fr1,p1⟩
   |rt d=>exact p1 θ1 H1 Ev.refl w1
   |bk ρ1=>exact p1 θ1 H1 Ev.refl w1
   |ct ρ1=>exact p1 θ1 H1 Ev.refl w1)⟩)
theorem fV(he:DE X E m e)(hs:swapsWith e none pos.line X.env=pure false:=by rfl):DS X E (iT m) (.Expr e pos):=by simp[bj,iW]at *;exact PS.imp (KR he hs) (by rintro C σ H ⟨θ,h,ρ,w,fr,p⟩;exact⟨θ,h,ρ,w,fr,(aA.bind p).mono (by rintro d θ1 h1 H1 _ _ ⟨ev,w1,p1⟩ v _;exact p1 θ1 H1 Ev.refl w1 σ (fr.ev ev))⟩)
theorem aL(he:DE X E m e):DS X E (bw m) (.Return (some e) pos):=by simp[bj,iW]at *;exact PS.imp (NT he) (by rintro C σ H ⟨θ,h,ρ,w,fr,p⟩;exact⟨θ,h,ρ,w,fr,(aA.bind p).mono (by rintro d θ1 h1 H1 _ _ ⟨ev,w1,p1⟩ v r;exact p1 θ1 H1 Ev.refl w1 v r)⟩)
theorem cR(hc:DT X E t e)(ha:GK X E a ss)(hb:GK X E b ss'):DS X E (jq t a b) (.If e ss ss' pos):=by
 simp[kN,iW,pv]at *
 exact PS.imp (Qx hc ha hb) (by rintro C σ H ⟨θ,h,ρ,w,fr,p⟩;exact⟨θ,h,ρ,w,fr,(aA.bind p).mono (by
   rintro c θ1 h1 H1 _ _ ⟨ev,w1,p1⟩
   cases c with
   |true=>exact⟨θ1,h1,ρ,w1,fr.ev ev,p1⟩
   |false=>exact⟨θ1,h1,ρ,w1,fr.ev ev,p1⟩)⟩)
theorem LN(hN:X.N.Nodup)(hi:X.N[i]?=some x)(hx:Loc X.env.scope x)(hf:X.fn x=true\/X.env.scope.names.lookup x=some .local:=by first|exact .inl rfl|exact .inr rfl|assumption):DG X E (aq i) (.Name x pos):=by simp[mG]at *;exact by rintro pins s σ H v u Q I r ⟨θ,h,ρ,d,w,fr,rd,p⟩;exact KU hN hi hx hf pins s σ H v u Q I r (p θ H Ev.refl w _ (fr.set rd))
def T4(G:Gx)(E:XK)(g:Ii):Qg:=λvs σ H Q=>∃θ h ρ ds,W G θ h H/\Fr G θ H ρ σ/\aO G θ H ds vs/\aA G (qi G E) θ H (g ds ρ h) (λρ' θ' _ H'=>∀σ',Fr G θ' H' ρ' σ'->Q σ' H')
@[irreducible] noncomputable def Qk(X:Cx)(E:XK)(m:Ii)(es:YI):Prop:=Qh X es (T4 X.G E m)
theorem Dz(X:Cx)(E:XK)(m:Ii)(es:YI):Qk X E m es=(Qh X es (T4 X.G E m)):=by
 grind[Qk]
theorem fW:Qk X E jN []:=by
 simp[Dz]at *
 exact by
  rintro pins s σ H vs us Q I r ⟨θ,h,ρ,ds,w,fr,rd,p⟩
  cases rd with
  |nil=>exact KW pins s σ H [] us Q I r ⟨rfl,p θ H Ev.refl w σ fr⟩
  |cons=>trivial
theorem bH(h1:DG X E g e)(h2:Qk X E gs es)(hs:(assignEach (e::es) X.env).map (·.2)=assign e X.env::(assignEach es X.env).map (·.2):=by rfl):Qk X E (bS g gs) (e::es):=by
 simp[mG,Dz]at *
 exact by
   rintro pins s σ H vs us Q I r ⟨θ,h,ρ,ds,w,fr,rd,p⟩
   cases rd with
   |nil=>trivial
   |cons r1 rr=>exact Hz h1 h2 hs pins s σ H _ us Q I r ⟨_,_,rfl,θ,h,ρ,_,w,fr,r1,(aA.bind p).mono (by rintro ρ1 θ1 h1 H1 _ _ ⟨ev,w1,p1⟩ σ1 fr1;exact⟨θ1,h1,ρ1,_,w1,fr1,aO.ev ev rr,p1⟩)⟩
theorem i7(r:b9 G θ H (.dat (.tuple ds)) v):∃a xs,v=.ref a/\view θ H a=some (.tup xs)/\aZ (view θ H) ds xs/\aO G θ H (ds.map D.dat) xs:=by obtain⟨⟨a,xs,e,ha,rr⟩,s⟩:=r;exact⟨a,xs,e,ha,rr,zM rr (by assumption)⟩
theorem gX(r:b9 G θ H (.dat (.list ds)) v):∃a xs,v=.ref a/\view θ H a=some (.lst xs)/\aZ (view θ H) ds xs/\aO G θ H (ds.map D.dat) xs:=by obtain⟨⟨a,xs,e,ha,rr⟩,s⟩:=r;exact⟨a,xs,e,ha,rr,zM rr (by assumption)⟩
@[irreducible] noncomputable def yq(gs:Ii)(n:Nat):Prop:=∀xs ρ h,xs.length≠n->gs xs ρ h=.bad
theorem vO(gs:Ii)(n:Nat):yq gs n=(∀xs ρ h,xs.length≠n->gs xs ρ h=.bad):=by
 grind[yq]
theorem de:yq jN 0:=by
 simp[vO]at *
 exact λxs ρ h ne=>by
  cases xs with
  |nil=>grind
  |cons=>rfl
theorem aT{g:Nat}(t:yq gs n):yq (bS (aq g) gs) (n+1):=by
 simp[vO]at *
 exact λxs ρ h ne=>by
  cases xs with
  |nil=>rfl
  |cons x xs=>simp_all[bS,aq]
theorem jv{k n:Nat}(hc:X.calm=true)(h:Qk X E gs es)(tk:yq gs n)(hn:(assignEach es X.env).length=n:=by rfl)(hst:(assignEach es X.env).findIdx? (·.1)=none:=by rfl):DG X E (jO gs) (.Tuple es k pos):=by
 simp only[mG,Dz,vO]at *
 exact by
   rintro pins s σ H v u Q I r ⟨θ,hm,ρ,d,w,fr,rd,p⟩
   cases d with
   |dat d=>
    cases d with
    |tuple ds=>
     obtain⟨a,xs,e,ha,rr,rr2⟩:=i7 rd
     have hl:xs.length=n:=by
      have h1:xs.length=ds.length:=rr.length;by_cases z:ds.length=n
      ·grind
      ·have p':=p;simp only[jO]at p';rw[tk (ds.map D.dat) ρ hm (by grind)]at p';exact p'.elim
     exact NV (n:=n) hc h hn hst pins s σ H v u Q I r ⟨a,xs,e,gA.of (ax _ _ _ _ ha),hl,θ,hm,ρ,_,w,fr,rr2,p⟩
    |_=>trivial
   |_=>exact p.elim
theorem OZ(hN:X.N.Nodup)(hi:X.N[i]?=some x)(hx:Loc X.env.scope x)(he:DE X E m e)(hs:swapsWith e (some (.Name x pos')) pos.line X.env=pure false:=by rfl)(hf:X.fn x=true\/X.env.scope.names.lookup x=some .local:=by first|exact .inl rfl|exact .inr rfl|assumption) :
  DS X E (bP i m) (.Assign [.Name x pos'] e pos):=by
 simp[bj,iW]at *;exact PS.imp (NY hN hi hx he hs hf) (by rintro C σ H ⟨θ,h,ρ,w,fr,p⟩;exact⟨θ,h,ρ,w,fr,(aA.bind p).mono (by rintro d θ1 h1 H1 _ _ ⟨ev,w1,p1⟩ v r;exact p1 θ1 H1 Ev.refl w1 _ ((fr.ev ev).set r))⟩)
theorem m7(he:DE X E m e)(hg:DG X E g tg)(hs:swapsWithSole [tg] e pos.line X.env=pure false:=by rfl)(hw:swappedStores [tg] e X.env=pure none:=by rfl)
 (h1:(assignEach [tg] X.env).map (·.2)=[assign tg X.env]:=by rfl):DS X E (oH g m) (.Assign [tg] e pos):=by
 simp only[bj,iW,mG]at *;exact PS.imp (NX he hg hs hw h1) (by rintro C σ H ⟨θ,h,ρ,w,fr,p⟩;exact⟨θ,h,ρ,w,fr,(aA.bind p).mono (by rintro d θ1 h1 H1 _ _ ⟨ev,w1,p1⟩ v r;exact⟨θ1,h1,ρ,d,w1,fr.ev ev,r,(aA.bind p1).mono (by rintro ρ1 θ2 h2 H2 _ _ ⟨ev2,w2,p2⟩ σ2 fr2;exact p2 θ2 H2 Ev.refl w2 σ2 fr2)⟩)⟩)
theorem LO(h:PS X st (Qz i j (lA X.G E ma))):DS X E (zF [i,j] ma) st:=by
 simp[iW]at *
 exact PS.imp h (by rintro C σ H ⟨θ,h,ρ,w,fr,p⟩;exact⟨θ,h,ρ,w,fr,(aA.bind p).mono (by
   rintro ds θ1 h1 H1 _ _ ⟨ev,w1,p1⟩ vs r
   cases r with
   |nil=>trivial
   |cons r1 rr=>
    cases rr with
    |nil=>trivial
    |cons r2 rr=>
     cases rr with
     |nil=>exact⟨_,_,rfl,p1 θ1 H1 Ev.refl w1 _ (((fr.ev ev).set r1).set r2)⟩
     |cons=>trivial)⟩)
def qH(G:Gx)(θ:YE)(H:Hp)(xs:List D)(J:It):Prop:=∀θ' h' H',Ev θ H θ' H'->W G θ' h' H' ->
 (∀(i:Nat) (d:D),xs[i]?=some d->J.go i H'/\∀x H2,J.yld i H' x H2->Ev θ' H' θ' H2/\W G θ' h' H2/\b9 G θ' H2 d x)/\J.stop xs.length H'
def lI(G:Gx)(E:XK)(m:MA):TI:=λσ H R=>∃θ h ρ,W G θ h H/\Fr G θ H ρ σ/\aA G (qi G E) θ H (m ρ h) (λxs θ' _ H'=>∀J,qH G θ' H' xs J->R J H')
@[irreducible] noncomputable def DI(X:Cx)(E:XK)(m:MA)(tg e:Expr):Prop:=PI X tg e (lI X.G E m)
theorem kO(X:Cx)(E:XK)(m:MA)(tg e:Expr):DI X E m tg e=(PI X tg e (lI X.G E m)):=by
 grind[DI]
theorem PI.imp{t t':TI}(h:PI X tg e t)(k:∀σ H Q,t' σ H Q->t σ H Q):PI X tg e t':=λpins s σ H Q I q=>h pins s σ H Q I (k _ _ _ q)
theorem aO.get:∀{ds:List D} {vs:List V} {i:Nat} {d:D} {v:V},aO G θ H ds vs->ds[i]?=some d->vs[i]?=some v->b9 G θ H d v
 |_,_,i,_,_,.nil,e,_=>by simp at e
 |_,_,0,_,_,.cons r _,e,e'=>by grind
 |_,_,i+1,d,v,.cons _ t,e,e'=>aO.get (i:=i) t (by simp_all) (by simp_all)
theorem aO.some(r:aO G θ H ds vs)(e:ds[i]?=some d):∃v,vs[i]?=some v/\b9 G θ H d v:=by
 have hl  := U3 r;have hi:i<vs.length:=by rw[<- hl];exact(UN.mp e).1
 exact⟨vs[i],UK hi,r.get e (UK hi)⟩
theorem O0{a:Addr}(ha:view θ H a=some (.tup xs))(r:aO G θ H ds xs):qH G θ H ds (RP K a):=λθ' h' H' ev w=>by have ha':=ax _ _ _ _ (ev.same _ _ ha);have q:gA K H' a xs:=gA.of ha';refine⟨λi d e=>?_,⟨xs,q,by rw[<- U3 r];grind⟩⟩;obtain⟨v,ev',rv⟩:=r.some e;refine⟨⟨xs,v,q,ev'⟩,λx H2 ⟨e2,y⟩=>?_⟩;subst e2;have:=y xs q;rw[ev']at this;cases this;exact⟨Ev.refl,w,rv.ev ev⟩
theorem O6{a:Addr}(ha:view θ H a=some (.lst xs))(r:aO G θ H ds xs):qH G θ H ds (RO K a):=λθ' h' H' ev w=>by have ha':=ax _ _ _ _ (ev.same _ _ ha);have q:ji K H' a xs:=ji.of ha';refine⟨λi d e=>?_,⟨xs,q,by rw[<- U3 r];grind⟩⟩;obtain⟨v,ev',rv⟩:=r.some e;refine⟨⟨xs,v,q,ev'⟩,λx H2 ⟨e2,y⟩=>?_⟩;subst e2;have:=y xs q;rw[ev']at this;cases this;exact⟨Ev.refl,w,rv.ev ev⟩
theorem O7(h:DE X E m e):DI X E (E4 m) tg e:=by
 simp[bj,kO]at *
 exact PI.imp (HB h) (by rintro σ H R ⟨θ,h,ρ,w,fr,p⟩;exact⟨θ,h,ρ,w,fr,(aA.bind p).mono (by
   rintro d θ1 h1 H1 _ _ ⟨ev,w1,p1⟩ v r
   cases d with
   |dat d=>
    cases d with
    |tuple ds=>obtain⟨a,xs,e,ha,_,rr⟩:=i7 r;exact⟨a,e,⟨xs,gA.of (ax _ _ _ _ ha)⟩,p1 θ1 H1 Ev.refl w1 _ (O0 ha rr)⟩
    |_=>trivial
   |_=>trivial)⟩)
theorem O8(h:DE X E m e):DI X E (Nf m) tg e:=by
 simp[bj,kO]at *
 exact PI.imp (EK h) (by rintro σ H R ⟨θ,h,ρ,w,fr,p⟩;exact⟨θ,h,ρ,w,fr,(aA.bind p).mono (by
   rintro d θ1 h1 H1 _ _ ⟨ev,w1,p1⟩ v r
   cases d with
   |dat d=>
    cases d with
    |list ds=>obtain⟨a,xs,e,ha,_,rr⟩:=gX r;exact⟨a,e,⟨xs,ji.of (ax _ _ _ _ ha)⟩,p1 θ1 H1 Ev.refl w1 _ (O6 ha rr)⟩
    |_=>trivial
   |_=>trivial)⟩)
theorem Fh(s:PyData.strOk x=true):PyData.strOk ⟨#[x.cps.getD i 0]⟩=true:=by
 have q:=Array.all_eq_true.mp s;apply Array.all_eq_true.mpr;intro j hj;by_cases hi:i<x.cps.size
 ·simp_all
 simp_all
theorem O9(h:DE X E m e):DI X E (Ng m) tg e:=by
 simp only[bj,kO]at *
 exact PI.imp (OD h) (by rintro σ H R ⟨θ,h,ρ,w,fr,p⟩;exact⟨θ,h,ρ,w,fr,(aA.bind p).mono (by
   rintro d θ1 h1 H1 _ _ ⟨ev,w1,p1⟩ v r
   cases d with
   |dat d=>
    cases d with
    |str s=>obtain⟨r1,r2⟩:=r;refine⟨s,r1,p1 θ1 H1 Ev.refl w1 _ λθ' h' H' ev w=>⟨λi d e=>?_,by show(signs s).length=_;simp[signs]⟩⟩;simp only[signs,Vo,Vg]at e;obtain⟨j,e1,e2⟩:=e;obtain⟨hj,e3⟩:=UN.mp e1;simp at hj e3;subst e3;subst e2;refine⟨hj,λx H2 ⟨z1,z2⟩=>?_⟩;subst z1;subst z2;exact⟨Ev.refl,w,rfl,by simp only[fj];exact Fh (by simpa [fj]using r2)⟩
    |_=>exact p1.elim
   |_=>exact p1.elim)⟩)
theorem LP:qH G θ H (nums lo n) (RQ lo n):=λθ' h' H' ev w=>by refine⟨λi d e=>?_,by show n<=(nums lo n).length;simp[nums]⟩;simp[nums]at e;obtain⟨j,e1,e2⟩:=e;obtain⟨hj,e3⟩:=UN.mp e1;simp at hj e3;subst e3;subst e2;refine⟨hj,λx H2 ⟨z1,z2⟩=>?_⟩;subst z1;subst z2;exact⟨Ev.refl,w,rfl,by rfl⟩
theorem bQ(r:b9 G θ H (.int j) v):v=.int j:=r.1
theorem lH{tg a:Expr}(hg:Gl X "range")(hm:X.mg "range" = none)(ha:DA X E ma [a])(hs:starEach [a] X.env=[(false,eval a X.env)]:=by rfl):DI X E (ic ma) tg (.Call (.Name "range" p') [a] [] pos'):=by
 simp[iV,kO]at *
 exact PI.imp (Gj hg hm ha hs) (by rintro σ H R ⟨θ,h,ρ,w,fr,p⟩;exact⟨θ,h,ρ,w,fr,(aA.bind p).mono λds θ1 h1 H1 _ _ ⟨ev,w1,p1⟩ vs r=>by
   split at p1
   ·split at p1
    ·rename_i j _ hj
     cases r with
     |cons r1 rr=>cases rr;cases bQ r1;exact⟨j,rfl,hj.1,hj.2,p1 θ1 H1 Ev.refl w1 _ LP⟩
    ·trivial
   ·trivial⟩)
theorem Bq:∀(xs ys:YD),(zG xs ys).length=min xs.length ys.length
 | [],_=>by rfl
 |_::_,[]=>by rfl
 |x::xs,y::ys=>by simp[zG,Bq xs ys]
theorem Br:∀(xs ys:YD) (i:Nat) (d:D),(zG xs ys)[i]?=some d->∃x y,xs[i]?=some x/\ys[i]?=some y/\d=.dat (.tuple [x,y])
 | [],_,i,d,e=>by trivial
 |_::_,[],i,d,e=>by trivial
 |x::xs,y::ys,0,d,e=>by grind[zG]
 |x::xs,y::ys,i+1,d,e=>by simpa using Br xs ys i d (by assumption)
theorem qI:∀{ds:YD} {i:Nat} {d:PyData},cF ds=true->ds[i]?=some d->fj d=true
 | [],i,d,_,e=>by simp at e
 |x::xs,0,d,s,e=>by grind[cF]
 |x::xs,i+1,d,s,e=>by simp[cF]at s;exact qI (i:=i) s.2 (by simp_all)
theorem Pa{kk:Nat}{es:YI}{tpos:Pos}{p' pos':Pos}(hg:Gl X "zip")(hm:X.mg "zip" = none)(ha:DA X E ma [e1,e2])(hs:starEach [e1,e2] X.env=[(false,eval e1 X.env),(false,eval e2 X.env)]:=by rfl)(hs2:starEach [e2] X.env=[(false,eval e2 X.env)]:=by rfl) :
  DI X E (E5 ma) (.Tuple es kk tpos) (.Call (.Name "zip" p') [e1,e2] [] pos'):=by
 simp only[iV,kO]at *
 exact PI.imp (Oz hg hm ha hs hs2) (by rintro σ H R ⟨θ,h,ρ,w,fr,p⟩;exact⟨θ,h,ρ,w,fr,(aA.bind p).mono λds θ1 h1 H1 _ _ ⟨ev,w1,p1⟩ vs r=>by
   split at p1
   ·rename_i xs ys _
    cases r with
    |cons r1 rr=>
     cases rr with
     |cons r2 rr=>
      cases rr;have s1:cF xs=true:=by simpa [fj]using r1.2
      have s2:cF ys=true:=by simpa [fj]using r2.2
      obtain⟨a1,us,rfl,ha1,q1,_⟩:=i7 r1;obtain⟨a2,ws,rfl,ha2,q2,_⟩:=i7 r2;refine⟨a1,a2,us,ws,rfl,gA.of (ax _ _ _ _ ha1),gA.of (ax _ _ _ _ ha2),p1 θ1 H1 Ev.refl w1 _ λθ' h' H' ev' w'=>?_⟩;have k1:gA X.K H' a1 us:=gA.of (ax _ _ _ _ (ev'.same _ _ ha1));have k2:gA X.K H' a2 ws:=gA.of (ax _ _ _ _ (ev'.same _ _ ha2));have l1:=q1.length;have l2:=q2.length;refine⟨λi d e=>?_,⟨us,ws,k1,k2,by rw[Bq,l1,l2];omega⟩⟩;obtain⟨x,y,ex,ey,rfl⟩:=Br _ _ _ _ e;obtain⟨u,eu,ru⟩:=aZ.get' q1 ex;obtain⟨z,ez,rz⟩:=aZ.get' q2 ey;refine⟨⟨us,ws,u,z,k1,k2,eu,ez⟩,λv H2 ⟨pp,x',y',e1,hp,e2,c1,c2⟩=>?_⟩;have:=c1 us k1;rw[eu]at this;cases this;have:=c2 ws k2;rw[ez]at this;cases this;subst e1;subst e2;obtain⟨e3,w3,g3⟩:=w'.put (o:=.tup [u,z]) hp;exact⟨e3,w3,⟨pp,[u,z],rfl,g3,.cons (ru.same (ev'.same.trans e3.same)) (.one (rz.same (ev'.same.trans e3.same)))⟩,by simp[fj,cF,qI s1 ex,qI s2 ey]⟩
   ·exact p1.elim⟩)
abbrev eQ:XK:=λ_ _ _=>False
theorem aA.cn{f:α->Hm->R β}(p:aA G F θ H (r.tN.bind f) L) :
  aA G F' θ H r λa θ1 h1 H1=>Ev θ H θ1 H1/\W G θ1 h1 H1/\aA G F θ1 H1 (f a h1) L:=by
 cases r with
 |ok a h'=>exact λθ1 H1 e w=>⟨e,w,aA.later p e⟩
 |exc x h'=>trivial
 |bad=>trivial
theorem PS.KO{t:TS}(h:PS X.KO st t):PS X st t:=λpins s σ H D I hw=>
 VG (h pins s σ H D (I.xF _) hw) (λ_ _ q=>q.mR) λ_ _ z=>False.elim z
end
end Ml
namespace L2
open PySem PySem.Spec PyProof.Rows
theorem Ln.Ux{K:YG}{st:Stmt}(F:Ln K x qual st f fd)(S:aE N ps (au st))(len:∀vs H Q E,sp vs H Q E->vs.length=ps.length)
 (hbody:∀(cdv:Value) (A:YQ) (outer:List Env) (s:YR) (H:Hp) (vs:List V) (Q:VK) (E:XK),cE k (A.deeper (envOfC qual (au st) #[2] f cdv))->sp vs H Q E ->
   ∃t,A3 (vo (uV P w) P w K mg base N qual (au st) f cdv A outer s H E) (dZ st) t/\t {nx:=λ_ H'=>Q .non H',rt:=Q} (start N vs) H):jQ P w K mg base (uV P w) (k+1) f fd ps sp:=by
 obtain⟨oc,od,kV,doc,pm,an,cdv,ct,osl,rfl,lk,hcd⟩:=F.ex;exact QN lk hcd S len λA outer s H vs Q E hr hsp=>hbody cdv A outer s H vs Q E hr hsp
structure IA(P:YN)(w:World)(K:YG)(mg:YC)(base:Heap)(x:Str)(ps:YH)(k:Nat)(sp:Sp):Prop where
 ex:∃(f:Addr) (fd:FuncData),mg x=some (.ref f)/\PySem.W.keepIn K (.ref f)=true/\Binds K fd ps []/\jQ P w K mg base (uV P w) k f fd ps sp
section
variable {X:Cx} {x:Str} {ps:YH} {k:Nat} {sp:Sp} {e:Expr} {es:YI} {t:TA} {p pos:Pos}
theorem Pb(F:IA X.prog X.w X.K X.mg X.base x ps k sp)(hx:Passes (uV X.prog X.w) X E)(hr:cE k X.A)(hg:Gl X x)(ha:PA X (e::es) t)(hdb:(x==("__debug__" : Str))=false:=by decide)(he:starEach (e::es) X.env=(false,eval e X.env)::starEach es X.env:=by rfl)
 (hpl:(backTo pos (starEach es X.env)).any (·.1)=false:=by rfl):PE X (.Call (.Name x p) (e::es) [] pos) (M8 sp [] E t):=by
 obtain⟨f,fd,h1,h2,h3,h4⟩:=F.ex;exact Lb h4 hr hg h1 h2 h3 .nil hx ha hdb he hpl
end
end L2
namespace Ml
open PySem PySem.Spec L2
section
variable {X:Cx} {E:XK} {m:ME} {a b:MS} {t:MT} {e e1 tg:Expr} {st:Stmt} {ss ss':List Stmt} {ma it:MA} {pos:Pos} {i:Nat} {x:Str} {g:MG}
theorem IB(hJ:qH G θ1 H1 xs J)(w1:W G θ1 h1 H1)(fr:Fr G θ1 H1 ρ σ)(p1:aA G F θ1 H1 (dz g b xs ρ h1) (KS G C)) :
  ∃W':Nat->Nat->St->Hp->Prop,(∃m,W' 0 m σ H1)/\∀i m σ H,W' i m σ H ->
   (J.stop i H/\C.nx σ H)\/(J.go i H/\∃N:St->Hp->Prop,(∀σ' H',N σ' H'->∃m',m'<m/\W' (i+1) m' σ' H')/\∀x H',J.yld i H x H'->lG G eQ g x σ H' λσ2 H2=>lS G eQ b {C with nx:=N,ct:=N,bk:=C.nx} σ2 H2):=by
 refine⟨λi m σ H=>m=xs.length-i/\i<=xs.length/\∃θ' h' ρ',Ev θ1 H1 θ' H/\W G θ' h' H/\Fr G θ' H ρ' σ/\aA G F θ' H (dz g b (xs.drop i) ρ' h') (KS G C),⟨xs.length,by simp,Vw _,θ1,h1,ρ,Ev.refl,w1,fr,p1⟩,?_⟩;rintro i m σ H ⟨rfl,hi,θ',h',ρ',ev,w,fr',p⟩;obtain⟨j1,j2⟩:=hJ θ' h' H ev w;by_cases hlt:i<xs.length
 ·have ed:xs.drop i=xs[i]::xs.drop (i+1):=Vs hlt;rw[ed]at p;obtain⟨g1,g2⟩:=j1 i xs[i] (UK hlt);refine .inr ⟨g1,λσ2 H2=>i+1<=xs.length/\∃θ' h' ρ',Ev θ1 H1 θ' H2/\W G θ' h' H2/\Fr G θ' H2 ρ' σ2/\aA G F θ' H2 (dz g b (xs.drop (i+1)) ρ' h') (KS G C),λσ' H' q=>⟨xs.length-(i+1),by omega,rfl,q⟩,λx H2 y=>?_⟩;obtain⟨e2,w2,r2⟩:=g2 x H2 y;refine⟨θ',h',ρ',xs[i],w2,fr'.ev e2,r2,(aA.cn (p.later e2)).mono λρ3 θ3 h3 H3 _ _ ⟨e3,w3,p3⟩ σ3 fr3=>⟨θ3,h3,ρ3,w3,fr3,(aA.cn p3).mono λf θ4 h4 H4 _ _ ⟨e4,w4,p4⟩=>?_⟩⟩;have ev4:=(ev.trans e2).trans (e3.trans e4)
  cases f with
  |nx ρ5=>exact λσ5 fr5=>⟨hlt,θ4,h4,ρ5,ev4,w4,fr5,p4⟩
  |ct ρ5=>exact λσ5 fr5=>⟨hlt,θ4,h4,ρ5,ev4,w4,fr5,p4⟩
  |bk ρ5=>exact p4 θ4 H4 Ev.refl w4
  |rt d=>exact p4 θ4 H4 Ev.refl w4
 ·have hx:i=xs.length:=by omega
  subst hx;rw[VJ (UJ _)]at p;exact .inl ⟨j2,p θ' H Ev.refl w σ fr'⟩
theorem fX(hc:X.calm=true)(hi:DI X.KO eQ it tg e)(hg:DG X.KO eQ g tg)(hb:GK X.KO eQ b body)(hs:∀x,foldedSetIterable e X.env x=pure x:=by intro _;rfl):DS X E (ie it g b) (.For tg e body [] pos):=by simp[iW,pv,mG,kO]at *;exact PS.KO (PS.imp (N5 PassesOwn.never hc hi hg hb hs) (by rintro C σ H ⟨θ,h,ρ,w,fr,p⟩;exact⟨θ,h,ρ,w,fr,(aA.cn p).mono (by rintro xs θ1 h1 H1 _ _ ⟨ev,w1,p1⟩ J hJ;exact IB hJ w1 (fr.ev ev) p1)⟩))
theorem Bt(hc:DT X.KO eQ t e)(hb:GK X.KO eQ b body):DS X E (Dt n t b) (.While e body [] pos):=by
 simp only[kN,iW,pv]at *
 exact PS.KO (PS.imp (HA PassesOwn.never hc hb) (by
   rintro C σ H ⟨θ,h,ρ,w,fr,p⟩;refine⟨λm σ H=>∃θ h ρ,W X.G θ h H/\Fr X.G θ H ρ σ/\aA X.G (qi X.G E) θ H (lF t b m ρ h) (KS X.G C),⟨n,θ,h,ρ,w,fr,p⟩,?_⟩;rintro m σ H ⟨θ,h,ρ,w,fr,p⟩
   cases m with
   |zero=>trivial
   |succ m=>
    refine⟨θ,h,ρ,w,fr,(aA.cn p).mono λc θ1 h1 H1 _ _ ⟨ev,w1,p1⟩=>?_⟩
    cases c with
    |false=>exact p1 θ1 H1 Ev.refl w1 σ (fr.ev ev)
    |true=>
     refine⟨λσ' H'=>∃θ h ρ,W X.G θ h H'/\Fr X.G θ H' ρ σ'/\aA X.G (qi X.G E) θ H' (lF t b m ρ h) (KS X.G C),λσ' H' q=>⟨m,Wg _,q⟩,θ1,h1,ρ,w1,fr.ev ev,(aA.cn p1).mono λf θ4 h4 H4 _ _ ⟨e4,w4,p4⟩=>?_⟩
     cases f with
     |nx ρ5=>exact λσ5 fr5=>⟨θ4,h4,ρ5,w4,fr5,p4⟩
     |ct ρ5=>exact λσ5 fr5=>⟨θ4,h4,ρ5,w4,fr5,p4⟩
     |bk ρ5=>exact p4 θ4 H4 Ev.refl w4
     |rt d=>exact p4 θ4 H4 Ev.refl w4))
theorem cY:∀{xs ys:List α} {us ws:List β},Paired G xs us->Paired G ys ws->Paired G (xs++ys) (us++ws)
 |_,_,_,_,.nil,s=>s
 |_,_,_,_,.cons r t,s=>.cons r (cY t s)
theorem GN(hJ:qH G θ1 H1 xs J)(w1:W G θ1 h1 H1)(fr:Fr G θ1 H1 ρ σ)(p1:aA G F θ1 H1 ((gC n ρ g t m xs h1).bind mk) (KV G Q))
 (hmk:∀ys vs θ h H,ys.length<=xs.length->W G θ h H->aO G θ H ys vs->aA G F θ H (mk ys h) (KV G Q)->∀p,H p=none->Q (.ref p) (upd H p (.lst vs)))(hz:xs.length<=sizeLine) :
  EU n J (lG G eQ g) (lT G eQ t) (lE G eQ m) σ H1 Q:=by
 refine⟨λi m' ys H=>m'=xs.length-i/\i<=xs.length/\∃θ' h' acc,acc.length<=i/\Ev θ1 H1 θ' H/\W G θ' h' H/\aO G θ' H acc ys/\aA G F θ' H ((gC n ρ g t m (xs.drop i) h').bind λzs h2=>mk (acc++zs) h2) (KV G Q),
  ⟨xs.length,by simp,Vw _,θ1,h1,[],UJ _,Ev.refl,w1,.nil,p1⟩,?_⟩
 rintro i m' ys H ⟨rfl,hi,θ',h',acc,hacc,ev,w,ra,p⟩;obtain⟨j1,j2⟩:=hJ θ' h' H ev w;have hly:ys.length<=sizeLine:=by rw[<- show acc.length=ys.length from U3 ra];omega
 by_cases hlt:i<xs.length
 ·have ed:xs.drop i=xs[i]::xs.drop (i+1):=Vs hlt;rw[ed]at p;obtain⟨g1,g2⟩:=j1 i xs[i] (UK hlt);refine .inr ⟨g1,hly,λys2 H2=>i+1<=xs.length/\∃θ' h' acc,acc.length<=i+1/\Ev θ1 H1 θ' H2/\W G θ' h' H2/\aO G θ' H2 acc ys2/\aA G F θ' H2 ((gC n ρ g t m (xs.drop (i+1)) h').bind λzs h2=>mk (acc++zs) h2) (KV G Q),λys' H' q=>⟨xs.length-(i+1),by omega,rfl,q⟩,λx H2 y=>?_⟩;obtain⟨e2,w2,r2⟩:=g2 x H2 y;have p2:=p.later e2;unfold gC at p2;simp only[R.bind_assoc]at p2;refine⟨θ',h',_,xs[i],w2,((fr.ev ev).ev e2).replicate n,r2,(aA.cn p2).mono λρ3 θ3 h3 H3 _ _ ⟨e3,w3,p3⟩ σ3 fr3=>⟨θ3,h3,ρ3,w3,fr3,(aA.cn p3).mono λc θ4 h4 H4 _ _ ⟨e4,w4,p4⟩=>?_⟩⟩;have ev4:=(ev.trans e2).trans (e3.trans e4);have ra4:=aO.ev (e2.trans (e3.trans e4)) ra
  cases c with
  |false=>exact⟨hlt,θ4,h4,acc,by omega,ev4,w4,ra4,p4⟩
  |true=>
   simp only[VC,R.bind_assoc]at p4;refine⟨θ4,h4,ρ3,w4,fr3.ev e4,(aA.cn p4).mono λy θ5 h5 H5 _ _ ⟨e5,w5,p5⟩ v5 r5=>⟨hlt,θ5,h5,acc++[y],by simp;omega,ev4.trans e5,w5,?_,?_⟩⟩
   ·exact cY (aO.ev e5 ra4) (.cons r5 .nil)
   ·simp only[R.bind_assoc,R.aP]at p5;simpa using p5
 ·have hx:i=xs.length:=by omega
  subst hx;rw[VJ (UJ _)]at p;simp only[gC,R.aP,V1]at p;exact .inl ⟨j2,hly,hmk acc ys θ' h' H hacc w ra p⟩
variable {own:YH} {scope:Scope} {elt:Expr} {ifs:YI}
@[irreducible] noncomputable def IC(X:Cx)(E:XK)(t:MT)(es:YI):Prop:=Dc X es (lT X.G E t)
theorem m8(X:Cx)(E:XK)(t:MT)(es:YI):IC X E t es=(Dc X es (lT X.G E t)):=by
 grind[IC]
theorem eE:IC X E cM []:=by simp[m8]at *;exact by rintro pins s σ H Q I ⟨θ,h,ρ,w,fr,p⟩;exact Lp pins s σ H Q I (p θ H Ev.refl w)
theorem dC(h:DT X E t e):IC X E t [e]:=by simp[kN,m8]at *;exact Lq h
theorem Fi{mk:List D->Hm->R D}(h:lE G E (af mk (yl n it g t m)) σ H Q)
 (hmk:∀ys vs θ h H,ys.length<=sizeLine->W G θ h H->aO G θ H ys vs->aA G (qi G E) θ H (mk ys h) (KV G Q)->∀p,H p=none->Q (.ref p) (upd H p (.lst vs))) :
  yh n (lI G E it) (lG G eQ g) (lT G eQ t) (lE G eQ m) σ H Q:=by
 obtain⟨θ,h,ρ,w,fr,p⟩:=h;simp[af,yl,R.bind_assoc]at p;refine⟨θ,h,ρ,w,fr,(aA.bind p).mono λxs θ1 h1 H1 _ _ ⟨ev,w1,p1⟩ J hJ=>?_⟩;split at p1
 ·rename_i hz;exact GN hJ w1 (fr.ev ev) p1 (λys vs θ h H hl=>hmk ys vs θ h H (UO hl (eB hz))) (eB hz)
 ·trivial
theorem jw(ys:List D)(vs:List V)(θ:YE)(h:Hm)(H:Hp)(w1:W G θ h H)(r1:aO G θ H ys vs)(p1:aA G F θ H (oN ys h) (KV G Q))(q:Addr)(hq:H q=none):Q (.ref q) (upd H q (.lst vs)):=by
 unfold oN at p1
 cases e:jo ys with
 |none=>rw[e]at p1;exact p1.elim
 |some ds=>
  rw[e]at p1;simp only at p1;split at p1
  ·obtain⟨e1,w2,g⟩:=w1.put hq;obtain⟨h1,h2⟩:=oj r1 e;exact p1 _ _ e1 w2 _ ⟨⟨q,vs,rfl,g,h1.same e1.same⟩,by assumption⟩
  ·trivial
theorem cS(own:YH)(CS:c7 X.env.scope X.N own scope=true)(hc:X.calm=true)(hi:DI X E it tg e)(hg:∀C s2 H2 fp pins,DG #[3] eQ g tg)
 (ht:∀C s2 H2 fp pins,IC #[3] eQ t ifs)(he:∀C s2 H2 fp pins,DE #[3] eQ m elt)(hs:∀x,foldedSetIterable e X.env x=pure x:=by intro _;rfl) :
  DE X E (bR own.length it g t m) (.ListComp elt [⟨tg,e,ifs,0⟩] scope pos):=by
 simp[bj,mG,kO,m8]at *;exact PE.imp (EV own CS hc hi hg ht he hs) λσ H Q q=>Fi q λys vs θ h H _=>jw ys vs θ h H
theorem Fj{mk:List D->Hm->R D}(h:lS G E (bP i (af mk (yl n it g t m))) C σ H)
 (hmk:∀Q ys vs θ h H,ys.length<=sizeLine->W G θ h H->aO G θ H ys vs->aA G (qi G E) θ H (mk ys h) (KV G Q)->∀p,H p=none->Q (.ref p) (upd H p (.lst vs))) :
  CY (yh n (lI G E it) (lG G eQ g) (lT G eQ t) (lE G eQ m)) (L2.aq i) C σ H:=by
 obtain⟨θ,h,ρ,w,fr,p⟩:=h;refine Fi ⟨θ,h,ρ,w,fr,(aA.bind p).mono (by rintro d θ1 h1 H1 _ _ ⟨ev,w1,p1⟩ v r;exact p1 θ1 H1 Ev.refl w1 _ ((fr.ev ev).set r))⟩ (hmk _)
theorem uZ(own:YH){pos' spos:Pos}(hN:X.N.Nodup)(hxi:X.N[i]?=some x)(hx:X.env.scope.names.lookup x=some .local)(CS:c7 X.env.scope X.N own scope=true)(hc:X.calm=true)(hi:DI X E it tg e)(hg:∀C s2 H2 fp pins,DG #[3] eQ g tg)
 (ht:∀C s2 H2 fp pins,IC #[3] eQ t ifs)(he:∀C s2 H2 fp pins,DE #[3] eQ m elt)(hs:∀x,foldedSetIterable e X.env x=pure x:=by intro _;rfl)
 (hsw:swapsWith (.ListComp elt [⟨tg,e,ifs,0⟩] scope pos) (some (.Name x pos')) spos.line X.env=pure true:=by rfl):DS X E (bP i (bR own.length it g t m)) (.Assign [.Name x pos'] (.ListComp elt [⟨tg,e,ifs,0⟩] scope pos) spos):=by
 simp[bj,iW,mG,kO,m8]at *;exact PS.imp (Ls own hN hxi hx CS hc hi hg ht he hs hsw) λC σ H q=>Fj q λQ ys vs θ h H _=>jw ys vs θ h H
theorem ID(own N':YH){pos' spos:Pos}(hN:X.N.Nodup)(hxi:X.N[i]?=some x)(hx:X.env.scope.names.lookup x=some .local)(HL:uT X.env.scope X.N N'=true)(CS:c7 X.env.scope N' own scope=true)(hc:X.calm=true)(hi:DI X E it tg e)(hg:∀C s2 H2 fp pins,DG (ay (X.Gz N') own scope C s2 H2 fp pins) eQ g tg)
 (ht:∀C s2 H2 fp pins,IC (ay (X.Gz N') own scope C s2 H2 fp pins) eQ t ifs)(he:∀C s2 H2 fp pins,DE (ay (X.Gz N') own scope C s2 H2 fp pins) eQ m elt)(hs:∀x,foldedSetIterable e X.env x=pure x:=by intro _;rfl)
 (hsw:swapsWith (.ListComp elt [⟨tg,e,ifs,0⟩] scope pos) (some (.Name x pos')) spos.line X.env=pure true:=by rfl):DS X E (bP i (bR own.length it g t m)) (.Assign [.Name x pos'] (.ListComp elt [⟨tg,e,ifs,0⟩] scope pos) spos):=by
 simp[bj,iW,mG,kO,m8]at *;exact PS.imp (HU own N' hN hxi hx HL CS hc hi hg ht he hs hsw) λC σ H q=>Fj q λQ ys vs θ h H _=>jw ys vs θ h H
end
def IE(G:Gx)(F:Fn):Sp:=λvs H Q E=>∃θ h ds,W G θ h H/\aO G θ H ds vs/\aA G (qi G E) θ H (F ds h) (KV G Q)
def IF(F:Fn)(n:Nat):Prop:=∀ds h,ds.length≠n->F ds h=.bad
theorem LQ(ar:IF F n):∀vs H Q E,IE G F vs H Q E->vs.length=n:=by
 rintro vs H Q E ⟨θ,h,ds,w,r,p⟩;by_cases e:ds.length=n
 ·rw[<- e];exact(U3 r).symm
 ·rw[ar ds h e]at p;exact p.elim
theorem yr:IF (aY p n b) p:=λds h e=>by simp[aY,e]
structure bU(P:YN)(w:World)(K:YG)(mg:YC)(base:Heap)(x:Str)(ps:YH)(k:Nat)(F:Fn):Prop where
 has:IA P w K mg base x ps k (IE ⟨P,w,mg,K⟩ F)
 ar:IF F ps.length
section
variable {P:YN} {w:World} {K:YG} {mg:YC} {base:Heap} {x qual:Str} {st:Stmt} {f:Addr} {fd:FuncData} {N ps:YH} {k:Nat} {b:MS} {F:Fn}
theorem Fr.start{n:Nat}(r:aO G θ H ds vs)(hl:ds.length=ps.length):Fr G θ H (ds.map some++List.replicate (N.length-ps.length) none) (start N vs):=by
 have hv:ds.length=vs.length:=U3 r;unfold L2.start;rw[<- hv,hl];refine⟨by simp_all,λi d e=>?_⟩;by_cases hi:i<ds.length
 ·rw[Vc (by simp_all)]at e;rw[Vc (by simp_all)];simp only[Vo]at e ⊢
  cases e1:ds[i]? with
  |none=>grind
  |some d'=>rw[e1]at e;simp at e;subst e;obtain⟨v,e2,rv⟩:=r.some e1;exact⟨v,by simp_all,rv⟩
 ·rw[Vl (by simpa using hi),WT]at e;split at e<;>cases e
theorem Td(Fu:Ln K x qual st f fd)(S:aE N ps (au st))(hbody:∀(cdv:Value) (A:YQ) (outer:List Env) (s:YR) (H:Hp) (E:XK),cE k (A.deeper (PyProof.Rows.envOfC qual (au st) #[2] f cdv)) ->
   GK (vo (uV P w) P w K mg base N qual (au st) f cdv A outer s H E) E b (dZ st)):jQ P w K mg base (uV P w) (k+1) f fd ps (IE ⟨P,w,mg,K⟩ (aY ps.length N.length b)):=by
 simp[pv]at *;refine Fu.Ux S (LQ yr) λcdv A outer s H vs Q E hr ⟨θ,h,ds,w,r,p⟩=>⟨_,hbody cdv A outer s H E hr,?_⟩;unfold aY at p;split at p
 ·rename_i hl;refine⟨θ,h,_,w,Fr.start (n:=0) r hl,(aA.bind p).mono λfl θ1 h1 H1 _ _ ⟨ev,w1,p1⟩=>?_⟩
  cases fl with
  |nx ρ=>exact λσ fr=>p1 θ1 H1 Ev.refl w1 _ ⟨rfl,by rfl⟩
  |rt d=>exact p1 θ1 H1 Ev.refl w1
  |bk ρ=>trivial
  |ct ρ=>trivial
 ·trivial
theorem bU.mono(h:bU P w K mg base x ps j F)(l:j<=k):bU P w K mg base x ps k F:=by obtain⟨⟨f,fd,h1,h2,h3,h4⟩,ar⟩:=h;exact⟨⟨f,fd,h1,h2,h3,h4.mono l⟩,ar⟩
theorem bU.eq(h:bU P w K mg base x ps k F)(e:F=F'):bU P w K mg base x ps k F':=e▸h
end
section
variable {X:Cx} {E:XK} {x:Str} {ps:YH} {k:Nat} {F:Fn} {e:Expr} {es:YI} {ma:MA} {p pos:Pos}
theorem cv:Passes (uV X.prog X.w) X eQ:=by rintro _ _ _ _ _ _ _ ⟨_,_,_,_,_,_,_,_,_,_,_,_,_,h⟩;exact h.elim
theorem Q9(F':bU X.prog X.w X.K X.mg X.base x ps k F)(hx:Passes (uV X.prog X.w) X E)(hr:cE k X.A)(hg:Gl X x)(ha:DA X E ma (e::es))(hdb:(x==("__debug__" : Str))=false:=by decide)(he:starEach (e::es) X.env=(false,eval e X.env)::starEach es X.env:=by rfl)
 (hpl:(backTo pos (starEach es X.env)).any (·.1)=false:=by rfl):DE X E (af F ma) (.Call (.Name x p) (e::es) [] pos):=by
 simp only[bj,iV]at *;exact PE.imp (Pb F'.has hx hr hg ha hdb he hpl) (by rintro σ H Q ⟨θ,h,ρ,w,fr,p⟩;exact⟨θ,h,ρ,w,fr,(aA.bind p).mono (by rintro xs θ1 h1 H1 _ _ ⟨ev,w1,p1⟩ vs r;exact⟨θ1,h1,xs,w1,by grind,p1⟩)⟩)
end
theorem GO(hx:(match x with|.int _|.str _|.bool _|.none=>true|_=>false)=true)(r:RelV (OU x) u):Reads h u x []:=by
 cases x with
 |none=>cases r;exact .none
 |bool b=>cases r;exact .bool b
 |int i=>obtain⟨t,rfl⟩:=r;exact .int i t
 |str s=>obtain⟨t,rfl⟩:=r;exact .str s t
 |_=>cases hx
theorem lJ:∀{xs:YD} {us:YF},(∀x∈xs,(match x with|.int _|.str _|.bool _|.none=>true|_=>false)=true)->Vals (xs.map OU) us->ReadsAll h us xs []
 | [],us,_,r=>by cases r;exact .nil
 |x::xs,us,hx,r=>by
  cases r with
  |cons r1 r2=>exact .cons (GO (hx x (by simp)) r1) (lJ (λy m=>hx y (by simp[m])) r2)
section
variable {X:Cx} {pins:Yz} {σ:L2.St} {H:Hp} {s:YR} {θ:YE} {hm:Hm}
theorem gY(I:Inv X pins σ H s)(w:W X.G θ hm H):∀(n:Nat) {x:D} {v:V} {u:Value} {d:PyData},b9 X.G θ H x v->RelV v u->Du hm n x=some d->(∃as,Reads s.heap u d as)/\fj d=true:=by
 intro n
 induction n with
 |zero=>
  intro x v u d r rv e
  cases x with
  |dat d'=>simp only[Du]at e;cases e;exact⟨Rep.reads I (r.1.same (ax _ _)) rv,r.2⟩
  |ktup xs=>simp only[Du]at e;cases e;obtain⟨a,rfl,⟨o,its,k,hl,hc,hd,_,vs⟩,hx,hs⟩:=r;cases rv;exact⟨⟨_,.tuple (I.vk _ _ hl) hc hd (lJ hx vs)⟩,by assumption⟩
  |_=>simp[Du]at e
 |succ n ih=>
  intro x v u d r rv e
  cases x with
  |dat d'=>simp only[Du]at e;cases e;exact⟨Rep.reads I (r.1.same (ax _ _)) rv,r.2⟩
  |ktup xs=>simp only[Du]at e;cases e;obtain⟨a,rfl,⟨o,its,k,hl,hc,hd,_,vs⟩,hx,hs⟩:=r;cases rv;exact⟨⟨_,.tuple (I.vk _ _ hl) hc hd (lJ hx vs)⟩,by simpa [fj]using hs⟩
  |ref i=>
   simp only[Du]at e;obtain⟨a,ha,rfl⟩:=r;cases rv
   cases e1:hm[i]? with
   |none=>rw[e1]at e;cases e
   |some o=>
    rw[e1]at e
    cases o with
    |lst xs=>
     simp only at e;obtain⟨vs,hv,rs⟩:=w.obj i a _ ha e1;obtain⟨_,its,k,rvs,ho⟩:=I.hok a _ hv
     have all:∀{xs:List D} {vs:List V} {us:YF} {ds:YD},aO X.G θ H xs vs->Vals vs us->mO (Du hm n) xs=some ds->(∃as,ReadsAll s.heap us ds as)/\cF ds=true:=by
      intro xs
      induction xs with
      |nil=>intro vs us ds r1 r2 e;cases r1;cases r2;cases e;exact⟨⟨_,.nil⟩,by simp[cF]⟩
      |cons x xs ihx=>
       intro vs us ds r1 r2 e
       cases r1 with
       |cons p1 p2=>
        cases r2 with
        |cons q1 q2=>
         unfold mO at e
         cases e2:Du hm n x with
         |none=>rw[e2]at e;cases e
         |some d=>
          cases e3:mO (Du hm n) xs with
          |none=>rw[e2,e3]at e;cases e
          |some ds'=>rw[e2,e3]at e;cases e;obtain⟨⟨as,z1⟩,s1⟩:=ih p1 q1 e2;obtain⟨⟨bs,z2⟩,s2⟩:=ihx p2 q2 e3;exact⟨⟨_,.cons z1 z2⟩,by simp[cF,s1,s2]⟩
     cases e2:mO (Du hm n) xs with
     |none=>rw[e2]at e;cases e
     |some ds=>rw[e2]at e;cases e;obtain⟨⟨as,z⟩,s1⟩:=all rs rvs e2;exact⟨⟨_,.list ho rfl rfl (by simpa using z)⟩,by simpa [fj]using s1⟩
    |_=>cases e
  |_=>simp[Du]at e
end
end Ml
namespace PySem.SeqAt
open PySem PySem.MeetsSeq PySem.AutoSeq1
theorem vP(t:Addr)(its:YL)(m:Nat)(d2:Option Addr)(sl2:YJ)(l:Addr)(es:YK)(n:Nat)(dd:Option Addr)(sl:YJ) :
  Meets (Builtin.«tuple.__eq__» ⟨[.ref t,.ref l],[]⟩) (λ_ R s=>s.heap.get? t=some {cls:=.type "tuple",dict:=d2,data:=.seq its m,slots:=sl2}/\s.heap.get? l=some {cls:=.type "dict",dict:=dd,data:=.dict es n,slots:=sl}/\R (.ok (.ret .notImplemented)) s):=
 .of_wp λprog w A R s h=>by
  obtain⟨hp,g,d,tk,os⟩:=s;obtain⟨ht,hl,h⟩:=h;have f1:=F.sub_dict_tuple
  wp_walk using wpAny_loadPart' hl,XI hl,wpAny_loadPart' ht,XI ht
  grind
theorem vQ(t:Addr)(its:YL)(m:Nat)(d2:Option Addr)(sl2:YJ)(l:Addr)(es:YK)(n:Nat)(dd:Option Addr)(sl:YJ) :
  Meets (Builtin.«dict.__eq__» ⟨[.ref l,.ref t],[]⟩) (λ_ R s=>s.heap.get? t=some {cls:=.type "tuple",dict:=d2,data:=.seq its m,slots:=sl2}/\s.heap.get? l=some {cls:=.type "dict",dict:=dd,data:=.dict es n,slots:=sl}/\R (.ok (.ret .notImplemented)) s):=
 .of_wp λprog w A R s h=>by
  obtain⟨hp,g,d,tk,os⟩:=s;obtain⟨ht,hl,h⟩:=h;have f1:=F.sub_tuple_dict
  wp_walk using wpAny_loadPart' hl,XI hl,wpAny_loadPart' ht,XI ht
  grind
theorem vR{h:Heap}(ht:h.get? t=some {cls:=.type "tuple",dict:=d2,data:=.seq its m,slots:=sl2})
 (hl:h.get? l=some {cls:=.type "dict",dict:=dd,data:=.dict es n,slots:=sl}):t≠l:=λe=>by
 grind
theorem RcAt.zP(ht:s.heap.get? t=some {cls:=.type "tuple",dict:=d2,data:=.seq its m,slots:=sl2})
 (hl:s.heap.get? l=some {cls:=.type "dict",dict:=dd,data:=.dict es n,slots:=sl})(hu:A.units<cLine):RcAt A s (.ref t) (.ref l) false:=λprog w E Q h=>
 have ne  := vR ht hl
 rc_eq_decline_or ⟨_,ht,rfl⟩ ⟨_,hl,rfl⟩ (by decide) F.sub_dict_tuple Yh Xo
  (λ_ hq=>XN Yh ⟨_,ht,rfl⟩ F.entry_tuple_eq (F.args_tuple_eq_2 _ _) (vP t its m d2 sl2 l es n dd sl) ⟨ht,hl,hq⟩)
  (λ_ hq=>XN Xo ⟨_,hl,rfl⟩ F.entry_dict_eq (F.args_dict_eq_2 _ _) (vQ t its m d2 sl2 l es n dd sl) ⟨ht,hl,hq⟩)
  (λ_ hq=>wpAny_isSame_ref_other' ne ht hl (show Value.type "dict" ≠ Value.type "tuple" by decide) hq) (.inr hu) h
theorem EqAt.zP(ht:s.heap.get? t=some {cls:=.type "tuple",dict:=d2,data:=.seq its m,slots:=sl2})
 (hl:s.heap.get? l=some {cls:=.type "dict",dict:=dd,data:=.dict es n,slots:=sl})(hu:A.units<cLine):EqAt A s (.ref t) (.ref l) false:=
 .of_refs (vR ht hl) (.zP ht hl hu)
end PySem.SeqAt
namespace Ml
open PySem PySem.Spec L2
theorem DB(sa:fj d=true)(sb:fj e=true)(h:eqQ d e=some k):d.canLay0=true/\e.canLay0=true/\min d.depth e.depth<=40/\k=PyData.eqv d e:=by
 unfold eqQ at h;split at h
 ·rename_i hn;simp[noDict]at hn;cases h;exact⟨kn sa hn.1.1,kn sb hn.1.2,hn.2,rfl⟩
 grind
theorem Pd(ra:Reads s.heap a d as)(rb:Reads s.heap b e bs)(sa:fj d=true)(sb:fj e=true)(hu:A.units+41<cLine)(h:Hn d e=some k):SeqAt.EqAt A s a b k/\d.canLay0=true:=by
 unfold Hn at h;split at h
 ·cases h;cases ra
  cases rb with
  | @dict a' o' es n kvs as1 bs1 h1 h2 h3 h4 h5=>obtain⟨oc,od,dat,osl⟩:=o';cases h2;cases h3;exact⟨SeqAt.EqAt.LJ _ _ h1 #[1],by assumption⟩
 ·split at h
  ·rename_i hn;simp only[noDict,WM]at hn;cases h;have hl:=kn sa hn
   cases ra with
   | @tuple l o vs m xs as1 g1 g2 g3 g4=>
    obtain⟨oc2,od2,dat2,osl2⟩:=o;cases g2;cases g3
    cases rb with
    | @dict a' o' es n kvs as1 bs1 h1 h2 h3 h4 h5=>obtain⟨oc,od,dat,osl⟩:=o';cases h2;cases h3;exact⟨SeqAt.EqAt.zP g1 h1 #[1],hl⟩
  grind
 ·obtain⟨l1,l2,l3,rfl⟩:=DB sa sb h;exact⟨X5 _ _ A s a b as bs ra rb l1 l2 #[1],l1⟩
theorem aA.lK(p:aA G E θ H (.ok d h) (KV G Q))(w:W G θ h H)(r:b9 G θ H d v):Q v H:=p θ H Ev.refl w v r
theorem b0(b:Bool):b9 G θ H (.bool b) (.bl b):=⟨rfl,by rfl⟩
theorem cw(i:Int):b9 G θ H (.int i) (.int i):=⟨rfl,by rfl⟩
theorem GP:b9 G θ H D.none .non:=⟨rfl,by rfl⟩
section
variable {X:Cx} {E:XK} {k:Nat}
theorem vS(hr:cE k X.A):pA X E (compareOp .Eq) oEq:=by
 rintro pins s σ H x y v u Q I rx ry ⟨θ,h,d1,d2,w,r1,r2,p⟩;unfold oEq at p;split at p
 ·exact QG pins s σ H x y v u Q I rx ry (by cases r1;cases r2;exact⟨rfl,by simpa using p.lK w (b0 _)⟩)
 ·cases e1:KD h d1 with
  |none=>rw[e1]at p;exact p.elim
  |some d=>
   cases e2:KD h d2 with
   |none=>rw[e1,e2]at p;exact p.elim
   |some e=>
    rw[e1,e2]at p;simp only at p
    cases e3:eqQ d e with
    |none=>rw[e3]at p;exact p.elim
    |some b=>rw[e3]at p;obtain⟨⟨as,z1⟩,s1⟩:=gY I w 3 r1 rx e1;obtain⟨⟨bs,z2⟩,s2⟩:=gY I w 3 r2 ry e2;obtain⟨l1,l2,l3,rfl⟩:=DB s1 s2 e3;exact SeqAt.compareEq_reads z1 z2 l1 l2 (by have:=hr.units;omega) ⟨.bl _,H,I,rfl,p.lK w (b0 _)⟩
theorem DC(hr:cE k X.A):pA X E (compareOp .NotEq) uW:=by
 rintro pins s σ H x y v u Q I rx ry ⟨θ,h,d1,d2,w,r1,r2,p⟩;unfold uW at p;split at p
 ·exact QH pins s σ H x y v u Q I rx ry (by cases r1;cases r2;exact⟨rfl,by simpa using p.lK w (b0 _)⟩)
 ·cases e1:KD h d1 with
  |none=>rw[e1]at p;exact p.elim
  |some d=>
   cases e2:KD h d2 with
   |none=>rw[e1,e2]at p;exact p.elim
   |some e=>
    rw[e1,e2]at p;simp only at p
    cases e3:eqQ d e with
    |none=>rw[e3]at p;exact p.elim
    |some b=>rw[e3]at p;obtain⟨⟨as,z1⟩,s1⟩:=gY I w 3 r1 rx e1;obtain⟨⟨bs,z2⟩,s2⟩:=gY I w 3 r2 ry e2;obtain⟨l1,l2,l3,rfl⟩:=DB s1 s2 e3;exact SeqAt.compareNe_reads z1 z2 l1 l2 (by have:=hr.units;omega) ⟨.bl _,H,I,rfl,p.lK w (b0 _)⟩
theorem zQ(rx:Reads s.heap x d bs)(sx:fj d=true)(hu:A.units+41<cLine):∀{vs:YF} {ds:YD} {as:YE} {b:Bool},ReadsAll s.heap vs ds as->cF ds=true->Ij d ds=some b ->
  (∀y∈vs,SeqAt.EqAt A s y x ((Hn (SeqAt.readOf s.heap y) d).getD false))/\(vs.any λy=>(Hn (SeqAt.readOf s.heap y) d).getD false)=b
 | [],_,_,b,.nil,_,e=>by cases e;grind
 |v::vs,_,_,b,.cons (d:=d1) (ds:=ds) r1 r2,so,e=>by
  simp only[cF,UH]at so;unfold Ij at e
  cases e1:Hn d1 d with
  |none=>simp_all
  |some b1=>
   cases e2:Ij d ds with
   |none=>simp_all
   |some b2=>
    rw[e1,e2]at e;cases e;obtain⟨h1,h2⟩:=zQ rx sx hu r2 so.2 e2;obtain⟨q1,q2⟩:=Pd r1 rx so.1 sx hu e1;have er:SeqAt.readOf s.heap v=d1:=SeqAt.readOf_eq q2 r1
    grind
theorem IG(hr:cE k X.A){σ:L2.St}(hsq:sq=.tuple ds\/sq=.list ds)(I:Inv X pins σ H s)(z1:Reads s.heap v d as)(z2:Reads s.heap u sq bs)(s1:fj d=true)(s2:cF ds=true)(e:Ij d ds=some b) :
  (Q (.bl b) H->wpAny (model X.prog X.w) X.A (compareOp .In v u) (EP X pins σ Q) X.xe s)/\(Q (.bl !b) H->wpAny (model X.prog X.w) X.A (compareOp .NotIn v u) (EP X pins σ Q) X.xe s):=by
 have hu:X.A.in1.units+41<cLine:=by have:=hr.units;grind
 rcases hsq with rfl|rfl
 ·cases z2 with
  |tuple h1 h2 h3 h4=>
   obtain⟨q1,q2⟩:=zQ (A:=X.A.in1) z1 s1 hu h4 s2 e;rename_i vs n;have q3:(vs.any λy=>(Hn (SeqAt.readOf s.heap y) d).getD false)=b:=by grind
   exact⟨λq=>SeqAt.in_tupleAt _ ⟨_,h1,h2,_,h3⟩ (λy m=>q1 y (WH.mpr m)) (by rw[q3];exact⟨.bl b,H,I,rfl,q⟩),λq=>SeqAt.notIn_tupleAt _ ⟨_,h1,h2,_,h3⟩ (λy m=>q1 y (WH.mpr m)) (by rw[q3];exact⟨.bl (!b),H,I,rfl,q⟩)⟩
 ·cases z2 with
  |list h1 h2 h3 h4=>
   obtain⟨q1,q2⟩:=zQ (A:=X.A.in1) z1 s1 hu h4 s2 e;rename_i vs n _;have q3:(vs.any λy=>(Hn (SeqAt.readOf s.heap y) d).getD false)=b:=by rw[<- q2,<- Array.any_toList]
   exact⟨λq=>SeqAt.in_listAt _ ⟨_,h1,h2,_,h3⟩ (λy m=>q1 y (WH.mpr m)) (by rw[q3];exact⟨.bl b,H,I,rfl,q⟩),λq=>SeqAt.notIn_listAt _ ⟨_,h1,h2,_,h3⟩ (λy m=>q1 y (WH.mpr m)) (by rw[q3];exact⟨.bl (!b),H,I,rfl,q⟩)⟩
end
end Ml
namespace PySem.SeqAt
open PySem.AutoSeq1 (wpAny_loadPart')
open PySem.MeetsSeq PySem.MeetsSeq2 PySem.MeetsSeq3
def IH(A:YQ)(s:YR)(y x:Value)(b:Bool):Prop:=
 ∀(prog:YN) (w:World) (E:Yy) (Q:Yy),Q (.bool b) s->wpAny (model prog w) A (richCompare .Lt y x) Q E s
inductive oP (A:YQ) (s:YR):YF->YF->Bool->Prop
 |nil:oP A s [] [] false
 |left {w ws}:oP A s [] (w::ws) true
 |right {v vs}:oP A s (v::vs) [] false
 |eq {v vs w ws k}:EqAt A s v w true->oP A s vs ws k->oP A s (v::vs) (w::ws) k
 |ne {v vs w ws k}:EqAt A s v w false->IH A s v w k->oP A s (v::vs) (w::ws) k
theorem qJ(l b:Addr)(its1 its2:YL)(n n2:Nat)(dd dd2:Option Addr)(sl sl2:YJ)(k:Bool) :
  Meets (Builtin.«tuple.__lt__» ⟨[.ref l,.ref b],[]⟩) (λA R s=>s.heap.get? l=some {cls:=.type "tuple",dict:=dd,data:=.seq its1 n,slots:=sl}/\s.heap.get? b=some {cls:=.type "tuple",dict:=dd2,data:=.seq its2 n2,slots:=sl2}/\oP A.in1 s its1.toList its2.toList k/\R (.ok (.ret (.bool k))) s):=
 .of_wp λprog w A R s h=>by
  obtain⟨hp,g,d,tk,os⟩:=s;obtain⟨hl,hb,hx,h⟩:=h;have f2:=AutoSeq1.sub_tuple_tuple
  wp_walk using wpAny_loadPart' hl,wpAny_loadPart' hb,wpAny_forIn_list _ (λrest b s'=>b.1=none/\s'=⟨hp,g,d,tk,os⟩/\∃(vs ws:YF),rest=vs.zip ws/\oP A.in1 ⟨hp,g,d,tk,os⟩ vs ws k/\vs.length+its2.size=ws.length+its1.size/\R (.ok (.ret (.bool k))) ⟨hp,g,d,tk,os⟩) _
  case turn=>
   rintro⟨y,x⟩ rest b s' ⟨hb',rfl,vs,ws,hz,hx,hlen,hR⟩
   cases hx with
   |nil=>rw[List.zip_nil_left]at hz;cases hz
   |left=>rw[List.zip_nil_left]at hz;cases hz
   |right=>rw[List.zip_nil_right]at hz;cases hz
   | @eq v vs w' ws k he hx'=>
    rw[WB]at hz;injection hz with hyx hrest;injection hyx with hy hx;subst hy hx;simp only[Vf]at hlen;refine UC (he prog w _ _ ?_)
    wp_walk
    exact⟨rfl,rfl,_,_,hrest,hx',by omega,hR⟩
   | @ne v vs w' ws k he hlt=>
    rw[WB]at hz;injection hz with hyx hrest;injection hyx with hy hx;subst hy hx;refine UC (he prog w _ _ ?_);have hri:=hlt prog w
    wp_walk using hri
    exact⟨_,rfl,by simpa using hR⟩
  case fin=>
   rintro⟨b1,b2⟩ s' ⟨hb',rfl,vs,ws,hz,hx,hlen,hR⟩;simp only at hb';subst hb'
   have hv:k=decide (its1.size<its2.size):=by
    cases hx with
    |nil=>simp only[V9]at hlen;exact(VR #[1]).symm
    |left=>simp only[V9,Vf]at hlen;exact(WX #[1]).symm
    |right=>simp only[V9,Vf]at hlen;exact(VR #[1]).symm
    |eq=>rw[WB]at hz;cases hz
    |ne=>rw[WB]at hz;cases hz
   rw[hv]at hR
   wp_walk
   exact⟨_,rfl,by simpa [Builtin.Tuple.tupleCompareSizes]using hR⟩
  case h=>exact⟨rfl,rfl,its1.toList,its2.toList,rfl,hx,by simp;omega,h⟩
theorem IH.tuples(h1:s.heap.IsTuple l its1)(h2:s.heap.IsTuple b its2)(hu:A.units<cLine)(hx:oP A.in1 s its1.toList its2.toList k):IH A s (.ref l) (.ref b) k:=λprog w E Q h=>by
 obtain⟨⟨c1,d1,e1,l1⟩,p1,g1,n1,z1⟩:=h1;obtain⟨⟨c2,d2,e2,l2⟩,p2,g2,n2,z2⟩:=h2;subst g1 z1 g2 z2
 exact richCompare_meets_room ⟨_,p1,rfl⟩ ⟨_,p2,rfl⟩ X2 PySem.F.entry_tuple_lt (PySem.F.args_tuple_lt_2 _ _) (qJ l b _ _ n1 n2 d1 d2 l1 l2 k)
  ⟨p1,p2,hx,⟨(λx=>nomatch x),h⟩⟩ hu
end PySem.SeqAt
namespace Ml
open PySem PySem.Spec L2
open PySem.SeqAt
mutual
theorem qK:∀(d e:PyData) (A:YQ) (s:YR) (a b:Value) (as bs:YE) (k:Bool),Reads s.heap a d as->Reads s.heap b e bs->d.canLay0=true->e.canLay0=true->A.units+min d.depth e.depth<cLine->cg d e=some k->IH A s a b k
 |.int i,.int j,A,s,a,b,as,bs,k,ra,rb,_,_,_,h=>by cases ra;cases rb;simp only[cg]at h;cases h;exact λprog w E Q q=>(PyProof.Rows.lt_int q:wpAny (model prog w) A (compareOp .Lt _ _) Q E s)
 |.str x,.str y,A,s,a,b,as,bs,k,ra,rb,_,_,_,h=>by cases ra;cases rb;simp only[cg,pb]at h;cases h;exact λprog w E Q q=>(PySem.P.lt_str q:wpAny (model prog w) A (compareOp .Lt _ _) Q E s)
 |.tuple xs,.tuple ys,A,s,a,b,as,bs,k,ra,rb,ha,hb,hu,h=>by
  cases ra with
  |tuple g1 g2 g3 g4=>
   cases rb with
   |tuple k1 k2 k3 k4=>simp only[cg]at h;simp only[PyData.canLay0]at ha hb;simp only[PyData.depth]at hu;exact IH.tuples ⟨_,g1,g2,_,g3⟩ ⟨_,k1,k2,_,k3⟩ #[1] (sH xs ys A.in1 s _ _ _ _ k g4 k4 ha hb (by show A.units+1+_<_;omega) h)
 |.none,_,_,_,_,_,_,_,_,_,_,_,_,_,h=>by simp[cg]at h
 |.bool _,_,_,_,_,_,_,_,_,_,_,_,_,_,h=>by simp[cg]at h
 |.list _,_,_,_,_,_,_,_,_,_,_,_,_,_,h=>by simp[cg]at h
 |.dict _,_,_,_,_,_,_,_,_,_,_,_,_,_,h=>by simp[cg]at h
 |.int _,.none,_,_,_,_,_,_,_,_,_,_,_,_,h=>by simp[cg]at h
 |.int _,.bool _,_,_,_,_,_,_,_,_,_,_,_,_,h=>by simp[cg]at h
 |.int _,.str _,_,_,_,_,_,_,_,_,_,_,_,_,h=>by simp[cg]at h
 |.int _,.list _,_,_,_,_,_,_,_,_,_,_,_,_,h=>by simp[cg]at h
 |.int _,.tuple _,_,_,_,_,_,_,_,_,_,_,_,_,h=>by simp[cg]at h
 |.int _,.dict _,_,_,_,_,_,_,_,_,_,_,_,_,h=>by simp[cg]at h
 |.str _,.none,_,_,_,_,_,_,_,_,_,_,_,_,h=>by simp[cg]at h
 |.str _,.bool _,_,_,_,_,_,_,_,_,_,_,_,_,h=>by simp[cg]at h
 |.str _,.int _,_,_,_,_,_,_,_,_,_,_,_,_,h=>by simp[cg]at h
 |.str _,.list _,_,_,_,_,_,_,_,_,_,_,_,_,h=>by simp[cg]at h
 |.str _,.tuple _,_,_,_,_,_,_,_,_,_,_,_,_,h=>by simp[cg]at h
 |.str _,.dict _,_,_,_,_,_,_,_,_,_,_,_,_,h=>by simp[cg]at h
 |.tuple _,.none,_,_,_,_,_,_,_,_,_,_,_,_,h=>by simp[cg]at h
 |.tuple _,.bool _,_,_,_,_,_,_,_,_,_,_,_,_,h=>by simp[cg]at h
 |.tuple _,.int _,_,_,_,_,_,_,_,_,_,_,_,_,h=>by simp[cg]at h
 |.tuple _,.str _,_,_,_,_,_,_,_,_,_,_,_,_,h=>by simp[cg]at h
 |.tuple _,.list _,_,_,_,_,_,_,_,_,_,_,_,_,h=>by simp[cg]at h
 |.tuple _,.dict _,_,_,_,_,_,_,_,_,_,_,_,_,h=>by simp[cg]at h
theorem sH:∀(xs ys:YD) (A:YQ) (s:YR) (vs ws:YF) (as bs:YE) (k:Bool),ReadsAll s.heap vs xs as->ReadsAll s.heap ws ys bs->PyData.canLayAll0 xs=true->PyData.canLayAll0 ys=true->A.units+min (PyData.depthAll xs) (PyData.depthAll ys)<cLine->dw xs ys=some k->oP A s vs ws k
 | [],[],A,s,vs,ws,as,bs,k,ra,rb,_,_,_,h=>by cases ra;cases rb;simp only[dw]at h;cases h;exact .nil
 | [],_::_,A,s,vs,ws,as,bs,k,ra,rb,_,_,_,h=>by cases ra;cases rb;simp only[dw]at h;cases h;exact .left
 |_::_,[],A,s,vs,ws,as,bs,k,ra,rb,_,_,_,h=>by cases ra;cases rb;simp only[dw]at h;cases h;exact .right
 |x::xs,y::ys,A,s,vs,ws,as,bs,k,ra,rb,ha,hb,hu,h=>by
  cases ra with
  |cons r1 r2=>
   cases rb with
   |cons q1 q2=>
    simp only[PyData.canLayAll0,UH]at ha hb;simp only[PyData.depthAll]at hu;have he:=eqAt_reads x y A s _ _ _ _ r1 q1 ha.1 hb.1 #[1];simp only[dw]at h
    cases hq:PyData.eqv x y with
    |true=>rw[hq]at he h;exact .eq he (sH xs ys A s _ _ _ _ k r2 q2 ha.2 hb.2 #[1] (by simpa using h))
    |false=>rw[hq]at he h;exact .ne he (qK x y A s _ _ _ _ k r1 q1 ha.1 hb.1 #[1] (by simpa using h))
end
section
variable {X:Cx} {E:XK} {k:Nat}
theorem Pf(hr:cE k X.A):pA X E (compareOp .Lt) oLt:=by
 rintro pins s σ H x y v u Q I rx ry ⟨θ,h,d1,d2,w,r1,r2,p⟩;unfold oLt at p
 cases d1 with
 |dat d=>
  cases d2 with
  |dat e=>
   simp only at p;split at p
   ·rename_i hn;simp only[UH,noDict,WM,Vi]at hn
    cases e3:cg d e with
    |none=>rw[e3]at p;exact p.elim
    |some b=>rw[e3]at p;obtain⟨⟨as,z1⟩,s1⟩:=gY I w 3 r1 rx (E7 h 3 d);obtain⟨⟨bs,z2⟩,s2⟩:=gY I w 3 r2 ry (E7 h 3 e);exact qK d e X.A s v u as bs b z1 z2 (kn s1 hn.1.1) (kn s2 hn.1.2) (by have:=hr.units;omega) e3 X.prog X.w X.xe _ ⟨.bl b,H,I,rfl,p.lK w (b0 b)⟩
   ·trivial
  |_=>trivial
 |_=>trivial
theorem Ni(h:jL X op (rI C g))(k:∀θ hm H d1 d2 Q,W X.G θ hm H->aA X.G (qi X.G E) θ H (f d1 d2 hm) (KV X.G Q)->∃i j,d1=.int i/\d2=.int j/\C i j/\Q (g i j) H):pA X E op f:=
 pA.of h λθ hm H d1 d2 x y Q w r1 r2 p=>by obtain⟨i,j,rfl,rfl,c,q⟩:=k θ hm H d1 d2 Q w p;exact⟨i,j,bQ r1,bQ r2,c,q⟩
theorem DD(h:jL X op (M4 g))(k:∀θ hm H d1 d2 Q,W X.G θ hm H->aA X.G (qi X.G E) θ H (f d1 d2 hm) (KV X.G Q)->∃i j,d1=.int i/\d2=.int j/\Q (g i j) H):pA X E op f:=
 pA.of h λθ hm H d1 d2 x y Q w r1 r2 p=>by obtain⟨i,j,rfl,rfl,q⟩:=k θ hm H d1 d2 Q w p;exact⟨i,j,bQ r1,bQ r2,q⟩
theorem Nj:pA X E (binaryOp .Sub) xN:=DD Ob λθ hm H d1 d2 Q w p=>by
 unfold xN at p;split at p
 ·exact⟨_,_,rfl,rfl,p.lK w (cw _)⟩
 ·trivial
theorem yt:pA X E (binaryOp .Mod) oMod:=Ni Od λθ hm H d1 d2 Q w p=>by
 unfold oMod at p;split at p
 ·split at p
  ·rename_i hj;exact⟨_,_,rfl,rfl,hj,p.lK w (cw _)⟩
  ·trivial
 ·trivial
theorem vT:pA X E (binaryOp .FloorDiv) jX:=Ni KY λθ hm H d1 d2 Q w p=>by
 unfold jX at p;split at p
 ·split at p
  ·rename_i hj;exact⟨_,_,rfl,rfl,hj,p.lK w (cw _)⟩
  ·trivial
 ·trivial
theorem GQ:pA X E (compareOp .Gt) Bj:=DD QK λθ hm H d1 d2 Q w p=>by
 unfold Bj at p;split at p
 ·exact⟨_,_,rfl,rfl,p.lK w (b0 _)⟩
 ·trivial
theorem Te:pA X E (compareOp .GtE) Q6:=DD QL λθ hm H d1 d2 Q w p=>by
 unfold Q6 at p;split at p
 ·exact⟨_,_,rfl,rfl,p.lK w (b0 _)⟩
 ·trivial
theorem Bu:pA X E (compareOp .LtE) oLe:=pA.of (jL.or QJ GC) λθ hm H d1 d2 x y Q w r1 r2 p=>by
 unfold oLe at p;split at p
 ·exact .inl ⟨_,_,bQ r1,bQ r2,p.lK w (b0 _)⟩
 ·exact .inr ⟨_,_,r1.1,r2.1,p.lK w (b0 _)⟩
 ·trivial
end
end Ml
set_option maxHeartbeats 1000000
namespace Ml
open PySem PySem.Spec L2 PyProof.Rows PySem.W
def tP:PyData->Nat
 |.int _=>0
 |.str _=>1
 |_=>2
def II:Nat->String
 |0 => "int"
 |1 => "str"
 |_ => "tuple"
theorem vU(h1:h.get? a=some o)(h2:o.cls=.type "tuple"):Looks M h (typeOf (.ref a)) (.type "tuple"):=by obtain⟨oc,od,dat,osl⟩:=o;cases h2;exact(Looks.ld h1).andThen .now
theorem GR(r:Reads h v d as)(t:av d=true):Looks M h (typeOf v) (.type (II (tP d))):=by
 cases r with
 |int i t=>exact .now
 |str x t=>exact .now
 |tuple h1 h2 h3 h4=>exact vU h1 h2
 |_=>trivial
def Ra(h:Heap)(f:Option Value)(d:PyData):Prop:=match d with
 |.tuple []=>f=none
 |.tuple (x::_)=>∃u bs,f=some u/\Reads h u x bs
 |_=>False
section
variable {P:YN} {w:World} {A:YQ} {E:Yy} {s:YR}
theorem tQ:∀{vs:YF} {ds:YD} {as:YE} {Q:List (Option Value)->YR->Prop},ReadsAll s.heap vs ds as->ds.all fU=true->(∀fs,Paired (Ra s.heap) fs ds->Q fs s)->wpAny M A (vs.mapM firstOfTuple') Q E s
 |_,_,_,Q,.nil,_,h=>by rw[List.mapM_nil];exact UD (h [] .nil)
 |_,_,_,Q,.cons r t,al,h=>by
  simp only[List.all_cons,UH]at al;rw[List.mapM_cons];refine UC ?_
  cases r with
  |tuple h1 h2 h3 h4=>
   rename_i o its n xs;rw[kas_first_eq];refine UC (Looks.here (vU h1 h2) ?_);rw[if_neg (by first|decide|simp)];refine UC (PyProof.Rows.listItems_at h1 h3 (UD ?_));refine UC (tQ t al.2 λfs hf=>UD (h _ (.cons ?_ hf)));have e0:its[0]?=its.toList[0]?:=by simp
   rw[e0];generalize its.toList=l at h4
   cases h4 with
   |nil=>rfl
   |cons r1 r2=>exact⟨_,_,rfl,r1⟩
  |_=>simp[fU]at al
theorem tR(t:aB ds=true)(c:dU ds=true)(h1:.tuple (x::xs)∈ds)(h2:.tuple (y::ys)∈ds):tP x=tP y:=by
 have t1:=bf t h1;have t2:=bf t h2;simp[av,aB]at t1 t2;have q:=fG c h1 h2;simp[cg,dw]at q;by_cases e:x=y
 ·rw[e]
 ·rw[bq t1.1 t2.1 e,if_neg (by simp)]at q;cases x<;>cases y<;>first|rfl|trivial|rfl|rfl
theorem om:∀{fs:List (Option Value)} {ds:YD},Paired (Ra h) fs ds->∀v∈fs.filterMap id,∃x xs bs,.tuple (x::xs)∈ds/\Reads h v x bs
 |_,_,.nil,v,hv=>by grind
 |_,_,.cons (a:=f) (l₁:=fs) (b:=d) r p,v,hv=>by
  cases d with
  |tuple ys=>
   cases ys with
   |nil=>obtain rfl:f=none:=r;obtain⟨x,xs,bs,m,q⟩:=om p v (by simp_all);exact⟨x,xs,bs,by simp[m],q⟩
   |cons y ys=>
    obtain⟨u,bs,rfl,q⟩:=r;rcases(show v=u\/some v∈fs by simp_all)with rfl|hv
    ·exact⟨y,ys,bs,by simp,q⟩
    ·obtain⟨x,xs,bs,m,q⟩:=om p v (by simpa using hv);exact⟨x,xs,bs,by simp[m],q⟩
  |_=>exact(show False from r).elim
theorem readsAll_len:∀{vs:YF} {ds:YD} {as:YE},ReadsAll h vs ds as->vs.length=ds.length
 |_,_,_,.nil=>rfl
 |_,_,_,.cons _ t=>by simp[readsAll_len t]
theorem vV:∀{vs:YF} {ds:YD} {as:YE},ReadsAll h vs ds as->ds.all fU=true->∀v∈vs,Looks M h (typeOf v) (.type "tuple")
 |_,_,_,.nil,_,v,hv=>by cases hv
 |_,_,_,.cons r1 r2,al,v,hv=>by
  simp only[List.all_cons,UH]at al;rcases UP.mp hv with rfl|hv
  ·cases r1 with
   |tuple g1 g2 g3 g4=>exact vU g1 g2
   |_=>grind[fU]
  ·exact vV r2 al.2 v hv
theorem GS(r:ReadsAll s.heap vs ds as)(al:ds.all fU=true)(t:aB ds=true)(c:dU ds=true)(h2:1<=vs.length)
 (h1:∀b,(b=true->∀x xs,.tuple (x::xs)∈ds->tP x≠2)->Q (tuples' b) s)(h3:Q general' s)(h4:Q oneType' s):wpAny M A (keyKind' vs.toArray) Q E s:=by
 rw[PyProof.Rows.kat_kind_eq,List.mapM_toArray,map_eq_pure_bind];refine UC (UC (tQ r al λfs hf=>UD ?_));have hl:fs.length=ds.length:=U3 hf;have hl2:vs.length=ds.length:=readsAll_len r;split
 ·rename_i hall;refine UC (V5 ?_);have e:(fs.toArray.filterMap id)=(fs.filterMap id).toArray:=by simp
  rw[e];have hall':∀f∈fs,f.isSome=true:=by simpa using hall
  obtain⟨u,us,eu⟩:∃u us,fs.filterMap id=u::us:=by
   match fs,hl,hall' with
   | [],hl,_=>simp at hl;omega
   |none::_,_,ha=>have:=ha none (.head _);cases this
   |some x::r,_,_=>exact⟨x,r.filterMap id,by simp⟩
  obtain⟨x,xs,bs,mx,rx⟩:=om hf u (by rw[eu];simp);have tx:av x=true:=by have:=bf t mx;simp only[av,aB,UH]at this;exact this.1
  refine UC (Bi (T:=.type (II (tP x))) (by rw[eu];simp) (λv hv=>?_) (by simp) ?_)
  ·obtain⟨y,ys,bs,my,ry⟩:=om hf v hv;have ty:av y=true:=by have:=bf t my;simp only[av,aB,UH]at this;exact this.1
   rw[tR t c mx my];exact GR ry ty
  ·refine UD (h1 _ λhb y ys my=>?_);rw[<- tR t c mx my];intro z;rw[z]at hb;exact absurd hb (by decide)
 ·split
  ·exact UD h3
  ·refine UC (Bi (T:=.type "tuple") h2 (λv hv=>?_) (by rfl) ?_)
   ·exact vV r al v hv
   ·exact UD h4
theorem Bv:∀{us vs:YF} {xs ys:YD} {as bs:YE} (i:Nat) (fin k:Bool),ReadsAll s.heap us xs as->ReadsAll s.heap vs ys bs->aB xs=true->aB ys=true->PyData.canLayAll0 xs=true->PyData.canLayAll0 ys=true ->
  A.units+min (PyData.depthAll xs) (PyData.depthAll ys)<cLine->fin=decide (xs.length<ys.length)->(b=true->i=0->∀x∈xs.head?,tP x≠2)->dw xs ys=some k->Q k s->KatLex P w A b fin Q (us.zip vs) i s:=by
 intro us vs xs
 induction xs generalizing us vs with
 |nil=>
  intro ys as bs i fin k r q _ _ _ _ _ e _ h z;subst e;cases r
  cases q with
  |nil=>simp[dw]at h;subst h;exact PySem.W.kat_nil z
  |cons=>simp[dw]at h;subst h;exact PySem.W.kat_nil (by simpa using z)
 |cons x xs ih=>
  intro ys as bs i fin k r qq t1 t2 l1 l2 hu e hb h q
  cases r with
  |cons r1 r2=>cases qq with
   |nil=>subst e;simp[dw]at h;subst h;exact PySem.W.kat_nil (by simpa using q)
   | @cons _ _ y ys _ _ q1 q2=>
    rw[WB];refine PySem.W.kat_cons ?_;simp only[aB,PyData.canLayAll0,UH]at t1 t2 l1 l2;simp only[PyData.depthAll]at hu;refine X5 x y A s _ _ _ _ r1 q1 l1.1 l2.1 #[1] P w _ _ ?_;simp only[dw]at h
    cases hq:PyData.eqv x y with
    |true=>rw[hq,if_pos rfl]at h;exact PySem.W.kat_yes (ih (i+1) fin k r2 q2 t1.2 t2.2 l1.2 l2.2 #[1] (by rw[e];simp) (λ_ z=>by omega) h q)
    |false=>
     rw[hq,if_neg (by simp)]at h;refine PySem.W.kat_no ?_;have fin2:wpAny (model P w) A (oneLt' false _ _) Q (λ_ _=>False) s:=kat_one _ _ (qK x y A s _ _ _ _ k r1 q1 l1.1 l2.1 #[1] h P w (λ_ _=>False) _ q)
     cases hbi:(b&&i==0)with
     |false=>exact fin2
     |true=>
      simp only[UH,Yt]at hbi;have kx:=hb hbi.1 hbi.2 x (by simp)
      cases x with
      |int i1=>
       cases y with
       |int j1=>cases r1;cases q1;simp only[cg]at h;cases h;exact oneLt_int q
       |_=>simp[cg]at h
      |str i1=>
       cases y with
       |str j1=>cases r1;cases q1;simp only[cg,pb]at h;cases h;exact oneLt_str q
       |_=>simp[cg]at h
      |_=>exact absurd rfl kx
theorem DF(hu:A.units+41<cLine)(rx:Reads s.heap x (.tuple xs) as)(ry:Reads s.heap y (.tuple ys) bs)(t1:aB xs=true)(t2:aB ys=true)(l1:PyData.canLayAll0 xs=true)(l2:PyData.canLayAll0 ys=true)
 (hd:PyData.depthAll xs<=20)(h:dw xs ys=some k)(κ:SortKind)(hκ:(∃b,κ=tuples' b/\(b=true->∀x∈xs.head?,tP x≠2))\/κ=general'\/κ=oneType')(q:Q k s):wpAny (model P w) A (keyLt' κ x y) Q (λ_ _=>False) s:=by
 have ex:=rx;have ey:=ry
 cases rx with
 |tuple g1 g2 g3 g4=>
  rename_i o1 i1 n1
  cases ry with
  |tuple k1 k2 k3 k4=>
   rename_i o2 i2 n2;rcases hκ with⟨b,rfl,hb⟩|rfl|rfl
   ·refine kat_lt g1 g3 k1 k3 (Bv 0 _ k g4 k4 t1 t2 l1 l2 #[1] ?_ (λhb' _=>hb hb') h q);have z1:=readsAll_len g4;have z2:=readsAll_len k4
    grind
   ·show wpAny (model P w) A (oneLt' false _ _) Q _ s;exact kat_one _ _ (qK (.tuple xs) (.tuple ys) A s _ _ _ _ k ex ey (by simpa [PyData.canLay0]using l1) (by simpa [PyData.canLay0]using l2) (by simp only[PyData.depth];omega) (by simpa [cg]using h) P w (λ_ _=>False) _ q)
   ·rw[keyLt'_oneType,oneLt'_eq];simp only[VC];refine UC (wpAny_cRoomFor #[1] ?_);obtain⟨c1,d1,e1,sl1⟩:=o1;obtain⟨c2,d2,e2,sl2⟩:=o2;cases g2;cases g3;cases k2;cases k3;refine UC (wpAny_callSpecialIfBound?_slot ⟨_,g1,rfl⟩ X2 (XN X2 ⟨_,g1,rfl⟩ PySem.F.entry_tuple_lt (PySem.F.args_tuple_lt_2 _ _) (SeqAt.qJ _ _ _ _ n1 n2 d1 d2 sl1 sl2 k) ⟨g1,k1,sH xs ys _ s _ _ _ _ k g4 k4 l1 l2 (by show A.units+1+_<_;omega) h,?_⟩));exact VN q
theorem sI:∀{vs:YF} {ds:YD} {as:YE} (i:Nat),ReadsAll h vs ds as->i<vs.length->∃bs,Reads h (vs.getD i .none) (ds.getD i .none) bs
 |_,_,_,i,.nil,hi=>by grind
 |_,_,_,0,.cons r1 _,_=>⟨_,r1⟩
 |_,_,_,i+1,.cons _ r2,hi=>by simpa using sI i r2 (by simp_all)
theorem getD_mem{α:Type}{xs:List α}{d:α}(h:i<xs.length):xs.getD i d∈xs:=by simp[h]
theorem vW:∀{ds:YD} {d:PyData},PyData.canLayAll0 ds=true->d∈ds->d.canLay0=true
 |_::_,d,h,m=>by
  simp[PyData.canLayAll0]at h;rcases UP.mp m with rfl|m
  ·grind
  ·exact vW h.2 m
theorem vX:∀{ds:YD} {d:PyData},d∈ds->d.depth<=PyData.depthAll ds
 |_::_,d,m=>by
  rcases UP.mp m with rfl|m
  ·exact Nat.le_max_left _ _
  ·exact UO (vX m) (Nat.le_max_right _ _)
theorem yu(hu:A.units+41<cLine)(r:ReadsAll s.heap vs ds as)(al:ds.all fU=true)(t:aB ds=true)(c:dU ds=true)(l:PyData.canLayAll0 ds=true)(hd:PyData.depthAll ds<=20)(h2:1<=vs.length) :
  Ic P w A vs (λi j=>ltB (ds.getD i .none) (ds.getD j .none)) s:=by
 have hlen:=readsAll_len r
 have tup:∀{i:Nat},i<vs.length->∃xs bs,ds.getD i .none=.tuple xs/\.tuple xs∈ds/\Reads s.heap (vs.getD i .none) (.tuple xs) bs:=λ{i} hi=>by
  obtain⟨bs,q⟩:=sI i r hi;have m:ds.getD i .none∈ds:=getD_mem #[1];have a:=UW.mp al _ m
  cases e:ds.getD i .none with
  |tuple xs=>grind
  |_=>rw[e]at a;simp[fU]at a
 have key:∀κ,((∃b,κ=tuples' b/\(b=true->∀x xs,.tuple (x::xs)∈ds->tP x≠2))\/κ=general'\/κ=oneType')->s=s/\∀i j C,i<vs.length->j<vs.length->C (ltB (ds.getD i .none) (ds.getD j .none)) s ->
   wpAny (model P w) A (keyLt' κ (vs.getD i Value.none) (vs.getD j Value.none)) C (λ_ _=>False) s:=λκ hκ=>⟨rfl,λi j C hi hj hC=>by
  obtain⟨xs,b1,e1,m1,q1⟩:=tup hi;obtain⟨ys,b2,e2,m2,q2⟩:=tup hj;have cc:=fG c m1 m2;have d1:=vX m1;have l1:=vW l m1;have l2:=vW l m2;have t1:=bf t m1;have t2:=bf t m2;simp only[PyData.depth]at d1;simp only[PyData.canLay0]at l1 l2;simp only[av]at t1 t2;rw[e1,e2]at hC;refine DF hu q1 q2 t1 t2 l1 l2 #[1] (by simpa [cg]using cc) κ ?_ hC;rcases hκ with⟨b,rfl,hb⟩|h|h
  ·refine .inl ⟨b,rfl,λhb' x hx=>?_⟩
   cases xs with
   |nil=>simp at hx
   |cons z zs=>simp at hx;subst hx;exact hb hb' z zs m1
  ·exact .inr (.inl h)
  ·exact .inr (.inr h)⟩
 exact GS r al t c h2 (λb hb=>key _ (.inl ⟨b,rfl,hb⟩)) (key _ (.inr (.inl rfl))) (key _ (.inr (.inr rfl)))
end
end Ml
namespace Ml
open PySem PySem.Spec L2
section
variable {X:Cx} {E:XK} {k:Nat} {θ:YE} {hm:Hm} {H:Hp}
theorem oq(w:W G θ hm H)(r:b9 G θ H x v)(e:listOf x hm=some ds):∃a vs,v=.ref a/\H a=some (.lst vs)/\aZ (view θ H) ds vs/\cF ds=true:=by
 unfold listOf at e;split at e
 ·cases e;obtain⟨⟨a,vs,rfl,ha,rr⟩,so⟩:=r;exact⟨a,vs,rfl,ax _ _ _ _ ha,rr,by assumption⟩
 ·obtain⟨a,ha,rfl⟩:=r;split at e
  ·rename_i ys hy;obtain⟨vs,hv,rs⟩:=w.obj _ _ _ ha hy;obtain⟨h1,h2⟩:=oj rs e
   simp_all
  grind
 grind
theorem yw(r:ReadsAll s.heap vs ds as)(al:ds.all vL=true)(h2:2<=vs.length):PySem.W.Ic P w A vs (λi j=>ltB (ds.getD i .none) (ds.getD j .none)) s:=by
 have hlen:=readsAll_len r
 have tup:∀{i:Nat},i<vs.length->∃x tk,ds.getD i .none=.str x/\vs.getD i .none=.str x tk:=λ{i} hi=>by
  obtain⟨bs,q⟩:=sI i r hi;have m:ds.getD i .none∈ds:=getD_mem #[1];have a:=UW.mp al _ m
  cases e:ds.getD i .none with
  |str x=>rw[e]at q;generalize vs.getD i .none=z at q;cases q;exact⟨x,_,rfl,rfl⟩
  |_=>rw[e]at a;simp[vL]at a
 refine PySem.W.kas_kind h2 (T:=.type "str") (λv hv=>?_) (by decide) (by decide) ⟨rfl,λi j C hi hj hC=>?_⟩
 ·obtain⟨i,hi,e⟩:=V6.mp hv;obtain⟨x,tk,_,e2⟩:=tup hi;have:vs.getD i .none=v:=by simp[hi,e]
  rw[this]at e2;subst e2;exact .now
 ·obtain⟨x,t1,e1,f1⟩:=tup hi;obtain⟨y,t2,e2,f2⟩:=tup hj;rw[f1,f2,PyProof.Rows.keyLt'_oneType];simp only[e1,e2]at hC;exact PyProof.Rows.oneLt_str (by simpa [ltB,cg,pb]using hC)
theorem Rb(o:Ord ltB ds):PySem.W.mV (λi j=>ltB (ds.getD i .none) (ds.getD j .none)) ds.length:=
 ⟨λa b ha hb h=>o.as (getD_mem ha) (getD_mem hb) h,λa b c ha hb hc h h'=>o.ntr (getD_mem ha) (getD_mem hb) (getD_mem hc) h h'⟩
theorem bC:∀{ds:YD},cF ds=true<->∀d∈ds,fj d=true
 | []=>by trivial
 |d::ds=>by simp[cF,bC]
theorem sJ(p:ds.Perm es)(h:cF ds=true):cF es=true:=bC.mpr λd m=>bC.mp h d (p.mem_iff.mpr m)
noncomputable def Pg:List V->Hp->VK->Prop:=λxs H Q=>∃(a:Addr) (vs:List V) (M:Hp) (ds:YD),xs=[.ref a]/\H a=some (.lst vs)/\bT M H/\aZ M ds vs/\cF ds=true/\eO ds=true /\
 ∀(p:Addr) (us:List V),H p=none->aZ M (c6 ltB ds) us->us.length<=sizeLine->Q (.ref p) (upd H p (.lst us))
theorem zR(hr:cE k X.A):dy X (.builtin "sorted") Pg:=by
 intro pins s σ H xs us Q I r h;obtain⟨a,vs,M,ds,rfl,ha,sm,rp,so,ok,q⟩:=h;simp only[eO,UH,Vi,Wn]at ok;obtain⟨⟨⟨⟨kd,tr⟩,cm⟩,dp⟩,h64⟩:=ok
 cases r with
 |cons r rr=>
  cases rr;cases r;obtain⟨its,rv,pl,_⟩:=I.list (ji.of (K:=X.K) ha);have hlen:vs.length=ds.length:=rp.length;have hlen2:its.length=ds.length:=by grind[rv.length]
  obtain⟨as,ra⟩:=aZ.reads I (rp.same sm) rv;have nd:PyData.hasDictAll ds=false:=i6 tr;have la:=qw so nd;have O:=Rb (jf cm tr);rw[<- hlen2]at O;refine PySem.W.vH pl.isList O #[1] (λh' kp h2=>?_) λp hp hs=>?_
  ·have ra':ReadsAll h' its ds as:=Vy kp ra;rcases kd with kd|kd
   ·exact yw (s:={s with heap:=h'}) ra' kd h2
   ·exact yu (s:={s with heap:=h'}) (by have:=hr.un;show X.A.units+1+1+41<cLine;omega) ra' kd tr cm la dp #[1]
  ·have ge:#[2]<=#[2]+1:=Wo _;have nn:H (#[2]+1)=none:=I.hok.fresh ge;obtain⟨e,he⟩:=PyProof.Rows.sortedAll_at s.heap its (p.toList.map λi=>its.getD i Value.none).toArray;have hin:∀i∈p.toList,i<vs.length:=λi hi=>by have:=Vm.mp (hp.perm.mem_iff.mp hi);omega
   have hlp:p.toList.length=ds.length:=by rw[hp.perm.length_eq,Yu,hlen2]
   have hz:(p.toList.map λi=>vs.getD i .non).length<=sizeLine:=by rw[UX,hlp];exact UO (Xp h64) (by decide)
   refine⟨.ref _,_,I.laid (t':=s.toks) (o:=.lst (p.toList.map λi=>vs.getD i .non)) (λb o k=>PyProof.Rows.sortedAll_old k) ge ⟨hz,_,e,si rv p.toList hin,by simpa [PyProof.Rows.seqObj]using he⟩,rfl,q _ _ nn ?_ hz⟩
   have e1:(p.toList.map λi=>ds.getD i .none)=c6 ltB ds:=by
    refine Bn cm tr ?_ ?_
    ·have:=hp.perm.map (λi=>ds.getD i .none);rw[hlen2,iY]at this;exact this
    ·unfold Up;rw[XO,WG];intro i j hi hj hij;have e1:PySem.W.pat p i=p.toList[i]:=by simp only[Vr]at hi;rw[PySem.W.mW,Yx p i hi];simp
     have e2:PySem.W.pat p j=p.toList[j]:=by simp only[Vr]at hj;rw[PySem.W.mW,Yx p j hj];simp
     have:=hs i j hij (by rw[hlen2];omega);rw[e1,e2]at this;exact this
   rw[<- e1];exact sj rp .none p.toList hin
theorem qL(hr:cE k X.A):qE X E (.builtin "sorted") et:=qE.of (zR hr) λθ hm H ds xs Q w r p=>by
 unfold et at p;split at p
 ·cases r with
  |cons r rr=>
   cases rr;split at p
   ·rename_i ys hy;split at p
    ·rename_i ok;obtain⟨a,vs,rfl,ha,rp,so⟩:=oq w r hy;refine⟨a,vs,view θ H,ys,rfl,ha,ax _ _,rp,so,ok,λq us hq ru hz=>?_⟩;obtain⟨e1,w1,g⟩:=w.put hq;refine p _ _ e1 w1 _ ⟨⟨q,us,rfl,g,ru.same e1.same⟩,?_⟩;exact sJ (aW _ _).symm so
    ·trivial
   ·trivial
 ·trivial
end
section
variable {X:Cx} {E:XK} {k:Nat} {θ:YE} {hm:Hm} {H:Hp} {m:ME} {t:MT} {e e1 e2:Expr} {pos:Pos}
theorem fx(r:b9 G θ H (.str x) v):v=.str x/\PyData.strOk x=true:=⟨r.1,by simpa [fj]using r.2⟩
theorem zS(h:PyData.strOk x=true)(h':PyData.strOk y=true):PyData.strOk (x++y)=true:=by have e:(x++y).cps=x.cps++y.cps:=rfl;unfold PyData.strOk at h h' ⊢;simp[e,h,h']
theorem Bw(w:W G θ hm H)(x:Ext H (view θ H) H' M'):Ev θ H θ H'/\W G θ hm H'/\bT M' (view θ H'):=by
 obtain⟨e1,w1⟩:=w.grow x.sh;refine⟨e1,w1,λc o q=>?_⟩
 have nb:c∉θ:=λz=>by
  obtain⟨i,hi,ei⟩:=V6.mp z;have hl:i<hm.length:=by rw[<- w.len];exact hi
  have hn  := Dy.some _ (w.obj i c hm[i] (by simp_all) (UK hl));rw[x.old c hn]at q;exact(c8 q).1 z
 rw[eA nb];exact x.gs c o q
theorem mH:pA X E (binaryOp .Add) gv:=pA.of (jL.or Oa (jL.or C4 (jL.or LG Ov))) λθ hm H d1 d2 x y Q w r1 r2 p=>by
 unfold gv at p;split at p
 ·exact .inl ⟨_,_,bQ r1,bQ r2,p.lK w (cw _)⟩
 ·split at p
  ·rename_i hz;obtain⟨e1,s1⟩:=fx r1;obtain⟨e2,s2⟩:=fx r2;exact .inr (.inl ⟨_,_,e1,e2,eB hz,p.lK w ⟨rfl,by simp only[fj];exact zS s1 s2⟩⟩)
  ·exact p.elim
 ·split at p
  ·rename_i xs ys hz;refine .inr (.inr (.inl ⟨view θ H,xs,ys,ax _ _,r1.1,r2.1,eB hz,λr H' M' ex rr=>?_⟩));obtain⟨e1,w1,sm⟩:=Bw w ex;have s1:cF xs=true:=by simpa [fj]using r1.2
   have s2:cF ys=true:=by simpa [fj]using r2.2
   refine p _ _ e1 w1 _ ⟨rr.same sm,?_⟩;simp only[fj]
   exact bC.mpr λd m=>by
    rcases UR.mp m with m|m
    ·exact bC.mp s1 d m
    ·exact bC.mp s2 d m
  ·exact p.elim
 ·split at p
  ·rename_i xs ys hz;have s1:cF xs=true:=by simpa [fj]using r1.2
   have s2:cF ys=true:=by simpa [fj]using r2.2
   obtain⟨a,us,rfl,ha,q1,_⟩:=gX r1;obtain⟨b,ws,rfl,hb,q2,_⟩:=gX r2;refine .inr (.inr (.inr ⟨a,b,us,ws,rfl,rfl,ax _ _ _ _ ha,ax _ _ _ _ hb,by rw[q1.length,q2.length];exact eB hz,λq hq=>?_⟩));obtain⟨e1,w1,g⟩:=w.put (o:=.lst (us++ws)) hq;refine p _ _ e1 w1 _ ⟨⟨q,_,rfl,g,(q1.append q2).same e1.same⟩,?_⟩;simp only[fj]
   exact bC.mpr λd m=>by
    rcases UR.mp m with m|m
    ·exact bC.mp s1 d m
    ·exact bC.mp s2 d m
  ·exact p.elim
 ·exact p.elim
theorem yx(r:aZ M ds vs):∀n:Nat,aZ M (List.replicate n ds).flatten (List.replicate n vs).flatten
 |0=>rfl
 |n+1=>r.append (yx r n)
theorem oQ:pA X E (binaryOp .Mult) iZ:=pA.of (jL.or Oc Ow) λθ hm H d1 d2 x y Q w r1 r2 p=>by
 unfold iZ at p;split at p
 ·split at p
  ·rename_i hc;refine .inl ⟨_,_,bQ r1,bQ r2,?_,p.lK w (cw _)⟩;simp only[vJ,Wn,UH,Vi]at hc;exact hc
  ·exact p.elim
 ·split at p
  ·rename_i xs j hc;simp only[UH,Vi]at hc;have s1:cF xs=true:=by simpa [fj]using r1.2
   obtain⟨a,us,rfl,ha,q1,_⟩:=gX r1;refine .inr ⟨a,j,us,rfl,bQ r2,ax _ _ _ _ ha,hc.1.2,hc.2,by rw[q1.length];exact eB hc.1.1,λq hq=>?_⟩;obtain⟨e1,w1,g⟩:=w.put (o:=.lst (List.replicate j.toNat us).flatten) hq;refine p _ _ e1 w1 _ ⟨⟨q,_,rfl,g,(yx q1 _).same e1.same⟩,?_⟩;simp only[fj];exact bC.mpr λd m=>by obtain⟨l,hl,hd⟩:=List.mem_flatten.mp m;rw[(List.mem_replicate.mp hl).2]at hd;exact bC.mp s1 d hd
  ·exact p.elim
 ·exact p.elim
theorem zT(f:α->β)(xs:List α)(i:Int):mS (xs.map f) i=(mS xs i).map f:=by
 unfold mS;rw[UX]
 cases yf xs.length i with
 |none=>rfl
 |some j=>simp
theorem zU(r:aO G θ H ds vs)(e:mS ds i=some d):∃v,L2.mS vs i=some v/\b9 G θ H d v:=by
 have hl  := U3 r;unfold L2.mS;rw[<- hl]
 change (yf ds.length i).bind _=_ at e
 show ∃v,(yf ds.length i).bind _=some v/\_
 cases hj:yf ds.length i with
 |none=>grind
 |some j=>rw[hj]at e;exact aO.some r e
theorem IJ:Qi X (OV X.G E Dv):=by
 rintro value slice pins s σ H x y v u Q I rx ry ⟨θ,h,d1,d2,w,r1,r2,p⟩ hs;unfold Dv at p;split at p
 ·rename_i i;have ey:=bQ r2;split at p
  ·rename_i ds;split at p
   ·rename_i d he;obtain⟨a,us,rfl,ha,q1,q2⟩:=i7 r1;obtain⟨z,e1,rz⟩:=zU (i:=i) (d:=.dat d) q2 (by rw[zT,he];rfl);exact Oq value slice pins s σ H _ y v u Q I rx ry ⟨a,us,i,z,rfl,ey,gA.of (ax _ _ _ _ ha),e1,p.lK w rz⟩ hs
   ·exact p.elim
  ·rename_i ds;split at p
   ·rename_i d he;obtain⟨a,us,rfl,ha,q1,q2⟩:=gX r1;obtain⟨z,e1,rz⟩:=zU (i:=i) (d:=.dat d) q2 (by rw[zT,he];rfl);exact zq value slice pins s σ H _ y v u Q I rx ry ⟨a,us,i,z,rfl,ey,ji.of (ax _ _ _ _ ha),e1,p.lK w rz⟩ hs
   ·exact p.elim
  ·rename_i j;split at p
   ·rename_i xs hx;split at p
    ·rename_i d he;obtain⟨a,ha,rfl⟩:=r1;obtain⟨vs,hv,rs⟩:=w.obj _ _ _ ha hx;obtain⟨z,e1,rz⟩:=zU rs he;exact zq value slice pins s σ H _ y v u Q I rx ry ⟨a,vs,i,z,rfl,ey,ji.of hv,e1,p.lK w rz⟩ hs
    ·exact p.elim
   ·exact p.elim
  ·rename_i ns;split at p
   ·rename_i n he;obtain⟨a,rfl,hq⟩:=r1;have e1:L2.mS (ns.map V.int) i=some (.int n):=by have:=zT V.int ns i;rw[he]at this;exact this
    exact zq value slice pins s σ H _ y v u Q I rx ry ⟨a,_,i,_,rfl,ey,(ax _ _).seq hq,e1,p.lK w (cw _)⟩ hs
   ·exact p.elim
  ·exact p.elim
 ·exact p.elim
def lO(G:Gx)(E:XK)(m:OS):TO:=λσ H Q=>∃θ h ρ,W G θ h H/\Fr G θ H ρ σ/\aA G (qi G E) θ H (m ρ h) (λo _ _ H'=>Q o H')
@[irreducible] noncomputable def DO(X:Cx)(E:XK)(m:OS)(e:Option Expr):Prop:=PO X e (lO X.G E m)
theorem IK(X:Cx)(E:XK)(m:OS)(e:Option Expr):DO X E m e=(PO X e (lO X.G E m)):=by
 grind[DO]
theorem PO.imp{e:Option Expr}{t t':TO}(h:PO X e t)(k:∀σ H Q,t' σ H Q->t σ H Q):PO X e t':=λpins s σ H Q I q=>h pins s σ H Q I (k _ _ _ q)
theorem Fo:DO X E ym none:=by simp[IK]at *;exact PO.imp Lg (by rintro σ H Q ⟨θ,h,ρ,w,fr,p⟩;exact p θ H Ev.refl w)
theorem Fp(h:DE X E m e):DO X E (yn m) (some e):=by
 simp[bj,IK]at *
 exact PO.imp (Lh h) (by rintro σ H Q ⟨θ,h,ρ,w,fr,p⟩;exact⟨θ,h,ρ,w,fr,(aA.bind p).mono (by
  rintro d θ1 h1 H1 _ _ ⟨ev,w1,p1⟩ v r;split at p1
  ·exact⟨_,bQ r,p1 θ1 H1 Ev.refl w1⟩
  ·trivial)⟩)
theorem LR(r:aZ M ds vs)(lo hi:Option Int):aZ M (cut ds lo hi) (A7 vs lo hi):=by unfold cut A7;have e  := r.length;rw[e];exact(r.drop _).take _
theorem LS(h:x∈cut xs lo hi):x∈xs:=List.mem_of_mem_drop (Xi h)
theorem By(h:cF ds=true)(lo hi:Option Int):cF (cut ds lo hi)=true:=bC.mpr λd m=>bC.mp h d (LS m)
def Tf(G:Gx)(E:XK):V->Option Int->Option Int->Hp->VK->Prop:=λx lo hi H Q=>∃θ h d,W G θ h H/\b9 G θ H d x/\aA G (qi G E) θ H (Q7 d lo hi h) (KV G Q)
theorem LU:QP X (Tf X.G E):=by
 rintro pins s σ H x v vl vu lo hi sl Q I rx hs pl pu ⟨θ,h,d,w,r,p⟩;unfold Q7 at p;split at p
 ·rename_i ds;refine LH pins s σ H x v vl vu lo hi sl Q I rx hs pl pu ⟨view θ H,ds,ax _ _,r.1,λr' H' M' ex rr=>?_⟩;obtain⟨e1,w1,sm⟩:=Bw w ex;exact p _ _ e1 w1 _ ⟨rr.same sm,by simp only[fj];exact By (by simpa [fj]using r.2) lo hi⟩
 ·rename_i ds;have so:cF ds=true:=by simpa [fj]using r.2
  obtain⟨a,us,rfl,ha,q1,q2⟩:=gX r;refine Lj pins s σ H _ v vl vu lo hi sl Q I rx hs pl pu ⟨a,us,rfl,ji.of (ax _ _ _ _ ha),λq hq=>?_⟩;obtain⟨e1,w1,g⟩:=w.put (o:=.lst (A7 us lo hi)) hq;exact p _ _ e1 w1 _ ⟨⟨q,_,rfl,g,(LR q1 lo hi).same e1.same⟩,by simp only[fj];exact By so lo hi⟩
 ·exact p.elim
theorem Bz(he:DE X E m e)(hl:DO X E ml lo)(hu:DO X E mh hi):DE X E (Qj m ml mh) (.Subscript e (.Slice lo hi none p2) pos):=by simp[bj,IK]at *;exact PE.imp (HQ LU he hl hu) (by rintro σ H Q ⟨θ,h,ρ,w,fr,p⟩;exact⟨θ,h,ρ,w,fr,(aA.bind p).mono (by rintro d θ1 h1 H1 _ _ ⟨ev,w1,p1⟩ v r;exact⟨θ1,h1,ρ,w1,fr.ev ev,(aA.bind p1).mono (by rintro l θ2 h2 H2 _ _ ⟨ev2,w2,p2⟩;exact⟨θ2,h2,ρ,w2,(fr.ev ev).ev ev2,(aA.bind p2).mono (by rintro u θ3 h3 H3 _ _ ⟨ev3,w3,p3⟩;exact⟨θ3,h3,d,w3,(r.ev ev2).ev ev3,p3⟩)⟩)⟩)⟩)
theorem oR:qE X E (.builtin "len") iI:=qE.of HI λθ hm H ds xs Q w r p=>by
 unfold iI at p;split at p
 ·split at p
  ·rename_i hz
   cases r with
   |cons r rr=>cases rr;exact⟨_,_,rfl,by rw[(fx r).1];exact⟨eB hz,rfl⟩,p.lK w (cw _)⟩
  ·exact p.elim
 ·cases r with
  |cons r rr=>cases rr;obtain⟨a,us,rfl,ha,q1,_⟩:=i7 r;exact⟨_,_,rfl,.inr ⟨us,gA.of (ax _ _ _ _ ha),q1.length.symm⟩,p.lK w (cw _)⟩
 ·cases r with
  |cons r rr=>cases rr;obtain⟨a,us,rfl,ha,q1,_⟩:=gX r;exact⟨_,_,rfl,.inl ⟨us,ji.of (ax _ _ _ _ ha),q1.length.symm⟩,p.lK w (cw _)⟩
 ·rename_i i;split at p
  ·rename_i ys hy
   cases r with
   |cons r rr=>cases rr;obtain⟨a,ha,rfl⟩:=r;obtain⟨vs,hv,rs⟩:=w.obj _ _ _ ha hy;exact⟨_,_,rfl,.inl ⟨vs,ji.of hv,U3 rs⟩,p.lK w (cw _)⟩
  ·exact p.elim
 ·rename_i ns
  cases r with
  |cons r rr=>cases rr;obtain⟨a,rfl,hq⟩:=r;exact⟨_,_,rfl,.inl ⟨_,(ax _ _).seq hq,by simp⟩,p.lK w (cw _)⟩
 ·exact p.elim
theorem pB:∀{ds:YD} {vs:List V} {bs:List Bool},aZ M ds vs->bools ds=some bs->vs=bs.map V.bl
 | [],_,bs,h,e=>by cases h;cases e;rfl
 |d::ds,_,bs,⟨v,vs,rfl,r,rs⟩,e=>by
  cases d with
  |bool b=>simp[bools]at e;obtain⟨bs',e1,e2⟩:=e;subst e2;rw[pB rs e1,r];rfl
  |_=>trivial
theorem vY(hc:X.calm=true):qE X E (.builtin "all") sD:=qE.of (H0 hc) λθ hm H ds xs Q w r p=>by
 unfold sD at p;split at p
 ·split at p
  ·rename_i bs hb
   cases r with
   |cons r rr=>cases rr;obtain⟨a,us,rfl,ha,q1,_⟩:=gX r;rw[pB q1 hb]at ha;exact⟨a,bs,rfl,ji.of (ax _ _ _ _ ha),p.lK w (b0 _)⟩
  ·trivial
 ·trivial
end
end Ml
namespace L2
open PySem PySem.Spec PyProof.Rows
section
variable {X:Cx}
theorem any_range(bs:List Bool):((List.range bs.length).any λi=>(bs[i]?).getD true)=bs.any id:=by
 rw[V0,VF,VF];constructor
 ·rintro⟨i,hi,h⟩;have hi':=Vm.mp hi;simp only[hi',UK,Ww]at h;exact⟨bs[i],X4 hi',h⟩
 ·rintro⟨b,hb,h⟩;obtain⟨i,hi,e⟩:=V6.mp hb;refine⟨i,Vm.mpr hi,?_⟩;simp only[hi,UK,Ww,e];exact h
theorem IL(hc:X.calm=true):dy X (.builtin "any") (λxs H Q=>∃(l:Addr) (bs:List Bool),xs=[.ref l]/\ji X.K H l (bs.map V.bl)/\Q (.bl (bs.any id)) H):=by
 intro pins s σ H vs us Q I r h;obtain⟨l,bs,rfl,hq,q⟩:=h
 cases r with
 |cons r rr=>
  cases rr;cases r;obtain⟨its,rv,p,_⟩:=I.list hq;have pl:=p.isList;have hlt:l<#[2]:=by obtain⟨_,e,_⟩:=pl;exact UM e
  refine call_any_walk (XJ pl ?_);refine⟨#[2],[#[2],l],[#[2]],its.toArray.size,_,_,λi=>(bs[i]?).getD true,rfl,Walks.list (A:=X.A.in1) (I.ok.hd hc) _ l (UT hlt) its.toArray,⟨⟨_,UL _ rfl,rfl,rfl⟩,pl.push _⟩,λi v s' Q' E' hP hQ=>?_,λh' tk hk=>?_⟩
  ·have hP':its[i]?=some v:=by simpa using hP
   have hi:i<(bs.map V.bl).length:=by rw[rv.length];exact(UN.mp hP').1
   obtain⟨u,hu,ru⟩:=rv.get (i:=i) (x:=(bs.map V.bl)[i]) (by simp[hi]);rw[hP']at hu;cases hu;rw[UX]at hi;simp only[List.getElem_map]at ru;obtain rfl:v=Value.bool bs[i]:=ru;have hQ':=hQ;simp only[hi,UK,Ww]at hQ';exact VN hQ'
  ·have e:((List.range its.toArray.size).any λi=>(bs[i]?).getD true)=bs.any id:=by
    rw[UY,<- rv.length,UX];exact any_range bs
   rw[e];exact⟨.bl _,H,I.kept λb o e=>hk b o (λhm=>by rw[UU.mp hm]at e;exact Vk _ (UM e)) (UE _ e),rfl,q⟩
theorem LV(K:YG)(d:PyData):PySem.W.kitOne K (.type (OE d)) (.type "int")=some (match d with|.int _|.bool _=>true|_=>false):=by cases d<;>first|rfl|decide
theorem IM(K:YG)(d:PyData):PySem.W.kitOne K (.type (OE d)) (.type "bool")=some (match d with|.bool _=>true|_=>false):=by cases d<;>first|rfl|decide
end
end L2
namespace Ml
open PySem PySem.Spec L2
section
variable {X:Cx} {E:XK} {k:Nat} {θ:YE} {hm:Hm} {H:Hp} {m:ME} {t:MT} {e e1 e2:Expr} {pos:Pos} {ma:MA}
theorem IP(hc:X.calm=true):qE X E (.builtin "any") xO:=qE.of (IL hc) λθ hm H ds xs Q w r p=>by
 unfold xO at p;split at p
 ·split at p
  ·rename_i bs hb
   cases r with
   |cons r rr=>cases rr;obtain⟨a,us,rfl,ha,q1,_⟩:=gX r;rw[pB q1 hb]at ha;exact⟨a,bs,rfl,ji.of (ax _ _ _ _ ha),p.lK w (b0 _)⟩
  ·trivial
 ·trivial
theorem Ph(kit:∀d,PySem.W.kitOne X.K (.type (OE d)) (.type n)=some (f d))(bt:bootBuiltins T=some (.type n))(m1:X.mg "isinstance" = none)(m2:X.mg T=none)(h:DE X E m e){p p2:Pos}(g1:Gl X "isinstance" := by rfl)(g2:Gl X T:=by rfl)(hT:T ≠ "__name__" := by decide)(hT2:(T==("__debug__" : Str))=false:=by decide)
 (hs:starEach [e,.Name T p2] X.env=(false,eval e X.env)::starEach [.Name T p2] X.env:=by rfl)(hs2:starEach [.Name T p2] X.env=[(false,eval (.Name T p2) X.env)]:=by rfl)(hpl:(backTo pos (starEach [.Name T p2] X.env)).any (·.1)=false:=by rfl):DE X E (Ih (vK f) m) (.Call (.Name "isinstance" p) [e,.Name T p2] [] pos):=by
 simp only[bj]at *
 exact PE.imp (A6 Ia g1 m1 xK (ql h (ql (KL (v:=.ty n) g2 m2 bt rfl hT hT2) zm hs2) hs) (by decide) (by decide) hs hpl) (by rintro σ H Q ⟨θ,h,ρ,w,fr,p⟩;exact⟨θ,h,ρ,w,fr,(aA.bind p).mono (by
   rintro d θ1 h1 H1 _ _ ⟨ev,w1,p1⟩ v r
   cases d with
   |dat d=>exact⟨v,n,_,f d,rfl,(r.1.same (ax _ _)).ty,kit d,p1.lK w1 (b0 _)⟩
   |_=>trivial)⟩)
theorem vZ(x:Str):∀(l:List Nat),aZ M (l.map λi=>.str ⟨#[x.cps.getD i 0]⟩) (l.map (sgn x))
 | []=>rfl
 |i::l=>.cons rfl (vZ x l)
theorem IQ(h:PyData.strOk x=true):cF (jr x)=true:=bC.mpr λd m=>by obtain⟨i,_,rfl⟩:=U2.mp m;exact Fh h
theorem ou(hc:X.calm=true):qE X E (.type "tuple") jt:=qE.of (dy.or xH (Bg hc)) λθ hm H ds xs Q w r p=>by
 unfold jt at p;split at p
 ·cases r with
  |cons r rr=>cases rr;obtain⟨a,us,e,ha,q1,_⟩:=i7 r;subst e;exact .inl ⟨a,us,rfl,.inr ⟨gA.of (ax _ _ _ _ ha),p.lK w r⟩⟩
 ·split at p
  ·rename_i s hz
   cases r with
   |cons r rr=>cases rr;obtain⟨e1,s1⟩:=fx r;subst e1;refine .inr ⟨s,rfl,eB hz,λq hq=>?_⟩;obtain⟨e1,w1,g⟩:=w.put (o:=.tup ((List.range s.cps.size).map (sgn s))) hq;exact p _ _ e1 w1 _ ⟨⟨q,_,rfl,g,vZ s _⟩,by simp only[fj];exact IQ s1⟩
  ·exact p.elim
 ·split at p
  ·rename_i ds hy
   cases r with
   |cons r rr=>cases rr;obtain⟨a,vs,rfl,ha,rp,so⟩:=oq w r hy;refine .inl ⟨a,vs,rfl,.inl ⟨ji.of ha,λq hq=>?_⟩⟩;obtain⟨e1,w1,g⟩:=w.put (o:=.tup vs) hq;exact p _ _ e1 w1 _ ⟨⟨q,_,rfl,g,rp.same e1.same⟩,by simpa [fj]using so⟩
  ·exact p.elim
 ·exact p.elim
theorem LW:qE X E (.type "list") Dw:=qE.of zt λθ hm H ds xs Q w r p=>by
 unfold Dw at p;split at p
 ·cases r with
  |cons r rr=>cases rr;have so:=r.2;obtain⟨a,us,e,ha,q1,_⟩:=i7 r;subst e;refine⟨a,us,rfl,.inr (gA.of (ax _ _ _ _ ha)),λq hq=>?_⟩;obtain⟨e1,w1,g⟩:=w.put (o:=.lst us) hq;exact p _ _ e1 w1 _ ⟨⟨q,_,rfl,g,q1.same e1.same⟩,by assumption⟩
 ·split at p
  ·rename_i ds hy
   cases r with
   |cons r rr=>cases rr;obtain⟨a,vs,rfl,ha,rp,so⟩:=oq w r hy;refine⟨a,vs,rfl,.inl (ji.of ha),λq hq=>?_⟩;obtain⟨e1,w1,g⟩:=w.put (o:=.lst vs) hq;exact p _ _ e1 w1 _ ⟨⟨q,_,rfl,g,rp.same e1.same⟩,by simpa [fj]using so⟩
  ·exact p.elim
 ·exact p.elim
theorem IS:qE X E (.builtin "divmod") uX:=qE.of A4 λθ hm H ds xs Q w r p=>by
 unfold uX at p;split at p
 ·split at p
  ·rename_i i j hj
   cases r with
   |cons r1 rr=>
    cases rr with
    |cons r2 rr=>cases rr;cases bQ r1;cases bQ r2;refine⟨i,j,rfl,hj,λq hq=>?_⟩;obtain⟨e1,w1,g⟩:=w.put hq;exact p _ _ e1 w1 _ ⟨⟨q,_,rfl,g,.cons rfl (.one rfl)⟩,by rfl⟩
  ·trivial
 ·trivial
theorem Rc:qE X E (.builtin "abs") LM:=qE.of HH λθ hm H ds xs Q w r p=>by
 unfold LM at p;split at p
 ·cases r with
  |cons r1 rr=>cases rr;cases bQ r1;exact⟨_,rfl,p.lK w (cw _)⟩
 ·trivial
theorem Rf(hc:X.calm=true):qE X E (.builtin "max") Il:=qE.of (Gm hc) λθ hm H ds xs Q w r p=>by
 unfold Il at p;split at p
 ·cases r with
  |cons r1 rr=>
   cases rr with
   |cons r2 rr=>cases rr;cases bQ r1;cases bQ r2;exact⟨_,_,rfl,p.lK w (cw _)⟩
 ·exact p.elim
theorem Rg(hc:X.calm=true):qE X E (.builtin "min") Im:=qE.of (Gn hc) λθ hm H ds xs Q w r p=>by
 unfold Im at p;split at p
 ·cases r with
  |cons r1 rr=>
   cases rr with
   |cons r2 rr=>cases rr;cases bQ r1;cases bQ r2;exact⟨_,_,rfl,p.lK w (cw _)⟩
 ·trivial
theorem Nk:qE X E (.type "int") zI:=qE.of Gp λθ hm H ds xs Q w r p=>by
 unfold zI at p;split at p
 ·cases r with
  |cons r1 rr=>cases rr;cases bQ r1;exact .inl ⟨_,rfl,p.lK w (cw _)⟩
 ·cases r with
  |cons r1 rr=>cases rr;obtain⟨e1,_⟩:=r1;cases e1;exact .inr ⟨_,rfl,p.lK w (cw _)⟩
 ·trivial
end
section
variable {X:Cx} {E:XK} {k:Nat} {θ:YE} {hm:Hm} {H:Hp} {m ma' mb:ME} {t:MT} {e e1 e2 o i:Expr} {es:YI} {pos:Pos} {ma:MA} {x:Str}
theorem fY(n:Nat)(h:Lit n e d)(s:fj d=true):DE X E (aj d) e:=by
 simp[bj]at *
 exact PE.imp (OP n h) (by
   rintro σ H Q ⟨θ,hm,ρ,w,fr,p⟩ r H' N s1 nw rp;obtain⟨e1,w1⟩:=w.grow s1;refine p _ _ e1 w1 _ ⟨rp.same λc o q=>?_,s⟩;have nb  := w.Iv (nw c o q).1;rw[eA nb]
   exact(nw c o q).2)
theorem u0{p:Pos}(hm:∃t,X.mg x=some (.int n t))(hg:Gl X x:=by rfl)(hd:(x==("__debug__" : Str))=false:=by decide):DE X E (aj (.int n)) (.Name x p):=by obtain⟨t,hm⟩:=hm;exact Iw (zk (v:=.int n) hg hm ⟨t,rfl⟩ hd) (λ_=>rfl) (by rfl)
def RV(xs:YD):ME:=λ_ h=>.ok (.ktup xs) h
theorem Fq{p:Pos}(hm:∃a,X.mg x=some (.ref a)/\GJ X.K a xs)(hg:Gl X x:=by rfl)(hd:(x==("__debug__" : Str))=false:=by decide):DE X E (RV xs) (.Name x p):=by simp only[bj]at *;obtain⟨a,hm,kt⟩:=hm;exact PE.imp (zk (v:=.ref a) hg hm rfl hd) (by rintro σ H Q ⟨θ,hm,ρ,w,fr,p⟩;exact p.lK w ⟨a,rfl,kt⟩)
theorem LX(kt:GJ G.K a xs):qH G θ H (xs.map D.dat) (RP G.K a):=λθ' h' H' ev w=>by
 obtain⟨⟨o,its,n,hl,hc,hd,hz,rv⟩,fl,so⟩:=kt;have q:gA G.K H' a _:=.inr ⟨o,its,n,hl,hc,hd,hz,rv⟩;refine⟨λi d e=>?_,⟨_,q,by simp⟩⟩;rw[Vo,Vg]at e;obtain⟨y,ey,rfl⟩:=e;refine⟨⟨_,OU y,q,by simp[ey]⟩,λx H2 ⟨e2,z⟩=>?_⟩;subst e2;have:=z _ q;rw[Vo,ey]at this;cases this;have hy:=fl y (U6 ey);refine⟨Ev.refl,w,?_,qI so ey⟩
 cases y with
 |none=>rfl
 |bool b=>rfl
 |int i=>rfl
 |str x=>rfl
 |_=>simp at hy
def Rh(e:ME):MA:=λρ h=>(e ρ h).bind λx h1=>match x with
 |.ktup xs=>.ok (xs.map D.dat) h1
 |_=>.bad
theorem LY(h:DE X E m e):DI X E (Rh m) tg e:=by
 simp[bj,kO]at *
 exact PI.imp (HB h) (by rintro σ H R ⟨θ,h,ρ,w,fr,p⟩;exact⟨θ,h,ρ,w,fr,(aA.bind p).mono (by
   rintro d θ1 h1 H1 _ _ ⟨ev,w1,p1⟩ v r
   cases d with
   |ktup xs=>obtain⟨a,e,kt⟩:=r;exact⟨a,e,⟨_,.inr kt.1⟩,p1 θ1 H1 Ev.refl w1 _ (LX kt)⟩
   |_=>trivial)⟩)
def RW(x:D)(h:Hm):Bool:=match x with
 |.ref j=>match h[j]? with
  |some (.lst _)=>true
  |_=>false
 |_=>false
def GU(f:D->D->Hm->R D)(a b:ME):ME:=λρ h=>(a ρ h).bind λx h1=>if RW x h1 then(b ρ h1).bind λy h2=>f x y h2 else .bad
theorem LZ{x:D}(e:RW x h=true):∃j xs,x=.ref j/\h[j]?=some (.lst xs):=by
 unfold RW at e;split at e
 ·split at e
  ·simp_all
  grind
 grind
theorem u5(w:W G θ hm H)(r:b9 G θ H (.ref j) v)(e:hm[j]?=some (.lst xs)):∃a vs,v=.ref a/\θ[j]?=some a/\H a=some (.lst vs)/\aO G θ H xs vs:=by
 obtain⟨a,ha,rfl⟩:=r;obtain⟨vs,hv,rs⟩:=w.obj _ _ _ ha e
 simp_all
theorem aO.Ri(q:b9 G θ H d v):∀{xs:List D} {vs:List V} (n:Nat),aO G θ H xs vs->aO G θ H (xs.set n d) (vs.set n v)
 |_,_,_,.nil=>.nil
 |_,_,0,.cons _ t=>.cons q t
 |_,_,n+1,.cons r t=>.cons r (aO.Ri q n t)
theorem W.IT(w:W G θ hm H)(ha:θ[j]?=some a)(hl:j<hm.length)(r:aO G θ H xs vs):Ev θ H θ (upd H a (.lst vs))/\W G θ (hm.set j (.lst xs)) (upd H a (.lst vs)):=by
 have hmm  := U6 ha
 have e:Ev θ H θ (upd H a (.lst vs)):=⟨⟨[],by simp⟩,λb u q=>by
  obtain⟨h1,h2⟩:=c8 q;have ne:b≠a:=λz=>by grind
  simp_all[eA,aM]⟩
 exact w.write ha hl ⟨vs,bg,r.ev e⟩
theorem ow{α:Type}{xs:List α}{i:Nat}{x:α}(h:xs[i]?=some x):i<xs.length:=(UN.mp h).1
theorem Pj(h:lE G E (GU f ma' mb) σ H Q)(k:∀θ h H d1 d2 x y,W G θ h H->b9 G θ H d1 x->b9 G θ H d2 y->aA G (qi G E) θ H (f d1 d2 h) (KV G Q)->r x [y] H Q) :
  TV K "list" r (lE G E ma') (HJ (lE G E mb) Oi) σ H Q:=by
 obtain⟨θ,h,ρ,w,fr,p⟩:=h;refine⟨θ,h,ρ,w,fr,(aA.bind p).mono λd θ1 h1 H1 _ _ ⟨ev,w1,p1⟩ v r1=>?_⟩;split at p1
 ·rename_i hl;obtain⟨j,xs,rfl,hx⟩:=LZ hl;obtain⟨a,vs,rfl,ha,hv,rs⟩:=u5 w1 r1 hx;exact⟨.inl ⟨rfl,_,ji.of hv⟩,θ1,h1,ρ,w1,fr.ev ev,(aA.bind p1).mono (by rintro d2 θ2 h2 H2 _ _ ⟨ev2,w2,p2⟩ y r2;exact k θ2 h2 H2 _ d2 _ y w2 (r1.ev ev2) r2 p2)⟩
 ·trivial
theorem yy{apos cpos:Pos}(ho:DE X E ma' o)(ha:DE X E mb e)(hbase:attributeBase o "append" X.env (eval o X.env)=eval o X.env:=by rfl)
 (hfew:((backTo cpos (starEach [e] X.env)).all (λx=>!x.1)&&(backToKw cpos (keywordEach [] X.env)).all (λx=>x.1.isSome)&&decide ([e].length+([]:List Keyword).length+(if([]:List Keyword).isEmpty then 0 else 1)<30))=true:=by rfl)
 (hline:(apos.endLine==cpos.line)=true:=by rfl)(hs:starEach [e] X.env=(false,eval e X.env)::starEach [] X.env:=by rfl)(hplain:(backTo cpos (starEach [] X.env)).any (·.1)=false:=by rfl):DE X E (GU oh ma' mb) (.Call (.Attribute o "append" apos) [e] [] cpos):=by
 simp only[bj]at *
 exact PE.imp (QS PySem.F.plainAttrs_list PySem.F.slot_list_append PySem.F.type_list_append Gv ho (ql ha zm hs) hbase hfew hline hs hplain) λσ H Q q=>Pj q λθ h H d1 d2 x y w r1 r2 p=>by
   unfold oh at p;split at p
   ·rename_i j;split at p
    ·rename_i xs hx;split at p
     ·rename_i hz;obtain⟨a,vs,rfl,ha,hv,rs⟩:=u5 w r1 hx;have hl:xs.length=vs.length:=U3 rs;obtain⟨e1,w1⟩:=w.IT ha (ow hx) (cY rs (.cons r2 .nil));exact⟨a,vs,y,rfl,rfl,hv,by rw[<- hl,WL];exact Xa hz,p _ _ e1 w1 _ GP⟩
     ·exact p.elim
    ·exact p.elim
   ·exact p.elim
theorem GV{x y v:V}(w:W G θ hm H)(r1:b9 G θ H d1 x)(r2:b9 G θ H d2 y)(rd:b9 G θ H d v)(p:aA G F θ H (E8 d1 d2 d hm) (λ_ _ _ H'=>Q H')):M9 x y v H Q:=by
 cases d1 with
 |ref j=>
  cases d2 with
  |dat dd=>
   cases dd with
   |int kk=>
    simp only[E8]at p
    cases hx:hm[j]? with
    |none=>rw[hx]at p;exact p.elim
    |some oo=>
     rw[hx]at p
     cases oo with
     |lst xs=>
      simp only at p
      cases hn:yf xs.length kk with
      |none=>rw[hn]at p;exact p.elim
      |some n=>rw[hn]at p;obtain⟨a,vs,rfl,ha,hv,rs⟩:=u5 w r1 hx;have hl:xs.length=vs.length:=U3 rs;obtain⟨e1,w3⟩:=w.IT ha (ow hx) (aO.Ri rd n rs);exact⟨a,vs,kk,n,rfl,bQ r2,hv,by rw[<- hl];exact hn,p _ _ e1 w3⟩
     |_=>exact p.elim
   |_=>exact p.elim
  |_=>exact p.elim
 |_=>exact p.elim
theorem Fs{α β:Type}{xs:List α}{ys:List β}(h:xs.length=ys.length):(!xs.isEmpty)=!ys.isEmpty:=by
 grind
theorem v7(w:W G θ hm H)(r:b9 G θ H d v)(e:truth d hm=some b):Og G.K v H b:=by
 unfold truth at e;split at e
 ·cases e;cases r.1;rfl
 ·cases e;cases r.1;rfl
 ·cases e;cases r.1;rfl
 ·split at e
  ·rename_i hz;cases e;cases r.1;exact⟨eB hz,rfl⟩
  grind
 ·cases e;obtain⟨a,us,rfl,ha,q1,_⟩:=i7 r;exact .inr (.inl ⟨us,gA.of (ax _ _ _ _ ha),Fs q1.length.symm⟩)
 ·cases e;obtain⟨a,us,rfl,ha,q1,_⟩:=gX r;exact .inl ⟨us,ji.of (ax _ _ _ _ ha),Fs q1.length.symm⟩
 ·split at e
  ·rename_i xs hx;cases e;obtain⟨a,vs,rfl,ha,hv,rs⟩:=u5 w r hx;refine .inl ⟨vs,ji.of hv,?_⟩;cases rs<;>rfl
  ·cases e
 grind
theorem bo(h:DE X E m e)(he:∀whole,isTrue e X.env whole=(do let v <- whole;standAt e.pos;holding [v] (truthy v)):=by intro _;rfl):DT X E (aR m) e:=by
 simp[bj,kN]at *
 exact PT.imp (HG h he) (by rintro σ H Q ⟨θ,h,ρ,w,fr,p⟩;exact⟨θ,h,ρ,w,fr,(aA.bind p).mono (by
   rintro d θ1 h1 H1 _ _ ⟨ev,w1,p1⟩ v r;split at p1
   ·rename_i b hb;exact⟨b,v7 w1 r hb,p1 θ1 H1 Ev.refl w1⟩
   ·trivial)⟩)
def pC:D->Option PyData
 |.dat .none=>some .none
 |.dat (.bool b)=>some (.bool b)
 |_=>none
def RX:PyData->PyData->Bool
 |.none,.none=>true
 |.bool a,.bool b=>a==b
 |_,_=>false
def Nl(x y:D)(h:Hm):R D:=match pC y with
 |some e=>match x with
  |.dat d=>.ok (.bool (RX d e)) h
  |_=>.bad
 |none=>.bad
def v8(x y:D)(h:Hm):R D:=match pC y with
 |some e=>match x with
  |.dat d=>.ok (.bool !(RX d e)) h
  |_=>.bad
 |none=>.bad
theorem IU{d e:PyData}(re:pC (.dat e)=some e)(r1:Rep M d v)(r2:Rep M e u)(ra:RelV v a)(rb:RelV u b):(a==b)=RX d e/\PySem.plainIs a b=true:=by
 cases e with
 |none=>
  cases r2;cases rb
  cases d with
  |none=>cases r1;cases ra;exact⟨by decide,by decide⟩
  |bool c=>cases r1;cases ra;cases c<;>exact⟨by decide,by decide⟩
  |int c=>cases r1;obtain⟨t,rfl⟩:=ra;exact⟨rfl,rfl⟩
  |str c=>cases r1;obtain⟨t,rfl⟩:=ra;exact⟨rfl,rfl⟩
  |list c=>obtain⟨x,_,rfl,_⟩:=r1;cases ra;exact⟨rfl,rfl⟩
  |tuple c=>obtain⟨x,_,rfl,_⟩:=r1;cases ra;exact⟨rfl,rfl⟩
  |dict c=>obtain⟨x,_,rfl,_⟩:=r1;cases ra;exact⟨rfl,rfl⟩
 |bool f=>
  cases r2;cases rb
  cases d with
  |none=>cases r1;cases ra;cases f<;>exact⟨by decide,by decide⟩
  |bool c=>cases r1;cases ra;cases c<;>cases f<;>exact⟨by decide,by decide⟩
  |int c=>cases r1;obtain⟨t,rfl⟩:=ra;exact⟨rfl,rfl⟩
  |str c=>cases r1;obtain⟨t,rfl⟩:=ra;exact⟨rfl,rfl⟩
  |list c=>obtain⟨x,_,rfl,_⟩:=r1;cases ra;exact⟨rfl,rfl⟩
  |tuple c=>obtain⟨x,_,rfl,_⟩:=r1;cases ra;exact⟨rfl,rfl⟩
  |dict c=>obtain⟨x,_,rfl,_⟩:=r1;cases ra;exact⟨rfl,rfl⟩
 |_=>simp[pC]at re
theorem Pk:pA X E (compareOp .Is) Nl:=by
 rintro pins s σ H x y v u Q I rx ry ⟨θ,h,d1,d2,w,r1,r2,p⟩;unfold Nl at p;split at p
 ·rename_i e he;split at p
  ·have:d2=.dat e:=by unfold pC at he;split at he<;>cases he<;>rfl
   subst this;obtain⟨q1,q2⟩:=IU he r1.1 r2.1 rx ry;exact PySem.wpAny_is_plain q2 (by rw[q1];exact⟨.bl _,H,I,rfl,p.lK w (b0 _)⟩)
  ·trivial
 ·trivial
theorem Ft:pA X E (compareOp .IsNot) v8:=by
 rintro pins s σ H x y v u Q I rx ry ⟨θ,h,d1,d2,w,r1,r2,p⟩;unfold v8 at p;split at p
 ·rename_i e he;split at p
  ·have:d2=.dat e:=by unfold pC at he;split at he<;>cases he<;>rfl
   subst this;obtain⟨q1,q2⟩:=IU he r1.1 r2.1 rx ry;exact PySem.wpAny_isNot_plain q2 (by rw[q1];exact⟨.bl _,H,I,rfl,p.lK w (b0 _)⟩)
  ·trivial
 ·trivial
theorem IV(hr:cE k X.A){σ:L2.St}{x y:V}(I:Inv X pins σ H s)(rx:RelV x v)(ry:RelV y u)(w:W X.G θ h H)(r1:b9 X.G θ H d1 x)(r2:b9 X.G θ H d2 y)(hb:jY d1 d2 h=some b) :
  (Q (.bl b) H->wpAny (model X.prog X.w) X.A (compareOp .In v u) (EP X pins σ Q) X.xe s)/\(Q (.bl !b) H->wpAny (model X.prog X.w) X.A (compareOp .NotIn v u) (EP X pins σ Q) X.xe s):=by
 unfold jY at hb;split at hb
 ·split at hb
  ·cases hb;exact⟨λq=>Gk pins s σ H x y v u Q I rx ry ⟨_,_,(fx r1).1,(fx r2).1,q⟩,λq=>zl pins s σ H x y v u Q I rx ry ⟨_,_,(fx r1).1,(fx r2).1,q⟩⟩
  grind
 ·split at hb
  ·rename_i d ds e1 e2;obtain⟨⟨as,z1⟩,s1⟩:=gY I w 3 r1 rx e1;obtain⟨⟨bs,z2⟩,s2⟩:=gY I w 3 r2 ry e2;exact IG hr (.inl rfl) I z1 z2 s1 (by assumption) hb
  ·rename_i d ds e1 e2;obtain⟨⟨as,z1⟩,s1⟩:=gY I w 3 r1 rx e1;obtain⟨⟨bs,z2⟩,s2⟩:=gY I w 3 r2 ry e2;exact IG hr (.inr rfl) I z1 z2 s1 (by simpa [fj]using s2) hb
  grind
end
end Ml
namespace PySem
open Sem (wp)
def Heap.fz(h:Heap)(d:Addr)(es:YK)(ep:Nat):Prop:=∃o,h.get? d=some o/\o.ExactDict/\o.data=.dict es ep
theorem Heap.fz.typeIs{s:YR}(x:s.heap.fz d es ep):s.TypeIs (.ref d) "dict" := by obtain⟨o,ho,hc,_⟩:=x;exact⟨o,ho,hc.1⟩
theorem Heap.fz.at{h h':Heap}(x:h.fz d es ep)(e:∀o,h.get? d=some o->h'.get? d=some o):h'.fz d es ep:=by obtain⟨o,ho,r⟩:=x;exact⟨o,e _ ho,r⟩
section
variable {prog:YN} {w:World} {A:YQ} {E:Yy} {s:YR} {d it:Addr} {es:YK} {ep i:Nat}
theorem IW(hd:(d==sysModules)=false)(hm:s.heap.fz d es ep)
 (hQ:Q (.ref #[2]) {s with heap:=s.heap.push {cls:=.type "dict_keyiterator",data:=.fields #[.ref d,.int 0 0,.int es.size 0,.int ep 0]}}):wpAny (model prog w) A (pyIter (.ref d)) Q E s:=by
 have hT:=hm.typeIs;obtain⟨o,ho,hc,hdat⟩:=hm;refine Xd hT F.slot_dict_iter (U7 F.slot_dict_iter hT F.entry_dict_iter ?_ (F.args_dict_iter_1 _));unfold Builtin.«dict.__iter__»;refine UC ?_;unfold Builtin.Dict.dictSlotNone;refine UC (wpAny_notOrdered_dict hT ?_);show wpAny _ _ (pure (Value.ref d)) _ _ s;refine UD ?_;show wpAny _ _ (Builtin.Dict.showsAll d >>= _) _ _ s;unfold Builtin.Dict.showsAll;rw[if_neg (by simp_all)];refine UC (UD ?_);refine UC (XQ ho hdat ?_);refine UC (wpAny_dictEpoch ho hdat ?_);refine UC (Vh (UD ⟨_,rfl, "dict_keyiterator",_,⟨_,UL _ rfl,rfl⟩,VY.lookup,?_⟩))
 grind[rawInt]
theorem IX(hit:s.heap.IsKeyIter it d i es.size ep)(hm:s.heap.fz d es ep)(hlt:i<es.size)
 (hQ:∀h',h'.IsKeyIter it d (i+1) es.size ep->Heap.SameBut it s.heap h'->Q (some es[i].key) {s with heap:=h'}):wpAny (model prog w) A (pyNext (.ref it)) Q E s:=by
 obtain⟨o,ho,hc,hd⟩:=id hit;obtain⟨od,hod,hcd,hdd⟩:=id hm;unfold pyNext
 refine UC (Wz (Vd (name:=Str.ofString "__next__") hit.typeIs VY
  (U7 VY hit.typeIs F.entry_dict_keyiterator_next ?_ (F.args_dict_keyiterator_next_1 _))))
 refine UC (UD ?_);refine UC ?_;refine UC ?_
 first|refine UC (Wh hit.typeIs (UD ?_))|refine UC (WN hit.typeIs (UD ?_))
 refine UC (wpAny_fieldsOf ho hd ?_);have hown:Builtin.Dict_items.ownsTuple "dict_keyiterator" = false:=by decide
 simp only[hown,UQ,Vu];show wpAny _ _ (if(Value.ref d==Value.none)=true then _ else _) _ _ s;rw[if_neg (show ¬ ((Value.ref d==Value.none)=true)from U9)];refine UC (UD ?_);refine UC (XQ hod hdd ?_);rw[if_neg (by simp)];refine UC (UD ?_);refine UC (wpAny_dictEpoch hod hdd ?_);rw[if_neg (by simp)];refine UD ?_;simp only[show ¬ ((i:Int)<0)from by omega,Vu,V7,U1 hlt];refine UC ?_
 first|refine UC (Wh hit.typeIs (UD ?_))|refine UC (WN hit.typeIs (UD ?_))
 refine UC (wpAny_isOneOf_keyiter hit.typeIs ?_);show wpAny _ _ (setField (.ref it) 1 (rawInt ((i:Int)+1)) >>= _) _ _ s;refine UC (XX ho hd (by simp) ?_)
 have hit':(s.heap.update it (Obj.mapFields (·.setIfInBounds 1 (rawInt ((i:Int)+1))))).IsKeyIter it d (i+1) es.size ep:=
  ⟨_,VX _ ho (X1 (W0 hd _)),(Obj.cls_mapFields ..).trans hc,by rw[W0 hd];simp[rawInt]⟩
 refine UC (U8 ?_);refine UC (wpAny_isOneOf_keyiter (s:={s with heap:=s.heap.update it (Obj.mapFields (·.setIfInBounds 1 (rawInt ((i:Int)+1))))}) hit'.typeIs ?_);show wpAny _ _ (pure es[i].key) _ _ _;exact UD (UD ⟨_,rfl,UD (hQ _ hit' (VD ..))⟩)
theorem L0(hh:A.handled=none)(hit:s.heap.IsKeyIter it d i es.size ep)(hm:s.heap.fz d es ep)(hge:es.size<=i)
 (hQ:∀h',Heap.ExtBut it s.heap h'->Q none {s with heap:=h'}):wpAny (model prog w) A (pyNext (.ref it)) Q E s:=by
 obtain⟨o,ho,hc,hd⟩:=id hit;obtain⟨od,hod,hcd,hdd⟩:=id hm;unfold pyNext
 refine UC (Wz (Vd (name:=Str.ofString "__next__") hit.typeIs VY
  (U7 VY hit.typeIs F.entry_dict_keyiterator_next ?_ (F.args_dict_keyiterator_next_1 _))))
 refine UC (UD ?_);refine UC ?_;refine UC ?_
 first|refine UC (Wh hit.typeIs (UD ?_))|refine UC (WN hit.typeIs (UD ?_))
 refine UC (wpAny_fieldsOf ho hd ?_);have hown:Builtin.Dict_items.ownsTuple "dict_keyiterator" = false:=by decide
 simp only[hown,UQ,Vu];show wpAny _ _ (if(Value.ref d==Value.none)=true then _ else _) _ _ s;rw[if_neg (show ¬ ((Value.ref d==Value.none)=true)from U9)];refine UC (UD ?_);refine UC (XQ hod hdd ?_);rw[if_neg (by simp)];refine UC (UD ?_);refine UC (wpAny_dictEpoch hod hdd ?_);rw[if_neg (by simp)];refine UD ?_;simp only[show ¬ ((i:Int)<0)from by omega,Vu,V7,XG hge];refine UC ?_
 first|refine UC (Wh hit.typeIs (UD ?_))|refine UC (WN hit.typeIs (UD ?_))
 show wpAny _ _ (setField (.ref it) 0 .none >>= _) _ _ s;refine UC (XX ho hd (by simp) ?_);show wpAny _ _ (newExc (.type "StopIteration") [] >>= _) _ _ _;refine UC ?_;simp only[newExc,newTuple];refine UC (Vh ?_ (by size_fits));refine UC (m:=firstArgMember _ _) (WE (a:=Value.none) (by first|rfl | (simp only[firstArgMember];rfl)) ?_);refine Vh ?_ (by size_fits);simp only[raiseNew];refine UC (wpAny_handled ?_);rw[show A.in1.handled=none from hh];refine UC (UD (wpAny_throw ?_));refine UC (Wv (T := "StopIteration") (b:=true) ⟨_,UL _ rfl,rfl⟩ isSubtype_stop ?_);exact UD (hQ _ (((VD ..).extBut.push _).push _))
theorem Walks.L4(hh:A.handled=none)(I d:Addr)(hne:d≠I)(es:YK)(ep:Nat) :
  Walks prog w A I [I,d] [I] es.size (λi v=>∃e,es[i]?=some e/\v=e.key) (λi h=>h.IsKeyIter I d i es.size ep/\h.fz d es ep) where
 sub:=λb hb=>by grind
 frame:=λ_ _ _ st hk=>⟨st.1.at λo e=>hk I (by simp) o e,st.2.at λo e=>hk d (by simp) o e⟩
 item:=λi s Q E hi st hQ=>IX st.1 st.2 hi λh' hit' hs'=>
  hQ _ h' s.toks ⟨es[i],U1 hi,rfl⟩ ⟨hit',st.2.at λo e=>hs'.extBut d o hne e⟩ λb o hb e=>hs'.extBut b o (λh=>hb (by simp[h])) e
 done:=λs Q E st hQ=>L0 hh st.1 st.2 (UJ _) λh' he'=>hQ h' s.toks λb o hb e=>he' b o (λh=>hb (by simp[h])) e
 self:=λ_ _ _ _ st hQ=>wpAny_pyIter_keyiter st.1 hQ
theorem L5(lo:(d==sysModules)=false):PySem.W.KdlSrc prog w "dict" d d es.size (λi v=>∃e,es[i]?=some e/\v=e.key) (λh=>h.fz d es ep) where
 type:=λ_ hm=>hm.typeIs
 there:=λ_ hm=>by obtain⟨_,ho,_⟩:=hm;exact⟨UM ho,UM ho⟩
 keep:=λ_ _ hm hk=>hm.at λo e=>hk d (.inl rfl) o e
 notList:=by decide
 notTuple:=by decide
 hint:=λ_ _ _ _ hm hq=>PySem.W.kdl_hint_dict hm.typeIs hq
 iter:=λ_ _ hh hm=>⟨_,_,(λ_ _ hq=>IW lo hm hq),Walks.L4 hh _ d (by obtain⟨_,ho,_⟩:=hm;exact UT (UM ho)) es ep,⟨⟨_,UL _ rfl,rfl,rfl⟩,hm.at λo e=>UE _ e⟩⟩
theorem IY(lo:(d==sysModules)=false)(hh:A.handled=none)(hm:s.heap.fz d es ep)(hn:es.size<=sizeLine)
 (hQ:∀h' tk c',(∀b o,s.heap.get? b=some o->h'.get? b=some o)->h'.get? #[2]=some {cls:=.type "list",dict:=none,data:=.seq (es.map (·.key)) c',slots:=#[]}->Q (.ref #[2]) {s with heap:=h',toks:=tk}) :
  wpAny (model prog w) A (call (.type "list") [.ref d]) Q E s:=
 PySem.W.kdl_call (L5 lo) hh hm hn λh' tk acc' c' hk hS hacc=>by
  have e:acc'=es.map (·.key):=by
   apply Array.ext
   ·simp[hacc.1]
   ·intro j h1 h2;obtain⟨e,he,hv⟩:=hacc.2 j acc'[j] (U1 h1);have hj:j<es.size:=by simp_all
    simp_all
  simp_all
end
end PySem
namespace Ml
open PySem PySem.Spec L2
section
variable {X:Cx} {E:XK} {k:Nat} {θ:YE} {hm:Hm} {H M:Hp} {pins:Yz} {σ:L2.St} {s:YR}
theorem lL:∀{ks:List (Key×V)} {kvs:YA},bI ks=some kvs->kL (.str x) kvs=(ks.any λkv=>decide (kv.1=Sum.inr x))
 | [],kvs,e=>by cases e;rfl
 | (q,v)::ks,kvs,e=>by
  unfold bI at e
  cases e1:jm v with
  |none=>simp_all
  |some d=>
   cases e2:bI ks with
   |none=>simp_all
   |some ds=>
    rw[e1,e2]at e;cases e;have ih:=lL (x:=x) e2;unfold kL at ih ⊢;rw[X9,X9,ih]
    grind[GD,PyData.eqv]
where
 key_lr' {a:Int} {b:Str}:decide ((Sum.inl a:Key)=Sum.inr b)=false:=VR (λq=>nomatch q)
theorem Fv(q:Key)(x:Str):PyData.eqv (GD q) (.str x)=decide (q=Sum.inr x):=by
 grind[GD,PyData.eqv]
theorem v9(hv:jm u=some dv):∀{ks:List (Key×V)} {kvs:YA},bI ks=some kvs ->
  bI (ks.map λkv=>if kv.1=Sum.inr x then(kv.1,u)else kv)=some (kvs.map λp=>if PyData.eqv p.1 (.str x)then(p.1,dv)else p)
 | [],kvs,e=>by cases e;rfl
 | (q,v)::ks,kvs,e=>by
  unfold bI at e
  cases e1:jm v with
  |none=>simp_all
  |some d=>
   cases e2:bI ks with
   |none=>simp_all
   |some ds=>
    rw[e1,e2]at e;cases e;have ih:=v9 (x:=x) hv e2;rw[Va,Va,Fv];by_cases hq:q=Sum.inr x
    ·simp_all[bI,hv,ih]
    simp_all[hq,decide_false,Vu,UQ,bI,e1,ih]
theorem tS(hv:jm u=some dv):∀{ks:List (Key×V)} {kvs:YA},bI ks=some kvs->bI (ks++[(Sum.inr x,u)])=some (kvs++[(.str x,dv)])
 | [],kvs,e=>by simp_all[bI,hv,GD]
 | (q,v)::ks,kvs,e=>by
  unfold bI at e
  cases e1:jm v with
  |none=>simp_all
  |some d=>
   cases e2:bI ks with
   |none=>simp_all
   |some ds=>rw[e1,e2]at e;cases e;have ih:=tS (x:=x) hv e2;rw[X6];unfold bI;rw[e1,ih];rfl
theorem wa(hv:jm u=some dv)(e:bI ks=some kvs):bI (putK ks (Sum.inr x) u)=some (dput kvs (.str x) dv):=by
 unfold putK dput;rw[lL e];split
 ·exact v9 hv e
 ·exact tS hv e
theorem lM:∀{ks:List (Key×V)} {kvs:YA},bI ks=some kvs->ks.length=kvs.length
 | [],kvs,e=>by cases e;rfl
 | (q,v)::ks,kvs,e=>by
  unfold bI at e
  cases e1:jm v with
  |none=>simp_all
  |some d=>
   cases e2:bI ks with
   |none=>simp_all
   |some ds=>rw[e1,e2]at e;cases e;simp[lM e2]
theorem wb:∀{ks:List (Key×V)} {kvs:YA} {d:PyData},bI ks=some kvs->Ik kvs (.str x)=some d->∃u,uE ks (Sum.inr x)=some u/\jm u=some d
 | [],kvs,d,e,g=>by cases e;grind[Ik]
 | (q,v)::ks,kvs,d,e,g=>by
  unfold bI at e
  cases e1:jm v with
  |none=>simp_all
  |some d'=>
   cases e2:bI ks with
   |none=>simp_all
   |some ds=>
    rw[e1,e2]at e;cases e;unfold Ik at g;rw[List.find?_cons,Fv]at g;by_cases hq:q=Sum.inr x
    ·simp only[hq,decide_true]at g;simp at g;subst g;exact⟨v,qp (p:=(q,v)) hq,e1⟩
    ·simp only[hq,decide_false]at g;obtain⟨u,h1,h2⟩:=wb (x:=x) e2 g;exact⟨u,by rw[qr (p:=(q,v)) hq];exact h1,h2⟩
theorem IZ(h:jm u=some d):Rep M d u:=by
 cases u with
 |non=>cases h;rfl
 |bl b=>cases h;rfl
 |int i=>cases h;rfl
 |str x=>cases h;rfl
 |_=>cases h
theorem BA(f:oO d=true)(h:Rep M d u):jm u=some d:=by
 cases d with
 |none=>cases h;rfl
 |bool b=>cases h;rfl
 |int i=>cases h;rfl
 |str x=>cases h;rfl
 |_=>trivial
theorem lP(tq:aC q=true):∀{kvs:YA} {xs:List (PyData×Addr×Value)},Paired (pq M) kvs xs->kL q kvs=(atKey xs q).isSome
 |_,_,.nil=>rfl
 |_,_,.cons (a:=p) (b:=x) h t=>by
  have ih:=lP tq t;unfold kL at ih ⊢;unfold atKey at ih ⊢;rw[X9,List.find?_cons,ih];by_cases e:x.1=q
  ·rw[WX e,h.1,e,bc (aX tq)];rfl
  ·have  := bq (aX h.2.1) (aX tq) (by rw[h.1];exact e)
   simp_all
theorem Fw(I:Inv X pins σ H s)(sm:bT M H)(t:aC d=true)(dp:d.depth<=8)(so:fj d=true)(r:Rep M d (.ref a)):OT s.heap d a:=by obtain⟨as,z⟩:=Rep.reads I (r.same sm) rfl;exact⟨t,dp,so,as,z⟩
theorem zV(I:Inv X pins σ H s)(sm:bT M H):∀{kvs:YA} {xs:List (PyData×Addr×Value)},Paired (pq M) kvs xs->∀x∈xs,OT s.heap x.1 x.2.1
 |_,_,.nil,x,hx=>by cases hx
 |_,_,.cons h t,x,hx=>by
  rcases UP.mp hx with rfl|hx
  ·obtain⟨e,t1,t2,t3,t4,_⟩:=h;rw[<- e];exact Fw I sm t1 t2 t3 t4
  ·exact zV I sm t x hx
theorem DH(I:Inv X pins σ H s)(sm:bT M H)(ha:H a=some (dO X.prog X.w xs a))(r:Paired (pq M) kvs xs) :
  kvs.length<=sizeLine/\(a==sysModules)=false/\s.heap.DictOfH (fk X.prog X.w) a xs:=by
 obtain⟨⟨h1,h2,o,es,ep,h3,h4,h5,h6,h7⟩,_⟩:=I.hok a _ ha;exact⟨by rw[U3 r];exact h1,h2,o,es,ep,h3,h4,h5,h6,zV I sm r,h7⟩
theorem Pl(ha:H a=some (dO X.prog X.w xs a)):Qf (H a):=by rw[ha];exact True.intro
theorem BB(tq:aC q=true)(rv:RelV v u)(rd:Rep M dv v)(sd:fj dv=true):∀{kvs:YA} {xs:List (PyData×Addr×Value)},Paired (pq M) kvs xs ->
  Paired (pq M) (kvs.map λp=>if PyData.eqv p.1 q then(p.1,dv)else p) (xs.map (putAt q u))
 |_,_,.nil=>.nil
 |_,_,.cons (a:=p) (b:=x) h t=>by
  rw[Va,Va];refine .cons ?_ (BB tq rv rd sd t);unfold putAt;by_cases e:x.1=q
  ·have e2:PyData.eqv p.1 q=true:=by rw[h.1,e];exact bc (aX tq)
   rw[if_pos e,if_pos e2];exact⟨h.1,h.2.1,h.2.2.1,h.2.2.2.1,h.2.2.2.2.1,v,rv,rd,sd⟩
  ·have e2  := bq (aX h.2.1) (aX tq) (by rw[h.1];exact e)
   grind
theorem BC(tq:aC q=true)(dq:q.depth<=8)(sq:fj q=true)(rq:Rep M q (.ref b))(rv:RelV v u)(rd:Rep M dv v)(sd:fj dv=true)(r:Paired (pq M) kvs xs) :
  Paired (pq M) (dput kvs q dv) (storedH xs q b u):=by
 unfold dput storedH;rw[lP tq r];split
 ·exact BB tq rv rd sd r
 ·exact cY r (.cons ⟨rfl,tq,dq,sq,rq,v,rv,rd,sd⟩ .nil)
theorem BE(kvs:YA)(q v:PyData):(dput kvs q v).length<=kvs.length+1:=by
 unfold dput;split
 ·simp
 ·simp
theorem W.I0(w:W G θ hm H)(ha:θ[j]?=some a)(hl:j<hm.length)(r:fM G.P G.w (view θ H) (upd H a o) a t kvs):Ev θ H θ (upd H a o)/\W G θ (hm.set j (.ia t kvs)) (upd H a o):=by
 have hmm  := U6 ha
 have e:Ev θ H θ (upd H a o):=⟨⟨[],by simp⟩,λb u q=>by
  obtain⟨h1,h2⟩:=c8 q;have ne:b≠a:=λz=>by grind
  simp_all[eA,aM]⟩
 exact w.write ha hl (fM.same e.same r λ_ q=>q)
def Rj(G:Gx)(E:XK):V->V->V->Hp->(Hp->Prop)->Prop:=λx y v H Q=>∃θ h d1 d2 d,W G θ h H/\b9 G θ H d1 x/\b9 G θ H d2 y/\b9 G θ H d v/\aA G (qi G E) θ H (pf d1 d2 d h) (λ_ _ _ H'=>Q H')
theorem L6(hr:cE k X.A):NU X (Rj X.G E):=by
 rintro pins s σ H x y v xv yv u Q I rx ry rv ⟨θ,h,d1,d2,d,w,r1,r2,rd,p⟩;unfold pf at p;split at p
 ·rename_i j;split at p
  ·rename_i t kvs hx;unfold Io at p;split at p
   ·rename_i q dv;split at p
    ·rename_i hc;simp only[UH,Vi,Wn]at hc;obtain⟨a,ha,rfl⟩:=r1;cases rx;rcases w.obj _ _ _ ha hx with⟨rfl,ks,h1,h2,h3⟩|⟨rfl,xs,h1,h2⟩
     ·have hk:∃z,q=.str z:=by
       have:=hc.1.1;simp only[keyOk,UQ,Vu]at this;cases q<;>first|exact⟨_,rfl⟩|simp[mY]at this
      obtain⟨z,rfl⟩:=hk;have fd:oO dv=true:=by rcases hc.1.2 with z|z;cases z;exact z
      have hv:=BA fd rd.1;obtain⟨e2,s2⟩:=fx r2;subst e2
      have so:∀p∈dput kvs (.str z) dv,fj p.1=true/\fj p.2=true:=λp hp=>by
       unfold dput at hp;split at hp
       ·obtain⟨p0,hp0,e0⟩:=U2.mp hp;split at e0
        ·subst e0;exact⟨(h3 p0 hp0).1,rd.2⟩
        ·subst e0;exact h3 p0 hp0
       ·rcases UR.mp hp with hp|hp
        ·exact h3 p hp
        ·simp at hp;subst hp;exact⟨by simpa [fj]using s2,rd.2⟩
      obtain⟨e1,w1⟩:=w.I0 (o:=.dK (putK ks (Sum.inr z) v)) (t:=false) (kvs:=dput kvs (.str z) dv) ha (ow hx) (.inl ⟨rfl,_,bg,wa hv h2,so⟩);exact GB (by have:=hr.units;omega) I (Lv.k (k:=Sum.inr z) h1 (by rw[lM h2,WL];exact hc.2)) ry rv λs' I'=>⟨_,I',p _ _ e1 w1⟩
     ·have hk:=hc.1.1;simp only[keyOk,VC,UH,Vi]at hk
      obtain⟨b,vs,rfl,hb⟩:∃b vs,y=.ref b/\view θ H b=some (.tup vs):=by
       cases q with
       |tuple ds=>obtain⟨b,vs,e,hb,_⟩:=r2.1;exact⟨b,vs,e,hb⟩
       |_=>simp[gE]at hk
      cases ry;obtain⟨hz,hsys,dd⟩:=DH I (ax θ H) h1 h2;have hz2:xs.length<=sizeLine:=by rw[<- show kvs.length=xs.length from U3 h2];exact hz
      have kr:=BC (b:=b) (u:=u) hk.1.2 hk.2 r2.2 r2.1 rv rd.1 rd.2 h2;refine wpAny_setItem_heap (knd:=fk X.prog X.w) (hsz:=hz2) (by show X.A.units+1+20<cLine;have:=hr.units;omega) (Fw I (ax θ H) hk.1.2 hk.2 r2.2 r2.1) dd λh' dd' hs=>?_;obtain⟨o,es,ep,g1,g2,g3,g4,_,g5⟩:=dd';have hl2:(storedH xs q b u).length<=sizeLine:=by rw[<- show(dput kvs q dv).length=_ from U3 kr];have:=BE kvs q dv;rw[WL];omega
      refine⟨_,uU (t':=_) I (Pl h1) hs ⟨o,g1⟩ (Ir (xs:=storedH xs q b u) hl2 hsys g1 g2 g3 g4 g5),?_⟩;obtain⟨e1,w1⟩:=w.I0 (o:=dO X.prog X.w (storedH xs q b u) a) (t:=true) (kvs:=dput kvs q dv) ha (ow hx) (.inr ⟨rfl,_,bg,kr⟩);exact p _ _ e1 w1
    ·exact p.elim
   ·exact p.elim
  ·exact set_list pins s σ H x y v xv yv u Q I rx ry rv (GV w r1 r2 rd p)
 ·exact p.elim
theorem zW(hr:cE k X.A)(ho:DE X E ma' o)(hi:DE X E mb i)(ha:∀v,assign (.Subscript o i pos) X.env v=(do
   let ov <- holding [v] (eval o X.env)
   let iv <- holding [v,ov] (eval i X.env)
   standAt pos
   holding [v,ov,iv] (setItem ov iv v)
   release [v,ov,iv] []):=by intro _;rfl):DG X E (o4 ma' mb) (.Subscript o i pos):=by
 simp[bj,mG]at *;exact by rintro pins s σ H v u Q I r ⟨θ,h,ρ,d,w,fr,rd,p⟩;exact NW ho hi (L6 hr) ha pins s σ H v u Q I r ⟨θ,h,ρ,w,fr,(aA.bind p).mono (by rintro d1 θ1 h1 H1 _ _ ⟨ev,w1,p1⟩ x r1;exact⟨θ1,h1,ρ,w1,fr.ev ev,(aA.bind p1).mono (by rintro d2 θ2 h2 H2 _ _ ⟨ev2,w2,p2⟩ y r2;exact⟨θ2,h2,d1,d2,d,w2,r1.ev ev2,r2,rd.ev (ev.trans ev2),(aA.bind p2).mono (by rintro _ θ3 h3 H3 _ _ ⟨ev3,w3,p3⟩;exact p3 θ3 H3 Ev.refl w3 σ (((fr.ev ev).ev ev2).ev ev3))⟩)⟩)⟩
end
section
variable {X:Cx} {E:XK} {k:Nat} {θ:YE} {hm:Hm} {H M:Hp} {pins:Yz} {σ:L2.St} {s:YR} {pos:Pos} {e:Expr}
theorem wc(w:W G θ hm H)(r:b9 G θ H d v)(e:iU d hm=some (t,kvs)):∃a,v=.ref a/\fM G.P G.w (view θ H) H a t kvs:=by
 unfold iU at e;split at e
 ·cases e;obtain⟨a,h1,h2⟩:=r;exact⟨a,h1,h2.same (bT.refl _) λo q=>ax _ _ _ _ q⟩
 ·split at e
  ·rename_i hx;cases e;obtain⟨a,ha,h1⟩:=r;exact⟨a,h1,w.obj _ _ _ ha hx⟩
  grind
 grind
theorem L7(hr:cE k X.A)(I:Inv X pins σ H s)(rx:RelV x v)(w:W X.G θ h H)(r1:b9 X.G θ H d1 x)(dc:fM X.prog X.w (view θ H) H a t kvs)(hb:zH d1 kvs t=some b) :
  (Q (.bl b) H->wpAny (model X.prog X.w) X.A (compareOp .In v (.ref a)) (EP X pins σ Q) X.xe s)/\(Q (.bl !b) H->wpAny (model X.prog X.w) X.A (compareOp .NotIn v (.ref a)) (EP X pins σ Q) X.xe s):=by
 unfold zH at hb;split at hb
 ·rename_i d;split at hb
  ·rename_i ok;cases hb;rcases dc with⟨rfl,ks,h1,h2,h3⟩|⟨rfl,xs,h1,h2⟩
   ·simp only[keyOk,UQ,Vu]at ok
    cases d with
    |str z=>
     cases(fx r1).1
     exact⟨λq=>S8 (by have:=hr.units;omega) I (Bd.k (k:=Sum.inr z) h1) rx λs' I'=>⟨.bl _,H,I',rfl,by rw[<- qt,<- lL h2];exact q⟩,
      λq=>Lw (by have:=hr.units;omega) I (Bd.k (k:=Sum.inr z) h1) rx λs' I'=>⟨.bl _,H,I',rfl,by rw[<- qt,<- lL h2];exact q⟩⟩
    |_=>simp[mY]at ok
   ·simp only[keyOk,VC,UH,Vi]at ok
    cases d with
    |tuple ds=>
     obtain⟨c,vs,rfl,hc,_⟩:=id r1.1;cases rx;obtain⟨hz,hsys,dd⟩:=DH I (ax θ H) h1 h2;have room:(fk X.prog X.w).room X.A.in1:=by show X.A.units+1+20<cLine;have:=hr.units;omega
     have tk:=Fw I (ax θ H) ok.1.2 ok.2 r1.2 r1.1
     exact⟨λq=>wpAny_in_heap (knd:=fk X.prog X.w) room tk hsys dd ⟨.bl _,H,I.tok _,rfl,by rw[<- lP ok.1.2 h2];exact q⟩,
      λq=>PyProof.Rows.wpAny_notIn_heap (knd:=fk X.prog X.w) room tk hsys dd ⟨.bl _,H,I.tok _,rfl,by rw[<- lP ok.1.2 h2];exact q⟩⟩
    |_=>simp[gE]at ok
  grind
 grind
theorem u6(hr:cE k X.A)(I:Inv X pins σ H s)(rx:RelV x v)(ry:RelV y u)(w:W X.G θ h H)(r1:b9 X.G θ H d1 x)(r2:b9 X.G θ H d2 y)(hb:findIn d1 d2 h=some b) :
  (Q (.bl b) H->wpAny (model X.prog X.w) X.A (compareOp .In v u) (EP X pins σ Q) X.xe s)/\(Q (.bl !b) H->wpAny (model X.prog X.w) X.A (compareOp .NotIn v u) (EP X pins σ Q) X.xe s):=by
 unfold findIn at hb;split at hb
 ·rename_i p hp;obtain⟨a,rfl,dc⟩:=wc w r2 hp;cases ry;exact L7 hr I rx w r1 dc hb
 ·exact IV hr I rx ry w r1 r2 hb
theorem qM(hr:cE k X.A):pA X E (compareOp .In) mQ:=by
 rintro pins s σ H x y v u Q I rx ry ⟨θ,h,d1,d2,w,r1,r2,p⟩;unfold mQ at p;split at p
 ·rename_i b hb;exact(u6 hr I rx ry w r1 r2 hb).1 (p.lK w (b0 _))
 ·trivial
theorem tT(hr:cE k X.A):pA X E (compareOp .NotIn) gF:=by
 rintro pins s σ H x y v u Q I rx ry ⟨θ,h,d1,d2,w,r1,r2,p⟩;unfold gF at p;split at p
 ·rename_i b hb;exact(u6 hr I rx ry w r1 r2 hb).2 (p.lK w (b0 _))
 ·trivial
theorem Ja(h:∀p∈kvs,fj p.1=true/\fj p.2=true)(e:Ik kvs q=some d):fj d=true:=by
 obtain⟨p,hp,rfl⟩:=Vg.mp e
 grind
theorem bF(hr:cE k X.A):Qi X (OV X.G E gU):=by
 rintro value slice pins s σ H x y v u Q I rx ry ⟨θ,h,d1,d2,w,r1,r2,p⟩ hs;unfold gU at p;split at p
 ·rename_i pp hp;obtain⟨t,kvs⟩:=pp;split at p
  ·rename_i z;split at p
   ·trivial
   ·rename_i ht;split at p
    ·rename_i d hd;obtain⟨a,rfl,dc⟩:=wc w r1 hp;cases rx;rcases dc with⟨_,ks,h1,h2,h3⟩|⟨z1,_⟩
     ·obtain⟨e2,s2⟩:=fx r2;subst e2;obtain⟨uu,g1,g2⟩:=wb h2 hd;have T:s.TypeIs (.ref a) "dict" := by obtain⟨_,_,vs,_,o,_,_,e,ex,_⟩:=I.hok a _ h1;exact⟨o,e,ex.1⟩
      exact PyProof.Rows.tail_any (ops:=[.ref a,u]) T PySem.F.slot_dict_getitem.lookup (GA (by have:=hr.units;omega) I (by have:=Bd.k (k:=Sum.inr z) h1;rw[g1]at this;exact this) ry λw' s' I' rw'=>⟨uu,H,I',rw',p.lK w ⟨IZ g2,Ja h3 hd⟩⟩) hs
     grind
    ·exact p.elim
  ·exact p.elim
 ·exact IJ value slice pins s σ H x y v u Q I rx ry ⟨θ,h,d1,d2,w,r1,r2,p⟩ hs
end
section
variable {X:Cx} {E:XK} {k:Nat} {θ:YE} {hm:Hm} {H M:Hp} {pins:Yz} {σ:L2.St} {s:YR} {pos:Pos} {e:Expr}
theorem yz:∀{kvs:YA} {xs:List (PyData×Addr×Value)},Paired (pq M) kvs xs->aZ M (kvs.map (·.1)) (xs.map λx=>V.ref x.2.1)/\cF (kvs.map (·.1))=true
 |_,_,.nil=>⟨rfl,rfl⟩
 |_,_,.cons h t=>by obtain⟨h1,h2⟩:=yz t;exact⟨.cons h.2.2.2.2.1 h1,by simp[cF,h.2.2.2.1,h2]⟩
theorem yA:∀(xs:List (PyData×Addr×Value)),Vals (xs.map λx=>V.ref x.2.1) (xs.map λx=>Value.ref x.2.1)
 | []=>.nil
 |_::xs=>.cons rfl (yA xs)
theorem Fx:∀{ks:List (Key×V)} {vs:List (Key×Value)} {es:List DictEntry} {kvs:YA},bI ks=some kvs->L2.KV ks vs->Pairs (cj P w) es vs->∃us:List V,Vals us (es.map (·.key))/\aZ M (kvs.map (·.1)) us
 | [],_,es,kvs,e,r,p=>by
  cases e;cases r
  cases es with
  |nil=>exact⟨[],.nil,rfl⟩
  |cons _ _=>trivial
 | (q,v)::ks,_,es,kvs,e,r,p=>by
  cases r with
  |cons r1 r2=>
   rename_i q' vs';obtain⟨k',u⟩:=q';obtain⟨e1,e2⟩:=r1;simp only at e1 e2;subst e1
   cases p with
   |cons hk hv hr=>
    unfold bI at e
    cases e1:jm v with
    |none=>simp_all
    |some d=>
     cases e3:bI ks with
     |none=>rw[e1,e3]at e;cases e
     |some ds=>
      rw[e1,e3]at e;cases e;obtain⟨us,z1,z2⟩:=Fx e3 r2 hr;rcases cq hk with⟨i,t,rfl,hk'⟩|⟨x,t,rfl,hk'⟩
      ·exact⟨.int i::us,.cons ⟨t,hk'⟩ z1,.cons rfl z2⟩
      ·exact⟨.str x::us,.cons ⟨t,hk'⟩ z1,.cons rfl z2⟩
theorem Pm(hc:X.calm=true):qE X E (.type "list") Bk:=by
 rintro pins s σ H xs us Q I r ⟨θ,h,ds,w,rs,p⟩;unfold Bk at p;split at p
 ·rename_i x;split at p
  ·rename_i pp hp;obtain⟨t,kvs⟩:=pp
   cases rs with
   |cons r1 rr=>
    cases rr;obtain⟨a,rfl,dc⟩:=wc w r1 hp
    cases r with
    |cons rv rr=>
     cases rr;cases rv
     have fin:∀(es:YK) (ep:Nat) (vs:List V),s.heap.fz a es ep->(a==sysModules)=false->kvs.length<=sizeLine->es.size=kvs.length->Vals vs (es.toList.map (·.key))->aZ (view θ H) (kvs.map (·.1)) vs->cF (kvs.map (·.1))=true ->
       wpAny (model X.prog X.w) X.A (call (.type "list") [.ref a]) (EP X pins σ Q) X.xe s:=λes ep vs raw hsys hz hsz hv hrp hso=>by
      refine IY hsys (I.ok.hd hc) raw (by rw[hsz];exact hz) λh' tk c' hk hl=>?_;have hn:H #[2]=none:=I.hok.fresh (UJ _);obtain⟨e1,w1,g⟩:=w.put (o:=.lst vs) hn;have hlen:vs.length=kvs.length:=by have:=hrp.length;simpa using this
      refine⟨.ref #[2],upd H #[2] (.lst vs),I.laid (λb o q=>hk b o q) (UJ _) ⟨by rw[hlen];exact hz,es.toList.map (·.key),c',hv,?_⟩,rfl,p _ _ e1 w1 _ ⟨⟨_,vs,rfl,g,hrp.same e1.same⟩,by simpa [fj]using hso⟩⟩;rw[hl];have ee:es.map (·.key)=(es.toList.map (·.key)).toArray:=by apply Array.ext' ;simp
      rw[ee]
     rcases dc with⟨rfl,ks,h1,h2,h3⟩|⟨rfl,xs,h1,h2⟩
     ·obtain⟨z,ne,vs,rk,o,es,ep,ho,hx,hd,_,hpp,_⟩:=I.hok a _ h1;obtain⟨us,v1,v2⟩:=Fx (M:=view θ H) h2 rk hpp;have hl1:ks.length=kvs.length:=lM h2;have hl2:es.size=kvs.length:=by have a1:=v1.length;have a2:=v2.length;simp at a1 a2;omega
      exact fin es ep us ⟨o,ho,hx,hd⟩ ne #[1] hl2 v1 v2 (bC.mpr λd m=>by obtain⟨p0,hp0,rfl⟩:=U2.mp m;exact(h3 p0 hp0).1)
     ·obtain⟨hz,hsys,dd⟩:=DH I (ax θ H) h1 h2;obtain⟨o,es,ep,g1,g2,g3,g4,_,_⟩:=dd;obtain⟨k1,k2⟩:=yz h2;have hes:es.toList.map (·.key)=xs.map λx=>Value.ref x.2.1:=by rw[g4,W4];rfl
      have hl2:es.size=kvs.length:=by have:=Xx List.length g4;rw[UX,<- show kvs.length=xs.length from U3 h2]at this;simpa using this
      exact fin es ep _ ⟨o,g1,g2,g3⟩ hsys hz hl2 (by rw[hes];exact yA xs) k1 k2
  ·exact LW (E:=E) pins s σ H xs us Q I r ⟨θ,h,_,w,rs,p⟩
 ·exact p.elim
def Fy(t:Bool):ME:=λ_ h=>.ok (.ref h.length) (h++[.ia t []])
theorem W.Pn(w:W G θ hm H)(hp:H p=none)(r:fM G.P G.w (view θ H) (upd H p o) p t []) :
  Ev θ H (θ++[p]) (upd H p o)/\W G (θ++[p]) (hm++[.ia t []]) (upd H p o)/\b9 G (θ++[p]) (upd H p o) (.ref hm.length) (.ref p):=by
 have e:Ev θ H (θ++[p]) (upd H p o):=⟨⟨[p],rfl⟩,λa u q=>by
  obtain⟨h1,h2⟩:=c8 q;have ne:=aV h2 hp;rw[eA (by simp;exact⟨h1,ne⟩),aM ne]
  exact h2⟩
 obtain⟨e1,w1⟩:=w.alloc (m:=.ia t []) hp (fM.same e.same r λ_ q=>q);exact⟨e1,w1,p,by rw[<- w.len];simp,rfl⟩
theorem Jb(h:Heap)(hb:sysModules<h.objs.size):cL P w H (h.push {cls:=.type "dict",data:=.dict #[]}) h.objs.size (dO P w [] h.objs.size):=
 Ir (Vw _) (Xn.mpr (Xv (UT hb))) (UL _ rfl) ⟨rfl,rfl,rfl⟩ rfl rfl List.nodup_nil
theorem L8:DE X E (Fy true) (.Dict [] [] pos):=by simp[bj]at *;exact by rintro pins s σ H Q I ⟨θ,h,ρ,w,fr,p⟩;have hn  := I.hok.fresh (UJ _);obtain⟨e1,w1,g⟩:=w.Pn hn (.inr ⟨rfl,[],bg,.nil⟩);exact wpAny_Dict_empty ⟨.ref #[2],_,I.laid (λ_ _ q=>UE _ q) (UJ _) (Jb s.heap I.big),rfl,p _ _ e1 w1 _ g⟩
end
theorem b9.take(r:b9 G θ H d v)(hb:d.below n=true):b9 G (θ.take n) H d v:=by
 have sm:bT _ (view (θ.take n) H):=λa o q=>by obtain⟨h1,h2⟩:=c8 q;rw[eA (λz=>h1 (Xi z))];exact h2
 cases d with
 |dat d=>exact⟨r.1.same sm,r.2⟩
 |ref i=>obtain⟨a,h1,h2⟩:=r;simp[D.below]at hb;exact⟨a,by simp_all,h2⟩
 |ia t kvs=>obtain⟨a,h1,h2⟩:=r;exact⟨a,h1,h2.same sm λo q=>sm _ _ q⟩
 |set xs=>exact r
 |fn n=>exact r
 |scr ns=>obtain⟨a,h1,h2⟩:=r;exact⟨a,h1,sm.seq h2⟩
 |ktup xs=>exact r
 |rpr x=>exact r
 |exc x=>obtain⟨a,c,h1,h2,h3⟩:=r;exact⟨a,c,h1,sm _ _ h2,h3⟩
theorem aO.take:∀{ds:List D} {vs:List V},aO G θ H ds vs->ds.all (D.below n)=true->aO G (θ.take n) H ds vs
 |_,_,.nil,_=>.nil
 |_,_,.cons r t,h=>by simp only[List.all_cons,UH]at h;exact .cons (r.take h.1) (aO.take t h.2)
theorem W.take(w:W G θ h H)(hb:(h.take n).all (MO.below n)=true):W G (θ.take n) (h.take n) H:=by
 have sm:bT _ (view (θ.take n) H):=λa o q=>by obtain⟨h1,h2⟩:=c8 q;rw[eA (λz=>h1 (Xi z))];exact h2
 refine⟨by simp[w.len],w.nd.sublist (W7 _ _),λi a o h1 h2=>?_⟩
 have hi:i<n:=by
  grind
 have mo:=UW.mp hb o (U6 h2);rw[Xr hi]at h1 h2;have r:=w.obj i a o h1 h2
 cases o with
 |lst xs=>obtain⟨vs,q1,q2⟩:=r;exact⟨vs,q1,q2.take mo⟩
 |ia t kvs=>exact fM.same sm r λ_ q=>q
 |ins=>trivial
 |tab P q=>obtain⟨rfl,x⟩:=r;exact⟨rfl,x.same sm λ_ q=>q⟩
theorem Ev.take(e:Ev θ H θ' H')(hn:n=θ.length):Ev θ H (θ'.take n) H':=by
 obtain⟨ext,rfl⟩:=e.pre;have:(θ++ext).take n=θ:=by grind
 rw[this];refine⟨⟨[],by simp⟩,λa o q=>?_⟩;obtain⟨h1,h2⟩:=c8 (e.same a o q);rw[eA (λz=>h1 (U4 _ z))];exact h2
theorem aA.kK(w:W G θ h H)(p:aA G (qi G E) θ H (kK F ds h) (KV G Q)):aA G (qi G E) θ H (F ds h) (KV G Q):=by
 unfold Ml.kK at p
 cases e:F ds h with
 |bad=>simp_all
 |ok d h'=>
  rw[e]at p;simp only at p;split at p
  ·rename_i hc;simp only[UH]at hc;intro θ' H' ev w' v r;have w2:=w'.take hc.1.2;have ev2:=ev.take w.len.symm;exact p _ _ ev2 w2 v (r.take hc.1.1)
  ·trivial
 |exc x h'=>
  rw[e]at p;simp only at p;split at p
  ·rename_i hc;simp only[UH]at hc;intro θ' H' ev w' cls da xr;have w2:=w'.take hc.1;have ev2:=ev.take w.len.symm;exact p _ _ ev2 w2 cls da xr
  ·trivial
theorem bU.kK(h:bU P w K mg base x ps k F):bU P w K mg base x ps k (Ml.kK F):=by obtain⟨⟨f,fd,h1,h2,h3,h4⟩,ar⟩:=h;refine⟨⟨f,fd,h1,h2,h3,h4.imp (by rintro vs H Q E ⟨θ,hm,ds,w,r,p⟩;exact⟨θ,hm,ds,w,r,p.kK w⟩)⟩,λds hm l=>?_⟩;unfold Ml.kK;rw[ar ds hm l]
end Ml
namespace L2
open PySem PySem.Spec
section
variable {X:Cx} {a b:Expr} {rest:YI} {ta tb:TE} {pos:Pos}
theorem Po(ht:N6 X r)(ha:PE X a ta)(hb:PE X (.BoolOp .Or (b::rest) pos) tb):PE X (.BoolOp .Or (a::b::rest) pos) (λσ H Q=>ta σ H λx H1=>r x H1 λc H2=>H2=H1/\if c=true then Q x H1 else tb σ H1 Q):=by
 intro pins s σ H Q I h;refine PyProof.Rows.BoolOp_or (bE (ha pins s σ H _ I h) λv s1 ⟨x,H1,I1,r1,q1⟩=>?_);refine bE (ht pins s1 σ H1 x v _ I1 r1 q1) λc s2 ⟨H2,I2,e,q2⟩=>?_;subst e
 cases c with
 |false=>exact hb pins s2 σ H2 Q I2 q2
 |true=>exact⟨x,H2,I2,r1,q2⟩
theorem L9(ht:N6 X r)(ha:PE X a ta)(hb:PE X (.BoolOp .And (b::rest) pos) tb):PE X (.BoolOp .And (a::b::rest) pos) (λσ H Q=>ta σ H λx H1=>r x H1 λc H2=>H2=H1/\if c=true then tb σ H1 Q else Q x H1):=by
 intro pins s σ H Q I h;refine PyProof.Rows.BoolOp_and (bE (ha pins s σ H _ I h) λv s1 ⟨x,H1,I1,r1,q1⟩=>?_);refine bE (ht pins s1 σ H1 x v _ I1 r1 q1) λc s2 ⟨H2,I2,e,q2⟩=>?_;subst e
 cases c with
 |true=>exact hb pins s2 σ H2 Q I2 q2
 |false=>exact⟨x,H2,I2,r1,q2⟩
end
end L2
namespace Ml
open PySem PySem.Spec L2
section
variable {X:Cx} {E:XK} {m a b c:ME} {t u:MT} {e e1 e2 e3:Expr} {es:YI} {ma:MA} {pos:Pos} {i:Nat} {x:Str}
def Ma(a b:ME):ME:=λρ h=>(a ρ h).bind λx h1=>match truth x h1 with
 |some c=>if c then .ok x h1 else b ρ h1
 |none=>.bad
def mI(a b:ME):ME:=λρ h=>(a ρ h).bind λx h1=>match truth x h1 with
 |some c=>if c then b ρ h1 else .ok x h1
 |none=>.bad
theorem Pp(ha:DE X E a e1)(hb:DE X E b (.BoolOp .Or (e2::es) pos)):DE X E (Ma a b) (.BoolOp .Or (e1::e2::es) pos):=by
 simp[bj]at *
 exact PE.imp (Po C3 ha hb) (by rintro σ H Q ⟨θ,h,ρ,w,fr,p⟩;exact⟨θ,h,ρ,w,fr,(aA.bind p).mono (by
   rintro d θ1 h1 H1 _ _ ⟨ev,w1,p1⟩ v r;split at p1
   ·rename_i b hb;refine⟨b,v7 w1 r hb,rfl,?_⟩
    cases b with
    |true=>exact p1 θ1 H1 Ev.refl w1 v r
    |false=>exact⟨θ1,h1,ρ,w1,fr.ev ev,p1⟩
   ·trivial)⟩)
theorem lQ(ha:DE X E a e1)(hb:DE X E b (.BoolOp .And (e2::es) pos)):DE X E (mI a b) (.BoolOp .And (e1::e2::es) pos):=by
 simp[bj]at *
 exact PE.imp (L9 C3 ha hb) (by rintro σ H Q ⟨θ,h,ρ,w,fr,p⟩;exact⟨θ,h,ρ,w,fr,(aA.bind p).mono (by
   rintro d θ1 h1 H1 _ _ ⟨ev,w1,p1⟩ v r;split at p1
   ·rename_i b hb;refine⟨b,v7 w1 r hb,rfl,?_⟩
    cases b with
    |false=>exact p1 θ1 H1 Ev.refl w1 v r
    |true=>exact⟨θ1,h1,ρ,w1,fr.ev ev,p1⟩
   ·trivial)⟩)
def lR(f g:D->D->Hm->R D)(a b c:ME):ME:=λρ h=>(a ρ h).bind λx h1=>(b ρ h1).bind λy h2=>(f x y h2).bind λz h3=>match z with
 |.dat (.bool k)=>if k then(c ρ h3).bind λw h4=>g y w h4 else .ok (.bool false) h3
 |_=>.bad
theorem BF(h:lE G E (lR f g a b c) σ H Q):C1 (OV G E f) (OV G E g) (lE G E a) (lE G E b) (lE G E c) σ H Q:=by
 obtain⟨θ,h,ρ,w,fr,p⟩:=h;refine⟨θ,h,ρ,w,fr,(aA.bind p).mono λx θ1 h1 H1 _ _ ⟨e1,w1,p1⟩ v r1=>?_⟩;refine⟨θ1,h1,ρ,w1,fr.ev e1,(aA.bind p1).mono λy θ2 h2 H2 _ _ ⟨e2,w2,p2⟩ u r2=>⟨θ2,h2,x,y,w2,r1.ev e2,r2,(aA.bind p2).mono λz θ3 h3 H3 _ _ ⟨e3,w3,p3⟩ z' r3=>?_⟩⟩
 cases z with
 |dat z=>
  cases z with
  |bool k=>
   refine⟨k,r3.1,?_⟩
   cases k with
   |true=>exact⟨θ3,h3,ρ,w3,(fr.ev e1).ev (e2.trans e3),(aA.bind p3).mono (by rintro w' θ4 h4 H4 _ _ ⟨e4,w4,p4⟩ q r4;exact⟨θ4,h4,y,w',w4,(r2.ev e3).ev e4,r4,p4⟩)⟩
   |false=>exact p3 θ3 H3 Ev.refl w3 _ ⟨rfl,by rfl⟩
  |_=>trivial
 |_=>trivial
theorem BG(ho:pA X E (compareOp op) f)(ho':pA X E (compareOp op') g)(ha:DE X E a e1)(hb:DE X E b e2)(hc:DE X E c e3)
 (hm:lastMarks [op,op'] [e2,e3]=false:=by with_unfolding_all rfl):DE X E (lR f g a b c) (.Compare e1 [op,op'] [e2,e3] pos):=by
 simp[bj]at *;exact PE.imp (HE ho ho' ha hb hc hm) λ_ _ _=>BF
theorem BH(ho:pA X E (compareOp op) f)(ho':pA X E (compareOp op') g)(ha:DE X E a e1)(hb:DE X E b e2)(hc:DE X E c e3)
 (hm:lastMarks [op,op'] [e2,e3]=false:=by with_unfolding_all rfl):DT X E (aI (lR f g a b c)) (.Compare e1 [op,op'] [e2,e3] pos):=by
 simp[bj,kN]at *;exact PT.imp (HF ho ho' ha hb hc hm) λ_ _ _ q=>BF (zK q)
end
section
variable {X:Cx} {E:XK} {m a b c:ME} {t u:MT} {e e1 e2 e3 tg:Expr} {es:YI} {ma:MA} {pos:Pos} {i:Nat} {x:Str} {ss:List Stmt} {st:Stmt}
theorem dv(i:Nat)(hN:X.N[i]?=some x:=by rfl)(hv:Hr X.env.scope x:=by first|exact Or.inl rfl|exact Or.inr (Or.inl rfl)|exact Or.inr (Or.inr rfl))(hd:(x==("__debug__" : Str))=false:=by decide)(hcd:(x==("__classdict__" : Str))=false:=by decide):DE X E (ab i) (.Name x pos):=OW hN hv hd hcd
theorem dg(i:Nat)(hN:X.N.Nodup)(hi:X.N[i]?=some x:=by rfl)(hx:Loc X.env.scope x:=by first|exact Or.inl rfl|exact Or.inr rfl)(hf:X.fn x=true\/X.env.scope.names.lookup x=some .local:=by first|exact .inl rfl|exact .inr rfl|assumption):DG X E (aq i) (.Name x pos):=LN hN hi hx hf
noncomputable def aH(e:ME):MA:=λρ h=>match e ρ h with
 |.ok (.dat (.tuple ds)) h1=>.ok (ds.map D.dat) h1
 |.ok (.dat (.list ds)) h1=>.ok (ds.map D.dat) h1
 |.ok (.dat (.str s)) h1=>.ok (signs s) h1
 |.ok (.ktup ds) h1=>.ok (ds.map D.dat) h1
 |.exc x h1=>.exc x h1
 |_=>.bad
theorem bG(h:DE X E m e):DI X E (aH m) tg e:=by
 have at':=O7 (tg:=tg) h;have al':=O8 (tg:=tg) h;have as':=O9 (tg:=tg) h;have ak':=LY (tg:=tg) h;simp only[kO]at *;rintro pins s σ H QI I ⟨θ,hm,ρ,w,fr,p⟩
 cases em:m ρ hm with
 |bad=>simp only[aH,em]at p;exact p.elim
 |exc x h1=>
  simp only[aH,em]at p;refine at' pins s σ H QI I ⟨θ,hm,ρ,w,fr,?_⟩
  simp_all[E4,em,R.Ig]
 |ok d h1=>
  cases d with
  |dat d=>
   cases d with
   |tuple ds=>
    simp only[aH,em]at p;refine at' pins s σ H QI I ⟨θ,hm,ρ,w,fr,?_⟩
    simp_all[E4,em,R.aP]
   |list ds=>simp only[aH,em]at p;refine al' pins s σ H QI I ⟨θ,hm,ρ,w,fr,?_⟩;simp only[Nf,em,R.aP];exact p
   |str ds=>simp only[aH,em]at p;refine as' pins s σ H QI I ⟨θ,hm,ρ,w,fr,?_⟩;simp only[Ng,em,R.aP];exact p
   |_=>simp only[aH,em]at p;exact p.elim
  |ktup ds=>simp only[aH,em]at p;refine ak' pins s σ H QI I ⟨θ,hm,ρ,w,fr,?_⟩;simp only[Rh,em,R.aP];exact p
  |_=>simp only[aH,em]at p;exact p.elim
end
section
variable {X:Cx} {E:XK} {m:ME} {e:Expr} {es:YI} {ma:MA} {pos pos' p p2:Pos} {i:Nat} {x T:Str} {f:Fn} {id n:String} {g:PyData->Bool}
theorem fo(i:Nat)(hN:X.N.Nodup)(he:DE X E m e)(hi:X.N[i]?=some x:=by rfl)(hx:Loc X.env.scope x:=by first|exact Or.inl rfl|exact Or.inr rfl)(hs:swapsWith e (some (.Name x pos')) pos.line X.env=pure false:=by kernel_rfl)(hf:X.fn x=true\/X.env.scope.names.lookup x=some .local:=by first|exact .inl rfl|exact .inr rfl|assumption) :
  DS X E (bP i m) (.Assign [.Name x pos'] e pos):=OZ hN hi hx he hs hf
theorem Rk{y:Str}{px py pt:Pos}{kt k2 pt2}(i j:Nat)(hN:X.N.Nodup)(ha:DA X E ma [a,b])(hc:X.calm=true:=by rfl)(hi:X.N[i]?=some x:=by rfl)(hj:X.N[j]?=some y:=by rfl)(hij:i≠j:=by decide)
 (hx:X.env.scope.names.lookup x=some .local:=by rfl)(hy:X.env.scope.names.lookup y=some .local:=by rfl)
 (hw:swappedStores [.Tuple [.Name x px,.Name y py] kt pt] (.Tuple [a,b] k2 pt2) X.env=pure (some [x,y]):=by kernel_rfl)
 (hs:swapsWithSole [.Tuple [.Name x px,.Name y py] kt pt] (.Tuple [a,b] k2 pt2) pos.line X.env=pure false:=by rfl) :
  DS X E (zF [i,j] ma) (.Assign [.Tuple [.Name x px,.Name y py] kt pt] (.Tuple [a,b] k2 pt2) pos):=by
 rw[iV]at ha;exact LO (NZ hc hN hi hj hij hx hy ha hw hs)
theorem rS(hc:qE X E (.builtin id) f)(hm:X.mg x=none)(hv:bootBuiltins x=some (.builtin id))(ha:DA X E ma (e::es))(hg:Gl X x:=by rfl)(hn:x ≠ "__name__" := by decide)(hdb:(x==("__debug__" : Str))=false:=by decide)
 (he:starEach (e::es) X.env=(false,eval e X.env)::starEach es X.env:=by rfl)(hpl:(backTo pos (starEach es X.env)).any (·.1)=false:=by rfl):DE X E (af f ma) (.Call (.Name x p) (e::es) [] pos):=Iz hc hg hm hv ha hn hdb he hpl
theorem ia(hc:qE X E (.type id) f)(hm:X.mg x=none)(hv:bootBuiltins x=some (.type id))(ha:DA X E ma (e::es))(hg:Gl X x:=by rfl)(hn:x ≠ "__name__" := by decide)(hdb:(x==("__debug__" : Str))=false:=by decide)
 (he:starEach (e::es) X.env=(false,eval e X.env)::starEach es X.env:=by rfl)(hpl:(backTo pos (starEach es X.env)).any (·.1)=false:=by rfl):DE X E (af f ma) (.Call (.Name x p) (e::es) [] pos):=GL hc hg hm hv ha hn hdb he hpl
theorem BI(kit:∀d,PySem.W.kitOne X.K (.type (OE d)) (.type n)=some (g d))(bt:bootBuiltins T=some (.type n))(m1:X.mg "isinstance" = none)(m2:X.mg T=none)(h:DE X E m e)(g1:Gl X "isinstance" := by rfl)(g2:Gl X T:=by rfl)(hT:T ≠ "__name__" := by decide)(hT2:(T==("__debug__" : Str))=false:=by decide)
 (hs:starEach [e,.Name T p2] X.env=(false,eval e X.env)::starEach [.Name T p2] X.env:=by rfl)(hs2:starEach [.Name T p2] X.env=[(false,eval (.Name T p2) X.env)]:=by rfl)(hpl:(backTo pos (starEach [.Name T p2] X.env)).any (·.1)=false:=by rfl):DE X E (Ih (vK g) m) (.Call (.Name "isinstance" p) [e,.Name T p2] [] pos):=Ph kit bt m1 m2 h g1 g2 hT hT2 hs hs2 hpl
end
def Df(K:YG)(mg:YC)(x:Str)(ps:YH)(st:Stmt):Prop:=∃f fd,mg x=some (.ref f)/\Ln K x x st f fd/\Binds K fd ps []
theorem Fz{oc kV dc pm cd ct:Value}(X:K.In h)(G:h.Ns mainGlobals mg)
 (a:PySem.W.nsIn K mainGlobals x=some (some (.ref f)))(l:K.lookup f=some ⟨oc,od,.func (PySem.W.fnOf x x (gR st) (dZ st) (au st) .none kV dc pm an cd ct),sl⟩)(c:PySem.W.codeIn K cd x=true)(k:PySem.W.keepIn K (.ref f)=true)
 (hb:∀(kV doc pm:Value) (an:Option Addr) (cdv ct:Value) (us:YF),us.length=ps.length->bindArgs (PySem.W.fnOf x x (gR st) (dZ st) (au st) .none kV doc pm an cdv ct) ⟨us,[]⟩=pure (ps.zip us)):Df K mg x ps st:=
 ⟨f,_,VU X G a,zu l c k,(zu l c k).binds hb⟩
section
variable {P:YN} {w:World} {K:YG} {mg:YC} {base:Heap} {x:Str} {st:Stmt} {ps N:YH} {k:Nat} {b:MS} {F:Fn}
theorem Df.has(d:Df K mg x ps st)(S:aE N ps (au st))(hbody:∀(f:Addr) (cdv:Value) (A:YQ) (outer:List Env) (s:YR) (H:Hp) (E:XK),cE k (A.deeper (PyProof.Rows.envOfC x (au st) #[2] f cdv)) ->
   GK (vo (uV P w) P w K mg base N x (au st) f cdv A outer s H E) E b (dZ st)):bU P w K mg base x ps (k+1) (aY ps.length N.length b):=by
 obtain⟨f,fd,h1,Fu,bd⟩:=d;exact⟨⟨f,fd,h1,Fu.kp,bd,Td Fu S (hbody f)⟩,yr⟩
end
theorem DJ:bootBuiltins "int" = some (.type "int"):=by rfl
theorem Mb:bootBuiltins "bool" = some (.type "bool"):=by rfl
theorem DK:bootBuiltins "any" = some (.builtin "any"):=by rfl
theorem Pq(h:jQ P w K mg base (uV P w) k f fd ps (IE ⟨P,w,mg,K⟩ F))(e:F=F'):jQ P w K mg base (uV P w) k f fd ps (IE ⟨P,w,mg,K⟩ F'):=e▸h
def Nn(K:YG):Sp:=λvs H Q _=>∃(a:Addr) (ns:List Int),vs=[.ref a]/\ji K H a (ns.map V.int)/\ns.length<=63/\∀H',Q (.bl true) H'
theorem Jc(hp:∀ns:List Int,ns.length<=63->∃h,F [.scr ns] []=.ok (.bool true) h)(z:Nn G.K vs H Q E):IE G F vs H Q E:=by
 obtain⟨a,ns,rfl,hs,hl,q⟩:=z;obtain⟨h',e⟩:=hp ns hl;refine⟨[],[],[.scr ns],⟨rfl,.nil,λi a o e=>by grind⟩,.cons ⟨a,rfl,by assumption⟩ .nil,?_⟩;rw[e];intro θ' H' _ _ v r;cases r.1
 grind
section
variable {X:Cx} {E:XK} {st:Stmt}
def zX:MS:=λ_ _=>.bad
theorem m9:DS X E zX st:=by simp[iW]at *;exact by rintro pins s σ H C I ⟨θ,hm,ρ,w,fr,p⟩;exact p.elim
end
end Ml
namespace L2
open PySem PySem.Spec PyProof.Rows
section
variable {X:Cx} {e:Expr} {es:YI} {p:Pos} {te:TE} {t:TA}
def Rm(te:TE)(t:TA)(K:YG):TA:=λσ H Q=>te σ H λx H1=>∃a vs,x=.ref a/\(H1 a=some (.lst vs)\/gA K H1 a vs)/\t σ H1 λus H2=>Q (vs++us) H2
theorem Mc(ha:PE X e te)(hr:PA X es t)(he:starEach (.Starred e p::es) X.env=(true,eval e X.env)::starEach es X.env:=by rfl):PA X (.Starred e p::es) (Rm te t X.K):=by
 intro pos pins s σ H Q I h;refine PySem.W.items_star (bE (ha pins s σ H _ I h) λu s1 ⟨x,H1,I1,r1,a,vs,hx,hseq,q1⟩=>?_) he;subst hx;cases r1;have key:∀(its:YF),Vals vs its->∀h',(∀b o',s1.heap.get? b=some o'->h'.get? b=some o')->wpAny (model X.prog X.w) X.A (spliced (backTo pos (starEach es X.env))) (λws s3=>AP X pins σ Q (its++ws) s3) X.xe {s1 with heap:=h'}:=λits rv h' hk=>by have I2:Inv X pins σ H1 {s1 with heap:=h'}:=I1.kept (t':=s1.toks) hk;exact bE (hr pos pins _ σ H1 _ I2 q1) (by rintro us s2 ⟨xs,H2,I3,r2,q2⟩;exact⟨vs++xs,H2,I3,rv.append r2,q2⟩)
 unfold PySem.W.StarOf notIterableAtAll;rcases hseq with hl|ht
 ·obtain⟨its,n,rv,eo,hz⟩:=I1.lst hl;have hT':s1.TypeIs (.ref a) "list" := ⟨_,eo,rfl⟩;refine UC (Wa hT' PySem.F.slot_list_iter.lookup (UD ⟨rfl,?_⟩));exact wpAny_collect_seq a (.inl rfl) eo rfl rfl (λh' hk=>by grind) (by rw[UY,<- rv.length];exact hz)
 ·obtain⟨its,rv,⟨o,eo,hc,n,hd⟩,hz⟩:=I1.tuple ht;have hT':s1.TypeIs (.ref a) "tuple" := ⟨o,eo,hc⟩;refine UC (Wa hT' PySem.F.slot_tuple_iter.lookup (UD ⟨rfl,?_⟩));exact wpAny_collect_seq a (.inr rfl) eo hc hd (λh' hk=>by simpa using key its rv h' hk) (by rw[UY,<- rv.length];exact hz)
end
end L2
namespace Ml
open PySem PySem.Spec L2
def gx(x:D)(h:Hm):Option YD:=match x with
 |.dat (.tuple ds)=>some ds
 |.ktup ds=>some ds
 |x=>listOf x h
def fq(m:ME)(a:MA):MA:=λρ h=>(m ρ h).bind λx h1=>match gx x h1 with
 |some ds=>(a ρ h1).bind λys h2=>.ok (ds.map D.dat++ys) h2
 |Option.none=>.bad
section
variable {X:Cx} {E:XK} {m:ME} {a:MA} {e:Expr} {es:YI} {p:Pos}
theorem pE:∀{ds:YD} {vs:List V},aZ (view θ H) ds vs->cF ds=true->aO G θ H (ds.map D.dat) vs
 | [],_,r,_=>by subst r;exact .nil
 |d::ds,_,r,s=>by simp[cF]at s;obtain⟨w,ws,rfl,r1,r2⟩:=r;exact .cons ⟨r1,s.1⟩ (pE r2 s.2)
theorem yB:∀{xs ys:List D} {vs us:List V},aO G θ H xs vs->aO G θ H ys us->aO G θ H (xs++ys) (vs++us)
 |_,_,_,_,.nil,r=>r
 |_,_,_,_,.cons a r,q=>.cons a (yB r q)
theorem we:∀{xs:YD},(∀x∈xs,(match x with|.int _|.str _|.bool _|.none=>true|_=>false)=true)->cF xs=true->aO G θ H (xs.map D.dat) (xs.map OU)
 | [],_,_=>.nil
 |d::ds,h,s=>by simp[cF]at s;refine .cons ⟨?_,s.1⟩ (we (λx m=>h x (UI _ m)) s.2);have:=h d (UZ ..);cases d<;>first|rfl|trivial
theorem qN(hm:DE X E m e)(ha:DA X E a es)(he:starEach (.Starred e p::es) X.env=(true,eval e X.env)::starEach es X.env:=by rfl):DA X E (fq m a) (.Starred e p::es):=by
 simp only[bj,iV]at *;rintro pos pins s σ H Q I ⟨θ,h,ρ,w,fr,p⟩;refine Mc hm ha he pos pins s σ H Q I ⟨θ,h,ρ,w,fr,(aA.bind p).mono λd θ1 h1 H1 _ _ ⟨ev,w1,p1⟩ v r=>?_⟩;have fin:∀(b:Addr) (ds:YD) (vs:List V),v=.ref b->(H1 b=some (.lst vs)\/gA X.K H1 b vs)->aO X.G θ1 H1 (ds.map D.dat) vs->gx d h1=some ds->∃a_1 vs,v=.ref a_1/\(H1 a_1=some (.lst vs)\/gA X.K H1 a_1 vs)/\lA X.G E a σ H1 λus H2=>Q (vs++us) H2:=λb ds vs e1 e2 e3 e4=>by rw[e4]at p1;refine⟨b,vs,e1,e2,θ1,h1,ρ,w1,fr.ev ev,(aA.bind p1).mono λys θ2 h2 H2 _ _ ⟨ev2,w2,p2⟩ us ru=>?_⟩;exact p2 θ2 H2 Ev.refl w2 _ (yB (e3.ev ev2) ru)
 cases hs:gx d h1 with
 |none=>rw[hs]at p1;exact p1.elim
 |some ds=>
  have hs':=hs;unfold gx at hs;split at hs
  ·cases hs;obtain⟨⟨b,vs,rfl,hb,rr⟩,so⟩:=r;exact fin b ds vs rfl (.inr (.inl (.inl (ax _ _ _ _ hb)))) (pE rr (by simpa [fj]using so)) hs'
  ·cases hs;obtain⟨b,rfl,⟨o,its,n,k1,k2,k3,k4,k5⟩,k6,k7⟩:=r;exact fin b ds _ rfl (.inr (.inr ⟨o,its,n,k1,k2,k3,k4,k5⟩)) (we k6 k7) hs'
  ·obtain⟨b,vs,rfl,hb,rr,so⟩:=oq w1 r hs;exact fin b ds vs rfl (.inl hb) (pE rr so) hs'
end
end Ml
namespace L2
open PySem PySem.Spec PyProof.Rows
section
variable {prog:YN} {w:World} {A:YQ} {R:Result->YR->Prop} {s:YR} {elt target iter target2 iter2:Expr} {ifs ifs2:YI} {scope:Scope} {pos:Pos} {it acc:Value} {env:Env}
theorem BJ:compTurn (.ListComp elt [⟨target,iter,ifs,0⟩,⟨target2,iter2,ifs2,0⟩] scope pos) 0 it acc env=(do
   standAt iter.pos
   match <- pyNext it with
   |none=>pure (.done .next)
   |some v=>
    letOwnedTupleGo target it v
    assign target env v
    let mut ok:=true
    for c in ifs do
     if ok then ok <- isTrue c env (eval c env)
    if ok then
     let x <- eval iter2 env
     standAt iter2.pos
     let x <- foldedSetIterable iter2 env x
     let _ <- runOwn (.compStart (.ListComp elt [⟨target,iter,ifs,0⟩,⟨target2,iter2,ifs2,0⟩] scope pos) 1 (<- holding [x] (pyIter x)) acc env) env
    again (.compLoop (.ListComp elt [⟨target,iter,ifs,0⟩,⟨target2,iter2,ifs2,0⟩] scope pos) 0 it acc env)):=by rfl
theorem BK:compTurn (.ListComp elt [⟨target,iter,ifs,0⟩,⟨target2,iter2,ifs2,0⟩] scope pos) 1 it acc env=(do
   standAt iter2.pos
   match <- pyNext it with
   |none=>pure (.done .next)
   |some v=>
    letOwnedTupleGo target2 it v
    assign target2 env v
    let mut ok:=true
    for c in ifs2 do
     if ok then ok <- isTrue c env (eval c env)
    if ok then
     (do let _ <- call (.builtin "list.append") [acc,<- eval elt env])
    again (.compLoop (.ListComp elt [⟨target,iter,ifs,0⟩,⟨target2,iter2,ifs2,0⟩] scope pos) 1 it acc env)):=by rfl
theorem xP(I:Nat->YR->Prop)
 (turn:∀n s,I n s->wpAny (model prog w) A (pyNext it) (λr s1=>match r with
   |none=>R (.ok .next) s1
   |some v=>wpAny (model prog w) A (letOwnedTupleGo target2 it v) (λ_ s2=>wpAny (model prog w) A (assign target2 env v) (λ_ s3=>
     wpAny (model prog w) A (forIn ifs2 true λc r=>if r=true then do let ok <- isTrue c env (eval c env);pure (ForInStep.yield ok)else pure (ForInStep.yield r)) (λok s4=>
      if ok=true then wpAny (model prog w) A (eval elt env) (λx s5=>
       wpAny (model prog w) A (call (.builtin "list.append") [acc,x]) (λ_ s6=>∃m,m<n/\I m s6) (λ_ _=>False) s5) (λ_ _=>False) s4
      else ∃m,m<n/\I m s4) (λ_ _=>False) s3) (λ_ _=>False) s2) (λ_ _=>False) s1) (λ_ _=>False) s)
 (n:Nat)(h:I n s) :
  codeAny (model prog w) A (.compLoop (.ListComp elt [⟨target,iter,ifs,0⟩,⟨target2,iter2,ifs2,0⟩] scope pos) 1 it acc env) R s:=by
 refine codeAny_loop rfl I (λn s hI=>?_) n h;show wpAny _ A ((compTurn (.ListComp elt [⟨target,iter,ifs,0⟩,⟨target2,iter2,ifs2,0⟩] scope pos) 1 it acc env).onRaise (λx=>do noteFrame x env;theTreesLotGoes x)) _ _ s;refine wpAny_noted ?_;rw[BK];refine VG (E:=λ_ _=>False) (E':=_) (Q':=_) ?_ (λ_ _ q=>q) λ_ _ z=>z.elim;refine UC (VO (UC (bE (turn n s hI) (λr s1 h1=>?_))))
 cases r with
 |none=>exact UD h1
 |some v=>
  refine UC (bE h1 λ_ s2 h2=>?_);refine UC (bE h2 λ_ s3 h3=>UC (bE h3 λok s4 h4=>?_))
  cases ok with
  |false=>exact UD ⟨rfl,h4⟩
  |true=>exact UC (UC (bE h4 λx s5 h5=>UC (bE h5 λ_ s6 h6=>UD (UD ⟨rfl,h6⟩))))
theorem xQ(hs:∀x,foldedSetIterable iter2 env x=pure x)(I:Nat->YR->Prop)
 (turn:∀n s,I n s->wpAny (model prog w) A (pyNext it) (λr s1=>match r with
   |none=>R (.ok .next) s1
   |some v=>wpAny (model prog w) A (letOwnedTupleGo target it v) (λ_ s2=>wpAny (model prog w) A (assign target env v) (λ_ s3=>
     wpAny (model prog w) A (forIn ifs true λc r=>if r=true then do let ok <- isTrue c env (eval c env);pure (ForInStep.yield ok)else pure (ForInStep.yield r)) (λok s4=>
      if ok=true then wpAny (model prog w) A (eval iter2 env) (λx s5=>
       wpAny (model prog w) A (pyIter x) (λit2 s6=>codeAny (model prog w) (A.mark none) (.compStart (.ListComp elt [⟨target,iter,ifs,0⟩,⟨target2,iter2,ifs2,0⟩] scope pos) 1 it2 acc env) (λr s7=>match r with|.ok _=>∃m,m<n/\I m s7|.error _=>False) s6) (λ_ _=>False) s5) (λ_ _=>False) s4
      else ∃m,m<n/\I m s4) (λ_ _=>False) s3) (λ_ _=>False) s2) (λ_ _=>False) s1) (λ_ _=>False) s)
 (n:Nat)(h:I n s) :
  codeAny (model prog w) A (.compLoop (.ListComp elt [⟨target,iter,ifs,0⟩,⟨target2,iter2,ifs2,0⟩] scope pos) 0 it acc env) R s:=by
 refine codeAny_loop rfl I (λn s hI=>?_) n h;show wpAny _ A ((compTurn (.ListComp elt [⟨target,iter,ifs,0⟩,⟨target2,iter2,ifs2,0⟩] scope pos) 0 it acc env).onRaise (λx=>do noteFrame x env;theTreesLotGoes x)) _ _ s;refine wpAny_noted ?_;rw[BJ];refine VG (E:=λ_ _=>False) (E':=_) (Q':=_) ?_ (λ_ _ q=>q) λ_ _ z=>z.elim;refine UC (VO (UC (bE (turn n s hI) (λr s1 h1=>?_))))
 cases r with
 |none=>exact UD h1
 |some v=>
  refine UC (bE h1 λ_ s2 h2=>?_);refine UC (bE h2 λ_ s3 h3=>UC (bE h3 λok s4 h4=>?_))
  cases ok with
  |false=>exact UD ⟨rfl,h4⟩
  |true=>
   refine UC (bE h4 λx s5 h5=>UC (VO (UC (WE (hs x) (UC (U8 (bE h5 λit2 s6 h6=>?_)))))));refine UC (wpAny_runOwn (Xq h6 λr s7 h7=>?_))
   cases r with
   |error e=>exact h7.elim
   |ok f=>exact UD ⟨rfl,h7⟩
theorem zY
  (h0:codeAny (model prog w) A (.compLoop (.ListComp elt [⟨target,iter,ifs,0⟩,⟨target2,iter2,ifs2,0⟩] scope pos) 1 it acc env) R s)
  (h:wpAny (model prog w) A (pyIter it) (λit' s'=>codeAny (model prog w) A (.compLoop (.ListComp elt [⟨target,iter,ifs,0⟩,⟨target2,iter2,ifs2,0⟩] scope pos) 1 it' acc env) R s')
   (notedBy (model prog w) A env λx s'=>R (.error x) s') s) :
  codeAny (model prog w) A (.compStart (.ListComp elt [⟨target,iter,ifs,0⟩,⟨target2,iter2,ifs2,0⟩] scope pos) 1 it acc env) R s:=by
 refine codeAny_of_tree ?_;refine wpAny_notedAt ?_;refine UC (Xm (wpAny_ite ?_));split
 ·first
   |rfl
   |exact UD (And.intro rfl h0)
 ·first
   |rfl
   | (show wpAny _ _ (standAt iter2.pos >>= _) _ _ s;exact UC (VO (UC (VG h (λit' s' h'=>UD (And.intro rfl h')) λ_ _ x=>x))))
end
noncomputable def DL(n:Nat)(J:It)(g:TG)(tc:TT)(wi2:TI)(g2:TG)(tc2:TT)(te:TE)(σ:St)(H:Hp)(Q:VK):Prop:=
 ∃W:Nat->Nat->List V->Hp->Prop,(∃m,W 0 m [] H)/\∀i m ys H,W i m ys H ->
  (J.stop i H/\ys.length<=sizeLine/\∀p,H p=none->Q (.ref p) (upd H p (.lst ys))) \/
  (J.go i H/\ys.length<=sizeLine/\∃N:List V->Hp->Prop,(∀ys' H',N ys' H'->∃m',m'<m/\W (i+1) m' ys' H')/\∀x H',J.yld i H x H'->g x (List.replicate n none++σ) H' λσ2 H2=>tc σ2 H2 λb H3=>
   if b=true then wi2 σ2 H3 λJ2 H4=>∃W2:Nat->Nat->St->List V->Hp->Prop,(∃m2,W2 0 m2 σ2 ys H4)/\∀i2 m2 σ3 zs H5,W2 i2 m2 σ3 zs H5 ->
    (J2.stop i2 H5/\N zs H5) \/
    (J2.go i2 H5/\zs.length<=sizeLine/\∃N2:St->List V->Hp->Prop,(∀σ' zs' H',N2 σ' zs' H'->∃m',m'<m2/\W2 (i2+1) m' σ' zs' H')/\∀x2 H6,J2.yld i2 H5 x2 H6->g2 x2 σ3 H6 λσ4 H7=>tc2 σ4 H7 λb2 H8=>
     if b2=true then te σ4 H8 λy H9=>N2 σ4 (zs++[y]) H9 else N2 σ4 zs H8)
   else N ys H3)
theorem BL{σ:St}
 {RR:Value->Addr->Result->YR->Prop}(I:Inv X pins σ H2 s2)(CS:cf X.env.scope X.N own scope)(hc:X.calm=true)(T:Turn X.prog X.w X.K tg J fp it tn)(st:tn 0 s2.heap)(hf:∀b∈fp,jP X pins H2 b)
 (hg:∀C s2 H2 fp pins,PG #[3] tg g)(ht:∀C s2 H2 fp pins,Dc #[3] ifs tc)(he:∀C s2 H2 fp pins,PE #[3] elt te)(hi2:∀C s2 H2 fp pins,PI #[3] tg2 iter2 wi2)(hg2:∀C s2 H2 fp pins,PG #[3] tg2 g2)(ht2:∀C s2 H2 fp pins,Dc #[3] ifs2 tc2)(hs2:∀(env:Env) x,foldedSetIterable iter2 env x=pure x)
 (hW:DL own.length J g tc wi2 g2 tc2 te σ H2 Q)
 (hR:∀D C H' s',Inv X pins σ H' s'->jP X pins H' C->(∃m,s'.heap.Ns C m)->Q (.ref D) H'->Kept X fp H2 H' s2 s'->RR (.ref D) C (.ok .next) s') :
  wpAny (model X.prog X.w) X.A (newList []) (λacc s3=>wpAny (model X.prog X.w) X.A (newFunctionEnv scope X.env.globals (fh X.env.cells scope.names []) [] X.env.qual none .none (some X.env)) (λcenv s4=>
   codeAny (model X.prog X.w) X.A (.compStart (.ListComp elt [⟨tg,iter,ifs,0⟩,⟨tg2,iter2,ifs2,0⟩] scope pos) 0 (.ref it) acc {cenv with scope:=relabel scope X.env}) (RR acc cenv.locals) s4) E s3) E s2:=by
 exact zw (okA:=λys o=>∃its k,o={cls:=.type "list",data:=.seq (List.toArray its) k}/\Vals ys its) (t0:=[]) (PRE:=λys=>ys.length<=sizeLine) (FIN:=λys H=>ys.length<=sizeLine/\∀p,H p=none->Q (.ref p) (upd H p (.lst ys)))
  (BODY:=λys N σ2 H3=>wi2 σ2 H3 λJ2 H4=>∃W2:Nat->Nat->St->List V->Hp->Prop,(∃m2,W2 0 m2 σ2 ys H4)/\∀i2 m2 σ3 zs H5,W2 i2 m2 σ3 zs H5 ->
    (J2.stop i2 H5/\N zs H5) \/
    (J2.go i2 H5/\zs.length<=sizeLine/\∃N2:St->List V->Hp->Prop,(∀σ' zs' H',N2 σ' zs' H'->∃m',m'<m2/\W2 (i2+1) m' σ' zs' H')/\∀x2 H6,J2.yld i2 H5 x2 H6->g2 x2 σ3 H6 λσ4 H7=>tc2 σ4 H7 λb2 H8=>
     if b2=true then te σ4 H8 λy H9=>N2 σ4 (zs++[y]) H9 else N2 σ4 zs H8))
  (BD:=λacc env post s=>wpAny (model X.prog X.w) X.A (eval iter2 env) (λx s5=>
       wpAny (model X.prog X.w) X.A (pyIter x) (λit2 s6=>codeAny (model X.prog X.w) (X.A.mark none) (.compStart (.ListComp elt [⟨tg,iter,ifs,0⟩,⟨tg2,iter2,ifs2,0⟩] scope pos) 1 it2 (.ref acc) env) (λr s7=>match r with|.ok _=>post s7|.error _=>False) s6) (λ_ _=>False) s5) (λ_ _=>False) s)
  I CS hc T st hf hg ht (by size_fits) rfl ⟨[],0,rfl,.nil⟩ (by rintro t o ⟨_,_,rfl,_⟩ v z;cases z) (by rintro ys o p H _ hn ⟨its,k,rfl,v⟩ ⟨hz,q⟩;exact⟨.lst ys,λ_ _ a=>⟨hz,its,k,v,a⟩,q p hn⟩)
  (λD env R LI h n s=>xQ (hs2 _) LI h n) (by
   rintro C D o ys N ps σ6 H7 s7 post hz ⟨its,k,rfl,v3⟩ J7 fpD2 pst q7;refine bE (hi2 C s2 H2 fp pins _ s7 σ6 H7 _ J7 q7) λv s8 h8=>bE h8 λitv s9 h9=>?_;obtain⟨it2,fp2,tn2,J2,H9,e9,I9,T2,st9,f9,W2,⟨m2,w2⟩,turn2⟩:=h9;subst e9;have pD9:=I9.pin (D,_) (UG _ (.head _));have neD:∀b∈fp2,D≠b:=λb hb=>(f9 b hb).2.2.2.2.2 (D,_) (UG _ (.head _))
   have stat2:∀{H':Hp} {qs:Yz},(∀p∈qs,p.1=D)->(∀b∈fp2,H' b=none)->∀b∈fp2,jP #[3] (ps++qs) H' b:=λ{H' qs} hps hn b hb=>by
    obtain⟨g0,g1,g2',g3,g4,g5⟩:=f9 b hb;refine⟨hn b hb,g1,g2',g3,g4,λp hp=>?_⟩;rcases UR.mp hp with z|z
    ·exact g5 p (U4 _ z)
    ·rcases UR.mp z with z|z
     ·exact g5 p (UG _ (UI _ z))
     ·rw[hps p z];exact neD b hb
   let LI2:Nat->YR->Prop:=λn' s'=>∃i2 σ3 zs its2 k2 H',Inv #[3] ps σ3 H' s'/\tn2 i2 s'.heap/\(∀b∈fp2,H' b=none)/\H' D=none /\
    s'.heap.get? D=some {cls:=.type "list",data:=.seq (List.toArray its2) k2}/\Vals zs its2/\W2 i2 n' σ3 zs H'
   have i0:LI2 m2 s9:=⟨0,σ6,ys,its,k,H9,I9.gQ (λp hp=>I9.pin p (UG _ (UI _ hp))),st9,λb hb=>(f9 b hb).1,pD9.2.1,pD9.1,v3,w2⟩
   have loop2:codeAny (model X.prog X.w) X.A (.compLoop (.ListComp elt [⟨tg,iter,ifs,0⟩,⟨tg2,iter2,ifs2,0⟩] scope pos) 1 (.ref it2) (.ref D) (o6 scope C X.env)) (λr s7=>match r with|.ok _=>post s7|.error _=>False) s9:=by
    refine xP LI2 ?_ m2 i0;rintro n2 t3 ⟨i2,σ3,zs,its2,k2,K3,J3,st3',fr3',d3',a3',v3',w3'⟩;have J3p:=J3.pinned (fp:=[D]) (λb hb=>(UU.mp hb)▸fpD2 _ d3') λb hb=>⟨_,(UU.mp hb)▸a3',λv z=>(by cases z)⟩;have onlyD2:∀p∈gB [D] t3.heap,p.1=D:=λp hp=>by have:=(n6 hp).1;simpa using this
    rcases turn2 i2 n2 σ3 zs K3 w3' with⟨stop2,qn2⟩|⟨go2,hz2,NN2,hNN2,step2⟩
    ·refine bE (T2.done #[3] rfl rfl rfl hc i2 _ t3 _ K3 _ J3p (stat2 onlyD2 fr3') st3' stop2) λr t4 ⟨hr,J4⟩=>?_;subst hr;have a4':t4.heap.get? D=_:=(J4.pin (D,_) (UG _ (UG _ (cX (by simp) a3')))).1;exact pst _ K3 t4 zs _ J4.kH d3' a4' ⟨its2,k2,rfl,v3'⟩ qn2
    ·refine bE (T2.item #[3] rfl rfl rfl hc i2 _ t3 _ K3 _ J3p (stat2 onlyD2 fr3') st3' go2) λr t4 ⟨u2,hr,h4''⟩=>?_;subst hr;refine bE h4'' λ_ t5 ⟨x2,K5,J5,r5',y5',st5',fr5'⟩=>?_;have J5p:=J5.pinned (fp:=fp2) (stat2 onlyD2 fr5') (T2.obj _ _ st5')
     have contI:∀{t6:YR} {τ6:St} {K6:Hp},Inv #[3] ((ps++gB [D] t3.heap)++gB fp2 t5.heap) τ6 K6 t6 ->
       Inv #[3] ps τ6 K6 t6/\tn2 (i2+1) t6.heap/\(∀b∈fp2,K6 b=none)/\K6 D=none/\t6.heap.get? D=some {cls:=.type "list",data:=.seq (List.toArray its2) k2}:=λ{t6 τ6 K6} J6=>by
      have pD:=J6.pin (D,_) (UG _ (U4 _ (UG _ (cX (by simp) a3'))));refine⟨J6.kH.kH,T2.keep _ _ _ st5' λb hb o e=>(J6.pin (b,o) (UG _ (UG _ (cX hb e)))).1,λb hb=>?_,pD.2.1,pD.1⟩;obtain⟨o,e,_⟩:=T2.obj _ _ st5' b hb;exact(J6.pin (b,o) (UG _ (UG _ (cX hb e)))).2.1
     refine bE (hg2 C s2 H2 fp pins _ t5 _ K5 x2 u2 _ J5p r5' (step2 x2 K5 y5')) λ_ t6 ⟨τ6,K6,J6,q6'⟩=>?_;refine bE (ht2 C s2 H2 fp pins _ t6 τ6 K6 _ J6 q6') λb2 t7 ⟨K7,J7,q7'⟩=>?_
     cases b2 with
     |false=>have q7'':NN2 τ6 zs K7:=q7';obtain⟨m',hm,w7⟩:=hNN2 _ _ _ q7'';obtain⟨c1,c2,c3,c4,c5⟩:=contI J7;exact⟨m',hm,i2+1,τ6,zs,its2,k2,K7,c1,c2,c3,c4,c5,v3',w7⟩
     |true=>refine bE (he C s2 H2 fp pins _ t7 τ6 K7 _ J7 q7') λv t8 ⟨y,K8,J8,r8,q8⟩=>?_;obtain⟨m',hm,w8⟩:=hNN2 _ _ _ q8;obtain⟨c1,c2,c3,c4,c5⟩:=contI J8;refine wpAny_list_append_plain ⟨k2,c5⟩ (λh' hp hs=>?_) (by rw[UY,<- v3'.length];exact hz2);obtain⟨k',e'⟩:=hp;obtain⟨f0,f1,f2,f3,f4,f5⟩:=fpD2 _ c4;refine⟨m',hm,i2+1,τ6,zs++[y],its2++[v],k',K8,c1.turned (t':=t8.toks) (λb o hb e=>(hs.2 b hb).trans e) f0 f1 f3 f4 f5,T2.keep _ _ _ c2 λb hb o e=>(hs.2 b λz=>neD b hb z.symm).trans e,c3,c4,?_,v3'.append (.cons r8 .nil),w8⟩;show h'.get? D=_;rw[e'];simp
   exact zY loop2 (T2.self _ 0 s9 _ _ st9 loop2))
  (λD env R s a b=>codeAny_compStart_list a b) hW hR
section
variable {X:Cx} {own:YH} {scope:Scope} {elt tg iter tg2 iter2:Expr} {ifs ifs2:YI} {pos:Pos} {wi wi2:TI} {g g2:TG} {tc tc2:TT} {te:TE}
def DM(n:Nat)(wi:TI)(g:TG)(tc:TT)(wi2:TI)(g2:TG)(tc2:TT)(te:TE):TE:=λσ H Q=>wi σ H λJ H1=>DL n J g tc wi2 g2 tc2 te σ H1 Q
theorem Jd(own:YH){pos' spos:Pos}(hN:X.N.Nodup)(hxi:X.N[i]?=some x)(hx:X.env.scope.names.lookup x=some .local)(CS:c7 X.env.scope X.N own scope=true)(hc:X.calm=true)(hi:PI X tg iter wi)(hg:∀C s2 H2 fp pins,PG #[3] tg g)
 (ht:∀C s2 H2 fp pins,Dc #[3] ifs tc)(he:∀C s2 H2 fp pins,PE #[3] elt te)(hi2:∀C s2 H2 fp pins,PI #[3] tg2 iter2 wi2)(hg2:∀C s2 H2 fp pins,PG #[3] tg2 g2)(ht2:∀C s2 H2 fp pins,Dc #[3] ifs2 tc2)(hs:∀x,foldedSetIterable iter X.env x=pure x:=by intro _;rfl)(hs2:∀(env:Env) x,foldedSetIterable iter2 env x=pure x:=by intro _ _;rfl)
 (hsw:swapsWith (.ListComp elt [⟨tg,iter,ifs,0⟩,⟨tg2,iter2,ifs2,0⟩] scope pos) (some (.Name x pos')) spos.line X.env=pure true:=by rfl) :
  PS X (.Assign [.Name x pos'] (.ListComp elt [⟨tg,iter,ifs,0⟩,⟨tg2,iter2,ifs2,0⟩] scope pos) spos) (CY (DM own.length wi g tc wi2 g2 tc2 te) (aq i)):=by
 intro pins s σ H D I h;have CS:=cf.of CS;rw[X0 _ _ _ _ hsw];refine UC (VO (UC ?_));show wpAny _ X.A (do let _ <- comprehension (.ListComp elt [⟨tg,iter,ifs,0⟩,⟨tg2,iter2,ifs2,0⟩] scope pos) scope X.env _ (newList []) false (eval iter X.env) (some (assign (.Name x pos') X.env))) _ _ s
 refine UC (bE (Wc (use:=some (assign (.Name x pos') X.env)) (Q:=λ_ s'=>SP X pins D .next s') (g:=⟨tg,iter,ifs,0⟩) rfl hs (fi λn hn=>I.ok.has n (CS.frees n hn)) CS.kind (jl CS)
  (bE (hi pins s σ H _ I h) λv s1 h1=>bE h1 λitv s2 h2=>?_)) λ_ s' hq=>UD (UD hq))
 obtain⟨it,fp,tn,J,H2,e,I2,T,st2,f2,hW⟩:=h2;subst e;refine BL (Q:=λx H1=>aq i x σ H1 D.nx) (RR:=λacc C=>compPost (model X.prog X.w) X.A X.xe (some (assign (.Name x pos') X.env)) (λ_ s'=>SP X pins D .next s') acc C) I2 CS hc T st2 f2 hg ht he hi2 hg2 ht2 hs2 hW λDl C H' s' I' fC ⟨m,hn⟩ q _=>?_;show wpAny _ _ (assign (.Name x pos') X.env (.ref Dl)) _ _ s';refine XH (n5 (v:=.ref Dl) I' hN hxi (.inl hx) rfl (λs'' I'' hsb=>?_) (.inr hx));obtain⟨f0,f1,f2',f3,f4,f5⟩:=fC;obtain⟨a,sb,ha⟩:=hsb
 have hCa:C≠a:=by
  rcases ha with e|e
  ·rw[e];exact f1
  ·exact(f4 x a e).symm
 refine⟨m,hn.sameBut sb hCa,λh' hs'=>⟨_,H',?_,q⟩⟩;exact I''.turned (t':=s''.toks) (λb o hb e=>(hs'.2 b hb).trans e) f0 f1 f3 f4 f5
end
end L2
namespace Ml
open PySem PySem.Spec L2
noncomputable def lU(g2:MG)(t2:MT)(e:ME):List D->Fm->Hm->R (List D)
 | [],_,h=>.ok [] h
 |y::ys,ρ,h=>(g2 y ρ h).tN.bind λρ1 h1=>(t2 ρ1 h1).tN.bind λc h2=>
  if c then(e ρ1 h2).tN.bind λz h3=>(lU g2 t2 e ys ρ1 h3).bind λzs h4=>.ok (z::zs) h4
  else lU g2 t2 e ys ρ1 h2
noncomputable def fA(n:Nat)(ρ:Fm)(g:MG)(t:MT)(it2:MA)(g2:MG)(t2:MT)(e:ME):List D->Nat->Hm->R (List D)
 | [],_,h=>.ok [] h
 |x::xs,k,h=>(g x (List.replicate n none++ρ) h).tN.bind λρ1 h1=>(t ρ1 h1).tN.bind λc h2=>
  if c then(it2 ρ1 h2).tN.bind λys h3=>if mP (k+ys.length)then(lU g2 t2 e ys ρ1 h3).bind λzs h4=>(fA n ρ g t it2 g2 t2 e xs (k+zs.length) h4).bind λws h5=>.ok (zs++ws) h5 else .bad
  else fA n ρ g t it2 g2 t2 e xs k h2
def wg(n:Nat)(it:MA)(g:MG)(t:MT)(it2:MA)(g2:MG)(t2:MT)(e:ME):MA:=λρ h=>(it ρ h).bind λxs h1=>if mP xs.length then fA n ρ g t it2 g2 t2 e xs 0 h1 else .bad
def pF(n:Nat)(it:MA)(g:MG)(t:MT)(it2:MA)(g2:MG)(t2:MT)(e:ME):ME:=af oN (wg n it g t it2 g2 t2 e)
section
variable {X:Cx} {E:XK} {it it2:MA} {g g2:MG} {t t2:MT} {m:ME}
theorem DN(hJ:qH G θ1 H1 xs J)(w1:W G θ1 h1 H1)(fr:Fr G θ1 H1 ρ σ)(p1:aA G F θ1 H1 ((fA n ρ g t it2 g2 t2 m xs 0 h1).bind mk) (KV G Q))
 (hmk:∀ys vs θ h H,ys.length<=sizeLine->W G θ h H->aO G θ H ys vs->aA G F θ H (mk ys h) (KV G Q)->∀p,H p=none->Q (.ref p) (upd H p (.lst vs))) :
  DL n J (lG G eQ g) (lT G eQ t) (lI G eQ it2) (lG G eQ g2) (lT G eQ t2) (lE G eQ m) σ H1 Q:=by
 refine⟨λi m' ys H=>m'=xs.length-i/\i<=xs.length/\∃θ' h' acc,acc.length<=sizeLine/\Ev θ1 H1 θ' H/\W G θ' h' H/\aO G θ' H acc ys/\aA G F θ' H ((fA n ρ g t it2 g2 t2 m (xs.drop i) acc.length h').bind λzs h2=>mk (acc++zs) h2) (KV G Q),
  ⟨xs.length,by simp,Vw _,θ1,h1,[],Vw _,Ev.refl,w1,.nil,p1⟩,?_⟩
 rintro i m' ys H ⟨rfl,hi,θ',h',acc,hacc,ev,w,ra,p⟩;obtain⟨j1,j2⟩:=hJ θ' h' H ev w;have hly:ys.length<=sizeLine:=by rw[<- show acc.length=ys.length from U3 ra];omega
 by_cases hlt:i<xs.length
 ·have ed:xs.drop i=xs[i]::xs.drop (i+1):=Vs hlt;rw[ed]at p;obtain⟨g1,g2'⟩:=j1 i xs[i] (UK hlt);refine .inr ⟨g1,hly,λys2 H2=>i+1<=xs.length/\∃θ' h' acc,acc.length<=sizeLine/\Ev θ1 H1 θ' H2/\W G θ' h' H2/\aO G θ' H2 acc ys2/\aA G F θ' H2 ((fA n ρ g t it2 g2 t2 m (xs.drop (i+1)) acc.length h').bind λzs h2=>mk (acc++zs) h2) (KV G Q),λys' H' q=>⟨xs.length-(i+1),by omega,rfl,q⟩,λx H2 y=>?_⟩;obtain⟨e2,w2,r2⟩:=g2' x H2 y;have p2:=p.later e2;unfold fA at p2;simp only[R.bind_assoc]at p2;refine⟨θ',h',_,xs[i],w2,((fr.ev ev).ev e2).replicate n,r2,(aA.cn p2).mono λρ3 θ3 h3 H3 _ _ ⟨e3,w3,p3⟩ σ3 fr3=>⟨θ3,h3,ρ3,w3,fr3,(aA.cn p3).mono λc θ4 h4 H4 _ _ ⟨e4,w4,p4⟩=>?_⟩⟩;have ev4:=(ev.trans e2).trans (e3.trans e4);have ra4:=aO.ev (e2.trans (e3.trans e4)) ra
  cases c with
  |false=>exact⟨hlt,θ4,h4,acc,hacc,ev4,w4,ra4,p4⟩
  |true=>
   simp only[VC,R.bind_assoc]at p4;refine⟨θ4,h4,ρ3,w4,fr3.ev e4,(aA.cn p4).mono λzs θ5 h5 H5 _ _ ⟨e5,w5,p5⟩ J2 hJ2=>?_⟩;have fr5:=(fr3.ev e4).ev e5;have ra5:=aO.ev e5 ra4;split at p5
   ·rename_i hz;have hz':=eB hz;simp only[R.bind_assoc,R.aP]at p5
    refine⟨λi2 m2 τ us K=>m2=zs.length-i2/\i2<=zs.length/\∃θ6 h6 acc6 ρ6,acc6.length<=acc.length+i2/\Ev θ5 H5 θ6 K/\W G θ6 h6 K/\aO G θ6 K acc6 us/\Fr G θ6 K ρ6 τ/\aA G F θ6 K ((lU g2 t2 m (zs.drop i2) ρ6 h6).bind λvs h7=>(fA n ρ g t it2 g2 t2 m (xs.drop (i+1)) (acc6.length+vs.length) h7).bind λws h8=>mk (acc6++(vs++ws)) h8) (KV G Q),
     ⟨zs.length,by simp,Vw _,θ5,h5,acc,ρ3,by omega,Ev.refl,w5,ra5,fr5,p5⟩,?_⟩
    rintro i2 m2 τ us K ⟨rfl,hi2,θ6,h6,acc6,ρ6,hacc6,ev6,w6,ra6,fr6,p6⟩;obtain⟨k1,k2⟩:=hJ2 θ6 h6 K ev6 w6;have hlu:us.length<=sizeLine:=by rw[<- show acc6.length=us.length from U3 ra6];omega
    by_cases hlt2:i2<zs.length
    ·have ed2:zs.drop i2=zs[i2]::zs.drop (i2+1):=Vs hlt2;rw[ed2]at p6;obtain⟨l1,l2⟩:=k1 i2 zs[i2] (UK hlt2);refine .inr ⟨l1,hlu,λτ' us' K'=>i2+1<=zs.length/\∃θ6 h6 acc6 ρ6,acc6.length<=acc.length+(i2+1)/\Ev θ5 H5 θ6 K'/\W G θ6 h6 K'/\aO G θ6 K' acc6 us'/\Fr G θ6 K' ρ6 τ'/\aA G F θ6 K' ((lU g2 t2 m (zs.drop (i2+1)) ρ6 h6).bind λvs h7=>(fA n ρ g t it2 g2 t2 m (xs.drop (i+1)) (acc6.length+vs.length) h7).bind λws h8=>mk (acc6++(vs++ws)) h8) (KV G Q),λτ' us' K' q=>⟨zs.length-(i2+1),by omega,rfl,q⟩,λx2 K2 y2=>?_⟩;obtain⟨e7,w7,r7⟩:=l2 x2 K2 y2;have p7:=p6.later e7;unfold lU at p7;simp only[R.bind_assoc]at p7;refine⟨θ6,h6,_,zs[i2],w7,fr6.ev e7,r7,(aA.cn p7).mono λρ8 θ8 h8 K8 _ _ ⟨e8,w8,p8⟩ τ8 fr8=>⟨θ8,h8,ρ8,w8,fr8,(aA.cn p8).mono λc2 θ9 h9 K9 _ _ ⟨e9,w9,p9⟩=>?_⟩⟩;have ev9:=(ev6.trans e7).trans (e8.trans e9);have ra9:=aO.ev (e7.trans (e8.trans e9)) ra6
     cases c2 with
     |false=>exact⟨hlt2,θ9,h9,acc6,ρ8,by omega,ev9,w9,ra9,fr8.ev e9,p9⟩
     |true=>
      simp only[VC,R.bind_assoc]at p9;refine⟨θ9,h9,ρ8,w9,fr8.ev e9,(aA.cn p9).mono λy3 θ10 h10 K10 _ _ ⟨e10,w10,p10⟩ v10 r10=>⟨hlt2,θ10,h10,acc6++[y3],ρ8,by simp;omega,ev9.trans e10,w10,?_,(fr8.ev e9).ev e10,?_⟩⟩
      ·exact cY (aO.ev e10 ra9) (.cons r10 .nil)
      ·simp only[R.bind_assoc,R.aP]at p10;have e11:∀vs:List D,(acc6++[y3]).length+vs.length=acc6.length+(y3::vs).length:=λvs=>by simp;omega
       simp only[e11];simpa using p10
    ·have hx:i2=zs.length:=by omega
     subst hx;rw[VJ (UJ _)]at p6;simp only[lU,R.aP,Xz,V9,Nat.add_zero]at p6;exact .inl ⟨k2,hlt,θ6,h6,acc6,by omega,ev4.trans (e5.trans ev6),w6,ra6,p6⟩
   ·exact p5.elim
 ·have hx:i=xs.length:=by omega
  subst hx;rw[VJ (UJ _)]at p;simp only[fA,R.aP,V1]at p;exact .inl ⟨j2,hly,hmk acc ys θ' h' H hacc w ra p⟩
end
section
variable {X:Cx} {E:XK} {it it2:MA} {g g2:MG} {t t2:MT} {m:ME} {own:YH} {scope:Scope} {elt tg e tg2 e2:Expr} {ifs ifs2:YI} {pos:Pos} {i:Nat} {x:Str}
theorem Je{mk:List D->Hm->R D}(h:lE G E (af mk (wg n it g t it2 g2 t2 m)) σ H Q)
 (hmk:∀ys vs θ h H,ys.length<=sizeLine->W G θ h H->aO G θ H ys vs->aA G (qi G E) θ H (mk ys h) (KV G Q)->∀p,H p=none->Q (.ref p) (upd H p (.lst vs))) :
  DM n (lI G E it) (lG G eQ g) (lT G eQ t) (lI G eQ it2) (lG G eQ g2) (lT G eQ t2) (lE G eQ m) σ H Q:=by
 obtain⟨θ,h,ρ,w,fr,p⟩:=h;simp[af,wg,R.bind_assoc]at p;refine⟨θ,h,ρ,w,fr,(aA.bind p).mono λxs θ1 h1 H1 _ _ ⟨ev,w1,p1⟩ J hJ=>?_⟩;split at p1
 ·exact DN hJ w1 (fr.ev ev) p1 hmk
 ·trivial
theorem Jf{mk:List D->Hm->R D}(h:lS G E (bP i (af mk (wg n it g t it2 g2 t2 m))) C σ H)
 (hmk:∀Q ys vs θ h H,ys.length<=sizeLine->W G θ h H->aO G θ H ys vs->aA G (qi G E) θ H (mk ys h) (KV G Q)->∀p,H p=none->Q (.ref p) (upd H p (.lst vs))) :
  CY (DM n (lI G E it) (lG G eQ g) (lT G eQ t) (lI G eQ it2) (lG G eQ g2) (lT G eQ t2) (lE G eQ m)) (L2.aq i) C σ H:=by
 obtain⟨θ,h,ρ,w,fr,p⟩:=h;refine Je ⟨θ,h,ρ,w,fr,(aA.bind p).mono (by rintro d θ1 h1 H1 _ _ ⟨ev,w1,p1⟩ v r;exact p1 θ1 H1 Ev.refl w1 _ ((fr.ev ev).set r))⟩ (hmk _)
theorem BM(own:YH){pos' spos:Pos}(hN:X.N.Nodup)(hxi:X.N[i]?=some x)(hx:X.env.scope.names.lookup x=some .local)(CS:c7 X.env.scope X.N own scope=true)(hc:X.calm=true)(hi:DI X E it tg e)(hg:∀C s2 H2 fp pins,DG #[3] eQ g tg)
 (ht:∀C s2 H2 fp pins,IC #[3] eQ t ifs)(hi2:∀C s2 H2 fp pins,DI #[3] eQ it2 tg2 e2)(hg2:∀C s2 H2 fp pins,DG #[3] eQ g2 tg2)
 (ht2:∀C s2 H2 fp pins,IC #[3] eQ t2 ifs2)(he:∀C s2 H2 fp pins,DE #[3] eQ m elt)(hs:∀x,foldedSetIterable e X.env x=pure x:=by intro _;rfl)(hs2:∀(env:Env) x,foldedSetIterable e2 env x=pure x:=by intro _ _;rfl)
 (hsw:swapsWith (.ListComp elt [⟨tg,e,ifs,0⟩,⟨tg2,e2,ifs2,0⟩] scope pos) (some (.Name x pos')) spos.line X.env=pure true:=by rfl):DS X E (bP i (pF own.length it g t it2 g2 t2 m)) (.Assign [.Name x pos'] (.ListComp elt [⟨tg,e,ifs,0⟩,⟨tg2,e2,ifs2,0⟩] scope pos) spos):=by
 simp[bj,iW,mG,kO,m8]at *;exact PS.imp (Jd own hN hxi hx CS hc hi hg ht he hi2 hg2 ht2 hs hs2 hsw) λC σ H q=>Jf q λQ ys vs θ h H _=>jw ys vs θ h H
end
def Jg:PyData->Value->Bool
 |.none,.none=>true
 |.bool b,.bool c=>b==c
 |.int i,.int j _=>i==j
 |.str x,.str y _=>x==y
 |_,_=>false
def zZ:YD->YF->Bool
 | [],[]=>true
 |d::ds,v::vs=>Jg d v&&zZ ds vs
 |_,_=>false
def RY(K:YG)(a:Addr)(xs:YD):Bool:=match K.lookup a with
 |some o=>(match o.cls,o.data with
  |.type "tuple",.seq its _=>zZ xs its.toList&&decide (its.size<=sizeLine)
  |_,_=>false)&&cF xs
 |Option.none=>false
theorem Jh(h:Jg d v=true):RelV (OU d) v/\oO d=true:=by
 unfold Jg at h;split at h
 ·trivial
 ·have:=eq_of_beq h;subst this;exact⟨rfl,rfl⟩
 ·have:=eq_of_beq h;subst this;exact⟨⟨_,rfl⟩,rfl⟩
 ·have:=eq_of_beq h;subst this;exact⟨⟨_,rfl⟩,rfl⟩
 grind
theorem yC:∀{ds:YD} {vs:YF},zZ ds vs=true->Vals (ds.map OU) vs/\∀x∈ds,oO x=true
 | [],[],_=>⟨.nil,by simp⟩
 | [],_::_,h=>by trivial
 |_::_,[],h=>by trivial
 |d::ds,v::vs,h=>by
  simp[zZ]at h;obtain⟨h1,h2⟩:=Jh h.1;obtain⟨k1,k2⟩:=yC h.2;refine⟨.cons h1 k1,λx m=>?_⟩
  grind
theorem Ji(h:RY K a xs=true):GJ K a xs:=by
 unfold RY at h;split at h
 ·rename_i o ho;simp at h;obtain⟨h,hs⟩:=h;split at h
  ·rename_i its n hc hd;simp at h;obtain⟨k1,k2⟩:=yC h.1;exact⟨⟨o,its,n,ho,hc,hd,h.2,k1⟩,λx m=>by have:=k2 x m;cases x<;>simp_all[oO],hs⟩
  grind
 grind
end Ml
namespace Ml
open PySem
def jx:YD->YD
 | []=>[]
 |x::xs=>if xs.any (PyData.eqv x)then jx xs else x::jx xs
def setOk(ds:YD):Bool:=(ds.all gE || ds.all mY)&&bA ds&&decide (PyData.depthAll ds<=8)&&decide (ds.length<=120)
def pG(ds es:YD):YD:=(jx ds).filter (λd=>!es.any (PyData.eqv d))++(jx es).filter (λd=>!ds.any (PyData.eqv d))
noncomputable def u7(f:YD->YD->YD)(a b:ME):ME:=λρ h=>(a ρ h).bind λx h1=>match gx x h1 with
 |some ds=>if setOk ds then(b ρ h1).bind λy h2=>match gx y h2 with
   |some es=>if setOk (ds++es)&&eO (f ds es)then .ok (.dat (.list (c6 ltB (f ds es)))) h2 else .bad
   |Option.none=>.bad
  else .bad
 |Option.none=>.bad
theorem yD:∀{ds:YD},bA ds=true<->∀d∈ds,aC d=true
 | []=>by trivial
 |d::ds=>by simp[bA,yD]
theorem i8{ds:YD}(hd:∀d∈ds,aC d=true)(hx:aC x=true):ds.any (PyData.eqv x)=true<->x∈ds:=by
 rw[VF];constructor
 ·rintro⟨y,hy,e⟩;rw[(ig (aX hx) (aX (hd y hy))).mp e];exact hy
 ·exact λh=>⟨x,h,bc (aX hx)⟩
theorem kP:∀{ds:YD},(∀d∈ds,aC d=true)->∀d,d∈jx ds<->d∈ds
 | [],_,d=>by rfl
 |x::xs,h,d=>by
  have hx:=h x (UZ ..);have hxs  := λd m=>h d (UI _ m);have ih:=kP hxs d;unfold jx;split
  ·rename_i z;rw[i8 hxs hx]at z
   grind
  grind
theorem j3:∀{ds:YD},(∀d∈ds,aC d=true)->(jx ds).Nodup
 | [],_=>by trivial
 |x::xs,h=>by
  have hx:=h x (UZ ..);have hxs  := λd m=>h d (UI _ m);unfold jx;split
  ·exact j3 hxs
  ·rename_i z;refine VE.mpr ⟨λq=>z ?_,j3 hxs⟩;rw[i8 hxs hx];exact(kP hxs x).mp q
end Ml
namespace L2
open PySem PySem.Spec PyProof.Rows
section
variable {X:Cx} {pos:Pos}
def Rn(i j l:Nat)(ta:TA):TS:=λD σ H=>ta σ H λvs H1=>∃v w z,vs=[v,w,z]/\D.nx (((σ.set i (some v)).set j (some w)).set l (some z)) H1
theorem Md(hc:X.calm=true)(hN:X.N.Nodup)(hi:X.N[i]?=some x)(hj:X.N[j]?=some y)(hl:X.N[l]?=some z)(hij:i≠j)(hil:i≠l)(hjl:j≠l)
 (hx:X.env.scope.names.lookup x=some .local)(hy:X.env.scope.names.lookup y=some .local)(hz:X.env.scope.names.lookup z=some .local)(ha:PA X [a,b,c] ta)
 (hw:swappedStores [.Tuple [.Name x px,.Name y py,.Name z pz] kt pt] (.Tuple [a,b,c] k2 pt2) X.env=pure (some [x,y,z]))
 (hs:swapsWithSole [.Tuple [.Name x px,.Name y py,.Name z pz] kt pt] (.Tuple [a,b,c] k2 pt2) pos.line X.env=pure false:=by rfl) :
  PS X (.Assign [.Tuple [.Name x px,.Name y py,.Name z pz] kt pt] (.Tuple [a,b,c] k2 pt2) pos) (Rn i j l ta):=by
 intro pins s σ H D I h;rw[exec_Assign_arm];refine UC (VO ?_);rw[hs];refine UC (UD ?_);rw[if_neg (by decide)];refine UC (Tuple_ (bE (ha _ pins s σ H _ I h) λus s1 ⟨vs,H1,I1,r1,q1⟩=>?_));obtain⟨v,w,t,e1,q1⟩:=q1;subst e1
 obtain⟨u1,u2,u3,rfl,rv,rw',rt⟩:∃u1 u2 u3,us=[u1,u2,u3]/\RelV v u1/\RelV w u2/\RelV t u3:=by
  cases r1 with
  |cons p q=>
   cases q with
   |cons p' q'=>
    cases q' with
    |cons p2 q2=>cases q2;exact⟨_,_,_,rfl,p,p',p2⟩
 refine Vh ?_ (by show 3<=sizeLine;decide);have I2:Inv X pins σ H1 {s1 with heap:=s1.heap.push {cls:=.type "tuple",data:=.seq [u1,u2,u3].toArray}}:=I1.kept (t':=s1.toks) λb o e=>UE _ e;rw[hw];refine UC (UD ?_);show wpAny (model X.prog X.w) X.A (do rule "assign.swapped-stores";let items <- unpackItems (.ref s1.heap.objs.size) 3 none;assignInOrder [λv=>bindName X.env z v,λv=>bindName X.env y v,λv=>bindName X.env x v] items.reverse;pure Flow.next) _ _ _;refine UC (V5 (UC (unpackItems_tuple (items:=#[u1,u2,u3]) (I.ok.hd hc) (IsTup.new s1.heap _) λh' hx'=>?_)));have I3:=I2.kept (h':=h') (t':=s1.toks) λb o e=>hx' b o (UT (UM e)) e;show wpAny _ _ (assignInOrder [λv=>bindName X.env z v,λv=>bindName X.env y v,λv=>bindName X.env x v] [u3,u2,u1] >>= λ_=>pure Flow.next) _ _ _;refine UC (Wx (XU (hZ I3 hN hl (.inl hz) rt (λs2 I4=>?_) (.inr hz))));refine Wx (XU (hZ I4 hN hj (.inl hy) rw' (λs3 I5=>?_) (.inr hy)));refine Wx (XU (hZ I5 hN hi (.inl hx) rv (λs4 I6=>assignInOrder_nil (UD ?_)) (.inr hx)));have e:((σ.set l (some t)).set j (some w)).set i (some v)=((σ.set i (some v)).set j (some w)).set l (some t):=by rw[Yv _ _ hjl.symm,Yv _ _ (Xv hil),Yv _ _ (Xv hij)]
 rw[e]at I6;exact⟨_,H1,I6,q1⟩
end
end L2
namespace Ml
open PySem PySem.Spec L2
section
variable {X:Cx} {E:XK} {ma:MA} {pos:Pos} {x:Str}
theorem Ro{y z:Str}{px py pz pt:Pos}{kt k2 pt2}(i j l:Nat)(hN:X.N.Nodup)(ha:DA X E ma [a,b,c])(hc:X.calm=true:=by rfl)(hi:X.N[i]?=some x:=by rfl)(hj:X.N[j]?=some y:=by rfl)(hl:X.N[l]?=some z:=by rfl)(hij:i≠j:=by decide)(hil:i≠l:=by decide)(hjl:j≠l:=by decide)
 (hx:X.env.scope.names.lookup x=some .local:=by rfl)(hy:X.env.scope.names.lookup y=some .local:=by rfl)(hz:X.env.scope.names.lookup z=some .local:=by rfl)
 (hw:swappedStores [.Tuple [.Name x px,.Name y py,.Name z pz] kt pt] (.Tuple [a,b,c] k2 pt2) X.env=pure (some [x,y,z]):=by kernel_rfl)
 (hs:swapsWithSole [.Tuple [.Name x px,.Name y py,.Name z pz] kt pt] (.Tuple [a,b,c] k2 pt2) pos.line X.env=pure false:=by rfl) :
  DS X E (zF [i,j,l] ma) (.Assign [.Tuple [.Name x px,.Name y py,.Name z pz] kt pt] (.Tuple [a,b,c] k2 pt2) pos):=by
 rw[iV]at ha;rw[iW]
 exact PS.imp (Md hc hN hi hj hl hij hil hjl hx hy hz ha hw hs) (by rintro C σ H ⟨θ,h,ρ,w,fr,p⟩;exact⟨θ,h,ρ,w,fr,(aA.bind p).mono (by
   rintro ds θ1 h1 H1 _ _ ⟨ev,w1,p1⟩ vs r
   cases r with
   |nil=>trivial
   |cons r1 rr=>
    cases rr with
    |nil=>trivial
    |cons r2 rr=>
     cases rr with
     |nil=>exact p1.elim
     |cons r3 rr=>
      cases rr with
      |nil=>exact⟨_,_,_,rfl,p1 θ1 H1 Ev.refl w1 _ ((((fr.ev ev).set r1).set r2).set r3)⟩
      |cons=>exact p1.elim)⟩)
end
theorem jM{N ps:YH}{sc:Scope}(a:sc.kind=.function:=by rfl)(b:sc.isCoroutine=false:=by rfl)(c:sc.isGenerator=false:=by rfl)(d:N.Nodup:=by decide +kernel)(e:N.take ps.length=ps:=by rfl)
 (f:∀x∈ps,sc.names.lookup x=some .local\/sc.names.lookup x=some .cell:=by decide +kernel)(g:∀y∈sc.names,y.2≠.free:=by decide +kernel):aE N ps sc:=⟨a,b,c,d,e,f,g⟩
section
variable {X:Cx} {E:XK} {x:Str} {ps:YH} {k j:Nat} {F:Fn} {e e1 e2:Expr} {es:YI} {ma:MA} {m1 m2:ME} {p pos:Pos}
theorem fH(F':bU X.prog X.w X.K X.mg X.base x ps k F)(hx:Passes (uV X.prog X.w) X E)(hr:cE j X.A)(ha:DA X E ma (e::es))(hk:k<=j:=by omega)(hg:Gl X x:=by rfl)(hdb:(x==("__debug__" : Str))=false:=by decide)(he:starEach (e::es) X.env=(false,eval e X.env)::starEach es X.env:=by rfl)
 (hpl:(backTo pos (starEach es X.env)).any (·.1)=false:=by rfl):DE X E (af F ma) (.Call (.Name x p) (e::es) [] pos):=Q9 F' hx (hr.mono hk) hg ha hdb he hpl
end
def gK{α:Type}(n:Nat)(us ws:List α):List α:=if us.length=n then us++ws else[]
structure wj(P:YN)(w:World)(K:YG)(mg:YC)(base:Heap)(x:Str)(ps:YH)(n k:Nat)(F:Fn):Prop where
 ex:∃(f:Addr) (fd:FuncData),mg x=some (.ref f)/\PySem.W.keepIn K (.ref f)=true/\zo K fd ps (ps.drop n) (gK n) (gK n)/\jQ P w K mg base (uV P w) k f fd ps (IE ⟨P,w,mg,K⟩ F)
def Ql(K:YG)(mg:YC)(x:Str)(ps:YH)(n:Nat)(st:Stmt):Prop:=∃f fd,mg x=some (.ref f)/\Ln K x x st f fd/\zo K fd ps (ps.drop n) (gK n) (gK n)
theorem Pr(r:Vals vs us)(q:Vals zs ws):Vals (gK n vs zs) (gK n us ws):=by
 unfold gK;rw[r.length];split
 ·exact r.append q
 ·exact .nil
theorem Pt{oc kV dc pm cd ct:Value}(X:K.In h)(G:h.Ns mainGlobals mg)
 (a:PySem.W.nsIn K mainGlobals x=some (some (.ref f)))(l:K.lookup f=some ⟨oc,od,.func (PySem.W.fnOf x x (gR st) (dZ st) (au st) .none kV dc pm an cd ct),sl⟩)(c:PySem.W.codeIn K cd x=true)(k:PySem.W.keepIn K (.ref f)=true)
 (hn:0<ps.length)(hb:∀(us ws:YF),us.length=n->n+ws.length=ps.length->bindArgs (PySem.W.fnOf x x (gR st) (dZ st) (au st) .none kV dc pm an cd ct) ⟨us,(ps.drop n).zip ws⟩=pure (ps.zip (us++ws))):Ql K mg x ps n st:=
 ⟨f,_,VU X G a,zu l c k,⟨λs us ws _ hl=>by
  unfold gK at hl ⊢;split at hl
  ·rename_i e;rw[if_pos e];rw[U5,e]at hl;exact .of_eq (hb us ws e hl)
  grind,Pr⟩⟩
section
variable {P:YN} {w:World} {K:YG} {mg:YC} {base:Heap} {x:Str} {st:Stmt} {ps N:YH} {k n:Nat} {b:MS} {F:Fn}
theorem Ql.has(d:Ql K mg x ps n st)(S:aE N ps (au st))(hbody:∀(f:Addr) (cdv:Value) (A:YQ) (outer:List Env) (s:YR) (H:Hp) (E:XK),cE k (A.deeper (PyProof.Rows.envOfC x (au st) #[2] f cdv)) ->
   GK (vo (uV P w) P w K mg base N x (au st) f cdv A outer s H E) E b (dZ st)):wj P w K mg base x ps n (k+1) (aY ps.length N.length b):=by
 obtain⟨f,fd,h1,Fu,bd⟩:=d;exact⟨⟨f,fd,h1,Fu.kp,bd,Td Fu S (hbody f)⟩⟩
theorem wj.eq(h:wj P w K mg base x ps n k F)(e:F=F'):wj P w K mg base x ps n k F':=e▸h
end
def gG(n:Nat)(F:Fn)(ma mk:MA):ME:=λρ h=>(ma ρ h).bind λxs h1=>(mk ρ h1).bind λys h2=>if xs.length=n then F (xs++ys) h2 else .bad
section
variable {X:Cx} {E:XK} {m:ME} {ma mk:MA} {e:Expr} {es:YI} {kws:List Keyword} {x:Str} {ps:YH} {n k j:Nat} {F:Fn} {p pos kpos:Pos} {nm:Option Str}
@[irreducible] noncomputable def Qm(X:Cx)(E:XK)(m:MA)(kws:List Keyword):Prop:=PK X kws (lA X.G E m)
theorem DP(X:Cx)(E:XK)(m:MA)(kws:List Keyword):Qm X E m kws=(PK X kws (lA X.G E m)):=by
 grind[Qm]
theorem PK.imp(h:PK X kws t)(k:∀σ H Q,t' σ H Q->t σ H Q):PK X kws t':=λpos pins s σ H Q I q=>h pos pins s σ H Q I (k _ _ _ q)
theorem Aa:Qm X E ah []:=by simp[DP]at *;exact PK.imp Oj (by rintro σ H Q ⟨θ,h,ρ,w,fr,p⟩;exact p θ H Ev.refl w _ .nil)
theorem j4(ha:DE X E m e)(hr:Qm X E ma kws):Qm X E (aa m ma) (⟨nm,e,kpos⟩::kws):=by simp[bj,DP]at *;exact PK.imp (Lc ha hr) (by rintro σ H Q ⟨θ,h,ρ,w,fr,p⟩;exact⟨θ,h,ρ,w,fr,(aA.bind p).mono (by rintro x θ1 h1 H1 _ _ ⟨ev,w1,p1⟩ v r1;exact⟨θ1,h1,ρ,w1,fr.ev ev,(aA.bind p1).mono (by rintro xs θ2 h2 H2 _ _ ⟨ev2,w2,p2⟩ vs r2;exact p2 θ2 H2 Ev.refl w2 _ (.cons (r1.ev ev2) r2))⟩)⟩)
theorem qO(F':wj X.prog X.w X.K X.mg X.base x ps n k F)(hx:Passes (uV X.prog X.w) X E)(hr:cE j X.A)(ha:DA X E ma (e::es))(hw:Qm X E mk kws)(hk:k<=j:=by omega)(hg:Gl X x:=by rfl)
 (hall:(backToKw pos (keywordEach kws X.env)).all (·.1.isSome)=true:=by rfl)(hks:(backToKw pos (keywordEach kws X.env)).filterMap (·.1)=ps.drop n:=by rfl)
 (hdb:(x==("__debug__" : Str))=false:=by decide)(he:starEach (e::es) X.env=(false,eval e X.env)::starEach es X.env:=by rfl)
 (hpl:((backTo pos (starEach (e::es) X.env)).any (·.1) || (backToKw pos (keywordEach kws X.env)).any (·.1.isNone))=false:=by rfl) :
  DE X E (gG n F ma mk) (.Call (.Name x p) (e::es) kws pos):=by
 simp only[bj,iV,DP]at *;obtain⟨f,fd,h1,h2,h3,h4⟩:=F'.ex;refine PE.imp (HN h4 (hr.mono hk) hg h1 h2 h3 hx ha hw hall hks hdb he hpl) λσ H Q ⟨θ,h,ρ,w,fr,p⟩=>⟨θ,h,ρ,w,fr,(aA.bind p).mono λxs θ1 h1 H1 _ _ ⟨ev,w1,p1⟩ vs r=>⟨θ1,h1,ρ,w1,fr.ev ev,(aA.bind p1).mono λys θ2 h2 H2 _ _ ⟨ev2,w2,p2⟩ zs r2=>?_⟩⟩;split at p2
 ·rename_i hn;have hv:vs.length=n:=by rw[<- hn];exact(U3 r).symm
  refine⟨θ2,h2,xs++ys,w2,?_,p2⟩;unfold gK;rw[if_pos hv];exact cY (r.ev ev2) r2
 ·exact p2.elim
end
def Jj(i:Nat)(m:ME):MS:=λρ h=>match ρ[i]? with
 |some (some (.dat (.int a)))=>(m ρ h).bind λy h1=>match y with
  |.dat (.int b)=>.ok (.nx (ρ.set i (some (.int (a-b))))) h1
  |_=>.bad
 |_=>.bad
section
variable {X:Cx} {E:XK} {m:ME} {e:Expr} {x:Str} {i:Nat} {pos pos':Pos}
theorem Me(hN:X.N.Nodup)(hi:X.N[i]?=some x)(hx:Loc X.env.scope x)(he:DE X E m e)(hf:X.fn x=true\/X.env.scope.names.lookup x=some .local:=by first|exact .inl rfl|exact .inr rfl|assumption) :
  DS X E (Jj i m) (.AugAssign (.Name x pos') .Sub e pos):=by
 simp only[bj,iW]at *
 exact PS.imp (N0 hN hi hx he N3 hf) (by
  rintro C σ H ⟨θ,h,ρ,w,fr,p⟩;unfold Jj at p
  cases e1:ρ[i]? with
  |none=>rw[e1]at p;exact p.elim
  |some o=>
   cases o with
   |none=>rw[e1]at p;exact p.elim
   |some d=>
    rw[e1]at p;obtain⟨v,h1,h2⟩:=fr.2 i d e1
    cases d with
    |dat q=>
     cases q with
     |int a=>
      have hv:v=.int a:=bQ h2;refine⟨v,h1,θ,h,ρ,w,fr,(aA.bind p).mono λy θ1 h1' H1 _ _ ⟨ev,w1,p1⟩ u r=>?_⟩
      cases y with
      |dat q2=>
       cases q2 with
       |int b=>have hu:u=.int b:=bQ r;refine⟨a,b,hv,hu,p1 θ1 H1 Ev.refl w1 _ ((fr.ev ev).set (cw _))⟩
       |_=>trivial
      |_=>trivial
     |_=>exact p.elim
    |_=>exact p.elim)
theorem Rp(i:Nat)(hN:X.N.Nodup)(he:DE X E m e)(hi:X.N[i]?=some x:=by rfl)(hx:Loc X.env.scope x:=by first|exact Or.inl rfl|exact Or.inr rfl)(hf:X.fn x=true\/X.env.scope.names.lookup x=some .local:=by first|exact Or.inl rfl|exact Or.inr rfl) :
  DS X E (Jj i m) (.AugAssign (.Name x pos') .Sub e pos):=Me hN hi hx he hf
end
end Ml
namespace Ml
open PySem L2
structure CX where
 P:YN
 w:World
 K:YG
 mg:Str->Option Value
 base:Heap
abbrev cU(c:CX)(x:Str)(ps:YH)(k:Nat)(F:Fn):=bU c.P c.w c.K c.mg c.base x ps k F
abbrev Rq(c:CX)(x:Str)(ps:YH)(n k:Nat)(F:Fn):=wj c.P c.w c.K c.mg c.base x ps n k F
abbrev j5(c:CX):=Df c.K c.mg
abbrev Tg(c:CX):=Ql c.K c.mg
abbrev ap(a b:YH):YH:=a++b
abbrev u9(a b:YH):Prop:=(a++b).Nodup
end Ml
namespace Ml
open PySem
noncomputable def yE:MS:=aS (jq (xE (eI (aR (Ih (vK isStr) (ab 0)))) (eI (aI (lR oLe oLe (aj (.int 1)) (af iI (aa (ab 0) ah)) (aj (.int 6)))))) (bw (aj (.bool false))) bM)
    (bw (af sD (aa (bR 1 (aH (ab 0)) (aq 0) cM (lR oLe oLe (aj (.str "a")) (ab 0) (aj (.str "z")))) ah)))
def kQ:Fn:=aY 1 1 yE
def tU:MS:=bw (af sD (aa (bR 2 (E5 (aa (ab 0) (aa (Qj (ab 0) (yn (aj (.int 1))) ym) ah))) (jO (bS (aq 0) (bS (aq 1) jN))) cM (ao oLt (ab 0) (ab 1))) ah))
def fN:Fn:=aY 1 1 tU
noncomputable def tV:MS:=aS (jq (xE (eI (aR (Ih (vK isTup) (ab 0)))) (aI (ao Bj (af iI (aa (ab 0) ah)) (aj (.int 12))))) (bw (aj (.bool false))) bM)
    (bw (mI (af sD (aa (bR 1 (aH (ab 0)) (aq 0) cM (af kQ (aa (ab 0) ah))) ah)) (af fN (aa (ab 0) ah))))
def j6:Fn:=aY 1 1 tV
def tW:MS:=aS (jq (xE (eI (aR (Ih (vK isTup) (ab 0)))) (aI (ao uW (af iI (aa (ab 0) ah)) (aj (.int 2))))) (bw (aj (.bool false))) bM)
    (bw (mI (ao mQ (ao gU (ab 0) (aj (.int 0))) (ab 1)) (ao mQ (ao gU (ab 0) (aj (.int 1))) (ab 1))))
def ij:Fn:=aY 2 2 tW
def oS:MS:=aS (jq (eI (aR (Ih (vK isTup) (ab 0)))) (bw (aj (.bool false))) bM)
    (bw (mI (af sD (aa (bR 1 (aH (ab 0)) (aq 0) cM (af ij (aa (ab 0) (aa (ab 2) ah)))) ah)) (af fN (aa (ab 0) ah))))
def fu:Fn:=aY 2 2 oS
noncomputable def BN:MS:=aS (jq (xE (eI (aR (Ih (vK isTup) (ab 0)))) (aI (ao uW (af iI (aa (ab 0) ah)) (aj (.int 2))))) (bw (aj (.bool false))) bM)
    (aS (oH (jO (bS (aq 1) (bS (aq 2) jN))) (ab 0))
    (bw (mI (af j6 (aa (ab 1) ah)) (af fu (aa (ab 2) (aa (ab 1) ah))))))
def qP:Fn:=aY 1 3 BN
def tX:MS:=jq (eI (aR (af qP (aa (ab 0) ah)))) zX bM
def fO:Fn:=aY 1 1 tX
def BO:MS:=aS (jq (eI (aR (Ih (vK isTup) (ab 0)))) (bw (aj (.bool false))) bM)
    (bw (mI (af sD (aa (bR 1 (aH (ab 0)) (aq 0) cM (ao mQ (ab 0) (ab 2))) ah)) (af fN (aa (ab 0) ah))))
def qQ:Fn:=aY 2 2 BO
def tY:MS:=jq (eI (aR (af qQ (aa (ab 1) (aa (ao gU (ab 0) (aj (.int 0))) ah))))) zX bM
def j7:Fn:=aY 2 2 tY
def tZ:MS:=jq (aI (ao Bj (af iI (aa (ao gU (ab 0) (aj (.int 0))) ah)) (ab 1))) zX bM
def j8:Fn:=aY 2 2 tZ
def t9:MS:=bw (af sD (aa (bR 1 (aH (ab 0)) (aq 0) cM (ao mQ (ab 0) (ab 2))) ah))
def ik:Fn:=aY 2 2 t9
end Ml
namespace L2
open PySem PySem.Spec PyProof.Rows
theorem BP(I:Nat->YR->Prop)
 (turn:∀n s,I n s->wpAny (model prog w) A (pyNext it) (λr s1=>match r with
   |none=>R (.ok .next) s1
   |some v=>wpAny (model prog w) A (letOwnedTupleGo target it v) (λ_ s2=>wpAny (model prog w) A (assign target env v) (λ_ s3=>
     wpAny (model prog w) A (forIn ifs true λc r=>if r=true then do let ok <- isTrue c env (eval c env);pure (ForInStep.yield ok)else pure (ForInStep.yield r)) (λok s4=>
      if ok=true then wpAny (model prog w) A (eval kx env) (λx s5=>wpAny (model prog w) A (eval vx env) (λy s6=>
       wpAny (model prog w) A (dictSet D x y) (λ_ s7=>∃m,m<n/\I m s7) (λ_ _=>False) s6) (λ_ _=>False) s5) (λ_ _=>False) s4
      else ∃m,m<n/\I m s4) (λ_ _=>False) s3) (λ_ _=>False) s2) (λ_ _=>False) s1) (λ_ _=>False) s)
 (n:Nat)(h:I n s) :
  codeAny (model prog w) A (.compLoop (.DictComp kx vx [⟨target,iter,ifs,0⟩] scope pos) 0 it (.ref D) env) R s:=by
 refine codeAny_loop rfl I (λn s hI=>?_) n h;show wpAny _ A ((compTurn (.DictComp kx vx [⟨target,iter,ifs,0⟩] scope pos) 0 it (.ref D) env).onRaise (λx=>do noteFrame x env;theTreesLotGoes x)) _ _ s;refine wpAny_noted ?_;rw[compTurn_dict];refine VG (E:=λ_ _=>False) (E':=_) (Q':=_) ?_ (λ_ _ q=>q) λ_ _ z=>z.elim;refine UC (VO (UC (bE (turn n s hI) (λr s1 h1=>?_))))
 cases r with
 |none=>exact UD h1
 |some v=>
  refine UC (bE h1 λ_ s2 h2=>?_);refine UC (bE h2 λ_ s3 h3=>UC (bE h3 λok s4 h4=>?_))
  cases ok with
  |false=>exact UD ⟨rfl,h4⟩
  |true=>exact UC (UC (bE h4 λx s5 h5=>UC (U8 (bE h5 λy s6 h6=>UC (VO (U8 (bE h6 λ_ s7 h7=>UD ⟨rfl,h7⟩)))))))
noncomputable def Pu{τ:Type}(P:YN)(w:World)(A:YQ)(ok:τ->Obj->Prop)(t:τ)(y z:V)(H:Hp)(N:τ->Hp->Prop):Prop:=
 ∀(Y:Cx) (pins:Yz) (σ:St) (s:YR) (D:Addr) (o:Obj) (u r:Value) (Q:Unit->YR->Prop) (E:Yy),Y.prog=P->Y.w=w->Inv Y pins σ H s->s.heap.get? D=some o->ok t o->RelV y u->RelV z r ->
  (∀(h':Heap) (o':Obj) (tk:Nat) (t':τ),N t' H->h'.get? D=some o'->ok t' o'->Heap.SameBut D s.heap h'->Q () {s with heap:=h',toks:=tk})->wpAny (model P w) A (dictSet D u r) Q E s
noncomputable def DQ{τ:Type}(P:YN)(w:World)(A:YQ)(ok:τ->Obj->Prop)(t0:τ)(n:Nat)(J:It)(g:TG)(tc:TT)(tk tv:TE)(σ:St)(H:Hp)(Q:VK):Prop:=
 ∃W:Nat->Nat->τ->Hp->Prop,(∃m,W 0 m t0 H)/\∀i m t H,W i m t H ->
  (J.stop i H/\∀p o,H p=none->ok t o->∃ho,(∀H' h,h.get? p=some o->p≠sysModules->cL P w H' h p ho)/\Q (.ref p) (upd H p ho)) \/
  (J.go i H/\∃N:τ->Hp->Prop,(∀t' H',N t' H'->∃m',m'<m/\W (i+1) m' t' H')/\∀x H',J.yld i H x H'->g x (List.replicate n none++σ) H' λσ2 H2=>tc σ2 H2 λb H3=>
   if b=true then tk σ2 H3 λy H4=>tv σ2 H4 λz H5=>Pu P w A ok t y z H5 N else N t H3)
theorem BQ{own:YH}{scope:Scope}{pins:Yz}{σ:St}{H2:Hp}{s2:YR}{fp:YE}{it:Addr}{tn:Nat->Heap->Prop}{J:It}{kx vx tg iter:Expr}{ifs:YI}{pos:Pos}{g:TG}{tc:TT}{tk tv:TE}{Q:VK}
 {RR:Value->Addr->Result->YR->Prop}{E:Yy}(I:Inv X pins σ H2 s2)(CS:cf X.env.scope X.N own scope)(hc:X.calm=true)(T:Turn X.prog X.w X.K tg J fp it tn)(st:tn 0 s2.heap)(hf:∀b∈fp,jP X pins H2 b)
 (hg:∀C s2 H2 fp pins,PG #[3] tg g)(ht:∀C s2 H2 fp pins,Dc #[3] ifs tc)(hk:∀C s2 H2 fp pins,PE #[3] kx tk)(hv:∀C s2 H2 fp pins,PE #[3] vx tv)
 (ok0:ok t0 {cls:=.type "dict",dict:=none,data:=.dict #[]})(okd:∀t o,ok t o->∃es ep,o.data=.dict es ep)
 (hW:DQ X.prog X.w X.A ok t0 own.length J g tc tk tv σ H2 Q)
 (hR:∀D C H' s',Inv X pins σ H' s'->jP X pins H' C->(∃m,s'.heap.Ns C m)->Q (.ref D) H'->Kept X fp H2 H' s2 s'->RR (.ref D) C (.ok .next) s') :
  wpAny (model X.prog X.w) X.A newDict (λacc s3=>wpAny (model X.prog X.w) X.A (newFunctionEnv scope X.env.globals (fh X.env.cells scope.names []) [] X.env.qual none .none (some X.env)) (λcenv s4=>
   codeAny (model X.prog X.w) X.A (.compStart (.DictComp kx vx [⟨tg,iter,ifs,0⟩] scope pos) 0 (.ref it) acc {cenv with scope:=relabel scope X.env}) (RR acc cenv.locals) s4) E s3) E s2:=by
 exact zw (okA:=ok) (t0:=t0) (PRE:=λ_=>True) (FIN:=λt H=>∀p o,H p=none->ok t o->∃ho,(∀H' (h:Heap),h.get? p=some o->p≠sysModules->cL X.prog X.w H' h p ho)/\Q (.ref p) (upd H p ho)) (BODY:=λt N σ2 H3=>tk σ2 H3 λy H4=>tv σ2 H4 λz H5=>Pu X.prog X.w X.A ok t y z H5 N)
  (BD:=λD env post s=>wpAny (model X.prog X.w) X.A (eval kx env) (λx s5=>wpAny (model X.prog X.w) X.A (eval vx env) (λy s6=>wpAny (model X.prog X.w) X.A (dictSet D x y) (λ_ s7=>post s7) (λ_ _=>False) s6) (λ_ _=>False) s5) (λ_ _=>False) s)
  I CS hc T st hf hg ht (by size_fits) rfl ok0 (λt o k v z=>by obtain⟨es,ep,e⟩:=okd t o k;rw[e]at z;cases z) (λt o p H hp hn k q=>by
   obtain⟨ho,a,b⟩:=q p o hn k
   exact⟨ho,λH' h e=>a H' h e (Xv (UT (US I.big hp))),b⟩)
  (λD env R LI h n s=>BP LI h n) (by
   rintro C D o t N ps σ6 H7 s7 post _ k3 J7 fD pst q7;refine bE (hk C s2 H2 fp pins _ s7 σ6 H7 _ J7 q7) λkv s8 ⟨y,H8,I8,r8,q8⟩=>?_;refine bE (hv C s2 H2 fp pins _ s8 σ6 H8 _ I8 q8) λvv s9 ⟨z,H9,I9,r9,q9⟩=>?_;have pD:=I9.pin (D,o) (UG _ (.head _));refine q9 #[3] _ _ s9 D o kv vv _ _ rfl rfl I9 pD.1 k3 r8 r9 λh' o' tk t' n' g' ok' sb=>?_;obtain⟨f0,f1,f2,f3,f4,f5⟩:=fD H9 pD.2.1
   exact pst σ6 H9 _ t' o' ((I9.gQ λp hp=>I9.pin p (UG _ (UI _ hp))).turned (t':=tk) (λb o hb e=>(sb.2 b hb).trans e) f0 f1 f3 f4 f5) pD.2.1 g' ok' n')
  (λD env R s a b=>codeAny_compStart_dict a b) (by
   obtain⟨W,a,b⟩:=hW
   exact⟨W,a,λi m t H w=>(b i m t H w).imp id λ⟨x,y⟩=>⟨x,True.intro,y⟩⟩) hR
section
variable {X:Cx} {own:YH} {scope:Scope} {kx vx tg iter:Expr} {τ:Type} {ok:τ->Obj->Prop} {t0:τ} {ifs:YI} {pos:Pos} {wi:TI} {g:TG} {tc:TT} {tk tv:TE}
def Jk{τ:Type}(P:YN)(w:World)(A:YQ)(ok:τ->Obj->Prop)(t0:τ)(n:Nat)(wi:TI)(g:TG)(tc:TT)(tk tv:TE):TE:=λσ H Q=>wi σ H λJ H1=>DQ P w A ok t0 n J g tc tk tv σ H1 Q
theorem BR(own:YH)(CS:c7 X.env.scope X.N own scope=true)(hc:X.calm=true)(hi:PI X tg iter wi)(hg:∀C s2 H2 fp pins,PG #[3] tg g)
 (ht:∀C s2 H2 fp pins,Dc #[3] ifs tc)(hk:∀C s2 H2 fp pins,PE #[3] kx tk)(hv:∀C s2 H2 fp pins,PE #[3] vx tv)
 (ok0:ok t0 {cls:=.type "dict",dict:=none,data:=.dict #[]})(okd:∀t o,ok t o->∃es ep,o.data=.dict es ep)(hs:∀x,foldedSetIterable iter X.env x=pure x:=by intro _;rfl) :
  PE X (.DictComp kx vx [⟨tg,iter,ifs,0⟩] scope pos) (Jk X.prog X.w X.A ok t0 own.length wi g tc tk tv):=by
 intro pins s σ H Q I h;have CS:=cf.of CS;refine Wc rfl hs (fi λn hn=>I.ok.has n (CS.frees n hn)) CS.kind (jl CS) (bE (hi pins s σ H _ I h) λv s1 h1=>bE h1 λitv s2 h2=>?_);obtain⟨it,fp,tn,J,H2,e,I2,T,st2,f2,hW⟩:=h2;subst e;refine BQ I2 CS hc T st2 f2 hg ht hk hv ok0 okd hW λD C H' s' I' fC ⟨m,hn⟩ q _=>?_;refine⟨m,hn,λh' hs'=>⟨.ref D,H',?_,rfl,q⟩⟩;obtain⟨f0,f1,_,f3,f4,f5⟩:=fC;exact I'.turned (λb o hb e=>(hs'.2 b hb).trans e) f0 f1 f3 f4 f5
end
end L2
namespace Ml
open PySem PySem.Spec L2
noncomputable def fZ(tb:Bool)(n:Nat)(ρ:Fm)(g:MG)(c:MT)(k v:ME):List D->YA->Hm->R YA
 | [],acc,h=>.ok acc h
 |x::xs,acc,h=>(g x (List.replicate n none++ρ) h).tN.bind λρ1 h1=>(c ρ1 h1).tN.bind λb h2=>
  if b then(k ρ1 h2).tN.bind λy h3=>(v ρ1 h3).tN.bind λz h4=>match y,z with
   |.dat kd,.dat vd=>if keyOk tb kd&&(tb || oO vd)&&decide (acc.length<16777216)then fZ tb n ρ g c k v xs (dput acc kd vd) h4 else .bad
   |_,_=>.bad
  else fZ tb n ρ g c k v xs acc h2
def sL(tb:Bool)(n:Nat)(it:MA)(g:MG)(c:MT)(k v:ME):ME:=λρ h=>(it ρ h).bind λxs h1=>(fZ tb n ρ g c k v xs [] h1).bind λkvs h2=>R.ok (D.ia tb kvs) h2
structure Mf(G:Gx)(A:YQ){τ:Type}(tb:Bool)(ok:τ->Obj->Prop)(t0:τ)(Rl:YA->τ->YE->Hp->Prop):Prop where
 ok0:ok t0 {cls:=.type "dict",dict:=none,data:=.dict #[]}
 okd:∀t o,ok t o->∃es ep,o.data=.dict es ep
 nil:∀θ H,Rl [] t0 θ H
 ev:∀{acc t θ H θ' H'},Ev θ H θ' H'->Rl acc t θ H->Rl acc t θ' H'
 put:∀{acc t θ h H kd vd y z} {N:τ->Hp->Prop},W G θ h H->b9 G θ H (.dat kd) y->b9 G θ H (.dat vd) z->Rl acc t θ H->keyOk tb kd=true->(tb || oO vd)=true->acc.length<16777216 ->
  (∀t',Rl (dput acc kd vd) t' θ H->N t' H)->Pu G.P G.w A ok t y z H N
 fin:∀{acc t θ h H p o},W G θ h H->Rl acc t θ H->H p=none->ok t o->∃ho,(∀H' h,h.get? p=some o->p≠sysModules->cL G.P G.w H' h p ho)/\fM G.P G.w (view θ H) (upd H p ho) p tb acc
def Uy(P:YN)(w:World)(ks:List (Key×V))(o:Obj):Prop:=ks.length<=sizeLine/\(∃es ep,o.data=.dict es ep)/\∃vs,L2.KV ks vs/\∀(h:Heap) (a:Addr),h.get? a=some o->h.DictOf (cj P w) a vs
theorem Pw:Mf G A false (Uy G.P G.w) [] λacc ks _ _=>bI ks=some acc/\∀p∈acc,fj p.1=true/\fj p.2=true where
 ok0:=⟨Vw _,⟨_,_,rfl⟩,[],.nil,λh a e=>Yi.mpr ⟨_,e,(Yi.mp (Heap.DictOf.new (knd:=cj G.P G.w) h)).elim (by
  rintro o ⟨e1,r⟩;have e2:(h.push {cls:=.type "dict",data:=.dict #[]}).get? h.objs.size=some {cls:=.type "dict",data:=.dict #[]}:=UL _ rfl
  grind)⟩⟩
 okd:=λt o h=>h.2.1
 nil:=λθ H=>⟨rfl,λp hp=>nomatch hp⟩
 ev:=λ_ h=>h
 put:=λ{acc t θ h H kd vd y z N} w r1 r2 rl hk hf hl hN=>by
  intro Y pins σ s D o u r Q E eP ew I gD ⟨lt,_,vs,kv,dd⟩ ry rz cont;obtain⟨q,rfl⟩:∃q,kd=.str q:=by simp only[keyOk,UQ,Vu]at hk;cases kd<;>first|exact⟨_,rfl⟩|simp[mY]at hk
  have fd:oO vd=true:=by simpa using hf
  have hv:=BA fd r2.1;obtain⟨e2,s2⟩:=fx r1;subst e2
  have so:∀p∈dput acc (.str q) vd,fj p.1=true/\fj p.2=true:=λp hp=>by
   unfold dput at hp;split at hp
   ·obtain⟨p0,hp0,e0⟩:=U2.mp hp;split at e0
    ·subst e0;exact⟨(rl.2 p0 hp0).1,r2.2⟩
    ·subst e0;exact rl.2 p0 hp0
   ·rcases UR.mp hp with hp|hp
    ·exact rl.2 p hp
    ·simp at hp;subst hp;exact⟨by simpa [fj]using s2,r2.2⟩
  have hz:vs.length<=sizeLine:=by rw[<- kv.length];exact lt
  refine wpAny_dictSet_pairs (knd:=cj G.P G.w) (hsz:=hz) (vw (k:=Sum.inr q) ry) (dd _ _ gD) λh' dd' hs=>?_;obtain⟨o',g',rest⟩:=Yi.mp dd';refine cont h' o' _ (putK t (Sum.inr q) z) (hN _ ⟨wa hv rl.1,so⟩) g' ⟨?_,?_,stored vs (Sum.inr q) r,kv.put (Sum.inr q) rz,λh2 a e2=>Yi.mpr ⟨o',e2,rest⟩⟩ hs
  ·have:=jT t (Sum.inr q) z;rw[lM rl.1,WL]at *;omega
  ·obtain⟨o2,es,ep,g1,g2,g3,_⟩:=dd';rw[g']at g1;cases g1;exact⟨es,ep,g3⟩
 fin:=λ{acc t θ h H p o} w rl hp ⟨lt,_,vs,kv,dd⟩=>⟨.dK t,λH' h2 e ne=>Dg lt (Xn.mpr ne) kv (dd _ _ e),.inl ⟨rfl,t,bg,rl.1,rl.2⟩⟩
def Uz(P:YN)(w:World)(xs:List (PyData×Addr×Value))(o:Obj):Prop:=xs.length<=sizeLine/\∃es ep,o.ExactDict/\o.data=.dict es ep/\es.toList=xs.map (entryOfKey (fk P w))/\(xs.map (·.1)).Nodup
theorem Px(hA:A.units+20<cLine):Mf G A true (Uz G.P G.w) [] λacc xs θ H=>Paired (pq (view θ H)) acc xs where
 ok0:=⟨Vw _,_,_,⟨rfl,rfl,rfl⟩,rfl,rfl,List.nodup_nil⟩
 okd:=by rintro t o ⟨_,es,ep,_,h,_⟩;exact⟨es,ep,h⟩
 nil:=λθ H=>.nil
 ev:=λe h=>Paired.lB h λ_ _=>pq.same e.same
 put:=λ{acc t θ h H kd vd y z N} w r1 r2 rl hk hf hl hN=>by
  intro Y pins σ s D o u r Q E eP ew I gD ⟨lt,es,ep,g2,g3,g4,g5⟩ ry rz cont;simp only[keyOk,VC,UH,Vi]at hk
  obtain⟨b,vs,rfl,hb⟩:∃b vs,y=.ref b/\view θ H b=some (.tup vs):=by
   cases kd with
   |tuple ds=>obtain⟨b,vs,e,hb,_⟩:=r1.1;exact⟨b,vs,e,hb⟩
   |_=>simp[gE]at hk
  cases ry;have dd:s.heap.DictOfH (fk G.P G.w) D t:=⟨o,es,ep,gD,g2,g3,g4,zV I (ax θ H) rl,g5⟩;have kr:=BC (b:=b) (u:=r) hk.1.2 hk.2 r1.2 r1.1 rz r2.1 r2.2 rl;refine wpAny_dictSet_heap (knd:=fk G.P G.w) (hsz:=lt) hA (Fw I (ax θ H) hk.1.2 hk.2 r1.2 r1.1) dd λh' dd' hs=>?_;obtain⟨o',es',ep',k1,k2,k3,k4,_,k5⟩:=dd';refine cont h' o' _ (storedH t kd b r) (hN _ kr) k1 ⟨?_,es',ep',k2,k3,k4,k5⟩ hs;rw[<- show(dput acc kd vd).length=_ from U3 kr];have:=BE acc kd vd
  grind[PySem.sizeLine_eq]
 fin:=λ{acc t θ h H p o} w rl hp ⟨lt,es,ep,g2,g3,g4,g5⟩=>⟨dO G.P G.w t p,λH' h2 e ne=>Ir lt (Xn.mpr ne) e g2 g3 g4 g5,.inr ⟨rfl,t,bg,rl⟩⟩
section
variable {X:Cx} {E:XK} {mk mv:ME} {t:MT} {e tg kx vx:Expr} {ifs:YI} {it:MA} {pos:Pos} {i:Nat} {x:Str} {g:MG} {own:YH} {scope:Scope} {tb:Bool} {k:Nat}
theorem DR(AR:Mf G A tb ok t0 Rl){F:XP}{n:Nat}{θ1:YE}{H1:Hp}{h1:Hm}{xs:List D}{J:It}{σ:L2.St}{ρ:Fm}{Q:VK}(hJ:qH G θ1 H1 xs J)(w1:W G θ1 h1 H1)(fr:Fr G θ1 H1 ρ σ)
 (p1:aA G F θ1 H1 ((fZ tb n ρ g t mk mv xs [] h1).bind λkvs h2=>R.ok (D.ia tb kvs) h2) (Ml.KV G Q)) :
  DQ G.P G.w A ok t0 n J (lG G eQ g) (lT G eQ t) (lE G eQ mk) (lE G eQ mv) σ H1 Q:=by
 refine⟨λi m' a H=>m'=xs.length-i/\i<=xs.length/\∃θ' h' acc,Ev θ1 H1 θ' H/\W G θ' h' H/\Rl acc a θ' H/\aA G F θ' H ((fZ tb n ρ g t mk mv (xs.drop i) acc h').bind λkvs h2=>R.ok (D.ia tb kvs) h2) (Ml.KV G Q),
  ⟨xs.length,by simp,Vw _,θ1,h1,[],Ev.refl,w1,AR.nil _ _,p1⟩,?_⟩
 rintro i m' a H ⟨rfl,hi,θ',h',acc,ev,w,ra,p⟩;obtain⟨j1,j2⟩:=hJ θ' h' H ev w;by_cases hlt:i<xs.length
 ·have ed:xs.drop i=xs[i]::xs.drop (i+1):=Vs hlt;rw[ed]at p;obtain⟨g1,g2⟩:=j1 i xs[i] (UK hlt);refine .inr ⟨g1,λa2 H2=>i+1<=xs.length/\∃θ' h' acc,Ev θ1 H1 θ' H2/\W G θ' h' H2/\Rl acc a2 θ' H2/\aA G F θ' H2 ((fZ tb n ρ g t mk mv (xs.drop (i+1)) acc h').bind λkvs h2=>R.ok (D.ia tb kvs) h2) (Ml.KV G Q),λys' H' q=>⟨xs.length-(i+1),by omega,rfl,q⟩,λx H2 y=>?_⟩;obtain⟨e2,w2,r2⟩:=g2 x H2 y;have p2:=p.later e2;unfold fZ at p2;simp only[R.bind_assoc]at p2;refine⟨θ',h',_,xs[i],w2,((fr.ev ev).ev e2).replicate n,r2,(aA.cn p2).mono λρ3 θ3 h3 H3 _ _ ⟨e3,w3,p3⟩ σ3 fr3=>⟨θ3,h3,ρ3,w3,fr3,(aA.cn p3).mono λc θ4 h4 H4 _ _ ⟨e4,w4,p4⟩=>?_⟩⟩;have ev4:=(ev.trans e2).trans (e3.trans e4);have ra4:=AR.ev (e2.trans (e3.trans e4)) ra
  cases c with
  |false=>exact⟨hlt,θ4,h4,acc,ev4,w4,ra4,p4⟩
  |true=>
   simp only[VC,R.bind_assoc]at p4;refine⟨θ4,h4,ρ3,w4,fr3.ev e4,(aA.cn p4).mono λy θ5 h5 H5 _ _ ⟨e5,w5,p5⟩ v5 r5=>⟨θ5,h5,ρ3,w5,(fr3.ev e4).ev e5,(aA.cn p5).mono λz θ6 h6 H6 _ _ ⟨e6,w6,p6⟩ v6 r6=>?_⟩⟩;have ra6:=AR.ev (e5.trans e6) ra4;have r5':=b9.ev e6 r5
   cases y with
   |dat kd=>
    cases z with
    |dat vd=>
     simp only at p6;split at p6
     ·rename_i hc;simp only[UH,Vi]at hc;exact AR.put w6 r5' r6 ra6 hc.1.1 hc.1.2 hc.2 λt' rt=>⟨hlt,θ6,h6,_,ev4.trans (e5.trans e6),w6,rt,p6⟩
     ·exact p6.elim
    |_=>exact p6.elim
   |_=>exact p6.elim
 ·have hx:i=xs.length:=by omega
  subst hx;rw[VJ (UJ _)]at p;simp only[fZ,R.aP]at p;refine .inl ⟨j2,λq o hq hok=>?_⟩;obtain⟨ho,h1,h2⟩:=AR.fin w ra hq hok;obtain⟨e3,w3,g3⟩:=w.put (o:=ho) hq;refine⟨ho,h1,p _ _ e3 w3 _ ⟨q,rfl,h2.same e3.same λo' e'=>?_⟩⟩;rw[bg]at e';rw[g3];exact e'
theorem BS(AR:Mf G A tb ok t0 Rl){n:Nat}{σ:L2.St}{H:Hp}{Q:VK}(h:lE G E (sL tb n it g t mk mv) σ H Q) :
  Jk G.P G.w A ok t0 n (lI G E it) (lG G eQ g) (lT G eQ t) (lE G eQ mk) (lE G eQ mv) σ H Q:=by
 obtain⟨θ,h,ρ,w,fr,p⟩:=h;exact⟨θ,h,ρ,w,fr,(aA.bind p).mono (by rintro xs θ1 h1 H1 _ _ ⟨ev,w1,p1⟩ J hJ;exact DR AR hJ w1 (fr.ev ev) p1)⟩
theorem BU(own:YH)(tb:Bool)(hr:cE k X.A)(CS:c7 X.env.scope X.N own scope=true)(hc:X.calm=true)(hi:DI X E it tg e)(hg:∀C s2 H2 fp pins,DG #[3] eQ g tg)
 (ht:∀C s2 H2 fp pins,IC #[3] eQ t ifs)(hk:∀C s2 H2 fp pins,DE #[3] eQ mk kx)(hv:∀C s2 H2 fp pins,DE #[3] eQ mv vx)(hs:∀x,foldedSetIterable e X.env x=pure x:=by intro _;rfl) :
  DE X E (sL tb own.length it g t mk mv) (.DictComp kx vx [⟨tg,e,ifs,0⟩] scope pos):=by
 simp[bj,mG,kO,m8]at *
 cases tb with
 |false=>exact PE.imp (BR own CS hc hi hg ht hk hv (Pw (A:=X.A)).ok0 (Pw (A:=X.A)).okd hs) λσ H Q q=>BS Pw q
 |true=>
  have hu:X.A.units+20<cLine:=by have:=hr.units;omega
  exact PE.imp (BR own CS hc hi hg ht hk hv (Px hu).ok0 (Px hu).okd hs) λσ H Q q=>BS (Px hu) q
end
end Ml
namespace Ml
open PySem
def BV:MS:=bw (sL false 2 (aH (ao gU (ab 0) (aj (.int 1)))) (jO (bS (aq 0) (bS (aq 1) jN))) (aI (ao mQ (ab 0) (ab 3))) (ab 1) (aj (.bool true)))
def nc:Fn:=aY 2 2 BV
noncomputable def wk:MS:=aS (oH (jO (bS (aq 2) (bS (aq 3) jN))) (ab 0))
    (aS (bP 4 (af nc (aa (ab 0) (aa (ab 1) ah))))
    (aS (bP 5 (sL false 2 (aH (ab 3)) (jO (bS (aq 0) (bS (aq 1) jN))) (aI (ao gF (ab 0) (ab 6))) (ab 1) (aj (.bool true))))
    (bw (af jt (aa (bR 1 (aH (ab 2)) (aq 0) (aI (ao gF (ab 0) (ab 6))) (ab 0)) ah)))))
def fI:Fn:=aY 2 6 wk
noncomputable def Jl:MS:=aS (bP 2 (bR 2 (aH (ao gU (ab 0) (aj (.int 1)))) (jO (bS (aq 0) (bS (aq 1) jN))) (aI (ao oEq (ab 1) (ab 3))) (ab 0)))
    (aS (bP 3 (bR 2 (aH (ao gU (ab 0) (aj (.int 1)))) (jO (bS (aq 0) (bS (aq 1) jN))) (aI (ao oEq (ab 0) (ab 3))) (ab 1)))
    (bw (ao gv (ab 2) (ab 3))))
def sM:Fn:=aY 2 4 Jl
noncomputable def mJ:MS:=aS (bP 1 (aj (.list [.tuple []])))
    (aS (ie (aH (ao gU (ab 0) (aj (.int 0)))) (aq 2) (aS (bP 3 (af sM (aa (ab 0) (aa (ab 2) ah))))
    (jq (aI (ao gF (ab 2) (ab 3))) (bP 1 (ao gv (ab 1) (bR 1 (aH (ab 1)) (aq 0) (eI (aR (af xO (aa (bR 1 (aH (ab 0)) (aq 0) cM (ao mQ (ab 0) (ab 5))) ah)))) (eV (fq (ab 0) (aa (ab 3) ah)))))) bM)))
    (bw (af et (aa (ab 1) ah))))
def b8:Fn:=aY 1 4 mJ
def xR:MS:=bw (LL (af xO (aa (bR 2 (aH (ao gU (ab 0) (aj (.int 1)))) (jO (bS (aq 0) (bS (aq 1) jN))) cM (mI (ao mQ (ab 0) (ab 3)) (ao mQ (ab 1) (ab 3)))) ah)))
def gZ:Fn:=aY 2 2 xR
def xS:MS:=bw (af ik (aa (ab 1) (aa (af fI (aa (ab 0) (aa (ab 1) ah))) ah)))
def cZ:Fn:=aY 2 2 xS
def DU:MS:=bw (ao oEq (ab 1) (af fI (aa (ab 0) (aa (ab 1) ah))))
def fJ:Fn:=aY 2 2 DU
def ua:MS:=aS (bP 2 (af nc (aa (ab 0) (aa (ab 1) ah))))
    (bw (af sD (aa (bR 1 (aH (ao gU (ab 0) (aj (.int 0)))) (aq 0) cM (Ma (ao mQ (ab 0) (ab 2)) (ao mQ (ab 0) (ab 3)))) ah)))
def dA:Fn:=aY 2 3 ua
def uG:MS:=bw (bR 1 (aH (af b8 (aa (ab 0) ah))) (aq 0) (aR (af cZ (aa (ab 1) (aa (ab 0) ah)))) (ab 0))
def dF:Fn:=aY 1 1 uG
def Ab:MS:=bw (bR 1 (aH (af b8 (aa (ab 0) ah))) (aq 0) (aR (af fJ (aa (ab 1) (aa (ab 0) ah)))) (ab 0))
def i9:Fn:=aY 1 1 Ab
def uH:MS:=aS (bP 1 (aj (.tuple [])))
    (aS (bP 2 (af fI (aa (ab 0) (aa (ab 1) ah))))
    (aS (Dt 20 (aI (ao uW (ab 2) (ab 1))) (aS (bP 1 (ab 2))
    (bP 2 (af fI (aa (ab 0) (aa (ab 1) ah))))))
    (bw (uF (aa (ab 1) ah)))))
def fB:Fn:=aY 1 3 uH
end Ml
namespace Ml
open PySem PySem.Spec L2
open Classical in
noncomputable def Jm(g:MG)(b:MS)(j:Nat)(all:List D):List D->Fm->Hm->R Fl
 | [],ρ,h=>if h[j]?=some (.lst all)then .ok (.nx ρ) h else .bad
 |x::xs,ρ,h=>if h[j]?=some (.lst all)then(g x ρ h).tN.bind λρ1 h1=>(b ρ1 h1).tN.bind λf h2=>match f with
  |.nx ρ2=>Jm g b j all xs ρ2 h2
  |.ct ρ2=>Jm g b j all xs ρ2 h2
  |.bk ρ2=>.ok (.nx ρ2) h2
  |.rt d=>.ok (.rt d) h2 else .bad
end Ml
namespace Ml
open PySem PySem.Spec L2
open Classical in
noncomputable def g6(n:Nat)(ρ:Fm)(g:MG)(t:MT)(e:ME)(j:Nat)(all:List D):List D->Hm->R (List D)
 | [],h=>if h[j]?=some (.lst all)then .ok [] h else .bad
 |x::xs,h=>if h[j]?=some (.lst all)then(g x (List.replicate n none++ρ) h).tN.bind λρ1 h1=>(t ρ1 h1).tN.bind λc h2=>
  if c then(e ρ1 h2).tN.bind λy h3=>(g6 n ρ g t e j all xs h3).bind λys h4=>.ok (y::ys) h4
  else g6 n ρ g t e j all xs h2 else .bad
def Jn(n:Nat)(m:ME)(g:MG)(t:MT)(e:ME):ME:=λρ h=>(m ρ h).bind λx h1=>match x with
 |.ref j=>match h1[j]? with
  |some (.lst all)=>if mP all.length then(g6 n ρ g t e j all all h1).bind oN else .bad
  |_=>.bad
 |_=>.bad
section
variable {X:Cx} {E:XK} {m em:ME} {e tg elt:Expr} {g:MG} {t:MT} {pos:Pos} {ifs:YI} {scope:Scope}
theorem DV(ha:θ1[j]?=some a)(w1:W G θ1 h1 H1)(fr:Fr G θ1 H1 ρ σ)(p1:aA G F θ1 H1 ((g6 n ρ g t em j all all h1).bind mk) (KV G Q))
 (hmk:∀ys vs θ h H,ys.length<=all.length->W G θ h H->aO G θ H ys vs->aA G F θ H (mk ys h) (KV G Q)->∀p,H p=none->Q (.ref p) (upd H p (.lst vs)))(hz:all.length<=sizeLine) :
  EU n (RO G.K a) (lG G eQ g) (lT G eQ t) (lE G eQ em) σ H1 Q:=by
 refine⟨λi m' ys H=>m'=all.length-i/\i<=all.length/\∃θ' h' acc,acc.length<=i/\Ev θ1 H1 θ' H/\W G θ' h' H/\aO G θ' H acc ys/\aA G F θ' H ((g6 n ρ g t em j all (all.drop i) h').bind λzs h2=>mk (acc++zs) h2) (KV G Q),
  ⟨all.length,by simp,Vw _,θ1,h1,[],UJ _,Ev.refl,w1,.nil,p1⟩,?_⟩
 rintro i m' ys H ⟨rfl,hi,θ',h',acc,hacc,ev,w,ra,p⟩
 have hj:h'[j]?=some (.lst all):=by
  by_cases z:h'[j]?=some (.lst all)
  ·exact z
  ·exfalso;generalize all.drop i=ds at p
   cases ds with
   |nil=>unfold g6 at p;rw[if_neg z]at p;exact p
   |cons x xs=>unfold g6 at p;rw[if_neg z]at p;exact p
 obtain⟨vs,hv,rs⟩:=w.obj j a _ (ev.get ha) hj;have q:ji G.K H a vs:=ji.of hv;have hl:all.length=vs.length:=U3 rs;have hly:ys.length<=sizeLine:=by rw[<- show acc.length=ys.length from U3 ra];omega
 by_cases hlt:i<all.length
 ·have ed:all.drop i=all[i]::all.drop (i+1):=Vs hlt;rw[ed]at p;unfold g6 at p;rw[if_pos hj]at p;simp only[R.bind_assoc]at p;obtain⟨v,ev',rv⟩:=rs.some (UK hlt);refine .inr ⟨⟨vs,v,q,ev'⟩,hly,λys2 H2=>i+1<=all.length/\∃θ' h' acc,acc.length<=i+1/\Ev θ1 H1 θ' H2/\W G θ' h' H2/\aO G θ' H2 acc ys2/\aA G F θ' H2 ((g6 n ρ g t em j all (all.drop (i+1)) h').bind λzs h2=>mk (acc++zs) h2) (KV G Q),λys' H' q=>⟨all.length-(i+1),by omega,rfl,q⟩,λx H2 y=>?_⟩;obtain⟨e2,y⟩:=y;subst e2;have:=y vs q;rw[ev']at this;cases this;refine⟨θ',h',_,all[i],w,(fr.ev ev).replicate n,rv,(aA.cn p).mono λρ3 θ3 h3 H3 _ _ ⟨e3,w3,p3⟩ σ3 fr3=>⟨θ3,h3,ρ3,w3,fr3,(aA.cn p3).mono λc θ4 h4 H4 _ _ ⟨e4,w4,p4⟩=>?_⟩⟩;have ev4:=ev.trans (e3.trans e4);have ra4:=aO.ev (e3.trans e4) ra
  cases c with
  |false=>exact⟨hlt,θ4,h4,acc,by omega,ev4,w4,ra4,p4⟩
  |true=>
   simp only[VC,R.bind_assoc]at p4;refine⟨θ4,h4,ρ3,w4,fr3.ev e4,(aA.cn p4).mono λy θ5 h5 H5 _ _ ⟨e5,w5,p5⟩ v5 r5=>⟨hlt,θ5,h5,acc++[y],by simp;omega,ev4.trans e5,w5,?_,?_⟩⟩
   ·exact cY (aO.ev e5 ra4) (.cons r5 .nil)
   ·simp only[R.bind_assoc,R.aP]at p5;simpa using p5
 ·have hx:i=all.length:=by omega
  subst hx;rw[VJ (UJ _)]at p;unfold g6 at p;rw[if_pos hj]at p;simp only[R.aP,V1]at p;exact .inl ⟨⟨vs,q,by rw[<- hl];exact UJ _⟩,hly,hmk acc ys θ' h' H hacc w ra p⟩
theorem Jo(own:YH)(CS:c7 X.env.scope X.N own scope=true)(hc:X.calm=true)(hm:DE X E m e)(hg:∀C s2 H2 fp pins,DG #[3] eQ g tg)
 (ht:∀C s2 H2 fp pins,IC #[3] eQ t ifs)(he:∀C s2 H2 fp pins,DE #[3] eQ em elt)(hs:∀x,foldedSetIterable e X.env x=pure x:=by intro _;rfl) :
  DE X E (Jn own.length m g t em) (.ListComp elt [⟨tg,e,ifs,0⟩] scope pos):=by
 simp[bj,mG,m8]at *;refine PE.imp (t:=yh own.length (M3 X.K (lE X.G E m)) (lG X.G eQ g) (lT X.G eQ t) (lE X.G eQ em)) (EV own CS hc (EK hm) hg ht he hs) λσ H Q ⟨θ,h,ρ,w,fr,p⟩=>⟨θ,h,ρ,w,fr,(aA.bind p).mono λd θ1 h1 H1 _ _ ⟨ev,w1,p1⟩ v r=>?_⟩
 cases d with
 |ref j=>
  obtain⟨a,ha,rfl⟩:=r
  cases hj:h1[j]? with
  |none=>simp only[hj]at p1;exact p1.elim
  |some o=>
   cases o with
   |lst all=>
    simp only[hj]at p1;split at p1
    ·rename_i hz;obtain⟨vs,hv,rs⟩:=w1.obj j a _ ha hj;exact⟨a,rfl,⟨vs,ji.of hv⟩,DV ha w1 (fr.ev ev) p1 (λys vs θ h H _=>jw ys vs θ h H) (eB hz)⟩
    ·exact p1.elim
   |_=>simp only[hj]at p1;exact p1.elim
 |_=>exact p1.elim
end
end Ml
set_option maxHeartbeats 4000000
namespace PySem.W
open PySem PySem.Calls PyProof.Rows
def KasT.ev(lt:Nat->Nat->Bool):KasT α->α
 |.ret a=>a
 |.ask i j k=>(k (lt i j)).ev lt
theorem KasT.Jp:∀(t:KasT α),t.Run lt n P->t.Run lt n (λa=>a=t.ev lt/\P a)
 |.ret _,h=>⟨rfl,h⟩
 |.ask _ _ k,h=>⟨h.1,h.2.1,KasT.Jp (k _) h.2.2⟩
theorem KasT.Np:∀(t:KasT α),t.Run lt n P->P (t.ev lt)
 |.ret _,h=>h
 |.ask _ _ k,h=>KasT.Np (k _) h.2.2
def Py(kz:List Int)(i j:Nat):Bool:=decide (kz.getD i 0<kz.getD j 0)
theorem FA(kz:List Int)(n:Nat):mV (Py kz) n:=⟨λa b _ _ h=>by grind[Py],λa b c _ _ _ h h'=>by grind[Py,decide_eq_false_iff_not]⟩
def yF(kz:List Int):List Nat:=if kz.length<2 then List.range kz.length else((kas_sort kz.length).ev (Py kz)).toList
theorem lV(kz:List Int):(yF kz).Perm (List.range kz.length):=by
 unfold yF;split
 ·rfl
 ·exact(KasT.Np _ (vG (FA kz kz.length) #[1])).1.perm
def uI(kz:List Int)(vs:List β)(z:β):List β:=((yF kz.reverse).map λi=>vs.reverse.getD i z).reverse
theorem FC:∀{as:List α} {bs:List β},as.length=bs.length->(as.zip bs).reverse=as.reverse.zip bs.reverse
 | [],[],_=>rfl
 |a::as,b::bs,h=>by
  have h':as.length=bs.length:=by grind
  rw[WB,Xe,FC h',Xe,Xe,List.zip_append (by grind)];rfl
theorem BW:∀{vs:YF} {ns:List Int},IntsAre vs ns->IntsAre vs.reverse ns.reverse
 |_,_,.nil=>.nil
 |_,_,.cons n t h=>by rw[Xe,Xe];exact ksk_snoc (BW h)
section
variable {prog:YN} {w:World} {A:YQ} {E:Yy} {s:YR} {P:PySem.Fin->YR->Prop} {a kS:Addr} {e e1:Nat} {vs:YF} {kz:List Int} {keys:YL}
theorem wm{st:SortSt}(ho:s.heap.get? a=some (seqObj "list" #[] e1))(hk:s.heap.get? kS=some (seqObj "list" keys e))(hka:kS≠a)(hz:keys.size<64)(hf:failedOf st=none){out:YF}(he:(arrOf st).map (·.2)=out.reverse.toArray)(hz2:out.length<64)
 (h:∀h' tk c,(∀b o,b≠a->b≠kS->s.heap.get? b=some o->h'.get? b=some o)->h'.get? a=some (seqObj "list" out.toArray c)->P (.done (.ret .none)) {s with heap:=h',toks:=tk}) :
  wpAny (model prog w) A (ksk_tail a true e1 (.ref kS) st) P E s:=by
 have s1:=VD s.heap kS (Obj.mapSeq λ_=>(#[]:YL));have na1:=(s1.2 a hka.symm).trans ho;have s2:=VD (s.heap.update kS (Obj.mapSeq λ_=>(#[]:YL))) a (Obj.mapSeq λ_=>out.toArray);obtain⟨c2,hc2⟩:∃c2,((s.heap.update kS (Obj.mapSeq λ_=>(#[]:YL))).update a (Obj.mapSeq λ_=>out.toArray)).get? a=some (seqObj "list" out.toArray c2):=⟨_,get?_update_seq na1 λ_=>out.toArray⟩;have er:(if true=true then((arrOf st).map (·.2)).reverse else(arrOf st).map (·.2))=out.toArray:=by grind
 unfold ksk_tail;refine UC (W9 hk rfl ?_ (by grind[sizeLine_eq]) (Vw _));refine UC (wpAny_letGo ?_);refine UC (seqEpoch_at na1 rfl ?_);rw[er];refine UC (W9 na1 rfl ?_ (Vw _) (by grind[List.size_toArray,sizeLine_eq]));rw[hf];simp only[Ys,UQ,Vu];exact UD (h _ _ c2 (λb o hb hb2 e=>(s2.2 b hb).trans ((s1.2 b hb2).trans e)) hc2)
theorem GW(ho:s.heap.get? a=some (seqObj "list" #[] e1))(hk:s.heap.get? kS=some (seqObj "list" keys e))(hka:kS≠a)(hi:IntsAre keys.toList kz)(hlen:kz.length=vs.length)(h64:vs.length<64)
 (h:∀h' tk c,(∀b o,b≠a->b≠kS->s.heap.get? b=some o->h'.get? b=some o)->h'.get? a=some (seqObj "list" (uI kz vs Value.none).toArray c)->P (.done (.ret .none)) {s with heap:=h',toks:=tk}) :
  wpAny (model prog w) A (ksk_end a true vs.toArray e1 (.ref kS) keys) P E s:=by
 have hsz:keys.size=vs.length:=by
  have h1:=hi.length
  grind
 have hout:(uI kz vs Value.none).length=vs.length:=by unfold uI;rw[Yj,UX,(lV _).length_eq,Yu,Yj,hlen]
 have ez:(keys.zip vs.toArray).reverse=keys.toList.reverse.toArray.zip vs.reverse.toArray:=by apply Array.toList_inj.mp;rw[Array.toList_reverse,ksk_zip,ksk_zip,FC (by simp[hsz])]
 unfold ksk_end;dsimp only;rw[if_pos rfl];refine UC (V5 ?_);rw[if_pos rfl];by_cases h2:vs.toArray.size<2
 ·rw[if_pos h2,if_pos h2];refine UC (UD ?_);rw[StateT.run_pure];refine UC (UD ?_);dsimp only;rw[UY]at h2;refine wm ho hk hka #[1] rfl (out:=uI kz vs Value.none) ?_ #[1] h;show((keys.zip vs.toArray).reverse).map (·.2)=_;rw[ez];unfold uI yF;rw[Yj,if_pos #[1],List.reverse_reverse];rcases vs with _|⟨x,_|⟨y,vs⟩⟩
  ·have:kz=[]:=V4.mp hlen;subst this;simp
  ·match kz,hlen with
   | [k],_=>
    cases q:keys.toList with
    |nil=>rw[q]at hi;cases hi
    |cons u r=>
     rw[q]at hi
     cases hi with
     |cons _ _ hr=>cases hr;simp[List.range_succ]
  ·simp at h2;omega
 ·rw[if_neg h2,if_neg h2];rw[UY]at h2;rw[ksk_kind hi #[1],ez];refine UC (UD ?_);have hi2:=BW hi
  refine UC (VG (kat_run (E:=E) (vs:=vs.reverse) (ks:=keys.toList.reverse) (κ:=oneType') (G:=λp s'=>s'=s/\p=(kas_sort vs.reverse.length).ev (Py kz.reverse))
   (Q:=λst' s'=>s'=s/\failedOf st'=none/\(arrOf st').map (·.2)=(uI kz vs Value.none).reverse.toArray)
   (by simp[hsz]) (by simp;omega) (by simpa using h64) (λp st' s' a1 a2 a3 a4=>⟨a4.1,a3,?_⟩) ?_) ?_ λ_ _ e=>e)
  ·rw[kat_snds (by simp[hsz]) a2,a4.2];unfold uI yF;rw[List.reverse_reverse,if_neg (by simp;omega)];simp[hlen]
  ·refine KasT.Dn (lt:=Py kz.reverse) (n:=vs.reverse.length) (P:=λp=>p=(kas_sort vs.reverse.length).ev (Py kz.reverse)) (I:=λs'=>s'=s) ?_ ?_ _ _ (KasT.eN (λ_ q=>q.1) _ (KasT.Jp _ (vG (FA _ _) (by simp;omega)))) rfl
   ·rintro i j C s' hi' hj rfl q;have hz:kz.reverse.length=vs.reverse.length:=by simp[hlen]
    obtain⟨t,e1⟩:=hi2.get i (kz.reverse.getD i 0) (by rw[Wu,UK #[1]];rfl);obtain⟨u,e2⟩:=hi2.get j (kz.reverse.getD j 0) (by rw[Wu,UK #[1]];rfl);unfold kas_ask;rw[Wu,Wu,e1,e2];exact kat_lt_int (q _ rfl)
   ·rintro p s' hp rfl;exact⟨rfl,hp⟩
  ·rintro⟨⟨⟩,st'⟩ s' ⟨rfl,hf,e⟩;dsimp only;exact wm ho hk hka #[1] hf e #[1] h
theorem DX(ho:s.heap.get? a=some (seqObj "list" #[] e1))(hk:s.heap.get? kS=some (seqObj "list" #[] 0))(hka:kS≠a)(hlen:kz.length=vs.length)(h64:vs.length<64)
 (turn:∀(i:Nat) (v:Value) (k:Int),vs[i]?=some v->kz[i]?=some k->∀(h':Heap) (tk:Nat) (C:Yy),(∀b o,b≠a->b≠kS->s.heap.get? b=some o->h'.get? b=some o)->(∀t tk',C (.int k t) {s with heap:=h',toks:=tk'})->wpAny (model prog w) A (call f [v]) C (λ_ _=>False) {s with heap:=h',toks:=tk})
 (h:∀h' tk c,(∀b o,b≠a->b≠kS->s.heap.get? b=some o->h'.get? b=some o)->h'.get? a=some (seqObj "list" (uI kz vs Value.none).toArray c)->P (.done (.ret .none)) {s with heap:=h',toks:=tk}) :
  wpAny (model prog w) A (ksk_rest a f true vs.toArray e1 (.ref kS)) P E s:=by
 unfold ksk_rest;refine UC (V5 ?_)
 first
  |rfl
  |rfl
  |simp
 refine UC (ksk_fold (λi s'=>∃h' tk kA e,s'={s with heap:=h',toks:=tk}/\(∀b o,b≠a->b≠kS->s.heap.get? b=some o->h'.get? b=some o)/\h'.get? a=some (seqObj "list" #[] e1)/\h'.get? kS=some (seqObj "list" kA e)/\IntsAre kA.toList (kz.take i)) vs 0 s
  ⟨s.heap,s.toks,#[],0,rfl,λ_ _ _ _ e=>e,ho,hk,by simpa using IntsAre.nil⟩ ?step ?done)
 case step=>
  rintro j x s' hx ⟨h',tk,kA,e,rfl,kp,ho',hk',hi⟩;simp only[Nat.zero_add]at hi ⊢;have hj:j<vs.length:=(UN.mp hx).1;obtain⟨k,hkj⟩:∃k,kz[j]?=some k:=⟨_,UK #[1]⟩;have hz:kA.size<=vs.length:=by have h1:=hi.length;rw[Vr,WV]at h1;omega
  refine UC (Wz (VG (turn j x k hx hkj h' tk (λv s''=>∃t tk',v=.int k t/\s''={s with heap:=h',toks:=tk'}) kp λt tk'=>⟨t,tk',rfl,rfl⟩) (λv s'' he=>?_) λ_ _ hF=>hF.elim));obtain⟨t2,tk2,rfl,rfl⟩:=he;dsimp only;have s1:=VD h' kS (Obj.mapSeq (·.push (.int k t2)));obtain⟨c2,hc2⟩:∃c2,(h'.update kS (Obj.mapSeq (·.push (.int k t2)))).get? kS=some (seqObj "list" (kA.push (.int k t2)) c2):=⟨_,get?_update_seq hk' (·.push (.int k t2))⟩;have ek:kz.take (j+1)=kz.take j++[k]:=by rw[List.take_add_one,hkj];simp
  have ea:(kA.push (Value.int k t2)).toList=kA.toList++[Value.int k t2]:=by simp
  refine UC (W9 hk' rfl ?_ (by rw[VB];omega) (UO (Nat.le_of_eq (Array.size_push ..)) (by rw[VB];omega)));exact UD ⟨rfl,_,_,kA.push (.int k t2),c2,rfl,λb o hb hb2 e=>(s1.2 b hb2).trans (kp b o hb hb2 e),(s1.2 a hka.symm).trans ho',hc2,by rw[ea,ek];exact ksk_snoc hi⟩
 case done=>
  rintro s' ⟨h',tk,kA,e,rfl,kp,ho',hk',hi⟩;have hi':IntsAre kA.toList kz:=by have e3:kz.take (0+vs.length)=kz:=Ws #[1];rw[e3]at hi;exact hi
  refine UC (listItems_at hk' rfl ?_);exact GW ho' hk' hka hi' hlen h64 λh3 tk3 c kp3 g3=>h h3 tk3 c (λb o hb hb2 e=>kp3 b o hb hb2 (kp b o hb hb2 e)) g3
theorem DY(ho:s.heap.get? a=some (seqObj "list" vs.toArray n))(hlen:kz.length=vs.length)(h64:vs.length<64)
 (turn:∀(i:Nat) (v:Value) (k:Int),vs[i]?=some v->kz[i]?=some k->∀(h':Heap) (tk:Nat) (C:Yy),(∀b o,b≠a->s.heap.get? b=some o->h'.get? b=some o)->(∀t tk',C (.int k t) {s with heap:=h',toks:=tk'})->wpAny (model prog w) A (call f [v]) C (λ_ _=>False) {s with heap:=h',toks:=tk})
 (h:∀h' tk c,(∀b o,b≠a->s.heap.get? b=some o->h'.get? b=some o)->h'.get? a=some (seqObj "list" (uI kz vs Value.none).toArray c)->P (.done (.ret .none)) {s with heap:=h',toks:=tk}) :
  wpAny (model prog w) A (ksk_tree a f true) P E s:=by
 have ha:a<#[2]:=UM ho;have s1:=VD s.heap a (Obj.mapSeq λ_=>(#[]:YL));obtain⟨e1,ho1⟩:∃e1,(s.heap.update a (Obj.mapSeq λ_=>(#[]:YL))).get? a=some (seqObj "list" #[] e1):=⟨_,get?_update_seq ho λ_=>#[]⟩;have hkS:((s.heap.update a (Obj.mapSeq λ_=>(#[]:YL))).push (seqObj "tuple" vs.toArray 0)).objs.size=#[2]+1:=by simp_all
 have up:∀b o,b≠a->s.heap.get? b=some o->(((s.heap.update a (Obj.mapSeq λ_=>(#[]:YL))).push (seqObj "tuple" vs.toArray 0)).push (seqObj "list" #[] 0)).get? b=some o:=λb o hb e=>UE _ (UE _ ((s1.2 b hb).trans e));unfold ksk_tree;refine UC (listItems_at ho rfl ?_);refine UC (W9 ho rfl ?_ (by rw[UY,VB];omega) (Vw _));refine UC (seqEpoch_at ho1 rfl ?_);refine UC (Yp ?_ (by show vs.length<=_;rw[VB];omega));refine UC (Ya ?_ (Vw _));refine U8 ?_;have nk:∀b o,s.heap.get? b=some o->b≠((s.heap.update a (Obj.mapSeq λ_=>(#[]:YL))).push (seqObj "tuple" vs.toArray 0)).objs.size:=λb o e=>by rw[hkS];exact UT (Vx (UM e))
 refine DX (s:={s with heap:=((s.heap.update a (Obj.mapSeq λ_=>(#[]:YL))).push (seqObj "tuple" vs.toArray 0)).push (seqObj "list" #[] 0)}) (kS:=((s.heap.update a (Obj.mapSeq λ_=>(#[]:YL))).push (seqObj "tuple" vs.toArray 0)).objs.size) (e1:=e1)
  (UE _ (UE _ ho1)) (UL _ rfl) (by rw[hkS];exact WS (Vx ha)) hlen h64
  (λi v k hv hk h' tk C kp hC=>turn i v k hv hk h' tk C (λb o hb e=>kp b o hb (nk b o e) (up b o hb e)) hC)
  λh' tk c kp g=>h h' tk c (λb o hb e=>kp b o hb (nk b o e) (up b o hb e)) g
theorem DZ(hl:s.heap.IsList l vs.toArray)(hlen:kz.length=vs.length)(h64:vs.length<64)
 (turn:∀(i:Nat) (v:Value) (k:Int),vs[i]?=some v->kz[i]?=some k->∀(h':Heap) (tk:Nat) (C:Yy),(∀b o,s.heap.get? b=some o->h'.get? b=some o)->(∀t tk',C (.int k t) {s with heap:=h',toks:=tk'})->wpAny (model prog w) A.in1.in1 (call (.builtin f) [v]) C (λ_ _=>False) {s with heap:=h',toks:=tk})
 (h:∀h' tk c,(∀b o,s.heap.get? b=some o->h'.get? b=some o)->h'.get? (#[2]+1)=some (seqObj "list" (uI kz vs Value.none).toArray c)->Q (.ref (#[2]+1)) {s with heap:=h',toks:=tk}) :
  wpAny (model prog w) A (call (.builtin "sorted") [.ref l] [(Str.ofString "key",.builtin f),(Str.ofString "reverse",.bool true)]) Q E s:=by
 refine call_function_entry_kw kind_sorted plain_sorted entry_sorted (ksk_s2 _ _ _) ?_;unfold Builtin.«sorted»;refine UC (m:=checkCount "sorted" 1 1 _) (UD ?_);refine UC (collect_list hl ?_ (by grind[sizeLine_eq]));refine UC (Ya ?_ (by rw[VB];omega));have hsz:((s.heap.push (seqObj "list" #[] 0)).update #[2] (Obj.mapSeq (·++vs.toArray))).objs.size=#[2]+1:=by rw[Xl,size_push']
 have hoL:(((s.heap.push (seqObj "list" #[] 0)).update #[2] (Obj.mapSeq (·++vs.toArray))).push (seqObj "list" vs.toArray 0)).get? (#[2]+1)=some (seqObj "list" vs.toArray 0):=by rw[<- hsz];exact UL _ rfl
 have keep:∀b o,s.heap.get? b=some o->(((s.heap.push (seqObj "list" #[] 0)).update #[2] (Obj.mapSeq (·++vs.toArray))).push (seqObj "list" vs.toArray 0)).get? b=some o:=λb o q=>by have hlt:b<#[2]:=UM q;rw[V8 _ _ _ (by rw[hsz];exact UT (Vx hlt)),Yg _ _ _ _ (UT hlt),V8 _ _ _ (UT hlt)];exact q
 show wpAny _ _ _ _ _ {s with heap:=((s.heap.push (seqObj "list" #[] 0)).update #[2] (Obj.mapSeq (·++vs.toArray))).push (seqObj "list" vs.toArray 0)};rw[hsz];have nl:∀b o,s.heap.get? b=some o->b≠#[2]+1:=λb o e=>UT (Vx (UM e));refine UC (U8 (wpAny_call_entry_kw slot_list_sort ⟨_,hoL,rfl⟩ entry_list_sort ?body (ksk_l2 _ _ _)))
 case body=>
  show wpAny (model prog w) A.in1.in1 (Builtin.«list.sort» ⟨[.ref (#[2]+1)],[(Str.ofString "key",.builtin f),(Str.ofString "reverse",.bool true)]⟩) _ _ _;rw[ksk_t5]
  refine DY (s:={s with heap:=((s.heap.push (seqObj "list" #[] 0)).update #[2] (Obj.mapSeq (·++vs.toArray))).push (seqObj "list" vs.toArray 0)}) hoL hlen h64
   (λi v k hv hk h' tk C kp hC=>turn i v k hv hk h' tk C (λb o e=>kp b o (nl b o e) (keep b o e)) hC) λh' tk c kp g=>⟨_,rfl,?_⟩
  exact UD ⟨_,rfl,h h' tk c (λb o e=>kp b o (nl b o e) (keep b o e)) g⟩
end
end PySem.W
namespace Ml
open PySem PySem.Spec L2 PyProof.Rows
section
variable {X:Cx} {E:XK} {m:ME} {e c:Expr} {p1 p2 p3 p4 p5 pos:Pos} {k:Nat}
def zB:PyData->Int
 |.tuple ds=>ds.length
 |_=>0
def Mg(kz:List Int):List Nat:=((PySem.W.yF kz.reverse).map λi=>kz.length-1-i).reverse
theorem Pz:∀i∈Mg kz,i<kz.length:=by
 intro i hi;unfold Mg at hi;rw[List.mem_reverse]at hi;obtain⟨j,hj,rfl⟩:=U2.mp hi;have:=Vm.mp ((PySem.W.lV _).mem_iff.mp hj)
 grind
theorem BX{β:Type}{vs:List β}(h:kz.length=vs.length)(z:β):PySem.W.uI kz vs z=(Mg kz).map λi=>vs.getD i z:=by
 unfold PySem.W.uI Mg;rw[List.map_reverse,W4];congr 1;refine List.map_congr_left λi hi=>?_;have:=Vm.mp ((PySem.W.lV _).mem_iff.mp hi)
 grind
def FD(ds:YD):YD:=(Mg (ds.map zB)).map λi=>ds.getD i .none
theorem wo(ds:YD):(FD ds).Perm ds:=by
 unfold FD;rw[<- BX (by simp)];refine(List.reverse_perm _).trans ?_;have h1:=(PySem.W.lV (ds.map zB).reverse).map λi=>ds.reverse.getD i .none;have h2:=iY PyData.none ds.reverse
 grind
def Ac:Fn:=λxs h=>match xs with
 | [x]=>match listOf x h with
  |some ds=>if ds.all fU&&decide (ds.length<64)then .ok (.dat (.list (FD ds))) h else .bad
  |Option.none=>.bad
 |_=>.bad
theorem Jq(hm:X.mg "sorted" = none)(hm2:X.mg "len" = none){cp:Nat}(ha:DA X E ma [e])(hg:Gl X "sorted" := by rfl)(hg2:Gl X "len" := by rfl)(hs:starEach [e] X.env=[(false,eval e X.env)]:=by rfl) :
  DE X E (af Ac ma) (.Call (.Name "sorted" p1) [e] [⟨some "key",.Name "len" p2,p3⟩,⟨some "reverse",.Constant (.bool true) cp p4,p5⟩] pos):=by
 simp only[bj,iV]at *;intro pins s σ H Q I ⟨θ,h,ρ,w,fr,p⟩;refine VL (lC I hg hm (by decide +kernel:bootBuiltins "sorted" = some (.builtin "sorted")) ?_);refine callWith_kw (bE (ha pos pins s σ H (λvs H1=>∃θ1 h1 ds,W X.G θ1 h1 H1/\aO X.G θ1 H1 ds vs/\aA X.G (qi X.G E) θ1 H1 (Ac ds h1) (Ml.KV X.G Q)) I ⟨θ,h,ρ,w,fr,(aA.bind p).mono λds θ1 h1 H1 _ _ ⟨ev,w1,q1⟩ vs r1=>⟨θ1,h1,ds,w1,r1,q1⟩⟩) λus s1 ⟨vs,H1,I1,r1,θ1,h1,ds,w1,rs,q1⟩=>?_) (by rw[hs];rfl) (by rw[hs];rfl);refine kws_cons (lC I1 hg2 hm2 (by decide +kernel:bootBuiltins "len" = some (.builtin "len")) ?_);refine kws_cons (bE (Ht (X:=X) pins s1 σ H1 (λv H2=>v=.bl true/\H2=H1) I1 ⟨rfl,rfl⟩) λv s2 ⟨x,H2,I2,rx,ex,eh⟩=>?_);subst ex;subst eh;cases rx;refine kws_nil ?_;show wpAny _ _ (call (.builtin "sorted") us [(Str.ofString "key",.builtin "len"),(Str.ofString "reverse",.bool true)]) _ _ s2;unfold Ac at q1;split at q1
 ·cases rs with
  |cons rs rr=>
   cases rr;split at q1
   ·rename_i ys hy;split at q1
    ·rename_i ok;simp only[UH,Vi]at ok;obtain⟨a,vs,rfl,hL,rp,so⟩:=oq w1 rs hy
     cases r1 with
     |cons z r1=>
      cases r1;cases z;obtain⟨its,rv,pl,_⟩:=I2.list (ji.of (K:=X.K) hL);have hlen:vs.length=ys.length:=rp.length;have hlen2:its.length=ys.length:=by rw[<- rv.length];exact hlen
      refine PySem.W.DZ (kz:=ys.map zB) pl.isList (by simp[hlen2]) #[1] (λi v n hv hn h' tk C kp hC=>?_) λh' tk c kp g=>?_
      ·have hi:i<ys.length:=by rw[<- hlen2];exact(UN.mp hv).1
       have I3:Inv X pins σ _ {s2 with heap:=h',toks:=tk}:=I2.kept kp;obtain⟨x,hx,rx⟩:=rp.get' (i:=i) (UK hi);obtain⟨u,hu,ru⟩:=rv.get hx;rw[hv]at hu;cases hu;have hT:=UW.mp ok.1 _ (X4 hi);rw[Vo,UK hi]at hn;cases hn;generalize ys[i]=y at rx hT hC
       cases y with
       |tuple es=>
        obtain⟨b,ws,rfl,hb,rw1⟩:=rx;cases ru;obtain⟨its2,rv2,pt,hz2⟩:=I3.tuple (gA.of (ax _ _ _ _ hb));have e1:its2.length=es.length:=by rw[<- rv2.length];exact rw1.length
        have hl:=rW;have hz3:=rv2.length;refine len_tuple pt (by simp only[UY];omega) ?_;have:=hC (tk+1) (tk+1+1);simpa [zB,e1]using this
       |_=>simp[fU]at hT
      ·have ge:s2.heap.objs.size<=s2.heap.objs.size+1:=Wo _;have nn:=I2.hok.fresh ge;rw[BX (by simp[hlen2])]at g;have hin:∀i∈Mg (ys.map zB),i<vs.length:=λi hi=>by have:=Pz i hi;simpa [hlen]using this
       have hz:((Mg (ys.map zB)).map λi=>vs.getD i .non).length<=sizeLine:=by have:=(wo ys).length_eq;unfold FD at this;rw[UX]at this ⊢;rw[this];exact UO (Xp ok.2) (by decide)
       obtain⟨e1,w2,g2⟩:=w1.put (o:=.lst ((Mg (ys.map zB)).map λi=>vs.getD i .non)) nn;refine⟨.ref _,_,I2.laid (t':=tk) (o:=.lst ((Mg (ys.map zB)).map λi=>vs.getD i .non)) kp ge ⟨hz,_,c,si rv _ hin,by simpa [PyProof.Rows.seqObj]using g⟩,rfl,q1 _ _ e1 w2 _ ⟨⟨_,_,rfl,g2,(sj rp .none _ hin).same e1.same⟩,?_⟩⟩;exact sJ (wo ys).symm so
    ·exact q1.elim
   ·exact q1.elim
 ·exact q1.elim
end
end Ml
namespace Ml
open PySem
noncomputable def sN:MS:=aS (bP 1 (Ds ah))
  (aS (ie (aH (af Ac (aa (af dF (aa (ab 0) ah)) ah))) (aq 2) (jq (eI (aR (af xO (aa (Jn 1 (ab 1) (aq 0) cM (af ik (aa (ab 3) (aa (ab 0) ah)))) ah)))) (iT (GU oh (ab 1) (ab 2))) bM))
  (bw (af et (aa (ab 1) ah))))
def sO:Fn:=aY 1 3 sN
def eW:Fn:=kK sO
def xT:MS:=bw (bR 1 (aH (af b8 (aa (ab 0) ah))) (aq 0) (aR (af dA (aa (ab 1) (aa (ab 0) ah)))) (ab 0))
def g9:Fn:=aY 1 1 xT
def Ad:YD:=[.str "grounded",.str "preferred",.str "stable",.str "standing",.str "whole"]
def Ae:MS:=jq (aI (ao gF (ab 0) (RV Ad))) zX bM
def lW:Fn:=aY 1 1 Ae
end Ml
namespace L2
open PySem PySem.Spec PyProof.Rows
noncomputable def Jr(K:YG)(mg:YC)(a:Addr)(fs:List (Str×Str)):Prop:=
 ∃(o:Obj) (es:YK) (ep:Nat),K.lookup a=some o/\o.ExactDict/\o.data=.dict es ep/\(es.all λe=>isExactStrKey e.key)=true /\
  ∀k n,fs.lookup k=some n->∃f,mg n=some (.ref f)/\findBy (λk v=>v.isStr k) es k=some (.ref f)
theorem Mh(ho:s.heap.get? a=some o)(x:o.ExactDict)(hd:o.data=.dict es ep)
 (hall:(es.all λe=>isExactStrKey e.key)=true)(hf:findBy (λk v=>v.isStr k) es k=some v)(q:Q v {s with toks:=s.toks+1}):wpAny (model prog w) A (getItem (.ref a) (.str k tk)) Q E s:=by
 have ty:s.TypeIs (.ref a) "dict" := ⟨o,ho,x.1⟩;unfold getItem
 try with_reducible refine U8 ?_
 refine UC (wpAny_sequenceKey ty (by decide) ?_)
 refine UC (Vd (name:=Str.ofString "__getitem__") ty slot_dict_getitem
  (U7 slot_dict_getitem ty entry_dict_getitem ?_ (args_dict_getitem _ _)))
 show wpAny _ _ (dictGet a (.str k tk) >>= _) _ _ s;refine UC ?_;unfold dictGet
 try with_reducible refine U8 ?_
 refine UC (wpAny_pyHash_str (UC (PyProof.Rows.KTD.kt_dictFind_strs (s:={s with toks:=s.toks+1}) ho hd hall ?_)));rw[findBy_of_findIdx?]at hf
 cases hi:es.findIdx? λe=>e.key.isStr k with
 |none=>rw[hi]at hf;cases hf
 |some i=>rw[hi]at hf;refine UC (XQ (s:={s with toks:=s.toks+1}) ho hd (UD ?_));have hf':Option.map (λx:DictEntry=>x.val) es[i]?=some v:=hf;rw[hf'];exact UD ⟨v,rfl,UD q⟩
section
variable {X:Cx} {o i:Expr} {pos:Pos} {td ty:TE}
def Rr(fs:List (Str×Str))(a:Addr)(mg:YC)(td ty:TE):TE:=λσ H Q=>td σ H λx H1=>ty σ H1 λy H2=>∃k n,x=.ref a/\y=.str k/\fs.lookup k=some n/\∀f,mg n=some (.ref f)->Q (.ref f) H2
theorem PB(kf:Jr X.K X.mg a fs)(ho:PE X o td)(hi:PE X i ty)(hs:OB i):PE X (.Subscript o i pos) (Rr fs a X.mg td ty):=by intro pins s σ H Q I h;refine Lx PySem.F.slot_dict_getitem.lookup hs (bE (ho pins s σ H _ I h) λu s1 ⟨x,H1,I1,rx,q1⟩=>bE (hi pins s1 σ H1 _ I1 q1) λiv s2 ⟨y,H2,I2,ry,k,n,ex,ey,lk,q2⟩=>?_);subst ex;subst ey;obtain rfl:u=Value.ref a:=rx;obtain⟨tk,rfl⟩:∃t,iv=Value.str k t:=ry;obtain⟨ob,es,ep,h1,h2,h3,h4,h5⟩:=kf;obtain⟨f,hf,hk⟩:=h5 k n lk;have g  := I2.vk a ob h1;exact⟨⟨ob,g,h2.1⟩,Mh g h2 h3 h4 hk ⟨.ref f,H2,I2.tok _,rfl,q2 f hf⟩⟩
end
def Nq(K:YG)(es:YK)(p:Str×Str):Bool:=match findBy (λk v=>v.isStr k) es p.1,PySem.W.nsIn K mainGlobals p.2 with
 |some (.ref f),some (some (.ref g))=>f==g
 |_,_=>false
def RZ(K:YG)(a:Addr)(fs:List (Str×Str)):Bool:=match K.lookup a with
 |some ⟨.type "dict",none,.dict es _,sl⟩=>sl.isEmpty&&(es.all λe=>isExactStrKey e.key)&&fs.all (Nq K es)
 |_=>false
theorem lookup_mem{fs:List (Str×Str)}(h:fs.lookup k=some n):(k,n)∈fs:=by
 induction fs with
 |nil=>cases h
 |cons p ps ih=>
  obtain⟨x,y⟩:=p;rw[We]at h
  cases q:k==x with
  |true=>rw[q]at h;cases h;rw[eq_of_beq q];exact UZ ..
  |false=>rw[q]at h;exact UI _ (ih h)
theorem Js{K:YG}(G:∀n v,PySem.W.nsIn K mainGlobals n=some (some v)->mg n=some v)(h:RZ K a fs=true):Jr K mg a fs:=by
 unfold RZ at h;split at h
 ·rename_i es ep sl e;simp only[UH]at h;obtain⟨⟨h1,h2⟩,h3⟩:=h;refine⟨_,es,ep,e,⟨rfl,rfl,?_⟩,rfl,h2,λk n hl=>?_⟩
  ·grind
  ·have:=UW.mp h3 _ (lookup_mem hl);unfold Nq at this;split at this
   ·grind
   grind
 grind
end L2
namespace Ml
open PySem PySem.Spec L2
def yG(fs:List (Str×Str))(m:ME):ME:=λρ h=>(m ρ h).bind λx h1=>match x with
 |.dat (.str k)=>match fs.lookup k with
  |some n=>.ok (.fn n) h1
  |Option.none=>.bad
 |_=>.bad
section
variable {X:Cx} {E:XK} {m:ME} {e:Expr} {x:Str} {pos p:Pos}
theorem FE(hm:∃a,X.mg x=some (.ref a)/\Jr X.K X.mg a fs)(he:DE X E m e)(hs:OB e)(hg:Gl X x:=by rfl)(hd:(x==("__debug__" : Str))=false:=by decide):DE X E (yG fs m) (.Subscript (.Name x p) e pos):=by
 simp only[bj]at *;obtain⟨a,hm,kf⟩:=hm
 exact PE.imp (PB kf (zk (v:=.ref a) hg hm rfl hd) he hs) (by
  rintro σ H Q ⟨θ,h,ρ,w,fr,q⟩;refine⟨θ,h,ρ,w,fr,(aA.bind q).mono λd θ1 h1 H1 _ _ ⟨ev,w1,q1⟩ v r=>?_⟩
  cases d with
  |dat z=>
   cases z with
   |str k=>
    cases el:fs.lookup k with
    |none=>simp only[el]at q1;exact q1.elim
    |some n=>simp only[el]at q1;exact⟨k,n,rfl,r.1,el,λf hf=>q1 θ1 H1 Ev.refl w1 _ ⟨f,hf,rfl⟩⟩
   |_=>trivial
  |_=>exact q1.elim)
end
def lY(i:Nat)(fs:List (Str×Fn))(ma:MA):ME:=λρ h=>match ρ[i]? with
 |some (some (.fn n))=>match fs.lookup n with
  |some F=>af F ma ρ h
  |Option.none=>.bad
 |_=>.bad
inductive pH (P:YN) (w:World) (K:YG) (mg:YC) (base:Heap) (k:Nat):List (Str×Fn)->Prop
 |nil:pH P w K mg base k []
 |cons {n:Str} {ps:YH} {F:Fn} {fs:List (Str×Fn)}:bU P w K mg base n ps k F->pH P w K mg base k fs->pH P w K mg base k ((n,F)::fs)
theorem pH.get:∀{fs:List (Str×Fn)} {n:Str} {F:Fn},pH P w K mg base k fs->fs.lookup n=some F->∃ps,bU P w K mg base n ps k F
 |_,n,F,.cons (n:=m) h t,e=>by
  rw[We]at e
  cases q:n==m with
  |true=>
   rw[q]at e
   grind
  |false=>rw[q]at e;exact t.get e
section
variable {X:Cx} {E:XK} {x:Str} {k i:Nat} {fs:List (Str×Fn)} {e:Expr} {es:YI} {ma:MA} {p pos:Pos}
theorem Jt(hs:pH X.prog X.w X.K X.mg X.base k fs)(hx:Passes (uV X.prog X.w) X E)(hr:cE k X.A)(ha:DA X E ma (e::es))(hN:X.N[i]?=some x)(hv:Hr X.env.scope x)(hdb:(x==("__debug__" : Str))=false:=by decide)(hcd:(x==("__classdict__" : Str))=false:=by decide)
 (he:starEach (e::es) X.env=(false,eval e X.env)::starEach es X.env:=by rfl)(hpl:(backTo pos (starEach es X.env)).any (·.1)=false:=by rfl):DE X E (lY i fs ma) (.Call (.Name x p) (e::es) [] pos):=by
 simp only[bj,iV]at *;rintro pins s σ H Q I ⟨θ,h,ρ,w,fr,q⟩;unfold lY at q
 cases e1:ρ[i]? with
 |none=>rw[e1]at q;exact q.elim
 |some o=>
  cases o with
  |none=>rw[e1]at q;exact q.elim
  |some d=>
   rw[e1]at q;obtain⟨v,g1,g2⟩:=fr.2 i d e1
   cases d with
   |fn n=>
    cases el:fs.lookup n with
    |none=>simp only[el]at q;exact q.elim
    |some F=>
     simp only[el]at q;obtain⟨f,hf,rfl⟩:=g2;obtain⟨ps,F'⟩:=hs.get el;obtain⟨f',fd,h1,h2,h3,h4⟩:=F'.has.ex;have ef:f'=f:=by have z:X.mg n=some (.ref f):=hf;rw[h1]at z;cases z;rfl
     subst ef;obtain⟨m,hn,hl⟩:=I.loc;obtain⟨u,r,l⟩:=hl i x _ hN g1 hv;obtain rfl:u=Value.ref f':=r;have fin:wpAny (model X.prog X.w) X.A (callWith pos (.ref f') [] (backTo pos (starEach (e::es) X.env)) (backToKw pos (keywordEach [] X.env))) (EP X pins σ Q) X.xe s:=PySem.W.callWith_K (h₀:=X.base) I.ok.mod.kin h2 (bE (ha pos pins s σ H _ I ⟨θ,h,ρ,w,fr,(aA.bind q).mono (by rintro xs θ1 h1 H1 _ _ ⟨ev,w1,p1⟩ vs r;exact show(IE X.G F) (vs++[]) H1 Q E from⟨θ1,h1,xs,w1,by simpa using r,p1⟩)⟩) (by rintro us s1 ⟨vs,H1,I1,r,q⟩;exact⟨I1.vk,HM h4 hr h3 .nil hx I1 r q⟩)) he hpl;rcases l with⟨hk,hm⟩|⟨hk,c,hc,hcell⟩
     ·exact VL (Yq (X7 I.ok.kind hk hn hm fin) hdb)
     ·rcases hk with hk|hk
      ·exact VL (Yq (Yc I.ok.kind hk hc hcell fin) hdb)
      ·exact VL (Yq (wpAny_loadName_free I.ok.kind hk hc hcell fin hcd) hdb)
   |_=>exact q.elim
theorem Ju(i:Nat)(hs:pH X.prog X.w X.K X.mg X.base k fs)(hx:Passes (uV X.prog X.w) X E)(hr:cE k X.A)(ha:DA X E ma (e::es))(hN:X.N[i]?=some x:=by rfl)(hv:Hr X.env.scope x:=by first|exact Or.inl rfl|exact Or.inr (Or.inl rfl)|exact Or.inr (Or.inr rfl))(hdb:(x==("__debug__" : Str))=false:=by decide)(hcd:(x==("__classdict__" : Str))=false:=by decide)
 (he:starEach (e::es) X.env=(false,eval e X.env)::starEach es X.env:=by rfl)(hpl:(backTo pos (starEach es X.env)).any (·.1)=false:=by rfl):DE X E (lY i fs ma) (.Call (.Name x p) (e::es) [] pos):=Jt hs hx hr ha hN hv hdb hcd he hpl
end
end Ml
namespace Ml
open PySem
def ox:List (Str×Str):=[("grounded", "grounded_lots"),("preferred", "preferred_lots"),("stable", "stable_lots"),("standing", "standing_lots"),("whole", "whole_lots")]
def Jv:MS:=aS (iT (af fO (aa (ab 0) ah)))
  (aS (iT (af lW (aa (ab 1) ah)))
  (aS (bP 2 (yG ox (ab 1)))
  (bw (lY 2 [("grounded_lots",fB),("preferred_lots",eW),("stable_lots",g9),("standing_lots",dF),("whole_lots",i9)] (aa (ab 0) ah)))))
def pI:Fn:=aY 2 3 Jv
def ub:MS:=bw (ao mQ (ab 2) (af pI (aa (ab 0) (aa (ab 1) ah))))
def j9:Fn:=aY 3 3 ub
def mK:MS:=jq (eI (aR (af fu (aa (ab 1) (aa (ao gU (ab 0) (aj (.int 0))) ah))))) zX bM
def fE:Fn:=aY 2 2 mK
def Jw:MS:=bw (eV (aa (ao gU (ab 0) (aj (.int 0))) (aa (af jt (aa (u7 pG (ao gU (ab 0) (aj (.int 1))) (ab 1)) ah)) ah)))
def il:Fn:=aY 2 2 Jw
def GX:MS:=aS (iT (af fO (aa (ab 0) ah)))
    (aS (iT (af fE (aa (ab 0) (aa (ab 1) ah))))
    (bw (af il (aa (ab 0) (aa (ab 1) ah)))))
def oy:Fn:=aY 2 2 GX
def qR:MS:=aS (bP 2 (aj (.list [.tuple []])))
    (aS (ie (aH (ab 0)) (aq 3) (aS (bP 4 (bR 1 (aH (ab 2)) (aq 0) cM (eV (fq (ab 0) (aa (ab 4) ah)))))
    (bP 2 (Dq (aI (ao mQ (ab 3) (ab 1))) (ab 4) (ao gv (ab 2) (ab 4))))))
    (bw (ab 2)))
def f6:Fn:=aY 2 5 qR
noncomputable def FF:MS:=aS (bP 2 (aj (.list [.tuple []])))
    (aS (Dt 9 (aI (ao Bj (ab 1) (aj (.int 0)))) (aS (bP 2 (pF 2 (aH (ab 2)) (aq 0) cM (aH (ab 2)) (aq 1) (xE (eI (aR (ab 0))) (aI (ao oLt (ao gU (ab 0) (aj (.int (-1)))) (ab 1)))) (eV (fq (ab 0) (aa (ab 1) ah)))))
    (Jj 1 (aj (.int 1)))))
    (bw (ab 2)))
def hE:Fn:=aY 2 3 FF
def eY:YD:=[.str "stable",.str "standing",.str "whole"]
def kR:MS:=aS (iT (af fO (aa (ab 0) ah)))
    (aS (iT (af j8 (aa (ab 0) (aa (aj (.int 5)) ah))))
    (aS (iT (af j7 (aa (ab 0) (aa (ab 1) ah))))
    (jq (aI (ao gF (ab 2) (RV eY))) zX bM)))
def eZ:Fn:=aY 3 3 kR
noncomputable def ng:MS:=aS (jq (vm (aI (ao v8 (ab 0) (aj (.bool true)))) (aI (ao v8 (ab 0) (aj (.bool false))))) zX bM)
    (jq (xE (eI (aR (Ih (vK isInt) (ab 1)))) (xE (aR (Ih (vK Nh) (ab 1))) (eI (aI (lR oLe oLe (aj (.int 0)) (ab 1) (aj (.int 4))))))) zX bM)
def f7:Fn:=aY 2 2 ng
def kT:List (Str×Str):=[("stable", "is_stable"),("standing", "is_standing"),("whole", "is_whole")]
noncomputable def qS:MS:=aS (bP 3 (yG kT (ab 2)))
    (aS (ie (aH (ab 1)) (aq 4) (jq (vm (aR (af gZ (aa (ab 0) (aa (ab 4) ah)))) (aR (lY 3 [("is_stable",dA),("is_standing",cZ),("is_whole",fJ)] (aa (ab 0) (aa (ab 4) ah))))) (bw (aj (.bool true))) bM))
    (bw (aj (.bool false))))
def gb:Fn:=aY 3 5 qS
noncomputable def pJ:MS:=aS (iT (af eZ (aa (ab 0) (aa (ab 1) (aa (ab 2) ah)))))
    (aS (iT (af f7 (aa (ab 3) (aa (ab 4) ah))))
    (aS (oH (jO (bS (aq 5) (bS (aq 6) jN))) (ab 0))
    (aS (bP 7 (bR 2 (aH (ab 6)) (jO (bS (aq 0) (bS (aq 1) jN))) (vm (aI (ao mQ (ab 0) (ab 3))) (aI (ao mQ (ab 1) (ab 3)))) (eV (aa (ab 0) (aa (ab 1) ah)))))
    (aS (bP 8 (pF 2 (aH (ab 5)) (aq 0) cM (aH (ab 7)) (aq 1) (xE (aI (ao gF (ab 0) (ab 3))) (aI (ao gF (ab 1) (ab 3)))) (eV (aa (ab 0) (aa (ab 1) ah)))))
    (aS (bP 9 (Dq (aR (ab 3)) (uF (aa (ab 1) ah)) (af f6 (aa (ab 5) (aa (ab 1) ah)))))
    (aS (ie (ic (aa (ao gv (ao xN (ab 4) (af iI (aa (ab 7) ah))) (aj (.int 1))) ah)) (aq 10) (ie (aH (af hE (aa (ab 8) (aa (ab 10) ah)))) (aq 11) (aS (bP 12 (af et (aa (uF (fq (ab 7) (fq (ab 11) ah))) ah)))
    (jq (aR (af gb (aa (af il (aa (ab 0) (aa (ab 12) ah))) (aa (ab 9) (aa (ab 2) ah))))) (bw (af jt (aa (ab 12) ah))) bM))))
    (bw (aj .none))))))))
def bV:Fn:=aY 5 13 pJ
def uc:MS:=aS (jq (aI (ao oLt (ab 1) (af iI (aa (ab 0) ah)))) (bw (ao gU (ab 0) (ab 1))) bM)
    (bw (aj (.int 0)))
def ka:Fn:=aY 2 2 uc
noncomputable def wq:MS:=aS (bP 2 (aj (.list [.int 48271,.int 69621,.int 16807,.int 39373,.int 30269,.int 40014,.int 40692,.int 50021,.int 61687,.int 71993,.int 83869,.int 95561,.int 30307])))
    (aS (bP 3 (ao iZ (ao gv (ao oMod (ab 0) (aj (.int 2147483647))) (aj (.int 12345))) (ao gU (ab 2) (ao oMod (ab 1) (aj (.int 13))))))
    (aS (bP 3 (ao gv (ao gv (ab 3) (ao iZ (aj (.int 977)) (ab 1))) (ao iZ (aj (.int 7919)) (ao jX (ab 1) (aj (.int 13))))))
    (aS (bP 3 (ao oMod (ab 3) (aj (.int 1000000007))))
    (bw (ao jX (ao oMod (ao gv (ao iZ (ab 3) (ab 3)) (ao iZ (aj (.int 48271)) (ab 1))) (aj (.int 1000000007))) (aj (.int 7)))))))
def gH:Fn:=aY 2 4 wq
noncomputable def wt:MS:=aS (bP 3 (af ka (aa (ab 0) (aa (ab 1) ah))))
    (aS (jq (vm (aI (ao oEq (ao oMod (ab 3) (aj (.int 2))) (aj (.int 0)))) (aI (ao oEq (ab 2) (aj (.int 0))))) (bw (Ds (aa (ao jX (af LM (aa (ab 3) ah)) (aj (.int 2))) ah))) bM)
    (aS (bP 4 (aj (.int 0)))
    (aS (ie (ic (aa (aj (.int 90)) ah)) (aq 5) (bP 4 (ao gv (ao iZ (ab 4) (aj (.int 142857143))) (af gH (aa (ab 3) (aa (ao gv (ao iZ (aj (.int 90)) (ab 2)) (ab 5)) ah))))))
    (bw (Ds (aa (ab 4) ah))))))
def fK:Fn:=aY 3 6 wt
def ud:MS:=aS (oH (jO (bS (aq 2) (bS (aq 3) jN))) (af uX (aa (ao gU (ab 0) (aj (.int 0))) (aa (ab 1) ah))))
    (aS (oH (o4 (ab 0) (aj (.int 0))) (ab 2))
    (bw (ab 3)))
def aN:Fn:=aY 2 4 ud
noncomputable def D0:MS:=aS (zF [2,3,4] (aa (af aN (aa (ab 0) (aa (ao gv (ab 1) (aj (.int 1))) ah))) (aa (af aN (aa (ab 0) (aa (aj (.int 7)) ah))) (aa (Fy true) ah))))
    (aS (bP 5 (Ds (aa (aj (.list [.str "a",.str "b",.str "c",.str "d",.str "e",.str "f",.str "g"])) ah)))
    (aS (iT (GU oh (ab 5) (aj (.list [.str "ann",.str "bo",.str "c",.str "dora",.str "elias",.str "f",.str "gwenda"]))))
    (aS (bP 5 (ao gU (ab 5) (af aN (aa (ab 0) (aa (aj (.int 2)) ah)))))
    (aS (ie (ic (aa (ao gU (uF (aa (aj (.int 0)) (aa (ab 2) (aa (ao iZ (aj (.int 2)) (ab 2)) (aa (ao iZ (aj (.int 3)) (ab 2)) (aa (ab 2) (aa (ao jX (ab 2) (aj (.int 2))) (aa (ao jX (ab 2) (aj (.int 2))) ah)))))))) (ab 3)) ah)) (aq 6) (aS (zF [7,8] (aa (ao gU (ab 5) (af aN (aa (ab 0) (aa (ab 2) ah)))) (aa (ao gU (ab 5) (af aN (aa (ab 0) (aa (ab 2) ah)))) ah)))
    (jq (xE (aI (ao uW (ab 7) (ab 8))) (aI (ao oEq (af aN (aa (ab 0) (aa (aj (.int 3)) ah))) (aj (.int 0))))) (aS (oH (o4 (ab 4) (eV (aa (ab 7) (aa (ab 8) ah)))) (aj (.bool true)))
    (oH (o4 (ab 4) (Dq (aI (ao oEq (ab 3) (aj (.int 4)))) (eV (aa (ab 8) (aa (ab 7) ah))) (eV (aa (ab 7) (aa (ab 8) ah))))) (aj (.bool true)))) bM)))
    (aS (ie (ic (aa (ao xN (ao iZ (ab 2) (af zI (aa (ao Bj (ab 3) (aj (.int 4))) ah))) (af zI (aa (mI (ao oEq (ab 3) (aj (.int 6))) (ao Bj (ab 2) (aj (.int 0)))) ah))) ah)) (aq 9) (oH (o4 (ab 4) (eV (aa (ao gU (ab 5) (ab 9)) (aa (ao gU (ab 5) (ao oMod (ao gv (ab 9) (aj (.int 1))) (ab 2))) ah)))) (aj (.bool true))))
    (bw (eV (aa (af jt (aa (Qj (ab 5) ym (yn (ab 2))) ah)) (aa (af jt (aa (af et (aa (af Bk (aa (ab 4) ah)) ah)) ah)) ah)))))))))
def pK:Fn:=aY 2 10 D0
def pM:Fn:=kK pK
noncomputable def iK:MS:=aS (jq (aR (ab 3)) (bw (af j9 (aa (ab 0) (aa (ab 2) (aa (ab 1) ah))))) bM)
  (bw (ao uW (bR 1 (aH (af pI (aa (ab 0) (aa (ab 2) ah)))) (aq 0) (aI (ao oEq (bR 1 (aH (ab 2)) (aq 0) (aI (ao gF (ab 0) (ab 1))) (ab 0)) (aj (.list [])))) (aj (.int 1))) (aj (.list []))))
def bD:Fn:=aY 4 4 iK
noncomputable def gc:MS:=aS (bP 4 (gG 3 bV (aa (ab 0) (aa (ab 1) (aa (ab 2) ah))) (aa (ab 3) (aa (aj (.int 2)) ah))))
  (aS (jq (aI (ao uW (ao oEq (ab 4) (aj (.tuple []))) (af bD (aa (ab 0) (aa (ab 1) (aa (ab 2) (aa (ab 3) ah))))))) (bw (aj (.bool false))) bM)
  (aS (jq (aI (ao Nl (ab 4) (aj .none))) (bw (ao Nl (gG 3 bV (aa (ab 0) (aa (ab 1) (aa (ab 2) ah))) (aa (ab 3) (aa (aj (.int 1)) ah))) (aj .none))) bM)
  (aS (jq (eI (aR (af bD (aa (af oy (aa (ab 0) (aa (ab 4) ah))) (aa (ab 1) (aa (ab 2) (aa (ab 3) ah))))))) (bw (aj (.bool false))) bM)
  (aS (ie (ic (aa (aj (.int 3)) ah)) (aq 5) (aS (bP 6 (Dq (aI (ao Q6 (ab 5) (af iI (aa (ab 4) ah)))) (ab 4) (aj .none)))
  (jq (aI (ao uW (gG 3 bV (aa (ab 0) (aa (ab 1) (aa (ab 2) ah))) (aa (ab 3) (aa (ab 5) ah))) (ab 6))) (bw (aj (.bool false))) bM)))
  (bw (aj (.bool true)))))))
def bK:Fn:=aY 4 7 gc
def qT:MS:=aS (bP 4 (gG 3 bV (aa (ab 0) (aa (ab 1) (aa (ab 2) ah))) (aa (ab 3) (aa (aj (.int 2)) ah))))
    (bw (Dq (aI (ao Nl (ab 4) (aj .none))) (aj (.int 9)) (af iI (aa (ab 4) ah))))
def cG:Fn:=aY 4 5 qT
noncomputable def qU:MS:=aS (bP 1 (af pM (aa (ab 0) (aa (aj (.int 4)) ah))))
  (aS (bP 2 (af jt (aa (bR 1 (aH (ao gU (ab 1) (aj (.int 0)))) (aq 0) (aI (ao oEq (af aN (aa (ab 1) (aa (aj (.int 2)) ah))) (aj (.int 1)))) (ab 0)) ah)))
  (aS (ie (aH (aj (.list [.str "standing",.str "whole",.str "stable"]))) (aq 3) (aS (ie (aH (aj (.list [.bool true,.bool false]))) (aq 4) (jq (eI (aR (af bK (aa (ab 1) (aa (ab 2) (aa (ab 3) (aa (ab 4) ah))))))) (bw (aj (.bool false))) bM))
  (jq (aI (ao Bj (af cG (aa (ab 1) (aa (ab 2) (aa (ab 3) (aa (aj (.bool false)) ah))))) (af cG (aa (ab 1) (aa (ab 2) (aa (ab 3) (aa (aj (.bool true)) ah))))))) (bw (aj (.bool false))) bM)))
  (aS (bP 5 (bR 1 (aH (aj (.list [.str "standing",.str "whole",.str "stable"]))) (aq 0) cM (af cG (aa (ab 2) (aa (ab 3) (aa (ab 0) (aa (aj (.bool true)) ah)))))))
  (bw (lR oLe oLe (ao gU (ab 5) (aj (.int 0))) (ao gU (ab 5) (aj (.int 1))) (ao gU (ab 5) (aj (.int 2))))))))
def ja:Fn:=aY 1 6 qU
noncomputable def Rt:MS:=aS (ie (ic (aa (af Il (aa (aj (.int 1)) (aa (af Im (aa (af iI (aa (ab 0) ah)) (aa (aj (.int 2)) ah))) ah))) ah)) (aq 1) (ie (ic (aa (aj (.int 2)) ah)) (aq 2) (jq (eI (aR (af ja (aa (af fK (aa (ab 0) (aa (ab 1) (aa (ab 2) ah)))) ah)))) (bw (aj (.bool false))) bM)))
  (bw (aj (.bool true)))
def FG:Fn:=aY 1 3 Rt
end Ml
namespace Ru
open PySem
abbrev pN(xs:YM):Prop:=xs.toList.Pairwise (· < ·)
theorem va(r:pN xs)(hi:i<k)(hk:k<xs.size):xs[i]'#[1]<xs[k]:=by
 have:=WG.mp r i k (by simpa using(by omega:i<xs.size)) #[1] hi
 simp_all
theorem wu(r:pN xs)(j:Nat):∀(fuel lo hi:Nat),lo<=hi->hi<=xs.size->hi-lo<=fuel->(∀i (h:i<xs.size),i<lo->xs[i]<j)->(∀i (h:i<xs.size),hi<=i->j<=xs[i]) ->
  (∀i (h:i<xs.size),i<SetTable.below.go xs j fuel lo hi->xs[i]<j)/\(∀i (h:i<xs.size),SetTable.below.go xs j fuel lo hi<=i->j<=xs[i])/\SetTable.below.go xs j fuel lo hi<=xs.size
 |0,lo,hi,h1,h2,h3,a,b=>by
  grind[SetTable.below.go]
 |fuel+1,lo,hi,h1,h2,h3,a,b=>by
  simp only[SetTable.below.go];split
  ·rename_i hlt;have hm:(lo+hi) / 2<xs.size:=by omega
   simp only[Array.getD,hm,dif_pos];split
   ·rename_i hx;refine wu r j fuel _ hi #[1] h2 #[1] (λi h hi'=>?_) b;by_cases e:i=(lo+hi) / 2
    ·subst e;exact hx
    ·have:=va r (i:=i) (k:=(lo+hi) / 2) #[1] hm;have hx':xs[(lo+hi) / 2]<j:=hx;omega
   ·rename_i hx;refine wu r j fuel lo _ #[1] #[1] #[1] a λi h hi'=>?_;have hx':¬ xs[(lo+hi) / 2]<j:=hx;by_cases e:i=(lo+hi) / 2
    ·subst e;omega
    ·have:=va r (i:=(lo+hi) / 2) (k:=i) #[1] h;omega
  grind
theorem jy(r:pN xs)(j:Nat):(∀i (h:i<xs.size),i<SetTable.below xs j->xs[i]<j)/\(∀i (h:i<xs.size),SetTable.below xs j<=i->j<=xs[i])/\SetTable.below xs j<=xs.size:=
 wu r j xs.size 0 xs.size #[1] #[1] #[1] (λ_ _ h=>by omega) λ_ _ h=>by omega
theorem below_at(r:pN xs)(h:xs[i]?=some j):SetTable.below xs j=i:=by
 obtain⟨hi,e⟩:=VA.mp h;obtain⟨a,b,c⟩:=jy r j;by_cases h1:i<SetTable.below xs j
 ·grind
 ·by_cases h2:SetTable.below xs j=i
  ·exact h2
  ·have hb:SetTable.below xs j<xs.size:=by omega
   have:=b _ hb (UJ _);have:=va r (i:=SetTable.below xs j) #[1] hi;omega
theorem jz(r:pN xs):j∈xs.toList<->xs[SetTable.below xs j]?=some j:=by
 constructor
 ·intro h;obtain⟨i,hi,e⟩:=WU h;have:xs[i]?=some j:=by rw[<- Vb,UK hi,e]
  rw[below_at r this];grind
 ·intro h;rw[<- Vb]at h;exact U6 h
theorem lZ(r:pN xs):SetTable.has xs j=true<->j∈xs.toList:=by unfold SetTable.has;rw[jz r,Yt]
theorem oz{t:YO}(r:pN t.place):t.slot j=.live i<->t.place[i]?=some j:=by
 unfold SetTable.slot;constructor
 ·grind
 ·intro h;have e:=below_at r h
  grind
theorem gI{t:YO}(r:pN t.place)(rd:pN t.dummies):t.slot j=.empty<->j∉t.place.toList/\j∉t.dummies.toList:=by
 rw[jz r,<- lZ rd]
 grind[SetTable.slot]
theorem D1{t:YO}(r:pN t.place)(rd:pN t.dummies):t.slot j=.dummy->j∈t.dummies.toList:=by
 rw[<- lZ rd]
 grind[SetTable.slot]
theorem pO(r:pN xs)(h:j∉xs.toList):pN (SetTable.insertAt xs (SetTable.below xs j) j):=by
 obtain⟨a,b,c⟩:=jy r j;unfold pN;rw[Xu];have r':xs.toList.Pairwise (· < ·):=r;rw[<- WC (SetTable.below xs j) xs.toList,Wi]at r';obtain⟨r1,r2,r3⟩:=r';rw[Wi];refine⟨r1,Vq.mpr ⟨λx hx=>?_,r2⟩,λx hx y hy=>?_⟩
 ·obtain⟨i,hi,e⟩:=WU hx;simp at hi e;have:=b (SetTable.below xs j+i) #[1] #[1];have hne:xs[SetTable.below xs j+i]'#[1]≠j:=λz=>h (by rw[<- z];simp);omega
 ·have hxj:x<j:=by
   obtain⟨i,hi,e⟩:=WU hx;simp at hi e;have:=a i #[1] #[1];omega
  rcases UP.mp hy with rfl|hy
  ·exact hxj
  ·exact r3 x hx y hy
theorem sP(r:pN xs)(p:Nat):pN (SetTable.eraseAt xs p):=by
 unfold pN SetTable.eraseAt;simp;have r':xs.toList.Pairwise _:=r;rw[<- WC p xs.toList,Wi]at r';rw[Wi];refine⟨r'.1,?_,λx hx y hy=>?_⟩
 ·grind
 ·refine r'.2.2 x hx y ?_;have:=Xi hy;rw[<- List.drop_drop]at this;exact List.mem_of_mem_drop this
structure Pc where
 j:Nat
 more:Nat
 i:Nat
 pt:Nat
def pc(p:SetTable.Probe):Pc:=⟨p.j,p.more,p.i,p.perturb⟩
def eF(mask i pt:Nat):Pc:=⟨i,SetTable.runEnd mask i-i,i,pt⟩
def FH(mask:Nat)(c:Pc):Pc:=eF mask (SetTable.leap mask c.i c.pt).1 (SetTable.leap mask c.i c.pt).2
def step(mask:Nat)(c:Pc):Pc:=if c.more>0 then⟨c.j+1,c.more-1,c.i,c.pt⟩else FH mask c
theorem D2(t:YO)(p:SetTable.Probe):pc (t.advance p)=step t.mask (pc p):=by unfold SetTable.advance step pc;split<;>rfl
theorem ko(t:YO)(p:SetTable.Probe):(t.advance p).dummy=p.dummy:=by
 grind[SetTable.advance]
def steps(mask:Nat):Nat->Pc->Pc
 |0,c=>c
 |n+1,c=>steps mask n (step mask c)
theorem oA(mask:Nat):∀(m n:Nat) (c:Pc),steps mask (m+n) c=steps mask n (steps mask m c)
 |0,n,c=>by simp[steps]
 |m+1,n,c=>by rw[show m+1+n=(m+n)+1 by omega];exact oA mask m n _
theorem Af(mask:Nat):∀(k:Nat) (c:Pc),c.more=k->steps mask (k+1) c=FH mask c
 |0,c,h=>by simp[steps,step,h]
 |k+1,c,h=>by
  have e:step mask c=⟨c.j+1,c.more-1,c.i,c.pt⟩:=by grind[step]
  simp[steps];have:=Af mask k (step mask c) (by simp_all);simp[steps]at this;rw[this,e];rfl
theorem yH(mask i:Nat):SetTable.runEnd mask i-i<=9:=by grind[SetTable.runEnd]
def gz(mask:Nat):Nat->Pc->Pc
 |0,c=>c
 |n+1,c=>gz mask n (FH mask c)
theorem ue(mask:Nat):∀(n:Nat) (c:Pc),c.more<=9->∃m,m<=10*n/\steps mask m c=gz mask n c
 |0,c,_=>⟨0,by omega,rfl⟩
 |n+1,c,h=>by obtain⟨m,hm,e⟩:=ue mask n (FH mask c) (yH _ _);refine⟨c.more+1+m,by omega,?_⟩;rw[oA,Af mask c.more c rfl,e];rfl
theorem sQ(mask:Nat):∀(m n:Nat) (c:Pc),gz mask (m+n) c=gz mask n (gz mask m c)
 |0,n,c=>by simp[gz]
 |m+1,n,c=>by rw[show m+1+n=(m+n)+1 by omega];exact sQ mask m n _
theorem BY(mask:Nat):∀(n:Nat) (c:Pc),(gz mask n c).pt=c.pt / 32^n
 |0,c=>by simp[gz]
 |n+1,c=>by simp[gz];rw[BY mask n];show c.pt / 32 / 32^n=_;rw[Nat.div_div_eq_div_mul,Nat.pow_succ,Nat.mul_comm]
def GY(m:Nat):Nat->Nat->Nat
 |0,i=>i
 |n+1,i=>GY m n ((i*5+1) % m)
theorem vb(m:Nat):∀(a b i:Nat),GY m (a+b) i=GY m b (GY m a i)
 |0,b,i=>by simp[GY]
 |a+1,b,i=>by rw[show a+1+b=(a+b)+1 by omega];exact vb m a b _
def cover(m:Nat):Nat->Nat->Nat->Nat
 |0,_,acc=>acc
 |n+1,i,acc=>cover m n ((i*5+1) % m) (acc ||| 1 <<< i)
theorem yI(m:Nat):∀(n i acc e:Nat),(cover m n i acc).testBit e=true->acc.testBit e=true\/∃a,a<n/\GY m a i=e
 |0,i,acc,e,h=>.inl h
 |n+1,i,acc,e,h=>by
  rcases yI m n _ _ e h with h|⟨a,ha,h⟩
  ·rw[Nat.testBit_or,Wn]at h;rcases h with h|h
   ·exact .inl h
   ·refine .inr ⟨0,by omega,?_⟩;rw[Nat.shiftLeft_eq,Nat.one_mul,Nat.testBit_two_pow]at h;simpa [GY]using h
  ·exact .inr ⟨a+1,by omega,h⟩
def sizeOk(m:Nat):Bool:=cover m m 0 0==2^m-1&&GY m m 0==0&&decide (8<=m/\m<=1024)&&decide (m % 2=0)
theorem Jx(h:sizeOk m=true)(hi:i<m)(he:e<m):∃n,n<m/\GY m n i=e:=by
 unfold sizeOk at h;simp only[UH,Yt,Vi]at h;obtain⟨⟨⟨h1,h2⟩,h3⟩,_⟩:=h
 have key:∀x,x<m->∃a,a<m/\GY m a 0=x:=λx hx=>by
  rcases yI m m 0 0 x (by grind)with z|z
  ·grind
  grind
 obtain⟨a,ha,ea⟩:=key i hi;obtain⟨b,hb,eb⟩:=key e he;by_cases hab:a<=b
 ·exact⟨b-a,by omega,by rw[<- ea,<- vb,show a+(b-a)=b by omega,eb]⟩
 ·exact⟨(m-a)+b,by omega,by rw[<- ea,<- vb,show a+((m-a)+b)=m+b by omega,vb,h2,eb]⟩
theorem Nt:sizeOk 8=true/\sizeOk 16=true/\sizeOk 32=true/\sizeOk 64=true/\sizeOk 128=true/\sizeOk 256=true/\sizeOk 512=true/\sizeOk 1024=true:=by decide +kernel
theorem yJ:∀(n:Nat) (c:Pc),c.pt=0->(gz mask n c).i=GY (mask+1) n c.i
 |0,c,_=>rfl
 |n+1,c,h=>by simp[gz,GY];rw[yJ n _ (by show c.pt / 32=0;rw[h])];show GY _ n (_ % _)=_;rw[h]
theorem Mi(mask n:Nat)(c:Pc):(gz mask (n+1) c).j=(gz mask (n+1) c).i:=by rw[sQ];rfl
theorem yK(h:sizeOk (mask+1)=true)(hp:c.pt<2^64)(he:e<=mask):∃n,n<=mask+12/\(gz mask (n+1) c).j=e:=by
 have h0:(gz mask 13 c).pt=0:=by
  grind[BY]
 have hi  := by show(gz mask (12+1) c).i<mask+1;exact XR _ #[1]
 obtain⟨n,hn,en⟩:=Jx h hi (Nat.lt_succ_of_le he);refine⟨12+n,by omega,?_⟩;rw[show 12+n+1=_+1 from rfl,Mi,show 12+n+1=13+n by omega,sQ,yJ n _ h0,en]
theorem FI(h:Int):SetTable.bits h<2^64:=by
 grind[SetTable.bits]
def c0(mask:Nat)(h:Int):Pc:=eF mask (SetTable.bits h % (mask+1)) (SetTable.bits h)
def sq(mask:Nat)(h:Int)(n:Nat):Nat:=(steps mask n (c0 mask h)).j
theorem GZ(hs:sizeOk (mask+1)=true)(h:Int)(he:e<=mask):∃n,n<=10*(mask+13)/\sq mask h n=e:=by obtain⟨n,hn,en⟩:=yK hs (c:=c0 mask h) (FI h) he;obtain⟨m,hm,em⟩:=ue mask (n+1) (c0 mask h) (yH _ _);exact⟨m,by omega,by simp[sq,em,en]⟩
theorem least{P:Nat->Prop}:∀(N:Nat),P N->∃n,n<=N/\P n/\∀m,m<n->¬ P m:=by
 intro N
 induction N using Nat.strongRecOn with
 |_ N ih=>
  by_cases z:∃m,m<N/\P m
  ·obtain⟨m,hm,pm⟩:=z;obtain⟨n,h1,h2,h3⟩:=ih m hm pm
   grind
  ·grind
theorem D3:∀(n:Nat) (l:List Nat),(∀e,e<n->e∈l)->n<=l.length
 |0,_,_=>Vw _
 |n+1,l,h=>by
  have:=D3 n (l.erase n) λe he=>(List.mem_erase_of_ne #[1]).mpr (h e #[1])
  grind
theorem D4(mask n:Nat)(c:Pc):steps mask (n+1) c=step mask (steps mask n c):=by rw[oA];rfl
structure Tab(es:YB)(t:YO):Prop where
 rp:pN t.place
 rd:pN t.dummies
 sz:t.place.size=es.size
 tf:t.fill*5<t.mask*3
 bp:∀j∈t.place.toList,j<=t.mask
 bd:∀j∈t.dummies.toList,j<=t.mask
 dj:∀j∈t.dummies.toList,j∉t.place.toList
 sm:sizeOk (t.mask+1)=true
 rc:∀(i:Nat) (e:Int×Value) (j:Nat),es[i]?=some e->t.place[i]?=some j->∃n,sq t.mask e.1 n=j/\∀m,m<n->t.slot (sq t.mask e.1 m)≠.empty
theorem Tab.fits(T:Tab es t):t.fits es.size=true:=by have:=T.tf;simp[SetTable.fits];exact⟨T.sz,by omega⟩
theorem Tab.odd(T:Tab es t):t.gaveWay=false:=by
 have h:=T.sm;unfold SetTable.gaveWay;unfold sizeOk at h
 grind
theorem Tab.le(T:Tab es t):t.mask<=1023:=by
 have h:=T.sm
 simp_all[sizeOk]
theorem Tab.free(T:Tab es t)(h:Int):∃N,N<=10*(t.mask+13)/\t.slot (sq t.mask h N)=.empty/\∀m,m<N->t.slot (sq t.mask h m)≠.empty:=by
 have:∃e,e<=t.mask/\t.slot e=.empty:=by
  apply Vt;intro z;have:=D3 (t.mask+1) _ λe he=>by apply Vt;intro hn;rw[UR,not_or]at hn;exact z ⟨e,by omega,(gI T.rp T.rd).mpr hn⟩
  have tf:=T.tf
  grind[SetTable.fill,tf,List.length_append,Array.length_toList]
 obtain⟨e,he,hs⟩:=this;obtain⟨n,hn,en⟩:=GZ T.sm h he;obtain⟨N,h1,h2,h3⟩:=least (P:=λn=>t.slot (sq t.mask h n)=.empty) n (by grind)
 grind
def Dm(t:YO)(h:Int)(n:Nat)(d:Option Nat):Prop:=d=none\/∃m,m<n/\d=some (sq t.mask h m)/\t.slot (sq t.mask h m)=.dummy
theorem Dm.mono(x:Dm t h n d)(hn:n<=n'):Dm t h n' d:=by
 rcases x with x|⟨m,a,b,c⟩
 ·exact .inl x
 ·exact .inr ⟨m,by omega,b,c⟩
theorem vc(hN:t.slot (sq t.mask h N)=.empty)(hne:∀m,m<N->t.slot (sq t.mask h m)≠.empty) :
  ∀(fuel n:Nat) (p:SetTable.Probe),n<=N->N-n<fuel->pc p=steps t.mask n (c0 t.mask h)->Dm t h n p.dummy ->
   (∃d,SetTable.probe.go t hashAt h fuel p=some (.empty (sq t.mask h N) d)/\Dm t h N d/\∀m,n<=m->m<N->∀i,t.slot (sq t.mask h m)=.live i->hashAt i≠h) \/
   (∃k i q,SetTable.probe.go t hashAt h fuel p=some (.candidate (sq t.mask h k) i q)/\n<=k/\k<N/\t.slot (sq t.mask h k)=.live i/\hashAt i=h/\pc q=steps t.mask (k+1) (c0 t.mask h)/\Dm t h (k+1) q.dummy /\
    ∀m,n<=m->m<k->∀i,t.slot (sq t.mask h m)=.live i->hashAt i≠h)
 |0,n,p,h1,h2,h3,h4=>by omega
 |fuel+1,n,p,h1,h2,h3,h4=>by
  have ej:p.j=sq t.mask h n:=by have:=Xx Pc.j h3;exact this
  have nx:∀(p':SetTable.Probe),pc p'=pc p->n<N->pc (t.advance p')=steps t.mask (n+1) (c0 t.mask h):=λp' e _=>by rw[D2,e,h3,D4]
  simp only[SetTable.probe.go];rw[ej];by_cases e:n=N
  ·subst e;rw[hN];exact .inl ⟨p.dummy,rfl,h4,λm a b=>by omega⟩
  ·have hlt:n<N:=by omega
   cases hs:t.slot (sq t.mask h n)with
   |empty=>exact absurd hs (hne n hlt)
   |dummy=>
    dsimp only;rcases vc hN hne fuel (n+1) (t.advance {p with j:=sq t.mask h n,dummy:=some (sq t.mask h n)}) hlt #[1] (nx _ (by unfold pc;rw[ej]) hlt) (by rw[ko];exact .inr ⟨n,by omega,rfl,hs⟩)with⟨d,a,b,c⟩|⟨k,i,q,a,b,c,d,e',f,g,r⟩
    ·refine .inl ⟨d,a,b,λm h5 h6 i h7=>?_⟩;by_cases z:m=n
     ·subst z;rw[hs]at h7;cases h7
     ·exact c m #[1] h6 i h7
    ·refine .inr ⟨k,i,q,a,by omega,c,d,e',f,g,λm h5 h6 i h7=>?_⟩;by_cases z:m=n
     ·subst z;rw[hs]at h7;cases h7
     ·exact r m #[1] h6 i h7
   |live i=>
    dsimp only;by_cases hh:hashAt i=h
    ·rw[if_pos (by simpa using hh)];refine .inr ⟨n,i,t.advance p,rfl,by omega,hlt,hs,hh,nx p rfl hlt,?_,λm a b=>by omega⟩;rw[ko];exact h4.mono #[1]
    ·rw[if_neg (by simpa using hh)];rcases vc hN hne fuel (n+1) (t.advance p) hlt #[1] (nx _ rfl hlt) (by rw[ko];exact h4.mono #[1])with⟨d,a,b,c⟩|⟨k,i',q,a,b,c,d,e',f,g,r⟩
     ·refine .inl ⟨d,a,b,λm h5 h6 i' h7=>?_⟩;by_cases z:m=n
      ·subst z;rw[hs]at h7;cases h7;exact hh
      ·exact c m #[1] h6 i' h7
     ·refine .inr ⟨k,i',q,a,by omega,c,d,e',f,g,λm h5 h6 i' h7=>?_⟩;by_cases z:m=n
      ·subst z;rw[hs]at h7;cases h7;exact hh
      ·exact r m #[1] h6 i' h7
theorem sR(r:pN xs)(hj:j∈xs.toList):x∈(SetTable.eraseAt xs (SetTable.below xs j)).toList<->x∈xs.toList/\x≠j:=by
 have hb:=(jz r).mp hj;obtain⟨hl,e⟩:=VA.mp hb;have sp:xs.toList=xs.toList.take (SetTable.below xs j)++j::xs.toList.drop (SetTable.below xs j+1):=by have e1:=(WC (SetTable.below xs j) xs.toList).symm;rw[Vs (by simpa using hl)]at e1;rw[Array.getElem_toList,e]at e1;exact e1
 have se:(SetTable.eraseAt xs (SetTable.below xs j)).toList=xs.toList.take (SetTable.below xs j)++xs.toList.drop (SetTable.below xs j+1):=by unfold SetTable.eraseAt;simp only[Array.toList_append,Array.toList_extract,List.extract_eq_take_drop,List.drop_zero,Nat.sub_zero];congr 1;rw[Ws];simp
 have nd:xs.toList.Nodup:=List.Pairwise.imp (λh=>UT h) r;rw[sp]at nd;rw[se];have nd2:=(Wl.mp nd);have nd3:=VE.mp nd2.2.1;constructor
 ·intro h;refine⟨by rw[sp];rcases UR.mp h with h|h;exact U4 _ h;exact UG _ (UI _ h),λz=>?_⟩;subst z;rcases UR.mp h with h|h
  ·exact nd2.2.2 x h x (UZ ..) rfl
  ·exact nd3.1 h
 grind
theorem gJ{p:Nat}(hp:p<xs.size):(SetTable.eraseAt xs p).size=xs.size-1:=by
 grind[SetTable.eraseAt]
theorem ip:(SetTable.insertAt xs p x).size=xs.size+1:=by
 have:=(SetTable.insertAt_perm xs p x).length_eq
 grind
theorem pP:y∈(SetTable.insertAt xs p x).toList<->y=x\/y∈xs.toList:=by rw[(SetTable.insertAt_perm xs p x).mem_iff];simp[or_comm]
theorem wx{x:α}(hp:p<=xs.size)(i:Nat):(SetTable.insertAt xs p x)[i]?=if i<p then xs[i]? else if i=p then some x else xs[i-1]?:=by
 rw[<- Vb,Xu]
 grind
theorem yL(T:Tab es t)(hs:∀i,t.slot s≠.live i)(x:Nat)(h:(t.put s).1.slot x=.empty):t.slot x=.empty:=by
 have hp:s∉t.place.toList:=λz=>by have:=(jz T.rp).mp z;exact hs _ ((oz T.rp).mpr this)
 have rp':pN (t.put s).1.place:=pO T.rp hp
 have rd':pN (t.put s).1.dummies:=by
  show pN (if SetTable.has t.dummies s=true then _ else _);split
  ·exact sP T.rd _
  ·exact T.rd
 rw[gI rp' rd']at h;rw[gI T.rp T.rd];obtain⟨h1,h2⟩:=h
 have h1':x≠s/\x∉t.place.toList:=by
  have:x∉(SetTable.insertAt t.place (SetTable.below t.place s) s).toList:=h1;rw[pP,not_or]at this
  grind
 refine⟨h1'.2,λz=>h2 ?_⟩;show x∈(if SetTable.has t.dummies s=true then _ else _:YM).toList;split
 ·rename_i hd;exact(sR T.rd ((lZ T.rd).mp hd)).mpr ⟨z,h1'.1⟩
 grind
structure xU(es:YB)(t:YO):Prop where
 rp:pN t.place
 rd:pN t.dummies
 sz:t.place.size=es.size
 fl:t.fill<=t.mask
 bp:∀j∈t.place.toList,j<=t.mask
 bd:∀j∈t.dummies.toList,j<=t.mask
 dj:∀j∈t.dummies.toList,j∉t.place.toList
 sm:sizeOk (t.mask+1)=true
 rc:∀(i:Nat) (e:Int×Value) (j:Nat),es[i]?=some e->t.place[i]?=some j->∃n,sq t.mask e.1 n=j/\∀m,m<n->t.slot (sq t.mask e.1 m)≠.empty
theorem xU.fits(T:xU es t):t.fits es.size=true:=by simp[SetTable.fits];exact⟨T.sz,T.fl⟩
theorem xU.tab(T:xU es t)(h:t.fill*5<t.mask*3):Tab es t:=⟨T.rp,T.rd,T.sz,h,T.bp,T.bd,T.dj,T.sm,T.rc⟩
theorem xU.flags(T:xU es t)(h1:t'.mask=t.mask)(h2:t'.place=t.place)(h3:t'.dummies=t.dummies):xU es t':=by obtain⟨a',b',c',d',e',f',l'⟩:=t';subst h1 h2 h3;exact⟨T.rp,T.rd,T.sz,T.fl,T.bp,T.bd,T.dj,T.sm,T.rc⟩
theorem Tab.PC(T:Tab es t):xU es t:=⟨T.rp,T.rd,T.sz,by have:=T.tf;omega,T.bp,T.bd,T.dj,T.sm,T.rc⟩
theorem Mj(T:Tab es t)(hs:∀i,t.slot s≠.live i)(hm:s<=t.mask)(hn:sq t.mask h n=s)(hp:∀m,m<n->t.slot (sq t.mask h m)≠.empty) :
  xU (SetTable.insertAt es (t.put s).2 (h,x)) (t.put s).1/\(t.slot s=.dummy->(t.put s).1.fill=t.fill):=by
 have nip:s∉t.place.toList:=λz=>by have:=(jz T.rp).mp z;exact hs _ ((oz T.rp).mpr this)
 have rp':pN (t.put s).1.place:=pO T.rp nip
 have rd':pN (t.put s).1.dummies:=by
  show pN (if SetTable.has t.dummies s=true then _ else _);split
  ·exact sP T.rd _
  ·exact T.rd
 have mp:∀y,y∈(t.put s).1.place.toList<->y=s\/y∈t.place.toList:=λy=>pP
 have md:∀y,y∈(t.put s).1.dummies.toList->y∈t.dummies.toList/\y≠s:=λy hy=>by
  have hy:y∈(if SetTable.has t.dummies s=true then SetTable.eraseAt t.dummies (SetTable.below t.dummies s)else t.dummies).toList:=hy;split at hy
  ·rename_i hd;exact(sR T.rd ((lZ T.rd).mp hd)).mp hy
  ·rename_i hd;exact⟨hy,λz=>hd ((lZ T.rd).mpr (z▸hy))⟩
 have ple:SetTable.below t.place s<=t.place.size:=(jy T.rp s).2.2;have psz:(t.put s).1.place.size=t.place.size+1:=ip;have tf:=T.tf;unfold SetTable.fill at tf;have hmask:7<=t.mask:=by have h:=T.sm;unfold sizeOk at h;simp only[UH,Yt,Vi]at h;omega
 have dsz:(t.put s).1.dummies.size<=t.dummies.size:=by
  show(if SetTable.has t.dummies s=true then SetTable.eraseAt t.dummies (SetTable.below t.dummies s)else t.dummies).size<=_;split
  ·rename_i hd;have hb:=(jz T.rd).mp ((lZ T.rd).mp hd);rw[gJ (VA.mp hb).1];omega
  ·exact UJ _
 refine⟨⟨rp',rd',?_,?_,λj hj=>?_,λj hj=>T.bd j (md j hj).1,λj hj hj'=>?_,T.sm,λi e j hi hj=>?_⟩,λhd=>?_⟩
 ·rw[psz,ip,T.sz]
 ·unfold SetTable.fill;rw[psz];show t.place.size+1+(t.put s).1.dummies.size<=t.mask;omega
 ·rcases(mp j).mp hj with rfl|hj
  ·exact hm
  ·exact T.bp j hj
 ·obtain⟨d1,d2⟩:=md j hj;rcases(mp j).mp hj' with z|z
  ·exact d2 z
  ·exact T.dj j d1 z
 ·have hj':(SetTable.insertAt t.place (SetTable.below t.place s) s)[i]?=some j:=hj;have hi':(SetTable.insertAt es (SetTable.below t.place s) (h,x))[i]?=some e:=hi;rw[wx ple]at hj';rw[wx (by rw[<- T.sz];exact ple)]at hi';have old:∀i',es[i']?=some e->t.place[i']?=some j->∃n,sq t.mask e.1 n=j/\∀m,m<n->(t.put s).1.slot (sq t.mask e.1 m)≠.empty:=λi' a b=>by obtain⟨n',n1,n2⟩:=T.rc i' e j a b;exact⟨n',n1,λm hm' z=>n2 m hm' (yL T hs _ z)⟩
  show ∃n,sq t.mask e.1 n=j/\∀m,m<n->(t.put s).1.slot (sq t.mask e.1 m)≠.empty;by_cases h1:i<SetTable.below t.place s
  ·rw[if_pos h1]at hi' hj';exact old i hi' hj'
  ·rw[if_neg h1]at hi' hj';by_cases h2:i=SetTable.below t.place s
   ·rw[if_pos h2]at hi' hj';cases hi';cases hj';exact⟨n,hn,λm hm' z=>hp m hm' (yL T hs _ z)⟩
   ·rw[if_neg h2]at hi' hj';exact old _ hi' hj'
 ·have hd':=D1 T.rp T.rd hd;have hh:=(lZ T.rd).mpr hd';unfold SetTable.fill;rw[psz];have:(t.put s).1.dummies.size=t.dummies.size-1:=by show(if SetTable.has t.dummies s=true then SetTable.eraseAt t.dummies (SetTable.below t.dummies s)else t.dummies).size=_;rw[if_pos hh];exact gJ (VA.mp ((jz T.rd).mp hd')).1
  rw[this];have:0<t.dummies.size:=by have:=List.length_pos_of_mem hd';simpa using this
  omega
theorem yM{p:Nat}(hp:p<xs.size)(i:Nat):(SetTable.eraseAt xs p)[i]?=if i<p then xs[i]? else xs[i+1]?:=by
 have se:(SetTable.eraseAt xs p).toList=xs.toList.take p++xs.toList.drop (p+1):=by
  simp_all[SetTable.eraseAt,Ws]
 rw[<- Vb,se];have hl:(xs.toList.take p).length=p:=by grind
 by_cases h1:i<p
 ·rw[if_pos h1,Vc #[1],Xr h1,Vb]
 ·rw[if_neg h1,Vl #[1],hl,List.getElem?_drop,Vb]
  grind
theorem Jy(T:Tab es t)(hi:i<es.size):Tab (SetTable.eraseAt es i) (t.drop i)/\(t.drop i).mask=t.mask/\(t.drop i).led=t.led:=by
 have hip:i<t.place.size:=by grind[T.sz]
 have hj:=U1 hip;generalize hjj:t.place[i]=j at hj
 have ed:t.drop i={t with place:=SetTable.eraseAt t.place i,dummies:=SetTable.insertAt t.dummies (SetTable.below t.dummies j) j}:=by
  simp_all[SetTable.drop,hj]
 have jp:j∈t.place.toList:=by rw[<- hjj];simp
 have jd:j∉t.dummies.toList:=λz=>T.dj j z jp;have ib:i=SetTable.below t.place j:=(below_at T.rp hj).symm;have mp:∀y,y∈(SetTable.eraseAt t.place i).toList<->y∈t.place.toList/\y≠j:=λy=>by rw[ib];exact sR T.rp jp
 have md:∀y,y∈(SetTable.insertAt t.dummies (SetTable.below t.dummies j) j).toList<->y=j\/y∈t.dummies.toList:=λy=>pP;have rp':pN (SetTable.eraseAt t.place i):=sP T.rp _;have rd':pN (SetTable.insertAt t.dummies (SetTable.below t.dummies j) j):=pO T.rd jd;rw[ed];refine⟨⟨rp',rd',?_,?_,λy hy=>T.bp y ((mp y).mp hy).1,λy hy=>?_,λy hy hy'=>?_,T.sm,λi' e j' h1 h2=>?_⟩,rfl,rfl⟩
 ·show(SetTable.eraseAt t.place i).size=_;rw[gJ hip,gJ hi,T.sz]
 ·have tf:=T.tf;unfold SetTable.fill at tf ⊢;show((SetTable.eraseAt t.place i).size+(SetTable.insertAt t.dummies (SetTable.below t.dummies j) j).size)*5<t.mask*3;rw[gJ hip,ip];omega
 ·rcases(md y).mp hy with rfl|hy
  ·exact T.bp y jp
  ·exact T.bd y hy
 ·obtain⟨a,b⟩:=(mp y).mp hy';rcases(md y).mp hy with z|z
  ·exact b z
  ·exact T.dj y z a
 ·have h2':(SetTable.eraseAt t.place i)[i']?=some j':=h2
  have key:∃i2:Nat,es[i2]?=some e/\t.place[i2]?=some j':=by
   rw[yM hi]at h1;rw[yM hip]at h2';split at h1
   ·rename_i z;rw[if_pos z]at h2';exact⟨_,h1,h2'⟩
   ·rename_i z;rw[if_neg z]at h2';exact⟨_,h1,h2'⟩
  obtain⟨i2,a,b⟩:=key;obtain⟨n,n1,n2⟩:=T.rc i2 e j' a b;refine⟨n,n1,λm hm z=>n2 m hm ?_⟩;have z':SetTable.slot {t with place:=SetTable.eraseAt t.place i,dummies:=SetTable.insertAt t.dummies (SetTable.below t.dummies j) j} (sq t.mask e.1 m)=.empty:=z;rw[gI (t:={t with place:=SetTable.eraseAt t.place i,dummies:=SetTable.insertAt t.dummies (SetTable.below t.dummies j) j}) rp' rd']at z';rw[gI T.rp T.rd];obtain⟨z1,z2⟩:=z';have z2':sq t.mask e.1 m∉(SetTable.insertAt t.dummies (SetTable.below t.dummies j) j).toList:=z2;have z1':sq t.mask e.1 m∉(SetTable.eraseAt t.place i).toList:=z1;rw[md,not_or]at z2';rw[mp]at z1';exact⟨λq=>z1' ⟨q,z2'.1⟩,z2'.2⟩
def BZ(owner:Array (Option Nat))(j:Nat):Prop:=(owner.getD j (some 0)).isNone=false
theorem sS(mask:Nat):∀(k:Nat) (c:Pc),k<=c.more->steps mask k c=⟨c.j+k,c.more-k,c.i,c.pt⟩
 |0,c,_=>by rfl
 |k+1,c,h=>by
  have e:step mask c=⟨c.j+1,c.more-1,c.i,c.pt⟩:=by grind[step]
  simp[steps];rw[e,sS mask k _ (by grind)]
  grind
theorem yN:∀(fuel i pt:Nat),(∃n,n<fuel/\¬ BZ owner (gz mask n (eF mask i pt)).j) ->
  ∃n,SetTable.layClean.free mask owner fuel i pt=some (steps mask n (eF mask i pt)).j/\¬ BZ owner (steps mask n (eF mask i pt)).j/\∀m,m<n->BZ owner (steps mask m (eF mask i pt)).j
 |0,i,pt,⟨n,hn,_⟩=>by omega
 |fuel+1,i,pt,⟨n,hn,hf⟩=>by
  have hre:SetTable.runEnd mask i+1-i=(eF mask i pt).more+1:=by
   show _=SetTable.runEnd mask i-i+1
   grind[SetTable.runEnd]
  simp only[SetTable.layClean.free];rw[hre]
  cases hfi:(List.range ((eF mask i pt).more+1)).find? λk=>(owner.getD (i+k) (some 0)).isNone with
  |some k=>
   dsimp only;obtain⟨h1,h2,h3⟩:=List.find?_range_eq_some.mp hfi;have hk:k<=(eF mask i pt).more:=by have:=Vm.mp h2;omega
   have es:∀m,m<=k->(steps mask m (eF mask i pt)).j=i+m:=λm hm=>by rw[sS mask m _ #[1]];rfl
   refine⟨k,by rw[es k (UJ _)],?_,λm hm=>?_⟩
   ·rw[es k (UJ _)];unfold BZ;rw[h1];simp
   ·rw[es m #[1]];have:=h3 m hm;simpa [BZ]using this
  |none=>
   dsimp only;have h1:=List.find?_range_eq_none.mp hfi;have occ:∀m,m<(eF mask i pt).more+1->BZ owner (steps mask m (eF mask i pt)).j:=λm hm=>by rw[sS mask m _ #[1]];have:=h1 m hm;show BZ owner (i+m);simpa [BZ]using this
   have hn0:n≠0:=λz=>by subst z;have:=occ 0 #[1];exact hf this
   obtain⟨n',rfl⟩:∃n',n=n'+1:=⟨n-1,by omega⟩;have tl:=Af mask (eF mask i pt).more (eF mask i pt) rfl;obtain⟨q,q1,q2,q3⟩:=yN (mask:=mask) (owner:=owner) fuel (SetTable.leap mask i pt).1 (SetTable.leap mask i pt).2 ⟨n',by omega,hf⟩;have es:∀m,steps mask ((eF mask i pt).more+1+m) (eF mask i pt)=steps mask m (eF mask (SetTable.leap mask i pt).1 (SetTable.leap mask i pt).2):=λm=>by rw[oA,tl];rfl
   refine⟨(eF mask i pt).more+1+q,by rw[es];exact q1,by rw[es];exact q2,λm hm=>?_⟩;by_cases hmm:m<(eF mask i pt).more+1
   ·exact occ m hmm
   ·have:=q3 (m-((eF mask i pt).more+1)) #[1];rw[<- es]at this;rw[show m=(eF mask i pt).more+1+(m-((eF mask i pt).more+1))by omega];exact this
def cO(mask:Nat)(owner:Array (Option Nat)):List (Nat×Nat):=(List.range (mask+1)).filterMap λj=>(owner.getD j none).map (j,·)
theorem B0{α β:Type}{f g:α->Option β}:∀{l:List α},(∀x∈l,g x=f x)->l.filterMap g=l.filterMap f
 | [],_=>rfl
 |a::l,h=>by have ih:=B0 λx hx=>h x (UI _ hx);rw[List.filterMap_cons,List.filterMap_cons,h a (UZ ..),ih]
theorem Jz{α β:Type}{f g:α->Option β}{j:α}{v:β}(hf:f j=none)(hg:g j=some v):∀{l:List α},l.Nodup->j∈l->(∀x∈l,x≠j->f x=g x)->List.Perm (l.filterMap g) (v::l.filterMap f)
 | [],_,h,_=>by grind
 |a::l,nd,h,e=>by
  obtain⟨n1,n2⟩:=VE.mp nd;by_cases z:a=j
  ·subst z;rw[WO hg,List.filterMap_cons_none hf];have:l.filterMap g=l.filterMap f:=B0 λx hx=>(e x (UI _ hx) (λq=>n1 (q▸hx))).symm;rw[this]
  ·have hj:j∈l:=by
    grind
   have ih:=Jz hf hg n2 hj λx hx=>e x (UI _ hx);have ea:=e a (UZ ..) z
   cases hfa:f a with
   |none=>simp_all
   |some b=>rw[WO (by rw[<- ea];exact hfa),WO hfa];exact(ih.cons b).trans (.swap _ _ _)
structure Own(mask:Nat)(hs:List Int)(js:List Nat)(owner:Array (Option Nat)):Prop where
 sz:owner.size=mask+1
 ln:js.length=hs.length
 lv:List.Perm (cO mask owner) (js.zip (List.range hs.length))
 rc:∀(k:Nat) (h:Int) (j:Nat),hs[k]?=some h->js[k]?=some j->∃n,sq mask h n=j/\∀m,m<n->BZ owner (sq mask h m)
noncomputable def Mk(mask:Nat)(acc:Option (Array (Option Nat)×Nat))(h:Int):Option (Array (Option Nat)×Nat):=do
    let (owner,k) <- acc
    let j <- SetTable.layClean.free mask owner (SetTable.turns mask) (SetTable.bits h % (mask+1)) (SetTable.bits h)
    pure (owner.setIfInBounds j (some k),k+1)
theorem JA(hm:sizeOk (mask+1)=true)(O:Own mask hs js owner)(hl:hs.length<=mask)(h:Int) :
  ∃j owner',Mk mask (some (owner,hs.length)) h=some (owner',hs.length+1)/\Own mask (hs++[h]) (js++[j]) owner':=by
 have occ_iff:∀j,BZ owner j<->owner[j]?≠some none:=λj=>by
  unfold BZ;rw[Vz]
  cases owner[j]? with
  |none=>simp
  |some o=>cases o<;>simp
 have hfree:∃e,e<=mask/\¬ BZ owner e:=by
  apply Vt;intro z
  have hp:=D3 (mask+1) ((cO mask owner).map (·.1)) λe he=>by
   have ho:BZ owner e:=Vt λq=>z ⟨e,by omega,q⟩;rw[occ_iff]at ho;have hlt:e<owner.size:=by rw[O.sz];exact he
   rw[U1 hlt]at ho
   cases hv:owner[e]with
   |none=>rw[hv]at ho;exact absurd rfl ho
   |some k=>refine U2.mpr ⟨(e,k),WZ.mpr ⟨e,Vm.mpr he,?_⟩,rfl⟩;simp[Array.getD,hlt,hv]
  rw[UX,O.lv.length_eq,List.length_zip,O.ln]at hp;simp at hp;omega
 obtain⟨e,he,hne⟩:=hfree;obtain⟨n,hn,en⟩:=yK hm (c:=c0 mask h) (FI h) he
 obtain⟨q,q1,q2,q3⟩:=yN (mask:=mask) (owner:=owner) (SetTable.turns mask) (SetTable.bits h % (mask+1)) (SetTable.bits h) ⟨n+1,by unfold SetTable.turns;omega,by
  have:(gz mask (n+1) (eF mask (SetTable.bits h % (mask+1)) (SetTable.bits h))).j=e:=en
  rw[this];exact hne⟩
 generalize hj:(steps mask q (eF mask (SetTable.bits h % (mask+1)) (SetTable.bits h))).j=j at q1 q2;have hjn:owner[j]?=some none:=Vt λz=>q2 ((occ_iff j).mpr z);have hjl:j<owner.size:=(VA.mp hjn).1
 have get':∀x,(owner.setIfInBounds j (some hs.length))[x]?=if x=j then some (some hs.length)else owner[x]?:=λx=>by
  rw[Array.getElem?_setIfInBounds];by_cases z:j=x
  ·subst z;simp[hjl]
  ·rw[if_neg z,if_neg (λq=>z q.symm)]
 have occ':∀x,BZ owner x->BZ (owner.setIfInBounds j (some hs.length)) x:=λx hx=>by
  unfold BZ at hx ⊢;rw[Vz]at hx ⊢;rw[get'];by_cases z:x=j
  ·rw[if_pos z];rfl
  ·rw[if_neg z];exact hx
 refine⟨j,owner.setIfInBounds j (some hs.length),?_,⟨by simp[O.sz],by simp[O.ln],?_,λk h' j' a b=>?_⟩⟩
 ·unfold Mk;simp only[Option.bind_eq_bind,Option.bind_some];rw[q1];rfl
 ·have hp:List.Perm (cO mask (owner.setIfInBounds j (some hs.length))) ((j,hs.length)::cO mask owner):=by
   refine Jz (j:=j) ?_ ?_ List.nodup_range (Vm.mpr (by rw[<- O.sz];exact hjl)) λx _ hx=>?_
   ·rw[Vz,hjn];rfl
   ·rw[Vz,get',if_pos rfl];rfl
   ·rw[Vz,Vz,get',if_neg hx]
  refine hp.trans ((O.lv.cons _).trans ?_);rw[U5,List.length_singleton,List.range_succ,List.zip_append (by simp[O.ln])];exact(List.perm_append_singleton _ _).symm
 ·by_cases z:k<hs.length
  ·rw[Vc z]at a;rw[Vc (by rw[O.ln];exact z)]at b;obtain⟨n',n1,n2⟩:=O.rc k h' j' a b;exact⟨n',n1,λm hm'=>occ' _ (n2 m hm')⟩
  ·have hk:k=hs.length:=by
    have:=(UN.mp a).1;simp at this;omega
   subst hk;rw[Vl (UJ _)]at a;rw[<- O.ln,Vl (UJ _)]at b;simp at a b;subst a;subst b;exact⟨q,hj,λm hm'=>occ' _ (q3 m hm')⟩
theorem FJ(hm:sizeOk (mask+1)=true):∀(hs2 hs:List Int) (js:List Nat) (owner:Array (Option Nat)),Own mask hs js owner->(hs++hs2).length<=mask+1 ->
  ∃js' owner',hs2.foldl (Mk mask) (some (owner,hs.length))=some (owner',(hs++hs2).length)/\Own mask (hs++hs2) js' owner'
 | [],hs,js,owner,O,_=>⟨js,owner,by simp,by grind⟩
 |h::hs2,hs,js,owner,O,hl=>by
  obtain⟨j,owner',e,O'⟩:=JA hm O (by grind) h;obtain⟨js',owner2,e2,O2⟩:=FJ hm hs2 _ _ _ O' (by grind);refine⟨js',owner2,?_,by simp_all⟩
  simp_all
theorem B1(mask:Nat)(hashes:Array Int):SetTable.layClean mask hashes=(hashes.toList.foldl (Mk mask) (some (Array.replicate (mask+1) none,0))).map (·.1):=by unfold SetTable.layClean;rw[<- Array.foldl_toList];rfl
theorem Mm(mask:Nat):Own mask [] [] (Array.replicate (mask+1) none):=by
 refine⟨by simp,rfl,?_,λk h j a=>by simp⟩
 simp_all[cO]
theorem D5{α:Type}{es:Array α}:∀{l:List (Nat×Nat)},(∀p∈l,p.2<es.size)->((l.map (·.2)).filterMap (λk=>es[k]?)).length=l.length/\∀(i:Nat) (p:Nat×Nat),l[i]?=some p->((l.map (·.2)).filterMap (λk=>es[k]?))[i]?=es[p.2]?
 | [],_=>⟨rfl,λi p h=>by grind⟩
 |a::l,h=>by
  obtain⟨h1,h2⟩:=D5 (l:=l) λp hp=>h p (UI _ hp);have ha:=h a (UZ ..);rw[Va,WO (U1 ha)];refine⟨by grind,λi p hi=>?_⟩
  cases i with
  |zero=>simp_all
  |succ i=>simpa using h2 i p (by simpa using hi)
theorem FK{es:YB}(hm:sizeOk (mask+1)=true)(hn:es.size*5<mask*3)(finger moves:Nat)(led plain:Bool) :
  ∃t' order,SetTable.laid mask finger moves led plain (es.map (·.1))=some (t',order)/\Tab (order.filterMap (es[·]?)) t'/\List.Perm (order.filterMap (es[·]?)).toList es.toList/\t'.mask=mask/\t'.led=led/\List.Perm order.toList (List.range es.size):=by
 obtain⟨js,owner,e,O⟩:=FJ hm (es.map (·.1)).toList [] [] _ (Mm mask) (by grind);simp only[Xz,V9]at e O;have hlen:(es.map (·.1)).toList.length=es.size:=by simp
 have hsnd:List.Perm ((cO mask owner).map (·.2)) (List.range es.size):=by have:=O.lv.map (·.2);rw[hlen]at this;refine this.trans ?_;rw[List.map_snd_zip (by rw[O.ln,hlen];simp)]
 have hbelow:∀p∈cO mask owner,p.2<es.size:=λp hp=>by have:=hsnd.mem_iff.mp (U2.mpr ⟨p,hp,rfl⟩);exact Vm.mp this
 obtain⟨g1,g2⟩:=D5 (es:=es) hbelow;have hfst:((cO mask owner).map (·.1)).Pairwise (· < ·):=by rw[XO];unfold cO;rw[List.pairwise_filterMap];refine List.Pairwise.imp ?_ List.pairwise_lt_range;intro a b hab x hx y hy;rw[Vg]at hx hy;obtain⟨_,_,rfl⟩:=hx;obtain⟨_,_,rfl⟩:=hy;exact hab
 have hmem:∀p∈cO mask owner,p.1<=mask/\owner.getD p.1 none=some p.2:=λp hp=>by obtain⟨j,hj,ej⟩:=WZ.mp hp;rw[Vg]at ej;obtain⟨k,hk,rfl⟩:=ej;exact⟨by have:=Vm.mp hj;omega,hk⟩
 refine⟨{mask,place:=((cO mask owner).map (·.1)).toArray,dummies:=#[],finger,led,moves,plain},((cO mask owner).map (·.2)).toArray,?_,?_,?_,rfl,rfl,by simpa using hsnd⟩
 ·unfold SetTable.laid;rw[B1,e];rfl
 ·have efm:((((cO mask owner).map (·.2)).toArray.filterMap (es[·]?)):Array _)=(((cO mask owner).map (·.2)).filterMap (λk=>es[k]?)).toArray:=by simp
  have llen:(cO mask owner).length=es.size:=by have:=hsnd.length_eq;simpa using this
  refine⟨hfst,List.Pairwise.nil,?_,?_,λj hj=>?_,λj hj=>by simp at hj,λj hj=>by simp at hj,hm,λi e' j h1 h2=>?_⟩
  ·rw[efm,UY,UY,g1,UX]
  ·show(((cO mask owner).map (·.1)).toArray.size+0)*5<mask*3;simp only[UY,UX,llen,Nat.add_zero];exact hn
  ·obtain⟨p,hp,rfl⟩:=U2.mp (by simpa using hj:j∈(cO mask owner).map (·.1));exact(hmem p hp).1
  ·rw[efm]at h1;have h2':((cO mask owner).map (·.1))[i]?=some j:=by simpa using h2
   rw[Vo,Vg]at h2';obtain⟨p,hp,rfl⟩:=h2';have h1':(((cO mask owner).map (·.2)).filterMap (λk=>es[k]?))[i]?=some e':=by simpa using h1
   rw[g2 i p hp]at h1';have pm:=U6 hp;have pz:=O.lv.mem_iff.mp pm;rw[hlen]at pz;obtain⟨k,hk,ek⟩:=WU pz;rw[List.getElem_zip]at ek;simp only[List.getElem_range]at ek;have ek1:js[k]?=some p.1:=by rw[<- Xx Prod.fst ek];exact UK _
   have ek2:p.2=k:=(Xx Prod.snd ek).symm;obtain⟨n,n1,n2⟩:=O.rc k e'.1 p.1 (by simp only[Array.toList_map,Vo,Vb];rw[<- ek2,h1'];rfl) ek1;refine⟨n,n1,λm hm' z=>?_⟩;have oc:=n2 m hm';have z':SetTable.slot {mask,place:=((cO mask owner).map (·.1)).toArray,dummies:=#[],finger,led,moves,plain} (sq mask e'.1 m)=.empty:=z;rw[gI (t:={mask,place:=((cO mask owner).map (·.1)).toArray,dummies:=#[],finger,led,moves,plain}) hfst List.Pairwise.nil]at z';by_cases hin:sq mask e'.1 m<owner.size
   ·unfold BZ at oc;rw[Vz,U1 hin]at oc;simp only[Ww]at oc
    cases hv:owner[sq mask e'.1 m]with
    |none=>rw[hv]at oc;simp at oc
    |some k'=>refine z'.1 ?_;have:sq mask e'.1 m∈(cO mask owner).map (·.1):=U2.mpr ⟨(sq mask e'.1 m,k'),WZ.mpr ⟨_,Vm.mpr (by rw[<- O.sz];exact hin),by simp[Array.getD,hin,hv]⟩,rfl⟩;simpa using this
   ·exfalso
    have bound:∀q (c:Pc),c.j+c.more<=mask->(steps mask q c).j+(steps mask q c).more<=mask:=by
     intro q
     induction q with
     |zero=>intro c hc;exact hc
     |succ q ih=>
      intro c hc;simp only[steps];refine ih _ ?_;unfold step;split
      ·show c.j+1+(c.more-1)<=mask;omega
      ·show(SetTable.leap mask c.i c.pt).1+(SetTable.runEnd mask (SetTable.leap mask c.i c.pt).1-(SetTable.leap mask c.i c.pt).1)<=mask;have:(SetTable.leap mask c.i c.pt).1<mask+1:=XR _ #[1];unfold SetTable.runEnd;split<;>omega
    have hb:=bound m (c0 mask e'.1) (by
     show SetTable.bits e'.1 % (mask+1)+(SetTable.runEnd mask (SetTable.bits e'.1 % (mask+1))-SetTable.bits e'.1 % (mask+1))<=mask;have:SetTable.bits e'.1 % (mask+1)<mask+1:=XR _ #[1];unfold SetTable.runEnd
     split<;>omega)
    have:sq mask e'.1 m<=mask:=by unfold sq;omega
    rw[O.sz]at hin;omega
 grind[Array.toList_filterMap,filterMap_getElem?_range]
theorem l6:∀n,n<1024->(n<SetTable.sizeAbove n/\SetTable.sizeAbove n∈[8,16,32,64,128,256,512,1024]):=by trivial
theorem G0(h:m∈[8,16,32,64,128,256,512,1024]):sizeOk m=true:=by
 obtain⟨a,b,c,d,e,f,g,i⟩:=Nt;simp at h
 grind
theorem G4{es:YB}{t:YO}(hw:wanted<1024)(hn:es.size*5<wanted*3\/es.size<=4) :
  ∃t' order,t.relaid (es.map (·.1)) wanted=some (t',order)/\Tab (order.filterMap (es[·]?)) t'/\List.Perm (order.filterMap (es[·]?)).toList es.toList/\t'.led=t.led/\List.Perm order.toList (List.range es.size)/\t'.mask+1=SetTable.sizeAbove wanted/\SetTable.sizeAbove wanted<=1024:=by
 obtain⟨h1,h2⟩:=l6 wanted hw;have h8:8<=SetTable.sizeAbove wanted:=by simp[UP,Vj,WI]at h2;omega
 have e:SetTable.sizeAbove wanted-1+1=SetTable.sizeAbove wanted:=by omega
 obtain⟨t',order,a,b,c,d,f,g⟩:=FK (es:=es) (by rw[e];exact G0 h2) #[1] t.finger (t.movedTo (SetTable.sizeAbove wanted-1)) t.led t.plain;exact⟨t',order,a,b,c,f,g,by omega,by simp only[UP,Vj,WI]at h2;omega⟩
end Ru
namespace Ru
open PySem PySem.Spec L2 Ml
structure El(vp:Value->Prop)(w:World)(h:Heap)(md:Bool)(e:Int×Value)(d:PyData):Prop where
 tr:aC d=true
 dp:d.depth<=8
 so:fj d=true
 hs:e.1=tO w d
 kd:gE d=md
 rd:∃as,Reads h e.2 d as
 vl:vp e.2
abbrev bu(es:YB)(ep:Nat)(t:YO):Obj:={cls:=.type "set",dict:=none,data:=.set es ep t,slots:=#[]}
abbrev cP(w:World):Bool:=w.params.followText "set-order"
structure cC(vp:Value->Prop)(w:World)(h:Heap)(a:Addr)(md:Bool)(ds:YD)(es:YB)(ep:Nat)(t:YO):Prop where
 ob:h.get? a=some (bu es ep t)
 tb:Tab es t
 ld:t.led=true\/cP w=true
 nd:ds.Nodup
 ln:ds.length<=120
 el:Paired (El vp w h md) es.toList ds
def bW(vp:Value->Prop)(w:World)(h:Heap)(a:Addr)(md:Bool)(ds:YD):Prop:=∃es ep t,cC vp w h a md ds es ep t
theorem El.keep(x:El vp w h md e d)(k:∀b o vs n,h.get? b=some o->o.cls=.type "tuple" -> o.data=.seq vs n->h'.get? b=some o):El vp w h' md e d:=
 ⟨x.tr,x.dp,x.so,x.hs,x.kd,by obtain⟨as,r⟩:=x.rd;exact⟨as,kM k x.tr r⟩,x.vl⟩
theorem cC.size(S:cC vp w h a md ds es ep t):es.size=ds.length:=by
 have:=U3 S.el
 grind
theorem fL{R:α->β->Prop}:∀{xs:List α} {ys:List β},Paired R xs ys->∀{i:Nat} {x:α},xs[i]?=some x->∃y,ys[i]?=some y/\R x y
 |_,_,.nil,i,x,h=>by simp at h
 |_,_,.cons r _,0,x,h=>by grind
 |_,_,.cons _ t,i+1,x,h=>by simpa using fL t (by simp_all)
theorem kc{R:α->β->Prop}:∀{xs:List α} {ys:List β},Paired R xs ys->∀{i:Nat} {y:β},ys[i]?=some y->∃x,xs[i]?=some x/\R x y
 |_,_,.nil,i,x,h=>by simp at h
 |_,_,.cons r _,0,x,h=>by grind
 |_,_,.cons _ t,i+1,x,h=>by simpa using kc t (by simp_all)
theorem cC.get(S:cC vp w h a md ds es ep t){i:Nat}{e:Int×Value}(he:es[i]?=some e):∃d,ds[i]?=some d/\El vp w h md e d:=by rw[<- Vb]at he;exact fL S.el he
section
variable {P:YN} {w:World} {A:YQ} {E:Yy} {s:YR} {vp:Value->Prop}
theorem Rv(x:El vp w s.heap md e d)(y:El vp w s.heap md' e' d')(hu:A.units+20<cLine)(h:Q (decide (d=d')) s):wpAny (model P w) A (eqBool e.2 e'.2) Q E s:=by
 obtain⟨as,r1⟩:=x.rd;obtain⟨bs,r2⟩:=y.rd
 have hq:PyData.eqv d d'=decide (d=d'):=by
  by_cases z:d=d'
  ·subst z;rw[WX rfl];exact bc (aX x.tr)
  ·rw[VR z];exact bq (aX x.tr) (aX y.tr) z
 have:=X5 d d' A s _ _ _ _ r1 r2 (kn x.so (cu (aX x.tr))) (kn y.so (cu (aX y.tr))) (by have:=x.dp;omega) P w E Q
 grind
mutual
theorem nh:∀(d:PyData) (n:Nat) (A:YQ) (s:YR) (v:Value) (as:YE) (Q:Bool->YR->Prop) (E:Yy),aC d=true->d.depth<=n->Reads s.heap v d as->Q false s->wpAny (model P w) A (ofAClassStatement n v) Q E s
 |.str x,n,A,s,v,as,Q,E,_,_,r,h=>by cases r;unfold ofAClassStatement;exact UD h
 |.tuple ds,n,A,s,v,as,Q,E,t,hn,r,h=>by
  cases r with
  |tuple ho hc hd hi=>
   rename_i a o items k;have hT:s.TypeIs (.ref a) "tuple" := ⟨o,ho,hc⟩;simp only[aC]at t;simp only[PyData.depth]at hn;obtain⟨m,rfl⟩:∃m,n=m+1:=⟨n-1,by omega⟩;unfold ofAClassStatement;refine UC (Xt hT ?_);show wpAny _ _ (if("tuple" == "tuple")=true then _ else _) _ _ s;rw[if_pos (by decide)];refine UC (UD ?_);simp only[WA,UQ,Vu];refine UC (VM ho hd ?_);refine UC ?_;show wpAny _ _ (forIn items _ _) _ _ s;rw[<- Wd];refine oU ds m A s items.toList _ _ E _ t #[1] hi ?_ ?_
   ·intro x s' R k;refine UC (VG k (λc s2 q=>?_) λ_ _ z=>z);obtain⟨rfl,q⟩:=q;simp only[UQ,Vu];exact UD q
   ·exact UD h
 |.none,_,_,_,_,_,_,_,t,_,_,_=>by simp[aC]at t
 |.bool _,_,_,_,_,_,_,_,t,_,_,_=>by simp[aC]at t
 |.int _,_,_,_,_,_,_,_,t,_,_,_=>by simp[aC]at t
 |.list _,_,_,_,_,_,_,_,t,_,_,_=>by simp[aC]at t
 |.dict _,_,_,_,_,_,_,_,t,_,_,_=>by simp[aC]at t
theorem oU:∀(ds:YD) (n:Nat) (A:YQ) (s:YR) (vs:YF) (as:YE) (R:Option Bool×Unit->YR->Prop) (E:Yy) (body:Value->Option Bool×Unit->Sem (ForInStep (Option Bool×Unit))),bA ds=true->PyData.depthAll ds<=n->ReadsAll s.heap vs ds as ->
  (∀(x:Value) (s':YR) (R':ForInStep (Option Bool×Unit)->YR->Prop),wpAny (model P w) A (ofAClassStatement n x) (λc s2=>c=false/\R' (.yield (none,())) s2) E s'->wpAny (model P w) A (body x (none,())) R' E s') ->
  R (none,()) s->wpAny (model P w) A (forIn vs (none,()) body) R E s
 | [],n,A,s,_,_,R,E,body,_,_,.nil,hb,h=>by rw[WW];exact UD h
 |d::ds,n,A,s,_,_,R,E,body,t,hn,.cons r1 r2,hb,h=>by simp only[bA,UH]at t;simp only[PyData.depthAll]at hn;rw[V3];refine UC (hb _ _ _ (nh d n A s _ _ _ E t.1 #[1] r1 ⟨rfl,?_⟩));exact oU ds n A s _ _ R E body t.2 #[1] r2 hb h
end
theorem yO{G:Value->Prop}{R:Option Bool×Unit->YR->Prop}(hb:∀y,G y->∀R':ForInStep (Option Bool×Unit)->YR->Prop,R' (.yield (none,())) s->wpAny (model P w) A (body y (none,())) R' E s) :
  ∀ys:YF,(∀y∈ys,G y)->R (none,()) s->wpAny (model P w) A (forIn ys (none,()) body) R E s
 | [],_,h=>UD h
 |y::ys,g,h=>by rw[V3];refine UC (hb y (g y (UZ ..)) _ ?_);exact yO hb ys (λz hz=>g z (UI _ hz)) h
theorem JB(hx:El vp w s.heap md (h0,x) d)(hq:Q false s)(ys:YF)(hys:∀y∈ys,∃h1 d1,El vp w s.heap md (h1,y) d1):wpAny (model P w) A (searchCouldBeSeen x ys) Q E s:=by
 unfold searchCouldBeSeen;refine UC (yO (G:=λy=>∃h1 d1,El vp w s.heap md (h1,y) d1) (λy gy R' hR=>?_) ys hys (UD hq));obtain⟨h1,d1,hy⟩:=gy;obtain⟨as,r1⟩:=hx.rd;obtain⟨bs,r2⟩:=hy.rd;dsimp only;refine Vp (λ_=>UD hR) λ_=>?_
 ·skip
  refine UC (j0 d 8 A s x as _ E hx.tr hx.dp r1 ?_);simp only[WA,UQ,Vu];refine UC (j0 d1 8 A s y bs _ E hy.tr hy.dp r2 ?_);simp only[WA,UQ,Vu];refine UC (nh d 8 A s x as _ E hx.tr hx.dp r1 ?_);simp only[UQ,Vu];refine UC (nh d1 8 A s y bs _ E hy.tr hy.dp r2 ?_);simp only[UQ,Vu];exact UD hR
theorem B2(x:El vp w h true e d):isSame e.2 e.2=pure true:=by
 obtain⟨as,r⟩:=x.rd;have k:=x.kd;obtain⟨e1,v⟩:=e;dsimp only at r ⊢
 cases r with
 |tuple=>exact if_pos (beq_self_eq_true _)
 |_=>simp[gE]at k
def Qn(es:YB)(i:Nat):Int:=(es[i]?.map (·.1)).getD 0
theorem bX(ho:s.heap.get? a=some (bu es ep t))(hf:t.fits es.size=true)(h:Q (es,ep,t) s):wpAny (model P w) A (setState a) Q E s:=wpAny_setState_of ho rfl hf h
def cE(t:YO)(h:Int)(slot:Nat)(wd:Bool):Prop:=(t.slot slot=if wd=true then .dummy else .empty)/\∃n,sq t.mask h n=slot/\∀m,m<n->t.slot (sq t.mask h m)≠.empty
theorem wy(S:cC vp w s.heap a true ds es ep t)(hx:El vp w s.heap true (h0,x) d)(hu:A.units+20<cLine)
 (hN:t.slot (sq t.mask h0 N)=.empty)(hne:∀m,m<N->t.slot (sq t.mask h0 m)≠.empty)(hNl:N<10*SetTable.turns t.mask)
 (q1:d∉ds->∀slot wd,cE t h0 slot wd->Q (.free slot wd) s)(q2:d∈ds->∀i,ds[i]?=some d->Q (.there (if adding=true then none else some i)) s) :
  ∀(fuel n:Nat) (st:Option SetTable.Probe),n<=N->N-n<fuel->pc (st.getD (t.probeStart h0))=steps t.mask n (c0 t.mask h0)->Dm t h0 n (st.getD (t.probeStart h0)).dummy ->
   (∀m,m<n->∀i,t.slot (sq t.mask h0 m)=.live i->ds[i]?≠some d)->wpAny (model P w) A (setSearchFrom a x h0 adding fuel st) Q E s
 |0,n,st,h1,h2,h3,h4,h5=>by omega
 |fuel+1,n,st,h1,h2,h3,h4,h5=>by
  have T:=S.tb;have hsh:∀(i:Nat) (e:Int×Value),es[i]?=some e->Qn es i=e.1:=λi e he=>by unfold Qn;rw[he];rfl
  have hlive:∀(j i:Nat),t.slot j=.live i->∃e d',es[i]?=some e/\ds[i]?=some d'/\El vp w s.heap true e d':=λj i hl=>by
   have hp:=(oz T.rp).mp hl;have hi:i<es.size:=by rw[<- T.sz];exact(VA.mp hp).1
   obtain⟨d',h1,h2⟩:=S.get (U1 hi);exact⟨es[i],d',U1 hi,h1,h2⟩
  have hdiff:∀(m i:Nat),t.slot (sq t.mask h0 m)=.live i->Qn es i≠h0->ds[i]?≠some d:=λm i hl hh z=>by obtain⟨e,d',e1,e2,e3⟩:=hlive _ i hl;rw[e2]at z;cases z;rw[hsh i e e1,e3.hs]at hh;exact hh hx.hs.symm
  unfold setSearchFrom;refine UC (bX S.ob T.fits ?_);dsimp only;rw[T.odd];simp only[UQ,Vu];have hg:=vc (hashAt:=Qn es) hN hne (10*SetTable.turns t.mask) n (st.getD (t.probeStart h0)) h1 #[1] h3 h4;have hpr:∀met,SetTable.probe.go t (Qn es) h0 (10*SetTable.turns t.mask) (st.getD (t.probeStart h0))=some met->t.probe (Qn es) h0 (st.getD (t.probeStart h0))=some met:=λ_ e=>e;rcases hg with⟨dm,e1,e2,e3⟩|⟨k,i,q,e1,e2,e3,e4,e5,e6,e7,e8⟩
  ·
   have hnd:d∉ds:=λhm=>by
    obtain⟨i,hi⟩:=VI hm;obtain⟨e,he,hel⟩:=kc S.el hi;rw[Vb]at he;have hil:i<t.place.size:=by rw[T.sz];exact(VA.mp he).1
    obtain⟨n',n1,n2⟩:=T.rc i e t.place[i] he (U1 hil);have hh:e.1=h0:=hel.hs.trans hx.hs.symm;rw[hh]at n1 n2;have hsl:t.slot (sq t.mask h0 n')=.live i:=(oz T.rp).mpr (by rw[n1];exact U1 hil)
    have hnN:n'<N:=by
     apply Vt;intro z;by_cases z2:n'=N
     ·rw[z2,hN]at hsl;cases hsl
     ·exact n2 N #[1] hN
    by_cases z:n'<n
    ·exact h5 n' z i hsl hi
    ·exact e3 n' #[1] hnN i hsl (by rw[hsh i e he];exact hh)
   split
   case h_2 hno=>exact absurd (hpr _ e1) (hno _)
   rename_i met hmet;have hme:=hmet.symm.trans (hpr _ e1);cases hme;dsimp only;rcases e2 with rfl|⟨m,m1,rfl,m3⟩
   ·exact UD (q1 hnd _ false ⟨by simpa using hN,N,rfl,hne⟩)
   ·dsimp only;rw[m3];have:(adding&&(SetTable.Slot.dummy != SetTable.Slot.dummy))=false:=by cases adding<;>rfl
    rw[this];simp only[UQ,Vu];exact UD (q1 hnd _ true ⟨by simpa using m3,m,rfl,λm' hm'=>hne m' #[1]⟩)
  ·
   split
   case h_2 hno=>exact absurd (hpr _ e1) (hno _)
   rename_i met hmet;have hme:=hmet.symm.trans (hpr _ e1);cases hme;dsimp only;obtain⟨e,d',f1,f2,f3⟩:=hlive _ i e4
   have go:wpAny (model P w) A (do
     let some (_,y):=es[i]? | unsupported "internal:set-entry"
     let equal <- holding [y] (eqBool y x)
     let (es',_,t') <- setState a
     if adding&&equal then return SetFound.there none
     let some same:=t'.sameMemory t.moves t.mask|unsupported "set.changed-during-lookup:is-the-new-block-at-the-old-address"
     let still <- match (if same then t'.slot (sq t.mask h0 k)else .empty)with
      |.live i'=>match es'[i']? with
       |some (_,y')=>do pure (if <- isSame y' y then some i' else none)
       |none=>pure none
      |_=>pure none
     match still with
     |none=>rule "set.search.anew";setSearchFrom a x h0 adding fuel none
     |some i'=>if equal then return .there (some i')else setSearchFrom a x h0 adding fuel (some q)) Q E s:=by
    rw[f1];obtain⟨he,y⟩:=e;dsimp only;refine UC (U8 (Rv f3 hx hu ?_));refine UC (bX S.ob T.fits ?_);dsimp only;have hsm:t.sameMemory t.moves t.mask=some true:=by unfold SetTable.sameMemory;simp
    by_cases z:d'=d
    ·subst z;have hm:d'∈ds:=U6 f2;have Q2:=q2 hm i f2
     cases adding with
     |true=>simp only[decide_true,Bool.and_self,VC]at Q2 ⊢;exact UD Q2
     |false=>simp only[XW,UQ,Vu]at Q2 ⊢;rw[hsm];dsimp only;rw[if_pos rfl,e4];dsimp only;rw[f1];dsimp only;refine UC (WE (a:=true) (B2 f3) ?_);refine UC (UD ?_);simp only[decide_true,VC];exact UD Q2
    ·simp only[VR z,Bool.and_false,UQ,Vu];rw[hsm];dsimp only;rw[if_pos rfl,e4];dsimp only;rw[f1];dsimp only;refine UC (WE (a:=true) (B2 f3) ?_);refine UC (UD ?_);simp only[VC];refine wy S hx hu hN hne hNl q1 q2 fuel (k+1) (some q) #[1] #[1] e6 e7 λm hm i' hi'=>?_;by_cases z1:m<n
     ·exact h5 m z1 i' hi'
     ·by_cases z2:m=k
      ·subst z2;rw[e4]at hi';cases hi';rw[f2];exact λq=>z (VZ q)
      ·exact hdiff m i' hi' (e8 m #[1] #[1] i' hi')
   by_cases hl:t.led=true
   ·rw[hl];simp only[WA,UQ,Vu];exact go
   ·have hl':t.led=false:=by simpa using hl
    rw[hl'];simp only[Bool.not_false,VC];refine UC (JB hx ?_ _ λy hy=>?_)
    ·simp only[UQ,Vu];exact go
    ·obtain⟨e',he',rfl⟩:=U2.mp hy;have hm:e'∈es.toList:=by have:=he';simp at this;simpa using this.1
     obtain⟨i',hi'⟩:=VI hm;obtain⟨d2,_,hd2⟩:=fL S.el hi';exact⟨e'.1,d2,hd2⟩
end
theorem uf{R:α->β->Prop}:∀{xs:List α} {ys:List β} (p:Nat),Paired R xs ys->Paired R (xs.take p) (ys.take p)/\Paired R (xs.drop p) (ys.drop p)
 |_,_,0,h=>⟨.nil,by grind⟩
 |_,_,p+1,.nil=>⟨.nil,.nil⟩
 |_,_,p+1,.cons r t=>by obtain⟨a,b⟩:=uf p t;exact⟨.cons r a,by grind⟩
theorem wz{R:α->β->Prop}:∀{xs us:List α} {ys vs:List β},Paired R xs ys->Paired R us vs->Paired R (xs++us) (ys++vs)
 |_,_,_,_,.nil,h=>h
 |_,_,_,_,.cons r t,h=>.cons r (wz t h)
theorem xV{R:α->β->Prop}(p:Nat)(h:Paired R xs.toList ys)(r:R x y):Paired R (SetTable.insertAt xs p x).toList (ys.take p++y::ys.drop p):=by rw[Xu];obtain⟨a,b⟩:=uf p h;exact wz a (.cons r b)
theorem iq{R:α->β->Prop}(p:List.Perm xs xs'):∀{ys:List β},Paired R xs ys->∃ys',List.Perm ys ys'/\Paired R xs' ys':=by
 induction p with
 |nil=>exact λh=>⟨_,.refl _,h⟩
 |cons x _ ih=>
  intro ys h
  cases h with
  |cons r t=>obtain⟨ys',a,b⟩:=ih t;exact⟨_,a.cons _,.cons r b⟩
 |swap x y l=>
  intro ys h
  cases h with
  |cons r t=>
   cases t with
   |cons r' t=>exact⟨_,.swap _ _ _,.cons r' (.cons r t)⟩
 |trans _ _ ih1 ih2=>intro ys h;obtain⟨y1,a,b⟩:=ih1 h;obtain⟨y2,c,d⟩:=ih2 b;exact⟨y2,a.trans c,d⟩
theorem wA(ds:YD)(p:Nat)(d:PyData):List.Perm (ds.take p++d::ds.drop p) (d::ds):=by have:=WC p ds;exact List.perm_middle.trans (by grind)
theorem oB{ds ds':YD}(p:List.Perm ds ds')(h:ds.Nodup):ds'.Nodup:=p.nodup_iff.mp h
section
variable {P:YN} {w:World} {A:YQ} {E:Yy} {s:YR} {vp:Value->Prop}
theorem El.text(x:El vp w h false e d):∃y t,d=.str y/\e.2=.str y t/\e.1=hashStr w y:=by
 obtain⟨as,r⟩:=x.rd;have k:=x.kd;have t:=x.tr;have hs:=x.hs;obtain⟨e1,v⟩:=e
 cases r with
 |str y u=>exact⟨y,u,rfl,rfl,hs⟩
 |tuple=>trivial
 |_=>trivial
theorem El.refs(x:El vp w h true e d):∃a,e.2=.ref a:=by
 obtain⟨as,r⟩:=x.rd;have k:=x.kd;obtain⟨e1,v⟩:=e
 cases r with
 |tuple=>grind
 |_=>trivial
theorem wB(p:Paired (El vp w h false) es ds):ElemsOf (strKind P w) es:=by intro e he;obtain⟨i,hi⟩:=VI he;obtain⟨d,_,x⟩:=fL p hi;obtain⟨y,t,e1,e2,e3⟩:=x.text;exact⟨⟨y,by rw[e2];show Value.isStrOf y (.str y t)=true;simp[Value.isStrOf],e3⟩,by rw[e2];rfl⟩
theorem B3(p:Paired (El vp w h false) es ds)(y:Str) :
  match es.findIdx? (λe=>(strKind P w).is y e.2)with
  |some j=>ds[j]?=some (.str y)
  |none=>PyData.str y∉ds:=by
 have hk:∀{e:Int×Value} {d:PyData},El vp w h false e d->((strKind P w).is y e.2=true<->d=.str y):=λ{e d} x=>by
  obtain⟨z,t,rfl,e2,_⟩:=x.text;rw[e2];show Value.isStrOf y (.str z t)=true<->_;constructor
  ·intro q;obtain⟨u,hu⟩:=Value.isStrOf_shape q
   grind
  grind[Value.isStrOf]
 cases hr:es.findIdx? (λe=>(strKind P w).is y e.2)with
 |some j=>obtain⟨hj,hp,_⟩:=List.findIdx?_eq_some_iff_getElem.mp hr;obtain⟨d,h1,h2⟩:=fL p (UK hj);show ds[j]?=_;rw[h1,(hk h2).mp hp]
 |none=>
  intro hm;obtain⟨i,hi⟩:=VI hm;obtain⟨e,h1,h2⟩:=kc p hi;have:=List.findIdx?_eq_none_iff.mp hr e (U6 h1)
  grind
theorem cC.scan(S:cC vp w h a false ds es ep t)(hx:x=.str y u):byScan x es=true:=
 byScan_of (knd:=strKind default w) (by rw[hx];rfl) (by rw[S.size];have:=S.ln;show _<4096;omega) (wB S.el)
theorem JC:byScan (.ref b) es=false:=rfl
theorem u6(S:cC vp w s.heap a md ds es ep t)(hx:El vp w s.heap md (h0,x) d)(hu:A.units+20<cLine)
 (q1:d∉ds->Q none s)(q2:∀i,ds[i]?=some d->Q (some i) s):wpAny (model P w) A (setFind a x h0) Q E s:=by
 unfold setFind setFindIn;refine UC (bX S.ob S.tb.fits ?_);dsimp only
 cases md with
 |true=>obtain⟨b,hb⟩:=hx.refs;dsimp only at hb;subst hb;rw[JC];simp only[UQ,Vu];obtain⟨N,n1,n2,n3⟩:=S.tb.free h0;unfold setSearch;have hle:=S.tb.le;refine UC (wy (N:=N) S hx hu n2 n3 (by unfold SetTable.turns;omega) (λhn slot wd _=>UD (q1 hn)) (λ_ i hi=>UD (q2 i hi)) 100000 0 none #[1] #[1] rfl (.inl rfl) λm hm=>by omega)
 |false=>
  obtain⟨y,u,rfl,e2,e3⟩:=hx.text;dsimp only at e2 e3;rw[S.scan e2];simp only[VC];refine UC (V5 ?_);have hk:(strKind P w).is y x=true:=by rw[e2];show Value.isStrOf y (.str y u)=true;simp[Value.isStrOf]
  rw[e3];refine UC (wpAny_setScan_of (knd:=strKind P w) hk S.ob rfl S.tb.fits (wB S.el) ?_);have ti:=B3 (P:=P) S.el y
  cases hr:es.toList.findIdx? (λe=>(strKind P w).is y e.2)with
  |some j=>rw[hr]at ti;dsimp only at ti ⊢;refine UD ?_;rw[Nat.zero_add];exact q2 j ti
  |none=>rw[hr]at ti;dsimp only at ti ⊢;exact UD (q1 ti)
end
section
variable {P:YN} {w:World} {A:YQ} {E:Yy} {s:YR} {vp:Value->Prop}
theorem qV{α:Type}{body:α->Option Bool×Unit->Sem (ForInStep (Option Bool×Unit))}{G:α->Prop}{R:Option Bool×Unit->YR->Prop}(hb:∀y,G y->∀R':ForInStep (Option Bool×Unit)->YR->Prop,R' (.yield (none,())) s->R' (.done (some false,())) s->wpAny (model P w) A (body y (none,())) R' E s) :
  ∀ys:List α,(∀y∈ys,G y)->R (none,()) s->R (some false,()) s->wpAny (model P w) A (forIn ys (none,()) body) R E s
 | [],_,h,_=>UD h
 |y::ys,g,h,h'=>by
  rw[V3];refine UC (hb y (g y (UZ ..)) _ ?_ ?_)
  ·exact qV hb ys (λz hz=>g z (UI _ hz)) h h'
  ·exact UD h'
mutual
theorem yP:∀(d:PyData) (n:Nat) (v:Value) (as:YE) (Q:Bool->YR->Prop),aC d=true->d.depth<=n->Reads s.heap v d as->(∀b,Q b s)->wpAny (model P w) A (hashByValue n v) Q E s
 |.str x,n,v,as,Q,_,_,r,h=>by
  cases r;have:hashByValue n (.str x ‹_›)=pure false:=by cases n<;>rfl
  rw[this];exact UD (h _)
 |.tuple ds,n,v,as,Q,t,hn,r,h=>by
  cases r with
  |tuple ho hc hd hi=>
   rename_i a o items k;have hT:s.TypeIs (.ref a) "tuple" := ⟨o,ho,hc⟩;simp only[aC]at t;simp only[PyData.depth]at hn;obtain⟨m,rfl⟩:∃m,n=m+1:=⟨n-1,by omega⟩;unfold hashByValue;refine UC (Wa hT Xb.lookup ?_);dsimp only;refine UC (VM ho hd ?_);simp only[Ww];refine UC ?_;rw[<- Wd];refine qV (G:=λy=>∃d' as',aC d'=true/\d'.depth<=m/\Reads s.heap y d' as'/\∀Q':Bool->YR->Prop,(∀b,Q' b s)->wpAny (model P w) A (hashByValue m y) Q' E s) (λy ⟨d',as',g1,g2,g3,g4⟩ R' r1 r2=>?_) items.toList ?_ (UD (h _)) (UD (h _))
   ·refine UC (g4 _ λb=>?_);cases b
    ·exact UD r2
    ·exact UD r1
   ·exact wC ds m items.toList _ t #[1] hi
 |.none,_,_,_,_,t,_,_,_=>by simp[aC]at t
 |.bool _,_,_,_,_,t,_,_,_=>by simp[aC]at t
 |.int _,_,_,_,_,t,_,_,_=>by simp[aC]at t
 |.list _,_,_,_,_,t,_,_,_=>by simp[aC]at t
 |.dict _,_,_,_,_,t,_,_,_=>by simp[aC]at t
theorem wC:∀(ds:YD) (m:Nat) (vs:YF) (as:YE),bA ds=true->PyData.depthAll ds<=m->ReadsAll s.heap vs ds as->∀y∈vs,∃d' as',aC d'=true/\d'.depth<=m/\Reads s.heap y d' as'/\∀Q':Bool->YR->Prop,(∀b,Q' b s)->wpAny (model P w) A (hashByValue m y) Q' E s
 | [],m,_,_,_,_,.nil,y,hy=>by simp at hy
 |d::ds,m,_,_,t,hn,.cons r1 r2,y,hy=>by
  simp only[bA,UH]at t;simp only[PyData.depthAll]at hn;rcases UP.mp hy with rfl|hy
  ·exact⟨d,_,t.1,by omega,r1,λQ' h=>yP d m _ _ Q' t.1 #[1] r1 h⟩
  ·exact wC ds m _ _ t.2 #[1] r2 y hy
end
theorem T5(x:El vp w s.heap md e d)(h:∀b,Q b s):wpAny (model P w) A (hashByValue 8 e.2) Q E s:=by obtain⟨as,r⟩:=x.rd;exact yP d 8 _ as Q x.tr x.dp r h
theorem dG(ho:h.get? a=some (bu es ep t))(sb:Heap.SameBut a h h'):∀b o vs n,h.get? b=some o->o.cls=.type "tuple" -> o.data=.seq vs n->h'.get? b=some o:=λb o vs n e c _=>by
 refine(sb.2 b λz=>?_).trans e
 grind
theorem iu(ho:s.heap.get? a=some (bu es ep t))(hz:es'.size<=1000)
 (h:∀h',h'.get? a=some (bu es' (ep+1) t')->Heap.SameBut a s.heap h'->Q () {s with heap:=h'}):wpAny (model P w) A (storeSet a es' t') Q E s:=by
 refine wpAny_storeSet_of ho rfl (h _ ?_ (VD ..)) (by grind[sizeLine_eq]);have:=VX (Obj.putSet es' t') ho (by rfl);rw[putSet_of es' t' rfl]at this
 grind
structure qW(vp:Value->Prop)(w:World)(h:Heap)(md:Bool)(ds:YD)(es:YB)(t:YO):Prop where
 tb:xU es t
 ld:t.led=true\/cP w=true
 nd:ds.Nodup
 ln:ds.length<=120
 el:Paired (El vp w h md) es.toList ds
theorem qW.size(S:qW vp w h md ds es t):es.size=ds.length:=by
 have:=U3 S.el
 grind
theorem qW.keep(S:qW vp w h md ds es t)(k:∀b o vs n,h.get? b=some o->o.cls=.type "tuple" -> o.data=.seq vs n->h'.get? b=some o):qW vp w h' md ds es t:=
 ⟨S.tb,S.ld,S.nd,S.ln,Paired.lB S.el λ_ _ x=>El.keep x k⟩
theorem wD(S:cC vp w h a md ds es ep t)(hx:El vp w h md (h0,x) d)(hn:d∉ds)(hl:ds.length<120)(R:cE t h0 slot wd)(pl:Bool) :
  ∃ds',List.Perm ds' (d::ds)/\qW vp w h md ds' (SetTable.insertAt es (t.put slot).2 (h0,x)) {(t.put slot).1 with plain:=pl}/\((!wd&&({(t.put slot).1 with plain:=pl}:YO).tooFull)=false->({(t.put slot).1 with plain:=pl}:YO).fill*5<({(t.put slot).1 with plain:=pl}:YO).mask*3):=by
 obtain⟨r1,n,r2,r3⟩:=R;have hs:∀i,t.slot slot≠.live i:=λi z=>by grind
 have hm:slot<=t.mask:=by
  rw[<- r2];unfold sq
  have bound:∀q (c:Pc),c.j+c.more<=t.mask->(steps t.mask q c).j+(steps t.mask q c).more<=t.mask:=by
   intro q
   induction q with
   |zero=>intro c hc;exact hc
   |succ q ih=>
    intro c hc;simp only[steps];refine ih _ ?_;unfold step;split
    ·show c.j+1+(c.more-1)<=t.mask;omega
    ·show(SetTable.leap t.mask c.i c.pt).1+(SetTable.runEnd t.mask (SetTable.leap t.mask c.i c.pt).1-(SetTable.leap t.mask c.i c.pt).1)<=t.mask;have:(SetTable.leap t.mask c.i c.pt).1<t.mask+1:=XR _ #[1];unfold SetTable.runEnd;split<;>omega
  have hb:=bound n (c0 t.mask h0) (by
   show SetTable.bits h0 % (t.mask+1)+(SetTable.runEnd t.mask (SetTable.bits h0 % (t.mask+1))-SetTable.bits h0 % (t.mask+1))<=t.mask;have:SetTable.bits h0 % (t.mask+1)<t.mask+1:=XR _ #[1];unfold SetTable.runEnd
   split<;>omega)
  omega
 obtain⟨T1,T2⟩:=Mj (x:=x) S.tb hs hm r2 r3;refine⟨_,wA ds (t.put slot).2 d,⟨T1.flags rfl rfl rfl,S.ld,?_,?_,xV _ S.el hx⟩,λhq=>?_⟩
 ·exact oB (wA ds _ d).symm (VE.mpr ⟨hn,S.nd⟩)
 ·rw[(wA ds _ d).length_eq];simp;omega
 ·cases wd with
  |true=>have:=T2 (by simpa using r1);show(t.put slot).1.fill*5<t.mask*3;rw[this];exact S.tb.tf
  |false=>simp only[Bool.not_false,Bool.true_and]at hq;unfold SetTable.tooFull at hq;simp only[decide_eq_false_iff_not]at hq;exact Nat.lt_of_not_le hq
theorem ug(S:qW vp w h md ds es t)(hw:wanted<1024)(hn:es.size*5<wanted*3\/es.size<=4) :
  ∃t' order ds',t.relaid (es.map (·.1)) wanted=some (t',order)/\List.Perm ds' ds/\qW vp w h md ds' (order.filterMap (es[·]?)) t'/\Tab (order.filterMap (es[·]?)) t'/\List.Perm order.toList (List.range es.size)/\t'.mask+1=SetTable.sizeAbove wanted:=by
 obtain⟨t',order,e1,e2,e3,e4,e5,e6,_⟩:=G4 hw hn;obtain⟨ds',p1,p2⟩:=iq e3.symm S.el;exact⟨t',order,ds',e1,p1.symm,⟨e2.PC,by rw[e4];exact S.ld,oB p1 S.nd,by rw[<- p1.length_eq];exact S.ln,p2⟩,e2,e5,e6⟩
theorem B4(h:n<=121):SetTable.grown n<1024/\(n*5<SetTable.grown n*3\/n<=4):=by
 grind[SetTable.grown]
theorem qW.at(S:qW vp w h md ds es t)(T:Tab es t)(ho:h.get? a=some (bu es ep t)):cC vp w h a md ds es ep t:=⟨ho,T,S.ld,S.nd,S.ln,S.el⟩
theorem B5(ho:s.heap.get? a=some (bu es ep t))(S:qW vp w s.heap md ds es t)(hw:wanted<1024)(hn:es.size*5<wanted*3\/es.size<=4)
 (h:∀h' ds' es' ep' t',Heap.SameBut a s.heap h'->cC vp w h' a md ds' es' ep' t'->List.Perm ds' ds->t'.mask+1=SetTable.sizeAbove wanted->Q () {s with heap:=h'}):wpAny (model P w) A (setRelay a wanted) Q E s:=by
 unfold setRelay;refine UC (bX ho S.tb.fits ?_);dsimp only;have hsz:=(l6 wanted hw).2;have hsl:¬ SetTable.sizeAbove wanted>sizeLine:=by rw[VB];simp only[UP,Vj,WI]at hsz;omega
 rw[if_neg hsl];obtain⟨t',order,ds',e1,e2,e3,e4,_,e5⟩:=ug S hw hn;refine UC ?_;rw[e1];show wpAny _ _ (if((order.filterMap (es[·]?)).size != es.size)=true then _ else pure (order.filterMap (es[·]?),t')) _ _ _;have hse:(order.filterMap (es[·]?)).size=es.size:=by rw[e3.size,S.size,e2.length_eq]
 rw[if_neg (by simp[hse])];refine UD ?_;dsimp only;refine iu ho (by rw[hse,S.size];have:=S.ln;omega) λh' g1 g2=>?_;exact h h' ds' _ _ t' g2 ((e3.keep (dG ho g2)).at e4 g1) e2 e5
end
section
variable {P:YN} {w:World} {A:YQ} {E:Yy} {s:YR} {vp:Value->Prop}
theorem JD(S:cC vp w s.heap a md ds es ep t)(hx:El vp w s.heap md (h0,x) d)(hn:d∉ds)(hl:ds.length<120)(R:cE t h0 slot wd)(pl:Bool)
 (q:∀h' ds',Heap.SameBut a s.heap h'->bW vp w h' a md ds'->List.Perm ds' (d::ds)->R' true {s with heap:=h'}) :
  wpAny (model P w) A (do
   storeSet a (SetTable.insertAt es (t.put slot).2 (h0,x)) {(t.put slot).1 with plain:=pl}
   if(!wd&&({(t.put slot).1 with plain:=pl}:YO).tooFull)=true then do
    setRelay a (SetTable.grown (es.size+1))
    pure true
   else pure true) R' E s:=by
 obtain⟨ds',p1,H,p3⟩:=wD S hx hn hl R pl;have hsz:(SetTable.insertAt es (t.put slot).2 (h0,x)).size=es.size+1:=ip;have hes:=S.size;refine UC (iu S.ob #[1] λh' g1 g2=>?_);have H':=H.keep (dG S.ob g2);by_cases hf:(!wd&&({(t.put slot).1 with plain:=pl}:YO).tooFull)=true
 ·rw[if_pos hf];obtain⟨k1,k2⟩:=B4 (n:=es.size+1) #[1];refine UC (B5 g1 H' k1 (by simp_all) λh2 ds2 es2 ep2 t2 f1 f2 f3 _=>UD ?_);exact q h2 ds2 (g2.trans f1) ⟨_,_,_,f2⟩ (f3.trans p1)
 ·rw[if_neg hf];exact UD (q h' ds' g2 ⟨_,_,_,H'.at (H'.tb.tab (p3 (by grind))) g1⟩ p1)
theorem G5(T:Tab es t)(h0:Int):∃slot wd,t.freeSlot h0=some (slot,wd)/\cE t h0 slot wd:=by
 obtain⟨N,n1,n2,n3⟩:=T.free h0;have hg:=vc (hashAt:=λ_=>h0+1) n2 n3 (10*SetTable.turns t.mask) 0 (t.probeStart h0) #[1] (by grind[SetTable.turns]) rfl (.inl rfl);rcases hg with⟨dm,e1,e2,_⟩|⟨k,i,q,_,_,_,_,e5,_⟩
 ·have hp:t.probe (λ_=>h0+1) h0 (t.probeStart h0)=some (.empty (sq t.mask h0 N) dm):=e1;unfold SetTable.freeSlot;rw[hp];rcases e2 with rfl|⟨m,m1,rfl,m3⟩
  ·exact⟨_,_,rfl,by grind,N,rfl,n3⟩
  ·exact⟨_,_,rfl,by grind,m,rfl,λm' hm'=>n3 m' #[1]⟩
 ·omega
theorem B6(S:qW vp w h md ds es t)(hw:wanted<1024)(hn:es.size*5<wanted*3\/es.size<=4) :
  ∃es' t' ds',relayAll t es wanted=(es',t',false)/\List.Perm ds' ds/\qW vp w h md ds' es' t'/\Tab es' t'/\es'.size=es.size:=by
 obtain⟨t',order,ds',e1,e2,e3,e4,e5,_⟩:=ug S hw hn;have hse:(order.filterMap (es[·]?)).size=es.size:=by rw[e3.size,S.size,e2.length_eq]
 refine⟨_,_,ds',?_,e2,e3,e4,hse⟩;unfold relayAll;rw[e1];dsimp only;rw[if_pos];simp;exact⟨List.isPerm_iff.mpr e5,e4.fits⟩
theorem D6(S:bW vp w s.heap a md ds)(hx:El vp w s.heap md (h0,x) d)(hu:A.units+20<cLine)(hl:ds.length<120)
 (q1:d∈ds->Q false s)(q2:d∉ds->∀h' ds',Heap.SameBut a s.heap h'->bW vp w h' a md ds'->List.Perm ds' (d::ds)->Q true {s with heap:=h'}) :
  wpAny (model P w) A (setAddHashed a x h0) Q E s:=by
 obtain⟨es,ep,t,S⟩:=S;unfold setAddHashed setAddHashedIn;refine U8 (UC (bX S.ob S.tb.fits ?_));dsimp only
 cases md with
 |true=>
  obtain⟨b,hb⟩:=hx.refs;dsimp only at hb;subst hb;rw[JC];simp only[UQ,Vu];obtain⟨N,n1,n2,n3⟩:=S.tb.free h0;have hle:=S.tb.le;unfold setSearch;refine UC (wy (N:=N) (adding:=true) S hx hu n2 n3 (by unfold SetTable.turns;omega) (λhn slot wd R=>?_) (λhm i hi=>?_) 100000 0 none #[1] #[1] rfl (.inl rfl) λm hm=>by omega)
  ·dsimp only;refine UC (bX S.ob S.tb.fits ?_);dsimp only
   have fin:∀pl,wpAny (model P w) A (do
     storeSet a (SetTable.insertAt es (t.put slot).2 (h0,.ref b)) {(t.put slot).1 with plain:=pl}
     if(!wd&&({(t.put slot).1 with plain:=pl}:YO).tooFull)=true then do
      setRelay a (SetTable.grown (es.size+1))
      pure true
     else pure true) Q E s:=λpl=>JD S hx hn hl R pl (q2 hn)
   refine Vp (λ_=>UC (T5 hx λbv=>?_)) λ_=>UC (UD (fin (t.put slot).1.plain))
   cases bv with
   |true=>exact fin (t.put slot).1.plain
   |false=>exact fin false
  ·simp only[VC];exact UD (q1 hm)
 |false=>
  obtain⟨y,u,rfl,e2,e3⟩:=hx.text;dsimp only at e2 e3;rw[S.scan e2];simp only[VC];unfold setAddByScan;refine UC ?_;refine UC (V5 ?_);have hk:(strKind P w).is y x=true:=by rw[e2];show Value.isStrOf y (.str y u)=true;simp[Value.isStrOf]
  have ti:=B3 (P:=P) S.el y;rw[show h0=(strKind P w).hash y from e3];refine UC (wpAny_setScan_of (knd:=strKind P w) hk S.ob rfl S.tb.fits (wB S.el) ?_);rw[<- show h0=(strKind P w).hash y from e3]
  cases hr:es.toList.findIdx? (λe=>(strKind P w).is y e.2)with
  |some j=>rw[hr]at ti;dsimp only at ti ⊢;exact UD (UD (q1 (U6 ti)))
  |none=>
   rw[hr]at ti;dsimp only at ti ⊢;obtain⟨slot,wd,f1,R⟩:=G5 S.tb h0;obtain⟨ds1,_,H1,_⟩:=wD S hx ti hl R (t.put slot).1.plain;have hfit:(t.put slot).1.fits (SetTable.insertAt es (t.put slot).2 (h0,x)).size=true:=H1.tb.fits;have hlay:layNew t es h0 x=(SetTable.insertAt es (t.put slot).2 (h0,x),(t.put slot).1,wd,false):=by unfold layNew;rw[f1];dsimp only;unfold SetTable.orStandIn;rw[if_pos hfit,hfit];rfl
   rw[hlay];dsimp only;refine UC (UD ?_);have hsz:(SetTable.insertAt es (t.put slot).2 (h0,x)).size=es.size+1:=ip;have hle:=S.ln;have hes:=S.size
   have fin:∀pl,wpAny (model P w) A (do
     storeSet a (SetTable.insertAt es (t.put slot).2 (h0,x)) {(t.put slot).1 with plain:=pl}
     if(!wd&&({(t.put slot).1 with plain:=pl}:YO).tooFull)=true then do
      (match (relayAll {(t.put slot).1 with plain:=pl} (SetTable.insertAt es (t.put slot).2 (h0,x)) (SetTable.grown (SetTable.insertAt es (t.put slot).2 (h0,x)).size)).2.2 with|true=>rule "set.scan.the-table-gave-way" |false=>pure ())
      storeSet a (relayAll {(t.put slot).1 with plain:=pl} (SetTable.insertAt es (t.put slot).2 (h0,x)) (SetTable.grown (SetTable.insertAt es (t.put slot).2 (h0,x)).size)).1 (relayAll {(t.put slot).1 with plain:=pl} (SetTable.insertAt es (t.put slot).2 (h0,x)) (SetTable.grown (SetTable.insertAt es (t.put slot).2 (h0,x)).size)).2.1
      pure (some true)
     else pure (some true)) (λr s'=>wpAny (model P w) A (match r with|some added=>pure added|none=>setAddHashedIn a x h0 99999) Q E s') E s:=λpl=>by
    obtain⟨ds',p1,H,p3⟩:=wD S hx ti hl R pl;refine UC (iu S.ob (by rw[hsz];omega) λh' g1 g2=>?_);have H':=H.keep (dG S.ob g2);by_cases hf:(!wd&&({(t.put slot).1 with plain:=pl}:YO).tooFull)=true
    ·rw[if_pos hf];obtain⟨k1,k2⟩:=B4 (n:=es.size+1) #[1];obtain⟨es2,t2,ds2,m1,m2,m3,m4,m5⟩:=B6 (wanted:=SetTable.grown (SetTable.insertAt es (t.put slot).2 (h0,x)).size) H' (by rw[hsz];exact k1) (by rw[hsz];exact k2);rw[m1];dsimp only;refine UC (UD ?_);refine UC (iu (s:={s with heap:=h'}) g1 (by rw[m5,hsz];omega) λh2 g3 g4=>UD (UD ?_));exact q2 ti h2 ds2 (g2.trans g4) ⟨_,_,_,(m3.keep (dG g1 g4)).at m4 g3⟩ (m2.trans p1)
    ·rw[if_neg hf];exact UD (UD (q2 ti h' ds' g2 ⟨_,_,_,H'.at (H'.tb.tab (p3 (by simpa using hf))) g1⟩ p1))
   refine Vp (λ_=>UC (T5 hx λbv=>?_)) λ_=>UC (UD (fin (t.put slot).1.plain))
   cases bv with
   |true=>exact fin (t.put slot).1.plain
   |false=>exact fin false
end
theorem gf{α:Type}{l:List α}(h:i<l.length):List.Perm (l[i]::l.eraseIdx i) l:=by
 rw[XS];have e:=WC i l;rw[Vs h]at e
 conv=>rhs;rw[<- e]
 exact List.perm_middle.symm
theorem FN(next:Nat->Nat):∀(fuel k:Nat) (left:List α) (out:Array α),fuel=left.length->List.Perm (pickOrder.go next fuel k left out).toList (out.toList++left)
 |0,k,left,out,h=>by
  have  := V4.mp h.symm
  simp_all[pickOrder.go]
 |fuel+1,k,left,out,h=>by
  have hpos:0<left.length:=by omega
  have hlt:next k % left.length<left.length:=XR _ hpos;simp[pickOrder.go];rw[UK hlt];refine(FN next fuel _ _ _ (by grind)).trans ?_;rw[Array.toList_push,List.append_assoc,List.singleton_append];refine List.Perm.append_left _ ?_;exact gf hlt
theorem yQ(next:Nat->Nat)(xs:Array α):List.Perm (pickOrder next xs).toList xs.toList:=by unfold pickOrder;simpa using FN next xs.size 0 xs.toList #[] (by simp)
section
variable {P:YN} {w:World} {A:YQ} {E:Yy} {s:YR} {vp:Value->Prop}
theorem Ag(hn:n≠0)(h:∀i,i<n->Q i {s with drawn:=s.drawn.bump src}):wpAny (model P w) A (choose src n) Q E s:=λΓ p hΓ=>⟨hn,h _ (XR _ (Nat.pos_of_ne_zero hn))⟩
theorem Ah:∀(n:Nat) (xs:List α) (s:YR) (Q:List α->YR->Prop),n=xs.length->(∀L dr,List.Perm L xs->Q L {s with drawn:=dr})->wpAny (model P w) A (drawOrder n xs) Q E s
 |0,xs,s,Q,h,q=>by have  := V4.mp h.symm;subst this;exact UD (q [] s.drawn (.refl _))
 |n+1,[],s,Q,h,q=>by grind
 |n+1,x::xs,s,Q,h,q=>by unfold drawOrder;refine UC (Ag (by simp) λi hi=>?_);rw[UK hi];refine UC (Ah n _ _ _ (by grind) λL dr p=>UD ?_);exact q _ dr ((p.cons _).trans (gf hi))
theorem gL(h:Q (cP w) s):wpAny (model P w) A setsByText Q E s:=UC (Xm (UD h))
theorem FO(S:cC vp w s.heap a md ds es ep t)(q:∀L dr,List.Perm (L:YB).toList es.toList->Q L {s with drawn:=dr}):wpAny (model P w) A (setWalk a) Q E s:=by
 refine UC (bX S.ob S.tb.fits ?_);refine UC (gL ?_);refine Vp (λ_=>?_) λhb=>?_
 ·refine UC (Xm (UD ?_));exact q _ s.drawn (yQ _ _)
 ·refine Vp (λ_=>?_) λ_=>?_
  ·refine UC (Ah es.size es.toList s _ (by simp) λL dr p=>UD (q _ dr #[1]))
  ·have hl:t.led=true:=by
    rcases S.ld with h|h
    ·exact h
    grind
   refine UC (m:=(if _=true then unsupported "set:maker-not-led" else pure ())) ?_;rw[hl];exact UD (UD (q es s.drawn (.refl _)))
theorem JE:∀(sets:YE) {Q:Bool->YR->Prop},(∀a∈sets,∃md ds,bW vp w s.heap a md ds)->(∀b,Q b s)->wpAny (model P w) A (setsQuiet sets) Q E s:=by
 intro sets Q hs hQ;unfold setsQuiet;refine UC ?_;refine qV (G:=λa=>∃md ds,bW vp w s.heap a md ds) (λa ⟨md,ds,es,ep,t,S⟩ R' r1 r2=>?_) sets hs (UD (hQ true)) (UD (hQ false));refine UC (Yk S.ob rfl S.tb.fits ?_);refine UC ?_;rw[<- Wd];refine qV (G:=λe=>e∈es.toList) (λe he R2 q1 q2=>?_) es.toList (λ_ h=>h) (UD r1) (UD r2);obtain⟨i,hi⟩:=VI he;obtain⟨d,_,x⟩:=fL S.el hi;obtain⟨h1,v⟩:=e;dsimp only
 cases md with
 |true=>
  obtain⟨as,r⟩:=x.rd;have k:=x.kd;dsimp only at r
  cases r with
  |tuple ho hc hd hi=>have hT:s.TypeIs (.ref _) "tuple" := ⟨_,ho,hc⟩;refine UC (Wa hT Yh.lookup ?_);exact Vp (λ_=>UD q2) λ_=>UD q1
  |_=>simp[gE]at k
 |false=>obtain⟨y,u,_,e2,_⟩:=x.text;dsimp only at e2;subst e2;exact UD q1
end
section
variable {P:YN} {w:World} {A:YQ} {E:Yy} {s:YR} {vp:Value->Prop}
theorem Tab.flags(T:Tab es t)(h1:t'.mask=t.mask)(h2:t'.place=t.place)(h3:t'.dummies=t.dummies):Tab es t':=
 (T.PC.flags h1 h2 h3).tab (by have:=T.tf;simp_all[SetTable.fill])
theorem cC.other(S:cC vp w h a md ds es ep t)(ob:h.get? b=some (bu es' ep' t'))(sb:Heap.SameBut b h h')(ne:a≠b):cC vp w h' a md ds es ep t:=
 ⟨(sb.2 a ne).trans S.ob,S.tb,S.ld,S.nd,S.ln,Paired.lB S.el λ_ _ x=>El.keep x (dG ob sb)⟩
theorem cC.keep(S:cC vp w h a md ds es ep t)(k:∀b o,h.get? b=some o->h'.get? b=some o):cC vp w h' a md ds es ep t:=
 ⟨k _ _ S.ob,S.tb,S.ld,S.nd,S.ln,Paired.lB S.el λ_ _ x=>El.keep x λb o _ _ e _ _=>k b o e⟩
theorem yR(S:cC vp w s.heap o md eds es ep t)(F:bW vp w s.heap f md' fds)(ne:o≠f)
 (q:∀(L:YB) h' dr,List.Perm L.toList es.toList->Heap.SameBut f s.heap h'->bW vp w h' f md' fds->Q L {s with heap:=h',drawn:=dr}):wpAny (model P w) A (setWalkUnseen o [f] (some f)) Q E s:=by
 have q0:∀(L:YB) dr,List.Perm L.toList es.toList->Q L {s with drawn:=dr}:=λL dr p=>q L s.heap dr p (Xf _ _) F;unfold setWalkUnseen;refine UC (bX S.ob S.tb.fits ?_);dsimp only;refine UC (gL ?_);refine Vp (λ_=>FO S q0) λhb=>?_;refine UC (JE (vp:=vp) _ (λa ha=>?_) λb=>?_)
 ·simp only[UP,Vj,WI]at ha;rcases ha with rfl|rfl
  ·exact⟨md,eds,_,_,_,S⟩
  grind
 ·refine Vp (λ_=>FO S q0) λ_=>?_;refine UC (V5 ?_);obtain⟨ef,epf,tf,F⟩:=F;refine UC (bX F.ob F.tb.fits ?_);dsimp only;refine Vp (λ_=>?_) λ_=>UD (q0 es s.drawn (.refl _));refine UC (iu F.ob (by rw[F.size];have:=F.ln;omega) λh' g1 g2=>UD ?_);refine q es h' s.drawn (.refl _) g2 ⟨_,_,_,g1,F.tb.flags rfl rfl rfl,?_,F.nd,F.ln,Paired.lB F.el λ_ _ x=>El.keep x (dG F.ob g2)⟩;rcases S.ld with h1|h1
  ·rcases F.ld with h2|h2
   ·exact .inl (by show(tf.led&&t.led)=true;rw[h1,h2];rfl)
   ·exact .inr h2
  ·exact .inr h1
theorem Mn(S:bW vp w s.heap a md ds)(hm:ds.length+more<=240)
 (q:∀h' ds' es' ep' t',Heap.SameBut a s.heap h'->cC vp w h' a md ds' es' ep' t'->List.Perm ds' ds->(more=0\/more*5<t'.mask*3)->Q () {s with heap:=h'}):wpAny (model P w) A (setRoomFor a more) Q E s:=by
 obtain⟨es,ep,t,S⟩:=S;unfold setRoomFor;refine UC (bX S.ob S.tb.fits ?_);dsimp only;have hsz:t.place.size=ds.length:=by rw[S.tb.sz,S.size]
 unfold SetTable.roomFor;by_cases hc:(t.fill+more)*5>=t.mask*3
 ·rw[if_pos hc];dsimp only;have H:qW vp w s.heap md ds es t:=⟨S.tb.PC,S.ld,S.nd,S.ln,S.el⟩;have hes:=S.size;have hln:=S.ln;refine B5 S.ob H #[1] ?_ λh' ds' es' ep' t' g1 g2 g3 g4=>q h' ds' es' ep' t' g1 g2 g3 ?_
  ·omega
  ·have:=(l6 ((t.place.size+more)*2) (by rw[hsz];omega)).1;omega
 ·rw[if_neg hc];dsimp only;refine UD (q s.heap ds es ep t (Xf _ _) S (.refl _) ?_);omega
theorem wF{h0:Heap}{R:PUnit->YR->Prop}(hu:A.units+20<cLine)(hao:a≠o)(ho:h0.get? o=some oo)
 (hb:∀(e:Int×Value) (s1:YR) (R':ForInStep PUnit->YR->Prop),wpAny (model P w) A (setAddHashed a e.2 e.1) (λ_ s2=>s2.heap.get? o=some oo/\R' (.yield ⟨⟩) s2) E s1->wpAny (model P w) A (body e ⟨⟩) R' E s1) :
  ∀(l:List (Int×Value)) (ys ds:YD) (s:YR),Paired (El vp w s.heap md) l ys->bW vp w s.heap a md ds->ds.length+ys.length<=120->s.heap.get? o=some oo ->
   (∀h' ds',Heap.SameBut a s.heap h'->bW vp w h' a md ds'->(∀d,d∈ds'<->d∈ds\/d∈ys)->R ⟨⟩ {s with heap:=h'})->wpAny (model P w) A (forIn l PUnit.unit body) R E s
 | [],_,ds,s,.nil,S,hl,hoo,q=>by rw[WW];exact UD (q s.heap ds (Xf _ _) S λd=>by simp)
 |e::l,_,ds,s,.cons (b:=y) (l₂:=ys) x xs,S,hl,hoo,q=>by
  rw[V3];simp only[Vf]at hl;refine UC (hb e s _ (D6 (d:=y) S x hu #[1] (λhm=>⟨hoo,?_⟩) λhn h' ds' sb S' p=>⟨(sb.2 o hao.symm).trans hoo,?_⟩))
  ·exact wF hu hao ho hb l ys ds s xs S #[1] hoo λh' ds' g1 g2 g3=>q h' ds' g1 g2 λd=>by
    grind
  ·obtain⟨es1,ep1,t1,S1⟩:=S;refine wF hu hao ho hb l ys ds' {s with heap:=h'} (Paired.lB xs λ_ _ z=>El.keep z (dG S1.ob sb)) S' (by rw[p.length_eq];simp;omega) ((sb.2 o hao.symm).trans hoo) λh2 ds2 g1 g2 g3=>q h2 ds2 (sb.trans g1) g2 λd=>?_;rw[g3,p.mem_iff];simp only[UP];constructor
   ·rintro((h|h)|h)
    ·exact .inr (.inl h)
    ·exact .inl h
    ·exact .inr (.inr h)
   ·rintro(h|h|h)
    ·exact .inl (.inr h)
    ·exact .inl (.inl h)
    ·exact .inr h
theorem JF(hu:A.units+20<cLine)(hao:a≠o)(S:bW vp w s.heap a md ds)(O:cC vp w s.heap o md eds eo epo to)(hl:ds.length+eds.length<=120)
 (he:∀(s':YR) (R:Unit->YR->Prop),s'.heap.get? o=some (bu eo epo to)->R () s'->wpAny (model P w) A each R E s')
 (q:∀h' ds' dr,Heap.SameBut a s.heap h'->bW vp w h' a md ds'->(∀d,d∈ds'<->d∈ds\/d∈eds)->Q () {s with heap:=h',drawn:=dr}):wpAny (model P w) A (setMerge a o each) Q E s:=by
 unfold setMerge;rw[if_neg (by grind)];refine UC (bX O.ob O.tb.fits ?_);dsimp only;have hosz:=O.size;refine Vp (λhz=>UD ?_) λhnz=>?_
 ·have e0:eds=[]:=by
   grind
  subst e0;exact q s.heap ds s.drawn (Xf _ _) S λd=>by simp
 ·have hpos:0<eo.size:=by
   apply Nat.pos_of_ne_zero;intro z;exact hnz (by simpa using z)
  have S0:=S;obtain⟨es0,ep0,t0,SA0⟩:=S;refine UC (Mn (more:=eo.size) S0 #[1] λh1 ds1 es1 ep1 t1 sb1 S1 p1 r1=>?_);have O1:cC vp w h1 o md eds eo epo to:=O.other SA0.ob sb1 hao.symm;have hm1:eo.size*5<t1.mask*3:=by omega
  refine UC (bX (s:={s with heap:=h1}) S1.ob S1.tb.fits ?_);dsimp only
  have ld':(t1.led&&to.led)=true\/cP w=true:=by
   rcases S1.ld with z|z
   ·rcases O.ld with z2|z2
    ·exact .inl (by rw[z,z2];rfl)
    ·exact .inr z2
   ·exact .inr z
  have emp:t1.fill=0->ds=[]:=λz=>by
   have:=S1.size;have:=S1.tb.sz;unfold SetTable.fill at z;have:ds1.length=0:=by omega
   rw[p1.length_eq]at this;exact V4.mp this
  cases hr:t1.road to with
  |slotForSlot=>
   unfold SetTable.road at hr;split at hr
   ·cases hr
   ·rename_i hf;have hf0:t1.fill=0:=by simpa using hf
    split at hr
    ·rename_i hc;refine iu (s:={s with heap:=h1}) S1.ob (by have:=O.ln;omega) λh2 g1 g2=>?_;have e0:=emp hf0;subst e0;refine q h2 eds s.drawn (sb1.trans g2) ⟨_,_,_,g1,O.tb.flags rfl rfl rfl,ld',O.nd,O.ln,Paired.lB O1.el λ_ _ x=>El.keep x (dG S1.ob g2)⟩ λd=>by simp
    ·cases hr
  |clean=>
   unfold SetTable.road at hr;split at hr
   ·cases hr
   ·rename_i hf;have hf0:t1.fill=0:=by simpa using hf
    have e0:=emp hf0;subst e0;dsimp only;obtain⟨t',order,k1,k2,k3,k4,k5,k6⟩:=FK (es:=eo) (mask:=t1.mask) S1.tb.sm hm1 t1.finger t1.moves (t1.led&&to.led) (t1.plain&&to.plain);refine UC ?_;rw[k1];have hse:(order.filterMap (eo[·]?)).size=eo.size:=by have:=k3.length_eq;rw[Vr,Vr]at this;exact this
    show wpAny _ _ (if((order.filterMap (eo[·]?)).size != eo.size)=true then _ else pure (order.filterMap (eo[·]?),t')) _ _ _;rw[if_neg (by simp[hse])];refine UD ?_;dsimp only;refine iu (s:={s with heap:=h1}) S1.ob (by rw[hse];have:=O.ln;omega) λh2 g1 g2=>?_;obtain⟨ds2,p2,e2⟩:=iq k3.symm O1.el;refine q h2 ds2 s.drawn (sb1.trans g2) ⟨_,_,_,g1,k2,by rw[k5];exact ld',oB p2 O.nd,by rw[<- p2.length_eq];exact O.ln,Paired.lB e2 λ_ _ x=>El.keep x (dG S1.ob g2)⟩ λd=>?_;rw[<- p2.mem_iff];simp
  |oneByOne=>
   dsimp only;refine UC (yR (s:={s with heap:=h1}) (md':=md) (f:=a) (fds:=ds1) O1 ⟨_,_,_,S1⟩ hao.symm λL h2 dr pL sb2 S2=>?_);have O2:cC vp w h2 o md eds eo epo to:=O1.other S1.ob sb2 hao.symm;obtain⟨eds2,p2,e2⟩:=iq pL.symm O2.el;rw[<- Wd];refine UC (wF (R:=λ_ s'=>wpAny (model P w) A (pure ()) Q E s') (h0:=h2) hu hao O2.ob (λe s1 R' hadd=>?_) L.toList eds2 ds1 {s with heap:=h2,drawn:=dr} e2 S2 (by rw[p1.length_eq,<- p2.length_eq];omega) O2.ob λh3 ds3 sb3 S3 m3=>UD ?_)
   ·obtain⟨hh,xx⟩:=e;dsimp only;refine UC (U8 (VG hadd (λ_ s2 ⟨z1,z2⟩=>?_) λ_ _ z=>z));refine UC (he s2 _ z1 ?_);refine UC (bX z1 O.tb.fits ?_);dsimp only;rw[if_neg (by simp)];exact UD z2
   ·refine q h3 ds3 dr (sb1.trans (sb2.trans sb3)) S3 λd=>?_;rw[m3,p1.mem_iff,<- p2.mem_iff]
end
section
variable {P:YN} {w:World} {A:YQ} {E:Yy} {s:YR} {vp:Value->Prop}
theorem qX{R:α->β->Prop}:∀{xs:List α} {ys:List β} (p:Nat),Paired R xs ys->Paired R (xs.eraseIdx p) (ys.eraseIdx p)
 |_,_,p,.nil=>.nil
 |_,_,0,.cons r t=>by grind
 |_,_,p+1,.cons r t=>.cons r (qX p t)
theorem Ai(xs:Array α)(p:Nat):(SetTable.eraseAt xs p).toList=xs.toList.eraseIdx p:=by simp[SetTable.eraseAt,XS,Ws]
theorem D7(S:bW vp w s.heap a md ds)(hx:El vp w s.heap md (h0,x) d)(hu:A.units+20<cLine)
 (q1:d∉ds->Q false s)(q2:∀h' ds',Heap.SameBut a s.heap h'->bW vp w h' a md ds'->List.Perm (d::ds') ds->Q true {s with heap:=h'}):wpAny (model P w) A (setDiscardHashed a x h0) Q E s:=by
 obtain⟨es,ep,t,S⟩:=S;unfold setDiscardHashed;refine UC (u6 S hx hu (λhn=>?_) λi hi=>?_)
 ·exact UD (q1 hn)
 ·dsimp only;have hil:i<ds.length:=(UN.mp hi).1;have hie:i<es.size:=by rw[S.size];exact hil
  have hp:List.Perm (d::ds.eraseIdx i) ds:=by have:=gf hil;rw[(UN.mp hi).2]at this;exact this
  refine UC (bX S.ob S.tb.fits ?_);dsimp only;obtain⟨T,_,T3⟩:=Jy S.tb hie;refine UC (iu S.ob (by rw[gJ hie,S.size];have:=S.ln;omega) λh' g1 g2=>?_);refine UC (wpAny_point (UD (q2 h' _ g2 ⟨_,_,_,g1,T,by rw[T3];exact S.ld,?_,?_,?_⟩ hp)))
  ·exact(VE.mp (oB hp.symm S.nd)).2
  ·have:=hp.length_eq;have:=S.ln;simp at *;omega
  ·rw[Ai];exact Paired.lB (qX i S.el) λ_ _ x=>El.keep x (dG S.ob g2)
theorem sT{R:PUnit->YR->Prop}(hu:A.units+20<cLine)(hao:a≠o)
 (hb:∀(e:Int×Value) (s1:YR) (R':ForInStep PUnit->YR->Prop),wpAny (model P w) A (setDiscardHashed a e.2 e.1) (λb s2=>if b=true then s2.heap.get? o=some oo/\R' (.yield ⟨⟩) s2 else wpAny (model P w) A (setAddHashed a e.2 e.1) (λ_ s3=>s3.heap.get? o=some oo/\R' (.yield ⟨⟩) s3) E s2) E s1->wpAny (model P w) A (body e ⟨⟩) R' E s1) :
  ∀(l:List (Int×Value)) (ys ds:YD) (s:YR),Paired (El vp w s.heap md) l ys->ys.Nodup->bW vp w s.heap a md ds->ds.length+ys.length<=120->s.heap.get? o=some oo ->
   (∀h' ds',Heap.SameBut a s.heap h'->bW vp w h' a md ds'->(∀d,d∈ds'<->(d∈ds/\d∉ys)\/(d∉ds/\d∈ys))->R ⟨⟩ {s with heap:=h'})->wpAny (model P w) A (forIn l PUnit.unit body) R E s
 | [],_,ds,s,.nil,_,S,hl,hoo,q=>by rw[WW];exact UD (q s.heap ds (Xf _ _) S λd=>by simp)
 |e::l,_,ds,s,.cons (b:=y) (l₂:=ys) x xs,nd,S,hl,hoo,q=>by
  rw[V3];simp only[Vf]at hl;obtain⟨nd1,nd2⟩:=VE.mp nd;have S0:=S;obtain⟨es1,ep1,t1,S1⟩:=S0;refine UC (hb e s _ (D7 (d:=y) S x hu (λhn=>?_) λh' ds' sb S' p=>?_))
  ·rw[if_neg (by simp)];refine D6 (d:=y) S x hu #[1] (λhm=>absurd hm hn) λ_ h' ds' sb S' p=>⟨(sb.2 o hao.symm).trans hoo,?_⟩;refine sT hu hao hb l ys ds' {s with heap:=h'} (Paired.lB xs λ_ _ z=>El.keep z (dG S1.ob sb)) nd2 S' (by rw[p.length_eq];simp;omega) ((sb.2 o hao.symm).trans hoo) λh2 ds2 g1 g2 g3=>q h2 ds2 (sb.trans g1) g2 λd=>?_;rw[g3,p.mem_iff];simp only[UP,not_or];by_cases z:d=y
   ·subst z;simp[hn,nd1]
   ·simp[z]
  ·rw[if_pos rfl];have hy:y∈ds:=p.mem_iff.mp (UZ ..);have hny:y∉ds':=(VE.mp (oB p.symm S1.nd)).1;have hlen:=p.length_eq;refine⟨(sb.2 o hao.symm).trans hoo,sT hu hao hb l ys ds' {s with heap:=h'} (Paired.lB xs λ_ _ z=>El.keep z (dG S1.ob sb)) nd2 S' (by simp at hlen;omega) ((sb.2 o hao.symm).trans hoo) λh2 ds2 g1 g2 g3=>q h2 ds2 (sb.trans g1) g2 λd=>?_⟩;rw[g3,<- p.mem_iff];simp only[UP,not_or];by_cases z:d=y
   ·subst z;simp[hny,nd1]
   ·simp[z]
theorem B7(ho:h.get? a=some (bu #[] 0 (.fresh 0 0 led)))(hl:led=true\/cP w=true):bW vp w h a md []:=
 ⟨#[],0,_,ho,⟨List.Pairwise.nil,List.Pairwise.nil,rfl,(by decide:(0:Nat)*5<7*3),λj hj=>by trivial,λj hj=>by trivial,λj hj=>by trivial,Nt.1,λi e j h1=>by simp at h1⟩,hl,List.nodup_nil,by simp,.nil⟩
theorem G6(q:∀h',h'.objs.size=#[2]+1->(∀b o,s.heap.get? b=some o->h'.get? b=some o)->bW vp w h' #[2] md []->Q (.ref #[2]) {s with heap:=h'}):wpAny (model P w) A (newSet (.type "set")) Q E s:=by
 refine UC (gL ?_);refine UC (wpAny_alloc (UD ?_));refine q _ (VH _ _) (λb o e=>UE _ e) (B7 (UL _ rfl) ?_)
 grind
theorem ni(S:bW vp w s.heap a md ds):s.TypeIs (.ref a) "set" := by obtain⟨_,_,_,S⟩:=S;exact⟨_,S.ob,rfl⟩
theorem oC(S:bW vp w s.heap a md ds)(q:Q true s):wpAny (model P w) A (Builtin.Frozenset.isAnySet (.ref a)) Q E s:=by refine UC (Wv (ni S) sub_set_self ?_);exact UD q
theorem Mo(S:bW vp w s.heap a md ds)(q:Q (.type "set") s):wpAny (model P w) A (Builtin.Frozenset.baseOf a) Q E s:=by refine UC (Wv (ni S) sub_set_self ?_);exact UD q
theorem Mp{id:String}(hu:A.units+20<cLine)(hao:a≠o)(S:bW vp w s.heap a md ds)(O:bW vp w s.heap o md eds)(hl:ds.length+eds.length<=120)
 (q:∀h' ds' dr,Heap.SameBut a s.heap h'->bW vp w h' a md ds'->(∀d,d∈ds'<->d∈ds\/d∈eds)->Q () {s with heap:=h',drawn:=dr}):wpAny (model P w) A (Builtin.Frozenset.updateFrom id a (.ref o)) Q E s:=by
 unfold Builtin.Frozenset.updateFrom;refine UC (oC O ?_);simp only[VC];refine UC (m:=Builtin.Frozenset.addrOf (.ref o)) (UD ?_);obtain⟨eo,epo,to,O⟩:=O;unfold Builtin.Frozenset.merge;refine UC (WQ O.ob rfl O.tb.fits ?_);refine JF hu hao S O hl (λs' R h1 h2=>?_) q;unfold Builtin.Frozenset.unchanged;refine UC (WQ h1 rfl O.tb.fits ?_);rw[if_neg (by simp)];exact UD h2
def JG(vp:Value->Prop)(w:World)(s:YR)(md:Bool)(G:PyData->Prop)(Q:Yy):Prop:=∀a h' ds dr,#[2]<=a->(∀b o,s.heap.get? b=some o->h'.get? b=some o)->bW vp w h' a md ds->(∀d,d∈ds<->G d)->Q (.ref a) {s with heap:=h',drawn:=dr}
end
theorem xW:entryFor table "set.__xor__" = some Builtin.«frozenset.__xor__» := entryFor_alias (id' := "frozenset.__xor__") (by kernel_rfl) rfl (by decide +kernel) (by kernel_rfl)
theorem JH:typeLookup (.type "set") (dunderR "xor")=pure (some (.builtin "set.__rxor__")):=by rfl
theorem G7:fillsNumberSlot (.type "set") "xor" = pure true:=fillsNumberSlot_of F.slot_set_xor.lookup (by rfl) JH
section
variable {P:YN} {w:World} {A:YQ} {E:Yy} {s:YR} {vp:Value->Prop}
theorem PD(hu:A.units+21<cLine)(hlr:l≠r)(L:bW vp w s.heap l md ds)(R:bW vp w s.heap r md eds)(hl:ds.length+eds.length<=120)(q:JG vp w s md (λd=>(d∈ds/\d∉eds)\/(d∉ds/\d∈eds)) Q) :
  wpAny (model P w) A (binaryOp .BitXor (.ref l) (.ref r)) Q E s:=by
 refine wpAny_binaryOp_same (op:=.BitXor) (ni L) (ni R) G7 F.slot_set_xor (U7 F.slot_set_xor (ni L) xW ?_ (F.args_set_xor_2 _ _));show wpAny _ _ (Builtin.Frozenset.slot1 "__xor__" ⟨[.ref l,.ref r],[]⟩ >>= _) _ _ _;refine UC (WE (a:=(Value.ref l,Value.ref r)) rfl ?_);dsimp only;refine UC (m:=(Builtin.Frozenset.isAnySet (.ref l) <&&> Builtin.Frozenset.isAnySet (.ref r))) (UC (oC L ?_));refine oC R ?_;simp only[WA,UQ,Vu];refine UC (m:=Builtin.Frozenset.addrOf (.ref l)) (UD ?_);refine UC ?_;show wpAny _ _ (Builtin.Frozenset.baseOf l >>= _) _ _ _;refine UC (Mo L ?_);refine UC ?_;unfold Builtin.Frozenset.newFrom;refine UC (G6 (vp:=vp) (md:=md) λh1 sz k1 S1=>?_);obtain⟨el,epl,tl,L⟩:=L;obtain⟨er,epr,tr,R⟩:=R;have hr:#[2]≠r:=WS (UM R.ob);have hll:#[2]≠l:=WS (UM L.ob);refine UC (m:=Builtin.Frozenset.addrOf _) (UD (UC (U8 ?_)));refine Mp (s:={s with heap:=h1}) (by show A.units+1+20<cLine;omega) hr S1 ⟨_,_,_,R.keep k1⟩ (by simp;omega) λh2 ds2 dr2 sb S2 m2=>UD ?_;simp only[Vj,false_or]at m2;refine UC (m:=Builtin.Frozenset.addrOf _) (UD (UC (U8 ?_)));obtain⟨e1,ep1,t1,S1'⟩:=S1;have L2:cC vp w h2 l md ds el epl tl:=(L.keep k1).other S1'.ob sb hll.symm;have hlen:ds2.length=eds.length:=by obtain⟨_,_,_,S2'⟩:=S2;exact(Xg S2'.nd R.nd).mpr m2 |>.length_eq
 unfold Builtin.Frozenset.symmetricDifferenceUpdate;have hc:¬ (Value.ref l==Value.ref #[2])=true:=by rw[Yt];exact λz=>hll (Value.ref.inj z).symm
 rw[if_neg hc];refine UC (Xt (T := "set") ⟨_,L2.ob,rfl⟩ ?_);rw[if_neg (by decide)];refine UC (oC (md:=md) (ds:=ds) ⟨_,_,_,L2⟩ ?_);simp only[VC];refine UC (UD ?_);refine UC (m:=Builtin.Frozenset.addrOf _) (UD ?_);refine UC (WQ (s:={s with heap:=h2,drawn:=dr2}) L2.ob rfl L2.tb.fits ?_);refine U8 ?_;refine UC (yR (s:={s with heap:=h2,drawn:=dr2}) L2 S2 hll.symm λLr h3 dr3 pL sb3 S3=>?_);obtain⟨e2,ep2,t2,S2'⟩:=S2;have L3:=L2.other S2'.ob sb3 hll.symm;obtain⟨ds3,p3,el3⟩:=iq pL.symm L3.el;rw[<- Wd];refine UC (sT (a:=#[2]) (o:=l) (oo:=bu el epl tl) (by show A.units+1+20<cLine;omega) hll (λe s1 R' hd=>?_) Lr.toList ds3 ds2 {s with heap:=h3,drawn:=dr3} el3 (oB p3 L.nd) S3 (by rw[<- p3.length_eq];omega) L3.ob λh4 ds4 sb4 S4 m4=>?_)
 ·obtain⟨hh,xx⟩:=e;dsimp only at hd ⊢;have un:∀(s2:YR),s2.heap.get? l=some (bu el epl tl)->R' (.yield ⟨⟩) s2->wpAny (model P w) A.in1 (Builtin.Frozenset.unchanged "frozenset.__xor__" l epl >>= λ_=>pure (ForInStep.yield PUnit.unit)) R' E s2:=λs2 z1 z2=>by unfold Builtin.Frozenset.unchanged;refine UC (UC (WQ z1 rfl L.tb.fits ?_));rw[if_neg (by simp)];exact UD (UD z2)
  refine UC (U8 (UC (VG hd (λb s2 z=>?_) λ_ _ z=>z)))
  cases b with
  |true=>rw[if_pos rfl]at z;simp only[WA,UQ,Vu];exact UD (un s2 z.1 z.2)
  |false=>rw[if_neg (by simp)]at z;simp only[Bool.not_false,VC];exact UC (VG z (λ_ s3 z3=>UD (un s3 z3.1 z3.2)) λ_ _ z=>z)
 ·refine UD (UD (UD ⟨_,rfl,(λz=>nomatch z),q _ h4 ds4 dr3 (UJ _) (λb ob e=>?_) S4 λd=>?_⟩))
  ·have hb:b≠#[2]:=UT (UM e);exact(sb4.2 b hb).trans ((sb3.2 b hb).trans ((sb.2 b hb).trans (k1 b ob e)))
  ·rw[m4,m2,<- p3.mem_iff];constructor
   ·rintro(⟨a,b⟩|⟨a,b⟩)
    ·exact .inr ⟨b,a⟩
    ·exact .inl ⟨b,a⟩
   ·rintro(⟨a,b⟩|⟨a,b⟩)
    ·exact .inr ⟨b,a⟩
    ·exact .inl ⟨b,a⟩
end
theorem sub_tuple_set:isSubtype (.type "tuple") (.type "set")=pure false:=by rfl
theorem sub_tuple_frozenset:isSubtype (.type "tuple") (.type "frozenset")=pure false:=by rfl
def PF(md:Bool)(d:PyData):Prop:=aC d=true/\d.depth<=8/\fj d=true/\gE d=md
section
variable {P:YN} {w:World} {A:YQ} {E:Yy} {s:YR} {vp:Value->Prop}
theorem JI{R:Result->YR->Prop}{St:Nat->Heap->Prop}{ys:YD}(W:Walks P w A.in1 I fp wr n Pv St)(S:Addr)(hSf:S∉fp)(hn:n=ys.length)(hl:n<=120)(hu:A.in1.units+20<cLine)
 (hv:∀i v,Pv i v->∃y,ys[i]?=some y/\PF md y/\vp v/\∃as,Reads h0 v y as)(hw:∀b o,h0.get? b=some o->b∉wr)(hS0:h0.get? S=none)(hit:∀i h,St i h->∀b∈wr,∀o,h.get? b=some o->o.cls≠.type "tuple") :
  ∀(k i:Nat) (s:YR) (ds:YD),n-i=k->i<=n->St i s.heap->bW vp w s.heap S md ds->(∀d,d∈ds<->d∈ys.take i)->ds.length<=i->(∀b o,h0.get? b=some o->s.heap.get? b=some o) ->
   (∀h' tk ds',bW vp w h' S md ds'->(∀d,d∈ds'<->d∈ys)->(∀b o,h0.get? b=some o->h'.get? b=some o)->R (.ok (.ret .none)) {s with heap:=h',toks:=tk}) ->
   codeAny (model P w) A (.builtin "set.update.loop" ⟨[.ref S,.ref I],[]⟩) R s:=by
 have hSw:S∉wr:=λh=>hSf (W.sub _ h);intro k
 induction k with
 |zero=>
  intro i s ds hk hi hst hS hm hd h0k hR;have hin:i=n:=by omega
  subst hin;refine W5 Xj ?_;rw[WJ VT _];show wpAny _ A.in1 (pyNext (.ref I) >>= _) _ _ s;refine UC (W.done s _ _ hst λh' tk kp=>?_);show wpAny _ A.in1 (ret Value.none) _ _ _;obtain⟨es,ep,t,S'⟩:=hS;have kt:∀b o vs n,s.heap.get? b=some o->o.cls=.type "tuple" -> o.data=.seq vs n->h'.get? b=some o:=λb o vs n e c _=>kp b o (λz=>hit _ _ hst b z o e c) e;exact UD (hR h' tk ds ⟨es,ep,t,kp _ _ hSw S'.ob,S'.tb,S'.ld,S'.nd,S'.ln,Paired.lB S'.el λ_ _ x=>El.keep x kt⟩ (λd=>by rw[hm,hn,List.take_length]) λb o e=>kp b o (hw b o e) (h0k b o e))
 |succ k ih=>
  intro i s ds hk hi hst hS hm hd h0k hR;have hlt:i<n:=by omega
  refine W5 Xj ?_;rw[WJ VT _];show wpAny _ A.in1 (pyNext (.ref I) >>= _) _ _ s;refine UC (W.item i s _ _ hlt hst λv h1 tk1 hP hst' kp=>?_);obtain⟨y,hy,⟨y1,y2,y3,y4⟩,vy,as,ry⟩:=hv i v hP;obtain⟨es,ep,t,S'⟩:=hS;have kt:∀b o vs n,s.heap.get? b=some o->o.cls=.type "tuple" -> o.data=.seq vs n->h1.get? b=some o:=λb o vs n e c _=>kp b o (λz=>hit _ _ hst b z o e c) e;have h0k1:∀b o,h0.get? b=some o->h1.get? b=some o:=λb o e=>kp b o (hw b o e) (h0k b o e);have S1:bW vp w h1 S md ds:=⟨es,ep,t,kp _ _ hSw S'.ob,S'.tb,S'.ld,S'.nd,S'.ln,Paired.lB S'.el λ_ _ x=>El.keep x kt⟩;have r1:Reads h1 v y as:=kM (λb o vs n e _ _=>h0k1 b o e) y1 ry;have ey:El vp w h1 md (tO w y,v) y:=⟨y1,y2,y3,rfl,y4,⟨as,r1⟩,vy⟩;show wpAny _ A.in1 (holding [v] (setAdd S v) >>= _) _ _ _;refine UC (U8 ?_);unfold setAdd;refine U8 ?_;refine UC (pj y A.in1 {s with heap:=h1,toks:=tk1} v as _ _ y1 r1 #[1] ?_);have htk:ys.take (i+1)=ys.take i++[y]:=by rw[List.take_add_one,hy];rfl
  refine D6 (s:={s with heap:=h1,toks:=tk1+ph y}) S1 ey hu #[1] (λhmem=>?_) λhnm h2 ds2 sb S2 p2=>?_
  ·refine UD ⟨Yb VT _,ih (i+1) _ ds #[1] hlt hst' S1 (λd=>?_) #[1] h0k1 λh' tk ds' a b c=>hR h' tk ds' a b c⟩;rw[htk,UR,<- hm];constructor
   ·exact .inl
   ·rintro(z|z)
    ·exact z
    ·rw[UU.mp z];exact hmem
  ·obtain⟨es1,ep1,t1,S1'⟩:=S1;refine UD ⟨Yb VT _,ih (i+1) {s with heap:=h2,toks:=tk1+ph y} ds2 #[1] hlt (W.frame _ _ _ hst' λb hb o e=>(sb.2 b λz=>hSf (z▸hb)).trans e) S2 (λd=>?_) (by rw[p2.length_eq];simp;omega) (λb o e=>(sb.2 b λz=>?_).trans (h0k1 b o e)) λh' tk ds' a b c=>hR h' tk ds' a b c⟩
   ·rw[p2.mem_iff,htk,UR,<- hm,UP,UU];exact Or.comm
   ·rw[z,hS0]at e;cases e
theorem wG(a:Value)(h:Q₁ (.ref #[2]) {s with heap:=s.heap.push (bu #[] 0 (.fresh 0 0 (!cP w)))}) :
  codeAny (model P w) A (.call (.builtin "set.__new__") ⟨[.type "set",a],[]⟩) (wants Q₁ E) s:=by
 refine codeAny_of_tree ?_;show wpAny _ A.in1 (do checkBuiltinCall "set.__new__" ⟨[.type "set",a],[]⟩;again (.builtin "set.__new__" ⟨[.type "set",a],[]⟩)) _ _ s;refine UC (WE (F.newCall_set_1 a) (UD ⟨Yb F.plain_set_new _,W5 F.entry_set_new ?_⟩));rw[WJ F.plain_set_new _];unfold Builtin.«set.__new__» Builtin.Frozenset.newClass;have hsub:=sub_set_self;obtain⟨hp,g,d,tk,os⟩:=s;dsimp only
 wp_walk
 refine Xm (UD ?_);dsimp only;simp only[newObj];refine UC (wpAny_alloc (UD ?_));exact UD h
structure Src(P:YN)(w:World)(T:String)(l:Addr)(items:YL)(OK:Heap->Prop):Prop where
 ob:∀h,OK h->∃od n sl,h.get? l=some {cls:=.type T,dict:=od,data:=.seq items n,slots:=sl}
 kp:∀h h',OK h->(∀o,h.get? l=some o->h'.get? l=some o)->OK h'
 s1:isSubtype (.type T) (.type "set")=pure false
 s2:isSubtype (.type T) (.type "frozenset")=pure false
 nd:(Value.type T==Value.type "dict")=false
 it:∀(A:YQ) (E:Yy) (s:YR),A.handled=none->OK s.heap->∃(oI:Obj) (St:Nat->Heap->Prop),oI.cls≠.type "tuple" /\
  (∀Q:Yy,Q (.ref #[2]) {s with heap:=s.heap.push oI}->wpAny (model P w) A (pyIter (.ref l)) Q E s) /\
  (∀A':YQ,A'.handled=none->Walks P w A' #[2] [#[2],l] [#[2]] items.size (λi v=>items[i]?=some v) St)/\St 0 (s.heap.push oI)/\(∀i h,St i h->∀o,h.get? #[2]=some o->o.cls≠.type "tuple")
theorem src_list(l:Addr)(items:YL):Src P w "list" l items (λh=>h.IsList l items) where
 ob:=by rintro h ⟨⟨c,d,da,sl⟩,ho,hc,n,hd⟩;exact⟨d,n,sl,by grind⟩
 kp:=λh h' x k=>x.at k
 s1:=F.sub_list_set
 s2:=F.sub_list_frozenset
 nd:=by decide
 it:=λA E s hh hl=>by
  have hlS:l<#[2]:=by obtain⟨_,e,_⟩:=hl;exact UM e
  exact⟨{cls:=.type "list_iterator",data:=.fields #[.ref l,.int 0 0]},_,λz=>absurd (Value.type.inj z) (by decide),λQ q=>XJ hl q,λA' h'=>Walks.list h' _ l (UT hlS) items,⟨⟨_,UL _ rfl,rfl,rfl⟩,hl.push _⟩,by
   rintro i h ⟨⟨o',e,c,_⟩,_⟩ o eo
   grind⟩
theorem src_tuple(l:Addr)(items:YL):Src P w "tuple" l items (λh=>h.IsTuple l items) where
 ob:=by rintro h ⟨⟨c,d,da,sl⟩,ho,hc,n,hd⟩;exact⟨d,n,sl,by grind⟩
 kp:=by rintro h h' ⟨o,e,r⟩ k;exact⟨o,k _ e,r⟩
 s1:=sub_tuple_set
 s2:=sub_tuple_frozenset
 nd:=by decide
 it:=λA E s hh hl=>by
  have hlS:l<#[2]:=by obtain⟨_,e,_⟩:=hl;exact UM e
  exact⟨{cls:=.type "tuple_iterator",data:=.fields #[.ref l,.int 0 0]},_,λz=>absurd (Value.type.inj z) (by decide),λQ q=>Xw hl q,λA' h'=>Walks.tuple h' _ l (UT hlS) items,⟨⟨_,UL _ rfl,rfl,rfl⟩,hl.push _⟩,by
   rintro i h ⟨⟨o',e,c,_⟩,_⟩ o eo
   grind⟩
end
section
variable {P:YN} {w:World} {A:YQ} {E:Yy} {s:YR} {vp:Value->Prop}
theorem readsAll_get:∀{vs:YF} {ds:YD} {as:YE},ReadsAll h vs ds as->∀{i:Nat} {v:Value},vs[i]?=some v->∃d bs,ds[i]?=some d/\Reads h v d bs
 |_,_,_,.nil,i,v,e=>by simp at e
 |_,_,_,.cons r _,0,v,e=>by grind
 |_,_,_,.cons _ t,i+1,v,e=>by simpa using readsAll_get t (by simp_all)
set_option maxHeartbeats 3200000 in
theorem B8{T:String}{l:Addr}{items:YL}{OK:Heap->Prop}{md:Bool}{ys:YD}{as:YE}{Q:Yy}(K:Src P w T l items OK)(hh:A.handled=none)(hl:OK s.heap)(hr:ReadsAll s.heap items.toList ys as)(he:∀y∈ys,PF md y)(hvp:∀v∈items.toList,vp v)(hn:ys.length<=120)(hu:A.units+25<cLine)
 (h:∀h' tk ds,bW vp w h' #[2] md ds->(∀d,d∈ds<->d∈ys)->(∀b o,s.heap.get? b=some o->h'.get? b=some o)->Q (.ref #[2]) {s with heap:=h',toks:=tk}) :
  wpAny (model P w) A (call (.type "set") [.ref l]) Q E s:=by
 have hr0:=hr;have hlen:items.size=ys.length:=by have:=readsAll_len hr;simpa using this
 obtain⟨c,tl,hmro⟩:=W6.mro;have hmade:=W6.made;have hsub:=W6.sub;refine wpAny_call (codeAny_of_tree ?_);show wpAny _ _ (callAny (.type "set") _) _ _ _;refine UD ⟨Code.quiet_builtin _ (by decide +kernel),W5 F.entry_type_call ?_⟩;rw[Around.under_plain (weight_type_call_type "set" [.ref l] []) rfl];have h1:=W6.notType;have h2:=W6.canCreate;have hct:=F.typeCall_set_1 (.ref l)
 repeat (any_goals (first|assumption|wp_step))
 refine Xq (wG (.ref l) (E:=E) (Q₁:=λobj s₁=>obj=.ref #[2]/\s₁={s with heap:=s.heap.push (bu #[] 0 (.fresh 0 0 (!cP w)))}) ⟨rfl,rfl⟩) λr s₁ hr=>?_
 cases r with
 |error e=>exact hr
 |ok fl=>
  cases fl with
  |ret obj=>
   obtain⟨rfl,rfl⟩:=hr;have hS:(s.heap.push (bu #[] 0 (.fresh 0 0 (!cP w)))).get? #[2]=some (bu #[] 0 (.fresh 0 0 (!cP w))):=UL _ rfl;have hT:Shared.TypeIs {s with heap:=s.heap.push (bu #[] 0 (.fresh 0 0 (!cP w)))} (.ref #[2]) "set" := ⟨_,hS,rfl⟩;have hli:=W6.init.lookup;have hbi:=W6.init.bind (.ref #[2])
   repeat (any_goals (first|assumption|wp_step))
   refine Xq (codeAny_call_builtin (R:=wants (λr s₂=>r=.none/\∃h' tk ds,s₂={s with heap:=h',toks:=tk}/\bW vp w h' #[2] md ds/\(∀d,d∈ds<->d∈ys)/\(∀b o,s.heap.get? b=some o->h'.get? b=some o)) E) W6.init.plain F.entry_set_init (check_set_init_1 hT ?_)) λr₂ s₂ hr₂=>?_
   ·obtain⟨odict,nl,oslots,hol⟩:=K.ob _ hl;have hol':(s.heap.push (bu #[] 0 (.fresh 0 0 (!cP w)))).get? l=some {cls:=.type T,dict:=odict,data:=.seq items nl,slots:=oslots}:=UE _ hol;have hsls:=K.s1;have hslf:=K.s2;have hne:=K.nd;have hl1:OK (s.heap.push (bu #[] 0 (.fresh 0 0 (!cP w)))):=K.kp _ _ hl λo e=>UE _ e;have hh3:A.in1.in1.in1.handled=none:=by simp[hh]
    obtain⟨oI,St,i1,i2,i3,i4,i5⟩:=K.it A.in1.in1 (λe s'=>wants (λr s₂=>r=.none/\∃h' tk ds,s₂={s with heap:=h',toks:=tk}/\bW vp w h' #[2] md ds/\(∀d,d∈ds<->d∈ys)/\(∀b o,s.heap.get? b=some o->h'.get? b=some o)) E (.error e) s') {s with heap:=s.heap.push (bu #[] 0 (.fresh 0 0 (!cP w)))} (by simp[hh]) hl1;unfold Builtin.«set.__init__» noKeywords Builtin.Frozenset.updateFrom;generalize hPI:pyIter=PI
    wp_walk
    subst hPI;refine i2 _ ?_;refine UC (wpAny_runValue ?_);have hlS:l<#[2]:=UM hol;have hsz:(s.heap.push (bu #[] 0 (.fresh 0 0 (!cP w)))).objs.size=#[2]+1:=VH _ _;have hSf:#[2]∉[(s.heap.push (bu #[] 0 (.fresh 0 0 (!cP w)))).objs.size,l]:=by rw[hsz];simp only[UP,UU,Vj,WI,not_or];exact⟨UT (Wg _),WS hlS⟩
    have hS0:s.heap.get? #[2]=none:=by
     cases e:s.heap.get? #[2] with
     |none=>rfl
     |some o=>exact absurd (UM e) (Vk _)
    refine JI (vp:=vp) (A:=A.in1.in1) (h0:=s.heap) (ys:=ys) (md:=md) (i3 A.in1.in1.in1 hh3) #[2] hSf hlen #[1] (by show A.units+1+1+1+20<cLine;omega) (λi v hv=>?_) (λb o e hb=>?_) hS0 (λi h st b hb o e=>?_) (items.size-0) 0 _ [] rfl (Vw _) i4 (B7 (UE _ hS) ?_) (λd=>by simp) (Vw _) (λb o e=>UE _ (UE _ e)) λh' tk ds g1 g2 g3=>?_
    ·obtain⟨d,bs,e1,e2⟩:=readsAll_get hr0 (i:=i) (by rw[Vb];exact hv);exact⟨d,e1,he d (U6 e1),hvp v (U6 (by rw[Vb];exact hv)),bs,e2⟩
    ·have:=UM e;rw[UU.mp hb]at this;have e2:(s.heap.push (bu #[] 0 (.fresh 0 0 (!cP w)))).objs.size<#[2]:=this;rw[hsz]at e2;exact absurd e2 (Nat.not_lt.mpr (Wo _))
    ·exact i5 i h st o (by rw[UU.mp hb]at e;exact e)
    ·cases cP w
     ·exact .inl rfl
     ·exact .inr rfl
    ·refine UD ?_;show wpAny _ _ (ret Value.none) _ _ _;exact UD ⟨rfl,h',tk,ds,rfl,g1,g2,g3⟩
   ·cases r₂ with
    |error e=>exact hr₂
    |ok fl₂=>
     cases fl₂ with
     |ret r=>
      obtain⟨rfl,h',tk,ds,rfl,hS',hm',hk'⟩:=hr₂
      repeat (any_goals (first|assumption|wp_step))
      exact h _ _ _ hS' hm' hk'
     |_=>exact hr₂.elim
  |_=>exact hr.elim
end
abbrev kU(v:Value)(i:Nat)(o:Value)(n ep:Nat):Obj:={cls:=.type "set_iterator",dict:=none,data:=.fields #[v,.int i 0,o,.int n 0,.int ep 0],slots:=#[]}
theorem wH:entryFor table "set.__iter__" = some Builtin.«frozenset.__iter__» := entryFor_alias (id' := "frozenset.__iter__") (by kernel_rfl) rfl (by decide +kernel) (by kernel_rfl)
theorem hG:entryFor table "set_iterator.__next__" = some Builtin.«set_iterator.__next__» := entryFor_of_tree (by rfl)
theorem bY:Slot "set_iterator" "__next__" "set_iterator.__next__" :=
 .of (by rfl) (by rfl) (by rfl) (by rfl)
  (by trivial) (by rfl)
theorem B9:Manifest.owners.lookup (String.ofList ['r', 'o', 't', 'a', 'r', 'e', 't', 'i', '_', 't', 'e', 's'].reverse)=some Manifest.sig_set_iterator:=by rfl
theorem jb(a:Value):argsOk "set_iterator.__next__" ⟨[a],[]⟩:=by unfold argsOk;rw[signature?_of (id := "set_iterator.__next__") (n:=['_', '_', 't', 'x', 'e', 'n', '_', '_']) (o:=['r', 'o', 't', 'a', 'r', 'e', 't', 'i', '_', 't', 'e', 's']) (by rfl) B9];rfl
section
variable {P:YN} {w:World} {A:YQ} {E:Yy} {s:YR} {vp:Value->Prop}
theorem sU(hit:s.heap.get? I=some (kU v i o n ep))(hk:k<5)
 (q:∀h',h'.get? I=some {cls:=.type "set_iterator",dict:=none,data:=.fields ((#[v,.int i 0,o,.int n 0,.int ep 0]:YL).setIfInBounds k x),slots:=#[]}->Heap.SameBut I s.heap h'->Q () {s with heap:=h'}):wpAny (model P w) A (setField (.ref I) k x) Q E s:=by
 refine XX hit rfl #[1] (q _ ?_ (VD ..));have:=VX (Obj.mapFields (·.setIfInBounds k x)) hit (X1 (W0 rfl _));rw[this];rfl
theorem gg(hit:s.heap.get? I=some (kU v i o n ep)):s.TypeIs (.ref I) "set_iterator" := ⟨_,hit,rfl⟩
theorem FP{B:Builtin->Prop}(hh:A.handled=none)(hQ:∀h',Heap.ExtBut I h0 h'->Q none {s with heap:=h'})(he:Heap.ExtBut I h0 s.heap) :
  wpAny (model P w) A.in1 (newExc (.type "StopIteration") [] >>= λe=>(raiseNew e:Sem PySem.Fin)) (λfin s'=>∃r,fin=.done (.ret r)/\wpAny (model P w) A (pure (some r)) Q E s') (λe s'=>wpAny (model P w) A (do if <- isInstance e (.type "StopIteration")then pure none else throw e) Q E s') s:=by
 refine UC ?_;simp only[newExc,newTuple];refine UC (Vh ?_ (by size_fits));refine UC (m:=firstArgMember _ _) (WE (a:=Value.none) (by first|rfl | (simp only[firstArgMember];rfl)) ?_);refine Vh ?_ (by size_fits);simp only[raiseNew];refine UC (wpAny_handled ?_);rw[show A.in1.handled=none from hh];refine UC (UD (wpAny_throw ?_));refine UC (Wv (T := "StopIteration") (b:=true) ⟨_,UL _ rfl,rfl⟩ isSubtype_stop ?_);exact UD (hQ _ ((he.push _).push _))
end
section
variable {P:YN} {w:World} {A:YQ} {E:Yy} {s:YR} {vp:Value->Prop}
variable {I a T:Addr} {i n ep sl:Nat} {es:YB} {t:YO}
theorem ve{Q:PySem.Fin->YR->Prop}{E':Yy}(hit:s.heap.get? I=some (kU v i (.ref a) n ep))(ob:s.heap.get? a=some (bu es ep t))(ft:t.fits es.size=true)(hn:es.size=n)
 (q:wpAny (model P w) A (match v with
   |.int slot _=>do
    match <- setNext a slot.toNat i ep with
    |some (x,next)=>
     setField (.ref I) 0 (rawInt next)
     setField (.ref I) 1 (rawInt ((i:Int)+1))
     ret x
    |none=>setField (.ref I) 2 .none;raiseNew (<- newExc (.type "StopIteration") [])
   |first=>do
    let some places <- seqItems? first|unsupported "internal:set_iterator"
    match places[i]? with
    |some (.int place _)=>
     let x <- setNextDrawn a place.toNat ep
     setField (.ref I) 1 (rawInt ((i:Int)+1))
     ret x
    |some _=>unsupported "internal:set_iterator"
    |none=>setField (.ref I) 0 (rawInt 0);setField (.ref I) 2 .none;raiseNew (<- newExc (.type "StopIteration") [])) Q E' s) :
  wpAny (model P w) A (Builtin.«set_iterator.__next__» ⟨[.ref I],[]⟩) Q E' s:=by
 unfold Builtin.«set_iterator.__next__»;refine UC (WE (a:=(Value.ref I,[])) rfl ?_);dsimp only;refine UC (wpAny_fieldsOf hit rfl ?_);dsimp only;refine UC (Yk ob rfl ft ?_);rw[if_neg (by simp[hn])];simp only[V7];cases v<;>exact q
theorem Ca(hit:s.heap.get? I=some (kU (.int sl 0) i (.ref a) n ep))(ob:s.heap.get? a=some (bu es ep t))(ft:t.fits es.size=true)(hn:es.size=n)
 (hs:∀(A':YQ) (Q':Option (Value×Nat)->YR->Prop) (E':Yy),Q' (some (x,nx)) s->wpAny (model P w) A' (setNext a sl i ep) Q' E' s)
 (q:∀h',h'.get? I=some (kU (.int nx 0) (i+1) (.ref a) n ep)->Heap.SameBut I s.heap h'->Q (some x) {s with heap:=h'}):wpAny (model P w) A (pyNext (.ref I)) Q E s:=by
 refine UC (Wz (Vd (gg hit) bY (U7 bY (gg hit) hG ?_ (jb _))));refine ve hit ob ft hn ?_;refine UC (hs _ _ _ ?_);refine UC (sU hit #[1] λh1 g1 b1=>?_);have g1'  := g1;refine UC (sU g1' #[1] λh2 g2 b2=>?_);exact UD ⟨_,rfl,UD (q h2 g2 (b1.trans b2))⟩
theorem FQ(hh:A.handled=none)(hit:s.heap.get? I=some (kU (.int sl 0) i (.ref a) n ep))(ob:s.heap.get? a=some (bu es ep t))(ft:t.fits es.size=true)(hn:es.size=n)
 (hs:∀(A':YQ) (Q':Option (Value×Nat)->YR->Prop) (E':Yy),Q' none s->wpAny (model P w) A' (setNext a sl i ep) Q' E' s)
 (q:∀h',Heap.ExtBut I s.heap h'->Q none {s with heap:=h'}):wpAny (model P w) A (pyNext (.ref I)) Q E s:=by
 refine UC (Wz (Vd (gg hit) bY (U7 bY (gg hit) hG ?_ (jb _))));refine ve hit ob ft hn ?_;refine UC (hs _ _ _ ?_);refine UC (sU hit #[1] λh1 g1 b1=>?_);exact FP (B:=λ_=>True) hh q b1.extBut
theorem JJ{place:Nat}(hit:s.heap.get? I=some (kU (.ref T) i (.ref a) n ep))(ob:s.heap.get? a=some (bu es ep t))(ft:t.fits es.size=true)(hn:es.size=n)(hT:s.heap.IsTuple T pl)(hp:pl[i]?=some (rawInt place))(hx:es[place]?=some x)
 (q:∀h',h'.get? I=some (kU (.ref T) (i+1) (.ref a) n ep)->Heap.SameBut I s.heap h'->Q (some x.2) {s with heap:=h'}):wpAny (model P w) A (pyNext (.ref I)) Q E s:=by
 unfold pyNext;refine UC (Wz (Vd (name:=Str.ofString "__next__") (gg hit) bY (U7 bY (gg hit) hG ?_ (jb _))));refine ve hit ob ft hn ?_;dsimp only;obtain⟨oT,gT,cT,nT,dT⟩:=hT;refine UC (VM gT dT ?_);dsimp only;rw[hp];show wpAny _ _ (setNextDrawn a (Int.toNat (place:Nat)) ep >>= _) _ _ _;rw[V7];unfold setNextDrawn;refine UC (UC (bX ob ft ?_));dsimp only;rw[if_neg (by simp),hx];refine UD ?_;refine UC (sU hit #[1] λh1 g1 b1=>?_);exact UD ⟨_,rfl,UD (q h1 g1 b1)⟩
theorem Mq(hh:A.handled=none)(hit:s.heap.get? I=some (kU (.ref T) i (.ref a) n ep))(ob:s.heap.get? a=some (bu es ep t))(ft:t.fits es.size=true)(hn:es.size=n)(hT:s.heap.IsTuple T pl)(hp:pl[i]?=none)
 (q:∀h',Heap.ExtBut I s.heap h'->Q none {s with heap:=h'}):wpAny (model P w) A (pyNext (.ref I)) Q E s:=by
 refine UC (Wz (Vd (name:=Str.ofString "__next__") (gg hit) bY (U7 bY (gg hit) hG ?_ (jb _))));refine ve hit ob ft hn ?_;obtain⟨oT,gT,cT,nT,dT⟩:=hT;refine UC (VM gT dT ?_);dsimp only;rw[hp];refine UC (sU hit #[1] λh1 g1 b1=>?_);have g1':h1.get? I=some (kU (rawInt 0) i (.ref a) n ep):=g1;refine UC (sU (s:={s with heap:=h1}) g1' #[1] λh2 g2 b2=>?_);exact FP (s:={s with heap:=h2}) (h0:=s.heap) (B:=λ_=>True) hh q (b1.trans b2).extBut
theorem yS(ob:s.heap.get? a=some (bu es ep t))(ft:t.fits es.size=true)(hb:cP w=true)(hL:L=pickOrder (w.params.setOrder a ep) es)(h:Q ((L[i]?).map λe=>(e.2,sl)) s):wpAny (model P w) A (setNext a sl i ep) Q E s:=by unfold setNext;refine UC (bX ob ft ?_);dsimp only;refine UC (gL ?_);rw[if_pos hb,if_neg (by simp)];unfold setWalk;refine UC (UC (bX ob ft ?_));dsimp only;refine UC (gL ?_);rw[if_pos hb];refine UC (Xm (UD (UD ?_)));rw[hL]at h;exact h
theorem wI(ob:s.heap.get? a=some (bu es ep t))(ft:t.fits es.size=true)(hb:cP w=false)(hd:(!t.plain&&decide (es.size>1))=false)(hl:t.led=true)
 (h:Q (match es[SetTable.below t.place sl]?,t.place[SetTable.below t.place sl]? with|some (_,x),some j=>some (x,j+1)|_,_=>none) s):wpAny (model P w) A (setNext a sl i ep) Q E s:=by
 unfold setNext;refine UC (bX ob ft ?_);dsimp only;refine UC (gL ?_);rw[if_neg (by rw[hb];simp)];refine Vp (λz=>absurd z (by show ¬ (!t.plain&&decide (es.size>1))=true;rw[hd];simp)) λ_=>?_;refine UC (m:=(if(!t.led && !es.isEmpty)=true then unsupported "set:maker-not-led" else pure ())) ?_;rw[hl];simp only[WA,XW,UQ,Vu];exact UD (UD h)
end
theorem fb:Slot "set_iterator" "__iter__" "set_iterator.__iter__" :=
 .of (by rfl) (by rfl) (by rfl) (by rfl)
  (by trivial) (by rfl)
theorem kq:entryFor table "set_iterator.__iter__" = some Builtin.«dict_keyiterator.__iter__» := entryFor_alias (id' := "dict_keyiterator.__iter__") (by kernel_rfl) rfl (by decide +kernel) (by kernel_rfl)
theorem l7(a:Value):argsOk "set_iterator.__iter__" ⟨[a],[]⟩:=by unfold argsOk;rw[signature?_of (id := "set_iterator.__iter__") (n:=['_', '_', 'r', 'e', 't', 'i', '_', '_']) (o:=['r', 'o', 't', 'a', 'r', 'e', 't', 'i', '_', 't', 'e', 's']) (by kernel_rfl) B9];rfl
def slotAt(place:YM):Nat->Nat
 |0=>0
 |i+1=>place.getD i 0+1
theorem wJ(r:pN xs):∀i,i<=xs.size->SetTable.below xs (slotAt xs i)=i
 |0,_=>by
  obtain⟨a,_,c⟩:=jy r (slotAt xs 0);apply Vt;intro z;have h0:0<SetTable.below xs (slotAt xs 0):=by omega
  have:=a 0 #[1] h0
  grind[slotAt]
 |i+1,h=>by
  have hi:i<xs.size:=by omega
  have e:slotAt xs (i+1)=xs[i]+1:=by simp[slotAt,Array.getD,hi]
  rw[e];obtain⟨a,b,c⟩:=jy r (xs[i]+1);apply Vt;intro z;by_cases h1:SetTable.below xs (xs[i]+1)<=i
  ·have:=b i hi h1;omega
  ·have h2:i+1<SetTable.below xs (xs[i]+1):=by omega
   have h3:i+1<xs.size:=by omega
   have:=a (i+1) h3 h2;have:=va r (i:=i) (k:=i+1) #[1] h3;omega
section
variable {P:YN} {w:World} {A:YQ} {E:Yy} {s:YR} {vp:Value->Prop}
theorem Aj{Q:Yy}(hT:s.TypeIs (.ref I) "set_iterator")(h:Q (.ref I) s):wpAny (model P w) A (Builtin.«dict_keyiterator.__iter__» ⟨[.ref I],[]⟩) (λfin s'=>∃v,fin=.done (.ret v)/\∃T' r,s'.TypeIs v T'/\typeLookup (.type T') (Str.ofString "__next__")=pure (some r)/\Q v s') E s:=UD ⟨_,rfl, "set_iterator",_,hT,bY.lookup,h⟩
noncomputable def Mr(P:YN)(w:World)(s:YR)(a:Addr)(es:YB)(Q:Yy):Prop:=
 ∀(L:List (Int×Value)) (I:Addr) (h':Heap) (dr:Drawn) (fp:YE) (St:Nat->Heap->Prop),List.Perm L es.toList->(∀b∈fp,b<h'.objs.size)->I∈fp->(∀b∈fp,b=a\/#[2]<=b)->#[2]<=I->(∀b o,s.heap.get? b=some o->h'.get? b=some o) ->
  (∀A':YQ,A'.handled=none->Walks P w A' I fp [I] L.length (λi v=>∃e,L[i]?=some e/\v=e.2) St)->St 0 h'->Q (.ref I) {s with heap:=h',drawn:=dr}
theorem JK(S:cC vp w s.heap a md ds es ep t)(q:Mr P w s a es Q):wpAny (model P w) A (pyIter (.ref a)) Q E s:=by
 have hT:s.TypeIs (.ref a) "set" := ⟨_,S.ob,rfl⟩;have hes:=S.size;have hln:=S.ln;have la:a<#[2]:=UM S.ob;refine Xd hT F.slot_set_iter (U7 F.slot_set_iter hT wH ?_ (F.args_set_iter_1 _));unfold Builtin.«frozenset.__iter__»;refine UC (WE (a:=a) rfl ?_);unfold Builtin.Frozenset.sizeOf;refine UC (UC (Yk S.ob rfl S.tb.fits (UD ?_)));unfold setDrawn;refine UC (UC (bX S.ob S.tb.fits ?_));dsimp only;refine UC (gL (UD ?_));have fits:=S.tb.fits;by_cases hd:(!cP w&&(!t.plain&&decide (es.size>1)))=true
 ·
  refine Vp (λ_=>?_) λz=>absurd hd z;refine UC (Ah es.size (List.range es.size) s _ (by simp) λidx dr p=>?_);have hil:idx.length=es.size:=by have:=p.length_eq;simpa using this
  refine UC (Yp (hsz:=by rw[UX,hil,VB];omega) ?_);refine UC (WQ (s:={s with heap:=s.heap.push _,drawn:=dr}) (UE _ S.ob) rfl fits ?_);refine UC (Vh (UD ⟨_,rfl, "set_iterator",_,⟨_,UL _ rfl,rfl⟩,bY.lookup,?_⟩));generalize hob:({cls:=.type "tuple",data:=.seq (idx.map λ(i:Nat)=>rawInt i).toArray}:Obj)=oT;have hsz:(s.heap.push oT).objs.size=#[2]+1:=VH _ _;have hin:∀k∈idx,k<es.size:=λk hk=>Vm.mp (p.mem_iff.mp hk);have hget:∀i k,idx[i]?=some k->∃e,es[k]?=some e:=λi k e=>⟨_,U1 (hin k (U6 e))⟩;obtain⟨g1,g2⟩:=D5 (es:=es) (l:=idx.map λk=>(0,k)) (λp hp=>by obtain⟨k,hk,rfl⟩:=U2.mp hp;exact hin k hk);have em:(idx.map λk=>((0:Nat),k)).map (·.2)=idx:=by rw[W4];exact List.map_id idx
  rw[em]at g1 g2;have hLp:List.Perm (idx.filterMap λk=>es[k]?) es.toList:=(p.filterMap _).trans (by rw[filterMap_getElem?_range]);have hLn:(idx.filterMap λk=>es[k]?).length=es.size:=by rw[hLp.length_eq];simp
  refine q (idx.filterMap λk=>es[k]?) (s.heap.push oT).objs.size _ dr [(s.heap.push oT).objs.size,#[2],a] (λi h=>h.get? (s.heap.push oT).objs.size=some (kU (.ref #[2]) i (.ref a) es.size ep)/\h.IsTuple #[2] (idx.map λ(i:Nat)=>rawInt i).toArray/\h.get? a=some (bu es ep t)) hLp (λb hb=>?_) (UZ ..) (λb hb=>by simp only[UP,Vj,WI]at hb;rcases hb with rfl|rfl|rfl;exact .inr (by rw[hsz];exact Wo _);exact .inr (UJ _);exact .inl rfl) (by rw[hsz];exact Wo _) (λb o e=>UE _ (UE _ e)) (λA' hh=>?_) ⟨?_,?_,?_⟩
  ·rw[VH,hsz];simp only[UP,Vj,WI]at hb;rcases hb with rfl|rfl|rfl
   ·rw[hsz];exact Wg _
   ·exact US (Wg _) (Wo _)
   ·exact US la #[1]
  ·have n1:#[2]≠(s.heap.push oT).objs.size:=by rw[hsz];exact UT (Wg _)
   have n2:a≠(s.heap.push oT).objs.size:=by rw[hsz];exact UT (Vx la)
   refine⟨λb hb=>by simp at hb;simp[hb],by rintro i h h' ⟨x1,⟨o,x2,x3⟩,x4⟩ k;exact⟨k _ (by simp) _ x1,⟨o,k _ (by simp) _ x2,x3⟩,k _ (by simp) _ x4⟩,λi s' Q' E' hi ⟨x1,x2,x3⟩ hQ=>?_,λs' Q' E' ⟨x1,x2,x3⟩ hQ=>?_,λi s' Q' E' ⟨x1,_,_⟩ hQ=>?_⟩
   ·rw[hLn]at hi;have hi2:i<idx.length:=by omega
    have ek:=UK hi2;obtain⟨e,he⟩:=hget i _ ek;refine JJ (x:=e) x1 x3 fits rfl x2 (place:=idx[i]) (by simp[ek]) he λh' y1 sb=>hQ e.2 h' s'.toks ⟨e,?_,rfl⟩ ⟨y1,?_,(sb.2 a n2).trans x3⟩ λb o hb eo=>(sb.2 b λz=>hb (by simp[z])).trans eo
    ·rw[g2 i (0,idx[i]) (by simp[ek])];exact he
    ·obtain⟨o,x2,x4⟩:=x2;exact⟨o,(sb.2 _ n1).trans x2,x4⟩
   ·rw[hLn]at x1;refine Mq hh x1 x3 fits rfl x2 (by simp;omega) λh' eb=>hQ h' s'.toks λb o hb eo=>eb b o (λz=>hb (by simp[z])) eo
   ·have hT':s'.TypeIs (.ref (s.heap.push oT).objs.size) "set_iterator" := gg x1;exact Xd hT' fb (U7 fb hT' kq (Aj hT' hQ) (l7 _))
  ·exact UL _ rfl
  ·subst hob;exact⟨_,UE _ (UL _ rfl),rfl,_,rfl⟩
  ·exact UE _ (UE _ S.ob)
 ·refine Vp (λz=>absurd z hd) λ_=>?_;refine UC (UD ?_);refine UC (WQ S.ob rfl fits ?_);refine UC (Vh (UD ⟨_,rfl, "set_iterator",_,⟨_,UL _ rfl,rfl⟩,bY.lookup,?_⟩));have na:a≠#[2]:=UT la;by_cases hb:cP w=true
  ·
   have pk:=yQ (w.params.setOrder a ep) es;have pkn:(pickOrder (w.params.setOrder a ep) es).toList.length=es.size:=by rw[pk.length_eq];simp
   refine q (pickOrder (w.params.setOrder a ep) es).toList #[2] _ s.drawn [#[2],a] (λi h=>h.get? #[2]=some (kU (.int ((0:Nat):Int) 0) i (.ref a) es.size ep)/\h.get? a=some (bu es ep t)) pk (λb hb=>?_) (UZ ..) (λb hb=>by simp only[UP,Vj,WI]at hb;rcases hb with rfl|rfl;exact .inr (UJ _);exact .inl rfl) (UJ _) (λb o e=>UE _ e) (λA' hh=>?_) ⟨UL _ rfl,UE _ S.ob⟩
   ·rw[VH];simp only[UP,Vj,WI]at hb;rcases hb with rfl|rfl
    ·exact Wg _
    ·exact Vx la
   ·refine⟨λb hb=>by simp at hb;simp[hb],by rintro i h h' ⟨x1,x4⟩ k;exact⟨k _ (by simp) _ x1,k _ (by simp) _ x4⟩,λi s' Q' E' hi ⟨x1,x3⟩ hQ=>?_,λs' Q' E' ⟨x1,x3⟩ hQ=>?_,λi s' Q' E' ⟨x1,_⟩ hQ=>?_⟩
    ·have ek:=UK hi;generalize (pickOrder (w.params.setOrder a ep) es).toList[i]=e at ek;refine Ca (x:=e.2) (nx:=0) x1 x3 fits rfl (λA2 Q2 E2 h2=>yS x3 fits hb rfl ?_) λh' y1 sb=>hQ e.2 h' s'.toks ⟨e,ek,rfl⟩ ⟨y1,(sb.2 a na).trans x3⟩ λb o hb eo=>(sb.2 b λz=>hb (by simp[z])).trans eo;rw[<- Vb,ek];exact h2
    ·refine FQ hh x1 x3 fits rfl (λA2 Q2 E2 h2=>yS x3 fits hb rfl ?_) λh' eb=>hQ h' s'.toks λb o hb eo=>eb b o (λz=>hb (by simp[z])) eo;rw[<- Vb,List.getElem?_eq_none (UJ _)];exact h2
    ·have hT':s'.TypeIs (.ref #[2]) "set_iterator" := gg x1;exact Xd hT' fb (U7 fb hT' kq (Aj hT' hQ) (l7 _))
  ·
   have hb':cP w=false:=by simpa using hb
   have hd':(!t.plain&&decide (es.size>1))=false:=by rw[hb']at hd;simpa using hd
   have hled:t.led=true:=by
    rcases S.ld with z|z
    ·exact z
    ·exact absurd z hb
   have hps:t.place.size=es.size:=S.tb.sz;refine q es.toList #[2] _ s.drawn [#[2],a] (λi h=>h.get? #[2]=some (kU (.int ((slotAt t.place i:Nat):Int) 0) i (.ref a) es.size ep)/\h.get? a=some (bu es ep t)) (.refl _) (λb hb=>?_) (UZ ..) (λb hb=>by simp only[UP,Vj,WI]at hb;rcases hb with rfl|rfl;exact .inr (UJ _);exact .inl rfl) (UJ _) (λb o e=>UE _ e) (λA' hh=>?_) ⟨UL _ rfl,UE _ S.ob⟩
   ·rw[VH];simp only[UP,Vj,WI]at hb;rcases hb with rfl|rfl
    ·exact Wg _
    ·exact Vx la
   ·refine⟨λb hb=>by simp at hb;simp[hb],by rintro i h h' ⟨x1,x4⟩ k;exact⟨k _ (by simp) _ x1,k _ (by simp) _ x4⟩,λi s' Q' E' hi ⟨x1,x3⟩ hQ=>?_,λs' Q' E' ⟨x1,x3⟩ hQ=>?_,λi s' Q' E' ⟨x1,_⟩ hQ=>?_⟩
    ·have hi':i<es.size:=by simpa using hi
     have ek:=U1 hi';have ep':=U1 (show i<t.place.size by omega);refine Ca (x:=es[i].2) (nx:=slotAt t.place (i+1)) x1 x3 fits rfl (λA2 Q2 E2 h2=>wI x3 fits hb' hd' hled ?_) λh' y1 sb=>hQ es[i].2 h' s'.toks ⟨es[i],by rw[Vb];exact ek,rfl⟩ ⟨y1,(sb.2 a na).trans x3⟩ λb o hb eo=>(sb.2 b λz=>hb (by simp[z])).trans eo;rw[wJ S.tb.rp i #[1],ek,ep'];have:slotAt t.place (i+1)=t.place[i]'#[1]+1:=by simp[slotAt,Array.getD,show i<t.place.size by omega]
     rw[this]at h2;exact h2
    ·have hl:es.toList.length=es.size:=by simp
     rw[hl]at x1;refine FQ hh x1 x3 fits rfl (λA2 Q2 E2 h2=>wI x3 fits hb' hd' hled ?_) λh' eb=>hQ h' s'.toks λb o hb eo=>eb b o (λz=>hb (by simp[z])) eo;rw[wJ S.tb.rp es.size #[1],XG (UJ _)];exact h2
    ·have hT':s'.TypeIs (.ref #[2]) "set_iterator" := gg x1;exact Xd hT' fb (U7 fb hT' kq (Aj hT' hQ) (l7 _))
end
section
variable {P:YN} {w:World} {A:YQ} {E:Yy} {s:YR} {vp:Value->Prop}
theorem JL(hT:s.TypeIs (.ref r) "set")(h:Q false s):wpAny (model P w) A (Builtin.List.listLengthHint (.ref r)) Q E s:=by
 unfold Builtin.List.listLengthHint;refine UC (Wa hT PySem.F.slot_set_len.lookup ?_);generalize Gz:("set.__len__" : String)=id0
 wp_delta
 rw[show splitId id0=some ("set", "__len__")from by subst Gz;decide +kernel];subst Gz;refine UC (Wv (T := "set") (b:=true) hT sub_set_self ?_);refine Vp (λhab=>absurd hab (by decide)) (λ_=>?_);refine Vp (λ_=>?_) (λhab=>absurd (by decide +kernel) hab);refine UC (Xt hT ?_);exact UD h
theorem Cb(S:cC vp w s.heap a md ds es ep t)(hh:A.handled=none)
 (q:∀(L:List (Int×Value)) h' dr tk,#[2]<h'.objs.size->List.Perm L es.toList->(∀b o,s.heap.get? b=some o->h'.get? b=some o)->Q (L.map (·.2)) {s with heap:=h',drawn:=dr,toks:=tk}):wpAny (model P w) A (collect (.ref a)) Q E s:=by
 have hes:=S.size;have hln:=S.ln;unfold collect;refine UC (wpAny_runValue (W5 F.entry_proto_collect ?_));rw[WJ F.plain_proto_collect _];show wpAny _ A.in1 (newList [] >>= λl=>again (.builtin "list.__iadd__" ⟨[l,.ref a],[]⟩)) _ _ s;refine UC (Vh ?_);refine UD ⟨Yb F.plain_list_iadd _,W5 F.entry_list_iadd ?_⟩;rw[WJ F.plain_list_iadd _];have hS₁:(s.heap.push {cls:=.type "list",data:=.seq ([]:YF).toArray}).get? #[2]=some {cls:=.type "list",data:=.seq ([]:YF).toArray}:=UL _ rfl;have la:=UM S.ob;have h1:Builtin.List.listSameRef (.ref #[2]) (.ref a)=false:=by simp[Builtin.List.listSameRef,WS la]
 have S1:cC vp w (s.heap.push {cls:=.type "list",data:=.seq ([]:YF).toArray}) a md ds es ep t:=S.keep λb o e=>UE _ e;show wpAny _ A.in1 (Builtin.List.listExtendWith (.ref #[2]) (.ref a) (.ref #[2])) _ _ _;unfold Builtin.List.listExtendWith;refine UC (Xt (T := "set") ⟨_,S1.ob,rfl⟩ ?_);rw[if_neg (by rw[h1];decide)];refine UC (JK (s:={s with heap:=s.heap.push {cls:=.type "list",data:=.seq ([]:YF).toArray}}) S1 λL I h' dr fp St p f1 f2 f5 f3 f4 W st=>?_);have hS2:=f4 _ _ hS₁;refine UC (U8 (JL (s:={s with heap:=h',drawn:=dr}) ⟨_,f4 _ _ S1.ob,rfl⟩ ?_));rw[if_pos (by decide)];have hLn:L.length=es.size:=by rw[p.length_eq];simp
 have hSf:#[2]∉fp:=λhm=>by
  rcases f5 _ hm with z|z
  ·exact absurd la (by rw[<- z];exact Vk _)
  ·have z':(s.heap.push {cls:=.type "list",data:=.seq ([]:YF).toArray}).objs.size<=#[2]:=z;rw[VH]at z';exact absurd z' (Nat.not_le.mpr (Wg _))
 refine UC (V5 ?_);refine UC ?_;show wpAny _ _ (updateSeq #[2] (·.push .none) >>= λ_=>updateSeq #[2] (·.pop)) _ _ _;refine UC (wpAny_updateSeq hS2 rfl ?_);have hS3:=VX (Obj.mapSeq (·.push Value.none)) hS2 rfl;refine wpAny_updateSeq (hz:=by seq_fits) hS3 rfl ?_;have hS4:=VX (Obj.mapSeq (·.pop)) hS3 rfl;have oth:∀b o,b≠#[2]->h'.get? b=some o->((h'.update #[2] (Obj.mapSeq (·.push Value.none))).update #[2] (Obj.mapSeq (·.pop))).get? b=some o:=λb o hb e=>(WY _ _ (Xv hb)).trans ((WY _ _ (Xv hb)).trans e);have st2:=(W A.in1 hh).frame 0 _ _ st λb hb o e=>oth b o (λz=>hSf (z▸hb)) e;refine UD ⟨Yb F.plain_extend_loop _,codeAny_extend_loopS (W A.in1 hh).toS (by rw[hLn,VB];omega) _ hSf _ L.length 0 _ _ _ rfl (Vw _) st2 hS4 (ItemsOf.nil _) λs' acc' c' hm hS' hacc=>?_⟩;show wpAny _ A (load #[2] >>= _) _ _ s';refine UC (XI hS' ?_);refine UD ?_
 have e1:acc'.toList=L.map (·.2):=by
  apply List.ext_getElem?;intro j;rw[Vb,Vo];by_cases hj:j<acc'.size
  ·obtain⟨e,he,hv⟩:=hacc.2 j acc'[j] (U1 hj);rw[U1 hj,he,hv];rfl
  ·rw[XG #[1],List.getElem?_eq_none (by rw[<- hacc.1];omega)];rfl
 rw[e1];obtain⟨hp2,g2,d2,tk2,os2⟩:=s';have eg:g2=s.gens:=hm.gens;have ed:d2=dr:=hm.drawn;have eo:os2=s.os:=hm.os;subst eg;subst ed;subst eo;refine q L hp2 d2 tk2 (UM hS') p λb o e=>hm.heap b o (λz=>?_) (oth b o (UT (UM e)) (f4 _ _ (UE _ e)));have lb:=UM e;rcases UP.mp z with z|z
 ·rw[z]at lb;exact Vk _ lb
 ·rw[UU.mp z]at lb;have f3':(s.heap.push {cls:=.type "list",data:=.seq ([]:YF).toArray}).objs.size<=I:=f3;rw[VH]at f3';exact absurd (US lb (Nat.le_of_succ_le f3')) (Vk _)
end
theorem uh:∀{vs:YF} {ds:YD},Paired (λv d=>∃as,Reads h v d as) vs ds->∃as,ReadsAll h vs ds as
 |_,_,.nil=>⟨_,.nil⟩
 |_,_,.cons ⟨_,r⟩ t=>by obtain⟨_,q⟩:=uh t;exact⟨_,.cons r q⟩
theorem oV(r:ReadsAll h vs ds as):∀(p:List Nat),(∀i∈p,i<vs.length)->∃bs,ReadsAll h (p.map λi=>vs.getD i .none) (p.map λi=>ds.getD i .none) bs
 | [],_=>⟨_,.nil⟩
 |i::p,hp=>by
  have hi:=hp i (UZ ..);obtain⟨bs,q⟩:=oV r p λj hj=>hp j (UI _ hj);obtain⟨d,cs,e1,e2⟩:=readsAll_get r (UK hi);refine⟨_,.cons (as:=cs) ?_ q⟩
  simp_all
section
variable {P:YN} {w:World} {A:YQ} {E:Yy} {s:YR} {vp:Value->Prop}
theorem Cc(p:List.Perm ds es)(h:dU ds=true):dU es=true:=by
 unfold dU at h ⊢;rw[UW]at h ⊢;intro a ha;have:=h a (p.mem_iff.mpr ha);rw[UW]at this ⊢
 grind
theorem Cd{f:PyData->Bool}(p:List.Perm ds es)(h:ds.all f=true):es.all f=true:=by
 rw[UW]at h ⊢
 grind
theorem gh:∀{ds:YD} {n:Nat},PyData.depthAll ds<=n<->∀d∈ds,d.depth<=n
 | [],n=>by simp[PyData.depthAll]
 |d::ds,n=>by simp[PyData.depthAll];rw[<- gh];omega
theorem yT:aB ds=true<->∀d∈ds,av d=true:=⟨λh d m=>bf h m,jZ⟩
theorem D8(S:bW vp w s.heap a md ds)(hh:A.handled=none)(pz:List.Perm ds zs)(ok:eO zs=true)(hu:A.units+60<cLine)
 (q:∀h' dr tk p us e,#[2]<=p->(∀b o,s.heap.get? b=some o->h'.get? b=some o)->h'.get? p=some (PyProof.Rows.seqObj "list" (us:YF).toArray e)->(∃as,ReadsAll h' us (c6 ltB zs) as)->(∀u∈us,vp u)->Q (.ref p) {s with heap:=h',drawn:=dr,toks:=tk}):wpAny (model P w) A (call (.builtin "sorted") [.ref a]) Q E s:=by
 obtain⟨es,ep,t,S⟩:=S;simp only[eO,UH,Vi,Wn]at ok;obtain⟨⟨⟨⟨kd,tr⟩,cm⟩,dp⟩,h64⟩:=ok;refine Calls.call_function_entry PyProof.Rows.kind_sorted PyProof.Rows.plain_sorted PyProof.Rows.entry_sorted (PyProof.Rows.args_sorted1 _) ?_;unfold Builtin.«sorted»;refine UC (m:=checkCount "sorted" 1 1 _) (UD ?_);refine UC (Cb S (by simp[hh]) λL h1 dr tk sz1 pL k1=>?_);obtain⟨ds1,p1,e1⟩:=iq pL.symm S.el;have pd:List.Perm ds1 zs:=p1.symm.trans pz;have hLd:L.length=ds1.length:=U3 e1;have hdz:ds1.length=zs.length:=pd.length_eq;generalize hvs:L.map (·.2)=vs;have hvl:vs.length=zs.length:=by rw[<- hvs,UX,hLd,hdz]
 obtain⟨as,ra⟩:∃as,ReadsAll h1 vs ds1 as:=by
  refine uh ?_;rw[<- hvs]
  have:∀{l:List (Int×Value)} {ys:YD},Paired (El vp w s.heap md) l ys->Paired (λv d=>∃as,Reads h1 v d as) (l.map (·.2)) ys:=by
   intro l ys h
   induction h with
   |nil=>exact .nil
   |cons r _ ih=>exact .cons (by obtain⟨as,x⟩:=r.rd;exact⟨as,kM (λb o _ _ e _ _=>k1 b o e) r.tr x⟩) ih
  exact this e1
 refine UC (Ya (hsz:=by rw[hvl,VB];omega) ?_);have hoL:(h1.push (PyProof.Rows.seqObj "list" vs.toArray 0)).get? h1.objs.size=some (PyProof.Rows.seqObj "list" vs.toArray 0):=UL _ rfl;have tr1:aB ds1=true:=yT.mpr λd m=>yT.mp tr d (pd.mem_iff.mp m);have cm1:=Cc pd.symm cm;have O:=Rb (jf cm1 tr1);rw[hdz,<- hvl]at O;refine UC (U8 (U7 PyProof.Rows.slot_list_sort ⟨_,hoL,rfl⟩ PyProof.Rows.entry_list_sort (PySem.W.oM hoL O #[1] (λh' k h2=>?_) λp a1 a2=>⟨_,rfl,?_⟩) (PyProof.Rows.args_list_sort _)))
 ·have ra':ReadsAll h' vs ds1 as:=Vy (λb o e=>k b o (UT (UM e)) (UE _ e)) ra
  have la:PyData.canLayAll0 ds1=true:=qw (bC.mpr λd m=>by
   obtain⟨i,hi⟩:=VI m;obtain⟨e,_,x⟩:=kc e1 hi
   exact x.so) (i6 tr1)
  rcases kd with kd|kd
  ·exact yw (s:={s with heap:=h',drawn:=dr,toks:=tk}) ra' (Cd pd.symm kd) h2
  ·exact yu (s:={s with heap:=h',drawn:=dr,toks:=tk}) (by show A.units+1+1+41<cLine;omega) ra' (Cd pd.symm kd) tr1 cm1 la (gh.mpr λd m=>gh.mp dp d (pd.mem_iff.mp m)) #[1]
 ·obtain⟨e,he⟩:=PyProof.Rows.sortedHeap_at (out:=(p.toList.map λi=>vs.getD i Value.none).toArray) hoL;have kp:∀b o,h1.get? b=some o->(PyProof.Rows.sortedHeap (h1.push (PyProof.Rows.seqObj "list" vs.toArray 0)) h1.objs.size vs (p.toList.map λi=>vs.getD i Value.none).toArray).get? b=some o:=λb o eb=>by rw[PyProof.Rows.sortedHeap_old (UT (UM eb)) (by rw[VH];exact Vx (UM eb))];exact UE _ eb
  have hin:∀i∈p.toList,i<vs.length:=λi hi=>Vm.mp (a1.perm.mem_iff.mp hi);obtain⟨bs,rb⟩:=oV ra p.toList hin
  have e1':(p.toList.map λi=>ds1.getD i .none)=c6 ltB zs:=by
   refine Bn cm tr ?_ ?_
   ·have:=a1.perm.map (λi=>ds1.getD i .none);rw[hvl,<- hdz,iY]at this;exact this.trans pd
   ·have hlp:p.toList.length=vs.length:=by rw[a1.perm.length_eq,Yu]
    unfold Up;rw[XO,WG];intro i j hi hj hij;have x1:PySem.W.pat p i=p.toList[i]:=by simp only[Vr]at hi;rw[PySem.W.mW,Yx p i hi];simp
    have x2:PySem.W.pat p j=p.toList[j]:=by simp only[Vr]at hj;rw[PySem.W.mW,Yx p j hj];simp
    have:=a2 i j hij #[1];rw[x1,x2]at this;exact this
  rw[e1']at rb;refine UD ⟨_,rfl,q _ dr tk h1.objs.size (p.toList.map λi=>vs.getD i Value.none) e (Xp sz1) (λb o eb=>kp b o (k1 b o eb)) he ⟨bs,Vy kp rb⟩ λu hu=>?_⟩;obtain⟨i,hi,rfl⟩:=U2.mp hu;have hil:=hin i hi;have eu:vs.getD i Value.none=vs[i]:=by simp[hil]
  have hmem:vs[i]∈L.map (·.2):=by rw[hvs];exact X4 hil
  obtain⟨e',he',e2⟩:=U2.mp hmem;obtain⟨j,hj⟩:=VI he';obtain⟨d',_,x⟩:=fL e1 hj;rw[eu,<- e2];exact x.vl
end
end Ru
namespace Ml
open PySem PySem.Spec L2 Ru
theorem _root_.L2.Inv.dr{σ:St}(I:L2.Inv X pins σ H s)(dr:Drawn):L2.Inv X pins σ H {s with drawn:=dr}:=⟨I.ok,I.os,I.bare,I.base,I.loc,I.cell,I.free,I.freeC,I.pin,I.hok,I.len⟩
structure JM(X:Cx)(M:Hp)(s:YR)(b:Addr)(ds:YD)(vs:List V)(its:YF):Prop where
 src:∃T OK,Src X.prog X.w T b its.toArray OK/\OK s.heap
 rep:aZ M ds vs
 val:Vals vs its
 so:cF ds=true
theorem FR{σ:St}(I:L2.Inv X pins σ H s)(w:W X.G θ hm H)(r:b9 X.G θ H d v)(e:gx d hm=some ds) :
  ∃b vs its,v=.ref b/\JM X (view θ H) s b ds vs its:=by
 have tup:∀(b:Addr) (vs:List V),v=.ref b->gA X.K H b vs->aZ _ ds vs->cF ds=true->∃b vs its,v=.ref b/\JM X (view θ H) s b ds vs its:=λb vs e1 e2 e3 e4=>by obtain⟨its,rv,pl,_⟩:=I.tuple e2;exact⟨b,vs,its,e1,⟨"tuple",_,src_tuple b its.toArray,pl⟩,e3,rv,e4⟩
 have hs:=e;unfold gx at hs;split at hs
 ·cases hs;obtain⟨⟨b,vs,rfl,hb,rr⟩,so⟩:=r;exact tup b vs rfl (.inl (.inl (ax _ _ _ _ hb))) rr (by assumption)
 ·cases hs;obtain⟨b,rfl,⟨o,its,n,k1,k2,k3,k4,k5⟩,k6,k7⟩:=r;refine tup b _ rfl (.inr ⟨o,its,n,k1,k2,k3,k4,k5⟩) (oj (we (G:=X.G) k6 k7) (sA _)).1 k7
 ·obtain⟨b,vs,rfl,hb,rr,so⟩:=oq w r hs;obtain⟨its,n,rv,eo,hz⟩:=I.lst hb;exact⟨b,vs,its,rfl,⟨"list",_,src_list b its.toArray,⟨_,eo,rfl,n,rfl⟩⟩,rr,rv,so⟩
theorem wK(rp:aZ M ds vs)(rv:Vals vs its)(ra:ReadsAll h its ds as):∀{us:YF} {zs:YD} {bs:YE},ReadsAll h us zs bs->(∀u∈us,u∈its)->∃ws,Vals ws us/\aZ M zs ws
 |_,_,_,.nil,_=>⟨[],.nil,rfl⟩
 |_,_,_,.cons r t,hu=>by obtain⟨ws,q1,q2⟩:=wK rp rv ra t λu m=>hu u (UI _ m);obtain⟨i,hi⟩:=VI (hu _ (UZ ..));obtain⟨d,cs,e1,e2⟩:=readsAll_get ra hi;obtain⟨x,e3,e4⟩:=aZ.get' rp e1;obtain⟨u',e5,e6⟩:=rv.get e3;rw[hi]at e5;cases e5;have:=(Yl r _ _ e2).1;subst this;exact⟨x::ws,.cons e6 q1,.cons e4 q2⟩
theorem Ce(h:setOk ds=true)(so:cF ds=true):∃md,ds.length<=120/\(∀d∈ds,aC d=true)/\∀d∈ds,PF md d:=by
 simp only[setOk,UH,Vi,Wn]at h;obtain⟨⟨⟨h1,h2⟩,h3⟩,h4⟩:=h;have t:=yD.mp h2;rcases h1 with h1|h1
 ·exact⟨true,h4,t,λd m=>⟨t d m,gh.mp h3 d m,bC.mp so d m,UW.mp h1 d m⟩⟩
 ·refine⟨false,h4,t,λd m=>⟨t d m,gh.mp h3 d m,bC.mp so d m,?_⟩⟩;have:=UW.mp h1 d m;cases d<;>simp[mY]at this<;>rfl
section
variable {X:Cx} {E:XK} {m m2:ME} {e e2:Expr} {k:Nat} {pins:Yz} {σ:St} {H:Hp} {s:YR} {θ:YE} {hm:Hm} {Q:VK} {p1 p2 p3 p4 p5 p6 pos:Pos}
theorem D9(I:L2.Inv X pins σ H s)(w:W X.G θ hm H)(sm:M=view θ H)(hk:∀b o,s.heap.get? b=some o->s'.heap.get? b=some o)(hs:∃h tk dr,s'={s with heap:=h,toks:=tk,drawn:=dr})(hsz:#[2]<=s'.heap.objs.size)
 (S:bW vp X.w s'.heap a md dsS)(hh:X.A.handled=none)(pz:List.Perm dsS zs)(ok:eO zs=true)(so:cF zs=true)(hu:X.A.units+60<cLine)(rp:aZ M ds vs)(rv:Vals vs its)(ra:ReadsAll s'.heap its ds as)(hvp:∀v,vp v->v∈its)
 (q:aA X.G (qi X.G E) θ H (.ok (.dat (.list (c6 ltB zs))) hm) (KV X.G Q)):wpAny (model X.prog X.w) X.A (call (.builtin "sorted") [.ref a]) (EP X pins σ Q) X.xe s':=by
 obtain⟨h1,tk1,dr1,rfl⟩:=hs;refine D8 S hh pz ok hu λh' dr tk p us e' hp kp he ⟨bs,rb⟩ vu=>?_;have ra':ReadsAll h' its ds as:=Vy kp ra;obtain⟨ws,q1,q2⟩:=wK rp rv ra' rb λu m=>hvp u (vu u m);have hpp:#[2]<=p:=UO hsz hp;have hn:H p=none:=I.hok.fresh hpp;obtain⟨ev,w1,g⟩:=w.put (o:=.lst ws) hn
 have hlen:ws.length<=sizeLine:=by
  have x1:=q2.length;have x2:(c6 ltB zs).length=zs.length:=(aW _ _).length_eq;simp only[eO,UH,Vi]at ok
  grind[sizeLine_eq]
 have I2:L2.Inv X pins σ (upd H p (.lst ws)) {s with heap:=h',toks:=tk}:=I.laid (t':=tk) (λb o eb=>kp b o (hk b o eb)) hpp ⟨hlen,us,e',q1,he⟩;subst sm;exact⟨.ref p,_,I2.dr dr,rfl,q _ _ ev w1 _ ⟨⟨p,ws,rfl,g,q2.same ev.same⟩,by simp only[fj];exact sJ (aW _ _).symm so⟩⟩
end
theorem qY:∀{us vs:YF} {ds es:YD} {as bs:YE},ReadsAll h us ds as->ReadsAll h vs es bs->∃cs,ReadsAll h (us++vs) (ds++es) cs
 |_,_,_,_,_,_,.nil,q=>⟨_,q⟩
 |_,_,_,_,_,_,.cons r t,q=>by obtain⟨_,x⟩:=qY t q;exact⟨_,.cons r x⟩
theorem Cf:∀{ds es:YD} {vs us:List V},aZ M ds vs->aZ M es us->aZ M (ds++es) (vs++us)
 | [],_,_,_,h,q=>by cases h;exact q
 |_::_,_,_,_,⟨x,xs,rfl,r1,r2⟩,q=>⟨x,_,rfl,r1,Cf r2 q⟩
theorem kW:∀{xs ys:YD},xs.Nodup->(∀x∈xs,x∈ys)->xs.length<=ys.length
 | [],_,_,_=>Vw _
 |x::xs,ys,nd,h=>by
  classical
  obtain⟨n1,n2⟩:=VE.mp nd;have hx:=h x (UZ ..);obtain⟨i,hi,e⟩:=WU hx;have p:=gf hi
  have:=kW (ys:=ys.eraseIdx i) n2 λy hy=>by
   grind
  grind
theorem _root_.Ru.cC.move(S:cC vp w h a md ds es ep t)(ob:h'.get? a=some (bu es ep t))(hv:∀v,vp v->vp' v)(hr:∀v d as,vp v->Reads h v d as->∃bs,Reads h' v d bs):cC vp' w h' a md ds es ep t:=
 ⟨ob,S.tb,S.ld,S.nd,S.ln,Paired.lB S.el λ_ _ x=>⟨x.tr,x.dp,x.so,x.hs,x.kd,by obtain⟨as,r⟩:=x.rd;exact hr _ _ as x.vl r,hv _ x.vl⟩⟩
section
variable {X:Cx} {E:XK} {m m2:ME} {e e2:Expr} {k:Nat} {p1 p2 p3 p4 p5 p6 pos:Pos}
theorem Cg{σ:St}{Qa:V->Hp->Prop}(hg2:Gl X "set")(hm2:X.mg "set" = none)(I:L2.Inv X pins σ H s)(ha:PE X e te)(ht:te σ H Qa)
 (hs:starEach [e] X.env=[(false,eval e X.env)])
 (q:∀u s1 v H1,L2.Inv X pins σ H1 s1->RelV v u->Qa v H1->wpAny (model X.prog X.w) X.A (call (.type "set") [u]) Q X.xe s1):wpAny (model X.prog X.w) X.A (eval (.Call (.Name "set" p2) [e] [] p3) X.env) Q X.xe s:=by
 refine VL (lC I hg2 hm2 (by rfl:bootBuiltins "set" = some (.type "set")) ?_);refine Wm ?_ (by trivial) (by rfl);rw[hs];show wpAny _ _ (spliced ((false,eval e X.env)::[])) _ _ s;refine Calls.spliced_cons (bE (ha pins s σ H Qa I ht) λu s1 ⟨v,H1,I1,rv1,q1⟩=>?_);exact Calls.spliced_nil (q u s1 v H1 I1 rv1 q1)
structure T6(X:Cx)(op:Operator)(f:YD->YD->YD)(G:YD->YD->PyData->Prop):Prop where
 run:∀{vp:Value->Prop} {md:Bool} {l r:Addr} {ds eds:YD} {Q:Yy} {s:YR},X.A.units+21<cLine->l≠r->bW vp X.w s.heap l md ds->bW vp X.w s.heap r md eds->ds.length+eds.length<=120->JG vp X.w s md (G ds eds) Q->wpAny (model X.prog X.w) X.A (binaryOp op (.ref l) (.ref r)) Q X.xe s
 mem:∀{ds es:YD},(∀d∈ds++es,aC d=true)->(f ds es).Nodup/\∀d,d∈f ds es<->G ds es d
 congr:∀{ds es ds' es':YD},(∀d,d∈ds<->d∈ds')->(∀d,d∈es<->d∈es')->∀d,G ds es d<->G ds' es' d
 sub:∀{ds es:YD} {d},G ds es d->d∈ds++es
theorem Ms:T6 X .BitXor pG (λds es d=>(d∈ds/\d∉es)\/(d∉ds/\d∈es)) where
 run:=λh1 h2 h3 h4 h5 h6=>PD h1 h2 h3 h4 h5 h6
 mem:=λ{ds es} h=>by
  have h1:∀d∈ds,aC d=true:=λd m=>h d (U4 _ m);have h2:∀d∈es,aC d=true:=λd m=>h d (UG _ m)
  have key:∀d,d∈pG ds es<->(d∈ds/\d∉es)\/(d∉ds/\d∈es):=λd=>by
   unfold pG;rw[UR,U0,U0,kP h1,kP h2];constructor
   ·rintro(⟨a,b⟩|⟨a,b⟩)
    ·exact .inl ⟨a,λz=>by rw[(i8 h2 (h1 d a)).mpr z]at b;cases b⟩
    ·exact .inr ⟨(λz=>by rw[(i8 h1 (h2 d a)).mpr z]at b;cases b),a⟩
   ·rintro(⟨a,b⟩|⟨a,b⟩)
    ·refine .inl ⟨a,?_⟩
     cases z:es.any (PyData.eqv d)with
     |true=>exact absurd ((i8 h2 (h1 d a)).mp z) b
     |false=>rfl
    ·refine .inr ⟨b,?_⟩
     cases z:ds.any (PyData.eqv d)with
     |true=>exact absurd ((i8 h1 (h2 d b)).mp z) a
     |false=>rfl
  refine⟨?_,key⟩;unfold pG;refine Wl.mpr ⟨(j3 h1).sublist Wq,(j3 h2).sublist Wq,λx hx y hy z=>?_⟩;subst z;obtain⟨a,_⟩:=U0.mp hx;obtain⟨_,b⟩:=U0.mp hy;have a':=(kP h1 x).mp a;rw[(i8 h1 (h1 x a')).mpr a']at b;cases b
 congr:=λh1 h2 d=>by rw[h1,h2]
 sub:=λh=>by
  rcases h with h|h
  ·exact U4 _ h.1
  ·exact UG _ h.2
theorem G8(O:T6 X op f G)(hc:X.calm=true)(hr:L2.cE k X.A)(hm1:X.mg "sorted" = none)(hm2:X.mg "set" = none)(ha:DE X E m e)(hb:DE X E m2 e2)(hg:Gl X "sorted" := by rfl)(hg2:Gl X "set" := by rfl)(hs:starEach [e] X.env=[(false,eval e X.env)]:=by rfl)(hs2:starEach [e2] X.env=[(false,eval e2 X.env)]:=by rfl)
 (hs3:starEach [.BinOp (.Call (.Name "set" p2) [e] [] p3) op (.Call (.Name "set" p4) [e2] [] p5) p6] X.env=[(false,eval (.BinOp (.Call (.Name "set" p2) [e] [] p3) op (.Call (.Name "set" p4) [e2] [] p5) p6) X.env)]:=by rfl) :
  DE X E (u7 f m m2) (.Call (.Name "sorted" p1) [.BinOp (.Call (.Name "set" p2) [e] [] p3) op (.Call (.Name "set" p4) [e2] [] p5) p6] [] pos):=by
 simp only[bj]at *;rintro pins s σ H Q I ⟨θ,h,ρ,w,fr,p⟩;refine VL (lC I hg hm1 (by decide +kernel:bootBuiltins "sorted" = some (.builtin "sorted")) ?_);refine XZ ?_ (by rw[hs3];rfl) (by rfl);rw[hs3];show wpAny _ _ (spliced ((false,eval (.BinOp (.Call (.Name "set" p2) [e] [] p3) op (.Call (.Name "set" p4) [e2] [] p5) p6) X.env)::[])) _ _ s;refine Calls.spliced_cons ?_;have hun:=hr.un;have hA:=I.ok.hd hc
 refine wpAny_BinOp (Cg (Qa:=λv H1=>∃θ1 h1 d,W X.G θ1 h1 H1/\Fr X.G θ1 H1 ρ σ/\b9 X.G θ1 H1 d v/\aA X.G (qi X.G E) θ1 H1 (match gx d h1 with
   |some ds=>if setOk ds then(m2 ρ h1).bind λy h2=>match gx y h2 with
     |some es=>if setOk (ds++es)&&eO (f ds es)then .ok (.dat (.list (c6 ltB (f ds es)))) h2 else .bad
     |Option.none=>.bad
    else .bad
   |Option.none=>.bad) (Ml.KV X.G Q)) hg2 hm2 I ha ⟨θ,h,ρ,w,fr,(aA.bind p).mono (by rintro d θ1 h1 H1 _ _ ⟨ev,w1,q1⟩ v r1;exact⟨θ1,h1,d,w1,fr.ev ev,r1,q1⟩)⟩ hs λu s1 v H1 I1 rv1 ⟨θ1,h1,d,w1,fr1,r1,q1⟩=>?_)
 cases hsq:gx d h1 with
 |none=>rw[hsq]at q1;exact q1.elim
 |some ds=>
  rw[hsq]at q1;dsimp only at q1;by_cases hc1:setOk ds=true
  case neg=>rw[if_neg hc1]at q1;exact q1.elim
  rw[if_pos hc1]at q1;obtain⟨b,vs,its,rfl,SS⟩:=FR I1 w1 r1 hsq;cases rv1;obtain⟨T,OK,src,hok⟩:=SS.src;obtain⟨as,ra⟩:=aZ.reads I1 (SS.rep.same (ax _ _)) SS.val;obtain⟨md,hl,ht,hel⟩:=Ce hc1 SS.so;refine B8 (vp:=λv=>v∈its) (md:=md) (ys:=ds) (as:=as) src hA hok (by simpa using ra) hel (λv m=>by simpa using m) hl #[1] λg1 tk1 dsS S md1 kp1=>?_;obtain⟨es1,ep1,t1,SA⟩:=S;have I1':L2.Inv X pins σ H1 {s1 with heap:=g1,toks:=tk1}:=I1.kept (t':=tk1) kp1;have hna:H1 s1.heap.objs.size=none:=I1.hok.fresh (UJ _);have hfp:jP X pins H1 s1.heap.objs.size:=I1.Gh (UJ _) hna
  have I1p:L2.Inv X (pins++[(s1.heap.objs.size,bu es1 ep1 t1)]) σ H1 {s1 with heap:=g1,toks:=tk1}:=I1'.gQ λp hp=>by
   rcases UR.mp hp with z|z
   ·exact I1'.pin p (UG _ z)
   ·rw[UU.mp z];obtain⟨f0,f1,f2,_⟩:=hfp;exact⟨SA.ob,f0,f1,f2,λv z=>by cases z⟩
  refine Cg (Qa:=λv H2=>∃θ2 h2 d2,Ev θ1 H1 θ2 H2/\W X.G θ2 h2 H2/\b9 X.G θ2 H2 d2 v/\aA X.G (qi X.G E) θ2 H2 (match gx d2 h2 with
     |some es=>if setOk (ds++es)&&eO (f ds es)then .ok (.dat (.list (c6 ltB (f ds es)))) h2 else .bad
     |Option.none=>.bad) (Ml.KV X.G Q)) hg2 hm2 I1p hb ⟨θ1,h1,ρ,w1,fr1,(aA.bind q1).mono (by rintro d2 θ2 h2 H2 _ _ ⟨ev2,w2,q2⟩ v2 r2;exact⟨θ2,h2,d2,ev2,w2,r2,q2⟩)⟩ hs2 λu2 s2 v2 H2 I2 rv2 ⟨θ2,h2,d2,ev2,w2,r2,q2⟩=>?_
  cases hsq2:gx d2 h2 with
  |none=>rw[hsq2]at q2;exact q2.elim
  |some es=>
   rw[hsq2]at q2;dsimp only at q2;by_cases hc2:(setOk (ds++es)&&eO (f ds es))=true
   case neg=>rw[if_neg hc2]at q2;exact q2.elim
   rw[if_pos hc2]at q2;simp only[UH]at hc2;obtain⟨b2,vs2,its2,rfl,SS2⟩:=FR I2 w2 r2 hsq2;cases rv2;obtain⟨T2,OK2,src2,hok2⟩:=SS2.src;obtain⟨as2,ra2⟩:=aZ.reads I2 (SS2.rep.same (ax _ _)) SS2.val;have rp1:aZ (view θ2 H2) ds vs:=SS.rep.same ev2.same;obtain⟨as1,ra1⟩:=aZ.reads I2 (rp1.same (ax _ _)) SS.val
   have so12:cF (ds++es)=true:=bC.mpr λx hx=>by
    rcases UR.mp hx with z|z
    ·exact bC.mp SS.so x z
    ·exact bC.mp SS2.so x z
   obtain⟨md2,hl2,ht2,hel2⟩:=Ce hc2.1 so12;have obA:s2.heap.get? s1.heap.objs.size=some (bu es1 ep1 t1):=(I2.pin (s1.heap.objs.size,bu es1 ep1 t1) (by simp)).1;have ra1':ReadsAll g1 its ds as:=Vy kp1 ra;have SA2:cC (λv=>v∈its++its2) X.w s2.heap s1.heap.objs.size md dsS es1 ep1 t1:=SA.move obA (λv hv=>U4 _ hv) λv d' as' hv rd'=>by obtain⟨i,hi⟩:=VI hv;obtain⟨x,bs,e1,e2⟩:=readsAll_get ra1' hi;obtain⟨y,cs,e3,e4⟩:=readsAll_get ra1 hi;rw[e1]at e3;cases e3;have:=(Yl rd' _ _ e2).1;subst this;exact⟨cs,e4⟩
   have hmd:md=md2\/dsS=[]:=by
    cases hd:dsS with
    |nil=>exact .inr rfl
    |cons x xs=>have hx:x∈ds:=(md1 x).mp (by rw[hd];exact UZ ..);exact .inl ((hel x hx).2.2.2.symm.trans (hel2 x (U4 _ hx)).2.2.2)
   have SB2:bW (λv=>v∈its++its2) X.w s2.heap s1.heap.objs.size md2 dsS:=by
    rcases hmd with rfl|rfl
    ·exact⟨_,_,_,SA2⟩
    ·have:es1.toList=[]:=by
      have hh:=SA2.el;generalize es1.toList=l at hh;cases hh;rfl
     exact⟨es1,ep1,t1,SA2.ob,SA2.tb,SA2.ld,SA2.nd,SA2.ln,by rw[this];exact .nil⟩
   have hlen1:ds.length+es.length<=120:=by simpa using hl2
   refine B8 (vp:=λv=>v∈its++its2) (md:=md2) (ys:=es) (as:=as2) src2 hA hok2 (by simpa using ra2) (λy hy=>hel2 y (UG _ hy)) (λv m=>UG _ (by simpa using m)) #[1] #[1] λg3 tk3 dsS2 S3 md3 kp3=>?_;have SB3:bW (λv=>v∈its++its2) X.w g3 s1.heap.objs.size md2 dsS:=by obtain⟨a1,a2,a3,a4⟩:=SB2;exact⟨a1,a2,a3,a4.keep kp3⟩
   have lt2:s1.heap.objs.size<s2.heap.objs.size:=UM obA;have nd1:dsS.length<=ds.length:=by obtain⟨_,_,_,z⟩:=SB2;exact kW z.nd λx hx=>(md1 x).mp hx
   have nd3:dsS2.length<=es.length:=by obtain⟨_,_,_,z⟩:=S3;exact kW z.nd λx hx=>(md3 x).mp hx
   refine O.run (s:={s2 with heap:=g3,toks:=tk3}) #[1] (UT lt2) SB3 S3 #[1] λa4 g4 ds4 dr4 ge4 kp4 S4 md4=>?_;refine Calls.spliced_nil ?_;obtain⟨cs,rc⟩:=qY (Vy (λb o eb=>kp4 b o (kp3 b o eb)) ra1) (Vy (λb o eb=>kp4 b o (kp3 b o eb)) ra2);obtain⟨fn,fm⟩:=O.mem ht2;have I2p:L2.Inv X pins σ H2 s2:=I2.gQ λp hp=>I2.pin p (by simp[hp]);have S40:=S4;obtain⟨_,_,_,SA4⟩:=S40;refine D9 (s:=s2) (s':={s2 with heap:=g4,toks:=tk3,drawn:=dr4}) I2p w2 rfl (λb o eb=>kp4 b o (kp3 b o eb)) ⟨g4,tk3,dr4,rfl⟩ ?_ S4 hA ?_ hc2.2 ?_ #[1] (Cf rp1 SS2.rep) (SS.val.append SS2.val) rc (λv hv=>hv) q2
   ·have:=UM SA4.ob;obtain⟨_,_,_,z⟩:=S3;have z2:=UM z.ob;have:g3.objs.size<=a4:=ge4;exact Xp (Nat.lt_trans z2 (Ym this (UM SA4.ob)))
   ·refine(Xg SA4.nd fn).mpr λx=>?_;rw[md4,fm,O.congr md1 md3]
   ·exact bC.mpr λx hx=>bC.mp so12 x (O.sub ((fm x).mp hx))
end
end Ml
namespace K36
open PySem L2 Ml
def top(i:Nat):Stmt:=PySem.Challenge.pw_everalike_k36_whole_lots_enforced.main.body.getD i (.Pass ⟨0,0,0,0⟩)
structure Txt(K:YG)(mg:YC):Prop where
 n_all:mg "all" = none
 n_len:mg "len" = none
 n_isinstance:mg "isinstance" = none
 n_str:mg "str" = none
 n_zip:mg "zip" = none
 n_tuple:mg "tuple" = none
 n_sorted:mg "sorted" = none
 n_any:mg "any" = none
 n_set:mg "set" = none
 n_bool:mg "bool" = none
 n_int:mg "int" = none
 n_range:mg "range" = none
 n_abs:mg "abs" = none
 n_divmod:mg "divmod" = none
 n_list:mg "list" = none
 n_max:mg "max" = none
 n_min:mg "min" = none
 i_LONGEST_NAME:∃t,mg "LONGEST_NAME" = some (.int 6 t)
 i_MOST_NAMES:∃t,mg "MOST_NAMES" = some (.int 12 t)
 i_MOST_ENFORCED:∃t,mg "MOST_ENFORCED" = some (.int 5 t)
 i_MOST_CHANGES:∃t,mg "MOST_CHANGES" = some (.int 4 t)
 f_FINDERS:∃a,mg "FINDERS" = some (.ref a)/\Jr K mg a ox
 f_JUDGES:∃a,mg "JUDGES" = some (.ref a)/\Jr K mg a kT
 t_KINDS:∃a,mg "KINDS" = some (.ref a)/\GJ K a Ad
 t_ENFORCED_KINDS:∃a,mg "ENFORCED_KINDS" = some (.ref a)/\GJ K a eY
section
abbrev jR(c:CX):=Txt c.K c.mg
variable {c:CX} {P:YN} {w:World} {K:YG} {mg:YC} {base:Heap} {XE:VK->XK} {bm:Addr}
abbrev sV:Stmt:=top 12
abbrev jg:YH:=["thing"]
theorem Ea:aE jg jg (au sV):=jM
theorem Ak:u9 ["letter"] jg:=by decide +kernel
abbrev yU(c:CX):Prop:=cU c "is_name" jg 1 kQ
theorem G9(D:j5 c "is_name" jg sV)(T:jR c):yU c:=
 bU.eq (Df.has (k:=0) D Ea (λf cdv A outer s H E hr=>
  ai (cR (DW.dt (qG (dX (bo (BI (LA _) OI T.n_isinstance T.n_str (dv 0)))) (mZ (dX (BH Bu Bu aD (rS oR T.n_len km (ae (dv 0) ag)) (u0 T.i_LONGEST_NAME)))))) (ak (aL bJ)) bz)
  (ak (aL (rS (vY rfl) T.n_all o8 (ae (cS ["letter"] (by rfl) rfl (bG (dv 0)) (λ_ _ _ _ _=>dg 0 Ak) (λ_ _ _ _ _=>eE) (λ_ _ _ _ _=>BG Bu Bu Iy (dv 0) Iy)) ag)))))) (by kernel_rfl)
abbrev nj:Stmt:=top 13
abbrev fP:YH:=["things"]
theorem Al:aE fP fP (au nj):=jM
theorem nq:u9 ["low", "high"] fP:=by decide +kernel
abbrev ke(c:CX):Prop:=cU c "is_rising" fP 1 fN
theorem Ci(D:j5 c "is_rising" fP nj)(T:jR c):ke c:=
 bU.eq (Df.has (k:=0) D Al (λf cdv A outer s H E hr=>
  ak (aL (rS (vY rfl) T.n_all o8 (ae (cS ["low", "high"] (by rfl) rfl (Pa (by rfl) T.n_zip (ae (dv 0) (ae (Bz (dv 0) (Fp aD) Fo) ag))) (λ_ _ _ _ _=>jv rfl (bH (dg 0 nq) (bH (dg 1 nq) fW)) (aT (aT de))) (λ_ _ _ _ _=>eE) (λ_ _ _ _ _=>dW (Pf hr) (dv 0) (dv 1) (by rfl))) ag))))) (by kernel_rfl)
abbrev nu:Stmt:=top 14
abbrev fQ:YH:=["thing"]
theorem Am:aE fQ fQ (au nu):=jM
theorem wL:u9 ["part"] fQ:=by decide +kernel
abbrev ui(c:CX):Prop:=cU c "are_names" fQ 2 j6
theorem Cj(D:j5 c "are_names" fQ nu)(T:jR c)(J13:ke c)(J12:yU c):ui c:=
 bU.eq (Df.has (k:=1) D Am (λf cdv A outer s H E hr=>
  ai (cR (DW.dt (qG (dX (bo (BI (kit_tuple _) eK T.n_isinstance T.n_tuple (dv 0)))) (mZ (br GQ (rS oR T.n_len km (ae (dv 0) ag)) (u0 T.i_MOST_NAMES) (by rfl))))) (ak (aL bJ)) bz)
  (ak (aL (lQ (rS (vY rfl) T.n_all o8 (ae (cS ["part"] (by rfl) rfl (bG (dv 0)) (λ_ _ _ _ _=>dg 0 wL) (λ_ _ _ _ _=>eE) (λ_ _ _ _ _=>fH J12 cv hr (ae (dv 0) ag))) ag)) (m6 (fH J13 aG hr (ae (dv 0) ag)))))))) (by kernel_rfl)
abbrev nv:Stmt:=top 15
abbrev iw:YH:=["thing", "names"]
theorem An:aE iw iw (au nv):=jM
abbrev uj(c:CX):Prop:=cU c "is_strike" iw 1 ij
theorem Ck(D:j5 c "is_strike" iw nv)(T:jR c):uj c:=
 bU.eq (Df.has (k:=0) D An (λf cdv A outer s H E hr=>
  ai (cR (DW.dt (qG (dX (bo (BI (kit_tuple _) eK T.n_isinstance T.n_tuple (dv 0)))) (mZ (br (DC hr) (rS oR T.n_len km (ae (dv 0) ag)) aD (by rfl))))) (ak (aL bJ)) bz)
  (ak (aL (lQ (dW (qM hr) (c9 (bF hr) (dv 0) aD (λ_ _=>rfl)) (dv 1) (by rfl)) (m6 (dW (qM hr) (c9 (bF hr) (dv 0) aD (λ_ _=>rfl)) (dv 1) (by rfl)))))))) (by kernel_rfl)
abbrev ku:Stmt:=top 16
abbrev dP:YH:=["thing", "names"]
theorem wM:aE dP dP (au ku):=jM
theorem sW:u9 ["part"] dP:=by decide +kernel
abbrev ky(c:CX):Prop:=cU c "are_strikes" dP 2 fu
theorem xX(D:j5 c "are_strikes" dP ku)(T:jR c)(J13:ke c)(J15:uj c):ky c:=
 bU.eq (Df.has (k:=1) D wM (λf cdv A outer s H E hr=>
  ai (cR (dX (bo (BI (kit_tuple _) eK T.n_isinstance T.n_tuple (dv 0)))) (ak (aL bJ)) bz)
  (ak (aL (lQ (rS (vY rfl) T.n_all o8 (ae (cS ["part"] (by rfl) rfl (bG (dv 0)) (λ_ _ _ _ _=>dg 0 sW) (λ_ _ _ _ _=>eE) (λ_ _ _ _ _=>fH J15 cv hr (ae (dv 0) (ae (dv 2) ag)))) ag)) (m6 (fH J13 aG hr (ae (dv 0) ag)))))))) (by kernel_rfl)
abbrev wN:Stmt:=top 17
abbrev ny:YH:=["thing"]
theorem sX:aE (ap ny ["names", "strikes"]) ny (au wN):=jM
abbrev Cm(c:CX):Prop:=cU c "is_web" ny 3 qP
theorem JN(D:j5 c "is_web" ny wN)(T:jR c)(J16:ky c)(J14:ui c):Cm c:=
 bU.eq (Df.has (k:=2) D sX (λf cdv A outer s H E hr=>
  ai (cR (DW.dt (qG (dX (bo (BI (kit_tuple _) eK T.n_isinstance T.n_tuple (dv 0)))) (mZ (br (DC hr) (rS oR T.n_len km (ae (dv 0) ag)) aD (by rfl))))) (ak (aL bJ)) bz)
  (ai (m7 (dv 0) (jv rfl (bH (dg 1 sX.nd) (bH (dg 2 sX.nd) fW)) (aT (aT de))))
  (ak (aL (lQ (fH J14 aG hr (ae (dv 1) ag)) (m6 (fH J16 aG hr (ae (dv 2) (ae (dv 1) ag)))))))))) (by kernel_rfl)
abbrev nC:Stmt:=top 18
abbrev ix:YH:=["thing"]
theorem Ao:aE ix ix (au nC):=jM
abbrev kg(c:CX):Prop:=cU c "check_web" ix 4 fO
theorem Cn(D:j5 c "check_web" ix nC)(T:jR c)(J17:Cm c):kg c:=
 bU.eq (Df.has (k:=3) D Ao (λf cdv A outer s H E hr=>
  ak (cR (dX (bo (fH J17 aG hr (ae (dv 0) ag)))) (ak m9) bz))) (by kernel_rfl)
abbrev wO:Stmt:=top 19
abbrev kX:YH:=["thing", "names"]
theorem Ha:aE kX kX (au wO):=jM
theorem Co:u9 ["part"] kX:=by decide +kernel
abbrev Cp(c:CX):Prop:=cU c "is_lot" kX 2 qQ
theorem JO(D:j5 c "is_lot" kX wO)(T:jR c)(J13:ke c):Cp c:=
 bU.eq (Df.has (k:=1) D Ha (λf cdv A outer s H E hr=>
  ai (cR (dX (bo (BI (kit_tuple _) eK T.n_isinstance T.n_tuple (dv 0)))) (ak (aL bJ)) bz)
  (ak (aL (lQ (rS (vY rfl) T.n_all o8 (ae (cS ["part"] (by rfl) rfl (bG (dv 0)) (λ_ _ _ _ _=>dg 0 Co) (λ_ _ _ _ _=>eE) (λ_ _ _ _ _=>dW (qM hr) (dv 0) (dv 2) (by rfl))) ag)) (m6 (fH J13 aG hr (ae (dv 0) ag)))))))) (by kernel_rfl)
abbrev nE:Stmt:=top 20
abbrev iy:YH:=["web", "thing"]
theorem Ap:aE iy iy (au nE):=jM
abbrev uk(c:CX):Prop:=cU c "check_lot" iy 3 j7
theorem Cq(D:j5 c "check_lot" iy nE)(T:jR c)(J19:Cp c):uk c:=
 bU.eq (Df.has (k:=2) D Ap (λf cdv A outer s H E hr=>
  ak (cR (dX (bo (fH J19 aG hr (ae (dv 1) (ae (c9 (bF hr) (dv 0) aD (λ_ _=>rfl)) ag))))) (ak m9) bz))) (by kernel_rfl)
abbrev nF:Stmt:=top 21
abbrev iz:YH:=["web", "most"]
theorem Aq:aE iz iz (au nF):=jM
abbrev um(c:CX):Prop:=cU c "check_few" iz 1 j8
theorem Cr(D:j5 c "check_few" iz nF)(T:jR c):um c:=
 bU.eq (Df.has (k:=0) D Aq (λf cdv A outer s H E hr=>
  ak (cR (br GQ (rS oR T.n_len km (ae (c9 (bF hr) (dv 0) aD (λ_ _=>rfl)) ag)) (dv 1) (by rfl)) (ak m9) bz))) (by kernel_rfl)
abbrev nG:Stmt:=top 23
abbrev fR:YH:=["lot", "others"]
theorem Ar:aE fR fR (au nG):=jM
theorem wQ:u9 ["name"] fR:=by decide +kernel
abbrev nH(c:CX):Prop:=cU c "is_within" fR 1 ik
theorem Cs(D:j5 c "is_within" fR nG)(T:jR c):nH c:=
 bU.eq (Df.has (k:=0) D Ar (λf cdv A outer s H E hr=>
  ak (aL (rS (vY rfl) T.n_all o8 (ae (cS ["name"] (by rfl) rfl (bG (dv 0)) (λ_ _ _ _ _=>dg 0 wQ) (λ_ _ _ _ _=>eE) (λ_ _ _ _ _=>dW (qM hr) (dv 0) (dv 2) (by rfl))) ag))))) (by kernel_rfl)
abbrev wR:Stmt:=top 24
abbrev kY:YH:=["web", "lot"]
theorem Hb:aE kY kY (au wR):=jM
theorem uo:u9 ["one", "other"] kY:=by decide +kernel
abbrev wU(c:CX):Prop:=cU c "hit_by" kY 1 nc
theorem JP(D:j5 c "hit_by" kY wR)(T:jR c):wU c:=
 bU.eq (Df.has (k:=0) D Hb (λf cdv A outer s H E hr=>
  ak (aL (BU ["one", "other"] false hr (by rfl) rfl (bG (c9 (bF hr) (dv 0) aD (λ_ _=>rfl))) (λ_ _ _ _ _=>jv rfl (bH (dg 0 uo) (bH (dg 1 uo) fW)) (aT (aT de))) (λ_ _ _ _ _=>dC (br (qM hr) (dv 0) (dv 3) (by rfl))) (λ_ _ _ _ _=>dv 1) (λ_ _ _ _ _=>bJ))))) (by kernel_rfl)
abbrev pQ:Stmt:=top 25
abbrev jA:YH:=["web", "lot"]
abbrev pR:YH:=ap jA ["names", "strikes", "hit", "bare"]
theorem iA:aE pR jA (au pQ):=jM
theorem xY:u9 ["name"] pR:=by decide +kernel
theorem oW:u9 ["one", "other"] pR:=by decide +kernel
abbrev l8(c:CX):Prop:=cU c "defended" jA 2 fI
theorem Eb(D:j5 c "defended" jA pQ)(T:jR c)(J24:wU c):l8 c:=
 bU.eq (Df.has (k:=1) D iA (λf cdv A outer s H E hr=>
  ai (m7 (dv 0) (jv rfl (bH (dg 2 iA.nd) (bH (dg 3 iA.nd) fW)) (aT (aT de))))
  (ai (fo 4 iA.nd (fH J24 aG hr (ae (dv 0) (ae (dv 1) ag))))
  (ai (fo 5 iA.nd (BU ["one", "other"] false hr (by rfl) rfl (bG (dv 3)) (λ_ _ _ _ _=>jv rfl (bH (dg 0 oW) (bH (dg 1 oW) fW)) (aT (aT de))) (λ_ _ _ _ _=>dC (br (tT hr) (dv 0) (dv 6) (by rfl))) (λ_ _ _ _ _=>dv 1) (λ_ _ _ _ _=>bJ)))
  (ak (aL (ia (ou rfl) T.n_tuple eK (ae (cS ["name"] (by rfl) rfl (bG (dv 2)) (λ_ _ _ _ _=>dg 0 xY) (λ_ _ _ _ _=>dC (br (tT hr) (dv 0) (dv 6) (by rfl))) (λ_ _ _ _ _=>dv 0)) ag)))))))) (by kernel_rfl)
abbrev Ec:Stmt:=top 26
abbrev wV:YH:=["web", "name"]
abbrev JQ:YH:=ap wV ["before", "behind"]
theorem As:aE JQ wV (au Ec):=jM
theorem oE:u9 ["one", "other"] JQ:=by decide +kernel
abbrev JR(c:CX):Prop:=cU c "foes" wV 1 sM
theorem PH(D:j5 c "foes" wV Ec)(T:jR c):JR c:=
 bU.eq (Df.has (k:=0) D As (λf cdv A outer s H E hr=>
  ai (uZ (i:=2) ["one", "other"] As.nd rfl rfl (by rfl) rfl (bG (c9 (bF hr) (dv 0) aD (λ_ _=>rfl))) (λ_ _ _ _ _=>jv rfl (bH (dg 0 oE) (bH (dg 1 oE) fW)) (aT (aT de))) (λ_ _ _ _ _=>dC (br (vS hr) (dv 1) (dv 3) (by rfl))) (λ_ _ _ _ _=>dv 0))
  (ai (uZ (i:=3) ["one", "other"] As.nd rfl rfl (by rfl) rfl (bG (c9 (bF hr) (dv 0) aD (λ_ _=>rfl))) (λ_ _ _ _ _=>jv rfl (bH (dg 0 oE) (bH (dg 1 oE) fW)) (aT (aT de))) (λ_ _ _ _ _=>dC (br (vS hr) (dv 0) (dv 3) (by rfl))) (λ_ _ _ _ _=>dv 1))
  (ak (aL (bB mH (dv 2) (dv 3))))))) (by kernel_rfl)
abbrev iL:Stmt:=top 27
abbrev dH:YH:=["web"]
abbrev iM:YH:=ap dH ["found", "name", "against"]
theorem df:aE iM dH (au iL):=jM
theorem pS:u9 ["lot"] iM:=by decide +kernel
theorem pT:u9 ["one", "lot"] iM:=by decide +kernel
abbrev fF(c:CX):Prop:=cU c "peaceful_lots" dH 2 b8
theorem uJ(D:j5 c "peaceful_lots" dH iL)(T:jR c)(J26:JR c):fF c:=
 bU.eq (Df.has (k:=1) D df (λf cdv A outer s H E hr=>
  ai (fo 1 df.nd (fY 8 (d:=.list [.tuple []]) (Lit.of (by kernel_rfl)) (by decide +kernel)))
  (ai (fX rfl (bG (c9 (bF hr) (dv 0) aD (λ_ _=>rfl))) (dg 2 df.nd) (ai (fo 3 df.nd (fH J26 cv hr (ae (dv 0) (ae (dv 2) ag))))
  (ak (cR (br (tT hr) (dv 2) (dv 3) (by rfl)) (ak (fo 1 df.nd (bB mH (dv 1) (cS ["lot"] (by rfl) rfl (bG (dv 1)) (λ_ _ _ _ _=>dg 0 pS) (λ_ _ _ _ _=>dC (dX (bo (rS (IP rfl) T.n_any DK (ae (cS ["one"] (by rfl) rfl (bG (dv 0)) (λ_ _ _ _ _=>dg 0 pT) (λ_ _ _ _ _=>eE) (λ_ _ _ _ _=>dW (qM hr) (dv 0) (dv 5) (by rfl))) ag))))) (λ_ _ _ _ _=>ju (qN (dv 0) (ae (dv 3) ag))))))) bz))))
  (ak (aL (rS (qL hr) T.n_sorted og (ae (dv 1) ag))))))) (by kernel_rfl)
abbrev kB:Stmt:=top 28
abbrev dQ:YH:=["web", "lot"]
theorem wW:aE dQ dQ (au kB):=jM
theorem kZ:u9 ["one", "other"] dQ:=by decide +kernel
abbrev oX(c:CX):Prop:=cU c "is_peaceful" dQ 1 gZ
theorem xZ(D:j5 c "is_peaceful" dQ kB)(T:jR c):oX c:=
 bU.eq (Df.has (k:=0) D wW (λf cdv A outer s H E hr=>
  ak (aL (OX (rS (IP rfl) T.n_any DK (ae (cS ["one", "other"] (by rfl) rfl (bG (c9 (bF hr) (dv 0) aD (λ_ _=>rfl))) (λ_ _ _ _ _=>jv rfl (bH (dg 0 kZ) (bH (dg 1 kZ) fW)) (aT (aT de))) (λ_ _ _ _ _=>eE) (λ_ _ _ _ _=>lQ (dW (qM hr) (dv 0) (dv 3) (by rfl)) (m6 (dW (qM hr) (dv 1) (dv 3) (by rfl))))) ag)))))) (by kernel_rfl)
abbrev kC:Stmt:=top 29
abbrev fv:YH:=["web", "lot"]
theorem wX:aE fv fv (au kC):=jM
abbrev kD(c:CX):Prop:=cU c "is_standing" fv 3 cZ
theorem x5(D:j5 c "is_standing" fv kC)(T:jR c)(J23:nH c)(J25:l8 c):kD c:=
 bU.eq (Df.has (k:=2) D wX (λf cdv A outer s H E hr=>
  ak (aL (fH J23 aG hr (ae (dv 1) (ae (fH J25 aG hr (ae (dv 0) (ae (dv 1) ag))) ag)))))) (by kernel_rfl)
abbrev pU:Stmt:=top 30
abbrev jB:YH:=["web", "lot"]
theorem Ct:aE jB jB (au pU):=jM
abbrev pV(c:CX):Prop:=cU c "is_whole" jB 3 fJ
theorem Ed(D:j5 c "is_whole" jB pU)(T:jR c)(J25:l8 c):pV c:=
 bU.eq (Df.has (k:=2) D Ct (λf cdv A outer s H E hr=>
  ak (aL (dW (vS hr) (dv 1) (fH J25 aG hr (ae (dv 0) (ae (dv 1) ag))) (by rfl))))) (by kernel_rfl)
abbrev nI:Stmt:=top 31
abbrev iB:YH:=["web", "lot"]
abbrev uq:YH:=ap iB ["hit"]
theorem qZ:aE uq iB (au nI):=jM
theorem wY:u9 ["name"] uq:=by decide +kernel
abbrev nJ(c:CX):Prop:=cU c "is_stable" iB 2 dA
theorem Cu(D:j5 c "is_stable" iB nI)(T:jR c)(J24:wU c):nJ c:=
 bU.eq (Df.has (k:=1) D qZ (λf cdv A outer s H E hr=>
  ai (fo 2 qZ.nd (fH J24 aG hr (ae (dv 0) (ae (dv 1) ag))))
  (ak (aL (rS (vY rfl) T.n_all o8 (ae (cS ["name"] (by rfl) rfl (bG (c9 (bF hr) (dv 0) aD (λ_ _=>rfl))) (λ_ _ _ _ _=>dg 0 wY) (λ_ _ _ _ _=>eE) (λ_ _ _ _ _=>Pp (dW (qM hr) (dv 0) (dv 2) (by rfl)) (m6 (dW (qM hr) (dv 0) (dv 3) (by rfl))))) ag)))))) (by kernel_rfl)
abbrev iN:Stmt:=top 32
abbrev cQ:YH:=["web"]
theorem sY:aE cQ cQ (au iN):=jM
theorem pW:u9 ["lot"] cQ:=by decide +kernel
abbrev iO(c:CX):Prop:=cU c "standing_lots" cQ 4 dF
theorem uK(D:j5 c "standing_lots" cQ iN)(T:jR c)(J27:fF c)(J29:kD c):iO c:=
 bU.eq (Df.has (k:=3) D sY (λf cdv A outer s H E hr=>
  ak (aL (cS ["lot"] (by rfl) rfl (bG (fH J27 aG hr (ae (dv 0) ag))) (λ_ _ _ _ _=>dg 0 pW) (λ_ _ _ _ _=>dC (bo (fH J29 cv hr (ae (dv 1) (ae (dv 0) ag))))) (λ_ _ _ _ _=>dv 0))))) (by kernel_rfl)
abbrev l9:Stmt:=top 33
abbrev fc:YH:=["web"]
theorem x6:aE fc fc (au l9):=jM
theorem uL:u9 ["lot"] fc:=by decide +kernel
abbrev rf(c:CX):Prop:=cU c "whole_lots" fc 4 i9
theorem Au(D:j5 c "whole_lots" fc l9)(T:jR c)(J27:fF c)(J30:pV c):rf c:=
 bU.eq (Df.has (k:=3) D x6 (λf cdv A outer s H E hr=>
  ak (aL (cS ["lot"] (by rfl) rfl (bG (fH J27 aG hr (ae (dv 0) ag))) (λ_ _ _ _ _=>dg 0 uL) (λ_ _ _ _ _=>dC (bo (fH J30 cv hr (ae (dv 1) (ae (dv 0) ag))))) (λ_ _ _ _ _=>dv 0))))) (by kernel_rfl)
abbrev iP:Stmt:=top 34
abbrev dI:YH:=["web"]
theorem dh:aE (ap dI ["lot", "grown"]) dI (au iP):=jM
abbrev mL(c:CX):Prop:=cU c "grounded_lots" dI 3 fB
theorem uM(D:j5 c "grounded_lots" dI iP)(T:jR c)(J25:l8 c):mL c:=
 bU.eq (Df.has (k:=2) D dh (λf cdv A outer s H E hr=>
  ai (fo 1 dh.nd (fY 8 (d:=.tuple []) (Lit.of (by kernel_rfl)) (by decide +kernel)))
  (ai (fo 2 dh.nd (fH J25 aG hr (ae (dv 0) (ae (dv 1) ag))))
  (ai (Bt (n:=20) (br (DC hr) (dv 2) (dv 1) (by rfl)) (ai (fo 1 dh.nd (dv 2))
  (ak (fo 2 dh.nd (fH J25 cv hr (ae (dv 0) (ae (dv 1) ag)))))))
  (ak (aL (zN (ae (dv 1) ag)))))))) (by kernel_rfl)
abbrev gM:Stmt:=top 35
abbrev dk:YH:=["web"]
abbrev k9:YH:=ap dk ["found", "lot"]
theorem gj:aE k9 dk (au gM):=jM
theorem oJ:u9 ["other"] k9:=by decide +kernel
abbrev lg(c:CX):Prop:=cU c "preferred_lots" dk 5 eW
theorem sZ(D:j5 c "preferred_lots" dk gM)(T:jR c)(J32:iO c)(J23:nH c):lg c:=
 bU.eq ((Df.has (k:=4) D gj (λf cdv A outer s H E hr=>
  ai (fo 1 gj.nd (zO ag))
  (ai (fX rfl (bG (Jq T.n_sorted T.n_len (ae (fH J32 cv hr (ae (dv 0) ag)) ag))) (dg 2 gj.nd) (ak (cR (dX (bo (rS (IP rfl) T.n_any DK (ae (Jo ["other"] (by rfl) rfl (dv 1) (λ_ _ _ _ _=>dg 0 oJ) (λ_ _ _ _ _=>eE) (λ_ _ _ _ _=>fH J23 cv hr (ae (dv 3) (ae (dv 0) ag)))) ag)))) (ak (fV (yy (dv 1) (dv 2)))) bz)))
  (ak (aL (rS (qL hr) T.n_sorted og (ae (dv 1) ag))))))).kK) (by kernel_rfl)
abbrev kE:Stmt:=top 36
abbrev dR:YH:=["web"]
theorem wZ:aE dR dR (au kE):=jM
theorem tj:u9 ["lot"] dR:=by decide +kernel
abbrev oY(c:CX):Prop:=cU c "stable_lots" dR 3 g9
theorem x8(D:j5 c "stable_lots" dR kE)(T:jR c)(J27:fF c)(J31:nJ c):oY c:=
 bU.eq (Df.has (k:=2) D wZ (λf cdv A outer s H E hr=>
  ak (aL (cS ["lot"] (by rfl) rfl (bG (fH J27 aG hr (ae (dv 0) ag))) (λ_ _ _ _ _=>dg 0 tj) (λ_ _ _ _ _=>dC (bo (fH J31 cv hr (ae (dv 1) (ae (dv 0) ag))))) (λ_ _ _ _ _=>dv 0))))) (by kernel_rfl)
abbrev me:Stmt:=top 40
abbrev gk:YH:=["thing"]
theorem x9:aE gk gk (au me):=jM
abbrev rh(c:CX):Prop:=cU c "check_kind" gk 1 lW
theorem Av(D:j5 c "check_kind" gk me)(T:jR c):rh c:=
 bU.eq (Df.has (k:=0) D x9 (λf cdv A outer s H E hr=>
  ak (cR (br (tT hr) (dv 0) (Fq T.t_KINDS) (by rfl)) (ak m9) bz))) (by kernel_rfl)
abbrev Ee:Stmt:=top 41
abbrev xa:YH:=["web", "kind"]
theorem FT:aE (ap xa ["finder"]) xa (au Ee):=jM
abbrev Ef(c:CX):Prop:=cU c "lots" xa 6 pI
theorem PJ(D:j5 c "lots" xa Ee)(T:jR c)(J34:mL c)(J35:lg c)(J36:oY c)(J32:iO c)(J33:rf c)(J40:rh c)(J18:kg c):Ef c:=
 bU.eq (Df.has (k:=5) D FT (λf cdv A outer s H E hr=>
  ai (fV (fH J18 aG hr (ae (dv 0) ag)))
  (ai (fV (fH J40 aG hr (ae (dv 1) ag)))
  (ai (fo 2 FT.nd (FE T.f_FINDERS (dv 1) (λ_ _=>rfl)))
  (ak (aL (Ju (k:=5) 2 (.cons (J34.mono (by decide)) (.cons (J35.mono (by decide)) (.cons (J36.mono (by decide)) (.cons (J32.mono (by decide)) (.cons (J33.mono (by decide)) (.nil)))))) aG (hr.mono #[1]) (ae (dv 0) ag)))))))) (by kernel_rfl)
abbrev nK:Stmt:=top 42
abbrev iC:YH:=["web", "kind", "thing"]
theorem Aw:aE iC iC (au nK):=jM
abbrev ur(c:CX):Prop:=cU c "is_lot_of" iC 7 j9
theorem Cv(D:j5 c "is_lot_of" iC nK)(T:jR c)(J41:Ef c):ur c:=
 bU.eq (Df.has (k:=6) D Aw (λf cdv A outer s H E hr=>
  ak (aL (dW (qM hr) (dv 2) (fH J41 aG hr (ae (dv 0) (ae (dv 1) ag))) (by rfl))))) (by kernel_rfl)
abbrev iQ:Stmt:=top 44
abbrev dJ:YH:=["web", "thing"]
theorem tm:aE dJ dJ (au iQ):=jM
abbrev mM(c:CX):Prop:=cU c "check_changes" dJ 3 fE
theorem uN(D:j5 c "check_changes" dJ iQ)(T:jR c)(J16:ky c):mM c:=
 bU.eq (Df.has (k:=2) D tm (λf cdv A outer s H E hr=>
  ak (cR (dX (bo (fH J16 aG hr (ae (dv 1) (ae (c9 (bF hr) (dv 0) aD (λ_ _=>rfl)) ag))))) (ak m9) bz))) (by kernel_rfl)
abbrev xb:Stmt:=top 45
abbrev nL:YH:=["web", "changes"]
theorem Hc:aE nL nL (au xb):=jM
abbrev xc(c:CX):Prop:=cU c "turned" nL 1 il
theorem JS(D:j5 c "turned" nL xb)(T:jR c):xc c:=
 bU.eq (Df.has (k:=0) D Hc (λf cdv A outer s H E hr=>
  ak (aL (ju (ae (c9 (bF hr) (dv 0) aD (λ_ _=>rfl)) (ae (ia (ou rfl) T.n_tuple eK (ae (G8 Ms rfl hr T.n_sorted T.n_set (c9 (bF hr) (dv 0) aD (λ_ _=>rfl)) (dv 1)) ag)) ag)))))) (by kernel_rfl)
abbrev tp:Stmt:=top 46
abbrev lj:YH:=["web", "changes"]
theorem Eg:aE lj lj (au tp):=jM
abbrev yV(c:CX):Prop:=cU c "changed" lj 5 oy
theorem Hd(D:j5 c "changed" lj tp)(T:jR c)(J45:xc c)(J44:mM c)(J18:kg c):yV c:=
 bU.eq (Df.has (k:=4) D Eg (λf cdv A outer s H E hr=>
  ai (fV (fH J18 aG hr (ae (dv 0) ag)))
  (ai (fV (fH J44 aG hr (ae (dv 0) (ae (dv 1) ag))))
  (ak (aL (fH J45 aG hr (ae (dv 0) (ae (dv 1) ag)))))))) (by kernel_rfl)
abbrev mf:Stmt:=top 48
abbrev gm:YH:=["names", "lot"]
abbrev rj:YH:=ap gm ["found", "name", "longer"]
theorem fw:aE rj gm (au mf):=jM
theorem uO:u9 ["some"] rj:=by decide +kernel
abbrev rm(c:CX):Prop:=cU c "wider_lots" gm 1 f6
theorem Ax(D:j5 c "wider_lots" gm mf)(T:jR c):rm c:=
 bU.eq (Df.has (k:=0) D fw (λf cdv A outer s H E hr=>
  ai (fo 2 fw.nd (fY 8 (d:=.list [.tuple []]) (Lit.of (by kernel_rfl)) (by decide +kernel)))
  (ai (fX rfl (bG (dv 0)) (dg 3 fw.nd) (ai (uZ (i:=4) ["some"] fw.nd rfl rfl (by rfl) rfl (bG (dv 2)) (λ_ _ _ _ _=>dg 0 uO) (λ_ _ _ _ _=>eE) (λ_ _ _ _ _=>ju (qN (dv 0) (ae (dv 4) ag))))
  (ak (fo 2 fw.nd (Bp (br (qM hr) (dv 3) (dv 1) (by rfl)) (dv 4) (bB mH (dv 2) (dv 4)))))))
  (ak (aL (dv 2)))))) (by kernel_rfl)
abbrev Ay:Stmt:=top 49
abbrev rn:YH:=["spots", "many"]
abbrev FU:YH:=ap rn ["found"]
theorem rA:aE FU rn (au Ay):=jM
theorem xf:u9 ["pick", "spot"] FU:=by decide +kernel
abbrev FV(c:CX):Prop:=cU c "picks" rn 1 hE
theorem Mt(D:j5 c "picks" rn Ay)(T:jR c):FV c:=
 bU.eq (Df.has (k:=0) D rA (λf cdv A outer s H E hr=>
  ai (fo 2 rA.nd (fY 8 (d:=.list [.tuple []]) (Lit.of (by kernel_rfl)) (by decide +kernel)))
  (ai (Bt (n:=9) (br GQ (dv 1) aD (by rfl)) (ai (BM (i:=2) ["pick", "spot"] rA.nd rfl rfl (by rfl) rfl (bG (dv 2)) (λ_ _ _ _ _=>dg 0 xf) (λ_ _ _ _ _=>eE) (λ_ _ _ _ _=>bG (dv 2)) (λ_ _ _ _ _=>dg 1 xf) (λ_ _ _ _ _=>dC (DW.dt (qG (dX (bo (dv 0))) (mZ (br (Pf hr) (c9 (bF hr) (dv 0) (fY 8 (d:=.int (-1)) (Lit.of (by kernel_rfl)) (by decide +kernel)) (λ_ _=>rfl)) (dv 1) (by rfl)))))) (λ_ _ _ _ _=>ju (qN (dv 0) (ae (dv 1) ag))))
  (ak (Rp 1 rA.nd aD))))
  (ak (aL (dv 2)))))) (by kernel_rfl)
abbrev gN:Stmt:=top 54
abbrev du:YH:=["web", "lot", "kind"]
theorem rB:aE du du (au gN):=jM
abbrev lq(c:CX):Prop:=cU c "check_enforced" du 5 eZ
theorem tw(D:j5 c "check_enforced" du gN)(T:jR c)(J20:uk c)(J21:um c)(J18:kg c):lq c:=
 bU.eq (Df.has (k:=4) D rB (λf cdv A outer s H E hr=>
  ai (fV (fH J18 aG hr (ae (dv 0) ag)))
  (ai (fV (fH J21 aG hr (ae (dv 0) (ae (u0 T.i_MOST_ENFORCED) ag))))
  (ai (fV (fH J20 aG hr (ae (dv 0) (ae (dv 1) ag))))
  (ak (cR (br (tT hr) (dv 2) (Fq T.t_ENFORCED_KINDS) (by rfl)) (ak m9) bz)))))) (by kernel_rfl)
abbrev jC:Stmt:=top 55
abbrev eR:YH:=["strict", "most"]
theorem uP:aE eR eR (au jC):=jM
abbrev nM(c:CX):Prop:=cU c "check_limits" eR 1 f7
theorem xg(D:j5 c "check_limits" eR jC)(T:jR c):nM c:=
 bU.eq (Df.has (k:=0) D uP (λf cdv A outer s H E hr=>
  ai (cR (DW.dt (zL (br Ft (dv 0) bJ (by rfl)) (uY (br Ft (dv 0) bJ (by rfl))))) (ak m9) bz)
  (ak (cR (DW.dt (qG (dX (bo (BI (LV _) DJ T.n_isinstance T.n_int (dv 1)))) (qG (bo (BI (IM _) Mb T.n_isinstance T.n_bool (dv 1))) (mZ (dX (BH Bu Bu aD (dv 1) (u0 T.i_MOST_CHANGES))))))) (ak m9) bz)))) (by kernel_rfl)
abbrev mi:Stmt:=top 56
abbrev gn:YH:=["web", "goals", "kind"]
theorem kF:aE (ap gn ["judge", "goal"]) gn (au mi):=jM
abbrev rC(c:CX):Prop:=cU c "is_reached" gn 4 gb
theorem Az(D:j5 c "is_reached" gn mi)(T:jR c)(J31:nJ c)(J29:kD c)(J30:pV c)(J28:oX c):rC c:=
 bU.eq (Df.has (k:=3) D kF (λf cdv A outer s H E hr=>
  ai (fo 3 kF.nd (FE T.f_JUDGES (dv 2) (λ_ _=>rfl)))
  (ai (fX rfl (bG (dv 1)) (dg 4 kF.nd) (ak (cR (DW.dt (zL (bo (fH J28 cv hr (ae (dv 0) (ae (dv 4) ag)))) (uY (bo (Ju (k:=3) 3 (.cons (J31.mono (by decide)) (.cons (J29.mono (by decide)) (.cons (J30.mono (by decide)) (.nil)))) cv (hr.mono #[1]) (ae (dv 0) (ae (dv 4) ag))))))) (ak (aL bJ)) bz)))
  (ak (aL bJ))))) (by kernel_rfl)
abbrev pX:Stmt:=top 57
abbrev jD:YH:=["web", "lot", "kind", "strict", "most"]
abbrev xh:YH:=ap jD ["names", "strikes", "inner", "spots", "goals", "many", "pick", "changes"]
theorem cV:aE xh jD (au pX):=jM
theorem hU:u9 ["one", "other"] xh:=by decide +kernel
abbrev pY(c:CX):Prop:=Rq c "enforced" jD 3 6 bV
theorem Eh(D:Tg c "enforced" jD 3 pX)(T:jR c)(J49:FV c)(J56:rC c)(J45:xc c)(J48:rm c)(J55:nM c)(J54:lq c):pY c:=
 wj.eq (Ql.has (k:=5) D cV (λf cdv A outer s H E hr=>
  ai (fV (fH J54 aG hr (ae (dv 0) (ae (dv 1) (ae (dv 2) ag)))))
  (ai (fV (fH J55 aG hr (ae (dv 3) (ae (dv 4) ag))))
  (ai (m7 (dv 0) (jv rfl (bH (dg 5 cV.nd) (bH (dg 6 cV.nd) fW)) (aT (aT de))))
  (ai (uZ (i:=7) ["one", "other"] cV.nd rfl rfl (by rfl) rfl (bG (dv 6)) (λ_ _ _ _ _=>jv rfl (bH (dg 0 hU) (bH (dg 1 hU) fW)) (aT (aT de))) (λ_ _ _ _ _=>dC (DW.dt (zL (br (qM hr) (dv 0) (dv 3) (by rfl)) (uY (br (qM hr) (dv 1) (dv 3) (by rfl)))))) (λ_ _ _ _ _=>ju (ae (dv 0) (ae (dv 1) ag))))
  (ai (BM (i:=8) ["one", "other"] cV.nd rfl rfl (by rfl) rfl (bG (dv 5)) (λ_ _ _ _ _=>dg 0 hU) (λ_ _ _ _ _=>eE) (λ_ _ _ _ _=>bG (dv 7)) (λ_ _ _ _ _=>dg 1 hU) (λ_ _ _ _ _=>dC (DW.dt (qG (br (tT hr) (dv 0) (dv 3) (by rfl)) (mZ (br (tT hr) (dv 1) (dv 3) (by rfl)))))) (λ_ _ _ _ _=>ju (ae (dv 0) (ae (dv 1) ag))))
  (ai (fo 9 cV.nd (Bp (bo (dv 3)) (zN (ae (dv 1) ag)) (fH J48 aG hr (ae (dv 5) (ae (dv 1) ag)))))
  (ai (fX rfl (lH (by rfl) T.n_range (ae (bB mH (bB Nj (dv 4) (rS oR T.n_len km (ae (dv 7) ag))) aD) ag)) (dg 10 cV.nd) (ak (fX rfl (bG (fH J49 cv hr (ae (dv 8) (ae (dv 10) ag)))) (dg 11 cV.nd) (ai (fo 12 cV.nd (rS (qL hr) T.n_sorted og (ae (zN (qN (dv 7) (qN (dv 11) ag))) ag)))
  (ak (cR (bo (fH J56 cv hr (ae (fH J45 cv hr (ae (dv 0) (ae (dv 12) ag))) (ae (dv 9) (ae (dv 2) ag))))) (ak (aL (ia (ou rfl) T.n_tuple eK (ae (dv 12) ag)))) bz))))))
  (ak (aL qF)))))))))) (by kernel_rfl)
abbrev nN:Stmt:=top 59
abbrev iD:YH:=["_law_script", "_law_k"]
theorem AA:aE iD iD (au nN):=jM
abbrev uv(c:CX):Prop:=cU c "_law_cell" iD 1 ka
theorem Cw(D:j5 c "_law_cell" iD nN)(T:jR c):uv c:=
 bU.eq (Df.has (k:=0) D AA (λf cdv A outer s H E hr=>
  ai (cR (br (Pf hr) (dv 1) (rS oR T.n_len km (ae (dv 0) ag)) (by rfl)) (ak (aL (c9 (bF hr) (dv 0) (dv 1) (λ_ _=>rfl)))) bz)
  (ak (aL aD)))) (by kernel_rfl)
abbrev pZ:Stmt:=top 60
abbrev jE:YH:=["_law_cell_here", "_law_k"]
theorem iE:aE (ap jE ["_law_some", "_law_stir"]) jE (au pZ):=jM
abbrev xi(c:CX):Prop:=cU c "_law_mix" jE 1 gH
theorem Ei(D:j5 c "_law_mix" jE pZ)(T:jR c):xi c:=
 bU.eq (Df.has (k:=0) D iE (λf cdv A outer s H E hr=>
  ai (fo 2 iE.nd (fY 8 (d:=.list [.int 48271,.int 69621,.int 16807,.int 39373,.int 30269,.int 40014,.int 40692,.int 50021,.int 61687,.int 71993,.int 83869,.int 95561,.int 30307]) (Lit.of (by kernel_rfl)) (by decide +kernel)))
  (ai (fo 3 iE.nd (bB oQ (bB mH (bB yt (dv 0) aD) aD) (c9 (bF hr) (dv 2) (bB yt (dv 1) aD) (λ_ _=>rfl))))
  (ai (fo 3 iE.nd (bB mH (bB mH (dv 3) (bB oQ aD (dv 1))) (bB oQ aD (bB vT (dv 1) aD))))
  (ai (fo 3 iE.nd (bB yt (dv 3) aD))
  (ak (aL (bB vT (bB yt (bB mH (bB oQ (dv 3) (dv 3)) (bB oQ aD (dv 1))) aD) aD)))))))) (by kernel_rfl)
abbrev qa:Stmt:=top 61
abbrev jF:YH:=["_law_script", "_law_k", "_law_lap"]
theorem iF:aE (ap jF ["_law_cell_here", "_law_number", "_law_j"]) jF (au qa):=jM
abbrev xj(c:CX):Prop:=cU c "_law_box" jF 2 fK
theorem Ej(D:j5 c "_law_box" jF qa)(T:jR c)(J60:xi c)(J59:uv c):xj c:=
 bU.eq (Df.has (k:=1) D iF (λf cdv A outer s H E hr=>
  ai (fo 3 iF.nd (fH J59 aG hr (ae (dv 0) (ae (dv 1) ag))))
  (ai (cR (DW.dt (zL (br (vS hr) (bB yt (dv 3) aD) aD (by rfl)) (uY (br (vS hr) (dv 2) aD (by rfl))))) (ak (aL (zO (ae (bB vT (rS Rc T.n_abs OF (ae (dv 3) ag)) aD) ag)))) bz)
  (ai (fo 4 iF.nd aD)
  (ai (fX rfl (lH (by rfl) T.n_range (ae aD ag)) (dg 5 iF.nd) (ak (fo 4 iF.nd (bB mH (bB oQ (dv 4) aD) (fH J60 cv hr (ae (dv 3) (ae (bB mH (bB oQ aD (dv 2)) (dv 5)) ag)))))))
  (ak (aL (zO (ae (dv 4) ag))))))))) (by kernel_rfl)
abbrev nO:Stmt:=top 62
abbrev iG:YH:=["_law_box_here", "_law_count_here"]
theorem mj:aE (ap iG ["_law_left", "_law_digit"]) iG (au nO):=jM
abbrev nP(c:CX):Prop:=cU c "_law_take" iG 1 aN
theorem Cy(D:j5 c "_law_take" iG nO)(T:jR c):nP c:=
 bU.eq (Df.has (k:=0) D mj (λf cdv A outer s H E hr=>
  ai (m7 (rS IS T.n_divmod GG (ae (c9 (bF hr) (dv 0) aD (λ_ _=>rfl)) (ae (dv 1) ag))) (jv rfl (bH (dg 2 mj.nd) (bH (dg 3 mj.nd) fW)) (aT (aT de))))
  (ai (m7 (dv 2) (zW hr (dv 0) aD (λ_=>rfl)))
  (ak (aL (dv 3)))))) (by kernel_rfl)
abbrev qb:Stmt:=top 63
abbrev jG:YH:=["_law_box_here", "_law_most_names"]
theorem eS:aE (ap jG ["_law_count_here", "_law_way", "_law_seen", "_law_names", "_law_turn", "_law_one", "_law_other", "_law_at"]) jG (au qb):=jM
abbrev xk(c:CX):Prop:=cU c "_law_web" jG 2 pM
theorem Ek(D:j5 c "_law_web" jG qb)(T:jR c)(J62:nP c):xk c:=
 bU.eq ((Df.has (k:=1) D eS (λf cdv A outer s H E hr=>
  ai (Ro 2 3 4 eS.nd (ae (fH J62 aG hr (ae (dv 0) (ae (bB mH (dv 1) aD) ag))) (ae (fH J62 aG hr (ae (dv 0) (ae aD ag))) (ae L8 ag))))
  (ai (fo 5 eS.nd (zO (ae (fY 8 (d:=.list [.str "a",.str "b",.str "c",.str "d",.str "e",.str "f",.str "g"]) (Lit.of (by kernel_rfl)) (by decide +kernel)) ag)))
  (ai (fV (yy (dv 5) (fY 8 (d:=.list [.str "ann",.str "bo",.str "c",.str "dora",.str "elias",.str "f",.str "gwenda"]) (Lit.of (by kernel_rfl)) (by decide +kernel))))
  (ai (fo 5 eS.nd (c9 (bF hr) (dv 5) (fH J62 aG hr (ae (dv 0) (ae aD ag))) (λ_ _=>rfl)))
  (ai (fX rfl (lH (by rfl) T.n_range (ae (c9 (bF hr) (zN (ae aD (ae (dv 2) (ae (bB oQ aD (dv 2)) (ae (bB oQ aD (dv 2)) (ae (dv 2) (ae (bB vT (dv 2) aD) (ae (bB vT (dv 2) aD) ag)))))))) (dv 3) (λ_ _=>rfl)) ag)) (dg 6 eS.nd) (ai (Rk 7 8 eS.nd (ae (c9 (bF hr) (dv 5) (fH J62 cv hr (ae (dv 0) (ae (dv 2) ag))) (λ_ _=>rfl)) (ae (c9 (bF hr) (dv 5) (fH J62 cv hr (ae (dv 0) (ae (dv 2) ag))) (λ_ _=>rfl)) ag)))
  (ak (cR (DW.dt (qG (br (DC hr) (dv 7) (dv 8) (by rfl)) (mZ (br (vS hr) (fH J62 cv hr (ae (dv 0) (ae aD ag))) aD (by rfl))))) (ai (m7 bJ (zW hr (dv 4) (ju (ae (dv 7) (ae (dv 8) ag))) (λ_=>rfl)))
  (ak (m7 bJ (zW hr (dv 4) (Bp (br (vS hr) (dv 3) aD (by rfl)) (ju (ae (dv 8) (ae (dv 7) ag))) (ju (ae (dv 7) (ae (dv 8) ag)))) (λ_=>rfl))))) bz))))
  (ai (fX rfl (lH (by rfl) T.n_range (ae (bB Nj (bB oQ (dv 2) (ia Nk T.n_int DJ (ae (dW GQ (dv 3) aD (by rfl)) ag))) (ia Nk T.n_int DJ (ae (lQ (dW (vS hr) (dv 3) aD (by rfl)) (m6 (dW GQ (dv 2) aD (by rfl)))) ag))) ag)) (dg 9 eS.nd) (ak (m7 bJ (zW hr (dv 4) (ju (ae (c9 (bF hr) (dv 5) (dv 9) (λ_ _=>rfl)) (ae (c9 (bF hr) (dv 5) (bB yt (bB mH (dv 9) aD) (dv 2)) (λ_ _=>rfl)) ag))) (λ_=>rfl)))))
  (ak (aL (ju (ae (ia (ou rfl) T.n_tuple eK (ae (Bz (dv 5) Fo (Fp (dv 2))) ag)) (ae (ia (ou rfl) T.n_tuple eK (ae (rS (qL hr) T.n_sorted og (ae (ia (Pm rfl) T.n_list LB (ae (dv 4) ag)) ag)) ag)) ag)))))))))))).kK) (by kernel_rfl)
abbrev iR:Stmt:=top 64
abbrev cA:YH:=["_law_web_here", "_law_lot", "_law_kind", "_law_is_strict"]
theorem tB:aE cA cA (au iR):=jM
theorem qc:u9 ["_law_some"] cA:=by decide +kernel
theorem qd:u9 ["_law_name", "_law_some"] cA:=by decide +kernel
abbrev mN(c:CX):Prop:=cU c "_law_holds_so" cA 8 bD
theorem uQ(D:j5 c "_law_holds_so" cA iR)(T:jR c)(J41:Ef c)(J42:ur c):mN c:=
 bU.eq (Df.has (k:=7) D tB (λf cdv A outer s H E hr=>
  ai (cR (bo (dv 3)) (ak (aL (fH J42 aG hr (ae (dv 0) (ae (dv 2) (ae (dv 1) ag)))))) bz)
  (ak (aL (dW (DC hr) (cS ["_law_some"] (by rfl) rfl (bG (fH J41 aG hr (ae (dv 0) (ae (dv 2) ag)))) (λ_ _ _ _ _=>dg 0 qc) (λ_ _ _ _ _=>dC (br (vS hr) (cS ["_law_name"] (by rfl) rfl (bG (dv 2)) (λ_ _ _ _ _=>dg 0 qd) (λ_ _ _ _ _=>dC (br (tT hr) (dv 0) (dv 1) (by rfl))) (λ_ _ _ _ _=>dv 0)) (fY 8 (d:=.list []) (Lit.of (by kernel_rfl)) (by decide +kernel)) (by rfl))) (λ_ _ _ _ _=>aD)) (fY 8 (d:=.list []) (Lit.of (by kernel_rfl)) (by decide +kernel)) (by rfl)))))) (by kernel_rfl)
abbrev gp:Stmt:=top 65
abbrev cW:YH:=["_law_web_here", "_law_lot", "_law_kind", "_law_is_strict"]
theorem dD:aE (ap cW ["_law_told", "_law_count_here", "_law_due"]) cW (au gp):=jM
abbrev kh(c:CX):Prop:=cU c "_law_told_right" cW 9 bK
theorem rD(D:j5 c "_law_told_right" cW gp)(T:jR c)(J57:pY c)(J64:mN c)(J46:yV c):kh c:=
 bU.eq (Df.has (k:=8) D dD (λf cdv A outer s H E hr=>
  ai (fo 4 dD.nd (qO J57 aG hr (ae (dv 0) (ae (dv 1) (ae (dv 2) ag))) (j4 (dv 3) (j4 aD Aa))))
  (ai (cR (br (DC hr) (dW (vS hr) (dv 4) (fY 8 (d:=.tuple []) (Lit.of (by kernel_rfl)) (by decide +kernel)) (by rfl)) (fH J64 aG hr (ae (dv 0) (ae (dv 1) (ae (dv 2) (ae (dv 3) ag))))) (by rfl)) (ak (aL bJ)) bz)
  (ai (cR (br Pk (dv 4) qF (by rfl)) (ak (aL (dW Pk (qO J57 aG hr (ae (dv 0) (ae (dv 1) (ae (dv 2) ag))) (j4 (dv 3) (j4 aD Aa))) qF (by rfl)))) bz)
  (ai (cR (dX (bo (fH J64 aG hr (ae (fH J46 aG hr (ae (dv 0) (ae (dv 4) ag))) (ae (dv 1) (ae (dv 2) (ae (dv 3) ag))))))) (ak (aL bJ)) bz)
  (ai (fX rfl (lH (by rfl) T.n_range (ae aD ag)) (dg 5 dD.nd) (ai (fo 6 dD.nd (Bp (br Te (dv 5) (rS oR T.n_len km (ae (dv 4) ag)) (by rfl)) (dv 4) qF))
  (ak (cR (br (DC hr) (qO J57 cv hr (ae (dv 0) (ae (dv 1) (ae (dv 2) ag))) (j4 (dv 3) (j4 (dv 5) Aa))) (dv 6) (by rfl)) (ak (aL bJ)) bz))))
  (ak (aL bJ)))))))) (by kernel_rfl)
abbrev mm:Stmt:=top 66
abbrev gq:YH:=["_law_web_here", "_law_lot", "_law_kind", "_law_is_strict"]
theorem oZ:aE (ap gq ["_law_told"]) gq (au mm):=jM
abbrev rE(c:CX):Prop:=cU c "_law_count" gq 7 cG
theorem AB(D:j5 c "_law_count" gq mm)(T:jR c)(J57:pY c):rE c:=
 bU.eq (Df.has (k:=6) D oZ (λf cdv A outer s H E hr=>
  ai (fo 4 oZ.nd (qO J57 aG hr (ae (dv 0) (ae (dv 1) (ae (dv 2) ag))) (j4 (dv 3) (j4 aD Aa))))
  (ak (aL (Bp (br Pk (dv 4) qF (by rfl)) aD (rS oR T.n_len km (ae (dv 4) ag))))))) (by kernel_rfl)
abbrev mn:Stmt:=top 67
abbrev gr:YH:=["_law_box_here"]
abbrev rF:YH:=ap gr ["_law_web_here", "_law_lot", "_law_kind", "_law_is_strict", "_law_counts"]
theorem dS:aE rF gr (au mn):=jM
theorem uR:(["_law_kind", "_law_box_here", "_law_web_here", "_law_lot", "!_law_kind", "_law_is_strict", "_law_counts"]:YH).Nodup:=by decide +kernel
theorem uS:u9 ["_law_name"] rF:=by decide +kernel
abbrev rG(c:CX):Prop:=cU c "_law_right" gr 10 ja
theorem AD(D:j5 c "_law_right" gr mn)(T:jR c)(J66:rE c)(J65:kh c)(J62:nP c)(J63:xk c):rG c:=
 bU.eq (Df.has (k:=9) D dS (λf cdv A outer s H E hr=>
  ai (fo 1 dS.nd (fH J63 aG hr (ae (dv 0) (ae aD ag))))
  (ai (fo 2 dS.nd (ia (ou rfl) T.n_tuple eK (ae (cS ["_law_name"] (by rfl) rfl (bG (c9 (bF hr) (dv 1) aD (λ_ _=>rfl))) (λ_ _ _ _ _=>dg 0 uS) (λ_ _ _ _ _=>dC (br (vS hr) (fH J62 cv hr (ae (dv 1) (ae aD ag))) aD (by rfl))) (λ_ _ _ _ _=>dv 0)) ag)))
  (ai (fX rfl (bG (fY 8 (d:=.list [.str "standing",.str "whole",.str "stable"]) (Lit.of (by kernel_rfl)) (by decide +kernel))) (dg 3 dS.nd) (ai (fX rfl (bG (fY 8 (d:=.list [.bool true,.bool false]) (Lit.of (by kernel_rfl)) (by decide +kernel))) (dg 4 dS.nd) (ak (cR (dX (bo (fH J65 cv hr (ae (dv 1) (ae (dv 2) (ae (dv 3) (ae (dv 4) ag))))))) (ak (aL bJ)) bz)))
  (ak (cR (br GQ (fH J66 cv hr (ae (dv 1) (ae (dv 2) (ae (dv 3) (ae bJ ag))))) (fH J66 cv hr (ae (dv 1) (ae (dv 2) (ae (dv 3) (ae bJ ag))))) (by rfl)) (ak (aL bJ)) bz))))
  (ai (ID (i:=5) ["_law_kind"] ["_law_box_here", "_law_web_here", "_law_lot", "!_law_kind", "_law_is_strict", "_law_counts"] dS.nd rfl rfl (by rfl) (by rfl) rfl (bG (fY 8 (d:=.list [.str "standing",.str "whole",.str "stable"]) (Lit.of (by kernel_rfl)) (by decide +kernel))) (λ_ _ _ _ _=>dg 0 uR) (λ_ _ _ _ _=>eE) (λ_ _ _ _ _=>fH J66 cv hr (ae (dv 2) (ae (dv 3) (ae (dv 0) (ae bJ ag))))))
  (ak (aL (BG Bu Bu (c9 (bF hr) (dv 5) aD (λ_ _=>rfl)) (c9 (bF hr) (dv 5) aD (λ_ _=>rfl)) (c9 (bF hr) (dv 5) aD (λ_ _=>rfl)))))))))) (by kernel_rfl)
abbrev rH:Stmt:=top 68
abbrev Nu:YH:=["_law_script"]
theorem Em:aE (ap Nu ["_law_k", "_law_lap"]) Nu (au rH):=jM
theorem PM{f:Addr}{fd:FuncData}(Fu:Ln K "law" "law" rH f fd)(T:Txt K mg)(J67:rG ⟨P,w,K,mg,base⟩)(J61:xj ⟨P,w,K,mg,base⟩):jQ P w K mg base (uV P w) 11 f fd ["_law_script"] (IE ⟨P,w,mg,K⟩ FG):=
 Pq (Td (k:=10) Fu Em (λcdv A outer s H E hr=>
  ai (fX rfl (lH (by rfl) T.n_range (ae (rS (Rf rfl) T.n_max OH (ae aD (ae (rS (Rg rfl) T.n_min OG (ae (rS oR T.n_len km (ae (dv 0) ag)) (ae aD ag))) ag))) ag)) (dg 1 Em.nd) (ak (fX rfl (lH (by rfl) T.n_range (ae aD ag)) (dg 2 Em.nd) (ak (cR (dX (bo (fH J67 cv hr (ae (fH J61 cv hr (ae (dv 0) (ae (dv 1) (ae (dv 2) ag)))) ag)))) (ak (aL bJ)) bz)))))
  (ak (aL bJ)))) (by kernel_rfl)
end
end K36
namespace Ml
open PySem
@[simp] theorem Th(i:Nat)(ρ:Fm)(h:Hm):ab i ρ h=(match ρ[i]? with
 |some (some d)=>.ok d h
 |_=>.bad):=rfl
@[simp] theorem PN(d:PyData)(z0:Fm)(h:Hm):aj d z0 h=(.ok (.dat d) h):=rfl
@[simp] theorem T7(n:Str)(z0:Fm)(h:Hm):Uv n z0 h=(.ok (.fn n) h):=rfl
@[simp] theorem Ti (z0:Fm)(h:Hm):ah  z0 h=(.ok [] h):=rfl
@[simp] theorem R0(e:ME)(a:MA)(ρ:Fm)(h:Hm):aa e a ρ h=((e ρ h).bind λx h1=>(a ρ h1).bind λxs h2=>.ok (x::xs) h2):=rfl
@[simp] theorem Tj(f:D->D->Hm->R D)(a b:ME)(ρ:Fm)(h:Hm):ao f a b ρ h=((a ρ h).bind λx h1=>(b ρ h1).bind λy h2=>f x y h2):=rfl
@[simp] theorem T8(f:D->Hm->R D)(a:ME)(ρ:Fm)(h:Hm):Ih f a ρ h=((a ρ h).bind λx h1=>f x h1):=rfl
@[simp] theorem R1(f:Fn)(a:MA)(ρ:Fm)(h:Hm):af f a ρ h=((a ρ h).bind λxs h1=>f xs h1):=rfl
@[simp] theorem R3(e:ME)(ρ:Fm)(h:Hm):aI e ρ h=((e ρ h).bind λx h1=>match x with
 |.dat (.bool b)=>.ok b h1
 |_=>.bad):=rfl
@[simp] theorem Tn(t:MT)(ρ:Fm)(h:Hm):eI t ρ h=((t ρ h).bind λb h1=>.ok (!b) h1):=rfl
@[simp] theorem To(t u:MT)(ρ:Fm)(h:Hm):vm t u ρ h=((t ρ h).bind λb h1=>if b then u ρ h1 else .ok false h1):=rfl
@[simp] theorem T9(t u:MT)(ρ:Fm)(h:Hm):xE t u ρ h=((t ρ h).bind λb h1=>if b then .ok true h1 else u ρ h1):=rfl
@[simp] theorem Tp(a:MA):eV a=(af yk a:ME):=rfl
@[simp] theorem Tq(a:MA):Ds a=(af vI a:ME):=rfl
@[simp] theorem R4 (ρ:Fm)(h:Hm):bM  ρ h=(.ok (.nx ρ) h):=rfl
@[simp] theorem Tr(a b:MS)(ρ:Fm)(h:Hm):aS a b ρ h=((a ρ h).bind λf h1=>match f with
 |.nx ρ1=>b ρ1 h1
 |f=>.ok f h1):=rfl
@[simp] theorem Ts(i:Nat)(e:ME)(ρ:Fm)(h:Hm):bP i e ρ h=((e ρ h).bind λx h1=>.ok (.nx (ρ.set i (some x))) h1):=rfl
@[simp] theorem R5(e:ME)(ρ:Fm)(h:Hm):iT e ρ h=((e ρ h).bind λ_ h1=>.ok (.nx ρ) h1):=rfl
@[simp] theorem Tt(e:ME)(ρ:Fm)(h:Hm):bw e ρ h=((e ρ h).bind λx h1=>.ok (.rt x) h1):=rfl
@[simp] theorem Ua(t:MT)(a b:MS)(ρ:Fm)(h:Hm):jq t a b ρ h=((t ρ h).bind λc h1=>if c then a ρ h1 else b ρ h1):=rfl
@[simp] theorem Rx (ρ:Fm)(h:Hm):OR  ρ h=(.ok (.bk ρ) h):=rfl
@[simp] theorem R6 (ρ:Fm)(h:Hm):Q5  ρ h=(.ok (.ct ρ) h):=rfl
@[simp] theorem R7(i:Nat)(x:D)(ρ:Fm)(h:Hm):aq i x ρ h=(.ok (ρ.set i (some x)) h):=rfl
@[simp] theorem Tu (xs:List D)(ρ:Fm)(h:Hm):jN  xs ρ h=(match xs with
 | []=>.ok ρ h
 |_=>.bad):=rfl
@[simp] theorem R8(g:MG)(gs:Ii)(xs:List D)(ρ:Fm)(h:Hm):bS g gs xs ρ h=(match xs with
 | []=>.bad
 |x::xs=>(g x ρ h).bind λρ1 h1=>gs xs ρ1 h1):=rfl
@[simp] theorem Tv(gs:Ii)(x:D)(ρ:Fm)(h:Hm):jO gs x ρ h=(match x with
 |.dat (.tuple ds)=>gs (ds.map D.dat) ρ h
 |_=>.bad):=rfl
@[simp] theorem Tw(g:MG)(e:ME)(ρ:Fm)(h:Hm):oH g e ρ h=((e ρ h).bind λx h1=>(g x ρ h1).bind λρ1 h2=>.ok (.nx ρ1) h2):=rfl
@[simp] theorem Tx(is:List Nat)(a:MA)(ρ:Fm)(h:Hm):zF is a ρ h=((a ρ h).bind λxs h1=>match sC is xs ρ with
 |some ρ1=>.ok (.nx ρ1) h1
 |Option.none=>.bad):=rfl
@[simp] theorem R9(e:ME)(ρ:Fm)(h:Hm):E4 e ρ h=((e ρ h).bind λx h1=>match x with
 |.dat (.tuple ds)=>.ok (ds.map D.dat) h1
 |_=>.bad):=rfl
@[simp] theorem Sa(e:ME)(ρ:Fm)(h:Hm):aH e ρ h=(match e ρ h with
 |.ok (.dat (.tuple ds)) h1=>.ok (ds.map D.dat) h1
 |.ok (.dat (.list ds)) h1=>.ok (ds.map D.dat) h1
 |.ok (.dat (.str s)) h1=>.ok (signs s) h1
 |.ok (.ktup ds) h1=>.ok (ds.map D.dat) h1
 |.exc x h1=>.exc x h1
 |_=>.bad):=rfl
@[simp] theorem Sb(a:MA)(ρ:Fm)(h:Hm):ic a ρ h=((a ρ h).bind λxs h1=>match xs with
 | [.dat (.int j)]=>if -(2^62)<=j/\j<2^62 then .ok (nums 0 j.toNat) h1 else .bad
 |_=>.bad):=rfl
@[simp] theorem Sd(a:MA)(ρ:Fm)(h:Hm):E5 a ρ h=((a ρ h).bind λxs h1=>match xs with
 | [.dat (.tuple ds),.dat (.tuple es)]=>.ok (zG ds es) h1
 |_=>.bad):=rfl
@[simp] theorem Tz(it:MA)(g:MG)(b:MS)(ρ:Fm)(h:Hm):ie it g b ρ h=((it ρ h).tN.bind λxs h1=>dz g b xs ρ h1):=rfl
@[simp] theorem Se (z0:Fm)(h:Hm):cM  z0 h=(.ok true h):=rfl
@[simp] theorem Sf(p n:Nat)(b:MS)(xs:List D)(h:Hm):aY p n b xs h=(if xs.length=p then(b (xs.map some++List.replicate (n-p) none) h).bind E6 else .bad):=rfl
@[simp] theorem Sg(x:D)(h:Hm):truth x h=(match x with
 |.dat .none=>some false
 |.dat (.bool b)=>some b
 |.dat (.int i)=>some (i != 0)
 |.dat (.str s)=>if mP s.length then some ((s.length:Int) != 0)else Option.none
 |.dat (.tuple ds)=>some !ds.isEmpty
 |.dat (.list ds)=>some !ds.isEmpty
 |.ref i=>match h[i]? with
  |some (.lst xs)=>some !xs.isEmpty
  |_=>Option.none
 |_=>Option.none:Option Bool):=rfl
@[simp] theorem Ry(e:ME)(ρ:Fm)(h:Hm):aR e ρ h=((e ρ h).bind λx h1=>match truth x h1 with
 |some b=>.ok b h1
 |Option.none=>.bad):=rfl
@[simp] theorem TB(a b:ME)(ρ:Fm)(h:Hm):Ma a b ρ h=((a ρ h).bind λx h1=>match truth x h1 with
 |some c=>if c then .ok x h1 else b ρ h1
 |none=>.bad):=rfl
@[simp] theorem Sh(a b:ME)(ρ:Fm)(h:Hm):mI a b ρ h=((a ρ h).bind λx h1=>match truth x h1 with
 |some c=>if c then b ρ h1 else .ok x h1
 |none=>.bad):=rfl
@[simp] theorem Rz(f g:D->D->Hm->R D)(a b c:ME)(ρ:Fm)(h:Hm):lR f g a b c ρ h=((a ρ h).bind λx h1=>(b ρ h1).bind λy h2=>(f x y h2).bind λz h3=>match z with
 |.dat (.bool k)=>if k then(c ρ h3).bind λw h4=>g y w h4 else .ok (.bool false) h3
 |_=>.bad):=rfl
@[simp] theorem Ub(e:ME)(lo hi:OS)(ρ:Fm)(h:Hm):Qj e lo hi ρ h=((e ρ h).bind λx h1=>(lo ρ h1).bind λl h2=>(hi ρ h2).bind λu h3=>Q7 x l u h3):=rfl
@[simp] theorem Si (z0:Fm)(h:Hm):ym  z0 h=(.ok Option.none h):=rfl
@[simp] theorem Sj(e:ME)(ρ:Fm)(h:Hm):yn e ρ h=((e ρ h).bind λx h1=>match x with
 |.dat (.int i)=>.ok (some i) h1
 |_=>.bad):=rfl
@[simp] theorem Uc(x:D)(lo hi:Option Int)(h:Hm):Q7 x lo hi h=(match x with
 |.dat (.tuple ds)=>.ok (.dat (.tuple (cut ds lo hi))) h
 |.dat (.list ds)=>.ok (.dat (.list (cut ds lo hi))) h
 |_=>.bad:R D):=rfl
@[simp] theorem TC(f:PyData->Bool)(x:D)(h:Hm):vK f x h=(match x with
 |.dat d=>.ok (.bool (f d)) h
 |_=>.bad):=rfl
@[simp] theorem PQ(x y:D)(h:Hm):xN x y h=(match x,y with
 |.dat (.int i),.dat (.int j)=>.ok (.int (i-j)) h
 |_,_=>.bad:R D):=rfl
@[simp] theorem Ud(x y:D)(h:Hm):Bj x y h=(match x,y with
 |.dat (.int i),.dat (.int j)=>.ok (.bool (decide (j<i))) h
 |_,_=>.bad:R D):=rfl
@[simp] theorem Qo(ρ:Fm):sC [] [] ρ=some ρ:=rfl
@[simp] theorem Qp(i:Nat)(is:List Nat)(x:D)(xs:List D)(ρ:Fm):sC (i::is) (x::xs) ρ=sC is xs (ρ.set i (some x)):=rfl
@[simp] theorem Sk(d:D)(h:Hm):E6 (.rt d) h=.ok d h:=rfl
@[simp] theorem Sl(ρ:Fm)(h:Hm):E6 (.nx ρ) h=.ok D.none h:=rfl
@[simp] theorem Mu  : isTup .none=false:=rfl
@[simp] theorem Mv(b:Bool):isTup (.bool b)=false:=rfl
@[simp] theorem Nv(i:Int):isTup (.int i)=false:=rfl
@[simp] theorem Nw(s:Str):isTup (.str s)=false:=rfl
@[simp] theorem KG(xs:YD):isTup (.tuple xs)=true:=rfl
@[simp] theorem Mw(xs:YD):isTup (.list xs)=false:=rfl
@[simp] theorem Mx(xs:YA):isTup (.dict xs)=false:=rfl
@[simp] theorem My  : isStr .none=false:=rfl
@[simp] theorem Mz(b:Bool):isStr (.bool b)=false:=rfl
@[simp] theorem Ny(i:Int):isStr (.int i)=false:=rfl
@[simp] theorem Nz(s:Str):isStr (.str s)=true:=rfl
@[simp] theorem KH(xs:YD):isStr (.tuple xs)=false:=rfl
@[simp] theorem MB(xs:YD):isStr (.list xs)=false:=rfl
@[simp] theorem MC(xs:YA):isStr (.dict xs)=false:=rfl
@[simp] theorem NA(i:Int):isInt (.int i)=true:=rfl
@[simp] theorem NB(i:Int):Nh (.int i)=false:=rfl
@[simp] theorem rep0{α:Type}(a:α):List.replicate 0 a=[]:=rfl
@[simp] theorem rep2{α:Type}(a:α):List.replicate 2 a=[a,a]:=rfl
theorem sz(h:n<=16777216):mP n=true:=WX h
@[simp] theorem tD(ds:YD)(h:Hm)(hz:ds.length<=16777216):yk (ds.map D.dat) h=.ok (.dat (.tuple ds)) h:=by simp[yk,sA,sz hz]
theorem lu(ds:YD)(h:Hm)(hz:ds.length<=16777216):oN (ds.map D.dat) h=.ok (.dat (.list ds)) h:=by simp[oN,sA,sz hz]
@[simp] theorem PR(a b:PyData)(h:Hm):yk [.dat a,.dat b] h=.ok (.dat (.tuple [a,b])) h:=tD [a,b] h (by simp)
@[simp] theorem PU(a:PyData)(h:Hm):oN [.dat a] h=.ok (.dat (.list [a])) h:=lu [a] h (by simp)
theorem uw(c:D->Bool)(f:D->D):∀{xs:List D},(∀x∈xs,∃ρ1,g x (List.replicate n none++ρ) h=.ok ρ1 h/\t ρ1 h=.ok (c x) h/\(c x=true->e ρ1 h=.ok (f x) h))->gC n ρ g t e xs h=.ok ((xs.filter c).map f) h
 | [],_=>rfl
 |x::xs,H=>by
  obtain⟨ρ1,h1,h2,h3⟩:=H x (UZ ..);have ih:=uw c f λy hy=>H y (UI _ hy);unfold gC;rw[h1];simp;rw[h2];simp
  cases hc:c x with
  |false=>grind
  |true=>
   simp_all
theorem xm(hit:it ρ h=.ok xs h1)(hz:xs.length<=16777216)(c:D->Bool)(f:D->PyData)
 (H:∀x∈xs,∃ρ1,g x (List.replicate n none++ρ) h1=.ok ρ1 h1/\t ρ1 h1=.ok (c x) h1/\(c x=true->e ρ1 h1=.ok (.dat (f x)) h1)):bR n it g t e ρ h=.ok (.dat (.list ((xs.filter c).map f))) h1:=by
 unfold bR af yl;rw[hit];simp[sz hz];rw[uw c _ H];have e1:(List.map (λx=>D.dat (f x)) (List.filter c xs))=((xs.filter c).map f).map D.dat:=by simp
 rw[e1]
 exact lu _ _ (by
  rw[UX]
  exact UO (Vn _ _) hz)
theorem fe{ds:YD}(hit:it ρ h=.ok (ds.map D.dat) h1)(hz:ds.length<=16777216)(f:PyData->PyData)
 (H:∀x∈ds,∃ρ1,g (.dat x) (List.replicate n none++ρ) h1=.ok ρ1 h1/\e ρ1 h1=.ok (.dat (f x)) h1):bR n it g cM e ρ h=.ok (.dat (.list (ds.map f))) h1:=by
 have:=xm (n:=n) (t:=cM) (g:=g) (e:=e) hit (by grind) (λ_=>true) (λx=>match x with|.dat d=>f d|_=>.none) (λx hx=>by
  obtain⟨d,hd,rfl⟩:=U2.mp hx
  simp_all)
 rw[this,show _=λ_=>true from rfl,List.filter_eq_self.mpr (λ_ _=>rfl),W4];rfl
theorem fS{ds:YD}(hit:it ρ h=.ok (ds.map D.dat) h1)(hz:ds.length<=16777216)(c:PyData->Bool)(f:PyData->PyData)
 (H:∀x∈ds,∃ρ1,g (.dat x) (List.replicate n none++ρ) h1=.ok ρ1 h1/\t ρ1 h1=.ok (c x) h1/\(c x=true->e ρ1 h1=.ok (.dat (f x)) h1)):bR n it g t e ρ h=.ok (.dat (.list ((ds.filter c).map f))) h1:=by
 have:=xm (n:=n) (t:=t) (g:=g) (e:=e) hit (by grind) (λx=>match x with|.dat d=>c d|_=>false) (λx=>match x with|.dat d=>f d|_=>.none) (λx hx=>by
  obtain⟨d,hd,rfl⟩:=U2.mp hx
  grind)
 simp[this,List.filter_map,Function.comp_def]
theorem xn(bs:List Bool)(h:Hm):sD [.dat (.list (bs.map .bool))] h=.ok (.bool (bs.all id)) h:=by simp[sD,yo]
theorem En(bs:List Bool)(h:Hm):xO [.dat (.list (bs.map .bool))] h=.ok (.bool (bs.any id)) h:=by simp[xO,yo]
theorem yW{ds:YD}(hit:it ρ h=.ok (ds.map D.dat) h1)(hz:ds.length<=16777216)(f:PyData->Bool)
 (H:∀x∈ds,∃ρ1,g (.dat x) (List.replicate n none++ρ) h1=.ok ρ1 h1/\e ρ1 h1=.ok (.bool (f x)) h1):af sD (aa (bR n it g cM e) ah) ρ h=.ok (.bool (ds.all f)) h1:=by
 unfold af aa;rw[fe hit hz _ H];simp;have e1:ds.map (λx=>PyData.bool (f x))=(ds.map f).map .bool:=by simp
 rw[e1,xn]
 simp_all
theorem yX{ds:YD}(hit:it ρ h=.ok (ds.map D.dat) h1)(hz:ds.length<=16777216)(f:PyData->Bool)
 (H:∀x∈ds,∃ρ1,g (.dat x) (List.replicate n none++ρ) h1=.ok ρ1 h1/\e ρ1 h1=.ok (.bool (f x)) h1):af xO (aa (bR n it g cM e) ah) ρ h=.ok (.bool (ds.any f)) h1:=by
 unfold af aa;rw[fe hit hz _ H];simp;have e1:ds.map (λx=>PyData.bool (f x))=(ds.map f).map .bool:=by simp
 rw[e1,En]
 simp_all
theorem gO(I:Nat->Fm->Hm->Prop):∀(xs:List D) (i:Nat) (ρ:Fm) (h:Hm),(∀(j:Nat) (x:D),xs[j]?=some x->∀ρ h,I (i+j) ρ h->∃ρ1 h1 ρ2 h2,g x ρ h=.ok ρ1 h1/\(b ρ1 h1=.ok (.nx ρ2) h2\/b ρ1 h1=.ok (.ct ρ2) h2)/\I (i+j+1) ρ2 h2)->I i ρ h ->
  ∃ρ' h',dz g b xs ρ h=.ok (.nx ρ') h'/\I (i+xs.length) ρ' h'
 | [],i,ρ,h,_,a=>⟨ρ,h,rfl,by omega⟩
 |x::xs,i,ρ,h,H,a=>by
  obtain⟨ρ1,h1,ρ2,h2,e1,e2,a2⟩:=H 0 x rfl ρ h #[1]
  obtain⟨ρ',h',e3,a3⟩:=gO I xs (i+1) ρ2 h2 (λj y e ρ h a=>by
   have:=H (j+1) y (by simpa using e) ρ h (by rw[show i+(j+1)=i+1+j by omega];exact a)
   rwa [show i+(j+1)+1=i+1+j+1 by omega]at this) (by simpa using a2)
  refine⟨ρ',h',?_,by rw[Vf,show i+(xs.length+1)=i+1+xs.length by omega];exact a3⟩;unfold dz;rw[e1];simp only[R.dB,R.aP];rcases e2 with e2|e2<;>rw[e2]<;>exact e3
theorem qe(I:Hm->Prop)(f:D->D->Prop):∀{xs:List D} {h:Hm},(∀x∈xs,∀h,I h->∃ρ1 h1 c h2,g x (List.replicate n none++ρ) h=.ok ρ1 h1/\t ρ1 h1=.ok c h2/\((c=false/\I h2)\/(c=true/\∃y h3,e ρ1 h2=.ok y h3/\f x y/\I h3)))->I h ->
  ∃ys zs h',gC n ρ g t e xs h=.ok ys h'/\I h'/\zs.Sublist xs/\PySem.Paired f zs ys
 | [],h,_,a=>⟨[],[],h,rfl,a,.slnil,.nil⟩
 |x::xs,h,H,a=>by
  obtain⟨ρ1,h1,c,h2,e1,e2,k⟩:=H x (UZ ..) h a;unfold gC;rw[e1];simp only[R.dB,R.aP];rw[e2];simp only[R.dB,R.aP];rcases k with⟨rfl,a2⟩|⟨rfl,y,h3,e3,fy,a3⟩
  ·obtain⟨ys,zs,h',q1,q2,q3,q4⟩:=qe I f (xs:=xs) (λy hy=>H y (UI _ hy)) a2
   grind
  ·obtain⟨ys,zs,h',q1,q2,q3,q4⟩:=qe I f (xs:=xs) (λy hy=>H y (UI _ hy)) a3;refine⟨y::ys,x::zs,h',?_,q2,.cons_cons _ q3,.cons fy q4⟩;simp only[VC];rw[e3];simp only[R.dB,R.aP];rw[q1];rfl
mutual
noncomputable def AE:PyData->Bool
 |.none|.bool _=>true
 |.int i=>decide (i.natAbs<10^30)
 |.str x=>PyData.strOk x
 |.tuple ds=>jH ds
 |.list ds=>jH ds
 |.dict _=>false
noncomputable def jH:YD->Bool
 | []=>true
 |d::ds=>AE d&&jH ds
end
mutual
theorem Cz:∀{d:PyData},AE d=true->d.canLay0=true
 |.none,_=>by rfl
 |.bool _,_=>by rfl
 |.int _,h=>by rfl
 |.str x,h=>by assumption
 |.tuple ds,h=>tE h
 |.list ds,h=>tE h
 |.dict _,h=>by assumption
theorem tE:∀{ds:YD},jH ds=true->PyData.canLayAll0 ds=true
 | [],_=>by rfl
 |d::ds,h=>by simp only[jH,UH]at h;simp only[PyData.canLayAll0,UH];exact⟨Cz h.1,tE h.2⟩
end
theorem rJ:∀(a b:YD),jH (a++b)=(jH a&&jH b)
 | [],b=>by rfl
 |d::a,b=>by simp[jH,rJ a b,Bool.and_assoc]
theorem ux:∀(a b:YD),PyData.weightAll (a++b)=PyData.weightAll a+PyData.weightAll b
 | [],b=>by simp[PyData.weightAll]
 |d::a,b=>by simp[PyData.weightAll,ux a b];omega
theorem uy:∀(a b:YD),PyData.depthAll (a++b)=max (PyData.depthAll a) (PyData.depthAll b)
 | [],b=>by rfl
 |d::a,b=>by simp only[X6,PyData.depthAll,uy a b];omega
theorem CA:∀(a:YD),a.length<=PyData.weightAll a
 | []=>by simp
 |d::a=>by
  have:=CA a
  grind[PyData.weightAll,List.length_cons]
theorem yY:∀{ds:YD} {d:PyData},jH ds=true->d∈ds->AE d=true
 |e::ds,d,h,m=>by
  simp[jH]at h;rcases UP.mp m with rfl|m
  ·grind
  ·exact yY h.2 m
theorem CB:∀{ds:YD},(∀d∈ds,AE d=true)->jH ds=true
 | [],_=>rfl
 |d::ds,h=>by simp[jH];exact⟨h d (UZ ..),CB λe m=>h e (UI _ m)⟩
theorem yZ:∀{ds:YD} {d:PyData},d∈ds->d.depth<=PyData.depthAll ds
 |e::ds,d,m=>by
  simp[PyData.depthAll];rcases UP.mp m with rfl|m
  ·omega
  ·have:=yZ m;omega
theorem eT:∀{ds:YD} {m:Nat},(∀d∈ds,d.depth<=m)->PyData.depthAll ds<=m
 | [],m,_=>by simp[PyData.depthAll]
 |d::ds,m,h=>by simp[PyData.depthAll];have h1:=h d (UZ ..);have h2:=eT λe q=>h e (UI _ q);omega
theorem xo:∀{ds:YD} {d:PyData},d∈ds->d.weight+1<=PyData.weightAll ds
 |e::ds,d,m=>by
  simp[PyData.weightAll];rcases UP.mp m with rfl|m
  ·omega
  ·have:=xo m;omega
theorem rK:∀{ds:YD} {n:Nat},(∀d∈ds,d.weight<=n)->PyData.weightAll ds<=ds.length*(n+1)
 | [],n,_=>by simp[PyData.weightAll]
 |d::ds,n,h=>by simp[PyData.weightAll,Nat.succ_mul];have h1:=h d (UZ ..);have h2:=rK λe q=>h e (UI _ q);omega
structure Ok(n m:Nat)(x:PyData):Prop where
 f:AE x=true
 d:x.depth<=m
 w:x.weight<=n
structure kG(n m:Nat)(ds:YD):Prop where
 f:jH ds=true
 d:PyData.depthAll ds<=m
 w:PyData.weightAll ds<=n
section
variable {n m n' m':Nat} {d x:PyData} {ds a b:YD}
theorem kG.tup(o:kG n m ds):Ok n (m+1) (.tuple ds):=⟨by simpa [AE]using o.f,by simp[PyData.depth];have:=o.d;omega,o.w⟩
theorem kG.lst(o:kG n m ds):Ok n (m+1) (.list ds):=⟨by simpa [AE]using o.f,by simp[PyData.depth];have:=o.d;omega,o.w⟩
theorem Ok.items(o:Ok n m (.tuple ds)):kG n (m-1) ds:=⟨by simpa [AE]using o.f,by have:=o.d;grind[PyData.depth],by have:=o.w;grind[PyData.weight]⟩
theorem kG.append(x:kG n1 m a)(y:kG n2 m b):kG (n1+n2) m (a++b):=
 ⟨by rw[rJ,x.f,y.f];rfl,by rw[uy];exact Nat.max_le.mpr ⟨x.d,y.d⟩,by rw[ux];exact Nat.add_le_add x.w y.w⟩
theorem kG.one(x:Ok n m d):kG (n+1) m [d]:=⟨by simp[jH,x.f],by simp[PyData.depthAll];exact x.d,by simp[PyData.weightAll];exact x.w⟩
theorem kG.cons(x:Ok n m d)(y:kG n' m ds):kG (n+1+n') m (d::ds):=(kG.one x).append y
theorem kG.mono(x:kG n m a)(h1:n<=n')(h2:m<=m'):kG n' m' a:=⟨x.f,UO x.d h2,UO x.w h1⟩
theorem Ok.mono(x:Ok n m d)(h1:n<=n')(h2:m<=m'):Ok n' m' d:=⟨x.f,UO x.d h2,UO x.w h1⟩
theorem kG.mem(o:kG n m ds)(h:d∈ds):Ok n m d:=⟨yY o.f h,UO (yZ h) o.d,by have:=xo h;have:=o.w;omega⟩
theorem kG.len(o:kG n m ds):ds.length<=n:=UO (CA ds) o.w
theorem kG.of(h:∀d∈ds,Ok n m d):kG (ds.length*(n+1)) m ds:=⟨CB λd q=>(h d q).f,eT λd q=>(h d q).d,rK λd q=>(h d q).w⟩
theorem Ok.RA(o:Ok n m d):noDict d=true:=by have:=PyData.hasDict_of_canLay d (Cz o.f);simp[noDict,this]
theorem Ok.str(o:Ok n m (.str s)):s.length<=n:=o.w
end
theorem PV(ds:YD)(z:Nat):cut ds none (some (z:Int))=ds.take z:=by
 grind[cut,fT]
theorem JT(ds:YD)(z:Nat):cut ds (some (z:Int)) none=ds.drop z:=by
 simp only[cut,fT];rw[if_neg #[1],V7];by_cases h:z<=ds.length
 ·rw[Nat.min_eq_left h,Ws (by simp)]
 ·rw[Nat.min_eq_right #[1],VJ (UJ _),VJ #[1]];simp
theorem JU(ds:YD):cut ds (some 1) none=ds.drop 1:=JT ds 1
theorem FW(xs:YD):PyData.eqv (.list xs) (.list [])=xs.isEmpty:=by cases xs<;>simp[PyData.eqv,PyData.eqvAll]
theorem MD(o:kG n m xs)(h:Hm):oEq (.dat (.list xs)) (.dat (.list [])) h=.ok (.bool xs.isEmpty) h:=by
 have h1:PyData.hasDictAll xs=false:=by have:=o.lst.RA;grind[noDict,PyData.hasDict]
 simp[oEq,eqQ,h1,FW,noDict,PyData.hasDict,PyData.hasDictAll,PyData.depth,PyData.depthAll]
theorem JV(o:kG n m xs)(h:Hm):oEq (.dat (.tuple xs)) (.dat (.tuple [])) h=.ok (.bool xs.isEmpty) h:=by
 have h1:PyData.hasDictAll xs=false:=by have:=o.tup.RA;grind[noDict,PyData.hasDict]
 have e:PyData.eqv (.tuple xs) (.tuple [])=xs.isEmpty:=by cases xs<;>simp[PyData.eqv,PyData.eqvAll]
 simp[oEq,eqQ,h1,e,noDict,PyData.hasDict,PyData.hasDictAll,PyData.depth,PyData.depthAll]
def az(c:Nat):Bool:=decide (97<=c)&&decide (c<=122)
def isName:PyData->Bool
 |.str x=>decide (1<=x.length)&&decide (x.length<=6)&&x.cps.toList.all az
 |_=>false
theorem Ue(a c:Nat):decide ([a]<[c])=decide (a<c):=by
 rw[decide_eq_decide];constructor
 ·intro h
  cases h with
  |rel h=>exact h
  |cons h=>cases h
 ·intro h;exact .rel h
theorem TF:("a" : Str).cps.toList=[97]:=by rfl
theorem TH:("z" : Str).cps.toList=[122]:=by rfl
theorem UA(c:Nat):(!pb (⟨#[c]⟩:Str) ("a" : Str))=decide (97<=c):=by
 unfold pb;rw[TF,show(_:Str).cps.toList=[c]from rfl,Ue]
 grind
theorem ltZ(c:Nat):(!pb ("z" : Str) (⟨#[c]⟩:Str))=decide (c<=122):=by
 unfold pb;rw[TH,show(_:Str).cps.toList=[c]from rfl,Ue]
 grind
theorem Eo(x:Str):signs x=(jr x).map D.dat:=by simp[signs,jr]
theorem Ep(x:Str):(jr x).length=x.length:=by simp[jr];rfl
theorem Er(x:Str)(p:Nat->Bool)(q:PyData->Bool)(h:∀c,q (.str ⟨#[c]⟩)=p c):(jr x).all q=x.cps.toList.all p:=by
 rw[V0,UW,UW];constructor
 ·intro H c hc;obtain⟨i,hi,e⟩:=V6.mp hc
  have:=H (.str ⟨#[c]⟩) (by
   simp only[jr,U2,Vm];refine⟨i,by simpa using hi,?_⟩;have hi':i<x.cps.size:=by simpa using hi
   simp[Array.getD,hi']
   simpa using e)
  rw[h]at this;exact this
 ·intro H d hd;simp only[jr,U2,Vm]at hd;obtain⟨i,hi,rfl⟩:=hd;rw[h];apply H;have:x.cps.getD i 0=x.cps[i]:=by simp[Array.getD,hi]
  rw[this];simp
theorem rL(i j:Int)(h:Hm):oLe (.int i) (.int j) h=.ok (.bool (decide (i<=j))) h:=rfl
theorem FX(x y:Str)(h:Hm):oLe (.str x) (.str y) h=.ok (.bool (!pb y x)) h:=rfl
theorem xq(h:Hm)(hz:x.length<=16777216):iI [.str x] h=.ok (.int x.length) h:=by simp[iI,sz hz]
@[simp] theorem RB(ds:YD)(h:Hm):iI [.dat (.tuple ds)] h=.ok (.int ds.length) h:=rfl
def dY{α:Type}(ds:List α)(f:α->Bool):Bool:=ds.all f
theorem cD:dY ds f=true<->∀x∈ds,f x=true:=UW
theorem jh:dY (a::ds) f=true<->f a=true/\dY ds f=true:=by simp[dY]
theorem jI(ds:List α)(f:α->Bool)(h:Hm):sD [.dat (.list (ds.map λx=>.bool (f x)))] h=.ok (.bool (dY ds f)) h:=by
 unfold dY;have e1:ds.map (λx=>PyData.bool (f x))=(ds.map f).map .bool:=by simp
 rw[e1,xn]
 simp_all
theorem Es(o:Ok n m d)(hn:n<=10000)(h:Hm):kQ [.dat d] h=.ok (.bool (isName d)) h:=by
 unfold kQ yE
 cases d with
 |str x=>
  have hx:x.length<=16777216:=UO o.str #[1]
  have key:bR 1 (aH (ab 0)) (aq 0) cM (lR oLe oLe (aj (.str "a")) (ab 0) (aj (.str "z"))) [some (.str x)] h=.ok (.dat (.list ((jr x).map λd=>.bool (match d with|.str y=>!pb y "a" && !pb "z" y|_=>false)))) h:=by
   refine fe (by simp[Eo]) (by rw[Ep];exact hx) _ λy hy=>?_;simp only[jr,U2,Vm]at hy;obtain⟨i,hi,rfl⟩:=hy;generalize (⟨#[x.cps.getD i 0]⟩:Str)=y;refine⟨_,rfl,?_⟩;by_cases z:pb y "a" = true
   ·simp[FX,z]
   ·simp[FX,z]
  by_cases h1:1<=(x.length:Int)
  ·by_cases h2:(x.length:Int)<=6
   ·simp[xq h hx,rL,h1,h2,key,jI];unfold dY;rw[Er x az _ (λc=>by simp only[az,UA,ltZ])];simp[isName,show 1<=x.length by omega,show x.length<=6 by omega]
   ·simp[xq h hx,rL,h1,h2,isName,show ¬ x.length<=6 by omega]
  ·simp[xq h hx,rL,h1,isName,show ¬ 1<=x.length by omega]
 |_=>simp[isName]
def ya(ds:YD):Bool:=dY (ds.zip ds.tail) λp=>ltB p.1 p.2
structure Qq(ds:YD):Prop where
 nd:∀d∈ds,noDict d=true/\d.depth<=40
 lt:∀d∈ds,∀e∈ds,cg d e=some (ltB d e)
theorem JW(h1:noDict d=true)(h2:noDict e=true)(h3:d.depth<=40)(h4:cg d e=some (ltB d e))(h:Hm):oLt (.dat d) (.dat e) h=.ok (.bool (ltB d e)) h:=by simp[oLt,h1,h2,h4,show min d.depth e.depth<=40 by omega]
theorem FY(i j:Int)(h:Hm):oLt (.int i) (.int j) h=.ok (.bool (decide (i<j))) h:=by rfl
theorem CC(h:∀d∈ds,∃x,d=.str x):Qq ds:=⟨λd m=>by obtain⟨x,rfl⟩:=h d m;simp[noDict,PyData.hasDict,PyData.depth],λd m e m'=>by
 obtain⟨x,rfl⟩:=h d m
 grind[ltB,cg]⟩
theorem FZ:∀(xs ys:YD),zG xs ys=((xs.zip ys).map λp=>PyData.tuple [p.1,p.2]).map D.dat
 | [],_=>by rfl
 |_::_,[]=>by rfl
 |x::xs,y::ys=>by simp[zG,FZ xs ys]
theorem MF{xs:YD}(h:p∈xs.zip xs.tail):p.1∈xs/\p.2∈xs:=by have:=Ye h;exact⟨this.1,List.mem_of_mem_tail this.2⟩
theorem mr(c:Qq ds)(hz:ds.length<=16777216)(h:Hm):fN [.dat (.tuple ds)] h=.ok (.bool (ya ds)) h:=by
 unfold fN tU
 have key:bR 2 (E5 (aa (ab 0) (aa (Qj (ab 0) (yn (aj (.int 1))) ym) ah))) (jO (bS (aq 0) (bS (aq 1) jN))) cM (ao oLt (ab 0) (ab 1)) [some (.dat (.tuple ds))] h=.ok (.dat (.list ((ds.zip ds.tail).map λp=>.bool (ltB p.1 p.2)))) h:=by
  rw[fe (h1:=h) (ds:=(ds.zip ds.tail).map λp=>PyData.tuple [p.1,p.2]) (by simp[JU,FZ]) (by grind) (λd=>.bool (match d with|.tuple [a,b]=>ltB a b|_=>false)) λy hy=>?_]
  ·rw[W4];rfl
  ·obtain⟨p,hp,rfl⟩:=U2.mp hy;obtain⟨m1,m2⟩:=MF hp;refine⟨_,rfl,?_⟩;simp[JW (c.nd _ m1).1 (c.nd _ m2).1 (c.nd _ m1).2 (c.lt _ m1 _ m2)]
 simp[key,jI,ya]
theorem all_filter(l:List α)(p:α->Bool)(f:α->β):((l.filter λx=>!p x).map f).isEmpty=dY l p:=by
 unfold dY
 induction l with
 |nil=>rfl
 |cons a l ih=>cases h:p a<;>simp[h,<- ih]
theorem MH(l:List α):kG (l.length*2) 0 (l.map λ_=>PyData.int 1):=by
 have:=kG.of (n:=1) (m:=0) (ds:=l.map λ_=>PyData.int 1) λd hd=>by obtain⟨_,_,rfl⟩:=U2.mp hd;exact⟨by decide,by decide,by trivial⟩
 simp_all
theorem kG.sub{ds es:YD}(o:∀d∈ds,Ok n m d)(h:∀e∈es,e∈ds):kG (es.length*(n+1)) m es:=kG.of λd hd=>o d (h d hd)
mutual
noncomputable def cm:PyData->PyData->Bool
 |.str _,.str _=>true
 |.int _,.int _=>true
 |.tuple xs,.tuple ys=>Qr xs ys
 |_,_=>false
noncomputable def Qr:YD->YD->Bool
 |x::xs,y::ys=>cm x y&&Qr xs ys
 |_,_=>true
end
mutual
theorem Et:∀{d e:PyData},cm d e=true->(cg d e).isSome=true
 |.str _,e,h=>by cases e<;>simp_all[cm,cg]
 |.int _,e,h=>by cases e<;>simp_all[cm,cg]
 |.tuple xs,e,h=>by
  cases e with
  |tuple ys=>simp only[cg];exact F3 h
  |_=>assumption
 |.none,_,h=>by assumption
 |.bool _,_,h=>by assumption
 |.list _,_,h=>by assumption
 |.dict _,_,h=>by assumption
theorem F3:∀{xs ys:YD},Qr xs ys=true->(dw xs ys).isSome=true
 | [],[],_=>by rfl
 | [],_::_,_=>by rfl
 |_::_,[],_=>by rfl
 |x::xs,y::ys,h=>by
  simp only[Qr,UH]at h;unfold dw;split
  ·exact F3 h.2
  ·exact Et h.1
end
theorem F4(h:cm d e=true):cg d e=some (ltB d e):=by
 have:=Et h;unfold ltB
 cases q:cg d e with
 |none=>grind
 |some b=>rfl
def iH:PyData->Bool
 |.str _=>true
 |_=>false
theorem bZ(h:iH d=true):∃x,d=.str x:=by cases d<;>simp_all[iH]
theorem rM:∀{xs ys:YD},dY xs iH=true->dY ys iH=true->Qr xs ys=true
 | [],_,_,_=>by rfl
 |_::_,[],_,_=>by rfl
 |x::xs,y::ys,h,k=>by have h:=jh.mp h;have k:=jh.mp k;obtain⟨a,rfl⟩:=bZ h.1;obtain⟨b,rfl⟩:=bZ k.1;simp[Qr,cm,rM h.2 k.2]
theorem Qq.of(o:kG n m ds)(hm:m<=40)(h:∀d∈ds,∀e∈ds,cm d e=true):Qq ds:=⟨λd q=>⟨(o.mem q).RA,by have:=(o.mem q).d;omega⟩,λd q e r=>F4 (h d q e r)⟩
def jc(ns:YD)(d:PyData):Bool:=ns.any λy=>PyData.eqv y d
theorem xt(o:Ok n m d):∀{ns:YD},dY ns iH=true->Ij d ns=some (jc ns d)
 | [],_=>rfl
 |y::ns,h=>by
  have h:=jh.mp h;obtain⟨x,rfl⟩:=bZ h.1;have ih:=xt o h.2
  have e:Hn (.str x) d=some (PyData.eqv (.str x) d):=by
   have hd  := o.RA;unfold Hn;split
   ·rfl
   ·grind
   grind[eqQ,noDict,PyData.hasDict,PyData.depth]
  simp[Ij,e,ih,jc]
theorem jJ(o:Ok n m d)(h:dY ns iH=true)(hm:Hm):mQ (.dat d) (.dat (.tuple ns)) hm=.ok (.bool (jc ns d)) hm:=by simp[mQ,findIn,iU,jY,xt o h]
theorem AF(o:Ok n m d)(h:dY ns iH=true)(hm:Hm):gF (.dat d) (.dat (.tuple ns)) hm=.ok (.bool (!jc ns d)) hm:=by simp[gF,findIn,iU,jY,xt o h]
theorem cH(h:dY ns iH=true):jc ns d=true<->d∈ns:=by
 simp[jc];constructor
 ·rintro⟨y,hy,e⟩;obtain⟨x,rfl⟩:=bZ (cD.mp h y hy);cases d<;>simp[PyData.eqv]at e
  grind
 ·intro q;obtain⟨x,rfl⟩:=bZ (cD.mp h d q)
  grind[PyData.eqv]
theorem Eu(h:isName d=true):iH d=true:=by cases d<;>simp_all[isName,iH]
theorem Ew(h:dY ds isName=true):dY ds iH=true:=cD.mpr λd m=>Eu (cD.mp h d m)
theorem CD(h:dY ds iH=true):∀d∈ds,∃x,d=.str x:=λd m=>bZ (cD.mp h d m)
def jK:PyData->Bool
 |.tuple ds=>decide (ds.length<=12)&&dY ds isName&&ya ds
 |_=>false
theorem AG(o:Ok n m d)(hn:n<=10000)(h:Hm):j6 [.dat d] h=.ok (.bool (jK d)) h:=by
 unfold j6 tV
 cases d with
 |tuple ds=>
  have hl:=o.items.len;have key:=fe (n:=1) (it:=aH (ab 0)) (g:=aq 0) (e:=af kQ (aa (ab 0) ah)) (ρ:=[some (.dat (.tuple ds))]) (h:=h) (h1:=h) (ds:=ds) (by simp) #[1] (λx=>.bool (isName x)) (λx hx=>⟨_,rfl,by simp[Es (o.items.mem hx) hn]⟩);by_cases h1:ds.length<=12
  ·by_cases h2:dY ds isName=true
   ·have:=mr (CC (CD (Ew h2))) #[1] h;simp[key,jI,h1,show ¬ (12:Int)<ds.length by omega,h2,this,jK]
   ·simp[key,jI,h1,show ¬ (12:Int)<ds.length by omega,h2,jK]
  ·simp[h1,show(12:Int)<ds.length by omega,jK]
 |_=>simp[jK]
def y0(ns:YD):PyData->Bool
 |.tuple ds=>dY ds (jc ns)&&ya ds
 |_=>false
theorem He(o:Ok n m d)(hn:n<=10000)(hs:dY ns iH=true)(h:Hm):qQ [.dat d,.dat (.tuple ns)] h=.ok (.bool (y0 ns d)) h:=by
 unfold qQ BO
 cases d with
 |tuple ds=>
  have hl:=o.items.len;have key:=fe (n:=1) (it:=aH (ab 0)) (g:=aq 0) (e:=ao mQ (ab 0) (ab 2)) (ρ:=[some (.dat (.tuple ds)),some (.dat (.tuple ns))]) (h:=h) (h1:=h) (ds:=ds) (by simp) #[1] (λx=>.bool (jc ns x)) (λx hx=>⟨_,rfl,by simp[jJ (o.items.mem hx) hs]⟩);by_cases h2:dY ds (jc ns)=true
  ·have:=mr (CC (λd m=>CD hs d ((cH hs).mp (cD.mp h2 d m)))) #[1] h;simp[key,jI,h2,this,y0]
  ·simp[key,jI,h2,y0]
 |_=>simp[y0]
theorem kj(i j:Int)(h:Hm):oEq (.int i) (.int j) h=.ok (.bool (i==j)) h:=by rfl
def aU:PyData->YD
 |.tuple ds=>ds
 |_=>[]
@[simp] theorem Sm(ds:YD)(i:Int)(h:Hm):gU (.dat (.tuple ds)) (.int i) h=match mS ds i with|some d=>.ok (.dat d) h|none=>.bad:=rfl
@[simp] theorem Sn(ds:YD)(i:Int)(h:Hm):gU (.dat (.list ds)) (.int i) h=match mS ds i with|some d=>.ok (.dat d) h|none=>.bad:=rfl
@[simp] theorem Ug(a:α)(r:List α):mS (a::r) 0=some a:=by simp[mS,yf]
theorem qo{i:Nat}{a:α}(h:xs[i]?=some a):mS xs (i:Int)=some a:=by obtain⟨hi,e⟩:=UN.mp h;simp[mS,yf,hi,e]
@[simp] theorem Uh(a b:α)(r:List α):mS (a::b::r) 1=some b:=qo rfl
def Wf(h:Hm):Prop:=∀o∈h,MO.below h.length o=true
structure Bx(i:Nat)(h:Hm):Prop where
 box:∃n:Int,h[i]?=some (.lst [.int n])
 wf:Wf h
def Bs(i:Nat)(h h':Hm):Prop:=∃n:Int,h'=h.set i (.lst [.int n])
theorem Bx.lt(b:Bx i h):i<h.length:=by obtain⟨⟨n,e⟩,_⟩:=b;exact(UN.mp e).1
theorem Bx.refl(b:Bx i h):Bs i h h:=by obtain⟨⟨n,e⟩,_⟩:=b;refine⟨n,?_⟩;obtain⟨l,e⟩:=UN.mp e;rw[<- e];exact(List.set_getElem_self l).symm
theorem Bs.trans(a:Bs i h h')(b:Bs i h' h''):Bs i h h'':=by obtain⟨n,rfl⟩:=a;obtain⟨k,rfl⟩:=b;exact⟨k,by simp⟩
theorem Wf.set(w:Wf h)(b:MO.below h.length o=true):Wf (h.set i o):=λx hx=>by
 rw[List.length_set];rcases List.mem_or_eq_of_mem_set hx with m|rfl
 ·exact w x m
 grind
theorem D.mw(h:n<=m)(b:D.below n d=true):D.below m d=true:=by cases d<;>simp_all[D.below];omega
theorem MO.mw(h:n<=m)(b:MO.below n o=true):MO.below m o=true:=by
 cases o with
 |lst xs=>simp[MO.below]at b ⊢;exact λd q=>D.mw h (b d q)
 |ia t kvs=>rfl
 |ins C fs=>simp only[MO.below,UW]at b ⊢;exact λd q=>D.mw h (b d q)
 |tab P q=>rfl
theorem Wf.push(w:Wf h)(b:MO.below (h.length+1) o=true):Wf (h++[o]):=λx hx=>by
 rw[U5,List.length_singleton];rcases UR.mp hx with m|m
 ·exact MO.mw (Wo _) (w x m)
 grind
theorem Bs.bx(s:Bs i h h')(b:Bx i h):Bx i h':=by obtain⟨n,rfl⟩:=s;exact⟨⟨n,by rw[Wr b.lt]⟩,b.wf.set rfl⟩
theorem Bs.len(s:Bs i h h'):h'.length=h.length:=by obtain⟨n,rfl⟩:=s;simp
theorem Bx.push(b:Bx i h)(q:MO.below (h.length+1) o=true):Bx i (h++[o]):=by obtain⟨n,e⟩:=b.box;exact⟨⟨n,by rw[Vc b.lt];exact e⟩,b.wf.push q⟩
def Dr{α:Type}(i:Nat)(h:Hm)(r:R α)(P:α->Prop):Prop:=∃a h',r=.ok a h'/\Bs i h h'/\P a
theorem vf(b:Bx i h)(h0:0<c)(h1:c<1073741824):Dr i h (aN [.ref i,.int c] h) λd=>∃k:Nat,d=.int k/\(k:Int)<c:=by
 obtain⟨⟨n,e⟩,_⟩:=b;have hl:=(UN.mp e).1;refine⟨.int (n % c),h.set i (.lst [.int (n / c)]),?_,⟨n / c,rfl⟩,(n % c).toNat,?_,?_⟩
 ·unfold aN ud;simp[gU,iU,Dv,e,uX,h0,h1,o4,pf,E8,yf]
 ·rw[Int.toNat_of_nonneg (Int.emod_nonneg _ #[1])]
 ·rw[Int.toNat_of_nonneg (Int.emod_nonneg _ #[1])];exact Int.emod_lt_of_pos _ h0
theorem MI(ns:List Int)(k:Nat)(h:Hm):∃z:Int,ka [.scr ns,.int k] h=.ok (.int z) h:=by
 unfold ka uc;by_cases hk:k<ns.length
 ·exact⟨ns[k],by simp[iI,FY,hk,gU,iU,Dv,qo _]⟩
 simp[iI,FY,hk]
def xu:YD:=[.int 48271,.int 69621,.int 16807,.int 39373,.int 30269,.int 40014,.int 40692,.int 50021,.int 61687,.int 71993,.int 83869,.int 95561,.int 30307]
theorem CF(i:Int)(h0:0<=i)(h1:i<13):∃n:Int,mS xu i=some (.int n)/\0<=n/\n<100000:=by
 obtain⟨k,rfl⟩:=Int.eq_ofNat_of_zero_le h0;have hk:k<13:=by omega
 have all:∀k<13,∃n:Int,xu[k]?=some (.int n)/\0<=n/\n<100000:=by
  intro k hk
  match k,hk with
  |0,_=>exact⟨_,rfl,by decide,by decide⟩
  |1,_=>exact⟨_,rfl,by decide,by decide⟩
  |2,_=>exact⟨_,rfl,by decide,by decide⟩
  |3,_=>exact⟨_,rfl,by decide,by decide⟩
  |4,_=>exact⟨_,rfl,by decide,by decide⟩
  |5,_=>exact⟨_,rfl,by decide,by decide⟩
  |6,_=>exact⟨_,rfl,by decide,by decide⟩
  |7,_=>exact⟨_,rfl,by decide,by decide⟩
  |8,_=>exact⟨_,rfl,by decide,by decide⟩
  |9,_=>exact⟨_,rfl,by decide,by decide⟩
  |10,_=>exact⟨_,rfl,by decide,by decide⟩
  |11,_=>exact⟨_,rfl,by decide,by decide⟩
  |12,_=>exact⟨_,rfl,by decide,by decide⟩
 obtain⟨n,e,h⟩:=all k hk;exact⟨n,qo e,h⟩
theorem nQ(h:Hm)(hj:0<j):oMod (.int i) (.int j) h=.ok (.int (i % j)) h:=by simp[oMod,hj]
theorem tF(h:Hm)(hj:0<j)(h2:j<1073741824):jX (.int i) (.int j) h=.ok (.int (i / j)) h:=by simp[jX,hj,h2]
theorem nR(h:Hm)(hj:vJ i j=true):iZ (.int i) (.int j) h=.ok (.int (i*j)) h:=by simp[iZ,hj]
@[simp] theorem RC(i j:Int)(h:Hm):gv (.int i) (.int j) h=.ok (.int (i+j)) h:=rfl
theorem AH(h0:-18446744073709551616<j)(h1:j<18446744073709551616):vJ i j=true:=by
 simp_all[vJ]
theorem mB(h0:-18446744073709551616<i)(h1:i<18446744073709551616):vJ i j=true:=by
 simp_all[vJ]
theorem PX(c:Int)(k:Nat)(h:Hm):∃z:Int,gH [.int c,.int k] h=.ok (.int z) h:=by
 unfold gH wq;obtain⟨n,e,n0,n1⟩:=CF ((k:Int) % 13) (Int.emod_nonneg _ (by decide)) (Int.emod_lt_of_pos _ (by decide));simp[xu]at e
 refine⟨_,by
  simp[nQ,e,nR,AH (j:=n) #[1] #[1],tF,mB (i:=977) (by decide) (by decide),mB (i:=7919) (by decide) (by decide),mB (i:=48271) (by decide) (by decide),mB (i:=((c % 2147483647+12345)*n+977 * ↑k+7919*(↑k / 13)) % 1000000007) #[1] #[1]]
  rfl⟩
theorem PY(ns:List Int)(k l:Nat)(h:Hm):∃n:Int,fK [.scr ns,.int k,.int l] h=.ok (.ref h.length) (h++[.lst [.int n]]):=by
 unfold fK wt;obtain⟨c,ec⟩:=MI ns k h;have hn:nums 0 90=(List.range 90).map λ(i:Nat)=>D.int (0+(i:Int)):=rfl
 obtain⟨ρ',h',e,z,rfl,j,rfl⟩:=gO (g:=aq 5) (b:=bP 4 (ao gv (ao iZ (ab 4) (aj (.int 142857143))) (af gH (aa (ab 3) (aa (ao gv (ao iZ (aj (.int 90)) (ab 2)) (ab 5)) ah)))))
  (λ_ ρ h'=>∃z:Int,h'=h/\∃j,ρ=[some (.scr ns),some (.int k),some (.int l),some (.int c),some (.int z),j]) (nums 0 90) 0 [some (.scr ns),some (.int k),some (.int l),some (.int c),some (.int 0),none] h (by
   rintro j x hx ρ h' ⟨z,eh,y,er⟩;subst eh;subst er;simp only[nums,Vo,Vg]at hx;obtain⟨i,_,rfl⟩:=hx;obtain⟨q,eq⟩:=PX c (90*l+i) h';refine⟨_,h',[some (.scr ns),some (.int k),some (.int l),some (.int c),some (.int (z*142857143+q)),some (.int i)],h',rfl,.inl ?_,_,rfl,_,rfl⟩;have e2:gH [.int c,.int (90*(l:Int)+i)] h'=.ok (.int q) h':=by rw[show(90:Int)*l+i=((90*l+i:Nat):Int)by omega];exact eq
   simp[nR,AH (i:=z) (j:=142857143) (by decide) (by decide),mB (i:=90) (j:=l) (by decide) (by decide),e2]) ⟨0,rfl,none,rfl⟩
 by_cases h1:c % 2=0/\(l:Int)=0
 ·exact⟨(if c<0 then -c else c) / 2,by simp[ec,nQ,kj,h1.1,h1.2,LM,tF,vI,sz]⟩
 ·refine⟨z,?_⟩;by_cases h2:c % 2=0
  ·have h3:¬ (l=0):=λq=>h1 ⟨h2,by omega⟩;simp[ec,nQ,kj,h2,h3,e,vI,sz,show(-(2^62):Int)<=90/\(90:Int)<2^62 by decide]
  ·simp[ec,nQ,kj,h2,e,vI,sz,show(-(2^62):Int)<=90/\(90:Int)<2^62 by decide]
theorem xw(h:Hm)(hz:xs.length+ys.length<=16777216):gv (.dat (.list xs)) (.dat (.list ys)) h=.ok (.dat (.list (xs++ys))) h:=by simp[gv,sz hz]
def dM(kvs:YA):YD:=kvs.map (·.1)
theorem tG:dM (dput kvs k v)=if kL k kvs then dM kvs else dM kvs++[k]:=by
 unfold dput dM;split
 ·rw[W4];congr 1
  funext p
  grind
 ·simp
theorem oF(tk:av k=true)(h:∀q∈dM kvs,av q=true):kL k kvs=true<->k∈dM kvs:=by
 simp only[kL,VF,dM,U2];constructor
 ·rintro⟨p,hp,e⟩;exact⟨p,hp,(ig (h _ (List.mem_map_of_mem hp)) tk).mp e⟩
 ·rintro⟨p,hp,rfl⟩;exact⟨p,hp,bc tk⟩
theorem Ex(tk:av k=true)(h:∀q∈dM kvs,av q=true)(nd:(dM kvs).Nodup):(dM (dput kvs k v)).Nodup:=by
 rw[tG];split
 ·exact nd
 ·rename_i hk;refine Wl.mpr ⟨nd,by simp,?_⟩;intro a ha b hb;simp at hb;subst hb;rintro rfl;exact hk ((oF tk h).mpr ha)
theorem CG(h:q∈dM (dput kvs k v)):q∈dM kvs\/q=k:=by
 grind[tG]
theorem CH(kvs:YA)(k v:PyData):(dput kvs k v).length<=kvs.length+1:=by unfold dput;split<;>simp
theorem AI:∀{ds:YD},ds.Pairwise (λa b=>ltB a b=true)->ya ds=true
 | [],_=>rfl
 | [_],_=>rfl
 |a::b::r,h=>by rw[Vq]at h;have ih:=AI h.2;exact jh.mpr ⟨h.1 b (by simp),ih⟩
theorem Hf(c:dU ds=true)(t:aB ds=true)(nd:ds.Nodup):ya (c6 ltB ds)=true:=by
 have p:=aW ltB ds;have u:=vN (jf c t);refine AI ?_;refine XC.mpr λ{a b} s=>?_;have both:=XC.mp u s;have ha:=p.mem_iff.mp (s.subset (by simp:a∈[a,b]));have hb:=p.mem_iff.mp (s.subset (by simp:b∈[a,b]));rcases qx c t ha hb both with q|q
 ·exact q
 grind
theorem JX(c:dU ds=true)(t:aB ds=true)(hx:x∈ds)(hy:y∈ds)(hz:z∈ds)(h:ltB x y=true)(k:ltB y z=true):ltB x z=true:=by
 have h1:=vM c t hx hy h;have h2:=vM c t hy hz k;rcases qx c t hx hz (Fe c t hx hy hz h1 h2)with q|q
 ·exact q
 grind
theorem JY(c:dU ds=true)(t:aB ds=true):∀{es:YD},(∀e∈es,e∈ds)->ya es=true->es.Pairwise λa b=>ltB a b=true
 | [],_,_=>.nil
 | [_],_,_=>by simp
 |a::b::r,s,h=>by
  unfold ya at h;simp at h;have h:=jh.mp h;have ih:=JY c t (λe m=>s e (UI _ m)) (by grind[ya]);refine Vq.mpr ⟨λd m=>?_,ih⟩;rcases UP.mp m with rfl|m'
  ·grind
  ·exact JX c t (s a (by simp)) (s b (by simp)) (s d (by grind)) h.1 ((Vq.mp ih).1 d m')
theorem JZ(b:Bx i h)(e:f xs h=.ok (.dat x) (h1++t))(s:Bs i h h1):kK f xs h=.ok (.dat x) h1:=by
 have hl:=s.len;have w:=(s.bx b).wf;have e2  := UW.mpr λo m=>hl▸w o m
 simp_all[kK,D.below]
namespace Nm
variable {c:Nat} {ns:YD}
end Nm
theorem nS(h:iH d=true):aC d=true:=by cases d<;>simp_all[iH,aC]
theorem cN(h:iH d=true):av d=true:=by cases d<;>simp_all[iH,av]
theorem cK:∀{ds:YD},dY ds iH=true->aB ds=true
 | [],_=>by rfl
 |d::ds,h=>by have h:=jh.mp h;simp[aB,cN,h,cK]
theorem qf(h:dY ds iH=true):PyData.depthAll ds=0:=by
 have:=eT (m:=0) λd q=>by obtain⟨x,rfl⟩:=bZ (cD.mp h d q);simp[PyData.depth]
 omega
theorem za(h:∀a∈ds,∀b∈ds,cm a b=true):dU ds=true:=UW.mpr λa ha=>UW.mpr λb hb=>Et (h a ha b hb)
end Ml
namespace Ml
open PySem
theorem zb:∀{zs ys:List D},PySem.Paired (λx y=>y=x) zs ys->ys=zs
 |_,_,.nil=>rfl
 |_,_,.cons rfl r=>by rw[zb r]
theorem MJ(s:zs.Sublist (ns.map D.dat)):∃ls:YD,zs=ls.map D.dat/\ls.Sublist ns:=by
 grind
theorem AJ(e:a ρ h=.ok (.nx ρ1) h1):aS a b ρ h=b ρ1 h1:=by simp_all
theorem aQ(ha:a ρ h=.ok x h1)(hb:b ρ h1=.ok y h2)(e:f x y h2=r):ao f a b ρ h=r:=by
 simp_all
theorem cy(he:e ρ h=.ok x h1)(ha:a ρ h1=.ok xs h2):aa e a ρ h=.ok (x::xs) h2:=by
 simp_all
theorem nU(ha:a ρ h=.ok xs h1):af f a ρ h=f xs h1:=by simp_all
theorem MK(he:e ρ h=.ok x h1):bP i e ρ h=.ok (.nx (ρ.set i (some x))) h1:=by simp_all
section
variable {t u:MT} {a b:MS} {m:ME} {ρ:Fm} {h h1 h2:Hm} {x:D} {c d:Bool}
theorem bN(e:m ρ h=.ok (.bool c) h1):aI m ρ h=.ok c h1:=by simp_all
theorem Hg(e:m ρ h=.ok x h1)(k:Ml.truth x h1=some c):aR m ρ h=.ok c h1:=by simp only[aR,e,R.aP,k]
theorem AK(e:t ρ h=.ok c h1):eI t ρ h=.ok (!c) h1:=by simp_all
theorem RD(e:t ρ h=.ok true h1):jq t a b ρ h=a ρ h1:=by simp_all
theorem RE(e:t ρ h=.ok false h1):jq t a b ρ h=b ρ h1:=by simp_all
theorem dE(e:it ρ h=.ok xs h1)(k:dz g a xs ρ h1=r):ie it g a ρ h=r:=by simp_all
theorem mC(e:m ρ h=.ok (.dat (.list ds)) h1):aH m ρ h=.ok (ds.map D.dat) h1:=by simp_all
theorem AL(e:m ρ h=.ok (.dat (.tuple ds)) h1):aH m ρ h=.ok (ds.map D.dat) h1:=by simp_all
theorem ML(e:m ρ h=.ok x h1):bw m ρ h=.ok (.rt x) h1:=by simp_all
end
theorem zc(e:a ρ h=.ok [.dat (.int j)] h1)(q:(-(2^62):Int)<=j/\j<2^62):ic a ρ h=.ok (nums 0 j.toNat) h1:=by
 simp_all
theorem nV(e:a ρ h=.ok [.dat (.int (n:Int))] h1)(hn:n<1000000):ic a ρ h=.ok (nums 0 n) h1:=by
 have:=zc e #[1]
 rwa [V7]at this
abbrev tH(d:PyData):Prop:=isName d=true
abbrev F5(p:PyData):Prop:=∃a b,tH a/\tH b/\p=.tuple [a,b]
theorem bO(h:tH x):iH x=true:=by
 cases x with
 |str y=>rfl
 |_=>assumption
theorem J0(h:tH x):Ok 6 0 x:=by
 obtain⟨y,rfl⟩:=bZ (bO h);simp only[tH,isName,UH,Vi]at h;refine⟨?_,by simp[PyData.depth],h.1.2⟩;simp only[AE,PyData.strOk];rw[Array.all_eq_true_iff_forall_mem];intro x hx;have:=UW.mp h.2 x (by grind)
 grind[az]
theorem hV(h:F5 p):aC p=true/\av p=true/\gE p=true/\fU p=true/\p.depth<=1/\Ok 14 1 p:=by obtain⟨a,b,ha,hb,rfl⟩:=h;have oa:=J0 ha;have ob:=J0 hb;have ok:Ok 14 1 _:=((kG.cons oa (kG.one ob)).mono #[1] (UJ _)).tup;exact⟨by simp[aC,bA,nS (bO ha),nS (bO hb)],by simp[av,aB,cN (bO ha),cN (bO hb)],rfl,rfl,ok.d,ok⟩
structure CW(U:PyData->Prop):Prop where
 c:∀a b,U a->U b->cm a b=true
 st:∀d,U d->aC d=true
 key:(∀d,U d->gE d=true)\/(∀d,U d->mY d=true)
 typ:(∀d,U d->vL d=true)\/(∀d,U d->fU d=true)
 dep:∀d,U d->d.depth<=1
theorem J1:CW tH:=⟨λa b ha hb=>by
  obtain⟨x,rfl⟩:=bZ (bO ha);obtain⟨y,rfl⟩:=bZ (bO hb)
  rfl,λd m=>nS (bO m),.inr λd m=>by obtain⟨x,rfl⟩:=bZ (bO m);rfl,.inl λd m=>by obtain⟨x,rfl⟩:=bZ (bO m);rfl,λd m=>by obtain⟨x,rfl⟩:=bZ (bO m);simp[PyData.depth]⟩
theorem eG:CW F5:=⟨λp q hp hq=>by
  obtain⟨a,b,ha,hb,rfl⟩:=hp;obtain⟨c,d,hc,hd,rfl⟩:=hq
  exact rM (by simp[dY,bO ha,bO hb]) (by simp[dY,bO hc,bO hd]),λd m=>(hV m).1,.inl λd m=>(hV m).2.2.1,.inr λd m=>(hV m).2.2.2.1,λd m=>(hV m).2.2.2.2.1⟩
section
variable {U:PyData->Prop} {xs ys:YD}
theorem CW.t(u:CW U)(h:U d):av d=true:=aX (u.st d h)
theorem CW.Di(u:CW U)(h:∀d∈xs,U d):aB xs=true:=jZ λd m=>u.t (h d m)
theorem CW.cmp(u:CW U)(h:∀d∈xs,U d):dU xs=true:=za λa ha b hb=>u.c a b (h a ha) (h b hb)
structure Rw(U:PyData->Prop)(xs:YD):Prop where
 sub:∀d∈xs,U d
 ris:xs.Pairwise λa b=>ltB a b=true
theorem J9(t:av a=true)(h:ltB a b=true):a≠b:=λe=>by
 have:=Fc t
 simp_all[ltB]
theorem gu(u:CW U)(r:Rw U xs):xs.Nodup:=WR (λ{a b} ha hb l=>J9 (u.t (r.sub a ha)) l) r.ris
theorem NC(u:CW U)(r:Rw U xs):Up ltB xs:=WR (λ{a b} ha hb l=>vM (u.cmp r.sub) (u.Di r.sub) ha hb l) r.ris
theorem AM(r:Rw U xs):ya xs=true:=AI r.ris
theorem ND(u:CW U)(r:Rw U xs)(q:Rw U ys)(h:∀d,d∈xs<->d∈ys):xs=ys:=
 sF (jf (u.cmp r.sub) (u.Di r.sub)) ((Xg (gu u r) (gu u q)).mpr h) (NC u r) (NC u q)
theorem vg(u:CW U)(h:∀d∈xs,U d)(nd:xs.Nodup):Rw U (c6 ltB xs):=
 ⟨λd m=>h d ((aW _ _).mem_iff.mp m),JY (u.cmp h) (u.Di h) (λd m=>(aW _ _).mem_iff.mp m) (Hf (u.cmp h) (u.Di h) nd)⟩
theorem o3:∀{ds:YD},(∀d∈ds,aC d=true)->bA ds=true
 | [],_=>by rfl
 |d::ds,h=>by simp[bA,h d _,o3 (ds:=ds) λe m=>h e (by simp[m])]
theorem CW.set(u:CW U)(h:∀d∈xs,U d)(l:xs.length<=120):setOk xs=true:=by
 have h1:(xs.all gE || xs.all mY)=true:=by
  rcases u.key with k|k
  ·simp_all
  simp_all
 have h2  := o3 λd m=>u.st d (h d m);have h3:PyData.depthAll xs<=8:=UO (eT λd m=>u.dep d (h d m)) (by decide)
 simp_all[setOk]
theorem CW.TJ(u:CW U)(h:∀d∈xs,U d)(l:xs.length<64):eO xs=true:=by
 have h1:(xs.all vL || xs.all fU)=true:=by
  rcases u.typ with k|k
  ·simp_all
  simp_all
 have h3:PyData.depthAll xs<=20:=UO (eT λd m=>u.dep d (h d m)) (by decide)
 simp_all[eO,u.Di,u.cmp]
end
structure Nr(ns:YD):Prop extends Rw tH ns where
 le:ns.length<=12
structure Wb(k:Nat)(ns ss:YD):Prop where
 nr:Nr ns
 sr:Rw F5 ss
 cl:∀a b,.tuple [a,b]∈ss->a∈ns/\b∈ns
 le:ss.length<=k
section
variable {k:Nat} {ns ss:YD}
theorem Wb.sd(w:Wb k ns ss):dY ns iH=true:=cD.mpr λd m=>bO (w.nr.sub d m)
theorem Wb.AY(w:Wb k ns ss)(h:a∈ns):Ok 6 0 a:=J0 (w.nr.sub a h)
theorem Wb.S5(w:Wb k ns ss):Ok 84 1 (.tuple ns):=by have:=w.nr.le;exact((kG.of λd m=>w.AY m).mono #[1] (UJ _)).tup
theorem Wb.TK(w:Wb k ns ss)(hk:k<=600):kG 9000 1 ss:=by have:=w.le;exact(kG.of λd m=>(hV (w.sr.sub d m)).2.2.2.2.2).mono #[1] (UJ _)
theorem Wb.names(w:Wb k ns ss):jK (.tuple ns)=true:=by have h1  := cD.mpr λd m=>w.nr.sub d m;simp[jK,w.nr.le,AM w.nr.toRw,h1]
theorem Wb.get(w:Wb k ns ss){p:PyData}(h:p∈ss):∃a b,p=.tuple [a,b]/\a∈ns/\b∈ns:=by obtain⟨a,b,_,_,rfl⟩:=w.sr.sub p h;exact⟨a,b,rfl,w.cl a b h⟩
theorem RF(h:Hm):uW (D.int 2) (D.dat (.int 2)) h=.ok (.bool false) h:=by rfl
theorem Hh(w:Wb k ns ss)(ha:a∈ns)(hb:b∈ns)(h:Hm):ij [.dat (.tuple [a,b]),.dat (.tuple ns)] h=.ok (.bool true) h:=by unfold ij tW;simp[RF,jJ (w.AY ha) w.sd,jJ (w.AY hb) w.sd,(cH w.sd).mpr ha,(cH w.sd).mpr hb]
theorem xy(w:Wb k ns ss)(hk:k<=600)(h:Hm):fu [.dat (.tuple ss),.dat (.tuple ns)] h=.ok (.bool true) h:=by
 unfold fu oS;have hl:=w.le
 have key:=fe (n:=1) (it:=aH (ab 0)) (g:=aq 0) (e:=af ij (aa (ab 0) (aa (ab 2) ah))) (ρ:=[some (.dat (.tuple ss)),some (.dat (.tuple ns))]) (h:=h) (h1:=h) (ds:=ss) (by simp) #[1] (λx=>.bool ((λ_=>true) x)) (λx hx=>⟨_,rfl,by
  obtain⟨a,b,rfl,ha,hb⟩:=w.get hx
  simp[Hh w ha hb]⟩)
 have al:dY ss (λ_=>true)=true:=cD.mpr λ_ _=>rfl;have cp:Qq ss:=Qq.of (w.TK hk) (by decide) λd hd e he=>by obtain⟨a,b,rfl,ha,hb⟩:=w.get hd;obtain⟨a',b',rfl,ha',hb'⟩:=w.get he;have:=cD.mp w.sd;simp only[cm];exact rM (by simp[dY,this a ha,this b hb]) (by simp[dY,this a' ha',this b' hb'])
 have ir:=mr cp #[1] h;rw[AM w.sr]at ir;have bm:=jI ss (λ_=>true) h
 simp_all
theorem PZ(w:Wb k ns ss)(hk:k<=600)(h:Hm):qP [.dat (.tuple [.tuple ns,.tuple ss])] h=.ok (.bool true) h:=by have e1:=AG w.S5 (by decide) h;rw[w.names]at e1;unfold qP BN;simp[RF,e1,xy w hk h]
theorem Ey(w:Wb k ns ss)(hk:k<=600)(h:Hm):fO [.dat (.tuple [.tuple ns,.tuple ss])] h=.ok D.none h:=by unfold fO tX;simp[PZ w hk h]
end
section
variable {k1 k2:Nat} {n1 s1 n2 s2:YD}
theorem ne_self(t:av d=true)(l:d.depth<=40)(h:Hm):uW (.dat d) (.dat d) h=.ok (.bool false) h:=by simp[uW,eqQ,noDict,cu t,l,bc t]
end
def jS:PyData->PyData
 |.tuple [a,_]=>a
 |_=>.none
def mD:PyData->PyData
 |.tuple [_,b]=>b
 |_=>.none
theorem P0(tx:av x=true)(ta:av a=true)(tb:av b=true)(h:ltB a b=true):ltB (.tuple [x,a]) (.tuple [x,b])=true:=by
 have n:=bq ta tb (J9 ta h)
 simp_all[ltB,cg,dw,bc]
theorem MM(ta:av a=true)(tb:av b=true)(h:ltB a b=true):ltB (.tuple [a,x]) (.tuple [b,y])=true:=by
 have n:=bq ta tb (J9 ta h)
 simp_all[ltB,cg,dw]
section
variable {a b:MS} {t:MT} {m m2:ME} {ρ ρ1:Fm} {h h1 h2:Hm} {r:R Fl} {x y:D} {i:Nat} {g:MG} {it:MA} {f:Fn} {ma:MA} {xs:List D}
theorem aK(e:a ρ h=.ok (.nx ρ1) h1)(k:b ρ1 h1=r):aS a b ρ h=r:=(AJ e).trans k
theorem AN(e:a ρ h=.ok (.rt x) h1):aS a b ρ h=.ok (.rt x) h1:=by simp_all
theorem cb(e:m ρ h=.ok x h1):bP i m ρ h=.ok (.nx (ρ.set i (some x))) h1:=MK e
theorem je(e:m ρ h=.ok x h1):iT m ρ h=.ok (.nx ρ) h1:=by simp_all
theorem qg(e:m ρ h=.ok x h1)(k:g x ρ h1=.ok ρ1 h2):oH g m ρ h=.ok (.nx ρ1) h2:=by simp_all
theorem cI(e:m ρ h=.ok x h1):bw m ρ h=.ok (.rt x) h1:=ML e
theorem Ez(e:t ρ h=.ok true h1)(k:a ρ h1=r):jq t a b ρ h=r:=(RD e).trans k
theorem tI(e:t ρ h=.ok false h1)(k:b ρ h1=r):jq t a b ρ h=r:=(RE e).trans k
theorem ff(l:xs.length=p)(e:b (xs.map some++List.replicate (n-p) none) h=.ok (.rt x) h1):aY p n b xs h=.ok x h1:=by
 simp_all
theorem aF(ha:ma ρ h=.ok xs h1)(k:f xs h1=.ok d h2):af f ma ρ h=.ok d h2:=(nU ha).trans k
theorem mE{a b:PyData}(e1:m ρ h=.ok (.dat a) h1)(e2:m2 ρ h1=.ok (.dat b) h2):eV (aa m (aa m2 ah)) ρ h=.ok (.dat (.tuple [a,b])) h2:=(nU (cy e1 (cy e2 rfl))).trans (PR _ _ _)
theorem Ka(e:t ρ h=.ok true h1):xE t u ρ h=.ok true h1:=by simp_all
theorem EA(e:t ρ h=.ok false h1)(k:u ρ h1=.ok c h2):xE t u ρ h=.ok c h2:=by simp_all
theorem P1(e:t ρ h=.ok c h1)(k:u ρ h1=.ok d h1):xE t u ρ h=.ok (c || d) h1:=by cases c<;>simp[e,k]
theorem F6(e:t ρ h=.ok c h1)(k:u ρ h1=.ok d h1):vm t u ρ h=.ok (c&&d) h1:=by cases c<;>simp[e,k]
theorem eU(e:m ρ h=.ok (.bool c) h1):aR m ρ h=.ok c h1:=Hg e rfl
end
def xA(ss lot:YD)(x:PyData):Bool:=ss.any λp=>jc lot (jS p)&&PyData.eqv (mD p) x
def uz(ss lot:YD)(x:PyData):Bool:=ss.any λp=>!xA ss lot (jS p)&&PyData.eqv (mD p) x
def EB(ns ss lot:YD):YD:=ns.filter λx=>!uz ss lot x
theorem mF{ρ:Fm}{f:PyData->Bool}:∀{ps:YD} {acc:YA},(∀p∈ps,∃a b,p=.tuple [a,b]/\tH a/\tH b/\c (some (.dat a)::some (.dat b)::ρ) h=.ok (f p) h)->(∀q∈dM acc,tH q)->acc.length+ps.length<1000 ->
  ∃kvs,fZ false 2 ρ (jO (bS (aq 0) (bS (aq 1) jN))) c (ab 1) (aj (.bool true)) (ps.map D.dat) acc h=.ok kvs h/\(∀q∈dM kvs,tH q)/\∀x,x∈dM kvs<->x∈dM acc\/∃p∈ps,f p=true/\mD p=x
 | [],acc,_,ha,_=>⟨acc,rfl,ha,by simp⟩
 |p::ps,acc,H,ha,hl=>by
  simp only[Vf]at hl;obtain⟨a,b,rfl,na,nb,e⟩:=H p (.head _);have H2:=λq m=>H q (UI _ m)
  cases hf:f (.tuple [a,b])with
  |false=>
   rw[hf]at e;obtain⟨kvs,e1,e2,e3⟩:=mF (ps:=ps) (acc:=acc) H2 ha #[1];refine⟨kvs,?_,e2,λx=>(e3 x).trans (or_congr_right ?_)⟩
   ·simp only[Va];unfold fZ;simp[e,e1]
   ·constructor
    ·rintro⟨q,m,r⟩;exact⟨q,UI _ m,r⟩
    ·rintro⟨q,m,r1,r2⟩;rcases UP.mp m with rfl|m
     ·rw[hf]at r1;cases r1
     ·exact⟨q,m,r1,r2⟩
  |true=>
   rw[hf]at e;have tb:=cN (bO nb);have ta:∀q∈dM acc,av q=true:=λq m=>cN (bO (ha q m))
   have ha2:∀q∈dM (dput acc b (.bool true)),tH q:=λq m=>by
    rcases CG m with m|rfl
    ·exact ha q m
    ·exact nb
   have hk:keyOk false b=true:=by obtain⟨y,rfl⟩:=bZ (bO nb);rfl
   obtain⟨kvs,e1,e2,e3⟩:=mF (ps:=ps) (acc:=dput acc b (.bool true)) H2 ha2 (by have:=CH acc b (.bool true);omega);refine⟨kvs,?_,e2,λx=>(e3 x).trans ?_⟩
   ·simp only[Va];unfold fZ;simp[e,hk,oO,show acc.length<16777216 by omega,e1]
   ·have k1:x∈dM (dput acc b (.bool true))<->x∈dM acc\/b=x:=by
     rw[tG];split
     ·rename_i z;have:=(oF tb ta).mp z;constructor
      ·exact .inl
      ·rintro(m|rfl)
       ·exact m
       ·exact this
     ·simp[eq_comm]
    rw[k1];constructor
    ·rintro((m|rfl)|⟨q,m,r⟩)
     ·exact .inl m
     ·exact .inr ⟨_,.head _,hf,rfl⟩
     ·exact .inr ⟨q,UI _ m,r⟩
    ·rintro(m|⟨q,m,r1,r2⟩)
     ·exact .inl (.inl m)
     ·rcases UP.mp m with rfl|m
      ·exact .inl (.inr r2)
      ·exact .inr ⟨q,m,r1,r2⟩
theorem EC(hx:tH x)(h:Hm):mQ (.dat x) (.ia false kvs) h=.ok (.bool (kL x kvs)) h/\gF (.dat x) (.ia false kvs) h=.ok (.bool (!kL x kvs)) h:=by
 have hk:keyOk false x=true:=by obtain⟨y,rfl⟩:=bZ (bO hx);rfl
 simp[mQ,gF,findIn,iU,zH,hk]
theorem iS(ha:tH a)(hb:tH b):PyData.eqv a b=true<->a=b:=ig (cN (bO ha)) (cN (bO hb))
section
variable {ns ss lot:YD} {h:Hm}
abbrev WD(ns ss:YD):PyData:=.tuple [.tuple ns,.tuple ss]
theorem cJ(w:Wb 25 ns ss)(hl:lot.Sublist ns):dY lot iH=true:=cD.mpr λd m=>cD.mp w.sd d (hl.subset m)
theorem Kb(w:Wb 25 ns ss)(hl:lot.Sublist ns)(h:Hm):∃kvs,nc [.dat (WD ns ss),.dat (.tuple lot)] h=.ok (.ia false kvs) h/\∀x,tH x->kL x kvs=xA ss lot x:=by
 obtain⟨kvs,e1,e2,e3⟩:=mF (ρ:=[some (.dat (WD ns ss)),some (.dat (.tuple lot))]) (c:=aI (ao mQ (ab 0) (ab 3))) (h:=h) (f:=λp=>jc lot (jS p)) (ps:=ss) (acc:=[]) (λp m=>by
  obtain⟨a,b,rfl,ha,hb⟩:=w.get m
  exact⟨a,b,rfl,w.nr.sub a ha,w.nr.sub b hb,by simp[jJ (w.AY ha) (cJ w hl),jS]⟩) (by simp[dM]) (by have:=w.le;simp;omega)
 refine⟨kvs,?_,λx hx=>?_⟩
 ·unfold nc BV;simp[sL,e1]
 ·rw[V0,oF (cN (bO hx)) (λq m=>cN (bO (e2 q m))),e3];unfold xA;rw[VF];constructor
  ·rintro(m|⟨p,m,r1,r2⟩)
   ·simp[dM]at m
   ·refine⟨p,m,?_⟩;subst r2;obtain⟨a,b,rfl,ha,hb⟩:=w.get m;simp[r1,mD,(iS (w.nr.sub b hb) (w.nr.sub b hb)).mpr rfl]
  ·rintro⟨p,m,r⟩;simp only[UH]at r;obtain⟨a,b,rfl,ha,hb⟩:=w.get m;exact .inr ⟨_,m,r.1,(iS (w.nr.sub b hb) hx).mp r.2⟩
theorem Kc(w:Wb 25 ns ss)(hl:lot.Sublist ns)(h:Hm):fI [.dat (WD ns ss),.dat (.tuple lot)] h=.ok (.dat (.tuple (EB ns ss lot))) h:=by
 obtain⟨kv,e1,e2⟩:=Kb w hl h;have hc:EB ns ss lot=(ns.filter λx=>!uz ss lot x).map id:=by simp[EB]
 obtain⟨kw,f1,f2,f3⟩:=mF (ρ:=[some (.dat (WD ns ss)),some (.dat (.tuple lot)),some (.dat (.tuple ns)),some (.dat (.tuple ss)),some (.ia false kv),none]) (c:=aI (ao gF (ab 0) (ab 6))) (h:=h) (f:=λp=>!xA ss lot (jS p)) (ps:=ss) (acc:=[]) (λp m=>by
  obtain⟨a,b,rfl,ha,hb⟩:=w.get m
  exact⟨a,b,rfl,w.nr.sub a ha,w.nr.sub b hb,by simp[(EC (w.nr.sub a ha) h).2,e2 a (w.nr.sub a ha),jS]⟩) (by simp[dM]) (by have:=w.le;simp;omega)
 have kb:∀x,tH x->kL x kw=uz ss lot x:=λx hx=>by
  rw[V0,oF (cN (bO hx)) (λq m=>cN (bO (f2 q m))),f3];unfold uz;rw[VF];constructor
  ·rintro(m|⟨p,m,r1,r2⟩)
   ·simp[dM]at m
   ·refine⟨p,m,?_⟩;subst r2;obtain⟨a,b,rfl,ha,hb⟩:=w.get m;rw[UH];exact⟨r1,(iS (w.nr.sub b hb) (w.nr.sub b hb)).mpr rfl⟩
  ·rintro⟨p,m,r⟩;simp only[UH]at r;obtain⟨a,b,rfl,ha,hb⟩:=w.get m;exact .inr ⟨_,m,r.1,(iS (w.nr.sub b hb) hx).mp r.2⟩
 have key:=fS (n:=1) (it:=aH (ab 2)) (g:=aq 0) (t:=aI (ao gF (ab 0) (ab 6))) (e:=ab 0) (ρ:=[some (.dat (WD ns ss)),some (.dat (.tuple lot)),some (.dat (.tuple ns)),some (.dat (.tuple ss)),some (.ia false kv),some (.ia false kw)]) (h:=h) (h1:=h) (ds:=ns) (by simp) (by have:=w.nr.le;omega) (λx=>!uz ss lot x) id (λx hx=>⟨_,rfl,by simp[(EC (w.nr.sub x hx) h).2,kb x (w.nr.sub x hx)],λ_=>rfl⟩);rw[<- hc]at key;unfold fI wk;refine ff rfl (aK (qg rfl rfl) (aK (cb (aF rfl e1)) (aK (cb (x:=.ia false kw) ?_) (cI (aF (cy key rfl) rfl)))));simp[sL,f1]
theorem oG:(EB ns ss lot).Sublist ns:=Wq
end
def vh(ns:YD)(d:PyData):Prop:=∃xs,d=.tuple xs/\xs.Sublist ns
section
variable {ns ss lot:YD} {h:Hm}
theorem Ke(o:Ok n m d)(hs:dY ns iH=true)(hm:Hm):gF (.dat d) (.dat (.list ns)) hm=.ok (.bool (!jc ns d)) hm:=by simp[gF,findIn,iU,jY,xt o hs]
theorem MN(o:Ok n m d)(hs:dY ns iH=true)(hm:Hm):mQ (.dat d) (.dat (.list ns)) hm=.ok (.bool (jc ns d)) hm:=by simp[mQ,findIn,iU,jY,xt o hs]
theorem NF(ha:tH a)(hb:tH b)(h:Hm):oEq (.dat a) (.dat b) h=.ok (.bool (PyData.eqv a b)) h:=by obtain⟨x,rfl⟩:=bZ (bO ha);obtain⟨y,rfl⟩:=bZ (bO hb);rfl
def iX(ss:YD)(x:PyData):YD:=(ss.filter λp=>PyData.eqv (mD p) x).map jS++(ss.filter λp=>PyData.eqv (jS p) x).map mD
theorem F7(w:Wb 25 ns ss)(hx:x∈ns)(h:Hm):sM [.dat (WD ns ss),.dat x] h=.ok (.dat (.list (iX ss x))) h/\∀f∈iX ss x,tH f:=by
 have hl:=w.le
 have k1:=fS (n:=2) (it:=aH (ao gU (ab 0) (aj (.int 1)))) (g:=jO (bS (aq 0) (bS (aq 1) jN))) (t:=aI (ao oEq (ab 1) (ab 3))) (e:=ab 0) (ρ:=[some (.dat (WD ns ss)),some (.dat x),none,none]) (h:=h) (h1:=h) (ds:=ss) (by simp) #[1] (λs=>PyData.eqv (mD s) x) jS (λs hs=>by
  obtain⟨a,b,rfl,ha,hb⟩:=w.get hs
  exact⟨_,rfl,by simp[NF (w.nr.sub b hb) (w.nr.sub x hx),mD],λ_=>by rfl⟩)
 have k2:=fS (n:=2) (it:=aH (ao gU (ab 0) (aj (.int 1)))) (g:=jO (bS (aq 0) (bS (aq 1) jN))) (t:=aI (ao oEq (ab 0) (ab 3))) (e:=ab 1) (ρ:=[some (.dat (WD ns ss)),some (.dat x),some (.dat (.list ((ss.filter λp=>PyData.eqv (mD p) x).map jS))),none]) (h:=h) (h1:=h) (ds:=ss) (by simp) #[1] (λs=>PyData.eqv (jS s) x) mD (λs hs=>by
  obtain⟨a,b,rfl,ha,hb⟩:=w.get hs
  exact⟨_,rfl,by simp[NF (w.nr.sub a ha) (w.nr.sub x hx),jS],λ_=>by rfl⟩)
 refine⟨?_,λf m=>?_⟩
 ·unfold sM Jl;refine ff rfl (aK (cb k1) (aK (cb k2) (cI (aQ rfl rfl (xw h ?_)))))
  grind
 ·unfold iX at m;rcases UR.mp m with m|m
  ·obtain⟨p,hp,rfl⟩:=U2.mp m;obtain⟨a,b,rfl,ha,hb⟩:=w.get (U0.mp hp).1;exact w.nr.sub a ha
  ·obtain⟨p,hp,rfl⟩:=U2.mp m;obtain⟨a,b,rfl,ha,hb⟩:=w.get (U0.mp hp).1;exact w.nr.sub b hb
def Pe(ss xs:YD):Prop:=∀a∈xs,∀b∈xs,PyData.tuple [a,b]∉ss
theorem rO(w:Wb 25 ns ss)(hx:x∈ns)(hy:y∈ns):jc (iX ss x) y=true<->PyData.tuple [y,x]∈ss\/PyData.tuple [x,y]∈ss:=by
 have fsd  := cD.mpr λd m=>bO ((F7 w hx []).2 d m);rw[cH fsd];unfold iX;rw[UR,U2,U2];constructor
 ·rintro(⟨p,hp,e⟩|⟨p,hp,e⟩)
  ·obtain⟨m,q⟩:=U0.mp hp;obtain⟨a,b,rfl,ha,hb⟩:=w.get m;have:=(iS (w.nr.sub b hb) (w.nr.sub x hx)).mp q
   grind[jS]
  ·obtain⟨m,q⟩:=U0.mp hp;obtain⟨a,b,rfl,ha,hb⟩:=w.get m;have:=(iS (w.nr.sub a ha) (w.nr.sub x hx)).mp q
   grind[mD]
 ·rintro(m|m)
  ·exact .inl ⟨_,U0.mpr ⟨m,(iS (w.nr.sub x hx) (w.nr.sub x hx)).mpr rfl⟩,rfl⟩
  ·exact .inr ⟨_,U0.mpr ⟨m,(iS (w.nr.sub x hx) (w.nr.sub x hx)).mpr rfl⟩,rfl⟩
theorem Kf(w:Wb 25 ns ss)(hf:∀d∈fs,vh ns d)(hl:fs.length<64):eO fs=true:=by
 have st:∀d∈fs,∃xs,d=.tuple xs/\dY xs iH=true:=λd m=>by obtain⟨xs,rfl,s⟩:=hf d m;exact⟨xs,rfl,cJ w s⟩
 have h1:fs.all fU=true:=UW.mpr λd m=>by obtain⟨xs,rfl,_⟩:=st d m;rfl
 have h2  := jZ λd m=>by obtain⟨xs,rfl,s⟩:=st d m;simp[av,cK s]
 have h3  := za λa ha b hb=>by obtain⟨xs,rfl,s⟩:=st a ha;obtain⟨ys,rfl,t⟩:=st b hb;simpa [cm]using rM s t
 have h4:PyData.depthAll fs<=20:=UO (eT (m:=1) λd m=>by
  obtain⟨xs,rfl,s⟩:=st d m
  simp[PyData.depth,qf s]) (by decide)
 simp_all[eO]
theorem Kg(w:Wb 25 ns ss)(hf:∀d∈fs,vh ns d)(hl:fs.length<64)(h:Hm):et [.dat (.list fs)] h=.ok (.dat (.list (c6 ltB fs))) h/\(∀d∈c6 ltB fs,vh ns d)/\(c6 ltB fs).length<64:=
 ⟨by simp[et,listOf,Kf w hf hl],λd m=>hf d ((aW _ _).mem_iff.mp m),by rw[(aW _ _).length_eq];exact hl⟩
abbrev Ui:MS:=(aS (bP 3 (af sM (aa (ab 0) (aa (ab 2) ah))))
  (jq (aI (ao gF (ab 2) (ab 3))) (bP 1 (ao gv (ab 1) (bR 1 (aH (ab 1)) (aq 0) (eI (aR (af xO (aa (bR 1 (aH (ab 0)) (aq 0) cM (ao mQ (ab 0) (ab 5))) ah)))) (eV (fq (ab 0) (aa (ab 3) ah)))))) bM))
theorem P2(w:Wb 25 ns ss)(e:ns=pre++x::xs)(hf:∀d∈fs,vh pre d)(hl:fs.length<=2^pre.length)(hp:pre.length<=4)(h:Hm) :
  ∃fs' z3,Ui [some (.dat (WD ns ss)),some (.dat (.list fs)),some (.dat x),y3] h=.ok (.nx [some (.dat (WD ns ss)),some (.dat (.list fs')),some (.dat x),z3]) h/\(∀d∈fs',vh (pre++[x]) d)/\fs'.length<=2^(pre.length+1)/\((∀d∈fs,Pe ss (aU d))->∀d∈fs',Pe ss (aU d))/\((∀ys,ys.Sublist pre->Pe ss ys->.tuple ys∈fs)->∀ys,ys.Sublist (pre++[x])->Pe ss ys->.tuple ys∈fs'):=by
 have hx:x∈ns:=by grind
 have sp:pre.Sublist ns:=by grind
 obtain⟨f1,f2⟩:=F7 w hx h;have fsd:dY (iX ss x) iH=true:=cD.mpr λd m=>bO (f2 d m);have l2:(2:Nat)^pre.length<=16:=UO (Wj (by decide) hp) (by decide);have lift:∀d,vh pre d->vh (pre++[x]) d:=λd ⟨ys,e1,s⟩=>⟨ys,e1,s.trans (List.sublist_append_left ..)⟩;have c1:aI (ao gF (ab 2) (ab 3)) [some (.dat (WD ns ss)),some (.dat (.list fs)),some (.dat x),some (.dat (.list (iX ss x)))] h=.ok (!jc (iX ss x) x) h:=bN (aQ rfl rfl (Ke (w.AY hx) fsd h));have st:bP 3 (af sM (aa (ab 0) (aa (ab 2) ah))) [some (.dat (WD ns ss)),some (.dat (.list fs)),some (.dat x),y3] h=.ok (.nx [some (.dat (WD ns ss)),some (.dat (.list fs)),some (.dat x),some (.dat (.list (iX ss x)))]) h:=cb (aF rfl f1)
 cases hc:(!jc (iX ss x) x)with
 |false=>
  rw[hc]at c1;refine⟨fs,_,aK st (tI c1 rfl),λd m=>lift d (hf d m),UO hl (Wj (by decide) #[1]),λq=>q,λq ys sy py=>?_⟩;have sx:PyData.tuple [x,x]∈ss:=by have:=(rO w hx hx).mp (by simpa using hc);simpa using this
  obtain⟨us,vs,rfl,su,sv⟩:=XB.mp sy
  cases sv with
  |cons _ s0=>cases s0;rw[V1]at py ⊢;exact q us su py
  |cons_cons _ s0=>exact absurd sx (py x (by simp) x (by simp))
 |true=>
  rw[hc]at c1
  have key:=fS (n:=1) (it:=aH (ab 1)) (g:=aq 0) (t:=eI (aR (af xO (aa (bR 1 (aH (ab 0)) (aq 0) cM (ao mQ (ab 0) (ab 5))) ah)))) (e:=eV (fq (ab 0) (aa (ab 3) ah))) (ρ:=[some (.dat (WD ns ss)),some (.dat (.list fs)),some (.dat x),some (.dat (.list (iX ss x)))]) (h:=h) (h1:=h) (ds:=fs) (by simp) #[1] (λd=>!(aU d).any (jc (iX ss x))) (λd=>.tuple (aU d++[x])) (λd m=>by
   obtain⟨ys,rfl,sy⟩:=hf d m;have sn:=sy.trans sp;have ly:=sn.length_le;have lw:=w.nr.le;refine⟨_,rfl,AK (eU (yX (n:=1) (ds:=ys) (by simp) #[1] (jc (iX ss x)) λy hy=>⟨_,rfl,by simp[MN (w.AY (sn.subset hy)) fsd]⟩)),λ_=>?_⟩;have mk:=tD (ys++[x]) h (by simp;omega);rw[List.map_append]at mk;unfold eV;refine(nU (xs:=ys.map D.dat++[.dat x]) (h1:=h) ?_).trans mk
   simp[fq,gx])
  refine⟨fs++(fs.filter λd=>!(aU d).any (jc (iX ss x))).map λd=>.tuple (aU d++[x]),_,aK st (Ez c1 (cb (aQ rfl key (xw h ?_)))),λd m=>?_,?_,λq d m=>?_,λq ys sy py=>?_⟩
  ·have:=Vn (λd=>!(aU d).any (jc (iX ss x))) fs;rw[UX];omega
  ·rcases UR.mp m with m|m
   ·exact lift d (hf d m)
   ·obtain⟨q,hq,rfl⟩:=U2.mp m;obtain⟨ys,rfl,sy⟩:=hf q (U0.mp hq).1;exact⟨ys++[x],rfl,List.Sublist.append sy (XT _)⟩
  ·have:=Vn (λd=>!(aU d).any (jc (iX ss x))) fs;rw[U5,UX,Nat.pow_succ];omega
  ·have nx:PyData.tuple [x,x]∉ss:=λz=>by
    have:=(rO w hx hx).mpr (.inl z);simp[this]at hc
   rcases UR.mp m with m|m
   ·exact q d m
   ·obtain⟨z,hz,rfl⟩:=U2.mp m;obtain⟨mz,cz⟩:=U0.mp hz;obtain⟨ys,rfl,sy⟩:=hf z mz;have pz:=q _ mz;simp only[aU,WM,XM]at cz pz ⊢;have no:∀y∈ys,PyData.tuple [y,x]∉ss/\PyData.tuple [x,y]∉ss:=λy my=>by have:=cz y my;rw[rO w hx (sp.subset (sy.subset my))]at this;exact⟨λz=>this (.inl z),λz=>this (.inr z)⟩
    intro a ha b hb;rcases UR.mp ha with ha|ha<;>rcases UR.mp hb with hb|hb
    ·exact pz a ha b hb
    ·rw[UU.mp hb];exact(no a ha).1
    ·rw[UU.mp ha];exact(no b hb).2
    ·rw[UU.mp ha,UU.mp hb];exact nx
  ·obtain⟨us,vs,rfl,su,sv⟩:=XB.mp sy
   cases sv with
   |cons _ s0=>cases s0;rw[V1]at py ⊢;exact U4 _ (q us su py)
   |cons_cons _ s0=>
    cases s0;refine UG _ (U2.mpr ⟨.tuple us,U0.mpr ⟨q us su λa ha b hb=>py a (by simp[ha]) b (by simp[hb]),?_⟩,rfl⟩);simp only[aU,WM,XM];intro y my z;rcases(rO w hx (sp.subset (su.subset my))).mp z with z|z
    ·exact py y (by simp[my]) x (by simp) z
    ·exact py x (by simp) y (by simp[my]) z
theorem Hi(w:Wb 25 ns ss)(l5:ns.length<=5)(h:Hm):∃ps,b8 [.dat (WD ns ss)] h=.ok (.dat (.list ps)) h/\(∀d∈ps,vh ns d)/\ps.length<64/\∀ys,ys.Sublist ns->(.tuple ys∈ps<->Pe ss ys):=by
 have loop:∀(xs pre fs:YD) (y2 y3:Option D),ns=pre++xs->(∀d∈fs,vh pre d)->fs.length<=2^pre.length->(∀d∈fs,Pe ss (aU d))->(∀ys,ys.Sublist pre->Pe ss ys->.tuple ys∈fs)->∃fs' z2 z3,dz (aq 2) Ui (xs.map D.dat) [some (.dat (WD ns ss)),some (.dat (.list fs)),y2,y3] h=.ok (.nx [some (.dat (WD ns ss)),some (.dat (.list fs')),z2,z3]) h/\(∀d∈fs',vh ns d)/\fs'.length<=2^ns.length/\(∀d∈fs',Pe ss (aU d))/\(∀ys,ys.Sublist ns->Pe ss ys->.tuple ys∈fs'):=by
  intro xs
  induction xs with
  |nil=>intro pre fs y2 y3 e hf hl hP hA;rw[V1]at e;subst e;exact⟨fs,y2,y3,rfl,hf,hl,hP,hA⟩
  |cons x xs ih=>
   intro pre fs y2 y3 e hf hl hP hA;have hp:pre.length<=4:=by have:=Xx List.length e;simp at this;omega
   obtain⟨fs1,z3,e1,hf1,hl1,hP1,hA1⟩:=P2 (y3:=y3) w e hf hl hp h;obtain⟨fs2,u2,u3,e2,r⟩:=ih (pre++[x]) fs1 (some (.dat x)) z3 (by rw[e];simp) hf1 (by simpa using hl1) (hP1 hP) (hA1 hA);refine⟨fs2,u2,u3,?_,r⟩;simp only[Va,dz,aq,R.dB,R.aP,VP,VQ];rw[e1];simp only[R.dB,R.aP];exact e2
 obtain⟨fs,z2,z3,e,hf,hl,hP,hA⟩:=loop ns [] [.tuple []] none none rfl (λd m=>by rw[UU.mp m];exact⟨[],rfl,XT _⟩) (by simp) (λd m=>by rw[UU.mp m];intro a ha;simp[aU]at ha) (λys sy _=>by rw[List.sublist_nil.mp sy];simp);have l2:fs.length<64:=Ym (UO hl (Wj (by decide) l5)) (by decide);obtain⟨s1,s2,s3⟩:=Kg w hf l2 h;refine⟨_,?_,s2,s3,λys sy=>⟨λm=>hP _ ((aW _ _).mem_iff.mp m),λp=>(aW _ _).mem_iff.mpr (hA ys sy p)⟩⟩;unfold b8 mJ;exact ff rfl (aK (cb rfl) (aK (dE (AL rfl) e) (cI (aF rfl s1))))
end
section
variable {ns ss lot:YD} {h:Hm}
theorem Hj(w:Wb 25 ns ss)(sx:xs.Sublist ns)(sy:ys.Sublist ns)(h:Hm):ik [.dat (.tuple xs),.dat (.tuple ys)] h=.ok (.bool (xs.all (jc ys))) h:=by
 have lx:=sx.length_le;have ln:=w.nr.le;have key:=yW (n:=1) (it:=aH (ab 0)) (g:=aq 0) (e:=ao mQ (ab 0) (ab 2)) (ρ:=[some (.dat (.tuple xs)),some (.dat (.tuple ys))]) (h:=h) (h1:=h) (ds:=xs) (by simp) #[1] (jc ys) (λx hx=>⟨_,rfl,by simp[jJ (w.AY (sx.subset hx)) (cJ w sy)]⟩)
 simp_all[ik,t9]
theorem CI(w:Wb 25 ns ss)(s:lot.Sublist ns)(h:Hm):cZ [.dat (WD ns ss),.dat (.tuple lot)] h=.ok (.bool (lot.all (jc (EB ns ss lot)))) h:=ff rfl (cI (aF (cy rfl (cy (aF rfl (Kc w s h)) rfl)) (Hj w s oG h)))
theorem MP(w:Wb 25 ns ss)(sx:xs.Sublist ns)(sy:ys.Sublist ns)(h:Hm):oEq (.dat (.tuple xs)) (.dat (.tuple ys)) h=.ok (.bool (PyData.eqv (.tuple xs) (.tuple ys))) h/\uW (.dat (.tuple xs)) (.dat (.tuple ys)) h=.ok (.bool (!PyData.eqv (.tuple xs) (.tuple ys))) h:=by
 have t1:av (.tuple xs)=true:=by simp[av,cK (cJ w sx)]
 have t2:av (.tuple ys)=true:=by simp[av,cK (cJ w sy)]
 have d1:(PyData.tuple xs).depth<=1:=by simp[PyData.depth,qf (cJ w sx)]
 have m:min (PyData.tuple xs).depth (PyData.tuple ys).depth<=40:=by omega
 simp_all[oEq,uW,eqQ,noDict,cu]
theorem CJ(w:Wb 25 ns ss)(s:lot.Sublist ns)(h:Hm):fJ [.dat (WD ns ss),.dat (.tuple lot)] h=.ok (.bool (PyData.eqv (.tuple lot) (.tuple (EB ns ss lot)))) h:=ff rfl (cI (aQ rfl (aF rfl (Kc w s h)) (MP w s oG h).1))
theorem zd(w:Wb 25 ns ss)(s:lot.Sublist ns)(h:Hm):dA [.dat (WD ns ss),.dat (.tuple lot)] h=.ok (.bool (ns.all λx=>jc lot x || xA ss lot x)) h:=by
 obtain⟨kv,e1,e2⟩:=Kb w s h
 have key:=yW (n:=1) (it:=aH (ao gU (ab 0) (aj (.int 0)))) (g:=aq 0) (e:=Ma (ao mQ (ab 0) (ab 2)) (ao mQ (ab 0) (ab 3))) (ρ:=[some (.dat (WD ns ss)),some (.dat (.tuple lot)),some (.ia false kv)]) (h:=h) (h1:=h) (ds:=ns) (by simp) (by have:=w.nr.le;omega) (λx=>jc lot x || xA ss lot x) (λx hx=>⟨_,rfl,by
  have k:=e2 x (w.nr.sub x hx)
  cases q:jc lot x<;>simp[jJ (w.AY hx) (cJ w s),q,(EC (w.nr.sub x hx) h).1,k]⟩)
 simp_all[dA,ua]
end
def nA:YD:=[.str "a",.str "b",.str "c",.str "d",.str "e",.str "f",.str "g"]
def nB:YD:=[.str "ann",.str "bo",.str "c",.str "dora",.str "elias",.str "f",.str "gwenda"]
theorem P4(h:X=nA\/X=nB):Rw tH X/\X.length=7:=by
 rcases h with rfl|rfl
 ·exact⟨⟨by trivial,by trivial⟩,rfl⟩
 ·exact⟨⟨by trivial,by trivial⟩,rfl⟩
theorem Rw.tJ(r:Rw U ys)(s:xs.Sublist ys):Rw U xs:=⟨λd m=>r.sub d (s.subset m),r.ris.sublist s⟩
abbrev lz(kvs:YA):Hm:=[.ia true kvs,.lst [.dat (.list nA),.dat (.list nB)]]
theorem UB(b:Bx i h):Bx i (h++lz kvs):=by
 have:=(b.push (o:=.ia true kvs) rfl).push (o:=.lst [.dat (.list nA),.dat (.list nB)]) rfl
 simp_all
theorem Bs.TL(b:i<h.length)(s:Bs i (h++t) h'):∃h1,h'=h1++t/\Bs i h h1:=by obtain⟨n,rfl⟩:=s;exact⟨_,List.set_append_left _ _ b,n,rfl⟩
theorem F8(b:Bx i h)(h0:0<c)(h1:c<1000):∃(k:Nat) (h1:Hm),aN [.ref i,.int c] (h++lz kvs)=.ok (.int k) (h1++lz kvs)/\Bs i h h1/\(k:Int)<c:=by obtain⟨_,h2,e,s,k,rfl,hk⟩:=vf (UB b) h0 #[1];obtain⟨h3,rfl,s3⟩:=s.TL b.lt;exact⟨k,h3,e,s3,hk⟩
theorem rP{X:YD}(h:k<c)(hc:c<=X.length):∃z,mS X (k:Int)=some z/\z∈X.take c:=
 ⟨X[k],qo (UK _),List.mem_take_iff_getElem.mpr ⟨k,by omega,rfl⟩⟩
structure Kv(ns:YD)(kvs:YA):Prop where
 nd:(dM kvs).Nodup
 mem:∀q∈dM kvs,∃a b,a∈ns/\b∈ns/\q=.tuple [a,b]
theorem Kv.pp(k:Kv ns kvs)(r:Rw tH ns):∀q∈dM kvs,F5 q:=λq m=>by obtain⟨a,b,ha,hb,rfl⟩:=k.mem q m;exact⟨a,b,r.sub a ha,r.sub b hb,rfl⟩
theorem Kv.len(k:Kv ns kvs)(l:ns.length<=5):kvs.length<=25:=by
 have h1:=kW (ys:=ns.flatMap λa=>ns.map λb=>PyData.tuple [a,b]) k.nd λq m=>by
  obtain⟨a,b,ha,hb,rfl⟩:=k.mem q m
  simp_all
 simp[dM]at h1;rw[List.map_const',List.sum_replicate_nat]at h1;exact UO h1 (XY l l)
theorem AO(k:Kv ns kvs)(r:Rw tH ns)(l:ns.length<=5)(ha:a∈ns)(hb:b∈ns) :
  ∃kvs',pf (.ref he.length) (.dat (.tuple [a,b])) (.bool true) (he++lz kvs)=.ok () (he++lz kvs')/\Kv ns kvs':=by
 have pt:=hV ⟨a,b,r.sub a ha,r.sub b hb,rfl⟩;have gt:(he++lz kvs)[he.length]?=some (.ia true kvs):=by simp
 have st:(he++lz kvs).set he.length (.ia true (dput kvs (.tuple [a,b]) (.bool true)))=he++lz (dput kvs (.tuple [a,b]) (.bool true)):=by simp
 have kk:keyOk true (.tuple [a,b])=true:=by simp[keyOk,gE,pt.1];omega
 have kl:=k.len l;refine⟨dput kvs _ (.bool true),by simp[pf,Io,kk,show kvs.length<16777216 by omega],Ex pt.2.1 (λq m=>(hV (k.pp r q m)).2.1) k.nd,λq m=>?_⟩;rcases CG m with m|rfl
 ·exact k.mem q m
 grind
abbrev RG:MS:=(aS (zF [7,8] (aa (ao gU (ab 5) (af aN (aa (ab 0) (aa (ab 2) ah)))) (aa (ao gU (ab 5) (af aN (aa (ab 0) (aa (ab 2) ah)))) ah)))
  (jq (xE (aI (ao uW (ab 7) (ab 8))) (aI (ao oEq (af aN (aa (ab 0) (aa (aj (.int 3)) ah))) (aj (.int 0))))) (aS (oH (o4 (ab 4) (eV (aa (ab 7) (aa (ab 8) ah)))) (aj (.bool true)))
  (oH (o4 (ab 4) (Dq (aI (ao oEq (ab 3) (aj (.int 4)))) (eV (aa (ab 8) (aa (ab 7) ah))) (eV (aa (ab 7) (aa (ab 8) ah))))) (aj (.bool true)))) bM))
abbrev RH:MS:=(oH (o4 (ab 4) (eV (aa (ao gU (ab 5) (ab 9)) (aa (ao gU (ab 5) (ao oMod (ao gv (ab 9) (aj (.int 1))) (ab 2))) ah)))) (aj (.bool true)))
abbrev wρ(m i c w p:Nat)(X:YD)(y6 y7 y8 y9:Option D):Fm:=[some (.ref i),some (.int m),some (.int c),some (.int w),some (.ref p),some (.dat (.list X)),y6,y7,y8,y9]
theorem Kh(ha:tH a)(hb:tH b)(h:Hm):∃z,uW (.dat a) (.dat b) h=.ok (.bool z) h:=by obtain⟨x,rfl⟩:=bZ (bO ha);obtain⟨y,rfl⟩:=bZ (bO hb);simp[uW,eqQ,noDict,PyData.hasDict,PyData.depth]
theorem Ki(e:mS X k=some z)(h:Hm):gU (.dat (.list X)) (.dat (.int k)) h=.ok (.dat z) h:=by
 simp_all
theorem qh(e:t ρ h=.ok c h1)(k:(if c then a else b) ρ h1=r):Dq t a b ρ h=r:=by unfold Dq;rw[e];cases c<;>exact k
theorem rQ(e1:eo ρ h=.ok o h)(e2:ei ρ h=.ok k h)(e3:pf o k v h=.ok () h1):o4 eo ei v ρ h=.ok ρ h1:=by simp[o4,e1,e2,e3]
theorem MQ(hX:X=nA\/X=nB)(hc:c<=5)(c0:0<c)(hns:ns=X.take c)(b:Bx i he)(k:Kv ns kvs) :
  ∃he' kvs' z7 z8,RG (wρ m i c w he.length X y6 y7 y8 y9) (he++lz kvs)=.ok (.nx (wρ m i c w he.length X y6 z7 z8 y9)) (he'++lz kvs')/\Bs i he he'/\Kv ns kvs':=by
 obtain⟨rX,lX⟩:=P4 hX;have rN:Rw tH ns:=hns▸rX.tJ (W7 _ _);have lN:ns.length<=5:=by rw[hns,WV];omega
 obtain⟨u,h1,e1,s1,hu⟩:=F8 b (kvs:=kvs) (c:=c) #[1] #[1];obtain⟨p,ep,mp⟩:=rP (X:=X) (k:=u) (c:=c) #[1] #[1];have b1:=s1.bx b;obtain⟨v,h2,e2,s2,hv⟩:=F8 b1 (kvs:=kvs) (c:=c) #[1] #[1];obtain⟨q,eq,mq⟩:=rP (X:=X) (k:=v) (c:=c) #[1] #[1];have b2:=s2.bx b1;rw[<- hns]at mp mq;obtain⟨w0,h3,e3,s3,_⟩:=F8 b2 (kvs:=kvs) (c:=3) (by decide) (by decide);have b3:=s3.bx b2;have fst:zF [7,8] (aa (ao gU (ab 5) (af aN (aa (ab 0) (aa (ab 2) ah)))) (aa (ao gU (ab 5) (af aN (aa (ab 0) (aa (ab 2) ah)))) ah)) (wρ m i c w he.length X y6 y7 y8 y9) (he++lz kvs)=.ok (.nx (wρ m i c w he.length X y6 (some (.dat p)) (some (.dat q)) y9)) (h2++lz kvs):=by simp[e1,e2,ep,eq]
 obtain⟨z,ne⟩:=Kh (rN.sub p mp) (rN.sub q mq) (h2++lz kvs)
 have puts:∀hh,Bx i hh->hh.length=he.length->∃kvs',(aS (oH (o4 (ab 4) (eV (aa (ab 7) (aa (ab 8) ah)))) (aj (.bool true))) (oH (o4 (ab 4) (Dq (aI (ao oEq (ab 3) (aj (.int 4)))) (eV (aa (ab 8) (aa (ab 7) ah))) (eV (aa (ab 7) (aa (ab 8) ah))))) (aj (.bool true)))) (wρ m i c w he.length X y6 (some (.dat p)) (some (.dat q)) y9) (hh++lz kvs)=.ok (.nx (wρ m i c w he.length X y6 (some (.dat p)) (some (.dat q)) y9)) (hh++lz kvs')/\Kv ns kvs':=by
  intro hh bh lh;obtain⟨k1,q1,K1⟩:=AO (he:=hh) k rN lN mp mq;rw[lh]at q1;have w4:oEq (.int (w:Int)) (.int 4) (hh++lz k1)=.ok (.bool ((w:Int)==4)) (hh++lz k1):=kj _ _ _;by_cases q4:(w:Int)=4
  ·obtain⟨k2,q2,K2⟩:=AO (he:=hh) K1 rN lN mq mp;rw[lh]at q2;refine⟨k2,aK (qg rfl (rQ rfl (mE rfl rfl) q1)) (qg rfl (rQ rfl (qh (bN (aQ rfl rfl w4)) ?_) q2)),K2⟩;simp[q4]
  ·obtain⟨k2,q2,K2⟩:=AO (he:=hh) K1 rN lN mp mq;rw[lh]at q2;refine⟨k2,aK (qg rfl (rQ rfl (mE rfl rfl) q1)) (qg rfl (rQ rfl (qh (bN (aQ rfl rfl w4)) ?_) q2)),K2⟩;simp[q4]
 cases z with
 |true=>obtain⟨kvs',ek,K⟩:=puts h2 b2 (by rw[s2.len,s1.len]);exact⟨h2,kvs',_,_,aK fst (Ez (Ka (bN (aQ rfl rfl ne))) ek),s1.trans s2,K⟩
 |false=>
  have t3:aI (ao oEq (af aN (aa (ab 0) (aa (aj (.int 3)) ah))) (aj (.int 0))) (wρ m i c w he.length X y6 (some (.dat p)) (some (.dat q)) y9) (h2++lz kvs)=.ok ((w0:Int)==0) (h3++lz kvs):=bN (aQ (aF rfl e3) rfl (kj _ _ _))
  cases hz:((w0:Int)==0)with
  |true=>rw[hz]at t3;obtain⟨kvs',ek,K⟩:=puts h3 b3 (by rw[s3.len,s2.len,s1.len]);exact⟨h3,kvs',_,_,aK fst (Ez (EA (bN (aQ rfl rfl ne)) t3) ek),(s1.trans s2).trans s3,K⟩
  |false=>rw[hz]at t3;exact⟨h3,kvs,_,_,aK fst (tI (EA (bN (aQ rfl rfl ne)) t3) rfl),(s1.trans s2).trans s3,k⟩
theorem MR(hX:X=nA\/X=nB)(hc:c<=5)(hj:j<c)(hns:ns=X.take c)(k:Kv ns kvs) :
  ∃kvs',RH (wρ m i c w he.length X y6 y7 y8 (some (.int (0+(j:Int))))) (he++lz kvs)=.ok (.nx (wρ m i c w he.length X y6 y7 y8 (some (.int (0+(j:Int)))))) (he++lz kvs')/\Kv ns kvs':=by
 obtain⟨rX,lX⟩:=P4 hX;have rN  := hns▸rX.tJ (W7 _ _);have lN:ns.length<=5:=by grind
 obtain⟨p,ep,mp⟩:=rP (X:=X) #[1] #[1];obtain⟨q,eq,mq⟩:=rP (X:=X) (c:=c) (XR _ #[1]) #[1];rw[<- hns]at mp mq;obtain⟨k1,q1,K1⟩:=AO k rN lN mp mq;have em:oMod (.int ((j:Int)+1)) (.int c) (he++lz kvs)=.ok (.int (((j+1) % c:Nat):Int)) (he++lz kvs):=by rw[nQ _ #[1]];simp
 rw[Int.zero_add];exact⟨k1,qg rfl (rQ rfl (mE (aQ rfl rfl (Ki ep _)) (aQ rfl (aQ (aQ rfl rfl rfl) rfl em) (Ki eq _))) q1),K1⟩
abbrev RI:ME:=ao gU (uF (aa (aj (.int 0)) (aa (ab 2) (aa (ao iZ (aj (.int 2)) (ab 2)) (aa (ao iZ (aj (.int 3)) (ab 2)) (aa (ab 2) (aa (ao jX (ab 2) (aj (.int 2))) (aa (ao jX (ab 2) (aj (.int 2))) ah)))))))) (ab 3)
abbrev RJ:ME:=ao xN (ao iZ (ab 2) (af zI (aa (ao Bj (ab 3) (aj (.int 4))) ah))) (af zI (aa (mI (ao oEq (ab 3) (aj (.int 6))) (ao Bj (ab 2) (aj (.int 0)))) ah))
theorem P5(hc:c<=5)(hw:w<7)(h:Hm):∃t:Nat,RI (wρ m i c w p X y6 y7 y8 y9) h=.ok (.int t) h/\t<=15/\(0<t->0<c):=by
 have m2:iZ (.int 2) (.int c) h=.ok (.int (2*(c:Int))) h:=nR _ (mB (by decide) (by decide));have m3:iZ (.int 3) (.int c) h=.ok (.int (3*(c:Int))) h:=nR _ (mB (by decide) (by decide));have f2:jX (.int c) (.int 2) h=.ok (.int ((c:Int) / 2)) h:=tF _ (by decide) (by decide);have el:uF (aa (aj (.int 0)) (aa (ab 2) (aa (ao iZ (aj (.int 2)) (ab 2)) (aa (ao iZ (aj (.int 3)) (ab 2)) (aa (ab 2) (aa (ao jX (ab 2) (aj (.int 2))) (aa (ao jX (ab 2) (aj (.int 2))) ah))))))) (wρ m i c w p X y6 y7 y8 y9) h=.ok (.dat (.list [.int 0,.int c,.int (2*(c:Int)),.int (3*(c:Int)),.int c,.int ((c:Int) / 2),.int ((c:Int) / 2)])) h:=by rfl
 have fin:∀t:Nat,mS [PyData.int 0,.int c,.int (2*(c:Int)),.int (3*(c:Int)),.int c,.int ((c:Int) / 2),.int ((c:Int) / 2)] (w:Int)=some (.int (t:Int))->RI (wρ m i c w p X y6 y7 y8 y9) h=.ok (.int t) h:=λt e=>aQ el rfl (Ki e h);have hw':w=0\/w=1\/w=2\/w=3\/w=4\/w=5\/w=6:=by omega
 rcases hw' with rfl|rfl|rfl|rfl|rfl|rfl|rfl
 ·exact⟨0,fin _ rfl,by omega,by omega⟩
 ·exact⟨c,fin _ rfl,by omega,by omega⟩
 ·exact⟨2*c,fin _ rfl,by omega,by omega⟩
 ·exact⟨3*c,fin _ rfl,by omega,by omega⟩
 ·exact⟨c,fin _ rfl,by omega,by omega⟩
 ·exact⟨c / 2,fin _ rfl,by omega,by omega⟩
 ·exact⟨c / 2,fin _ rfl,by omega,by omega⟩
theorem RK(b:Bool)(h:Hm):zI [.bool b] h=.ok (.int (if b then 1 else 0)) h:=by rfl
theorem MU(hc:c<=5)(h:Hm):∃t:Nat,RJ (wρ m i c w p X y6 y7 y8 y9) h=.ok (.int t) h/\t<=c:=by
 have e1:af zI (aa (ao Bj (ab 3) (aj (.int 4))) ah) (wρ m i c w p X y6 y7 y8 y9) h=.ok (.int (if decide ((4:Int)<w)then 1 else 0)) h:=aF (cy (aQ rfl rfl rfl) rfl) (RK _ _);have e6:oEq (.int (w:Int)) (.int 6) h=.ok (.bool ((w:Int)==6)) h:=kj _ _ _;have mz:∀z:Bool,iZ (.int c) (.int (if z then 1 else 0)) h=.ok (.int ((c:Int)*(if z then 1 else 0))) h:=λz=>nR _ (by cases z<;>exact AH (by decide) (by decide))
 have e2:af zI (aa (mI (ao oEq (ab 3) (aj (.int 6))) (ao Bj (ab 2) (aj (.int 0)))) ah) (wρ m i c w p X y6 y7 y8 y9) h=.ok (.int (if((w:Int)==6)&&decide ((0:Int)<c)then 1 else 0)) h:=by
  refine aF (cy (x:=.bool (((w:Int)==6)&&decide ((0:Int)<c))) ?_ rfl) (RK _ _);by_cases q6:(w:Int)=6
  ·have e66:oEq (D.int 6) (D.dat (.int 6)) h=.ok (.bool true) h:=kj 6 6 h;simp[q6,e66]
  ·simp[e6,q6]
 refine⟨c*(if decide ((4:Int)<w)then 1 else 0)-(if((w:Int)==6)&&decide ((0:Int)<c)then 1 else 0),aQ (aQ rfl e1 (mz _)) e2 ?_,?_⟩
 ·simp only[PQ,R.ok.injEq,and_true];by_cases q1:(4:Int)<w
  ·by_cases q2:(w:Int)=6
   ·by_cases q3:0<c
    ·simp[q1,q2,q3];omega
    ·simp[q1,q2,q3]
   ·simp[q1,q2]
  ·have q2:¬ (w:Int)=6:=by omega
   simp[q1,q2]
 ·by_cases q1:(4:Int)<w
  ·simp[q1]
  ·simp[q1]
theorem P6{i m:Nat}(b:Bx i h)(hm:m<=5):Dr i h (pM [.ref i,.int m] h) λd=>∃ns ss,d=.dat (.tuple [.tuple ns,.tuple ss])/\Wb 25 ns ss/\ns.length<=m:=by
 obtain⟨_,ha,ea,sa,c,rfl,hc⟩:=vf b (c:=(m:Int)+1) #[1] #[1];have ba:=sa.bx b;obtain⟨_,hb,eb,sb,w,rfl,hw⟩:=vf ba (c:=7) (by decide) (by decide);have bb:=sb.bx ba;obtain⟨u,hd,ed,sd,hu⟩:=F8 bb (kvs:=[]) (c:=2) (by decide) (by decide);have bd:=sd.bx bb
 obtain⟨X,eX,hX⟩:∃X,mS [D.dat (.list nA),D.dat (.list nB)] (u:Int)=some (.dat (.list X))/\(X=nA\/X=nB):=by
  have:u=0\/u=1:=by omega
  rcases this with rfl|rfl
  ·exact⟨nA,rfl,.inl rfl⟩
  ·exact⟨nB,rfl,.inr rfl⟩
 obtain⟨rX,lX⟩:=P4 hX;obtain⟨ns,hns⟩:∃ns,ns=X.take c:=⟨_,rfl⟩;have rN:Rw tH ns:=hns▸rX.tJ (W7 _ _);have lN:ns.length<=5:=by rw[hns,WV];omega
 have ld:hd.length=hb.length:=sd.len;obtain⟨t1,k1,l1,p1⟩:=P5 (m:=m) (i:=i) (p:=hb.length) (X:=X) (y6:=none) (y7:=none) (y8:=none) (y9:=none) (show c<=5 by omega) (show w<7 by omega) (hd++lz [])
 obtain⟨ρ',h',eL,he,kvs,rfl,sh,K,y6,y7,y8,rfl⟩:=gO (g:=aq 6) (b:=RG)
  (λj ρ hh=>∃he kvs,hh=he++lz kvs/\Bs i hd he/\Kv ns kvs/\∃y6 y7 y8,ρ=wρ m i c w hb.length X y6 y7 y8 none)
  (nums 0 t1) 0 (wρ m i c w hb.length X none none none none) (hd++lz []) (by
   rintro j x hx ρ hh ⟨he,kvs,rfl,s1,K,y6,y7,y8,rfl⟩;have hj:j<t1:=by simpa [nums]using(UN.mp hx).1
   have le:he.length=hb.length:=by rw[s1.len,ld]
   obtain⟨he',kvs',z7,z8,e,s2,K2⟩:=MQ (m:=m) (y6:=some x) (y7:=y7) (y8:=y8) (y9:=none) hX (show c<=5 by omega) (p1 #[1]) hns (s1.bx bd) K (w:=w);rw[le]at e
   exact⟨_,_,_,_,rfl,.inl e,he',kvs',rfl,s1.trans s2,K2,_,_,_,rfl⟩) ⟨hd,[],rfl,bd.refl,⟨by simp[dM],by simp[dM]⟩,none,none,none,rfl⟩
 have bh:=sh.bx bd;have lh:he.length=hb.length:=by rw[sh.len,ld]
 obtain⟨t2,k2,l2⟩:=MU (m:=m) (i:=i) (w:=w) (p:=hb.length) (X:=X) (y6:=y6) (y7:=y7) (y8:=y8) (y9:=none) (show c<=5 by omega) (he++lz kvs)
 obtain⟨ρ',h',eM,kvs2,rfl,K2,y9,rfl⟩:=gO (g:=aq 9) (b:=RH)
  (λj ρ hh=>∃kvs,hh=he++lz kvs/\Kv ns kvs/\∃y9,ρ=wρ m i c w hb.length X y6 y7 y8 y9)
  (nums 0 t2) 0 (wρ m i c w hb.length X y6 y7 y8 none) (he++lz kvs) (by
   rintro j x hx ρ hh ⟨kvs,rfl,K,y9,rfl⟩;simp only[nums,Vo,Vg]at hx;obtain⟨k,hk,rfl⟩:=hx;have hk2:=(UN.mp hk).1;have hk3:=(UN.mp hk).2;simp at hk2 hk3;obtain⟨kvs',e,K2⟩:=MR (m:=m) (i:=i) (he:=he) (w:=w) (y6:=y6) (y7:=y7) (y8:=y8) hX (show c<=5 by omega) (show k<c by omega) hns K;rw[lh]at e
   exact⟨_,_,_,_,rfl,.inl e,kvs',rfl,K2,_,rfl⟩) ⟨kvs,rfl,K,none,rfl⟩
 have pp:=K2.pp rN;have so:eO (dM kvs2)=true:=eG.TJ pp (by have:=K2.len lN;simp[dM];omega);have gt:(he++lz kvs2)[hb.length]?=some (.ia true kvs2):=by rw[<- lh];simp
 have res:=JZ (f:=pK) (xs:=[.ref i,.int m]) (h:=h) (h1:=he) (t:=lz kvs2) (x:=.tuple [.tuple ns,.tuple (c6 ltB (dM kvs2))]) b (by
  unfold pK;have z1:zF [2,3,4] (aa (af aN (aa (ab 0) (aa (ao gv (ab 1) (aj (.int 1))) ah))) (aa (af aN (aa (ab 0) (aa (aj (.int 7)) ah))) (aa (Fy true) ah))) [some (D.ref i),some (.int m),none,none,none,none,none,none,none,none] h=.ok (.nx [some (D.ref i),some (.int m),some (.int c),some (.int w),some (.ref hb.length),none,none,none,none,none]) (hb++[.ia true []]):=by simp[ea,eb,Fy]
  have z2:bP 5 (Ds (aa (aj (.list [.str "a",.str "b",.str "c",.str "d",.str "e",.str "f",.str "g"])) ah)) [some (D.ref i),some (.int m),some (.int c),some (.int w),some (.ref hb.length),none,none,none,none,none] (hb++[.ia true []])=.ok (.nx [some (D.ref i),some (.int m),some (.int c),some (.int w),some (.ref hb.length),some (.ref (hb.length+1)),none,none,none,none]) (hb++[.ia true [],.lst [.dat (.list nA)]]):=by simp[vI,mP,nA]
  have g2:(hb++[MO.ia true [],.lst [.dat (.list nA)]])[hb.length+1]?=some (.lst [.dat (.list nA)]):=by simp
  have z3:iT (GU oh (ab 5) (aj (.list [.str "ann",.str "bo",.str "c",.str "dora",.str "elias",.str "f",.str "gwenda"]))) [some (D.ref i),some (.int m),some (.int c),some (.int w),some (.ref hb.length),some (.ref (hb.length+1)),none,none,none,none] (hb++[.ia true [],.lst [.dat (.list nA)]])=.ok (.nx [some (D.ref i),some (.int m),some (.int c),some (.int w),some (.ref hb.length),some (.ref (hb.length+1)),none,none,none,none]) (hb++lz []):=by unfold iT GU;simp only[ab,List.getElem?_cons_succ,List.getElem?_cons_zero,R.aP,RW,g2,VC,PN];simp[oh,g2,nB]
  have g3:(hd++lz [])[hb.length+1]?=some (.lst [.dat (.list nA),.dat (.list nB)]):=by rw[<- ld];simp
  have z4:bP 5 (ao gU (ab 5) (af aN (aa (ab 0) (aa (aj (.int 2)) ah)))) [some (D.ref i),some (.int m),some (.int c),some (.int w),some (.ref hb.length),some (.ref (hb.length+1)),none,none,none,none] (hb++lz [])=.ok (.nx (wρ m i c w hb.length X none none none none)) (hd++lz []):=by refine cb (x:=.dat (.list X)) (aQ rfl (aF rfl ed) ?_);simp only[gU,iU,g3,Dv,eX]
  have z7:bw (eV (aa (af jt (aa (Qj (ab 5) ym (yn (ab 2))) ah)) (aa (af jt (aa (af et (aa (af Bk (aa (ab 4) ah)) ah)) ah)) ah))) (wρ m i c w hb.length X y6 y7 y8 y9) (he++lz kvs2)=.ok (.rt (.dat (.tuple [.tuple ns,.tuple (c6 ltB (dM kvs2))]))) (he++lz kvs2):=by
   have em:(List.map (λ(x:PyData×PyData)=>x.1) kvs2)=dM kvs2:=rfl;have ct:=PV X c;rw[<- hns]at ct;refine cI (mE (h1:=he++lz kvs2) (aF (h1:=he++lz kvs2) (xs:=[.dat (.list ns)]) ?_ rfl) (aF (h1:=he++lz kvs2) (xs:=[.dat (.list (c6 ltB (dM kvs2)))]) ?_ rfl))
   ·simp[ct]
   ·simp[Bk,iU,gt,em,et,so,listOf]
  refine ff rfl (aK z1 (aK z2 (aK z3 (aK z4 (aK (dE (nV (cy k1 rfl) #[1]) eL) (aK (dE (nV (cy k2 rfl) #[1]) eM) z7))))))) (((sa.trans sb).trans sd).trans sh)
 refine⟨_,he,res,((sa.trans sb).trans sd).trans sh,ns,c6 ltB (dM kvs2),rfl,⟨⟨rN,by omega⟩,vg eG pp K2.nd,λa b m=>?_,?_⟩,by rw[hns,WV];omega⟩
 ·obtain⟨a',b',h1,h2,e⟩:=K2.mem _ ((aW ltB _).mem_iff.mp m);simp at e;obtain⟨rfl,rfl⟩:=e;exact⟨h1,h2⟩
 ·rw[(aW ltB _).length_eq];simpa [dM]using K2.len lN
abbrev Rel:=PyData->PyData->Bool
def rows(ns:YD)(r:Rel):YD:=ns.flatMap λa=>(ns.filter (r a)).map λb=>.tuple [a,b]
section
variable {ns:YD} {r q:Rel} {a b:PyData}
theorem tK:p∈rows ns r<->∃a b,p=.tuple [a,b]/\a∈ns/\b∈ns/\r a b=true:=by
 unfold rows;rw[Yw];constructor
 ·rintro⟨a,ha,m⟩;obtain⟨b,hb,rfl⟩:=U2.mp m;obtain⟨h1,h2⟩:=U0.mp hb;exact⟨a,b,rfl,ha,h1,h2⟩
 simp_all
theorem rR(R:Nr ns)(h:a∈ns):av a=true:=J1.t (R.sub a h)
theorem F9(R:Nr ns):Rw F5 (rows ns r):=by
 refine⟨λp m=>?_,?_⟩
 ·obtain⟨a,b,rfl,ha,hb,_⟩:=tK.mp m;exact⟨a,b,R.sub a ha,R.sub b hb,rfl⟩
 ·refine List.pairwise_flatMap.mpr ⟨λa ha=>XO.mpr ?_,?_⟩
  ·exact WR (λ{x y} hx hy l=>P0 (rR R ha) (rR R ((U0.mp hx).1)) (rR R ((U0.mp hy).1)) l) (R.ris.filter _)
  ·refine WR (λ{x y} hx hy l p hp q hq=>?_) R.ris;obtain⟨b,_,rfl⟩:=U2.mp hp;obtain⟨c,_,rfl⟩:=U2.mp hq;exact MM (rR R hx) (rR R hy) l
theorem AQ{xs:YD}{f:PyData->YD}(h:∀a,(f a).length<=n):(xs.flatMap f).length<=xs.length*n:=by
 induction xs with
 |nil=>simp
 |cons x xs ih=>
  grind[List.flatMap_cons,List.length_append,List.length_cons,Nat.add_mul]
theorem Kj:(rows ns r).length<=ns.length*ns.length:=AQ λa=>by rw[UX];exact Vn _ _
end
inductive Kd where
 |stable
 |standing
 |preferred
 |whole
 |grounded
theorem uA(I:Fm->Prop)(c:D->Bool)(f:D->D):∀{ys:List D} {ρ:Fm},(∀y∈ys,∀ρ,I ρ->∃ρ1,g2 y ρ h=.ok ρ1 h/\t2 ρ1 h=.ok (c y) h/\(c y=true->e ρ1 h=.ok (f y) h)/\I ρ1)->I ρ->lU g2 t2 e ys ρ h=.ok ((ys.filter c).map f) h
 | [],ρ,_,_=>rfl
 |y::ys,ρ,H,i=>by
  obtain⟨ρ1,h1,h2,h3,i1⟩:=H y (UZ ..) ρ i;have ih:=uA I c f (λz hz=>H z (UI _ hz)) i1;unfold lU;rw[h1];simp;rw[h2];simp
  cases hc:c y with
  |false=>grind
  |true=>
   simp_all
theorem xB{ds es:YD}(hit:it ρ h=.ok (ds.map D.dat) h)(hz:ds.length*es.length+es.length<=100000)(hd:ds.length<=100000)(I:PyData->Fm->Prop)(c:PyData->PyData->Bool)(f:PyData->PyData->PyData)
 (H:∀a∈ds,∃ρ1,g (.dat a) (List.replicate n none++ρ) h=.ok ρ1 h/\it2 ρ1 h=.ok (es.map D.dat) h/\I a ρ1)(H2:∀a∈ds,∀b∈es,∀ρ,I a ρ->∃ρ1,g2 (.dat b) ρ h=.ok ρ1 h/\t2 ρ1 h=.ok (c a b) h/\(c a b=true->e ρ1 h=.ok (.dat (f a b)) h)/\I a ρ1) :
  pF n it g cM it2 g2 t2 e ρ h=.ok (.dat (.list (ds.flatMap λa=>(es.filter (c a)).map (f a)))) h:=by
 have go:∀(xs:YD) (k:Nat),(∀a∈xs,a∈ds)->k+xs.length*es.length+es.length<=200000->fA n ρ g cM it2 g2 t2 e (xs.map D.dat) k h=.ok ((xs.flatMap λa=>(es.filter (c a)).map (f a)).map D.dat) h:=by
  intro xs
  induction xs with
  |nil=>intro k _ _;rfl
  |cons a xs ih=>
   intro k hs hk;obtain⟨ρ1,q1,q2,q3⟩:=H a (hs a (by simp))
   have inn:=uA (I a) (λy=>match y with|.dat b=>c a b|_=>false) (λy=>match y with|.dat b=>.dat (f a b)|_=>.dat .none) (ys:=es.map D.dat) (ρ:=ρ1) (g2:=g2) (t2:=t2) (e:=e) (h:=h) (λy hy ρ' i=>by
    obtain⟨b,hb,rfl⟩:=U2.mp hy;obtain⟨ρ2,z1,z2,z3,z4⟩:=H2 a (hs a (by simp)) b hb ρ' i
    exact⟨ρ2,z1,z2,z3,z4⟩) q3
   have fm:((es.map D.dat).filter (λy=>match y with|.dat b=>c a b|_=>false)).map (λy=>match y with|.dat b=>D.dat (f a b)|_=>.dat .none)=((es.filter (c a)).map (f a)).map D.dat:=by simp[List.filter_map,Function.comp_def]
   rw[fm]at inn;have lf:(es.filter (c a)).length<=es.length:=Vn _ _;simp only[Vf,Nat.add_mul]at hk;have ih':=ih (k+((es.filter (c a)).map (f a)).length) (λb m=>hs b (by simp[m])) (by rw[UX];omega);simp only[Va];unfold fA;rw[q1];simp only[R.dB,R.aP,cM,VC];rw[q2];simp only[R.dB,R.aP,UX,sz (show k+es.length<=16777216 by omega),VC];rw[inn];simp only[R.aP,UX];rw[UX]at ih';rw[ih'];simp
 have g0:=go ds 0 (λ_ m=>m) #[1];unfold pF af wg;rw[hit];simp only[R.aP,UX,sz (show ds.length<=16777216 by omega),VC];rw[g0];simp only[R.aP];refine lu _ h ?_;have:=AQ (xs:=ds) (n:=es.length) (f:=λa=>(es.filter (c a)).map (f a)) λa=>by rw[UX];exact Vn _ _
 omega
inductive K3 where
 |st
 |wh
 |sb
def K3.nm:K3->Str
 |.st => "standing"
 |.wh => "whole"
 |.sb => "stable"
def K3.jd(k:K3)(ns ss g:YD):Bool:=match k with
 |.st=>g.all (jc (EB ns ss g))
 |.wh=>PyData.eqv (.tuple g) (.tuple (EB ns ss g))
 |.sb=>ns.all λx=>jc g x || xA ss g x
def P7(ss g:YD):Bool:=!(ss.any λp=>jc g (jS p)&&jc g (mD p))
section
variable {ns ss lot:YD} {h:Hm}
theorem AS(w:Wb 25 ns ss)(s:lot.Sublist ns):P7 ss lot=true<->Pe ss lot:=by
 have sd:=cJ w s;unfold P7;rw[WM,XM];constructor
 ·intro H a ha b hb m;have:=H _ m;simp only[jS,mD,(cH sd).mpr ha,(cH sd).mpr hb]at this
  grind
 ·intro H p m q;obtain⟨a,b,rfl,ha,hb⟩:=w.get m;simp at q;exact H a ((cH sd).mp q.1) b ((cH sd).mp q.2) m
theorem MV(e:m ρ h=.ok (.bool c) h):LL m ρ h=.ok (.bool !c) h:=by unfold LL;rw[bN e];rfl
theorem CK(w:Wb 25 ns ss)(s:lot.Sublist ns)(h:Hm):gZ [.dat (WD ns ss),.dat (.tuple lot)] h=.ok (.bool (P7 ss lot)) h:=by
 have sd:=cJ w s;have hl:=w.le
 have key:=yX (n:=2) (it:=aH (ao gU (ab 0) (aj (.int 1)))) (g:=jO (bS (aq 0) (bS (aq 1) jN))) (e:=mI (ao mQ (ab 0) (ab 3)) (ao mQ (ab 1) (ab 3))) (ρ:=[some (.dat (WD ns ss)),some (.dat (.tuple lot))]) (h:=h) (h1:=h) (ds:=ss) (by simp) #[1] (λp=>jc lot (jS p)&&jc lot (mD p)) (λp hp=>by
  obtain⟨a,b,rfl,ha,hb⟩:=w.get hp
  cases q:jc lot a<;>simp[jJ (w.AY ha) sd,jJ (w.AY hb) sd,q,jS,mD])
 exact ff rfl (cI (MV key))
theorem judge_ok(k:K3)(w:Wb 25 ns ss)(s:lot.Sublist ns)(h:Hm)(ρ:Fm)(n:Str)(e:kT.lookup k.nm=some n)(e3:ρ[3]?=some (some (.fn n)))(e0:ρ[0]?=some (some (.dat (WD ns ss))))(e4:ρ[4]?=some (some (.dat (.tuple lot)))) :
  lY 3 [("is_stable",dA),("is_standing",cZ),("is_whole",fJ)] (aa (ab 0) (aa (ab 4) ah)) ρ h=.ok (.bool (k.jd ns ss lot)) h:=by
 have ar:(aa (ab 0) (aa (ab 4) ah)) ρ h=.ok [.dat (WD ns ss),.dat (.tuple lot)] h:=by simp_all
 unfold lY;rw[e3]
 cases k with
 |st=>cases e;exact aF ar (CI w s h)
 |wh=>cases e;exact aF ar (CJ w s h)
 |sb=>cases e;exact aF ar (zd w s h)
def nW(k:K3)(ns ss:YD)(gs:YD):Bool:=gs.any λg=>P7 ss (aU g)&&k.jd ns ss (aU g)
theorem ED(k:K3)(w:Wb 25 ns ss)(hg:∀g∈gs,vh ns g)(h:Hm):gb [.dat (WD ns ss),.dat (.list gs),.dat (.str k.nm)] h=.ok (.bool (nW k ns ss gs)) h:=by
 obtain⟨n,en⟩:∃n,kT.lookup k.nm=some n:=by cases k<;>exact⟨_,rfl⟩
 have go:∀(xs:YD) (a4:Option D),(∀g∈xs,vh ns g)->∃b4,dz (aq 4) (jq (vm (aR (af gZ (aa (ab 0) (aa (ab 4) ah)))) (aR (lY 3 [("is_stable",dA),("is_standing",cZ),("is_whole",fJ)] (aa (ab 0) (aa (ab 4) ah))))) (bw (aj (.bool true))) bM) (xs.map D.dat) [some (.dat (WD ns ss)),some (.dat (.list gs)),some (.dat (.str k.nm)),some (.fn n),a4] h =
   if nW k ns ss xs=true then .ok (.rt (.bool true)) h else .ok (.nx [some (.dat (WD ns ss)),some (.dat (.list gs)),some (.dat (.str k.nm)),some (.fn n),b4]) h:=by
  intro xs
  induction xs with
  |nil=>exact λa4 _=>⟨a4,rfl⟩
  |cons x xs ih=>
   intro a4 H;obtain⟨b4,e⟩:=ih (some (.dat x)) λg m=>H g (UI _ m);obtain⟨lot,rfl,s⟩:=H x (.head _);refine⟨b4,?_⟩;have c:=F6 (eU (aF (ma:=aa (ab 0) (aa (ab 4) ah)) (ρ:=[some (.dat (WD ns ss)),some (.dat (.list gs)),some (.dat (.str k.nm)),some (.fn n),some (.dat (.tuple lot))]) rfl (CK w s h))) (eU (judge_ok k w s h [some (.dat (WD ns ss)),some (.dat (.list gs)),some (.dat (.str k.nm)),some (.fn n),some (.dat (.tuple lot))] n en rfl rfl rfl));simp only[Va,dz,aq,R.dB,R.aP,VP,VQ]
   cases q:(P7 ss lot&&k.jd ns ss lot)with
   |true=>rw[q]at c;rw[Ez c (cI rfl),if_pos (by simp[nW,aU]at q ⊢;exact .inl q)];rfl
   |false=>
    rw[q]at c;have e1:nW k ns ss (.tuple lot::xs)=nW k ns ss xs:=by unfold nW;rw[X9];simp only[aU,q,Bool.false_or]
    rw[tI c rfl,e1];exact e
 obtain⟨b4,e⟩:=go gs none hg;unfold gb qS aY;simp only[Vf,V9,VC,Va,Yn,X6,Xz,show 5-3=2 from rfl,rep2];have s1:bP 3 (yG kT (ab 2)) [some (.dat (WD ns ss)),some (.dat (.list gs)),some (.dat (.str k.nm)),none,none] h=.ok (.nx [some (.dat (WD ns ss)),some (.dat (.list gs)),some (.dat (.str k.nm)),some (.fn n),none]) h:=cb (by simp[yG,en]);rw[AJ s1]
 cases q:nW k ns ss gs with
 |true=>rw[q]at e;rw[AN (dE (mC rfl) e)];rfl
 |false=>rw[q]at e;rw[AJ (dE (mC rfl) e)];rfl
theorem CL(e0:ρ[i]?=some (some (.dat (.tuple ys))))(e1:ρ[j]?=some (some (.dat x)))(hz:ys.length<=1000)(h:Hm):eV (fq (ab i) (aa (ab j) ah)) ρ h=.ok (.dat (.tuple (ys++[x]))) h:=by
 have mk:=tD (ys++[x]) h (by simp;omega)
 simp_all[fq,gx]
theorem Kk(w:Wb 25 ns ss)(l5:ns.length<=5)(s:lot.Sublist ns)(h:Hm):∃gs,f6 [.dat (.tuple ns),.dat (.tuple lot)] h=.ok (.dat (.list gs)) h/\(∀g∈gs,vh ns g/\∀x∈lot,x∈aU g)/\∀ys,ys.Sublist ns->(∀x∈lot,x∈ys)->.tuple ys∈gs:=by
 have sd:=cJ w s;have nd:=gu J1 w.nr.toRw
 have loop:∀(xs pre fs:YD) (y3 y4:Option D),ns=pre++xs->(∀d∈fs,vh pre d/\∀x∈lot,x∈pre->x∈aU d)->fs.length<=2^pre.length->(∀ys,ys.Sublist pre->(∀x∈lot,x∈pre->x∈ys)->.tuple ys∈fs) ->
   ∃fs' z3 z4,dz (aq 3) (aS (bP 4 (bR 1 (aH (ab 2)) (aq 0) cM (eV (fq (ab 0) (aa (ab 4) ah))))) (bP 2 (Dq (aI (ao mQ (ab 3) (ab 1))) (ab 4) (ao gv (ab 2) (ab 4))))) (xs.map D.dat) [some (.dat (.tuple ns)),some (.dat (.tuple lot)),some (.dat (.list fs)),y3,y4] h=.ok (.nx [some (.dat (.tuple ns)),some (.dat (.tuple lot)),some (.dat (.list fs')),z3,z4]) h /\
    (∀d∈fs',vh ns d/\∀x∈lot,x∈ns->x∈aU d)/\(∀ys,ys.Sublist ns->(∀x∈lot,x∈ns->x∈ys)->.tuple ys∈fs'):=by
  intro xs
  induction xs with
  |nil=>intro pre fs y3 y4 e hf hl hA;rw[V1]at e;subst e;exact⟨fs,y3,y4,rfl,hf,hA⟩
  |cons x xs ih=>
   intro pre fs y3 y4 e hf hl hA;have hx:x∈ns:=by rw[e];simp
   have hp:pre.length<=4:=by have:=Xx List.length e;simp at this;omega
   have xp:x∉pre:=λm=>by rw[e]at nd;exact(Wl.mp nd).2.2 x m x (by simp) rfl
   have l2:(2:Nat)^pre.length<=16:=UO (Wj (by decide) hp) (by decide)
   have key:=fe (n:=1) (it:=aH (ab 2)) (g:=aq 0) (e:=eV (fq (ab 0) (aa (ab 4) ah))) (ρ:=[some (.dat (.tuple ns)),some (.dat (.tuple lot)),some (.dat (.list fs)),some (.dat x),y4]) (h:=h) (h1:=h) (ds:=fs) (by simp) #[1] (λd=>.tuple (aU d++[x])) (λd m=>by
    obtain⟨⟨ys,rfl,sy⟩,_⟩:=hf d m;have:=sy.length_le
    exact⟨_,rfl,CL rfl rfl (by show ys.length<=1000;omega) h⟩)
   have up:∀d∈fs.map (λd=>PyData.tuple (aU d++[x])),vh (pre++[x]) d/\∀z∈lot,z∈pre++[x]->z∈aU d:=λd m=>by
    obtain⟨q,hq,rfl⟩:=U2.mp m;obtain⟨⟨ys,rfl,sy⟩,hy⟩:=hf q hq;refine⟨⟨ys++[x],rfl,List.Sublist.append sy (XT _)⟩,λz hz hm=>?_⟩;simp only[aU]at hy ⊢;rcases UR.mp hm with hm|hm
    ·exact U4 _ (hy z hz hm)
    ·exact UG _ hm
   have t:=bN (aQ (a:=ab 3) (b:=ab 1) (ρ:=[some (.dat (.tuple ns)),some (.dat (.tuple lot)),some (.dat (.list fs)),some (.dat x),some (.dat (.list (fs.map λd=>PyData.tuple (aU d++[x]))))]) (h:=h) rfl rfl (jJ (w.AY hx) sd h))
   suffices fin:∃fs1,(aS (bP 4 (bR 1 (aH (ab 2)) (aq 0) cM (eV (fq (ab 0) (aa (ab 4) ah))))) (bP 2 (Dq (aI (ao mQ (ab 3) (ab 1))) (ab 4) (ao gv (ab 2) (ab 4))))) [some (.dat (.tuple ns)),some (.dat (.tuple lot)),some (.dat (.list fs)),some (.dat x),y4] h=.ok (.nx [some (.dat (.tuple ns)),some (.dat (.tuple lot)),some (.dat (.list fs1)),some (.dat x),some (.dat (.list (fs.map λd=>PyData.tuple (aU d++[x]))))]) h /\
     (∀d∈fs1,vh (pre++[x]) d/\∀z∈lot,z∈pre++[x]->z∈aU d)/\fs1.length<=2^(pre++[x]).length/\(∀ys,ys.Sublist (pre++[x])->(∀z∈lot,z∈pre++[x]->z∈ys)->.tuple ys∈fs1)by
    obtain⟨fs1,e1,h1,h2,h3⟩:=fin;obtain⟨fs2,u3,u4,e2,r⟩:=ih (pre++[x]) fs1 (some (.dat x)) (some (.dat (.list (fs.map λd=>PyData.tuple (aU d++[x]))))) (by rw[e];simp) h1 h2 h3;refine⟨fs2,u3,u4,?_,r⟩;simp only[Va,dz,aq,R.dB,R.aP,VP,VQ];rw[e1];exact e2
   have ends:∀ys,ys.Sublist (pre++[x])->(ys.Sublist pre)\/∃us,ys=us++[x]/\us.Sublist pre:=λys sy=>by
    obtain⟨us,vs,rfl,su,sv⟩:=XB.mp sy
    cases sv with
    |cons _ s0=>cases s0;exact .inl (by simpa using su)
    |cons_cons _ s0=>cases s0;exact .inr ⟨us,rfl,su⟩
   have mapin:∀us,us.Sublist pre->(∀z∈lot,z∈pre++[x]->z∈us++[x])->PyData.tuple (us++[x])∈fs.map (λd=>PyData.tuple (aU d++[x])):=λus su hz=>
    U2.mpr ⟨.tuple us,hA us su λz m q=>by
     rcases UR.mp (hz z m (U4 _ q))with r|r
     ·exact r
     ·rw[UU.mp r]at q;exact absurd q xp,rfl⟩
   cases q:jc lot x with
   |true=>
    rw[q]at t;have xl:=(cH sd).mp q;refine⟨_,aK (cb key) (cb (qh t rfl)),up,by rw[UX,U5];exact UO hl (Wj (by decide) (by simp)),λys sy hy=>?_⟩;rcases ends ys sy with su|⟨us,rfl,su⟩
    ·exact absurd (su.subset (hy x xl (by simp))) xp
    ·exact mapin us su hy
   |false=>
    rw[q]at t;have xl:x∉lot:=λm=>by rw[(cH sd).mpr m]at q;cases q
    refine⟨_,aK (cb key) (cb (qh t (aQ rfl rfl (xw h (by rw[UX];omega))))),λd m=>?_,by rw[U5,UX,U5];show _<=2^(pre.length+1);rw[Nat.pow_succ];omega,λys sy hy=>?_⟩
    ·rcases UR.mp m with m|m
     ·obtain⟨⟨ys,rfl,sy⟩,hy⟩:=hf d m;refine⟨⟨ys,rfl,sy.trans (List.sublist_append_left ..)⟩,λz hz hm=>?_⟩;rcases UR.mp hm with hm|hm
      ·exact hy z hz hm
      ·rw[UU.mp hm]at hz;exact absurd hz xl
     ·exact up d m
    ·rcases ends ys sy with su|⟨us,rfl,su⟩
     ·exact U4 _ (hA ys su λz hz hm=>hy z hz (U4 _ hm))
     ·exact UG _ (mapin us su hy)
 obtain⟨fs,z3,z4,e,hf,hA⟩:=loop ns [] [.tuple []] none none rfl (λd m=>by rw[UU.mp m];exact⟨⟨[],rfl,XT _⟩,by simp⟩) (by simp) (λys sy _=>by rw[List.sublist_nil.mp sy];simp);refine⟨fs,?_,λg m=>⟨(hf g m).1,λx hx=>(hf g m).2 x hx (s.subset hx)⟩,λys sy hy=>hA ys sy λx hx _=>hy x hx⟩;unfold f6 qR;exact ff rfl (aK (cb rfl) (aK (dE (AL rfl) e) (cI rfl)))
end
section
variable {ns ss lot:YD} {h:Hm}
def So(p s:PyData):Bool:=(aU p).isEmpty || ltB ((aU p).getLastD .none) s
def pk(spots:YD):Nat->YD
 |0=>[.tuple []]
 |m+1=>(pk spots m).flatMap λp=>(spots.filter (So p)).map λs=>.tuple (aU p++[s])
theorem A8{xs:YD}(h:xs≠[]):mS xs (-1)=some (xs.getLastD .none):=by
 have l:0<xs.length:=List.length_pos_iff.mpr h;unfold mS yf;rw[if_neg #[1],if_pos #[1]];have:((-1:Int)+(xs.length:Int)).toNat=xs.length-1:=by omega
 simp only[Option.bind_some,this];rw[UK #[1],Xk,List.getLast?_eq_getElem?,UK #[1]];rfl
theorem MW(ha:F5 a)(hb:F5 b)(h:Hm):oLt (.dat a) (.dat b) h=.ok (.bool (ltB a b)) h:=by
 have ta:=hV ha;have tb:=hV hb;refine JW ?_ ?_ #[1] (F4 (eG.c a b ha hb)) h
 ·simp[noDict,cu ta.2.1]
 simp[noDict,cu,tb]
theorem Kl(r:Rw F5 spots):∀(m:Nat),∀p∈pk spots m,∃xs,p=.tuple xs/\Rw F5 xs/\(∀d∈xs,d∈spots)/\xs.length=m
 |0,p,hp=>by rw[UU.mp hp];exact⟨[],rfl,⟨by simp,.nil⟩,by simp,rfl⟩
 |m+1,p,hp=>by
  obtain⟨q,hq,mq⟩:=Yw.mp hp;obtain⟨s,hs,rfl⟩:=U2.mp mq;obtain⟨xs,rfl,rx,sx,lx⟩:=Kl r m q hq;obtain⟨ms,cs⟩:=U0.mp hs;simp only[aU]
  have sub:∀d∈xs++[s],d∈spots:=λd hd=>by
   rcases UR.mp hd with hd|hd
   ·exact sx d hd
   ·rw[UU.mp hd];exact ms
  refine⟨xs++[s],rfl,⟨λd hd=>r.sub d (sub d hd),Wi.mpr ⟨rx.ris,List.pairwise_singleton ..,λa ha b hb=>?_⟩⟩,sub,by simp[lx]⟩;rw[UU.mp hb];simp only[So,aU,Wn,List.isEmpty_iff]at cs;rcases cs with rfl|cs
  ·simp at ha
  ·
   have ne:xs≠[]:=λe=>by rw[e]at ha;simp at ha
   have eL:xs=xs.dropLast++[xs.getLast ne]:=(List.dropLast_concat_getLast ne).symm;have lastD:xs.getLastD .none=xs.getLast ne:=by rw[Xk,List.getLast?_eq_getLast ne];rfl
   rw[lastD]at cs;have hpw:=rx.ris;rw[eL]at ha hpw;rcases UR.mp ha with ha|ha
   ·have h1:=(Wi.mp hpw).2.2 a ha (xs.getLast ne) (by simp);exact JX (eG.cmp r.sub) (eG.Di r.sub) (sx a (by rw[eL];exact U4 _ ha)) (sx _ (List.getLast_mem ne)) ms h1 cs
   ·rw[UU.mp ha];exact cs
theorem Km(hs:spots.length<=16):∀m,(pk spots m).length<=16^m
 |0=>by simp[pk]
 |m+1=>by
  refine UO (AQ (n:=16) λa=>?_) ?_
  ·grind
  ·exact Nat.mul_le_mul_right _ (Km hs m)
abbrev RL:MS:=(aS (bP 2 (pF 2 (aH (ab 2)) (aq 0) cM (aH (ab 2)) (aq 1) (xE (eI (aR (ab 0))) (aI (ao oLt (ao gU (ab 0) (aj (.int (-1)))) (ab 1)))) (eV (fq (ab 0) (aa (ab 1) ah)))))
  (Jj 1 (aj (.int 1))))
theorem MX(r:Rw F5 spots)(hs:spots.length<=16)(m:Nat)(hm:m<=1)(j:Int)(h:Hm):RL [some (.dat (.list spots)),some (.int j),some (.dat (.list (pk spots m)))] h=.ok (.nx [some (.dat (.list spots)),some (.int (j-1)),some (.dat (.list (pk spots (m+1))))]) h:=by
 have lp:(pk spots m).length<=16:=UO (Km hs m) (UO (Wj (by decide) hm) (by decide))
 have key:=xB (n:=2) (it:=aH (ab 2)) (g:=aq 0) (it2:=aH (ab 2)) (g2:=aq 1) (t2:=xE (eI (aR (ab 0))) (aI (ao oLt (ao gU (ab 0) (aj (.int (-1)))) (ab 1)))) (e:=eV (fq (ab 0) (aa (ab 1) ah))) (ρ:=[some (.dat (.list spots)),some (.int j),some (.dat (.list (pk spots m)))]) (h:=h) (ds:=pk spots m) (es:=spots) (by simp)
  (UO (Nat.add_le_add (XY lp hs) hs) (by decide)) #[1] (λa ρ=>∃z,ρ=[some (.dat a),z,some (.dat (.list spots)),some (.int j),some (.dat (.list (pk spots m)))]) So (λp s=>.tuple (aU p++[s])) (λa _=>⟨_,rfl,by simp,_,rfl⟩) (λa ha b hb ρ ⟨z,e⟩=>by
   subst e;obtain⟨xs,rfl,rx,sx,lx⟩:=Kl r m a ha;refine⟨_,rfl,?_,λ_=>CL rfl rfl (by show xs.length<=1000;omega) h,_,rfl⟩
   have c1:eI (aR (ab 0)) [some (.dat (.tuple xs)),some (.dat b),some (.dat (.list spots)),some (.int j),some (.dat (.list (pk spots m)))] h=.ok xs.isEmpty h:=by
    simp_all
   by_cases ne:xs=[]
   ·subst ne;exact Ka c1
   ·have e1:xs.isEmpty=false:=by cases xs<;>simp_all
    rw[e1]at c1;have lastIn:xs.getLastD .none∈xs:=by rw[Xk,List.getLast?_eq_getLast ne];exact List.getLast_mem ne
    have c2:=bN (aQ (f:=oLt) (a:=ao gU (ab 0) (aj (.int (-1)))) (b:=ab 1) (ρ:=[some (.dat (.tuple xs)),some (.dat b),some (.dat (.list spots)),some (.int j),some (.dat (.list (pk spots m)))]) (h:=h) (aQ (x:=.dat (.tuple xs)) rfl (y:=.int (-1)) rfl (by simp[gU,iU,Dv,A8 ne])) rfl (MW (rx.sub _ lastIn) (r.sub b hb) h));have:=EA c1 c2
    simpa [So,aU,e1]using this)
 exact aK (cb key) rfl
theorem Kn(r:Rw F5 spots)(hs:spots.length<=16)(m:Nat)(hm:m<=2)(h:Hm):hE [.dat (.list spots),.int m] h=.ok (.dat (.list (pk spots m))) h:=by
 have go:∀(n j:Nat),j<n->j<=m->∃x1,lF (aI (ao Bj (ab 1) (aj (.int 0)))) RL n [some (.dat (.list spots)),some (.int j),some (.dat (.list (pk spots (m-j))))] h=.ok (.nx [some (.dat (.list spots)),x1,some (.dat (.list (pk spots m)))]) h:=by
  intro n
  induction n with
  |zero=>omega
  |succ n ih=>
   intro j hj hjm;have c:=bN (aQ (f:=Bj) (a:=ab 1) (b:=aj (.int 0)) (ρ:=[some (.dat (.list spots)),some (.int (j:Int)),some (.dat (.list (pk spots (m-j))))]) (h:=h) rfl rfl (r:=.ok (.bool (decide ((0:Int)<j))) h) rfl);unfold lF;rw[c];simp only[R.dB,R.aP];by_cases q:0<j
   ·rw[WX (by omega:(0:Int)<j)];obtain⟨x1,e⟩:=ih (j-1) #[1] #[1];have st:=MX r hs (m-j) #[1] (j:Int) h;have e1:(j:Int)-1=((j-1:Nat):Int):=by omega
    have e2:m-j+1=m-(j-1):=by omega
    rw[e1,e2]at st;refine⟨x1,?_⟩;simp only[VC,st,R.dB,R.aP];exact e
   grind
 obtain⟨x1,e⟩:=go 9 m #[1] (UJ _);rw[Nat.sub_self]at e;unfold hE FF;exact ff rfl (aK (cb rfl) (aK e (cI rfl)))
theorem ze(hs:∀d∈xs,aC d=true)(nd:xs.Nodup):jx xs=xs:=by
 induction xs with
 |nil=>rfl
 |cons x xs ih=>
  have n:xs.any (PyData.eqv x)=false:=by
   cases e:xs.any _ with
   |false=>rfl
   |true=>exact absurd ((i8 (λd m=>hs d (by simp[m])) (hs x (by simp))).mp e) (VE.mp nd).1
  simp_all[jx]
structure Ch(ns c:YD):Prop where
 r:Rw F5 c
 cl:∀a b,.tuple [a,b]∈c->a∈ns/\b∈ns
 le:c.length<=30
def tu(ss c:YD):YD:=c6 ltB (pG ss c)
theorem Ga(w:Wb 25 ns ss)(l5:ns.length<=5)(hc:Ch ns c)(h:Hm):(il [.dat (WD ns ss),.dat (.list c)] h=.ok (.dat (WD ns (tu ss c))) h/\il [.dat (WD ns ss),.dat (.tuple c)] h=.ok (.dat (WD ns (tu ss c))) h)/\Wb 25 ns (tu ss c):=by
 have st:∀d∈ss,aC d=true:=λd m=>eG.st d (w.sr.sub d m);have st2:∀d∈c,aC d=true:=λd m=>eG.st d (hc.r.sub d m);have n1:=gu eG w.sr;have n2:=gu eG hc.r
 have xe:pG ss c=ss.filter (λd=>!c.any (PyData.eqv d))++c.filter (λd=>!ss.any (PyData.eqv d)):=by
  simp_all[pG,ze,st,n1,st2,n2]
 have mem:∀d∈pG ss c,d∈ss\/d∈c:=λd m=>by
  rw[xe]at m;rcases UR.mp m with m|m
  ·exact .inl (U0.mp m).1
  ·exact .inr (U0.mp m).1
 have pp:∀d∈pG ss c,F5 d:=λd m=>(mem d m).elim (w.sr.sub d) (hc.r.sub d);have nd:(pG ss c).Nodup:=by rw[xe];refine Wl.mpr ⟨Yo Wq n1,Yo Wq n2,λp hp q hq e=>?_⟩;subst e;have h1:=(U0.mp hp).2;rw[(i8 st2 (st p (U0.mp hp).1)).mpr (U0.mp hq).1]at h1;simp at h1
 have lx:(pG ss c).length<=55:=by rw[xe,U5];have a1:=Vn (λd=>!c.any (PyData.eqv d)) ss;have a2:=Vn (λd=>!ss.any (PyData.eqv d)) c;have:=w.le;have:=hc.le;omega
 have so:=eG.TJ pp #[1];have s1:=eG.set w.sr.sub (by have:=w.le;omega);have s2:setOk (ss++c)=true:=eG.set (λd m=>(UR.mp m).elim (w.sr.sub d) (hc.r.sub d)) (by have:=w.le;have:=hc.le;simp;omega)
 have run:∀x,gx x h=some c->il [.dat (WD ns ss),x] h=.ok (.dat (WD ns (tu ss c))) h:=λx ex=>by
  have ev:u7 pG (ao gU (ab 0) (aj (.int 1))) (ab 1) [some (.dat (WD ns ss)),some x] h=.ok (.dat (.list (tu ss c))) h:=by have e0:ao gU (ab 0) (aj (.int 1)) [some (.dat (WD ns ss)),some x] h=.ok (.dat (.tuple ss)) h:=aQ (x:=.dat (WD ns ss)) rfl (y:=.int 1) rfl rfl;have e1:ab 1 [some (.dat (WD ns ss)),some x] h=.ok x h:=rfl;have e2:gx (.dat (.tuple ss)) h=some ss:=rfl;simp only[u7,e0,R.aP,e2,s1,VC,e1,ex,s2,so,Bool.and_self,tu]
  exact ff rfl (cI (mE (a:=.tuple ns) (aQ (x:=.dat (WD ns ss)) rfl (y:=.int 0) rfl rfl) (aF (cy ev rfl) rfl)))
 refine⟨⟨run _ rfl,run _ rfl⟩,⟨w.nr,vg eG pp nd,λa b m=>?_,?_⟩⟩
 ·rcases mem _ ((aW _ _).mem_iff.mp m)with m|m
  ·exact w.cl a b m
  ·exact hc.cl a b m
 ·unfold tu;rw[(aW _ _).length_eq];have h1:=kW (ys:=ns.flatMap λa=>ns.map λb=>PyData.tuple [a,b]) nd λq m=>by obtain⟨a,b,_,_,rfl⟩:=pp q m;obtain⟨ha,hb⟩:=(mem _ m).elim (w.cl a b) (hc.cl a b);exact Yw.mpr ⟨a,ha,U2.mpr ⟨b,hb,rfl⟩⟩
  simp only[List.length_flatMap,UX]at h1;rw[List.map_const',List.sum_replicate_nat]at h1;exact UO h1 (XY l5 l5)
theorem Ko(w:Wb 25 ns ss):tu ss []=ss:=by
 have e:pG ss []=ss:=by unfold pG;rw[ze (λd m=>eG.st d (w.sr.sub d m)) (gu eG w.sr)];simp[jx]
 unfold tu;rw[e];exact ND eG (vg eG w.sr.sub (gu eG w.sr)) w.sr λd=>(aW _ _).mem_iff
end
section
variable {ns ss lot:YD} {h:Hm} {k:K3}
theorem Kp(w:Wb 25 ns ss)(s:lot.Sublist ns):y0 ns (.tuple lot)=true:=by have h1  := cD.mpr λx m=>(cH w.sd).mpr (s.subset m);simp[y0,h1,AM (w.nr.toRw.tJ s)]
def inner(ss lot:YD):YD:=ss.filter λp=>jc lot (jS p)&&jc lot (mD p)
def fg(lot:YD):Rel:=λa b=>!jc lot a || !jc lot b
def chg(ss lot:YD)(p:PyData):YD:=c6 ltB (inner ss lot++aU p)
def AU(k:K3)(ns ss lot gs:YD)(ps:YD):Option YD:=ps.findSome? λp=>if nW k ns (tu ss (chg ss lot p)) gs then some (chg ss lot p)else none
def gP(k:K3)(ns ss lot gs:YD)(n:Nat):Option YD:=(List.range n).findSome? λm=>AU k ns ss lot gs (pk (rows ns (fg lot)) m)
def CM:Option YD->PyData
 |some c=>.tuple c
 |none=>.none
theorem EE(w:Wb 25 ns ss)(s:lot.Sublist ns)(l5:ns.length<=4)(hm:m<=2)(hp:p∈pk (rows ns (fg lot)) m) :
  ∃xs,p=.tuple xs/\xs.length=m/\Ch ns (chg ss lot p)/\(chg ss lot p).length=(inner ss lot).length+m/\eO (inner ss lot++xs)=true:=by
 have sd:=cJ w s;obtain⟨xs,rfl,rx,sx,lx⟩:=Kl (F9 w.nr) m p hp
 have hi:∀d∈inner ss lot,d∈ss/\jc lot (jS d)=true/\jc lot (mD d)=true:=λd m=>by
  obtain⟨q,r⟩:=U0.mp m
  grind
 have pp:∀d∈inner ss lot++xs,F5 d:=λd m=>(UR.mp m).elim (λq=>w.sr.sub d (hi d q).1) (rx.sub d)
 have nd:(inner ss lot++xs).Nodup:=Wl.mpr ⟨Yo Wq (gu eG w.sr),gu eG rx,λa ha b hb e=>by
  subst e;obtain⟨x,y,rfl,_,_,r⟩:=tK.mp (sx a hb);have:=hi _ ha;simp only[jS,mD]at this
  simp[fg,this.2.1,this.2.2]at r⟩
 have li:(inner ss lot).length<=25:=UO (Vn ..) w.le;have so:=eG.TJ pp (by rw[U5];omega);refine⟨xs,rfl,lx,⟨vg eG pp nd,λa b m=>?_,?_⟩,?_,so⟩
 ·rcases UR.mp ((aW _ _).mem_iff.mp m)with m|m
  ·exact w.cl a b (hi _ m).1
  ·obtain⟨x,y,e,hx,hy,_⟩:=tK.mp (sx _ m);simp at e;obtain⟨rfl,rfl⟩:=e;exact⟨hx,hy⟩
 ·show(c6 ltB (inner ss lot++xs)).length<=30;rw[(aW _ _).length_eq,U5];omega
 ·show(c6 ltB (inner ss lot++xs)).length=_;rw[(aW _ _).length_eq,U5,lx]
abbrev EF:MS:=(aS (bP 12 (af et (aa (uF (fq (ab 7) (fq (ab 11) ah))) ah)))
  (jq (aR (af gb (aa (af il (aa (ab 0) (aa (ab 12) ah))) (aa (ab 9) (aa (ab 2) ah))))) (bw (af jt (aa (ab 12) ah))) bM))
abbrev eρ(k:K3)(ns ss lot gs:YD)(b:Bool)(most:Nat)(y10 y11 y12:Option D):Fm:=
 [some (.dat (WD ns ss)),some (.dat (.tuple lot)),some (.dat (.str k.nm)),some (.bool b),some (.int most),some (.dat (.tuple ns)),some (.dat (.tuple ss)),some (.dat (.list (inner ss lot))),some (.dat (.list (rows ns (fg lot)))),some (.dat (.list gs)),y10,y11,y12]
theorem MY(w:Wb 25 ns ss)(s:lot.Sublist ns)(l5:ns.length<=4)(hg:∀g∈gs,vh ns g)(hm:m<=2)(h:Hm) :
  ∀(ps:YD) (y11 y12:Option D),(∀p∈ps,p∈pk (rows ns (fg lot)) m)->∃z11 z12,dz (aq 11) EF (ps.map D.dat) (eρ k ns ss lot gs b most y10 y11 y12) h=match AU k ns ss lot gs ps with
   |some c=>.ok (.rt (.dat (.tuple c))) h
   |none=>.ok (.nx (eρ k ns ss lot gs b most y10 z11 z12)) h:=by
 intro ps
 induction ps with
 |nil=>exact λy11 y12 _=>⟨y11,y12,rfl⟩
 |cons p ps ih=>
  intro y11 y12 H;obtain⟨z11,z12,e⟩:=ih (some (.dat p)) (some (.dat (.list (chg ss lot p)))) λq m=>H q (UI _ m);obtain⟨xs,rfl,lx,hc,lc,so⟩:=EE w s l5 hm (H p (.head _));obtain⟨⟨t1,_⟩,w2⟩:=Ga w #[1] hc h;have li:(inner ss lot).length<=25:=UO (Vn ..) w.le
  have e1:bP 12 (af et (aa (uF (fq (ab 7) (fq (ab 11) ah))) ah)) (eρ k ns ss lot gs b most y10 (some (.dat (.tuple xs))) y12) h=.ok (.nx (eρ k ns ss lot gs b most y10 (some (.dat (.tuple xs))) (some (.dat (.list (chg ss lot (.tuple xs))))))) h:=by
   have mk:=lu (inner ss lot++xs) h (by rw[U5];omega);rw[List.map_append]at mk;have bs:et [.dat (.list (inner ss lot++xs))] h=.ok (.dat (.list (chg ss lot (.tuple xs)))) h:=by simp only[et,listOf,so,VC];rfl
   refine cb (aF (xs:=[.dat (.list (inner ss lot++xs))]) (cy ?_ rfl) bs);unfold uF;refine(nU (xs:=(inner ss lot).map D.dat++xs.map D.dat) (h1:=h) ?_).trans mk;simp[fq,gx,listOf]
  have c:=eU (aF (ρ:=eρ k ns ss lot gs b most y10 (some (.dat (.tuple xs))) (some (.dat (.list (chg ss lot (.tuple xs)))))) (cy (e:=af il (aa (ab 0) (aa (ab 12) ah))) (aF (xs:=[.dat (WD ns ss),.dat (.list (chg ss lot (.tuple xs)))]) rfl t1) (cy (e:=ab 9) rfl (cy (e:=ab 2) (a:=ah) rfl rfl))) (ED k w2 hg h));refine⟨z11,z12,?_⟩;simp only[Va,dz,aq,R.dB,R.aP,VP,VQ]
  cases q:nW k ns (tu ss (chg ss lot (.tuple xs))) gs with
  |true=>
   rw[q]at c;have st:EF (eρ k ns ss lot gs b most y10 (some (.dat (.tuple xs))) y12) h=.ok (.rt (.dat (.tuple (chg ss lot (.tuple xs))))) h:=aK e1 (Ez c (cI (aF rfl rfl)));have f1:AU k ns ss lot gs (.tuple xs::ps)=some (chg ss lot (.tuple xs)):=by simp[AU,q]
   rw[st,f1];rfl
  |false=>
   rw[q]at c;have st:EF (eρ k ns ss lot gs b most y10 (some (.dat (.tuple xs))) y12) h=.ok (.nx (eρ k ns ss lot gs b most y10 (some (.dat (.tuple xs))) (some (.dat (.list (chg ss lot (.tuple xs))))))) h:=aK e1 (tI c rfl);have f1:AU k ns ss lot gs (.tuple xs::ps)=AU k ns ss lot gs ps:=by simp[AU,q]
   rw[st,f1];exact e
theorem Kq(w:Wb 25 ns ss)(s:lot.Sublist ns)(l5:ns.length<=4)(hg:∀g∈gs,vh ns g)(h:Hm):∀(ms:List Nat) (y10 y11 y12:Option D),(∀m∈ms,m<=2) ->
  ∃z10 z11 z12,dz (aq 10) (ie (aH (af hE (aa (ab 8) (aa (ab 10) ah)))) (aq 11) EF) (ms.map λ(m:Nat)=>D.int (0+(m:Int))) (eρ k ns ss lot gs b most y10 y11 y12) h=match ms.findSome? (λm=>AU k ns ss lot gs (pk (rows ns (fg lot)) m))with
   |some c=>.ok (.rt (.dat (.tuple c))) h
   |none=>.ok (.nx (eρ k ns ss lot gs b most z10 z11 z12)) h:=by
 have lr:(rows ns (fg lot)).length<=16:=UO Kj (XY l5 l5);intro ms
 induction ms with
 |nil=>exact λy10 y11 y12 _=>⟨y10,y11,y12,rfl⟩
 |cons m ms ih=>
  intro y10 y11 y12 H;have pe:hE [.dat (.list (rows ns (fg lot))),.int (0+(m:Int))] h=.ok (.dat (.list (pk (rows ns (fg lot)) m))) h:=by rw[Int.zero_add];exact Kn (F9 w.nr) lr m (H m (.head _)) h
  obtain⟨u11,u12,e1⟩:=MY (k:=k) (b:=b) (most:=most) (y10:=some (.int (0+(m:Int)))) w s l5 hg (H m (.head _)) h (pk (rows ns (fg lot)) m) y11 y12 λp q=>q;obtain⟨z10,z11,z12,e2⟩:=ih (some (.int (0+(m:Int)))) u11 u12 λq r=>H q (UI _ r);refine⟨z10,z11,z12,?_⟩;have it:aH (af hE (aa (ab 8) (aa (ab 10) ah))) (eρ k ns ss lot gs b most (some (.int (0+(m:Int)))) y11 y12) h=.ok ((pk (rows ns (fg lot)) m).map D.dat) h:=mC (aF (xs:=[.dat (.list (rows ns (fg lot))),.int (0+(m:Int))]) rfl pe);simp only[Va,dz,aq,R.dB,R.aP,VP,VQ,List.findSome?_cons];rw[dE it e1]
  cases q:AU k ns ss lot gs (pk (rows ns (fg lot)) m)with
  |some c=>rfl
  |none=>simp only[R.dB,R.aP];exact e2
theorem Hk(b:Bool)(most:Nat)(hm:most<=4)(h:Hm):f7 [.bool b,.int most] h=.ok D.none h:=by
 have:(most:Int)<=4:=by omega
 simp_all[f7,ng,v8,pC,RX,rL]
structure nX(b:Bool)(ns lot gs:YD):Prop where
 ok:∀g∈gs,vh ns g/\∀x∈lot,x∈aU g
 st:b=true->gs=[.tuple lot]
 all:b=false->∀ys,ys.Sublist ns->(∀x∈lot,x∈ys)->.tuple ys∈gs
theorem uB(w:Wb 25 ns ss)(l5:ns.length<=4)(s:lot.Sublist ns)(k:K3)(b:Bool)(h:Hm):∃gs,nX b ns lot gs/\∀most:Nat,most<=2->bV [.dat (WD ns ss),.dat (.tuple lot),.dat (.str k.nm),.bool b,.int most] h=.ok (.dat (CM (gP k ns ss lot gs (most+1-(inner ss lot).length)))) h:=by
 have sd:=cJ w s;have ol:Ok 84 1 (.tuple lot):=(kG.sub (es:=lot) (λd m=>w.AY m) λd m=>s.subset m).tup.mono (by have:=s.length_le;omega) (UJ _);have li:(inner ss lot).length<=25:=UO (Vn ..) w.le;obtain⟨gw,ew,hw,aw⟩:=Kk w #[1] s h
 obtain⟨gs,G,eg⟩:∃gs,nX b ns lot gs/\∀ρ:Fm,ρ[1]?=some (some (.dat (.tuple lot)))->ρ[3]?=some (some (.bool b))->ρ[5]?=some (some (.dat (.tuple ns)))->Dq (aR (ab 3)) (uF (aa (ab 1) ah)) (af f6 (aa (ab 5) (aa (ab 1) ah))) ρ h=.ok (.dat (.list gs)) h:=by
  cases b with
  |true=>refine⟨[.tuple lot],⟨λg m=>by rw[UU.mp m];exact⟨⟨lot,rfl,s⟩,λx q=>q⟩,λ_=>rfl,λz=>by cases z⟩,λρ e1 e3 e5=>qh (eU (c:=true) (h1:=h) (by simp[e3])) ?_⟩;rw[if_pos rfl];unfold uF;exact(nU (cy (x:=.dat (.tuple lot)) (by simp[e1]) rfl)).trans (PU _ _)
  |false=>refine⟨gw,⟨hw,(λz=>by cases z),λ_=>aw⟩,λρ e1 e3 e5=>qh (eU (c:=false) (h1:=h) (by simp[e3])) ?_⟩;rw[if_neg (by simp)];exact aF (xs:=[.dat (.tuple ns),.dat (.tuple lot)]) (by simp[e1,e5]) ew
 refine⟨gs,G,λmost hm=>?_⟩
 have ce:eZ [.dat (WD ns ss),.dat (.tuple lot),.dat (.str k.nm)] h=.ok D.none h:=by
  have c1:=Ey w (by decide) h;have c2:j8 [.dat (WD ns ss),.int 5] h=.ok D.none h:=by simp[j8,tZ,show ¬ (5:Int)<ns.length by omega]
  have c3:j7 [.dat (WD ns ss),.dat (.tuple lot)] h=.ok D.none h:=by have:=He ol (by decide) w.sd h;rw[Kp w s]at this;simp[j7,tY,this]
  have c4:aI (ao gF (ab 2) (RV eY)) [some (.dat (WD ns ss)),some (.dat (.tuple lot)),some (.dat (.str k.nm))] h=.ok false h:=by cases k<;>rfl
  have st:kR [some (.dat (WD ns ss)),some (.dat (.tuple lot)),some (.dat (.str k.nm))] h=.ok (.nx [some (.dat (WD ns ss)),some (.dat (.tuple lot)),some (.dat (.str k.nm))]) h:=
   aK (je (aF rfl c1)) (aK (je (aF (xs:=[.dat (WD ns ss),.int 5]) rfl c2)) (aK (je (aF (xs:=[.dat (WD ns ss),.dat (.tuple lot)]) rfl c3)) (tI c4 rfl)))
  unfold eZ aY;simp only[Vf,V9,VC,Va,Yn,X6,Xz,show 3-3=0 from rfl,rep0,V1];rw[st];rfl
 have ki:=fS (n:=2) (it:=aH (ab 6)) (g:=jO (bS (aq 0) (bS (aq 1) jN))) (t:=vm (aI (ao mQ (ab 0) (ab 3))) (aI (ao mQ (ab 1) (ab 3)))) (e:=eV (aa (ab 0) (aa (ab 1) ah))) (ρ:=[some (.dat (WD ns ss)),some (.dat (.tuple lot)),some (.dat (.str k.nm)),some (.bool b),some (.int most),some (.dat (.tuple ns)),some (.dat (.tuple ss)),none,none,none,none,none,none]) (h:=h) (h1:=h) (ds:=ss) (by simp) (by have:=w.le;omega) (λp=>jc lot (jS p)&&jc lot (mD p)) id (λp hp=>by
  obtain⟨a,c,rfl,ha,hc⟩:=w.get hp
  exact⟨_,rfl,F6 (bN (aQ rfl rfl (jJ (w.AY ha) sd h))) (bN (aQ rfl rfl (jJ (w.AY hc) sd h))),λ_=>mE rfl rfl⟩)
 rw[List.map_id]at ki
 have ks:=xB (n:=2) (it:=aH (ab 5)) (g:=aq 0) (it2:=aH (ab 7)) (g2:=aq 1) (t2:=xE (aI (ao gF (ab 0) (ab 3))) (aI (ao gF (ab 1) (ab 3)))) (e:=eV (aa (ab 0) (aa (ab 1) ah))) (ρ:=[some (.dat (WD ns ss)),some (.dat (.tuple lot)),some (.dat (.str k.nm)),some (.bool b),some (.int most),some (.dat (.tuple ns)),some (.dat (.tuple ss)),some (.dat (.list (inner ss lot))),none,none,none,none,none]) (h:=h) (ds:=ns) (es:=ns) (by simp)
  (UO (Nat.add_le_add (XY l5 l5) l5) (by decide)) #[1] (λa ρ=>∃z,ρ=[some (.dat a),z,some (.dat (WD ns ss)),some (.dat (.tuple lot)),some (.dat (.str k.nm)),some (.bool b),some (.int most),some (.dat (.tuple ns)),some (.dat (.tuple ss)),some (.dat (.list (inner ss lot))),none,none,none,none,none]) (fg lot) (λa c=>.tuple [a,c]) (λa _=>⟨_,rfl,by simp,_,rfl⟩) (λa ha c hc ρ ⟨z,e⟩=>by
   subst e
   exact⟨_,rfl,P1 (bN (aQ rfl rfl (AF (w.AY ha) sd h))) (bN (aQ rfl rfl (AF (w.AY hc) sd h))),λ_=>mE rfl rfl,_,rfl⟩)
 have ks':pF 2 (aH (ab 5)) (aq 0) cM (aH (ab 7)) (aq 1) (xE (aI (ao gF (ab 0) (ab 3))) (aI (ao gF (ab 1) (ab 3)))) (eV (aa (ab 0) (aa (ab 1) ah))) [some (.dat (WD ns ss)),some (.dat (.tuple lot)),some (.dat (.str k.nm)),some (.bool b),some (.int most),some (.dat (.tuple ns)),some (.dat (.tuple ss)),some (.dat (.list (inner ss lot))),none,none,none,none,none] h=.ok (.dat (.list (rows ns (fg lot)))) h:=ks
 have rg:ic (aa (ao gv (ao xN (ab 4) (af iI (aa (ab 7) ah))) (aj (.int 1))) ah) (eρ k ns ss lot gs b most none none none) h=.ok (nums 0 (most+1-(inner ss lot).length)) h:=by
  have:=zc (a:=aa (ao gv (ao xN (ab 4) (af iI (aa (ab 7) ah))) (aj (.int 1))) ah) (ρ:=eρ k ns ss lot gs b most none none none) (h:=h) (h1:=h) (j:=(most:Int)-(inner ss lot).length+1) rfl #[1];have e:((most:Int)-(inner ss lot).length+1).toNat=most+1-(inner ss lot).length:=by omega
  rwa [e]at this
 obtain⟨z10,z11,z12,eo⟩:=Kq (k:=k) (b:=b) (most:=most) w s l5 (λg m=>(G.ok g m).1) h (List.range (most+1-(inner ss lot).length)) none none none λm q=>by have:=Vm.mp q;omega
 have pre:∀r:R Fl,ie (ic (aa (ao gv (ao xN (ab 4) (af iI (aa (ab 7) ah))) (aj (.int 1))) ah)) (aq 10) (ie (aH (af hE (aa (ab 8) (aa (ab 10) ah)))) (aq 11) EF) (eρ k ns ss lot gs b most none none none) h=r->dz (aq 10) (ie (aH (af hE (aa (ab 8) (aa (ab 10) ah)))) (aq 11) EF) (nums 0 (most+1-(inner ss lot).length)) (eρ k ns ss lot gs b most none none none) h=r:=λr e=>by rw[<- e];exact(dE rg rfl).symm
 have go:∀(last:R Fl) (d:PyData),last=.ok (.rt (.dat d)) h->pJ [some (.dat (WD ns ss)),some (.dat (.tuple lot)),some (.dat (.str k.nm)),some (.bool b),some (.int most),none,none,none,none,none,none,none,none] h=last->bV [.dat (WD ns ss),.dat (.tuple lot),.dat (.str k.nm),.bool b,.int most] h=.ok (.dat d) h:=λlast d e1 e2=>by unfold bV;exact ff rfl (e2.trans e1)
 have heads:∀r:R Fl,aS (ie (ic (aa (ao gv (ao xN (ab 4) (af iI (aa (ab 7) ah))) (aj (.int 1))) ah)) (aq 10) (ie (aH (af hE (aa (ab 8) (aa (ab 10) ah)))) (aq 11) EF)) (bw (aj .none)) (eρ k ns ss lot gs b most none none none) h=r->pJ [some (.dat (WD ns ss)),some (.dat (.tuple lot)),some (.dat (.str k.nm)),some (.bool b),some (.int most),none,none,none,none,none,none,none,none] h=r:=λr e=>
  aK (je (aF (xs:=[.dat (WD ns ss),.dat (.tuple lot),.dat (.str k.nm)]) rfl ce)) (aK (je (aF (xs:=[.bool b,.int most]) rfl (Hk b most #[1] h))) (aK (qg rfl rfl) (aK (cb ki) (aK (cb ks') (aK (cb (eg _ rfl rfl rfl)) e)))))
 have es:gP k ns ss lot gs (most+1-(inner ss lot).length)=(List.range (most+1-(inner ss lot).length)).findSome? (λm=>AU k ns ss lot gs (pk (rows ns (fg lot)) m)):=rfl;rw[es]
 cases q:(List.range (most+1-(inner ss lot).length)).findSome? (λm=>AU k ns ss lot gs (pk (rows ns (fg lot)) m))with
 |some c=>rw[q]at eo;exact go _ _ rfl (heads _ (AN (dE rg eo)))
 |none=>rw[q]at eo;exact go _ _ rfl (heads _ (aK (dE rg eo) (cI rfl)))
end
section
variable {ns ss lot:YD} {h:Hm}
theorem AV{c:YD->Bool}(w:Wb 25 ns ss)(l5:ns.length<=5)(H:∀lot,lot.Sublist ns->f [.dat (WD ns ss),.dat (.tuple lot)] h=.ok (.bool (c lot)) h) :
  ∃ds,aY 1 1 (bw (bR 1 (aH (af b8 (aa (ab 0) ah))) (aq 0) (aR (af f (aa (ab 1) (aa (ab 0) ah)))) (ab 0))) [.dat (WD ns ss)] h=.ok (.dat (.list ds)) h/\(∀d∈ds,vh ns d)/\ds.length<64/\∀ys,ys.Sublist ns->(.tuple ys∈ds<->(P7 ss ys&&c ys)=true):=by
 obtain⟨ps,e,hp,hl,ha⟩:=Hi w l5 h
 have key:=fS (n:=1) (it:=aH (af b8 (aa (ab 0) ah))) (g:=aq 0) (t:=aR (af f (aa (ab 1) (aa (ab 0) ah)))) (e:=ab 0) (ρ:=[some _]) (mC (aF rfl e)) #[1] (λd=>c (aU d)) id (λd m=>by
  obtain⟨lot,rfl,s⟩:=hp d m
  exact⟨_,rfl,eU (aF rfl (H lot s)),λ_=>rfl⟩)
 rw[List.map_id]at key;refine⟨_,ff rfl (cI key),λd m=>hp d (U0.mp m).1,Ym (Vn ..) hl,λys sy=>?_⟩;rw[U0,ha ys sy,UH,AS w sy];rfl
theorem Kr(k:K3)(w:Wb 25 ns ss)(l5:ns.length<=5)(h:Hm):∃ds,pI [.dat (WD ns ss),.dat (.str k.nm)] h=.ok (.dat (.list ds)) h/\(∀d∈ds,vh ns d)/\ds.length<64/\∀ys,ys.Sublist ns->(.tuple ys∈ds<->(P7 ss ys&&k.jd ns ss ys)=true):=by
 have c1:=Ey w (by decide) h;have c2:lW [.dat (.str k.nm)] h=.ok D.none h:=by cases k<;>rfl
 have run:∀{n:Str} {F:Fn} {ds:YD},ox.lookup k.nm=some n->([("grounded_lots",fB),("preferred_lots",eW),("stable_lots",g9),("standing_lots",dF),("whole_lots",i9)]:List (Str×Fn)).lookup n=some F->F [.dat (WD ns ss)] h=.ok (.dat (.list ds)) h->pI [.dat (WD ns ss),.dat (.str k.nm)] h=.ok (.dat (.list ds)) h:=by
  intro n F ds e1 e2 e3;unfold pI Jv;refine ff rfl (aK (je (aF rfl c1)) (aK (je (aF rfl c2)) (aK (cb (x:=.fn n) (h1:=h) ?_) (cI ?_))))
  ·simp[yG,e1]
  ·unfold lY;show(match ([("grounded_lots",fB),("preferred_lots",eW),("stable_lots",g9),("standing_lots",dF),("whole_lots",i9)]:List (Str×Fn)).lookup n with|some F=>_|none=>_)=_;rw[e2];exact aF rfl e3
 cases k with
 |st=>obtain⟨ds,e,r⟩:=AV (h:=h) (f:=cZ) (c:=λg=>K3.st.jd ns ss g) w l5 λlot s=>CI w s h;exact⟨ds,run rfl rfl e,r⟩
 |wh=>obtain⟨ds,e,r⟩:=AV (h:=h) (f:=fJ) (c:=λg=>K3.wh.jd ns ss g) w l5 λlot s=>CJ w s h;exact⟨ds,run rfl rfl e,r⟩
 |sb=>obtain⟨ds,e,r⟩:=AV (h:=h) (f:=dA) (c:=λg=>K3.sb.jd ns ss g) w l5 λlot s=>zd w s h;exact⟨ds,run rfl rfl e,r⟩
theorem CN(w:Wb 25 ns ss)(l:vh ns d):av d=true/\d.depth<=1:=by obtain⟨xs,rfl,s⟩:=l;exact⟨by simp[av,cK (cJ w s)],by simp[PyData.depth,qf (cJ w s)]⟩
theorem Gb(w:Wb 25 ns ss)(s:lot.Sublist ns):∀{ds:YD},(∀x∈ds,vh ns x)->Ij (.tuple lot) ds=some (decide (.tuple lot∈ds))
 | [],_=>rfl
 |x::ds,H=>by
  have ih:=Gb w s (ds:=ds) λy q=>H y (UI _ q);obtain⟨tx,dx⟩:=CN w (H x (.head _));obtain⟨tl,dl⟩:=CN w (d:=.tuple lot) ⟨lot,rfl,s⟩;obtain⟨xs,rfl,sx⟩:=H x (.head _);have m:min (PyData.tuple xs).depth (PyData.tuple lot).depth<=40:=by omega
  have e:Hn (.tuple xs) (.tuple lot)=some (PyData.eqv (.tuple xs) (.tuple lot)):=by simp[Hn,eqQ,noDict,cu tx,cu tl,m]
  have e2:PyData.eqv (.tuple xs) (.tuple lot)=decide (PyData.tuple lot=.tuple xs):=by rw[V0,ig tx tl,decide_eq_true_iff,eq_comm]
  simp only[Ij,e,ih,e2,UP,Bool.decide_or]
theorem Ks(o:kG n m xs)(h:Hm):uW (.dat (.list xs)) (.dat (.list [])) h=.ok (.bool (!xs.isEmpty)) h:=by
 have h1:PyData.hasDictAll xs=false:=by have:=o.lst.RA;grind[noDict,PyData.hasDict]
 simp[uW,eqQ,h1,FW,noDict,PyData.hasDict,PyData.hasDictAll,PyData.depth,PyData.depthAll]
theorem CO(k:K3)(w:Wb 25 ns ss)(l5:ns.length<=5)(s:lot.Sublist ns)(G:nX b ns lot gs)(h:Hm):bD [.dat (WD ns ss),.dat (.tuple lot),.dat (.str k.nm),.bool b] h=.ok (.bool (nW k ns ss gs)) h:=by
 obtain⟨ds,e,hd,hl,hm⟩:=Kr k w l5 h;have sd:=cJ w s;have ll:=s.length_le
 cases b with
 |true=>
  rw[G.st rfl];have e2:j9 [.dat (WD ns ss),.dat (.str k.nm),.dat (.tuple lot)] h=.ok (.bool (decide (.tuple lot∈ds))) h:=by unfold j9 ub;refine ff rfl (cI (aQ rfl (aF rfl e) ?_));simp[mQ,findIn,iU,jY,Gb w s hd]
  have e3:nW k ns ss [.tuple lot]=decide (.tuple lot∈ds):=by rw[V0,decide_eq_true_iff,hm lot s];simp[nW,aU]
  rw[e3];unfold bD iK;exact ff rfl (AN (Ez (eU rfl) (cI (aF (xs:=[.dat (WD ns ss),.dat (.str k.nm),.dat (.tuple lot)]) rfl e2))))
 |false=>
  have key:=fS (n:=1) (it:=aH (af pI (aa (ab 0) (aa (ab 2) ah)))) (g:=aq 0) (t:=aI (ao oEq (bR 1 (aH (ab 2)) (aq 0) (aI (ao gF (ab 0) (ab 1))) (ab 0)) (aj (.list [])))) (e:=aj (.int 1)) (ρ:=[some (.dat (WD ns ss)),some (.dat (.tuple lot)),some (.dat (.str k.nm)),some (.bool false)]) (h:=h) (h1:=h) (ds:=ds) (mC (aF (xs:=[.dat (WD ns ss),.dat (.str k.nm)]) rfl e)) #[1] (λg=>lot.all (jc (aU g))) (λ_=>.int 1) (λg m=>by
   obtain⟨xs,rfl,sx⟩:=hd g m;have k2:=fS (n:=1) (it:=aH (ab 2)) (g:=aq 0) (t:=aI (ao gF (ab 0) (ab 1))) (e:=ab 0) (ρ:=[some (.dat (.tuple xs)),some (.dat (WD ns ss)),some (.dat (.tuple lot)),some (.dat (.str k.nm)),some (.bool false)]) (h:=h) (h1:=h) (ds:=lot) (by simp) (by have:=w.nr.le;omega) (λx=>!jc xs x) id (λx hx=>⟨_,rfl,by simp[AF (w.AY (s.subset hx)) (cJ w sx)],λ_=>rfl⟩);have ok:=kG.sub (es:=(lot.filter (λx=>!jc xs x)).map id) (λd hd=>w.AY (s.subset hd)) (by simp;exact λe a _=>a);have e1:=all_filter lot (jc xs) id;refine⟨_,rfl,bN (aQ k2 rfl ?_),λ_=>rfl⟩;have:=MD ok h;rw[e1]at this
   exact this)
  have oi:=MH (ds.filter λg=>lot.all (jc (aU g)));have ne:=Ks oi h
  have e3:(!((ds.filter λg=>lot.all (jc (aU g))).map λ_=>PyData.int 1).isEmpty)=nW k ns ss gs:=by
   rw[V0,WM,List.isEmpty_eq_false_iff_exists_mem];unfold nW;rw[VF];constructor
   ·rintro⟨_,m⟩;obtain⟨g,mg,_⟩:=U2.mp m;obtain⟨m1,m2⟩:=U0.mp mg;obtain⟨xs,rfl,sx⟩:=hd g m1;refine⟨.tuple xs,G.all rfl xs sx λx hx=>(cH (cJ w sx)).mp (UW.mp m2 x hx),?_⟩;exact(hm xs sx).mp m1
   ·rintro⟨g,mg,r⟩;obtain⟨⟨xs,rfl,sx⟩,hx⟩:=G.ok g mg;exact⟨.int 1,U2.mpr ⟨.tuple xs,U0.mpr ⟨(hm xs sx).mpr r,UW.mpr λx m=>(cH (cJ w sx)).mpr (hx x m)⟩,rfl⟩⟩
  rw[e3]at ne;unfold bD iK;exact ff rfl (aK (tI (eU rfl) rfl) (cI (aQ key rfl ne)))
theorem xC{α:Type}(f:Nat->Option α):∀n,match (List.range n).findSome? f with
  |some c=>∃m,m<n/\f m=some c/\∀m',m'<m->f m'=none
  |none=>∀m,m<n->f m=none
 |0=>λm hm=>absurd hm (Nat.not_lt_zero _)
 |n+1=>by
  have ih:=xC f n;rw[List.range_succ,List.findSome?_append]
  cases q:(List.range n).findSome? f with
  |some c=>rw[q]at ih;obtain⟨m,h1,h2⟩:=ih;exact⟨m,by omega,h2⟩
  |none=>
   rw[q]at ih;simp
   cases q2:f n with
   |some c=>grind
   |none=>
    grind
theorem CP(e:AU k ns ss lot gs ps=some c):∃p∈ps,c=chg ss lot p/\nW k ns (tu ss c) gs=true:=by
 obtain⟨p,hp,q⟩:=List.exists_of_findSome?_eq_some e
 grind
theorem CQ(e:AU k ns ss lot gs ps=none):∀p∈ps,nW k ns (tu ss (chg ss lot p)) gs=false:=by
 intro p hp;have:=List.findSome?_eq_none_iff.mp e p hp
 grind
structure RM(k:K3)(ns ss lot gs:YD)(m:Nat)(c:YD):Prop where
 f:AU k ns ss lot gs (pk (rows ns (fg lot)) m)=some c
 lt:∀m',m'<m->AU k ns ss lot gs (pk (rows ns (fg lot)) m')=none
theorem AW(F:RM k ns ss lot gs m c)(n:Nat):gP k ns ss lot gs n=if m<n then some c else none:=by
 have:=xC (λm=>AU k ns ss lot gs (pk (rows ns (fg lot)) m)) n;unfold gP
 cases q:(List.range n).findSome? _ with
 |some c'=>
  rw[q]at this;obtain⟨m',h1,h2,h3⟩:=this
  have e:m'=m:=by
   rcases Nat.lt_trichotomy m' m with z|z|z
   ·rw[F.lt m' z]at h2;cases h2
   ·exact z
   grind[F.f]
  simp_all[F.f]
 |none=>
  rw[q]at this;split
  ·rename_i z;have:=this m z
   grind[F.f]
  ·rfl
theorem xD(e:gP k ns ss lot gs n=some c):∃m,m<n/\RM k ns ss lot gs m c:=by have:=xC (λm=>AU k ns ss lot gs (pk (rows ns (fg lot)) m)) n;unfold gP at e;rw[e]at this;obtain⟨m,h1,h2,h3⟩:=this;exact⟨m,h1,h2,h3⟩
theorem zf(e:gP k ns ss lot gs n=none):∀m,m<n->AU k ns ss lot gs (pk (rows ns (fg lot)) m)=none:=by
 simp_all[gP]
end
section
variable {ns ss lot:YD} {h:Hm}
theorem CT(e1:ma ρ h=.ok xs h)(e2:mk ρ h=.ok ys h)(hn:xs.length=n)(e3:F (xs++ys) h=r):gG n F ma mk ρ h=r:=by
 simp_all[gG]
theorem Kt(c:Option YD)(hc:∀x,c=some x->Ch ns x)(h:Hm):uW (.dat (CM c)) (.dat (CM c)) h=.ok (.bool false) h:=by
 cases c with
 |none=>rfl
 |some x=>
  have hr:=(hc x rfl).r;have t:av (.tuple x)=true:=eG.Di hr.sub
  have d:(PyData.tuple x).depth<=40:=by
   have:=eT λd m=>eG.dep d (hr.sub d m)
   grind[PyData.depth]
  exact ne_self t d h
theorem Ku(w:Wb 25 ns ss)(s:lot.Sublist ns)(h1:∀x∈ns,x∈EB ns ss lot<->x∈lot):EB ns ss lot=lot:=
 ND J1 (w.nr.toRw.tJ oG) (w.nr.toRw.tJ s) λd=>⟨λm=>(h1 d (oG.subset m)).mp m,λm=>(h1 d (s.subset m)).mpr m⟩
theorem Gd(w:Wb 25 ns ss)(s:lot.Sublist ns)(hx:x∈ns):xA ss lot x=true<->∃y∈lot,PyData.tuple [y,x]∈ss:=by
 have sd:=cJ w s;unfold xA;rw[VF];constructor
 ·rintro⟨p,m,r⟩;obtain⟨a,b,rfl,ha,hb⟩:=w.get m;simp at r;have:=(iS (w.nr.sub b hb) (w.nr.sub x hx)).mp r.2;subst this;exact⟨a,(cH sd).mp r.1,m⟩
 ·rintro⟨y,hy,m⟩;exact⟨_,m,by simp;exact⟨(cH sd).mpr hy,(iS (w.nr.sub x hx) (w.nr.sub x hx)).mpr rfl⟩⟩
theorem Kw(w:Wb 25 ns ss)(s:lot.Sublist ns)(hx:x∈ns):uz ss lot x=true<->∃z,PyData.tuple [z,x]∈ss/\¬ xA ss lot z=true:=by
 unfold uz;rw[VF];constructor
 ·rintro⟨p,m,r⟩;obtain⟨a,b,rfl,ha,hb⟩:=w.get m;simp[jS]at r;have:=(iS (w.nr.sub b hb) (w.nr.sub x hx)).mp r.2
  grind
 ·rintro⟨z,m,n⟩;refine⟨_,m,?_⟩;simp;exact⟨Bool.eq_false_iff.mpr n,(iS (w.nr.sub x hx) (w.nr.sub x hx)).mpr rfl⟩
end
theorem EG{ns:List Int}(PL:∀{i:Nat} {h:Hm},Bx i h->Dr i h (right [.ref i] h) λd=>d=.bool true) :
  ∀(h:Hm),Wf h->∃h' y1 y2,dz (aq 1) (ie (ic (aa (aj (.int 2)) ah)) (aq 2) (jq (eI (aR (af right (aa (af fK (aa (ab 0) (aa (ab 1) (aa (ab 2) ah)))) ah)))) (bw (aj (.bool false))) bM)) (nums 0 N) [some (.scr ns),none,none] h=.ok (.nx [some (.scr ns),y1,y2]) h':=by
 intro h w
 obtain⟨ρ',h',e,w',y1,y2,rfl⟩:=gO (g:=aq 1) (b:=ie (ic (aa (aj (.int 2)) ah)) (aq 2) (jq (eI (aR (af right (aa (af fK (aa (ab 0) (aa (ab 1) (aa (ab 2) ah)))) ah)))) (bw (aj (.bool false))) bM))
  (λ_ ρ hh=>Wf hh/\∃y1 y2,ρ=[some (.scr ns),y1,y2]) (nums 0 N) 0 [some (.scr ns),none,none] h (λj x hx ρ hh ⟨w,y1,y2,e2⟩=>by
   subst e2;simp only[nums,Vo,Vg]at hx;obtain⟨k,_,rfl⟩:=hx
   obtain⟨ρ',h',e,w',z2,rfl⟩:=gO (g:=aq 2) (b:=jq (eI (aR (af right (aa (af fK (aa (ab 0) (aa (ab 1) (aa (ab 2) ah)))) ah)))) (bw (aj (.bool false))) bM)
    (λ_ ρ hh=>Wf hh/\∃y2,ρ=[some (.scr ns),some (.int (0+(k:Int))),y2]) (nums 0 2) 0 [some (.scr ns),some (.int (0+(k:Int))),y2] hh (λj x hx ρ hh ⟨w,y2,e2⟩=>by
     subst e2;simp only[nums,Vo,Vg]at hx;obtain⟨l,_,rfl⟩:=hx;obtain⟨n,eb⟩:=PY ns k l hh;have bx:Bx hh.length (hh++[.lst [.int n]]):=⟨⟨n,by simp⟩,w.push rfl⟩;obtain⟨_,h2,e2,s2,rfl⟩:=PL bx
     exact⟨_,hh,[some (.scr ns),some (.int (0+(k:Int))),some (.int (0+(l:Int)))],h2,rfl,.inl (by simp[eb,e2]),(s2.bx bx).wf,_,rfl⟩) ⟨w,y2,rfl⟩
   refine⟨_,hh,[some (.scr ns),some (.int (0+(k:Int))),z2],h',rfl,.inl ?_,w',_,_,rfl⟩
   exact dE (nV (n:=2) (by simp) (by decide)) e) ⟨w,none,none,rfl⟩
 grind
section
variable {ns ss lot:YD} {h:Hm}
theorem zg(w:Wb 25 ns ss)(s:lot.Sublist ns)(G:nX b ns lot gs)(e:nW k ns ss gs=true):inner ss lot=[]/\RM k ns ss lot gs 0 []:=by
 have hi:inner ss lot=[]:=by obtain⟨g,mg,r⟩:=VF.mp e;obtain⟨⟨xs,rfl,sx⟩,hx⟩:=G.ok g mg;have pe:=(AS w sx).mp (Bool.and_eq_true_iff.mp r).1;refine List.eq_nil_iff_forall_not_mem.mpr λp hp=>?_;obtain⟨mp,cp⟩:=U0.mp hp;obtain⟨a,c,rfl,ha,hc⟩:=w.get mp;simp at cp;have sd:=cJ w s;exact pe a (hx a ((cH sd).mp cp.1)) c (hx c ((cH sd).mp cp.2)) mp
 have c0:chg ss lot (.tuple [])=[]:=by unfold chg;rw[hi];rfl
 refine⟨hi,⟨?_,λm' z=>absurd z (Nat.not_lt_zero _)⟩⟩;simp[AU,pk,c0,Ko w,e]
theorem CU(c:Option YD)(hc:∀x,c=some x->Ch ns x)(h:Hm):oEq (.dat (CM c)) (.dat (.tuple [])) h=.ok (.bool (c==some [])) h:=by
 cases c with
 |none=>rfl
 |some x=>
  have o:kG 500 1 x:=(kG.of λd m=>(hV ((hc x rfl).r.sub d m)).2.2.2.2.2).mono (by have:=(hc x rfl).le;omega) (UJ _);have:=JV o h
  cases x with
  |nil=>rfl
  |cons y ys=>exact this
theorem CV(w:Wb 25 ns ss)(l5:ns.length<=5)(hc:Ch ns c)(h:Hm):oy [.dat (WD ns ss),.dat (.tuple c)] h=.ok (.dat (WD ns (tu ss c))) h:=by
 have sk:=xy (⟨w.nr,hc.r,hc.cl,hc.le⟩:Wb 30 ns c) (by decide) h;have ck:fE [.dat (WD ns ss),.dat (.tuple c)] h=.ok D.none h:=by simp[fE,mK,sk]
 exact ff rfl (aK (je (aF rfl (Ey w (by decide) h))) (aK (je (aF rfl ck)) (cI (aF rfl (Ga w l5 hc h).1.2))))
theorem Kx(w:Wb 25 ns ss)(s:lot.Sublist ns)(l4:ns.length<=4)(hm:m<=2)(F:RM k ns ss lot gs m c):Ch ns c/\c.length=(inner ss lot).length+m/\nW k ns (tu ss c) gs=true:=by
 obtain⟨p,hp,rfl,r⟩:=CP F.f;obtain⟨_,_,_,h1,h2,_⟩:=EE w s l4 hm hp
 grind
theorem MZ(k:K3)(b:Bool)(w:Wb 25 ns ss)(l4:ns.length<=4)(s:lot.Sublist ns)(h:Hm):bK [.dat (WD ns ss),.dat (.tuple lot),.dat (.str k.nm),.bool b] h=.ok (.bool true) h:=by
 obtain⟨gs,G,en⟩:=uB w l4 s k b h;have H:=CO k w #[1] s G h;generalize hI:(inner ss lot).length=I at en
 have call:∀(ρ:Fm) (x:ME) (q:Nat),ρ[0]?=some (some (.dat (WD ns ss)))->ρ[1]?=some (some (.dat (.tuple lot)))->ρ[2]?=some (some (.dat (.str k.nm)))->ρ[3]?=some (some (.bool b))->x ρ h=.ok (.int q) h->q<=2 ->
   gG 3 bV (aa (ab 0) (aa (ab 1) (aa (ab 2) ah))) (aa (ab 3) (aa x ah)) ρ h=.ok (.dat (CM (gP k ns ss lot gs (q+1-I)))) h:=λρ x q e0 e1 e2 e3 ex hq=>
  CT (xs:=[.dat (WD ns ss),.dat (.tuple lot),.dat (.str k.nm)]) (ys:=[.bool b,.int q]) (by simp[e0,e1,e2]) (by simp[e3,ex]) rfl (en q hq)
 have hs:∀(ρ:Fm),ρ[0]?=some (some (.dat (WD ns ss)))->ρ[1]?=some (some (.dat (.tuple lot)))->ρ[2]?=some (some (.dat (.str k.nm)))->ρ[3]?=some (some (.bool b))->af bD (aa (ab 0) (aa (ab 1) (aa (ab 2) (aa (ab 3) ah)))) ρ h=.ok (.bool (nW k ns ss gs)) h:=λρ e0 e1 e2 e3=>aF (xs:=[.dat (WD ns ss),.dat (.tuple lot),.dat (.str k.nm),.bool b]) (by simp[e0,e1,e2,e3]) H
 cases q:gP k ns ss lot gs (2+1-I)with
 |none=>
  have r0:nW k ns ss gs=false:=by
   cases z:nW k ns ss gs with
   |false=>rfl
   |true=>obtain⟨hi,F⟩:=zg w s G z;rw[AW F,<- hI,hi]at q;simp at q
  have q1:gP k ns ss lot gs (1+1-I)=none:=by
   have hn:=zf q
   cases z:gP k ns ss lot gs (1+1-I)with
   |none=>rfl
   |some c=>obtain⟨m,hm,F⟩:=xD z;have:=hn m #[1];rw[F.f]at this;cases this
  have c1:gG 3 bV (aa (ab 0) (aa (ab 1) (aa (ab 2) ah))) (aa (ab 3) (aa (aj (.int 2)) ah)) [some (.dat (WD ns ss)),some (.dat (.tuple lot)),some (.dat (.str k.nm)),some (.bool b),none,none,none] h=.ok (.dat .none) h:=by have:=call [some (.dat (WD ns ss)),some (.dat (.tuple lot)),some (.dat (.str k.nm)),some (.bool b),none,none,none] (aj (.int 2)) 2 rfl rfl rfl rfl rfl (by decide);rw[q]at this;exact this
  have c2:gG 3 bV (aa (ab 0) (aa (ab 1) (aa (ab 2) ah))) (aa (ab 3) (aa (aj (.int 1)) ah)) [some (.dat (WD ns ss)),some (.dat (.tuple lot)),some (.dat (.str k.nm)),some (.bool b),some (.dat .none),none,none] h=.ok (.dat .none) h:=by have:=call [some (.dat (WD ns ss)),some (.dat (.tuple lot)),some (.dat (.str k.nm)),some (.bool b),some (.dat .none),none,none] (aj (.int 1)) 1 rfl rfl rfl rfl rfl (by decide);rw[q1]at this;exact this
  have t2:=hs [some (.dat (WD ns ss)),some (.dat (.tuple lot)),some (.dat (.str k.nm)),some (.bool b),some (.dat .none),none,none] rfl rfl rfl rfl;rw[r0]at t2
  have n2:aI (ao uW (ao oEq (ab 4) (aj (.tuple []))) (af bD (aa (ab 0) (aa (ab 1) (aa (ab 2) (aa (ab 3) ah)))))) [some (.dat (WD ns ss)),some (.dat (.tuple lot)),some (.dat (.str k.nm)),some (.bool b),some (.dat .none),none,none] h=.ok false h:=
   bN (aQ (x:=.bool false) (h1:=h) rfl t2 rfl)
  have t3:aI (ao Nl (ab 4) (aj .none)) [some (.dat (WD ns ss)),some (.dat (.tuple lot)),some (.dat (.str k.nm)),some (.bool b),some (.dat .none),none,none] h=.ok true h:=rfl;have r5:ao Nl (gG 3 bV (aa (ab 0) (aa (ab 1) (aa (ab 2) ah))) (aa (ab 3) (aa (aj (.int 1)) ah))) (aj .none) [some (.dat (WD ns ss)),some (.dat (.tuple lot)),some (.dat (.str k.nm)),some (.bool b),some (.dat .none),none,none] h=.ok (.bool true) h:=aQ c2 (y:=.dat .none) (h2:=h) rfl rfl;unfold bK gc;exact ff rfl (aK (cb c1) (aK (tI n2 rfl) (AN (Ez t3 (cI r5)))))
 |some c=>
  obtain⟨m,hm,F⟩:=xD q;obtain⟨hc,lc,rc⟩:=Kx w s l4 #[1] F;rw[hI]at lc;have hch:∀x,some c=some x->Ch ns x:=λx e=>by cases e;exact hc
  have eqb:(some c==some ([]:YD))=nW k ns ss gs:=by
   rw[V0,Yt];constructor
   ·intro e;cases e
    rwa [Ko w]at rc
   ·intro e;obtain⟨hi,F0⟩:=zg w s G e;have:=AW F0 (2+1-I);rw[q,if_pos #[1]]at this;exact this
  have c1:=call [some (.dat (WD ns ss)),some (.dat (.tuple lot)),some (.dat (.str k.nm)),some (.bool b),none,none,none] (aj (.int 2)) 2 rfl rfl rfl rfl rfl (by decide);rw[q]at c1;have t2:=hs [some (.dat (WD ns ss)),some (.dat (.tuple lot)),some (.dat (.str k.nm)),some (.bool b),some (.dat (.tuple c)),none,none] rfl rfl rfl rfl;have n2:uW (.bool (some c==some [])) (.bool (nW k ns ss gs)) h=.ok (.bool false) h:=by rw[eqb];cases nW k ns ss gs<;>rfl
  obtain⟨⟨_,_⟩,w2⟩:=Ga w #[1] hc h;have H2:=CO k w2 #[1] s G h;rw[rc]at H2;have ch:=CV w #[1] hc h
  have t4:eI (aR (af bD (aa (af oy (aa (ab 0) (aa (ab 4) ah))) (aa (ab 1) (aa (ab 2) (aa (ab 3) ah)))))) [some (.dat (WD ns ss)),some (.dat (.tuple lot)),some (.dat (.str k.nm)),some (.bool b),some (.dat (.tuple c)),none,none] h=.ok (!true) h:=
   AK (eU (aF (xs:=[.dat (WD ns (tu ss c)),.dat (.tuple lot),.dat (.str k.nm),.bool b]) (cy (aF (xs:=[.dat (WD ns ss),.dat (.tuple c)]) rfl ch) rfl) H2))
  obtain⟨ρ',h',eL,y5,y6,rfl,e6⟩:=gO (g:=aq 5) (b:=aS (bP 6 (Dq (aI (ao Q6 (ab 5) (af iI (aa (ab 4) ah)))) (ab 4) (aj .none))) (jq (aI (ao uW (gG 3 bV (aa (ab 0) (aa (ab 1) (aa (ab 2) ah))) (aa (ab 3) (aa (ab 5) ah))) (ab 6))) (bw (aj (.bool false))) bM))
   (λ_ ρ hh=>∃y5 y6,ρ=[some (.dat (WD ns ss)),some (.dat (.tuple lot)),some (.dat (.str k.nm)),some (.bool b),some (.dat (.tuple c)),y5,y6]/\hh=h) (nums 0 3) 0 [some (.dat (WD ns ss)),some (.dat (.tuple lot)),some (.dat (.str k.nm)),some (.bool b),some (.dat (.tuple c)),none,none] h (by
    rintro j x hx ρ hh ⟨y5,y6,rfl,rfl⟩;simp only[nums,Vo,Vg]at hx;obtain⟨n,hn,rfl⟩:=hx;have hn3:n<3:=by have h1:=(UN.mp hn).1;have h2:=(UN.mp hn).2;simp at h1 h2;omega
    rw[Int.zero_add];have sr:=AW F (n+1-I)
    have eD:(if decide ((n:Int)>=c.length)then PyData.tuple c else .none)=CM (gP k ns ss lot gs (n+1-I)):=by
     rw[sr];by_cases z:m<n+1-I
     ·rw[if_pos z,if_pos (by simp;omega)];rfl
     ·rw[if_neg z,if_neg (by simp;omega)];rfl
    have hco:∀x,gP k ns ss lot gs (n+1-I)=some x->Ch ns x:=λx e=>by
     rw[sr]at e;split at e
     ·cases e;exact hc
     ·cases e
    have cx:=call [some (.dat (WD ns ss)),some (.dat (.tuple lot)),some (.dat (.str k.nm)),some (.bool b),some (.dat (.tuple c)),some (.int (n:Int)),some (.dat (CM (gP k ns ss lot gs (n+1-I))))] (ab 5) n rfl rfl rfl rfl rfl #[1];have ei:Dq (aI (ao Q6 (ab 5) (af iI (aa (ab 4) ah)))) (ab 4) (aj .none) [some (.dat (WD ns ss)),some (.dat (.tuple lot)),some (.dat (.str k.nm)),some (.bool b),some (.dat (.tuple c)),some (.int (n:Int)),y6] hh=.ok (.dat (CM (gP k ns ss lot gs (n+1-I)))) hh:=by rw[<- eD];refine qh (c:=decide ((n:Int)>=c.length)) (h1:=hh) (bN (aQ rfl (aF (xs:=[.dat (.tuple c)]) rfl rfl) rfl)) ?_;split<;>rfl
    exact⟨_,_,_,_,rfl,.inl (aK (cb ei) (tI (bN (aQ cx rfl (Kt _ hco hh))) rfl)),_,_,rfl,rfl⟩) ⟨none,none,rfl,rfl⟩
  rw[e6]at eL
  have n4:aI (ao uW (ao oEq (ab 4) (aj (.tuple []))) (af bD (aa (ab 0) (aa (ab 1) (aa (ab 2) (aa (ab 3) ah)))))) [some (.dat (WD ns ss)),some (.dat (.tuple lot)),some (.dat (.str k.nm)),some (.bool b),some (.dat (.tuple c)),none,none] h=.ok false h:=
   bN (aQ (aQ (x:=.dat (.tuple c)) (h1:=h) rfl (y:=.dat (.tuple [])) (h2:=h) rfl (CU (some c) hch h)) t2 n2)
  have t3:aI (ao Nl (ab 4) (aj .none)) [some (.dat (WD ns ss)),some (.dat (.tuple lot)),some (.dat (.str k.nm)),some (.bool b),some (.dat (.tuple c)),none,none] h=.ok false h:=rfl;unfold bK gc;exact ff rfl (aK (cb c1) (aK (tI n4 rfl) (aK (tI t3 rfl) (aK (tI t4 rfl) (aK (dE (nV (n:=3) rfl (by decide)) eL) (cI rfl))))))
def Hl:Option YD->Nat
 |none=>9
 |some c=>c.length
theorem nY(k:K3)(b:Bool)(w:Wb 25 ns ss)(l4:ns.length<=4)(s:lot.Sublist ns)(h:Hm):∃gs,nX b ns lot gs/\cG [.dat (WD ns ss),.dat (.tuple lot),.dat (.str k.nm),.bool b] h=.ok (.int (Hl (gP k ns ss lot gs (3-(inner ss lot).length)))) h:=by
 obtain⟨gs,G,en⟩:=uB w l4 s k b h;refine⟨gs,G,?_⟩;have e:=en 2 (by decide);have c1:gG 3 bV (aa (ab 0) (aa (ab 1) (aa (ab 2) ah))) (aa (ab 3) (aa (aj (.int 2)) ah)) [some (.dat (WD ns ss)),some (.dat (.tuple lot)),some (.dat (.str k.nm)),some (.bool b),none] h=.ok _ h:=CT (xs:=[.dat (WD ns ss),.dat (.tuple lot),.dat (.str k.nm)]) (ys:=[.bool b,.int 2]) rfl rfl rfl e;unfold cG qT;refine ff rfl (aK (cb c1) (cI ?_))
 cases q:gP k ns ss lot gs (2+1-(inner ss lot).length)with
 |none=>rfl
 |some c=>rfl
theorem EH(w:Wb 25 ns ss)(l4:ns.length<=4)(s:lot.Sublist ns)(imp:∀ss',Wb 25 ns ss'->nW k2 ns ss' g2=true->nW k1 ns ss' g1=true) :
  Hl (gP k1 ns ss lot g1 (3-(inner ss lot).length))<=Hl (gP k2 ns ss lot g2 (3-(inner ss lot).length)):=by
 have le9:∀(k:K3) (g:YD) (c:YD),gP k ns ss lot g (3-(inner ss lot).length)=some c->∃m,m<3-(inner ss lot).length/\RM k ns ss lot g m c/\c.length=(inner ss lot).length+m:=λk g c e=>by obtain⟨m,hm,F⟩:=xD e;exact⟨m,hm,F,(Kx w s l4 #[1] F).2.1⟩
 cases q2:gP k2 ns ss lot g2 (3-(inner ss lot).length)with
 |none=>
  cases q1:gP k1 ns ss lot g1 (3-(inner ss lot).length)with
  |none=>omega
  |some c=>obtain⟨m,hm,_,lc⟩:=le9 _ _ _ q1;show c.length<=9;omega
 |some c2=>
  obtain⟨m2,hm2,F2,l2⟩:=le9 _ _ _ q2;obtain⟨p,hp,e2,r2⟩:=CP F2.f;obtain⟨_,_,_,hch,_,_⟩:=EE w s l4 #[1] hp;subst e2;have r1:=imp _ (Ga w #[1] hch []).2 r2
  cases q1:gP k1 ns ss lot g1 (3-(inner ss lot).length)with
  |none=>
   have:=CQ (zf q1 m2 hm2) p hp
   grind
  |some c1=>
   obtain⟨m1,hm1,F1,l1⟩:=le9 _ _ _ q1;show c1.length<=(chg ss lot p).length;rcases Wk m2 m1 with z|z
   ·have:=CQ (F1.lt m2 z) p hp;rw[r1]at this;cases this
   ·omega
theorem Ky(s:lot.Sublist ns)(G1:nX false ns lot g1)(G2:nX true ns lot g2)(ss':YD)(e:nW k ns ss' g2=true):nW k ns ss' g1=true:=by rw[G2.st rfl]at e;exact VF.mpr ⟨.tuple lot,G1.all rfl lot s λx q=>q,by grind[nW]⟩
theorem P8(w:Wb 25 ns ss)(s:lot.Sublist ns)(G1:nX true ns lot g1)(G2:nX true ns lot g2)(e:nW .wh ns ss g2=true):nW .st ns ss g1=true:=by
 rw[G2.st rfl]at e;rw[G1.st rfl];simp[nW,aU]at e ⊢;refine⟨e.1,?_⟩;have t1:av (.tuple lot)=true:=by simp[av,cK (cJ w s)]
 have t2:av (.tuple (EB ns ss lot))=true:=by simp[av,cK (cJ w oG)]
 have eq:=(ig t1 t2).mp e.2;exact UW.mpr λx m=>(cH (cJ w oG)).mpr (by grind)
theorem P9(w:Wb 25 ns ss)(s:lot.Sublist ns)(G1:nX true ns lot g1)(G2:nX true ns lot g2)(e:nW .sb ns ss g2=true):nW .wh ns ss g1=true:=by
 rw[G2.st rfl]at e;rw[G1.st rfl];simp[nW]at e ⊢;refine⟨e.1,?_⟩;have sd:=cJ w s;have pe:=(AS w s).mp e.1;have sb:∀x∈ns,x∈lot\/xA ss lot x=true:=λx hx=>by have:=UW.mp e.2 x hx;simp at this;exact this.imp (cH sd).mp id
 have eq:EB ns ss lot=lot:=Ku w s λx hx=>by
  have dm:x∈EB ns ss lot<->¬ uz ss lot x=true:=by
   simp_all[EB,U0,hx]
  rw[dm,Kw w s hx];constructor
  ·intro n;rcases sb x hx with m|m
   ·exact m
   ·exfalso;obtain⟨y,hy,my⟩:=(Gd w s hx).mp m;refine n ⟨y,my,λz=>?_⟩;obtain⟨u,hu,mu⟩:=(Gd w s (s.subset hy)).mp z;exact pe u hu y hy mu
  ·rintro m ⟨z,mz,nz⟩;have hz:=(w.cl z x mz).1;rcases sb z hz with q|q
   ·exact pe z q x m mz
   grind
 show PyData.eqv (.tuple lot) (.tuple (EB ns ss lot))=true;rw[eq];exact bc (by simp[av,cK sd])
end
theorem Kz(b:Bx i h)(hz:ns.length<=16777216)(e5:it ρ h=.ok (ns.map D.dat) h)(e0:ρ[0]?=some (some (.ref i))) :
  Dr i h (bR 1 it (aq 0) (aI (ao oEq (af aN (aa (ab 1) (aa (aj (.int 2)) ah))) (aj (.int 1)))) (ab 0) ρ h) λd=>∃ls:YD,d=.dat (.list ls)/\ls.Sublist ns:=by
 unfold bR af yl;rw[e5];simp only[R.aP,UX,sz hz,VC]
 obtain⟨ys,zs,h',q1,q2,q3,q4⟩:=qe (n:=1) (ρ:=ρ) (g:=aq 0) (t:=aI (ao oEq (af aN (aa (ab 1) (aa (aj (.int 2)) ah))) (aj (.int 1)))) (e:=ab 0) (Bs i h) (λx y=>y=x) (xs:=ns.map D.dat) (h:=h) (λx hx h1 s1=>by
  obtain⟨_,h2,e2,s2,k,rfl,hk⟩:=vf (s1.bx b) (c:=2) (by decide) (by decide);refine⟨some x::ρ,h1,(k:Int)==1,h2,rfl,?_,?_⟩
  ·simp[e0,e2,kj]
  ·cases hc:((k:Int)==1)with
   |false=>exact .inl ⟨rfl,s1.trans s2⟩
   |true=>exact .inr ⟨rfl,x,h2,rfl,rfl,s1.trans s2⟩) b.refl
 rw[zb q4]at q1;obtain⟨ls,rfl,sl⟩:=MJ q3;have q1':gC 1 ρ (aq 0) (aI (ao oEq (λρ h=>(aa (ab 1) (aa (aj (.int 2)) ah) ρ h).bind λxs h1=>aN xs h1) (aj (.int 1)))) (ab 0) (ns.map D.dat) h=.ok (ls.map D.dat) h':=q1;rw[q1'];refine⟨.dat (.list ls),h',?_,q2,ls,rfl,sl⟩;simp only[R.aP];exact lu ls h' (UO sl.length_le hz)
abbrev RN:MS:=(aS (ie (aH (aj (.list [.bool true,.bool false]))) (aq 4) (jq (eI (aR (af bK (aa (ab 1) (aa (ab 2) (aa (ab 3) (aa (ab 4) ah))))))) (bw (aj (.bool false))) bM))
  (jq (aI (ao Bj (af cG (aa (ab 1) (aa (ab 2) (aa (ab 3) (aa (aj (.bool false)) ah))))) (af cG (aa (ab 1) (aa (ab 2) (aa (ab 3) (aa (aj (.bool true)) ah))))))) (bw (aj (.bool false))) bM))
section
variable {ns ss lot:YD} {h:Hm}
theorem Qb(k:K3)(w:Wb 25 ns ss)(l4:ns.length<=4)(s:lot.Sublist ns)(h:Hm)(a0 a4 a5:Option D):RN [a0,some (.dat (WD ns ss)),some (.dat (.tuple lot)),some (.dat (.str k.nm)),a4,a5] h=.ok (.nx [a0,some (.dat (WD ns ss)),some (.dat (.tuple lot)),some (.dat (.str k.nm)),some (.bool false),a5]) h:=by
 have st:∀b:Bool,jq (eI (aR (af bK (aa (ab 1) (aa (ab 2) (aa (ab 3) (aa (ab 4) ah))))))) (bw (aj (.bool false))) bM [a0,some (.dat (WD ns ss)),some (.dat (.tuple lot)),some (.dat (.str k.nm)),some (.dat (.bool b)),a5] h=.ok (.nx [a0,some (.dat (WD ns ss)),some (.dat (.tuple lot)),some (.dat (.str k.nm)),some (.dat (.bool b)),a5]) h:=λb=>
  tI (h1:=h) (AK (c:=true) (eU (aF (xs:=[.dat (WD ns ss),.dat (.tuple lot),.dat (.str k.nm),.bool b]) rfl (MZ k b w l4 s h)))) rfl
 have lp:dz (aq 4) (jq (eI (aR (af bK (aa (ab 1) (aa (ab 2) (aa (ab 3) (aa (ab 4) ah))))))) (bw (aj (.bool false))) bM) ([PyData.bool true,.bool false].map D.dat) [a0,some (.dat (WD ns ss)),some (.dat (.tuple lot)),some (.dat (.str k.nm)),a4,a5] h=.ok (.nx [a0,some (.dat (WD ns ss)),some (.dat (.tuple lot)),some (.dat (.str k.nm)),some (.bool false),a5]) h:=by simp only[Va,Yn,dz,aq,R.dB,R.aP,VP,VQ,st]
 obtain⟨g1,G1,c1⟩:=nY k false w l4 s h;obtain⟨g2,G2,c2⟩:=nY k true w l4 s h;have le:=EH (k1:=k) (k2:=k) (g1:=g1) (g2:=g2) w l4 s λss' _ e=>Ky s G1 G2 ss' e;have t:=bN (aQ (f:=Bj) (ρ:=[a0,some (.dat (WD ns ss)),some (.dat (.tuple lot)),some (.dat (.str k.nm)),some (.bool false),a5]) (aF (ma:=aa (ab 1) (aa (ab 2) (aa (ab 3) (aa (aj (.bool false)) ah)))) (xs:=[.dat (WD ns ss),.dat (.tuple lot),.dat (.str k.nm),.bool false]) rfl c1) (aF (ma:=aa (ab 1) (aa (ab 2) (aa (ab 3) (aa (aj (.bool true)) ah)))) (xs:=[.dat (WD ns ss),.dat (.tuple lot),.dat (.str k.nm),.bool true]) rfl c2) (r:=.ok (.bool false) h) (by simp;omega));exact aK (dE (mC rfl) lp) (tI t rfl)
theorem KA(b:Bx i h):Dr i h (ja [.ref i] h) λd=>d=.bool true:=by
 obtain⟨_,ha,ea,sa,ns,ss,rfl,w,l4⟩:=P6 (m:=4) b (by decide);have ba:=sa.bx b;obtain⟨_,hb,eb,sb,lot,rfl,s⟩:=Kz (it:=aH (ao gU (ab 1) (aj (.int 0)))) (ρ:=[some (D.ref i),some (.dat (WD ns ss)),none,none,none,none]) ba (by omega:ns.length<=16777216) (AL rfl) rfl;have bk:=λk a4 a5=>Qb k w l4 s hb (some (D.ref i)) a4 a5;have lp:dz (aq 3) RN ([PyData.str "standing",.str "whole",.str "stable"].map D.dat) [some (D.ref i),some (.dat (WD ns ss)),some (.dat (.tuple lot)),none,none,none] hb=.ok (.nx [some (D.ref i),some (.dat (WD ns ss)),some (.dat (.tuple lot)),some (.dat (.str "stable")),some (.bool false),none]) hb:=by have b1:∀a4 a5,RN [some (D.ref i),some (.dat (WD ns ss)),some (.dat (.tuple lot)),some (.dat (.str "standing")),a4,a5] hb=_:=bk .st;have b2:∀a4 a5,RN [some (D.ref i),some (.dat (WD ns ss)),some (.dat (.tuple lot)),some (.dat (.str "whole")),a4,a5] hb=_:=bk .wh;have b3:∀a4 a5,RN [some (D.ref i),some (.dat (WD ns ss)),some (.dat (.tuple lot)),some (.dat (.str "stable")),a4,a5] hb=_:=bk .sb;simp only[Va,Yn,dz,aq,R.dB,R.aP,VP,VQ];rw[b1];simp only[R.dB,R.aP,VP,VQ];rw[b2];simp only[R.dB,R.aP,VP,VQ];rw[b3];rfl
 obtain⟨g1,G1,c1⟩:=nY .st true w l4 s hb;obtain⟨g2,G2,c2⟩:=nY .wh true w l4 s hb;obtain⟨g3,G3,c3⟩:=nY .sb true w l4 s hb;have le1:=EH (k1:=.st) (k2:=.wh) (g1:=g1) (g2:=g2) w l4 s λss' w' e=>P8 w' s G1 G2 e;have le2:=EH (k1:=.wh) (k2:=.sb) (g1:=g2) (g2:=g3) w l4 s λss' w' e=>P9 w' s G2 G3 e;generalize Hl (gP .st ns ss lot g1 (3-(inner ss lot).length))=v1 at c1 le1;generalize Hl (gP .wh ns ss lot g2 (3-(inner ss lot).length))=v2 at c2 le1 le2;generalize Hl (gP .sb ns ss lot g3 (3-(inner ss lot).length))=v3 at c3 le2;have n1:PyData.str "whole" ≠ .str "standing" := by intro e;injection e with e;exact absurd e (by decide)
 have n2:PyData.str "stable" ≠ .str "standing" := by intro e;injection e with e;exact absurd e (by decide)
 have n3:PyData.str "stable" ≠ .str "whole" := by intro e;injection e with e;exact absurd e (by decide)
 have key:=fe (n:=1) (it:=aH (aj (.list [.str "standing",.str "whole",.str "stable"]))) (g:=aq 0) (e:=af cG (aa (ab 2) (aa (ab 3) (aa (ab 0) (aa (aj (.bool true)) ah))))) (ρ:=[some (D.ref i),some (.dat (WD ns ss)),some (.dat (.tuple lot)),some (.dat (.str "stable")),some (.bool false),none]) (h:=hb) (h1:=hb) (ds:=[.str "standing",.str "whole",.str "stable"]) rfl (by decide) (λd=>if d=.str "standing" then .int v1 else if d=.str "whole" then .int v2 else .int v3) (λd m=>by
  simp only[UP,Vj,WI]at m;rcases m with rfl|rfl|rfl
  ·exact⟨_,rfl,by rw[if_pos rfl];exact aF (xs:=[.dat (WD ns ss),.dat (.tuple lot),.dat (.str "standing"),.bool true]) rfl c1⟩
  ·exact⟨_,rfl,by rw[if_neg n1,if_pos rfl];exact aF (xs:=[.dat (WD ns ss),.dat (.tuple lot),.dat (.str "whole"),.bool true]) rfl c2⟩
  ·exact⟨_,rfl,by rw[if_neg n2,if_neg n3];exact aF (xs:=[.dat (WD ns ss),.dat (.tuple lot),.dat (.str "stable"),.bool true]) rfl c3⟩)
 have k2:([PyData.str "standing",.str "whole",.str "stable"].map λd=>if d=.str "standing" then PyData.int v1 else if d=.str "whole" then .int v2 else .int v3)=[.int v1,.int v2,.int v3]:=by rw[Va,Va,Va,Yn,if_pos rfl,if_neg n1,if_pos rfl,if_neg n2,if_neg n3]
 rw[k2]at key;refine⟨_,hb,?_,sa.trans sb,rfl⟩;unfold ja qU;refine ff rfl (aK (cb (aF (xs:=[.ref i,.int 4]) rfl ea)) (aK (cb (aF (cy eb rfl) rfl)) (aK (dE (mC rfl) lp) (aK (cb key) (cI ?_)))));have a2:mS [PyData.int v1,.int v2,.int v3] 2=some (.int v3):=rfl;simp[rL,le1,le2,a2]
theorem KC:∀ns:List Int,ns.length<=63->∃h,FG [.scr ns] []=.ok (.bool true) h:=by
 intro ns hn;obtain⟨h',y1,y2,e⟩:=EG (λb=>KA b) [] (λo m=>by cases m)
 have it:ic (aa (af Il (aa (aj (.int 1)) (aa (af Im (aa (af iI (aa (ab 0) ah)) (aa (aj (.int 2)) ah))) ah))) ah) [some (.scr ns),none,none] []=.ok (nums 0 (max 1 (min ns.length 2))) []:=nV (by
   simp[iI,Im,Il]
   grind) #[1]
 exact⟨h',ff rfl (aK (dE it e) (cI rfl))⟩
end
section
variable {P:YF->Prop}
theorem TM(h:P []) us(hl:us.length=0):P us:=List.eq_nil_of_length_eq_zero hl▸h
theorem M0(h:∀a us,us.length=n->P (a::us)) us(hl:us.length=n+1):P us:=by
 cases us with
 |nil=>cases hl
 |cons a us=>exact h a us (Nat.succ.inj hl)
theorem all1(h:∀a,P [a]):∀us,us.length=1->P us:=M0 λa=>TM (h a)
theorem all2(h:∀a b,P [a,b]):∀us,us.length=2->P us:=M0 λa=>all1 (h a)
theorem Qc(h:∀a b c,P [a,b,c]):∀us,us.length=3->P us:=M0 λa=>all2 (h a)
theorem TN(h:∀a b c d,P [a,b,c,d]):∀us,us.length=4->P us:=M0 λa=>Qc (h a)
theorem Qd{P:YF->YF->Prop}(h:∀a b c d e,P [a,b,c] [d,e]):∀us ws,us.length=3->3+ws.length=5->P us ws:=λus ws hu hw=>Qc (P:=λus=>P us ws) (λa b c=>all2 (λd e=>h a b c d e) ws #[1]) us hu
end
end Ml
namespace K36
open PySem L2 Ml
theorem Qe{K:YG}{h:Heap}{mg:YC}{ta0:Addr}{ta1:Addr}{fb0:Addr}{fb1:Addr}{k0:Tok}{k1:Tok}{k2:Tok}{k3:Tok}(X:K.In h)(G:h.Ns mainGlobals mg)
 (z0:PySem.W.nsIn K mainGlobals "all" = some none)
 (z1:PySem.W.nsIn K mainGlobals "len" = some none)
 (z2:PySem.W.nsIn K mainGlobals "isinstance" = some none)
 (z3:PySem.W.nsIn K mainGlobals "str" = some none)
 (z4:PySem.W.nsIn K mainGlobals "zip" = some none)
 (z5:PySem.W.nsIn K mainGlobals "tuple" = some none)
 (z6:PySem.W.nsIn K mainGlobals "sorted" = some none)
 (z7:PySem.W.nsIn K mainGlobals "any" = some none)
 (z8:PySem.W.nsIn K mainGlobals "set" = some none)
 (z9:PySem.W.nsIn K mainGlobals "bool" = some none)
 (z10:PySem.W.nsIn K mainGlobals "int" = some none)
 (z11:PySem.W.nsIn K mainGlobals "range" = some none)
 (z12:PySem.W.nsIn K mainGlobals "abs" = some none)
 (z13:PySem.W.nsIn K mainGlobals "divmod" = some none)
 (z14:PySem.W.nsIn K mainGlobals "list" = some none)
 (z15:PySem.W.nsIn K mainGlobals "max" = some none)
 (z16:PySem.W.nsIn K mainGlobals "min" = some none)
 (a0:PySem.W.nsIn K mainGlobals "LONGEST_NAME" = some (some (.int 6 k0)))
 (a1:PySem.W.nsIn K mainGlobals "MOST_NAMES" = some (some (.int 12 k1)))
 (a2:PySem.W.nsIn K mainGlobals "MOST_ENFORCED" = some (some (.int 5 k2)))
 (a3:PySem.W.nsIn K mainGlobals "MOST_CHANGES" = some (some (.int 4 k3)))
 (fn0:PySem.W.nsIn K mainGlobals "FINDERS" = some (some (.ref fb0)))(fk0:RZ K fb0 ox=true)
 (fn1:PySem.W.nsIn K mainGlobals "JUDGES" = some (some (.ref fb1)))(fk1:RZ K fb1 kT=true)
 (tn0:PySem.W.nsIn K mainGlobals "KINDS" = some (some (.ref ta0)))(tk0:RY K ta0 Ad=true)
 (tn1:PySem.W.nsIn K mainGlobals "ENFORCED_KINDS" = some (some (.ref ta1)))(tk1:RY K ta1 eY=true)
  : Txt K mg:=⟨Ve X G z0,Ve X G z1,Ve X G z2,Ve X G z3,Ve X G z4,Ve X G z5,Ve X G z6,Ve X G z7,Ve X G z8,Ve X G z9,Ve X G z10,Ve X G z11,Ve X G z12,Ve X G z13,Ve X G z14,Ve X G z15,Ve X G z16,⟨_,VU X G a0⟩,⟨_,VU X G a1⟩,⟨_,VU X G a2⟩,⟨_,VU X G a3⟩,⟨_,VU X G fn0,Js (λ_ _=>VU X G) fk0⟩,⟨_,VU X G fn1,Js (λ_ _=>VU X G) fk1⟩,⟨_,VU X G tn0,Ji tk0⟩,⟨_,VU X G tn1,Ji tk1⟩⟩
theorem all_mk{l:PySem.W.OpenLaw}{w:World}{K:YG}{h:Heap}{mg:YC}{fa f:Addr}{od an:Option Addr}{sl:YJ}{oc kV dc pm cd ct:Value}(X:K.In h)(G:h.Ns mainGlobals mg)(hfa:mg "law" = some (.ref fa))(T:Txt K mg)
 (d0:Df K mg "is_name" jg sV)
 (d1:Df K mg "is_rising" fP nj)
 (d2:Df K mg "are_names" fQ nu)
 (d3:Df K mg "is_strike" iw nv)
 (d4:Df K mg "are_strikes" dP ku)
 (d5:Df K mg "is_web" ny wN)
 (d6:Df K mg "check_web" ix nC)
 (d7:Df K mg "is_lot" kX wO)
 (d8:Df K mg "check_lot" iy nE)
 (d9:Df K mg "check_few" iz nF)
 (d10:Df K mg "is_within" fR nG)
 (d11:Df K mg "hit_by" kY wR)
 (d12:Df K mg "defended" jA pQ)
 (d13:Df K mg "foes" wV Ec)
 (d14:Df K mg "peaceful_lots" dH iL)
 (d15:Df K mg "is_peaceful" dQ kB)
 (d16:Df K mg "is_standing" fv kC)
 (d17:Df K mg "is_whole" jB pU)
 (d18:Df K mg "is_stable" iB nI)
 (d19:Df K mg "standing_lots" cQ iN)
 (d20:Df K mg "whole_lots" fc l9)
 (d21:Df K mg "grounded_lots" dI iP)
 (d22:Df K mg "preferred_lots" dk gM)
 (d23:Df K mg "stable_lots" dR kE)
 (d24:Df K mg "check_kind" gk me)
 (d25:Df K mg "lots" xa Ee)
 (d26:Df K mg "is_lot_of" iC nK)
 (d27:Df K mg "check_changes" dJ iQ)
 (d28:Df K mg "turned" nL xb)
 (d29:Df K mg "changed" lj tp)
 (d30:Df K mg "wider_lots" gm mf)
 (d31:Df K mg "picks" rn Ay)
 (d32:Df K mg "check_enforced" du gN)
 (d33:Df K mg "check_limits" eR jC)
 (d34:Df K mg "is_reached" gn mi)
 (d35:Ql K mg "enforced" jD 3 pX)
 (d36:Df K mg "_law_cell" iD nN)
 (d37:Df K mg "_law_mix" jE pZ)
 (d38:Df K mg "_law_box" jF qa)
 (d39:Df K mg "_law_take" iG nO)
 (d40:Df K mg "_law_web" jG qb)
 (d41:Df K mg "_law_holds_so" cA iR)
 (d42:Df K mg "_law_told_right" cW gp)
 (d43:Df K mg "_law_count" gq mm)
 (d44:Df K mg "_law_right" gr mn)
 (a:PySem.W.nsIn K mainGlobals "law" = some (some (.ref f)))(l0:K.lookup f=some ⟨oc,od,.func (PySem.W.fnOf "law" "law" (gR rH) (dZ rH) (au rH) .none kV dc pm an cd ct),sl⟩)(c:PySem.W.codeIn K cd "law" = true)(k:PySem.W.keepIn K (.ref f)=true) :
  ∃fd:FuncData,(∀(s:YR) (v:Value),BindsTo s fd ⟨[v],[]⟩ [("_law_script",v)])/\∀base:Heap,K.In base->base.Ns mainGlobals mg->jQ l.prog w K mg base (uV l.prog w) 11 fa fd ["_law_script"] (IE ⟨l.prog,w,mg,K⟩ FG):=by
 have e:=hfa.symm.trans (VU X G a);cases e;have FL:=zu (st:=rH) l0 c k;refine⟨PySem.W.fnOf "law" "law" (gR rH) (dZ rH) (au rH) .none kV dc pm an cd ct,λs v=>.of_eq rfl,λbase _ _=>?_⟩
 let C:CX:=⟨l.prog,w,K,mg,base⟩
 have J12:=G9 (c:=C) d0 T;have J13:=Ci (c:=C) d1 T;have J14:=Cj (c:=C) d2 T J13 J12;have J15:=Ck (c:=C) d3 T;have J16:=xX (c:=C) d4 T J13 J15;have J17:=JN (c:=C) d5 T J16 J14;have J18:=Cn (c:=C) d6 T J17;have J19:=JO (c:=C) d7 T J13;have J20:=Cq (c:=C) d8 T J19;have J21:=Cr (c:=C) d9 T;have J23:=Cs (c:=C) d10 T;have J24:=JP (c:=C) d11 T;have J25:=Eb (c:=C) d12 T J24;have J26:=PH (c:=C) d13 T;have J27:=uJ (c:=C) d14 T J26;have J28:=xZ (c:=C) d15 T;have J29:=x5 (c:=C) d16 T J23 J25;have J30:=Ed (c:=C) d17 T J25;have J31:=Cu (c:=C) d18 T J24;have J32:=uK (c:=C) d19 T J27 J29;have J33:=Au (c:=C) d20 T J27 J30;have J34:=uM (c:=C) d21 T J25;have J35:=sZ (c:=C) d22 T J32 J23;have J36:=x8 (c:=C) d23 T J27 J31;have J40:=Av (c:=C) d24 T;have J41:=PJ (c:=C) d25 T J34 J35 J36 J32 J33 J40 J18;have J42:=Cv (c:=C) d26 T J41;have J44:=uN (c:=C) d27 T J16;have J45:=JS (c:=C) d28 T;have J46:=Hd (c:=C) d29 T J45 J44 J18;have J48:=Ax (c:=C) d30 T;have J49:=Mt (c:=C) d31 T;have J54:=tw (c:=C) d32 T J20 J21 J18;have J55:=xg (c:=C) d33 T;have J56:=Az (c:=C) d34 T J31 J29 J30 J28;have J57:=Eh (c:=C) d35 T J49 J56 J45 J48 J55 J54;have J59:=Cw (c:=C) d36 T;have J60:=Ei (c:=C) d37 T;have J61:=Ej (c:=C) d38 T J60 J59;have J62:=Cy (c:=C) d39 T;have J63:=Ek (c:=C) d40 T J62;have J64:=uQ (c:=C) d41 T J41 J42;have J65:=rD (c:=C) d42 T J57 J64 J46;have J66:=AB (c:=C) d43 T J57;have J67:=AD (c:=C) d44 T J66 J65 J62 J63;exact PM (P:=l.prog) (w:=w) (base:=base) FL T J67 J61
theorem walk{l:PySem.W.OpenLaw}{q:YN}{loose:YH}{XP:(YC)->Heap->Prop}{YP:World->Heap->Prop}{d:DefRec}{K:Params->YG}(hn:l.most=some 63)(hdf:d.params.defaults=[])
 (hY:∀(w:World) (h:Heap),YP w h->(K w.params).In h)
 (F:∀(w:World) (mg:YC) (fa:Addr) (h:Heap),(K w.params).In h->h.Ns mainGlobals mg->mg d.name=some (.ref fa) ->
   ∃fd:FuncData,(∀(s:YR) (u:Value),BindsTo s fd ⟨[u],[]⟩ [("_law_script",u)])/\∀base:Heap,(K w.params).In base->base.Ns mainGlobals mg->jQ l.prog w (K w.params) mg base (uV l.prog w) 11 fa fd ["_law_script"] (IE ⟨l.prog,w,mg,K w.params⟩ FG)) :
  PySem.W.WalkO q loose XP YP l.row.toRowW d [] (λf vs=>PySem.call f vs):=
 L2.Lm (n:=63) (k:=11) (x := "_law_script") (CX:=λw=>uV l.prog w) (sp:=λw=>Nn (K w.params)) hn (by decide) hdf ⟨rfl,by decide,by decide,rfl⟩ hY
  (λw mg fa h KX G hm=>by obtain⟨fd,b,o⟩:=F w mg fa h KX G hm;exact⟨fd,b,λbase k g=>(o base k g).imp λvs H Q E z=>Jc KC z⟩)
  (λw H a ns hl _ hS=>⟨a,ns,rfl,hS,hl,λ_=>rfl⟩) (by rintro w H s e s' ⟨_,_,_,_,_,_,_,_,_,_,_,_,_,z⟩;exact z)
end K36
open PySem PySem.W PyProof.Rows
structure PySem.W.Fast:Prop where
 (tw247279966900741274 tw7885443554939440435 tw5241358718528508100 tw15973599967187784526 tw12222582865357511833 tw16273902075992911647 tw2032172307822005841 tw495589255776397778 tw17828305525816899908 tw1635606386662570079 tw16233660774479960405 tw663864432738402610 tw6174620208130246948 tw9859920099422817186 tw16401311852115671166 tw5218816465153621077 tw18272904602284092527 tw4463261308846247116 tw5253386998090483877 tw13404767599234912240 tw2418774207509725470 tw8528351163285327638 tw5944992838710269841 tw11174142215073675370 tw13472608766218046647 tw11476370008143657536 tw6467580034082752569 tw4974163024337497006 tw8036967842372534955 tw4608844463349798225 tw12384848182542574833 tw12890252661512970555 tw10016493197261051545 tw11211554879179117136 tw678551165357477720 tw15453300861239779757 tw6393897929138991695 tw17606113100086435149 tw3016269818820843934 tw13582510544386668894 tw16875363189418036109 tw6749804177494481163 tw104286214388218337 tw7326757348669486197 tw11018586094224196417 tw1145071739813859307 tw12192075320552506397 tw17264222253051838517 tw685301532161816692 tw17562317387672019403 tw632139443489585489 tw13170861138908892705 tw10971975495343914449 tw4944743251098595831 tw7760370684514223388 tw4673930848737224937 tw15062957862226164374 tw16414422844920052650 tw13919089052674284675 tw17312916460623297746 tw4546821737464678744 tw1421267795363172581 tw12511633087441296252 tw7000297270276157354 tw4447980050314641260 tw6061986664410103451 tw15115260235606270297 tw3122971615124808374 tw11247762318082156682 tw9755829922164459250 tw559921462987735135 tw16994934802691642007 tw10854055535509748934 tw14018163460763855583 tw537541068403055278 tw15640018165578407571 tw2770971744935155549 tw15600173828831612810 tw6816872581009173168 tw7149839786009757964 tw18146872538198253224 tw9293189199775067515 tw7463434839945123795 tw11550847401924071728 tw8565103943075113849 tw7182409516993454945 tw15955338278087212087 tw13789975483587945453 tw4613618604027901425 tw6004451700939167988 tw46181090641127349 tw2869326311566223347 tw11112730213770459769 tw9225355334203642685 tw9568802454238011839 tw5538589703719183535 tw17369674646576816567 tw10511841439550472879 tw3176349548169962411 tw5682804290669416481 tw16474853957101289022 tw11269229553900039712 tw9509711772791302535 tw17104850722762469186 tw11128197817861621065 tw13542228274548200748 tw4670209032145215516 tw15230948950320792495 tw14379587456023642055 tw7651169665137920465 tw10058235540576686435 tw301359148653103813 tw11396781689835870892 tw8786930579616681660 tw9772010194730702133 tw17105034022973302919 tw12921365268527129754 tw15586033433163385441 tw10906953197999310075 tw16796583583032133274 tw15530950856223795312 tw13071021087039630132 tw8988748161521703094 tw12557831796090489870 tw2041163230628216645 tw3923630183063249452 tw12270794449284723796 tw18414350267469974878 tw6919815940468051971 tw8659929465133575174 tw13919592975216186255 tw17920182677377756511 tw2371891253120113420 tw5671387131481454197 tw14850677362029108100 tw11555391335801338915 tw11848826606081922971 tw5853451444505980397 tw4960140596744481504 tw9178011868027012871 tw7912039959252206151 tw3083674798392733411 tw16657403381035313648 tw10250475596966664112 tw8116561647927813182 tw10421288694083066278 tw10164860018040950518 tw6161421732313973444 tw5937986096257418416 tw15904105419827587221 tw16201647027223780094 tw10218326829684990263 tw9706353234622827378 tw12315146483129130370 tw4253356119414207294 tw2548321175901452432 tw5059699752765206350 tw3002456677308791555 tw153514114319052014 tw18325675838267756442 tw13792104236136036448 tw16793560981120438343 tw7497293768394456211 tw6653868737747125781 tw2242141833405715530 tw3092815434046181119 tw12222440801127720883 tw3040430692752935840 tw2328034788827814238 tw18401311495487510053 tw9955187062374880155 tw4063078613884401835 tw2370907589838666800 tw5820716979211620912 tw15789635191176553423 tw15235446374352502788 tw2937266646163264798 tw14271053486098050208 tw1322674688143299943 tw10163696730411440394 tw3821132341986683966 tw2605135368521960472 tw14542482600143458369 tw12802643109315121493 tw13846023655326628464 tw6602771339691321080 tw10772753474022990311 tw7394208136288770801 tw3391723191163570893 tw12592543673988808681 tw5342538536948647106 tw452706046244353426 tw4100893409948093711 tw17950902611403554645 tw12155388139597439949 tw11245015330563072104 tw6411135801582239692 tw3725636676689833086 tw16474969356349133671 tw15692010012228683733 tw6400960691293139673 tw17049028162131763145 tw17037704571412858480 tw10008447281390411765 tw14626088152781725084 tw13061248169228464089 tw1613621666767786323 tw1967569333696265333 tw14806245361856564093 tw11875842534381467805 tw7361511498093737983 tw7561890017362142622 tw16518393429965619455 tw477046365663087262 tw3111583791472102499 tw6970381365844212044 tw6001370203712827225 tw5424506788855427775 tw16367786959835407692 tw4107313671882077799 tw9441868803736736572 tw2817977975049110403 tw16252923119664918539 tw105105068431848645 tw12627458622086125942 tw9768803328974404916 tw9774976995583889804 tw12522804885494828975 tw13483754783439511362 tw11910606988915917623 tw14870001405438301891 tw13672357403057918242 tw5693999653742002826 tw14510486151670449878 tw49771414819597931 tw12977852932920836361 tw8189715136276336400 tw11611400764886509314 tw5641997782564290952 tw353658062652009039 tw5094791920145105875 tw9300455280474097059 tw2034854405532275526 tw17550238018939238308 tw16466629315821083992 tw8427317708554572125 tw8134213755586372635 tw6204212682821839384 tw2983101529156898545 tw2292287439154420402 tw1851002265475716823 tw15388349078680202326 tw10581370571809492446 tw9612459667235126700 tw278687941128317612 tw15315472824592272162 tw13209076107459352307 tw10067304533992422424 tw10529970726654084836 tw8374211684120883785 tw2082673159322515216 tw17915051818605528901 tw1136314313693053747 tw12866266840450549289 tw3937931522403962126 tw7429212589857237705 tw10270101358055674639 tw9915001280594612846 tw5815601451778546213 tw4595510920588790244 tw1780307758735768799 tw16529400921244145745 tw15235755268379964031 tw13137671629827502557 tw12740023017897736069 tw9041887030800933565 tw3531539930578603456 tw2121514011332271129 tw12920867979127438342 tw11671262112136801123 tw11644459915027050622 tw11065726253290332129 tw10694708641757666483 tw10523013796036008831 tw14953417379220357435 tw7356016796517984470 tw6379787727662120070 tw3905848982885206527 tw17302215635610172658 tw15044566292515610248 tw12898699665313623771 tw11907787834427074233 tw10431571329224619136 tw6813479016875325777 tw6495434425237878507 tw4445449978673727706 tw2704515021544501461 tw2049717074048117175 tw16281049621843898149 tw13425574053642204405 tw13388063563824044214 tw3251072318866999995 tw9879244135929712407 tw9589825413725914439 tw9482197955632438668 tw9461536470228217661 tw9440757483052012166 tw93264512108877758 tw9198570200443593195 tw9021170993131140262 tw8943304200311370602 tw8691123185712942435 tw8689275682893092531 tw8412793016846516675 tw7910568673748681366 tw7898318685937466250 tw7743002241054465846 tw7558531463188175151 tw7523964160176680090 tw7389372324816018454 tw7292143223343661270 tw7284692448939868343 tw7221722500833897425 tw7217366072893620629 tw6690180469719122994 tw6688726749652106151 tw6550830951575282852 tw6350122349627459544 tw607439205607196792 tw6041879468477536762 tw6018618650758278886 tw4819518789919244802 tw4343825656770381046 tw4078843084445532912 tw4027871881328096999 tw3887156928579760206 tw3831751486840239875 tw3800746005528541950 tw3330581673421596907 tw3307481420157504447 tw3273319581955942925 tw3163393088167329593 tw2717719709618363896 tw2376057951579177519 tw2127727929385826815 tw2100511113943706890 tw2009655906123483384 tw18346412641715648096 tw18103527385395347050 tw1786425847320260975 tw1778534918567042403 tw17755770526333243193 tw17681930287559187744 tw17392072275117605150 tw17374298084098133166 tw17128182032045089204 tw1710076875980165639 tw17088162663174797168 tw16945553629226794224 tw16901571291897037522 tw16596358723304624085 tw16560738981901131873 tw15908814342319210694 tw15888883293650455232 tw15649974414430604062 tw14787919569889879135 tw1458109647804145024 tw14272360059807632727 tw13736622214522496920 tw13561074060126125651 tw13267046775957928456 tw13184722807606530483 tw13081348396456413676 tw12852910368317773409 tw12418421245380544304 tw1233636111420229832 tw12223479544855813630 tw11895874724192424270 tw11801579876068035460 tw11719807353806896046 tw11706157845228142011 tw11165815515577365237 tw11120995167029822191 tw11089904408693359644 tw10897945979327428021 tw10852277195189242995 tw10807312464071319229 tw10405543484438898788 tw10253591660183302574 tw10183027271073104778:True)
set_option maxRecDepth 100000 in
set_option maxHeartbeats 0 in
theorem PySem.Challenge.cw_everalike_k36_whole_lots_enforced_holds : PySem.Challenge.rw_everalike_k36_whole_lots_enforced.Holds := by
 w_on;o_law;k_head;(case hw=>w_witness2)
 k_fill
 refine K36.walk (l:=PySem.Challenge.rw_everalike_k36_whole_lots_enforced) rfl rfl (λw h Y=>PySem.W.kIn_of Y) ?F
 case F=>
  intro w mg fa h KX G hmg
  refine' K36.all_mk KX G hmg ?T ?d0 ?d1 ?d2 ?d3 ?d4 ?d5 ?d6 ?d7 ?d8 ?d9 ?d10 ?d11 ?d12 ?d13 ?d14 ?d15 ?d16 ?d17 ?d18 ?d19 ?d20 ?d21 ?d22 ?d23 ?d24 ?d25 ?d26 ?d27 ?d28 ?d29 ?d30 ?d31 ?d32 ?d33 ?d34 ?d35 ?d36 ?d37 ?d38 ?d39 ?d40 ?d41 ?d42 ?d43 ?d44 ?a ?l ?c ?k
  case T=>
   refine' K36.Qe KX G ?zz0 ?zz1 ?zz2 ?zz3 ?zz4 ?zz5 ?zz6 ?zz7 ?zz8 ?zz9 ?zz10 ?zz11 ?zz12 ?zz13 ?zz14 ?zz15 ?zz16 ?aa0 ?aa1 ?aa2 ?aa3 ?fn0 ?fk0 ?fn1 ?fk1 ?tn0 ?tk0 ?tn1 ?tk1
   case zz0|zz1|zz2|zz3|zz4|zz5|zz6|zz7|zz8|zz9|zz10|zz11|zz12|zz13|zz14|zz15|zz16|aa0|aa1|aa2|aa3|fn0=>k_is
   (case fk0=>kernel_rfl)
   case fn1=>k_is
   (case fk1=>kernel_rfl)
   case tn0=>k_is
   (case tk0=>kernel_rfl)
   case tn1=>k_is
   (case tk1=>kernel_rfl)
  case d0|d1|d2|d5|d6|d14|d19|d20|d21|d22|d23|d24|d44=>refine' Ml.Fz KX G ?_ ?_ ?_ ?_ (λ_ _ _ _ _ _=>Ml.all1 λ_=>rfl);any_goals k_is
  case d3|d4|d7|d8|d9|d10|d11|d12|d13|d15|d16|d17|d18|d25|d27|d28|d29|d30|d31|d33|d36|d37|d39|d40=>refine' Ml.Fz KX G ?_ ?_ ?_ ?_ (λ_ _ _ _ _ _=>Ml.all2 λ_ _=>rfl);any_goals k_is
  case d26|d32|d34|d38=>refine' Ml.Fz KX G ?_ ?_ ?_ ?_ (λ_ _ _ _ _ _=>Ml.Qc λ_ _ _=>rfl);any_goals k_is
  case d35=>refine' Ml.Pt KX G ?_ ?_ ?_ ?_ (by decide) (Ml.Qd λ_ _ _ _ _=>rfl);any_goals k_is
  case d41|d42|d43=>refine' Ml.Fz KX G ?_ ?_ ?_ ?_ (λ_ _ _ _ _ _=>Ml.TN λ_ _ _ _=>rfl);any_goals k_is
  (case a=>k_is);(case l=>k_is);(case c=>k_is);(case k=>k_is)
