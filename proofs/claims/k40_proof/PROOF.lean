import PyProof.Rows.All
import Wide.All
import OpenK.AllK
import Wide.FinOn
import Lean
import PyProof.EqAt
import PyProof.EqKinds
import PyProof.TupleCall
import KE.KSortTup
import PyProof.Rows.SortShellK
import PyProof.Rows.SortWalk
import KE.KDictList
import KE.KStar
import PyProof.ListMulRoad
import PyProof.FactsAll.tuple
import PySem.SetOps
import PyProof.SetScanFacts
import PyProof.SetNew
import PyProof.SetRoads
import PyProof.Rows.SetFrom
import PyProof.WalksMore
import PyProof.CollectWalk
import KE.KTab
import PyProof.DictCompW
import PySem.Challenge.RW_everalike_k40_tests_as_webs
set_option linter.all false
namespace PySem
abbrev UE:=@PySem.wpAny_bind
abbrev UG:=@PySem.Heap.get?_push_of_some
abbrev UH:=@PySem.wpAny_pure
abbrev UI:=@Bool.and_eq_true
abbrev UJ:=@Nat.le_refl
abbrev UK:=@PySem.Heap.get?_push_size
abbrev UL:=@PySem.Heap.lt_size
abbrev UM:=@List.getElem?_eq_some_iff
abbrev UN:=@List.getElem?_eq_getElem
abbrev UO:=@List.mem_cons
abbrev UP:=@Nat.le_trans
abbrev UQ:=@List.mem_cons_of_mem
abbrev UR:=@Nat.ne_of_lt
abbrev US:=@Bool.false_eq_true
abbrev UT:=@Nat.lt_of_lt_of_le
abbrev UU:=@List.all_eq_true
abbrev UW:=@List.mem_cons_self
abbrev UX:=@List.size_toArray
abbrev UY:=@List.mem_of_getElem?
abbrev UZ:=@List.length_map
abbrev U0:=@List.mem_map
abbrev U1:=@List.mem_append
abbrev U2:=@List.mem_append_right
abbrev U3:=@List.getElem?_append_left
abbrev U4:=@List.mem_range
abbrev U5:=@decide_eq_true_eq
abbrev U6:=@Array.getElem?_eq_getElem
abbrev U7:=@PySem.wpAny_holding
abbrev U8:=@List.length_cons
abbrev U9:=@PySem.Paired.length
abbrev Va:=@Nat.lt_irrefl
abbrev Vb:=@PySem.W.mg_of
abbrev Vc:=@PySem.wpAny_call_entry
abbrev Vd:=@List.not_mem_nil
abbrev Ve:=@Bool.false_ne_true
abbrev Vf:=@PySem.W.mg_none_of
abbrev Vg:=@Array.getElem?_toList
abbrev Vh:=@List.getElem?_append_right
abbrev Vi:=@List.length_append
abbrev Vj:=@decide_eq_false
abbrev Vk:=@List.mem_singleton
abbrev Vl:=@Array.length_toList
abbrev Vm:=@PySem.wpAny_callSpecial?_slot
abbrev Vn:=@List.map_cons
abbrev Vo:=@List.pairwise_iff_getElem
abbrev Vp:=@PySem.Heap.get?_push_ne
abbrev Vq:=@Nat.lt_succ_of_lt
abbrev Vr:=@List.pairwise_cons
abbrev Vs:=@Classical.byContradiction
abbrev Vt:=@Option.map_eq_some_iff
abbrev Vu:=@if_false
abbrev Vv:=@PyProof.Rows.slot_tuple_getitem
abbrev Vw:=@PySem.wpAny_newObj_type
abbrev Vx:=@PyProof.Rows.ReadsAll.keeps
abbrev Vy:=@Array.getD_eq_getD_getElem?
abbrev Vz:=@decide_eq_true
abbrev VA:=@Array.getElem?_eq_some_iff
abbrev VB:=@PySem.mem_of_lookup
abbrev VC:=@PySem.wpAny_truthy_bool
abbrev VD:=@List.getElem?_map
abbrev VE:=@List.drop_eq_getElem_cons
abbrev VF:=@PySem.W.kia_one
abbrev VG:=@List.length_nil
abbrev VH:=@PySem.Heap.size_push
abbrev VI:=@PySem.wpAny_seqItems
abbrev VJ:=@List.mem_append_left
abbrev VL:=@Option.some.inj
abbrev VM:=@List.nodup_cons
abbrev VN:=@PyProof.Rows.F.plain_set_update_loop
abbrev VO:=@PySem.Heap.size_update
abbrev VP:=@List.mem_filter
abbrev VQ:=@PySem.sizeLine_eq
abbrev VR:=@PySem.wpAny_Call_Name_kw
abbrev VS:=@PySem.wpAny_field
abbrev VT:=@if_true
abbrev VU:=@PySem.wpAny_mono
abbrev VW:=@List.mem_iff_getElem
abbrev VX:=@List.getElem?_of_mem
abbrev VY:=@List.getElem?_set_self
abbrev VZ:=@Int.toNat_natCast
abbrev V0:=@PySem.Heap.get?_update_self
abbrev V1:=@PySem.codeAny_builtin
abbrev V2:=@PySem.wpAny_ite_split
abbrev V3:=@Bool.or_eq_true
abbrev V4:=@List.take_append_drop
abbrev V5:=@PySem.wpAny_rule
abbrev V6:=@List.Pairwise.imp_of_mem
abbrev V7:=@Nat.le_succ
abbrev V8:=@List.pairwise_append
abbrev V9:=@Bool.eq_false_iff
abbrev Wa:=@List.pairwise_map
abbrev Wc:=@PyProof.Rows.callWith_type1
abbrev Wd:=@List.forIn_cons
abbrev We:=@PySem.wpAny_specialOf
abbrev Wg:=@PySem.W.cellsFrom_some
abbrev Wi:=@or_false
abbrev Wj:=@Array.getElem?_eq_none
abbrev Wk:=@PySem.F.slot_tuple_iterator_next
abbrev Wl:=@Option.getD_some
abbrev Wm:=@Nat.lt_succ_self
abbrev Wn:=@List.mem_filterMap
abbrev Wo:=@PySem.wpAny_setField_rec
abbrev Wq:=@PySem.wpAny_attempt
abbrev Wr:=@Nat.lt_or_ge
abbrev Ws:=@PySem.Calls.call_function_entry
abbrev Wt:=@Array.mem_toList_iff
abbrev Wu:=@PySem.Around.under_plainId
abbrev Wv:=@Option.isSome_iff_exists
abbrev Ww:=@List.nil_append
abbrev Wx:=@Option.some.injEq
abbrev Wy:=@of_decide_eq_true
abbrev Wz:=@List.filterMap_cons_some
abbrev WA:=@Nat.le_of_lt
abbrev WB:=@List.getElem?_replicate
abbrev WC:=@PySem.wpAny_of_eq
abbrev WD:=@Nat.zero_le
abbrev WG:=@List.length_eq_zero_iff
abbrev WH:=@PySem.Heap.get?_update_ne
abbrev WI:=@List.getElem_of_mem
abbrev WJ:=@List.lookup_cons
abbrev WK:=@List.getElem_mem
abbrev WL:=@List.cons_append
abbrev WM:=@PySem.call_meets
abbrev WN:=@PySem.Heap.get?_update_other
abbrev WO:=@List.drop_of_length_le
abbrev WQ:=@List.zip_cons_cons
abbrev WR:=@PySem.wpAny_execs_nil
abbrev WS:=@List.append_nil
abbrev WT:=@PySem.codeAny_mono
abbrev WU:=@List.of_mem_zip
abbrev WV:=@List.length_replicate
abbrev WW:=@PySem.wpAny_typeOf
abbrev WX:=@getElem?_pos
abbrev WY:=@PySem.F.called_set
abbrev WZ:=@List.length_filter_le
abbrev W0:=@PySem.wpAny_pyIter_list
abbrev W2:=@PyProof.Rows.listUpdate_at
abbrev W3:=@PySem.wpAny_newList
abbrev W4:=@PySem.F.slot_tuple_hash
abbrev W5:=@Bool.not_true
abbrev W6:=@List.nodup_append
abbrev W7:=@List.length_range
abbrev W8:=@PySem.wpAny_newFunctionEnv_cells
abbrev W9:=@PyProof.Rows.sortedAll_old
abbrev Xa:=@List.getD_eq_getElem?_getD
abbrev Xb:=@List.getElem?_set_ne
abbrev Xd:=@List.mem_of_mem_take
abbrev Xe:=@PyProof.Rows.sortedAll_at
abbrev Xf:=@PyProof.Rows.F.entry_set_update_loop
abbrev Xg:=@List.isEmpty_eq_false_iff
abbrev Xh:=@congrArg
abbrev Xi:=@List.any_eq_true
abbrev Xj:=@List.perm_middle
abbrev Xk:=@PySem.Heap.SameBut.update
abbrev Xl:=@PySem.F.slot_dict_eq_refl
abbrev Xm:=@Int.toNat_of_nonneg
abbrev Xn:=@Nat.ne_of_gt
abbrev Xo:=@PySem.wpAny_load
abbrev Xp:=@PySem.F.args_tuple_add_2
abbrev Xq:=@List.map_map
abbrev Xr:=@PySem.SetTable.toList_insertAt
abbrev Xs:=@PySem.wpAny_pyIter_tuple
abbrev Xt:=@PySem.wpAny_passesOwn
abbrev Xu:=@Bool.eq_iff_iff
abbrev Xv:=@PySem.Calls.spliced_cons
abbrev Xw:=@PySem.F.entry_tuple_add
abbrev Xx:=@PySem.tupleKind_room_in1
abbrev Xy:=@Array.forIn_toList
abbrev Xz:=@PySem.F.plainAttrs_list
abbrev XA:=@List.findIdx?_eq_some_iff_getElem
abbrev XB:=@List.set_cons_succ
abbrev XC:=@List.set_cons_zero
abbrev XD:=@List.getElem?_cons_zero
abbrev XF:=@Int.emod_nonneg
abbrev XG:=@List.pairwise_iff_forall_sublist
abbrev XH:=@PySem.F.slot_tuple_add
abbrev XI:=@List.take_of_length_le
abbrev XJ:=@PySem.Calls.spliced_nil
abbrev XM:=@Bool.not_eq_true'
abbrev XN:=@bne_self_eq_false
abbrev XO:=@PySem.sizeLine_eq
abbrev XQ:=@List.eraseIdx_eq_take_drop_succ
abbrev XR:=@PySem.wpAny_pyIter_slot
abbrev XS:=@Bool.false_and
abbrev XT:=@List.forIn_nil
abbrev XU:=@List.Perm.refl
abbrev XW:=@Nat.mul_le_mul
abbrev XX:=@PySem.codeAny_call_function
abbrev XY:=@PyProof.Rows.callWith_builtin1
abbrev XZ:=@PySem.F.slot_tuple_lt
abbrev X1:=@PySem.wpAny_isInstance
abbrev X2:=@Nat.le_add_right
abbrev X3:=@PySem.SeqAt.eqAt_reads
abbrev X4:=@PySem.wpAny_updateSeq_pair
abbrev X5:=@PySem.codeAny_call_builtin
abbrev X6:=@PySem.plainId_quiet
abbrev X7:=@PySem.wpAny_call
abbrev X8:=@Nat.mod_lt
abbrev X9:=@Ne.symm
abbrev Ya:=@Option.map_some
abbrev Yb:=@PySem.F.slot_zip_next
abbrev Yc:=@Array.toList_append
abbrev Yd:=@PyProof.Rows.seqEpoch_at
abbrev Ye:=@List.map_id
abbrev Yf:=@List.filter_sublist
abbrev Yg:=@PySem.W.callWith_K
abbrev Yh:=@PySem.W.codeRec_of
abbrev Yi:=@Nat.zero_add
abbrev Yj:=@Int.emod_lt_of_pos
abbrev Yk:=@PySem.wpAny_newTuple
abbrev Yl:=@PySem.repr_of_reads'
abbrev Ym:=@List.append_assoc
abbrev Yn:=@Option.isSome_map
abbrev Yo:=@beq_iff_eq
abbrev Yp:=@Nat.le_succ_of_le
abbrev Yq:=@List.any_cons
abbrev Yr:=@List.length_take
abbrev Ys:=@List.length_drop
abbrev Yt:=@List.zipIdx_cons
abbrev Yu:=@List.take_length
abbrev Yv:=@List.map_nil
abbrev Yw:=Value → Shared → Prop
abbrev Yx:=List (Addr × Obj)
abbrev Yy:=List (PyData × PyData)
abbrev Yz:=Array (Int × Value)
abbrev YA:=Str → Option Value
abbrev YB:=List PyData
abbrev YC:=List Addr
abbrev YD:=List Value
abbrev YE:=PySem.W.Frag
abbrev YF:=List Str
abbrev YG:=List Expr
abbrev YH:=Array (Option Value)
abbrev YI:=Array DictEntry
abbrev YJ:=Array Value
abbrev YK:=Array Nat
abbrev YL:=Program
abbrev YM:=SetTable
abbrev YN:=Around
abbrev YO:=Shared
end PySem
set_option bootstrap.genMatcherCode false
set_option genSizeOfSpec false
set_option hygiene false in
local macro_rules
 |`(#[1])=>`(((s.heap.push (seqObj "list" #[] 0)).update s.heap.objs.size (Obj.mapSeq (·++vs.toArray))))
 |`(#[2])=>`(starEach (e::es) X.env=(false,eval e X.env)::starEach es X.env)
 |`(#[3])=>`(X.fn x=true\/X.env.scope.names.lookup x=some .local)
 |`(#[4])=>`((by omega))
 |`(#[5])=>`((by decide))
 |`(#[6])=>`((by simp))
 |`(#[7])=>`((by rfl))
 |`(#[8])=>`((by kernel_rfl))
 |`(#[9])=>`((by decide +kernel))
 |`(#[10])=>`(s.heap.objs.size)
 |`(#[11])=>`(Inv X pins σ H s)
 |`(#[12])=>`((model X.prog X.w))
 |`(#[13])=>`((bQ X own scope C s2 H2 fp pins))
 |`(#[14])=>`((model P w))
 |`(#[15])=>`((ah (.int 0)))
 |`(#[16])=>`((List.toArray (List.range 64)))
noncomputable section
set_option compiler.extract_closed false
set_option Elab.async false
set_option linter.all false
set_option maxRecDepth 100000
namespace L2
open PySem PySem.Spec PyProof.Rows
noncomputable abbrev Key:=Sum Int Str
noncomputable def uE:Key->Value->Bool
 |.inl k,v=>Value.isInt k v
 |.inr x,v=>Value.isStrOf x v
noncomputable def RY(w:World):Key->Int
 |.inl k=>hashInt k
 |.inr x=>hashStr w x
theorem cM:∀{k:Key} {v:Value},uE k v=true->(∃i t,k=Sum.inl i/\v=Value.int i t)\/(∃x t,k=Sum.inr x/\v=Value.str x t)
 |.inl i,v,h=>by
  obtain⟨t,e⟩:=Value.isInt_shape h
  simp_all
 |.inr x,v,h=>by obtain⟨t,e⟩:=Value.isStrOf_shape h;exact .inr ⟨x,t,rfl,e⟩
theorem E4(i:Int)(t:Tok):uE (.inl i) (.int i t)=true:=by simp[uE,Value.isInt]
theorem E5(x:Str)(t:Tok):uE (.inr x) (.str x t)=true:=by simp[uE,Value.isStrOf]
theorem MN(a b:Int):decide ((Sum.inl a:Key)=Sum.inl b)=(a==b):=by
 grind
theorem MP(a b:Str):decide ((Sum.inr a:Key)=Sum.inr b)=decide (a=b):=by
 grind
theorem MQ(a:Int)(b:Str):decide ((Sum.inl a:Key)=Sum.inr b)=false:=Vj (λq=>nomatch q)
theorem MR(a:Str)(b:Int):decide ((Sum.inr a:Key)=Sum.inl b)=false:=Vj (λq=>nomatch q)
noncomputable def cX(prog:YL)(w:World):PySem.KeyKind prog w Key where
 is:=uE
 hash:=RY w
 inj:=λv a b ha hb=>by
  rcases cM ha with⟨i,t,rfl,rfl⟩|⟨x,t,rfl,rfl⟩
  ·rcases cM hb with⟨j,u,rfl,e⟩|⟨y,u,rfl,e⟩
   ·injection e with e1 _;rw[e1]
   ·exact nomatch e
  ·rcases cM hb with⟨j,u,rfl,e⟩|⟨y,u,rfl,e⟩
   ·exact nomatch e
   ·injection e with e1 _;rw[e1]
 byValue:=λk v h=>by rcases cM h with⟨i,t,rfl,rfl⟩|⟨x,t,rfl,rfl⟩<;>rfl
 pyHash:=λhv h=>by
  rcases cM hv with⟨i,t,rfl,rfl⟩|⟨x,t,rfl,rfl⟩
  ·exact wpAny_pyHash_int h
  ·exact wpAny_pyHash_str h
 eqBool:=λhu hv h=>by
  rcases cM hu with⟨i,t,rfl,rfl⟩|⟨x,t,rfl,rfl⟩
  ·rcases cM hv with⟨j,u,rfl,rfl⟩|⟨y,u,rfl,rfl⟩
   ·rw[MN]at h;exact wpAny_eqBool_int h
   ·rw[MQ]at h;exact SeqAt.EqAt.int_str i t y u _ _ _ _ h
  ·rcases cM hv with⟨j,u,rfl,rfl⟩|⟨y,u,rfl,rfl⟩
   ·rw[MR]at h;exact SeqAt.EqAt.str_int x t j u _ _ _ _ h
   ·rw[MP]at h;exact wpAny_eqBool_str h
 «strs» := λk x t v h=>by
  rcases cM h with⟨i,u,rfl,e⟩|⟨y,u,rfl,e⟩
  ·exact nomatch e
  ·injection e with e1 _;subst e1;cases v<;>rfl
theorem zZ(prog:YL)(w:World)(i:Int)(t:Tok):(cX prog w).is (.inl i) (.int i t)=true:=E4 i t
theorem Aa(prog:YL)(w:World)(x:Str)(t:Tok):(cX prog w).is (.inr x) (.str x t)=true:=E5 x t
inductive V where
 |non|bl (b:Bool)|int (i:Int)|str (x:Str)|byt (b:Array UInt8)|flt (b:UInt64)|ref (a:Addr)|ty (n:String)
 deriving DecidableEq
noncomputable def RelV:V->Value->Prop
 |.non,u=>u=Value.none
 |.bl b,u=>u=Value.bool b
 |.int i,u=>∃t,u=Value.int i t
 |.str x,u=>∃t,u=Value.str x t
 |.byt b,u=>∃t,u=Value.bytes b t
 |.flt b,u=>∃t,u=Value.float b t
 |.ref a,u=>u=Value.ref a
 |.ty n,u=>u=Value.type n
noncomputable abbrev Vals:List V->YD->Prop:=Paired RelV
theorem Vals.length(r:Vals xs us):xs.length=us.length:=U9 r
theorem Vals.get:∀{xs:List V} {us:YD} {i:Nat} {x:V},Vals xs us->xs[i]?=some x->∃u,us[i]?=some u/\RelV x u
 |_,_,_,_,.nil,e=>by simp at e
 |_,_,0,_,.cons r _,e=>by grind
 |_,_,i+1,x,.cons _ t,e=>by
  obtain⟨u,h1,h2⟩:=Vals.get (i:=i) (x:=x) t (by simp_all)
  simp_all
theorem Vals.set(r:RelV x u):∀{xs:List V} {us:YD} (i:Nat),Vals xs us->Vals (xs.set i x) (us.set i u)
 |_,_,_,.nil=>.nil
 |_,_,0,.cons _ t=>.cons r t
 |_,_,i+1,.cons q t=>.cons q (Vals.set r i t)
theorem Vals.append:∀{xs ys:List V} {us ws:YD},Vals xs us->Vals ys ws->Vals (xs++ys) (us++ws)
 |_,_,_,_,.nil,s=>s
 |_,_,_,_,.cons r t,s=>.cons r (Vals.append t s)
theorem Vals.take:∀{xs:List V} {us:YD} (n:Nat),Vals xs us->Vals (xs.take n) (us.take n)
 |_,_,0,_=>.nil
 |_,_,_+1,.nil=>.nil
 |_,_,n+1,.cons r t=>.cons r (Vals.take n t)
theorem Vals.drop:∀{xs:List V} {us:YD} (n:Nat),Vals xs us->Vals (xs.drop n) (us.drop n)
 |_,_,0,r=>r
 |_,_,_+1,.nil=>.nil
 |_,_,n+1,.cons _ t=>Vals.drop n t
noncomputable def uF:Option V->Option Value->Prop
 |some v,some u=>RelV v u
 |none,none=>True
 |_,_=>False
noncomputable def KV{κ:Type}:List (κ×V)->List (κ×Value)->Prop:=Paired λ(p:κ×V) (q:κ×Value)=>p.1=q.1/\RelV p.2 q.2
noncomputable def kV:Key->V
 |.inl i=>.int i
 |.inr x=>.str x
inductive HO where
 |lst (xs:List V)
 |tup (xs:List V)
 |dK (kvs:List (Key×V))|dT (kvs:List (List Key×V))
 |set (S:Int->Bool) (n:Nat)
 |ins (C dx:Addr) (fs:List (Str×V))
 |own (x:Addr)
 |xd (fs:List (Str×V))
 |met (f x:Addr)
 |rng (lo hi:Int)
 |frz (o:Obj) (u:HO)
 |tbl (ps:YJ)
 |ext (φ:Heap->Prop)
noncomputable abbrev Hp:=Addr->Option HO
noncomputable def upd(H:Hp)(a:Addr)(o:HO):Hp:=λb=>if b=a then some o else H b
theorem aM:upd H a o a=some o:=by grind[upd]
theorem aD(h:b≠a):upd H a o b=H b:=by simp[upd,h]
theorem PF{H:Hp}(h:H a=some o)(h':H b=some u)(d:o≠u):a≠b:=by
 grind
theorem aJ{H:Hp}(h:H a=some o)(h':H b=none):a≠b:=by
 grind
section
variable (P:YL) (w:World)
noncomputable def cC(H:Hp)(h:Heap)(a:Addr):HO->Prop
 |.lst xs=>xs.length<=sizeLine/\∃(its:YD) (n:Nat),Vals xs its/\h.get? a=some {cls:=.type "list",data:=.seq its.toArray n}
 |.tup xs=>xs.length<=sizeLine/\∃its:YD,Vals xs its/\IsTup h a its.toArray
 |.dK kvs=>kvs.length<=sizeLine/\(a==sysModules)=false/\∃vs,KV kvs vs/\h.DictOf (cX P w) a vs
 |.dT kvs=>kvs.length<=sizeLine/\(a==sysModules)=false/\∃xs:List (List Key×Addr×Value),
   Paired (λ(p:List Key×V) (q:List Key×Addr×Value)=>p.1=q.1/\H q.2.1=some (.tup (p.1.map kV))/\RelV p.2 q.2.2) kvs xs /\
   ∃o es ep,h.get? a=some o/\o.ExactDict/\o.data=.dict es ep/\es.toList=xs.map (entryOfKey (tupleKind (cX P w)))/\(xs.map (·.1)).Nodup
 |.set S n=>h.SetOf (intKind P w) a S n
 |.ins C dx fs=>H dx=some (.own a)/\fs.length<=1000/\dx≠a/\h.get? a=some (PySem.W.instObj C dx) /\
   ∃mA,h.Ns1 dx mA/\(∀f,uF (fs.lookup f) (mA f))/\PySem.Within mA (fs.map (·.1))
 |.own _=>∃o,h.get? a=some o
 |.xd fs=>∃mA,h.Ns1 a mA/\∀f,uF (fs.lookup f) (mA f)
 |.rng lo hi=>∃t u v,h.get? a=some {cls:=.type "range",data:=.fields #[.int lo t,.int hi u,.int 1 v]}
 |.frz o u=>h.get? a=some o/\cC H h a u
 |.tbl ps=>h.get? a=some {cls:=.none,data:=.fields ps}
 |.met f x=>h.get? a=some (PySem.W.methodObj (.ref f) (.ref x))
 |.ext φ=>φ h/\(∃o,h.get? a=some o)/\∀h1 h2:Heap,φ h1->(∀o,h1.get? a=some o->h2.get? a=some o)->φ h2
noncomputable def lu(H:Hp)(h:Heap):Prop:=∀a o,H a=some o->cC P w H h a o
end
section
variable {P:YL} {w:World} {H H':Hp} {h h':Heap} {a:Addr} {o:HO}
theorem cC.lt(x:cC P w H h a o):a<h.objs.size:=by
 cases o with
 |lst xs=>obtain⟨_,_,_,_,e⟩:=x;exact UL e
 |tup xs=>obtain⟨_,_,_,p⟩:=x;exact p.lt
 |dK kvs=>obtain⟨_,_,_,_,o,_,_,e,_⟩:=x;exact UL e
 |dT kvs=>obtain⟨_,_,_,_,o,_,_,e,_⟩:=x;exact UL e
 |set S n=>obtain⟨o,_,_,_,e,_⟩:=x;exact UL e
 |ins C dx fs=>obtain⟨_,_,_,e,_⟩:=x;exact UL e
 |own y=>obtain⟨_,e⟩:=x;exact UL e
 |xd fs=>obtain⟨_,⟨_,_,_,e,_⟩,_⟩:=x;exact UL e
 |rng lo hi=>obtain⟨_,_,_,e⟩:=x;exact UL e
 |frz ob u=>obtain⟨e,_⟩:=x;exact UL e
 |tbl ps=>exact UL x
 |met f y=>exact UL x
 |ext φ=>obtain⟨_,⟨_,e⟩,_⟩:=x;exact UL e
theorem Paired.yx:∀{l₁:List α} {l₂:List β},Paired F l₁ l₂->(∀a b,F a b->G a b)->Paired G l₁ l₂
 |_,_,.nil,_=>.nil
 |_,_,.cons r t,f=>.cons (f _ _ r) (Paired.yx t f)
theorem cC.pY(x:cC P w H h a o)(k:∀b u,(b=a\/H b=some (.own a))->h.get? b=some u->h'.get? b=some u)
 (ho:∀b,H b=some (.own a)->H' b=some (.own a))(ht:∀b xs,H b=some (.tup xs)->H' b=some (.tup xs)):cC P w H' h' a o:=by
 induction o with
 |lst xs=>obtain⟨z,its,n,r,e⟩:=x;exact⟨z,its,n,r,k _ _ (.inl rfl) e⟩
 |tup xs=>obtain⟨z,its,r,ob,e,c⟩:=x;exact⟨z,its,r,ob,k _ _ (.inl rfl) e,c⟩
 |dK kvs=>obtain⟨z,y,vs,r,ob,es,ep,e,c⟩:=x;exact⟨z,y,vs,r,ob,es,ep,k _ _ (.inl rfl) e,c⟩
 |dT kvs=>obtain⟨z,y,xs,r,ob,es,ep,e,c⟩:=x;exact⟨z,y,xs,Paired.yx r λp q z=>⟨z.1,ht _ _ z.2.1,z.2.2⟩,ob,es,ep,k _ _ (.inl rfl) e,c⟩
 |set S n=>obtain⟨ob,es,ep,t,e,c⟩:=x;exact⟨ob,es,ep,t,k _ _ (.inl rfl) e,c⟩
 |ins C dx fs=>obtain⟨d,z,ne,e,mA,⟨od,es,ep,e2,c⟩,r⟩:=x;exact⟨ho _ d,z,ne,k _ _ (.inl rfl) e,mA,⟨od,es,ep,k _ _ (.inr d) e2,c⟩,r⟩
 |own y=>obtain⟨ob,e⟩:=x;exact⟨ob,k _ _ (.inl rfl) e⟩
 |xd fs=>obtain⟨mA,⟨od,es,ep,e,c⟩,r⟩:=x;exact⟨mA,⟨od,es,ep,k _ _ (.inl rfl) e,c⟩,r⟩
 |rng lo hi=>obtain⟨t,u,v,e⟩:=x;exact⟨t,u,v,k _ _ (.inl rfl) e⟩
 |frz ob u ih=>obtain⟨e,q⟩:=x;exact⟨k _ _ (.inl rfl) e,ih q⟩
 |tbl ps=>have e:h.get? a=some {cls:=.none,data:=.fields ps}:=x;show h'.get? a=some {cls:=.none,data:=.fields ps};exact k a _ (.inl rfl) e
 |met f y=>have e:h.get? a=some (PySem.W.methodObj (.ref f) (.ref y)):=x;show h'.get? a=some (PySem.W.methodObj (.ref f) (.ref y));exact k a _ (.inl rfl) e
 |ext φ=>obtain⟨p,⟨o,e⟩,st⟩:=x;exact⟨st _ _ p λo q=>k _ _ (.inl rfl) q,⟨o,k _ _ (.inl rfl) e⟩,st⟩
theorem lu.lt(x:lu P w H h)(e:H a=some o):a<h.objs.size:=(x a o e).lt
theorem lu.fresh(x:lu P w H h)(e:h.objs.size<=a):H a=none:=by
 cases q:H a with
 |none=>rfl
 |some u=>exact absurd (UT (x.lt q) e) (Va _)
theorem lu.kept(x:lu P w H h)(k:∀b u,h.get? b=some u->h'.get? b=some u):lu P w H h':=λa o e=>
 (x a o e).pY (λb u _ q=>k b u q) (λ_ q=>q) λ_ _ q=>q
theorem lu.laid(x:lu P w H h)(k:∀b u,h.get? b=some u->h'.get? b=some u)(hp:h.objs.size<=a)(new:cC P w (upd H a o) h' a o):lu P w (upd H a o) h':=λb u e=>by
 have hn:=x.fresh hp;by_cases hb:b=a
 ·grind[aM]
 ·rw[aD hb]at e;exact(x b u e).pY (λc v _ q=>k c v q) (λc q=>by rw[aD (aJ q hn)];exact q) λc xs q=>by rw[aD (aJ q hn)];exact q
end
noncomputable def Rd(H:Hp)(a:Addr)(u:HO):Prop:=H a=some u\/∃o,H a=some (.frz o u)
theorem Rd.ok(r:Rd H a u)(x:lu P w H h):cC P w H h a u:=by
 rcases r with r|⟨o,r⟩
 ·exact x a u r
 ·obtain⟨_,q⟩:=x a _ r;exact q
noncomputable def Ph:Option HO->Prop
 |some (.lst _)=>True
 |some (.dK _)=>True
 |some (.dT _)=>True
 |some (.set _ _)=>True
 |some (.ins _ _ _)=>True
 |some (.ext _)=>True
 |_=>False
section
variable {P:YL} {w:World} {H:Hp} {h h':Heap} {x e:Addr} {o':HO}
theorem lu.write(ok:lu P w H h)(mu:Ph (H x))(he:e=x\/H e=some (.own x))(k:∀b u,b≠e->h.get? b=some u->h'.get? b=some u)(heo:∃u,h'.get? e=some u)
 (new:cC P w (upd H x o') h' x o'):lu P w (upd H x o') h':=λb u q=>by
 have nown:∀c y,H c=some (.own y)->c≠x:=λc y r z=>by subst z;rw[r]at mu;exact mu
 have ntup:∀c xs,H c=some (.tup xs)->c≠x:=λc xs r z=>by subst z;rw[r]at mu;exact mu
 by_cases hb:b=x
 ·grind[aM]
 ·rw[aD hb]at q;by_cases hbe:b=e
  ·have q':H b=some (.own x):=by
    rcases he with z|z
    ·exact absurd (hbe.trans z) hb
    ·rw[hbe];exact z
   rw[q]at q';cases q';obtain⟨v,hv⟩:=heo;exact⟨v,by rw[hbe];exact hv⟩
  ·refine(ok b u q).pY (λc v hc r=>k c v ?_ r) (λc r=>by rw[aD (nown c b r)];exact r) λc xs r=>by rw[aD (ntup c xs r)];exact r
   rcases hc with rfl|hc
   ·exact hbe
   ·rintro rfl;rcases he with z|z
    ·exact nown c b hc z
    ·rw[hc]at z;cases z;exact hb rfl
end
structure Un(fs ex:YC)(H H':Hp)(h h':Heap):Prop where
 keep:∀b o,h.get? b=some o->H b=none->b∉fs->b∉ex->h'.get? b=some o
 slot:∀b o,h.get? b=some o->H b=none->b∈fs->b∉ex->∃sl,h'.get? b=some {o with slots:=sl}
 free:∀b o,h.get? b=some o->H b=none->b∉ex->H' b=none
 there:∀b o,h.get? b=some o->b∉ex->∃o',h'.get? b=some o'
 tups:∀b xs,H b=some (.tup xs)->H' b=some (.tup xs)
 frzs:∀b o u,H b=some (.frz o u)->H' b=some (.frz o u)
 tbls:∀b ps,H b=some (.tbl ps)->∃more,H' b=some (.tbl (ps++more))
section
variable {fs fs' ex ex':YC} {H H1 H2:Hp} {h h1 h2 h':Heap} {a x e:Addr} {o:HO}
theorem Un.any(u:Un fs ex H H1 h h1)(q:h.get? b=some ob)(n:H b=none)(hx:b∉ex):∃sl,h1.get? b=some {ob with slots:=sl}:=by
 by_cases hb:b∈fs
 ·exact u.slot b ob q n hb hx
 ·exact⟨ob.slots,u.keep b ob q n hb hx⟩
theorem Un.kept(k:∀b u,h.get? b=some u->h'.get? b=some u):Un fs ex H H h h':=
 ⟨λb ob q _ _ _=>k b ob q,λb ob q _ _ _=>⟨ob.slots,k b ob q⟩,λ_ _ _ n _=>n,λb ob q _=>⟨ob,k b ob q⟩,λ_ _ q=>q,λ_ _ _ q=>q,λ_ ps q=>⟨#[],by grind⟩⟩
theorem Un.refl:Un fs ex H H h h:=Un.kept λ_ _ q=>q
theorem Un.laid(k:∀b u,h.get? b=some u->h'.get? b=some u)(hp:h.objs.size<=a)(hn:H a=none):Un fs ex H (upd H a o) h h' where
 keep:=λb u q _ _ _=>k b u q
 slot:=λb u q _ _ _=>⟨u.slots,k b u q⟩
 free:=λb u q n _=>by rw[aD (UR (UT (UL q) hp))];exact n
 there:=λb u q _=>⟨u,k b u q⟩
 tups:=λb xs q=>by rw[aD (aJ q hn)];exact q
 frzs:=λb u xs q=>by rw[aD (aJ q hn)];exact q
 tbls:=λb ps q=>⟨#[],by rw[aD (aJ q hn),q];simp⟩
theorem Un.write(mu:Ph (H x))(he:e=x\/H e=some (.own x))(k:∀b u,b≠e->h.get? b=some u->h'.get? b=some u)(heo:∃u,h'.get? e=some u):Un fs ex H (upd H x o) h h':=by
 have hx:∀b,H b=none->b≠x:=λb n z=>by subst z;rw[n]at mu;exact mu
 have hb:∀b,H b=none->b≠e:=λb n z=>by
  grind
 have hm:∀b u,H b=some u->¬ Ph (some u)->b≠x:=λb u q nm z=>by grind
 refine⟨λb u q n _ _=>k b u (hb b n) q,λb u q n _ _=>⟨u.slots,k b u (hb b n) q⟩,λb u q n _=>by rw[aD (hx b n)];exact n,λb u q _=>?_,
  λb xs q=>by rw[aD (hm b _ q λz=>z)];exact q,λb u xs q=>by rw[aD (hm b _ q λz=>z)];exact q,λb ps q=>⟨#[],by rw[aD (hm b _ q λz=>z),q];simp⟩⟩
 grind
end
noncomputable def xB(h:Heap)(H:Hp):YC:=(List.range h.objs.size).filter λa=>(H a).isSome
noncomputable def wZ(h:Heap)(H:Hp):Heap:=PySem.W.hideAll h (xB h H)
theorem E6(h:Heap)(H:Hp):(wZ h H).objs.size=h.objs.size:=PySem.W.hideAll_size _ _
theorem GC(e:h.get? b=some o)(n:H b=none):(wZ h H).get? b=some o:=
 PySem.W.hideAll_get _ e λhm=>by
  have q  := (VP.mp hm).2
  grind
theorem JK(e:(wZ h H).get? b=some o):h.get? b=some o/\H b=none:=by
 have e'  := PySem.W.of_hideAll _ e;refine⟨e',?_⟩
 cases q:H b with
 |none=>rfl
 |some x=>
  have hm:b∈xB h H:=VP.mpr ⟨U4.mpr (UL e'),by simp[q]⟩;have z:(wZ h H).get? b=none:=PySem.W.hideAll_none _ hm
  grind
noncomputable def JL(g h:Heap)(L:Addr):Yx:=(List.range h.objs.size).filterMap λa=>if a=L\/(g.get? a).isSome=true then none else(h.get? a).map λo=>(a,o)
noncomputable def rest(g h:Heap)(L d:Addr):Yx:=(JL g h L).filter λp=>decide (p.1≠d)
structure Mod(K:YE)(mg:YA)(base:Heap):Prop where
 kin:K.In base
 glob:base.Ns mainGlobals mg
 blt:∃mb,base.Ns builtinsNs mb/\∀x:Str,x ≠ "__name__" -> mb x=bootBuiltins x
 nolimit:base.NoLimit
structure Cx where
 prog:YL
 w:World
 K:YE
 mg:Str->Option Value
 base:Heap
 A:YN
 N:YF
 s₀:YO
 H₀:Hp
 env:Env
 outer:List Env
 stack:List Env
 ex:YC
 fn:Str->Bool
 calm:Bool
 pn:Yx
 xe:Yw
noncomputable def lH(l:List Env):YC:=l.filterMap (·.frame)
noncomputable abbrev Cx.fs(X:Cx):YC:=lH X.outer
noncomputable def GD(sc:Scope)(x:Str):Prop:=sc.names.lookup x=some .local\/sc.names.lookup x=some .cell\/sc.names.lookup x=some .free
noncomputable def Loc(sc:Scope)(x:Str):Prop:=sc.names.lookup x=some .local\/sc.names.lookup x=some .cell
noncomputable def Look(env:Env)(h:Heap)(m:YA)(x:Str)(u:Value):Prop:=
 (env.kindOf x=some .local/\m x=some u)\/((env.kindOf x=some .cell\/env.kindOf x=some .free)/\∃c,env.cells.lookup x=some c/\h.IsCell c (some u))
structure Cx.Ok(X:Cx):Prop where
 mod:Mod X.K X.mg X.base
 kind:X.env.scope.kind=.function
 glob:X.env.globals=mainGlobals
 blt:X.env.builtins=builtinsNs
 above:X.s₀.heap.objs.size<=X.env.locals
 inj:∀x y c,X.env.cells.lookup x=some c->X.env.cells.lookup y=some c->x=y
 has:∀x,(X.env.kindOf x=some .cell\/X.env.kindOf x=some .free)->∃c,X.env.cells.lookup x=some c
 cab:∀x c,X.fn x=true->X.env.cells.lookup x=some c->X.s₀.heap.objs.size<=c
 hd:X.calm=true->X.A.handled=none
 frames:X.A.frames=some X.stack
 stk:X.stack=X.outer\/(X.stack=X.env::X.outer/\X.env.frame=some X.env.locals)
 exf:∀b∈X.ex,b≠X.env.locals/\∀x c,X.env.cells.lookup x=some c->c≠b
 bs:∀b o,X.base.get? b=some o->X.s₀.heap.get? b=some o/\X.H₀ b=none
 bsz:X.base.objs.size<=X.s₀.heap.objs.size
 noex:∀b o,X.base.get? b=some o->b∉X.ex
 exfs:∀b∈X.ex,b∉X.fs
 j5:X.s₀.heap.FunFrames X.base X.outer
 frf:∀b∈X.fs,X.H₀ b=none
structure Inv(X:Cx)(pins:Yx)(σ:List (Option V))(H:Hp)(s:YO):Prop where
 ok:X.Ok
 os:s.os=X.s₀.os
 bare:AllBare s.gens
 base:Un X.fs X.ex X.H₀ H X.s₀.heap s.heap
 loc:∃m,s.heap.Ns X.env.locals m/\∀(i:Nat) (x:Str) (v:V),X.N[i]?=some x->σ[i]?=some (some v)->GD X.env.scope x->∃u,RelV v u/\Look X.env s.heap m x u
 cell:∀x c,X.env.cells.lookup x=some c->∃v,s.heap.IsCell c v
 free:H X.env.locals=none
 freeC:∀x c,X.env.cells.lookup x=some c->H c=none
 pin:∀p∈X.pn++pins,s.heap.get? p.1=some p.2/\H p.1=none/\p.1≠X.env.locals/\p.1∉X.fs/\∀v,p.2.data≠.cell v
 hok:lu X.prog X.w H s.heap
 len:σ.length=X.N.length
section
variable {X:Cx} {pins:Yx} {σ:List (Option V)} {H H':Hp} {s:YO} {h':Heap}
theorem Cx.Ok.RZ(ok:X.Ok)(e:X.base.get? b=some o):b∉X.fs:=λhb=>by
 have:=(ok.j5.mem hb).1
 grind
theorem Inv.bs(I:#[11]):∀b o,X.base.get? b=some o->s.heap.get? b=some o/\H b=none:=λb o e=>
 ⟨I.base.keep b o (I.ok.bs b o e).1 (I.ok.bs b o e).2 (I.ok.RZ e) (I.ok.noex b o e),I.base.free b o (I.ok.bs b o e).1 (I.ok.bs b o e).2 (I.ok.noex b o e)⟩
theorem Inv.bk(I:#[11]):∀b o,X.base.get? b=some o->s.heap.get? b=some o:=λb o e=>(I.bs b o e).1
theorem Inv.mod(I:#[11]):Mod X.K X.mg X.base:=I.ok.mod
theorem Inv.sP(I:#[11]):X.K.In s.heap:=I.ok.mod.kin.keeps I.bk
theorem Inv.lt(I:#[11]):X.env.locals<#[10]:=by obtain⟨_,hn,_⟩:=I.loc;exact hn.lt
theorem Inv.sz(I:#[11]):X.s₀.heap.objs.size<=#[10]:=UP I.ok.above (WA I.lt)
theorem Inv.MU(I:#[11]){a:Addr}(h:#[10]<=a):a∉X.fs:=λhb=>by obtain⟨_,o,ho,_⟩:=I.ok.j5.mem hb;exact absurd (UT (UL ho) (UP I.sz h)) (Va _)
theorem Inv.MV(I:#[11]):∀x c,X.env.cells.lookup x=some c->c≠X.env.locals:=λx c e z=>by
 obtain⟨v,o,ho,hd⟩:=I.cell x c e;obtain⟨m,⟨o',es,ep,ho',hd',_⟩,_⟩:=I.loc
 grind
theorem Inv.j5(I:#[11]):s.heap.FunFrames X.base X.outer:=by
 have all:∀(l:List Env),(∀b∈lH l,b∈X.fs)->X.s₀.heap.FunFrames X.base l->s.heap.FunFrames X.base l:=by
  intro l
  induction l with
  |nil=>intro _ _;trivial
  |cons env r ih=>intro hs hl;obtain⟨hk,⟨L,o,hf,hn,ho,hd⟩,hr⟩:=hl;have hL  := hs L (by simp_all[lH]);obtain⟨sl,e⟩:=I.base.slot L o ho (I.ok.frf L hL) hL λz=>I.ok.exfs L z hL;exact⟨hk,⟨L,_,hf,hn,e,hd⟩,ih (λb hb=>hs b (by simp_all[lH])) hr⟩
 exact all X.outer (λ_ hb=>hb) I.ok.j5
theorem Inv.stack(I:#[11]):s.heap.FunFrames X.base X.stack:=by
 rcases I.ok.stk with e|⟨e,hf⟩
 ·rw[e];exact I.j5
 ·rw[e];obtain⟨m,hn,_⟩:=I.loc;refine .cons (by grind[I.ok.kind]) hf hn ?_ I.j5;exact Heap.get?_none_of_le (UP I.ok.bsz I.ok.above)
theorem Inv.lJ(I:#[11]):∀b∈lH X.stack,b∈X.env.locals::X.fs:=λb hb=>by
 rcases I.ok.stk with e|⟨e,hf⟩
 ·grind
 simp_all[lH]
theorem Inv.yy(I:#[11]):∀b∈lH X.stack,H b=none:=λb hb=>by
 rcases UO.mp (I.lJ b hb)with e|hb
 ·rw[e];exact I.free
 ·obtain⟨_,o,ho,_⟩:=I.ok.j5.mem hb;exact I.base.free b o ho (I.ok.frf b hb) λz=>I.ok.exfs b z hb
theorem Inv.step{ch:YC}(I:#[11])
 (hch:∀b∈ch,(b∈X.ex\/X.s₀.heap.objs.size<=b)/\b≠X.env.locals/\(∀x c,X.env.cells.lookup x=some c->c≠b)/\∀p∈X.pn++pins,p.1≠b)
 (keep:∀b o,b≠X.env.locals->b∉X.fs->b∉ch->s.heap.get? b=some o->H b=none->h'.get? b=some o)
 (slot:∀b o,b≠X.env.locals->b∈X.fs->b∉ch->s.heap.get? b=some o->H b=none->∃sl,h'.get? b=some {o with slots:=sl})(free:∀b o,b∉ch->s.heap.get? b=some o->H b=none->H' b=none)
 (there:∀b o,b∉ch->s.heap.get? b=some o->∃o',h'.get? b=some o')
 (tups:∀b xs,H b=some (.tup xs)->H' b=some (.tup xs))(frzs:∀b o u,H b=some (.frz o u)->H' b=some (.frz o u))(tbls:∀b ps,H b=some (.tbl ps)->∃more,H' b=some (.tbl (ps++more)))
 (ns:∀m,s.heap.Ns X.env.locals m->h'.Ns X.env.locals m)(hok:lu X.prog X.w H' h')(hg:AllBare g') :
  Inv X pins σ H' {s with heap:=h',gens:=g',drawn:=d',toks:=t'}:=by
 have neL:∀b o,X.s₀.heap.get? b=some o->b≠X.env.locals:=λb o e=>UR (UT (UL e) I.ok.above)
 have neC:∀b o,X.s₀.heap.get? b=some o->b∉X.ex->b∉ch:=λb o e hx hb=>by
  rcases(hch b hb).1 with z|z
  ·exact hx z
  ·exact absurd (UT (UL e) z) (Va _)
 have cellK:∀x c,X.env.cells.lookup x=some c->∀v,s.heap.IsCell c v->h'.IsCell c v:=by
  rintro x c e v ⟨o,ho,hd⟩;have nch:c∉ch:=λz=>(hch c z).2.2.1 x c e rfl;by_cases hc:c∈X.fs
  ·obtain⟨sl,q⟩:=slot c o (I.MV x c e) hc nch ho (I.freeC x c e);exact⟨_,q,hd⟩
  ·exact⟨o,keep c o (I.MV x c e) hc nch ho (I.freeC x c e),hd⟩
 refine⟨I.ok,I.os,hg,⟨λb o e n hb hx=>?_,λb o e n hb hx=>?_,λb o e n hx=>?_,λb o e hx=>?_,λb xs e=>tups b xs (I.base.tups b xs e),λb o xs e=>frzs b o xs (I.base.frzs b o xs e),λb ps e=>?_⟩,?_,λx c e=>?_,?_,λx c e=>?_,λp hp=>?_,hok,I.len⟩
 ·exact keep b o (neL b o e) hb (neC b o e hx) (I.base.keep b o e n hb hx) (I.base.free b o e n hx)
 ·obtain⟨sl,e1⟩:=I.base.slot b o e n hb hx;obtain⟨sl',e2⟩:=slot b _ (neL b o e) hb (neC b o e hx) e1 (I.base.free b o e n hx);exact⟨sl',e2⟩
 ·obtain⟨o',e1⟩:=I.base.there b o e hx;exact free b o' (neC b o e hx) e1 (I.base.free b o e n hx)
 ·obtain⟨o',e1⟩:=I.base.there b o e hx;exact there b o' (neC b o e hx) e1
 ·obtain⟨m1,e1⟩:=I.base.tbls b ps e;obtain⟨m2,e2⟩:=tbls b _ e1;exact⟨m1++m2,by rw[e2,Array.append_assoc]⟩
 ·obtain⟨m,hn,hl⟩:=I.loc;refine⟨m,ns m hn,λi x v e1 e2 e3=>?_⟩;obtain⟨u,r,l⟩:=hl i x v e1 e2 e3;refine⟨u,r,?_⟩;rcases l with l|⟨k,c,e,z⟩
  ·exact .inl l
  ·exact .inr ⟨k,c,e,cellK x c e _ z⟩
 ·obtain⟨v,z⟩:=I.cell x c e;exact⟨v,cellK x c e v z⟩
 ·obtain⟨m,⟨o,_,_,ho,_⟩,_⟩:=I.loc;exact free _ o (λz=>(hch _ z).2.1 rfl) ho I.free
 ·obtain⟨v,o,ho,hd⟩:=I.cell x c e;exact free c o (λz=>(hch c z).2.2.1 x c e rfl) ho (I.freeC x c e)
 ·obtain⟨e,n,ne,nf,d⟩:=I.pin p hp;have nch:p.1∉ch:=λz=>(hch p.1 z).2.2.2 p hp rfl;exact⟨keep p.1 p.2 ne nf nch e n,free p.1 p.2 nch e n,ne,nf,d⟩
theorem Inv.un(I:#[11])(u:Un X.fs [] H H' s.heap h')(hok:lu X.prog X.w H' h'):Inv X pins σ H' {s with heap:=h',toks:=t'}:=by
 obtain⟨m,⟨o,es,ep,ho,r⟩,_⟩:=id I.loc;obtain⟨sl,hL⟩:=u.any ho I.free #[6]
 exact I.step (ch:=[]) (λ_ z=>nomatch z) (λb o _ hb _ e n=>u.keep b o e n hb #[6]) (λb o _ hb _ e n=>u.slot b o e n hb #[6]) (λb o _ e n=>u.free b o e n #[6]) (λb o _ e=>u.there b o e #[6]) u.tups u.frzs u.tbls (λm' hm=>by
  obtain⟨o',es',ep',ho',r'⟩:=hm;rw[ho]at ho';cases ho'
  exact⟨_,es',ep',hL,r'⟩) hok I.bare
theorem Inv.call(I:#[11])(u:Un (lH X.stack) ch H H' s.heap h')(hok:lu X.prog X.w H' h')(hg:AllBare g')
 (hch:∀b∈ch,(b∈X.ex\/X.s₀.heap.objs.size<=b)/\b≠X.env.locals/\(∀x c,X.env.cells.lookup x=some c->c≠b)/\∀p∈X.pn++pins,p.1≠b) :
  Inv X pins σ H' {s with heap:=h',gens:=g',drawn:=d',toks:=t'}:=by
 obtain⟨m,⟨o,es,ep,ho,r⟩,_⟩:=id I.loc;obtain⟨sl,hL⟩:=u.any ho I.free λz=>(hch _ z).2.1 rfl
 exact I.step hch (λb o hL hb hc e n=>u.keep b o e n (λz=>(UO.mp (I.lJ b z)).elim hL hb) hc) (λb o _ _ hc e n=>u.any e n hc) (λb o hc e n=>u.free b o e n hc) (λb o hc e=>u.there b o e hc) u.tups u.frzs u.tbls (λm' hm=>by
  obtain⟨o',es',ep',ho',r'⟩:=hm;rw[ho]at ho';cases ho'
  exact⟨_,es',ep',hL,r'⟩) hok hg
theorem Inv.turned(I:#[11])(k:∀b o,b≠it->s.heap.get? b=some o->h'.get? b=some o)(hn:H it=none)(hL:it≠X.env.locals)
 (h1:it∈X.ex\/X.s₀.heap.objs.size<=it)(h2:∀x c,X.env.cells.lookup x=some c->c≠it)(h3:∀p∈X.pn++pins,p.1≠it):Inv X pins σ H {s with heap:=h',toks:=t'}:=by
 have nit:∀b u,H b=some u->b≠it:=λb u e z=>by grind
 refine I.step (g':=s.gens) (d':=s.drawn) (ch:=[it]) (λb hb=>?_) (λb o _ _ hc e _=>k b o (λz=>hc (by simp[z])) e) (λb o _ _ hc e _=>⟨o.slots,k b o (λz=>hc (by simp[z])) e⟩) (λ_ _ _ _ n=>n)
  (λb o hc e=>⟨o,k b o (λz=>hc (by simp[z])) e⟩) (λ_ _ e=>e) (λ_ _ _ e=>e) (λb ps e=>⟨#[],by grind⟩) (λm hm=>?_) (λb u e=>?_) I.bare
 ·have e:b=it:=by grind
  subst e;exact⟨h1,hL,h2,h3⟩
 ·obtain⟨o,es,ep,ho,r⟩:=hm;exact⟨o,es,ep,k _ o (X9 hL) ho,r⟩
 ·refine(I.hok b u e).pY (λc v hc q=>k c v ?_ q) (λ_ q=>q) λ_ _ q=>q
  grind
theorem Inv.tok(I:#[11])(t:Nat):Inv X pins σ H {s with toks:=t}:=I.un (h':=s.heap) (t':=t) Un.refl I.hok
theorem Inv.kept(I:#[11])(k:∀b u,s.heap.get? b=some u->h'.get? b=some u):Inv X pins σ H {s with heap:=h',toks:=t'}:=I.un (Un.kept k) (I.hok.kept k)
theorem Inv.laid{a:Addr}(I:#[11])(k:∀b u,s.heap.get? b=some u->h'.get? b=some u)(hp:#[10]<=a)(new:cC X.prog X.w (upd H a o) h' a o) :
  Inv X pins σ (upd H a o) {s with heap:=h',toks:=t'}:=I.un (Un.laid k hp (I.hok.fresh hp)) (I.hok.laid k hp new)
theorem Inv.write(I:#[11])(mu:Ph (H x))(he:e=x\/H e=some (.own x))(k:∀b u,b≠e->s.heap.get? b=some u->h'.get? b=some u)(heo:∃u,h'.get? e=some u)
 (new:cC X.prog X.w (upd H x o) h' x o):Inv X pins σ (upd H x o) {s with heap:=h',toks:=t'}:=I.un (Un.write mu he k heo) (I.hok.write mu he k heo new)
theorem Inv.uh(I:#[11])(h:∀p∈pins',s.heap.get? p.1=some p.2/\H p.1=none/\p.1≠X.env.locals/\p.1∉X.fs/\∀v,p.2.data≠.cell v):Inv X pins' σ H s:=
 ⟨I.ok,I.os,I.bare,I.base,I.loc,I.cell,I.free,I.freeC,λp hp=>(U1.mp hp).elim (λz=>I.pin p (VJ _ z)) (h p),I.hok,I.len⟩
theorem Ab{N:YF}(hN:N.Nodup){i j:Nat}(a:N[i]?=some x)(b:N[j]?=some x):i=j:=by obtain⟨h1,e1⟩:=UM.mp a;obtain⟨h2,e2⟩:=UM.mp b;exact(List.getElem_inj hN).mp (e1.trans e2.symm)
theorem xC(I:#[11])(hN:X.N.Nodup)(hi:X.N[i]?=some x)(hx:Loc X.env.scope x)(r:RelV v u)
 (h:∀s',Inv X pins (σ.set i (some v)) H s'->(∃a,Heap.SameBut a s.heap s'.heap/\(a=X.env.locals\/X.env.cells.lookup x=some a))->Q () s')(hf:#[3]:=by first|exact .inl rfl|exact .inr rfl|assumption):wpAny M A (storeName X.env x u) Q E s:=by
 obtain⟨m,hn,hl⟩:=id I.loc;have hcls:(X.env.scope.kind == .class || (X.env.scope.kind == .module&&X.env.locals != X.env.globals))=false:=by rw[I.ok.kind];rfl
 have hiσ:i<σ.length:=by grind[I.len]
 have MV:=I.MV
 have tracked:∀{a:Addr} {h':Heap},(∃o,s.heap.get? a=some o/\H a=none)->Heap.SameBut a s.heap h'->lu X.prog X.w H h':=λ{a h'} ha hs b ob e=>by
  obtain⟨_,_,hfree⟩:=ha;refine(I.hok b ob e).pY (λc w' hc q=>(hs.2 c ?_).trans q) (λ_ q=>q) λ_ _ q=>q;rintro rfl;rcases hc with rfl|hc
  ·rw[hfree]at e;cases e
  ·rw[hfree]at hc;cases hc
 rcases hx with hk|hk
 ·refine wpAny_storeName_local hk hn (λh' hn' hs=>?_) hcls;obtain⟨oL,_,_,hoL,_⟩:=id hn;refine h _ ⟨I.ok,I.os,I.bare,⟨λb o e n hb hx=>?_,λb o e n hb hx=>?_,I.base.free,λb o e hx=>?_,I.base.tups,I.base.frzs,I.base.tbls⟩,⟨_,hn',λj y v' e1 e2 e3=>?_⟩,λy c e=>?_,I.free,I.freeC,λp hp=>?_,tracked ⟨oL,hoL,I.free⟩ hs,by simpa using I.len⟩ ⟨_,hs,.inl rfl⟩
  ·exact(hs.2 b (UR (UT (UL e) I.ok.above))).trans (I.base.keep b o e n hb hx)
  ·obtain⟨sl,e1⟩:=I.base.slot b o e n hb hx;exact⟨sl,(hs.2 b (UR (UT (UL e) I.ok.above))).trans e1⟩
  ·obtain⟨o',e1⟩:=I.base.there b o e hx;exact⟨o',(hs.2 b (UR (UT (UL e) I.ok.above))).trans e1⟩
  ·by_cases hj:j=i
   ·subst hj;rw[hi]at e1;cases e1;rw[VY hiσ]at e2;cases e2;exact⟨u,r,.inl ⟨hk,by simp⟩⟩
   ·rw[Xb (X9 hj)]at e2;obtain⟨u',r',q⟩:=hl j y v' e1 e2 e3;refine⟨u',r',?_⟩;rcases q with⟨k,e⟩|⟨k,c,e,z⟩
    ·refine .inl ⟨k,?_⟩;have:y≠x:=λe=>hj (Ab hN e1 (e▸hi));simp[this,e]
    ·exact .inr ⟨k,c,e,z.sameBut hs (MV y c e)⟩
  ·obtain⟨w',z⟩:=I.cell y c e;exact⟨w',z.sameBut hs (MV y c e)⟩
  ·obtain⟨e,n,ne,nf,d⟩:=I.pin p hp;exact⟨(hs.2 p.1 ne).trans e,n,ne,nf,d⟩
 ·have hfn:X.fn x=true:=by
   rcases hf with z|z
   ·exact z
   ·rw[z]at hk;cases hk
  obtain⟨c,hc⟩:=I.ok.has x (.inl hk);obtain⟨w',z⟩:=I.cell x c hc;refine wpAny_storeName_cell I.ok.kind hk hc z (λh' hc' hs=>?_);obtain⟨oc,hoc,hocd⟩:=id z;refine h {s with heap:=h'} ⟨I.ok,I.os,I.bare,⟨λb o e n hb hx=>?_,λb o e n hb hx=>?_,I.base.free,λb o e hx=>?_,I.base.tups,I.base.frzs,I.base.tbls⟩,⟨m,hn.sameBut hs (X9 (MV x c hc)),λj y v' e1 e2 e3=>?_⟩,λy c' e=>?_,I.free,I.freeC,λp hp=>?_,tracked ⟨oc,hoc,I.freeC x c hc⟩ hs,by simpa using I.len⟩ ⟨c,hs,.inr hc⟩
  ·exact(hs.2 b (UR (UT (UL e) (I.ok.cab x c hfn hc)))).trans (I.base.keep b o e n hb hx)
  ·obtain⟨sl,e1⟩:=I.base.slot b o e n hb hx;exact⟨sl,(hs.2 b (UR (UT (UL e) (I.ok.cab x c hfn hc)))).trans e1⟩
  ·obtain⟨o',e1⟩:=I.base.there b o e hx;exact⟨o',(hs.2 b (UR (UT (UL e) (I.ok.cab x c hfn hc)))).trans e1⟩
  ·by_cases hj:j=i
   ·subst hj;rw[hi]at e1;cases e1;rw[VY hiσ]at e2;cases e2;exact⟨u,r,.inr ⟨.inl hk,c,hc,hc'⟩⟩
   ·rw[Xb (X9 hj)]at e2;obtain⟨u',r',q⟩:=hl j y v' e1 e2 e3;refine⟨u',r',?_⟩;rcases q with q|⟨k,c',e,z'⟩
    ·exact .inl q
    ·refine .inr ⟨k,c',e,z'.sameBut hs ?_⟩;rintro rfl;exact hj (Ab hN e1 (I.ok.inj _ _ _ e hc▸hi))
  ·by_cases hcc:c'=c
   ·subst hcc;exact⟨_,hc'⟩
   ·obtain⟨w2,z2⟩:=I.cell y c' e;exact⟨w2,z2.sameBut hs hcc⟩
  ·obtain⟨e,n,ne,nf,d⟩:=I.pin p hp;refine⟨(hs.2 p.1 ?_).trans e,n,ne,nf,d⟩;intro q;rw[q,hoc]at e;have q':oc=p.2:=VL e;exact d w' (by rw[<- q'];exact hocd)
theorem pZ(I:#[11])(hN:X.N.Nodup)(hi:X.N[i]?=some x)(hx:Loc X.env.scope x)(r:RelV v u)
 (h:∀s',Inv X pins (σ.set i (some v)) H s'->Q () s')(hf:#[3]:=by first|exact .inl rfl|exact .inr rfl|assumption):wpAny M A (storeName X.env x u) Q E s:=
 xC I hN hi hx r (λs' I' _=>h s' I') hf
theorem Inv.Ac(I:#[11])(ho:s'.os=s.os)(u:Un (lH X.stack) ch H H' s.heap s'.heap)(hok:lu X.prog X.w H' s'.heap)(hg:AllBare s'.gens)
 (hch:∀b∈ch,(b∈X.ex\/X.s₀.heap.objs.size<=b)/\b≠X.env.locals/\(∀x c,X.env.cells.lookup x=some c->c≠b)/\∀p∈X.pn++pins,p.1≠b):Inv X pins σ H' s':=by
 obtain⟨h',g',d',t',o'⟩:=s';have e  := ho;subst e;exact I.call u hok hg hch
end
noncomputable abbrev XK:=Value->Option Addr->Hp->Prop
noncomputable abbrev St:=List (Option V)
noncomputable abbrev VK:=V->Hp->Prop
noncomputable abbrev TE:=St->Hp->VK->Prop
noncomputable abbrev TT:=St->Hp->(Bool->Hp->Prop)->Prop
noncomputable abbrev TA:=St->Hp->(List V->Hp->Prop)->Prop
structure Ends where
 nx:St->Hp->Prop
 rt:VK
 bk:St->Hp->Prop:=λ_ _=>False
 ct:St->Hp->Prop:=λ_ _=>False
noncomputable abbrev TS:=Ends->St->Hp->Prop
noncomputable def EP(X:Cx)(pins:Yx)(σ:St)(Q:VK)(u:Value)(s':YO):Prop:=∃v H',Inv X pins σ H' s'/\RelV v u/\Q v H'
noncomputable def TP(X:Cx)(pins:Yx)(σ:St)(Q:Bool->Hp->Prop)(b:Bool)(s':YO):Prop:=∃H',Inv X pins σ H' s'/\Q b H'
noncomputable def AP(X:Cx)(pins:Yx)(σ:St)(Q:List V->Hp->Prop)(us:YD)(s':YO):Prop:=∃vs H',Inv X pins σ H' s'/\Vals vs us/\Q vs H'
noncomputable def SP(X:Cx)(pins:Yx)(D:Ends)(f:Flow)(s':YO):Prop:=
 match f with
 |.next=>∃σ' H',Inv X pins σ' H' s'/\D.nx σ' H'
 |.brk=>∃σ' H',Inv X pins σ' H' s'/\D.bk σ' H'
 |.cont=>∃σ' H',Inv X pins σ' H' s'/\D.ct σ' H'
 |.ret u=>∃v σ' H',Inv X pins σ' H' s'/\RelV v u/\D.rt v H'
noncomputable def PE(X:Cx)(e:Expr)(t:TE):Prop:=
 ∀(pins:Yx) (s:YO) (σ:St) (H:Hp) (Q:VK),#[11]->t σ H Q->wpAny #[12] X.A (eval e X.env) (EP X pins σ Q) X.xe s
noncomputable def PT(X:Cx)(e:Expr)(t:TT):Prop:=
 ∀(pins:Yx) (s:YO) (σ:St) (H:Hp) (Q:Bool->Hp->Prop),#[11]->t σ H Q->wpAny #[12] X.A (isTrue e X.env (eval e X.env)) (TP X pins σ Q) X.xe s
noncomputable def PW(X:Cx)(e:Expr)(t:TT):Prop:=
 ∀(whole:Sem Value) (pins:Yx) (s:YO) (σ:St) (H:Hp) (Q:Bool->Hp->Prop),#[11]->t σ H Q->wpAny #[12] X.A (isTrue e X.env whole) (TP X pins σ Q) X.xe s
theorem PW.pt(h:PW X e t):PT X e t:=h _
noncomputable def PA(X:Cx)(es:YG)(t:TA):Prop:=
 ∀(pos:Pos) (pins:Yx) (s:YO) (σ:St) (H:Hp) (Q:List V->Hp->Prop),#[11]->t σ H Q->wpAny #[12] X.A (spliced (backTo pos (starEach es X.env))) (AP X pins σ Q) X.xe s
noncomputable def PS(X:Cx)(st:Stmt)(t:TS):Prop:=
 ∀(pins:Yx) (s:YO) (σ:St) (H:Hp) (D:Ends),#[11]->t D σ H->wpAny #[12] X.A (exec st X.env) (SP X pins D) X.xe s
noncomputable def xD(X:Cx)(st:List Stmt)(t:TS):Prop:=
 ∀(pins:Yx) (s:YO) (σ:St) (H:Hp) (D:Ends),#[11]->t D σ H->wpAny #[12] X.A (execs st X.env) (SP X pins D) X.xe s
theorem cU{M:Model}{A:YN}{E:Yw}{s:YO}(h:wpAny M A t Q E s)(hQ:∀a s,Q a s->Q' a s):wpAny M A t Q' E s:=VU h hQ λ_ _ x=>x
section
variable {X:Cx}
noncomputable def BY(i:Nat):TE:=λσ H Q=>∃v,σ[i]?=some (some v)/\Q v H
noncomputable def tC(v:V):TE:=λ_ H Q=>Q v H
theorem yz{pos:Pos}(hN:X.N[i]?=some x)(hv:GD X.env.scope x)(hd:(x==("__debug__" : Str))=false:=by decide)(hcd:(x==("__classdict__" : Str))=false:=by decide):PE X (.Name x pos) (BY i):=by
 intro pins s σ H Q I h;obtain⟨v,e,h⟩:=h;obtain⟨m,hn,hl⟩:=I.loc;obtain⟨u,r,l⟩:=hl i x v hN e hv;have fin:EP X pins σ Q u s:=⟨v,H,I,r,h⟩;rcases l with⟨hk,hm⟩|⟨hk,c,hc,hcell⟩
 ·exact wpAny_Name (wpAny_loadName_local I.ok.kind hk hn hm fin) hd
 ·rcases hk with hk|hk
  ·exact wpAny_Name (wpAny_loadName_cell I.ok.kind hk hc hcell fin) hd
  ·exact wpAny_Name (wpAny_loadName_free I.ok.kind hk hc hcell fin hcd) hd
theorem BZ:PE X (.Constant (.int i) j pos) (tC (.int i)):=λ_ _ _ H _ I h=>wpAny_Constant_int ⟨.int i,H,I.tok _,⟨_,rfl⟩,h⟩
theorem Ds:PE X (.Constant (.bool b) j pos) (tC (.bl b)):=λ_ _ _ H _ I h=>Constant_bool ⟨.bl b,H,I,rfl,h⟩
theorem GF:PE X (.Constant .none j pos) (tC .non):=λ_ _ _ H _ I h=>Constant_none ⟨.non,H,I,rfl,h⟩
theorem o6:PE X (.Constant (.str x) j pos) (tC (.str x)):=λ_ _ _ H _ I h=>Calls.Constant_str ⟨.str x,H,I.tok _,⟨_,rfl⟩,h⟩
noncomputable def Gl(X:Cx)(x:Str):Prop:=X.env.kindOf x=some .globalImplicit
theorem nL{σ:St}(I:#[11])(hg:Gl X x)(hm:X.mg x=some u)(h:Q u s)
 (hd:(x==("__debug__" : Str))=false:=by decide):wpAny #[12] X.A (eval (.Name x pos) X.env) Q E s:=
 Calls.Name_function_global I.ok.kind hg (Calls.loadGlobal_global (by rw[I.ok.glob];exact I.mod.glob.keeps I.bk) hm h) hd
theorem o7{E:Yw}{σ:St}{pos:Pos}(I:#[11])(hg:Gl X x)(hm:X.mg x=none)(hv:bootBuiltins x=some u)(h:Q u s)
 (hn:x ≠ "__name__" := by decide)(hd:(x==("__debug__" : Str))=false:=by decide):wpAny #[12] X.A (eval (.Name x pos) X.env) Q E s:=by
 obtain⟨mb,h1,h2⟩:=I.mod.blt;exact Calls.Name_function_global I.ok.kind hg (Calls.loadGlobal_builtin (by rw[I.ok.glob];exact I.mod.glob.keeps I.bk) hm (by rw[I.ok.blt];exact h1.keeps I.bk) ((h2 x hn).trans hv) h) hd
theorem yA(hg:Gl X x)(hm:X.mg x=some u)(r:RelV v u)(hd:(x==("__debug__" : Str))=false:=by decide):PE X (.Name x pos) (tC v):=
 λ_ _ _ H _ I h=>nL I hg hm ⟨v,H,I,r,h⟩ hd
theorem Dt{pos:Pos}(hg:Gl X x)(hm:X.mg x=none)(hv:bootBuiltins x=some u)(r:RelV v u)(hn:x ≠ "__name__" := by decide)(hd:(x==("__debug__" : Str))=false:=by decide):PE X (.Name x pos) (tC v):=
 λ_ _ _ H _ I h=>o7 I hg hm hv ⟨v,H,I,r,h⟩ hn hd
variable {a b:Expr} {ta tb:TE} {pos:Pos}
noncomputable def tB(t:TE):TT:=λσ H Q=>t σ H λx H1=>∃c,x=.bl c/\Q c H1
theorem MW(h:PE X e t)(he:∀whole,isTrue e X.env whole=(do let v <- whole;standAt e.pos;holding [v] (truthy v)):=by intro _;rfl):PT X e (tB t):=by intro pins s σ H Q I hw;refine isTrue_plain (cU (h pins s σ H _ I hw) λv s1 ⟨x,H1,I1,r1,q1⟩=>?_) (he _);obtain⟨d,rfl,q⟩:=q1;cases r1;exact VC ⟨H1,I1,q⟩
variable {tA tB':TT} {rest:YG}
noncomputable def tY(t u:TT):TT:=λσ H Q=>t σ H λc H1=>if c=true then u σ H1 Q else Q false H1
noncomputable def rF(t u:TT):TT:=λσ H Q=>t σ H λc H1=>if c=true then Q true H1 else u σ H1 Q
noncomputable def eF(t:TT):TT:=λσ H Q=>t σ H λc H1=>Q (!c) H1
theorem JM(ha:PT X a tA):PW X (.BoolOp .And [a] pos) tA:=by
 intro wh pins s σ H Q I h;refine isTrue_and (cU (ha pins s σ H Q I h) λc s1 e=>?_)
 cases c with
 |true=>exact isTrue_and_nil e
 |false=>exact e
theorem GG(ha:PT X a tA):PW X (.BoolOp .Or [a] pos) tA:=by
 intro wh pins s σ H Q I h;refine isTrue_or (cU (ha pins s σ H Q I h) λc s1 e=>?_)
 cases c with
 |false=>exact isTrue_or_nil e
 |true=>exact e
theorem MX(ha:PT X a tA)(hb:PW X (.BoolOp .And (b::rest) pos) tB'):PW X (.BoolOp .And (a::b::rest) pos) (tY tA tB'):=by
 intro wh pins s σ H Q I h;refine isTrue_and (cU (ha pins s σ H _ I h) λc s1 ⟨H1,I1,q1⟩=>?_)
 cases c with
 |true=>exact hb wh pins s1 σ H1 Q I1 q1
 |false=>assumption
theorem L0(ha:PT X a tA)(hb:PW X (.BoolOp .Or (b::rest) pos) tB'):PW X (.BoolOp .Or (a::b::rest) pos) (rF tA tB'):=by
 intro wh pins s σ H Q I h;refine isTrue_or (cU (ha pins s σ H _ I h) λc s1 ⟨H1,I1,q1⟩=>?_)
 cases c with
 |true=>assumption
 |false=>exact hb wh pins s1 σ H1 Q I1 q1
theorem GH(ha:PT X a tA):PT X (.UnaryOp .Not a pos) (eF tA):=by intro pins s σ H Q I h;exact isTrue_not (ha pins s σ H _ I h)
noncomputable def PH(ta:TE):TE:=λσ H Q=>ta σ H λx H1=>∃c,x=.bl c/\Q (.bl (!c)) H1
theorem MY(h:PE X a t):PE X (.BoolOp op [a] pos) t:=λpins s σ H Q I hw=>BoolOp_one (h pins s σ H Q I hw)
theorem MZ(ha:PE X a ta):PE X (.UnaryOp .Not a pos) (PH ta):=by intro pins s σ H Q I h;refine UnaryOp_ (cU (ha pins s σ H _ I h) λv s1 ⟨x,H1,I1,r1,q1⟩=>?_);obtain⟨c,rfl,q1⟩:=q1;cases r1;exact not_of (VC ⟨.bl (!c),H1,I1,rfl,q1⟩)
noncomputable def Tw(t:TT)(ta tb:TE):TE:=λσ H Q=>t σ H λc H1=>if c=true then ta σ H1 Q else tb σ H1 Q
theorem GI(hc:PT X c tA)(ha:PE X a ta)(hb:PE X b tb):PE X (.IfExp c a b pos) (Tw tA ta tb):=by
 intro pins s σ H Q I h;refine wpAny_IfExp (cU (hc pins s σ H _ I h) λd s1 ⟨H1,I1,q1⟩=>?_)
 cases d with
 |true=>exact ha pins s1 σ H1 Q I1 q1
 |false=>exact hb pins s1 σ H1 Q I1 q1
end
noncomputable def gY(K:YE)(H:Hp)(a:Addr)(xs:List V):Prop:=
 Rd H a (.lst xs) \/
  ∃(o:Obj) (its:YJ) (n:Nat),K.lookup a=some o/\o.cls=.type "list" /\ o.dict=none/\o.data=.seq its n/\its.size<=sizeLine/\Vals xs its.toList
noncomputable def gm(K:YE)(H:Hp)(a:Addr)(xs:List V):Prop:=
 Rd H a (.tup xs) \/
  ∃(o:Obj) (its:YJ) (n:Nat),K.lookup a=some o/\o.cls=.type "tuple" /\ o.data=.seq its n/\its.size<=sizeLine/\Vals xs its.toList
noncomputable def R0:Value->Option V
 |.none=>some .non
 |.bool b=>some (.bl b)
 |.int i _=>some (.int i)
 |.str x _=>some (.str x)
 |.bytes b _=>some (.byt b)
 |.float b _=>some (.flt b)
 |.ref a=>some (.ref a)
 |.type n=>some (.ty n)
 |_=>none
theorem RelV.abs(r:RelV x u):R0 u=some x:=by
 cases x with
 |non=>cases r;rfl
 |bl _=>cases r;rfl
 |int _=>obtain⟨t,rfl⟩:=r;rfl
 |str _=>obtain⟨t,rfl⟩:=r;rfl
 |byt _=>obtain⟨t,rfl⟩:=r;rfl
 |flt _=>obtain⟨t,rfl⟩:=r;rfl
 |ref _=>cases r;rfl
 |ty _=>cases r;rfl
theorem RelV.inj(r:RelV x u)(q:RelV y u):x=y:=VL (r.abs.symm.trans q.abs)
theorem Vals.inj:∀{xs ys:List V} {us:YD},Vals xs us->Vals ys us->xs=ys
 |_,_,_,.nil,.nil=>rfl
 |_,_,_,.cons r t,.cons r' t'=>by rw[r.inj r',Vals.inj t t']
section
variable {X:Cx} {pins:Yx} {σ:St} {H:Hp} {s:YO} {a:Addr} {xs ys:List V}
theorem gY.of{K:YE}(h:H a=some (.lst xs)):gY K H a xs:=.inl (.inl h)
theorem gm.of{K:YE}(h:H a=some (.tup xs)):gm K H a xs:=.inl (.inl h)
theorem Inv.list(I:#[11])(h:gY X.K H a xs):∃its:YD,Vals xs its/\PlainL s.heap a its.toArray/\xs.length<=sizeLine:=by
 rcases h with h|⟨o,its,n,hk,hc,hd,hs,hz,r⟩
 ·obtain⟨z,its,n,r,e⟩:=h.ok I.hok;exact⟨its,r,⟨_,n,e,rfl,rfl,rfl⟩,z⟩
 ·refine⟨its.toList,r,⟨o,n,I.sP a o hk,hc,hd,by omega⟩,?_⟩;have e:=r.length
  grind
theorem Inv.tuple(I:#[11])(h:gm X.K H a xs):∃its:YD,Vals xs its/\IsTup s.heap a its.toArray/\xs.length<=sizeLine:=by
 rcases h with h|⟨o,its,n,hk,hc,hs,hz,r⟩
 ·obtain⟨z,its,r,p⟩:=h.ok I.hok
  grind
 ·refine⟨its.toList,r,⟨o,I.sP a o hk,hc,n,by omega⟩,?_⟩;have e:=r.length
  grind
theorem Inv.GJ(I:#[11])(h:gY X.K H a xs)(h':gY X.K H a ys):xs=ys:=by
 obtain⟨its,r,⟨o,n,e,_,_,d⟩,_⟩:=I.list h;obtain⟨its',r',⟨o',n',e',_,_,d'⟩,_⟩:=I.list h';rw[e]at e';cases e';have:its=its':=by grind
 subst this;exact r.inj r'
theorem Inv.rG(I:#[11])(h:gm X.K H a xs)(h':gm X.K H a ys):xs=ys:=by
 obtain⟨its,r,⟨o,e,_,n,d⟩,_⟩:=I.tuple h;obtain⟨its',r',⟨o',e',_,n',d'⟩,_⟩:=I.tuple h';rw[e]at e';cases e';have:its=its':=by grind
 subst this;exact r.inj r'
end
noncomputable abbrev Cx.p8(X:Cx)(E:Yw):Cx:={X with xe:=E}
noncomputable abbrev Cx.JA(X:Cx):Cx:=X.p8 λ_ _=>False
theorem Cx.Ok.p8{X:Cx}(ok:X.Ok)(E:Yw):(X.p8 E).Ok:=
 ⟨ok.mod,ok.kind,ok.glob,ok.blt,ok.above,ok.inj,ok.has,ok.cab,ok.hd,ok.frames,ok.stk,ok.exf,ok.bs,ok.bsz,ok.noex,ok.exfs,ok.j5,ok.frf⟩
theorem Cx.Ok.ip{X:Cx}(ok:(X.p8 E).Ok):X.Ok:=
 ⟨ok.mod,ok.kind,ok.glob,ok.blt,ok.above,ok.inj,ok.has,ok.cab,ok.hd,ok.frames,ok.stk,ok.exf,ok.bs,ok.bsz,ok.noex,ok.exfs,ok.j5,ok.frf⟩
section
variable {X:Cx} {pins:Yx} {σ:St} {H:Hp} {s:YO} {E:Yw}
theorem Inv.p8(I:#[11])(E:Yw):Inv (X.p8 E) pins σ H s:=⟨I.ok.p8 E,I.os,I.bare,I.base,I.loc,I.cell,I.free,I.freeC,I.pin,I.hok,I.len⟩
theorem Inv.ip(I:Inv (X.p8 E) pins σ H s):#[11]:=⟨I.ok.ip,I.os,I.bare,I.base,I.loc,I.cell,I.free,I.freeC,I.pin,I.hok,I.len⟩
theorem SP.ip(h:SP (X.p8 E) pins D f s'):SP X pins D f s':=by
 cases f with
 |next=>obtain⟨σ',H',I,q⟩:=h;exact⟨σ',H',I.ip,q⟩
 |brk=>obtain⟨σ',H',I,q⟩:=h;exact⟨σ',H',I.ip,q⟩
 |cont=>obtain⟨σ',H',I,q⟩:=h;exact⟨σ',H',I.ip,q⟩
 |ret u=>obtain⟨v,σ',H',I,r,q⟩:=h;exact⟨v,σ',H',I.ip,r,q⟩
end
section
variable {X:Cx} {st:Stmt} {rest:List Stmt} {t u:TS} {e:Expr} {te:TE} {pos:Pos}
noncomputable def PJ:TS:=λD σ H=>D.nx σ H
noncomputable def PK(t u:TS):TS:=λD σ H=>t {D with nx:=u D} σ H
theorem Du:xD X [] PJ:=λ_ _ σ H _ I h=>WR ⟨σ,H,I,h⟩
theorem gH(h1:PS X st t)(h2:xD X rest u):xD X (st::rest) (PK t u):=by
 intro pins s σ H D I h;refine wpAny_execs_cons (cU (h1 pins s σ H {D with nx:=u D} I h) λf s1 q=>?_)
 cases f with
 |next=>obtain⟨σ',H',I',q⟩:=q;exact h2 pins s1 σ' H' D I' q
 |ret v=>exact q
 |brk=>exact q
 |cont=>exact q
theorem p9(h1:PS X st t):xD X [st] t:=by
 intro pins s σ H D I h;refine wpAny_execs_cons (cU (h1 pins s σ H D I h) λf s1 q=>?_)
 cases f with
 |next=>exact WR q
 |ret v=>exact q
 |brk=>exact q
 |cont=>exact q
theorem Inv.quiet{σ:St}(I:#[11]):interactive X.env=false:=by simp[interactive,I.ok.kind]
noncomputable def PL(te:TE):TS:=λD σ H=>te σ H λ_ H1=>D.nx σ H1
theorem JN(he:PE X e te)(hs:swapsWith e none pos.line X.env=pure false:=by rfl):PS X (.Expr e pos) (PL te):=by intro pins s σ H D I h;exact wpAny_Expr_any (cU (he pins s σ H _ I h) (by rintro v s1 ⟨x,H1,I1,r1,q1⟩;exact⟨σ,H1,I1,q1⟩)) I.quiet hs
noncomputable def M0(te:TE):TS:=λD σ H=>te σ H D.rt
theorem uG(he:PE X e te):PS X (.Return (some e) pos) (M0 te):=by intro pins s σ H D I h;exact wpAny_Return_some (cU (he pins s σ H _ I h) (by rintro v s1 ⟨x,H1,I1,r1,q1⟩;exact⟨x,σ,H1,I1,r1,q1⟩))
noncomputable def R3(c:TT)(t u:TS):TS:=λD σ H=>c σ H λb H1=>if b=true then t D σ H1 else u D σ H1
theorem L3(hc:PT X c tc)(ha:xD X a t)(hb:xD X b u):PS X (.If c a b pos) (R3 tc t u):=by
 intro pins s σ H D I h;refine wpAny_If (cU (hc pins s σ H _ I h) λd s1 ⟨H1,I1,q1⟩=>?_)
 cases d with
 |true=>exact ha pins s1 σ H1 D I1 q1
 |false=>exact hb pins s1 σ H1 D I1 q1
end
noncomputable abbrev TG:=V->St->Hp->(St->Hp->Prop)->Prop
noncomputable abbrev M1:=List V->St->Hp->(St->Hp->Prop)->Prop
noncomputable def PG(X:Cx)(target:Expr)(t:TG):Prop:=
 ∀(pins:Yx) (s:YO) (σ:St) (H:Hp) (v:V) (u:Value) (Q:St->Hp->Prop),#[11]->RelV v u->t v σ H Q ->
  wpAny #[12] X.A (assign target X.env u) (λ_ s'=>∃σ' H',Inv X pins σ' H' s'/\Q σ' H') X.xe s
noncomputable def M3(X:Cx)(ts:YG)(t:M1):Prop:=
 ∀(pins:Yx) (s:YO) (σ:St) (H:Hp) (vs:List V) (us:YD) (Q:St->Hp->Prop),#[11]->Vals vs us->t vs σ H Q ->
  wpAny #[12] X.A (assignInOrder ((assignEach ts X.env).map (·.2)) us) (λ_ s'=>∃σ' H',Inv X pins σ' H' s'/\Q σ' H') X.xe s
noncomputable abbrev PM:=V->V->V->Hp->(Hp->Prop)->Prop
noncomputable def M4(X:Cx)(t:PM):Prop:=
 ∀(pins:Yx) (s:YO) (σ:St) (H:Hp) (o i v:V) (ov iv u:Value) (Q:Hp->Prop),#[11]->RelV o ov->RelV i iv->RelV v u->t o i v H Q ->
  wpAny #[12] X.A (setItem ov iv u) (λ_ s'=>∃H',Inv X pins σ H' s'/\Q H') X.xe s
noncomputable abbrev R4:=V->V->Hp->VK->Prop
noncomputable def Tx(X:Cx)(op:Operator)(t:R4):Prop:=
 ∀(pins:Yx) (s:YO) (σ:St) (H:Hp) (x y:V) (v u:Value) (Q:VK),#[11]->RelV x v->RelV y u->t x y H Q ->
  wpAny #[12] X.A (inplaceOp op v u) (EP X pins σ Q) X.xe s
section
variable {X:Cx} {pos:Pos}
noncomputable def aC(i:Nat):TG:=λv σ H Q=>Q (σ.set i (some v)) H
theorem JO(hN:X.N.Nodup)(hi:X.N[i]?=some x)(hx:Loc X.env.scope x)(hf:#[3]:=by first|exact .inl rfl|exact .inr rfl|assumption):PG X (.Name x pos) (aC i):=by intro pins s σ H v u Q I r h;exact wpAny_assign_Name (pZ I hN hi hx r (λs' I'=>⟨_,H,I',h⟩) hf)
noncomputable def j6:M1:=λvs σ H Q=>vs=[]/\Q σ H
noncomputable def cD(t:TG)(u:M1):M1:=λvs σ H Q=>∃v r,vs=v::r/\t v σ H λσ' H'=>u r σ' H' Q
theorem JP:M3 X [] j6:=by intro pins s σ H vs us Q I r h;obtain⟨e,h⟩:=h;exact assignInOrder_nil ⟨σ,H,I,h⟩
theorem GK(h1:PG X e t)(h2:M3 X es u)
 (hs:(assignEach (e::es) X.env).map (·.2)=assign e X.env::(assignEach es X.env).map (·.2):=by rfl):M3 X (e::es) (cD t u):=by
 intro pins s σ H vs us Q I r h;obtain⟨v,vr,e1,h⟩:=h;subst e1
 cases r with
 |cons r rr=>rw[hs];refine assignInOrder_cons (cU (h1 pins s σ H _ _ _ I r h) λ_ s1 ⟨σ1,H1,I1,q1⟩=>?_);exact h2 pins s1 σ1 H1 _ _ Q I1 rr q1
noncomputable def oC(K:YE)(n:Nat)(t:M1):TG:=λv σ H Q=>∃a xs,v=.ref a/\gm K H a xs/\xs.length=n/\t xs σ H Q
theorem M5{k:Nat}(hc:X.calm=true)(h:M3 X es t)
 (hn:(assignEach es X.env).length=n:=by rfl)(hst:(assignEach es X.env).findIdx? (·.1)=none:=by rfl):PG X (.Tuple es k pos) (oC X.K n t):=by
 intro pins s σ H v u Q I r hw;obtain⟨a,xs,e1,hq,hl,hw⟩:=hw;subst e1;cases r;obtain⟨its,rv,ht,hz⟩:=I.tuple hq;refine assign_Tuple_tuple (I.ok.hd hc) ht (by simp[hn,<- hl,rv.length]) hst λh' hx=>?_;have I1:Inv X pins σ H {s with heap:=h'}:=I.kept λb o e=>hx b o (UR (UL e)) e;exact h pins _ σ H xs _ Q I1 #[4] hw
noncomputable def Ad(to ti:TE)(t:PM):TG:=λv σ H Q=>to σ H λo H1=>ti σ H1 λi H2=>t o i v H2 λH3=>Q σ H3
theorem M6(ho:PE X o to)(hi:PE X i ti)(hs:M4 X t)
 (ha:∀v,assign (.Subscript o i pos) X.env v=(do
   let ov <- holding [v] (eval o X.env)
   let iv <- holding [v,ov] (eval i X.env)
   standAt pos
   holding [v,ov,iv] (setItem ov iv v)
   release [v,ov,iv] []):=by intro _;rfl):PG X (.Subscript o i pos) (Ad to ti t):=by
 intro pins s σ H v u Q I r h;refine UE (U7 (cU (ho pins s σ H _ I h) λov s1 ⟨x,H1,I1,r1,q1⟩=>?_));refine UE (U7 (cU (hi pins s1 σ H1 _ I1 q1) λiv s2 ⟨y,H2,I2,r2,q2⟩=>?_));refine UE (wpAny_standAt (UE (U7 (cU (hs pins s2 σ H2 x y v ov iv u _ I2 r1 r2 r q2) λ_ s3 ⟨H3,I3,q3⟩=>?_))));exact wpAny_release ⟨σ,H3,I3,q3⟩
noncomputable def B0(te:TE)(g:TG):TS:=λD σ H=>te σ H λx H1=>g x σ H1 D.nx
theorem M7(he:PE X e te)(hg:PG X tg g)(hs:swapsWithSole [tg] e pos.line X.env=pure false:=by rfl)(hw:swappedStores [tg] e X.env=pure none:=by rfl)
 (h1:(assignEach [tg] X.env).map (·.2)=[assign tg X.env]:=by rfl):PS X (.Assign [tg] e pos) (B0 te g):=by
 intro pins s σ H D I h;refine wpAny_Assign_stores (cU (he pins s σ H _ I h) λv s1 ⟨x,H1,I1,r1,q1⟩=>?_) hs hw;rw[h1];exact cU (hg pins s1 σ H1 x v _ I1 r1 q1) λ_ s2 q=>q
theorem o8(hN:X.N.Nodup)(hi:X.N[i]?=some x)(hx:Loc X.env.scope x)(he:PE X e te)(hs:swapsWith e (some (.Name x pos')) pos.line X.env=pure false:=by rfl)(hf:#[3]:=by first|exact .inl rfl|exact .inr rfl|assumption) :
  PS X (.Assign [.Name x pos'] e pos) (B0 te (aC i)):=by
 intro pins s σ H D I h;refine wpAny_Assign_Name (cU (he pins s σ H _ I h) λv s1 ⟨y,H1,I1,r1,q1⟩=>?_) hs;exact pZ I1 hN hi hx r1 (λs2 I2=>⟨_,H1,I2,q1⟩) hf
noncomputable def R5(i:Nat)(te:TE)(ti:R4):TS:=λD σ H=>∃x,σ[i]?=some (some x)/\te σ H λy H1=>ti x y H1 λz H2=>D.nx (σ.set i (some z)) H2
theorem M8(hN:X.N.Nodup)(hi:X.N[i]?=some x)(hx:Loc X.env.scope x)(he:PE X e te)(ho:Tx X op ti)(hf:#[3]:=by first|exact .inl rfl|exact .inr rfl|assumption) :
  PS X (.AugAssign (.Name x pos') op e pos) (R5 i te ti):=by
 intro pins s σ H D I h;obtain⟨v,e1,h⟩:=h;obtain⟨m,hn,hl⟩:=I.loc;have vis:GD X.env.scope x:=by rcases hx with k|k;exact .inl k;exact .inr (.inl k)
 obtain⟨u,r,l⟩:=hl i x v hi e1 vis;refine wpAny_AugAssign_Name ?_;have go:wpAny #[12] X.A (eval e X.env) (λw s₂=>wpAny #[12] X.A (inplaceOp op u w) (λr s₃=>wpAny #[12] X.A (storeName X.env x r) (λ_=>SP X pins D .next) X.xe s₃) X.xe s₂) X.xe s:=by refine cU (he pins s σ H _ I h) λw s1 ⟨y,H1,I1,r1,q1⟩=>?_;refine cU (ho pins s1 σ H1 v y u w _ I1 r r1 q1) λz s2 ⟨zv,H2,I2,r2,q2⟩=>?_;exact pZ I2 hN hi hx r2 (λs3 I3=>⟨_,H2,I3,q2⟩) hf
 rcases l with⟨hk,hm⟩|⟨hk,c,hc,hcell⟩
 ·exact wpAny_loadName_local I.ok.kind hk hn hm go
 ·rcases hk with hk|hk
  ·exact wpAny_loadName_cell I.ok.kind hk hc hcell go
  ·rcases hx with k|k
   ·have:X.env.scope.names.lookup x=some .free:=hk;rw[k]at this;cases this
   ·have:X.env.scope.names.lookup x=some .free:=hk;rw[k]at this;cases this
end
structure It where
 go:Nat->Hp->Prop
 yld:Nat->Hp->V->Hp->Prop
 stop:Nat->Hp->Prop
noncomputable def rH(X:Cx)(pins:Yx)(H:Hp)(b:Addr):Prop:=
 H b=none/\b≠X.env.locals/\b∉X.fs/\(b∈X.ex\/X.s₀.heap.objs.size<=b)/\(∀x c,X.env.cells.lookup x=some c->c≠b)/\∀p∈X.pn++pins,p.1≠b
theorem Inv.GL{σ:St}{b:Addr}(I:#[11])(hb:#[10]<=b)(hn:H' b=none):rH X pins H' b:=by
 refine⟨hn,Xn (UT I.lt hb),I.MU hb,.inr (UP I.sz hb),λx c e z=>?_,λp hp z=>?_⟩
 ·obtain⟨v,q⟩:=I.cell x c e;exact absurd (UT q.lt (by simp_all)) (Va _)
 ·exact absurd (UT (UL (I.pin p hp).1) (by simp_all)) (Va _)
structure Turn(P:YL)(w:World)(K:YE)(tg:Expr)(J:It)(fp:YC)(it:Addr)(tn:Nat->Heap->Prop):Prop where
 mem:it∈fp
 obj:∀i h,tn i h->∀b∈fp,∃o,h.get? b=some o/\∀v,o.data≠.cell v
 keep:∀i h h',tn i h->(∀b∈fp,∀o,h.get? b=some o->h'.get? b=some o)->tn i h'
 item:∀(X:Cx),X.prog=P->X.w=w->X.K=K->X.calm=true->∀(i:Nat) (pins:Yx) (s:YO) (σ:St) (H:Hp) (E:Yw),#[11]->(∀b∈fp,rH X pins H b)->tn i s.heap->J.go i H ->
  wpAny #[14] X.A (pyNext (.ref it)) (λr s1=>∃u,r=some u /\
   wpAny #[14] X.A (letOwnedTupleGo tg (.ref it) u) (λ_ s2=>∃x H',Inv X pins σ H' s2/\RelV x u/\J.yld i H x H'/\tn (i+1) s2.heap/\∀b∈fp,H' b=none) E s1) E s
 done:∀(X:Cx),X.prog=P->X.w=w->X.K=K->X.calm=true->∀(i:Nat) (pins:Yx) (s:YO) (σ:St) (H:Hp) (E:Yw),#[11]->(∀b∈fp,rH X pins H b)->tn i s.heap->J.stop i H ->
  wpAny #[14] X.A (pyNext (.ref it)) (λr s1=>r=none/\Inv X pins σ H s1) E s
 self:∀(A:YN) (i:Nat) (s:YO) (Q:Yw) (E:Yw),tn i s.heap->Q (.ref it) s->wpAny #[14] A (pyIter (.ref it)) Q E s
noncomputable abbrev TI:=St->Hp->(It->Hp->Prop)->Prop
noncomputable def Tz(X:Cx)(pins:Yx)(σ:St)(tg:Expr)(R:It->Hp->Prop)(itv:Value)(s2:YO):Prop:=
 ∃(it:Addr) (fp:YC) (tn:Nat->Heap->Prop) (J:It) (H':Hp),itv=.ref it/\Inv X pins σ H' s2/\Turn X.prog X.w X.K tg J fp it tn/\tn 0 s2.heap/\(∀b∈fp,rH X pins H' b)/\R J H'
noncomputable def PI(X:Cx)(tg iter:Expr)(wi:TI):Prop:=
 ∀(pins:Yx) (s:YO) (σ:St) (H:Hp) (R:It->Hp->Prop),#[11]->wi σ H R ->
  wpAny #[12] X.A (eval iter X.env) (λv s1=>wpAny #[12] X.A (pyIter v) (Tz X pins σ tg R) X.xe s1) X.xe s
theorem Dv(ho:s.heap.get? it=some o)(hc:o.cls=.type n)(hd:o.data=.fields vs)
 (hn:["enumerate", "zip", "dict_itemiterator", "dict_reverseitemiterator", "odict_iterator", "itertools.zip_longest", "itertools.pairwise"].contains n=false)(hQ:Q () s):wpAny M A (letOwnedTupleGo tg (.ref it) u) Q E s:=by
 unfold letOwnedTupleGo
 cases tg<;>first
  |exact UH hQ
  | (cases u<;>first
    |exact UH hQ
    | (refine UE (Xo ho ?_)
       rw[hc,hd];show wpAny M A (if(["enumerate", "zip", "dict_itemiterator", "dict_reverseitemiterator", "odict_iterator", "itertools.zip_longest", "itertools.pairwise"].contains n&&vs[0]? == some (rawInt _))=true then _ else _) Q E s;rw[if_neg (by intro h;rw[hn,XS]at h;cases h)]
       exact UH hQ))
noncomputable def R6(K:YE)(a:Addr):It:=
 ⟨λi H=>∃xs x,gY K H a xs/\xs[i]?=some x,λi H x H'=>H'=H/\∀xs,gY K H a xs->xs[i]?=some x,λi H=>∃xs,gY K H a xs/\xs.length<=i⟩
noncomputable def Rm(K:YE)(a:Addr):It:=
 ⟨λi H=>∃xs x,gm K H a xs/\xs[i]?=some x,λi H x H'=>H'=H/\∀xs,gm K H a xs->xs[i]?=some x,λi H=>∃xs,gm K H a xs/\xs.length<=i⟩
noncomputable def Ro(lo:Int)(n:Nat):It:=⟨λi _=>i<n,λi H x H'=>H'=H/\x=.int (lo+i),λi _=>n<=i⟩
theorem E7{K:YE}(a it:Addr):Turn P w K tg (R6 K a) [it] it (λi h=>h.IsListIter it a i) where
 mem:=by simp
 obj:=λi h st b hb=>by
  have e:b=it:=by grind
  subst e;obtain⟨o,e,c,d⟩:=st
  grind
 keep:=λi h h' st k=>st.at λo e=>k it #[6] o e
 item:=by intro X hP hw hK hc i pins s σ H E I hf st hg;subst hP hw hK;obtain⟨xs,x,hq,hx⟩:=hg;obtain⟨its,rv,p,hz⟩:=I.list hq;obtain⟨u,hu,ru⟩:=rv.get hx;obtain⟨f0,f1,f2,f3,f4,f5⟩:=hf it #[6];refine wpAny_pyNext_list_item st p.isList (x:=u) (by simpa using hu) λh' st' sb=>?_;have I1:Inv X pins σ H {s with heap:=h'}:=I.turned (t':=s.toks) (λb o hb e=>(sb.2 b hb).trans e) f0 f1 f3 f4 f5;obtain⟨o,e,c,d⟩:=id st';exact⟨u,rfl,Dv (s:={s with heap:=h'}) e c d #[5] ⟨x,H,I1,ru,⟨rfl,λys hy=>by rw[I.GJ hy hq];exact hx⟩,st',λb hb=>(hf b hb).1⟩⟩
 done:=by intro X hP hw hK hc i pins s σ H E I hf st hg;subst hP hw hK;obtain⟨xs,hq,hx⟩:=hg;obtain⟨its,rv,p,hz⟩:=I.list hq;obtain⟨f0,f1,f2,f3,f4,f5⟩:=hf it #[6];have hl:=rv.length;exact wpAny_pyNext_list_end (I.ok.hd hc) st p.isList (by simp;omega) λh' eb=>⟨rfl,I.turned (t':=s.toks) (λb o hb e=>eb b o hb e) f0 f1 f3 f4 f5⟩
 self:=λ_ _ _ _ _ st h=>wpAny_pyIter_listiter st h
theorem B1{K:YE}(a it:Addr):Turn P w K tg (Rm K a) [it] it (λi h=>h.IsTupleIter it a i) where
 mem:=by simp
 obj:=λi h st b hb=>by
  have e:b=it:=by grind
  subst e;obtain⟨o,e,c,d⟩:=st
  grind
 keep:=λi h h' st k=>st.at λo e=>k it #[6] o e
 item:=by intro X hP hw hK hc i pins s σ H E I hf st hg;subst hP hw hK;obtain⟨xs,x,hq,hx⟩:=hg;obtain⟨its,rv,p,hz⟩:=I.tuple hq;obtain⟨u,hu,ru⟩:=rv.get hx;obtain⟨f0,f1,f2,f3,f4,f5⟩:=hf it #[6];refine wpAny_pyNext_tuple_item st (show s.heap.IsTuple a its.toArray from p) (x:=u) (by simpa using hu) λh' st' sb=>?_;have I1:Inv X pins σ H {s with heap:=h'}:=I.turned (t':=s.toks) (λb o hb e=>(sb.2 b hb).trans e) f0 f1 f3 f4 f5;obtain⟨o,e,c,d⟩:=id st';exact⟨u,rfl,Dv (s:={s with heap:=h'}) e c d #[5] ⟨x,H,I1,ru,⟨rfl,λys hy=>by rw[I.rG hy hq];exact hx⟩,st',λb hb=>(hf b hb).1⟩⟩
 done:=by intro X hP hw hK hc i pins s σ H E I hf st hg;subst hP hw hK;obtain⟨xs,hq,hx⟩:=hg;obtain⟨its,rv,p,hz⟩:=I.tuple hq;obtain⟨f0,f1,f2,f3,f4,f5⟩:=hf it #[6];have hl:=rv.length;exact wpAny_pyNext_tuple_end (I.ok.hd hc) st (show s.heap.IsTuple a its.toArray from p) (by simp;omega) λh' eb=>⟨rfl,I.turned (t':=s.toks) (λb o hb e=>eb b o hb e) f0 f1 f3 f4 f5⟩
 self:=λ_ _ _ _ _ st h=>wpAny_pyIter_tupleiter st h
theorem B2{K:YE}(it:Addr)(lo:Int)(n:Nat):Turn P w K tg (Ro lo n) [it] it (λi h=>IsRangeIter h it (lo+(i:Nat)*1) ((n:Int)-(i:Nat)) 1) where
 mem:=by simp
 obj:=λi h st b hb=>by
  grind
 keep:=λi h h' st k=>k it #[6] _ st
 item:=by intro X hP hw hK hc i pins s σ H E I hf st hg;subst hP hw hK;obtain⟨f0,f1,f2,f3,f4,f5⟩:=hf it #[6];have W:=Walks.range (prog:=X.prog) (w:=X.w) (I.ok.hd hc) it lo 1 n;refine W.item i s _ _ hg st λv h' tk hv st' kk=>?_;obtain⟨t,rfl⟩:=hv;have I1:Inv X pins σ H {s with heap:=h',toks:=tk}:=I.turned (λb o hb e=>kk b o (by simpa using hb) e) f0 f1 f3 f4 f5;refine⟨_,rfl,Dv (s:={s with heap:=h',toks:=tk}) (n := "range_iterator") st' rfl rfl #[5] ⟨.int (lo+i),H,I1,⟨t,?_⟩,⟨rfl,rfl⟩,st',λb hb=>(hf b hb).1⟩⟩;rw[Int.mul_one]
 done:=by intro X hP hw hK hc i pins s σ H E I hf st hg;subst hP hw hK;obtain⟨f0,f1,f2,f3,f4,f5⟩:=hf it #[6];exact wpAny_pyNext_range_end (I.ok.hd hc) st (by have:n<=i:=hg;omega) λh' eb=>⟨rfl,I.turned (t':=s.toks) (λb o hb e=>eb b o hb e) f0 f1 f3 f4 f5⟩
 self:=λ_ _ _ _ _ st h=>wpAny_pyIter_rangeiter st h
section
variable {X:Cx} {tg:Expr}
noncomputable def PN(K:YE)(tl:TE):TI:=λσ H R=>tl σ H λx H1=>∃a,x=.ref a/\(∃xs,gY K H1 a xs)/\R (R6 K a) H1
noncomputable def R7(K:YE)(tl:TE):TI:=λσ H R=>tl σ H λx H1=>∃a,x=.ref a/\(∃xs,gm K H1 a xs)/\R (Rm K a) H1
theorem JQ(hl:PE X l tl):PI X tg l (PN X.K tl):=by
 intro pins s σ H R I h;refine cU (hl pins s σ H _ I h) λv s1 ⟨x,H1,I1,r1,q1⟩=>?_;obtain⟨a,e,⟨xs,hq⟩,q⟩:=q1;subst e;cases r1;obtain⟨its,rv,p,hz⟩:=I1.list hq;refine W0 p.isList ?_;refine⟨s1.heap.objs.size,[s1.heap.objs.size],_,_,H1,rfl,I1.kept λb o e=>UG _ e,E7 a _,⟨_,UK _ rfl,rfl,rfl⟩,λb hb=>?_,q⟩;have e:b=s1.heap.objs.size:=by grind
 subst e;exact I1.GL (UJ _) (I1.hok.fresh (UJ _))
theorem GN(hl:PE X l tl):PI X tg l (R7 X.K tl):=by
 intro pins s σ H R I h;refine cU (hl pins s σ H _ I h) λv s1 ⟨x,H1,I1,r1,q1⟩=>?_;obtain⟨a,e,⟨xs,hq⟩,q⟩:=q1;subst e;cases r1;obtain⟨its,rv,p,hz⟩:=I1.tuple hq;refine Xs p ?_;refine⟨s1.heap.objs.size,[s1.heap.objs.size],_,_,H1,rfl,I1.kept λb o e=>UG _ e,B1 a _,⟨_,UK _ rfl,rfl,rfl⟩,λb hb=>?_,q⟩;have e:b=s1.heap.objs.size:=by grind
 subst e;exact I1.GL (UJ _) (I1.hok.fresh (UJ _))
theorem GO{σ:St}{lo hi:Int}(I:#[11])(h1:-(2^62)<=lo)(h2:lo<2^62)(h3:-(2^62)<=hi)(h4:hi<2^62)
 (q:R (Ro lo (hi-lo).toNat) H):wpAny #[12] X.A (pyIter (.ref #[10])) (Tz X pins σ tg R) E {s with heap:=s.heap.push {cls:=.type "range",data:=.fields #[.int lo t,.int hi u,.int 1 v]},toks:=tk}:=by
 refine wpAny_pyIter_range (IsRange.new ..) (small_one h1 h2 h3 h4) ?_;have I1:Inv X pins σ H {s with heap:=s.heap.push {cls:=.type "range",data:=.fields #[.int lo t,.int hi u,.int 1 v]},toks:=tk}:=I.kept λb o e=>UG _ e
 refine⟨(s.heap.push {cls:=.type "range",data:=.fields #[.int lo t,.int hi u,.int 1 v]}).objs.size,[(s.heap.push {cls:=.type "range",data:=.fields #[.int lo t,.int hi u,.int 1 v]}).objs.size],_,_,H,rfl,
  I1.kept (t':=tk) λb o e=>UG _ e,B2 _ lo (hi-lo).toNat,?_,λb hb=>?_,q⟩
 ·have e1:lo+((0:Nat):Int)*1=lo:=by simp
  have e2:(((hi-lo).toNat:Nat):Int)-((0:Nat):Int)=Builtin.Range.rangeSize lo hi 1:=by grind[rangeSize_one]
  rw[e1,e2];exact UK _ rfl
 ·have e:b=(s.heap.push {cls:=.type "range",data:=.fields #[.int lo t,.int hi u,.int 1 v]}).objs.size:=by grind
  subst e;exact I1.GL (UJ _) (I1.hok.fresh (UJ _))
noncomputable def PQ(ta:TA):TI:=λσ H R=>ta σ H λvs H1=>∃j:Int,vs=[.int j]/\-(2^62)<=j/\j<2^62/\R (Ro 0 j.toNat) H1
theorem E8(hg:Gl X "range")(hm:X.mg "range" = none)(ha:PA X [a] ta)(hs:starEach [a] X.env=[(false,eval a X.env)]:=by rfl):PI X tg (.Call (.Name "range" p) [a] [] pos) (PQ ta):=by
 intro pins s σ H R I h;refine Call_ (o7 I hg hm boot_range (Wc (cU (ha pos pins s σ H _ I h) λus s1 ⟨vs,H1,I1,r1,q1⟩=>?_) hs rfl));obtain⟨j,e,q1,q2,q⟩:=q1;subst e
 cases r1 with
 |cons r rr=>cases rr;obtain⟨t,rfl⟩:=r;exact call_range_1 (GO I1 #[4] #[4] q1 q2 (by grind))
noncomputable def R8(wi:TI)(g:TG)(tb:TS):TS:=λD σ H=>wi σ H λJ H1=>∃W:Nat->Nat->St->Hp->Prop,(∃m,W 0 m σ H1)/\∀i m σ H,W i m σ H ->
 (J.stop i H/\D.nx σ H)\/(J.go i H/\∃N:St->Hp->Prop,(∀σ' H',N σ' H'->∃m',m'<m/\W (i+1) m' σ' H')/\∀x H',J.yld i H x H'->g x σ H' λσ2 H2=>tb {D with nx:=N,ct:=N,bk:=D.nx} σ2 H2)
noncomputable def j7(fp:YC)(h:Heap):Yx:=fp.filterMap λb=>(h.get? b).map λo=>(b,o)
theorem gn(hb:b∈fp)(e:h.get? b=some o):(b,o)∈j7 fp h:=Wn.mpr ⟨b,hb,by grind⟩
theorem rJ(hp:p∈j7 fp h):p.1∈fp/\h.get? p.1=some p.2:=by
 obtain⟨b,hb,e⟩:=Wn.mp hp
 cases q:h.get? b with
 |none=>grind
 |some o=>
  rw[q]at e;have e'  := VL e
  grind
theorem Inv.pinned{σ:St}(I:#[11])(hf:∀b∈fp,rH X pins H b)(ho:∀b∈fp,∃o,s.heap.get? b=some o/\∀v,o.data≠.cell v):Inv X (pins++j7 fp s.heap) σ H s:=
 I.uh λp hp=>(U1.mp hp).elim (λz=>I.pin p (U2 _ z)) λz=>by
  obtain⟨hb,e⟩:=rJ z;obtain⟨f0,f1,f2,_⟩:=hf p.1 hb
  grind
theorem Inv.uH{σ:St}(I:Inv X (pins++pl) σ H s):#[11]:=I.uh λp hp=>I.pin p (U2 _ (VJ _ hp))
theorem M9(hp:PassesOwn #[12] X.A X.env X.xe)(hc:X.calm=true)(hi:PI X tg iter wi)(hg:PG X tg g)(hb:xD X body tb)
 (hs:∀x,foldedSetIterable iter X.env x=pure x:=by intro _;rfl):PS X (.For tg iter body [] pos) (R8 wi g tb):=by
 intro pins s σ H D I h;refine wpAny_For (cU (hi pins s σ H _ I h) λv s1 h1=>cU h1 λitv s2 h2=>?_) hs;obtain⟨it,fp,tn,J,H2,e,I2,T,st2,f2,W,⟨m0,w0⟩,turn⟩:=h2;subst e;have stat:∀{H':Hp},(∀b∈fp,H' b=none)->∀b∈fp,rH X pins H' b:=λhn b hb=>⟨hn b hb,(f2 b hb).2⟩;refine codeAny_forLoop_any (λn s'=>∃i σ' H',Inv X pins σ' H' s'/\tn i s'.heap/\(∀b∈fp,H' b=none)/\W i n σ' H') ?_ m0 ⟨0,σ,H2,I2,st2,λb hb=>(f2 b hb).1,w0⟩;rintro n s3 ⟨i,σ3,H3,I3,st3,fr3,w3⟩;rcases turn i n σ3 H3 w3 with⟨stop,qn⟩|⟨go,N,hN,step⟩
 ·refine Xt hp (cU (T.done X rfl rfl rfl hc i pins s3 σ3 H3 X.xe I3 (stat fr3) st3 stop) λr s4 ⟨hr,I4⟩=>?_);subst hr;exact WR ⟨σ3,H3,I4,qn⟩
 ·refine Xt hp (cU (T.item X rfl rfl rfl hc i pins s3 σ3 H3 X.xe I3 (stat fr3) st3 go) λr s4 ⟨u,hr,h4⟩=>?_);subst hr;refine Xt hp (cU h4 λ_ s5 ⟨x,H5,I5,r5,y5,st5,fr5⟩=>?_);have I5':=I5.pinned (stat fr5) (T.obj _ _ st5);refine Xt hp (cU (hg _ s5 σ3 H5 x u _ I5' r5 (step x H5 y5)) λ_ s6 ⟨σ6,H6,I6,q6⟩=>?_);refine Xt hp (cU (hb _ s6 σ6 H6 _ I6 q6) λf s7 q7=>?_);have again:∀{σ7:St} {H7:Hp},Inv X (pins++j7 fp s5.heap) σ7 H7 s7->N σ7 H7->∃m,m<n/\∃i σ' H',Inv X pins σ' H' s7/\tn i s7.heap/\(∀b∈fp,H' b=none)/\W i m σ' H':=λ{σ7 H7} I7 n7=>by obtain⟨m',hm,w7⟩:=hN σ7 H7 n7;refine⟨m',hm,i+1,σ7,H7,I7.uH,T.keep _ _ _ st5 λb hb o e=>(I7.pin (b,o) (U2 _ (U2 _ (gn hb e)))).1,λb hb=>?_,w7⟩;obtain⟨o,e,d⟩:=T.obj _ _ st5 b hb;exact(I7.pin (b,o) (U2 _ (U2 _ (gn hb e)))).2.1
  cases f with
  |next=>obtain⟨σ7,H7,I7,n7⟩:=q7;exact again I7 n7
  |cont=>obtain⟨σ7,H7,I7,n7⟩:=q7;exact again I7 n7
  |brk=>obtain⟨σ7,H7,I7,q7⟩:=q7;exact⟨σ7,H7,I7.uH,q7⟩
  |ret v=>obtain⟨x7,σ7,H7,I7,r7,q7⟩:=q7;exact⟨x7,σ7,H7,I7.uH,r7,q7⟩
end
noncomputable abbrev R2:=V->V->Hp->VK->Prop
noncomputable def iX(X:Cx)(f:Value->Value->Sem Value)(r:R2):Prop:=
 ∀(pins:Yx) (s:YO) (σ:St) (H:Hp) (x y:V) (v u:Value) (Q:VK),#[11]->RelV x v->RelV y u->r x y H Q ->
  wpAny #[12] X.A (f v u) (EP X pins σ Q) X.xe s
noncomputable def R9(X:Cx)(f:Value->Sem Value)(r:V->Hp->VK->Prop):Prop:=
 ∀(pins:Yx) (s:YO) (σ:St) (H:Hp) (x:V) (v:Value) (Q:VK),#[11]->RelV x v->r x H Q ->
  wpAny #[12] X.A (f v) (EP X pins σ Q) X.xe s
noncomputable def cY(X:Cx)(f:Value)(r:List V->Hp->VK->Prop):Prop:=
 ∀(pins:Yx) (s:YO) (σ:St) (H:Hp) (xs:List V) (us:YD) (Q:VK),#[11]->Vals xs us->r xs H Q ->
  wpAny #[12] X.A (call f us) (EP X pins σ Q) X.xe s
noncomputable def PR(X:Cx)(r:V->Hp->(Bool->Hp->Prop)->Prop):Prop:=
 ∀(pins:Yx) (s:YO) (σ:St) (H:Hp) (x:V) (v:Value) (Q:Bool->Hp->Prop),#[11]->RelV x v->r x H Q ->
  wpAny #[12] X.A (truthy v) (TP X pins σ Q) X.xe s
noncomputable def Pj(r:R2)(ta tb:TE):TE:=λσ H Q=>ta σ H λx H1=>tb σ H1 λy H2=>r x y H2 Q
noncomputable def Ue(r:V->Hp->VK->Prop)(ta:TE):TE:=λσ H Q=>ta σ H λx H1=>r x H1 Q
noncomputable def rI(C:Int->Int->Prop)(g:Int->Int->V):R2:=λx y H Q=>∃i j,x=.int i/\y=.int j/\C i j/\Q (g i j) H
noncomputable def L4(g:Int->Int->V):R2:=λx y H Q=>∃i j,x=.int i/\y=.int j/\Q (g i j) H
noncomputable def rU(g:Int->V):V->Hp->VK->Prop:=λx H Q=>∃i,x=.int i/\Q (g i) H
section
variable {X:Cx} {a b c:Expr} {ta tb tc:TE} {pos:Pos}
theorem Na(ha:PE X a ta)(hb:PE X b tb){σ:St}{R:V->V->Hp->Prop}(I:#[11])
 (h:ta σ H λx H1=>tb σ H1 λy H2=>R x y H2){f:Value->Value->Sem Value}
 (hf:∀v u s2 x y H2,Inv X pins σ H2 s2->RelV x v->RelV y u->R x y H2->wpAny #[12] X.A (f v u) Q X.xe s2) :
  wpAny #[12] X.A (eval a X.env) (λv s₁=>wpAny #[12] X.A (eval b X.env) (λu s₂=>wpAny #[12] X.A (f v u) Q X.xe s₂) X.xe s₁) X.xe s:=by
 refine cU (ha pins s σ H _ I h) λv s1 ⟨x,H1,I1,r1,q1⟩=>?_;refine cU (hb pins s1 σ H1 _ I1 q1) λu s2 ⟨y,H2,I2,r2,q2⟩=>?_;exact hf v u s2 x y H2 I2 r1 r2 q2
theorem xE(ho:iX X (binaryOp op) r)(ha:PE X a ta)(hb:PE X b tb):PE X (.BinOp a op b pos) (Pj r ta tb):=by intro pins s σ H Q I h;exact wpAny_BinOp (Na ha hb I h λv u s2 x y H2 I2 rx ry q=>ho pins s2 σ H2 x y v u Q I2 rx ry q)
theorem PU(ho:R9 X (unaryOp op) r)(ha:PE X a ta):PE X (.UnaryOp op a pos) (Ue r ta):=by intro pins s σ H Q I h;exact UnaryOp_ (cU (ha pins s σ H _ I h) (by rintro v s1 ⟨x,H1,I1,r1,q1⟩;exact ho pins s1 σ H1 x v Q I1 r1 q1))
theorem Rp{g:Int->Int->Int}
 (rule:∀(i j:Int) (t u:Tok) (s:YO) (Q:Yw) (E:Yw),C i j->Q (.int (g i j) s.toks) {s with toks:=s.toks+1}->wpAny #[12] X.A (f (.int i t) (.int j u)) Q E s) :
  iX X f (rI C λi j=>.int (g i j)):=by
 intro pins s σ H x y v u Q I rx ry h;obtain⟨i,j,rfl,rfl,hc,q⟩:=h;obtain⟨t,rfl⟩:=rx;obtain⟨t',rfl⟩:=ry;exact rule i j t t' s _ _ hc ⟨.int _,H,I.tok _,⟨_,rfl⟩,q⟩
theorem PV{g:Int->Int->Int}
 (rule:∀(i j:Int) (t u:Tok) (s:YO) (Q:Yw) (E:Yw),Q (.int (g i j) s.toks) {s with toks:=s.toks+1}->wpAny #[12] X.A (f (.int i t) (.int j u)) Q E s) :
  iX X f (L4 λi j=>.int (g i j)):=by
 intro pins s σ H x y v u Q I rx ry h;obtain⟨i,j,rfl,rfl,q⟩:=h;obtain⟨t,rfl⟩:=rx;obtain⟨t',rfl⟩:=ry;exact rule i j t t' s _ _ ⟨.int _,H,I.tok _,⟨_,rfl⟩,q⟩
theorem Nb{g:Int->Int->Bool}
 (rule:∀(i j:Int) (t u:Tok) (s:YO) (Q:Yw) (E:Yw),Q (.bool (g i j)) s->wpAny #[12] X.A (f (.int i t) (.int j u)) Q E s) :
  iX X f (L4 λi j=>.bl (g i j)):=by
 intro pins s σ H x y v u Q I rx ry h;obtain⟨i,j,rfl,rfl,q⟩:=h;obtain⟨t,rfl⟩:=rx;obtain⟨t',rfl⟩:=ry;exact rule i j t t' s _ _ ⟨.bl _,H,I,rfl,q⟩
noncomputable def PX(i j:Int):Prop:=0<j/\j<1073741824
noncomputable def Sa(i j:Int):Prop:=0<=j/\j<=1000000/\i.natAbs<2^64
noncomputable def Nc(i j:Int):Prop:=(-(2^64)<i/\i<2^64)\/(-(2^64)<j/\j<2^64)
theorem Nc.ok(h:Nc i j):IntMulOk i j:=by
 rcases h with⟨h1,h2⟩|⟨h1,h2⟩
 ·exact .of_left (intBits_le_64 h1 h2)
 ·exact .of_right (intBits_le_64 h1 h2)
theorem Nd:iX X (binaryOp .Add) (L4 λi j=>.int (i+j)):=PV λ_ _ _ _ _ _ _ q=>add_int q
theorem Nf:iX X (binaryOp .Sub) (L4 λi j=>.int (i-j)):=PV λ_ _ _ _ _ _ _ q=>sub_int q
theorem Ng:iX X (binaryOp .Mult) (rI Nc λi j=>.int (i*j)):=Rp λ_ _ _ _ _ _ _ hc q=>mul_int q hc.ok
theorem JR:iX X (binaryOp .FloorDiv) (rI PX λi j=>.int (i / j)):=Rp λi j _ _ _ _ _ hc q=>by have h1  := hc.1;have h2  := hc.2;exact floordiv_int #[4] (by grind) (.inl (PyProof.noPylong_small #[4]))
theorem Nh:iX X (binaryOp .Mod) (rI (λ_ j=>0<j) λi j=>.int (i % j)):=Rp λi j _ _ _ _ _ hc q=>mod_int' #[4] (by rw[Int.fmod_eq_emod_of_nonneg i #[4]];exact q)
theorem Ni:iX X (binaryOp .Pow) (rI Sa λi j=>.int (i^j.toNat)):=Rp λ_ _ _ _ _ _ _ hc q=>pow_int_small hc.1 hc.2.1 hc.2.2 q
theorem Ug{g:Int->Int}
 (rule:∀(i:Int) (t:Tok) (s:YO) (Q:Yw) (E:Yw),Q (.int (g i) s.toks) {s with toks:=s.toks+1}->wpAny #[12] X.A (f (.int i t)) Q E s) :
  R9 X f (rU λi=>.int (g i)):=by
 intro pins s σ H x v Q I rx h;obtain⟨i,rfl,q⟩:=h;obtain⟨t,rfl⟩:=rx;exact rule i t s _ _ ⟨.int (g i),H,I.tok _,⟨_,rfl⟩,q⟩
theorem Nj:R9 X (unaryOp .USub) (rU λi=>.int (-i)):=Ug λ_ _ _ _ _ q=>neg_int q
end
noncomputable def PY:V->V->Bool
 |.non,.non=>true|.non,.int _=>true|.int _,.non=>true|.non,.bl _=>true|.bl _,.non=>true|.non,.str _=>true|.str _,.non=>true
 |.int _,.int _=>true|.bl _,.bl _=>true|.str _,.str _=>true|.byt _,.byt _=>true
 |.int _,.str _=>true|.str _,.int _=>true|.bl _,.str _=>true|.str _,.bl _=>true
 |_,_=>false
noncomputable def TC:R2:=λx y H Q=>PY x y=true/\Q (.bl (decide (x=y))) H
noncomputable def Uh:R2:=λx y H Q=>PY x y=true/\Q (.bl (!decide (x=y))) H
theorem Dw:decide (V.int i=V.int j)=(i==j):=by
 grind
theorem GP:decide (V.bl i=V.bl j)=(i==j):=by
 grind
theorem Dx:decide (V.str i=V.str j)=(i==j):=by
 grind
theorem Dy:decide (V.byt i=V.byt j)=(i.toList==j.toList):=by
 rw[Xu]
 simp_all
section
variable {X:Cx} {a b c:Expr} {ta tb tc:TE} {pos:Pos}
theorem bH{σ:St}(I:#[11])(q:Q (.bl k) H)(e:k=k'):EP X pins σ Q (.bool k') s:=by subst e;exact⟨.bl k,H,I,rfl,q⟩
theorem L5:iX X (compareOp .Eq) TC:=by
 intro pins s σ H x y v u Q I rx ry h;obtain⟨hs,q⟩:=h
 cases x with
 |non=>
  cases rx
  cases y with
  |non=>cases ry;exact PySem.EqNone.eq_none_none (bH I q #[6])
  |bl j=>cases ry;exact PySem.EqNone.eq_none_bool (bH I q #[6])
  |int j=>obtain⟨t',rfl⟩:=ry;exact PySem.EqNone.eq_none_int (bH I q #[6])
  |str j=>obtain⟨t',rfl⟩:=ry;exact PySem.EqNone.eq_none_str (bH I q #[6])
  |_=>exact absurd (show false=true from hs) Ve
 |bl i=>
  cases rx
  cases y with
  |non=>cases ry;exact PySem.EqNone.eq_bool_none (bH I q #[6])
  |bl j=>cases ry;exact eq_bool (bH I q GP)
  |str j=>obtain⟨t',rfl⟩:=ry;exact PySem.EqMixed.eq_bool_str (bH I q #[6])
  |_=>exact absurd (show false=true from hs) Ve
 |int i=>
  obtain⟨t,rfl⟩:=rx
  cases y with
  |non=>cases ry;exact PySem.EqNone.eq_int_none (bH I q #[6])
  |int j=>obtain⟨t',rfl⟩:=ry;exact eq_int (bH I q Dw)
  |str j=>obtain⟨t',rfl⟩:=ry;exact PySem.EqMixed.eq_int_str (bH I q #[6])
  |_=>exact absurd (show false=true from hs) Ve
 |str i=>
  obtain⟨t,rfl⟩:=rx
  cases y with
  |non=>cases ry;exact PySem.EqNone.eq_str_none (bH I q #[6])
  |bl j=>cases ry;exact PySem.EqMixed.eq_str_bool (bH I q #[6])
  |int j=>obtain⟨t',rfl⟩:=ry;exact PySem.EqMixed.eq_str_int (bH I q #[6])
  |str j=>obtain⟨t',rfl⟩:=ry;exact eq_str (bH I q Dx)
  |_=>exact absurd (show false=true from hs) Ve
 |byt i=>
  obtain⟨t,rfl⟩:=rx
  cases y with
  |byt j=>obtain⟨t',rfl⟩:=ry;exact PySem.W.eq_bytes (bH I q Dy)
  |_=>exact absurd (show false=true from hs) Ve
 |_=>cases y<;>exact absurd (show false=true from hs) Ve
theorem L6:iX X (compareOp .NotEq) Uh:=by
 intro pins s σ H x y v u Q I rx ry h;obtain⟨hs,q⟩:=h
 cases x with
 |non=>
  cases rx
  cases y with
  |non=>cases ry;exact PySem.EqNone.ne_none_none (bH I q #[6])
  |bl j=>cases ry;exact PySem.EqNone.ne_none_bool (bH I q #[6])
  |int j=>obtain⟨t',rfl⟩:=ry;exact PySem.EqNone.ne_none_int (bH I q #[6])
  |str j=>obtain⟨t',rfl⟩:=ry;exact PySem.EqNone.ne_none_str (bH I q #[6])
  |_=>exact absurd (show false=true from hs) Ve
 |bl i=>
  cases rx
  cases y with
  |non=>cases ry;exact PySem.EqNone.ne_bool_none (bH I q #[6])
  |bl j=>cases ry;exact ne_bool (bH I q (Xh not GP))
  |str j=>obtain⟨t',rfl⟩:=ry;exact PySem.EqMixed.ne_bool_str (bH I q #[6])
  |_=>exact absurd (show false=true from hs) Ve
 |int i=>
  obtain⟨t,rfl⟩:=rx
  cases y with
  |non=>cases ry;exact PySem.EqNone.ne_int_none (bH I q #[6])
  |int j=>obtain⟨t',rfl⟩:=ry;exact ne_int (bH I q (Xh not Dw))
  |str j=>obtain⟨t',rfl⟩:=ry;exact PySem.EqMixed.ne_int_str (bH I q #[6])
  |_=>exact absurd (show false=true from hs) Ve
 |str i=>
  obtain⟨t,rfl⟩:=rx
  cases y with
  |non=>cases ry;exact PySem.EqNone.ne_str_none (bH I q #[6])
  |bl j=>cases ry;exact PySem.EqMixed.ne_str_bool (bH I q #[6])
  |int j=>obtain⟨t',rfl⟩:=ry;exact PySem.EqMixed.ne_str_int (bH I q #[6])
  |str j=>obtain⟨t',rfl⟩:=ry;exact ne_str (bH I q (Xh not Dx))
  |_=>exact absurd (show false=true from hs) Ve
 |byt i=>
  obtain⟨t,rfl⟩:=rx
  cases y with
  |byt j=>obtain⟨t',rfl⟩:=ry;exact PySem.W.ne_bytes (bH I q (Xh not Dy))
  |_=>exact absurd (show false=true from hs) Ve
 |_=>cases y<;>exact absurd (show false=true from hs) Ve
theorem PZ:iX X (compareOp .LtE) (L4 λi j=>.bl (decide (i<=j))):=Nb λ_ _ _ _ _ _ _ q=>le_int q
theorem P0:iX X (compareOp .Gt) (L4 λi j=>.bl (decide (j<i))):=Nb λ_ _ _ _ _ _ _ q=>gt_int q
theorem P1:iX X (compareOp .GtE) (L4 λi j=>.bl (decide (j<=i))):=Nb λ_ _ _ _ _ _ _ q=>ge_int q
theorem E9:iX X (compareOp .In) (λx y H Q=>∃i j,x=.str i/\y=.str j/\Q (.bl (!(Builtin.Str.occurrences j i 0 j.length 1).isEmpty)) H):=by intro pins s σ H x y v u Q I rx ry h;obtain⟨i,j,rfl,rfl,q⟩:=h;obtain⟨t,rfl⟩:=rx;obtain⟨t',rfl⟩:=ry;exact in_str (bH I q rfl)
theorem yB:iX X (compareOp .NotIn) (λx y H Q=>∃i j,x=.str i/\y=.str j/\Q (.bl (!(!(Builtin.Str.occurrences j i 0 j.length 1).isEmpty))) H):=by intro pins s σ H x y v u Q I rx ry h;obtain⟨i,j,rfl,rfl,q⟩:=h;obtain⟨t,rfl⟩:=rx;obtain⟨t',rfl⟩:=ry;exact notIn_str (bH I q rfl)
theorem iX.or(h:iX X f r)(h':iX X f r'):iX X f (λx y H Q=>r x y H Q\/r' x y H Q):=by
 intro pins s σ H x y v u Q I rx ry q;rcases q with q|q
 ·exact h pins s σ H x y v u Q I rx ry q
 ·exact h' pins s σ H x y v u Q I rx ry q
theorem GQ(b:Expr)(h:op≠.In:=by decide)(h2:op≠.NotIn:=by decide):behindInMarks op b=false:=by
 have e1:(op==CmpOp.In)=false:=by grind
 have e2:(op==CmpOp.NotIn)=false:=by grind
 cases b<;>simp[behindInMarks,e1,e2]
theorem JS(ho:iX X (compareOp op) r)(ha:PE X a ta)(hb:PE X b tb)(hm:behindInMarks op b=false):PE X (.Compare a [op] [b] pos) (Pj r ta tb):=by intro pins s σ H Q I h;exact wpAny_Compare1 (Na ha hb I h λv u s2 x y H2 I2 rx ry q=>ho pins s2 σ H2 x y v u Q I2 rx ry q) hm
noncomputable def GR(t:TE):TT:=λσ H Q=>t σ H λx H'=>∃k,x=.bl k/\Q k H'
theorem yC(ho:iX X (compareOp op) r)(ha:PE X a ta)(hb:PE X b tb)(hm:behindInMarks op b=false):PT X (.Compare a [op] [b] pos) (GR (Pj r ta tb)):=by
 intro pins s σ H Q I h
 refine wpAny_isTrue_Compare1 (cU (ha pins s σ H _ I h) λv s1 ⟨x,H1,I1,r1,q1⟩=>cU (hb pins s1 σ H1 _ I1 q1) λu s2 ⟨y,H2,I2,r2,q2⟩=>
  cU (ho pins s2 σ H2 x y v u _ I2 r1 r2 q2) λc s3 ⟨z,H3,I3,r3,k,e,q3⟩=>?_) hm
 subst e;cases r3;exact VC ⟨H3,I3,q3⟩
noncomputable def B3(r r':R2)(ta tb tc:TE):TE:=λσ H Q=>ta σ H λx H1=>tb σ H1 λy H2=>r x y H2 λz H3=>∃k,z=.bl k /\
 (if k=true then tc σ H3 λw' H4=>r' y w' H4 Q else Q (.bl false) H3)
theorem GS(ho:iX X (compareOp op) r)(ho':iX X (compareOp op') r')(ha:PE X a ta)(hb:PE X b tb)(hc:PE X c tc)
 (hm:lastMarks [op,op'] [b,c]=false:=by with_unfolding_all rfl):PE X (.Compare a [op,op'] [b,c] pos) (B3 r r' ta tb tc):=by
 intro pins s σ H Q I h
 refine Compare_chain (cU (ha pins s σ H _ I h) λv s1 ⟨x,H1,I1,r1,q1⟩=>chain_link (cU (hb pins s1 σ H1 _ I1 q1) λu s2 ⟨y,H2,I2,r2,q2⟩=>
  cU (ho pins s2 σ H2 x y v u _ I2 r1 r2 q2) λd s3 ⟨z,H3,I3,r3,k,e,q3⟩=>?_)) hm
 subst e;cases r3;refine VC ?_
 cases k with
 |false=>exact ite_ff ⟨.bl false,H3,I3,rfl,q3⟩
 |true=>exact ite_tt (chain_last (cU (hc pins s3 σ H3 _ I3 q3) (by rintro w' s4 ⟨z',H4,I4,r4,q4⟩;exact ho' pins s4 σ H4 y z' u w' Q I4 r2 r4 q4)))
theorem GU(ho:iX X (compareOp op) r)(ho':iX X (compareOp op') r')(ha:PE X a ta)(hb:PE X b tb)(hc:PE X c tc)
 (hm:lastMarks [op,op'] [b,c]=false:=by with_unfolding_all rfl):PT X (.Compare a [op,op'] [b,c] pos) (GR (B3 r r' ta tb tc)):=by
 intro pins s σ H Q I h
 refine isTrue_chain (cU (ha pins s σ H _ I h) λv s1 ⟨x,H1,I1,r1,q1⟩=>test_link (cU (hb pins s1 σ H1 _ I1 q1) λu s2 ⟨y,H2,I2,r2,q2⟩=>
  cU (ho pins s2 σ H2 x y v u _ I2 r1 r2 q2) λd s3 ⟨z,H3,I3,r3,k,e,q3⟩=>?_)) hm
 subst e;cases r3;refine VC ?_
 cases k with
 |false=>obtain⟨k',e',q'⟩:=q3;cases e';exact ite_ff ⟨H3,I3,q'⟩
 |true=>refine ite_tt (test_last (cU (hc pins s3 σ H3 _ I3 q3) λw' s4 ⟨z',H4,I4,r4,q4⟩=>cU (ho' pins s4 σ H4 y z' u w' _ I4 r2 r4 q4) λd' s5 ⟨z2,H5,I5,r5,k2,e2,q5⟩=>?_));subst e2;cases r5;exact VC ⟨H5,I5,q5⟩
noncomputable def Nk(K:YE)(x:V)(H:Hp)(k:Bool):Prop:=
 match x with
 |.non=>k=false
 |.bl b=>k=b
 |.int i=>k=(i != 0)
 |.str y=>y.length<=sizeLine/\k=((y.length:Int) != 0)
 |.byt y=>y.size<=sizeLine/\k=((y.size:Int) != 0)
 |.ref p=>(∃xs,gY K H p xs/\k=!xs.isEmpty)\/(∃xs,gm K H p xs/\k=!xs.isEmpty)\/∃kvs,H p=some (.dK kvs)/\k=!kvs.isEmpty
 |_=>False
theorem B4(r:KV kvs vs):(!vs.isEmpty)=!kvs.isEmpty:=by cases r<;>rfl
theorem uI(r:Vals xs its):(!its.toArray.isEmpty)=!xs.isEmpty:=by cases r<;>simp
theorem uJ:(sizeLine:Nat)<2^63:=by trivial
theorem GV:PR X (λx H Q=>∃k,Nk X.K x H k/\Q k H):=by
 intro pins s σ H x v Q I rx h;obtain⟨k,e,q⟩:=h;have hl:=uJ;have hs:sizeLine=16777216:=VQ
 cases x with
 |non=>cases rx;have e':k=false:=e;subst e';exact truthy_none ⟨H,I,q⟩
 |bl b=>cases rx;have e':k=b:=e;subst e';exact VC ⟨H,I,q⟩
 |int i=>obtain⟨t,rfl⟩:=rx;have e':k=(i != 0):=e;subst e';exact PySem.P.truthy_int ⟨H,I,q⟩
 |str y=>obtain⟨t,rfl⟩:=rx;obtain⟨hy,e'⟩:y.length<=sizeLine/\k=((y.length:Int) != 0):=e;subst e';exact PySem.P.truthy_str #[4] ⟨H,I.tok _,q⟩
 |byt y=>obtain⟨t,rfl⟩:=rx;obtain⟨hy,e'⟩:y.size<=sizeLine/\k=((y.size:Int) != 0):=e;subst e';exact PySem.W.truthy_bytes #[4] ⟨H,I.tok _,q⟩
 |ref p=>
  cases rx;have e':(∃xs,gY X.K H p xs/\k=!xs.isEmpty)\/(∃xs,gm X.K H p xs/\k=!xs.isEmpty)\/∃kvs,H p=some (.dK kvs)/\k=!kvs.isEmpty:=e;rcases e' with⟨xs,hx,e'⟩|⟨xs,hx,e'⟩|⟨kvs,hx,e'⟩
  ·subst e';obtain⟨its,r,pl,hz⟩:=I.list hx;have hlen:=r.length;exact wpAny_truthy_list pl.isList (by simp only[UX];omega) ⟨H,I.tok _,by rw[uI r];exact q⟩
  ·subst e';obtain⟨its,r,pl,hz⟩:=I.tuple hx;have hlen:=r.length;exact truthy_tuple pl (by simp only[UX];omega) ⟨H,I.tok _,by rw[uI r];exact q⟩
  ·subst e';obtain⟨hz,hS,vs,r,m⟩:kvs.length<=sizeLine/\(p==sysModules)=false/\∃vs,KV kvs vs/\s.heap.DictOf (cX X.prog X.w) p vs:=I.hok p _ hx;have hlen:kvs.length=vs.length:=U9 r;exact wpAny_truthy_dict hS m #[4] ⟨H,I.tok _,by rw[B4 r];exact q⟩
 |_=>exact(show False from e).elim
theorem GW(ha:PE X a ta)(he:∀whole,isTrue a X.env whole=(do let v <- whole;standAt a.pos;holding [v] (truthy v))) :
  PT X a (λσ H Q=>ta σ H λx H'=>∃k,Nk X.K x H' k/\Q k H'):=by
 intro pins s σ H Q I h;exact isTrue_plain (cU (ha pins s σ H _ I h) (by rintro v s1 ⟨x,H1,I1,r1,q1⟩;exact GV pins s1 σ H1 x v Q I1 r1 q1)) (he _)
theorem B5:iX X (binaryOp .Add) (λx y H Q=>∃i j,x=.str i/\y=.str j/\i.length+j.length<=sizeLine/\Q (.str (i++j)) H):=by intro pins s σ H x y v u Q I rx ry h;obtain⟨i,j,rfl,rfl,hz,q⟩:=h;obtain⟨t,rfl⟩:=rx;obtain⟨t',rfl⟩:=ry;exact add_str (λt' tk=>⟨.str _,H,I.tok _,⟨_,rfl⟩,q⟩) hz
theorem vals1(r:Vals [x] us):∃u,us=[u]/\RelV x u:=by
 cases r with
 |cons r1 r2=>cases r2;grind
theorem vals2(r:Vals [x,y] us):∃u w',us=[u,w']/\RelV x u/\RelV y w':=by
 cases r with
 |cons r1 r2=>
  cases r2 with
  |cons r3 r4=>cases r4;grind
theorem Fb(hc:X.calm=true):cY X (.builtin "max") (λxs H Q=>∃i j,xs=[.int i,.int j]/\Q (.int (if j>i then j else i)) H):=by
 intro pins s σ H xs us Q I r h;obtain⟨i,j,rfl,q⟩:=h;obtain⟨u,w',rfl,⟨t,rfl⟩,⟨t',rfl⟩⟩:=vals2 r;refine max_two_ints (I.ok.hd hc) λh' tk k=>⟨_,H,I.kept k,?_,q⟩;by_cases hj:j>i
 ·rw[if_pos hj,if_pos hj];exact⟨_,rfl⟩
 ·rw[if_neg hj,if_neg hj];exact⟨_,rfl⟩
theorem Fc:cY X (.type "int") (λxs H Q=>(∃i,xs=[.int i]/\Q (.int i) H)\/∃k,xs=[.bl k]/\Q (.int (if k then 1 else 0)) H):=by
 intro pins s σ H xs us Q I r h;rcases h with⟨i,rfl,q⟩|⟨k,rfl,q⟩
 ·obtain⟨u,rfl,t,rfl⟩:=vals1 r;exact call_int_int ⟨.int i,H,I,⟨_,rfl⟩,q⟩
 ·obtain⟨u,rfl,r1⟩:=vals1 r;cases r1;exact call_int_bool ⟨.int _,H,I.tok _,⟨_,rfl⟩,q⟩
noncomputable def Sb(K:YE)(x:V)(H:Hp)(n:Nat):Prop:=
 match x with
 |.str y=>y.length<=sizeLine/\n=y.length
 |.byt y=>y.size<=sizeLine/\n=y.size
 |.ref p=>(∃xs,gY K H p xs/\n=xs.length)\/∃xs,gm K H p xs/\n=xs.length
 |_=>False
theorem GX:cY X (.builtin "len") (λxs H Q=>∃x n,xs=[x]/\Sb X.K x H n/\Q (.int n) H):=by
 intro pins s σ H xs us Q I r h;obtain⟨x,n,rfl,e,q⟩:=h;obtain⟨u,rfl,rx⟩:=vals1 r;have hl:=uJ;have hs:sizeLine=16777216:=VQ
 cases x with
 |str y=>obtain⟨t,rfl⟩:=rx;obtain⟨hy,e'⟩:y.length<=sizeLine/\n=y.length:=e;subst e';exact len_str #[4] ⟨.int _,H,I.tok _,⟨_,rfl⟩,q⟩
 |byt y=>obtain⟨t,rfl⟩:=rx;obtain⟨hy,e'⟩:y.size<=sizeLine/\n=y.size:=e;subst e';exact PySem.W.len_bytes #[4] ⟨.int _,H,I.tok _,⟨_,rfl⟩,q⟩
 |ref p=>
  cases rx;have e':(∃xs,gY X.K H p xs/\n=xs.length)\/∃xs,gm X.K H p xs/\n=xs.length:=e;rcases e' with⟨xs,hx,e'⟩|⟨xs,hx,e'⟩
  ·subst e';obtain⟨its,r',pl,hz⟩:=I.list hx;have hlen:=r'.length;exact Calls.call_len_list pl.isList (by simp only[UX];omega) ⟨.int xs.length,H,I.tok _,⟨_,by simp only[UX];rw[hlen]⟩,q⟩
  ·subst e';obtain⟨its,r',pl,hz⟩:=I.tuple hx;have hlen:=r'.length;exact len_tuple pl (by simp only[UX];omega) ⟨.int xs.length,H,I.tok _,⟨_,by simp only[UX];rw[hlen]⟩,q⟩
 |_=>exact(show False from e).elim
theorem Ae:cY X (.builtin "divmod") (λxs H Q=>∃i j,xs=[.int i,.int j]/\PX i j/\∀p,H p=none->Q (.ref p) (upd H p (.tup [.int (i / j),.int (i % j)]))):=by intro pins s σ H xs us Q I r h;obtain⟨i,j,rfl,⟨h1,h2⟩,q⟩:=h;obtain⟨u,w',rfl,⟨t,rfl⟩,⟨t',rfl⟩⟩:=vals2 r;refine divmod_int #[4] ?_ (.inl (PyProof.noPylong_small #[4]));rw[Int.fdiv_eq_ediv_of_nonneg i #[4],Int.fmod_eq_emod_of_nonneg i #[4]];have hn  := I.hok.fresh (UJ _);refine⟨.ref #[10],_,?_,rfl,q _ hn⟩;refine I.laid (λb o e=>UG _ e) (UJ _) ⟨by simp[VQ],[.int _ s.toks,.int _ (s.toks+1)],.cons ⟨_,rfl⟩ (.cons ⟨_,rfl⟩ .nil),?_⟩;exact⟨_,UK s.heap rfl,rfl,0,rfl⟩
end
structure Nl(h:Heap)(x dx C:Addr)(mA:YA):Prop where
 obj:h.get? x=some (PySem.W.instObj C dx)
 ns:h.Ns1 dx mA
 ne:dx≠x
theorem Fd{h:Heap}(n:h.Ns1 dx mA):∃od,h.get? dx=some od/\∀name,PySem.W.lookIn name od=some (mA name):=by
 obtain⟨o,es,ep,ho,hd,hk,_,hm⟩:=n;refine⟨o,ho,λname=>?_⟩;have e:=hm name;unfold nsFind findBy at e;rw[<- Array.find?_toList]at e;unfold PySem.W.lookIn;rw[hd];dsimp only;split
 ·grind
 ·rename_i q;rw[q]at e;have a:es.toList.any (·.refKey)=false:=by rw[List.any_eq_false];intro y hy;obtain⟨z,t,hkey⟩:=hk y (Wt.mp hy);simp[DictEntry.refKey,hkey]
  grind
theorem Nl.look(I:Nl h x dx C mA):∃od,PySem.W.InstAt h x (PySem.W.instObj C dx) C (some od)/\∀name,PySem.W.lookIn name od=some (mA name):=
 by obtain⟨od,ho,hl⟩:=Fd I.ns;exact⟨od,⟨I.obj,rfl,rfl,ho⟩,hl⟩
theorem uF.some_of(r:uF (some v) o):∃u,o=some u/\RelV v u:=by
 cases o with
 |none=>trivial
 |some u=>exact⟨u,rfl,r⟩
section
variable {P:YL} {w:World} {H H':Hp} {h h':Heap} {a C dx:Addr} {fs fs':List (Str×V)}
theorem ui(hok:lu P w H h)(e:H a=some (.ins C dx fs)):∃mA,Nl h a dx C mA/\(∀f,uF (fs.lookup f) (mA f))/\PySem.Within mA (fs.map (·.1))/\fs.length<=1000/\H dx=some (.own a):=by obtain⟨d,z,ne,ob,mA,n,r,q⟩:=(hok a _ e);exact⟨mA,⟨ob,n,ne⟩,r,q,z,d⟩
end
structure Sd(K:YE)(C:Addr):Prop where
 pg:PySem.W.plainGet K C Str.empty=true
 hd:PySem.W.hasDictIn K C=true
 po:PySem.W.plainOver K C=true
 sa:PySem.W.findIn K (.ref C) "__setattr__" = some (some (.builtin "object.__setattr__"))
theorem Sd.get{K:YE}(c:Sd K C)(f:Str):PySem.W.plainGet K C f=true:=c.pg
section
variable {X:Cx} {pins:Yx} {σ:St} {H:Hp} {s:YO} {A:YN} {E:Yw} {Q:Yw} {c:Value} {b:Bool}
inductive qa (K:YE) (H:Hp):V->Value->Prop where
 |non:qa K H .non (.type "NoneType")
 |bl (x:Bool):qa K H (.bl x) (.type "bool")
 |int (i:Int):qa K H (.int i) (.type "int")
 |str (x:Str):qa K H (.str x) (.type "str")
 |flt (x:UInt64):qa K H (.flt x) (.type "float")
 |lst {a:Addr} {xs:List V} (e:H a=some (.lst xs)):qa K H (.ref a) (.type "list")
 |frz {a:Addr} {o:Obj} {xs:List V} (e:H a=some (.frz o (.lst xs))):qa K H (.ref a) (.type "list")
 |tup {a:Addr} {xs:List V} (e:H a=some (.tup xs)):qa K H (.ref a) (.type "tuple")
 |dK {a:Addr} {kvs:List (Key×V)} (e:H a=some (.dK kvs)):qa K H (.ref a) (.type "dict")
 |dT {a:Addr} {kvs:List (List Key×V)} (e:H a=some (.dT kvs)):qa K H (.ref a) (.type "dict")
 |ins {a C dx:Addr} {fs:List (Str×V)} (e:H a=some (.ins C dx fs)) (cl:Sd K C) (ha:PySem.W.findIn K (.ref C) "__class__" = some (some (.builtin "object.__class__")))
   (hn:PySem.W.specialIn K (.builtin "object.__class__") "__get__" = some (some (.builtin "getset_descriptor.__get__"))) (htk:PySem.W.takesIn K (.builtin "object.__class__")=some true)
   (hm:PySem.W.mroIn K C (.type "object")=some true):qa K H (.ref a) (.ref C)
theorem Fe(I:#[11])(rx:RelV x u)(ty:qa X.K H x t)(e:PySem.W.kitOne X.K t c=some b)(h:∀tk,Q (.bool b) {s with toks:=tk}) :
  wpAny #[12] A (call (.builtin "isinstance") [u,c]) Q E s:=by
 cases ty with
 |non=>cases(show u=Value.none from rx);exact VF PySem.W.kitx_none I.sP True.intro e (λz=>nomatch z) h
 |bl y=>cases(show u=Value.bool y from rx);exact VF PySem.W.kitx_bool I.sP True.intro e (λz=>nomatch z) h
 |int i=>obtain⟨t,q⟩:=(show ∃t,u=Value.int i t from rx);cases q;exact VF PySem.W.kitx_int I.sP True.intro e (λz=>nomatch z) h
 |str y=>obtain⟨t,q⟩:=(show ∃t,u=Value.str y t from rx);cases q;exact VF PySem.W.kitx_str I.sP True.intro e (λz=>nomatch z) h
 |flt y=>obtain⟨t,q⟩:=(show ∃t,u=Value.float y t from rx);cases q;exact VF PySem.W.kitx_float I.sP True.intro e (λz=>nomatch z) h
 | @lst a xs ea=>cases(show u=Value.ref a from rx);obtain⟨_,_,n,_,h1⟩:=(show cC X.prog X.w H s.heap a (.lst xs)from I.hok a _ ea);exact VF PySem.W.kitx_list I.sP ⟨_,h1,rfl⟩ e (λz=>nomatch z) h
 | @frz a ob xs ea=>cases(show u=Value.ref a from rx);obtain⟨_,_,_,n,_,h1⟩:=(show cC X.prog X.w H s.heap a (.frz ob (.lst xs))from I.hok a _ ea);exact VF PySem.W.kitx_list I.sP ⟨_,h1,rfl⟩ e (λz=>nomatch z) h
 | @tup a xs ea=>cases(show u=Value.ref a from rx);obtain⟨_,_,_,p⟩:=(show cC X.prog X.w H s.heap a (.tup xs)from I.hok a _ ea);obtain⟨o,h1,h2,_⟩:=p;exact VF PySem.W.kitx_tuple I.sP ⟨o,h1,h2⟩ e (λz=>nomatch z) h
 | @dK a kvs ea=>cases(show u=Value.ref a from rx);obtain⟨_,_,vs,_,p⟩:=(show cC X.prog X.w H s.heap a (.dK kvs)from I.hok a _ ea);obtain⟨o,es,ep,h1,h2,_⟩:=p;exact VF PySem.W.kitx_dict I.sP ⟨o,h1,h2.1⟩ e (λz=>nomatch z) h
 | @dT a kvs ea=>cases(show u=Value.ref a from rx);obtain⟨_,_,xs,_,o,es,ep,h1,h2,_⟩:=(show cC X.prog X.w H s.heap a (.dT kvs)from I.hok a _ ea);exact VF PySem.W.kitx_dict I.sP ⟨o,h1,h2.1⟩ e (λz=>nomatch z) h
 | @ins a C dx fs ea cl ha hn htk hm=>cases(show u=Value.ref a from rx);obtain⟨mA,O,_⟩:=ui I.hok ea;obtain⟨od,J,_⟩:=O.look;exact VF (PySem.W.kitx_own (cl.get _) cl.hd ha hn htk hm) I.sP J e (λz=>nomatch z) h
end
structure bO(k:Nat)(A:YN):Prop where
 hd:A.handled=none
 dp:A.depth+3*k+5<recursionLimit
 un:A.units+16*k+200<cLine
 gd:A.guards=some []
theorem bO.mono(r:bO k A)(h:j<=k):bO j A:=⟨r.hd,by have:=r.dp;omega,by have:=r.un;omega,r.gd⟩
theorem bO.deeper(r:bO (k+1) A)(env:Env):bO k (A.deeper env):=
 ⟨r.hd,by have:=r.dp;show A.depth+1+3*k+5<_;omega,by have:=r.un;show A.units+3+16*k+200<_;omega,r.gd⟩
theorem bO.depth(r:bO k A):A.depth<recursionLimit:=by have:=r.dp;omega
theorem bO.units(r:bO k A):A.units+64<cLine:=by have:=r.un;omega
noncomputable def B6:TA:=λ_ H Q=>Q [] H
noncomputable def oG(ta:TE)(tr:TA):TA:=λσ H Q=>ta σ H λx H1=>tr σ H1 λxs H2=>Q (x::xs) H2
section
variable {X:Cx} {e:Expr} {es:YG} {te:TE} {t:TA} {pos:Pos}
theorem fc:PA X [] B6:=λ_ _ _ _ H Q I h=>XJ ⟨[],H,I,.nil,h⟩
theorem bh(ha:PE X e te)(hr:PA X es t)(hs:#[2]:=by rfl):PA X (e::es) (oG te t):=by intro pos pins s σ H Q I h;rw[hs];refine Xv (cU (ha pins s σ H _ I h) λu s1 ⟨x,H1,I1,r1,q1⟩=>?_);exact cU (hr pos pins s1 σ H1 _ I1 q1) (by rintro us s2 ⟨xs,H2,I2,r2,q2⟩;exact⟨x::xs,H2,I2,.cons r1 r2,q2⟩)
noncomputable def Np(t:TA):TE:=λσ H Q=>t σ H λxs H1=>xs.length<=sizeLine/\∀p,H1 p=none->Q (.ref p) (upd H1 p (.tup xs))
noncomputable def Se(t:TA):TE:=λσ H Q=>t σ H λxs H1=>xs.length<=sizeLine/\∀p,H1 p=none->Q (.ref p) (upd H1 p (.lst xs))
theorem yD(h:PA X es t):PE X (.Tuple es x1 pos) (Np t):=by intro pins s σ H Q I hq;refine wpAny_Tuple_spliced (cU (h pos pins s σ H _ I hq) λus s1 ⟨xs,H1,I1,r,z,q⟩=>⟨by grind[r.length],?_⟩);have hf  := I1.hok.fresh (UJ _);refine⟨.ref s1.heap.objs.size,upd H1 s1.heap.objs.size _,I1.laid (λb u e=>UG _ e) (UJ _) ?_,rfl,q _ hf⟩;exact⟨z,us,r,⟨_,UK _ rfl,rfl,_,rfl⟩⟩
theorem lK(h:PA X es t):PE X (.List es pos) (Se t):=by intro pins s σ H Q I hq;refine wpAny_List_spliced (cU (h pos pins s σ H _ I hq) λus s1 ⟨xs,H1,I1,r,z,q⟩=>⟨by grind[r.length],?_⟩);have hf  := I1.hok.fresh (UJ _);refine⟨.ref s1.heap.objs.size,upd H1 s1.heap.objs.size _,I1.laid (λb u e=>UG _ e) (UJ _) ?_,rfl,q _ hf⟩;exact⟨z,us,0,r,UK _ rfl⟩
end
noncomputable abbrev Sp:=List V->Hp->VK->XK->Prop
noncomputable abbrev JT:=List Env->Hp->YO->XK->Yw
structure yE(P:YL)(w:World)(K:YE)(mg:YA)(base:Heap)(A:YN)(outer:List Env)(s:YO)(H:Hp):Prop where
 frames:A.frames=some outer
 mod:Mod K mg base
 bs:∀b o,base.get? b=some o->s.heap.get? b=some o/\H b=none
 bsz:base.objs.size<=#[10]
 j5:s.heap.FunFrames base outer
 frf:∀b∈lH outer,H b=none
 hok:lu P w H s.heap
 bare:AllBare s.gens
noncomputable def CE(outer:List Env)(P:YL)(w:World)(H:Hp)(s:YO)(Q:VK)(u:Value)(s':YO):Prop:=
 ∃v H',s'.os=s.os/\AllBare s'.gens/\Un (lH outer) [] H H' s.heap s'.heap/\lu P w H' s'.heap/\RelV v u/\Q v H'
noncomputable def CR(CX:JT)(outer:List Env)(P:YL)(w:World)(H:Hp)(s:YO)(Q:VK)(E:XK)(r:Result)(s':YO):Prop:=
 match r with
 |.ok (.ret u)=>CE outer P w H s Q u s'
 |.ok _=>False
 |.error e=>CX outer H s E e s'
structure oD(P:YL)(w:World)(K:YE)(mg:YA)(base:Heap)(CX:JT)(k:Nat)(f:Addr)(fd:FuncData)(ps:YF)(sp:Sp):Prop where
 len:∀vs H Q E,sp vs H Q E->vs.length=ps.length
 run:∀(A:YN) (outer:List Env) (s:YO) (H:Hp) (args:Args) (us:YD) (vs:List V) (Q:VK) (E:XK),bO k A->yE P w K mg base A outer s H->BindsTo s fd args (ps.zip us)->Vals vs us->sp vs H Q E ->
  codeAny #[14] A (.call (.ref f) args) (CR CX outer P w H s Q E) s
theorem oD.imp{K:YE}(F:oD P w K mg base CX k f fd ps sp)
 (h:∀vs H Q E,sp' vs H Q E->sp vs H Q E):oD P w K mg base CX k f fd ps sp':=
 ⟨λvs H Q E q=>F.len vs H Q E (h _ _ _ _ q),λA outer s H args us vs Q E hr he hb hv hs=>F.run A outer s H args us vs Q E hr he hb hv (h _ _ _ _ hs)⟩
section
variable {X:Cx} {pins:Yx} {σ:St} {H:Hp} {s s':YO}
theorem Inv.JU(I:#[11]):yE X.prog X.w X.K X.mg X.base X.A X.stack s H:=
 ⟨I.ok.frames,I.ok.mod,I.bs,UP I.ok.bsz I.sz,I.stack,I.yy,I.hok,I.bare⟩
theorem Inv.after(I:#[11])(h:CE X.stack X.prog X.w H s Q u s'):EP X pins σ Q u s':=by obtain⟨v,H',os,bare,un,hok,r,q⟩:=h;obtain⟨hh,g,d,t,os'⟩:=s';obtain rfl:os'=s.os:=os;exact⟨v,H',I.call un hok bare (λb z=>absurd z #[6]),r,q⟩
end
noncomputable def Dz(sp:Sp)(dvs:List V)(E:XK)(t:TA):TE:=λσ H Q=>t σ H λvs H1=>sp (vs++dvs) H1 Q E
noncomputable def Binds(K:YE)(fd:FuncData)(ps:YF)(ds:YD):Prop:=
 ∀(s:YO) (us:YD),K.In s.heap->(us++ds).length=ps.length->BindsTo s fd ⟨us,[]⟩ (ps.zip (us++ds))
theorem Binds.all{K:YE}(h:∀us:YD,us.length=ps.length->bindArgs fd ⟨us,[]⟩=pure (ps.zip us)):Binds K fd ps []:=λs us _ hl=>by rw[WS]at hl ⊢;exact .of_eq (h us hl)
noncomputable def Passes(CX:JT)(X:Cx)(E:XK):Prop:=∀(pins:Yx) (σ:St) (H:Hp) (s:YO) (e:Value) (s':YO),#[11]->CX X.stack H s E e s'->X.xe e s'
section
variable {X:Cx} {CX:JT} {k:Nat} {f C:Addr} {fd:FuncData} {ps:YF} {sp:Sp} {dvs:List V} {ds:YD} {E:XK} {x m:Str} {p pos apos:Pos} {e o:Expr} {es:YG} {ta:TE} {t:TA}
theorem Nq{σ:St}(F:oD X.prog X.w X.K X.mg X.base CX k f fd ps sp)(hr:bO k X.A)(hb:Binds X.K fd ps ds)(hd:Vals dvs ds)(hx:Passes CX X E)
 (I:#[11])(r:Vals vs us)(h:sp (vs++dvs) H Q E):wpAny #[12] X.A (call (.ref f) us) (EP X pins σ Q) X.xe s:=by
 have r2  := r.append hd;have hl:(us++ds).length=ps.length:=by rw[<- r2.length];exact F.len _ _ _ _ h
 refine X7 (WT (F.run X.A X.stack s H _ _ _ Q E hr I.JU (hb s us I.sP hl) r2 h) λr s' hq=>?_)
 cases r with
 |error e=>exact hx pins σ H s e s' I hq
 |ok fl=>
  cases fl with
  |ret u=>exact I.after hq
  |next=>assumption
  |brk=>assumption
  |cont=>assumption
theorem JV(F:oD X.prog X.w X.K X.mg X.base CX k f fd ps sp)(hr:bO k X.A)(hg:Gl X x)(hm:X.mg x=some (.ref f))(hk:PySem.W.keepIn X.K (.ref f)=true)(hb:Binds X.K fd ps ds)(hd:Vals dvs ds)(hx:Passes CX X E)
 (ha:PA X (e::es) t)(hdb:(x==("__debug__" : Str))=false:=by decide)(he:#[2]:=by rfl)(hpl:(backTo pos (starEach es X.env)).any (·.1)=false:=by rfl) :
  PE X (.Call (.Name x p) (e::es) [] pos) (Dz sp dvs E t):=by
 intro pins s σ H Q I h;refine VR (nL I hg hm ?_ hdb);refine Yg I.ok.mod.kin hk (cU (ha pos pins s σ H _ I h) λus s1 ⟨vs,H1,I1,r,q⟩=>⟨I1.sP,?_⟩) he hpl;exact Nq F hr hb hd hx I1 r q
end
structure aO(N P:YF)(sc:Scope):Prop where
 kind:sc.kind=.function
 co:sc.isCoroutine=false
 gen:sc.isGenerator=false
 nd:N.Nodup
 pre:N.take P.length=P
 par:∀x∈P,sc.names.lookup x=some .local\/sc.names.lookup x=some .cell
 nofree:∀y∈sc.names,y.2≠.free
theorem xF{kindOf:Str->Option NameKind}:∀{binds:List (Str×Value)} {m:YA},(∀v,(x,v)∉binds)->bindL kindOf binds m x=m x
 | [],_,_=>rfl
 | (n,v)::r,m,h=>by
  unfold bindL;rw[xF λw hw=>h w (UQ _ hw)];split
  ·grind
  ·rfl
theorem xG{kindOf:Str->Option NameKind}:∀{binds:List (Str×Value)} {m:YA},(∀v,(x,v)∉binds)->bindC kindOf binds m x=m x
 | [],_,_=>rfl
 | (n,v)::r,m,h=>by
  unfold bindC;rw[xG λw hw=>h w (UQ _ hw)];split
  ·rfl
  grind
theorem xH{kindOf:Str->Option NameKind}:∀{P:YF} {vs:YD} {i:Nat} {m:YA},P.Nodup->P[i]?=some x->vs[i]?=some v->kindOf x=some .local ->
  bindL kindOf (P.zip vs) m x=some v
 | [],_,_,_,_,h,_,_=>by simp at h
 |_::_,[],_,_,_,_,h,_=>by simp at h
 |p::P,w::vs,0,m,nd,h1,h2,hk=>by simp at h1 h2;subst h1;subst h2;show bindL kindOf ((p,w)::P.zip vs) m p=_;unfold bindL;rw[xF λv hv=>(VM.mp nd).1 (WU hv).1,if_pos hk];simp
 |p::P,w::vs,i+1,m,nd,h1,h2,hk=>by unfold bindL;exact xH (i:=i) (VM.mp nd).2 (by simp_all) (by simp_all) hk
theorem xI{kindOf:Str->Option NameKind}:∀{P:YF} {vs:YD} {i:Nat} {m:YA},P.Nodup->P[i]?=some x->vs[i]?=some v->kindOf x≠some .local ->
  bindC kindOf (P.zip vs) m x=some v
 | [],_,_,_,_,h,_,_=>by simp at h
 |_::_,[],_,_,_,_,h,_=>by simp at h
 |p::P,w::vs,0,m,nd,h1,h2,hk=>by simp at h1 h2;subst h1;subst h2;show bindC kindOf ((p,w)::P.zip vs) m p=_;unfold bindC;rw[xG λv hv=>(VM.mp nd).1 (WU hv).1,if_neg hk];simp
 |p::P,w::vs,i+1,m,nd,h1,h2,hk=>by unfold bindC;exact xI (i:=i) (VM.mp nd).2 (by simp_all) (by simp_all) hk
noncomputable def start(N:YF)(vs:List V):St:=vs.map some++List.replicate (N.length-vs.length) none
noncomputable def fe(CX:JT)(P:YL)(w:World)(K:YE)(mg:YA)(base:Heap)(N:YF)(qual:Str)(scope:Scope)(f:Addr)(cd:Value)(A:YN)(outer:List Env)(s:YO)(H:Hp)(E:XK):Cx where
 prog:=P
 w:=w
 K:=K
 mg:=mg
 base:=base
 A:=A.deeper (envOfC qual scope #[10] f cd)
 N:=N
 s₀:=s
 H₀:=H
 env:=envOfC qual scope #[10] f cd
 outer:=outer
 stack:=envOfC qual scope #[10] f cd::outer
 ex:=[]
 calm:=true
 fn:=λ_=>true
 pn:=[]
 xe:=λe s'=>wpAny #[14] (A.deeper (envOfC qual scope #[10] f cd)) (leaving (envOfC qual scope #[10] f cd) e) (λ_ s''=>CX outer H s E e s'') (λe' s''=>CX outer H s E e' s'') s'
theorem Af{sc:Scope}(h:sc.names.lookup x=some .cell):∃c,(cellsFrom n sc.names []).lookup x=some c:=by have q:=Wg sc.names n [] (.inl h);exact Wv.mp q
theorem rK{K:YE}
 (S:aO N ps scope)(hd:A.handled=none)(e0:yE P w K mg base A outer s H)(hl:vs.length=ps.length)(r:Vals vs us)
 (x:InCallC s #[10] (bindL (envOfC qual scope #[10] f cd).kindOf (ps.zip us) λ_=>none) (cellsFrom (#[10]+1) scope.names []) (bindC (envOfC qual scope #[10] f cd).kindOf (ps.zip us) λ_=>none) s1) :
  Inv (fe CX P w K mg base N qual scope f cd A outer s H E) [] (start N vs) H s1:=by
 have hpl:ps.length<=N.length:=by have:=Xh List.length S.pre;grind
 obtain⟨h1,tk,rfl,hk⟩:=x.done;have noA:∀b:Addr,b∉(fe CX P w K mg base N qual scope f cd A outer s H E).ex:=λb z=>absurd (show b∈([]:YC)from z) #[6]
 refine⟨⟨e0.mod,S.kind,rfl,rfl,UJ _,λy z c h1 h2=>?_,λy hy=>?_,λy c _ h=>?_,λ_=>hd,Around.frames_deeper e0.frames,.inr ⟨rfl,rfl⟩,λb z=>absurd z (noA b),e0.bs,e0.bsz,λb _ _=>noA b,λb z=>absurd z (noA b),e0.j5,e0.frf⟩,
  rfl,e0.bare,Un.kept hk,⟨_,x.toInCall.ns,λi y v h1 h2 h3=>?_⟩,λy c h=>⟨_,x.cell y c h⟩,e0.hok.fresh (UJ _),λy c h=>?_,λp hp=>absurd (show p∈([]:Yx)from hp) #[6],e0.hok.kept hk,?_⟩
 ·exact name_of_addr x.apart (VB h1) (VB h2)
 ·have hy:scope.names.lookup y=some .cell\/scope.names.lookup y=some .free:=hy;rcases hy with hy|hy
  ·exact Af hy
  ·exact absurd rfl (S.nofree _ (VB hy))
 ·exact WA (x.above y c (VB h))
 ·have hi:i<vs.length:=by
   unfold start at h2;by_cases hi:i<vs.length
   ·exact hi
   ·rw[Vh (by simpa using hi)]at h2;rw[WB]at h2;split at h2<;>cases h2
  have ha:vs[i]?=some v:=by
   unfold start at h2;rw[U3 (by simpa using hi),VD]at h2
   cases e:vs[i]? with
   |none=>rw[e]at h2;cases h2
   |some a=>rw[e]at h2;cases h2;rfl
  obtain⟨u,hu,rv⟩:=r.get ha;have hp:ps[i]?=some y:=by rw[<- S.pre,List.getElem?_take_of_lt #[4]];exact h1
  have ndP:ps.Nodup:=by rw[<- S.pre];exact S.nd.sublist (List.take_sublist _ _)
  refine⟨u,rv,?_⟩;rcases S.par y (UY hp)with k|k
  ·exact .inl ⟨k,xH ndP hp hu k⟩
  ·obtain⟨c,e⟩:=Af (n:=#[10]+1) k;refine .inr ⟨.inl k,c,e,?_⟩;have q:=x.cell y c e;rw[xI ndP hp hu (by show scope.names.lookup y≠_;rw[k];decide)]at q;exact q
 ·exact e0.hok.fresh (WA (x.above y c (VB h)))
 ·unfold start;show _=N.length;rw[Vi,UZ,WV];omega
theorem L7{K:YE}{dV kV doc pm cdv ct oc:Value}
 (lk:K.lookup f=some ⟨oc,od,.func (PySem.W.fnOf name qual params body scope dV kV doc pm an cdv ct),osl⟩)(hcd:PySem.W.codeIn K cdv qual=true)(S:aO N ps scope)
 (len:∀vs H Q E,sp vs H Q E->vs.length=ps.length)
 (hbody:∀(A:YN) (outer:List Env) (s:YO) (H:Hp) (vs:List V) (Q:VK) (E:XK),bO k (A.deeper (envOfC qual scope #[10] f cdv))->sp vs H Q E ->
   ∃t,xD (fe CX P w K mg base N qual scope f cdv A outer s H E) body t/\t {nx:=λ_ H'=>Q .non H',rt:=Q} (start N vs) H) :
  oD P w K mg base CX (k+1) f (PySem.W.fnOf name qual params body scope dV kV doc pm an cdv ct) ps sp:=by
 refine⟨len,λA outer s H args us vs Q E hr e0 hb r hsp=>?_⟩;have hl:=len _ _ _ _ hsp;have KX:K.In s.heap:=e0.mod.kin.keeps λb o e=>(e0.bs b o e).1;have lim:s.heap.NoLimit:=e0.mod.nolimit.keeps λb o e=>(e0.bs b o e).1
 have hkind:∀y∈ps.zip us,scope.names.lookup y.1=some .local\/(scope.names.lookup y.1=some .cell/\((cellsFrom (#[10]+1) scope.names []).lookup y.1).isSome=true):=by
  rintro⟨n,v⟩ hy;rcases S.par n (WU hy).1 with q|q
  ·grind
  ·exact .inr ⟨q,Wg _ _ _ (.inl q)⟩
 refine XX hr.depth (KX _ _ lk) rfl S.co S.gen rfl (Yh KX hcd) (hb _ _ _ _ ?_);refine W8 S.kind hkind λenv he s1 x=>?_;subst he;refine⟨lim.keeps x.toInCall.keep,codeAny_func ?_⟩;obtain⟨t,ht,hq⟩:=hbody A outer s H vs Q E (hr.deeper _) hsp;have I:Inv (fe CX P w K mg base N qual scope f cdv A outer s H E) [] (start N vs) H s1:=rK S hr.hd e0 hl r x;refine VU (ht [] s1 (start N vs) H _ I hq) (λfl s' hs=>?_) λe s' hs=>hs
 have fin:∀{σ':St} {H':Hp} {v:V} {u:Value},Inv (fe CX P w K mg base N qual scope f cdv A outer s H E) [] σ' H' s'->RelV v u->Q v H'->CE outer P w H s Q u s':=
  λ{σ' H' v u} J rv q=>⟨v,H',J.os,J.bare,J.base,J.hok,rv,q⟩
 cases fl with
 |ret u=>obtain⟨v,σ',H',J,rv,q⟩:=hs;exact fin J rv q
 |next=>obtain⟨σ',H',J,q⟩:=hs;exact fin (v:=V.non) (u:=Value.none) J rfl q
 |brk=>obtain⟨_,_,_,q⟩:=hs;exact False.elim q
 |cont=>obtain⟨_,_,_,q⟩:=hs;exact False.elim q
section
variable {X:Cx} {x:Str} {p pos:Pos} {e:Expr} {es:YG} {t:TA} {id T:String} {r:List V->Hp->VK->Prop}
noncomputable def P4(r:List V->Hp->VK->Prop)(t:TA):TE:=λσ H Q=>t σ H λvs H1=>r vs H1 Q
theorem qb(hc:cY X (.builtin id) r)(hg:Gl X x)(hm:X.mg x=none)(hv:bootBuiltins x=some (.builtin id))(ha:PA X (e::es) t)(hn:x ≠ "__name__" := by decide)(hdb:(x==("__debug__" : Str))=false:=by decide)
 (he:#[2]:=by rfl)(hpl:(backTo pos (starEach es X.env)).any (·.1)=false:=by rfl):PE X (.Call (.Name x p) (e::es) [] pos) (P4 r t):=by
 intro pins s σ H Q I h;refine VR (o7 I hg hm hv ?_ hn hdb);exact XY (cU (ha pos pins s σ H _ I h) (by rintro us s1 ⟨vs,H1,I1,r1,q1⟩;exact hc pins s1 σ H1 vs us Q I1 r1 q1)) he hpl
theorem Ff(hc:cY X (.type T) r)(hg:Gl X x)(hm:X.mg x=none)(hv:bootBuiltins x=some (.type T))(ha:PA X (e::es) t)(hn:x ≠ "__name__" := by decide)(hdb:(x==("__debug__" : Str))=false:=by decide)
 (he:#[2]:=by rfl)(hpl:(backTo pos (starEach es X.env)).any (·.1)=false:=by rfl):PE X (.Call (.Name x p) (e::es) [] pos) (P4 r t):=by
 intro pins s σ H Q I h;refine VR (o7 I hg hm hv ?_ hn hdb);exact Wc (cU (ha pos pins s σ H _ I h) (by rintro us s1 ⟨vs,H1,I1,r1,q1⟩;exact hc pins s1 σ H1 vs us Q I1 r1 q1)) he hpl
end
end L2
namespace HT
open PySem PyProof.Rows
section
variable {prog:YL} {w:World} {A:YN} {E:Yw} {s:YO}
theorem JW(ht:IsTup s.heap t vs.toArray)(hb:IsTup s.heap b ws.toArray)(hv:vs≠[])
 (h1:ws=[]->Q (.ref t) s)(h2:ws≠[]->Q (.ref #[10]) {s with heap:=s.heap.push {cls:=.type "tuple",data:=.seq (vs++ws).toArray}})
 (hsz:vs.length+ws.length<=sizeLine):wpAny (model prog w) A (binaryOp .Add (.ref t) (.ref b)) Q E s:=by
 obtain⟨⟨cls,dd,data,sl⟩,ho,hc,n,hd⟩:=id ht;obtain⟨⟨cls2,dd2,data2,sl2⟩,ho2,hc2,n2,hd2⟩:=id hb;subst hc hd hc2 hd2;by_cases hw:ws=[]
 ·exact concat_meets ⟨_,ho,rfl⟩ ⟨_,ho2,rfl⟩ noFill_tuple_add seq_tuple_add XH Xw (Xp _ _)
   (tuple_addW1 t b vs.toArray ws.toArray n n2 dd dd2 sl sl2 (by grind) (by grind)) ⟨ho,ho2,h1 hw⟩
 ·refine concat_meets ⟨_,ho,rfl⟩ ⟨_,ho2,rfl⟩ noFill_tuple_add seq_tuple_add XH Xw (Xp _ _)
   (tuple_addW2 t b vs.toArray ws.toArray n n2 dd dd2 sl sl2 (by grind) (by simp_all) #[4]) ⟨ho,ho2,?_⟩
  simp_all
noncomputable def fQ(n d:Nat):Option Int->Nat
 |none=>d
 |some v=>if v<0 then(v+(n:Int)).toNat else min v.toNat n
theorem Nt(n d:Nat)(hd:d<=n)(o:Option Int):fQ n d o<=n:=by
 cases o with
 |none=>exact hd
 |some v=>
  show(if v<0 then(v+(n:Int)).toNat else min v.toNat n)<=n
  grind
theorem DB(v:Int)(n d:Nat):(if v<0 then max (v+(n:Int)) 0 else min v (n:Int))=((fQ n d (some v):Nat):Int):=by
 show _=(((if v<0 then(v+(n:Int)).toNat else min v.toNat n):Nat):Int)
 grind
theorem B7(lo hi:Option Int)(n:Nat):Builtin.Slice.sliceAdjust lo hi 1 (n:Int)=(((fQ n 0 lo:Nat):Int),((fQ n n hi:Nat):Int)):=by
 refine Prod.ext ?_ ?_
 ·cases lo with
  |none=>rfl
  |some v=>exact DB v n 0
 ·cases hi with
  |none=>rfl
  |some v=>exact DB v n n
theorem B8(i j:Nat):Builtin.Slice.slicePlaces (i:Int) (j:Int) 1=j-i:=by
 grind[Builtin.Slice.slicePlaces]
theorem uK(p:IsPart v o)(h:Q o s):wpAny (model prog w) A (Builtin.Slice.slicePartIndex v) Q E s:=by
 cases p with
 |none=>exact slicePart_none h
 |int i t=>exact slicePart_int h
theorem jI{lo hi:Option Int}{Q:Int×Int×Nat->YO->Prop}(hs:s.heap.IsSliceOf sl vl vu .none)(pl:IsPart vl lo)(pu:IsPart vu hi)
 (h:Q (((fQ n 0 lo:Nat):Int),1,fQ n n hi-fQ n 0 lo) s):wpAny (model prog w) A (Builtin.Slice.sliceApplied (.ref sl) (pure (n:Int))) Q E s:=by
 obtain⟨os,hos,hcs,hds⟩:=id hs;refine UE (UE (VS hos hds rfl (UE (VS hos hds rfl (UE (VS hos hds rfl (UH ?_)))))));refine UE (slicePart_none ?_);refine UE (uK pl (UE (uK pu (UE (UH ?_)))));show wpAny _ _ (match Builtin.Slice.sliceAdjust lo hi 1 (n:Int)with | (lo,hi)=>pure (lo,(1:Int),Builtin.Slice.slicePlaces lo hi 1)) _ _ s;rw[B7 lo hi n];show wpAny _ _ (pure (((fQ n 0 lo:Nat):Int),(1:Int),Builtin.Slice.slicePlaces ((fQ n 0 lo:Nat):Int) ((fQ n n hi:Nat):Int) 1)) _ _ s;rw[B8];exact UH h
theorem GY(xs:YJ)(i k:Nat):((List.range k).filterMap λ(m:Nat)=>xs[((i:Int)+(m:Int)*1).toNat]?).toArray=((xs.toList.drop i).take k).toArray:=by
 have e:(λ(m:Nat)=>xs[((i:Int)+(m:Int)*1).toNat]?)=λm=>xs[i+m]?:=by
  grind
 have:=pick_run xs i k;have e2:((λx=>xs[x]?)∘λx=>i+x)=λm=>xs[i+m]?:=rfl
 grind
theorem qc{lo hi:Option Int}(ht:IsTup s.heap t items)(hs:s.heap.IsSliceOf sl vl vu .none)(pl:IsPart vl lo)(pu:IsPart vu hi)
 (hw:¬ (fQ items.size 0 lo=0/\fQ items.size items.size hi=items.size))
 (h:Q (.ref #[10]) {s with heap:=s.heap.push {cls:=.type "tuple",data:=.seq ((items.toList.drop (fQ items.size 0 lo)).take (fQ items.size items.size hi-fQ items.size 0 lo)).toArray}})
 (hsz:items.size<=sizeLine):wpAny (model prog w) A (getItem (.ref t) (.ref sl)) Q E s:=by
 have htake:sizeOk (.seq ((items.toList.drop (fQ items.size 0 lo)).take (fQ items.size items.size hi-fQ items.size 0 lo)).toArray):=by show((items.toList.drop (fQ items.size 0 lo)).take (fQ items.size items.size hi-fQ items.size 0 lo)).toArray.size<=sizeLine;rw[UX,Yr,Ys,Vl];omega
 have hj:fQ items.size items.size hi<=items.size:=Nt _ _ (UJ _) hi;obtain⟨os,hos,hcs,hds⟩:=id hs;have hTs:s.TypeIs (.ref sl) "slice" := ⟨os,hos,hcs⟩;unfold getItem
 try with_reducible refine U7 ?_
 first|refine UE (UH ?_)|skip
 refine UE (wpAny_sequenceKey ht.typeIs #[5] ?_)
 refine UE (Vm (name:=Str.ofString "__getitem__") ht.typeIs Vv
  (Vc Vv ht.typeIs entry_tuple_getitem ?_ (args_tuple_getitem _ _)))
 show wpAny _ _ (Builtin.Tuple.tupleItemsOf (.ref t) >>= _) _ _ s;refine UE (tupleItemsOf_ ht ?_);refine UE (WW hTs ?_);rw[if_pos #[5]];refine UE (jI hs pl pu ?_);have hno:¬ ((((fQ items.size 0 lo:Nat):Int)==0&&(1:Int)==1&&(fQ items.size items.size hi-fQ items.size 0 lo)==items.size)=true):=by intro q;rw[UI,UI]at q;have q1:((fQ items.size 0 lo:Nat):Int)=0:=eq_of_beq q.1.1;have q2:fQ items.size items.size hi-fQ items.size 0 lo=items.size:=eq_of_beq q.2;exact hw ⟨by omega,by omega⟩
 show wpAny _ _ (if(((fQ items.size 0 lo:Nat):Int)==0&&(1:Int)==1&&(fQ items.size items.size hi-fQ items.size 0 lo)==items.size)=true then _ else _) _ _ s;rw[if_neg hno,GY]
 first
  |exact UE (m:=Builtin.Tuple.tupleExact _) (Vw (UH ⟨_,rfl,UH h⟩) htake)
  |exact UE (m:=Builtin.Tuple.tupleExact _) (Vw (UE (UH (UH ⟨_,rfl,UH h⟩))) htake)
  |exact UE (UE (m:=Builtin.Tuple.tupleExact _) (Vw (UH (UH ⟨_,rfl,UH h⟩)) htake))
  |exact UE (UE (m:=Builtin.Tuple.tupleExact _) (Vw (UH ⟨_,rfl,UH h⟩) htake))
end
end HT
namespace L2
open PySem PySem.Spec PyProof.Rows
noncomputable abbrev TO:=St->Hp->(Option Int->Hp->Prop)->Prop
noncomputable def PO(X:Cx)(e:Option Expr)(t:TO):Prop:=
 ∀(pins:Yx) (s:YO) (σ:St) (H:Hp) (Q:Option Int->Hp->Prop),#[11]->t σ H Q ->
  wpAny #[12] X.A (evalPart e X.env) (λu s'=>∃o H',Inv X pins σ H' s'/\IsPart u o/\Q o H') X.xe s
noncomputable def JX:TO:=λ_ H Q=>Q none H
noncomputable def P5(t:TE):TO:=λσ H Q=>t σ H λx H1=>∃i,x=.int i/\Q (some i) H1
section
variable {X:Cx} {e:Expr} {te:TE} {lo hi:Option Expr} {tl th:TO} {pos p2:Pos}
theorem JY:PO X none JX:=by intro pins s σ H Q I h;exact UH ⟨none,H,I,.none,h⟩
theorem JZ(h:PE X e te):PO X (some e) (P5 te):=by intro pins s σ H Q I hw;refine cU (h pins s σ H _ I hw) λu s1 ⟨x,H1,I1,r1,q1⟩=>?_;obtain⟨i,rfl,q⟩:=q1;obtain⟨t,rfl⟩:=r1;exact⟨some i,H1,I1,.int i t,q⟩
noncomputable def Pk(X:Cx)(r:V->Option Int->Option Int->Hp->VK->Prop):Prop:=
 ∀(pins:Yx) (s:YO) (σ:St) (H:Hp) (x:V) (v vl vu:Value) (lo hi:Option Int) (sl:Addr) (Q:VK),#[11]->RelV x v->s.heap.IsSliceOf sl vl vu .none->IsPart vl lo->IsPart vu hi->r x lo hi H Q ->
  ∃T id,typeLookup (.type T) "__getitem__" = pure (some (.builtin id))/\s.TypeIs v T/\wpAny #[12] X.A (getItem v (.ref sl)) (EP X pins σ Q) X.xe s
noncomputable def Ui(r:V->Option Int->Option Int->Hp->VK->Prop)(te:TE)(tl th:TO):TE:=λσ H Q=>te σ H λx H1=>tl σ H1 λl H2=>th σ H2 λu H3=>r x l u H3 Q
theorem Ag(hr:Pk X r)(he:PE X e te)(hl:PO X lo tl)(hu:PO X hi th):PE X (.Subscript e (.Slice lo hi none p2) pos) (Ui r te tl th):=by intro pins s σ H Q I h;refine Subscript_ (cU (he pins s σ H _ I h) λv s1 ⟨x,H1,I1,r1,q1⟩=>?_);refine wpAny_Slice (cU (hl pins s1 σ H1 _ I1 q1) λvl s2 ⟨l,H2,I2,pl,q2⟩=>cU (hu pins s2 σ H2 _ I2 q2) λvu s3 ⟨u,H3,I3,pu,q3⟩=>?_);refine UH ?_;have I4:Inv X pins σ H3 {s3 with heap:=s3.heap.push {cls:=.type "slice",data:=.fields #[vl,vu,.none]}}:=I3.kept λb ob q=>UG _ q;obtain⟨T,id,hT,ht,hg⟩:=hr pins {s3 with heap:=s3.heap.push {cls:=.type "slice",data:=.fields #[vl,vu,.none]}} σ H3 x v vl vu l u s3.heap.objs.size Q I4 r1 (Heap.IsSliceOf.new ..) pl pu q3;exact tail_any ht hT hg #[7]
noncomputable def Ah(xs:List V)(lo hi:Option Int):List V:=(xs.drop (HT.fQ xs.length 0 lo)).take (HT.fQ xs.length xs.length hi-HT.fQ xs.length 0 lo)
theorem sQ(xs:List V)(lo hi:Option Int):(Ah xs lo hi).length<=xs.length:=by
 grind[Ah,List.length_take,List.length_drop]
noncomputable def Sf(K:YE):V->Option Int->Option Int->Hp->VK->Prop:=λx lo hi H Q=>∃a xs,x=.ref a/\gm K H a xs /\
 ¬ (HT.fQ xs.length 0 lo=0/\HT.fQ xs.length xs.length hi=xs.length)/\∀p,H p=none->Q (.ref p) (upd H p (.tup (Ah xs lo hi)))
theorem Nu:Pk X (Sf X.K):=by intro pins s σ H x v vl vu lo hi sl Q I rx hs pl pu h;obtain⟨a,xs,rfl,hx,hw,q⟩:=h;cases rx;obtain⟨its,r,ht,hz⟩:=I.tuple hx;have hlen:its.toArray.size=xs.length:=r.length.symm;refine⟨"tuple",_,Vv.lookup,ht.typeIs,?_⟩;refine HT.qc ht hs pl pu (by grind) ?_ (by simp_all);rw[hlen];refine⟨.ref #[10],_,I.laid (λb ob q=>UG _ q) (UJ _) ?_,rfl,q _ (I.hok.fresh (UJ _))⟩;exact⟨UP (sQ xs lo hi) hz,_,(r.drop _).take _,IsTup.new _ _⟩
noncomputable def P6(K:YE):R2:=λx y H Q=>∃a b xs ys,x=.ref a/\y=.ref b/\gm K H a xs/\gm K H b ys/\xs≠[]/\xs.length+ys.length<=sizeLine /\
 (ys=[]->Q (.ref a) H)/\(ys≠[]->∀p,H p=none->Q (.ref p) (upd H p (.tup (xs++ys))))
theorem Vals.yF(r:Vals xs us):us=[]<->xs=[]:=by
 cases r with
 |nil=>simp
 |cons _ _=>simp
theorem J0:iX X (binaryOp .Add) (P6 X.K):=by intro pins s σ H x y v u Q I rx ry h;obtain⟨a,b,xs,ys,rfl,rfl,ha,hb,hx,hz,q1,q2⟩:=h;cases rx;cases ry;obtain⟨its,r1,p1,_⟩:=I.tuple ha;obtain⟨its2,r2,p2,_⟩:=I.tuple hb;refine HT.JW p1 p2 (λz=>hx (r1.yF.mp z)) (λz=>⟨.ref a,H,I,rfl,q1 (r2.yF.mp z)⟩) (λz=>?_) (by grind[r1.length,r2.length]);refine⟨.ref #[10],_,I.laid (λb ob q=>UG _ q) (UJ _) ?_,rfl,q2 (λw=>z (r2.yF.mpr w)) _ (I.hok.fresh (UJ _))⟩;exact⟨by simp_all,_,r1.append r2,IsTup.new _ _⟩
end
noncomputable def xJ(n:Nat)(i:Int):Option Nat:=if 0<=i then(if i<n then some i.toNat else none)else if -(n:Int)<=i then some (i+n).toNat else none
noncomputable def lL{α:Type}(xs:List α)(i:Int):Option α:=(xJ xs.length i).bind λj=>xs[j]?
theorem DD(h:xJ n i=some j):seqIndex? i n=some j/\j<n/\-(n:Int)<=i/\i<n:=by
 unfold xJ at h;by_cases h0:0<=i
 ·rw[if_pos h0]at h;by_cases h1:i<n
  ·rw[if_pos h1]at h;have e:i.toNat=j:=VL h;exact⟨by rw[seqIndex_of h0 h1,e],by omega,by omega,h1⟩
  grind
 ·rw[if_neg h0]at h;by_cases h1:-(n:Int)<=i
  ·rw[if_pos h1]at h;have e:(i+n).toNat=j:=VL h;exact⟨by rw[seqIndex_neg #[4] h1,e],by omega,h1,by omega⟩
  grind
theorem DF(h:lL xs i=some v):∃j,seqIndex? i xs.length=some j/\xs[j]?=some v/\j<xs.length/\-(xs.length:Int)<=i/\i<xs.length:=by
 unfold lL at h
 cases e:xJ xs.length i with
 |none=>simp_all
 |some j=>
  obtain⟨h1,h2,h3,h4⟩:=DD e
  simp_all
theorem j8{j:Nat}{v:α}(h:xs[j]?=some v):lL xs (j:Int)=some v:=by
 have hj  := (UM.mp h).1
 simp_all[xJ,lL]
noncomputable def DH(b:Expr):Prop:=∀o i,subscripted b false o i=operate [o,i] (getItem o i)
noncomputable def Pl(X:Cx)(r:R2):Prop:=
 ∀(value slice:Expr) (pins:Yx) (s:YO) (σ:St) (H:Hp) (x y:V) (v u:Value) (Q:VK),#[11]->RelV x v->RelV y u->r x y H Q ->
  subscripted slice false v u=operate [v,u] (getItem v u)->wpAny #[12] X.A (subscriptTail value slice v u) (EP X pins σ Q) X.xe s
noncomputable def Uj(X:Cx)(id:String)(r:V->List V->Hp->VK->Prop):Prop:=
 ∀(pins:Yx) (s:YO) (σ:St) (H:Hp) (x:V) (xs:List V) (v:Value) (us:YD) (Q:VK),#[11]->RelV x v->Vals xs us->r x xs H Q ->
  wpAny #[12] X.A (call (.builtin id) (v::us)) (EP X pins σ Q) X.xe s
section
variable {X:Cx} {a b:Expr} {ta tb:TE} {pos:Pos}
theorem L8(hr:Pl X r)(ha:PE X a ta)(hb:PE X b tb)(hs:DH b):PE X (.Subscript a b pos) (Pj r ta tb):=by intro pins s σ H Q I h;exact Subscript_ (Na ha hb I h λv u s2 x y H2 I2 rx ry q=>hr a b pins s2 σ H2 x y v u Q I2 rx ry q (hs _ _))
noncomputable def Sg(K:YE):R2:=λx y H Q=>∃p xs i v,x=.ref p/\y=.int i/\gY K H p xs/\lL xs i=some v/\Q v H
noncomputable def Sh(K:YE):R2:=λx y H Q=>∃p xs i v,x=.ref p/\y=.int i/\gm K H p xs/\lL xs i=some v/\Q v H
theorem uj:Pl X (Sg X.K):=by
 intro value slice pins s σ H x y v u Q I rx ry h hs;obtain⟨p,xs,i,z,rfl,rfl,hq,he,q⟩:=h;cases rx;obtain⟨t,rfl⟩:=ry;obtain⟨its,r,pl,hz⟩:=I.list hq;obtain⟨j,h1,h2,h3,h4,h5⟩:=DF he;obtain⟨w,ew,rw'⟩:=r.get h2;have hl:=r.length;have hn:=uJ;have fin:EP X pins σ Q w s:=⟨z,H,I,rw',q⟩;by_cases h0:0<=i
 ·have hj:i.toNat=j:=by
   simp_all[seqIndex_of,h0,h5]
  exact item_listR pl.isList h0 #[4] (by grind) fin hs
 ·have hj:(i+(its.toArray.size:Int)).toNat=j:=by
   rw[seqIndex_neg #[4] h4]at h1;rw[UX,<- hl];exact VL h1
  exact subscriptTail_builtinR (x:=w) pl.isList.typeIs slot_list_getitem.lookup
   (wpAny_getItem_list_neg (Q:=λr s'=>r=w/\EP X pins σ Q r s') pl.isList #[4] (by rw[UX]<;>omega) #[4] (by rw[hj];simpa using ew) ⟨rfl,fin⟩) hs
theorem Nv:Pl X (Sh X.K):=by
 intro value slice pins s σ H x y v u Q I rx ry h hs;obtain⟨p,xs,i,z,rfl,rfl,hq,he,q⟩:=h;cases rx;obtain⟨t,rfl⟩:=ry;obtain⟨its,r,pl,hz⟩:=I.tuple hq;obtain⟨j,h1,h2,h3,h4,h5⟩:=DF he;obtain⟨w,ew,rw'⟩:=r.get h2;have hl:=r.length;have hn:=uJ;have fin:EP X pins σ Q w s:=⟨z,H,I,rw',q⟩
 exact subscriptTail_builtinR pl.typeIs slot_tuple_getitem.lookup
  (getItem_tuple (j:=j) pl #[4] #[4] (by grind) (by grind) ⟨rfl,fin⟩) hs
theorem B9(its:YD)(n j:Nat)(u:Value):Obj.mapSeq (·.setIfInBounds j u) {cls:=.type "list",data:=.seq its.toArray n}={cls:=.type "list",data:=.seq (its.set j u).toArray n}:=by simp[Obj.mapSeq]
theorem Inv.lst{σ:St}(I:#[11])(h:H p=some (.lst xs)) :
  ∃(its:YD) (n:Nat),Vals xs its/\s.heap.get? p=some {cls:=.type "list",data:=.seq its.toArray n}/\xs.length<=sizeLine:=by
 obtain⟨z,its,n,r,e⟩:=I.hok p _ h
 simp_all
theorem Inv.Nw{σ:St}{its its':YD}(I:#[11])(h:H p=some (.lst xs))
 (ho:s.heap.get? p=some {cls:=.type "list",data:=.seq its.toArray n})(hf:f {cls:=.type "list",data:=.seq its.toArray n}={cls:=.type "list",data:=.seq its'.toArray n'})(r:Vals ys its')(hz:ys.length<=sizeLine)(t:Nat) :
  Inv X pins σ (upd H p (.lst ys)) {s with heap:=s.heap.update p f,toks:=t}:=by
 have e:(s.heap.update p f).get? p=some {cls:=.type "list",data:=.seq its'.toArray n'}:=by rw[V0 f ho (by rw[hf]<;>rfl),hf]
 refine I.write (by rw[h];trivial) (.inl rfl) (λb u hb q=>(WN _ _ (X9 hb)).trans q) ⟨_,e⟩ ?_;exact⟨hz,its',n',r,e⟩
noncomputable def L9:V->V->V->Hp->(Hp->Prop)->Prop:=λo i v H Q=>∃p xs k j,o=.ref p/\i=.int k/\H p=some (.lst xs)/\xJ xs.length k=some j/\Q (upd H p (.lst (xs.set j v)))
theorem set_list:M4 X L9:=by
 intro pins s σ H o i v ov iv u Q I ro ri rv h;obtain⟨p,xs,k,j,rfl,rfl,hp,hj,q⟩:=h;cases ro;obtain⟨t,rfl⟩:=ri;obtain⟨its,n,r,ho,hz⟩:=I.lst hp;obtain⟨h1,h2,h3,h4⟩:=DD hj;have hl:=r.length;have hn:=uJ
 have I':Inv X pins σ (upd H p (.lst (xs.set j v))) {s with heap:=s.heap.update p (Obj.mapSeq (·.setIfInBounds j u))}:=
  I.Nw hp ho (B9 its n j u) (r.set rv j) (by grind) s.toks
 by_cases h0:0<=k
 ·have hk:k.toNat=j:=by
   simp_all[seqIndex_of,h0,h4]
  exact PySem.W.ki_setAt ho h0 #[4] (by grind) (by rw[hk];exact⟨_,I',q⟩)
 ·have hk:(k+(its.toArray.size:Int)).toNat=j:=by
   rw[seqIndex_neg #[4] h3]at h1;rw[UX,<- hl];exact VL h1
  exact PySem.W.ki_setBack ho #[4] (by rw[UX,<- hl];exact h3) #[4] (by rw[hk];exact⟨_,I',q⟩)
theorem yG(lo hi:Option Int)(n:Nat):(sliceBounds lo hi none n).1=((HT.fQ n 0 lo:Nat):Int)/\(sliceBounds lo hi none n).2.1=((HT.fQ n n hi:Nat):Int)/\(sliceBounds lo hi none n).2.2=1:=by
 refine⟨?_,?_,rfl⟩
 ·cases lo with
  |none=>rfl
  |some i=>
   simp only[sliceBounds,HT.fQ,Option.getD_none,show(1:Int)>0 by decide,VT];by_cases h:i<0
   ·simp only[h,VT]<;>omega
   grind
 ·cases hi with
  |none=>rfl
  |some i=>
   simp only[sliceBounds,HT.fQ,Option.getD_none,show(1:Int)>0 by decide,VT];by_cases h:i<0
   ·simp only[h,VT]<;>omega
   ·simp only[h,Vu]<;>omega
theorem w6(its:YD)(lo hi:Option Int):slicePick its.toArray lo hi none=((its.drop (HT.fQ its.length 0 lo)).take (HT.fQ its.length its.length hi-HT.fQ its.length 0 lo)).toArray:=by obtain⟨h1,h2,h3⟩:=yG lo hi its.toArray.size;unfold slicePick;rw[h1,h2,h3];simp only[sliceRange_one,pick_run]<;>rfl
noncomputable def Si(K:YE):V->Option Int->Option Int->Hp->VK->Prop:=λx lo hi H Q=>∃a xs,x=.ref a/\gY K H a xs/\∀p,H p=none->Q (.ref p) (upd H p (.lst (Ah xs lo hi)))
theorem DJ:Pk X (Si X.K):=by intro pins s σ H x v vl vu lo hi sl Q I rx hs pl pu h;obtain⟨a,xs,rfl,hx,q⟩:=h;cases rx;obtain⟨its,r,ht,hz⟩:=I.list hx;have hlen:=r.length;refine⟨"list",_,slot_list_getitem.lookup,ht.isList.typeIs,?_⟩;refine wpAny_getItem_list_slice ht.isList hs pl pu .none #[6] ?_ (by grind);rw[w6,<- hlen];refine⟨.ref #[10],_,I.laid (λb ob q=>UG _ q) (UJ _) ?_,rfl,q _ (I.hok.fresh (UJ _))⟩;exact⟨UP (sQ xs lo hi) hz,_,0,(r.drop _).take _,UK _ rfl⟩
theorem cY.or(h:cY X f r)(h':cY X f r'):cY X f (λxs H Q=>r xs H Q\/r' xs H Q):=by
 intro pins s σ H xs us Q I rs q;rcases q with q|q
 ·exact h pins s σ H xs us Q I rs q
 ·exact h' pins s σ H xs us Q I rs q
theorem yH:cY X (.type "list") (λxs H Q=>∃p ys,xs=[.ref p]/\(gY X.K H p ys\/gm X.K H p ys)/\∀l,H l=none->Q (.ref l) (upd H l (.lst ys))):=by
 intro pins s σ H xs us Q I r h;obtain⟨p,ys,rfl,hq,q⟩:=h;obtain⟨u,rfl,rx⟩:=vals1 r;cases rx
 have fin:∀(its:YD),Vals ys its->ys.length<=sizeLine->∀(h':Heap) (c':Nat),_ ->
   h'.get? #[10]=some {cls:=.type "list",dict:=none,data:=.seq its.toArray c',slots:=#[]}->EP X pins σ Q _ {s with heap:=h'}:=λits r' hz h' c' kp e=>
  ⟨.ref #[10],_,I.laid kp (UJ _) (show cC X.prog X.w _ h' _ (.lst ys)from⟨hz,its,c',r',e⟩),rfl,q _ (I.hok.fresh (UJ _))⟩
 rcases hq with hq|hq
 ·obtain⟨its,r',pl,hz⟩:=I.list hq;have hlen:=r'.length;obtain⟨o,ho,hc,n,hd⟩:=pl.isList;exact call_list_seq p (.inl rfl) ho hc hd (λh' c' kp e=>fin its r' hz h' c' kp e) (by grind)
 ·obtain⟨its,r',pl,hz⟩:=I.tuple hq;have hlen:=r'.length;obtain⟨o,ho,hc,n,hd⟩:=pl;exact call_list_seq p (.inr rfl) ho hc hd (λh' c' kp e=>fin its r' hz h' c' kp e) (by grind)
theorem w9:cY X (.type "tuple") (λxs H Q=>∃p ys,xs=[.ref p]/\((gY X.K H p ys/\∀l,H l=none->Q (.ref l) (upd H l (.tup ys)))\/(gm X.K H p ys/\Q (.ref p) H))):=by
 intro pins s σ H xs us Q I r h;obtain⟨p,ys,rfl,h⟩:=h;obtain⟨u,rfl,rx⟩:=vals1 r;cases rx;rcases h with⟨hq,q⟩|⟨hq,q⟩
 ·obtain⟨its,r',pl,hz⟩:=I.list hq;have hlen:=r'.length;refine call_tuple_list pl.isList (λh' kp=>?_) (by grind);have I1:Inv X pins σ H {s with heap:=h'}:=I.kept kp
  have I2:Inv X pins σ (upd H h'.objs.size (.tup ys)) {s with heap:=h'.push {cls:=.type "tuple",data:=.seq its.toArray}}:=
   I1.laid (λb o e=>UG _ e) (UJ _) (⟨hz,its,r',IsTup.new _ _⟩)
  exact⟨.ref h'.objs.size,_,I2,rfl,q _ (I1.hok.fresh (UJ _))⟩
 ·obtain⟨its,r',pl,hz⟩:=I.tuple hq;exact call_tuple_same pl ⟨.ref p,H,I,rfl,q⟩
noncomputable def TF(K:YE)(T:String)(x:V)(H:Hp):Prop:=match x with
 |.str _=>T = "str"
 |.int _=>T = "int"
 |.ref p=>(T = "list" /\ ∃xs,gY K H p xs)\/(T = "tuple" /\ ∃o,K.lookup p=some o/\o.cls=.type "tuple" /\ o.dict=none) \/
   (T = "dict" /\ ((∃kvs,H p=some (.dK kvs))\/∃kvs,H p=some (.dT kvs)))\/(T = "set" /\ ∃S n,H p=some (.set S n))
 |_=>False
theorem Ny{σ:St}(I:#[11])(r:RelV x v)(ty:TF X.K T x H) :
  s.TypeIs v T/\∀a,v=.ref a->∃ob,s.heap.get? a=some ob/\ob.dict=none:=by
 cases x with
 |str z=>obtain⟨t,rfl⟩:=r;cases(show T = "str" from ty);exact⟨typeIs_str s z t,λ_ e=>nomatch e⟩
 |int i=>obtain⟨t,rfl⟩:=r;cases(show T = "int" from ty);exact⟨typeIs_int s i t,λ_ e=>nomatch e⟩
 |ref p=>
  cases r;rcases ty with⟨rfl,xs,hq⟩|⟨rfl,o,hk,hc,hd⟩|⟨rfl,hk⟩|⟨rfl,S,n,hk⟩
  ·obtain⟨its,_,pl,_⟩:=I.list hq;refine⟨pl.isList.typeIs,λa e=>?_⟩;cases e;obtain⟨o,n,e,c,hd,_⟩:=pl
   grind
  ·refine⟨⟨o,I.sP p o hk,hc⟩,λa e=>?_⟩;cases e;exact⟨o,I.sP _ o hk,hd⟩
  ·have z:∃o,s.heap.get? p=some o/\o.ExactDict:=by
    rcases hk with⟨kvs,hk⟩|⟨kvs,hk⟩
    ·obtain⟨_,_,_,_,o,_,_,e,ex,_⟩:=I.hok p _ hk
     grind
    ·obtain⟨_,_,_,_,o,_,_,e,ex,_⟩:=I.hok p _ hk;exact⟨o,e,ex⟩
   obtain⟨o,e,ex⟩:=z;refine⟨⟨o,e,ex.1⟩,λa e2=>?_⟩;cases e2;exact⟨o,e,ex.2.1⟩
  ·obtain⟨o,_,_,_,e,ex,_⟩:=I.hok p _ hk;refine⟨⟨o,e,ex.1⟩,λa e2=>?_⟩;cases e2;exact⟨o,e,ex.2.1⟩
 |_=>exact False.elim ty
noncomputable def TH(K:YE)(T:String)(r:V->List V->Hp->VK->Prop)(to:TE)(t:TA):TE:=λσ H Q=>to σ H λx H1=>TF K T x H1/\t σ H1 λxs H2=>r x xs H2 Q
variable {o e:Expr} {es:YG} {to:TE} {t:TA} {name:Str} {apos cpos:Pos} {T id:String} {r:V->List V->Hp->VK->Prop}
theorem GZ(pa:PlainAttrs T)(slot:Slot T name id)(hty:typeOf (.builtin id)=pure (.type "method_descriptor"))(hm:Uj X id r)(ho:PE X o to)(ha:PA X (e::es) t)
 (hbase:attributeBase o name X.env (eval o X.env)=eval o X.env:=by rfl)
 (hfew:((backTo cpos (starEach (e::es) X.env)).all (λx=>!x.1)&&(backToKw cpos (keywordEach [] X.env)).all (λx=>x.1.isSome)
   && decide ((e::es).length+([]:List Keyword).length+(if([]:List Keyword).isEmpty then 0 else 1)<30))=true:=by rfl)
 (hline:(apos.endLine==cpos.line)=true:=by rfl)(hs:#[2]:=by rfl)(hplain:(backTo cpos (starEach es X.env)).any (·.1)=false:=by rfl) :
  PE X (.Call (.Attribute o name apos) (e::es) [] cpos) (TH X.K T r to t):=by
 intro pins s σ H Q I h;refine wpAny_Call_method_late hbase hfew hline rfl (cU (ho pins s σ H _ I h) λv s1 ⟨x,H1,I1,r1,ty,q1⟩=>?_);obtain⟨h1,h2⟩:=Ny I1 r1 ty;refine⟨T,id,pa,slot,hty,h1,h2,?_⟩;have hA:=ha cpos pins s1 σ H1 _ I1 q1;rw[hs]at hA ⊢;refine Calls.callWith_builtin (by simp_all) (Calls.evalArgs_plain ?_);exact cU hA (by rintro us s2 ⟨vs,H2,I2,r2,q2⟩;exact hm pins s2 σ H2 x vs v us Q I2 r1 r2 q2)
end
noncomputable def Sj(X:Cx)(id:String)(r:V->List V->Hp->VK->Prop):Prop:=
 ∀(pins:Yx) (s:YO) (σ:St) (H:Hp) (x:V) (xs:List V) (v:Value) (us:YD) (Q:VK),#[11]->RelV x v->Vals xs us->r x xs H Q ->
  wpAny #[12] X.A (call (.builtin id) (v::us)) (EP X pins σ Q) X.xe s
theorem Vals.one:∀{x:V} {us:YD},Vals [x] us->∃u,us=[u]/\RelV x u
 |_,_,.cons r .nil=>⟨_,rfl,r⟩
theorem Vals.eraseIdx:∀{xs:List V} {us:YD} (i:Nat),Vals xs us->Vals (xs.eraseIdx i) (us.eraseIdx i)
 |_,_,_,.nil=>.nil
 |_,_,0,.cons _ t=>t
 |_,_,i+1,.cons r t=>.cons r (Vals.eraseIdx i t)
theorem Vals.rep(h:Vals xs us):∀k:Nat,Vals (List.replicate k xs).flatten (List.replicate k us).flatten
 |0=>.nil
 |k+1=>Vals.append h (Vals.rep h k)
theorem foldl_rep(its:YD):∀(k:Nat) (acc:YD),
  List.foldl (λx1 x2=>x1++x2) acc.toArray (List.replicate k its.toArray)=(acc++(List.replicate k its).flatten).toArray
 |0,acc=>by simp
 |k+1,acc=>by
  have e:acc.toArray++its.toArray=(acc++its).toArray:=by simp
  have e2:(acc++its)++(List.replicate k its).flatten=acc++(List.replicate (k+1) its).flatten:=by
   grind
  rw[<- e2,<- foldl_rep its k _,<- e,List.replicate_succ,List.foldl_cons]
section
variable {X:Cx} {pins:Yx} {σ:St} {H:Hp} {s:YO} {l b:Addr} {xs ys zs:List V}
theorem Inv.P7{its its':YD}(I:#[11])(hH:H l=some (.lst xs))
 (e:s.heap.get? l=some {cls:=.type "list",data:=.seq its.toArray n})(hf:f its.toArray=its'.toArray)(hv:Vals ys its')(hz:ys.length<=sizeLine) :
  Inv X pins σ (upd H l (.lst ys)) {s with heap:=s.heap.update l (Obj.mapSeq f),toks:=t'}:=by
 have q:=PySem.IsL.update e f;rw[hf]at q;refine I.write (by rw[hH];exact trivial) (.inl rfl) (λb' u hb hu=>(WN s.heap _ (X9 hb)).trans hu) ⟨_,q⟩ ?_;exact⟨hz,its',_,hv,q⟩
theorem Inv.P8(I:#[11])(hv:Vals ys its)(hz:ys.length<=sizeLine) :
  Inv X pins σ (upd H #[10] (.lst ys)) {s with heap:=s.heap.push {cls:=.type "list",data:=.seq its.toArray},toks:=t'}:=
 I.laid (λ_ _ q=>UG _ q) (UJ _) ⟨hz,its,0,hv,UK _ rfl⟩
theorem Inv.fresh(I:#[11]):H #[10]=none:=I.hok.fresh (UJ _)
theorem Inv.Ai(I:#[11])(hH:H l=some (.lst xs)):xs.length<=sizeLine/\∃(its:YD) (n:Nat),Vals xs its/\xs.length=its.length/\s.heap.get? l=some {cls:=.type "list",data:=.seq its.toArray n}:=by obtain⟨z,its,n,r,e⟩:=I.hok l _ hH;exact⟨z,its,n,r,r.length,e⟩
theorem Aj(h:n<=sizeLine):Builtin.List.listTooLong n=false:=by
 grind[Builtin.List.listTooLong]
end
section
variable {X:Cx}
noncomputable def Nz:V->List V->Hp->VK->Prop:=λx vs H Q=>∃l xs i k y,x=.ref l/\vs=[.int i]/\H l=some (.lst xs)/\-(2^63)<=i/\i<2^63/\seqIndex? i xs.length=some k/\xs[k]?=some y/\Q y (upd H l (.lst (xs.eraseIdx k)))
theorem G0:Sj X "list.pop" Nz:=by
 intro pins s σ H x vs v us Q I rx rv h;obtain⟨l,xs,i,k,y,rfl,rfl,hH,h1,h2,hk,hy,q⟩:=h;cases rx;obtain⟨u,rfl,ru⟩:=rv.one;obtain⟨t,rfl⟩:=ru;obtain⟨z,its,n,r,hl,e⟩:=I.Ai hH;obtain⟨w,hw,rw'⟩:=r.get hy
 refine WM F.slot_list_pop ⟨_,e,rfl⟩ F.entry_list_pop (F.args_list_pop_2 _ _)
  (MeetsSeq.list_pop_at l its.toArray n i t k w (fitsIndex_both h1 h2) (by simp_all) (by simp_all) (by grind)) ⟨e,?_⟩
 refine⟨y,_,I.P7 hH e ?_ (r.eraseIdx k) ?_,rw',q⟩
 ·grind
 ·grind
noncomputable def Sk:R2:=λx y H Q=>∃l b xs zs,x=.ref l/\y=.ref b/\H l=some (.lst xs)/\H b=some (.lst zs)/\xs.length+zs.length<=sizeLine/\∀p,H p=none->Q (.ref p) (upd H p (.lst (xs++zs)))
theorem uL:iX X (binaryOp .Add) Sk:=by
 intro pins s σ H x y v u Q I rx ry h;obtain⟨l,b,xs,zs,rfl,rfl,hH,hB,hz,q⟩:=h;cases rx;cases ry;obtain⟨z,its,n,r,hl,e⟩:=I.Ai hH;obtain⟨z2,its2,n2,r2,hl2,e2⟩:=I.Ai hB;refine PySem.P.add_list e e2 ?_ (by grind);have ea:its.toArray++its2.toArray=(its++its2).toArray:=by simp
 rw[ea];exact⟨.ref _,_,I.P8 (r.append r2) (by grind),rfl,q _ I.fresh⟩
noncomputable def Sl:R2:=λx y H Q=>∃l k xs,x=.ref l/\y=.int k/\H l=some (.lst xs)/\-(2^63)<=k/\k<2^63/\xs.length*k.toNat<=sizeLine /\
 ∀p,H p=none->Q (.ref p) (upd H p (.lst (List.replicate k.toNat xs).flatten))
theorem len_rep{α:Type}(xs:List α)(k:Nat):(List.replicate k xs).flatten.length=k*xs.length:=by simp
theorem NA:iX X (binaryOp .Mult) Sl:=by
 intro pins s σ H x y v u Q I rx ry h;obtain⟨l,k,xs,rfl,rfl,hH,h1,h2,hz,q⟩:=h;cases rx;obtain⟨t,rfl⟩:=ry;obtain⟨z,its,n,r,hl,e⟩:=I.Ai hH;have hlen:its.toArray.size*k.toNat<=sizeLine:=by grind
 have hcap:¬ its.toArray.size*k.toNat>(2^63-1) / 8:=by
  have:(sizeLine:Nat)<=(2^63-1) / 8:=by decide
  omega
 have hfit:¬ (!Builtin.List.listFitsIndex k)=true:=by
  simp_all[fitsIndex_both,h1,h2]
 have hlong:¬ Builtin.List.listTooLong (its.toArray.size*k.toNat)=true:=by
  simp_all[Aj,hlen]
 have hnew:List.foldl (λx1 x2=>x1++x2) #[] (List.replicate (if its.toArray.isEmpty=true then 0 else k.toNat) its.toArray)=(List.replicate k.toNat its).flatten.toArray:=by
  have f0:∀m:Nat,List.foldl (λx1 x2=>x1++x2) #[] (List.replicate m its.toArray)=(List.replicate m its).flatten.toArray:=λm=>by have:=foldl_rep its m [];rw[Ww]at this;exact this
  rw[f0]
  cases its with
  |nil=>simp
  |cons a r'=>rw[if_neg #[6]]
 refine wpAny_binaryOp_repeat_ref (T := "list") (U := "int") #[5] ⟨_,e,rfl⟩ (λs'=>typeIs_int s' k t) noFill_list_mul F.fills_int_mul F.slot_int_rmul repeat_list F.slot_int_index.lookup
  (WM F.slot_int_rmul (typeIs_int s k t) F.entry_int_rmul (F.args_int_rmul_2 _ _) (int___rmul___int_list k t l its.toArray n)
   ⟨e,rfl,⟨_,e,rfl⟩,WM F.slot_list_mul ⟨_,e,rfl⟩ F.entry_list_mul (F.args_list_mul_2 _ _) (AutoListH.list___mul___list_int_3 l its.toArray n k t hfit hcap hlong) ⟨e,?_⟩⟩)
 rw[hnew];exact⟨.ref _,_,I.P8 (t':=s.toks) (r.rep k.toNat) (by rw[len_rep,Nat.mul_comm];exact hz),rfl,q _ I.fresh⟩
end
end L2
namespace Att
open PySem PySem.W PySem.Calls PyProof.Rows
theorem tZ:∀(ns:List Int) (vs:YD),WellAll P h vs (ns.map WData.int)->IntsAre vs ns:=by
 intro ns
 induction ns with
 |nil=>intro vs w;cases w;exact .nil
 |cons n ns ih=>
  intro vs w
  cases w with
  |cons a b=>cases a;exact .cons _ _ (ih _ b)
theorem Fg{l:OpenLaw}(hn:l.most=some n)
 (hpre:l.row.toRowW.claim.pre args=true)(hwl:WellAll P h vals args) :
  ∃a vs ns,vals=[Value.ref a]/\args=[WData.list (ns.map WData.int)]/\h.get? a=some {cls:=.type "list",data:=.seq vs.toArray}/\IntsAre vs ns/\ns.length<=n:=by
 have hsh  := (pre_splitW hpre).1;have hc:l.pre.holds [] {args:=args}=true:=(pre_splitW hpre).2;obtain⟨d,r,rfl,h1,h2⟩:=hasAllW_cons hsh;obtain rfl:=hasAllW_nil h2;obtain⟨xs,rfl,h3⟩:=hasW_list h1;obtain⟨ns,rfl⟩:=items_int h3
 have hlen:ns.length<=n:=by
  have h4:(WTm.not (.lt (.lit (.int (n:Int))) (.len (.arg 0)))).holds [] {args:=[.list (ns.map .int)]}=true:=by
   have h4:=(holds_andW hc).1
   simp_all
  have h5:=condW_of h4 (w_not (w_lt w_lit (w_len_list (w_arg rfl))))
  simp_all
 cases hwl with
 |cons w1 w2=>
  cases w2
  cases w1 with
  |list ho hall=>exact⟨_,_,ns,rfl,rfl,ho,tZ ns _ hall,hlen⟩
theorem Fh(l:OpenLaw)(args:List WData):l.row.toRowW.claim.post args (.bool true) args=true:=
 postW_of
  (show WShape.has [] _ .bool=true by rfl)
  (w_eq_bool (w_res rfl) w_lit) rfl
theorem Ak{l:OpenLaw}
 (hn:l.most=some n)(hdf:d.params.defaults=[])
 (call:∀(w:World) (s₀ s₁:YO) (mg mb:YA) (fa:Addr) (o:Obj) (pm cd doc:Value) (a:Addr) (vs:YD) (ns:List Int),
   Ground q loose [] XP w s₀ mg mb s₁.heap->YP w s₁.heap ->
   s₁.heap.get? fa=some o->o.data=.func (docDef d.name d.params d.body d.scope pm cd doc)->s₁.heap.CodeRec cd d.name->mg d.name=some (.ref fa) ->
   s₁.heap.get? a=some {cls:=.type "list",data:=.seq vs.toArray}->IntsAre vs ns->ns.length<=n->s₁.gens=#[] ->
   codeAny (model l.prog w) callerA (.call (.ref fa) ⟨[.ref a],[]⟩) (λr s'=>r=.ok (.ret (.bool true))/\OldK s₁.heap s'.heap/\s'.os=s₁.os/\AllBare s'.gens) s₁) :
  WalkO q loose XP YP l.row.toRowW d [] (λf vs=>PySem.call f vs):=by
 intro w s₀ s₁ mg mb G Y fa o pm cd doc dV kV ho hd hcd hD hmg hg args vals as hpre hlay hrd hwl hlo;obtain rfl:dV=.none:=Dflts.none hD hdf;obtain rfl:kV=.none:=Dflts.noKw hD;obtain⟨a,vs,ns,rfl,rfl,hobj,hints,hlen⟩:=Fg hn hpre hwl;refine enter_call (WT (call w s₀ s₁ mg mb fa o pm cd doc a vs ns G Y ho (fd_plain hd) hcd hmg hobj hints hlen hg) λr s' hq=>?_);obtain⟨rfl,h2,h3,h4⟩:=hq;exact⟨.inl ⟨.bool true,.bool true,[],rfl,λ_=>rfl,.bool true,Fh l _,λ_=>⟨List.Pairwise.nil,λ_ hm=>(nomatch hm)⟩⟩,h2,h3,h4⟩
end Att
namespace L2
open PySem PySem.Spec PyProof.Rows
theorem xK:∀{vs:YD} {ns:List Int},IntsAre vs ns->Vals (ns.map V.int) vs
 |_,_,.nil=>.nil
 |_,_,.cons n t h=>.cons ⟨t,rfl⟩ (xK h)
end L2
namespace L2
open PySem PySem.Spec PyProof.Rows
noncomputable def fx(s:Stmt):Arguments:=match s with
 |.FunctionDef _ a _ _ _ _ _ _ _ _=>a
 |_=>{posonlyargs:=[],args:=[],vararg:=none,kwonlyargs:=[],kw_defaults:=[],kwarg:=none,defaults:=[]}
noncomputable def cb(s:Stmt):List Stmt:=match s with
 |.FunctionDef _ _ b _ _ _ _ _ _ _=>b
 |_=>[]
noncomputable def au(s:Stmt):Scope:=match s with
 |.FunctionDef _ _ _ _ _ _ sc _ _ _=>sc
 |_=>{kind:=.function,names:=[],isGenerator:=false,isCoroutine:=false}
noncomputable abbrev Fi:JT:=λ_ _ _ _ _ _=>False
noncomputable abbrev E0:XK:=λ_ _ _=>False
structure GB(K:YE)(x qual:Str)(st:Stmt)(f:Addr)(fd:FuncData):Prop where
 ex:∃(oc:Value) (od:Option Addr) (kV doc pm:Value) (an:Option Addr) (cdv ct:Value) (osl:YH),
  fd=PySem.W.fnOf x qual (fx st) (cb st) (au st) .none kV doc pm an cdv ct/\K.lookup f=some ⟨oc,od,.func fd,osl⟩/\PySem.W.codeIn K cdv qual=true
 kp:PySem.W.keepIn K (.ref f)=true
section
variable {P:YL} {w:World} {K:YE} {mg:YA} {base:Heap}
theorem GB.binds{st:Stmt}(F:GB K x qual st f fd)
 (h:∀(kV doc pm:Value) (an:Option Addr) (cdv ct:Value) (us:YD),us.length=ps.length->bindArgs (PySem.W.fnOf x qual (fx st) (cb st) (au st) .none kV doc pm an cdv ct) ⟨us,[]⟩=pure (ps.zip us)):Binds K fd ps []:=by
 obtain⟨oc,od,kV,doc,pm,an,cdv,ct,osl,rfl,lk,hcd⟩:=F.ex;exact .all (h kV doc pm an cdv ct)
theorem yI{st:Stmt}{kV doc pm cdv ct:Value}(l:K.lookup f=some ⟨oc,od,.func (PySem.W.fnOf x qual (fx st) (cb st) (au st) .none kV doc pm an cdv ct),osl⟩)
 (c:PySem.W.codeIn K cdv qual=true)(k:PySem.W.keepIn K (.ref f)=true):GB K x qual st f (PySem.W.fnOf x qual (fx st) (cb st) (au st) .none kV doc pm an cdv ct):=⟨⟨oc,od,kV,doc,pm,an,cdv,ct,osl,rfl,l,c⟩,k⟩
end
section
variable {X:Cx}
theorem pv(i:Nat){pos:Pos}(hN:X.N[i]?=some x:=by rfl)(hv:GD X.env.scope x:=by first|exact Or.inl rfl|exact Or.inr (Or.inl rfl)|exact Or.inr (Or.inr rfl))(hd:(x==("__debug__" : Str))=false:=by decide)
 (hcd:(x==("__classdict__" : Str))=false:=by decide):PE X (.Name x pos) (BY i):=yz hN hv hd hcd
end
theorem NB{A B:Prop}(h:B):if false=true then A else B:=by
 grind
noncomputable def aX(H H':Hp):Prop:=∀b o,H b=some o->H' b=some o
theorem aX.refl(H:Hp):aX H H:=λ_ _ h=>h
theorem aX.trans(a:aX H H1)(b:aX H1 H2):aX H H2:=λc o h=>b c o (a c o h)
theorem aX.free(e:aX H H')(h:H' l=Option.none):H l=Option.none:=by
 cases q:H l with
 |none=>rfl
 |some o=>rw[e l o q]at h;cases h
theorem aX.seq{K:YE}(e:aX H H')(h:gY K H a xs):gY K H' a xs:=by
 rcases h with(h|⟨o,h⟩)|h
 ·exact .inl (.inl (e _ _ h))
 ·exact .inl (.inr ⟨o,e _ _ h⟩)
 ·exact .inr h
noncomputable def dB(cells:List (Str×Addr)):List (Str×NameKind)->List (Str×Addr)->List (Str×Addr)
 | [],acc=>acc
 | (n,k)::r,acc=>if k == .free then dB cells r ((n,(cells.lookup n).getD 0)::acc)else dB cells r acc
theorem o9:∀(names:List (Str×NameKind)) (acc:List (Str×Addr)),(∀n,(n,NameKind.free)∈names->∃c,env.cells.lookup n=some c) ->
  (forIn (m:=Sem) names acc λ(x:Str×NameKind) (cs:List (Str×Addr))=>match x with
   | (name,kind)=>if(kind==NameKind.free)=true then(do let a <- cellOf env name;pure (ForInStep.yield ((name,a)::cs)))else pure (ForInStep.yield cs))=pure (dB env.cells names acc)
 | [],acc,_=>by rfl
 | (n,k)::r,acc,h=>by
  rw[Wd];unfold dB;by_cases hk:(k==NameKind.free)=true
  ·obtain⟨c,hc⟩:=h n (by grind);have e:cellOf env n=pure c:=by simp[cellOf,hc]
   simp only[hk,VT];rw[e,hc];exact o9 r _ λm hm=>h m (UQ _ hm)
  ·simp only[hk];exact o9 r _ λm hm=>h m (UQ _ hm)
theorem jl(h:∀n,(n,NameKind.free)∈scope.names->∃c,env.cells.lookup n=some c):closureFor scope env=pure (dB env.cells scope.names []):=by
 have q:=o9 scope.names [] h
 simp_all[closureFor]
theorem jJ:∀{names:List (Str×NameKind)} {acc:List (Str×Addr)},(x,NameKind.free)∉names->(dB cells names acc).lookup x=acc.lookup x
 | [],_,_=>rfl
 | (n,k)::r,acc,h=>by
  unfold dB;by_cases hk:(k==NameKind.free)=true
  ·rw[if_pos hk,jJ λz=>h (UQ _ z),WJ]
   have:(x==n)=false:=by
    grind
   rw[this]
  ·rw[if_neg hk,jJ λz=>h (UQ _ z)]
theorem eG:∀{names:List (Str×NameKind)} {acc:List (Str×Addr)},(x,NameKind.free)∈names->(dB cells names acc).lookup x=some ((cells.lookup x).getD 0)
 | (n,k)::r,acc,h=>by
  unfold dB;by_cases hr:(x,NameKind.free)∈r
  ·by_cases hk:(k==NameKind.free)=true
   ·rw[if_pos hk];exact eG hr
   ·rw[if_neg hk];exact eG hr
  ·rcases UO.mp h with e|e
   ·cases e;rw[if_pos (show(NameKind.free==NameKind.free)=true from rfl),jJ hr,WJ];simp
   grind
theorem dW:∀(names:List (Str×NameKind)) (n:Nat) (acc:List (Str×Addr)),cellsFrom n names acc=cellsFrom n names []++acc
 | [],_,_=>rfl
 | (x,k)::r,n,acc=>by
  unfold cellsFrom;by_cases hk:(k==NameKind.cell)=true
  ·rw[if_pos hk,if_pos hk,dW r (n+1) ((x,n)::acc),dW r (n+1) [(x,n)],Ym];rfl
  ·rw[if_neg hk,if_neg hk];exact dW r n acc
theorem gz:∀{names:List (Str×NameKind)} {n:Nat},(x,c)∈cellsFrom n names []->(x,NameKind.cell)∈names/\n<=c
 | [],_,h=>nomatch h
 | (y,k)::r,n,h=>by
  unfold cellsFrom at h;by_cases hk:(k==NameKind.cell)=true
  ·rw[if_pos hk,dW]at h;rcases U1.mp h with h|h
   ·obtain⟨h1,h2⟩:=gz h;exact⟨UQ _ h1,by omega⟩
   ·have e:(x,c)=(y,n):=by simpa using h
    cases e;have:=eq_of_beq hk;subst this;exact⟨UW,UJ _⟩
  ·rw[if_neg hk]at h;obtain⟨h1,h2⟩:=gz h;exact⟨UQ _ h1,h2⟩
structure eQ(sc:Scope)(N own:YF)(scope:Scope):Prop where
 kind:scope.kind=.function
 frees:∀n,(n,NameKind.free)∈scope.names->sc.names.lookup n=some .cell\/sc.names.lookup n=some .free
 own:∀x∈own,(x,NameKind.free)∉scope.names
 out:∀x∈N,scope.names.lookup x≠some .local/\scope.names.lookup x≠some .cell
 uniq:∀p∈scope.names,scope.names.lookup p.1=some p.2
noncomputable def iq(sc:Scope)(N own:YF)(scope:Scope):Bool:=
 (scope.kind == .function)&&scope.names.all (λp=>p.2 != .free || (sc.names.lookup p.1==some .cell) || (sc.names.lookup p.1==some .free)) &&
 own.all (λx=>scope.names.all λp=>!(p.1==x&&p.2 == .free))&&N.all (λx=>scope.names.lookup x != some .local&&scope.names.lookup x != some .cell) &&
 scope.names.all (λp=>scope.names.lookup p.1==some p.2)
theorem eQ.of{N own:YF}(h:iq sc N own scope=true):eQ sc N own scope:=by
 unfold iq at h;simp only[UI]at h;obtain⟨⟨⟨⟨h1,h2⟩,h3⟩,h4⟩,h5⟩:=h;refine⟨eq_of_beq h1,λn hn=>?_,λx hx hn=>?_,λx hx=>?_,λp hp=>?_⟩
 ·have:=UU.mp h2 _ hn
  simp_all
 ·have:=UU.mp (UU.mp h3 x hx) _ hn
  simp_all
 ·simp_all
 grind
theorem lM{env:Env}:∀(names:List (Str×NameKind)),
  (names.map λ(n,k)=>if(k==NameKind.free&&env.scope.kind == .function&&env.kindOf n==some .cell)then(n,NameKind.cell)else(n,k)).lookup x
   = (names.lookup x).map λk=>if(k==NameKind.free&&env.scope.kind == .function&&env.kindOf x==some .cell)then NameKind.cell else k
 | []=>rfl
 | (n,k)::r=>by
  have ih:=lM (env:=env) (x:=x) r;rw[Vn];show List.lookup x ((if(k==NameKind.free&&env.scope.kind == .function&&env.kindOf n==some .cell)=true then(n,NameKind.cell)else(n,k))::_)=_;by_cases hc:(k==NameKind.free&&env.scope.kind == .function&&env.kindOf n==some .cell)=true
  ·rw[if_pos hc,WJ,WJ]
   cases hx:x==n with
   |true=>simp_all
   |false=>exact ih
  ·rw[if_neg hc,WJ,WJ]
   cases hx:x==n with
   |true=>have:=eq_of_beq hx;subst this;exact Xh some (if_neg hc).symm
   |false=>exact ih
theorem mem_of_lookupK{names:List (Str×NameKind)}(h:names.lookup x=some k):(x,k)∈names:=VB h
noncomputable def uM(scope:Scope)(C:Addr)(env:Env):Env:=
 {scope:=relabel scope env,locals:=C,globals:=env.globals,cells:=cellsFrom (C+1) scope.names (dB env.cells scope.names []),qual:=env.qual,func:=none,code:=env.code,frame:=env.frame,builtins:=env.builtins}
theorem xa
  (hQ:Q {scope:=scope,locals:=#[10],globals:=env.globals,cells:=cellsFrom (#[10]+1) scope.names cl,qual:=env.qual,func:=none,code:=env.code,frame:=env.frame,builtins:=env.builtins}
   {s with heap:=pushCells (s.heap.push {cls:=.type "dict",data:=.dict #[]}) scope.names}) :
  wpAny M A (newFunctionEnv scope env.globals cl [] env.qual none .none (some env)) Q E s:=by
 refine UE (wpAny_alloc ?_);refine UE (wpAny_layCells _ (λname kind cells=>by rfl) _ _ _ _ ?_);rw[VH ..];exact UH hQ
noncomputable def bQ(X:Cx)(own:YF)(scope:Scope)(C:Addr)(s2:YO)(H2:Hp)(fp:YC)(pins:Yx):Cx where
 prog:=X.prog
 w:=X.w
 K:=X.K
 mg:=X.mg
 base:=X.base
 A:=X.A
 N:=own++X.N
 s₀:=s2
 H₀:=H2
 env:=uM scope C X.env
 outer:=X.stack
 stack:=X.stack
 ex:=fp
 fn:=λx=>own.any (· == x)
 calm:=X.calm
 pn:=X.pn++pins
 xe:=λ_ _=>False
noncomputable def Kept(X:Cx)(fp:YC)(H H':Hp)(s s':YO):Prop:=s'.os=s.os/\Un (lH X.stack) fp H H' s.heap s'.heap/\lu X.prog X.w H' s'.heap/\AllBare s'.gens
theorem Kept.inv{σ:St}(k:Kept X fp H H' s s')(I:#[11])(hf:∀b∈fp,rH X pins H b):Inv X pins σ H' s':=
 I.Ac k.1 k.2.1 k.2.2.1 k.2.2.2 λb hb=>⟨(hf b hb).2.2.2.1,(hf b hb).2.1,(hf b hb).2.2.2.2.1,(hf b hb).2.2.2.2.2⟩
section
variable {X:Cx} {own:YF} {scope:Scope} {pins:Yx} {σ:St} {H2:Hp} {s2:YO} {fp:YC}
theorem iu(x:Str):(relabel scope X.env).names.lookup x=(scope.names.lookup x).map λk=>if(k==NameKind.free&&X.env.scope.kind == .function&&X.env.kindOf x==some .cell)then NameKind.cell else k:=
 lM _
theorem eI(h:(uM scope C X.env).cells.lookup x=some c):((x,c)∈cellsFrom (C+1) scope.names []/\(x,NameKind.cell)∈scope.names/\C+1<=c)\/(dB X.env.cells scope.names []).lookup x=some c:=by
 have h':(cellsFrom (C+1) scope.names (dB X.env.cells scope.names [])).lookup x=some c:=h;rw[dW,List.lookup_append]at h'
 cases e:(cellsFrom (C+1) scope.names []).lookup x with
 |some d=>rw[e]at h';cases h';have m:=VB e;exact .inl ⟨m,gz m⟩
 |none=>rw[e]at h';exact .inr h'
theorem lP(I:Inv X pins σ H2 s2)(CS:eQ X.env.scope X.N own scope)(h:(dB X.env.cells scope.names []).lookup x=some c):(x,NameKind.free)∈scope.names/\X.env.cells.lookup x=some c:=by
 by_cases hf:(x,NameKind.free)∈scope.names
 ·rw[eG hf]at h;obtain⟨d,hd⟩:=I.ok.has x (CS.frees x hf)
  grind
 simp_all[jJ]
theorem J1(I:Inv X pins σ H2 s2)(CS:eQ X.env.scope X.N own scope){C:Addr}(hC:s2.heap.objs.size<=C)(hf:∀b∈fp,rH X pins H2 b)(hl:∀b∈fp,b<s2.heap.objs.size):#[13].Ok:=by
 have old:∀x c,(dB X.env.cells scope.names []).lookup x=some c->X.env.cells.lookup x=some c/\c<s2.heap.objs.size:=λx c h=>by obtain⟨_,q⟩:=lP I CS h;obtain⟨v,z⟩:=I.cell x c q;exact⟨q,z.lt⟩
 refine⟨I.ok.mod,CS.kind,I.ok.glob,I.ok.blt,hC,λx y c h1 h2=>?_,λx hx=>?_,λx c hx h=>?_,I.ok.hd,I.ok.frames,.inl rfl,λb hb=>⟨?_,λx c h=>?_⟩,I.bs,UP I.ok.bsz I.sz,λb o e hb=>?_,λb hb z=>?_,I.stack,I.yy⟩
 ·rcases eI h1 with⟨a1,_,a2⟩|a1<;>rcases eI h2 with⟨b1,_,b2⟩|b1
  ·have ap:=(cellsFrom_ok scope.names {(default:Heap)with objs:=Array.replicate (C+1) default} (C+1) [] ⟨λ_ _ hm=>(nomatch hm),List.Pairwise.nil⟩ #[6]).apart;simp only[Array.size_replicate]at ap;exact name_of_addr ap a1 b1
  ·exact absurd (UT (old y c b1).2 (UP hC (UP (V7 _) a2))) (Va _)
  ·exact absurd (UT (old x c a1).2 (UP hC (UP (V7 _) b2))) (Va _)
  ·exact I.ok.inj x y c (old x c a1).1 (old y c b1).1
 ·have hx':(relabel scope X.env).names.lookup x=some .cell\/(relabel scope X.env).names.lookup x=some .free:=hx;rw[iu]at hx';show ∃c,(cellsFrom (C+1) scope.names (dB X.env.cells scope.names [])).lookup x=some c;refine Wv.mp (Wg _ _ _ ?_)
  cases e:scope.names.lookup x with
  |none=>rw[e]at hx';simp at hx'
  |some k=>
   rw[e]at hx';by_cases hk:k=.free
   ·subst hk;exact .inr (by rw[eG (mem_of_lookupK e)];rfl)
   ·have hb:(k==NameKind.free)=false:=by simpa using hk
    simp only[Ya,hb,XS,US,Vu,Wx]at hx';rcases hx' with q|q
    ·exact .inl (by rw[q])
    ·exact absurd q hk
 ·obtain⟨y,hy,e⟩:=Xi.mp hx;have:=eq_of_beq e;subst this;rcases eI h with⟨_,_,a⟩|a
  ·exact UP hC (UP (V7 _) a)
  ·exact absurd (lP I CS a).1 (CS.own _ hy)
 ·exact UR (UT (hl b hb) hC)
 ·rcases eI h with⟨_,_,a⟩|a
  ·exact X9 (UR (UT (hl b hb) (UP hC (UP (V7 _) a))))
  ·exact(hf b hb).2.2.2.2.1 x c (old x c a).1
 ·rcases(hf b hb).2.2.2.1 with z|z
  ·exact I.ok.noex b o e z
  ·exact absurd (UT (UL e) (UP I.ok.bsz z)) (Va _)
 ·rcases UO.mp (I.lJ b z)with e|e
  ·exact(hf b hb).2.1 e
  ·exact(hf b hb).2.2.1 e
theorem Al(I:Inv X pins σ H2 s2)(CS:eQ X.env.scope X.N own scope)(hc:∀c v,s2.heap.IsCell c v->(∃x,X.env.cells.lookup x=some c)->h.IsCell c v) :
  ∀(i:Nat) (x:Str) (v:V),(own++X.N)[i]?=some x->(List.replicate own.length (none:Option V)++σ)[i]?=some (some v)->GD (relabel scope X.env) x->∃u,RelV v u/\Look (uM scope C X.env) h m x u:=by
 intro i x v h1 h2 h3
 have hi:own.length<=i:=by
  by_cases hi:own.length<=i
  ·exact hi
  ·rw[U3 (by simpa using hi),WB]at h2;split at h2<;>cases h2
 rw[Vh hi]at h1;rw[Vh (by simpa using hi),WV]at h2;have hN:=CS.out x (UY h1)
 have hfr:scope.names.lookup x=some .free:=by
  unfold GD at h3;rw[iu]at h3
  cases e:scope.names.lookup x with
  |none=>rw[e]at h3;simp at h3
  |some k=>
   rw[e]at h3 hN;by_cases hk:k=.free
   ·rw[hk]
   ·have hb:(k==NameKind.free)=false:=by simpa using hk
    simp only[Ya,hb,XS,US,Vu,Wx]at h3;rcases h3 with q|q|q
    ·exact absurd (by rw[q]) hN.1
    ·exact absurd (by rw[q]) hN.2
    ·exact absurd q hk
 have hm:=mem_of_lookupK hfr;have hk:=CS.frees x hm;obtain⟨mX,hn,hl⟩:=I.loc;obtain⟨u,r,l⟩:=hl _ x v h1 h2 (hk.elim (λz=>.inr (.inl z)) λz=>.inr (.inr z));refine⟨u,r,?_⟩;rcases l with⟨z,_⟩|⟨_,c,hcx,z⟩
 ·have z':X.env.scope.names.lookup x=some .local:=z;rcases hk with q|q<;>rw[q]at z'<;>cases z'
 ·refine .inr ⟨?_,c,?_,hc c _ z ⟨x,hcx⟩⟩
  ·show(relabel scope X.env).names.lookup x=some .cell\/(relabel scope X.env).names.lookup x=some .free;rw[iu,hfr];simp only[Ya];split
   ·exact .inl rfl
   ·exact .inr rfl
  ·show(cellsFrom (C+1) scope.names (dB X.env.cells scope.names [])).lookup x=some c;rw[dW,List.lookup_append]
   have no:(cellsFrom (C+1) scope.names []).lookup x=none:=by
    cases e:(cellsFrom (C+1) scope.names []).lookup x with
    |none=>rfl
    |some d=>have:=CS.uniq _ (gz (VB e)).1;simp only[]at this;rw[hfr]at this;cases this
   rw[no,eG hm,hcx];rfl
end
theorem Ca(I:Nat->YO->Prop)
 (turn:∀n s,I n s->wpAny (model prog w) A (pyNext it) (λr s1=>match r with
   |none=>R (.ok .next) s1
   |some v=>wpAny (model prog w) A (letOwnedTupleGo target it v) (λ_ s2=>wpAny (model prog w) A (assign target env v) (λ_ s3=>
     wpAny (model prog w) A (forIn ifs true λc r=>if r=true then do let ok <- isTrue c env (eval c env);pure (ForInStep.yield ok)else pure (ForInStep.yield r)) (λok s4=>
      if ok=true then wpAny (model prog w) A (eval elt env) (λx s5=>
       wpAny (model prog w) A (call (.builtin "list.append") [acc,x]) (λ_ s6=>∃m,m<n/\I m s6) (λ_ _=>False) s5) (λ_ _=>False) s4
      else ∃m,m<n/\I m s4) (λ_ _=>False) s3) (λ_ _=>False) s2) (λ_ _=>False) s1) (λ_ _=>False) s)
 (n:Nat)(h:I n s) :
  codeAny (model prog w) A (.compLoop (.ListComp elt [⟨target,iter,ifs,0⟩] scope pos) 0 it acc env) R s:=by
 refine codeAny_loop rfl I (λn s hI=>?_) n h;show wpAny _ A ((compTurn (.ListComp elt [⟨target,iter,ifs,0⟩] scope pos) 0 it acc env).onRaise (λx=>do noteFrame x env;theTreesLotGoes x)) _ _ s;refine wpAny_noted ?_;rw[compTurn_list];refine VU (E:=λ_ _=>False) (E':=_) (Q':=_) ?_ (λ_ _ q=>q) λ_ _ z=>z.elim;refine UE (wpAny_standAt (UE (cU (turn n s hI) (λr s1 h1=>?_))))
 cases r with
 |none=>exact UH h1
 |some v=>
  refine UE (cU h1 λ_ s2 h2=>?_);refine UE (cU h2 λ_ s3 h3=>UE (cU h3 λok s4 h4=>?_))
  cases ok with
  |false=>exact UH ⟨rfl,h4⟩
  |true=>exact UE (UE (cU h4 λx s5 h5=>UE (cU h5 λ_ s6 h6=>UH (UH ⟨rfl,h6⟩))))
noncomputable def NC(X:Cx)(ifs:YG)(t:TT):Prop:=
 ∀(pins:Yx) (s:YO) (σ:St) (H:Hp) (Q:Bool->Hp->Prop),#[11]->t σ H Q ->
  wpAny #[12] X.A (forIn ifs true λc r=>if r=true then do let ok <- isTrue c X.env (eval c X.env);pure (ForInStep.yield ok)else pure (ForInStep.yield r)) (TP X pins σ Q) X.xe s
noncomputable def Sm:TT:=λ_ H Q=>Q true H
theorem J2:NC X [] Sm:=λ_ _ _ H _ I h=>wpAny_tests_nil ⟨H,I,h⟩
theorem J3(h:PT X c t):NC X [c] t:=λpins s σ H Q I q=>wpAny_tests_one (h pins s σ H Q I q)
noncomputable def G1(n:Nat)(J:It)(g:TG)(tc:TT)(te:TE)(σ:St)(H:Hp)(Q:VK):Prop:=
 ∃W:Nat->Nat->List V->Hp->Prop,(∃m,W 0 m [] H)/\∀i m ys H,W i m ys H ->
  (J.stop i H/\ys.length<=sizeLine/\∀p,H p=none->Q (.ref p) (upd H p (.lst ys))) \/
  (J.go i H/\ys.length<=sizeLine/\∃N:List V->Hp->Prop,(∀ys' H',N ys' H'->∃m',m'<m/\W (i+1) m' ys' H')/\∀x H',J.yld i H x H'->g x (List.replicate n none++σ) H' λσ2 H2=>tc σ2 H2 λb H3=>
   if b=true then te σ2 H3 λy H4=>N (ys++[y]) H4 else N ys H3)
theorem uN{σ:St}
 {RR:Value->Addr->Result->YO->Prop}(I:Inv X pins σ H2 s2)(CS:eQ X.env.scope X.N own scope)(hc:X.calm=true)(T:Turn X.prog X.w X.K tg J fp it tn)(st:tn 0 s2.heap)(hf:∀b∈fp,rH X pins H2 b)
 (hg:∀C s2 H2 fp pins,PG #[13] tg g)(ht:∀C s2 H2 fp pins,NC #[13] ifs tc)(he:∀C s2 H2 fp pins,PE #[13] elt te)
 (hW:G1 own.length J g tc te σ H2 Q)
 (hR:∀D C H' s',Inv X pins σ H' s'->rH X pins H' C->(∃m,s'.heap.Ns C m)->Q (.ref D) H'->Kept X fp H2 H' s2 s'->RR (.ref D) C (.ok .next) s') :
  wpAny #[12] X.A (newList []) (λacc s3=>wpAny #[12] X.A (newFunctionEnv scope X.env.globals (dB X.env.cells scope.names []) [] X.env.qual none .none (some X.env)) (λcenv s4=>
   codeAny #[12] X.A (.compStart (.ListComp elt [⟨tg,iter,ifs,0⟩] scope pos) 0 (.ref it) acc {cenv with scope:=relabel scope X.env}) (RR acc cenv.locals) s4) E s3) E s2:=by
 refine Vw (xa ?_);dsimp only;generalize hH:s2.heap.push {cls:=.type "list",dict:=none,data:=.seq ([]:YD).toArray}=h3;have hDC:h3.objs.size=s2.heap.objs.size+1:=by rw[<- hH,VH]
 have eC:({scope:=relabel scope X.env,locals:=h3.objs.size,globals:=X.env.globals,cells:=cellsFrom (h3.objs.size+1) scope.names (dB X.env.cells scope.names []),qual:=X.env.qual,func:=none,code:=X.env.code,frame:=X.env.frame,builtins:=X.env.builtins}:Env)=uM scope h3.objs.size X.env:=rfl;rw[eC];generalize eD:s2.heap.objs.size=D at *;generalize eCC:h3.objs.size=C at *;have hl:∀b∈fp,b<s2.heap.objs.size:=λb hb=>by obtain⟨o,e,_⟩:=T.obj 0 _ st b hb;exact UL e
 have hC:s2.heap.objs.size<=C:=by omega
 generalize hH4:pushCells (h3.push {cls:=.type "dict",data:=.dict #[]}) scope.names=h4;have k34:∀b o,(h3.push {cls:=.type "dict",data:=.dict #[]}).get? b=some o->h4.get? b=some o:=λb o e=>by rw[<- hH4];exact pushCells_keeps _ _ b o e
 have k24:∀b o,s2.heap.get? b=some o->h4.get? b=some o:=λb o e=>k34 b o (UG _ (by rw[<- hH];exact UG _ e));have nsC:h4.Ns C λ_=>none:=by have:=Heap.Ns.new h3 (.type "dict");rw[eCC]at this;exact this.keeps k34
 have accD:h4.get? D=some {cls:=.type "list",data:=.seq (([]:YD).toArray)}:=k34 _ _ (UG _ (by rw[<- hH,<- eD];exact UK _ rfl));have cellN:∀x c,(x,c)∈cellsFrom (C+1) scope.names []->h4.IsCell c none/\C+1<=c:=λx c hm=>by have ok:=cellsFrom_ok scope.names (h3.push {cls:=.type "dict",data:=.dict #[]}) (C+1) [] ⟨λ_ _ hm=>(nomatch hm),List.Pairwise.nil⟩ (by rw[VH];omega);rw[VH,eCC,hH4]at ok;exact ok.empty x c hm
 have hne:H2 D=none:=by rw[<- eD];exact I.hok.fresh (UJ _)
 have ok':#[13].Ok:=J1 I CS hC hf hl
 have rebase:∀{σ':St} {H':Hp} {ps:Yx} {s':YO},Inv #[13] ps σ' H' s'->Inv #[13] ps (List.replicate own.length none++σ) H' s':=λ{σ' H' ps s'} J'=>by
  obtain⟨m,hn,_⟩:=J'.loc;refine⟨J'.ok,J'.os,J'.bare,J'.base,⟨m,hn,Al I CS λc v z ⟨x,hx⟩=>?_⟩,J'.cell,J'.free,J'.freeC,J'.pin,J'.hok,?_⟩
  ·obtain⟨o,ho,hd⟩:=z;obtain⟨sl,e⟩:=J'.base.any ho (I.freeC x c hx) λhb=>(hf c hb).2.2.2.2.1 x c hx rfl;exact⟨_,e,hd⟩
  ·show(List.replicate own.length none++σ).length=(own++X.N).length;rw[Vi,Vi,WV,I.len]
 have start:Inv #[13] [] (List.replicate own.length none++σ) H2 {s2 with heap:=h4}:=by
  have I4:Inv X pins σ H2 {s2 with heap:=h4}:=I.kept (t':=s2.toks) k24;refine⟨ok',rfl,I.bare,Un.kept k24,⟨_,nsC,Al I CS λc v z _=>z.keeps k24⟩,λx c h=>?_,I.hok.fresh hC,λx c h=>?_,λp hp=>?_,I4.hok,?_⟩
  ·rcases eI h with⟨a,_,_⟩|a
   ·exact⟨_,(cellN x c a).1⟩
   ·obtain⟨v,z⟩:=I.cell x c (lP I CS a).2;exact⟨v,z.keeps k24⟩
  ·rcases eI h with⟨_,_,a⟩|a
   ·exact I.hok.fresh (UP hC (UP (V7 _) a))
   ·exact I.freeC x c (lP I CS a).2
  ·have hp':p∈X.pn++pins:=by
    rcases U1.mp hp with z|z
    ·exact z
    ·exact nomatch z
   obtain⟨e,n,ne,nf,d⟩:=I.pin p hp';refine⟨k24 _ _ e,n,UR (UT (UL e) hC),λz=>?_,d⟩;rcases UO.mp (I.lJ _ z)with q|q
   ·exact ne q
   ·exact nf q
  ·show(List.replicate own.length none++σ).length=(own++X.N).length;rw[Vi,Vi,WV,I.len]
 obtain⟨W,⟨m0,w0⟩,turn⟩:=hW
 have nfs:∀b,s2.heap.objs.size<=b->b∉#[13].fs:=λb hb z=>by
  rcases UO.mp (I.lJ b z)with q|q
  ·rw[q]at hb;exact absurd (UT I.lt hb) (Va _)
  ·exact I.MU hb q
 have fpD:∀{H':Hp},H' D=none->rH #[13] [] H' D:=λ{H'} hn=>by
  refine⟨hn,UR (by show D<C;omega),nfs D #[4],.inr (by show s2.heap.objs.size<=D;omega),λx c h z=>?_,λp hp z=>?_⟩
  ·rcases eI h with⟨_,_,a⟩|a
   ·rw[z]at a;exact absurd (UT (show D<C+1 by omega) a) (Va _)
   ·obtain⟨v,q⟩:=I.cell x c (lP I CS a).2;have:=q.lt;rw[z,eD]at this;exact Va _ this
  ·have hp':p∈X.pn++pins:=by
    rcases U1.mp hp with z|z
    ·exact z
    ·exact nomatch z
   have:=UL (I.pin p hp').1;rw[z,eD]at this;exact Va _ this
 have nD:D∉fp:=λz=>by have:=hl D z;rw[eD]at this;exact Va _ this
 have stat:∀{H':Hp} {ps:Yx},(∀p∈ps,p.1=D)->(∀b∈fp,H' b=none)->∀b∈fp,rH #[13] ps H' b:=λ{H' ps} hps hn b hb=>by
  obtain⟨f0,f1,f2,f3,f4,f5⟩:=hf b hb;refine⟨hn b hb,(ok'.exf b hb).1,ok'.exfs b hb,.inl hb,(ok'.exf b hb).2,λp hp=>?_⟩;rcases U1.mp hp with z|z
  ·exact f5 p z
  ·rw[hps p z];exact λq=>nD (q▸hb)
 let LI:Nat->YO->Prop:=λn s'=>∃i ys its k H',Inv #[13] [] (List.replicate own.length none++σ) H' s'/\tn i s'.heap/\(∀b∈fp,H' b=none)/\H' D=none /\
  s'.heap.get? D=some {cls:=.type "list",data:=.seq (List.toArray its) k}/\Vals ys its/\W i n ys H'
 have l0:LI m0 {s2 with heap:=h4}:=⟨0,[],[],0,H2,start,T.keep _ _ _ st λb _ o e=>k24 b o e,λb hb=>(hf b hb).1,hne,accD,.nil,w0⟩
 have loop:codeAny #[12] X.A (.compLoop (.ListComp elt [⟨tg,iter,ifs,0⟩] scope pos) 0 (.ref it) (.ref D) (uM scope C X.env)) (RR (.ref D) C) {s2 with heap:=h4}:=by
  refine Ca LI ?_ m0 l0;rintro n s3 ⟨i,ys,its,k,H3,I3,st3,fr3,d3,a3,v3,w3⟩;rcases turn i n ys H3 w3 with⟨stop,hz,qn⟩|⟨go,hz,NN,hNN,step⟩
  ·have I3p:=I3.pinned (fp:=[D]) (λb hb=>(Vk.mp hb)▸fpD d3) λb hb=>⟨_,(Vk.mp hb)▸a3,λv z=>(by cases z)⟩;refine cU (T.done #[13] rfl rfl rfl hc i _ s3 _ H3 _ I3p (stat (λp hp=>by have q:p∈j7 [D] s3.heap:=hp;have:=(rJ q).1;simpa using this) fr3) st3 stop) λr s4 ⟨hr,I4⟩=>?_;subst hr;have a4:s4.heap.get? D=_:=(I4.pin (D,_) (U2 _ (U2 _ (gn #[6] a3)))).1;have u4:Un (lH X.stack) fp H2 H3 s2.heap s4.heap:=I4.base
   have okD:lu X.prog X.w (upd H3 D (.lst ys)) s4.heap:=λb o e=>by
    by_cases hb:b=D
    ·subst hb;rw[aM]at e;cases e;exact⟨hz,its,k,v3,a4⟩
    ·rw[aD hb]at e;exact(I4.hok b o e).pY (λ_ _ _ q=>q) (λc q=>by rw[aD (aJ q d3)];exact q) λc xs q=>by rw[aD (aJ q d3)];exact q
   have nDo:∀b o,s2.heap.get? b=some o->b≠D:=λb o e=>by rw[<- eD];exact UR (UL e)
   have uD:Un (lH X.stack) fp H2 (upd H3 D (.lst ys)) s2.heap s4.heap:=⟨u4.keep,u4.slot,λb o e n hx=>by rw[aD (nDo b o e)];exact u4.free b o e n hx,u4.there,
    λb xs e=>by rw[aD (aJ e hne)];exact u4.tups b xs e,λb o xs e=>by rw[aD (aJ e hne)];exact u4.frzs b o xs e,λb ps e=>by rw[aD (aJ e hne)];exact u4.tbls b ps e⟩
   have kp:Kept X fp H2 (upd H3 D (.lst ys)) s2 s4:=⟨I4.os,uD,okD,I4.bare⟩;have I5:Inv X pins σ (upd H3 D (.lst ys)) s4:=kp.inv I hf;obtain⟨m,hn,_⟩:=I4.loc;refine hR D C _ s4 I5 ⟨by rw[aD (show C≠D by omega)];exact I4.free,Xn (UT I.lt hC),I.MU hC,.inr (UP I.sz hC),λx c e z=>?_,λp hp z=>?_⟩ ⟨m,hn⟩ (qn D d3) kp
   ·obtain⟨v,q⟩:=I.cell x c e;exact absurd (UT q.lt (by rw[z];exact hC)) (Va _)
   ·exact absurd (UT (UL (I.pin p hp).1) (by rw[z];exact hC)) (Va _)
  ·have I3p:=I3.pinned (fp:=[D]) (λb hb=>(Vk.mp hb)▸fpD d3) λb hb=>⟨_,(Vk.mp hb)▸a3,λv z=>(by cases z)⟩;have onlyD:∀p∈([]++j7 [D] s3.heap),p.1=D:=λp hp=>by have q:p∈j7 [D] s3.heap:=hp;have:=(rJ q).1;simpa using this
   refine cU (T.item #[13] rfl rfl rfl hc i _ s3 _ H3 _ I3p (stat onlyD fr3) st3 go) λr s4 ⟨u,hr,h4'⟩=>?_;subst hr;refine cU h4' λ_ s5 ⟨x,H5,I5,r5,y5,st5,fr5⟩=>?_;have I5p:=I5.pinned (fp:=fp) (stat onlyD fr5) (T.obj _ _ st5)
   have cont:∀{s6:YO} {σ6:St} {H6:Hp},Inv #[13] (([]++j7 [D] s3.heap)++j7 fp s5.heap) σ6 H6 s6 ->
     Inv #[13] [] (List.replicate own.length none++σ) H6 s6/\tn (i+1) s6.heap/\(∀b∈fp,H6 b=none)/\H6 D=none/\s6.heap.get? D=some {cls:=.type "list",data:=.seq (List.toArray its) k}:=λ{s6 σ6 H6} I6=>by
    have pD:=I6.pin (D,_) (U2 _ (VJ _ (U2 _ (gn #[6] a3))));refine⟨rebase (I6.uh λp hp=>nomatch hp),T.keep _ _ _ st5 λb hb o e=>(I6.pin (b,o) (U2 _ (U2 _ (gn hb e)))).1,λb hb=>?_,pD.2.1,pD.1⟩;obtain⟨o,e,_⟩:=T.obj _ _ st5 b hb;exact(I6.pin (b,o) (U2 _ (U2 _ (gn hb e)))).2.1
   refine cU (hg C s2 H2 fp pins _ s5 _ H5 x u _ I5p r5 (step x H5 y5)) λ_ s6 ⟨σ6,H6,I6,q6⟩=>?_;refine cU (ht C s2 H2 fp pins _ s6 σ6 H6 _ I6 q6) λb s7 ⟨H7,I7,q7⟩=>?_
   cases b with
   |false=>have q7':NN ys H7:=q7;obtain⟨m',hm,w7⟩:=hNN _ _ q7';obtain⟨c1,c2,c3,c4,c5⟩:=cont I7;exact⟨m',hm,i+1,ys,its,k,H7,c1,c2,c3,c4,c5,v3,w7⟩
   |true=>refine cU (he C s2 H2 fp pins _ s7 σ6 H7 _ I7 q7) λv s8 ⟨y,H8,I8,r8,q8⟩=>?_;obtain⟨m',hm,w8⟩:=hNN _ _ q8;obtain⟨c1,c2,c3,c4,c5⟩:=cont I8;refine wpAny_list_append_plain ⟨k,c5⟩ (λh' hp hs=>?_) (by rw[UX,<- v3.length];exact hz);obtain⟨k',e'⟩:=hp;obtain⟨f0,f1,f2,f3,f4,f5⟩:=fpD c4;refine⟨m',hm,i+1,ys++[y],its++[v],k',H8,c1.turned (t':=s8.toks) (λb o hb e=>(hs.2 b hb).trans e) f0 f1 f3 f4 f5,T.keep _ _ _ c2 λb hb o e=>(hs.2 b λz=>nD (z▸hb)).trans e,c3,c4,?_,v3.append (.cons r8 .nil),w8⟩;show h'.get? D=_;rw[e'];simp
 exact codeAny_compStart_list loop (T.self X.A 0 {s2 with heap:=h4} _ _ (T.keep _ _ _ st λb _ o e=>k24 b o e) loop)
section
variable {X:Cx} {own:YF} {scope:Scope} {elt tg iter:Expr} {ifs:YG} {pos:Pos} {wi:TI} {g:TG} {tc:TT} {te:TE}
noncomputable def DK(n:Nat)(wi:TI)(g:TG)(tc:TT)(te:TE):TE:=λσ H Q=>wi σ H λJ H1=>G1 n J g tc te σ H1 Q
theorem uO(CS:eQ sc N own scope):∀x∈scope.names,x.2=.local->scope.names.lookup x.1=some .local:=λx hx e=>by rw[CS.uniq x hx,e]
theorem J4(own:YF)(CS:iq X.env.scope X.N own scope=true)(hc:X.calm=true)(hi:PI X tg iter wi)(hg:∀C s2 H2 fp pins,PG #[13] tg g)
 (ht:∀C s2 H2 fp pins,NC #[13] ifs tc)(he:∀C s2 H2 fp pins,PE #[13] elt te)(hs:∀x,foldedSetIterable iter X.env x=pure x:=by intro _;rfl) :
  PE X (.ListComp elt [⟨tg,iter,ifs,0⟩] scope pos) (DK own.length wi g tc te):=by
 intro pins s σ H Q I h;have CS:=eQ.of CS;refine wpAny_comprehension_free rfl hs (jl λn hn=>I.ok.has n (CS.frees n hn)) CS.kind (uO CS) (cU (hi pins s σ H _ I h) λv s1 h1=>cU h1 λitv s2 h2=>?_);obtain⟨it,fp,tn,J,H2,e,I2,T,st2,f2,hW⟩:=h2;subst e;refine uN I2 CS hc T st2 f2 hg ht he hW λD C H' s' I' fC ⟨m,hn⟩ q _=>?_;refine⟨m,hn,λh' hs'=>⟨.ref D,H',?_,rfl,q⟩⟩;obtain⟨f0,f1,_,f3,f4,f5⟩:=fC;exact I'.turned (λb o hb e=>(hs'.2 b hb).trans e) f0 f1 f3 f4 f5
theorem DL(own:YF){pos' spos:Pos}(hN:X.N.Nodup)(hxi:X.N[i]?=some x)(hx:X.env.scope.names.lookup x=some .local)(CS:iq X.env.scope X.N own scope=true)(hc:X.calm=true)(hi:PI X tg iter wi)(hg:∀C s2 H2 fp pins,PG #[13] tg g)
 (ht:∀C s2 H2 fp pins,NC #[13] ifs tc)(he:∀C s2 H2 fp pins,PE #[13] elt te)(hs:∀x,foldedSetIterable iter X.env x=pure x:=by intro _;rfl)
 (hsw:swapsWith (.ListComp elt [⟨tg,iter,ifs,0⟩] scope pos) (some (.Name x pos')) spos.line X.env=pure true:=by rfl) :
  PS X (.Assign [.Name x pos'] (.ListComp elt [⟨tg,iter,ifs,0⟩] scope pos) spos) (B0 (DK own.length wi g tc te) (aC i)):=by
 intro pins s σ H D I h;have CS:=eQ.of CS;rw[exec_Assign_Name_used _ _ _ _ hsw];refine UE (wpAny_standAt (UE ?_));show wpAny _ X.A (do let _ <- comprehension (.ListComp elt [⟨tg,iter,ifs,0⟩] scope pos) scope X.env _ (newList []) false (eval iter X.env) (some (assign (.Name x pos') X.env))) _ _ s
 refine UE (cU (wpAny_comprehension_free (use:=some (assign (.Name x pos') X.env)) (Q:=λ_ s'=>SP X pins D .next s') (g:=⟨tg,iter,ifs,0⟩) rfl hs (jl λn hn=>I.ok.has n (CS.frees n hn)) CS.kind (uO CS)
  (cU (hi pins s σ H _ I h) λv s1 h1=>cU h1 λitv s2 h2=>?_)) λ_ s' hq=>UH (UH hq))
 obtain⟨it,fp,tn,J,H2,e,I2,T,st2,f2,hW⟩:=h2;subst e;refine uN (Q:=λx H1=>aC i x σ H1 D.nx) (RR:=λacc C=>compPost #[12] X.A X.xe (some (assign (.Name x pos') X.env)) (λ_ s'=>SP X pins D .next s') acc C) I2 CS hc T st2 f2 hg ht he hW λDl C H' s' I' fC ⟨m,hn⟩ q _=>?_;show wpAny _ _ (assign (.Name x pos') X.env (.ref Dl)) _ _ s';refine wpAny_assign_Name (xC (v:=.ref Dl) I' hN hxi (.inl hx) rfl (λs'' I'' hsb=>?_) (.inr hx));obtain⟨f0,f1,f2',f3,f4,f5⟩:=fC;obtain⟨a,sb,ha⟩:=hsb
 have hCa:C≠a:=by
  rcases ha with e|e
  ·rw[e];exact f1
  ·exact(f4 x a e).symm
 refine⟨m,hn.sameBut sb hCa,λh' hs'=>⟨_,H',?_,q⟩⟩;exact I''.turned (t':=s''.toks) (λb o hb e=>(hs'.2 b hb).trans e) f0 f1 f3 f4 f5
end
structure Nx(P:YL)(w:World)(i l:Addr)(st:Nat->Heap->Prop)(xs:YD):Prop where
 obj:∀k h,st k h->∃o vs,h.get? i=some o/\o.data=.fields vs
 keep:∀k h h',st k h->(∀o,h.get? i=some o->h'.get? i=some o)->(∀o,h.get? l=some o->h'.get? l=some o)->st k h'
 item:∀(A:YN) k (s:YO) x (Q:Yw) (E:Yw),st k s.heap->xs[k]?=some x->(∀h',st (k+1) h'->Heap.SameBut i s.heap h'->Q x {s with heap:=h'}) ->
  wpAny #[14] A (Builtin.SmallTypes.nextOf (.ref i)) Q E s
 done:∀(A:YN) k (s:YO) (Q:Yw) (E:Yw),A.handled=none->st k s.heap->xs[k]?=none ->
  (∀h' e,Heap.ExtBut i s.heap h'->(∃o,h'.get? e=some o/\o.cls=.type "StopIteration")->E (.ref e) {s with heap:=h'})->wpAny #[14] A (Builtin.SmallTypes.nextOf (.ref i)) Q E s
section
variable {P:YL} {w:World} {A:YN} {E:Yw} {s:YO}
theorem Am{h:Heap}(a:h.IsTupleIter i l k)(b:h.IsTuple l its):i≠l:=λe=>by
 obtain⟨o,h1,c1,_⟩:=a;obtain⟨o',h2,c2,_⟩:=b
 grind
theorem Cb(a:s.heap.IsTupleIter it t k)(b:s.heap.IsTuple t its)(hx:its[k]?=some x)
 (q:∀h',h'.IsTupleIter it t (k+1)->Heap.SameBut it s.heap h'->Q x {s with heap:=h'}):wpAny #[14] A (Builtin.SmallTypes.nextOf (.ref it)) Q E s:=by
 obtain⟨oi,gi,ci,di⟩:=id a;obtain⟨ot,gt,_,nt,dt⟩:=b;unfold Builtin.SmallTypes.nextOf;refine UE (Vm (name:=Str.ofString "__next__") a.typeIs Wk (Vc Wk a.typeIs F.entry_tuple_iterator_next ?_ (F.args_tuple_iterator_next_1 _)));show wpAny _ _ (field (Value.ref it) 0 >>= _) _ _ s;refine UE (VS (x:=Value.ref t) gi di rfl ?_);rw[if_neg (show ¬ (Value.ref t==Value.none)=true from Ve)];show wpAny _ _ (field (Value.ref it) 1 >>= _) _ _ s;refine UE (VS (x:=Value.int k 0) gi di rfl ?_);show wpAny _ _ (seqItems? (Value.ref t) >>= _) _ _ s;refine UE (VI gt dt ?_);simp only[hx,VZ];refine UE (wpAny_setField gi di #[6] (UH ⟨x,rfl,UH (q _ ⟨_,V0 _ gi (Obj.isFreed_of_fields (Obj.data_mapFields di _)),(Obj.cls_mapFields ..).trans ci,?_⟩ (Xk ..))⟩));rw[Obj.data_mapFields di];simp[rawInt]
theorem uP(hh:A.handled=none)(a:s.heap.IsTupleIter it t k)(b:s.heap.IsTuple t its)(hx:its[k]?=none)
 (q:∀h' e,Heap.ExtBut it s.heap h'->(∃o,h'.get? e=some o/\o.cls=.type "StopIteration")->E (.ref e) {s with heap:=h'}):wpAny #[14] A (Builtin.SmallTypes.nextOf (.ref it)) Q E s:=by
 obtain⟨oi,gi,ci,di⟩:=id a;obtain⟨ot,gt,_,nt,dt⟩:=b;unfold Builtin.SmallTypes.nextOf;refine UE (Vm (name:=Str.ofString "__next__") a.typeIs Wk (Vc Wk a.typeIs F.entry_tuple_iterator_next ?_ (F.args_tuple_iterator_next_1 _)));show wpAny _ _ (field (Value.ref it) 0 >>= _) _ _ s;refine UE (VS (x:=Value.ref t) gi di rfl ?_);rw[if_neg (show ¬ (Value.ref t==Value.none)=true from Ve)];show wpAny _ _ (field (Value.ref it) 1 >>= _) _ _ s;refine UE (VS (x:=Value.int k 0) gi di rfl ?_);show wpAny _ _ (seqItems? (Value.ref t) >>= _) _ _ s;refine UE (VI gt dt ?_);simp only[hx,VZ];refine UE (V5 (UE (wpAny_setField gi di #[6] ?_)));show wpAny _ _ (newExc (Value.type "StopIteration") [] >>= _) _ _ _;refine UE ?_;simp only[newTuple,newExc];refine UE (Vw ?_ (by size_fits));refine UE (m:=firstArgMember _ _) (WC (a:=Value.none) (by first|rfl | (unfold firstArgMember;rfl)) ?_);refine Vw ?_ (by size_fits);unfold raiseNew;refine UE (wpAny_handled ?_);rw[show A.in1.handled=none from hh];exact UE (UH (wpAny_throw (q _ _ (((Xk ..).extBut.push _).push _) ⟨_,UK _ rfl,rfl⟩)))
theorem yJ(i l:Addr)(xs:YD):Nx P w i l (λk h=>h.IsTupleIter i l k/\h.IsTuple l xs.toArray) xs where
 obj:=by rintro k h ⟨⟨o,a,_,c⟩,_⟩;exact⟨o,_,a,c⟩
 keep:=by rintro k h h' ⟨a,b⟩ k1 k2;exact⟨a.at k1,by obtain⟨o,e,r⟩:=b;exact⟨o,k2 o e,r⟩⟩
 item:=λA k s x Q E ⟨a,b⟩ hx q=>Cb a b (by simp_all) λh' a' sb=>q h' ⟨a',let ⟨o,e,r⟩:=b;⟨o,(sb.2 l (Am a b).symm).trans e,r⟩⟩ sb
 done:=λA k s Q E hh ⟨a,b⟩ hx q=>uP hh a b (by simp_all) q
structure ZA(z TI TO i1 i2 l1 l2:Addr):Prop where
 a1:TI≠z
 a2:TO≠z
 a3:i1≠z
 a4:i2≠z
 a5:TI≠TO
 a6:TI≠i1
 a7:TI≠i2
 a8:TO≠i1
 a9:TO≠i2
 b1:i1≠i2
 b2:l1≠z
 b3:l1≠TO
 b4:l1≠i2
 b5:l2≠z
 b6:l2≠TO
 b7:l2≠i1
variable {st1 st2:Nat->Heap->Prop} {xs ys:YD} {z TI TO i1 i2 l1 l2:Addr} {k:Nat} {a b:Value}
theorem aK(sb:Heap.SameBut c h h')(ne:d≠c)(e:h.get? d=some o):h'.get? d=some o:=(sb.2 d ne).trans e
theorem G2(D:ZA z TI TO i1 i2 l1 l2)(N1:Nx P w i1 l1 st1 xs)(N2:Nx P w i2 l2 st2 ys){Q:Yw}(hz:IsZip s.heap z TI TO .none)(hI:IsPair s.heap TI (.ref i1) (.ref i2))(hO:IsPair s.heap TO a b)
 (s1:st1 k s.heap)(s2:st2 k s.heap)(hx:xs[k]?=some x)(hy:ys[k]?=some y)
 (q:∀h',IsZip h' z TI TO (rawInt #[10])->IsPair h' TO x y->st1 (k+1) h'->st2 (k+1) h'->IsPair h' #[10] x y ->
   (∀c o,c≠z->c≠TO->c≠i1->c≠i2->s.heap.get? c=some o->h'.get? c=some o)->Q (.ref #[10]) {s with heap:=h'}) :
  wpAny #[14] A (Builtin.«zip.__next__» ⟨[.ref z],[]⟩) (λfin s'=>∃v,fin=.done (.ret v)/\Q v s') E s:=by
 show wpAny _ _ (field (Value.ref z) 2 >>= _) _ _ _;refine UE (VS (x:=Value.bool false) hz rfl rfl ?_);show wpAny _ _ (field (Value.ref z) 3 >>= _) _ _ _;refine UE (VS (x:=Value.ref TI) hz rfl rfl ?_);refine UE (VI hI rfl ?_);show wpAny _ _ (Builtin.SmallTypes.ownedTupleIsFree (Value.ref z) >>= _) _ _ _;refine UE ?_;unfold Builtin.SmallTypes.ownedTupleIsFree;refine UE (VS (x:=Value.none) hz rfl rfl (UH ?_));simp only[VT];refine UE (V5 (UE (VS (x:=Value.ref TO) hz rfl rfl ?_)));refine UE (Wo hz #[6] λg1 z1 e1=>?_);have z1:IsZip g1 z TI TO .ellipsis:=z1;refine UE ?_;simp only[List.zipIdx_nil,Yt,XT,Wd];refine UE (UE (wpAny_onRaise ?_));show wpAny _ _ (Builtin.SmallTypes.nextOf (Value.ref i1) >>= _) _ _ _;refine UE (N1.item _ k _ x _ _ (N1.keep _ _ _ s1 (λo=>aK e1 D.a3) λo=>aK e1 D.b2) hx λg2 t1 e2=>UH ?_);have O2:IsPair g2 TO a b:=aK e2 D.a8 (aK e1 D.a2 hO);refine UE (VI O2 rfl (UE (X4 O2 λg3 O3 e3=>?_)));have O3:IsPair g3 TO x b:=O3;refine UE (wpAny_letGo (UH (UE (UE (wpAny_onRaise ?_)))));show wpAny _ _ (Builtin.SmallTypes.nextOf (Value.ref i2) >>= _) _ _ _;refine UE (N2.item _ k _ y _ _ (N2.keep _ _ _ s2 (λo e=>aK e3 D.a9.symm (aK e2 D.b1.symm (aK e1 D.a4 e))) λo e=>aK e3 D.b6 (aK e2 D.b7 (aK e1 D.b5 e))) hy λg4 t2 e4=>UH ?_);have O4:IsPair g4 TO x b:=aK e4 D.a9 O3;refine UE (VI O4 rfl (UE (X4 O4 λg5 O5 e5=>?_)));have O5:IsPair g5 TO x y:=O5;refine UE (wpAny_letGo (UH (UH (UE (VI O5 rfl (UE (Yk ?_)))))));have sz:g5.objs.size=#[10]:=by rw[e5.1,e4.1,e3.1,e2.1,e1.1]
 have z5:IsZip g5 z TI TO .ellipsis:=aK e5 D.a2.symm (aK e4 D.a4.symm (aK e3 D.a2.symm (aK e2 D.a3.symm z1)));have zlt:z<g5.objs.size:=UL z5;have u1:st1 (k+1) g5:=N1.keep _ _ _ t1 (λo e=>aK e5 D.a8.symm (aK e4 D.b1 (aK e3 D.a8.symm e))) λo e=>aK e5 D.b3 (aK e4 D.b4 (aK e3 D.b3 e));have u2:st2 (k+1) g5:=N2.keep _ _ _ t2 (λo e=>aK e5 D.a9.symm e) λo e=>aK e5 D.b6 e;show wpAny _ _ (Builtin.SmallTypes.ownedTupleHandOut (Value.ref z) (.ref g5.objs.size) >>= _) _ _ _;refine UE ?_;unfold Builtin.SmallTypes.ownedTupleHandOut;have z6:IsZip (g5.push {cls:=.type "tuple",data:=.seq #[x,y]}) z TI TO .ellipsis:=UG _ z5;refine UE (Wo z6 #[6] λg7 z7 e7=>?_);have z7:IsZip g7 z TI TO (rawInt g5.objs.size):=z7;refine Wo z7 #[6] λg8 z8 e8=>?_;have z8:IsZip g8 z TI TO (rawInt g5.objs.size):=z8;have up:∀c o,c≠z->g5.get? c=some o->g8.get? c=some o:=λc o n e=>aK e8 n (aK e7 n (UG _ e));have nw:IsPair g8 g5.objs.size x y:=aK e8 (Xn zlt) (aK e7 (Xn zlt) (UK _ rfl));rw[sz]at z8 nw;refine UH ⟨_,rfl,?_⟩;show Q (.ref g5.objs.size) _;rw[sz]
 exact q g8 z8 (up _ _ D.a2 O5) (N1.keep _ _ _ u1 (λo=>up _ o D.a3) λo=>up _ o D.b2) (N2.keep _ _ _ u2 (λo=>up _ o D.a4) λo=>up _ o D.b5) nw λc o n1 n2 n3 n4 e=>
  up c o n1 (aK e5 n2 (aK e4 n4 (aK e3 n2 (aK e2 n3 (aK e1 n1 e)))))
theorem J7(hh:A.handled=none)(D:ZA z TI TO i1 i2 l1 l2)(N1:Nx P w i1 l1 st1 xs)(N2:Nx P w i2 l2 st2 ys)(hz:IsZip s.heap z TI TO .none)(hI:IsPair s.heap TI (.ref i1) (.ref i2))(hO:IsPair s.heap TO a b)
 (s1:st1 k s.heap)(s2:st2 k s.heap)(hend:xs[k]?=none\/ys[k]?=none)
 (q:∀h' e,(∀c o,c≠z->c≠TO->c≠i1->c≠i2->s.heap.get? c=some o->h'.get? c=some o)->(∃o,h'.get? e=some o/\o.cls=.type "StopIteration")->E (.ref e) {s with heap:=h'}) :
  wpAny #[14] A (Builtin.«zip.__next__» ⟨[.ref z],[]⟩) Q E s:=by
 show wpAny _ _ (field (Value.ref z) 2 >>= _) _ _ _;refine UE (VS (x:=Value.bool false) hz rfl rfl ?_);show wpAny _ _ (field (Value.ref z) 3 >>= _) _ _ _;refine UE (VS (x:=Value.ref TI) hz rfl rfl ?_);refine UE (VI hI rfl ?_);show wpAny _ _ (Builtin.SmallTypes.ownedTupleIsFree (Value.ref z) >>= _) _ _ _;refine UE ?_;unfold Builtin.SmallTypes.ownedTupleIsFree;refine UE (VS (x:=Value.none) hz rfl rfl (UH ?_));simp only[VT];refine UE (V5 (UE (VS (x:=Value.ref TO) hz rfl rfl ?_)));refine UE (Wo hz #[6] λg1 z1 e1=>?_);have z1:IsZip g1 z TI TO .ellipsis:=z1;refine UE ?_;simp only[List.zipIdx_nil,Yt,XT,Wd];refine UE (UE (wpAny_onRaise ?_));show wpAny _ _ (Builtin.SmallTypes.nextOf (Value.ref i1) >>= _) _ _ _;have t1:st1 k g1:=N1.keep _ _ _ s1 (λo=>aK e1 D.a3) λo=>aK e1 D.b2
 cases hx:xs[k]? with
 |none=>
  refine UE (N1.done _ k _ _ _ hh t1 hx λg2 e e2 ⟨oe,he,ce⟩=>?_);have z2:IsZip g2 z TI TO .ellipsis:=e2 _ _ D.a3.symm z1;have ne:e≠z:=λr=>by rw[r,z2]at he;cases he;exact absurd (show Value.type "zip" = Value.type "StopIteration" from ce) #[5]
  exact Wo z2 #[6] λg3 _ e3=>q g3 e (λc o n1 _ n3 _ r=>aK e3 n1 (e2 _ _ n3 (aK e1 n1 r))) ⟨oe,aK e3 ne he,ce⟩
 |some x=>
  have hy:ys[k]?=none:=by
   rcases hend with r|r
   ·rw[hx]at r;cases r
   ·exact r
  refine UE (N1.item _ k _ x _ _ t1 hx λg2 t1 e2=>UH ?_);have O2:IsPair g2 TO a b:=aK e2 D.a8 (aK e1 D.a2 hO);refine UE (VI O2 rfl (UE (X4 O2 λg3 O3 e3=>?_)));refine UE (wpAny_letGo (UH (UE (UE (wpAny_onRaise ?_)))));show wpAny _ _ (Builtin.SmallTypes.nextOf (Value.ref i2) >>= _) _ _ _;refine UE (N2.done _ k _ _ _ hh (N2.keep _ _ _ s2 (λo e=>aK e3 D.a9.symm (aK e2 D.b1.symm (aK e1 D.a4 e))) λo e=>aK e3 D.b6 (aK e2 D.b7 (aK e1 D.b5 e))) hy λg4 e e4 ⟨oe,he,ce⟩=>?_);have z4:IsZip g4 z TI TO .ellipsis:=e4 _ _ D.a4.symm (aK e3 D.a2.symm (aK e2 D.a3.symm z1));have ne:e≠z:=λr=>by rw[r,z4]at he;cases he;exact absurd (show Value.type "zip" = Value.type "StopIteration" from ce) #[5]
  exact Wo z4 #[6] λg5 _ e5=>q g5 e (λc o n1 n2 n3 n4 r=>aK e5 n1 (e4 _ _ n4 (aK e3 n2 (aK e2 n3 (aK e1 n1 r))))) ⟨oe,aK e5 ne he,ce⟩
end
section
variable {P:YL} {w:World} {A:YN} {E:Yw} {s:YO}
structure P9(h h':Heap)(l1 l2:Addr):Prop where
 z:IsZip h' (h.objs.size+4) (h.objs.size+2) (h.objs.size+3) .none
 ti:IsPair h' (h.objs.size+2) (.ref h.objs.size) (.ref (h.objs.size+1))
 to:IsPair h' (h.objs.size+3) .none .none
 i1:h'.IsTupleIter h.objs.size l1 0
 i2:h'.IsTupleIter (h.objs.size+1) l2 0
 sz:h'.objs.size=h.objs.size+5
 keep:∀c o,h.get? c=some o->h'.get? c=some o
noncomputable abbrev rL(h:Heap)(u:Addr):Heap:=h.push {cls:=.type "tuple_iterator",data:=.fields #[.ref u,.int 0 0]}
noncomputable abbrev ND(h:Heap)(a b:Addr):Heap:=h.push {cls:=.type "tuple",data:=.seq #[.ref a,.ref b]}
noncomputable abbrev Qa(h:Heap):Heap:=h.push {cls:=.type "tuple",data:=.seq #[.none,.none]}
noncomputable abbrev Uk(h:Heap)(a b:Addr):Heap:=h.push {cls:=.type "zip",data:=.fields #[.none,.bool false,.bool false,.ref a,.ref b]}
noncomputable abbrev Cc(h:Heap)(l1 l2:Addr):Heap:=Uk (Qa (ND (rL (rL h l1) l2) h.objs.size (rL h l1).objs.size)) (rL (rL h l1) l2).objs.size (ND (rL (rL h l1) l2) h.objs.size (rL h l1).objs.size).objs.size
theorem G3(h:Heap)(l1 l2:Addr):P9 h (Cc h l1 l2) l1 l2:=by
 have e1:(rL h l1).objs.size=h.objs.size+1:=VH ..;have e2:(rL (rL h l1) l2).objs.size=h.objs.size+2:=by simp_all
 have e3:(ND (rL (rL h l1) l2) h.objs.size (rL h l1).objs.size).objs.size=h.objs.size+3:=by simp_all
 have e4:(Qa (ND (rL (rL h l1) l2) h.objs.size (rL h l1).objs.size)).objs.size=h.objs.size+4:=by simp_all
 have p5:(Cc h l1 l2).get? (Qa _).objs.size=some _:=UK _ rfl;have p4:(Cc h l1 l2).get? (ND _ h.objs.size (rL h l1).objs.size).objs.size=some _:=UG _ (UK _ rfl);have p3:(Cc h l1 l2).get? (rL (rL h l1) l2).objs.size=some _:=UG _ (UG _ (UK _ rfl));have p2:(Cc h l1 l2).get? (rL h l1).objs.size=some _:=UG _ (UG _ (UG _ (UK _ rfl)));have p1:(Cc h l1 l2).get? h.objs.size=some _:=UG _ (UG _ (UG _ (UG _ (UK _ rfl))));rw[e2,e3,e4]at p5;rw[e3]at p4;rw[e2,e1]at p3;rw[e1]at p2;exact⟨p5,p3,p4,⟨_,p1,rfl,rfl⟩,⟨_,p2,rfl,rfl⟩,by simp_all,λc o e=>UG _ (UG _ (UG _ (UG _ (UG _ e))))⟩
theorem An(l1 l2:Addr)(xs ys:YJ) :
  Meets (Builtin.«zip.__new__» ⟨[.type "zip",.ref l1,.ref l2],[]⟩) (λ_ R s=>s.heap.IsTuple l1 xs/\s.heap.IsTuple l2 ys/\R (.ok (.ret (.ref (Qa (ND (rL (rL s.heap l1) l2) #[10] (rL s.heap l1).objs.size)).objs.size))) {s with heap:=Cc s.heap l1 l2}):=
 .of_wp λprog w A R s h=>by
  obtain⟨hp,g,d,tk,os⟩:=s;obtain⟨t1,t2,h⟩:=h;have hsub:=sub_zip;have T1:Heap.IsTuple (Shared.heap ⟨hp,g,d,tk,os⟩) l1 xs:=t1;have T2:Heap.IsTuple (Shared.heap ⟨hp.push {cls:=.type "tuple_iterator",data:=.fields #[.ref l1,.int 0 0]},g,d,tk,os⟩) l2 ys:=Heap.IsTuple.push t2 _
  wp_walk using Xs T1,Xs T2
  exact⟨_,rfl,h⟩
theorem yK(t1:s.heap.IsTuple l1 xs)(t2:s.heap.IsTuple l2 ys)(q:∀h',P9 s.heap h' l1 l2->Q (.ref (#[10]+4)) {s with heap:=h'}) :
  wpAny #[14] A (call (.type "zip") [.ref l1,.ref l2]) Q E s:=by
 refine callType_new F.called_zip #[5] (F.typeCall_zip_2 _ _) (F.newCall_zip_2 _ _) (λobj=>F.args_object_init_3 obj _ _) F.entry_zip_new (An l1 l2 xs ys) ⟨t1,t2,?_⟩;have n:=G3 s.heap l1 l2
 have e4:(Qa (ND (rL (rL s.heap l1) l2) #[10] (rL s.heap l1).objs.size)).objs.size=#[10]+4:=by
  simp_all
 show _/\_;rw[e4];exact⟨⟨_,n.z,rfl⟩,q _ n⟩
theorem xb{z TI TO i1 i2 l1 l2:Addr}{xs ys:YD}(D:ZA z TI TO i1 i2 l1 l2)(hz:IsZip s.heap z TI TO .none)(hI:IsPair s.heap TI (.ref i1) (.ref i2))(hO:IsPair s.heap TO a b)
 (t1:s.heap.IsTupleIter i1 l1 k)(t2:s.heap.IsTupleIter i2 l2 k)(h1:s.heap.IsTuple l1 xs.toArray)(h2:s.heap.IsTuple l2 ys.toArray)(hx:xs[k]?=some x)(hy:ys[k]?=some y)
 (q:∀h',IsZip h' z TI TO (rawInt #[10])->IsPair h' TO x y->h'.IsTupleIter i1 l1 (k+1)->h'.IsTupleIter i2 l2 (k+1)->IsPair h' #[10] x y ->
   (∀c o,c≠z->c≠TO->c≠i1->c≠i2->s.heap.get? c=some o->h'.get? c=some o)->Q (some (.ref #[10])) {s with heap:=h'}):wpAny #[14] A (pyNext (.ref z)) Q E s:=by
 have hT:s.TypeIs (.ref z) "zip" := ⟨_,hz,rfl⟩;refine UE (Wq (Vm hT Yb (Vc Yb hT F.entry_zip_next ?_ (F.args_zip_next_1 _))));exact G2 D (yJ i1 l1 xs) (yJ i2 l2 ys) hz hI hO ⟨t1,h1⟩ ⟨t2,h2⟩ hx hy λh' a1 a2 a3 a4 a5 a6=>UH (q h' a1 a2 a3.1 a4.1 a5 a6)
theorem yL{z TI TO i1 i2 l1 l2:Addr}{xs ys:YD}(hh:A.handled=none)(D:ZA z TI TO i1 i2 l1 l2)(hz:IsZip s.heap z TI TO .none)(hI:IsPair s.heap TI (.ref i1) (.ref i2))(hO:IsPair s.heap TO a b)
 (t1:s.heap.IsTupleIter i1 l1 k)(t2:s.heap.IsTupleIter i2 l2 k)(h1:s.heap.IsTuple l1 xs.toArray)(h2:s.heap.IsTuple l2 ys.toArray)(hend:xs[k]?=none\/ys[k]?=none)
 (q:∀h',(∀c o,c≠z->c≠TO->c≠i1->c≠i2->s.heap.get? c=some o->h'.get? c=some o)->Q none {s with heap:=h'}):wpAny #[14] A (pyNext (.ref z)) Q E s:=by
 have hT:s.TypeIs (.ref z) "zip" := ⟨_,hz,rfl⟩;refine UE (Wq (Vm hT Yb (Vc Yb hT F.entry_zip_next ?_ (F.args_zip_next_1 _))));refine J7 (A:=A.in1) hh D (yJ i1 l1 xs) (yJ i2 l2 ys) hz hI hO ⟨t1,h1⟩ ⟨t2,h2⟩ hend λh' e hk ⟨o,ho,hc⟩=>?_;exact UE (X1 ⟨o,ho,hc⟩ isSubtype_stop (UH (q _ hk)))
end
noncomputable def TJ(K:YE)(a1 a2:Addr):It:=
 ⟨λi H=>∃xs ys x y,gm K H a1 xs/\gm K H a2 ys/\xs[i]?=some x/\ys[i]?=some y,
  λi H v H'=>∃p x y,v=.ref p/\H p=none/\H'=upd H p (.tup [x,y])/\(∀xs,gm K H a1 xs->xs[i]?=some x)/\∀ys,gm K H a2 ys->ys[i]?=some y,
  λi H=>∃xs ys,gm K H a1 xs/\gm K H a2 ys/\(xs.length<=i\/ys.length<=i)⟩
theorem G4{K:YE}(a1 a2 z TI TO i1 i2:Addr)(D:ZA z TI TO i1 i2 a1 a2):Turn P w K (.Tuple es kk tpos) (TJ K a1 a2) [z,TI,TO,i1,i2] z
  (λk h=>IsZip h z TI TO .none/\IsPair h TI (.ref i1) (.ref i2)/\(∃a b,IsPair h TO a b)/\h.IsTupleIter i1 a1 k/\h.IsTupleIter i2 a2 k) where
 mem:=UW
 obj:=λk h st b hb=>by
  obtain⟨hz,hI,⟨a,c,hO⟩,⟨o1,e1,_,d1⟩,⟨o2,e2,_,d2⟩⟩:=st
  grind
 keep:=λk h h' st kp=>by obtain⟨hz,hI,⟨a,c,hO⟩,t1,t2⟩:=st;exact⟨kp z #[6] _ hz,kp TI #[6] _ hI,⟨a,c,kp TO #[6] _ hO⟩,t1.at (kp i1 #[6]),t2.at (kp i2 #[6])⟩
 item:=by
  intro X hP hw hK hc i pins s σ H E I hf st hg;subst hP hw hK;obtain⟨xs,ys,x,y,q1,q2,hx,hy⟩:=hg;obtain⟨its1,r1,p1,_⟩:=I.tuple q1;obtain⟨its2,r2,p2,_⟩:=I.tuple q2;obtain⟨u1,hu1,ru1⟩:=r1.get hx;obtain⟨u2,hu2,ru2⟩:=r2.get hy;obtain⟨hz,hI,⟨a,c,hO⟩,t1,t2⟩:=st;refine xb D hz hI hO t1 t2 (show s.heap.IsTuple a1 its1.toArray from p1) (show s.heap.IsTuple a2 its2.toArray from p2) hu1 hu2 λh' z' o' t1' t2' nw kp=>?_;refine⟨_,rfl,wpAny_letOwnedTupleGo_zip z' λh2 z2 sb=>?_⟩;have lt:∀{b:Addr} {o:Obj},s.heap.get? b=some o->b≠#[10]:=λe=>UR (UL e);have nz:#[10]≠z:=(lt hz).symm;have hf0:H #[10]=none:=I.hok.fresh (UJ _);have hI2:IsPair h2 TI (.ref i1) (.ref i2):=aK sb D.a1 (kp _ _ D.a1 D.a5 D.a6 D.a7 hI);have kall:∀b o,b∉[z,TI,TO,i1,i2]->s.heap.get? b=some o->h2.get? b=some o:=λb o hb e=>by simp only[UO,Vd,Wi,not_or]at hb;exact aK sb hb.1 (kp b o hb.1 hb.2.2.1 hb.2.2.2.1 hb.2.2.2.2 e)
  have xB:∀{b:Addr} {u:HO},H b=some u->b∉[z,TI,TO,i1,i2]:=λ{b u} e hb=>by rw[(hf b hb).1]at e;cases e
  have there:∀b o,s.heap.get? b=some o->∃o',h2.get? b=some o':=λb o e=>by
   by_cases hb:b∈[z,TI,TO,i1,i2]
   ·simp only[UO,Vd,Wi]at hb;rcases hb with rfl|rfl|rfl|rfl|rfl
    ·exact⟨_,z2⟩
    ·exact⟨_,hI2⟩
    ·exact⟨_,aK sb D.a2 o'⟩
    ·obtain⟨_,e1,_⟩:=t1';exact⟨_,aK sb D.a3 e1⟩
    ·obtain⟨_,e1,_⟩:=t2';exact⟨_,aK sb D.a4 e1⟩
   ·exact⟨o,kall b o hb e⟩
  have hokN:lu X.prog X.w (upd H #[10] (.tup [x,y])) h2:=λb u e=>by
   by_cases hb:b=#[10]
   ·subst hb;rw[aM]at e;cases e;exact⟨by show 2<=sizeLine;decide,[u1,u2],.cons ru1 (.cons ru2 .nil),⟨_,aK sb nz nw,rfl,_,rfl⟩⟩
   ·rw[aD hb]at e;refine(I.hok b u e).pY (λd v hd r=>kall d v ?_ r) (λd r=>by rw[aD (aJ r hf0)];exact r) λd vs r=>by rw[aD (aJ r hf0)];exact r
    rcases hd with rfl|hd
    ·exact xB e
    ·exact xB hd
  have I2:Inv X pins σ (upd H #[10] (.tup [x,y])) {s with heap:=h2}:=by
   refine I.step (g':=s.gens) (d':=s.drawn) (t':=s.toks) (ch:=[z,TI,TO,i1,i2]) (λb hb=>⟨(hf b hb).2.2.2.1,(hf b hb).2.1,(hf b hb).2.2.2.2.1,(hf b hb).2.2.2.2.2⟩) (λb o _ _ hb e _=>kall b o hb e) (λb o _ _ hb e _=>⟨o.slots,kall b o hb e⟩)
    (λb o _ e n=>by rw[aD (lt e)];exact n) (λb o _ e=>there b o e) (λb vs e=>by rw[aD (aJ e hf0)];exact e) (λb o v e=>by rw[aD (aJ e hf0)];exact e) (λb ps e=>⟨#[],by rw[aD (aJ e hf0),e];simp⟩) (λm hm=>?_) hokN I.bare
   obtain⟨o,es',ep,e,r⟩:=hm;exact⟨o,es',ep,kall _ o (λhb=>(hf _ hb).2.1 rfl) e,r⟩
  refine⟨.ref #[10],_,I2,rfl,⟨_,x,y,rfl,hf0,rfl,λvs h=>by rw[I.rG h q1];exact hx,λvs h=>by rw[I.rG h q2];exact hy⟩,⟨z2,hI2,⟨_,_,aK sb D.a2 o'⟩,t1'.at λo e=>aK sb D.a3 e,t2'.at λo e=>aK sb D.a4 e⟩,λb hb=>?_⟩;have hb':=(hf b hb).1;by_cases e:b=#[10]
  ·exfalso;simp only[UO,Vd,Wi]at hb;rcases hb with r|r|r|r|r
   ·exact lt hz (r▸e)
   ·exact lt hI (r▸e)
   ·exact lt hO (r▸e)
   ·obtain⟨_,e1,_⟩:=t1;exact lt e1 (r▸e)
   ·obtain⟨_,e1,_⟩:=t2;exact lt e1 (r▸e)
  ·rw[aD e];exact hb'
 done:=by
  intro X hP hw hK hc i pins s σ H E I hf st hg;subst hP hw hK;obtain⟨xs,ys,q1,q2,hl⟩:=hg;obtain⟨its1,r1,p1,_⟩:=I.tuple q1;obtain⟨its2,r2,p2,_⟩:=I.tuple q2;obtain⟨hz,hI,⟨a,c,hO⟩,t1,t2⟩:=st;refine yL (I.ok.hd hc) D hz hI hO t1 t2 (show s.heap.IsTuple a1 its1.toArray from p1) (show s.heap.IsTuple a2 its2.toArray from p2) ?_ λh' kp=>⟨rfl,?_⟩
  ·have e1:=r1.length;have e2:=r2.length;rcases hl with r|r
   ·exact .inl (List.getElem?_eq_none_iff.mpr #[4])
   ·exact .inr (List.getElem?_eq_none_iff.mpr #[4])
  ·have kall:∀b o,b∉[z,TI,TO,i1,i2]->s.heap.get? b=some o->h'.get? b=some o:=λb o hb e=>by
    simp only[UO,Vd,Wi,not_or]at hb;exact kp b o hb.1 hb.2.2.1 hb.2.2.2.1 hb.2.2.2.2 e
   have xB:∀{b:Addr} {u:HO},H b=some u->b∉[z,TI,TO,i1,i2]:=λ{b u} e hb=>by rw[(hf b hb).1]at e;cases e
   refine I.step (g':=s.gens) (d':=s.drawn) (t':=s.toks) (ch:=[z,TI,TO,i1,i2]) (λb hb=>⟨(hf b hb).2.2.2.1,(hf b hb).2.1,(hf b hb).2.2.2.2.1,(hf b hb).2.2.2.2.2⟩) (λb o _ _ hb e _=>kall b o hb e) (λb o _ _ hb e _=>⟨o.slots,kall b o hb e⟩)
    (λb o _ e n=>n) (λb o hb e=>⟨o,kall b o hb e⟩) (λb vs e=>e) (λb o v e=>e) (λb ps e=>⟨#[],by rw[e];simp⟩) (λm hm=>?_) (λb u e=>(I.hok b u e).pY (λd v hd r=>kall d v ?_ r) (λ_ r=>r) λ_ _ r=>r) I.bare
   ·obtain⟨o,es',ep,e,r⟩:=hm;exact⟨o,es',ep,kall _ o (λhb=>(hf _ hb).2.1 rfl) e,r⟩
   ·rcases hd with rfl|hd
    ·exact xB e
    ·exact xB hd
 self:=λ_ _ _ _ _ st h=>wpAny_pyIter_zip st.1 h
section
variable {X:Cx} {es:YG} {kk:Nat} {tpos:Pos}
theorem Sn(a b:Nat)(h:a≠b):@Ne Addr a b:=h
theorem Qb(n a b:Nat)(h1:a<n)(h2:b<n):ZA (n+4) (n+2) (n+3) n (n+1) a b:=by constructor<;>refine Sn _ _ ?_<;>omega
noncomputable def So(K:YE)(ta:TA):TI:=λσ H R=>ta σ H λvs H1=>∃a1 a2 xs ys,vs=[.ref a1,.ref a2]/\gm K H1 a1 xs/\gm K H1 a2 ys/\R (TJ K a1 a2) H1
theorem NF{p pos:Pos}(hg:Gl X "zip")(hm:X.mg "zip" = none)(ha:PA X [e1,e2] ta)(hs:starEach [e1,e2] X.env=[(false,eval e1 X.env),(false,eval e2 X.env)]:=by rfl)(hs2:starEach [e2] X.env=[(false,eval e2 X.env)]:=by rfl) :
  PI X (.Tuple es kk tpos) (.Call (.Name "zip" p) [e1,e2] [] pos) (So X.K ta):=by
 intro pins s σ H R I h;refine Call_ (o7 I hg hm (by rfl:bootBuiltins "zip" = some (.type "zip")) (Wc (cU (ha pos pins s σ H _ I h) λus s1 ⟨vs,H1,I1,r1,q1⟩=>?_) (by grind) (by rw[hs2];rfl)));obtain⟨a1,a2,xs,ys,e,t1,t2,q⟩:=q1;subst e
 cases r1 with
 |cons r rr=>
  cases rr with
  |cons r' rr=>
   cases rr;cases r;cases r';obtain⟨its1,v1,p1,_⟩:=I1.tuple t1;obtain⟨its2,v2,p2,_⟩:=I1.tuple t2;have L1:a1<s1.heap.objs.size:=by obtain⟨_,e,_⟩:=p1;exact UL e
   have L2:a2<s1.heap.objs.size:=by obtain⟨_,e,_⟩:=p2;exact UL e
   refine yK (show s1.heap.IsTuple a1 its1.toArray from p1) (show s1.heap.IsTuple a2 its2.toArray from p2) λh' N=>?_;refine wpAny_pyIter_zip (s:={s1 with heap:=h'}) N.z ?_;have I2:Inv X pins σ H1 {s1 with heap:=h'}:=I1.kept (t':=s1.toks) N.keep;refine⟨s1.heap.objs.size+4,[s1.heap.objs.size+4,s1.heap.objs.size+2,s1.heap.objs.size+3,s1.heap.objs.size,s1.heap.objs.size+1],_,_,H1,rfl,I2,G4 a1 a2 _ _ _ _ _ (Qb _ _ _ L1 L2),⟨N.z,N.ti,⟨_,_,N.to⟩,N.i1,N.i2⟩,λb hb=>?_,q⟩
   have ge:s1.heap.objs.size<=b:=by
    simp only[UO,Vd,Wi]at hb;rcases hb with rfl|rfl|rfl|rfl|rfl
    ·exact X2 _ _
    ·exact X2 _ _
    ·exact X2 _ _
    ·exact UJ _
    ·exact X2 _ _
   exact I1.GL ge (I1.hok.fresh ge)
end
section
variable {κ:Type} [DecidableEq κ]
noncomputable def t6(kvs:List (κ×V))(k:κ):Option V:=(kvs.find? λkv=>decide (kv.1=k)).map (·.2)
noncomputable def putK(kvs:List (κ×V))(k:κ)(v:V):List (κ×V):=
 if(kvs.any λkv=>decide (kv.1=k))=true then kvs.map (λkv=>if kv.1=k then(kv.1,v)else kv)else kvs++[(k,v)]
theorem qd{k:κ}(e:p.1=k):t6 (p::r) k=some p.2:=by simp[t6,e]
theorem qe{k:κ}(e:¬ p.1=k):t6 (p::r) k=t6 r k:=by simp[t6,e]
theorem qf(k:κ):∀kvs:List (κ×V),(kvs.any λkv=>decide (kv.1=k))=(t6 kvs k).isSome
 | []=>rfl
 |p::r=>by
  rw[Yq];by_cases e:p.1=k
  ·simp[qd,e]
  ·rw[qe e,Vj e,Bool.false_or];exact qf k r
theorem lQ(kvs:List (κ×V))(k:κ)(v:V):(putK kvs k v).length<=kvs.length+1:=by
 grind[putK,List.length_map,List.length_append,List.length_cons,List.length_nil]
theorem uF.jK(r:uF o u):o.isSome=u.isSome:=by
 cases o with
 |none=>cases u with
  |none=>rfl
  |some _=>trivial
 |some _=>cases u with
  |none=>trivial
  |some _=>rfl
theorem KV.val(r:KV kvs vs)(k:κ):uF (t6 kvs k) (valueAt vs k):=by
 induction r with
 |nil=>trivial
 | @cons p q ps qs h t ih=>
  obtain⟨h1,h2⟩:=h;by_cases e:p.1=k
  ·have e'  := h1.symm.trans e;have b:valueAt (q::qs) k=some q.2:=by simp[valueAt,e']
   rw[qd e,b];exact h2
  ·have e':¬ q.1=k:=λz=>e (h1.trans z);have b:valueAt (q::qs) k=valueAt qs k:=by simp[valueAt,e']
   rw[qe e,b];exact ih
theorem KV.any(r:KV kvs vs)(k:κ):(kvs.any λkv=>decide (kv.1=k))=vs.any λkv=>decide (kv.1=k):=by
 induction r with
 |nil=>rfl
 |cons h t ih=>simp_all
theorem KV.NG(r:KV kvs vs)(k:κ)(ry:RelV y u) :
  KV (kvs.map λkv=>if kv.1=k then(kv.1,y)else kv) (vs.map λkv=>if kv.1=k then(kv.1,u)else kv):=by
 unfold KV at r ⊢
 induction r with
 |nil=>exact .nil
 | @cons p q ps qs h t ih=>
  rw[Vn,Vn];refine .cons ?_ ih;obtain⟨h1,h2⟩:=h;by_cases e:p.1=k
  ·rw[if_pos e,if_pos (h1.symm.trans e)];exact⟨h1,ry⟩
  ·rw[if_neg e,if_neg (λz=>e (h1.trans z))];exact⟨h1,h2⟩
theorem KV.put(r:KV kvs vs)(k:κ)(ry:RelV y u):KV (putK kvs k y) (stored vs k u):=by
 unfold putK stored;rw[r.any k];by_cases e:(vs.any λkv=>decide (kv.1=k))=true
 ·rw[if_pos e,if_pos e];exact r.NG k ry
 ·rw[if_neg e,if_neg e];exact Paired.snoc r ⟨rfl,ry⟩
theorem KV.length{vs:List (κ×Value)}(r:KV kvs vs):kvs.length=vs.length:=U9 r
end
theorem xM(r:RelV (kV k) u):(cX P w).is k u=true:=by
 cases k with
 |inl i=>obtain⟨t,e⟩:=(r);subst e;exact zZ P w i t
 |inr x=>obtain⟨t,e⟩:=(r);subst e;exact Aa P w x t
theorem xO:∀{ks:List Key} {us:YD},Vals (ks.map kV) us->ItemsAre (cX P w) ks us
 | [],_,r=>by cases r;exact .nil
 |k::ks,_,r=>by
  cases r with
  |cons h t=>exact .cons (xM h) (xO t)
noncomputable abbrev KT(H:Hp):List (List Key×V)->List (List Key×Addr×Value)->Prop:=Paired λp q=>p.1=q.1/\H q.2.1=some (.tup (p.1.map kV))/\RelV p.2 q.2.2
theorem KT.val(r:KT H kvs xs)(k:List Key):uF (t6 kvs k) ((atKey xs k).map (·.2)):=by
 induction r with
 |nil=>trivial
 | @cons p q ps qs h t ih=>
  obtain⟨h1,_,h2⟩:=h;by_cases e:p.1=k
  ·have e'  := h1.symm.trans e;have b:atKey (q::qs) k=some q.2:=by simp[atKey,e']
   rw[qd e,b];exact h2
  ·have e':¬ q.1=k:=λz=>e (h1.trans z);have b:atKey (q::qs) k=atKey qs k:=by simp[atKey,e']
   rw[qe e,b];exact ih
theorem KT.NG(r:KT H kvs xs)(k:List Key)(ry:RelV y u) :
  KT H (kvs.map λkv=>if kv.1=k then(kv.1,y)else kv) (xs.map (putAt k u)):=by
 induction r with
 |nil=>exact .nil
 | @cons p q ps qs h t ih=>
  rw[Vn,Vn];refine .cons ?_ ih;obtain⟨h1,h2,h3⟩:=h;unfold putAt;by_cases e:p.1=k
  ·rw[if_pos e,if_pos (h1.symm.trans e)];exact⟨h1,h2,ry⟩
  ·rw[if_neg e,if_neg (λz=>e (h1.trans z))];exact⟨h1,h2,h3⟩
theorem KT.put(r:KT H kvs xs)(k:List Key)(hb:H b=some (.tup (k.map kV)))(ry:RelV y u) :
  KT H (putK kvs k y) (storedH xs k b u):=by
 have e:(kvs.any λkv=>decide (kv.1=k))=(atKey xs k).isSome:=by rw[qf,(r.val k).jK,Yn]
 unfold putK storedH;rw[e];by_cases q:(atKey xs k).isSome=true
 ·rw[if_pos q,if_pos q];exact r.NG k ry
 ·rw[if_neg q,if_neg q];exact Paired.snoc r ⟨rfl,hb,ry⟩
theorem KT.keeps(r:KT H kvs xs)(ht:∀b ys,H b=some (.tup ys)->H' b=some (.tup ys)):KT H' kvs xs:=
 Paired.yx r λ_ _ z=>⟨z.1,ht _ _ z.2.1,z.2.2⟩
section
variable {P:YL} {w:World} {H:Hp} {h:Heap} {a:Addr}
theorem Ma(ok:lu P w H h)(e:Rd H a u):cC P w H h a u:=e.ok ok
theorem DM(ok:lu P w H h)(e:Rd H a (.dK kvs)):kvs.length<=sizeLine/\(a==sysModules)=false/\∃vs,KV kvs vs/\h.DictOf (cX P w) a vs:=
 show cC P w H h a (.dK kvs)from Ma ok e
theorem Mb(ok:lu P w H h)(e:H a=some (.dK kvs)):kvs.length<=sizeLine/\(a==sysModules)=false/\∃vs,KV kvs vs/\h.DictOf (cX P w) a vs:=DM ok (.inl e)
theorem uQ(ok:lu P w H h)(e:H a=some (.tup (ks.map kV))):(tupleKind (cX P w)).is h ks a:=by obtain⟨_,its,r,o,h1,h2,n,h3⟩:=(ok a _ e);exact⟨o,its.toArray,n,h1,h2,h3,by simpa using xO r⟩
theorem DN(ok:lu P w H h)(e:Rd H a (.dT kvs)):kvs.length<=sizeLine/\(a==sysModules)=false /\
  ∃xs,KT H kvs xs/\h.DictOfH (tupleKind (cX P w)) a xs:=by
 obtain⟨z,y,xs,r,o,es,ep,h1,h2,h3,h4,h5⟩:=(show cC P w H h a (.dT kvs)from Ma ok e);refine⟨z,y,xs,r,o,es,ep,h1,h2,h3,h4,λx hx=>?_,h5⟩
 have all:∀{l:List (List Key×V)} {m:List (List Key×Addr×Value)},KT H l m->∀x∈m,(tupleKind (cX P w)).is h x.1 x.2.1:=by
  intro l m q
  induction q with
  |nil=>grind
  | @cons p q ps qs hq t ih=>
   intro x hx;rcases UO.mp hx with e|hx
   ·subst e;exact uQ ok (by rw[<- hq.1];exact hq.2.1)
   ·exact ih x hx
 grind
theorem Qc(ok:lu P w H h)(e:H a=some (.dT kvs)):kvs.length<=sizeLine/\(a==sysModules)=false /\
  ∃xs,KT H kvs xs/\h.DictOfH (tupleKind (cX P w)) a xs:=DN ok (.inl e)
end
noncomputable def Ao(H:Hp)(a:Addr)(y:V)(r:Option V):Prop:=
 (∃kvs k,Rd H a (.dK kvs)/\y=kV k/\r=t6 kvs k)\/∃kvs k b,Rd H a (.dT kvs)/\y=.ref b/\H b=some (.tup (k.map kV))/\r=t6 kvs k
noncomputable def J8(H:Hp)(a:Addr)(y v:V)(H':Hp):Prop:=
 (∃kvs k,H a=some (.dK kvs)/\y=kV k/\kvs.length<sizeLine/\H'=upd H a (.dK (putK kvs k v))) \/
 ∃kvs k b,H a=some (.dT kvs)/\y=.ref b/\H b=some (.tup (k.map kV))/\kvs.length<sizeLine/\H'=upd H a (.dT (putK kvs k v))
theorem Ao.k{k:Key}(e:H a=some (.dK kvs)):Ao H a (kV k) (t6 kvs k):=.inl ⟨kvs,k,.inl e,rfl,rfl⟩
theorem J8.k{k:Key}{v:V}(e:H a=some (.dK kvs))(hl:kvs.length<sizeLine):J8 H a (kV k) v (upd H a (.dK (putK kvs k v))):=.inl ⟨kvs,k,e,rfl,hl,rfl⟩
section
variable {X:Cx} {pins:Yx} {σ:St} {H:Hp} {s:YO} {a:Addr} {y v:V} {u r:Value} {o:Option V} {A:YN} {E:Yw}
theorem Inv.big(I:#[11]):sysModules<#[10]:=by have h  := (I.mod.glob.keeps I.bk).lt;exact Nat.lt_trans #[5] h
theorem Fj(hu:A.units+1<cLine)(I:#[11])(g:Ao H a y (some v))(ry:RelV y u)(h:∀w' s',Inv X pins σ H s'->RelV v w'->Q w' s') :
  wpAny #[12] A (getItem (.ref a) u) Q E s:=by
 rcases g with⟨kvs,k,e,ey,l⟩|⟨kvs,k,b,e,ey,eb,l⟩
 ·subst ey;obtain⟨z,hd,vs,rel,dd⟩:=DM I.hok e;obtain⟨w',hw,rw'⟩:=uF.some_of (v:=v) (o:=valueAt vs k) (by rw[l];exact rel.val k);exact wpAny_getItem_of (xM ry) dd.mapOf hw (h w' _ (I.tok _) rw')
 ·subst ey;cases(show u=Value.ref b from ry);obtain⟨z,hd,xs,rel,dd⟩:=DN I.hok e;obtain⟨w',hw,rw'⟩:=uF.some_of (v:=v) (o:=(atKey xs k).map (·.2)) (by rw[l];exact rel.val k);obtain⟨p,hp,hp2⟩:=Vt.mp hw;refine wpAny_getItem_heap (Xx hu) (uQ I.hok eb) dd hp ?_;rw[hp2];exact h w' _ (I.tok _) rw'
theorem Sq(hu:A.units+1<cLine)(I:#[11])(g:Ao H a y o)(ry:RelV y u)(h:∀s',Inv X pins σ H s'->Q (.bool o.isSome) s') :
  wpAny #[12] A (compareOp .In u (.ref a)) Q E s:=by
 rcases g with⟨kvs,k,e,ey,l⟩|⟨kvs,k,b,e,ey,eb,l⟩
 ·subst ey;obtain⟨z,hd,vs,rel,dd⟩:=DM I.hok e;refine wpAny_in_of (xM ry) hd dd.mapOf ?_;rw[<- (rel.val k).jK,<- l];exact h _ (I.tok _)
 ·subst ey;cases(show u=Value.ref b from ry);obtain⟨z,hd,xs,rel,dd⟩:=DN I.hok e;refine wpAny_in_heap (Xx hu) (uQ I.hok eb) hd dd ?_;have q:=(rel.val k).jK;rw[Yn]at q;rw[<- q,<- l];exact h _ (I.tok _)
theorem J9(hu:A.units+1<cLine)(I:#[11])(g:Ao H a y o)(ry:RelV y u)(h:∀s',Inv X pins σ H s'->Q (.bool (!o.isSome)) s') :
  wpAny #[12] A (compareOp .NotIn u (.ref a)) Q E s:=by
 rcases g with⟨kvs,k,e,ey,l⟩|⟨kvs,k,b,e,ey,eb,l⟩
 ·subst ey;obtain⟨z,hd,vs,rel,dd⟩:=DM I.hok e;refine wpAny_notIn_of (xM ry) hd dd.mapOf ?_;rw[<- (rel.val k).jK,<- l];exact h _ (I.tok _)
 ·subst ey;cases(show u=Value.ref b from ry);obtain⟨z,hd,xs,rel,dd⟩:=DN I.hok e;refine wpAny_notIn_heap (Xx hu) (uQ I.hok eb) hd dd ?_;have q:=(rel.val k).jK;rw[Yn]at q;rw[<- q,<- l];exact h _ (I.tok _)
theorem uk(I:#[11])(mu:Ph (H a))(hs:Heap.SameBut a s.heap h')(he:∃q,h'.get? a=some q)(new:cC X.prog X.w (upd H a ob) h' a ob) :
  Inv X pins σ (upd H a ob) {s with heap:=h',toks:=t'}:=
 I.write (x:=a) (e:=a) mu (.inl rfl) (λb q hb z=>(hs.2 b hb).trans z) he new
theorem G5(z:kvs.length<=sizeLine)(hd:(a==sysModules)=false)(rel:KV kvs vs)(dd:h'.DictOf (cX P w) a vs) :
  cC P w H' h' a (.dK kvs):=⟨z,hd,vs,rel,dd⟩
theorem Fo(hu:A.units+1<cLine)(I:#[11])(g:J8 H a y v H')(ry:RelV y u)(rv:RelV v r)(h:∀s',Inv X pins σ H' s'->Q () s') :
  wpAny #[12] A (setItem (.ref a) u r) Q E s:=by
 rcases g with⟨kvs,k,e,ey,l,eH⟩|⟨kvs,k,b,e,ey,eb,l,eH⟩
 ·subst ey eH;obtain⟨z,hd,vs,rel,dd⟩:=Mb I.hok e;have hz:vs.length<=sizeLine:=by grind[rel.length]
  have hl:(putK kvs k v).length<=sizeLine:=by have:=lQ kvs k v;omega
  refine wpAny_setItem_pairs (hsz:=hz) (xM ry) dd λh' dd' hs=>h _ ?_;have he:∃q,h'.get? a=some q:=by obtain⟨q,_,_,hq,_⟩:=dd';grind
  exact uk I (by rw[e];exact True.intro) hs he (G5 hl hd (rel.put k rv) dd')
 ·subst ey eH;cases(show u=Value.ref b from ry);obtain⟨z,hd,xs,rel,dd⟩:=Qc I.hok e;have hz:xs.length<=sizeLine:=by rw[<- U9 rel];exact z
  have hl:(putK kvs k v).length<=sizeLine:=by have:=lQ kvs k v;omega
  refine wpAny_setItem_heap (hsz:=hz) (Xx hu) (uQ I.hok eb) dd λh' dd' hs=>h _ ?_;obtain⟨q,es,ep,hq,h2,h3,h4,_,h5⟩:=dd';refine uk I (by rw[e];exact True.intro) hs ⟨q,hq⟩ ⟨hl,hd,_,(rel.put k eb rv).keeps λc ys ec=>?_,q,es,ep,hq,h2,h3,h4,h5⟩;rw[aD (PF ec e (λz=>nomatch z))];exact ec
end
theorem Ap(h:Heap)(hb:sysModules<h.objs.size):cC P w H (h.push {cls:=.type "dict",data:=.dict #[]}) h.objs.size (.dK []):=
 ⟨WD _,beq_eq_false_iff_ne.mpr (X9 (UR hb)),[],.nil,Heap.DictOf.new h⟩
noncomputable def NH:TE:=λ_ H Q=>∀p,H p=none->Q (.ref p) (upd H p (.dK []))
section
variable {X:Cx} {pos:Pos}
theorem G6:PE X (.Dict [] [] pos) NH:=λpins s σ H Q I h=>
 wpAny_Dict_empty ⟨.ref #[10],_,I.laid (a:=#[10]) (o:=.dK []) (t':=s.toks) (λ_ _ q=>UG _ q) (UJ _) (Ap s.heap I.big),rfl,h _ (I.hok.fresh (UJ _))⟩
end
noncomputable def Cd:List (TE×TE)->St->Hp->(List (V×V)->Hp->Prop)->Prop
 | [],_,H,Q=>Q [] H
 | (tk,tv)::r,σ,H,Q=>tk σ H λx H1=>tv σ H1 λy H2=>Cd r σ H2 λps H3=>Q ((x,y)::ps) H3
noncomputable abbrev VV:List (V×V)->List (Value×Value)->Prop:=Paired λp q=>RelV p.1 q.1/\RelV p.2 q.2
noncomputable def Rq(X:Cx)(pos:Pos)(keys:List (Option Expr))(values:YG)(zW:List (TE×TE)):Prop:=
 ∀(pins:Yx) (s:YO) (σ:St) (H:Hp) (Q:List (V×V)->Hp->Prop),#[11]->Cd zW σ H Q ->
  wpAny #[12] X.A (evalPairs (pairTrees keys values X.env pos)) (λvs s'=>∃ps H',Inv X pins σ H' s'/\VV ps vs/\Q ps H') X.xe s
theorem Ka:Rq X pos [] [] []:=λpins s σ H Q I h=>pairTrees_nil_walk ⟨[],H,I,.nil,h⟩
theorem G7(hk:PE X k tk)(hv:PE X v tv)(hr:Rq X pos ks vs zW) :
  Rq X pos (some k::ks) (v::vs) ((tk,tv)::zW):=λpins s σ H Q I h=>
 pairTrees_cons_walk (cU (hk pins s σ H _ I h) λu s1 ⟨x,H1,I1,rx,q1⟩=>cU (hv pins s1 σ H1 _ I1 q1) (by rintro w2 s2 ⟨y,H2,I2,ry,q2⟩;exact cU (hr pins s2 σ H2 _ I2 q2) (by rintro ws s3 ⟨ps,H3,I3,rel,q3⟩;exact⟨(x,y)::ps,H3,I3,.cons ⟨rx,ry⟩ rel,q3⟩)))
noncomputable def uR(kvs more:List (Key×V)):List (Key×V):=more.foldl (λacc kv=>putK acc kv.1 kv.2) kvs
theorem KV.merge:∀{more:List (Key×V)} {rs:List (Key×Value)} {kvs:List (Key×V)} {vs:List (Key×Value)},KV more rs->KV kvs vs->KV (uR kvs more) (merged vs rs):=by
 intro more rs kvs vs r
 induction r generalizing kvs vs with
 |nil=>intro q;exact q
 | @cons p q ps qs h t ih=>
  intro r0
  have e:KV (putK kvs p.1 p.2) (stored vs q.1 q.2):=by
   have:=r0.put p.1 h.2
   grind
  exact ih e
theorem oH:∀(more kvs:List (Key×V)),(uR kvs more).length<=kvs.length+more.length
 | [],kvs=>by show kvs.length<=kvs.length+0;omega
 |p::r,kvs=>by
  have h1:=oH r (putK kvs p.1 p.2);have h2:=lQ kvs p.1 p.2;show(uR _ r).length<=_
  grind
theorem uS:∀{kvs:List (Key×V)} {ws:List (Value×Value)},VV (kvs.map λkv=>(kV kv.1,kv.2)) ws->∃rs,Carries (cX P w) ws rs/\KV kvs rs
 | [],_,r=>by cases r;exact⟨[],True.intro,.nil⟩
 |p::kvs,_,r=>by
  cases r with
  | @cons a b as bs h t=>obtain⟨rs,c,q⟩:=uS t;obtain⟨b1,b2⟩:=b;exact⟨(p.1,b2)::rs,⟨xM h.1,rfl,c⟩,.cons ⟨rfl,h.2⟩ q⟩
noncomputable def Qd(zW:List (TE×TE)):TE:=λσ H Q=>∀p,H p=none->Cd zW σ (upd H p (.dK [])) λps H2=>H2 p=some (.dK [])/\∃kvs:List (Key×V),ps=kvs.map (λkv=>(kV kv.1,kv.2))/\kvs.length<=15/\Q (.ref p) (upd H2 p (.dK (uR [] kvs)))
theorem Kb(h:Rq X pos keys values zW)(hall:keys.all (·.isSome)=true)(hl:keys.length=values.length)(h0:keys≠[])
 (h15:keys.length<=15):PE X (.Dict keys values pos) (Qd zW):=by
 intro pins s σ H Q I q;have hn:=I.hok.fresh (UJ #[10]);have I1:=I.laid (a:=#[10]) (o:=.dK []) (h':=s.heap.push {cls:=.type "dict",data:=.dict #[]}) (t':=s.toks) (λ_ _ q=>UG _ q) (UJ _) (Ap s.heap I.big);refine wpAny_Dict_walk (knd:=cX X.prog X.w) hall hl h0 h15 (cU (h pins _ σ _ _ I1 (q _ hn)) λws s2 ⟨ps,H2,I2,rel,e,kvs,ep,lk,q2⟩=>?_);subst ep;obtain⟨rs,c,rk⟩:=uS (P:=X.prog) (w:=X.w) rel;obtain⟨z,hd,vs0,r0,dd⟩:=Mb I2.hok e;cases r0;refine⟨rs,c,dd,λh' dd' hs=>⟨.ref #[10],_,?_,rfl,q2⟩⟩
 have hz:(uR [] kvs).length<=sizeLine:=by
  have h1:=oH kvs []
  grind[List.length_nil,sizeLine_eq]
 have he:∃q,h'.get? #[10]=some q:=by obtain⟨q,_,_,hq,_⟩:=dd';grind
 exact uk I2 (by rw[e];exact True.intro) hs he (G5 hz hd (rk.merge .nil) dd')
theorem uT{K:YE}{St:Nat->Heap->Prop}{f:Nat->V}(W:∀A:YN,A.handled=none->Walks P w A it [it] [it] n Pv St)
 (ob:∀i h,St i h->∃(o:Obj) (m:String) (vs:YJ),h.get? it=some o/\o.cls=.type m/\o.data=.fields vs/\["enumerate", "zip", "dict_itemiterator", "dict_reverseitemiterator", "odict_iterator", "itertools.zip_longest", "itertools.pairwise"].contains m=false)
 (rel:∀i v,i<n->Pv i v->RelV (f i) v)(sf:∀(A:YN) (i:Nat) (s:YO) (Q:Yw) (E:Yw),St i s.heap->Q (.ref it) s->wpAny #[14] A (pyIter (.ref it)) Q E s):Turn P w K tg ⟨λi _=>i<n,λi H x H'=>H'=H/\x=f i,λi _=>i=n⟩ [it] it St where
 mem:=by simp
 obj:=λi h st b hb=>by
  grind
 keep:=λi h h' st k=>(W {handled:=none,depth:=0,frames:=none,guards:=none,units:=0} rfl).frame i h h' st λb hb o e=>k b hb o e
 item:=by intro X hP hw hK hc i pins s σ H E I hf st hg;subst hP hw hK;obtain⟨f0,f1,f2,f3,f4,f5⟩:=hf it #[6];refine(W X.A (I.ok.hd hc)).item i s _ _ hg st λv h' tk hv st' kk=>?_;have I1:Inv X pins σ H {s with heap:=h',toks:=tk}:=I.turned (λb o hb e=>kk b o (by grind) e) f0 f1 f3 f4 f5;obtain⟨o,m,vs,e,c,d,nm⟩:=ob _ _ st';exact⟨v,rfl,Dv (s:={s with heap:=h',toks:=tk}) e c d nm ⟨f i,H,I1,rel i v hg hv,⟨rfl,rfl⟩,st',λb hb=>(hf b hb).1⟩⟩
 done:=by intro X hP hw hK hc i pins s σ H E I hf st hg;subst hP hw hK;obtain⟨f0,f1,f2,f3,f4,f5⟩:=hf it #[6];have hg':i=n:=hg;subst hg';exact(W X.A (I.ok.hd hc)).done s _ _ st λh' tk kk=>⟨rfl,I.turned (λb o hb e=>kk b o (by simpa using hb) e) f0 f1 f3 f4 f5⟩
 self:=sf
noncomputable def sgn(x:Str)(i:Nat):V:=.str ⟨#[x.cps.getD i 0]⟩
noncomputable def Sr(x:Str):It:=⟨λi _=>i<x.cps.size,λi H v H'=>H'=H/\v=sgn x i,λi _=>i=x.cps.size⟩
theorem yM(i:Nat)(v:Value)(hi:i<x.cps.size)(h:SignAt x i v):RelV (sgn x i) v:=by
 obtain⟨c,u,e,rfl⟩:=h;refine⟨u,?_⟩
 simp_all
section
variable {X:Cx} {tg:Expr}
noncomputable def Ss(tl:TE):TI:=λσ H R=>tl σ H λv H1=>∃x,v=.str x/\R (Sr x) H1
theorem NI(hl:PE X l tl):PI X tg l (Ss tl):=by
 intro pins s σ H R I h;refine cU (hl pins s σ H _ I h) λv s1 ⟨x,H1,I1,r1,q1⟩=>?_;obtain⟨x,e,q⟩:=q1;subst e;obtain⟨t,rfl⟩:=r1
 have fp:∀b∈[s1.heap.objs.size],rH X pins H1 b:=λb hb=>by
  have e:b=s1.heap.objs.size:=by grind
  subst e;exact I1.GL (UJ _) (I1.hok.fresh (UJ _))
 cases ha:x.cps.all (· < 128)with
 |false=>
  refine wpAny_pyIter_wide ha ?_
  refine⟨s1.heap.objs.size,[s1.heap.objs.size],_,Sr x,H1,rfl,I1.kept (t':=s1.toks) λb o e=>UG _ e,
   uT (λA hA=>Walks.strWide hA _ x t) (by rintro i h ⟨o,e,c,d⟩;exact⟨o,_,_,e,c,d,by decide⟩) yM λA i s Q E st h=>wpAny_pyIter_striter_wide st h,⟨_,UK _ rfl,rfl,rfl⟩,fp,q⟩
 |true=>
  refine wpAny_pyIter_ascii ha ?_
  refine⟨s1.heap.objs.size,[s1.heap.objs.size],_,Sr x,H1,rfl,I1.kept (t':=s1.toks) λb o e=>UG _ e,
   uT (λA hA=>Walks.strAscii hA _ x t) (by rintro i h ⟨o,e,c,d⟩;exact⟨o,_,_,e,c,d,by decide⟩) yM λA i s Q E st h=>wpAny_pyIter_striter_ascii st h,⟨_,UK _ rfl,rfl,rfl⟩,fp,q⟩
end
section
variable {X:Cx}
theorem all_range(bs:List Bool):((List.range bs.length).all λi=>(bs[i]?).getD true)=bs.all id:=by
 rw[Xu];simp only[UU,U4,id];constructor
 ·intro h b hb;obtain⟨i,hi,rfl⟩:=VW.mp hb
  simp_all
 ·intro h i hi;simp only[hi,UN,Wl];exact h _ (WK hi)
theorem G8(hc:X.calm=true):cY X (.builtin "all") (λxs H Q=>∃(l:Addr) (bs:List Bool),xs=[.ref l]/\gY X.K H l (bs.map V.bl)/\Q (.bl (bs.all id)) H):=by
 intro pins s σ H vs us Q I r h;obtain⟨l,bs,rfl,hq,q⟩:=h
 cases r with
 |cons r rr=>
  cases rr;cases r;obtain⟨its,rv,p,_⟩:=I.list hq;have pl:=p.isList;have hlt:l<#[10]:=by obtain⟨_,e,_⟩:=pl;exact UL e
  refine call_all_walk (W0 pl ?_);refine⟨#[10],[#[10],l],[#[10]],its.toArray.size,_,_,λi=>(bs[i]?).getD true,rfl,Walks.list (A:=X.A.in1) (I.ok.hd hc) _ l (UR hlt) its.toArray,⟨⟨_,UK _ rfl,rfl,rfl⟩,pl.push _⟩,λi v s' Q' E' hP hQ=>?_,λh' tk hk=>?_⟩
  ·have hP':its[i]?=some v:=by simpa using hP
   have hi:i<(bs.map V.bl).length:=by rw[rv.length];exact(UM.mp hP').1
   obtain⟨u,hu,ru⟩:=rv.get (i:=i) (x:=(bs.map V.bl)[i]) (by simp[hi]);rw[hP']at hu;cases hu;rw[UZ]at hi;simp only[List.getElem_map]at ru;obtain rfl:v=Value.bool bs[i]:=ru;have hQ':=hQ;simp only[hi,UN,Wl]at hQ';exact VC hQ'
  ·have e:((List.range its.toArray.size).all λi=>(bs[i]?).getD true)=bs.all id:=by
    rw[UX,<- rv.length,UZ];exact all_range bs
   rw[e];exact⟨.bl _,H,I.kept λb o e=>hk b o (λhm=>by rw[Vk.mp hm]at e;exact Va _ (UL e)) (UG _ e),rfl,q⟩
theorem Fp:iX X (compareOp .LtE) (λx y H Q=>∃i j,x=.str i/\y=.str j/\Q (.bl (!decide (j.cps.toList<i.cps.toList))) H):=by intro pins s σ H x y v u Q I rx ry h;obtain⟨i,j,rfl,rfl,q⟩:=h;obtain⟨t,rfl⟩:=rx;obtain⟨t',rfl⟩:=ry;exact P.le_str ⟨.bl _,H,I,rfl,q⟩
end
noncomputable def iY:V->Option PyData
 |.non=>some .none
 |.bl b=>some (.bool b)
 |.int i=>some (.int i)
 |.str x=>some (.str x)
 |_=>none
noncomputable def Fs:Key->PyData
 |.inl i=>.int i
 |.inr x=>.str x
noncomputable def bW:List (Key×V)->Option Yy
 | []=>some []
 | (k,v)::r=>match iY v,bW r with
  |some d,some ds=>some ((Fs k,d)::ds)
  |_,_=>none
mutual
noncomputable def Rep(H:Hp):PyData->V->Prop
 |.none,v=>v=.non
 |.bool b,v=>v=.bl b
 |.int i,v=>v=.int i
 |.str x,v=>v=.str x
 |.tuple ds,v=>∃a vs,v=.ref a/\H a=some (.tup vs)/\bf H ds vs
 |.list ds,v=>∃a vs,v=.ref a/\H a=some (.lst vs)/\bf H ds vs
 |.dict kvs,v=>∃a ks,v=.ref a/\H a=some (.dK ks)/\bW ks=some kvs
noncomputable def bf(H:Hp):YB->List V->Prop
 | [],vs=>vs=[]
 |d::ds,vs=>∃w ws,vs=w::ws/\Rep H d w/\bf H ds ws
end
mutual
theorem Rep.same(s:aX H H'):∀{d:PyData} {v:V},Rep H d v->Rep H' d v
 |.none,_,h=>h
 |.bool _,_,h=>h
 |.int _,_,h=>h
 |.str _,_,h=>h
 |.tuple ds,_,⟨a,vs,e,h,r⟩=>⟨a,vs,e,s _ _ h,bf.same s r⟩
 |.list ds,_,⟨a,vs,e,h,r⟩=>⟨a,vs,e,s _ _ h,bf.same s r⟩
 |.dict _,_,⟨a,ks,e,h,r⟩=>⟨a,ks,e,s _ _ h,r⟩
theorem bf.same{H H':Hp}(s:aX H H'):∀{ds:YB} {vs:List V},bf H ds vs->bf H' ds vs
 | [],_,h=>h
 |_::_,_,⟨w,ws,e,h,r⟩=>⟨w,ws,e,Rep.same s h,bf.same s r⟩
end
theorem bf.length:∀{ds:YB} {vs:List V},bf H ds vs->vs.length=ds.length
 | [],_,h=>by cases h;rfl
 |_::ds,_,⟨w,ws,e,_,r⟩=>by rw[e,U8,U8,bf.length r]
theorem bf.get:∀{ds:YB} {vs:List V} {i:Nat} {v:V},bf H ds vs->vs[i]?=some v->∃d,ds[i]?=some d/\Rep H d v
 | [],_,i,v,h,e=>by cases h;simp at e
 |d::ds,_,0,v,⟨w,ws,e0,h,r⟩,e=>by grind
 |d::ds,_,i+1,v,⟨w,ws,e0,h,r⟩,e=>by
  subst e0;obtain⟨u,e1,e2⟩:=bf.get r (by trivial)
  simp_all
theorem bf.get':∀{ds:YB} {vs:List V} {i:Nat} {d:PyData},bf H ds vs->ds[i]?=some d->∃v,vs[i]?=some v/\Rep H d v
 | [],_,i,v,h,e=>by simp at e
 |d::ds,_,0,v,⟨w,ws,e0,h,r⟩,e=>by grind
 |d::ds,_,i+1,v,⟨w,ws,e0,h,r⟩,e=>by
  obtain⟨u,e1,e2⟩:=bf.get' r (by trivial)
  simp_all
theorem bf.append:∀{ds es:YB} {vs us:List V},bf H ds vs->bf H es us->bf H (ds++es) (vs++us)
 | [],_,_,_,h,r=>by cases h;exact r
 |d::ds,_,_,_,⟨w,ws,e,h,q⟩,r=>by subst e;exact⟨w,_,rfl,h,bf.append q r⟩
theorem bf.nil:bf H [] []:=rfl
theorem bf.cons{v:V}{vs:List V}(h:Rep H d v)(r:bf H ds vs):bf H (d::ds) (v::vs):=⟨v,vs,rfl,h,r⟩
theorem bf.one(h:Rep H d v):bf H [d] [v]:=.cons h .nil
theorem bf.take:∀{ds:YB} {vs:List V} (n:Nat),bf H ds vs->bf H (ds.take n) (vs.take n)
 | [],_,n,h=>by grind[bf]
 |d::ds,_,0,_=>by rfl
 |d::ds,_,n+1,⟨w,ws,e,h,r⟩=>by subst e;exact .cons h (bf.take n r)
theorem bf.drop:∀{ds:YB} {vs:List V} (n:Nat),bf H ds vs->bf H (ds.drop n) (vs.drop n)
 | [],_,n,h=>by grind[bf]
 |d::ds,_,0,h=>h
 |d::ds,_,n+1,⟨w,ws,e,h,r⟩=>by subst e;exact bf.drop n r
theorem Ce(e:iY v=some d)(r:RelV v u):Reads h u d []:=by
 cases v with
 |non=>cases e;cases r;exact .none
 |bl b=>cases e;cases r;exact .bool b
 |int i=>cases e;obtain⟨t,rfl⟩:=r;exact .int i t
 |str x=>cases e;obtain⟨t,rfl⟩:=r;exact .str x t
 |_=>cases e
theorem Ft(e:uE k u=true):Reads h u (Fs k) []:=by
 rcases cM e with⟨i,t,rfl,rfl⟩|⟨x,t,rfl,rfl⟩
 ·exact .int i t
 ·exact .str x t
theorem lR:∀{ks:List (Key×V)} {vs:List (Key×Value)} {es:List DictEntry} {kvs:Yy},bW ks=some kvs->KV ks vs->Pairs (cX P w) es vs ->
  ReadsAll h (es.map (·.key)) (kvs.map (·.1)) []/\ReadsAll h (es.map (·.val)) (kvs.map (·.2)) []
 | [],_,es,kvs,e,r,p=>by
  cases e;cases r
  cases es with
  |nil=>exact⟨.nil,.nil⟩
  |cons _ _=>trivial
 | (k,v)::ks,_,es,kvs,e,r,p=>by
  cases r with
  |cons r1 r2=>
   rename_i q vs';obtain⟨k',u⟩:=q;obtain⟨e1,e2⟩:=r1;simp only at e1 e2;subst e1
   cases p with
   |cons hk hv hr=>
    unfold bW at e
    cases e1:iY v with
    |none=>simp_all
    |some d=>
     cases e3:bW ks with
     |none=>simp_all
     |some ds=>rw[e1,e3]at e;cases e;obtain⟨z1,z2⟩:=lR e3 r2 hr;exact⟨.cons (as:=[]) (bs:=[]) (Ft hk) z1,.cons (as:=[]) (bs:=[]) (by show Reads h (DictEntry.val _) d [];rw[hv];exact Ce e1 e2) z2⟩
section
variable {X:Cx} {pins:Yx} {σ:St} {H:Hp} {s:YO}
mutual
theorem Rep.reads(I:#[11]):∀{d:PyData} {v:V} {u:Value},Rep H d v->RelV v u->∃as,Reads s.heap u d as
 |.none,_,u,h,r=>by cases h;cases r;exact⟨_,.none⟩
 |.bool b,_,u,h,r=>by cases h;cases r;exact⟨_,.bool b⟩
 |.int i,_,u,h,r=>by cases h;obtain⟨t,rfl⟩:=r;exact⟨_,.int i t⟩
 |.str x,_,u,h,r=>by cases h;obtain⟨t,rfl⟩:=r;exact⟨_,.str x t⟩
 |.tuple ds,_,u,⟨a,vs,e,h,q⟩,r=>by subst e;cases r;obtain⟨_,its,rv,o,ho,hc,n,hd⟩:=I.hok a _ h;obtain⟨as,z⟩:=bf.reads I q rv;exact⟨_,.tuple ho hc hd (by simpa using z)⟩
 |.list ds,_,u,⟨a,vs,e,h,q⟩,r=>by subst e;cases r;obtain⟨_,its,n,rv,ho⟩:=I.hok a _ h;obtain⟨as,z⟩:=bf.reads I q rv;exact⟨_,.list ho rfl rfl (by simpa using z)⟩
 |.dict kvs,_,u,⟨a,ks,e,h,q⟩,r=>by subst e;cases r;obtain⟨_,_,vs,rk,o,es,ep,ho,hx,hd,_,hp,_⟩:=I.hok a _ h;obtain⟨z1,z2⟩:=lR (P:=X.prog) (w:=X.w) (h:=s.heap) q rk hp;exact⟨_,.dict ho hx.1 hd z1 z2⟩
theorem bf.reads(I:#[11]):∀{ds:YB} {vs:List V} {us:YD},bf H ds vs->Vals vs us->∃as,ReadsAll s.heap us ds as
 | [],_,us,h,r=>by cases h;cases r;exact⟨_,.nil⟩
 |d::ds,_,us,⟨w,ws,e,h,q⟩,r=>by
  subst e
  cases r with
  |cons r1 r2=>obtain⟨as,z⟩:=Rep.reads I h r1;obtain⟨bs,y⟩:=bf.reads I q r2;exact⟨_,.cons z y⟩
end
end
section
variable {X:Cx} {k:Nat}
noncomputable def NJ:List V->Hp->VK->Prop:=λxs H Q=>∃kvs v,xs=[v]/\Rep H (.dict kvs) v/\(PyData.dict kvs).showable=true/\(PyData.dict kvs).depth<=20/\(PyData.dict kvs).shown.length<=sizeLine/\Q (.str (PyData.dict kvs).shown) H
theorem Cf(hr:bO k X.A):cY X (.builtin "repr") NJ:=by
 intro pins s σ H vs us Q I r h;obtain⟨kvs,v,rfl,h1,hs,hd,hz,q⟩:=h;obtain⟨a,ks,rfl,ha,e⟩:=h1
 cases r with
 |cons r rr=>
  cases rr;cases r;obtain⟨_,ne,vs,rk,o,es,ep,ho,hx,hdd,_,hp,_⟩:=I.hok a _ ha;obtain⟨z1,z2⟩:=lR e rk hp;refine Yl (Reads.dict ho hx.1 hdd z1 z2) hs (λ_ hm=>?_) hr.gd (by have:=hr.units;omega) (λ_ _ e=>e) (λh' t tk hk=>⟨.str _,H,I.kept hk,⟨_,rfl⟩,q⟩) hz
  grind
noncomputable def Qe:PyData->String
 |.none => "NoneType"
 |.bool _ => "bool"
 |.int _ => "int"
 |.str _ => "str"
 |.tuple _ => "tuple"
 |.list _ => "list"
 |.dict _ => "dict"
theorem Rep.ty{K:YE}(h:Rep H d v):qa K H v (.type (Qe d)):=by
 cases d with
 |none=>cases h;exact .non
 |bool b=>cases h;exact .bl b
 |int i=>cases h;exact .int i
 |str x=>cases h;exact .str x
 |tuple ds=>obtain⟨a,vs,rfl,e,_⟩:=h;exact .tup e
 |list ds=>obtain⟨a,vs,rfl,e,_⟩:=h;exact .lst e
 |dict ds=>obtain⟨a,ks,rfl,e,_⟩:=h;exact .dK e
theorem G9:cY X (.builtin "isinstance") (λxs H Q=>∃x n t b,xs=[x,.ty n]/\qa X.K H x t/\PySem.W.kitOne X.K t (.type n)=some b/\Q (.bl b) H):=by
 intro pins s σ H vs us Q I r h;obtain⟨x,n,t,b,rfl,ty,e,q⟩:=h
 cases r with
 |cons r rr=>
  cases rr with
  |cons r' rr=>cases rr;cases r';exact Fe I r ty e λtk=>⟨.bl b,H,I.tok _,rfl,q⟩
theorem kit_tuple(K:YE)(d:PyData):PySem.W.kitOne K (.type (Qe d)) (.type "tuple")=some (match d with|.tuple _=>true|_=>false):=by cases d<;>first|rfl|decide
theorem DP(K:YE)(d:PyData):PySem.W.kitOne K (.type (Qe d)) (.type "str")=some (match d with|.str _=>true|_=>false):=by cases d<;>first|rfl|decide
end
theorem aX.upd(s:aX H H')(hp:H' p=none):aX H (upd H' p o):=λb u e=>by rw[aD (aJ (s b u e) hp)];exact s b u e
theorem aX.new(hp:H p=none):aX H (L2.upd H p o):=(aX.refl H).upd hp
theorem jm:bootBuiltins "isinstance" = some (.builtin "isinstance"):=by rfl
theorem gp:bootBuiltins "len" = some (.builtin "len"):=by rfl
theorem lU:bootBuiltins "all" = some (.builtin "all"):=by rfl
theorem um:bootBuiltins "repr" = some (.builtin "repr"):=by rfl
theorem fI:bootBuiltins "sorted" = some (.builtin "sorted"):=by rfl
theorem Fv:bootBuiltins "divmod" = some (.builtin "divmod"):=by rfl
theorem NK:bootBuiltins "max" = some (.builtin "max"):=by rfl
theorem Ha:bootBuiltins "str" = some (.type "str"):=by rfl
theorem bI:bootBuiltins "tuple" = some (.type "tuple"):=by rfl
theorem DQ:bootBuiltins "list" = some (.type "list"):=by rfl
section
variable {X:Cx} {e e2:Expr} {te te2:TE} {t:TA} {p p2 pos:Pos}
noncomputable def isTup:PyData->Bool|.tuple _=>true|_=>false
noncomputable def isStr:PyData->Bool|.str _=>true|_=>false
end
noncomputable def lx(f:Expr->Option PyData):YG->Option YB
 | []=>some []
 |e::es=>match f e,lx f es with
  |some d,some ds=>some (d::ds)
  |_,_=>none
noncomputable def Qf:Const->Option PyData
 |.none=>some .none
 |.bool b=>some (.bool b)
 |.int i=>some (.int i)
 |.str x=>some (.str x)
 |_=>none
noncomputable def Qg:Option PyData->Option PyData
 |some (.int i)=>some (.int (-i))
 |_=>none
noncomputable def NL:Option PyData->Option PyData->Option PyData
 |some (.int a),some (.int b)=>if 0<=b/\b<=1000000/\a.natAbs<2^64 then some (.int (a^b.toNat))else none
 |_,_=>none
noncomputable def NM:Option PyData->Option PyData->Option PyData
 |some (.str k),some (.int i)=>some (.dict [(.str k,.int i)])
 |_,_=>none
noncomputable def iw:Nat->Expr->Option PyData
 |0,_=>none
 |n+1,e=>match e with
  |.Constant c _ _=>Qf c
  |.Tuple es _ _=>if es.length<=1000 then(lx (iw n) es).map .tuple else none
  |.List es _=>if es.length<=1000 then(lx (iw n) es).map .list else none
  |.UnaryOp o x _=>match o with
   |.USub=>Qg (iw n x)
   |_=>none
  |.BinOp a o b _=>match o with
   |.Pow=>NL (iw n a) (iw n b)
   |_=>none
  |.Dict ks vs _=>match ks with
   | []=>match vs with
    | []=>some (.dict [])
    |_=>none
   |k::ks=>match k with
    |some k=>match vs with
     |v::vs=>if ks.isEmpty&&vs.isEmpty then NM (iw n k) (iw n v)else none
     |_=>none
    |_=>none
  |_=>none
noncomputable abbrev DR(n:Nat)(es:YG):Option YB:=lx (iw n) es
noncomputable def gU(H H' N:Hp):Prop:=∀c o,N c=some o->H c=none/\H' c=some o
noncomputable def Hb(d:PyData):TE:=λ_ H Q=>∀r H' N,aX H H'->gU H H' N->Rep N d r->Q r H'
noncomputable def Qh(ds:YB):TA:=λ_ H Q=>∀rs H' N,aX H H'->gU H H' N->bf N ds rs->Q rs H'
noncomputable def Aq:Hp:=λ_=>none
theorem gU.no:gU H H' Aq:=λ_ _ e=>by cases e
theorem gU.same(n:gU H H' N):aX N H':=λc o e=>(n c o e).2
noncomputable def pb(N M:Hp):Hp:=λc=>match N c with|some o=>some o|none=>M c
theorem NO:aX N (pb N M):=λc o e=>by simp[pb,e]
theorem NP(n:gU H H1 N)(m:gU H1 H2 M):aX M (pb N M):=λc o e=>by
 have h1:=(m c o e).1
 cases q:N c with
 |none=>simp[pb,q,e]
 |some u=>rw[(n c u q).2]at h1;cases h1
theorem gU.plus(s1:aX H H1)(s2:aX H1 H2)(n:gU H H1 N)(m:gU H1 H2 M):gU H H2 (pb N M):=λc o e=>by
 cases q:N c with
 |some u=>simp[pb,q]at e;cases e;exact⟨(n c _ q).1,s2 _ _ (n c _ q).2⟩
 |none=>simp[pb,q]at e;exact⟨s1.free (m c o e).1,(m c o e).2⟩
theorem gU.put(s1:aX H H1)(n:gU H H1 N)(hp:H1 p=none):gU H (upd H1 p o) (upd N p o)/\aX N (upd N p o):=by
 have np:∀c u,N c=some u->c≠p:=λc u e z=>by subst z;rw[(n c u e).2]at hp;cases hp
 refine⟨λc u e=>?_,λc u e=>by rw[aD (np c u e)];exact e⟩;by_cases hc:c=p
 ·subst hc;rw[aM]at e;cases e;exact⟨s1.free hp,aM⟩
 ·rw[aD hc]at e;exact⟨(n c u e).1,by rw[aD hc];exact(n c u e).2⟩
theorem j9:∀{es:YG} {n:Nat} {ds:YB},DR n es=some ds->ds.length=es.length
 | [],n,ds,h=>by simp_all[lx]
 |e::es,n,ds,h=>by
  unfold DR lx at h;split at h
  ·rename_i d ds' h1 h2;cases h;rw[U8,U8,j9 h2]
  grind
section
variable {X:Cx}
theorem yN(ih:∀(e:Expr) (d:PyData),iw n e=some d->PE X e (Hb d)/\∀es:YG,#[2]):∀(es:YG) (ds:YB),DR n es=some ds->PA X es (Qh ds)
 | [],ds,h=>by cases h;intro pos pins s σ H Q I q;exact fc pos pins s σ H Q I (q [] H Aq (aX.refl H) .no rfl)
 |e::es,ds,h=>by
  unfold DR lx at h;split at h
  ·rename_i d ds' h1 h2;cases h;obtain⟨a,b⟩:=ih e d h1;intro pos pins s σ H Q I q;refine bh a (yN ih es ds' h2) (b es) pos pins s σ H Q I λr H1 N1 s1 n1 hr rs H2 N2 s2 n2 hrs=>q _ H2 _ (s1.trans s2) (n1.plus s1 s2 n2) (.cons (hr.same NO) (hrs.same (NP n1 n2)))
  grind
theorem DU{n:Nat}{es:YG}{f:YB->PyData}{d:PyData}(h:(if es.length<=1000 then(lx (iw n) es).map f else none)=some d):es.length<=1000/\∃ds,lx (iw n) es=some ds/\f ds=d:=by
 by_cases hl:es.length<=1000
 ·rw[if_pos hl]at h;exact⟨hl,Vt.mp h⟩
 ·rw[if_neg hl]at h;cases h
theorem Kc:∀{x y:Option PyData},NL x y=some d->∃i j:Int,x=some (.int i)/\y=some (.int j)/\(0<=j/\j<=1000000/\i.natAbs<2^64)/\.int (i^j.toNat)=d:=by
 intro x y h
 cases x with
 |none=>cases h
 |some x=>cases x with
  |int i=>cases y with
   |none=>cases h
   |some y=>cases y with
    |int j=>
     have h:(if 0<=j/\j<=1000000/\i.natAbs<2^64 then some (PyData.int (i^j.toNat))else none)=some d:=h;by_cases hl:0<=j/\j<=1000000/\i.natAbs<2^64
     ·rw[if_pos hl]at h;exact⟨i,j,rfl,rfl,hl,VL h⟩
     ·rw[if_neg hl]at h;cases h
    |_=>cases h
  |_=>cases h
theorem Ke{ks:List (Option Expr)}{vs:YG}{x y:Option PyData}(h:(if ks.isEmpty&&vs.isEmpty then NM x y else none)=some d):∃k i,x=some (.str k)/\y=some (.int i)/\ks=[]/\vs=[]/\.dict [(.str k,.int i)]=d:=by
 cases ks with
 |cons=>cases h
 |nil=>cases vs with
  |cons=>cases h
  |nil=>cases x with
   |none=>cases h
   |some x=>cases x with
    |str k=>cases y with
     |none=>cases h
     |some y=>cases y with
      |int i=>exact⟨k,i,rfl,rfl,rfl,rfl,VL h⟩
      |_=>cases h
    |_=>cases h
theorem Cg:∀(n:Nat) (e:Expr) (d:PyData),iw n e=some d->PE X e (Hb d)/\∀es:YG,#[2]:=by
 intro n
 induction n with
 |zero=>intro e d h;cases h
 |succ n ih=>
  intro e d h
  cases e with
  |Constant c p q=>
   have h:Qf c=some d:=h;refine⟨λpins s σ H Q I q=>?_,λ_=>rfl⟩
   cases c with
   |none=>cases h;exact GF pins s σ H Q I (q _ H Aq (aX.refl H) .no rfl)
   |bool b=>cases h;exact Ds pins s σ H Q I (q _ H Aq (aX.refl H) .no rfl)
   |int i=>cases h;exact BZ pins s σ H Q I (q _ H Aq (aX.refl H) .no rfl)
   |str x=>cases h;exact o6 pins s σ H Q I (q _ H Aq (aX.refl H) .no rfl)
   |_=>cases h
  |Tuple es k p=>have h:(if es.length<=1000 then(lx (iw n) es).map .tuple else none)=some d:=h;obtain⟨hl,ds,h1,rfl⟩:=DU h;refine⟨λpins s σ H Q I q=>yD (yN ih es ds h1) pins s σ H Q I λrs H1 N1 s1 n1 hrs=>⟨?_,λp hp=>q _ _ _ (s1.upd hp) (n1.put s1 hp).1 ⟨p,rs,rfl,aM,hrs.same (n1.put s1 hp).2⟩⟩,λ_=>rfl⟩;rw[hrs.length,j9 h1];exact UP hl #[5]
  |List es p=>have h:(if es.length<=1000 then(lx (iw n) es).map .list else none)=some d:=h;obtain⟨hl,ds,h1,rfl⟩:=DU h;refine⟨λpins s σ H Q I q=>lK (yN ih es ds h1) pins s σ H Q I λrs H1 N1 s1 n1 hrs=>⟨?_,λp hp=>q _ _ _ (s1.upd hp) (n1.put s1 hp).1 ⟨p,rs,rfl,aM,hrs.same (n1.put s1 hp).2⟩⟩,λ_=>rfl⟩;rw[hrs.length,j9 h1];exact UP hl #[5]
  |UnaryOp o x p=>
   cases o with
   |USub=>
    have h:Qg (iw n x)=some d:=h;refine⟨λpins s σ H Q I q=>?_,λ_=>rfl⟩
    cases hx:iw n x with
    |none=>rw[hx]at h;cases h
    |some y=>
     rw[hx]at h
     cases y with
     |int i=>cases h;exact PU Nj (ih x _ hx).1 pins s σ H Q I λr H' N s1 n1 hr=>⟨i,hr,q _ H' N s1 n1 rfl⟩
     |_=>cases h
   |_=>cases h
  |BinOp a o b p=>
   cases o with
   |Pow=>have h:NL (iw n a) (iw n b)=some d:=h;refine⟨λpins s σ H Q I q=>?_,λ_=>rfl⟩;obtain⟨i,j,hi,hj,hl,rfl⟩:=Kc h;exact xE Ni (ih a _ hi).1 (ih b _ hj).1 pins s σ H Q I λr H1 N1 s1 n1 hr r2 H2 N2 s2 n2 hr2=>⟨i,j,hr,hr2,hl,q _ H2 _ (s1.trans s2) (n1.plus s1 s2 n2) rfl⟩
   |_=>cases h
  |Dict ks vs p=>
   refine⟨λpins s σ H Q I q=>?_,λ_=>rfl⟩
   cases ks with
   |nil=>cases vs with
    |nil=>cases h;exact G6 pins s σ H Q I λp hp=>q _ _ (upd Aq p (.dK [])) (aX.new hp) (gU.put (aX.refl H) .no hp).1 ⟨p,[],rfl,aM,rfl⟩
    |cons=>cases h
   |cons k ks=>cases k with
    |none=>cases h
    |some k=>cases vs with
     |nil=>cases h
     |cons v vs=>
      obtain⟨k1,i,hk,hi,rfl,rfl,rfl⟩:=Ke (show(if ks.isEmpty&&vs.isEmpty then NM (iw n k) (iw n v)else none)=some d from h)
      exact Kb (G7 (ih k _ hk).1 (ih v _ hi).1 Ka) rfl rfl #[6] (by show 1<=15;decide) pins s σ H Q I λp hp r H1 N1 s1 n1 hr r2 H2 N2 s2 n2 hr2=>by
       cases hr;cases hr2;refine⟨s2 _ _ (s1 _ _ aM),[(Sum.inr k1,V.int i)],rfl,by show 1<=15;decide,q _ _ (upd Aq p (.dK [(Sum.inr k1,V.int i)])) (λb o e=>?_) (λc o e=>?_) ⟨p,_,rfl,aM,rfl⟩⟩
       ·have hb:=aJ e hp;rw[aD hb];exact s2 _ _ (s1 _ _ ((aD hb).trans e))
       ·by_cases hc:c=p
        ·subst hc;rw[aM]at e;cases e;exact⟨hp,aM⟩
        ·rw[aD hc]at e;cases e
  |_=>cases h
@[irreducible] noncomputable def Lit(n:Nat)(e:Expr)(d:PyData):Prop:=iw n e=some d
theorem Lit.of(h:iw n e=some d):Lit n e d:=by grind[Lit]
theorem Lit.eq(h:Lit n e d):iw n e=some d:=by simp_all[Lit]
theorem Hc(n:Nat){e:Expr}{d:PyData}(h:Lit n e d):PE X e (Hb d):=(Cg n e d h.eq).1
end
section
variable {X:Cx} {k:Nat}
noncomputable def cutD(ds:YB)(lo hi:Option Int):YB:=(ds.drop (HT.fQ ds.length 0 lo)).take (HT.fQ ds.length ds.length hi-HT.fQ ds.length 0 lo)
theorem xf{lo hi:Option Int}(ht:IsTup s.heap t items)(hs:s.heap.IsSliceOf sl vl vu .none)(pl:IsPart vl lo)(pu:IsPart vu hi)
 (h0:HT.fQ items.size 0 lo=0)(h1:HT.fQ items.size items.size hi=items.size)(q:Q (.ref t) s):wpAny #[14] A (getItem (.ref t) (.ref sl)) Q E s:=by
 obtain⟨os,hos,hcs,hds⟩:=id hs;have hTs:s.TypeIs (.ref sl) "slice" := ⟨os,hos,hcs⟩;unfold getItem
 try with_reducible refine U7 ?_
 first|refine UE (UH ?_)|skip
 refine UE (wpAny_sequenceKey ht.typeIs #[5] ?_);refine UE (Vm (name:=Str.ofString "__getitem__") ht.typeIs Vv (Vc Vv ht.typeIs entry_tuple_getitem ?_ (args_tuple_getitem _ _)));show wpAny _ _ (Builtin.Tuple.tupleItemsOf (.ref t) >>= _) _ _ s;refine UE (tupleItemsOf_ ht (UE (WW hTs ?_)));rw[if_pos #[5]];refine UE (HT.jI hs pl pu ?_);rw[h0,h1];show wpAny _ _ (if((((0:Nat):Int)==0&&(1:Int)==1&&(items.size-0)==items.size)=true)then _ else _) _ _ s;rw[if_pos #[6]];unfold Builtin.Tuple.tupleIsExact;refine UE (UE (WW ht.typeIs (UH ?_)))
 first
  |exact UE (V5 (UE (UH (UH ⟨_,rfl,UH q⟩))))
  |exact UE (V5 (UH ⟨_,rfl,UH q⟩))
  | (rw[if_pos #[5]];exact UE (V5 (UE (UH (UH ⟨_,rfl,UH q⟩)))))
  | (rw[if_pos #[5]];exact UE (V5 (UH ⟨_,rfl,UH q⟩)))
end
theorem cC.obj(x:cC P w H h a o):∃ob,h.get? a=some ob:=by
 cases o with
 |lst xs=>obtain⟨_,_,_,_,e⟩:=x;grind
 |tup xs=>obtain⟨_,_,_,ob,e,_⟩:=x;grind
 |dK kvs=>obtain⟨_,_,_,_,ob,_,_,e,_⟩:=x;grind
 |dT kvs=>obtain⟨_,_,_,_,ob,_,_,e,_⟩:=x;grind
 |set S n=>obtain⟨ob,_,_,_,e,_⟩:=x;grind
 |ins C dx fs=>obtain⟨_,_,_,e,_⟩:=x;grind
 |own y=>exact x
 |xd fs=>obtain⟨_,⟨ob,_,_,e,_⟩,_⟩:=x;grind
 |rng lo hi=>obtain⟨_,_,_,e⟩:=x;grind
 |frz ob u=>exact⟨_,x.1⟩
 |tbl ps=>exact⟨_,x⟩
 |met f y=>exact⟨_,x⟩
 |ext φ=>exact x.2.1
noncomputable def iZ(P:YL)(w:World):JT:=λouter H s E e s'=>
 ∃(a:Addr) (cls:Value) (t:Addr) (B:Heap) (H':Hp),e=.ref a/\s'.os=s.os/\AllBare s'.gens/\Un (lH outer) [] H H' s.heap s'.heap/\lu P w H' s'.heap/\Heap.FlyingW B outer a cls (.ref t) s'.heap /\
  (∀b o,s.heap.get? b=some o->b∉lH outer->∃o',s'.heap.get? b=some o'/\B.get? b=some o')/\(∀b u,H' b=some u->∃o',s'.heap.get? b=some o'/\B.get? b=some o')/\E cls none H'
section
variable {P:YL} {w:World} {K:YE} {mg:YA} {base:Heap} {N:YF} {qual:Str} {scope:Scope} {f:Addr} {cd:Value} {A:YN} {outer:List Env} {s:YO} {H:Hp} {E:XK}
theorem aT:Passes (iZ P w) (fe (iZ P w) P w K mg base N qual scope f cd A outer s H E) E:=by
 rintro pins σ H1 s1 e s' I ⟨a,cls,t,B,H',e1,os,bare,un,hok,fl,old,xB,q⟩;subst e1;have J:=I.Ac os un hok bare (λb z=>nomatch z);have hfr:(A.deeper (envOfC qual scope #[10] f cd)).frames=some (envOfC qual scope #[10] f cd::outer):=I.ok.frames;have noA:∀b:Addr,b∉(fe (iZ P w) P w K mg base N qual scope f cd A outer s H E).ex:=λb z=>nomatch z
 have inB:∀b o,s.heap.get? b=some o->b∉lH outer->∃o',s'.heap.get? b=some o'/\B.get? b=some o':=λb o e hb=>by
  obtain⟨o1,e1⟩:=I.base.there b o e (noA b);refine old b o1 e1 λz=>?_;rcases UO.mp (I.lJ b z)with z|z
  ·have z2:b=#[10]:=z;exact absurd (UL e) (by rw[z2];exact Va _)
  ·exact hb z
 refine wpAny_leaves_onW hfr rfl fl λh' fl' up=>?_;refine⟨a,cls,t,B,H',rfl,os.trans I.os,bare,⟨λb o e n hb _=>?_,λb o e n hb _=>?_,λb o e n _=>J.base.free b o e n (noA b),λb o e _=>?_,J.base.tups,J.base.frzs,J.base.tbls⟩,λb u e=>?_,fl',λb o e hb=>?_,λb u e=>?_,q⟩
 ·have e2:=J.base.keep b o e n hb (noA b);obtain⟨o',e3,e4⟩:=inB b o e hb;rw[e2]at e3;cases e3;exact fl'.1 b o e4
 ·obtain⟨sl,e2⟩:=J.base.slot b o e n hb (noA b);obtain⟨_,o',e3,nf⟩:=J.j5.mem hb;rw[e2]at e3;cases e3;obtain⟨sl',e4⟩:=up b _ e2 nf;exact⟨sl',e4⟩
 ·by_cases hb:b∈lH outer
  ·obtain⟨o2,e2⟩:=J.base.there b o e (noA b);obtain⟨_,o',e3,nf⟩:=J.j5.mem hb;obtain⟨sl',e4⟩:=up b _ e3 nf;exact⟨_,e4⟩
  ·obtain⟨o',e3,e4⟩:=inB b o e hb;exact⟨o',fl'.1 b o' e4⟩
 ·refine(hok b u e).pY (λc v hc z=>?_) (λ_ z=>z) λ_ _ z=>z
  have:∃u',H' c=some u':=by
   rcases hc with hc|hc
   ·exact⟨u,hc▸e⟩
   ·exact⟨_,hc⟩
  obtain⟨u',hu⟩:=this;obtain⟨o',e3,e4⟩:=xB c u' hu;rw[z]at e3;cases e3;exact fl'.1 c v e4
 ·obtain⟨o',e3,e4⟩:=inB b o e hb;exact⟨o',fl'.1 b o' e4,e4⟩
 ·obtain⟨o',e3,e4⟩:=xB b u e;exact⟨o',fl'.1 b o' e4,e4⟩
structure Hd(K:YE)(mg:YA)(x:Str)(C:Addr)(bmB:YD)(newId:String):Prop where
 ns:PySem.W.nsIn K mainGlobals x=some (some (.ref C))
 ex:PySem.W.excIn K C bmB newId=true
theorem Hd.own{σ:St}(c:Hd X.K X.mg x C bmB newId)(I:#[11]):OwnCls x C bmB newId X.mg X.base:=by
 refine⟨Vb I.mod.kin I.mod.glob c.ns,?_⟩;have q:=c.ex;have X0:=I.mod.kin;unfold PySem.W.excIn at q;split at q
 ·rename_i dd cd sl ho;split at q
  ·rename_i C' bm k0 k1 k2 k3 n k5 hm hs;simp only[UI,Yo,XM]at q;obtain⟨⟨⟨⟨⟨rfl,rfl⟩,hdel⟩,ht⟩,hok⟩,hni⟩:=q;obtain⟨nm,bs,mro,ns,qn,hd,sn,sub,ab,col,del⟩:=cd;dsimp only at hm hdel hok hni;subst hm hdel;have hsl:sl=#[k0,k1,k2,k3,some (.builtin n),k5]:=by obtain⟨l⟩:=sl;simp only at hs;rw[hs]
   subst hsl;exact⟨bm,ns,nm,qn,bs,hd,sn,sub,ab,col,dd,k0,k1,k2,k3,k5,_,X0 _ _ ho,.of_isNs (PySem.W.isNs_of_in X0 hok),PySem.W.nsMap_none_of_in X0 hok hni,PySem.W.tail_of_in X0 ht⟩
  ·cases q
 ·cases q
noncomputable def NQ(E:XK)(C:Addr)(t:TA):TS:=λ_ σ H=>t σ H λvs H1=>vs.length<=sizeLine/\E (.ref C) none H1
theorem He{np cpos pos:Pos}(c:Hd K mg x C bmB newId)(FB:ExcBaseFacts B newId initId bmB)(hd:A.handled=none)
 (hg:Gl (fe (iZ P w) P w K mg base N qual scope f cd A outer s H E) x)(ha:PA (fe (iZ P w) P w K mg base N qual scope f cd A outer s H E) (e::es) t)
 (he:starEach (e::es) (envOfC qual scope #[10] f cd)=(false,eval e (envOfC qual scope #[10] f cd))::starEach es (envOfC qual scope #[10] f cd):=by rfl)
 (hplain:(backTo cpos (starEach es (envOfC qual scope #[10] f cd))).any (·.1)=false:=by rfl)(hdb:(x==("__debug__" : Str))=false:=by decide) :
  PS (fe (iZ P w) P w K mg base N qual scope f cd A outer s H E) (.Raise (some (.Call (.Name x np) (e::es) [] cpos)) none pos) (NQ E C t):=by
 intro pins s1 σ H1 D I h;have O:=Hd.own (X:=fe (iZ P w) P w K mg base N qual scope f cd A outer s H E) c I;obtain⟨tl,Nn,nm,q,bs,hdct,sn,sub,ab,col,dd,k0,k1,k2,k3,k5,mN,hC,hN,hni,T⟩:=O.obj
 refine wpAny_Raise_call_subT (C:=C) (nm:=nm) (q:=q) (N:=Nn) (bs:=bs) (bm:=tl) (hdct:=hdct) (sn:=sn) (sub:=sub) (ab:=ab) (col:=col) (dd:=dd) (k0:=k0) (k1:=k1) (k2:=k2) (k3:=k3) (k5:=k5)
  FB (mN:=mN) (T.hasType FB.hasBase) hd (by show(backTo cpos (starEach (e::es) (envOfC qual scope #[10] f cd))).any (·.1)=false;rw[he];show(false || (backTo cpos (starEach es (envOfC qual scope #[10] f cd))).any (·.1))=false;rw[hplain];rfl) hni
  (nL I hg O.bound ⟨rfl,?_⟩ hdb)
 have h1:=ha cpos pins s1 σ H1 _ I h;show wpAny _ _ (evalArgs (.ref C) true (backTo cpos (starEach (e::es) (envOfC qual scope #[10] f cd))) []) _ _ _;have h1':wpAny #[14] (A.deeper (envOfC qual scope #[10] f cd)) (spliced (backTo cpos (starEach (e::es) (envOfC qual scope #[10] f cd)))) _ _ s1:=h1;rw[he]at h1' ⊢;refine Calls.evalArgs_plain (VU h1' (λvs s2 ⟨xs,H2,I2,r,hz,qE⟩=>?_) λ_ _ y=>y);have k2:∀b o,base.get? b=some o->s2.heap.get? b=some o:=I2.bk;refine⟨rfl,by rw[<- r.length];exact hz,k2 _ _ hC,hN.keeps k2,T.keeps k2,λh' a hm=>?_⟩;have hfr:(A.deeper (envOfC qual scope #[10] f cd)).frames=some (envOfC qual scope #[10] f cd::outer):=I.ok.frames;have noA:∀b:Addr,b∉(fe (iZ P w) P w K mg base N qual scope f cd A outer s H E).ex:=λb z=>nomatch z;have ffs:s2.heap.FunFrames base (envOfC qual scope #[10] f cd::outer):=I2.stack;have hin:∀env∈(envOfC qual scope #[10] f cd::outer),∀b,env.frame=some b->b∈lH (envOfC qual scope #[10] f cd::outer):=λenv he b hb=>Wn.mpr ⟨env,he,hb⟩;show wpAny _ _ (leaving (envOfC qual scope #[10] f cd) (.ref a)) _ _ _;refine wpAny_leaves_madeW (base:=PySem.W.hideAll s2.heap (lH (envOfC qual scope #[10] f cd::outer))) hfr rfl (λb o z=>PySem.W.of_hideAll _ z) (PySem.W.funFrames_hide ffs hin) hm λh'' t fl tup nt up=>?_;have inB:∀b o,s2.heap.get? b=some o->b∉lH (envOfC qual scope #[10] f cd::outer)->(PySem.W.hideAll s2.heap (lH (envOfC qual scope #[10] f cd::outer))).get? b=some o:=λb o z hb=>PySem.W.hideAll_get _ z hb
 have notL:∀b o,s.heap.get? b=some o->b∉lH outer->b∉lH (envOfC qual scope #[10] f cd::outer):=λb o z hb m=>by
  rcases UO.mp (I2.lJ b m)with z'|z'
  ·have z2:b=#[10]:=z';exact absurd (UL z) (by rw[z2];exact Va _)
  ·exact hb z'
 have trkB:∀b u,H2 b=some u->∃o',s2.heap.get? b=some o'/\(PySem.W.hideAll s2.heap (lH (envOfC qual scope #[10] f cd::outer))).get? b=some o':=λb u z=>by obtain⟨o',e'⟩:=(I2.hok b u z).obj;refine⟨o',e',inB b o' e' λm=>?_⟩;have:=I2.yy b m;rw[z]at this;cases this
 refine⟨a,.ref C,t,_,H2,rfl,I2.os,I2.bare,⟨λb o z n hb _=>?_,λb o z n hb _=>?_,λb o z n _=>I2.base.free b o z n (noA b),λb o z _=>?_,I2.base.tups,I2.base.frzs,I2.base.tbls⟩,λb u z=>?_,fl,λb o z hb=>?_,λb u z=>?_,qE⟩
 ·have e2:=I2.base.keep b o z n hb (noA b);exact fl.1 b o (inB b o e2 (notL b o z hb))
 ·obtain⟨sl,e2⟩:=I2.base.slot b o z n hb (noA b);obtain⟨_,o',e3,nf⟩:=I2.j5.mem hb;rw[e2]at e3;cases e3;obtain⟨sl',e4⟩:=up b _ (hm.keeps _ _ e2) nf;exact⟨sl',e4⟩
 ·by_cases hb:b∈lH outer
  ·obtain⟨_,o',e3,nf⟩:=I2.j5.mem hb;obtain⟨sl',e4⟩:=up b _ (hm.keeps _ _ e3) nf;exact⟨_,e4⟩
  ·obtain⟨o2,e2⟩:=I2.base.there b o z (noA b);exact⟨o2,fl.1 b o2 (inB b o2 e2 (notL b o z hb))⟩
 ·refine(I2.hok b u z).pY (λc v hc y=>?_) (λ_ y=>y) λ_ _ y=>y
  have:∃u',H2 c=some u':=by
   rcases hc with hc|hc
   ·exact⟨u,hc▸z⟩
   ·exact⟨_,hc⟩
  obtain⟨u',hu⟩:=this;obtain⟨o',e3,e4⟩:=trkB c u' hu;rw[y]at e3;cases e3;exact fl.1 c v e4
 ·obtain⟨o2,e2⟩:=I2.base.there b o z (noA b);exact⟨o2,fl.1 b o2 (inB b o2 e2 (notL b o z hb)),inB b o2 e2 (notL b o z hb)⟩
 ·obtain⟨o',e3,e4⟩:=trkB b u z;exact⟨o',fl.1 b o' e4,e4⟩
end
structure Hf(P:YL)(w:World)(K:YE)(mg:YA)(base:Heap)(CX:JT)(k:Nat)(f:Addr)(fd:FuncData)(ps:YF)(sp:YO->Sp):Prop where
 len:∀s vs H Q E,sp s vs H Q E->vs.length=ps.length
 run:∀(A:YN) (outer:List Env) (s:YO) (H:Hp) (args:Args) (us:YD) (vs:List V) (Q:VK) (E:XK),bO k A->yE P w K mg base A outer s H->BindsTo s fd args (ps.zip us)->Vals vs us->sp s vs H Q E ->
  codeAny #[14] A (.call (.ref f) args) (CR CX outer P w H s Q E) s
noncomputable abbrev Cx.held(X:Cx)(a:Addr):Cx:={X with A:=X.A.mark (some (.ref a)),calm:=false,xe:=λ_ _=>False}
theorem Inv.held{σ:St}(I:#[11])(a:Addr):Inv (X.held a) pins σ H s:=
 ⟨⟨I.ok.mod,I.ok.kind,I.ok.glob,I.ok.blt,I.ok.above,I.ok.inj,I.ok.has,I.ok.cab,(λz=>nomatch z),I.ok.frames,I.ok.stk,I.ok.exf,I.ok.bs,I.ok.bsz,I.ok.noex,I.ok.exfs,I.ok.j5,I.ok.frf⟩,I.os,I.bare,I.base,I.loc,I.cell,I.free,I.freeC,I.pin,I.hok,I.len⟩
noncomputable def et(a:Addr)(cls:Value):Heap->Prop:=λh=>∃o,h.get? a=some o/\o.cls=cls
theorem et.ok(x:et a cls h):cC P w H h a (.ext (et a cls)):=
 ⟨x,let ⟨o,e,_⟩:=x;⟨o,e⟩,λh1 h2 ⟨o,e,c⟩ k=>⟨o,k o e,c⟩⟩
theorem Ci(un:Un (lH l) [] H H' g h)(hok:lu P w H' h)(st:B.StaysIn h')(up:h.UpToSlots h')(ff:h.FunFrames B l)
 (old:∀b o,g.get? b=some o->b∉lH l->∃o',h.get? b=some o'/\B.get? b=some o')(xB:∀b u,H' b=some u->∃o',h.get? b=some o'/\B.get? b=some o'):Un (lH l) [] H H' g h'/\lu P w H' h':=by
 have no:∀b:Addr,b∉([]:YC):=λb z=>nomatch z;refine⟨⟨λb o e n hb _=>?_,λb o e n hb _=>?_,λb o e n _=>un.free b o e n (no b),λb o e _=>?_,un.tups,un.frzs,un.tbls⟩,λb u e=>?_⟩
 ·have e2:=un.keep b o e n hb (no b);obtain⟨o',e3,e4⟩:=old b o e hb;rw[e2]at e3;cases e3;exact st b o e4
 ·obtain⟨sl,e2⟩:=un.slot b o e n hb (no b);obtain⟨_,o',e3,nf⟩:=ff.mem hb;rw[e2]at e3;cases e3;obtain⟨sl',e4⟩:=up b _ e2 nf
  grind
 ·by_cases hb:b∈lH l
  ·obtain⟨_,o',e3,nf⟩:=ff.mem hb;obtain⟨sl',e4⟩:=up b _ e3 nf
   grind
  ·obtain⟨o',e3,e4⟩:=old b o e hb;exact⟨o',st b o' e4⟩
 ·refine(hok b u e).pY (λc v hc z=>?_) (λ_ z=>z) λ_ _ z=>z
  have:∃u',H' c=some u':=by
   rcases hc with hc|hc
   ·exact⟨u,hc▸e⟩
   ·exact⟨_,hc⟩
  obtain⟨u',hu⟩:=this;obtain⟨o',e3,e4⟩:=xB c u' hu;rw[z]at e3;cases e3;exact st c v e4
theorem Hg{Q1:α->YO->Prop}(T:∀XE,XE=E1->wpAny M A t Q1 XE s1):wpAny M A t Q1 E1 s1:=T E1 rfl
theorem NR{K:YE}{dV kV doc pm cdv ct oc:Value}
 (lk:K.lookup f=some ⟨oc,od,.func (PySem.W.fnOf name qual params [.Try body [.ExceptHandler (some (.Name D np)) (some n) (b0::suite) hpos] [] [] tpos] scope dV kV doc pm an cdv ct),osl⟩)(hcd:PySem.W.codeIn K cdv qual=true)(S:aO N ps scope)
 (hD:mg D=some (.ref DC))(hi:N[i]?=some n)(hn:scope.names.lookup n=some .local)(hgD:scope.names.lookup D=some .globalImplicit)(hdb:(D==("__debug__" : Str))=false)
 (len:∀s vs H Q E,sp s vs H Q E->vs.length=ps.length)
 (hbody:∀(A:YN) (outer:List Env) (s:YO) (H:Hp) (vs:List V) (Q:VK) (E:XK),bO k (A.deeper (envOfC qual scope #[10] f cdv))->sp s vs H Q E ->
   ∃(tb:XK->TS) (th:TS),(∀EH XE,Passes (iZ P w) ((fe Fi P w K mg base N qual scope f cdv A outer s H E).p8 XE) EH->xD ((fe Fi P w K mg base N qual scope f cdv A outer s H E).p8 XE) body (tb EH)) /\
    (∀a,xD ((fe Fi P w K mg base N qual scope f cdv A outer s H E).held a) (b0::suite) th) /\
    tb (λcls _ H'=>PySem.W.exmOne K cls (.ref DC)=some true/\∀(a:Addr) (σ':St),H' a=none->σ'.length=N.length->th {nx:=λ_ H''=>Q .non H'',rt:=Q} (σ'.set i (some (.ref a))) (upd H' a (.ext (et a cls)))) {nx:=λ_ H'=>Q .non H',rt:=Q} (start N vs) H) :
  Hf P w K mg base Fi (k+1) f (PySem.W.fnOf name qual params [.Try body [.ExceptHandler (some (.Name D np)) (some n) (b0::suite) hpos] [] [] tpos] scope dV kV doc pm an cdv ct) ps sp:=by
 refine⟨len,λA outer s H args us vs Q E hr e0 hb r hsp=>?_⟩;have hl:=len _ _ _ _ _ hsp;have KX:K.In s.heap:=e0.mod.kin.keeps λb o e=>(e0.bs b o e).1;have lim:s.heap.NoLimit:=e0.mod.nolimit.keeps λb o e=>(e0.bs b o e).1
 have hkind:∀y∈ps.zip us,scope.names.lookup y.1=some .local\/(scope.names.lookup y.1=some .cell/\((cellsFrom (#[10]+1) scope.names []).lookup y.1).isSome=true):=by
  rintro⟨n,v⟩ hy;rcases S.par n (WU hy).1 with q|q
  ·exact .inl q
  ·exact .inr ⟨q,Wg _ _ _ (.inl q)⟩
 refine XX hr.depth (KX _ _ lk) rfl S.co S.gen rfl (Yh KX hcd) (hb _ _ _ _ ?_);refine W8 S.kind hkind λenv he s1 x=>?_;subst he;refine⟨lim.keeps x.toInCall.keep,codeAny_func ?_⟩;obtain⟨tb,th,hb1,hs1,hq⟩:=hbody A outer s H vs Q E (hr.deeper _) hsp;have I:Inv (fe Fi P w K mg base N qual scope f cdv A outer s H E) [] (start N vs) H s1:=rK S hr.hd e0 hl r x;generalize hX:fe Fi P w K mg base N qual scope f cdv A outer s H E=X at I hb1 hs1;have hP:X.prog=P:=by rw[<- hX];rfl
 have hw:X.w=w:=by rw[<- hX];rfl
 have hA:X.A=A.deeper (envOfC qual scope #[10] f cdv):=by rw[<- hX];rfl
 have henv:X.env=envOfC qual scope #[10] f cdv:=by rw[<- hX];rfl
 have hs0:X.s₀=s:=by rw[<- hX];rfl
 have hH0:X.H₀=H:=by rw[<- hX];rfl
 have hout:X.outer=outer:=by rw[<- hX];rfl
 have hex:X.ex=[]:=by rw[<- hX];rfl
 have hstk:X.stack=X.env::X.outer:=by rw[<- hX];rfl
 have hfrm:X.env.frame=some X.env.locals:=by rw[<- hX];rfl
 have hN:X.N=N:=by rw[<- hX];rfl
 have hK:X.K=K:=by rw[<- hX];rfl
 have hmg:X.mg=mg:=by rw[<- hX];rfl
 have hkn:X.env.kindOf n=some .local:=by rw[<- hX];exact hn
 have hkD:Gl X D:=by rw[<- hX];exact hgD
 have hcls:(X.env.scope.kind == .class || (X.env.scope.kind == .module&&X.env.locals != X.env.globals))=false:=by rw[I.ok.kind];rfl
 have fin:∀{σ':St} {H':Hp} {v:V} {u:Value} {s':YO},Inv X [] σ' H' s'->RelV v u->Q v H'->CE outer X.prog X.w H s Q u s':=λ{σ' H' v u s'} J rv q=>by refine⟨v,H',by rw[<- hs0];exact J.os,J.bare,?_,J.hok,rv,q⟩;have:=J.base;unfold Cx.fs at this;rw[hout,hex,hH0,hs0]at this;exact this
 show wpAny #[14] (A.deeper (envOfC qual scope #[10] f cdv)) (execs [.Try body [.ExceptHandler (some (.Name D np)) (some n) (b0::suite) hpos] [] [] tpos] (envOfC qual scope #[10] f cdv)) (λfl s'=>CR Fi outer P w H s Q E (.ok (.ret (match fl with|.ret v=>v|_=>.none))) s') _ s1;rw[<- hA,<- henv];have NX:N.Nodup:=S.nd;refine wpAny_execs_cons (wpAny_Try_except ?_);rw[<- hP,<- hw];refine Hg λXE hXE=>?_;refine cU (hb1 (λcls _ H'=>PySem.W.exmOne K cls (.ref DC)=some true/\∀(a:Addr) (σ':St),H' a=none->σ'.length=N.length->th {nx:=λ_ H''=>Q .non H'',rt:=Q} (σ'.set i (some (.ref a))) (upd H' a (.ext (et a cls)))) XE ?_ [] s1 (start N vs) H _ (I.p8 XE) hq) (λfl s' hs=>?_)
 ·
  rintro pins σ' H1 s2 e s' I1 ⟨a,cls,t,B,H',e1,os,bare,un,hok,fl,old,xB,hm,hq2⟩;subst e1;show XE (.ref a) s';rw[hXE];have hok:lu X.prog X.w H' s'.heap:=by rw[hP,hw];exact hok
  have I0:Inv X [] σ' H1 s2:=I1.ip.uh λp hp=>nomatch hp;have hfr:X.A.frames=some (X.env::X.outer):=by rw[I0.ok.frames,hstk]
  have fl:Heap.FlyingW B (X.env::X.outer) a cls (.ref t) s'.heap:=by rw[<- hstk];exact fl
  refine wpAny_looks_onW hfr hfrm fl λh4 held4 up4=>wpAny_landsW held4 λh5 fl5 up5=>?_;have up45:=up4.trans up5;have ff:s'.heap.FunFrames B X.stack:=by rw[hstk];exact fl.2.2.1
  have na:H' a=none:=by
   cases q:H' a with
   |none=>rfl
   |some u=>obtain⟨o',_,e4⟩:=xB a u q;rw[fl.2.1]at e4;cases e4
  have nold:s2.heap.get? a=none:=by
   cases q:s2.heap.get? a with
   |none=>rfl
   |some o=>
    by_cases hb:a∈lH X.stack
    ·obtain⟨_,o',e3,nf⟩:=ff.mem hb;obtain⟨oe,ws,hoe,_,hoed,_⟩:=fl.first;rw[e3]at hoe;cases hoe;exact absurd hoed (nf ws)
    ·obtain⟨o',_,e4⟩:=old a o q hb;rw[fl.2.1]at e4;cases e4
  have J5:Inv X [] σ' H' {s' with heap:=h5}:=by obtain⟨u5,k5⟩:=Ci un hok fl5.1 up45 ff old xB;exact I0.Ac os u5 k5 bare (λb z=>nomatch z)
  refine wpAny_handleBy_cons (codeAny_handlers_test (nL (X:=X.held a) (J5.held a) hkD (by show X.mg D=_;rw[hmg];exact hD) ?_ hdb)) (by intro q;cases q);have LT:PySem.W.Looks #[12] h5 (typeOf (.ref a)) cls:=by obtain⟨ob,hob,hc⟩:=fl5.there;subst hc;exact(PySem.W.Looks.ld hob).andThen .now
  have KX5:K.In h5:=by rw[<- hK];exact J5.sP
  refine(PySem.W.exm_one KX5 LT hm).here ?_;refine codeAny_handlers_suite_as (lands_againW fl5 λh6 fl6 up6=>?_)
  have J6:Inv X [] σ' (upd H' a (.ext (et a cls))) {s' with heap:=h6}:=by
   obtain⟨u6,k6⟩:=Ci un hok fl6.1 (up45.trans up6) ff old xB;refine I0.Ac os ⟨u6.keep,u6.slot,λb o z n' h'=>?_,u6.there,λb xs z=>?_,λb o xs z=>?_,λb ps z=>?_⟩ (λb u z=>?_) bare (λb z=>nomatch z)
   ·have hne:b≠a:=λy=>by rw[y,nold]at z;cases z
    rw[aD hne];exact u6.free b o z n' h'
   ·have y:=u6.tups b xs z;rw[aD (aJ y na)];exact y
   ·have y:=u6.frzs b o xs z;rw[aD (aJ y na)];exact y
   ·obtain⟨more,y⟩:=u6.tbls b ps z;exact⟨more,by rw[aD (aJ y na)];exact y⟩
   ·by_cases hba:b=a
    ·subst hba;rw[aM]at z;cases z;exact et.ok (by obtain⟨ob,hob,hc⟩:=fl6.there;exact⟨ob,hob,hc⟩)
    ·rw[aD hba]at z;refine(k6 b u z).pY (λ_ _ _ y=>y) (λc y=>?_) λc xs y=>?_
     ·rw[aD (aJ y na)];exact y
     ·rw[aD (aJ y na)];exact y
  refine pZ (X:=X.held a) (J6.held a) (by show X.N.Nodup;rw[hN];exact NX) (by show X.N[i]?=_;rw[hN];exact hi) (.inl hkn) (v:=.ref a) rfl (λs7 I7=>?_) (.inr hkn);refine VU (hs1 a [] s7 _ _ _ I7 (hq2 a σ' na (by rw[I0.len,hN]))) (λfl' s8 hs=>?_) λ_ _ z=>False.elim z
  have done:∀{σ8:St} {H8:Hp} {v:V} {u:Value},Inv (X.held a) [] σ8 H8 s8->RelV v u->Q v H8->∀h9 tk,Heap.SameBut X.env.locals s8.heap h9->CE outer X.prog X.w H s Q u {s8 with heap:=h9,toks:=tk}:=λ{σ8 H8 v u} J rv q h9 tk sb=>by
   have hsz:#[10]<=X.env.locals:=by have:=J.ok.above;rw[show(X.held a).s₀=X.s₀ from rfl,hs0]at this;exact this
   have bs:=J.base;have noE:∀b:Addr,b∉(X.held a).ex:=λb z=>by rw[show(X.held a).ex=X.ex from rfl,hex]at z;cases z
   have hne:∀b o,s.heap.get? b=some o->b≠X.env.locals:=λb o z y=>absurd (UL z) (by rw[y];exact Nat.not_lt.mpr hsz);have e1:(X.held a).s₀=s:=hs0;have e2:(X.held a).H₀=H:=hH0;have e3:(X.held a).fs=lH outer:=by show lH X.outer=_;rw[hout]
   rw[e1,e2,e3]at bs;refine⟨v,H8,by rw[<- hs0];exact J.os,J.bare,⟨λb o z n' hb _=>(sb.2 b (hne b o z)).trans (bs.keep b o z n' hb (noE b)),λb o z n' hb _=>?_,λb o z n' _=>bs.free b o z n' (noE b),λb o z _=>?_,bs.tups,bs.frzs,bs.tbls⟩,?_,rv,q⟩
   ·obtain⟨sl,y⟩:=bs.slot b o z n' hb (noE b);exact⟨sl,(sb.2 b (hne b o z)).trans y⟩
   ·obtain⟨o',y⟩:=bs.there b o z (noE b);exact⟨o',(sb.2 b (hne b o z)).trans y⟩
   ·intro b u' z;have hb:b≠X.env.locals:=λy=>by have:=J.free;rw[show(X.held a).env.locals=X.env.locals from rfl,<- y,z]at this;cases this
    refine(J.hok b u' z).pY (λc v' hc y=>(sb.2 c ?_).trans y) (λ_ y=>y) λ_ _ y=>y;rcases hc with hc|hc
    ·rw[hc];exact hb
    ·intro y;have:=J.free;rw[show(X.held a).env.locals=X.env.locals from rfl,<- y,hc]at this;cases this
  cases fl' with
  |ret u=>obtain⟨v,σ8,H8,J,rv,q⟩:=hs;obtain⟨m8,hn8,_⟩:=id J.loc;exact wpAny_nameGoes_keeps hkn hn8 hcls λh9 v9 _ sb=>done J rv q h9 _ sb
  |next=>obtain⟨σ8,H8,J,q⟩:=hs;obtain⟨m8,hn8,_⟩:=id J.loc;exact wpAny_nameGoes_keeps hkn hn8 hcls λh9 v9 _ sb=>WR (done (v:=.non) (u:=.none) J rfl q h9 _ sb)
  |brk=>obtain⟨_,_,_,q⟩:=hs;exact False.elim q
  |cont=>obtain⟨_,_,_,q⟩:=hs;exact False.elim q
 ·cases fl with
  |ret u=>obtain⟨v,σ',H',J,rv,q⟩:=hs;exact fin J.ip rv q
  |next=>obtain⟨σ',H',J,q⟩:=hs;exact WR (WR (fin (v:=.non) (u:=.none) J.ip rfl q))
  |brk=>obtain⟨_,_,_,q⟩:=hs;exact False.elim q
  |cont=>obtain⟨_,_,_,q⟩:=hs;exact False.elim q
end L2
namespace PySem.W
open PySem PySem.Spec PySem.Calls PyProof.Rows Builtin Builtin.ObjectAttr Builtin.Getset_descriptor
section
variable {prog:YL} {w:World} {K:Frag} {y D:Addr}
theorem Hh(X:K.In h)(ha:findIn K (.ref D) nm=some (some at1))(hn:specialIn K at1 "__get__" = some (some g1))(htk:takesIn K at1=some true) :
  Looks M h (find (.ref y) (.ref D) nm) (.bind g1 at1):=by
 have K1:=looks_findIn (M:=M) X ha;have K2:Looks M h _ _:=looks_specialIn X hn;have K3:=looks_takesIn (M:=M) X htk;exact K1.andThen (K2.andThen ((show Looks M h _ (some (g1,at1))from K3.andThen .now).andThen (Looks.tag .now)))
theorem Ar(X:K.In s.heap)(LT:Looks (model prog w) s.heap (typeOf (.ref y)) (.ref D))(hm:mroIn K D (.type "object")=some true)(k:R (.ok (.ret (.ref D))) s) :
  codeAny (model prog w) A (.call (.builtin "getset_descriptor.__get__") ⟨[.builtin "object.__class__",.ref y,tp],[]⟩) R s:=by
 obtain⟨h1,gs,dr,tk,os⟩:=s;have LM:=looks_mroIn (M:=model prog w) X hm;refine X5 KF.slot_gs.plain KF.entry_gs (KF.slot_gs.check _ _ _ _ _ _ _ _ KF.type_class (KF.args_gs _ _ _) ?_);unfold Builtin.«getset_descriptor.__get__»;unfold descrGet;rw[dga_obj];refine UE (UH ?_);unfold descrGetter descrCheckInstance;unfold descrNameAndClass isInstance;simp only[KF.owner_class]
 repeat lk
 refine⟨Code.quiet_builtin _ #[9],V1 KF.entry_class ?_⟩;unfold Builtin.«object.__class__»;unfold shownTypeOf
 repeat lk
 exact k
structure qg(K:Frag)(D:Addr):Prop where
 g1:findIn K (.ref D) "__getattribute__" = some (some (.builtin "BaseException.__getattribute__"))
 g2:findIn K (.ref D) "__getattr__" = some none
 be:mroIn K D (.type "BaseException")=some true
 a:findIn K (.ref D) "__class__" = some (some (.builtin "object.__class__"))
 n:specialIn K (.builtin "object.__class__") "__get__" = some (some (.builtin "getset_descriptor.__get__"))
 t:takesIn K (.builtin "object.__class__")=some true
 m:mroIn K D (.type "object")=some true
theorem Fx(L:qg K D)(X:K.In s.heap)(LT:Looks M s.heap (typeOf (.ref y)) (.ref D))(hq:Q () s) :
  wpAny M A (checkBuiltinCall "BaseException.__getattribute__" ⟨[.ref y,nameV],[]⟩) Q E s:=by
 obtain⟨h1,gs,dr,tk,os⟩:=s;have LM:=looks_mroIn (M:=M) X L.be;have hk:builtinKind "BaseException.__getattribute__" = some .slot:=by decide +kernel
 have hsplit:splitId "BaseException.__getattribute__" = some ("BaseException", "__getattribute__"):=by decide +kernel
 have ha:=F.args_bexc_ga (.ref y) nameV;simp only[checkBuiltinCall,hk,hsplit];refine UE ?_;unfold isInstance
 repeat (first|lk|wp_step)
 exact hq
theorem Fy(L:qg K D)(X:K.In s.heap)(LT:Looks (model prog w) s.heap (typeOf (.ref y)) (.ref D))(hq:Q (.done (.ret (.ref D))) s) :
  wpAny (model prog w) A (Builtin.«object.__getattribute__» ⟨[.ref y,.str "__class__" tk],[]⟩) Q E s:=by
 obtain⟨h1,gs,dr,tk',os⟩:=s;have K3:=Hh (M:=model prog w) (y:=y) X L.a L.n L.t;unfold Builtin.«object.__getattribute__»;have e1:slotArgs "__getattribute__" 1 ⟨[.ref y,.str "__class__" tk],[]⟩=pure (.ref y,[.str "__class__" tk]):=rfl;have e2:attrName (.str "__class__" tk)=pure "__class__" := rfl;dsimp only;rw[e1];refine UE (UH ?_);dsimp only;rw[e2];refine UE (UH (UE (LT.at (UE (K3.at ?_)))));show wpAny _ _ (holding [.builtin "object.__class__"] (call (.builtin "getset_descriptor.__get__") [.builtin "object.__class__",.ref y,.ref D]) >>= ret) _ _ _;exact UE (U7 (X7 (Ar X LT L.m (UH hq))))
theorem Kf(L:qg K D)
 (X:K.In s.heap)(LT:Looks (model prog w) s.heap (typeOf (.ref y)) (.ref D))(k:Q (some (.ref D)) {s with toks:=s.toks+1}):wpAny (model prog w) A (getAttr? (.ref y) "__class__") Q E s:=by
 obtain⟨h1,gs,dr,tk,os⟩:=s;have K1:=looks_findIn (M:=model prog w) X L.g1;have K2:=looks_findIn (M:=model prog w) X L.g2;have f3:=F.excAttr_ValueError.ga.bind (.ref y);unfold getAttr? getAttrBy?;unfold getAttrBy;refine UE (wpAny_mkText (UE (Wq (U7 (UE (LT.at (UE (K1.at ?_))))))));have e1:(Value.builtin "BaseException.__getattribute__" == Value.builtin "object.__getattribute__")=false:=by decide +kernel
 have e0:(onTheHeap (Value.ref D)&&(Value.builtin "BaseException.__getattribute__" == Value.builtin "object.__getattribute__"))=false:=by rw[e1];rfl
 dsimp only;rw[e0];show wpAny _ _ (getAttrByItsOwn _ _ _ _ _ _) _ _ _;unfold getAttrByItsOwn;refine UE (K2.at ?_);refine UE (Wq (U7 ?_));show wpAny _ _ (boundAndCalled _ _ _) _ _ _;unfold boundAndCalled;rw[f3];refine UE (UH ?_);refine X7 (X5 F.excAttr_ValueError.ga.plain F.entry_bexc_ga (Fx L X LT (Fy L X LT ?_)));exact handed_on rfl (UH k)
theorem Hi(hcl:(clsIn K D).isSome=true)(L:qg K D) :
  KitX K (.ref y) (.ref D) (L2.et y (.ref D)) where
 ty:=by rintro M h _ ⟨o,e,c⟩;exact c▸(Looks.ld e).andThen .now
 it:=λ_ _ X _=>by
  obtain⟨cd0,z⟩:=Wv.mp hcl;unfold clsIn at z;split at z
  ·rename_i ho;intro A1 Q1 E1 s1 kp q;unfold isType;unfold loadHead;exact UE (wpAny_loadPart (kp _ _ (X _ _ ho)) (UH q))
  grind
 ne:=λh tp dd its n sl X htp=>by
  obtain⟨cd0,z⟩:=Wv.mp hcl;refine V9.mpr λq=>?_;have e:D=tp:=Value.ref.inj (Yo.mp q);subst e;unfold clsIn at z;split at z
  ·rename_i ho;have bad:=(X _ _ ho).symm.trans htp;cases bad
  ·cases z
 ca:=λX p k=>Kf L X (by obtain⟨o,e,c⟩:=p;exact c▸(Looks.ld e).andThen .now) k
end
end PySem.W
namespace L2
open PySem PySem.Spec PyProof.Rows
structure oJ(k:Nat)(A:YN):Prop where
 dp:A.depth+3*k+5<recursionLimit
 un:A.units+16*k+200<cLine
 gd:A.guards=some []
theorem bO.held(r:bO k A)(e:Option Value):oJ k (A.mark e):=⟨r.dp,r.un,r.gd⟩
theorem oJ.deep(r:oJ (k+1) A)(env:Env):oJ k (A.deeper env):=
 ⟨by have:=r.dp;show A.depth+1+3*k+5<_;omega,by have:=r.un;show A.units+3+16*k+200<_;omega,r.gd⟩
theorem oJ.Ul(r:oJ k A):A.depth<recursionLimit:=by have:=r.dp;omega
structure DV(P:YL)(w:World)(K:YE)(mg:YA)(base:Heap)(k:Nat)(f:Addr)(fd:FuncData)(ps:YF)(sp:Sp):Prop where
 len:∀vs H Q E,sp vs H Q E->vs.length=ps.length
 run:∀(A:YN) (outer:List Env) (s:YO) (H:Hp) (args:Args) (us:YD) (vs:List V) (Q:VK) (E:XK),oJ k A->yE P w K mg base A outer s H->BindsTo s fd args (ps.zip us)->Vals vs us->sp vs H Q E ->
  codeAny #[14] A (.call (.ref f) args) (CR Fi outer P w H s Q E) s
noncomputable abbrev Su(P:YL)(w:World)(K:YE)(mg:YA)(base:Heap)(N:YF)(qual:Str)(scope:Scope)(f:Addr)(cd:Value)(A:YN)(outer:List Env)(s:YO)(H:Hp)(E:XK):Cx:=
 {fe Fi P w K mg base N qual scope f cd A outer s H E with calm:=false,xe:=λ_ _=>False}
theorem NS{K:YE}{dV kV doc pm cdv ct oc:Value}
 (lk:K.lookup f=some ⟨oc,od,.func (PySem.W.fnOf name qual params body scope dV kV doc pm an cdv ct),osl⟩)(hcd:PySem.W.codeIn K cdv qual=true)(S:aO N ps scope)
 (len:∀vs H Q E,sp vs H Q E->vs.length=ps.length)
 (hbody:∀(A:YN) (outer:List Env) (s:YO) (H:Hp) (vs:List V) (Q:VK) (E:XK),oJ k (A.deeper (envOfC qual scope #[10] f cdv))->sp vs H Q E ->
   ∃t,xD (Su P w K mg base N qual scope f cdv A outer s H E) body t/\t {nx:=λ_ H'=>Q .non H',rt:=Q} (start N vs) H) :
  DV P w K mg base (k+1) f (PySem.W.fnOf name qual params body scope dV kV doc pm an cdv ct) ps sp:=by
 refine⟨len,λA outer s H args us vs Q E hr e0 hb r hsp=>?_⟩;have hl:=len _ _ _ _ hsp;have kb:∀b o,base.get? b=some o->s.heap.get? b=some o:=λb o e=>(e0.bs b o e).1
 have hkind:∀y∈ps.zip us,scope.names.lookup y.1=some .local\/(scope.names.lookup y.1=some .cell/\((cellsFrom (#[10]+1) scope.names []).lookup y.1).isSome=true):=by
  rintro⟨n,v⟩ hy;rcases S.par n (WU hy).1 with q|q
  ·grind
  ·exact .inr ⟨q,Wg _ _ _ (.inl q)⟩
 refine XX hr.Ul (e0.mod.kin.keeps kb _ _ lk) rfl S.co S.gen rfl (Yh (e0.mod.kin.keeps kb) hcd) (hb _ _ _ _ ?_);refine W8 S.kind hkind λenv he s1 x=>?_;subst he;refine⟨(e0.mod.nolimit.keeps kb).keeps x.toInCall.keep,codeAny_func ?_⟩;obtain⟨t,ht,hq⟩:=hbody A outer s H vs Q E (hr.deep _) hsp;have e1:yE P w K mg base {A with handled:=none} outer s H:=⟨e0.frames,e0.mod,e0.bs,e0.bsz,e0.j5,e0.frf,e0.hok,e0.bare⟩;have I0:Inv (fe Fi P w K mg base N qual scope f cdv {A with handled:=none} outer s H E) [] (start N vs) H s1:=rK S rfl e1 hl r x
 have I:Inv (Su P w K mg base N qual scope f cdv A outer s H E) [] (start N vs) H s1:=
  ⟨⟨I0.ok.mod,I0.ok.kind,I0.ok.glob,I0.ok.blt,I0.ok.above,I0.ok.inj,I0.ok.has,I0.ok.cab,(λz=>nomatch z),I0.ok.frames,I0.ok.stk,I0.ok.exf,I0.ok.bs,I0.ok.bsz,I0.ok.noex,I0.ok.exfs,I0.ok.j5,I0.ok.frf⟩,I0.os,I0.bare,I0.base,I0.loc,I0.cell,I0.free,I0.freeC,I0.pin,I0.hok,I0.len⟩
 refine VU (ht [] s1 (start N vs) H _ I hq) (λfl s' hs=>?_) λe s' hs=>False.elim hs
 cases fl with
 |ret u=>obtain⟨v,σ',H',J,rv,q⟩:=hs;exact⟨v,H',J.os,J.bare,J.base,J.hok,rv,q⟩
 |next=>obtain⟨σ',H',J,q⟩:=hs;exact⟨.non,H',J.os,J.bare,J.base,J.hok,rfl,q⟩
 |brk=>obtain⟨_,_,_,q⟩:=hs;exact False.elim q
 |cont=>obtain⟨_,_,_,q⟩:=hs;exact False.elim q
theorem GB.Um{K:YE}{st:Stmt}(F:GB K x qual st f fd)(S:aO N ps (au st))(len:∀vs H Q E,sp vs H Q E->vs.length=ps.length)
 (hbody:∀(cdv:Value) (A:YN) (outer:List Env) (s:YO) (H:Hp) (vs:List V) (Q:VK) (E:XK),oJ k (A.deeper (envOfC qual (au st) #[10] f cdv))->sp vs H Q E ->
   ∃t,xD (Su P w K mg base N qual (au st) f cdv A outer s H E) (cb st) t/\t {nx:=λ_ H'=>Q .non H',rt:=Q} (start N vs) H):DV P w K mg base (k+1) f fd ps sp:=by
 obtain⟨oc,od,kV,doc,pm,an,cdv,ct,osl,rfl,lk,hcd⟩:=F.ex;exact NS lk hcd S len λA outer s H vs Q E hr hsp=>hbody cdv A outer s H vs Q E hr hsp
structure Cj(P:YL)(w:World)(K:YE)(mg:YA)(base:Heap)(x:Str)(ps:YF)(k:Nat)(sp:Sp):Prop where
 ex:∃(f:Addr) (fd:FuncData),mg x=some (.ref f)/\PySem.W.keepIn K (.ref f)=true/\Binds K fd ps []/\DV P w K mg base k f fd ps sp
theorem NT{p pos:Pos}(F:Cj X.prog X.w X.K X.mg X.base x ps k sp)(hr:oJ k X.A)(hg:Gl X x)(ha:PA X (e::es) t)(hdb:(x==("__debug__" : Str))=false:=by decide)
 (he:#[2]:=by rfl)(hpl:(backTo pos (starEach es X.env)).any (·.1)=false:=by rfl):PE X (.Call (.Name x p) (e::es) [] pos) (Dz sp [] E0 t):=by
 obtain⟨f,fd,hm,hk,hb,F⟩:=F.ex;intro pins s σ H Q I h;refine VR (nL I hg hm ?_ hdb);refine Yg (h₀:=X.base) I.ok.mod.kin hk (cU (ha pos pins s σ H _ I h) λus s1 ⟨vs,H1,I1,r1,q1⟩=>⟨I1.sP,?_⟩) he hpl;have r2:Vals (vs++[]) (us++[]):=r1.append .nil;have hl:(us++[]).length=ps.length:=by rw[<- r2.length];exact F.len _ _ _ _ q1
 refine X7 (WT (F.run X.A X.stack s1 H1 ⟨us,[]⟩ (us++[]) (vs++[]) Q E0 hr I1.JU (hb s1 us I1.sP hl) r2 q1) λr s' hq=>?_)
 cases r with
 |error e=>trivial
 |ok fl=>
  cases fl with
  |ret u=>exact I1.after hq
  |next=>assumption
  |brk=>exact False.elim hq
  |cont=>exact False.elim hq
theorem Hj:PE X e (λ_ _ _=>False):=λ_ _ _ _ _ _ h=>h.elim
structure NU(K:YE)(D:Addr):Prop where
 c:(PySem.W.clsIn K D).isSome=true
 l:PySem.W.qg K D
noncomputable def NV:V->Option Value
 |.ref C=>some (.ref C)
 |.ty n=>some (.type n)
 |_=>none
noncomputable def Hk(K:YE):List V->Hp->VK->Prop:=λxs H Q=>∃a D v c b,xs=[.ref a,v]/\NV v=some c/\H a=some (.ext (et a (.ref D)))/\NU K D/\PySem.W.kitOne K (.ref D) c=some b/\Q (.bl b) H
section
variable {X:Cx}
theorem xQ:cY X (.builtin "isinstance") (Hk X.K):=by
 intro pins s σ H vs us Q I r h;obtain⟨a,D,v,c,b,rfl,hv,ha,ec,e,q⟩:=h
 cases r with
 |cons r rr=>
  cases rr with
  |cons r' rr=>
   cases rr;cases r;rename_i u2
   have hc:c=u2:=by
    cases v with
    |ref C=>simp[NV]at hv;cases r';grind
    |ty n=>simp[NV]at hv;cases r';grind
    |_=>trivial
   subst hc;obtain⟨p,_,_⟩:=(show cC X.prog X.w H s.heap a (.ext (et a (.ref D)))from I.hok a _ ha);exact VF (PySem.W.Hi ec.c ec.l) I.sP p e (λz=>nomatch z) λtk=>⟨.bl b,H,I.tok _,rfl,q⟩
theorem As{bs:List Bool}:∀{us:YD},Vals (bs.map V.bl) us->us=bs.map Value.bool:=by
 induction bs with
 |nil=>intro us r;cases r;rfl
 |cons b bs ih=>
  intro us r
  cases r with
  |cons r rr=>rw[ih rr];cases r;rfl
noncomputable def Kg:V->List V->Hp->VK->Prop:=λx vs H Q=>∃(l:Addr) (bs:List Bool),x=.ref l/\vs=[.bl true]/\H l=some (.lst (bs.map V.bl))/\Q (.int ((bs.countP λb=>b):Nat)) H
theorem Fz:Sj X "list.count" Kg:=by
 intro pins s σ H x vs v us Q I rx rv h;obtain⟨l,bs,rfl,rfl,hH,q⟩:=h;cases rx;obtain⟨u,rfl,ru⟩:=rv.one;cases ru;obtain⟨z,its,n,r,hl,e⟩:=I.Ai hH;have hi:=As r;subst hi;refine WM F.slot_list_count ⟨_,e,rfl⟩ F.entry_list_count (F.args_list_count_2 _ _) (PySem.SeqAt.list_countAt l _ n none #[] _ (λy=>match y with|.bool b=>b|_=>false)) ⟨e,λy hy=>?_,?_⟩
 ·obtain⟨b,_,rfl⟩:=U0.mp (by grind:y∈bs.map Value.bool);have:=PySem.SeqAt.EqAt.bool_bool (A:=X.A.in1) (s:=s) b true
  simp_all
 ·have hc:List.countP (λy=>match y with|Value.bool b=>b|_=>false) (List.map Value.bool bs).toArray.toList=bs.countP λb=>b:=by
   rw[List.toList_toArray,List.countP_map];rfl
  rw[hc];exact⟨.int (_:Nat),H,I.tok _,⟨_,rfl⟩,q⟩
noncomputable def Kh:V->List V->Hp->VK->Prop:=λx vs H Q=>∃(l:Addr) (bs:List Bool) (j:Nat),x=.ref l/\vs=[.bl true]/\H l=some (.lst (bs.map V.bl))/\bs[j]?=some true/\(∀m,m<j->bs[m]?=some false)/\j<1000/\Q (.int (j:Nat)) H
theorem FA:Sj X "list.index" Kh:=by
 intro pins s σ H x vs v us Q I rx rv h;obtain⟨l,bs,j,rfl,rfl,hH,hj,hno,hs,q⟩:=h;cases rx;obtain⟨u,rfl,ru⟩:=rv.one;cases ru;obtain⟨z,its,n,r,hl,e⟩:=I.Ai hH;have hi:=As r;subst hi;obtain⟨hj1,hj2⟩:=UM.mp hj;refine WM F.slot_list_index ⟨_,e,rfl⟩ F.entry_list_index (F.args_list_index_2 _ _) (PySem.SeqAt.list_indexAt l _ n none #[] _ (λy=>match y with|.bool b=>b|_=>false) j (by grind) #[4] (by simp[hj2]) (λm hm hmj=>?_)) ⟨e,λy hy=>?_,?_⟩
 ·obtain⟨h1,h2⟩:=UM.mp (hno m hmj);simp[h2]
 ·obtain⟨b,_,rfl⟩:=U0.mp (by grind:y∈bs.map Value.bool);have:=PySem.SeqAt.EqAt.bool_bool (A:=X.A.in1) (s:=s) b true
  simp_all
 ·exact⟨.int (j:Nat),H,I.tok _,⟨_,rfl⟩,q⟩
end
theorem FC(hstk:X.stack=X.env::X.outer)(hfrm:X.env.frame=some X.env.locals)(hex:X.ex=[])
 (hxe:∀e s',wpAny #[12] X.A (leaving X.env e) (λ_ s''=>iZ X.prog X.w X.outer X.H₀ X.s₀ E e s'') (λe' s''=>iZ X.prog X.w X.outer X.H₀ X.s₀ E e' s'') s'->X.xe e s'):Passes (iZ X.prog X.w) X E:=by
 rintro pins σ H1 s1 e s' I ⟨a,cls,t,B,H',e1,os,bare,un,hok,fl,old,xB,q⟩;subst e1;have J:=I.Ac os un hok bare (λb z=>nomatch z);have hfr:X.A.frames=some (X.env::X.outer):=by rw[I.ok.frames,hstk]
 have noA:∀b:Addr,b∉X.ex:=λb z=>by grind
 have inB:∀b o,X.s₀.heap.get? b=some o->b∉lH X.outer->∃o',s'.heap.get? b=some o'/\B.get? b=some o':=λb o e hb=>by
  obtain⟨o1,e1⟩:=I.base.there b o e (noA b);refine old b o1 e1 λz=>?_;rcases UO.mp (I.lJ b z)with z|z
  ·exact absurd (UL e) (by rw[z];exact Nat.not_lt.mpr I.ok.above)
  grind
 refine hxe _ _ ?_;rw[hstk]at fl;refine wpAny_leaves_onW hfr hfrm fl λh' fl' up=>?_;have ub:Un (lH X.outer) [] X.H₀ H' X.s₀.heap s'.heap:=by have:=J.base;rw[hex]at this;exact this
 obtain⟨u2,k2⟩:=Ci ub J.hok fl'.1 up fl.2.2.1.2.2 inB xB;refine⟨a,cls,t,B,H',rfl,os.trans I.os,bare,u2,k2,fl',λb o e hb=>?_,λb u e=>?_,q⟩
 ·obtain⟨o',_,e4⟩:=inB b o e hb;exact⟨o',fl'.1 b o' e4,e4⟩
 ·obtain⟨o',_,e4⟩:=xB b u e;exact⟨o',fl'.1 b o' e4,e4⟩
noncomputable abbrev ka(qual:Str)(scope:Scope)(L f:Addr)(cd:Value)(clos:List (Str×Addr)):Env:=PySem.W.envX qual scope L f cd clos
noncomputable def xR(P:YL)(w:World)(K:YE)(mg:YA)(base:Heap)(N:YF)(qual:Str)(scope:Scope)(f:Addr)(cd:Value)(clos:List (Str×Addr))(A:YN)(outer:List Env)(s:YO)(H:Hp)(E:XK):Cx where
 prog:=P
 w:=w
 K:=K
 mg:=mg
 base:=base
 A:=A.deeper (ka qual scope #[10] f cd clos)
 N:=N
 s₀:=s
 H₀:=H
 env:=ka qual scope #[10] f cd clos
 outer:=outer
 stack:=ka qual scope #[10] f cd clos::outer
 ex:=[]
 calm:=true
 fn:=λ_=>false
 pn:=[]
 xe:=λe s'=>wpAny #[14] (A.deeper (ka qual scope #[10] f cd clos)) (leaving (ka qual scope #[10] f cd clos) e) (λ_ s''=>iZ P w outer H s E e s'') (λe' s''=>iZ P w outer H s E e' s'') s'
theorem jL{K:YE} :
  Passes (iZ P w) (xR P w K mg base N qual scope f cd clos A outer s H E) E:=FC (X:=xR P w K mg base N qual scope f cd clos A outer s H E) rfl rfl rfl λ_ _ h=>h
structure uU(scope:Scope):Prop where
 co:scope.isCoroutine=false
 gen:scope.isGenerator=false
 kind:scope.kind=.function
 nocell:∀x∈scope.names,x.2≠.cell
theorem Ki{K:YE}{vs:List V}
 (S:uU scope)(hr:bO (k+1) A)(e0:yE P w K mg base A outer s H)(ho:s.heap.get? f=some o)(hd:o.data=.func (PySem.W.kla_fn name qual params body scope clos pm (.ref c') ctv))(hcd:s.heap.CodeRec (.ref c') qual)
 (hbind:bindArgs (PySem.W.kla_fn name qual params body scope clos pm (.ref c') ctv) ⟨[],[]⟩=pure [])
 (hinj:∀x y c,clos.lookup x=some c->clos.lookup y=some c->x=y)(hhas:∀x,scope.names.lookup x=some .free->∃c,clos.lookup x=some c)
 (hcell:∀x c,clos.lookup x=some c->(∃v,s.heap.IsCell c v)/\H c=none)(hN:N.length=vs.length)
 (hv:∀(i:Nat) (x:Str) (v:V),N[i]?=some x->vs[i]?=some v->scope.names.lookup x=some .free/\∃c u,clos.lookup x=some c/\s.heap.IsCell c (some u)/\RelV v u)
 (hb:bO k (A.deeper (ka qual scope #[10] f (.ref c') clos))->PE (xR P w K mg base N qual scope f (.ref c') clos A outer s H E) body t)(hq:t (vs.map some) H Q) :
  codeAny #[14] A (.call (.ref f) ⟨[],[]⟩) (CR (iZ P w) outer P w H s Q E) s:=by
 have kb:∀b o,base.get? b=some o->s.heap.get? b=some o:=λb o e=>(e0.bs b o e).1;refine PySem.W.kla_callFunE hr.depth ho hd S.co S.gen rfl hcd ?_;rw[hbind];refine UH (wpAny_newFunctionEnv S.nocell (λx hx=>nomatch hx) (λh₁ hns hsb=>?_) S.kind);have hk₁:∀b o,s.heap.get? b=some o->h₁.get? b=some o:=λb o e=>(hsb.2 b (UR (UL e))).trans (UG _ e);refine⟨(e0.mod.nolimit.keeps kb).keeps hk₁,?_⟩;show codeAny _ _ (.expr body (ka qual scope #[10] f (.ref c') clos)) _ _;refine PySem.W.kla_codeExpr ?_;have isK:∀{c:Addr} {v:Option Value},s.heap.IsCell c v->h₁.IsCell c v:=λ⟨ob,e,d⟩=>⟨ob,hk₁ _ _ e,d⟩;have noA:∀b:Addr,b∉([]:YC):=λb z=>nomatch z
 have I:Inv (xR P w K mg base N qual scope f (.ref c') clos A outer s H E) [] (vs.map some) H {s with heap:=h₁,toks:=s.toks+([]:List (Str×Value)).length}:=by
  refine⟨⟨e0.mod,S.kind,rfl,rfl,UJ _,hinj,λy hy=>?_,(λy c hf _=>nomatch hf),λ_=>hr.hd,Around.frames_deeper e0.frames,.inr ⟨rfl,rfl⟩,λb z=>absurd z (noA b),e0.bs,e0.bsz,λb _ _=>noA b,λb z=>absurd z (noA b),e0.j5,e0.frf⟩,
   rfl,e0.bare,Un.kept hk₁,⟨_,hns,λi x v h1 h2 h3=>?_⟩,λx c h=>?_,e0.hok.fresh (UJ _),λx c h=>(hcell x c h).2,(λp hp=>nomatch hp),e0.hok.kept hk₁,?_⟩
  ·have hy:scope.names.lookup y=some .cell\/scope.names.lookup y=some .free:=hy;rcases hy with hy|hy
   ·exact absurd rfl (S.nocell _ (VB hy))
   ·exact hhas y hy
  ·have h2':vs[i]?=some v:=by
    rw[VD]at h2
    cases e:vs[i]? with
    |none=>rw[e]at h2;cases h2
    |some u=>rw[e]at h2;cases h2;rfl
   obtain⟨hf,c,u,hc,hic,rv⟩:=hv i x v h1 h2';exact⟨u,rv,.inr ⟨.inr hf,c,hc,isK hic⟩⟩
  ·obtain⟨⟨v,hv'⟩,_⟩:=hcell x c h;exact⟨v,isK hv'⟩
  ·rw[UZ];exact hN.symm
 refine VU (hb (hr.deeper _) [] _ _ H Q I hq) (λu s' ⟨v,H',J,rv,q⟩=>?_) λe s' h=>h;exact⟨v,H',J.os,J.bare,J.base,J.hok,rv,q⟩
noncomputable def NW(P:YL)(w:World)(K:YE)(mg:YA)(base:Heap)(s:YO)(H:Hp)(f:Addr)(k:Nat)(G:VK->XK->Prop):Prop:=
 (∃o fd,s.heap.get? f=some o/\o.data=.func fd)/\H f=none /\
 ∀(A:YN) (outer:List Env) (s2:YO) (fs:YC) (Q:VK) (E:XK),bO k A->yE P w K mg base A outer s2 H->Un fs [] H H s.heap s2.heap->G Q E->codeAny #[14] A (.call (.ref f) ⟨[],[]⟩) (CR (iZ P w) outer P w H s2 Q E) s2
noncomputable def Qi(G:VK->XK->Prop)(EH:XK)(i:Nat)(H0:Hp)(f:Addr):TE:=λσ H Q=>σ[i]?=some (some (.ref f))/\H=H0/\G Q EH
theorem Ck(hN:X.N[i]?=some x)(hl:X.env.scope.names.lookup x=some .local)(hdb:(x==("__debug__" : Str))=false)(hcd:(x==("__classdict__" : Str))=false)(hex:X.ex=[])
 (L:NW X.prog X.w X.K X.mg X.base X.s₀ X.H₀ f k G)(hr:bO k X.A)(hx:Passes (iZ X.prog X.w) X EH):PE X (.Call (.Name x p) [] [] pos) (Qi G EH i X.H₀ f):=by
 rintro pins s σ H Q I ⟨h1,h2,h3⟩;subst h2
 have ub:Un X.fs [] X.H₀ X.H₀ X.s₀.heap s.heap:=by
  have:=I.base
  grind
 obtain⟨⟨o,fd,ho,hfd⟩,hf0,hrun⟩:=L;refine VR (cU (yz hN (.inl hl) hdb hcd pins s σ X.H₀ (λv H'=>v=.ref f/\H'=X.H₀) I ⟨_,h1,rfl,rfl⟩) λu s1 ⟨v,H1,I1,r1,q1,q2⟩=>?_);subst q1;subst q2;cases r1;have ub1:Un X.fs [] X.H₀ X.H₀ X.s₀.heap s1.heap:=by have:=I1.base;rw[hex]at this;exact this
 obtain⟨sl,e1⟩:=ub1.any ho hf0 (λz=>nomatch z);obtain⟨oc,od,dat,osl⟩:=o;cases hfd;refine PySem.W.callWith_F0 ⟨_,_,_,_,e1⟩ ?_;refine X7 (WT (hrun X.A X.stack s1 X.fs Q EH hr I1.JU ub1 h3) λr s' hq=>?_)
 cases r with
 |error e=>exact hx pins σ _ s1 e s' I1 hq
 |ok fl=>
  cases fl with
  |ret u=>exact I1.after hq
  |next=>exact False.elim hq
  |brk=>exact False.elim hq
  |cont=>exact False.elim hq
end L2
namespace L2
open PySem
noncomputable def wX(H:Hp)(b:Addr):Hp:=λa=>if a=b then none else H a
theorem Cm(h:a≠b):wX H b a=H a:=if_neg h
theorem Hl:wX H b b=none:=if_pos rfl
theorem Kj(h:wX H b a=some o):a≠b/\H a=some o:=by
 by_cases e:a=b
 ·grind[Hl]
 simp_all[Cm]
end L2
namespace L2
open PySem PySem.Spec PyProof.Rows
structure Ext(H G H' G':Hp):Prop where
 sh:aX H H'
 sg:aX G G'
 gs:aX G' H'
 old:∀c,H c≠none->G' c=G c
theorem Ext.refl{H G:Hp}(s:aX G H):Ext H G H G:=⟨aX.refl H,aX.refl G,s,λ_ _=>rfl⟩
theorem Ext.new(s:aX G H)(hp:H p=none):Ext H G (upd H p o) (upd G p o):=by
 refine⟨aX.new hp,aX.new (s.free hp),λc u e=>?_,λc hc=>aD λz=>hc (z▸hp)⟩;by_cases h:c=p
 ·grind[aM]
 ·rw[aD h]at e ⊢;exact s c u e
section
variable {X:Cx} {k:Nat}
noncomputable def Qj:R2:=λx y H Q=>∃G ds es,aX G H/\Rep G (.tuple ds) x/\Rep G (.tuple es) y/\ds.length+es.length<=sizeLine/\∀r H' G',Ext H G H' G'->Rep G' (.tuple (ds++es)) r->Q r H'
theorem Kk:iX X (binaryOp .Add) Qj:=by
 intro pins s σ H x y v u Q I rx ry h;obtain⟨G,ds,es,sg,h1,h2,hz,q⟩:=h;obtain⟨a,vs,rfl,ha,r1⟩:=id h1;obtain⟨b,us,rfl,hb,r2⟩:=id h2;by_cases hv:vs=[]
 ·subst hv;have hd:ds=[]:=WG.mp r1.length.symm;subst hd;cases rx;cases ry;obtain⟨its1,v1,⟨⟨c1,d1,e1,l1⟩,p1,g1,n1,z1⟩,_⟩:=I.tuple (gm.of (K:=X.K) (sg _ _ ha));obtain⟨its2,v2,⟨⟨c2,d2,e2,l2⟩,p2,g2,n2,z2⟩,_⟩:=I.tuple (gm.of (K:=X.K) (sg _ _ hb));simp only at g1 z1 g2 z2;subst g1 z1 g2 z2;cases v1;exact concat_meets ⟨_,p1,rfl⟩ ⟨_,p2,rfl⟩ noFill_tuple_add seq_tuple_add XH Xw (Xp _ _) (tuple_addW0 a b _ _ n1 n2 d1 d2 l1 l2 rfl) ⟨p1,p2,⟨.ref b,H,I,rfl,q _ H G (Ext.refl sg) h2⟩⟩
 ·refine J0 pins s σ H _ _ v u Q I rx ry ⟨a,b,vs,us,rfl,rfl,gm.of (sg _ _ ha),gm.of (sg _ _ hb),hv,by grind[r1.length,r2.length],λe=>?_,λe p hp=>?_⟩
  ·subst e;have he:es=[]:=WG.mp r2.length.symm;subst he;exact q _ H G (Ext.refl sg) (by rw[WS];exact h1)
  ·have x:=Ext.new (o:=.tup (vs++us)) sg hp;exact q _ _ _ x ⟨p,_,rfl,aM,bf.append (r1.same x.sg) (r2.same x.sg)⟩
noncomputable def Sv:V->Option Int->Option Int->Hp->VK->Prop:=λx lo hi H Q=>∃G ds,aX G H/\Rep G (.tuple ds) x/\∀r H' G',Ext H G H' G'->Rep G' (.tuple (cutD ds lo hi)) r->Q r H'
theorem Kl:Pk X Sv:=by
 intro pins s σ H x v vl vu lo hi sl Q I rx hs pl pu h;obtain⟨G,ds,sg,h1,q⟩:=h;obtain⟨a,xs,rfl,ha,r1⟩:=id h1;cases rx;obtain⟨its,rv,ht,hz⟩:=I.tuple (gm.of (K:=X.K) (sg _ _ ha));have hl:its.toArray.size=xs.length:=by rw[UX];exact rv.length.symm
 by_cases hw:HT.fQ xs.length 0 lo=0/\HT.fQ xs.length xs.length hi=xs.length
 ·refine⟨"tuple",_,Vv.lookup,ht.typeIs,xf ht hs pl pu (by grind) (by grind) ⟨.ref a,H,I,rfl,q _ H G (Ext.refl sg) ?_⟩⟩
  have e:cutD ds lo hi=ds:=by
   simp_all[cutD,r1.length,hw,List.drop_zero,Nat.sub_zero,Yu]
  grind
 ·refine Nu pins s σ H (.ref a) _ vl vu lo hi sl Q I rfl hs pl pu ⟨a,xs,rfl,gm.of (sg _ _ ha),hw,λp hp=>?_⟩;have x:=Ext.new (o:=.tup (Ah xs lo hi)) sg hp;refine q _ _ _ x ⟨p,_,rfl,aM,?_⟩;have e:cutD ds lo hi=(ds.drop (HT.fQ xs.length 0 lo)).take (HT.fQ xs.length xs.length hi-HT.fQ xs.length 0 lo):=by unfold cutD;rw[r1.length]
  rw[e];exact((r1.same x.sg).drop _).take _
end
theorem Vals.Mc:∀(us:YD) (f:Nat->V),(∀j v,us[j]?=some v->RelV (f j) v)->Vals ((List.range us.length).map f) us
 | [],_,_=>.nil
 |u::us,f,h=>by rw[U8,List.range_succ_eq_map,Vn,Xq];exact .cons (h 0 u rfl) (Vals.Mc us _ λj v e=>h _ v e)
section
variable {X:Cx}
theorem Au(hc:X.calm=true):cY X (.type "tuple") (λxs H Q=>∃x,xs=[.str x]/\x.cps.size<=sizeLine/\∀p,H p=none->Q (.ref p) (upd H p (.tup ((List.range x.cps.size).map (sgn x))))):=by
 intro pins s σ H xs us Q I r h;obtain⟨x,rfl,hz,q⟩:=h;obtain⟨u,rfl,rx⟩:=vals1 r;obtain⟨t,rfl⟩:=rx;refine call_tuple_str (I.ok.hd hc) x t (λh' tk acc kp hacc=>?_) hz;have I1:Inv X pins σ H {s with heap:=h',toks:=tk}:=I.kept (t':=tk) kp
 have hv:Vals ((List.range x.cps.size).map (sgn x)) acc.toList:=by
  have e:acc.toList.length=x.cps.size:=by rw[Vl,hacc.1]
  rw[<- e];refine Vals.Mc _ _ λj v ev=>yM j v ?_ (hacc.2 j v (by simp_all));rw[<- e]
  grind
 have I2:Inv X pins σ (upd H h'.objs.size (.tup ((List.range x.cps.size).map (sgn x)))) {s with heap:=h'.push {cls:=.type "tuple",data:=.seq acc},toks:=tk}:=by
  refine I1.laid (t':=tk) (λb o e=>UG _ e) (UJ _) (show cC X.prog X.w _ _ _ (.tup _)from⟨by simp_all,acc.toList,hv,?_⟩);have:=IsTup.new h' acc
  simp_all
 exact⟨.ref h'.objs.size,_,I2,rfl,q _ (I1.hok.fresh (UJ _))⟩
end
noncomputable def recAt(c:Addr)(q:Str):Heap->Prop:=λh=>h.CodeRec (.ref c) q
theorem recAt.ok(x:recAt c q h):cC P w H h c (.ext (recAt c q)):=by
 have st:∀h1 h2:Heap,recAt c q h1->(∀o,h1.get? c=some o->h2.get? c=some o)->recAt c q h2:=by rintro h1 h2 ⟨c1,oc,vs,t,e,e1,e2,e3⟩ k;cases e;exact⟨c,oc,vs,t,rfl,k _ e1,e2,e3⟩
 exact⟨x,(by obtain⟨c1,oc,vs,t,e,e1,_⟩:=x;simp_all),st⟩
noncomputable def xS(H:Hp)(P:Addr)(q:Str):Prop:=∃ps:YJ,H P=some (.tbl ps)/\TriplesOk ps.toList/\∀(pos:Pos) (c:Value),codeAmong pos ps.toList=some c->∃a,c=.ref a/\a≠P/\H a=some (.ext (recAt a q))
theorem oK:∀(n:Nat) (l:YD),l.length<=n->TriplesOk l->TriplesOk (l++[.int a t,.int b u,c])
 |_,[],_,_=>trivial
 |0,_::_,h,_=>absurd h #[6]
 |n+1,v::l,hn,ht=>by
  unfold TriplesOk at ht;split at ht
  ·grind
  ·rename_i x y x' y' z r e;cases e;have hl:r.length<=n:=by grind
   exact oK n r hl ht
  grind
theorem yO(h:TriplesOk l):TriplesOk (l++[.int a t,.int b u,c]):=oK l.length l (UJ _) h
theorem sR(pos:Pos):∀(n:Nat) (l:YD),l.length<=n->TriplesOk l->codeAmong pos (l++[.int a t,.int b u,c])=some d->codeAmong pos l=some d\/d=c
 |_,[],_,_,h=>by
  grind[List.nil_append,codeAmong]
 |0,_::_,h,_,_=>absurd h #[6]
 |n+1,v::l,hn,ht,h=>by
  unfold TriplesOk at ht;split at ht
  ·grind
  ·rename_i x y x' y' z r e;cases e;have hl:r.length<=n:=by simp only[U8]at hn;omega
   have h':codeAmong pos (.int x y::.int x' y'::z::(r++[.int a t,.int b u,c]))=some d:=h;unfold codeAmong at h' ⊢;split at h'
   ·rename_i q;rw[if_pos q];exact .inl h'
   ·rename_i q;rw[if_neg q];exact sR pos n r hl ht h'
  grind
theorem Co(pos:Pos)(ht:TriplesOk l)(h:codeAmong pos (l++[.int a t,.int b u,c])=some d):codeAmong pos l=some d\/d=c:=sR pos l.length l (UJ _) ht h
structure BMod(base:Heap)(mg:YA)(bm:Addr):Prop where
 g:mg "__builtins__" = some (.ref bm)
 n1:bm≠builtinsNs
 ob:∃o,base.get? bm=some o/\o.cls=.type "module" /\ o.dict=some builtinsNs/\o.data=.plain
section
variable {X:Cx} {pins:Yx} {σ:St} {H:Hp} {s:YO}
theorem Hn(I:#[11])(hcode:X.env.code=.ref c)(ht:PySem.W.codeHdIn X.K c P=true)(B:BMod X.base X.mg bm)
 (tb:xS H P (X.env.qual ++ "<lambda>"))(hdef:defaultsOf params X.env=([],[]))(hfree:∀n,(n,NameKind.free)∈lscope.names->X.env.kindOf n=some .cell\/X.env.kindOf n=some .free)
 (k:∀f o c' pm ctv H' s',Inv X pins σ H' s'->s'.heap.get? f=some o->o.data=.func (PySem.W.kla_fn "<lambda>" (X.env.qual ++ "<lambda>") params body lscope (dB X.env.cells lscope.names []) pm (.ref c') ctv)->H' f=none->H' c'=some (.ext (recAt c' (X.env.qual ++ "<lambda>"))) ->
   xS H' P (X.env.qual ++ "<lambda>")->aX (wX H P) (wX H' P)->Q (.ref f) s') :
  wpAny #[12] X.A (eval (.Lambda params body lscope lpos) X.env) Q E s:=by
 obtain⟨ps,hP,htr,hcs⟩:=id tb;have hPo:s.heap.get? P=some (PySem.W.tabObj ps):=(show cC X.prog X.w H s.heap P (.tbl ps)from I.hok P _ hP);have C:PySem.W.CodeHd s.heap c P:=PySem.W.codeHd_of_K I.sP ht;have hgs:s.heap.Ns mainGlobals X.mg:=I.mod.glob.keeps I.bk;obtain⟨ob,hbo,hb1,hb2,hb3⟩:=B.ob;have hbh:=I.bk _ _ hbo
 have hgP:mainGlobals≠P:=λz=>by
  obtain⟨o,es,ep,e,hd,_⟩:=hgs
  grind
 have hbP:bm≠P:=λz=>by grind
 have hbG:bm≠mainGlobals:=λz=>by obtain⟨o,es,ep,e,hd,_⟩:=id hgs;rw[<- z,hbh]at e;cases e;rw[hb3]at hd;cases hd
 have hb:s.heap.BuiltinsAt X.mg P:=⟨bm,_,B.g,B.n1,hbG,hbP,hbh,hb1,hb2,hb3⟩;have hcl:=jl (scope:=lscope) (env:=X.env) λn hn=>I.ok.has n (hfree n hn);refine PySem.W.kla_eval hdef ?_
 cases hca:codeAmong lpos ps.toList with
 |some cv=>obtain⟨a,rfl,hne,ha⟩:=hcs lpos cv hca;refine PySem.W.kla_makeFunctionHit (mg:=X.mg) hcl I.ok.glob hgs hcode C hPo htr hca hb λctv h' tk hk hsz=>?_;have kp:∀b u,s.heap.get? b=some u->(h'.push {cls:=.type "function",data:=.func (PySem.W.kla_fn "<lambda>" (X.env.qual ++ "<lambda>") params body lscope (dB X.env.cells lscope.names []) ((X.mg "__name__").getD .none) (.ref a) ctv)}).get? b=some u:=λb u e=>UG _ (hk b u e);exact k h'.objs.size _ a _ ctv H _ (I.kept (t':=tk) kp) (UK _ rfl) rfl (I.hok.fresh hsz) ha tb (aX.refl _)
 |none=>
  refine PySem.W.kla_makeFunction (mg:=X.mg) hcl I.ok.glob hgs hcode C hPo htr hca hgP hb λc' ctv h' tk hx hge hlt hrec htb=>?_;have hc0:H c'=none:=I.hok.fresh hge;have hcP:c'≠P:=λz=>by rw[z,hP]at hc0;cases hc0
  have hf0:H h'.objs.size=none:=I.hok.fresh (WA (Nat.lt_of_le_of_lt hge hlt));have hsz:#[10]<=h'.objs.size:=WA (Nat.lt_of_le_of_lt hge hlt);have hfc:h'.objs.size≠c':=Xn hlt;have hfP:h'.objs.size≠P:=λz=>by rw[<- z,hf0]at hP;cases hP
  have kp:∀b u,b≠P->s.heap.get? b=some u->(h'.push (PySem.W.kla_obj "<lambda>" (X.env.qual ++ "<lambda>") params body lscope (dB X.env.cells lscope.names []) ((X.mg "__name__").getD .none) c' ctv)).get? b=some u:=λb u n e=>UG _ (hx b u n e);have hPn:(h'.push (PySem.W.kla_obj "<lambda>" (X.env.qual ++ "<lambda>") params body lscope (dB X.env.cells lscope.names []) ((X.mg "__name__").getD .none) c' ctv)).get? P=some (PySem.W.tabObj (ps++#[rawInt lpos.line,rawInt lpos.col,.ref c'])):=UG _ htb;have hrecn:recAt c' (X.env.qual ++ "<lambda>") (h'.push (PySem.W.kla_obj "<lambda>" (X.env.qual ++ "<lambda>") params body lscope (dB X.env.cells lscope.names []) ((X.mg "__name__").getD .none) c' ctv)):=by obtain⟨c1,oc,vs,t,e,e1,e2,e3⟩:=hrec;cases e;exact⟨c',oc,vs,t,rfl,UG _ e1,e2,e3⟩
  have hfn:(h'.push (PySem.W.kla_obj "<lambda>" (X.env.qual ++ "<lambda>") params body lscope (dB X.env.cells lscope.names []) ((X.mg "__name__").getD .none) c' ctv)).get? h'.objs.size=some (PySem.W.kla_obj "<lambda>" (X.env.qual ++ "<lambda>") params body lscope (dB X.env.cells lscope.names []) ((X.mg "__name__").getD .none) c' ctv):=UK _ rfl;generalize h'.push (PySem.W.kla_obj "<lambda>" (X.env.qual ++ "<lambda>") params body lscope (dB X.env.cells lscope.names []) ((X.mg "__name__").getD .none) c' ctv)=g at kp hPn hrecn hfn;have nP:∀b,H b=none->b≠P:=λb n z=>by rw[z,hP]at n;cases n
  have J:Inv X pins σ (upd (upd H P (.tbl (ps++#[rawInt lpos.line,rawInt lpos.col,.ref c']))) c' (.ext (recAt c' (X.env.qual ++ "<lambda>")))) {s with heap:=g,gens:=s.gens,drawn:=s.drawn,toks:=tk}:=by
   refine I.step (g':=s.gens) (d':=s.drawn) (t':=tk) (ch:=[]) (λ_ z=>nomatch z) (λb o _ _ _ e n=>kp b o (nP b n) e) (λb o _ _ _ e n=>⟨o.slots,kp b o (nP b n) e⟩) (λb o _ e n=>?_) (λb o _ e=>?_) (λb xs e=>?_) (λb o u e=>?_) (λb qs e=>?_) (λm hm=>?_) (λb u e=>?_) I.bare
   ·have bc:b≠c':=UR (UT (UL e) hge);rw[aD bc,aD (nP b n)];exact n
   ·by_cases hb':b=P
    ·subst hb';exact⟨_,hPn⟩
    ·exact⟨o,kp b o hb' e⟩
   ·have bP:b≠P:=λz=>by rw[z,hP]at e;cases e
    rw[aD (aJ e hc0),aD bP];exact e
   ·have bP:b≠P:=λz=>by rw[z,hP]at e;cases e
    rw[aD (aJ e hc0),aD bP];exact e
   ·by_cases hb':b=P
    ·subst hb';rw[hP]at e;cases e;exact⟨_,by rw[aD (X9 hcP),aM]⟩
    ·exact⟨#[],by rw[aD (aJ e hc0),aD hb',e];simp⟩
   ·obtain⟨o,es,ep,ho,r⟩:=hm;exact⟨o,es,ep,kp _ o (nP _ I.free) ho,r⟩
   ·by_cases hbc:b=c'
    ·subst hbc;rw[aM]at e;cases e;exact recAt.ok hrecn
    ·rw[aD hbc]at e;by_cases hb':b=P
     ·subst hb';rw[aM]at e;cases e;exact hPn
     ·rw[aD hb']at e;refine(I.hok b u e).pY (λd v hd z=>kp d v ?_ z) (λd z=>?_) λd xs z=>?_
      ·rcases hd with hd|hd
       ·rw[hd];exact hb'
       ·intro y;rw[y,hP]at hd;cases hd
      ·have dP:d≠P:=λy=>by rw[y,hP]at z;cases z
       rw[aD (aJ z hc0),aD dP];exact z
      ·have dP:d≠P:=λy=>by rw[y,hP]at z;cases z
       rw[aD (aJ z hc0),aD dP];exact z
  have sH:aX (wX H P) (wX (upd (upd H P (.tbl (ps++#[rawInt lpos.line,rawInt lpos.col,.ref c']))) c' (.ext (recAt c' (X.env.qual ++ "<lambda>")))) P):=λb o e=>by obtain⟨n1,e1⟩:=Kj e;rw[Cm n1,aD (aJ e1 hc0),aD n1];exact e1
  refine k h'.objs.size _ c' _ ctv _ _ J hfn rfl (by rw[aD hfc,aD hfP];exact hf0) aM ⟨_,by rw[aD (X9 hcP),aM],?_,λpos d z=>?_⟩ sH
  ·rw[Yc];exact yO htr
  ·rw[Yc]at z;rcases Co pos htr z with z|z
   ·obtain⟨a,h1,h2,h3⟩:=hcs pos d z;exact⟨a,h1,h2,by rw[aD (aJ h3 hc0),aD h2];exact h3⟩
   ·exact⟨c',z,hcP,aM⟩
end
structure yP(P:YL)(w:World)(K:YE)(mg:YA)(base:Heap)(x:Str)(ps:YF)(k:Nat)(sp:YO->Sp):Prop where
 ex:∃(f:Addr) (fd:FuncData),mg x=some (.ref f)/\PySem.W.keepIn K (.ref f)=true/\Binds K fd ps []/\Hf P w K mg base Fi k f fd ps sp
noncomputable def xT(P:YL)(w:World)(K:YE)(mg:YA)(base:Heap)(k:Nat)(M:(VK->XK->Prop)->VK->Prop):YO->Sp:=λs vs H Q _=>∃f G,vs=[.ref f]/\NW P w K mg base s H f k G/\M G Q
theorem pe(hh:∀n,(n,NameKind.free)∈names->∃c,cells.lookup n=some c)(h:(dB cells names []).lookup x=some c):(x,NameKind.free)∈names/\cells.lookup x=some c:=by
 by_cases hm:(x,NameKind.free)∈names
 ·rw[eG hm]at h
  grind
 simp_all[jJ]
noncomputable def Km(tb:XK->TE)(idx:List Nat)(P:Addr)(q:Str)(M:(VK->XK->Prop)->VK->Prop):TE:=λσ H Q=>∃vs:List V,vs.length=idx.length/\(∀(j:Nat) (v:V),vs[j]?=some v->∃i,idx[j]?=some i/\σ[i]?=some (some v))/\xS H P q /\
 ∀H1,xS H1 P q->aX (wX H P) (wX H1 P)->M (λQ' E'=>tb E' (vs.map some) H1 Q') Q
section
variable {X:Cx}
theorem FD{lpos p pos:Pos}
 (F:yP X.prog X.w X.K X.mg X.base g [pn] k (xT X.prog X.w X.K X.mg X.base (kl+1) M))(hr:bO k X.A)(hg:Gl X g)(hcode:X.env.code=.ref c)(ht:PySem.W.codeHdIn X.K c P=true)(B:BMod X.base X.mg bm)
 (S:uU lscope)(hdef:defaultsOf params X.env=([],[]))(hfree:∀n,(n,NameKind.free)∈lscope.names->X.env.kindOf n=some .cell\/X.env.kindOf n=some .free)(hlk:∀x,(x,NameKind.free)∈lscope.names->lscope.names.lookup x=some .free)
 (hbind:∀clos pm c' ctv,bindArgs (PySem.W.kla_fn "<lambda>" (X.env.qual ++ "<lambda>") params body lscope clos pm (.ref c') ctv) ⟨[],[]⟩=pure [])
 (hN2:N2.length=idx.length)(hix:∀(j:Nat) (x:Str),N2[j]?=some x->∃i,idx[j]?=some i/\X.N[i]?=some x/\(x,NameKind.free)∈lscope.names)
 (hbody:∀(f c':Addr) (clos:List (Str×Addr)) (A:YN) (outer:List Env) (s:YO) (H:Hp) (E:XK),bO kl (A.deeper (ka (X.env.qual ++ "<lambda>") lscope #[10] f (.ref c') clos))->PE (xR X.prog X.w X.K X.mg X.base N2 (X.env.qual ++ "<lambda>") lscope f (.ref c') clos A outer s H E) body (tb E))
 (hdb:(g==("__debug__" : Str))=false:=by decide)(hs:starEach [.Lambda params body lscope lpos] X.env=(false,eval (.Lambda params body lscope lpos) X.env)::starEach [] X.env:=by rfl) :
  PE X (.Call (.Name g p) [.Lambda params body lscope lpos] [] pos) (Km tb idx P (X.env.qual ++ "<lambda>") M):=by
 obtain⟨fg,fd,hm,hk,hb,FS⟩:=F.ex;rintro pins s σ H Q I ⟨vs,hvl,hvs,tab,km⟩;refine VR (nL I hg hm ?_ hdb);refine Yg (h₀:=X.base) I.ok.mod.kin hk ?_ hs rfl;rw[hs];refine Xv (Hn I hcode ht B tab hdef hfree λf o c' pm ctv H1 s1 I1 ho hd hf0 hc' tab1 sH=>?_);refine XJ ⟨I1.sP,?_⟩;have hh:∀n,(n,NameKind.free)∈lscope.names->∃c,X.env.cells.lookup n=some c:=λn hn=>I1.ok.has n (hfree n hn)
 have LC:NW X.prog X.w X.K X.mg X.base s1 H1 f (kl+1) (λQ' E'=>tb E' (vs.map some) H1 Q'):=by
  refine⟨⟨o,_,ho,hd⟩,hf0,λA outer s2 fs Q' E' hr' e0 un hG=>?_⟩;have no:∀b:Addr,b∉([]:YC):=λb z=>nomatch z;obtain⟨sl,e1⟩:=un.any ho hf0 (no f);have cellU:∀x cc v,X.env.cells.lookup x=some cc->s1.heap.IsCell cc v->s2.heap.IsCell cc v:=by rintro x cc v hx ⟨ob,eo,dd⟩;obtain⟨sl',e'⟩:=un.any eo (I1.freeC x cc hx) (no cc);exact⟨_,e',dd⟩
  obtain⟨rec,_⟩:=(show cC X.prog X.w H1 s2.heap c' (.ext (recAt c' (X.env.qual ++ "<lambda>")))from e0.hok c' _ hc');refine Ki (N:=N2) (vs:=vs) (t:=tb E') (o:={o with slots:=sl}) S hr' e0 e1 hd rec (hbind _ _ _ _) (λx y cc h1 h2=>?_) (λx hx=>?_) (λx cc h1=>?_) (by rw[hN2,hvl]) (λj x v h1 h2=>?_) (hbody f c' _ A outer s2 H1 E') hG
  ·exact I1.ok.inj x y cc (pe hh h1).2 (pe hh h2).2
  ·have hm':=VB hx;obtain⟨cc,e⟩:=hh x hm';exact⟨cc,by rw[eG hm',e];rfl⟩
  ·have hx:=(pe hh h1).2;obtain⟨v,hv⟩:=I1.cell x cc hx;exact⟨⟨v,cellU x cc v hx hv⟩,I1.freeC x cc hx⟩
  ·obtain⟨i,hi,hNi,hmx⟩:=hix j x h1;obtain⟨i',hi',hσ⟩:=hvs j v h2;rw[hi]at hi';cases hi';obtain⟨m,hns,hl⟩:=I1.loc;have vis:GD X.env.scope x:=(hfree x hmx).elim (λz=>.inr (.inl z)) (λz=>.inr (.inr z));obtain⟨u,rv,look⟩:=hl i x v hNi hσ vis;refine⟨hlk x hmx,?_⟩;rcases look with⟨kl',_⟩|⟨_,cc,hc,hcell⟩
   ·rcases hfree x hmx with z|z
    ·rw[kl']at z;cases z
    ·rw[kl']at z;cases z
   ·exact⟨cc,u,by rw[eG hmx,hc];rfl,cellU x cc _ hc hcell,rv⟩
 have hsp:xT X.prog X.w X.K X.mg X.base (kl+1) M s1 [.ref f] H1 Q E0:=⟨f,_,rfl,LC,km H1 tab1 sH⟩;have r2:Vals [V.ref f] [Value.ref f]:=.cons rfl .nil;have hl:([Value.ref f]++[]).length=[pn].length:=rfl;refine X7 (WT (FS.run X.A X.stack s1 H1 ⟨[.ref f],[]⟩ ([.ref f]++[]) [.ref f] Q E0 hr I1.JU (hb s1 [.ref f] I1.sP hl) r2 hsp) λr s' hq=>?_)
 cases r with
 |error e=>exact hq.elim
 |ok fl=>
  cases fl with
  |ret u=>exact I1.after hq
  |next=>exact False.elim hq
  |brk=>exact False.elim hq
  |cont=>exact False.elim hq
end
end L2
namespace PySem.SeqAt
open PySem PySem.MeetsSeq PySem.AutoSeq1
theorem uV(b:Str)(u:Tok)(l:Addr)(es:YI)(n:Nat)(dd:Option Addr)(sl:YH) :
  Meets (Builtin.«str.__eq__» ⟨[.str b u,.ref l],[]⟩) (λ_ R s=>s.heap.get? l=some {cls:=.type "dict",dict:=dd,data:=.dict es n,slots:=sl}/\R (.ok (.ret .notImplemented)) s):=
 .of_wp λprog w A R s h=>by
  obtain⟨hl,h⟩:=h
  wp_walk using wpAny_loadPart' hl,Xo hl
  grind
theorem uW(b:Str)(u:Tok)(l:Addr)(es:YI)(n:Nat)(dd:Option Addr)(sl:YH) :
  Meets (Builtin.«dict.__eq__» ⟨[.ref l,.str b u],[]⟩) (λ_ R s=>s.heap.get? l=some {cls:=.type "dict",dict:=dd,data:=.dict es n,slots:=sl}/\R (.ok (.ret .notImplemented)) s):=
 .of_wp λprog w A R s h=>by
  obtain⟨hp,g,d,tk,os⟩:=s;obtain⟨hl,h⟩:=h;have f1:=F.sub_str_dict
  wp_walk using wpAny_loadPart' hl,Xo hl
  exact⟨_,rfl,h⟩
theorem EqAt.Kn(b:Str)(u:Tok)(hl:s.heap.get? l=some {cls:=.type "dict",dict:=dd,data:=.dict es n,slots:=sl})(hu:A.units<cLine):EqAt A s (.str b u) (.ref l) false:=λprog w E Q h=>by
 refine U7 (V2 (λhab=>absurd (eq_of_beq hab) nofun) (λ_=>UE ?_))
 refine rc_eq_decline_or (typeIs_str s b u) ⟨_,hl,rfl⟩ #[5] F.sub_dict_str F.slot_str_eq Xl
  (λ_ hq=>WM F.slot_str_eq (typeIs_str s b u) F.entry_str_eq (F.args_str_eq_2 _ _) (uV b u l es n dd sl) ⟨hl,hq⟩)
  (λ_ hq=>WM Xl ⟨_,hl,rfl⟩ F.entry_dict_eq (F.args_dict_eq_2 _ _) (uW b u l es n dd sl) ⟨hl,hq⟩)
  (λ_ hq=>WC (rfl:isSame _ _=pure false) hq) (.inr hu) (VC h)
end PySem.SeqAt
set_option maxHeartbeats 4000000
namespace PySem.W
open PySem PySem.Calls PyProof.Rows
noncomputable def KasT.Run{α:Type}(lt:Nat->Nat->Bool)(n:Nat):KasT α->(α->Prop)->Prop
 |.ret a,P=>P a
 |.ask i j k,P=>i<n/\j<n/\(k (lt i j)).Run lt n P
theorem KasT.run_bind{P:β->Prop} :
  ∀(t:KasT α),t.Run lt n (λa=>(f a).Run lt n P)->(t.bind f).Run lt n P
 |.ret _,h=>h
 |.ask _ _ k,h=>⟨h.1,h.2.1,KasT.run_bind (k _) h.2.2⟩
theorem KasT.fj{P Q:α->Prop}(hq:∀a,P a->Q a) :
  ∀(t:KasT α),t.Run lt n P->t.Run lt n Q
 |.ret a,h=>hq a h
 |.ask _ _ k,h=>⟨h.1,h.2.1,KasT.fj hq (k _) h.2.2⟩
theorem KasT.Ho{Q:α->YO->Prop}{I:YO->Prop}
 (hc:∀i j C s,i<n->j<n->I s->(∀s',I s'->C (lt i j) s')->cmp i j C s)(hq:∀a s,P a->I s->Q a s) :
  ∀(t:KasT α) (s:YO),t.Run lt n P->I s->t.kasWp cmp Q s
 |.ret a,s,h,hi=>hq a s h hi
 |.ask i j k,s,h,hi=>hc i j _ s h.1 h.2.1 hi (λs' hs'=>KasT.Ho hc hq (k _) s' h.2.2 hs')
structure gP(lt:Nat->Nat->Bool)(n:Nat):Prop where
 as:∀a b,a<n->b<n->lt a b=true->lt b a=false
 tr:∀a b c,a<n->b<n->c<n->lt b a=false->lt c b=false->lt c a=false
noncomputable abbrev pat(p:YK)(k:Nat):Nat:=p.getD k 0
theorem gq(p:YK)(k:Nat):pat p k=p[k]?.getD 0:=by simp
structure bR(n:Nat)(p:YK):Prop where
 perm:p.toList.Perm (List.range n)
theorem bR.size(h:bR n p):p.size=n:=by
 have:=h.perm.length_eq
 grind
theorem bR.lt(h:bR n p)(hk:k<n):pat p k<n:=by
 have hs:k<p.size:=by simp_all[h.size]
 have e:pat p k=p[k]:=by simp_all
 rw[e];have:p[k]∈p.toList:=by simp
 exact U4.mp (h.perm.mem_iff.mp this)
theorem bR.of(h:bR n p)(e:q.Perm p):bR n q:=
 ⟨(Array.perm_iff_toList_perm.mp e).trans h.perm⟩
theorem bR.rev(h:bR n p)(i j:Nat):bR n (kas_rev p i j):=h.of (mirror_perm _ _ _ _)
theorem i6(h:bR n p)(hj:j<=n)(k:Nat) :
  pat (kas_rev p i j) k=if i<=k/\k<j then pat p (i+j-1-k)else pat p k:=by
 rw[gq];unfold kas_rev;rw[getElem?_mirror_all (by simp_all[h.size])];split<;>rw[gq]
theorem DX(h:bR n p)(hk:k<n)(hd:d<=k)(i:Nat) :
  pat (bubble p k d) i=if i=k-d then pat p k else if k-d<i/\i<=k then pat p (i-1)else pat p i:=by
 rw[gq,getElem?_bubble (by simp_all[h.size]) d hd];split
 ·simp
 ·split<;>rw[gq]
section
variable {lt:Nat->Nat->Bool} {n:Nat}
noncomputable def t7(lt:Nat->Nat->Bool)(p:YK)(m:Nat):Prop:=∀i j,i<j->j<m->lt (pat p j) (pat p i)=false
noncomputable def i7(lt:Nat->Nat->Bool)(p:YK)(m:Nat):Prop:=∀i j,i<j->j<m->lt (pat p i) (pat p j)=false
theorem gP.Md(O:gP lt n)(hx:x<n):lt x x=false:=by
 cases hh:lt x x with
 |false=>rfl
 |true=>have:=O.as _ _ hx hx hh;grind
theorem t7.more(O:gP lt n)(hp:bR n p)(h1:1<=m)(hm:m<n)(u:t7 lt p m)(h:lt (pat p m) (pat p (m-1))=false):t7 lt p (m+1):=by
 intro i j hij hj;rcases Wr j m with h'|h'
 ·exact u i j hij h'
 ·obtain rfl:j=m:=by omega
  rcases Wr i _ with h''|h''
  ·exact O.tr _ _ _ (hp.lt #[4]) (hp.lt #[4]) (hp.lt hm) (u i _ h'' #[4]) h
  ·obtain rfl:i=j-1:=by omega
   exact h
theorem i7.more(O:gP lt n)(hp:bR n p)(h1:1<=m)(hm:m<n)(u:i7 lt p m)(h:lt (pat p (m-1)) (pat p m)=false):i7 lt p (m+1):=by
 intro i j hij hj;rcases Wr j m with h'|h'
 ·exact u i j hij h'
 ·obtain rfl:j=m:=by omega
  rcases Wr i _ with h''|h''
  ·exact O.tr _ _ _ (hp.lt hm) (hp.lt #[4]) (hp.lt #[4]) h (u i _ h'' #[4])
  ·obtain rfl:i=j-1:=by omega
   exact h
theorem yQ(O:gP lt n)(hp:bR n p):∀(f m:Nat),1<=m->m+f<=n->t7 lt p m ->
  (kas_asc p f m).Run lt n (λr=>m<=r/\r<=m+f/\t7 lt p r/\(r<m+f->lt (pat p r) (pat p (r-1))=true))
 |0,m,h1,hm,u=>⟨UJ _,UJ _,u,λh=>absurd h (Va _)⟩
 |f+1,m,h1,hm,u=>by
  refine⟨hp.lt #[4],hp.lt #[4],?_⟩
  cases hc:lt _ _ with
  |true=>exact⟨UJ _,by omega,u,λ_=>hc⟩
  |false=>
   have hc':=hc;refine KasT.fj (λr hr=>?_) _ (yQ O hp f _ #[4] #[4] (u.more O hp h1 #[4] hc'))
   grind
noncomputable def Rr(lt:Nat->Nat->Bool)(p:YK)(a b:Nat):Prop:=∀i j,a<=i->i<b->a<=j->j<b->lt (pat p i) (pat p j)=false
theorem uX(hp:bR n p)(hb:b<=m)(hm:m<=n)(d:i7 lt p m)(e:Rr lt p a b):i7 lt (kas_rev p a b) m:=by
 intro i j hij hj;rw[i6 hp #[4],i6 hp #[4]];split
 ·split
  ·exact e _ _ #[4] #[4] #[4] #[4]
  ·exact d _ _ #[4] #[4]
 ·split
  ·exact d _ _ #[4] #[4]
  ·exact d _ _ hij hj
theorem NY(hp:bR n p)(hm:m<=n)(d:i7 lt p m):t7 lt (kas_rev p 0 m) m:=by intro i j hij hj;rw[i6 hp hm,i6 hp hm,if_pos #[4],if_pos #[4]];exact d _ _ #[4] #[4]
theorem i7.zero:i7 lt p 1:=λi j h h'=>by omega
theorem qh(O:gP lt n):∀(f:Nat) (p:YK) (m q:Nat),bR n p->q+1<=m->m+f<=n->i7 lt p m->Rr lt p (m-(q+1)) m ->
  (kas_desc f p m q).Run lt n (λr=>bR n r.1/\r.2.2+1<=r.2.1/\r.2.1<=m+f/\i7 lt r.1 r.2.1/\Rr lt r.1 (r.2.1-(r.2.2+1)) r.2.1)
 |0,p,m,q,hp,hq,hm,d,e=>⟨hp,hq,UJ _,d,e⟩
 |f+1,p,m,q,hp,hq,hm,d,e=>by
  refine⟨hp.lt #[4],hp.lt #[4],?_⟩
  cases hc:lt (p.getD m 0) (p.getD (m-1) 0)with
  |true=>
   simp only[VT];have h1:lt (pat p (m-1)) (pat p m)=false:=O.as _ _ (hp.lt #[4]) (hp.lt #[4]) hc;split
   ·have hd2:=uX (n:=n) hp (UJ m) #[4] d e;have hp2:=hp.rev (m-(q+1)) m;refine KasT.fj (λr hr=>⟨hr.1,hr.2.1,by have:=hr.2.2.1;omega,hr.2.2.2⟩) _ (qh O f _ (m+1) 0 hp2 #[4] #[4] ?_ ?_)
    ·refine hd2.more O hp2 #[4] #[4] ?_;rw[i6 hp #[4],i6 hp #[4],if_pos #[4],if_neg #[4]];refine O.tr _ _ _ (hp.lt #[4]) (hp.lt #[4]) (hp.lt #[4]) h1 ?_;exact e _ _ #[4] #[4] #[4] #[4]
    ·intro i j h1 h2 h3 h4;obtain rfl:i=m:=by omega
     obtain rfl:j=i:=by omega
     exact O.Md (hp2.lt #[4])
   ·refine KasT.fj (λr hr=>⟨hr.1,hr.2.1,by have:=hr.2.2.1;omega,hr.2.2.2⟩) _ (qh O f _ (m+1) 0 hp #[4] #[4] (d.more O hp #[4] #[4] h1) ?_);intro i j h1 h2 h3 h4;obtain rfl:i=m:=by omega
    obtain rfl:j=i:=by omega
    exact O.Md (hp.lt #[4])
  |false=>
   simp only[US,Vu];refine⟨hp.lt #[4],hp.lt #[4],?_⟩
   cases hc2:lt (p.getD (m-1) 0) (p.getD m 0)with
   |true=>simp only[VT];exact⟨hp,hq,by show m<=_;omega,d,e⟩
   |false=>
    simp only[US,Vu];refine KasT.fj (λr hr=>⟨hr.1,hr.2.1,by have:=hr.2.2.1;omega,hr.2.2.2⟩) _ (qh O f _ (m+1) (q+1) hp #[4] #[4] (d.more O hp #[4] #[4] hc2) ?_);have Md:lt (pat p m) (pat p m)=false:=by exact O.Md (hp.lt #[4])
    intro i j h1 h2 h3 h4;rcases Wr i m with hi|hi
    ·rcases Wr j m with hj|hj
     ·exact e _ _ #[4] hi #[4] hj
     ·obtain rfl:j=m:=by omega
      exact O.tr _ _ _ (hp.lt #[4]) (hp.lt (show j-1<n by omega)) (hp.lt #[4]) hc2 (e _ _ #[4] hi #[4] #[4])
    ·obtain rfl:i=m:=by omega
     rcases Wr j i with hj|hj
     ·exact O.tr _ _ _ (hp.lt #[4]) (hp.lt (show i-1<n by omega)) (hp.lt #[4]) (e _ _ #[4] #[4] #[4] hj) hc
     ·obtain rfl:j=i:=by omega
      exact Md
noncomputable def Hq(lt:Nat->Nat->Bool)(n:Nat)(r:Nat×YK):Prop:=bR n r.2/\1<=r.1/\r.1<=n/\t7 lt r.2 r.1
theorem xU(O:gP lt n)(hp:bR n p)(h1:1<=m)(hm:m<=n)(d:i7 lt p m):(kas_tail3 m n p).Run lt n (Hq lt n):=by refine KasT.run_bind _ (KasT.fj (λr hr=>?_) _ (yQ O (hp.rev 0 m) _ m h1 #[4] (NY hp hm d)));exact⟨hp.rev 0 m,by omega,by omega,hr.2.2.1⟩
theorem qi(O:gP lt n)(hp:bR n p)(h1:1<=m)(hm:m<n)(d:i7 lt p (m+1)):(kas_descPart m n p).Run lt n (Hq lt n):=by
 refine KasT.run_bind _ (KasT.fj (λr hr=>?_) _ (qh O _ p _ 0 hp #[4] #[4] d ?_))
 ·split
  ·exact xU O (hr.1.rev _ _) #[4] #[4] (uX hr.1 (UJ _) #[4] hr.2.2.2.1 hr.2.2.2.2)
  ·exact xU O hr.1 #[4] #[4] hr.2.2.2.1
 ·intro i j h1 h2 h3 h4;obtain rfl:j=i:=by omega
  exact O.Md (hp.lt #[4])
theorem FE(O:gP lt n)(hp:bR n p)(h1:1<=n):(kas_count n p).Run lt n (Hq lt n):=by
 unfold kas_count;refine KasT.run_bind _ (KasT.fj (λr hr=>?_) _ (yQ O hp (n-1) 1 (UJ _) #[4] λi j h h'=>by omega));obtain⟨hr1,hr2,up,st⟩:=hr;split
 ·exact⟨hp,hr1,by omega,up⟩
 ·rename_i hne
  have hlt:r<n:=by
   grind
  have hs:=st #[4];split
  ·rename_i hgt;refine⟨hp.lt #[4],hp.lt #[4],?_⟩;dsimp only;split
   ·exact⟨hp,hr1,by show r<=n;omega,up⟩
   ·rename_i hc;have hc:lt (pat p 0) (pat p (r-1))=false:=by simpa using hc
    have eqs:Rr lt p 0 r:=by
     have lo:∀i,i<r->lt (pat p i) (pat p 0)=false:=λi hi=>by
      rcases Nat.eq_zero_or_pos i with rfl|h
      ·exact O.Md (hp.lt #[4])
      ·exact up 0 i h hi
     have hi:∀i,i<r->lt (pat p (r-1)) (pat p i)=false:=λi hi=>by
      rcases Wr i (r-1)with h|h
      ·exact up i (r-1) h #[4]
      ·obtain rfl:i=r-1:=by omega
       exact O.Md (hp.lt #[4])
     intro i j _ h2 _ h4;have a1:lt (pat p 0) (pat p j)=false:=O.tr _ _ _ (hp.lt #[4]) (hp.lt (show r-1<n by omega)) (hp.lt #[4]) (hi j h4) hc;exact O.tr _ _ _ (hp.lt #[4]) (hp.lt (show 0<n by omega)) (hp.lt #[4]) a1 (lo i h2)
    have dn:i7 lt (kas_rev p 0 r) r:=uX hp (UJ r) #[4] (λi j h h'=>eqs _ _ #[4] #[4] #[4] h') eqs;refine qi O (hp.rev 0 r) #[4] hlt (dn.more O (hp.rev 0 r) #[4] hlt ?_);rw[i6 hp #[4],i6 hp #[4],if_pos #[4],if_neg #[4]];refine O.tr _ _ _ (hp.lt #[4]) (hp.lt (show r-1<n by omega)) (hp.lt #[4]) (O.as _ _ (hp.lt #[4]) (hp.lt #[4]) hs) ?_;exact eqs _ _ #[4] #[4] #[4] #[4]
  ·obtain rfl:r=1:=by omega
   exact qi O hp #[4] hlt ((i7.zero).more O hp #[4] hlt (O.as _ _ (hp.lt #[4]) (hp.lt #[4]) hs))
theorem rM(O:gP lt n)(hp:bR n p)(hk:k<n)(u:t7 lt p k):∀(f l r:Nat),l<=r->r<=k->r-l<=f ->
  (∀i,i<l->lt (pat p k) (pat p i)=false)->(∀i,r<=i->i<k->lt (pat p i) (pat p k)=false) ->
  (kas_place p k f l r).Run lt n (λm=>m<=k/\(∀i,i<m->lt (pat p k) (pat p i)=false)/\(∀i,m<=i->i<k->lt (pat p i) (pat p k)=false))
 |0,l,r,h1,h2,h3,a,b=>⟨by omega,a,λi hi=>b i #[4]⟩
 |f+1,l,r,h1,h2,h3,a,b=>by
  unfold kas_place;split
  ·exact⟨by omega,a,λi hi=>b i #[4]⟩
  ·rename_i hlr;refine⟨hp.lt hk,hp.lt #[4],?_⟩;dsimp only;split
   ·rename_i hc;refine rM O hp hk u f l ((l+r) / 2) #[4] #[4] #[4] a λi hi hik=>?_;have hm:lt (pat p ((l+r) / 2)) (pat p k)=false:=O.as _ _ (hp.lt hk) (hp.lt #[4]) hc;rcases Wr ((l+r) / 2) i with h|h
    ·exact O.tr _ _ _ (hp.lt hk) (hp.lt (show(l+r) / 2<n by omega)) (hp.lt #[4]) hm (u _ _ h hik)
    ·obtain rfl:i=(l+r) / 2:=by omega
     exact hm
   ·rename_i hc;have hc:lt (pat p k) (pat p ((l+r) / 2))=false:=by simpa using hc
    refine rM O hp hk u f ((l+r) / 2+1) r #[4] h2 #[4] (λi hi=>?_) b;rcases Wr i ((l+r) / 2)with h|h
    ·exact O.tr _ _ _ (hp.lt #[4]) (hp.lt (show(l+r) / 2<n by omega)) (hp.lt hk) (u _ _ h #[4]) hc
    ·obtain rfl:i=(l+r) / 2:=by omega
     exact hc
theorem DY(O:gP lt n):∀(f:Nat) (p:YK) (k:Nat),bR n p->k+f=n->t7 lt p k->(kas_bin f p k).Run lt n (λp=>bR n p/\t7 lt p n)
 |0,p,k,hp,hk,u=>⟨hp,by grind⟩
 |f+1,p,k,hp,hk,u=>by
  unfold kas_bin;refine KasT.run_bind _ (KasT.fj (λm hm=>?_) _ (rM O hp #[4] u k 0 k (WD _) (UJ _) #[4] (λi h=>by omega) (λi h h'=>by omega)));obtain⟨hmk,lo,hi⟩:=hm;refine DY O f _ (k+1) (hp.of (bubble_perm _ _ _)) #[4] ?_;intro i j hij hj;have hd:k-(k-m)=m:=by omega
  rw[DX hp #[4] #[4],DX hp #[4] #[4],hd];by_cases j1:j=m
  ·grind
  ·rw[if_neg j1];by_cases i1:i=m
   ·rw[if_pos i1,if_pos #[4]];exact hi _ #[4] #[4]
   ·rw[if_neg i1];by_cases j2:m<j/\j<=k
    ·rw[if_pos j2];by_cases i2:m<i/\i<=k
     ·rw[if_pos i2];exact u _ _ #[4] #[4]
     ·rw[if_neg i2];exact u _ _ #[4] #[4]
    ·rw[if_neg j2,if_neg #[4]];exact u _ _ hij #[4]
theorem Hr(O:gP lt n)(h:1<=n):(kas_sort n).Run lt n (λp=>bR n p/\t7 lt p n):=by
 refine KasT.run_bind _ (KasT.fj (λr hr=>?_) _ (FE O ⟨XU _⟩ h));obtain⟨hp,h1,h2,u⟩:=hr;split
 ·have:max r.1 1=r.1:=by omega
  rw[this];exact DY O _ _ _ hp #[4] u
 ·refine⟨hp,?_⟩
  grind
end
end PySem.W
set_option maxHeartbeats 4000000
namespace PySem.W
open PySem PySem.Calls PyProof.Rows
section
variable {prog:YL} {w:World} {A:YN} {E:Yw} {s:YO}
noncomputable def Av(prog:YL)(w:World)(A:YN)(vs:YD)(lt:Nat->Nat->Bool)(s:YO):Prop:=
 wpAny (model prog w) A (keyKind' vs.toArray) (λκ s'=>s'=s/\∀i j C,i<vs.length->j<vs.length->C (lt i j) s ->
  wpAny (model prog w) A (keyLt' κ (vs.getD i Value.none) (vs.getD j Value.none)) C (λ_ _=>False) s) (λ_ _=>False) s
theorem DZ{vs:YD}(hl:vs.length<2):(vs.toArray.zip vs.toArray).map (·.2)=(((List.range vs.length).toArray).toList.map λi=>vs.getD i Value.none).toArray:=by
 rcases vs with _|⟨x,_|⟨y,vs⟩⟩
 ·simp
 ·simp
 grind
theorem jn(ho:s.heap.get? a=some (seqObj "list" vs.toArray n))
 (O:gP lt vs.length)(h64:vs.length<64)
 (hk:∀h',(∀b o,b≠a->s.heap.get? b=some o->h'.get? b=some o)->2<=vs.length->Av prog w A vs lt {s with heap:=h'})
 (h:∀p:YK,bR vs.length p->t7 lt p vs.length->P (.done (.ret .none)) {s with heap:=sortedHeap s.heap a vs (p.toList.map λi=>vs.getD i Value.none).toArray}) :
  wpAny (model prog w) A (Builtin.«list.sort» ⟨[.ref a],[]⟩) P E s:=by
 rw[list_sort_plain];have ha:a<#[10]:=UL ho;refine UE (listItems_at ho rfl ?_);refine UE (W2 ho rfl ?_);obtain⟨e1,ho1⟩:∃e1,(s.heap.update a (Obj.mapSeq λ_=>#[])).get? a=some (seqObj "list" #[] e1):=⟨_,get?_update_seq ho (λ_=>#[])⟩;refine UE (Yd ho1 rfl ?_);refine UE (Yk ?_);refine UE (W3 ?_);refine U7 ?_;have ho6:(((s.heap.update a (Obj.mapSeq λ_=>#[])).push (seqObj "tuple" vs.toArray 0)).push (seqObj "list" #[] 0)).get? a=some (seqObj "list" #[] e1):=by rw[Vp _ _ _ (by rw[size_push',VO];exact UR (Vq ha)),Vp _ _ _ (by rw[VO];exact UR ha)];exact ho1
 show wpAny (model prog w) A _ P E {s with heap:=((s.heap.update a (Obj.mapSeq λ_=>#[])).push (seqObj "tuple" vs.toArray 0)).push (seqObj "list" #[] 0)};dsimp only;by_cases h2:vs.toArray.size<2
 ·rw[if_pos h2,if_pos h2];refine UE (UH ?_);rw[StateT.run_pure];refine UE (UH ?_);dsimp only;refine UE (Yd ho6 rfl ?_);refine UE (W2 ho6 rfl ?_ (hsz2:=by rw[Array.size_map];show(pairsOf vs).size<=_;rw[pairsOf_size,VQ];omega));simp only[XN,US,Vu];have hl:vs.length<2:=by simpa using h2
  have e:(arrOf (SortSt.mk' general' (vs.toArray.zip vs.toArray) #[] 7 none)).map (·.2)=(((List.range vs.length).toArray).toList.map λi=>vs.getD i Value.none).toArray:=by show(vs.toArray.zip vs.toArray).map (·.2)=_;exact DZ hl
  rw[e];exact UH (h _ ⟨XU _⟩ λi j h1 h2=>by omega)
 ·rw[if_neg h2,if_neg h2];have hl:2<=vs.length:=by simp at h2;exact h2
  refine UE (VU (hk _ (λb o hb q=>?_) hl) (λκ s' hκ=>?_) λ_ _ x=>x.elim)
  ·have hbs:b<#[10]:=UL q;rw[Vp _ _ _ (by rw[size_push',VO];exact UR (Vq hbs)),Vp _ _ _ (by rw[VO];exact UR hbs),WH _ _ _ _ hb];exact q
  ·obtain⟨rfl,hc⟩:=hκ
   refine UE (VU (kat_run (E:=E) (vs:=vs) (ks:=vs) (κ:=κ) (G:=λp s'=>s'={s with heap:=((s.heap.update a (Obj.mapSeq λ_=>#[])).push (seqObj "tuple" vs.toArray 0)).push (seqObj "list" #[] 0)}/\bR vs.length p/\t7 lt p vs.length)
    (Q:=λst' s'=>s'={s with heap:=((s.heap.update a (Obj.mapSeq λ_=>#[])).push (seqObj "tuple" vs.toArray 0)).push (seqObj "list" #[] 0)}/\failedOf st'=none/\∃p,bR vs.length p/\t7 lt p vs.length/\(arrOf st').map (·.2)=List.toArray (p.toList.map λi=>vs.getD i Value.none))
    rfl hl h64 (λp st' s' a1 a2 a3 a4=>⟨a4.1,a3,p,a4.2.1,a4.2.2,kat_snds rfl a2⟩) ?_) ?_ λ_ _ e=>e)
   ·refine KasT.Ho (lt:=lt) (n:=vs.length) (P:=λp=>bR vs.length p/\t7 lt p vs.length) (I:=λs'=>s'={s with heap:=((s.heap.update a (Obj.mapSeq λ_=>#[])).push (seqObj "tuple" vs.toArray 0)).push (seqObj "list" #[] 0)}) ?_ ?_ _ _ (Hr O #[4]) rfl
    ·rintro i j C s' hi hj rfl q;exact hc i j C hi hj (q _ rfl)
    ·rintro p s' hp rfl;exact⟨rfl,hp⟩
   ·rintro⟨⟨⟩,st'⟩ s' ⟨rfl,hf,p,hp,hu,e⟩;dsimp only at hf e ⊢;rw[e];refine UE (Yd ho6 rfl ?_);refine UE (W2 ho6 rfl ?_ (hsz2:=by rw[UX,UZ,Vl,hp.size,VQ];omega));rw[hf];simp only[XN,US,Vu];exact UH (h p hp hu)
theorem uY(hl:s.heap.IsList l vs.toArray)(O:gP lt vs.length)(h64:vs.length<64)
 (hk:∀h',(∀b o,s.heap.get? b=some o->h'.get? b=some o)->2<=vs.length->Av prog w A.in1.in1 vs lt {s with heap:=h'})
 (h:∀p:YK,bR vs.length p->t7 lt p vs.length->Q (.ref (#[10]+1)) {s with heap:=sortedAll s.heap vs (p.toList.map λi=>vs.getD i Value.none).toArray}) :
  wpAny (model prog w) A (call (.builtin "sorted") [.ref l]) Q E s:=by
 refine Ws kind_sorted plain_sorted entry_sorted (args_sorted1 _) ?_;unfold Builtin.«sorted»;refine UE (m:=checkCount "sorted" 1 1 _) (UH ?_);refine UE (collect_list hl ?_);refine UE (W3 ?_)
 have hsz:#[1].objs.size=#[10]+1:=by
  simp_all
 have hoL:(#[1].push (seqObj "list" vs.toArray 0)).get? (#[10]+1)=some (seqObj "list" vs.toArray 0):=by rw[<- hsz];exact UK _ rfl
 show wpAny _ _ _ _ _ {s with heap:=#[1].push (seqObj "list" vs.toArray 0)};rw[hsz];refine UE (U7 (Vc slot_list_sort ⟨_,hoL,rfl⟩ entry_list_sort (jn hoL O h64 (λh' k h2=>hk h' (λb o q=>?_) h2) λp a1 a2=>⟨_,rfl,?_⟩) (args_list_sort _)))
 ·have hlt:b<#[10]:=UL q;refine k b o (UR (Vq hlt)) ?_;show(#[1].push (seqObj "list" vs.toArray 0)).get? b=some o;rw[Vp _ _ _ (by rw[hsz];exact UR (Vq hlt)),WH _ _ _ _ (UR hlt),Vp _ _ _ (UR hlt)];exact q
 ·exact UH ⟨_,rfl,h p a1 a2⟩
end
end PySem.W
namespace L2
open PySem PySem.Spec PyProof.Rows
open PySem.W (gP bR t7 Av uY KatLex kat_lt kat_one kas_mapM kas_first_eq Looks pat)
noncomputable def pf(x y:Str):Bool:=decide (x.cps.toList<y.cps.toList)
theorem yR(x:Str):pf x x=false:=strKind.irrefl _
theorem Cp(h:pf x y=true)(h':pf y z=true):pf x z=true:=strKind.trans _ _ _ h h'
theorem Hs(h:pf x y=true):pf y x=false:=by
 cases e:pf y x with
 |false=>rfl
 |true=>have:=Cp h e;grind[yR]
theorem D0(h:pf x y=false)(h':pf y x=false):x=y:=by have e:=strKind.total x.cps.toList y.cps.toList h h';cases x;simp_all
section
variable {P:YL} {w:World} {A:YN} {E:Yw} {s:YO}
theorem Aw{vs:YD}(h2:1<=vs.length)(hT:∀v∈vs,Looks M s.heap (typeOf v) T)(hT2:(T==T)=true)(h:Q (some T) s) :
  wpAny M A (oneTypeOnly' vs.toArray) Q E s:=by
 obtain⟨v,rest,rfl⟩:∃v rest,vs=v::rest:=by
  match vs,h2 with
  |v::r,_=>exact⟨v,r,rfl⟩
 rw[oneTypeOnly'_eq,List.mapM_toArray,map_eq_pure_bind];refine UE (UE (kas_mapM (r:=T) _ (λv hv Q' hq=>(hT v hv).here hq) (UH ?_)));have hall:((List.map (λ_=>T) (v::rest)).toArray.all λx=>x==T)=true:=by simp only[List.all_toArray,List.all_map,UU];intro _ _;exact hT2
 have h0:(List.map (λ_=>T) (v::rest)).toArray[0]?=some T:=by simp
 rw[h0];simp only[hall,VT];exact UH h
end
section
variable {X:Cx} {k:Nat}
theorem fR{α:Type}(d:α):∀(xs:List α),(List.range xs.length).map (λi=>xs.getD i d)=xs
 | []=>rfl
 |x::xs=>by
  rw[U8,List.range_succ_eq_map,Vn,Xq];have:=fR d xs
  conv=>rhs;rw[<- this]
  rfl
theorem FF(r:Vals vs us)(i:Nat)(hi:i<vs.length):RelV (vs.getD i .non) (us.getD i .none):=by
 obtain⟨u,h1,h2⟩:=r.get (i:=i) (x:=vs[i]) (by grind)
 simp_all
theorem nM(r:Vals vs us):∀(l:List Nat),(∀i∈l,i<vs.length)->Vals (l.map λi=>vs.getD i .non) (l.map λi=>us.getD i .none)
 | [],_=>.nil
 |i::l,h=>.cons (FF r i (h i (.head _))) (nM r l λj hj=>h j (.tail _ hj))
theorem nO(r:bf H ds vs)(dd:PyData):∀(l:List Nat),(∀i∈l,i<vs.length)->bf H (l.map λi=>ds.getD i dd) (l.map λi=>vs.getD i .non)
 | [],_=>bf.nil
 |i::l,h=>by
  refine bf.cons ?_ (nO r dd l λj hj=>h j (.tail _ hj));have hi:=h i (.head _);obtain⟨d,h1,h2⟩:=r.get (i:=i) (v:=vs[i]) (by grind)
  simp_all
end
end L2
namespace Ml
open PySem
structure Xc where
 cls:Str
 args:YB
inductive D where
 |dat (d:PyData)
 |ref (i:Nat)
 |kU (t:Bool) (kvs:Yy)
 |set (xs:YB)
 |fn (n:Str)
 |exc (x:Xc)
 |scr (ns:List Int)
 |ktup (xs:YB)
 |rpr (x:Str)
inductive MO where
 |lst (xs:List D)
 |kU (t:Bool) (kvs:Yy)
 |ins (C:Str) (fs:List (Str×D))
 |tab (P:Addr) (q:Str)
noncomputable abbrev Hm:=List MO
noncomputable abbrev Fm:=List (Option D)
inductive R (α:Type) where
 |ok (a:α) (h:Hm)
 |exc (x:Xc) (h:Hm)
 |bad
noncomputable def R.bind{α β:Type}:R α->(α->Hm->R β)->R β
 |.ok a h,f=>f a h
 |.exc x h,_=>.exc x h
 |.bad,_=>.bad
noncomputable def R.Ht{α:Type}:R α->R α
 |.exc _ _=>.bad
 |r=>r
@[simp] theorem R.gQ:(R.ok a h).Ht=.ok a h:=rfl
@[simp] theorem R.Rt:(R.bad:R α).Ht=.bad:=rfl
@[simp] theorem R.Ru:(R.exc x h:R α).Ht=.bad:=rfl
@[simp] theorem R.bA{f:α->Hm->R β}:(R.ok a h).bind f=f a h:=rfl
@[simp] theorem R.Hu{f:α->Hm->R β}:(R.exc x h).bind f=.exc x h:=rfl
@[simp] theorem R.Qk:R.bad.bind f=.bad:=rfl
theorem R.bind_assoc(r:R α)(f:α->Hm->R β)(g:β->Hm->R γ):(r.bind f).bind g=r.bind λa h=>(f a h).bind g:=by cases r<;>rfl
noncomputable abbrev ME:=Fm->Hm->R D
noncomputable abbrev MT:=Fm->Hm->R Bool
noncomputable abbrev MA:=Fm->Hm->R (List D)
inductive Fl where
 |nx (ρ:Fm)
 |rt (d:D)
 |bk (ρ:Fm)
 |ct (ρ:Fm)
noncomputable abbrev MS:=Fm->Hm->R Fl
noncomputable abbrev Fn:=List D->Hm->R D
noncomputable abbrev D.none:D:=.dat .none
noncomputable abbrev D.bool(b:Bool):D:=.dat (.bool b)
noncomputable abbrev D.int(i:Int):D:=.dat (.int i)
noncomputable abbrev D.str(s:Str):D:=.dat (.str s)
noncomputable def af(i:Nat):ME:=λρ h=>match ρ[i]? with
 |some (some d)=>.ok d h
 |_=>.bad
noncomputable def ah(d:PyData):ME:=λ_ h=>.ok (.dat d) h
noncomputable def Uo(n:Str):ME:=λ_ h=>.ok (.fn n) h
noncomputable def aj:MA:=λ_ h=>.ok [] h
noncomputable def aa(e:ME)(a:MA):MA:=λρ h=>(e ρ h).bind λx h1=>(a ρ h1).bind λxs h2=>.ok (x::xs) h2
noncomputable def ak(f:D->D->Hm->R D)(a b:ME):ME:=λρ h=>(a ρ h).bind λx h1=>(b ρ h1).bind λy h2=>f x y h2
noncomputable def zX(f:D->Hm->R D)(a:ME):ME:=λρ h=>(a ρ h).bind λx h1=>f x h1
noncomputable def ag(f:Fn)(a:MA):ME:=λρ h=>(a ρ h).bind λxs h1=>f xs h1
noncomputable def aN(e:ME):MT:=λρ h=>(e ρ h).bind λx h1=>match x with
 |.dat (.bool b)=>.ok b h1
 |_=>.bad
noncomputable def eF(t:MT):MT:=λρ h=>(t ρ h).bind λb h1=>.ok (!b) h1
noncomputable def tY(t u:MT):MT:=λρ h=>(t ρ h).bind λb h1=>if b then u ρ h1 else .ok false h1
noncomputable def rF(t u:MT):MT:=λρ h=>(t ρ h).bind λb h1=>if b then .ok true h1 else u ρ h1
noncomputable def Sw(a b:ME):ME:=λρ h=>(aN a ρ h).bind λc h1=>if c then b ρ h1 else .ok (.bool false) h1
noncomputable def Uq(a b:ME):ME:=λρ h=>(aN a ρ h).bind λc h1=>if c then .ok (.bool true) h1 else b ρ h1
noncomputable def Hv(a:ME):ME:=λρ h=>(aN a ρ h).bind λc h1=>.ok (.bool !c) h1
noncomputable def Ur(t:MT)(a b:ME):ME:=λρ h=>(t ρ h).bind λc h1=>if c then a ρ h1 else b ρ h1
noncomputable def D.data:D->Option PyData
 |.dat d=>some d
 |_=>Option.none
noncomputable def gV:List D->Option YB
 | []=>some []
 |x::xs=>match x.data,gV xs with
  |some d,some ds=>some (d::ds)
  |_,_=>Option.none
theorem nQ(ds:YB):gV (ds.map D.dat)=some ds:=by
 induction ds with
 |nil=>rfl
 |cons d ds ih=>simp[gV,D.data,ih]
noncomputable def kc(n:Nat):Bool:=decide (n<=16777216)
noncomputable def gW(xs:List D)(h:Hm):R D:=match gV xs with
 |some ds=>if kc ds.length then .ok (.dat (.tuple ds)) h else .bad
 |Option.none=>.bad
noncomputable def iy(xs:List D)(h:Hm):R D:=match gV xs with
 |some ds=>if kc ds.length then .ok (.dat (.list ds)) h else .bad
 |Option.none=>.bad
noncomputable def sS(xs:List D)(h:Hm):R D:=if kc xs.length then .ok (.ref h.length) (h++[.lst xs])else .bad
noncomputable def dG(a:MA):ME:=ag gW a
noncomputable def dZ(a:MA):ME:=ag iy a
noncomputable def Ax(a:MA):ME:=ag sS a
noncomputable def cg:MS:=λρ h=>.ok (.nx ρ) h
noncomputable def aZ(a b:MS):MS:=λρ h=>(a ρ h).bind λf h1=>match f with
 |.nx ρ1=>b ρ1 h1
 |f=>.ok f h1
noncomputable def cx(i:Nat)(e:ME):MS:=λρ h=>(e ρ h).bind λx h1=>.ok (.nx (ρ.set i (some x))) h1
noncomputable def oM(e:ME):MS:=λρ h=>(e ρ h).bind λ_ h1=>.ok (.nx ρ) h1
noncomputable def bJ(e:ME):MS:=λρ h=>(e ρ h).bind λx h1=>.ok (.rt x) h1
noncomputable def jM(t:MT)(a b:MS):MS:=λρ h=>(t ρ h).bind λc h1=>if c then a ρ h1 else b ρ h1
noncomputable def NZ:MS:=λρ h=>.ok (.bk ρ) h
noncomputable def Ql:MS:=λρ h=>.ok (.ct ρ) h
noncomputable abbrev MG:=D->Fm->Hm->R Fm
noncomputable def aC(i:Nat):MG:=λx ρ h=>.ok (ρ.set i (some x)) h
noncomputable abbrev FG:=List D->Fm->Hm->R Fm
noncomputable def j6:FG:=λxs ρ h=>match xs with
 | []=>.ok ρ h
 |_=>.bad
noncomputable def cD(g:MG)(gs:FG):FG:=λxs ρ h=>match xs with
 | []=>.bad
 |x::xs=>(g x ρ h).bind λρ1 h1=>gs xs ρ1 h1
noncomputable def oC(gs:FG):MG:=λx ρ h=>match x with
 |.dat (.tuple ds)=>gs (ds.map D.dat) ρ h
 |_=>.bad
noncomputable def oE(g:MG)(e:ME):MS:=λρ h=>(e ρ h).bind λx h1=>(g x ρ h1).bind λρ1 h2=>.ok (.nx ρ1) h2
noncomputable def lV:List Nat->List D->Fm->Option Fm
 | [],[],ρ=>some ρ
 |i::is,x::xs,ρ=>lV is xs (ρ.set i (some x))
 |_,_,_=>Option.none
noncomputable def Sx(is:List Nat)(a:MA):MS:=λρ h=>(a ρ h).bind λxs h1=>match lV is xs ρ with
 |some ρ1=>.ok (.nx ρ1) h1
 |Option.none=>.bad
noncomputable def D1(e:ME):MA:=λρ h=>(e ρ h).bind λx h1=>match x with
 |.dat (.tuple ds)=>.ok (ds.map D.dat) h1
 |_=>.bad
noncomputable def Hw(e:ME):MA:=λρ h=>(e ρ h).bind λx h1=>match x with
 |.dat (.list ds)=>.ok (ds.map D.dat) h1
 |_=>.bad
noncomputable def signs(x:Str):List D:=(List.range x.cps.size).map λ(i:Nat)=>D.str ⟨#[x.cps.getD i 0]⟩
noncomputable def Hx(e:ME):MA:=λρ h=>(e ρ h).bind λx h1=>match x with
 |.dat (.str s)=>.ok (signs s) h1
 |_=>.bad
noncomputable def nums(lo:Int)(n:Nat):List D:=(List.range n).map λ(i:Nat)=>D.int (lo+(i:Int))
noncomputable def oN(a:MA):MA:=λρ h=>(a ρ h).bind λxs h1=>match xs with
 | [.dat (.int j)]=>if -(2^62)<=j/\j<2^62 then .ok (nums 0 j.toNat) h1 else .bad
 |_=>.bad
noncomputable def N0(a:MA):MA:=λρ h=>(a ρ h).bind λxs h1=>match xs with
 | [.dat (.int i),.dat (.int j)]=>if -(2^62)<=i/\i<2^62/\-(2^62)<=j/\j<2^62 then .ok (nums i (j-i).toNat) h1 else .bad
 |_=>.bad
noncomputable def yS:YB->YB->List D
 |x::xs,y::ys=>.dat (.tuple [x,y])::yS xs ys
 |_,_=>[]
noncomputable def uZ(a:MA):MA:=λρ h=>(a ρ h).bind λxs h1=>match xs with
 | [.dat (.tuple ds),.dat (.tuple es)]=>.ok (yS ds es) h1
 |_=>.bad
noncomputable def fk(g:MG)(b:MS):List D->Fm->Hm->R Fl
 | [],ρ,h=>.ok (.nx ρ) h
 |x::xs,ρ,h=>(g x ρ h).Ht.bind λρ1 h1=>(b ρ1 h1).Ht.bind λf h2=>match f with
  |.nx ρ2=>fk g b xs ρ2 h2
  |.ct ρ2=>fk g b xs ρ2 h2
  |.bk ρ2=>.ok (.nx ρ2) h2
  |.rt d=>.ok (.rt d) h2
noncomputable def t8(it:MA)(g:MG)(b:MS):MS:=λρ h=>(it ρ h).Ht.bind λxs h1=>fk g b xs ρ h1
noncomputable def ee(n:Nat)(ρ:Fm)(g:MG)(t:MT)(e:ME):List D->Hm->R (List D)
 | [],h=>.ok [] h
 |x::xs,h=>(g x (List.replicate n none++ρ) h).Ht.bind λρ1 h1=>(t ρ1 h1).Ht.bind λc h2=>
  if c then(e ρ1 h2).Ht.bind λy h3=>(ee n ρ g t e xs h3).bind λys h4=>.ok (y::ys) h4
  else ee n ρ g t e xs h2
noncomputable def cG:MT:=λ_ h=>.ok true h
noncomputable def iz(n:Nat)(it:MA)(g:MG)(t:MT)(e:ME):MA:=λρ h=>(it ρ h).bind λxs h1=>if kc xs.length then ee n ρ g t e xs h1 else .bad
noncomputable def bE(n:Nat)(it:MA)(g:MG)(t:MT)(e:ME):ME:=ag iy (iz n it g t e)
noncomputable def yT(n:Nat)(it:MA)(g:MG)(t:MT)(e:ME):ME:=ag sS (iz n it g t e)
noncomputable def u0:Fl->Hm->R D
 |.rt d,h=>.ok d h
 |.nx _,h=>.ok D.none h
 |_,_=>.bad
noncomputable def bx(p n:Nat)(b:MS):Fn:=λxs h=>if xs.length=p then(b (xs.map some++List.replicate (n-p) none) h).bind u0 else .bad
noncomputable def D.below(n:Nat):D->Bool
 |.ref i=>decide (i<n)
 |_=>true
noncomputable def MO.below(n:Nat):MO->Bool
 |.lst xs=>xs.all (D.below n)
 |.kU _ _=>true
 |.ins _ fs=>fs.all λp=>p.2.below n
 |.tab _ _=>true
noncomputable def gI(f:Fn):Fn:=λxs h=>match f xs h with
 |.ok d h'=>if d.below h.length&&(h'.take h.length).all (MO.below h.length)&&decide (h.length<=h'.length)then .ok d (h'.take h.length)else .bad
 |.exc x h'=>if(h'.take h.length).all (MO.below h.length)&&decide (h.length<=h'.length)then .exc x (h'.take h.length)else .bad
 |.bad=>.bad
noncomputable def lx(f:D->Option PyData):List D->Option YB
 | []=>some []
 |x::xs=>match f x,lx f xs with
  |some d,some ds=>some (d::ds)
  |_,_=>Option.none
noncomputable def zY(h:Hm):Nat->D->Option PyData
 |_,.dat d=>some d
 |_,.ktup xs=>some (.tuple xs)
 |n+1,.ref i=>match h[i]? with
  |some (.lst xs)=>(lx (zY h n) xs).map .list
  |_=>Option.none
 |_,_=>Option.none
noncomputable abbrev Cq(h:Hm)(x:D):Option PyData:=zY h 3 x
@[simp] theorem yU(h:Hm)(n:Nat)(d:PyData):zY h n (.dat d)=some d:=by cases n<;>rfl
noncomputable def listOf(x:D)(h:Hm):Option YB:=match x with
 |.dat (.list ds)=>some ds
 |.ref i=>match h[i]? with
  |some (.lst ys)=>gV ys
  |_=>Option.none
 |_=>Option.none
noncomputable def cF(x y:D)(h:Hm):R D:=match x,y with
 |.dat (.int i),.dat (.int j)=>.ok (.int (i+j)) h
 |.dat (.str s),.dat (.str t)=>if kc (s.length+t.length)then .ok (.str (s++t)) h else .bad
 |.dat (.tuple xs),.dat (.tuple ys)=>if kc (xs.length+ys.length)then .ok (.dat (.tuple (xs++ys))) h else .bad
 |.dat (.list xs),.dat (.list ys)=>if kc (xs.length+ys.length)then .ok (.dat (.list (xs++ys))) h else .bad
 |_,_=>.bad
noncomputable def FH(x y:D)(h:Hm):R D:=match x,y with
 |.dat (.int i),.dat (.int j)=>.ok (.int (i-j)) h
 |_,_=>.bad
noncomputable def D2(i j:Int):Bool:=(decide (-(2^64)<i)&&decide (i<2^64)) || (decide (-(2^64)<j)&&decide (j<2^64))
noncomputable def ly(x y:D)(h:Hm):R D:=match x,y with
 |.dat (.int i),.dat (.int j)=>if D2 i j then .ok (.int (i*j)) h else .bad
 |.dat (.list xs),.dat (.int k)=>if kc (xs.length*k.toNat)&&decide (-(2^63)<=k)&&decide (k<2^63)then .ok (.dat (.list (List.replicate k.toNat xs).flatten)) h else .bad
 |_,_=>.bad
noncomputable def oMod(x y:D)(h:Hm):R D:=match x,y with
 |.dat (.int i),.dat (.int j)=>if 0<j then .ok (.int (i % j)) h else .bad
 |_,_=>.bad
noncomputable def qj(x y:D)(h:Hm):R D:=match x,y with
 |.dat (.int i),.dat (.int j)=>if 0<j/\j<1073741824 then .ok (.int (i / j)) h else .bad
 |_,_=>.bad
noncomputable def Sy(x:D)(h:Hm):R D:=match x with
 |.dat (.int i)=>.ok (.int (-i)) h
 |_=>.bad
noncomputable def noDict(d:PyData):Bool:=!d.hasDict
noncomputable def eqQ(d e:PyData):Option Bool:=if noDict d&&noDict e&&decide (min d.depth e.depth<=40)then some (PyData.eqv d e)else Option.none
noncomputable def FI(d e:PyData):Option Bool:=match d,e with
 |.str _,.dict _=>some false
 |.tuple ds,.dict _=>if noDict (.tuple ds)then some false else Option.none
 |d,e=>eqQ d e
noncomputable def oEq(x y:D)(h:Hm):R D:=match x,y with
 |.rpr s,.rpr t=>.ok (.bool (decide (s=t))) h
 |x,y=>match Cq h x,Cq h y with
  |some d,some e=>match eqQ d e with
   |some b=>.ok (.bool b) h
   |Option.none=>.bad
  |_,_=>.bad
noncomputable def j4(x y:D)(h:Hm):R D:=match x,y with
 |.rpr s,.rpr t=>.ok (.bool (!decide (s=t))) h
 |x,y=>match Cq h x,Cq h y with
  |some d,some e=>match eqQ d e with
   |some b=>.ok (.bool !b) h
   |Option.none=>.bad
  |_,_=>.bad
noncomputable def pf(x y:Str):Bool:=decide (x.cps.toList<y.cps.toList)
mutual
noncomputable def cj:PyData->PyData->Option Bool
 |.int i,.int j=>some (decide (i<j))
 |.str x,.str y=>some (pf x y)
 |.tuple xs,.tuple ys=>dH xs ys
 |_,_=>Option.none
noncomputable def dH:YB->YB->Option Bool
 | [],[]=>some false
 | [],_::_=>some true
 |_::_,[]=>some false
 |x::xs,y::ys=>if PyData.eqv x y then dH xs ys else cj x y
end
noncomputable def oLt(x y:D)(h:Hm):R D:=match x,y with
 |.dat d,.dat e=>if noDict d&&noDict e&&decide (min d.depth e.depth<=40)then match cj d e with
  |some b=>.ok (.bool b) h
  |Option.none=>.bad
  else .bad
 |_,_=>.bad
noncomputable def oLe(x y:D)(h:Hm):R D:=match x,y with
 |.dat (.int i),.dat (.int j)=>.ok (.bool (decide (i<=j))) h
 |.dat (.str s),.dat (.str t)=>.ok (.bool (!pf t s)) h
 |_,_=>.bad
noncomputable def Pm(x y:D)(h:Hm):R D:=match x,y with
 |.dat (.int i),.dat (.int j)=>.ok (.bool (decide (j<i))) h
 |_,_=>.bad
noncomputable def Qm(x y:D)(h:Hm):R D:=match x,y with
 |.dat (.int i),.dat (.int j)=>.ok (.bool (decide (j<=i))) h
 |_,_=>.bad
noncomputable def Hy(x:PyData):YB->Option Bool
 | []=>some false
 |y::ys=>match FI y x,Hy x ys with
  |some a,some b=>some (a || b)
  |_,_=>Option.none
noncomputable def jo:PyData->Bool
 |.tuple _=>true
 |_=>false
noncomputable def ph:PyData->Bool
 |.str _=>true
 |_=>false
noncomputable def xV(k:PyData)(kvs:Yy):Bool:=kvs.any λp=>PyData.eqv p.1 k
noncomputable def jN(y:D)(h:Hm):Option (Bool×Yy):=match y with
 |.kU t kvs=>some (t,kvs)
 |.ref i=>match h[i]? with
  |some (.kU t kvs)=>some (t,kvs)
  |_=>Option.none
 |_=>Option.none
mutual
noncomputable def aI:PyData->Bool
 |.str _=>true
 |.tuple ds=>bz ds
 |_=>false
noncomputable def bz:YB->Bool
 | []=>true
 |d::ds=>aI d&&bz ds
end
noncomputable def keyOk(t:Bool)(k:PyData):Bool:=if t then jo k&&aI k&&decide (k.depth<=8)else ph k
noncomputable def Cr(x:D)(kvs:Yy)(t:Bool):Option Bool:=match x with
 |.dat d=>if keyOk t d then some (xV d kvs)else Option.none
 |_=>Option.none
noncomputable def kf(x y:D)(h:Hm):Option Bool:=match y with
 |.dat (.str s)=>match x with
  |.dat (.str t)=>some (!(Builtin.Str.occurrences s t 0 s.length 1).isEmpty)
  |_=>Option.none
 |y=>match Cq h x,Cq h y with
  |some d,some (.tuple ds)=>Hy d ds
  |some d,some (.list ds)=>Hy d ds
  |_,_=>Option.none
noncomputable def findIn(x y:D)(h:Hm):Option Bool:=match jN y h with
 |some p=>Cr x p.2 p.1
 |Option.none=>kf x y h
noncomputable def JB(x y:D)(h:Hm):R D:=match findIn x y h with
 |some b=>.ok (.bool b) h
 |Option.none=>.bad
noncomputable def gJ(x y:D)(h:Hm):R D:=match findIn x y h with
 |some b=>.ok (.bool !b) h
 |Option.none=>.bad
noncomputable def Hz:PyData->Bool
 |.none|.bool _|.int _|.str _=>true
 |_=>false
noncomputable def dput(kvs:Yy)(k v:PyData):Yy:=
 if xV k kvs then kvs.map (λp=>if PyData.eqv p.1 k then(p.1,v)else p)else kvs++[(k,v)]
noncomputable def HA(kvs:Yy)(k:PyData):Option PyData:=(kvs.find? λp=>PyData.eqv p.1 k).map (·.2)
noncomputable def xJ(n:Nat)(i:Int):Option Nat:=if 0<=i then(if i<n then some i.toNat else Option.none)else if -(n:Int)<=i then some (i+n).toNat else Option.none
noncomputable def lL{α:Type}(xs:List α)(i:Int):Option α:=(xJ xs.length i).bind λj=>xs[j]?
noncomputable def Ay(x y:D)(h:Hm):R D:=match y with
 |.dat (.int i)=>match x with
  |.dat (.tuple ds)=>match lL ds i with|some d=>.ok (.dat d) h|Option.none=>.bad
  |.dat (.list ds)=>match lL ds i with|some d=>.ok (.dat d) h|Option.none=>.bad
  |.ref j=>match h[j]? with
   |some (.lst xs)=>match lL xs i with|some d=>.ok d h|Option.none=>.bad
   |_=>.bad
  |.scr ns=>match lL ns i with|some n=>.ok (.int n) h|Option.none=>.bad
  |_=>.bad
 |_=>.bad
noncomputable def dz(x y:D)(h:Hm):R D:=match jN x h with
 |some p=>match y with
  |.dat (.str k)=>if p.1 then .bad else match HA p.2 (.str k)with
   |some v=>.ok (.dat v) h
   |Option.none=>.bad
  |_=>.bad
 |Option.none=>Ay x y h
noncomputable def fQ(n d:Nat):Option Int->Nat
 |Option.none=>d
 |some v=>if v<0 then(v+(n:Int)).toNat else min v.toNat n
noncomputable def cut{α:Type}(ds:List α)(lo hi:Option Int):List α:=(ds.drop (fQ ds.length 0 lo)).take (fQ ds.length ds.length hi-fQ ds.length 0 lo)
noncomputable abbrev Me:=Fm->Hm->R (Option Int)
noncomputable def fm:Me:=λ_ h=>.ok Option.none h
noncomputable def cP(e:ME):Me:=λρ h=>(e ρ h).bind λx h1=>match x with
 |.dat (.int i)=>.ok (some i) h1
 |_=>.bad
noncomputable def Qn(x:D)(lo hi:Option Int)(h:Hm):R D:=match x with
 |.dat (.tuple ds)=>.ok (.dat (.tuple (cut ds lo hi))) h
 |.dat (.list ds)=>.ok (.dat (.list (cut ds lo hi))) h
 |_=>.bad
noncomputable def sT(e:ME)(lo hi:Me):ME:=λρ h=>(e ρ h).bind λx h1=>(lo ρ h1).bind λl h2=>(hi ρ h2).bind λu h3=>Qn x l u h3
noncomputable def fF:Fn:=λxs h=>match xs with
 | [.dat (.str s)]=>if kc s.length then .ok (.int s.length) h else .bad
 | [.dat (.tuple ds)]=>.ok (.int ds.length) h
 | [.dat (.list ds)]=>.ok (.int ds.length) h
 | [.ref i]=>match h[i]? with
  |some (.lst ys)=>.ok (.int ys.length) h
  |_=>.bad
 | [.scr ns]=>.ok (.int ns.length) h
 |_=>.bad
noncomputable def bools:YB->Option (List Bool)
 | []=>some []
 |.bool b::ds=>(bools ds).map (b::·)
 |_=>Option.none
theorem xX(bs:List Bool):bools (bs.map .bool)=some bs:=by
 induction bs with
 |nil=>rfl
 |cons b bs ih=>simp[bools,ih]
noncomputable def pj:Fn:=λxs h=>match xs with
 | [.dat (.list ds)]=>match bools ds with
  |some bs=>.ok (.bool (bs.all id)) h
  |Option.none=>.bad
 |_=>.bad
noncomputable def FJ:Fn:=λxs h=>match xs with
 | [.dat (.list ds)]=>match bools ds with
  |some bs=>.ok (.bool (bs.any id)) h
  |Option.none=>.bad
 |_=>.bad
noncomputable def isTup:PyData->Bool|.tuple _=>true|_=>false
noncomputable def isStr:PyData->Bool|.str _=>true|_=>false
noncomputable def isInt:PyData->Bool|.int _|.bool _=>true|_=>false
noncomputable def u7:PyData->Bool|.bool _=>true|_=>false
noncomputable def lC(f:PyData->Bool):D->Hm->R D:=λx h=>match x with
 |.dat d=>.ok (.bool (f d)) h
 |_=>.bad
noncomputable def eJ(x:Str):YB:=(List.range x.cps.size).map λ(i:Nat)=>.str ⟨#[x.cps.getD i 0]⟩
noncomputable def dk:Fn:=λxs h=>match xs with
 | [.dat (.tuple ds)]=>.ok (.dat (.tuple ds)) h
 | [.dat (.str s)]=>if kc s.cps.size then .ok (.dat (.tuple (eJ s))) h else .bad
 | [x]=>match listOf x h with
  |some ds=>.ok (.dat (.tuple ds)) h
  |Option.none=>.bad
 |_=>.bad
noncomputable def u9:Fn:=λxs h=>match xs with
 | [.dat (.tuple ds)]=>.ok (.dat (.list ds)) h
 | [x]=>match listOf x h with
  |some ds=>.ok (.dat (.list ds)) h
  |Option.none=>.bad
 |_=>.bad
noncomputable def jO(lt:PyData->PyData->Bool)(x:PyData):YB->YB
 | []=>[x]
 |y::ys=>if lt y x then y::jO lt x ys else x::y::ys
noncomputable def bN(lt:PyData->PyData->Bool):YB->YB
 | []=>[]
 |x::xs=>jO lt x (bN lt xs)
noncomputable def ltB(d e:PyData):Bool:=(cj d e).getD false
noncomputable def Az(d:PyData):Bool:=d.showable&&noDict d&&decide (d.depth<=40)&&kc d.shown.length
noncomputable def HB(d:PyData):Bool:=match d with
 |.dict _=>d.showable&&decide (d.depth<=20)&&kc d.shown.length
 |_=>false
noncomputable def kW:Fn:=λxs h=>match xs with
 | [x]=>match Cq h x with
  |some d=>if Az d || HB d then .ok (.rpr d.shown) h else .bad
  |Option.none=>.bad
 |_=>.bad
noncomputable def qk:Fn:=λxs h=>match xs with
 | [.dat (.int i),.dat (.int j)]=>if 0<j/\j<1073741824 then .ok (.dat (.tuple [.int (i / j),.int (i % j)])) h else .bad
 |_=>.bad
noncomputable def FK:Fn:=λxs h=>match xs with
 | [.dat (.int i),.dat (.int j)]=>.ok (.int (if j>i then j else i)) h
 |_=>.bad
noncomputable def va:Fn:=λxs h=>match xs with
 | [.dat (.int i)]=>.ok (.int i) h
 | [.dat (.bool b)]=>.ok (.int (if b then 1 else 0)) h
 |_=>.bad
noncomputable def rN(x y:D)(h:Hm):R D:=match x,y with
 |.ref i,.dat (.int k)=>match h[i]? with
  |some (.lst xs)=>if 0<=k/\k<xs.length/\k<1000000 then match xs[k.toNat]? with
    |some d=>.ok d (h.set i (.lst (xs.eraseIdx k.toNat)))
    |Option.none=>.bad
   else .bad
  |_=>.bad
 |_,_=>.bad
noncomputable def D3(x y v:D)(h:Hm):R Unit:=match x,y with
 |.ref i,.dat (.int k)=>match h[i]? with
  |some (.lst xs)=>match xJ xs.length k with
   |some j=>.ok () (h.set i (.lst (xs.set j v)))
   |Option.none=>.bad
  |_=>.bad
 |_,_=>.bad
noncomputable def Mf(i:Nat)(t:Bool)(kvs:Yy)(y v:D)(h:Hm):R Unit:=match y,v with
 |.dat k,.dat d=>if keyOk t k&&(t || Hz d)&&decide (kvs.length<16777216)then .ok () (h.set i (.kU t (dput kvs k d)))else .bad
 |_,_=>.bad
noncomputable def yV(x y v:D)(h:Hm):R Unit:=match x with
 |.ref i=>match h[i]? with
  |some (.kU t kvs)=>Mf i t kvs y v h
  |_=>D3 x y v h
 |_=>.bad
noncomputable def Ad(eo ei:ME):MG:=λv ρ h=>(eo ρ h).bind λo h1=>(ei ρ h1).bind λi h2=>(yV o i v h2).bind λ_ h3=>.ok ρ h3
noncomputable def truth(x:D)(h:Hm):Option Bool:=match x with
 |.dat .none=>some false
 |.dat (.bool b)=>some b
 |.dat (.int i)=>some (i != 0)
 |.dat (.str s)=>if kc s.length then some ((s.length:Int) != 0)else Option.none
 |.dat (.tuple ds)=>some !ds.isEmpty
 |.dat (.list ds)=>some !ds.isEmpty
 |.ref i=>match h[i]? with
  |some (.lst xs)=>some !xs.isEmpty
  |_=>Option.none
 |_=>Option.none
noncomputable def bK(e:ME):MT:=λρ h=>(e ρ h).bind λx h1=>match truth x h1 with
 |some b=>.ok b h1
 |Option.none=>.bad
mutual
noncomputable def fz:PyData->Bool
 |.str x=>PyData.strOk x
 |.list xs|.tuple xs=>cN xs
 |_=>true
noncomputable def cN:YB->Bool
 | []=>true
 |x::xs=>fz x&&cN xs
end
mutual
theorem jq:∀{d:PyData},fz d=true->d.hasDict=false->d.canLay0=true
 |.none,_,_=>by rfl
 |.bool _,_,_=>by rfl
 |.int _,_,_=>by rfl
 |.str x,h,_=>by assumption
 |.tuple ds,h,k=>kg h k
 |.list ds,h,k=>by simp[fz]at h;exact kg h k
 |.dict _,_,k=>by trivial
theorem kg:∀{ds:YB},cN ds=true->PyData.hasDictAll ds=false->PyData.canLayAll0 ds=true
 | [],_,_=>by rfl
 |d::ds,h,k=>by simp only[cN,UI]at h;simp only[PyData.hasDictAll,Bool.or_eq_false_iff]at k;simp only[PyData.canLayAll0,UI];exact⟨jq h.1 k.1,kg h.2 k.2⟩
end
mutual
noncomputable def ay:PyData->Bool
 |.int _|.str _=>true
 |.tuple ds=>aB ds
 |_=>false
noncomputable def aB:YB->Bool
 | []=>true
 |d::ds=>ay d&&aB ds
end
theorem aU:∀{ds:YB} {d:PyData},aB ds=true->d∈ds->ay d=true
 |_::_,d,h,m=>by
  simp[aB]at h;rcases UO.mp m with rfl|m
  ·grind
  ·exact aU h.2 m
theorem lW:∀{ds:YB},(∀d∈ds,ay d=true)->aB ds=true
 | [],_=>by rfl
 |d::ds,h=>by simp[aB];exact⟨h d #[6],lW λe m=>h e (by simp[m])⟩
mutual
theorem ql:∀{d e:PyData},ay d=true->ay e=true->(PyData.eqv d e=true<->d=e)
 |.int i,.int j,_,_=>by simp[PyData.eqv]
 |.str x,.str y,_,_=>by simp[PyData.eqv]
 |.tuple xs,.tuple ys,h,k=>by simp only[ay]at h k;simp only[PyData.eqv,PyData.tuple.injEq];exact xY h k
 |.int _,.str _,_,_=>by simp[PyData.eqv]
 |.int _,.tuple _,_,_=>by simp[PyData.eqv]
 |.str _,.int _,_,_=>by simp[PyData.eqv]
 |.str _,.tuple _,_,_=>by simp[PyData.eqv]
 |.tuple _,.int _,_,_=>by simp[PyData.eqv]
 |.tuple _,.str _,_,_=>by simp[PyData.eqv]
 |.none,_,h,_=>by simp[ay]at h
 |.bool _,_,h,_=>by simp[ay]at h
 |.list _,_,h,_=>by simp[ay]at h
 |.dict _,_,h,_=>by simp[ay]at h
 |.int _,.none,_,h=>by simp[ay]at h
 |.int _,.bool _,_,h=>by simp[ay]at h
 |.int _,.list _,_,h=>by simp[ay]at h
 |.int _,.dict _,_,h=>by simp[ay]at h
 |.str _,.none,_,h=>by simp[ay]at h
 |.str _,.bool _,_,h=>by simp[ay]at h
 |.str _,.list _,_,h=>by simp[ay]at h
 |.str _,.dict _,_,h=>by simp[ay]at h
 |.tuple _,.none,_,h=>by simp[ay]at h
 |.tuple _,.bool _,_,h=>by simp[ay]at h
 |.tuple _,.list _,_,h=>by simp[ay]at h
 |.tuple _,.dict _,_,h=>by simp[ay]at h
theorem xY:∀{xs ys:YB},aB xs=true->aB ys=true->(PyData.eqvAll xs ys=true<->xs=ys)
 | [],[],_,_=>by simp[PyData.eqvAll]
 | [],_::_,_,_=>by simp[PyData.eqvAll]
 |_::_,[],_,_=>by simp[PyData.eqvAll]
 |x::xs,y::ys,h,k=>by simp only[aB,UI]at h k;simp only[PyData.eqvAll,UI,List.cons.injEq];rw[ql h.1 k.1,xY h.2 k.2]
end
mutual
theorem eK:∀{d:PyData},ay d=true->d.hasDict=false
 |.int _,_=>rfl
 |.str _,_=>rfl
 |.tuple ds,h=>eR h
 |.none,h=>by rfl
 |.bool _,h=>by rfl
 |.list _,h=>by trivial
 |.dict _,h=>by trivial
theorem eR:∀{ds:YB},aB ds=true->PyData.hasDictAll ds=false
 | [],_=>rfl
 |d::ds,h=>by simp only[aB,UI]at h;simp only[PyData.hasDictAll,Bool.or_eq_false_iff];exact⟨eK h.1,eR h.2⟩
end
theorem br(h:ay d=true):PyData.eqv d d=true:=(ql h h).mpr rfl
theorem bb(h:ay d=true)(k:ay e=true)(ne:d≠e):PyData.eqv d e=false:=by
 cases q:PyData.eqv d e with
 |false=>rfl
 |true=>exact absurd ((ql h k).mp q) ne
theorem Sz{x y:Str}(h:x.cps.toList=y.cps.toList):x=y:=by
 obtain⟨⟨a⟩⟩:=x
 simp_all
theorem yR(x:Str):pf x x=false:=Vj (List.lt_irrefl _)
theorem Cp(h:pf x y=true)(h':pf y z=true):pf x z=true:=Vz (List.lt_trans (Wy h) (Wy h'))
theorem Hs(h:pf x y=true):pf y x=false:=Vj λz=>List.lt_irrefl _ (List.lt_trans (Wy h) z)
theorem D0(h:pf x y=false)(h':pf y x=false):x=y:=
 Sz (List.le_antisymm (List.not_lt.mp (of_decide_eq_false h')) (List.not_lt.mp (of_decide_eq_false h)))
mutual
theorem HC:∀{d e:PyData},ay d=true->ay e=true->cj d e=some true->cj e d=some false
 |.int i,.int j,_,_,h=>by grind[cj]
 |.str x,.str y,_,_,h=>by simp only[cj,Wx]at h ⊢;exact Hs h
 |.tuple xs,.tuple ys,h,k,q=>by simp only[ay]at h k;simp only[cj]at q ⊢;exact D4 h k q
 |.int _,.str _,_,_,h=>by trivial
 |.int _,.tuple _,_,_,h=>by trivial
 |.str _,.int _,_,_,h=>by trivial
 |.str _,.tuple _,_,_,h=>by trivial
 |.tuple _,.int _,_,_,h=>by trivial
 |.tuple _,.str _,_,_,h=>by simp[cj]at h
 |.none,_,h,_,_=>by simp[ay]at h
 |.bool _,_,h,_,_=>by simp[ay]at h
 |.list _,_,h,_,_=>by simp[ay]at h
 |.dict _,_,h,_,_=>by simp[ay]at h
 |_,.none,_,h,_=>by simp[ay]at h
 |_,.bool _,_,h,_=>by simp[ay]at h
 |_,.list _,_,h,_=>by simp[ay]at h
 |_,.dict _,_,h,_=>by simp[ay]at h
theorem D4:∀{xs ys:YB},aB xs=true->aB ys=true->dH xs ys=some true->dH ys xs=some false
 | [],[],_,_,h=>by simp[dH]at h
 | [],_::_,_,_,_=>by simp[dH]
 |_::_,[],_,_,h=>by simp[dH]at h
 |x::xs,y::ys,h,k,q=>by
  simp only[aB,UI]at h k;simp only[dH]at q ⊢;by_cases e:x=y
  ·subst e;rw[br h.1,if_pos rfl]at q ⊢;exact D4 h.2 k.2 q
  ·rw[bb h.1 k.1 e,if_neg #[6]]at q;rw[bb k.1 h.1 (λz=>e z.symm),if_neg #[6]];exact HC h.1 k.1 q
end
mutual
theorem D5:∀{d e:PyData},ay d=true->ay e=true->cj d e=some false->cj e d=some false->d=e
 |.int i,.int j,_,_,h,h'=>by grind[cj]
 |.str x,.str y,_,_,h,h'=>by simp only[cj,Wx]at h h';rw[D0 h h']
 |.tuple xs,.tuple ys,h,k,q,q'=>by simp only[ay]at h k;simp only[cj]at q q';rw[AA h k q q']
 |.int _,.str _,_,_,h,_=>by trivial
 |.int _,.tuple _,_,_,h,_=>by trivial
 |.str _,.int _,_,_,h,_=>by trivial
 |.str _,.tuple _,_,_,h,_=>by trivial
 |.tuple _,.int _,_,_,h,_=>by simp[cj]at h
 |.tuple _,.str _,_,_,h,_=>by simp[cj]at h
 |.none,_,h,_,_,_=>by simp[ay]at h
 |.bool _,_,h,_,_,_=>by simp[ay]at h
 |.list _,_,h,_,_,_=>by simp[ay]at h
 |.dict _,_,h,_,_,_=>by simp[ay]at h
 |_,.none,_,h,_,_=>by simp[ay]at h
 |_,.bool _,_,h,_,_=>by simp[ay]at h
 |_,.list _,_,h,_,_=>by simp[ay]at h
 |_,.dict _,_,h,_,_=>by simp[ay]at h
theorem AA:∀{xs ys:YB},aB xs=true->aB ys=true->dH xs ys=some false->dH ys xs=some false->xs=ys
 | [],[],_,_,_,_=>rfl
 | [],_::_,_,_,h,_=>by simp[dH]at h
 |_::_,[],_,_,_,h=>by simp[dH]at h
 |x::xs,y::ys,h,k,q,q'=>by
  simp only[aB,UI]at h k;simp only[dH]at q q';by_cases e:x=y
  ·subst e;rw[br h.1,if_pos rfl]at q q';rw[AA h.2 k.2 q q']
  ·rw[bb h.1 k.1 e,if_neg #[6]]at q;rw[bb k.1 h.1 (λz=>e z.symm),if_neg #[6]]at q';exact absurd (D5 h.1 k.1 q q') e
end
mutual
theorem D6:∀{d:PyData},ay d=true->cj d d=some false
 |.int i,_=>by simp[cj]
 |.str x,_=>by simp[cj,yR]
 |.tuple xs,h=>AB h
 |.none,h=>by trivial
 |.bool _,h=>by trivial
 |.list _,h=>by trivial
 |.dict _,h=>by trivial
theorem AB:∀{xs:YB},aB xs=true->dH xs xs=some false
 | [],_=>by rfl
 |x::xs,h=>by simp only[aB,UI]at h;simp only[dH];rw[br h.1,if_pos rfl];exact AB h.2
end
mutual
theorem HD:∀{d e f:PyData},ay d=true->ay e=true->ay f=true->cj d e=some true->cj e f=some true->cj d f=some true
 |.int i,.int j,.int k,_,_,_,h,h'=>by grind[cj]
 |.str x,.str y,.str z,_,_,_,h,h'=>by simp only[cj,Wx]at h h' ⊢;exact Cp h h'
 |.tuple xs,.tuple ys,.tuple zs,h,k,l,q,q'=>by simp only[ay]at h k l;simp only[cj]at q q' ⊢;exact D7 h k l q q'
 |.none,_,_,h,_,_,_,_=>by simp[ay]at h
 |.bool _,_,_,h,_,_,_,_=>by simp[ay]at h
 |.list _,_,_,h,_,_,_,_=>by simp[ay]at h
 |.dict _,_,_,h,_,_,_,_=>by simp[ay]at h
 |.int _,.none,_,_,_,_,h,_=>by simp[cj]at h
 |.int _,.bool _,_,_,_,_,h,_=>by simp[cj]at h
 |.int _,.str _,_,_,_,_,h,_=>by simp[cj]at h
 |.int _,.list _,_,_,_,_,h,_=>by simp[cj]at h
 |.int _,.tuple _,_,_,_,_,h,_=>by simp[cj]at h
 |.int _,.dict _,_,_,_,_,h,_=>by simp[cj]at h
 |.str _,.none,_,_,_,_,h,_=>by simp[cj]at h
 |.str _,.bool _,_,_,_,_,h,_=>by simp[cj]at h
 |.str _,.int _,_,_,_,_,h,_=>by simp[cj]at h
 |.str _,.list _,_,_,_,_,h,_=>by simp[cj]at h
 |.str _,.tuple _,_,_,_,_,h,_=>by simp[cj]at h
 |.str _,.dict _,_,_,_,_,h,_=>by simp[cj]at h
 |.tuple _,.none,_,_,_,_,h,_=>by simp[cj]at h
 |.tuple _,.bool _,_,_,_,_,h,_=>by simp[cj]at h
 |.tuple _,.int _,_,_,_,_,h,_=>by simp[cj]at h
 |.tuple _,.list _,_,_,_,_,h,_=>by simp[cj]at h
 |.tuple _,.str _,_,_,_,_,h,_=>by simp[cj]at h
 |.tuple _,.dict _,_,_,_,_,h,_=>by simp[cj]at h
 |.int _,.int _,.none,_,_,_,_,h=>by simp[cj]at h
 |.int _,.int _,.bool _,_,_,_,_,h=>by simp[cj]at h
 |.int _,.int _,.str _,_,_,_,_,h=>by simp[cj]at h
 |.int _,.int _,.list _,_,_,_,_,h=>by simp[cj]at h
 |.int _,.int _,.tuple _,_,_,_,_,h=>by simp[cj]at h
 |.int _,.int _,.dict _,_,_,_,_,h=>by simp[cj]at h
 |.str _,.str _,.none,_,_,_,_,h=>by simp[cj]at h
 |.str _,.str _,.bool _,_,_,_,_,h=>by simp[cj]at h
 |.str _,.str _,.int _,_,_,_,_,h=>by simp[cj]at h
 |.str _,.str _,.list _,_,_,_,_,h=>by simp[cj]at h
 |.str _,.str _,.tuple _,_,_,_,_,h=>by simp[cj]at h
 |.str _,.str _,.dict _,_,_,_,_,h=>by simp[cj]at h
 |.tuple _,.tuple _,.none,_,_,_,_,h=>by simp[cj]at h
 |.tuple _,.tuple _,.bool _,_,_,_,_,h=>by simp[cj]at h
 |.tuple _,.tuple _,.int _,_,_,_,_,h=>by simp[cj]at h
 |.tuple _,.tuple _,.list _,_,_,_,_,h=>by simp[cj]at h
 |.tuple _,.tuple _,.str _,_,_,_,_,h=>by simp[cj]at h
 |.tuple _,.tuple _,.dict _,_,_,_,_,h=>by simp[cj]at h
theorem D7:∀{xs ys zs:YB},aB xs=true->aB ys=true->aB zs=true->dH xs ys=some true->dH ys zs=some true->dH xs zs=some true
 | [],[],_,_,_,_,h,_=>by simp[dH]at h
 | [],_::_,[],_,_,_,_,h=>by simp[dH]at h
 | [],_::_,_::_,_,_,_,_,_=>by simp[dH]
 |_::_,[],_,_,_,_,h,_=>by simp[dH]at h
 |_::_,_::_,[],_,_,_,_,h=>by simp[dH]at h
 |x::xs,y::ys,z::zs,h,k,l,q,q'=>by
  simp only[aB,UI]at h k l;simp only[dH]at q q' ⊢;by_cases e1:x=y
  ·subst e1;rw[br h.1,if_pos rfl]at q;by_cases e2:x=z
   ·subst e2;rw[br h.1,if_pos rfl]at q' ⊢;exact D7 h.2 k.2 l.2 q q'
   ·rw[bb h.1 l.1 e2,if_neg #[6]]at q' ⊢;exact q'
  ·rw[bb h.1 k.1 e1,if_neg #[6]]at q;by_cases e2:y=z
   ·subst e2;rw[bb h.1 k.1 e1,if_neg #[6]];exact q
   ·rw[bb k.1 l.1 e2,if_neg #[6]]at q';have q3:=HD h.1 k.1 l.1 q q';by_cases e3:x=z
    ·subst e3;rw[D6 h.1]at q3;cases q3
    ·rw[bb h.1 l.1 e3,if_neg #[6]];exact q3
end
noncomputable def dM(ds:YB):Bool:=ds.all λa=>ds.all λb=>(cj a b).isSome
theorem fG(h:dM ds=true)(ha:a∈ds)(hb:b∈ds):cj a b=some (ltB a b):=by
 have:=UU.mp (UU.mp h a ha) b hb;unfold ltB
 cases q:cj a b with
 |none=>grind
 |some k=>rfl
noncomputable def gr:PyData->Bool|.tuple _=>true|_=>false
noncomputable def pq:PyData->Bool|.str _=>true|_=>false
noncomputable def eh(ds:YB):Bool:=(ds.all pq || ds.all gr)&&aB ds&&dM ds&&decide (PyData.depthAll ds<=20)&&decide (ds.length<64)
noncomputable def dA:Fn:=λxs h=>match xs with
 | [x]=>match listOf x h with
  |some ds=>if eh ds then .ok (.dat (.list (bN ltB ds))) h else .bad
  |Option.none=>.bad
 |_=>.bad
theorem vb(c:dM ds=true)(t:aB ds=true)(ha:a∈ds)(hb:b∈ds)(h:ltB a b=true):ltB b a=false:=by have h1:=fG c ha hb;rw[h]at h1;unfold ltB;rw[HC (aU t ha) (aU t hb) h1];rfl
theorem qm(c:dM ds=true)(t:aB ds=true)(ha:a∈ds)(hb:b∈ds)(h:ltB b a=false):ltB a b=true\/a=b:=by
 cases q:ltB a b with
 |true=>grind
 |false=>have h1:=fG c ha hb;have h2:=fG c hb ha;rw[q]at h1;rw[h]at h2;exact .inr (D5 (aU t ha) (aU t hb) h1 h2)
theorem D8(c:dM ds=true)(t:aB ds=true)(ha:a∈ds)(hb:b∈ds)(hd:d∈ds)(h:ltB b a=false)(h':ltB d b=false):ltB d a=false:=by
 rcases qm c t ha hb h with h1|rfl
 ·rcases qm c t hb hd h' with h2|rfl
  ·have q1:=fG c ha hb;have q2:=fG c hb hd;rw[h1]at q1;rw[h2]at q2;have q3:=HD (aU t ha) (aU t hb) (aU t hd) q1 q2;exact vb c t ha hd (by simp_all[ltB])
  grind
 grind
theorem rO(lt:PyData->PyData->Bool)(x:PyData):∀ys:YB,(jO lt x ys).Perm (x::ys)
 | []=>.refl _
 |y::ys=>by
  unfold jO;split
  ·exact((rO lt x ys).cons y).trans (.swap x y ys)
  rfl
theorem aS(lt:PyData->PyData->Bool):∀xs:YB,(bN lt xs).Perm xs
 | []=>.refl _
 |x::xs=>(rO lt x _).trans ((aS lt xs).cons x)
noncomputable def Up(lt:PyData->PyData->Bool)(xs:YB):Prop:=xs.Pairwise λa b=>lt b a=false
structure Ord(lt:PyData->PyData->Bool)(ds:YB):Prop where
 as:∀{a b},a∈ds->b∈ds->lt a b=true->lt b a=false
 ntr:∀{a b d},a∈ds->b∈ds->d∈ds->lt b a=false->lt d b=false->lt d a=false
 tot:∀{a b},a∈ds->b∈ds->lt a b=false->lt b a=false->a=b
theorem Ord.sub(o:Ord lt ds)(h:∀e∈es,e∈ds):Ord lt es:=
 ⟨λa b=>o.as (h _ a) (h _ b),λa b d=>o.ntr (h _ a) (h _ b) (h _ d),λa b=>o.tot (h _ a) (h _ b)⟩
theorem D9:∀{ys:YB},Ord lt (x::ys)->Up lt ys->Up lt (jO lt x ys)
 | [],_,_=>by simp[jO,Up]
 |y::ys,o,u=>by
  unfold jO;unfold Up at u;rw[Vr]at u;split
  ·rename_i h;refine Vr.mpr ⟨λb hb=>?_,D9 (o.sub λe m=>by grind) u.2⟩;rcases UO.mp ((rO lt x ys).mem_iff.mp hb)with rfl|hb
   ·exact o.as #[6] #[6] h
   grind
  ·have h':lt y x=false:=by grind
   refine Vr.mpr ⟨λb hb=>?_,Vr.mpr u⟩;rcases UO.mp hb with rfl|hb
   ·exact h'
   ·exact o.ntr #[6] #[6] (by grind) h' (u.1 b hb)
theorem vc:∀{xs:YB},Ord lt xs->Up lt (bN lt xs)
 | [],_=>by simp[bN,Up]
 |x::xs,o=>D9 (o.sub λe m=>by
     rcases UO.mp m with rfl|m
     ·simp
     ·simp[(aS lt xs).mem_iff.mp m]) (vc (o.sub λe m=>by simp[m]))
theorem rP:∀{xs ys:YB},Ord lt xs->xs.Perm ys->Up lt xs->Up lt ys->xs=ys
 | [],ys,_,p,_,_=>by simp_all
 |x::xs,ys,o,p,u,v=>by
  cases ys with
  |nil=>simp_all
  |cons y ys=>
   have hx:x∈y::ys:=p.mem_iff.mp #[6];have hy:y∈x::xs:=p.mem_iff.mpr #[6]
   have e:x=y:=by
    rcases UO.mp hx with e|hx
    ·exact e
    rcases UO.mp hy with e|hy
    ·grind
    exact o.tot #[6] #[4] ((Vr.mp v).1 x hx) ((Vr.mp u).1 y hy)
   subst e;rw[rP (o.sub λe m=>by simp[m]) (List.perm_cons x |>.mp p) (Vr.mp u).2 (Vr.mp v).2]
theorem fJ(c:dM ds=true)(t:aB ds=true):Ord ltB ds where
 as:=λa b=>vb c t a b
 ntr:=λa b d=>D8 c t a b d
 tot:=λ{a b} ha hb h h'=>by
  rcases qm c t ha hb h' with q|q
  ·grind
  grind
theorem qo(c:dM ds=true)(t:aB ds=true)(p:es.Perm ds)(u:Up ltB es):es=bN ltB ds:=
 rP ((fJ c t).sub λe m=>p.mem_iff.mp m) (p.trans (aS ltB ds).symm) u (vc (fJ c t))
end Ml
namespace Ml
open PySem PySem.Spec L2
open Sem (wp)
mutual
theorem aY:∀{d:PyData},aI d=true->ay d=true
 |.str _,_=>by rfl
 |.tuple ds,h=>by simp[aI]at h;exact qp h
 |.none,h=>by assumption
 |.bool _,h=>by assumption
 |.int _,h=>by rfl
 |.list _,h=>by assumption
 |.dict _,h=>by assumption
theorem qp:∀{ds:YB},bz ds=true->aB ds=true
 | [],_=>by rfl
 |d::ds,h=>by simp only[bz,UI]at h;simp only[aB,UI];exact⟨aY h.1,qp h.2⟩
end
mutual
noncomputable def sU(w:World):PyData->Int
 |.str x=>hashStr w x
 |.tuple ds=>reduceHash (Builtin.Tuple.tupleHashOf (gR w ds))
 |_=>0
noncomputable def gR(w:World):YB->List Int
 | []=>[]
 |d::ds=>sU w d::gR w ds
end
mutual
noncomputable def pB:PyData->Nat
 |.str _=>1
 |.tuple ds=>qr ds+1
 |_=>0
noncomputable def qr:YB->Nat
 | []=>0
 |d::ds=>pB d+qr ds
end
mutual
theorem jP(k:∀b o vs n,h.get? b=some o->o.cls=.type "tuple" -> o.data=.seq vs n->h'.get? b=some o):∀{d:PyData} {v:Value} {as:YC},aI d=true->Reads h v d as->Reads h' v d as
 |.str _,_,_,_,.str x t=>.str x t
 |.tuple ds,_,_,t,.tuple h1 h2 h3 h4=>.tuple (k _ _ _ _ h1 h2 h3) h2 h3 (qt k t h4)
 |.none,_,_,t,_=>by trivial
 |.bool _,_,_,t,_=>by trivial
 |.int _,_,_,t,_=>by trivial
 |.list _,_,_,t,_=>by trivial
 |.dict _,_,_,t,_=>by trivial
theorem qt{h h':Heap}(k:∀b o vs n,h.get? b=some o->o.cls=.type "tuple" -> o.data=.seq vs n->h'.get? b=some o):∀{ds:YB} {vs:YD} {as:YC},bz ds=true->ReadsAll h vs ds as->ReadsAll h' vs ds as
 | [],_,_,_,.nil=>.nil
 |d::ds,_,_,t,.cons r1 r2=>by simp only[bz,UI]at t;exact .cons (jP k t.1 r1) (qt k t.2 r2)
end
section
variable {P:YL} {w:World}
mutual
theorem pC:∀(d:PyData) (A:YN) (s:YO) (v:Value) (as:YC) (Q:Int->YO->Prop) (E:Yw),aI d=true->Reads s.heap v d as->A.units+d.depth<cLine->Q (sU w d) {s with toks:=s.toks+pB d}->wpAny #[14] A (pyHash v) Q E s
 |.str x,A,s,v,as,Q,E,_,r,hu,h=>by cases r;simp only[sU,pB]at h;exact wpAny_pyHash_str h
 |.tuple ds,A,s,v,as,Q,E,t,r,hu,h=>by
  cases r with
  |tuple ho hc hd hi=>
   rename_i a o items n;have hT:s.TypeIs (.ref a) "tuple" := ⟨o,ho,hc⟩;simp only[aI]at t;simp only[PyData.depth]at hu;simp only[sU,pB]at h;unfold pyHash
   first|unfold pyHashByItsType|skip
   first|refine UE (wpAny_cRoomFor_or (.inr #[4]) ?_)|skip
   refine UE (We hT W4.lookup ?_);show wpAny _ _ (if(some (Value.builtin "tuple.__hash__")==some Value.none)=true then _ else _) Q E s;rw[if_neg (by rw[beq_builtin_none];exact Ve)];refine UE (We hT W4.lookup ?_);show wpAny _ _ (callSpecialIfBoundUnlessNone? (.ref a) "__hash__" _ >>= _) Q E s;refine UE (wpAny_callSpecialIfBoundUnlessNone?_slot hT W4 (Vc W4 hT F.entry_tuple_hash ?_ (F.args_tuple_hash_1 _)));show wpAny _ _ (Builtin.Tuple.tupleItemsOf (.ref a) >>= _) _ _ s;refine UE (wpAny_tupleItemsOf ho hd ?_);refine UE ?_;rw[<- Xy];refine qu ds A.in1 s items.toList _ #[] _ _ _ t hi (by show A.units+1+_<_;omega) ?_ ?_
   ·intro x b s' R k
    first
     |exact UE (VU k (λc s2 q=>UH q) λ_ _ z=>z)
     |exact UE (VU k (λc s2 q=>UE (UH (UH q))) λ_ _ z=>z)
   ·show wpAny _ _ (retInt (Builtin.Tuple.tupleHashOf (#[]++(gR w ds).toArray).toList)) _ _ _;have e1:(#[]++(gR w ds).toArray).toList=gR w ds:=by simp
    rw[e1];refine wpAny_ret_mkInt ?_;show wpAny _ _ (if(decide (-(2:Int)^63<=Builtin.Tuple.tupleHashOf (gR w ds))&&decide (Builtin.Tuple.tupleHashOf (gR w ds)<2^63))=true then _ else _) Q E _;unfold reduceHash at h;by_cases hr:(decide (-(2:Int)^63<=Builtin.Tuple.tupleHashOf (gR w ds))&&decide (Builtin.Tuple.tupleHashOf (gR w ds)<2^63))=true
    ·rw[if_pos hr];rw[if_pos hr]at h;exact UH (by simpa [Nat.add_assoc]using h)
    ·rw[if_neg hr];rw[if_neg hr]at h;exact UE (V5 (UH (by simpa [Nat.add_assoc]using h)))
 |.none,_,_,_,_,_,_,t,_,_,_=>by simp[aI]at t
 |.bool _,_,_,_,_,_,_,t,_,_,_=>by simp[aI]at t
 |.int _,_,_,_,_,_,_,t,_,_,_=>by simp[aI]at t
 |.list _,_,_,_,_,_,_,t,_,_,_=>by simp[aI]at t
 |.dict _,_,_,_,_,_,_,t,_,_,_=>by simp[aI]at t
theorem qu:∀(ds:YB) (A:YN) (s:YO) (vs:YD) (as:YC) (acc:Array Int) (R:Array Int->YO->Prop) (E':Yw) (body:Value->Array Int->Sem (ForInStep (Array Int))),bz ds=true->ReadsAll s.heap vs ds as->A.units+PyData.depthAll ds<cLine ->
  (∀(x:Value) (b:Array Int) (s':YO) (R':ForInStep (Array Int)->YO->Prop),wpAny #[14] A (pyHash x) (λc s2=>R' (.yield (b.push c)) s2) E' s'->wpAny #[14] A (body x b) R' E' s') ->
  R (acc++(gR w ds).toArray) {s with toks:=s.toks+qr ds}->wpAny #[14] A (forIn vs acc body) R E' s
 | [],A,s,_,_,acc,R,E',body,_,.nil,_,hb,h=>by rw[XT];simp only[gR,qr]at h;exact UH (by simpa using h)
 |d::ds,A,s,_,_,acc,R,E',body,t,.cons r1 r2,hu,hb,h=>by simp only[bz,UI]at t;simp only[PyData.depthAll]at hu;rw[Wd];refine UE (hb _ _ _ _ ?_);refine pC d A s _ _ _ E' t.1 r1 #[4] ?_;refine qu ds A _ _ _ (acc.push (sU w d)) R E' body t.2 r2 #[4] hb ?_;simp only[gR,qr]at h;simpa [Nat.add_assoc]using h
end
mutual
theorem i8:∀(d:PyData) (n:Nat) (A:YN) (s:YO) (v:Value) (as:YC) (Q:Bool->YO->Prop) (E:Yw),aI d=true->d.depth<=n->Reads s.heap v d as->Q true s->wpAny #[14] A (eqIsQuiet n v) Q E s
 |.str x,n,A,s,v,as,Q,E,_,_,r,h=>by cases r;rw[eqIsQuiet_byValue n rfl];exact UH h
 |.tuple ds,n,A,s,v,as,Q,E,t,hn,r,h=>by
  cases r with
  |tuple ho hc hd hi=>
   rename_i a o items k;have hT:s.TypeIs (.ref a) "tuple" := ⟨o,ho,hc⟩;simp only[aI]at t;simp only[PyData.depth]at hn;obtain⟨m,rfl⟩:∃m,n=m+1:=⟨n-1,by omega⟩;unfold eqIsQuiet;refine UE (We hT F.slot_tuple_eq.lookup ?_);show wpAny _ _ (isInstance (.ref a) (.type "tuple") >>= _) _ _ s;refine UE (X1 hT isSubtype_tuple_tuple ?_);simp only[W5,US,Vu];refine UE (VI ho hd ?_);refine UE ?_;show wpAny _ _ (forIn items _ _) _ _ s;rw[<- Xy];refine qv ds m A s items.toList _ _ E _ t #[4] hi ?_ ?_
   ·intro x s' R k;refine UE (VU k (λc s2 q=>?_) λ_ _ z=>z);obtain⟨rfl,q⟩:=q;simp only[W5,US,Vu];exact UH q
   ·exact UH h
 |.none,_,_,_,_,_,_,_,t,_,_,_=>by simp[aI]at t
 |.bool _,_,_,_,_,_,_,_,t,_,_,_=>by simp[aI]at t
 |.int _,_,_,_,_,_,_,_,t,_,_,_=>by simp[aI]at t
 |.list _,_,_,_,_,_,_,_,t,_,_,_=>by simp[aI]at t
 |.dict _,_,_,_,_,_,_,_,t,_,_,_=>by simp[aI]at t
theorem qv:∀(ds:YB) (n:Nat) (A:YN) (s:YO) (vs:YD) (as:YC) (R:Option Bool×Unit->YO->Prop) (E:Yw) (body:Value->Option Bool×Unit->Sem (ForInStep (Option Bool×Unit))),bz ds=true->PyData.depthAll ds<=n->ReadsAll s.heap vs ds as ->
  (∀(x:Value) (s':YO) (R':ForInStep (Option Bool×Unit)->YO->Prop),wpAny #[14] A (eqIsQuiet n x) (λc s2=>c=true/\R' (.yield (none,())) s2) E s'->wpAny #[14] A (body x (none,())) R' E s') ->
  R (none,()) s->wpAny #[14] A (forIn vs (none,()) body) R E s
 | [],n,A,s,_,_,R,E,body,_,_,.nil,hb,h=>by rw[XT];exact UH h
 |d::ds,n,A,s,_,_,R,E,body,t,hn,.cons r1 r2,hb,h=>by simp only[bz,UI]at t;simp only[PyData.depthAll]at hn;rw[Wd];refine UE (hb _ _ _ (i8 d n A s _ _ _ E t.1 #[4] r1 ⟨rfl,?_⟩));exact qv ds n A s _ _ R E body t.2 #[4] r2 hb h
end
end
noncomputable def N3(h:Heap)(d:PyData)(a:Addr):Prop:=aI d=true/\d.depth<=8/\fz d=true/\∃as,Reads h (.ref a) d as
noncomputable instance TK:DecidableEq PyData:=λa b=>Classical.propDecidable (a=b)
noncomputable def iA(P:YL)(w:World):HeapKind P w PyData where
 is:=N3
 hash:=sU w
 draws:=pB
 room:=λA=>A.units+20<cLine
 inj:=λ{h a x y} ⟨_,_,_,as,hx⟩ ⟨_,_,_,bs,hy⟩=>(PySem.Reads.unique hx _ _ hy).1
 keeps:=λ{h h' k a d o es ep} ⟨t,dp,so,as,r⟩ ho hd hs=>⟨t,dp,so,as,jP (λb ob vs n e c dd=>by
  have ne:b≠d:=λz=>by subst z;rw[ho]at e;cases e;rw[hd]at dd;cases dd
  exact(hs.2 b ne).trans e) t r⟩
 pyHash:=λ{A E s k a Q} hu ⟨t,dp,_,as,r⟩ h=>pC k A s _ as Q E t r #[4] h
 eqBool:=λ{A E s x y a b Q} hu ⟨t1,d1,s1,as,r1⟩ ⟨t2,d2,s2,bs,r2⟩ h=>by
  have hq:PyData.eqv x y=decide (x=y):=by
   by_cases e:x=y
   ·subst e;rw[Vz rfl];exact br (aY t1)
   ·rw[Vj e];exact bb (aY t1) (aY t2) e
  have:=X3 x y A s _ _ _ _ r1 r2 (jq s1 (eK (aY t1))) (jq s2 (eK (aY t2))) #[4] P w E Q;rw[hq]at this;exact this h
 quiet:=λ{A E s k a Q} ⟨t,dp,_,as,r⟩ h=>i8 k 8 A s _ as Q E t dp r h
noncomputable def dO(P:YL)(w:World)(xs:List (PyData×Addr×Value))(a:Addr):HO:=.ext λh=>xs.length<=sizeLine/\(a==sysModules)=false/\∃o es ep,h.get? a=some o/\o.ExactDict/\o.data=.dict es ep/\es.toList=xs.map (entryOfKey (iA P w))/\(xs.map (·.1)).Nodup
theorem Qo(h1:xs.length<=sizeLine)(h2:(a==sysModules)=false)(h3:h.get? a=some o)(h4:o.ExactDict)(h5:o.data=.dict es ep)(h6:es.toList=xs.map (entryOfKey (iA P w)))(h7:(xs.map (·.1)).Nodup):cC P w H h a (dO P w xs a):=
 ⟨⟨h1,h2,o,es,ep,h3,h4,h5,h6,h7⟩,⟨o,h3⟩,by rintro g1 g2 ⟨k1,k2,o',es',ep',k3,k4⟩ hk;exact⟨k1,k2,o',es',ep',hk _ k3,k4⟩⟩
end Ml
namespace Ml
open PySem PySem.Spec L2
noncomputable def view(θ:YC)(H:Hp):Hp:=λa=>if a∈θ then none else H a
theorem cQ(h:view θ H a=some o):a∉θ/\H a=some o:=by
 simp_all[view]
theorem dN(h:a∉θ):view θ H a=H a:=if_neg h
theorem aF(θ:YC)(H:Hp):aX (view θ H) H:=λa o h=>(cQ h).2
noncomputable def t9(M:Hp)(p:PyData×PyData)(q:PyData×Addr×Value):Prop:=p.1=q.1/\aI p.1=true/\p.1.depth<=8/\fz p.1=true/\Rep M p.1 (.ref q.2.1)/\∃v,RelV v q.2.2/\Rep M p.2 v/\fz p.2=true
noncomputable def gf(P:YL)(w:World)(M G:Hp)(a:Addr)(t:Bool)(kvs:Yy):Prop:=
 (t=false/\∃ks,G a=some (.dK ks)/\bW ks=some kvs/\∀p∈kvs,fz p.1=true/\fz p.2=true)\/(t=true/\∃xs,G a=some (dO P w xs a)/\Paired (t9 M) kvs xs)
structure Gx where
 P:YL
 w:World
 mg:Str->Option Value
 K:YE
noncomputable def Qp:PyData->V
 |.int i=>.int i
 |.str x=>.str x
 |.bool b=>.bl b
 |_=>.non
noncomputable def Qq(K:YE)(a:Addr)(xs:YB):Prop:=(∃(o:Obj) (its:YJ) (n:Nat),K.lookup a=some o/\o.cls=.type "tuple" /\ o.data=.seq its n/\its.size<=sizeLine/\Vals (xs.map Qp) its.toList)/\(∀x∈xs,(match x with|.int _|.str _|.bool _|.none=>true|_=>false)=true)/\cN xs=true
noncomputable def Qr(G:Gx)(x:Xc)(cls:Value)(da:Option Addr)(M:Hp):Prop:=G.mg x.cls=some cls/\da=none/\x.args=[]
noncomputable def ck(G:Gx)(θ:YC)(H:Hp):D->V->Prop
 |.dat d,v=>Rep (view θ H) d v/\fz d=true
 |.ref i,v=>∃a,θ[i]?=some a/\v=.ref a
 |.kU t kvs,v=>∃a,v=.ref a/\gf G.P G.w (view θ H) (view θ H) a t kvs
 |.set _,_=>False
 |.fn n,v=>∃f,G.mg n=some (.ref f)/\v=.ref f
 |.scr ns,v=>∃a,v=.ref a/\gY G.K (view θ H) a (ns.map V.int)
 |.ktup xs,v=>∃a,v=.ref a/\Qq G.K a xs
 |.rpr x,v=>v=.str x
 |.exc x,v=>∃a cls,v=.ref a/\view θ H a=some (.ext (et a cls))/\Qr G x cls none (view θ H)
noncomputable abbrev aV(G:Gx)(θ:YC)(H:Hp):List D->List V->Prop:=Paired (ck G θ H)
noncomputable def TabAt(θ:YC)(H:Hp)(P:Addr)(q:Str):Prop:=∃ps:YJ,H P=some (.tbl ps)/\TriplesOk ps.toList/\∀(pos:Pos) (c:Value),codeAmong pos ps.toList=some c->∃b,c=.ref b/\b≠P/\view θ H b=some (.ext (recAt b q))
theorem TabAt.same(s:aX (view θ H) (view θ' H'))(e:∀o,H P=some o->H' P=some o)(x:TabAt θ H P q):TabAt θ' H' P q:=by obtain⟨ps,h1,h2,h3⟩:=x;exact⟨ps,e _ h1,h2,λpos c k=>by obtain⟨b,k1,k2,k3⟩:=h3 pos c k;exact⟨b,k1,k2,s _ _ k3⟩⟩
theorem TabAt.ok(x:TabAt θ H P q):xS H P q:=by obtain⟨ps,h1,h2,h3⟩:=x;exact⟨ps,h1,h2,λpos c k=>by obtain⟨b,k1,k2,k3⟩:=h3 pos c k;exact⟨b,k1,k2,(cQ k3).2⟩⟩
noncomputable def Cs(G:Gx)(θ:YC)(H:Hp)(a:Addr):MO->Prop
 |.lst xs=>∃vs,H a=some (.lst vs)/\aV G θ H xs vs
 |.kU t kvs=>gf G.P G.w (view θ H) H a t kvs
 |.ins _ _=>False
 |.tab P q=>a=P/\TabAt θ H P q
structure W(G:Gx)(θ:YC)(h:Hm)(H:Hp):Prop where
 len:θ.length=h.length
 nd:θ.Nodup
 obj:∀(i:Nat) (a:Addr) (o:MO),θ[i]?=some a->h[i]?=some o->Cs G θ H a o
noncomputable def Fr(G:Gx)(θ:YC)(H:Hp)(ρ:Fm)(σ:St):Prop:=ρ.length=σ.length/\∀(i:Nat) (d:D),ρ[i]?=some (some d)->∃v,σ[i]?=some (some v)/\ck G θ H d v
structure Ev(θ:YC)(H:Hp)(θ':YC)(H':Hp):Prop where
 pre:∃ext,θ'=θ++ext
 same:aX (view θ H) (view θ' H')
section
variable {G:Gx} {θ θ' θ'':YC} {H H' H'':Hp} {h h':Hm} {d:D} {v:V} {ρ:Fm} {σ:St}
theorem Ev.refl:Ev θ H θ H:=⟨⟨[],by simp⟩,aX.refl _⟩
theorem Ev.trans(a:Ev θ H θ' H')(b:Ev θ' H' θ'' H''):Ev θ H θ'' H'':=by obtain⟨e1,rfl⟩:=a.pre;obtain⟨e2,rfl⟩:=b.pre;exact⟨⟨e1++e2,by simp⟩,a.same.trans b.same⟩
theorem Ev.get(a:Ev θ H θ' H'){i:Nat}{x:Addr}(e:θ[i]?=some x):θ'[i]?=some x:=by obtain⟨ext,rfl⟩:=a.pre;rw[U3 (by have:=UM.mp e;exact this.1)];exact e
theorem t9.same(s:aX M M')(h:t9 M p q):t9 M' p q:=by obtain⟨h1,h2,h3,h4,h5,v,h6,h7,h8⟩:=h;exact⟨h1,h2,h3,h4,h5.same s,v,h6,h7.same s,h8⟩
theorem gf.same{M M' G G':Hp}(s:aX M M')(h:gf P w M G a t kvs)(e:∀o,G a=some o->G' a=some o):gf P w M' G' a t kvs:=by
 rcases h with⟨ht,ks,h1,h2⟩|⟨ht,xs,h1,h2⟩
 ·exact .inl ⟨ht,ks,e _ h1,h2⟩
 ·exact .inr ⟨ht,xs,e _ h1,Paired.yx h2 λ_ _=>t9.same s⟩
theorem gf.some{M G:Hp}(h:gf P w M G a t kvs):G a≠none:=by
 rcases h with⟨_,ks,h1,_⟩|⟨_,xs,h1,_⟩
 ·grind
 grind
theorem ck.ev(e:Ev θ H θ' H')(r:ck G θ H d v):ck G θ' H' d v:=by
 cases d with
 |dat d=>exact⟨r.1.same e.same,r.2⟩
 |ref i=>obtain⟨a,h1,h2⟩:=r;exact⟨a,e.get h1,h2⟩
 |kU t kvs=>obtain⟨a,h1,h2⟩:=r;exact⟨a,h1,h2.same e.same λo=>e.same a o⟩
 |set xs=>exact r
 |fn n=>exact r
 |scr ns=>obtain⟨a,h1,h2⟩:=r;exact⟨a,h1,e.same.seq h2⟩
 |ktup xs=>exact r
 |rpr x=>exact r
 |exc x=>obtain⟨a,c,h1,h2,h3⟩:=r;exact⟨a,c,h1,e.same _ _ h2,h3⟩
theorem aV.ev(e:Ev θ H θ' H')(r:aV G θ H ds vs):aV G θ' H' ds vs:=Paired.yx r λ_ _=>ck.ev e
theorem Fr.ev(e:Ev θ H θ' H')(r:Fr G θ H ρ σ):Fr G θ' H' ρ σ:=⟨r.1,λi d q=>by obtain⟨v,h1,h2⟩:=r.2 i d q;exact⟨v,h1,h2.ev e⟩⟩
theorem Fr.set(r:Fr G θ H ρ σ)(q:ck G θ H d v):Fr G θ H (ρ.set i (some d)) (σ.set i (some v)):=by
 refine⟨by simp[r.1],λj e he=>?_⟩;by_cases hj:i=j
 ·subst hj;by_cases hl:i<ρ.length
  ·rw[VY hl]at he;cases he;exact⟨v,by rw[VY (by rw[<- r.1];exact hl)],q⟩
  simp_all
 ·rw[Xb hj]at he ⊢;exact r.2 j e he
theorem Fr.replicate(n:Nat)(r:Fr G θ H ρ σ):Fr G θ H (List.replicate n none++ρ) (List.replicate n none++σ):=by
 refine⟨by simp[r.1],λi d e=>?_⟩;by_cases hi:i<n
 ·rw[U3 (by simp_all),WB]at e
  grind
 ·rw[Vh (by simp;omega)]at e ⊢;simp at e ⊢;exact r.2 _ d e
theorem HE(hp:H p=none)(hn:p∉θ):Ev θ H θ (upd H p o):=⟨⟨[],by simp⟩,λa u q=>by
 obtain⟨h1,h2⟩:=cQ q;rw[dN h1,aD (aJ h2 hp)]
 exact h2⟩
theorem Cs.some(o:MO)(r:Cs G θ H a o):H a≠none:=by
 cases o with
 |lst xs=>obtain⟨vs,e,_⟩:=r;grind
 |kU t kvs=>exact gf.some r
 |ins=>trivial
 |tab P q=>obtain⟨rfl,ps,e,_⟩:=r;grind
theorem W.Ea(w:W G θ h H)(hp:H p=none):p∉θ:=λm=>by
 obtain⟨i,hi,e⟩:=VW.mp m;have hl:i<h.length:=by rw[<- w.len];exact hi
 exact Cs.some _ (w.obj i p h[i] (by simp_all) (UN hl)) hp
theorem W.put(w:W G θ h H)(hp:H p=none):Ev θ H θ (upd H p o)/\W G θ h (upd H p o)/\view θ (upd H p o) p=some o:=by
 have hn:=w.Ea hp;have e:=HE (o:=o) hp hn;refine⟨e,⟨w.len,w.nd,λi a m h1 h2=>?_⟩,by rw[dN hn,aM]⟩;have r:=w.obj i a m h1 h2;have ha:a≠p:=λz=>by subst z;exact hn (UY h1)
 cases m with
 |lst xs=>obtain⟨vs,q1,q2⟩:=r;exact⟨vs,by rw[aD ha];exact q1,q2.ev e⟩
 |kU t kvs=>exact gf.same e.same r λo q=>by rw[aD ha];exact q
 |ins=>trivial
 |tab P q=>obtain⟨rfl,x⟩:=r;exact⟨rfl,x.same e.same λo q=>by rw[aD ha];exact q⟩
theorem W.grow(w:W G θ h H)(s:aX H H'):Ev θ H θ H'/\W G θ h H':=by
 have e:Ev θ H θ H':=⟨⟨[],by simp⟩,λa u q=>by
  obtain⟨h1,h2⟩:=cQ q;rw[dN h1]
  exact s _ _ h2⟩
 refine⟨e,⟨w.len,w.nd,λi a m h1 h2=>?_⟩⟩;have r:=w.obj i a m h1 h2
 cases m with
 |lst xs=>obtain⟨vs,q1,q2⟩:=r;exact⟨vs,s _ _ q1,q2.ev e⟩
 |kU t kvs=>exact gf.same e.same r λo q=>s _ _ q
 |ins=>trivial
 |tab P q=>obtain⟨rfl,x⟩:=r;exact⟨rfl,x.same e.same λo q=>s _ _ q⟩
theorem W.alloc(w:W G θ h H)(hp:H p=none)(ho:Cs G (θ++[p]) (upd H p o) p m):Ev θ H (θ++[p]) (upd H p o)/\W G (θ++[p]) (h++[m]) (upd H p o):=by
 have hn:=w.Ea hp
 have e:Ev θ H (θ++[p]) (upd H p o):=⟨⟨[p],rfl⟩,λa u q=>by
  obtain⟨h1,h2⟩:=cQ q;have ne:=aJ h2 hp;rw[dN (by grind),aD ne]
  exact h2⟩
 refine⟨e,⟨by simp[w.len],?_,λi a m' h1 h2=>?_⟩⟩
 ·rw[W6];exact⟨w.nd,by simp,λx hx y hy z=>by grind⟩
 ·by_cases hi:i<θ.length
  ·rw[U3 hi]at h1;rw[U3 (by rw[<- w.len];exact hi)]at h2;have r:=w.obj i a m' h1 h2;have ha:a≠p:=λz=>by subst z;exact hn (UY h1)
   cases m' with
   |lst xs=>obtain⟨vs,q1,q2⟩:=r;exact⟨vs,by rw[aD ha];exact q1,q2.ev e⟩
   |kU t kvs=>exact gf.same e.same r λo q=>by rw[aD ha];exact q
   |ins=>exact r.elim
   |tab P q=>obtain⟨rfl,x⟩:=r;exact⟨rfl,x.same e.same λo q=>by rw[aD ha];exact q⟩
  ·rw[Vh #[4]]at h1;rw[Vh (by rw[<- w.len];omega),<- w.len]at h2
   cases hk:i-θ.length with
   |zero=>rw[hk]at h1 h2;simp at h1 h2;subst h1;subst h2;exact ho
   |succ k=>rw[hk]at h1;simp at h1
theorem W.write(w:W G θ h H)(hi:θ[i]?=some p)(hl:i<h.length)(ho:Cs G θ (upd H p o) p m):Ev θ H θ (upd H p o)/\W G θ (h.set i m) (upd H p o):=by
 have hm:p∈θ:=UY hi
 have e:Ev θ H θ (upd H p o):=⟨⟨[],by simp⟩,λa u q=>by
  obtain⟨h1,h2⟩:=cQ q;have ne:a≠p:=λz=>by grind
  simp_all[dN,h1,aD,ne]⟩
 refine⟨e,⟨by simp[w.len],w.nd,λj a m' h1 h2=>?_⟩⟩;by_cases hj:i=j
 ·simp_all
 ·rw[Xb hj]at h2
  have ha:a≠p:=λz=>by
   subst z;obtain⟨l1,e1⟩:=UM.mp hi;obtain⟨l2,e2⟩:=UM.mp h1;have pw:=Vo.mp w.nd;rcases Nat.lt_or_gt_of_ne hj with z|z
   ·exact pw i j l1 l2 z (e1.trans e2.symm)
   ·exact pw j i l2 l1 z (e2.trans e1.symm)
  have r:=w.obj j a m' h1 h2
  cases m' with
  |lst xs=>obtain⟨vs,q1,q2⟩:=r;exact⟨vs,by rw[aD ha];exact q1,q2.ev e⟩
  |kU t kvs=>exact gf.same e.same r λo q=>by rw[aD ha];exact q
  |ins=>exact r.elim
  |tab P q=>obtain⟨rfl,x⟩:=r;exact⟨rfl,x.same e.same λo q=>by rw[aD ha];exact q⟩
end
noncomputable abbrev XP:=Xc->YC->Hm->Hp->Prop
noncomputable def aL{α:Type}(G:Gx)(E:XP)(θ:YC)(H:Hp):R α->(α->YC->Hm->Hp->Prop)->Prop
 |.ok a h',K=>∀θ' H',Ev θ H θ' H'->W G θ' h' H'->K a θ' h' H'
 |.exc x h',_=>∀θ' H',Ev θ H θ' H'->W G θ' h' H'->E x θ' h' H'
 |.bad,_=>False
section
variable {α β:Type} {G:Gx} {E E':XP} {θ θ':YC} {H H':Hp} {h:Hm} {r:R α} {f:α->Hm->R β} {K K':α->YC->Hm->Hp->Prop}
theorem aL.mono(p:aL G E θ H r K)(k:∀a θ' h' H',Ev θ H θ' H'->W G θ' h' H'->K a θ' h' H'->K' a θ' h' H'):aL G E θ H r K':=by
 cases r with
 |ok a h'=>exact λθ' H' e w=>k _ _ _ _ e w (p θ' H' e w)
 |exc x h'=>exact p
 |bad=>exact p
theorem aL.later(p:aL G E θ H r K)(e:Ev θ H θ' H'):aL G E θ' H' r K:=by
 cases r with
 |ok a h'=>exact λθ2 H2 e2 w=>p θ2 H2 (e.trans e2) w
 |exc x h'=>exact λθ2 H2 e2 w=>p θ2 H2 (e.trans e2) w
 |bad=>exact p
theorem aL.bind(p:aL G E θ H (r.bind f) L):aL G E θ H r λa θ1 h1 H1=>Ev θ H θ1 H1/\W G θ1 h1 H1/\aL G E θ1 H1 (f a h1) L:=by
 cases r with
 |ok a h'=>exact λθ1 H1 e w=>⟨e,w,aL.later p e⟩
 |exc x h'=>exact p
 |bad=>exact p
end
noncomputable def ua(G:Gx)(E:XK):XP:=λx θ _ H=>∀cls da,Qr G x cls da (view θ H)->E cls da H
noncomputable def KV(G:Gx)(Q:VK):D->YC->Hm->Hp->Prop:=λd θ _ H=>∀v,ck G θ H d v->Q v H
noncomputable def Us(G:Gx)(Q:List V->Hp->Prop):List D->YC->Hm->Hp->Prop:=λds θ _ H=>∀vs,aV G θ H ds vs->Q vs H
noncomputable def KS(G:Gx)(C:Ends):Fl->YC->Hm->Hp->Prop:=λf θ _ H=>match f with
 |.nx ρ=>∀σ,Fr G θ H ρ σ->C.nx σ H
 |.rt d=>∀v,ck G θ H d v->C.rt v H
 |.bk ρ=>∀σ,Fr G θ H ρ σ->C.bk σ H
 |.ct ρ=>∀σ,Fr G θ H ρ σ->C.ct σ H
noncomputable def lE(G:Gx)(E:XK)(m:ME):TE:=λσ H Q=>∃θ h ρ,W G θ h H/\Fr G θ H ρ σ/\aL G (ua G E) θ H (m ρ h) (KV G Q)
noncomputable def lT(G:Gx)(E:XK)(m:MT):TT:=λσ H Q=>∃θ h ρ,W G θ h H/\Fr G θ H ρ σ/\aL G (ua G E) θ H (m ρ h) (λb _ _ H'=>Q b H')
noncomputable def lA(G:Gx)(E:XK)(m:MA):TA:=λσ H Q=>∃θ h ρ,W G θ h H/\Fr G θ H ρ σ/\aL G (ua G E) θ H (m ρ h) (Us G Q)
noncomputable def lS(G:Gx)(E:XK)(m:MS):TS:=λC σ H=>∃θ h ρ,W G θ h H/\Fr G θ H ρ σ/\aL G (ua G E) θ H (m ρ h) (KS G C)
noncomputable def lG(G:Gx)(E:XK)(g:MG):TG:=λv σ H Q=>∃θ h ρ d,W G θ h H/\Fr G θ H ρ σ/\ck G θ H d v/\aL G (ua G E) θ H (g d ρ h) (λρ' θ' _ H'=>∀σ',Fr G θ' H' ρ' σ'->Q σ' H')
noncomputable abbrev _root_.L2.Cx.G(X:Cx):Gx:=⟨X.prog,X.w,X.mg,X.K⟩
@[irreducible] noncomputable def DE(X:Cx)(E:XK)(m:ME)(e:Expr):Prop:=PE X e (lE X.G E m)
theorem bS(X:Cx)(E:XK)(m:ME)(e:Expr):DE X E m e=(PE X e (lE X.G E m)):=by
 grind[DE]
@[irreducible] noncomputable def DT(X:Cx)(E:XK)(m:MT)(e:Expr):Prop:=PT X e (lT X.G E m)
theorem lY(X:Cx)(E:XK)(m:MT)(e:Expr):DT X E m e=(PT X e (lT X.G E m)):=by
 grind[DT]
@[irreducible] noncomputable def DA(X:Cx)(E:XK)(m:MA)(es:YG):Prop:=PA X es (lA X.G E m)
theorem kX(X:Cx)(E:XK)(m:MA)(es:YG):DA X E m es=(PA X es (lA X.G E m)):=by
 grind[DA]
@[irreducible] noncomputable def DS(X:Cx)(E:XK)(m:MS)(s:Stmt):Prop:=PS X s (lS X.G E m)
theorem kY(X:Cx)(E:XK)(m:MS)(s:Stmt):DS X E m s=(PS X s (lS X.G E m)):=by
 grind[DS]
@[irreducible] noncomputable def FN(X:Cx)(E:XK)(m:MS)(s:List Stmt):Prop:=xD X s (lS X.G E m)
theorem lZ(X:Cx)(E:XK)(m:MS)(s:List Stmt):FN X E m s=(xD X s (lS X.G E m)):=by
 grind[FN]
@[irreducible] noncomputable def DG(X:Cx)(E:XK)(m:MG)(e:Expr):Prop:=PG X e (lG X.G E m)
theorem oO(X:Cx)(E:XK)(m:MG)(e:Expr):DG X E m e=(PG X e (lG X.G E m)):=by
 grind[DG]
theorem PE.imp(h:PE X e t)(k:∀σ H Q,t' σ H Q->t σ H Q):PE X e t':=λpins s σ H Q I q=>h pins s σ H Q I (k _ _ _ q)
theorem PT.imp(h:PT X e t)(k:∀σ H Q,t' σ H Q->t σ H Q):PT X e t':=λpins s σ H Q I q=>h pins s σ H Q I (k _ _ _ q)
theorem PA.imp(h:PA X e t)(k:∀σ H Q,t' σ H Q->t σ H Q):PA X e t':=λpos pins s σ H Q I q=>h pos pins s σ H Q I (k _ _ _ q)
theorem PS.imp(h:PS X e t)(k:∀C σ H,t' C σ H->t C σ H):PS X e t':=λpins s σ H C I q=>h pins s σ H C I (k _ _ _ q)
theorem xD.imp(h:xD X e t)(k:∀C σ H,t' C σ H->t C σ H):xD X e t':=λpins s σ H C I q=>h pins s σ H C I (k _ _ _ q)
noncomputable def N4(G:Gx)(E:XK)(f:D->D->Hm->R D):R2:=λx y H Q=>∃θ h d1 d2,W G θ h H/\ck G θ H d1 x/\ck G θ H d2 y/\aL G (ua G E) θ H (f d1 d2 h) (KV G Q)
noncomputable def TL(G:Gx)(E:XK)(f:Fn):List V->Hp->VK->Prop:=λxs H Q=>∃θ h ds,W G θ h H/\aV G θ H ds xs/\aL G (ua G E) θ H (f ds h) (KV G Q)
noncomputable def qw(X:Cx)(E:XK)(op:Value->Value->Sem Value)(f:D->D->Hm->R D):Prop:=iX X op (N4 X.G E f)
noncomputable def qx(X:Cx)(E:XK)(v:Value)(f:Fn):Prop:=cY X v (TL X.G E f)
theorem iX.imp(h:iX X op r)(k:∀x y H Q,r' x y H Q->r x y H Q):iX X op r':=λpins s σ H x y v u Q I rx ry q=>h pins s σ H x y v u Q I rx ry (k _ _ _ _ q)
theorem cY.imp(h:cY X f r)(k:∀xs H Q,r' xs H Q->r xs H Q):cY X f r':=λpins s σ H xs us Q I r q=>h pins s σ H xs us Q I r (k _ _ _ q)
theorem qw.of(h:iX X op r)
 (k:∀θ hm H d1 d2 x y Q,W X.G θ hm H->ck X.G θ H d1 x->ck X.G θ H d2 y->aL X.G (ua X.G E) θ H (f d1 d2 hm) (KV X.G Q)->r x y H Q):qw X E op f:=
 iX.imp h (by rintro x y H Q ⟨θ,hm,d1,d2,w,r1,r2,p⟩;exact k θ hm H d1 d2 x y Q w r1 r2 p)
theorem qx.of(h:cY X v r)
 (k:∀θ hm H ds xs Q,W X.G θ hm H->aV X.G θ H ds xs->aL X.G (ua X.G E) θ H (f ds hm) (KV X.G Q)->r xs H Q):qx X E v f:=
 cY.imp h (by rintro xs H Q ⟨θ,hm,ds,w,r1,p⟩;exact k θ hm H ds xs Q w r1 p)
section
variable {X:Cx} {E:XK} {m a b c:ME} {t u:MT} {e e1 e2 e3:Expr} {es:YG} {ma:MA} {pos:Pos} {i:Nat} {x:Str}
theorem N6(hN:X.N[i]?=some x)(hv:GD X.env.scope x)(hd:(x==("__debug__" : Str))=false:=by decide)(hcd:(x==("__classdict__" : Str))=false:=by decide):DE X E (af i) (.Name x pos):=by
 simp only[bS]at *
 exact PE.imp (yz hN hv hd hcd) (by
   rintro σ H Q ⟨θ,h,ρ,w,fr,p⟩;unfold af at p
   cases e:ρ[i]? with
   |none=>rw[e]at p;exact p.elim
   |some o=>
    cases o with
    |none=>rw[e]at p;exact p.elim
    |some d=>
     rw[e]at p;obtain⟨v,h1,h2⟩:=fr.2 i d e
     exact⟨v,h1,p θ H Ev.refl w v h2⟩)
theorem FO(h:PE X e (tC v))(r:∀G,Rep G d v)(s:fz d=true):DE X E (ah d) e:=by simp[bS]at *;exact PE.imp h (by rintro σ H Q ⟨θ,hm,ρ,w,fr,p⟩;exact p θ H Ev.refl w v ⟨r _,s⟩)
theorem aG:DE X E (ah (.int k)) (.Constant (.int k) j pos):=FO BZ (λ_=>rfl) #[7]
theorem cK:DE X E (ah (.bool k)) (.Constant (.bool k) j pos):=FO Ds (λ_=>rfl) #[7]
theorem gZ:DE X E (ah .none) (.Constant .none j pos):=FO GF (λ_=>rfl) #[7]
theorem dC(h:PyData.strOk k=true:=by decide +kernel):DE X E (ah (.str k)) (.Constant (.str k) j pos):=FO o6 (λ_=>rfl) (by trivial)
theorem yW(h:lE G E (ak f a b) σ H Q):Pj (N4 G E f) (lE G E a) (lE G E b) σ H Q:=by obtain⟨θ,h,ρ,w,fr,p⟩:=h;refine⟨θ,h,ρ,w,fr,(aL.bind p).mono λx θ1 h1 H1 _ _ ⟨e1,w1,p1⟩ v r1=>?_⟩;exact⟨θ1,h1,ρ,w1,fr.ev e1,(aL.bind p1).mono (by rintro y θ2 h2 H2 _ _ ⟨e2,w2,p2⟩ u r2;exact⟨θ2,h2,x,y,w2,r1.ev e2,r2,p2⟩)⟩
theorem Eb(h:lE G E (ag f ma) σ H Q):P4 (TL G E f) (lA G E ma) σ H Q:=by obtain⟨θ,h,ρ,w,fr,p⟩:=h;exact⟨θ,h,ρ,w,fr,(aL.bind p).mono (by rintro xs θ1 h1 H1 _ _ ⟨e1,w1,p1⟩ vs r1;exact⟨θ1,h1,xs,w1,r1,p1⟩)⟩
theorem bj(h:qw X E (binaryOp op) f)(ha:DE X E a e1)(hb:DE X E b e2):DE X E (ak f a b) (.BinOp e1 op e2 pos):=by simp[bS]at *;exact PE.imp (xE h ha hb) λ_ _ _=>yW
theorem kh(h:qw X E (compareOp op) f)(ha:DE X E a e1)(hb:DE X E b e2)(hm:behindInMarks op e2=false):DE X E (ak f a b) (.Compare e1 [op] [e2] pos):=by simp[bS]at *;exact PE.imp (JS h ha hb hm) λ_ _ _=>yW
theorem cH(h:Pl X (N4 X.G E f))(ha:DE X E a e1)(hb:DE X E b e2)(hs:DH e2):DE X E (ak f a b) (.Subscript e1 e2 pos):=by simp[bS]at *;exact PE.imp (L8 h ha hb hs) λ_ _ _=>yW
theorem yX(h:lT G E (aN m) σ H Q):lE G E m σ H λx H'=>∃k,x=.bl k/\Q k H':=by
 obtain⟨θ,h,ρ,w,fr,p⟩:=h;refine⟨θ,h,ρ,w,fr,(aL.bind p).mono λx θ1 h1 H1 _ _ ⟨e1,w1,p1⟩ v r1=>?_⟩
 cases x with
 |dat d=>
  cases d with
  |bool k=>exact⟨k,r1.1,p1 θ1 H1 Ev.refl w1⟩
  |_=>trivial
 |_=>trivial
theorem bL(h:qw X E (compareOp op) f)(ha:DE X E a e1)(hb:DE X E b e2)(hm:behindInMarks op e2=false):DT X E (aN (ak f a b)) (.Compare e1 [op] [e2] pos):=by simp[bS,lY]at *;exact PT.imp (yC h ha hb hm) λ_ _ _ q=>yW (yX q)
@[irreducible] noncomputable def DW(X:Cx)(E:XK)(t:MT)(e:Expr):Prop:=PW X e (lT X.G E t)
theorem AD(X:Cx)(E:XK)(t:MT)(e:Expr):DW X E t e=(PW X e (lT X.G E t)):=by
 grind[DW]
theorem DW.dt(h:DW X E t e):DT X E t e:=by simp[lY,AD]at *;exact PW.pt h
theorem PW.imp{t t':TT}(h:PW X e t)(k:∀σ H Q,t' σ H Q->t σ H Q):PW X e t':=λwh pins s σ H Q I q=>h wh pins s σ H Q I (k _ _ _ q)
theorem Ec(ha:DT X E t e):DW X E t (.BoolOp .And [e] pos):=by simp[lY,AD]at *;exact JM ha
theorem iB(ha:DT X E t e):DW X E t (.BoolOp .Or [e] pos):=by simp[lY,AD]at *;exact GG ha
theorem HF(ha:DT X E t e1)(hb:DW X E u (.BoolOp .And (e2::es) pos)):DW X E (tY t u) (.BoolOp .And (e1::e2::es) pos):=by
 simp[lY,AD]at *
 exact PW.imp (MX ha hb) (by rintro σ H Q ⟨θ,h,ρ,w,fr,p⟩;exact⟨θ,h,ρ,w,fr,(aL.bind p).mono (by
   rintro c θ1 h1 H1 _ _ ⟨ev,w1,p1⟩
   cases c with
   |true=>exact⟨θ1,h1,ρ,w1,fr.ev ev,p1⟩
   |false=>exact p1 θ1 H1 Ev.refl w1)⟩)
theorem iC(ha:DT X E t e1)(hb:DW X E u (.BoolOp .Or (e2::es) pos)):DW X E (rF t u) (.BoolOp .Or (e1::e2::es) pos):=by
 simp[lY,AD]at *
 exact PW.imp (L0 ha hb) (by rintro σ H Q ⟨θ,h,ρ,w,fr,p⟩;exact⟨θ,h,ρ,w,fr,(aL.bind p).mono (by
   rintro c θ1 h1 H1 _ _ ⟨ev,w1,p1⟩
   cases c with
   |true=>exact p1 θ1 H1 Ev.refl w1
   |false=>exact⟨θ1,h1,ρ,w1,fr.ev ev,p1⟩)⟩)
theorem cV(ha:DT X E t e):DT X E (eF t) (.UnaryOp .Not e pos):=by simp[lY]at *;exact PT.imp (GH ha) (by rintro σ H Q ⟨θ,h,ρ,w,fr,p⟩;exact⟨θ,h,ρ,w,fr,(aL.bind p).mono (by rintro c θ1 h1 H1 _ _ ⟨ev,w1,p1⟩;exact p1 θ1 H1 Ev.refl w1)⟩)
theorem vd(h:DE X E m e):DE X E m (.BoolOp op [e] pos):=by simp[bS]at *;exact MY h
theorem N7(ha:DE X E a e):DE X E (Hv a) (.UnaryOp .Not e pos):=by simp[bS]at *;exact PE.imp (MZ ha) (by rintro σ H Q ⟨θ,h,ρ,w,fr,p⟩;exact yX ⟨θ,h,ρ,w,fr,(aL.bind p).mono (by rintro c θ1 h1 H1 _ _ ⟨ev,w1,p1⟩;exact p1 θ1 H1 Ev.refl w1 _ ⟨rfl,by rfl⟩)⟩)
theorem ai:DA X E aj []:=by simp[kX]at *;exact PA.imp fc (by rintro σ H Q ⟨θ,h,ρ,w,fr,p⟩;exact p θ H Ev.refl w _ .nil)
theorem ae(ha:DE X E m e)(hr:DA X E ma es)(hs:#[2]:=by rfl):DA X E (aa m ma) (e::es):=by simp[bS,kX]at *;exact PA.imp (bh ha hr hs) (by rintro σ H Q ⟨θ,h,ρ,w,fr,p⟩;exact⟨θ,h,ρ,w,fr,(aL.bind p).mono (by rintro x θ1 h1 H1 _ _ ⟨ev,w1,p1⟩ v r1;exact⟨θ1,h1,ρ,w1,fr.ev ev,(aL.bind p1).mono (by rintro xs θ2 h2 H2 _ _ ⟨ev2,w2,p2⟩ vs r2;exact p2 θ2 H2 Ev.refl w2 _ (.cons (r1.ev ev2) r2))⟩)⟩)
theorem ki:∀{xs:List D} {vs:List V} {ds:YB},aV G θ H xs vs->gV xs=some ds->bf (view θ H) ds vs/\cN ds=true
 | [],_,ds,.nil,e=>by cases e;exact⟨rfl,by rfl⟩
 |x::xs,_,ds,.cons r rs,e=>by
  unfold gV at e
  cases x with
  |dat d=>
   cases e2:gV xs with
   |none=>simp_all
   |some ds'=>simp[D.data,e2]at e;subst e;obtain⟨h1,h2⟩:=ki rs e2;exact⟨.cons r.1 h1,by simp[cN,r.2,h2]⟩
  |_=>trivial
theorem yY:∀{ds:YB} {vs:List V},bf (view θ H) ds vs->cN ds=true->aV G θ H (ds.map D.dat) vs
 | [],_,h,_=>by cases h;exact .nil
 |d::ds,_,⟨v,vs,e,r,rs⟩,s=>by subst e;simp[cN]at s;exact .cons ⟨r,s.1⟩ (yY rs s.2)
theorem dQ(h:kc n=true):n<=sizeLine:=by
 have:=Wy h
 simp_all[XO]
theorem rQ:∀{xs:List D} {ds:YB},gV xs=some ds->ds.length=xs.length
 | [],ds,e=>by cases e;rfl
 |x::xs,ds,e=>by
  unfold gV at e
  cases e1:x.data with
  |none=>simp_all
  |some d=>
   cases e2:gV xs with
   |none=>simp_all
   |some ds'=>rw[e1,e2]at e;cases e;simp[rQ e2]
theorem dD(h:DA X E ma es):DE X E (dG ma) (.Tuple es x1 pos):=by
 simp only[bS,kX]at *
 exact PE.imp (yD h) (by rintro σ H Q ⟨θ,h,ρ,w,fr,p⟩;exact⟨θ,h,ρ,w,fr,(aL.bind p).mono (by
   rintro xs θ1 h1 H1 _ _ ⟨ev,w1,p1⟩ vs r1;unfold gW at p1
   cases e:gV xs with
   |none=>rw[e]at p1;exact p1.elim
   |some ds=>
    rw[e]at p1;simp only at p1;split at p1
    ·rename_i hz;have hl:vs.length=xs.length:=(U9 r1).symm;refine⟨by rw[hl,<- rQ e];exact dQ hz,λq hq=>?_⟩;obtain⟨e1,w2,g⟩:=w1.put (o:=.tup vs) hq;obtain⟨h1,h2⟩:=ki r1 e;exact p1 _ _ e1 w2 _ ⟨⟨q,vs,rfl,g,h1.same e1.same⟩,by assumption⟩
    ·trivial)⟩)
theorem fh(h:DA X E ma es):DE X E (dZ ma) (.List es pos):=by
 simp only[bS,kX]at *
 exact PE.imp (lK h) (by rintro σ H Q ⟨θ,h,ρ,w,fr,p⟩;exact⟨θ,h,ρ,w,fr,(aL.bind p).mono (by
   rintro xs θ1 h1 H1 _ _ ⟨ev,w1,p1⟩ vs r1;unfold iy at p1
   cases e:gV xs with
   |none=>rw[e]at p1;exact p1.elim
   |some ds=>
    rw[e]at p1;simp only at p1;split at p1
    ·rename_i hz;have hl:vs.length=xs.length:=(U9 r1).symm;refine⟨by rw[hl,<- rQ e];exact dQ hz,λq hq=>?_⟩;obtain⟨e1,w2,g⟩:=w1.put (o:=.lst vs) hq;obtain⟨h1,h2⟩:=ki r1 e;exact p1 _ _ e1 w2 _ ⟨⟨q,vs,rfl,g,h1.same e1.same⟩,by assumption⟩
    ·trivial)⟩)
theorem W.HG(w:W G θ h H)(r:aV G θ H xs vs)(hp:H p=none) :
  Ev θ H (θ++[p]) (upd H p (.lst vs))/\W G (θ++[p]) (h++[.lst xs]) (upd H p (.lst vs))/\ck G (θ++[p]) (upd H p (.lst vs)) (.ref h.length) (.ref p):=by
 have e:Ev θ H _ (upd H p (.lst vs)):=⟨⟨[p],rfl⟩,λa u q=>by
  obtain⟨h1,h2⟩:=cQ q;have ne:=aJ h2 hp;rw[dN (by grind),aD ne]
  exact h2⟩
 obtain⟨e1,w1⟩:=w.alloc (m:=.lst xs) hp ⟨vs,aM,r.ev e⟩;exact⟨e1,w1,p,by simp_all[w.len],rfl⟩
theorem Ct(h:DA X E ma es):DE X E (Ax ma) (.List es pos):=by
 simp[bS,kX]at *
 exact PE.imp (lK h) (by rintro σ H Q ⟨θ,h,ρ,w,fr,p⟩;exact⟨θ,h,ρ,w,fr,(aL.bind p).mono (by
   rintro xs θ1 h1 H1 _ _ ⟨ev,w1,p1⟩ vs r1;unfold sS at p1;split at p1
   ·rename_i hz;have hl  := (U9 r1).symm;refine⟨by rw[hl];exact dQ hz,λq hq=>?_⟩;obtain⟨e1,w2,g⟩:=w1.HG r1 hq;exact p1 _ _ e1 w2 _ g
   ·trivial)⟩)
theorem HH{id:String}(hc:qx X E (.builtin id) f)(hg:Gl X x)(hm:X.mg x=none)(hv:bootBuiltins x=some (.builtin id)){p:Pos}(ha:DA X E ma (e::es))(hn:x ≠ "__name__" := by decide)(hdb:(x==("__debug__" : Str))=false:=by decide)
 (he:#[2]:=by rfl)(hpl:(backTo pos (starEach es X.env)).any (·.1)=false:=by rfl):DE X E (ag f ma) (.Call (.Name x p) (e::es) [] pos):=by
 simp only[bS,kX]at *;exact PE.imp (qb hc hg hm hv ha hn hdb he hpl) λ_ _ _=>Eb
theorem FP(hc:qx X E (.type T) f)(hg:Gl X x)(hm:X.mg x=none)(hv:bootBuiltins x=some (.type T)){p:Pos}(ha:DA X E ma (e::es))(hn:x ≠ "__name__" := by decide)(hdb:(x==("__debug__" : Str))=false:=by decide)
 (he:#[2]:=by rfl)(hpl:(backTo pos (starEach es X.env)).any (·.1)=false:=by rfl):DE X E (ag f ma) (.Call (.Name x p) (e::es) [] pos):=by
 simp only[bS,kX]at *;exact PE.imp (Ff hc hg hm hv ha hn hdb he hpl) λ_ _ _=>Eb
end
section
variable {X:Cx} {E:XK} {m:ME} {a b:MS} {t:MT} {e e1:Expr} {st:Stmt} {sts:List Stmt} {ss ss':List Stmt} {ma:MA} {pos:Pos} {i:Nat} {x:Str} {g:MG}
theorem bD:FN X E cg []:=by simp[lZ]at *;exact xD.imp Du (by rintro C σ H ⟨θ,h,ρ,w,fr,p⟩;exact p θ H Ev.refl w σ fr)
theorem aE(h:DS X E a st):FN X E a [st]:=by simp[kY,lZ]at *;exact p9 h
theorem av(h1:DS X E a st)(h2:FN X E b ss):FN X E (aZ a b) (st::ss):=by
 simp[kY,lZ]at *
 exact xD.imp (gH h1 h2) (by rintro C σ H ⟨θ,h,ρ,w,fr,p⟩;exact⟨θ,h,ρ,w,fr,(aL.bind p).mono (by
   rintro f θ1 h1 H1 _ _ ⟨ev,w1,p1⟩
   cases f with
   |nx ρ1=>exact λσ1 fr1=>⟨θ1,h1,ρ1,w1,fr1,p1⟩
   |rt d=>exact p1 θ1 H1 Ev.refl w1
   |bk ρ1=>exact p1 θ1 H1 Ev.refl w1
   |ct ρ1=>exact p1 θ1 H1 Ev.refl w1)⟩)
theorem nR(he:DE X E m e)(hs:swapsWith e none pos.line X.env=pure false:=by rfl):DS X E (oM m) (.Expr e pos):=by simp[bS,kY]at *;exact PS.imp (JN he hs) (by rintro C σ H ⟨θ,h,ρ,w,fr,p⟩;exact⟨θ,h,ρ,w,fr,(aL.bind p).mono (by rintro d θ1 h1 H1 _ _ ⟨ev,w1,p1⟩ v _;exact p1 θ1 H1 Ev.refl w1 σ (fr.ev ev))⟩)
theorem aP(he:DE X E m e):DS X E (bJ m) (.Return (some e) pos):=by simp[bS,kY]at *;exact PS.imp (uG he) (by rintro C σ H ⟨θ,h,ρ,w,fr,p⟩;exact⟨θ,h,ρ,w,fr,(aL.bind p).mono (by rintro d θ1 h1 H1 _ _ ⟨ev,w1,p1⟩ v r;exact p1 θ1 H1 Ev.refl w1 v r)⟩)
theorem dE(hc:DT X E t e)(ha:FN X E a ss)(hb:FN X E b ss'):DS X E (jM t a b) (.If e ss ss' pos):=by
 simp[lY,kY,lZ]at *
 exact PS.imp (L3 hc ha hb) (by rintro C σ H ⟨θ,h,ρ,w,fr,p⟩;exact⟨θ,h,ρ,w,fr,(aL.bind p).mono (by
   rintro c θ1 h1 H1 _ _ ⟨ev,w1,p1⟩
   cases c with
   |true=>exact⟨θ1,h1,ρ,w1,fr.ev ev,p1⟩
   |false=>exact⟨θ1,h1,ρ,w1,fr.ev ev,p1⟩)⟩)
theorem Ko(hN:X.N.Nodup)(hi:X.N[i]?=some x)(hx:Loc X.env.scope x)(hf:#[3]:=by first|exact .inl rfl|exact .inr rfl|assumption):DG X E (aC i) (.Name x pos):=by simp[oO]at *;exact by rintro pins s σ H v u Q I r ⟨θ,h,ρ,d,w,fr,rd,p⟩;exact JO hN hi hx hf pins s σ H v u Q I r (p θ H Ev.refl w _ (fr.set rd))
noncomputable def TM(G:Gx)(E:XK)(g:FG):M1:=λvs σ H Q=>∃θ h ρ ds,W G θ h H/\Fr G θ H ρ σ/\aV G θ H ds vs/\aL G (ua G E) θ H (g ds ρ h) (λρ' θ' _ H'=>∀σ',Fr G θ' H' ρ' σ'->Q σ' H')
@[irreducible] noncomputable def N8(X:Cx)(E:XK)(m:FG)(es:YG):Prop:=M3 X es (TM X.G E m)
theorem yZ(X:Cx)(E:XK)(m:FG)(es:YG):N8 X E m es=(M3 X es (TM X.G E m)):=by
 grind[N8]
theorem g9:N8 X E j6 []:=by
 simp[yZ]at *
 exact by
  rintro pins s σ H vs us Q I r ⟨θ,h,ρ,ds,w,fr,rd,p⟩
  cases rd with
  |nil=>exact JP pins s σ H [] us Q I r ⟨rfl,p θ H Ev.refl w σ fr⟩
  |cons=>trivial
theorem bX(h1:DG X E g e)(h2:N8 X E gs es)(hs:(assignEach (e::es) X.env).map (·.2)=assign e X.env::(assignEach es X.env).map (·.2):=by rfl):N8 X E (cD g gs) (e::es):=by
 simp[oO,yZ]at *
 exact by
   rintro pins s σ H vs us Q I r ⟨θ,h,ρ,ds,w,fr,rd,p⟩
   cases rd with
   |nil=>trivial
   |cons r1 rr=>exact GK h1 h2 hs pins s σ H _ us Q I r ⟨_,_,rfl,θ,h,ρ,_,w,fr,r1,(aL.bind p).mono (by rintro ρ1 θ1 h1 H1 _ _ ⟨ev,w1,p1⟩ σ1 fr1;exact⟨θ1,h1,ρ1,_,w1,fr1,aV.ev ev rr,p1⟩)⟩
theorem gA(r:ck G θ H (.dat (.tuple ds)) v):∃a xs,v=.ref a/\view θ H a=some (.tup xs)/\bf (view θ H) ds xs/\aV G θ H (ds.map D.dat) xs:=by obtain⟨⟨a,xs,e,ha,rr⟩,s⟩:=r;exact⟨a,xs,e,ha,rr,yY rr (by assumption)⟩
theorem gB(r:ck G θ H (.dat (.list ds)) v):∃a xs,v=.ref a/\view θ H a=some (.lst xs)/\bf (view θ H) ds xs/\aV G θ H (ds.map D.dat) xs:=by obtain⟨⟨a,xs,e,ha,rr⟩,s⟩:=r;exact⟨a,xs,e,ha,rr,yY rr (by assumption)⟩
@[irreducible] noncomputable def vf(gs:FG)(n:Nat):Prop:=∀xs ρ h,xs.length≠n->gs xs ρ h=.bad
theorem qy(gs:FG)(n:Nat):vf gs n=(∀xs ρ h,xs.length≠n->gs xs ρ h=.bad):=by
 grind[vf]
theorem eS:vf j6 0:=by
 simp[qy]at *
 exact λxs ρ h ne=>by
  cases xs with
  |nil=>grind
  |cons=>rfl
theorem bo{g:Nat}(t:vf gs n):vf (cD (aC g) gs) (n+1):=by
 simp[qy]at *
 exact λxs ρ h ne=>by
  cases xs with
  |nil=>rfl
  |cons x xs=>simp_all[cD,aC]
theorem pE{k n:Nat}(hc:X.calm=true)(h:N8 X E gs es)(tk:vf gs n)(hn:(assignEach es X.env).length=n:=by rfl)(hst:(assignEach es X.env).findIdx? (·.1)=none:=by rfl):DG X E (oC gs) (.Tuple es k pos):=by
 simp only[oO,yZ,qy]at *
 exact by
   rintro pins s σ H v u Q I r ⟨θ,hm,ρ,d,w,fr,rd,p⟩
   cases d with
   |dat d=>
    cases d with
    |tuple ds=>
     obtain⟨a,xs,e,ha,rr,rr2⟩:=gA rd
     have hl:xs.length=n:=by
      have h1:xs.length=ds.length:=rr.length;by_cases z:ds.length=n
      ·grind
      ·have p':=p;simp only[oC]at p';rw[tk (ds.map D.dat) ρ hm (by grind)]at p';exact p'.elim
     exact M5 (n:=n) hc h hn hst pins s σ H v u Q I r ⟨a,xs,e,gm.of (aF _ _ _ _ ha),hl,θ,hm,ρ,_,w,fr,rr2,p⟩
    |_=>trivial
   |_=>exact p.elim
theorem N9(hN:X.N.Nodup)(hi:X.N[i]?=some x)(hx:Loc X.env.scope x)(he:DE X E m e)(hs:swapsWith e (some (.Name x pos')) pos.line X.env=pure false:=by rfl)(hf:#[3]:=by first|exact .inl rfl|exact .inr rfl|assumption) :
  DS X E (cx i m) (.Assign [.Name x pos'] e pos):=by
 simp[bS,kY]at *;exact PS.imp (o8 hN hi hx he hs hf) (by rintro C σ H ⟨θ,h,ρ,w,fr,p⟩;exact⟨θ,h,ρ,w,fr,(aL.bind p).mono (by rintro d θ1 h1 H1 _ _ ⟨ev,w1,p1⟩ v r;exact p1 θ1 H1 Ev.refl w1 _ ((fr.ev ev).set r))⟩)
theorem kj(he:DE X E m e)(hg:DG X E g tg)(hs:swapsWithSole [tg] e pos.line X.env=pure false:=by rfl)(hw:swappedStores [tg] e X.env=pure none:=by rfl)
 (h1:(assignEach [tg] X.env).map (·.2)=[assign tg X.env]:=by rfl):DS X E (oE g m) (.Assign [tg] e pos):=by
 simp only[bS,kY,oO]at *;exact PS.imp (M7 he hg hs hw h1) (by rintro C σ H ⟨θ,h,ρ,w,fr,p⟩;exact⟨θ,h,ρ,w,fr,(aL.bind p).mono (by rintro d θ1 h1 H1 _ _ ⟨ev,w1,p1⟩ v r;exact⟨θ1,h1,ρ,d,w1,fr.ev ev,r,(aL.bind p1).mono (by rintro ρ1 θ2 h2 H2 _ _ ⟨ev2,w2,p2⟩ σ2 fr2;exact p2 θ2 H2 Ev.refl w2 σ2 fr2)⟩)⟩)
noncomputable def vg(G:Gx)(θ:YC)(H:Hp)(xs:List D)(J:It):Prop:=∀θ' h' H',Ev θ H θ' H'->W G θ' h' H' ->
 (∀(i:Nat) (d:D),xs[i]?=some d->J.go i H'/\∀x H2,J.yld i H' x H2->Ev θ' H' θ' H2/\W G θ' h' H2/\ck G θ' H2 d x)/\J.stop xs.length H'
noncomputable def lI(G:Gx)(E:XK)(m:MA):TI:=λσ H R=>∃θ h ρ,W G θ h H/\Fr G θ H ρ σ/\aL G (ua G E) θ H (m ρ h) (λxs θ' _ H'=>∀J,vg G θ' H' xs J->R J H')
@[irreducible] noncomputable def DI(X:Cx)(E:XK)(m:MA)(tg e:Expr):Prop:=PI X tg e (lI X.G E m)
theorem me(X:Cx)(E:XK)(m:MA)(tg e:Expr):DI X E m tg e=(PI X tg e (lI X.G E m)):=by
 grind[DI]
theorem PI.imp{t t':TI}(h:PI X tg e t)(k:∀σ H Q,t' σ H Q->t σ H Q):PI X tg e t':=λpins s σ H Q I q=>h pins s σ H Q I (k _ _ _ q)
theorem aV.get:∀{ds:List D} {vs:List V} {i:Nat} {d:D} {v:V},aV G θ H ds vs->ds[i]?=some d->vs[i]?=some v->ck G θ H d v
 |_,_,i,_,_,.nil,e,_=>by simp at e
 |_,_,0,_,_,.cons r _,e,e'=>by grind
 |_,_,i+1,d,v,.cons _ t,e,e'=>aV.get (i:=i) t (by simp_all) (by simp_all)
theorem aV.some(r:aV G θ H ds vs)(e:ds[i]?=some d):∃v,vs[i]?=some v/\ck G θ H d v:=by
 have hl  := U9 r;have hi:i<vs.length:=by rw[<- hl];exact(UM.mp e).1
 exact⟨vs[i],UN hi,r.get e (UN hi)⟩
theorem Oa{a:Addr}(ha:view θ H a=some (.tup xs))(r:aV G θ H ds xs):vg G θ H ds (Rm K a):=λθ' h' H' ev w=>by have ha':=aF _ _ _ _ (ev.same _ _ ha);have q:gm K H' a xs:=gm.of ha';refine⟨λi d e=>?_,⟨xs,q,by rw[<- U9 r];grind⟩⟩;obtain⟨v,ev',rv⟩:=r.some e;refine⟨⟨xs,v,q,ev'⟩,λx H2 ⟨e2,y⟩=>?_⟩;subst e2;have:=y xs q;rw[ev']at this;cases this;exact⟨Ev.refl,w,rv.ev ev⟩
theorem Ob{a:Addr}(ha:view θ H a=some (.lst xs))(r:aV G θ H ds xs):vg G θ H ds (R6 K a):=λθ' h' H' ev w=>by have ha':=aF _ _ _ _ (ev.same _ _ ha);have q:gY K H' a xs:=gY.of ha';refine⟨λi d e=>?_,⟨xs,q,by rw[<- U9 r];grind⟩⟩;obtain⟨v,ev',rv⟩:=r.some e;refine⟨⟨xs,v,q,ev'⟩,λx H2 ⟨e2,y⟩=>?_⟩;subst e2;have:=y xs q;rw[ev']at this;cases this;exact⟨Ev.refl,w,rv.ev ev⟩
theorem Oc(h:DE X E m e):DI X E (D1 m) tg e:=by
 simp[bS,me]at *
 exact PI.imp (GN h) (by rintro σ H R ⟨θ,h,ρ,w,fr,p⟩;exact⟨θ,h,ρ,w,fr,(aL.bind p).mono (by
   rintro d θ1 h1 H1 _ _ ⟨ev,w1,p1⟩ v r
   cases d with
   |dat d=>
    cases d with
    |tuple ds=>obtain⟨a,xs,e,ha,_,rr⟩:=gA r;exact⟨a,e,⟨xs,gm.of (aF _ _ _ _ ha)⟩,p1 θ1 H1 Ev.refl w1 _ (Oa ha rr)⟩
    |_=>trivial
   |_=>trivial)⟩)
theorem Od(h:DE X E m e):DI X E (Hw m) tg e:=by
 simp[bS,me]at *
 exact PI.imp (JQ h) (by rintro σ H R ⟨θ,h,ρ,w,fr,p⟩;exact⟨θ,h,ρ,w,fr,(aL.bind p).mono (by
   rintro d θ1 h1 H1 _ _ ⟨ev,w1,p1⟩ v r
   cases d with
   |dat d=>
    cases d with
    |list ds=>obtain⟨a,xs,e,ha,_,rr⟩:=gB r;exact⟨a,e,⟨xs,gY.of (aF _ _ _ _ ha)⟩,p1 θ1 H1 Ev.refl w1 _ (Ob ha rr)⟩
    |_=>trivial
   |_=>trivial)⟩)
theorem y6(s:PyData.strOk x=true):PyData.strOk ⟨#[x.cps.getD i 0]⟩=true:=by
 have q:=Array.all_eq_true.mp s;apply Array.all_eq_true.mpr;intro j hj;by_cases hi:i<x.cps.size
 ·simp_all
 simp_all
theorem Oe(h:DE X E m e):DI X E (Hx m) tg e:=by
 simp only[bS,me]at *
 exact PI.imp (NI h) (by rintro σ H R ⟨θ,h,ρ,w,fr,p⟩;exact⟨θ,h,ρ,w,fr,(aL.bind p).mono (by
   rintro d θ1 h1 H1 _ _ ⟨ev,w1,p1⟩ v r
   cases d with
   |dat d=>
    cases d with
    |str s=>obtain⟨r1,r2⟩:=r;refine⟨s,r1,p1 θ1 H1 Ev.refl w1 _ λθ' h' H' ev w=>⟨λi d e=>?_,by show(signs s).length=_;simp[signs]⟩⟩;simp only[signs,VD,Vt]at e;obtain⟨j,e1,e2⟩:=e;obtain⟨hj,e3⟩:=UM.mp e1;simp at hj e3;subst e3;subst e2;refine⟨hj,λx H2 ⟨z1,z2⟩=>?_⟩;subst z1;subst z2;exact⟨Ev.refl,w,rfl,by simp only[fz];exact y6 (by simpa [fz]using r2)⟩
    |_=>exact p1.elim
   |_=>exact p1.elim)⟩)
theorem Kp:vg G θ H (nums lo n) (Ro lo n):=λθ' h' H' ev w=>by refine⟨λi d e=>?_,by show n<=(nums lo n).length;simp[nums]⟩;simp[nums]at e;obtain⟨j,e1,e2⟩:=e;obtain⟨hj,e3⟩:=UM.mp e1;simp at hj e3;subst e3;subst e2;refine⟨hj,λx H2 ⟨z1,z2⟩=>?_⟩;subst z1;subst z2;exact⟨Ev.refl,w,rfl,by rfl⟩
theorem cn(r:ck G θ H (.int j) v):v=.int j:=r.1
theorem y7{tg a:Expr}(hg:Gl X "range")(hm:X.mg "range" = none)(ha:DA X E ma [a])(hs:starEach [a] X.env=[(false,eval a X.env)]:=by rfl):DI X E (oN ma) tg (.Call (.Name "range" p') [a] [] pos'):=by
 simp[kX,me]at *
 exact PI.imp (E8 hg hm ha hs) (by rintro σ H R ⟨θ,h,ρ,w,fr,p⟩;exact⟨θ,h,ρ,w,fr,(aL.bind p).mono λds θ1 h1 H1 _ _ ⟨ev,w1,p1⟩ vs r=>by
   split at p1
   ·split at p1
    ·rename_i j _ hj
     cases r with
     |cons r1 rr=>cases rr;cases cn r1;exact⟨j,rfl,hj.1,hj.2,p1 θ1 H1 Ev.refl w1 _ Kp⟩
    ·trivial
   ·trivial⟩)
theorem AE:∀(xs ys:YB),(yS xs ys).length=min xs.length ys.length
 | [],_=>by rfl
 |_::_,[]=>by rfl
 |x::xs,y::ys=>by simp[yS,AE xs ys]
theorem AF:∀(xs ys:YB) (i:Nat) (d:D),(yS xs ys)[i]?=some d->∃x y,xs[i]?=some x/\ys[i]?=some y/\d=.dat (.tuple [x,y])
 | [],_,i,d,e=>by trivial
 |_::_,[],i,d,e=>by trivial
 |x::xs,y::ys,0,d,e=>by grind[yS]
 |x::xs,y::ys,i+1,d,e=>by simpa using AF xs ys i d (by assumption)
theorem qz:∀{ds:YB} {i:Nat} {d:PyData},cN ds=true->ds[i]?=some d->fz d=true
 | [],i,d,_,e=>by simp at e
 |x::xs,0,d,s,e=>by grind[cN]
 |x::xs,i+1,d,s,e=>by simp[cN]at s;exact qz (i:=i) s.2 (by simp_all)
theorem HI{kk:Nat}{es:YG}{tpos:Pos}{p' pos':Pos}(hg:Gl X "zip")(hm:X.mg "zip" = none)(ha:DA X E ma [e1,e2])(hs:starEach [e1,e2] X.env=[(false,eval e1 X.env),(false,eval e2 X.env)]:=by rfl)(hs2:starEach [e2] X.env=[(false,eval e2 X.env)]:=by rfl) :
  DI X E (uZ ma) (.Tuple es kk tpos) (.Call (.Name "zip" p') [e1,e2] [] pos'):=by
 simp only[kX,me]at *
 exact PI.imp (NF hg hm ha hs hs2) (by rintro σ H R ⟨θ,h,ρ,w,fr,p⟩;exact⟨θ,h,ρ,w,fr,(aL.bind p).mono λds θ1 h1 H1 _ _ ⟨ev,w1,p1⟩ vs r=>by
   split at p1
   ·rename_i xs ys _
    cases r with
    |cons r1 rr=>
     cases rr with
     |cons r2 rr=>
      cases rr;have s1:cN xs=true:=by simpa [fz]using r1.2
      have s2:cN ys=true:=by simpa [fz]using r2.2
      obtain⟨a1,us,rfl,ha1,q1,_⟩:=gA r1;obtain⟨a2,ws,rfl,ha2,q2,_⟩:=gA r2;refine⟨a1,a2,us,ws,rfl,gm.of (aF _ _ _ _ ha1),gm.of (aF _ _ _ _ ha2),p1 θ1 H1 Ev.refl w1 _ λθ' h' H' ev' w'=>?_⟩;have k1:gm X.K H' a1 us:=gm.of (aF _ _ _ _ (ev'.same _ _ ha1));have k2:gm X.K H' a2 ws:=gm.of (aF _ _ _ _ (ev'.same _ _ ha2));have l1:=q1.length;have l2:=q2.length;refine⟨λi d e=>?_,⟨us,ws,k1,k2,by rw[AE,l1,l2];omega⟩⟩;obtain⟨x,y,ex,ey,rfl⟩:=AF _ _ _ _ e;obtain⟨u,eu,ru⟩:=bf.get' q1 ex;obtain⟨z,ez,rz⟩:=bf.get' q2 ey;refine⟨⟨us,ws,u,z,k1,k2,eu,ez⟩,λv H2 ⟨pp,x',y',e1,hp,e2,c1,c2⟩=>?_⟩;have:=c1 us k1;rw[eu]at this;cases this;have:=c2 ws k2;rw[ez]at this;cases this;subst e1;subst e2;obtain⟨e3,w3,g3⟩:=w'.put (o:=.tup [u,z]) hp;exact⟨e3,w3,⟨pp,[u,z],rfl,g3,.cons (ru.same (ev'.same.trans e3.same)) (.one (rz.same (ev'.same.trans e3.same)))⟩,by simp[fz,cN,qz s1 ex,qz s2 ey]⟩
   ·exact p1.elim⟩)
noncomputable abbrev uo:XK:=λ_ _ _=>False
theorem aL.nU{f:α->Hm->R β}(p:aL G F θ H (r.Ht.bind f) L) :
  aL G F' θ H r λa θ1 h1 H1=>Ev θ H θ1 H1/\W G θ1 h1 H1/\aL G F θ1 H1 (f a h1) L:=by
 cases r with
 |ok a h'=>exact λθ1 H1 e w=>⟨e,w,aL.later p e⟩
 |exc x h'=>trivial
 |bad=>trivial
theorem PS.JA{t:TS}(h:PS X.JA st t):PS X st t:=λpins s σ H D I hw=>
 VU (h pins s σ H D (I.p8 _) hw) (λ_ _ q=>q.ip) λ_ _ z=>False.elim z
end
end Ml
namespace L2
open PySem PySem.Spec PyProof.Rows
theorem GB.Ut{K:YE}{st:Stmt}(F:GB K x qual st f fd)(S:aO N ps (au st))(len:∀vs H Q E,sp vs H Q E->vs.length=ps.length)
 (hbody:∀(cdv:Value) (A:YN) (outer:List Env) (s:YO) (H:Hp) (vs:List V) (Q:VK) (E:XK),bO k (A.deeper (envOfC qual (au st) #[10] f cdv))->sp vs H Q E ->
   ∃t,xD (fe (iZ P w) P w K mg base N qual (au st) f cdv A outer s H E) (cb st) t/\t {nx:=λ_ H'=>Q .non H',rt:=Q} (start N vs) H):oD P w K mg base (iZ P w) (k+1) f fd ps sp:=by
 obtain⟨oc,od,kV,doc,pm,an,cdv,ct,osl,rfl,lk,hcd⟩:=F.ex;exact L7 lk hcd S len λA outer s H vs Q E hr hsp=>hbody cdv A outer s H vs Q E hr hsp
structure HJ(P:YL)(w:World)(K:YE)(mg:YA)(base:Heap)(x:Str)(ps:YF)(k:Nat)(sp:Sp):Prop where
 ex:∃(f:Addr) (fd:FuncData),mg x=some (.ref f)/\PySem.W.keepIn K (.ref f)=true/\Binds K fd ps []/\oD P w K mg base (iZ P w) k f fd ps sp
section
variable {X:Cx} {x:Str} {ps:YF} {k:Nat} {sp:Sp} {e:Expr} {es:YG} {t:TA} {p pos:Pos}
theorem Of(F:HJ X.prog X.w X.K X.mg X.base x ps k sp)(hx:Passes (iZ X.prog X.w) X E)(hr:bO k X.A)(hg:Gl X x)(ha:PA X (e::es) t)(hdb:(x==("__debug__" : Str))=false:=by decide)(he:#[2]:=by rfl)
 (hpl:(backTo pos (starEach es X.env)).any (·.1)=false:=by rfl):PE X (.Call (.Name x p) (e::es) [] pos) (Dz sp [] E t):=by
 obtain⟨f,fd,h1,h2,h3,h4⟩:=F.ex;exact JV h4 hr hg h1 h2 h3 .nil hx ha hdb he hpl
end
end L2
namespace Ml
open PySem PySem.Spec L2
section
variable {X:Cx} {E:XK} {m:ME} {a b:MS} {t:MT} {e e1 tg:Expr} {st:Stmt} {ss ss':List Stmt} {ma it:MA} {pos:Pos} {i:Nat} {x:Str} {g:MG}
theorem HK(hJ:vg G θ1 H1 xs J)(w1:W G θ1 h1 H1)(fr:Fr G θ1 H1 ρ σ)(p1:aL G F θ1 H1 (fk g b xs ρ h1) (KS G C)) :
  ∃W':Nat->Nat->St->Hp->Prop,(∃m,W' 0 m σ H1)/\∀i m σ H,W' i m σ H ->
   (J.stop i H/\C.nx σ H)\/(J.go i H/\∃N:St->Hp->Prop,(∀σ' H',N σ' H'->∃m',m'<m/\W' (i+1) m' σ' H')/\∀x H',J.yld i H x H'->lG G uo g x σ H' λσ2 H2=>lS G uo b {C with nx:=N,ct:=N,bk:=C.nx} σ2 H2):=by
 refine⟨λi m σ H=>m=xs.length-i/\i<=xs.length/\∃θ' h' ρ',Ev θ1 H1 θ' H/\W G θ' h' H/\Fr G θ' H ρ' σ/\aL G F θ' H (fk g b (xs.drop i) ρ' h') (KS G C),⟨xs.length,by simp,WD _,θ1,h1,ρ,Ev.refl,w1,fr,p1⟩,?_⟩;rintro i m σ H ⟨rfl,hi,θ',h',ρ',ev,w,fr',p⟩;obtain⟨j1,j2⟩:=hJ θ' h' H ev w;by_cases hlt:i<xs.length
 ·have ed:xs.drop i=xs[i]::xs.drop (i+1):=VE hlt;rw[ed]at p;obtain⟨g1,g2⟩:=j1 i xs[i] (UN hlt);refine .inr ⟨g1,λσ2 H2=>i+1<=xs.length/\∃θ' h' ρ',Ev θ1 H1 θ' H2/\W G θ' h' H2/\Fr G θ' H2 ρ' σ2/\aL G F θ' H2 (fk g b (xs.drop (i+1)) ρ' h') (KS G C),λσ' H' q=>⟨xs.length-(i+1),by omega,rfl,q⟩,λx H2 y=>?_⟩;obtain⟨e2,w2,r2⟩:=g2 x H2 y;refine⟨θ',h',ρ',xs[i],w2,fr'.ev e2,r2,(aL.nU (p.later e2)).mono λρ3 θ3 h3 H3 _ _ ⟨e3,w3,p3⟩ σ3 fr3=>⟨θ3,h3,ρ3,w3,fr3,(aL.nU p3).mono λf θ4 h4 H4 _ _ ⟨e4,w4,p4⟩=>?_⟩⟩;have ev4:=(ev.trans e2).trans (e3.trans e4)
  cases f with
  |nx ρ5=>exact λσ5 fr5=>⟨hlt,θ4,h4,ρ5,ev4,w4,fr5,p4⟩
  |ct ρ5=>exact λσ5 fr5=>⟨hlt,θ4,h4,ρ5,ev4,w4,fr5,p4⟩
  |bk ρ5=>exact p4 θ4 H4 Ev.refl w4
  |rt d=>exact p4 θ4 H4 Ev.refl w4
 ·have hx:i=xs.length:=by omega
  subst hx;rw[WO (UJ _)]at p;exact .inl ⟨j2,p θ' H Ev.refl w σ fr'⟩
theorem pF(hc:X.calm=true)(hi:DI X.JA uo it tg e)(hg:DG X.JA uo g tg)(hb:FN X.JA uo b body)(hs:∀x,foldedSetIterable e X.env x=pure x:=by intro _;rfl):DS X E (t8 it g b) (.For tg e body [] pos):=by simp[kY,lZ,oO,me]at *;exact PS.JA (PS.imp (M9 PassesOwn.never hc hi hg hb hs) (by rintro C σ H ⟨θ,h,ρ,w,fr,p⟩;exact⟨θ,h,ρ,w,fr,(aL.nU p).mono (by rintro xs θ1 h1 H1 _ _ ⟨ev,w1,p1⟩ J hJ;exact HK hJ w1 (fr.ev ev) p1)⟩))
theorem gC:∀{xs ys:List α} {us ws:List β},Paired G xs us->Paired G ys ws->Paired G (xs++ys) (us++ws)
 |_,_,_,_,.nil,s=>s
 |_,_,_,_,.cons r t,s=>.cons r (gC t s)
theorem FQ(hJ:vg G θ1 H1 xs J)(w1:W G θ1 h1 H1)(fr:Fr G θ1 H1 ρ σ)(p1:aL G F θ1 H1 ((ee n ρ g t m xs h1).bind mk) (KV G Q))
 (hmk:∀ys vs θ h H,ys.length<=xs.length->W G θ h H->aV G θ H ys vs->aL G F θ H (mk ys h) (KV G Q)->∀p,H p=none->Q (.ref p) (upd H p (.lst vs)))(hz:xs.length<=sizeLine) :
  G1 n J (lG G uo g) (lT G uo t) (lE G uo m) σ H1 Q:=by
 refine⟨λi m' ys H=>m'=xs.length-i/\i<=xs.length/\∃θ' h' acc,acc.length<=i/\Ev θ1 H1 θ' H/\W G θ' h' H/\aV G θ' H acc ys/\aL G F θ' H ((ee n ρ g t m (xs.drop i) h').bind λzs h2=>mk (acc++zs) h2) (KV G Q),
  ⟨xs.length,by simp,WD _,θ1,h1,[],UJ _,Ev.refl,w1,.nil,p1⟩,?_⟩
 rintro i m' ys H ⟨rfl,hi,θ',h',acc,hacc,ev,w,ra,p⟩;obtain⟨j1,j2⟩:=hJ θ' h' H ev w;have hly:ys.length<=sizeLine:=by rw[<- show acc.length=ys.length from U9 ra];omega
 by_cases hlt:i<xs.length
 ·have ed:xs.drop i=xs[i]::xs.drop (i+1):=VE hlt;rw[ed]at p;obtain⟨g1,g2⟩:=j1 i xs[i] (UN hlt);refine .inr ⟨g1,hly,λys2 H2=>i+1<=xs.length/\∃θ' h' acc,acc.length<=i+1/\Ev θ1 H1 θ' H2/\W G θ' h' H2/\aV G θ' H2 acc ys2/\aL G F θ' H2 ((ee n ρ g t m (xs.drop (i+1)) h').bind λzs h2=>mk (acc++zs) h2) (KV G Q),λys' H' q=>⟨xs.length-(i+1),by omega,rfl,q⟩,λx H2 y=>?_⟩;obtain⟨e2,w2,r2⟩:=g2 x H2 y;have p2:=p.later e2;unfold ee at p2;simp only[R.bind_assoc]at p2;refine⟨θ',h',_,xs[i],w2,((fr.ev ev).ev e2).replicate n,r2,(aL.nU p2).mono λρ3 θ3 h3 H3 _ _ ⟨e3,w3,p3⟩ σ3 fr3=>⟨θ3,h3,ρ3,w3,fr3,(aL.nU p3).mono λc θ4 h4 H4 _ _ ⟨e4,w4,p4⟩=>?_⟩⟩;have ev4:=(ev.trans e2).trans (e3.trans e4);have ra4:=aV.ev (e2.trans (e3.trans e4)) ra
  cases c with
  |false=>exact⟨hlt,θ4,h4,acc,by omega,ev4,w4,ra4,p4⟩
  |true=>
   simp only[VT,R.bind_assoc]at p4;refine⟨θ4,h4,ρ3,w4,fr3.ev e4,(aL.nU p4).mono λy θ5 h5 H5 _ _ ⟨e5,w5,p5⟩ v5 r5=>⟨hlt,θ5,h5,acc++[y],by simp;omega,ev4.trans e5,w5,?_,?_⟩⟩
   ·exact gC (aV.ev e5 ra4) (.cons r5 .nil)
   ·simp only[R.bind_assoc,R.bA]at p5;simpa using p5
 ·have hx:i=xs.length:=by omega
  subst hx;rw[WO (UJ _)]at p;simp only[ee,R.bA,WS]at p;exact .inl ⟨j2,hly,hmk acc ys θ' h' H hacc w ra p⟩
variable {own:YF} {scope:Scope} {elt:Expr} {ifs:YG}
@[irreducible] noncomputable def Og(X:Cx)(E:XK)(t:MT)(es:YG):Prop:=NC X es (lT X.G E t)
theorem vh(X:Cx)(E:XK)(t:MT)(es:YG):Og X E t es=(NC X es (lT X.G E t)):=by
 grind[Og]
theorem eA:Og X E cG []:=by simp[vh]at *;exact by rintro pins s σ H Q I ⟨θ,h,ρ,w,fr,p⟩;exact J2 pins s σ H Q I (p θ H Ev.refl w)
theorem gD(h:DT X E t e):Og X E t [e]:=by simp[lY,vh]at *;exact J3 h
theorem Ed{mk:List D->Hm->R D}(h:lE G E (ag mk (iz n it g t m)) σ H Q)
 (hmk:∀ys vs θ h H,ys.length<=sizeLine->W G θ h H->aV G θ H ys vs->aL G (ua G E) θ H (mk ys h) (KV G Q)->∀p,H p=none->Q (.ref p) (upd H p (.lst vs))) :
  DK n (lI G E it) (lG G uo g) (lT G uo t) (lE G uo m) σ H Q:=by
 obtain⟨θ,h,ρ,w,fr,p⟩:=h;simp[ag,iz,R.bind_assoc]at p;refine⟨θ,h,ρ,w,fr,(aL.bind p).mono λxs θ1 h1 H1 _ _ ⟨ev,w1,p1⟩ J hJ=>?_⟩;split at p1
 ·rename_i hz;exact FQ hJ w1 (fr.ev ev) p1 (λys vs θ h H hl=>hmk ys vs θ h H (UP hl (dQ hz))) (dQ hz)
 ·trivial
theorem vi(ys:List D)(vs:List V)(θ:YC)(h:Hm)(H:Hp)(w1:W G θ h H)(r1:aV G θ H ys vs)(p1:aL G F θ H (iy ys h) (KV G Q))(q:Addr)(hq:H q=none):Q (.ref q) (upd H q (.lst vs)):=by
 unfold iy at p1
 cases e:gV ys with
 |none=>rw[e]at p1;exact p1.elim
 |some ds=>
  rw[e]at p1;simp only at p1;split at p1
  ·obtain⟨e1,w2,g⟩:=w1.put hq;obtain⟨h1,h2⟩:=ki r1 e;exact p1 _ _ e1 w2 _ ⟨⟨q,vs,rfl,g,h1.same e1.same⟩,by assumption⟩
  ·trivial
theorem Cu(ys:List D)(vs:List V)(θ:YC)(h:Hm)(H:Hp)(w1:W G θ h H)(r1:aV G θ H ys vs)(p1:aL G F θ H (sS ys h) (KV G Q))(q:Addr)(hq:H q=none):Q (.ref q) (upd H q (.lst vs)):=by
 unfold sS at p1;split at p1
 ·obtain⟨e1,w2,g⟩:=w1.HG r1 hq;exact p1 _ _ e1 w2 _ g
 ·trivial
theorem cf(own:YF)(CS:iq X.env.scope X.N own scope=true)(hc:X.calm=true)(hi:DI X E it tg e)(hg:∀C s2 H2 fp pins,DG #[13] uo g tg)
 (ht:∀C s2 H2 fp pins,Og #[13] uo t ifs)(he:∀C s2 H2 fp pins,DE #[13] uo m elt)(hs:∀x,foldedSetIterable e X.env x=pure x:=by intro _;rfl) :
  DE X E (bE own.length it g t m) (.ListComp elt [⟨tg,e,ifs,0⟩] scope pos):=by
 simp[bS,oO,me,vh]at *;exact PE.imp (J4 own CS hc hi hg ht he hs) λσ H Q q=>Ed q λys vs θ h H _=>vi ys vs θ h H
theorem Ee{mk:List D->Hm->R D}(h:lS G E (cx i (ag mk (iz n it g t m))) C σ H)
 (hmk:∀Q ys vs θ h H,ys.length<=sizeLine->W G θ h H->aV G θ H ys vs->aL G (ua G E) θ H (mk ys h) (KV G Q)->∀p,H p=none->Q (.ref p) (upd H p (.lst vs))) :
  B0 (DK n (lI G E it) (lG G uo g) (lT G uo t) (lE G uo m)) (L2.aC i) C σ H:=by
 obtain⟨θ,h,ρ,w,fr,p⟩:=h;refine Ed ⟨θ,h,ρ,w,fr,(aL.bind p).mono (by rintro d θ1 h1 H1 _ _ ⟨ev,w1,p1⟩ v r;exact p1 θ1 H1 Ev.refl w1 _ ((fr.ev ev).set r))⟩ (hmk _)
theorem Kq(own:YF){pos' spos:Pos}(hN:X.N.Nodup)(hxi:X.N[i]?=some x)(hx:X.env.scope.names.lookup x=some .local)(CS:iq X.env.scope X.N own scope=true)(hc:X.calm=true)(hi:DI X E it tg e)(hg:∀C s2 H2 fp pins,DG #[13] uo g tg)
 (ht:∀C s2 H2 fp pins,Og #[13] uo t ifs)(he:∀C s2 H2 fp pins,DE #[13] uo m elt)(hs:∀x,foldedSetIterable e X.env x=pure x:=by intro _;rfl)
 (hsw:swapsWith (.ListComp elt [⟨tg,e,ifs,0⟩] scope pos) (some (.Name x pos')) spos.line X.env=pure true:=by rfl):DS X E (cx i (bE own.length it g t m)) (.Assign [.Name x pos'] (.ListComp elt [⟨tg,e,ifs,0⟩] scope pos) spos):=by
 simp[bS,kY,oO,me,vh]at *;exact PS.imp (DL own hN hxi hx CS hc hi hg ht he hs hsw) λC σ H q=>Ee q λQ ys vs θ h H _=>vi ys vs θ h H
theorem HL(own:YF){pos' spos:Pos}(hN:X.N.Nodup)(hxi:X.N[i]?=some x)(hx:X.env.scope.names.lookup x=some .local)(CS:iq X.env.scope X.N own scope=true)(hc:X.calm=true)(hi:DI X E it tg e)(hg:∀C s2 H2 fp pins,DG #[13] uo g tg)
 (ht:∀C s2 H2 fp pins,Og #[13] uo t ifs)(he:∀C s2 H2 fp pins,DE #[13] uo m elt)(hs:∀x,foldedSetIterable e X.env x=pure x:=by intro _;rfl)
 (hsw:swapsWith (.ListComp elt [⟨tg,e,ifs,0⟩] scope pos) (some (.Name x pos')) spos.line X.env=pure true:=by rfl):DS X E (cx i (yT own.length it g t m)) (.Assign [.Name x pos'] (.ListComp elt [⟨tg,e,ifs,0⟩] scope pos) spos):=by
 simp[bS,kY,oO,me,vh]at *;exact PS.imp (DL own hN hxi hx CS hc hi hg ht he hs hsw) λC σ H q=>Ee q λQ ys vs θ h H _=>Cu ys vs θ h H
end
noncomputable def Kr(G:Gx)(F:Fn):Sp:=λvs H Q E=>∃θ h ds,W G θ h H/\aV G θ H ds vs/\aL G (ua G E) θ H (F ds h) (KV G Q)
noncomputable def HM(F:Fn)(n:Nat):Prop:=∀ds h,ds.length≠n->F ds h=.bad
theorem Ef(ar:HM F n):∀vs H Q E,Kr G F vs H Q E->vs.length=n:=by
 rintro vs H Q E ⟨θ,h,ds,w,r,p⟩;by_cases e:ds.length=n
 ·rw[<- e];exact(U9 r).symm
 ·rw[ar ds h e]at p;exact p.elim
theorem nV:HM (bx p n b) p:=λds h e=>by simp[bx,e]
structure bu(P:YL)(w:World)(K:YE)(mg:YA)(base:Heap)(x:Str)(ps:YF)(k:Nat)(F:Fn):Prop where
 has:HJ P w K mg base x ps k (Kr ⟨P,w,mg,K⟩ F)
 ar:HM F ps.length
section
variable {P:YL} {w:World} {K:YE} {mg:YA} {base:Heap} {x qual:Str} {st:Stmt} {f:Addr} {fd:FuncData} {N ps:YF} {k:Nat} {b:MS} {F:Fn}
theorem Fr.start{n:Nat}(r:aV G θ H ds vs)(hl:ds.length=ps.length):Fr G θ H (ds.map some++List.replicate (N.length-ps.length) none) (start N vs):=by
 have hv:ds.length=vs.length:=U9 r;unfold L2.start;rw[<- hv,hl];refine⟨by simp_all,λi d e=>?_⟩;by_cases hi:i<ds.length
 ·rw[U3 (by simp_all)]at e;rw[U3 (by simp_all)];simp only[VD]at e ⊢
  cases e1:ds[i]? with
  |none=>grind
  |some d'=>rw[e1]at e;simp at e;subst e;obtain⟨v,e2,rv⟩:=r.some e1;exact⟨v,by simp_all,rv⟩
 ·rw[Vh (by simpa using hi),WB]at e;split at e<;>cases e
theorem TN(Fu:GB K x qual st f fd)(S:aO N ps (au st))(hbody:∀(cdv:Value) (A:YN) (outer:List Env) (s:YO) (H:Hp) (E:XK),bO k (A.deeper (PyProof.Rows.envOfC qual (au st) #[10] f cdv)) ->
   FN (fe (iZ P w) P w K mg base N qual (au st) f cdv A outer s H E) E b (cb st)):oD P w K mg base (iZ P w) (k+1) f fd ps (Kr ⟨P,w,mg,K⟩ (bx ps.length N.length b)):=by
 simp[lZ]at *;refine Fu.Ut S (Ef nV) λcdv A outer s H vs Q E hr ⟨θ,h,ds,w,r,p⟩=>⟨_,hbody cdv A outer s H E hr,?_⟩;unfold bx at p;split at p
 ·rename_i hl;refine⟨θ,h,_,w,Fr.start (n:=0) r hl,(aL.bind p).mono λfl θ1 h1 H1 _ _ ⟨ev,w1,p1⟩=>?_⟩
  cases fl with
  |nx ρ=>exact λσ fr=>p1 θ1 H1 Ev.refl w1 _ ⟨rfl,by rfl⟩
  |rt d=>exact p1 θ1 H1 Ev.refl w1
  |bk ρ=>trivial
  |ct ρ=>trivial
 ·trivial
theorem bu.eq(h:bu P w K mg base x ps k F)(e:F=F'):bu P w K mg base x ps k F':=e▸h
end
section
variable {X:Cx} {E:XK} {x:Str} {ps:YF} {k:Nat} {F:Fn} {e:Expr} {es:YG} {ma:MA} {p pos:Pos}
theorem cL:Passes (iZ X.prog X.w) X uo:=by rintro _ _ _ _ _ _ _ ⟨_,_,_,_,_,_,_,_,_,_,_,_,_,h⟩;exact h.elim
theorem Qs(F':bu X.prog X.w X.K X.mg X.base x ps k F)(hx:Passes (iZ X.prog X.w) X E)(hr:bO k X.A)(hg:Gl X x)(ha:DA X E ma (e::es))(hdb:(x==("__debug__" : Str))=false:=by decide)(he:#[2]:=by rfl)
 (hpl:(backTo pos (starEach es X.env)).any (·.1)=false:=by rfl):DE X E (ag F ma) (.Call (.Name x p) (e::es) [] pos):=by
 simp only[bS,kX]at *;exact PE.imp (Of F'.has hx hr hg ha hdb he hpl) (by rintro σ H Q ⟨θ,h,ρ,w,fr,p⟩;exact⟨θ,h,ρ,w,fr,(aL.bind p).mono (by rintro xs θ1 h1 H1 _ _ ⟨ev,w1,p1⟩ vs r;exact⟨θ1,h1,xs,w1,by grind,p1⟩)⟩)
end
theorem FR(hx:(match x with|.int _|.str _|.bool _|.none=>true|_=>false)=true)(r:RelV (Qp x) u):Reads h u x []:=by
 cases x with
 |none=>cases r;exact .none
 |bool b=>cases r;exact .bool b
 |int i=>obtain⟨t,rfl⟩:=r;exact .int i t
 |str s=>obtain⟨t,rfl⟩:=r;exact .str s t
 |_=>cases hx
theorem kn:∀{xs:YB} {us:YD},(∀x∈xs,(match x with|.int _|.str _|.bool _|.none=>true|_=>false)=true)->Vals (xs.map Qp) us->ReadsAll h us xs []
 | [],us,_,r=>by cases r;exact .nil
 |x::xs,us,hx,r=>by
  cases r with
  |cons r1 r2=>exact .cons (FR (hx x #[6]) r1) (kn (λy m=>hx y (by simp[m])) r2)
section
variable {X:Cx} {pins:Yx} {σ:L2.St} {H:Hp} {s:YO} {θ:YC} {hm:Hm}
theorem fS(I:#[11])(w:W X.G θ hm H):∀(n:Nat) {x:D} {v:V} {u:Value} {d:PyData},ck X.G θ H x v->RelV v u->zY hm n x=some d->(∃as,Reads s.heap u d as)/\fz d=true:=by
 intro n
 induction n with
 |zero=>
  intro x v u d r rv e
  cases x with
  |dat d'=>simp only[zY]at e;cases e;exact⟨Rep.reads I (r.1.same (aF _ _)) rv,r.2⟩
  |ktup xs=>simp only[zY]at e;cases e;obtain⟨a,rfl,⟨o,its,k,hl,hc,hd,_,vs⟩,hx,hs⟩:=r;cases rv;exact⟨⟨_,.tuple (I.sP _ _ hl) hc hd (kn hx vs)⟩,by assumption⟩
  |_=>simp[zY]at e
 |succ n ih=>
  intro x v u d r rv e
  cases x with
  |dat d'=>simp only[zY]at e;cases e;exact⟨Rep.reads I (r.1.same (aF _ _)) rv,r.2⟩
  |ktup xs=>simp only[zY]at e;cases e;obtain⟨a,rfl,⟨o,its,k,hl,hc,hd,_,vs⟩,hx,hs⟩:=r;cases rv;exact⟨⟨_,.tuple (I.sP _ _ hl) hc hd (kn hx vs)⟩,by simpa [fz]using hs⟩
  |ref i=>
   simp only[zY]at e;obtain⟨a,ha,rfl⟩:=r;cases rv
   cases e1:hm[i]? with
   |none=>rw[e1]at e;cases e
   |some o=>
    rw[e1]at e
    cases o with
    |lst xs=>
     simp only at e;obtain⟨vs,hv,rs⟩:=w.obj i a _ ha e1;obtain⟨_,its,k,rvs,ho⟩:=I.hok a _ hv
     have all:∀{xs:List D} {vs:List V} {us:YD} {ds:YB},aV X.G θ H xs vs->Vals vs us->lx (zY hm n) xs=some ds->(∃as,ReadsAll s.heap us ds as)/\cN ds=true:=by
      intro xs
      induction xs with
      |nil=>intro vs us ds r1 r2 e;cases r1;cases r2;cases e;exact⟨⟨_,.nil⟩,by simp[cN]⟩
      |cons x xs ihx=>
       intro vs us ds r1 r2 e
       cases r1 with
       |cons p1 p2=>
        cases r2 with
        |cons q1 q2=>
         unfold lx at e
         cases e2:zY hm n x with
         |none=>rw[e2]at e;cases e
         |some d=>
          cases e3:lx (zY hm n) xs with
          |none=>rw[e2,e3]at e;cases e
          |some ds'=>rw[e2,e3]at e;cases e;obtain⟨⟨as,z1⟩,s1⟩:=ih p1 q1 e2;obtain⟨⟨bs,z2⟩,s2⟩:=ihx p2 q2 e3;exact⟨⟨_,.cons z1 z2⟩,by simp[cN,s1,s2]⟩
     cases e2:lx (zY hm n) xs with
     |none=>rw[e2]at e;cases e
     |some ds=>rw[e2]at e;cases e;obtain⟨⟨as,z⟩,s1⟩:=all rs rvs e2;exact⟨⟨_,.list ho rfl rfl (by simpa using z)⟩,by simpa [fz]using s1⟩
    |_=>cases e
  |_=>simp[zY]at e
end
end Ml
namespace PySem.SeqAt
open PySem PySem.MeetsSeq PySem.AutoSeq1
theorem vj(t:Addr)(its:YJ)(m:Nat)(d2:Option Addr)(sl2:YH)(l:Addr)(es:YI)(n:Nat)(dd:Option Addr)(sl:YH) :
  Meets (Builtin.«tuple.__eq__» ⟨[.ref t,.ref l],[]⟩) (λ_ R s=>s.heap.get? t=some {cls:=.type "tuple",dict:=d2,data:=.seq its m,slots:=sl2}/\s.heap.get? l=some {cls:=.type "dict",dict:=dd,data:=.dict es n,slots:=sl}/\R (.ok (.ret .notImplemented)) s):=
 .of_wp λprog w A R s h=>by
  obtain⟨hp,g,d,tk,os⟩:=s;obtain⟨ht,hl,h⟩:=h;have f1:=F.sub_dict_tuple
  wp_walk using wpAny_loadPart' hl,Xo hl,wpAny_loadPart' ht,Xo ht
  grind
theorem vk(t:Addr)(its:YJ)(m:Nat)(d2:Option Addr)(sl2:YH)(l:Addr)(es:YI)(n:Nat)(dd:Option Addr)(sl:YH) :
  Meets (Builtin.«dict.__eq__» ⟨[.ref l,.ref t],[]⟩) (λ_ R s=>s.heap.get? t=some {cls:=.type "tuple",dict:=d2,data:=.seq its m,slots:=sl2}/\s.heap.get? l=some {cls:=.type "dict",dict:=dd,data:=.dict es n,slots:=sl}/\R (.ok (.ret .notImplemented)) s):=
 .of_wp λprog w A R s h=>by
  obtain⟨hp,g,d,tk,os⟩:=s;obtain⟨ht,hl,h⟩:=h;have f1:=F.sub_tuple_dict
  wp_walk using wpAny_loadPart' hl,Xo hl,wpAny_loadPart' ht,Xo ht
  grind
theorem vm{h:Heap}(ht:h.get? t=some {cls:=.type "tuple",dict:=d2,data:=.seq its m,slots:=sl2})
 (hl:h.get? l=some {cls:=.type "dict",dict:=dd,data:=.dict es n,slots:=sl}):t≠l:=λe=>by
 grind
theorem RcAt.y8(ht:s.heap.get? t=some {cls:=.type "tuple",dict:=d2,data:=.seq its m,slots:=sl2})
 (hl:s.heap.get? l=some {cls:=.type "dict",dict:=dd,data:=.dict es n,slots:=sl})(hu:A.units<cLine):RcAt A s (.ref t) (.ref l) false:=λprog w E Q h=>
 have ne  := vm ht hl
 rc_eq_decline_or ⟨_,ht,rfl⟩ ⟨_,hl,rfl⟩ #[5] F.sub_dict_tuple F.slot_tuple_eq Xl
  (λ_ hq=>WM F.slot_tuple_eq ⟨_,ht,rfl⟩ F.entry_tuple_eq (F.args_tuple_eq_2 _ _) (vj t its m d2 sl2 l es n dd sl) ⟨ht,hl,hq⟩)
  (λ_ hq=>WM Xl ⟨_,hl,rfl⟩ F.entry_dict_eq (F.args_dict_eq_2 _ _) (vk t its m d2 sl2 l es n dd sl) ⟨ht,hl,hq⟩)
  (λ_ hq=>wpAny_isSame_ref_other' ne ht hl (show Value.type "dict" ≠ Value.type "tuple" by decide) hq) (.inr hu) h
theorem EqAt.y8(ht:s.heap.get? t=some {cls:=.type "tuple",dict:=d2,data:=.seq its m,slots:=sl2})
 (hl:s.heap.get? l=some {cls:=.type "dict",dict:=dd,data:=.dict es n,slots:=sl})(hu:A.units<cLine):EqAt A s (.ref t) (.ref l) false:=
 .of_refs (vm ht hl) (.y8 ht hl hu)
end PySem.SeqAt
namespace Ml
open PySem PySem.Spec L2
theorem Cv(sa:fz d=true)(sb:fz e=true)(h:eqQ d e=some k):d.canLay0=true/\e.canLay0=true/\min d.depth e.depth<=40/\k=PyData.eqv d e:=by
 unfold eqQ at h;split at h
 ·rename_i hn;simp[noDict]at hn;cases h;exact⟨jq sa hn.1.1,jq sb hn.1.2,hn.2,rfl⟩
 grind
theorem Oh(ra:Reads s.heap a d as)(rb:Reads s.heap b e bs)(sa:fz d=true)(sb:fz e=true)(hu:A.units+41<cLine)(h:FI d e=some k):SeqAt.EqAt A s a b k/\d.canLay0=true:=by
 unfold FI at h;split at h
 ·cases h;cases ra
  cases rb with
  | @dict a' o' es n kvs as1 bs1 h1 h2 h3 h4 h5=>obtain⟨oc,od,dat,osl⟩:=o';cases h2;cases h3;exact⟨SeqAt.EqAt.Kn _ _ h1 #[4],by assumption⟩
 ·split at h
  ·rename_i hn;simp only[noDict,XM]at hn;cases h;have hl:=jq sa hn
   cases ra with
   | @tuple l o vs m xs as1 g1 g2 g3 g4=>
    obtain⟨oc2,od2,dat2,osl2⟩:=o;cases g2;cases g3
    cases rb with
    | @dict a' o' es n kvs as1 bs1 h1 h2 h3 h4 h5=>obtain⟨oc,od,dat,osl⟩:=o';cases h2;cases h3;exact⟨SeqAt.EqAt.y8 g1 h1 #[4],hl⟩
  grind
 ·obtain⟨l1,l2,l3,rfl⟩:=Cv sa sb h;exact⟨X3 _ _ A s a b as bs ra rb l1 l2 #[4],l1⟩
theorem aL.lD(p:aL G E θ H (.ok d h) (KV G Q))(w:W G θ h H)(r:ck G θ H d v):Q v H:=p θ H Ev.refl w v r
theorem cE(b:Bool):ck G θ H (.bool b) (.bl b):=⟨rfl,by rfl⟩
theorem cZ(i:Int):ck G θ H (.int i) (.int i):=⟨rfl,by rfl⟩
section
variable {X:Cx} {E:XK} {k:Nat}
theorem Cw(hr:bO k X.A):qw X E (compareOp .Eq) oEq:=by
 rintro pins s σ H x y v u Q I rx ry ⟨θ,h,d1,d2,w,r1,r2,p⟩;unfold oEq at p;split at p
 ·exact L5 pins s σ H x y v u Q I rx ry (by cases r1;cases r2;exact⟨rfl,by simpa using p.lD w (cE _)⟩)
 ·cases e1:Cq h d1 with
  |none=>rw[e1]at p;exact p.elim
  |some d=>
   cases e2:Cq h d2 with
   |none=>rw[e1,e2]at p;exact p.elim
   |some e=>
    rw[e1,e2]at p;simp only at p
    cases e3:eqQ d e with
    |none=>rw[e3]at p;exact p.elim
    |some b=>rw[e3]at p;obtain⟨⟨as,z1⟩,s1⟩:=fS I w 3 r1 rx e1;obtain⟨⟨bs,z2⟩,s2⟩:=fS I w 3 r2 ry e2;obtain⟨l1,l2,l3,rfl⟩:=Cv s1 s2 e3;exact SeqAt.compareEq_reads z1 z2 l1 l2 (by have:=hr.units;omega) ⟨.bl _,H,I,rfl,p.lD w (cE _)⟩
theorem rR(hr:bO k X.A):qw X E (compareOp .NotEq) j4:=by
 rintro pins s σ H x y v u Q I rx ry ⟨θ,h,d1,d2,w,r1,r2,p⟩;unfold j4 at p;split at p
 ·exact L6 pins s σ H x y v u Q I rx ry (by cases r1;cases r2;exact⟨rfl,by simpa using p.lD w (cE _)⟩)
 ·cases e1:Cq h d1 with
  |none=>rw[e1]at p;exact p.elim
  |some d=>
   cases e2:Cq h d2 with
   |none=>rw[e1,e2]at p;exact p.elim
   |some e=>
    rw[e1,e2]at p;simp only at p
    cases e3:eqQ d e with
    |none=>rw[e3]at p;exact p.elim
    |some b=>rw[e3]at p;obtain⟨⟨as,z1⟩,s1⟩:=fS I w 3 r1 rx e1;obtain⟨⟨bs,z2⟩,s2⟩:=fS I w 3 r2 ry e2;obtain⟨l1,l2,l3,rfl⟩:=Cv s1 s2 e3;exact SeqAt.compareNe_reads z1 z2 l1 l2 (by have:=hr.units;omega) ⟨.bl _,H,I,rfl,p.lD w (cE _)⟩
theorem y9(rx:Reads s.heap x d bs)(sx:fz d=true)(hu:A.units+41<cLine):∀{vs:YD} {ds:YB} {as:YC} {b:Bool},ReadsAll s.heap vs ds as->cN ds=true->Hy d ds=some b ->
  (∀y∈vs,SeqAt.EqAt A s y x ((FI (SeqAt.readOf s.heap y) d).getD false))/\(vs.any λy=>(FI (SeqAt.readOf s.heap y) d).getD false)=b
 | [],_,_,b,.nil,_,e=>by cases e;grind
 |v::vs,_,_,b,.cons (d:=d1) (ds:=ds) r1 r2,so,e=>by
  simp only[cN,UI]at so;unfold Hy at e
  cases e1:FI d1 d with
  |none=>simp_all
  |some b1=>
   cases e2:Hy d ds with
   |none=>simp_all
   |some b2=>
    rw[e1,e2]at e;cases e;obtain⟨h1,h2⟩:=y9 rx sx hu r2 so.2 e2;obtain⟨q1,q2⟩:=Oh r1 rx so.1 sx hu e1;have er:SeqAt.readOf s.heap v=d1:=SeqAt.readOf_eq q2 r1
    grind
theorem HN(hr:bO k X.A){σ:L2.St}(hsq:sq=.tuple ds\/sq=.list ds)(I:#[11])(z1:Reads s.heap v d as)(z2:Reads s.heap u sq bs)(s1:fz d=true)(s2:cN ds=true)(e:Hy d ds=some b) :
  (Q (.bl b) H->wpAny #[12] X.A (compareOp .In v u) (EP X pins σ Q) X.xe s)/\(Q (.bl !b) H->wpAny #[12] X.A (compareOp .NotIn v u) (EP X pins σ Q) X.xe s):=by
 have hu:X.A.in1.units+41<cLine:=by have:=hr.units;grind
 rcases hsq with rfl|rfl
 ·cases z2 with
  |tuple h1 h2 h3 h4=>
   obtain⟨q1,q2⟩:=y9 (A:=X.A.in1) z1 s1 hu h4 s2 e;rename_i vs n;have q3:(vs.any λy=>(FI (SeqAt.readOf s.heap y) d).getD false)=b:=by grind
   exact⟨λq=>SeqAt.in_tupleAt _ ⟨_,h1,h2,_,h3⟩ (λy m=>q1 y (Wt.mpr m)) (by rw[q3];exact⟨.bl b,H,I,rfl,q⟩),λq=>SeqAt.notIn_tupleAt _ ⟨_,h1,h2,_,h3⟩ (λy m=>q1 y (Wt.mpr m)) (by rw[q3];exact⟨.bl (!b),H,I,rfl,q⟩)⟩
 ·cases z2 with
  |list h1 h2 h3 h4=>
   obtain⟨q1,q2⟩:=y9 (A:=X.A.in1) z1 s1 hu h4 s2 e;rename_i vs n _;have q3:(vs.any λy=>(FI (SeqAt.readOf s.heap y) d).getD false)=b:=by rw[<- q2,<- Array.any_toList]
   exact⟨λq=>SeqAt.in_listAt _ ⟨_,h1,h2,_,h3⟩ (λy m=>q1 y (Wt.mpr m)) (by rw[q3];exact⟨.bl b,H,I,rfl,q⟩),λq=>SeqAt.notIn_listAt _ ⟨_,h1,h2,_,h3⟩ (λy m=>q1 y (Wt.mpr m)) (by rw[q3];exact⟨.bl (!b),H,I,rfl,q⟩)⟩
end
end Ml
namespace PySem.SeqAt
open PySem.AutoSeq1 (wpAny_loadPart')
open PySem.MeetsSeq PySem.MeetsSeq2 PySem.MeetsSeq3
noncomputable def HP(A:YN)(s:YO)(y x:Value)(b:Bool):Prop:=
 ∀(prog:YL) (w:World) (E:Yw) (Q:Yw),Q (.bool b) s->wpAny (model prog w) A (richCompare .Lt y x) Q E s
inductive oP (A:YN) (s:YO):YD->YD->Bool->Prop
 |nil:oP A s [] [] false
 |left {w ws}:oP A s [] (w::ws) true
 |right {v vs}:oP A s (v::vs) [] false
 |eq {v vs w ws k}:EqAt A s v w true->oP A s vs ws k->oP A s (v::vs) (w::ws) k
 |ne {v vs w ws k}:EqAt A s v w false->HP A s v w k->oP A s (v::vs) (w::ws) k
theorem qA(l b:Addr)(its1 its2:YJ)(n n2:Nat)(dd dd2:Option Addr)(sl sl2:YH)(k:Bool) :
  Meets (Builtin.«tuple.__lt__» ⟨[.ref l,.ref b],[]⟩) (λA R s=>s.heap.get? l=some {cls:=.type "tuple",dict:=dd,data:=.seq its1 n,slots:=sl}/\s.heap.get? b=some {cls:=.type "tuple",dict:=dd2,data:=.seq its2 n2,slots:=sl2}/\oP A.in1 s its1.toList its2.toList k/\R (.ok (.ret (.bool k))) s):=
 .of_wp λprog w A R s h=>by
  obtain⟨hp,g,d,tk,os⟩:=s;obtain⟨hl,hb,hx,h⟩:=h;have f2:=AutoSeq1.sub_tuple_tuple
  wp_walk using wpAny_loadPart' hl,wpAny_loadPart' hb,wpAny_forIn_list _ (λrest b s'=>b.1=none/\s'=⟨hp,g,d,tk,os⟩/\∃(vs ws:YD),rest=vs.zip ws/\oP A.in1 ⟨hp,g,d,tk,os⟩ vs ws k/\vs.length+its2.size=ws.length+its1.size/\R (.ok (.ret (.bool k))) ⟨hp,g,d,tk,os⟩) _
  case turn=>
   rintro⟨y,x⟩ rest b s' ⟨hb',rfl,vs,ws,hz,hx,hlen,hR⟩
   cases hx with
   |nil=>rw[List.zip_nil_left]at hz;cases hz
   |left=>rw[List.zip_nil_left]at hz;cases hz
   |right=>rw[List.zip_nil_right]at hz;cases hz
   | @eq v vs w' ws k he hx'=>
    rw[WQ]at hz;injection hz with hyx hrest;injection hyx with hy hx;subst hy hx;simp only[U8]at hlen;refine UE (he prog w _ _ ?_)
    wp_walk
    exact⟨rfl,rfl,_,_,hrest,hx',by omega,hR⟩
   | @ne v vs w' ws k he hlt=>
    rw[WQ]at hz;injection hz with hyx hrest;injection hyx with hy hx;subst hy hx;refine UE (he prog w _ _ ?_);have hri:=hlt prog w
    wp_walk using hri
    exact⟨_,rfl,by simpa using hR⟩
  case fin=>
   rintro⟨b1,b2⟩ s' ⟨hb',rfl,vs,ws,hz,hx,hlen,hR⟩;simp only at hb';subst hb'
   have hv:k=decide (its1.size<its2.size):=by
    cases hx with
    |nil=>simp only[VG]at hlen;exact(Vj #[4]).symm
    |left=>simp only[VG,U8]at hlen;exact(Vz #[4]).symm
    |right=>simp only[VG,U8]at hlen;exact(Vj #[4]).symm
    |eq=>rw[WQ]at hz;cases hz
    |ne=>rw[WQ]at hz;cases hz
   rw[hv]at hR
   wp_walk
   exact⟨_,rfl,by simpa [Builtin.Tuple.tupleCompareSizes]using hR⟩
  case h=>exact⟨rfl,rfl,its1.toList,its2.toList,rfl,hx,by simp;omega,h⟩
theorem HP.tuples(h1:s.heap.IsTuple l its1)(h2:s.heap.IsTuple b its2)(hu:A.units<cLine)(hx:oP A.in1 s its1.toList its2.toList k):HP A s (.ref l) (.ref b) k:=λprog w E Q h=>by
 obtain⟨⟨c1,d1,e1,l1⟩,p1,g1,n1,z1⟩:=h1;obtain⟨⟨c2,d2,e2,l2⟩,p2,g2,n2,z2⟩:=h2;subst g1 z1 g2 z2
 exact richCompare_meets_room ⟨_,p1,rfl⟩ ⟨_,p2,rfl⟩ XZ PySem.F.entry_tuple_lt (PySem.F.args_tuple_lt_2 _ _) (qA l b _ _ n1 n2 d1 d2 l1 l2 k)
  ⟨p1,p2,hx,⟨(λx=>nomatch x),h⟩⟩ hu
end PySem.SeqAt
namespace Ml
open PySem PySem.Spec L2
open PySem.SeqAt
mutual
theorem qB:∀(d e:PyData) (A:YN) (s:YO) (a b:Value) (as bs:YC) (k:Bool),Reads s.heap a d as->Reads s.heap b e bs->d.canLay0=true->e.canLay0=true->A.units+min d.depth e.depth<cLine->cj d e=some k->HP A s a b k
 |.int i,.int j,A,s,a,b,as,bs,k,ra,rb,_,_,_,h=>by cases ra;cases rb;simp only[cj]at h;cases h;exact λprog w E Q q=>(PyProof.Rows.lt_int q:wpAny (model prog w) A (compareOp .Lt _ _) Q E s)
 |.str x,.str y,A,s,a,b,as,bs,k,ra,rb,_,_,_,h=>by cases ra;cases rb;simp only[cj,pf]at h;cases h;exact λprog w E Q q=>(PySem.P.lt_str q:wpAny (model prog w) A (compareOp .Lt _ _) Q E s)
 |.tuple xs,.tuple ys,A,s,a,b,as,bs,k,ra,rb,ha,hb,hu,h=>by
  cases ra with
  |tuple g1 g2 g3 g4=>
   cases rb with
   |tuple k1 k2 k3 k4=>simp only[cj]at h;simp only[PyData.canLay0]at ha hb;simp only[PyData.depth]at hu;exact HP.tuples ⟨_,g1,g2,_,g3⟩ ⟨_,k1,k2,_,k3⟩ #[4] (rS xs ys A.in1 s _ _ _ _ k g4 k4 ha hb (by show A.units+1+_<_;omega) h)
 |.none,_,_,_,_,_,_,_,_,_,_,_,_,_,h=>by simp[cj]at h
 |.bool _,_,_,_,_,_,_,_,_,_,_,_,_,_,h=>by simp[cj]at h
 |.list _,_,_,_,_,_,_,_,_,_,_,_,_,_,h=>by simp[cj]at h
 |.dict _,_,_,_,_,_,_,_,_,_,_,_,_,_,h=>by simp[cj]at h
 |.int _,.none,_,_,_,_,_,_,_,_,_,_,_,_,h=>by simp[cj]at h
 |.int _,.bool _,_,_,_,_,_,_,_,_,_,_,_,_,h=>by simp[cj]at h
 |.int _,.str _,_,_,_,_,_,_,_,_,_,_,_,_,h=>by simp[cj]at h
 |.int _,.list _,_,_,_,_,_,_,_,_,_,_,_,_,h=>by simp[cj]at h
 |.int _,.tuple _,_,_,_,_,_,_,_,_,_,_,_,_,h=>by simp[cj]at h
 |.int _,.dict _,_,_,_,_,_,_,_,_,_,_,_,_,h=>by simp[cj]at h
 |.str _,.none,_,_,_,_,_,_,_,_,_,_,_,_,h=>by simp[cj]at h
 |.str _,.bool _,_,_,_,_,_,_,_,_,_,_,_,_,h=>by simp[cj]at h
 |.str _,.int _,_,_,_,_,_,_,_,_,_,_,_,_,h=>by simp[cj]at h
 |.str _,.list _,_,_,_,_,_,_,_,_,_,_,_,_,h=>by simp[cj]at h
 |.str _,.tuple _,_,_,_,_,_,_,_,_,_,_,_,_,h=>by simp[cj]at h
 |.str _,.dict _,_,_,_,_,_,_,_,_,_,_,_,_,h=>by simp[cj]at h
 |.tuple _,.none,_,_,_,_,_,_,_,_,_,_,_,_,h=>by simp[cj]at h
 |.tuple _,.bool _,_,_,_,_,_,_,_,_,_,_,_,_,h=>by simp[cj]at h
 |.tuple _,.int _,_,_,_,_,_,_,_,_,_,_,_,_,h=>by simp[cj]at h
 |.tuple _,.str _,_,_,_,_,_,_,_,_,_,_,_,_,h=>by simp[cj]at h
 |.tuple _,.list _,_,_,_,_,_,_,_,_,_,_,_,_,h=>by simp[cj]at h
 |.tuple _,.dict _,_,_,_,_,_,_,_,_,_,_,_,_,h=>by simp[cj]at h
theorem rS:∀(xs ys:YB) (A:YN) (s:YO) (vs ws:YD) (as bs:YC) (k:Bool),ReadsAll s.heap vs xs as->ReadsAll s.heap ws ys bs->PyData.canLayAll0 xs=true->PyData.canLayAll0 ys=true->A.units+min (PyData.depthAll xs) (PyData.depthAll ys)<cLine->dH xs ys=some k->oP A s vs ws k
 | [],[],A,s,vs,ws,as,bs,k,ra,rb,_,_,_,h=>by cases ra;cases rb;simp only[dH]at h;cases h;exact .nil
 | [],_::_,A,s,vs,ws,as,bs,k,ra,rb,_,_,_,h=>by cases ra;cases rb;simp only[dH]at h;cases h;exact .left
 |_::_,[],A,s,vs,ws,as,bs,k,ra,rb,_,_,_,h=>by cases ra;cases rb;simp only[dH]at h;cases h;exact .right
 |x::xs,y::ys,A,s,vs,ws,as,bs,k,ra,rb,ha,hb,hu,h=>by
  cases ra with
  |cons r1 r2=>
   cases rb with
   |cons q1 q2=>
    simp only[PyData.canLayAll0,UI]at ha hb;simp only[PyData.depthAll]at hu;have he:=eqAt_reads x y A s _ _ _ _ r1 q1 ha.1 hb.1 #[4];simp only[dH]at h
    cases hq:PyData.eqv x y with
    |true=>rw[hq]at he h;exact .eq he (rS xs ys A s _ _ _ _ k r2 q2 ha.2 hb.2 #[4] (by simpa using h))
    |false=>rw[hq]at he h;exact .ne he (qB x y A s _ _ _ _ k r1 q1 ha.1 hb.1 #[4] (by simpa using h))
end
section
variable {X:Cx} {E:XK} {k:Nat}
theorem FT(hr:bO k X.A):qw X E (compareOp .Lt) oLt:=by
 rintro pins s σ H x y v u Q I rx ry ⟨θ,h,d1,d2,w,r1,r2,p⟩;unfold oLt at p
 cases d1 with
 |dat d=>
  cases d2 with
  |dat e=>
   simp only at p;split at p
   ·rename_i hn;simp only[UI,noDict,XM,U5]at hn
    cases e3:cj d e with
    |none=>rw[e3]at p;exact p.elim
    |some b=>rw[e3]at p;obtain⟨⟨as,z1⟩,s1⟩:=fS I w 3 r1 rx (yU h 3 d);obtain⟨⟨bs,z2⟩,s2⟩:=fS I w 3 r2 ry (yU h 3 e);exact qB d e X.A s v u as bs b z1 z2 (jq s1 hn.1.1) (jq s2 hn.1.2) (by have:=hr.units;omega) e3 X.prog X.w X.xe _ ⟨.bl b,H,I,rfl,p.lD w (cE b)⟩
   ·trivial
  |_=>trivial
 |_=>trivial
theorem Mg(h:iX X op (rI C g))(k:∀θ hm H d1 d2 Q,W X.G θ hm H->aL X.G (ua X.G E) θ H (f d1 d2 hm) (KV X.G Q)->∃i j,d1=.int i/\d2=.int j/\C i j/\Q (g i j) H):qw X E op f:=
 qw.of h λθ hm H d1 d2 x y Q w r1 r2 p=>by obtain⟨i,j,rfl,rfl,c,q⟩:=k θ hm H d1 d2 Q w p;exact⟨i,j,cn r1,cn r2,c,q⟩
theorem Cy(h:iX X op (L4 g))(k:∀θ hm H d1 d2 Q,W X.G θ hm H->aL X.G (ua X.G E) θ H (f d1 d2 hm) (KV X.G Q)->∃i j,d1=.int i/\d2=.int j/\Q (g i j) H):qw X E op f:=
 qw.of h λθ hm H d1 d2 x y Q w r1 r2 p=>by obtain⟨i,j,rfl,rfl,q⟩:=k θ hm H d1 d2 Q w p;exact⟨i,j,cn r1,cn r2,q⟩
theorem Mh:qw X E (binaryOp .Sub) FH:=Cy Nf λθ hm H d1 d2 Q w p=>by
 unfold FH at p;split at p
 ·exact⟨_,_,rfl,rfl,p.lD w (cZ _)⟩
 ·trivial
theorem AG:qw X E (binaryOp .Mod) oMod:=Mg Nh λθ hm H d1 d2 Q w p=>by
 unfold oMod at p;split at p
 ·split at p
  ·rename_i hj;exact⟨_,_,rfl,rfl,hj,p.lD w (cZ _)⟩
  ·trivial
 ·trivial
theorem HQ:qw X E (binaryOp .FloorDiv) qj:=Mg JR λθ hm H d1 d2 Q w p=>by
 unfold qj at p;split at p
 ·split at p
  ·rename_i hj;exact⟨_,_,rfl,rfl,hj,p.lD w (cZ _)⟩
  ·trivial
 ·trivial
theorem Qt:qw X E (compareOp .Gt) Pm:=Cy P0 λθ hm H d1 d2 Q w p=>by
 unfold Pm at p;split at p
 ·exact⟨_,_,rfl,rfl,p.lD w (cE _)⟩
 ·trivial
theorem SD:qw X E (compareOp .GtE) Qm:=Cy P1 λθ hm H d1 d2 Q w p=>by
 unfold Qm at p;split at p
 ·exact⟨_,_,rfl,rfl,p.lD w (cE _)⟩
 ·trivial
theorem FU:qw X E (compareOp .LtE) oLe:=qw.of (iX.or PZ Fp) λθ hm H d1 d2 x y Q w r1 r2 p=>by
 unfold oLe at p;split at p
 ·exact .inl ⟨_,_,cn r1,cn r2,p.lD w (cE _)⟩
 ·exact .inr ⟨_,_,r1.1,r2.1,p.lD w (cE _)⟩
 ·trivial
end
end Ml
set_option maxHeartbeats 1000000
namespace Ml
open PySem PySem.Spec L2 PyProof.Rows PySem.W
noncomputable def sV:PyData->Nat
 |.int _=>0
 |.str _=>1
 |_=>2
noncomputable def HR:Nat->String
 |0 => "int"
 |1 => "str"
 |_ => "tuple"
theorem vn(h1:h.get? a=some o)(h2:o.cls=.type "tuple"):Looks M h (typeOf (.ref a)) (.type "tuple"):=by obtain⟨oc,od,dat,osl⟩:=o;cases h2;exact(Looks.ld h1).andThen .now
theorem FV(r:Reads h v d as)(t:ay d=true):Looks M h (typeOf v) (.type (HR (sV d))):=by
 cases r with
 |int i t=>exact .now
 |str x t=>exact .now
 |tuple h1 h2 h3 h4=>exact vn h1 h2
 |_=>trivial
noncomputable def Qu(h:Heap)(f:Option Value)(d:PyData):Prop:=match d with
 |.tuple []=>f=none
 |.tuple (x::_)=>∃u bs,f=some u/\Reads h u x bs
 |_=>False
section
variable {P:YL} {w:World} {A:YN} {E:Yw} {s:YO}
theorem sW:∀{vs:YD} {ds:YB} {as:YC} {Q:List (Option Value)->YO->Prop},ReadsAll s.heap vs ds as->ds.all gr=true->(∀fs,Paired (Qu s.heap) fs ds->Q fs s)->wpAny M A (vs.mapM firstOfTuple') Q E s
 |_,_,_,Q,.nil,_,h=>by rw[List.mapM_nil];exact UH (h [] .nil)
 |_,_,_,Q,.cons r t,al,h=>by
  simp only[List.all_cons,UI]at al;rw[List.mapM_cons];refine UE ?_
  cases r with
  |tuple h1 h2 h3 h4=>
   rename_i o its n xs;rw[kas_first_eq];refine UE (Looks.here (vn h1 h2) ?_);rw[if_neg (by first|decide|simp)];refine UE (PyProof.Rows.listItems_at h1 h3 (UH ?_));refine UE (sW t al.2 λfs hf=>UH (h _ (.cons ?_ hf)));have e0:its[0]?=its.toList[0]?:=by simp
   rw[e0];generalize its.toList=l at h4
   cases h4 with
   |nil=>rfl
   |cons r1 r2=>exact⟨_,_,rfl,r1⟩
  |_=>simp[gr]at al
theorem sX(t:aB ds=true)(c:dM ds=true)(h1:.tuple (x::xs)∈ds)(h2:.tuple (y::ys)∈ds):sV x=sV y:=by
 have t1:=aU t h1;have t2:=aU t h2;simp[ay,aB]at t1 t2;have q:=fG c h1 h2;simp[cj,dH]at q;by_cases e:x=y
 ·rw[e]
 ·rw[bb t1.1 t2.1 e,if_neg #[6]]at q;cases x<;>cases y<;>first|rfl|trivial|rfl|rfl
theorem nW:∀{fs:List (Option Value)} {ds:YB},Paired (Qu h) fs ds->∀v∈fs.filterMap id,∃x xs bs,.tuple (x::xs)∈ds/\Reads h v x bs
 |_,_,.nil,v,hv=>by grind
 |_,_,.cons (a:=f) (l₁:=fs) (b:=d) r p,v,hv=>by
  cases d with
  |tuple ys=>
   cases ys with
   |nil=>obtain rfl:f=none:=r;obtain⟨x,xs,bs,m,q⟩:=nW p v (by simp_all);exact⟨x,xs,bs,by simp[m],q⟩
   |cons y ys=>
    obtain⟨u,bs,rfl,q⟩:=r;rcases(show v=u\/some v∈fs by simp_all)with rfl|hv
    ·exact⟨y,ys,bs,by simp,q⟩
    ·obtain⟨x,xs,bs,m,q⟩:=nW p v (by simpa using hv);exact⟨x,xs,bs,by simp[m],q⟩
  |_=>exact(show False from r).elim
theorem readsAll_len:∀{vs:YD} {ds:YB} {as:YC},ReadsAll h vs ds as->vs.length=ds.length
 |_,_,_,.nil=>rfl
 |_,_,_,.cons _ t=>by simp[readsAll_len t]
theorem vo:∀{vs:YD} {ds:YB} {as:YC},ReadsAll h vs ds as->ds.all gr=true->∀v∈vs,Looks M h (typeOf v) (.type "tuple")
 |_,_,_,.nil,_,v,hv=>by cases hv
 |_,_,_,.cons r1 r2,al,v,hv=>by
  simp only[List.all_cons,UI]at al;rcases UO.mp hv with rfl|hv
  ·cases r1 with
   |tuple g1 g2 g3 g4=>exact vn g1 g2
   |_=>grind[gr]
  ·exact vo r2 al.2 v hv
theorem FX(r:ReadsAll s.heap vs ds as)(al:ds.all gr=true)(t:aB ds=true)(c:dM ds=true)(h2:1<=vs.length)
 (h1:∀b,(b=true->∀x xs,.tuple (x::xs)∈ds->sV x≠2)->Q (tuples' b) s)(h3:Q general' s)(h4:Q oneType' s):wpAny M A (keyKind' vs.toArray) Q E s:=by
 rw[PyProof.Rows.kat_kind_eq,List.mapM_toArray,map_eq_pure_bind];refine UE (UE (sW r al λfs hf=>UH ?_));have hl:fs.length=ds.length:=U9 hf;have hl2:vs.length=ds.length:=readsAll_len r;split
 ·rename_i hall;refine UE (V5 ?_);have e:(fs.toArray.filterMap id)=(fs.filterMap id).toArray:=by simp
  rw[e];have hall':∀f∈fs,f.isSome=true:=by simpa using hall
  obtain⟨u,us,eu⟩:∃u us,fs.filterMap id=u::us:=by
   match fs,hl,hall' with
   | [],hl,_=>simp at hl;omega
   |none::_,_,ha=>have:=ha none (.head _);cases this
   |some x::r,_,_=>exact⟨x,r.filterMap id,by simp⟩
  obtain⟨x,xs,bs,mx,rx⟩:=nW hf u (by rw[eu];simp);have tx:ay x=true:=by have:=aU t mx;simp only[ay,aB,UI]at this;exact this.1
  refine UE (Aw (T:=.type (HR (sV x))) (by rw[eu];simp) (λv hv=>?_) #[6] ?_)
  ·obtain⟨y,ys,bs,my,ry⟩:=nW hf v hv;have ty:ay y=true:=by have:=aU t my;simp only[ay,aB,UI]at this;exact this.1
   rw[sX t c mx my];exact FV ry ty
  ·refine UH (h1 _ λhb y ys my=>?_);rw[<- sX t c mx my];intro z;rw[z]at hb;exact absurd hb #[5]
 ·split
  ·exact UH h3
  ·refine UE (Aw (T:=.type "tuple") h2 (λv hv=>?_) #[7] ?_)
   ·exact vo r al v hv
   ·exact UH h4
theorem AH:∀{us vs:YD} {xs ys:YB} {as bs:YC} (i:Nat) (fin k:Bool),ReadsAll s.heap us xs as->ReadsAll s.heap vs ys bs->aB xs=true->aB ys=true->PyData.canLayAll0 xs=true->PyData.canLayAll0 ys=true ->
  A.units+min (PyData.depthAll xs) (PyData.depthAll ys)<cLine->fin=decide (xs.length<ys.length)->(b=true->i=0->∀x∈xs.head?,sV x≠2)->dH xs ys=some k->Q k s->KatLex P w A b fin Q (us.zip vs) i s:=by
 intro us vs xs
 induction xs generalizing us vs with
 |nil=>
  intro ys as bs i fin k r q _ _ _ _ _ e _ h z;subst e;cases r
  cases q with
  |nil=>simp[dH]at h;subst h;exact PySem.W.kat_nil z
  |cons=>simp[dH]at h;subst h;exact PySem.W.kat_nil (by simpa using z)
 |cons x xs ih=>
  intro ys as bs i fin k r qq t1 t2 l1 l2 hu e hb h q
  cases r with
  |cons r1 r2=>cases qq with
   |nil=>subst e;simp[dH]at h;subst h;exact PySem.W.kat_nil (by simpa using q)
   | @cons _ _ y ys _ _ q1 q2=>
    rw[WQ];refine PySem.W.kat_cons ?_;simp only[aB,PyData.canLayAll0,UI]at t1 t2 l1 l2;simp only[PyData.depthAll]at hu;refine X3 x y A s _ _ _ _ r1 q1 l1.1 l2.1 #[4] P w _ _ ?_;simp only[dH]at h
    cases hq:PyData.eqv x y with
    |true=>rw[hq,if_pos rfl]at h;exact PySem.W.kat_yes (ih (i+1) fin k r2 q2 t1.2 t2.2 l1.2 l2.2 #[4] (by rw[e];simp) (λ_ z=>by omega) h q)
    |false=>
     rw[hq,if_neg #[6]]at h;refine PySem.W.kat_no ?_;have fin2:wpAny #[14] A (oneLt' false _ _) Q (λ_ _=>False) s:=kat_one _ _ (qB x y A s _ _ _ _ k r1 q1 l1.1 l2.1 #[4] h P w (λ_ _=>False) _ q)
     cases hbi:(b&&i==0)with
     |false=>exact fin2
     |true=>
      simp only[UI,Yo]at hbi;have kx:=hb hbi.1 hbi.2 x #[6]
      cases x with
      |int i1=>
       cases y with
       |int j1=>cases r1;cases q1;simp only[cj]at h;cases h;exact oneLt_int q
       |_=>simp[cj]at h
      |str i1=>
       cases y with
       |str j1=>cases r1;cases q1;simp only[cj,pf]at h;cases h;exact oneLt_str q
       |_=>simp[cj]at h
      |_=>exact absurd rfl kx
theorem Cz(hu:A.units+41<cLine)(rx:Reads s.heap x (.tuple xs) as)(ry:Reads s.heap y (.tuple ys) bs)(t1:aB xs=true)(t2:aB ys=true)(l1:PyData.canLayAll0 xs=true)(l2:PyData.canLayAll0 ys=true)
 (hd:PyData.depthAll xs<=20)(h:dH xs ys=some k)(κ:SortKind)(hκ:(∃b,κ=tuples' b/\(b=true->∀x∈xs.head?,sV x≠2))\/κ=general'\/κ=oneType')(q:Q k s):wpAny #[14] A (keyLt' κ x y) Q (λ_ _=>False) s:=by
 have ex:=rx;have ey:=ry
 cases rx with
 |tuple g1 g2 g3 g4=>
  rename_i o1 i1 n1
  cases ry with
  |tuple k1 k2 k3 k4=>
   rename_i o2 i2 n2;rcases hκ with⟨b,rfl,hb⟩|rfl|rfl
   ·refine kat_lt g1 g3 k1 k3 (AH 0 _ k g4 k4 t1 t2 l1 l2 #[4] ?_ (λhb' _=>hb hb') h q);have z1:=readsAll_len g4;have z2:=readsAll_len k4
    grind
   ·show wpAny #[14] A (oneLt' false _ _) Q _ s;exact kat_one _ _ (qB (.tuple xs) (.tuple ys) A s _ _ _ _ k ex ey (by simpa [PyData.canLay0]using l1) (by simpa [PyData.canLay0]using l2) (by simp only[PyData.depth];omega) (by simpa [cj]using h) P w (λ_ _=>False) _ q)
   ·rw[keyLt'_oneType,oneLt'_eq];simp only[VT];refine UE (wpAny_cRoomFor #[4] ?_);obtain⟨c1,d1,e1,sl1⟩:=o1;obtain⟨c2,d2,e2,sl2⟩:=o2;cases g2;cases g3;cases k2;cases k3;refine UE (wpAny_callSpecialIfBound?_slot ⟨_,g1,rfl⟩ XZ (WM XZ ⟨_,g1,rfl⟩ PySem.F.entry_tuple_lt (PySem.F.args_tuple_lt_2 _ _) (SeqAt.qA _ _ _ _ n1 n2 d1 d2 sl1 sl2 k) ⟨g1,k1,rS xs ys _ s _ _ _ _ k g4 k4 l1 l2 (by show A.units+1+_<_;omega) h,?_⟩));exact VC q
theorem rT:∀{vs:YD} {ds:YB} {as:YC} (i:Nat),ReadsAll h vs ds as->i<vs.length->∃bs,Reads h (vs.getD i .none) (ds.getD i .none) bs
 |_,_,_,i,.nil,hi=>by grind
 |_,_,_,0,.cons r1 _,_=>⟨_,r1⟩
 |_,_,_,i+1,.cons _ r2,hi=>by simpa using rT i r2 (by simp_all)
theorem getD_mem{α:Type}{xs:List α}{d:α}(h:i<xs.length):xs.getD i d∈xs:=by simp[h]
theorem vq:∀{ds:YB} {d:PyData},PyData.canLayAll0 ds=true->d∈ds->d.canLay0=true
 |_::_,d,h,m=>by
  simp[PyData.canLayAll0]at h;rcases UO.mp m with rfl|m
  ·grind
  ·exact vq h.2 m
theorem vt:∀{ds:YB} {d:PyData},d∈ds->d.depth<=PyData.depthAll ds
 |_::_,d,m=>by
  rcases UO.mp m with rfl|m
  ·exact Nat.le_max_left _ _
  ·exact UP (vt m) (Nat.le_max_right _ _)
theorem nX(hu:A.units+41<cLine)(r:ReadsAll s.heap vs ds as)(al:ds.all gr=true)(t:aB ds=true)(c:dM ds=true)(l:PyData.canLayAll0 ds=true)(hd:PyData.depthAll ds<=20)(h2:1<=vs.length) :
  Av P w A vs (λi j=>ltB (ds.getD i .none) (ds.getD j .none)) s:=by
 have hlen:=readsAll_len r
 have tup:∀{i:Nat},i<vs.length->∃xs bs,ds.getD i .none=.tuple xs/\.tuple xs∈ds/\Reads s.heap (vs.getD i .none) (.tuple xs) bs:=λ{i} hi=>by
  obtain⟨bs,q⟩:=rT i r hi;have m:ds.getD i .none∈ds:=getD_mem #[4];have a:=UU.mp al _ m
  cases e:ds.getD i .none with
  |tuple xs=>grind
  |_=>rw[e]at a;simp[gr]at a
 have key:∀κ,((∃b,κ=tuples' b/\(b=true->∀x xs,.tuple (x::xs)∈ds->sV x≠2))\/κ=general'\/κ=oneType')->s=s/\∀i j C,i<vs.length->j<vs.length->C (ltB (ds.getD i .none) (ds.getD j .none)) s ->
   wpAny #[14] A (keyLt' κ (vs.getD i Value.none) (vs.getD j Value.none)) C (λ_ _=>False) s:=λκ hκ=>⟨rfl,λi j C hi hj hC=>by
  obtain⟨xs,b1,e1,m1,q1⟩:=tup hi;obtain⟨ys,b2,e2,m2,q2⟩:=tup hj;have cc:=fG c m1 m2;have d1:=vt m1;have l1:=vq l m1;have l2:=vq l m2;have t1:=aU t m1;have t2:=aU t m2;simp only[PyData.depth]at d1;simp only[PyData.canLay0]at l1 l2;simp only[ay]at t1 t2;rw[e1,e2]at hC;refine Cz hu q1 q2 t1 t2 l1 l2 #[4] (by simpa [cj]using cc) κ ?_ hC;rcases hκ with⟨b,rfl,hb⟩|h|h
  ·refine .inl ⟨b,rfl,λhb' x hx=>?_⟩
   cases xs with
   |nil=>simp at hx
   |cons z zs=>simp at hx;subst hx;exact hb hb' z zs m1
  ·exact .inr (.inl h)
  ·exact .inr (.inr h)⟩
 exact FX r al t c h2 (λb hb=>key _ (.inl ⟨b,rfl,hb⟩)) (key _ (.inr (.inl rfl))) (key _ (.inr (.inr rfl)))
end
end Ml
namespace Ml
open PySem PySem.Spec L2
section
variable {X:Cx} {E:XK} {k:Nat} {θ:YC} {hm:Hm} {H:Hp}
theorem nY(w:W G θ hm H)(r:ck G θ H x v)(e:listOf x hm=some ds):∃a vs,v=.ref a/\H a=some (.lst vs)/\bf (view θ H) ds vs/\cN ds=true:=by
 unfold listOf at e;split at e
 ·cases e;obtain⟨⟨a,vs,rfl,ha,rr⟩,so⟩:=r;exact⟨a,vs,rfl,aF _ _ _ _ ha,rr,by assumption⟩
 ·obtain⟨a,ha,rfl⟩:=r;split at e
  ·rename_i ys hy;obtain⟨vs,hv,rs⟩:=w.obj _ _ _ ha hy;obtain⟨h1,h2⟩:=ki rs e
   simp_all
  grind
 grind
theorem nZ(r:ReadsAll s.heap vs ds as)(al:ds.all pq=true)(h2:2<=vs.length):PySem.W.Av P w A vs (λi j=>ltB (ds.getD i .none) (ds.getD j .none)) s:=by
 have hlen:=readsAll_len r
 have tup:∀{i:Nat},i<vs.length->∃x tk,ds.getD i .none=.str x/\vs.getD i .none=.str x tk:=λ{i} hi=>by
  obtain⟨bs,q⟩:=rT i r hi;have m:ds.getD i .none∈ds:=getD_mem #[4];have a:=UU.mp al _ m
  cases e:ds.getD i .none with
  |str x=>rw[e]at q;generalize vs.getD i .none=z at q;cases q;exact⟨x,_,rfl,rfl⟩
  |_=>rw[e]at a;simp[pq]at a
 refine PySem.W.kas_kind h2 (T:=.type "str") (λv hv=>?_) #[5] #[5] ⟨rfl,λi j C hi hj hC=>?_⟩
 ·obtain⟨i,hi,e⟩:=VW.mp hv;obtain⟨x,tk,_,e2⟩:=tup hi;have:vs.getD i .none=v:=by simp[hi,e]
  rw[this]at e2;subst e2;exact .now
 ·obtain⟨x,t1,e1,f1⟩:=tup hi;obtain⟨y,t2,e2,f2⟩:=tup hj;rw[f1,f2,PyProof.Rows.keyLt'_oneType];simp only[e1,e2]at hC;exact PyProof.Rows.oneLt_str (by simpa [ltB,cj,pf]using hC)
theorem Ks(o:Ord ltB ds):PySem.W.gP (λi j=>ltB (ds.getD i .none) (ds.getD j .none)) ds.length:=
 ⟨λa b ha hb h=>o.as (getD_mem ha) (getD_mem hb) h,λa b c ha hb hc h h'=>o.ntr (getD_mem ha) (getD_mem hb) (getD_mem hc) h h'⟩
theorem bT:∀{ds:YB},cN ds=true<->∀d∈ds,fz d=true
 | []=>by trivial
 |d::ds=>by simp[cN,bT]
theorem og(p:ds.Perm es)(h:cN ds=true):cN es=true:=bT.mpr λd m=>bT.mp h d (p.mem_iff.mpr m)
noncomputable def HU:List V->Hp->VK->Prop:=λxs H Q=>∃(a:Addr) (vs:List V) (M:Hp) (ds:YB),xs=[.ref a]/\H a=some (.lst vs)/\aX M H/\bf M ds vs/\cN ds=true/\eh ds=true /\
 ∀(p:Addr) (us:List V),H p=none->bf M (bN ltB ds) us->us.length<=sizeLine->Q (.ref p) (upd H p (.lst us))
theorem qC(hr:bO k X.A):cY X (.builtin "sorted") HU:=by
 intro pins s σ H xs us Q I r h;obtain⟨a,vs,M,ds,rfl,ha,sm,rp,so,ok,q⟩:=h;simp only[eh,UI,U5,V3]at ok;obtain⟨⟨⟨⟨kd,tr⟩,cm⟩,dp⟩,h64⟩:=ok
 cases r with
 |cons r rr=>
  cases rr;cases r;obtain⟨its,rv,pl,_⟩:=I.list (gY.of (K:=X.K) ha);have hlen:vs.length=ds.length:=rp.length;have hlen2:its.length=ds.length:=by grind[rv.length]
  obtain⟨as,ra⟩:=bf.reads I (rp.same sm) rv;have nd:PyData.hasDictAll ds=false:=eR tr;have la:=kg so nd;have O:=Ks (fJ cm tr);rw[<- hlen2]at O;refine PySem.W.uY pl.isList O #[4] (λh' kp h2=>?_) λp hp hs=>?_
  ·have ra':ReadsAll h' its ds as:=Vx kp ra;rcases kd with kd|kd
   ·exact nZ (s:={s with heap:=h'}) ra' kd h2
   ·exact nX (s:={s with heap:=h'}) (by have:=hr.un;show X.A.units+1+1+41<cLine;omega) ra' kd tr cm la dp #[4]
  ·have ge:#[10]<=#[10]+1:=V7 _;have nn:H (#[10]+1)=none:=I.hok.fresh ge;obtain⟨e,he⟩:=Xe s.heap its (p.toList.map λi=>its.getD i Value.none).toArray;have hin:∀i∈p.toList,i<vs.length:=λi hi=>by have:=U4.mp (hp.perm.mem_iff.mp hi);omega
   have hlp:p.toList.length=ds.length:=by rw[hp.perm.length_eq,W7,hlen2]
   have hz:(p.toList.map λi=>vs.getD i .non).length<=sizeLine:=by rw[UZ,hlp];exact UP (WA h64) #[5]
   refine⟨.ref _,_,I.laid (t':=s.toks) (o:=.lst (p.toList.map λi=>vs.getD i .non)) (λb o k=>W9 k) ge ⟨hz,_,e,nM rv p.toList hin,by simpa [PyProof.Rows.seqObj]using he⟩,rfl,q _ _ nn ?_ hz⟩
   have e1:(p.toList.map λi=>ds.getD i .none)=bN ltB ds:=by
    refine qo cm tr ?_ ?_
    ·have:=hp.perm.map (λi=>ds.getD i .none);rw[hlen2,fR]at this;exact this
    ·unfold Up;rw[Wa,Vo];intro i j hi hj hij;have e1:PySem.W.pat p i=p.toList[i]:=by simp only[Vl]at hi;rw[PySem.W.gq,WX p i hi];simp
     have e2:PySem.W.pat p j=p.toList[j]:=by simp only[Vl]at hj;rw[PySem.W.gq,WX p j hj];simp
     have:=hs i j hij (by rw[hlen2];omega);rw[e1,e2]at this;exact this
   rw[<- e1];exact nO rp .none p.toList hin
theorem mf(hr:bO k X.A):qx X E (.builtin "sorted") dA:=qx.of (qC hr) λθ hm H ds xs Q w r p=>by
 unfold dA at p;split at p
 ·cases r with
  |cons r rr=>
   cases rr;split at p
   ·rename_i ys hy;split at p
    ·rename_i ok;obtain⟨a,vs,rfl,ha,rp,so⟩:=nY w r hy;refine⟨a,vs,view θ H,ys,rfl,ha,aF _ _,rp,so,ok,λq us hq ru hz=>?_⟩;obtain⟨e1,w1,g⟩:=w.put hq;refine p _ _ e1 w1 _ ⟨⟨q,us,rfl,g,ru.same e1.same⟩,?_⟩;exact og (aS _ _).symm so
    ·trivial
   ·trivial
 ·trivial
end
section
variable {X:Cx} {E:XK} {k:Nat} {θ:YC} {hm:Hm} {H:Hp} {m:ME} {t:MT} {e e1 e2:Expr} {pos:Pos}
theorem fT(r:ck G θ H (.str x) v):v=.str x/\PyData.strOk x=true:=⟨r.1,by simpa [fz]using r.2⟩
theorem za(h:PyData.strOk x=true)(h':PyData.strOk y=true):PyData.strOk (x++y)=true:=by have e:(x++y).cps=x.cps++y.cps:=rfl;unfold PyData.strOk at h h' ⊢;simp[e,h,h']
theorem AI(w:W G θ hm H)(x:Ext H (view θ H) H' M'):Ev θ H θ H'/\W G θ hm H'/\aX M' (view θ H'):=by
 obtain⟨e1,w1⟩:=w.grow x.sh;refine⟨e1,w1,λc o q=>?_⟩
 have nb:c∉θ:=λz=>by
  obtain⟨i,hi,ei⟩:=VW.mp z;have hl:i<hm.length:=by rw[<- w.len];exact hi
  have hn  := Cs.some _ (w.obj i c hm[i] (by simp_all) (UN hl));rw[x.old c hn]at q;exact(cQ q).1 z
 rw[dN nb];exact x.gs c o q
theorem eB:qw X E (binaryOp .Add) cF:=qw.of (iX.or Nd (iX.or B5 (iX.or Kk uL))) λθ hm H d1 d2 x y Q w r1 r2 p=>by
 unfold cF at p;split at p
 ·exact .inl ⟨_,_,cn r1,cn r2,p.lD w (cZ _)⟩
 ·split at p
  ·rename_i hz;obtain⟨e1,s1⟩:=fT r1;obtain⟨e2,s2⟩:=fT r2;exact .inr (.inl ⟨_,_,e1,e2,dQ hz,p.lD w ⟨rfl,by simp only[fz];exact za s1 s2⟩⟩)
  ·exact p.elim
 ·split at p
  ·rename_i xs ys hz;refine .inr (.inr (.inl ⟨view θ H,xs,ys,aF _ _,r1.1,r2.1,dQ hz,λr H' M' ex rr=>?_⟩));obtain⟨e1,w1,sm⟩:=AI w ex;have s1:cN xs=true:=by simpa [fz]using r1.2
   have s2:cN ys=true:=by simpa [fz]using r2.2
   refine p _ _ e1 w1 _ ⟨rr.same sm,?_⟩;simp only[fz]
   exact bT.mpr λd m=>by
    rcases U1.mp m with m|m
    ·exact bT.mp s1 d m
    ·exact bT.mp s2 d m
  ·exact p.elim
 ·split at p
  ·rename_i xs ys hz;have s1:cN xs=true:=by simpa [fz]using r1.2
   have s2:cN ys=true:=by simpa [fz]using r2.2
   obtain⟨a,us,rfl,ha,q1,_⟩:=gB r1;obtain⟨b,ws,rfl,hb,q2,_⟩:=gB r2;refine .inr (.inr (.inr ⟨a,b,us,ws,rfl,rfl,aF _ _ _ _ ha,aF _ _ _ _ hb,by rw[q1.length,q2.length];exact dQ hz,λq hq=>?_⟩));obtain⟨e1,w1,g⟩:=w.put (o:=.lst (us++ws)) hq;refine p _ _ e1 w1 _ ⟨⟨q,_,rfl,g,(q1.append q2).same e1.same⟩,?_⟩;simp only[fz]
   exact bT.mpr λd m=>by
    rcases U1.mp m with m|m
    ·exact bT.mp s1 d m
    ·exact bT.mp s2 d m
  ·exact p.elim
 ·exact p.elim
theorem xZ(r:bf M ds vs):∀n:Nat,bf M (List.replicate n ds).flatten (List.replicate n vs).flatten
 |0=>rfl
 |n+1=>r.append (xZ r n)
theorem x5:qw X E (binaryOp .Mult) ly:=qw.of (iX.or Ng NA) λθ hm H d1 d2 x y Q w r1 r2 p=>by
 unfold ly at p;split at p
 ·split at p
  ·rename_i hc;refine .inl ⟨_,_,cn r1,cn r2,?_,p.lD w (cZ _)⟩;simp only[D2,V3,UI,U5]at hc;exact hc
  ·exact p.elim
 ·split at p
  ·rename_i xs j hc;simp only[UI,U5]at hc;have s1:cN xs=true:=by simpa [fz]using r1.2
   obtain⟨a,us,rfl,ha,q1,_⟩:=gB r1;refine .inr ⟨a,j,us,rfl,cn r2,aF _ _ _ _ ha,hc.1.2,hc.2,by rw[q1.length];exact dQ hc.1.1,λq hq=>?_⟩;obtain⟨e1,w1,g⟩:=w.put (o:=.lst (List.replicate j.toNat us).flatten) hq;refine p _ _ e1 w1 _ ⟨⟨q,_,rfl,g,(xZ q1 _).same e1.same⟩,?_⟩;simp only[fz];exact bT.mpr λd m=>by obtain⟨l,hl,hd⟩:=List.mem_flatten.mp m;rw[(List.mem_replicate.mp hl).2]at hd;exact bT.mp s1 d hd
  ·exact p.elim
 ·exact p.elim
theorem zb(f:α->β)(xs:List α)(i:Int):lL (xs.map f) i=(lL xs i).map f:=by
 unfold lL;rw[UZ]
 cases xJ xs.length i with
 |none=>rfl
 |some j=>simp
theorem zc(r:aV G θ H ds vs)(e:lL ds i=some d):∃v,L2.lL vs i=some v/\ck G θ H d v:=by
 have hl  := U9 r;unfold L2.lL;rw[<- hl]
 change (xJ ds.length i).bind _=_ at e
 show ∃v,(xJ ds.length i).bind _=some v/\_
 cases hj:xJ ds.length i with
 |none=>grind
 |some j=>rw[hj]at e;exact aV.some r e
theorem HV:Pl X (N4 X.G E Ay):=by
 rintro value slice pins s σ H x y v u Q I rx ry ⟨θ,h,d1,d2,w,r1,r2,p⟩ hs;unfold Ay at p;split at p
 ·rename_i i;have ey:=cn r2;split at p
  ·rename_i ds;split at p
   ·rename_i d he;obtain⟨a,us,rfl,ha,q1,q2⟩:=gA r1;obtain⟨z,e1,rz⟩:=zc (i:=i) (d:=.dat d) q2 (by rw[zb,he];rfl);exact Nv value slice pins s σ H _ y v u Q I rx ry ⟨a,us,i,z,rfl,ey,gm.of (aF _ _ _ _ ha),e1,p.lD w rz⟩ hs
   ·exact p.elim
  ·rename_i ds;split at p
   ·rename_i d he;obtain⟨a,us,rfl,ha,q1,q2⟩:=gB r1;obtain⟨z,e1,rz⟩:=zc (i:=i) (d:=.dat d) q2 (by rw[zb,he];rfl);exact uj value slice pins s σ H _ y v u Q I rx ry ⟨a,us,i,z,rfl,ey,gY.of (aF _ _ _ _ ha),e1,p.lD w rz⟩ hs
   ·exact p.elim
  ·rename_i j;split at p
   ·rename_i xs hx;split at p
    ·rename_i d he;obtain⟨a,ha,rfl⟩:=r1;obtain⟨vs,hv,rs⟩:=w.obj _ _ _ ha hx;obtain⟨z,e1,rz⟩:=zc rs he;exact uj value slice pins s σ H _ y v u Q I rx ry ⟨a,vs,i,z,rfl,ey,gY.of hv,e1,p.lD w rz⟩ hs
    ·exact p.elim
   ·exact p.elim
  ·rename_i ns;split at p
   ·rename_i n he;obtain⟨a,rfl,hq⟩:=r1;have e1:L2.lL (ns.map V.int) i=some (.int n):=by have:=zb V.int ns i;rw[he]at this;exact this
    exact uj value slice pins s σ H _ y v u Q I rx ry ⟨a,_,i,_,rfl,ey,(aF _ _).seq hq,e1,p.lD w (cZ _)⟩ hs
   ·exact p.elim
  ·exact p.elim
 ·exact p.elim
noncomputable def lO(G:Gx)(E:XK)(m:Me):TO:=λσ H Q=>∃θ h ρ,W G θ h H/\Fr G θ H ρ σ/\aL G (ua G E) θ H (m ρ h) (λo _ _ H'=>Q o H')
@[irreducible] noncomputable def DO(X:Cx)(E:XK)(m:Me)(e:Option Expr):Prop:=PO X e (lO X.G E m)
theorem Eg(X:Cx)(E:XK)(m:Me)(e:Option Expr):DO X E m e=(PO X e (lO X.G E m)):=by
 grind[DO]
theorem PO.imp{e:Option Expr}{t t':TO}(h:PO X e t)(k:∀σ H Q,t' σ H Q->t σ H Q):PO X e t':=λpins s σ H Q I q=>h pins s σ H Q I (k _ _ _ q)
theorem hE:DO X E fm none:=by simp[Eg]at *;exact PO.imp JY (by rintro σ H Q ⟨θ,h,ρ,w,fr,p⟩;exact p θ H Ev.refl w)
theorem eT(h:DE X E m e):DO X E (cP m) (some e):=by
 simp[bS,Eg]at *
 exact PO.imp (JZ h) (by rintro σ H Q ⟨θ,h,ρ,w,fr,p⟩;exact⟨θ,h,ρ,w,fr,(aL.bind p).mono (by
  rintro d θ1 h1 H1 _ _ ⟨ev,w1,p1⟩ v r;split at p1
  ·exact⟨_,cn r,p1 θ1 H1 Ev.refl w1⟩
  ·trivial)⟩)
theorem Eh(r:bf M ds vs)(lo hi:Option Int):bf M (cut ds lo hi) (Ah vs lo hi):=by unfold cut Ah;have e  := r.length;rw[e];exact(r.drop _).take _
theorem Ei(h:x∈cut xs lo hi):x∈xs:=List.mem_of_mem_drop (Xd h)
theorem vv(h:cN ds=true)(lo hi:Option Int):cN (cut ds lo hi)=true:=bT.mpr λd m=>bT.mp h d (Ei m)
noncomputable def SE(G:Gx)(E:XK):V->Option Int->Option Int->Hp->VK->Prop:=λx lo hi H Q=>∃θ h d,W G θ h H/\ck G θ H d x/\aL G (ua G E) θ H (Qn d lo hi h) (KV G Q)
theorem Kt:Pk X (SE X.G E):=by
 rintro pins s σ H x v vl vu lo hi sl Q I rx hs pl pu ⟨θ,h,d,w,r,p⟩;unfold Qn at p;split at p
 ·rename_i ds;refine Kl pins s σ H x v vl vu lo hi sl Q I rx hs pl pu ⟨view θ H,ds,aF _ _,r.1,λr' H' M' ex rr=>?_⟩;obtain⟨e1,w1,sm⟩:=AI w ex;exact p _ _ e1 w1 _ ⟨rr.same sm,by simp only[fz];exact vv (by simpa [fz]using r.2) lo hi⟩
 ·rename_i ds;have so:cN ds=true:=by simpa [fz]using r.2
  obtain⟨a,us,rfl,ha,q1,q2⟩:=gB r;refine DJ pins s σ H _ v vl vu lo hi sl Q I rx hs pl pu ⟨a,us,rfl,gY.of (aF _ _ _ _ ha),λq hq=>?_⟩;obtain⟨e1,w1,g⟩:=w.put (o:=.lst (Ah us lo hi)) hq;exact p _ _ e1 w1 _ ⟨⟨q,_,rfl,g,(Eh q1 lo hi).same e1.same⟩,by simp only[fz];exact vv so lo hi⟩
 ·exact p.elim
theorem fo(he:DE X E m e)(hl:DO X E ml lo)(hu:DO X E mh hi):DE X E (sT m ml mh) (.Subscript e (.Slice lo hi none p2) pos):=by simp[bS,Eg]at *;exact PE.imp (Ag Kt he hl hu) (by rintro σ H Q ⟨θ,h,ρ,w,fr,p⟩;exact⟨θ,h,ρ,w,fr,(aL.bind p).mono (by rintro d θ1 h1 H1 _ _ ⟨ev,w1,p1⟩ v r;exact⟨θ1,h1,ρ,w1,fr.ev ev,(aL.bind p1).mono (by rintro l θ2 h2 H2 _ _ ⟨ev2,w2,p2⟩;exact⟨θ2,h2,ρ,w2,(fr.ev ev).ev ev2,(aL.bind p2).mono (by rintro u θ3 h3 H3 _ _ ⟨ev3,w3,p3⟩;exact⟨θ3,h3,d,w3,(r.ev ev2).ev ev3,p3⟩)⟩)⟩)⟩)
theorem jQ:qx X E (.builtin "len") fF:=qx.of GX λθ hm H ds xs Q w r p=>by
 unfold fF at p;split at p
 ·split at p
  ·rename_i hz
   cases r with
   |cons r rr=>cases rr;exact⟨_,_,rfl,by rw[(fT r).1];exact⟨dQ hz,rfl⟩,p.lD w (cZ _)⟩
  ·exact p.elim
 ·cases r with
  |cons r rr=>cases rr;obtain⟨a,us,rfl,ha,q1,_⟩:=gA r;exact⟨_,_,rfl,.inr ⟨us,gm.of (aF _ _ _ _ ha),q1.length.symm⟩,p.lD w (cZ _)⟩
 ·cases r with
  |cons r rr=>cases rr;obtain⟨a,us,rfl,ha,q1,_⟩:=gB r;exact⟨_,_,rfl,.inl ⟨us,gY.of (aF _ _ _ _ ha),q1.length.symm⟩,p.lD w (cZ _)⟩
 ·rename_i i;split at p
  ·rename_i ys hy
   cases r with
   |cons r rr=>cases rr;obtain⟨a,ha,rfl⟩:=r;obtain⟨vs,hv,rs⟩:=w.obj _ _ _ ha hy;exact⟨_,_,rfl,.inl ⟨vs,gY.of hv,U9 rs⟩,p.lD w (cZ _)⟩
  ·exact p.elim
 ·rename_i ns
  cases r with
  |cons r rr=>cases rr;obtain⟨a,rfl,hq⟩:=r;exact⟨_,_,rfl,.inl ⟨_,(aF _ _).seq hq,by simp⟩,p.lD w (cZ _)⟩
 ·exact p.elim
theorem pG:∀{ds:YB} {vs:List V} {bs:List Bool},bf M ds vs->bools ds=some bs->vs=bs.map V.bl
 | [],_,bs,h,e=>by cases h;cases e;rfl
 |d::ds,_,bs,⟨v,vs,rfl,r,rs⟩,e=>by
  cases d with
  |bool b=>simp[bools]at e;obtain⟨bs',e1,e2⟩:=e;subst e2;rw[pG rs e1,r];rfl
  |_=>trivial
theorem sY(hc:X.calm=true):qx X E (.builtin "all") pj:=qx.of (G8 hc) λθ hm H ds xs Q w r p=>by
 unfold pj at p;split at p
 ·split at p
  ·rename_i bs hb
   cases r with
   |cons r rr=>cases rr;obtain⟨a,us,rfl,ha,q1,_⟩:=gB r;rw[pG q1 hb]at ha;exact⟨a,bs,rfl,gY.of (aF _ _ _ _ ha),p.lD w (cE _)⟩
  ·trivial
 ·trivial
end
end Ml
namespace L2
open PySem PySem.Spec PyProof.Rows
section
variable {X:Cx}
theorem any_range(bs:List Bool):((List.range bs.length).any λi=>(bs[i]?).getD true)=bs.any id:=by
 rw[Xu,Xi,Xi];constructor
 ·rintro⟨i,hi,h⟩;have hi':=U4.mp hi;simp only[hi',UN,Wl]at h;exact⟨bs[i],WK hi',h⟩
 ·rintro⟨b,hb,h⟩;obtain⟨i,hi,e⟩:=VW.mp hb;refine⟨i,U4.mpr hi,?_⟩;simp only[hi,UN,Wl,e];exact h
theorem HY(hc:X.calm=true):cY X (.builtin "any") (λxs H Q=>∃(l:Addr) (bs:List Bool),xs=[.ref l]/\gY X.K H l (bs.map V.bl)/\Q (.bl (bs.any id)) H):=by
 intro pins s σ H vs us Q I r h;obtain⟨l,bs,rfl,hq,q⟩:=h
 cases r with
 |cons r rr=>
  cases rr;cases r;obtain⟨its,rv,p,_⟩:=I.list hq;have pl:=p.isList;have hlt:l<#[10]:=by obtain⟨_,e,_⟩:=pl;exact UL e
  refine call_any_walk (W0 pl ?_);refine⟨#[10],[#[10],l],[#[10]],its.toArray.size,_,_,λi=>(bs[i]?).getD true,rfl,Walks.list (A:=X.A.in1) (I.ok.hd hc) _ l (UR hlt) its.toArray,⟨⟨_,UK _ rfl,rfl,rfl⟩,pl.push _⟩,λi v s' Q' E' hP hQ=>?_,λh' tk hk=>?_⟩
  ·have hP':its[i]?=some v:=by simpa using hP
   have hi:i<(bs.map V.bl).length:=by rw[rv.length];exact(UM.mp hP').1
   obtain⟨u,hu,ru⟩:=rv.get (i:=i) (x:=(bs.map V.bl)[i]) (by simp[hi]);rw[hP']at hu;cases hu;rw[UZ]at hi;simp only[List.getElem_map]at ru;obtain rfl:v=Value.bool bs[i]:=ru;have hQ':=hQ;simp only[hi,UN,Wl]at hQ';exact VC hQ'
  ·have e:((List.range its.toArray.size).any λi=>(bs[i]?).getD true)=bs.any id:=by
    rw[UX,<- rv.length,UZ];exact any_range bs
   rw[e];exact⟨.bl _,H,I.kept λb o e=>hk b o (λhm=>by rw[Vk.mp hm]at e;exact Va _ (UL e)) (UG _ e),rfl,q⟩
end
end L2
namespace Ml
open PySem PySem.Spec L2
section
variable {X:Cx} {E:XK} {k:Nat} {θ:YC} {hm:Hm} {H:Hp} {m:ME} {t:MT} {e e1 e2:Expr} {pos:Pos} {ma:MA}
theorem Qv(hc:X.calm=true):qx X E (.builtin "any") FJ:=qx.of (HY hc) λθ hm H ds xs Q w r p=>by
 unfold FJ at p;split at p
 ·split at p
  ·rename_i bs hb
   cases r with
   |cons r rr=>cases rr;obtain⟨a,us,rfl,ha,q1,_⟩:=gB r;rw[pG q1 hb]at ha;exact⟨a,bs,rfl,gY.of (aF _ _ _ _ ha),p.lD w (cE _)⟩
  ·trivial
 ·trivial
theorem Oi(kit:∀d,PySem.W.kitOne X.K (.type (Qe d)) (.type n)=some (f d))(bt:bootBuiltins T=some (.type n))(m1:X.mg "isinstance" = none)(m2:X.mg T=none)(h:DE X E m e){p p2:Pos}(g1:Gl X "isinstance" := by rfl)(g2:Gl X T:=by rfl)(hT:T ≠ "__name__" := by decide)(hT2:(T==("__debug__" : Str))=false:=by decide)
 (hs:starEach [e,.Name T p2] X.env=(false,eval e X.env)::starEach [.Name T p2] X.env:=by rfl)(hs2:starEach [.Name T p2] X.env=[(false,eval (.Name T p2) X.env)]:=by rfl)(hpl:(backTo pos (starEach [.Name T p2] X.env)).any (·.1)=false:=by rfl):DE X E (zX (lC f) m) (.Call (.Name "isinstance" p) [e,.Name T p2] [] pos):=by
 simp only[bS]at *
 exact PE.imp (qb G9 g1 m1 jm (bh h (bh (Dt (v:=.ty n) g2 m2 bt rfl hT hT2) fc hs2) hs) #[5] #[5] hs hpl) (by rintro σ H Q ⟨θ,h,ρ,w,fr,p⟩;exact⟨θ,h,ρ,w,fr,(aL.bind p).mono (by
   rintro d θ1 h1 H1 _ _ ⟨ev,w1,p1⟩ v r
   cases d with
   |dat d=>exact⟨v,n,_,f d,rfl,(r.1.same (aF _ _)).ty,kit d,p1.lD w1 (cE _)⟩
   |_=>trivial)⟩)
theorem vw(x:Str):∀(l:List Nat),bf M (l.map λi=>.str ⟨#[x.cps.getD i 0]⟩) (l.map (sgn x))
 | []=>rfl
 |i::l=>.cons rfl (vw x l)
theorem HZ(h:PyData.strOk x=true):cN (eJ x)=true:=bT.mpr λd m=>by obtain⟨i,_,rfl⟩:=U0.mp m;exact y6 h
theorem fA(hc:X.calm=true):qx X E (.type "tuple") dk:=qx.of (cY.or w9 (Au hc)) λθ hm H ds xs Q w r p=>by
 unfold dk at p;split at p
 ·cases r with
  |cons r rr=>cases rr;obtain⟨a,us,e,ha,q1,_⟩:=gA r;subst e;exact .inl ⟨a,us,rfl,.inr ⟨gm.of (aF _ _ _ _ ha),p.lD w r⟩⟩
 ·split at p
  ·rename_i s hz
   cases r with
   |cons r rr=>cases rr;obtain⟨e1,s1⟩:=fT r;subst e1;refine .inr ⟨s,rfl,dQ hz,λq hq=>?_⟩;obtain⟨e1,w1,g⟩:=w.put (o:=.tup ((List.range s.cps.size).map (sgn s))) hq;exact p _ _ e1 w1 _ ⟨⟨q,_,rfl,g,vw s _⟩,by simp only[fz];exact HZ s1⟩
  ·exact p.elim
 ·split at p
  ·rename_i ds hy
   cases r with
   |cons r rr=>cases rr;obtain⟨a,vs,rfl,ha,rp,so⟩:=nY w r hy;refine .inl ⟨a,vs,rfl,.inl ⟨gY.of ha,λq hq=>?_⟩⟩;obtain⟨e1,w1,g⟩:=w.put (o:=.tup vs) hq;exact p _ _ e1 w1 _ ⟨⟨q,_,rfl,g,rp.same e1.same⟩,by simpa [fz]using so⟩
  ·exact p.elim
 ·exact p.elim
theorem Ej:qx X E (.type "list") u9:=qx.of yH λθ hm H ds xs Q w r p=>by
 unfold u9 at p;split at p
 ·cases r with
  |cons r rr=>cases rr;have so:=r.2;obtain⟨a,us,e,ha,q1,_⟩:=gA r;subst e;refine⟨a,us,rfl,.inr (gm.of (aF _ _ _ _ ha)),λq hq=>?_⟩;obtain⟨e1,w1,g⟩:=w.put (o:=.lst us) hq;exact p _ _ e1 w1 _ ⟨⟨q,_,rfl,g,q1.same e1.same⟩,by assumption⟩
 ·split at p
  ·rename_i ds hy
   cases r with
   |cons r rr=>cases rr;obtain⟨a,vs,rfl,ha,rp,so⟩:=nY w r hy;refine⟨a,vs,rfl,.inl (gY.of ha),λq hq=>?_⟩;obtain⟨e1,w1,g⟩:=w.put (o:=.lst vs) hq;exact p _ _ e1 w1 _ ⟨⟨q,_,rfl,g,rp.same e1.same⟩,by simpa [fz]using so⟩
  ·exact p.elim
 ·exact p.elim
theorem H9:qx X E (.builtin "divmod") qk:=qx.of Ae λθ hm H ds xs Q w r p=>by
 unfold qk at p;split at p
 ·split at p
  ·rename_i i j hj
   cases r with
   |cons r1 rr=>
    cases rr with
    |cons r2 rr=>cases rr;cases cn r1;cases cn r2;refine⟨i,j,rfl,hj,λq hq=>?_⟩;obtain⟨e1,w1,g⟩:=w.put hq;exact p _ _ e1 w1 _ ⟨⟨q,_,rfl,g,.cons rfl (.one rfl)⟩,by rfl⟩
  ·trivial
 ·trivial
theorem Qw(hc:X.calm=true):qx X E (.builtin "max") FK:=qx.of (Fb hc) λθ hm H ds xs Q w r p=>by
 unfold FK at p;split at p
 ·cases r with
  |cons r1 rr=>
   cases rr with
   |cons r2 rr=>cases rr;cases cn r1;cases cn r2;exact⟨_,_,rfl,p.lD w (cZ _)⟩
 ·exact p.elim
theorem Mi:qx X E (.type "int") va:=qx.of Fc λθ hm H ds xs Q w r p=>by
 unfold va at p;split at p
 ·cases r with
  |cons r1 rr=>cases rr;cases cn r1;exact .inl ⟨_,rfl,p.lD w (cZ _)⟩
 ·cases r with
  |cons r1 rr=>cases rr;obtain⟨e1,_⟩:=r1;cases e1;exact .inr ⟨_,rfl,p.lD w (cZ _)⟩
 ·trivial
theorem zd(hr:bO k X.A):qx X E (.builtin "repr") kW:=by
 rintro pins s σ H xs us Q I r ⟨θ,h,ds,w,rs,p⟩;unfold kW at p;split at p
 ·rename_i x
  cases rs with
  |cons r1 rr=>
   cases rr
   cases r with
   |cons rv rr=>
    cases rr;rename_i v u;split at p
    ·rename_i d hd;obtain⟨⟨as,z⟩,so⟩:=fS I w 3 r1 rv hd;split at p
     ·rename_i ok;have fin:∀(h':Heap) (tk:Tok) (t':Nat),(∀b o,s.heap.get? b=some o->h'.get? b=some o)->EP X pins σ Q (.str d.shown tk) {s with heap:=h',toks:=t'}:=λh' tk t' hk=>⟨.str d.shown,H,I.kept hk,⟨_,rfl⟩,p.lD w rfl⟩;have fin0:∀(tk:Tok) (t':Nat),EP X pins σ Q (.str d.shown tk) {s with toks:=t'}:=λtk t'=>⟨.str d.shown,H,I.tok _,⟨_,rfl⟩,p.lD w rfl⟩;simp only[V3]at ok;rcases ok with ok|ok
      rotate_left
      ·unfold HB at ok;split at ok
       ·rename_i kvs;simp only[UI,U5]at ok
        cases x with
        |dat d'=>simp only[Cq,yU,Wx]at hd;subst hd;exact Cf hr pins s σ H [v] [u] Q I (.cons rv .nil) ⟨kvs,v,rfl,r1.1.same (aF _ _),ok.1.1,ok.1.2,dQ ok.2,p.lD w rfl⟩
        |ref i=>
         simp only[Cq,zY]at hd;split at hd
         ·simp only[Vt]at hd;obtain⟨_,_,z⟩:=hd;cases z
         ·cases hd
        |ktup xs=>simp[Cq,zY]at hd
        |_=>simp[Cq,zY]at hd
       ·cases ok
      have hsz:d.shown.length<=sizeLine/\d.showable=true/\d.depth<=40:=by simp only[Az,UI,U5]at ok;exact⟨dQ ok.2,ok.1.1.1,ok.1.2⟩
      have hn:∀{as:YC},(d.hasDict=true->sysModules∉as):=λ{as} hd=>by simp only[Az,noDict,UI,XM]at ok;rw[ok.1.1.2]at hd;cases hd
      cases z with
      |none=>exact PySem.P.repr_of_none (by simpa [PyData.shown]using fin0 _ _)
      |bool b=>exact PySem.P.repr_of_bool (by simpa [PyData.shown]using fin0 _ _)
      |int i t=>exact PySem.P.repr_of_int (by simpa [PyData.showable]using hsz.2.1) (by simpa [PyData.shown]using fin0 _ _)
      |str x t=>exact PySem.P.repr_of_str (by simpa [PyData.shown]using fin0 _ _) (by simpa [PyData.shown]using hsz.1)
      |list h1 h2 h3 h4=>exact Yl (.list h1 h2 h3 h4) hsz.2.1 hn hr.gd (by have:=hr.units;omega) (λ_ _ e=>e) (λh' t tk hk=>fin h' t tk hk) hsz.1
      |tuple h1 h2 h3 h4=>exact Yl (.tuple h1 h2 h3 h4) hsz.2.1 hn hr.gd (by have:=hr.units;omega) (λ_ _ e=>e) (λh' t tk hk=>fin h' t tk hk) hsz.1
      |dict h1 h2 h3 h4 h5=>exact Yl (.dict h1 h2 h3 h4 h5) hsz.2.1 hn hr.gd (by have:=hr.units;omega) (λ_ _ e=>e) (λh' t tk hk=>fin h' t tk hk) hsz.1
     ·exact p.elim
    ·exact p.elim
 ·exact p.elim
end
section
variable {X:Cx} {E:XK} {k:Nat} {θ:YC} {hm:Hm} {H:Hp} {m ma' mb:ME} {t:MT} {e e1 e2 o i:Expr} {es:YG} {pos:Pos} {ma:MA} {x:Str}
theorem cR(n:Nat)(h:Lit n e d)(s:fz d=true):DE X E (ah d) e:=by
 simp[bS]at *
 exact PE.imp (Hc n h) (by
   rintro σ H Q ⟨θ,hm,ρ,w,fr,p⟩ r H' N s1 nw rp;obtain⟨e1,w1⟩:=w.grow s1;refine p _ _ e1 w1 _ ⟨rp.same λc o q=>?_,s⟩;have nb  := w.Ea (nw c o q).1;rw[dN nb]
   exact(nw c o q).2)
theorem Ek{p:Pos}(hm:∃t,X.mg x=some (.int n t))(hg:Gl X x:=by rfl)(hd:(x==("__debug__" : Str))=false:=by decide):DE X E (ah (.int n)) (.Name x p):=by obtain⟨t,hm⟩:=hm;exact FO (yA (v:=.int n) hg hm ⟨t,rfl⟩ hd) (λ_=>rfl) #[7]
theorem Ku{p:Pos}(hm:∃t,X.mg x=some (.str n t))(hn:PyData.strOk n=true)(hg:Gl X x:=by rfl)(hd:(x==("__debug__" : Str))=false:=by decide):DE X E (ah (.str n)) (.Name x p):=by obtain⟨t,hm⟩:=hm;exact FO (yA (v:=.str n) hg hm ⟨t,rfl⟩ hd) (λ_=>rfl) (by assumption)
theorem Kv(kt:Qq G.K a xs):vg G θ H (xs.map D.dat) (Rm G.K a):=λθ' h' H' ev w=>by
 obtain⟨⟨o,its,n,hl,hc,hd,hz,rv⟩,fl,so⟩:=kt;have q:gm G.K H' a _:=.inr ⟨o,its,n,hl,hc,hd,hz,rv⟩;refine⟨λi d e=>?_,⟨_,q,by simp⟩⟩;rw[VD,Vt]at e;obtain⟨y,ey,rfl⟩:=e;refine⟨⟨_,Qp y,q,by simp[ey]⟩,λx H2 ⟨e2,z⟩=>?_⟩;subst e2;have:=z _ q;rw[VD,ey]at this;cases this;have hy:=fl y (UY ey);refine⟨Ev.refl,w,?_,qz so ey⟩
 cases y with
 |none=>rfl
 |bool b=>rfl
 |int i=>rfl
 |str x=>rfl
 |_=>simp at hy
noncomputable def Qx(e:ME):MA:=λρ h=>(e ρ h).bind λx h1=>match x with
 |.ktup xs=>.ok (xs.map D.dat) h1
 |_=>.bad
theorem Kw(h:DE X E m e):DI X E (Qx m) tg e:=by
 simp[bS,me]at *
 exact PI.imp (GN h) (by rintro σ H R ⟨θ,h,ρ,w,fr,p⟩;exact⟨θ,h,ρ,w,fr,(aL.bind p).mono (by
   rintro d θ1 h1 H1 _ _ ⟨ev,w1,p1⟩ v r
   cases d with
   |ktup xs=>obtain⟨a,e,kt⟩:=r;exact⟨a,e,⟨_,.inr kt.1⟩,p1 θ1 H1 Ev.refl w1 _ (Kv kt)⟩
   |_=>trivial)⟩)
noncomputable def Qy(x:D)(h:Hm):Bool:=match x with
 |.ref j=>match h[j]? with
  |some (.lst _)=>true
  |_=>false
 |_=>false
noncomputable def Ia(f:D->D->Hm->R D)(a b:ME):ME:=λρ h=>(a ρ h).bind λx h1=>if Qy x h1 then(b ρ h1).bind λy h2=>f x y h2 else .bad
theorem Kx{x:D}(e:Qy x h=true):∃j xs,x=.ref j/\h[j]?=some (.lst xs):=by
 unfold Qy at e;split at e
 ·split at e
  ·simp_all
  grind
 grind
theorem qD(w:W G θ hm H)(r:ck G θ H (.ref j) v)(e:hm[j]?=some (.lst xs)):∃a vs,v=.ref a/\θ[j]?=some a/\H a=some (.lst vs)/\aV G θ H xs vs:=by
 obtain⟨a,ha,rfl⟩:=r;obtain⟨vs,hv,rs⟩:=w.obj _ _ _ ha e
 simp_all
theorem aV.erase:∀{xs:List D} {vs:List V} (n:Nat),aV G θ H xs vs->aV G θ H (xs.eraseIdx n) (vs.eraseIdx n)
 |_,_,_,.nil=>.nil
 |_,_,0,.cons _ t=>t
 |_,_,n+1,.cons r t=>.cons r (aV.erase n t)
theorem aV.Qz(q:ck G θ H d v):∀{xs:List D} {vs:List V} (n:Nat),aV G θ H xs vs->aV G θ H (xs.set n d) (vs.set n v)
 |_,_,_,.nil=>.nil
 |_,_,0,.cons _ t=>.cons q t
 |_,_,n+1,.cons r t=>.cons r (aV.Qz q n t)
theorem W.CB(w:W G θ hm H)(ha:θ[j]?=some a)(hl:j<hm.length)(r:aV G θ H xs vs):Ev θ H θ (upd H a (.lst vs))/\W G θ (hm.set j (.lst xs)) (upd H a (.lst vs)):=by
 have hmm  := UY ha
 have e:Ev θ H θ (upd H a (.lst vs)):=⟨⟨[],by simp⟩,λb u q=>by
  obtain⟨h1,h2⟩:=cQ q;have ne:b≠a:=λz=>by grind
  simp_all[dN,aD]⟩
 exact w.write ha hl ⟨vs,aM,r.ev e⟩
theorem jR{α:Type}{xs:List α}{i:Nat}{x:α}(h:xs[i]?=some x):i<xs.length:=(UM.mp h).1
theorem Oj(h:lE G E (Ia f ma' mb) σ H Q)(k:∀θ h H d1 d2 x y,W G θ h H->ck G θ H d1 x->ck G θ H d2 y->aL G (ua G E) θ H (f d1 d2 h) (KV G Q)->r x [y] H Q) :
  TH K "list" r (lE G E ma') (oG (lE G E mb) B6) σ H Q:=by
 obtain⟨θ,h,ρ,w,fr,p⟩:=h;refine⟨θ,h,ρ,w,fr,(aL.bind p).mono λd θ1 h1 H1 _ _ ⟨ev,w1,p1⟩ v r1=>?_⟩;split at p1
 ·rename_i hl;obtain⟨j,xs,rfl,hx⟩:=Kx hl;obtain⟨a,vs,rfl,ha,hv,rs⟩:=qD w1 r1 hx;exact⟨.inl ⟨rfl,_,gY.of hv⟩,θ1,h1,ρ,w1,fr.ev ev,(aL.bind p1).mono (by rintro d2 θ2 h2 H2 _ _ ⟨ev2,w2,p2⟩ y r2;exact k θ2 h2 H2 _ d2 _ y w2 (r1.ev ev2) r2 p2)⟩
 ·trivial
theorem Ib{apos cpos:Pos}(ho:DE X E ma' o)(ha:DE X E mb e)(hbase:attributeBase o "pop" X.env (eval o X.env)=eval o X.env:=by rfl)
 (hfew:((backTo cpos (starEach [e] X.env)).all (λx=>!x.1)&&(backToKw cpos (keywordEach [] X.env)).all (λx=>x.1.isSome)&&decide ([e].length+([]:List Keyword).length+(if([]:List Keyword).isEmpty then 0 else 1)<30))=true:=by rfl)
 (hline:(apos.endLine==cpos.line)=true:=by rfl)(hs:starEach [e] X.env=(false,eval e X.env)::starEach [] X.env:=by rfl)(hplain:(backTo cpos (starEach [] X.env)).any (·.1)=false:=by rfl):DE X E (Ia rN ma' mb) (.Call (.Attribute o "pop" apos) [e] [] cpos):=by
 simp only[bS]at *
 exact PE.imp (GZ Xz PySem.F.slot_list_pop PySem.F.type_list_pop G0 ho (bh ha fc hs) hbase hfew hline hs hplain) λσ H Q q=>Oj q λθ h H d1 d2 x y w r1 r2 p=>by
   unfold rN at p;split at p
   ·rename_i j kk;split at p
    ·rename_i xs hx;split at p
     ·rename_i hz;split at p
      ·rename_i d hd;obtain⟨a,vs,rfl,ha,hv,rs⟩:=qD w r1 hx;have hl:xs.length=vs.length:=U9 rs;obtain⟨z,ez,rz⟩:=rs.some hd;obtain⟨e1,w1⟩:=w.CB ha (jR hx) (aV.erase kk.toNat rs);refine⟨a,vs,kk,kk.toNat,z,rfl,by rw[cn r2],hv,by omega,by omega,?_,ez,p _ _ e1 w1 _ (rz.ev e1)⟩;exact PySem.seqIndex_of hz.1 #[4]
      ·exact p.elim
     ·exact p.elim
    ·exact p.elim
   ·exact p.elim
theorem FY{x y v:V}(w:W G θ hm H)(r1:ck G θ H d1 x)(r2:ck G θ H d2 y)(rd:ck G θ H d v)(p:aL G F θ H (D3 d1 d2 d hm) (λ_ _ _ H'=>Q H')):L9 x y v H Q:=by
 cases d1 with
 |ref j=>
  cases d2 with
  |dat dd=>
   cases dd with
   |int kk=>
    simp only[D3]at p
    cases hx:hm[j]? with
    |none=>rw[hx]at p;exact p.elim
    |some oo=>
     rw[hx]at p
     cases oo with
     |lst xs=>
      simp only at p
      cases hn:xJ xs.length kk with
      |none=>rw[hn]at p;exact p.elim
      |some n=>rw[hn]at p;obtain⟨a,vs,rfl,ha,hv,rs⟩:=qD w r1 hx;have hl:xs.length=vs.length:=U9 rs;obtain⟨e1,w3⟩:=w.CB ha (jR hx) (aV.Qz rd n rs);exact⟨a,vs,kk,n,rfl,cn r2,hv,by rw[<- hl];exact hn,p _ _ e1 w3⟩
     |_=>exact p.elim
   |_=>exact p.elim
  |_=>exact p.elim
 |_=>exact p.elim
theorem Em{α β:Type}{xs:List α}{ys:List β}(h:xs.length=ys.length):(!xs.isEmpty)=!ys.isEmpty:=by
 grind
theorem AJ(w:W G θ hm H)(r:ck G θ H d v)(e:truth d hm=some b):Nk G.K v H b:=by
 unfold truth at e;split at e
 ·cases e;cases r.1;rfl
 ·cases e;cases r.1;rfl
 ·cases e;cases r.1;rfl
 ·split at e
  ·rename_i hz;cases e;cases r.1;exact⟨dQ hz,rfl⟩
  grind
 ·cases e;obtain⟨a,us,rfl,ha,q1,_⟩:=gA r;exact .inr (.inl ⟨us,gm.of (aF _ _ _ _ ha),Em q1.length.symm⟩)
 ·cases e;obtain⟨a,us,rfl,ha,q1,_⟩:=gB r;exact .inl ⟨us,gY.of (aF _ _ _ _ ha),Em q1.length.symm⟩
 ·split at e
  ·rename_i xs hx;cases e;obtain⟨a,vs,rfl,ha,hv,rs⟩:=qD w r hx;refine .inl ⟨vs,gY.of hv,?_⟩;cases rs<;>rfl
  ·cases e
 grind
theorem bU(h:DE X E m e)(he:∀whole,isTrue e X.env whole=(do let v <- whole;standAt e.pos;holding [v] (truthy v)):=by intro _;rfl):DT X E (bK m) e:=by
 simp[bS,lY]at *
 exact PT.imp (GW h he) (by rintro σ H Q ⟨θ,h,ρ,w,fr,p⟩;exact⟨θ,h,ρ,w,fr,(aL.bind p).mono (by
   rintro d θ1 h1 H1 _ _ ⟨ev,w1,p1⟩ v r;split at p1
   ·rename_i b hb;exact⟨b,AJ w1 r hb,p1 θ1 H1 Ev.refl w1⟩
   ·trivial)⟩)
theorem Ic(hr:bO k X.A){σ:L2.St}{x y:V}(I:#[11])(rx:RelV x v)(ry:RelV y u)(w:W X.G θ h H)(r1:ck X.G θ H d1 x)(r2:ck X.G θ H d2 y)(hb:kf d1 d2 h=some b) :
  (Q (.bl b) H->wpAny #[12] X.A (compareOp .In v u) (EP X pins σ Q) X.xe s)/\(Q (.bl !b) H->wpAny #[12] X.A (compareOp .NotIn v u) (EP X pins σ Q) X.xe s):=by
 unfold kf at hb;split at hb
 ·split at hb
  ·cases hb;exact⟨λq=>E9 pins s σ H x y v u Q I rx ry ⟨_,_,(fT r1).1,(fT r2).1,q⟩,λq=>yB pins s σ H x y v u Q I rx ry ⟨_,_,(fT r1).1,(fT r2).1,q⟩⟩
  grind
 ·split at hb
  ·rename_i d ds e1 e2;obtain⟨⟨as,z1⟩,s1⟩:=fS I w 3 r1 rx e1;obtain⟨⟨bs,z2⟩,s2⟩:=fS I w 3 r2 ry e2;exact HN hr (.inl rfl) I z1 z2 s1 (by assumption) hb
  ·rename_i d ds e1 e2;obtain⟨⟨as,z1⟩,s1⟩:=fS I w 3 r1 rx e1;obtain⟨⟨bs,z2⟩,s2⟩:=fS I w 3 r2 ry e2;exact HN hr (.inr rfl) I z1 z2 s1 (by simpa [fz]using s2) hb
  grind
end
section
variable {X:Cx} {E:XK} {k:Nat} {θ:YC} {hm:Hm} {H M:Hp} {pins:Yx} {σ:L2.St} {s:YO}
theorem ko:∀{ks:List (Key×V)} {kvs:Yy},bW ks=some kvs->xV (.str x) kvs=(ks.any λkv=>decide (kv.1=Sum.inr x))
 | [],kvs,e=>by cases e;rfl
 | (q,v)::ks,kvs,e=>by
  unfold bW at e
  cases e1:iY v with
  |none=>simp_all
  |some d=>
   cases e2:bW ks with
   |none=>simp_all
   |some ds=>
    rw[e1,e2]at e;cases e;have ih:=ko (x:=x) e2;unfold xV at ih ⊢;rw[Yq,Yq,ih]
    grind[Fs,PyData.eqv]
where
 key_lr' {a:Int} {b:Str}:decide ((Sum.inl a:Key)=Sum.inr b)=false:=Vj (λq=>nomatch q)
theorem En(q:Key)(x:Str):PyData.eqv (Fs q) (.str x)=decide (q=Sum.inr x):=by
 grind[Fs,PyData.eqv]
theorem vx(hv:iY u=some dv):∀{ks:List (Key×V)} {kvs:Yy},bW ks=some kvs ->
  bW (ks.map λkv=>if kv.1=Sum.inr x then(kv.1,u)else kv)=some (kvs.map λp=>if PyData.eqv p.1 (.str x)then(p.1,dv)else p)
 | [],kvs,e=>by cases e;rfl
 | (q,v)::ks,kvs,e=>by
  unfold bW at e
  cases e1:iY v with
  |none=>simp_all
  |some d=>
   cases e2:bW ks with
   |none=>simp_all
   |some ds=>
    rw[e1,e2]at e;cases e;have ih:=vx (x:=x) hv e2;rw[Vn,Vn,En];by_cases hq:q=Sum.inr x
    ·simp_all[bW,hv,ih]
    simp_all[hq,decide_false,Vu,US,bW,e1,ih]
theorem sZ(hv:iY u=some dv):∀{ks:List (Key×V)} {kvs:Yy},bW ks=some kvs->bW (ks++[(Sum.inr x,u)])=some (kvs++[(.str x,dv)])
 | [],kvs,e=>by simp_all[bW,hv,Fs]
 | (q,v)::ks,kvs,e=>by
  unfold bW at e
  cases e1:iY v with
  |none=>simp_all
  |some d=>
   cases e2:bW ks with
   |none=>simp_all
   |some ds=>rw[e1,e2]at e;cases e;have ih:=sZ (x:=x) hv e2;rw[WL];unfold bW;rw[e1,ih];rfl
theorem CC(hv:iY u=some dv)(e:bW ks=some kvs):bW (putK ks (Sum.inr x) u)=some (dput kvs (.str x) dv):=by
 unfold putK dput;rw[ko e];split
 ·exact vx hv e
 ·exact sZ hv e
theorem vz:∀{ks:List (Key×V)} {kvs:Yy},bW ks=some kvs->ks.length=kvs.length
 | [],kvs,e=>by cases e;rfl
 | (q,v)::ks,kvs,e=>by
  unfold bW at e
  cases e1:iY v with
  |none=>simp_all
  |some d=>
   cases e2:bW ks with
   |none=>simp_all
   |some ds=>rw[e1,e2]at e;cases e;simp[vz e2]
theorem vA:∀{ks:List (Key×V)} {kvs:Yy} {d:PyData},bW ks=some kvs->HA kvs (.str x)=some d->∃u,t6 ks (Sum.inr x)=some u/\iY u=some d
 | [],kvs,d,e,g=>by cases e;grind[HA]
 | (q,v)::ks,kvs,d,e,g=>by
  unfold bW at e
  cases e1:iY v with
  |none=>simp_all
  |some d'=>
   cases e2:bW ks with
   |none=>simp_all
   |some ds=>
    rw[e1,e2]at e;cases e;unfold HA at g;rw[List.find?_cons,En]at g;by_cases hq:q=Sum.inr x
    ·simp only[hq,decide_true]at g;simp at g;subst g;exact⟨v,qd (p:=(q,v)) hq,e1⟩
    ·simp only[hq,decide_false]at g;obtain⟨u,h1,h2⟩:=vA (x:=x) e2 g;exact⟨u,by rw[qe (p:=(q,v)) hq];exact h1,h2⟩
theorem Ie(h:iY u=some d):Rep M d u:=by
 cases u with
 |non=>cases h;rfl
 |bl b=>cases h;rfl
 |int i=>cases h;rfl
 |str x=>cases h;rfl
 |_=>cases h
theorem Ig(f:Hz d=true)(h:Rep M d u):iY u=some d:=by
 cases d with
 |none=>cases h;rfl
 |bool b=>cases h;rfl
 |int i=>cases h;rfl
 |str x=>cases h;rfl
 |_=>trivial
theorem kq(tq:aI q=true):∀{kvs:Yy} {xs:List (PyData×Addr×Value)},Paired (t9 M) kvs xs->xV q kvs=(atKey xs q).isSome
 |_,_,.nil=>rfl
 |_,_,.cons (a:=p) (b:=x) h t=>by
  have ih:=kq tq t;unfold xV at ih ⊢;unfold atKey at ih ⊢;rw[Yq,List.find?_cons,ih];by_cases e:x.1=q
  ·rw[Vz e,h.1,e,br (aY tq)];rfl
  ·have  := bb (aY h.2.1) (aY tq) (by rw[h.1];exact e)
   simp_all
theorem Ih(I:#[11])(sm:aX M H)(t:aI d=true)(dp:d.depth<=8)(so:fz d=true)(r:Rep M d (.ref a)):N3 s.heap d a:=by obtain⟨as,z⟩:=Rep.reads I (r.same sm) rfl;exact⟨t,dp,so,as,z⟩
theorem Eo(I:#[11])(sm:aX M H):∀{kvs:Yy} {xs:List (PyData×Addr×Value)},Paired (t9 M) kvs xs->∀x∈xs,N3 s.heap x.1 x.2.1
 |_,_,.nil,x,hx=>by cases hx
 |_,_,.cons h t,x,hx=>by
  rcases UO.mp hx with rfl|hx
  ·obtain⟨e,t1,t2,t3,t4,_⟩:=h;rw[<- e];exact Ih I sm t1 t2 t3 t4
  ·exact Eo I sm t x hx
theorem Ii(I:#[11])(sm:aX M H)(ha:H a=some (dO X.prog X.w xs a))(r:Paired (t9 M) kvs xs) :
  kvs.length<=sizeLine/\(a==sysModules)=false/\s.heap.DictOfH (iA X.prog X.w) a xs:=by
 obtain⟨⟨h1,h2,o,es,ep,h3,h4,h5,h6,h7⟩,_⟩:=I.hok a _ ha;exact⟨by rw[U9 r];exact h1,h2,o,es,ep,h3,h4,h5,h6,Eo I sm r,h7⟩
theorem Ol(ha:H a=some (dO X.prog X.w xs a)):Ph (H a):=by rw[ha];exact True.intro
theorem AK(tq:aI q=true)(rv:RelV v u)(rd:Rep M dv v)(sd:fz dv=true):∀{kvs:Yy} {xs:List (PyData×Addr×Value)},Paired (t9 M) kvs xs ->
  Paired (t9 M) (kvs.map λp=>if PyData.eqv p.1 q then(p.1,dv)else p) (xs.map (putAt q u))
 |_,_,.nil=>.nil
 |_,_,.cons (a:=p) (b:=x) h t=>by
  rw[Vn,Vn];refine .cons ?_ (AK tq rv rd sd t);unfold putAt;by_cases e:x.1=q
  ·have e2:PyData.eqv p.1 q=true:=by rw[h.1,e];exact br (aY tq)
   rw[if_pos e,if_pos e2];exact⟨h.1,h.2.1,h.2.2.1,h.2.2.2.1,h.2.2.2.2.1,v,rv,rd,sd⟩
  ·have e2  := bb (aY h.2.1) (aY tq) (by rw[h.1];exact e)
   grind
theorem Ij(tq:aI q=true)(dq:q.depth<=8)(sq:fz q=true)(rq:Rep M q (.ref b))(rv:RelV v u)(rd:Rep M dv v)(sd:fz dv=true)(r:Paired (t9 M) kvs xs) :
  Paired (t9 M) (dput kvs q dv) (storedH xs q b u):=by
 unfold dput storedH;rw[kq tq r];split
 ·exact AK tq rv rd sd r
 ·exact gC r (.cons ⟨rfl,tq,dq,sq,rq,v,rv,rd,sd⟩ .nil)
theorem Ik(kvs:Yy)(q v:PyData):(dput kvs q v).length<=kvs.length+1:=by
 unfold dput;split
 ·simp
 ·simp
theorem W.Il(w:W G θ hm H)(ha:θ[j]?=some a)(hl:j<hm.length)(r:gf G.P G.w (view θ H) (upd H a o) a t kvs):Ev θ H θ (upd H a o)/\W G θ (hm.set j (.kU t kvs)) (upd H a o):=by
 have hmm  := UY ha
 have e:Ev θ H θ (upd H a o):=⟨⟨[],by simp⟩,λb u q=>by
  obtain⟨h1,h2⟩:=cQ q;have ne:b≠a:=λz=>by grind
  simp_all[dN,aD]⟩
 exact w.write ha hl (gf.same e.same r λ_ q=>q)
noncomputable def QA(G:Gx)(E:XK):V->V->V->Hp->(Hp->Prop)->Prop:=λx y v H Q=>∃θ h d1 d2 d,W G θ h H/\ck G θ H d1 x/\ck G θ H d2 y/\ck G θ H d v/\aL G (ua G E) θ H (yV d1 d2 d h) (λ_ _ _ H'=>Q H')
theorem Ky(hr:bO k X.A):M4 X (QA X.G E):=by
 rintro pins s σ H x y v xv yv u Q I rx ry rv ⟨θ,h,d1,d2,d,w,r1,r2,rd,p⟩;unfold yV at p;split at p
 ·rename_i j;split at p
  ·rename_i t kvs hx;unfold Mf at p;split at p
   ·rename_i q dv;split at p
    ·rename_i hc;simp only[UI,U5,V3]at hc;obtain⟨a,ha,rfl⟩:=r1;cases rx;rcases w.obj _ _ _ ha hx with⟨rfl,ks,h1,h2,h3⟩|⟨rfl,xs,h1,h2⟩
     ·have hk:∃z,q=.str z:=by
       have:=hc.1.1;simp only[keyOk,US,Vu]at this;cases q<;>first|exact⟨_,rfl⟩|simp[ph]at this
      obtain⟨z,rfl⟩:=hk;have fd:Hz dv=true:=by rcases hc.1.2 with z|z;cases z;exact z
      have hv:=Ig fd rd.1;obtain⟨e2,s2⟩:=fT r2;subst e2
      have so:∀p∈dput kvs (.str z) dv,fz p.1=true/\fz p.2=true:=λp hp=>by
       unfold dput at hp;split at hp
       ·obtain⟨p0,hp0,e0⟩:=U0.mp hp;split at e0
        ·subst e0;exact⟨(h3 p0 hp0).1,rd.2⟩
        ·subst e0;exact h3 p0 hp0
       ·rcases U1.mp hp with hp|hp
        ·exact h3 p hp
        ·simp at hp;subst hp;exact⟨by simpa [fz]using s2,rd.2⟩
      obtain⟨e1,w1⟩:=w.Il (o:=.dK (putK ks (Sum.inr z) v)) (t:=false) (kvs:=dput kvs (.str z) dv) ha (jR hx) (.inl ⟨rfl,_,aM,CC hv h2,so⟩);exact Fo (by have:=hr.units;omega) I (J8.k (k:=Sum.inr z) h1 (by rw[vz h2,XO];exact hc.2)) ry rv λs' I'=>⟨_,I',p _ _ e1 w1⟩
     ·have hk:=hc.1.1;simp only[keyOk,VT,UI,U5]at hk
      obtain⟨b,vs,rfl,hb⟩:∃b vs,y=.ref b/\view θ H b=some (.tup vs):=by
       cases q with
       |tuple ds=>obtain⟨b,vs,e,hb,_⟩:=r2.1;exact⟨b,vs,e,hb⟩
       |_=>simp[jo]at hk
      cases ry;obtain⟨hz,hsys,dd⟩:=Ii I (aF θ H) h1 h2;have hz2:xs.length<=sizeLine:=by rw[<- show kvs.length=xs.length from U9 h2];exact hz
      have kr:=Ij (b:=b) (u:=u) hk.1.2 hk.2 r2.2 r2.1 rv rd.1 rd.2 h2;refine wpAny_setItem_heap (knd:=iA X.prog X.w) (hsz:=hz2) (by show X.A.units+1+20<cLine;have:=hr.units;omega) (Ih I (aF θ H) hk.1.2 hk.2 r2.2 r2.1) dd λh' dd' hs=>?_;obtain⟨o,es,ep,g1,g2,g3,g4,_,g5⟩:=dd';have hl2:(storedH xs q b u).length<=sizeLine:=by rw[<- show(dput kvs q dv).length=_ from U9 kr];have:=Ik kvs q dv;rw[XO];omega
      refine⟨_,uk (t':=_) I (Ol h1) hs ⟨o,g1⟩ (Qo (xs:=storedH xs q b u) hl2 hsys g1 g2 g3 g4 g5),?_⟩;obtain⟨e1,w1⟩:=w.Il (o:=dO X.prog X.w (storedH xs q b u) a) (t:=true) (kvs:=dput kvs q dv) ha (jR hx) (.inr ⟨rfl,_,aM,kr⟩);exact p _ _ e1 w1
    ·exact p.elim
   ·exact p.elim
  ·exact set_list pins s σ H x y v xv yv u Q I rx ry rv (FY w r1 r2 rd p)
 ·exact p.elim
theorem Im(hr:bO k X.A)(ho:DE X E ma' o)(hi:DE X E mb i)(ha:∀v,assign (.Subscript o i pos) X.env v=(do
   let ov <- holding [v] (eval o X.env)
   let iv <- holding [v,ov] (eval i X.env)
   standAt pos
   holding [v,ov,iv] (setItem ov iv v)
   release [v,ov,iv] []):=by intro _;rfl):DG X E (Ad ma' mb) (.Subscript o i pos):=by
 simp[bS,oO]at *;exact by rintro pins s σ H v u Q I r ⟨θ,h,ρ,d,w,fr,rd,p⟩;exact M6 ho hi (Ky hr) ha pins s σ H v u Q I r ⟨θ,h,ρ,w,fr,(aL.bind p).mono (by rintro d1 θ1 h1 H1 _ _ ⟨ev,w1,p1⟩ x r1;exact⟨θ1,h1,ρ,w1,fr.ev ev,(aL.bind p1).mono (by rintro d2 θ2 h2 H2 _ _ ⟨ev2,w2,p2⟩ y r2;exact⟨θ2,h2,d1,d2,d,w2,r1.ev ev2,r2,rd.ev (ev.trans ev2),(aL.bind p2).mono (by rintro _ θ3 h3 H3 _ _ ⟨ev3,w3,p3⟩;exact p3 θ3 H3 Ev.refl w3 σ (((fr.ev ev).ev ev2).ev ev3))⟩)⟩)⟩
end
section
variable {X:Cx} {E:XK} {k:Nat} {θ:YC} {hm:Hm} {H M:Hp} {pins:Yx} {σ:L2.St} {s:YO} {pos:Pos} {e:Expr}
theorem AL(w:W G θ hm H)(r:ck G θ H d v)(e:jN d hm=some (t,kvs)):∃a,v=.ref a/\gf G.P G.w (view θ H) H a t kvs:=by
 unfold jN at e;split at e
 ·cases e;obtain⟨a,h1,h2⟩:=r;exact⟨a,h1,h2.same (aX.refl _) λo q=>aF _ _ _ _ q⟩
 ·split at e
  ·rename_i hx;cases e;obtain⟨a,ha,h1⟩:=r;exact⟨a,h1,w.obj _ _ _ ha hx⟩
  grind
 grind
theorem Kz(hr:bO k X.A)(I:#[11])(rx:RelV x v)(w:W X.G θ h H)(r1:ck X.G θ H d1 x)(dc:gf X.prog X.w (view θ H) H a t kvs)(hb:Cr d1 kvs t=some b) :
  (Q (.bl b) H->wpAny #[12] X.A (compareOp .In v (.ref a)) (EP X pins σ Q) X.xe s)/\(Q (.bl !b) H->wpAny #[12] X.A (compareOp .NotIn v (.ref a)) (EP X pins σ Q) X.xe s):=by
 unfold Cr at hb;split at hb
 ·rename_i d;split at hb
  ·rename_i ok;cases hb;rcases dc with⟨rfl,ks,h1,h2,h3⟩|⟨rfl,xs,h1,h2⟩
   ·simp only[keyOk,US,Vu]at ok
    cases d with
    |str z=>
     cases(fT r1).1
     exact⟨λq=>Sq (by have:=hr.units;omega) I (Ao.k (k:=Sum.inr z) h1) rx λs' I'=>⟨.bl _,H,I',rfl,by rw[<- qf,<- ko h2];exact q⟩,
      λq=>J9 (by have:=hr.units;omega) I (Ao.k (k:=Sum.inr z) h1) rx λs' I'=>⟨.bl _,H,I',rfl,by rw[<- qf,<- ko h2];exact q⟩⟩
    |_=>simp[ph]at ok
   ·simp only[keyOk,VT,UI,U5]at ok
    cases d with
    |tuple ds=>
     obtain⟨c,vs,rfl,hc,_⟩:=id r1.1;cases rx;obtain⟨hz,hsys,dd⟩:=Ii I (aF θ H) h1 h2;have room:(iA X.prog X.w).room X.A.in1:=by show X.A.units+1+20<cLine;have:=hr.units;omega
     have tk:=Ih I (aF θ H) ok.1.2 ok.2 r1.2 r1.1
     exact⟨λq=>wpAny_in_heap (knd:=iA X.prog X.w) room tk hsys dd ⟨.bl _,H,I.tok _,rfl,by rw[<- kq ok.1.2 h2];exact q⟩,
      λq=>PyProof.Rows.wpAny_notIn_heap (knd:=iA X.prog X.w) room tk hsys dd ⟨.bl _,H,I.tok _,rfl,by rw[<- kq ok.1.2 h2];exact q⟩⟩
    |_=>simp[jo]at ok
  grind
 grind
theorem Ep(hr:bO k X.A)(I:#[11])(rx:RelV x v)(ry:RelV y u)(w:W X.G θ h H)(r1:ck X.G θ H d1 x)(r2:ck X.G θ H d2 y)(hb:findIn d1 d2 h=some b) :
  (Q (.bl b) H->wpAny #[12] X.A (compareOp .In v u) (EP X pins σ Q) X.xe s)/\(Q (.bl !b) H->wpAny #[12] X.A (compareOp .NotIn v u) (EP X pins σ Q) X.xe s):=by
 unfold findIn at hb;split at hb
 ·rename_i p hp;obtain⟨a,rfl,dc⟩:=AL w r2 hp;cases ry;exact Kz hr I rx w r1 dc hb
 ·exact Ic hr I rx ry w r1 r2 hb
theorem KA(hr:bO k X.A):qw X E (compareOp .In) JB:=by
 rintro pins s σ H x y v u Q I rx ry ⟨θ,h,d1,d2,w,r1,r2,p⟩;unfold JB at p;split at p
 ·rename_i b hb;exact(Ep hr I rx ry w r1 r2 hb).1 (p.lD w (cE _))
 ·trivial
theorem s9(hr:bO k X.A):qw X E (compareOp .NotIn) gJ:=by
 rintro pins s σ H x y v u Q I rx ry ⟨θ,h,d1,d2,w,r1,r2,p⟩;unfold gJ at p;split at p
 ·rename_i b hb;exact(Ep hr I rx ry w r1 r2 hb).2 (p.lD w (cE _))
 ·trivial
theorem Io(h:∀p∈kvs,fz p.1=true/\fz p.2=true)(e:HA kvs q=some d):fz d=true:=by
 obtain⟨p,hp,rfl⟩:=Vt.mp e
 grind
theorem bg(hr:bO k X.A):Pl X (N4 X.G E dz):=by
 rintro value slice pins s σ H x y v u Q I rx ry ⟨θ,h,d1,d2,w,r1,r2,p⟩ hs;unfold dz at p;split at p
 ·rename_i pp hp;obtain⟨t,kvs⟩:=pp;split at p
  ·rename_i z;split at p
   ·trivial
   ·rename_i ht;split at p
    ·rename_i d hd;obtain⟨a,rfl,dc⟩:=AL w r1 hp;cases rx;rcases dc with⟨_,ks,h1,h2,h3⟩|⟨z1,_⟩
     ·obtain⟨e2,s2⟩:=fT r2;subst e2;obtain⟨uu,g1,g2⟩:=vA h2 hd;have T:s.TypeIs (.ref a) "dict" := by obtain⟨_,_,vs,_,o,_,_,e,ex,_⟩:=I.hok a _ h1;exact⟨o,e,ex.1⟩
      exact PyProof.Rows.tail_any (ops:=[.ref a,u]) T PySem.F.slot_dict_getitem.lookup (Fj (by have:=hr.units;omega) I (by have:=Ao.k (k:=Sum.inr z) h1;rw[g1]at this;exact this) ry λw' s' I' rw'=>⟨uu,H,I',rw',p.lD w ⟨Ie g2,Io h3 hd⟩⟩) hs
     grind
    ·exact p.elim
  ·exact p.elim
 ·exact HV value slice pins s σ H x y v u Q I rx ry ⟨θ,h,d1,d2,w,r1,r2,p⟩ hs
end
theorem ck.take(r:ck G θ H d v)(hb:d.below n=true):ck G (θ.take n) H d v:=by
 have sm:aX _ (view (θ.take n) H):=λa o q=>by obtain⟨h1,h2⟩:=cQ q;rw[dN (λz=>h1 (Xd z))];exact h2
 cases d with
 |dat d=>exact⟨r.1.same sm,r.2⟩
 |ref i=>obtain⟨a,h1,h2⟩:=r;simp[D.below]at hb;exact⟨a,by simp_all,h2⟩
 |kU t kvs=>obtain⟨a,h1,h2⟩:=r;exact⟨a,h1,h2.same sm λo q=>sm _ _ q⟩
 |set xs=>exact r
 |fn n=>exact r
 |scr ns=>obtain⟨a,h1,h2⟩:=r;exact⟨a,h1,sm.seq h2⟩
 |ktup xs=>exact r
 |rpr x=>exact r
 |exc x=>obtain⟨a,c,h1,h2,h3⟩:=r;exact⟨a,c,h1,sm _ _ h2,h3⟩
theorem aV.take:∀{ds:List D} {vs:List V},aV G θ H ds vs->ds.all (D.below n)=true->aV G (θ.take n) H ds vs
 |_,_,.nil,_=>.nil
 |_,_,.cons r t,h=>by simp only[List.all_cons,UI]at h;exact .cons (r.take h.1) (aV.take t h.2)
theorem W.take(w:W G θ h H)(hb:(h.take n).all (MO.below n)=true):W G (θ.take n) (h.take n) H:=by
 have sm:aX _ (view (θ.take n) H):=λa o q=>by obtain⟨h1,h2⟩:=cQ q;rw[dN (λz=>h1 (Xd z))];exact h2
 refine⟨by simp[w.len],w.nd.sublist (List.take_sublist _ _),λi a o h1 h2=>?_⟩
 have hi:i<n:=by
  grind
 have mo:=UU.mp hb o (UY h2);rw[List.getElem?_take_of_lt hi]at h1 h2;have r:=w.obj i a o h1 h2
 cases o with
 |lst xs=>obtain⟨vs,q1,q2⟩:=r;exact⟨vs,q1,q2.take mo⟩
 |kU t kvs=>exact gf.same sm r λ_ q=>q
 |ins=>trivial
 |tab P q=>obtain⟨rfl,x⟩:=r;exact⟨rfl,x.same sm λ_ q=>q⟩
theorem Ev.take(e:Ev θ H θ' H')(hn:n=θ.length):Ev θ H (θ'.take n) H':=by
 obtain⟨ext,rfl⟩:=e.pre;have:(θ++ext).take n=θ:=by grind
 rw[this];refine⟨⟨[],by simp⟩,λa o q=>?_⟩;obtain⟨h1,h2⟩:=cQ (e.same a o q);rw[dN (λz=>h1 (VJ _ z))];exact h2
theorem aL.gI(w:W G θ h H)(p:aL G (ua G E) θ H (gI F ds h) (KV G Q)):aL G (ua G E) θ H (F ds h) (KV G Q):=by
 unfold Ml.gI at p
 cases e:F ds h with
 |bad=>simp_all
 |ok d h'=>
  rw[e]at p;simp only at p;split at p
  ·rename_i hc;simp only[UI]at hc;intro θ' H' ev w' v r;have w2:=w'.take hc.1.2;have ev2:=ev.take w.len.symm;exact p _ _ ev2 w2 v (r.take hc.1.1)
  ·trivial
 |exc x h'=>
  rw[e]at p;simp only at p;split at p
  ·rename_i hc;simp only[UI]at hc;intro θ' H' ev w' cls da xr;have w2:=w'.take hc.1;have ev2:=ev.take w.len.symm;exact p _ _ ev2 w2 cls da xr
  ·trivial
theorem bu.gI(h:bu P w K mg base x ps k F):bu P w K mg base x ps k (Ml.gI F):=by obtain⟨⟨f,fd,h1,h2,h3,h4⟩,ar⟩:=h;refine⟨⟨f,fd,h1,h2,h3,h4.imp (by rintro vs H Q E ⟨θ,hm,ds,w,r,p⟩;exact⟨θ,hm,ds,w,r,p.gI w⟩)⟩,λds hm l=>?_⟩;unfold Ml.gI;rw[ar ds hm l]
end Ml
namespace L2
open PySem PySem.Spec
section
variable {X:Cx} {a b:Expr} {rest:YG} {ta tb:TE} {pos:Pos}
theorem KC(ht:PR X r)(ha:PE X a ta)(hb:PE X (.BoolOp .And (b::rest) pos) tb):PE X (.BoolOp .And (a::b::rest) pos) (λσ H Q=>ta σ H λx H1=>r x H1 λc H2=>H2=H1/\if c=true then tb σ H1 Q else Q x H1):=by
 intro pins s σ H Q I h;refine PyProof.Rows.BoolOp_and (cU (ha pins s σ H _ I h) λv s1 ⟨x,H1,I1,r1,q1⟩=>?_);refine cU (ht pins s1 σ H1 x v _ I1 r1 q1) λc s2 ⟨H2,I2,e,q2⟩=>?_;subst e
 cases c with
 |true=>exact hb pins s2 σ H2 Q I2 q2
 |false=>exact⟨x,H2,I2,r1,q2⟩
end
end L2
namespace Ml
open PySem PySem.Spec L2
section
variable {X:Cx} {E:XK} {m a b c:ME} {t u:MT} {e e1 e2 e3:Expr} {es:YG} {ma:MA} {pos:Pos} {i:Nat} {x:Str}
noncomputable def SF(a b:ME):ME:=λρ h=>(a ρ h).bind λx h1=>match truth x h1 with
 |some c=>if c then .ok x h1 else b ρ h1
 |none=>.bad
noncomputable def vB(a b:ME):ME:=λρ h=>(a ρ h).bind λx h1=>match truth x h1 with
 |some c=>if c then b ρ h1 else .ok x h1
 |none=>.bad
theorem qF(ha:DE X E a e1)(hb:DE X E b (.BoolOp .And (e2::es) pos)):DE X E (vB a b) (.BoolOp .And (e1::e2::es) pos):=by
 simp[bS]at *
 exact PE.imp (KC GV ha hb) (by rintro σ H Q ⟨θ,h,ρ,w,fr,p⟩;exact⟨θ,h,ρ,w,fr,(aL.bind p).mono (by
   rintro d θ1 h1 H1 _ _ ⟨ev,w1,p1⟩ v r;split at p1
   ·rename_i b hb;refine⟨b,AJ w1 r hb,rfl,?_⟩
    cases b with
    |false=>exact p1 θ1 H1 Ev.refl w1 v r
    |true=>exact⟨θ1,h1,ρ,w1,fr.ev ev,p1⟩
   ·trivial)⟩)
noncomputable def mi(f g:D->D->Hm->R D)(a b c:ME):ME:=λρ h=>(a ρ h).bind λx h1=>(b ρ h1).bind λy h2=>(f x y h2).bind λz h3=>match z with
 |.dat (.bool k)=>if k then(c ρ h3).bind λw h4=>g y w h4 else .ok (.bool false) h3
 |_=>.bad
theorem AM(h:lE G E (mi f g a b c) σ H Q):B3 (N4 G E f) (N4 G E g) (lE G E a) (lE G E b) (lE G E c) σ H Q:=by
 obtain⟨θ,h,ρ,w,fr,p⟩:=h;refine⟨θ,h,ρ,w,fr,(aL.bind p).mono λx θ1 h1 H1 _ _ ⟨e1,w1,p1⟩ v r1=>?_⟩;refine⟨θ1,h1,ρ,w1,fr.ev e1,(aL.bind p1).mono λy θ2 h2 H2 _ _ ⟨e2,w2,p2⟩ u r2=>⟨θ2,h2,x,y,w2,r1.ev e2,r2,(aL.bind p2).mono λz θ3 h3 H3 _ _ ⟨e3,w3,p3⟩ z' r3=>?_⟩⟩
 cases z with
 |dat z=>
  cases z with
  |bool k=>
   refine⟨k,r3.1,?_⟩
   cases k with
   |true=>exact⟨θ3,h3,ρ,w3,(fr.ev e1).ev (e2.trans e3),(aL.bind p3).mono (by rintro w' θ4 h4 H4 _ _ ⟨e4,w4,p4⟩ q r4;exact⟨θ4,h4,y,w',w4,(r2.ev e3).ev e4,r4,p4⟩)⟩
   |false=>exact p3 θ3 H3 Ev.refl w3 _ ⟨rfl,by rfl⟩
  |_=>trivial
 |_=>trivial
theorem Ip(ho:qw X E (compareOp op) f)(ho':qw X E (compareOp op') g)(ha:DE X E a e1)(hb:DE X E b e2)(hc:DE X E c e3)
 (hm:lastMarks [op,op'] [e2,e3]=false:=by with_unfolding_all rfl):DE X E (mi f g a b c) (.Compare e1 [op,op'] [e2,e3] pos):=by
 simp[bS]at *;exact PE.imp (GS ho ho' ha hb hc hm) λ_ _ _=>AM
theorem AN(ho:qw X E (compareOp op) f)(ho':qw X E (compareOp op') g)(ha:DE X E a e1)(hb:DE X E b e2)(hc:DE X E c e3)
 (hm:lastMarks [op,op'] [e2,e3]=false:=by with_unfolding_all rfl):DT X E (aN (mi f g a b c)) (.Compare e1 [op,op'] [e2,e3] pos):=by
 simp[bS,lY]at *;exact PT.imp (GU ho ho' ha hb hc hm) λ_ _ _ q=>AM (yX q)
end
section
variable {X:Cx} {E:XK} {m a b c:ME} {t u:MT} {e e1 e2 e3 tg:Expr} {es:YG} {ma:MA} {pos:Pos} {i:Nat} {x:Str} {ss:List Stmt} {st:Stmt}
theorem dv(i:Nat)(hN:X.N[i]?=some x:=by rfl)(hv:GD X.env.scope x:=by first|exact Or.inl rfl|exact Or.inr (Or.inl rfl)|exact Or.inr (Or.inr rfl))(hd:(x==("__debug__" : Str))=false:=by decide)(hcd:(x==("__classdict__" : Str))=false:=by decide):DE X E (af i) (.Name x pos):=N6 hN hv hd hcd
theorem dg(i:Nat)(hN:X.N.Nodup)(hi:X.N[i]?=some x:=by rfl)(hx:Loc X.env.scope x:=by first|exact Or.inl rfl|exact Or.inr rfl)(hf:#[3]:=by first|exact .inl rfl|exact .inr rfl|assumption):DG X E (aC i) (.Name x pos):=Ko hN hi hx hf
noncomputable def aQ(e:ME):MA:=λρ h=>match e ρ h with
 |.ok (.dat (.tuple ds)) h1=>.ok (ds.map D.dat) h1
 |.ok (.dat (.list ds)) h1=>.ok (ds.map D.dat) h1
 |.ok (.dat (.str s)) h1=>.ok (signs s) h1
 |.ok (.ktup ds) h1=>.ok (ds.map D.dat) h1
 |.exc x h1=>.exc x h1
 |_=>.bad
theorem cy(h:DE X E m e):DI X E (aQ m) tg e:=by
 have at':=Oc (tg:=tg) h;have al':=Od (tg:=tg) h;have as':=Oe (tg:=tg) h;have ak':=Kw (tg:=tg) h;simp only[me]at *;rintro pins s σ H QI I ⟨θ,hm,ρ,w,fr,p⟩
 cases em:m ρ hm with
 |bad=>simp only[aQ,em]at p;exact p.elim
 |exc x h1=>
  simp only[aQ,em]at p;refine at' pins s σ H QI I ⟨θ,hm,ρ,w,fr,?_⟩
  simp_all[D1,em,R.Hu]
 |ok d h1=>
  cases d with
  |dat d=>
   cases d with
   |tuple ds=>
    simp only[aQ,em]at p;refine at' pins s σ H QI I ⟨θ,hm,ρ,w,fr,?_⟩
    simp_all[D1,em,R.bA]
   |list ds=>simp only[aQ,em]at p;refine al' pins s σ H QI I ⟨θ,hm,ρ,w,fr,?_⟩;simp only[Hw,em,R.bA];exact p
   |str ds=>simp only[aQ,em]at p;refine as' pins s σ H QI I ⟨θ,hm,ρ,w,fr,?_⟩;simp only[Hx,em,R.bA];exact p
   |_=>simp only[aQ,em]at p;exact p.elim
  |ktup ds=>simp only[aQ,em]at p;refine ak' pins s σ H QI I ⟨θ,hm,ρ,w,fr,?_⟩;simp only[Qx,em,R.bA];exact p
  |_=>simp only[aQ,em]at p;exact p.elim
theorem KD:FN X E (λ_ _=>.bad) ss:=by simp[lZ]at *;exact by rintro pins s σ H C I ⟨θ,hm,ρ,w,fr,p⟩;exact p.elim
end
section
variable {X:Cx} {E:XK} {m:ME} {e:Expr} {es:YG} {ma:MA} {pos pos' p p2:Pos} {i:Nat} {x T:Str} {f:Fn} {id n:String} {g:PyData->Bool}
theorem gK(i:Nat)(hN:X.N.Nodup)(he:DE X E m e)(hi:X.N[i]?=some x:=by rfl)(hx:Loc X.env.scope x:=by first|exact Or.inl rfl|exact Or.inr rfl)(hs:swapsWith e (some (.Name x pos')) pos.line X.env=pure false:=by kernel_rfl)(hf:#[3]:=by first|exact .inl rfl|exact .inr rfl|assumption) :
  DS X E (cx i m) (.Assign [.Name x pos'] e pos):=N9 hN hi hx he hs hf
theorem lF(hc:qx X E (.builtin id) f)(hm:X.mg x=none)(hv:bootBuiltins x=some (.builtin id))(ha:DA X E ma (e::es))(hg:Gl X x:=by rfl)(hn:x ≠ "__name__" := by decide)(hdb:(x==("__debug__" : Str))=false:=by decide)
 (he:#[2]:=by rfl)(hpl:(backTo pos (starEach es X.env)).any (·.1)=false:=by rfl):DE X E (ag f ma) (.Call (.Name x p) (e::es) [] pos):=HH hc hg hm hv ha hn hdb he hpl
theorem kU(hc:qx X E (.type id) f)(hm:X.mg x=none)(hv:bootBuiltins x=some (.type id))(ha:DA X E ma (e::es))(hg:Gl X x:=by rfl)(hn:x ≠ "__name__" := by decide)(hdb:(x==("__debug__" : Str))=false:=by decide)
 (he:#[2]:=by rfl)(hpl:(backTo pos (starEach es X.env)).any (·.1)=false:=by rfl):DE X E (ag f ma) (.Call (.Name x p) (e::es) [] pos):=FP hc hg hm hv ha hn hdb he hpl
theorem vC(kit:∀d,PySem.W.kitOne X.K (.type (Qe d)) (.type n)=some (g d))(bt:bootBuiltins T=some (.type n))(m1:X.mg "isinstance" = none)(m2:X.mg T=none)(h:DE X E m e)(g1:Gl X "isinstance" := by rfl)(g2:Gl X T:=by rfl)(hT:T ≠ "__name__" := by decide)(hT2:(T==("__debug__" : Str))=false:=by decide)
 (hs:starEach [e,.Name T p2] X.env=(false,eval e X.env)::starEach [.Name T p2] X.env:=by rfl)(hs2:starEach [.Name T p2] X.env=[(false,eval (.Name T p2) X.env)]:=by rfl)(hpl:(backTo pos (starEach [.Name T p2] X.env)).any (·.1)=false:=by rfl):DE X E (zX (lC g) m) (.Call (.Name "isinstance" p) [e,.Name T p2] [] pos):=Oi kit bt m1 m2 h g1 g2 hT hT2 hs hs2 hpl
end
noncomputable def Df(K:YE)(mg:YA)(x:Str)(ps:YF)(st:Stmt):Prop:=∃f fd,mg x=some (.ref f)/\GB K x x st f fd/\Binds K fd ps []
theorem cI{oc kV dc pm cd ct:Value}(X:K.In h)(G:h.Ns mainGlobals mg)
 (a:PySem.W.nsIn K mainGlobals x=some (some (.ref f)))(l:K.lookup f=some ⟨oc,od,.func (PySem.W.fnOf x x (fx st) (cb st) (au st) .none kV dc pm an cd ct),sl⟩)(c:PySem.W.codeIn K cd x=true)(k:PySem.W.keepIn K (.ref f)=true)
 (hb:∀(kV doc pm:Value) (an:Option Addr) (cdv ct:Value) (us:YD),us.length=ps.length->bindArgs (PySem.W.fnOf x x (fx st) (cb st) (au st) .none kV doc pm an cdv ct) ⟨us,[]⟩=pure (ps.zip us)):Df K mg x ps st:=
 ⟨f,_,Vb X G a,yI l c k,(yI l c k).binds hb⟩
section
variable {P:YL} {w:World} {K:YE} {mg:YA} {base:Heap} {x:Str} {st:Stmt} {ps N:YF} {k:Nat} {b:MS} {F:Fn}
theorem Df.has(d:Df K mg x ps st)(S:aO N ps (au st))(hbody:∀(f:Addr) (cdv:Value) (A:YN) (outer:List Env) (s:YO) (H:Hp) (E:XK),bO k (A.deeper (PyProof.Rows.envOfC x (au st) #[10] f cdv)) ->
   FN (fe (iZ P w) P w K mg base N x (au st) f cdv A outer s H E) E b (cb st)):bu P w K mg base x ps (k+1) (bx ps.length N.length b):=by
 obtain⟨f,fd,h1,Fu,bd⟩:=d;exact⟨⟨f,fd,h1,Fu.kp,bd,TN Fu S (hbody f)⟩,nV⟩
end
theorem Iq:bootBuiltins "int" = some (.type "int"):=by rfl
theorem Om:bootBuiltins "any" = some (.builtin "any"):=by rfl
theorem Oo(h:oD P w K mg base (iZ P w) k f fd ps (Kr ⟨P,w,mg,K⟩ F))(e:F=F'):oD P w K mg base (iZ P w) k f fd ps (Kr ⟨P,w,mg,K⟩ F'):=e▸h
end Ml
namespace L2
open PySem PySem.Spec
noncomputable def qG(sc lscope:Scope):Bool:=lscope.names.all λx=>decide (x.2≠.free) || (decide (sc.names.lookup x.1=some .cell)&&decide (lscope.names.lookup x.1=some .free))
theorem qG.free(h:qG sc lscope=true)(m:(n,NameKind.free)∈lscope.names):sc.names.lookup n=some .cell/\lscope.names.lookup n=some .free:=by
 have:=UU.mp h _ m
 grind
end L2
namespace Ml
open PySem PySem.Spec L2 PyProof.Rows
noncomputable abbrev KG:YD:=[.type "ValueError",.type "Exception",.type "BaseException",.type "object"]
noncomputable abbrev Er:String := "ValueError.__new__"
theorem Es:∀{xs:List α} {ys:List β},PySem.Paired f xs ys->xs.length=ys.length
 |_,_,.nil=>rfl
 |_,_,.cons _ r=>by simp[Es r]
noncomputable def rV(C:Str)(a:MA):MS:=λρ h=>(a ρ h).bind λxs h1=>if kc xs.length then .exc ⟨C,[]⟩ h1 else .bad
noncomputable def Rv(K:YE)(mg:YA)(x:Str):Prop:=∃C,mg x=some (.ref C)/\Hd K mg x C KG Er
section
variable {P:YL} {w:World} {K:YE} {mg:YA} {base:Heap} {N:YF} {qual:Str} {scope:Scope} {f:Addr} {cd:Value} {A:YN} {outer:List Env} {s:YO} {H:Hp} {E:XK}
theorem qH{np cpos pos:Pos}(c:Rv K mg x)(hr:bO k (A.deeper (envOfC qual scope #[10] f cd)))
 (ha:DA (fe (iZ P w) P w K mg base N qual scope f cd A outer s H E) E ma (e::es))(hg:Gl (fe (iZ P w) P w K mg base N qual scope f cd A outer s H E) x:=by rfl)
 (he:starEach (e::es) (envOfC qual scope #[10] f cd)=(false,eval e (envOfC qual scope #[10] f cd))::starEach es (envOfC qual scope #[10] f cd):=by rfl)
 (hplain:(backTo cpos (starEach es (envOfC qual scope #[10] f cd))).any (·.1)=false:=by rfl)(hdb:(x==("__debug__" : Str))=false:=by decide) :
  DS (fe (iZ P w) P w K mg base N qual scope f cd A outer s H E) E (rV x ma) (.Raise (some (.Call (.Name x np) (e::es) [] cpos)) none pos):=by
 obtain⟨C,hm,xc⟩:=c;simp only[kY,kX]at *;refine PS.imp (He xc PySem.F.excBase_ValueError hr.hd hg ha he hplain hdb) λCn σ H1 ⟨θ,h,ρ,w1,fr,p⟩=>⟨θ,h,ρ,w1,fr,(aL.bind p).mono λds θ1 h1 H2 _ _ ⟨ev,w2,p2⟩ vs r=>?_⟩;split at p2
 ·rename_i hz;exact⟨by have:=Es r;rw[<- this];exact dQ hz,p2 θ1 H2 Ev.refl w2 (.ref C) none ⟨hm,rfl,rfl⟩⟩
 ·trivial
end
theorem KH{X:Cx}{pins:Yx}{σ:L2.St}{H:Hp}{s:YO}{θ:YC}{h:Hm}{b:Addr}{q:Str}(I:#[11])(w:W X.G θ h H)(e:H b=some (.ext (recAt b q))):b∉θ:=λm=>by
 obtain⟨i,hi,ei⟩:=VW.mp m;have hl:i<h.length:=by grind[w.len]
 have r:=w.obj i b h[i] (by simp_all) (UN hl)
 cases ho:h[i]with
 |lst xs=>rw[ho]at r;obtain⟨vs,e1,_⟩:=r;grind
 |ins C fs=>rw[ho]at r;exact r.elim
 |tab P q'=>rw[ho]at r;obtain⟨rfl,ps,e1,_⟩:=r;grind
 |kU t kvs=>
  rw[ho]at r;rcases r with⟨_,ks,e1,_⟩|⟨_,xs,e1,_⟩
  ·rw[e]at e1;cases e1
  ·rw[e]at e1;have k1:recAt b q s.heap:=(show cC X.prog X.w H s.heap b (.ext (recAt b q))from I.hok b _ e).1;unfold dO at e1;have e2:=congrFun (HO.ext.inj (VL e1)) s.heap;have k2:=k1;rw[e2]at k2;obtain⟨_,_,o,es,ep,g1,g2,g3,_⟩:=k2;obtain⟨c1,oc,vs,t,z,g4,g5,g6⟩:=k1;cases z;rw[g1]at g4;cases g4;rw[g3]at g5;cases g5
theorem W.Oq{X:Cx}{pins:Yx}{σ:L2.St}{H H1:Hp}{s:YO}{θ:YC}{h:Hm}{P:Addr}{q:Str}{j:Nat}(I:#[11])(w:W X.G θ h H)(hj:h[j]?=some (.tab P q))(t1:xS H1 P q)(sm:aX (wX H P) (wX H1 P)):Ev θ H θ H1/\W X.G θ h H1:=by
 have hjl:=(UM.mp hj).1;have hjt:j<θ.length:=by grind[w.len]
 have r0:=w.obj j θ[j] _ (UN hjt) hj;obtain⟨eP,tb⟩:=r0;have mP:P∈θ:=eP▸WK hjt
 have keep:∀a o,a≠P->H a=some o->H1 a=some o:=λa o n e=>by
  have:=sm a o (by simp_all[wX,if_neg,n])
  simp_all[wX,this,if_neg,n]
 have e:Ev θ H θ H1:=⟨⟨[],by simp⟩,λa u k=>by
  obtain⟨h1,h2⟩:=cQ k;rw[dN h1]
  exact keep a u (λz=>h1 (z▸mP)) h2⟩
 refine⟨e,⟨w.len,w.nd,λi a m h1 h2=>?_⟩⟩;have r:=w.obj i a m h1 h2;by_cases ha:a=P
 ·subst ha
  cases m with
  |lst xs=>obtain⟨vs,q1,q2⟩:=r;obtain⟨ps,z,_⟩:=tb;rw[q1]at z;cases z
  |kU t kvs=>
   obtain⟨ps,z,_⟩:=tb;rcases r with⟨_,ks,e1,_⟩|⟨_,xs,e1,_⟩
   ·rw[e1]at z;cases z
   ·rw[e1]at z;cases z
  |ins=>exact r.elim
  |tab P' q'=>
   obtain⟨rfl,_⟩:=r
   have hij:i=j:=by
    obtain⟨l1,e1⟩:=UM.mp h1;rcases Nat.lt_trichotomy i j with z|z|z
    ·exact absurd (e1.trans eP.symm) (Vo.mp w.nd i j l1 hjt z)
    ·exact z
    ·exact absurd (eP.trans e1.symm) (Vo.mp w.nd j i hjt l1 z)
   subst hij;rw[hj]at h2;cases h2;obtain⟨ps,k1,k2,k3⟩:=t1;refine⟨rfl,ps,k1,k2,λpos c k=>?_⟩;obtain⟨b,k4,k5,k6⟩:=k3 pos c k;refine⟨b,k4,k5,?_⟩
   have nb:b∉θ:=by
    cases hb:H b with
    |none=>exact w.Ea hb
    |some o=>have:=keep b o k5 hb;rw[k6]at this;cases this;exact KH I w hb
   rw[dN nb];exact k6
 ·have kp:∀o,H a=some o->H1 a=some o:=λo=>keep a o ha
  cases m with
  |lst xs=>obtain⟨vs,q1,q2⟩:=r;exact⟨vs,kp _ q1,q2.ev e⟩
  |kU t kvs=>exact gf.same e.same r kp
  |ins=>exact r.elim
  |tab P' q'=>obtain⟨rfl,x⟩:=r;exact⟨rfl,x.same e.same kp⟩
noncomputable def fH:YF:=["web", "lot", "name", "kind", "pair", "changes", "count", "shut", "way", "joint", "side", "deed"]
noncomputable def wordAt(j:Nat):Str:=fH.getD j ""
noncomputable def clsAt:Str->Option Nat:=λx=>(["NoWeb", "NoLot", "NoName", "NoKind", "NoPair", "NoChanges", "NoCount", "NoShut", "NoWay", "NoJoint", "NoSide", "NoDeed"]:YF).findIdx? (· == x)
noncomputable def pick(ρ:Fm)(idx:List Nat):Fm:=idx.map λi=>(ρ[i]?).join
noncomputable def Mj(cl:List Nat):R D->R D
 |.ok d h=>gW [D.str "told",d] h
 |.exc x h=>match clsAt x.cls with
  |some j=>if cl.contains j then .ok (.dat (.tuple [.str (wordAt j)])) h else .bad
  |none=>.bad
 |.bad=>.bad
noncomputable def iD(cl:List Nat)(j:Nat)(P:Addr)(q:Str)(idx:List Nat)(b:ME):ME:=λρ h=>match h[j]? with
 |some (.tab P' q')=>if P'=P/\q'=q/\(pick ρ idx).all Option.isSome=true then Mj cl (b (pick ρ idx) h)else .bad
 |_=>.bad
noncomputable def Ir(Q:VK):VK:=λx H1=>[.str "told",x].length<=sizeLine/\∀p,H1 p=none->Q (.ref p) (upd H1 p (.tup [.str "told",x]))
noncomputable def Et(XE:VK->XK):(VK->XK->Prop)->VK->Prop:=λG Q=>G (Ir Q) (XE Q)
noncomputable def Eu(mg:YA)(cl:List Nat)(XE:VK->XK):Prop:=∀(Q:VK) (cls:Value) (H:Hp) (x:Str) (j:Nat),clsAt x=some j->j∈cl->mg x=some cls->(∀H' t,aX H H'->H' t=none->Q (.ref t) (upd H' t (.tup [.str (wordAt j)])))->XE Q cls none H
theorem KI:∀j,PyData.strOk (wordAt j)=true:=by
 have:∀x∈fH,PyData.strOk x=true:=by decide +kernel
 intro j;unfold wordAt;rw[Xa]
 cases e:fH[j]? with
 |none=>exact(by decide +kernel:PyData.strOk "" = true)
 |some x=>exact this x (UY e)
theorem CD{G:Gx}{F:XP}{Q:VK}(ys:List D)(vs:List V)(θ:YC)(h:Hm)(H:Hp)(w1:W G θ h H)(r1:aV G θ H ys vs)(p1:aL G F θ H (gW ys h) (KV G Q))(q:Addr)(hq:H q=none):Q (.ref q) (upd H q (.tup vs)):=by
 unfold gW at p1
 cases e:gV ys with
 |none=>rw[e]at p1;exact p1.elim
 |some ds=>
  rw[e]at p1;simp only at p1;split at p1
  ·obtain⟨e1,w2,g⟩:=w1.put hq;obtain⟨h1,h2⟩:=ki r1 e;exact p1 _ _ e1 w2 _ ⟨⟨q,vs,rfl,g,h1.same e1.same⟩,by assumption⟩
  ·trivial
theorem KJ:PyData.strOk "told" = true:=by decide +kernel
section
variable {X:Cx} {E:XK}
theorem oh{g pn:Str}{k kl:Nat}{c P bm:Addr}{params:Arguments}{body:Expr}{lscope:Scope}{lpos p pos:Pos}{N2:YF}{b:ME}{XE:VK->XK}{cl:List Nat}(j:Nat)(idx:List Nat)(q:Str)(hq:X.env.qual ++ "<lambda>" = q)
 (F:yP X.prog X.w X.K X.mg X.base g [pn] k (xT X.prog X.w X.K X.mg X.base (kl+1) (Et XE)))(HX:Eu X.mg cl XE)(hr:bO k X.A)(hcode:X.env.code=.ref c)(ht:PySem.W.codeHdIn X.K c P=true)(B:BMod X.base X.mg bm)
 (hbody:∀(f c':Addr) (clos:List (Str×Addr)) (A:YN) (outer:List Env) (s:YO) (H:Hp) (E':XK),bO kl (A.deeper (ka (X.env.qual ++ "<lambda>") lscope #[10] f (.ref c') clos))->DE (xR X.prog X.w X.K X.mg X.base N2 (X.env.qual ++ "<lambda>") lscope f (.ref c') clos A outer s H E') E' b body)
 (hix:(List.range N2.length).all (λi=>match N2[i]?,idx[i]? with|some x,some n=>decide (X.N[n]?=some x)&&lscope.names.contains (x,NameKind.free)|_,_=>false)=true)
 (hN2:N2.length=idx.length:=by rfl)
 (hg:Gl X g:=by rfl)(S:uU lscope:=by exact⟨rfl,rfl,rfl,by decide +kernel⟩)(hdef:defaultsOf params X.env=([],[]):=by rfl)(hll:qG X.env.scope lscope=true:=by kernel_rfl)
 (hbind:∀clos pm c' ctv,bindArgs (PySem.W.kla_fn "<lambda>" (X.env.qual ++ "<lambda>") params body lscope clos pm (.ref c') ctv) ⟨[],[]⟩=pure []:=by intro _ _ _ _;rfl)
 (hdb:(g==("__debug__" : Str))=false:=by decide)(hs:starEach [.Lambda params body lscope lpos] X.env=(false,eval (.Lambda params body lscope lpos) X.env)::starEach [] X.env:=by rfl) :
  DE X E (iD cl j P q idx b) (.Call (.Name g p) [.Lambda params body lscope lpos] [] pos):=by
 subst hq;simp only[bS]at *;rintro pins s σ H Q I ⟨θ,h,ρ,w,fr,p⟩;unfold iD at p;split at p
 ·rename_i P' q' hj;split at p
  ·rename_i hc;obtain⟨rfl,rfl,hsome⟩:=hc
   have hix':∀(j:Nat) (x:Str),N2[j]?=some x->∃i,idx[j]?=some i/\X.N[i]?=some x/\(x,NameKind.free)∈lscope.names:=λjj x hx=>by
    have hl:=(UM.mp hx).1;have:=UU.mp hix jj (U4.mpr hl);rw[hx]at this
    cases hi:idx[jj]? with
    |none=>rw[hi]at this;simp at this
    |some n=>rw[hi]at this;simp only[UI,U5,List.contains_iff_mem]at this;exact⟨n,rfl,this.1,this.2⟩
   have all:∀i∈idx,∃d v,ρ[i]?=some (some d)/\σ[i]?=some (some v)/\ck X.G θ H d v:=λi hi=>by
    have:=UU.mp hsome _ (List.mem_map_of_mem hi)
    cases e:ρ[i]? with
    |none=>rw[e]at this;simp at this
    |some o=>
     cases o with
     |none=>rw[e]at this;simp at this
     |some d=>obtain⟨v,h1,h2⟩:=fr.2 i d e;exact⟨d,v,rfl,h1,h2⟩
   obtain⟨vs,hvl,hvs,hfr⟩:∃vs:List V,vs.length=idx.length/\(∀(jj:Nat) (v:V),vs[jj]?=some v->∃i,idx[jj]?=some i/\σ[i]?=some (some v))/\Fr X.G θ H (pick ρ idx) (vs.map some):=by
    clear hsome p hix hN2 hix'
    induction idx with
    |nil=>exact⟨[],rfl,by simp,rfl,by simp[pick]⟩
    |cons i is ih=>
     obtain⟨vs,h1,h2,h3⟩:=ih (λi hi=>all i (UQ _ hi));obtain⟨d,v,e1,e2,e3⟩:=all i (UW ..);refine⟨v::vs,by simp[h1],λjj u hu=>?_,by simp[pick,h1],λjj d' hd=>?_⟩
     ·cases jj with
      |zero=>simp at hu;subst hu;exact⟨i,rfl,e2⟩
      |succ jj=>simp at hu;obtain⟨n,k1,k2⟩:=h2 jj u hu;exact⟨n,by simpa using k1,k2⟩
     ·cases jj with
      |zero=>simp[pick,e1]at hd;subst hd;exact⟨v,rfl,e3⟩
      |succ jj=>
       have:(pick ρ is)[jj]?=some (some d'):=by simpa [pick]using hd
       obtain⟨u,k1,k2⟩:=h3.2 jj d' this;exact⟨u,by simpa using k1,k2⟩
   have hjl:=(UM.mp hj).1;have hjt:j<θ.length:=by rw[w.len];exact hjl
   obtain⟨eP,tb⟩:=w.obj j θ[j] _ (UN hjt) hj;refine FD (N2:=N2) (idx:=idx) (tb:=λE'=>lE X.G E' b) F hr hg hcode ht B S hdef (λn hn=>.inl (qG.free hll hn).1) (λx hx=>(qG.free hll hx).2) hbind hN2 hix' (λf c' clos A outer s H E' hr'=>hbody f c' clos A outer s H E' hr') hdb hs pins s σ H Q I ⟨vs,hvl,hvs,tb.ok,λH1 t1 sm=>?_⟩;obtain⟨ev,w1⟩:=w.Oq I hj t1 sm;refine⟨θ,h,pick ρ idx,w1,hfr.ev ev,?_⟩;have p':=p.later ev
   cases hb:b (pick ρ idx) h with
   |bad=>rw[hb]at p';exact p'.elim
   |ok d h'=>rw[hb]at p';refine λθ' H' ev' w' v r=>⟨by show 2<=sizeLine;decide,λq hq=>?_⟩;exact CD [D.str "told",d] [.str "told",v] θ' h' H' w' (.cons (show ck _ _ _ (D.str "told") (.str "told")from⟨rfl,by simp[fz,KJ]⟩) (.cons r .nil)) (p'.later ev') q hq
   |exc x h'=>
    rw[hb]at p';simp only[Mj]at p'
    cases hcl:clsAt x.cls with
    |none=>rw[hcl]at p';exact p'.elim
    |some jj=>
     rw[hcl]at p';simp only at p';split at p'
     ·rename_i hcj;refine λθ' H' ev' w' cls da xr=>?_;obtain⟨x1,rfl,_⟩:=xr;refine HX Q cls H' x.cls jj hcl (by simpa using hcj) x1 λH2 t sm2 ht2=>?_;obtain⟨ev2,w2⟩:=w'.grow sm2;obtain⟨ev3,w3,g3⟩:=w2.put (o:=.tup [.str (wordAt jj)]) ht2;exact p' θ' _ ((ev'.trans ev2).trans ev3) w3 _ ⟨⟨t,[.str (wordAt jj)],rfl,g3,.cons rfl .nil⟩,by simp[fz,cN,KI]⟩
     ·exact p'.elim
  ·exact p.elim
 ·exact p.elim
end
end Ml
namespace L2
open PySem PySem.Spec PyProof.Rows
noncomputable def QB(H:Hp)(P:Addr):Prop:=∀b,H b=none\/(b≠P/\∃o xs,H b=some (.frz o (.lst xs)))\/(b=P/\H b=some (.tbl #[]))
theorem FZ{K:YE}
 (KX:K.In s₁.heap)(hns:s₁.heap.Ns mainGlobals mg)(hb:s₁.heap.Ns builtinsNs mb)(hbb:∀x:Str,x ≠ "__name__" -> mb x=bootBuiltins x)(hlim:s₁.heap.NoLimit)(hg:s₁.gens=#[])
 (ha:s₁.heap.get? a=some {cls:=.type "list",data:=.seq vs.toArray})(hi:IntsAre vs ns)(hl:ns.length<=sizeLine)(hr:bO k callerA)
 (ht:PySem.W.codeHdIn K c Pt=true)(hPK:K.lookup Pt=none)(hP:s₁.heap.get? Pt=some (PySem.W.tabObj #[]))
 (hbm:∃bm ob,mg "__builtins__" = some (.ref bm)/\bm≠builtinsNs/\s₁.heap.get? bm=some ob/\ob.cls=.type "module" /\ ob.dict=some builtinsNs/\ob.data=.plain)
 (F:∀base:Heap,K.In base->base.Ns mainGlobals mg->(∃bm,BMod base mg bm)->oD P w K mg base CX k fa fd [x] sp)(hbind:∀(s:YO) (u:Value),BindsTo s fd ⟨[u],[]⟩ [(x,u)])
 (hsp:∀H:Hp,H Pt=some (.tbl #[])->gY K (wX H Pt) a (ns.map V.int)->sp [.ref a] H (λv _=>v=.bl true) λ_ _ _=>False)
 (hCX:∀H e s',CX [] H s₁ (λ_ _ _=>False) e s'->False) :
  codeAny #[14] callerA (.call (.ref fa) ⟨[.ref a],[]⟩) (λr s'=>r=.ok (.ret (.bool true))/\OldK s₁.heap s'.heap/\s'.os=s₁.os/\AllBare s'.gens) s₁:=by
 have rv:=xK hi;have lenV:=hi.length;have hPo:s₁.heap.get? Pt=some {cls:=.none,data:=.fields #[]}:=hP
 have apart:a≠Pt:=λe=>by
  grind
 have ict:isCodeTable s₁.heap Pt:=((PySem.W.codeHd_of_K KX ht).tab hP).isCodeTable
 have core:∀H:Hp,QB H Pt->H Pt=some (.tbl #[])->gY K (wX H Pt) a (ns.map V.int)->lu P w H s₁.heap->(∀b,H b≠none->b=a\/b=Pt)->(H a≠none->K.lookup a=none) ->
   codeAny #[14] callerA (.call (.ref fa) ⟨[.ref a],[]⟩) (λr s'=>r=.ok (.ret (.bool true))/\OldK s₁.heap s'.heap/\s'.os=s₁.os/\AllBare s'.gens) s₁:=by
  intro H hO hT hS hok hA hK;have base_of:∀{b:Addr} {o:Obj},s₁.heap.get? b=some o->H b=none->(wZ s₁.heap H).get? b=some o:=λe n=>GC e n
  have noA:∀{b:Addr} {o:Obj} {es:YI} {ep:Nat},s₁.heap.get? b=some o->o.data=.dict es ep->H b=none:=λ{b o es ep} e d=>by
   cases q:H b with
   |none=>rfl
   |some u=>
    rcases hA b (by rw[q];simp)with e'|e'
    ·subst e';rw[ha]at e;cases e;have d':Data.seq vs.toArray _=Data.dict es ep:=d;cases d'
    ·subst e';rw[hPo]at e;cases e;have d':Data.fields #[]=Data.dict es ep:=d;cases d'
  have nsK:∀{b:Addr} {m:YA},s₁.heap.Ns b m->(wZ s₁.heap H).Ns b m:=λ{b m} ⟨o,es,ep,e,d,r⟩=>⟨o,es,ep,base_of e (noA e d),d,r⟩
  have hKb:K.In (wZ s₁.heap H):=λb o e=>base_of (KX b o e) (by
   cases q:H b with
   |none=>rfl
   |some u=>
    rcases hA b (by rw[q];simp)with e'|e'
    ·subst e';rw[hK (by rw[q];simp)]at e;cases e
    ·subst e'
     rw[hPK]at e;cases e)
  have hBM:∃bm,BMod (wZ s₁.heap H) mg bm:=by
   obtain⟨bm,ob,b1,b2,b3,b4,b5,b6⟩:=hbm;refine⟨bm,b1,b2,ob,base_of b3 ?_,b4,b5,b6⟩
   cases q:H bm with
   |none=>rfl
   |some u=>
    rcases hA bm (by rw[q];simp)with e'|e'
    ·subst e';rw[ha]at b3;cases b3;exact absurd (show Value.type "list" = Value.type "module" from b4) #[9]
    ·subst e';rw[hPo]at b3;cases b3;cases b4
  have hM:Mod K mg (wZ s₁.heap H):=⟨hKb,nsK hns,⟨mb,nsK hb,hbb⟩,by obtain⟨mc,h1,h2⟩:=hlim;exact⟨mc,nsK h1,h2⟩⟩;have e0:yE P w K mg (wZ s₁.heap H) callerA [] s₁ H:=⟨rfl,hM,λb o e=>JK e,Nat.le_of_eq (E6 _ _),trivial,λb hb=>absurd (show b∈([]:YC)from hb) #[6],hok,.of_eq hg⟩;refine WT ((F _ hKb (nsK hns) hBM).run callerA [] s₁ H ⟨[.ref a],[]⟩ [.ref a] [.ref a] _ _ hr e0 (hbind s₁ (.ref a)) (.cons rfl .nil) (hsp H hT hS)) λr s' h=>?_
  cases r with
  |error e=>exact(hCX H e s' h).elim
  |ok fl=>
   cases fl with
   |next=>exact False.elim h
   |brk=>exact False.elim h
   |cont=>exact False.elim h
   |ret u=>
    obtain⟨v,H',os,bare,un,hok',r',q⟩:=h;have q':v=.bl true:=q;subst q';obtain rfl:u=Value.bool true:=r'
    have fate:∀b o,s₁.heap.get? b=some o->asItWas s₁.heap s'.heap b o:=λb o e=>by
     rcases hO b with z|⟨_,ob,xs,z⟩|⟨e1,z⟩
     ·exact .inl (un.keep b o e z (by intro z;exact absurd (show b∈([]:YC)from z) #[6]) #[6])
     ·have z2:=un.frzs b ob _ z;obtain⟨e1,_⟩:=hok b _ z;obtain⟨e2,_⟩:=hok' b _ z2;rw[e]at e1;cases e1;exact .inl e2
     ·subst e1;obtain⟨more,z2⟩:=un.tbls b #[] z;have e2:s'.heap.get? b=some {cls:=.none,data:=.fields (#[]++more)}:=hok' b _ z2;rw[e]at hPo;cases hPo;exact .inr (.inl ⟨ict,rfl,#[],more,rfl,e2⟩)
    refine⟨rfl,⟨fate,λb o e=>?_⟩,os,bare⟩;rcases hO b with z|⟨_,ob,xs,z⟩|⟨e1,z⟩
    ·exact⟨o,un.keep b o e z (by intro z;exact absurd (show b∈([]:YC)from z) #[6]) #[6]⟩
    ·have z2:=un.frzs b ob _ z;obtain⟨e2,_⟩:=hok' b _ z2;exact⟨_,e2⟩
    ·obtain⟨more,z2⟩:=un.tbls b #[] z;exact⟨_,hok' b _ z2⟩
 cases hk:K.lookup a with
 |some o=>
  have e:=KX a o hk;rw[ha]at e;cases e;refine core (λb=>if b=Pt then some (.tbl #[])else none) (λb=>?_) (if_pos rfl) (.inr ⟨_,vs.toArray,_,hk,rfl,rfl,rfl,by rw[UX,lenV];exact hl,by simpa using rv⟩) (λb u z=>?_) (λb z=>?_) λz=>absurd (if_neg apart) z
  ·by_cases e1:b=Pt
   ·exact .inr (.inr ⟨e1,if_pos e1⟩)
   ·exact .inl (if_neg e1)
  ·by_cases e1:b=Pt
   ·have z':=(if_pos e1).symm.trans z;cases z';subst e1;exact hPo
   ·have z':=(if_neg e1).symm.trans z;cases z'
  ·by_cases e1:b=Pt
   ·exact .inr e1
   ·exact absurd (if_neg e1) z
 |none=>
  refine core (λb=>if b=Pt then some (.tbl #[])else if b=a then some (.frz {cls:=.type "list",data:=.seq vs.toArray} (.lst (ns.map V.int)))else none) (λb=>?_) (if_pos rfl) (.inl (.inr ⟨{cls:=.type "list",data:=.seq vs.toArray},by rw[Cm apart,if_neg apart,if_pos rfl]⟩)) (λb u z=>?_) (λb z=>?_) λ_=>hk
  ·by_cases e1:b=Pt
   ·exact .inr (.inr ⟨e1,if_pos e1⟩)
   ·by_cases e2:b=a
    ·exact .inr (.inl ⟨e1,_,_,(if_neg e1).trans (if_pos e2)⟩)
    ·exact .inl ((if_neg e1).trans (if_neg e2))
  ·by_cases e1:b=Pt
   ·have z':=(if_pos e1).symm.trans z;cases z';subst e1;exact hPo
   ·by_cases e2:b=a
    ·have z':=((if_neg e1).trans (if_pos e2)).symm.trans z;cases z';subst e2;exact⟨ha,by rw[UZ];exact hl,vs,_,rv,ha⟩
    ·have z':=((if_neg e1).trans (if_neg e2)).symm.trans z;cases z'
  ·by_cases e1:b=Pt
   ·exact .inr e1
   ·by_cases e2:b=a
    ·exact .inl e2
    ·exact absurd ((if_neg e1).trans (if_neg e2)) z
theorem Iu{l:PySem.W.OpenLaw}{K:Params->YE}{CX:World->JT}{sp:World->Sp}
 (hn:l.most=some n)(hn2:n<=sizeLine)(hdf:d.params.defaults=[])(hr:bO k callerA)
 (hY:∀(w:World) (h:Heap),YP w h->(K w.params).In h)(hYt:∀(w:World) (h:Heap),YP w h->h.get? Pt=some (PySem.W.tabObj #[]))(hPK:∀w:World,(K w.params).lookup Pt=none)
 (F:∀(w:World) (mg:YA) (fa:Addr) (h:Heap),(K w.params).In h->h.Ns mainGlobals mg->mg d.name=some (.ref fa) ->
   ∃(fd:FuncData) (c:Addr),PySem.W.codeHdIn (K w.params) c Pt=true/\(∀(s:YO) (u:Value),BindsTo s fd ⟨[u],[]⟩ [(x,u)]) /\
    ∀base:Heap,(K w.params).In base->base.Ns mainGlobals mg->(∃bm,BMod base mg bm)->oD l.prog w (K w.params) mg base (CX w) k fa fd [x] (sp w))
 (hsp:∀(w:World) (H:Hp) (a:Addr) (ns:List Int),ns.length<=n->H Pt=some (.tbl #[])->gY (K w.params) (wX H Pt) a (ns.map V.int)->sp w [.ref a] H (λv _=>v=.bl true) λ_ _ _=>False)
 (hCX:∀(w:World) (H:Hp) (s:YO) (e:Value) (s':YO),CX w [] H s (λ_ _ _=>False) e s'->False) :
  PySem.W.WalkO q loose XP YP l.row.toRowW d [] (λf vs=>PySem.call f vs):=by
 refine Att.Ak hn hdf λw s₀ s₁ mg mb fa o pm cd doc a vs ns G Y ho hd hcd hmg hobj hints hlen hg=>?_;have KX:=hY w _ Y;obtain⟨fd,c,hc,hb,hF⟩:=F w mg fa _ KX G.T.g hmg;exact FZ KX G.T.g G.T.b G.T.builtins G.T.nolimit hg hobj hints (UP hlen hn2) hr hc (hPK w) (hYt w _ Y) G.T.bmain hF hb (λH hT hS=>hsp w H a ns hlen hT hS) λH e s'=>hCX w H s₁ e s'
end L2
namespace Ml
open PySem PySem.Spec L2
noncomputable def Pn(K:YE)(mg:YA)(x:Str)(ps:YF)(st:Stmt)(Pt:Addr):Prop:=∃(f c:Addr) (oc kV dc pm ct:Value) (od an:Option Addr) (osl:YH),mg x=some (.ref f)/\K.lookup f=some ⟨oc,od,.func (PySem.W.fnOf x x (fx st) (cb st) (au st) .none kV dc pm an (.ref c) ct),osl⟩ /\
 PySem.W.codeIn K (.ref c) x=true/\PySem.W.codeHdIn K c Pt=true/\PySem.W.keepIn K (.ref f)=true/\Binds K (PySem.W.fnOf x x (fx st) (cb st) (au st) .none kV dc pm an (.ref c) ct) ps []
theorem Ot{oc kV dc pm ct:Value}(X:K.In h)(G:h.Ns mainGlobals mg)
 (a:PySem.W.nsIn K mainGlobals x=some (some (.ref f)))(l:K.lookup f=some ⟨oc,od,.func (PySem.W.fnOf x x (fx st) (cb st) (au st) .none kV dc pm an (.ref c) ct),sl⟩)(cd:PySem.W.codeIn K (.ref c) x=true)(ht:PySem.W.codeHdIn K c Pt=true)(k:PySem.W.keepIn K (.ref f)=true)
 (hb:∀(kV doc pm:Value) (an:Option Addr) (cdv ct:Value) (us:YD),us.length=ps.length->bindArgs (PySem.W.fnOf x x (fx st) (cb st) (au st) .none kV doc pm an cdv ct) ⟨us,[]⟩=pure (ps.zip us)):Pn K mg x ps st Pt:=
 ⟨f,c,_,_,_,_,_,_,_,_,Vb X G a,l,cd,ht,k,(yI (st:=st) l cd k).binds hb⟩
section
variable {P:YL} {w:World} {K:YE} {mg:YA} {base:Heap} {x:Str} {st:Stmt} {ps N:YF} {k:Nat} {b:MS} {F:Fn} {Pt:Addr}
theorem Pn.has(d:Pn K mg x ps st Pt)(S:aO N ps (au st))(hbody:∀(f c:Addr) (A:YN) (outer:List Env) (s:YO) (H:Hp) (E:XK),PySem.W.codeHdIn K c Pt=true->bO k (A.deeper (PyProof.Rows.envOfC x (au st) #[10] f (.ref c))) ->
   FN (fe (iZ P w) P w K mg base N x (au st) f (.ref c) A outer s H E) E b (cb st)):bu P w K mg base x ps (k+1) (bx ps.length N.length b):=by
 simp only[lZ]at *;obtain⟨f,c,oc,kV,dc,pm,ct,od,an,osl,h1,lk,hcd,ht,kp,bd⟩:=d;refine⟨⟨f,_,h1,kp,bd,?_⟩,nV⟩;refine L7 lk hcd S (Ef nV) λA outer s H vs Q E hr ⟨θ,h,ds,w,r,p⟩=>⟨_,hbody f c A outer s H E ht hr,?_⟩;unfold bx at p;split at p
 ·rename_i hl;refine⟨θ,h,_,w,Fr.start (N:=N) (n:=0) r hl,(aL.bind p).mono λfl θ1 h1 H1 _ _ ⟨ev,w1,p1⟩=>?_⟩
  cases fl with
  |nx ρ=>exact λσ fr=>p1 θ1 H1 Ev.refl w1 _ ⟨rfl,by rfl⟩
  |rt d=>exact p1 θ1 H1 Ev.refl w1
  |bk ρ=>trivial
  |ct ρ=>trivial
 ·exact p.elim
end
noncomputable def Iv(K:YE)(Pt:Addr):Sp:=λvs H Q _=>∃(a:Addr) (ns:List Int),vs=[.ref a]/\gY K (wX H Pt) a (ns.map V.int)/\ns.length<=63/\H Pt=some (.tbl #[])/\∀H',Q (.bl true) H'
theorem Iw(P:Addr)(H:Hp):view [P] H=wX H P:=by grind[view,wX]
theorem F0(hp:∀ns:List Int,ns.length<=63->∃h,F [.scr ns] [.tab Pt q]=.ok (.bool true) h)(z:Iv G.K Pt vs H Q E):Kr G F vs H Q E:=by
 obtain⟨a,ns,rfl,hs,hl,ht,k⟩:=z;obtain⟨h',e⟩:=hp ns hl;refine⟨[Pt],[.tab Pt q],[.scr ns],⟨rfl,by simp,λi b o e1 e2=>?_⟩,.cons ⟨a,rfl,by grind[Iw]⟩ .nil,?_⟩
 ·cases i with
  |zero=>simp at e1 e2;subst e1;subst e2;exact⟨rfl,#[],ht,by trivial,λpos c e=>by trivial⟩
  |succ i=>grind
 ·rw[e];intro θ' H' _ _ v r;cases r.1
  grind
end Ml
namespace Wh
open PySem L2
noncomputable def Ou:Stmt->Expr
 |.Assign _ v _=>v
 |_=>.Constant .none 0 ⟨0,0,0,0⟩
noncomputable def Ov:Stmt->Pos
 |.Assign _ _ p=>p
 |_=>⟨0,0,0,0⟩
noncomputable def QC:Stmt->Pos
 |.Assign [.Name _ q] _ _=>q
 |_=>⟨0,0,0,0⟩
noncomputable def QD:Expr->YG
 |.List es _=>es
 |_=>[]
noncomputable def Ow:Expr->Pos
 |.List _ p=>p
 |_=>⟨0,0,0,0⟩
noncomputable abbrev QE(l:List Stmt)(i:Nat):Stmt:=l.getD i (.Pass ⟨0,0,0,0⟩)
theorem Ox{X:Cx}{i:Nat}{x:Str}{e:Expr}{d:PyData}{n:Nat}{q p lp:Pos}{es:YG}(he:e=.List es lp)(hl:Lit n e d)(hN:X.N.Nodup)(hi:X.N[i]?=some x)(hx:Loc X.env.scope x)(hf:X.fn x=true):PS X (.Assign [.Name x q] e p) (B0 (Hb d) (aC i)):=
 o8 hN hi hx (@Hc X n e d hl) (by rw[he];rfl) (Or.inl hf)
theorem x6{H:Hp}:∀{ns:YF} {vs:List V},bf H (ns.map .str) vs->vs=ns.map V.str
 | [],_,h=>h
 |n::ns,_,⟨w,ws,e,h,r⟩=>by subst e;have h'  := h;rw[h',x6 r];rfl
structure KL(mg:YA)(cs:Nat->Addr):Prop where
 ve:mg "ValueError" = none
 m0:mg "NoWeb" = some (.ref (cs 0))
 m1:mg "NoLot" = some (.ref (cs 1))
 m2:mg "NoName" = some (.ref (cs 2))
 m3:mg "NoKind" = some (.ref (cs 3))
 m4:mg "NoPair" = some (.ref (cs 4))
 m5:mg "NoChanges" = some (.ref (cs 5))
 m6:mg "NoCount" = some (.ref (cs 6))
 m7:mg "NoShut" = some (.ref (cs 7))
 m8:mg "NoWay" = some (.ref (cs 8))
 m9:mg "NoJoint" = some (.ref (cs 9))
 m10:mg "NoSide" = some (.ref (cs 10))
 m11:mg "NoDeed" = some (.ref (cs 11))
 m12:mg "TooMany" = some (.ref (cs 12))
 m13:mg "NoText" = some (.ref (cs 13))
structure Kind(K:YE)(cs:Nat->Addr)(D:Addr)(j:Nat):Prop where
 ec:NU K D
 lt:j<12
 k:∀i,i<14->PySem.W.kitOne K (.ref D) (.ref (cs i))=some (decide (i=j))
 v:PySem.W.kitOne K (.ref D) (.type "ValueError")=some true
noncomputable def marks(j:Nat):List Bool:=[decide (0=j),decide (1=j),decide (2=j),decide (3=j),decide (4=j),decide (5=j),decide (6=j),decide (7=j),decide (8=j),decide (9=j),decide (10=j),decide (11=j),decide (12=j),decide (13=j)]
theorem Iy:∀j,j<12->(marks j).countP (λb=>b)=1/\(marks j)[j]?=some true/\(∀m,m<j->(marks j)[m]?=some false)/\(marks j)[12]?=some false/\(marks j)[13]?=some false:=by decide
noncomputable abbrev fH:=Ml.fH
noncomputable abbrev wordAt:=Ml.wordAt
theorem F1:∀j,j<12->(fH++(["many", "text"]:YF))[j]?=some (wordAt j):=by trivial
noncomputable def uq(K:YE)(cs:Nat->Addr):Sp:=λvs H Q _=>∃a D j,vs=[.ref a]/\H a=some (.ext (et a (.ref D)))/\Kind K cs D j/\∀H',aX H H'->Q (.str (wordAt j)) H'
theorem QF:bootBuiltins "ValueError" = some (.type "ValueError"):=by rfl
theorem Oy{X:Cx}{x:Str}{C:Addr}{p p1 p2 pos:Pos}(K:YE)(hK:X.K=K)(B:X.mg "isinstance" = none)(hN:X.N[0]?=some ("_law_e" : Str))(hv:GD X.env.scope "_law_e")(hm:X.mg x=some (.ref C))(g1:Gl X "isinstance")(g2:Gl X x)(hd:(x==("__debug__" : Str))=false)
 (h1:starEach [.Name "_law_e" p1,.Name x p2] X.env=(false,eval (.Name "_law_e" p1) X.env)::starEach [.Name x p2] X.env)(h2:starEach [.Name x p2] X.env=(false,eval (.Name x p2) X.env)::starEach [] X.env)(h3:(backTo pos (starEach [.Name x p2] X.env)).any (·.1)=false) :
  PE X (.Call (.Name "isinstance" p) [.Name "_law_e" p1,.Name x p2] [] pos) (P4 (Hk K) (oG (BY 0) (oG (tC (.ref C)) B6))):=by
 subst hK;exact qb xQ g1 B jm (bh (yz hN hv #[5] #[5]) (bh (yA g2 hm rfl hd) fc h2) h1) #[5] #[5] h1 h3
noncomputable def KN:Stmt->List Stmt
 |.Try b _ _ _ _=>b
 |_=>[]
noncomputable def Oz:Stmt->Pos
 |.Try _ _ _ _ p=>p
 |_=>⟨0,0,0,0⟩
noncomputable def AO:Stmt->List Stmt
 |.Try _ [.ExceptHandler _ _ b _] _ _ _=>b
 |_=>[]
noncomputable def KO:Stmt->Pos
 |.Try _ [.ExceptHandler _ _ _ p] _ _ _=>p
 |_=>⟨0,0,0,0⟩
noncomputable def KP:Stmt->Pos
 |.Try _ [.ExceptHandler (some (.Name _ p)) _ _ _] _ _ _=>p
 |_=>⟨0,0,0,0⟩
noncomputable def TQ(K:YE)(cs:Nat->Addr):TS:=PK (B0 (Dz (uq K cs) [] E0 (oG (BY 1) B6)) (aC 2)) (M0 (Tw (GR (Pj TC (BY 2) (tC (.str "many")))) (λ_ _ _=>False) (Np (oG (BY 2) B6))))
noncomputable abbrev Ir:=Ml.Ir
noncomputable def AQ(K:YE)(cs:Nat->Addr)(WE:Addr)(Q:VK):XK:=λcls _ H'=>PySem.W.exmOne K cls (.ref WE)=some true/\∀(a:Addr) (σ':St),H' a=none->σ'.length=3 ->
 TQ K cs {nx:=λ_ H''=>Q .non H'',rt:=Q} (σ'.set 1 (some (.ref a))) (upd H' a (.ext (et a cls)))
theorem KQ:∀j,wordAt j ≠ "many" := by
 have:∀x∈fH,x≠("many" : Str):=by trivial
 intro j;unfold wordAt Ml.wordAt;rw[Xa]
 cases e:fH[j]? with
 |none=>trivial
 |some x=>exact this x (UY e)
theorem Iz{K:YE}{cs:Nat->Addr}{WE D:Addr}{Q:VK}{H:Hp}{j:Nat}(kd:Kind K cs D j)(hm:PySem.W.exmOne K (.ref D) (.ref WE)=some true)(k:∀H' t,aX H H'->H' t=none->Q (.ref t) (upd H' t (.tup [.str (wordAt j)]))):AQ K cs WE Q (.ref D) none H:=by
 refine⟨hm,λa σ' ha hl=>?_⟩;have e1:(σ'.set 1 (some (.ref a)))[1]?=some (some (.ref a)):=by simp_all
 have s:aX H (upd H a (.ext (et a (.ref D)))):=aX.new ha;refine⟨_,e1,a,D,j,rfl,aM,kd,λH' s'=>?_⟩;have e2:∀v:V,((σ'.set 1 (some (.ref a))).set 2 (some v))[2]?=some (some v):=λv=>by simp_all
 refine⟨_,e2 _,rfl,?_⟩;rw[Vj (by intro h;injection h with h;exact KQ j h)];exact⟨false,rfl,NB ⟨_,e2 _,by show 1<=sizeLine;decide,λp hp=>k _ p (s.trans s') hp⟩⟩
noncomputable def Refs(K:YE)(cs:Nat->Addr)(WE:Addr)(cl:List Nat):Prop:=∀j∈cl,Kind K cs (cs j) j/\PySem.W.exmOne K (.ref (cs j)) (.ref WE)=some true
theorem OA{mg:YA}{cs:Nat->Addr}(C:KL mg cs){x:Str}{j:Nat}(h:Ml.clsAt x=some j):mg x=some (.ref (cs j)):=by
 unfold Ml.clsAt at h;rw[XA]at h;obtain⟨hl,e,_⟩:=h;have e:=eq_of_beq e;rcases j with _|_|_|_|_|_|_|_|_|_|_|_|j
 ·exact e▸C.m0
 ·exact e▸C.m1
 ·exact e▸C.m2
 ·exact e▸C.m3
 ·exact e▸C.m4
 ·exact e▸C.m5
 ·exact e▸C.m6
 ·exact e▸C.m7
 ·exact e▸C.m8
 ·exact e▸C.m9
 ·exact e▸C.m10
 ·exact e▸C.m11
 ·exact absurd hl (Nat.not_lt.mpr (Nat.le_add_left ..))
theorem QG{K:YE}{mg:YA}{cs:Nat->Addr}{WE:Addr}{cl:List Nat}(C:KL mg cs)(R:Refs K cs WE cl):Ml.Eu mg cl (AQ K cs WE):=λQ cls H x j hx hj hm k=>by have e:=OA C hx;rw[hm]at e;cases e;exact Iz (R j hj).1 (R j hj).2 k
noncomputable def SG(l:YC)(i:Nat):Addr:=l.getD i 0
noncomputable def kindB(K:YE)(l:YC)(D WE:Addr)(j:Nat):Bool:=decide (j<12)&&((List.range 14).all λi=>PySem.W.kitOne K (.ref D) (.ref (SG l i))==some (decide (i=j)))&&(PySem.W.kitOne K (.ref D) (.type "ValueError")==some true)&&(PySem.W.exmOne K (.ref D) (.ref WE)==some true)
theorem vD{K:YE}{l:YC}{D WE:Addr}{j:Nat}(h:kindB K l D WE j=true)(e:NU K D):Kind K (SG l) D j/\PySem.W.exmOne K (.ref D) (.ref WE)=some true:=by
 simp[kindB]at h;refine⟨⟨e,h.1.1.1,λi hi=>?_,h.1.2⟩,h.2⟩
 simp_all
end Wh
namespace Ml
open PySem
noncomputable def x8:MS:=aZ (jM (rF (eF (bK (zX (lC isStr) (af 0)))) (eF (aN (mi oLe oLe (ah (.int 1)) (ag fF (aa (af 0) aj)) (ah (.int 6)))))) (bJ (ah (.bool false))) cg)
    (bJ (ag pj (aa (bE 1 (aQ (af 0)) (aC 0) cG (mi oLe oLe (ah (.str "a")) (af 0) (ah (.str "z")))) aj)))
noncomputable def jS:Fn:=bx 1 1 x8
noncomputable def tj:MS:=bJ (ag pj (aa (bE 2 (uZ (aa (af 0) (aa (sT (af 0) (cP (ah (.int 1))) fm) aj))) (oC (cD (aC 0) (cD (aC 1) j6))) cG (ak oLt (af 0) (af 1))) aj))
noncomputable def fK:Fn:=bx 1 1 tj
noncomputable def tm:MS:=aZ (jM (rF (eF (bK (zX (lC isTup) (af 0)))) (aN (ak Pm (ag fF (aa (af 0) aj)) (ah (.int 12))))) (bJ (ah (.bool false))) cg)
    (bJ (vB (ag pj (aa (bE 1 (aQ (af 0)) (aC 0) cG (ag jS (aa (af 0) aj))) aj)) (ag fK (aa (af 0) aj))))
noncomputable def i9:Fn:=bx 1 1 tm
noncomputable def mj:MS:=aZ (jM (rF (eF (bK (zX (lC isTup) (af 0)))) (aN (ak j4 (ag fF (aa (af 0) aj)) (ah (.int 2))))) (bJ (ah (.bool false))) cg)
    (bJ (vB (ak JB (ak dz (af 0) #[15]) (af 1)) (ak JB (ak dz (af 0) (ah (.int 1))) (af 1))))
noncomputable def dI:Fn:=bx 2 2 mj
noncomputable def jr:MS:=aZ (jM (eF (bK (zX (lC isTup) (af 0)))) (bJ (ah (.bool false))) cg)
    (bJ (vB (ag pj (aa (bE 1 (aQ (af 0)) (aC 0) cG (ag dI (aa (af 0) (aa (af 2) aj)))) aj)) (ag fK (aa (af 0) aj))))
noncomputable def dX:Fn:=bx 2 2 jr
noncomputable def vE:MS:=aZ (jM (rF (eF (bK (zX (lC isTup) (af 0)))) (aN (ak j4 (ag fF (aa (af 0) aj)) (ah (.int 2))))) (bJ (ah (.bool false))) cg)
    (aZ (oE (oC (cD (aC 1) (cD (aC 2) j6))) (af 0))
    (bJ (vB (ag i9 (aa (af 1) aj)) (ag dX (aa (af 2) (aa (af 1) aj))))))
noncomputable def iE:Fn:=bx 1 3 vE
noncomputable def ku:MS:=jM (eF (bK (ag iE (aa (af 0) aj)))) (rV "NoWeb" (aa (ah (.str "no web, a tuple (names, strikes)")) aj)) cg
noncomputable def dR:Fn:=bx 1 1 ku
noncomputable def AR:MS:=aZ (jM (eF (bK (zX (lC isTup) (af 0)))) (bJ (ah (.bool false))) cg)
    (bJ (vB (ag pj (aa (bE 1 (aQ (af 0)) (aC 0) cG (ak JB (af 0) (af 2))) aj)) (ag fK (aa (af 0) aj))))
noncomputable def mm:Fn:=bx 2 2 AR
noncomputable def AS:MS:=jM (eF (bK (ag mm (aa (af 1) (aa (ak dz (af 0) #[15]) aj))))) (rV "NoLot" (aa (ah (.str "no lot of the web, a rising tuple of its names")) aj)) cg
noncomputable def gM:Fn:=bx 2 2 AS
noncomputable def xg:MS:=jM (aN (ak j4 (ak dz (af 0) #[15]) (ak dz (af 1) #[15]))) (rV "NoPair" (aa (ah (.str "the webs have unlike names")) aj)) cg
noncomputable def gE:Fn:=bx 2 2 xg
noncomputable def vF:MS:=bJ (bE 1 (aQ (ah (.str "abcdefghijklmnopqrstuvwxyz"))) (aC 0) (aN (ak gJ (af 0) (af 1))) (af 0))
noncomputable def eL:Fn:=bx 1 1 vF
noncomputable def AU:MS:=bJ (Hv (ag FJ (aa (bE 1 (aQ (af 0)) (aC 0) cG (ak JB (af 0) (af 2))) aj)))
noncomputable def mn:Fn:=bx 2 2 AU
noncomputable def ze:MS:=aZ (oM (ag gM (aa (af 0) (aa (af 1) aj))))
    (aZ (oM (ag gM (aa (af 0) (aa (af 2) aj))))
    (jM (eF (bK (ag mn (aa (af 1) (aa (af 2) aj))))) (rV "NoLot" (aa (ah (.str "the two lots have a name in common")) aj)) cg))
noncomputable def dS:Fn:=bx 3 3 ze
end Ml
namespace L2
open PySem PySem.Spec PyProof.Rows
section
variable {X:Cx} {e:Expr} {es:YG} {p:Pos} {te:TE} {t:TA}
noncomputable def QH(te:TE)(t:TA)(K:YE):TA:=λσ H Q=>te σ H λx H1=>∃a vs,x=.ref a/\(H1 a=some (.lst vs)\/gm K H1 a vs)/\t σ H1 λus H2=>Q (vs++us) H2
theorem KR(ha:PE X e te)(hr:PA X es t)(he:starEach (.Starred e p::es) X.env=(true,eval e X.env)::starEach es X.env:=by rfl):PA X (.Starred e p::es) (QH te t X.K):=by
 intro pos pins s σ H Q I h;refine PySem.W.items_star (cU (ha pins s σ H _ I h) λu s1 ⟨x,H1,I1,r1,a,vs,hx,hseq,q1⟩=>?_) he;subst hx;cases r1;have key:∀(its:YD),Vals vs its->∀h',(∀b o',s1.heap.get? b=some o'->h'.get? b=some o')->wpAny #[12] X.A (spliced (backTo pos (starEach es X.env))) (λws s3=>AP X pins σ Q (its++ws) s3) X.xe {s1 with heap:=h'}:=λits rv h' hk=>by have I2:Inv X pins σ H1 {s1 with heap:=h'}:=I1.kept (t':=s1.toks) hk;exact cU (hr pos pins _ σ H1 _ I2 q1) (by rintro us s2 ⟨xs,H2,I3,r2,q2⟩;exact⟨vs++xs,H2,I3,rv.append r2,q2⟩)
 unfold PySem.W.StarOf notIterableAtAll;rcases hseq with hl|ht
 ·obtain⟨its,n,rv,eo,hz⟩:=I1.lst hl;have hT':s1.TypeIs (.ref a) "list" := ⟨_,eo,rfl⟩;refine UE (We hT' PySem.F.slot_list_iter.lookup (UH ⟨rfl,?_⟩));exact wpAny_collect_seq a (.inl rfl) eo rfl rfl (λh' hk=>by grind) (by rw[UX,<- rv.length];exact hz)
 ·obtain⟨its,rv,⟨o,eo,hc,n,hd⟩,hz⟩:=I1.tuple ht;have hT':s1.TypeIs (.ref a) "tuple" := ⟨o,eo,hc⟩;refine UE (We hT' PySem.F.slot_tuple_iter.lookup (UH ⟨rfl,?_⟩));exact wpAny_collect_seq a (.inr rfl) eo hc hd (λh' hk=>by simpa using key its rv h' hk) (by rw[UX,<- rv.length];exact hz)
end
end L2
namespace Ml
open PySem PySem.Spec L2
noncomputable def qI(x:D)(h:Hm):Option YB:=match x with
 |.dat (.tuple ds)=>some ds
 |.ktup ds=>some ds
 |x=>listOf x h
noncomputable def oQ(m:ME)(a:MA):MA:=λρ h=>(m ρ h).bind λx h1=>match qI x h1 with
 |some ds=>(a ρ h1).bind λys h2=>.ok (ds.map D.dat++ys) h2
 |Option.none=>.bad
section
variable {X:Cx} {E:XK} {m:ME} {a:MA} {e:Expr} {es:YG} {p:Pos}
theorem iF:∀{ds:YB} {vs:List V},bf (view θ H) ds vs->cN ds=true->aV G θ H (ds.map D.dat) vs
 | [],_,r,_=>by subst r;exact .nil
 |d::ds,_,r,s=>by simp[cN]at s;obtain⟨w,ws,rfl,r1,r2⟩:=r;exact .cons ⟨r1,s.1⟩ (iF r2 s.2)
theorem x9:∀{xs ys:List D} {vs us:List V},aV G θ H xs vs->aV G θ H ys us->aV G θ H (xs++ys) (vs++us)
 |_,_,_,_,.nil,r=>r
 |_,_,_,_,.cons a r,q=>.cons a (x9 r q)
theorem vG:∀{xs:YB},(∀x∈xs,(match x with|.int _|.str _|.bool _|.none=>true|_=>false)=true)->cN xs=true->aV G θ H (xs.map D.dat) (xs.map Qp)
 | [],_,_=>.nil
 |d::ds,h,s=>by simp[cN]at s;refine .cons ⟨?_,s.1⟩ (vG (λx m=>h x (UQ _ m)) s.2);have:=h d (UW ..);cases d<;>first|rfl|trivial
theorem zf(hm:DE X E m e)(ha:DA X E a es)(he:starEach (.Starred e p::es) X.env=(true,eval e X.env)::starEach es X.env:=by rfl):DA X E (oQ m a) (.Starred e p::es):=by
 simp only[bS,kX]at *;rintro pos pins s σ H Q I ⟨θ,h,ρ,w,fr,p⟩;refine KR hm ha he pos pins s σ H Q I ⟨θ,h,ρ,w,fr,(aL.bind p).mono λd θ1 h1 H1 _ _ ⟨ev,w1,p1⟩ v r=>?_⟩;have fin:∀(b:Addr) (ds:YB) (vs:List V),v=.ref b->(H1 b=some (.lst vs)\/gm X.K H1 b vs)->aV X.G θ1 H1 (ds.map D.dat) vs->qI d h1=some ds->∃a_1 vs,v=.ref a_1/\(H1 a_1=some (.lst vs)\/gm X.K H1 a_1 vs)/\lA X.G E a σ H1 λus H2=>Q (vs++us) H2:=λb ds vs e1 e2 e3 e4=>by rw[e4]at p1;refine⟨b,vs,e1,e2,θ1,h1,ρ,w1,fr.ev ev,(aL.bind p1).mono λys θ2 h2 H2 _ _ ⟨ev2,w2,p2⟩ us ru=>?_⟩;exact p2 θ2 H2 Ev.refl w2 _ (x9 (e3.ev ev2) ru)
 cases hs:qI d h1 with
 |none=>rw[hs]at p1;exact p1.elim
 |some ds=>
  have hs':=hs;unfold qI at hs;split at hs
  ·cases hs;obtain⟨⟨b,vs,rfl,hb,rr⟩,so⟩:=r;exact fin b ds vs rfl (.inr (.inl (.inl (aF _ _ _ _ hb)))) (iF rr (by simpa [fz]using so)) hs'
  ·cases hs;obtain⟨b,rfl,⟨o,its,n,k1,k2,k3,k4,k5⟩,k6,k7⟩:=r;exact fin b ds _ rfl (.inr (.inr ⟨o,its,n,k1,k2,k3,k4,k5⟩)) (vG k6 k7) hs'
  ·obtain⟨b,vs,rfl,hb,rr,so⟩:=nY w1 r hs;exact fin b ds vs rfl (.inl hb) (iF rr so) hs'
end
end Ml
namespace Ml
open PySem
noncomputable def iG:YB->YB
 | []=>[]
 |x::xs=>if xs.any (PyData.eqv x)then iG xs else x::iG xs
noncomputable def setOk(ds:YB):Bool:=(ds.all jo || ds.all ph)&&bz ds&&decide (PyData.depthAll ds<=8)&&decide (ds.length<=120)
noncomputable def fU:Fn:=λxs h=>match xs with
 | [x]=>match qI x h with
  |some ds=>if setOk ds&&eh (iG ds)then .ok (.dat (.list (bN ltB (iG ds)))) h else .bad
  |Option.none=>.bad
 |_=>.bad
noncomputable def KU(ds es:YB):YB:=iG (ds++es)
theorem ya:∀{ds:YB},bz ds=true<->∀d∈ds,aI d=true
 | []=>by trivial
 |d::ds=>by simp[bz,ya]
theorem Ew{ds:YB}(hd:∀d∈ds,aI d=true)(hx:aI x=true):ds.any (PyData.eqv x)=true<->x∈ds:=by
 rw[Xi];constructor
 ·rintro⟨y,hy,e⟩;rw[(ql (aY hx) (aY (hd y hy))).mp e];exact hy
 ·exact λh=>⟨x,h,br (aY hx)⟩
theorem jT:∀{ds:YB},(∀d∈ds,aI d=true)->∀d,d∈iG ds<->d∈ds
 | [],_,d=>by rfl
 |x::xs,h,d=>by
  have hx:=h x (UW ..);have hxs  := λd m=>h d (UQ _ m);have ih:=jT hxs d;unfold iG;split
  ·rename_i z;rw[Ew hxs hx]at z
   grind
  grind
theorem ja:∀{ds:YB},(∀d∈ds,aI d=true)->(iG ds).Nodup
 | [],_=>by trivial
 |x::xs,h=>by
  have hx:=h x (UW ..);have hxs  := λd m=>h d (UQ _ m);unfold iG;split
  ·exact ja hxs
  ·rename_i z;refine VM.mpr ⟨λq=>z ?_,ja hxs⟩;rw[Ew hxs hx];exact(jT hxs x).mp q
end Ml
namespace L2
open PySem PySem.Spec PyProof.Rows
theorem zg(ha:s.TypeIs a "list")(hb:s.TypeIs b "list")
 (hc:wpAny M A (call (.builtin "list.__iadd__") [a,b]) Q E s):wpAny M A (inplaceOp .Add a b) Q E s:=by
 unfold inplaceOp;refine U7 ?_;have hi:=F.slot_list_iadd.lookup;have hfi:fillsInplaceSlot (.type "list") "add" (Operator.Add == .Add)=pure false:=by unfold fillsInplaceSlot;show(typeLookup (.type "list") (dunderI "add") >>= λfi=>pure (fi.isSome && !isSeqSlot fi))=pure false;rw[hi];show(pure (true && !isSeqSlot (some (.builtin "list.__iadd__"))):Sem Bool)=pure false;rw[show isSeqSlot (some (.builtin "list.__iadd__"))=true by decide +kernel];rfl
 refine UE (WW ha (UE (WC hfi ?_)));show wpAny M A (if false=true then _ else _) Q E s;rw[if_neg Ve];refine UE (wpAny_binaryOp1_none (nm := "add") ha hb noFill_list_add ?_);refine UE (WC (PySem.seqSlot_of hi #[9]) ?_);exact UE (V5 hc)
noncomputable def Uu:R4:=λx y H Q=>∃l b xs zs,x=.ref l/\y=.ref b/\H l=some (.lst xs)/\H b=some (.lst zs)/\xs.length+zs.length<=sizeLine/\Q (.ref l) (upd H l (.lst (xs++zs)))
theorem KW:Tx X .Add Uu:=by
 intro pins s σ H x y v u Q I rx ry h;obtain⟨l,b,xs,zs,rfl,rfl,hH,hB,hz,q⟩:=h;cases rx;cases ry;obtain⟨z,its,n,r,hl,e⟩:=I.Ai hH;obtain⟨z2,its2,n2,r2,hl2,e2⟩:=I.Ai hB;have hsz:its.toArray.size+its2.toArray.size<=sizeLine:=by grind
 have hlong:¬ (!its.toArray.isEmpty&&Builtin.List.listTooLong (its.toArray.size+its2.toArray.size))=true:=by
  simp_all[Aj,hsz,Bool.and_false]
 refine zg ⟨_,e,rfl⟩ ⟨_,e2,rfl⟩ (WM F.slot_list_iadd ⟨_,e,rfl⟩ F.entry_list_iadd (F.args_list_iadd_2 _ _)
  (AutoSeq1.list___iadd___list_list_0 l its.toArray n b its2.toArray n2 hlong #[4] #[4]) ⟨e,e2,?_⟩)
 refine⟨.ref l,_,I.P7 (its':=its++its2) hH e #[6] (r.append r2) ?_,rfl,q⟩
 grind
end L2
namespace Ml
open PySem PySem.Spec L2
noncomputable def qJ(i:Nat)(m:ME):MS:=λρ h=>match ρ[i]? with
 |some (some (.ref j))=>(m ρ h).bind λy h1=>match y with
  |.dat (.list ds)=>match h1[j]? with
   |some (.lst xs)=>if kc (xs.length+ds.length)then .ok (.nx (ρ.set i (some (.ref j)))) (h1.set j (.lst (xs++ds.map D.dat)))else .bad
   |_=>.bad
  |_=>.bad
 |_=>.bad
section
variable {X:Cx} {E:XK} {m:ME} {e:Expr} {x:Str} {i:Nat} {pos pos':Pos}
theorem KY(hN:X.N.Nodup)(hi:X.N[i]?=some x)(hx:Loc X.env.scope x)(he:DE X E m e)(hf:#[3]:=by first|exact .inl rfl|exact .inr rfl|assumption) :
  DS X E (qJ i m) (.AugAssign (.Name x pos') .Add e pos):=by
 simp only[bS,kY]at *
 exact PS.imp (M8 hN hi hx he KW hf) (by
  rintro C σ H ⟨θ,h,ρ,w,fr,p⟩;unfold qJ at p
  cases e1:ρ[i]? with
  |none=>rw[e1]at p;exact p.elim
  |some o=>
   cases o with
   |none=>rw[e1]at p;exact p.elim
   |some d=>
    rw[e1]at p;obtain⟨v,h1,h2⟩:=fr.2 i d e1
    cases d with
    |ref j=>
     refine⟨v,h1,θ,h,ρ,w,fr,(aL.bind p).mono ?_⟩;rintro y θ1 h1' H1 _ _ ⟨ev,w1,p1⟩ u r
     cases y with
     |dat q2=>
      cases q2 with
      |list ds=>
       simp only at p1
       cases g:h1'[j]? with
       |none=>rw[g]at p1;exact p1.elim
       |some o=>
        rw[g]at p1
        cases o with
        |lst xs=>
         simp only at p1;split at p1
         ·rename_i hz;have hv:=h2.ev ev;obtain⟨a,vs,rfl,ha,hH,rs⟩:=qD w1 hv g;obtain⟨⟨b,us,rfl,hB,rr⟩,so⟩:=r;have rd:aV X.G θ1 H1 (ds.map D.dat) us:=iF rr (by simpa [fz]using so);obtain⟨ev2,w2⟩:=w1.CB ha (jR g) (gC rs rd);have hl:xs.length=vs.length:=U9 rs;have hl2:ds.length=us.length:=rr.length.symm;refine⟨a,b,vs,us,rfl,rfl,hH,(cQ hB).2,by rw[<- hl,<- hl2,XO];exact Wy hz,?_⟩;exact p1 θ1 _ ev2 w2 _ (((fr.ev ev).ev ev2).set (hv.ev ev2))
         ·exact p1.elim
        |_=>exact p1.elim
      |_=>exact p1.elim
     |_=>exact p1.elim
    |_=>exact p.elim)
theorem Mk(i:Nat)(hN:X.N.Nodup)(he:DE X E m e)(hi:X.N[i]?=some x:=by rfl)(hx:Loc X.env.scope x:=by first|exact Or.inl rfl|exact Or.inr rfl)(hf:#[3]:=by first|exact Or.inl rfl|exact Or.inr rfl) :
  DS X E (qJ i m) (.AugAssign (.Name x pos') .Add e pos):=KY hN hi hx he hf
end
end Ml
namespace L2
open PySem PySem.Spec PyProof.Rows
section
variable {prog:YL} {w:World} {A:YN} {E:Yw} {s:YO}
theorem yb(hne:t≠it):∀(n i:Nat) (s:YO) (Q:YD->YO->Prop),s.heap.IsListIter it t i->s.heap.IsList t items->i+n<=items.size ->
  (∀h',h'.IsListIter it t (i+n)->Heap.SameBut it s.heap h'->Q ((items.toList.drop i).take n) {s with heap:=h'})->wpAny (model prog w) A (draw (.ref it) n) Q E s
 |0,i,s,Q,hit,_,_,hQ=>by show wpAny _ _ (pure []) Q E s;exact UH (by simpa using hQ s.heap hit (Heap.SameBut.refl ..))
 |n+1,i,s,Q,hit,ht,hle,hQ=>by
  have hlt:i<items.size:=by omega
  show wpAny _ _ (pyNext (.ref it) >>= _) Q E s;refine UE (wpAny_pyNext_list_item hit ht (x:=items[i]) (by grind) λh₁ hit₁ hs₁=>?_);refine UE (U7 (yb hne n (i+1) _ _ hit₁ (ht.extBut hs₁.extBut hne) #[4] λh₂ hit₂ hs₂=>UH ?_));have hd:items.toList.drop i=items[i]::items.toList.drop (i+1):=by simp[VE,hlt]
  have:=hQ h₂ (by rw[show i+(n+1)=i+1+n by omega];exact hit₂) (hs₁.trans hs₂)
  grind
theorem AV(hh:A.handled=none)(ht:s.heap.IsList t items)
 (hn:targets.length=items.size)(hstar:targets.findIdx? (·.1)=none)
 (h:∀h',Heap.ExtBut #[10] s.heap h'->wpAny (model prog w) A (assignInOrder (targets.map (·.2)) items.toList) Q E {s with heap:=h'}) :
  wpAny (model prog w) A (unpack (.ref t) targets) Q E s:=by
 unfold unpack;rw[hn,hstar];refine UE (U7 ?_);have hlt:t≠#[10]:=by obtain⟨o,ho,_⟩:=ht;exact UR (UL ho)
 unfold unpackItems;refine UE ?_;unfold notIterableAtAll;refine UE (We ht.typeIs F.slot_list_iter.lookup ?_);refine UH ?_;simp only[US,Vu];refine UE (U7 (W0 ht ?_));refine UE (U7 (yb hlt items.size 0 _ _ ⟨_,UK _ rfl,rfl,rfl⟩ (ht.push _) #[4] λh₁ hit₁ hs₁=>?_));have hall:List.take items.size (List.drop 0 items.toList)=items.toList:=by rw[List.drop_zero];exact XI #[6]
 rw[hall];rw[if_neg #[6]];have ht₁:h₁.IsList t items:=(ht.push _).extBut hs₁.extBut hlt;refine UE (U7 (wpAny_pyNext_list_end hh hit₁ ht₁ #[6] λh₂ he₂=>?_));simp only[Option.isSome_none,US,Vu];exact UH (h h₂ λb o hb e=>he₂ b o hb (hs₁.extBut b o hb (UG _ e)))
end
section
variable {X:Cx} {pos:Pos}
noncomputable def vH(K:YE)(n:Nat)(t:M1):TG:=λv σ H Q=>∃a xs,v=.ref a/\gY K H a xs/\xs.length=n/\t xs σ H Q
theorem KZ{k:Nat}(hc:X.calm=true)(h:M3 X es t)
 (hn:(assignEach es X.env).length=n:=by rfl)(hst:(assignEach es X.env).findIdx? (·.1)=none:=by rfl):PG X (.Tuple es k pos) (vH X.K n t):=by
 intro pins s σ H v u Q I r hw;obtain⟨a,xs,e1,hq,hl,hw⟩:=hw;subst e1;cases r;obtain⟨its,rv,ht,hz⟩:=I.list hq;refine UE (wpAny_standAt (AV (I.ok.hd hc) ht.isList (by simp[hn,<- hl,rv.length]) hst λh' hx=>?_));have I1:Inv X pins σ H {s with heap:=h'}:=I.kept λb o e=>hx b o (UR (UL e)) e;exact h pins _ σ H xs _ Q I1 #[4] hw
end
end L2
namespace Ml
open PySem PySem.Spec L2
noncomputable def vH(gs:FG):MG:=λx ρ h=>match x with
 |.dat (.list ds)=>gs (ds.map D.dat) ρ h
 |_=>.bad
section
variable {X:Cx} {E:XK} {gs:FG} {es:YG} {pos:Pos}
theorem Ex{k n:Nat}(hc:X.calm=true)(h:N8 X E gs es)(tk:vf gs n)(hn:(assignEach es X.env).length=n:=by rfl)(hst:(assignEach es X.env).findIdx? (·.1)=none:=by rfl):DG X E (vH gs) (.Tuple es k pos):=by
 simp only[oO,yZ,qy]at *;rintro pins s σ H v u Q I r ⟨θ,hm,ρ,d,w,fr,rd,p⟩
 cases d with
 |dat d=>
  cases d with
  |list ds=>
   obtain⟨⟨a,xs,e,ha,rr⟩,so⟩:=rd
   have hl:xs.length=n:=by
    have h1:xs.length=ds.length:=rr.length;by_cases z:ds.length=n
    ·omega
    ·have p':=p;simp only[vH]at p';rw[tk (ds.map D.dat) ρ hm (by grind)]at p';exact p'.elim
   exact KZ (n:=n) hc h hn hst pins s σ H v u Q I r ⟨a,xs,e,gY.of (aF _ _ _ _ ha),hl,θ,hm,ρ,_,w,fr,iF rr (by assumption),p⟩
  |_=>trivial
 |_=>exact p.elim
end
end Ml
namespace Ml
open PySem
noncomputable def xh:MS:=aZ (oE (vH (cD (aC 3) (cD (aC 4) j6))) (sT (ag eL (aa (af 0) aj)) fm (cP (ah (.int 2)))))
    (aZ (cx 5 (Ax (aa (af 3) (oQ (af 1) aj))))
    (aZ (cx 6 (yT 1 (aQ (af 1)) (aC 0) cG (dG (aa (af 4) (aa (af 0) aj)))))
    (aZ (jM (bK (af 2)) (aZ (qJ 5 (dZ (aa (af 4) (oQ (af 2) aj))))
    (qJ 6 (bE 1 (aQ (dZ (aa (af 4) (oQ (af 2) aj)))) (aC 0) cG (dG (aa (af 5) (aa (af 0) aj)))))) cg)
    (bJ (dG (aa (ag dk (aa (ag dA (aa (af 5) aj)) aj)) (aa (ag dk (aa (ag dA (aa (af 6) aj)) aj)) aj)))))))
noncomputable def oR:Fn:=bx 3 7 xh
noncomputable def jt:Fn:=gI oR
noncomputable def CF:MS:=aZ (oM (ag dR (aa (af 0) aj)))
    (aZ (oM (ag dR (aa (af 1) aj)))
    (aZ (oM (ag gE (aa (af 0) (aa (af 1) aj))))
    (aZ (oM (ag dS (aa (af 0) (aa (af 2) (aa (af 3) aj)))))
    (bJ (ag jt (aa (ak dz (af 0) #[15]) (aa (af 2) (aa (af 3) aj))))))))
noncomputable def aR:Fn:=bx 4 4 CF
noncomputable def tu:MS:=aZ (jM (aN (ak oLt (af 1) (ag fF (aa (af 0) aj)))) (bJ (ak dz (af 0) (af 1))) cg)
    (bJ #[15])
noncomputable def fL:Fn:=bx 2 2 tu
noncomputable def vI:MS:=aZ (cx 1 (ag FK (aa (af 0) (aa (ak FH #[15] (af 0)) aj))))
    (bJ (Ax (aa (af 1) (aa (ag va (aa (ak Qm (af 1) (ah (.int (10^18)))) aj)) aj))))
noncomputable def iH:Fn:=bx 1 2 vI
noncomputable def mr:MS:=aZ (jM (aN (ak oEq (ak dz (af 0) (ah (.int 1))) (ah (.int 1)))) (aZ (oE (oC (cD (aC 2) (cD (aC 3) j6))) (ag qk (aa (ak dz (af 0) #[15]) (aa (af 1) aj))))
    (aZ (oE (Ad (af 0) #[15]) (af 2))
    (bJ (af 3)))) cg)
    (aZ (cx 4 (ak oMod (ak ly (ak cF (ak oMod (ak dz (af 0) #[15]) (ah (.int 2147483647))) (ah (.int 40503))) (ah (.int 69621))) (ah (.int 2147483629))))
    (aZ (cx 4 (ak oMod (ak cF (ak ly (af 4) (af 4)) (ah (.int 7817))) (ah (.int 2147483587))))
    (aZ (oE (Ad (af 0) #[15]) (ak oMod (ak cF (ak ly (af 4) (ah (.int 48271))) (ah (.int 11))) (ah (.int 2147483629))))
    (bJ (ak oMod (ak qj (ak dz (af 0) #[15]) (ah (.int 32))) (af 1))))))
noncomputable def aA:Fn:=bx 2 5 mr
noncomputable def qK:MS:=aZ (cx 2 (Ax (aa (ah (.str "a")) (aa (ah (.str "aa")) (aa (ah (.str "ab")) (aa (ah (.str "abcdef")) (aa (ah (.str "b")) (aa (ah (.str "c")) (aa (ah (.str "d")) (aa (ah (.str "e")) (aa (ah (.str "m")) (aa (ah (.str "x")) (aa (ah (.str "zz")) (aa (ah (.str "zzzzzz")) aj))))))))))))))
    (bJ (ag dk (aa (ag dA (aa (bE 1 (oN (aa (ag aA (aa (af 0) (aa (ak cF (af 1) (ah (.int 1))) aj))) aj)) (aC 0) cG (Ia rN (af 3) (ag aA (aa (af 1) (aa (ag fF (aa (af 3) aj)) aj))))) aj)) aj)))
noncomputable def ky:Fn:=bx 2 3 qK
noncomputable def kz:Fn:=gI ky
noncomputable def CG:MS:=aZ (oE (oC (cD (aC 2) (cD (aC 3) (cD (aC 4) j6)))) (dG (aa (ag kz (aa (af 0) (aa (af 1) aj))) (aa (ak dz (ah (.list [.int 1,.int 2,.int 3,.int 5])) (ag aA (aa (af 0) (aa (ah (.int 4)) aj)))) (aa (ah (.list [])) aj)))))
    (aZ (t8 (aQ (af 2)) (aC 5) (cx 4 (ak cF (af 4) (bE 1 (aQ (af 2)) (aC 0) (aN (ak oLt (ag aA (aa (af 1) (aa (ah (.int 8)) aj))) (af 4))) (dG (aa (af 6) (aa (af 0) aj)))))))
    (bJ (dG (aa (af 2) (aa (ag dk (aa (af 4) aj)) aj)))))
noncomputable def kA:Fn:=bx 2 6 CG
noncomputable def AW:MS:=aZ (cx 1 (ah (.list [.none,.bool true,.bool false,.int 0,.int 1,.int (-1),.int (10^29),.str "",.str "a",.str "A",.str "abcdefg",.str "a b",.str "in",.tuple [],.list [],.dict [],.tuple [.int 0],.list [.str "a"]])))
    (aZ (cx 1 (ak cF (af 1) (ah (.list [.tuple [.str "a"],.tuple [.str "a",.str "a"],.tuple [.tuple [.str "a"],.tuple []],.tuple [.tuple [],.tuple []],.dict [(.str "a",.int 1)],.tuple [.str "in"],.tuple [.tuple [.str "a",.str "a"]],.tuple [.str "leaf",.str "a"]]))))
    (bJ (ak dz (af 1) (ag aA (aa (af 0) (aa (ah (.int 26)) aj))))))
noncomputable def jb:Fn:=bx 1 2 AW
noncomputable def mv:MS:=aZ (jM (rF (eF (bK (zX (lC isStr) (af 0)))) (eF (aN (mi oLe oLe (ah (.int 1)) (ag fF (aa (af 0) aj)) (ah (.int 6)))))) (bJ (ah (.bool false))) cg)
    (bJ (ak oEq (bE 1 (aQ (af 0)) (aC 0) (aN (ak gJ (af 0) (ah (.str "abcdefghijklmnopqrstuvwxyz")))) (af 0)) (ah (.list []))))
noncomputable def cz:Fn:=bx 1 1 mv
noncomputable def rW:MS:=bJ (ak oEq (bE 2 (uZ (aa (af 0) (aa (sT (af 0) (cP (ah (.int 1))) fm) aj))) (oC (cD (aC 0) (cD (aC 1) j6))) (eF (aN (ak oLt (af 0) (af 1)))) (ah (.int 1))) (ah (.list [])))
noncomputable def eU:Fn:=bx 1 1 rW
noncomputable def oS:MS:=aZ (jM (rF (eF (bK (zX (lC isTup) (af 0)))) (rF (aN (ak j4 (ag fF (aa (af 0) aj)) (ah (.int 2)))) (eF (bK (ag pj (aa (bE 1 (aQ (af 0)) (aC 0) cG (zX (lC isTup) (af 0))) aj)))))) (bJ (ah (.bool false))) cg)
    (aZ (oE (oC (cD (aC 1) (cD (aC 2) j6))) (af 0))
    (aZ (jM (rF (aN (ak Pm (ag fF (aa (af 1) aj)) (ah (.int 12)))) (rF (eF (bK (ag pj (aa (bE 1 (aQ (af 1)) (aC 0) cG (ag cz (aa (af 0) aj))) aj)))) (eF (bK (ag eU (aa (af 1) aj)))))) (bJ (ah (.bool false))) cg)
    (aZ (t8 (aQ (af 2)) (aC 3) (aZ (jM (rF (eF (bK (zX (lC isTup) (af 3)))) (rF (aN (ak j4 (ag fF (aa (af 3) aj)) (ah (.int 2)))) (eF (bK (ag pj (aa (bE 1 (aQ (af 3)) (aC 0) cG (ag cz (aa (af 0) aj))) aj)))))) (bJ (ah (.bool false))) cg)
    (jM (rF (aN (ak gJ (ak dz (af 3) #[15]) (af 1))) (aN (ak gJ (ak dz (af 3) (ah (.int 1))) (af 1)))) (bJ (ah (.bool false))) cg)))
    (bJ (ag eU (aa (af 2) aj))))))
noncomputable def cq:Fn:=bx 1 4 oS
noncomputable def zh(f__law_bentp_n:Fn):MS:=aZ (cx 2 (ag aA (aa (af 0) (aa (ah (.int 7)) aj))))
    (aZ (jM (rF (eF (bK (zX (lC isTup) (af 1)))) (rF (aN (ak oEq (af 1) (ah (.tuple [])))) (aN (ak oLt (af 2) (ah (.int 2)))))) (aZ (cx 3 (ah (.list [.none,.str "",.str "a",.str "zz",.str "A",.str "abcdefg",.int 7,.tuple [],.tuple [.str "a",.str "a"],.list [],.bool true,.tuple [.str "a"],.str "in",.str "open"])))
    (bJ (ak dz (af 3) (ag aA (aa (af 0) (aa (ah (.int 14)) aj)))))) cg)
    (aZ (cx 4 (ag aA (aa (af 0) (aa (ag fF (aa (af 1) aj)) aj))))
    (aZ (jM (aN (ak oLt (af 2) (ah (.int 4)))) (bJ (ak cF (ak cF (sT (af 1) fm (cP (af 4))) (dG (aa (ag f__law_bentp_n (aa (af 0) (aa (ak dz (af 1) (af 4)) aj))) aj))) (sT (af 1) (cP (ak cF (af 4) (ah (.int 1)))) fm))) cg)
    (bJ (ak dz (dZ (aa (ak cF (sT (af 1) fm (cP (af 4))) (sT (af 1) (cP (ak cF (af 4) (ah (.int 1)))) fm)) (aa (ag u9 (aa (af 1) aj)) (aa (ak cF (af 1) (sT (af 1) (cP (af 4)) (cP (ak cF (af 4) (ah (.int 1)))))) aj)))) (ak FH (af 2) (ah (.int 4))))))))
noncomputable def de:Nat->Fn
 |0=>bx 2 5 (λ_ _=>.bad)
 |n+1=>bx 2 5 (zh (de n))
noncomputable def CH:MS:=bJ (ag dk (aa (bE 1 (aQ (ak dz (af 1) #[15])) (aC 0) (aN (ak oEq (ag aA (aa (af 1) (aa (ah (.int 2)) aj))) #[15])) (af 0)) aj))
noncomputable def iI:Fn:=bx 2 2 CH
noncomputable def vJ:MS:=aZ (cx 2 (dZ (aa (ah .none) (aa (ah (.tuple [])) (aa (dZ (aa (af 1) aj)) (aa (ak dz (af 1) #[15]) (aa (dG (aa (ak dz (af 1) #[15]) aj)) (aa (ag u9 (aa (af 1) aj)) (aa (dG (aa (ak dz (af 1) #[15]) (aa (ak dz (af 1) (ah (.int 1))) (aa (ah (.tuple [])) aj)))) (aa (ag (de 5) (aa (af 0) (aa (af 1) aj))) (aa (ag jb (aa (af 0) aj)) aj)))))))))))
    (bJ (bE 1 (aQ (af 2)) (aC 0) (eF (bK (ag cq (aa (af 0) aj)))) (af 0)))
noncomputable def iJ:Fn:=bx 2 3 vJ
end Ml
set_option maxHeartbeats 4000000
namespace PySem.W
open PySem PySem.Calls PyProof.Rows
noncomputable def qL:Bool->Keyed->Array Keyed->Nat->Nat->Nat->StateT SortSt Sem (Option Nat):=sortPriv% PySem.Builtin.gallop
noncomputable def qM:Array Keyed->Array Keyed->StateT SortSt Sem (Array Keyed):=sortPriv% PySem.Builtin.mergeLo
noncomputable def qN:Array Keyed->Array Keyed->StateT SortSt Sem (Array Keyed):=sortPriv% PySem.Builtin.mergeHi
theorem AX(i:Nat):mergeAt' i=(do
 let s <- get
 let (some (sa,na,power),some (sb,nb,_)):=((pendingOf s)[i]?,(pendingOf s)[i+1]?)|unsupported "internal:list.sort.pending"
 set (setPending s (((pendingOf s).setIfInBounds i (sa,na+nb,power)).eraseIdxIfInBounds (i+1)))
 let some k <- qL false (<- elem' (arrOf s) sb) (arrOf s) sa na 0|return false
 let (sa,na):=(sa+k,na-k)
 if na==0 then return true
 let some nb <- qL true (<- elem' (arrOf s) (sa+na-1)) (arrOf s) sb nb (nb-1)|return false
 if nb==0 then return true
 let x:=(arrOf s).extract sa sb
 let y:=(arrOf s).extract sb (sb+nb)
 let merged <- if na<=nb then qM x y else qN x y
 modify λs=>setArr s (merged.toList.zipIdx.foldl (λa (p,j)=>a.setIfInBounds (sa+j) p) (arrOf s))
 return (failedOf (<- get)).isNone):=rfl
theorem vK(left:Bool)(key:Keyed)(arr:Array Keyed)(base n hint:Nat):qL left key arr base n hint=(do
 let beyond (i:Nat):StateT SortSt Sem (Option Bool):=do
  let x <- elem' arr (base+i)
  if left then lt' x key else return (<- lt' key x).map (!·)
 let mut lastofs:=0
 let mut ofs:=1
 let mut lo:=0
 let mut hi:=0
 let some right <- beyond hint|return none
 if right then
  let maxofs:=n-hint
  for _ in [0:n] do
   if ofs>=maxofs then break
   let some more <- beyond (hint+ofs)|return none
   if !more then break
   lastofs:=ofs
   ofs:=2*ofs+1
  lo:=hint+lastofs+1
  hi:=hint+min ofs maxofs
 else
  let maxofs:=hint+1
  for _ in [0:n] do
   if ofs>=maxofs then break
   let some found <- beyond (hint-ofs)|return none
   if found then break
   lastofs:=ofs
   ofs:=2*ofs+1
  lo:=hint+1-min ofs maxofs
  hi:=hint-lastofs
 for _ in [0:n] do
  if lo>=hi then break
  let m:=lo+(hi-lo) / 2
  let some more <- beyond m|return none
  if more then lo:=m+1 else hi:=m
 return some hi):=rfl
section
variable {M:Model} {A:YN} {E:Yw} {s:YO} {α β:Type} {st st1 st2 st':SortSt} {a:α} {b c d:β}
noncomputable def uc(M:Model)(A:YN)(E:Yw)(s:YO)(m:StateT SortSt Sem α)(a:α)(st st':SortSt):Prop:=∀Q:α->SortSt->YO->Prop,Q a st' s->kasC M A E m Q st s
theorem uc.pure(a:α)(st:SortSt):uc M A E s (Pure.pure a) a st st:=λ_ q=>kasC_pure q
theorem uc.bind(h:uc M A E s m a st st1)(k:uc M A E s (f a) b st1 st2):uc M A E s (m >>= f) b st st2:=λQ q=>kasC_bind (h _ (k Q q))
theorem uc.elem(h:arr[i]?=some x)(st:SortSt):uc M A E s (elem' arr i) x st st:=by rw[elem'_eq,h];exact uc.pure _ _
theorem iK{I:Nat->β->Prop}{P:β->Prop}(h0:∀c,I 0 c->P c)
 (hs:∀f x c,I (f+1) c->∀R:ForInStep β->SortSt->YO->Prop,(∀c',P c'->R (.done c') st s)->(∀c',I f c'->R (.yield c') st s)->kasC M A E (body x c) R st s):∀(l:List Nat) (c:β),I l.length c->∀Q:β->SortSt->YO->Prop,(∀c',P c'->Q c' st s)->kasC M A E (forIn l c body) Q st s
 | [],c,h,Q,q=>kasC_nil (q c (h0 c h))
 |x::l,c,h,Q,q=>kasC_cons (hs l.length x c h _ q λc' i=>iK h0 hs l c' i Q q)
end
section
variable {prog:YL} {w:World} {A:YN} {E:Yw} {s:YO} {κ:SortKind} {it:Array Keyed} {lt:Nat->Nat->Bool} {n:Nat}
noncomputable def F2(prog:YL)(w:World)(A:YN)(κ:SortKind)(it:Array Keyed)(lt:Nat->Nat->Bool)(n:Nat)(s:YO):Prop:=∀i j (C:Bool->YO->Prop),i<n->j<n->C (lt i j) s->kas_cmp prog w A κ it i j C s
theorem uc.ask{st:SortSt}(h:F2 prog w A κ it lt n s)(hk:PyProof.Rows.kindOf st=κ)(hi:i<n)(hj:j<n):uc (model prog w) A E s (lt' (kas_item it i) (kas_item it j)) (some (lt i j)) st st:=λQ q=>by rw[lt'_eq];refine kasC_bind (kasC_get ?_);rw[hk];refine kasC_bind (kasC_lift (Wq (VU (h i j (λb s'=>b=lt i j/\s'=s) hi hj ⟨rfl,rfl⟩) ?_ λ_ _ hF=>hF.elim)));rintro c s' ⟨rfl,rfl⟩;exact kasC_pure q
theorem zi{st:SortSt}(h:F2 prog w A κ it lt 64 s)(hk:PyProof.Rows.kindOf st=κ)(ha:∀i,i<64->arr[i]?=some (kas_item it i))(O:gP lt 64)(up:∀i j,i<j->j<63->lt i j=true)(hl:lt 63 62=true)(Q:Option Nat->SortSt->YO->Prop)
 (q:∀k,k<=62->(∀i,i<k->lt 63 i=false)->(∀i,k<=i->i<63->lt 63 i=true)->Q (some k) st s):kasC (model prog w) A E (qL false (kas_item it 63) arr 0 63 0) Q st s:=by
 have dn:∀i j,j<=i->i<63->lt 63 i=false->lt 63 j=false:=λi j h1 h2 e=>by
  rcases Nat.lt_or_eq_of_le h1 with q|rfl
  ·exact O.tr j i 63 #[4] #[4] #[4] (O.as j i #[4] #[4] (up j i q h2)) e
  ·exact e
 have ut:∀i j,i<=j->j<63->lt 63 i=true->lt 63 j=true:=λi j h1 h2 e=>by
  cases z:lt 63 j with
  |true=>rfl
  |false=>rw[dn j i h1 h2 z]at e;cases e
 have bey:∀i j,j=i->i<63->uc (model prog w) A E s (do let x <- elem' arr (0+j);if false=true then lt' x (kas_item it 63)else do let r <- lt' (kas_item it 63) x;Pure.pure (r.map (!·))) (some (!lt 63 i)) st st:=λi j hj hi=>by subst hj;rw[Yi];refine uc.bind (uc.elem (ha j #[4]) st) ?_;rw[if_neg #[5]];exact uc.bind (uc.ask h hk #[5] #[4]) (uc.pure _ _)
 have fin:∀k,(∀i,i<k->lt 63 i=false)->(∀i,k<=i->i<63->lt 63 i=true)->kasC (model prog w) A E (Pure.pure (some k)) Q st s:=λk h1 h2=>by
  refine kasC_pure (q k ?_ h1 h2);by_cases z:k<=62
  ·exact z
  ·rw[h1 62 #[4]]at hl;cases hl
 have end0:∀c:Option (Option Nat)×Nat×Nat,(∃a b,c=(none,a,b)/\a<=b/\b<=63/\b-a<=0/\(∀i,i<a->lt 63 i=false)/\∀i,b<=i->i<63->lt 63 i=true)->∃k,c=(none,k,k)/\(∀i,i<k->lt 63 i=false)/\∀i,k<=i->i<63->lt 63 i=true:=by
  rintro c ⟨a,b,rfl,h1,h2,h3,h4,h5⟩;obtain rfl:a=b:=by omega
  exact⟨a,rfl,h4,h5⟩
 rw[vK];dsimp only;refine kasC_bind (bey 0 0 rfl #[5] _ ?_)
 cases z0:lt 63 0 with
 |false=>
  show kasC _ _ _ (if true=true then _ else _) _ _ _;rw[if_pos rfl];refine kasC_bind (kasC_range (iK (I:=λf c=>∃a b,c=(none,a,b)/\a<b/\a<63/\lt 63 a=false/\63<=b+f) (P:=λc=>∃a b,c=(none,a,b)/\a<b/\a<63/\lt 63 a=false/\(63<=b\/lt 63 b=true)) ?_ ?_ _ _ ⟨0,1,rfl,by decide,by decide,z0,by rw[List.length_range'];decide⟩ _ ?_))
  ·rintro c ⟨a,b,rfl,h1,h2,h3,h4⟩;exact⟨a,b,rfl,h1,h2,h3,.inl #[4]⟩
  ·rintro f x c ⟨a,b,rfl,h1,h2,h3,h4⟩ R r1 r2;dsimp only;by_cases hb:b>=63-0
   ·rw[if_pos hb];exact kasC_pure (r1 _ ⟨a,b,rfl,h1,h2,h3,.inl #[4]⟩)
   ·rw[if_neg hb];refine kasC_bind (bey b _ (Yi b) #[4] _ ?_)
    cases z:lt 63 b with
    |true=>exact kasC_pure (r1 _ ⟨a,b,rfl,h1,h2,h3,.inr z⟩)
    |false=>exact kasC_pure (r2 _ ⟨b,2*b+1,rfl,by omega,by omega,z,by omega⟩)
  ·rintro c ⟨a,b,rfl,h1,h2,h3,h4⟩;dsimp only;refine kasC_bind (kasC_range (iK (I:=λf c=>∃a b,c=(none,a,b)/\a<=b/\b<=63/\b-a<=f/\(∀i,i<a->lt 63 i=false)/\∀i,b<=i->i<63->lt 63 i=true) (P:=λc=>∃k,c=(none,k,k)/\(∀i,i<k->lt 63 i=false)/\∀i,k<=i->i<63->lt 63 i=true) (λc k=>end0 c k) ?_ _ _ ⟨_,_,rfl,by omega,by omega,by rw[List.length_range'];omega,λi k=>dn a i #[4] h2 h3,λi k1 k2=>?_⟩ _ (by rintro c ⟨k,rfl,h1,h2⟩;exact fin k h1 h2)))
   ·clear h1 h2 h3 h4 a b
    rintro f x c ⟨a,b,rfl,h1,h2,h3,h4,h5⟩ R r1 r2;dsimp only;by_cases hb:a>=b
    ·rw[if_pos hb];obtain rfl:a=b:=by omega
     exact kasC_pure (r1 _ ⟨a,rfl,h4,h5⟩)
    ·rw[if_neg hb];have hm:a+(b-a) / 2<b:=by omega
     refine kasC_bind (bey _ _ rfl #[4] _ ?_)
     cases z:lt 63 (a+(b-a) / 2)with
     |true=>exact kasC_pure (r2 _ ⟨a,_,rfl,by omega,by omega,by omega,h4,λi k1 k2=>ut _ i k1 k2 z⟩)
     |false=>exact kasC_pure (r2 _ ⟨_,b,rfl,by omega,h2,by omega,λi k1=>dn (a+(b-a) / 2) i #[4] #[4] z,h5⟩)
   ·rcases h4 with h4|h4
    ·omega
    ·exact ut b i #[4] k2 h4
 |true=>
  show kasC _ _ _ (if false=true then _ else _) _ _ _;rw[if_neg #[5]];refine kasC_bind (kasC_range (iK (I:=λf c=>c=(none,0,1)) (P:=λc=>c=(none,0,1)) (λc k=>k) ?_ _ _ rfl _ ?_))
  ·rintro f x c rfl R r1 r2;exact kasC_pure (r1 _ rfl)
  ·rintro c rfl;dsimp only;refine kasC_bind (kasC_range (iK (I:=λf c=>∃a b,c=(none,a,b)/\a<=b/\b<=63/\b-a<=f/\(∀i,i<a->lt 63 i=false)/\∀i,b<=i->i<63->lt 63 i=true) (P:=λc=>∃k,c=(none,k,k)/\(∀i,i<k->lt 63 i=false)/\∀i,k<=i->i<63->lt 63 i=true) (λc k=>end0 c k) ?_ _ _ ⟨0,0,rfl,by omega,by omega,by omega,λi k=>by omega,λi k1 k2=>ut 0 i k1 k2 z0⟩ _ (by rintro c ⟨k,rfl,h1,h2⟩;exact fin k h1 h2)));rintro f x c ⟨a,b,rfl,h1,h2,h3,h4,h5⟩ R r1 r2;dsimp only;by_cases hb:a>=b
   ·rw[if_pos hb];obtain rfl:a=b:=by omega
    exact kasC_pure (r1 _ ⟨a,rfl,h4,h5⟩)
   ·rw[if_neg hb];have hm:a+(b-a) / 2<b:=by omega
    refine kasC_bind (bey _ _ rfl #[4] _ ?_)
    cases z:lt 63 (a+(b-a) / 2)with
    |true=>exact kasC_pure (r2 _ ⟨a,_,rfl,by omega,by omega,by omega,h4,λi k1 k2=>ut _ i k1 k2 z⟩)
    |false=>exact kasC_pure (r2 _ ⟨_,b,rfl,by omega,h2,by omega,λi k1=>dn (a+(b-a) / 2) i #[4] #[4] z,h5⟩)
theorem AY{st:SortSt}(h:F2 prog w A κ it lt 64 s)(hk:PyProof.Rows.kindOf st=κ)(ha:∀i,i<64->arr[i]?=some (kas_item it i))(hl:lt 63 62=true)(Q:Option Nat->SortSt->YO->Prop)(q:Q (some 1) st s):kasC (model prog w) A E (qL true (kas_item it 62) arr 63 1 0) Q st s:=by
 have b0:uc (model prog w) A E s (do let x <- elem' arr (63+0);if true=true then lt' x (kas_item it 62)else do let r <- lt' (kas_item it 62) x;Pure.pure (r.map (!·))) (some (lt 63 62)) st st:=by refine uc.bind (uc.elem (ha 63 #[5]) st) ?_;rw[if_pos rfl];exact uc.ask h hk #[5] #[5]
 rw[hl]at b0;rw[vK];dsimp only;refine kasC_bind (b0 _ ?_);show kasC _ _ _ (if true=true then _ else _) _ _ _;rw[if_pos rfl];refine kasC_bind (kasC_range (iK (I:=λf c=>c=(none,0,1)) (P:=λc=>c=(none,0,1)) (λc k=>k) ?_ _ _ rfl _ ?_))
 ·rintro f x c rfl R r1 r2;exact kasC_pure (r1 _ rfl)
 ·rintro c rfl;dsimp only;refine kasC_bind (kasC_range (iK (I:=λf c=>c=(none,1,1)) (P:=λc=>c=(none,1,1)) (λc k=>k) ?_ _ _ rfl _ ?_))
  ·rintro f x c rfl R r1 r2;exact kasC_pure (r1 _ rfl)
  ·rintro c rfl;exact kasC_pure q
theorem xi:∃R:Array Keyed->Array Keyed->Keyed->StateT SortSt Sem (Array Keyed),∀x y,qM x y=(do
  liftM (rule "list.sort.merge-lo" : Sem Unit)
  let e <- elem' y 0
  if(1==y.size)=true then Pure.pure (#[e]++x.extract 0 x.size++y.extract 1 y.size)else R x y e):=⟨_,λ_ _=>rfl⟩
theorem xj:∃R:Array Keyed->Array Keyed->Keyed->StateT SortSt Sem (Array Keyed),∀x y,qN x y=(do
  liftM (rule "list.sort.merge-hi" : Sem Unit)
  let e <- elem' x (x.size-1)
  if(x.size-1==0)=true then Pure.pure (x.extract 0 (x.size-1)++y.extract 0 y.size++(#[e]:Array Keyed).reverse)else if(y.size==1)=true then Pure.pure (y.extract 0 y.size++x.extract 0 (x.size-1)++(#[e]:Array Keyed).reverse)else R x y e):=⟨_,λ_ _=>rfl⟩
theorem F3{st:SortSt}(hx:1<=x.size)(Q:Array Keyed->SortSt->YO->Prop)(q:Q (#[y0]++x) st s):kasC (model prog w) A E (if x.size<=1 then qM x #[y0]else qN x #[y0]) Q st s:=by
 by_cases h:x.size<=1
 ·rw[if_pos h];obtain⟨R,e⟩:=xi;rw[e];refine kasC_bind (kasC_lift (V5 (kasC_bind (uc.elem (x:=y0) rfl st _ ?_))));rw[if_pos (show(1==(#[y0]:Array Keyed).size)=true from rfl)];refine kasC_pure ?_
  simp_all
 ·rw[if_neg h];obtain⟨R,e⟩:=xj;rw[e];have hl:x.size-1<x.size:=by omega
  refine kasC_bind (kasC_lift (V5 (kasC_bind (uc.elem (x:=x[x.size-1]) (by simp[hl]) st _ ?_))));rw[if_neg (by simp;omega),if_pos (show((#[y0]:Array Keyed).size==1)=true from rfl)];refine kasC_pure ?_
  have z:(#[y0]:Array Keyed).extract 0 (#[y0]:Array Keyed).size++x.extract 0 (x.size-1)++(#[x[x.size-1]]:Array Keyed).reverse=#[y0]++x:=by
   have z1:x.extract 0 (x.size-1)++#[x[x.size-1]]=x:=by
    apply Array.ext';have:=List.take_append_getElem (l:=x.toList) (i:=x.size-1) (by simpa using hl);rw[show x.size-1+1=x.toList.length by simp;omega,Yu]at this;have e2:x.toList.dropLast=x.toList.take (x.size-1):=by rw[List.dropLast_eq_take];simp
    simpa [e2]using this
   rw[show(#[x[x.size-1]]:Array Keyed).reverse=#[x[x.size-1]]from rfl,Array.append_assoc,z1];rfl
  rw[z];exact q
theorem AZ:∀(L:List Keyed) (b j:Nat) (a:Array Keyed) (i:Nat),((L.zipIdx j).foldl (λa p=>a.setIfInBounds (b+p.2) p.1) a)[i]?=if b+j<=i/\i<b+j+L.length/\i<a.size then L[i-(b+j)]? else a[i]?
 | [],b,j,a,i=>by rw[if_neg (by grind)];rfl
 |x::L,b,j,a,i=>by
  rw[Yt,List.foldl_cons,AZ L b _ _ i,Array.size_setIfInBounds,Array.getElem?_setIfInBounds,U8]
  grind
noncomputable def jO(k:Nat):YK:=(List.range k++63::List.range' k (63-k)).toArray
variable {k i:Nat}
theorem IA(hk:k<=62):(jO k).size=64:=by grind[jO]
theorem ui(hk:k<=62)(hi:i<64):(jO k)[i]?=some (if i<k then i else if i=k then 63 else i-1):=by
 simp only[jO,List.getElem?_toArray];by_cases h1:i<k
 ·grind
 ·rw[if_neg h1,Vh (by grind),W7]
  grind
theorem mz(hk:k<=62):bR 64 (jO k):=by
 refine⟨?_⟩;have e:List.range 63=List.range k++List.range' k (63-k):=by rw[List.range_eq_range',List.range_eq_range',show 63=k+(63-k)by omega,<- List.range'_append_1,Yi,show k+_-k=63-k by omega]
 have p:(List.range k++63::List.range' k (63-k)).Perm (List.range 64):=by rw[List.range_succ,e];exact Xj.trans (List.perm_append_singleton _ _).symm
 exact p
theorem OB(O:gP lt 64)(hk:k<=62)(up:∀i j,i<j->j<63->lt i j=true)(h1:∀i,i<k->lt 63 i=false)(h2:∀i,k<=i->i<63->lt 63 i=true):t7 lt (jO k) 64:=by
 intro i j hij hj;have g:∀i,i<64->pat (jO k) i=if i<k then i else if i=k then 63 else i-1:=λi hi=>by rw[gq,ui hk hi];rfl
 rw[g i #[4],g j hj];have dn:∀i j,i<j->j<63->lt j i=false:=λi j a b=>O.as _ _ #[4] #[4] (up i j a b);by_cases a1:j<k
 ·grind
 ·rw[if_neg a1];by_cases a2:j=k
  ·rw[if_pos a2,if_pos #[4]];exact h1 i #[4]
  ·rw[if_neg a2];by_cases a3:i<k
   ·rw[if_pos a3];exact dn _ _ #[4] #[4]
   ·rw[if_neg a3];by_cases a4:i=k
    ·rw[if_pos a4];exact O.as _ _ #[4] #[4] (h2 (j-1) #[4] #[4])
    ·rw[if_neg a4];exact dn _ _ #[4] #[4]
theorem IB(hk:k<=62)(hs:arr.size=64)(ha:∀i,i<64->arr[i]?=some (kas_item it i)):((#[kas_item it 63]++arr.extract k 63).toList.zipIdx.foldl (λa p=>a.setIfInBounds (k+p.2) p.1) arr)=(jO k).map (kas_item it):=by
 apply Array.ext_getElem?;intro i;rw[AZ];have hl:(#[kas_item it 63]++arr.extract k 63).toList.length=64-k:=by grind
 rw[hl,hs,Nat.add_zero,Array.getElem?_map];by_cases hi:i<64
 ·rw[ui hk hi];by_cases h1:i<k
  ·rw[if_neg #[4],ha i hi,if_pos h1];rfl
  ·rw[if_pos #[4],if_neg h1];by_cases h2:i=k
   ·subst h2;rw[if_pos rfl,Nat.sub_self];simp
   ·rw[if_neg h2,show i-k=(i-k-1)+1 by omega];have:(#[kas_item it 63]++arr.extract k 63).toList[i-k-1+1]?=arr[i-1]?:=by rw[Vg,Array.getElem?_append_right #[6],Array.getElem?_extract];simp[hs];rw[if_pos #[4],show k+(i-k-1)=i-1 by omega]
    rw[this,ha _ #[4]];rfl
 ·rw[if_neg #[4],Wj #[4],Wj (by rw[IA hk];omega)];rfl
theorem IC{st st':SortSt}(h:Q ⟨⟩ st' s):kasC (model prog w) A E (set st':StateT SortSt Sem PUnit) Q st s:=UH h
theorem ID(h:F2 prog w A κ it lt 64 s)(hs:arr.size=64)(ha:∀i,i<64->arr[i]?=some (kas_item it i))(O:gP lt 64)(up:∀i j,i<j->j<63->lt i j=true)(hl:lt 63 62=true)(Q:Bool->SortSt->YO->Prop)
 (q:∀k pend,pend.size<=1->bR 64 (jO k)->t7 lt (jO k) 64->Q true (SortSt.mk' κ ((jO k).map (kas_item it)) pend 7 none) s):kasC (model prog w) A E (mergeAt' 0) Q (SortSt.mk' κ arr #[(0,63,pw),(63,1,0)] 7 none) s:=by
 rw[AX];refine kasC_bind (kasC_get ?_);dsimp only;show kasC _ _ _ (set (SortSt.mk' κ arr (((#[(0,63,pw),(63,1,0)]:Array (Nat×Nat×Nat)).setIfInBounds 0 (0,63+1,pw)).eraseIdxIfInBounds (0+1)) 7 none) >>= λ_=>_) _ _ _;have hp:(((#[(0,63,pw),(63,1,0)]:Array (Nat×Nat×Nat)).setIfInBounds 0 (0,63+1,pw)).eraseIdxIfInBounds (0+1)).size<=1:=by simp[Array.eraseIdxIfInBounds]
 generalize ((#[(0,63,pw),(63,1,0)]:Array (Nat×Nat×Nat)).setIfInBounds 0 (0,63+1,pw)).eraseIdxIfInBounds (0+1)=pend at hp ⊢;refine kasC_bind (IC (kasC_bind (uc.elem (ha 63 #[5]) _ _ (kasC_bind (zi h rfl ha O up hl _ λk hk h1 h2=>?_)))));show kasC _ _ _ (if(63-k==0)=true then _ else _) _ _ _;rw[if_neg (by simp;omega),show 0+k+(63-k)-1=62 by omega];refine kasC_bind (uc.elem (ha 62 #[5]) _ _ (kasC_bind (AY h rfl ha hl _ ?_)));show kasC _ _ _ (if(1==0)=true then _ else _) _ _ _;rw[if_neg #[5]];have hx:(arr.extract (0+k) 63).size=63-k:=by simp[hs]
 have hy:arr.extract 63 (63+1)=#[kas_item it 63]:=by
  apply Array.ext_getElem?;intro i;rw[Array.getElem?_extract];by_cases h0:i=0
  ·subst h0;rw[if_pos (by simp[hs]),Nat.add_zero,ha 63 #[5]];rfl
  ·rw[if_neg (by simp[hs];omega),Wj (by simp;omega)]
 have fin:∀st':SortSt,st'=SortSt.mk' κ arr pend 7 none->Q true (setArr st' (((#[kas_item it 63]++arr.extract (0+k) 63).toList.zipIdx).foldl (λa x=>a.setIfInBounds (0+k+x.snd) x.fst) (arrOf st'))) s:=by rintro st' rfl;rw[Yi];show Q true (SortSt.mk' κ (((#[kas_item it 63]++arr.extract k 63).toList.zipIdx).foldl (λa x=>a.setIfInBounds (k+x.snd) x.fst) arr) pend 7 none) s;rw[IB hk hs ha];exact q k pend hp (mz hk) (OB O hk up h1 h2)
 have m1:=λQ' q'=>F3 (prog:=prog) (w:=w) (A:=A) (E:=E) (s:=s) (st:=SortSt.mk' κ arr pend 7 none) (x:=arr.extract (0+k) 63) (y0:=kas_item it 63) #[4] Q' q';rw[hx]at m1;show kasC _ _ _ (if 63-k<=1 then qM (arr.extract (0+k) 63) (arr.extract 63 (63+1)) >>= λ_=>_ else qN (arr.extract (0+k) 63) (arr.extract 63 (63+1)) >>= λ_=>_) _ _ _;rw[hy];by_cases hc:63-k<=1
 ·rw[if_pos hc];simp only[hc,VT]at m1;exact kasC_bind (m1 _ (kasC_bind (kasC_modify (kasC_bind (kasC_get (kasC_pure (fin _ rfl)))))))
 ·rw[if_neg hc];simp only[hc,Vu]at m1;exact kasC_bind (m1 _ (kasC_bind (kasC_modify (kasC_bind (kasC_get (kasC_pure (fin _ rfl)))))))
theorem Po(hn:n<64):#[16].getD n 0=n:=by
 simp_all
theorem K0(h:F2 prog w A κ it lt 64 s)(O:gP lt 64)(up:∀i j,i<j->j<63->lt i j=true):(kas_count 64 #[16]).kasWp (kas_cmp prog w A κ it) (λr s'=>s'=s/\r.2=List.toArray (List.range 64)/\((r.1=64/\lt 63 62=false)\/(r.1=63/\lt 63 62=true))) s:=by
 have asc:∀f n,n+f=64->1<=n->n<=63->(kas_asc #[16] f n).kasWp (kas_cmp prog w A κ it) (λm s'=>s'=s/\((m=64/\lt 63 62=false)\/(m=63/\lt 63 62=true))) s:=by
  intro f
  induction f with
  |zero=>intro n h1 h2 h3;omega
  |succ f ih=>
   intro n h1 h2 h3;show kas_cmp prog w A κ it _ _ (λc s'=>(if c=true then KasT.ret n else kas_asc #[16] f (n+1)).kasWp (kas_cmp prog w A κ it) _ s') s;rw[Po #[4],Po #[4]];refine h n (n-1) _ #[4] #[4] ?_;by_cases h63:n=63
   ·subst h63
    cases z:lt 63 (63-1)with
    |true=>exact⟨rfl,.inr ⟨rfl,rfl⟩⟩
    |false=>
     obtain rfl:f=0:=by omega
     exact⟨rfl,.inl ⟨rfl,rfl⟩⟩
   ·rw[O.as (n-1) n #[4] #[4] (up (n-1) n #[4] #[4])];exact ih (n+1) #[4] #[4] #[4]
 unfold kas_count;rw[KasT.kasWp_bind];refine kas_wp_mono (asc 63 1 rfl #[5] #[5]) ?_;rintro m s' ⟨rfl,⟨rfl,z⟩|⟨rfl,z⟩⟩
 ·exact⟨rfl,rfl,.inl ⟨rfl,z⟩⟩
 ·show kas_cmp prog w A κ it _ _ (λc s'=>(if c=true then KasT.ret (63,List.toArray (List.range 64))else _).kasWp (kas_cmp prog w A κ it) _ s') s';rw[Po #[5],Po #[5]];refine h 0 (63-1) _ #[5] #[5] ?_;rw[up 0 (63-1) #[5] #[5]];exact⟨rfl,rfl,.inr ⟨rfl,z⟩⟩
theorem OC(h:F2 prog w A κ it lt 64 s)(O:gP lt 64)(up:∀i j,i<j->j<63->lt i j=true)(Q:Unit->SortSt->YO->Prop)
 (q:∀st' p,bR 64 p->t7 lt p 64->arrOf st'=p.map (kas_item it)->failedOf st'=none->Q () st' s):kasC (model prog w) A E sortRuns' Q (kas_st κ it #[16]) s:=by
 have hrs:#[16].size=64:=by simp
 rw[sortRuns'_eq];refine kasC_bind (kasC_get ?_);dsimp only;have hsz:(arrOf (kas_st κ it #[16])).size=64:=by show(#[16].map (kas_item it)).size=_;rw[Array.size_map,hrs]
 have hmr:minRun' 64 64 0=32:=by rfl
 simp only[hsz,hmr];refine kasC_bind (kasC_range ?_);show kasC _ _ _ (forIn (0::1::2::List.range' 3 61) _ _) _ _ _;refine kasC_cons ?_;dsimp only;rw[if_neg #[4]];simp only[Nat.sub_zero,Yi];refine kasC_bind (kas_count_ #[4] (by rw[hrs];exact UJ _) (λm p' s' hm1 hm2 hp hg=>?_) (K0 h O up));obtain⟨rfl,rfl,⟨rfl,z⟩|⟨rfl,z⟩⟩:=hg
 ·dsimp only;rw[if_neg #[5]];refine kasC_bind (kasC_get ?_);rw[show(pendingOf (kas_st κ it #[16])).back?=none from rfl];dsimp only;refine kasC_bind (kasC_modify (kasC_pure ?_));show kasC _ _ _ (forIn (1::2::List.range' 3 61) _ _) _ _ _;refine kasC_cons ?_;dsimp only;rw[if_pos (UJ _)];refine kasC_pure ?_;dsimp only;refine kasC_bind (kasC_range ?_);show kasC _ _ _ (forIn (0::1::2::List.range' 3 61) _ _) _ _ _;refine kasC_cons ?_;refine kasC_bind (kasC_get ?_);rw[if_pos (show(pendingOf (setPending (kas_st κ it #[16]) ((pendingOf (kas_st κ it #[16])).push (0,64,0)))).size<=1 from UJ 1)];refine kasC_pure ?_;dsimp only;refine kasC_pure (q _ #[16] ⟨XU _⟩ ?_ rfl rfl);intro i j hij hj;show lt (#[16].getD j 0) (#[16].getD i 0)=false;rw[Po hj,Po (show i<64 by omega)];by_cases h63:j=63
  ·subst h63;by_cases h62:i=62
   ·rw[h62];exact z
   ·exact O.tr i 62 63 #[4] #[4] #[4] (O.as i 62 #[4] #[4] (up i 62 #[4] #[4])) z
  ·exact O.as i j #[4] #[4] (up i j hij #[4])
 ·dsimp only;rw[if_neg #[5]];refine kasC_bind (kasC_get ?_);rw[show(pendingOf (kas_st κ it #[16])).back?=none from rfl];dsimp only;refine kasC_bind (kasC_modify (kasC_pure ?_));show kasC _ _ _ (forIn (1::2::List.range' 3 61) _ _) _ _ _;refine kasC_cons ?_;dsimp only;rw[if_neg #[5]];have c1:∀(st:SortSt) (Q:Option Nat->SortSt->YO->Prop),Q (some 1) st s'->kasC (model prog w) A E (countRun' 63 (64-63)) Q st s':=λst Q q=>by rw[countRun'_eq];exact kasC_bind (kasC_range (kasC_nil (kasC_pure q)))
  refine kasC_bind (c1 _ _ ?_);dsimp only;rw[if_pos #[5]];have c2:∀(st:SortSt) (Q:Bool->SortSt->YO->Prop),Q true st s'->kasC (model prog w) A E (binarySort' 63 (min (64-63) 32) 1) Q st s':=λst Q q=>by rw[binarySort'_eq];exact kasC_bind (kasC_range (kasC_nil (kasC_pure q)))
  refine kasC_bind (kasC_lift (V5 (kasC_bind (c2 _ _ ?_))));rw[if_neg #[5]];show kasC (model prog w) A E _ _ (SortSt.mk' κ (#[16].map (kas_item it)) #[(0,63,0)] 7 none) s';refine kasC_bind (kasC_get ?_);rw[show(pendingOf (SortSt.mk' κ (#[16].map (kas_item it)) #[(0,63,0)] 7 none)).back?=some (0,63,0)from rfl];dsimp only;refine kasC_bind (kasC_range ?_);show kasC _ _ _ (forIn (0::1::2::List.range' 3 61) _ _) _ _ _;refine kasC_cons (kasC_bind (kasC_get ?_));rw[if_neg (show ¬ (pendingOf (SortSt.mk' κ (#[16].map (kas_item it)) #[(0,63,0)] 7 none)).size>1 from Va 1)];dsimp only;refine kasC_pure ?_;dsimp only;generalize power' 64 (2*0+63) (2*0+63+63+min (64-63) 32) 64=pw;refine kasC_bind (kasC_modify (kasC_bind (kasC_modify (kasC_pure ?_))));show kasC _ _ _ (forIn (2::List.range' 3 61) _ _) _ _ _;refine kasC_cons ?_;dsimp only;rw[if_pos #[5]];refine kasC_pure ?_;dsimp only;refine kasC_bind (kasC_range ?_);show kasC _ _ _ (forIn (0::1::2::List.range' 3 61) _ _) _ (SortSt.mk' κ (#[16].map (kas_item it)) #[(0,63,pw),(63,1,0)] 7 none) _;refine kasC_cons (kasC_bind (kasC_get ?_));rw[if_neg (show ¬ (pendingOf (SortSt.mk' κ (#[16].map (kas_item it)) #[(0,63,pw),(63,1,0)] 7 none)).size<=1 from(show ¬ (2<=1)by decide))];refine kasC_bind (m:=mergeAt' 0) (ID h #[6] (λi hi=>?_) O up z _ λk pend hp sp su=>?_)
  ·rw[Array.getElem?_map];simp[hi]
  rw[if_neg #[5]];refine kasC_pure ?_;dsimp only;show kasC _ _ _ (forIn (1::2::List.range' 3 61) _ _) _ _ _;refine kasC_cons (kasC_bind (kasC_get ?_));rw[if_pos hp];refine kasC_pure ?_;dsimp only;exact kasC_pure (q _ (jO k) sp su rfl rfl)
end
end PySem.W
set_option maxHeartbeats 4000000
namespace PySem.W
open PySem PySem.Calls PyProof.Rows
section
variable {prog:YL} {w:World} {A:YN} {E:Yw} {s:YO}
theorem F4{vs:YD}{Q:SortSt->YO->Prop}(h64:vs.length=64)(hc:∀i j (C:Bool->YO->Prop),i<vs.length->j<vs.length->C (lt i j) s->wpAny (model prog w) A (keyLt' κ (vs.getD i Value.none) (vs.getD j Value.none)) C (λ_ _=>False) s)
 (O:gP lt vs.length)(up:∀i j,i<j->j<63->lt i j=true)(q:∀st' p,bR vs.length p->t7 lt p vs.length->arrOf st'=p.map (kas_item (vs.toArray.zip vs.toArray))->failedOf st'=none->Q st' s) :
  wpAny (model prog w) A ((sortRuns').run (SortSt.mk' κ (vs.toArray.zip vs.toArray) #[] 7 none)) (λr s'=>Q r.2 s') E s:=by
 have est:SortSt.mk' κ (vs.toArray.zip vs.toArray) #[] 7 none=kas_st κ (vs.toArray.zip vs.toArray) (List.toArray (List.range vs.length)):=by have e:=kas_range (vs.toArray.zip vs.toArray);rw[show(vs.toArray.zip vs.toArray).size=vs.length by simp]at e;show SortSt.mk' κ (vs.toArray.zip vs.toArray) #[] 7 none=SortSt.mk' κ ((List.toArray (List.range vs.length)).map (kas_item (vs.toArray.zip vs.toArray))) #[] 7 none;rw[e]
 rw[est];rw[h64]at O hc q ⊢;refine OC (λi j C hi hj hC=>?_) O up (λ_ st' s'=>Q st' s') q;unfold kas_cmp;rw[kat_item rfl,kat_item rfl];exact hc i j C hi hj hC
theorem zj(ho:s.heap.get? a=some (seqObj "list" vs.toArray n))
 (O:gP lt vs.length)(h64:vs.length=64)(up:∀i j,i<j->j<63->lt i j=true)
 (hk:∀h',(∀b o,b≠a->s.heap.get? b=some o->h'.get? b=some o)->2<=vs.length->Av prog w A vs lt {s with heap:=h'})
 (h:∀p:YK,bR vs.length p->t7 lt p vs.length->P (.done (.ret .none)) {s with heap:=sortedHeap s.heap a vs (p.toList.map λi=>vs.getD i Value.none).toArray}) :
  wpAny (model prog w) A (Builtin.«list.sort» ⟨[.ref a],[]⟩) P E s:=by
 rw[list_sort_plain];have ha:a<#[10]:=UL ho;refine UE (listItems_at ho rfl ?_);refine UE (W2 ho rfl ?_);obtain⟨e1,ho1⟩:∃e1,(s.heap.update a (Obj.mapSeq λ_=>#[])).get? a=some (seqObj "list" #[] e1):=⟨_,get?_update_seq ho (λ_=>#[])⟩;refine UE (Yd ho1 rfl ?_);refine UE (Yk ?_);refine UE (W3 ?_);refine U7 ?_;have ho6:(((s.heap.update a (Obj.mapSeq λ_=>#[])).push (seqObj "tuple" vs.toArray 0)).push (seqObj "list" #[] 0)).get? a=some (seqObj "list" #[] e1):=by rw[Vp _ _ _ (by rw[size_push',VO];exact UR (Vq ha)),Vp _ _ _ (by rw[VO];exact UR ha)];exact ho1
 show wpAny (model prog w) A _ P E {s with heap:=((s.heap.update a (Obj.mapSeq λ_=>#[])).push (seqObj "tuple" vs.toArray 0)).push (seqObj "list" #[] 0)};dsimp only;by_cases h2:vs.toArray.size<2
 ·rw[if_pos h2,if_pos h2];refine UE (UH ?_);rw[StateT.run_pure];refine UE (UH ?_);dsimp only;refine UE (Yd ho6 rfl ?_);refine UE (W2 ho6 rfl ?_ (hsz2:=by rw[Array.size_map];show(pairsOf vs).size<=_;rw[pairsOf_size,VQ];omega));simp only[XN,US,Vu];have hl:vs.length<2:=by simpa using h2
  have e:(arrOf (SortSt.mk' general' (vs.toArray.zip vs.toArray) #[] 7 none)).map (·.2)=(((List.range vs.length).toArray).toList.map λi=>vs.getD i Value.none).toArray:=by show(vs.toArray.zip vs.toArray).map (·.2)=_;exact DZ hl
  rw[e];exact UH (h _ ⟨XU _⟩ λi j h1 h2=>by omega)
 ·rw[if_neg h2,if_neg h2];have hl:2<=vs.length:=by simp at h2;exact h2
  refine UE (VU (hk _ (λb o hb q=>?_) hl) (λκ s' hκ=>?_) λ_ _ x=>x.elim)
  ·have hbs:b<#[10]:=UL q;rw[Vp _ _ _ (by rw[size_push',VO];exact UR (Vq hbs)),Vp _ _ _ (by rw[VO];exact UR hbs),WH _ _ _ _ hb];exact q
  ·obtain⟨rfl,hc⟩:=hκ
   refine UE (VU (F4 (E:=E) (vs:=vs) (κ:=κ) (lt:=lt)
    (Q:=λst' s'=>s'={s with heap:=((s.heap.update a (Obj.mapSeq λ_=>#[])).push (seqObj "tuple" vs.toArray 0)).push (seqObj "list" #[] 0)}/\failedOf st'=none/\∃p,bR vs.length p/\t7 lt p vs.length/\(arrOf st').map (·.2)=List.toArray (p.toList.map λi=>vs.getD i Value.none))
    h64 hc O up λst' p a1 a2 a3 a4=>⟨rfl,a4,p,a1,a2,kat_snds rfl a3⟩) ?_ λ_ _ e=>e)
   ·rintro⟨⟨⟩,st'⟩ s' ⟨rfl,hf,p,hp,hu,e⟩;dsimp only at hf e ⊢;rw[e];refine UE (Yd ho6 rfl ?_);refine UE (W2 ho6 rfl ?_ (hsz2:=by rw[UX,UZ,Vl,hp.size,VQ];omega));rw[hf];simp only[XN,US,Vu];exact UH (h p hp hu)
theorem F5(hl:s.heap.IsList l vs.toArray)(O:gP lt vs.length)(h64:vs.length=64)(up:∀i j,i<j->j<63->lt i j=true)
 (hk:∀h',(∀b o,s.heap.get? b=some o->h'.get? b=some o)->2<=vs.length->Av prog w A.in1.in1 vs lt {s with heap:=h'})
 (h:∀p:YK,bR vs.length p->t7 lt p vs.length->Q (.ref (#[10]+1)) {s with heap:=sortedAll s.heap vs (p.toList.map λi=>vs.getD i Value.none).toArray}) :
  wpAny (model prog w) A (call (.builtin "sorted") [.ref l]) Q E s:=by
 refine Ws kind_sorted plain_sorted entry_sorted (args_sorted1 _) ?_;unfold Builtin.«sorted»;refine UE (m:=checkCount "sorted" 1 1 _) (UH ?_);refine UE (collect_list hl ?_);refine UE (W3 ?_);have hsz:#[1].objs.size=#[10]+1:=by rw[VO,size_push']
 have hoL:(#[1].push (seqObj "list" vs.toArray 0)).get? (#[10]+1)=some (seqObj "list" vs.toArray 0):=by rw[<- hsz];exact UK _ rfl
 show wpAny _ _ _ _ _ {s with heap:=#[1].push (seqObj "list" vs.toArray 0)};rw[hsz];refine UE (U7 (Vc slot_list_sort ⟨_,hoL,rfl⟩ entry_list_sort (zj hoL O h64 up (λh' k h2=>hk h' (λb o q=>?_) h2) λp a1 a2=>⟨_,rfl,?_⟩) (args_list_sort _)))
 ·have hlt:b<#[10]:=UL q;refine k b o (UR (Vq hlt)) ?_;show(#[1].push (seqObj "list" vs.toArray 0)).get? b=some o;rw[Vp _ _ _ (by rw[hsz];exact UR (Vq hlt)),WH _ _ _ _ (UR hlt),Vp _ _ _ (UR hlt)];exact q
 ·exact UH ⟨_,rfl,h p a1 a2⟩
end
end PySem.W
namespace Ml
open PySem PySem.Spec L2
noncomputable def rX(ds:YB):Bool:=(ds.all pq || ds.all gr)&&aB ds&&dM ds&&decide (PyData.depthAll ds<=20)&&decide (ds.length=64)&&(List.range 63).all λj=>(List.range j).all λi=>ltB (ds.getD i .none) (ds.getD j .none)
noncomputable def Ey:List V->Hp->VK->Prop:=λxs H Q=>∃(a:Addr) (vs:List V) (M:Hp) (ds:YB),xs=[.ref a]/\H a=some (.lst vs)/\aX M H/\bf M ds vs/\cN ds=true/\rX ds=true /\
 ∀(p:Addr) (us:List V),H p=none->bf M (bN ltB ds) us->us.length<=sizeLine->Q (.ref p) (upd H p (.lst us))
noncomputable def vL:Fn:=λxs h=>match xs with
 | [x]=>match listOf x h with
  |some ds=>if eh ds || rX ds then .ok (.dat (.list (bN ltB ds))) h else .bad
  |Option.none=>.bad
 |_=>.bad
section
variable {X:Cx} {E:XK} {k:Nat} {θ:YC} {hm:Hm} {H:Hp}
theorem xk(hr:bO k X.A):cY X (.builtin "sorted") Ey:=by
 intro pins s σ H xs us Q I r h;obtain⟨a,vs,M,ds,rfl,ha,sm,rp,so,ok,q⟩:=h;simp only[rX,UI,U5,V3]at ok;obtain⟨⟨⟨⟨⟨kd,tr⟩,cm⟩,dp⟩,h64⟩,up⟩:=ok
 cases r with
 |cons r rr=>
  cases rr;cases r;obtain⟨its,rv,pl,_⟩:=I.list (gY.of (K:=X.K) ha);have hlen:vs.length=ds.length:=rp.length;have hlen2:its.length=ds.length:=by grind[rv.length]
  obtain⟨as,ra⟩:=bf.reads I (rp.same sm) rv;have nd:PyData.hasDictAll ds=false:=eR tr;have la:=kg so nd;have O:=Ks (fJ cm tr);rw[<- hlen2]at O;refine PySem.W.F5 pl.isList O #[4] (λi j hij hj=>UU.mp (UU.mp up j (U4.mpr hj)) i (U4.mpr hij)) (λh' kp h2=>?_) λp hp hs=>?_
  ·have ra':ReadsAll h' its ds as:=Vx kp ra;rcases kd with kd|kd
   ·exact nZ (s:={s with heap:=h'}) ra' kd h2
   ·exact nX (s:={s with heap:=h'}) (by have:=hr.un;show X.A.units+1+1+41<cLine;omega) ra' kd tr cm la dp #[4]
  ·have ge:#[10]<=#[10]+1:=V7 _;have nn:H (#[10]+1)=none:=I.hok.fresh ge;obtain⟨e,he⟩:=Xe s.heap its (p.toList.map λi=>its.getD i Value.none).toArray;have hin:∀i∈p.toList,i<vs.length:=λi hi=>by have:=U4.mp (hp.perm.mem_iff.mp hi);omega
   have hlp:p.toList.length=ds.length:=by rw[hp.perm.length_eq,W7,hlen2]
   have hz:(p.toList.map λi=>vs.getD i .non).length<=sizeLine:=by rw[UZ,hlp];exact UP (Nat.le_of_eq h64) #[5]
   refine⟨.ref _,_,I.laid (t':=s.toks) (o:=.lst (p.toList.map λi=>vs.getD i .non)) (λb o k=>W9 k) ge ⟨hz,_,e,nM rv p.toList hin,by simpa [PyProof.Rows.seqObj]using he⟩,rfl,q _ _ nn ?_ hz⟩
   have e1:(p.toList.map λi=>ds.getD i .none)=bN ltB ds:=by
    refine qo cm tr ?_ ?_
    ·have:=hp.perm.map (λi=>ds.getD i .none);rw[hlen2,fR]at this;exact this
    ·unfold Up;rw[Wa,Vo];intro i j hi hj hij;have e1:PySem.W.pat p i=p.toList[i]:=by simp only[Vl]at hi;rw[PySem.W.gq,WX p i hi];simp
     have e2:PySem.W.pat p j=p.toList[j]:=by simp only[Vl]at hj;rw[PySem.W.gq,WX p j hj];simp
     have:=hs i j hij (by rw[hlen2];omega);rw[e1,e2]at this;exact this
   rw[<- e1];exact nO rp .none p.toList hin
theorem CI(hr:bO k X.A):cY X (.builtin "sorted") (λxs H Q=>HU xs H Q\/Ey xs H Q):=by
 intro pins s σ H xs us Q I r h;rcases h with h|h
 ·exact qC hr pins s σ H xs us Q I r h
 ·exact xk hr pins s σ H xs us Q I r h
theorem K4(hr:bO k X.A):qx X E (.builtin "sorted") vL:=qx.of (CI hr) λθ hm H ds xs Q w r p=>by
 unfold vL at p;split at p
 ·cases r with
  |cons r rr=>
   cases rr;split at p
   ·rename_i ys hy;split at p
    ·rename_i ok;obtain⟨a,vs,rfl,ha,rp,so⟩:=nY w r hy;have k:∀(q:Addr) (us:List V),H q=none->bf (view θ H) (bN ltB ys) us->us.length<=sizeLine->Q (.ref q) (upd H q (.lst us)):=λq us hq ru hz=>by obtain⟨e1,w1,g⟩:=w.put hq;refine p _ _ e1 w1 _ ⟨⟨q,us,rfl,g,ru.same e1.same⟩,?_⟩;exact og (aS _ _).symm so
     rcases Bool.or_eq_true_iff.mp ok with ok|ok
     ·exact .inl ⟨a,vs,view θ H,ys,rfl,ha,aF _ _,rp,so,ok,k⟩
     ·exact .inr ⟨a,vs,view θ H,ys,rfl,ha,aF _ _,rp,so,ok,k⟩
    ·trivial
   ·trivial
 ·trivial
end
end Ml
namespace Ml
open PySem
noncomputable def vM:MS:=aZ (cx 2 (ak cF (bE 1 (aQ (af 0)) (aC 0) (aN (ak gJ (af 0) (af 2))) (af 0)) (bE 1 (aQ (af 1)) (aC 0) (aN (ak gJ (af 0) (af 1))) (af 0))))
    (bJ (ag dk (aa (ag vL (aa (af 2) aj)) aj)))
noncomputable def fV:Fn:=bx 2 3 vM
noncomputable def zk:MS:=aZ (oE (oC (cD (aC 3) (cD (aC 4) j6))) (af 1))
    (aZ (t8 (oN (aa (ak ly (ag aA (aa (af 0) (aa (ak cF (af 2) (ah (.int 1))) aj))) (ag va (aa (ak j4 (af 3) (ah (.tuple []))) aj))) aj)) (aC 5) (aZ (cx 6 (dG (aa (ak dz (af 3) (ag aA (aa (af 0) (aa (ag fF (aa (af 3) aj)) aj)))) (aa (ak dz (af 3) (ag aA (aa (af 0) (aa (ag fF (aa (af 3) aj)) aj)))) aj))))
    (cx 4 (ag fV (aa (af 4) (aa (dG (aa (af 6) aj)) aj))))))
    (bJ (dG (aa (af 3) (aa (af 4) aj)))))
noncomputable def eV:Fn:=bx 3 7 zk
noncomputable def zl:MS:=bJ (sT (bE 1 (aQ (ah (.str "abcdefghijklmnopqrstuvwxyz"))) (aC 0) (aN (ak gJ (af 0) (af 1))) (af 0)) fm (cP (ah (.int 2))))
noncomputable def hV:Fn:=bx 1 1 zl
end Ml
set_option maxHeartbeats 4000000
namespace PySem.W
open PySem PySem.Calls PyProof.Rows
section
variable {prog:YL} {w:World} {A:YN} {E:Yw} {s:YO}
theorem A0{l:Addr}{vs:YD}{Q:YD->YO->Prop}(hl:s.heap.IsTuple l vs.toArray)
 (h:Q vs {s with heap:=(s.heap.push (seqObj "list" #[] 0)).update #[10] (Obj.mapSeq (·++vs.toArray))})(hz:vs.length<=sizeLine):wpAny (model prog w) A (collect (.ref l)) Q E s:=by
 obtain⟨o,ho,hc,n,hd⟩:=id hl;have gL:(s.heap.push (seqObj "list" #[] 0)).get? #[10]=some (seqObj "list" #[] 0):=UK _ rfl;have gT:(s.heap.push (seqObj "list" #[] 0)).get? l=some o:=UG _ ho;unfold collect;refine UE (wpAny_runValue (V1 entry_proto_collect' (UE (W3 (UH ⟨Code.quiet_builtin _ #[9],V1 entry_list_iadd' ?_⟩)))));show wpAny _ _ (Builtin.List.listExtendWith (.ref #[10]) (.ref l) (.ref #[10])) _ _ {s with heap:=s.heap.push (seqObj "list" #[] 0)};unfold Builtin.List.listExtendWith;refine UE (WW (T := "tuple") ⟨o,gT,hc⟩ ?_);rw[if_pos (by rw[show(Value.type "tuple" == Value.type "tuple")=true from rfl];simp)];refine UE (listItems_at gT hd (UE (listItems_at (xs:=#[]) (n:=0) gL rfl ?_)));rw[if_neg #[6]];refine UE (W2 (xs:=#[]) (n:=0) gL rfl (UH ?_) (WD _) (by show(#[]++vs.toArray).size<=sizeLine+1;simp only[Array.size_append,UX,VG];omega))
 show wpAny (model prog w) A (do
   let o <- load #[10]
   match o.data with|.seq xs _=>pure xs.toList|_=>unsupported "internal:collect") Q E {s with heap:=(s.heap.push (seqObj "list" #[] 0)).update #[10] (Obj.mapSeq (·++vs.toArray))}
 refine UE (Xo (get?_update_seq gL _) ?_);have ev:((#[]:YJ)++vs.toArray).toList=vs:=by simp
 show wpAny _ _ (pure ((#[]:YJ)++vs.toArray).toList) Q E _;rw[ev];exact UH h
theorem A3{l:Addr}{vs:YD}{lt:Nat->Nat->Bool}{Q:Yw}(hl:s.heap.IsTuple l vs.toArray)(O:gP lt vs.length)(h64:vs.length<64)
 (hk:∀h',(∀b o,s.heap.get? b=some o->h'.get? b=some o)->2<=vs.length->Av prog w A.in1.in1 vs lt {s with heap:=h'})
 (h:∀p:YK,bR vs.length p->t7 lt p vs.length->Q (.ref (#[10]+1)) {s with heap:=sortedAll s.heap vs (p.toList.map λi=>vs.getD i Value.none).toArray}) :
  wpAny (model prog w) A (call (.builtin "sorted") [.ref l]) Q E s:=by
 refine Ws kind_sorted plain_sorted entry_sorted (args_sorted1 _) ?_;unfold Builtin.«sorted»;refine UE (m:=checkCount "sorted" 1 1 _) (UH ?_);refine UE (A0 hl (hz:=by rw[VQ];omega) ?_);refine UE (W3 ?_);have hsz:#[1].objs.size=#[10]+1:=by rw[VO,size_push']
 have hoL:(#[1].push (seqObj "list" vs.toArray 0)).get? (#[10]+1)=some (seqObj "list" vs.toArray 0):=by rw[<- hsz];exact UK _ rfl
 show wpAny _ _ _ _ _ {s with heap:=#[1].push (seqObj "list" vs.toArray 0)};rw[hsz];refine UE (U7 (Vc slot_list_sort ⟨_,hoL,rfl⟩ entry_list_sort (jn hoL O h64 (λh' k h2=>hk h' (λb o q=>?_) h2) λp a1 a2=>⟨_,rfl,?_⟩) (args_list_sort _)))
 ·have hlt:b<#[10]:=UL q;refine k b o (UR (Vq hlt)) ?_;show(#[1].push (seqObj "list" vs.toArray 0)).get? b=some o;rw[Vp _ _ _ (by rw[hsz];exact UR (Vq hlt)),WH _ _ _ _ (UR hlt),Vp _ _ _ (UR hlt)];exact q
 ·exact UH ⟨_,rfl,h p a1 a2⟩
end
end PySem.W
namespace Ml
open PySem PySem.Spec L2
section
variable {X:Cx} {E:XK} {k:Nat} {θ:YC} {hm:Hm} {H:Hp}
noncomputable def OD:List V->Hp->VK->Prop:=λxs H Q=>∃(a:Addr) (vs:List V) (M:Hp) (ds:YB),xs=[.ref a]/\H a=some (.tup vs)/\aX M H/\bf M ds vs/\cN ds=true/\eh ds=true /\
 ∀(p:Addr) (us:List V),H p=none->bf M (bN ltB ds) us->us.length<=sizeLine->Q (.ref p) (upd H p (.lst us))
theorem zm(hr:bO k X.A):cY X (.builtin "sorted") OD:=by
 intro pins s σ H xs us Q I r h;obtain⟨a,vs,M,ds,rfl,ha,sm,rp,so,ok,q⟩:=h;simp only[eh,UI,U5,V3]at ok;obtain⟨⟨⟨⟨kd,tr⟩,cm⟩,dp⟩,h64⟩:=ok
 cases r with
 |cons r rr=>
  cases rr;cases r;obtain⟨its,rv,pl,_⟩:=I.tuple (gm.of (K:=X.K) ha);have hlen:vs.length=ds.length:=rp.length;have hlen2:its.length=ds.length:=by rw[<- rv.length];exact hlen
  obtain⟨as,ra⟩:=bf.reads I (rp.same sm) rv;have nd:PyData.hasDictAll ds=false:=eR tr;have la:=kg so nd;have O:=Ks (fJ cm tr);rw[<- hlen2]at O;refine PySem.W.A3 pl O #[4] (λh' kp h2=>?_) λp hp hs=>?_
  ·have ra':ReadsAll h' its ds as:=Vx kp ra;rcases kd with kd|kd
   ·exact nZ (s:={s with heap:=h'}) ra' kd h2
   ·exact nX (s:={s with heap:=h'}) (by have:=hr.un;show X.A.units+1+1+41<cLine;omega) ra' kd tr cm la dp #[4]
  ·have ge:#[10]<=#[10]+1:=V7 _;have nn:H (#[10]+1)=none:=I.hok.fresh ge;obtain⟨e,he⟩:=Xe s.heap its (p.toList.map λi=>its.getD i Value.none).toArray;have hin:∀i∈p.toList,i<vs.length:=λi hi=>by have:=U4.mp (hp.perm.mem_iff.mp hi);omega
   have hlp:p.toList.length=ds.length:=by rw[hp.perm.length_eq,W7,hlen2]
   have hz:(p.toList.map λi=>vs.getD i .non).length<=sizeLine:=by rw[UZ,hlp];exact UP (WA h64) #[5]
   refine⟨.ref _,_,I.laid (t':=s.toks) (o:=.lst (p.toList.map λi=>vs.getD i .non)) (λb o k=>W9 k) ge ⟨hz,_,e,nM rv p.toList hin,by simpa [PyProof.Rows.seqObj]using he⟩,rfl,q _ _ nn ?_ hz⟩
   have e1:(p.toList.map λi=>ds.getD i .none)=bN ltB ds:=by
    refine qo cm tr ?_ ?_
    ·have:=hp.perm.map (λi=>ds.getD i .none);rw[hlen2,fR]at this;exact this
    ·unfold Up;rw[Wa,Vo];intro i j hi hj hij;have e1:PySem.W.pat p i=p.toList[i]:=by simp only[Vl]at hi;rw[PySem.W.gq,WX p i hi];simp
     have e2:PySem.W.pat p j=p.toList[j]:=by simp only[Vl]at hj;rw[PySem.W.gq,WX p j hj];simp
     have:=hs i j hij (by rw[hlen2];omega);rw[e1,e2]at this;exact this
   rw[<- e1];exact nO rp .none p.toList hin
noncomputable def rY:Fn:=λxs h=>match xs with
 | [.dat (.tuple ds)]=>if eh ds then .ok (.dat (.list (bN ltB ds))) h else .bad
 |_=>.bad
theorem Ez(hr:bO k X.A):qx X E (.builtin "sorted") rY:=qx.of (zm hr) λθ hm H ds xs Q w r p=>by
 unfold rY at p;split at p
 ·rename_i ys
  cases r with
  |cons r rr=>
   cases rr;split at p
   ·rename_i ok;have so:cN ys=true:=by simpa [fz]using r.2
    obtain⟨a,vs,rfl,ha,rp,_⟩:=gA r;refine⟨a,vs,view θ H,ys,rfl,aF _ _ _ _ ha,aF _ _,rp,so,ok,λq us hq ru hz=>?_⟩;obtain⟨e1,w1,g⟩:=w.put (o:=.lst us) hq;refine p _ _ e1 w1 _ ⟨⟨q,us,rfl,g,ru.same e1.same⟩,?_⟩;simp only[fz];exact og (aS _ _).symm so
   ·exact p.elim
 ·exact p.elim
end
end Ml
namespace Ml
open PySem
noncomputable def A4:MS:=aZ (oE (vH (cD (aC 3) (cD (aC 4) j6))) (ag hV (aa (af 0) aj)))
    (aZ (cx 5 (bE 1 (aQ (af 1)) (aC 0) cG (dG (aa (af 4) (aa (af 0) aj)))))
    (aZ (jM (aN (ak oEq (af 2) (ah (.tuple [])))) (bJ (dG (aa (ag dk (aa (ag rY (aa (ak cF (dG (aa (af 3) aj)) (af 1)) aj)) aj)) (aa (ag dk (aa (ag dA (aa (af 5) aj)) aj)) aj)))) cg)
    (aZ (cx 5 (ak cF (ak cF (af 5) (dZ (aa (dG (aa (af 4) (aa (af 4) aj))) aj))) (bE 1 (aQ (af 2)) (aC 0) cG (dG (aa (af 5) (aa (af 0) aj))))))
    (bJ (dG (aa (ag dk (aa (ag rY (aa (ak cF (ak cF (dG (aa (af 3) (aa (af 4) aj))) (af 1)) (af 2)) aj)) aj)) (aa (ag dk (aa (ag dA (aa (af 5) aj)) aj)) aj)))))))
noncomputable def jc:Fn:=bx 3 6 A4
noncomputable abbrev hZ:Addr:=410
noncomputable abbrev ia:Str:=("_law_refused_right" : Str) ++ ".<locals>." ++ "<lambda>"
noncomputable def mD:MS:=aZ (t8 (aQ (ag iJ (aa (af 0) (aa (af 1) aj)))) (aC 3) (aZ (cx 4 (dZ (aa (iD [0,1,4] 0 hZ ia [3] (ag aR (aa (af 0) (aa (ah .none) (aa (ah .none) (aa (ah .none) aj)))))) aj)))
    (jM (aN (ak j4 (ak cF (af 4) (dZ (aa (iD [0,1,4] 0 hZ ia [1,3] (ag aR (aa (af 0) (aa (af 1) (aa (ah .none) (aa (ah .none) aj)))))) aj))) (ak ly (ah (.list [.tuple [.str "web"]])) (ah (.int 2))))) (bJ (ah (.bool false))) cg)))
    (aZ (cx 5 (dG (aa (ag dk (aa (ag fU (aa (ak cF (ak dz (af 1) #[15]) (ah (.tuple [.str "qq"]))) aj)) aj)) (aa (ah (.tuple [])) aj))))
    (aZ (jM (aN (ak j4 (iD [0,1,4] 0 hZ ia [1,5] (ag aR (aa (af 0) (aa (af 1) (aa (ah .none) (aa (ah .none) aj)))))) (ah (.tuple [.str "pair"])))) (bJ (ah (.bool false))) cg)
    (aZ (t8 (aQ (ah (.list [.none,.list [],.tuple [.str "qq"],.tuple [.str "zz",.str "a"],.tuple [.str "a",.str "a"],.str "",.int 7,.tuple [.none],.dict [],.tuple [.str "A"],.tuple [.tuple [.str "a"]]]))) (aC 3) (aZ (cx 4 (dZ (aa (iD [0,1,4] 0 hZ ia [1,2,3] (ag aR (aa (af 0) (aa (af 1) (aa (af 2) (aa (ah .none) aj)))))) aj)))
    (jM (aN (ak j4 (ak cF (af 4) (dZ (aa (iD [0,1,4] 0 hZ ia [1,2,3] (ag aR (aa (af 0) (aa (af 1) (aa (ah (.tuple [])) (aa (af 2) aj)))))) aj))) (ak ly (ah (.list [.tuple [.str "lot"]])) (ah (.int 2))))) (bJ (ah (.bool false))) cg)))
    (aZ (jM (tY (aN (ak j4 (ak dz (af 1) #[15]) (ah (.tuple [])))) (aN (ak j4 (iD [0,1,4] 0 hZ ia [1,2] (ag aR (aa (af 0) (aa (af 1) (aa (ak dz (af 0) #[15]) (aa (sT (ak dz (af 0) #[15]) fm (cP (ah (.int 1)))) aj)))))) (ah (.tuple [.str "lot"]))))) (bJ (ah (.bool false))) cg)
    (bJ (ah (.bool true)))))))
noncomputable def mE:Fn:=bx 3 6 mD
noncomputable def df:Fn:=gI mE
end Ml
namespace Ml
open PySem PySem.Spec L2
noncomputable def SH(x:D)(lo hi:Option Int)(h:Hm):R D:=match x with
 |.scr ns=>.ok (.dat (.list (cut (ns.map PyData.int) lo hi))) h
 |_=>.bad
noncomputable def IE(e:ME)(lo hi:Me):ME:=λρ h=>(e ρ h).bind λx h1=>(lo ρ h1).bind λl h2=>(hi ρ h2).bind λu h3=>SH x l u h3
section
variable {X:Cx} {E:XK} {m:ME} {e:Expr} {pos:Pos}
noncomputable def QJ(G:Gx)(E:XK):V->Option Int->Option Int->Hp->VK->Prop:=λx lo hi H Q=>∃θ h d,W G θ h H/\ck G θ H d x/\aL G (ua G E) θ H (SH d lo hi h) (KV G Q)
theorem yc:∀(ns:List Int),bf M (ns.map PyData.int) (ns.map V.int)
 | []=>rfl
 |n::ns=>⟨_,_,rfl,rfl,yc ns⟩
theorem OE:Pk X (QJ X.G E):=by
 rintro pins s σ H x v vl vu lo hi sl Q I rx hs pl pu ⟨θ,h,d,w,r,p⟩;unfold SH at p;split at p
 ·rename_i ns;obtain⟨a,rfl,sq⟩:=r;refine DJ pins s σ H _ v vl vu lo hi sl Q I rx hs pl pu ⟨a,ns.map V.int,rfl,(aF θ H).seq sq,λq hq=>?_⟩;obtain⟨e1,w1,g⟩:=w.put hq;refine p _ _ e1 w1 _ ⟨⟨q,_,rfl,g,(Eh (yc ns) lo hi).same e1.same⟩,?_⟩;exact vv (bT.mpr λd m=>by obtain⟨n,_,rfl⟩:=U0.mp m;rfl) lo hi
 ·trivial
theorem F6(he:DE X E m e)(hl:DO X E ml lo)(hu:DO X E mh hi):DE X E (IE m ml mh) (.Subscript e (.Slice lo hi none p2) pos):=by simp[bS,Eg]at *;exact PE.imp (Ag OE he hl hu) (by rintro σ H Q ⟨θ,h,ρ,w,fr,p⟩;exact⟨θ,h,ρ,w,fr,(aL.bind p).mono (by rintro d θ1 h1 H1 _ _ ⟨ev,w1,p1⟩ v r;exact⟨θ1,h1,ρ,w1,fr.ev ev,(aL.bind p1).mono (by rintro l θ2 h2 H2 _ _ ⟨ev2,w2,p2⟩;exact⟨θ2,h2,ρ,w2,(fr.ev ev).ev ev2,(aL.bind p2).mono (by rintro u θ3 h3 H3 _ _ ⟨ev3,w3,p3⟩;exact⟨θ3,h3,d,w3,(r.ev ev2).ev ev3,p3⟩)⟩)⟩)⟩)
end
end Ml
namespace Ml
open PySem
noncomputable def QK:MS:=aZ (t8 (aQ (ak cF (dZ (aa (ag fL (aa (af 0) (aa #[15] aj))) aj)) (IE (af 0) (cP (ah (.int 1))) (cP (ah (.int 3)))))) (aC 1) (aZ (cx 2 (ag iH (aa (af 1) aj)))
    (aZ (cx 3 (ag kA (aa (af 2) (aa (ah (.int 8)) aj))))
    (aZ (cx 4 (ag eV (aa (af 2) (aa (af 3) (aa (ah (.int 3)) aj)))))
    (aZ (cx 5 (ag kW (aa (dZ (aa (af 3) (aa (af 4) aj))) aj)))
    (aZ (t8 (oN (aa (ah (.int 4)) aj)) (aC 6) (aZ (cx 7 (ak dz (dZ (aa (ag iI (aa (af 2) (aa (af 3) aj))) (aa (ah (.tuple [])) (aa (ak dz (af 3) #[15]) aj)))) (ak qj (ag aA (aa (af 2) (aa (ah (.int 5)) aj))) (ah (.int 2)))))
    (aZ (cx 8 (ag dk (aa (bE 1 (aQ (ak dz (af 3) #[15])) (aC 0) (tY (aN (ak gJ (af 0) (af 8))) (aN (ak oEq (ag aA (aa (af 3) (aa (ah (.int 2)) aj))) #[15]))) (af 0)) aj)))
    (aZ (cx 9 (ag jc (aa (ak dz (af 3) #[15]) (aa (af 7) (aa (af 8) aj)))))
    (jM (aN (ak j4 (ag kW (aa (dZ (aa (ag aR (aa (af 3) (aa (af 4) (aa (af 7) (aa (af 8) aj))))) (aa (ag aR (aa (af 3) (aa (af 4) (aa (af 7) (aa (af 8) aj))))) aj))) aj)) (ag kW (aa (dZ (aa (af 9) (aa (af 9) aj))) aj)))) (bJ (ah (.bool false))) cg)))))
    (jM (rF (eF (bK (ag df (aa (af 2) (aa (af 3) (aa (af 4) aj)))))) (aN (ak j4 (ag kW (aa (dZ (aa (af 3) (aa (af 4) aj))) aj)) (af 5)))) (bJ (ah (.bool false))) cg)))))))
    (bJ (ah (.bool true)))
noncomputable def A5:Fn:=bx 1 10 QK
end Ml
namespace Stt
open PySem
noncomputable abbrev qO(xs:YK):Prop:=xs.toList.Pairwise (· < ·)
theorem ur(r:qO xs)(hi:i<k)(hk:k<xs.size):xs[i]'#[4]<xs[k]:=by
 have:=Vo.mp r i k (by simpa using(by omega:i<xs.size)) #[4] hi
 simp_all
theorem vN(r:qO xs)(j:Nat):∀(fuel lo hi:Nat),lo<=hi->hi<=xs.size->hi-lo<=fuel->(∀i (h:i<xs.size),i<lo->xs[i]<j)->(∀i (h:i<xs.size),hi<=i->j<=xs[i]) ->
  (∀i (h:i<xs.size),i<SetTable.below.go xs j fuel lo hi->xs[i]<j)/\(∀i (h:i<xs.size),SetTable.below.go xs j fuel lo hi<=i->j<=xs[i])/\SetTable.below.go xs j fuel lo hi<=xs.size
 |0,lo,hi,h1,h2,h3,a,b=>by
  grind[SetTable.below.go]
 |fuel+1,lo,hi,h1,h2,h3,a,b=>by
  simp only[SetTable.below.go];split
  ·rename_i hlt;have hm:(lo+hi) / 2<xs.size:=by omega
   simp only[Array.getD,hm,dif_pos];split
   ·rename_i hx;refine vN r j fuel _ hi #[4] h2 #[4] (λi h hi'=>?_) b;by_cases e:i=(lo+hi) / 2
    ·subst e;exact hx
    ·have:=ur r (i:=i) (k:=(lo+hi) / 2) #[4] hm;have hx':xs[(lo+hi) / 2]<j:=hx;omega
   ·rename_i hx;refine vN r j fuel lo _ #[4] #[4] #[4] a λi h hi'=>?_;have hx':¬ xs[(lo+hi) / 2]<j:=hx;by_cases e:i=(lo+hi) / 2
    ·subst e;omega
    ·have:=ur r (i:=(lo+hi) / 2) (k:=i) #[4] h;omega
  grind
theorem iL(r:qO xs)(j:Nat):(∀i (h:i<xs.size),i<SetTable.below xs j->xs[i]<j)/\(∀i (h:i<xs.size),SetTable.below xs j<=i->j<=xs[i])/\SetTable.below xs j<=xs.size:=
 vN r j xs.size 0 xs.size #[4] #[4] #[4] (λ_ _ h=>by omega) λ_ _ h=>by omega
theorem below_at(r:qO xs)(h:xs[i]?=some j):SetTable.below xs j=i:=by
 obtain⟨hi,e⟩:=VA.mp h;obtain⟨a,b,c⟩:=iL r j;by_cases h1:i<SetTable.below xs j
 ·grind
 ·by_cases h2:SetTable.below xs j=i
  ·exact h2
  ·have hb:SetTable.below xs j<xs.size:=by omega
   have:=b _ hb (UJ _);have:=ur r (i:=SetTable.below xs j) #[4] hi;omega
theorem iM(r:qO xs):j∈xs.toList<->xs[SetTable.below xs j]?=some j:=by
 constructor
 ·intro h;obtain⟨i,hi,e⟩:=WI h;have:xs[i]?=some j:=by rw[<- Vg,UN hi,e]
  rw[below_at r this];grind
 ·intro h;rw[<- Vg]at h;exact UY h
theorem kB(r:qO xs):SetTable.has xs j=true<->j∈xs.toList:=by unfold SetTable.has;rw[iM r,Yo]
theorem oj{t:YM}(r:qO t.place):t.slot j=.live i<->t.place[i]?=some j:=by
 unfold SetTable.slot;constructor
 ·grind
 ·intro h;have e:=below_at r h
  grind
theorem kC{t:YM}(r:qO t.place)(rd:qO t.dummies):t.slot j=.empty<->j∉t.place.toList/\j∉t.dummies.toList:=by
 rw[iM r,<- kB rd]
 grind[SetTable.slot]
theorem CJ{t:YM}(r:qO t.place)(rd:qO t.dummies):t.slot j=.dummy->j∈t.dummies.toList:=by
 rw[<- kB rd]
 grind[SetTable.slot]
theorem vO(r:qO xs)(h:j∉xs.toList):qO (SetTable.insertAt xs (SetTable.below xs j) j):=by
 obtain⟨a,b,c⟩:=iL r j;unfold qO;rw[Xr];have r':xs.toList.Pairwise (· < ·):=r;rw[<- V4 (SetTable.below xs j) xs.toList,V8]at r';obtain⟨r1,r2,r3⟩:=r';rw[V8];refine⟨r1,Vr.mpr ⟨λx hx=>?_,r2⟩,λx hx y hy=>?_⟩
 ·obtain⟨i,hi,e⟩:=WI hx;simp at hi e;have:=b (SetTable.below xs j+i) #[4] #[4];have hne:xs[SetTable.below xs j+i]'#[4]≠j:=λz=>h (by rw[<- z];simp);omega
 ·have hxj:x<j:=by
   obtain⟨i,hi,e⟩:=WI hx;simp at hi e;have:=a i #[4] #[4];omega
  rcases UO.mp hy with rfl|hy
  ·exact hxj
  ·exact r3 x hx y hy
theorem yd(r:qO xs)(p:Nat):qO (SetTable.eraseAt xs p):=by
 unfold qO SetTable.eraseAt;simp;have r':xs.toList.Pairwise _:=r;rw[<- V4 p xs.toList,V8]at r';rw[V8];refine⟨r'.1,?_,λx hx y hy=>?_⟩
 ·grind
 ·refine r'.2.2 x hx y ?_;have:=Xd hy;rw[<- List.drop_drop]at this;exact List.mem_of_mem_drop this
structure Pc where
 j:Nat
 more:Nat
 i:Nat
 pt:Nat
noncomputable def pc(p:SetTable.Probe):Pc:=⟨p.j,p.more,p.i,p.perturb⟩
noncomputable def eE(mask i pt:Nat):Pc:=⟨i,SetTable.runEnd mask i-i,i,pt⟩
noncomputable def EA(mask:Nat)(c:Pc):Pc:=eE mask (SetTable.leap mask c.i c.pt).1 (SetTable.leap mask c.i c.pt).2
noncomputable def step(mask:Nat)(c:Pc):Pc:=if c.more>0 then⟨c.j+1,c.more-1,c.i,c.pt⟩else EA mask c
theorem CK(t:YM)(p:SetTable.Probe):pc (t.advance p)=step t.mask (pc p):=by unfold SetTable.advance step pc;split<;>rfl
theorem ju(t:YM)(p:SetTable.Probe):(t.advance p).dummy=p.dummy:=by
 grind[SetTable.advance]
noncomputable def steps(mask:Nat):Nat->Pc->Pc
 |0,c=>c
 |n+1,c=>steps mask n (step mask c)
theorem om(mask:Nat):∀(m n:Nat) (c:Pc),steps mask (m+n) c=steps mask n (steps mask m c)
 |0,n,c=>by simp[steps]
 |m+1,n,c=>by rw[show m+1+n=(m+n)+1 by omega];exact om mask m n _
theorem zo(mask:Nat):∀(k:Nat) (c:Pc),c.more=k->steps mask (k+1) c=EA mask c
 |0,c,h=>by simp[steps,step,h]
 |k+1,c,h=>by
  have e:step mask c=⟨c.j+1,c.more-1,c.i,c.pt⟩:=by grind[step]
  simp[steps];have:=zo mask k (step mask c) (by simp_all);simp[steps]at this;rw[this,e];rfl
theorem ye(mask i:Nat):SetTable.runEnd mask i-i<=9:=by grind[SetTable.runEnd]
noncomputable def gg(mask:Nat):Nat->Pc->Pc
 |0,c=>c
 |n+1,c=>gg mask n (EA mask c)
theorem tD(mask:Nat):∀(n:Nat) (c:Pc),c.more<=9->∃m,m<=10*n/\steps mask m c=gg mask n c
 |0,c,_=>⟨0,by omega,rfl⟩
 |n+1,c,h=>by obtain⟨m,hm,e⟩:=tD mask n (EA mask c) (ye _ _);refine⟨c.more+1+m,by omega,?_⟩;rw[om,zo mask c.more c rfl,e];rfl
theorem rZ(mask:Nat):∀(m n:Nat) (c:Pc),gg mask (m+n) c=gg mask n (gg mask m c)
 |0,n,c=>by simp[gg]
 |m+1,n,c=>by rw[show m+1+n=(m+n)+1 by omega];exact rZ mask m n _
theorem A6(mask:Nat):∀(n:Nat) (c:Pc),(gg mask n c).pt=c.pt / 32^n
 |0,c=>by simp[gg]
 |n+1,c=>by simp[gg];rw[A6 mask n];show c.pt / 32 / 32^n=_;rw[Nat.div_div_eq_div_mul,Nat.pow_succ,Nat.mul_comm]
noncomputable def F7(m:Nat):Nat->Nat->Nat
 |0,i=>i
 |n+1,i=>F7 m n ((i*5+1) % m)
theorem uv(m:Nat):∀(a b i:Nat),F7 m (a+b) i=F7 m b (F7 m a i)
 |0,b,i=>by simp[F7]
 |a+1,b,i=>by rw[show a+1+b=(a+b)+1 by omega];exact uv m a b _
noncomputable def cover(m:Nat):Nat->Nat->Nat->Nat
 |0,_,acc=>acc
 |n+1,i,acc=>cover m n ((i*5+1) % m) (acc ||| 1 <<< i)
theorem yf(m:Nat):∀(n i acc e:Nat),(cover m n i acc).testBit e=true->acc.testBit e=true\/∃a,a<n/\F7 m a i=e
 |0,i,acc,e,h=>.inl h
 |n+1,i,acc,e,h=>by
  rcases yf m n _ _ e h with h|⟨a,ha,h⟩
  ·rw[Nat.testBit_or,V3]at h;rcases h with h|h
   ·exact .inl h
   ·refine .inr ⟨0,by omega,?_⟩;rw[Nat.shiftLeft_eq,Nat.one_mul,Nat.testBit_two_pow]at h;simpa [F7]using h
  ·exact .inr ⟨a+1,by omega,h⟩
noncomputable def sizeOk(m:Nat):Bool:=cover m m 0 0==2^m-1&&F7 m m 0==0&&decide (8<=m/\m<=1024)&&decide (m % 2=0)
theorem IF(h:sizeOk m=true)(hi:i<m)(he:e<m):∃n,n<m/\F7 m n i=e:=by
 unfold sizeOk at h;simp only[UI,Yo,U5]at h;obtain⟨⟨⟨h1,h2⟩,h3⟩,_⟩:=h
 have key:∀x,x<m->∃a,a<m/\F7 m a 0=x:=λx hx=>by
  rcases yf m m 0 0 x (by grind)with z|z
  ·grind
  grind
 obtain⟨a,ha,ea⟩:=key i hi;obtain⟨b,hb,eb⟩:=key e he;by_cases hab:a<=b
 ·exact⟨b-a,by omega,by rw[<- ea,<- uv,show a+(b-a)=b by omega,eb]⟩
 ·exact⟨(m-a)+b,by omega,by rw[<- ea,<- uv,show a+((m-a)+b)=m+b by omega,uv,h2,eb]⟩
theorem Mm:sizeOk 8=true/\sizeOk 16=true/\sizeOk 32=true/\sizeOk 64=true/\sizeOk 128=true/\sizeOk 256=true/\sizeOk 512=true/\sizeOk 1024=true:=by decide +kernel
theorem yg:∀(n:Nat) (c:Pc),c.pt=0->(gg mask n c).i=F7 (mask+1) n c.i
 |0,c,_=>rfl
 |n+1,c,h=>by simp[gg,F7];rw[yg n _ (by show c.pt / 32=0;rw[h])];show F7 _ n (_ % _)=_;rw[h]
theorem K5(mask n:Nat)(c:Pc):(gg mask (n+1) c).j=(gg mask (n+1) c).i:=by rw[rZ];rfl
theorem yh(h:sizeOk (mask+1)=true)(hp:c.pt<2^64)(he:e<=mask):∃n,n<=mask+12/\(gg mask (n+1) c).j=e:=by
 have h0:(gg mask 13 c).pt=0:=by
  grind[A6]
 have hi  := by show(gg mask (12+1) c).i<mask+1;exact X8 _ #[4]
 obtain⟨n,hn,en⟩:=IF h hi (Nat.lt_succ_of_le he);refine⟨12+n,by omega,?_⟩;rw[show 12+n+1=_+1 from rfl,K5,show 12+n+1=13+n by omega,rZ,yg n _ h0,en]
theorem EB(h:Int):SetTable.bits h<2^64:=by
 grind[SetTable.bits]
noncomputable def c0(mask:Nat)(h:Int):Pc:=eE mask (SetTable.bits h % (mask+1)) (SetTable.bits h)
noncomputable def sq(mask:Nat)(h:Int)(n:Nat):Nat:=(steps mask n (c0 mask h)).j
theorem F8(hs:sizeOk (mask+1)=true)(h:Int)(he:e<=mask):∃n,n<=10*(mask+13)/\sq mask h n=e:=by obtain⟨n,hn,en⟩:=yh hs (c:=c0 mask h) (EB h) he;obtain⟨m,hm,em⟩:=tD mask (n+1) (c0 mask h) (ye _ _);exact⟨m,by omega,by simp[sq,em,en]⟩
theorem least{P:Nat->Prop}:∀(N:Nat),P N->∃n,n<=N/\P n/\∀m,m<n->¬ P m:=by
 intro N
 induction N using Nat.strongRecOn with
 |_ N ih=>
  by_cases z:∃m,m<N/\P m
  ·obtain⟨m,hm,pm⟩:=z;obtain⟨n,h1,h2,h3⟩:=ih m hm pm
   grind
  ·grind
theorem CL:∀(n:Nat) (l:List Nat),(∀e,e<n->e∈l)->n<=l.length
 |0,_,_=>WD _
 |n+1,l,h=>by
  have:=CL n (l.erase n) λe he=>(List.mem_erase_of_ne #[4]).mpr (h e #[4])
  grind
theorem CM(mask n:Nat)(c:Pc):steps mask (n+1) c=step mask (steps mask n c):=by rw[om];rfl
structure Tab(es:Yz)(t:YM):Prop where
 rp:qO t.place
 rd:qO t.dummies
 sz:t.place.size=es.size
 tf:t.fill*5<t.mask*3
 bp:∀j∈t.place.toList,j<=t.mask
 bd:∀j∈t.dummies.toList,j<=t.mask
 dj:∀j∈t.dummies.toList,j∉t.place.toList
 sm:sizeOk (t.mask+1)=true
 rc:∀(i:Nat) (e:Int×Value) (j:Nat),es[i]?=some e->t.place[i]?=some j->∃n,sq t.mask e.1 n=j/\∀m,m<n->t.slot (sq t.mask e.1 m)≠.empty
theorem Tab.fits(T:Tab es t):t.fits es.size=true:=by have:=T.tf;simp[SetTable.fits];exact⟨T.sz,by omega⟩
theorem Tab.odd(T:Tab es t):t.gaveWay=false:=by
 have h:=T.sm;unfold SetTable.gaveWay;unfold sizeOk at h
 grind
theorem Tab.le(T:Tab es t):t.mask<=1023:=by
 have h:=T.sm
 simp_all[sizeOk]
theorem Tab.free(T:Tab es t)(h:Int):∃N,N<=10*(t.mask+13)/\t.slot (sq t.mask h N)=.empty/\∀m,m<N->t.slot (sq t.mask h m)≠.empty:=by
 have:∃e,e<=t.mask/\t.slot e=.empty:=by
  apply Vs;intro z;have:=CL (t.mask+1) _ λe he=>by apply Vs;intro hn;rw[U1,not_or]at hn;exact z ⟨e,by omega,(kC T.rp T.rd).mpr hn⟩
  have tf:=T.tf
  grind[SetTable.fill,tf,List.length_append,Array.length_toList]
 obtain⟨e,he,hs⟩:=this;obtain⟨n,hn,en⟩:=F8 T.sm h he;obtain⟨N,h1,h2,h3⟩:=least (P:=λn=>t.slot (sq t.mask h n)=.empty) n (by grind)
 grind
noncomputable def Dm(t:YM)(h:Int)(n:Nat)(d:Option Nat):Prop:=d=none\/∃m,m<n/\d=some (sq t.mask h m)/\t.slot (sq t.mask h m)=.dummy
theorem Dm.mono(x:Dm t h n d)(hn:n<=n'):Dm t h n' d:=by
 rcases x with x|⟨m,a,b,c⟩
 ·exact .inl x
 ·exact .inr ⟨m,by omega,b,c⟩
theorem uw(hN:t.slot (sq t.mask h N)=.empty)(hne:∀m,m<N->t.slot (sq t.mask h m)≠.empty) :
  ∀(fuel n:Nat) (p:SetTable.Probe),n<=N->N-n<fuel->pc p=steps t.mask n (c0 t.mask h)->Dm t h n p.dummy ->
   (∃d,SetTable.probe.go t hashAt h fuel p=some (.empty (sq t.mask h N) d)/\Dm t h N d/\∀m,n<=m->m<N->∀i,t.slot (sq t.mask h m)=.live i->hashAt i≠h) \/
   (∃k i q,SetTable.probe.go t hashAt h fuel p=some (.candidate (sq t.mask h k) i q)/\n<=k/\k<N/\t.slot (sq t.mask h k)=.live i/\hashAt i=h/\pc q=steps t.mask (k+1) (c0 t.mask h)/\Dm t h (k+1) q.dummy /\
    ∀m,n<=m->m<k->∀i,t.slot (sq t.mask h m)=.live i->hashAt i≠h)
 |0,n,p,h1,h2,h3,h4=>by omega
 |fuel+1,n,p,h1,h2,h3,h4=>by
  have ej:p.j=sq t.mask h n:=by have:=Xh Pc.j h3;exact this
  have nx:∀(p':SetTable.Probe),pc p'=pc p->n<N->pc (t.advance p')=steps t.mask (n+1) (c0 t.mask h):=λp' e _=>by rw[CK,e,h3,CM]
  simp only[SetTable.probe.go];rw[ej];by_cases e:n=N
  ·subst e;rw[hN];exact .inl ⟨p.dummy,rfl,h4,λm a b=>by omega⟩
  ·have hlt:n<N:=by omega
   cases hs:t.slot (sq t.mask h n)with
   |empty=>exact absurd hs (hne n hlt)
   |dummy=>
    dsimp only;rcases uw hN hne fuel (n+1) (t.advance {p with j:=sq t.mask h n,dummy:=some (sq t.mask h n)}) hlt #[4] (nx _ (by unfold pc;rw[ej]) hlt) (by rw[ju];exact .inr ⟨n,by omega,rfl,hs⟩)with⟨d,a,b,c⟩|⟨k,i,q,a,b,c,d,e',f,g,r⟩
    ·refine .inl ⟨d,a,b,λm h5 h6 i h7=>?_⟩;by_cases z:m=n
     ·subst z;rw[hs]at h7;cases h7
     ·exact c m #[4] h6 i h7
    ·refine .inr ⟨k,i,q,a,by omega,c,d,e',f,g,λm h5 h6 i h7=>?_⟩;by_cases z:m=n
     ·subst z;rw[hs]at h7;cases h7
     ·exact r m #[4] h6 i h7
   |live i=>
    dsimp only;by_cases hh:hashAt i=h
    ·rw[if_pos (by simpa using hh)];refine .inr ⟨n,i,t.advance p,rfl,by omega,hlt,hs,hh,nx p rfl hlt,?_,λm a b=>by omega⟩;rw[ju];exact h4.mono #[4]
    ·rw[if_neg (by simpa using hh)];rcases uw hN hne fuel (n+1) (t.advance p) hlt #[4] (nx _ rfl hlt) (by rw[ju];exact h4.mono #[4])with⟨d,a,b,c⟩|⟨k,i',q,a,b,c,d,e',f,g,r⟩
     ·refine .inl ⟨d,a,b,λm h5 h6 i' h7=>?_⟩;by_cases z:m=n
      ·subst z;rw[hs]at h7;cases h7;exact hh
      ·exact c m #[4] h6 i' h7
     ·refine .inr ⟨k,i',q,a,by omega,c,d,e',f,g,λm h5 h6 i' h7=>?_⟩;by_cases z:m=n
      ·subst z;rw[hs]at h7;cases h7;exact hh
      ·exact r m #[4] h6 i' h7
theorem yi(r:qO xs)(hj:j∈xs.toList):x∈(SetTable.eraseAt xs (SetTable.below xs j)).toList<->x∈xs.toList/\x≠j:=by
 have hb:=(iM r).mp hj;obtain⟨hl,e⟩:=VA.mp hb;have sp:xs.toList=xs.toList.take (SetTable.below xs j)++j::xs.toList.drop (SetTable.below xs j+1):=by have e1:=(V4 (SetTable.below xs j) xs.toList).symm;rw[VE (by simpa using hl)]at e1;rw[Array.getElem_toList,e]at e1;exact e1
 have se:(SetTable.eraseAt xs (SetTable.below xs j)).toList=xs.toList.take (SetTable.below xs j)++xs.toList.drop (SetTable.below xs j+1):=by unfold SetTable.eraseAt;simp only[Yc,Array.toList_extract,List.extract_eq_take_drop,List.drop_zero,Nat.sub_zero];congr 1;rw[XI];simp
 have nd:xs.toList.Nodup:=List.Pairwise.imp (λh=>UR h) r;rw[sp]at nd;rw[se];have nd2:=(W6.mp nd);have nd3:=VM.mp nd2.2.1;constructor
 ·intro h;refine⟨by rw[sp];rcases U1.mp h with h|h;exact VJ _ h;exact U2 _ (UQ _ h),λz=>?_⟩;subst z;rcases U1.mp h with h|h
  ·exact nd2.2.2 x h x (UW ..) rfl
  ·exact nd3.1 h
 grind
theorem vP{p:Nat}(hp:p<xs.size):(SetTable.eraseAt xs p).size=xs.size-1:=by
 grind[SetTable.eraseAt]
theorem jd:(SetTable.insertAt xs p x).size=xs.size+1:=by
 have:=(SetTable.insertAt_perm xs p x).length_eq
 grind
theorem vQ:y∈(SetTable.insertAt xs p x).toList<->y=x\/y∈xs.toList:=by rw[(SetTable.insertAt_perm xs p x).mem_iff];simp[or_comm]
theorem vR{x:α}(hp:p<=xs.size)(i:Nat):(SetTable.insertAt xs p x)[i]?=if i<p then xs[i]? else if i=p then some x else xs[i-1]?:=by
 rw[<- Vg,Xr]
 grind
theorem yj(T:Tab es t)(hs:∀i,t.slot s≠.live i)(x:Nat)(h:(t.put s).1.slot x=.empty):t.slot x=.empty:=by
 have hp:s∉t.place.toList:=λz=>by have:=(iM T.rp).mp z;exact hs _ ((oj T.rp).mpr this)
 have rp':qO (t.put s).1.place:=vO T.rp hp
 have rd':qO (t.put s).1.dummies:=by
  show qO (if SetTable.has t.dummies s=true then _ else _);split
  ·exact yd T.rd _
  ·exact T.rd
 rw[kC rp' rd']at h;rw[kC T.rp T.rd];obtain⟨h1,h2⟩:=h
 have h1':x≠s/\x∉t.place.toList:=by
  have:x∉(SetTable.insertAt t.place (SetTable.below t.place s) s).toList:=h1;rw[vQ,not_or]at this
  grind
 refine⟨h1'.2,λz=>h2 ?_⟩;show x∈(if SetTable.has t.dummies s=true then _ else _:YK).toList;split
 ·rename_i hd;exact(yi T.rd ((kB T.rd).mp hd)).mpr ⟨z,h1'.1⟩
 grind
structure xl(es:Yz)(t:YM):Prop where
 rp:qO t.place
 rd:qO t.dummies
 sz:t.place.size=es.size
 fl:t.fill<=t.mask
 bp:∀j∈t.place.toList,j<=t.mask
 bd:∀j∈t.dummies.toList,j<=t.mask
 dj:∀j∈t.dummies.toList,j∉t.place.toList
 sm:sizeOk (t.mask+1)=true
 rc:∀(i:Nat) (e:Int×Value) (j:Nat),es[i]?=some e->t.place[i]?=some j->∃n,sq t.mask e.1 n=j/\∀m,m<n->t.slot (sq t.mask e.1 m)≠.empty
theorem xl.fits(T:xl es t):t.fits es.size=true:=by simp[SetTable.fits];exact⟨T.sz,T.fl⟩
theorem xl.tab(T:xl es t)(h:t.fill*5<t.mask*3):Tab es t:=⟨T.rp,T.rd,T.sz,h,T.bp,T.bd,T.dj,T.sm,T.rc⟩
theorem xl.flags(T:xl es t)(h1:t'.mask=t.mask)(h2:t'.place=t.place)(h3:t'.dummies=t.dummies):xl es t':=by obtain⟨a',b',c',d',e',f',l'⟩:=t';subst h1 h2 h3;exact⟨T.rp,T.rd,T.sz,T.fl,T.bp,T.bd,T.dj,T.sm,T.rc⟩
theorem Tab.SI(T:Tab es t):xl es t:=⟨T.rp,T.rd,T.sz,by have:=T.tf;omega,T.bp,T.bd,T.dj,T.sm,T.rc⟩
theorem K6(T:Tab es t)(hs:∀i,t.slot s≠.live i)(hm:s<=t.mask)(hn:sq t.mask h n=s)(hp:∀m,m<n->t.slot (sq t.mask h m)≠.empty) :
  xl (SetTable.insertAt es (t.put s).2 (h,x)) (t.put s).1/\(t.slot s=.dummy->(t.put s).1.fill=t.fill):=by
 have nip:s∉t.place.toList:=λz=>by have:=(iM T.rp).mp z;exact hs _ ((oj T.rp).mpr this)
 have rp':qO (t.put s).1.place:=vO T.rp nip
 have rd':qO (t.put s).1.dummies:=by
  show qO (if SetTable.has t.dummies s=true then _ else _);split
  ·exact yd T.rd _
  ·exact T.rd
 have mp:∀y,y∈(t.put s).1.place.toList<->y=s\/y∈t.place.toList:=λy=>vQ
 have md:∀y,y∈(t.put s).1.dummies.toList->y∈t.dummies.toList/\y≠s:=λy hy=>by
  have hy:y∈(if SetTable.has t.dummies s=true then SetTable.eraseAt t.dummies (SetTable.below t.dummies s)else t.dummies).toList:=hy;split at hy
  ·rename_i hd;exact(yi T.rd ((kB T.rd).mp hd)).mp hy
  ·rename_i hd;exact⟨hy,λz=>hd ((kB T.rd).mpr (z▸hy))⟩
 have ple:SetTable.below t.place s<=t.place.size:=(iL T.rp s).2.2;have psz:(t.put s).1.place.size=t.place.size+1:=jd;have tf:=T.tf;unfold SetTable.fill at tf;have hmask:7<=t.mask:=by have h:=T.sm;unfold sizeOk at h;simp only[UI,Yo,U5]at h;omega
 have dsz:(t.put s).1.dummies.size<=t.dummies.size:=by
  show(if SetTable.has t.dummies s=true then SetTable.eraseAt t.dummies (SetTable.below t.dummies s)else t.dummies).size<=_;split
  ·rename_i hd;have hb:=(iM T.rd).mp ((kB T.rd).mp hd);rw[vP (VA.mp hb).1];omega
  ·exact UJ _
 refine⟨⟨rp',rd',?_,?_,λj hj=>?_,λj hj=>T.bd j (md j hj).1,λj hj hj'=>?_,T.sm,λi e j hi hj=>?_⟩,λhd=>?_⟩
 ·rw[psz,jd,T.sz]
 ·unfold SetTable.fill;rw[psz];show t.place.size+1+(t.put s).1.dummies.size<=t.mask;omega
 ·rcases(mp j).mp hj with rfl|hj
  ·exact hm
  ·exact T.bp j hj
 ·obtain⟨d1,d2⟩:=md j hj;rcases(mp j).mp hj' with z|z
  ·exact d2 z
  ·exact T.dj j d1 z
 ·have hj':(SetTable.insertAt t.place (SetTable.below t.place s) s)[i]?=some j:=hj;have hi':(SetTable.insertAt es (SetTable.below t.place s) (h,x))[i]?=some e:=hi;rw[vR ple]at hj';rw[vR (by rw[<- T.sz];exact ple)]at hi';have old:∀i',es[i']?=some e->t.place[i']?=some j->∃n,sq t.mask e.1 n=j/\∀m,m<n->(t.put s).1.slot (sq t.mask e.1 m)≠.empty:=λi' a b=>by obtain⟨n',n1,n2⟩:=T.rc i' e j a b;exact⟨n',n1,λm hm' z=>n2 m hm' (yj T hs _ z)⟩
  show ∃n,sq t.mask e.1 n=j/\∀m,m<n->(t.put s).1.slot (sq t.mask e.1 m)≠.empty;by_cases h1:i<SetTable.below t.place s
  ·rw[if_pos h1]at hi' hj';exact old i hi' hj'
  ·rw[if_neg h1]at hi' hj';by_cases h2:i=SetTable.below t.place s
   ·rw[if_pos h2]at hi' hj';cases hi';cases hj';exact⟨n,hn,λm hm' z=>hp m hm' (yj T hs _ z)⟩
   ·rw[if_neg h2]at hi' hj';exact old _ hi' hj'
 ·have hd':=CJ T.rp T.rd hd;have hh:=(kB T.rd).mpr hd';unfold SetTable.fill;rw[psz];have:(t.put s).1.dummies.size=t.dummies.size-1:=by show(if SetTable.has t.dummies s=true then SetTable.eraseAt t.dummies (SetTable.below t.dummies s)else t.dummies).size=_;rw[if_pos hh];exact vP (VA.mp ((iM T.rd).mp hd')).1
  rw[this];have:0<t.dummies.size:=by have:=List.length_pos_of_mem hd';simpa using this
  omega
noncomputable def A7(owner:Array (Option Nat))(j:Nat):Prop:=(owner.getD j (some 0)).isNone=false
theorem r9(mask:Nat):∀(k:Nat) (c:Pc),k<=c.more->steps mask k c=⟨c.j+k,c.more-k,c.i,c.pt⟩
 |0,c,_=>by rfl
 |k+1,c,h=>by
  have e:step mask c=⟨c.j+1,c.more-1,c.i,c.pt⟩:=by grind[step]
  simp[steps];rw[e,r9 mask k _ (by grind)]
  grind
theorem yk:∀(fuel i pt:Nat),(∃n,n<fuel/\¬ A7 owner (gg mask n (eE mask i pt)).j) ->
  ∃n,SetTable.layClean.free mask owner fuel i pt=some (steps mask n (eE mask i pt)).j/\¬ A7 owner (steps mask n (eE mask i pt)).j/\∀m,m<n->A7 owner (steps mask m (eE mask i pt)).j
 |0,i,pt,⟨n,hn,_⟩=>by omega
 |fuel+1,i,pt,⟨n,hn,hf⟩=>by
  have hre:SetTable.runEnd mask i+1-i=(eE mask i pt).more+1:=by
   show _=SetTable.runEnd mask i-i+1
   grind[SetTable.runEnd]
  simp only[SetTable.layClean.free];rw[hre]
  cases hfi:(List.range ((eE mask i pt).more+1)).find? λk=>(owner.getD (i+k) (some 0)).isNone with
  |some k=>
   dsimp only;obtain⟨h1,h2,h3⟩:=List.find?_range_eq_some.mp hfi;have hk:k<=(eE mask i pt).more:=by have:=U4.mp h2;omega
   have es:∀m,m<=k->(steps mask m (eE mask i pt)).j=i+m:=λm hm=>by rw[r9 mask m _ #[4]];rfl
   refine⟨k,by rw[es k (UJ _)],?_,λm hm=>?_⟩
   ·rw[es k (UJ _)];unfold A7;rw[h1];simp
   ·rw[es m #[4]];have:=h3 m hm;simpa [A7]using this
  |none=>
   dsimp only;have h1:=List.find?_range_eq_none.mp hfi;have occ:∀m,m<(eE mask i pt).more+1->A7 owner (steps mask m (eE mask i pt)).j:=λm hm=>by rw[r9 mask m _ #[4]];have:=h1 m hm;show A7 owner (i+m);simpa [A7]using this
   have hn0:n≠0:=λz=>by subst z;have:=occ 0 #[4];exact hf this
   obtain⟨n',rfl⟩:∃n',n=n'+1:=⟨n-1,by omega⟩;have tl:=zo mask (eE mask i pt).more (eE mask i pt) rfl;obtain⟨q,q1,q2,q3⟩:=yk (mask:=mask) (owner:=owner) fuel (SetTable.leap mask i pt).1 (SetTable.leap mask i pt).2 ⟨n',by omega,hf⟩;have es:∀m,steps mask ((eE mask i pt).more+1+m) (eE mask i pt)=steps mask m (eE mask (SetTable.leap mask i pt).1 (SetTable.leap mask i pt).2):=λm=>by rw[om,tl];rfl
   refine⟨(eE mask i pt).more+1+q,by rw[es];exact q1,by rw[es];exact q2,λm hm=>?_⟩;by_cases hmm:m<(eE mask i pt).more+1
   ·exact occ m hmm
   ·have:=q3 (m-((eE mask i pt).more+1)) #[4];rw[<- es]at this;rw[show m=(eE mask i pt).more+1+(m-((eE mask i pt).more+1))by omega];exact this
noncomputable def cW(mask:Nat)(owner:Array (Option Nat)):List (Nat×Nat):=(List.range (mask+1)).filterMap λj=>(owner.getD j none).map (j,·)
theorem A8{α β:Type}{f g:α->Option β}:∀{l:List α},(∀x∈l,g x=f x)->l.filterMap g=l.filterMap f
 | [],_=>rfl
 |a::l,h=>by have ih:=A8 λx hx=>h x (UQ _ hx);rw[List.filterMap_cons,List.filterMap_cons,h a (UW ..),ih]
theorem IG{α β:Type}{f g:α->Option β}{j:α}{v:β}(hf:f j=none)(hg:g j=some v):∀{l:List α},l.Nodup->j∈l->(∀x∈l,x≠j->f x=g x)->List.Perm (l.filterMap g) (v::l.filterMap f)
 | [],_,h,_=>by grind
 |a::l,nd,h,e=>by
  obtain⟨n1,n2⟩:=VM.mp nd;by_cases z:a=j
  ·subst z;rw[Wz hg,List.filterMap_cons_none hf];have:l.filterMap g=l.filterMap f:=A8 λx hx=>(e x (UQ _ hx) (λq=>n1 (q▸hx))).symm;rw[this]
  ·have hj:j∈l:=by
    grind
   have ih:=IG hf hg n2 hj λx hx=>e x (UQ _ hx);have ea:=e a (UW ..) z
   cases hfa:f a with
   |none=>simp_all
   |some b=>rw[Wz (by rw[<- ea];exact hfa),Wz hfa];exact(ih.cons b).trans (.swap _ _ _)
structure Own(mask:Nat)(hs:List Int)(js:List Nat)(owner:Array (Option Nat)):Prop where
 sz:owner.size=mask+1
 ln:js.length=hs.length
 lv:List.Perm (cW mask owner) (js.zip (List.range hs.length))
 rc:∀(k:Nat) (h:Int) (j:Nat),hs[k]?=some h->js[k]?=some j->∃n,sq mask h n=j/\∀m,m<n->A7 owner (sq mask h m)
noncomputable def K7(mask:Nat)(acc:Option (Array (Option Nat)×Nat))(h:Int):Option (Array (Option Nat)×Nat):=do
    let (owner,k) <- acc
    let j <- SetTable.layClean.free mask owner (SetTable.turns mask) (SetTable.bits h % (mask+1)) (SetTable.bits h)
    pure (owner.setIfInBounds j (some k),k+1)
theorem IH(hm:sizeOk (mask+1)=true)(O:Own mask hs js owner)(hl:hs.length<=mask)(h:Int) :
  ∃j owner',K7 mask (some (owner,hs.length)) h=some (owner',hs.length+1)/\Own mask (hs++[h]) (js++[j]) owner':=by
 have occ_iff:∀j,A7 owner j<->owner[j]?≠some none:=λj=>by
  unfold A7;rw[Vy]
  cases owner[j]? with
  |none=>simp
  |some o=>cases o<;>simp
 have hfree:∃e,e<=mask/\¬ A7 owner e:=by
  apply Vs;intro z
  have hp:=CL (mask+1) ((cW mask owner).map (·.1)) λe he=>by
   have ho:A7 owner e:=Vs λq=>z ⟨e,by omega,q⟩;rw[occ_iff]at ho;have hlt:e<owner.size:=by rw[O.sz];exact he
   rw[U6 hlt]at ho
   cases hv:owner[e]with
   |none=>rw[hv]at ho;exact absurd rfl ho
   |some k=>refine U0.mpr ⟨(e,k),Wn.mpr ⟨e,U4.mpr he,?_⟩,rfl⟩;simp[Array.getD,hlt,hv]
  rw[UZ,O.lv.length_eq,List.length_zip,O.ln]at hp;simp at hp;omega
 obtain⟨e,he,hne⟩:=hfree;obtain⟨n,hn,en⟩:=yh hm (c:=c0 mask h) (EB h) he
 obtain⟨q,q1,q2,q3⟩:=yk (mask:=mask) (owner:=owner) (SetTable.turns mask) (SetTable.bits h % (mask+1)) (SetTable.bits h) ⟨n+1,by unfold SetTable.turns;omega,by
  have:(gg mask (n+1) (eE mask (SetTable.bits h % (mask+1)) (SetTable.bits h))).j=e:=en
  rw[this];exact hne⟩
 generalize hj:(steps mask q (eE mask (SetTable.bits h % (mask+1)) (SetTable.bits h))).j=j at q1 q2;have hjn:owner[j]?=some none:=Vs λz=>q2 ((occ_iff j).mpr z);have hjl:j<owner.size:=(VA.mp hjn).1
 have get':∀x,(owner.setIfInBounds j (some hs.length))[x]?=if x=j then some (some hs.length)else owner[x]?:=λx=>by
  rw[Array.getElem?_setIfInBounds];by_cases z:j=x
  ·subst z;simp[hjl]
  ·rw[if_neg z,if_neg (λq=>z q.symm)]
 have occ':∀x,A7 owner x->A7 (owner.setIfInBounds j (some hs.length)) x:=λx hx=>by
  unfold A7 at hx ⊢;rw[Vy]at hx ⊢;rw[get'];by_cases z:x=j
  ·rw[if_pos z];rfl
  ·rw[if_neg z];exact hx
 refine⟨j,owner.setIfInBounds j (some hs.length),?_,⟨by simp[O.sz],by simp[O.ln],?_,λk h' j' a b=>?_⟩⟩
 ·unfold K7;simp only[Option.bind_eq_bind,Option.bind_some];rw[q1];rfl
 ·have hp:List.Perm (cW mask (owner.setIfInBounds j (some hs.length))) ((j,hs.length)::cW mask owner):=by
   refine IG (j:=j) ?_ ?_ List.nodup_range (U4.mpr (by rw[<- O.sz];exact hjl)) λx _ hx=>?_
   ·rw[Vy,hjn];rfl
   ·rw[Vy,get',if_pos rfl];rfl
   ·rw[Vy,Vy,get',if_neg hx]
  refine hp.trans ((O.lv.cons _).trans ?_);rw[Vi,List.length_singleton,List.range_succ,List.zip_append (by simp[O.ln])];exact(List.perm_append_singleton _ _).symm
 ·by_cases z:k<hs.length
  ·rw[U3 z]at a;rw[U3 (by rw[O.ln];exact z)]at b;obtain⟨n',n1,n2⟩:=O.rc k h' j' a b;exact⟨n',n1,λm hm'=>occ' _ (n2 m hm')⟩
  ·have hk:k=hs.length:=by
    have:=(UM.mp a).1;simp at this;omega
   subst hk;rw[Vh (UJ _)]at a;rw[<- O.ln,Vh (UJ _)]at b;simp at a b;subst a;subst b;exact⟨q,hj,λm hm'=>occ' _ (q3 m hm')⟩
theorem EC(hm:sizeOk (mask+1)=true):∀(hs2 hs:List Int) (js:List Nat) (owner:Array (Option Nat)),Own mask hs js owner->(hs++hs2).length<=mask+1 ->
  ∃js' owner',hs2.foldl (K7 mask) (some (owner,hs.length))=some (owner',(hs++hs2).length)/\Own mask (hs++hs2) js' owner'
 | [],hs,js,owner,O,_=>⟨js,owner,by simp,by grind⟩
 |h::hs2,hs,js,owner,O,hl=>by
  obtain⟨j,owner',e,O'⟩:=IH hm O (by grind) h;obtain⟨js',owner2,e2,O2⟩:=EC hm hs2 _ _ _ O' (by grind);refine⟨js',owner2,?_,by simp_all⟩
  simp_all
theorem A9(mask:Nat)(hashes:Array Int):SetTable.layClean mask hashes=(hashes.toList.foldl (K7 mask) (some (Array.replicate (mask+1) none,0))).map (·.1):=by unfold SetTable.layClean;rw[<- Array.foldl_toList];rfl
theorem K8(mask:Nat):Own mask [] [] (Array.replicate (mask+1) none):=by
 refine⟨by simp,rfl,?_,λk h j a=>by simp⟩
 simp_all[cW]
theorem CN{α:Type}{es:Array α}:∀{l:List (Nat×Nat)},(∀p∈l,p.2<es.size)->((l.map (·.2)).filterMap (λk=>es[k]?)).length=l.length/\∀(i:Nat) (p:Nat×Nat),l[i]?=some p->((l.map (·.2)).filterMap (λk=>es[k]?))[i]?=es[p.2]?
 | [],_=>⟨rfl,λi p h=>by grind⟩
 |a::l,h=>by
  obtain⟨h1,h2⟩:=CN (l:=l) λp hp=>h p (UQ _ hp);have ha:=h a (UW ..);rw[Vn,Wz (U6 ha)];refine⟨by grind,λi p hi=>?_⟩
  cases i with
  |zero=>simp_all
  |succ i=>simpa using h2 i p (by simpa using hi)
theorem K9{es:Yz}(hm:sizeOk (mask+1)=true)(hn:es.size*5<mask*3)(finger moves:Nat)(led plain:Bool) :
  ∃t' order,SetTable.laid mask finger moves led plain (es.map (·.1))=some (t',order)/\Tab (order.filterMap (es[·]?)) t'/\List.Perm (order.filterMap (es[·]?)).toList es.toList/\t'.mask=mask/\t'.led=led/\List.Perm order.toList (List.range es.size):=by
 obtain⟨js,owner,e,O⟩:=EC hm (es.map (·.1)).toList [] [] _ (K8 mask) (by grind);simp only[Ww,VG]at e O;have hlen:(es.map (·.1)).toList.length=es.size:=by simp
 have hsnd:List.Perm ((cW mask owner).map (·.2)) (List.range es.size):=by have:=O.lv.map (·.2);rw[hlen]at this;refine this.trans ?_;rw[List.map_snd_zip (by rw[O.ln,hlen];simp)]
 have hbelow:∀p∈cW mask owner,p.2<es.size:=λp hp=>by have:=hsnd.mem_iff.mp (U0.mpr ⟨p,hp,rfl⟩);exact U4.mp this
 obtain⟨g1,g2⟩:=CN (es:=es) hbelow;have hfst:((cW mask owner).map (·.1)).Pairwise (· < ·):=by rw[Wa];unfold cW;rw[List.pairwise_filterMap];refine List.Pairwise.imp ?_ List.pairwise_lt_range;intro a b hab x hx y hy;rw[Vt]at hx hy;obtain⟨_,_,rfl⟩:=hx;obtain⟨_,_,rfl⟩:=hy;exact hab
 have hmem:∀p∈cW mask owner,p.1<=mask/\owner.getD p.1 none=some p.2:=λp hp=>by obtain⟨j,hj,ej⟩:=Wn.mp hp;rw[Vt]at ej;obtain⟨k,hk,rfl⟩:=ej;exact⟨by have:=U4.mp hj;omega,hk⟩
 refine⟨{mask,place:=((cW mask owner).map (·.1)).toArray,dummies:=#[],finger,led,moves,plain},((cW mask owner).map (·.2)).toArray,?_,?_,?_,rfl,rfl,by simpa using hsnd⟩
 ·unfold SetTable.laid;rw[A9,e];rfl
 ·have efm:((((cW mask owner).map (·.2)).toArray.filterMap (es[·]?)):Array _)=(((cW mask owner).map (·.2)).filterMap (λk=>es[k]?)).toArray:=by simp
  have llen:(cW mask owner).length=es.size:=by have:=hsnd.length_eq;simpa using this
  refine⟨hfst,List.Pairwise.nil,?_,?_,λj hj=>?_,λj hj=>by simp at hj,λj hj=>by simp at hj,hm,λi e' j h1 h2=>?_⟩
  ·rw[efm,UX,UX,g1,UZ]
  ·show(((cW mask owner).map (·.1)).toArray.size+0)*5<mask*3;simp only[UX,UZ,llen,Nat.add_zero];exact hn
  ·obtain⟨p,hp,rfl⟩:=U0.mp (by simpa using hj:j∈(cW mask owner).map (·.1));exact(hmem p hp).1
  ·rw[efm]at h1;have h2':((cW mask owner).map (·.1))[i]?=some j:=by simpa using h2
   rw[VD,Vt]at h2';obtain⟨p,hp,rfl⟩:=h2';have h1':(((cW mask owner).map (·.2)).filterMap (λk=>es[k]?))[i]?=some e':=by simpa using h1
   rw[g2 i p hp]at h1';have pm:=UY hp;have pz:=O.lv.mem_iff.mp pm;rw[hlen]at pz;obtain⟨k,hk,ek⟩:=WI pz;rw[List.getElem_zip]at ek;simp only[List.getElem_range]at ek;have ek1:js[k]?=some p.1:=by rw[<- Xh Prod.fst ek];exact UN _
   have ek2:p.2=k:=(Xh Prod.snd ek).symm;obtain⟨n,n1,n2⟩:=O.rc k e'.1 p.1 (by simp only[Array.toList_map,VD,Vg];rw[<- ek2,h1'];rfl) ek1;refine⟨n,n1,λm hm' z=>?_⟩;have oc:=n2 m hm';have z':SetTable.slot {mask,place:=((cW mask owner).map (·.1)).toArray,dummies:=#[],finger,led,moves,plain} (sq mask e'.1 m)=.empty:=z;rw[kC (t:={mask,place:=((cW mask owner).map (·.1)).toArray,dummies:=#[],finger,led,moves,plain}) hfst List.Pairwise.nil]at z';by_cases hin:sq mask e'.1 m<owner.size
   ·unfold A7 at oc;rw[Vy,U6 hin]at oc;simp only[Wl]at oc
    cases hv:owner[sq mask e'.1 m]with
    |none=>rw[hv]at oc;simp at oc
    |some k'=>refine z'.1 ?_;have:sq mask e'.1 m∈(cW mask owner).map (·.1):=U0.mpr ⟨(sq mask e'.1 m,k'),Wn.mpr ⟨_,U4.mpr (by rw[<- O.sz];exact hin),by simp[Array.getD,hin,hv]⟩,rfl⟩;simpa using this
   ·exfalso
    have bound:∀q (c:Pc),c.j+c.more<=mask->(steps mask q c).j+(steps mask q c).more<=mask:=by
     intro q
     induction q with
     |zero=>intro c hc;exact hc
     |succ q ih=>
      intro c hc;simp only[steps];refine ih _ ?_;unfold step;split
      ·show c.j+1+(c.more-1)<=mask;omega
      ·show(SetTable.leap mask c.i c.pt).1+(SetTable.runEnd mask (SetTable.leap mask c.i c.pt).1-(SetTable.leap mask c.i c.pt).1)<=mask;have:(SetTable.leap mask c.i c.pt).1<mask+1:=X8 _ #[4];unfold SetTable.runEnd;split<;>omega
    have hb:=bound m (c0 mask e'.1) (by
     show SetTable.bits e'.1 % (mask+1)+(SetTable.runEnd mask (SetTable.bits e'.1 % (mask+1))-SetTable.bits e'.1 % (mask+1))<=mask;have:SetTable.bits e'.1 % (mask+1)<mask+1:=X8 _ #[4];unfold SetTable.runEnd
     split<;>omega)
    have:sq mask e'.1 m<=mask:=by unfold sq;omega
    rw[O.sz]at hin;omega
 grind[Array.toList_filterMap,filterMap_getElem?_range]
theorem qP:∀n,n<1024->(n<SetTable.sizeAbove n/\SetTable.sizeAbove n∈[8,16,32,64,128,256,512,1024]):=by trivial
theorem F9(h:m∈[8,16,32,64,128,256,512,1024]):sizeOk m=true:=by
 obtain⟨a,b,c,d,e,f,g,i⟩:=Mm;simp at h
 grind
theorem Ga{es:Yz}{t:YM}(hw:wanted<1024)(hn:es.size*5<wanted*3\/es.size<=4) :
  ∃t' order,t.relaid (es.map (·.1)) wanted=some (t',order)/\Tab (order.filterMap (es[·]?)) t'/\List.Perm (order.filterMap (es[·]?)).toList es.toList/\t'.led=t.led/\List.Perm order.toList (List.range es.size)/\t'.mask+1=SetTable.sizeAbove wanted/\SetTable.sizeAbove wanted<=1024:=by
 obtain⟨h1,h2⟩:=qP wanted hw;have h8:8<=SetTable.sizeAbove wanted:=by simp[UO,Vd,Wi]at h2;omega
 have e:SetTable.sizeAbove wanted-1+1=SetTable.sizeAbove wanted:=by omega
 obtain⟨t',order,a,b,c,d,f,g⟩:=K9 (es:=es) (by rw[e];exact F9 h2) #[4] t.finger (t.movedTo (SetTable.sizeAbove wanted-1)) t.led t.plain;exact⟨t',order,a,b,c,f,g,by omega,by simp only[UO,Vd,Wi]at h2;omega⟩
end Stt
namespace Stt
open PySem PySem.Spec L2 Ml
structure El(vp:Value->Prop)(w:World)(h:Heap)(md:Bool)(e:Int×Value)(d:PyData):Prop where
 tr:aI d=true
 dp:d.depth<=8
 so:fz d=true
 hs:e.1=sU w d
 kd:jo d=md
 rd:∃as,Reads h e.2 d as
 vl:vp e.2
noncomputable abbrev bY(es:Yz)(ep:Nat)(t:YM):Obj:={cls:=.type "set",dict:=none,data:=.set es ep t,slots:=#[]}
noncomputable abbrev du(w:World):Bool:=w.params.followText "set-order"
structure gh(vp:Value->Prop)(w:World)(h:Heap)(a:Addr)(md:Bool)(ds:YB)(es:Yz)(ep:Nat)(t:YM):Prop where
 ob:h.get? a=some (bY es ep t)
 tb:Tab es t
 ld:t.led=true\/du w=true
 nd:ds.Nodup
 ln:ds.length<=120
 el:Paired (El vp w h md) es.toList ds
noncomputable def kZ(vp:Value->Prop)(w:World)(h:Heap)(a:Addr)(md:Bool)(ds:YB):Prop:=∃es ep t,gh vp w h a md ds es ep t
theorem El.keep(x:El vp w h md e d)(k:∀b o vs n,h.get? b=some o->o.cls=.type "tuple" -> o.data=.seq vs n->h'.get? b=some o):El vp w h' md e d:=
 ⟨x.tr,x.dp,x.so,x.hs,x.kd,by obtain⟨as,r⟩:=x.rd;exact⟨as,jP k x.tr r⟩,x.vl⟩
theorem gh.size(S:gh vp w h a md ds es ep t):es.size=ds.length:=by
 have:=U9 S.el
 grind
theorem gu{R:α->β->Prop}:∀{xs:List α} {ys:List β},Paired R xs ys->∀{i:Nat} {x:α},xs[i]?=some x->∃y,ys[i]?=some y/\R x y
 |_,_,.nil,i,x,h=>by simp at h
 |_,_,.cons r _,0,x,h=>by grind
 |_,_,.cons _ t,i+1,x,h=>by simpa using gu t (by simp_all)
theorem je{R:α->β->Prop}:∀{xs:List α} {ys:List β},Paired R xs ys->∀{i:Nat} {y:β},ys[i]?=some y->∃x,xs[i]?=some x/\R x y
 |_,_,.nil,i,x,h=>by simp at h
 |_,_,.cons r _,0,x,h=>by grind
 |_,_,.cons _ t,i+1,x,h=>by simpa using je t (by simp_all)
theorem gh.get(S:gh vp w h a md ds es ep t){i:Nat}{e:Int×Value}(he:es[i]?=some e):∃d,ds[i]?=some d/\El vp w h md e d:=by rw[<- Vg]at he;exact gu S.el he
section
variable {P:YL} {w:World} {A:YN} {E:Yw} {s:YO} {vp:Value->Prop}
theorem QL(x:El vp w s.heap md e d)(y:El vp w s.heap md' e' d')(hu:A.units+20<cLine)(h:Q (decide (d=d')) s):wpAny #[14] A (eqBool e.2 e'.2) Q E s:=by
 obtain⟨as,r1⟩:=x.rd;obtain⟨bs,r2⟩:=y.rd
 have hq:PyData.eqv d d'=decide (d=d'):=by
  by_cases z:d=d'
  ·subst z;rw[Vz rfl];exact br (aY x.tr)
  ·rw[Vj z];exact bb (aY x.tr) (aY y.tr) z
 have:=X3 d d' A s _ _ _ _ r1 r2 (jq x.so (eK (aY x.tr))) (jq y.so (eK (aY y.tr))) (by have:=x.dp;omega) P w E Q
 grind
mutual
theorem mF:∀(d:PyData) (n:Nat) (A:YN) (s:YO) (v:Value) (as:YC) (Q:Bool->YO->Prop) (E:Yw),aI d=true->d.depth<=n->Reads s.heap v d as->Q false s->wpAny #[14] A (ofAClassStatement n v) Q E s
 |.str x,n,A,s,v,as,Q,E,_,_,r,h=>by cases r;unfold ofAClassStatement;exact UH h
 |.tuple ds,n,A,s,v,as,Q,E,t,hn,r,h=>by
  cases r with
  |tuple ho hc hd hi=>
   rename_i a o items k;have hT:s.TypeIs (.ref a) "tuple" := ⟨o,ho,hc⟩;simp only[aI]at t;simp only[PyData.depth]at hn;obtain⟨m,rfl⟩:∃m,n=m+1:=⟨n-1,by omega⟩;unfold ofAClassStatement;refine UE (WW hT ?_);show wpAny _ _ (if("tuple" == "tuple")=true then _ else _) _ _ s;rw[if_pos #[5]];refine UE (UH ?_);simp only[W5,US,Vu];refine UE (VI ho hd ?_);refine UE ?_;show wpAny _ _ (forIn items _ _) _ _ s;rw[<- Xy];refine oU ds m A s items.toList _ _ E _ t #[4] hi ?_ ?_
   ·intro x s' R k;refine UE (VU k (λc s2 q=>?_) λ_ _ z=>z);obtain⟨rfl,q⟩:=q;simp only[US,Vu];exact UH q
   ·exact UH h
 |.none,_,_,_,_,_,_,_,t,_,_,_=>by simp[aI]at t
 |.bool _,_,_,_,_,_,_,_,t,_,_,_=>by simp[aI]at t
 |.int _,_,_,_,_,_,_,_,t,_,_,_=>by simp[aI]at t
 |.list _,_,_,_,_,_,_,_,t,_,_,_=>by simp[aI]at t
 |.dict _,_,_,_,_,_,_,_,t,_,_,_=>by simp[aI]at t
theorem oU:∀(ds:YB) (n:Nat) (A:YN) (s:YO) (vs:YD) (as:YC) (R:Option Bool×Unit->YO->Prop) (E:Yw) (body:Value->Option Bool×Unit->Sem (ForInStep (Option Bool×Unit))),bz ds=true->PyData.depthAll ds<=n->ReadsAll s.heap vs ds as ->
  (∀(x:Value) (s':YO) (R':ForInStep (Option Bool×Unit)->YO->Prop),wpAny #[14] A (ofAClassStatement n x) (λc s2=>c=false/\R' (.yield (none,())) s2) E s'->wpAny #[14] A (body x (none,())) R' E s') ->
  R (none,()) s->wpAny #[14] A (forIn vs (none,()) body) R E s
 | [],n,A,s,_,_,R,E,body,_,_,.nil,hb,h=>by rw[XT];exact UH h
 |d::ds,n,A,s,_,_,R,E,body,t,hn,.cons r1 r2,hb,h=>by simp only[bz,UI]at t;simp only[PyData.depthAll]at hn;rw[Wd];refine UE (hb _ _ _ (mF d n A s _ _ _ E t.1 #[4] r1 ⟨rfl,?_⟩));exact oU ds n A s _ _ R E body t.2 #[4] r2 hb h
end
theorem yl{G:Value->Prop}{R:Option Bool×Unit->YO->Prop}(hb:∀y,G y->∀R':ForInStep (Option Bool×Unit)->YO->Prop,R' (.yield (none,())) s->wpAny #[14] A (body y (none,())) R' E s) :
  ∀ys:YD,(∀y∈ys,G y)->R (none,()) s->wpAny #[14] A (forIn ys (none,()) body) R E s
 | [],_,h=>UH h
 |y::ys,g,h=>by rw[Wd];refine UE (hb y (g y (UW ..)) _ ?_);exact yl hb ys (λz hz=>g z (UQ _ hz)) h
theorem II(hx:El vp w s.heap md (h0,x) d)(hq:Q false s)(ys:YD)(hys:∀y∈ys,∃h1 d1,El vp w s.heap md (h1,y) d1):wpAny #[14] A (searchCouldBeSeen x ys) Q E s:=by
 unfold searchCouldBeSeen;refine UE (yl (G:=λy=>∃h1 d1,El vp w s.heap md (h1,y) d1) (λy gy R' hR=>?_) ys hys (UH hq));obtain⟨h1,d1,hy⟩:=gy;obtain⟨as,r1⟩:=hx.rd;obtain⟨bs,r2⟩:=hy.rd;dsimp only;refine V2 (λ_=>UH hR) λ_=>?_
 ·skip
  refine UE (i8 d 8 A s x as _ E hx.tr hx.dp r1 ?_);simp only[W5,US,Vu];refine UE (i8 d1 8 A s y bs _ E hy.tr hy.dp r2 ?_);simp only[W5,US,Vu];refine UE (mF d 8 A s x as _ E hx.tr hx.dp r1 ?_);simp only[US,Vu];refine UE (mF d1 8 A s y bs _ E hy.tr hy.dp r2 ?_);simp only[US,Vu];exact UH hR
theorem Ba(x:El vp w h true e d):isSame e.2 e.2=pure true:=by
 obtain⟨as,r⟩:=x.rd;have k:=x.kd;obtain⟨e1,v⟩:=e;dsimp only at r ⊢
 cases r with
 |tuple=>exact if_pos (beq_self_eq_true _)
 |_=>simp[jo]at k
noncomputable def Pp(es:Yz)(i:Nat):Int:=(es[i]?.map (·.1)).getD 0
theorem fu(ho:s.heap.get? a=some (bY es ep t))(hf:t.fits es.size=true)(h:Q (es,ep,t) s):wpAny #[14] A (setState a) Q E s:=wpAny_setState_of ho rfl hf h
noncomputable def bO(t:YM)(h:Int)(slot:Nat)(wd:Bool):Prop:=(t.slot slot=if wd=true then .dummy else .empty)/\∃n,sq t.mask h n=slot/\∀m,m<n->t.slot (sq t.mask h m)≠.empty
theorem Bb(S:gh vp w s.heap a true ds es ep t)(hx:El vp w s.heap true (h0,x) d)(hu:A.units+20<cLine)
 (hN:t.slot (sq t.mask h0 N)=.empty)(hne:∀m,m<N->t.slot (sq t.mask h0 m)≠.empty)(hNl:N<10*SetTable.turns t.mask)
 (q1:d∉ds->∀slot wd,bO t h0 slot wd->Q (.free slot wd) s)(q2:d∈ds->∀i,ds[i]?=some d->Q (.there (if adding=true then none else some i)) s) :
  ∀(fuel n:Nat) (st:Option SetTable.Probe),n<=N->N-n<fuel->pc (st.getD (t.probeStart h0))=steps t.mask n (c0 t.mask h0)->Dm t h0 n (st.getD (t.probeStart h0)).dummy ->
   (∀m,m<n->∀i,t.slot (sq t.mask h0 m)=.live i->ds[i]?≠some d)->wpAny #[14] A (setSearchFrom a x h0 adding fuel st) Q E s
 |0,n,st,h1,h2,h3,h4,h5=>by omega
 |fuel+1,n,st,h1,h2,h3,h4,h5=>by
  have T:=S.tb;have hsh:∀(i:Nat) (e:Int×Value),es[i]?=some e->Pp es i=e.1:=λi e he=>by unfold Pp;rw[he];rfl
  have hlive:∀(j i:Nat),t.slot j=.live i->∃e d',es[i]?=some e/\ds[i]?=some d'/\El vp w s.heap true e d':=λj i hl=>by
   have hp:=(oj T.rp).mp hl;have hi:i<es.size:=by rw[<- T.sz];exact(VA.mp hp).1
   obtain⟨d',h1,h2⟩:=S.get (U6 hi);exact⟨es[i],d',U6 hi,h1,h2⟩
  have hdiff:∀(m i:Nat),t.slot (sq t.mask h0 m)=.live i->Pp es i≠h0->ds[i]?≠some d:=λm i hl hh z=>by obtain⟨e,d',e1,e2,e3⟩:=hlive _ i hl;rw[e2]at z;cases z;rw[hsh i e e1,e3.hs]at hh;exact hh hx.hs.symm
  unfold setSearchFrom;refine UE (fu S.ob T.fits ?_);dsimp only;rw[T.odd];simp only[US,Vu];have hg:=uw (hashAt:=Pp es) hN hne (10*SetTable.turns t.mask) n (st.getD (t.probeStart h0)) h1 #[4] h3 h4;have hpr:∀met,SetTable.probe.go t (Pp es) h0 (10*SetTable.turns t.mask) (st.getD (t.probeStart h0))=some met->t.probe (Pp es) h0 (st.getD (t.probeStart h0))=some met:=λ_ e=>e;rcases hg with⟨dm,e1,e2,e3⟩|⟨k,i,q,e1,e2,e3,e4,e5,e6,e7,e8⟩
  ·
   have hnd:d∉ds:=λhm=>by
    obtain⟨i,hi⟩:=VX hm;obtain⟨e,he,hel⟩:=je S.el hi;rw[Vg]at he;have hil:i<t.place.size:=by rw[T.sz];exact(VA.mp he).1
    obtain⟨n',n1,n2⟩:=T.rc i e t.place[i] he (U6 hil);have hh:e.1=h0:=hel.hs.trans hx.hs.symm;rw[hh]at n1 n2;have hsl:t.slot (sq t.mask h0 n')=.live i:=(oj T.rp).mpr (by rw[n1];exact U6 hil)
    have hnN:n'<N:=by
     apply Vs;intro z;by_cases z2:n'=N
     ·rw[z2,hN]at hsl;cases hsl
     ·exact n2 N #[4] hN
    by_cases z:n'<n
    ·exact h5 n' z i hsl hi
    ·exact e3 n' #[4] hnN i hsl (by rw[hsh i e he];exact hh)
   split
   case h_2 hno=>exact absurd (hpr _ e1) (hno _)
   rename_i met hmet;have hme:=hmet.symm.trans (hpr _ e1);cases hme;dsimp only;rcases e2 with rfl|⟨m,m1,rfl,m3⟩
   ·exact UH (q1 hnd _ false ⟨by simpa using hN,N,rfl,hne⟩)
   ·dsimp only;rw[m3];have:(adding&&(SetTable.Slot.dummy != SetTable.Slot.dummy))=false:=by cases adding<;>rfl
    rw[this];simp only[US,Vu];exact UH (q1 hnd _ true ⟨by simpa using m3,m,rfl,λm' hm'=>hne m' #[4]⟩)
  ·
   split
   case h_2 hno=>exact absurd (hpr _ e1) (hno _)
   rename_i met hmet;have hme:=hmet.symm.trans (hpr _ e1);cases hme;dsimp only;obtain⟨e,d',f1,f2,f3⟩:=hlive _ i e4
   have go:wpAny #[14] A (do
     let some (_,y):=es[i]? | unsupported "internal:set-entry"
     let equal <- holding [y] (eqBool y x)
     let (es',_,t') <- setState a
     if adding&&equal then return SetFound.there none
     let some same:=t'.sameMemory t.moves t.mask|unsupported "set.changed-during-lookup:is-the-new-block-at-the-old-address"
     let still <- match (if same then t'.slot (sq t.mask h0 k)else .empty)with
      |.live i'=>match es'[i']? with
       |some (_,y')=>do pure (if <- isSame y' y then some i' else none)
       |none=>pure none
      |_=>pure none
     match still with
     |none=>rule "set.search.anew";setSearchFrom a x h0 adding fuel none
     |some i'=>if equal then return .there (some i')else setSearchFrom a x h0 adding fuel (some q)) Q E s:=by
    rw[f1];obtain⟨he,y⟩:=e;dsimp only;refine UE (U7 (QL f3 hx hu ?_));refine UE (fu S.ob T.fits ?_);dsimp only;have hsm:t.sameMemory t.moves t.mask=some true:=by unfold SetTable.sameMemory;simp
    by_cases z:d'=d
    ·subst z;have hm:d'∈ds:=UY f2;have Q2:=q2 hm i f2
     cases adding with
     |true=>simp only[decide_true,Bool.and_self,VT]at Q2 ⊢;exact UH Q2
     |false=>simp only[XS,US,Vu]at Q2 ⊢;rw[hsm];dsimp only;rw[if_pos rfl,e4];dsimp only;rw[f1];dsimp only;refine UE (WC (a:=true) (Ba f3) ?_);refine UE (UH ?_);simp only[decide_true,VT];exact UH Q2
    ·simp only[Vj z,Bool.and_false,US,Vu];rw[hsm];dsimp only;rw[if_pos rfl,e4];dsimp only;rw[f1];dsimp only;refine UE (WC (a:=true) (Ba f3) ?_);refine UE (UH ?_);simp only[VT];refine Bb S hx hu hN hne hNl q1 q2 fuel (k+1) (some q) #[4] #[4] e6 e7 λm hm i' hi'=>?_;by_cases z1:m<n
     ·exact h5 m z1 i' hi'
     ·by_cases z2:m=k
      ·subst z2;rw[e4]at hi';cases hi';rw[f2];exact λq=>z (VL q)
      ·exact hdiff m i' hi' (e8 m #[4] #[4] i' hi')
   by_cases hl:t.led=true
   ·rw[hl];simp only[W5,US,Vu];exact go
   ·have hl':t.led=false:=by simpa using hl
    rw[hl'];simp only[Bool.not_false,VT];refine UE (II hx ?_ _ λy hy=>?_)
    ·simp only[US,Vu];exact go
    ·obtain⟨e',he',rfl⟩:=U0.mp hy;have hm:e'∈es.toList:=by have:=he';simp at this;simpa using this.1
     obtain⟨i',hi'⟩:=VX hm;obtain⟨d2,_,hd2⟩:=gu S.el hi';exact⟨e'.1,d2,hd2⟩
end
theorem tE{R:α->β->Prop}:∀{xs:List α} {ys:List β} (p:Nat),Paired R xs ys->Paired R (xs.take p) (ys.take p)/\Paired R (xs.drop p) (ys.drop p)
 |_,_,0,h=>⟨.nil,by grind⟩
 |_,_,p+1,.nil=>⟨.nil,.nil⟩
 |_,_,p+1,.cons r t=>by obtain⟨a,b⟩:=tE p t;exact⟨.cons r a,by grind⟩
theorem vS{R:α->β->Prop}:∀{xs us:List α} {ys vs:List β},Paired R xs ys->Paired R us vs->Paired R (xs++us) (ys++vs)
 |_,_,_,_,.nil,h=>h
 |_,_,_,_,.cons r t,h=>.cons r (vS t h)
theorem xm{R:α->β->Prop}(p:Nat)(h:Paired R xs.toList ys)(r:R x y):Paired R (SetTable.insertAt xs p x).toList (ys.take p++y::ys.drop p):=by rw[Xr];obtain⟨a,b⟩:=tE p h;exact vS a (.cons r b)
theorem tF{R:α->β->Prop}(p:List.Perm xs xs'):∀{ys:List β},Paired R xs ys->∃ys',List.Perm ys ys'/\Paired R xs' ys':=by
 induction p with
 |nil=>exact λh=>⟨_,.refl _,h⟩
 |cons x _ ih=>
  intro ys h
  cases h with
  |cons r t=>obtain⟨ys',a,b⟩:=ih t;exact⟨_,a.cons _,.cons r b⟩
 |swap x y l=>
  intro ys h
  cases h with
  |cons r t=>
   cases t with
   |cons r' t=>exact⟨_,.swap _ _ _,.cons r' (.cons r t)⟩
 |trans _ _ ih1 ih2=>intro ys h;obtain⟨y1,a,b⟩:=ih1 h;obtain⟨y2,c,d⟩:=ih2 b;exact⟨y2,a.trans c,d⟩
theorem mz(ds:YB)(p:Nat)(d:PyData):List.Perm (ds.take p++d::ds.drop p) (d::ds):=by have:=V4 p ds;exact Xj.trans (by grind)
theorem ED{ds ds':YB}(p:List.Perm ds ds')(h:ds.Nodup):ds'.Nodup:=p.nodup_iff.mp h
section
variable {P:YL} {w:World} {A:YN} {E:Yw} {s:YO} {vp:Value->Prop}
theorem El.text(x:El vp w h false e d):∃y t,d=.str y/\e.2=.str y t/\e.1=hashStr w y:=by
 obtain⟨as,r⟩:=x.rd;have k:=x.kd;have t:=x.tr;have hs:=x.hs;obtain⟨e1,v⟩:=e
 cases r with
 |str y u=>exact⟨y,u,rfl,rfl,hs⟩
 |tuple=>trivial
 |_=>trivial
theorem El.refs(x:El vp w h true e d):∃a,e.2=.ref a:=by
 obtain⟨as,r⟩:=x.rd;have k:=x.kd;obtain⟨e1,v⟩:=e
 cases r with
 |tuple=>grind
 |_=>trivial
theorem Bc(p:Paired (El vp w h false) es ds):ElemsOf (strKind P w) es:=by intro e he;obtain⟨i,hi⟩:=VX he;obtain⟨d,_,x⟩:=gu p hi;obtain⟨y,t,e1,e2,e3⟩:=x.text;exact⟨⟨y,by rw[e2];show Value.isStrOf y (.str y t)=true;simp[Value.isStrOf],e3⟩,by rw[e2];rfl⟩
theorem IJ(p:Paired (El vp w h false) es ds)(y:Str) :
  match es.findIdx? (λe=>(strKind P w).is y e.2)with
  |some j=>ds[j]?=some (.str y)
  |none=>PyData.str y∉ds:=by
 have hk:∀{e:Int×Value} {d:PyData},El vp w h false e d->((strKind P w).is y e.2=true<->d=.str y):=λ{e d} x=>by
  obtain⟨z,t,rfl,e2,_⟩:=x.text;rw[e2];show Value.isStrOf y (.str z t)=true<->_;constructor
  ·intro q;obtain⟨u,hu⟩:=Value.isStrOf_shape q
   grind
  grind[Value.isStrOf]
 cases hr:es.findIdx? (λe=>(strKind P w).is y e.2)with
 |some j=>obtain⟨hj,hp,_⟩:=XA.mp hr;obtain⟨d,h1,h2⟩:=gu p (UN hj);show ds[j]?=_;rw[h1,(hk h2).mp hp]
 |none=>
  intro hm;obtain⟨i,hi⟩:=VX hm;obtain⟨e,h1,h2⟩:=je p hi;have:=List.findIdx?_eq_none_iff.mp hr e (UY h1)
  grind
theorem gh.scan(S:gh vp w h a false ds es ep t)(hx:x=.str y u):byScan x es=true:=
 byScan_of (knd:=strKind default w) (by rw[hx];rfl) (by rw[S.size];have:=S.ln;show _<4096;omega) (Bc S.el)
theorem OF:byScan (.ref b) es=false:=rfl
end
section
variable {P:YL} {w:World} {A:YN} {E:Yw} {s:YO} {vp:Value->Prop}
theorem Bd{α:Type}{body:α->Option Bool×Unit->Sem (ForInStep (Option Bool×Unit))}{G:α->Prop}{R:Option Bool×Unit->YO->Prop}(hb:∀y,G y->∀R':ForInStep (Option Bool×Unit)->YO->Prop,R' (.yield (none,())) s->R' (.done (some false,())) s->wpAny #[14] A (body y (none,())) R' E s) :
  ∀ys:List α,(∀y∈ys,G y)->R (none,()) s->R (some false,()) s->wpAny #[14] A (forIn ys (none,()) body) R E s
 | [],_,h,_=>UH h
 |y::ys,g,h,h'=>by
  rw[Wd];refine UE (hb y (g y (UW ..)) _ ?_ ?_)
  ·exact Bd hb ys (λz hz=>g z (UQ _ hz)) h h'
  ·exact UH h'
mutual
theorem ym:∀(d:PyData) (n:Nat) (v:Value) (as:YC) (Q:Bool->YO->Prop),aI d=true->d.depth<=n->Reads s.heap v d as->(∀b,Q b s)->wpAny #[14] A (hashByValue n v) Q E s
 |.str x,n,v,as,Q,_,_,r,h=>by
  cases r;have:hashByValue n (.str x ‹_›)=pure false:=by cases n<;>rfl
  rw[this];exact UH (h _)
 |.tuple ds,n,v,as,Q,t,hn,r,h=>by
  cases r with
  |tuple ho hc hd hi=>
   rename_i a o items k;have hT:s.TypeIs (.ref a) "tuple" := ⟨o,ho,hc⟩;simp only[aI]at t;simp only[PyData.depth]at hn;obtain⟨m,rfl⟩:∃m,n=m+1:=⟨n-1,by omega⟩;unfold hashByValue;refine UE (We hT W4.lookup ?_);dsimp only;refine UE (VI ho hd ?_);simp only[Wl];refine UE ?_;rw[<- Xy];refine Bd (G:=λy=>∃d' as',aI d'=true/\d'.depth<=m/\Reads s.heap y d' as'/\∀Q':Bool->YO->Prop,(∀b,Q' b s)->wpAny #[14] A (hashByValue m y) Q' E s) (λy ⟨d',as',g1,g2,g3,g4⟩ R' r1 r2=>?_) items.toList ?_ (UH (h _)) (UH (h _))
   ·refine UE (g4 _ λb=>?_);cases b
    ·exact UH r2
    ·exact UH r1
   ·exact vT ds m items.toList _ t #[4] hi
 |.none,_,_,_,_,t,_,_,_=>by simp[aI]at t
 |.bool _,_,_,_,_,t,_,_,_=>by simp[aI]at t
 |.int _,_,_,_,_,t,_,_,_=>by simp[aI]at t
 |.list _,_,_,_,_,t,_,_,_=>by simp[aI]at t
 |.dict _,_,_,_,_,t,_,_,_=>by simp[aI]at t
theorem vT:∀(ds:YB) (m:Nat) (vs:YD) (as:YC),bz ds=true->PyData.depthAll ds<=m->ReadsAll s.heap vs ds as->∀y∈vs,∃d' as',aI d'=true/\d'.depth<=m/\Reads s.heap y d' as'/\∀Q':Bool->YO->Prop,(∀b,Q' b s)->wpAny #[14] A (hashByValue m y) Q' E s
 | [],m,_,_,_,_,.nil,y,hy=>by simp at hy
 |d::ds,m,_,_,t,hn,.cons r1 r2,y,hy=>by
  simp only[bz,UI]at t;simp only[PyData.depthAll]at hn;rcases UO.mp hy with rfl|hy
  ·exact⟨d,_,t.1,by omega,r1,λQ' h=>ym d m _ _ Q' t.1 #[4] r1 h⟩
  ·exact vT ds m _ _ t.2 #[4] r2 y hy
end
theorem TR(x:El vp w s.heap md e d)(h:∀b,Q b s):wpAny #[14] A (hashByValue 8 e.2) Q E s:=by obtain⟨as,r⟩:=x.rd;exact ym d 8 _ as Q x.tr x.dp r h
theorem qQ(ho:h.get? a=some (bY es ep t))(sb:Heap.SameBut a h h'):∀b o vs n,h.get? b=some o->o.cls=.type "tuple" -> o.data=.seq vs n->h'.get? b=some o:=λb o vs n e c _=>by
 refine(sb.2 b λz=>?_).trans e
 grind
theorem qR(ho:s.heap.get? a=some (bY es ep t))(hz:es'.size<=1000)
 (h:∀h',h'.get? a=some (bY es' (ep+1) t')->Heap.SameBut a s.heap h'->Q () {s with heap:=h'}):wpAny #[14] A (storeSet a es' t') Q E s:=by
 refine wpAny_storeSet_of ho rfl (h _ ?_ (Xk ..)) (by grind[sizeLine_eq]);have:=V0 (Obj.putSet es' t') ho #[7];rw[putSet_of es' t' rfl]at this
 grind
structure si(vp:Value->Prop)(w:World)(h:Heap)(md:Bool)(ds:YB)(es:Yz)(t:YM):Prop where
 tb:xl es t
 ld:t.led=true\/du w=true
 nd:ds.Nodup
 ln:ds.length<=120
 el:Paired (El vp w h md) es.toList ds
theorem si.size(S:si vp w h md ds es t):es.size=ds.length:=by
 have:=U9 S.el
 grind
theorem si.keep(S:si vp w h md ds es t)(k:∀b o vs n,h.get? b=some o->o.cls=.type "tuple" -> o.data=.seq vs n->h'.get? b=some o):si vp w h' md ds es t:=
 ⟨S.tb,S.ld,S.nd,S.ln,Paired.yx S.el λ_ _ x=>El.keep x k⟩
theorem vU(S:gh vp w h a md ds es ep t)(hx:El vp w h md (h0,x) d)(hn:d∉ds)(hl:ds.length<120)(R:bO t h0 slot wd)(pl:Bool) :
  ∃ds',List.Perm ds' (d::ds)/\si vp w h md ds' (SetTable.insertAt es (t.put slot).2 (h0,x)) {(t.put slot).1 with plain:=pl}/\((!wd&&({(t.put slot).1 with plain:=pl}:YM).tooFull)=false->({(t.put slot).1 with plain:=pl}:YM).fill*5<({(t.put slot).1 with plain:=pl}:YM).mask*3):=by
 obtain⟨r1,n,r2,r3⟩:=R;have hs:∀i,t.slot slot≠.live i:=λi z=>by grind
 have hm:slot<=t.mask:=by
  rw[<- r2];unfold sq
  have bound:∀q (c:Pc),c.j+c.more<=t.mask->(steps t.mask q c).j+(steps t.mask q c).more<=t.mask:=by
   intro q
   induction q with
   |zero=>intro c hc;exact hc
   |succ q ih=>
    intro c hc;simp only[steps];refine ih _ ?_;unfold step;split
    ·show c.j+1+(c.more-1)<=t.mask;omega
    ·show(SetTable.leap t.mask c.i c.pt).1+(SetTable.runEnd t.mask (SetTable.leap t.mask c.i c.pt).1-(SetTable.leap t.mask c.i c.pt).1)<=t.mask;have:(SetTable.leap t.mask c.i c.pt).1<t.mask+1:=X8 _ #[4];unfold SetTable.runEnd;split<;>omega
  have hb:=bound n (c0 t.mask h0) (by
   show SetTable.bits h0 % (t.mask+1)+(SetTable.runEnd t.mask (SetTable.bits h0 % (t.mask+1))-SetTable.bits h0 % (t.mask+1))<=t.mask;have:SetTable.bits h0 % (t.mask+1)<t.mask+1:=X8 _ #[4];unfold SetTable.runEnd
   split<;>omega)
  omega
 obtain⟨T1,T2⟩:=K6 (x:=x) S.tb hs hm r2 r3;refine⟨_,mz ds (t.put slot).2 d,⟨T1.flags rfl rfl rfl,S.ld,?_,?_,xm _ S.el hx⟩,λhq=>?_⟩
 ·exact ED (mz ds _ d).symm (VM.mpr ⟨hn,S.nd⟩)
 ·rw[(mz ds _ d).length_eq];simp;omega
 ·cases wd with
  |true=>have:=T2 (by simpa using r1);show(t.put slot).1.fill*5<t.mask*3;rw[this];exact S.tb.tf
  |false=>simp only[Bool.not_false,Bool.true_and]at hq;unfold SetTable.tooFull at hq;simp only[decide_eq_false_iff_not]at hq;exact Nat.lt_of_not_le hq
theorem tG(S:si vp w h md ds es t)(hw:wanted<1024)(hn:es.size*5<wanted*3\/es.size<=4) :
  ∃t' order ds',t.relaid (es.map (·.1)) wanted=some (t',order)/\List.Perm ds' ds/\si vp w h md ds' (order.filterMap (es[·]?)) t'/\Tab (order.filterMap (es[·]?)) t'/\List.Perm order.toList (List.range es.size)/\t'.mask+1=SetTable.sizeAbove wanted:=by
 obtain⟨t',order,e1,e2,e3,e4,e5,e6,_⟩:=Ga hw hn;obtain⟨ds',p1,p2⟩:=tF e3.symm S.el;exact⟨t',order,ds',e1,p1.symm,⟨e2.SI,by rw[e4];exact S.ld,ED p1 S.nd,by rw[<- p1.length_eq];exact S.ln,p2⟩,e2,e5,e6⟩
theorem Be(h:n<=121):SetTable.grown n<1024/\(n*5<SetTable.grown n*3\/n<=4):=by
 grind[SetTable.grown]
theorem si.at(S:si vp w h md ds es t)(T:Tab es t)(ho:h.get? a=some (bY es ep t)):gh vp w h a md ds es ep t:=⟨ho,T,S.ld,S.nd,S.ln,S.el⟩
theorem IK(ho:s.heap.get? a=some (bY es ep t))(S:si vp w s.heap md ds es t)(hw:wanted<1024)(hn:es.size*5<wanted*3\/es.size<=4)
 (h:∀h' ds' es' ep' t',Heap.SameBut a s.heap h'->gh vp w h' a md ds' es' ep' t'->List.Perm ds' ds->t'.mask+1=SetTable.sizeAbove wanted->Q () {s with heap:=h'}):wpAny #[14] A (setRelay a wanted) Q E s:=by
 unfold setRelay;refine UE (fu ho S.tb.fits ?_);dsimp only;have hsz:=(qP wanted hw).2;have hsl:¬ SetTable.sizeAbove wanted>sizeLine:=by rw[VQ];simp only[UO,Vd,Wi]at hsz;omega
 rw[if_neg hsl];obtain⟨t',order,ds',e1,e2,e3,e4,_,e5⟩:=tG S hw hn;refine UE ?_;rw[e1];show wpAny _ _ (if((order.filterMap (es[·]?)).size != es.size)=true then _ else pure (order.filterMap (es[·]?),t')) _ _ _;have hse:(order.filterMap (es[·]?)).size=es.size:=by rw[e3.size,S.size,e2.length_eq]
 rw[if_neg (by simp[hse])];refine UH ?_;dsimp only;refine qR ho (by rw[hse,S.size];have:=S.ln;omega) λh' g1 g2=>?_;exact h h' ds' _ _ t' g2 ((e3.keep (qQ ho g2)).at e4 g1) e2 e5
end
section
variable {P:YL} {w:World} {A:YN} {E:Yw} {s:YO} {vp:Value->Prop}
theorem IL(S:gh vp w s.heap a md ds es ep t)(hx:El vp w s.heap md (h0,x) d)(hn:d∉ds)(hl:ds.length<120)(R:bO t h0 slot wd)(pl:Bool)
 (q:∀h' ds',Heap.SameBut a s.heap h'->kZ vp w h' a md ds'->List.Perm ds' (d::ds)->R' true {s with heap:=h'}) :
  wpAny #[14] A (do
   storeSet a (SetTable.insertAt es (t.put slot).2 (h0,x)) {(t.put slot).1 with plain:=pl}
   if(!wd&&({(t.put slot).1 with plain:=pl}:YM).tooFull)=true then do
    setRelay a (SetTable.grown (es.size+1))
    pure true
   else pure true) R' E s:=by
 obtain⟨ds',p1,H,p3⟩:=vU S hx hn hl R pl;have hsz:(SetTable.insertAt es (t.put slot).2 (h0,x)).size=es.size+1:=jd;have hes:=S.size;refine UE (qR S.ob #[4] λh' g1 g2=>?_);have H':=H.keep (qQ S.ob g2);by_cases hf:(!wd&&({(t.put slot).1 with plain:=pl}:YM).tooFull)=true
 ·rw[if_pos hf];obtain⟨k1,k2⟩:=Be (n:=es.size+1) #[4];refine UE (IK g1 H' k1 (by simp_all) λh2 ds2 es2 ep2 t2 f1 f2 f3 _=>UH ?_);exact q h2 ds2 (g2.trans f1) ⟨_,_,_,f2⟩ (f3.trans p1)
 ·rw[if_neg hf];exact UH (q h' ds' g2 ⟨_,_,_,H'.at (H'.tb.tab (p3 (by grind))) g1⟩ p1)
theorem Gb(T:Tab es t)(h0:Int):∃slot wd,t.freeSlot h0=some (slot,wd)/\bO t h0 slot wd:=by
 obtain⟨N,n1,n2,n3⟩:=T.free h0;have hg:=uw (hashAt:=λ_=>h0+1) n2 n3 (10*SetTable.turns t.mask) 0 (t.probeStart h0) #[4] (by grind[SetTable.turns]) rfl (.inl rfl);rcases hg with⟨dm,e1,e2,_⟩|⟨k,i,q,_,_,_,_,e5,_⟩
 ·have hp:t.probe (λ_=>h0+1) h0 (t.probeStart h0)=some (.empty (sq t.mask h0 N) dm):=e1;unfold SetTable.freeSlot;rw[hp];rcases e2 with rfl|⟨m,m1,rfl,m3⟩
  ·exact⟨_,_,rfl,by grind,N,rfl,n3⟩
  ·exact⟨_,_,rfl,by grind,m,rfl,λm' hm'=>n3 m' #[4]⟩
 ·omega
theorem Bf(S:si vp w h md ds es t)(hw:wanted<1024)(hn:es.size*5<wanted*3\/es.size<=4) :
  ∃es' t' ds',relayAll t es wanted=(es',t',false)/\List.Perm ds' ds/\si vp w h md ds' es' t'/\Tab es' t'/\es'.size=es.size:=by
 obtain⟨t',order,ds',e1,e2,e3,e4,e5,_⟩:=tG S hw hn;have hse:(order.filterMap (es[·]?)).size=es.size:=by rw[e3.size,S.size,e2.length_eq]
 refine⟨_,_,ds',?_,e2,e3,e4,hse⟩;unfold relayAll;rw[e1];dsimp only;rw[if_pos];simp;exact⟨List.isPerm_iff.mpr e5,e4.fits⟩
theorem OG(S:kZ vp w s.heap a md ds)(hx:El vp w s.heap md (h0,x) d)(hu:A.units+20<cLine)(hl:ds.length<120)
 (q1:d∈ds->Q false s)(q2:d∉ds->∀h' ds',Heap.SameBut a s.heap h'->kZ vp w h' a md ds'->List.Perm ds' (d::ds)->Q true {s with heap:=h'}) :
  wpAny #[14] A (setAddHashed a x h0) Q E s:=by
 obtain⟨es,ep,t,S⟩:=S;unfold setAddHashed setAddHashedIn;refine U7 (UE (fu S.ob S.tb.fits ?_));dsimp only
 cases md with
 |true=>
  obtain⟨b,hb⟩:=hx.refs;dsimp only at hb;subst hb;rw[OF];simp only[US,Vu];obtain⟨N,n1,n2,n3⟩:=S.tb.free h0;have hle:=S.tb.le;unfold setSearch;refine UE (Bb (N:=N) (adding:=true) S hx hu n2 n3 (by unfold SetTable.turns;omega) (λhn slot wd R=>?_) (λhm i hi=>?_) 100000 0 none #[4] #[4] rfl (.inl rfl) λm hm=>by omega)
  ·dsimp only;refine UE (fu S.ob S.tb.fits ?_);dsimp only
   have fin:∀pl,wpAny #[14] A (do
     storeSet a (SetTable.insertAt es (t.put slot).2 (h0,.ref b)) {(t.put slot).1 with plain:=pl}
     if(!wd&&({(t.put slot).1 with plain:=pl}:YM).tooFull)=true then do
      setRelay a (SetTable.grown (es.size+1))
      pure true
     else pure true) Q E s:=λpl=>IL S hx hn hl R pl (q2 hn)
   refine V2 (λ_=>UE (TR hx λbv=>?_)) λ_=>UE (UH (fin (t.put slot).1.plain))
   cases bv with
   |true=>exact fin (t.put slot).1.plain
   |false=>exact fin false
  ·simp only[VT];exact UH (q1 hm)
 |false=>
  obtain⟨y,u,rfl,e2,e3⟩:=hx.text;dsimp only at e2 e3;rw[S.scan e2];simp only[VT];unfold setAddByScan;refine UE ?_;refine UE (V5 ?_);have hk:(strKind P w).is y x=true:=by rw[e2];show Value.isStrOf y (.str y u)=true;simp[Value.isStrOf]
  have ti:=IJ (P:=P) S.el y;rw[show h0=(strKind P w).hash y from e3];refine UE (wpAny_setScan_of (knd:=strKind P w) hk S.ob rfl S.tb.fits (Bc S.el) ?_);rw[<- show h0=(strKind P w).hash y from e3]
  cases hr:es.toList.findIdx? (λe=>(strKind P w).is y e.2)with
  |some j=>rw[hr]at ti;dsimp only at ti ⊢;exact UH (UH (q1 (UY ti)))
  |none=>
   rw[hr]at ti;dsimp only at ti ⊢;obtain⟨slot,wd,f1,R⟩:=Gb S.tb h0;obtain⟨ds1,_,H1,_⟩:=vU S hx ti hl R (t.put slot).1.plain;have hfit:(t.put slot).1.fits (SetTable.insertAt es (t.put slot).2 (h0,x)).size=true:=H1.tb.fits;have hlay:layNew t es h0 x=(SetTable.insertAt es (t.put slot).2 (h0,x),(t.put slot).1,wd,false):=by unfold layNew;rw[f1];dsimp only;unfold SetTable.orStandIn;rw[if_pos hfit,hfit];rfl
   rw[hlay];dsimp only;refine UE (UH ?_);have hsz:(SetTable.insertAt es (t.put slot).2 (h0,x)).size=es.size+1:=jd;have hle:=S.ln;have hes:=S.size
   have fin:∀pl,wpAny #[14] A (do
     storeSet a (SetTable.insertAt es (t.put slot).2 (h0,x)) {(t.put slot).1 with plain:=pl}
     if(!wd&&({(t.put slot).1 with plain:=pl}:YM).tooFull)=true then do
      (match (relayAll {(t.put slot).1 with plain:=pl} (SetTable.insertAt es (t.put slot).2 (h0,x)) (SetTable.grown (SetTable.insertAt es (t.put slot).2 (h0,x)).size)).2.2 with|true=>rule "set.scan.the-table-gave-way" |false=>pure ())
      storeSet a (relayAll {(t.put slot).1 with plain:=pl} (SetTable.insertAt es (t.put slot).2 (h0,x)) (SetTable.grown (SetTable.insertAt es (t.put slot).2 (h0,x)).size)).1 (relayAll {(t.put slot).1 with plain:=pl} (SetTable.insertAt es (t.put slot).2 (h0,x)) (SetTable.grown (SetTable.insertAt es (t.put slot).2 (h0,x)).size)).2.1
      pure (some true)
     else pure (some true)) (λr s'=>wpAny #[14] A (match r with|some added=>pure added|none=>setAddHashedIn a x h0 99999) Q E s') E s:=λpl=>by
    obtain⟨ds',p1,H,p3⟩:=vU S hx ti hl R pl;refine UE (qR S.ob (by rw[hsz];omega) λh' g1 g2=>?_);have H':=H.keep (qQ S.ob g2);by_cases hf:(!wd&&({(t.put slot).1 with plain:=pl}:YM).tooFull)=true
    ·rw[if_pos hf];obtain⟨k1,k2⟩:=Be (n:=es.size+1) #[4];obtain⟨es2,t2,ds2,m1,m2,m3,m4,m5⟩:=Bf (wanted:=SetTable.grown (SetTable.insertAt es (t.put slot).2 (h0,x)).size) H' (by rw[hsz];exact k1) (by rw[hsz];exact k2);rw[m1];dsimp only;refine UE (UH ?_);refine UE (qR (s:={s with heap:=h'}) g1 (by rw[m5,hsz];omega) λh2 g3 g4=>UH (UH ?_));exact q2 ti h2 ds2 (g2.trans g4) ⟨_,_,_,(m3.keep (qQ g1 g4)).at m4 g3⟩ (m2.trans p1)
    ·rw[if_neg hf];exact UH (UH (q2 ti h' ds' g2 ⟨_,_,_,H'.at (H'.tb.tab (p3 (by simpa using hf))) g1⟩ p1))
   refine V2 (λ_=>UE (TR hx λbv=>?_)) λ_=>UE (UH (fin (t.put slot).1.plain))
   cases bv with
   |true=>exact fin (t.put slot).1.plain
   |false=>exact fin false
end
theorem fW{α:Type}{l:List α}(h:i<l.length):List.Perm (l[i]::l.eraseIdx i) l:=by
 rw[XQ];have e:=V4 i l;rw[VE h]at e
 conv=>rhs;rw[<- e]
 exact Xj.symm
theorem EE(next:Nat->Nat):∀(fuel k:Nat) (left:List α) (out:Array α),fuel=left.length->List.Perm (pickOrder.go next fuel k left out).toList (out.toList++left)
 |0,k,left,out,h=>by
  have  := WG.mp h.symm
  simp_all[pickOrder.go]
 |fuel+1,k,left,out,h=>by
  have hpos:0<left.length:=by omega
  have hlt:next k % left.length<left.length:=X8 _ hpos;simp[pickOrder.go];rw[UN hlt];refine(EE next fuel _ _ _ (by grind)).trans ?_;rw[Array.toList_push,Ym,List.singleton_append];refine List.Perm.append_left _ ?_;exact fW hlt
theorem Gd(next:Nat->Nat)(xs:Array α):List.Perm (pickOrder next xs).toList xs.toList:=by unfold pickOrder;simpa using EE next xs.size 0 xs.toList #[] #[6]
section
variable {P:YL} {w:World} {A:YN} {E:Yw} {s:YO} {vp:Value->Prop}
theorem zp(hn:n≠0)(h:∀i,i<n->Q i {s with drawn:=s.drawn.bump src}):wpAny #[14] A (choose src n) Q E s:=λΓ p hΓ=>⟨hn,h _ (X8 _ (Nat.pos_of_ne_zero hn))⟩
theorem EF:∀(n:Nat) (xs:List α) (s:YO) (Q:List α->YO->Prop),n=xs.length->(∀L dr,List.Perm L xs->Q L {s with drawn:=dr})->wpAny #[14] A (drawOrder n xs) Q E s
 |0,xs,s,Q,h,q=>by have  := WG.mp h.symm;subst this;exact UH (q [] s.drawn (.refl _))
 |n+1,[],s,Q,h,q=>by grind
 |n+1,x::xs,s,Q,h,q=>by unfold drawOrder;refine UE (zp #[6] λi hi=>?_);rw[UN hi];refine UE (EF n _ _ _ (by grind) λL dr p=>UH ?_);exact q _ dr ((p.cons _).trans (fW hi))
theorem oq(h:Q (du w) s):wpAny #[14] A setsByText Q E s:=UE (wpAny_askSetting (UH h))
end
section
variable {P:YL} {w:World} {A:YN} {E:Yw} {s:YO} {vp:Value->Prop}
theorem gh.keep(S:gh vp w h a md ds es ep t)(k:∀b o,h.get? b=some o->h'.get? b=some o):gh vp w h' a md ds es ep t:=
 ⟨k _ _ S.ob,S.tb,S.ld,S.nd,S.ln,Paired.yx S.el λ_ _ x=>El.keep x λb o _ _ e _ _=>k b o e⟩
end
section
variable {P:YL} {w:World} {A:YN} {E:Yw} {s:YO} {vp:Value->Prop}
theorem IM(ho:h.get? a=some (bY #[] 0 (.fresh 0 0 led)))(hl:led=true\/du w=true):kZ vp w h a md []:=
 ⟨#[],0,_,ho,⟨List.Pairwise.nil,List.Pairwise.nil,rfl,(by decide:(0:Nat)*5<7*3),λj hj=>by trivial,λj hj=>by trivial,λj hj=>by trivial,Mm.1,λi e j h1=>by simp at h1⟩,hl,List.nodup_nil,by simp,.nil⟩
end
theorem sub_tuple_set:isSubtype (.type "tuple") (.type "set")=pure false:=by rfl
theorem sub_tuple_frozenset:isSubtype (.type "tuple") (.type "frozenset")=pure false:=by rfl
noncomputable def OH(md:Bool)(d:PyData):Prop:=aI d=true/\d.depth<=8/\fz d=true/\jo d=md
section
variable {P:YL} {w:World} {A:YN} {E:Yw} {s:YO} {vp:Value->Prop}
theorem IP{R:Result->YO->Prop}{St:Nat->Heap->Prop}{ys:YB}(W:Walks P w A.in1 I fp wr n Pv St)(S:Addr)(hSf:S∉fp)(hn:n=ys.length)(hl:n<=120)(hu:A.in1.units+20<cLine)
 (hv:∀i v,Pv i v->∃y,ys[i]?=some y/\OH md y/\vp v/\∃as,Reads h0 v y as)(hw:∀b o,h0.get? b=some o->b∉wr)(hS0:h0.get? S=none)(hit:∀i h,St i h->∀b∈wr,∀o,h.get? b=some o->o.cls≠.type "tuple") :
  ∀(k i:Nat) (s:YO) (ds:YB),n-i=k->i<=n->St i s.heap->kZ vp w s.heap S md ds->(∀d,d∈ds<->d∈ys.take i)->ds.length<=i->(∀b o,h0.get? b=some o->s.heap.get? b=some o) ->
   (∀h' tk ds',kZ vp w h' S md ds'->(∀d,d∈ds'<->d∈ys)->(∀b o,h0.get? b=some o->h'.get? b=some o)->R (.ok (.ret .none)) {s with heap:=h',toks:=tk}) ->
   codeAny #[14] A (.builtin "set.update.loop" ⟨[.ref S,.ref I],[]⟩) R s:=by
 have hSw:S∉wr:=λh=>hSf (W.sub _ h);intro k
 induction k with
 |zero=>
  intro i s ds hk hi hst hS hm hd h0k hR;have hin:i=n:=by omega
  subst hin;refine V1 Xf ?_;rw[Wu VN _];show wpAny _ A.in1 (pyNext (.ref I) >>= _) _ _ s;refine UE (W.done s _ _ hst λh' tk kp=>?_);show wpAny _ A.in1 (ret Value.none) _ _ _;obtain⟨es,ep,t,S'⟩:=hS;have kt:∀b o vs n,s.heap.get? b=some o->o.cls=.type "tuple" -> o.data=.seq vs n->h'.get? b=some o:=λb o vs n e c _=>kp b o (λz=>hit _ _ hst b z o e c) e;exact UH (hR h' tk ds ⟨es,ep,t,kp _ _ hSw S'.ob,S'.tb,S'.ld,S'.nd,S'.ln,Paired.yx S'.el λ_ _ x=>El.keep x kt⟩ (λd=>by rw[hm,hn,Yu]) λb o e=>kp b o (hw b o e) (h0k b o e))
 |succ k ih=>
  intro i s ds hk hi hst hS hm hd h0k hR;have hlt:i<n:=by omega
  refine V1 Xf ?_;rw[Wu VN _];show wpAny _ A.in1 (pyNext (.ref I) >>= _) _ _ s;refine UE (W.item i s _ _ hlt hst λv h1 tk1 hP hst' kp=>?_);obtain⟨y,hy,⟨y1,y2,y3,y4⟩,vy,as,ry⟩:=hv i v hP;obtain⟨es,ep,t,S'⟩:=hS;have kt:∀b o vs n,s.heap.get? b=some o->o.cls=.type "tuple" -> o.data=.seq vs n->h1.get? b=some o:=λb o vs n e c _=>kp b o (λz=>hit _ _ hst b z o e c) e;have h0k1:∀b o,h0.get? b=some o->h1.get? b=some o:=λb o e=>kp b o (hw b o e) (h0k b o e);have S1:kZ vp w h1 S md ds:=⟨es,ep,t,kp _ _ hSw S'.ob,S'.tb,S'.ld,S'.nd,S'.ln,Paired.yx S'.el λ_ _ x=>El.keep x kt⟩;have r1:Reads h1 v y as:=jP (λb o vs n e _ _=>h0k1 b o e) y1 ry;have ey:El vp w h1 md (sU w y,v) y:=⟨y1,y2,y3,rfl,y4,⟨as,r1⟩,vy⟩;show wpAny _ A.in1 (holding [v] (setAdd S v) >>= _) _ _ _;refine UE (U7 ?_);unfold setAdd;refine U7 ?_;refine UE (pC y A.in1 {s with heap:=h1,toks:=tk1} v as _ _ y1 r1 #[4] ?_);have htk:ys.take (i+1)=ys.take i++[y]:=by rw[List.take_add_one,hy];rfl
  refine OG (s:={s with heap:=h1,toks:=tk1+pB y}) S1 ey hu #[4] (λhmem=>?_) λhnm h2 ds2 sb S2 p2=>?_
  ·refine UH ⟨X6 VN _,ih (i+1) _ ds #[4] hlt hst' S1 (λd=>?_) #[4] h0k1 λh' tk ds' a b c=>hR h' tk ds' a b c⟩;rw[htk,U1,<- hm];constructor
   ·exact .inl
   ·rintro(z|z)
    ·exact z
    ·rw[Vk.mp z];exact hmem
  ·obtain⟨es1,ep1,t1,S1'⟩:=S1;refine UH ⟨X6 VN _,ih (i+1) {s with heap:=h2,toks:=tk1+pB y} ds2 #[4] hlt (W.frame _ _ _ hst' λb hb o e=>(sb.2 b λz=>hSf (z▸hb)).trans e) S2 (λd=>?_) (by rw[p2.length_eq];simp;omega) (λb o e=>(sb.2 b λz=>?_).trans (h0k1 b o e)) λh' tk ds' a b c=>hR h' tk ds' a b c⟩
   ·rw[p2.mem_iff,htk,U1,<- hm,UO,Vk];exact Or.comm
   ·rw[z,hS0]at e;cases e
theorem vV(a:Value)(h:Q₁ (.ref #[10]) {s with heap:=s.heap.push (bY #[] 0 (.fresh 0 0 (!du w)))}) :
  codeAny #[14] A (.call (.builtin "set.__new__") ⟨[.type "set",a],[]⟩) (wants Q₁ E) s:=by
 refine codeAny_of_tree ?_;show wpAny _ A.in1 (do checkBuiltinCall "set.__new__" ⟨[.type "set",a],[]⟩;again (.builtin "set.__new__" ⟨[.type "set",a],[]⟩)) _ _ s;refine UE (WC (F.newCall_set_1 a) (UH ⟨X6 F.plain_set_new _,V1 F.entry_set_new ?_⟩));rw[Wu F.plain_set_new _];unfold Builtin.«set.__new__» Builtin.Frozenset.newClass;have hsub:=sub_set_self;obtain⟨hp,g,d,tk,os⟩:=s;dsimp only
 wp_walk
 refine wpAny_askSetting (UH ?_);dsimp only;simp only[newObj];refine UE (wpAny_alloc (UH ?_));exact UH h
structure Src(P:YL)(w:World)(T:String)(l:Addr)(items:YJ)(OK:Heap->Prop):Prop where
 ob:∀h,OK h->∃od n sl,h.get? l=some {cls:=.type T,dict:=od,data:=.seq items n,slots:=sl}
 kp:∀h h',OK h->(∀o,h.get? l=some o->h'.get? l=some o)->OK h'
 s1:isSubtype (.type T) (.type "set")=pure false
 s2:isSubtype (.type T) (.type "frozenset")=pure false
 nd:(Value.type T==Value.type "dict")=false
 it:∀(A:YN) (E:Yw) (s:YO),A.handled=none->OK s.heap->∃(oI:Obj) (St:Nat->Heap->Prop),oI.cls≠.type "tuple" /\
  (∀Q:Yw,Q (.ref #[10]) {s with heap:=s.heap.push oI}->wpAny #[14] A (pyIter (.ref l)) Q E s) /\
  (∀A':YN,A'.handled=none->Walks P w A' #[10] [#[10],l] [#[10]] items.size (λi v=>items[i]?=some v) St)/\St 0 (s.heap.push oI)/\(∀i h,St i h->∀o,h.get? #[10]=some o->o.cls≠.type "tuple")
theorem src_list(l:Addr)(items:YJ):Src P w "list" l items (λh=>h.IsList l items) where
 ob:=by rintro h ⟨⟨c,d,da,sl⟩,ho,hc,n,hd⟩;exact⟨d,n,sl,by grind⟩
 kp:=λh h' x k=>x.at k
 s1:=F.sub_list_set
 s2:=F.sub_list_frozenset
 nd:=by decide
 it:=λA E s hh hl=>by
  have hlS:l<#[10]:=by obtain⟨_,e,_⟩:=hl;exact UL e
  exact⟨{cls:=.type "list_iterator",data:=.fields #[.ref l,.int 0 0]},_,λz=>absurd (Value.type.inj z) #[5],λQ q=>W0 hl q,λA' h'=>Walks.list h' _ l (UR hlS) items,⟨⟨_,UK _ rfl,rfl,rfl⟩,hl.push _⟩,by
   rintro i h ⟨⟨o',e,c,_⟩,_⟩ o eo
   grind⟩
theorem src_tuple(l:Addr)(items:YJ):Src P w "tuple" l items (λh=>h.IsTuple l items) where
 ob:=by rintro h ⟨⟨c,d,da,sl⟩,ho,hc,n,hd⟩;exact⟨d,n,sl,by grind⟩
 kp:=by rintro h h' ⟨o,e,r⟩ k;exact⟨o,k _ e,r⟩
 s1:=sub_tuple_set
 s2:=sub_tuple_frozenset
 nd:=by decide
 it:=λA E s hh hl=>by
  have hlS:l<#[10]:=by obtain⟨_,e,_⟩:=hl;exact UL e
  exact⟨{cls:=.type "tuple_iterator",data:=.fields #[.ref l,.int 0 0]},_,λz=>absurd (Value.type.inj z) #[5],λQ q=>Xs hl q,λA' h'=>Walks.tuple h' _ l (UR hlS) items,⟨⟨_,UK _ rfl,rfl,rfl⟩,hl.push _⟩,by
   rintro i h ⟨⟨o',e,c,_⟩,_⟩ o eo
   grind⟩
end
section
variable {P:YL} {w:World} {A:YN} {E:Yw} {s:YO} {vp:Value->Prop}
theorem readsAll_get:∀{vs:YD} {ds:YB} {as:YC},ReadsAll h vs ds as->∀{i:Nat} {v:Value},vs[i]?=some v->∃d bs,ds[i]?=some d/\Reads h v d bs
 |_,_,_,.nil,i,v,e=>by simp at e
 |_,_,_,.cons r _,0,v,e=>by grind
 |_,_,_,.cons _ t,i+1,v,e=>by simpa using readsAll_get t (by simp_all)
set_option maxHeartbeats 3200000 in
theorem IQ{T:String}{l:Addr}{items:YJ}{OK:Heap->Prop}{md:Bool}{ys:YB}{as:YC}{Q:Yw}(K:Src P w T l items OK)(hh:A.handled=none)(hl:OK s.heap)(hr:ReadsAll s.heap items.toList ys as)(he:∀y∈ys,OH md y)(hvp:∀v∈items.toList,vp v)(hn:ys.length<=120)(hu:A.units+25<cLine)
 (h:∀h' tk ds,kZ vp w h' #[10] md ds->(∀d,d∈ds<->d∈ys)->(∀b o,s.heap.get? b=some o->h'.get? b=some o)->Q (.ref #[10]) {s with heap:=h',toks:=tk}) :
  wpAny #[14] A (call (.type "set") [.ref l]) Q E s:=by
 have hr0:=hr;have hlen:items.size=ys.length:=by have:=readsAll_len hr;simpa using this
 obtain⟨c,tl,hmro⟩:=WY.mro;have hmade:=WY.made;have hsub:=WY.sub;refine X7 (codeAny_of_tree ?_);show wpAny _ _ (callAny (.type "set") _) _ _ _;refine UH ⟨Code.quiet_builtin _ #[9],V1 F.entry_type_call ?_⟩;rw[Around.under_plain (weight_type_call_type "set" [.ref l] []) rfl];have h1:=WY.notType;have h2:=WY.canCreate;have hct:=F.typeCall_set_1 (.ref l)
 repeat (any_goals (first|assumption|wp_step))
 refine WT (vV (.ref l) (E:=E) (Q₁:=λobj s₁=>obj=.ref #[10]/\s₁={s with heap:=s.heap.push (bY #[] 0 (.fresh 0 0 (!du w)))}) ⟨rfl,rfl⟩) λr s₁ hr=>?_
 cases r with
 |error e=>exact hr
 |ok fl=>
  cases fl with
  |ret obj=>
   obtain⟨rfl,rfl⟩:=hr;have hS:(s.heap.push (bY #[] 0 (.fresh 0 0 (!du w)))).get? #[10]=some (bY #[] 0 (.fresh 0 0 (!du w))):=UK _ rfl;have hT:Shared.TypeIs {s with heap:=s.heap.push (bY #[] 0 (.fresh 0 0 (!du w)))} (.ref #[10]) "set" := ⟨_,hS,rfl⟩;have hli:=WY.init.lookup;have hbi:=WY.init.bind (.ref #[10])
   repeat (any_goals (first|assumption|wp_step))
   refine WT (X5 (R:=wants (λr s₂=>r=.none/\∃h' tk ds,s₂={s with heap:=h',toks:=tk}/\kZ vp w h' #[10] md ds/\(∀d,d∈ds<->d∈ys)/\(∀b o,s.heap.get? b=some o->h'.get? b=some o)) E) WY.init.plain F.entry_set_init (check_set_init_1 hT ?_)) λr₂ s₂ hr₂=>?_
   ·obtain⟨odict,nl,oslots,hol⟩:=K.ob _ hl;have hol':(s.heap.push (bY #[] 0 (.fresh 0 0 (!du w)))).get? l=some {cls:=.type T,dict:=odict,data:=.seq items nl,slots:=oslots}:=UG _ hol;have hsls:=K.s1;have hslf:=K.s2;have hne:=K.nd;have hl1:OK (s.heap.push (bY #[] 0 (.fresh 0 0 (!du w)))):=K.kp _ _ hl λo e=>UG _ e;have hh3:A.in1.in1.in1.handled=none:=by simp[hh]
    obtain⟨oI,St,i1,i2,i3,i4,i5⟩:=K.it A.in1.in1 (λe s'=>wants (λr s₂=>r=.none/\∃h' tk ds,s₂={s with heap:=h',toks:=tk}/\kZ vp w h' #[10] md ds/\(∀d,d∈ds<->d∈ys)/\(∀b o,s.heap.get? b=some o->h'.get? b=some o)) E (.error e) s') {s with heap:=s.heap.push (bY #[] 0 (.fresh 0 0 (!du w)))} (by simp[hh]) hl1;unfold Builtin.«set.__init__» noKeywords Builtin.Frozenset.updateFrom;generalize hPI:pyIter=PI
    wp_walk
    subst hPI;refine i2 _ ?_;refine UE (wpAny_runValue ?_);have hlS:l<#[10]:=UL hol;have hsz:(s.heap.push (bY #[] 0 (.fresh 0 0 (!du w)))).objs.size=#[10]+1:=VH _ _;have hSf:#[10]∉[(s.heap.push (bY #[] 0 (.fresh 0 0 (!du w)))).objs.size,l]:=by rw[hsz];simp only[UO,Vk,Vd,Wi,not_or];exact⟨UR (Wm _),Xn hlS⟩
    have hS0:s.heap.get? #[10]=none:=by
     cases e:s.heap.get? #[10] with
     |none=>rfl
     |some o=>exact absurd (UL e) (Va _)
    refine IP (vp:=vp) (A:=A.in1.in1) (h0:=s.heap) (ys:=ys) (md:=md) (i3 A.in1.in1.in1 hh3) #[10] hSf hlen #[4] (by show A.units+1+1+1+20<cLine;omega) (λi v hv=>?_) (λb o e hb=>?_) hS0 (λi h st b hb o e=>?_) (items.size-0) 0 _ [] rfl (WD _) i4 (IM (UG _ hS) ?_) (λd=>by simp) (WD _) (λb o e=>UG _ (UG _ e)) λh' tk ds g1 g2 g3=>?_
    ·obtain⟨d,bs,e1,e2⟩:=readsAll_get hr0 (i:=i) (by rw[Vg];exact hv);exact⟨d,e1,he d (UY e1),hvp v (UY (by rw[Vg];exact hv)),bs,e2⟩
    ·have:=UL e;rw[Vk.mp hb]at this;have e2:(s.heap.push (bY #[] 0 (.fresh 0 0 (!du w)))).objs.size<#[10]:=this;rw[hsz]at e2;exact absurd e2 (Nat.not_lt.mpr (V7 _))
    ·exact i5 i h st o (by rw[Vk.mp hb]at e;exact e)
    ·cases du w
     ·exact .inl rfl
     ·exact .inr rfl
    ·refine UH ?_;show wpAny _ _ (ret Value.none) _ _ _;exact UH ⟨rfl,h',tk,ds,rfl,g1,g2,g3⟩
   ·cases r₂ with
    |error e=>exact hr₂
    |ok fl₂=>
     cases fl₂ with
     |ret r=>
      obtain⟨rfl,h',tk,ds,rfl,hS',hm',hk'⟩:=hr₂
      repeat (any_goals (first|assumption|wp_step))
      exact h _ _ _ hS' hm' hk'
     |_=>exact hr₂.elim
  |_=>exact hr.elim
end
noncomputable abbrev jU(v:Value)(i:Nat)(o:Value)(n ep:Nat):Obj:={cls:=.type "set_iterator",dict:=none,data:=.fields #[v,.int i 0,o,.int n 0,.int ep 0],slots:=#[]}
theorem vW:entryFor table "set.__iter__" = some Builtin.«frozenset.__iter__» := entryFor_alias (id' := "frozenset.__iter__") #[8] rfl #[9] #[8]
theorem gF:entryFor table "set_iterator.__next__" = some Builtin.«set_iterator.__next__» := entryFor_of_tree #[7]
theorem bZ:Slot "set_iterator" "__next__" "set_iterator.__next__" :=
 .of #[7] #[7] #[7] #[7]
  (by trivial) #[7]
theorem Bg:Manifest.owners.lookup (String.ofList ['r', 'o', 't', 'a', 'r', 'e', 't', 'i', '_', 't', 'e', 's'].reverse)=some Manifest.sig_set_iterator:=by rfl
theorem ib(a:Value):argsOk "set_iterator.__next__" ⟨[a],[]⟩:=by unfold argsOk;rw[signature?_of (id := "set_iterator.__next__") (n:=['_', '_', 't', 'x', 'e', 'n', '_', '_']) (o:=['r', 'o', 't', 'a', 'r', 'e', 't', 'i', '_', 't', 'e', 's']) #[7] Bg];rfl
section
variable {P:YL} {w:World} {A:YN} {E:Yw} {s:YO} {vp:Value->Prop}
theorem sj(hit:s.heap.get? I=some (jU v i o n ep))(hk:k<5)
 (q:∀h',h'.get? I=some {cls:=.type "set_iterator",dict:=none,data:=.fields ((#[v,.int i 0,o,.int n 0,.int ep 0]:YJ).setIfInBounds k x),slots:=#[]}->Heap.SameBut I s.heap h'->Q () {s with heap:=h'}):wpAny #[14] A (setField (.ref I) k x) Q E s:=by
 refine wpAny_setField hit rfl #[4] (q _ ?_ (Xk ..));have:=V0 (Obj.mapFields (·.setIfInBounds k x)) hit (Obj.isFreed_of_fields (Obj.data_mapFields rfl _));rw[this];rfl
theorem fX(hit:s.heap.get? I=some (jU v i o n ep)):s.TypeIs (.ref I) "set_iterator" := ⟨_,hit,rfl⟩
theorem EG{B:Builtin->Prop}(hh:A.handled=none)(hQ:∀h',Heap.ExtBut I h0 h'->Q none {s with heap:=h'})(he:Heap.ExtBut I h0 s.heap) :
  wpAny #[14] A.in1 (newExc (.type "StopIteration") [] >>= λe=>(raiseNew e:Sem PySem.Fin)) (λfin s'=>∃r,fin=.done (.ret r)/\wpAny #[14] A (pure (some r)) Q E s') (λe s'=>wpAny #[14] A (do if <- isInstance e (.type "StopIteration")then pure none else throw e) Q E s') s:=by
 refine UE ?_;simp only[newExc,newTuple];refine UE (Vw ?_ (by size_fits));refine UE (m:=firstArgMember _ _) (WC (a:=Value.none) (by first|rfl | (simp only[firstArgMember];rfl)) ?_);refine Vw ?_ (by size_fits);simp only[raiseNew];refine UE (wpAny_handled ?_);rw[show A.in1.handled=none from hh];refine UE (UH (wpAny_throw ?_));refine UE (X1 (T := "StopIteration") (b:=true) ⟨_,UK _ rfl,rfl⟩ isSubtype_stop ?_);exact UH (hQ _ ((he.push _).push _))
end
section
variable {P:YL} {w:World} {A:YN} {E:Yw} {s:YO} {vp:Value->Prop}
variable {I a T:Addr} {i n ep sl:Nat} {es:Yz} {t:YM}
theorem ux{Q:PySem.Fin->YO->Prop}{E':Yw}(hit:s.heap.get? I=some (jU v i (.ref a) n ep))(ob:s.heap.get? a=some (bY es ep t))(ft:t.fits es.size=true)(hn:es.size=n)
 (q:wpAny #[14] A (match v with
   |.int slot _=>do
    match <- setNext a slot.toNat i ep with
    |some (x,next)=>
     setField (.ref I) 0 (rawInt next)
     setField (.ref I) 1 (rawInt ((i:Int)+1))
     ret x
    |none=>setField (.ref I) 2 .none;raiseNew (<- newExc (.type "StopIteration") [])
   |first=>do
    let some places <- seqItems? first|unsupported "internal:set_iterator"
    match places[i]? with
    |some (.int place _)=>
     let x <- setNextDrawn a place.toNat ep
     setField (.ref I) 1 (rawInt ((i:Int)+1))
     ret x
    |some _=>unsupported "internal:set_iterator"
    |none=>setField (.ref I) 0 (rawInt 0);setField (.ref I) 2 .none;raiseNew (<- newExc (.type "StopIteration") [])) Q E' s) :
  wpAny #[14] A (Builtin.«set_iterator.__next__» ⟨[.ref I],[]⟩) Q E' s:=by
 unfold Builtin.«set_iterator.__next__»;refine UE (WC (a:=(Value.ref I,[])) rfl ?_);dsimp only;refine UE (wpAny_fieldsOf hit rfl ?_);dsimp only;refine UE (wpAny_setEntries_of ob rfl ft ?_);rw[if_neg (by simp[hn])];simp only[VZ];cases v<;>exact q
theorem Bh(hit:s.heap.get? I=some (jU (.int sl 0) i (.ref a) n ep))(ob:s.heap.get? a=some (bY es ep t))(ft:t.fits es.size=true)(hn:es.size=n)
 (hs:∀(A':YN) (Q':Option (Value×Nat)->YO->Prop) (E':Yw),Q' (some (x,nx)) s->wpAny #[14] A' (setNext a sl i ep) Q' E' s)
 (q:∀h',h'.get? I=some (jU (.int nx 0) (i+1) (.ref a) n ep)->Heap.SameBut I s.heap h'->Q (some x) {s with heap:=h'}):wpAny #[14] A (pyNext (.ref I)) Q E s:=by
 refine UE (Wq (Vm (fX hit) bZ (Vc bZ (fX hit) gF ?_ (ib _))));refine ux hit ob ft hn ?_;refine UE (hs _ _ _ ?_);refine UE (sj hit #[4] λh1 g1 b1=>?_);have g1'  := g1;refine UE (sj g1' #[4] λh2 g2 b2=>?_);exact UH ⟨_,rfl,UH (q h2 g2 (b1.trans b2))⟩
theorem EI(hh:A.handled=none)(hit:s.heap.get? I=some (jU (.int sl 0) i (.ref a) n ep))(ob:s.heap.get? a=some (bY es ep t))(ft:t.fits es.size=true)(hn:es.size=n)
 (hs:∀(A':YN) (Q':Option (Value×Nat)->YO->Prop) (E':Yw),Q' none s->wpAny #[14] A' (setNext a sl i ep) Q' E' s)
 (q:∀h',Heap.ExtBut I s.heap h'->Q none {s with heap:=h'}):wpAny #[14] A (pyNext (.ref I)) Q E s:=by
 refine UE (Wq (Vm (fX hit) bZ (Vc bZ (fX hit) gF ?_ (ib _))));refine ux hit ob ft hn ?_;refine UE (hs _ _ _ ?_);refine UE (sj hit #[4] λh1 g1 b1=>?_);exact EG (B:=λ_=>True) hh q b1.extBut
theorem IS{place:Nat}(hit:s.heap.get? I=some (jU (.ref T) i (.ref a) n ep))(ob:s.heap.get? a=some (bY es ep t))(ft:t.fits es.size=true)(hn:es.size=n)(hT:s.heap.IsTuple T pl)(hp:pl[i]?=some (rawInt place))(hx:es[place]?=some x)
 (q:∀h',h'.get? I=some (jU (.ref T) (i+1) (.ref a) n ep)->Heap.SameBut I s.heap h'->Q (some x.2) {s with heap:=h'}):wpAny #[14] A (pyNext (.ref I)) Q E s:=by
 unfold pyNext;refine UE (Wq (Vm (name:=Str.ofString "__next__") (fX hit) bZ (Vc bZ (fX hit) gF ?_ (ib _))));refine ux hit ob ft hn ?_;dsimp only;obtain⟨oT,gT,cT,nT,dT⟩:=hT;refine UE (VI gT dT ?_);dsimp only;rw[hp];show wpAny _ _ (setNextDrawn a (Int.toNat (place:Nat)) ep >>= _) _ _ _;rw[VZ];unfold setNextDrawn;refine UE (UE (fu ob ft ?_));dsimp only;rw[if_neg #[6],hx];refine UH ?_;refine UE (sj hit #[4] λh1 g1 b1=>?_);exact UH ⟨_,rfl,UH (q h1 g1 b1)⟩
theorem La(hh:A.handled=none)(hit:s.heap.get? I=some (jU (.ref T) i (.ref a) n ep))(ob:s.heap.get? a=some (bY es ep t))(ft:t.fits es.size=true)(hn:es.size=n)(hT:s.heap.IsTuple T pl)(hp:pl[i]?=none)
 (q:∀h',Heap.ExtBut I s.heap h'->Q none {s with heap:=h'}):wpAny #[14] A (pyNext (.ref I)) Q E s:=by
 refine UE (Wq (Vm (name:=Str.ofString "__next__") (fX hit) bZ (Vc bZ (fX hit) gF ?_ (ib _))));refine ux hit ob ft hn ?_;obtain⟨oT,gT,cT,nT,dT⟩:=hT;refine UE (VI gT dT ?_);dsimp only;rw[hp];refine UE (sj hit #[4] λh1 g1 b1=>?_);have g1':h1.get? I=some (jU (rawInt 0) i (.ref a) n ep):=g1;refine UE (sj (s:={s with heap:=h1}) g1' #[4] λh2 g2 b2=>?_);exact EG (s:={s with heap:=h2}) (h0:=s.heap) (B:=λ_=>True) hh q (b1.trans b2).extBut
theorem yn(ob:s.heap.get? a=some (bY es ep t))(ft:t.fits es.size=true)(hb:du w=true)(hL:L=pickOrder (w.params.setOrder a ep) es)(h:Q ((L[i]?).map λe=>(e.2,sl)) s):wpAny #[14] A (setNext a sl i ep) Q E s:=by unfold setNext;refine UE (fu ob ft ?_);dsimp only;refine UE (oq ?_);rw[if_pos hb,if_neg #[6]];unfold setWalk;refine UE (UE (fu ob ft ?_));dsimp only;refine UE (oq ?_);rw[if_pos hb];refine UE (wpAny_askSetting (UH (UH ?_)));rw[hL]at h;exact h
theorem vX(ob:s.heap.get? a=some (bY es ep t))(ft:t.fits es.size=true)(hb:du w=false)(hd:(!t.plain&&decide (es.size>1))=false)(hl:t.led=true)
 (h:Q (match es[SetTable.below t.place sl]?,t.place[SetTable.below t.place sl]? with|some (_,x),some j=>some (x,j+1)|_,_=>none) s):wpAny #[14] A (setNext a sl i ep) Q E s:=by
 unfold setNext;refine UE (fu ob ft ?_);dsimp only;refine UE (oq ?_);rw[if_neg (by rw[hb];simp)];refine V2 (λz=>absurd z (by show ¬ (!t.plain&&decide (es.size>1))=true;rw[hd];simp)) λ_=>?_;refine UE (m:=(if(!t.led && !es.isEmpty)=true then unsupported "set:maker-not-led" else pure ())) ?_;rw[hl];simp only[W5,XS,US,Vu];exact UH (UH h)
end
theorem eW:Slot "set_iterator" "__iter__" "set_iterator.__iter__" :=
 .of #[7] #[7] #[7] #[7]
  (by trivial) #[7]
theorem jv:entryFor table "set_iterator.__iter__" = some Builtin.«dict_keyiterator.__iter__» := entryFor_alias (id' := "dict_keyiterator.__iter__") #[8] rfl #[9] #[8]
theorem kD(a:Value):argsOk "set_iterator.__iter__" ⟨[a],[]⟩:=by unfold argsOk;rw[signature?_of (id := "set_iterator.__iter__") (n:=['_', '_', 'r', 'e', 't', 'i', '_', '_']) (o:=['r', 'o', 't', 'a', 'r', 'e', 't', 'i', '_', 't', 'e', 's']) #[8] Bg];rfl
noncomputable def slotAt(place:YK):Nat->Nat
 |0=>0
 |i+1=>place.getD i 0+1
theorem vY(r:qO xs):∀i,i<=xs.size->SetTable.below xs (slotAt xs i)=i
 |0,_=>by
  obtain⟨a,_,c⟩:=iL r (slotAt xs 0);apply Vs;intro z;have h0:0<SetTable.below xs (slotAt xs 0):=by omega
  have:=a 0 #[4] h0
  grind[slotAt]
 |i+1,h=>by
  have hi:i<xs.size:=by omega
  have e:slotAt xs (i+1)=xs[i]+1:=by simp[slotAt,Array.getD,hi]
  rw[e];obtain⟨a,b,c⟩:=iL r (xs[i]+1);apply Vs;intro z;by_cases h1:SetTable.below xs (xs[i]+1)<=i
  ·have:=b i hi h1;omega
  ·have h2:i+1<SetTable.below xs (xs[i]+1):=by omega
   have h3:i+1<xs.size:=by omega
   have:=a (i+1) h3 h2;have:=ur r (i:=i) (k:=i+1) #[4] h3;omega
section
variable {P:YL} {w:World} {A:YN} {E:Yw} {s:YO} {vp:Value->Prop}
theorem zq{Q:Yw}(hT:s.TypeIs (.ref I) "set_iterator")(h:Q (.ref I) s):wpAny #[14] A (Builtin.«dict_keyiterator.__iter__» ⟨[.ref I],[]⟩) (λfin s'=>∃v,fin=.done (.ret v)/\∃T' r,s'.TypeIs v T'/\typeLookup (.type T') (Str.ofString "__next__")=pure (some r)/\Q v s') E s:=UH ⟨_,rfl, "set_iterator",_,hT,bZ.lookup,h⟩
noncomputable def Lb(P:YL)(w:World)(s:YO)(a:Addr)(es:Yz)(Q:Yw):Prop:=
 ∀(L:List (Int×Value)) (I:Addr) (h':Heap) (dr:Drawn) (fp:YC) (St:Nat->Heap->Prop),List.Perm L es.toList->(∀b∈fp,b<h'.objs.size)->I∈fp->(∀b∈fp,b=a\/#[10]<=b)->#[10]<=I->(∀b o,s.heap.get? b=some o->h'.get? b=some o) ->
  (∀A':YN,A'.handled=none->Walks P w A' I fp [I] L.length (λi v=>∃e,L[i]?=some e/\v=e.2) St)->St 0 h'->Q (.ref I) {s with heap:=h',drawn:=dr}
theorem IT(S:gh vp w s.heap a md ds es ep t)(q:Lb P w s a es Q):wpAny #[14] A (pyIter (.ref a)) Q E s:=by
 have hT:s.TypeIs (.ref a) "set" := ⟨_,S.ob,rfl⟩;have hes:=S.size;have hln:=S.ln;have la:a<#[10]:=UL S.ob;refine XR hT F.slot_set_iter (Vc F.slot_set_iter hT vW ?_ (F.args_set_iter_1 _));unfold Builtin.«frozenset.__iter__»;refine UE (WC (a:=a) rfl ?_);unfold Builtin.Frozenset.sizeOf;refine UE (UE (wpAny_setEntries_of S.ob rfl S.tb.fits (UH ?_)));unfold setDrawn;refine UE (UE (fu S.ob S.tb.fits ?_));dsimp only;refine UE (oq (UH ?_));have fits:=S.tb.fits;by_cases hd:(!du w&&(!t.plain&&decide (es.size>1)))=true
 ·
  refine V2 (λ_=>?_) λz=>absurd hd z;refine UE (EF es.size (List.range es.size) s _ #[6] λidx dr p=>?_);have hil:idx.length=es.size:=by have:=p.length_eq;simpa using this
  refine UE (Yk (hsz:=by rw[UZ,hil,VQ];omega) ?_);refine UE (wpAny_setEpoch_of (s:={s with heap:=s.heap.push _,drawn:=dr}) (UG _ S.ob) rfl fits ?_);refine UE (Vw (UH ⟨_,rfl, "set_iterator",_,⟨_,UK _ rfl,rfl⟩,bZ.lookup,?_⟩));generalize hob:({cls:=.type "tuple",data:=.seq (idx.map λ(i:Nat)=>rawInt i).toArray}:Obj)=oT;have hsz:(s.heap.push oT).objs.size=#[10]+1:=VH _ _;have hin:∀k∈idx,k<es.size:=λk hk=>U4.mp (p.mem_iff.mp hk);have hget:∀i k,idx[i]?=some k->∃e,es[k]?=some e:=λi k e=>⟨_,U6 (hin k (UY e))⟩;obtain⟨g1,g2⟩:=CN (es:=es) (l:=idx.map λk=>(0,k)) (λp hp=>by obtain⟨k,hk,rfl⟩:=U0.mp hp;exact hin k hk);have em:(idx.map λk=>((0:Nat),k)).map (·.2)=idx:=by rw[Xq];exact Ye idx
  rw[em]at g1 g2;have hLp:List.Perm (idx.filterMap λk=>es[k]?) es.toList:=(p.filterMap _).trans (by rw[filterMap_getElem?_range]);have hLn:(idx.filterMap λk=>es[k]?).length=es.size:=by rw[hLp.length_eq];simp
  refine q (idx.filterMap λk=>es[k]?) (s.heap.push oT).objs.size _ dr [(s.heap.push oT).objs.size,#[10],a] (λi h=>h.get? (s.heap.push oT).objs.size=some (jU (.ref #[10]) i (.ref a) es.size ep)/\h.IsTuple #[10] (idx.map λ(i:Nat)=>rawInt i).toArray/\h.get? a=some (bY es ep t)) hLp (λb hb=>?_) (UW ..) (λb hb=>by simp only[UO,Vd,Wi]at hb;rcases hb with rfl|rfl|rfl;exact .inr (by rw[hsz];exact V7 _);exact .inr (UJ _);exact .inl rfl) (by rw[hsz];exact V7 _) (λb o e=>UG _ (UG _ e)) (λA' hh=>?_) ⟨?_,?_,?_⟩
  ·rw[VH,hsz];simp only[UO,Vd,Wi]at hb;rcases hb with rfl|rfl|rfl
   ·rw[hsz];exact Wm _
   ·exact UT (Wm _) (V7 _)
   ·exact UT la #[4]
  ·have n1:#[10]≠(s.heap.push oT).objs.size:=by rw[hsz];exact UR (Wm _)
   have n2:a≠(s.heap.push oT).objs.size:=by rw[hsz];exact UR (Vq la)
   refine⟨λb hb=>by simp at hb;simp[hb],by rintro i h h' ⟨x1,⟨o,x2,x3⟩,x4⟩ k;exact⟨k _ #[6] _ x1,⟨o,k _ #[6] _ x2,x3⟩,k _ #[6] _ x4⟩,λi s' Q' E' hi ⟨x1,x2,x3⟩ hQ=>?_,λs' Q' E' ⟨x1,x2,x3⟩ hQ=>?_,λi s' Q' E' ⟨x1,_,_⟩ hQ=>?_⟩
   ·rw[hLn]at hi;have hi2:i<idx.length:=by omega
    have ek:=UN hi2;obtain⟨e,he⟩:=hget i _ ek;refine IS (x:=e) x1 x3 fits rfl x2 (place:=idx[i]) (by simp[ek]) he λh' y1 sb=>hQ e.2 h' s'.toks ⟨e,?_,rfl⟩ ⟨y1,?_,(sb.2 a n2).trans x3⟩ λb o hb eo=>(sb.2 b λz=>hb (by simp[z])).trans eo
    ·rw[g2 i (0,idx[i]) (by simp[ek])];exact he
    ·obtain⟨o,x2,x4⟩:=x2;exact⟨o,(sb.2 _ n1).trans x2,x4⟩
   ·rw[hLn]at x1;refine La hh x1 x3 fits rfl x2 (by simp;omega) λh' eb=>hQ h' s'.toks λb o hb eo=>eb b o (λz=>hb (by simp[z])) eo
   ·have hT':s'.TypeIs (.ref (s.heap.push oT).objs.size) "set_iterator" := fX x1;exact XR hT' eW (Vc eW hT' jv (zq hT' hQ) (kD _))
  ·exact UK _ rfl
  ·subst hob;exact⟨_,UG _ (UK _ rfl),rfl,_,rfl⟩
  ·exact UG _ (UG _ S.ob)
 ·refine V2 (λz=>absurd z hd) λ_=>?_;refine UE (UH ?_);refine UE (wpAny_setEpoch_of S.ob rfl fits ?_);refine UE (Vw (UH ⟨_,rfl, "set_iterator",_,⟨_,UK _ rfl,rfl⟩,bZ.lookup,?_⟩));have na:a≠#[10]:=UR la;by_cases hb:du w=true
  ·
   have pk:=Gd (w.params.setOrder a ep) es;have pkn:(pickOrder (w.params.setOrder a ep) es).toList.length=es.size:=by rw[pk.length_eq];simp
   refine q (pickOrder (w.params.setOrder a ep) es).toList #[10] _ s.drawn [#[10],a] (λi h=>h.get? #[10]=some (jU (.int ((0:Nat):Int) 0) i (.ref a) es.size ep)/\h.get? a=some (bY es ep t)) pk (λb hb=>?_) (UW ..) (λb hb=>by simp only[UO,Vd,Wi]at hb;rcases hb with rfl|rfl;exact .inr (UJ _);exact .inl rfl) (UJ _) (λb o e=>UG _ e) (λA' hh=>?_) ⟨UK _ rfl,UG _ S.ob⟩
   ·rw[VH];simp only[UO,Vd,Wi]at hb;rcases hb with rfl|rfl
    ·exact Wm _
    ·exact Vq la
   ·refine⟨λb hb=>by simp at hb;simp[hb],by rintro i h h' ⟨x1,x4⟩ k;exact⟨k _ #[6] _ x1,k _ #[6] _ x4⟩,λi s' Q' E' hi ⟨x1,x3⟩ hQ=>?_,λs' Q' E' ⟨x1,x3⟩ hQ=>?_,λi s' Q' E' ⟨x1,_⟩ hQ=>?_⟩
    ·have ek:=UN hi;generalize (pickOrder (w.params.setOrder a ep) es).toList[i]=e at ek;refine Bh (x:=e.2) (nx:=0) x1 x3 fits rfl (λA2 Q2 E2 h2=>yn x3 fits hb rfl ?_) λh' y1 sb=>hQ e.2 h' s'.toks ⟨e,ek,rfl⟩ ⟨y1,(sb.2 a na).trans x3⟩ λb o hb eo=>(sb.2 b λz=>hb (by simp[z])).trans eo;rw[<- Vg,ek];exact h2
    ·refine EI hh x1 x3 fits rfl (λA2 Q2 E2 h2=>yn x3 fits hb rfl ?_) λh' eb=>hQ h' s'.toks λb o hb eo=>eb b o (λz=>hb (by simp[z])) eo;rw[<- Vg,List.getElem?_eq_none (UJ _)];exact h2
    ·have hT':s'.TypeIs (.ref #[10]) "set_iterator" := fX x1;exact XR hT' eW (Vc eW hT' jv (zq hT' hQ) (kD _))
  ·
   have hb':du w=false:=by simpa using hb
   have hd':(!t.plain&&decide (es.size>1))=false:=by rw[hb']at hd;simpa using hd
   have hled:t.led=true:=by
    rcases S.ld with z|z
    ·exact z
    ·exact absurd z hb
   have hps:t.place.size=es.size:=S.tb.sz;refine q es.toList #[10] _ s.drawn [#[10],a] (λi h=>h.get? #[10]=some (jU (.int ((slotAt t.place i:Nat):Int) 0) i (.ref a) es.size ep)/\h.get? a=some (bY es ep t)) (.refl _) (λb hb=>?_) (UW ..) (λb hb=>by simp only[UO,Vd,Wi]at hb;rcases hb with rfl|rfl;exact .inr (UJ _);exact .inl rfl) (UJ _) (λb o e=>UG _ e) (λA' hh=>?_) ⟨UK _ rfl,UG _ S.ob⟩
   ·rw[VH];simp only[UO,Vd,Wi]at hb;rcases hb with rfl|rfl
    ·exact Wm _
    ·exact Vq la
   ·refine⟨λb hb=>by simp at hb;simp[hb],by rintro i h h' ⟨x1,x4⟩ k;exact⟨k _ #[6] _ x1,k _ #[6] _ x4⟩,λi s' Q' E' hi ⟨x1,x3⟩ hQ=>?_,λs' Q' E' ⟨x1,x3⟩ hQ=>?_,λi s' Q' E' ⟨x1,_⟩ hQ=>?_⟩
    ·have hi':i<es.size:=by simpa using hi
     have ek:=U6 hi';have ep':=U6 (show i<t.place.size by omega);refine Bh (x:=es[i].2) (nx:=slotAt t.place (i+1)) x1 x3 fits rfl (λA2 Q2 E2 h2=>vX x3 fits hb' hd' hled ?_) λh' y1 sb=>hQ es[i].2 h' s'.toks ⟨es[i],by rw[Vg];exact ek,rfl⟩ ⟨y1,(sb.2 a na).trans x3⟩ λb o hb eo=>(sb.2 b λz=>hb (by simp[z])).trans eo;rw[vY S.tb.rp i #[4],ek,ep'];have:slotAt t.place (i+1)=t.place[i]'#[4]+1:=by simp[slotAt,Array.getD,show i<t.place.size by omega]
     rw[this]at h2;exact h2
    ·have hl:es.toList.length=es.size:=by simp
     rw[hl]at x1;refine EI hh x1 x3 fits rfl (λA2 Q2 E2 h2=>vX x3 fits hb' hd' hled ?_) λh' eb=>hQ h' s'.toks λb o hb eo=>eb b o (λz=>hb (by simp[z])) eo;rw[vY S.tb.rp es.size #[4],Wj (UJ _)];exact h2
    ·have hT':s'.TypeIs (.ref #[10]) "set_iterator" := fX x1;exact XR hT' eW (Vc eW hT' jv (zq hT' hQ) (kD _))
end
section
variable {P:YL} {w:World} {A:YN} {E:Yw} {s:YO} {vp:Value->Prop}
theorem IU(hT:s.TypeIs (.ref r) "set")(h:Q false s):wpAny #[14] A (Builtin.List.listLengthHint (.ref r)) Q E s:=by
 unfold Builtin.List.listLengthHint;refine UE (We hT PySem.F.slot_set_len.lookup ?_);generalize wX:("set.__len__" : String)=id0
 wp_delta
 rw[show splitId id0=some ("set", "__len__")from by subst wX;decide +kernel];subst wX;refine UE (X1 (T := "set") (b:=true) hT sub_set_self ?_);refine V2 (λhab=>absurd hab #[5]) (λ_=>?_);refine V2 (λ_=>?_) (λhab=>absurd #[9] hab);refine UE (WW hT ?_);exact UH h
theorem Bi(S:gh vp w s.heap a md ds es ep t)(hh:A.handled=none)
 (q:∀(L:List (Int×Value)) h' dr tk,#[10]<h'.objs.size->List.Perm L es.toList->(∀b o,s.heap.get? b=some o->h'.get? b=some o)->Q (L.map (·.2)) {s with heap:=h',drawn:=dr,toks:=tk}):wpAny #[14] A (collect (.ref a)) Q E s:=by
 have hes:=S.size;have hln:=S.ln;unfold collect;refine UE (wpAny_runValue (V1 F.entry_proto_collect ?_));rw[Wu F.plain_proto_collect _];show wpAny _ A.in1 (newList [] >>= λl=>again (.builtin "list.__iadd__" ⟨[l,.ref a],[]⟩)) _ _ s;refine UE (Vw ?_);refine UH ⟨X6 F.plain_list_iadd _,V1 F.entry_list_iadd ?_⟩;rw[Wu F.plain_list_iadd _];have hS₁:(s.heap.push {cls:=.type "list",data:=.seq ([]:YD).toArray}).get? #[10]=some {cls:=.type "list",data:=.seq ([]:YD).toArray}:=UK _ rfl;have la:=UL S.ob;have h1:Builtin.List.listSameRef (.ref #[10]) (.ref a)=false:=by simp[Builtin.List.listSameRef,Xn la]
 have S1:gh vp w (s.heap.push {cls:=.type "list",data:=.seq ([]:YD).toArray}) a md ds es ep t:=S.keep λb o e=>UG _ e;show wpAny _ A.in1 (Builtin.List.listExtendWith (.ref #[10]) (.ref a) (.ref #[10])) _ _ _;unfold Builtin.List.listExtendWith;refine UE (WW (T := "set") ⟨_,S1.ob,rfl⟩ ?_);rw[if_neg (by rw[h1];decide)];refine UE (IT (s:={s with heap:=s.heap.push {cls:=.type "list",data:=.seq ([]:YD).toArray}}) S1 λL I h' dr fp St p f1 f2 f5 f3 f4 W st=>?_);have hS2:=f4 _ _ hS₁;refine UE (U7 (IU (s:={s with heap:=h',drawn:=dr}) ⟨_,f4 _ _ S1.ob,rfl⟩ ?_));rw[if_pos #[5]];have hLn:L.length=es.size:=by rw[p.length_eq];simp
 have hSf:#[10]∉fp:=λhm=>by
  rcases f5 _ hm with z|z
  ·exact absurd la (by rw[<- z];exact Va _)
  ·have z':(s.heap.push {cls:=.type "list",data:=.seq ([]:YD).toArray}).objs.size<=#[10]:=z;rw[VH]at z';exact absurd z' (Nat.not_le.mpr (Wm _))
 refine UE (V5 ?_);refine UE ?_;show wpAny _ _ (updateSeq #[10] (·.push .none) >>= λ_=>updateSeq #[10] (·.pop)) _ _ _;refine UE (wpAny_updateSeq hS2 rfl ?_);have hS3:=V0 (Obj.mapSeq (·.push Value.none)) hS2 rfl;refine wpAny_updateSeq (hz:=by seq_fits) hS3 rfl ?_;have hS4:=V0 (Obj.mapSeq (·.pop)) hS3 rfl;have oth:∀b o,b≠#[10]->h'.get? b=some o->((h'.update #[10] (Obj.mapSeq (·.push Value.none))).update #[10] (Obj.mapSeq (·.pop))).get? b=some o:=λb o hb e=>(WN _ _ (X9 hb)).trans ((WN _ _ (X9 hb)).trans e);have st2:=(W A.in1 hh).frame 0 _ _ st λb hb o e=>oth b o (λz=>hSf (z▸hb)) e;refine UH ⟨X6 F.plain_extend_loop _,codeAny_extend_loopS (W A.in1 hh).toS (by rw[hLn,VQ];omega) _ hSf _ L.length 0 _ _ _ rfl (WD _) st2 hS4 (ItemsOf.nil _) λs' acc' c' hm hS' hacc=>?_⟩;show wpAny _ A (load #[10] >>= _) _ _ s';refine UE (Xo hS' ?_);refine UH ?_
 have e1:acc'.toList=L.map (·.2):=by
  apply List.ext_getElem?;intro j;rw[Vg,VD];by_cases hj:j<acc'.size
  ·obtain⟨e,he,hv⟩:=hacc.2 j acc'[j] (U6 hj);rw[U6 hj,he,hv];rfl
  ·rw[Wj #[4],List.getElem?_eq_none (by rw[<- hacc.1];omega)];rfl
 rw[e1];obtain⟨hp2,g2,d2,tk2,os2⟩:=s';have eg:g2=s.gens:=hm.gens;have ed:d2=dr:=hm.drawn;have eo:os2=s.os:=hm.os;subst eg;subst ed;subst eo;refine q L hp2 d2 tk2 (UL hS') p λb o e=>hm.heap b o (λz=>?_) (oth b o (UR (UL e)) (f4 _ _ (UG _ e)));have lb:=UL e;rcases UO.mp z with z|z
 ·rw[z]at lb;exact Va _ lb
 ·rw[Vk.mp z]at lb;have f3':(s.heap.push {cls:=.type "list",data:=.seq ([]:YD).toArray}).objs.size<=I:=f3;rw[VH]at f3';exact absurd (UT lb (Nat.le_of_succ_le f3')) (Va _)
end
theorem tH:∀{vs:YD} {ds:YB},Paired (λv d=>∃as,Reads h v d as) vs ds->∃as,ReadsAll h vs ds as
 |_,_,.nil=>⟨_,.nil⟩
 |_,_,.cons ⟨_,r⟩ t=>by obtain⟨_,q⟩:=tH t;exact⟨_,.cons r q⟩
theorem oV(r:ReadsAll h vs ds as):∀(p:List Nat),(∀i∈p,i<vs.length)->∃bs,ReadsAll h (p.map λi=>vs.getD i .none) (p.map λi=>ds.getD i .none) bs
 | [],_=>⟨_,.nil⟩
 |i::p,hp=>by
  have hi:=hp i (UW ..);obtain⟨bs,q⟩:=oV r p λj hj=>hp j (UQ _ hj);obtain⟨d,cs,e1,e2⟩:=readsAll_get r (UN hi);refine⟨_,.cons (as:=cs) ?_ q⟩
  simp_all
section
variable {P:YL} {w:World} {A:YN} {E:Yw} {s:YO} {vp:Value->Prop}
theorem Bj(p:List.Perm ds es)(h:dM ds=true):dM es=true:=by
 unfold dM at h ⊢;rw[UU]at h ⊢;intro a ha;have:=h a (p.mem_iff.mpr ha);rw[UU]at this ⊢
 grind
theorem Bk{f:PyData->Bool}(p:List.Perm ds es)(h:ds.all f=true):es.all f=true:=by
 rw[UU]at h ⊢
 grind
theorem fY:∀{ds:YB} {n:Nat},PyData.depthAll ds<=n<->∀d∈ds,d.depth<=n
 | [],n=>by simp[PyData.depthAll]
 |d::ds,n=>by simp[PyData.depthAll];rw[<- fY];omega
theorem yo:aB ds=true<->∀d∈ds,ay d=true:=⟨λh d m=>aU h m,lW⟩
theorem CO(S:kZ vp w s.heap a md ds)(hh:A.handled=none)(pz:List.Perm ds zs)(ok:eh zs=true)(hu:A.units+60<cLine)
 (q:∀h' dr tk p us e,#[10]<=p->(∀b o,s.heap.get? b=some o->h'.get? b=some o)->h'.get? p=some (PyProof.Rows.seqObj "list" (us:YD).toArray e)->(∃as,ReadsAll h' us (bN ltB zs) as)->(∀u∈us,vp u)->Q (.ref p) {s with heap:=h',drawn:=dr,toks:=tk}):wpAny #[14] A (call (.builtin "sorted") [.ref a]) Q E s:=by
 obtain⟨es,ep,t,S⟩:=S;simp only[eh,UI,U5,V3]at ok;obtain⟨⟨⟨⟨kd,tr⟩,cm⟩,dp⟩,h64⟩:=ok;refine Ws PyProof.Rows.kind_sorted PyProof.Rows.plain_sorted PyProof.Rows.entry_sorted (PyProof.Rows.args_sorted1 _) ?_;unfold Builtin.«sorted»;refine UE (m:=checkCount "sorted" 1 1 _) (UH ?_);refine UE (Bi S (by simp[hh]) λL h1 dr tk sz1 pL k1=>?_);obtain⟨ds1,p1,e1⟩:=tF pL.symm S.el;have pd:List.Perm ds1 zs:=p1.symm.trans pz;have hLd:L.length=ds1.length:=U9 e1;have hdz:ds1.length=zs.length:=pd.length_eq;generalize hvs:L.map (·.2)=vs;have hvl:vs.length=zs.length:=by rw[<- hvs,UZ,hLd,hdz]
 obtain⟨as,ra⟩:∃as,ReadsAll h1 vs ds1 as:=by
  refine tH ?_;rw[<- hvs]
  have:∀{l:List (Int×Value)} {ys:YB},Paired (El vp w s.heap md) l ys->Paired (λv d=>∃as,Reads h1 v d as) (l.map (·.2)) ys:=by
   intro l ys h
   induction h with
   |nil=>exact .nil
   |cons r _ ih=>exact .cons (by obtain⟨as,x⟩:=r.rd;exact⟨as,jP (λb o _ _ e _ _=>k1 b o e) r.tr x⟩) ih
  exact this e1
 refine UE (W3 (hsz:=by rw[hvl,VQ];omega) ?_);have hoL:(h1.push (PyProof.Rows.seqObj "list" vs.toArray 0)).get? h1.objs.size=some (PyProof.Rows.seqObj "list" vs.toArray 0):=UK _ rfl;have tr1:aB ds1=true:=yo.mpr λd m=>yo.mp tr d (pd.mem_iff.mp m);have cm1:=Bj pd.symm cm;have O:=Ks (fJ cm1 tr1);rw[hdz,<- hvl]at O;refine UE (U7 (Vc PyProof.Rows.slot_list_sort ⟨_,hoL,rfl⟩ PyProof.Rows.entry_list_sort (PySem.W.jn hoL O #[4] (λh' k h2=>?_) λp a1 a2=>⟨_,rfl,?_⟩) (PyProof.Rows.args_list_sort _)))
 ·have ra':ReadsAll h' vs ds1 as:=Vx (λb o e=>k b o (UR (UL e)) (UG _ e)) ra
  have la:PyData.canLayAll0 ds1=true:=kg (bT.mpr λd m=>by
   obtain⟨i,hi⟩:=VX m;obtain⟨e,_,x⟩:=je e1 hi
   exact x.so) (eR tr1)
  rcases kd with kd|kd
  ·exact nZ (s:={s with heap:=h',drawn:=dr,toks:=tk}) ra' (Bk pd.symm kd) h2
  ·exact nX (s:={s with heap:=h',drawn:=dr,toks:=tk}) (by show A.units+1+1+41<cLine;omega) ra' (Bk pd.symm kd) tr1 cm1 la (fY.mpr λd m=>fY.mp dp d (pd.mem_iff.mp m)) #[4]
 ·obtain⟨e,he⟩:=PyProof.Rows.sortedHeap_at (out:=(p.toList.map λi=>vs.getD i Value.none).toArray) hoL;have kp:∀b o,h1.get? b=some o->(PyProof.Rows.sortedHeap (h1.push (PyProof.Rows.seqObj "list" vs.toArray 0)) h1.objs.size vs (p.toList.map λi=>vs.getD i Value.none).toArray).get? b=some o:=λb o eb=>by rw[PyProof.Rows.sortedHeap_old (UR (UL eb)) (by rw[VH];exact Vq (UL eb))];exact UG _ eb
  have hin:∀i∈p.toList,i<vs.length:=λi hi=>U4.mp (a1.perm.mem_iff.mp hi);obtain⟨bs,rb⟩:=oV ra p.toList hin
  have e1':(p.toList.map λi=>ds1.getD i .none)=bN ltB zs:=by
   refine qo cm tr ?_ ?_
   ·have:=a1.perm.map (λi=>ds1.getD i .none);rw[hvl,<- hdz,fR]at this;exact this.trans pd
   ·have hlp:p.toList.length=vs.length:=by rw[a1.perm.length_eq,W7]
    unfold Up;rw[Wa,Vo];intro i j hi hj hij;have x1:PySem.W.pat p i=p.toList[i]:=by simp only[Vl]at hi;rw[PySem.W.gq,WX p i hi];simp
    have x2:PySem.W.pat p j=p.toList[j]:=by simp only[Vl]at hj;rw[PySem.W.gq,WX p j hj];simp
    have:=a2 i j hij #[4];rw[x1,x2]at this;exact this
  rw[e1']at rb;refine UH ⟨_,rfl,q _ dr tk h1.objs.size (p.toList.map λi=>vs.getD i Value.none) e (WA sz1) (λb o eb=>kp b o (k1 b o eb)) he ⟨bs,Vx kp rb⟩ λu hu=>?_⟩;obtain⟨i,hi,rfl⟩:=U0.mp hu;have hil:=hin i hi;have eu:vs.getD i Value.none=vs[i]:=by simp[hil]
  have hmem:vs[i]∈L.map (·.2):=by rw[hvs];exact WK hil
  obtain⟨e',he',e2⟩:=U0.mp hmem;obtain⟨j,hj⟩:=VX he';obtain⟨d',_,x⟩:=gu e1 hj;rw[eu,<- e2];exact x.vl
end
end Stt
namespace Ml
open PySem PySem.Spec L2 Stt
theorem _root_.L2.Inv.dr{σ:St}(I:L2.Inv X pins σ H s)(dr:Drawn):L2.Inv X pins σ H {s with drawn:=dr}:=⟨I.ok,I.os,I.bare,I.base,I.loc,I.cell,I.free,I.freeC,I.pin,I.hok,I.len⟩
structure IV(X:Cx)(M:Hp)(s:YO)(b:Addr)(ds:YB)(vs:List V)(its:YD):Prop where
 src:∃T OK,Src X.prog X.w T b its.toArray OK/\OK s.heap
 rep:bf M ds vs
 val:Vals vs its
 so:cN ds=true
theorem Lc{σ:St}(I:L2.Inv X pins σ H s)(w:W X.G θ hm H)(r:ck X.G θ H d v)(e:qI d hm=some ds) :
  ∃b vs its,v=.ref b/\IV X (view θ H) s b ds vs its:=by
 have tup:∀(b:Addr) (vs:List V),v=.ref b->gm X.K H b vs->bf _ ds vs->cN ds=true->∃b vs its,v=.ref b/\IV X (view θ H) s b ds vs its:=λb vs e1 e2 e3 e4=>by obtain⟨its,rv,pl,_⟩:=I.tuple e2;exact⟨b,vs,its,e1,⟨"tuple",_,src_tuple b its.toArray,pl⟩,e3,rv,e4⟩
 have hs:=e;unfold qI at hs;split at hs
 ·cases hs;obtain⟨⟨b,vs,rfl,hb,rr⟩,so⟩:=r;exact tup b vs rfl (.inl (.inl (aF _ _ _ _ hb))) rr (by assumption)
 ·cases hs;obtain⟨b,rfl,⟨o,its,n,k1,k2,k3,k4,k5⟩,k6,k7⟩:=r;refine tup b _ rfl (.inr ⟨o,its,n,k1,k2,k3,k4,k5⟩) (ki (vG (G:=X.G) k6 k7) (nQ _)).1 k7
 ·obtain⟨b,vs,rfl,hb,rr,so⟩:=nY w r hs;obtain⟨its,n,rv,eo,hz⟩:=I.lst hb;exact⟨b,vs,its,rfl,⟨"list",_,src_list b its.toArray,⟨_,eo,rfl,n,rfl⟩⟩,rr,rv,so⟩
theorem vZ(rp:bf M ds vs)(rv:Vals vs its)(ra:ReadsAll h its ds as):∀{us:YD} {zs:YB} {bs:YC},ReadsAll h us zs bs->(∀u∈us,u∈its)->∃ws,Vals ws us/\bf M zs ws
 |_,_,_,.nil,_=>⟨[],.nil,rfl⟩
 |_,_,_,.cons r t,hu=>by obtain⟨ws,q1,q2⟩:=vZ rp rv ra t λu m=>hu u (UQ _ m);obtain⟨i,hi⟩:=VX (hu _ (UW ..));obtain⟨d,cs,e1,e2⟩:=readsAll_get ra hi;obtain⟨x,e3,e4⟩:=bf.get' rp e1;obtain⟨u',e5,e6⟩:=rv.get e3;rw[hi]at e5;cases e5;have:=(PySem.Reads.unique r _ _ e2).1;subst this;exact⟨x::ws,.cons e6 q1,.cons e4 q2⟩
theorem IW(h:setOk ds=true)(so:cN ds=true):∃md,ds.length<=120/\(∀d∈ds,aI d=true)/\∀d∈ds,OH md d:=by
 simp only[setOk,UI,U5,V3]at h;obtain⟨⟨⟨h1,h2⟩,h3⟩,h4⟩:=h;have t:=ya.mp h2;rcases h1 with h1|h1
 ·exact⟨true,h4,t,λd m=>⟨t d m,fY.mp h3 d m,bT.mp so d m,UU.mp h1 d m⟩⟩
 ·refine⟨false,h4,t,λd m=>⟨t d m,fY.mp h3 d m,bT.mp so d m,?_⟩⟩;have:=UU.mp h1 d m;cases d<;>simp[ph]at this<;>rfl
section
variable {X:Cx} {E:XK} {m m2:ME} {e e2:Expr} {k:Nat} {pins:Yx} {σ:St} {H:Hp} {s:YO} {θ:YC} {hm:Hm} {Q:VK} {p1 p2 p3 p4 p5 p6 pos:Pos}
theorem CP(I:L2.Inv X pins σ H s)(w:W X.G θ hm H)(sm:M=view θ H)(hk:∀b o,s.heap.get? b=some o->s'.heap.get? b=some o)(hs:∃h tk dr,s'={s with heap:=h,toks:=tk,drawn:=dr})(hsz:#[10]<=s'.heap.objs.size)
 (S:kZ vp X.w s'.heap a md dsS)(hh:X.A.handled=none)(pz:List.Perm dsS zs)(ok:eh zs=true)(so:cN zs=true)(hu:X.A.units+60<cLine)(rp:bf M ds vs)(rv:Vals vs its)(ra:ReadsAll s'.heap its ds as)(hvp:∀v,vp v->v∈its)
 (q:aL X.G (ua X.G E) θ H (.ok (.dat (.list (bN ltB zs))) hm) (KV X.G Q)):wpAny #[12] X.A (call (.builtin "sorted") [.ref a]) (EP X pins σ Q) X.xe s':=by
 obtain⟨h1,tk1,dr1,rfl⟩:=hs;refine CO S hh pz ok hu λh' dr tk p us e' hp kp he ⟨bs,rb⟩ vu=>?_;have ra':ReadsAll h' its ds as:=Vx kp ra;obtain⟨ws,q1,q2⟩:=vZ rp rv ra' rb λu m=>hvp u (vu u m);have hpp:#[10]<=p:=UP hsz hp;have hn:H p=none:=I.hok.fresh hpp;obtain⟨ev,w1,g⟩:=w.put (o:=.lst ws) hn
 have hlen:ws.length<=sizeLine:=by
  have x1:=q2.length;have x2:(bN ltB zs).length=zs.length:=(aS _ _).length_eq;simp only[eh,UI,U5]at ok
  grind[sizeLine_eq]
 have I2:L2.Inv X pins σ (upd H p (.lst ws)) {s with heap:=h',toks:=tk}:=I.laid (t':=tk) (λb o eb=>kp b o (hk b o eb)) hpp ⟨hlen,us,e',q1,he⟩;subst sm;exact⟨.ref p,_,I2.dr dr,rfl,q _ _ ev w1 _ ⟨⟨p,ws,rfl,g,q2.same ev.same⟩,by simp only[fz];exact og (aS _ _).symm so⟩⟩
theorem CQ(hc:X.calm=true)(hr:L2.bO k X.A)(hm1:X.mg "sorted" = none)(hm2:X.mg "set" = none)(ha:DE X E m e)(hg:Gl X "sorted" := by rfl)(hg2:Gl X "set" := by rfl)(hs:starEach [e] X.env=[(false,eval e X.env)]:=by rfl)
 (hs3:starEach [.Call (.Name "set" p2) [e] [] p3] X.env=[(false,eval (.Call (.Name "set" p2) [e] [] p3) X.env)]:=by rfl) :
  DE X E (ag fU (aa m aj)) (.Call (.Name "sorted" p1) [.Call (.Name "set" p2) [e] [] p3] [] pos):=by
 simp only[bS]at *;rintro pins s σ H Q I ⟨θ,h,ρ,w,fr,p⟩;refine VR (o7 I hg hm1 (by decide +kernel:bootBuiltins "sorted" = some (.builtin "sorted")) ?_);refine XY ?_ (by rw[hs3];rfl) #[7];rw[hs3];show wpAny _ _ (spliced ((false,eval (.Call (.Name "set" p2) [e] [] p3) X.env)::[])) _ _ s;refine Xv ?_;refine VR (o7 I hg2 hm2 (by decide +kernel:bootBuiltins "set" = some (.type "set")) ?_);refine Wc ?_ (by rw[hs];rfl) #[7];rw[hs];show wpAny _ _ (spliced ((false,eval e X.env)::[])) _ _ s;simp only[ag,aa,aj,R.bind_assoc,R.bA]at p;refine Xv (cU (ha pins s σ H (λv H1=>∃θ1 h1 d,W X.G θ1 h1 H1/\ck X.G θ1 H1 d v/\aL X.G (ua X.G E) θ1 H1 (fU [d] h1) (Ml.KV X.G Q)) I ⟨θ,h,ρ,w,fr,(aL.bind p).mono (by rintro d θ1 h1 H1 _ _ ⟨ev,w1,q1⟩ v r1;exact⟨θ1,h1,d,w1,r1,q1⟩)⟩) λu s1 ⟨v,H1,I1,rv1,θ1,h1,d,w1,r1,q1⟩=>?_);refine XJ ?_
 cases hsq:qI d h1 with
 |none=>simp only[fU,hsq]at q1;exact q1.elim
 |some ds=>
  have hds:=hsq;simp only[fU,hsq]at q1;by_cases hc2:(setOk ds&&eh (iG ds))=true
  ·rw[if_pos hc2]at q1
   ·skip
    simp only[UI]at hc2;obtain⟨b,vs,its,rfl,SS⟩:=Lc I1 w1 r1 hds;cases rv1;obtain⟨T,OK,src,hok⟩:=SS.src;obtain⟨as,ra⟩:=bf.reads I1 (SS.rep.same (aF _ _)) SS.val;obtain⟨md,hl,ht,hel⟩:=IW hc2.1 SS.so;have hun:=hr.un;refine IQ (vp:=λv=>v∈its) (md:=md) (ys:=ds) (as:=as) src (I1.ok.hd hc) hok (by simpa using ra) hel (λv m=>by simpa using m) hl #[4] λh' tk dsS S md' kp=>?_;refine XJ ?_;have S0:=S;obtain⟨_,_,_,SA⟩:=S0;refine CP (s:=s1) (s':={s1 with heap:=h',toks:=tk}) I1 w1 rfl kp ⟨h',tk,s1.drawn,rfl⟩ (WA (UL SA.ob)) S (I1.ok.hd hc) ?_ hc2.2 ?_ #[4] SS.rep SS.val (Vx kp ra) (λv hv=>hv) q1
    ·refine(List.perm_ext_iff_of_nodup SA.nd (ja ht)).mpr λd=>?_;rw[md',jT ht]
    ·exact bT.mpr λd m=>bT.mp SS.so d ((jT ht d).mp m)
  ·rw[if_neg hc2]at q1;exact q1.elim
end
theorem sv:∀{xs ys:YB},xs.Nodup->(∀x∈xs,x∈ys)->xs.length<=ys.length
 | [],_,_,_=>WD _
 |x::xs,ys,nd,h=>by
  classical
  obtain⟨n1,n2⟩:=VM.mp nd;have hx:=h x (UW ..);obtain⟨i,hi,e⟩:=WI hx;have p:=fW hi
  have:=sv (ys:=ys.eraseIdx i) n2 λy hy=>by
   grind
  grind
end Ml
namespace Ml
open PySem PySem.Spec L2
theorem oF{N ps:YF}{sc:Scope}(a:sc.kind=.function:=by rfl)(b:sc.isCoroutine=false:=by rfl)(c:sc.isGenerator=false:=by rfl)(d:N.Nodup:=by decide +kernel)(e:N.take ps.length=ps:=by rfl)
 (f:∀x∈ps,sc.names.lookup x=some .local\/sc.names.lookup x=some .cell:=by decide +kernel)(g:∀y∈sc.names,y.2≠.free:=by decide +kernel):aO N ps sc:=⟨a,b,c,d,e,f,g⟩
section
variable {X:Cx} {E:XK} {x:Str} {ps:YF} {k j:Nat} {F:Fn} {e e1 e2:Expr} {es:YG} {ma:MA} {m1 m2:ME} {p pos:Pos}
theorem fZ(F':bu X.prog X.w X.K X.mg X.base x ps k F)(hx:Passes (iZ X.prog X.w) X E)(hr:bO j X.A)(ha:DA X E ma (e::es))(hk:k<=j:=by omega)(hg:Gl X x:=by rfl)(hdb:(x==("__debug__" : Str))=false:=by decide)(he:#[2]:=by rfl)
 (hpl:(backTo pos (starEach es X.env)).any (·.1)=false:=by rfl):DE X E (ag F ma) (.Call (.Name x p) (e::es) [] pos):=Qs F' hx (hr.mono hk) hg ha hdb he hpl
end
end Ml
namespace K40
open PySem L2 Ml
noncomputable def top(i:Nat):Stmt:=PySem.Challenge.pw_everalike_k40_tests_as_webs.main.body.getD i (.Pass ⟨0,0,0,0⟩)
structure Txt(K:YE)(mg:YA):Prop where
 n_all:mg "all" = none
 n_len:mg "len" = none
 n_isinstance:mg "isinstance" = none
 n_str:mg "str" = none
 n_zip:mg "zip" = none
 n_tuple:mg "tuple" = none
 n_any:mg "any" = none
 n_sorted:mg "sorted" = none
 n_int:mg "int" = none
 n_max:mg "max" = none
 n_divmod:mg "divmod" = none
 n_range:mg "range" = none
 n_list:mg "list" = none
 n_set:mg "set" = none
 n_repr:mg "repr" = none
 i_LONGEST_NAME:∃t,mg "LONGEST_NAME" = some (.int 6 t)
 i_MOST_NAMES:∃t,mg "MOST_NAMES" = some (.int 12 t)
 s_LETTERS:∃t,mg "LETTERS" = some (.str "abcdefghijklmnopqrstuvwxyz" t)
 x_NoWeb:Rv K mg "NoWeb"
 x_NoLot:Rv K mg "NoLot"
 x_NoPair:Rv K mg "NoPair"
section
variable {P:YL} {w:World} {K:YE} {mg:YA} {base:Heap} {XE:VK->XK} {bm:Addr}
noncomputable abbrev sy:Stmt:=top 20
noncomputable abbrev sA:YF:=["thing"]
theorem CT:aO ["thing"] sA (au sy):=oF
theorem zr:(["letter", "thing"]:YF).Nodup:=by decide +kernel
noncomputable abbrev yp(P:YL)(w:World)(K:YE)(mg:YA)(base:Heap):Prop:=bu P w K mg base "is_name" sA 1 jS
theorem Ge(D:Df K mg "is_name" sA sy)(T:Txt K mg):yp P w K mg base:=
 bu.eq (Df.has (k:=0) D CT (λf cdv A outer s H E hr=>
  av (dE (DW.dt (iC (cV (bU (vC (DP _) Ha T.n_isinstance T.n_str (dv 0)))) (iB (cV (AN FU FU aG (lF jQ T.n_len gp (ae (dv 0) ai)) (Ek T.i_LONGEST_NAME)))))) (aE (aP cK)) bD)
  (aE (aP (lF (sY rfl) T.n_all lU (ae (cf ["letter"] #[7] rfl (cy (dv 0)) (λ_ _ _ _ _=>dg 0 zr) (λ_ _ _ _ _=>eA) (λ_ _ _ _ _=>Ip FU FU dC (dv 0) dC)) ai)))))) #[8]
noncomputable abbrev mG:Stmt:=top 21
noncomputable abbrev mH:YF:=["things"]
theorem zt:aO ["things"] mH (au mG):=oF
theorem mI:(["low", "high", "things"]:YF).Nodup:=by decide +kernel
noncomputable abbrev jf(P:YL)(w:World)(K:YE)(mg:YA)(base:Heap):Prop:=bu P w K mg base "is_rising" mH 1 fK
theorem Bl(D:Df K mg "is_rising" mH mG)(T:Txt K mg):jf P w K mg base:=
 bu.eq (Df.has (k:=0) D zt (λf cdv A outer s H E hr=>
  aE (aP (lF (sY rfl) T.n_all lU (ae (cf ["low", "high"] #[7] rfl (HI #[7] T.n_zip (ae (dv 0) (ae (fo (dv 0) (eT aG) hE) ai))) (λ_ _ _ _ _=>pE rfl (bX (dg 0 mI) (bX (dg 1 mI) g9)) (bo (bo eS))) (λ_ _ _ _ _=>eA) (λ_ _ _ _ _=>kh (FT hr) (dv 0) (dv 1) #[7])) ai))))) #[8]
noncomputable abbrev mJ:Stmt:=top 22
noncomputable abbrev mK:YF:=["thing"]
theorem zu:aO ["thing"] mK (au mJ):=oF
theorem v7:(["part", "thing"]:YF).Nodup:=by decide +kernel
noncomputable abbrev tI(P:YL)(w:World)(K:YE)(mg:YA)(base:Heap):Prop:=bu P w K mg base "are_names" mK 2 i9
theorem Bm(D:Df K mg "are_names" mK mJ)(T:Txt K mg)(J21:jf P w K mg base)(J20:yp P w K mg base):tI P w K mg base:=
 bu.eq (Df.has (k:=1) D zu (λf cdv A outer s H E hr=>
  av (dE (DW.dt (iC (cV (bU (vC (kit_tuple _) bI T.n_isinstance T.n_tuple (dv 0)))) (iB (bL Qt (lF jQ T.n_len gp (ae (dv 0) ai)) (Ek T.i_MOST_NAMES) #[7])))) (aE (aP cK)) bD)
  (aE (aP (qF (lF (sY rfl) T.n_all lU (ae (cf ["part"] #[7] rfl (cy (dv 0)) (λ_ _ _ _ _=>dg 0 v7) (λ_ _ _ _ _=>eA) (λ_ _ _ _ _=>fZ J20 cL hr (ae (dv 0) ai))) ai)) (vd (fZ J21 aT hr (ae (dv 0) ai)))))))) #[8]
noncomputable abbrev mL:Stmt:=top 23
noncomputable abbrev mM:YF:=["thing", "names"]
theorem zw:aO ["thing", "names"] mM (au mL):=oF
noncomputable abbrev tJ(P:YL)(w:World)(K:YE)(mg:YA)(base:Heap):Prop:=bu P w K mg base "is_strike" mM 1 dI
theorem Bn(D:Df K mg "is_strike" mM mL)(T:Txt K mg):tJ P w K mg base:=
 bu.eq (Df.has (k:=0) D zw (λf cdv A outer s H E hr=>
  av (dE (DW.dt (iC (cV (bU (vC (kit_tuple _) bI T.n_isinstance T.n_tuple (dv 0)))) (iB (bL (rR hr) (lF jQ T.n_len gp (ae (dv 0) ai)) aG #[7])))) (aE (aP cK)) bD)
  (aE (aP (qF (kh (KA hr) (cH (bg hr) (dv 0) aG (λ_ _=>rfl)) (dv 1) #[7]) (vd (kh (KA hr) (cH (bg hr) (dv 0) aG (λ_ _=>rfl)) (dv 1) #[7]))))))) #[8]
noncomputable abbrev jw:Stmt:=top 24
noncomputable abbrev jx:YF:=["thing", "names"]
theorem v8:aO ["thing", "names"] jx (au jw):=oF
theorem sC:(["part", "thing", "names"]:YF).Nodup:=by decide +kernel
noncomputable abbrev oW(P:YL)(w:World)(K:YE)(mg:YA)(base:Heap):Prop:=bu P w K mg base "are_strikes" jx 2 dX
theorem xn(D:Df K mg "are_strikes" jx jw)(T:Txt K mg)(J21:jf P w K mg base)(J23:tJ P w K mg base):oW P w K mg base:=
 bu.eq (Df.has (k:=1) D v8 (λf cdv A outer s H E hr=>
  av (dE (cV (bU (vC (kit_tuple _) bI T.n_isinstance T.n_tuple (dv 0)))) (aE (aP cK)) bD)
  (aE (aP (qF (lF (sY rfl) T.n_all lU (ae (cf ["part"] #[7] rfl (cy (dv 0)) (λ_ _ _ _ _=>dg 0 sC) (λ_ _ _ _ _=>eA) (λ_ _ _ _ _=>fZ J23 cL hr (ae (dv 0) (ae (dv 2) ai)))) ai)) (vd (fZ J21 aT hr (ae (dv 0) ai)))))))) #[8]
noncomputable abbrev wb:Stmt:=top 25
noncomputable abbrev wc:YF:=["thing"]
theorem sD:aO ["thing", "names", "strikes"] wc (au wb):=oF
noncomputable abbrev Bo(P:YL)(w:World)(K:YE)(mg:YA)(base:Heap):Prop:=bu P w K mg base "is_web" wc 3 iE
theorem IX(D:Df K mg "is_web" wc wb)(T:Txt K mg)(J24:oW P w K mg base)(J22:tI P w K mg base):Bo P w K mg base:=
 bu.eq (Df.has (k:=2) D sD (λf cdv A outer s H E hr=>
  av (dE (DW.dt (iC (cV (bU (vC (kit_tuple _) bI T.n_isinstance T.n_tuple (dv 0)))) (iB (bL (rR hr) (lF jQ T.n_len gp (ae (dv 0) ai)) aG #[7])))) (aE (aP cK)) bD)
  (av (kj (dv 0) (pE rfl (bX (dg 1 sD.nd) (bX (dg 2 sD.nd) g9)) (bo (bo eS))))
  (aE (aP (qF (fZ J22 aT hr (ae (dv 1) ai)) (vd (fZ J24 aT hr (ae (dv 2) (ae (dv 1) ai)))))))))) #[8]
noncomputable abbrev mO:Stmt:=top 26
noncomputable abbrev mQ:YF:=["thing"]
theorem zx:aO ["thing"] mQ (au mO):=oF
noncomputable abbrev tK(P:YL)(w:World)(K:YE)(mg:YA)(base:Heap):Prop:=bu P w K mg base "check_web" mQ 4 dR
theorem Bp(D:Df K mg "check_web" mQ mO)(T:Txt K mg)(J25:Bo P w K mg base):tK P w K mg base:=
 bu.eq (Df.has (k:=3) D zx (λf cdv A outer s H E hr=>
  aE (dE (cV (bU (fZ J25 aT hr (ae (dv 0) ai)))) (aE (qH T.x_NoWeb hr (ae dC ai))) bD))) #[8]
noncomputable abbrev wg:Stmt:=top 27
noncomputable abbrev wj:YF:=["thing", "names"]
theorem Gf:aO ["thing", "names"] wj (au wg):=oF
theorem Bq:(["part", "thing", "names"]:YF).Nodup:=by decide +kernel
noncomputable abbrev Br(P:YL)(w:World)(K:YE)(mg:YA)(base:Heap):Prop:=bu P w K mg base "is_lot" wj 2 mm
theorem IY(D:Df K mg "is_lot" wj wg)(T:Txt K mg)(J21:jf P w K mg base):Br P w K mg base:=
 bu.eq (Df.has (k:=1) D Gf (λf cdv A outer s H E hr=>
  av (dE (cV (bU (vC (kit_tuple _) bI T.n_isinstance T.n_tuple (dv 0)))) (aE (aP cK)) bD)
  (aE (aP (qF (lF (sY rfl) T.n_all lU (ae (cf ["part"] #[7] rfl (cy (dv 0)) (λ_ _ _ _ _=>dg 0 Bq) (λ_ _ _ _ _=>eA) (λ_ _ _ _ _=>kh (KA hr) (dv 0) (dv 2) #[7])) ai)) (vd (fZ J21 aT hr (ae (dv 0) ai)))))))) #[8]
noncomputable abbrev mR:Stmt:=top 28
noncomputable abbrev mS:YF:=["web", "thing"]
theorem zy:aO ["web", "thing"] mS (au mR):=oF
noncomputable abbrev tL(P:YL)(w:World)(K:YE)(mg:YA)(base:Heap):Prop:=bu P w K mg base "check_lot" mS 3 gM
theorem Bs(D:Df K mg "check_lot" mS mR)(T:Txt K mg)(J27:Br P w K mg base):tL P w K mg base:=
 bu.eq (Df.has (k:=2) D zy (λf cdv A outer s H E hr=>
  aE (dE (cV (bU (fZ J27 aT hr (ae (dv 1) (ae (cH (bg hr) (dv 0) aG (λ_ _=>rfl)) ai))))) (aE (qH T.x_NoLot hr (ae dC ai))) bD))) #[8]
noncomputable abbrev kE:Stmt:=top 29
noncomputable abbrev kF:YF:=["one", "other"]
theorem xo:aO ["one", "other"] kF (au kE):=oF
noncomputable abbrev qS(P:YL)(w:World)(K:YE)(mg:YA)(base:Heap):Prop:=bu P w K mg base "check_pair" kF 1 gE
theorem zz(D:Df K mg "check_pair" kF kE)(T:Txt K mg):qS P w K mg base:=
 bu.eq (Df.has (k:=0) D xo (λf cdv A outer s H E hr=>
  aE (dE (bL (rR hr) (cH (bg hr) (dv 0) aG (λ_ _=>rfl)) (cH (bg hr) (dv 1) aG (λ_ _=>rfl)) #[7]) (aE (qH T.x_NoPair hr (ae dC ai))) bD))) #[8]
noncomputable abbrev iN:Stmt:=top 30
noncomputable abbrev iO:YF:=["names"]
theorem ud:aO ["names"] iO (au iN):=oF
theorem qT:(["letter", "names"]:YF).Nodup:=by decide +kernel
noncomputable abbrev mT(P:YL)(w:World)(K:YE)(mg:YA)(base:Heap):Prop:=bu P w K mg base "free_letters" iO 1 eL
theorem wk(D:Df K mg "free_letters" iO iN)(T:Txt K mg):mT P w K mg base:=
 bu.eq (Df.has (k:=0) D ud (λf cdv A outer s H E hr=>
  aE (aP (cf ["letter"] #[7] rfl (cy (Ku T.s_LETTERS #[9])) (λ_ _ _ _ _=>dg 0 qT) (λ_ _ _ _ _=>gD (bL (s9 hr) (dv 0) (dv 1) #[7])) (λ_ _ _ _ _=>dv 0))))) #[8]
noncomputable abbrev mU:Stmt:=top 32
noncomputable abbrev mV:YF:=["hit", "held"]
theorem zA:aO ["hit", "held"] mV (au mU):=oF
theorem wm:(["name", "hit", "held"]:YF).Nodup:=by decide +kernel
noncomputable abbrev tM(P:YL)(w:World)(K:YE)(mg:YA)(base:Heap):Prop:=bu P w K mg base "are_apart" mV 1 mn
theorem Bt(D:Df K mg "are_apart" mV mU)(T:Txt K mg):tM P w K mg base:=
 bu.eq (Df.has (k:=0) D zA (λf cdv A outer s H E hr=>
  aE (aP (N7 (lF (Qv rfl) T.n_any Om (ae (cf ["name"] #[7] rfl (cy (dv 0)) (λ_ _ _ _ _=>dg 0 wm) (λ_ _ _ _ _=>eA) (λ_ _ _ _ _=>kh (KA hr) (dv 0) (dv 2) #[7])) ai)))))) #[8]
noncomputable abbrev kG:Stmt:=top 33
noncomputable abbrev kH:YF:=["one", "hit", "held"]
theorem xp:aO ["one", "hit", "held"] kH (au kG):=oF
noncomputable abbrev qU(P:YL)(w:World)(K:YE)(mg:YA)(base:Heap):Prop:=bu P w K mg base "check_test" kH 4 dS
theorem zB(D:Df K mg "check_test" kH kG)(T:Txt K mg)(J32:tM P w K mg base)(J28:tL P w K mg base):qU P w K mg base:=
 bu.eq (Df.has (k:=3) D xp (λf cdv A outer s H E hr=>
  av (nR (fZ J28 aT hr (ae (dv 0) (ae (dv 1) ai))))
  (av (nR (fZ J28 aT hr (ae (dv 0) (ae (dv 2) ai))))
  (aE (dE (cV (bU (fZ J32 aT hr (ae (dv 1) (ae (dv 2) ai))))) (aE (qH T.x_NoLot hr (ae dC ai))) bD))))) #[8]
noncomputable abbrev jy:Stmt:=top 34
noncomputable abbrev jz:YF:=["names", "hit", "held"]
theorem cS:aO ["names", "hit", "held", "fresh", "loop", "known", "strikes"] jz (au jy):=oF
theorem jV:(["name", "names", "hit", "held", "fresh", "loop", "known", "strikes"]:YF).Nodup:=by decide +kernel
noncomputable abbrev oX(P:YL)(w:World)(K:YE)(mg:YA)(base:Heap):Prop:=bu P w K mg base "web_of_test" jz 2 jt
theorem xq(D:Df K mg "web_of_test" jz jy)(T:Txt K mg)(J30:mT P w K mg base):oX P w K mg base:=
 bu.eq ((Df.has (k:=1) D cS (λf cdv A outer s H E hr=>
  av (kj (fo (fZ J30 aT hr (ae (dv 0) ai)) hE (eT aG)) (Ex rfl (bX (dg 3 cS.nd) (bX (dg 4 cS.nd) g9)) (bo (bo eS))))
  (av (gK 5 cS.nd (Ct (ae (dv 3) (zf (dv 1) ai))))
  (av (HL (i:=6) ["name"] cS.nd rfl rfl #[7] rfl (cy (dv 1)) (λ_ _ _ _ _=>dg 0 jV) (λ_ _ _ _ _=>eA) (λ_ _ _ _ _=>dD (ae (dv 4) (ae (dv 0) ai))))
  (av (dE (bU (dv 2)) (av (Mk 5 cS.nd (fh (ae (dv 4) (zf (dv 2) ai))))
  (aE (Mk 6 cS.nd (cf ["name"] #[7] rfl (cy (fh (ae (dv 4) (zf (dv 2) ai)))) (λ_ _ _ _ _=>dg 0 jV) (λ_ _ _ _ _=>eA) (λ_ _ _ _ _=>dD (ae (dv 5) (ae (dv 0) ai))))))) bD)
  (aE (aP (dD (ae (kU (fA rfl) T.n_tuple bI (ae (lF (mf hr) T.n_sorted fI (ae (dv 5) ai)) ai)) (ae (kU (fA rfl) T.n_tuple bI (ae (lF (mf hr) T.n_sorted fI (ae (dv 6) ai)) ai)) ai)))))))))).gI) #[8]
noncomputable abbrev pH:Stmt:=top 35
noncomputable abbrev pI:YF:=["one", "other", "hit", "held"]
theorem Bu:aO ["one", "other", "hit", "held"] pI (au pH):=oF
noncomputable abbrev pJ(P:YL)(w:World)(K:YE)(mg:YA)(base:Heap):Prop:=bu P w K mg base "test_web" pI 5 aR
theorem CU(D:Df K mg "test_web" pI pH)(T:Txt K mg)(J34:oX P w K mg base)(J33:qU P w K mg base)(J29:qS P w K mg base)(J26:tK P w K mg base):pJ P w K mg base:=
 bu.eq (Df.has (k:=4) D Bu (λf cdv A outer s H E hr=>
  av (nR (fZ J26 aT hr (ae (dv 0) ai)))
  (av (nR (fZ J26 aT hr (ae (dv 1) ai)))
  (av (nR (fZ J29 aT hr (ae (dv 0) (ae (dv 1) ai))))
  (av (nR (fZ J33 aT hr (ae (dv 0) (ae (dv 2) (ae (dv 3) ai)))))
  (aE (aP (fZ J34 aT hr (ae (cH (bg hr) (dv 0) aG (λ_ _=>rfl)) (ae (dv 2) (ae (dv 3) ai))))))))))) #[8]
noncomputable abbrev mW:Stmt:=top 37
noncomputable abbrev mY:YF:=["_law_script", "_law_k"]
theorem zC:aO ["_law_script", "_law_k"] mY (au mW):=oF
noncomputable abbrev tO(P:YL)(w:World)(K:YE)(mg:YA)(base:Heap):Prop:=bu P w K mg base "_law_cell" mY 1 fL
theorem Bv(D:Df K mg "_law_cell" mY mW)(T:Txt K mg):tO P w K mg base:=
 bu.eq (Df.has (k:=0) D zC (λf cdv A outer s H E hr=>
  av (dE (bL (FT hr) (dv 1) (lF jQ T.n_len gp (ae (dv 0) ai)) #[7]) (aE (aP (cH (bg hr) (dv 0) (dv 1) (λ_ _=>rfl)))) bD)
  (aE (aP aG)))) #[8]
noncomputable abbrev pK:Stmt:=top 38
noncomputable abbrev pM:YF:=["_law_cell_here"]
theorem tP:aO ["_law_cell_here", "_law_more"] pM (au pK):=oF
noncomputable abbrev wo(P:YL)(w:World)(K:YE)(mg:YA)(base:Heap):Prop:=bu P w K mg base "_law_pen" pM 1 iH
theorem CV(D:Df K mg "_law_pen" pM pK)(T:Txt K mg):wo P w K mg base:=
 bu.eq (Df.has (k:=0) D tP (λf cdv A outer s H E hr=>
  av (gK 1 tP.nd (lF (Qw rfl) T.n_max NK (ae (dv 0) (ae (bj Mh aG (dv 0)) ai))))
  (aE (aP (Ct (ae (dv 1) (ae (kU Mi T.n_int Iq (ae (kh SD (dv 1) (cR 8 (d:=.int (10^18)) (Lit.of #[8]) #[9]) #[7]) ai)) ai))))))) #[8]
noncomputable abbrev mZ:Stmt:=top 39
noncomputable abbrev nc:YF:=["_law_pen_here", "_law_many"]
theorem f6:aO ["_law_pen_here", "_law_many", "_law_rest", "_law_drawn", "_law_stir"] nc (au mZ):=oF
noncomputable abbrev dJ(P:YL)(w:World)(K:YE)(mg:YA)(base:Heap):Prop:=bu P w K mg base "_law_draw" nc 1 aA
theorem Bw(D:Df K mg "_law_draw" nc mZ)(T:Txt K mg):dJ P w K mg base:=
 bu.eq (Df.has (k:=0) D f6 (λf cdv A outer s H E hr=>
  av (dE (bL (Cw hr) (cH (bg hr) (dv 0) aG (λ_ _=>rfl)) aG #[7]) (av (kj (lF H9 T.n_divmod Fv (ae (cH (bg hr) (dv 0) aG (λ_ _=>rfl)) (ae (dv 1) ai))) (pE rfl (bX (dg 2 f6.nd) (bX (dg 3 f6.nd) g9)) (bo (bo eS))))
  (av (kj (dv 2) (Im hr (dv 0) aG (λ_=>rfl)))
  (aE (aP (dv 3))))) bD)
  (av (gK 4 f6.nd (bj AG (bj x5 (bj eB (bj AG (cH (bg hr) (dv 0) aG (λ_ _=>rfl)) aG) aG) aG) aG))
  (av (gK 4 f6.nd (bj AG (bj eB (bj x5 (dv 4) (dv 4)) aG) aG))
  (av (kj (bj AG (bj eB (bj x5 (dv 4) aG) aG) aG) (Im hr (dv 0) aG (λ_=>rfl)))
  (aE (aP (bj AG (bj HQ (cH (bg hr) (dv 0) aG (λ_ _=>rfl)) aG) (dv 1))))))))) #[8]
noncomputable abbrev kI:Stmt:=top 40
noncomputable abbrev kJ:YF:=["_law_pen_here", "_law_most"]
theorem oY:aO ["_law_pen_here", "_law_most", "_law_left"] kJ (au kI):=oF
theorem ue:(["_law_lap", "_law_pen_here", "_law_most", "_law_left"]:YF).Nodup:=by decide +kernel
noncomputable abbrev qV(P:YL)(w:World)(K:YE)(mg:YA)(base:Heap):Prop:=bu P w K mg base "_law_names" kJ 2 kz
theorem zD(D:Df K mg "_law_names" kJ kI)(T:Txt K mg)(J39:dJ P w K mg base):qV P w K mg base:=
 bu.eq ((Df.has (k:=1) D oY (λf cdv A outer s H E hr=>
  av (gK 2 oY.nd (Ct (ae dC (ae dC (ae dC (ae dC (ae dC (ae dC (ae dC (ae dC (ae dC (ae dC (ae dC (ae dC ai))))))))))))))
  (aE (aP (kU (fA rfl) T.n_tuple bI (ae (lF (mf hr) T.n_sorted fI (ae (cf ["_law_lap"] #[7] rfl (y7 #[7] T.n_range (ae (fZ J39 aT hr (ae (dv 0) (ae (bj eB (dv 1) aG) ai))) ai)) (λ_ _ _ _ _=>dg 0 ue) (λ_ _ _ _ _=>eA) (λ_ _ _ _ _=>Ib (dv 3) (fZ J39 cL hr (ae (dv 1) (ae (lF jQ T.n_len gp (ae (dv 3) ai)) ai))))) ai)) ai)))))).gI) #[8]
noncomputable abbrev pN:Stmt:=top 41
noncomputable abbrev pO:YF:=["_law_pen_here", "_law_most"]
theorem fM:aO ["_law_pen_here", "_law_most", "_law_names_here", "_law_share", "_law_strikes", "_law_one"] pO (au pN):=oF
theorem xt:(["_law_other", "_law_pen_here", "_law_most", "_law_names_here", "_law_share", "_law_strikes", "_law_one"]:YF).Nodup:=by decide +kernel
noncomputable abbrev wq(P:YL)(w:World)(K:YE)(mg:YA)(base:Heap):Prop:=bu P w K mg base "_law_web" pO 3 kA
theorem CW(D:Df K mg "_law_web" pO pN)(T:Txt K mg)(J39:dJ P w K mg base)(J40:qV P w K mg base):wq P w K mg base:=
 bu.eq (Df.has (k:=2) D fM (λf cdv A outer s H E hr=>
  av (kj (dD (ae (fZ J40 aT hr (ae (dv 0) (ae (dv 1) ai))) (ae (cH (bg hr) (cR 8 (d:=.list [.int 1,.int 2,.int 3,.int 5]) (Lit.of #[8]) #[9]) (fZ J39 aT hr (ae (dv 0) (ae aG ai))) (λ_ _=>rfl)) (ae (cR 8 (d:=.list []) (Lit.of #[8]) #[9]) ai)))) (pE rfl (bX (dg 2 fM.nd) (bX (dg 3 fM.nd) (bX (dg 4 fM.nd) g9))) (bo (bo (bo eS)))))
  (av (pF rfl (cy (dv 2)) (dg 5 fM.nd) (aE (gK 4 fM.nd (bj eB (dv 4) (cf ["_law_other"] #[7] rfl (cy (dv 2)) (λ_ _ _ _ _=>dg 0 xt) (λ_ _ _ _ _=>gD (bL (FT hr) (fZ J39 cL hr (ae (dv 1) (ae aG ai))) (dv 4) #[7])) (λ_ _ _ _ _=>dD (ae (dv 6) (ae (dv 0) ai))))))))
  (aE (aP (dD (ae (dv 2) (ae (kU (fA rfl) T.n_tuple bI (ae (dv 4) ai)) ai)))))))) #[8]
noncomputable abbrev pP:Stmt:=top 42
noncomputable abbrev pQ:YF:=["_law_pen_here"]
theorem ng:aO ["_law_pen_here", "_law_some"] pQ (au pP):=oF
noncomputable abbrev wt(P:YL)(w:World)(K:YE)(mg:YA)(base:Heap):Prop:=bu P w K mg base "_law_odd" pQ 2 jb
theorem CY(D:Df K mg "_law_odd" pQ pP)(T:Txt K mg)(J39:dJ P w K mg base):wt P w K mg base:=
 bu.eq (Df.has (k:=1) D ng (λf cdv A outer s H E hr=>
  av (gK 1 ng.nd (cR 8 (d:=.list [.none,.bool true,.bool false,.int 0,.int 1,.int (-1),.int (10^29),.str "",.str "a",.str "A",.str "abcdefg",.str "a b",.str "in",.tuple [],.list [],.dict [],.tuple [.int 0],.list [.str "a"]]) (Lit.of #[8]) #[9]))
  (av (gK 1 ng.nd (bj eB (dv 1) (cR 8 (d:=.list [.tuple [.str "a"],.tuple [.str "a",.str "a"],.tuple [.tuple [.str "a"],.tuple []],.tuple [.tuple [],.tuple []],.dict [(.str "a",.int 1)],.tuple [.str "in"],.tuple [.tuple [.str "a",.str "a"]],.tuple [.str "leaf",.str "a"]]) (Lit.of #[8]) #[9])))
  (aE (aP (cH (bg hr) (dv 1) (fZ J39 aT hr (ae (dv 0) (ae aG ai))) (λ_ _=>rfl))))))) #[8]
noncomputable abbrev iP:Stmt:=top 43
noncomputable abbrev iQ:YF:=["_law_thing"]
theorem uf:aO ["_law_thing"] iQ (au iP):=oF
theorem qW:(["_law_sign", "_law_thing"]:YF).Nodup:=by decide +kernel
noncomputable abbrev ni(P:YL)(w:World)(K:YE)(mg:YA)(base:Heap):Prop:=bu P w K mg base "_law_is_name" iQ 1 cz
theorem wu(D:Df K mg "_law_is_name" iQ iP)(T:Txt K mg):ni P w K mg base:=
 bu.eq (Df.has (k:=0) D uf (λf cdv A outer s H E hr=>
  av (dE (DW.dt (iC (cV (bU (vC (DP _) Ha T.n_isinstance T.n_str (dv 0)))) (iB (cV (AN FU FU aG (lF jQ T.n_len gp (ae (dv 0) ai)) aG))))) (aE (aP cK)) bD)
  (aE (aP (kh (Cw hr) (cf ["_law_sign"] #[7] rfl (cy (dv 0)) (λ_ _ _ _ _=>dg 0 qW) (λ_ _ _ _ _=>gD (bL (s9 hr) (dv 0) dC #[7])) (λ_ _ _ _ _=>dv 0)) (cR 8 (d:=.list []) (Lit.of #[8]) #[9]) #[7]))))) #[8]
noncomputable abbrev gv:Stmt:=top 44
noncomputable abbrev gw:YF:=["_law_thing"]
theorem qY:aO ["_law_thing"] gw (au gv):=oF
theorem gX:(["_law_one", "_law_other", "_law_thing"]:YF).Nodup:=by decide +kernel
noncomputable abbrev jW(P:YL)(w:World)(K:YE)(mg:YA)(base:Heap):Prop:=bu P w K mg base "_law_is_rising" gw 1 eU
theorem sE(D:Df K mg "_law_is_rising" gw gv)(T:Txt K mg):jW P w K mg base:=
 bu.eq (Df.has (k:=0) D qY (λf cdv A outer s H E hr=>
  aE (aP (kh (Cw hr) (cf ["_law_one", "_law_other"] #[7] rfl (HI #[7] T.n_zip (ae (dv 0) (ae (fo (dv 0) (eT aG) hE) ai))) (λ_ _ _ _ _=>pE rfl (bX (dg 0 gX) (bX (dg 1 gX) g9)) (bo (bo eS))) (λ_ _ _ _ _=>gD (cV (bL (FT hr) (dv 0) (dv 1) #[7]))) (λ_ _ _ _ _=>aG)) (cR 8 (d:=.list []) (Lit.of #[8]) #[9]) #[7])))) #[8]
noncomputable abbrev jA:Stmt:=top 45
noncomputable abbrev jB:YF:=["_law_thing"]
theorem f7:aO ["_law_thing", "_law_names_here", "_law_strikes", "_law_strike"] jB (au jA):=oF
theorem jX:(["_law_one", "_law_thing", "_law_names_here", "_law_strikes", "_law_strike"]:YF).Nodup:=by decide +kernel
theorem sF:(["_law_piece", "_law_thing", "_law_names_here", "_law_strikes", "_law_strike"]:YF).Nodup:=by decide +kernel
noncomputable abbrev oZ(P:YL)(w:World)(K:YE)(mg:YA)(base:Heap):Prop:=bu P w K mg base "_law_is_web" jB 2 cq
theorem xu(D:Df K mg "_law_is_web" jB jA)(T:Txt K mg)(J44:jW P w K mg base)(J43:ni P w K mg base):oZ P w K mg base:=
 bu.eq (Df.has (k:=1) D f7 (λf cdv A outer s H E hr=>
  av (dE (DW.dt (iC (cV (bU (vC (kit_tuple _) bI T.n_isinstance T.n_tuple (dv 0)))) (iC (bL (rR hr) (lF jQ T.n_len gp (ae (dv 0) ai)) aG #[7]) (iB (cV (bU (lF (sY rfl) T.n_all lU (ae (cf ["_law_piece"] #[7] rfl (cy (dv 0)) (λ_ _ _ _ _=>dg 0 sF) (λ_ _ _ _ _=>eA) (λ_ _ _ _ _=>vC (kit_tuple _) bI T.n_isinstance T.n_tuple (dv 0))) ai)))))))) (aE (aP cK)) bD)
  (av (kj (dv 0) (pE rfl (bX (dg 1 f7.nd) (bX (dg 2 f7.nd) g9)) (bo (bo eS))))
  (av (dE (DW.dt (iC (bL Qt (lF jQ T.n_len gp (ae (dv 1) ai)) aG #[7]) (iC (cV (bU (lF (sY rfl) T.n_all lU (ae (cf ["_law_one"] #[7] rfl (cy (dv 1)) (λ_ _ _ _ _=>dg 0 jX) (λ_ _ _ _ _=>eA) (λ_ _ _ _ _=>fZ J43 cL hr (ae (dv 0) ai))) ai)))) (iB (cV (bU (fZ J44 aT hr (ae (dv 1) ai)))))))) (aE (aP cK)) bD)
  (av (pF rfl (cy (dv 2)) (dg 3 f7.nd) (av (dE (DW.dt (iC (cV (bU (vC (kit_tuple _) bI T.n_isinstance T.n_tuple (dv 3)))) (iC (bL (rR hr) (lF jQ T.n_len gp (ae (dv 3) ai)) aG #[7]) (iB (cV (bU (lF (sY rfl) T.n_all lU (ae (cf ["_law_one"] #[7] rfl (cy (dv 3)) (λ_ _ _ _ _=>dg 0 jX) (λ_ _ _ _ _=>eA) (λ_ _ _ _ _=>fZ J43 cL hr (ae (dv 0) ai))) ai)))))))) (aE (aP cK)) bD)
  (aE (dE (DW.dt (iC (bL (s9 hr) (cH (bg hr) (dv 3) aG (λ_ _=>rfl)) (dv 1) #[7]) (iB (bL (s9 hr) (cH (bg hr) (dv 3) aG (λ_ _=>rfl)) (dv 1) #[7])))) (aE (aP cK)) bD))))
  (aE (aP (fZ J44 aT hr (ae (dv 2) ai))))))))) #[8]
noncomputable abbrev nj:Stmt:=top 46
noncomputable abbrev jg:YF:=["_law_pen_here", "_law_thing"]
theorem f9:aO ["_law_pen_here", "_law_thing", "_law_way", "_law_odds", "_law_at"] jg (au nj):=oF
noncomputable abbrev Bx(P:YL)(w:World)(K:YE)(mg:YA)(base:Heap):Prop:=bu P w K mg base "_law_bent" jg 7 (de 5)
theorem tQ(D:Df K mg "_law_bent" jg nj)(T:Txt K mg)(J39:dJ P w K mg base):∀n:Nat,bu P w K mg base "_law_bent" jg (2+n) (de n)
 |0=>D.has f9 (λ_ _ _ _ _ _ _ _=>KD)
 |n+1=>by
  have ih:=tQ D T J39 n
  exact bu.eq (Df.has (k:=2+n) D f9 (λf cdv A outer s H E hr=>
  av (gK 2 f9.nd (fZ J39 aT hr (ae (dv 0) (ae aG ai))))
  (av (dE (DW.dt (iC (cV (bU (vC (kit_tuple _) bI T.n_isinstance T.n_tuple (dv 1)))) (iC (bL (Cw hr) (dv 1) (cR 8 (d:=.tuple []) (Lit.of #[8]) #[9]) #[7]) (iB (bL (FT hr) (dv 2) aG #[7]))))) (av (gK 3 f9.nd (cR 8 (d:=.list [.none,.str "",.str "a",.str "zz",.str "A",.str "abcdefg",.int 7,.tuple [],.tuple [.str "a",.str "a"],.list [],.bool true,.tuple [.str "a"],.str "in",.str "open"]) (Lit.of #[8]) #[9]))
  (aE (aP (cH (bg hr) (dv 3) (fZ J39 aT hr (ae (dv 0) (ae aG ai))) (λ_ _=>rfl))))) bD)
  (av (gK 4 f9.nd (fZ J39 aT hr (ae (dv 0) (ae (lF jQ T.n_len gp (ae (dv 1) ai)) ai))))
  (av (dE (bL (FT hr) (dv 2) aG #[7]) (aE (aP (bj eB (bj eB (fo (dv 1) hE (eT (dv 4))) (dD (ae (fZ ih aT hr (ae (dv 0) (ae (cH (bg hr) (dv 1) (dv 4) (λ_ _=>rfl)) ai))) ai))) (fo (dv 1) (eT (bj eB (dv 4) aG)) hE)))) bD)
  (aE (aP (cH (bg hr) (fh (ae (bj eB (fo (dv 1) hE (eT (dv 4))) (fo (dv 1) (eT (bj eB (dv 4) aG)) hE)) (ae (kU Ej T.n_list DQ (ae (dv 1) ai)) (ae (bj eB (dv 1) (fo (dv 1) (eT (dv 4)) (eT (bj eB (dv 4) aG)))) ai)))) (bj Mh (dv 2) aG) (λ_ _=>rfl))))))))) #[8]
noncomputable abbrev pR:Stmt:=top 47
noncomputable abbrev pS:YF:=["_law_pen_here", "_law_web_here"]
theorem By:aO ["_law_pen_here", "_law_web_here"] pS (au pR):=oF
theorem xw:(["_law_name", "_law_pen_here", "_law_web_here"]:YF).Nodup:=by decide +kernel
noncomputable abbrev wx(P:YL)(w:World)(K:YE)(mg:YA)(base:Heap):Prop:=bu P w K mg base "_law_lot" pS 2 iI
theorem CZ(D:Df K mg "_law_lot" pS pR)(T:Txt K mg)(J39:dJ P w K mg base):wx P w K mg base:=
 bu.eq (Df.has (k:=1) D By (λf cdv A outer s H E hr=>
  aE (aP (kU (fA rfl) T.n_tuple bI (ae (cf ["_law_name"] #[7] rfl (cy (cH (bg hr) (dv 1) aG (λ_ _=>rfl))) (λ_ _ _ _ _=>dg 0 xw) (λ_ _ _ _ _=>gD (bL (Cw hr) (fZ J39 cL hr (ae (dv 1) (ae aG ai))) aG #[7])) (λ_ _ _ _ _=>dv 0)) ai))))) #[8]
noncomputable abbrev iR:Stmt:=top 48
noncomputable abbrev iS:YF:=["_law_pen_here", "_law_web_here"]
theorem lg:aO ["_law_pen_here", "_law_web_here", "_law_some"] iS (au iR):=oF
theorem qZ:(["_law_one", "_law_pen_here", "_law_web_here", "_law_some"]:YF).Nodup:=by decide +kernel
noncomputable abbrev nu(P:YL)(w:World)(K:YE)(mg:YA)(base:Heap):Prop:=bu P w K mg base "_law_no_webs" iS 8 iJ
theorem wy(D:Df K mg "_law_no_webs" iS iR)(T:Txt K mg)(J45:oZ P w K mg base)(J42:wt P w K mg base)(J46:Bx P w K mg base):nu P w K mg base:=
 bu.eq (Df.has (k:=7) D lg (λf cdv A outer s H E hr=>
  av (gK 2 lg.nd (fh (ae gZ (ae (cR 8 (d:=.tuple []) (Lit.of #[8]) #[9]) (ae (fh (ae (dv 1) ai)) (ae (cH (bg hr) (dv 1) aG (λ_ _=>rfl)) (ae (dD (ae (cH (bg hr) (dv 1) aG (λ_ _=>rfl)) ai)) (ae (kU Ej T.n_list DQ (ae (dv 1) ai)) (ae (dD (ae (cH (bg hr) (dv 1) aG (λ_ _=>rfl)) (ae (cH (bg hr) (dv 1) aG (λ_ _=>rfl)) (ae (cR 8 (d:=.tuple []) (Lit.of #[8]) #[9]) ai)))) (ae (fZ J46 aT hr (ae (dv 0) (ae (dv 1) ai))) (ae (fZ J42 aT hr (ae (dv 0) ai)) ai)))))))))))
  (aE (aP (cf ["_law_one"] #[7] rfl (cy (dv 2)) (λ_ _ _ _ _=>dg 0 qZ) (λ_ _ _ _ _=>gD (cV (bU (fZ J45 cL hr (ae (dv 0) ai))))) (λ_ _ _ _ _=>dv 0)))))) #[8]
noncomputable abbrev jC:Stmt:=top 52
noncomputable abbrev jD:YF:=["_law_strikes", "_law_changes"]
theorem nv:aO ["_law_strikes", "_law_changes", "_law_left"] jD (au jC):=oF
theorem jY:(["_law_one", "_law_strikes", "_law_changes", "_law_left"]:YF).Nodup:=by decide +kernel
noncomputable abbrev o4(P:YL)(w:World)(K:YE)(mg:YA)(base:Heap):Prop:=bu P w K mg base "_law_turned" jD 1 fV
theorem xx(D:Df K mg "_law_turned" jD jC)(T:Txt K mg):o4 P w K mg base:=
 bu.eq (Df.has (k:=0) D nv (λf cdv A outer s H E hr=>
  av (gK 2 nv.nd (bj eB (cf ["_law_one"] #[7] rfl (cy (dv 0)) (λ_ _ _ _ _=>dg 0 jY) (λ_ _ _ _ _=>gD (bL (s9 hr) (dv 0) (dv 2) #[7])) (λ_ _ _ _ _=>dv 0)) (cf ["_law_one"] #[7] rfl (cy (dv 1)) (λ_ _ _ _ _=>dg 0 jY) (λ_ _ _ _ _=>gD (bL (s9 hr) (dv 0) (dv 1) #[7])) (λ_ _ _ _ _=>dv 0))))
  (aE (aP (kU (fA rfl) T.n_tuple bI (ae (lF (K4 hr) T.n_sorted fI (ae (dv 2) ai)) ai)))))) #[8]
noncomputable abbrev ny:Stmt:=top 51
noncomputable abbrev nA:YF:=["_law_pen_here", "_law_web_here", "_law_far"]
theorem eY:aO ["_law_pen_here", "_law_web_here", "_law_far", "_law_names_here", "_law_strikes", "_law_again", "_law_two"] nA (au ny):=oF
noncomputable abbrev tR(P:YL)(w:World)(K:YE)(mg:YA)(base:Heap):Prop:=bu P w K mg base "_law_mate" nA 2 eV
theorem Bz(D:Df K mg "_law_mate" nA ny)(T:Txt K mg)(J39:dJ P w K mg base)(J52:o4 P w K mg base):tR P w K mg base:=
 bu.eq (Df.has (k:=1) D eY (λf cdv A outer s H E hr=>
  av (kj (dv 1) (pE rfl (bX (dg 3 eY.nd) (bX (dg 4 eY.nd) g9)) (bo (bo eS))))
  (av (pF rfl (y7 #[7] T.n_range (ae (bj x5 (fZ J39 cL hr (ae (dv 0) (ae (bj eB (dv 2) aG) ai))) (kU Mi T.n_int Iq (ae (kh (rR hr) (dv 3) (cR 8 (d:=.tuple []) (Lit.of #[8]) #[9]) #[7]) ai))) ai)) (dg 5 eY.nd) (av (gK 6 eY.nd (dD (ae (cH (bg hr) (dv 3) (fZ J39 cL hr (ae (dv 0) (ae (lF jQ T.n_len gp (ae (dv 3) ai)) ai))) (λ_ _=>rfl)) (ae (cH (bg hr) (dv 3) (fZ J39 cL hr (ae (dv 0) (ae (lF jQ T.n_len gp (ae (dv 3) ai)) ai))) (λ_ _=>rfl)) ai))))
  (aE (gK 4 eY.nd (fZ J52 cL hr (ae (dv 4) (ae (dD (ae (dv 6) ai)) ai)))))))
  (aE (aP (dD (ae (dv 3) (ae (dv 4) ai)))))))) #[8]
noncomputable abbrev kK:Stmt:=top 53
noncomputable abbrev kL:YF:=["_law_names_here"]
theorem xy:aO ["_law_names_here"] kL (au kK):=oF
theorem ug:(["_law_sign", "_law_names_here"]:YF).Nodup:=by decide +kernel
noncomputable abbrev q9(P:YL)(w:World)(K:YE)(mg:YA)(base:Heap):Prop:=bu P w K mg base "_law_fresh" kL 1 hV
theorem zE(D:Df K mg "_law_fresh" kL kK)(T:Txt K mg):q9 P w K mg base:=
 bu.eq (Df.has (k:=0) D xy (λf cdv A outer s H E hr=>
  aE (aP (fo (cf ["_law_sign"] #[7] rfl (cy dC) (λ_ _ _ _ _=>dg 0 ug) (λ_ _ _ _ _=>gD (bL (s9 hr) (dv 0) (dv 1) #[7])) (λ_ _ _ _ _=>dv 0)) hE (eT aG))))) #[8]
noncomputable abbrev nB:Stmt:=top 54
noncomputable abbrev nC:YF:=["_law_names_here", "_law_hit", "_law_held"]
theorem gb:aO ["_law_names_here", "_law_hit", "_law_held", "_law_plain", "_law_own", "_law_rows"] nC (au nB):=oF
theorem nE:(["_law_name", "_law_names_here", "_law_hit", "_law_held", "_law_plain", "_law_own", "_law_rows"]:YF).Nodup:=by decide +kernel
noncomputable abbrev tT(P:YL)(w:World)(K:YE)(mg:YA)(base:Heap):Prop:=bu P w K mg base "_law_test" nC 2 jc
theorem BA(D:Df K mg "_law_test" nC nB)(T:Txt K mg)(J53:q9 P w K mg base):tT P w K mg base:=
 bu.eq (Df.has (k:=1) D gb (λf cdv A outer s H E hr=>
  av (kj (fZ J53 aT hr (ae (dv 0) ai)) (Ex rfl (bX (dg 3 gb.nd) (bX (dg 4 gb.nd) g9)) (bo (bo eS))))
  (av (Kq (i:=5) ["_law_name"] gb.nd rfl rfl #[7] rfl (cy (dv 1)) (λ_ _ _ _ _=>dg 0 nE) (λ_ _ _ _ _=>eA) (λ_ _ _ _ _=>dD (ae (dv 4) (ae (dv 0) ai))))
  (av (dE (bL (Cw hr) (dv 2) (cR 8 (d:=.tuple []) (Lit.of #[8]) #[9]) #[7]) (aE (aP (dD (ae (kU (fA rfl) T.n_tuple bI (ae (lF (Ez hr) T.n_sorted fI (ae (bj eB (dD (ae (dv 3) ai)) (dv 1)) ai)) ai)) (ae (kU (fA rfl) T.n_tuple bI (ae (lF (mf hr) T.n_sorted fI (ae (dv 5) ai)) ai)) ai))))) bD)
  (av (gK 5 gb.nd (bj eB (bj eB (dv 5) (fh (ae (dD (ae (dv 4) (ae (dv 4) ai))) ai))) (cf ["_law_name"] #[7] rfl (cy (dv 2)) (λ_ _ _ _ _=>dg 0 nE) (λ_ _ _ _ _=>eA) (λ_ _ _ _ _=>dD (ae (dv 5) (ae (dv 0) ai))))))
  (aE (aP (dD (ae (kU (fA rfl) T.n_tuple bI (ae (lF (Ez hr) T.n_sorted fI (ae (bj eB (bj eB (dD (ae (dv 3) (ae (dv 4) ai))) (dv 1)) (dv 2)) ai)) ai)) (ae (kU (fA rfl) T.n_tuple bI (ae (lF (mf hr) T.n_sorted fI (ae (dv 5) ai)) ai)) ai)))))))))) #[8]
noncomputable abbrev aW:Stmt:=top 55
noncomputable abbrev eM:YF:=["_law_pen_here", "_law_one", "_law_other"]
theorem bG:aO ["_law_pen_here", "_law_one", "_law_other", "_law_bad", "_law_words", "_law_far"] eM (au aW):=oF
noncomputable abbrev gN(P:YL)(w:World)(K:YE)(mg:YA)(base:Heap):Prop:=bu P w K mg base "_law_refused_right" eM 9 df
theorem nF(D:Pn K mg "_law_refused_right" eM aW hZ)(T:Txt K mg)(J35:pJ P w K mg base)(J48:nu P w K mg base)(HS:yP P w K mg base "_law_said" ["_law_call"] 7 (xT P w K mg base 6 (Et XE)))(HX:Eu mg [0,1,4] XE)(BM:BMod base mg bm):gN P w K mg base:=
 bu.eq ((Pn.has (k:=8) D bG (λf c A outer s H E ht hr=>
  av (pF rfl (cy (fZ J48 cL hr (ae (dv 0) (ae (dv 1) ai)))) (dg 3 bG.nd) (av (gK 4 bG.nd (fh (ae (oh (X:=(fe (iZ P w) P w K mg base ["_law_pen_here", "_law_one", "_law_other", "_law_bad", "_law_words", "_law_far"] "_law_refused_right" (au aW) f (.ref c) A outer s H E).JA) (cl:=[0,1,4]) (N2:=["_law_bad"]) 0 [3] ia rfl HS HX (hr.mono #[4]) rfl ht BM (λf c' clos A outer s H E' hr=>fZ J35 jL hr (ae (dv 0) (ae gZ (ae gZ (ae gZ ai))))) #[7]) ai)))
  (aE (dE (bL (rR hr) (bj eB (dv 4) (fh (ae (oh (X:=(fe (iZ P w) P w K mg base ["_law_pen_here", "_law_one", "_law_other", "_law_bad", "_law_words", "_law_far"] "_law_refused_right" (au aW) f (.ref c) A outer s H E).JA) (cl:=[0,1,4]) (N2:=["_law_one", "_law_bad"]) 0 [1,3] ia rfl HS HX (hr.mono #[4]) rfl ht BM (λf c' clos A outer s H E' hr=>fZ J35 jL hr (ae (dv 0) (ae (dv 1) (ae gZ (ae gZ ai))))) #[7]) ai))) (bj x5 (cR 8 (d:=.list [.tuple [.str "web"]]) (Lit.of #[8]) #[9]) aG) #[7]) (aE (aP cK)) bD))))
  (av (gK 5 bG.nd (dD (ae (kU (fA rfl) T.n_tuple bI (ae (CQ rfl hr T.n_sorted T.n_set (bj eB (cH (bg hr) (dv 1) aG (λ_ _=>rfl)) (cR 8 (d:=.tuple [.str "qq"]) (Lit.of #[8]) #[9]))) ai)) (ae (cR 8 (d:=.tuple []) (Lit.of #[8]) #[9]) ai))))
  (av (dE (bL (rR hr) (oh (X:=(fe (iZ P w) P w K mg base ["_law_pen_here", "_law_one", "_law_other", "_law_bad", "_law_words", "_law_far"] "_law_refused_right" (au aW) f (.ref c) A outer s H E)) (cl:=[0,1,4]) (N2:=["_law_one", "_law_far"]) 0 [1,5] ia rfl HS HX (hr.mono #[4]) rfl ht BM (λf c' clos A outer s H E' hr=>fZ J35 jL hr (ae (dv 0) (ae (dv 1) (ae gZ (ae gZ ai))))) #[7]) (cR 8 (d:=.tuple [.str "pair"]) (Lit.of #[8]) #[9]) #[7]) (aE (aP cK)) bD)
  (av (pF rfl (cy (cR 8 (d:=.list [.none,.list [],.tuple [.str "qq"],.tuple [.str "zz",.str "a"],.tuple [.str "a",.str "a"],.str "",.int 7,.tuple [.none],.dict [],.tuple [.str "A"],.tuple [.tuple [.str "a"]]]) (Lit.of #[8]) #[9])) (dg 3 bG.nd) (av (gK 4 bG.nd (fh (ae (oh (X:=(fe (iZ P w) P w K mg base ["_law_pen_here", "_law_one", "_law_other", "_law_bad", "_law_words", "_law_far"] "_law_refused_right" (au aW) f (.ref c) A outer s H E).JA) (cl:=[0,1,4]) (N2:=["_law_one", "_law_other", "_law_bad"]) 0 [1,2,3] ia rfl HS HX (hr.mono #[4]) rfl ht BM (λf c' clos A outer s H E' hr=>fZ J35 jL hr (ae (dv 0) (ae (dv 1) (ae (dv 2) (ae gZ ai))))) #[7]) ai)))
  (aE (dE (bL (rR hr) (bj eB (dv 4) (fh (ae (oh (X:=(fe (iZ P w) P w K mg base ["_law_pen_here", "_law_one", "_law_other", "_law_bad", "_law_words", "_law_far"] "_law_refused_right" (au aW) f (.ref c) A outer s H E).JA) (cl:=[0,1,4]) (N2:=["_law_one", "_law_other", "_law_bad"]) 0 [1,2,3] ia rfl HS HX (hr.mono #[4]) rfl ht BM (λf c' clos A outer s H E' hr=>fZ J35 jL hr (ae (dv 0) (ae (dv 1) (ae (cR 8 (d:=.tuple []) (Lit.of #[8]) #[9]) (ae (dv 2) ai))))) #[7]) ai))) (bj x5 (cR 8 (d:=.list [.tuple [.str "lot"]]) (Lit.of #[8]) #[9]) aG) #[7]) (aE (aP cK)) bD))))
  (av (dE (DW.dt (HF (bL (rR hr) (cH (bg hr) (dv 1) aG (λ_ _=>rfl)) (cR 8 (d:=.tuple []) (Lit.of #[8]) #[9]) #[7]) (Ec (bL (rR hr) (oh (X:=(fe (iZ P w) P w K mg base ["_law_pen_here", "_law_one", "_law_other", "_law_bad", "_law_words", "_law_far"] "_law_refused_right" (au aW) f (.ref c) A outer s H E)) (cl:=[0,1,4]) (N2:=["_law_one", "_law_other"]) 0 [1,2] ia rfl HS HX (hr.mono #[4]) rfl ht BM (λf c' clos A outer s H E' hr=>fZ J35 jL hr (ae (dv 0) (ae (dv 1) (ae (cH (bg hr) (dv 0) aG (λ_ _=>rfl)) (ae (fo (cH (bg hr) (dv 0) aG (λ_ _=>rfl)) hE (eT aG)) ai))))) #[7]) (cR 8 (d:=.tuple [.str "lot"]) (Lit.of #[8]) #[9]) #[7])))) (aE (aP cK)) bD)
  (aE (aP cK)))))))).gI) #[8]
noncomputable abbrev rf:Stmt:=top 56
noncomputable abbrev QM:YF:=["_law_script"]
theorem jE:aO ["_law_script", "_law_cell_here", "_law_pen_here", "_law_one", "_law_other", "_law_stood", "_law_lap", "_law_hit", "_law_held", "_law_due"] QM (au rf):=oF
theorem IZ:(["_law_name", "_law_script", "_law_cell_here", "_law_pen_here", "_law_one", "_law_other", "_law_stood", "_law_lap", "_law_hit", "_law_held", "_law_due"]:YF).Nodup:=by decide +kernel
theorem OI{f:Addr}{fd:FuncData}(Fu:GB K "law" "law" rf f fd)(T:Txt K mg)(J37:tO P w K mg base)(J55:gN P w K mg base)(J35:pJ P w K mg base)(J54:tT P w K mg base)(J39:dJ P w K mg base)(J47:wx P w K mg base)(J51:tR P w K mg base)(J41:wq P w K mg base)(J38:wo P w K mg base):oD P w K mg base (iZ P w) 10 f fd ["_law_script"] (Kr ⟨P,w,mg,K⟩ A5):=
 Oo (TN (k:=9) Fu jE (λcdv A outer s H E hr=>
  av (pF rfl (cy (bj eB (fh (ae (fZ J37 cL hr (ae (dv 0) (ae aG ai))) ai)) (F6 (dv 0) (eT aG) (eT aG)))) (dg 1 jE.nd) (av (gK 2 jE.nd (fZ J38 cL hr (ae (dv 1) ai)))
  (av (gK 3 jE.nd (fZ J41 cL hr (ae (dv 2) (ae aG ai))))
  (av (gK 4 jE.nd (fZ J51 cL hr (ae (dv 2) (ae (dv 3) (ae aG ai)))))
  (av (gK 5 jE.nd (lF (zd hr) T.n_repr um (ae (fh (ae (dv 3) (ae (dv 4) ai))) ai)))
  (av (pF rfl (y7 #[7] T.n_range (ae aG ai)) (dg 6 jE.nd) (av (gK 7 jE.nd (cH (bg hr) (fh (ae (fZ J47 cL hr (ae (dv 2) (ae (dv 3) ai))) (ae (cR 8 (d:=.tuple []) (Lit.of #[8]) #[9]) (ae (cH (bg hr) (dv 3) aG (λ_ _=>rfl)) ai)))) (bj HQ (fZ J39 cL hr (ae (dv 2) (ae aG ai))) aG) (λ_ _=>rfl)))
  (av (gK 8 jE.nd (kU (fA rfl) T.n_tuple bI (ae (cf ["_law_name"] #[7] rfl (cy (cH (bg hr) (dv 3) aG (λ_ _=>rfl))) (λ_ _ _ _ _=>dg 0 IZ) (λ_ _ _ _ _=>gD (DW.dt (HF (bL (s9 hr) (dv 0) (dv 8) #[7]) (Ec (bL (Cw hr) (fZ J39 cL hr (ae (dv 3) (ae aG ai))) aG #[7]))))) (λ_ _ _ _ _=>dv 0)) ai)))
  (av (gK 9 jE.nd (fZ J54 cL hr (ae (cH (bg hr) (dv 3) aG (λ_ _=>rfl)) (ae (dv 7) (ae (dv 8) ai)))))
  (aE (dE (bL (rR hr) (lF (zd hr) T.n_repr um (ae (fh (ae (fZ J35 cL hr (ae (dv 3) (ae (dv 4) (ae (dv 7) (ae (dv 8) ai))))) (ae (fZ J35 cL hr (ae (dv 3) (ae (dv 4) (ae (dv 7) (ae (dv 8) ai))))) ai))) ai)) (lF (zd hr) T.n_repr um (ae (fh (ae (dv 9) (ae (dv 9) ai))) ai)) #[7]) (aE (aP cK)) bD))))))
  (aE (dE (DW.dt (iC (cV (bU (fZ J55 cL hr (ae (dv 2) (ae (dv 3) (ae (dv 4) ai)))))) (iB (bL (rR hr) (lF (zd hr) T.n_repr um (ae (fh (ae (dv 3) (ae (dv 4) ai))) ai)) (dv 5) #[7])))) (aE (aP cK)) bD))))))))
  (aE (aP cK)))) #[8]
end
end K40
namespace K40
open PySem L2 Wh
noncomputable abbrev sG:Stmt:=top 49
noncomputable abbrev yq:Stmt:=top 50
@[irreducible] noncomputable def Pq:Stmt:=QE (cb sG) 5
@[irreducible] noncomputable def eX:Expr:=Ou Pq
@[irreducible] noncomputable def Uv:YG:=QD eX
@[irreducible] noncomputable def pX:Pos:=Ov Pq
@[irreducible] noncomputable def qX:Pos:=QC Pq
@[irreducible] noncomputable def lX:Pos:=Ow eX
theorem OJ:Pq=.Assign [.Name "_law_words" qX] eX pX:=by kernel_rfl
theorem QN:eX=.List Uv lX:=by kernel_rfl
theorem SJ:Lit 4 eX (.list (fH.map .str)):=Lit.of #[8]
noncomputable abbrev xN(i:Nat):Stmt:=QE (cb sG) i
theorem QO:cb sG=[xN 0,xN 1,xN 2,xN 3,xN 4,Pq,xN 6]:=by kernel_rfl
theorem Pr:aO ["_law_e", "_law_some", "_law_words"] ["_law_e"] (au sG):=⟨rfl,rfl,rfl,by decide +kernel,rfl,by decide +kernel,by decide +kernel⟩
section
variable {P:YL} {w:World} {K:YE} {mg:YA} {base:Heap} {cs:Nat->Addr} {WE:Addr}
theorem isQ{X:Cx}{x:Str}{C:Addr}{p p1 p2 pos:Pos}(B:X.mg "isinstance" = none)(hm:X.mg x=some (.ref C))(hN:X.N[0]?=some ("_law_e" : Str):=by rfl)(hv:GD X.env.scope "_law_e" := by exact Or.inl rfl)(g1:Gl X "isinstance" := by rfl)(g2:Gl X x:=by rfl)(hd:(x==("__debug__" : Str))=false:=by decide)
 (h1:starEach [.Name "_law_e" p1,.Name x p2] X.env=(false,eval (.Name "_law_e" p1) X.env)::starEach [.Name x p2] X.env:=by rfl)(h2:starEach [.Name x p2] X.env=(false,eval (.Name x p2) X.env)::starEach [] X.env:=by rfl)(h3:(backTo pos (starEach [.Name x p2] X.env)).any (·.1)=false:=by rfl) :
  PE X (.Call (.Name "isinstance" p) [.Name "_law_e" p1,.Name x p2] [] pos) (P4 (Hk X.K) (oG (BY 0) (oG (tC (.ref C)) B6))):=Oy X.K rfl B hN hv hm g1 g2 hd h1 h2 h3
noncomputable abbrev m0(j:Nat):List V:=[.bl (decide (0=j)),.bl (decide (1=j)),.bl (decide (2=j)),.bl (decide (3=j))]
noncomputable abbrev m4(j:Nat):List V:=[.bl (decide (4=j)),.bl (decide (5=j)),.bl (decide (6=j)),.bl (decide (7=j))]
noncomputable abbrev m8(j:Nat):List V:=[.bl (decide (8=j)),.bl (decide (9=j)),.bl (decide (10=j)),.bl (decide (11=j))]
noncomputable abbrev mC(j:Nat):List V:=[.bl (decide (12=j)),.bl (decide (13=j))]
set_option maxHeartbeats 2000000 in
theorem I9{f:Addr}{fd:FuncData}(F:GB K "_law_marks" "_law_marks" sG f fd)(TB:mg "isinstance" = none)(C:KL mg cs):DV P w K mg base 1 f fd ["_law_e"] (uq K cs):=by
 refine F.Um Pr (λvs H Q E h=>?_) (λcdv A outer s H vs Q E hr h=>?_)
 ·obtain⟨_,_,_,rfl,_⟩:=h;rfl
 ·obtain⟨a,D,j,rfl,ha,kd,k⟩:=h;rw[QO]
  refine⟨_,(gH (st:=xN 0) (o8 (i:=1) Pr.nd rfl (Or.inl rfl) (lK (bh (isQ TB C.m0) (bh (isQ TB C.m1) (bh (isQ TB C.m2) (bh (isQ TB C.m3) fc))))))
   (gH (st:=xN 1) (o8 (i:=1) Pr.nd rfl (Or.inl rfl) (xE uL (pv 1) (lK (bh (isQ TB C.m4) (bh (isQ TB C.m5) (bh (isQ TB C.m6) (bh (isQ TB C.m7) fc)))))))
   (gH (st:=xN 2) (o8 (i:=1) Pr.nd rfl (Or.inl rfl) (xE uL (pv 1) (lK (bh (isQ TB C.m8) (bh (isQ TB C.m9) (bh (isQ TB C.m10) (bh (isQ TB C.m11) fc)))))))
   (gH (st:=xN 3) (o8 (i:=1) Pr.nd rfl (Or.inl rfl) (xE uL (pv 1) (lK (bh (isQ TB C.m12) (bh (isQ TB C.m13) fc)))))
   (gH (st:=xN 4) (L3 (PW.pt (L0 (yC L6 (GZ Xz PySem.F.slot_list_count PySem.F.type_list_count Fz (pv 1) (bh Ds fc)) BZ (GQ _)) (GG (GH (MW (qb xQ #[7] TB jm (bh (pv 0) (bh (Dt (v:=.ty "ValueError") #[7] C.ve QF rfl) fc)))))))) (p9 (uG o6)) Du)
   (gH (st:=Pq) (t:=B0 (Hb (.list (fH.map .str))) (aC 2)) (by rw[OJ];exact Ox QN SJ Pr.nd rfl (Or.inl rfl) rfl)
   (p9 (st:=xN 6) (uG (L8 uj (xE uL (pv 2) (lK (bh o6 (bh o6 fc)))) (GZ Xz PySem.F.slot_list_index PySem.F.type_list_index FA (pv 1) (bh Ds fc)) (λ_ _=>rfl)))))))))),?_⟩
  obtain⟨mk1,mk2,mk3,_,_⟩:=Iy j kd.lt;refine⟨_,rfl,a,D,_,_,_,rfl,rfl,ha,kd.ec,kd.k 0 #[5],_,rfl,a,D,_,_,_,rfl,rfl,ha,kd.ec,kd.k 1 #[5],_,rfl,a,D,_,_,_,rfl,rfl,ha,kd.ec,kd.k 2 #[5],_,rfl,a,D,_,_,_,rfl,rfl,ha,kd.ec,kd.k 3 #[5],by show 4<=sizeLine;decide,λp0 hp0=>?_⟩;have s0:=aX.new (o:=.lst (m0 j)) hp0;have ha0:=s0 _ _ ha;have hl0:upd H p0 (.lst (m0 j)) p0=some (.lst (m0 j)):=aM;generalize upd H p0 (.lst (m0 j))=H0 at s0 ha0 hl0 ⊢;refine⟨_,rfl,_,rfl,a,D,_,_,_,rfl,rfl,ha0,kd.ec,kd.k 4 #[5],_,rfl,a,D,_,_,_,rfl,rfl,ha0,kd.ec,kd.k 5 #[5],_,rfl,a,D,_,_,_,rfl,rfl,ha0,kd.ec,kd.k 6 #[5],_,rfl,a,D,_,_,_,rfl,rfl,ha0,kd.ec,kd.k 7 #[5],by show 4<=sizeLine;decide,λr1 hr1=>⟨p0,r1,_,_,rfl,rfl,(aX.new hr1) _ _ hl0,aM,by show 8<=sizeLine;decide,λp1 hp1=>?_⟩⟩;have t1:aX H (upd (upd H0 r1 (.lst (m4 j))) p1 (.lst (m0 j++m4 j))):=(s0.trans (aX.new hr1)).trans (aX.new hp1);have ha1:=t1 _ _ ha;have hl1:upd (upd H0 r1 (.lst (m4 j))) p1 (.lst (m0 j++m4 j)) p1=some (.lst (m0 j++m4 j)):=aM;generalize upd (upd H0 r1 (.lst (m4 j))) p1 (.lst (m0 j++m4 j))=H1 at t1 ha1 hl1 ⊢;refine⟨_,rfl,_,rfl,a,D,_,_,_,rfl,rfl,ha1,kd.ec,kd.k 8 #[5],_,rfl,a,D,_,_,_,rfl,rfl,ha1,kd.ec,kd.k 9 #[5],_,rfl,a,D,_,_,_,rfl,rfl,ha1,kd.ec,kd.k 10 #[5],_,rfl,a,D,_,_,_,rfl,rfl,ha1,kd.ec,kd.k 11 #[5],by show 4<=sizeLine;decide,λr2 hr2=>⟨p1,r2,_,_,rfl,rfl,(aX.new hr2) _ _ hl1,aM,by show 12<=sizeLine;decide,λp2 hp2=>?_⟩⟩;have t2:aX H (upd (upd H1 r2 (.lst (m8 j))) p2 (.lst ((m0 j++m4 j)++m8 j))):=(t1.trans (aX.new hr2)).trans (aX.new hp2);have ha2:=t2 _ _ ha;have hl2:upd (upd H1 r2 (.lst (m8 j))) p2 (.lst ((m0 j++m4 j)++m8 j)) p2=some (.lst ((m0 j++m4 j)++m8 j)):=aM;generalize upd (upd H1 r2 (.lst (m8 j))) p2 (.lst ((m0 j++m4 j)++m8 j))=H2 at t2 ha2 hl2 ⊢;refine⟨_,rfl,_,rfl,a,D,_,_,_,rfl,rfl,ha2,kd.ec,kd.k 12 #[5],_,rfl,a,D,_,_,_,rfl,rfl,ha2,kd.ec,kd.k 13 #[5],by show 2<=sizeLine;decide,λr3 hr3=>⟨p2,r3,_,_,rfl,rfl,(aX.new hr3) _ _ hl2,aM,by show 14<=sizeLine;decide,λp3 hp3=>?_⟩⟩;have t3:aX H (upd (upd H2 r3 (.lst (mC j))) p3 (.lst (((m0 j++m4 j)++m8 j)++mC j))):=(t2.trans (aX.new hr3)).trans (aX.new hp3);have ha3:=t3 _ _ ha;have hl:upd (upd H2 r3 (.lst (mC j))) p3 (.lst (((m0 j++m4 j)++m8 j)++mC j)) p3=some (.lst ((marks j).map V.bl)):=aM;generalize upd (upd H2 r3 (.lst (mC j))) p3 (.lst (((m0 j++m4 j)++m8 j)++mC j))=H3 at t3 ha3 hl ⊢;refine⟨_,rfl,.inl ⟨rfl,_,gY.of hl⟩,p3,marks j,rfl,rfl,hl,rfl,_,rfl,?_⟩;rw[mk1];refine NB ⟨_,rfl,a,D,_,_,_,rfl,rfl,ha3,kd.ec,kd.v,_,rfl,NB ?_⟩;intro rr H5 N5 s5 n5 h5;obtain⟨wa,wvs,rfl,hwa,rws⟩:=h5;obtain rfl:wvs=fH.map V.str:=x6 rws;have hwa5:=n5.same _ _ hwa;have hl5:=s5 _ _ hl;refine⟨_,rfl,by show 2<=sizeLine;decide,λp6 hp6=>⟨wa,p6,_,_,rfl,rfl,(aX.new hp6) _ _ hwa5,aM,by show 14<=sizeLine;decide,λp7 hp7=>?_⟩⟩;have s7:=(aX.new (o:=.lst [.str "many",.str "text"]) hp6).trans (aX.new (o:=.lst (fH.map V.str++[.str "many",.str "text"])) hp7);have hl7:=s7 _ _ hl5
  have ea:lL (fH.map V.str++[.str "many",.str "text"]) (j:Nat)=some (V.str (wordAt j)):=j8 (by
   have:fH.map V.str++[.str "many",.str "text"]=(fH++(["many", "text"]:YF)).map V.str:=by rw[List.map_append];rfl
   rw[this,VD,F1 j kd.lt]
   rfl)
  exact⟨_,rfl,.inl ⟨rfl,_,gY.of hl7⟩,p3,marks j,j,rfl,rfl,hl7,mk2,mk3,Nat.lt_trans kd.lt #[5],p7,_,(j:Nat),.str (wordAt j),rfl,rfl,gY.of aM,ea,k _ ((t3.trans s5).trans s7)⟩
noncomputable abbrev Gg:Stmt:=QE (cb yq) 0
theorem QP:cb yq=[.Try (KN Gg) [.ExceptHandler (some (.Name "WebError" (KP Gg))) (some "_law_e") (QE (AO Gg) 0::QE (AO Gg) 1::[]) (KO Gg)] [] [] (Oz Gg)]:=by kernel_rfl
theorem TU:aO ["_law_call", "_law_e", "_law_label"] ["_law_call"] (au yq):=⟨rfl,rfl,rfl,by decide +kernel,rfl,by decide +kernel,by decide +kernel⟩
theorem Ld{f:Addr}{fd:FuncData}(kl:Nat)(F:GB K "_law_said" "_law_said" yq f fd)(hWE:mg "WebError" = some (.ref WE))(FW:Cj P w K mg base "_law_marks" ["_law_e"] 1 (uq K cs)) :
  Hf P w K mg base Fi (kl+2) f fd ["_law_call"] (xT P w K mg base (kl+1) (Ml.Et (AQ K cs WE))):=by
 obtain⟨oc,od,kV,doc,pm,an,cdv,ct,osl,rfl,lk,hcd⟩:=F.ex;rw[QP]at lk ⊢;refine NR (k:=kl+1) (N:=["_law_call", "_law_e", "_law_label"]) (i:=1) (DC:=WE) lk hcd TU hWE rfl rfl rfl #[5] (λs vs H Q E h=>?_) (λA outer s H vs Q E hr h=>?_)
 ·obtain⟨_,_,rfl,_⟩:=h;rfl
 ·obtain⟨fl,G,rfl,LC,hM⟩:=h;refine⟨λEH=>M0 (Np (oG (tC (.str "told")) (oG (Qi G EH 0 H fl) B6))),TQ K cs,λEH XE hp=>?_,λa=>?_,?_⟩
  ·exact p9 (uG (yD (bh o6 (bh (Ck (X:=(fe Fi P w K mg base ["_law_call", "_law_e", "_law_label"] "_law_said" (au yq) f cdv A outer s H E).p8 XE) (i:=0) rfl rfl #[5] #[5] rfl LC hr hp) fc))))
  ·exact gH (o8 (i:=2) TU.nd rfl (Or.inl rfl) (NT FW ((hr.mono #[4]).held _) #[7] (bh (pv 1) fc))) (p9 (uG (GI (yC L5 (pv 2) o6 (GQ _)) Hj (yD (bh (pv 2) fc)))))
  ·exact⟨rfl,rfl,hM⟩
end
end K40
namespace Ml
open PySem
@[simp] theorem SK(i:Nat)(ρ:Fm)(h:Hm):af i ρ h=(match ρ[i]? with
 |some (some d)=>.ok d h
 |_=>.bad):=rfl
@[simp] theorem SM(d:PyData)(z0:Fm)(h:Hm):ah d z0 h=(.ok (.dat d) h):=rfl
@[simp] theorem TV(n:Str)(z0:Fm)(h:Hm):Uo n z0 h=(.ok (.fn n) h):=rfl
@[simp] theorem SN (z0:Fm)(h:Hm):aj  z0 h=(.ok [] h):=rfl
@[simp] theorem Rx(e:ME)(a:MA)(ρ:Fm)(h:Hm):aa e a ρ h=((e ρ h).bind λx h1=>(a ρ h1).bind λxs h2=>.ok (x::xs) h2):=rfl
@[simp] theorem SO(f:D->D->Hm->R D)(a b:ME)(ρ:Fm)(h:Hm):ak f a b ρ h=((a ρ h).bind λx h1=>(b ρ h1).bind λy h2=>f x y h2):=rfl
@[simp] theorem TX(f:D->Hm->R D)(a:ME)(ρ:Fm)(h:Hm):zX f a ρ h=((a ρ h).bind λx h1=>f x h1):=rfl
@[simp] theorem Ry(f:Fn)(a:MA)(ρ:Fm)(h:Hm):ag f a ρ h=((a ρ h).bind λxs h1=>f xs h1):=rfl
@[simp] theorem Rz(e:ME)(ρ:Fm)(h:Hm):aN e ρ h=((e ρ h).bind λx h1=>match x with
 |.dat (.bool b)=>.ok b h1
 |_=>.bad):=rfl
@[simp] theorem SQ(t:MT)(ρ:Fm)(h:Hm):eF t ρ h=((t ρ h).bind λb h1=>.ok (!b) h1):=rfl
@[simp] theorem SR(t u:MT)(ρ:Fm)(h:Hm):tY t u ρ h=((t ρ h).bind λb h1=>if b then u ρ h1 else .ok false h1):=rfl
@[simp] theorem TY(t u:MT)(ρ:Fm)(h:Hm):rF t u ρ h=((t ρ h).bind λb h1=>if b then .ok true h1 else u ρ h1):=rfl
@[simp] theorem SU(a b:ME)(ρ:Fm)(h:Hm):Sw a b ρ h=((aN a ρ h).bind λc h1=>if c then b ρ h1 else .ok (.bool false) h1):=rfl
@[simp] theorem TZ(a b:ME)(ρ:Fm)(h:Hm):Uq a b ρ h=((aN a ρ h).bind λc h1=>if c then .ok (.bool true) h1 else b ρ h1):=rfl
@[simp] theorem SV(a:ME)(ρ:Fm)(h:Hm):Hv a ρ h=((aN a ρ h).bind λc h1=>.ok (.bool !c) h1):=rfl
@[simp] theorem T3(t:MT)(a b:ME)(ρ:Fm)(h:Hm):Ur t a b ρ h=((t ρ h).bind λc h1=>if c then a ρ h1 else b ρ h1):=rfl
@[simp] theorem SW(a:MA):dG a=(ag gW a:ME):=rfl
@[simp] theorem SX(a:MA):dZ a=(ag iy a:ME):=rfl
@[simp] theorem SY(a:MA):Ax a=(ag sS a:ME):=rfl
@[simp] theorem RA (ρ:Fm)(h:Hm):cg  ρ h=(.ok (.nx ρ) h):=rfl
@[simp] theorem S3(a b:MS)(ρ:Fm)(h:Hm):aZ a b ρ h=((a ρ h).bind λf h1=>match f with
 |.nx ρ1=>b ρ1 h1
 |f=>.ok f h1):=rfl
@[simp] theorem S4(i:Nat)(e:ME)(ρ:Fm)(h:Hm):cx i e ρ h=((e ρ h).bind λx h1=>.ok (.nx (ρ.set i (some x))) h1):=rfl
@[simp] theorem RB(e:ME)(ρ:Fm)(h:Hm):oM e ρ h=((e ρ h).bind λ_ h1=>.ok (.nx ρ) h1):=rfl
@[simp] theorem S5(e:ME)(ρ:Fm)(h:Hm):bJ e ρ h=((e ρ h).bind λx h1=>.ok (.rt x) h1):=rfl
@[simp] theorem T4(t:MT)(a b:MS)(ρ:Fm)(h:Hm):jM t a b ρ h=((t ρ h).bind λc h1=>if c then a ρ h1 else b ρ h1):=rfl
@[simp] theorem QQ (ρ:Fm)(h:Hm):NZ  ρ h=(.ok (.bk ρ) h):=rfl
@[simp] theorem RC (ρ:Fm)(h:Hm):Ql  ρ h=(.ok (.ct ρ) h):=rfl
@[simp] theorem RD(i:Nat)(x:D)(ρ:Fm)(h:Hm):aC i x ρ h=(.ok (ρ.set i (some x)) h):=rfl
@[simp] theorem S6 (xs:List D)(ρ:Fm)(h:Hm):j6  xs ρ h=(match xs with
 | []=>.ok ρ h
 |_=>.bad):=rfl
@[simp] theorem RE(g:MG)(gs:FG)(xs:List D)(ρ:Fm)(h:Hm):cD g gs xs ρ h=(match xs with
 | []=>.bad
 |x::xs=>(g x ρ h).bind λρ1 h1=>gs xs ρ1 h1):=rfl
@[simp] theorem S7(gs:FG)(x:D)(ρ:Fm)(h:Hm):oC gs x ρ h=(match x with
 |.dat (.tuple ds)=>gs (ds.map D.dat) ρ h
 |_=>.bad):=rfl
@[simp] theorem S8(g:MG)(e:ME)(ρ:Fm)(h:Hm):oE g e ρ h=((e ρ h).bind λx h1=>(g x ρ h1).bind λρ1 h2=>.ok (.nx ρ1) h2):=rfl
@[simp] theorem S9(is:List Nat)(a:MA)(ρ:Fm)(h:Hm):Sx is a ρ h=((a ρ h).bind λxs h1=>match lV is xs ρ with
 |some ρ1=>.ok (.nx ρ1) h1
 |Option.none=>.bad):=rfl
@[simp] theorem RF(e:ME)(ρ:Fm)(h:Hm):D1 e ρ h=((e ρ h).bind λx h1=>match x with
 |.dat (.tuple ds)=>.ok (ds.map D.dat) h1
 |_=>.bad):=rfl
@[simp] theorem RG(e:ME)(ρ:Fm)(h:Hm):Hw e ρ h=((e ρ h).bind λx h1=>match x with
 |.dat (.list ds)=>.ok (ds.map D.dat) h1
 |_=>.bad):=rfl
@[simp] theorem RH(e:ME)(ρ:Fm)(h:Hm):Hx e ρ h=((e ρ h).bind λx h1=>match x with
 |.dat (.str s)=>.ok (signs s) h1
 |_=>.bad):=rfl
@[simp] theorem RI(e:ME)(ρ:Fm)(h:Hm):aQ e ρ h=(match e ρ h with
 |.ok (.dat (.tuple ds)) h1=>.ok (ds.map D.dat) h1
 |.ok (.dat (.list ds)) h1=>.ok (ds.map D.dat) h1
 |.ok (.dat (.str s)) h1=>.ok (signs s) h1
 |.ok (.ktup ds) h1=>.ok (ds.map D.dat) h1
 |.exc x h1=>.exc x h1
 |_=>.bad):=rfl
@[simp] theorem RJ(a:MA)(ρ:Fm)(h:Hm):oN a ρ h=((a ρ h).bind λxs h1=>match xs with
 | [.dat (.int j)]=>if -(2^62)<=j/\j<2^62 then .ok (nums 0 j.toNat) h1 else .bad
 |_=>.bad):=rfl
@[simp] theorem QR(a:MA)(ρ:Fm)(h:Hm):N0 a ρ h=((a ρ h).bind λxs h1=>match xs with
 | [.dat (.int i),.dat (.int j)]=>if -(2^62)<=i/\i<2^62/\-(2^62)<=j/\j<2^62 then .ok (nums i (j-i).toNat) h1 else .bad
 |_=>.bad):=rfl
@[simp] theorem RK(a:MA)(ρ:Fm)(h:Hm):uZ a ρ h=((a ρ h).bind λxs h1=>match xs with
 | [.dat (.tuple ds),.dat (.tuple es)]=>.ok (yS ds es) h1
 |_=>.bad):=rfl
@[simp] theorem Ta(it:MA)(g:MG)(b:MS)(ρ:Fm)(h:Hm):t8 it g b ρ h=((it ρ h).Ht.bind λxs h1=>fk g b xs ρ h1):=rfl
@[simp] theorem RL (z0:Fm)(h:Hm):cG  z0 h=(.ok true h):=rfl
@[simp] theorem RM(p n:Nat)(b:MS)(xs:List D)(h:Hm):bx p n b xs h=(if xs.length=p then(b (xs.map some++List.replicate (n-p) none) h).bind u0 else .bad):=rfl
@[simp] theorem RN(x:D)(h:Hm):truth x h=(match x with
 |.dat .none=>some false
 |.dat (.bool b)=>some b
 |.dat (.int i)=>some (i != 0)
 |.dat (.str s)=>if kc s.length then some ((s.length:Int) != 0)else Option.none
 |.dat (.tuple ds)=>some !ds.isEmpty
 |.dat (.list ds)=>some !ds.isEmpty
 |.ref i=>match h[i]? with
  |some (.lst xs)=>some !xs.isEmpty
  |_=>Option.none
 |_=>Option.none:Option Bool):=rfl
@[simp] theorem QS(e:ME)(ρ:Fm)(h:Hm):bK e ρ h=((e ρ h).bind λx h1=>match truth x h1 with
 |some b=>.ok b h1
 |Option.none=>.bad):=rfl
@[simp] theorem Tb(a b:ME)(ρ:Fm)(h:Hm):SF a b ρ h=((a ρ h).bind λx h1=>match truth x h1 with
 |some c=>if c then .ok x h1 else b ρ h1
 |none=>.bad):=rfl
@[simp] theorem RO(a b:ME)(ρ:Fm)(h:Hm):vB a b ρ h=((a ρ h).bind λx h1=>match truth x h1 with
 |some c=>if c then b ρ h1 else .ok x h1
 |none=>.bad):=rfl
@[simp] theorem QT(f g:D->D->Hm->R D)(a b c:ME)(ρ:Fm)(h:Hm):mi f g a b c ρ h=((a ρ h).bind λx h1=>(b ρ h1).bind λy h2=>(f x y h2).bind λz h3=>match z with
 |.dat (.bool k)=>if k then(c ρ h3).bind λw h4=>g y w h4 else .ok (.bool false) h3
 |_=>.bad):=rfl
@[simp] theorem T5(e:ME)(lo hi:Me)(ρ:Fm)(h:Hm):sT e lo hi ρ h=((e ρ h).bind λx h1=>(lo ρ h1).bind λl h2=>(hi ρ h2).bind λu h3=>Qn x l u h3):=rfl
@[simp] theorem RP (z0:Fm)(h:Hm):fm  z0 h=(.ok Option.none h):=rfl
@[simp] theorem RQ(e:ME)(ρ:Fm)(h:Hm):cP e ρ h=((e ρ h).bind λx h1=>match x with
 |.dat (.int i)=>.ok (some i) h1
 |_=>.bad):=rfl
@[simp] theorem T6(x:D)(lo hi:Option Int)(h:Hm):Qn x lo hi h=(match x with
 |.dat (.tuple ds)=>.ok (.dat (.tuple (cut ds lo hi))) h
 |.dat (.list ds)=>.ok (.dat (.list (cut ds lo hi))) h
 |_=>.bad:R D):=rfl
@[simp] theorem Tc(f:PyData->Bool)(x:D)(h:Hm):lC f x h=(match x with
 |.dat d=>.ok (.bool (f d)) h
 |_=>.bad):=rfl
@[simp] theorem Td(x y:D)(h:Hm):FH x y h=(match x,y with
 |.dat (.int i),.dat (.int j)=>.ok (.int (i-j)) h
 |_,_=>.bad:R D):=rfl
@[simp] theorem T7(x y:D)(h:Hm):Pm x y h=(match x,y with
 |.dat (.int i),.dat (.int j)=>.ok (.bool (decide (j<i))) h
 |_,_=>.bad:R D):=rfl
@[simp] theorem T8(x y:D)(h:Hm):Qm x y h=(match x,y with
 |.dat (.int i),.dat (.int j)=>.ok (.bool (decide (j<=i))) h
 |_,_=>.bad:R D):=rfl
@[simp] theorem Te(x:D)(h:Hm):Sy x h=(match x with
 |.dat (.int i)=>.ok (.int (-i)) h
 |_=>.bad:R D):=rfl
@[simp] theorem Pu(ρ:Fm):lV [] [] ρ=some ρ:=rfl
@[simp] theorem Py(i:Nat)(is:List Nat)(x:D)(xs:List D)(ρ:Fm):lV (i::is) (x::xs) ρ=lV is xs (ρ.set i (some x)):=rfl
@[simp] theorem Pz(i:Nat)(is:List Nat)(ρ:Fm):lV (i::is) [] ρ=none:=rfl
@[simp] theorem PB(x:D)(xs:List D)(ρ:Fm):lV [] (x::xs) ρ=none:=rfl
@[simp] theorem RS(d:D)(h:Hm):u0 (.rt d) h=.ok d h:=rfl
@[simp] theorem RT(ρ:Fm)(h:Hm):u0 (.nx ρ) h=.ok D.none h:=rfl
@[simp] theorem RU(ρ:Fm)(h:Hm):u0 (.bk ρ) h=.bad:=rfl
@[simp] theorem RV(ρ:Fm)(h:Hm):u0 (.ct ρ) h=.bad:=rfl
@[simp] theorem Le  : isTup .none=false:=rfl
@[simp] theorem Lf(b:Bool):isTup (.bool b)=false:=rfl
@[simp] theorem Mn(i:Int):isTup (.int i)=false:=rfl
@[simp] theorem Mo(s:Str):isTup (.str s)=false:=rfl
@[simp] theorem JC(xs:YB):isTup (.tuple xs)=true:=rfl
@[simp] theorem Lg(xs:YB):isTup (.list xs)=false:=rfl
@[simp] theorem Lh(xs:Yy):isTup (.dict xs)=false:=rfl
@[simp] theorem Li  : isStr .none=false:=rfl
@[simp] theorem Lj(b:Bool):isStr (.bool b)=false:=rfl
@[simp] theorem Mp(i:Int):isStr (.int i)=false:=rfl
@[simp] theorem Mq(s:Str):isStr (.str s)=true:=rfl
@[simp] theorem JD(xs:YB):isStr (.tuple xs)=false:=rfl
@[simp] theorem Lk(xs:YB):isStr (.list xs)=false:=rfl
@[simp] theorem Ll(xs:Yy):isStr (.dict xs)=false:=rfl
@[simp] theorem Lm  : isInt .none=false:=rfl
@[simp] theorem Ln(b:Bool):isInt (.bool b)=true:=rfl
@[simp] theorem Mr(i:Int):isInt (.int i)=true:=rfl
@[simp] theorem Ms(s:Str):isInt (.str s)=false:=rfl
@[simp] theorem JE(xs:YB):isInt (.tuple xs)=false:=rfl
@[simp] theorem Lo(xs:YB):isInt (.list xs)=false:=rfl
@[simp] theorem Lp(xs:Yy):isInt (.dict xs)=false:=rfl
@[simp] theorem Lq  : u7 .none=false:=rfl
@[simp] theorem Lr(b:Bool):u7 (.bool b)=true:=rfl
@[simp] theorem Mt(i:Int):u7 (.int i)=false:=rfl
@[simp] theorem Mu(s:Str):u7 (.str s)=false:=rfl
@[simp] theorem JF(xs:YB):u7 (.tuple xs)=false:=rfl
@[simp] theorem Ls(xs:YB):u7 (.list xs)=false:=rfl
@[simp] theorem Lu(xs:Yy):u7 (.dict xs)=false:=rfl
@[simp] theorem rep0{α:Type}(a:α):List.replicate 0 a=[]:=rfl
@[simp] theorem rep1{α:Type}(a:α):List.replicate 1 a=[a]:=rfl
@[simp] theorem rep2{α:Type}(a:α):List.replicate 2 a=[a,a]:=rfl
@[simp] theorem rep3{α:Type}(a:α):List.replicate 3 a=[a,a,a]:=rfl
@[simp] theorem Uw{α:Type}(a:α):List.replicate 4 a=[a,a,a,a]:=rfl
@[simp] theorem Ux{α:Type}(a:α):List.replicate 5 a=[a,a,a,a,a]:=rfl
@[simp] theorem Uy{α:Type}(a:α):List.replicate 6 a=[a,a,a,a,a,a]:=rfl
@[simp] theorem Uz{α:Type}(a:α):List.replicate 7 a=[a,a,a,a,a,a,a]:=rfl
@[simp] theorem UA{α:Type}(a:α):List.replicate 8 a=[a,a,a,a,a,a,a,a]:=rfl
@[simp] theorem UB{α:Type}(a:α):List.replicate 9 a=[a,a,a,a,a,a,a,a,a]:=rfl
theorem sz(h:n<=16777216):kc n=true:=Vz h
@[simp] theorem ou(ds:YB)(h:Hm)(hz:ds.length<=16777216):gW (ds.map D.dat) h=.ok (.dat (.tuple ds)) h:=by simp[gW,nQ,sz hz]
theorem dY(ds:YB)(h:Hm)(hz:ds.length<=16777216):iy (ds.map D.dat) h=.ok (.dat (.list ds)) h:=by simp[iy,nQ,sz hz]
@[simp] theorem Tf(h:Hm):gW [] h=.ok (.dat (.tuple [])) h:=ou [] h #[5]
@[simp] theorem C0(a:PyData)(h:Hm):gW [.dat a] h=.ok (.dat (.tuple [a])) h:=ou [a] h #[6]
@[simp] theorem OL(a b:PyData)(h:Hm):gW [.dat a,.dat b] h=.ok (.dat (.tuple [a,b])) h:=ou [a,b] h #[6]
@[simp] theorem OM(a b c:PyData)(h:Hm):gW [.dat a,.dat b,.dat c] h=.ok (.dat (.tuple [a,b,c])) h:=ou [a,b,c] h #[6]
@[simp] theorem Tg(h:Hm):iy [] h=.ok (.dat (.list [])) h:=dY [] h #[5]
@[simp] theorem wz(a:PyData)(h:Hm):iy [.dat a] h=.ok (.dat (.list [a])) h:=dY [a] h #[6]
@[simp] theorem zF(a b:PyData)(h:Hm):iy [.dat a,.dat b] h=.ok (.dat (.list [a,b])) h:=dY [a,b] h #[6]
@[simp] theorem Ja(a b c:PyData)(h:Hm):iy [.dat a,.dat b,.dat c] h=.ok (.dat (.list [a,b,c])) h:=dY [a,b,c] h #[6]
theorem nG(c:D->Bool)(f:D->D):∀{xs:List D},(∀x∈xs,∃ρ1,g x (List.replicate n none++ρ) h=.ok ρ1 h/\t ρ1 h=.ok (c x) h/\(c x=true->e ρ1 h=.ok (f x) h))->ee n ρ g t e xs h=.ok ((xs.filter c).map f) h
 | [],_=>rfl
 |x::xs,H=>by
  obtain⟨ρ1,h1,h2,h3⟩:=H x (UW ..);have ih:=nG c f λy hy=>H y (UQ _ hy);unfold ee;rw[h1];simp;rw[h2];simp
  cases hc:c x with
  |false=>grind
  |true=>
   simp_all
theorem wA(hit:it ρ h=.ok xs h1)(hz:xs.length<=16777216)(c:D->Bool)(f:D->PyData)
 (H:∀x∈xs,∃ρ1,g x (List.replicate n none++ρ) h1=.ok ρ1 h1/\t ρ1 h1=.ok (c x) h1/\(c x=true->e ρ1 h1=.ok (.dat (f x)) h1)):bE n it g t e ρ h=.ok (.dat (.list ((xs.filter c).map f))) h1:=by
 unfold bE ag iz;rw[hit];simp[sz hz];rw[nG c _ H];have e1:(List.map (λx=>D.dat (f x)) (List.filter c xs))=((xs.filter c).map f).map D.dat:=by simp
 rw[e1]
 exact dY _ _ (by
  rw[UZ]
  exact UP (WZ _ _) hz)
theorem cO{ds:YB}(hit:it ρ h=.ok (ds.map D.dat) h1)(hz:ds.length<=16777216)(f:PyData->PyData)
 (H:∀x∈ds,∃ρ1,g (.dat x) (List.replicate n none++ρ) h1=.ok ρ1 h1/\e ρ1 h1=.ok (.dat (f x)) h1):bE n it g cG e ρ h=.ok (.dat (.list (ds.map f))) h1:=by
 have:=wA (n:=n) (t:=cG) (g:=g) (e:=e) hit (by grind) (λ_=>true) (λx=>match x with|.dat d=>f d|_=>.none) (λx hx=>by
  obtain⟨d,hd,rfl⟩:=U0.mp hx
  simp_all)
 rw[this,show _=λ_=>true from rfl,List.filter_eq_self.mpr (λ_ _=>rfl),Xq];rfl
theorem ij{ds:YB}(hit:it ρ h=.ok (ds.map D.dat) h1)(hz:ds.length<=16777216)(c:PyData->Bool)(f:PyData->PyData)
 (H:∀x∈ds,∃ρ1,g (.dat x) (List.replicate n none++ρ) h1=.ok ρ1 h1/\t ρ1 h1=.ok (c x) h1/\(c x=true->e ρ1 h1=.ok (.dat (f x)) h1)):bE n it g t e ρ h=.ok (.dat (.list ((ds.filter c).map f))) h1:=by
 have:=wA (n:=n) (t:=t) (g:=g) (e:=e) hit (by grind) (λx=>match x with|.dat d=>c d|_=>false) (λx=>match x with|.dat d=>f d|_=>.none) (λx hx=>by
  obtain⟨d,hd,rfl⟩:=U0.mp hx
  grind)
 simp[this,List.filter_map,Function.comp_def]
theorem C1(bs:List Bool)(h:Hm):pj [.dat (.list (bs.map .bool))] h=.ok (.bool (bs.all id)) h:=by simp[pj,xX]
theorem C2(bs:List Bool)(h:Hm):FJ [.dat (.list (bs.map .bool))] h=.ok (.bool (bs.any id)) h:=by simp[FJ,xX]
theorem pT(I:Hm->Prop)(f:D->D->Prop):∀{xs:List D} {h:Hm},(∀x∈xs,∀h,I h->∃ρ1 h1 c h2,g x (List.replicate n none++ρ) h=.ok ρ1 h1/\t ρ1 h1=.ok c h2/\((c=false/\I h2)\/(c=true/\∃y h3,e ρ1 h2=.ok y h3/\f x y/\I h3)))->I h ->
  ∃ys zs h',ee n ρ g t e xs h=.ok ys h'/\I h'/\zs.Sublist xs/\PySem.Paired f zs ys
 | [],h,_,a=>⟨[],[],h,rfl,a,.slnil,.nil⟩
 |x::xs,h,H,a=>by
  obtain⟨ρ1,h1,c,h2,e1,e2,k⟩:=H x (UW ..) h a;unfold ee;rw[e1];simp only[R.gQ,R.bA];rw[e2];simp only[R.gQ,R.bA];rcases k with⟨rfl,a2⟩|⟨rfl,y,h3,e3,fy,a3⟩
  ·obtain⟨ys,zs,h',q1,q2,q3,q4⟩:=pT I f (xs:=xs) (λy hy=>H y (UQ _ hy)) a2
   grind
  ·obtain⟨ys,zs,h',q1,q2,q3,q4⟩:=pT I f (xs:=xs) (λy hy=>H y (UQ _ hy)) a3;refine⟨y::ys,x::zs,h',?_,q2,.cons_cons _ q3,.cons fy q4⟩;simp only[VT];rw[e3];simp only[R.gQ,R.bA];rw[q1];rfl
mutual
noncomputable def pU:PyData->Bool
 |.none|.bool _=>true
 |.int i=>decide (i.natAbs<10^30)
 |.str x=>PyData.strOk x
 |.tuple ds=>gk ds
 |.list ds=>gk ds
 |.dict _=>false
noncomputable def gk:YB->Bool
 | []=>true
 |d::ds=>pU d&&gk ds
end
theorem Gh(h:pU (.int i)=true):PyData.showable (.int i)=true/\PyData.intsShort 31 (.int i)=true:=by
 simp only[pU,U5]at h;refine⟨?_,?_⟩
 ·simp[PyData.showable];by_cases z:i.natAbs=0
  ·simp_all
  ·rw[Nat.log2_lt z]
   grind
 ·simp[PyData.intsShort];have e:=PySem.int_text_length_le10 #[5] h;show(Str.ofString _).length<=31;rw[ofString_length];exact e
mutual
theorem ow:∀{d:PyData},pU d=true->d.showable=true/\d.intsShort 31=true
 |.none,_=>by trivial
 |.bool _,_=>by trivial
 |.int _,h=>Gh h
 |.str x,h=>by trivial
 |.tuple ds,h=>kM h
 |.list ds,h=>kM h
 |.dict _,h=>by trivial
theorem kM:∀{ds:YB},gk ds=true->PyData.showableAll ds=true/\PyData.intsShortAll 31 ds=true
 | [],_=>by trivial
 |d::ds,h=>by simp only[gk,UI]at h;simp only[PyData.showableAll,PyData.intsShortAll,UI];exact⟨⟨(ow h.1).1,(kM h.2).1⟩,(ow h.1).2,(kM h.2).2⟩
end
mutual
theorem wB:∀{d:PyData},pU d=true->d.canLay0=true
 |.none,_=>by rfl
 |.bool _,_=>by rfl
 |.int _,h=>by rfl
 |.str x,h=>by assumption
 |.tuple ds,h=>sI h
 |.list ds,h=>sI h
 |.dict _,h=>by assumption
theorem sI:∀{ds:YB},gk ds=true->PyData.canLayAll0 ds=true
 | [],_=>by rfl
 |d::ds,h=>by simp only[gk,UI]at h;simp only[PyData.canLayAll0,UI];exact⟨wB h.1,sI h.2⟩
end
theorem ic:∀(a b:YB),gk (a++b)=(gk a&&gk b)
 | [],b=>by rfl
 |d::a,b=>by simp[gk,ic a b,Bool.and_assoc]
theorem jh:∀(a b:YB),PyData.weightAll (a++b)=PyData.weightAll a+PyData.weightAll b
 | [],b=>by simp[PyData.weightAll]
 |d::a,b=>by simp[PyData.weightAll,jh a b];omega
theorem ji:∀(a b:YB),PyData.depthAll (a++b)=max (PyData.depthAll a) (PyData.depthAll b)
 | [],b=>by rfl
 |d::a,b=>by simp only[WL,PyData.depthAll,ji a b];omega
theorem BB:∀(a:YB),a.length<=PyData.weightAll a
 | []=>by simp
 |d::a=>by
  have:=BB a
  grind[PyData.weightAll,List.length_cons]
theorem yr:∀{ds:YB} {d:PyData},gk ds=true->d∈ds->pU d=true
 |e::ds,d,h,m=>by
  simp[gk]at h;rcases UO.mp m with rfl|m
  ·grind
  ·exact yr h.2 m
theorem BC:∀{ds:YB},(∀d∈ds,pU d=true)->gk ds=true
 | [],_=>rfl
 |d::ds,h=>by simp[gk];exact⟨h d (UW ..),BC λe m=>h e (UQ _ m)⟩
theorem yt:∀{ds:YB} {d:PyData},d∈ds->d.depth<=PyData.depthAll ds
 |e::ds,d,m=>by
  simp[PyData.depthAll];rcases UO.mp m with rfl|m
  ·omega
  ·have:=yt m;omega
theorem fN:∀{ds:YB} {m:Nat},(∀d∈ds,d.depth<=m)->PyData.depthAll ds<=m
 | [],m,_=>by simp[PyData.depthAll]
 |d::ds,m,h=>by simp[PyData.depthAll];have h1:=h d (UW ..);have h2:=fN λe q=>h e (UQ _ q);omega
theorem wC:∀{ds:YB} {d:PyData},d∈ds->d.weight+1<=PyData.weightAll ds
 |e::ds,d,m=>by
  simp[PyData.weightAll];rcases UO.mp m with rfl|m
  ·omega
  ·have:=wC m;omega
theorem rg:∀{ds:YB} {n:Nat},(∀d∈ds,d.weight<=n)->PyData.weightAll ds<=ds.length*(n+1)
 | [],n,_=>by simp[PyData.weightAll]
 |d::ds,n,h=>by simp[PyData.weightAll,Nat.succ_mul];have h1:=h d (UW ..);have h2:=rg λe q=>h e (UQ _ q);omega
structure Ok(n m:Nat)(x:PyData):Prop where
 f:pU x=true
 d:x.depth<=m
 w:x.weight<=n
structure fO(n m:Nat)(ds:YB):Prop where
 f:gk ds=true
 d:PyData.depthAll ds<=m
 w:PyData.weightAll ds<=n
section
variable {n m n' m':Nat} {d x:PyData} {ds a b:YB}
theorem fO.tup(o:fO n m ds):Ok n (m+1) (.tuple ds):=⟨by simpa [pU]using o.f,by simp[PyData.depth];have:=o.d;omega,o.w⟩
theorem fO.lst(o:fO n m ds):Ok n (m+1) (.list ds):=⟨by simpa [pU]using o.f,by simp[PyData.depth];have:=o.d;omega,o.w⟩
theorem Ok.items(o:Ok n m (.tuple ds)):fO n (m-1) ds:=⟨by simpa [pU]using o.f,by have:=o.d;grind[PyData.depth],by have:=o.w;grind[PyData.weight]⟩
theorem fO.append(x:fO n1 m a)(y:fO n2 m b):fO (n1+n2) m (a++b):=
 ⟨by rw[ic,x.f,y.f];rfl,by rw[ji];exact Nat.max_le.mpr ⟨x.d,y.d⟩,by rw[jh];exact Nat.add_le_add x.w y.w⟩
theorem fO.one(x:Ok n m d):fO (n+1) m [d]:=⟨by simp[gk,x.f],by simp[PyData.depthAll];exact x.d,by simp[PyData.weightAll];exact x.w⟩
theorem fO.cons(x:Ok n m d)(y:fO n' m ds):fO (n+1+n') m (d::ds):=(fO.one x).append y
theorem fO.mono(x:fO n m a)(h1:n<=n')(h2:m<=m'):fO n' m' a:=⟨x.f,UP x.d h2,UP x.w h1⟩
theorem Ok.mono(x:Ok n m d)(h1:n<=n')(h2:m<=m'):Ok n' m' d:=⟨x.f,UP x.d h2,UP x.w h1⟩
theorem fO.mem(o:fO n m ds)(h:d∈ds):Ok n m d:=⟨yr o.f h,UP (yt h) o.d,by have:=wC h;have:=o.w;omega⟩
theorem fO.len(o:fO n m ds):ds.length<=n:=UP (BB ds) o.w
theorem fO.of(h:∀d∈ds,Ok n m d):fO (ds.length*(n+1)) m ds:=⟨BC λd q=>(h d q).f,fN λd q=>(h d q).d,rg λd q=>(h d q).w⟩
theorem Ok.QU(o:Ok n m d):noDict d=true:=by have:=PyData.hasDict_of_canLay d (wB o.f);simp[noDict,this]
theorem Ok.shown(o:Ok n m d)(h:n<=10000):d.shown.length<=16777216:=by
 have h1:=PyData.shown_le 31 #[5] d (PyData.leavesShort_of_canLay0 31 d (wB o.f) (ow o.f).2);have h2:=o.w
 grind
theorem Ok.rep(o:Ok n m d)(h:n<=10000)(h2:m<=40):Az d=true:=by have:=o.d;simp[Az];exact⟨⟨⟨(ow o.f).1,o.QU⟩,by omega⟩,sz (o.shown h)⟩
theorem Ok.str(o:Ok n m (.str s)):s.length<=n:=o.w
theorem fO.split(o:fO n m ds)(z:Nat)(hz:z<ds.length):∃x,ds[z]?=some x/\fO (PyData.weightAll (ds.take z)) m (ds.take z)/\Ok x.weight m x/\fO (PyData.weightAll (ds.drop (z+1))) m (ds.drop (z+1))/\PyData.weightAll (ds.take z)+(x.weight+1)+PyData.weightAll (ds.drop (z+1))<=n:=by
 have e:ds=ds.take z++([ds[z]]++ds.drop (z+1)):=by rw[List.singleton_append,<- VE hz,V4]
 have f:=o.f;have d:=o.d;have w:=o.w;rw[e,ic,ic,UI,UI]at f;rw[e,ji,ji]at d;rw[e,jh,jh]at w;have f2:pU ds[z]=true:=by simpa [gk]using f.2.1
 simp only[PyData.depthAll,PyData.weightAll]at d w;refine⟨ds[z],by simp[hz],⟨f.1,by omega,UJ _⟩,⟨f2,by omega,UJ _⟩,⟨f.2.2,by omega,UJ _⟩,by omega⟩
end
theorem BD(o:Ok n m d)(h:Hm)(hn:n<=10000)(hm:m<=40):kW [.dat d] h=.ok (.rpr d.shown) h:=by simp[kW,o.rep hn hm]
theorem ON(ds:YB)(z:Nat):cut ds none (some (z:Int))=ds.take z:=by
 grind[cut,fQ]
theorem BE(ds:YB)(z:Nat):cut ds (some (z:Int)) none=ds.drop z:=by
 simp only[cut,fQ];rw[if_neg #[4],VZ];by_cases h:z<=ds.length
 ·rw[Nat.min_eq_left h,XI #[6]]
 ·rw[Nat.min_eq_right #[4],WO (UJ _),WO #[4]];simp
theorem Lv(ds:YB)(z:Nat)(x:PyData)(h:ds[z]?=some x):cut ds (some (z:Int)) (some ((z:Int)+1))=[x]:=by obtain⟨hz,e⟩:=UM.mp h;simp only[cut,fQ];rw[if_neg #[4],if_neg #[4],VZ,show((z:Int)+1).toNat=z+1 by omega,Nat.min_eq_left #[4],Nat.min_eq_left #[4],Nat.add_sub_cancel_left,VE hz];simp[e]
theorem BF(ds:YB):cut ds (some 1) none=ds.drop 1:=BE ds 1
theorem Lw(xs:YB):PyData.eqv (.list xs) (.list [])=xs.isEmpty:=by cases xs<;>simp[PyData.eqv,PyData.eqvAll]
theorem EJ(o:fO n m xs)(h:Hm):oEq (.dat (.list xs)) (.dat (.list [])) h=.ok (.bool xs.isEmpty) h:=by
 have h1:PyData.hasDictAll xs=false:=by have:=o.lst.QU;grind[noDict,PyData.hasDict]
 simp[oEq,eqQ,h1,Lw,noDict,PyData.hasDict,PyData.hasDictAll,PyData.depth,PyData.depthAll]
theorem BG(o:fO n m xs)(h:Hm):oEq (.dat (.tuple xs)) (.dat (.tuple [])) h=.ok (.bool xs.isEmpty) h:=by
 have h1:PyData.hasDictAll xs=false:=by have:=o.tup.QU;grind[noDict,PyData.hasDict]
 have e:PyData.eqv (.tuple xs) (.tuple [])=xs.isEmpty:=by cases xs<;>simp[PyData.eqv,PyData.eqvAll]
 simp[oEq,eqQ,h1,e,noDict,PyData.hasDict,PyData.hasDictAll,PyData.depth,PyData.depthAll]
noncomputable def rh:MS:=bJ (ak oEq (bE 2 (uZ (aa (af 0) (aa (sT (af 0) (cP (ah (.int 1))) fm) aj))) (oC (cD (aC 0) (cD (aC 1) j6))) (eF (aN (ak oLt (af 0) (af 1)))) (ah (.int 1))) (ah (.list [])))
noncomputable def rj:Fn:=bx 1 1 rh
noncomputable def az(c:Nat):Bool:=decide (97<=c)&&decide (c<=122)
noncomputable def isName:PyData->Bool
 |.str x=>decide (1<=x.length)&&decide (x.length<=6)&&x.cps.toList.all az
 |_=>false
theorem T9(a c:Nat):decide ([a]<[c])=decide (a<c):=by
 rw[decide_eq_decide];constructor
 ·intro h
  cases h with
  |rel h=>exact h
  |cons h=>cases h
 ·intro h;exact .rel h
theorem Th:("a" : Str).cps.toList=[97]:=by rfl
theorem Ti:("z" : Str).cps.toList=[122]:=by rfl
theorem UC(c:Nat):(!pf (⟨#[c]⟩:Str) ("a" : Str))=decide (97<=c):=by
 unfold pf;rw[Th,show(_:Str).cps.toList=[c]from rfl,T9]
 grind
theorem ltZ(c:Nat):(!pf ("z" : Str) (⟨#[c]⟩:Str))=decide (c<=122):=by
 unfold pf;rw[Ti,show(_:Str).cps.toList=[c]from rfl,T9]
 grind
theorem wD(x:Str):signs x=(eJ x).map D.dat:=by simp[signs,eJ]
theorem wF(x:Str):(eJ x).length=x.length:=by simp[eJ];rfl
theorem wG(x:Str)(p:Nat->Bool)(q:PyData->Bool)(h:∀c,q (.str ⟨#[c]⟩)=p c):(eJ x).all q=x.cps.toList.all p:=by
 rw[Xu,UU,UU];constructor
 ·intro H c hc;obtain⟨i,hi,e⟩:=VW.mp hc
  have:=H (.str ⟨#[c]⟩) (by
   simp only[eJ,U0,U4];refine⟨i,by simpa using hi,?_⟩;have hi':i<x.cps.size:=by simpa using hi
   simp[Array.getD,hi']
   simpa using e)
  rw[h]at this;exact this
 ·intro H d hd;simp only[eJ,U0,U4]at hd;obtain⟨i,hi,rfl⟩:=hd;rw[h];apply H;have:x.cps.getD i 0=x.cps[i]:=by simp[Array.getD,hi]
  rw[this];simp
theorem oz(i j:Int)(h:Hm):oLe (.int i) (.int j) h=.ok (.bool (decide (i<=j))) h:=rfl
theorem EK(x y:Str)(h:Hm):oLe (.str x) (.str y) h=.ok (.bool (!pf y x)) h:=rfl
theorem jZ(h:Hm)(hz:x.length<=16777216):fF [.str x] h=.ok (.int x.length) h:=by simp[fF,sz hz]
@[simp] theorem QV(ds:YB)(h:Hm):fF [.dat (.tuple ds)] h=.ok (.int ds.length) h:=rfl
@[simp] theorem QW(ds:YB)(h:Hm):fF [.dat (.list ds)] h=.ok (.int ds.length) h:=rfl
noncomputable def bF{α:Type}(ds:List α)(f:α->Bool):Bool:=ds.all f
noncomputable def C3{α:Type}(ds:List α)(f:α->Bool):Bool:=ds.any f
theorem bM:bF ds f=true<->∀x∈ds,f x=true:=UU
theorem BH:C3 ds f=true<->∃x,x∈ds/\f x=true:=Xi
theorem j0:bF (a::ds) f=true<->f a=true/\bF ds f=true:=by simp[bF]
@[simp] theorem QX(f:α->Bool):bF [] f=true:=rfl
@[simp] theorem QY(f:α->Bool):C3 [] f=false:=rfl
theorem eN(ds:List α)(f:α->Bool)(h:Hm):pj [.dat (.list (ds.map λx=>.bool (f x)))] h=.ok (.bool (bF ds f)) h:=by
 unfold bF;have e1:ds.map (λx=>PyData.bool (f x))=(ds.map f).map .bool:=by simp
 rw[e1,C1]
 simp_all
theorem Jb(ds:List α)(f:α->Bool)(h:Hm):FJ [.dat (.list (ds.map λx=>.bool (f x)))] h=.ok (.bool (C3 ds f)) h:=by
 unfold C3;have e1:ds.map (λx=>PyData.bool (f x))=(ds.map f).map .bool:=by simp
 rw[e1,C2]
 simp_all
theorem C4(o:Ok n m d)(hn:n<=10000)(h:Hm):jS [.dat d] h=.ok (.bool (isName d)) h:=by
 unfold jS x8
 cases d with
 |str x=>
  have hx:x.length<=16777216:=UP o.str #[4]
  have key:bE 1 (aQ (af 0)) (aC 0) cG (mi oLe oLe (ah (.str "a")) (af 0) (ah (.str "z"))) [some (.str x)] h=.ok (.dat (.list ((eJ x).map λd=>.bool (match d with|.str y=>!pf y "a" && !pf "z" y|_=>false)))) h:=by
   refine cO (by simp[wD]) (by rw[wF];exact hx) _ λy hy=>?_;simp only[eJ,U0,U4]at hy;obtain⟨i,hi,rfl⟩:=hy;generalize (⟨#[x.cps.getD i 0]⟩:Str)=y;refine⟨_,rfl,?_⟩;by_cases z:pf y "a" = true
   ·simp[EK,z]
   ·simp[EK,z]
  by_cases h1:1<=(x.length:Int)
  ·by_cases h2:(x.length:Int)<=6
   ·simp[jZ h hx,oz,h1,h2,key,eN];unfold bF;rw[wG x az _ (λc=>by simp only[az,UC,ltZ])];simp[isName,show 1<=x.length by omega,show x.length<=6 by omega]
   ·simp[jZ h hx,oz,h1,h2,isName,show ¬ x.length<=6 by omega]
  ·simp[jZ h hx,oz,h1,isName,show ¬ 1<=x.length by omega]
 |_=>simp[isName]
noncomputable def jF(ds:YB):Bool:=bF (ds.zip ds.tail) λp=>ltB p.1 p.2
structure JG(ds:YB):Prop where
 nd:∀d∈ds,noDict d=true/\d.depth<=40
 lt:∀d∈ds,∀e∈ds,cj d e=some (ltB d e)
theorem Jc(h1:noDict d=true)(h2:noDict e=true)(h3:d.depth<=40)(h4:cj d e=some (ltB d e))(h:Hm):oLt (.dat d) (.dat e) h=.ok (.bool (ltB d e)) h:=by simp[oLt,h1,h2,h4,show min d.depth e.depth<=40 by omega]
theorem oA(i j:Int)(h:Hm):oLt (.int i) (.int j) h=.ok (.bool (decide (i<j))) h:=by rfl
theorem wH(h:∀d∈ds,∃x,d=.str x):JG ds:=⟨λd m=>by obtain⟨x,rfl⟩:=h d m;simp[noDict,PyData.hasDict,PyData.depth],λd m e m'=>by
 obtain⟨x,rfl⟩:=h d m
 grind[ltB,cj]⟩
theorem zG:∀(xs ys:YB),yS xs ys=((xs.zip ys).map λp=>PyData.tuple [p.1,p.2]).map D.dat
 | [],_=>by rfl
 |_::_,[]=>by rfl
 |x::xs,y::ys=>by simp[yS,zG xs ys]
theorem EL{xs:YB}(h:p∈xs.zip xs.tail):p.1∈xs/\p.2∈xs:=by have:=WU h;exact⟨this.1,List.mem_of_mem_tail this.2⟩
theorem ie(c:JG ds)(hz:ds.length<=16777216)(h:Hm):fK [.dat (.tuple ds)] h=.ok (.bool (jF ds)) h:=by
 unfold fK tj
 have key:bE 2 (uZ (aa (af 0) (aa (sT (af 0) (cP (ah (.int 1))) fm) aj))) (oC (cD (aC 0) (cD (aC 1) j6))) cG (ak oLt (af 0) (af 1)) [some (.dat (.tuple ds))] h=.ok (.dat (.list ((ds.zip ds.tail).map λp=>.bool (ltB p.1 p.2)))) h:=by
  rw[cO (h1:=h) (ds:=(ds.zip ds.tail).map λp=>PyData.tuple [p.1,p.2]) (by simp[BF,zG]) (by grind) (λd=>.bool (match d with|.tuple [a,b]=>ltB a b|_=>false)) λy hy=>?_]
  ·rw[Xq];rfl
  ·obtain⟨p,hp,rfl⟩:=U0.mp hy;obtain⟨m1,m2⟩:=EL hp;refine⟨_,rfl,?_⟩;simp[Jc (c.nd _ m1).1 (c.nd _ m2).1 (c.nd _ m1).2 (c.lt _ m1 _ m2)]
 simp[key,eN,jF]
theorem all_filter(l:List α)(p:α->Bool)(f:α->β):((l.filter λx=>!p x).map f).isEmpty=bF l p:=by
 unfold bF
 induction l with
 |nil=>rfl
 |cons a l ih=>cases h:p a<;>simp[h,<- ih]
theorem Lx(l:List α):fO (l.length*2) 0 (l.map λ_=>PyData.int 1):=by
 have:=fO.of (n:=1) (m:=0) (ds:=l.map λ_=>PyData.int 1) λd hd=>by obtain⟨_,_,rfl⟩:=U0.mp hd;exact⟨by decide,by decide,by trivial⟩
 simp_all
theorem zH(c:JG ds)(hz:ds.length<=16777216)(h:Hm):rj [.dat (.tuple ds)] h=.ok (.bool (jF ds)) h:=by
 unfold rj rh
 have key:=ij (n:=2) (it:=uZ (aa (af 0) (aa (sT (af 0) (cP (ah (.int 1))) fm) aj))) (g:=oC (cD (aC 0) (cD (aC 1) j6))) (t:=eF (aN (ak oLt (af 0) (af 1)))) (e:=ah (.int 1)) (ρ:=[some (.dat (.tuple ds))]) (h:=h) (h1:=h)
  (ds:=(ds.zip ds.tail).map λp=>PyData.tuple [p.1,p.2]) (by simp[BF,zG]) (by grind) (λd=>!(match d with|.tuple [a,b]=>ltB a b|_=>false)) (λ_=>.int 1) (λy hy=>by
   obtain⟨p,hp,rfl⟩:=U0.mp hy;obtain⟨m1,m2⟩:=EL hp;refine⟨_,rfl,?_,?_⟩
   ·simp[Jc (c.nd _ m1).1 (c.nd _ m2).1 (c.nd _ m1).2 (c.lt _ m1 _ m2)]
   ·intro _;simp)
 simp[key,EJ (Lx _)];have e:=all_filter ((ds.zip ds.tail).map λp=>PyData.tuple [p.1,p.2]) (λd=>match d with|.tuple [a,b]=>ltB a b|_=>false) (λ_=>PyData.int 1);have e2:jF ds=bF ((ds.zip ds.tail).map λp=>PyData.tuple [p.1,p.2]) (λd=>match d with|.tuple [a,b]=>ltB a b|_=>false):=by simp only[jF,bF,List.all_map];rfl
 simp_all
noncomputable abbrev wI:Str := "abcdefghijklmnopqrstuvwxyz"
theorem Gi:wI.cps.toList=(List.range 26).map (97+·):=by rfl
theorem Gj(c:Nat):decide (c∈wI.cps.toList)=az c:=by
 rw[Gi,az,Xu];simp;constructor
 ·omega
 ·intro _;exact⟨c-97,by omega,by omega⟩
theorem Gk(c:Nat)(h:Hm):gJ (.str ⟨#[c]⟩) (.str wI) h=.ok (.bool (!az c)) h:=by simp only[gJ,findIn,jN,kf];rw[StrLaws.found_one,Gj]
theorem Gm(hx:PyData.strOk x=true):∀d∈eJ x,Ok 1 0 d:=λd hd=>by simp only[eJ,U0]at hd;obtain⟨i,hi,rfl⟩:=hd;exact⟨y6 hx,by simp[PyData.depth],by simp[PyData.weight]⟩
theorem fO.sub{ds es:YB}(o:∀d∈ds,Ok n m d)(h:∀e∈es,e∈ds):fO (es.length*(n+1)) m es:=fO.of λd hd=>o d (h d hd)
noncomputable def RW:PyData->Bool
 |.str x=>az (x.cps.getD 0 0)
 |_=>false
theorem EM(c:Nat):RW (.str ⟨#[c]⟩)=az c:=by rfl
theorem nH(o:Ok n m d)(hn:n<=10000)(h:Hm):cz [.dat d] h=.ok (.bool (isName d)) h:=by
 unfold cz mv
 cases d with
 |str x=>
  have hx:x.length<=16777216:=UP o.str #[4];have hs:PyData.strOk x=true:=by have:=o.f;simpa [pU]using this
  have key:=ij (n:=1) (it:=aQ (af 0)) (g:=aC 0) (t:=aN (ak gJ (af 0) (ah (.str "abcdefghijklmnopqrstuvwxyz")))) (e:=af 0) (ρ:=[some (.str x)]) (h:=h) (h1:=h) (ds:=eJ x) (by simp[wD]) (by rw[wF];exact hx)
   (λd=>!RW d) id (λy hy=>by
    simp only[eJ,U0,U4]at hy;obtain⟨i,hi,rfl⟩:=hy;generalize x.cps.getD i 0=c;refine⟨_,rfl,?_,λ_=>?_⟩
    ·simp[Gk,EM]
    ·simp)
  by_cases h1:1<=(x.length:Int)
  ·by_cases h2:(x.length:Int)<=6
   ·have ok:=fO.sub (es:=((eJ x).filter (λd=>!RW d)).map id) (Gm hs) (by simp;exact λe a _=>a);simp only[Ye]at key ok;have e1:=all_filter (eJ x) RW id;unfold bF at e1;rw[wG x az _ EM,Ye]at e1;simp[jZ h hx,oz,h1,h2,key,EJ ok,-Xg,-List.isEmpty_iff];rw[e1];simp[isName,show 1<=x.length by omega,show x.length<=6 by omega]
   ·simp[jZ h hx,oz,h1,h2,isName,show ¬ x.length<=6 by omega]
  ·simp[jZ h hx,oz,h1,isName,show ¬ 1<=x.length by omega]
 |_=>simp[isName]
mutual
noncomputable def cm:PyData->PyData->Bool
 |.str _,.str _=>true
 |.int _,.int _=>true
 |.tuple xs,.tuple ys=>PC xs ys
 |_,_=>false
noncomputable def PC:YB->YB->Bool
 |x::xs,y::ys=>cm x y&&PC xs ys
 |_,_=>true
end
mutual
theorem C5:∀{d e:PyData},cm d e=true->(cj d e).isSome=true
 |.str _,e,h=>by cases e<;>simp_all[cm,cj]
 |.int _,e,h=>by cases e<;>simp_all[cm,cj]
 |.tuple xs,e,h=>by
  cases e with
  |tuple ys=>simp only[cj];exact EN h
  |_=>assumption
 |.none,_,h=>by assumption
 |.bool _,_,h=>by assumption
 |.list _,_,h=>by assumption
 |.dict _,_,h=>by assumption
theorem EN:∀{xs ys:YB},PC xs ys=true->(dH xs ys).isSome=true
 | [],[],_=>by rfl
 | [],_::_,_=>by rfl
 |_::_,[],_=>by rfl
 |x::xs,y::ys,h=>by
  simp only[PC,UI]at h;unfold dH;split
  ·exact EN h.2
  ·exact C5 h.1
end
theorem Ly(h:cm d e=true):cj d e=some (ltB d e):=by
 have:=C5 h;unfold ltB
 cases q:cj d e with
 |none=>grind
 |some b=>rfl
noncomputable def gx:PyData->Bool
 |.str _=>true
 |_=>false
theorem dh(h:gx d=true):∃x,d=.str x:=by cases d<;>simp_all[gx]
theorem wJ:∀{xs ys:YB},bF xs gx=true->bF ys gx=true->PC xs ys=true
 | [],_,_,_=>by rfl
 |_::_,[],_,_=>by rfl
 |x::xs,y::ys,h,k=>by have h:=j0.mp h;have k:=j0.mp k;obtain⟨a,rfl⟩:=dh h.1;obtain⟨b,rfl⟩:=dh k.1;simp[PC,cm,wJ h.2 k.2]
theorem JG.of(o:fO n m ds)(hm:m<=40)(h:∀d∈ds,∀e∈ds,cm d e=true):JG ds:=⟨λd q=>⟨(o.mem q).QU,by have:=(o.mem q).d;omega⟩,λd q e r=>Ly (h d q e r)⟩
noncomputable def sJ(ns:YB)(d:PyData):Bool:=ns.any λy=>PyData.eqv y d
theorem C6(o:Ok n m d):∀{ns:YB},bF ns gx=true->Hy d ns=some (sJ ns d)
 | [],_=>rfl
 |y::ns,h=>by
  have h:=j0.mp h;obtain⟨x,rfl⟩:=dh h.1;have ih:=C6 o h.2
  have e:FI (.str x) d=some (PyData.eqv (.str x) d):=by
   have hd  := o.QU;unfold FI;split
   ·rfl
   ·grind
   grind[eqQ,noDict,PyData.hasDict,PyData.depth]
  simp[Hy,e,ih,sJ]
theorem pV(o:Ok n m d)(h:bF ns gx=true)(hm:Hm):JB (.dat d) (.dat (.tuple ns)) hm=.ok (.bool (sJ ns d)) hm:=by simp[JB,findIn,jN,kf,C6 o h]
theorem uy(o:Ok n m d)(h:bF ns gx=true)(hm:Hm):gJ (.dat d) (.dat (.tuple ns)) hm=.ok (.bool (!sJ ns d)) hm:=by simp[gJ,findIn,jN,kf,C6 o h]
theorem eZ(h:bF ns gx=true):sJ ns d=true<->d∈ns:=by
 simp[sJ];constructor
 ·rintro⟨y,hy,e⟩;obtain⟨x,rfl⟩:=dh (bM.mp h y hy);cases d<;>simp[PyData.eqv]at e
  grind
 ·intro q;obtain⟨x,rfl⟩:=dh (bM.mp h d q)
  grind[PyData.eqv]
theorem C7(h:isName d=true):gx d=true:=by cases d<;>simp_all[isName,gx]
theorem iT(h:bF ds isName=true):bF ds gx=true:=bM.mpr λd m=>C7 (bM.mp h d m)
theorem wK(h:bF ds gx=true):∀d∈ds,∃x,d=.str x:=λd m=>dh (bM.mp h d m)
noncomputable def cJ:PyData->Bool
 |.tuple ds=>decide (ds.length<=12)&&bF ds isName&&jF ds
 |_=>false
theorem kN(o:Ok n m d)(hn:n<=10000)(h:Hm):i9 [.dat d] h=.ok (.bool (cJ d)) h:=by
 unfold i9 tm
 cases d with
 |tuple ds=>
  have hl:=o.items.len;have key:=cO (n:=1) (it:=aQ (af 0)) (g:=aC 0) (e:=ag jS (aa (af 0) aj)) (ρ:=[some (.dat (.tuple ds))]) (h:=h) (h1:=h) (ds:=ds) #[6] #[4] (λx=>.bool (isName x)) (λx hx=>⟨_,rfl,by simp[C4 (o.items.mem hx) hn]⟩);by_cases h1:ds.length<=12
  ·by_cases h2:bF ds isName=true
   ·have:=ie (wH (wK (iT h2))) #[4] h;simp[key,eN,h1,show ¬ (12:Int)<ds.length by omega,h2,this,cJ]
   ·simp[key,eN,h1,show ¬ (12:Int)<ds.length by omega,h2,cJ]
  ·simp[h1,show(12:Int)<ds.length by omega,cJ]
 |_=>simp[cJ]
noncomputable def gc(ns:YB):PyData->Bool
 |.tuple ds=>bF ds (sJ ns)&&jF ds
 |_=>false
theorem Gn(o:Ok n m d)(hn:n<=10000)(hs:bF ns gx=true)(h:Hm):mm [.dat d,.dat (.tuple ns)] h=.ok (.bool (gc ns d)) h:=by
 unfold mm AR
 cases d with
 |tuple ds=>
  have hl:=o.items.len;have key:=cO (n:=1) (it:=aQ (af 0)) (g:=aC 0) (e:=ak JB (af 0) (af 2)) (ρ:=[some (.dat (.tuple ds)),some (.dat (.tuple ns))]) (h:=h) (h1:=h) (ds:=ds) #[6] #[4] (λx=>.bool (sJ ns x)) (λx hx=>⟨_,rfl,by simp[pV (o.items.mem hx) hs]⟩);by_cases h2:bF ds (sJ ns)=true
  ·have:=ie (wH (λd m=>wK hs d ((eZ hs).mp (bM.mp h2 d m)))) #[4] h;simp[key,eN,h2,this,gc]
  ·simp[key,eN,h2,gc]
 |_=>simp[gc]
theorem jk(i j:Int)(h:Hm):j4 (.int i) (.int j) h=.ok (.bool (!(i==j))) h:=by rfl
noncomputable def zI:PyData->YB
 |.tuple ds=>ds
 |_=>[]
theorem zJ(h:cJ d=true):∃ds,d=.tuple ds/\ds.length<=12/\bF ds isName=true/\jF ds=true:=by
 cases d<;>simp[cJ]at h
 simp_all
@[simp] theorem Lz(ds:YB)(i:Int)(h:Hm):dz (.dat (.tuple ds)) (.int i) h=match lL ds i with|some d=>.ok (.dat d) h|none=>.bad:=rfl
@[simp] theorem zK(ds:YB)(i:Int)(h:Hm):dz (.dat (.list ds)) (.int i) h=match lL ds i with|some d=>.ok (.dat d) h|none=>.bad:=rfl
@[simp] theorem Ua(a:α)(r:List α):lL (a::r) 0=some a:=by simp[lL,xJ]
theorem j8{i:Nat}{a:α}(h:xs[i]?=some a):lL xs (i:Int)=some a:=by obtain⟨hi,e⟩:=UM.mp h;simp[lL,xJ,hi,e]
@[simp] theorem Ub(a b:α)(r:List α):lL (a::b::r) 1=some b:=j8 rfl
noncomputable def Wf(h:Hm):Prop:=∀o∈h,MO.below h.length o=true
theorem Wf.set(w:Wf h)(b:MO.below h.length o=true):Wf (h.set i o):=λx hx=>by
 rw[List.length_set];rcases List.mem_or_eq_of_mem_set hx with m|rfl
 ·exact w x m
 grind
theorem D.kO(h:n<=m)(b:D.below n d=true):D.below m d=true:=by cases d<;>simp_all[D.below];omega
theorem MO.kO(h:n<=m)(b:MO.below n o=true):MO.below m o=true:=by
 cases o with
 |lst xs=>simp[MO.below]at b ⊢;exact λd q=>D.kO h (b d q)
 |kU t kvs=>rfl
 |ins C fs=>simp only[MO.below,UU]at b ⊢;exact λd q=>D.kO h (b d q)
 |tab P q=>rfl
theorem Wf.push(w:Wf h)(b:MO.below (h.length+1) o=true):Wf (h++[o]):=λx hx=>by
 rw[Vi,List.length_singleton];rcases U1.mp hx with m|m
 ·exact MO.kO (V7 _) (w x m)
 grind
theorem LA(ns:List Int)(k:Nat)(h:Hm):∃z:Int,fL [.scr ns,.int k] h=.ok (.int z) h:=by
 unfold fL tu;by_cases hk:k<ns.length
 ·exact⟨ns[k],by simp[fF,oA,hk,dz,jN,Ay,j8 _]⟩
 simp[fF,oA,hk]
@[simp] theorem QZ(i j:Int)(h:Hm):cF (.int i) (.int j) h=.ok (.int (i+j)) h:=rfl
noncomputable def Q0(n m:Nat)(x:PyData):Bool:=pU x&&decide (x.depth<=m)&&decide (x.weight<=n)
theorem nI(h:Q0 n m x=true):Ok n m x:=by simp[Q0]at h;exact⟨h.1.1,h.1.2,h.2⟩
noncomputable def PD(n m:Nat)(x:PyData):Prop:=Ok n m x\/x=.dict []\/x=.dict [(.str "a",.int 1)]
theorem PD.mono(o:PD n m x)(h1:n<=n')(h2:m<=m'):PD n' m' x:=o.imp (·.mono h1 h2) id
theorem zL{k:Nat}(h:k<xs.length):∃x,lL xs (k:Int)=some x/\x∈xs:=⟨xs[k],j8 (UN h),WK h⟩
theorem iU(h:Hm)(hz:xs.length+ys.length<=16777216):cF (.dat (.list xs)) (.dat (.list ys)) h=.ok (.dat (.list (xs++ys))) h:=by simp[cF,sz hz]
theorem gO(h:Hm)(hz:xs.length+ys.length<=16777216):cF (.dat (.tuple xs)) (.dat (.tuple ys)) h=.ok (.dat (.tuple (xs++ys))) h:=by simp[cF,sz hz]
noncomputable def EO:YB:=[.none,.str "",.str "a",.str "zz",.str "A",.str "abcdefg",.int 7,.tuple [],.tuple [.str "a",.str "a"],.list [],.bool true,.tuple [.str "a"],.str "in",.str "open"]
theorem Jd:∀x∈EO,Q0 20 1 x=true:=by decide +kernel
theorem uz:∀{ds:YB},ds.Pairwise (λa b=>ltB a b=true)->jF ds=true
 | [],_=>rfl
 | [_],_=>rfl
 |a::b::r,h=>by rw[Vr]at h;have ih:=uz h.2;exact j0.mpr ⟨h.1 b #[6],ih⟩
theorem Gp(c:dM ds=true)(t:aB ds=true)(nd:ds.Nodup):jF (bN ltB ds)=true:=by
 have p:=aS ltB ds;have u:=vc (fJ c t);refine uz ?_;refine XG.mpr λ{a b} s=>?_;have both:=XG.mp u s;have ha:=p.mem_iff.mp (s.subset (by simp:a∈[a,b]));have hb:=p.mem_iff.mp (s.subset (by simp:b∈[a,b]));rcases qm c t ha hb both with q|q
 ·exact q
 grind
theorem OO(c:dM ds=true)(t:aB ds=true)(hx:x∈ds)(hy:y∈ds)(hz:z∈ds)(h:ltB x y=true)(k:ltB y z=true):ltB x z=true:=by
 have h1:=vb c t hx hy h;have h2:=vb c t hy hz k;rcases qm c t hx hz (D8 c t hx hy hz h1 h2)with q|q
 ·exact q
 grind
theorem C8(c:dM ds=true)(t:aB ds=true):∀{es:YB},(∀e∈es,e∈ds)->jF es=true->es.Pairwise λa b=>ltB a b=true
 | [],_,_=>.nil
 | [_],_,_=>by simp
 |a::b::r,s,h=>by
  unfold jF at h;simp at h;have h:=j0.mp h;have ih:=C8 c t (λe m=>s e (UQ _ m)) (by grind[jF]);refine Vr.mpr ⟨λd m=>?_,ih⟩;rcases UO.mp m with rfl|m'
  ·grind
  ·exact OO c t (s a #[6]) (s b #[6]) (s d (by grind)) h.1 ((Vr.mp ih).1 d m')
namespace Nm
variable {c:Nat} {ns:YB}
end Nm
theorem nJ(h:gx d=true):aI d=true:=by cases d<;>simp_all[gx,aI]
theorem wL(h:gx d=true):ay d=true:=by cases d<;>simp_all[gx,ay]
theorem Gq(h:∀a∈ds,∀b∈ds,cm a b=true):dM ds=true:=UU.mpr λa ha=>UU.mpr λb hb=>C5 (h a ha b hb)
end Ml
namespace Ml
open PySem
theorem LB(s:zs.Sublist (ns.map D.dat)):∃ls:YB,zs=ls.map D.dat/\ls.Sublist ns:=by
 grind
theorem oB(e:a ρ h=.ok (.nx ρ1) h1):aZ a b ρ h=b ρ1 h1:=by simp_all
theorem ax(ha:a ρ h=.ok x h1)(hb:b ρ h1=.ok y h2)(e:f x y h2=r):ak f a b ρ h=r:=by
 simp_all
theorem ao(he:e ρ h=.ok x h1)(ha:a ρ h1=.ok xs h2):aa e a ρ h=.ok (x::xs) h2:=by
 simp_all
theorem cA(ha:a ρ h=.ok xs h1):ag f a ρ h=f xs h1:=by simp_all
theorem uA(he:e ρ h=.ok x h1):cx i e ρ h=.ok (.nx (ρ.set i (some x))) h1:=by simp_all
section
variable {t u:MT} {a b:MS} {m:ME} {ρ:Fm} {h h1 h2:Hm} {x:D} {c d:Bool}
theorem bC(e:m ρ h=.ok (.bool c) h1):aN m ρ h=.ok c h1:=by simp_all
theorem sL(e:m ρ h=.ok x h1)(k:Ml.truth x h1=some c):bK m ρ h=.ok c h1:=by simp only[bK,e,R.bA,k]
theorem gG(e:t ρ h=.ok c h1):eF t ρ h=.ok (!c) h1:=by simp_all
theorem OP(e:t ρ h=.ok true h1):tY t u ρ h=u ρ h1:=by simp_all
theorem Mv(e:t ρ h=.ok true h1):jM t a b ρ h=a ρ h1:=by simp_all
theorem Mw(e:t ρ h=.ok false h1):jM t a b ρ h=b ρ h1:=by simp_all
theorem kP(e:it ρ h=.ok xs h1)(k:fk g a xs ρ h1=r):t8 it g a ρ h=r:=by simp_all
theorem rl(e:m ρ h=.ok (.dat (.list ds)) h1):aQ m ρ h=.ok (ds.map D.dat) h1:=by simp_all
theorem fD(e:m ρ h=.ok (.dat (.tuple ds)) h1):aQ m ρ h=.ok (ds.map D.dat) h1:=by simp_all
theorem zM(e:m ρ h=.ok x h1):bJ m ρ h=.ok (.rt x) h1:=by simp_all
end
theorem Gr(e:a ρ h=.ok [.dat (.int j)] h1)(q:(-(2^62):Int)<=j/\j<2^62):oN a ρ h=.ok (nums 0 j.toNat) h1:=by
 simp_all
theorem wM(e:a ρ h=.ok [.dat (.int (n:Int))] h1)(hn:n<1000000):oN a ρ h=.ok (nums 0 n) h1:=by
 have:=Gr e #[4]
 rwa [VZ]at this
section
variable {a b:MS} {t:MT} {m m2:ME} {ρ ρ1:Fm} {h h1 h2:Hm} {r:R Fl} {x y:D} {i:Nat} {g:MG} {it:MA} {f:Fn} {ma:MA} {xs:List D}
theorem aH(e:a ρ h=.ok (.nx ρ1) h1)(k:b ρ1 h1=r):aZ a b ρ h=r:=(oB e).trans k
theorem kQ(e:a ρ h=.ok (.rt x) h1):aZ a b ρ h=.ok (.rt x) h1:=by simp_all
theorem bV(e:m ρ h=.ok x h1):cx i m ρ h=.ok (.nx (ρ.set i (some x))) h1:=uA e
theorem dU(e:m ρ h=.ok x h1):oM m ρ h=.ok (.nx ρ) h1:=by simp_all
theorem sM(e:m ρ h=.ok x h1)(k:g x ρ h1=.ok ρ1 h2):oE g m ρ h=.ok (.nx ρ1) h2:=by simp_all
theorem dF(e:m ρ h=.ok x h1):bJ m ρ h=.ok (.rt x) h1:=zM e
theorem sN(e:t ρ h=.ok true h1)(k:a ρ h1=r):jM t a b ρ h=r:=(Mv e).trans k
theorem kR(e:t ρ h=.ok false h1)(k:b ρ h1=r):jM t a b ρ h=r:=(Mw e).trans k
theorem fb(l:xs.length=p)(e:b (xs.map some++List.replicate (n-p) none) h=.ok (.rt x) h1):bx p n b xs h=.ok x h1:=by
 simp_all
theorem aq(ha:ma ρ h=.ok xs h1)(k:f xs h1=.ok d h2):ag f ma ρ h=.ok d h2:=(cA ha).trans k
theorem e9{a b:PyData}(e1:m ρ h=.ok (.dat a) h1)(e2:m2 ρ h1=.ok (.dat b) h2):dG (aa m (aa m2 aj)) ρ h=.ok (.dat (.tuple [a,b])) h2:=(cA (ao e1 (ao e2 rfl))).trans (OL _ _ _)
theorem zN(e:t ρ h=.ok true h1):rF t u ρ h=.ok true h1:=by simp_all
theorem jG(e:t ρ h=.ok false h1)(k:u ρ h1=.ok c h2):rF t u ρ h=.ok c h2:=by simp_all
theorem OQ(e:t ρ h=.ok c h1)(k:u ρ h1=.ok d h1):rF t u ρ h=.ok (c || d) h1:=by cases c<;>simp[e,k]
theorem LD(e:t ρ h=.ok c h1)(k:u ρ h1=.ok d h1):tY t u ρ h=.ok (c&&d) h1:=by cases c<;>simp[e,k]
theorem fv(e:m ρ h=.ok (.bool c) h1):bK m ρ h=.ok c h1:=sL e rfl
end
noncomputable def iV(ns:YB):PyData->Bool
 |.tuple [a,b]=>sJ ns a&&sJ ns b
 |_=>false
theorem zO{n m:Nat}{d:PyData}{ns:YB}(o:Ok n m d)(hn:n<=10000)(hs:bF ns gx=true)(h:Hm):dI [.dat d,.dat (.tuple ns)] h=.ok (.bool (iV ns d)) h:=by
 unfold dI mj
 cases d with
 |tuple ds=>
  match ds,o with
  | [],o=>rfl
  | [_],o=>rfl
  |a::b::c::r,o=>rfl
  | [l,x],o=>
   have ol:=o.items.mem (d:=l) #[6];have ox:=o.items.mem (d:=x) #[6];by_cases h1:sJ ns l=true
   ·simp[jk,pV ol hs,h1,iV,pV ox hs]
   ·simp[jk,pV ol hs,h1,iV]
 |_=>simp[iV]
theorem BI{ns:YB}(hs:bF ns gx=true){d:PyData}(h:iV ns d=true):∃x y:Str,d=.tuple [.str x,.str y]:=by
 unfold iV at h;split at h
 ·simp at h;obtain⟨x,rfl⟩:=dh (bM.mp hs _ ((eZ hs).mp h.1));obtain⟨y,rfl⟩:=dh (bM.mp hs _ ((eZ hs).mp h.2))
  grind
 grind
theorem Q3{ns:YB}(hs:bF ns gx=true){d e:PyData}(h:iV ns d=true)(k:iV ns e=true):cm d e=true:=by obtain⟨x,y,rfl⟩:=BI hs h;obtain⟨z,w,rfl⟩:=BI hs k;rfl
noncomputable def tU(ns:YB):PyData->Bool
 |.tuple ds=>bF ds (iV ns)&&jF ds
 |_=>false
theorem Je{n m:Nat}{ds ns:YB}(o:fO n m ds)(hm:m<=40)(hs:bF ns gx=true)(h:bF ds (iV ns)=true):JG ds:=JG.of o hm λd q e r=>Q3 hs (bM.mp h d q) (bM.mp h e r)
theorem wN{n m:Nat}{d:PyData}{ns:YB}(o:Ok n m d)(hn:n<=10000)(hm:m<=40)(hs:bF ns gx=true)(h:Hm):dX [.dat d,.dat (.tuple ns)] h=.ok (.bool (tU ns d)) h:=by
 unfold dX jr
 cases d with
 |tuple ds=>
  have hl:=o.items.len;have key:=cO (n:=1) (it:=aQ (af 0)) (g:=aC 0) (e:=ag dI (aa (af 0) (aa (af 2) aj))) (ρ:=[some (.dat (.tuple ds)),some (.dat (.tuple ns))]) (h:=h) (h1:=h) (ds:=ds) #[6] #[4] (λx=>.bool (iV ns x)) (λx hx=>⟨_,rfl,by simp[zO (o.items.mem hx) hn hs]⟩);by_cases h2:bF ds (iV ns)=true
  ·have:=ie (Je o.items #[4] hs h2) #[4] h;simp[key,eN,h2,this,tU]
  ·simp[key,eN,h2,tU]
 |_=>simp[tU]
noncomputable def eO:PyData->Bool
 |.tuple [a,b]=>cJ a&&tU (zI a) b
 |_=>false
theorem Gs{n m:Nat}{d:PyData}(o:Ok n m d)(hn:n<=10000)(hm:m<=40)(h:Hm):iE [.dat d] h=.ok (.bool (eO d)) h:=by
 unfold iE vE
 cases d with
 |tuple ds=>
  match ds,o with
  | [],o=>rfl
  | [_],o=>rfl
  |a::b::c::r,o=>rfl
  | [a,b],o=>
   have oa:=o.items.mem (d:=a) #[6];have ob:=o.items.mem (d:=b) #[6];by_cases h1:cJ a=true
   ·obtain⟨ns,rfl,h2,h3,h4⟩:=zJ h1;have:=wN ob hn #[4] (iT h3) h;simp[jk,kN oa hn,h1,this,eO,zI]
   ·simp[jk,kN oa hn,h1,eO]
 |_=>simp[eO]
theorem wO{ds:YB}(c:JG ds)(hz:ds.length<=16777216)(h:Hm):eU [.dat (.tuple ds)] h=.ok (.bool (jF ds)) h:=zH c hz h
theorem Q4{v:ME}{ρ:Fm}{h:Hm}{x y:PyData}{u:MT}{c:Bool}(e:v ρ h=.ok (.dat (.tuple [x,y])) h)(k:u ρ h=.ok c h):rF (eF (bK (zX (lC isTup) v))) (rF (aN (ak j4 (ag fF (aa v aj)) (ah (.int 2)))) u) ρ h=.ok c h:=
 jG (h1:=h) (by simp[e]) (jG (by simp[e,jk]) k)
theorem C9{m:ME}{ρ:Fm}{h:Hm}{ds:YB}{f:PyData->Bool}(e:m ρ h=.ok (.dat (.list (ds.map λx=>.bool (f x)))) h):eF (bK (ag pj (aa m aj))) ρ h=.ok (!bF ds f) h:=gG (fv (aq (xs:=[_]) (ao e rfl) (eN ds f h)))
noncomputable abbrev Uc:MS:=aZ (jM (rF (eF (bK (zX (lC isTup) (af 3)))) (rF (aN (ak j4 (ag fF (aa (af 3) aj)) (ah (.int 2)))) (eF (bK (ag pj (aa (bE 1 (aQ (af 3)) (aC 0) cG (ag cz (aa (af 0) aj))) aj)))))) (bJ (ah (.bool false))) cg)
  (jM (rF (aN (ak gJ (ak dz (af 3) #[15]) (af 1))) (aN (ak gJ (ak dz (af 3) (ah (.int 1))) (af 1)))) (bJ (ah (.bool false))) cg)
theorem OR{n m:Nat}{d:PyData}{ns:YB}{a0 a2:Option D}(o:Ok n m d)(hn:n<=10000)(hs:bF ns isName=true)(h:Hm):Uc [a0,some (.dat (.tuple ns)),a2,some (.dat d)] h=if iV ns d=true then .ok (.nx [a0,some (.dat (.tuple ns)),a2,some (.dat d)]) h else .ok (.rt (.bool false)) h:=by
 have hs':=iT hs
 cases d with
 |tuple ds=>
  match ds,o with
  | [],o=>rfl
  | [_],o=>rfl
  |a::b::c::r,o=>rfl
  | [x,y],o=>
   have ox:=o.items.mem (d:=x) #[6];have oy:=o.items.mem (d:=y) #[6];have key:=cO (n:=1) (it:=aQ (af 3)) (g:=aC 0) (e:=ag cz (aa (af 0) aj)) (ρ:=[a0,some (.dat (.tuple ns)),a2,some (.dat (.tuple [x,y]))]) (h:=h) (h1:=h) (ds:=[x,y]) #[6] #[6] (λx=>.bool (isName x)) (λz hz=>⟨_,rfl,by simp[nH (o.items.mem hz) hn]⟩);have nm:∀z,sJ ns z=true->isName z=true:=λz q=>bM.mp hs _ ((eZ hs').mp q);have c1:=Q4 (v:=af 3) rfl (C9 key);have c2:=OQ (bC (ax (ρ:=[a0,some (.dat (.tuple ns)),a2,some (.dat (.tuple [x,y]))]) (a:=ak dz (af 3) #[15]) (ax rfl rfl rfl) (b:=af 1) rfl (uy ox hs' h))) (bC (ax (a:=ak dz (af 3) (ah (.int 1))) (ax rfl rfl rfl) (b:=af 1) rfl (uy oy hs' h)));by_cases z:sJ ns x=true/\sJ ns y=true
   ·have e1:(!bF [x,y] isName)=false:=by simp[bF,nm x z.1,nm y z.2]
    have e2:(!sJ ns x || !sJ ns y)=false:=by simp[z]
    rw[e1]at c1;rw[e2]at c2;rw[if_pos (show iV ns (.tuple [x,y])=true by simp[iV,z])];exact aH (kR c1 rfl) (kR c2 rfl)
   ·have e2:(!sJ ns x || !sJ ns y)=true:=by cases h3:sJ ns x<;>cases h4:sJ ns y<;>simp_all
    rw[e2]at c2;rw[if_neg (show ¬ iV ns (.tuple [x,y])=true by simpa [iV]using z)]
    cases e1:bF [x,y] isName with
    |true=>rw[e1]at c1;exact aH (kR c1 rfl) (sN c2 rfl)
    |false=>rw[e1]at c1;exact kQ (sN c1 rfl)
 |_=>simp[iV]
theorem ER{ns:YB}{a0 a2:Option D}{n m:Nat}(hn:n<=10000)(hs:bF ns isName=true)(h:Hm):∀{ds:YB},(∀d∈ds,Ok n m d)->∀a3:Option D,∃b3,fk (aC 3) Uc (ds.map D.dat) [a0,some (.dat (.tuple ns)),a2,a3] h=if bF ds (iV ns)=true then .ok (.nx [a0,some (.dat (.tuple ns)),a2,b3]) h else .ok (.rt (.bool false)) h
 | [],_,a3=>⟨a3,by rfl⟩
 |d::ds,H,a3=>by
  have k:=OR (a0:=a0) (a2:=a2) (H d #[6]) hn hs h;obtain⟨b3,e⟩:=ER (a0:=a0) (a2:=a2) hn hs h (ds:=ds) (λx q=>H x (by simp[q])) (some (.dat d));refine⟨b3,?_⟩;simp only[Vn];unfold fk;simp only[aC,R.gQ,R.bA,XB,XC,k];by_cases h1:iV ns d=true
  ·rw[show bF (d::ds) (iV ns)=bF ds (iV ns)by simp[bF,h1]];simp only[h1,VT,R.gQ,R.bA,e]
  ·simp[h1,bF]
theorem xA{n m:Nat}{d:PyData}(o:Ok n m d)(hn:n<=10000)(hm:m<=40)(h:Hm):cq [.dat d] h=.ok (.bool (eO d)) h:=by
 unfold cq oS
 cases d with
 |tuple ds=>
  match ds,o with
  | [],o=>simp[jk,eO]
  | [_],o=>simp[jk,eO]
  |a::b::c::r,o=>simp[jk,eO,show ¬ ((r.length:Int)+1+1+1=2)by omega]
  | [a,b],o=>
   have oa:=o.items.mem (d:=a) #[6];have ob:=o.items.mem (d:=b) #[6];have key:=cO (n:=1) (it:=aQ (af 0)) (g:=aC 0) (e:=zX (lC isTup) (af 0)) (ρ:=[some (.dat (.tuple [a,b])),none,none,none]) (h:=h) (h1:=h) (ds:=[a,b]) #[6] #[6] (λx=>.bool (isTup x)) (λz hz=>⟨_,rfl,by simp⟩);have ea:=eN [a,b] isTup h;have c0:=Q4 (v:=af 0) rfl (C9 key);by_cases ht:isTup a=true/\isTup b=true
   ·obtain⟨ta,tb⟩:=ht;cases a<;>simp[isTup]at ta;cases b<;>simp[isTup]at tb;rename_i ns ps;have k2:=cO (n:=1) (it:=aQ (af 1)) (g:=aC 0) (e:=ag cz (aa (af 0) aj)) (ρ:=[some (.dat (.tuple [.tuple ns,.tuple ps])),some (.dat (.tuple ns)),some (.dat (.tuple ps)),none]) (h:=h) (h1:=h) (ds:=ns) #[6] (by have:=oa.items.len;omega) (λx=>.bool (isName x)) (λz hz=>⟨_,rfl,by simp[nH (oa.items.mem hz) hn]⟩);have hl:=oa.items.len;have hl2:=ob.items.len;rw[show(!bF [PyData.tuple ns,.tuple ps] isTup)=false by simp[bF,isTup]]at c0;refine fb rfl (aH (kR c0 rfl) (aH (sM (x:=.dat (.tuple [.tuple ns,.tuple ps])) rfl rfl) ?_));have bl:ag fF (aa (af 1) aj) [some (.dat (.tuple [.tuple ns,.tuple ps])),some (.dat (.tuple ns)),some (.dat (.tuple ps)),none] h=.ok (.int ns.length) h:=by simp[fF,sz (show ns.length<=16777216 by omega)]
    have c1:=bC (ax (f:=Pm) bl (b:=ah (.int 12)) rfl rfl);have c2:=C9 k2;by_cases h1:ns.length<=12
    ·rw[Vj (show ¬ (12:Int)<ns.length by omega)]at c1;by_cases h2:bF ns isName=true
     ·have c3:=gG (fv (aq (ρ:=[some (.dat (.tuple [.tuple ns,.tuple ps])),some (.dat (.tuple ns)),some (.dat (.tuple ps)),none]) (ma:=aa (af 1) aj) rfl (wO (wH (wK (iT h2))) #[4] h)));rw[h2]at c2;by_cases h3:jF ns=true
      ·rw[h3]at c3;obtain⟨b3,lp⟩:=ER (a0:=some (.dat (.tuple [.tuple ns,.tuple ps]))) (a2:=some (.dat (.tuple ps))) hn h2 h (ds:=ps) (λd q=>ob.items.mem q) none;refine aH (kR (jG c1 (jG c2 c3)) rfl) ?_;by_cases h4:bF ps (iV ns)=true
       ·rw[if_pos h4]at lp;have r2:=wO (Je ob.items #[4] (iT h2) h4) #[4] h;rw[show eO (.tuple [.tuple ns,.tuple ps])=jF ps by simp[eO,cJ,tU,zI,h1,h2,h3,h4]];exact aH (kP (fD rfl) lp) (dF (aq rfl r2))
       ·rw[if_neg h4]at lp;rw[show eO (.tuple [.tuple ns,.tuple ps])=false by simp[eO,tU,zI,h4]];exact kQ (by simp[t8,fD,lp])
      ·rw[V9.mpr h3]at c3;rw[show eO (.tuple [.tuple ns,.tuple ps])=false by simp[eO,cJ,h3]];exact kQ (sN (jG c1 (jG c2 c3)) rfl)
     ·rw[V9.mpr h2]at c2;rw[show eO (.tuple [.tuple ns,.tuple ps])=false by simp[eO,cJ,h2]];exact kQ (sN (jG c1 (zN c2)) rfl)
    ·rw[Vz (show(12:Int)<ns.length by omega)]at c1;rw[show eO (.tuple [.tuple ns,.tuple ps])=false by simp[eO,cJ,h1]];exact kQ (sN (zN c1) rfl)
   ·have e:bF [a,b] isTup=false:=V9.mpr λq=>ht (by simpa [bF]using q);rw[e]at c0
    rw[show eO (.tuple [a,b])=false from V9.mpr λq=>ht (by
     simp only[eO,UI]at q;obtain⟨q1,q2⟩:=q
     exact⟨by cases a<;>simp_all[cJ,isTup],by cases b<;>simp_all[tU,isTup]⟩)]
    exact fb rfl (kQ (sN c0 rfl))
 |_=>simp[eO]
theorem lj(kvs:Yy)(h:Hm):cq [.dat (.dict kvs)] h=.ok (.bool false) h:=by rfl
noncomputable abbrev wY(d:PyData):Prop:=isName d=true
noncomputable abbrev Mx(p:PyData):Prop:=∃a b,wY a/\wY b/\p=.tuple [a,b]
theorem dy(h:wY x):gx x=true:=by
 cases x with
 |str y=>rfl
 |_=>assumption
theorem rm(h:wY x):Ok 6 0 x:=by
 obtain⟨y,rfl⟩:=dh (dy h);simp only[wY,isName,UI,U5]at h;refine⟨?_,by simp[PyData.depth],h.1.2⟩;simp only[pU,PyData.strOk];rw[Array.all_eq_true_iff_forall_mem];intro x hx;have:=UU.mp h.2 x (by grind)
 grind[az]
theorem kS(h:Mx p):aI p=true/\ay p=true/\jo p=true/\gr p=true/\p.depth<=1/\Ok 14 1 p:=by obtain⟨a,b,ha,hb,rfl⟩:=h;have oa:=rm ha;have ob:=rm hb;have ok:Ok 14 1 _:=((fO.cons oa (fO.one ob)).mono #[4] (UJ _)).tup;exact⟨by simp[aI,bz,nJ (dy ha),nJ (dy hb)],by simp[ay,aB,wL (dy ha),wL (dy hb)],rfl,rfl,ok.d,ok⟩
structure tV(U:PyData->Prop):Prop where
 c:∀a b,U a->U b->cm a b=true
 st:∀d,U d->aI d=true
 key:(∀d,U d->jo d=true)\/(∀d,U d->ph d=true)
 typ:(∀d,U d->pq d=true)\/(∀d,U d->gr d=true)
 dep:∀d,U d->d.depth<=1
theorem fP:tV wY:=⟨λa b ha hb=>by
  obtain⟨x,rfl⟩:=dh (dy ha);obtain⟨y,rfl⟩:=dh (dy hb)
  rfl,λd m=>nJ (dy m),.inr λd m=>by obtain⟨x,rfl⟩:=dh (dy m);rfl,.inl λd m=>by obtain⟨x,rfl⟩:=dh (dy m);rfl,λd m=>by obtain⟨x,rfl⟩:=dh (dy m);simp[PyData.depth]⟩
theorem lq:tV Mx:=⟨λp q hp hq=>by
  obtain⟨a,b,ha,hb,rfl⟩:=hp;obtain⟨c,d,hc,hd,rfl⟩:=hq
  exact wJ (by simp[bF,dy ha,dy hb]) (by simp[bF,dy hc,dy hd]),λd m=>(kS m).1,.inl λd m=>(kS m).2.2.1,.inr λd m=>(kS m).2.2.2.1,λd m=>(kS m).2.2.2.2.1⟩
section
variable {U:PyData->Prop} {xs ys:YB}
theorem tV.t(u:tV U)(h:U d):ay d=true:=aY (u.st d h)
theorem tV.zW(u:tV U)(h:∀d∈xs,U d):aB xs=true:=lW λd m=>u.t (h d m)
theorem tV.cmp(u:tV U)(h:∀d∈xs,U d):dM xs=true:=Gq λa ha b hb=>u.c a b (h a ha) (h b hb)
structure Rw(U:PyData->Prop)(xs:YB):Prop where
 sub:∀d∈xs,U d
 ris:xs.Pairwise λa b=>ltB a b=true
theorem Jf(t:ay a=true)(h:ltB a b=true):a≠b:=λe=>by
 have:=D6 t
 simp_all[ltB]
theorem j3(u:tV U)(r:Rw U xs):xs.Nodup:=V6 (λ{a b} ha hb l=>Jf (u.t (r.sub a ha)) l) r.ris
theorem My(u:tV U)(r:Rw U xs):Up ltB xs:=V6 (λ{a b} ha hb l=>vb (u.cmp r.sub) (u.zW r.sub) ha hb l) r.ris
theorem ES(r:Rw U xs):jF xs=true:=uz r.ris
theorem Jg(u:tV U)(r:Rw U xs)(q:Rw U ys)(h:∀d,d∈xs<->d∈ys):xs=ys:=
 rP (fJ (u.cmp r.sub) (u.zW r.sub)) ((List.perm_ext_iff_of_nodup (j3 u r) (j3 u q)).mpr h) (My u r) (My u q)
theorem rA(u:tV U)(h:∀d∈xs,U d)(nd:xs.Nodup):Rw U (bN ltB xs):=
 ⟨λd m=>h d ((aS _ _).mem_iff.mp m),C8 (u.cmp h) (u.zW h) (λd m=>(aS _ _).mem_iff.mp m) (Gp (u.cmp h) (u.zW h) nd)⟩
theorem Mz(u:tV U)(h:∀d∈xs,U d)(q:jF xs=true):Rw U xs:=⟨h,C8 (u.cmp h) (u.zW h) (λ_ m=>m) q⟩
theorem o5:∀{ds:YB},(∀d∈ds,aI d=true)->bz ds=true
 | [],_=>by rfl
 |d::ds,h=>by simp[bz,h d _,o5 (ds:=ds) λe m=>h e (by simp[m])]
theorem tV.set(u:tV U)(h:∀d∈xs,U d)(l:xs.length<=120):setOk xs=true:=by
 have h1:(xs.all jo || xs.all ph)=true:=by
  rcases u.key with k|k
  ·simp_all
  simp_all
 have h2  := o5 λd m=>u.st d (h d m);have h3:PyData.depthAll xs<=8:=UP (fN λd m=>u.dep d (h d m)) #[5]
 simp_all[setOk]
theorem tV.Q5(u:tV U)(h:∀d∈xs,U d)(l:xs.length<64):eh xs=true:=by
 have h1:(xs.all pq || xs.all gr)=true:=by
  rcases u.typ with k|k
  ·simp_all
  simp_all
 have h3:PyData.depthAll xs<=20:=UP (fN λd m=>u.dep d (h d m)) #[5]
 simp_all[eh,u.zW,u.cmp]
noncomputable def un(xs ys:YB):YB:=bN ltB (KU xs ys)
theorem MB(u:tV U)(r:∀d∈xs,U d)(q:∀d∈ys,U d):(∀d,d∈KU xs ys<->d∈xs\/d∈ys)/\(KU xs ys).Nodup/\(KU xs ys).length<=xs.length+ys.length:=by
 have hs:∀d∈xs++ys,aI d=true:=λd m=>by
  rcases U1.mp m with z|z
  ·exact u.st d (r d z)
  ·exact u.st d (q d z)
 have hm:∀d,d∈KU xs ys<->d∈xs\/d∈ys:=λd=>by unfold KU;rw[jT hs,U1]
 have nd:(KU xs ys).Nodup:=ja hs;have:=sv nd λd m=>U1.mpr ((hm d).mp m)
 simp_all
theorem Q6(u:tV U)(r:∀d∈xs,U d)(q:∀d∈ys,U d):Rw U (un xs ys)/\(∀d,d∈un xs ys<->d∈xs\/d∈ys)/\(un xs ys).length<=xs.length+ys.length:=by obtain⟨h1,h2,h3⟩:=MB u r q;refine⟨rA u (λd m=>((h1 d).mp m).elim (r d) (q d)) h2,λd=>(aS _ _).mem_iff.trans (h1 d),?_⟩;unfold un;rw[(aS _ _).length_eq];exact h3
end
structure Nr(ns:YB):Prop extends Rw wY ns where
 le:ns.length<=12
structure Wb(k:Nat)(ns ss:YB):Prop where
 nr:Nr ns
 sr:Rw Mx ss
 cl:∀a b,.tuple [a,b]∈ss->a∈ns/\b∈ns
 le:ss.length<=k
section
variable {k:Nat} {ns ss:YB}
theorem Wb.sd(w:Wb k ns ss):bF ns gx=true:=bM.mpr λd m=>dy (w.nr.sub d m)
theorem Wb.Tj(w:Wb k ns ss)(h:a∈ns):Ok 6 0 a:=rm (w.nr.sub a h)
theorem Wb.Ud(w:Wb k ns ss):Ok 84 1 (.tuple ns):=by have:=w.nr.le;exact((fO.of λd m=>w.Tj m).mono #[4] (UJ _)).tup
theorem Wb.Tn(w:Wb k ns ss)(hk:k<=600):fO 9000 1 ss:=by have:=w.le;exact(fO.of λd m=>(kS (w.sr.sub d m)).2.2.2.2.2).mono #[4] (UJ _)
theorem Wb.names(w:Wb k ns ss):cJ (.tuple ns)=true:=by have h1  := bM.mpr λd m=>w.nr.sub d m;simp[cJ,w.nr.le,ES w.nr.toRw,h1]
theorem Wb.get(w:Wb k ns ss){p:PyData}(h:p∈ss):∃a b,p=.tuple [a,b]/\a∈ns/\b∈ns:=by obtain⟨a,b,_,_,rfl⟩:=w.sr.sub p h;exact⟨a,b,rfl,w.cl a b h⟩
theorem Q7(h:Hm):j4 (D.int 2) (D.dat (.int 2)) h=.ok (.bool false) h:=by rfl
theorem Gu(w:Wb k ns ss)(ha:a∈ns)(hb:b∈ns)(h:Hm):dI [.dat (.tuple [a,b]),.dat (.tuple ns)] h=.ok (.bool true) h:=by unfold dI mj;simp[Q7,pV (w.Tj ha) w.sd,pV (w.Tj hb) w.sd,(eZ w.sd).mpr ha,(eZ w.sd).mpr hb]
theorem Dc(w:Wb k ns ss)(hk:k<=600)(h:Hm):dX [.dat (.tuple ss),.dat (.tuple ns)] h=.ok (.bool true) h:=by
 unfold dX jr;have hl:=w.le
 have key:=cO (n:=1) (it:=aQ (af 0)) (g:=aC 0) (e:=ag dI (aa (af 0) (aa (af 2) aj))) (ρ:=[some (.dat (.tuple ss)),some (.dat (.tuple ns))]) (h:=h) (h1:=h) (ds:=ss) #[6] #[4] (λx=>.bool ((λ_=>true) x)) (λx hx=>⟨_,rfl,by
  obtain⟨a,b,rfl,ha,hb⟩:=w.get hx
  simp[Gu w ha hb]⟩)
 have al:bF ss (λ_=>true)=true:=bM.mpr λ_ _=>rfl;have cp:JG ss:=JG.of (w.Tn hk) #[5] λd hd e he=>by obtain⟨a,b,rfl,ha,hb⟩:=w.get hd;obtain⟨a',b',rfl,ha',hb'⟩:=w.get he;have:=bM.mp w.sd;simp only[cm];exact wJ (by simp[bF,this a ha,this b hb]) (by simp[bF,this a' ha',this b' hb'])
 have ir:=ie cp #[4] h;rw[ES w.sr]at ir;have bm:=eN ss (λ_=>true) h
 simp_all
theorem OS(w:Wb k ns ss)(hk:k<=600)(h:Hm):iE [.dat (.tuple [.tuple ns,.tuple ss])] h=.ok (.bool true) h:=by have e1:=kN w.Ud #[5] h;rw[w.names]at e1;unfold iE vE;simp[Q7,e1,Dc w hk h]
end
theorem wQ(n:Nat)(ds:YB):MO.below n (.lst (ds.map D.dat))=true:=by simp[MO.below,D.below]
theorem wR(hg:g x (List.replicate n none++ρ) h=.ok ρ1 h1)(ht:t ρ1 h1=.ok true h2)(he:e ρ1 h2=.ok y h3)(hr:ee n ρ g t e xs h3=.ok ys h4):ee n ρ g t e (x::xs) h=.ok (y::ys) h4:=by
 simp_all[ee]
theorem wU:∀{ls:YB} {ys:List D},PySem.Paired (λx y=>∃d,x=.dat d/\y=.dat (.tuple [one,d])) (ls.map D.dat) ys->ys=(ls.map λy=>PyData.tuple [one,y]).map D.dat
 | [],ys,h=>by cases h;rfl
 |l::ls,ys,h=>by
  cases h with
  |cons a b=>obtain⟨d,e,rfl⟩:=a;cases e;rw[wU b];rfl
structure Pw(pre ns acc:YB):Prop where
 ris:acc.Pairwise λa b=>ltB a b=true
 mem:∀p∈acc,∃a b,p=.tuple [a,b]/\a∈pre/\b∈ns
 len:acc.length<=pre.length*ns.length
theorem Jh(tx:ay x=true)(ta:ay a=true)(tb:ay b=true)(h:ltB a b=true):ltB (.tuple [x,a]) (.tuple [x,b])=true:=by
 have n:=bb ta tb (Jf ta h)
 simp_all[ltB,cj,dH,br]
theorem ET(ta:ay a=true)(tb:ay b=true)(h:ltB a b=true):ltB (.tuple [a,x]) (.tuple [b,y])=true:=by
 have n:=bb ta tb (Jf ta h)
 simp_all[ltB,cj,dH]
theorem Pw.step{pre ns acc ls xs:YB}(r:Rw wY ns)(e:ns=pre++one::xs)(P:Pw pre ns acc)(sl:ls.Sublist ns):Pw (pre++[one]) ns (acc++ls.map λy=>.tuple [one,y]):=by
 have tr:∀d∈ns,ay d=true:=λd m=>fP.t (r.sub d m);have ho:one∈ns:=by rw[e];simp
 have hp:∀a∈pre,a∈ns:=λa m=>by rw[e];simp[m]
 refine⟨V8.mpr ⟨P.ris,Wa.mpr (V6 (λ{a b} ha hb l=>Jh (tr one ho) (tr a (sl.subset ha)) (tr b (sl.subset hb)) l) (r.ris.sublist sl)),λp hp' q hq=>?_⟩,λp m=>?_,?_⟩
 ·obtain⟨a,b,rfl,ha,hb⟩:=P.mem p hp';obtain⟨y,hy,rfl⟩:=U0.mp hq;have rr:=r.ris;rw[e]at rr;exact ET (tr a (hp a ha)) (tr one ho) ((V8.mp rr).2.2 a ha one #[6])
 ·rcases U1.mp m with z|z
  ·obtain⟨a,b,rfl,ha,hb⟩:=P.mem p z;exact⟨a,b,rfl,by simp[ha],hb⟩
  ·obtain⟨y,hy,rfl⟩:=U0.mp z;exact⟨one,y,rfl,by simp,sl.subset hy⟩
 ·have l1:=P.len;have l2:=sl.length_le;simp only[Vi,UZ,U8,VG,Nat.add_mul];omega
noncomputable abbrev Rel:=PyData->PyData->Bool
noncomputable def rows(ns:YB)(r:Rel):YB:=ns.flatMap λa=>(ns.filter (r a)).map λb=>.tuple [a,b]
noncomputable abbrev cu(ns:YB)(r:Rel):PyData:=.tuple [.tuple ns,.tuple (rows ns r)]
section
variable {ns:YB} {r q:Rel} {a b:PyData}
theorem ik:p∈rows ns r<->∃a b,p=.tuple [a,b]/\a∈ns/\b∈ns/\r a b=true:=by
 unfold rows;rw[List.mem_flatMap];constructor
 ·rintro⟨a,ha,m⟩;obtain⟨b,hb,rfl⟩:=U0.mp m;obtain⟨h1,h2⟩:=VP.mp hb;exact⟨a,b,rfl,ha,h1,h2⟩
 simp_all
theorem BJ:.tuple [a,b]∈rows ns r<->a∈ns/\b∈ns/\r a b=true:=by
 rw[ik];constructor
 ·simp_all
 ·exact λh=>⟨a,b,rfl,h⟩
theorem kT(R:Nr ns)(h:a∈ns):ay a=true:=fP.t (R.sub a h)
theorem ig(R:Nr ns):Rw Mx (rows ns r):=by
 refine⟨λp m=>?_,?_⟩
 ·obtain⟨a,b,rfl,ha,hb,_⟩:=ik.mp m;exact⟨a,b,R.sub a ha,R.sub b hb,rfl⟩
 ·refine List.pairwise_flatMap.mpr ⟨λa ha=>Wa.mpr ?_,?_⟩
  ·exact V6 (λ{x y} hx hy l=>Jh (kT R ha) (kT R ((VP.mp hx).1)) (kT R ((VP.mp hy).1)) l) (R.ris.filter _)
  ·refine V6 (λ{x y} hx hy l p hp q hq=>?_) R.ris;obtain⟨b,_,rfl⟩:=U0.mp hp;obtain⟨c,_,rfl⟩:=U0.mp hq;exact ET (kT R hx) (kT R hy) l
theorem LF{xs:YB}{f:PyData->YB}(h:∀a,(f a).length<=n):(xs.flatMap f).length<=xs.length*n:=by
 induction xs with
 |nil=>simp
 |cons x xs ih=>
  grind[List.flatMap_cons,List.length_append,List.length_cons,Nat.add_mul]
theorem rB:(rows ns r).length<=ns.length*ns.length:=LF λa=>by rw[UZ];exact WZ _ _
theorem EU(R:Nr ns)(hk:ns.length*ns.length<=k):Wb k ns (rows ns r):=
 ⟨R,ig R,λa b m=>⟨(BJ.mp m).1,(BJ.mp m).2.1⟩,UP rB hk⟩
noncomputable def MC(ss:YB):Rel:=λa b=>decide (.tuple [a,b]∈ss)
theorem LG(w:Wb k ns ss):ss=rows ns (MC ss):=by
 refine Jg lq w.sr (ig w.nr) λp=>?_;rw[ik];constructor
 ·intro m;obtain⟨a,b,rfl,ha,hb⟩:=w.get m;exact⟨a,b,rfl,ha,hb,Vz m⟩
 ·rintro⟨a,b,rfl,_,_,h⟩;exact Wy h
theorem wV(td:ay d=true)(te:ay e=true)(l:min d.depth e.depth<=40)(h:Hm):j4 (.dat d) (.dat e) h=.ok (.bool !(decide (d=e))) h:=by
 have q:PyData.eqv d e=decide (d=e):=by
  by_cases z:d=e
  ·subst z;rw[Vz rfl];exact br td
  ·rw[Vj z];exact bb td te z
 simp_all[j4,eqQ,noDict,eK]
theorem Ji(td:ay d=true)(te:ay e=true)(l:d.depth<=40):FI d e=some (decide (d=e)):=by
 have q:PyData.eqv d e=decide (d=e):=by
  by_cases z:d=e
  ·subst z;rw[Vz rfl];exact br td
  ·rw[Vj z];exact bb td te z
 have l':decide (min d.depth e.depth<=40)=true:=Vz #[4]
 have:FI d e=eqQ d e:=by
  unfold FI;split
  ·trivial
  ·trivial
  ·rfl
 simp_all[this,eqQ,noDict,eK,td,te,l',q,Bool.not_false,Bool.and_self]
theorem BK(td:ay d=true):∀{ds:YB},aB ds=true->(∀e∈ds,e.depth<=40)->Hy d ds=some (decide (d∈ds))
 | [],_,_=>by rfl
 |e::ds,t,l=>by
  simp[aB]at t;have ih:=BK td t.2 λx m=>l x (UQ _ m);unfold Hy;rw[Ji t.1 td (l e #[6]),ih];by_cases z:e=d
  ·grind
  ·have z':¬ d=e:=λy=>z y.symm
   simp_all
theorem zP(td:ay d=true)(t:aB ds=true)(l:∀e∈ds,e.depth<=40)(h:Hm):findIn (.dat d) (.dat (.tuple ds)) h=some (decide (d∈ds))/\findIn (.dat d) (.dat (.list ds)) h=some (decide (d∈ds)):=by simp[findIn,jN,kf,BK td t l]
theorem BL(td:ay d=true)(t:aB ds=true)(l:∀e∈ds,e.depth<=40)(h:Hm):gJ (.dat d) (.dat (.tuple ds)) h=.ok (.bool !(decide (d∈ds))) h:=by simp[gJ,(zP td t l h).1]
theorem OT(u:tV U)(R:Rw U xs):∀e∈xs,e.depth<=40:=λe m=>UP (u.dep e (R.sub e m)) #[5]
theorem Q8(u:tV U)(R:Rw U xs):aB xs=true:=u.zW R.sub
theorem LH(R:Nr ns)(ha:a∈ns)(hb:b∈ns):ay (.tuple [a,b])=true:=by simp[ay,aB,kT R ha,kT R hb]
end
end Ml
namespace Ml
open PySem PySem.Spec L2
inductive Dd (P:YL) (w:World) (K:YE) (mg:YA) (base:Heap) (k:Nat):List (Str×Fn)->Prop
 |nil:Dd P w K mg base k []
 |cons {n:Str} {ps:YF} {F:Fn} {fs:List (Str×Fn)}:bu P w K mg base n ps k F->Dd P w K mg base k fs->Dd P w K mg base k ((n,F)::fs)
end Ml
namespace Ml
open PySem
inductive Kd where
 |stable
 |standing
 |preferred
 |whole
 |grounded
section
variable {ns:YB} {r q:Rel} {a b:PyData} {kd:Kd}
theorem MD(Rn:Nr ns)(ha:a∈ns)(hb:b∈ns):Mx (.tuple [a,b]):=⟨a,b,Rn.sub a ha,Rn.sub b hb,rfl⟩
end
structure Px(i:Nat)(h:Hm):Prop where
 box:∃n f:Int,h[i]?=some (.lst [.int n,.int f])
 wf:Wf h
noncomputable def Ps(i:Nat)(h h':Hm):Prop:=∃n f:Int,h'=h.set i (.lst [.int n,.int f])
theorem Px.lt(b:Px i h):i<h.length:=by obtain⟨⟨n,f,e⟩,_⟩:=b;exact(UM.mp e).1
theorem Px.refl(b:Px i h):Ps i h h:=by obtain⟨⟨n,f,e⟩,_⟩:=b;refine⟨n,f,?_⟩;obtain⟨l,e⟩:=UM.mp e;rw[<- e];exact(List.set_getElem_self l).symm
theorem Ps.trans(a:Ps i h h')(b:Ps i h' h''):Ps i h h'':=by obtain⟨n,f,rfl⟩:=a;obtain⟨k,g,rfl⟩:=b;exact⟨k,g,by simp⟩
theorem Ps.px(s:Ps i h h')(b:Px i h):Px i h':=by obtain⟨n,f,rfl⟩:=s;exact⟨⟨n,f,by rw[VY b.lt]⟩,b.wf.set rfl⟩
theorem Ps.len(s:Ps i h h'):h'.length=h.length:=by obtain⟨n,f,rfl⟩:=s;simp
theorem Px.push(b:Px i h)(q:MO.below (h.length+1) o=true):Px i (h++[o]):=by obtain⟨n,f,e⟩:=b.box;exact⟨⟨n,f,by rw[U3 b.lt];exact e⟩,b.wf.push q⟩
theorem Ps.pop(b:i<h.length)(s:Ps i (h++[o]) h'):∃h1,h'=h1++[o]/\Ps i h h1:=by obtain⟨n,f,rfl⟩:=s;exact⟨_,by grind,n,f,rfl⟩
noncomputable def Dp{α:Type}(i:Nat)(h:Hm)(r:R α)(P:α->Prop):Prop:=∃a h',r=.ok a h'/\Ps i h h'/\P a
section
variable {α β:Type} {i:Nat} {h:Hm} {r:R α} {f:α->Hm->R β} {P P':α->Prop} {Q:β->Prop}
theorem Dp.ok(b:Px i h)(p:P a):Dp i h (.ok a h) P:=⟨a,h,rfl,b.refl,p⟩
end
theorem BN(b:Px i h)(e:f xs h=.ok (.dat x) (h1++t))(s:Ps i h h1):gI f xs h=.ok (.dat x) h1:=by
 have hl:=s.len;have w:=(s.px b).wf;unfold gI;rw[e];have:(h1.all (MO.below h.length))=true:=by rw[<- hl];exact UU.mpr λo m=>w o m
 simp[D.below,this,hl]
theorem rC(h0:0<=j)(hj:j<1000000000000)(h:Hm):ly (.int i) (.int j) h=.ok (.int (i*j)) h:=by
 have:D2 i j=true:=by
  grind[D2]
 simp[ly,this]
theorem rD(h0:0<j)(h:Hm):oMod (.int i) (.int j) h=.ok (.int (i % j)) h:=by simp[oMod,h0]
theorem BO(h0:0<j)(h1:j<1073741824)(h:Hm):qj (.int i) (.int j) h=.ok (.int (i / j)) h:=by simp[qj,h0,h1]
theorem wW(h:Hm):cF (.int i) (.int j) h=.ok (.int (i+j)) h:=rfl
theorem zQ(h:Hm):oEq (.int i) (.int j) h=.ok (.bool (decide (i=j))) h:=by rfl
theorem fE(b:Px i h)(h0:0<c)(h1:c<1073741824):Dp i h (aA [.ref i,.int c] h) λd=>∃k:Nat,d=.int k/\(k:Int)<c:=by
 obtain⟨⟨n,f,e⟩,_⟩:=b;have hl:=(UM.mp e).1;have i0:∀a b c d:Option D,ak dz (af 0) #[15] [some (.ref i),a,b,c,d] h=.ok (.int n) h:=λa b c d=>by simp[dz,jN,Ay,e,lL,xJ]
 have i1:∀a b c d:Option D,ak dz (af 0) (ah (.int 1)) [some (.ref i),a,b,c,d] h=.ok (.int f) h:=λa b c d=>by simp[dz,jN,Ay,e,lL,xJ]
 have st:∀(m:Int) (a b c d:Option D),Ad (af 0) #[15] (.int m) [some (.ref i),a,b,c,d] h=.ok [some (.ref i),a,b,c,d] (h.set i (.lst [.int m,.int f])):=λm a b c d=>by simp[Ad,yV,e,D3,xJ]
 by_cases hf:f=1
 ·refine⟨.int (n % c),h.set i (.lst [.int (n / c),.int f]),?_,⟨_,_,rfl⟩,(n % c).toNat,?_,?_⟩
  ·have t1:aN (ak oEq (ak dz (af 0) (ah (.int 1))) (ah (.int 1))) [some (.ref i),some (.int c),none,none,none] h=.ok true h:=bC (ax (i1 _ _ _ _) rfl (by rw[zQ];simp[hf]));have t2:ag qk (aa (ak dz (af 0) #[15]) (aa (af 1) aj)) [some (.ref i),some (.int c),none,none,none] h=.ok (.dat (.tuple [.int (n / c),.int (n % c)])) h:=(cA (ao (i0 _ _ _ _) (ao rfl rfl))).trans (by simp[qk,h0,h1]);unfold aA mr bx;simp only[U8,VG,VT,Vn,Yv,WL,Ww,show 5-2=3 from rfl,rep3];unfold aZ;rw[Mv t1];simp only[oE,t2,R.bA,oC,Vn,Yv,cD,aC,j6,XB,XC];simp only[af,List.getElem?_cons_succ,XD,R.bA,st];rfl
  ·rw[Xm (XF _ #[4])]
  ·rw[Xm (XF _ #[4])];exact Yj _ h0
 ·generalize hA:(n % 2147483647+40503)*69621 % 2147483629=A;generalize hB:(A*A+7817) % 2147483587=B;generalize hC:(B*48271+11) % 2147483629=C;have a0:0<=A:=by rw[<- hA];exact XF _ #[5]
  have a1:A<2147483629:=by rw[<- hA];exact Yj _ #[5]
  refine⟨.int (C / 32 % c),h.set i (.lst [.int C,.int f]),?_,⟨_,_,rfl⟩,(C / 32 % c).toNat,?_,?_⟩
  ·have t1:aN (ak oEq (ak dz (af 0) (ah (.int 1))) (ah (.int 1))) [some (.ref i),some (.int c),none,none,none] h=.ok false h:=bC (ax (i1 _ _ _ _) rfl (by rw[zQ];simp[hf]));have t2:cx 4 (ak oMod (ak ly (ak cF (ak oMod (ak dz (af 0) #[15]) (ah (.int 2147483647))) (ah (.int 40503))) (ah (.int 69621))) (ah (.int 2147483629))) [some (.ref i),some (.int c),none,none,none] h=.ok (.nx [some (.ref i),some (.int c),none,none,some (.int A)]) h:=by rw[<- hA];exact(uA (ax (ax (ax (ax (i0 _ _ _ _) rfl (rD #[5] h)) rfl (wW h)) rfl (rC #[5] #[5] h)) rfl (rD #[5] h))).trans rfl
   have t3:cx 4 (ak oMod (ak cF (ak ly (af 4) (af 4)) (ah (.int 7817))) (ah (.int 2147483587))) [some (.ref i),some (.int c),none,none,some (.int A)] h=.ok (.nx [some (.ref i),some (.int c),none,none,some (.int B)]) h:=by rw[<- hB];exact(uA (ax (ax (ax rfl rfl (rC a0 #[4] h)) rfl (wW h)) rfl (rD #[5] h))).trans rfl
   have t4:oE (Ad (af 0) #[15]) (ak oMod (ak cF (ak ly (af 4) (ah (.int 48271))) (ah (.int 11))) (ah (.int 2147483629))) [some (.ref i),some (.int c),none,none,some (.int B)] h=.ok (.nx [some (.ref i),some (.int c),none,none,some (.int B)]) (h.set i (.lst [.int C,.int f])):=by
    have q:ak oMod (ak cF (ak ly (af 4) (ah (.int 48271))) (ah (.int 11))) (ah (.int 2147483629)) [some (.ref i),some (.int c),none,none,some (.int B)] h=.ok (.int C) h:=by rw[<- hC];exact ax (ax (ax rfl rfl (rC #[5] #[5] h)) rfl (wW h)) rfl (rD #[5] h)
    simp only[oE,q,R.bA,st]
   have g:(h.set i (.lst [.int C,.int f]))[i]?=some (.lst [.int C,.int f]):=by rw[VY hl]
   have t5:ak oMod (ak qj (ak dz (af 0) #[15]) (ah (.int 32))) (af 1) [some (.ref i),some (.int c),none,none,some (.int B)] (h.set i (.lst [.int C,.int f]))=.ok (.int (C / 32 % c)) (h.set i (.lst [.int C,.int f])):=by
    have q:ak dz (af 0) #[15] [some (.ref i),some (.int c),none,none,some (.int B)] (h.set i (.lst [.int C,.int f]))=.ok (.int C) (h.set i (.lst [.int C,.int f])):=by simp only[ak,af,ah,R.bA,XD,dz,jN,Ay,g,lL,xJ];rfl
    exact ax (ax q rfl (BO #[5] #[5] _)) rfl (rD h0 _)
   unfold aA mr bx;simp only[U8,VG,VT,Vn,Yv,WL,Ww,show 5-2=3 from rfl,rep3];rw[oB ((Mw t1).trans rfl),oB t2,oB t3,oB t4,zM t5];rfl
  ·rw[Xm (XF _ #[4])]
  ·rw[Xm (XF _ #[4])];exact Yj _ h0
theorem OU(z:Int)(w:Wf h):∃n f:Int,iH [.int z] h=.ok (.ref h.length) (h++[.lst [.int n,.int f]])/\Px h.length (h++[.lst [.int n,.int f]]):=by
 obtain⟨n,hn⟩:∃n:Int,FK [.int z,.int (0-z)] h=.ok (.int n) h:=by unfold FK;exact⟨_,rfl⟩
 refine⟨n,if 10^18<=n then 1 else 0,?_,⟨⟨n,if 10^18<=n then 1 else 0,by simp⟩,w.push rfl⟩⟩;unfold iH vI bx;simp only[U8,VG,VT,Vn,Yv,WL,Ww,show 2-1=1 from rfl,rep1];have t1:cx 1 (ag FK (aa (af 0) (aa (ak FH #[15] (af 0)) aj))) [some (.int z),none] h=.ok (.nx [some (.int z),some (.int n)]) h:=(uA ((cA (ao rfl (ao rfl rfl))).trans hn)).trans rfl;rw[oB t1];have t2:∀b:Bool,va [.bool b] h=.ok (.int (if b then 1 else 0)) h:=λb=>rfl;have t3:ag va (aa (ak Qm (af 1) (ah (.int (10^18)))) aj) [some (.int z),some (.int n)] h=.ok (.int (if 10^18<=n then 1 else 0)) h:=by refine(cA (ao (ax rfl rfl rfl) rfl)).trans ?_;rw[t2];simp
 refine(Xh (λr=>R.bind r u0) (zM (m:=Ax _) ((cA (ao rfl (ao t3 rfl))).trans rfl))).trans rfl
noncomputable def jH:YB:=[.str "a",.str "aa",.str "ab",.str "abcdef",.str "b",.str "c",.str "d",.str "e",.str "m",.str "x",.str "zz",.str "zzzzzz"]
theorem zR:∀d∈jH,wY d:=UU.mp (show jH.all isName=true by rfl)
theorem LJ:jH.Nodup:=j3 fP (Mz fP zR #[7])
noncomputable abbrev Jj:ME:=Ia rN (af 3) (ag aA (aa (af 1) (aa (ag fF (aa (af 3) aj)) aj)))
theorem LK{he h3:Hm}{left:YB}(hL:he.length=L)(l3:h3.length=L)(hk:k<left.length)(h12:left.length<=12)
 (e2:aA [.ref i,.int (left.length:Int)] (he++[.lst (left.map D.dat)])=.ok (.int k) (h3++[.lst (left.map D.dat)])) :
  Jj [some x,some (.ref i),some (.int m),some (.ref L)] (he++[.lst (left.map D.dat)])=.ok (.dat left[k]) (h3++[.lst ((left.eraseIdx k).map D.dat)]):=by
 have g1:(he++[MO.lst (left.map D.dat)])[L]?=some (.lst (left.map D.dat)):=by subst hL;simp
 have g2:(h3++[MO.lst (left.map D.dat)])[L]?=some (.lst (left.map D.dat)):=by subst l3;simp
 have bl:fF [.ref L] (he++[.lst (left.map D.dat)])=.ok (.int (left.length:Int)) (he++[.lst (left.map D.dat)]):=by simp[fF,g1]
 have il:Qy (.ref L) (he++[.lst (left.map D.dat)])=true:=by simp[Qy,g1]
 have mp:rN (.ref L) (.int (k:Int)) (h3++[.lst (left.map D.dat)])=.ok (.dat left[k]) (h3++[.lst ((left.eraseIdx k).map D.dat)]):=by
  have c:(0:Int)<=k/\(k:Int)<(left.map D.dat).length/\(k:Int)<1000000:=by simp;omega
  have st:(h3++[MO.lst (left.map D.dat)]).set L (.lst ((left.map D.dat).eraseIdx k))=h3++[.lst ((left.eraseIdx k).map D.dat)]:=by subst l3;rw[List.set_append_right _ _ (UJ _)];simp[XQ]
  simp only[rN,g2,if_pos c,VZ,VD,UN hk,Ya,st]
 unfold Jj;simp only[Ia,ag,aa,aj,af,R.bA,XD,List.getElem?_cons_succ,il,VT,bl,e2,mp]
theorem MF:∀{xs:List D} {left:YB} {he:Hm},Px i he->he.length=L->xs.length<=left.length->left.length<=12 ->
  ∃(he':Hm) (out left':YB),ee 1 [some (.ref i),some (.int m),some (.ref L)] (aC 0) cG Jj xs (he++[.lst (left.map D.dat)])=.ok (out.map D.dat) (he'++[.lst (left'.map D.dat)])/\Ps i he he'/\out.length=xs.length/\(out++left').Perm left
 | [],left,he,b,_,_,_=>⟨he,[],left,rfl,b.refl,rfl,XU _⟩
 |x::xs,left,he,b,hL,hl,h12=>by
  simp only[U8]at hl;have bp:Px i (he++[.lst (left.map D.dat)]):=b.push (wQ _ _);obtain⟨_,h2,e2,s2,k,rfl,hk⟩:=fE bp (c:=(left.length:Int)) #[4] #[4];obtain⟨h3,rfl,s3⟩:=s2.pop b.lt;have b3:=s3.px b;have l3:h3.length=L:=by rw[s3.len,hL]
  have hk':k<left.length:=by omega
  have ll:=List.length_eraseIdx_of_lt hk';obtain⟨he',out,left',q1,q2,q3,q4⟩:=MF (i:=i) (L:=L) (m:=m) (xs:=xs) (left:=left.eraseIdx k) (he:=h3) b3 l3 #[4] #[4];have ep:=LK (x:=x) (m:=m) hL l3 hk' h12 e2;refine⟨he',left[k]::out,left',?_,s3.trans q2,by simp[q3],?_⟩
  ·exact wR #[7] #[7] ep q1
  ·exact(List.Perm.cons _ q4).trans (Stt.fW hk')
theorem Jk(b:Px i h)(hz:ns.length<=16777216)(e2:∀h,aQ (af 2) ρ h=.ok (ns.map D.dat) h)(e0:ρ[0]?=some (some (.ref i)))(e3:ρ[3]?=some (some (.int s)))(e5:ρ[5]?=some (some (.dat one))) :
  Dp i h (bE 1 (aQ (af 2)) (aC 0) (aN (ak oLt (ag aA (aa (af 1) (aa (ah (.int 8)) aj))) (af 4))) (dG (aa (af 6) (aa (af 0) aj))) ρ h) λd=>∃ls:YB,d=.dat (.list (ls.map λy=>.tuple [one,y]))/\ls.Sublist ns:=by
 unfold bE
 obtain⟨ys,zs,h',q1,q2,q3,q4⟩:=pT (n:=1) (ρ:=ρ) (g:=aC 0) (t:=aN (ak oLt (ag aA (aa (af 1) (aa (ah (.int 8)) aj))) (af 4))) (e:=dG (aa (af 6) (aa (af 0) aj))) (Ps i h) (λx y=>∃d,x=.dat d/\y=.dat (.tuple [one,d])) (xs:=ns.map D.dat) (h:=h) (λx hx h1 s1=>by
  obtain⟨d,hd,rfl⟩:=U0.mp hx;obtain⟨_,h2,e2,s2,k,rfl,hk⟩:=fE (s1.px b) (c:=8) #[5] #[5];refine⟨some (.dat d)::ρ,h1,decide ((k:Int)<s),h2,rfl,?_,?_⟩
  ·simp[e0,e2,e3,oA]
  ·cases hc:decide ((k:Int)<s)with
   |false=>exact .inl ⟨rfl,s1.trans s2⟩
   |true=>exact .inr ⟨rfl,.dat (.tuple [one,d]),h2,by simp[e5],⟨d,rfl,rfl⟩,s1.trans s2⟩) b.refl
 obtain⟨ls,rfl,sl⟩:=LB q3;rw[wU q4]at q1;have ea:iz 1 (aQ (af 2)) (aC 0) (aN (ak oLt (ag aA (aa (af 1) (aa (ah (.int 8)) aj))) (af 4))) (dG (aa (af 6) (aa (af 0) aj))) ρ h=.ok ((ls.map λy=>PyData.tuple [one,y]).map D.dat) h':=by unfold iz;rw[e2];simp only[R.bA,UZ,sz hz,VT];exact q1
 refine⟨.dat (.list (ls.map λy=>.tuple [one,y])),h',?_,q2,ls,rfl,sl⟩;rw[cA ea];exact dY _ h' (by rw[UZ];exact UP sl.length_le hz)
noncomputable abbrev Jl:MS:=cx 4 (ak cF (af 4) (bE 1 (aQ (af 2)) (aC 0) (aN (ak oLt (ag aA (aa (af 1) (aa (ah (.int 8)) aj))) (af 4))) (dG (aa (af 6) (aa (af 0) aj)))))
theorem Jm(r:Nr ns):∀{xs pre acc:YB} {h:Hm},ns=pre++xs->Px i h->Pw pre ns acc->∀a5:Option D,Dp i h (fk (aC 5) Jl (xs.map D.dat) [some (.ref i),some (.int m),some (.dat (.tuple ns)),some (.int s),some (.dat (.list acc)),a5] h) λf=>∃(acc':YB) (b5:Option D),f=.nx [some (.ref i),some (.int m),some (.dat (.tuple ns)),some (.int s),some (.dat (.list acc')),b5]/\Pw ns ns acc'
 | [],pre,acc,h,e,b,P,a5=>by
  have e':ns=pre:=by grind
  exact Dp.ok b ⟨acc,a5,rfl,by grind⟩
 |x::xs,pre,acc,h,e,b,P,a5=>by
  have l12:=r.le;obtain⟨_,h2,e2,s2,ls,rfl,sl⟩:=Jk (h:=h) b (ns:=ns) (s:=s) (one:=x) (ρ:=[some (.ref i),some (.int m),some (.dat (.tuple ns)),some (.int s),some (.dat (.list acc)),some (.dat x)]) #[4] (λh=>fD rfl) rfl rfl rfl;have P2:=P.step r.toRw e sl;obtain⟨f,h3,e3,s3,k⟩:=Jm (s:=s) (m:=m) r (xs:=xs) (pre:=pre++[x]) (acc:=acc++ls.map λy=>.tuple [x,y]) (by simp[e]) (s2.px b) P2 (some (.dat x));refine⟨f,h3,?_,s2.trans s3,k⟩
  have lp:acc.length+(ls.map λy=>PyData.tuple [x,y]).length<=16777216:=by
   have l1:=P2.len;have l3:(pre++[x]).length<=12:=by have:(pre++x::xs).length<=12:=e▸l12;simp only[Vi,U8,VG]at this ⊢;omega
   have l4:(pre++[x]).length*ns.length<=12*12:=XW l3 l12;simp only[Vi]at l1 l4 ⊢;omega
  have eb:Jl [some (.ref i),some (.int m),some (.dat (.tuple ns)),some (.int s),some (.dat (.list acc)),some (.dat x)] h=.ok (.nx [some (.ref i),some (.int m),some (.dat (.tuple ns)),some (.int s),some (.dat (.list (acc++ls.map λy=>.tuple [x,y]))),some (.dat x)]) h2:=
   bV (ax (x:=.dat (.list acc)) rfl e2 (iU h2 lp))
  simp only[Vn,fk,aC,R.gQ,R.bA,XB,XC];rw[eb];simp only[R.gQ,R.bA];exact e3
theorem Jn(I:Fm->Prop):∀{ds:YB} {h:Hm} {ρ:Fm},Px i h->(∀d∈ds,∀ρ h,Px i h->I ρ->∃ρ1 ρ2 h2,g (.dat d) ρ h=.ok ρ1 h/\b ρ1 h=.ok (.nx ρ2) h2/\Ps i h h2/\I ρ2)->I ρ->∃ρ' h',fk g b (ds.map D.dat) ρ h=.ok (.nx ρ') h'/\Ps i h h'/\I ρ'
 | [],h,ρ,p,_,a=>⟨ρ,h,rfl,p.refl,a⟩
 |d::ds,h,ρ,p,H,a=>by
  obtain⟨ρ1,ρ2,h2,e1,e2,s2,a2⟩:=H d #[6] ρ h p a;obtain⟨ρ',h',e3,s3,a3⟩:=Jn I (ds:=ds) (s2.px p) (λx m=>H x (by simp[m])) a2;refine⟨ρ',h',?_,s2.trans s3,a3⟩
  simp_all[fk]
theorem Jo(ns:List Int)(hi:Int)(e0:ρ[0]?=some (some (.scr ns)))(hn:ns.length<=63)(h:Hm):∃ds:YB,aQ (ak cF (dZ (aa (ag fL (aa (af 0) (aa #[15] aj))) aj)) (IE (af 0) (cP (ah (.int 1))) (cP (ah (.int hi))))) ρ h=.ok (ds.map D.dat) h/\∀d∈ds,∃z:Int,d=.int z:=by
 obtain⟨z,ez⟩:=LA ns 0 h;have ev:af 0 ρ h=.ok (.scr ns) h:=by simp[af,e0]
 have l1:dZ (aa (ag fL (aa (af 0) (aa #[15] aj))) aj) ρ h=.ok (.dat (.list [.int z])) h:=(cA (f:=iy) (ao (aq (ao ev (ao (x:=.int 0) rfl rfl)) ez) rfl)).trans (wz _ h);have l2:IE (af 0) (cP (ah (.int 1))) (cP (ah (.int hi))) ρ h=.ok (.dat (.list (cut (ns.map PyData.int) (some 1) (some hi)))) h:=by unfold IE;rw[ev];rfl
 have lc:(cut (ns.map PyData.int) (some 1) (some hi)).length<=63:=by unfold cut;rw[Yr,Ys,UZ];omega
 refine⟨.int z::cut (ns.map PyData.int) (some 1) (some hi),rl (ax l1 l2 (iU h (by simp;omega))),λd m=>?_⟩;rcases UO.mp m with rfl|m
 ·exact⟨z,rfl⟩
 ·obtain⟨k,_,rfl⟩:=U0.mp (Ei m);exact⟨k,rfl⟩
section
variable {ns:YB} {r q:Rel} {a b x y:PyData} {kd:Kd}
noncomputable def JH(r:Rel)(x y:PyData):Rel:=λa b=>if a=x/\b=y then !r a b else r a b
end
section
variable {ns:YB} {r q:Rel} {a b x y:PyData} {kd:Kd}
theorem OV(Rn:Nr ns)(hx:x∈ns)(hy:y∈ns):∀d,d∈rows ns (JH r x y)<->(d∈rows ns r/\d≠.tuple [x,y])\/(d=.tuple [x,y]/\d∉rows ns r):=λd=>by
 rw[ik,ik];constructor
 ·rintro⟨a,b,rfl,ha,hb,h⟩;by_cases z:a=x/\b=y
  ·obtain⟨rfl,rfl⟩:=z;simp only[JH,and_self,VT]at h
   grind
  ·simp only[JH,z,Vu]at h;exact .inl ⟨⟨a,b,rfl,ha,hb,h⟩,by simp_all⟩
 ·rintro(⟨⟨a,b,rfl,ha,hb,h⟩,z⟩|⟨rfl,z⟩)
  ·have z':¬ (a=x/\b=y):=by simpa using z
   exact⟨a,b,rfl,ha,hb,by simp only[JH,z',Vu];exact h⟩
  ·refine⟨x,y,rfl,hx,hy,?_⟩;simp only[JH,and_self,VT]
   cases e:r x y with
   |false=>rfl
   |true=>exact absurd ⟨x,y,rfl,hx,hy,e⟩ z
end
theorem BP{ds:YB}(I:Fm->Prop)(H:∀d∈ds,∀ρ,I ρ->∃ρ1 ρ2,g (.dat d) ρ h=.ok ρ1 h/\b ρ1 h=.ok (.nx ρ2) h/\I ρ2)(i:I ρ):∃ρ',fk g b (ds.map D.dat) ρ h=.ok (.nx ρ') h/\I ρ':=by
 induction ds generalizing ρ with
 |nil=>exact⟨ρ,rfl,i⟩
 |cons d ds ih=>
  obtain⟨ρ1,ρ2,e1,e2,i2⟩:=H d #[6] ρ i
  simp_all[fk]
noncomputable def De:YB:=[.none,.bool true,.bool false,.int 0,.int 1,.int (-1),.int (10^29),.str "",.str "a",.str "A",.str "abcdefg",.str "a b",.str "in",.tuple [],.list [],.dict [],.tuple [.int 0],.list [.str "a"]]
noncomputable def Dg:YB:=[.tuple [.str "a"],.tuple [.str "a",.str "a"],.tuple [.tuple [.str "a"],.tuple []],.tuple [.tuple [],.tuple []],.dict [(.str "a",.int 1)],.tuple [.str "in"],.tuple [.tuple [.str "a",.str "a"]],.tuple [.str "leaf",.str "a"]]
theorem LL:∀k:Fin 26,∃x,lL (De++Dg) (k.val:Int)=some x/\(Q0 200 3 x=true\/x=.dict []\/x=.dict [(.str "a",.int 1)]):=by
 intro k;have hk:k.val<(De++Dg).length:=k.isLt;refine⟨(De++Dg)[k.val],j8 (UN hk),?_⟩;have m:=WK hk;generalize (De++Dg)[k.val]=x at m;have:∀y∈De++Dg,Q0 200 3 y=true\/y=.dict []\/y=.dict [(.str "a",.int 1)]:=by intro y hy;simp[De,Dg,UO,Vd,Wi]at hy;rcases hy with rfl|rfl|rfl|rfl|rfl|rfl|rfl|rfl|rfl|rfl|rfl|rfl|rfl|rfl|rfl|rfl|rfl|rfl|rfl|rfl|rfl|rfl|rfl|rfl|rfl|rfl<;>first|exact .inl #[9]|grind|rfl
 grind
theorem LN{i:Nat}{h:Hm}(b:Px i h):Dp i h (jb [.ref i] h) λd=>∃x,d=.dat x/\PD 200 3 x:=by obtain⟨_,h',e,s,k,rfl,hk⟩:=fE b (c:=26) #[5] #[5];obtain⟨x,ex,ox⟩:=LL ⟨k,by omega⟩;refine⟨.dat x,h',?_,s,x,rfl,ox.imp nI id⟩;have e2:cF _ _ h=.ok (.dat (.list (De++Dg))) h:=iU h #[5];exact fb rfl (aH (bV rfl) (aH (bV (ax rfl rfl e2)) (dF (ax rfl (aq rfl e) (by simp_all)))))
theorem Q9{ds:YB}{z:Nat}{y:PyData}{h:Hm}(e:ds[z]?=some y):dz (.dat (.tuple ds)) (.int z) h=.ok (.dat y) h:=by rw[Lz,j8 e]
theorem Ra{ds:YB}{w k:Int}{v:PyData}{h:Hm}(hk:w-4=k)(e:lL ds k=some v):dz (.dat (.list ds)) (.int (w-4)) h=.ok (.dat v) h:=by rw[zK,hk,e]
theorem BQ{i:Nat}:∀(q:Nat) {n m:Nat} {d:PyData} {h:Hm},Px i h->Ok n m d->m<q->n<=5000->Dp i h (de q [.ref i,.dat d] h) λr=>∃x,r=.dat x/\Ok (n+n+20) (m+1) x
 |0,n,m,d,h,b,o,hm,hn=>by omega
 |q+1,n,m,d,h,b,o,hm,hn=>by
  obtain⟨_,ha,ea,sa,w,rfl,hw⟩:=fE b (c:=7) #[5] #[5];have ba:=sa.px b;obtain⟨_,hb,eb,sb,u,rfl,hu⟩:=fE ba (c:=14) #[5] #[5];obtain⟨x,ex,mx⟩:=zL (xs:=EO) (k:=u) (by have:EO.length=14:=rfl;omega);have ix:=zK EO u hb;rw[ex]at ix;have A:=λe=>(⟨.dat x,hb,fb rfl (aH (bV (aq rfl ea)) (kQ (sN e (aH (bV rfl) (dF (ax rfl (aq rfl eb) ix)))))),sa.trans sb,x,rfl,(nI (Jd x mx)).mono #[4] #[4]⟩:Dp i h (de (q+1) [.ref i,.dat d] h) λr=>∃x,r=.dat x/\Ok (n+n+20) (m+1) x)
  cases d with
  |tuple ds=>
   have tt:=λ{u:MT} {c:Bool}=>jG (u:=u) (c:=c) (h2:=ha) (gG (fv (c:=true) (m:=zX (lC isTup) (af 1)) (ρ:=[some (.ref i),some (.dat (.tuple ds)),some (.int w),none,none]) (h:=ha) rfl));have te:=bC (ax (ρ:=[some (.ref i),some (.dat (.tuple ds)),some (.int w),none,none]) (a:=af 1) (b:=ah (.tuple [])) rfl rfl (BG o.items ha));by_cases hz:ds=[]
   ·subst hz;exact A (tt (zN te))
   rw[Xg.mpr hz]at te;have tw:=tt (jG te (bC (ax (a:=af 2) (b:=ah (.int 2)) rfl rfl (oA w 2 ha))));by_cases h2:(w:Int)<2
   ·rw[Vz h2]at tw;exact A tw
   rw[Vj h2]at tw
   clear A te tt
   have hl:0<ds.length:=List.length_pos_iff.mpr hz;have hl2:=o.items.len;have hm1:1<=m:=by have:=o.d;simp only[PyData.depth]at this;omega
   obtain⟨_,hc,ec,sc,z,rfl,hz2⟩:=fE ba (c:=ds.length) #[4] #[4];have bc:=sc.px ba;obtain⟨y,ey,o1,oy,o2,ws⟩:=o.items.split z #[4];have l1:=o1.len;have l2:=o2.len;have e1:∀hh,sT (af 1) fm (cP (af 4)) [some (.ref i),some (.dat (.tuple ds)),some (.int w),none,some (.int z)] hh=.ok (.dat (.tuple (ds.take z))) hh:=λhh=>by rw[<- ON ds z];rfl
   have e2:∀hh,sT (af 1) (cP (ak cF (af 4) (ah (.int 1)))) fm [some (.ref i),some (.dat (.tuple ds)),some (.int w),none,some (.int z)] hh=.ok (.dat (.tuple (ds.drop (z+1)))) hh:=λhh=>by rw[<- BE ds (z+1)];rfl
   have e3:∀hh,sT (af 1) (cP (af 4)) (cP (ak cF (af 4) (ah (.int 1)))) [some (.ref i),some (.dat (.tuple ds)),some (.int w),none,some (.int z)] hh=.ok (.dat (.tuple [y])) hh:=λhh=>by rw[<- Lv ds z y ey];rfl
   by_cases h4:(w:Int)<4
   ·obtain⟨_,hd,ed,sd,x',rfl,ox'⟩:=BQ q (n:=y.weight) (m:=m-1) bc oy #[4] #[4];exact⟨.dat (.tuple (ds.take z++[x']++ds.drop (z+1))),hd,fb rfl (aH (bV (aq rfl ea)) (aH (kR tw rfl) (aH (bV (aq rfl ec)) (kQ (sN (bC (ax rfl rfl ((oA w 4 hc).trans (by rw[Vz h4])))) (dF (ax (ax (e1 hc) ((aq (ao (aq (ao rfl (ao (ax rfl rfl (Q9 ey)) rfl)) ed) rfl) (C0 _ _))) (gO _ (by simp at l1 ⊢;omega))) (e2 hd) (gO _ (by simp at l1 l2 ⊢;omega))))))))),(sa.trans sc).trans sd,_,rfl,Ok.mono (((o1.mono (UJ _) (by omega:m-1<=m)).append (fO.one (ox'.mono (UJ _) (by omega:m-1+1<=m)))).append (o2.mono (UJ _) (by omega:m-1<=m))).tup #[4] (UJ _)⟩
   have B:=λ{k:Int} {v:PyData} (hk:(w:Int)-4=k) (e:lL [.tuple (ds.take z++ds.drop (z+1)),.list ds,.tuple (ds++[y])] k=some v) (ov:Ok (n+n+20) (m+1) v)=>(⟨.dat v,hc,fb rfl (aH (bV (aq rfl ea)) (aH (kR tw rfl) (aH (bV (aq rfl ec)) (aH (kR (bC (ax rfl rfl ((oA w 4 hc).trans (by rw[Vj h4])))) rfl) (dF (ax (aq (ao (ax (e1 hc) (e2 hc) (gO _ (by simp at l1 l2 ⊢;omega))) (ao rfl (ao (ax rfl (e3 hc) (gO _ (by simp;omega))) rfl))) (Ja _ _ _ _)) rfl (Ra hk e))))))),sa.trans sc,_,rfl,ov⟩:Dp i h (de (q+1) [.ref i,.dat (.tuple ds)] h) λr=>∃x,r=.dat x/\Ok (n+n+20) (m+1) x);obtain e|e|e:(w:Int)-4=0\/(w:Int)-4=1\/(w:Int)-4=2:=by omega
   ·exact B e rfl (Ok.mono ((o1.append o2).tup) #[4] #[4])
   ·exact B e rfl (Ok.mono (o.items.lst) #[4] #[4])
   ·exact B e rfl (Ok.mono ((o.items.append (fO.one oy)).tup) #[4] #[4])
  |_=>exact A (zN (gG (fv (c:=false) rfl)))
noncomputable def JI(d:PyData):Prop:=(∃n m,Ok n m d/\n<=10000/\m<=40/\eO d=false)\/∃kvs,d=.dict kvs
theorem JI.ok{d:PyData}(w:JI d)(h:Hm):iE [.dat d] h=.ok (.bool false) h:=by
 rcases w with⟨n,m,o,hn,hm,e⟩|⟨kvs,rfl⟩
 ·rw[Gs o hn hm,e]
 rfl
theorem Jp{n m:Nat}{d:PyData}(o:PD n m d)(hn:n<=10000)(hm:m<=40):∃b,(∀h,cq [.dat d] h=.ok (.bool b) h)/\(b=false->JI d):=by
 rcases o with o|rfl|rfl
 ·exact⟨eO d,xA o hn hm,λe=>.inl ⟨n,m,o,hn,hm,e⟩⟩
 ·exact⟨false,lj _,λ_=>.inr ⟨_,rfl⟩⟩
 ·exact⟨false,lj _,λ_=>.inr ⟨_,rfl⟩⟩
theorem Gv{i:Nat}{h:Hm}(b:Px i h){n:Nat}{a c:PyData}(o:Ok n 3 (.tuple [a,c]))(hn:n<=4000):Dp i h (iJ [.ref i,.dat (.tuple [a,c])] h) λd=>∃ds:YB,d=.dat (.list ds)/\∀x∈ds,JI x:=by
 obtain⟨_,h1,e1,s1,x1,rfl,o1⟩:=BQ 5 b o #[4] #[4];obtain⟨_,h2,e2,s2,x2,rfl,o2⟩:=LN (s1.px b);have oa:=o.items.mem (d:=a) #[6];have oc:=o.items.mem (d:=c) #[6]
 have od:∀d∈[PyData.none,.tuple [],.list [.tuple [a,c]],a,.tuple [a],.list [a,c],.tuple [a,c,.tuple []],x1,x2],PD 9999 6 d:=by
  intro d m;simp only[UO,Vd,Wi]at m;rcases m with rfl|rfl|rfl|rfl|rfl|rfl|rfl|rfl|rfl
  ·exact .inl ⟨rfl,by decide,by decide +kernel⟩
  ·exact .inl ⟨rfl,by decide,by decide +kernel⟩
  ·exact .inl ((fO.one o).lst.mono #[4] #[4])
  ·exact .inl (oa.mono #[4] #[4])
  ·exact .inl ((fO.one oa).tup.mono #[4] #[4])
  ·exact .inl (o.items.lst.mono #[4] #[4])
  ·exact .inl ((o.items.append (fO.one (n:=0) (m:=2) (d:=.tuple []) ⟨rfl,by decide,by decide +kernel⟩)).tup.mono #[4] #[4])
  ·exact .inl (o1.mono #[4] #[4])
  ·exact o2.mono #[4] #[4]
 have l1:dZ (aa (ah .none) (aa (ah (.tuple [])) (aa (dZ (aa (af 1) aj)) (aa (ak dz (af 1) #[15]) (aa (dG (aa (ak dz (af 1) #[15]) aj)) (aa (ag u9 (aa (af 1) aj)) (aa (dG (aa (ak dz (af 1) #[15]) (aa (ak dz (af 1) (ah (.int 1))) (aa (ah (.tuple [])) aj)))) (aa (ag (de 5) (aa (af 0) (aa (af 1) aj))) (aa (ag jb (aa (af 0) aj)) aj))))))))) [some (.ref i),some (.dat (.tuple [a,c])),none] h=.ok (.dat (.list [.none,.tuple [],.list [.tuple [a,c]],a,.tuple [a],.list [a,c],.tuple [a,c,.tuple []],x1,x2])) h2:=by have i0:ak dz (af 1) #[15] [some (.ref i),some (.dat (.tuple [a,c])),none] h=.ok (.dat a) h:=ax (x:=.dat (.tuple [a,c])) rfl (y:=.int 0) rfl rfl;have i1:ak dz (af 1) (ah (.int 1)) [some (.ref i),some (.dat (.tuple [a,c])),none] h=.ok (.dat c) h:=ax (x:=.dat (.tuple [a,c])) rfl (y:=.int 1) rfl rfl;exact(cA (f:=iy) (ao (x:=.none) rfl (ao (x:=.dat (.tuple [])) rfl (ao (x:=.dat (.list [.tuple [a,c]])) rfl (ao i0 (ao (aq (f:=gW) (xs:=[.dat a]) (ao i0 rfl) rfl) (ao (x:=.dat (.list [a,c])) rfl (ao (aq (f:=gW) (xs:=[.dat a,.dat c,.dat (.tuple [])]) (ao i0 (ao i1 rfl)) rfl) (ao (aq (xs:=[.ref i,.dat (.tuple [a,c])]) rfl e1) (ao (aq (xs:=[.ref i]) rfl e2) rfl)))))))))).trans (dY [_,_,_,_,_,_,_,_,_] h2 #[6])
 generalize hL:[PyData.none,.tuple [],.list [.tuple [a,c]],a,.tuple [a],.list [a,c],.tuple [a,c,.tuple []],x1,x2]=L at od l1;have ll:L.length=9:=by rw[<- hL];rfl
 have key:∃ys,bE 1 (aQ (af 2)) (aC 0) (eF (bK (ag cq (aa (af 0) aj)))) (af 0) [some (.ref i),some (.dat (.tuple [a,c])),some (.dat (.list L))] h2=.ok (.dat (.list ys)) h2/\∀x∈ys,JI x:=by
  let f:PyData->Bool:=λd=>(cq [.dat d] [] matches .ok (.dat (.bool false)) _)
  have hf:∀d∈L,∃b,(∀h,cq [.dat d] h=.ok (.bool b) h)/\(b=false->JI d)/\f d=!b:=λd m=>by obtain⟨b,k1,k2⟩:=Jp (od d m) #[5] #[5];refine⟨b,k1,k2,?_⟩;simp only[f,k1];cases b<;>rfl
  refine⟨(L.filter f).map id,ij (n:=1) (h1:=h2) (ds:=L) (rl rfl) #[4] f id (λd m=>?_),λx m=>?_⟩
  ·obtain⟨b,k1,_,k3⟩:=hf d m;refine⟨_,rfl,?_,λ_=>rfl⟩;rw[k3];exact gG (fv (aq (xs:=[.dat d]) rfl (k1 h2)))
  ·rw[Ye]at m;obtain⟨m1,m2⟩:=VP.mp m;obtain⟨b,_,k2,k3⟩:=hf x m1;rw[k3]at m2;exact k2 (by simpa using m2)
 obtain⟨ys,ek,hy⟩:=key;exact⟨.dat (.list ys),h2,fb rfl (aH (bV l1) (dF ek)),s1.trans s2,ys,rfl,hy⟩
section
variable {ns:YB} {r q:Rel} {a b x y:PyData} {kd:Kd}
theorem Jq(w:Wf h)(e:f xs h=.ok (.dat x) (h++t)):gI f xs h=.ok (.dat x) h:=by
 unfold gI;have  := UU.mpr λo m=>w o m
 simp_all[D.below]
end
noncomputable abbrev xW:Xc:=⟨"NoWeb",[]⟩
theorem EV{d:PyData}(w:JI d)(h:Hm):dR [.dat d] h=.exc xW h:=by unfold dR ku;simp[w.ok h,rV,kc]
section
variable {ns:YB} {r:Rel}
theorem iW(Rn:Nr ns)(h:Hm):dR [.dat (cu ns r)] h=.ok D.none h:=by have:=OS (EU (r:=r) Rn (UJ _)) (by have:=Rn.le;exact UP (XW this this) #[5]) h;simp[dR,ku,this]
end
noncomputable abbrev xP:Xc:=⟨"NoPair",[]⟩
section
variable {a b:MS} {m:ME} {ma:MA} {ρ ρ1:Fm} {h h1:Hm} {x:Xc} {f:Fn} {xs:List D} {p n:Nat}
theorem Jr(l:xs.length=p)(e:b (xs.map some++List.replicate (n-p) none) h=.ok (.nx ρ1) h1):bx p n b xs h=.ok D.none h1:=by
 simp_all
theorem zS(l:xs.length=p)(e:b (xs.map some++List.replicate (n-p) none) h=.exc x h1):bx p n b xs h=.exc x h1:=by
 simp_all
theorem yu(e:a ρ h=.exc x h1):aZ a b ρ h=.exc x h1:=by simp_all
theorem sO(e:m ρ h=.exc x h1):oM m ρ h=.exc x h1:=by simp_all
theorem gS(ha:ma ρ h=.ok xs h)(k:f xs h=.exc x h1):ag f ma ρ h=.exc x h1:=(cA ha).trans k
end
section
variable {ns n1 n2:YB} {r q:Rel}
theorem nK(Rn:Nr ns):ay (.tuple ns)=true/\(PyData.tuple ns).depth<=40:=by
 refine⟨fP.zW Rn.sub,?_⟩;have:=fN λd m=>fP.dep d (Rn.sub d m)
 grind[PyData.depth]
theorem Js(R1:Nr n1)(R2:Nr n2)(h:Hm):aN (ak j4 (ak dz (af 0) #[15]) (ak dz (af 1) #[15])) [some (.dat (cu n1 r)),some (.dat (cu n2 q))] h=.ok (!decide (PyData.tuple n1=.tuple n2)) h:=
 bC (ax (ax rfl rfl rfl) (ax rfl rfl rfl) (wV (nK R1).1 (nK R2).1 (by have:=(nK R1).2;omega) h))
theorem Jt(Rn:Nr ns)(h:Hm):gE [.dat (cu ns r),.dat (cu ns q)] h=.ok D.none h:=by have e:=Js (r:=r) (q:=q) Rn Rn h;rw[Vz rfl]at e;exact Jr rfl (kR e rfl)
theorem Rb(R1:Nr n1)(R2:Nr n2)(ne:n1≠n2)(h:Hm):gE [.dat (cu n1 r),.dat (cu n2 q)] h=.exc xP h:=by have e:=Js (r:=r) (q:=q) R1 R2 h;rw[Vj (by grind)]at e;exact zS rfl (sN e rfl)
end
theorem Ps.BR{i:Nat}{h h':Hm}{P:Addr}{q:Str}(b:Px i h)(s:Ps i h h')(t:h[0]?=some (.tab P q)):h'[0]?=some (.tab P q):=by
 obtain⟨n,f,rfl⟩:=s;by_cases hi:i=0
 ·subst hi;obtain⟨⟨m,g,e⟩,_⟩:=b
  grind
 simp_all
theorem LO{g:MG}{b:MS}{T:MO}(I:Fm->Prop){ds:YB}(H:∀d∈ds,∀ρ h,Wf h->h[0]?=some T->I ρ->∃ρ1 ρ2 h2,g (.dat d) ρ h=.ok ρ1 h/\b ρ1 h=.ok (.nx ρ2) h2/\Wf h2/\h2[0]?=some T/\I ρ2):∀{h:Hm} {ρ:Fm},Wf h->h[0]?=some T->I ρ->∃ρ' h',fk g b (ds.map D.dat) ρ h=.ok (.nx ρ') h'/\Wf h'/\h'[0]?=some T/\I ρ':=by
 induction ds with
 |nil=>exact λ{h ρ} w t a=>⟨ρ,h,rfl,w,t,a⟩
 |cons d ds ih=>intro h ρ w t a;obtain⟨ρ1,ρ2,h2,e1,e2,w2,t2,a2⟩:=H d #[6] ρ h w t a;obtain⟨ρ',h',e3,w3,t3,a3⟩:=ih (λx m=>H x (by simp[m])) w2 t2 a2;refine⟨ρ',h',?_,w3,t3,a3⟩;simp only[Vn];unfold fk;rw[e1];simp only[R.gQ,R.bA];rw[e2];simp only[R.gQ,R.bA];exact e3
section
variable {ns:YB} {r q:Rel} {a b x y:PyData} {kd:Kd}
theorem MH(b:Px i h)(hn:0<ns.length)(nl:ns.length<=12)(e0:ρ[0]?=some (some (.ref i)))(e3:ρ[3]?=some (some (.dat (.tuple ns)))):Dp i h (ak dz (af 3) (ag aA (aa (af 0) (aa (ag fF (aa (af 3) aj)) aj))) ρ h) λd=>∃x,d=.dat x/\x∈ns:=by
 obtain⟨_,h2,e2,s2,k,rfl,hk⟩:=fE b (c:=(ns.length:Int)) #[4] #[4];obtain⟨x,ex,mx⟩:=zL (xs:=ns) (k:=k) #[4];refine⟨.dat x,h2,?_,s2,x,rfl,mx⟩
 simp_all
end
theorem LP:rows ns (λ_ _=>false)=[]:=List.eq_nil_iff_forall_not_mem.mpr λp m=>by obtain⟨a,b,_,_,_,h⟩:=ik.mp m;cases h
theorem OW(e:ma ρ h=.ok xs h1)(hz:xs.length<=1000):Ax ma ρ h=.ok (.ref h1.length) (h1++[.lst xs]):=(cA e).trans (by simp[sS,sz (show xs.length<=16777216 by omega)])
noncomputable def Dh:YB:=[.str "a",.str "b",.str "c",.str "d",.str "e",.str "f",.str "g",.str "h",.str "i",.str "j",.str "k",.str "l",.str "m",.str "n",.str "o",.str "p",.str "q",.str "r",.str "s",.str "t",.str "u",.str "v",.str "w",.str "x",.str "y",.str "z"]
theorem Di:∀d∈Dh,wY d:=UU.mp (show Dh.all isName=true by rfl)
theorem Ju:Dh.Nodup:=j3 fP (Mz fP Di #[7])
theorem OX(ρ:Fm)(h:Hm):aQ (ah (.str "abcdefghijklmnopqrstuvwxyz")) ρ h=.ok (Dh.map D.dat) h:=by rfl
noncomputable def BX(ns:YB):YB:=Dh.filter λd=>!sJ ns d
theorem Nr.sd(R:Nr ns):bF ns gx=true:=bM.mpr λd m=>dy (R.sub d m)
section
variable {ns:YB}
theorem BS(R:Nr ns)(e:ρ[0]?=some (some (.dat (.tuple ns))))(h:Hm):bE 1 (aQ (ah (.str "abcdefghijklmnopqrstuvwxyz"))) (aC 0) (aN (ak gJ (af 0) (af 1))) (af 0) ρ h=.ok (.dat (.list (BX ns))) h:=by have:=ij (n:=1) (g:=aC 0) (t:=aN (ak gJ (af 0) (af 1))) (e:=af 0) (OX ρ h) #[5] _ id λx hx=>⟨some _::ρ,rfl,bC (ax rfl (by simp_all) (uy (rm (Di x hx)) R.sd h)),λ_=>rfl⟩;rw[Ye]at this;exact this
theorem OY(R:Nr ns)(h:Hm):eL [.dat (.tuple ns)] h=.ok (.dat (.list (BX ns))) h:=fb rfl (dF (BS R rfl h))
theorem LQ(R:Nr ns):∃f l xs,BX ns=f::l::xs/\wY f/\wY l/\f∉ns/\l∉ns/\f≠l:=by
 have nd:(BX ns).Nodup:=Ju.filter _;have hm:∀d∈BX ns,wY d/\d∉ns:=λd m=>by obtain⟨m1,m2⟩:=VP.mp m;exact⟨Di d m1,λq=>by simp[(eZ R.sd).mpr q]at m2⟩
 have hl:14<=(BX ns).length:=by
  have h1  := sv (Ju.filter _) λd m=>(eZ R.sd).mp (VP.mp m).2;have h2:=(List.filter_append_perm (λd=>sJ ns d) Dh).length_eq;have h3:Dh.length=26:=rfl;have:=R.le
  grind[BX]
 match e:BX ns,hl with
 |f::l::xs,_=>
  grind
theorem Jv(e:BX ns=f::l::xs):cut (BX ns) none (some 2)=[f,l]:=by rw[e];rfl
end
section
variable {ns hs ks:YB} {f l:PyData}
structure uB(ns hs ks:YB)(f l:PyData):Prop where
 R:Nr ns
 hi:hs.Sublist ns
 ke:ks.Sublist ns
 ap:∀d∈hs,d∉ks
 nf:wY f
 nl:wY l
 ff:f∉ns
 fl:l∉ns
 ne:f≠l
 le:ns.length<=8
noncomputable def tN(hs ks:YB)(f l:PyData):YB:=if ks=[]then f::hs else f::hs++l::ks
noncomputable def tS(hs ks:YB)(f l:PyData):YB:=if ks=[]then hs.map (λd=>.tuple [f,d])else hs.map (λd=>.tuple [f,d])++(l::ks).map λd=>.tuple [l,d]
noncomputable def tW(hs ks:YB)(f l:PyData):PyData:=.tuple [.tuple (bN ltB (tN hs ks f l)),.tuple (bN ltB (tS hs ks f l))]
theorem uB.nh(T:uB ns hs ks f l):∀d∈hs,wY d:=λd m=>T.R.sub d (T.hi.subset m)
theorem uB.nk(T:uB ns hs ks f l):∀d∈ks,wY d:=λd m=>T.R.sub d (T.ke.subset m)
theorem uB.lh(T:uB ns hs ks f l):hs.length<=8:=UP T.hi.length_le T.le
theorem uB.lk(T:uB ns hs ks f l):ks.length<=8:=UP T.ke.length_le T.le
theorem uB.n2(T:uB ns hs ks f l):∀d∈f::hs++l::ks,wY d:=by
 intro d m;rcases U1.mp m with m|m
 ·rcases UO.mp m with rfl|m
  ·exact T.nf
  ·exact T.nh d m
 ·rcases UO.mp m with rfl|m
  ·exact T.nl
  ·exact T.nk d m
theorem uB.nd(T:uB ns hs ks f l):(f::hs++l::ks).Nodup:=by
 have h1:=j3 fP T.R.toRw;have h2:=h1.sublist T.hi;have h3:=h1.sublist T.ke;have a1:f∉hs:=λz=>T.ff (T.hi.subset z);have a2:l∉hs:=λz=>T.fl (T.hi.subset z);have a3:f∉ks:=λz=>T.ff (T.ke.subset z);have a4:l∉ks:=λz=>T.fl (T.ke.subset z);have a5:=T.ne;rw[W6];refine⟨VM.mpr ⟨a1,h2⟩,VM.mpr ⟨a4,h3⟩,λa ha b hb=>?_⟩;rcases UO.mp ha with rfl|ha<;>rcases UO.mp hb with rfl|hb
 ·exact a5
 ·exact λz=>a3 (z▸hb)
 ·exact λz=>a2 (z▸ha)
 ·exact λz=>T.ap a ha (z▸hb)
theorem uB.same(T:uB ns hs ks f l):bN ltB ([f,l]++hs++ks)=bN ltB (f::hs++l::ks):=by have p:([f,l]++hs++ks).Perm (f::hs++l::ks):=List.Perm.cons f (Xj.symm);have n1  := λd m=>T.n2 d (p.mem_iff.mp m);refine Jg fP (rA fP n1 (p.nodup_iff.mpr T.nd)) (rA fP T.n2 T.nd) λd=>?_;rw[(aS _ _).mem_iff,(aS _ _).mem_iff,p.mem_iff]
theorem uB.nN(T:uB ns hs ks f l):(∀d∈tN hs ks f l,wY d)/\(tN hs ks f l).length<=18:=by
 have:=T.lh;have:=T.lk;unfold tN;split
 ·exact⟨λd m=>T.n2 d (VJ _ m),by grind⟩
 ·exact⟨T.n2,by grind⟩
theorem uB.nS(T:uB ns hs ks f l):(∀d∈tS hs ks f l,Mx d)/\(tS hs ks f l).length<=17:=by
 have:=T.lh;have:=T.lk;have a:∀d∈hs.map (λd=>PyData.tuple [f,d]),Mx d:=λd m=>by obtain⟨x,hx,rfl⟩:=U0.mp m;exact⟨f,x,T.nf,T.nh x hx,rfl⟩
 unfold tS;split
 ·grind
 ·refine⟨λd m=>?_,by grind⟩;rcases U1.mp m with m|m
  ·exact a d m
  ·obtain⟨x,hx,rfl⟩:=U0.mp m;exact⟨l,x,T.nl,T.n2 x (U2 _ hx),rfl⟩
theorem EW(u:tV U)(h:∀d∈xs,U d)(hl:xs.length<=18)(hh:Hm):dA [.dat (.list xs)] hh=.ok (.dat (.list (bN ltB xs))) hh/\rY [.dat (.tuple xs)] hh=.ok (.dat (.list (bN ltB xs))) hh:=by have s:=u.Q5 h #[4];simp[dA,rY,listOf,s]
end
section
variable {i j n:Nat} {m:ME} {it:MA} {g:MG} {e:ME} {ρ:Fm} {h h1:Hm} {xs ds:YB}
theorem Gw(hit:it ρ h=.ok (ds.map D.dat) h1)(hz:ds.length<=16777216)(f:PyData->PyData)
 (H:∀x∈ds,∃ρ1,g (.dat x) (List.replicate n none++ρ) h1=.ok ρ1 h1/\e ρ1 h1=.ok (.dat (f x)) h1):iz n it g cG e ρ h=.ok ((ds.map f).map D.dat) h1:=by
 unfold iz;rw[hit];simp only[R.bA,UZ,sz hz]
 rw[nG (λ_=>true) (λx=>match x with|.dat d=>.dat (f d)|x=>x) (λx hx=>by
  obtain⟨d,hd,rfl⟩:=U0.mp hx
  simp_all)]
 rw[List.filter_eq_self.mpr λ_ _=>rfl,Xq,Xq];rfl
theorem LR(e0:iz n it g cG e ρ h=.ok ys h1)(hz:ys.length<=1000):yT n it g cG e ρ h=.ok (.ref h1.length) (h1++[.lst ys]):=(cA e0).trans (by simp[sS,sz (show ys.length<=16777216 by omega)])
theorem EX(e0:ρ[i]?=some (some (.ref j)))(em:m ρ h=.ok (.dat (.list ds)) h)(gj:h[j]?=some (.lst (xs.map D.dat)))(hz:xs.length+ds.length<=1000):qJ i m ρ h=.ok (.nx (ρ.set i (some (.ref j)))) (h.set j (.lst ((xs++ds).map D.dat))):=by unfold qJ;rw[e0];simp[em,gj,sz (show xs.length+ds.length<=16777216 by omega)]
theorem MI(u:tV U)(hU:∀d∈xs,U d)(hl:xs.length<=18)(gj:h[j]?=some (.lst (xs.map D.dat))):dA [.ref j] h=.ok (.dat (.list (bN ltB xs))) h:=by have s:=u.Q5 hU #[4];simp[dA,listOf,gj,nQ,s]
theorem EY{a b c:MO}:(h++[a,b]).set h.length c=h++[c,b]/\(h++[a,b]).set (h.length+1) c=h++[a,c]:=by simp
theorem uC:(h++[a,b])[h.length]?=some a/\(h++[a,b])[h.length+1]?=some b:=by simp
end
section
variable {ns hs ks:YB} {f l:PyData}
noncomputable abbrev wE(ns hs ks:YB)(f l:PyData)(a5 a6:Option D):Fm:=[some (.dat (.tuple ns)),some (.dat (.tuple hs)),some (.dat (.tuple ks)),some (.dat f),some (.dat l),a5,a6]
set_option maxHeartbeats 2000000 in
theorem OZ(T:uB ns hs ks f l)(e:BX ns=f::l::xs){h:Hm}(w:Wf h):jt [.dat (.tuple ns),.dat (.tuple hs),.dat (.tuple ks)] h=.ok (.dat (tW hs ks f l)) h:=by
 have lh:=T.lh;have lk:=T.lk;have e1:sT (ag eL (aa (af 0) aj)) fm (cP (ah (.int 2))) [some (.dat (.tuple ns)),some (.dat (.tuple hs)),some (.dat (.tuple ks)),none,none,none,none] h=.ok (.dat (.list [f,l])) h:=by unfold sT;rw[show ag eL (aa (af 0) aj) _ h=_ from aq rfl (OY T.R h)];exact Xh (λz=>R.ok (D.dat (.list z)) h) (Jv e)
 have e2:=OW (ma:=aa (af 3) (oQ (af 1) aj)) (ρ:=wE ns hs ks f l none none) (h:=h) (xs:=.dat f::(hs.map D.dat++[])) rfl (by simp;omega);rw[WS]at e2
 have c1:∀h1:Hm,iz 1 (aQ (af 1)) (aC 0) cG (dG (aa (af 4) (aa (af 0) aj))) (wE ns hs ks f l (some (.ref h.length)) none) h1=.ok ((hs.map λd=>.tuple [f,d]).map D.dat) h1:=λh1=>
  Gw (ds:=hs) (fD rfl) #[4] _ λx _=>⟨_,rfl,e9 (a:=f) (b:=x) rfl rfl⟩
 have e3:yT 1 (aQ (af 1)) (aC 0) cG (dG (aa (af 4) (aa (af 0) aj))) (wE ns hs ks f l (some (.ref h.length)) none) (h++[.lst ((f::hs).map D.dat)])=.ok (.ref (h.length+1)) (h++[.lst ((f::hs).map D.dat),.lst ((hs.map λd=>.tuple [f,d]).map D.dat)]):=by have:=LR (c1 (h++[.lst ((f::hs).map D.dat)])) (by simp;omega);rw[Ym,Vi]at this;exact this
 have nN:=T.nN;have nS:=T.nS
 have fin:∀{a b:YB},a=tN hs ks f l->b=tS hs ks f l->∀ρ:Fm,ρ[5]?=some (some (.ref h.length))->ρ[6]?=some (some (.ref (h.length+1))) ->
   bJ (dG (aa (ag dk (aa (ag dA (aa (af 5) aj)) aj)) (aa (ag dk (aa (ag dA (aa (af 6) aj)) aj)) aj))) ρ (h++[.lst (a.map D.dat),.lst (b.map D.dat)])=.ok (.rt (.dat (tW hs ks f l))) (h++[.lst (a.map D.dat),.lst (b.map D.dat)]):=by
  rintro a b rfl rfl ρ r5 r6;have s1:=MI fP nN.1 nN.2 (h:=h++[.lst ((tN hs ks f l).map D.dat),.lst ((tS hs ks f l).map D.dat)]) uC.1;have s2:=MI lq nS.1 (Yp nS.2) (h:=h++[.lst ((tN hs ks f l).map D.dat),.lst ((tS hs ks f l).map D.dat)]) uC.2;exact dF (e9 (aq (ao (aq (ao (by simp[af,r5]) rfl) s1) rfl) rfl) (aq (ao (aq (ao (by simp[af,r6]) rfl) s2) rfl) rfl))
 have key:∃t,oR [.dat (.tuple ns),.dat (.tuple hs),.dat (.tuple ks)] h=.ok (.dat (tW hs ks f l)) (h++t):=by
  by_cases hz:ks=[]
  ·subst hz;exact⟨_,fb rfl (aH (sM e1 rfl) (aH (bV e2) (aH (bV e3) (aH (kR (sL (x:=.dat (.tuple [])) rfl rfl) rfl) (fin (a:=f::hs) (b:=hs.map λd=>.tuple [f,d]) (by simp[tN]) (by simp[tS]) _ rfl rfl)))))⟩
  ·have tr:bK (af 2) (wE ns hs ks f l (some (.ref h.length)) (some (.ref (h.length+1)))) (h++[.lst ((f::hs).map D.dat),.lst ((hs.map λd=>.tuple [f,d]).map D.dat)])=.ok true (h++[.lst ((f::hs).map D.dat),.lst ((hs.map λd=>.tuple [f,d]).map D.dat)]):=sL (x:=.dat (.tuple ks)) rfl (by simp[truth,hz]);have m1:∀(h1:Hm) (a5 a6:Option D),dZ (aa (af 4) (oQ (af 2) aj)) (wE ns hs ks f l a5 a6) h1=.ok (.dat (.list (l::ks))) h1:=λh1 a5 a6=>by have e:aa (af 4) (oQ (af 2) aj) (wE ns hs ks f l a5 a6) h1=.ok (.dat l::(ks.map D.dat++[])) h1:=rfl;rw[WS]at e;exact(cA e).trans (dY (l::ks) h1 (by simp;omega))
   have g1:qJ 5 (dZ (aa (af 4) (oQ (af 2) aj))) (wE ns hs ks f l (some (.ref h.length)) (some (.ref (h.length+1)))) (h++[.lst ((f::hs).map D.dat),.lst ((hs.map λd=>.tuple [f,d]).map D.dat)])=.ok (.nx (wE ns hs ks f l (some (.ref h.length)) (some (.ref (h.length+1))))) (h++[.lst ((f::hs++l::ks).map D.dat),.lst ((hs.map λd=>.tuple [f,d]).map D.dat)]):=by have:=EX (i:=5) (j:=h.length) (xs:=f::hs) (ρ:=wE ns hs ks f l (some (.ref h.length)) (some (.ref (h.length+1)))) rfl (m1 (h++[.lst ((f::hs).map D.dat),.lst ((hs.map λd=>.tuple [f,d]).map D.dat)]) _ _) uC.1 (by simp;omega);rw[EY.1]at this;exact this
   have m2:∀(h1:Hm) (a5 a6:Option D),bE 1 (aQ (dZ (aa (af 4) (oQ (af 2) aj)))) (aC 0) cG (dG (aa (af 5) (aa (af 0) aj))) (wE ns hs ks f l a5 a6) h1=.ok (.dat (.list ((l::ks).map λd=>.tuple [l,d]))) h1:=λh1 a5 a6=>
    cO (rl (m1 h1 a5 a6)) (by simp;omega) _ λx _=>⟨_,rfl,e9 (a:=l) (b:=x) rfl rfl⟩
   have g2:qJ 6 (bE 1 (aQ (dZ (aa (af 4) (oQ (af 2) aj)))) (aC 0) cG (dG (aa (af 5) (aa (af 0) aj)))) (wE ns hs ks f l (some (.ref h.length)) (some (.ref (h.length+1)))) (h++[.lst ((f::hs++l::ks).map D.dat),.lst ((hs.map λd=>.tuple [f,d]).map D.dat)])=.ok (.nx (wE ns hs ks f l (some (.ref h.length)) (some (.ref (h.length+1))))) (h++[.lst ((f::hs++l::ks).map D.dat),.lst (((hs.map λd=>PyData.tuple [f,d])++(l::ks).map λd=>PyData.tuple [l,d]).map D.dat)]):=by have:=EX (i:=6) (j:=h.length+1) (xs:=hs.map λd=>.tuple [f,d]) (ρ:=wE ns hs ks f l (some (.ref h.length)) (some (.ref (h.length+1)))) rfl (m2 (h++[.lst ((f::hs++l::ks).map D.dat),.lst ((hs.map λd=>.tuple [f,d]).map D.dat)]) _ _) uC.2 (by simp;omega);rw[EY.2]at this;exact this
   exact⟨_,fb rfl (aH (sM e1 rfl) (aH (bV e2) (aH (bV e3) (aH (sN tr (aH g1 g2)) (fin (a:=f::hs++l::ks) (b:=(hs.map λd=>.tuple [f,d])++(l::ks).map λd=>.tuple [l,d]) (by simp[tN,hz]) (by simp[tS,hz]) _ rfl rfl)))))⟩
 obtain⟨t,k⟩:=key;exact Jq w k
end
theorem O0(e:BX ns=f::l::xs)(em:m ρ h=.ok (.dat (.list (BX ns))) h):sT m fm (cP (ah (.int 2))) ρ h=.ok (.dat (.list [f,l])) h:=by unfold sT;rw[em];exact Xh (λz=>R.ok (D.dat _) h) (Jv e)
section
variable {ns hs ks xs:YB} {f l:PyData}
theorem Gy(R:Nr ns)(e:BX ns=f::l::xs)(h:Hm):hV [.dat (.tuple ns)] h=.ok (.dat (.list [f,l])) h:=
 fb rfl (dF (O0 e (BS R rfl h)))
noncomputable abbrev RX(ns hs ks:YB)(f l:PyData)(a5:Option D):Fm:=[some (.dat (.tuple ns)),some (.dat (.tuple hs)),some (.dat (.tuple ks)),some (.dat f),some (.dat l),a5]
theorem Jw(T:uB ns hs ks f l)(e:BX ns=f::l::xs)(h:Hm):jc [.dat (.tuple ns),.dat (.tuple hs),.dat (.tuple ks)] h=.ok (.dat (tW hs ks f l)) h:=by
 have lh:=T.lh;have lk:=T.lk
 have c1:∀a5,bE 1 (aQ (af 1)) (aC 0) cG (dG (aa (af 4) (aa (af 0) aj))) (RX ns hs ks f l a5) h=.ok (.dat (.list (hs.map λd=>.tuple [f,d]))) h:=λa5=>
  cO (fD rfl) #[4] _ λx _=>⟨_,rfl,e9 (a:=f) (b:=x) rfl rfl⟩
 have ok:fO 800 0 ks:=(fO.of λd m=>rm (T.nk d m)).mono #[4] (UJ _);have q:=bC (ax (a:=af 2) (b:=ah (.tuple [])) (ρ:=RX ns hs ks f l (some (.dat (.list (hs.map λd=>.tuple [f,d]))))) rfl rfl (BG ok h));have s1:oE (vH (cD (aC 3) (cD (aC 4) j6))) (ag hV (aa (af 0) aj)) [some (.dat (.tuple ns)),some (.dat (.tuple hs)),some (.dat (.tuple ks)),none,none,none] h=.ok (.nx (RX ns hs ks f l none)) h:=sM (aq (xs:=[.dat (.tuple ns)]) rfl (Gy T.R e h)) rfl;have nS:=T.nS;by_cases hz:ks=[]
 ·subst hz;have t1:tN hs [] f l=f::hs:=by simp[tN]
  have t2:tS hs [] f l=hs.map λd=>.tuple [f,d]:=by simp[tS]
  have nN:=T.nN;rw[t1]at nN;rw[t2]at nS;have b1:=(EW fP nN.1 nN.2 h).2;have b2:=(EW lq nS.1 (Yp nS.2) h).1;unfold tW;rw[t1,t2];exact fb rfl (aH s1 (aH (bV (c1 _)) (kQ (sN q (dF (e9 (aq (ao (aq (ao (ax (aq rfl (C0 _ _)) rfl (gO (xs:=[f]) h (by simp;omega))) rfl) b1) rfl) rfl) (aq (ao (aq rfl b2) rfl) rfl)))))))
 ·rw[Xg.mpr hz]at q;have t1:tN hs ks f l=f::hs++l::ks:=by simp[tN,hz]
  have t2:tS hs ks f l=(hs.map λd=>PyData.tuple [f,d])++[.tuple [l,l]]++ks.map λd=>PyData.tuple [l,d]:=by simp[tS,hz]
  have p:([f,l]++hs++ks).Perm (f::hs++l::ks):=by simp only[WL,Ww];exact List.Perm.cons f (Xj.symm)
  rw[t2]at nS;have b1:=(EW fP (λd m=>T.n2 d (p.mem_iff.mp m)) (by rw[p.length_eq];simp;omega) h).2;have b2:=(EW lq nS.1 (Yp nS.2) h).1;unfold tW;rw[t1,t2,<- T.same]
  have c2:∀a5,bE 1 (aQ (af 2)) (aC 0) cG (dG (aa (af 5) (aa (af 0) aj))) (RX ns hs ks f l a5) h=.ok (.dat (.list (ks.map λd=>.tuple [l,d]))) h:=λa5=>
   cO (fD rfl) #[4] _ λx _=>⟨_,rfl,e9 (a:=l) (b:=x) rfl rfl⟩
  exact fb rfl (aH s1 (aH (bV (c1 _)) (aH (kR q rfl) (aH (bV (ax (ax rfl (aq (ao (e9 (a:=l) (b:=l) rfl rfl) rfl) (wz _ _)) (iU h (by simp;omega))) (c2 _) (iU h (by simp;omega))))
   (dF (e9 (aq (ao (aq (ao (ax (ax (e9 (a:=f) (b:=l) rfl rfl) rfl (gO h (by simp;omega))) rfl (gO h (by simp;omega))) rfl) b1) rfl) rfl) (aq (ao (aq rfl b2) rfl) rfl)))))))
end
theorem O1(e:m ρ h=.ok (.bool c) h1):Hv m ρ h=.ok (.bool !c) h1:=by unfold Hv;rw[bC e];rfl
noncomputable abbrev xL:Xc:=⟨"NoLot",[]⟩
section
variable {ns n1 n2 hs ks xs:YB} {f l d:PyData} {r q:Rel} {h:Hm}
noncomputable abbrev zT(ns:YB)(d:PyData)(b:Bool):Prop:=∀h:Hm,mm [.dat d,.dat (.tuple ns)] h=.ok (.bool b) h
theorem pW(R:Nr ns)(o:Ok n m d)(hn:n<=10000):zT ns d (gc ns d):=λh=>Gn o hn R.sd h
theorem rE(R:Nr ns)(s:hs.Sublist ns):zT ns (.tuple hs) true:=by have nm  := λd m=>R.sub d (s.subset m);have l:=R.le;have lh:=s.length_le;have o:Ok 100 1 _:=((fO.of λd m=>rm (nm d m)).mono #[4] (UJ _)).tup;have e:=pW R o #[5];rw[show gc ns _=true by simp[gc];exact⟨bM.mpr λd m=>(eZ R.sd).mpr (s.subset m),uz (R.ris.sublist s)⟩]at e;exact e
theorem Rc(e:zT ns d true)(h:Hm):gM [.dat (cu ns r),.dat d] h=.ok D.none h:=
 Jr rfl (kR (gG (fv (aq (xs:=[.dat d,.dat (.tuple ns)]) rfl (e h)))) rfl)
theorem MJ(e:zT ns d false)(h:Hm):gM [.dat (cu ns r),.dat d] h=.exc xL h:=
 zS rfl (sN (gG (fv (aq (xs:=[.dat d,.dat (.tuple ns)]) rfl (e h)))) rfl)
theorem BU(R:Nr ns)(s1:hs.Sublist ns)(s2:ks.Sublist ns)(h:Hm):mn [.dat (.tuple hs),.dat (.tuple ks)] h=.ok (.bool !C3 hs (sJ ks)) h:=by have nh  := λd m=>R.sub d (s1.subset m);have sk  := bM.mpr λd m=>dy (R.sub d (s2.subset m));have l:=R.le;have lh:=s1.length_le;have c:=cO (n:=1) (it:=aQ (af 0)) (g:=aC 0) (e:=ak JB (af 0) (af 2)) (ρ:=[some _,some _]) (fD rfl) #[4] _ λx m=>⟨_,rfl,ax rfl rfl (pV (rm (nh x m)) sk h)⟩;exact fb rfl (dF (O1 (aq (ao c rfl) (Jb hs _ h))))
theorem O6(T:uB ns hs ks f l)(h:Hm):dS [.dat (cu ns r),.dat (.tuple hs),.dat (.tuple ks)] h=.ok D.none h:=by
 have a:=BU T.R T.hi T.ke h
 rw[show C3 hs (sJ ks)=false by
  have sk:bF ks gx=true:=bM.mpr λd m=>dy (T.nk d m);rw[V9];intro z;obtain⟨d,m,k⟩:=BH.mp z
  exact T.ap d m ((eZ sk).mp k)]at a
 exact Jr rfl (aH (dU (aq (xs:=[.dat (cu ns r),.dat (.tuple hs)]) rfl (Rc (rE T.R T.hi) h))) (aH (dU (aq (xs:=[.dat (cu ns r),.dat (.tuple ks)]) rfl (Rc (rE T.R T.ke) h))) (kR (gG (fv (aq (xs:=[.dat (.tuple hs),.dat (.tuple ks)]) rfl a))) rfl)))
theorem Rf(T:uB ns hs ks f l)(e:BX ns=f::l::xs)(w:Wf h):aR [.dat (cu ns r),.dat (cu ns q),.dat (.tuple hs),.dat (.tuple ks)] h=.ok (.dat (tW hs ks f l)) h:=
 fb rfl (aH (dU (aq (xs:=[.dat (cu ns r)]) rfl (iW T.R h))) (aH (dU (aq (xs:=[.dat (cu ns q)]) rfl (iW T.R h))) (aH (dU (aq (xs:=[.dat (cu ns r),.dat (cu ns q)]) rfl (Jt T.R h))) (aH (dU (aq (xs:=[.dat (cu ns r),.dat (.tuple hs),.dat (.tuple ks)]) rfl (O6 T h)))
  (dF (aq (xs:=[.dat (.tuple ns),.dat (.tuple hs),.dat (.tuple ks)]) rfl (OZ T e w)))))))
theorem Rg(w:JI d)(x y z:D):aR [.dat d,x,y,z] h=.exc xW h:=zS rfl (yu (sO (gS (xs:=[.dat d]) rfl (EV w h))))
theorem Rh(R:Nr ns)(w:JI d)(y z:D):aR [.dat (cu ns r),.dat d,y,z] h=.exc xW h:=
 zS rfl (aH (dU (aq (xs:=[.dat (cu ns r)]) rfl (iW R h))) (yu (sO (gS (xs:=[.dat d]) rfl (EV w h)))))
theorem To(R1:Nr n1)(R2:Nr n2)(ne:n1≠n2)(y z:D):aR [.dat (cu n1 r),.dat (cu n2 q),y,z] h=.exc xP h:=
 zS rfl (aH (dU (aq (xs:=[.dat (cu n1 r)]) rfl (iW R1 h))) (aH (dU (aq (xs:=[.dat (cu n2 q)]) rfl (iW R2 h))) (yu (sO (gS (xs:=[.dat (cu n1 r),.dat (cu n2 q)]) rfl (Rb R1 R2 ne h))))))
theorem O7(R:Nr ns)(e:dS [.dat (cu ns r),x,y] h=.exc xL h):aR [.dat (cu ns r),.dat (cu ns q),x,y] h=.exc xL h:=
 zS rfl (aH (dU (aq (xs:=[.dat (cu ns r)]) rfl (iW R h))) (aH (dU (aq (xs:=[.dat (cu ns q)]) rfl (iW R h))) (aH (dU (aq (xs:=[.dat (cu ns r),.dat (cu ns q)]) rfl (Jt R h))) (yu (sO (gS (xs:=[.dat (cu ns r),x,y]) rfl e))))))
theorem Tp(e:zT ns d false)(y:D):dS [.dat (cu ns r),.dat d,y] h=.exc xL h:=zS rfl (yu (sO (gS (xs:=[.dat (cu ns r),.dat d]) rfl (MJ e h))))
theorem Tq(e0:zT ns c true)(e:zT ns d false):dS [.dat (cu ns r),.dat c,.dat d] h=.exc xL h:=
 zS rfl (aH (dU (aq (xs:=[.dat (cu ns r),.dat c]) rfl (Rc e0 h))) (yu (sO (gS (xs:=[.dat (cu ns r),.dat d]) rfl (MJ e h)))))
theorem Tr(R:Nr ns)(s1:hs.Sublist ns)(s2:ks.Sublist ns)(m1:d∈hs)(m2:d∈ks):dS [.dat (cu ns r),.dat (.tuple hs),.dat (.tuple ks)] h=.exc xL h:=by
 have a:=BU R s1 s2 h
 rw[show C3 hs _=true by
  have sk  := bM.mpr λd m=>dy (R.sub d (s2.subset m))
  exact BH.mpr ⟨d,m1,(eZ sk).mpr m2⟩]at a
 exact zS rfl (aH (dU (aq rfl (Rc (rE R s1) h))) (aH (dU (aq rfl (Rc (rE R s2) h))) (sN (gG (fv (aq rfl a))) rfl)))
noncomputable def Dj:MO:=.tab hZ ia
noncomputable def wd:Xc->PyData
 |x=>.tuple [.str (wordAt ((clsAt x.cls).getD 0))]
theorem yw(hx:x=xW\/x=xL\/x=xP)(t:h[0]?=some Dj)(hs:(pick ρ idx).all Option.isSome=true)(e:b (pick ρ idx) h=.exc x h):iD [0,1,4] 0 hZ ia idx b ρ h=.ok (.dat (wd x)) h:=by unfold iD;rw[t];simp[Dj,hs];rw[e];rcases hx with rfl|rfl|rfl<;>rfl
end
theorem Gz{i:Nat}{h:Hm}(b:Px i h){m:Nat}(hm:m<=11):Dp i h (kz [.ref i,.int (m:Int)] h) λd=>∃ns:YB,d=.dat (.tuple ns)/\Nr ns/\ns.length<=m/\∀d∈ns,d∈jH:=by
 have b1:Px i (h++[.lst (jH.map D.dat)]):=b.push (wQ _ _);obtain⟨_,h2',e2,s2',c,rfl,hc⟩:=fE b1 (c:=(m:Int)+1) #[4] #[4];obtain⟨h2,rfl,s2⟩:=s2'.pop b.lt;have b2:=s2.px b;have ln:(nums 0 c).length=c:=by simp[nums]
 obtain⟨h3,out,left,q1,q2,q3,q4⟩:=MF (i:=i) (L:=h.length) (m:=(m:Int)) (xs:=nums 0 c) (left:=jH) (he:=h2) b2 s2.len (by rw[ln];simp[jH];omega) #[5];have on:out.length=c:=by rw[q3,ln]
 have onm:∀d∈out,wY d:=λd m=>zR d (q4.mem_iff.mp (VJ _ m));have ond:out.Nodup:=(W6.mp (q4.nodup_iff.mpr LJ)).1;have rw0:Rw wY (bN ltB out):=rA fP onm ond;have so:eh out=true:=fP.Q5 onm #[4];have nl:(bN ltB out).length=c:=by rw[(aS _ _).length_eq,on]
 have rn:Nr (bN ltB out):=⟨rw0,by omega⟩
 have ra:iz 1 (oN (aa (ag aA (aa (af 0) (aa (ak cF (af 1) (ah (.int 1))) aj))) aj)) (aC 0) cG Jj [some (.ref i),some (.int (m:Int)),some (.ref h.length)] (h++[.lst (jH.map D.dat)])=.ok (out.map D.dat) (h3++[.lst (left.map D.dat)]):=by
  have e1:aa (ag aA (aa (af 0) (aa (ak cF (af 1) (ah (.int 1))) aj))) aj [some (.ref i),some (.int (m:Int)),some (.ref h.length)] (h++[.lst (jH.map D.dat)])=.ok [.dat (.int (c:Int))] (h2++[.lst (jH.map D.dat)]):=
   ao (aq (ao rfl (ao (ax rfl rfl rfl) rfl)) e2) rfl
  unfold iz;rw[wM e1 #[4]];simp only[R.bA];rw[if_pos (by rw[ln];exact sz #[4])];exact q1
 have m1:=(cA (f:=iy) ra).trans (dY out _ #[4]);have m2:dA [.dat (.list out)] (h3++[.lst (left.map D.dat)])=.ok (.dat (.list (bN ltB out))) (h3++[.lst (left.map D.dat)]):=by simp[dA,listOf,so]
 have t1:cx 2 (Ax (aa (ah (.str "a")) (aa (ah (.str "aa")) (aa (ah (.str "ab")) (aa (ah (.str "abcdef")) (aa (ah (.str "b")) (aa (ah (.str "c")) (aa (ah (.str "d")) (aa (ah (.str "e")) (aa (ah (.str "m")) (aa (ah (.str "x")) (aa (ah (.str "zz")) (aa (ah (.str "zzzzzz")) aj))))))))))))) [some (.ref i),some (.int (m:Int)),none] h=.ok (.nx [some (.ref i),some (.int (m:Int)),some (.ref h.length)]) (h++[.lst (jH.map D.dat)]):=rfl;have m3:ag dA (aa (bE 1 (oN (aa (ag aA (aa (af 0) (aa (ak cF (af 1) (ah (.int 1))) aj))) aj)) (aC 0) cG Jj) aj) [some (.ref i),some (.int (m:Int)),some (.ref h.length)] (h++[.lst (jH.map D.dat)])=.ok (.dat (.list (bN ltB out))) (h3++[.lst (left.map D.dat)]):=aq (ao m1 rfl) m2;have m4:dk [.dat (.list (bN ltB out))] (h3++[.lst (left.map D.dat)])=.ok (.dat (.tuple (bN ltB out))) (h3++[.lst (left.map D.dat)]):=rfl;have run:ky [.ref i,.int (m:Int)] h=.ok (.dat (.tuple (bN ltB out))) (h3++[.lst (left.map D.dat)]):=by unfold ky qK;exact fb rfl (aH t1 (dF (aq (ao m3 rfl) m4)))
 exact⟨_,h3,BN b run (s2.trans q2),s2.trans q2,bN ltB out,rfl,rn,by omega,λd m=>q4.mem_iff.mp (VJ _ ((aS _ _).mem_iff.mp m))⟩
theorem LS{i:Nat}{h:Hm}(b:Px i h){m:Nat}(hm:m<=11):Dp i h (kA [.ref i,.int (m:Int)] h) λd=>∃(ns:YB) (r:Rel),d=.dat (cu ns r)/\Nr ns/\ns.length<=m/\∀d∈ns,d∈jH:=by
 obtain⟨_,h2,e2,s2,ns,rfl,rn,nl,nq⟩:=Gz b hm;have b2:=s2.px b;obtain⟨_,h4,e4,s4,u,rfl,hu⟩:=fE b2 (c:=4) #[5] #[5]
 obtain⟨sh,esh⟩:∃s:Int,lL [PyData.int 1,.int 2,.int 3,.int 5] (u:Int)=some (.int s):=by
  obtain⟨x,ex,mx⟩:=zL (xs:=[PyData.int 1,.int 2,.int 3,.int 5]) (k:=u) (by grind)
  grind
 obtain⟨_,h5,e5,s5,ss,b5,rfl,P⟩:=Jm (i:=i) (s:=sh) (m:=(m:Int)) rn (xs:=ns) (pre:=[]) (acc:=[]) rfl (s4.px b2) ⟨.nil,by simp,by simp⟩ none
 have w:Wb (ns.length*ns.length) ns ss:=by
  refine⟨rn,⟨λp m=>?_,P.ris⟩,λx y m=>?_,P.len⟩
  ·obtain⟨x,y,rfl,hx,hy⟩:=P.mem p m;exact⟨x,y,rn.sub x hx,rn.sub y hy,rfl⟩
  ·obtain⟨x',y',e,hx,hy⟩:=P.mem _ m;simp only[PyData.tuple.injEq,List.cons.injEq,and_true]at e;obtain⟨rfl,rfl⟩:=e;exact⟨hx,hy⟩
 refine⟨.dat (.tuple [.tuple ns,.tuple ss]),h5,?_,(s2.trans s4).trans s5,ns,MC ss,by rw[cu,<- LG w],rn,nl,nq⟩;have i1:ak dz (ah (.list [.int 1,.int 2,.int 3,.int 5])) (ag aA (aa (af 0) (aa (ah (.int 4)) aj))) [some (.ref i),some (.int (m:Int)),none,none,none,none] h2=.ok (.int sh) h4:=ax rfl (aq (xs:=[.ref i,.int 4]) rfl e4) (by simp only[dz,jN,Ay,esh])
 exact fb rfl (aH (sM (x:=.dat (.tuple [.tuple ns,.int sh,.list []])) ((cA (f:=gW) (ao (aq (xs:=[.ref i,.int (m:Int)]) rfl e2) (ao i1 (ao (x:=.dat (.list [])) rfl rfl)))).trans (OM _ _ _ _)) rfl)
  (aH (kP (fD (ds:=ns) rfl) e5) (dF (e9 (a:=.tuple ns) (b:=.tuple ss) rfl (aq (xs:=[.dat (.list ss)]) rfl rfl)))))
theorem Dk(u:tV U)(r:∀d∈xs,U d)(q:∀d∈ys,U d)(l:xs.length+ys.length<64)(h:Hm):fU [.dat (.tuple (xs++ys))] h=.ok (.dat (.list (un xs ys))) h:=by obtain⟨o1,o2,o3⟩:=MB u r q;have s2  := u.set (λd m=>(U1.mp m).elim (r d) (q d)) (by grind);have s3:eh (iG _)=true:=u.Q5 (xs:=KU xs ys) (λd m=>((o1 d).mp m).elim (r d) (q d)) #[4];simp[fU,qI,s2,s3,un,KU]
theorem EZ(e:t ρ h=.ok false h1):tY t u ρ h=.ok false h1:=by simp_all
theorem Ts(hx:x=xW\/x=xL\/x=xP)(h:Hm):j4 (.dat (.list [wd x,wd x])) (.dat (.list [wd x,wd x])) h=.ok (.bool false) h:=by
 have:eqQ (.list [wd x,wd x]) (.list [wd x,wd x])=some true:=by rcases hx with rfl|rfl|rfl<;>decide +kernel
 simp[j4,this]
theorem Ri(hx:x=xW\/x=xL\/x=xP)(h:Hm):j4 (.dat (wd x)) (.dat (wd x)) h=.ok (.bool false) h:=by
 have:eqQ (wd x) (wd x)=some true:=by rcases hx with rfl|rfl|rfl<;>decide +kernel
 simp[j4,this]
theorem MK:PyData.str "qq" ∉ jH:=by
 have h:∀d∈jH,PyData.eqv d (.str "qq")=false:=by trivial
 intro z;have:=h _ z;exact absurd this (by trivial)
noncomputable def LU:YB:=[.none,.list [],.tuple [.str "qq"],.tuple [.str "zz",.str "a"],.tuple [.str "a",.str "a"],.str "",.int 7,.tuple [.none],.dict [],.tuple [.str "A"],.tuple [.tuple [.str "a"]]]
section
variable {ns:YB} {r q:Rel} {d:PyData} {i:Nat} {h:Hm}
theorem LV(R:Nr ns)(hq:∀d∈ns,d∈jH):∀d∈LU,zT ns d false:=by
 have no:∀x,x∉jH->sJ ns x=false:=λx hx=>by rw[V9];exact λz=>hx (hq x ((eZ R.sd).mp z))
 intro d m;simp only[LU,UO,Vd,Wi]at m;rcases m with rfl|rfl|rfl|rfl|rfl|rfl|rfl|rfl|rfl|rfl|rfl
 ·exact λh=>rfl
 ·exact λh=>rfl
 ·have:=pW (d:=.tuple [.str "qq"]) R (nI (n:=50) (m:=5) #[9]) #[5]
  rwa [show gc ns (.tuple [.str "qq"])=false by simp[gc,bF,no (.str "qq") MK]]at this
 ·have:=pW (d:=.tuple [.str "zz",.str "a"]) R (nI (n:=50) (m:=5) #[9]) #[5]
  rwa [show gc ns (.tuple [.str "zz",.str "a"])=false by simp[gc,show jF [PyData.str "zz",.str "a"]=false by decide +kernel]]at this
 ·have:=pW (d:=.tuple [.str "a",.str "a"]) R (nI (n:=50) (m:=5) #[9]) #[5]
  rwa [show gc ns (.tuple [.str "a",.str "a"])=false by simp[gc,show jF [PyData.str "a",.str "a"]=false by decide +kernel]]at this
 ·exact λh=>rfl
 ·exact λh=>rfl
 ·have:=pW (d:=.tuple [.none]) R (nI (n:=50) (m:=5) #[9]) #[5]
  rwa [show gc ns (.tuple [.none])=false by simp[gc,bF,no .none (by simp[jH])]]at this
 ·exact λh=>rfl
 ·have:=pW (d:=.tuple [.str "A"]) R (nI (n:=50) (m:=5) #[9]) #[5]
  rwa [show gc ns (.tuple [.str "A"])=false by simp[gc,bF,no (.str "A") (λz=>absurd (zR _ z) #[9])]]at this
 ·have:=pW (d:=.tuple [.tuple [.str "a"]]) R (nI (n:=50) (m:=5) #[9]) #[5]
  rwa [show gc ns (.tuple [.tuple [.str "a"]])=false by simp[gc,bF,no (.tuple [.str "a"]) (by simp[jH])]]at this
theorem O8(em:m ρ h=.ok (.dat (.tuple (a::rest))) h):sT m fm (cP (ah (.int 1))) ρ h=.ok (.dat (.tuple [a])) h:=by unfold sT;rw[em];rfl
noncomputable abbrev Dn(i:Nat)(ns:YB)(r q:Rel)(a3 a4 a5:Option D):Fm:=[some (.ref i),some (.dat (cu ns r)),some (.dat (cu ns q)),a3,a4,a5]
noncomputable abbrev Rj:MS:=aZ (cx 4 (dZ (aa (iD [0,1,4] 0 hZ ia [3] (ag aR (aa (af 0) (aa (ah .none) (aa (ah .none) (aa (ah .none) aj)))))) aj)))
  (jM (aN (ak j4 (ak cF (af 4) (dZ (aa (iD [0,1,4] 0 hZ ia [1,3] (ag aR (aa (af 0) (aa (af 1) (aa (ah .none) (aa (ah .none) aj)))))) aj))) (ak ly (ah (.list [.tuple [.str "web"]])) (ah (.int 2))))) (bJ (ah (.bool false))) cg)
noncomputable abbrev Rk:MS:=aZ (cx 4 (dZ (aa (iD [0,1,4] 0 hZ ia [1,2,3] (ag aR (aa (af 0) (aa (af 1) (aa (af 2) (aa (ah .none) aj)))))) aj)))
  (jM (aN (ak j4 (ak cF (af 4) (dZ (aa (iD [0,1,4] 0 hZ ia [1,2,3] (ag aR (aa (af 0) (aa (af 1) (aa (ah (.tuple [])) (aa (af 2) aj)))))) aj))) (ak ly (ah (.list [.tuple [.str "lot"]])) (ah (.int 2))))) (bJ (ah (.bool false))) cg)
theorem ML{a b:ME}(hx:x=xW\/x=xL\/x=xP)(e4:ρ1[4]?=some (some (.dat (.list [wd x]))))(eb:b ρ1 h=.ok (.dat (wd x)) h)(ev:v ρ1 h=.ok (.dat (.list [wd x,wd x])) h):jM (aN (ak j4 (ak cF (af 4) (dZ (aa b aj))) v)) (bJ (ah (.bool false))) cg ρ1 h=.ok (.nx ρ1) h:=
 kR (bC (ax (ax (by simp_all) (aq (ao eb rfl) (wz _ _)) (iU (xs:=[wd x]) h #[6])) ev (Ts hx h))) rfl
theorem LW(R:Nr ns)(nw:JI d)(t:h[0]?=some Dj)(a4 a5:Option D):Rj (Dn i ns r q (some (.dat d)) a4 a5) h=.ok (.nx (Dn i ns r q (some (.dat d)) (some (.dat (.list [wd xW]))) a5)) h:=
 aH (bV (aq (ao (yw (.inl rfl) t rfl (gS (xs:=[.dat d,.dat .none,.dat .none,.dat .none]) rfl (Rg nw _ _ _))) rfl) (wz _ _)))
  (ML (a:=af 0) (.inl rfl) rfl (yw (.inl rfl) t rfl (gS (xs:=[.dat (cu ns r),.dat d,.dat .none,.dat .none]) rfl (Rh R nw _ _))) rfl)
theorem LX(R:Nr ns)(nl:zT ns d false)(t:h[0]?=some Dj)(a4 a5:Option D):Rk (Dn i ns r q (some (.dat d)) a4 a5) h=.ok (.nx (Dn i ns r q (some (.dat d)) (some (.dat (.list [wd xL]))) a5)) h:=
 aH (bV (aq (ao (yw (.inr (.inl rfl)) t rfl (gS (xs:=[.dat (cu ns r),.dat (cu ns q),.dat d,.dat .none]) rfl (O7 R (Tp nl _)))) rfl) (wz _ _)))
  (ML (a:=af 0) (.inr (.inl rfl)) rfl (yw (.inr (.inl rfl)) t rfl (gS (xs:=[.dat (cu ns r),.dat (cu ns q),.dat (.tuple []),.dat d]) rfl (O7 R (Tq (rE R (List.nil_sublist _)) nl)))) rfl)
theorem O9(R:Nr ns):Ok 84 1 (.tuple ns):=(EU (r:=λ_ _=>false) R (UJ _)).Ud
theorem zU(R:Nr ns)(nl:ns.length<=8):Ok 1200 3 (cu ns r):=by have lr:(rows ns r).length<=64:=UP rB (XW nl nl);have o2:Ok 1000 2 (.tuple (rows ns r)):=((fO.of λd m=>(kS ((ig R).sub d m)).2.2.2.2.2).mono #[4] (UJ _)).tup;exact((fO.cons ((O9 R).mono (UJ _) #[5]) (fO.one o2)).mono #[4] (UJ _)).tup
theorem Pa(R:Nr ns)(nl:ns.length<=8)(hq:∀d∈ns,d∈jH):∃n2,Nr n2/\ns≠n2/\∀a3 a4 a5,dG (aa (ag dk (aa (ag fU (aa (ak cF (ak dz (af 1) #[15]) (ah (.tuple [.str "qq"]))) aj)) aj)) (aa (ah (.tuple [])) aj)) (Dn i ns r q a3 a4 a5) h=.ok (.dat (cu n2 λ_ _=>false)) h:=by
 have nq:∀d∈[PyData.str "qq"],wY d:=λd m=>by simp only[Vk]at m;subst m;rfl
 obtain⟨u1,u2,u3⟩:=Q6 fP R.sub nq;have l1:(un ns [PyData.str "qq"]).length<=12:=UP u3 (by grind);refine⟨un ns [.str "qq"],⟨u1,l1⟩,λz=>MK (hq _ (z▸(u2 _).mpr (.inr #[6]))),λa3 a4 a5=>?_⟩;have k:=Dk fP R.sub nq (by grind) h
 have e:=e9 (m:=ag dk (aa (ag fU (aa (ak cF (ak dz (af 1) #[15]) (ah (.tuple [.str "qq"]))) aj)) aj)) (m2:=ah (.tuple [])) (ρ:=Dn i ns r q a3 a4 a5)
  (aq (ao (aq (ao (ax (ax rfl rfl rfl) rfl (gO (ys:=[.str "qq"]) h (by grind))) rfl) k) rfl) rfl) rfl
 rw[show cu (un ns [.str "qq"]) (λ_ _=>false)=.tuple [.tuple (un ns [.str "qq"]),.tuple []]by simp[cu,LP]];exact e
theorem Dq(p:Px i h)(t:h[0]?=some Dj)(R:Nr ns)(nl:ns.length<=8)(hq:∀d∈ns,d∈jH):Dp i h (df [.ref i,.dat (cu ns r),.dat (cu ns q)] h) λd=>d=.bool true:=by
 obtain⟨_,h1,e1,s1,ys,rfl,hy⟩:=Gv p (zU (r:=r) R nl) #[5];have p1:=s1.px p;have t1:=s1.BR p t
 obtain⟨ρ2,e2,a3,a4,rfl⟩:=BP (g:=aC 3) (b:=Rj) (ds:=ys) (h:=h1) (λρ=>∃a3 a4,ρ=Dn i ns r q a3 a4 none) (by
  rintro d m ρ ⟨a3,a4,rfl⟩
  exact⟨_,_,rfl,LW R (hy d m) t1 _ _,_,_,rfl⟩) (ρ:=Dn i ns r q none none none) ⟨_,_,rfl⟩
 obtain⟨n2,R2,ne,ef⟩:=Pa (i:=i) (h:=h1) (r:=r) (q:=q) R nl hq;have w3:=yw (idx:=[1,5]) (b:=ag aR (aa (af 0) (aa (af 1) (aa (ah .none) (aa (ah .none) aj))))) (ρ:=Dn i ns r q a3 a4 (some (.dat (cu n2 λ_ _=>false)))) (.inr (.inr rfl)) t1 rfl (gS (xs:=[.dat (cu ns r),.dat (cu n2 λ_ _=>false),.dat .none,.dat .none]) rfl (To R R2 ne _ _))
 obtain⟨ρ4,e4,b3,b4,rfl⟩:=BP (g:=aC 3) (b:=Rk) (ds:=LU) (h:=h1) (λρ=>∃a3 a4,ρ=Dn i ns r q a3 a4 (some (.dat (cu n2 λ_ _=>false)))) (by
  rintro d m ρ ⟨a3,a4,rfl⟩
  exact⟨_,_,rfl,LX R (LV R hq d m) t1 _ _,_,_,rfl⟩) (ρ:=Dn i ns r q a3 a4 (some (.dat (cu n2 λ_ _=>false)))) ⟨_,_,rfl⟩
 have c5:=bC (ax (f:=j4) (a:=ak dz (af 1) #[15]) (b:=ah (.tuple [])) (ρ:=Dn i ns r q b3 b4 (some (.dat (cu n2 λ_ _=>false)))) (h:=h1) (ax (x:=.dat (cu ns r)) rfl (y:=.int 0) rfl rfl) rfl (wV (d:=.tuple ns) (e:=.tuple []) (nK R).1 rfl (by have:=(nK R).2;omega) h1))
 have e5:jM (tY (aN (ak j4 (ak dz (af 1) #[15]) (ah (.tuple [])))) (aN (ak j4 (iD [0,1,4] 0 hZ ia [1,2] (ag aR (aa (af 0) (aa (af 1) (aa (ak dz (af 0) #[15]) (aa (sT (ak dz (af 0) #[15]) fm (cP (ah (.int 1)))) aj)))))) (ah (.tuple [.str "lot"]))))) (bJ (ah (.bool false))) cg (Dn i ns r q b3 b4 (some (.dat (cu n2 λ_ _=>false)))) h1=.ok (.nx (Dn i ns r q b3 b4 (some (.dat (cu n2 λ_ _=>false))))) h1:=by
  cases ns with
  |nil=>rw[Vz rfl]at c5;exact kR (EZ c5) rfl
  |cons a rest=>have k:=Tr (r:=r) (h:=h1) R (List.Sublist.refl _) (show[a].Sublist (a::rest)from by simp) (d:=a) #[6] #[6];have w:=yw (idx:=[1,2]) (b:=ag aR (aa (af 0) (aa (af 1) (aa (ak dz (af 0) #[15]) (aa (sT (ak dz (af 0) #[15]) fm (cP (ah (.int 1)))) aj))))) (ρ:=Dn i (a::rest) r q b3 b4 (some (.dat (cu n2 λ_ _=>false)))) (.inr (.inl rfl)) t1 rfl (gS (xs:=[.dat (cu (a::rest) r),.dat (cu (a::rest) q),.dat (.tuple (a::rest)),.dat (.tuple [a])]) (ao rfl (ao rfl (ao (ax (x:=.dat (cu (a::rest) r)) rfl (y:=.int 0) rfl rfl) (ao (O8 (ax (x:=.dat (cu (a::rest) r)) rfl (y:=.int 0) rfl rfl)) rfl)))) (O7 R k));exact kR ((LD c5 (bC (ax w rfl (Ri (.inr (.inl rfl)) h1)))).trans (by rw[Bool.and_false])) rfl
 refine⟨_,h1,BN (t:=[]) p ?_ s1,s1,rfl⟩;rw[WS];exact fb rfl (aH (kP (rl (aq (xs:=[.ref i,.dat (cu ns r)]) rfl e1)) e2) (aH (bV (ef _ _ _)) (aH (kR (bC (ax w3 rfl (Ri (.inr (.inr rfl)) h1))) rfl) (aH (kP (rl (ds:=LU) rfl) e4) (aH e5 (dF rfl))))))
end
section
variable {i n:Nat} {h:Hm} {ρ:Fm} {g:MG} {t:MT} {e:ME}
theorem tX(P:PyData->Prop):∀{ds:YB} {h:Hm},Px i h->(∀d∈ds,∀h,Px i h->∃ρ1 c h2,g (.dat d) (List.replicate n none++ρ) h=.ok ρ1 h/\t ρ1 h=.ok c h2/\Ps i h h2/\(c=true->P d)/\(∀h,e ρ1 h=.ok (.dat d) h)) ->
  ∃(zs:YB) (h':Hm),ee n ρ g t e (ds.map D.dat) h=.ok (zs.map D.dat) h'/\Ps i h h'/\zs.Sublist ds/\∀d∈zs,P d
 | [],h,b,_=>⟨[],h,rfl,b.refl,.slnil,λ_ m=>by cases m⟩
 |d::ds,h,b,H=>by
  obtain⟨ρ1,c,h2,e1,e2,s2,k,e3⟩:=H d #[6] h b;obtain⟨zs,h',q1,q2,q3,q4⟩:=tX P (ds:=ds) (s2.px b) λx m=>H x (by simp[m])
  cases c with
  |false=>
   refine⟨zs,h',?_,s2.trans q2,.cons _ q3,q4⟩
   simp_all[Vn,ee,e1,R.gQ,R.bA,e2,US,Vu]
  |true=>
   refine⟨d::zs,h',?_,s2.trans q2,.cons_cons _ q3,λx m=>?_⟩
   ·exact wR e1 e2 (e3 h2) q1
   grind
theorem E3(P:PyData->Prop)(b:Px i h)(hz:ns.length<=1000)(em:aQ m ρ h=.ok (ns.map D.dat) h)(ht:∀d∈ns,∀h,Px i h->∃c h2,t (some (.dat d)::ρ) h=.ok c h2/\Ps i h h2/\(c=true->P d)) :
  Dp i h (ag dk (aa (bE 1 (aQ m) (aC 0) t (af 0)) aj) ρ h) λd=>∃zs:YB,d=.dat (.tuple zs)/\zs.Sublist ns/\∀d∈zs,P d:=by
 obtain⟨zs,h',q1,q2,q3,q4⟩:=tX (n:=1) (g:=aC 0) (e:=af 0) P b λd hd h1 b1=>by obtain⟨c,h2,e1,s1,k⟩:=ht d hd h1 b1;exact⟨_,c,h2,rfl,e1,s1,k,λ_=>rfl⟩
 have lz:=q3.length_le;refine⟨.dat _,h',aq (xs:=[.dat (.list zs)]) (ao ?_ rfl) rfl,q2,zs,rfl,q3,q4⟩;refine aq ?_ (dY _ h' #[4]);unfold iz;rw[em];simp[sz (show ns.length<=16777216 by omega)];exact q1
theorem MM(b:Px i h)(ρ:Fm)(j:Nat)(e:ρ[j]?=some (some (.ref i))):∃c h2,aN (ak oEq (ag aA (aa (af j) (aa (ah (.int 2)) aj))) #[15]) ρ h=.ok c h2/\Ps i h h2:=by obtain⟨_,h2,e2,s2,k,rfl,hk⟩:=fE b (c:=2) #[5] #[5];exact⟨_,h2,bC (ax (aq (ao (by simp_all) rfl) e2) rfl (zQ h2)),s2⟩
end
section
variable {ns:YB} {r q:Rel} {i:Nat} {h:Hm}
theorem Pb(b:Px i h)(R:Nr ns):Dp i h (iI [.ref i,.dat (cu ns r)] h) λd=>∃zs:YB,d=.dat (.tuple zs)/\zs.Sublist ns:=by
 have l:=R.le
 obtain⟨_,h',e,s,zs,rfl,k,_⟩:=E3 (m:=ak dz (af 1) #[15]) (t:=aN (ak oEq (ag aA (aa (af 1) (aa (ah (.int 2)) aj))) #[15])) (ρ:=[some (.ref i),some (.dat (cu ns r))]) (λ_=>True) b #[4] (fD (ax rfl rfl rfl)) λd _ h b=>by
  obtain⟨c,h2,e,s⟩:=MM b [some (.dat d),some _,some (.dat (cu ns r))] 1 rfl
  grind
 exact⟨_,h',fb rfl (dF e),s,zs,rfl,k⟩
noncomputable abbrev JJ(i:Nat)(ns:YB)(r q:Rel)(a0 a1 a5 a6 a7 a8 a9:Option D):Fm:=[a0,a1,some (.ref i),some (.dat (cu ns r)),some (.dat (cu ns q)),a5,a6,a7,a8,a9]
noncomputable abbrev Pd:MS:=aZ (cx 7 (ak dz (dZ (aa (ag iI (aa (af 2) (aa (af 3) aj))) (aa (ah (.tuple [])) (aa (ak dz (af 3) #[15]) aj)))) (ak qj (ag aA (aa (af 2) (aa (ah (.int 5)) aj))) (ah (.int 2)))))
  (aZ (cx 8 (ag dk (aa (bE 1 (aQ (ak dz (af 3) #[15])) (aC 0) (tY (aN (ak gJ (af 0) (af 8))) (aN (ak oEq (ag aA (aa (af 3) (aa (ah (.int 2)) aj))) #[15]))) (af 0)) aj)))
  (aZ (cx 9 (ag jc (aa (ak dz (af 3) #[15]) (aa (af 7) (aa (af 8) aj)))))
  (jM (aN (ak j4 (ag kW (aa (dZ (aa (ag aR (aa (af 3) (aa (af 4) (aa (af 7) (aa (af 8) aj))))) (aa (ag aR (aa (af 3) (aa (af 4) (aa (af 7) (aa (af 8) aj))))) aj))) aj)) (ag kW (aa (dZ (aa (af 9) (aa (af 9) aj))) aj)))) (bJ (ah (.bool false))) cg)))
theorem Pe{k:Nat}(hk:(k:Int)<5)(s:zs.Sublist ns):∃hs:YB,lL [PyData.tuple zs,.tuple [],.tuple ns] ((k:Int) / 2)=some (.tuple hs)/\hs.Sublist ns:=by
 have:k=0\/k=1\/k=2\/k=3\/k=4:=by omega
 rcases this with rfl|rfl|rfl|rfl|rfl
 ·simp_all
 ·simp_all
 ·simp
 ·simp
 ·exact⟨ns,rfl,List.Sublist.refl _⟩
theorem Rl(T:uB ns hs ks f l):Ok 500 3 (tW hs ks f l):=by have nN:=T.nN;have nS:=T.nS;have o1:Ok 130 1 (.tuple (bN ltB _)):=((fO.of λd m=>rm (nN.1 d ((aS _ _).mem_iff.mp m))).mono (by rw[(aS _ _).length_eq];omega) (UJ _)).tup;have o2:Ok 300 2 (.tuple (bN ltB _)):=((fO.of λd m=>(kS (nS.1 d ((aS _ _).mem_iff.mp m))).2.2.2.2.2).mono (by rw[(aS _ _).length_eq];omega) (UJ _)).tup;exact((fO.cons (o1.mono (UJ _) #[5]) (fO.one o2)).mono #[4] (UJ _)).tup
theorem LY(p:Px i h)(R:Nr ns)(nl:ns.length<=8)(a0 a1 a5 a6 a7 a8 a9:Option D):∃b7 b8 b9 h2,Pd (JJ i ns r q a0 a1 a5 a6 a7 a8 a9) h=.ok (.nx (JJ i ns r q a0 a1 a5 a6 b7 b8 b9)) h2/\Ps i h h2:=by
 obtain⟨_,h1,e1,s1,zs,rfl,k1⟩:=Pb (r:=r) p R;have p1:=s1.px p;obtain⟨_,h2,e2,s2,k,rfl,hk⟩:=fE p1 (c:=5) #[5] #[5];have p2:=s2.px p1;obtain⟨hs,e3,k3⟩:=Pe hk k1;have lh:=k3.length_le;have nh:bF hs gx=true:=bM.mpr λd m=>dy (R.sub d (k3.subset m))
 have st7:cx 7 (ak dz (dZ (aa (ag iI (aa (af 2) (aa (af 3) aj))) (aa (ah (.tuple [])) (aa (ak dz (af 3) #[15]) aj)))) (ak qj (ag aA (aa (af 2) (aa (ah (.int 5)) aj))) (ah (.int 2)))) (JJ i ns r q a0 a1 a5 a6 a7 a8 a9) h=.ok (.nx (JJ i ns r q a0 a1 a5 a6 (some (.dat (.tuple hs))) a8 a9)) h2:=
  bV (ax (aq (ao (aq (xs:=[.ref i,.dat (cu ns r)]) rfl e1) (ao rfl (ao (ax (x:=.dat (cu ns r)) rfl (y:=.int 0) rfl rfl) rfl))) (Ja _ _ _ _)) (ax (aq (xs:=[.ref i,.int 5]) rfl e2) rfl (BO #[5] #[5] h2)) (by rw[zK,e3]))
 obtain⟨_,h3,e4,s4,ks,rfl,k4,k5⟩:=E3 (m:=ak dz (af 3) #[15]) (t:=tY (aN (ak gJ (af 0) (af 8))) (aN (ak oEq (ag aA (aa (af 3) (aa (ah (.int 2)) aj))) #[15]))) (ρ:=JJ i ns r q a0 a1 a5 a6 (some (.dat (.tuple hs))) a8 a9) (ns:=ns) (λd=>d∉hs) p2 #[4] (fD (ax (x:=.dat (cu ns r)) rfl (y:=.int 0) rfl rfl)) λd hd h b=>by
  have c:=bC (ax (f:=gJ) (a:=af 0) (b:=af 8) (ρ:=some (.dat d)::JJ i ns r q a0 a1 a5 a6 (some (.dat (.tuple hs))) a8 a9) rfl rfl (uy (rm (R.sub d hd)) nh h))
  cases z:sJ hs d with
  |true=>rw[z]at c;exact⟨false,h,EZ c,b.refl,λw=>by cases w⟩
  |false=>rw[z]at c;obtain⟨c2,h2,e,s⟩:=MM b (some (.dat d)::JJ i ns r q a0 a1 a5 a6 (some (.dat (.tuple hs))) a8 a9) 3 rfl;exact⟨c2,h2,(OP c).trans e,s,λ_ w=>by rw[(eZ nh).mpr w]at z;cases z⟩
 have p3:=s4.px p2;obtain⟨f,l,xs,ef,nf,nl',ff,fl,ne⟩:=LQ R;have T:uB ns hs ks f l:=⟨R,k3,k4,λd m z=>k5 d z m,nf,nl',ff,fl,ne,nl⟩;have o:=Rl T;have rp:=BD ((fO.cons o (fO.one o)).lst) h3 #[5] #[5];have tw:∀a9,ag aR (aa (af 3) (aa (af 4) (aa (af 7) (aa (af 8) aj)))) (JJ i ns r q a0 a1 a5 a6 (some (.dat (.tuple hs))) (some (.dat (.tuple ks))) a9) h3=.ok (.dat (tW hs ks f l)) h3:=λa9=>aq (xs:=[.dat (cu ns r),.dat (cu ns q),.dat (.tuple hs),.dat (.tuple ks)]) rfl (Rf T ef p3.wf)
 refine⟨_,_,_,h3,aH st7 (aH (bV e4) (aH (bV (x:=.dat (tW hs ks f l)) (aq (xs:=[.dat (.tuple ns),.dat (.tuple hs),.dat (.tuple ks)]) (ao (ax (x:=.dat (cu ns r)) rfl (y:=.int 0) rfl rfl) rfl) (Jw T ef h3)))
  (kR (h1:=h3) (bC (ax (aq (ao (aq (ao (tw _) (ao (tw _) rfl)) (zF _ _ _)) rfl) rp) (aq (ao (aq (xs:=[.dat (tW hs ks f l),.dat (tW hs ks f l)]) rfl (zF _ _ _)) rfl) rp) (by simp[j4]))) rfl))),(s1.trans s2).trans s4⟩
end
noncomputable abbrev Tt:MS:=aZ (cx 2 (ag iH (aa (af 1) aj)))
  (aZ (cx 3 (ag kA (aa (af 2) (aa (ah (.int 8)) aj))))
  (aZ (cx 4 (ag eV (aa (af 2) (aa (af 3) (aa (ah (.int 3)) aj)))))
  (aZ (cx 5 (ag kW (aa (dZ (aa (af 3) (aa (af 4) aj))) aj)))
  (aZ (t8 (oN (aa (ah (.int 4)) aj)) (aC 6) Pd)
  (jM (rF (eF (bK (ag df (aa (af 2) (aa (af 3) (aa (af 4) aj)))))) (aN (ak j4 (ag kW (aa (dZ (aa (af 3) (aa (af 4) aj))) aj)) (af 5)))) (bJ (ah (.bool false))) cg)))))
theorem BV(M:∀{i:Nat} {h:Hm} {ns:YB} {r:Rel},Px i h->Nr ns->ns.length<=8->Dp i h (eV [.ref i,.dat (cu ns r),.int 3] h) λd=>∃q:Rel,d=.dat (cu ns q)) :
  ∀ns:List Int,ns.length<=63->∃h,A5 [.scr ns] [.tab hZ ia]=.ok (.bool true) h:=by
 intro ns hn;obtain⟨ds,ec,hd⟩:=Jo ns 3 (ρ:=[some (.scr ns),none,none,none,none,none,none,none,none,none]) rfl hn [.tab hZ ia]
 obtain⟨ρ',h',e,_⟩:=LO (g:=aC 1) (T:=Dj) (b:=Tt) (ds:=ds)
  (λρ=>∃a1 a2 a3 a4 a5 a6 a7 a8 a9,ρ=[some (.scr ns),a1,a2,a3,a4,a5,a6,a7,a8,a9]) (by
   rintro d m ρ h w t ⟨a1,a2,a3,a4,a5,a6,a7,a8,a9,rfl⟩;obtain⟨z,rfl⟩:=hd d m;obtain⟨n,f,ep,px⟩:=OU z w;have t1:(h++[MO.lst [.int n,.int f]])[0]?=some Dj:=by rw[U3 (UM.mp t).1];exact t
   obtain⟨_,h2,e2,s2,N,r,rfl,R,lN,nq⟩:=LS px (m:=8) #[5];have p2:=s2.px px;have t2:=s2.BR px t1;obtain⟨_,h3,e3,s3,q,rfl⟩:=M (r:=r) p2 R lN;have p3:=s3.px p2;have t3:=s3.BR p2 t2;have o1:=zU (r:=r) R lN;have o2:=zU (r:=q) R lN;have rp:=λh=>BD ((fO.cons o1 (fO.one o2)).lst) h #[5] #[5]
   obtain⟨ρ4,h4,e4,s4,b6,b7,b8,b9,rfl⟩:=Jn (g:=aC 6) (b:=Pd) (i:=h.length) (ds:=[.int 0,.int 1,.int 2,.int 3]) (h:=h3)
    (λρ=>∃b6 b7 b8 b9,ρ=JJ h.length N r q (some (.scr ns)) (some (.int z)) (some (.rpr (PyData.list [cu N r,cu N q]).shown)) b6 b7 b8 b9) (ρ:=JJ h.length N r q (some (.scr ns)) (some (.int z)) (some (.rpr (PyData.list [cu N r,cu N q]).shown)) a6 a7 a8 a9) p3 (by
     rintro d _ ρ h p ⟨b6,b7,b8,b9,rfl⟩;obtain⟨c7,c8,c9,h2,e,s⟩:=LY (r:=r) (q:=q) p R lN (some (.scr ns)) (some (.int z)) (some (.rpr (PyData.list [cu N r,cu N q]).shown)) (some (.dat d)) b7 b8 b9
     exact⟨_,_,h2,rfl,e,s,_,_,_,_,rfl⟩) ⟨_,_,_,_,rfl⟩
   have p4:=s4.px p3;have t4:=s4.BR p3 t3;obtain⟨_,h5,e5,s5,rfl⟩:=Dq (r:=r) (q:=q) p4 t4 R lN nq;have p5:=s5.px p4;have t5:=s5.BR p4 t4
   exact⟨_,_,h5,rfl,aH (bV (aq (xs:=[.int z]) rfl ep)) (aH (bV (aq (xs:=[.ref h.length,.int 8]) rfl e2)) (aH (bV (aq (xs:=[.ref h.length,.dat (cu N r),.int 3]) rfl e3))
    (aH (bV (aq (ao (aq (xs:=[.dat (cu N r),.dat (cu N q)]) rfl (zF _ _ _)) rfl) (rp h3))) (aH (kP (wM (n:=4) rfl #[5]) e4)
     (kR (jG (gG (fv (aq (xs:=[.ref h.length,.dat (cu N r),.dat (cu N q)]) rfl e5))) (bC (ax (aq (ao (aq (xs:=[.dat (cu N r),.dat (cu N q)]) rfl (zF _ _ _)) rfl) (rp h5)) rfl (by simp[j4])))) rfl))))),p5.wf,t5,_,_,_,_,_,_,_,_,_,rfl⟩) (h:=[.tab hZ ia]) (ρ:=[some (.scr ns),none,none,none,none,none,none,none,none,none]) (λo m=>by simp at m;subst m;rfl) rfl ⟨_,_,_,_,_,_,_,_,_,rfl⟩
 exact⟨h',fb rfl (aH (kP ec e) (dF rfl))⟩
theorem tV.UD(u:tV U)(h:∀d∈xs,U d)(l:xs.length=64)(up:∀i j,i<j->j<63->ltB (xs.getD i .none) (xs.getD j .none)=true):rX xs=true:=by
 have h1:(xs.all pq || xs.all gr)=true:=by
  rcases u.typ with k|k
  ·simp_all
  simp_all
 have h3:PyData.depthAll xs<=20:=UP (fN λd m=>u.dep d (h d m)) #[5];have h4  := UU.mpr λj hj=>UU.mpr λi hi=>up i j (U4.mp hi) (U4.mp hj)
 simp_all[rX,u.zW,u.cmp]
section
variable {ns:YB} {r q:Rel} {x y:PyData} {i:Nat} {h:Hm}
theorem Dr(Rn:Nr ns)(hx:x∈ns)(hy:y∈ns)(nl:ns.length<=8)(h:Hm):fV [.dat (.tuple (rows ns r)),.dat (.tuple [.tuple [x,y]])] h=.ok (.dat (.tuple (rows ns (JH r x y)))) h:=by
 have lr:(rows ns r).length<=64:=UP rB (XW nl nl);have tr:=Q8 lq (ig (r:=r) Rn);have t1:aB [PyData.tuple [x,y]]=true:=by simp[aB,LH Rn hx hy]
 have d1:∀e∈[PyData.tuple [x,y]],e.depth<=40:=λe m=>by rw[Vk.mp m];exact UP (lq.dep _ (MD Rn hx hy)) #[5]
 have k1:=ij (n:=1) (it:=aQ (af 0)) (g:=aC 0) (t:=aN (ak gJ (af 0) (af 2))) (e:=af 0) (ρ:=[some (.dat (.tuple (rows ns r))),some (.dat (.tuple [.tuple [x,y]])),none]) (h:=h) (h1:=h) (ds:=rows ns r) (fD rfl) #[4] (λd=>!decide (d∈[PyData.tuple [x,y]])) id (λd hd=>⟨_,rfl,bC (ax rfl rfl (BL (aU tr hd) t1 d1 h)),λ_=>rfl⟩);have k2:=ij (n:=1) (it:=aQ (af 1)) (g:=aC 0) (t:=aN (ak gJ (af 0) (af 1))) (e:=af 0) (ρ:=[some (.dat (.tuple (rows ns r))),some (.dat (.tuple [.tuple [x,y]])),none]) (h:=h) (h1:=h) (ds:=[PyData.tuple [x,y]]) (fD rfl) #[6] (λd=>!decide (d∈rows ns r)) id (λd hd=>⟨_,rfl,bC (ax rfl rfl (BL (aU t1 hd) tr (OT lq (ig Rn)) h)),λ_=>rfl⟩);rw[Ye]at k1 k2;generalize hA:(rows ns r).filter (λd=>!decide (d∈[PyData.tuple [x,y]]))=A at k1;generalize hB:[PyData.tuple [x,y]].filter (λd=>!decide (d∈rows ns r))=B at k2;have la:A.length<=64:=by rw[<- hA];exact UP (WZ _ _) lr
 have lb:B.length<=1:=by rw[<- hB];exact UP (WZ _ _) #[6]
 have ma:∀d,d∈A<->d∈rows ns r/\d≠.tuple [x,y]:=λd=>by rw[<- hA,VP];simp
 have mb:∀d,d∈B<->d=.tuple [x,y]/\d∉rows ns r:=λd=>by rw[<- hB,VP];simp
 have sub:∀d∈A++B,Mx d:=λd m=>by
  rcases U1.mp m with z|z
  ·exact(ig Rn).sub d ((ma d).mp z).1
  ·rw[((mb d).mp z).1];exact MD Rn hx hy
 have nd:(A++B).Nodup:=by
  refine W6.mpr ⟨?_,?_,λp hp q hq e=>?_⟩
  ·rw[<- hA];exact List.Nodup.sublist Yf (j3 lq (ig Rn))
  ·rw[<- hB];exact List.Nodup.sublist Yf #[6]
  ·subst e;exact((ma p).mp hp).2 ((mb p).mp hq).1
 have es:bN ltB (A++B)=rows ns (JH r x y):=Jg lq (rA lq sub nd) (ig Rn) λd=>by rw[(aS _ _).mem_iff,U1,ma,mb,OV Rn hx hy]
 have le:(A++B).length<=64:=by have:=Xh List.length es;rw[(aS _ _).length_eq]at this;rw[this];exact UP rB (XW nl nl)
 have pA:A.Pairwise λa b=>ltB a b=true:=by rw[<- hA];exact(ig Rn).ris.sublist Yf
 have so:(eh (A++B) || rX (A++B))=true:=by
  by_cases l:(A++B).length<64
  ·rw[lq.Q5 sub l,Bool.true_or]
  ·rw[lq.UD sub #[4] λi j hij hj=>?_,Bool.or_true];have l2:63<=A.length:=by rw[Vi]at l;omega
   have g:∀i,(h:i<A.length)->(A++B).getD i .none=A[i]:=λi h=>by rw[Xa,U3 h,UN h];rfl
   rw[g i #[4],g j #[4]];exact Vo.mp pA i j _ _ hij
 have bs:vL [.dat (.list (A++B))] h=.ok (.dat (.list (rows ns (JH r x y)))) h:=by simp[vL,listOf,so,es]
 exact fb rfl (aH (bV (ax k1 k2 (iU h #[4]))) (dF (aq (ao (aq (xs:=[.dat (.list (A++B))]) rfl bs) rfl) rfl)))
noncomputable abbrev zV:MS:=aZ (cx 6 (dG (aa (ak dz (af 3) (ag aA (aa (af 0) (aa (ag fF (aa (af 3) aj)) aj)))) (aa (ak dz (af 3) (ag aA (aa (af 0) (aa (ag fF (aa (af 3) aj)) aj)))) aj))))
  (cx 4 (ag fV (aa (af 4) (aa (dG (aa (af 6) aj)) aj))))
theorem BW(Rn:Nr ns)(nl:ns.length<=8)(hn:0<ns.length):∀{xs:List D} {q:Rel} {h:Hm},Px i h->∀a5 a6:Option D,Dp i h (fk (aC 5) zV xs [some (.ref i),a1,a2,some (.dat (.tuple ns)),some (.dat (.tuple (rows ns q))),a5,a6] h) λf=>∃(q':Rel) (b5 b6:Option D),f=.nx [some (.ref i),a1,a2,some (.dat (.tuple ns)),some (.dat (.tuple (rows ns q'))),b5,b6]
 | [],q,h,b,a5,a6=>Dp.ok b ⟨q,a5,a6,rfl⟩
 |x::xs,q,h,b,a5,a6=>by
  obtain⟨_,h2,e2,s2,y,rfl,hy⟩:=MH b hn Rn.le (ρ:=[some (.ref i),a1,a2,some (.dat (.tuple ns)),some (.dat (.tuple (rows ns q))),some x,a6]) rfl rfl;have b2:=s2.px b;obtain⟨_,h3,e3,s3,z,rfl,hz⟩:=MH b2 hn Rn.le (ρ:=[some (.ref i),a1,a2,some (.dat (.tuple ns)),some (.dat (.tuple (rows ns q))),some x,a6]) rfl rfl;have b3:=s3.px b2;obtain⟨f,h4,e4,s4,k⟩:=BW Rn nl hn (a1:=a1) (a2:=a2) (xs:=xs) (q:=JH q y z) b3 (some x) (some (.dat (.tuple [y,z])));refine⟨f,h4,?_,(s2.trans s3).trans s4,k⟩;have t1:dG (aa (af 6) aj) [some (.ref i),a1,a2,some (.dat (.tuple ns)),some (.dat (.tuple (rows ns q))),some x,some (.dat (.tuple [y,z]))] h3=.ok (.dat (.tuple [.tuple [y,z]])) h3:=(cA (f:=gW) (ao (x:=.dat (.tuple [y,z])) rfl rfl)).trans (C0 _ h3)
  have st:zV [some (.ref i),a1,a2,some (.dat (.tuple ns)),some (.dat (.tuple (rows ns q))),some x,a6] h=.ok (.nx [some (.ref i),a1,a2,some (.dat (.tuple ns)),some (.dat (.tuple (rows ns (JH q y z)))),some x,some (.dat (.tuple [y,z]))]) h3:=
   aH (bV (e9 e2 e3)) (bV (aq (ao (x:=.dat (.tuple (rows ns q))) rfl (ao t1 rfl)) (Dr Rn hy hz nl h3)))
  simp only[fk,aC,R.gQ,R.bA,XB,XC];rw[st];simp only[R.gQ,R.bA];exact e4
theorem Jx(b:Px i h)(Rn:Nr ns)(nl:ns.length<=8){m:Nat}(hm:m<=100):Dp i h (eV [.ref i,.dat (cu ns r),.int (m:Int)] h) λd=>∃q:Rel,d=.dat (cu ns q):=by
 obtain⟨_,h2,e2,s2,k,rfl,hk⟩:=fE b (c:=(m:Int)+1) #[4] #[4];have b2:=s2.px b;have t0:ay (.tuple ns)=true:=by simp only[ay];exact fP.zW Rn.sub
 have ne:j4 (.dat (.tuple ns)) (.dat (.tuple [])) h2=.ok (.bool !(decide (PyData.tuple ns=.tuple []))) h2:=wV t0 rfl (UP (Nat.min_le_right _ _) #[5]) h2
 have ev:ak ly (ag aA (aa (af 0) (aa (ak cF (af 2) (ah (.int 1))) aj))) (ag va (aa (ak j4 (af 3) (ah (.tuple []))) aj)) [some (.ref i),some (.dat (cu ns r)),some (.int (m:Int)),some (.dat (.tuple ns)),some (.dat (.tuple (rows ns r))),none,none] h=.ok (.int ((k:Int)*(if ns=[]then 0 else 1))) h2:=by
  have bi:ag va (aa (ak j4 (af 3) (ah (.tuple []))) aj) [some (.ref i),some (.dat (cu ns r)),some (.int (m:Int)),some (.dat (.tuple ns)),some (.dat (.tuple (rows ns r))),none,none] h2=.ok (.int (if ns=[]then 0 else 1)) h2:=by
   refine(cA (ao (ax (x:=.dat (.tuple ns)) rfl (y:=.dat (.tuple [])) rfl ne) rfl)).trans ?_;by_cases z:ns=[]
   ·simp[z,va]
   ·simp[z,va]
  refine ax (aq (xs:=[.ref i,.int ((m:Int)+1)]) rfl e2) bi (rC ?_ ?_ h2)
  ·split<;>decide
  grind
 have fin:∀(n:Nat) (h3:Hm) (q:Rel) (b5 b6:Option D),ak ly (ag aA (aa (af 0) (aa (ak cF (af 2) (ah (.int 1))) aj))) (ag va (aa (ak j4 (af 3) (ah (.tuple []))) aj)) [some (.ref i),some (.dat (cu ns r)),some (.int (m:Int)),some (.dat (.tuple ns)),some (.dat (.tuple (rows ns r))),none,none] h=.ok (.int (n:Int)) h2->n<1000 ->
   fk (aC 5) zV (nums 0 n) [some (.ref i),some (.dat (cu ns r)),some (.int (m:Int)),some (.dat (.tuple ns)),some (.dat (.tuple (rows ns r))),none,none] h2=.ok (.nx [some (.ref i),some (.dat (cu ns r)),some (.int (m:Int)),some (.dat (.tuple ns)),some (.dat (.tuple (rows ns q))),b5,b6]) h3->eV [.ref i,.dat (cu ns r),.int (m:Int)] h=.ok (.dat (cu ns q)) h3:=λn h3 q b5 b6 en hn lp=>
  fb rfl (aH (sM (x:=.dat (cu ns r)) rfl rfl) (aH (kP (wM (ao en rfl) #[4]) lp) (dF (e9 (a:=.tuple ns) rfl rfl))))
 by_cases z:ns=[]
 ·rw[if_pos z,Int.mul_zero]at ev;exact⟨_,h2,fin 0 h2 r none none ev #[5] rfl,s2,r,rfl⟩
 ·rw[if_neg z,Int.mul_one]at ev;obtain⟨_,h3,e3,s3,q,b5,b6,rfl⟩:=BW Rn nl (List.length_pos_iff.mpr z) (a1:=some (.dat (cu ns r))) (a2:=some (.int (m:Int))) (xs:=nums 0 k) (q:=r) b2 none none;exact⟨_,h3,fin k h3 q b5 b6 ev #[4] e3,s2.trans s3,q,rfl⟩
end
theorem Jy:∀ns:List Int,ns.length<=63->∃h,A5 [.scr ns] [.tab hZ ia]=.ok (.bool true) h:=BV λb R nl=>Jx b R nl #[5]
section
variable {P:YD->Prop}
theorem Tu(h:P []) us(hl:us.length=0):P us:=List.eq_nil_of_length_eq_zero hl▸h
theorem LZ(h:∀a us,us.length=n->P (a::us)) us(hl:us.length=n+1):P us:=by
 cases us with
 |nil=>cases hl
 |cons a us=>exact h a us (Nat.succ.inj hl)
theorem all1(h:∀a,P [a]):∀us,us.length=1->P us:=LZ λa=>Tu (h a)
theorem all2(h:∀a b,P [a,b]):∀us,us.length=2->P us:=LZ λa=>all1 (h a)
theorem GA(h:∀a b c,P [a,b,c]):∀us,us.length=3->P us:=LZ λa=>all2 (h a)
theorem Tv(h:∀a b c d,P [a,b,c,d]):∀us,us.length=4->P us:=LZ λa=>GA (h a)
end
end Ml
namespace K40
open PySem L2 Ml
theorem Pf{K:YE}{h:Heap}{mg:YA}{k0:Tok}{k1:Tok}{k2:Tok}{xc0:Addr}{xc1:Addr}{xc2:Addr}(X:K.In h)(G:h.Ns mainGlobals mg)
 (z0:PySem.W.nsIn K mainGlobals "all" = some none)
 (z1:PySem.W.nsIn K mainGlobals "len" = some none)
 (z2:PySem.W.nsIn K mainGlobals "isinstance" = some none)
 (z3:PySem.W.nsIn K mainGlobals "str" = some none)
 (z4:PySem.W.nsIn K mainGlobals "zip" = some none)
 (z5:PySem.W.nsIn K mainGlobals "tuple" = some none)
 (z6:PySem.W.nsIn K mainGlobals "any" = some none)
 (z7:PySem.W.nsIn K mainGlobals "sorted" = some none)
 (z8:PySem.W.nsIn K mainGlobals "int" = some none)
 (z9:PySem.W.nsIn K mainGlobals "max" = some none)
 (z10:PySem.W.nsIn K mainGlobals "divmod" = some none)
 (z11:PySem.W.nsIn K mainGlobals "range" = some none)
 (z12:PySem.W.nsIn K mainGlobals "list" = some none)
 (z13:PySem.W.nsIn K mainGlobals "set" = some none)
 (z14:PySem.W.nsIn K mainGlobals "repr" = some none)
 (a0:PySem.W.nsIn K mainGlobals "LONGEST_NAME" = some (some (.int 6 k0)))
 (a1:PySem.W.nsIn K mainGlobals "MOST_NAMES" = some (some (.int 12 k1)))
 (s0:PySem.W.nsIn K mainGlobals "LETTERS" = some (some (.str "abcdefghijklmnopqrstuvwxyz" k2)))
 (xn0:PySem.W.nsIn K mainGlobals "NoWeb" = some (some (.ref xc0)))(xe0:PySem.W.excIn K xc0 KG Er=true)
 (xn1:PySem.W.nsIn K mainGlobals "NoLot" = some (some (.ref xc1)))(xe1:PySem.W.excIn K xc1 KG Er=true)
 (xn2:PySem.W.nsIn K mainGlobals "NoPair" = some (some (.ref xc2)))(xe2:PySem.W.excIn K xc2 KG Er=true)
  : Txt K mg:=⟨Vf X G z0,Vf X G z1,Vf X G z2,Vf X G z3,Vf X G z4,Vf X G z5,Vf X G z6,Vf X G z7,Vf X G z8,Vf X G z9,Vf X G z10,Vf X G z11,Vf X G z12,Vf X G z13,Vf X G z14,⟨_,Vb X G a0⟩,⟨_,Vb X G a1⟩,⟨_,Vb X G s0⟩,⟨_,Vb X G xn0,⟨xn0,xe0⟩⟩,⟨_,Vb X G xn1,⟨xn1,xe1⟩⟩,⟨_,Vb X G xn2,⟨xn2,xe2⟩⟩⟩
structure Jz(K:YE)(mg:YA)(cs:Nat->Addr)(WE:Addr):Prop where
 c:Wh.KL mg cs
 r:Wh.Refs K cs WE [0,1,4]
 we:mg "WebError" = some (.ref WE)
theorem Pg{K:YE}{h:Heap}{mg:YA}{c0 c1 c2 c3 c4 c5 c6 c7 c8 c9 c10 c11 c12 c13 WE:Addr}(X:K.In h)(G:h.Ns mainGlobals mg)
 (n0:PySem.W.nsIn K mainGlobals "NoWeb" = some (some (.ref c0)))
 (n1:PySem.W.nsIn K mainGlobals "NoLot" = some (some (.ref c1)))
 (n2:PySem.W.nsIn K mainGlobals "NoName" = some (some (.ref c2)))
 (n3:PySem.W.nsIn K mainGlobals "NoKind" = some (some (.ref c3)))
 (n4:PySem.W.nsIn K mainGlobals "NoPair" = some (some (.ref c4)))
 (n5:PySem.W.nsIn K mainGlobals "NoChanges" = some (some (.ref c5)))
 (n6:PySem.W.nsIn K mainGlobals "NoCount" = some (some (.ref c6)))
 (n7:PySem.W.nsIn K mainGlobals "NoShut" = some (some (.ref c7)))
 (n8:PySem.W.nsIn K mainGlobals "NoWay" = some (some (.ref c8)))
 (n9:PySem.W.nsIn K mainGlobals "NoJoint" = some (some (.ref c9)))
 (n10:PySem.W.nsIn K mainGlobals "NoSide" = some (some (.ref c10)))
 (n11:PySem.W.nsIn K mainGlobals "NoDeed" = some (some (.ref c11)))
 (n12:PySem.W.nsIn K mainGlobals "TooMany" = some (some (.ref c12)))
 (n13:PySem.W.nsIn K mainGlobals "NoText" = some (some (.ref c13)))
 (we:PySem.W.nsIn K mainGlobals "WebError" = some (some (.ref WE)))(ve:PySem.W.nsIn K mainGlobals "ValueError" = some none)
 (i0:(PySem.W.clsIn K c0).isSome=true)(g0:PySem.W.findIn K (.ref c0) "__getattribute__" = some (some (.builtin "BaseException.__getattribute__")))(ga0:PySem.W.findIn K (.ref c0) "__getattr__" = some none)(be0:PySem.W.mroIn K c0 (.type "BaseException")=some true)(a0:PySem.W.findIn K (.ref c0) "__class__" = some (some (.builtin "object.__class__")))(m0:PySem.W.mroIn K c0 (.type "object")=some true)
 (k0:Wh.kindB K [c0,c1,c2,c3,c4,c5,c6,c7,c8,c9,c10,c11,c12,c13] c0 WE 0=true)
 (i1:(PySem.W.clsIn K c1).isSome=true)(g1:PySem.W.findIn K (.ref c1) "__getattribute__" = some (some (.builtin "BaseException.__getattribute__")))(ga1:PySem.W.findIn K (.ref c1) "__getattr__" = some none)(be1:PySem.W.mroIn K c1 (.type "BaseException")=some true)(a1:PySem.W.findIn K (.ref c1) "__class__" = some (some (.builtin "object.__class__")))(m1:PySem.W.mroIn K c1 (.type "object")=some true)
 (k1:Wh.kindB K [c0,c1,c2,c3,c4,c5,c6,c7,c8,c9,c10,c11,c12,c13] c1 WE 1=true)
 (i4:(PySem.W.clsIn K c4).isSome=true)(g4:PySem.W.findIn K (.ref c4) "__getattribute__" = some (some (.builtin "BaseException.__getattribute__")))(ga4:PySem.W.findIn K (.ref c4) "__getattr__" = some none)(be4:PySem.W.mroIn K c4 (.type "BaseException")=some true)(a4:PySem.W.findIn K (.ref c4) "__class__" = some (some (.builtin "object.__class__")))(m4:PySem.W.mroIn K c4 (.type "object")=some true)
 (k4:Wh.kindB K [c0,c1,c2,c3,c4,c5,c6,c7,c8,c9,c10,c11,c12,c13] c4 WE 4=true)
 (sp:PySem.W.specialIn K (.builtin "object.__class__") "__get__" = some (some (.builtin "getset_descriptor.__get__")))(tk:PySem.W.takesIn K (.builtin "object.__class__")=some true):∃cs WE,Jz K mg cs WE:=by
 obtain⟨q0,e0⟩:=Wh.vD k0 ⟨i0,g0,ga0,be0,a0,sp,tk,m0⟩;obtain⟨q1,e1⟩:=Wh.vD k1 ⟨i1,g1,ga1,be1,a1,sp,tk,m1⟩;obtain⟨q4,e4⟩:=Wh.vD k4 ⟨i4,g4,ga4,be4,a4,sp,tk,m4⟩;refine⟨Wh.SG [c0,c1,c2,c3,c4,c5,c6,c7,c8,c9,c10,c11,c12,c13],WE,⟨Vf X G ve,Vb X G n0,Vb X G n1,Vb X G n2,Vb X G n3,Vb X G n4,Vb X G n5,Vb X G n6,Vb X G n7,Vb X G n8,Vb X G n9,Vb X G n10,Vb X G n11,Vb X G n12,Vb X G n13⟩,λj hj=>?_,Vb X G we⟩;simp only[UO,Vd,Wi]at hj;rcases hj with rfl|rfl|rfl
 ·exact⟨q0,e0⟩
 ·exact⟨q1,e1⟩
 ·exact⟨q4,e4⟩
theorem all_mk{l:PySem.W.OpenLaw}{w:World}{K:YE}{h:Heap}{mg:YA}{fa f:Addr}{od an:Option Addr}{sl:YH}{oc kV dc pm cd ct:Value}(X:K.In h)(G:h.Ns mainGlobals mg)(hfa:mg "law" = some (.ref fa))(T:Txt K mg)(CA:∃cs WE,Jz K mg cs WE)
 (d0:Df K mg "is_name" ["thing"] sy)
 (d1:Df K mg "is_rising" ["things"] mG)
 (d2:Df K mg "are_names" ["thing"] mJ)
 (d3:Df K mg "is_strike" ["thing", "names"] mL)
 (d4:Df K mg "are_strikes" ["thing", "names"] jw)
 (d5:Df K mg "is_web" ["thing"] wb)
 (d6:Df K mg "check_web" ["thing"] mO)
 (d7:Df K mg "is_lot" ["thing", "names"] wg)
 (d8:Df K mg "check_lot" ["web", "thing"] mR)
 (d9:Df K mg "check_pair" ["one", "other"] kE)
 (d10:Df K mg "free_letters" ["names"] iN)
 (d11:Df K mg "are_apart" ["hit", "held"] mU)
 (d12:Df K mg "check_test" ["one", "hit", "held"] kG)
 (d13:Df K mg "web_of_test" ["names", "hit", "held"] jy)
 (d14:Df K mg "test_web" ["one", "other", "hit", "held"] pH)
 (d15:Df K mg "_law_cell" ["_law_script", "_law_k"] mW)
 (d16:Df K mg "_law_pen" ["_law_cell_here"] pK)
 (d17:Df K mg "_law_draw" ["_law_pen_here", "_law_many"] mZ)
 (d18:Df K mg "_law_names" ["_law_pen_here", "_law_most"] kI)
 (d19:Df K mg "_law_web" ["_law_pen_here", "_law_most"] pN)
 (d20:Df K mg "_law_odd" ["_law_pen_here"] pP)
 (d21:Df K mg "_law_is_name" ["_law_thing"] iP)
 (d22:Df K mg "_law_is_rising" ["_law_thing"] gv)
 (d23:Df K mg "_law_is_web" ["_law_thing"] jA)
 (d24:Df K mg "_law_bent" ["_law_pen_here", "_law_thing"] nj)
 (d25:Df K mg "_law_lot" ["_law_pen_here", "_law_web_here"] pR)
 (d26:Df K mg "_law_no_webs" ["_law_pen_here", "_law_web_here"] iR)
 (d27:Df K mg "_law_turned" ["_law_strikes", "_law_changes"] jC)
 (d28:Df K mg "_law_mate" ["_law_pen_here", "_law_web_here", "_law_far"] ny)
 (d29:Df K mg "_law_fresh" ["_law_names_here"] kK)
 (d30:Df K mg "_law_test" ["_law_names_here", "_law_hit", "_law_held"] nB)
 (d31:Pn K mg "_law_refused_right" ["_law_pen_here", "_law_one", "_law_other"] aW hZ)
 (dw:Df K mg "_law_marks" ["_law_e"] sG)(ds:Df K mg "_law_said" ["_law_call"] yq)
 (a:PySem.W.nsIn K mainGlobals "law" = some (some (.ref f)))(l0:K.lookup f=some ⟨oc,od,.func (PySem.W.fnOf "law" "law" (fx rf) (cb rf) (au rf) .none kV dc pm an cd ct),sl⟩)(c:PySem.W.codeIn K cd "law" = true)(k:PySem.W.keepIn K (.ref f)=true) :
  ∃(fd:FuncData) (c:Addr),PySem.W.codeHdIn K c hZ=true/\(∀(s:YO) (v:Value),BindsTo s fd ⟨[v],[]⟩ [("_law_script",v)])/\∀base:Heap,K.In base->base.Ns mainGlobals mg->(∃bm,BMod base mg bm)->oD l.prog w K mg base (iZ l.prog w) 10 fa fd ["_law_script"] (Kr ⟨l.prog,w,mg,K⟩ A5):=by
 have e:=hfa.symm.trans (Vb X G a);cases e;have FL:=yI (st:=rf) l0 c k;obtain⟨cs,WE,CA⟩:=CA;obtain⟨fB,cB,oB1,oB2,oB3,oB4,oB5,oB6,oB7,oB8,mB,lB,cdB,htB,kpB,bB⟩:=id d31;refine⟨PySem.W.fnOf "law" "law" (fx rf) (cb rf) (au rf) .none kV dc pm an cd ct,cB,htB,λs v=>.of_eq rfl,λbase _ _ BM=>?_⟩;obtain⟨bm,BM⟩:=BM;obtain⟨fw,fdw,mw,Fw,bw⟩:=dw;obtain⟨fq,fdq,mq,Fq,bq⟩:=ds;have HW:Cj l.prog w K mg base "_law_marks" ["_law_e"] 1 (Wh.uq K cs):=⟨fw,fdw,mw,Fw.kp,bw,I9 Fw T.n_isinstance CA.c⟩;have HS:yP l.prog w K mg base "_law_said" ["_law_call"] 7 (xT l.prog w K mg base 6 (Et (Wh.AQ K cs WE))):=⟨fq,fdq,mq,Fq.kp,bq,Ld 5 Fq CA.we HW⟩;have HX:Eu mg [0,1,4] (Wh.AQ K cs WE):=Wh.QG CA.c CA.r;have H_is_name:=Ge (P:=l.prog) (w:=w) (base:=base) d0 T;have H_is_rising:=Bl (P:=l.prog) (w:=w) (base:=base) d1 T;have H_are_names:=Bm (P:=l.prog) (w:=w) (base:=base) d2 T H_is_rising H_is_name;have H_is_strike:=Bn (P:=l.prog) (w:=w) (base:=base) d3 T;have H_are_strikes:=xn (P:=l.prog) (w:=w) (base:=base) d4 T H_is_rising H_is_strike;have H_is_web:=IX (P:=l.prog) (w:=w) (base:=base) d5 T H_are_strikes H_are_names;have H_check_web:=Bp (P:=l.prog) (w:=w) (base:=base) d6 T H_is_web;have H_is_lot:=IY (P:=l.prog) (w:=w) (base:=base) d7 T H_is_rising;have H_check_lot:=Bs (P:=l.prog) (w:=w) (base:=base) d8 T H_is_lot;have H_check_pair:=zz (P:=l.prog) (w:=w) (base:=base) d9 T;have H_free_letters:=wk (P:=l.prog) (w:=w) (base:=base) d10 T;have H_are_apart:=Bt (P:=l.prog) (w:=w) (base:=base) d11 T;have H_check_test:=zB (P:=l.prog) (w:=w) (base:=base) d12 T H_are_apart H_check_lot;have H_web_of_test:=xq (P:=l.prog) (w:=w) (base:=base) d13 T H_free_letters;have H_test_web:=CU (P:=l.prog) (w:=w) (base:=base) d14 T H_web_of_test H_check_test H_check_pair H_check_web;have H__law_cell:=Bv (P:=l.prog) (w:=w) (base:=base) d15 T;have H__law_pen:=CV (P:=l.prog) (w:=w) (base:=base) d16 T;have H__law_draw:=Bw (P:=l.prog) (w:=w) (base:=base) d17 T;have H__law_names:=zD (P:=l.prog) (w:=w) (base:=base) d18 T H__law_draw;have H__law_web:=CW (P:=l.prog) (w:=w) (base:=base) d19 T H__law_draw H__law_names;have H__law_odd:=CY (P:=l.prog) (w:=w) (base:=base) d20 T H__law_draw;have H__law_is_name:=wu (P:=l.prog) (w:=w) (base:=base) d21 T;have H__law_is_rising:=sE (P:=l.prog) (w:=w) (base:=base) d22 T;have H__law_is_web:=xu (P:=l.prog) (w:=w) (base:=base) d23 T H__law_is_rising H__law_is_name;have H__law_bent:=tQ (P:=l.prog) (w:=w) (base:=base) d24 T H__law_draw 5;have H__law_lot:=CZ (P:=l.prog) (w:=w) (base:=base) d25 T H__law_draw;have H__law_no_webs:=wy (P:=l.prog) (w:=w) (base:=base) d26 T H__law_is_web H__law_odd H__law_bent;have H__law_turned:=xx (P:=l.prog) (w:=w) (base:=base) d27 T;have H__law_mate:=Bz (P:=l.prog) (w:=w) (base:=base) d28 T H__law_draw H__law_turned;have H__law_fresh:=zE (P:=l.prog) (w:=w) (base:=base) d29 T;have H__law_test:=BA (P:=l.prog) (w:=w) (base:=base) d30 T H__law_fresh;have H__law_refused_right:=nF (P:=l.prog) (w:=w) (base:=base) d31 T H_test_web H__law_no_webs HS HX BM;exact OI (P:=l.prog) (w:=w) (base:=base) FL T H__law_cell H__law_refused_right H_test_web H__law_test H__law_draw H__law_lot H__law_mate H__law_web H__law_pen
theorem walk{l:PySem.W.OpenLaw}{q:YL}{loose:YF}{XP:(YA)->Heap->Prop}{YP:World->Heap->Prop}{d:DefRec}{K:Params->YE}(hn:l.most=some 63)(hdf:d.params.defaults=[])
 (hY:∀(w:World) (h:Heap),YP w h->(K w.params).In h)(hYt:∀(w:World) (h:Heap),YP w h->h.get? hZ=some (PySem.W.tabObj #[]))(hPK:∀w:World,(K w.params).lookup hZ=none)
 (F:∀(w:World) (mg:YA) (fa:Addr) (h:Heap),(K w.params).In h->h.Ns mainGlobals mg->mg d.name=some (.ref fa) ->
   ∃(fd:FuncData) (c:Addr),PySem.W.codeHdIn (K w.params) c hZ=true/\(∀(s:YO) (u:Value),BindsTo s fd ⟨[u],[]⟩ [("_law_script",u)])/\∀base:Heap,(K w.params).In base->base.Ns mainGlobals mg->(∃bm,BMod base mg bm)->oD l.prog w (K w.params) mg base (iZ l.prog w) 10 fa fd ["_law_script"] (Kr ⟨l.prog,w,mg,K w.params⟩ A5)) :
  PySem.W.WalkO q loose XP YP l.row.toRowW d [] (λf vs=>PySem.call f vs):=
 L2.Iu (n:=63) (k:=10) (x := "_law_script") (CX:=λw=>iZ l.prog w) (sp:=λw=>Iv (K w.params) hZ) hn #[5] hdf ⟨rfl,by decide,by decide,rfl⟩ hY hYt hPK
  (λw mg fa h KX G hm=>by obtain⟨fd,c,ht,b,o⟩:=F w mg fa h KX G hm;exact⟨fd,c,ht,b,λbase k g bm=>(o base k g bm).imp λvs H Q E z=>F0 (q:=ia) Jy z⟩)
  (λ_ _ a ns hl hT hS=>⟨a,ns,rfl,hS,hl,hT,λ_=>rfl⟩) (by rintro w H s e s' ⟨_,_,_,_,_,_,_,_,_,_,_,_,_,z⟩;exact z)
end K40
open PySem PySem.W PyProof.Rows
structure PySem.W.Fast:Prop where
 (tw12781145694620732939 tw12512218828005554045 tw12894959944949660405 tw9471527860913252918 tw14714758491541005528 tw1568417261438938918 tw14244651232990006931 tw3401775008389576856 tw12349578288329517479 tw3105388248253588774 tw16216580607836369138 tw8245686354233191487 tw4753117453142091362 tw4615921215899895053 tw2341177960107626231 tw7778477243376880009 tw14780389115330182366 tw14806745631408390221 tw5553695154269027367 tw8925538934160101878 tw10192436590772194395 tw12398498519366623310 tw3340958612884587179 tw9891943194046933611 tw6831831111090559385 tw2579366255924029129 tw4788314739543590793 tw16450045236552538134 tw3061048082767641997 tw7865080339151156201 tw18220996337055477401 tw13743248560311244919 tw3949836181918735756 tw17678397032948509635 tw13252564085932062583 tw6645163292889148598 tw1005663538758244957 tw14189098604864243877 tw14718602025080170320 tw12300694921484048129 tw1161908024563709674 tw853718000697407479 tw12500315186424799086 tw17231360393552465768 tw7447765630243694496 tw7368458696639910641 tw1008626648848191839 tw17477502727219657101 tw73527432503328793 tw9674803145860825558 tw10504248686175435462 tw2399990445704682293 tw7517155077866044560 tw9630199828097742043 tw5126399274298691772 tw8047276960097933845 tw15015203221155327546 tw3696423653497978533 tw3914064519855973675 tw9139825799750977070 tw5018333182296044479 tw2868793032909563377 tw3594933047050529574 tw11817588228359554419 tw10775660690058185567 tw9328123947665656136 tw3330564601662283255 tw14079373199834501787 tw11231515024884887037 tw15220559755725076520 tw6657264255994178960 tw3291339714822797394 tw5924827729794357966 tw6043201850988343535 tw6586531584953635930 tw1566370775884200122 tw6947617367636432500 tw4466084182892763268 tw18275439040342961519 tw1687033220396535036 tw10813360280638579904 tw2153659763319291182 tw17069247435106150899 tw13716751638131067558 tw12899576680152404740 tw10515621887343608114 tw11996248542200765955 tw14305406501866548162 tw314246773537095030 tw14741236624714955487 tw5385831225393182247 tw12918999719663179227 tw1760814267256661220 tw2980063840524859681 tw18296135461869568758 tw541938630162654651 tw10820335857355603521 tw17297860605232057009 tw1475239215443844458 tw9934195288615907581 tw15593299353864639137 tw6157887949806822155 tw12884019042469033441 tw15972250328092442766 tw7295224674735344652 tw3543330050944167572 tw7806949391159048929 tw10638310705562011912 tw2258452393842782088 tw14802821316272304002 tw14528147089850994102 tw8338102054821436667 tw989959134550439035 tw7388493446118490840 tw18049065745556454390 tw184933759761508062 tw12394238690706343506 tw11845162194373134601 tw15013787425344211927 tw3499380387550265706 tw4584849828659178756 tw17195216996747905408 tw9941108471420849434 tw7432010952230680738 tw11479079657607551825 tw9159408368374946257 tw12514422447679315050 tw11226689279259424902 tw18142008958303779696 tw7251331159142754241 tw6930242000780557491 tw6911060192731973862 tw2950429638221200955 tw6868093120258104597 tw13744858950815020215 tw7211355860234013027 tw5025608957500336941 tw13411134812938066565 tw9116454122454727921 tw10474466394398200329 tw6508381876989653851 tw13797794122081721831 tw6533425116336631087 tw5666737931354930742 tw4873361446759362192 tw4764731985442057346 tw4249271636548307053 tw4242549366298134255 tw16745944273860694441 tw1467169189124017095 tw12167764033024950889 tw11134878591514047136 tw10632910070167899254 tw3482932536584315208 tw11279199335630967959 tw11846690830909236455 tw16408751310877906406 tw2624165330202084656 tw641475977658479970 tw8763784526896074614 tw14999351850898579483 tw16154513499037272280 tw12034468242838820372 tw17568273970735209124 tw4768634766620624664 tw13340946959566513693 tw10428365074818064488 tw9544959527264512648 tw6357669455537972061 tw3754073865123988040 tw2404359024102750008 tw16809010882538582524 tw11706311265388739603 tw1953308437834251341 tw10126811744810426265 tw6695784141036038284 tw16028962296398845958 tw9581380980697582886 tw15648730839381276777 tw17514872355343036815 tw1282836864097914868 tw13656414491474218300 tw6221657895226812438 tw8858523344712844040 tw5224764601265801199 tw2819885237026411631 tw10136119649279154755 tw11265526251423424689 tw9235176265888625844 tw5764547519465665303 tw12143821638701035891 tw10957845353911375205 tw7598340212608998728 tw3343634074153139779 tw17967540484889112617 tw1710905948644522142 tw11309790869637791698 tw7553601121474943454 tw6402101465740066014 tw5106435771342755088 tw10336172151067034992 tw7498642149534558824 tw2268902331502130409 tw15848570096087062403 tw14385033221004760961 tw5612755518875092049 tw18232269388314597814 tw8154366127353792025 tw6980365525672461414 tw13069343759455314920 tw17349738576788808744 tw13076588728140553355 tw3547616443052588247 tw7932831833511213586 tw11996714275481499024 tw5615604857098303182 tw15654539698763275077 tw10609230496747735186 tw3972886326963146847 tw4588966179765203037 tw6676367906838587709 tw12942156260002179802 tw18192048423874047706 tw9957706481721825312 tw4263074718870574984 tw12445325165842245939 tw10756186694890886028 tw7730180623581035782 tw16496441571070729842 tw12275502185700848202 tw11152529969962976027 tw5416343296552295483 tw3468911849776020503 tw6263911486087608269 tw14389926252166402029 tw2723342519255191113 tw17870990177547079344 tw7611740666292982843 tw3103933056834673887 tw7240502182853848283 tw7363152065566401601 tw17399235732824264680 tw1486008237183756566 tw8439019367502267238 tw1671119972790635749 tw874762037325710390 tw14256590699003776336 tw13093089928875824566 tw16529381617158380554 tw4120994512381229266 tw17520510047200632029 tw3077267656056194960 tw18308613493419242407 tw13464990082040836094 tw1013514310520475940 tw15311042101854352817 tw6706470765477393537 tw13366203753959978968 tw9676145455632409005 tw5823156182982584354 tw919213898874375038 tw863416090566413838 tw6094110394574720104 tw4251447300538558416 tw17467221055007253951 tw17280903461193279991 tw17244801895072502174 tw17129860065823519893 tw15543116366874654632 tw15458745236024932179 tw14009771084615054457 tw13024959452480845685 tw11531771666316616562 tw9012042211682731659 tw13780173583599132462 tw9268681212574795418 tw3527642030311103612 tw15465818976745909693 tw2610852203306775751 tw17017744769238000737 tw17001436079523464856 tw17325729295630714237 tw2522197073453432455 tw2941008474580952726 tw12798071274959914665 tw3555556901879305532 tw10206072538460102797 tw8319748759136201823 tw7353670962141677730 tw7185500620760094440 tw7077834041244290001 tw5358986967681962441 tw4724806220166207346 tw3086373005922718136 tw2376959212920411083 tw17934743808506284056 tw16368106654408388907 tw15428428546339874353 tw14267740154035094119 tw13438589776486402626:True)
set_option maxRecDepth 100000 in
set_option maxHeartbeats 0 in
theorem PySem.Challenge.cw_everalike_k40_tests_as_webs_holds : PySem.Challenge.rw_everalike_k40_tests_as_webs.Holds := by
 w_on;o_law;k_head;(case hw=>w_witness2)
 k_fill
 refine K40.walk (l:=PySem.Challenge.rw_everalike_k40_tests_as_webs) rfl rfl (λw h Y=>PySem.W.km_in_of Y) (λw h Y=>PySem.W.km_tabs_of Y 410 #[6]) (λw=>by kernel_rfl) ?F
 case F=>
  intro w mg fa h KX G hmg
  refine' K40.all_mk KX G hmg ?T ?CA ?d0 ?d1 ?d2 ?d3 ?d4 ?d5 ?d6 ?d7 ?d8 ?d9 ?d10 ?d11 ?d12 ?d13 ?d14 ?d15 ?d16 ?d17 ?d18 ?d19 ?d20 ?d21 ?d22 ?d23 ?d24 ?d25 ?d26 ?d27 ?d28 ?d29 ?d30 ?d31 ?dw ?ds ?a ?l ?c ?k
  case T=>
   refine' K40.Pf KX G ?zz0 ?zz1 ?zz2 ?zz3 ?zz4 ?zz5 ?zz6 ?zz7 ?zz8 ?zz9 ?zz10 ?zz11 ?zz12 ?zz13 ?zz14 ?aa0 ?aa1 ?ss0 ?xn0 ?xe0 ?xn1 ?xe1 ?xn2 ?xe2
   (case zz0=>k_is)
   (case zz1=>k_is)
   (case zz2=>k_is)
   (case zz3=>k_is)
   (case zz4=>k_is)
   (case zz5=>k_is)
   (case zz6=>k_is)
   (case zz7=>k_is)
   (case zz8=>k_is)
   (case zz9=>k_is)
   (case zz10=>k_is)
   (case zz11=>k_is)
   (case zz12=>k_is)
   (case zz13=>k_is)
   (case zz14=>k_is)
   (case aa0=>k_is)
   (case aa1=>k_is)
   (case ss0=>k_is)
   (case xn0=>k_is)
   (case xe0=>kernel_rfl)
   (case xn1=>k_is)
   (case xe1=>kernel_rfl)
   (case xn2=>k_is)
   (case xe2=>kernel_rfl)
  case CA=>
   refine' K40.Pg KX G ?nc0 ?nc1 ?nc2 ?nc3 ?nc4 ?nc5 ?nc6 ?nc7 ?nc8 ?nc9 ?nc10 ?nc11 ?nc12 ?nc13 ?nwe ?nve ?ei0 ?eg0 ?ega0 ?ebe0 ?ea0 ?em0 ?kk0 ?ei1 ?eg1 ?ega1 ?ebe1 ?ea1 ?em1 ?kk1 ?ei4 ?eg4 ?ega4 ?ebe4 ?ea4 ?em4 ?kk4 ?esp ?etk
   (case nc0=>k_is)
   (case nc1=>k_is)
   (case nc2=>k_is)
   (case nc3=>k_is)
   (case nc4=>k_is)
   (case nc5=>k_is)
   (case nc6=>k_is)
   (case nc7=>k_is)
   (case nc8=>k_is)
   (case nc9=>k_is)
   (case nc10=>k_is)
   (case nc11=>k_is)
   (case nc12=>k_is)
   (case nc13=>k_is)
   (case nwe=>k_is)
   (case nve=>k_is)
   (case ei0=>kernel_rfl)
   (case eg0=>k_is)
   (case ega0=>k_is)
   (case ebe0=>k_is)
   (case ea0=>k_is)
   (case em0=>k_is)
   (case kk0=>kernel_rfl)
   (case ei1=>kernel_rfl)
   (case eg1=>k_is)
   (case ega1=>k_is)
   (case ebe1=>k_is)
   (case ea1=>k_is)
   (case em1=>k_is)
   (case kk1=>kernel_rfl)
   (case ei4=>kernel_rfl)
   (case eg4=>k_is)
   (case ega4=>k_is)
   (case ebe4=>k_is)
   (case ea4=>k_is)
   (case em4=>k_is)
   (case kk4=>kernel_rfl)
   (case esp=>k_is)
   (case etk=>k_is)
  case d0=>
   refine' Ml.cI KX G ?a0 ?l0 ?c0 ?k0 (λ_ _ _ _ _ _=>Ml.all1 λ_=>rfl)
   (case a0=>k_is);(case l0=>k_is);(case c0=>k_is);(case k0=>k_is)
  case d1=>
   refine' Ml.cI KX G ?a1 ?l1 ?c1 ?k1 (λ_ _ _ _ _ _=>Ml.all1 λ_=>rfl)
   (case a1=>k_is);(case l1=>k_is);(case c1=>k_is);(case k1=>k_is)
  case d2=>
   refine' Ml.cI KX G ?a2 ?l2 ?c2 ?k2 (λ_ _ _ _ _ _=>Ml.all1 λ_=>rfl)
   (case a2=>k_is);(case l2=>k_is);(case c2=>k_is);(case k2=>k_is)
  case d3=>
   refine' Ml.cI KX G ?a3 ?l3 ?c3 ?k3 (λ_ _ _ _ _ _=>Ml.all2 λ_ _=>rfl)
   (case a3=>k_is);(case l3=>k_is);(case c3=>k_is);(case k3=>k_is)
  case d4=>
   refine' Ml.cI KX G ?a4 ?l4 ?c4 ?k4 (λ_ _ _ _ _ _=>Ml.all2 λ_ _=>rfl)
   (case a4=>k_is);(case l4=>k_is);(case c4=>k_is);(case k4=>k_is)
  case d5=>
   refine' Ml.cI KX G ?a5 ?l5 ?c5 ?k5 (λ_ _ _ _ _ _=>Ml.all1 λ_=>rfl)
   (case a5=>k_is);(case l5=>k_is);(case c5=>k_is);(case k5=>k_is)
  case d6=>
   refine' Ml.cI KX G ?a6 ?l6 ?c6 ?k6 (λ_ _ _ _ _ _=>Ml.all1 λ_=>rfl)
   (case a6=>k_is);(case l6=>k_is);(case c6=>k_is);(case k6=>k_is)
  case d7=>
   refine' Ml.cI KX G ?a7 ?l7 ?c7 ?k7 (λ_ _ _ _ _ _=>Ml.all2 λ_ _=>rfl)
   (case a7=>k_is);(case l7=>k_is);(case c7=>k_is);(case k7=>k_is)
  case d8=>
   refine' Ml.cI KX G ?a8 ?l8 ?c8 ?k8 (λ_ _ _ _ _ _=>Ml.all2 λ_ _=>rfl)
   (case a8=>k_is);(case l8=>k_is);(case c8=>k_is);(case k8=>k_is)
  case d9=>
   refine' Ml.cI KX G ?a9 ?l9 ?c9 ?k9 (λ_ _ _ _ _ _=>Ml.all2 λ_ _=>rfl)
   (case a9=>k_is);(case l9=>k_is);(case c9=>k_is);(case k9=>k_is)
  case d10=>
   refine' Ml.cI KX G ?a10 ?l10 ?c10 ?k10 (λ_ _ _ _ _ _=>Ml.all1 λ_=>rfl)
   (case a10=>k_is);(case l10=>k_is);(case c10=>k_is);(case k10=>k_is)
  case d11=>
   refine' Ml.cI KX G ?a11 ?l11 ?c11 ?k11 (λ_ _ _ _ _ _=>Ml.all2 λ_ _=>rfl)
   (case a11=>k_is);(case l11=>k_is);(case c11=>k_is);(case k11=>k_is)
  case d12=>
   refine' Ml.cI KX G ?a12 ?l12 ?c12 ?k12 (λ_ _ _ _ _ _=>Ml.GA λ_ _ _=>rfl)
   (case a12=>k_is);(case l12=>k_is);(case c12=>k_is);(case k12=>k_is)
  case d13=>
   refine' Ml.cI KX G ?a13 ?l13 ?c13 ?k13 (λ_ _ _ _ _ _=>Ml.GA λ_ _ _=>rfl)
   (case a13=>k_is);(case l13=>k_is);(case c13=>k_is);(case k13=>k_is)
  case d14=>
   refine' Ml.cI KX G ?a14 ?l14 ?c14 ?k14 (λ_ _ _ _ _ _=>Ml.Tv λ_ _ _ _=>rfl)
   (case a14=>k_is);(case l14=>k_is);(case c14=>k_is);(case k14=>k_is)
  case d15=>
   refine' Ml.cI KX G ?a15 ?l15 ?c15 ?k15 (λ_ _ _ _ _ _=>Ml.all2 λ_ _=>rfl)
   (case a15=>k_is);(case l15=>k_is);(case c15=>k_is);(case k15=>k_is)
  case d16=>
   refine' Ml.cI KX G ?a16 ?l16 ?c16 ?k16 (λ_ _ _ _ _ _=>Ml.all1 λ_=>rfl)
   (case a16=>k_is);(case l16=>k_is);(case c16=>k_is);(case k16=>k_is)
  case d17=>
   refine' Ml.cI KX G ?a17 ?l17 ?c17 ?k17 (λ_ _ _ _ _ _=>Ml.all2 λ_ _=>rfl)
   (case a17=>k_is);(case l17=>k_is);(case c17=>k_is);(case k17=>k_is)
  case d18=>
   refine' Ml.cI KX G ?a18 ?l18 ?c18 ?k18 (λ_ _ _ _ _ _=>Ml.all2 λ_ _=>rfl)
   (case a18=>k_is);(case l18=>k_is);(case c18=>k_is);(case k18=>k_is)
  case d19=>
   refine' Ml.cI KX G ?a19 ?l19 ?c19 ?k19 (λ_ _ _ _ _ _=>Ml.all2 λ_ _=>rfl)
   (case a19=>k_is);(case l19=>k_is);(case c19=>k_is);(case k19=>k_is)
  case d20=>
   refine' Ml.cI KX G ?a20 ?l20 ?c20 ?k20 (λ_ _ _ _ _ _=>Ml.all1 λ_=>rfl)
   (case a20=>k_is);(case l20=>k_is);(case c20=>k_is);(case k20=>k_is)
  case d21=>
   refine' Ml.cI KX G ?a21 ?l21 ?c21 ?k21 (λ_ _ _ _ _ _=>Ml.all1 λ_=>rfl)
   (case a21=>k_is);(case l21=>k_is);(case c21=>k_is);(case k21=>k_is)
  case d22=>
   refine' Ml.cI KX G ?a22 ?l22 ?c22 ?k22 (λ_ _ _ _ _ _=>Ml.all1 λ_=>rfl)
   (case a22=>k_is);(case l22=>k_is);(case c22=>k_is);(case k22=>k_is)
  case d23=>
   refine' Ml.cI KX G ?a23 ?l23 ?c23 ?k23 (λ_ _ _ _ _ _=>Ml.all1 λ_=>rfl)
   (case a23=>k_is);(case l23=>k_is);(case c23=>k_is);(case k23=>k_is)
  case d24=>
   refine' Ml.cI KX G ?a24 ?l24 ?c24 ?k24 (λ_ _ _ _ _ _=>Ml.all2 λ_ _=>rfl)
   (case a24=>k_is);(case l24=>k_is);(case c24=>k_is);(case k24=>k_is)
  case d25=>
   refine' Ml.cI KX G ?a25 ?l25 ?c25 ?k25 (λ_ _ _ _ _ _=>Ml.all2 λ_ _=>rfl)
   (case a25=>k_is);(case l25=>k_is);(case c25=>k_is);(case k25=>k_is)
  case d26=>
   refine' Ml.cI KX G ?a26 ?l26 ?c26 ?k26 (λ_ _ _ _ _ _=>Ml.all2 λ_ _=>rfl)
   (case a26=>k_is);(case l26=>k_is);(case c26=>k_is);(case k26=>k_is)
  case d27=>
   refine' Ml.cI KX G ?a27 ?l27 ?c27 ?k27 (λ_ _ _ _ _ _=>Ml.all2 λ_ _=>rfl)
   (case a27=>k_is);(case l27=>k_is);(case c27=>k_is);(case k27=>k_is)
  case d28=>
   refine' Ml.cI KX G ?a28 ?l28 ?c28 ?k28 (λ_ _ _ _ _ _=>Ml.GA λ_ _ _=>rfl)
   (case a28=>k_is);(case l28=>k_is);(case c28=>k_is);(case k28=>k_is)
  case d29=>
   refine' Ml.cI KX G ?a29 ?l29 ?c29 ?k29 (λ_ _ _ _ _ _=>Ml.all1 λ_=>rfl)
   (case a29=>k_is);(case l29=>k_is);(case c29=>k_is);(case k29=>k_is)
  case d30=>
   refine' Ml.cI KX G ?a30 ?l30 ?c30 ?k30 (λ_ _ _ _ _ _=>Ml.GA λ_ _ _=>rfl)
   (case a30=>k_is);(case l30=>k_is);(case c30=>k_is);(case k30=>k_is)
  case d31=>
   refine' Ml.Ot KX G ?dta ?dtl ?dtc ?dth ?dtk (λ_ _ _ _ _ _=>Ml.GA λ_ _ _=>rfl)
   (case dta=>k_is)
   (case dtl=>k_is)
   (case dtc=>k_is)
   (case dth=>kernel_rfl)
   (case dtk=>k_is)
  case dw=>
   refine' Ml.cI KX G ?aw ?lw ?cw ?kw (λ_ _ _ _ _ _=>Ml.all1 λ_=>rfl)
   (case aw=>k_is);(case lw=>k_is);(case cw=>k_is);(case kw=>k_is)
  case ds=>
   refine' Ml.cI KX G ?as ?ls ?cs ?ks (λ_ _ _ _ _ _=>Ml.all1 λ_=>rfl)
   (case as=>k_is);(case ls=>k_is);(case cs=>k_is);(case ks=>k_is)
  (case a=>k_is);(case l=>k_is);(case c=>k_is);(case k=>k_is)
