import PyProof.Rows.All
import Wide.All
import OpenK.AllK
import Wide.FinOn
import Lean
import PyProof.EqAt
import PyProof.EqKinds
import PyProof.TupleCall
import KE.KSortTup
import PyProof.Rows.SortShellK
import PyProof.Rows.SortWalk
import KE.KDictList
import KE.KStar
import PyProof.ListMulRoad
import PyProof.FactsAll.tuple
import KE.KTab
import PyProof.DictCompW
import PySem.SetOps
import PyProof.SetScanFacts
import PyProof.SetNew
import PyProof.SetRoads
import PyProof.Rows.SetFrom
import PyProof.WalksMore
import PyProof.CollectWalk
import PySem.Challenge.RW_everalike_k13_kernels
set_option linter.all false
namespace PySem
abbrev Uu:=@PySem.wpAny_bind
abbrev Uv:=@PySem.Heap.get?_push_of_some
abbrev Uw:=@PySem.wpAny_pure
abbrev Ux:=@Bool.and_eq_true
abbrev Uy:=@Nat.le_refl
abbrev Uz:=@PySem.Heap.lt_size
abbrev UA:=@PySem.Heap.get?_push_size
abbrev UB:=@List.getElem?_eq_some_iff
abbrev UC:=@List.mem_cons
abbrev UD:=@List.mem_cons_of_mem
abbrev UE:=@Nat.lt_of_lt_of_le
abbrev UG:=@List.size_toArray
abbrev UH:=@List.getElem?_eq_getElem
abbrev UI:=@Nat.le_trans
abbrev UJ:=@List.mem_append_right
abbrev UK:=@Bool.false_eq_true
abbrev UL:=@List.mem_cons_self
abbrev UM:=@List.all_eq_true
abbrev UN:=@Nat.ne_of_lt
abbrev UO:=@List.mem_of_getElem?
abbrev UP:=@List.length_append
abbrev UQ:=@List.mem_append
abbrev UR:=@List.length_cons
abbrev US:=@List.length_map
abbrev UT:=@Nat.lt_irrefl
abbrev UU:=@List.mem_map
abbrev UW:=@List.not_mem_nil
abbrev UX:=@List.getElem?_append_left
abbrev UY:=@Bool.false_ne_true
abbrev UZ:=@decide_eq_true_eq
abbrev U0:=@decide_eq_false
abbrev U1:=@Array.getElem?_eq_getElem
abbrev U2:=@PySem.Paired.length
abbrev U3:=@List.map_cons
abbrev U4:=@PySem.W.mg_of
abbrev U5:=@List.mem_singleton
abbrev U6:=@PySem.wpAny_call_entry
abbrev U7:=@Array.getElem?_toList
abbrev U8:=@PySem.W.mg_none_of
abbrev U9:=@PySem.wpAny_callSpecial?_slot
abbrev Va:=@PySem.wpAny_holding
abbrev Vb:=@List.getElem?_append_right
abbrev Vc:=@decide_eq_true
abbrev Vd:=@PySem.wpAny_newObj_type
abbrev Ve:=@Option.map_eq_some_iff
abbrev Vf:=@List.mem_range
abbrev Vg:=@PySem.wpAny_Call_Name_kw
abbrev Vh:=@List.pairwise_cons
abbrev Vi:=@PySem.Heap.size_push
abbrev Vj:=@Classical.byContradiction
abbrev Vk:=@Option.some.inj
abbrev Vl:=@PyProof.Rows.slot_tuple_getitem
abbrev Vm:=@Array.getD_eq_getD_getElem?
abbrev Vn:=@Array.getElem?_eq_some_iff
abbrev Vo:=@Array.length_toList
abbrev Vp:=@PySem.mem_of_lookup
abbrev Vq:=@List.length_nil
abbrev Vr:=@if_false
abbrev Vs:=@List.getElem?_map
abbrev Vt:=@List.drop_eq_getElem_cons
abbrev Vu:=@if_true
abbrev Vv:=@PySem.W.kia_one
abbrev Vw:=@PySem.wpAny_seqItems
abbrev Vx:=@List.getElem?_cons_zero
abbrev Vy:=@List.pairwise_iff_getElem
abbrev Vz:=@PyProof.Rows.F.plain_set_update_loop
abbrev VA:=@PySem.wpAny_mono
abbrev VB:=@PySem.wpAny_truthy_bool
abbrev VC:=@Bool.eq_iff_iff
abbrev VD:=@PySem.wpAny_field
abbrev VE:=@PyProof.Rows.ReadsAll.keeps
abbrev VF:=@List.mem_append_left
abbrev VG:=@List.getElem?_of_mem
abbrev VH:=@or_false
abbrev VI:=@List.getElem?_set_self
abbrev VJ:=@PySem.sizeLine_eq
abbrev VL:=@Int.toNat_natCast
abbrev VM:=@Nat.lt_succ_of_lt
abbrev VN:=@List.nodup_cons
abbrev VO:=@List.length_replicate
abbrev VP:=@PySem.Heap.get?_update_self
abbrev VQ:=@List.find?_cons
abbrev VR:=@PySem.wpAny_ite_split
abbrev VS:=@List.take_append_drop
abbrev VT:=@List.Pairwise.imp_of_mem
abbrev VU:=@Nat.le_succ
abbrev VW:=@List.lookup_cons
abbrev VX:=@List.mem_iff_getElem
abbrev VY:=@List.pairwise_append
abbrev VZ:=@List.getElem?_cons_succ
abbrev V0:=@List.mem_filter
abbrev V1:=@PyProof.Rows.callWith_type1
abbrev V2:=@List.nil_append
abbrev V3:=@List.forIn_cons
abbrev V4:=@Nat.zero_le
abbrev V5:=@PySem.W.cellsFrom_some
abbrev V6:=@List.drop_of_length_le
abbrev V7:=@PySem.F.slot_tuple_iterator_next
abbrev V8:=@Nat.lt_succ_self
abbrev V9:=@List.mem_filterMap
abbrev Wa:=@PySem.Calls.spliced_cons
abbrev Wc:=@PySem.wpAny_setField_rec
abbrev Wd:=@Nat.lt_or_ge
abbrev We:=@List.set_cons_zero
abbrev Wg:=@Array.mem_toList_iff
abbrev Wi:=@PySem.Around.under_plainId
abbrev Wj:=@Option.isSome_iff_exists
abbrev Wk:=@Option.some.injEq
abbrev Wl:=@PySem.wpAny_rule
abbrev Wm:=@PySem.codeAny_builtin
abbrev Wn:=@PySem.Heap.get?_push_ne
abbrev Wo:=@of_decide_eq_true
abbrev Wq:=@PySem.sizeLine_eq
abbrev Wr:=@Bool.or_eq_true
abbrev Ws:=@List.filterMap_cons_some
abbrev Wt:=@List.map_nil
abbrev Wu:=@beq_eq_false_iff_ne
abbrev Wv:=@List.filterMap_cons
abbrev Ww:=@List.getElem?_replicate
abbrev Wx:=@List.replicate_succ
abbrev Wy:=@PySem.wpAny_attempt
abbrev Wz:=@List.length_eq_zero_iff
abbrev WA:=@PySem.F.plainAttrs_list
abbrev WB:=@List.getElem_of_mem
abbrev WC:=@List.cons_append
abbrev WD:=@PySem.call_meets
abbrev WG:=@PySem.Heap.get?_update_other
abbrev WH:=@congrArg
abbrev WI:=@PySem.tupleKind_room_in1
abbrev WJ:=@List.zip_cons_cons
abbrev WK:=@List.set_cons_succ
abbrev WL:=@Nat.le_of_lt
abbrev WM:=@PySem.wpAny_execs_nil
abbrev WN:=@Nat.ne_of_gt
abbrev WO:=@PySem.codeAny_mono
abbrev WQ:=@List.of_mem_zip
abbrev WR:=@PySem.wpAny_specialOf
abbrev WS:=@PySem.F.called_set
abbrev WT:=@PySem.Calls.spliced_nil
abbrev WU:=@Bool.eq_false_iff
abbrev WV:=@PySem.F.slot_tuple_hash
abbrev WW:=@Bool.not_true
abbrev WX:=@List.pairwise_map
abbrev WY:=@PySem.wpAny_newFunctionEnv_cells
abbrev WZ:=@Ne.symm
abbrev W0:=@List.getElem?_set_ne
abbrev W2:=@List.mem_of_mem_take
abbrev W3:=@PyProof.Rows.F.entry_set_update_loop
abbrev W4:=@Nat.mul_le_mul
abbrev W5:=@List.length_take
abbrev W6:=@List.getElem_mem
abbrev W7:=@PySem.Heap.size_update
abbrev W8:=@PySem.Heap.SameBut.update
abbrev W9:=@PySem.wpAny_of_eq
abbrev Xa:=@PySem.F.slot_dict_eq_refl
abbrev Xb:=@Int.toNat_of_nonneg
abbrev Xd:=@PySem.F.args_tuple_add_2
abbrev Xe:=@PySem.wpAny_comprehension_free
abbrev Xf:=@PySem.SetTable.toList_insertAt
abbrev Xg:=@PyProof.Rows.assignInOrder_cons
abbrev Xh:=@PySem.wpAny_standAt
abbrev Xi:=@PySem.wpAny_pyIter_tuple
abbrev Xj:=@PySem.wpAny_passesOwn
abbrev Xk:=@PySem.W.callWith_K
abbrev Xl:=@PySem.F.entry_tuple_add
abbrev Xm:=@List.any_cons
abbrev Xn:=@Array.forIn_toList
abbrev Xo:=@List.findIdx?_eq_some_iff_getElem
abbrev Xp:=@Int.emod_nonneg
abbrev Xq:=@List.pairwise_iff_forall_sublist
abbrev Xr:=@PySem.F.slot_tuple_add
abbrev Xs:=@PySem.wpAny_load
abbrev Xt:=@List.flatten_cons
abbrev Xu:=@Bool.not_eq_true'
abbrev Xv:=@List.nodup_append
abbrev Xw:=@List.eraseIdx_eq_take_drop_succ
abbrev Xx:=@PySem.wpAny_pyIter_slot
abbrev Xy:=@Bool.false_and
abbrev Xz:=@List.forIn_nil
abbrev XA:=@PySem.codeAny_call_function
abbrev XB:=@PyProof.Rows.callWith_builtin1
abbrev XC:=@PySem.wpAny_typeOf
abbrev XD:=@List.length_singleton
abbrev XF:=@PySem.F.slot_dict_get
abbrev XG:=@PySem.F.slot_tuple_lt
abbrev XH:=@List.set_append_right
abbrev XI:=@PySem.wpAny_isInstance
abbrev XJ:=@Nat.le_add_right
abbrev XM:=@Option.getD_some
abbrev XN:=@PySem.SeqAt.eqAt_reads
abbrev XO:=@PySem.Calls.evalArgs_plain
abbrev XQ:=@PySem.wpAny_updateSeq_pair
abbrev XR:=@PySem.codeAny_call_builtin
abbrev XS:=@PySem.plainId_quiet
abbrev XT:=@PySem.wpAny_call
abbrev XU:=@Nat.mod_lt
abbrev XW:=@Option.map_some
abbrev XX:=@PySem.F.slot_zip_next
abbrev XY:=@Array.toList_append
abbrev XZ:=@PySem.Heap.dictOf_iff
abbrev X1:=@PySem.W.codeRec_of
abbrev X2:=@List.map_map
abbrev X3:=@decide_eq_true_iff
abbrev X4:=@Int.emod_lt_of_pos
abbrev X5:=@PySem.repr_of_reads'
abbrev X6:=@PySem.wpAny_Name
abbrev X7:=@List.append_assoc
abbrev X8:=@Option.isSome_map
abbrev X9:=@beq_iff_eq
abbrev Ya:=@List.flatMap_cons
abbrev Yb:=@List.length_drop
abbrev Yc:=@List.any_eq_true
abbrev Yd:=@getElem?_pos
abbrev Ye:=Value → Shared → Prop
abbrev Yf:=List (Addr × Obj)
abbrev Yg:=List (PyData × PyData)
abbrev Yh:=Array (Int × Value)
abbrev Yi:=Str → Option Value
abbrev Yj:=List PyData
abbrev Yk:=List Addr
abbrev Yl:=List Value
abbrev Ym:=PySem.W.Frag
abbrev Yn:=List Str
abbrev Yo:=List Expr
abbrev Yp:=Array (Option Value)
abbrev Yq:=Array DictEntry
abbrev Yr:=Array Value
abbrev Ys:=Array Nat
abbrev Yt:=Program
abbrev Yu:=SetTable
abbrev Yv:=Around
abbrev Yw:=Shared
end PySem
set_option bootstrap.genMatcherCode false
set_option genSizeOfSpec false
noncomputable section
set_option compiler.extract_closed false
set_option Elab.async false
set_option linter.all false
set_option maxRecDepth 100000
namespace L2
open PySem PySem.Spec PyProof.Rows
abbrev Key:=Sum Int Str
noncomputable def uG:Key->Value->Bool
 |.inl k,v=>Value.isInt k v
 |.inr x,v=>Value.isStrOf x v
noncomputable def RN(w:World):Key->Int
 |.inl k=>hashInt k
 |.inr x=>hashStr w x
theorem cz:∀{k:Key} {v:Value},uG k v=true->(∃i t,k=Sum.inl i/\v=Value.int i t)\/(∃x t,k=Sum.inr x/\v=Value.str x t)
 |.inl i,v,h=>by obtain⟨t,e⟩:=Value.isInt_shape (k:=i) (v:=v) h;exact .inl ⟨i,t,rfl,e⟩
 |.inr x,v,h=>by obtain⟨t,e⟩:=Value.isStrOf_shape (x:=x) (v:=v) h;exact .inr ⟨x,t,rfl,e⟩
theorem ET(i:Int)(t:Tok):uG (.inl i) (.int i t)=true:=by simp[uG,Value.isInt]
theorem EU(x:Str)(t:Tok):uG (.inr x) (.str x t)=true:=by simp[uG,Value.isStrOf]
theorem MI(a b:Int):decide ((Sum.inl a:Key)=Sum.inl b)=(a==b):=by
 by_cases e:a=b
 ·subst e;simp
 ·have h:¬ (Sum.inl a:Key)=Sum.inl b:=λq=>e (Sum.inl.inj q);rw[U0 h];exact(Wu.mpr e).symm
theorem MJ(a b:Str):decide ((Sum.inr a:Key)=Sum.inr b)=decide (a=b):=by
 by_cases e:a=b
 ·subst e;simp
 ·have h:¬ (Sum.inr a:Key)=Sum.inr b:=λq=>e (Sum.inr.inj q);rw[U0 h,U0 e]
theorem MK(a:Int)(b:Str):decide ((Sum.inl a:Key)=Sum.inr b)=false:=U0 (λq=>nomatch q)
theorem ML(a:Str)(b:Int):decide ((Sum.inr a:Key)=Sum.inl b)=false:=U0 (λq=>nomatch q)
noncomputable def bK(prog:Yt)(w:World):PySem.KeyKind prog w Key where
 is:=uG
 hash:=RN w
 inj:=λv a b ha hb=>by
  rcases cz ha with⟨i,t,rfl,rfl⟩|⟨x,t,rfl,rfl⟩
  ·rcases cz hb with⟨j,u,rfl,e⟩|⟨y,u,rfl,e⟩
   ·injection e with e1 _;rw[e1]
   ·exact nomatch e
  ·rcases cz hb with⟨j,u,rfl,e⟩|⟨y,u,rfl,e⟩
   ·exact nomatch e
   ·injection e with e1 _;rw[e1]
 byValue:=λk v h=>by rcases cz h with⟨i,t,rfl,rfl⟩|⟨x,t,rfl,rfl⟩<;>rfl
 pyHash:=λhv h=>by
  rcases cz hv with⟨i,t,rfl,rfl⟩|⟨x,t,rfl,rfl⟩
  ·exact wpAny_pyHash_int h
  ·exact wpAny_pyHash_str h
 eqBool:=λhu hv h=>by
  rcases cz hu with⟨i,t,rfl,rfl⟩|⟨x,t,rfl,rfl⟩
  ·rcases cz hv with⟨j,u,rfl,rfl⟩|⟨y,u,rfl,rfl⟩
   ·rw[MI]at h;exact wpAny_eqBool_int h
   ·rw[MK]at h;exact SeqAt.EqAt.int_str i t y u _ _ _ _ h
  ·rcases cz hv with⟨j,u,rfl,rfl⟩|⟨y,u,rfl,rfl⟩
   ·rw[ML]at h;exact SeqAt.EqAt.str_int x t j u _ _ _ _ h
   ·rw[MJ]at h;exact wpAny_eqBool_str h
 «strs» := λk x t v h=>by
  rcases cz h with⟨i,u,rfl,e⟩|⟨y,u,rfl,e⟩
  ·exact nomatch e
  ·injection e with e1 _;subst e1;cases v<;>rfl
theorem Ae(prog:Yt)(w:World)(i:Int)(t:Tok):(bK prog w).is (.inl i) (.int i t)=true:=ET i t
theorem Af(prog:Yt)(w:World)(x:Str)(t:Tok):(bK prog w).is (.inr x) (.str x t)=true:=EU x t
inductive V where
 |non|bl (b:Bool)|int (i:Int)|str (x:Str)|byt (b:Array UInt8)|flt (b:UInt64)|ref (a:Addr)|ty (n:String)
 deriving DecidableEq
noncomputable def RelV:V->Value->Prop
 |.non,u=>u=Value.none
 |.bl b,u=>u=Value.bool b
 |.int i,u=>∃t,u=Value.int i t
 |.str x,u=>∃t,u=Value.str x t
 |.byt b,u=>∃t,u=Value.bytes b t
 |.flt b,u=>∃t,u=Value.float b t
 |.ref a,u=>u=Value.ref a
 |.ty n,u=>u=Value.type n
abbrev Vals:List V->Yl->Prop:=Paired RelV
theorem Vals.length{xs:List V}{us:Yl}(r:Vals xs us):xs.length=us.length:=U2 r
theorem Vals.get:∀{xs:List V} {us:Yl} {i:Nat} {x:V},Vals xs us->xs[i]?=some x->∃u,us[i]?=some u/\RelV x u
 |_,_,_,_,.nil,e=>by simp at e
 |_,_,0,_,.cons r _,e=>by simp at e;subst e;exact⟨_,rfl,r⟩
 |_,_,i+1,x,.cons _ t,e=>by obtain⟨u,h1,h2⟩:=Vals.get (i:=i) (x:=x) t (by simpa using e);exact⟨u,by simpa using h1,h2⟩
theorem Vals.set{x:V}{u:Value}(r:RelV x u):∀{xs:List V} {us:Yl} (i:Nat),Vals xs us->Vals (xs.set i x) (us.set i u)
 |_,_,_,.nil=>.nil
 |_,_,0,.cons _ t=>.cons r t
 |_,_,i+1,.cons q t=>.cons q (Vals.set r i t)
theorem Vals.append:∀{xs ys:List V} {us ws:Yl},Vals xs us->Vals ys ws->Vals (xs++ys) (us++ws)
 |_,_,_,_,.nil,s=>s
 |_,_,_,_,.cons r t,s=>.cons r (Vals.append t s)
theorem Vals.take:∀{xs:List V} {us:Yl} (n:Nat),Vals xs us->Vals (xs.take n) (us.take n)
 |_,_,0,_=>.nil
 |_,_,_+1,.nil=>.nil
 |_,_,n+1,.cons r t=>.cons r (Vals.take n t)
theorem Vals.drop:∀{xs:List V} {us:Yl} (n:Nat),Vals xs us->Vals (xs.drop n) (us.drop n)
 |_,_,0,r=>r
 |_,_,_+1,.nil=>.nil
 |_,_,n+1,.cons _ t=>Vals.drop n t
noncomputable def rM:Option V->Option Value->Prop
 |some v,some u=>RelV v u
 |none,none=>True
 |_,_=>False
noncomputable def KV{κ:Type}:List (κ×V)->List (κ×Value)->Prop:=Paired λ(p:κ×V) (q:κ×Value)=>p.1=q.1/\RelV p.2 q.2
noncomputable def kV:Key->V
 |.inl i=>.int i
 |.inr x=>.str x
inductive HO where
 |lst (xs:List V)
 |tup (xs:List V)
 |dK (kvs:List (Key×V))|dT (kvs:List (List Key×V))
 |set (S:Int->Bool) (n:Nat)
 |ins (C dx:Addr) (fs:List (Str×V))
 |own (x:Addr)
 |xd (fs:List (Str×V))
 |met (f x:Addr)
 |rng (lo hi:Int)
 |frz (o:Obj) (u:HO)
 |tbl (ps:Yr)
 |ext (φ:Heap->Prop)
abbrev Hp:=Addr->Option HO
noncomputable def upd(H:Hp)(a:Addr)(o:HO):Hp:=λb=>if b=a then some o else H b
theorem aJ{H:Hp}{a:Addr}{o:HO}:upd H a o a=some o:=by unfold upd;rw[if_pos rfl]
theorem ak{H:Hp}{a b:Addr}{o:HO}(h:b≠a):upd H a o b=H b:=by unfold upd;rw[if_neg h]
theorem Pz{H:Hp}{a b:Addr}{o u:HO}(h:H a=some o)(h':H b=some u)(d:o≠u):a≠b:=by intro e;subst e;rw[h]at h';exact d (Vk h')
theorem ay{H:Hp}{a b:Addr}{o:HO}(h:H a=some o)(h':H b=none):a≠b:=by intro e;subst e;rw[h]at h';cases h'
section
variable (P:Yt) (w:World)
noncomputable def bM(H:Hp)(h:Heap)(a:Addr):HO->Prop
 |.lst xs=>xs.length<=sizeLine/\∃(its:Yl) (n:Nat),Vals xs its/\h.get? a=some {cls:=.type "list",data:=.seq its.toArray n}
 |.tup xs=>xs.length<=sizeLine/\∃its:Yl,Vals xs its/\IsTup h a its.toArray
 |.dK kvs=>kvs.length<=sizeLine/\(a==sysModules)=false/\∃vs,KV kvs vs/\h.DictOf (bK P w) a vs
 |.dT kvs=>kvs.length<=sizeLine/\(a==sysModules)=false/\∃xs:List (List Key×Addr×Value),
   Paired (λ(p:List Key×V) (q:List Key×Addr×Value)=>p.1=q.1/\H q.2.1=some (.tup (p.1.map kV))/\RelV p.2 q.2.2) kvs xs /\
   ∃o es ep,h.get? a=some o/\o.ExactDict/\o.data=.dict es ep/\es.toList=xs.map (entryOfKey (tupleKind (bK P w)))/\(xs.map (·.1)).Nodup
 |.set S n=>h.SetOf (intKind P w) a S n
 |.ins C dx fs=>H dx=some (.own a)/\fs.length<=1000/\dx≠a/\h.get? a=some (PySem.W.instObj C dx) /\
   ∃mA,h.Ns1 dx mA/\(∀f,rM (fs.lookup f) (mA f))/\PySem.Within mA (fs.map (·.1))
 |.own _=>∃o,h.get? a=some o
 |.xd fs=>∃mA,h.Ns1 a mA/\∀f,rM (fs.lookup f) (mA f)
 |.rng lo hi=>∃t u v,h.get? a=some {cls:=.type "range",data:=.fields #[.int lo t,.int hi u,.int 1 v]}
 |.frz o u=>h.get? a=some o/\bM H h a u
 |.tbl ps=>h.get? a=some {cls:=.none,data:=.fields ps}
 |.met f x=>h.get? a=some (PySem.W.methodObj (.ref f) (.ref x))
 |.ext φ=>φ h/\(∃o,h.get? a=some o)/\∀h1 h2:Heap,φ h1->(∀o,h1.get? a=some o->h2.get? a=some o)->φ h2
noncomputable def lz(H:Hp)(h:Heap):Prop:=∀a o,H a=some o->bM P w H h a o
end
section
variable {P:Yt} {w:World} {H H':Hp} {h h':Heap} {a:Addr} {o:HO}
theorem bM.lt(x:bM P w H h a o):a<h.objs.size:=by
 cases o with
 |lst xs=>obtain⟨_,_,_,_,e⟩:=x;exact Uz e
 |tup xs=>obtain⟨_,_,_,p⟩:=x;exact p.lt
 |dK kvs=>obtain⟨_,_,_,_,o,_,_,e,_⟩:=x;exact Uz e
 |dT kvs=>obtain⟨_,_,_,_,o,_,_,e,_⟩:=x;exact Uz e
 |set S n=>obtain⟨o,_,_,_,e,_⟩:=x;exact Uz e
 |ins C dx fs=>obtain⟨_,_,_,e,_⟩:=x;exact Uz e
 |own y=>obtain⟨_,e⟩:=x;exact Uz e
 |xd fs=>obtain⟨_,⟨_,_,_,e,_⟩,_⟩:=x;exact Uz e
 |rng lo hi=>obtain⟨_,_,_,e⟩:=x;exact Uz e
 |frz ob u=>obtain⟨e,_⟩:=x;exact Uz e
 |tbl ps=>exact Uz (show h.get? a=some _ from x)
 |met f y=>exact Uz (show h.get? a=some _ from x)
 |ext φ=>obtain⟨_,⟨_,e⟩,_⟩:=x;exact Uz e
theorem Paired.wU{α β:Type}{F G:α->β->Prop}:∀{l₁:List α} {l₂:List β},Paired F l₁ l₂->(∀a b,F a b->G a b)->Paired G l₁ l₂
 |_,_,.nil,_=>.nil
 |_,_,.cons r t,f=>.cons (f _ _ r) (Paired.wU t f)
theorem bM.oz(x:bM P w H h a o)(k:∀b u,(b=a\/H b=some (.own a))->h.get? b=some u->h'.get? b=some u)
 (ho:∀b,H b=some (.own a)->H' b=some (.own a))(ht:∀b xs,H b=some (.tup xs)->H' b=some (.tup xs)):bM P w H' h' a o:=by
 induction o with
 |lst xs=>obtain⟨z,its,n,r,e⟩:=x;exact⟨z,its,n,r,k _ _ (.inl rfl) e⟩
 |tup xs=>obtain⟨z,its,r,ob,e,c⟩:=x;exact⟨z,its,r,ob,k _ _ (.inl rfl) e,c⟩
 |dK kvs=>obtain⟨z,y,vs,r,ob,es,ep,e,c⟩:=x;exact⟨z,y,vs,r,ob,es,ep,k _ _ (.inl rfl) e,c⟩
 |dT kvs=>obtain⟨z,y,xs,r,ob,es,ep,e,c⟩:=x;exact⟨z,y,xs,Paired.wU r λp q z=>⟨z.1,ht _ _ z.2.1,z.2.2⟩,ob,es,ep,k _ _ (.inl rfl) e,c⟩
 |set S n=>obtain⟨ob,es,ep,t,e,c⟩:=x;exact⟨ob,es,ep,t,k _ _ (.inl rfl) e,c⟩
 |ins C dx fs=>obtain⟨d,z,ne,e,mA,⟨od,es,ep,e2,c⟩,r⟩:=x;exact⟨ho _ d,z,ne,k _ _ (.inl rfl) e,mA,⟨od,es,ep,k _ _ (.inr d) e2,c⟩,r⟩
 |own y=>obtain⟨ob,e⟩:=x;exact⟨ob,k _ _ (.inl rfl) e⟩
 |xd fs=>obtain⟨mA,⟨od,es,ep,e,c⟩,r⟩:=x;exact⟨mA,⟨od,es,ep,k _ _ (.inl rfl) e,c⟩,r⟩
 |rng lo hi=>obtain⟨t,u,v,e⟩:=x;exact⟨t,u,v,k _ _ (.inl rfl) e⟩
 |frz ob u ih=>obtain⟨e,q⟩:=x;exact⟨k _ _ (.inl rfl) e,ih q⟩
 |tbl ps=>have e:h.get? a=some {cls:=.none,data:=.fields ps}:=x;show h'.get? a=some {cls:=.none,data:=.fields ps};exact k a _ (.inl rfl) e
 |met f y=>have e:h.get? a=some (PySem.W.methodObj (.ref f) (.ref y)):=x;show h'.get? a=some (PySem.W.methodObj (.ref f) (.ref y));exact k a _ (.inl rfl) e
 |ext φ=>obtain⟨p,⟨o,e⟩,st⟩:=x;exact⟨st _ _ p λo q=>k _ _ (.inl rfl) q,⟨o,k _ _ (.inl rfl) e⟩,st⟩
theorem lz.lt(x:lz P w H h)(e:H a=some o):a<h.objs.size:=(x a o e).lt
theorem lz.fresh(x:lz P w H h)(e:h.objs.size<=a):H a=none:=by
 cases q:H a with
 |none=>rfl
 |some u=>exact absurd (UE (x.lt q) e) (UT _)
theorem lz.kept(x:lz P w H h)(k:∀b u,h.get? b=some u->h'.get? b=some u):lz P w H h':=λa o e=>
 (x a o e).oz (λb u _ q=>k b u q) (λ_ q=>q) λ_ _ q=>q
theorem lz.laid(x:lz P w H h)(k:∀b u,h.get? b=some u->h'.get? b=some u)(hp:h.objs.size<=a)(new:bM P w (upd H a o) h' a o):lz P w (upd H a o) h':=λb u e=>by
 have hn:=x.fresh hp;by_cases hb:b=a
 ·subst hb;rw[aJ]at e;cases e;exact new
 ·rw[ak hb]at e;exact(x b u e).oz (λc v _ q=>k c v q) (λc q=>by rw[ak (ay q hn)];exact q) λc xs q=>by rw[ak (ay q hn)];exact q
end
noncomputable def Rd(H:Hp)(a:Addr)(u:HO):Prop:=H a=some u\/∃o,H a=some (.frz o u)
theorem Rd.ok{P:Yt}{w:World}{H:Hp}{h:Heap}{a:Addr}{u:HO}(r:Rd H a u)(x:lz P w H h):bM P w H h a u:=by
 rcases r with r|⟨o,r⟩
 ·exact x a u r
 ·obtain⟨_,q⟩:=x a _ r;exact q
noncomputable def O9:Option HO->Prop
 |some (.lst _)=>True
 |some (.dK _)=>True
 |some (.dT _)=>True
 |some (.set _ _)=>True
 |some (.ins _ _ _)=>True
 |some (.ext _)=>True
 |_=>False
section
variable {P:Yt} {w:World} {H:Hp} {h h':Heap} {x e:Addr} {o':HO}
theorem lz.write(ok:lz P w H h)(mu:O9 (H x))(he:e=x\/H e=some (.own x))(k:∀b u,b≠e->h.get? b=some u->h'.get? b=some u)(heo:∃u,h'.get? e=some u)
 (new:bM P w (upd H x o') h' x o'):lz P w (upd H x o') h':=λb u q=>by
 have nown:∀c y,H c=some (.own y)->c≠x:=λc y r z=>by subst z;rw[r]at mu;exact mu
 have ntup:∀c xs,H c=some (.tup xs)->c≠x:=λc xs r z=>by subst z;rw[r]at mu;exact mu
 by_cases hb:b=x
 ·subst hb;rw[aJ]at q;cases q;exact new
 ·rw[ak hb]at q;by_cases hbe:b=e
  ·have q':H b=some (.own x):=by
    rcases he with z|z
    ·exact absurd (hbe.trans z) hb
    ·rw[hbe];exact z
   rw[q]at q';cases q';obtain⟨v,hv⟩:=heo;exact⟨v,by rw[hbe];exact hv⟩
  ·refine(ok b u q).oz (λc v hc r=>k c v ?_ r) (λc r=>by rw[ak (nown c b r)];exact r) λc xs r=>by rw[ak (ntup c xs r)];exact r
   rcases hc with rfl|hc
   ·exact hbe
   ·rintro rfl;rcases he with z|z
    ·exact nown c b hc z
    ·rw[hc]at z;cases z;exact hb rfl
end
structure Un(fs ex:Yk)(H H':Hp)(h h':Heap):Prop where
 keep:∀b o,h.get? b=some o->H b=none->b∉fs->b∉ex->h'.get? b=some o
 slot:∀b o,h.get? b=some o->H b=none->b∈fs->b∉ex->∃sl,h'.get? b=some {o with slots:=sl}
 free:∀b o,h.get? b=some o->H b=none->b∉ex->H' b=none
 there:∀b o,h.get? b=some o->b∉ex->∃o',h'.get? b=some o'
 tups:∀b xs,H b=some (.tup xs)->H' b=some (.tup xs)
 frzs:∀b o u,H b=some (.frz o u)->H' b=some (.frz o u)
 tbls:∀b ps,H b=some (.tbl ps)->∃more,H' b=some (.tbl (ps++more))
section
variable {fs fs' ex ex':Yk} {H H1 H2:Hp} {h h1 h2 h':Heap} {a x e:Addr} {o:HO}
theorem Un.any(u:Un fs ex H H1 h h1){b:Addr}{ob:Obj}(q:h.get? b=some ob)(n:H b=none)(hx:b∉ex):∃sl,h1.get? b=some {ob with slots:=sl}:=by
 by_cases hb:b∈fs
 ·exact u.slot b ob q n hb hx
 ·exact⟨ob.slots,u.keep b ob q n hb hx⟩
theorem Un.kept(k:∀b u,h.get? b=some u->h'.get? b=some u):Un fs ex H H h h':=
 ⟨λb ob q _ _ _=>k b ob q,λb ob q _ _ _=>⟨ob.slots,k b ob q⟩,λ_ _ _ n _=>n,λb ob q _=>⟨ob,k b ob q⟩,λ_ _ q=>q,λ_ _ _ q=>q,λ_ ps q=>⟨#[],by rw[q];simp⟩⟩
theorem Un.refl:Un fs ex H H h h:=Un.kept λ_ _ q=>q
theorem Un.laid(k:∀b u,h.get? b=some u->h'.get? b=some u)(hp:h.objs.size<=a)(hn:H a=none):Un fs ex H (upd H a o) h h' where
 keep:=λb u q _ _ _=>k b u q
 slot:=λb u q _ _ _=>⟨u.slots,k b u q⟩
 free:=λb u q n _=>by rw[ak (UN (UE (Uz q) hp))];exact n
 there:=λb u q _=>⟨u,k b u q⟩
 tups:=λb xs q=>by rw[ak (ay q hn)];exact q
 frzs:=λb u xs q=>by rw[ak (ay q hn)];exact q
 tbls:=λb ps q=>⟨#[],by rw[ak (ay q hn),q];simp⟩
theorem Un.write(mu:O9 (H x))(he:e=x\/H e=some (.own x))(k:∀b u,b≠e->h.get? b=some u->h'.get? b=some u)(heo:∃u,h'.get? e=some u):Un fs ex H (upd H x o) h h':=by
 have hx:∀b,H b=none->b≠x:=λb n z=>by subst z;rw[n]at mu;exact mu
 have hb:∀b,H b=none->b≠e:=λb n z=>by
  subst z;rcases he with r|r
  ·exact hx b n r
  ·rw[n]at r;cases r
 have hm:∀b u,H b=some u->¬ O9 (some u)->b≠x:=λb u q nm z=>by subst z;rw[q]at mu;exact nm mu
 refine⟨λb u q n _ _=>k b u (hb b n) q,λb u q n _ _=>⟨u.slots,k b u (hb b n) q⟩,λb u q n _=>by rw[ak (hx b n)];exact n,λb u q _=>?_,
  λb xs q=>by rw[ak (hm b _ q λz=>z)];exact q,λb u xs q=>by rw[ak (hm b _ q λz=>z)];exact q,λb ps q=>⟨#[],by rw[ak (hm b _ q λz=>z),q];simp⟩⟩
 by_cases hbe:b=e
 ·subst hbe;exact heo
 ·exact⟨u,k b u hbe q⟩
end
noncomputable def wO(h:Heap)(H:Hp):Yk:=(List.range h.objs.size).filter λa=>(H a).isSome
noncomputable def wV(h:Heap)(H:Hp):Heap:=PySem.W.hideAll h (wO h H)
theorem EV(h:Heap)(H:Hp):(wV h H).objs.size=h.objs.size:=PySem.W.hideAll_size _ _
theorem Gs{h:Heap}{H:Hp}{b:Addr}{o:Obj}(e:h.get? b=some o)(n:H b=none):(wV h H).get? b=some o:=
 PySem.W.hideAll_get _ e λhm=>by have q:(H b).isSome=true:=(V0.mp hm).2;rw[n]at q;simp at q
theorem JK{h:Heap}{H:Hp}{b:Addr}{o:Obj}(e:(wV h H).get? b=some o):h.get? b=some o/\H b=none:=by
 have e':h.get? b=some o:=PySem.W.of_hideAll (wO h H) e;refine⟨e',?_⟩
 cases q:H b with
 |none=>rfl
 |some x=>have hm:b∈wO h H:=V0.mpr ⟨Vf.mpr (Uz e'),by simp[q]⟩;have z:(wV h H).get? b=none:=PySem.W.hideAll_none (wO h H) hm;rw[z]at e;cases e
noncomputable def JL(g h:Heap)(L:Addr):Yf:=(List.range h.objs.size).filterMap λa=>if a=L\/(g.get? a).isSome=true then none else(h.get? a).map λo=>(a,o)
noncomputable def rest(g h:Heap)(L d:Addr):Yf:=(JL g h L).filter λp=>decide (p.1≠d)
structure Mod(K:Ym)(mg:Yi)(base:Heap):Prop where
 kin:K.In base
 glob:base.Ns mainGlobals mg
 blt:∃mb,base.Ns builtinsNs mb/\∀x:Str,x ≠ "__name__" -> mb x=bootBuiltins x
 nolimit:base.NoLimit
structure Cx where
 prog:Yt
 w:World
 K:Ym
 mg:Str->Option Value
 base:Heap
 A:Yv
 N:Yn
 s₀:Yw
 H₀:Hp
 env:Env
 outer:List Env
 stack:List Env
 ex:Yk
 fn:Str->Bool
 calm:Bool
 pn:Yf
 xe:Ye
noncomputable def lM(l:List Env):Yk:=l.filterMap (·.frame)
abbrev Cx.fs(X:Cx):Yk:=lM X.outer
noncomputable def Gq(sc:Scope)(x:Str):Prop:=sc.names.lookup x=some .local\/sc.names.lookup x=some .cell\/sc.names.lookup x=some .free
noncomputable def Loc(sc:Scope)(x:Str):Prop:=sc.names.lookup x=some .local\/sc.names.lookup x=some .cell
noncomputable def Look(env:Env)(h:Heap)(m:Yi)(x:Str)(u:Value):Prop:=
 (env.kindOf x=some .local/\m x=some u)\/((env.kindOf x=some .cell\/env.kindOf x=some .free)/\∃c,env.cells.lookup x=some c/\h.IsCell c (some u))
structure Cx.Ok(X:Cx):Prop where
 mod:Mod X.K X.mg X.base
 kind:X.env.scope.kind=.function
 glob:X.env.globals=mainGlobals
 blt:X.env.builtins=builtinsNs
 above:X.s₀.heap.objs.size<=X.env.locals
 inj:∀x y c,X.env.cells.lookup x=some c->X.env.cells.lookup y=some c->x=y
 has:∀x,(X.env.kindOf x=some .cell\/X.env.kindOf x=some .free)->∃c,X.env.cells.lookup x=some c
 cab:∀x c,X.fn x=true->X.env.cells.lookup x=some c->X.s₀.heap.objs.size<=c
 hd:X.calm=true->X.A.handled=none
 frames:X.A.frames=some X.stack
 stk:X.stack=X.outer\/(X.stack=X.env::X.outer/\X.env.frame=some X.env.locals)
 exf:∀b∈X.ex,b≠X.env.locals/\∀x c,X.env.cells.lookup x=some c->c≠b
 bs:∀b o,X.base.get? b=some o->X.s₀.heap.get? b=some o/\X.H₀ b=none
 bsz:X.base.objs.size<=X.s₀.heap.objs.size
 noex:∀b o,X.base.get? b=some o->b∉X.ex
 exfs:∀b∈X.ex,b∉X.fs
 ky:X.s₀.heap.FunFrames X.base X.outer
 frf:∀b∈X.fs,X.H₀ b=none
structure Inv(X:Cx)(pins:Yf)(σ:List (Option V))(H:Hp)(s:Yw):Prop where
 ok:X.Ok
 os:s.os=X.s₀.os
 bare:AllBare s.gens
 base:Un X.fs X.ex X.H₀ H X.s₀.heap s.heap
 loc:∃m,s.heap.Ns X.env.locals m/\∀(i:Nat) (x:Str) (v:V),X.N[i]?=some x->σ[i]?=some (some v)->Gq X.env.scope x->∃u,RelV v u/\Look X.env s.heap m x u
 cell:∀x c,X.env.cells.lookup x=some c->∃v,s.heap.IsCell c v
 free:H X.env.locals=none
 freeC:∀x c,X.env.cells.lookup x=some c->H c=none
 pin:∀p∈X.pn++pins,s.heap.get? p.1=some p.2/\H p.1=none/\p.1≠X.env.locals/\p.1∉X.fs/\∀v,p.2.data≠.cell v
 hok:lz X.prog X.w H s.heap
 len:σ.length=X.N.length
section
variable {X:Cx} {pins:Yf} {σ:List (Option V)} {H H':Hp} {s:Yw} {h':Heap}
theorem Cx.Ok.RO(ok:X.Ok){b:Addr}{o:Obj}(e:X.base.get? b=some o):b∉X.fs:=λhb=>by have:=(ok.ky.mem hb).1;rw[e]at this;cases this
theorem Inv.bs(I:Inv X pins σ H s):∀b o,X.base.get? b=some o->s.heap.get? b=some o/\H b=none:=λb o e=>
 ⟨I.base.keep b o (I.ok.bs b o e).1 (I.ok.bs b o e).2 (I.ok.RO e) (I.ok.noex b o e),I.base.free b o (I.ok.bs b o e).1 (I.ok.bs b o e).2 (I.ok.noex b o e)⟩
theorem Inv.bk(I:Inv X pins σ H s):∀b o,X.base.get? b=some o->s.heap.get? b=some o:=λb o e=>(I.bs b o e).1
theorem Inv.mod(I:Inv X pins σ H s):Mod X.K X.mg X.base:=I.ok.mod
theorem Inv.qb(I:Inv X pins σ H s):X.K.In s.heap:=I.ok.mod.kin.keeps I.bk
theorem Inv.lt(I:Inv X pins σ H s):X.env.locals<s.heap.objs.size:=by obtain⟨_,hn,_⟩:=I.loc;exact hn.lt
theorem Inv.sz(I:Inv X pins σ H s):X.s₀.heap.objs.size<=s.heap.objs.size:=UI I.ok.above (WL I.lt)
theorem Inv.Gu(I:Inv X pins σ H s){a:Addr}(h:s.heap.objs.size<=a):a∉X.fs:=λhb=>by obtain⟨_,o,ho,_⟩:=I.ok.ky.mem hb;exact absurd (UE (Uz ho) (UI I.sz h)) (UT _)
theorem Inv.MM(I:Inv X pins σ H s):∀x c,X.env.cells.lookup x=some c->c≠X.env.locals:=λx c e z=>by obtain⟨v,o,ho,hd⟩:=I.cell x c e;obtain⟨m,⟨o',es,ep,ho',hd',_⟩,_⟩:=I.loc;rw[z,ho']at ho;cases ho;rw[hd']at hd;cases hd
theorem Inv.ky(I:Inv X pins σ H s):s.heap.FunFrames X.base X.outer:=by
 have all:∀(l:List Env),(∀b∈lM l,b∈X.fs)->X.s₀.heap.FunFrames X.base l->s.heap.FunFrames X.base l:=by
  intro l
  induction l with
  |nil=>intro _ _;trivial
  |cons env r ih=>intro hs hl;obtain⟨hk,⟨L,o,hf,hn,ho,hd⟩,hr⟩:=hl;have hL:L∈X.fs:=hs L (by unfold lM;rw[Wv,hf];exact UL);obtain⟨sl,e⟩:=I.base.slot L o ho (I.ok.frf L hL) hL λz=>I.ok.exfs L z hL;exact⟨hk,⟨L,_,hf,hn,e,hd⟩,ih (λb hb=>hs b (by unfold lM;rw[Wv,hf];exact UD _ hb)) hr⟩
 exact all X.outer (λ_ hb=>hb) I.ok.ky
theorem Inv.stack(I:Inv X pins σ H s):s.heap.FunFrames X.base X.stack:=by
 rcases I.ok.stk with e|⟨e,hf⟩
 ·rw[e];exact I.ky
 ·rw[e];obtain⟨m,hn,_⟩:=I.loc;refine .cons (by rw[I.ok.kind];decide) hf hn ?_ I.ky;exact Heap.get?_none_of_le (UI I.ok.bsz I.ok.above)
theorem Inv.jy(I:Inv X pins σ H s):∀b∈lM X.stack,b∈X.env.locals::X.fs:=λb hb=>by
 rcases I.ok.stk with e|⟨e,hf⟩
 ·rw[e]at hb;exact UD _ hb
 ·rw[e]at hb;unfold lM at hb;rw[Wv,hf]at hb;exact hb
theorem Inv.yF(I:Inv X pins σ H s):∀b∈lM X.stack,H b=none:=λb hb=>by
 rcases UC.mp (I.jy b hb)with e|hb
 ·rw[e];exact I.free
 ·obtain⟨_,o,ho,_⟩:=I.ok.ky.mem hb;exact I.base.free b o ho (I.ok.frf b hb) λz=>I.ok.exfs b z hb
theorem Inv.step{g':Array GenState}{t':Nat}{d':Drawn}{ch:Yk}(I:Inv X pins σ H s)
 (hch:∀b∈ch,(b∈X.ex\/X.s₀.heap.objs.size<=b)/\b≠X.env.locals/\(∀x c,X.env.cells.lookup x=some c->c≠b)/\∀p∈X.pn++pins,p.1≠b)
 (keep:∀b o,b≠X.env.locals->b∉X.fs->b∉ch->s.heap.get? b=some o->H b=none->h'.get? b=some o)
 (slot:∀b o,b≠X.env.locals->b∈X.fs->b∉ch->s.heap.get? b=some o->H b=none->∃sl,h'.get? b=some {o with slots:=sl})(free:∀b o,b∉ch->s.heap.get? b=some o->H b=none->H' b=none)
 (there:∀b o,b∉ch->s.heap.get? b=some o->∃o',h'.get? b=some o')
 (tups:∀b xs,H b=some (.tup xs)->H' b=some (.tup xs))(frzs:∀b o u,H b=some (.frz o u)->H' b=some (.frz o u))(tbls:∀b ps,H b=some (.tbl ps)->∃more,H' b=some (.tbl (ps++more)))
 (ns:∀m,s.heap.Ns X.env.locals m->h'.Ns X.env.locals m)(hok:lz X.prog X.w H' h')(hg:AllBare g') :
  Inv X pins σ H' {s with heap:=h',gens:=g',drawn:=d',toks:=t'}:=by
 have neL:∀b o,X.s₀.heap.get? b=some o->b≠X.env.locals:=λb o e=>UN (UE (Uz e) I.ok.above)
 have neC:∀b o,X.s₀.heap.get? b=some o->b∉X.ex->b∉ch:=λb o e hx hb=>by
  rcases(hch b hb).1 with z|z
  ·exact hx z
  ·exact absurd (UE (Uz e) z) (UT _)
 have cellK:∀x c,X.env.cells.lookup x=some c->∀v,s.heap.IsCell c v->h'.IsCell c v:=by
  rintro x c e v ⟨o,ho,hd⟩;have nch:c∉ch:=λz=>(hch c z).2.2.1 x c e rfl;by_cases hc:c∈X.fs
  ·obtain⟨sl,q⟩:=slot c o (I.MM x c e) hc nch ho (I.freeC x c e);exact⟨_,q,hd⟩
  ·exact⟨o,keep c o (I.MM x c e) hc nch ho (I.freeC x c e),hd⟩
 refine⟨I.ok,I.os,hg,⟨λb o e n hb hx=>?_,λb o e n hb hx=>?_,λb o e n hx=>?_,λb o e hx=>?_,λb xs e=>tups b xs (I.base.tups b xs e),λb o xs e=>frzs b o xs (I.base.frzs b o xs e),λb ps e=>?_⟩,?_,λx c e=>?_,?_,λx c e=>?_,λp hp=>?_,hok,I.len⟩
 ·exact keep b o (neL b o e) hb (neC b o e hx) (I.base.keep b o e n hb hx) (I.base.free b o e n hx)
 ·obtain⟨sl,e1⟩:=I.base.slot b o e n hb hx;obtain⟨sl',e2⟩:=slot b _ (neL b o e) hb (neC b o e hx) e1 (I.base.free b o e n hx);exact⟨sl',e2⟩
 ·obtain⟨o',e1⟩:=I.base.there b o e hx;exact free b o' (neC b o e hx) e1 (I.base.free b o e n hx)
 ·obtain⟨o',e1⟩:=I.base.there b o e hx;exact there b o' (neC b o e hx) e1
 ·obtain⟨m1,e1⟩:=I.base.tbls b ps e;obtain⟨m2,e2⟩:=tbls b _ e1;exact⟨m1++m2,by rw[e2,Array.append_assoc]⟩
 ·obtain⟨m,hn,hl⟩:=I.loc;refine⟨m,ns m hn,λi x v e1 e2 e3=>?_⟩;obtain⟨u,r,l⟩:=hl i x v e1 e2 e3;refine⟨u,r,?_⟩;rcases l with l|⟨k,c,e,z⟩
  ·exact .inl l
  ·exact .inr ⟨k,c,e,cellK x c e _ z⟩
 ·obtain⟨v,z⟩:=I.cell x c e;exact⟨v,cellK x c e v z⟩
 ·obtain⟨m,⟨o,_,_,ho,_⟩,_⟩:=I.loc;exact free _ o (λz=>(hch _ z).2.1 rfl) ho I.free
 ·obtain⟨v,o,ho,hd⟩:=I.cell x c e;exact free c o (λz=>(hch c z).2.2.1 x c e rfl) ho (I.freeC x c e)
 ·obtain⟨e,n,ne,nf,d⟩:=I.pin p hp;have nch:p.1∉ch:=λz=>(hch p.1 z).2.2.2 p hp rfl;exact⟨keep p.1 p.2 ne nf nch e n,free p.1 p.2 nch e n,ne,nf,d⟩
theorem Inv.un{t':Nat}(I:Inv X pins σ H s)(u:Un X.fs [] H H' s.heap h')(hok:lz X.prog X.w H' h'):Inv X pins σ H' {s with heap:=h',toks:=t'}:=by
 obtain⟨m,⟨o,es,ep,ho,r⟩,_⟩:=id I.loc;obtain⟨sl,hL⟩:=u.any ho I.free (by simp)
 exact I.step (g':=s.gens) (d':=s.drawn) (ch:=[]) (λ_ z=>nomatch z) (λb o _ hb _ e n=>u.keep b o e n hb (by simp)) (λb o _ hb _ e n=>u.slot b o e n hb (by simp)) (λb o _ e n=>u.free b o e n (by simp)) (λb o _ e=>u.there b o e (by simp)) u.tups u.frzs u.tbls (λm' hm=>by
  obtain⟨o',es',ep',ho',r'⟩:=hm;rw[ho]at ho';cases ho'
  exact⟨_,es',ep',hL,r'⟩) hok I.bare
theorem Inv.call{g':Array GenState}{t':Nat}{d':Drawn}{ch:Yk}(I:Inv X pins σ H s)(u:Un (lM X.stack) ch H H' s.heap h')(hok:lz X.prog X.w H' h')(hg:AllBare g')
 (hch:∀b∈ch,(b∈X.ex\/X.s₀.heap.objs.size<=b)/\b≠X.env.locals/\(∀x c,X.env.cells.lookup x=some c->c≠b)/\∀p∈X.pn++pins,p.1≠b) :
  Inv X pins σ H' {s with heap:=h',gens:=g',drawn:=d',toks:=t'}:=by
 obtain⟨m,⟨o,es,ep,ho,r⟩,_⟩:=id I.loc;obtain⟨sl,hL⟩:=u.any ho I.free λz=>(hch _ z).2.1 rfl
 exact I.step (ch:=ch) hch (λb o hL hb hc e n=>u.keep b o e n (λz=>(UC.mp (I.jy b z)).elim hL hb) hc) (λb o _ _ hc e n=>u.any e n hc) (λb o hc e n=>u.free b o e n hc) (λb o hc e=>u.there b o e hc) u.tups u.frzs u.tbls (λm' hm=>by
  obtain⟨o',es',ep',ho',r'⟩:=hm;rw[ho]at ho';cases ho'
  exact⟨_,es',ep',hL,r'⟩) hok hg
theorem Inv.turned{t':Nat}{it:Addr}(I:Inv X pins σ H s)(k:∀b o,b≠it->s.heap.get? b=some o->h'.get? b=some o)(hn:H it=none)(hL:it≠X.env.locals)
 (h1:it∈X.ex\/X.s₀.heap.objs.size<=it)(h2:∀x c,X.env.cells.lookup x=some c->c≠it)(h3:∀p∈X.pn++pins,p.1≠it):Inv X pins σ H {s with heap:=h',toks:=t'}:=by
 have nit:∀b u,H b=some u->b≠it:=λb u e z=>by rw[z,hn]at e;cases e
 refine I.step (g':=s.gens) (d':=s.drawn) (ch:=[it]) (λb hb=>?_) (λb o _ _ hc e _=>k b o (λz=>hc (by simp[z])) e) (λb o _ _ hc e _=>⟨o.slots,k b o (λz=>hc (by simp[z])) e⟩) (λ_ _ _ _ n=>n)
  (λb o hc e=>⟨o,k b o (λz=>hc (by simp[z])) e⟩) (λ_ _ e=>e) (λ_ _ _ e=>e) (λb ps e=>⟨#[],by rw[e];simp⟩) (λm hm=>?_) (λb u e=>?_) I.bare
 ·have e:b=it:=by simpa using hb
  subst e;exact⟨h1,hL,h2,h3⟩
 ·obtain⟨o,es,ep,ho,r⟩:=hm;exact⟨o,es,ep,k _ o (WZ hL) ho,r⟩
 ·refine(I.hok b u e).oz (λc v hc q=>k c v ?_ q) (λ_ q=>q) λ_ _ q=>q;rcases hc with z|z
  ·rw[z];exact nit b u e
  ·exact nit c _ z
theorem Inv.tok(I:Inv X pins σ H s)(t:Nat):Inv X pins σ H {s with toks:=t}:=I.un (h':=s.heap) (t':=t) Un.refl I.hok
theorem Inv.kept{t':Nat}(I:Inv X pins σ H s)(k:∀b u,s.heap.get? b=some u->h'.get? b=some u):Inv X pins σ H {s with heap:=h',toks:=t'}:=I.un (Un.kept k) (I.hok.kept k)
theorem Inv.laid{a:Addr}{o:HO}{t':Nat}(I:Inv X pins σ H s)(k:∀b u,s.heap.get? b=some u->h'.get? b=some u)(hp:s.heap.objs.size<=a)(new:bM X.prog X.w (upd H a o) h' a o) :
  Inv X pins σ (upd H a o) {s with heap:=h',toks:=t'}:=I.un (Un.laid k hp (I.hok.fresh hp)) (I.hok.laid k hp new)
theorem Inv.write{x e:Addr}{o:HO}{t':Nat}(I:Inv X pins σ H s)(mu:O9 (H x))(he:e=x\/H e=some (.own x))(k:∀b u,b≠e->s.heap.get? b=some u->h'.get? b=some u)(heo:∃u,h'.get? e=some u)
 (new:bM X.prog X.w (upd H x o) h' x o):Inv X pins σ (upd H x o) {s with heap:=h',toks:=t'}:=I.un (Un.write mu he k heo) (I.hok.write mu he k heo new)
theorem Inv.qc{pins':Yf}(I:Inv X pins σ H s)(h:∀p∈pins',s.heap.get? p.1=some p.2/\H p.1=none/\p.1≠X.env.locals/\p.1∉X.fs/\∀v,p.2.data≠.cell v):Inv X pins' σ H s:=
 ⟨I.ok,I.os,I.bare,I.base,I.loc,I.cell,I.free,I.freeC,λp hp=>(UQ.mp hp).elim (λz=>I.pin p (VF _ z)) (h p),I.hok,I.len⟩
theorem Ag{N:Yn}(hN:N.Nodup){i j:Nat}{x:Str}(a:N[i]?=some x)(b:N[j]?=some x):i=j:=by obtain⟨h1,e1⟩:=UB.mp a;obtain⟨h2,e2⟩:=UB.mp b;exact(List.getElem_inj hN).mp (e1.trans e2.symm)
theorem xA{M:Model}{A:Yv}{E:Ye}{i:Nat}{x:Str}{v:V}{u:Value}{Q:Unit->Yw->Prop}(I:Inv X pins σ H s)(hN:X.N.Nodup)(hi:X.N[i]?=some x)(hx:Loc X.env.scope x)(r:RelV v u)
 (h:∀s',Inv X pins (σ.set i (some v)) H s'->(∃a,Heap.SameBut a s.heap s'.heap/\(a=X.env.locals\/X.env.cells.lookup x=some a))->Q () s')(hf:X.fn x=true\/X.env.scope.names.lookup x=some .local:=by first|exact .inl rfl|exact .inr rfl|assumption):wpAny M A (storeName X.env x u) Q E s:=by
 obtain⟨m,hn,hl⟩:=id I.loc;have hcls:(X.env.scope.kind == .class || (X.env.scope.kind == .module&&X.env.locals != X.env.globals))=false:=by rw[I.ok.kind];rfl
 have hiσ:i<σ.length:=by rw[I.len];exact(UB.mp hi).1
 have MM:=I.MM
 have tracked:∀{a:Addr} {h':Heap},(∃o,s.heap.get? a=some o/\H a=none)->Heap.SameBut a s.heap h'->lz X.prog X.w H h':=λ{a h'} ha hs b ob e=>by
  obtain⟨_,_,hfree⟩:=ha;refine(I.hok b ob e).oz (λc w' hc q=>(hs.2 c ?_).trans q) (λ_ q=>q) λ_ _ q=>q;rintro rfl;rcases hc with rfl|hc
  ·rw[hfree]at e;cases e
  ·rw[hfree]at hc;cases hc
 rcases hx with hk|hk
 ·refine wpAny_storeName_local hk hn (λh' hn' hs=>?_) hcls;obtain⟨oL,_,_,hoL,_⟩:=id hn;refine h _ ⟨I.ok,I.os,I.bare,⟨λb o e n hb hx=>?_,λb o e n hb hx=>?_,I.base.free,λb o e hx=>?_,I.base.tups,I.base.frzs,I.base.tbls⟩,⟨_,hn',λj y v' e1 e2 e3=>?_⟩,λy c e=>?_,I.free,I.freeC,λp hp=>?_,tracked ⟨oL,hoL,I.free⟩ hs,by simpa using I.len⟩ ⟨_,hs,.inl rfl⟩
  ·exact(hs.2 b (UN (UE (Uz e) I.ok.above))).trans (I.base.keep b o e n hb hx)
  ·obtain⟨sl,e1⟩:=I.base.slot b o e n hb hx;exact⟨sl,(hs.2 b (UN (UE (Uz e) I.ok.above))).trans e1⟩
  ·obtain⟨o',e1⟩:=I.base.there b o e hx;exact⟨o',(hs.2 b (UN (UE (Uz e) I.ok.above))).trans e1⟩
  ·by_cases hj:j=i
   ·subst hj;rw[hi]at e1;cases e1;rw[VI hiσ]at e2;cases e2;exact⟨u,r,.inl ⟨hk,by simp⟩⟩
   ·rw[W0 (WZ hj)]at e2;obtain⟨u',r',q⟩:=hl j y v' e1 e2 e3;refine⟨u',r',?_⟩;rcases q with⟨k,e⟩|⟨k,c,e,z⟩
    ·refine .inl ⟨k,?_⟩;have:y≠x:=λe=>hj (Ag hN e1 (e▸hi));simp[this,e]
    ·exact .inr ⟨k,c,e,z.sameBut hs (MM y c e)⟩
  ·obtain⟨w',z⟩:=I.cell y c e;exact⟨w',z.sameBut hs (MM y c e)⟩
  ·obtain⟨e,n,ne,nf,d⟩:=I.pin p hp;exact⟨(hs.2 p.1 ne).trans e,n,ne,nf,d⟩
 ·have hfn:X.fn x=true:=by
   rcases hf with z|z
   ·exact z
   ·rw[z]at hk;cases hk
  obtain⟨c,hc⟩:=I.ok.has x (.inl hk);obtain⟨w',z⟩:=I.cell x c hc;refine wpAny_storeName_cell I.ok.kind hk hc z (λh' hc' hs=>?_);obtain⟨oc,hoc,hocd⟩:=id z;refine h {s with heap:=h'} ⟨I.ok,I.os,I.bare,⟨λb o e n hb hx=>?_,λb o e n hb hx=>?_,I.base.free,λb o e hx=>?_,I.base.tups,I.base.frzs,I.base.tbls⟩,⟨m,hn.sameBut hs (WZ (MM x c hc)),λj y v' e1 e2 e3=>?_⟩,λy c' e=>?_,I.free,I.freeC,λp hp=>?_,tracked ⟨oc,hoc,I.freeC x c hc⟩ hs,by simpa using I.len⟩ ⟨c,hs,.inr hc⟩
  ·exact(hs.2 b (UN (UE (Uz e) (I.ok.cab x c hfn hc)))).trans (I.base.keep b o e n hb hx)
  ·obtain⟨sl,e1⟩:=I.base.slot b o e n hb hx;exact⟨sl,(hs.2 b (UN (UE (Uz e) (I.ok.cab x c hfn hc)))).trans e1⟩
  ·obtain⟨o',e1⟩:=I.base.there b o e hx;exact⟨o',(hs.2 b (UN (UE (Uz e) (I.ok.cab x c hfn hc)))).trans e1⟩
  ·by_cases hj:j=i
   ·subst hj;rw[hi]at e1;cases e1;rw[VI hiσ]at e2;cases e2;exact⟨u,r,.inr ⟨.inl hk,c,hc,hc'⟩⟩
   ·rw[W0 (WZ hj)]at e2;obtain⟨u',r',q⟩:=hl j y v' e1 e2 e3;refine⟨u',r',?_⟩;rcases q with q|⟨k,c',e,z'⟩
    ·exact .inl q
    ·refine .inr ⟨k,c',e,z'.sameBut hs ?_⟩;rintro rfl;exact hj (Ag hN e1 (I.ok.inj _ _ _ e hc▸hi))
  ·by_cases hcc:c'=c
   ·subst hcc;exact⟨_,hc'⟩
   ·obtain⟨w2,z2⟩:=I.cell y c' e;exact⟨w2,z2.sameBut hs hcc⟩
  ·obtain⟨e,n,ne,nf,d⟩:=I.pin p hp;refine⟨(hs.2 p.1 ?_).trans e,n,ne,nf,d⟩;intro q;rw[q,hoc]at e;have q':oc=p.2:=Vk e;exact d w' (by rw[<- q'];exact hocd)
theorem jR{M:Model}{A:Yv}{E:Ye}{i:Nat}{x:Str}{v:V}{u:Value}{Q:Unit->Yw->Prop}(I:Inv X pins σ H s)(hN:X.N.Nodup)(hi:X.N[i]?=some x)(hx:Loc X.env.scope x)(r:RelV v u)
 (h:∀s',Inv X pins (σ.set i (some v)) H s'->Q () s')(hf:X.fn x=true\/X.env.scope.names.lookup x=some .local:=by first|exact .inl rfl|exact .inr rfl|assumption):wpAny M A (storeName X.env x u) Q E s:=
 xA I hN hi hx r (λs' I' _=>h s' I') hf
theorem Inv.Ah{s':Yw}{ch:Yk}(I:Inv X pins σ H s)(ho:s'.os=s.os)(u:Un (lM X.stack) ch H H' s.heap s'.heap)(hok:lz X.prog X.w H' s'.heap)(hg:AllBare s'.gens)
 (hch:∀b∈ch,(b∈X.ex\/X.s₀.heap.objs.size<=b)/\b≠X.env.locals/\(∀x c,X.env.cells.lookup x=some c->c≠b)/\∀p∈X.pn++pins,p.1≠b):Inv X pins σ H' s':=by
 obtain⟨h',g',d',t',o'⟩:=s';have e:o'=s.os:=ho;subst e;exact I.call (g':=g') (t':=t') (d':=d') u hok hg hch
end
abbrev XK:=Value->Option Addr->Hp->Prop
abbrev St:=List (Option V)
abbrev VK:=V->Hp->Prop
abbrev TE:=St->Hp->VK->Prop
abbrev TT:=St->Hp->(Bool->Hp->Prop)->Prop
noncomputable abbrev TA:=St->Hp->(List V->Hp->Prop)->Prop
structure Ends where
 nx:St->Hp->Prop
 rt:VK
 bk:St->Hp->Prop:=λ_ _=>False
 ct:St->Hp->Prop:=λ_ _=>False
abbrev TS:=Ends->St->Hp->Prop
noncomputable def EP(X:Cx)(pins:Yf)(σ:St)(Q:VK)(u:Value)(s':Yw):Prop:=∃v H',Inv X pins σ H' s'/\RelV v u/\Q v H'
noncomputable def TP(X:Cx)(pins:Yf)(σ:St)(Q:Bool->Hp->Prop)(b:Bool)(s':Yw):Prop:=∃H',Inv X pins σ H' s'/\Q b H'
noncomputable def AP(X:Cx)(pins:Yf)(σ:St)(Q:List V->Hp->Prop)(us:Yl)(s':Yw):Prop:=∃vs H',Inv X pins σ H' s'/\Vals vs us/\Q vs H'
noncomputable def SP(X:Cx)(pins:Yf)(D:Ends)(f:Flow)(s':Yw):Prop:=
 match f with
 |.next=>∃σ' H',Inv X pins σ' H' s'/\D.nx σ' H'
 |.brk=>∃σ' H',Inv X pins σ' H' s'/\D.bk σ' H'
 |.cont=>∃σ' H',Inv X pins σ' H' s'/\D.ct σ' H'
 |.ret u=>∃v σ' H',Inv X pins σ' H' s'/\RelV v u/\D.rt v H'
noncomputable def PE(X:Cx)(e:Expr)(t:TE):Prop:=
 ∀(pins:Yf) (s:Yw) (σ:St) (H:Hp) (Q:VK),Inv X pins σ H s->t σ H Q->wpAny (model X.prog X.w) X.A (eval e X.env) (EP X pins σ Q) X.xe s
noncomputable def PT(X:Cx)(e:Expr)(t:TT):Prop:=
 ∀(pins:Yf) (s:Yw) (σ:St) (H:Hp) (Q:Bool->Hp->Prop),Inv X pins σ H s->t σ H Q->wpAny (model X.prog X.w) X.A (isTrue e X.env (eval e X.env)) (TP X pins σ Q) X.xe s
noncomputable def PW(X:Cx)(e:Expr)(t:TT):Prop:=
 ∀(whole:Sem Value) (pins:Yf) (s:Yw) (σ:St) (H:Hp) (Q:Bool->Hp->Prop),Inv X pins σ H s->t σ H Q->wpAny (model X.prog X.w) X.A (isTrue e X.env whole) (TP X pins σ Q) X.xe s
theorem PW.pt{X:Cx}{e:Expr}{t:TT}(h:PW X e t):PT X e t:=h _
noncomputable def PA(X:Cx)(es:Yo)(t:TA):Prop:=
 ∀(pos:Pos) (pins:Yf) (s:Yw) (σ:St) (H:Hp) (Q:List V->Hp->Prop),Inv X pins σ H s->t σ H Q->wpAny (model X.prog X.w) X.A (spliced (backTo pos (starEach es X.env))) (AP X pins σ Q) X.xe s
noncomputable def PS(X:Cx)(st:Stmt)(t:TS):Prop:=
 ∀(pins:Yf) (s:Yw) (σ:St) (H:Hp) (D:Ends),Inv X pins σ H s->t D σ H->wpAny (model X.prog X.w) X.A (exec st X.env) (SP X pins D) X.xe s
noncomputable def xB(X:Cx)(st:List Stmt)(t:TS):Prop:=
 ∀(pins:Yf) (s:Yw) (σ:St) (H:Hp) (D:Ends),Inv X pins σ H s->t D σ H->wpAny (model X.prog X.w) X.A (execs st X.env) (SP X pins D) X.xe s
theorem bW{α:Type}{t:Sem α}{Q Q':α->Yw->Prop}{M:Model}{A:Yv}{E:Ye}{s:Yw}(h:wpAny M A t Q E s)(hQ:∀a s,Q a s->Q' a s):wpAny M A t Q' E s:=VA h hQ λ_ _ x=>x
section
variable {X:Cx}
noncomputable def BR(i:Nat):TE:=λσ H Q=>∃v,σ[i]?=some (some v)/\Q v H
def tC(v:V):TE:=λ_ H Q=>Q v H
theorem yG{i:Nat}{x:Str}{pos:Pos}(hN:X.N[i]?=some x)(hv:Gq X.env.scope x)(hd:(x==("__debug__" : Str))=false:=by decide)(hcd:(x==("__classdict__" : Str))=false:=by decide):PE X (.Name x pos) (BR i):=by
 intro pins s σ H Q I h;obtain⟨v,e,h⟩:=h;obtain⟨m,hn,hl⟩:=I.loc;obtain⟨u,r,l⟩:=hl i x v hN e hv;have fin:EP X pins σ Q u s:=⟨v,H,I,r,h⟩;rcases l with⟨hk,hm⟩|⟨hk,c,hc,hcell⟩
 ·exact X6 (wpAny_loadName_local I.ok.kind hk hn hm fin) hd
 ·rcases hk with hk|hk
  ·exact X6 (wpAny_loadName_cell I.ok.kind hk hc hcell fin) hd
  ·exact X6 (wpAny_loadName_free I.ok.kind hk hc hcell fin hcd) hd
theorem BS{i j pos}:PE X (.Constant (.int i) j pos) (tC (.int i)):=λ_ _ _ H _ I h=>wpAny_Constant_int ⟨.int i,H,I.tok _,⟨_,rfl⟩,h⟩
theorem De{b j pos}:PE X (.Constant (.bool b) j pos) (tC (.bl b)):=λ_ _ _ H _ I h=>Constant_bool ⟨.bl b,H,I,rfl,h⟩
theorem Gv{j pos}:PE X (.Constant .none j pos) (tC .non):=λ_ _ _ H _ I h=>Constant_none ⟨.non,H,I,rfl,h⟩
theorem o9{x j pos}:PE X (.Constant (.str x) j pos) (tC (.str x)):=λ_ _ _ H _ I h=>Calls.Constant_str ⟨.str x,H,I.tok _,⟨_,rfl⟩,h⟩
noncomputable def Gl(X:Cx)(x:Str):Prop:=X.env.kindOf x=some .globalImplicit
theorem kz{E:Ye}{pins:Yf}{s:Yw}{σ:St}{H:Hp}{x:Str}{u:Value}{pos:Pos}{Q:Ye}(I:Inv X pins σ H s)(hg:Gl X x)(hm:X.mg x=some u)(h:Q u s)
 (hd:(x==("__debug__" : Str))=false:=by decide):wpAny (model X.prog X.w) X.A (eval (.Name x pos) X.env) Q E s:=
 Calls.Name_function_global I.ok.kind hg (Calls.loadGlobal_global (by rw[I.ok.glob];exact I.mod.glob.keeps I.bk) hm h) hd
theorem pb{E:Ye}{pins:Yf}{s:Yw}{σ:St}{H:Hp}{x:Str}{u:Value}{pos:Pos}{Q:Ye}(I:Inv X pins σ H s)(hg:Gl X x)(hm:X.mg x=none)(hv:bootBuiltins x=some u)(h:Q u s)
 (hn:x ≠ "__name__" := by decide)(hd:(x==("__debug__" : Str))=false:=by decide):wpAny (model X.prog X.w) X.A (eval (.Name x pos) X.env) Q E s:=by
 obtain⟨mb,h1,h2⟩:=I.mod.blt;exact Calls.Name_function_global I.ok.kind hg (Calls.loadGlobal_builtin (by rw[I.ok.glob];exact I.mod.glob.keeps I.bk) hm (by rw[I.ok.blt];exact h1.keeps I.bk) ((h2 x hn).trans hv) h) hd
theorem uk{x:Str}{v:V}{u:Value}{pos:Pos}(hg:Gl X x)(hm:X.mg x=some u)(r:RelV v u)(hd:(x==("__debug__" : Str))=false:=by decide):PE X (.Name x pos) (tC v):=
 λ_ _ _ H _ I h=>kz I hg hm ⟨v,H,I,r,h⟩ hd
theorem Dg{x:Str}{v:V}{u:Value}{pos:Pos}(hg:Gl X x)(hm:X.mg x=none)(hv:bootBuiltins x=some u)(r:RelV v u)(hn:x ≠ "__name__" := by decide)(hd:(x==("__debug__" : Str))=false:=by decide):PE X (.Name x pos) (tC v):=
 λ_ _ _ H _ I h=>pb I hg hm hv ⟨v,H,I,r,h⟩ hn hd
variable {a b:Expr} {ta tb:TE} {pos:Pos}
noncomputable def tB(t:TE):TT:=λσ H Q=>t σ H λx H1=>∃c,x=.bl c/\Q c H1
theorem MN{e:Expr}{t:TE}(h:PE X e t)(he:∀whole,isTrue e X.env whole=(do let v <- whole;standAt e.pos;holding [v] (truthy v)):=by intro _;rfl):PT X e (tB t):=by intro pins s σ H Q I hw;refine isTrue_plain (bW (h pins s σ H _ I hw) λv s1 ⟨x,H1,I1,r1,q1⟩=>?_) (he _);obtain⟨d,rfl,q⟩:=q1;cases r1;exact VB ⟨H1,I1,q⟩
variable {tA tB':TT} {rest:Yo}
noncomputable def PB(t u:TT):TT:=λσ H Q=>t σ H λc H1=>if c=true then u σ H1 Q else Q false H1
noncomputable def oM(t u:TT):TT:=λσ H Q=>t σ H λc H1=>if c=true then Q true H1 else u σ H1 Q
noncomputable def dH(t:TT):TT:=λσ H Q=>t σ H λc H1=>Q (!c) H1
theorem Gw(ha:PT X a tA):PW X (.BoolOp .Or [a] pos) tA:=by
 intro wh pins s σ H Q I h;refine isTrue_or (bW (ha pins s σ H Q I h) λc s1 e=>?_)
 cases c with
 |false=>exact isTrue_or_nil e
 |true=>exact e
theorem L0(ha:PT X a tA)(hb:PW X (.BoolOp .Or (b::rest) pos) tB'):PW X (.BoolOp .Or (a::b::rest) pos) (oM tA tB'):=by
 intro wh pins s σ H Q I h;refine isTrue_or (bW (ha pins s σ H _ I h) λc s1 ⟨H1,I1,q1⟩=>?_)
 cases c with
 |true=>exact⟨H1,I1,q1⟩
 |false=>exact hb wh pins s1 σ H1 Q I1 q1
theorem Gy(ha:PT X a tA):PT X (.UnaryOp .Not a pos) (dH tA):=by intro pins s σ H Q I h;exact isTrue_not (ha pins s σ H (λc H1=>Q (!c) H1) I h)
theorem MP{op}{t:TE}(h:PE X a t):PE X (.BoolOp op [a] pos) t:=λpins s σ H Q I hw=>BoolOp_one (h pins s σ H Q I hw)
noncomputable def Ti(t:TT)(ta tb:TE):TE:=λσ H Q=>t σ H λc H1=>if c=true then ta σ H1 Q else tb σ H1 Q
theorem Gz{c:Expr}(hc:PT X c tA)(ha:PE X a ta)(hb:PE X b tb):PE X (.IfExp c a b pos) (Ti tA ta tb):=by
 intro pins s σ H Q I h;refine wpAny_IfExp (bW (hc pins s σ H _ I h) λd s1 ⟨H1,I1,q1⟩=>?_)
 cases d with
 |true=>exact ha pins s1 σ H1 Q I1 q1
 |false=>exact hb pins s1 σ H1 Q I1 q1
end
noncomputable def i8(K:Ym)(H:Hp)(a:Addr)(xs:List V):Prop:=
 Rd H a (.lst xs) \/
  ∃(o:Obj) (its:Yr) (n:Nat),K.lookup a=some o/\o.cls=.type "list" /\ o.dict=none/\o.data=.seq its n/\its.size<=sizeLine/\Vals xs its.toList
noncomputable def gO(K:Ym)(H:Hp)(a:Addr)(xs:List V):Prop:=
 Rd H a (.tup xs) \/
  ∃(o:Obj) (its:Yr) (n:Nat),K.lookup a=some o/\o.cls=.type "tuple" /\ o.data=.seq its n/\its.size<=sizeLine/\Vals xs its.toList
noncomputable def RP:Value->Option V
 |.none=>some .non
 |.bool b=>some (.bl b)
 |.int i _=>some (.int i)
 |.str x _=>some (.str x)
 |.bytes b _=>some (.byt b)
 |.float b _=>some (.flt b)
 |.ref a=>some (.ref a)
 |.type n=>some (.ty n)
 |_=>none
theorem RelV.abs{x:V}{u:Value}(r:RelV x u):RP u=some x:=by
 cases x with
 |non=>cases r;rfl
 |bl _=>cases r;rfl
 |int _=>obtain⟨t,rfl⟩:=r;rfl
 |str _=>obtain⟨t,rfl⟩:=r;rfl
 |byt _=>obtain⟨t,rfl⟩:=r;rfl
 |flt _=>obtain⟨t,rfl⟩:=r;rfl
 |ref _=>cases r;rfl
 |ty _=>cases r;rfl
theorem RelV.inj{x y:V}{u:Value}(r:RelV x u)(q:RelV y u):x=y:=Vk (r.abs.symm.trans q.abs)
theorem Vals.inj:∀{xs ys:List V} {us:Yl},Vals xs us->Vals ys us->xs=ys
 |_,_,_,.nil,.nil=>rfl
 |_,_,_,.cons r t,.cons r' t'=>by rw[r.inj r',Vals.inj t t']
section
variable {X:Cx} {pins:Yf} {σ:St} {H:Hp} {s:Yw} {a:Addr} {xs ys:List V}
theorem i8.of{K:Ym}(h:H a=some (.lst xs)):i8 K H a xs:=.inl (.inl h)
theorem gO.of{K:Ym}(h:H a=some (.tup xs)):gO K H a xs:=.inl (.inl h)
theorem Inv.list(I:Inv X pins σ H s)(h:i8 X.K H a xs):∃its:Yl,Vals xs its/\PlainL s.heap a its.toArray/\xs.length<=sizeLine:=by
 rcases h with h|⟨o,its,n,hk,hc,hd,hs,hz,r⟩
 ·obtain⟨z,its,n,r,e⟩:=h.ok I.hok;exact⟨its,r,⟨_,n,e,rfl,rfl,rfl⟩,z⟩
 ·refine⟨its.toList,r,⟨o,n,I.qb a o hk,hc,hd,by simpa using hs⟩,?_⟩;have e:=r.length;simp only[Vo]at e;omega
theorem Inv.tuple(I:Inv X pins σ H s)(h:gO X.K H a xs):∃its:Yl,Vals xs its/\IsTup s.heap a its.toArray/\xs.length<=sizeLine:=by
 rcases h with h|⟨o,its,n,hk,hc,hs,hz,r⟩
 ·obtain⟨z,its,r,p⟩:=h.ok I.hok;exact⟨its,r,p,z⟩
 ·refine⟨its.toList,r,⟨o,I.qb a o hk,hc,n,by simpa using hs⟩,?_⟩;have e:=r.length;simp only[Vo]at e;omega
theorem Inv.GA(I:Inv X pins σ H s)(h:i8 X.K H a xs)(h':i8 X.K H a ys):xs=ys:=by
 obtain⟨its,r,⟨o,n,e,_,_,d⟩,_⟩:=I.list h;obtain⟨its',r',⟨o',n',e',_,_,d'⟩,_⟩:=I.list h';rw[e]at e';cases e';rw[d]at d';injection d' with d1 _;have:its=its':=by simpa using WH Array.toList d1
 subst this;exact r.inj r'
theorem Inv.rN(I:Inv X pins σ H s)(h:gO X.K H a xs)(h':gO X.K H a ys):xs=ys:=by
 obtain⟨its,r,⟨o,e,_,n,d⟩,_⟩:=I.tuple h;obtain⟨its',r',⟨o',e',_,n',d'⟩,_⟩:=I.tuple h';rw[e]at e';cases e';rw[d]at d';injection d' with d1 _;have:its=its':=by simpa using WH Array.toList d1
 subst this;exact r.inj r'
end
noncomputable abbrev Cx.qd(X:Cx)(E:Ye):Cx:={X with xe:=E}
abbrev Cx.Pa(X:Cx):Cx:=X.qd λ_ _=>False
theorem Cx.Ok.qd{X:Cx}(ok:X.Ok)(E:Ye):(X.qd E).Ok:=
 ⟨ok.mod,ok.kind,ok.glob,ok.blt,ok.above,ok.inj,ok.has,ok.cab,ok.hd,ok.frames,ok.stk,ok.exf,ok.bs,ok.bsz,ok.noex,ok.exfs,ok.ky,ok.frf⟩
theorem Cx.Ok.iB{X:Cx}{E:Ye}(ok:(X.qd E).Ok):X.Ok:=
 ⟨ok.mod,ok.kind,ok.glob,ok.blt,ok.above,ok.inj,ok.has,ok.cab,ok.hd,ok.frames,ok.stk,ok.exf,ok.bs,ok.bsz,ok.noex,ok.exfs,ok.ky,ok.frf⟩
section
variable {X:Cx} {pins:Yf} {σ:St} {H:Hp} {s:Yw} {E:Ye}
theorem Inv.qd(I:Inv X pins σ H s)(E:Ye):Inv (X.qd E) pins σ H s:=⟨I.ok.qd E,I.os,I.bare,I.base,I.loc,I.cell,I.free,I.freeC,I.pin,I.hok,I.len⟩
theorem Inv.iB(I:Inv (X.qd E) pins σ H s):Inv X pins σ H s:=⟨I.ok.iB,I.os,I.bare,I.base,I.loc,I.cell,I.free,I.freeC,I.pin,I.hok,I.len⟩
theorem SP.iB{D:Ends}{f:Flow}{s':Yw}(h:SP (X.qd E) pins D f s'):SP X pins D f s':=by
 cases f with
 |next=>obtain⟨σ',H',I,q⟩:=h;exact⟨σ',H',I.iB,q⟩
 |brk=>obtain⟨σ',H',I,q⟩:=h;exact⟨σ',H',I.iB,q⟩
 |cont=>obtain⟨σ',H',I,q⟩:=h;exact⟨σ',H',I.iB,q⟩
 |ret u=>obtain⟨v,σ',H',I,r,q⟩:=h;exact⟨v,σ',H',I.iB,r,q⟩
end
section
variable {X:Cx} {st:Stmt} {rest:List Stmt} {t u:TS} {e:Expr} {te:TE} {pos:Pos}
def PC:TS:=λD σ H=>D.nx σ H
noncomputable def PD(t u:TS):TS:=λD σ H=>t {D with nx:=u D} σ H
theorem Dh:xB X [] PC:=λ_ _ σ H _ I h=>WM ⟨σ,H,I,h⟩
theorem gG(h1:PS X st t)(h2:xB X rest u):xB X (st::rest) (PD t u):=by
 intro pins s σ H D I h;refine wpAny_execs_cons (bW (h1 pins s σ H {D with nx:=u D} I h) λf s1 q=>?_)
 cases f with
 |next=>obtain⟨σ',H',I',q⟩:=q;exact h2 pins s1 σ' H' D I' q
 |ret v=>exact q
 |brk=>exact q
 |cont=>exact q
theorem qe(h1:PS X st t):xB X [st] t:=by
 intro pins s σ H D I h;refine wpAny_execs_cons (bW (h1 pins s σ H D I h) λf s1 q=>?_)
 cases f with
 |next=>exact WM q
 |ret v=>exact q
 |brk=>exact q
 |cont=>exact q
theorem Inv.quiet{pins:Yf}{σ:St}{H:Hp}{s:Yw}(I:Inv X pins σ H s):interactive X.env=false:=by simp[interactive,I.ok.kind]
noncomputable def PF(te:TE):TS:=λD σ H=>te σ H λ_ H1=>D.nx σ H1
theorem JM(he:PE X e te)(hs:swapsWith e none pos.line X.env=pure false:=by rfl):PS X (.Expr e pos) (PF te):=by intro pins s σ H D I h;exact wpAny_Expr_any (bW (he pins s σ H _ I h) (by rintro v s1 ⟨x,H1,I1,r1,q1⟩;exact⟨σ,H1,I1,q1⟩)) I.quiet hs
def MQ(te:TE):TS:=λD σ H=>te σ H D.rt
theorem uH(he:PE X e te):PS X (.Return (some e) pos) (MQ te):=by intro pins s σ H D I h;exact wpAny_Return_some (bW (he pins s σ H _ I h) (by rintro v s1 ⟨x,H1,I1,r1,q1⟩;exact⟨x,σ,H1,I1,r1,q1⟩))
noncomputable def RQ(c:TT)(t u:TS):TS:=λD σ H=>c σ H λb H1=>if b=true then t D σ H1 else u D σ H1
theorem L3{c:Expr}{a b:List Stmt}{tc:TT}(hc:PT X c tc)(ha:xB X a t)(hb:xB X b u):PS X (.If c a b pos) (RQ tc t u):=by
 intro pins s σ H D I h;refine wpAny_If (bW (hc pins s σ H _ I h) λd s1 ⟨H1,I1,q1⟩=>?_)
 cases d with
 |true=>exact ha pins s1 σ H1 D I1 q1
 |false=>exact hb pins s1 σ H1 D I1 q1
end
noncomputable abbrev TG:=V->St->Hp->(St->Hp->Prop)->Prop
noncomputable abbrev L4:=List V->St->Hp->(St->Hp->Prop)->Prop
noncomputable def PG(X:Cx)(target:Expr)(t:TG):Prop:=
 ∀(pins:Yf) (s:Yw) (σ:St) (H:Hp) (v:V) (u:Value) (Q:St->Hp->Prop),Inv X pins σ H s->RelV v u->t v σ H Q ->
  wpAny (model X.prog X.w) X.A (assign target X.env u) (λ_ s'=>∃σ' H',Inv X pins σ' H' s'/\Q σ' H') X.xe s
noncomputable def Pb(X:Cx)(ts:Yo)(t:L4):Prop:=
 ∀(pins:Yf) (s:Yw) (σ:St) (H:Hp) (vs:List V) (us:Yl) (Q:St->Hp->Prop),Inv X pins σ H s->Vals vs us->t vs σ H Q ->
  wpAny (model X.prog X.w) X.A (assignInOrder ((assignEach ts X.env).map (·.2)) us) (λ_ s'=>∃σ' H',Inv X pins σ' H' s'/\Q σ' H') X.xe s
abbrev MR:=V->V->V->Hp->(Hp->Prop)->Prop
noncomputable def MU(X:Cx)(t:MR):Prop:=
 ∀(pins:Yf) (s:Yw) (σ:St) (H:Hp) (o i v:V) (ov iv u:Value) (Q:Hp->Prop),Inv X pins σ H s->RelV o ov->RelV i iv->RelV v u->t o i v H Q ->
  wpAny (model X.prog X.w) X.A (setItem ov iv u) (λ_ s'=>∃H',Inv X pins σ H' s'/\Q H') X.xe s
section
variable {X:Cx} {pos:Pos}
noncomputable def aB(i:Nat):TG:=λv σ H Q=>Q (σ.set i (some v)) H
theorem JN{i:Nat}{x:Str}(hN:X.N.Nodup)(hi:X.N[i]?=some x)(hx:Loc X.env.scope x)(hf:X.fn x=true\/X.env.scope.names.lookup x=some .local:=by first|exact .inl rfl|exact .inr rfl|assumption):PG X (.Name x pos) (aB i):=by intro pins s σ H v u Q I r h;exact wpAny_assign_Name (jR I hN hi hx r (λs' I'=>⟨_,H,I',h⟩) hf)
def gP:L4:=λvs σ H Q=>vs=[]/\Q σ H
noncomputable def bF(t:TG)(u:L4):L4:=λvs σ H Q=>∃v r,vs=v::r/\t v σ H λσ' H'=>u r σ' H' Q
theorem JO:Pb X [] gP:=by intro pins s σ H vs us Q I r h;obtain⟨e,h⟩:=h;subst e;cases r;exact assignInOrder_nil ⟨σ,H,I,h⟩
theorem GB{e:Expr}{es:Yo}{t:TG}{u:L4}(h1:PG X e t)(h2:Pb X es u)
 (hs:(assignEach (e::es) X.env).map (·.2)=assign e X.env::(assignEach es X.env).map (·.2):=by rfl):Pb X (e::es) (bF t u):=by
 intro pins s σ H vs us Q I r h;obtain⟨v,vr,e1,h⟩:=h;subst e1
 cases r with
 |cons r rr=>rw[hs];refine Xg (bW (h1 pins s σ H _ _ _ I r h) λ_ s1 ⟨σ1,H1,I1,q1⟩=>?_);exact h2 pins s1 σ1 H1 _ _ Q I1 rr q1
noncomputable def gQ(K:Ym)(n:Nat)(t:L4):TG:=λv σ H Q=>∃a xs,v=.ref a/\gO K H a xs/\xs.length=n/\t xs σ H Q
theorem MV{es:Yo}{k:Nat}{t:L4}{n:Nat}(hc:X.calm=true)(h:Pb X es t)
 (hn:(assignEach es X.env).length=n:=by rfl)(hst:(assignEach es X.env).findIdx? (·.1)=none:=by rfl):PG X (.Tuple es k pos) (gQ X.K n t):=by
 intro pins s σ H v u Q I r hw;obtain⟨a,xs,e1,hq,hl,hw⟩:=hw;subst e1;cases r;obtain⟨its,rv,ht,hz⟩:=I.tuple hq;refine assign_Tuple_tuple (I.ok.hd hc) ht (by simp[hn,<- hl,rv.length]) hst λh' hx=>?_;have I1:Inv X pins σ H {s with heap:=h'}:=I.kept (t':=s.toks) λb o e=>hx b o (UN (Uz e)) e;exact h pins _ σ H xs _ Q I1 (by simpa using rv) hw
noncomputable def Ai(to ti:TE)(t:MR):TG:=λv σ H Q=>to σ H λo H1=>ti σ H1 λi H2=>t o i v H2 λH3=>Q σ H3
theorem MW{o i:Expr}{to ti:TE}{t:MR}(ho:PE X o to)(hi:PE X i ti)(hs:MU X t)
 (ha:∀v,assign (.Subscript o i pos) X.env v=(do
   let ov <- holding [v] (eval o X.env)
   let iv <- holding [v,ov] (eval i X.env)
   standAt pos
   holding [v,ov,iv] (setItem ov iv v)
   release [v,ov,iv] []):=by intro _;rfl):PG X (.Subscript o i pos) (Ai to ti t):=by
 intro pins s σ H v u Q I r h;rw[ha];refine Uu (Va (bW (ho pins s σ H _ I h) λov s1 ⟨x,H1,I1,r1,q1⟩=>?_));refine Uu (Va (bW (hi pins s1 σ H1 _ I1 q1) λiv s2 ⟨y,H2,I2,r2,q2⟩=>?_));refine Uu (Xh (Uu (Va (bW (hs pins s2 σ H2 x y v ov iv u _ I2 r1 r2 r q2) λ_ s3 ⟨H3,I3,q3⟩=>?_))));exact wpAny_release ⟨σ,H3,I3,q3⟩
noncomputable def BU(te:TE)(g:TG):TS:=λD σ H=>te σ H λx H1=>g x σ H1 D.nx
theorem MX{tg e:Expr}{te:TE}{g:TG}(he:PE X e te)(hg:PG X tg g)(hs:swapsWithSole [tg] e pos.line X.env=pure false:=by rfl)(hw:swappedStores [tg] e X.env=pure none:=by rfl)
 (h1:(assignEach [tg] X.env).map (·.2)=[assign tg X.env]:=by rfl):PS X (.Assign [tg] e pos) (BU te g):=by
 intro pins s σ H D I h;refine wpAny_Assign_stores (bW (he pins s σ H _ I h) λv s1 ⟨x,H1,I1,r1,q1⟩=>?_) hs hw;rw[h1];exact bW (hg pins s1 σ H1 x v _ I1 r1 q1) λ_ s2 q=>q
theorem pe{i:Nat}{x:Str}{e:Expr}{te:TE}{pos':Pos}(hN:X.N.Nodup)(hi:X.N[i]?=some x)(hx:Loc X.env.scope x)(he:PE X e te)(hs:swapsWith e (some (.Name x pos')) pos.line X.env=pure false:=by rfl)(hf:X.fn x=true\/X.env.scope.names.lookup x=some .local:=by first|exact .inl rfl|exact .inr rfl|assumption) :
  PS X (.Assign [.Name x pos'] e pos) (BU te (aB i)):=by
 intro pins s σ H D I h;refine wpAny_Assign_Name (bW (he pins s σ H _ I h) λv s1 ⟨y,H1,I1,r1,q1⟩=>?_) hs;exact jR I1 hN hi hx r1 (λs2 I2=>⟨_,H1,I2,q1⟩) hf
end
structure It where
 go:Nat->Hp->Prop
 yld:Nat->Hp->V->Hp->Prop
 stop:Nat->Hp->Prop
noncomputable def lN(X:Cx)(pins:Yf)(H:Hp)(b:Addr):Prop:=
 H b=none/\b≠X.env.locals/\b∉X.fs/\(b∈X.ex\/X.s₀.heap.objs.size<=b)/\(∀x c,X.env.cells.lookup x=some c->c≠b)/\∀p∈X.pn++pins,p.1≠b
theorem Inv.EW{X:Cx}{pins:Yf}{σ:St}{H H':Hp}{s:Yw}{b:Addr}(I:Inv X pins σ H s)(hb:s.heap.objs.size<=b)(hn:H' b=none):lN X pins H' b:=by
 refine⟨hn,WN (UE I.lt hb),I.Gu hb,.inr (UI I.sz hb),λx c e z=>?_,λp hp z=>?_⟩
 ·obtain⟨v,q⟩:=I.cell x c e;exact absurd (UE q.lt (by rw[z];exact hb)) (UT _)
 ·exact absurd (UE (Uz (I.pin p hp).1) (by rw[z];exact hb)) (UT _)
structure Turn(P:Yt)(w:World)(K:Ym)(tg:Expr)(J:It)(fp:Yk)(it:Addr)(tn:Nat->Heap->Prop):Prop where
 mem:it∈fp
 obj:∀i h,tn i h->∀b∈fp,∃o,h.get? b=some o/\∀v,o.data≠.cell v
 keep:∀i h h',tn i h->(∀b∈fp,∀o,h.get? b=some o->h'.get? b=some o)->tn i h'
 item:∀(X:Cx),X.prog=P->X.w=w->X.K=K->X.calm=true->∀(i:Nat) (pins:Yf) (s:Yw) (σ:St) (H:Hp) (E:Ye),Inv X pins σ H s->(∀b∈fp,lN X pins H b)->tn i s.heap->J.go i H ->
  wpAny (model P w) X.A (pyNext (.ref it)) (λr s1=>∃u,r=some u /\
   wpAny (model P w) X.A (letOwnedTupleGo tg (.ref it) u) (λ_ s2=>∃x H',Inv X pins σ H' s2/\RelV x u/\J.yld i H x H'/\tn (i+1) s2.heap/\∀b∈fp,H' b=none) E s1) E s
 done:∀(X:Cx),X.prog=P->X.w=w->X.K=K->X.calm=true->∀(i:Nat) (pins:Yf) (s:Yw) (σ:St) (H:Hp) (E:Ye),Inv X pins σ H s->(∀b∈fp,lN X pins H b)->tn i s.heap->J.stop i H ->
  wpAny (model P w) X.A (pyNext (.ref it)) (λr s1=>r=none/\Inv X pins σ H s1) E s
 self:∀(A:Yv) (i:Nat) (s:Yw) (Q:Ye) (E:Ye),tn i s.heap->Q (.ref it) s->wpAny (model P w) A (pyIter (.ref it)) Q E s
abbrev TI:=St->Hp->(It->Hp->Prop)->Prop
noncomputable def Tj(X:Cx)(pins:Yf)(σ:St)(tg:Expr)(R:It->Hp->Prop)(itv:Value)(s2:Yw):Prop:=
 ∃(it:Addr) (fp:Yk) (tn:Nat->Heap->Prop) (J:It) (H':Hp),itv=.ref it/\Inv X pins σ H' s2/\Turn X.prog X.w X.K tg J fp it tn/\tn 0 s2.heap/\(∀b∈fp,lN X pins H' b)/\R J H'
noncomputable def PI(X:Cx)(tg iter:Expr)(wi:TI):Prop:=
 ∀(pins:Yf) (s:Yw) (σ:St) (H:Hp) (R:It->Hp->Prop),Inv X pins σ H s->wi σ H R ->
  wpAny (model X.prog X.w) X.A (eval iter X.env) (λv s1=>wpAny (model X.prog X.w) X.A (pyIter v) (Tj X pins σ tg R) X.xe s1) X.xe s
theorem Di{M:Model}{A:Yv}{E:Ye}{s:Yw}{tg:Expr}{it:Addr}{u:Value}{o:Obj}{n:String}{vs:Yr}{Q:Unit->Yw->Prop}(ho:s.heap.get? it=some o)(hc:o.cls=.type n)(hd:o.data=.fields vs)
 (hn:["enumerate", "zip", "dict_itemiterator", "dict_reverseitemiterator", "odict_iterator", "itertools.zip_longest", "itertools.pairwise"].contains n=false)(hQ:Q () s):wpAny M A (letOwnedTupleGo tg (.ref it) u) Q E s:=by
 unfold letOwnedTupleGo
 cases tg<;>first
  |exact Uw hQ
  | (cases u<;>first
    |exact Uw hQ
    | (refine Uu (Xs ho ?_)
       rw[hc,hd];show wpAny M A (if(["enumerate", "zip", "dict_itemiterator", "dict_reverseitemiterator", "odict_iterator", "itertools.zip_longest", "itertools.pairwise"].contains n&&vs[0]? == some (rawInt _))=true then _ else _) Q E s;rw[if_neg (by intro h;rw[hn,Xy]at h;cases h)]
       exact Uw hQ))
noncomputable def RS(K:Ym)(a:Addr):It:=
 ⟨λi H=>∃xs x,i8 K H a xs/\xs[i]?=some x,λi H x H'=>H'=H/\∀xs,i8 K H a xs->xs[i]?=some x,λi H=>∃xs,i8 K H a xs/\xs.length<=i⟩
noncomputable def Q8(K:Ym)(a:Addr):It:=
 ⟨λi H=>∃xs x,gO K H a xs/\xs[i]?=some x,λi H x H'=>H'=H/\∀xs,gO K H a xs->xs[i]?=some x,λi H=>∃xs,gO K H a xs/\xs.length<=i⟩
noncomputable def Q9(lo:Int)(n:Nat):It:=⟨λi _=>i<n,λi H x H'=>H'=H/\x=.int (lo+i),λi _=>n<=i⟩
theorem EX{P:Yt}{w:World}{K:Ym}{tg:Expr}(a it:Addr):Turn P w K tg (RS K a) [it] it (λi h=>h.IsListIter it a i) where
 mem:=by simp
 obj:=λi h st b hb=>by
  have e:b=it:=by simpa using hb
  subst e;obtain⟨o,e,c,d⟩:=st;exact⟨o,e,λv z=>by rw[d]at z;cases z⟩
 keep:=λi h h' st k=>st.at λo e=>k it (by simp) o e
 item:=by intro X hP hw hK hc i pins s σ H E I hf st hg;subst hP hw hK;obtain⟨xs,x,hq,hx⟩:=hg;obtain⟨its,rv,p,hz⟩:=I.list hq;obtain⟨u,hu,ru⟩:=rv.get hx;obtain⟨f0,f1,f2,f3,f4,f5⟩:=hf it (by simp);refine wpAny_pyNext_list_item st p.isList (x:=u) (by simpa using hu) λh' st' sb=>?_;have I1:Inv X pins σ H {s with heap:=h'}:=I.turned (t':=s.toks) (λb o hb e=>(sb.2 b hb).trans e) f0 f1 f3 f4 f5;obtain⟨o,e,c,d⟩:=id st';exact⟨u,rfl,Di (s:={s with heap:=h'}) e c d (by decide) ⟨x,H,I1,ru,⟨rfl,λys hy=>by rw[I.GA hy hq];exact hx⟩,st',λb hb=>(hf b hb).1⟩⟩
 done:=by intro X hP hw hK hc i pins s σ H E I hf st hg;subst hP hw hK;obtain⟨xs,hq,hx⟩:=hg;obtain⟨its,rv,p,hz⟩:=I.list hq;obtain⟨f0,f1,f2,f3,f4,f5⟩:=hf it (by simp);have hl:=rv.length;exact wpAny_pyNext_list_end (I.ok.hd hc) st p.isList (by simp;omega) λh' eb=>⟨rfl,I.turned (t':=s.toks) (λb o hb e=>eb b o hb e) f0 f1 f3 f4 f5⟩
 self:=λ_ _ _ _ _ st h=>wpAny_pyIter_listiter st h
theorem BV{P:Yt}{w:World}{K:Ym}{tg:Expr}(a it:Addr):Turn P w K tg (Q8 K a) [it] it (λi h=>h.IsTupleIter it a i) where
 mem:=by simp
 obj:=λi h st b hb=>by
  have e:b=it:=by simpa using hb
  subst e;obtain⟨o,e,c,d⟩:=st;exact⟨o,e,λv z=>by rw[d]at z;cases z⟩
 keep:=λi h h' st k=>st.at λo e=>k it (by simp) o e
 item:=by intro X hP hw hK hc i pins s σ H E I hf st hg;subst hP hw hK;obtain⟨xs,x,hq,hx⟩:=hg;obtain⟨its,rv,p,hz⟩:=I.tuple hq;obtain⟨u,hu,ru⟩:=rv.get hx;obtain⟨f0,f1,f2,f3,f4,f5⟩:=hf it (by simp);refine wpAny_pyNext_tuple_item st (show s.heap.IsTuple a its.toArray from p) (x:=u) (by simpa using hu) λh' st' sb=>?_;have I1:Inv X pins σ H {s with heap:=h'}:=I.turned (t':=s.toks) (λb o hb e=>(sb.2 b hb).trans e) f0 f1 f3 f4 f5;obtain⟨o,e,c,d⟩:=id st';exact⟨u,rfl,Di (s:={s with heap:=h'}) e c d (by decide) ⟨x,H,I1,ru,⟨rfl,λys hy=>by rw[I.rN hy hq];exact hx⟩,st',λb hb=>(hf b hb).1⟩⟩
 done:=by intro X hP hw hK hc i pins s σ H E I hf st hg;subst hP hw hK;obtain⟨xs,hq,hx⟩:=hg;obtain⟨its,rv,p,hz⟩:=I.tuple hq;obtain⟨f0,f1,f2,f3,f4,f5⟩:=hf it (by simp);have hl:=rv.length;exact wpAny_pyNext_tuple_end (I.ok.hd hc) st (show s.heap.IsTuple a its.toArray from p) (by simp;omega) λh' eb=>⟨rfl,I.turned (t':=s.toks) (λb o hb e=>eb b o hb e) f0 f1 f3 f4 f5⟩
 self:=λ_ _ _ _ _ st h=>wpAny_pyIter_tupleiter st h
theorem BW{P:Yt}{w:World}{K:Ym}{tg:Expr}(it:Addr)(lo:Int)(n:Nat):Turn P w K tg (Q9 lo n) [it] it (λi h=>IsRangeIter h it (lo+(i:Nat)*1) ((n:Int)-(i:Nat)) 1) where
 mem:=by simp
 obj:=λi h st b hb=>by
  have e:b=it:=by simpa using hb
  subst e
  exact⟨_,st,λv z=>by
   have z':Data.fields _=Data.cell v:=z
   cases z'⟩
 keep:=λi h h' st k=>k it (by simp) _ st
 item:=by intro X hP hw hK hc i pins s σ H E I hf st hg;subst hP hw hK;obtain⟨f0,f1,f2,f3,f4,f5⟩:=hf it (by simp);have W:=Walks.range (prog:=X.prog) (w:=X.w) (I.ok.hd hc) it lo 1 n;refine W.item i s _ _ hg st λv h' tk hv st' kk=>?_;obtain⟨t,rfl⟩:=hv;have I1:Inv X pins σ H {s with heap:=h',toks:=tk}:=I.turned (λb o hb e=>kk b o (by simpa using hb) e) f0 f1 f3 f4 f5;refine⟨_,rfl,Di (s:={s with heap:=h',toks:=tk}) (n := "range_iterator") st' rfl rfl (by decide) ⟨.int (lo+i),H,I1,⟨t,?_⟩,⟨rfl,rfl⟩,st',λb hb=>(hf b hb).1⟩⟩;rw[Int.mul_one]
 done:=by intro X hP hw hK hc i pins s σ H E I hf st hg;subst hP hw hK;obtain⟨f0,f1,f2,f3,f4,f5⟩:=hf it (by simp);exact wpAny_pyNext_range_end (I.ok.hd hc) st (by have:n<=i:=hg;omega) λh' eb=>⟨rfl,I.turned (t':=s.toks) (λb o hb e=>eb b o hb e) f0 f1 f3 f4 f5⟩
 self:=λ_ _ _ _ _ st h=>wpAny_pyIter_rangeiter st h
section
variable {X:Cx} {tg:Expr}
noncomputable def PH(K:Ym)(tl:TE):TI:=λσ H R=>tl σ H λx H1=>∃a,x=.ref a/\(∃xs,i8 K H1 a xs)/\R (RS K a) H1
noncomputable def RT(K:Ym)(tl:TE):TI:=λσ H R=>tl σ H λx H1=>∃a,x=.ref a/\(∃xs,gO K H1 a xs)/\R (Q8 K a) H1
theorem JP{l:Expr}{tl:TE}(hl:PE X l tl):PI X tg l (PH X.K tl):=by
 intro pins s σ H R I h;refine bW (hl pins s σ H _ I h) λv s1 ⟨x,H1,I1,r1,q1⟩=>?_;obtain⟨a,e,⟨xs,hq⟩,q⟩:=q1;subst e;cases r1;obtain⟨its,rv,p,hz⟩:=I1.list hq;refine wpAny_pyIter_list p.isList ?_;refine⟨s1.heap.objs.size,[s1.heap.objs.size],_,_,H1,rfl,I1.kept (t':=s1.toks) λb o e=>Uv _ e,EX a _,⟨_,UA _ rfl,rfl,rfl⟩,λb hb=>?_,q⟩;have e:b=s1.heap.objs.size:=by simpa using hb
 subst e;exact I1.EW (Uy _) (I1.hok.fresh (Uy _))
theorem GC{l:Expr}{tl:TE}(hl:PE X l tl):PI X tg l (RT X.K tl):=by
 intro pins s σ H R I h;refine bW (hl pins s σ H _ I h) λv s1 ⟨x,H1,I1,r1,q1⟩=>?_;obtain⟨a,e,⟨xs,hq⟩,q⟩:=q1;subst e;cases r1;obtain⟨its,rv,p,hz⟩:=I1.tuple hq;refine Xi (show s1.heap.IsTuple a its.toArray from p) ?_;refine⟨s1.heap.objs.size,[s1.heap.objs.size],_,_,H1,rfl,I1.kept (t':=s1.toks) λb o e=>Uv _ e,BV a _,⟨_,UA _ rfl,rfl,rfl⟩,λb hb=>?_,q⟩;have e:b=s1.heap.objs.size:=by simpa using hb
 subst e;exact I1.EW (Uy _) (I1.hok.fresh (Uy _))
theorem GD{pins:Yf}{σ:St}{H:Hp}{s:Yw}{R:It->Hp->Prop}{E:Ye}{lo hi:Int}{t u v:Tok}{tk:Nat}(I:Inv X pins σ H s)(h1:-(2^62)<=lo)(h2:lo<2^62)(h3:-(2^62)<=hi)(h4:hi<2^62)
 (q:R (Q9 lo (hi-lo).toNat) H):wpAny (model X.prog X.w) X.A (pyIter (.ref s.heap.objs.size)) (Tj X pins σ tg R) E {s with heap:=s.heap.push {cls:=.type "range",data:=.fields #[.int lo t,.int hi u,.int 1 v]},toks:=tk}:=by
 refine wpAny_pyIter_range (IsRange.new ..) (small_one h1 h2 h3 h4) ?_;have I1:Inv X pins σ H {s with heap:=s.heap.push {cls:=.type "range",data:=.fields #[.int lo t,.int hi u,.int 1 v]},toks:=tk}:=I.kept λb o e=>Uv _ e
 refine⟨(s.heap.push {cls:=.type "range",data:=.fields #[.int lo t,.int hi u,.int 1 v]}).objs.size,[(s.heap.push {cls:=.type "range",data:=.fields #[.int lo t,.int hi u,.int 1 v]}).objs.size],_,_,H,rfl,
  I1.kept (t':=tk) λb o e=>Uv _ e,BW _ lo (hi-lo).toNat,?_,λb hb=>?_,q⟩
 ·have e1:lo+((0:Nat):Int)*1=lo:=by simp
  have e2:(((hi-lo).toNat:Nat):Int)-((0:Nat):Int)=Builtin.Range.rangeSize lo hi 1:=by rw[rangeSize_one];split<;>omega
  show IsRangeIter _ _ (lo+((0:Nat):Int)*1) ((((hi-lo).toNat:Nat):Int)-((0:Nat):Int)) 1;rw[e1,e2];exact UA _ rfl
 ·have e:b=(s.heap.push {cls:=.type "range",data:=.fields #[.int lo t,.int hi u,.int 1 v]}).objs.size:=by simpa using hb
  subst e;exact I1.EW (Uy _) (I1.hok.fresh (Uy _))
noncomputable def PJ(ta:TA):TI:=λσ H R=>ta σ H λvs H1=>∃j:Int,vs=[.int j]/\-(2^62)<=j/\j<2^62/\R (Q9 0 j.toNat) H1
theorem EY{a:Expr}{ta:TA}{p pos:Pos}(hg:Gl X "range")(hm:X.mg "range" = none)(ha:PA X [a] ta)(hs:starEach [a] X.env=[(false,eval a X.env)]:=by rfl):PI X tg (.Call (.Name "range" p) [a] [] pos) (PJ ta):=by
 intro pins s σ H R I h;refine Call_ (pb I hg hm boot_range (V1 (bW (ha pos pins s σ H _ I h) λus s1 ⟨vs,H1,I1,r1,q1⟩=>?_) hs rfl));obtain⟨j,e,q1,q2,q⟩:=q1;subst e
 cases r1 with
 |cons r rr=>cases rr;obtain⟨t,rfl⟩:=r;exact call_range_1 (GD I1 (by omega) (by omega) q1 q2 (by simpa using q))
noncomputable def RU(wi:TI)(g:TG)(tb:TS):TS:=λD σ H=>wi σ H λJ H1=>∃W:Nat->Nat->St->Hp->Prop,(∃m,W 0 m σ H1)/\∀i m σ H,W i m σ H ->
 (J.stop i H/\D.nx σ H)\/(J.go i H/\∃N:St->Hp->Prop,(∀σ' H',N σ' H'->∃m',m'<m/\W (i+1) m' σ' H')/\∀x H',J.yld i H x H'->g x σ H' λσ2 H2=>tb {D with nx:=N,ct:=N,bk:=D.nx} σ2 H2)
noncomputable def fE(fp:Yk)(h:Heap):Yf:=fp.filterMap λb=>(h.get? b).map λo=>(b,o)
theorem cF{fp:Yk}{h:Heap}{b:Addr}{o:Obj}(hb:b∈fp)(e:h.get? b=some o):(b,o)∈fE fp h:=V9.mpr ⟨b,hb,by rw[e];rfl⟩
theorem jS{fp:Yk}{h:Heap}{p:Addr×Obj}(hp:p∈fE fp h):p.1∈fp/\h.get? p.1=some p.2:=by
 obtain⟨b,hb,e⟩:=V9.mp hp
 cases q:h.get? b with
 |none=>rw[q]at e;cases e
 |some o=>rw[q]at e;have e':(b,o)=p:=Vk e;subst e';exact⟨hb,q⟩
theorem Inv.pinned{pins:Yf}{σ:St}{H:Hp}{s:Yw}{fp:Yk}(I:Inv X pins σ H s)(hf:∀b∈fp,lN X pins H b)(ho:∀b∈fp,∃o,s.heap.get? b=some o/\∀v,o.data≠.cell v):Inv X (pins++fE fp s.heap) σ H s:=
 I.qc λp hp=>(UQ.mp hp).elim (λz=>I.pin p (UJ _ z)) λz=>by obtain⟨hb,e⟩:=jS z;obtain⟨f0,f1,f2,_⟩:=hf p.1 hb;obtain⟨o,e',d⟩:=ho p.1 hb;rw[e]at e';cases e';exact⟨e,f0,f1,f2,d⟩
theorem Inv.qf{pins pl:Yf}{σ:St}{H:Hp}{s:Yw}(I:Inv X (pins++pl) σ H s):Inv X pins σ H s:=I.qc λp hp=>I.pin p (UJ _ (VF _ hp))
theorem MY{iter:Expr}{body:List Stmt}{wi:TI}{g:TG}{tb:TS}{pos:Pos}(hp:PassesOwn (model X.prog X.w) X.A X.env X.xe)(hc:X.calm=true)(hi:PI X tg iter wi)(hg:PG X tg g)(hb:xB X body tb)
 (hs:∀x,foldedSetIterable iter X.env x=pure x:=by intro _;rfl):PS X (.For tg iter body [] pos) (RU wi g tb):=by
 intro pins s σ H D I h;refine wpAny_For (bW (hi pins s σ H _ I h) λv s1 h1=>bW h1 λitv s2 h2=>?_) hs;obtain⟨it,fp,tn,J,H2,e,I2,T,st2,f2,W,⟨m0,w0⟩,turn⟩:=h2;subst e;have stat:∀{H':Hp},(∀b∈fp,H' b=none)->∀b∈fp,lN X pins H' b:=λhn b hb=>⟨hn b hb,(f2 b hb).2⟩;refine codeAny_forLoop_any (λn s'=>∃i σ' H',Inv X pins σ' H' s'/\tn i s'.heap/\(∀b∈fp,H' b=none)/\W i n σ' H') ?_ m0 ⟨0,σ,H2,I2,st2,λb hb=>(f2 b hb).1,w0⟩;rintro n s3 ⟨i,σ3,H3,I3,st3,fr3,w3⟩;rcases turn i n σ3 H3 w3 with⟨stop,qn⟩|⟨go,N,hN,step⟩
 ·refine Xj hp (bW (T.done X rfl rfl rfl hc i pins s3 σ3 H3 X.xe I3 (stat fr3) st3 stop) λr s4 ⟨hr,I4⟩=>?_);subst hr;exact WM ⟨σ3,H3,I4,qn⟩
 ·refine Xj hp (bW (T.item X rfl rfl rfl hc i pins s3 σ3 H3 X.xe I3 (stat fr3) st3 go) λr s4 ⟨u,hr,h4⟩=>?_);subst hr;refine Xj hp (bW h4 λ_ s5 ⟨x,H5,I5,r5,y5,st5,fr5⟩=>?_);have I5':=I5.pinned (stat fr5) (T.obj _ _ st5);refine Xj hp (bW (hg _ s5 σ3 H5 x u _ I5' r5 (step x H5 y5)) λ_ s6 ⟨σ6,H6,I6,q6⟩=>?_);refine Xj hp (bW (hb _ s6 σ6 H6 _ I6 q6) λf s7 q7=>?_);have again:∀{σ7:St} {H7:Hp},Inv X (pins++fE fp s5.heap) σ7 H7 s7->N σ7 H7->∃m,m<n/\∃i σ' H',Inv X pins σ' H' s7/\tn i s7.heap/\(∀b∈fp,H' b=none)/\W i m σ' H':=λ{σ7 H7} I7 n7=>by obtain⟨m',hm,w7⟩:=hN σ7 H7 n7;refine⟨m',hm,i+1,σ7,H7,I7.qf,T.keep _ _ _ st5 λb hb o e=>(I7.pin (b,o) (UJ _ (UJ _ (cF hb e)))).1,λb hb=>?_,w7⟩;obtain⟨o,e,d⟩:=T.obj _ _ st5 b hb;exact(I7.pin (b,o) (UJ _ (UJ _ (cF hb e)))).2.1
  cases f with
  |next=>obtain⟨σ7,H7,I7,n7⟩:=q7;exact again I7 n7
  |cont=>obtain⟨σ7,H7,I7,n7⟩:=q7;exact again I7 n7
  |brk=>obtain⟨σ7,H7,I7,q7⟩:=q7;exact⟨σ7,H7,I7.qf,q7⟩
  |ret v=>obtain⟨x7,σ7,H7,I7,r7,q7⟩:=q7;exact⟨x7,σ7,H7,I7.qf,r7,q7⟩
end
abbrev R2:=V->V->Hp->VK->Prop
noncomputable def i6(X:Cx)(f:Value->Value->Sem Value)(r:R2):Prop:=
 ∀(pins:Yf) (s:Yw) (σ:St) (H:Hp) (x y:V) (v u:Value) (Q:VK),Inv X pins σ H s->RelV x v->RelV y u->r x y H Q ->
  wpAny (model X.prog X.w) X.A (f v u) (EP X pins σ Q) X.xe s
noncomputable def RV(X:Cx)(f:Value->Sem Value)(r:V->Hp->VK->Prop):Prop:=
 ∀(pins:Yf) (s:Yw) (σ:St) (H:Hp) (x:V) (v:Value) (Q:VK),Inv X pins σ H s->RelV x v->r x H Q ->
  wpAny (model X.prog X.w) X.A (f v) (EP X pins σ Q) X.xe s
noncomputable def dC(X:Cx)(f:Value)(r:List V->Hp->VK->Prop):Prop:=
 ∀(pins:Yf) (s:Yw) (σ:St) (H:Hp) (xs:List V) (us:Yl) (Q:VK),Inv X pins σ H s->Vals xs us->r xs H Q ->
  wpAny (model X.prog X.w) X.A (call f us) (EP X pins σ Q) X.xe s
noncomputable def MZ(X:Cx)(r:V->Hp->(Bool->Hp->Prop)->Prop):Prop:=
 ∀(pins:Yf) (s:Yw) (σ:St) (H:Hp) (x:V) (v:Value) (Q:Bool->Hp->Prop),Inv X pins σ H s->RelV x v->r x H Q ->
  wpAny (model X.prog X.w) X.A (truthy v) (TP X pins σ Q) X.xe s
noncomputable def Pd(r:R2)(ta tb:TE):TE:=λσ H Q=>ta σ H λx H1=>tb σ H1 λy H2=>r x y H2 Q
noncomputable def T4(r:V->Hp->VK->Prop)(ta:TE):TE:=λσ H Q=>ta σ H λx H1=>r x H1 Q
noncomputable def rI(C:Int->Int->Prop)(g:Int->Int->V):R2:=λx y H Q=>∃i j,x=.int i/\y=.int j/\C i j/\Q (g i j) H
noncomputable def L5(g:Int->Int->V):R2:=λx y H Q=>∃i j,x=.int i/\y=.int j/\Q (g i j) H
noncomputable def rU(g:Int->V):V->Hp->VK->Prop:=λx H Q=>∃i,x=.int i/\Q (g i) H
section
variable {X:Cx} {a b c:Expr} {ta tb tc:TE} {pos:Pos}
theorem M0(ha:PE X a ta)(hb:PE X b tb){pins:Yf}{s:Yw}{σ:St}{H:Hp}{R:V->V->Hp->Prop}(I:Inv X pins σ H s)
 (h:ta σ H λx H1=>tb σ H1 λy H2=>R x y H2){Q:Ye}{f:Value->Value->Sem Value}
 (hf:∀v u s2 x y H2,Inv X pins σ H2 s2->RelV x v->RelV y u->R x y H2->wpAny (model X.prog X.w) X.A (f v u) Q X.xe s2) :
  wpAny (model X.prog X.w) X.A (eval a X.env) (λv s₁=>wpAny (model X.prog X.w) X.A (eval b X.env) (λu s₂=>wpAny (model X.prog X.w) X.A (f v u) Q X.xe s₂) X.xe s₁) X.xe s:=by
 refine bW (ha pins s σ H _ I h) λv s1 ⟨x,H1,I1,r1,q1⟩=>?_;refine bW (hb pins s1 σ H1 _ I1 q1) λu s2 ⟨y,H2,I2,r2,q2⟩=>?_;exact hf v u s2 x y H2 I2 r1 r2 q2
theorem xC{op:Operator}{r:R2}(ho:i6 X (binaryOp op) r)(ha:PE X a ta)(hb:PE X b tb):PE X (.BinOp a op b pos) (Pd r ta tb):=by intro pins s σ H Q I h;exact wpAny_BinOp (M0 ha hb I h λv u s2 x y H2 I2 rx ry q=>ho pins s2 σ H2 x y v u Q I2 rx ry q)
theorem PK{op:UnaryOp}{r:V->Hp->VK->Prop}(ho:RV X (unaryOp op) r)(ha:PE X a ta):PE X (.UnaryOp op a pos) (T4 r ta):=by intro pins s σ H Q I h;exact UnaryOp_ (bW (ha pins s σ H _ I h) (by rintro v s1 ⟨x,H1,I1,r1,q1⟩;exact ho pins s1 σ H1 x v Q I1 r1 q1))
theorem Ra{f:Value->Value->Sem Value}{C:Int->Int->Prop}{g:Int->Int->Int}
 (rule:∀(i j:Int) (t u:Tok) (s:Yw) (Q:Ye) (E:Ye),C i j->Q (.int (g i j) s.toks) {s with toks:=s.toks+1}->wpAny (model X.prog X.w) X.A (f (.int i t) (.int j u)) Q E s) :
  i6 X f (rI C λi j=>.int (g i j)):=by
 intro pins s σ H x y v u Q I rx ry h;obtain⟨i,j,rfl,rfl,hc,q⟩:=h;obtain⟨t,rfl⟩:=rx;obtain⟨t',rfl⟩:=ry;exact rule i j t t' s _ _ hc ⟨.int (g i j),H,I.tok _,⟨_,rfl⟩,q⟩
theorem PL{f:Value->Value->Sem Value}{g:Int->Int->Int}
 (rule:∀(i j:Int) (t u:Tok) (s:Yw) (Q:Ye) (E:Ye),Q (.int (g i j) s.toks) {s with toks:=s.toks+1}->wpAny (model X.prog X.w) X.A (f (.int i t) (.int j u)) Q E s) :
  i6 X f (L5 λi j=>.int (g i j)):=by
 intro pins s σ H x y v u Q I rx ry h;obtain⟨i,j,rfl,rfl,q⟩:=h;obtain⟨t,rfl⟩:=rx;obtain⟨t',rfl⟩:=ry;exact rule i j t t' s _ _ ⟨.int (g i j),H,I.tok _,⟨_,rfl⟩,q⟩
theorem M1{f:Value->Value->Sem Value}{g:Int->Int->Bool}
 (rule:∀(i j:Int) (t u:Tok) (s:Yw) (Q:Ye) (E:Ye),Q (.bool (g i j)) s->wpAny (model X.prog X.w) X.A (f (.int i t) (.int j u)) Q E s) :
  i6 X f (L5 λi j=>.bl (g i j)):=by
 intro pins s σ H x y v u Q I rx ry h;obtain⟨i,j,rfl,rfl,q⟩:=h;obtain⟨t,rfl⟩:=rx;obtain⟨t',rfl⟩:=ry;exact rule i j t t' s _ _ ⟨.bl (g i j),H,I,rfl,q⟩
def PM(i j:Int):Prop:=0<j/\j<1073741824
noncomputable def RW(i j:Int):Prop:=0<=j/\j<=1000000/\i.natAbs<2^64
noncomputable def M3(i j:Int):Prop:=(-(2^64)<i/\i<2^64)\/(-(2^64)<j/\j<2^64)
theorem M3.ok{i j:Int}(h:M3 i j):IntMulOk i j:=by
 rcases h with⟨h1,h2⟩|⟨h1,h2⟩
 ·exact .of_left (intBits_le_64 h1 h2)
 ·exact .of_right (intBits_le_64 h1 h2)
theorem M4:i6 X (binaryOp .Add) (L5 λi j=>.int (i+j)):=PL λ_ _ _ _ _ _ _ q=>add_int q
theorem M5:i6 X (binaryOp .Sub) (L5 λi j=>.int (i-j)):=PL λ_ _ _ _ _ _ _ q=>sub_int q
theorem M6:i6 X (binaryOp .Mult) (rI M3 λi j=>.int (i*j)):=Ra λ_ _ _ _ _ _ _ hc q=>mul_int q hc.ok
theorem JQ:i6 X (binaryOp .FloorDiv) (rI PM λi j=>.int (i / j)):=Ra λi j _ _ _ _ _ hc q=>by have h1:(0:Int)<j:=hc.1;have h2:j<1073741824:=hc.2;exact floordiv_int (by omega) (by rw[Int.fdiv_eq_ediv_of_nonneg i (by omega)];exact q) (.inl (PyProof.noPylong_small (by omega)))
theorem M7:i6 X (binaryOp .Mod) (rI (λ_ j=>0<j) λi j=>.int (i % j)):=Ra λi j _ _ _ _ _ hc q=>by have h1:(0:Int)<j:=hc;exact mod_int' (by omega) (by rw[Int.fmod_eq_emod_of_nonneg i (by omega)];exact q)
theorem M8:i6 X (binaryOp .Pow) (rI RW λi j=>.int (i^j.toNat)):=Ra λ_ _ _ _ _ _ _ hc q=>pow_int_small hc.1 hc.2.1 hc.2.2 q
theorem T5{f:Value->Sem Value}{g:Int->Int}
 (rule:∀(i:Int) (t:Tok) (s:Yw) (Q:Ye) (E:Ye),Q (.int (g i) s.toks) {s with toks:=s.toks+1}->wpAny (model X.prog X.w) X.A (f (.int i t)) Q E s) :
  RV X f (rU λi=>.int (g i)):=by
 intro pins s σ H x v Q I rx h;obtain⟨i,rfl,q⟩:=h;obtain⟨t,rfl⟩:=rx;exact rule i t s _ _ ⟨.int (g i),H,I.tok _,⟨_,rfl⟩,q⟩
theorem M9:RV X (unaryOp .USub) (rU λi=>.int (-i)):=T5 λ_ _ _ _ _ q=>neg_int q
end
noncomputable def PN:V->V->Bool
 |.non,.non=>true|.non,.int _=>true|.int _,.non=>true|.non,.bl _=>true|.bl _,.non=>true|.non,.str _=>true|.str _,.non=>true
 |.int _,.int _=>true|.bl _,.bl _=>true|.str _,.str _=>true|.byt _,.byt _=>true
 |.int _,.str _=>true|.str _,.int _=>true|.bl _,.str _=>true|.str _,.bl _=>true
 |_,_=>false
noncomputable def Tn:R2:=λx y H Q=>PN x y=true/\Q (.bl (decide (x=y))) H
noncomputable def T6:R2:=λx y H Q=>PN x y=true/\Q (.bl (!decide (x=y))) H
theorem Dj{i j:Int}:decide (V.int i=V.int j)=(i==j):=by rw[VC];simp
theorem GF{i j:Bool}:decide (V.bl i=V.bl j)=(i==j):=by rw[VC];simp
theorem Dk{i j:Str}:decide (V.str i=V.str j)=(i==j):=by rw[VC];simp
theorem Dn{i j:Array UInt8}:decide (V.byt i=V.byt j)=(i.toList==j.toList):=by rw[VC];cases i;cases j;simp
section
variable {X:Cx} {a b c:Expr} {ta tb tc:TE} {pos:Pos}
theorem bG{pins:Yf}{σ:St}{H:Hp}{s:Yw}{Q:VK}{k k':Bool}(I:Inv X pins σ H s)(q:Q (.bl k) H)(e:k=k'):EP X pins σ Q (.bool k') s:=by subst e;exact⟨.bl k,H,I,rfl,q⟩
theorem L6:i6 X (compareOp .Eq) Tn:=by
 intro pins s σ H x y v u Q I rx ry h;obtain⟨hs,q⟩:=h
 cases x with
 |non=>
  cases rx
  cases y with
  |non=>cases ry;exact PySem.EqNone.eq_none_none (bG I q (by simp))
  |bl j=>cases ry;exact PySem.EqNone.eq_none_bool (bG I q (by simp))
  |int j=>obtain⟨t',rfl⟩:=ry;exact PySem.EqNone.eq_none_int (bG I q (by simp))
  |str j=>obtain⟨t',rfl⟩:=ry;exact PySem.EqNone.eq_none_str (bG I q (by simp))
  |_=>exact absurd (show false=true from hs) UY
 |bl i=>
  cases rx
  cases y with
  |non=>cases ry;exact PySem.EqNone.eq_bool_none (bG I q (by simp))
  |bl j=>cases ry;exact eq_bool (bG I q GF)
  |str j=>obtain⟨t',rfl⟩:=ry;exact PySem.EqMixed.eq_bool_str (bG I q (by simp))
  |_=>exact absurd (show false=true from hs) UY
 |int i=>
  obtain⟨t,rfl⟩:=rx
  cases y with
  |non=>cases ry;exact PySem.EqNone.eq_int_none (bG I q (by simp))
  |int j=>obtain⟨t',rfl⟩:=ry;exact eq_int (bG I q Dj)
  |str j=>obtain⟨t',rfl⟩:=ry;exact PySem.EqMixed.eq_int_str (bG I q (by simp))
  |_=>exact absurd (show false=true from hs) UY
 |str i=>
  obtain⟨t,rfl⟩:=rx
  cases y with
  |non=>cases ry;exact PySem.EqNone.eq_str_none (bG I q (by simp))
  |bl j=>cases ry;exact PySem.EqMixed.eq_str_bool (bG I q (by simp))
  |int j=>obtain⟨t',rfl⟩:=ry;exact PySem.EqMixed.eq_str_int (bG I q (by simp))
  |str j=>obtain⟨t',rfl⟩:=ry;exact eq_str (bG I q Dk)
  |_=>exact absurd (show false=true from hs) UY
 |byt i=>
  obtain⟨t,rfl⟩:=rx
  cases y with
  |byt j=>obtain⟨t',rfl⟩:=ry;exact PySem.W.eq_bytes (bG I q Dn)
  |_=>exact absurd (show false=true from hs) UY
 |_=>cases y<;>exact absurd (show false=true from hs) UY
theorem L7:i6 X (compareOp .NotEq) T6:=by
 intro pins s σ H x y v u Q I rx ry h;obtain⟨hs,q⟩:=h
 cases x with
 |non=>
  cases rx
  cases y with
  |non=>cases ry;exact PySem.EqNone.ne_none_none (bG I q (by simp))
  |bl j=>cases ry;exact PySem.EqNone.ne_none_bool (bG I q (by simp))
  |int j=>obtain⟨t',rfl⟩:=ry;exact PySem.EqNone.ne_none_int (bG I q (by simp))
  |str j=>obtain⟨t',rfl⟩:=ry;exact PySem.EqNone.ne_none_str (bG I q (by simp))
  |_=>exact absurd (show false=true from hs) UY
 |bl i=>
  cases rx
  cases y with
  |non=>cases ry;exact PySem.EqNone.ne_bool_none (bG I q (by simp))
  |bl j=>cases ry;exact ne_bool (bG I q (WH not GF))
  |str j=>obtain⟨t',rfl⟩:=ry;exact PySem.EqMixed.ne_bool_str (bG I q (by simp))
  |_=>exact absurd (show false=true from hs) UY
 |int i=>
  obtain⟨t,rfl⟩:=rx
  cases y with
  |non=>cases ry;exact PySem.EqNone.ne_int_none (bG I q (by simp))
  |int j=>obtain⟨t',rfl⟩:=ry;exact ne_int (bG I q (WH not Dj))
  |str j=>obtain⟨t',rfl⟩:=ry;exact PySem.EqMixed.ne_int_str (bG I q (by simp))
  |_=>exact absurd (show false=true from hs) UY
 |str i=>
  obtain⟨t,rfl⟩:=rx
  cases y with
  |non=>cases ry;exact PySem.EqNone.ne_str_none (bG I q (by simp))
  |bl j=>cases ry;exact PySem.EqMixed.ne_str_bool (bG I q (by simp))
  |int j=>obtain⟨t',rfl⟩:=ry;exact PySem.EqMixed.ne_str_int (bG I q (by simp))
  |str j=>obtain⟨t',rfl⟩:=ry;exact ne_str (bG I q (WH not Dk))
  |_=>exact absurd (show false=true from hs) UY
 |byt i=>
  obtain⟨t,rfl⟩:=rx
  cases y with
  |byt j=>obtain⟨t',rfl⟩:=ry;exact PySem.W.ne_bytes (bG I q (WH not Dn))
  |_=>exact absurd (show false=true from hs) UY
 |_=>cases y<;>exact absurd (show false=true from hs) UY
theorem PQ:i6 X (compareOp .LtE) (L5 λi j=>.bl (decide (i<=j))):=M1 λ_ _ _ _ _ _ _ q=>le_int q
theorem PR:i6 X (compareOp .Gt) (L5 λi j=>.bl (decide (j<i))):=M1 λ_ _ _ _ _ _ _ q=>gt_int q
theorem PU:i6 X (compareOp .GtE) (L5 λi j=>.bl (decide (j<=i))):=M1 λ_ _ _ _ _ _ _ q=>ge_int q
theorem EZ:i6 X (compareOp .In) (λx y H Q=>∃i j,x=.str i/\y=.str j/\Q (.bl (!(Builtin.Str.occurrences j i 0 j.length 1).isEmpty)) H):=by intro pins s σ H x y v u Q I rx ry h;obtain⟨i,j,rfl,rfl,q⟩:=h;obtain⟨t,rfl⟩:=rx;obtain⟨t',rfl⟩:=ry;exact in_str (bG I q rfl)
theorem yH:i6 X (compareOp .NotIn) (λx y H Q=>∃i j,x=.str i/\y=.str j/\Q (.bl (!(!(Builtin.Str.occurrences j i 0 j.length 1).isEmpty))) H):=by intro pins s σ H x y v u Q I rx ry h;obtain⟨i,j,rfl,rfl,q⟩:=h;obtain⟨t,rfl⟩:=rx;obtain⟨t',rfl⟩:=ry;exact notIn_str (bG I q rfl)
theorem i6.or{f:Value->Value->Sem Value}{r r':R2}(h:i6 X f r)(h':i6 X f r'):i6 X f (λx y H Q=>r x y H Q\/r' x y H Q):=by
 intro pins s σ H x y v u Q I rx ry q;rcases q with q|q
 ·exact h pins s σ H x y v u Q I rx ry q
 ·exact h' pins s σ H x y v u Q I rx ry q
theorem GG(b:Expr){op:CmpOp}(h:op≠.In:=by decide)(h2:op≠.NotIn:=by decide):behindInMarks op b=false:=by
 have e1:(op==CmpOp.In)=false:=by cases op<;>first|rfl|exact absurd rfl h
 have e2:(op==CmpOp.NotIn)=false:=by cases op<;>first|rfl|exact absurd rfl h2
 cases b<;>simp[behindInMarks,e1,e2]
theorem JR{op:CmpOp}{r:R2}(ho:i6 X (compareOp op) r)(ha:PE X a ta)(hb:PE X b tb)(hm:behindInMarks op b=false):PE X (.Compare a [op] [b] pos) (Pd r ta tb):=by intro pins s σ H Q I h;exact wpAny_Compare1 (M0 ha hb I h λv u s2 x y H2 I2 rx ry q=>ho pins s2 σ H2 x y v u Q I2 rx ry q) hm
noncomputable def GH(t:TE):TT:=λσ H Q=>t σ H λx H'=>∃k,x=.bl k/\Q k H'
theorem yI{op:CmpOp}{r:R2}(ho:i6 X (compareOp op) r)(ha:PE X a ta)(hb:PE X b tb)(hm:behindInMarks op b=false):PT X (.Compare a [op] [b] pos) (GH (Pd r ta tb)):=by
 intro pins s σ H Q I h
 refine wpAny_isTrue_Compare1 (bW (ha pins s σ H _ I h) λv s1 ⟨x,H1,I1,r1,q1⟩=>bW (hb pins s1 σ H1 _ I1 q1) λu s2 ⟨y,H2,I2,r2,q2⟩=>
  bW (ho pins s2 σ H2 x y v u _ I2 r1 r2 q2) λc s3 ⟨z,H3,I3,r3,k,e,q3⟩=>?_) hm
 subst e;cases r3;exact VB ⟨H3,I3,q3⟩
noncomputable def BX(r r':R2)(ta tb tc:TE):TE:=λσ H Q=>ta σ H λx H1=>tb σ H1 λy H2=>r x y H2 λz H3=>∃k,z=.bl k /\
 (if k=true then tc σ H3 λw' H4=>r' y w' H4 Q else Q (.bl false) H3)
theorem GI{op op':CmpOp}{r r':R2}(ho:i6 X (compareOp op) r)(ho':i6 X (compareOp op') r')(ha:PE X a ta)(hb:PE X b tb)(hc:PE X c tc)
 (hm:lastMarks [op,op'] [b,c]=false:=by with_unfolding_all rfl):PE X (.Compare a [op,op'] [b,c] pos) (BX r r' ta tb tc):=by
 intro pins s σ H Q I h
 refine Compare_chain (bW (ha pins s σ H _ I h) λv s1 ⟨x,H1,I1,r1,q1⟩=>chain_link (bW (hb pins s1 σ H1 _ I1 q1) λu s2 ⟨y,H2,I2,r2,q2⟩=>
  bW (ho pins s2 σ H2 x y v u _ I2 r1 r2 q2) λd s3 ⟨z,H3,I3,r3,k,e,q3⟩=>?_)) hm
 subst e;cases r3;refine VB ?_
 cases k with
 |false=>exact ite_ff ⟨.bl false,H3,I3,rfl,q3⟩
 |true=>exact ite_tt (chain_last (bW (hc pins s3 σ H3 _ I3 q3) (by rintro w' s4 ⟨z',H4,I4,r4,q4⟩;exact ho' pins s4 σ H4 y z' u w' Q I4 r2 r4 q4)))
theorem GJ{op op':CmpOp}{r r':R2}(ho:i6 X (compareOp op) r)(ho':i6 X (compareOp op') r')(ha:PE X a ta)(hb:PE X b tb)(hc:PE X c tc)
 (hm:lastMarks [op,op'] [b,c]=false:=by with_unfolding_all rfl):PT X (.Compare a [op,op'] [b,c] pos) (GH (BX r r' ta tb tc)):=by
 intro pins s σ H Q I h
 refine isTrue_chain (bW (ha pins s σ H _ I h) λv s1 ⟨x,H1,I1,r1,q1⟩=>test_link (bW (hb pins s1 σ H1 _ I1 q1) λu s2 ⟨y,H2,I2,r2,q2⟩=>
  bW (ho pins s2 σ H2 x y v u _ I2 r1 r2 q2) λd s3 ⟨z,H3,I3,r3,k,e,q3⟩=>?_)) hm
 subst e;cases r3;refine VB ?_
 cases k with
 |false=>obtain⟨k',e',q'⟩:=q3;cases e';exact ite_ff ⟨H3,I3,q'⟩
 |true=>refine ite_tt (test_last (bW (hc pins s3 σ H3 _ I3 q3) λw' s4 ⟨z',H4,I4,r4,q4⟩=>bW (ho' pins s4 σ H4 y z' u w' _ I4 r2 r4 q4) λd' s5 ⟨z2,H5,I5,r5,k2,e2,q5⟩=>?_));subst e2;cases r5;exact VB ⟨H5,I5,q5⟩
noncomputable def Na(K:Ym)(x:V)(H:Hp)(k:Bool):Prop:=
 match x with
 |.non=>k=false
 |.bl b=>k=b
 |.int i=>k=(i != 0)
 |.str y=>y.length<=sizeLine/\k=((y.length:Int) != 0)
 |.byt y=>y.size<=sizeLine/\k=((y.size:Int) != 0)
 |.ref p=>(∃xs,i8 K H p xs/\k=!xs.isEmpty)\/(∃xs,gO K H p xs/\k=!xs.isEmpty)\/∃kvs,H p=some (.dK kvs)/\k=!kvs.isEmpty
 |_=>False
theorem BY{κ:Type}{kvs:List (κ×V)}{vs:List (κ×Value)}(r:KV kvs vs):(!vs.isEmpty)=!kvs.isEmpty:=by cases r<;>rfl
theorem uI{xs:List V}{its:Yl}(r:Vals xs its):(!its.toArray.isEmpty)=!xs.isEmpty:=by cases r<;>simp
theorem uJ:(sizeLine:Nat)<2^63:=by rw[VJ];decide
theorem BZ:MZ X (λx H Q=>∃k,Na X.K x H k/\Q k H):=by
 intro pins s σ H x v Q I rx h;obtain⟨k,e,q⟩:=h;have hl:=uJ;have hs:sizeLine=16777216:=VJ
 cases x with
 |non=>cases rx;have e':k=false:=e;subst e';exact truthy_none ⟨H,I,q⟩
 |bl b=>cases rx;have e':k=b:=e;subst e';exact VB ⟨H,I,q⟩
 |int i=>obtain⟨t,rfl⟩:=rx;have e':k=(i != 0):=e;subst e';exact PySem.P.truthy_int ⟨H,I,q⟩
 |str y=>obtain⟨t,rfl⟩:=rx;obtain⟨hy,e'⟩:y.length<=sizeLine/\k=((y.length:Int) != 0):=e;subst e';exact PySem.P.truthy_str (by omega) ⟨H,I.tok _,q⟩
 |byt y=>obtain⟨t,rfl⟩:=rx;obtain⟨hy,e'⟩:y.size<=sizeLine/\k=((y.size:Int) != 0):=e;subst e';exact PySem.W.truthy_bytes (by omega) ⟨H,I.tok _,q⟩
 |ref p=>
  cases rx;have e':(∃xs,i8 X.K H p xs/\k=!xs.isEmpty)\/(∃xs,gO X.K H p xs/\k=!xs.isEmpty)\/∃kvs,H p=some (.dK kvs)/\k=!kvs.isEmpty:=e;rcases e' with⟨xs,hx,e'⟩|⟨xs,hx,e'⟩|⟨kvs,hx,e'⟩
  ·subst e';obtain⟨its,r,pl,hz⟩:=I.list hx;have hlen:=r.length;exact wpAny_truthy_list pl.isList (by simp only[UG];omega) ⟨H,I.tok _,by rw[uI r];exact q⟩
  ·subst e';obtain⟨its,r,pl,hz⟩:=I.tuple hx;have hlen:=r.length;exact truthy_tuple pl (by simp only[UG];omega) ⟨H,I.tok _,by rw[uI r];exact q⟩
  ·subst e';obtain⟨hz,hS,vs,r,m⟩:kvs.length<=sizeLine/\(p==sysModules)=false/\∃vs,KV kvs vs/\s.heap.DictOf (bK X.prog X.w) p vs:=I.hok p _ hx;have hlen:kvs.length=vs.length:=U2 r;exact wpAny_truthy_dict hS m (by omega) ⟨H,I.tok _,by rw[BY r];exact q⟩
 |_=>exact(show False from e).elim
theorem GK(ha:PE X a ta)(he:∀whole,isTrue a X.env whole=(do let v <- whole;standAt a.pos;holding [v] (truthy v))) :
  PT X a (λσ H Q=>ta σ H λx H'=>∃k,Na X.K x H' k/\Q k H'):=by
 intro pins s σ H Q I h;exact isTrue_plain (bW (ha pins s σ H _ I h) (by rintro v s1 ⟨x,H1,I1,r1,q1⟩;exact BZ pins s1 σ H1 x v Q I1 r1 q1)) (he _)
theorem B0:i6 X (binaryOp .Add) (λx y H Q=>∃i j,x=.str i/\y=.str j/\i.length+j.length<=sizeLine/\Q (.str (i++j)) H):=by intro pins s σ H x y v u Q I rx ry h;obtain⟨i,j,rfl,rfl,hz,q⟩:=h;obtain⟨t,rfl⟩:=rx;obtain⟨t',rfl⟩:=ry;exact add_str (λt' tk=>⟨.str (i++j),H,I.tok _,⟨_,rfl⟩,q⟩) hz
theorem vals1{x:V}{us:Yl}(r:Vals [x] us):∃u,us=[u]/\RelV x u:=by
 cases r with
 |cons r1 r2=>cases r2;exact⟨_,rfl,r1⟩
theorem vals2{x y:V}{us:Yl}(r:Vals [x,y] us):∃u w',us=[u,w']/\RelV x u/\RelV y w':=by
 cases r with
 |cons r1 r2=>
  cases r2 with
  |cons r3 r4=>cases r4;exact⟨_,_,rfl,r1,r3⟩
theorem E3(hc:X.calm=true):dC X (.builtin "max") (λxs H Q=>∃i j,xs=[.int i,.int j]/\Q (.int (if j>i then j else i)) H):=by
 intro pins s σ H xs us Q I r h;obtain⟨i,j,rfl,q⟩:=h;obtain⟨u,w',rfl,⟨t,rfl⟩,⟨t',rfl⟩⟩:=vals2 r;refine max_two_ints (I.ok.hd hc) λh' tk k=>⟨_,H,I.kept k,?_,q⟩;by_cases hj:j>i
 ·rw[if_pos hj,if_pos hj];exact⟨_,rfl⟩
 ·rw[if_neg hj,if_neg hj];exact⟨_,rfl⟩
theorem E4:dC X (.type "int") (λxs H Q=>(∃i,xs=[.int i]/\Q (.int i) H)\/∃k,xs=[.bl k]/\Q (.int (if k then 1 else 0)) H):=by
 intro pins s σ H xs us Q I r h;rcases h with⟨i,rfl,q⟩|⟨k,rfl,q⟩
 ·obtain⟨u,rfl,t,rfl⟩:=vals1 r;exact call_int_int ⟨.int i,H,I,⟨_,rfl⟩,q⟩
 ·obtain⟨u,rfl,r1⟩:=vals1 r;cases r1;exact call_int_bool ⟨.int (if k then 1 else 0),H,I.tok _,⟨_,rfl⟩,q⟩
noncomputable def RX(K:Ym)(x:V)(H:Hp)(n:Nat):Prop:=
 match x with
 |.str y=>y.length<=sizeLine/\n=y.length
 |.byt y=>y.size<=sizeLine/\n=y.size
 |.ref p=>(∃xs,i8 K H p xs/\n=xs.length)\/∃xs,gO K H p xs/\n=xs.length
 |_=>False
theorem GL:dC X (.builtin "len") (λxs H Q=>∃x n,xs=[x]/\RX X.K x H n/\Q (.int n) H):=by
 intro pins s σ H xs us Q I r h;obtain⟨x,n,rfl,e,q⟩:=h;obtain⟨u,rfl,rx⟩:=vals1 r;have hl:=uJ;have hs:sizeLine=16777216:=VJ
 cases x with
 |str y=>obtain⟨t,rfl⟩:=rx;obtain⟨hy,e'⟩:y.length<=sizeLine/\n=y.length:=e;subst e';exact len_str (by omega) ⟨.int _,H,I.tok _,⟨_,rfl⟩,q⟩
 |byt y=>obtain⟨t,rfl⟩:=rx;obtain⟨hy,e'⟩:y.size<=sizeLine/\n=y.size:=e;subst e';exact PySem.W.len_bytes (by omega) ⟨.int _,H,I.tok _,⟨_,rfl⟩,q⟩
 |ref p=>
  cases rx;have e':(∃xs,i8 X.K H p xs/\n=xs.length)\/∃xs,gO X.K H p xs/\n=xs.length:=e;rcases e' with⟨xs,hx,e'⟩|⟨xs,hx,e'⟩
  ·subst e';obtain⟨its,r',pl,hz⟩:=I.list hx;have hlen:=r'.length;exact Calls.call_len_list pl.isList (by simp only[UG];omega) ⟨.int xs.length,H,I.tok _,⟨_,by simp only[UG];rw[hlen]⟩,q⟩
  ·subst e';obtain⟨its,r',pl,hz⟩:=I.tuple hx;have hlen:=r'.length;exact len_tuple pl (by simp only[UG];omega) ⟨.int xs.length,H,I.tok _,⟨_,by simp only[UG];rw[hlen]⟩,q⟩
 |_=>exact(show False from e).elim
theorem Aj:dC X (.builtin "divmod") (λxs H Q=>∃i j,xs=[.int i,.int j]/\PM i j/\∀p,H p=none->Q (.ref p) (upd H p (.tup [.int (i / j),.int (i % j)]))):=by intro pins s σ H xs us Q I r h;obtain⟨i,j,rfl,⟨h1,h2⟩,q⟩:=h;obtain⟨u,w',rfl,⟨t,rfl⟩,⟨t',rfl⟩⟩:=vals2 r;refine divmod_int (by omega) ?_ (.inl (PyProof.noPylong_small (by omega)));rw[Int.fdiv_eq_ediv_of_nonneg i (by omega),Int.fmod_eq_emod_of_nonneg i (by omega)];have hn:H s.heap.objs.size=none:=I.hok.fresh (Uy _);refine⟨.ref s.heap.objs.size,_,?_,rfl,q _ hn⟩;refine I.laid (λb o e=>Uv _ e) (Uy _) ⟨by simp only[UR,Vq];rw[VJ];decide,[.int (i / j) s.toks,.int (i % j) (s.toks+1)],.cons ⟨_,rfl⟩ (.cons ⟨_,rfl⟩ .nil),?_⟩;exact⟨_,UA s.heap rfl,rfl,0,rfl⟩
end
structure Nb(h:Heap)(x dx C:Addr)(mA:Yi):Prop where
 obj:h.get? x=some (PySem.W.instObj C dx)
 ns:h.Ns1 dx mA
 ne:dx≠x
theorem E5{h:Heap}{dx:Addr}{mA:Yi}(n:h.Ns1 dx mA):∃od,h.get? dx=some od/\∀name,PySem.W.lookIn name od=some (mA name):=by
 obtain⟨o,es,ep,ho,hd,hk,_,hm⟩:=n;refine⟨o,ho,λname=>?_⟩;have e:=hm name;unfold nsFind findBy at e;rw[<- Array.find?_toList]at e;unfold PySem.W.lookIn;rw[hd];dsimp only;split
 ·rename_i y q;rw[q]at e;exact WH some e
 ·rename_i q;rw[q]at e;have a:es.toList.any (·.refKey)=false:=by rw[List.any_eq_false];intro y hy;obtain⟨z,t,hkey⟩:=hk y (Wg.mp hy);simp[DictEntry.refKey,hkey]
  have a':¬ es.toList.any (·.refKey)=true:=by rw[a];exact UY
  rw[if_neg a'];exact WH some e
theorem Nb.look{h:Heap}{x dx C:Addr}{mA:Yi}(I:Nb h x dx C mA):∃od,PySem.W.InstAt h x (PySem.W.instObj C dx) C (some od)/\∀name,PySem.W.lookIn name od=some (mA name):=
 by obtain⟨od,ho,hl⟩:=E5 I.ns;exact⟨od,⟨I.obj,rfl,rfl,ho⟩,hl⟩
theorem rM.some_of{v:V}{o:Option Value}(r:rM (some v) o):∃u,o=some u/\RelV v u:=by
 cases o with
 |none=>exact(show False from r).elim
 |some u=>exact⟨u,rfl,r⟩
section
variable {P:Yt} {w:World} {H H':Hp} {h h':Heap} {a C dx:Addr} {fs fs':List (Str×V)}
theorem JS(hok:lz P w H h)(e:H a=some (.ins C dx fs)):∃mA,Nb h a dx C mA/\(∀f,rM (fs.lookup f) (mA f))/\PySem.Within mA (fs.map (·.1))/\fs.length<=1000/\H dx=some (.own a):=by obtain⟨d,z,ne,ob,mA,n,r,q⟩:=(show bM P w H h a (.ins C dx fs)from hok a _ e);exact⟨mA,⟨ob,n,ne⟩,r,q,z,d⟩
end
structure RY(K:Ym)(C:Addr):Prop where
 pg:PySem.W.plainGet K C Str.empty=true
 hd:PySem.W.hasDictIn K C=true
 po:PySem.W.plainOver K C=true
 sa:PySem.W.findIn K (.ref C) "__setattr__" = some (some (.builtin "object.__setattr__"))
theorem RY.get{K:Ym}{C:Addr}(c:RY K C)(f:Str):PySem.W.plainGet K C f=true:=c.pg
section
variable {X:Cx} {pins:Yf} {σ:St} {H:Hp} {s:Yw} {A:Yv} {E:Ye} {Q:Ye} {c:Value} {b:Bool}
inductive qg (K:Ym) (H:Hp):V->Value->Prop where
 |non:qg K H .non (.type "NoneType")
 |bl (x:Bool):qg K H (.bl x) (.type "bool")
 |int (i:Int):qg K H (.int i) (.type "int")
 |str (x:Str):qg K H (.str x) (.type "str")
 |flt (x:UInt64):qg K H (.flt x) (.type "float")
 |lst {a:Addr} {xs:List V} (e:H a=some (.lst xs)):qg K H (.ref a) (.type "list")
 |frz {a:Addr} {o:Obj} {xs:List V} (e:H a=some (.frz o (.lst xs))):qg K H (.ref a) (.type "list")
 |tup {a:Addr} {xs:List V} (e:H a=some (.tup xs)):qg K H (.ref a) (.type "tuple")
 |dK {a:Addr} {kvs:List (Key×V)} (e:H a=some (.dK kvs)):qg K H (.ref a) (.type "dict")
 |dT {a:Addr} {kvs:List (List Key×V)} (e:H a=some (.dT kvs)):qg K H (.ref a) (.type "dict")
 |ins {a C dx:Addr} {fs:List (Str×V)} (e:H a=some (.ins C dx fs)) (cl:RY K C) (ha:PySem.W.findIn K (.ref C) "__class__" = some (some (.builtin "object.__class__")))
   (hn:PySem.W.specialIn K (.builtin "object.__class__") "__get__" = some (some (.builtin "getset_descriptor.__get__"))) (htk:PySem.W.takesIn K (.builtin "object.__class__")=some true)
   (hm:PySem.W.mroIn K C (.type "object")=some true):qg K H (.ref a) (.ref C)
theorem E6{x:V}{u t:Value}(I:Inv X pins σ H s)(rx:RelV x u)(ty:qg X.K H x t)(e:PySem.W.kitOne X.K t c=some b)(h:∀tk,Q (.bool b) {s with toks:=tk}) :
  wpAny (model X.prog X.w) A (call (.builtin "isinstance") [u,c]) Q E s:=by
 cases ty with
 |non=>cases(show u=Value.none from rx);exact Vv PySem.W.kitx_none I.qb True.intro e (λz=>nomatch z) h
 |bl y=>cases(show u=Value.bool y from rx);exact Vv PySem.W.kitx_bool I.qb True.intro e (λz=>nomatch z) h
 |int i=>obtain⟨t,q⟩:=(show ∃t,u=Value.int i t from rx);cases q;exact Vv PySem.W.kitx_int I.qb True.intro e (λz=>nomatch z) h
 |str y=>obtain⟨t,q⟩:=(show ∃t,u=Value.str y t from rx);cases q;exact Vv PySem.W.kitx_str I.qb True.intro e (λz=>nomatch z) h
 |flt y=>obtain⟨t,q⟩:=(show ∃t,u=Value.float y t from rx);cases q;exact Vv PySem.W.kitx_float I.qb True.intro e (λz=>nomatch z) h
 | @lst a xs ea=>cases(show u=Value.ref a from rx);obtain⟨_,_,n,_,h1⟩:=(show bM X.prog X.w H s.heap a (.lst xs)from I.hok a _ ea);exact Vv PySem.W.kitx_list I.qb ⟨_,h1,rfl⟩ e (λz=>nomatch z) h
 | @frz a ob xs ea=>cases(show u=Value.ref a from rx);obtain⟨_,_,_,n,_,h1⟩:=(show bM X.prog X.w H s.heap a (.frz ob (.lst xs))from I.hok a _ ea);exact Vv PySem.W.kitx_list I.qb ⟨_,h1,rfl⟩ e (λz=>nomatch z) h
 | @tup a xs ea=>cases(show u=Value.ref a from rx);obtain⟨_,_,_,p⟩:=(show bM X.prog X.w H s.heap a (.tup xs)from I.hok a _ ea);obtain⟨o,h1,h2,_⟩:=p;exact Vv PySem.W.kitx_tuple I.qb ⟨o,h1,h2⟩ e (λz=>nomatch z) h
 | @dK a kvs ea=>cases(show u=Value.ref a from rx);obtain⟨_,_,vs,_,p⟩:=(show bM X.prog X.w H s.heap a (.dK kvs)from I.hok a _ ea);obtain⟨o,es,ep,h1,h2,_⟩:=p;exact Vv PySem.W.kitx_dict I.qb ⟨o,h1,h2.1⟩ e (λz=>nomatch z) h
 | @dT a kvs ea=>cases(show u=Value.ref a from rx);obtain⟨_,_,xs,_,o,es,ep,h1,h2,_⟩:=(show bM X.prog X.w H s.heap a (.dT kvs)from I.hok a _ ea);exact Vv PySem.W.kitx_dict I.qb ⟨o,h1,h2.1⟩ e (λz=>nomatch z) h
 | @ins a C dx fs ea cl ha hn htk hm=>cases(show u=Value.ref a from rx);obtain⟨mA,O,_⟩:=JS I.hok ea;obtain⟨od,J,_⟩:=O.look;exact Vv (PySem.W.kitx_own (cl.get _) cl.hd ha hn htk hm) I.qb J e (λz=>nomatch z) h
end
structure bJ(k:Nat)(A:Yv):Prop where
 hd:A.handled=none
 dp:A.depth+3*k+5<recursionLimit
 un:A.units+16*k+200<cLine
 gd:A.guards=some []
theorem bJ.mono{j k:Nat}{A:Yv}(r:bJ k A)(h:j<=k):bJ j A:=⟨r.hd,by have:=r.dp;omega,by have:=r.un;omega,r.gd⟩
theorem bJ.deeper{k:Nat}{A:Yv}(r:bJ (k+1) A)(env:Env):bJ k (A.deeper env):=
 ⟨r.hd,by have:=r.dp;show A.depth+1+3*k+5<_;omega,by have:=r.un;show A.units+3+16*k+200<_;omega,r.gd⟩
theorem bJ.depth{k:Nat}{A:Yv}(r:bJ k A):A.depth<recursionLimit:=by have:=r.dp;omega
theorem bJ.units{k:Nat}{A:Yv}(r:bJ k A):A.units+64<cLine:=by have:=r.un;omega
def Ak:TA:=λ_ H Q=>Q [] H
noncomputable def oN(ta:TE)(tr:TA):TA:=λσ H Q=>ta σ H λx H1=>tr σ H1 λxs H2=>Q (x::xs) H2
section
variable {X:Cx} {e:Expr} {es:Yo} {te:TE} {t:TA} {pos:Pos}
theorem dS:PA X [] Ak:=λ_ _ _ _ H Q I h=>WT ⟨[],H,I,.nil,h⟩
theorem bb(ha:PE X e te)(hr:PA X es t)(hs:starEach (e::es) X.env=(false,eval e X.env)::starEach es X.env:=by rfl):PA X (e::es) (oN te t):=by intro pos pins s σ H Q I h;rw[hs];show wpAny _ _ (spliced ((false,eval e X.env)::backTo pos (starEach es X.env))) _ _ s;refine Wa (bW (ha pins s σ H _ I h) λu s1 ⟨x,H1,I1,r1,q1⟩=>?_);exact bW (hr pos pins s1 σ H1 _ I1 q1) (by rintro us s2 ⟨xs,H2,I2,r2,q2⟩;exact⟨x::xs,H2,I2,.cons r1 r2,q2⟩)
noncomputable def Nc(t:TA):TE:=λσ H Q=>t σ H λxs H1=>xs.length<=sizeLine/\∀p,H1 p=none->Q (.ref p) (upd H1 p (.tup xs))
noncomputable def RZ(t:TA):TE:=λσ H Q=>t σ H λxs H1=>xs.length<=sizeLine/\∀p,H1 p=none->Q (.ref p) (upd H1 p (.lst xs))
theorem yJ{x1}(h:PA X es t):PE X (.Tuple es x1 pos) (Nc t):=by intro pins s σ H Q I hq;refine wpAny_Tuple_spliced (bW (h pos pins s σ H _ I hq) λus s1 ⟨xs,H1,I1,r,z,q⟩=>⟨by rw[<- r.length];exact z,?_⟩);have hf:H1 s1.heap.objs.size=none:=I1.hok.fresh (Uy _);refine⟨.ref s1.heap.objs.size,upd H1 s1.heap.objs.size (.tup xs),I1.laid (t':=s1.toks) (λb u e=>Uv _ e) (Uy _) ?_,rfl,q _ hf⟩;exact⟨z,us,r,⟨_,UA _ rfl,rfl,_,rfl⟩⟩
theorem lU(h:PA X es t):PE X (.List es pos) (RZ t):=by intro pins s σ H Q I hq;refine wpAny_List_spliced (bW (h pos pins s σ H _ I hq) λus s1 ⟨xs,H1,I1,r,z,q⟩=>⟨by rw[<- r.length];exact z,?_⟩);have hf:H1 s1.heap.objs.size=none:=I1.hok.fresh (Uy _);refine⟨.ref s1.heap.objs.size,upd H1 s1.heap.objs.size (.lst xs),I1.laid (t':=s1.toks) (λb u e=>Uv _ e) (Uy _) ?_,rfl,q _ hf⟩;exact⟨z,us,0,r,UA _ rfl⟩
end
abbrev Sp:=List V->Hp->VK->XK->Prop
abbrev E7:=List Env->Hp->Yw->XK->Ye
structure yK(P:Yt)(w:World)(K:Ym)(mg:Yi)(base:Heap)(A:Yv)(outer:List Env)(s:Yw)(H:Hp):Prop where
 frames:A.frames=some outer
 mod:Mod K mg base
 bs:∀b o,base.get? b=some o->s.heap.get? b=some o/\H b=none
 bsz:base.objs.size<=s.heap.objs.size
 ky:s.heap.FunFrames base outer
 frf:∀b∈lM outer,H b=none
 hok:lz P w H s.heap
 bare:AllBare s.gens
noncomputable def CE(outer:List Env)(P:Yt)(w:World)(H:Hp)(s:Yw)(Q:VK)(u:Value)(s':Yw):Prop:=
 ∃v H',s'.os=s.os/\AllBare s'.gens/\Un (lM outer) [] H H' s.heap s'.heap/\lz P w H' s'.heap/\RelV v u/\Q v H'
noncomputable def CR(CX:E7)(outer:List Env)(P:Yt)(w:World)(H:Hp)(s:Yw)(Q:VK)(E:XK)(r:Result)(s':Yw):Prop:=
 match r with
 |.ok (.ret u)=>CE outer P w H s Q u s'
 |.ok _=>False
 |.error e=>CX outer H s E e s'
structure jT(P:Yt)(w:World)(K:Ym)(mg:Yi)(base:Heap)(CX:E7)(k:Nat)(f:Addr)(fd:FuncData)(ps:Yn)(sp:Sp):Prop where
 len:∀vs H Q E,sp vs H Q E->vs.length=ps.length
 run:∀(A:Yv) (outer:List Env) (s:Yw) (H:Hp) (args:Args) (us:Yl) (vs:List V) (Q:VK) (E:XK),bJ k A->yK P w K mg base A outer s H->BindsTo s fd args (ps.zip us)->Vals vs us->sp vs H Q E ->
  codeAny (model P w) A (.call (.ref f) args) (CR CX outer P w H s Q E) s
theorem jT.mono{P:Yt}{w:World}{K:Ym}{mg:Yi}{base:Heap}{CX:E7}{j k:Nat}{f:Addr}{fd:FuncData}{ps:Yn}{sp:Sp}(F:jT P w K mg base CX j f fd ps sp)(h:j<=k) :
  jT P w K mg base CX k f fd ps sp:=⟨F.len,λA outer s H args us vs Q E hr=>F.run A outer s H args us vs Q E (hr.mono h)⟩
theorem jT.imp{P:Yt}{w:World}{K:Ym}{mg:Yi}{base:Heap}{CX:E7}{k:Nat}{f:Addr}{fd:FuncData}{ps:Yn}{sp sp':Sp}(F:jT P w K mg base CX k f fd ps sp)
 (h:∀vs H Q E,sp' vs H Q E->sp vs H Q E):jT P w K mg base CX k f fd ps sp':=
 ⟨λvs H Q E q=>F.len vs H Q E (h _ _ _ _ q),λA outer s H args us vs Q E hr he hb hv hs=>F.run A outer s H args us vs Q E hr he hb hv (h _ _ _ _ hs)⟩
section
variable {X:Cx} {pins:Yf} {σ:St} {H:Hp} {s s':Yw}
theorem Inv.JT(I:Inv X pins σ H s):yK X.prog X.w X.K X.mg X.base X.A X.stack s H:=
 ⟨I.ok.frames,I.ok.mod,I.bs,UI I.ok.bsz I.sz,I.stack,I.yF,I.hok,I.bare⟩
theorem Inv.after{Q:VK}{u:Value}(I:Inv X pins σ H s)(h:CE X.stack X.prog X.w H s Q u s'):EP X pins σ Q u s':=by obtain⟨v,H',os,bare,un,hok,r,q⟩:=h;obtain⟨hh,g,d,t,os'⟩:=s';obtain rfl:os'=s.os:=os;exact⟨v,H',I.call (h':=hh) (g':=g) (d':=d) (t':=t) (ch:=[]) un hok bare (λb z=>absurd z (by simp)),r,q⟩
end
noncomputable def Al(sp:Sp)(dvs:List V)(E:XK)(t:TA):TE:=λσ H Q=>t σ H λvs H1=>sp (vs++dvs) H1 Q E
noncomputable def Binds(K:Ym)(fd:FuncData)(ps:Yn)(ds:Yl):Prop:=
 ∀(s:Yw) (us:Yl),K.In s.heap->(us++ds).length=ps.length->BindsTo s fd ⟨us,[]⟩ (ps.zip (us++ds))
theorem Binds.all{K:Ym}{fd:FuncData}{ps:Yn}(h:∀us:Yl,us.length=ps.length->bindArgs fd ⟨us,[]⟩=pure (ps.zip us)):Binds K fd ps []:=λs us _ hl=>by rw[List.append_nil]at hl ⊢;exact .of_eq (h us hl)
noncomputable def Passes(CX:E7)(X:Cx)(E:XK):Prop:=∀(pins:Yf) (σ:St) (H:Hp) (s:Yw) (e:Value) (s':Yw),Inv X pins σ H s->CX X.stack H s E e s'->X.xe e s'
section
variable {X:Cx} {CX:E7} {k:Nat} {f C:Addr} {fd:FuncData} {ps:Yn} {sp:Sp} {dvs:List V} {ds:Yl} {E:XK} {x m:Str} {p pos apos:Pos} {e o:Expr} {es:Yo} {ta:TE} {t:TA}
theorem B1{pins:Yf}{σ:St}{H:Hp}{s:Yw}{Q:VK}{us:Yl}{vs:List V}(F:jT X.prog X.w X.K X.mg X.base CX k f fd ps sp)(hr:bJ k X.A)(hb:Binds X.K fd ps ds)(hd:Vals dvs ds)(hx:Passes CX X E)
 (I:Inv X pins σ H s)(r:Vals vs us)(h:sp (vs++dvs) H Q E):wpAny (model X.prog X.w) X.A (call (.ref f) us) (EP X pins σ Q) X.xe s:=by
 have r2:Vals (vs++dvs) (us++ds):=r.append hd;have hl:(us++ds).length=ps.length:=by rw[<- r2.length];exact F.len _ _ _ _ h
 refine XT (WO (F.run X.A X.stack s H ⟨us,[]⟩ (us++ds) (vs++dvs) Q E hr I.JT (hb s us I.qb hl) r2 h) λr s' hq=>?_)
 cases r with
 |error e=>exact hx pins σ H s e s' I hq
 |ok fl=>
  cases fl with
  |ret u=>exact I.after hq
  |next=>exact False.elim hq
  |brk=>exact False.elim hq
  |cont=>exact False.elim hq
theorem JU(F:jT X.prog X.w X.K X.mg X.base CX k f fd ps sp)(hr:bJ k X.A)(hg:Gl X x)(hm:X.mg x=some (.ref f))(hk:PySem.W.keepIn X.K (.ref f)=true)(hb:Binds X.K fd ps ds)(hd:Vals dvs ds)(hx:Passes CX X E)
 (ha:PA X (e::es) t)(hdb:(x==("__debug__" : Str))=false:=by decide)(he:starEach (e::es) X.env=(false,eval e X.env)::starEach es X.env:=by rfl)(hpl:(backTo pos (starEach es X.env)).any (·.1)=false:=by rfl) :
  PE X (.Call (.Name x p) (e::es) [] pos) (Al sp dvs E t):=by
 intro pins s σ H Q I h;refine Vg (kz I hg hm ?_ hdb);refine Xk (h₀:=X.base) I.ok.mod.kin hk (bW (ha pos pins s σ H _ I h) λus s1 ⟨vs,H1,I1,r,q⟩=>⟨I1.qb,?_⟩) he hpl;exact B1 F hr hb hd hx I1 r q
theorem GN(F:jT X.prog X.w X.K X.mg X.base CX k f fd ps sp)(hr:bJ k X.A)(hg:Gl X x)(hm:X.mg x=some (.ref f))(hk:PySem.W.keepIn X.K (.ref f)=true)(hb:Binds X.K fd ps ds)(hd:Vals dvs ds)(hx:Passes CX X E)
 (hdb:(x==("__debug__" : Str))=false:=by decide):PE X (.Call (.Name x p) [] [] pos) (Al sp dvs E Ak):=by
 intro pins s σ H Q I h;refine Vg (kz I hg hm ?_ hdb);exact PySem.W.callWith_K0 I.qb hk (B1 (us:=[]) F hr hb hd hx I .nil h)
end
structure aM(N P:Yn)(sc:Scope):Prop where
 kind:sc.kind=.function
 co:sc.isCoroutine=false
 gen:sc.isGenerator=false
 nd:N.Nodup
 pre:N.take P.length=P
 par:∀x∈P,sc.names.lookup x=some .local\/sc.names.lookup x=some .cell
 nofree:∀y∈sc.names,y.2≠.free
theorem xD{kindOf:Str->Option NameKind}{x:Str}:∀{binds:List (Str×Value)} {m:Yi},(∀v,(x,v)∉binds)->bindL kindOf binds m x=m x
 | [],_,_=>rfl
 | (n,v)::r,m,h=>by
  unfold bindL;rw[xD λw hw=>h w (UD _ hw)];split
  ·have:x≠n:=by rintro rfl;exact h v UL
   simp[this]
  ·rfl
theorem xE{kindOf:Str->Option NameKind}{x:Str}:∀{binds:List (Str×Value)} {m:Yi},(∀v,(x,v)∉binds)->bindC kindOf binds m x=m x
 | [],_,_=>rfl
 | (n,v)::r,m,h=>by
  unfold bindC;rw[xE λw hw=>h w (UD _ hw)];split
  ·rfl
  ·have:x≠n:=by rintro rfl;exact h v UL
   simp[this]
theorem xF{kindOf:Str->Option NameKind}{x:Str}{v:Value}:∀{P:Yn} {vs:Yl} {i:Nat} {m:Yi},P.Nodup->P[i]?=some x->vs[i]?=some v->kindOf x=some .local ->
  bindL kindOf (P.zip vs) m x=some v
 | [],_,_,_,_,h,_,_=>by simp at h
 |_::_,[],_,_,_,_,h,_=>by simp at h
 |p::P,w::vs,0,m,nd,h1,h2,hk=>by simp at h1 h2;subst h1;subst h2;show bindL kindOf ((p,w)::P.zip vs) m p=_;unfold bindL;rw[xD λv hv=>(VN.mp nd).1 (WQ hv).1,if_pos hk];simp
 |p::P,w::vs,i+1,m,nd,h1,h2,hk=>by show bindL kindOf ((p,w)::P.zip vs) m x=_;unfold bindL;exact xF (i:=i) (VN.mp nd).2 (by simpa using h1) (by simpa using h2) hk
theorem xG{kindOf:Str->Option NameKind}{x:Str}{v:Value}:∀{P:Yn} {vs:Yl} {i:Nat} {m:Yi},P.Nodup->P[i]?=some x->vs[i]?=some v->kindOf x≠some .local ->
  bindC kindOf (P.zip vs) m x=some v
 | [],_,_,_,_,h,_,_=>by simp at h
 |_::_,[],_,_,_,_,h,_=>by simp at h
 |p::P,w::vs,0,m,nd,h1,h2,hk=>by simp at h1 h2;subst h1;subst h2;show bindC kindOf ((p,w)::P.zip vs) m p=_;unfold bindC;rw[xE λv hv=>(VN.mp nd).1 (WQ hv).1,if_neg hk];simp
 |p::P,w::vs,i+1,m,nd,h1,h2,hk=>by show bindC kindOf ((p,w)::P.zip vs) m x=_;unfold bindC;exact xG (i:=i) (VN.mp nd).2 (by simpa using h1) (by simpa using h2) hk
noncomputable def start(N:Yn)(vs:List V):St:=vs.map some++List.replicate (N.length-vs.length) none
noncomputable def fA(CX:E7)(P:Yt)(w:World)(K:Ym)(mg:Yi)(base:Heap)(N:Yn)(qual:Str)(scope:Scope)(f:Addr)(cd:Value)(A:Yv)(outer:List Env)(s:Yw)(H:Hp)(E:XK):Cx where
 prog:=P
 w:=w
 K:=K
 mg:=mg
 base:=base
 A:=A.deeper (envOfC qual scope s.heap.objs.size f cd)
 N:=N
 s₀:=s
 H₀:=H
 env:=envOfC qual scope s.heap.objs.size f cd
 outer:=outer
 stack:=envOfC qual scope s.heap.objs.size f cd::outer
 ex:=[]
 calm:=true
 fn:=λ_=>true
 pn:=[]
 xe:=λe s'=>wpAny (model P w) (A.deeper (envOfC qual scope s.heap.objs.size f cd)) (leaving (envOfC qual scope s.heap.objs.size f cd) e) (λ_ s''=>CX outer H s E e s'') (λe' s''=>CX outer H s E e' s'') s'
theorem Am{sc:Scope}{n:Nat}{x:Str}(h:sc.names.lookup x=some .cell):∃c,(cellsFrom n sc.names []).lookup x=some c:=by have q:=V5 sc.names n [] (.inl h);exact Wj.mp q
theorem rO{CX:E7}{P:Yt}{w:World}{K:Ym}{mg:Yi}{base:Heap}{N ps:Yn}{qual:Str}{scope:Scope}{f:Addr}{cd:Value}{A:Yv}{outer:List Env}{s s1:Yw}{H:Hp}{E:XK}{us:Yl}{vs:List V}
 (S:aM N ps scope)(hd:A.handled=none)(e0:yK P w K mg base A outer s H)(hl:vs.length=ps.length)(r:Vals vs us)
 (x:InCallC s s.heap.objs.size (bindL (envOfC qual scope s.heap.objs.size f cd).kindOf (ps.zip us) λ_=>none) (cellsFrom (s.heap.objs.size+1) scope.names []) (bindC (envOfC qual scope s.heap.objs.size f cd).kindOf (ps.zip us) λ_=>none) s1) :
  Inv (fA CX P w K mg base N qual scope f cd A outer s H E) [] (start N vs) H s1:=by
 have hpl:ps.length<=N.length:=by have:=WH List.length S.pre;rw[W5]at this;omega
 obtain⟨h1,tk,rfl,hk⟩:=x.done;have noA:∀b:Addr,b∉(fA CX P w K mg base N qual scope f cd A outer s H E).ex:=λb z=>absurd (show b∈([]:Yk)from z) (by simp)
 refine⟨⟨e0.mod,S.kind,rfl,rfl,Uy _,λy z c h1 h2=>?_,λy hy=>?_,λy c _ h=>?_,λ_=>hd,Around.frames_deeper e0.frames,.inr ⟨rfl,rfl⟩,λb z=>absurd z (noA b),e0.bs,e0.bsz,λb _ _=>noA b,λb z=>absurd z (noA b),e0.ky,e0.frf⟩,
  rfl,e0.bare,Un.kept hk,⟨_,x.toInCall.ns,λi y v h1 h2 h3=>?_⟩,λy c h=>⟨_,x.cell y c h⟩,e0.hok.fresh (Uy _),λy c h=>?_,λp hp=>absurd (show p∈([]:Yf)from hp) (by simp),e0.hok.kept hk,?_⟩
 ·exact name_of_addr x.apart (Vp h1) (Vp h2)
 ·have hy:scope.names.lookup y=some .cell\/scope.names.lookup y=some .free:=hy;rcases hy with hy|hy
  ·exact Am hy
  ·exact absurd rfl (S.nofree _ (Vp hy))
 ·exact WL (x.above y c (Vp h))
 ·have hi:i<vs.length:=by
   unfold start at h2;by_cases hi:i<vs.length
   ·exact hi
   ·rw[Vb (by simpa using hi)]at h2;rw[Ww]at h2;split at h2<;>cases h2
  have ha:vs[i]?=some v:=by
   unfold start at h2;rw[UX (by simpa using hi),Vs]at h2
   cases e:vs[i]? with
   |none=>rw[e]at h2;cases h2
   |some a=>rw[e]at h2;cases h2;rfl
  obtain⟨u,hu,rv⟩:=r.get ha;have hp:ps[i]?=some y:=by rw[<- S.pre,List.getElem?_take_of_lt (by omega)];exact h1
  have ndP:ps.Nodup:=by rw[<- S.pre];exact S.nd.sublist (List.take_sublist _ _)
  refine⟨u,rv,?_⟩;rcases S.par y (UO hp)with k|k
  ·exact .inl ⟨k,xF ndP hp hu k⟩
  ·obtain⟨c,e⟩:=Am (n:=s.heap.objs.size+1) k;refine .inr ⟨.inl k,c,e,?_⟩;have q:=x.cell y c e;rw[xG ndP hp hu (by show scope.names.lookup y≠_;rw[k];decide)]at q;exact q
 ·exact e0.hok.fresh (WL (x.above y c (Vp h)))
 ·unfold start;show _=N.length;rw[UP,US,VO];omega
theorem L8{CX:E7}{P:Yt}{w:World}{K:Ym}{mg:Yi}{base:Heap}{k:Nat}{f:Addr}{name qual:Str}{params:Arguments}{body:List Stmt}{scope:Scope}{dV kV doc pm cdv ct oc:Value}{an od:Option Addr}
 {osl:Yp}{N ps:Yn}{sp:Sp}(lk:K.lookup f=some ⟨oc,od,.func (PySem.W.fnOf name qual params body scope dV kV doc pm an cdv ct),osl⟩)(hcd:PySem.W.codeIn K cdv qual=true)(S:aM N ps scope)
 (len:∀vs H Q E,sp vs H Q E->vs.length=ps.length)
 (hbody:∀(A:Yv) (outer:List Env) (s:Yw) (H:Hp) (vs:List V) (Q:VK) (E:XK),bJ k (A.deeper (envOfC qual scope s.heap.objs.size f cdv))->sp vs H Q E ->
   ∃t,xB (fA CX P w K mg base N qual scope f cdv A outer s H E) body t/\t {nx:=λ_ H'=>Q .non H',rt:=Q} (start N vs) H) :
  jT P w K mg base CX (k+1) f (PySem.W.fnOf name qual params body scope dV kV doc pm an cdv ct) ps sp:=by
 refine⟨len,λA outer s H args us vs Q E hr e0 hb r hsp=>?_⟩;have hl:=len _ _ _ _ hsp;have KX:K.In s.heap:=e0.mod.kin.keeps λb o e=>(e0.bs b o e).1;have lim:s.heap.NoLimit:=e0.mod.nolimit.keeps λb o e=>(e0.bs b o e).1
 have hkind:∀y∈ps.zip us,scope.names.lookup y.1=some .local\/(scope.names.lookup y.1=some .cell/\((cellsFrom (s.heap.objs.size+1) scope.names []).lookup y.1).isSome=true):=by
  rintro⟨n,v⟩ hy;rcases S.par n (WQ hy).1 with q|q
  ·exact .inl q
  ·exact .inr ⟨q,V5 _ _ _ (.inl q)⟩
 refine XA hr.depth (KX _ _ lk) rfl S.co S.gen rfl (X1 KX hcd) (hb _ _ _ _ ?_);refine WY S.kind hkind λenv he s1 x=>?_;subst he;refine⟨lim.keeps x.toInCall.keep,codeAny_func ?_⟩;obtain⟨t,ht,hq⟩:=hbody A outer s H vs Q E (hr.deeper _) hsp;have I:Inv (fA CX P w K mg base N qual scope f cdv A outer s H E) [] (start N vs) H s1:=rO S hr.hd e0 hl r x;refine VA (ht [] s1 (start N vs) H _ I hq) (λfl s' hs=>?_) λe s' hs=>hs
 have fin:∀{σ':St} {H':Hp} {v:V} {u:Value},Inv (fA CX P w K mg base N qual scope f cdv A outer s H E) [] σ' H' s'->RelV v u->Q v H'->CE outer P w H s Q u s':=
  λ{σ' H' v u} J rv q=>⟨v,H',J.os,J.bare,J.base,J.hok,rv,q⟩
 cases fl with
 |ret u=>obtain⟨v,σ',H',J,rv,q⟩:=hs;exact fin J rv q
 |next=>obtain⟨σ',H',J,q⟩:=hs;exact fin (v:=V.non) (u:=Value.none) J rfl q
 |brk=>obtain⟨_,_,_,q⟩:=hs;exact False.elim q
 |cont=>obtain⟨_,_,_,q⟩:=hs;exact False.elim q
section
variable {X:Cx} {x:Str} {p pos:Pos} {e:Expr} {es:Yo} {t:TA} {id T:String} {r:List V->Hp->VK->Prop}
noncomputable def PV(r:List V->Hp->VK->Prop)(t:TA):TE:=λσ H Q=>t σ H λvs H1=>r vs H1 Q
theorem qh(hc:dC X (.builtin id) r)(hg:Gl X x)(hm:X.mg x=none)(hv:bootBuiltins x=some (.builtin id))(ha:PA X (e::es) t)(hn:x ≠ "__name__" := by decide)(hdb:(x==("__debug__" : Str))=false:=by decide)
 (he:starEach (e::es) X.env=(false,eval e X.env)::starEach es X.env:=by rfl)(hpl:(backTo pos (starEach es X.env)).any (·.1)=false:=by rfl):PE X (.Call (.Name x p) (e::es) [] pos) (PV r t):=by
 intro pins s σ H Q I h;refine Vg (pb I hg hm hv ?_ hn hdb);exact XB (bW (ha pos pins s σ H _ I h) (by rintro us s1 ⟨vs,H1,I1,r1,q1⟩;exact hc pins s1 σ H1 vs us Q I1 r1 q1)) he hpl
theorem E8(hc:dC X (.type T) r)(hg:Gl X x)(hm:X.mg x=none)(hv:bootBuiltins x=some (.type T))(ha:PA X (e::es) t)(hn:x ≠ "__name__" := by decide)(hdb:(x==("__debug__" : Str))=false:=by decide)
 (he:starEach (e::es) X.env=(false,eval e X.env)::starEach es X.env:=by rfl)(hpl:(backTo pos (starEach es X.env)).any (·.1)=false:=by rfl):PE X (.Call (.Name x p) (e::es) [] pos) (PV r t):=by
 intro pins s σ H Q I h;refine Vg (pb I hg hm hv ?_ hn hdb);exact V1 (bW (ha pos pins s σ H _ I h) (by rintro us s1 ⟨vs,H1,I1,r1,q1⟩;exact hc pins s1 σ H1 vs us Q I1 r1 q1)) he hpl
end
end L2
namespace HT
open PySem PyProof.Rows
section
variable {prog:Yt} {w:World} {A:Yv} {E:Ye} {s:Yw}
theorem JV{t b:Addr}{vs ws:Yl}{Q:Ye}(ht:IsTup s.heap t vs.toArray)(hb:IsTup s.heap b ws.toArray)(hv:vs≠[])
 (h1:ws=[]->Q (.ref t) s)(h2:ws≠[]->Q (.ref s.heap.objs.size) {s with heap:=s.heap.push {cls:=.type "tuple",data:=.seq (vs++ws).toArray}})
 (hsz:vs.length+ws.length<=sizeLine):wpAny (model prog w) A (binaryOp .Add (.ref t) (.ref b)) Q E s:=by
 obtain⟨⟨cls,dd,data,sl⟩,ho,hc,n,hd⟩:=id ht;obtain⟨⟨cls2,dd2,data2,sl2⟩,ho2,hc2,n2,hd2⟩:=id hb;simp only at hc hd hc2 hd2;subst hc hd hc2 hd2;have e:vs.toArray++ws.toArray=(vs++ws).toArray:=by simp
 by_cases hw:ws=[]
 ·exact concat_meets ⟨_,ho,rfl⟩ ⟨_,ho2,rfl⟩ noFill_tuple_add seq_tuple_add Xr Xl (Xd _ _)
   (tuple_addW1 t b vs.toArray ws.toArray n n2 dd dd2 sl sl2 (by simpa using hv) (by simp[hw])) ⟨ho,ho2,h1 hw⟩
 ·refine concat_meets ⟨_,ho,rfl⟩ ⟨_,ho2,rfl⟩ noFill_tuple_add seq_tuple_add Xr Xl (Xd _ _)
   (tuple_addW2 t b vs.toArray ws.toArray n n2 dd dd2 sl sl2 (by simpa using hv) (by simpa using hw) (by rw[UG,UG];exact hsz)) ⟨ho,ho2,?_⟩
  rw[e];exact h2 hw
noncomputable def eM(n d:Nat):Option Int->Nat
 |none=>d
 |some v=>if v<0 then(v+(n:Int)).toNat else min v.toNat n
theorem Nd(n d:Nat)(hd:d<=n)(o:Option Int):eM n d o<=n:=by
 cases o with
 |none=>exact hd
 |some v=>
  show(if v<0 then(v+(n:Int)).toNat else min v.toNat n)<=n;by_cases hv:v<0
  ·rw[if_pos hv];omega
  ·rw[if_neg hv];exact Nat.min_le_right _ _
theorem Dq(v:Int)(n d:Nat):(if v<0 then max (v+(n:Int)) 0 else min v (n:Int))=((eM n d (some v):Nat):Int):=by
 show(if v<0 then max (v+(n:Int)) 0 else min v (n:Int))=(((if v<0 then(v+(n:Int)).toNat else min v.toNat n):Nat):Int);by_cases hv:v<0
 ·simp only[if_pos hv];omega
 ·simp only[if_neg hv];omega
theorem B2(lo hi:Option Int)(n:Nat):Builtin.Slice.sliceAdjust lo hi 1 (n:Int)=(((eM n 0 lo:Nat):Int),((eM n n hi:Nat):Int)):=by
 have h1:¬ ((1:Int)<0):=by omega
 unfold Builtin.Slice.sliceAdjust;simp only[h1,Vr];refine Prod.ext ?_ ?_
 ·cases lo with
  |none=>rfl
  |some v=>exact Dq v n 0
 ·cases hi with
  |none=>rfl
  |some v=>exact Dq v n n
theorem B3(i j:Nat):Builtin.Slice.slicePlaces (i:Int) (j:Int) 1=j-i:=by
 unfold Builtin.Slice.slicePlaces;have h1:(1:Int)>0:=by omega
 simp only[h1,Vu,Int.ediv_one];split<;>omega
theorem uK{v:Value}{o:Option Int}{Q:Option Int->Yw->Prop}(p:IsPart v o)(h:Q o s):wpAny (model prog w) A (Builtin.Slice.slicePartIndex v) Q E s:=by
 cases p with
 |none=>exact slicePart_none h
 |int i t=>exact slicePart_int h
theorem jU{sl:Addr}{vl vu:Value}{lo hi:Option Int}{n:Nat}{Q:Int×Int×Nat->Yw->Prop}(hs:s.heap.IsSliceOf sl vl vu .none)(pl:IsPart vl lo)(pu:IsPart vu hi)
 (h:Q (((eM n 0 lo:Nat):Int),1,eM n n hi-eM n 0 lo) s):wpAny (model prog w) A (Builtin.Slice.sliceApplied (.ref sl) (pure (n:Int))) Q E s:=by
 obtain⟨os,hos,hcs,hds⟩:=id hs;unfold Builtin.Slice.sliceApplied Builtin.Slice.sliceFields;refine Uu (Uu (VD hos hds (x:=vl) rfl (Uu (VD hos hds (x:=vu) rfl (Uu (VD hos hds (x:=.none) rfl (Uw ?_)))))));refine Uu (slicePart_none ?_);show wpAny _ _ (if((1:Int)==0)=true then _ else _) _ _ s;rw[if_neg (by decide)];refine Uu (uK pl (Uu (uK pu (Uu (Uw ?_)))));show wpAny _ _ (match Builtin.Slice.sliceAdjust lo hi 1 (n:Int)with | (lo,hi)=>pure (lo,(1:Int),Builtin.Slice.slicePlaces lo hi 1)) _ _ s;rw[B2 lo hi n];show wpAny _ _ (pure (((eM n 0 lo:Nat):Int),(1:Int),Builtin.Slice.slicePlaces ((eM n 0 lo:Nat):Int) ((eM n n hi:Nat):Int) 1)) _ _ s;rw[B3];exact Uw h
theorem GO(xs:Yr)(i k:Nat):((List.range k).filterMap λ(m:Nat)=>xs[((i:Int)+(m:Int)*1).toNat]?).toArray=((xs.toList.drop i).take k).toArray:=by
 have e:(λ(m:Nat)=>xs[((i:Int)+(m:Int)*1).toNat]?)=λm=>xs[i+m]?:=by
  funext m
  have:((i:Int)+(m:Int)*1).toNat=i+m:=by omega
  rw[this]
 rw[e];have:=pick_run xs i k;rw[List.filterMap_map]at this;have e2:((λx=>xs[x]?)∘λx=>i+x)=λm=>xs[i+m]?:=rfl;rw[e2]at this;rw[this]
theorem qi{t sl:Addr}{items:Yr}{vl vu:Value}{lo hi:Option Int}{Q:Ye}(ht:IsTup s.heap t items)(hs:s.heap.IsSliceOf sl vl vu .none)(pl:IsPart vl lo)(pu:IsPart vu hi)
 (hw:¬ (eM items.size 0 lo=0/\eM items.size items.size hi=items.size))
 (h:Q (.ref s.heap.objs.size) {s with heap:=s.heap.push {cls:=.type "tuple",data:=.seq ((items.toList.drop (eM items.size 0 lo)).take (eM items.size items.size hi-eM items.size 0 lo)).toArray}})
 (hsz:items.size<=sizeLine):wpAny (model prog w) A (getItem (.ref t) (.ref sl)) Q E s:=by
 have htake:sizeOk (.seq ((items.toList.drop (eM items.size 0 lo)).take (eM items.size items.size hi-eM items.size 0 lo)).toArray):=by show((items.toList.drop (eM items.size 0 lo)).take (eM items.size items.size hi-eM items.size 0 lo)).toArray.size<=sizeLine;rw[UG,W5,Yb,Vo];omega
 have hj:eM items.size items.size hi<=items.size:=Nd _ _ (Uy _) hi;obtain⟨os,hos,hcs,hds⟩:=id hs;have hTs:s.TypeIs (.ref sl) "slice" := ⟨os,hos,hcs⟩;unfold getItem
 try with_reducible refine Va ?_
 first|refine Uu (Uw ?_)|skip
 refine Uu (wpAny_sequenceKey ht.typeIs (by decide) ?_)
 refine Uu (U9 (name:=Str.ofString "__getitem__") ht.typeIs Vl
  (U6 Vl ht.typeIs entry_tuple_getitem ?_ (args_tuple_getitem _ _)))
 show wpAny _ _ (Builtin.Tuple.tupleItemsOf (.ref t) >>= _) _ _ s;refine Uu (tupleItemsOf_ ht ?_);refine Uu (XC hTs ?_);rw[if_pos (by decide)];refine Uu (jU hs pl pu ?_);have hno:¬ ((((eM items.size 0 lo:Nat):Int)==0&&(1:Int)==1&&(eM items.size items.size hi-eM items.size 0 lo)==items.size)=true):=by intro q;rw[Ux,Ux]at q;have q1:((eM items.size 0 lo:Nat):Int)=0:=eq_of_beq q.1.1;have q2:eM items.size items.size hi-eM items.size 0 lo=items.size:=eq_of_beq q.2;exact hw ⟨by omega,by omega⟩
 show wpAny _ _ (if(((eM items.size 0 lo:Nat):Int)==0&&(1:Int)==1&&(eM items.size items.size hi-eM items.size 0 lo)==items.size)=true then _ else _) _ _ s;rw[if_neg hno,GO]
 first
  |exact Uu (m:=Builtin.Tuple.tupleExact _) (Vd (Uw ⟨_,rfl,Uw h⟩) htake)
  |exact Uu (m:=Builtin.Tuple.tupleExact _) (Vd (Uu (Uw (Uw ⟨_,rfl,Uw h⟩))) htake)
  |exact Uu (Uu (m:=Builtin.Tuple.tupleExact _) (Vd (Uw (Uw ⟨_,rfl,Uw h⟩)) htake))
  |exact Uu (Uu (m:=Builtin.Tuple.tupleExact _) (Vd (Uw ⟨_,rfl,Uw h⟩) htake))
end
end HT
namespace L2
open PySem PySem.Spec PyProof.Rows
noncomputable abbrev TO:=St->Hp->(Option Int->Hp->Prop)->Prop
noncomputable def PO(X:Cx)(e:Option Expr)(t:TO):Prop:=
 ∀(pins:Yf) (s:Yw) (σ:St) (H:Hp) (Q:Option Int->Hp->Prop),Inv X pins σ H s->t σ H Q ->
  wpAny (model X.prog X.w) X.A (evalPart e X.env) (λu s'=>∃o H',Inv X pins σ H' s'/\IsPart u o/\Q o H') X.xe s
def JW:TO:=λ_ H Q=>Q none H
noncomputable def PX(t:TE):TO:=λσ H Q=>t σ H λx H1=>∃i,x=.int i/\Q (some i) H1
section
variable {X:Cx} {e:Expr} {te:TE} {lo hi:Option Expr} {tl th:TO} {pos p2:Pos}
theorem JX:PO X none JW:=by intro pins s σ H Q I h;rw[evalPart_none];exact Uw ⟨none,H,I,.none,h⟩
theorem JY(h:PE X e te):PO X (some e) (PX te):=by intro pins s σ H Q I hw;rw[evalPart_some];refine bW (h pins s σ H _ I hw) λu s1 ⟨x,H1,I1,r1,q1⟩=>?_;obtain⟨i,rfl,q⟩:=q1;obtain⟨t,rfl⟩:=r1;exact⟨some i,H1,I1,.int i t,q⟩
noncomputable def Pe(X:Cx)(r:V->Option Int->Option Int->Hp->VK->Prop):Prop:=
 ∀(pins:Yf) (s:Yw) (σ:St) (H:Hp) (x:V) (v vl vu:Value) (lo hi:Option Int) (sl:Addr) (Q:VK),Inv X pins σ H s->RelV x v->s.heap.IsSliceOf sl vl vu .none->IsPart vl lo->IsPart vu hi->r x lo hi H Q ->
  ∃T id,typeLookup (.type T) "__getitem__" = pure (some (.builtin id))/\s.TypeIs v T/\wpAny (model X.prog X.w) X.A (getItem v (.ref sl)) (EP X pins σ Q) X.xe s
noncomputable def T7(r:V->Option Int->Option Int->Hp->VK->Prop)(te:TE)(tl th:TO):TE:=λσ H Q=>te σ H λx H1=>tl σ H1 λl H2=>th σ H2 λu H3=>r x l u H3 Q
theorem An{r:V->Option Int->Option Int->Hp->VK->Prop}(hr:Pe X r)(he:PE X e te)(hl:PO X lo tl)(hu:PO X hi th):PE X (.Subscript e (.Slice lo hi none p2) pos) (T7 r te tl th):=by intro pins s σ H Q I h;refine Subscript_ (bW (he pins s σ H _ I h) λv s1 ⟨x,H1,I1,r1,q1⟩=>?_);refine wpAny_Slice (bW (hl pins s1 σ H1 _ I1 q1) λvl s2 ⟨l,H2,I2,pl,q2⟩=>bW (hu pins s2 σ H2 _ I2 q2) λvu s3 ⟨u,H3,I3,pu,q3⟩=>?_);rw[evalPart_none];refine Uw ?_;have I4:Inv X pins σ H3 {s3 with heap:=s3.heap.push {cls:=.type "slice",data:=.fields #[vl,vu,.none]}}:=I3.kept (t':=s3.toks) λb ob q=>Uv _ q;obtain⟨T,id,hT,ht,hg⟩:=hr pins {s3 with heap:=s3.heap.push {cls:=.type "slice",data:=.fields #[vl,vu,.none]}} σ H3 x v vl vu l u s3.heap.objs.size Q I4 r1 (Heap.IsSliceOf.new ..) pl pu q3;show wpAny (model X.prog X.w) X.A (subscriptTail e (.Slice lo hi none p2) v (.ref s3.heap.objs.size)) (EP X pins σ Q) X.xe {s3 with heap:=s3.heap.push {cls:=.type "slice",data:=.fields #[vl,vu,.none]}};exact tail_any (ops:=[.ref s3.heap.objs.size,v]) ht hT hg (by with_unfolding_all rfl)
noncomputable def wW(xs:List V)(lo hi:Option Int):List V:=(xs.drop (HT.eM xs.length 0 lo)).take (HT.eM xs.length xs.length hi-HT.eM xs.length 0 lo)
theorem sV(xs:List V)(lo hi:Option Int):(wW xs lo hi).length<=xs.length:=by unfold wW;rw[W5,Yb];omega
noncomputable def R0(K:Ym):V->Option Int->Option Int->Hp->VK->Prop:=λx lo hi H Q=>∃a xs,x=.ref a/\gO K H a xs /\
 ¬ (HT.eM xs.length 0 lo=0/\HT.eM xs.length xs.length hi=xs.length)/\∀p,H p=none->Q (.ref p) (upd H p (.tup (wW xs lo hi)))
theorem Nf:Pe X (R0 X.K):=by
 intro pins s σ H x v vl vu lo hi sl Q I rx hs pl pu h;obtain⟨a,xs,rfl,hx,hw,q⟩:=h;cases rx;obtain⟨its,r,ht,hz⟩:=I.tuple hx;have hlen:its.toArray.size=xs.length:=by rw[UG];exact r.length.symm
 refine⟨"tuple",_,Vl.lookup,ht.typeIs,?_⟩;refine HT.qi ht hs pl pu (by rw[hlen];exact hw) ?_ (by rw[hlen];exact hz);rw[hlen];refine⟨.ref s.heap.objs.size,_,I.laid (t':=s.toks) (o:=.tup (wW xs lo hi)) (λb ob q=>Uv _ q) (Uy _) ?_,rfl,q _ (I.hok.fresh (Uy _))⟩;exact⟨UI (sV xs lo hi) hz,_,(r.drop (HT.eM xs.length 0 lo)).take (HT.eM xs.length xs.length hi-HT.eM xs.length 0 lo),IsTup.new _ _⟩
noncomputable def PY(K:Ym):R2:=λx y H Q=>∃a b xs ys,x=.ref a/\y=.ref b/\gO K H a xs/\gO K H b ys/\xs≠[]/\xs.length+ys.length<=sizeLine /\
 (ys=[]->Q (.ref a) H)/\(ys≠[]->∀p,H p=none->Q (.ref p) (upd H p (.tup (xs++ys))))
theorem Vals.yL{xs:List V}{us:Yl}(r:Vals xs us):us=[]<->xs=[]:=by
 cases r with
 |nil=>simp
 |cons _ _=>simp
theorem JZ:i6 X (binaryOp .Add) (PY X.K):=by intro pins s σ H x y v u Q I rx ry h;obtain⟨a,b,xs,ys,rfl,rfl,ha,hb,hx,hz,q1,q2⟩:=h;cases rx;cases ry;obtain⟨its,r1,p1,_⟩:=I.tuple ha;obtain⟨its2,r2,p2,_⟩:=I.tuple hb;refine HT.JV p1 p2 (λz=>hx (r1.yL.mp z)) (λz=>⟨.ref a,H,I,rfl,q1 (r2.yL.mp z)⟩) (λz=>?_) (by rw[<- r1.length,<- r2.length];exact hz);refine⟨.ref s.heap.objs.size,_,I.laid (t':=s.toks) (o:=.tup (xs++ys)) (λb ob q=>Uv _ q) (Uy _) ?_,rfl,q2 (λw=>z (r2.yL.mpr w)) _ (I.hok.fresh (Uy _))⟩;exact⟨by rw[UP];exact hz,_,r1.append r2,IsTup.new _ _⟩
end
noncomputable def wX(n:Nat)(i:Int):Option Nat:=if 0<=i then(if i<n then some i.toNat else none)else if -(n:Int)<=i then some (i+n).toNat else none
noncomputable def lV{α:Type}(xs:List α)(i:Int):Option α:=(wX xs.length i).bind λj=>xs[j]?
theorem Dr{n:Nat}{i:Int}{j:Nat}(h:wX n i=some j):seqIndex? i n=some j/\j<n/\-(n:Int)<=i/\i<n:=by
 unfold wX at h;by_cases h0:0<=i
 ·rw[if_pos h0]at h;by_cases h1:i<n
  ·rw[if_pos h1]at h;have e:i.toNat=j:=Vk h;exact⟨by rw[seqIndex_of h0 h1,e],by omega,by omega,h1⟩
  ·rw[if_neg h1]at h;cases h
 ·rw[if_neg h0]at h;by_cases h1:-(n:Int)<=i
  ·rw[if_pos h1]at h;have e:(i+n).toNat=j:=Vk h;exact⟨by rw[seqIndex_neg (by omega) h1,e],by omega,h1,by omega⟩
  ·rw[if_neg h1]at h;cases h
theorem Ds{α:Type}{xs:List α}{i:Int}{v:α}(h:lV xs i=some v):∃j,seqIndex? i xs.length=some j/\xs[j]?=some v/\j<xs.length/\-(xs.length:Int)<=i/\i<xs.length:=by
 unfold lV at h
 cases e:wX xs.length i with
 |none=>rw[e]at h;cases h
 |some j=>rw[e]at h;obtain⟨h1,h2,h3,h4⟩:=Dr e;exact⟨j,h1,h,h2,h3,h4⟩
theorem kA{α:Type}{xs:List α}{j:Nat}{v:α}(h:xs[j]?=some v):lV xs (j:Int)=some v:=by
 have hj:j<xs.length:=(UB.mp h).1;have e:wX xs.length (j:Int)=some j:=by unfold wX;rw[if_pos (by omega),if_pos (by omega)];simp
 unfold lV;rw[e];exact h
noncomputable def Dt(b:Expr):Prop:=∀o i,subscripted b false o i=operate [o,i] (getItem o i)
noncomputable def Pf(X:Cx)(r:R2):Prop:=
 ∀(value slice:Expr) (pins:Yf) (s:Yw) (σ:St) (H:Hp) (x y:V) (v u:Value) (Q:VK),Inv X pins σ H s->RelV x v->RelV y u->r x y H Q ->
  subscripted slice false v u=operate [v,u] (getItem v u)->wpAny (model X.prog X.w) X.A (subscriptTail value slice v u) (EP X pins σ Q) X.xe s
noncomputable def T8(X:Cx)(id:String)(r:V->List V->Hp->VK->Prop):Prop:=
 ∀(pins:Yf) (s:Yw) (σ:St) (H:Hp) (x:V) (xs:List V) (v:Value) (us:Yl) (Q:VK),Inv X pins σ H s->RelV x v->Vals xs us->r x xs H Q ->
  wpAny (model X.prog X.w) X.A (call (.builtin id) (v::us)) (EP X pins σ Q) X.xe s
section
variable {X:Cx} {a b:Expr} {ta tb:TE} {pos:Pos}
theorem L9{r:R2}(hr:Pf X r)(ha:PE X a ta)(hb:PE X b tb)(hs:Dt b):PE X (.Subscript a b pos) (Pd r ta tb):=by intro pins s σ H Q I h;exact Subscript_ (M0 ha hb I h λv u s2 x y H2 I2 rx ry q=>hr a b pins s2 σ H2 x y v u Q I2 rx ry q (hs _ _))
noncomputable def R1(K:Ym):R2:=λx y H Q=>∃p xs i v,x=.ref p/\y=.int i/\i8 K H p xs/\lV xs i=some v/\Q v H
noncomputable def R3(K:Ym):R2:=λx y H Q=>∃p xs i v,x=.ref p/\y=.int i/\gO K H p xs/\lV xs i=some v/\Q v H
theorem um:Pf X (R1 X.K):=by
 intro value slice pins s σ H x y v u Q I rx ry h hs;obtain⟨p,xs,i,z,rfl,rfl,hq,he,q⟩:=h;cases rx;obtain⟨t,rfl⟩:=ry;obtain⟨its,r,pl,hz⟩:=I.list hq;obtain⟨j,h1,h2,h3,h4,h5⟩:=Ds he;obtain⟨w,ew,rw'⟩:=r.get h2;have hl:=r.length;have hn:=uJ;have fin:EP X pins σ Q w s:=⟨z,H,I,rw',q⟩;by_cases h0:0<=i
 ·have hj:i.toNat=j:=by
   rw[seqIndex_of h0 h5]at h1;exact Vk h1
  exact item_listR pl.isList h0 (by omega) (by rw[hj];simpa using ew) fin hs
 ·have hj:(i+(its.toArray.size:Int)).toNat=j:=by
   rw[seqIndex_neg (by omega) h4]at h1;rw[UG,<- hl];exact Vk h1
  exact subscriptTail_builtinR (x:=w) pl.isList.typeIs slot_list_getitem.lookup
   (wpAny_getItem_list_neg (Q:=λr s'=>r=w/\EP X pins σ Q r s') pl.isList (by omega) (by rw[UG]<;>omega) (by omega) (by rw[hj];simpa using ew) ⟨rfl,fin⟩) hs
theorem Ng:Pf X (R3 X.K):=by
 intro value slice pins s σ H x y v u Q I rx ry h hs;obtain⟨p,xs,i,z,rfl,rfl,hq,he,q⟩:=h;cases rx;obtain⟨t,rfl⟩:=ry;obtain⟨its,r,pl,hz⟩:=I.tuple hq;obtain⟨j,h1,h2,h3,h4,h5⟩:=Ds he;obtain⟨w,ew,rw'⟩:=r.get h2;have hl:=r.length;have hn:=uJ;have fin:EP X pins σ Q w s:=⟨z,H,I,rw',q⟩
 exact subscriptTail_builtinR (x:=w) pl.typeIs slot_tuple_getitem.lookup
  (getItem_tuple (j:=j) (Q:=λr s'=>r=w/\EP X pins σ Q r s') pl (by omega) (by omega) (by rw[UG,<- hl];exact h1) (by simpa using ew) ⟨rfl,fin⟩) hs
theorem B4(its:Yl)(n j:Nat)(u:Value):Obj.mapSeq (·.setIfInBounds j u) {cls:=.type "list",data:=.seq its.toArray n}={cls:=.type "list",data:=.seq (its.set j u).toArray n}:=by simp[Obj.mapSeq]
theorem Inv.lst{pins:Yf}{σ:St}{H:Hp}{s:Yw}{p:Addr}{xs:List V}(I:Inv X pins σ H s)(h:H p=some (.lst xs)) :
  ∃(its:Yl) (n:Nat),Vals xs its/\s.heap.get? p=some {cls:=.type "list",data:=.seq its.toArray n}/\xs.length<=sizeLine:=by
 obtain⟨z,its,n,r,e⟩:=I.hok p _ h;exact⟨its,n,r,e,z⟩
theorem Inv.Nh{pins:Yf}{σ:St}{H:Hp}{s:Yw}{p:Addr}{xs ys:List V}{its its':Yl}{n n':Nat}{f:Obj->Obj}(I:Inv X pins σ H s)(h:H p=some (.lst xs))
 (ho:s.heap.get? p=some {cls:=.type "list",data:=.seq its.toArray n})(hf:f {cls:=.type "list",data:=.seq its.toArray n}={cls:=.type "list",data:=.seq its'.toArray n'})(r:Vals ys its')(hz:ys.length<=sizeLine)(t:Nat) :
  Inv X pins σ (upd H p (.lst ys)) {s with heap:=s.heap.update p f,toks:=t}:=by
 have e:(s.heap.update p f).get? p=some {cls:=.type "list",data:=.seq its'.toArray n'}:=by rw[VP f ho (by rw[hf]<;>rfl),hf]
 refine I.write (x:=p) (e:=p) (by rw[h];trivial) (.inl rfl) (λb u hb q=>(WG _ _ (WZ hb)).trans q) ⟨_,e⟩ ?_;exact⟨hz,its',n',r,e⟩
noncomputable def Ma:V->V->V->Hp->(Hp->Prop)->Prop:=λo i v H Q=>∃p xs k j,o=.ref p/\i=.int k/\H p=some (.lst xs)/\wX xs.length k=some j/\Q (upd H p (.lst (xs.set j v)))
theorem set_list:MU X Ma:=by
 intro pins s σ H o i v ov iv u Q I ro ri rv h;obtain⟨p,xs,k,j,rfl,rfl,hp,hj,q⟩:=h;cases ro;obtain⟨t,rfl⟩:=ri;obtain⟨its,n,r,ho,hz⟩:=I.lst hp;obtain⟨h1,h2,h3,h4⟩:=Dr hj;have hl:=r.length;have hn:=uJ
 have I':Inv X pins σ (upd H p (.lst (xs.set j v))) {s with heap:=s.heap.update p (Obj.mapSeq (·.setIfInBounds j u))}:=
  I.Nh hp ho (B4 its n j u) (r.set rv j) (by rw[List.length_set];exact hz) s.toks
 by_cases h0:0<=k
 ·have hk:k.toNat=j:=by
   rw[seqIndex_of h0 h4]at h1;exact Vk h1
  exact PySem.W.ki_setAt ho h0 (by omega) (by rw[UG,<- hl];exact h4) (by rw[hk];exact⟨_,I',q⟩)
 ·have hk:(k+(its.toArray.size:Int)).toNat=j:=by
   rw[seqIndex_neg (by omega) h3]at h1;rw[UG,<- hl];exact Vk h1
  exact PySem.W.ki_setBack ho (by omega) (by rw[UG,<- hl];exact h3) (by omega) (by rw[hk];exact⟨_,I',q⟩)
theorem yM(lo hi:Option Int)(n:Nat):(sliceBounds lo hi none n).1=((HT.eM n 0 lo:Nat):Int)/\(sliceBounds lo hi none n).2.1=((HT.eM n n hi:Nat):Int)/\(sliceBounds lo hi none n).2.2=1:=by
 refine⟨?_,?_,rfl⟩
 ·cases lo with
  |none=>simp[sliceBounds,HT.eM]
  |some i=>
   simp only[sliceBounds,HT.eM,Option.getD_none,show(1:Int)>0 by decide,Vu];by_cases h:i<0
   ·simp only[h,Vu]<;>omega
   ·simp only[h,Vr]<;>omega
 ·cases hi with
  |none=>simp[sliceBounds,HT.eM]
  |some i=>
   simp only[sliceBounds,HT.eM,Option.getD_none,show(1:Int)>0 by decide,Vu];by_cases h:i<0
   ·simp only[h,Vu]<;>omega
   ·simp only[h,Vr]<;>omega
theorem wY(its:Yl)(lo hi:Option Int):slicePick its.toArray lo hi none=((its.drop (HT.eM its.length 0 lo)).take (HT.eM its.length its.length hi-HT.eM its.length 0 lo)).toArray:=by obtain⟨h1,h2,h3⟩:=yM lo hi its.toArray.size;unfold slicePick;rw[h1,h2,h3];simp only[sliceRange_one,pick_run,UG]<;>rfl
noncomputable def R4(K:Ym):V->Option Int->Option Int->Hp->VK->Prop:=λx lo hi H Q=>∃a xs,x=.ref a/\i8 K H a xs/\∀p,H p=none->Q (.ref p) (upd H p (.lst (wW xs lo hi)))
theorem Du:Pe X (R4 X.K):=by intro pins s σ H x v vl vu lo hi sl Q I rx hs pl pu h;obtain⟨a,xs,rfl,hx,q⟩:=h;cases rx;obtain⟨its,r,ht,hz⟩:=I.list hx;have hlen:=r.length;refine⟨"list",_,slot_list_getitem.lookup,ht.isList.typeIs,?_⟩;refine wpAny_getItem_list_slice ht.isList hs pl pu .none (by simp) ?_ (by rw[UG]<;>omega);rw[wY,<- hlen];refine⟨.ref s.heap.objs.size,_,I.laid (t':=s.toks) (o:=.lst (wW xs lo hi)) (λb ob q=>Uv _ q) (Uy _) ?_,rfl,q _ (I.hok.fresh (Uy _))⟩;exact⟨UI (sV xs lo hi) hz,_,0,(r.drop (HT.eM xs.length 0 lo)).take (HT.eM xs.length xs.length hi-HT.eM xs.length 0 lo),UA _ rfl⟩
theorem dC.or{f:Value}{r r':List V->Hp->VK->Prop}(h:dC X f r)(h':dC X f r'):dC X f (λxs H Q=>r xs H Q\/r' xs H Q):=by
 intro pins s σ H xs us Q I rs q;rcases q with q|q
 ·exact h pins s σ H xs us Q I rs q
 ·exact h' pins s σ H xs us Q I rs q
theorem yN:dC X (.type "list") (λxs H Q=>∃p ys,xs=[.ref p]/\(i8 X.K H p ys\/gO X.K H p ys)/\∀l,H l=none->Q (.ref l) (upd H l (.lst ys))):=by
 intro pins s σ H xs us Q I r h;obtain⟨p,ys,rfl,hq,q⟩:=h;obtain⟨u,rfl,rx⟩:=vals1 r;cases rx
 have fin:∀(its:Yl),Vals ys its->ys.length<=sizeLine->∀(h':Heap) (c':Nat),(∀b o',s.heap.get? b=some o'->h'.get? b=some o') ->
   h'.get? s.heap.objs.size=some {cls:=.type "list",dict:=none,data:=.seq its.toArray c',slots:=#[]}->EP X pins σ Q (.ref s.heap.objs.size) {s with heap:=h'}:=λits r' hz h' c' kp e=>
  ⟨.ref s.heap.objs.size,_,I.laid (t':=s.toks) kp (Uy _) (show bM X.prog X.w _ h' _ (.lst ys)from⟨hz,its,c',r',e⟩),rfl,q _ (I.hok.fresh (Uy _))⟩
 rcases hq with hq|hq
 ·obtain⟨its,r',pl,hz⟩:=I.list hq;have hlen:=r'.length;obtain⟨o,ho,hc,n,hd⟩:=pl.isList;exact call_list_seq p (.inl rfl) ho hc hd (λh' c' kp e=>fin its r' hz h' c' kp e) (by simp only[UG]<;>omega)
 ·obtain⟨its,r',pl,hz⟩:=I.tuple hq;have hlen:=r'.length;obtain⟨o,ho,hc,n,hd⟩:=pl;exact call_list_seq p (.inr rfl) ho hc hd (λh' c' kp e=>fin its r' hz h' c' kp e) (by simp only[UG]<;>omega)
theorem wZ:dC X (.type "tuple") (λxs H Q=>∃p ys,xs=[.ref p]/\((i8 X.K H p ys/\∀l,H l=none->Q (.ref l) (upd H l (.tup ys)))\/(gO X.K H p ys/\Q (.ref p) H))):=by
 intro pins s σ H xs us Q I r h;obtain⟨p,ys,rfl,h⟩:=h;obtain⟨u,rfl,rx⟩:=vals1 r;cases rx;rcases h with⟨hq,q⟩|⟨hq,q⟩
 ·obtain⟨its,r',pl,hz⟩:=I.list hq;have hlen:=r'.length;refine call_tuple_list pl.isList (λh' kp=>?_) (by simp only[UG]<;>omega);have I1:Inv X pins σ H {s with heap:=h'}:=I.kept (t':=s.toks) kp
  have I2:Inv X pins σ (upd H h'.objs.size (.tup ys)) {s with heap:=h'.push {cls:=.type "tuple",data:=.seq its.toArray}}:=
   I1.laid (t':=s.toks) (λb o e=>Uv _ e) (Uy _) (show bM X.prog X.w _ _ _ (.tup ys)from⟨hz,its,r',IsTup.new _ _⟩)
  exact⟨.ref h'.objs.size,_,I2,rfl,q _ (I1.hok.fresh (Uy _))⟩
 ·obtain⟨its,r',pl,hz⟩:=I.tuple hq;exact call_tuple_same pl ⟨.ref p,H,I,rfl,q⟩
noncomputable def To(K:Ym)(T:String)(x:V)(H:Hp):Prop:=match x with
 |.str _=>T = "str"
 |.int _=>T = "int"
 |.ref p=>(T = "list" /\ ∃xs,i8 K H p xs)\/(T = "tuple" /\ ∃o,K.lookup p=some o/\o.cls=.type "tuple" /\ o.dict=none) \/
   (T = "dict" /\ ((∃kvs,H p=some (.dK kvs))\/∃kvs,H p=some (.dT kvs)))\/(T = "set" /\ ∃S n,H p=some (.set S n))
 |_=>False
theorem Ni{pins:Yf}{σ:St}{H:Hp}{s:Yw}{T:String}{x:V}{v:Value}(I:Inv X pins σ H s)(r:RelV x v)(ty:To X.K T x H) :
  s.TypeIs v T/\∀a,v=.ref a->∃ob,s.heap.get? a=some ob/\ob.dict=none:=by
 cases x with
 |str z=>obtain⟨t,rfl⟩:=r;cases(show T = "str" from ty);exact⟨typeIs_str s z t,λ_ e=>nomatch e⟩
 |int i=>obtain⟨t,rfl⟩:=r;cases(show T = "int" from ty);exact⟨typeIs_int s i t,λ_ e=>nomatch e⟩
 |ref p=>
  cases r;rcases ty with⟨rfl,xs,hq⟩|⟨rfl,o,hk,hc,hd⟩|⟨rfl,hk⟩|⟨rfl,S,n,hk⟩
  ·obtain⟨its,_,pl,_⟩:=I.list hq;refine⟨pl.isList.typeIs,λa e=>?_⟩;cases e;obtain⟨o,n,e,c,hd,_⟩:=pl;exact⟨o,e,hd⟩
  ·refine⟨⟨o,I.qb p o hk,hc⟩,λa e=>?_⟩;cases e;exact⟨o,I.qb _ o hk,hd⟩
  ·have z:∃o,s.heap.get? p=some o/\o.ExactDict:=by
    rcases hk with⟨kvs,hk⟩|⟨kvs,hk⟩
    ·obtain⟨_,_,_,_,o,_,_,e,ex,_⟩:=I.hok p _ hk;exact⟨o,e,ex⟩
    ·obtain⟨_,_,_,_,o,_,_,e,ex,_⟩:=I.hok p _ hk;exact⟨o,e,ex⟩
   obtain⟨o,e,ex⟩:=z;refine⟨⟨o,e,ex.1⟩,λa e2=>?_⟩;cases e2;exact⟨o,e,ex.2.1⟩
  ·obtain⟨o,_,_,_,e,ex,_⟩:=I.hok p _ hk;refine⟨⟨o,e,ex.1⟩,λa e2=>?_⟩;cases e2;exact⟨o,e,ex.2.1⟩
 |_=>exact False.elim ty
noncomputable def Tp(K:Ym)(T:String)(r:V->List V->Hp->VK->Prop)(to:TE)(t:TA):TE:=λσ H Q=>to σ H λx H1=>To K T x H1/\t σ H1 λxs H2=>r x xs H2 Q
variable {o e:Expr} {es:Yo} {to:TE} {t:TA} {name:Str} {apos cpos:Pos} {T id:String} {r:V->List V->Hp->VK->Prop}
theorem Dv(pa:PlainAttrs T)(slot:Slot T name id)(hty:typeOf (.builtin id)=pure (.type "method_descriptor"))(hm:T8 X id r)(ho:PE X o to)(ha:PA X (e::es) t)
 (hbase:attributeBase o name X.env (eval o X.env)=eval o X.env:=by rfl)
 (hfew:((backTo cpos (starEach (e::es) X.env)).all (λx=>!x.1)&&(backToKw cpos (keywordEach [] X.env)).all (λx=>x.1.isSome)
   && decide ((e::es).length+([]:List Keyword).length+(if([]:List Keyword).isEmpty then 0 else 1)<30))=true:=by rfl)
 (hline:(apos.endLine==cpos.line)=true:=by rfl)(hs:starEach (e::es) X.env=(false,eval e X.env)::starEach es X.env:=by rfl)(hplain:(backTo cpos (starEach es X.env)).any (·.1)=false:=by rfl) :
  PE X (.Call (.Attribute o name apos) (e::es) [] cpos) (Tp X.K T r to t):=by
 intro pins s σ H Q I h;refine wpAny_Call_method_late hbase hfew hline rfl (bW (ho pins s σ H _ I h) λv s1 ⟨x,H1,I1,r1,ty,q1⟩=>?_);obtain⟨h1,h2⟩:=Ni I1 r1 ty;refine⟨T,id,pa,slot,hty,h1,h2,?_⟩;have hA:=ha cpos pins s1 σ H1 _ I1 q1;rw[hs]at hA ⊢;refine Calls.callWith_builtin (by show(false || (backTo cpos (starEach es X.env)).any (·.1))=false;rw[hplain]<;>rfl) (XO ?_);exact bW hA (by rintro us s2 ⟨vs,H2,I2,r2,q2⟩;exact hm pins s2 σ H2 x vs v us Q I2 r1 r2 q2)
end
noncomputable def Rb(X:Cx)(id:String)(r:V->List V->Hp->VK->Prop):Prop:=
 ∀(pins:Yf) (s:Yw) (σ:St) (H:Hp) (x:V) (xs:List V) (v:Value) (us:Yl) (Q:VK),Inv X pins σ H s->RelV x v->Vals xs us->r x xs H Q ->
  wpAny (model X.prog X.w) X.A (call (.builtin id) (v::us)) (EP X pins σ Q) X.xe s
theorem Vals.one:∀{x:V} {us:Yl},Vals [x] us->∃u,us=[u]/\RelV x u
 |_,_,.cons r .nil=>⟨_,rfl,r⟩
theorem Vals.eraseIdx:∀{xs:List V} {us:Yl} (i:Nat),Vals xs us->Vals (xs.eraseIdx i) (us.eraseIdx i)
 |_,_,_,.nil=>.nil
 |_,_,0,.cons _ t=>t
 |_,_,i+1,.cons r t=>.cons r (Vals.eraseIdx i t)
theorem Vals.rep{xs:List V}{us:Yl}(h:Vals xs us):∀k:Nat,Vals (List.replicate k xs).flatten (List.replicate k us).flatten
 |0=>.nil
 |k+1=>by rw[Wx,Wx,Xt,Xt];exact Vals.append h (Vals.rep h k)
theorem xH{α:Type}:∀(l:List α) (i:Nat),(l.eraseIdx i).length<=l.length
 | [],_=>Uy _
 |_::_,0=>VU _
 |_::r,i+1=>Nat.succ_le_succ (xH r i)
theorem foldl_rep(its:Yl):∀(k:Nat) (acc:Yl),
  List.foldl (λx1 x2=>x1++x2) acc.toArray (List.replicate k its.toArray)=(acc++(List.replicate k its).flatten).toArray
 |0,acc=>by simp
 |k+1,acc=>by
  have e:acc.toArray++its.toArray=(acc++its).toArray:=by simp
  have e2:(acc++its)++(List.replicate k its).flatten=acc++(List.replicate (k+1) its).flatten:=by rw[Wx,Xt,X7]
  rw[<- e2,<- foldl_rep its k (acc++its),<- e,Wx,List.foldl_cons]
section
variable {X:Cx} {pins:Yf} {σ:St} {H:Hp} {s:Yw} {l b:Addr} {xs ys zs:List V}
theorem Inv.PZ{its its':Yl}{n:Nat}{f:Yr->Yr}{t':Nat}(I:Inv X pins σ H s)(hH:H l=some (.lst xs))
 (e:s.heap.get? l=some {cls:=.type "list",data:=.seq its.toArray n})(hf:f its.toArray=its'.toArray)(hv:Vals ys its')(hz:ys.length<=sizeLine) :
  Inv X pins σ (upd H l (.lst ys)) {s with heap:=s.heap.update l (Obj.mapSeq f),toks:=t'}:=by
 have q:=PySem.IsL.update e f;rw[hf]at q;refine I.write (x:=l) (e:=l) (by rw[hH];exact trivial) (.inl rfl) (λb' u hb hu=>(WG s.heap (Obj.mapSeq f) (WZ hb)).trans hu) ⟨_,q⟩ ?_;exact⟨hz,its',_,hv,q⟩
theorem Inv.P0{its:Yl}{t':Nat}(I:Inv X pins σ H s)(hv:Vals ys its)(hz:ys.length<=sizeLine) :
  Inv X pins σ (upd H s.heap.objs.size (.lst ys)) {s with heap:=s.heap.push {cls:=.type "list",data:=.seq its.toArray},toks:=t'}:=
 I.laid (λ_ _ q=>Uv _ q) (Uy _) ⟨hz,its,0,hv,UA _ rfl⟩
theorem Inv.fresh(I:Inv X pins σ H s):H s.heap.objs.size=none:=I.hok.fresh (Uy _)
theorem Inv.B5(I:Inv X pins σ H s)(hH:H l=some (.lst xs)):xs.length<=sizeLine/\∃(its:Yl) (n:Nat),Vals xs its/\xs.length=its.length/\s.heap.get? l=some {cls:=.type "list",data:=.seq its.toArray n}:=by obtain⟨z,its,n,r,e⟩:=I.hok l _ hH;exact⟨z,its,n,r,r.length,e⟩
theorem GP{n:Nat}(h:n<=sizeLine):Builtin.List.listTooLong n=false:=by unfold Builtin.List.listTooLong;exact U0 (by omega)
end
section
variable {X:Cx}
noncomputable def J0:V->List V->Hp->VK->Prop:=λx vs H Q=>∃l xs y,x=.ref l/\vs=[y]/\H l=some (.lst xs)/\xs.length<sizeLine/\Q .non (upd H l (.lst (xs++[y])))
theorem E9:Rb X "list.append" J0:=by intro pins s σ H x vs v us Q I rx rv h;obtain⟨l,xs,y,rfl,rfl,hH,hz,q⟩:=h;cases rx;obtain⟨u,rfl,ru⟩:=rv.one;obtain⟨z,its,n,r,hl,e⟩:=I.B5 hH;refine WD F.slot_list_append ⟨_,e,rfl⟩ F.entry_list_append (F.args_list_append_2 _ _) (PySem.list_append l its.toArray n u (by rw[UG];omega)) ⟨e,?_⟩;refine⟨.non,_,I.PZ (its':=its++[u]) hH e (by simp) (r.append (.cons ru .nil)) ?_,rfl,q⟩;rw[UP,XD];omega
noncomputable def Nj:V->List V->Hp->VK->Prop:=λx vs H Q=>∃l xs i k y,x=.ref l/\vs=[.int i]/\H l=some (.lst xs)/\-(2^63)<=i/\i<2^63/\seqIndex? i xs.length=some k/\xs[k]?=some y/\Q y (upd H l (.lst (xs.eraseIdx k)))
theorem GQ:Rb X "list.pop" Nj:=by
 intro pins s σ H x vs v us Q I rx rv h;obtain⟨l,xs,i,k,y,rfl,rfl,hH,h1,h2,hk,hy,q⟩:=h;cases rx;obtain⟨u,rfl,ru⟩:=rv.one;obtain⟨t,rfl⟩:=ru;obtain⟨z,its,n,r,hl,e⟩:=I.B5 hH;obtain⟨w,hw,rw'⟩:=r.get hy
 refine WD F.slot_list_pop ⟨_,e,rfl⟩ F.entry_list_pop (F.args_list_pop_2 _ _)
  (MeetsSeq.list_pop_at l its.toArray n i t k w (fitsIndex_both h1 h2) (by rw[UG,<- hl];exact hk) (by rw[<- U7];exact hw) (by rw[UG];omega)) ⟨e,?_⟩
 refine⟨y,_,I.PZ (its':=its.eraseIdx k) hH e ?_ (r.eraseIdx k) ?_,rw',q⟩
 ·show its.toArray.eraseIdxIfInBounds k=(its.eraseIdx k).toArray;rw[List.eraseIdxIfInBounds_toArray]
 ·have:=xH xs k;omega
noncomputable def R5:R2:=λx y H Q=>∃l b xs zs,x=.ref l/\y=.ref b/\H l=some (.lst xs)/\H b=some (.lst zs)/\xs.length+zs.length<=sizeLine/\∀p,H p=none->Q (.ref p) (upd H p (.lst (xs++zs)))
theorem rP:i6 X (binaryOp .Add) R5:=by
 intro pins s σ H x y v u Q I rx ry h;obtain⟨l,b,xs,zs,rfl,rfl,hH,hB,hz,q⟩:=h;cases rx;cases ry;obtain⟨z,its,n,r,hl,e⟩:=I.B5 hH;obtain⟨z2,its2,n2,r2,hl2,e2⟩:=I.B5 hB;refine PySem.P.add_list e e2 ?_ (by rw[UG,UG];omega);have ea:its.toArray++its2.toArray=(its++its2).toArray:=by simp
 rw[ea];exact⟨.ref _,_,I.P0 (t':=s.toks) (r.append r2) (by rw[UP];omega),rfl,q _ I.fresh⟩
noncomputable def R6:R2:=λx y H Q=>∃l k xs,x=.ref l/\y=.int k/\H l=some (.lst xs)/\-(2^63)<=k/\k<2^63/\xs.length*k.toNat<=sizeLine /\
 ∀p,H p=none->Q (.ref p) (upd H p (.lst (List.replicate k.toNat xs).flatten))
theorem len_rep{α:Type}(xs:List α)(k:Nat):(List.replicate k xs).flatten.length=k*xs.length:=by
 induction k with
 |zero=>simp
 |succ k ih=>rw[Wx,Xt,UP,ih,Nat.succ_mul,Nat.add_comm]
theorem Nk:i6 X (binaryOp .Mult) R6:=by
 intro pins s σ H x y v u Q I rx ry h;obtain⟨l,k,xs,rfl,rfl,hH,h1,h2,hz,q⟩:=h;cases rx;obtain⟨t,rfl⟩:=ry;obtain⟨z,its,n,r,hl,e⟩:=I.B5 hH;have hlen:its.toArray.size*k.toNat<=sizeLine:=by rw[UG,<- hl];exact hz
 have hcap:¬ its.toArray.size*k.toNat>(2^63-1) / 8:=by
  have:(sizeLine:Nat)<=(2^63-1) / 8:=by decide
  omega
 have hfit:¬ (!Builtin.List.listFitsIndex k)=true:=by rw[fitsIndex_both h1 h2];exact UY
 have hlong:¬ Builtin.List.listTooLong (its.toArray.size*k.toNat)=true:=by rw[GP hlen];exact UY
 have hnew:List.foldl (λx1 x2=>x1++x2) #[] (List.replicate (if its.toArray.isEmpty=true then 0 else k.toNat) its.toArray)=(List.replicate k.toNat its).flatten.toArray:=by
  have f0:∀m:Nat,List.foldl (λx1 x2=>x1++x2) #[] (List.replicate m its.toArray)=(List.replicate m its).flatten.toArray:=λm=>by have:=foldl_rep its m [];rw[V2]at this;exact this
  rw[f0]
  cases its with
  |nil=>simp
  |cons a r'=>rw[if_neg (by simp)]
 refine wpAny_binaryOp_repeat_ref (T := "list") (U := "int") (by decide) ⟨_,e,rfl⟩ (λs'=>typeIs_int s' k t) noFill_list_mul F.fills_int_mul F.slot_int_rmul repeat_list F.slot_int_index.lookup
  (WD F.slot_int_rmul (typeIs_int s k t) F.entry_int_rmul (F.args_int_rmul_2 _ _) (int___rmul___int_list k t l its.toArray n)
   ⟨e,rfl,⟨_,e,rfl⟩,WD F.slot_list_mul ⟨_,e,rfl⟩ F.entry_list_mul (F.args_list_mul_2 _ _) (AutoListH.list___mul___list_int_3 l its.toArray n k t hfit hcap hlong) ⟨e,?_⟩⟩)
 rw[hnew];exact⟨.ref _,_,I.P0 (t':=s.toks) (r.rep k.toNat) (by rw[len_rep,Nat.mul_comm];exact hz),rfl,q _ I.fresh⟩
end
end L2
namespace Att
open PySem PySem.W PySem.Calls PyProof.Rows
theorem ud{P:Params}{h:Heap}:∀(ns:List Int) (vs:Yl),WellAll P h vs (ns.map WData.int)->IntsAre vs ns:=by
 intro ns
 induction ns with
 |nil=>intro vs w;rw[Wt]at w;cases w;exact .nil
 |cons n ns ih=>
  intro vs w;rw[U3]at w
  cases w with
  |cons a b=>cases a;exact .cons _ _ (ih _ b)
theorem Fb{l:OpenLaw}{n:Nat}(hn:l.most=some n){P:Params}{h:Heap}{args:List WData}{vals:Yl}
 (hpre:l.row.toRowW.claim.pre args=true)(hwl:WellAll P h vals args) :
  ∃a vs ns,vals=[Value.ref a]/\args=[WData.list (ns.map WData.int)]/\h.get? a=some {cls:=.type "list",data:=.seq vs.toArray}/\IntsAre vs ns/\ns.length<=n:=by
 have hsh:WShape.hasAll [] args [.list .int]=true:=(pre_splitW hpre).1;have hc:l.pre.holds [] {args:=args}=true:=(pre_splitW hpre).2;obtain⟨d,r,rfl,h1,h2⟩:=hasAllW_cons hsh;obtain rfl:=hasAllW_nil h2;obtain⟨xs,rfl,h3⟩:=hasW_list h1;obtain⟨ns,rfl⟩:=items_int h3
 have hlen:ns.length<=n:=by
  unfold OpenLaw.pre at hc;have h4:(WTm.not (.lt (.lit (.int (n:Int))) (.len (.arg 0)))).holds [] {args:=[.list (ns.map .int)]}=true:=by have h4:=(holds_andW hc).1;rw[hn]at h4;exact h4
  have h5:=condW_of h4 (w_not (w_lt w_lit (w_len_list (w_arg rfl))));rw[US]at h5;refine Nat.le_of_not_lt λq=>?_;have q':(n:Int)<((ns.length:Nat):Int):=by omega
  first
   | (rw[Vc q']at h5;exact absurd h5 (by decide))
   | (simp at h5;omega)
 cases hwl with
 |cons w1 w2=>
  cases w2
  cases w1 with
  |list ho hall=>exact⟨_,_,ns,rfl,rfl,ho,ud ns _ hall,hlen⟩
theorem Fc(l:OpenLaw)(args:List WData):l.row.toRowW.claim.post args (.bool true) args=true:=
 postW_of (r:=l.row.toRowW) (X:=(true==true))
  (show WShape.has [] (.bool true) .bool=true by first|rfl|decide|simp[WShape.has,WShape.arms,WShape.armsAll])
  (show(WTm.eq .res (.lit (.bool true))).value [] {args:=args,res:=some (.bool true),after:=args}=some (.bool (true==true))from w_eq_bool (w_res rfl) w_lit) rfl
theorem Ao{l:OpenLaw}{n:Nat}{q:Yt}{loose:Yn}{XP:(Yi)->Heap->Prop}{YP:World->Heap->Prop}{d:DefRec}
 (hn:l.most=some n)(hdf:d.params.defaults=[])
 (call:∀(w:World) (s₀ s₁:Yw) (mg mb:Yi) (fa:Addr) (o:Obj) (pm cd doc:Value) (a:Addr) (vs:Yl) (ns:List Int),
   Ground q loose [] XP w s₀ mg mb s₁.heap->YP w s₁.heap ->
   s₁.heap.get? fa=some o->o.data=.func (docDef d.name d.params d.body d.scope pm cd doc)->s₁.heap.CodeRec cd d.name->mg d.name=some (.ref fa) ->
   s₁.heap.get? a=some {cls:=.type "list",data:=.seq vs.toArray}->IntsAre vs ns->ns.length<=n->s₁.gens=#[] ->
   codeAny (model l.prog w) callerA (.call (.ref fa) ⟨[.ref a],[]⟩) (λr s'=>r=.ok (.ret (.bool true))/\OldK s₁.heap s'.heap/\s'.os=s₁.os/\AllBare s'.gens) s₁) :
  WalkO q loose XP YP l.row.toRowW d [] (λf vs=>PySem.call f vs):=by
 intro w s₀ s₁ mg mb G Y fa o pm cd doc dV kV ho hd hcd hD hmg hg args vals as hpre hlay hrd hwl hlo;obtain rfl:dV=.none:=Dflts.none hD hdf;obtain rfl:kV=.none:=Dflts.noKw hD;obtain⟨a,vs,ns,rfl,rfl,hobj,hints,hlen⟩:=Fb hn hpre hwl;refine enter_call (WO (call w s₀ s₁ mg mb fa o pm cd doc a vs ns G Y ho (fd_plain hd) hcd hmg hobj hints hlen hg) λr s' hq=>?_);obtain⟨rfl,h2,h3,h4⟩:=hq;exact⟨.inl ⟨.bool true,.bool true,[],rfl,λ_=>rfl,.bool true,Fc l _,λ_=>⟨List.Pairwise.nil,λ_ hm=>(nomatch hm)⟩⟩,h2,h3,h4⟩
end Att
namespace L2
open PySem PySem.Spec PyProof.Rows
theorem xI:∀{vs:Yl} {ns:List Int},IntsAre vs ns->Vals (ns.map V.int) vs
 |_,_,.nil=>.nil
 |_,_,.cons n t h=>.cons ⟨t,rfl⟩ (xI h)
end L2
namespace L2
open PySem PySem.Spec PyProof.Rows
noncomputable def fi(s:Stmt):Arguments:=match s with
 |.FunctionDef _ a _ _ _ _ _ _ _ _=>a
 |_=>{posonlyargs:=[],args:=[],vararg:=none,kwonlyargs:=[],kw_defaults:=[],kwarg:=none,defaults:=[]}
noncomputable def bV(s:Stmt):List Stmt:=match s with
 |.FunctionDef _ _ b _ _ _ _ _ _ _=>b
 |_=>[]
noncomputable def ao(s:Stmt):Scope:=match s with
 |.FunctionDef _ _ _ _ _ _ sc _ _ _=>sc
 |_=>{kind:=.function,names:=[],isGenerator:=false,isCoroutine:=false}
abbrev Fd:E7:=λ_ _ _ _ _ _=>False
abbrev E0:XK:=λ_ _ _=>False
structure Gr(K:Ym)(x qual:Str)(st:Stmt)(f:Addr)(fd:FuncData):Prop where
 ex:∃(oc:Value) (od:Option Addr) (kV doc pm:Value) (an:Option Addr) (cdv ct:Value) (osl:Yp),
  fd=PySem.W.fnOf x qual (fi st) (bV st) (ao st) .none kV doc pm an cdv ct/\K.lookup f=some ⟨oc,od,.func fd,osl⟩/\PySem.W.codeIn K cdv qual=true
 kp:PySem.W.keepIn K (.ref f)=true
section
variable {P:Yt} {w:World} {K:Ym} {mg:Yi} {base:Heap}
theorem Gr.binds{x qual:Str}{st:Stmt}{f:Addr}{fd:FuncData}{ps:Yn}(F:Gr K x qual st f fd)
 (h:∀(kV doc pm:Value) (an:Option Addr) (cdv ct:Value) (us:Yl),us.length=ps.length->bindArgs (PySem.W.fnOf x qual (fi st) (bV st) (ao st) .none kV doc pm an cdv ct) ⟨us,[]⟩=pure (ps.zip us)):Binds K fd ps []:=by
 obtain⟨oc,od,kV,doc,pm,an,cdv,ct,osl,rfl,lk,hcd⟩:=F.ex;exact .all (h kV doc pm an cdv ct)
theorem yO{x qual:Str}{st:Stmt}{f:Addr}{oc:Value}{od an:Option Addr}{osl:Yp}{kV doc pm cdv ct:Value}(l:K.lookup f=some ⟨oc,od,.func (PySem.W.fnOf x qual (fi st) (bV st) (ao st) .none kV doc pm an cdv ct),osl⟩)
 (c:PySem.W.codeIn K cdv qual=true)(k:PySem.W.keepIn K (.ref f)=true):Gr K x qual st f (PySem.W.fnOf x qual (fi st) (bV st) (ao st) .none kV doc pm an cdv ct):=⟨⟨oc,od,kV,doc,pm,an,cdv,ct,osl,rfl,l,c⟩,k⟩
end
section
variable {X:Cx}
theorem pv(i:Nat){x:Str}{pos:Pos}(hN:X.N[i]?=some x:=by rfl)(hv:Gq X.env.scope x:=by first|exact Or.inl rfl|exact Or.inr (Or.inl rfl)|exact Or.inr (Or.inr rfl))(hd:(x==("__debug__" : Str))=false:=by decide)
 (hcd:(x==("__classdict__" : Str))=false:=by decide):PE X (.Name x pos) (BR i):=yG hN hv hd hcd
end
theorem Nl{A B:Prop}(h:B):if false=true then A else B:=by rw[if_neg UY];exact h
noncomputable def aT(H H':Hp):Prop:=∀b o,H b=some o->H' b=some o
theorem aT.refl(H:Hp):aT H H:=λ_ _ h=>h
theorem aT.trans{H H1 H2:Hp}(a:aT H H1)(b:aT H1 H2):aT H H2:=λc o h=>b c o (a c o h)
theorem aT.free{H H':Hp}(e:aT H H'){l:Addr}(h:H' l=Option.none):H l=Option.none:=by
 cases q:H l with
 |none=>rfl
 |some o=>rw[e l o q]at h;cases h
theorem aT.seq{K:Ym}{H H':Hp}{a:Addr}{xs:List V}(e:aT H H')(h:i8 K H a xs):i8 K H' a xs:=by
 rcases h with(h|⟨o,h⟩)|h
 ·exact .inl (.inl (e _ _ h))
 ·exact .inl (.inr ⟨o,e _ _ h⟩)
 ·exact .inr h
noncomputable def cI(cells:List (Str×Addr)):List (Str×NameKind)->List (Str×Addr)->List (Str×Addr)
 | [],acc=>acc
 | (n,k)::r,acc=>if k == .free then cI cells r ((n,(cells.lookup n).getD 0)::acc)else cI cells r acc
theorem pf:∀(names:List (Str×NameKind)) (acc:List (Str×Addr)),(∀n,(n,NameKind.free)∈names->∃c,env.cells.lookup n=some c) ->
  (forIn (m:=Sem) names acc λ(x:Str×NameKind) (cs:List (Str×Addr))=>match x with
   | (name,kind)=>if(kind==NameKind.free)=true then(do let a <- cellOf env name;pure (ForInStep.yield ((name,a)::cs)))else pure (ForInStep.yield cs))=pure (cI env.cells names acc)
 | [],acc,_=>by rfl
 | (n,k)::r,acc,h=>by
  rw[V3];unfold cI;by_cases hk:(k==NameKind.free)=true
  ·obtain⟨c,hc⟩:=h n (by grind);have e:cellOf env n=pure c:=by simp[cellOf,hc]
   simp only[hk,Vu];rw[e,hc];exact pf r _ λm hm=>h m (UD _ hm)
  ·simp only[hk];exact pf r _ λm hm=>h m (UD _ hm)
theorem gp(h:∀n,(n,NameKind.free)∈scope.names->∃c,env.cells.lookup n=some c):closureFor scope env=pure (cI env.cells scope.names []):=by
 have q:=pf scope.names [] h
 simp_all[closureFor]
theorem jV:∀{names:List (Str×NameKind)} {acc:List (Str×Addr)},(x,NameKind.free)∉names->(cI cells names acc).lookup x=acc.lookup x
 | [],_,_=>rfl
 | (n,k)::r,acc,h=>by
  unfold cI;by_cases hk:(k==NameKind.free)=true
  ·rw[if_pos hk,jV λz=>h (UD _ z),VW]
   have:(x==n)=false:=by
    grind
   rw[this]
  ·rw[if_neg hk,jV λz=>h (UD _ z)]
theorem dU:∀{names:List (Str×NameKind)} {acc:List (Str×Addr)},(x,NameKind.free)∈names->(cI cells names acc).lookup x=some ((cells.lookup x).getD 0)
 | (n,k)::r,acc,h=>by
  unfold cI;by_cases hr:(x,NameKind.free)∈r
  ·by_cases hk:(k==NameKind.free)=true
   ·rw[if_pos hk];exact dU hr
   ·rw[if_neg hk];exact dU hr
  ·rcases UC.mp h with e|e
   ·cases e;rw[if_pos (show(NameKind.free==NameKind.free)=true from rfl),jV hr,VW];simp
   grind
theorem dE:∀(names:List (Str×NameKind)) (n:Nat) (acc:List (Str×Addr)),cellsFrom n names acc=cellsFrom n names []++acc
 | [],_,_=>rfl
 | (x,k)::r,n,acc=>by
  unfold cellsFrom;by_cases hk:(k==NameKind.cell)=true
  ·rw[if_pos hk,if_pos hk,dE r (n+1) ((x,n)::acc),dE r (n+1) [(x,n)],X7];rfl
  ·rw[if_neg hk,if_neg hk];exact dE r n acc
theorem gq:∀{names:List (Str×NameKind)} {n:Nat},(x,c)∈cellsFrom n names []->(x,NameKind.cell)∈names/\n<=c
 | [],_,h=>nomatch h
 | (y,k)::r,n,h=>by
  unfold cellsFrom at h;by_cases hk:(k==NameKind.cell)=true
  ·rw[if_pos hk,dE]at h;rcases UQ.mp h with h|h
   ·obtain⟨h1,h2⟩:=gq h;exact⟨UD _ h1,by omega⟩
   ·have e:(x,c)=(y,n):=by simpa using h
    cases e;have:=eq_of_beq hk;subst this;exact⟨UL,Uy _⟩
  ·rw[if_neg hk]at h;obtain⟨h1,h2⟩:=gq h;exact⟨UD _ h1,h2⟩
structure cY(sc:Scope)(N own:Yn)(scope:Scope):Prop where
 kind:scope.kind=.function
 frees:∀n,(n,NameKind.free)∈scope.names->sc.names.lookup n=some .cell\/sc.names.lookup n=some .free
 own:∀x∈own,(x,NameKind.free)∉scope.names
 out:∀x∈N,scope.names.lookup x≠some .local/\scope.names.lookup x≠some .cell
 uniq:∀p∈scope.names,scope.names.lookup p.1=some p.2
noncomputable def gH(sc:Scope)(N own:Yn)(scope:Scope):Bool:=
 (scope.kind == .function)&&scope.names.all (λp=>p.2 != .free || (sc.names.lookup p.1==some .cell) || (sc.names.lookup p.1==some .free)) &&
 own.all (λx=>scope.names.all λp=>!(p.1==x&&p.2 == .free))&&N.all (λx=>scope.names.lookup x != some .local&&scope.names.lookup x != some .cell) &&
 scope.names.all (λp=>scope.names.lookup p.1==some p.2)
theorem cY.of{N own:Yn}(h:gH sc N own scope=true):cY sc N own scope:=by
 unfold gH at h;simp only[Ux]at h;obtain⟨⟨⟨⟨h1,h2⟩,h3⟩,h4⟩,h5⟩:=h;refine⟨eq_of_beq h1,λn hn=>?_,λx hx hn=>?_,λx hx=>?_,λp hp=>?_⟩
 ·have:=UM.mp h2 _ hn
  simp_all
 ·have:=UM.mp (UM.mp h3 x hx) _ hn
  simp_all
 ·simp_all
 grind
theorem lW{env:Env}:∀(names:List (Str×NameKind)),
  (names.map λ(n,k)=>if(k==NameKind.free&&env.scope.kind == .function&&env.kindOf n==some .cell)then(n,NameKind.cell)else(n,k)).lookup x
   = (names.lookup x).map λk=>if(k==NameKind.free&&env.scope.kind == .function&&env.kindOf x==some .cell)then NameKind.cell else k
 | []=>rfl
 | (n,k)::r=>by
  have ih:=lW (env:=env) (x:=x) r;rw[U3];show List.lookup x ((if(k==NameKind.free&&env.scope.kind == .function&&env.kindOf n==some .cell)=true then(n,NameKind.cell)else(n,k))::_)=_;by_cases hc:(k==NameKind.free&&env.scope.kind == .function&&env.kindOf n==some .cell)=true
  ·rw[if_pos hc,VW,VW]
   cases hx:x==n with
   |true=>simp_all
   |false=>exact ih
  ·rw[if_neg hc,VW,VW]
   cases hx:x==n with
   |true=>have:=eq_of_beq hx;subst this;exact WH some (if_neg hc).symm
   |false=>exact ih
theorem mem_of_lookupK{names:List (Str×NameKind)}(h:names.lookup x=some k):(x,k)∈names:=Vp h
noncomputable def ph(scope:Scope)(C:Addr)(env:Env):Env:=
 {scope:=relabel scope env,locals:=C,globals:=env.globals,cells:=cellsFrom (C+1) scope.names (cI env.cells scope.names []),qual:=env.qual,func:=none,code:=env.code,frame:=env.frame,builtins:=env.builtins}
theorem oO
  (hQ:Q {scope:=scope,locals:=s.heap.objs.size,globals:=env.globals,cells:=cellsFrom (s.heap.objs.size+1) scope.names cl,qual:=env.qual,func:=none,code:=env.code,frame:=env.frame,builtins:=env.builtins}
   {s with heap:=pushCells (s.heap.push {cls:=.type "dict",data:=.dict #[]}) scope.names}) :
  wpAny M A (newFunctionEnv scope env.globals cl [] env.qual none .none (some env)) Q E s:=by
 refine Uu (wpAny_alloc ?_);refine Uu (wpAny_layCells _ (λname kind cells=>by rfl) _ _ _ _ ?_);rw[Vi ..];exact Uw hQ
noncomputable def aN(X:Cx)(own:Yn)(scope:Scope)(C:Addr)(s2:Yw)(H2:Hp)(fp:Yk)(pins:Yf):Cx where
 prog:=X.prog
 w:=X.w
 K:=X.K
 mg:=X.mg
 base:=X.base
 A:=X.A
 N:=own++X.N
 s₀:=s2
 H₀:=H2
 env:=ph scope C X.env
 outer:=X.stack
 stack:=X.stack
 ex:=fp
 fn:=λx=>own.any (· == x)
 calm:=X.calm
 pn:=X.pn++pins
 xe:=λ_ _=>False
noncomputable def Kept(X:Cx)(fp:Yk)(H H':Hp)(s s':Yw):Prop:=s'.os=s.os/\Un (lM X.stack) fp H H' s.heap s'.heap/\lz X.prog X.w H' s'.heap/\AllBare s'.gens
theorem Kept.inv{σ:St}(k:Kept X fp H H' s s')(I:Inv X pins σ H s)(hf:∀b∈fp,lN X pins H b):Inv X pins σ H' s':=
 I.Ah k.1 k.2.1 k.2.2.1 k.2.2.2 λb hb=>⟨(hf b hb).2.2.2.1,(hf b hb).2.1,(hf b hb).2.2.2.2.1,(hf b hb).2.2.2.2.2⟩
section
variable {X:Cx} {own:Yn} {scope:Scope} {pins:Yf} {σ:St} {H2:Hp} {s2:Yw} {fp:Yk}
theorem iC(x:Str):(relabel scope X.env).names.lookup x=(scope.names.lookup x).map λk=>if(k==NameKind.free&&X.env.scope.kind == .function&&X.env.kindOf x==some .cell)then NameKind.cell else k:=
 lW _
theorem cA(h:(ph scope C X.env).cells.lookup x=some c):((x,c)∈cellsFrom (C+1) scope.names []/\(x,NameKind.cell)∈scope.names/\C+1<=c)\/(cI X.env.cells scope.names []).lookup x=some c:=by
 have h':(cellsFrom (C+1) scope.names (cI X.env.cells scope.names [])).lookup x=some c:=h;rw[dE,List.lookup_append]at h'
 cases e:(cellsFrom (C+1) scope.names []).lookup x with
 |some d=>rw[e]at h';cases h';have m:=Vp e;exact .inl ⟨m,gq m⟩
 |none=>rw[e]at h';exact .inr h'
theorem gI(I:Inv X pins σ H2 s2)(CS:cY X.env.scope X.N own scope)(h:(cI X.env.cells scope.names []).lookup x=some c):(x,NameKind.free)∈scope.names/\X.env.cells.lookup x=some c:=by
 by_cases hf:(x,NameKind.free)∈scope.names
 ·rw[dU hf]at h;obtain⟨d,hd⟩:=I.ok.has x (CS.frees x hf)
  grind
 simp_all[jV]
theorem Dw(I:Inv X pins σ H2 s2)(CS:cY X.env.scope X.N own scope){C:Addr}(hC:s2.heap.objs.size<=C)(hf:∀b∈fp,lN X pins H2 b)(hl:∀b∈fp,b<s2.heap.objs.size):(aN X own scope C s2 H2 fp pins).Ok:=by
 have old:∀x c,(cI X.env.cells scope.names []).lookup x=some c->X.env.cells.lookup x=some c/\c<s2.heap.objs.size:=λx c h=>by obtain⟨_,q⟩:=gI I CS h;obtain⟨v,z⟩:=I.cell x c q;exact⟨q,z.lt⟩
 refine⟨I.ok.mod,CS.kind,I.ok.glob,I.ok.blt,hC,λx y c h1 h2=>?_,λx hx=>?_,λx c hx h=>?_,I.ok.hd,I.ok.frames,.inl rfl,λb hb=>⟨?_,λx c h=>?_⟩,I.bs,UI I.ok.bsz I.sz,λb o e hb=>?_,λb hb z=>?_,I.stack,I.yF⟩
 ·rcases cA h1 with⟨a1,_,a2⟩|a1<;>rcases cA h2 with⟨b1,_,b2⟩|b1
  ·have ap:=(cellsFrom_ok scope.names {(default:Heap)with objs:=Array.replicate (C+1) default} (C+1) [] ⟨λ_ _ hm=>(nomatch hm),List.Pairwise.nil⟩ (by simp)).apart;simp only[Array.size_replicate]at ap;exact name_of_addr ap a1 b1
  ·exact absurd (UE (old y c b1).2 (UI hC (UI (VU _) a2))) (UT _)
  ·exact absurd (UE (old x c a1).2 (UI hC (UI (VU _) b2))) (UT _)
  ·exact I.ok.inj x y c (old x c a1).1 (old y c b1).1
 ·have hx':(relabel scope X.env).names.lookup x=some .cell\/(relabel scope X.env).names.lookup x=some .free:=hx;rw[iC]at hx';show ∃c,(cellsFrom (C+1) scope.names (cI X.env.cells scope.names [])).lookup x=some c;refine Wj.mp (V5 _ _ _ ?_)
  cases e:scope.names.lookup x with
  |none=>rw[e]at hx';simp at hx'
  |some k=>
   rw[e]at hx';by_cases hk:k=.free
   ·subst hk;exact .inr (by rw[dU (mem_of_lookupK e)];rfl)
   ·have hb:(k==NameKind.free)=false:=by simpa using hk
    simp only[XW,hb,Xy,UK,Vr,Wk]at hx';rcases hx' with q|q
    ·exact .inl (by rw[q])
    ·exact absurd q hk
 ·obtain⟨y,hy,e⟩:=Yc.mp hx;have:=eq_of_beq e;subst this;rcases cA h with⟨_,_,a⟩|a
  ·exact UI hC (UI (VU _) a)
  ·exact absurd (gI I CS a).1 (CS.own _ hy)
 ·exact UN (UE (hl b hb) hC)
 ·rcases cA h with⟨_,_,a⟩|a
  ·exact WZ (UN (UE (hl b hb) (UI hC (UI (VU _) a))))
  ·exact(hf b hb).2.2.2.2.1 x c (old x c a).1
 ·rcases(hf b hb).2.2.2.1 with z|z
  ·exact I.ok.noex b o e z
  ·exact absurd (UE (Uz e) (UI I.ok.bsz z)) (UT _)
 ·rcases UC.mp (I.jy b z)with e|e
  ·exact(hf b hb).2.1 e
  ·exact(hf b hb).2.2.1 e
theorem qj(I:Inv X pins σ H2 s2)(CS:cY X.env.scope X.N own scope)(hc:∀c v,s2.heap.IsCell c v->(∃x,X.env.cells.lookup x=some c)->h.IsCell c v) :
  ∀(i:Nat) (x:Str) (v:V),(own++X.N)[i]?=some x->(List.replicate own.length (none:Option V)++σ)[i]?=some (some v)->Gq (relabel scope X.env) x->∃u,RelV v u/\Look (ph scope C X.env) h m x u:=by
 intro i x v h1 h2 h3
 have hi:own.length<=i:=by
  by_cases hi:own.length<=i
  ·exact hi
  ·rw[UX (by simpa using hi),Ww]at h2;split at h2<;>cases h2
 rw[Vb hi]at h1;rw[Vb (by simpa using hi),VO]at h2;have hN:=CS.out x (UO h1)
 have hfr:scope.names.lookup x=some .free:=by
  unfold Gq at h3;rw[iC]at h3
  cases e:scope.names.lookup x with
  |none=>rw[e]at h3;simp at h3
  |some k=>
   rw[e]at h3 hN;by_cases hk:k=.free
   ·rw[hk]
   ·have hb:(k==NameKind.free)=false:=by simpa using hk
    simp only[XW,hb,Xy,UK,Vr,Wk]at h3;rcases h3 with q|q|q
    ·exact absurd (by rw[q]) hN.1
    ·exact absurd (by rw[q]) hN.2
    ·exact absurd q hk
 have hm:=mem_of_lookupK hfr;have hk:=CS.frees x hm;obtain⟨mX,hn,hl⟩:=I.loc;obtain⟨u,r,l⟩:=hl _ x v h1 h2 (hk.elim (λz=>.inr (.inl z)) λz=>.inr (.inr z));refine⟨u,r,?_⟩;rcases l with⟨z,_⟩|⟨_,c,hcx,z⟩
 ·have z':X.env.scope.names.lookup x=some .local:=z;rcases hk with q|q<;>rw[q]at z'<;>cases z'
 ·refine .inr ⟨?_,c,?_,hc c _ z ⟨x,hcx⟩⟩
  ·show(relabel scope X.env).names.lookup x=some .cell\/(relabel scope X.env).names.lookup x=some .free;rw[iC,hfr];simp only[XW];split
   ·exact .inl rfl
   ·exact .inr rfl
  ·show(cellsFrom (C+1) scope.names (cI X.env.cells scope.names [])).lookup x=some c;rw[dE,List.lookup_append]
   have no:(cellsFrom (C+1) scope.names []).lookup x=none:=by
    cases e:(cellsFrom (C+1) scope.names []).lookup x with
    |none=>rfl
    |some d=>have:=CS.uniq _ (gq (Vp e)).1;simp only[]at this;rw[hfr]at this;cases this
   rw[no,dU hm,hcx];rfl
end
theorem B6(I:Nat->Yw->Prop)
 (turn:∀n s,I n s->wpAny (model prog w) A (pyNext it) (λr s1=>match r with
   |none=>R (.ok .next) s1
   |some v=>wpAny (model prog w) A (letOwnedTupleGo target it v) (λ_ s2=>wpAny (model prog w) A (assign target env v) (λ_ s3=>
     wpAny (model prog w) A (forIn ifs true λc r=>if r=true then do let ok <- isTrue c env (eval c env);pure (ForInStep.yield ok)else pure (ForInStep.yield r)) (λok s4=>
      if ok=true then wpAny (model prog w) A (eval elt env) (λx s5=>
       wpAny (model prog w) A (call (.builtin "list.append") [acc,x]) (λ_ s6=>∃m,m<n/\I m s6) (λ_ _=>False) s5) (λ_ _=>False) s4
      else ∃m,m<n/\I m s4) (λ_ _=>False) s3) (λ_ _=>False) s2) (λ_ _=>False) s1) (λ_ _=>False) s)
 (n:Nat)(h:I n s) :
  codeAny (model prog w) A (.compLoop (.ListComp elt [⟨target,iter,ifs,0⟩] scope pos) 0 it acc env) R s:=by
 refine codeAny_loop rfl I (λn s hI=>?_) n h;show wpAny _ A ((compTurn (.ListComp elt [⟨target,iter,ifs,0⟩] scope pos) 0 it acc env).onRaise (λx=>do noteFrame x env;theTreesLotGoes x)) _ _ s;refine wpAny_noted ?_;rw[compTurn_list];refine VA (E:=λ_ _=>False) (E':=_) (Q':=_) ?_ (λ_ _ q=>q) λ_ _ z=>z.elim;refine Uu (Xh (Uu (bW (turn n s hI) (λr s1 h1=>?_))))
 cases r with
 |none=>exact Uw h1
 |some v=>
  refine Uu (bW h1 λ_ s2 h2=>?_);refine Uu (bW h2 λ_ s3 h3=>Uu (bW h3 λok s4 h4=>?_))
  cases ok with
  |false=>exact Uw ⟨rfl,h4⟩
  |true=>exact Uu (Uu (bW h4 λx s5 h5=>Uu (bW h5 λ_ s6 h6=>Uw (Uw ⟨rfl,h6⟩))))
noncomputable def J1(X:Cx)(ifs:Yo)(t:TT):Prop:=
 ∀(pins:Yf) (s:Yw) (σ:St) (H:Hp) (Q:Bool->Hp->Prop),Inv X pins σ H s->t σ H Q ->
  wpAny (model X.prog X.w) X.A (forIn ifs true λc r=>if r=true then do let ok <- isTrue c X.env (eval c X.env);pure (ForInStep.yield ok)else pure (ForInStep.yield r)) (TP X pins σ Q) X.xe s
def R7:TT:=λ_ H Q=>Q true H
theorem J2:J1 X [] R7:=λ_ _ _ H _ I h=>wpAny_tests_nil ⟨H,I,h⟩
theorem J3(h:PT X c t):J1 X [c] t:=λpins s σ H Q I q=>wpAny_tests_one (h pins s σ H Q I q)
noncomputable def GR(n:Nat)(J:It)(g:TG)(tc:TT)(te:TE)(σ:St)(H:Hp)(Q:VK):Prop:=
 ∃W:Nat->Nat->List V->Hp->Prop,(∃m,W 0 m [] H)/\∀i m ys H,W i m ys H ->
  (J.stop i H/\ys.length<=sizeLine/\∀p,H p=none->Q (.ref p) (upd H p (.lst ys))) \/
  (J.go i H/\ys.length<=sizeLine/\∃N:List V->Hp->Prop,(∀ys' H',N ys' H'->∃m',m'<m/\W (i+1) m' ys' H')/\∀x H',J.yld i H x H'->g x (List.replicate n none++σ) H' λσ2 H2=>tc σ2 H2 λb H3=>
   if b=true then te σ2 H3 λy H4=>N (ys++[y]) H4 else N ys H3)
theorem uL{σ:St}
 {RR:Value->Addr->Result->Yw->Prop}(I:Inv X pins σ H2 s2)(CS:cY X.env.scope X.N own scope)(hc:X.calm=true)(T:Turn X.prog X.w X.K tg J fp it tn)(st:tn 0 s2.heap)(hf:∀b∈fp,lN X pins H2 b)
 (hg:∀C s2 H2 fp pins,PG (aN X own scope C s2 H2 fp pins) tg g)(ht:∀C s2 H2 fp pins,J1 (aN X own scope C s2 H2 fp pins) ifs tc)(he:∀C s2 H2 fp pins,PE (aN X own scope C s2 H2 fp pins) elt te)
 (hW:GR own.length J g tc te σ H2 Q)
 (hR:∀D C H' s',Inv X pins σ H' s'->lN X pins H' C->(∃m,s'.heap.Ns C m)->Q (.ref D) H'->Kept X fp H2 H' s2 s'->RR (.ref D) C (.ok .next) s') :
  wpAny (model X.prog X.w) X.A (newList []) (λacc s3=>wpAny (model X.prog X.w) X.A (newFunctionEnv scope X.env.globals (cI X.env.cells scope.names []) [] X.env.qual none .none (some X.env)) (λcenv s4=>
   codeAny (model X.prog X.w) X.A (.compStart (.ListComp elt [⟨tg,iter,ifs,0⟩] scope pos) 0 (.ref it) acc {cenv with scope:=relabel scope X.env}) (RR acc cenv.locals) s4) E s3) E s2:=by
 refine Vd (oO ?_);dsimp only;generalize hH:s2.heap.push {cls:=.type "list",dict:=none,data:=.seq ([]:Yl).toArray}=h3;have hDC:h3.objs.size=s2.heap.objs.size+1:=by rw[<- hH,Vi]
 have eC:({scope:=relabel scope X.env,locals:=h3.objs.size,globals:=X.env.globals,cells:=cellsFrom (h3.objs.size+1) scope.names (cI X.env.cells scope.names []),qual:=X.env.qual,func:=none,code:=X.env.code,frame:=X.env.frame,builtins:=X.env.builtins}:Env)=ph scope h3.objs.size X.env:=rfl;rw[eC];generalize eD:s2.heap.objs.size=D at *;generalize eCC:h3.objs.size=C at *;have hl:∀b∈fp,b<s2.heap.objs.size:=λb hb=>by obtain⟨o,e,_⟩:=T.obj 0 _ st b hb;exact Uz e
 have hC:s2.heap.objs.size<=C:=by omega
 generalize hH4:pushCells (h3.push {cls:=.type "dict",data:=.dict #[]}) scope.names=h4;have k34:∀b o,(h3.push {cls:=.type "dict",data:=.dict #[]}).get? b=some o->h4.get? b=some o:=λb o e=>by rw[<- hH4];exact pushCells_keeps _ _ b o e
 have k24:∀b o,s2.heap.get? b=some o->h4.get? b=some o:=λb o e=>k34 b o (Uv _ (by rw[<- hH];exact Uv _ e));have nsC:h4.Ns C λ_=>none:=by have:=Heap.Ns.new h3 (.type "dict");rw[eCC]at this;exact this.keeps k34
 have accD:h4.get? D=some {cls:=.type "list",data:=.seq (([]:Yl).toArray)}:=k34 _ _ (Uv _ (by rw[<- hH,<- eD];exact UA _ rfl));have cellN:∀x c,(x,c)∈cellsFrom (C+1) scope.names []->h4.IsCell c none/\C+1<=c:=λx c hm=>by have ok:=cellsFrom_ok scope.names (h3.push {cls:=.type "dict",data:=.dict #[]}) (C+1) [] ⟨λ_ _ hm=>(nomatch hm),List.Pairwise.nil⟩ (by rw[Vi];omega);rw[Vi,eCC,hH4]at ok;exact ok.empty x c hm
 have hne:H2 D=none:=by rw[<- eD];exact I.hok.fresh (Uy _)
 have ok':(aN X own scope C s2 H2 fp pins).Ok:=Dw I CS hC hf hl
 have rebase:∀{σ':St} {H':Hp} {ps:Yf} {s':Yw},Inv (aN X own scope C s2 H2 fp pins) ps σ' H' s'->Inv (aN X own scope C s2 H2 fp pins) ps (List.replicate own.length none++σ) H' s':=λ{σ' H' ps s'} J'=>by
  obtain⟨m,hn,_⟩:=J'.loc;refine⟨J'.ok,J'.os,J'.bare,J'.base,⟨m,hn,qj I CS λc v z ⟨x,hx⟩=>?_⟩,J'.cell,J'.free,J'.freeC,J'.pin,J'.hok,?_⟩
  ·obtain⟨o,ho,hd⟩:=z;obtain⟨sl,e⟩:=J'.base.any ho (I.freeC x c hx) λhb=>(hf c hb).2.2.2.2.1 x c hx rfl;exact⟨_,e,hd⟩
  ·show(List.replicate own.length none++σ).length=(own++X.N).length;rw[UP,UP,VO,I.len]
 have start:Inv (aN X own scope C s2 H2 fp pins) [] (List.replicate own.length none++σ) H2 {s2 with heap:=h4}:=by
  have I4:Inv X pins σ H2 {s2 with heap:=h4}:=I.kept (t':=s2.toks) k24;refine⟨ok',rfl,I.bare,Un.kept k24,⟨_,nsC,qj I CS λc v z _=>z.keeps k24⟩,λx c h=>?_,I.hok.fresh hC,λx c h=>?_,λp hp=>?_,I4.hok,?_⟩
  ·rcases cA h with⟨a,_,_⟩|a
   ·exact⟨_,(cellN x c a).1⟩
   ·obtain⟨v,z⟩:=I.cell x c (gI I CS a).2;exact⟨v,z.keeps k24⟩
  ·rcases cA h with⟨_,_,a⟩|a
   ·exact I.hok.fresh (UI hC (UI (VU _) a))
   ·exact I.freeC x c (gI I CS a).2
  ·have hp':p∈X.pn++pins:=by
    rcases UQ.mp hp with z|z
    ·exact z
    ·exact nomatch z
   obtain⟨e,n,ne,nf,d⟩:=I.pin p hp';refine⟨k24 _ _ e,n,UN (UE (Uz e) hC),λz=>?_,d⟩;rcases UC.mp (I.jy _ z)with q|q
   ·exact ne q
   ·exact nf q
  ·show(List.replicate own.length none++σ).length=(own++X.N).length;rw[UP,UP,VO,I.len]
 obtain⟨W,⟨m0,w0⟩,turn⟩:=hW
 have nfs:∀b,s2.heap.objs.size<=b->b∉(aN X own scope C s2 H2 fp pins).fs:=λb hb z=>by
  rcases UC.mp (I.jy b z)with q|q
  ·rw[q]at hb;exact absurd (UE I.lt hb) (UT _)
  ·exact I.Gu hb q
 have fpD:∀{H':Hp},H' D=none->lN (aN X own scope C s2 H2 fp pins) [] H' D:=λ{H'} hn=>by
  refine⟨hn,UN (by show D<C;omega),nfs D (by omega),.inr (by show s2.heap.objs.size<=D;omega),λx c h z=>?_,λp hp z=>?_⟩
  ·rcases cA h with⟨_,_,a⟩|a
   ·rw[z]at a;exact absurd (UE (show D<C+1 by omega) a) (UT _)
   ·obtain⟨v,q⟩:=I.cell x c (gI I CS a).2;have:=q.lt;rw[z,eD]at this;exact UT _ this
  ·have hp':p∈X.pn++pins:=by
    rcases UQ.mp hp with z|z
    ·exact z
    ·exact nomatch z
   have:=Uz (I.pin p hp').1;rw[z,eD]at this;exact UT _ this
 have nD:D∉fp:=λz=>by have:=hl D z;rw[eD]at this;exact UT _ this
 have stat:∀{H':Hp} {ps:Yf},(∀p∈ps,p.1=D)->(∀b∈fp,H' b=none)->∀b∈fp,lN (aN X own scope C s2 H2 fp pins) ps H' b:=λ{H' ps} hps hn b hb=>by
  obtain⟨f0,f1,f2,f3,f4,f5⟩:=hf b hb;refine⟨hn b hb,(ok'.exf b hb).1,ok'.exfs b hb,.inl hb,(ok'.exf b hb).2,λp hp=>?_⟩;rcases UQ.mp hp with z|z
  ·exact f5 p z
  ·rw[hps p z];exact λq=>nD (q▸hb)
 let LI:Nat->Yw->Prop:=λn s'=>∃i ys its k H',Inv (aN X own scope C s2 H2 fp pins) [] (List.replicate own.length none++σ) H' s'/\tn i s'.heap/\(∀b∈fp,H' b=none)/\H' D=none /\
  s'.heap.get? D=some {cls:=.type "list",data:=.seq (List.toArray its) k}/\Vals ys its/\W i n ys H'
 have l0:LI m0 {s2 with heap:=h4}:=⟨0,[],[],0,H2,start,T.keep _ _ _ st λb _ o e=>k24 b o e,λb hb=>(hf b hb).1,hne,accD,.nil,w0⟩
 have loop:codeAny (model X.prog X.w) X.A (.compLoop (.ListComp elt [⟨tg,iter,ifs,0⟩] scope pos) 0 (.ref it) (.ref D) (ph scope C X.env)) (RR (.ref D) C) {s2 with heap:=h4}:=by
  refine B6 LI ?_ m0 l0;rintro n s3 ⟨i,ys,its,k,H3,I3,st3,fr3,d3,a3,v3,w3⟩;rcases turn i n ys H3 w3 with⟨stop,hz,qn⟩|⟨go,hz,NN,hNN,step⟩
  ·have I3p:=I3.pinned (fp:=[D]) (λb hb=>(U5.mp hb)▸fpD d3) λb hb=>⟨_,(U5.mp hb)▸a3,λv z=>(by cases z)⟩;refine bW (T.done (aN X own scope C s2 H2 fp pins) rfl rfl rfl hc i _ s3 _ H3 _ I3p (stat (λp hp=>by have q:p∈fE [D] s3.heap:=hp;have:=(jS q).1;simpa using this) fr3) st3 stop) λr s4 ⟨hr,I4⟩=>?_;subst hr;have a4:s4.heap.get? D=_:=(I4.pin (D,_) (UJ _ (UJ _ (cF (by simp) a3)))).1;have u4:Un (lM X.stack) fp H2 H3 s2.heap s4.heap:=I4.base
   have okD:lz X.prog X.w (upd H3 D (.lst ys)) s4.heap:=λb o e=>by
    by_cases hb:b=D
    ·subst hb;rw[aJ]at e;cases e;exact⟨hz,its,k,v3,a4⟩
    ·rw[ak hb]at e;exact(I4.hok b o e).oz (λ_ _ _ q=>q) (λc q=>by rw[ak (ay q d3)];exact q) λc xs q=>by rw[ak (ay q d3)];exact q
   have nDo:∀b o,s2.heap.get? b=some o->b≠D:=λb o e=>by rw[<- eD];exact UN (Uz e)
   have uD:Un (lM X.stack) fp H2 (upd H3 D (.lst ys)) s2.heap s4.heap:=⟨u4.keep,u4.slot,λb o e n hx=>by rw[ak (nDo b o e)];exact u4.free b o e n hx,u4.there,
    λb xs e=>by rw[ak (ay e hne)];exact u4.tups b xs e,λb o xs e=>by rw[ak (ay e hne)];exact u4.frzs b o xs e,λb ps e=>by rw[ak (ay e hne)];exact u4.tbls b ps e⟩
   have kp:Kept X fp H2 (upd H3 D (.lst ys)) s2 s4:=⟨I4.os,uD,okD,I4.bare⟩;have I5:Inv X pins σ (upd H3 D (.lst ys)) s4:=kp.inv I hf;obtain⟨m,hn,_⟩:=I4.loc;refine hR D C _ s4 I5 ⟨by rw[ak (show C≠D by omega)];exact I4.free,WN (UE I.lt hC),I.Gu hC,.inr (UI I.sz hC),λx c e z=>?_,λp hp z=>?_⟩ ⟨m,hn⟩ (qn D d3) kp
   ·obtain⟨v,q⟩:=I.cell x c e;exact absurd (UE q.lt (by rw[z];exact hC)) (UT _)
   ·exact absurd (UE (Uz (I.pin p hp).1) (by rw[z];exact hC)) (UT _)
  ·have I3p:=I3.pinned (fp:=[D]) (λb hb=>(U5.mp hb)▸fpD d3) λb hb=>⟨_,(U5.mp hb)▸a3,λv z=>(by cases z)⟩;have onlyD:∀p∈([]++fE [D] s3.heap),p.1=D:=λp hp=>by have q:p∈fE [D] s3.heap:=hp;have:=(jS q).1;simpa using this
   refine bW (T.item (aN X own scope C s2 H2 fp pins) rfl rfl rfl hc i _ s3 _ H3 _ I3p (stat onlyD fr3) st3 go) λr s4 ⟨u,hr,h4'⟩=>?_;subst hr;refine bW h4' λ_ s5 ⟨x,H5,I5,r5,y5,st5,fr5⟩=>?_;have I5p:=I5.pinned (fp:=fp) (stat onlyD fr5) (T.obj _ _ st5)
   have cont:∀{s6:Yw} {σ6:St} {H6:Hp},Inv (aN X own scope C s2 H2 fp pins) (([]++fE [D] s3.heap)++fE fp s5.heap) σ6 H6 s6 ->
     Inv (aN X own scope C s2 H2 fp pins) [] (List.replicate own.length none++σ) H6 s6/\tn (i+1) s6.heap/\(∀b∈fp,H6 b=none)/\H6 D=none/\s6.heap.get? D=some {cls:=.type "list",data:=.seq (List.toArray its) k}:=λ{s6 σ6 H6} I6=>by
    have pD:=I6.pin (D,_) (UJ _ (VF _ (UJ _ (cF (by simp) a3))));refine⟨rebase (I6.qc λp hp=>nomatch hp),T.keep _ _ _ st5 λb hb o e=>(I6.pin (b,o) (UJ _ (UJ _ (cF hb e)))).1,λb hb=>?_,pD.2.1,pD.1⟩;obtain⟨o,e,_⟩:=T.obj _ _ st5 b hb;exact(I6.pin (b,o) (UJ _ (UJ _ (cF hb e)))).2.1
   refine bW (hg C s2 H2 fp pins _ s5 _ H5 x u _ I5p r5 (step x H5 y5)) λ_ s6 ⟨σ6,H6,I6,q6⟩=>?_;refine bW (ht C s2 H2 fp pins _ s6 σ6 H6 _ I6 q6) λb s7 ⟨H7,I7,q7⟩=>?_
   cases b with
   |false=>have q7':NN ys H7:=q7;obtain⟨m',hm,w7⟩:=hNN _ _ q7';obtain⟨c1,c2,c3,c4,c5⟩:=cont I7;exact⟨m',hm,i+1,ys,its,k,H7,c1,c2,c3,c4,c5,v3,w7⟩
   |true=>refine bW (he C s2 H2 fp pins _ s7 σ6 H7 _ I7 q7) λv s8 ⟨y,H8,I8,r8,q8⟩=>?_;obtain⟨m',hm,w8⟩:=hNN _ _ q8;obtain⟨c1,c2,c3,c4,c5⟩:=cont I8;refine wpAny_list_append_plain ⟨k,c5⟩ (λh' hp hs=>?_) (by rw[UG,<- v3.length];exact hz);obtain⟨k',e'⟩:=hp;obtain⟨f0,f1,f2,f3,f4,f5⟩:=fpD c4;refine⟨m',hm,i+1,ys++[y],its++[v],k',H8,c1.turned (t':=s8.toks) (λb o hb e=>(hs.2 b hb).trans e) f0 f1 f3 f4 f5,T.keep _ _ _ c2 λb hb o e=>(hs.2 b λz=>nD (z▸hb)).trans e,c3,c4,?_,v3.append (.cons r8 .nil),w8⟩;show h'.get? D=_;rw[e'];simp
 exact codeAny_compStart_list loop (T.self X.A 0 {s2 with heap:=h4} _ _ (T.keep _ _ _ st λb _ o e=>k24 b o e) loop)
section
variable {X:Cx} {own:Yn} {scope:Scope} {elt tg iter:Expr} {ifs:Yo} {pos:Pos} {wi:TI} {g:TG} {tc:TT} {te:TE}
noncomputable def Dx(n:Nat)(wi:TI)(g:TG)(tc:TT)(te:TE):TE:=λσ H Q=>wi σ H λJ H1=>GR n J g tc te σ H1 Q
theorem pj(CS:cY sc N own scope):∀x∈scope.names,x.2=.local->scope.names.lookup x.1=some .local:=λx hx e=>by rw[CS.uniq x hx,e]
theorem J4(own:Yn)(CS:gH X.env.scope X.N own scope=true)(hc:X.calm=true)(hi:PI X tg iter wi)(hg:∀C s2 H2 fp pins,PG (aN X own scope C s2 H2 fp pins) tg g)
 (ht:∀C s2 H2 fp pins,J1 (aN X own scope C s2 H2 fp pins) ifs tc)(he:∀C s2 H2 fp pins,PE (aN X own scope C s2 H2 fp pins) elt te)(hs:∀x,foldedSetIterable iter X.env x=pure x:=by intro _;rfl) :
  PE X (.ListComp elt [⟨tg,iter,ifs,0⟩] scope pos) (Dx own.length wi g tc te):=by
 intro pins s σ H Q I h;have CS:=cY.of CS;refine Xe rfl hs (gp λn hn=>I.ok.has n (CS.frees n hn)) CS.kind (pj CS) (bW (hi pins s σ H _ I h) λv s1 h1=>bW h1 λitv s2 h2=>?_);obtain⟨it,fp,tn,J,H2,e,I2,T,st2,f2,hW⟩:=h2;subst e;refine uL I2 CS hc T st2 f2 hg ht he hW λD C H' s' I' fC ⟨m,hn⟩ q _=>?_;refine⟨m,hn,λh' hs'=>⟨.ref D,H',?_,rfl,q⟩⟩;obtain⟨f0,f1,_,f3,f4,f5⟩:=fC;exact I'.turned (λb o hb e=>(hs'.2 b hb).trans e) f0 f1 f3 f4 f5
theorem J7(own:Yn){pos' spos:Pos}(hN:X.N.Nodup)(hxi:X.N[i]?=some x)(hx:X.env.scope.names.lookup x=some .local)(CS:gH X.env.scope X.N own scope=true)(hc:X.calm=true)(hi:PI X tg iter wi)(hg:∀C s2 H2 fp pins,PG (aN X own scope C s2 H2 fp pins) tg g)
 (ht:∀C s2 H2 fp pins,J1 (aN X own scope C s2 H2 fp pins) ifs tc)(he:∀C s2 H2 fp pins,PE (aN X own scope C s2 H2 fp pins) elt te)(hs:∀x,foldedSetIterable iter X.env x=pure x:=by intro _;rfl)
 (hsw:swapsWith (.ListComp elt [⟨tg,iter,ifs,0⟩] scope pos) (some (.Name x pos')) spos.line X.env=pure true:=by rfl) :
  PS X (.Assign [.Name x pos'] (.ListComp elt [⟨tg,iter,ifs,0⟩] scope pos) spos) (BU (Dx own.length wi g tc te) (aB i)):=by
 intro pins s σ H D I h;have CS:=cY.of CS;rw[exec_Assign_Name_used _ _ _ _ hsw];refine Uu (Xh (Uu ?_));show wpAny _ X.A (do let _ <- comprehension (.ListComp elt [⟨tg,iter,ifs,0⟩] scope pos) scope X.env _ (newList []) false (eval iter X.env) (some (assign (.Name x pos') X.env))) _ _ s
 refine Uu (bW (Xe (use:=some (assign (.Name x pos') X.env)) (Q:=λ_ s'=>SP X pins D .next s') (g:=⟨tg,iter,ifs,0⟩) rfl hs (gp λn hn=>I.ok.has n (CS.frees n hn)) CS.kind (pj CS)
  (bW (hi pins s σ H _ I h) λv s1 h1=>bW h1 λitv s2 h2=>?_)) λ_ s' hq=>Uw (Uw hq))
 obtain⟨it,fp,tn,J,H2,e,I2,T,st2,f2,hW⟩:=h2;subst e;refine uL (Q:=λx H1=>aB i x σ H1 D.nx) (RR:=λacc C=>compPost (model X.prog X.w) X.A X.xe (some (assign (.Name x pos') X.env)) (λ_ s'=>SP X pins D .next s') acc C) I2 CS hc T st2 f2 hg ht he hW λDl C H' s' I' fC ⟨m,hn⟩ q _=>?_;show wpAny _ _ (assign (.Name x pos') X.env (.ref Dl)) _ _ s';refine wpAny_assign_Name (xA (v:=.ref Dl) I' hN hxi (.inl hx) rfl (λs'' I'' hsb=>?_) (.inr hx));obtain⟨f0,f1,f2',f3,f4,f5⟩:=fC;obtain⟨a,sb,ha⟩:=hsb
 have hCa:C≠a:=by
  rcases ha with e|e
  ·rw[e];exact f1
  ·exact(f4 x a e).symm
 refine⟨m,hn.sameBut sb hCa,λh' hs'=>⟨_,H',?_,q⟩⟩;exact I''.turned (t':=s''.toks) (λb o hb e=>(hs'.2 b hb).trans e) f0 f1 f3 f4 f5
end
structure Nx(P:Yt)(w:World)(i l:Addr)(st:Nat->Heap->Prop)(xs:Yl):Prop where
 obj:∀k h,st k h->∃o vs,h.get? i=some o/\o.data=.fields vs
 keep:∀k h h',st k h->(∀o,h.get? i=some o->h'.get? i=some o)->(∀o,h.get? l=some o->h'.get? l=some o)->st k h'
 item:∀(A:Yv) k (s:Yw) x (Q:Ye) (E:Ye),st k s.heap->xs[k]?=some x->(∀h',st (k+1) h'->Heap.SameBut i s.heap h'->Q x {s with heap:=h'}) ->
  wpAny (model P w) A (Builtin.SmallTypes.nextOf (.ref i)) Q E s
 done:∀(A:Yv) k (s:Yw) (Q:Ye) (E:Ye),A.handled=none->st k s.heap->xs[k]?=none ->
  (∀h' e,Heap.ExtBut i s.heap h'->(∃o,h'.get? e=some o/\o.cls=.type "StopIteration")->E (.ref e) {s with heap:=h'})->wpAny (model P w) A (Builtin.SmallTypes.nextOf (.ref i)) Q E s
section
variable {P:Yt} {w:World} {A:Yv} {E:Ye} {s:Yw}
theorem Ap{h:Heap}(a:h.IsTupleIter i l k)(b:h.IsTuple l its):i≠l:=λe=>by
 obtain⟨o,h1,c1,_⟩:=a;obtain⟨o',h2,c2,_⟩:=b
 grind
theorem B7(a:s.heap.IsTupleIter it t k)(b:s.heap.IsTuple t its)(hx:its[k]?=some x)
 (q:∀h',h'.IsTupleIter it t (k+1)->Heap.SameBut it s.heap h'->Q x {s with heap:=h'}):wpAny (model P w) A (Builtin.SmallTypes.nextOf (.ref it)) Q E s:=by
 obtain⟨oi,gi,ci,di⟩:=id a;obtain⟨ot,gt,_,nt,dt⟩:=b;unfold Builtin.SmallTypes.nextOf;refine Uu (U9 (name:=Str.ofString "__next__") a.typeIs V7 (U6 V7 a.typeIs F.entry_tuple_iterator_next ?_ (F.args_tuple_iterator_next_1 _)));show wpAny _ _ (field (Value.ref it) 0 >>= _) _ _ s;refine Uu (VD (x:=Value.ref t) gi di rfl ?_);rw[if_neg (show ¬ (Value.ref t==Value.none)=true from UY)];show wpAny _ _ (field (Value.ref it) 1 >>= _) _ _ s;refine Uu (VD (x:=Value.int k 0) gi di rfl ?_);show wpAny _ _ (seqItems? (Value.ref t) >>= _) _ _ s;refine Uu (Vw gt dt ?_);simp only[hx,VL];refine Uu (wpAny_setField gi di (by simp) (Uw ⟨x,rfl,Uw (q _ ⟨_,VP _ gi (Obj.isFreed_of_fields (Obj.data_mapFields di _)),(Obj.cls_mapFields ..).trans ci,?_⟩ (W8 ..))⟩));rw[Obj.data_mapFields di];simp[rawInt]
theorem uM(hh:A.handled=none)(a:s.heap.IsTupleIter it t k)(b:s.heap.IsTuple t its)(hx:its[k]?=none)
 (q:∀h' e,Heap.ExtBut it s.heap h'->(∃o,h'.get? e=some o/\o.cls=.type "StopIteration")->E (.ref e) {s with heap:=h'}):wpAny (model P w) A (Builtin.SmallTypes.nextOf (.ref it)) Q E s:=by
 obtain⟨oi,gi,ci,di⟩:=id a;obtain⟨ot,gt,_,nt,dt⟩:=b;unfold Builtin.SmallTypes.nextOf;refine Uu (U9 (name:=Str.ofString "__next__") a.typeIs V7 (U6 V7 a.typeIs F.entry_tuple_iterator_next ?_ (F.args_tuple_iterator_next_1 _)));show wpAny _ _ (field (Value.ref it) 0 >>= _) _ _ s;refine Uu (VD (x:=Value.ref t) gi di rfl ?_);rw[if_neg (show ¬ (Value.ref t==Value.none)=true from UY)];show wpAny _ _ (field (Value.ref it) 1 >>= _) _ _ s;refine Uu (VD (x:=Value.int k 0) gi di rfl ?_);show wpAny _ _ (seqItems? (Value.ref t) >>= _) _ _ s;refine Uu (Vw gt dt ?_);simp only[hx,VL];refine Uu (Wl (Uu (wpAny_setField gi di (by simp) ?_)));show wpAny _ _ (newExc (Value.type "StopIteration") [] >>= _) _ _ _;refine Uu ?_;simp only[newTuple,newExc];refine Uu (Vd ?_ (by size_fits));refine Uu (m:=firstArgMember _ _) (W9 (a:=Value.none) (by first|rfl | (unfold firstArgMember;rfl)) ?_);refine Vd ?_ (by size_fits);unfold raiseNew;refine Uu (wpAny_handled ?_);rw[show A.in1.handled=none from hh];exact Uu (Uw (wpAny_throw (q _ _ (((W8 ..).extBut.push _).push _) ⟨_,UA _ rfl,rfl⟩)))
theorem yP(i l:Addr)(xs:Yl):Nx P w i l (λk h=>h.IsTupleIter i l k/\h.IsTuple l xs.toArray) xs where
 obj:=by rintro k h ⟨⟨o,a,_,c⟩,_⟩;exact⟨o,_,a,c⟩
 keep:=by rintro k h h' ⟨a,b⟩ k1 k2;exact⟨a.at k1,by obtain⟨o,e,r⟩:=b;exact⟨o,k2 o e,r⟩⟩
 item:=λA k s x Q E ⟨a,b⟩ hx q=>B7 a b (by simp_all) λh' a' sb=>q h' ⟨a',let ⟨o,e,r⟩:=b;⟨o,(sb.2 l (Ap a b).symm).trans e,r⟩⟩ sb
 done:=λA k s Q E hh ⟨a,b⟩ hx q=>uM hh a b (by simp_all) q
structure ZA(z TI TO i1 i2 l1 l2:Addr):Prop where
 a1:TI≠z
 a2:TO≠z
 a3:i1≠z
 a4:i2≠z
 a5:TI≠TO
 a6:TI≠i1
 a7:TI≠i2
 a8:TO≠i1
 a9:TO≠i2
 b1:i1≠i2
 b2:l1≠z
 b3:l1≠TO
 b4:l1≠i2
 b5:l2≠z
 b6:l2≠TO
 b7:l2≠i1
variable {st1 st2:Nat->Heap->Prop} {xs ys:Yl} {z TI TO i1 i2 l1 l2:Addr} {k:Nat} {a b:Value}
theorem aL(sb:Heap.SameBut c h h')(ne:d≠c)(e:h.get? d=some o):h'.get? d=some o:=(sb.2 d ne).trans e
theorem GS(D:ZA z TI TO i1 i2 l1 l2)(N1:Nx P w i1 l1 st1 xs)(N2:Nx P w i2 l2 st2 ys){Q:Ye}(hz:IsZip s.heap z TI TO .none)(hI:IsPair s.heap TI (.ref i1) (.ref i2))(hO:IsPair s.heap TO a b)
 (s1:st1 k s.heap)(s2:st2 k s.heap)(hx:xs[k]?=some x)(hy:ys[k]?=some y)
 (q:∀h',IsZip h' z TI TO (rawInt s.heap.objs.size)->IsPair h' TO x y->st1 (k+1) h'->st2 (k+1) h'->IsPair h' s.heap.objs.size x y ->
   (∀c o,c≠z->c≠TO->c≠i1->c≠i2->s.heap.get? c=some o->h'.get? c=some o)->Q (.ref s.heap.objs.size) {s with heap:=h'}) :
  wpAny (model P w) A (Builtin.«zip.__next__» ⟨[.ref z],[]⟩) (λfin s'=>∃v,fin=.done (.ret v)/\Q v s') E s:=by
 show wpAny _ _ (field (Value.ref z) 2 >>= _) _ _ _;refine Uu (VD (x:=Value.bool false) hz rfl rfl ?_);show wpAny _ _ (field (Value.ref z) 3 >>= _) _ _ _;refine Uu (VD (x:=Value.ref TI) hz rfl rfl ?_);refine Uu (Vw hI rfl ?_);show wpAny _ _ (Builtin.SmallTypes.ownedTupleIsFree (Value.ref z) >>= _) _ _ _;refine Uu ?_;unfold Builtin.SmallTypes.ownedTupleIsFree;refine Uu (VD (x:=Value.none) hz rfl rfl (Uw ?_));simp only[Vu];refine Uu (Wl (Uu (VD (x:=Value.ref TO) hz rfl rfl ?_)));refine Uu (Wc hz (by simp) λg1 z1 e1=>?_);have z1:IsZip g1 z TI TO .ellipsis:=z1;refine Uu ?_;simp only[List.zipIdx_nil,List.zipIdx_cons,Xz,V3];refine Uu (Uu (wpAny_onRaise ?_));show wpAny _ _ (Builtin.SmallTypes.nextOf (Value.ref i1) >>= _) _ _ _;refine Uu (N1.item _ k _ x _ _ (N1.keep _ _ _ s1 (λo=>aL e1 D.a3) λo=>aL e1 D.b2) hx λg2 t1 e2=>Uw ?_);have O2:IsPair g2 TO a b:=aL e2 D.a8 (aL e1 D.a2 hO);refine Uu (Vw O2 rfl (Uu (XQ O2 λg3 O3 e3=>?_)));have O3:IsPair g3 TO x b:=O3;refine Uu (wpAny_letGo (Uw (Uu (Uu (wpAny_onRaise ?_)))));show wpAny _ _ (Builtin.SmallTypes.nextOf (Value.ref i2) >>= _) _ _ _;refine Uu (N2.item _ k _ y _ _ (N2.keep _ _ _ s2 (λo e=>aL e3 D.a9.symm (aL e2 D.b1.symm (aL e1 D.a4 e))) λo e=>aL e3 D.b6 (aL e2 D.b7 (aL e1 D.b5 e))) hy λg4 t2 e4=>Uw ?_);have O4:IsPair g4 TO x b:=aL e4 D.a9 O3;refine Uu (Vw O4 rfl (Uu (XQ O4 λg5 O5 e5=>?_)));have O5:IsPair g5 TO x y:=O5;refine Uu (wpAny_letGo (Uw (Uw (Uu (Vw O5 rfl (Uu (wpAny_newTuple ?_)))))));have sz:g5.objs.size=s.heap.objs.size:=by rw[e5.1,e4.1,e3.1,e2.1,e1.1]
 have z5:IsZip g5 z TI TO .ellipsis:=aL e5 D.a2.symm (aL e4 D.a4.symm (aL e3 D.a2.symm (aL e2 D.a3.symm z1)));have zlt:z<g5.objs.size:=Uz z5;have u1:st1 (k+1) g5:=N1.keep _ _ _ t1 (λo e=>aL e5 D.a8.symm (aL e4 D.b1 (aL e3 D.a8.symm e))) λo e=>aL e5 D.b3 (aL e4 D.b4 (aL e3 D.b3 e));have u2:st2 (k+1) g5:=N2.keep _ _ _ t2 (λo e=>aL e5 D.a9.symm e) λo e=>aL e5 D.b6 e;show wpAny _ _ (Builtin.SmallTypes.ownedTupleHandOut (Value.ref z) (.ref g5.objs.size) >>= _) _ _ _;refine Uu ?_;unfold Builtin.SmallTypes.ownedTupleHandOut;have z6:IsZip (g5.push {cls:=.type "tuple",data:=.seq #[x,y]}) z TI TO .ellipsis:=Uv _ z5;refine Uu (Wc z6 (by simp) λg7 z7 e7=>?_);have z7:IsZip g7 z TI TO (rawInt g5.objs.size):=z7;refine Wc z7 (by simp) λg8 z8 e8=>?_;have z8:IsZip g8 z TI TO (rawInt g5.objs.size):=z8;have up:∀c o,c≠z->g5.get? c=some o->g8.get? c=some o:=λc o n e=>aL e8 n (aL e7 n (Uv _ e));have nw:IsPair g8 g5.objs.size x y:=aL e8 (WN zlt) (aL e7 (WN zlt) (UA _ rfl));rw[sz]at z8 nw;refine Uw ⟨_,rfl,?_⟩;show Q (.ref g5.objs.size) _;rw[sz]
 exact q g8 z8 (up _ _ D.a2 O5) (N1.keep _ _ _ u1 (λo=>up _ o D.a3) λo=>up _ o D.b2) (N2.keep _ _ _ u2 (λo=>up _ o D.a4) λo=>up _ o D.b5) nw λc o n1 n2 n3 n4 e=>
  up c o n1 (aL e5 n2 (aL e4 n4 (aL e3 n2 (aL e2 n3 (aL e1 n1 e)))))
theorem J8(hh:A.handled=none)(D:ZA z TI TO i1 i2 l1 l2)(N1:Nx P w i1 l1 st1 xs)(N2:Nx P w i2 l2 st2 ys)(hz:IsZip s.heap z TI TO .none)(hI:IsPair s.heap TI (.ref i1) (.ref i2))(hO:IsPair s.heap TO a b)
 (s1:st1 k s.heap)(s2:st2 k s.heap)(hend:xs[k]?=none\/ys[k]?=none)
 (q:∀h' e,(∀c o,c≠z->c≠TO->c≠i1->c≠i2->s.heap.get? c=some o->h'.get? c=some o)->(∃o,h'.get? e=some o/\o.cls=.type "StopIteration")->E (.ref e) {s with heap:=h'}) :
  wpAny (model P w) A (Builtin.«zip.__next__» ⟨[.ref z],[]⟩) Q E s:=by
 show wpAny _ _ (field (Value.ref z) 2 >>= _) _ _ _;refine Uu (VD (x:=Value.bool false) hz rfl rfl ?_);show wpAny _ _ (field (Value.ref z) 3 >>= _) _ _ _;refine Uu (VD (x:=Value.ref TI) hz rfl rfl ?_);refine Uu (Vw hI rfl ?_);show wpAny _ _ (Builtin.SmallTypes.ownedTupleIsFree (Value.ref z) >>= _) _ _ _;refine Uu ?_;unfold Builtin.SmallTypes.ownedTupleIsFree;refine Uu (VD (x:=Value.none) hz rfl rfl (Uw ?_));simp only[Vu];refine Uu (Wl (Uu (VD (x:=Value.ref TO) hz rfl rfl ?_)));refine Uu (Wc hz (by simp) λg1 z1 e1=>?_);have z1:IsZip g1 z TI TO .ellipsis:=z1;refine Uu ?_;simp only[List.zipIdx_nil,List.zipIdx_cons,Xz,V3];refine Uu (Uu (wpAny_onRaise ?_));show wpAny _ _ (Builtin.SmallTypes.nextOf (Value.ref i1) >>= _) _ _ _;have t1:st1 k g1:=N1.keep _ _ _ s1 (λo=>aL e1 D.a3) λo=>aL e1 D.b2
 cases hx:xs[k]? with
 |none=>
  refine Uu (N1.done _ k _ _ _ hh t1 hx λg2 e e2 ⟨oe,he,ce⟩=>?_);have z2:IsZip g2 z TI TO .ellipsis:=e2 _ _ D.a3.symm z1;have ne:e≠z:=λr=>by rw[r,z2]at he;cases he;exact absurd (show Value.type "zip" = Value.type "StopIteration" from ce) (by decide)
  exact Wc z2 (by simp) λg3 _ e3=>q g3 e (λc o n1 _ n3 _ r=>aL e3 n1 (e2 _ _ n3 (aL e1 n1 r))) ⟨oe,aL e3 ne he,ce⟩
 |some x=>
  have hy:ys[k]?=none:=by
   rcases hend with r|r
   ·rw[hx]at r;cases r
   ·exact r
  refine Uu (N1.item _ k _ x _ _ t1 hx λg2 t1 e2=>Uw ?_);have O2:IsPair g2 TO a b:=aL e2 D.a8 (aL e1 D.a2 hO);refine Uu (Vw O2 rfl (Uu (XQ O2 λg3 O3 e3=>?_)));refine Uu (wpAny_letGo (Uw (Uu (Uu (wpAny_onRaise ?_)))));show wpAny _ _ (Builtin.SmallTypes.nextOf (Value.ref i2) >>= _) _ _ _;refine Uu (N2.done _ k _ _ _ hh (N2.keep _ _ _ s2 (λo e=>aL e3 D.a9.symm (aL e2 D.b1.symm (aL e1 D.a4 e))) λo e=>aL e3 D.b6 (aL e2 D.b7 (aL e1 D.b5 e))) hy λg4 e e4 ⟨oe,he,ce⟩=>?_);have z4:IsZip g4 z TI TO .ellipsis:=e4 _ _ D.a4.symm (aL e3 D.a2.symm (aL e2 D.a3.symm z1));have ne:e≠z:=λr=>by rw[r,z4]at he;cases he;exact absurd (show Value.type "zip" = Value.type "StopIteration" from ce) (by decide)
  exact Wc z4 (by simp) λg5 _ e5=>q g5 e (λc o n1 n2 n3 n4 r=>aL e5 n1 (e4 _ _ n4 (aL e3 n2 (aL e2 n3 (aL e1 n1 r))))) ⟨oe,aL e5 ne he,ce⟩
end
section
variable {P:Yt} {w:World} {A:Yv} {E:Ye} {s:Yw}
structure P1(h h':Heap)(l1 l2:Addr):Prop where
 z:IsZip h' (h.objs.size+4) (h.objs.size+2) (h.objs.size+3) .none
 ti:IsPair h' (h.objs.size+2) (.ref h.objs.size) (.ref (h.objs.size+1))
 to:IsPair h' (h.objs.size+3) .none .none
 i1:h'.IsTupleIter h.objs.size l1 0
 i2:h'.IsTupleIter (h.objs.size+1) l2 0
 sz:h'.objs.size=h.objs.size+5
 keep:∀c o,h.get? c=some o->h'.get? c=some o
noncomputable abbrev rQ(h:Heap)(u:Addr):Heap:=h.push {cls:=.type "tuple_iterator",data:=.fields #[.ref u,.int 0 0]}
noncomputable abbrev Np(h:Heap)(a b:Addr):Heap:=h.push {cls:=.type "tuple",data:=.seq #[.ref a,.ref b]}
noncomputable abbrev P4(h:Heap):Heap:=h.push {cls:=.type "tuple",data:=.seq #[.none,.none]}
noncomputable abbrev T9(h:Heap)(a b:Addr):Heap:=h.push {cls:=.type "zip",data:=.fields #[.none,.bool false,.bool false,.ref a,.ref b]}
noncomputable abbrev B8(h:Heap)(l1 l2:Addr):Heap:=T9 (P4 (Np (rQ (rQ h l1) l2) h.objs.size (rQ h l1).objs.size)) (rQ (rQ h l1) l2).objs.size (Np (rQ (rQ h l1) l2) h.objs.size (rQ h l1).objs.size).objs.size
theorem GU(h:Heap)(l1 l2:Addr):P1 h (B8 h l1 l2) l1 l2:=by
 have e1:(rQ h l1).objs.size=h.objs.size+1:=Vi ..;have e2:(rQ (rQ h l1) l2).objs.size=h.objs.size+2:=by simp_all
 have e3:(Np (rQ (rQ h l1) l2) h.objs.size (rQ h l1).objs.size).objs.size=h.objs.size+3:=by simp_all
 have e4:(P4 (Np (rQ (rQ h l1) l2) h.objs.size (rQ h l1).objs.size)).objs.size=h.objs.size+4:=by simp_all
 have p5:(B8 h l1 l2).get? (P4 _).objs.size=some _:=UA _ rfl;have p4:(B8 h l1 l2).get? (Np _ h.objs.size (rQ h l1).objs.size).objs.size=some _:=Uv _ (UA _ rfl);have p3:(B8 h l1 l2).get? (rQ (rQ h l1) l2).objs.size=some _:=Uv _ (Uv _ (UA _ rfl));have p2:(B8 h l1 l2).get? (rQ h l1).objs.size=some _:=Uv _ (Uv _ (Uv _ (UA _ rfl)));have p1:(B8 h l1 l2).get? h.objs.size=some _:=Uv _ (Uv _ (Uv _ (Uv _ (UA _ rfl))));rw[e2,e3,e4]at p5;rw[e3]at p4;rw[e2,e1]at p3;rw[e1]at p2;exact⟨p5,p3,p4,⟨_,p1,rfl,rfl⟩,⟨_,p2,rfl,rfl⟩,by simp_all,λc o e=>Uv _ (Uv _ (Uv _ (Uv _ (Uv _ e))))⟩
theorem Aq(l1 l2:Addr)(xs ys:Yr) :
  Meets (Builtin.«zip.__new__» ⟨[.type "zip",.ref l1,.ref l2],[]⟩) (λ_ R s=>s.heap.IsTuple l1 xs/\s.heap.IsTuple l2 ys/\R (.ok (.ret (.ref (P4 (Np (rQ (rQ s.heap l1) l2) s.heap.objs.size (rQ s.heap l1).objs.size)).objs.size))) {s with heap:=B8 s.heap l1 l2}):=
 .of_wp λprog w A R s h=>by
  obtain⟨hp,g,d,tk,os⟩:=s;obtain⟨t1,t2,h⟩:=h;have hsub:=sub_zip;have T1:Heap.IsTuple (Shared.heap ⟨hp,g,d,tk,os⟩) l1 xs:=t1;have T2:Heap.IsTuple (Shared.heap ⟨hp.push {cls:=.type "tuple_iterator",data:=.fields #[.ref l1,.int 0 0]},g,d,tk,os⟩) l2 ys:=Heap.IsTuple.push t2 _
  wp_walk using Xi T1,Xi T2
  exact⟨_,rfl,h⟩
theorem yQ(t1:s.heap.IsTuple l1 xs)(t2:s.heap.IsTuple l2 ys)(q:∀h',P1 s.heap h' l1 l2->Q (.ref (s.heap.objs.size+4)) {s with heap:=h'}) :
  wpAny (model P w) A (call (.type "zip") [.ref l1,.ref l2]) Q E s:=by
 refine callType_new F.called_zip (by decide) (F.typeCall_zip_2 _ _) (F.newCall_zip_2 _ _) (λobj=>F.args_object_init_3 obj _ _) F.entry_zip_new (Aq l1 l2 xs ys) ⟨t1,t2,?_⟩;have n:=GU s.heap l1 l2
 have e4:(P4 (Np (rQ (rQ s.heap l1) l2) s.heap.objs.size (rQ s.heap l1).objs.size)).objs.size=s.heap.objs.size+4:=by
  simp_all
 show _/\_;rw[e4];exact⟨⟨_,n.z,rfl⟩,q _ n⟩
theorem xa{z TI TO i1 i2 l1 l2:Addr}{xs ys:Yl}(D:ZA z TI TO i1 i2 l1 l2)(hz:IsZip s.heap z TI TO .none)(hI:IsPair s.heap TI (.ref i1) (.ref i2))(hO:IsPair s.heap TO a b)
 (t1:s.heap.IsTupleIter i1 l1 k)(t2:s.heap.IsTupleIter i2 l2 k)(h1:s.heap.IsTuple l1 xs.toArray)(h2:s.heap.IsTuple l2 ys.toArray)(hx:xs[k]?=some x)(hy:ys[k]?=some y)
 (q:∀h',IsZip h' z TI TO (rawInt s.heap.objs.size)->IsPair h' TO x y->h'.IsTupleIter i1 l1 (k+1)->h'.IsTupleIter i2 l2 (k+1)->IsPair h' s.heap.objs.size x y ->
   (∀c o,c≠z->c≠TO->c≠i1->c≠i2->s.heap.get? c=some o->h'.get? c=some o)->Q (some (.ref s.heap.objs.size)) {s with heap:=h'}):wpAny (model P w) A (pyNext (.ref z)) Q E s:=by
 have hT:s.TypeIs (.ref z) "zip" := ⟨_,hz,rfl⟩;refine Uu (Wy (U9 hT XX (U6 XX hT F.entry_zip_next ?_ (F.args_zip_next_1 _))));exact GS D (yP i1 l1 xs) (yP i2 l2 ys) hz hI hO ⟨t1,h1⟩ ⟨t2,h2⟩ hx hy λh' a1 a2 a3 a4 a5 a6=>Uw (q h' a1 a2 a3.1 a4.1 a5 a6)
theorem yR{z TI TO i1 i2 l1 l2:Addr}{xs ys:Yl}(hh:A.handled=none)(D:ZA z TI TO i1 i2 l1 l2)(hz:IsZip s.heap z TI TO .none)(hI:IsPair s.heap TI (.ref i1) (.ref i2))(hO:IsPair s.heap TO a b)
 (t1:s.heap.IsTupleIter i1 l1 k)(t2:s.heap.IsTupleIter i2 l2 k)(h1:s.heap.IsTuple l1 xs.toArray)(h2:s.heap.IsTuple l2 ys.toArray)(hend:xs[k]?=none\/ys[k]?=none)
 (q:∀h',(∀c o,c≠z->c≠TO->c≠i1->c≠i2->s.heap.get? c=some o->h'.get? c=some o)->Q none {s with heap:=h'}):wpAny (model P w) A (pyNext (.ref z)) Q E s:=by
 have hT:s.TypeIs (.ref z) "zip" := ⟨_,hz,rfl⟩;refine Uu (Wy (U9 hT XX (U6 XX hT F.entry_zip_next ?_ (F.args_zip_next_1 _))));refine J8 (A:=A.in1) hh D (yP i1 l1 xs) (yP i2 l2 ys) hz hI hO ⟨t1,h1⟩ ⟨t2,h2⟩ hend λh' e hk ⟨o,ho,hc⟩=>?_;exact Uu (XI ⟨o,ho,hc⟩ isSubtype_stop (Uw (q _ hk)))
end
noncomputable def Tq(K:Ym)(a1 a2:Addr):It:=
 ⟨λi H=>∃xs ys x y,gO K H a1 xs/\gO K H a2 ys/\xs[i]?=some x/\ys[i]?=some y,
  λi H v H'=>∃p x y,v=.ref p/\H p=none/\H'=upd H p (.tup [x,y])/\(∀xs,gO K H a1 xs->xs[i]?=some x)/\∀ys,gO K H a2 ys->ys[i]?=some y,
  λi H=>∃xs ys,gO K H a1 xs/\gO K H a2 ys/\(xs.length<=i\/ys.length<=i)⟩
theorem GV{K:Ym}(a1 a2 z TI TO i1 i2:Addr)(D:ZA z TI TO i1 i2 a1 a2):Turn P w K (.Tuple es kk tpos) (Tq K a1 a2) [z,TI,TO,i1,i2] z
  (λk h=>IsZip h z TI TO .none/\IsPair h TI (.ref i1) (.ref i2)/\(∃a b,IsPair h TO a b)/\h.IsTupleIter i1 a1 k/\h.IsTupleIter i2 a2 k) where
 mem:=UL
 obj:=λk h st b hb=>by
  obtain⟨hz,hI,⟨a,c,hO⟩,⟨o1,e1,_,d1⟩,⟨o2,e2,_,d2⟩⟩:=st
  grind
 keep:=λk h h' st kp=>by obtain⟨hz,hI,⟨a,c,hO⟩,t1,t2⟩:=st;exact⟨kp z (by simp) _ hz,kp TI (by simp) _ hI,⟨a,c,kp TO (by simp) _ hO⟩,t1.at (kp i1 (by simp)),t2.at (kp i2 (by simp))⟩
 item:=by
  intro X hP hw hK hc i pins s σ H E I hf st hg;subst hP hw hK;obtain⟨xs,ys,x,y,q1,q2,hx,hy⟩:=hg;obtain⟨its1,r1,p1,_⟩:=I.tuple q1;obtain⟨its2,r2,p2,_⟩:=I.tuple q2;obtain⟨u1,hu1,ru1⟩:=r1.get hx;obtain⟨u2,hu2,ru2⟩:=r2.get hy;obtain⟨hz,hI,⟨a,c,hO⟩,t1,t2⟩:=st;refine xa D hz hI hO t1 t2 (show s.heap.IsTuple a1 its1.toArray from p1) (show s.heap.IsTuple a2 its2.toArray from p2) hu1 hu2 λh' z' o' t1' t2' nw kp=>?_;refine⟨_,rfl,wpAny_letOwnedTupleGo_zip z' λh2 z2 sb=>?_⟩;have lt:∀{b:Addr} {o:Obj},s.heap.get? b=some o->b≠s.heap.objs.size:=λe=>UN (Uz e);have nz:s.heap.objs.size≠z:=(lt hz).symm;have hf0:H s.heap.objs.size=none:=I.hok.fresh (Uy _);have hI2:IsPair h2 TI (.ref i1) (.ref i2):=aL sb D.a1 (kp _ _ D.a1 D.a5 D.a6 D.a7 hI);have kall:∀b o,b∉[z,TI,TO,i1,i2]->s.heap.get? b=some o->h2.get? b=some o:=λb o hb e=>by simp only[UC,UW,VH,not_or]at hb;exact aL sb hb.1 (kp b o hb.1 hb.2.2.1 hb.2.2.2.1 hb.2.2.2.2 e)
  have wO:∀{b:Addr} {u:HO},H b=some u->b∉[z,TI,TO,i1,i2]:=λ{b u} e hb=>by rw[(hf b hb).1]at e;cases e
  have there:∀b o,s.heap.get? b=some o->∃o',h2.get? b=some o':=λb o e=>by
   by_cases hb:b∈[z,TI,TO,i1,i2]
   ·simp only[UC,UW,VH]at hb;rcases hb with rfl|rfl|rfl|rfl|rfl
    ·exact⟨_,z2⟩
    ·exact⟨_,hI2⟩
    ·exact⟨_,aL sb D.a2 o'⟩
    ·obtain⟨_,e1,_⟩:=t1';exact⟨_,aL sb D.a3 e1⟩
    ·obtain⟨_,e1,_⟩:=t2';exact⟨_,aL sb D.a4 e1⟩
   ·exact⟨o,kall b o hb e⟩
  have hokN:lz X.prog X.w (upd H s.heap.objs.size (.tup [x,y])) h2:=λb u e=>by
   by_cases hb:b=s.heap.objs.size
   ·subst hb;rw[aJ]at e;cases e;exact⟨by show 2<=sizeLine;decide,[u1,u2],.cons ru1 (.cons ru2 .nil),⟨_,aL sb nz nw,rfl,_,rfl⟩⟩
   ·rw[ak hb]at e;refine(I.hok b u e).oz (λd v hd r=>kall d v ?_ r) (λd r=>by rw[ak (ay r hf0)];exact r) λd vs r=>by rw[ak (ay r hf0)];exact r
    rcases hd with rfl|hd
    ·exact wO e
    ·exact wO hd
  have I2:Inv X pins σ (upd H s.heap.objs.size (.tup [x,y])) {s with heap:=h2}:=by
   refine I.step (g':=s.gens) (d':=s.drawn) (t':=s.toks) (ch:=[z,TI,TO,i1,i2]) (λb hb=>⟨(hf b hb).2.2.2.1,(hf b hb).2.1,(hf b hb).2.2.2.2.1,(hf b hb).2.2.2.2.2⟩) (λb o _ _ hb e _=>kall b o hb e) (λb o _ _ hb e _=>⟨o.slots,kall b o hb e⟩)
    (λb o _ e n=>by rw[ak (lt e)];exact n) (λb o _ e=>there b o e) (λb vs e=>by rw[ak (ay e hf0)];exact e) (λb o v e=>by rw[ak (ay e hf0)];exact e) (λb ps e=>⟨#[],by rw[ak (ay e hf0),e];simp⟩) (λm hm=>?_) hokN I.bare
   obtain⟨o,es',ep,e,r⟩:=hm;exact⟨o,es',ep,kall _ o (λhb=>(hf _ hb).2.1 rfl) e,r⟩
  refine⟨.ref s.heap.objs.size,_,I2,rfl,⟨_,x,y,rfl,hf0,rfl,λvs h=>by rw[I.rN h q1];exact hx,λvs h=>by rw[I.rN h q2];exact hy⟩,⟨z2,hI2,⟨_,_,aL sb D.a2 o'⟩,t1'.at λo e=>aL sb D.a3 e,t2'.at λo e=>aL sb D.a4 e⟩,λb hb=>?_⟩;have hb':=(hf b hb).1;by_cases e:b=s.heap.objs.size
  ·exfalso;simp only[UC,UW,VH]at hb;rcases hb with r|r|r|r|r
   ·exact lt hz (r▸e)
   ·exact lt hI (r▸e)
   ·exact lt hO (r▸e)
   ·obtain⟨_,e1,_⟩:=t1;exact lt e1 (r▸e)
   ·obtain⟨_,e1,_⟩:=t2;exact lt e1 (r▸e)
  ·rw[ak e];exact hb'
 done:=by
  intro X hP hw hK hc i pins s σ H E I hf st hg;subst hP hw hK;obtain⟨xs,ys,q1,q2,hl⟩:=hg;obtain⟨its1,r1,p1,_⟩:=I.tuple q1;obtain⟨its2,r2,p2,_⟩:=I.tuple q2;obtain⟨hz,hI,⟨a,c,hO⟩,t1,t2⟩:=st;refine yR (I.ok.hd hc) D hz hI hO t1 t2 (show s.heap.IsTuple a1 its1.toArray from p1) (show s.heap.IsTuple a2 its2.toArray from p2) ?_ λh' kp=>⟨rfl,?_⟩
  ·have e1:=r1.length;have e2:=r2.length;rcases hl with r|r
   ·exact .inl (List.getElem?_eq_none_iff.mpr (by omega))
   ·exact .inr (List.getElem?_eq_none_iff.mpr (by omega))
  ·have kall:∀b o,b∉[z,TI,TO,i1,i2]->s.heap.get? b=some o->h'.get? b=some o:=λb o hb e=>by
    simp only[UC,UW,VH,not_or]at hb;exact kp b o hb.1 hb.2.2.1 hb.2.2.2.1 hb.2.2.2.2 e
   have wO:∀{b:Addr} {u:HO},H b=some u->b∉[z,TI,TO,i1,i2]:=λ{b u} e hb=>by rw[(hf b hb).1]at e;cases e
   refine I.step (g':=s.gens) (d':=s.drawn) (t':=s.toks) (ch:=[z,TI,TO,i1,i2]) (λb hb=>⟨(hf b hb).2.2.2.1,(hf b hb).2.1,(hf b hb).2.2.2.2.1,(hf b hb).2.2.2.2.2⟩) (λb o _ _ hb e _=>kall b o hb e) (λb o _ _ hb e _=>⟨o.slots,kall b o hb e⟩)
    (λb o _ e n=>n) (λb o hb e=>⟨o,kall b o hb e⟩) (λb vs e=>e) (λb o v e=>e) (λb ps e=>⟨#[],by rw[e];simp⟩) (λm hm=>?_) (λb u e=>(I.hok b u e).oz (λd v hd r=>kall d v ?_ r) (λ_ r=>r) λ_ _ r=>r) I.bare
   ·obtain⟨o,es',ep,e,r⟩:=hm;exact⟨o,es',ep,kall _ o (λhb=>(hf _ hb).2.1 rfl) e,r⟩
   ·rcases hd with rfl|hd
    ·exact wO e
    ·exact wO hd
 self:=λ_ _ _ _ _ st h=>wpAny_pyIter_zip st.1 h
section
variable {X:Cx} {es:Yo} {kk:Nat} {tpos:Pos}
theorem R8(a b:Nat)(h:a≠b):@Ne Addr a b:=h
theorem P5(n a b:Nat)(h1:a<n)(h2:b<n):ZA (n+4) (n+2) (n+3) n (n+1) a b:=by constructor<;>refine R8 _ _ ?_<;>omega
noncomputable def R9(K:Ym)(ta:TA):TI:=λσ H R=>ta σ H λvs H1=>∃a1 a2 xs ys,vs=[.ref a1,.ref a2]/\gO K H1 a1 xs/\gO K H1 a2 ys/\R (Tq K a1 a2) H1
theorem Nq{p pos:Pos}(hg:Gl X "zip")(hm:X.mg "zip" = none)(ha:PA X [e1,e2] ta)(hs:starEach [e1,e2] X.env=[(false,eval e1 X.env),(false,eval e2 X.env)]:=by rfl)(hs2:starEach [e2] X.env=[(false,eval e2 X.env)]:=by rfl) :
  PI X (.Tuple es kk tpos) (.Call (.Name "zip" p) [e1,e2] [] pos) (R9 X.K ta):=by
 intro pins s σ H R I h;refine Call_ (pb I hg hm (by rfl:bootBuiltins "zip" = some (.type "zip")) (V1 (bW (ha pos pins s σ H _ I h) λus s1 ⟨vs,H1,I1,r1,q1⟩=>?_) (by grind) (by rw[hs2];rfl)));obtain⟨a1,a2,xs,ys,e,t1,t2,q⟩:=q1;subst e
 cases r1 with
 |cons r rr=>
  cases rr with
  |cons r' rr=>
   cases rr;cases r;cases r';obtain⟨its1,v1,p1,_⟩:=I1.tuple t1;obtain⟨its2,v2,p2,_⟩:=I1.tuple t2;have L1:a1<s1.heap.objs.size:=by obtain⟨_,e,_⟩:=p1;exact Uz e
   have L2:a2<s1.heap.objs.size:=by obtain⟨_,e,_⟩:=p2;exact Uz e
   refine yQ (show s1.heap.IsTuple a1 its1.toArray from p1) (show s1.heap.IsTuple a2 its2.toArray from p2) λh' N=>?_;refine wpAny_pyIter_zip (s:={s1 with heap:=h'}) N.z ?_;have I2:Inv X pins σ H1 {s1 with heap:=h'}:=I1.kept (t':=s1.toks) N.keep;refine⟨s1.heap.objs.size+4,[s1.heap.objs.size+4,s1.heap.objs.size+2,s1.heap.objs.size+3,s1.heap.objs.size,s1.heap.objs.size+1],_,_,H1,rfl,I2,GV a1 a2 _ _ _ _ _ (P5 _ _ _ L1 L2),⟨N.z,N.ti,⟨_,_,N.to⟩,N.i1,N.i2⟩,λb hb=>?_,q⟩
   have ge:s1.heap.objs.size<=b:=by
    simp only[UC,UW,VH]at hb;rcases hb with rfl|rfl|rfl|rfl|rfl
    ·exact XJ _ _
    ·exact XJ _ _
    ·exact XJ _ _
    ·exact Uy _
    ·exact XJ _ _
   exact I1.EW ge (I1.hok.fresh ge)
end
section
variable {κ:Type} [DecidableEq κ]
noncomputable def rR(kvs:List (κ×V))(k:κ):Option V:=(kvs.find? λkv=>decide (kv.1=k)).map (·.2)
noncomputable def putK(kvs:List (κ×V))(k:κ)(v:V):List (κ×V):=
 if(kvs.any λkv=>decide (kv.1=k))=true then kvs.map (λkv=>if kv.1=k then(kv.1,v)else kv)else kvs++[(k,v)]
theorem qk{p:κ×V}{r:List (κ×V)}{k:κ}(e:p.1=k):rR (p::r) k=some p.2:=by simp[rR,VQ,e]
theorem lY{p:κ×V}{r:List (κ×V)}{k:κ}(e:¬ p.1=k):rR (p::r) k=rR r k:=by simp[rR,VQ,e]
theorem ql(k:κ):∀kvs:List (κ×V),(kvs.any λkv=>decide (kv.1=k))=(rR kvs k).isSome
 | []=>rfl
 |p::r=>by
  rw[Xm];by_cases e:p.1=k
  ·simp only[qk e,Vc e,Bool.true_or,Option.isSome_some]
  ·rw[lY e,U0 e,Bool.false_or];exact ql k r
theorem i9(kvs:List (κ×V))(k:κ)(v:V):(putK kvs k v).length<=kvs.length+1:=by
 unfold putK;split
 ·rw[US];omega
 ·rw[UP,UR,Vq];omega
theorem rM.jW{o:Option V}{u:Option Value}(r:rM o u):o.isSome=u.isSome:=by
 cases o with
 |none=>cases u with
  |none=>rfl
  |some _=>exact(show False from r).elim
 |some _=>cases u with
  |none=>exact(show False from r).elim
  |some _=>rfl
theorem rM.getD{o:Option V}{u:Option Value}{d:V}{d':Value}(r:rM o u)(rd:RelV d d'):RelV (o.getD d) (u.getD d'):=by
 cases o with
 |none=>cases u with
  |none=>exact rd
  |some _=>exact(show False from r).elim
 |some _=>cases u with
  |none=>exact(show False from r).elim
  |some _=>exact r
theorem KV.val{kvs:List (κ×V)}{vs:List (κ×Value)}(r:KV kvs vs)(k:κ):rM (rR kvs k) (valueAt vs k):=by
 unfold KV at r
 induction r with
 |nil=>exact True.intro
 | @cons p q ps qs h t ih=>
  obtain⟨h1,h2⟩:=h;by_cases e:p.1=k
  ·have e':q.1=k:=h1.symm.trans e;have b:valueAt (q::qs) k=some q.2:=by simp[valueAt,VQ,e']
   rw[qk e,b];exact h2
  ·have e':¬ q.1=k:=λz=>e (h1.trans z);have b:valueAt (q::qs) k=valueAt qs k:=by simp[valueAt,VQ,e']
   rw[lY e,b];exact ih
theorem KV.any{kvs:List (κ×V)}{vs:List (κ×Value)}(r:KV kvs vs)(k:κ):(kvs.any λkv=>decide (kv.1=k))=vs.any λkv=>decide (kv.1=k):=by
 unfold KV at r
 induction r with
 |nil=>rfl
 |cons h t ih=>rw[Xm,Xm,ih,h.1]
theorem KV.Nt{kvs:List (κ×V)}{vs:List (κ×Value)}(r:KV kvs vs)(k:κ){y:V}{u:Value}(ry:RelV y u) :
  KV (kvs.map λkv=>if kv.1=k then(kv.1,y)else kv) (vs.map λkv=>if kv.1=k then(kv.1,u)else kv):=by
 unfold KV at r ⊢
 induction r with
 |nil=>exact .nil
 | @cons p q ps qs h t ih=>
  rw[U3,U3];refine .cons ?_ ih;obtain⟨h1,h2⟩:=h;by_cases e:p.1=k
  ·rw[if_pos e,if_pos (h1.symm.trans e)];exact⟨h1,ry⟩
  ·rw[if_neg e,if_neg (λz=>e (h1.trans z))];exact⟨h1,h2⟩
theorem KV.put{kvs:List (κ×V)}{vs:List (κ×Value)}(r:KV kvs vs)(k:κ){y:V}{u:Value}(ry:RelV y u):KV (putK kvs k y) (stored vs k u):=by
 unfold putK stored;rw[r.any k];by_cases e:(vs.any λkv=>decide (kv.1=k))=true
 ·rw[if_pos e,if_pos e];exact r.Nt k ry
 ·rw[if_neg e,if_neg e];exact Paired.snoc r ⟨rfl,ry⟩
theorem KV.length{kvs:List (κ×V)}{vs:List (κ×Value)}(r:KV kvs vs):kvs.length=vs.length:=U2 r
end
theorem sW{P:Yt}{w:World}{k:Key}{u:Value}(r:RelV (kV k) u):(bK P w).is k u=true:=by
 cases k with
 |inl i=>obtain⟨t,e⟩:=(show ∃t,u=Value.int i t from r);subst e;exact Ae P w i t
 |inr x=>obtain⟨t,e⟩:=(show ∃t,u=Value.str x t from r);subst e;exact Af P w x t
theorem xJ{P:Yt}{w:World}:∀{ks:List Key} {us:Yl},Vals (ks.map kV) us->ItemsAre (bK P w) ks us
 | [],_,r=>by rw[Wt]at r;cases r;exact .nil
 |k::ks,_,r=>by
  rw[U3]at r
  cases r with
  |cons h t=>exact .cons (sW h) (xJ t)
noncomputable abbrev KT(H:Hp):List (List Key×V)->List (List Key×Addr×Value)->Prop:=Paired λp q=>p.1=q.1/\H q.2.1=some (.tup (p.1.map kV))/\RelV p.2 q.2.2
theorem KT.val{H:Hp}{kvs:List (List Key×V)}{xs:List (List Key×Addr×Value)}(r:KT H kvs xs)(k:List Key):rM (rR kvs k) ((atKey xs k).map (·.2)):=by
 induction r with
 |nil=>exact True.intro
 | @cons p q ps qs h t ih=>
  obtain⟨h1,_,h2⟩:=h;by_cases e:p.1=k
  ·have e':q.1=k:=h1.symm.trans e;have b:atKey (q::qs) k=some q.2:=by simp[atKey,VQ,e']
   rw[qk e,b];exact h2
  ·have e':¬ q.1=k:=λz=>e (h1.trans z);have b:atKey (q::qs) k=atKey qs k:=by simp[atKey,VQ,e']
   rw[lY e,b];exact ih
theorem KT.Nt{H:Hp}{kvs:List (List Key×V)}{xs:List (List Key×Addr×Value)}(r:KT H kvs xs)(k:List Key){y:V}{u:Value}(ry:RelV y u) :
  KT H (kvs.map λkv=>if kv.1=k then(kv.1,y)else kv) (xs.map (putAt k u)):=by
 induction r with
 |nil=>exact .nil
 | @cons p q ps qs h t ih=>
  rw[U3,U3];refine .cons ?_ ih;obtain⟨h1,h2,h3⟩:=h;unfold putAt;by_cases e:p.1=k
  ·rw[if_pos e,if_pos (h1.symm.trans e)];exact⟨h1,h2,ry⟩
  ·rw[if_neg e,if_neg (λz=>e (h1.trans z))];exact⟨h1,h2,h3⟩
theorem KT.put{H:Hp}{kvs:List (List Key×V)}{xs:List (List Key×Addr×Value)}(r:KT H kvs xs)(k:List Key){b:Addr}{y:V}{u:Value}(hb:H b=some (.tup (k.map kV)))(ry:RelV y u) :
  KT H (putK kvs k y) (storedH xs k b u):=by
 have e:(kvs.any λkv=>decide (kv.1=k))=(atKey xs k).isSome:=by rw[ql,(r.val k).jW,X8]
 unfold putK storedH;rw[e];by_cases q:(atKey xs k).isSome=true
 ·rw[if_pos q,if_pos q];exact r.Nt k ry
 ·rw[if_neg q,if_neg q];exact Paired.snoc r ⟨rfl,hb,ry⟩
theorem KT.keeps{H H':Hp}{kvs:List (List Key×V)}{xs:List (List Key×Addr×Value)}(r:KT H kvs xs)(ht:∀b ys,H b=some (.tup ys)->H' b=some (.tup ys)):KT H' kvs xs:=
 Paired.wU r λ_ _ z=>⟨z.1,ht _ _ z.2.1,z.2.2⟩
section
variable {P:Yt} {w:World} {H:Hp} {h:Heap} {a:Addr}
theorem Mb{u:HO}(ok:lz P w H h)(e:Rd H a u):bM P w H h a u:=e.ok ok
theorem xM{kvs:List (Key×V)}(ok:lz P w H h)(e:Rd H a (.dK kvs)):kvs.length<=sizeLine/\(a==sysModules)=false/\∃vs,KV kvs vs/\h.DictOf (bK P w) a vs:=
 show bM P w H h a (.dK kvs)from Mb ok e
theorem Mc{kvs:List (Key×V)}(ok:lz P w H h)(e:H a=some (.dK kvs)):kvs.length<=sizeLine/\(a==sysModules)=false/\∃vs,KV kvs vs/\h.DictOf (bK P w) a vs:=xM ok (.inl e)
theorem rS{ks:List Key}(ok:lz P w H h)(e:H a=some (.tup (ks.map kV))):(tupleKind (bK P w)).is h ks a:=by obtain⟨_,its,r,o,h1,h2,n,h3⟩:=(show bM P w H h a (.tup (ks.map kV))from ok a _ e);exact⟨o,its.toArray,n,h1,h2,h3,by simpa using xJ r⟩
theorem xO{kvs:List (List Key×V)}(ok:lz P w H h)(e:Rd H a (.dT kvs)):kvs.length<=sizeLine/\(a==sysModules)=false /\
  ∃xs,KT H kvs xs/\h.DictOfH (tupleKind (bK P w)) a xs:=by
 obtain⟨z,y,xs,r,o,es,ep,h1,h2,h3,h4,h5⟩:=(show bM P w H h a (.dT kvs)from Mb ok e);refine⟨z,y,xs,r,o,es,ep,h1,h2,h3,h4,λx hx=>?_,h5⟩
 have all:∀{l:List (List Key×V)} {m:List (List Key×Addr×Value)},KT H l m->∀x∈m,(tupleKind (bK P w)).is h x.1 x.2.1:=by
  intro l m q
  induction q with
  |nil=>intro x hx;exact nomatch hx
  | @cons p q ps qs hq t ih=>
   intro x hx;rcases UC.mp hx with e|hx
   ·subst e;exact rS ok (by rw[<- hq.1];exact hq.2.1)
   ·exact ih x hx
 exact all r x hx
theorem P6{kvs:List (List Key×V)}(ok:lz P w H h)(e:H a=some (.dT kvs)):kvs.length<=sizeLine/\(a==sysModules)=false /\
  ∃xs,KT H kvs xs/\h.DictOfH (tupleKind (bK P w)) a xs:=xO ok (.inl e)
end
noncomputable def xb(H:Hp)(a:Addr)(y:V)(r:Option V):Prop:=
 (∃kvs k,Rd H a (.dK kvs)/\y=kV k/\r=rR kvs k)\/∃kvs k b,Rd H a (.dT kvs)/\y=.ref b/\H b=some (.tup (k.map kV))/\r=rR kvs k
noncomputable def J9(H:Hp)(a:Addr)(y v:V)(H':Hp):Prop:=
 (∃kvs k,H a=some (.dK kvs)/\y=kV k/\kvs.length<sizeLine/\H'=upd H a (.dK (putK kvs k v))) \/
 ∃kvs k b,H a=some (.dT kvs)/\y=.ref b/\H b=some (.tup (k.map kV))/\kvs.length<sizeLine/\H'=upd H a (.dT (putK kvs k v))
theorem xb.k{H:Hp}{a:Addr}{kvs:List (Key×V)}{k:Key}(e:H a=some (.dK kvs)):xb H a (kV k) (rR kvs k):=.inl ⟨kvs,k,.inl e,rfl,rfl⟩
theorem J9.k{H:Hp}{a:Addr}{kvs:List (Key×V)}{k:Key}{v:V}(e:H a=some (.dK kvs))(hl:kvs.length<sizeLine):J9 H a (kV k) v (upd H a (.dK (putK kvs k v))):=.inl ⟨kvs,k,e,rfl,hl,rfl⟩
section
variable {X:Cx} {pins:Yf} {σ:St} {H:Hp} {s:Yw} {a:Addr} {y v:V} {u r:Value} {o:Option V} {A:Yv} {E:Ye}
theorem Inv.big(I:Inv X pins σ H s):sysModules<s.heap.objs.size:=by have h:mainGlobals<s.heap.objs.size:=(I.mod.glob.keeps I.bk).lt;exact Nat.lt_trans (by decide) h
theorem Fe{Q:Ye}(hu:A.units+1<cLine)(I:Inv X pins σ H s)(g:xb H a y (some v))(ry:RelV y u)(h:∀w' s',Inv X pins σ H s'->RelV v w'->Q w' s') :
  wpAny (model X.prog X.w) A (getItem (.ref a) u) Q E s:=by
 rcases g with⟨kvs,k,e,ey,l⟩|⟨kvs,k,b,e,ey,eb,l⟩
 ·subst ey;obtain⟨z,hd,vs,rel,dd⟩:=xM I.hok e;obtain⟨w',hw,rw'⟩:=rM.some_of (v:=v) (o:=valueAt vs k) (by rw[l];exact rel.val k);exact wpAny_getItem_of (sW ry) dd.mapOf hw (h w' _ (I.tok _) rw')
 ·subst ey;cases(show u=Value.ref b from ry);obtain⟨z,hd,xs,rel,dd⟩:=xO I.hok e;obtain⟨w',hw,rw'⟩:=rM.some_of (v:=v) (o:=(atKey xs k).map (·.2)) (by rw[l];exact rel.val k);obtain⟨p,hp,hp2⟩:=Ve.mp hw;refine wpAny_getItem_heap (WI hu) (rS I.hok eb) dd hp ?_;rw[hp2];exact h w' _ (I.tok _) rw'
theorem Sa{Q:Ye}(hu:A.units+1<cLine)(I:Inv X pins σ H s)(g:xb H a y o)(ry:RelV y u)(h:∀s',Inv X pins σ H s'->Q (.bool o.isSome) s') :
  wpAny (model X.prog X.w) A (compareOp .In u (.ref a)) Q E s:=by
 rcases g with⟨kvs,k,e,ey,l⟩|⟨kvs,k,b,e,ey,eb,l⟩
 ·subst ey;obtain⟨z,hd,vs,rel,dd⟩:=xM I.hok e;refine wpAny_in_of (sW ry) hd dd.mapOf ?_;rw[<- (rel.val k).jW,<- l];exact h _ (I.tok _)
 ·subst ey;cases(show u=Value.ref b from ry);obtain⟨z,hd,xs,rel,dd⟩:=xO I.hok e;refine wpAny_in_heap (WI hu) (rS I.hok eb) hd dd ?_;have q:=(rel.val k).jW;rw[X8]at q;rw[<- q,<- l];exact h _ (I.tok _)
theorem Ka{Q:Ye}(hu:A.units+1<cLine)(I:Inv X pins σ H s)(g:xb H a y o)(ry:RelV y u)(h:∀s',Inv X pins σ H s'->Q (.bool (!o.isSome)) s') :
  wpAny (model X.prog X.w) A (compareOp .NotIn u (.ref a)) Q E s:=by
 rcases g with⟨kvs,k,e,ey,l⟩|⟨kvs,k,b,e,ey,eb,l⟩
 ·subst ey;obtain⟨z,hd,vs,rel,dd⟩:=xM I.hok e;refine wpAny_notIn_of (sW ry) hd dd.mapOf ?_;rw[<- (rel.val k).jW,<- l];exact h _ (I.tok _)
 ·subst ey;cases(show u=Value.ref b from ry);obtain⟨z,hd,xs,rel,dd⟩:=xO I.hok e;refine wpAny_notIn_heap (WI hu) (rS I.hok eb) hd dd ?_;have q:=(rel.val k).jW;rw[X8]at q;rw[<- q,<- l];exact h _ (I.tok _)
theorem uo{h':Heap}{t':Nat}{ob:HO}(I:Inv X pins σ H s)(mu:O9 (H a))(hs:Heap.SameBut a s.heap h')(he:∃q,h'.get? a=some q)(new:bM X.prog X.w (upd H a ob) h' a ob) :
  Inv X pins σ (upd H a ob) {s with heap:=h',toks:=t'}:=
 I.write (x:=a) (e:=a) mu (.inl rfl) (λb q hb z=>(hs.2 b hb).trans z) he new
theorem yS{P:Yt}{w:World}{H':Hp}{h':Heap}{kvs:List (Key×V)}{vs:List (Key×Value)}(z:kvs.length<=sizeLine)(hd:(a==sysModules)=false)(rel:KV kvs vs)(dd:h'.DictOf (bK P w) a vs) :
  bM P w H' h' a (.dK kvs):=⟨z,hd,vs,rel,dd⟩
theorem Ff{H':Hp}{Q:Unit->Yw->Prop}(hu:A.units+1<cLine)(I:Inv X pins σ H s)(g:J9 H a y v H')(ry:RelV y u)(rv:RelV v r)(h:∀s',Inv X pins σ H' s'->Q () s') :
  wpAny (model X.prog X.w) A (setItem (.ref a) u r) Q E s:=by
 rcases g with⟨kvs,k,e,ey,l,eH⟩|⟨kvs,k,b,e,ey,eb,l,eH⟩
 ·subst ey eH;obtain⟨z,hd,vs,rel,dd⟩:=Mc I.hok e;have hz:vs.length<=sizeLine:=by rw[<- rel.length];exact z
  have hl:(putK kvs k v).length<=sizeLine:=by have:=i9 kvs k v;omega
  refine wpAny_setItem_pairs (hsz:=hz) (sW ry) dd λh' dd' hs=>h _ ?_;have he:∃q,h'.get? a=some q:=by obtain⟨q,_,_,hq,_⟩:=dd';exact⟨q,hq⟩
  exact uo I (by rw[e];exact True.intro) hs he (yS hl hd (rel.put k rv) dd')
 ·subst ey eH;cases(show u=Value.ref b from ry);obtain⟨z,hd,xs,rel,dd⟩:=P6 I.hok e;have hz:xs.length<=sizeLine:=by rw[<- U2 rel];exact z
  have hl:(putK kvs k v).length<=sizeLine:=by have:=i9 kvs k v;omega
  refine wpAny_setItem_heap (hsz:=hz) (WI hu) (rS I.hok eb) dd λh' dd' hs=>h _ ?_;obtain⟨q,es,ep,hq,h2,h3,h4,_,h5⟩:=dd';refine uo I (by rw[e];exact True.intro) hs ⟨q,hq⟩ ⟨hl,hd,_,(rel.put k eb rv).keeps λc ys ec=>?_,q,es,ep,hq,h2,h3,h4,h5⟩;rw[ak (Pz ec e (λz=>nomatch z))];exact ec
end
noncomputable def Nu(i:Expr):Prop:=∀ov iv,subscripted i false ov iv=operate [ov,iv] (getItem ov iv)
theorem Kb{prog:Yt}{w:World}{A:Yv}{E:Ye}{s:Yw}{env:Env}{value slice:Expr}{pos:Pos}{T id:String}{Q:Ye}
 (hl:typeLookup (.type T) "__getitem__" = pure (some (.builtin id)))(hs:Nu slice)
 (h:wpAny (model prog w) A (eval value env) (λo s₁=>wpAny (model prog w) A (eval slice env) (λi s₂=>s₂.TypeIs o T/\wpAny (model prog w) A (getItem o i) Q E s₂) E s₁) E s) :
  wpAny (model prog w) A (eval (.Subscript value slice pos) env) Q E s:=by
 refine Subscript_ (VA h (λo s₁ h₁=>VA h₁ (λi s₂ h₂=>?_) λ_ _ x=>x) λ_ _ x=>x);obtain⟨hT,h₂⟩:=h₂;unfold subscriptTail;refine Uu ?_;rw[getitemInPython_of_ne hT.not_modules];refine Uu (WR hT hl ?_);have fin:wpAny (model prog w) A (subscripted slice false o i) (λr s₃=>wpAny (model prog w) A (letTemporaryGo value o r >>= λ_=>pure r) Q E s₃) E s₂:=by rw[hs o i];exact wpAny_operating (VA h₂ (λr s₃ h₃=>Uu (wpAny_letTemporaryGo (Uw h₃))) λ_ _ x=>x)
 first
  |exact Uw (Uu fin)
  |exact Uu (Uw (Uu fin))
  |exact Uu fin
theorem Ar{P:Yt}{w:World}{H:Hp}(h:Heap)(hb:sysModules<h.objs.size):bM P w H (h.push {cls:=.type "dict",data:=.dict #[]}) h.objs.size (.dK []):=
 ⟨V4 _,Wu.mpr (WZ (UN hb)),[],.nil,Heap.DictOf.new h⟩
noncomputable def Nv:TE:=λ_ H Q=>∀p,H p=none->Q (.ref p) (upd H p (.dK []))
section
variable {X:Cx} {pos:Pos}
theorem GW:PE X (.Dict [] [] pos) Nv:=λpins s σ H Q I h=>
 wpAny_Dict_empty ⟨.ref s.heap.objs.size,_,I.laid (a:=s.heap.objs.size) (o:=.dK []) (t':=s.toks) (λ_ _ q=>Uv _ q) (Uy _) (Ar s.heap I.big),rfl,h _ (I.hok.fresh (Uy _))⟩
end
noncomputable def B9:List (TE×TE)->St->Hp->(List (V×V)->Hp->Prop)->Prop
 | [],_,H,Q=>Q [] H
 | (tk,tv)::r,σ,H,Q=>tk σ H λx H1=>tv σ H1 λy H2=>B9 r σ H2 λps H3=>Q ((x,y)::ps) H3
noncomputable abbrev VV:List (V×V)->List (Value×Value)->Prop:=Paired λp q=>RelV p.1 q.1/\RelV p.2 q.2
noncomputable def Rc(X:Cx)(pos:Pos)(keys:List (Option Expr))(values:Yo)(As:List (TE×TE)):Prop:=
 ∀(pins:Yf) (s:Yw) (σ:St) (H:Hp) (Q:List (V×V)->Hp->Prop),Inv X pins σ H s->B9 As σ H Q ->
  wpAny (model X.prog X.w) X.A (evalPairs (pairTrees keys values X.env pos)) (λvs s'=>∃ps H',Inv X pins σ H' s'/\VV ps vs/\Q ps H') X.xe s
theorem Kc{X:Cx}{pos:Pos}:Rc X pos [] [] []:=λpins s σ H Q I h=>pairTrees_nil_walk ⟨[],H,I,.nil,h⟩
theorem GX{X:Cx}{pos:Pos}{k v:Expr}{ks:List (Option Expr)}{vs:Yo}{tk tv:TE}{As:List (TE×TE)}(hk:PE X k tk)(hv:PE X v tv)(hr:Rc X pos ks vs As) :
  Rc X pos (some k::ks) (v::vs) ((tk,tv)::As):=λpins s σ H Q I h=>
 pairTrees_cons_walk (bW (hk pins s σ H _ I h) λu s1 ⟨x,H1,I1,rx,q1⟩=>bW (hv pins s1 σ H1 _ I1 q1) (by rintro w2 s2 ⟨y,H2,I2,ry,q2⟩;exact bW (hr pins s2 σ H2 _ I2 q2) (by rintro ws s3 ⟨ps,H3,I3,rel,q3⟩;exact⟨(x,y)::ps,H3,I3,.cons ⟨rx,ry⟩ rel,q3⟩)))
noncomputable def jz(kvs more:List (Key×V)):List (Key×V):=more.foldl (λacc kv=>putK acc kv.1 kv.2) kvs
theorem KV.merge:∀{more:List (Key×V)} {rs:List (Key×Value)} {kvs:List (Key×V)} {vs:List (Key×Value)},KV more rs->KV kvs vs->KV (jz kvs more) (merged vs rs):=by
 intro more rs kvs vs r;unfold KV at r
 induction r generalizing kvs vs with
 |nil=>intro q;exact q
 | @cons p q ps qs h t ih=>
  intro r0;have e:KV (putK kvs p.1 p.2) (stored vs q.1 q.2):=by have:=r0.put p.1 h.2;rw[<- h.1];exact this
  exact ih e
theorem jA:∀(more kvs:List (Key×V)),(jz kvs more).length<=kvs.length+more.length
 | [],kvs=>by show kvs.length<=kvs.length+0;omega
 |p::r,kvs=>by have h1:=jA r (putK kvs p.1 p.2);have h2:=i9 kvs p.1 p.2;show(jz (putK kvs p.1 p.2) r).length<=_;rw[UR];omega
theorem pq{P:Yt}{w:World}:∀{kvs:List (Key×V)} {ws:List (Value×Value)},VV (kvs.map λkv=>(kV kv.1,kv.2)) ws->∃rs,Carries (bK P w) ws rs/\KV kvs rs
 | [],_,r=>by rw[Wt]at r;cases r;exact⟨[],True.intro,.nil⟩
 |p::kvs,_,r=>by
  rw[U3]at r
  cases r with
  | @cons a b as bs h t=>obtain⟨rs,c,q⟩:=pq (P:=P) (w:=w) t;obtain⟨b1,b2⟩:=b;exact⟨(p.1,b2)::rs,⟨sW h.1,rfl,c⟩,.cons ⟨rfl,h.2⟩ q⟩
noncomputable def P7(As:List (TE×TE)):TE:=λσ H Q=>∀p,H p=none->B9 As σ (upd H p (.dK [])) λps H2=>H2 p=some (.dK [])/\∃kvs:List (Key×V),ps=kvs.map (λkv=>(kV kv.1,kv.2))/\kvs.length<=15/\Q (.ref p) (upd H2 p (.dK (jz [] kvs)))
theorem Ke{X:Cx}{pos:Pos}{keys:List (Option Expr)}{values:Yo}{As:List (TE×TE)}(h:Rc X pos keys values As)(hall:keys.all (·.isSome)=true)(hl:keys.length=values.length)(h0:keys≠[])
 (h15:keys.length<=15):PE X (.Dict keys values pos) (P7 As):=by
 intro pins s σ H Q I q;have hn:=I.hok.fresh (Uy s.heap.objs.size);have I1:=I.laid (a:=s.heap.objs.size) (o:=.dK []) (h':=s.heap.push {cls:=.type "dict",data:=.dict #[]}) (t':=s.toks) (λ_ _ q=>Uv _ q) (Uy _) (Ar s.heap I.big);refine wpAny_Dict_walk (knd:=bK X.prog X.w) hall hl h0 h15 (bW (h pins _ σ _ _ I1 (q _ hn)) λws s2 ⟨ps,H2,I2,rel,e,kvs,ep,lk,q2⟩=>?_);subst ep;obtain⟨rs,c,rk⟩:=pq (P:=X.prog) (w:=X.w) rel;obtain⟨z,hd,vs0,r0,dd⟩:=Mc I2.hok e;cases r0;refine⟨rs,c,dd,λh' dd' hs=>⟨.ref s.heap.objs.size,_,?_,rfl,q2⟩⟩;have hz:(jz [] kvs).length<=sizeLine:=by have h1:=jA kvs [];rw[Vq]at h1;rw[VJ];omega
 have he:∃q,h'.get? s.heap.objs.size=some q:=by obtain⟨q,_,_,hq,_⟩:=dd';exact⟨q,hq⟩
 exact uo I2 (by rw[e];exact True.intro) hs he (yS hz hd (rk.merge .nil) dd')
structure M2(X:Cx)(o:Expr)(m:Str)(apos:Pos)(e f:Expr)(cpos:Pos):Prop where
 base:attributeBase o m X.env (eval o X.env)=eval o X.env
 few:((backTo cpos (starEach [e,f] X.env)).all (λx=>!x.1)&&(backToKw cpos (keywordEach [] X.env)).all (λx=>x.1.isSome)
  && decide (([e,f]:Yo).length+([]:List Keyword).length+(if([]:List Keyword).isEmpty then 0 else 1)<30))=true
 line:(apos.endLine==cpos.line)=true
 trees:backTo cpos (starEach [e,f] X.env)=[(false,eval e X.env),(false,eval f X.env)]
noncomputable def Tr(H:Hp)(a:Addr):Prop:=(∃kvs,Rd H a (.dK kvs))\/∃kvs,Rd H a (.dT kvs)
theorem Nw{X:Cx}{pins:Yf}{σ:St}{H:Hp}{s:Yw}{a:Addr}(I:Inv X pins σ H s)(d:Tr H a) :
  s.TypeIs (.ref a) "dict" /\ (∀b,Value.ref a=.ref b->∃ob,s.heap.get? b=some ob/\ob.dict=none)/\(a==sysModules)=false:=by
 rcases d with⟨kvs,e⟩|⟨kvs,e⟩
 ·obtain⟨_,hd,vs,_,dd⟩:=xM I.hok e;refine⟨dd.typeIs,λb q=>?_,hd⟩;cases q;obtain⟨ob,_,_,h1,h2,_⟩:=dd;exact⟨ob,h1,h2.2.1⟩
 ·obtain⟨_,hd,xs,_,dd⟩:=xO I.hok e;refine⟨dd.typeIs,λb q=>?_,hd⟩;cases q;obtain⟨ob,_,_,h1,h2,_⟩:=dd;exact⟨ob,h1,h2.2.1⟩
section
variable {X:Cx} {pins:Yf} {σ:St} {H:Hp} {s:Yw} {a:Addr} {y d:V} {u r:Value} {o:Option V} {A:Yv} {E:Ye}
theorem Ny{Q:Ye}(hu:A.units+1<cLine)(I:Inv X pins σ H s)(g:xb H a y o)(ry:RelV y u)(rd:RelV d r)(h:∀w' s',Inv X pins σ H s'->RelV (o.getD d) w'->Q w' s') :
  wpAny (model X.prog X.w) A (call (.builtin "dict.get") [.ref a,u,r]) Q E s:=by
 rcases g with⟨kvs,k,e,ey,l⟩|⟨kvs,k,b,e,ey,eb,l⟩
 ·subst ey;obtain⟨z,hd,vs,rel,dd⟩:=xM I.hok e;refine call_meetsIn XF dd.typeIs PySem.F.entry_dict_get (PySem.F.args_dict_get_3 _ _ _) (meets_dict_get_default (bK X.prog X.w) a (sW ry) hd r) ⟨_,dd.mapOf,h _ _ (I.tok _) ?_⟩;rw[l];exact(rel.val k).getD rd
 ·subst ey;cases(show u=Value.ref b from ry);obtain⟨z,hd,xs,rel,dd⟩:=xO I.hok e;refine call_meetsIn XF dd.typeIs PySem.F.entry_dict_get (PySem.F.args_dict_get_3 _ _ _) (meetsH_dict_get_default (tupleKind (bK X.prog X.w)) a b hd r) ⟨WI hu,k,xs,rS I.hok eb,dd,h _ _ (I.tok _) ?_⟩;rw[l];exact(rel.val k).getD rd
end
noncomputable def Nz(td ty tx:TE):TE:=λσ H Q=>td σ H λx H1=>∃a,x=.ref a/\Tr H1 a/\ty σ H1 λy H2=>tx σ H2 λz H3=>∃o,xb H3 a y o/\Q (o.getD z) H3
section
variable {X:Cx} {o e f:Expr} {apos cpos:Pos} {td ty tx:TE}
theorem GY(hu:X.A.units+1<cLine)(ho:PE X o td)(he:PE X e ty)(hf:PE X f tx)(m:M2 X o "get" apos e f cpos):PE X (.Call (.Attribute o "get" apos) [e,f] [] cpos) (Nz td ty tx):=by
 intro pins s σ H Q I h;refine wpAny_Call_method m.base m.few m.line PySem.F.plainAttrs_dict XF PySem.F.type_dict_get (bW (ho pins s σ H _ I h) λu s1 ⟨x,H1,I1,rx,a,ex,d,q1⟩=>?_);subst ex;obtain rfl:u=Value.ref a:=rx;obtain⟨t1,t2,_⟩:=Nw I1 d;refine⟨t1,t2,?_⟩;rw[m.trees]
 refine Calls.callWith_builtin rfl (XO (Wa (bW (he pins s1 σ H1 _ I1 q1) λiv s2 ⟨y,H2,I2,ry,q2⟩=>
  Wa (bW (hf pins s2 σ H2 _ I2 q2) λfv s3 ⟨z,H3,I3,rz,ov,g,q3⟩=>WT ?_))))
 exact Ny hu I3 g ry rz λw' s4 I4 rw'=>⟨_,H3,I4,rw',q3⟩
end
theorem uN{K:Ym}{St:Nat->Heap->Prop}{f:Nat->V}(W:∀A:Yv,A.handled=none->Walks P w A it [it] [it] n Pv St)
 (ob:∀i h,St i h->∃(o:Obj) (m:String) (vs:Yr),h.get? it=some o/\o.cls=.type m/\o.data=.fields vs/\["enumerate", "zip", "dict_itemiterator", "dict_reverseitemiterator", "odict_iterator", "itertools.zip_longest", "itertools.pairwise"].contains m=false)
 (rel:∀i v,i<n->Pv i v->RelV (f i) v)(sf:∀(A:Yv) (i:Nat) (s:Yw) (Q:Ye) (E:Ye),St i s.heap->Q (.ref it) s->wpAny (model P w) A (pyIter (.ref it)) Q E s):Turn P w K tg ⟨λi _=>i<n,λi H x H'=>H'=H/\x=f i,λi _=>i=n⟩ [it] it St where
 mem:=by simp
 obj:=λi h st b hb=>by
  grind
 keep:=λi h h' st k=>(W {handled:=none,depth:=0,frames:=none,guards:=none,units:=0} rfl).frame i h h' st λb hb o e=>k b hb o e
 item:=by intro X hP hw hK hc i pins s σ H E I hf st hg;subst hP hw hK;obtain⟨f0,f1,f2,f3,f4,f5⟩:=hf it (by simp);refine(W X.A (I.ok.hd hc)).item i s _ _ hg st λv h' tk hv st' kk=>?_;have I1:Inv X pins σ H {s with heap:=h',toks:=tk}:=I.turned (λb o hb e=>kk b o (by grind) e) f0 f1 f3 f4 f5;obtain⟨o,m,vs,e,c,d,nm⟩:=ob _ _ st';exact⟨v,rfl,Di (s:={s with heap:=h',toks:=tk}) e c d nm ⟨f i,H,I1,rel i v hg hv,⟨rfl,rfl⟩,st',λb hb=>(hf b hb).1⟩⟩
 done:=by intro X hP hw hK hc i pins s σ H E I hf st hg;subst hP hw hK;obtain⟨f0,f1,f2,f3,f4,f5⟩:=hf it (by simp);have hg':i=n:=hg;subst hg';exact(W X.A (I.ok.hd hc)).done s _ _ st λh' tk kk=>⟨rfl,I.turned (λb o hb e=>kk b o (by simpa using hb) e) f0 f1 f3 f4 f5⟩
 self:=sf
noncomputable def sgn(x:Str)(i:Nat):V:=.str ⟨#[x.cps.getD i 0]⟩
noncomputable def Sb(x:Str):It:=⟨λi _=>i<x.cps.size,λi H v H'=>H'=H/\v=sgn x i,λi _=>i=x.cps.size⟩
theorem yT(i:Nat)(v:Value)(hi:i<x.cps.size)(h:SignAt x i v):RelV (sgn x i) v:=by
 obtain⟨c,u,e,rfl⟩:=h;refine⟨u,?_⟩
 simp_all
section
variable {X:Cx} {tg:Expr}
noncomputable def Sd(tl:TE):TI:=λσ H R=>tl σ H λv H1=>∃x,v=.str x/\R (Sb x) H1
theorem NA(hl:PE X l tl):PI X tg l (Sd tl):=by
 intro pins s σ H R I h;refine bW (hl pins s σ H _ I h) λv s1 ⟨x,H1,I1,r1,q1⟩=>?_;obtain⟨x,e,q⟩:=q1;subst e;obtain⟨t,rfl⟩:=r1
 have fp:∀b∈[s1.heap.objs.size],lN X pins H1 b:=λb hb=>by
  have e:b=s1.heap.objs.size:=by grind
  subst e;exact I1.EW (Uy _) (I1.hok.fresh (Uy _))
 cases ha:x.cps.all (· < 128)with
 |false=>
  refine wpAny_pyIter_wide ha ?_
  refine⟨s1.heap.objs.size,[s1.heap.objs.size],_,Sb x,H1,rfl,I1.kept (t':=s1.toks) λb o e=>Uv _ e,
   uN (λA hA=>Walks.strWide hA _ x t) (by rintro i h ⟨o,e,c,d⟩;exact⟨o,_,_,e,c,d,by decide⟩) yT λA i s Q E st h=>wpAny_pyIter_striter_wide st h,⟨_,UA _ rfl,rfl,rfl⟩,fp,q⟩
 |true=>
  refine wpAny_pyIter_ascii ha ?_
  refine⟨s1.heap.objs.size,[s1.heap.objs.size],_,Sb x,H1,rfl,I1.kept (t':=s1.toks) λb o e=>Uv _ e,
   uN (λA hA=>Walks.strAscii hA _ x t) (by rintro i h ⟨o,e,c,d⟩;exact⟨o,_,_,e,c,d,by decide⟩) yT λA i s Q E st h=>wpAny_pyIter_striter_ascii st h,⟨_,UA _ rfl,rfl,rfl⟩,fp,q⟩
end
section
variable {X:Cx}
theorem all_range(bs:List Bool):((List.range bs.length).all λi=>(bs[i]?).getD true)=bs.all id:=by
 rw[VC];simp only[UM,Vf,id];constructor
 ·intro h b hb;obtain⟨i,hi,rfl⟩:=VX.mp hb
  simp_all
 ·intro h i hi;simp only[hi,UH,XM];exact h _ (W6 hi)
theorem GZ(hc:X.calm=true):dC X (.builtin "all") (λxs H Q=>∃(l:Addr) (bs:List Bool),xs=[.ref l]/\i8 X.K H l (bs.map V.bl)/\Q (.bl (bs.all id)) H):=by
 intro pins s σ H vs us Q I r h;obtain⟨l,bs,rfl,hq,q⟩:=h
 cases r with
 |cons r rr=>
  cases rr;cases r;obtain⟨its,rv,p,_⟩:=I.list hq;have pl:=p.isList;have hlt:l<s.heap.objs.size:=by obtain⟨_,e,_⟩:=pl;exact Uz e
  refine call_all_walk (wpAny_pyIter_list pl ?_);refine⟨s.heap.objs.size,[s.heap.objs.size,l],[s.heap.objs.size],its.toArray.size,_,_,λi=>(bs[i]?).getD true,rfl,Walks.list (A:=X.A.in1) (I.ok.hd hc) _ l (UN hlt) its.toArray,⟨⟨_,UA _ rfl,rfl,rfl⟩,pl.push _⟩,λi v s' Q' E' hP hQ=>?_,λh' tk hk=>?_⟩
  ·have hP':its[i]?=some v:=by simpa using hP
   have hi:i<(bs.map V.bl).length:=by rw[rv.length];exact(UB.mp hP').1
   obtain⟨u,hu,ru⟩:=rv.get (i:=i) (x:=(bs.map V.bl)[i]) (by simp[hi]);rw[hP']at hu;cases hu;rw[US]at hi;simp only[List.getElem_map]at ru;obtain rfl:v=Value.bool bs[i]:=ru;have hQ':=hQ;simp only[hi,UH,XM]at hQ';exact VB hQ'
  ·have e:((List.range its.toArray.size).all λi=>(bs[i]?).getD true)=bs.all id:=by
    rw[UG,<- rv.length,US];exact all_range bs
   rw[e];exact⟨.bl _,H,I.kept λb o e=>hk b o (λhm=>by rw[U5.mp hm]at e;exact UT _ (Uz e)) (Uv _ e),rfl,q⟩
theorem Fg:i6 X (compareOp .LtE) (λx y H Q=>∃i j,x=.str i/\y=.str j/\Q (.bl (!decide (j.cps.toList<i.cps.toList))) H):=by intro pins s σ H x y v u Q I rx ry h;obtain⟨i,j,rfl,rfl,q⟩:=h;obtain⟨t,rfl⟩:=rx;obtain⟨t',rfl⟩:=ry;exact P.le_str ⟨.bl _,H,I,rfl,q⟩
end
noncomputable def fX:V->Option PyData
 |.non=>some .none
 |.bl b=>some (.bool b)
 |.int i=>some (.int i)
 |.str x=>some (.str x)
 |_=>none
noncomputable def Au:Key->PyData
 |.inl i=>.int i
 |.inr x=>.str x
noncomputable def aS:List (Key×V)->Option Yg
 | []=>some []
 | (k,v)::r=>match fX v,aS r with
  |some d,some ds=>some ((Au k,d)::ds)
  |_,_=>none
mutual
noncomputable def Rep(H:Hp):PyData->V->Prop
 |.none,v=>v=.non
 |.bool b,v=>v=.bl b
 |.int i,v=>v=.int i
 |.str x,v=>v=.str x
 |.tuple ds,v=>∃a vs,v=.ref a/\H a=some (.tup vs)/\bo H ds vs
 |.list ds,v=>∃a vs,v=.ref a/\H a=some (.lst vs)/\bo H ds vs
 |.dict kvs,v=>∃a ks,v=.ref a/\H a=some (.dK ks)/\aS ks=some kvs
noncomputable def bo(H:Hp):Yj->List V->Prop
 | [],vs=>vs=[]
 |d::ds,vs=>∃w ws,vs=w::ws/\Rep H d w/\bo H ds ws
end
mutual
theorem Rep.same(s:aT H H'):∀{d:PyData} {v:V},Rep H d v->Rep H' d v
 |.none,_,h=>h
 |.bool _,_,h=>h
 |.int _,_,h=>h
 |.str _,_,h=>h
 |.tuple ds,_,⟨a,vs,e,h,r⟩=>⟨a,vs,e,s _ _ h,bo.same s r⟩
 |.list ds,_,⟨a,vs,e,h,r⟩=>⟨a,vs,e,s _ _ h,bo.same s r⟩
 |.dict _,_,⟨a,ks,e,h,r⟩=>⟨a,ks,e,s _ _ h,r⟩
theorem bo.same{H H':Hp}(s:aT H H'):∀{ds:Yj} {vs:List V},bo H ds vs->bo H' ds vs
 | [],_,h=>h
 |_::_,_,⟨w,ws,e,h,r⟩=>⟨w,ws,e,Rep.same s h,bo.same s r⟩
end
theorem bo.length:∀{ds:Yj} {vs:List V},bo H ds vs->vs.length=ds.length
 | [],_,h=>by cases h;rfl
 |_::ds,_,⟨w,ws,e,_,r⟩=>by rw[e,UR,UR,bo.length r]
theorem bo.get:∀{ds:Yj} {vs:List V} {i:Nat} {v:V},bo H ds vs->vs[i]?=some v->∃d,ds[i]?=some d/\Rep H d v
 | [],_,i,v,h,e=>by cases h;simp at e
 |d::ds,_,0,v,⟨w,ws,e0,h,r⟩,e=>by grind
 |d::ds,_,i+1,v,⟨w,ws,e0,h,r⟩,e=>by
  subst e0;obtain⟨u,e1,e2⟩:=bo.get r (by trivial)
  simp_all
theorem bo.get':∀{ds:Yj} {vs:List V} {i:Nat} {d:PyData},bo H ds vs->ds[i]?=some d->∃v,vs[i]?=some v/\Rep H d v
 | [],_,i,v,h,e=>by simp at e
 |d::ds,_,0,v,⟨w,ws,e0,h,r⟩,e=>by grind
 |d::ds,_,i+1,v,⟨w,ws,e0,h,r⟩,e=>by
  obtain⟨u,e1,e2⟩:=bo.get' r (by trivial)
  simp_all
theorem bo.append:∀{ds es:Yj} {vs us:List V},bo H ds vs->bo H es us->bo H (ds++es) (vs++us)
 | [],_,_,_,h,r=>by cases h;exact r
 |d::ds,_,_,_,⟨w,ws,e,h,q⟩,r=>by subst e;exact⟨w,_,rfl,h,bo.append q r⟩
theorem bo.nil:bo H [] []:=rfl
theorem bo.cons{v:V}{vs:List V}(h:Rep H d v)(r:bo H ds vs):bo H (d::ds) (v::vs):=⟨v,vs,rfl,h,r⟩
theorem bo.one(h:Rep H d v):bo H [d] [v]:=.cons h .nil
theorem bo.take:∀{ds:Yj} {vs:List V} (n:Nat),bo H ds vs->bo H (ds.take n) (vs.take n)
 | [],_,n,h=>by grind[bo]
 |d::ds,_,0,_=>by rfl
 |d::ds,_,n+1,⟨w,ws,e,h,r⟩=>by subst e;exact .cons h (bo.take n r)
theorem bo.drop:∀{ds:Yj} {vs:List V} (n:Nat),bo H ds vs->bo H (ds.drop n) (vs.drop n)
 | [],_,n,h=>by grind[bo]
 |d::ds,_,0,h=>h
 |d::ds,_,n+1,⟨w,ws,e,h,r⟩=>by subst e;exact bo.drop n r
theorem Ca(e:fX v=some d)(r:RelV v u):Reads h u d []:=by
 cases v with
 |non=>cases e;cases r;exact .none
 |bl b=>cases e;cases r;exact .bool b
 |int i=>cases e;obtain⟨t,rfl⟩:=r;exact .int i t
 |str x=>cases e;obtain⟨t,rfl⟩:=r;exact .str x t
 |_=>cases e
theorem Fh(e:uG k u=true):Reads h u (Au k) []:=by
 rcases cz e with⟨i,t,rfl,rfl⟩|⟨x,t,rfl,rfl⟩
 ·exact .int i t
 ·exact .str x t
theorem lZ:∀{ks:List (Key×V)} {vs:List (Key×Value)} {es:List DictEntry} {kvs:Yg},aS ks=some kvs->KV ks vs->Pairs (bK P w) es vs ->
  ReadsAll h (es.map (·.key)) (kvs.map (·.1)) []/\ReadsAll h (es.map (·.val)) (kvs.map (·.2)) []
 | [],_,es,kvs,e,r,p=>by
  cases e;cases r
  cases es with
  |nil=>exact⟨.nil,.nil⟩
  |cons _ _=>trivial
 | (k,v)::ks,_,es,kvs,e,r,p=>by
  cases r with
  |cons r1 r2=>
   rename_i q vs';obtain⟨k',u⟩:=q;obtain⟨e1,e2⟩:=r1;simp only at e1 e2;subst e1
   cases p with
   |cons hk hv hr=>
    unfold aS at e
    cases e1:fX v with
    |none=>simp_all
    |some d=>
     cases e3:aS ks with
     |none=>simp_all
     |some ds=>rw[e1,e3]at e;cases e;obtain⟨z1,z2⟩:=lZ e3 r2 hr;exact⟨.cons (as:=[]) (bs:=[]) (Fh hk) z1,.cons (as:=[]) (bs:=[]) (by show Reads h (DictEntry.val _) d [];rw[hv];exact Ca e1 e2) z2⟩
section
variable {X:Cx} {pins:Yf} {σ:St} {H:Hp} {s:Yw}
mutual
theorem Rep.reads(I:Inv X pins σ H s):∀{d:PyData} {v:V} {u:Value},Rep H d v->RelV v u->∃as,Reads s.heap u d as
 |.none,_,u,h,r=>by cases h;cases r;exact⟨_,.none⟩
 |.bool b,_,u,h,r=>by cases h;cases r;exact⟨_,.bool b⟩
 |.int i,_,u,h,r=>by cases h;obtain⟨t,rfl⟩:=r;exact⟨_,.int i t⟩
 |.str x,_,u,h,r=>by cases h;obtain⟨t,rfl⟩:=r;exact⟨_,.str x t⟩
 |.tuple ds,_,u,⟨a,vs,e,h,q⟩,r=>by subst e;cases r;obtain⟨_,its,rv,o,ho,hc,n,hd⟩:=I.hok a _ h;obtain⟨as,z⟩:=bo.reads I q rv;exact⟨_,.tuple ho hc hd (by simpa using z)⟩
 |.list ds,_,u,⟨a,vs,e,h,q⟩,r=>by subst e;cases r;obtain⟨_,its,n,rv,ho⟩:=I.hok a _ h;obtain⟨as,z⟩:=bo.reads I q rv;exact⟨_,.list ho rfl rfl (by simpa using z)⟩
 |.dict kvs,_,u,⟨a,ks,e,h,q⟩,r=>by subst e;cases r;obtain⟨_,_,vs,rk,o,es,ep,ho,hx,hd,_,hp,_⟩:=I.hok a _ h;obtain⟨z1,z2⟩:=lZ (P:=X.prog) (w:=X.w) (h:=s.heap) q rk hp;exact⟨_,.dict ho hx.1 hd z1 z2⟩
theorem bo.reads(I:Inv X pins σ H s):∀{ds:Yj} {vs:List V} {us:Yl},bo H ds vs->Vals vs us->∃as,ReadsAll s.heap us ds as
 | [],_,us,h,r=>by cases h;cases r;exact⟨_,.nil⟩
 |d::ds,_,us,⟨w,ws,e,h,q⟩,r=>by
  subst e
  cases r with
  |cons r1 r2=>obtain⟨as,z⟩:=Rep.reads I h r1;obtain⟨bs,y⟩:=bo.reads I q r2;exact⟨_,.cons z y⟩
end
end
section
variable {X:Cx} {k:Nat}
noncomputable def NB:List V->Hp->VK->Prop:=λxs H Q=>∃kvs v,xs=[v]/\Rep H (.dict kvs) v/\(PyData.dict kvs).showable=true/\(PyData.dict kvs).depth<=20/\(PyData.dict kvs).shown.length<=sizeLine/\Q (.str (PyData.dict kvs).shown) H
theorem Cb(hr:bJ k X.A):dC X (.builtin "repr") NB:=by
 intro pins s σ H vs us Q I r h;obtain⟨kvs,v,rfl,h1,hs,hd,hz,q⟩:=h;obtain⟨a,ks,rfl,ha,e⟩:=h1
 cases r with
 |cons r rr=>
  cases rr;cases r;obtain⟨_,ne,vs,rk,o,es,ep,ho,hx,hdd,_,hp,_⟩:=I.hok a _ ha;obtain⟨z1,z2⟩:=lZ e rk hp;refine X5 (Reads.dict ho hx.1 hdd z1 z2) hs (λ_ hm=>?_) hr.gd (by have:=hr.units;omega) (λ_ _ e=>e) (λh' t tk hk=>⟨.str _,H,I.kept hk,⟨_,rfl⟩,q⟩) hz
  grind
noncomputable def P8:PyData->String
 |.none => "NoneType"
 |.bool _ => "bool"
 |.int _ => "int"
 |.str _ => "str"
 |.tuple _ => "tuple"
 |.list _ => "list"
 |.dict _ => "dict"
theorem Rep.ty{K:Ym}(h:Rep H d v):qg K H v (.type (P8 d)):=by
 cases d with
 |none=>cases h;exact .non
 |bool b=>cases h;exact .bl b
 |int i=>cases h;exact .int i
 |str x=>cases h;exact .str x
 |tuple ds=>obtain⟨a,vs,rfl,e,_⟩:=h;exact .tup e
 |list ds=>obtain⟨a,vs,rfl,e,_⟩:=h;exact .lst e
 |dict ds=>obtain⟨a,ks,rfl,e,_⟩:=h;exact .dK e
theorem G0:dC X (.builtin "isinstance") (λxs H Q=>∃x n t b,xs=[x,.ty n]/\qg X.K H x t/\PySem.W.kitOne X.K t (.type n)=some b/\Q (.bl b) H):=by
 intro pins s σ H vs us Q I r h;obtain⟨x,n,t,b,rfl,ty,e,q⟩:=h
 cases r with
 |cons r rr=>
  cases rr with
  |cons r' rr=>cases rr;cases r';exact E6 I r ty e λtk=>⟨.bl b,H,I.tok _,rfl,q⟩
theorem kit_tuple(K:Ym)(d:PyData):PySem.W.kitOne K (.type (P8 d)) (.type "tuple")=some (match d with|.tuple _=>true|_=>false):=by cases d<;>first|rfl|decide
theorem Dy(K:Ym)(d:PyData):PySem.W.kitOne K (.type (P8 d)) (.type "str")=some (match d with|.str _=>true|_=>false):=by cases d<;>first|rfl|decide
end
theorem aT.upd(s:aT H H')(hp:H' p=none):aT H (upd H' p o):=λb u e=>by rw[ak (ay (s b u e) hp)];exact s b u e
theorem aT.new(hp:H p=none):aT H (L2.upd H p o):=(aT.refl H).upd hp
theorem jB:bootBuiltins "isinstance" = some (.builtin "isinstance"):=by rfl
theorem iD:bootBuiltins "len" = some (.builtin "len"):=by rfl
theorem pA:bootBuiltins "all" = some (.builtin "all"):=by rfl
theorem uq:bootBuiltins "repr" = some (.builtin "repr"):=by rfl
theorem Fi:bootBuiltins "sorted" = some (.builtin "sorted"):=by rfl
theorem Fj:bootBuiltins "divmod" = some (.builtin "divmod"):=by rfl
theorem NC:bootBuiltins "max" = some (.builtin "max"):=by rfl
theorem G1:bootBuiltins "str" = some (.type "str"):=by rfl
theorem cZ:bootBuiltins "tuple" = some (.type "tuple"):=by rfl
theorem yU:bootBuiltins "list" = some (.type "list"):=by rfl
section
variable {X:Cx} {e e2:Expr} {te te2:TE} {t:TA} {p p2 pos:Pos}
noncomputable def isTup:PyData->Bool|.tuple _=>true|_=>false
noncomputable def isStr:PyData->Bool|.str _=>true|_=>false
end
noncomputable def lP(f:Expr->Option PyData):Yo->Option Yj
 | []=>some []
 |e::es=>match f e,lP f es with
  |some d,some ds=>some (d::ds)
  |_,_=>none
noncomputable def P9:Const->Option PyData
 |.none=>some .none
 |.bool b=>some (.bool b)
 |.int i=>some (.int i)
 |.str x=>some (.str x)
 |_=>none
noncomputable def Qa:Option PyData->Option PyData
 |some (.int i)=>some (.int (-i))
 |_=>none
noncomputable def ND:Option PyData->Option PyData->Option PyData
 |some (.int a),some (.int b)=>if 0<=b/\b<=1000000/\a.natAbs<2^64 then some (.int (a^b.toNat))else none
 |_,_=>none
noncomputable def NF:Option PyData->Option PyData->Option PyData
 |some (.str k),some (.int i)=>some (.dict [(.str k,.int i)])
 |_,_=>none
noncomputable def iE:Nat->Expr->Option PyData
 |0,_=>none
 |n+1,e=>match e with
  |.Constant c _ _=>P9 c
  |.Tuple es _ _=>if es.length<=1000 then(lP (iE n) es).map .tuple else none
  |.List es _=>if es.length<=1000 then(lP (iE n) es).map .list else none
  |.UnaryOp o x _=>match o with
   |.USub=>Qa (iE n x)
   |_=>none
  |.BinOp a o b _=>match o with
   |.Pow=>ND (iE n a) (iE n b)
   |_=>none
  |.Dict ks vs _=>match ks with
   | []=>match vs with
    | []=>some (.dict [])
    |_=>none
   |k::ks=>match k with
    |some k=>match vs with
     |v::vs=>if ks.isEmpty&&vs.isEmpty then NF (iE n k) (iE n v)else none
     |_=>none
    |_=>none
  |_=>none
noncomputable abbrev Dz(n:Nat)(es:Yo):Option Yj:=lP (iE n) es
noncomputable def gY(H H' N:Hp):Prop:=∀c o,N c=some o->H c=none/\H' c=some o
noncomputable def G2(d:PyData):TE:=λ_ H Q=>∀r H' N,aT H H'->gY H H' N->Rep N d r->Q r H'
noncomputable def Qb(ds:Yj):TA:=λ_ H Q=>∀rs H' N,aT H H'->gY H H' N->bo N ds rs->Q rs H'
def Av:Hp:=λ_=>none
theorem gY.no:gY H H' Av:=λ_ _ e=>by cases e
theorem gY.same(n:gY H H' N):aT N H':=λc o e=>(n c o e).2
noncomputable def pB(N M:Hp):Hp:=λc=>match N c with|some o=>some o|none=>M c
theorem NG:aT N (pB N M):=λc o e=>by simp[pB,e]
theorem NH(n:gY H H1 N)(m:gY H1 H2 M):aT M (pB N M):=λc o e=>by
 have h1:=(m c o e).1
 cases q:N c with
 |none=>simp[pB,q,e]
 |some u=>rw[(n c u q).2]at h1;cases h1
theorem gY.plus(s1:aT H H1)(s2:aT H1 H2)(n:gY H H1 N)(m:gY H1 H2 M):gY H H2 (pB N M):=λc o e=>by
 cases q:N c with
 |some u=>simp[pB,q]at e;cases e;exact⟨(n c _ q).1,s2 _ _ (n c _ q).2⟩
 |none=>simp[pB,q]at e;exact⟨s1.free (m c o e).1,(m c o e).2⟩
theorem gY.put(s1:aT H H1)(n:gY H H1 N)(hp:H1 p=none):gY H (upd H1 p o) (upd N p o)/\aT N (upd N p o):=by
 have np:∀c u,N c=some u->c≠p:=λc u e z=>by subst z;rw[(n c u e).2]at hp;cases hp
 refine⟨λc u e=>?_,λc u e=>by rw[ak (np c u e)];exact e⟩;by_cases hc:c=p
 ·subst hc;rw[aJ]at e;cases e;exact⟨s1.free hp,aJ⟩
 ·rw[ak hc]at e;exact⟨(n c u e).1,by rw[ak hc];exact(n c u e).2⟩
theorem kB:∀{es:Yo} {n:Nat} {ds:Yj},Dz n es=some ds->ds.length=es.length
 | [],n,ds,h=>by simp_all[lP]
 |e::es,n,ds,h=>by
  unfold Dz lP at h;split at h
  ·rename_i d ds' h1 h2;cases h;rw[UR,UR,kB h2]
  grind
section
variable {X:Cx}
theorem yV(ih:∀(e:Expr) (d:PyData),iE n e=some d->PE X e (G2 d)/\∀es:Yo,starEach (e::es) X.env=(false,eval e X.env)::starEach es X.env):∀(es:Yo) (ds:Yj),Dz n es=some ds->PA X es (Qb ds)
 | [],ds,h=>by cases h;intro pos pins s σ H Q I q;exact dS pos pins s σ H Q I (q [] H Av (aT.refl H) .no rfl)
 |e::es,ds,h=>by
  unfold Dz lP at h;split at h
  ·rename_i d ds' h1 h2;cases h;obtain⟨a,b⟩:=ih e d h1;intro pos pins s σ H Q I q;refine bb a (yV ih es ds' h2) (b es) pos pins s σ H Q I λr H1 N1 s1 n1 hr rs H2 N2 s2 n2 hrs=>q _ H2 _ (s1.trans s2) (n1.plus s1 s2 n2) (.cons (hr.same NG) (hrs.same (NH n1 n2)))
  grind
theorem DB{n:Nat}{es:Yo}{f:Yj->PyData}{d:PyData}(h:(if es.length<=1000 then(lP (iE n) es).map f else none)=some d):es.length<=1000/\∃ds,lP (iE n) es=some ds/\f ds=d:=by
 by_cases hl:es.length<=1000
 ·rw[if_pos hl]at h;exact⟨hl,Ve.mp h⟩
 ·rw[if_neg hl]at h;cases h
theorem Kf:∀{x y:Option PyData},ND x y=some d->∃i j:Int,x=some (.int i)/\y=some (.int j)/\(0<=j/\j<=1000000/\i.natAbs<2^64)/\.int (i^j.toNat)=d:=by
 intro x y h
 cases x with
 |none=>cases h
 |some x=>cases x with
  |int i=>cases y with
   |none=>cases h
   |some y=>cases y with
    |int j=>
     have h:(if 0<=j/\j<=1000000/\i.natAbs<2^64 then some (PyData.int (i^j.toNat))else none)=some d:=h;by_cases hl:0<=j/\j<=1000000/\i.natAbs<2^64
     ·rw[if_pos hl]at h;exact⟨i,j,rfl,rfl,hl,Vk h⟩
     ·rw[if_neg hl]at h;cases h
    |_=>cases h
  |_=>cases h
theorem Kg{ks:List (Option Expr)}{vs:Yo}{x y:Option PyData}(h:(if ks.isEmpty&&vs.isEmpty then NF x y else none)=some d):∃k i,x=some (.str k)/\y=some (.int i)/\ks=[]/\vs=[]/\.dict [(.str k,.int i)]=d:=by
 cases ks with
 |cons=>cases h
 |nil=>cases vs with
  |cons=>cases h
  |nil=>cases x with
   |none=>cases h
   |some x=>cases x with
    |str k=>cases y with
     |none=>cases h
     |some y=>cases y with
      |int i=>exact⟨k,i,rfl,rfl,rfl,rfl,Vk h⟩
      |_=>cases h
    |_=>cases h
theorem Cc:∀(n:Nat) (e:Expr) (d:PyData),iE n e=some d->PE X e (G2 d)/\∀es:Yo,starEach (e::es) X.env=(false,eval e X.env)::starEach es X.env:=by
 intro n
 induction n with
 |zero=>intro e d h;cases h
 |succ n ih=>
  intro e d h
  cases e with
  |Constant c p q=>
   have h:P9 c=some d:=h;refine⟨λpins s σ H Q I q=>?_,λ_=>rfl⟩
   cases c with
   |none=>cases h;exact Gv pins s σ H Q I (q _ H Av (aT.refl H) .no rfl)
   |bool b=>cases h;exact De pins s σ H Q I (q _ H Av (aT.refl H) .no rfl)
   |int i=>cases h;exact BS pins s σ H Q I (q _ H Av (aT.refl H) .no rfl)
   |str x=>cases h;exact o9 pins s σ H Q I (q _ H Av (aT.refl H) .no rfl)
   |_=>cases h
  |Tuple es k p=>have h:(if es.length<=1000 then(lP (iE n) es).map .tuple else none)=some d:=h;obtain⟨hl,ds,h1,rfl⟩:=DB h;refine⟨λpins s σ H Q I q=>yJ (yV ih es ds h1) pins s σ H Q I λrs H1 N1 s1 n1 hrs=>⟨?_,λp hp=>q _ _ _ (s1.upd hp) (n1.put s1 hp).1 ⟨p,rs,rfl,aJ,hrs.same (n1.put s1 hp).2⟩⟩,λ_=>rfl⟩;rw[hrs.length,kB h1];exact UI hl (by decide)
  |List es p=>have h:(if es.length<=1000 then(lP (iE n) es).map .list else none)=some d:=h;obtain⟨hl,ds,h1,rfl⟩:=DB h;refine⟨λpins s σ H Q I q=>lU (yV ih es ds h1) pins s σ H Q I λrs H1 N1 s1 n1 hrs=>⟨?_,λp hp=>q _ _ _ (s1.upd hp) (n1.put s1 hp).1 ⟨p,rs,rfl,aJ,hrs.same (n1.put s1 hp).2⟩⟩,λ_=>rfl⟩;rw[hrs.length,kB h1];exact UI hl (by decide)
  |UnaryOp o x p=>
   cases o with
   |USub=>
    have h:Qa (iE n x)=some d:=h;refine⟨λpins s σ H Q I q=>?_,λ_=>rfl⟩
    cases hx:iE n x with
    |none=>rw[hx]at h;cases h
    |some y=>
     rw[hx]at h
     cases y with
     |int i=>cases h;exact PK M9 (ih x _ hx).1 pins s σ H Q I λr H' N s1 n1 hr=>⟨i,hr,q _ H' N s1 n1 rfl⟩
     |_=>cases h
   |_=>cases h
  |BinOp a o b p=>
   cases o with
   |Pow=>have h:ND (iE n a) (iE n b)=some d:=h;refine⟨λpins s σ H Q I q=>?_,λ_=>rfl⟩;obtain⟨i,j,hi,hj,hl,rfl⟩:=Kf h;exact xC M8 (ih a _ hi).1 (ih b _ hj).1 pins s σ H Q I λr H1 N1 s1 n1 hr r2 H2 N2 s2 n2 hr2=>⟨i,j,hr,hr2,hl,q _ H2 _ (s1.trans s2) (n1.plus s1 s2 n2) rfl⟩
   |_=>cases h
  |Dict ks vs p=>
   refine⟨λpins s σ H Q I q=>?_,λ_=>rfl⟩
   cases ks with
   |nil=>cases vs with
    |nil=>cases h;exact GW pins s σ H Q I λp hp=>q _ _ (upd Av p (.dK [])) (aT.new hp) (gY.put (aT.refl H) .no hp).1 ⟨p,[],rfl,aJ,rfl⟩
    |cons=>cases h
   |cons k ks=>cases k with
    |none=>cases h
    |some k=>cases vs with
     |nil=>cases h
     |cons v vs=>
      obtain⟨k1,i,hk,hi,rfl,rfl,rfl⟩:=Kg (show(if ks.isEmpty&&vs.isEmpty then NF (iE n k) (iE n v)else none)=some d from h)
      exact Ke (GX (ih k _ hk).1 (ih v _ hi).1 Kc) rfl rfl (by simp) (by show 1<=15;decide) pins s σ H Q I λp hp r H1 N1 s1 n1 hr r2 H2 N2 s2 n2 hr2=>by
       cases hr;cases hr2;refine⟨s2 _ _ (s1 _ _ aJ),[(Sum.inr k1,V.int i)],rfl,by show 1<=15;decide,q _ _ (upd Av p (.dK [(Sum.inr k1,V.int i)])) (λb o e=>?_) (λc o e=>?_) ⟨p,_,rfl,aJ,rfl⟩⟩
       ·have hb:=ay e hp;rw[ak hb];exact s2 _ _ (s1 _ _ ((ak hb).trans e))
       ·by_cases hc:c=p
        ·subst hc;rw[aJ]at e;cases e;exact⟨hp,aJ⟩
        ·rw[ak hc]at e;cases e
  |_=>cases h
@[irreducible] noncomputable def Lit(n:Nat)(e:Expr)(d:PyData):Prop:=iE n e=some d
theorem Lit.of(h:iE n e=some d):Lit n e d:=by grind[Lit]
theorem Lit.eq(h:Lit n e d):iE n e=some d:=by simp_all[Lit]
theorem G3(n:Nat){e:Expr}{d:PyData}(h:Lit n e d):PE X e (G2 d):=(Cc n e d h.eq).1
end
section
variable {X:Cx} {k:Nat}
noncomputable def cutD(ds:Yj)(lo hi:Option Int):Yj:=(ds.drop (HT.eM ds.length 0 lo)).take (HT.eM ds.length ds.length hi-HT.eM ds.length 0 lo)
theorem xf{lo hi:Option Int}(ht:IsTup s.heap t items)(hs:s.heap.IsSliceOf sl vl vu .none)(pl:IsPart vl lo)(pu:IsPart vu hi)
 (h0:HT.eM items.size 0 lo=0)(h1:HT.eM items.size items.size hi=items.size)(q:Q (.ref t) s):wpAny (model P w) A (getItem (.ref t) (.ref sl)) Q E s:=by
 obtain⟨os,hos,hcs,hds⟩:=id hs;have hTs:s.TypeIs (.ref sl) "slice" := ⟨os,hos,hcs⟩;unfold getItem
 try with_reducible refine Va ?_
 first|refine Uu (Uw ?_)|skip
 refine Uu (wpAny_sequenceKey ht.typeIs (by decide) ?_);refine Uu (U9 (name:=Str.ofString "__getitem__") ht.typeIs Vl (U6 Vl ht.typeIs entry_tuple_getitem ?_ (args_tuple_getitem _ _)));show wpAny _ _ (Builtin.Tuple.tupleItemsOf (.ref t) >>= _) _ _ s;refine Uu (tupleItemsOf_ ht (Uu (XC hTs ?_)));rw[if_pos (by decide)];refine Uu (HT.jU hs pl pu ?_);rw[h0,h1];show wpAny _ _ (if((((0:Nat):Int)==0&&(1:Int)==1&&(items.size-0)==items.size)=true)then _ else _) _ _ s;rw[if_pos (by simp)];unfold Builtin.Tuple.tupleIsExact;refine Uu (Uu (XC ht.typeIs (Uw ?_)))
 first
  |exact Uu (Wl (Uu (Uw (Uw ⟨_,rfl,Uw q⟩))))
  |exact Uu (Wl (Uw ⟨_,rfl,Uw q⟩))
  | (rw[if_pos (by decide)];exact Uu (Wl (Uu (Uw (Uw ⟨_,rfl,Uw q⟩)))))
  | (rw[if_pos (by decide)];exact Uu (Wl (Uw ⟨_,rfl,Uw q⟩)))
end
theorem bM.obj(x:bM P w H h a o):∃ob,h.get? a=some ob:=by
 cases o with
 |lst xs=>obtain⟨_,_,_,_,e⟩:=x;grind
 |tup xs=>obtain⟨_,_,_,ob,e,_⟩:=x;grind
 |dK kvs=>obtain⟨_,_,_,_,ob,_,_,e,_⟩:=x;grind
 |dT kvs=>obtain⟨_,_,_,_,ob,_,_,e,_⟩:=x;grind
 |set S n=>obtain⟨ob,_,_,_,e,_⟩:=x;grind
 |ins C dx fs=>obtain⟨_,_,_,e,_⟩:=x;grind
 |own y=>exact x
 |xd fs=>obtain⟨_,⟨ob,_,_,e,_⟩,_⟩:=x;grind
 |rng lo hi=>obtain⟨_,_,_,e⟩:=x;grind
 |frz ob u=>exact⟨_,x.1⟩
 |tbl ps=>exact⟨_,x⟩
 |met f y=>exact⟨_,x⟩
 |ext φ=>exact x.2.1
noncomputable def ja(P:Yt)(w:World):E7:=λouter H s E e s'=>
 ∃(a:Addr) (cls:Value) (t:Addr) (B:Heap) (H':Hp),e=.ref a/\s'.os=s.os/\AllBare s'.gens/\Un (lM outer) [] H H' s.heap s'.heap/\lz P w H' s'.heap/\Heap.FlyingW B outer a cls (.ref t) s'.heap /\
  (∀b o,s.heap.get? b=some o->b∉lM outer->∃o',s'.heap.get? b=some o'/\B.get? b=some o')/\(∀b u,H' b=some u->∃o',s'.heap.get? b=some o'/\B.get? b=some o')/\E cls none H'
section
variable {P:Yt} {w:World} {K:Ym} {mg:Yi} {base:Heap} {N:Yn} {qual:Str} {scope:Scope} {f:Addr} {cd:Value} {A:Yv} {outer:List Env} {s:Yw} {H:Hp} {E:XK}
theorem bu:Passes (ja P w) (fA (ja P w) P w K mg base N qual scope f cd A outer s H E) E:=by
 rintro pins σ H1 s1 e s' I ⟨a,cls,t,B,H',e1,os,bare,un,hok,fl,old,wO,q⟩;subst e1;have J:=I.Ah os un hok bare (λb z=>nomatch z);have hfr:(A.deeper (envOfC qual scope s.heap.objs.size f cd)).frames=some (envOfC qual scope s.heap.objs.size f cd::outer):=I.ok.frames;have noA:∀b:Addr,b∉(fA (ja P w) P w K mg base N qual scope f cd A outer s H E).ex:=λb z=>nomatch z
 have inB:∀b o,s.heap.get? b=some o->b∉lM outer->∃o',s'.heap.get? b=some o'/\B.get? b=some o':=λb o e hb=>by
  obtain⟨o1,e1⟩:=I.base.there b o e (noA b);refine old b o1 e1 λz=>?_;rcases UC.mp (I.jy b z)with z|z
  ·have z2:b=s.heap.objs.size:=z;exact absurd (Uz e) (by rw[z2];exact UT _)
  ·exact hb z
 refine wpAny_leaves_onW hfr rfl fl λh' fl' up=>?_;refine⟨a,cls,t,B,H',rfl,os.trans I.os,bare,⟨λb o e n hb _=>?_,λb o e n hb _=>?_,λb o e n _=>J.base.free b o e n (noA b),λb o e _=>?_,J.base.tups,J.base.frzs,J.base.tbls⟩,λb u e=>?_,fl',λb o e hb=>?_,λb u e=>?_,q⟩
 ·have e2:=J.base.keep b o e n hb (noA b);obtain⟨o',e3,e4⟩:=inB b o e hb;rw[e2]at e3;cases e3;exact fl'.1 b o e4
 ·obtain⟨sl,e2⟩:=J.base.slot b o e n hb (noA b);obtain⟨_,o',e3,nf⟩:=J.ky.mem hb;rw[e2]at e3;cases e3;obtain⟨sl',e4⟩:=up b _ e2 nf;exact⟨sl',e4⟩
 ·by_cases hb:b∈lM outer
  ·obtain⟨o2,e2⟩:=J.base.there b o e (noA b);obtain⟨_,o',e3,nf⟩:=J.ky.mem hb;obtain⟨sl',e4⟩:=up b _ e3 nf;exact⟨_,e4⟩
  ·obtain⟨o',e3,e4⟩:=inB b o e hb;exact⟨o',fl'.1 b o' e4⟩
 ·refine(hok b u e).oz (λc v hc z=>?_) (λ_ z=>z) λ_ _ z=>z
  have:∃u',H' c=some u':=by
   rcases hc with hc|hc
   ·exact⟨u,hc▸e⟩
   ·exact⟨_,hc⟩
  obtain⟨u',hu⟩:=this;obtain⟨o',e3,e4⟩:=wO c u' hu;rw[z]at e3;cases e3;exact fl'.1 c v e4
 ·obtain⟨o',e3,e4⟩:=inB b o e hb;exact⟨o',fl'.1 b o' e4,e4⟩
 ·obtain⟨o',e3,e4⟩:=wO b u e;exact⟨o',fl'.1 b o' e4,e4⟩
structure G4(K:Ym)(mg:Yi)(x:Str)(C:Addr)(bmB:Yl)(newId:String):Prop where
 ns:PySem.W.nsIn K mainGlobals x=some (some (.ref C))
 ex:PySem.W.excIn K C bmB newId=true
theorem G4.own{σ:St}(c:G4 X.K X.mg x C bmB newId)(I:Inv X pins σ H s):OwnCls x C bmB newId X.mg X.base:=by
 refine⟨U4 I.mod.kin I.mod.glob c.ns,?_⟩;have q:=c.ex;have X0:=I.mod.kin;unfold PySem.W.excIn at q;split at q
 ·rename_i dd cd sl ho;split at q
  ·rename_i C' bm k0 k1 k2 k3 n k5 hm hs;simp only[Ux,X9,Xu]at q;obtain⟨⟨⟨⟨⟨rfl,rfl⟩,hdel⟩,ht⟩,hok⟩,hni⟩:=q;obtain⟨nm,bs,mro,ns,qn,hd,sn,sub,ab,col,del⟩:=cd;dsimp only at hm hdel hok hni;subst hm hdel;have hsl:sl=#[k0,k1,k2,k3,some (.builtin n),k5]:=by obtain⟨l⟩:=sl;simp only at hs;rw[hs]
   subst hsl;exact⟨bm,ns,nm,qn,bs,hd,sn,sub,ab,col,dd,k0,k1,k2,k3,k5,_,X0 _ _ ho,.of_isNs (PySem.W.isNs_of_in X0 hok),PySem.W.nsMap_none_of_in X0 hok hni,PySem.W.tail_of_in X0 ht⟩
  ·cases q
 ·cases q
noncomputable def NI(E:XK)(C:Addr)(t:TA):TS:=λ_ σ H=>t σ H λvs H1=>vs.length<=sizeLine/\E (.ref C) none H1
theorem G5{np cpos pos:Pos}(c:G4 K mg x C bmB newId)(FB:ExcBaseFacts B newId initId bmB)(hd:A.handled=none)
 (hg:Gl (fA (ja P w) P w K mg base N qual scope f cd A outer s H E) x)(ha:PA (fA (ja P w) P w K mg base N qual scope f cd A outer s H E) (e::es) t)
 (he:starEach (e::es) (envOfC qual scope s.heap.objs.size f cd)=(false,eval e (envOfC qual scope s.heap.objs.size f cd))::starEach es (envOfC qual scope s.heap.objs.size f cd):=by rfl)
 (hplain:(backTo cpos (starEach es (envOfC qual scope s.heap.objs.size f cd))).any (·.1)=false:=by rfl)(hdb:(x==("__debug__" : Str))=false:=by decide) :
  PS (fA (ja P w) P w K mg base N qual scope f cd A outer s H E) (.Raise (some (.Call (.Name x np) (e::es) [] cpos)) none pos) (NI E C t):=by
 intro pins s1 σ H1 D I h;have O:=G4.own (X:=fA (ja P w) P w K mg base N qual scope f cd A outer s H E) c I;obtain⟨tl,Nn,nm,q,bs,hdct,sn,sub,ab,col,dd,k0,k1,k2,k3,k5,mN,hC,hN,hni,T⟩:=O.obj
 refine wpAny_Raise_call_subT (C:=C) (nm:=nm) (q:=q) (N:=Nn) (bs:=bs) (bm:=tl) (hdct:=hdct) (sn:=sn) (sub:=sub) (ab:=ab) (col:=col) (dd:=dd) (k0:=k0) (k1:=k1) (k2:=k2) (k3:=k3) (k5:=k5)
  FB (mN:=mN) (T.hasType FB.hasBase) hd (by show(backTo cpos (starEach (e::es) (envOfC qual scope s.heap.objs.size f cd))).any (·.1)=false;rw[he];show(false || (backTo cpos (starEach es (envOfC qual scope s.heap.objs.size f cd))).any (·.1))=false;rw[hplain];rfl) hni
  (kz I hg O.bound ⟨rfl,?_⟩ hdb)
 have h1:=ha cpos pins s1 σ H1 _ I h;show wpAny _ _ (evalArgs (.ref C) true (backTo cpos (starEach (e::es) (envOfC qual scope s.heap.objs.size f cd))) []) _ _ _;have h1':wpAny (model P w) (A.deeper (envOfC qual scope s.heap.objs.size f cd)) (spliced (backTo cpos (starEach (e::es) (envOfC qual scope s.heap.objs.size f cd)))) _ _ s1:=h1;rw[he]at h1' ⊢;refine XO (VA h1' (λvs s2 ⟨xs,H2,I2,r,hz,qE⟩=>?_) λ_ _ y=>y);have k2:∀b o,base.get? b=some o->s2.heap.get? b=some o:=I2.bk;refine⟨rfl,by rw[<- r.length];exact hz,k2 _ _ hC,hN.keeps k2,T.keeps k2,λh' a hm=>?_⟩;have hfr:(A.deeper (envOfC qual scope s.heap.objs.size f cd)).frames=some (envOfC qual scope s.heap.objs.size f cd::outer):=I.ok.frames;have noA:∀b:Addr,b∉(fA (ja P w) P w K mg base N qual scope f cd A outer s H E).ex:=λb z=>nomatch z;have ffs:s2.heap.FunFrames base (envOfC qual scope s.heap.objs.size f cd::outer):=I2.stack;have hin:∀env∈(envOfC qual scope s.heap.objs.size f cd::outer),∀b,env.frame=some b->b∈lM (envOfC qual scope s.heap.objs.size f cd::outer):=λenv he b hb=>V9.mpr ⟨env,he,hb⟩;show wpAny _ _ (leaving (envOfC qual scope s.heap.objs.size f cd) (.ref a)) _ _ _;refine wpAny_leaves_madeW (base:=PySem.W.hideAll s2.heap (lM (envOfC qual scope s.heap.objs.size f cd::outer))) hfr rfl (λb o z=>PySem.W.of_hideAll _ z) (PySem.W.funFrames_hide ffs hin) hm λh'' t fl tup nt up=>?_;have inB:∀b o,s2.heap.get? b=some o->b∉lM (envOfC qual scope s.heap.objs.size f cd::outer)->(PySem.W.hideAll s2.heap (lM (envOfC qual scope s.heap.objs.size f cd::outer))).get? b=some o:=λb o z hb=>PySem.W.hideAll_get _ z hb
 have notL:∀b o,s.heap.get? b=some o->b∉lM outer->b∉lM (envOfC qual scope s.heap.objs.size f cd::outer):=λb o z hb m=>by
  rcases UC.mp (I2.jy b m)with z'|z'
  ·have z2:b=s.heap.objs.size:=z';exact absurd (Uz z) (by rw[z2];exact UT _)
  ·exact hb z'
 have trkB:∀b u,H2 b=some u->∃o',s2.heap.get? b=some o'/\(PySem.W.hideAll s2.heap (lM (envOfC qual scope s.heap.objs.size f cd::outer))).get? b=some o':=λb u z=>by obtain⟨o',e'⟩:=(I2.hok b u z).obj;refine⟨o',e',inB b o' e' λm=>?_⟩;have:=I2.yF b m;rw[z]at this;cases this
 refine⟨a,.ref C,t,_,H2,rfl,I2.os,I2.bare,⟨λb o z n hb _=>?_,λb o z n hb _=>?_,λb o z n _=>I2.base.free b o z n (noA b),λb o z _=>?_,I2.base.tups,I2.base.frzs,I2.base.tbls⟩,λb u z=>?_,fl,λb o z hb=>?_,λb u z=>?_,qE⟩
 ·have e2:=I2.base.keep b o z n hb (noA b);exact fl.1 b o (inB b o e2 (notL b o z hb))
 ·obtain⟨sl,e2⟩:=I2.base.slot b o z n hb (noA b);obtain⟨_,o',e3,nf⟩:=I2.ky.mem hb;rw[e2]at e3;cases e3;obtain⟨sl',e4⟩:=up b _ (hm.keeps _ _ e2) nf;exact⟨sl',e4⟩
 ·by_cases hb:b∈lM outer
  ·obtain⟨_,o',e3,nf⟩:=I2.ky.mem hb;obtain⟨sl',e4⟩:=up b _ (hm.keeps _ _ e3) nf;exact⟨_,e4⟩
  ·obtain⟨o2,e2⟩:=I2.base.there b o z (noA b);exact⟨o2,fl.1 b o2 (inB b o2 e2 (notL b o z hb))⟩
 ·refine(I2.hok b u z).oz (λc v hc y=>?_) (λ_ y=>y) λ_ _ y=>y
  have:∃u',H2 c=some u':=by
   rcases hc with hc|hc
   ·exact⟨u,hc▸z⟩
   ·exact⟨_,hc⟩
  obtain⟨u',hu⟩:=this;obtain⟨o',e3,e4⟩:=trkB c u' hu;rw[y]at e3;cases e3;exact fl.1 c v e4
 ·obtain⟨o2,e2⟩:=I2.base.there b o z (noA b);exact⟨o2,fl.1 b o2 (inB b o2 e2 (notL b o z hb)),inB b o2 e2 (notL b o z hb)⟩
 ·obtain⟨o',e3,e4⟩:=trkB b u z;exact⟨o',fl.1 b o' e4,e4⟩
end
structure G6(P:Yt)(w:World)(K:Ym)(mg:Yi)(base:Heap)(CX:E7)(k:Nat)(f:Addr)(fd:FuncData)(ps:Yn)(sp:Yw->Sp):Prop where
 len:∀s vs H Q E,sp s vs H Q E->vs.length=ps.length
 run:∀(A:Yv) (outer:List Env) (s:Yw) (H:Hp) (args:Args) (us:Yl) (vs:List V) (Q:VK) (E:XK),bJ k A->yK P w K mg base A outer s H->BindsTo s fd args (ps.zip us)->Vals vs us->sp s vs H Q E ->
  codeAny (model P w) A (.call (.ref f) args) (CR CX outer P w H s Q E) s
noncomputable abbrev Cx.held(X:Cx)(a:Addr):Cx:={X with A:=X.A.mark (some (.ref a)),calm:=false,xe:=λ_ _=>False}
theorem Inv.held{σ:St}(I:Inv X pins σ H s)(a:Addr):Inv (X.held a) pins σ H s:=
 ⟨⟨I.ok.mod,I.ok.kind,I.ok.glob,I.ok.blt,I.ok.above,I.ok.inj,I.ok.has,I.ok.cab,(λz=>nomatch z),I.ok.frames,I.ok.stk,I.ok.exf,I.ok.bs,I.ok.bsz,I.ok.noex,I.ok.exfs,I.ok.ky,I.ok.frf⟩,I.os,I.bare,I.base,I.loc,I.cell,I.free,I.freeC,I.pin,I.hok,I.len⟩
noncomputable def dN(a:Addr)(cls:Value):Heap->Prop:=λh=>∃o,h.get? a=some o/\o.cls=cls
theorem dN.ok(x:dN a cls h):bM P w H h a (.ext (dN a cls)):=
 ⟨x,let ⟨o,e,_⟩:=x;⟨o,e⟩,λh1 h2 ⟨o,e,c⟩ k=>⟨o,k o e,c⟩⟩
theorem Cd(un:Un (lM l) [] H H' g h)(hok:lz P w H' h)(st:B.StaysIn h')(up:h.UpToSlots h')(ff:h.FunFrames B l)
 (old:∀b o,g.get? b=some o->b∉lM l->∃o',h.get? b=some o'/\B.get? b=some o')(wO:∀b u,H' b=some u->∃o',h.get? b=some o'/\B.get? b=some o'):Un (lM l) [] H H' g h'/\lz P w H' h':=by
 have no:∀b:Addr,b∉([]:Yk):=λb z=>nomatch z;refine⟨⟨λb o e n hb _=>?_,λb o e n hb _=>?_,λb o e n _=>un.free b o e n (no b),λb o e _=>?_,un.tups,un.frzs,un.tbls⟩,λb u e=>?_⟩
 ·have e2:=un.keep b o e n hb (no b);obtain⟨o',e3,e4⟩:=old b o e hb;rw[e2]at e3;cases e3;exact st b o e4
 ·obtain⟨sl,e2⟩:=un.slot b o e n hb (no b);obtain⟨_,o',e3,nf⟩:=ff.mem hb;rw[e2]at e3;cases e3;obtain⟨sl',e4⟩:=up b _ e2 nf
  grind
 ·by_cases hb:b∈lM l
  ·obtain⟨_,o',e3,nf⟩:=ff.mem hb;obtain⟨sl',e4⟩:=up b _ e3 nf
   grind
  ·obtain⟨o',e3,e4⟩:=old b o e hb;exact⟨o',st b o' e4⟩
 ·refine(hok b u e).oz (λc v hc z=>?_) (λ_ z=>z) λ_ _ z=>z
  have:∃u',H' c=some u':=by
   rcases hc with hc|hc
   ·exact⟨u,hc▸e⟩
   ·exact⟨_,hc⟩
  obtain⟨u',hu⟩:=this;obtain⟨o',e3,e4⟩:=wO c u' hu;rw[z]at e3;cases e3;exact st c v e4
theorem G7{Q1:α->Yw->Prop}(T:∀XE,XE=E1->wpAny M A t Q1 XE s1):wpAny M A t Q1 E1 s1:=T E1 rfl
theorem NJ{K:Ym}{dV kV doc pm cdv ct oc:Value}
 (lk:K.lookup f=some ⟨oc,od,.func (PySem.W.fnOf name qual params [.Try body [.ExceptHandler (some (.Name D np)) (some n) (b0::suite) hpos] [] [] tpos] scope dV kV doc pm an cdv ct),osl⟩)(hcd:PySem.W.codeIn K cdv qual=true)(S:aM N ps scope)
 (hD:mg D=some (.ref DC))(hi:N[i]?=some n)(hn:scope.names.lookup n=some .local)(hgD:scope.names.lookup D=some .globalImplicit)(hdb:(D==("__debug__" : Str))=false)
 (len:∀s vs H Q E,sp s vs H Q E->vs.length=ps.length)
 (hbody:∀(A:Yv) (outer:List Env) (s:Yw) (H:Hp) (vs:List V) (Q:VK) (E:XK),bJ k (A.deeper (envOfC qual scope s.heap.objs.size f cdv))->sp s vs H Q E ->
   ∃(tb:XK->TS) (th:TS),(∀EH XE,Passes (ja P w) ((fA Fd P w K mg base N qual scope f cdv A outer s H E).qd XE) EH->xB ((fA Fd P w K mg base N qual scope f cdv A outer s H E).qd XE) body (tb EH)) /\
    (∀a,xB ((fA Fd P w K mg base N qual scope f cdv A outer s H E).held a) (b0::suite) th) /\
    tb (λcls _ H'=>PySem.W.exmOne K cls (.ref DC)=some true/\∀(a:Addr) (σ':St),H' a=none->σ'.length=N.length->th {nx:=λ_ H''=>Q .non H'',rt:=Q} (σ'.set i (some (.ref a))) (upd H' a (.ext (dN a cls)))) {nx:=λ_ H'=>Q .non H',rt:=Q} (start N vs) H) :
  G6 P w K mg base Fd (k+1) f (PySem.W.fnOf name qual params [.Try body [.ExceptHandler (some (.Name D np)) (some n) (b0::suite) hpos] [] [] tpos] scope dV kV doc pm an cdv ct) ps sp:=by
 refine⟨len,λA outer s H args us vs Q E hr e0 hb r hsp=>?_⟩;have hl:=len _ _ _ _ _ hsp;have KX:K.In s.heap:=e0.mod.kin.keeps λb o e=>(e0.bs b o e).1;have lim:s.heap.NoLimit:=e0.mod.nolimit.keeps λb o e=>(e0.bs b o e).1
 have hkind:∀y∈ps.zip us,scope.names.lookup y.1=some .local\/(scope.names.lookup y.1=some .cell/\((cellsFrom (s.heap.objs.size+1) scope.names []).lookup y.1).isSome=true):=by
  rintro⟨n,v⟩ hy;rcases S.par n (WQ hy).1 with q|q
  ·exact .inl q
  ·exact .inr ⟨q,V5 _ _ _ (.inl q)⟩
 refine XA hr.depth (KX _ _ lk) rfl S.co S.gen rfl (X1 KX hcd) (hb _ _ _ _ ?_);refine WY S.kind hkind λenv he s1 x=>?_;subst he;refine⟨lim.keeps x.toInCall.keep,codeAny_func ?_⟩;obtain⟨tb,th,hb1,hs1,hq⟩:=hbody A outer s H vs Q E (hr.deeper _) hsp;have I:Inv (fA Fd P w K mg base N qual scope f cdv A outer s H E) [] (start N vs) H s1:=rO S hr.hd e0 hl r x;generalize hX:fA Fd P w K mg base N qual scope f cdv A outer s H E=X at I hb1 hs1;have hP:X.prog=P:=by rw[<- hX];rfl
 have hw:X.w=w:=by rw[<- hX];rfl
 have hA:X.A=A.deeper (envOfC qual scope s.heap.objs.size f cdv):=by rw[<- hX];rfl
 have henv:X.env=envOfC qual scope s.heap.objs.size f cdv:=by rw[<- hX];rfl
 have hs0:X.s₀=s:=by rw[<- hX];rfl
 have hH0:X.H₀=H:=by rw[<- hX];rfl
 have hout:X.outer=outer:=by rw[<- hX];rfl
 have hex:X.ex=[]:=by rw[<- hX];rfl
 have hstk:X.stack=X.env::X.outer:=by rw[<- hX];rfl
 have hfrm:X.env.frame=some X.env.locals:=by rw[<- hX];rfl
 have hN:X.N=N:=by rw[<- hX];rfl
 have hK:X.K=K:=by rw[<- hX];rfl
 have hmg:X.mg=mg:=by rw[<- hX];rfl
 have hkn:X.env.kindOf n=some .local:=by rw[<- hX];exact hn
 have hkD:Gl X D:=by rw[<- hX];exact hgD
 have hcls:(X.env.scope.kind == .class || (X.env.scope.kind == .module&&X.env.locals != X.env.globals))=false:=by rw[I.ok.kind];rfl
 have fin:∀{σ':St} {H':Hp} {v:V} {u:Value} {s':Yw},Inv X [] σ' H' s'->RelV v u->Q v H'->CE outer X.prog X.w H s Q u s':=λ{σ' H' v u s'} J rv q=>by refine⟨v,H',by rw[<- hs0];exact J.os,J.bare,?_,J.hok,rv,q⟩;have:=J.base;unfold Cx.fs at this;rw[hout,hex,hH0,hs0]at this;exact this
 show wpAny (model P w) (A.deeper (envOfC qual scope s.heap.objs.size f cdv)) (execs [.Try body [.ExceptHandler (some (.Name D np)) (some n) (b0::suite) hpos] [] [] tpos] (envOfC qual scope s.heap.objs.size f cdv)) (λfl s'=>CR Fd outer P w H s Q E (.ok (.ret (match fl with|.ret v=>v|_=>.none))) s') _ s1;rw[<- hA,<- henv];have NX:N.Nodup:=S.nd;refine wpAny_execs_cons (wpAny_Try_except ?_);rw[<- hP,<- hw];refine G7 λXE hXE=>?_;refine bW (hb1 (λcls _ H'=>PySem.W.exmOne K cls (.ref DC)=some true/\∀(a:Addr) (σ':St),H' a=none->σ'.length=N.length->th {nx:=λ_ H''=>Q .non H'',rt:=Q} (σ'.set i (some (.ref a))) (upd H' a (.ext (dN a cls)))) XE ?_ [] s1 (start N vs) H _ (I.qd XE) hq) (λfl s' hs=>?_)
 ·
  rintro pins σ' H1 s2 e s' I1 ⟨a,cls,t,B,H',e1,os,bare,un,hok,fl,old,wO,hm,hq2⟩;subst e1;show XE (.ref a) s';rw[hXE];have hok:lz X.prog X.w H' s'.heap:=by rw[hP,hw];exact hok
  have I0:Inv X [] σ' H1 s2:=I1.iB.qc λp hp=>nomatch hp;have hfr:X.A.frames=some (X.env::X.outer):=by rw[I0.ok.frames,hstk]
  have fl:Heap.FlyingW B (X.env::X.outer) a cls (.ref t) s'.heap:=by rw[<- hstk];exact fl
  refine wpAny_looks_onW hfr hfrm fl λh4 held4 up4=>wpAny_landsW held4 λh5 fl5 up5=>?_;have up45:=up4.trans up5;have ff:s'.heap.FunFrames B X.stack:=by rw[hstk];exact fl.2.2.1
  have na:H' a=none:=by
   cases q:H' a with
   |none=>rfl
   |some u=>obtain⟨o',_,e4⟩:=wO a u q;rw[fl.2.1]at e4;cases e4
  have nold:s2.heap.get? a=none:=by
   cases q:s2.heap.get? a with
   |none=>rfl
   |some o=>
    by_cases hb:a∈lM X.stack
    ·obtain⟨_,o',e3,nf⟩:=ff.mem hb;obtain⟨oe,ws,hoe,_,hoed,_⟩:=fl.first;rw[e3]at hoe;cases hoe;exact absurd hoed (nf ws)
    ·obtain⟨o',_,e4⟩:=old a o q hb;rw[fl.2.1]at e4;cases e4
  have J5:Inv X [] σ' H' {s' with heap:=h5}:=by obtain⟨u5,k5⟩:=Cd un hok fl5.1 up45 ff old wO;exact I0.Ah os u5 k5 bare (λb z=>nomatch z)
  refine wpAny_handleBy_cons (codeAny_handlers_test (kz (X:=X.held a) (J5.held a) hkD (by show X.mg D=_;rw[hmg];exact hD) ?_ hdb)) (by intro q;cases q);have LT:PySem.W.Looks (model X.prog X.w) h5 (typeOf (.ref a)) cls:=by obtain⟨ob,hob,hc⟩:=fl5.there;subst hc;exact(PySem.W.Looks.ld hob).andThen .now
  have KX5:K.In h5:=by rw[<- hK];exact J5.qb
  refine(PySem.W.exm_one KX5 LT hm).here ?_;refine codeAny_handlers_suite_as (lands_againW fl5 λh6 fl6 up6=>?_)
  have J6:Inv X [] σ' (upd H' a (.ext (dN a cls))) {s' with heap:=h6}:=by
   obtain⟨u6,k6⟩:=Cd un hok fl6.1 (up45.trans up6) ff old wO;refine I0.Ah os ⟨u6.keep,u6.slot,λb o z n' h'=>?_,u6.there,λb xs z=>?_,λb o xs z=>?_,λb ps z=>?_⟩ (λb u z=>?_) bare (λb z=>nomatch z)
   ·have hne:b≠a:=λy=>by rw[y,nold]at z;cases z
    rw[ak hne];exact u6.free b o z n' h'
   ·have y:=u6.tups b xs z;rw[ak (ay y na)];exact y
   ·have y:=u6.frzs b o xs z;rw[ak (ay y na)];exact y
   ·obtain⟨more,y⟩:=u6.tbls b ps z;exact⟨more,by rw[ak (ay y na)];exact y⟩
   ·by_cases hba:b=a
    ·subst hba;rw[aJ]at z;cases z;exact dN.ok (by obtain⟨ob,hob,hc⟩:=fl6.there;exact⟨ob,hob,hc⟩)
    ·rw[ak hba]at z;refine(k6 b u z).oz (λ_ _ _ y=>y) (λc y=>?_) λc xs y=>?_
     ·rw[ak (ay y na)];exact y
     ·rw[ak (ay y na)];exact y
  refine jR (X:=X.held a) (J6.held a) (by show X.N.Nodup;rw[hN];exact NX) (by show X.N[i]?=_;rw[hN];exact hi) (.inl hkn) (v:=.ref a) rfl (λs7 I7=>?_) (.inr hkn);refine VA (hs1 a [] s7 _ _ _ I7 (hq2 a σ' na (by rw[I0.len,hN]))) (λfl' s8 hs=>?_) λ_ _ z=>False.elim z
  have done:∀{σ8:St} {H8:Hp} {v:V} {u:Value},Inv (X.held a) [] σ8 H8 s8->RelV v u->Q v H8->∀h9 tk,Heap.SameBut X.env.locals s8.heap h9->CE outer X.prog X.w H s Q u {s8 with heap:=h9,toks:=tk}:=λ{σ8 H8 v u} J rv q h9 tk sb=>by
   have hsz:s.heap.objs.size<=X.env.locals:=by have:=J.ok.above;rw[show(X.held a).s₀=X.s₀ from rfl,hs0]at this;exact this
   have bs:=J.base;have noE:∀b:Addr,b∉(X.held a).ex:=λb z=>by rw[show(X.held a).ex=X.ex from rfl,hex]at z;cases z
   have hne:∀b o,s.heap.get? b=some o->b≠X.env.locals:=λb o z y=>absurd (Uz z) (by rw[y];exact Nat.not_lt.mpr hsz);have e1:(X.held a).s₀=s:=hs0;have e2:(X.held a).H₀=H:=hH0;have e3:(X.held a).fs=lM outer:=by show lM X.outer=_;rw[hout]
   rw[e1,e2,e3]at bs;refine⟨v,H8,by rw[<- hs0];exact J.os,J.bare,⟨λb o z n' hb _=>(sb.2 b (hne b o z)).trans (bs.keep b o z n' hb (noE b)),λb o z n' hb _=>?_,λb o z n' _=>bs.free b o z n' (noE b),λb o z _=>?_,bs.tups,bs.frzs,bs.tbls⟩,?_,rv,q⟩
   ·obtain⟨sl,y⟩:=bs.slot b o z n' hb (noE b);exact⟨sl,(sb.2 b (hne b o z)).trans y⟩
   ·obtain⟨o',y⟩:=bs.there b o z (noE b);exact⟨o',(sb.2 b (hne b o z)).trans y⟩
   ·intro b u' z;have hb:b≠X.env.locals:=λy=>by have:=J.free;rw[show(X.held a).env.locals=X.env.locals from rfl,<- y,z]at this;cases this
    refine(J.hok b u' z).oz (λc v' hc y=>(sb.2 c ?_).trans y) (λ_ y=>y) λ_ _ y=>y;rcases hc with hc|hc
    ·rw[hc];exact hb
    ·intro y;have:=J.free;rw[show(X.held a).env.locals=X.env.locals from rfl,<- y,hc]at this;cases this
  cases fl' with
  |ret u=>obtain⟨v,σ8,H8,J,rv,q⟩:=hs;obtain⟨m8,hn8,_⟩:=id J.loc;exact wpAny_nameGoes_keeps hkn hn8 hcls λh9 v9 _ sb=>done J rv q h9 _ sb
  |next=>obtain⟨σ8,H8,J,q⟩:=hs;obtain⟨m8,hn8,_⟩:=id J.loc;exact wpAny_nameGoes_keeps hkn hn8 hcls λh9 v9 _ sb=>WM (done (v:=.non) (u:=.none) J rfl q h9 _ sb)
  |brk=>obtain⟨_,_,_,q⟩:=hs;exact False.elim q
  |cont=>obtain⟨_,_,_,q⟩:=hs;exact False.elim q
 ·cases fl with
  |ret u=>obtain⟨v,σ',H',J,rv,q⟩:=hs;exact fin J.iB rv q
  |next=>obtain⟨σ',H',J,q⟩:=hs;exact WM (WM (fin (v:=.non) (u:=.none) J.iB rfl q))
  |brk=>obtain⟨_,_,_,q⟩:=hs;exact False.elim q
  |cont=>obtain⟨_,_,_,q⟩:=hs;exact False.elim q
end L2
namespace PySem.W
open PySem PySem.Spec PySem.Calls PyProof.Rows Builtin Builtin.ObjectAttr Builtin.Getset_descriptor
section
variable {prog:Yt} {w:World} {K:Frag} {y D:Addr}
theorem G8(X:K.In h)(ha:findIn K (.ref D) nm=some (some at1))(hn:specialIn K at1 "__get__" = some (some g1))(htk:takesIn K at1=some true) :
  Looks M h (find (.ref y) (.ref D) nm) (.bind g1 at1):=by
 have K1:=looks_findIn (M:=M) X ha;have K2:Looks M h _ _:=looks_specialIn X hn;have K3:=looks_takesIn (M:=M) X htk;exact K1.andThen (K2.andThen ((show Looks M h _ (some (g1,at1))from K3.andThen .now).andThen (Looks.tag .now)))
theorem Aw(X:K.In s.heap)(LT:Looks (model prog w) s.heap (typeOf (.ref y)) (.ref D))(hm:mroIn K D (.type "object")=some true)(k:R (.ok (.ret (.ref D))) s) :
  codeAny (model prog w) A (.call (.builtin "getset_descriptor.__get__") ⟨[.builtin "object.__class__",.ref y,tp],[]⟩) R s:=by
 obtain⟨h1,gs,dr,tk,os⟩:=s;have LM:=looks_mroIn (M:=model prog w) X hm;refine XR KF.slot_gs.plain KF.entry_gs (KF.slot_gs.check _ _ _ _ _ _ _ _ KF.type_class (KF.args_gs _ _ _) ?_);unfold Builtin.«getset_descriptor.__get__»;unfold descrGet;rw[dga_obj];refine Uu (Uw ?_);unfold descrGetter descrCheckInstance;unfold descrNameAndClass isInstance;simp only[KF.owner_class]
 repeat lk
 refine⟨Code.quiet_builtin _ (by decide +kernel),Wm KF.entry_class ?_⟩;unfold Builtin.«object.__class__»;unfold shownTypeOf
 repeat lk
 exact k
structure qm(K:Frag)(D:Addr):Prop where
 g1:findIn K (.ref D) "__getattribute__" = some (some (.builtin "BaseException.__getattribute__"))
 g2:findIn K (.ref D) "__getattr__" = some none
 be:mroIn K D (.type "BaseException")=some true
 a:findIn K (.ref D) "__class__" = some (some (.builtin "object.__class__"))
 n:specialIn K (.builtin "object.__class__") "__get__" = some (some (.builtin "getset_descriptor.__get__"))
 t:takesIn K (.builtin "object.__class__")=some true
 m:mroIn K D (.type "object")=some true
theorem Fo(L:qm K D)(X:K.In s.heap)(LT:Looks M s.heap (typeOf (.ref y)) (.ref D))(hq:Q () s) :
  wpAny M A (checkBuiltinCall "BaseException.__getattribute__" ⟨[.ref y,nameV],[]⟩) Q E s:=by
 obtain⟨h1,gs,dr,tk,os⟩:=s;have LM:=looks_mroIn (M:=M) X L.be;have hk:builtinKind "BaseException.__getattribute__" = some .slot:=by decide +kernel
 have hsplit:splitId "BaseException.__getattribute__" = some ("BaseException", "__getattribute__"):=by decide +kernel
 have ha:=F.args_bexc_ga (.ref y) nameV;simp only[checkBuiltinCall,hk,hsplit];refine Uu ?_;unfold isInstance
 repeat (first|lk|wp_step)
 exact hq
theorem Fp(L:qm K D)(X:K.In s.heap)(LT:Looks (model prog w) s.heap (typeOf (.ref y)) (.ref D))(hq:Q (.done (.ret (.ref D))) s) :
  wpAny (model prog w) A (Builtin.«object.__getattribute__» ⟨[.ref y,.str "__class__" tk],[]⟩) Q E s:=by
 obtain⟨h1,gs,dr,tk',os⟩:=s;have K3:=G8 (M:=model prog w) (y:=y) X L.a L.n L.t;unfold Builtin.«object.__getattribute__»;have e1:slotArgs "__getattribute__" 1 ⟨[.ref y,.str "__class__" tk],[]⟩=pure (.ref y,[.str "__class__" tk]):=rfl;have e2:attrName (.str "__class__" tk)=pure "__class__" := rfl;dsimp only;rw[e1];refine Uu (Uw ?_);dsimp only;rw[e2];refine Uu (Uw (Uu (LT.at (Uu (K3.at ?_)))));show wpAny _ _ (holding [.builtin "object.__class__"] (call (.builtin "getset_descriptor.__get__") [.builtin "object.__class__",.ref y,.ref D]) >>= ret) _ _ _;exact Uu (Va (XT (Aw X LT L.m (Uw hq))))
theorem Kh(L:qm K D)
 (X:K.In s.heap)(LT:Looks (model prog w) s.heap (typeOf (.ref y)) (.ref D))(k:Q (some (.ref D)) {s with toks:=s.toks+1}):wpAny (model prog w) A (getAttr? (.ref y) "__class__") Q E s:=by
 obtain⟨h1,gs,dr,tk,os⟩:=s;have K1:=looks_findIn (M:=model prog w) X L.g1;have K2:=looks_findIn (M:=model prog w) X L.g2;have f3:=F.excAttr_ValueError.ga.bind (.ref y);unfold getAttr? getAttrBy?;unfold getAttrBy;refine Uu (wpAny_mkText (Uu (Wy (Va (Uu (LT.at (Uu (K1.at ?_))))))));have e1:(Value.builtin "BaseException.__getattribute__" == Value.builtin "object.__getattribute__")=false:=by decide +kernel
 have e0:(onTheHeap (Value.ref D)&&(Value.builtin "BaseException.__getattribute__" == Value.builtin "object.__getattribute__"))=false:=by rw[e1];rfl
 dsimp only;rw[e0];show wpAny _ _ (getAttrByItsOwn _ _ _ _ _ _) _ _ _;unfold getAttrByItsOwn;refine Uu (K2.at ?_);refine Uu (Wy (Va ?_));show wpAny _ _ (boundAndCalled _ _ _) _ _ _;unfold boundAndCalled;rw[f3];refine Uu (Uw ?_);refine XT (XR F.excAttr_ValueError.ga.plain F.entry_bexc_ga (Fo L X LT (Fp L X LT ?_)));exact handed_on rfl (Uw k)
theorem G9(hcl:(clsIn K D).isSome=true)(L:qm K D) :
  KitX K (.ref y) (.ref D) (L2.dN y (.ref D)) where
 ty:=by rintro M h _ ⟨o,e,c⟩;exact c▸(Looks.ld e).andThen .now
 it:=λ_ _ X _=>by
  obtain⟨cd0,z⟩:=Wj.mp hcl;unfold clsIn at z;split at z
  ·rename_i ho;intro A1 Q1 E1 s1 kp q;unfold isType;unfold loadHead;exact Uu (wpAny_loadPart (kp _ _ (X _ _ ho)) (Uw q))
  grind
 ne:=λh tp dd its n sl X htp=>by
  obtain⟨cd0,z⟩:=Wj.mp hcl;refine WU.mpr λq=>?_;have e:D=tp:=Value.ref.inj (X9.mp q);subst e;unfold clsIn at z;split at z
  ·rename_i ho;have bad:=(X _ _ ho).symm.trans htp;cases bad
  ·cases z
 ca:=λX p k=>Kh L X (by obtain⟨o,e,c⟩:=p;exact c▸(Looks.ld e).andThen .now) k
end
end PySem.W
namespace L2
open PySem PySem.Spec PyProof.Rows
structure oP(k:Nat)(A:Yv):Prop where
 dp:A.depth+3*k+5<recursionLimit
 un:A.units+16*k+200<cLine
 gd:A.guards=some []
theorem bJ.held(r:bJ k A)(e:Option Value):oP k (A.mark e):=⟨r.dp,r.un,r.gd⟩
theorem oP.deep(r:oP (k+1) A)(env:Env):oP k (A.deeper env):=
 ⟨by have:=r.dp;show A.depth+1+3*k+5<_;omega,by have:=r.un;show A.units+3+16*k+200<_;omega,r.gd⟩
theorem oP.Ua(r:oP k A):A.depth<recursionLimit:=by have:=r.dp;omega
structure DD(P:Yt)(w:World)(K:Ym)(mg:Yi)(base:Heap)(k:Nat)(f:Addr)(fd:FuncData)(ps:Yn)(sp:Sp):Prop where
 len:∀vs H Q E,sp vs H Q E->vs.length=ps.length
 run:∀(A:Yv) (outer:List Env) (s:Yw) (H:Hp) (args:Args) (us:Yl) (vs:List V) (Q:VK) (E:XK),oP k A->yK P w K mg base A outer s H->BindsTo s fd args (ps.zip us)->Vals vs us->sp vs H Q E ->
  codeAny (model P w) A (.call (.ref f) args) (CR Fd outer P w H s Q E) s
noncomputable abbrev Se(P:Yt)(w:World)(K:Ym)(mg:Yi)(base:Heap)(N:Yn)(qual:Str)(scope:Scope)(f:Addr)(cd:Value)(A:Yv)(outer:List Env)(s:Yw)(H:Hp)(E:XK):Cx:=
 {fA Fd P w K mg base N qual scope f cd A outer s H E with calm:=false,xe:=λ_ _=>False}
theorem NK{K:Ym}{dV kV doc pm cdv ct oc:Value}
 (lk:K.lookup f=some ⟨oc,od,.func (PySem.W.fnOf name qual params body scope dV kV doc pm an cdv ct),osl⟩)(hcd:PySem.W.codeIn K cdv qual=true)(S:aM N ps scope)
 (len:∀vs H Q E,sp vs H Q E->vs.length=ps.length)
 (hbody:∀(A:Yv) (outer:List Env) (s:Yw) (H:Hp) (vs:List V) (Q:VK) (E:XK),oP k (A.deeper (envOfC qual scope s.heap.objs.size f cdv))->sp vs H Q E ->
   ∃t,xB (Se P w K mg base N qual scope f cdv A outer s H E) body t/\t {nx:=λ_ H'=>Q .non H',rt:=Q} (start N vs) H) :
  DD P w K mg base (k+1) f (PySem.W.fnOf name qual params body scope dV kV doc pm an cdv ct) ps sp:=by
 refine⟨len,λA outer s H args us vs Q E hr e0 hb r hsp=>?_⟩;have hl:=len _ _ _ _ hsp;have kb:∀b o,base.get? b=some o->s.heap.get? b=some o:=λb o e=>(e0.bs b o e).1
 have hkind:∀y∈ps.zip us,scope.names.lookup y.1=some .local\/(scope.names.lookup y.1=some .cell/\((cellsFrom (s.heap.objs.size+1) scope.names []).lookup y.1).isSome=true):=by
  rintro⟨n,v⟩ hy;rcases S.par n (WQ hy).1 with q|q
  ·grind
  ·exact .inr ⟨q,V5 _ _ _ (.inl q)⟩
 refine XA hr.Ua (e0.mod.kin.keeps kb _ _ lk) rfl S.co S.gen rfl (X1 (e0.mod.kin.keeps kb) hcd) (hb _ _ _ _ ?_);refine WY S.kind hkind λenv he s1 x=>?_;subst he;refine⟨(e0.mod.nolimit.keeps kb).keeps x.toInCall.keep,codeAny_func ?_⟩;obtain⟨t,ht,hq⟩:=hbody A outer s H vs Q E (hr.deep _) hsp;have e1:yK P w K mg base {A with handled:=none} outer s H:=⟨e0.frames,e0.mod,e0.bs,e0.bsz,e0.ky,e0.frf,e0.hok,e0.bare⟩;have I0:Inv (fA Fd P w K mg base N qual scope f cdv {A with handled:=none} outer s H E) [] (start N vs) H s1:=rO S rfl e1 hl r x
 have I:Inv (Se P w K mg base N qual scope f cdv A outer s H E) [] (start N vs) H s1:=
  ⟨⟨I0.ok.mod,I0.ok.kind,I0.ok.glob,I0.ok.blt,I0.ok.above,I0.ok.inj,I0.ok.has,I0.ok.cab,(λz=>nomatch z),I0.ok.frames,I0.ok.stk,I0.ok.exf,I0.ok.bs,I0.ok.bsz,I0.ok.noex,I0.ok.exfs,I0.ok.ky,I0.ok.frf⟩,I0.os,I0.bare,I0.base,I0.loc,I0.cell,I0.free,I0.freeC,I0.pin,I0.hok,I0.len⟩
 refine VA (ht [] s1 (start N vs) H _ I hq) (λfl s' hs=>?_) λe s' hs=>False.elim hs
 cases fl with
 |ret u=>obtain⟨v,σ',H',J,rv,q⟩:=hs;exact⟨v,H',J.os,J.bare,J.base,J.hok,rv,q⟩
 |next=>obtain⟨σ',H',J,q⟩:=hs;exact⟨.non,H',J.os,J.bare,J.base,J.hok,rfl,q⟩
 |brk=>obtain⟨_,_,_,q⟩:=hs;exact False.elim q
 |cont=>obtain⟨_,_,_,q⟩:=hs;exact False.elim q
theorem Gr.Ub{K:Ym}{st:Stmt}(F:Gr K x qual st f fd)(S:aM N ps (ao st))(len:∀vs H Q E,sp vs H Q E->vs.length=ps.length)
 (hbody:∀(cdv:Value) (A:Yv) (outer:List Env) (s:Yw) (H:Hp) (vs:List V) (Q:VK) (E:XK),oP k (A.deeper (envOfC qual (ao st) s.heap.objs.size f cdv))->sp vs H Q E ->
   ∃t,xB (Se P w K mg base N qual (ao st) f cdv A outer s H E) (bV st) t/\t {nx:=λ_ H'=>Q .non H',rt:=Q} (start N vs) H):DD P w K mg base (k+1) f fd ps sp:=by
 obtain⟨oc,od,kV,doc,pm,an,cdv,ct,osl,rfl,lk,hcd⟩:=F.ex;exact NK lk hcd S len λA outer s H vs Q E hr hsp=>hbody cdv A outer s H vs Q E hr hsp
structure Ce(P:Yt)(w:World)(K:Ym)(mg:Yi)(base:Heap)(x:Str)(ps:Yn)(k:Nat)(sp:Sp):Prop where
 ex:∃(f:Addr) (fd:FuncData),mg x=some (.ref f)/\PySem.W.keepIn K (.ref f)=true/\Binds K fd ps []/\DD P w K mg base k f fd ps sp
theorem NL{p pos:Pos}(F:Ce X.prog X.w X.K X.mg X.base x ps k sp)(hr:oP k X.A)(hg:Gl X x)(ha:PA X (e::es) t)(hdb:(x==("__debug__" : Str))=false:=by decide)
 (he:starEach (e::es) X.env=(false,eval e X.env)::starEach es X.env:=by rfl)(hpl:(backTo pos (starEach es X.env)).any (·.1)=false:=by rfl):PE X (.Call (.Name x p) (e::es) [] pos) (Al sp [] E0 t):=by
 obtain⟨f,fd,hm,hk,hb,F⟩:=F.ex;intro pins s σ H Q I h;refine Vg (kz I hg hm ?_ hdb);refine Xk (h₀:=X.base) I.ok.mod.kin hk (bW (ha pos pins s σ H _ I h) λus s1 ⟨vs,H1,I1,r1,q1⟩=>⟨I1.qb,?_⟩) he hpl;have r2:Vals (vs++[]) (us++[]):=r1.append .nil;have hl:(us++[]).length=ps.length:=by rw[<- r2.length];exact F.len _ _ _ _ q1
 refine XT (WO (F.run X.A X.stack s1 H1 ⟨us,[]⟩ (us++[]) (vs++[]) Q E0 hr I1.JT (hb s1 us I1.qb hl) r2 q1) λr s' hq=>?_)
 cases r with
 |error e=>trivial
 |ok fl=>
  cases fl with
  |ret u=>exact I1.after hq
  |next=>assumption
  |brk=>exact False.elim hq
  |cont=>exact False.elim hq
theorem Ha:PE X e (λ_ _ _=>False):=λ_ _ _ _ _ _ h=>h.elim
structure NM(K:Ym)(D:Addr):Prop where
 c:(PySem.W.clsIn K D).isSome=true
 l:PySem.W.qm K D
noncomputable def NO:V->Option Value
 |.ref C=>some (.ref C)
 |.ty n=>some (.type n)
 |_=>none
noncomputable def Hb(K:Ym):List V->Hp->VK->Prop:=λxs H Q=>∃a D v c b,xs=[.ref a,v]/\NO v=some c/\H a=some (.ext (dN a (.ref D)))/\NM K D/\PySem.W.kitOne K (.ref D) c=some b/\Q (.bl b) H
section
variable {X:Cx}
theorem xP:dC X (.builtin "isinstance") (Hb X.K):=by
 intro pins s σ H vs us Q I r h;obtain⟨a,D,v,c,b,rfl,hv,ha,ec,e,q⟩:=h
 cases r with
 |cons r rr=>
  cases rr with
  |cons r' rr=>
   cases rr;cases r;rename_i u2
   have hc:c=u2:=by
    cases v with
    |ref C=>simp[NO]at hv;cases r';grind
    |ty n=>simp[NO]at hv;cases r';grind
    |_=>trivial
   subst hc;obtain⟨p,_,_⟩:=(show bM X.prog X.w H s.heap a (.ext (dN a (.ref D)))from I.hok a _ ha);exact Vv (PySem.W.G9 ec.c ec.l) I.qb p e (λz=>nomatch z) λtk=>⟨.bl b,H,I.tok _,rfl,q⟩
theorem Ax{bs:List Bool}:∀{us:Yl},Vals (bs.map V.bl) us->us=bs.map Value.bool:=by
 induction bs with
 |nil=>intro us r;cases r;rfl
 |cons b bs ih=>
  intro us r
  cases r with
  |cons r rr=>rw[ih rr];cases r;rfl
noncomputable def Ki:V->List V->Hp->VK->Prop:=λx vs H Q=>∃(l:Addr) (bs:List Bool),x=.ref l/\vs=[.bl true]/\H l=some (.lst (bs.map V.bl))/\Q (.int ((bs.countP λb=>b):Nat)) H
theorem Fs:Rb X "list.count" Ki:=by
 intro pins s σ H x vs v us Q I rx rv h;obtain⟨l,bs,rfl,rfl,hH,q⟩:=h;cases rx;obtain⟨u,rfl,ru⟩:=rv.one;cases ru;obtain⟨z,its,n,r,hl,e⟩:=I.B5 hH;have hi:=Ax r;subst hi;refine WD F.slot_list_count ⟨_,e,rfl⟩ F.entry_list_count (F.args_list_count_2 _ _) (PySem.SeqAt.list_countAt l _ n none #[] _ (λy=>match y with|.bool b=>b|_=>false)) ⟨e,λy hy=>?_,?_⟩
 ·obtain⟨b,_,rfl⟩:=UU.mp (by grind:y∈bs.map Value.bool);have:=PySem.SeqAt.EqAt.bool_bool (A:=X.A.in1) (s:=s) b true
  simp_all
 ·have hc:List.countP (λy=>match y with|Value.bool b=>b|_=>false) (List.map Value.bool bs).toArray.toList=bs.countP λb=>b:=by
   rw[List.toList_toArray,List.countP_map];rfl
  rw[hc];exact⟨.int (_:Nat),H,I.tok _,⟨_,rfl⟩,q⟩
noncomputable def Kj:V->List V->Hp->VK->Prop:=λx vs H Q=>∃(l:Addr) (bs:List Bool) (j:Nat),x=.ref l/\vs=[.bl true]/\H l=some (.lst (bs.map V.bl))/\bs[j]?=some true/\(∀m,m<j->bs[m]?=some false)/\j<1000/\Q (.int (j:Nat)) H
theorem Ft:Rb X "list.index" Kj:=by
 intro pins s σ H x vs v us Q I rx rv h;obtain⟨l,bs,j,rfl,rfl,hH,hj,hno,hs,q⟩:=h;cases rx;obtain⟨u,rfl,ru⟩:=rv.one;cases ru;obtain⟨z,its,n,r,hl,e⟩:=I.B5 hH;have hi:=Ax r;subst hi;obtain⟨hj1,hj2⟩:=UB.mp hj;refine WD F.slot_list_index ⟨_,e,rfl⟩ F.entry_list_index (F.args_list_index_2 _ _) (PySem.SeqAt.list_indexAt l _ n none #[] _ (λy=>match y with|.bool b=>b|_=>false) j (by grind) (by omega) (by simp[hj2]) (λm hm hmj=>?_)) ⟨e,λy hy=>?_,?_⟩
 ·obtain⟨h1,h2⟩:=UB.mp (hno m hmj);simp[h2]
 ·obtain⟨b,_,rfl⟩:=UU.mp (by grind:y∈bs.map Value.bool);have:=PySem.SeqAt.EqAt.bool_bool (A:=X.A.in1) (s:=s) b true
  simp_all
 ·exact⟨.int (j:Nat),H,I.tok _,⟨_,rfl⟩,q⟩
end
theorem Fv(hstk:X.stack=X.env::X.outer)(hfrm:X.env.frame=some X.env.locals)(hex:X.ex=[])
 (hxe:∀e s',wpAny (model X.prog X.w) X.A (leaving X.env e) (λ_ s''=>ja X.prog X.w X.outer X.H₀ X.s₀ E e s'') (λe' s''=>ja X.prog X.w X.outer X.H₀ X.s₀ E e' s'') s'->X.xe e s'):Passes (ja X.prog X.w) X E:=by
 rintro pins σ H1 s1 e s' I ⟨a,cls,t,B,H',e1,os,bare,un,hok,fl,old,wO,q⟩;subst e1;have J:=I.Ah os un hok bare (λb z=>nomatch z);have hfr:X.A.frames=some (X.env::X.outer):=by rw[I.ok.frames,hstk]
 have noA:∀b:Addr,b∉X.ex:=λb z=>by grind
 have inB:∀b o,X.s₀.heap.get? b=some o->b∉lM X.outer->∃o',s'.heap.get? b=some o'/\B.get? b=some o':=λb o e hb=>by
  obtain⟨o1,e1⟩:=I.base.there b o e (noA b);refine old b o1 e1 λz=>?_;rcases UC.mp (I.jy b z)with z|z
  ·exact absurd (Uz e) (by rw[z];exact Nat.not_lt.mpr I.ok.above)
  grind
 refine hxe _ _ ?_;rw[hstk]at fl;refine wpAny_leaves_onW hfr hfrm fl λh' fl' up=>?_;have ub:Un (lM X.outer) [] X.H₀ H' X.s₀.heap s'.heap:=by have:=J.base;rw[hex]at this;exact this
 obtain⟨u2,k2⟩:=Cd ub J.hok fl'.1 up fl.2.2.1.2.2 inB wO;refine⟨a,cls,t,B,H',rfl,os.trans I.os,bare,u2,k2,fl',λb o e hb=>?_,λb u e=>?_,q⟩
 ·obtain⟨o',_,e4⟩:=inB b o e hb;exact⟨o',fl'.1 b o' e4,e4⟩
 ·obtain⟨o',_,e4⟩:=wO b u e;exact⟨o',fl'.1 b o' e4,e4⟩
noncomputable abbrev kC(qual:Str)(scope:Scope)(L f:Addr)(cd:Value)(clos:List (Str×Addr)):Env:=PySem.W.envX qual scope L f cd clos
noncomputable def xQ(P:Yt)(w:World)(K:Ym)(mg:Yi)(base:Heap)(N:Yn)(qual:Str)(scope:Scope)(f:Addr)(cd:Value)(clos:List (Str×Addr))(A:Yv)(outer:List Env)(s:Yw)(H:Hp)(E:XK):Cx where
 prog:=P
 w:=w
 K:=K
 mg:=mg
 base:=base
 A:=A.deeper (kC qual scope s.heap.objs.size f cd clos)
 N:=N
 s₀:=s
 H₀:=H
 env:=kC qual scope s.heap.objs.size f cd clos
 outer:=outer
 stack:=kC qual scope s.heap.objs.size f cd clos::outer
 ex:=[]
 calm:=true
 fn:=λ_=>false
 pn:=[]
 xe:=λe s'=>wpAny (model P w) (A.deeper (kC qual scope s.heap.objs.size f cd clos)) (leaving (kC qual scope s.heap.objs.size f cd clos) e) (λ_ s''=>ja P w outer H s E e s'') (λe' s''=>ja P w outer H s E e' s'') s'
theorem uO{K:Ym} :
  Passes (ja P w) (xQ P w K mg base N qual scope f cd clos A outer s H E) E:=Fv (X:=xQ P w K mg base N qual scope f cd clos A outer s H E) rfl rfl rfl λ_ _ h=>h
structure uP(scope:Scope):Prop where
 co:scope.isCoroutine=false
 gen:scope.isGenerator=false
 kind:scope.kind=.function
 nocell:∀x∈scope.names,x.2≠.cell
theorem Kk{K:Ym}{vs:List V}
 (S:uP scope)(hr:bJ (k+1) A)(e0:yK P w K mg base A outer s H)(ho:s.heap.get? f=some o)(hd:o.data=.func (PySem.W.kla_fn name qual params body scope clos pm (.ref c') ctv))(hcd:s.heap.CodeRec (.ref c') qual)
 (hbind:bindArgs (PySem.W.kla_fn name qual params body scope clos pm (.ref c') ctv) ⟨[],[]⟩=pure [])
 (hinj:∀x y c,clos.lookup x=some c->clos.lookup y=some c->x=y)(hhas:∀x,scope.names.lookup x=some .free->∃c,clos.lookup x=some c)
 (hcell:∀x c,clos.lookup x=some c->(∃v,s.heap.IsCell c v)/\H c=none)(hN:N.length=vs.length)
 (hv:∀(i:Nat) (x:Str) (v:V),N[i]?=some x->vs[i]?=some v->scope.names.lookup x=some .free/\∃c u,clos.lookup x=some c/\s.heap.IsCell c (some u)/\RelV v u)
 (hb:bJ k (A.deeper (kC qual scope s.heap.objs.size f (.ref c') clos))->PE (xQ P w K mg base N qual scope f (.ref c') clos A outer s H E) body t)(hq:t (vs.map some) H Q) :
  codeAny (model P w) A (.call (.ref f) ⟨[],[]⟩) (CR (ja P w) outer P w H s Q E) s:=by
 have kb:∀b o,base.get? b=some o->s.heap.get? b=some o:=λb o e=>(e0.bs b o e).1;refine PySem.W.kla_callFunE hr.depth ho hd S.co S.gen rfl hcd ?_;rw[hbind];refine Uw (wpAny_newFunctionEnv S.nocell (λx hx=>nomatch hx) (λh₁ hns hsb=>?_) S.kind);have hk₁:∀b o,s.heap.get? b=some o->h₁.get? b=some o:=λb o e=>(hsb.2 b (UN (Uz e))).trans (Uv _ e);refine⟨(e0.mod.nolimit.keeps kb).keeps hk₁,?_⟩;show codeAny _ _ (.expr body (kC qual scope s.heap.objs.size f (.ref c') clos)) _ _;refine PySem.W.kla_codeExpr ?_;have isK:∀{c:Addr} {v:Option Value},s.heap.IsCell c v->h₁.IsCell c v:=λ⟨ob,e,d⟩=>⟨ob,hk₁ _ _ e,d⟩;have noA:∀b:Addr,b∉([]:Yk):=λb z=>nomatch z
 have I:Inv (xQ P w K mg base N qual scope f (.ref c') clos A outer s H E) [] (vs.map some) H {s with heap:=h₁,toks:=s.toks+([]:List (Str×Value)).length}:=by
  refine⟨⟨e0.mod,S.kind,rfl,rfl,Uy _,hinj,λy hy=>?_,(λy c hf _=>nomatch hf),λ_=>hr.hd,Around.frames_deeper e0.frames,.inr ⟨rfl,rfl⟩,λb z=>absurd z (noA b),e0.bs,e0.bsz,λb _ _=>noA b,λb z=>absurd z (noA b),e0.ky,e0.frf⟩,
   rfl,e0.bare,Un.kept hk₁,⟨_,hns,λi x v h1 h2 h3=>?_⟩,λx c h=>?_,e0.hok.fresh (Uy _),λx c h=>(hcell x c h).2,(λp hp=>nomatch hp),e0.hok.kept hk₁,?_⟩
  ·have hy:scope.names.lookup y=some .cell\/scope.names.lookup y=some .free:=hy;rcases hy with hy|hy
   ·exact absurd rfl (S.nocell _ (Vp hy))
   ·exact hhas y hy
  ·have h2':vs[i]?=some v:=by
    rw[Vs]at h2
    cases e:vs[i]? with
    |none=>rw[e]at h2;cases h2
    |some u=>rw[e]at h2;cases h2;rfl
   obtain⟨hf,c,u,hc,hic,rv⟩:=hv i x v h1 h2';exact⟨u,rv,.inr ⟨.inr hf,c,hc,isK hic⟩⟩
  ·obtain⟨⟨v,hv'⟩,_⟩:=hcell x c h;exact⟨v,isK hv'⟩
  ·rw[US];exact hN.symm
 refine VA (hb (hr.deeper _) [] _ _ H Q I hq) (λu s' ⟨v,H',J,rv,q⟩=>?_) λe s' h=>h;exact⟨v,H',J.os,J.bare,J.base,J.hok,rv,q⟩
noncomputable def NP(P:Yt)(w:World)(K:Ym)(mg:Yi)(base:Heap)(s:Yw)(H:Hp)(f:Addr)(k:Nat)(G:VK->XK->Prop):Prop:=
 (∃o fd,s.heap.get? f=some o/\o.data=.func fd)/\H f=none /\
 ∀(A:Yv) (outer:List Env) (s2:Yw) (fs:Yk) (Q:VK) (E:XK),bJ k A->yK P w K mg base A outer s2 H->Un fs [] H H s.heap s2.heap->G Q E->codeAny (model P w) A (.call (.ref f) ⟨[],[]⟩) (CR (ja P w) outer P w H s2 Q E) s2
noncomputable def Qc(G:VK->XK->Prop)(EH:XK)(i:Nat)(H0:Hp)(f:Addr):TE:=λσ H Q=>σ[i]?=some (some (.ref f))/\H=H0/\G Q EH
theorem Cf(hN:X.N[i]?=some x)(hl:X.env.scope.names.lookup x=some .local)(hdb:(x==("__debug__" : Str))=false)(hcd:(x==("__classdict__" : Str))=false)(hex:X.ex=[])
 (L:NP X.prog X.w X.K X.mg X.base X.s₀ X.H₀ f k G)(hr:bJ k X.A)(hx:Passes (ja X.prog X.w) X EH):PE X (.Call (.Name x p) [] [] pos) (Qc G EH i X.H₀ f):=by
 rintro pins s σ H Q I ⟨h1,h2,h3⟩;subst h2
 have ub:Un X.fs [] X.H₀ X.H₀ X.s₀.heap s.heap:=by
  have:=I.base
  grind
 obtain⟨⟨o,fd,ho,hfd⟩,hf0,hrun⟩:=L;refine Vg (bW (yG hN (.inl hl) hdb hcd pins s σ X.H₀ (λv H'=>v=.ref f/\H'=X.H₀) I ⟨_,h1,rfl,rfl⟩) λu s1 ⟨v,H1,I1,r1,q1,q2⟩=>?_);subst q1;subst q2;cases r1;have ub1:Un X.fs [] X.H₀ X.H₀ X.s₀.heap s1.heap:=by have:=I1.base;rw[hex]at this;exact this
 obtain⟨sl,e1⟩:=ub1.any ho hf0 (λz=>nomatch z);obtain⟨oc,od,dat,osl⟩:=o;cases hfd;refine PySem.W.callWith_F0 ⟨_,_,_,_,e1⟩ ?_;refine XT (WO (hrun X.A X.stack s1 X.fs Q EH hr I1.JT ub1 h3) λr s' hq=>?_)
 cases r with
 |error e=>exact hx pins σ _ s1 e s' I1 hq
 |ok fl=>
  cases fl with
  |ret u=>exact I1.after hq
  |next=>exact False.elim hq
  |brk=>exact False.elim hq
  |cont=>exact False.elim hq
end L2
namespace L2
open PySem
noncomputable def wQ(H:Hp)(b:Addr):Hp:=λa=>if a=b then none else H a
theorem Cg(h:a≠b):wQ H b a=H a:=if_neg h
theorem Hc:wQ H b b=none:=if_pos rfl
theorem Kl(h:wQ H b a=some o):a≠b/\H a=some o:=by
 by_cases e:a=b
 ·grind[Hc]
 simp_all[Cg]
end L2
namespace L2
open PySem PySem.Spec PyProof.Rows
structure Ext(H G H' G':Hp):Prop where
 sh:aT H H'
 sg:aT G G'
 gs:aT G' H'
 old:∀c,H c≠none->G' c=G c
theorem Ext.refl{H G:Hp}(s:aT G H):Ext H G H G:=⟨aT.refl H,aT.refl G,s,λ_ _=>rfl⟩
theorem Ext.new(s:aT G H)(hp:H p=none):Ext H G (upd H p o) (upd G p o):=by
 refine⟨aT.new hp,aT.new (s.free hp),λc u e=>?_,λc hc=>ak λz=>hc (z▸hp)⟩;by_cases h:c=p
 ·grind[aJ]
 ·rw[ak h]at e ⊢;exact s c u e
section
variable {X:Cx} {k:Nat}
noncomputable def Qd:R2:=λx y H Q=>∃G ds es,aT G H/\Rep G (.tuple ds) x/\Rep G (.tuple es) y/\ds.length+es.length<=sizeLine/\∀r H' G',Ext H G H' G'->Rep G' (.tuple (ds++es)) r->Q r H'
theorem Km:i6 X (binaryOp .Add) Qd:=by
 intro pins s σ H x y v u Q I rx ry h;obtain⟨G,ds,es,sg,h1,h2,hz,q⟩:=h;obtain⟨a,vs,rfl,ha,r1⟩:=id h1;obtain⟨b,us,rfl,hb,r2⟩:=id h2;by_cases hv:vs=[]
 ·subst hv;have hd:ds=[]:=Wz.mp r1.length.symm;subst hd;cases rx;cases ry;obtain⟨its1,v1,⟨⟨c1,d1,e1,l1⟩,p1,g1,n1,z1⟩,_⟩:=I.tuple (gO.of (K:=X.K) (sg _ _ ha));obtain⟨its2,v2,⟨⟨c2,d2,e2,l2⟩,p2,g2,n2,z2⟩,_⟩:=I.tuple (gO.of (K:=X.K) (sg _ _ hb));simp only at g1 z1 g2 z2;subst g1 z1 g2 z2;cases v1;exact concat_meets ⟨_,p1,rfl⟩ ⟨_,p2,rfl⟩ noFill_tuple_add seq_tuple_add Xr Xl (Xd _ _) (tuple_addW0 a b _ _ n1 n2 d1 d2 l1 l2 rfl) ⟨p1,p2,⟨.ref b,H,I,rfl,q _ H G (Ext.refl sg) h2⟩⟩
 ·refine JZ pins s σ H _ _ v u Q I rx ry ⟨a,b,vs,us,rfl,rfl,gO.of (sg _ _ ha),gO.of (sg _ _ hb),hv,by grind[r1.length,r2.length],λe=>?_,λe p hp=>?_⟩
  ·subst e;have he:es=[]:=Wz.mp r2.length.symm;subst he;exact q _ H G (Ext.refl sg) (by rw[List.append_nil];exact h1)
  ·have x:=Ext.new (o:=.tup (vs++us)) sg hp;exact q _ _ _ x ⟨p,_,rfl,aJ,bo.append (r1.same x.sg) (r2.same x.sg)⟩
noncomputable def Sf:V->Option Int->Option Int->Hp->VK->Prop:=λx lo hi H Q=>∃G ds,aT G H/\Rep G (.tuple ds) x/\∀r H' G',Ext H G H' G'->Rep G' (.tuple (cutD ds lo hi)) r->Q r H'
theorem Kn:Pe X Sf:=by
 intro pins s σ H x v vl vu lo hi sl Q I rx hs pl pu h;obtain⟨G,ds,sg,h1,q⟩:=h;obtain⟨a,xs,rfl,ha,r1⟩:=id h1;cases rx;obtain⟨its,rv,ht,hz⟩:=I.tuple (gO.of (K:=X.K) (sg _ _ ha));have hl:its.toArray.size=xs.length:=by rw[UG];exact rv.length.symm
 by_cases hw:HT.eM xs.length 0 lo=0/\HT.eM xs.length xs.length hi=xs.length
 ·refine⟨"tuple",_,Vl.lookup,ht.typeIs,xf ht hs pl pu (by grind) (by grind) ⟨.ref a,H,I,rfl,q _ H G (Ext.refl sg) ?_⟩⟩
  have e:cutD ds lo hi=ds:=by
   simp_all[cutD,r1.length,hw,List.drop_zero,Nat.sub_zero,List.take_length]
  grind
 ·refine Nf pins s σ H (.ref a) _ vl vu lo hi sl Q I rfl hs pl pu ⟨a,xs,rfl,gO.of (sg _ _ ha),hw,λp hp=>?_⟩;have x:=Ext.new (o:=.tup (wW xs lo hi)) sg hp;refine q _ _ _ x ⟨p,_,rfl,aJ,?_⟩;have e:cutD ds lo hi=(ds.drop (HT.eM xs.length 0 lo)).take (HT.eM xs.length xs.length hi-HT.eM xs.length 0 lo):=by unfold cutD;rw[r1.length]
  rw[e];exact((r1.same x.sg).drop _).take _
end
theorem Vals.Md:∀(us:Yl) (f:Nat->V),(∀j v,us[j]?=some v->RelV (f j) v)->Vals ((List.range us.length).map f) us
 | [],_,_=>.nil
 |u::us,f,h=>by rw[UR,List.range_succ_eq_map,U3,X2];exact .cons (h 0 u rfl) (Vals.Md us _ λj v e=>h _ v e)
section
variable {X:Cx}
theorem Ay(hc:X.calm=true):dC X (.type "tuple") (λxs H Q=>∃x,xs=[.str x]/\x.cps.size<=sizeLine/\∀p,H p=none->Q (.ref p) (upd H p (.tup ((List.range x.cps.size).map (sgn x))))):=by
 intro pins s σ H xs us Q I r h;obtain⟨x,rfl,hz,q⟩:=h;obtain⟨u,rfl,rx⟩:=vals1 r;obtain⟨t,rfl⟩:=rx;refine call_tuple_str (I.ok.hd hc) x t (λh' tk acc kp hacc=>?_) hz;have I1:Inv X pins σ H {s with heap:=h',toks:=tk}:=I.kept (t':=tk) kp
 have hv:Vals ((List.range x.cps.size).map (sgn x)) acc.toList:=by
  have e:acc.toList.length=x.cps.size:=by rw[Vo,hacc.1]
  rw[<- e];refine Vals.Md _ _ λj v ev=>yT j v ?_ (hacc.2 j v (by simp_all));rw[<- e]
  grind
 have I2:Inv X pins σ (upd H h'.objs.size (.tup ((List.range x.cps.size).map (sgn x)))) {s with heap:=h'.push {cls:=.type "tuple",data:=.seq acc},toks:=tk}:=by
  refine I1.laid (t':=tk) (λb o e=>Uv _ e) (Uy _) (show bM X.prog X.w _ _ _ (.tup _)from⟨by simp_all,acc.toList,hv,?_⟩);have:=IsTup.new h' acc
  simp_all
 exact⟨.ref h'.objs.size,_,I2,rfl,q _ (I1.hok.fresh (Uy _))⟩
end
noncomputable def recAt(c:Addr)(q:Str):Heap->Prop:=λh=>h.CodeRec (.ref c) q
theorem recAt.ok(x:recAt c q h):bM P w H h c (.ext (recAt c q)):=by
 have st:∀h1 h2:Heap,recAt c q h1->(∀o,h1.get? c=some o->h2.get? c=some o)->recAt c q h2:=by rintro h1 h2 ⟨c1,oc,vs,t,e,e1,e2,e3⟩ k;cases e;exact⟨c,oc,vs,t,rfl,k _ e1,e2,e3⟩
 exact⟨x,(by obtain⟨c1,oc,vs,t,e,e1,_⟩:=x;simp_all),st⟩
noncomputable def xR(H:Hp)(P:Addr)(q:Str):Prop:=∃ps:Yr,H P=some (.tbl ps)/\TriplesOk ps.toList/\∀(pos:Pos) (c:Value),codeAmong pos ps.toList=some c->∃a,c=.ref a/\a≠P/\H a=some (.ext (recAt a q))
theorem oQ:∀(n:Nat) (l:Yl),l.length<=n->TriplesOk l->TriplesOk (l++[.int a t,.int b u,c])
 |_,[],_,_=>trivial
 |0,_::_,h,_=>absurd h (by simp)
 |n+1,v::l,hn,ht=>by
  unfold TriplesOk at ht;split at ht
  ·grind
  ·rename_i x y x' y' z r e;cases e;have hl:r.length<=n:=by grind
   exact oQ n r hl ht
  grind
theorem yW(h:TriplesOk l):TriplesOk (l++[.int a t,.int b u,c]):=oQ l.length l (Uy _) h
theorem sX(pos:Pos):∀(n:Nat) (l:Yl),l.length<=n->TriplesOk l->codeAmong pos (l++[.int a t,.int b u,c])=some d->codeAmong pos l=some d\/d=c
 |_,[],_,_,h=>by
  grind[List.nil_append,codeAmong]
 |0,_::_,h,_,_=>absurd h (by simp)
 |n+1,v::l,hn,ht,h=>by
  unfold TriplesOk at ht;split at ht
  ·grind
  ·rename_i x y x' y' z r e;cases e;have hl:r.length<=n:=by simp only[UR]at hn;omega
   have h':codeAmong pos (.int x y::.int x' y'::z::(r++[.int a t,.int b u,c]))=some d:=h;unfold codeAmong at h' ⊢;split at h'
   ·rename_i q;rw[if_pos q];exact .inl h'
   ·rename_i q;rw[if_neg q];exact sX pos n r hl ht h'
  grind
theorem Ci(pos:Pos)(ht:TriplesOk l)(h:codeAmong pos (l++[.int a t,.int b u,c])=some d):codeAmong pos l=some d\/d=c:=sX pos l.length l (Uy _) ht h
structure BMod(base:Heap)(mg:Yi)(bm:Addr):Prop where
 g:mg "__builtins__" = some (.ref bm)
 n1:bm≠builtinsNs
 ob:∃o,base.get? bm=some o/\o.cls=.type "module" /\ o.dict=some builtinsNs/\o.data=.plain
section
variable {X:Cx} {pins:Yf} {σ:St} {H:Hp} {s:Yw}
theorem Hd(I:Inv X pins σ H s)(hcode:X.env.code=.ref c)(ht:PySem.W.codeHdIn X.K c P=true)(B:BMod X.base X.mg bm)
 (tb:xR H P (X.env.qual ++ "<lambda>"))(hdef:defaultsOf params X.env=([],[]))(hfree:∀n,(n,NameKind.free)∈lscope.names->X.env.kindOf n=some .cell\/X.env.kindOf n=some .free)
 (k:∀f o c' pm ctv H' s',Inv X pins σ H' s'->s'.heap.get? f=some o->o.data=.func (PySem.W.kla_fn "<lambda>" (X.env.qual ++ "<lambda>") params body lscope (cI X.env.cells lscope.names []) pm (.ref c') ctv)->H' f=none->H' c'=some (.ext (recAt c' (X.env.qual ++ "<lambda>"))) ->
   xR H' P (X.env.qual ++ "<lambda>")->aT (wQ H P) (wQ H' P)->Q (.ref f) s') :
  wpAny (model X.prog X.w) X.A (eval (.Lambda params body lscope lpos) X.env) Q E s:=by
 obtain⟨ps,hP,htr,hcs⟩:=id tb;have hPo:s.heap.get? P=some (PySem.W.tabObj ps):=(show bM X.prog X.w H s.heap P (.tbl ps)from I.hok P _ hP);have C:PySem.W.CodeHd s.heap c P:=PySem.W.codeHd_of_K I.qb ht;have hgs:s.heap.Ns mainGlobals X.mg:=I.mod.glob.keeps I.bk;obtain⟨ob,hbo,hb1,hb2,hb3⟩:=B.ob;have hbh:=I.bk _ _ hbo
 have hgP:mainGlobals≠P:=λz=>by
  obtain⟨o,es,ep,e,hd,_⟩:=hgs
  grind
 have hbP:bm≠P:=λz=>by grind
 have hbG:bm≠mainGlobals:=λz=>by obtain⟨o,es,ep,e,hd,_⟩:=id hgs;rw[<- z,hbh]at e;cases e;rw[hb3]at hd;cases hd
 have hb:s.heap.BuiltinsAt X.mg P:=⟨bm,_,B.g,B.n1,hbG,hbP,hbh,hb1,hb2,hb3⟩;have hcl:=gp (scope:=lscope) (env:=X.env) λn hn=>I.ok.has n (hfree n hn);refine PySem.W.kla_eval hdef ?_
 cases hca:codeAmong lpos ps.toList with
 |some cv=>obtain⟨a,rfl,hne,ha⟩:=hcs lpos cv hca;refine PySem.W.kla_makeFunctionHit (mg:=X.mg) hcl I.ok.glob hgs hcode C hPo htr hca hb λctv h' tk hk hsz=>?_;have kp:∀b u,s.heap.get? b=some u->(h'.push {cls:=.type "function",data:=.func (PySem.W.kla_fn "<lambda>" (X.env.qual ++ "<lambda>") params body lscope (cI X.env.cells lscope.names []) ((X.mg "__name__").getD .none) (.ref a) ctv)}).get? b=some u:=λb u e=>Uv _ (hk b u e);exact k h'.objs.size _ a _ ctv H _ (I.kept (t':=tk) kp) (UA _ rfl) rfl (I.hok.fresh hsz) ha tb (aT.refl _)
 |none=>
  refine PySem.W.kla_makeFunction (mg:=X.mg) hcl I.ok.glob hgs hcode C hPo htr hca hgP hb λc' ctv h' tk hx hge hlt hrec htb=>?_;have hc0:H c'=none:=I.hok.fresh hge;have hcP:c'≠P:=λz=>by rw[z,hP]at hc0;cases hc0
  have hf0:H h'.objs.size=none:=I.hok.fresh (WL (Nat.lt_of_le_of_lt hge hlt));have hsz:s.heap.objs.size<=h'.objs.size:=WL (Nat.lt_of_le_of_lt hge hlt);have hfc:h'.objs.size≠c':=WN hlt;have hfP:h'.objs.size≠P:=λz=>by rw[<- z,hf0]at hP;cases hP
  have kp:∀b u,b≠P->s.heap.get? b=some u->(h'.push (PySem.W.kla_obj "<lambda>" (X.env.qual ++ "<lambda>") params body lscope (cI X.env.cells lscope.names []) ((X.mg "__name__").getD .none) c' ctv)).get? b=some u:=λb u n e=>Uv _ (hx b u n e);have hPn:(h'.push (PySem.W.kla_obj "<lambda>" (X.env.qual ++ "<lambda>") params body lscope (cI X.env.cells lscope.names []) ((X.mg "__name__").getD .none) c' ctv)).get? P=some (PySem.W.tabObj (ps++#[rawInt lpos.line,rawInt lpos.col,.ref c'])):=Uv _ htb;have hrecn:recAt c' (X.env.qual ++ "<lambda>") (h'.push (PySem.W.kla_obj "<lambda>" (X.env.qual ++ "<lambda>") params body lscope (cI X.env.cells lscope.names []) ((X.mg "__name__").getD .none) c' ctv)):=by obtain⟨c1,oc,vs,t,e,e1,e2,e3⟩:=hrec;cases e;exact⟨c',oc,vs,t,rfl,Uv _ e1,e2,e3⟩
  have hfn:(h'.push (PySem.W.kla_obj "<lambda>" (X.env.qual ++ "<lambda>") params body lscope (cI X.env.cells lscope.names []) ((X.mg "__name__").getD .none) c' ctv)).get? h'.objs.size=some (PySem.W.kla_obj "<lambda>" (X.env.qual ++ "<lambda>") params body lscope (cI X.env.cells lscope.names []) ((X.mg "__name__").getD .none) c' ctv):=UA _ rfl;generalize h'.push (PySem.W.kla_obj "<lambda>" (X.env.qual ++ "<lambda>") params body lscope (cI X.env.cells lscope.names []) ((X.mg "__name__").getD .none) c' ctv)=g at kp hPn hrecn hfn;have nP:∀b,H b=none->b≠P:=λb n z=>by rw[z,hP]at n;cases n
  have J:Inv X pins σ (upd (upd H P (.tbl (ps++#[rawInt lpos.line,rawInt lpos.col,.ref c']))) c' (.ext (recAt c' (X.env.qual ++ "<lambda>")))) {s with heap:=g,gens:=s.gens,drawn:=s.drawn,toks:=tk}:=by
   refine I.step (g':=s.gens) (d':=s.drawn) (t':=tk) (ch:=[]) (λ_ z=>nomatch z) (λb o _ _ _ e n=>kp b o (nP b n) e) (λb o _ _ _ e n=>⟨o.slots,kp b o (nP b n) e⟩) (λb o _ e n=>?_) (λb o _ e=>?_) (λb xs e=>?_) (λb o u e=>?_) (λb qs e=>?_) (λm hm=>?_) (λb u e=>?_) I.bare
   ·have bc:b≠c':=UN (UE (Uz e) hge);rw[ak bc,ak (nP b n)];exact n
   ·by_cases hb':b=P
    ·subst hb';exact⟨_,hPn⟩
    ·exact⟨o,kp b o hb' e⟩
   ·have bP:b≠P:=λz=>by rw[z,hP]at e;cases e
    rw[ak (ay e hc0),ak bP];exact e
   ·have bP:b≠P:=λz=>by rw[z,hP]at e;cases e
    rw[ak (ay e hc0),ak bP];exact e
   ·by_cases hb':b=P
    ·subst hb';rw[hP]at e;cases e;exact⟨_,by rw[ak (WZ hcP),aJ]⟩
    ·exact⟨#[],by rw[ak (ay e hc0),ak hb',e];simp⟩
   ·obtain⟨o,es,ep,ho,r⟩:=hm;exact⟨o,es,ep,kp _ o (nP _ I.free) ho,r⟩
   ·by_cases hbc:b=c'
    ·subst hbc;rw[aJ]at e;cases e;exact recAt.ok hrecn
    ·rw[ak hbc]at e;by_cases hb':b=P
     ·subst hb';rw[aJ]at e;cases e;exact hPn
     ·rw[ak hb']at e;refine(I.hok b u e).oz (λd v hd z=>kp d v ?_ z) (λd z=>?_) λd xs z=>?_
      ·rcases hd with hd|hd
       ·rw[hd];exact hb'
       ·intro y;rw[y,hP]at hd;cases hd
      ·have dP:d≠P:=λy=>by rw[y,hP]at z;cases z
       rw[ak (ay z hc0),ak dP];exact z
      ·have dP:d≠P:=λy=>by rw[y,hP]at z;cases z
       rw[ak (ay z hc0),ak dP];exact z
  have sH:aT (wQ H P) (wQ (upd (upd H P (.tbl (ps++#[rawInt lpos.line,rawInt lpos.col,.ref c']))) c' (.ext (recAt c' (X.env.qual ++ "<lambda>")))) P):=λb o e=>by obtain⟨n1,e1⟩:=Kl e;rw[Cg n1,ak (ay e1 hc0),ak n1];exact e1
  refine k h'.objs.size _ c' _ ctv _ _ J hfn rfl (by rw[ak hfc,ak hfP];exact hf0) aJ ⟨_,by rw[ak (WZ hcP),aJ],?_,λpos d z=>?_⟩ sH
  ·rw[XY];exact yW htr
  ·rw[XY]at z;rcases Ci pos htr z with z|z
   ·obtain⟨a,h1,h2,h3⟩:=hcs pos d z;exact⟨a,h1,h2,by rw[ak (ay h3 hc0),ak h2];exact h3⟩
   ·exact⟨c',z,hcP,aJ⟩
end
structure yX(P:Yt)(w:World)(K:Ym)(mg:Yi)(base:Heap)(x:Str)(ps:Yn)(k:Nat)(sp:Yw->Sp):Prop where
 ex:∃(f:Addr) (fd:FuncData),mg x=some (.ref f)/\PySem.W.keepIn K (.ref f)=true/\Binds K fd ps []/\G6 P w K mg base Fd k f fd ps sp
noncomputable def xS(P:Yt)(w:World)(K:Ym)(mg:Yi)(base:Heap)(k:Nat)(M:(VK->XK->Prop)->VK->Prop):Yw->Sp:=λs vs H Q _=>∃f G,vs=[.ref f]/\NP P w K mg base s H f k G/\M G Q
theorem pC(hh:∀n,(n,NameKind.free)∈names->∃c,cells.lookup n=some c)(h:(cI cells names []).lookup x=some c):(x,NameKind.free)∈names/\cells.lookup x=some c:=by
 by_cases hm:(x,NameKind.free)∈names
 ·rw[dU hm]at h
  grind
 simp_all[jV]
noncomputable def Ko(tb:XK->TE)(idx:List Nat)(P:Addr)(q:Str)(M:(VK->XK->Prop)->VK->Prop):TE:=λσ H Q=>∃vs:List V,vs.length=idx.length/\(∀(j:Nat) (v:V),vs[j]?=some v->∃i,idx[j]?=some i/\σ[i]?=some (some v))/\xR H P q /\
 ∀H1,xR H1 P q->aT (wQ H P) (wQ H1 P)->M (λQ' E'=>tb E' (vs.map some) H1 Q') Q
section
variable {X:Cx}
theorem Fx{lpos p pos:Pos}
 (F:yX X.prog X.w X.K X.mg X.base g [pn] k (xS X.prog X.w X.K X.mg X.base (kl+1) M))(hr:bJ k X.A)(hg:Gl X g)(hcode:X.env.code=.ref c)(ht:PySem.W.codeHdIn X.K c P=true)(B:BMod X.base X.mg bm)
 (S:uP lscope)(hdef:defaultsOf params X.env=([],[]))(hfree:∀n,(n,NameKind.free)∈lscope.names->X.env.kindOf n=some .cell\/X.env.kindOf n=some .free)(hlk:∀x,(x,NameKind.free)∈lscope.names->lscope.names.lookup x=some .free)
 (hbind:∀clos pm c' ctv,bindArgs (PySem.W.kla_fn "<lambda>" (X.env.qual ++ "<lambda>") params body lscope clos pm (.ref c') ctv) ⟨[],[]⟩=pure [])
 (hN2:N2.length=idx.length)(hix:∀(j:Nat) (x:Str),N2[j]?=some x->∃i,idx[j]?=some i/\X.N[i]?=some x/\(x,NameKind.free)∈lscope.names)
 (hbody:∀(f c':Addr) (clos:List (Str×Addr)) (A:Yv) (outer:List Env) (s:Yw) (H:Hp) (E:XK),bJ kl (A.deeper (kC (X.env.qual ++ "<lambda>") lscope s.heap.objs.size f (.ref c') clos))->PE (xQ X.prog X.w X.K X.mg X.base N2 (X.env.qual ++ "<lambda>") lscope f (.ref c') clos A outer s H E) body (tb E))
 (hdb:(g==("__debug__" : Str))=false:=by decide)(hs:starEach [.Lambda params body lscope lpos] X.env=(false,eval (.Lambda params body lscope lpos) X.env)::starEach [] X.env:=by rfl) :
  PE X (.Call (.Name g p) [.Lambda params body lscope lpos] [] pos) (Ko tb idx P (X.env.qual ++ "<lambda>") M):=by
 obtain⟨fg,fd,hm,hk,hb,FS⟩:=F.ex;rintro pins s σ H Q I ⟨vs,hvl,hvs,tab,km⟩;refine Vg (kz I hg hm ?_ hdb);refine Xk (h₀:=X.base) I.ok.mod.kin hk ?_ hs rfl;rw[hs];refine Wa (Hd I hcode ht B tab hdef hfree λf o c' pm ctv H1 s1 I1 ho hd hf0 hc' tab1 sH=>?_);refine WT ⟨I1.qb,?_⟩;have hh:∀n,(n,NameKind.free)∈lscope.names->∃c,X.env.cells.lookup n=some c:=λn hn=>I1.ok.has n (hfree n hn)
 have LC:NP X.prog X.w X.K X.mg X.base s1 H1 f (kl+1) (λQ' E'=>tb E' (vs.map some) H1 Q'):=by
  refine⟨⟨o,_,ho,hd⟩,hf0,λA outer s2 fs Q' E' hr' e0 un hG=>?_⟩;have no:∀b:Addr,b∉([]:Yk):=λb z=>nomatch z;obtain⟨sl,e1⟩:=un.any ho hf0 (no f);have cellU:∀x cc v,X.env.cells.lookup x=some cc->s1.heap.IsCell cc v->s2.heap.IsCell cc v:=by rintro x cc v hx ⟨ob,eo,dd⟩;obtain⟨sl',e'⟩:=un.any eo (I1.freeC x cc hx) (no cc);exact⟨_,e',dd⟩
  obtain⟨rec,_⟩:=(show bM X.prog X.w H1 s2.heap c' (.ext (recAt c' (X.env.qual ++ "<lambda>")))from e0.hok c' _ hc');refine Kk (N:=N2) (vs:=vs) (t:=tb E') (o:={o with slots:=sl}) S hr' e0 e1 hd rec (hbind _ _ _ _) (λx y cc h1 h2=>?_) (λx hx=>?_) (λx cc h1=>?_) (by rw[hN2,hvl]) (λj x v h1 h2=>?_) (hbody f c' _ A outer s2 H1 E') hG
  ·exact I1.ok.inj x y cc (pC hh h1).2 (pC hh h2).2
  ·have hm':=Vp hx;obtain⟨cc,e⟩:=hh x hm';exact⟨cc,by rw[dU hm',e];rfl⟩
  ·have hx:=(pC hh h1).2;obtain⟨v,hv⟩:=I1.cell x cc hx;exact⟨⟨v,cellU x cc v hx hv⟩,I1.freeC x cc hx⟩
  ·obtain⟨i,hi,hNi,hmx⟩:=hix j x h1;obtain⟨i',hi',hσ⟩:=hvs j v h2;rw[hi]at hi';cases hi';obtain⟨m,hns,hl⟩:=I1.loc;have vis:Gq X.env.scope x:=(hfree x hmx).elim (λz=>.inr (.inl z)) (λz=>.inr (.inr z));obtain⟨u,rv,look⟩:=hl i x v hNi hσ vis;refine⟨hlk x hmx,?_⟩;rcases look with⟨kl',_⟩|⟨_,cc,hc,hcell⟩
   ·rcases hfree x hmx with z|z
    ·rw[kl']at z;cases z
    ·rw[kl']at z;cases z
   ·exact⟨cc,u,by rw[dU hmx,hc];rfl,cellU x cc _ hc hcell,rv⟩
 have hsp:xS X.prog X.w X.K X.mg X.base (kl+1) M s1 [.ref f] H1 Q E0:=⟨f,_,rfl,LC,km H1 tab1 sH⟩;have r2:Vals [V.ref f] [Value.ref f]:=.cons rfl .nil;have hl:([Value.ref f]++[]).length=[pn].length:=rfl;refine XT (WO (FS.run X.A X.stack s1 H1 ⟨[.ref f],[]⟩ ([.ref f]++[]) [.ref f] Q E0 hr I1.JT (hb s1 [.ref f] I1.qb hl) r2 hsp) λr s' hq=>?_)
 cases r with
 |error e=>exact hq.elim
 |ok fl=>
  cases fl with
  |ret u=>exact I1.after hq
  |next=>exact False.elim hq
  |brk=>exact False.elim hq
  |cont=>exact False.elim hq
end
end L2
namespace PySem.SeqAt
open PySem PySem.MeetsSeq PySem.AutoSeq1
theorem uQ(b:Str)(u:Tok)(l:Addr)(es:Yq)(n:Nat)(dd:Option Addr)(sl:Yp) :
  Meets (Builtin.«str.__eq__» ⟨[.str b u,.ref l],[]⟩) (λ_ R s=>s.heap.get? l=some {cls:=.type "dict",dict:=dd,data:=.dict es n,slots:=sl}/\R (.ok (.ret .notImplemented)) s):=
 .of_wp λprog w A R s h=>by
  obtain⟨hl,h⟩:=h
  wp_walk using wpAny_loadPart' hl,Xs hl
  grind
theorem uR(b:Str)(u:Tok)(l:Addr)(es:Yq)(n:Nat)(dd:Option Addr)(sl:Yp) :
  Meets (Builtin.«dict.__eq__» ⟨[.ref l,.str b u],[]⟩) (λ_ R s=>s.heap.get? l=some {cls:=.type "dict",dict:=dd,data:=.dict es n,slots:=sl}/\R (.ok (.ret .notImplemented)) s):=
 .of_wp λprog w A R s h=>by
  obtain⟨hp,g,d,tk,os⟩:=s;obtain⟨hl,h⟩:=h;have f1:=F.sub_str_dict
  wp_walk using wpAny_loadPart' hl,Xs hl
  exact⟨_,rfl,h⟩
theorem EqAt.Kp(b:Str)(u:Tok)(hl:s.heap.get? l=some {cls:=.type "dict",dict:=dd,data:=.dict es n,slots:=sl})(hu:A.units<cLine):EqAt A s (.str b u) (.ref l) false:=λprog w E Q h=>by
 refine Va (VR (λhab=>absurd (eq_of_beq hab) nofun) (λ_=>Uu ?_))
 refine rc_eq_decline_or (typeIs_str s b u) ⟨_,hl,rfl⟩ (by decide) F.sub_dict_str F.slot_str_eq Xa
  (λ_ hq=>WD F.slot_str_eq (typeIs_str s b u) F.entry_str_eq (F.args_str_eq_2 _ _) (uQ b u l es n dd sl) ⟨hl,hq⟩)
  (λ_ hq=>WD Xa ⟨_,hl,rfl⟩ F.entry_dict_eq (F.args_dict_eq_2 _ _) (uR b u l es n dd sl) ⟨hl,hq⟩)
  (λ_ hq=>W9 (rfl:isSame _ _=pure false) hq) (.inr hu) (VB h)
end PySem.SeqAt
set_option maxHeartbeats 4000000
namespace PySem.W
open PySem PySem.Calls PyProof.Rows
noncomputable def KasT.Run{α:Type}(lt:Nat->Nat->Bool)(n:Nat):KasT α->(α->Prop)->Prop
 |.ret a,P=>P a
 |.ask i j k,P=>i<n/\j<n/\(k (lt i j)).Run lt n P
theorem KasT.run_bind{P:β->Prop} :
  ∀(t:KasT α),t.Run lt n (λa=>(f a).Run lt n P)->(t.bind f).Run lt n P
 |.ret _,h=>h
 |.ask _ _ k,h=>⟨h.1,h.2.1,KasT.run_bind (k _) h.2.2⟩
theorem KasT.e9{P Q:α->Prop}(hq:∀a,P a->Q a) :
  ∀(t:KasT α),t.Run lt n P->t.Run lt n Q
 |.ret a,h=>hq a h
 |.ask _ _ k,h=>⟨h.1,h.2.1,KasT.e9 hq (k _) h.2.2⟩
theorem KasT.He{Q:α->Yw->Prop}{I:Yw->Prop}
 (hc:∀i j C s,i<n->j<n->I s->(∀s',I s'->C (lt i j) s')->cmp i j C s)(hq:∀a s,P a->I s->Q a s) :
  ∀(t:KasT α) (s:Yw),t.Run lt n P->I s->t.kasWp cmp Q s
 |.ret a,s,h,hi=>hq a s h hi
 |.ask i j k,s,h,hi=>hc i j _ s h.1 h.2.1 hi (λs' hs'=>KasT.He hc hq (k _) s' h.2.2 hs')
structure oA(lt:Nat->Nat->Bool)(n:Nat):Prop where
 as:∀a b,a<n->b<n->lt a b=true->lt b a=false
 tr:∀a b c,a<n->b<n->c<n->lt b a=false->lt c b=false->lt c a=false
abbrev pat(p:Ys)(k:Nat):Nat:=p.getD k 0
theorem me(p:Ys)(k:Nat):pat p k=p[k]?.getD 0:=by simp
structure cn(n:Nat)(p:Ys):Prop where
 perm:p.toList.Perm (List.range n)
theorem cn.size(h:cn n p):p.size=n:=by
 have:=h.perm.length_eq
 grind
theorem cn.lt(h:cn n p)(hk:k<n):pat p k<n:=by
 have hs:k<p.size:=by simp_all[h.size]
 have e:pat p k=p[k]:=by simp_all
 rw[e];have:p[k]∈p.toList:=by simp
 exact Vf.mp (h.perm.mem_iff.mp this)
theorem cn.of(h:cn n p)(e:q.Perm p):cn n q:=
 ⟨(Array.perm_iff_toList_perm.mp e).trans h.perm⟩
theorem cn.rev(h:cn n p)(i j:Nat):cn n (kas_rev p i j):=h.of (mirror_perm _ _ _ _)
theorem jb(h:cn n p)(hj:j<=n)(k:Nat) :
  pat (kas_rev p i j) k=if i<=k/\k<j then pat p (i+j-1-k)else pat p k:=by
 rw[me];unfold kas_rev;rw[getElem?_mirror_all (by simp_all[h.size])];split<;>rw[me]
theorem DF(h:cn n p)(hk:k<n)(hd:d<=k)(i:Nat) :
  pat (bubble p k d) i=if i=k-d then pat p k else if k-d<i/\i<=k then pat p (i-1)else pat p i:=by
 rw[me,getElem?_bubble (by simp_all[h.size]) d hd];split
 ·simp
 ·split<;>rw[me]
section
variable {lt:Nat->Nat->Bool} {n:Nat}
noncomputable def Az(lt:Nat->Nat->Bool)(p:Ys)(m:Nat):Prop:=∀i j,i<j->j<m->lt (pat p j) (pat p i)=false
noncomputable def jc(lt:Nat->Nat->Bool)(p:Ys)(m:Nat):Prop:=∀i j,i<j->j<m->lt (pat p i) (pat p j)=false
theorem oA.Me(O:oA lt n)(hx:x<n):lt x x=false:=by
 cases hh:lt x x with
 |false=>rfl
 |true=>have:=O.as _ _ hx hx hh;grind
theorem Az.more(O:oA lt n)(hp:cn n p)(h1:1<=m)(hm:m<n)(u:Az lt p m)(h:lt (pat p m) (pat p (m-1))=false):Az lt p (m+1):=by
 intro i j hij hj;rcases Wd j m with h'|h'
 ·exact u i j hij h'
 ·obtain rfl:j=m:=by omega
  rcases Wd i _ with h''|h''
  ·exact O.tr _ _ _ (hp.lt (by omega)) (hp.lt (by omega)) (hp.lt hm) (u i _ h'' (by omega)) h
  ·obtain rfl:i=j-1:=by omega
   exact h
theorem jc.more(O:oA lt n)(hp:cn n p)(h1:1<=m)(hm:m<n)(u:jc lt p m)(h:lt (pat p (m-1)) (pat p m)=false):jc lt p (m+1):=by
 intro i j hij hj;rcases Wd j m with h'|h'
 ·exact u i j hij h'
 ·obtain rfl:j=m:=by omega
  rcases Wd i _ with h''|h''
  ·exact O.tr _ _ _ (hp.lt hm) (hp.lt (by omega)) (hp.lt (by omega)) h (u i _ h'' (by omega))
  ·obtain rfl:i=j-1:=by omega
   exact h
theorem yY(O:oA lt n)(hp:cn n p):∀(f m:Nat),1<=m->m+f<=n->Az lt p m ->
  (kas_asc p f m).Run lt n (λr=>m<=r/\r<=m+f/\Az lt p r/\(r<m+f->lt (pat p r) (pat p (r-1))=true))
 |0,m,h1,hm,u=>⟨Uy _,Uy _,u,λh=>absurd h (UT _)⟩
 |f+1,m,h1,hm,u=>by
  refine⟨hp.lt (by omega),hp.lt (by omega),?_⟩
  cases hc:lt _ _ with
  |true=>exact⟨Uy _,by omega,u,λ_=>hc⟩
  |false=>
   have hc':=hc;refine KasT.e9 (λr hr=>?_) _ (yY O hp f _ (by omega) (by omega) (u.more O hp h1 (by omega) hc'))
   grind
noncomputable def Rf(lt:Nat->Nat->Bool)(p:Ys)(a b:Nat):Prop:=∀i j,a<=i->i<b->a<=j->j<b->lt (pat p i) (pat p j)=false
theorem uS(hp:cn n p)(hb:b<=m)(hm:m<=n)(d:jc lt p m)(e:Rf lt p a b):jc lt (kas_rev p a b) m:=by
 intro i j hij hj;rw[jb hp (by omega),jb hp (by omega)];split
 ·split
  ·exact e _ _ (by omega) (by omega) (by omega) (by omega)
  ·exact d _ _ (by omega) (by omega)
 ·split
  ·exact d _ _ (by omega) (by omega)
  ·exact d _ _ hij hj
theorem NQ(hp:cn n p)(hm:m<=n)(d:jc lt p m):Az lt (kas_rev p 0 m) m:=by intro i j hij hj;rw[jb hp hm,jb hp hm,if_pos (by omega),if_pos (by omega)];exact d _ _ (by omega) (by omega)
theorem jc.zero:jc lt p 1:=λi j h h'=>by omega
theorem qo(O:oA lt n):∀(f:Nat) (p:Ys) (m q:Nat),cn n p->q+1<=m->m+f<=n->jc lt p m->Rf lt p (m-(q+1)) m ->
  (kas_desc f p m q).Run lt n (λr=>cn n r.1/\r.2.2+1<=r.2.1/\r.2.1<=m+f/\jc lt r.1 r.2.1/\Rf lt r.1 (r.2.1-(r.2.2+1)) r.2.1)
 |0,p,m,q,hp,hq,hm,d,e=>⟨hp,hq,Uy _,d,e⟩
 |f+1,p,m,q,hp,hq,hm,d,e=>by
  refine⟨hp.lt (by omega),hp.lt (by omega),?_⟩
  cases hc:lt (p.getD m 0) (p.getD (m-1) 0)with
  |true=>
   simp only[Vu];have h1:lt (pat p (m-1)) (pat p m)=false:=O.as _ _ (hp.lt (by omega)) (hp.lt (by omega)) hc;split
   ·have hd2:=uS (n:=n) hp (Uy m) (by omega) d e;have hp2:=hp.rev (m-(q+1)) m;refine KasT.e9 (λr hr=>⟨hr.1,hr.2.1,by have:=hr.2.2.1;omega,hr.2.2.2⟩) _ (qo O f _ (m+1) 0 hp2 (by omega) (by omega) ?_ ?_)
    ·refine hd2.more O hp2 (by omega) (by omega) ?_;rw[jb hp (by omega),jb hp (by omega),if_pos (by omega),if_neg (by omega)];refine O.tr _ _ _ (hp.lt (by omega)) (hp.lt (by omega)) (hp.lt (by omega)) h1 ?_;exact e _ _ (by omega) (by omega) (by omega) (by omega)
    ·intro i j h1 h2 h3 h4;obtain rfl:i=m:=by omega
     obtain rfl:j=i:=by omega
     exact O.Me (hp2.lt (by omega))
   ·refine KasT.e9 (λr hr=>⟨hr.1,hr.2.1,by have:=hr.2.2.1;omega,hr.2.2.2⟩) _ (qo O f _ (m+1) 0 hp (by omega) (by omega) (d.more O hp (by omega) (by omega) h1) ?_);intro i j h1 h2 h3 h4;obtain rfl:i=m:=by omega
    obtain rfl:j=i:=by omega
    exact O.Me (hp.lt (by omega))
  |false=>
   simp only[UK,Vr];refine⟨hp.lt (by omega),hp.lt (by omega),?_⟩
   cases hc2:lt (p.getD (m-1) 0) (p.getD m 0)with
   |true=>simp only[Vu];exact⟨hp,hq,by show m<=_;omega,d,e⟩
   |false=>
    simp only[UK,Vr];refine KasT.e9 (λr hr=>⟨hr.1,hr.2.1,by have:=hr.2.2.1;omega,hr.2.2.2⟩) _ (qo O f _ (m+1) (q+1) hp (by omega) (by omega) (d.more O hp (by omega) (by omega) hc2) ?_);have Me:lt (pat p m) (pat p m)=false:=by exact O.Me (hp.lt (by omega))
    intro i j h1 h2 h3 h4;rcases Wd i m with hi|hi
    ·rcases Wd j m with hj|hj
     ·exact e _ _ (by omega) hi (by omega) hj
     ·obtain rfl:j=m:=by omega
      exact O.tr _ _ _ (hp.lt (by omega)) (hp.lt (show j-1<n by omega)) (hp.lt (by omega)) hc2 (e _ _ (by omega) hi (by omega) (by omega))
    ·obtain rfl:i=m:=by omega
     rcases Wd j i with hj|hj
     ·exact O.tr _ _ _ (hp.lt (by omega)) (hp.lt (show i-1<n by omega)) (hp.lt (by omega)) (e _ _ (by omega) (by omega) (by omega) hj) hc
     ·obtain rfl:j=i:=by omega
      exact Me
noncomputable def Hf(lt:Nat->Nat->Bool)(n:Nat)(r:Nat×Ys):Prop:=cn n r.2/\1<=r.1/\r.1<=n/\Az lt r.2 r.1
theorem xT(O:oA lt n)(hp:cn n p)(h1:1<=m)(hm:m<=n)(d:jc lt p m):(kas_tail3 m n p).Run lt n (Hf lt n):=by refine KasT.run_bind _ (KasT.e9 (λr hr=>?_) _ (yY O (hp.rev 0 m) _ m h1 (by omega) (NQ hp hm d)));exact⟨hp.rev 0 m,by omega,by omega,hr.2.2.1⟩
theorem qp(O:oA lt n)(hp:cn n p)(h1:1<=m)(hm:m<n)(d:jc lt p (m+1)):(kas_descPart m n p).Run lt n (Hf lt n):=by
 refine KasT.run_bind _ (KasT.e9 (λr hr=>?_) _ (qo O _ p _ 0 hp (by omega) (by omega) d ?_))
 ·split
  ·exact xT O (hr.1.rev _ _) (by omega) (by omega) (uS hr.1 (Uy _) (by omega) hr.2.2.2.1 hr.2.2.2.2)
  ·exact xT O hr.1 (by omega) (by omega) hr.2.2.2.1
 ·intro i j h1 h2 h3 h4;obtain rfl:j=i:=by omega
  exact O.Me (hp.lt (by omega))
theorem Fy(O:oA lt n)(hp:cn n p)(h1:1<=n):(kas_count n p).Run lt n (Hf lt n):=by
 unfold kas_count;refine KasT.run_bind _ (KasT.e9 (λr hr=>?_) _ (yY O hp (n-1) 1 (Uy _) (by omega) λi j h h'=>by omega));obtain⟨hr1,hr2,up,st⟩:=hr;split
 ·exact⟨hp,hr1,by omega,up⟩
 ·rename_i hne
  have hlt:r<n:=by
   grind
  have hs:=st (by omega);split
  ·rename_i hgt;refine⟨hp.lt (by omega),hp.lt (by omega),?_⟩;dsimp only;split
   ·exact⟨hp,hr1,by show r<=n;omega,up⟩
   ·rename_i hc;have hc:lt (pat p 0) (pat p (r-1))=false:=by simpa using hc
    have eqs:Rf lt p 0 r:=by
     have lo:∀i,i<r->lt (pat p i) (pat p 0)=false:=λi hi=>by
      rcases Nat.eq_zero_or_pos i with rfl|h
      ·exact O.Me (hp.lt (by omega))
      ·exact up 0 i h hi
     have hi:∀i,i<r->lt (pat p (r-1)) (pat p i)=false:=λi hi=>by
      rcases Wd i (r-1)with h|h
      ·exact up i (r-1) h (by omega)
      ·obtain rfl:i=r-1:=by omega
       exact O.Me (hp.lt (by omega))
     intro i j _ h2 _ h4;have a1:lt (pat p 0) (pat p j)=false:=O.tr _ _ _ (hp.lt (by omega)) (hp.lt (show r-1<n by omega)) (hp.lt (by omega)) (hi j h4) hc;exact O.tr _ _ _ (hp.lt (by omega)) (hp.lt (show 0<n by omega)) (hp.lt (by omega)) a1 (lo i h2)
    have dn:jc lt (kas_rev p 0 r) r:=uS hp (Uy r) (by omega) (λi j h h'=>eqs _ _ (by omega) (by omega) (by omega) h') eqs;refine qp O (hp.rev 0 r) (by omega) hlt (dn.more O (hp.rev 0 r) (by omega) hlt ?_);rw[jb hp (by omega),jb hp (by omega),if_pos (by omega),if_neg (by omega)];refine O.tr _ _ _ (hp.lt (by omega)) (hp.lt (show r-1<n by omega)) (hp.lt (by omega)) (O.as _ _ (hp.lt (by omega)) (hp.lt (by omega)) hs) ?_;exact eqs _ _ (by omega) (by omega) (by omega) (by omega)
  ·obtain rfl:r=1:=by omega
   exact qp O hp (by omega) hlt ((jc.zero).more O hp (by omega) hlt (O.as _ _ (hp.lt (by omega)) (hp.lt (by omega)) hs))
theorem rT(O:oA lt n)(hp:cn n p)(hk:k<n)(u:Az lt p k):∀(f l r:Nat),l<=r->r<=k->r-l<=f ->
  (∀i,i<l->lt (pat p k) (pat p i)=false)->(∀i,r<=i->i<k->lt (pat p i) (pat p k)=false) ->
  (kas_place p k f l r).Run lt n (λm=>m<=k/\(∀i,i<m->lt (pat p k) (pat p i)=false)/\(∀i,m<=i->i<k->lt (pat p i) (pat p k)=false))
 |0,l,r,h1,h2,h3,a,b=>⟨by omega,a,λi hi=>b i (by omega)⟩
 |f+1,l,r,h1,h2,h3,a,b=>by
  unfold kas_place;split
  ·exact⟨by omega,a,λi hi=>b i (by omega)⟩
  ·rename_i hlr;refine⟨hp.lt hk,hp.lt (by omega),?_⟩;dsimp only;split
   ·rename_i hc;refine rT O hp hk u f l ((l+r) / 2) (by omega) (by omega) (by omega) a λi hi hik=>?_;have hm:lt (pat p ((l+r) / 2)) (pat p k)=false:=O.as _ _ (hp.lt hk) (hp.lt (by omega)) hc;rcases Wd ((l+r) / 2) i with h|h
    ·exact O.tr _ _ _ (hp.lt hk) (hp.lt (show(l+r) / 2<n by omega)) (hp.lt (by omega)) hm (u _ _ h hik)
    ·obtain rfl:i=(l+r) / 2:=by omega
     exact hm
   ·rename_i hc;have hc:lt (pat p k) (pat p ((l+r) / 2))=false:=by simpa using hc
    refine rT O hp hk u f ((l+r) / 2+1) r (by omega) h2 (by omega) (λi hi=>?_) b;rcases Wd i ((l+r) / 2)with h|h
    ·exact O.tr _ _ _ (hp.lt (by omega)) (hp.lt (show(l+r) / 2<n by omega)) (hp.lt hk) (u _ _ h (by omega)) hc
    ·obtain rfl:i=(l+r) / 2:=by omega
     exact hc
theorem DH(O:oA lt n):∀(f:Nat) (p:Ys) (k:Nat),cn n p->k+f=n->Az lt p k->(kas_bin f p k).Run lt n (λp=>cn n p/\Az lt p n)
 |0,p,k,hp,hk,u=>⟨hp,by grind⟩
 |f+1,p,k,hp,hk,u=>by
  unfold kas_bin;refine KasT.run_bind _ (KasT.e9 (λm hm=>?_) _ (rT O hp (by omega) u k 0 k (V4 _) (Uy _) (by omega) (λi h=>by omega) (λi h h'=>by omega)));obtain⟨hmk,lo,hi⟩:=hm;refine DH O f _ (k+1) (hp.of (bubble_perm _ _ _)) (by omega) ?_;intro i j hij hj;have hd:k-(k-m)=m:=by omega
  rw[DF hp (by omega) (by omega),DF hp (by omega) (by omega),hd];by_cases j1:j=m
  ·grind
  ·rw[if_neg j1];by_cases i1:i=m
   ·rw[if_pos i1,if_pos (by omega)];exact hi _ (by omega) (by omega)
   ·rw[if_neg i1];by_cases j2:m<j/\j<=k
    ·rw[if_pos j2];by_cases i2:m<i/\i<=k
     ·rw[if_pos i2];exact u _ _ (by omega) (by omega)
     ·rw[if_neg i2];exact u _ _ (by omega) (by omega)
    ·rw[if_neg j2,if_neg (by omega)];exact u _ _ hij (by omega)
theorem Hg(O:oA lt n)(h:1<=n):(kas_sort n).Run lt n (λp=>cn n p/\Az lt p n):=by
 refine KasT.run_bind _ (KasT.e9 (λr hr=>?_) _ (Fy O ⟨List.Perm.refl _⟩ h));obtain⟨hp,h1,h2,u⟩:=hr;split
 ·have:max r.1 1=r.1:=by omega
  rw[this];exact DH O _ _ _ hp (by omega) u
 ·refine⟨hp,?_⟩
  grind
end
end PySem.W
set_option maxHeartbeats 4000000
namespace PySem.W
open PySem PySem.Calls PyProof.Rows
section
variable {prog:Yt} {w:World} {A:Yv} {E:Ye} {s:Yw}
noncomputable def Hh(prog:Yt)(w:World)(A:Yv)(vs:Yl)(lt:Nat->Nat->Bool)(s:Yw):Prop:=
 wpAny (model prog w) A (keyKind' vs.toArray) (λκ s'=>s'=s/\∀i j C,i<vs.length->j<vs.length->C (lt i j) s ->
  wpAny (model prog w) A (keyLt' κ (vs.getD i Value.none) (vs.getD j Value.none)) C (λ_ _=>False) s) (λ_ _=>False) s
theorem Kq{vs:Yl}(hl:vs.length<2):(vs.toArray.zip vs.toArray).map (·.2)=(((List.range vs.length).toArray).toList.map λi=>vs.getD i Value.none).toArray:=by
 rcases vs with _|⟨x,_|⟨y,vs⟩⟩
 ·simp
 ·simp[List.range_succ]
 ·simp only[UR]at hl;omega
theorem oR(ho:s.heap.get? a=some (seqObj "list" vs.toArray n))
 (O:oA lt vs.length)(h64:vs.length<64)
 (hk:∀h',(∀b o,b≠a->s.heap.get? b=some o->h'.get? b=some o)->2<=vs.length->Hh prog w A vs lt {s with heap:=h'})
 (h:∀p:Ys,cn vs.length p->Az lt p vs.length->P (.done (.ret .none)) {s with heap:=sortedHeap s.heap a vs (p.toList.map λi=>vs.getD i Value.none).toArray}) :
  wpAny (model prog w) A (Builtin.«list.sort» ⟨[.ref a],[]⟩) P E s:=by
 rw[list_sort_plain];have ha:a<s.heap.objs.size:=Uz ho;refine Uu (listItems_at ho rfl ?_);refine Uu (listUpdate_at ho rfl ?_);obtain⟨e1,ho1⟩:∃e1,(s.heap.update a (Obj.mapSeq λ_=>#[])).get? a=some (seqObj "list" #[] e1):=⟨_,get?_update_seq ho (λ_=>#[])⟩;refine Uu (seqEpoch_at ho1 rfl ?_);refine Uu (wpAny_newTuple ?_);refine Uu (wpAny_newList ?_);refine Va ?_;have ho6:(((s.heap.update a (Obj.mapSeq λ_=>#[])).push (seqObj "tuple" vs.toArray 0)).push (seqObj "list" #[] 0)).get? a=some (seqObj "list" #[] e1):=by rw[Wn _ _ _ (by rw[size_push',W7];exact UN (VM ha)),Wn _ _ _ (by rw[W7];exact UN ha)];exact ho1
 show wpAny (model prog w) A _ P E {s with heap:=((s.heap.update a (Obj.mapSeq λ_=>#[])).push (seqObj "tuple" vs.toArray 0)).push (seqObj "list" #[] 0)};dsimp only;by_cases h2:vs.toArray.size<2
 ·rw[if_pos h2,if_pos h2];refine Uu (Uw ?_);rw[StateT.run_pure];refine Uu (Uw ?_);dsimp only;refine Uu (seqEpoch_at ho6 rfl ?_);refine Uu (listUpdate_at ho6 rfl ?_ (hsz2:=by rw[Array.size_map];show(pairsOf vs).size<=_;rw[pairsOf_size,VJ];omega));simp only[bne_self_eq_false,UK,Vr];have hl:vs.length<2:=by simpa using h2
  have e:(arrOf (SortSt.mk' general' (vs.toArray.zip vs.toArray) #[] 7 none)).map (·.2)=(((List.range vs.length).toArray).toList.map λi=>vs.getD i Value.none).toArray:=by show(vs.toArray.zip vs.toArray).map (·.2)=_;exact Kq hl
  rw[e];exact Uw (h _ ⟨List.Perm.refl _⟩ λi j h1 h2=>by omega)
 ·rw[if_neg h2,if_neg h2];have hl:2<=vs.length:=by simp at h2;exact h2
  refine Uu (VA (hk _ (λb o hb q=>?_) hl) (λκ s' hκ=>?_) λ_ _ x=>x.elim)
  ·have hbs:b<s.heap.objs.size:=Uz q;rw[Wn _ _ _ (by rw[size_push',W7];exact UN (VM hbs)),Wn _ _ _ (by rw[W7];exact UN hbs),Heap.get?_update_ne _ _ _ _ hb];exact q
  ·obtain⟨rfl,hc⟩:=hκ
   refine Uu (VA (kat_run (E:=E) (vs:=vs) (ks:=vs) (κ:=κ) (G:=λp s'=>s'={s with heap:=((s.heap.update a (Obj.mapSeq λ_=>#[])).push (seqObj "tuple" vs.toArray 0)).push (seqObj "list" #[] 0)}/\cn vs.length p/\Az lt p vs.length)
    (Q:=λst' s'=>s'={s with heap:=((s.heap.update a (Obj.mapSeq λ_=>#[])).push (seqObj "tuple" vs.toArray 0)).push (seqObj "list" #[] 0)}/\failedOf st'=none/\∃p,cn vs.length p/\Az lt p vs.length/\(arrOf st').map (·.2)=List.toArray (p.toList.map λi=>vs.getD i Value.none))
    rfl hl h64 (λp st' s' a1 a2 a3 a4=>⟨a4.1,a3,p,a4.2.1,a4.2.2,kat_snds rfl a2⟩) ?_) ?_ λ_ _ e=>e)
   ·refine KasT.He (lt:=lt) (n:=vs.length) (P:=λp=>cn vs.length p/\Az lt p vs.length) (I:=λs'=>s'={s with heap:=((s.heap.update a (Obj.mapSeq λ_=>#[])).push (seqObj "tuple" vs.toArray 0)).push (seqObj "list" #[] 0)}) ?_ ?_ _ _ (Hg O (by omega)) rfl
    ·rintro i j C s' hi hj rfl q;exact hc i j C hi hj (q _ rfl)
    ·rintro p s' hp rfl;exact⟨rfl,hp⟩
   ·rintro⟨⟨⟩,st'⟩ s' ⟨rfl,hf,p,hp,hu,e⟩;dsimp only at hf e ⊢;rw[e];refine Uu (seqEpoch_at ho6 rfl ?_);refine Uu (listUpdate_at ho6 rfl ?_ (hsz2:=by rw[UG,US,Vo,hp.size,VJ];omega));rw[hf];simp only[bne_self_eq_false,UK,Vr];exact Uw (h p hp hu)
theorem uT(hl:s.heap.IsList l vs.toArray)(O:oA lt vs.length)(h64:vs.length<64)
 (hk:∀h',(∀b o,s.heap.get? b=some o->h'.get? b=some o)->2<=vs.length->Hh prog w A.in1.in1 vs lt {s with heap:=h'})
 (h:∀p:Ys,cn vs.length p->Az lt p vs.length->Q (.ref (s.heap.objs.size+1)) {s with heap:=sortedAll s.heap vs (p.toList.map λi=>vs.getD i Value.none).toArray}) :
  wpAny (model prog w) A (call (.builtin "sorted") [.ref l]) Q E s:=by
 refine Calls.call_function_entry kind_sorted plain_sorted entry_sorted (args_sorted1 _) ?_;unfold Builtin.«sorted»;refine Uu (m:=checkCount "sorted" 1 1 _) (Uw ?_);refine Uu (collect_list hl ?_);refine Uu (wpAny_newList ?_);have hsz:((s.heap.push (seqObj "list" #[] 0)).update s.heap.objs.size (Obj.mapSeq (·++vs.toArray))).objs.size=s.heap.objs.size+1:=by rw[W7,size_push']
 have hoL:(((s.heap.push (seqObj "list" #[] 0)).update s.heap.objs.size (Obj.mapSeq (·++vs.toArray))).push (seqObj "list" vs.toArray 0)).get? (s.heap.objs.size+1)=some (seqObj "list" vs.toArray 0):=by rw[<- hsz];exact UA _ rfl
 show wpAny _ _ _ _ _ {s with heap:=((s.heap.push (seqObj "list" #[] 0)).update s.heap.objs.size (Obj.mapSeq (·++vs.toArray))).push (seqObj "list" vs.toArray 0)};rw[hsz];refine Uu (Va (U6 slot_list_sort ⟨_,hoL,rfl⟩ entry_list_sort (oR hoL O h64 (λh' k h2=>hk h' (λb o q=>?_) h2) λp a1 a2=>⟨_,rfl,?_⟩) (args_list_sort _)))
 ·have hlt:b<s.heap.objs.size:=Uz q;refine k b o (UN (VM hlt)) ?_;show(((s.heap.push (seqObj "list" #[] 0)).update s.heap.objs.size (Obj.mapSeq (·++vs.toArray))).push (seqObj "list" vs.toArray 0)).get? b=some o;rw[Wn _ _ _ (by rw[hsz];exact UN (VM hlt)),Heap.get?_update_ne _ _ _ _ (UN hlt),Wn _ _ _ (UN hlt)];exact q
 ·exact Uw ⟨_,rfl,h p a1 a2⟩
end
end PySem.W
namespace L2
open PySem PySem.Spec PyProof.Rows
open PySem.W (oA cn Az Hh uT KatLex kat_lt kat_one kas_mapM kas_first_eq Looks pat)
noncomputable def pE(x y:Str):Bool:=decide (x.cps.toList<y.cps.toList)
theorem yZ(x:Str):pE x x=false:=strKind.irrefl _
theorem Cj(h:pE x y=true)(h':pE y z=true):pE x z=true:=strKind.trans _ _ _ h h'
theorem Hi(h:pE x y=true):pE y x=false:=by
 cases e:pE y x with
 |false=>rfl
 |true=>have:=Cj h e;grind[yZ]
theorem DJ(h:pE x y=false)(h':pE y x=false):x=y:=by have e:=strKind.total x.cps.toList y.cps.toList h h';cases x;simp_all
section
variable {P:Yt} {w:World} {A:Yv} {E:Ye} {s:Yw}
theorem AA{vs:Yl}(h2:1<=vs.length)(hT:∀v∈vs,Looks M s.heap (typeOf v) T)(hT2:(T==T)=true)(h:Q (some T) s) :
  wpAny M A (oneTypeOnly' vs.toArray) Q E s:=by
 obtain⟨v,rest,rfl⟩:∃v rest,vs=v::rest:=by
  match vs,h2 with
  |v::r,_=>exact⟨v,r,rfl⟩
 rw[oneTypeOnly'_eq,List.mapM_toArray,map_eq_pure_bind];refine Uu (Uu (kas_mapM (r:=T) _ (λv hv Q' hq=>(hT v hv).here hq) (Uw ?_)));have hall:((List.map (λ_=>T) (v::rest)).toArray.all λx=>x==T)=true:=by simp only[List.all_toArray,List.all_map,UM];intro _ _;exact hT2
 have h0:(List.map (λ_=>T) (v::rest)).toArray[0]?=some T:=by simp
 rw[h0];simp only[hall,Vu];exact Uw h
end
section
variable {X:Cx} {k:Nat}
theorem kD{α:Type}(d:α):∀(xs:List α),(List.range xs.length).map (λi=>xs.getD i d)=xs
 | []=>rfl
 |x::xs=>by
  rw[UR,List.range_succ_eq_map,U3,X2];have:=kD d xs
  conv=>rhs;rw[<- this]
  rfl
theorem Fz(r:Vals vs us)(i:Nat)(hi:i<vs.length):RelV (vs.getD i .non) (us.getD i .none):=by
 obtain⟨u,h1,h2⟩:=r.get (i:=i) (x:=vs[i]) (by grind)
 simp_all
theorem xU(r:Vals vs us):∀(l:List Nat),(∀i∈l,i<vs.length)->Vals (l.map λi=>vs.getD i .non) (l.map λi=>us.getD i .none)
 | [],_=>.nil
 |i::l,h=>.cons (Fz r i (h i (.head _))) (xU r l λj hj=>h j (.tail _ hj))
theorem xV(r:bo H ds vs)(dd:PyData):∀(l:List Nat),(∀i∈l,i<vs.length)->bo H (l.map λi=>ds.getD i dd) (l.map λi=>vs.getD i .non)
 | [],_=>bo.nil
 |i::l,h=>by
  refine bo.cons ?_ (xV r dd l λj hj=>h j (.tail _ hj));have hi:=h i (.head _);obtain⟨d,h1,h2⟩:=r.get (i:=i) (v:=vs[i]) (by grind)
  simp_all
end
end L2
namespace Ml
open PySem
structure Xc where
 cls:Str
 args:Yj
inductive D where
 |dat (d:PyData)
 |ref (i:Nat)
 |jX (t:Bool) (kvs:Yg)
 |set (xs:Yj)
 |fn (n:Str)
 |exc (x:Xc)
 |scr (ns:List Int)
 |ktup (xs:Yj)
 |rpr (x:Str)
inductive MO where
 |lst (xs:List D)
 |jX (t:Bool) (kvs:Yg)
 |ins (C:Str) (fs:List (Str×D))
 |tab (P:Addr) (q:Str)
abbrev Hm:=List MO
abbrev Fm:=List (Option D)
inductive R (α:Type) where
 |ok (a:α) (h:Hm)
 |exc (x:Xc) (h:Hm)
 |bad
noncomputable def R.bind{α β:Type}:R α->(α->Hm->R β)->R β
 |.ok a h,f=>f a h
 |.exc x h,_=>.exc x h
 |.bad,_=>.bad
noncomputable def R.Ck{α:Type}:R α->R α
 |.exc _ _=>.bad
 |r=>r
@[simp] theorem R.eO:(R.ok a h).Ck=.ok a h:=rfl
@[simp] theorem R.Rg:(R.bad:R α).Ck=.bad:=rfl
@[simp] theorem R.Rh:(R.exc x h:R α).Ck=.bad:=rfl
@[simp] theorem R.aO{f:α->Hm->R β}:(R.ok a h).bind f=f a h:=rfl
@[simp] theorem R.Hj{f:α->Hm->R β}:(R.exc x h).bind f=.exc x h:=rfl
@[simp] theorem R.Qe:R.bad.bind f=.bad:=rfl
theorem R.bind_assoc(r:R α)(f:α->Hm->R β)(g:β->Hm->R γ):(r.bind f).bind g=r.bind λa h=>(f a h).bind g:=by cases r<;>rfl
abbrev ME:=Fm->Hm->R D
abbrev MT:=Fm->Hm->R Bool
abbrev MA:=Fm->Hm->R (List D)
inductive Fl where
 |nx (ρ:Fm)
 |rt (d:D)
 |bk (ρ:Fm)
 |ct (ρ:Fm)
abbrev MS:=Fm->Hm->R Fl
abbrev Fn:=List D->Hm->R D
abbrev D.none:D:=.dat .none
abbrev D.bool(b:Bool):D:=.dat (.bool b)
abbrev D.int(i:Int):D:=.dat (.int i)
abbrev D.str(s:Str):D:=.dat (.str s)
noncomputable def af(i:Nat):ME:=λρ h=>match ρ[i]? with
 |some (some d)=>.ok d h
 |_=>.bad
def ah(d:PyData):ME:=λ_ h=>.ok (.dat d) h
def Uc(n:Str):ME:=λ_ h=>.ok (.fn n) h
def aj:MA:=λ_ h=>.ok [] h
noncomputable def aa(e:ME)(a:MA):MA:=λρ h=>(e ρ h).bind λx h1=>(a ρ h1).bind λxs h2=>.ok (x::xs) h2
noncomputable def aq(f:D->D->Hm->R D)(a b:ME):ME:=λρ h=>(a ρ h).bind λx h1=>(b ρ h1).bind λy h2=>f x y h2
noncomputable def AB(f:D->Hm->R D)(a:ME):ME:=λρ h=>(a ρ h).bind λx h1=>f x h1
noncomputable def ag(f:Fn)(a:MA):ME:=λρ h=>(a ρ h).bind λxs h1=>f xs h1
noncomputable def aR(e:ME):MT:=λρ h=>(e ρ h).bind λx h1=>match x with
 |.dat (.bool b)=>.ok b h1
 |_=>.bad
noncomputable def dH(t:MT):MT:=λρ h=>(t ρ h).bind λb h1=>.ok (!b) h1
noncomputable def PB(t u:MT):MT:=λρ h=>(t ρ h).bind λb h1=>if b then u ρ h1 else .ok false h1
noncomputable def oM(t u:MT):MT:=λρ h=>(t ρ h).bind λb h1=>if b then .ok true h1 else u ρ h1
noncomputable def Sg(a b:ME):ME:=λρ h=>(aR a ρ h).bind λc h1=>if c then b ρ h1 else .ok (.bool false) h1
noncomputable def Ud(a b:ME):ME:=λρ h=>(aR a ρ h).bind λc h1=>if c then .ok (.bool true) h1 else b ρ h1
noncomputable def Sh(a:ME):ME:=λρ h=>(aR a ρ h).bind λc h1=>.ok (.bool !c) h1
noncomputable def Ue(t:MT)(a b:ME):ME:=λρ h=>(t ρ h).bind λc h1=>if c then a ρ h1 else b ρ h1
noncomputable def D.data:D->Option PyData
 |.dat d=>some d
 |_=>Option.none
noncomputable def gJ:List D->Option Yj
 | []=>some []
 |x::xs=>match x.data,gJ xs with
  |some d,some ds=>some (d::ds)
  |_,_=>Option.none
theorem nL(ds:Yj):gJ (ds.map D.dat)=some ds:=by
 induction ds with
 |nil=>rfl
 |cons d ds ih=>simp[gJ,D.data,ih]
def jY(n:Nat):Bool:=decide (n<=16777216)
noncomputable def iF(xs:List D)(h:Hm):R D:=match gJ xs with
 |some ds=>if jY ds.length then .ok (.dat (.tuple ds)) h else .bad
 |Option.none=>.bad
noncomputable def fF(xs:List D)(h:Hm):R D:=match gJ xs with
 |some ds=>if jY ds.length then .ok (.dat (.list ds)) h else .bad
 |Option.none=>.bad
noncomputable def DK(xs:List D)(h:Hm):R D:=if jY xs.length then .ok (.ref h.length) (h++[.lst xs])else .bad
def cJ(a:MA):ME:=ag iF a
def oB(a:MA):ME:=ag fF a
def xg(a:MA):ME:=ag DK a
def cC:MS:=λρ h=>.ok (.nx ρ) h
noncomputable def bg(a b:MS):MS:=λρ h=>(a ρ h).bind λf h1=>match f with
 |.nx ρ1=>b ρ1 h1
 |f=>.ok f h1
noncomputable def cR(i:Nat)(e:ME):MS:=λρ h=>(e ρ h).bind λx h1=>.ok (.nx (ρ.set i (some x))) h1
noncomputable def jd(e:ME):MS:=λρ h=>(e ρ h).bind λ_ h1=>.ok (.nx ρ) h1
noncomputable def bN(e:ME):MS:=λρ h=>(e ρ h).bind λx h1=>.ok (.rt x) h1
noncomputable def lR(t:MT)(a b:MS):MS:=λρ h=>(t ρ h).bind λc h1=>if c then a ρ h1 else b ρ h1
def NR:MS:=λρ h=>.ok (.bk ρ) h
def Qf:MS:=λρ h=>.ok (.ct ρ) h
abbrev MG:=D->Fm->Hm->R Fm
noncomputable def aB(i:Nat):MG:=λx ρ h=>.ok (ρ.set i (some x)) h
abbrev Hk:=List D->Fm->Hm->R Fm
noncomputable def gP:Hk:=λxs ρ h=>match xs with
 | []=>.ok ρ h
 |_=>.bad
noncomputable def bF(g:MG)(gs:Hk):Hk:=λxs ρ h=>match xs with
 | []=>.bad
 |x::xs=>(g x ρ h).bind λρ1 h1=>gs xs ρ1 h1
noncomputable def gQ(gs:Hk):MG:=λx ρ h=>match x with
 |.dat (.tuple ds)=>gs (ds.map D.dat) ρ h
 |_=>.bad
noncomputable def pF(g:MG)(e:ME):MS:=λρ h=>(e ρ h).bind λx h1=>(g x ρ h1).bind λρ1 h2=>.ok (.nx ρ1) h2
noncomputable def mf:List Nat->List D->Fm->Option Fm
 | [],[],ρ=>some ρ
 |i::is,x::xs,ρ=>mf is xs (ρ.set i (some x))
 |_,_,_=>Option.none
noncomputable def Hl(is:List Nat)(a:MA):MS:=λρ h=>(a ρ h).bind λxs h1=>match mf is xs ρ with
 |some ρ1=>.ok (.nx ρ1) h1
 |Option.none=>.bad
noncomputable def DL(e:ME):MA:=λρ h=>(e ρ h).bind λx h1=>match x with
 |.dat (.tuple ds)=>.ok (ds.map D.dat) h1
 |_=>.bad
noncomputable def Hn(e:ME):MA:=λρ h=>(e ρ h).bind λx h1=>match x with
 |.dat (.list ds)=>.ok (ds.map D.dat) h1
 |_=>.bad
noncomputable def signs(x:Str):List D:=(List.range x.cps.size).map λ(i:Nat)=>D.str ⟨#[x.cps.getD i 0]⟩
noncomputable def Ho(e:ME):MA:=λρ h=>(e ρ h).bind λx h1=>match x with
 |.dat (.str s)=>.ok (signs s) h1
 |_=>.bad
noncomputable def nums(lo:Int)(n:Nat):List D:=(List.range n).map λ(i:Nat)=>D.int (lo+(i:Int))
noncomputable def uU(a:MA):MA:=λρ h=>(a ρ h).bind λxs h1=>match xs with
 | [.dat (.int j)]=>if -(2^62)<=j/\j<2^62 then .ok (nums 0 j.toNat) h1 else .bad
 |_=>.bad
noncomputable def NS(a:MA):MA:=λρ h=>(a ρ h).bind λxs h1=>match xs with
 | [.dat (.int i),.dat (.int j)]=>if -(2^62)<=i/\i<2^62/\-(2^62)<=j/\j<2^62 then .ok (nums i (j-i).toNat) h1 else .bad
 |_=>.bad
noncomputable def y0:Yj->Yj->List D
 |x::xs,y::ys=>.dat (.tuple [x,y])::y0 xs ys
 |_,_=>[]
noncomputable def uV(a:MA):MA:=λρ h=>(a ρ h).bind λxs h1=>match xs with
 | [.dat (.tuple ds),.dat (.tuple es)]=>.ok (y0 ds es) h1
 |_=>.bad
noncomputable def eN(g:MG)(b:MS):List D->Fm->Hm->R Fl
 | [],ρ,h=>.ok (.nx ρ) h
 |x::xs,ρ,h=>(g x ρ h).Ck.bind λρ1 h1=>(b ρ1 h1).Ck.bind λf h2=>match f with
  |.nx ρ2=>eN g b xs ρ2 h2
  |.ct ρ2=>eN g b xs ρ2 h2
  |.bk ρ2=>.ok (.nx ρ2) h2
  |.rt d=>.ok (.rt d) h2
noncomputable def oC(it:MA)(g:MG)(b:MS):MS:=λρ h=>(it ρ h).Ck.bind λxs h1=>eN g b xs ρ h1
noncomputable def eQ(n:Nat)(ρ:Fm)(g:MG)(t:MT)(e:ME):List D->Hm->R (List D)
 | [],h=>.ok [] h
 |x::xs,h=>(g x (List.replicate n none++ρ) h).Ck.bind λρ1 h1=>(t ρ1 h1).Ck.bind λc h2=>
  if c then(e ρ1 h2).Ck.bind λy h3=>(eQ n ρ g t e xs h3).bind λys h4=>.ok (y::ys) h4
  else eQ n ρ g t e xs h2
def dW:MT:=λ_ h=>.ok true h
noncomputable def oS(n:Nat)(it:MA)(g:MG)(t:MT)(e:ME):MA:=λρ h=>(it ρ h).bind λxs h1=>if jY xs.length then eQ n ρ g t e xs h1 else .bad
noncomputable def cD(n:Nat)(it:MA)(g:MG)(t:MT)(e:ME):ME:=ag fF (oS n it g t e)
noncomputable def sY:Fl->Hm->R D
 |.rt d,h=>.ok d h
 |.nx _,h=>.ok D.none h
 |_,_=>.bad
noncomputable def bj(p n:Nat)(b:MS):Fn:=λxs h=>if xs.length=p then(b (xs.map some++List.replicate (n-p) none) h).bind sY else .bad
noncomputable def D.below(n:Nat):D->Bool
 |.ref i=>decide (i<n)
 |_=>true
noncomputable def MO.below(n:Nat):MO->Bool
 |.lst xs=>xs.all (D.below n)
 |.jX _ _=>true
 |.ins _ fs=>fs.all λp=>p.2.below n
 |.tab _ _=>true
noncomputable def fG(f:Fn):Fn:=λxs h=>match f xs h with
 |.ok d h'=>if d.below h.length&&(h'.take h.length).all (MO.below h.length)&&decide (h.length<=h'.length)then .ok d (h'.take h.length)else .bad
 |.exc x h'=>if(h'.take h.length).all (MO.below h.length)&&decide (h.length<=h'.length)then .exc x (h'.take h.length)else .bad
 |.bad=>.bad
noncomputable def lP(f:D->Option PyData):List D->Option Yj
 | []=>some []
 |x::xs=>match f x,lP f xs with
  |some d,some ds=>some (d::ds)
  |_,_=>Option.none
noncomputable def Ac(h:Hm):Nat->D->Option PyData
 |_,.dat d=>some d
 |_,.ktup xs=>some (.tuple xs)
 |n+1,.ref i=>match h[i]? with
  |some (.lst xs)=>(lP (Ac h n) xs).map .list
  |_=>Option.none
 |_,_=>Option.none
noncomputable abbrev Cm(h:Hm)(x:D):Option PyData:=Ac h 3 x
@[simp] theorem y6(h:Hm)(n:Nat)(d:PyData):Ac h n (.dat d)=some d:=by cases n<;>rfl
noncomputable def listOf(x:D)(h:Hm):Option Yj:=match x with
 |.dat (.list ds)=>some ds
 |.ref i=>match h[i]? with
  |some (.lst ys)=>gJ ys
  |_=>Option.none
 |_=>Option.none
noncomputable def dI(x y:D)(h:Hm):R D:=match x,y with
 |.dat (.int i),.dat (.int j)=>.ok (.int (i+j)) h
 |.dat (.str s),.dat (.str t)=>if jY (s.length+t.length)then .ok (.str (s++t)) h else .bad
 |.dat (.tuple xs),.dat (.tuple ys)=>if jY (xs.length+ys.length)then .ok (.dat (.tuple (xs++ys))) h else .bad
 |.dat (.list xs),.dat (.list ys)=>if jY (xs.length+ys.length)then .ok (.dat (.list (xs++ys))) h else .bad
 |_,_=>.bad
noncomputable def FA(x y:D)(h:Hm):R D:=match x,y with
 |.dat (.int i),.dat (.int j)=>.ok (.int (i-j)) h
 |_,_=>.bad
noncomputable def DM(i j:Int):Bool:=(decide (-(2^64)<i)&&decide (i<2^64)) || (decide (-(2^64)<j)&&decide (j<2^64))
noncomputable def pG(x y:D)(h:Hm):R D:=match x,y with
 |.dat (.int i),.dat (.int j)=>if DM i j then .ok (.int (i*j)) h else .bad
 |.dat (.list xs),.dat (.int k)=>if jY (xs.length*k.toNat)&&decide (-(2^63)<=k)&&decide (k<2^63)then .ok (.dat (.list (List.replicate k.toNat xs).flatten)) h else .bad
 |_,_=>.bad
noncomputable def oMod(x y:D)(h:Hm):R D:=match x,y with
 |.dat (.int i),.dat (.int j)=>if 0<j then .ok (.int (i % j)) h else .bad
 |_,_=>.bad
noncomputable def xX(x y:D)(h:Hm):R D:=match x,y with
 |.dat (.int i),.dat (.int j)=>if 0<j/\j<1073741824 then .ok (.int (i / j)) h else .bad
 |_,_=>.bad
noncomputable def Si(x:D)(h:Hm):R D:=match x with
 |.dat (.int i)=>.ok (.int (-i)) h
 |_=>.bad
def noDict(d:PyData):Bool:=!d.hasDict
noncomputable def eqQ(d e:PyData):Option Bool:=if noDict d&&noDict e&&decide (min d.depth e.depth<=40)then some (PyData.eqv d e)else Option.none
noncomputable def FC(d e:PyData):Option Bool:=match d,e with
 |.str _,.dict _=>some false
 |.tuple ds,.dict _=>if noDict (.tuple ds)then some false else Option.none
 |d,e=>eqQ d e
noncomputable def oEq(x y:D)(h:Hm):R D:=match x,y with
 |.rpr s,.rpr t=>.ok (.bool (decide (s=t))) h
 |x,y=>match Cm h x,Cm h y with
  |some d,some e=>match eqQ d e with
   |some b=>.ok (.bool b) h
   |Option.none=>.bad
  |_,_=>.bad
noncomputable def ur(x y:D)(h:Hm):R D:=match x,y with
 |.rpr s,.rpr t=>.ok (.bool (!decide (s=t))) h
 |x,y=>match Cm h x,Cm h y with
  |some d,some e=>match eqQ d e with
   |some b=>.ok (.bool !b) h
   |Option.none=>.bad
  |_,_=>.bad
noncomputable def pE(x y:Str):Bool:=decide (x.cps.toList<y.cps.toList)
mutual
noncomputable def bY:PyData->PyData->Option Bool
 |.int i,.int j=>some (decide (i<j))
 |.str x,.str y=>some (pE x y)
 |.tuple xs,.tuple ys=>dy xs ys
 |_,_=>Option.none
noncomputable def dy:Yj->Yj->Option Bool
 | [],[]=>some false
 | [],_::_=>some true
 |_::_,[]=>some false
 |x::xs,y::ys=>if PyData.eqv x y then dy xs ys else bY x y
end
noncomputable def oLt(x y:D)(h:Hm):R D:=match x,y with
 |.dat d,.dat e=>if noDict d&&noDict e&&decide (min d.depth e.depth<=40)then match bY d e with
  |some b=>.ok (.bool b) h
  |Option.none=>.bad
  else .bad
 |_,_=>.bad
noncomputable def oLe(x y:D)(h:Hm):R D:=match x,y with
 |.dat (.int i),.dat (.int j)=>.ok (.bool (decide (i<=j))) h
 |.dat (.str s),.dat (.str t)=>.ok (.bool (!pE t s)) h
 |_,_=>.bad
noncomputable def Pg(x y:D)(h:Hm):R D:=match x,y with
 |.dat (.int i),.dat (.int j)=>.ok (.bool (decide (j<i))) h
 |_,_=>.bad
noncomputable def Qg(x y:D)(h:Hm):R D:=match x,y with
 |.dat (.int i),.dat (.int j)=>.ok (.bool (decide (j<=i))) h
 |_,_=>.bad
noncomputable def Hq(x:PyData):Yj->Option Bool
 | []=>some false
 |y::ys=>match FC y x,Hq x ys with
  |some a,some b=>some (a || b)
  |_,_=>Option.none
noncomputable def iG:PyData->Bool
 |.tuple _=>true
 |_=>false
noncomputable def gR:PyData->Bool
 |.str _=>true
 |_=>false
noncomputable def qr(k:PyData)(kvs:Yg):Bool:=kvs.any λp=>PyData.eqv p.1 k
noncomputable def iH(y:D)(h:Hm):Option (Bool×Yg):=match y with
 |.jX t kvs=>some (t,kvs)
 |.ref i=>match h[i]? with
  |some (.jX t kvs)=>some (t,kvs)
  |_=>Option.none
 |_=>Option.none
mutual
noncomputable def aE:PyData->Bool
 |.str _=>true
 |.tuple ds=>bx ds
 |_=>false
noncomputable def bx:Yj->Bool
 | []=>true
 |d::ds=>aE d&&bx ds
end
noncomputable def keyOk(t:Bool)(k:PyData):Bool:=if t then iG k&&aE k&&decide (k.depth<=8)else gR k
noncomputable def y7(x:D)(kvs:Yg)(t:Bool):Option Bool:=match x with
 |.dat d=>if keyOk t d then some (qr d kvs)else Option.none
 |_=>Option.none
noncomputable def kE(x y:D)(h:Hm):Option Bool:=match y with
 |.dat (.str s)=>match x with
  |.dat (.str t)=>some (!(Builtin.Str.occurrences s t 0 s.length 1).isEmpty)
  |_=>Option.none
 |y=>match Cm h x,Cm h y with
  |some d,some (.tuple ds)=>Hq d ds
  |some d,some (.list ds)=>Hq d ds
  |_,_=>Option.none
noncomputable def findIn(x y:D)(h:Hm):Option Bool:=match iH y h with
 |some p=>y7 x p.2 p.1
 |Option.none=>kE x y h
noncomputable def sZ(x y:D)(h:Hm):R D:=match findIn x y h with
 |some b=>.ok (.bool b) h
 |Option.none=>.bad
noncomputable def qt(x y:D)(h:Hm):R D:=match findIn x y h with
 |some b=>.ok (.bool !b) h
 |Option.none=>.bad
noncomputable def oU:PyData->Bool
 |.none|.bool _|.int _|.str _=>true
 |_=>false
noncomputable def dput(kvs:Yg)(k v:PyData):Yg:=
 if qr k kvs then kvs.map (λp=>if PyData.eqv p.1 k then(p.1,v)else p)else kvs++[(k,v)]
noncomputable def xh(kvs:Yg)(k:PyData):Option PyData:=(kvs.find? λp=>PyData.eqv p.1 k).map (·.2)
noncomputable def wX(n:Nat)(i:Int):Option Nat:=if 0<=i then(if i<n then some i.toNat else Option.none)else if -(n:Int)<=i then some (i+n).toNat else Option.none
noncomputable def lV{α:Type}(xs:List α)(i:Int):Option α:=(wX xs.length i).bind λj=>xs[j]?
noncomputable def y8(x y:D)(h:Hm):R D:=match y with
 |.dat (.int i)=>match x with
  |.dat (.tuple ds)=>match lV ds i with|some d=>.ok (.dat d) h|Option.none=>.bad
  |.dat (.list ds)=>match lV ds i with|some d=>.ok (.dat d) h|Option.none=>.bad
  |.ref j=>match h[j]? with
   |some (.lst xs)=>match lV xs i with|some d=>.ok d h|Option.none=>.bad
   |_=>.bad
  |.scr ns=>match lV ns i with|some n=>.ok (.int n) h|Option.none=>.bad
  |_=>.bad
 |_=>.bad
noncomputable def fb(x y:D)(h:Hm):R D:=match iH x h with
 |some p=>match y with
  |.dat (.str k)=>if p.1 then .bad else match xh p.2 (.str k)with
   |some v=>.ok (.dat v) h
   |Option.none=>.bad
  |_=>.bad
 |Option.none=>y8 x y h
noncomputable def eM(n d:Nat):Option Int->Nat
 |Option.none=>d
 |some v=>if v<0 then(v+(n:Int)).toNat else min v.toNat n
noncomputable def cut{α:Type}(ds:List α)(lo hi:Option Int):List α:=(ds.drop (eM ds.length 0 lo)).take (eM ds.length ds.length hi-eM ds.length 0 lo)
abbrev Mf:=Fm->Hm->R (Option Int)
def jZ:Mf:=λ_ h=>.ok Option.none h
noncomputable def dX(e:ME):Mf:=λρ h=>(e ρ h).bind λx h1=>match x with
 |.dat (.int i)=>.ok (some i) h1
 |_=>.bad
noncomputable def Qh(x:D)(lo hi:Option Int)(h:Hm):R D:=match x with
 |.dat (.tuple ds)=>.ok (.dat (.tuple (cut ds lo hi))) h
 |.dat (.list ds)=>.ok (.dat (.list (cut ds lo hi))) h
 |_=>.bad
noncomputable def Co(e:ME)(lo hi:Mf):ME:=λρ h=>(e ρ h).bind λx h1=>(lo ρ h1).bind λl h2=>(hi ρ h2).bind λu h3=>Qh x l u h3
noncomputable def gK:Fn:=λxs h=>match xs with
 | [.dat (.str s)]=>if jY s.length then .ok (.int s.length) h else .bad
 | [.dat (.tuple ds)]=>.ok (.int ds.length) h
 | [.dat (.list ds)]=>.ok (.int ds.length) h
 | [.ref i]=>match h[i]? with
  |some (.lst ys)=>.ok (.int ys.length) h
  |_=>.bad
 | [.scr ns]=>.ok (.int ns.length) h
 |_=>.bad
noncomputable def bools:Yj->Option (List Bool)
 | []=>some []
 |.bool b::ds=>(bools ds).map (b::·)
 |_=>Option.none
theorem FD(bs:List Bool):bools (bs.map .bool)=some bs:=by
 induction bs with
 |nil=>rfl
 |cons b bs ih=>simp[bools,ih]
noncomputable def qu:Fn:=λxs h=>match xs with
 | [.dat (.list ds)]=>match bools ds with
  |some bs=>.ok (.bool (bs.all id)) h
  |Option.none=>.bad
 |_=>.bad
noncomputable def isTup:PyData->Bool|.tuple _=>true|_=>false
noncomputable def isStr:PyData->Bool|.str _=>true|_=>false
noncomputable def isInt:PyData->Bool|.int _|.bool _=>true|_=>false
noncomputable def uW:PyData->Bool|.bool _=>true|_=>false
noncomputable def mi(f:PyData->Bool):D->Hm->R D:=λx h=>match x with
 |.dat d=>.ok (.bool (f d)) h
 |_=>.bad
noncomputable def dY(x:Str):Yj:=(List.range x.cps.size).map λ(i:Nat)=>.str ⟨#[x.cps.getD i 0]⟩
noncomputable def iI:Fn:=λxs h=>match xs with
 | [.dat (.tuple ds)]=>.ok (.dat (.tuple ds)) h
 | [.dat (.str s)]=>if jY s.cps.size then .ok (.dat (.tuple (dY s))) h else .bad
 | [x]=>match listOf x h with
  |some ds=>.ok (.dat (.tuple ds)) h
  |Option.none=>.bad
 |_=>.bad
noncomputable def pH:Fn:=λxs h=>match xs with
 | [.dat (.tuple ds)]=>.ok (.dat (.list ds)) h
 | [x]=>match listOf x h with
  |some ds=>.ok (.dat (.list ds)) h
  |Option.none=>.bad
 |_=>.bad
noncomputable def Cp(lt:PyData->PyData->Bool)(x:PyData):Yj->Yj
 | []=>[x]
 |y::ys=>if lt y x then y::Cp lt x ys else x::y::ys
noncomputable def dD(lt:PyData->PyData->Bool):Yj->Yj
 | []=>[]
 |x::xs=>Cp lt x (dD lt xs)
noncomputable def ltB(d e:PyData):Bool:=(bY d e).getD false
noncomputable def AD(d:PyData):Bool:=d.showable&&noDict d&&decide (d.depth<=40)&&jY d.shown.length
noncomputable def Hr(d:PyData):Bool:=match d with
 |.dict _=>d.showable&&decide (d.depth<=20)&&jY d.shown.length
 |_=>false
noncomputable def lC:Fn:=λxs h=>match xs with
 | [x]=>match Cm h x with
  |some d=>if AD d || Hr d then .ok (.rpr d.shown) h else .bad
  |Option.none=>.bad
 |_=>.bad
noncomputable def qv:Fn:=λxs h=>match xs with
 | [.dat (.int i),.dat (.int j)]=>if 0<j/\j<1073741824 then .ok (.dat (.tuple [.int (i / j),.int (i % j)])) h else .bad
 |_=>.bad
noncomputable def FE:Fn:=λxs h=>match xs with
 | [.dat (.int i),.dat (.int j)]=>.ok (.int (if j>i then j else i)) h
 |_=>.bad
noncomputable def Hs:Fn:=λxs h=>match xs with
 | [.dat (.int i)]=>.ok (.int i) h
 | [.dat (.bool b)]=>.ok (.int (if b then 1 else 0)) h
 |_=>.bad
noncomputable def eA(x y:D)(h:Hm):R D:=match x with
 |.ref i=>match h[i]? with
  |some (.lst xs)=>if decide (xs.length<16777216)then .ok D.none (h.set i (.lst (xs++[y])))else .bad
  |_=>.bad
 |_=>.bad
noncomputable def rV(x y:D)(h:Hm):R D:=match x,y with
 |.ref i,.dat (.int k)=>match h[i]? with
  |some (.lst xs)=>if 0<=k/\k<xs.length/\k<1000000 then match xs[k.toNat]? with
    |some d=>.ok d (h.set i (.lst (xs.eraseIdx k.toNat)))
    |Option.none=>.bad
   else .bad
  |_=>.bad
 |_,_=>.bad
noncomputable def DN(x y v:D)(h:Hm):R Unit:=match x,y with
 |.ref i,.dat (.int k)=>match h[i]? with
  |some (.lst xs)=>match wX xs.length k with
   |some j=>.ok () (h.set i (.lst (xs.set j v)))
   |Option.none=>.bad
  |_=>.bad
 |_,_=>.bad
noncomputable def Mg(i:Nat)(t:Bool)(kvs:Yg)(y v:D)(h:Hm):R Unit:=match y,v with
 |.dat k,.dat d=>if keyOk t k&&(t || oU d)&&decide (kvs.length<16777216)then .ok () (h.set i (.jX t (dput kvs k d)))else .bad
 |_,_=>.bad
noncomputable def y9(x y v:D)(h:Hm):R Unit:=match x with
 |.ref i=>match h[i]? with
  |some (.jX t kvs)=>Mg i t kvs y v h
  |_=>DN x y v h
 |_=>.bad
noncomputable def Ai(eo ei:ME):MG:=λv ρ h=>(eo ρ h).bind λo h1=>(ei ρ h1).bind λi h2=>(y9 o i v h2).bind λ_ h3=>.ok ρ h3
noncomputable def truth(x:D)(h:Hm):Option Bool:=match x with
 |.dat .none=>some false
 |.dat (.bool b)=>some b
 |.dat (.int i)=>some (i != 0)
 |.dat (.str s)=>if jY s.length then some ((s.length:Int) != 0)else Option.none
 |.dat (.tuple ds)=>some !ds.isEmpty
 |.dat (.list ds)=>some !ds.isEmpty
 |.ref i=>match h[i]? with
  |some (.lst xs)=>some !xs.isEmpty
  |_=>Option.none
 |_=>Option.none
noncomputable def bH(e:ME):MT:=λρ h=>(e ρ h).bind λx h1=>match truth x h1 with
 |some b=>.ok b h1
 |Option.none=>.bad
mutual
noncomputable def dz:PyData->Bool
 |.str x=>PyData.strOk x
 |.list xs|.tuple xs=>cK xs
 |_=>true
noncomputable def cK:Yj->Bool
 | []=>true
 |x::xs=>dz x&&cK xs
end
mutual
theorem jC:∀{d:PyData},dz d=true->d.hasDict=false->d.canLay0=true
 |.none,_,_=>by rfl
 |.bool _,_,_=>by rfl
 |.int _,_,_=>by rfl
 |.str x,h,_=>by assumption
 |.tuple ds,h,k=>qw h k
 |.list ds,h,k=>by simp[dz]at h;exact qw h k
 |.dict _,_,k=>by trivial
theorem qw:∀{ds:Yj},cK ds=true->PyData.hasDictAll ds=false->PyData.canLayAll0 ds=true
 | [],_,_=>by rfl
 |d::ds,h,k=>by simp only[cK,Ux]at h;simp only[PyData.hasDictAll,Bool.or_eq_false_iff]at k;simp only[PyData.canLayAll0,Ux];exact⟨jC h.1 k.1,qw h.2 k.2⟩
end
mutual
noncomputable def au:PyData->Bool
 |.int _|.str _=>true
 |.tuple ds=>av ds
 |_=>false
noncomputable def av:Yj->Bool
 | []=>true
 |d::ds=>au d&&av ds
end
theorem aY:∀{ds:Yj} {d:PyData},av ds=true->d∈ds->au d=true
 |_::_,d,h,m=>by
  simp[av]at h;rcases UC.mp m with rfl|m
  ·grind
  ·exact aY h.2 m
theorem je:∀{ds:Yj},(∀d∈ds,au d=true)->av ds=true
 | [],_=>by rfl
 |d::ds,h=>by simp[av];exact⟨h d (by simp),je λe m=>h e (by simp[m])⟩
mutual
theorem mj:∀{d e:PyData},au d=true->au e=true->(PyData.eqv d e=true<->d=e)
 |.int i,.int j,_,_=>by simp[PyData.eqv]
 |.str x,.str y,_,_=>by simp[PyData.eqv]
 |.tuple xs,.tuple ys,h,k=>by simp only[au]at h k;simp only[PyData.eqv,PyData.tuple.injEq];exact xY h k
 |.int _,.str _,_,_=>by simp[PyData.eqv]
 |.int _,.tuple _,_,_=>by simp[PyData.eqv]
 |.str _,.int _,_,_=>by simp[PyData.eqv]
 |.str _,.tuple _,_,_=>by simp[PyData.eqv]
 |.tuple _,.int _,_,_=>by simp[PyData.eqv]
 |.tuple _,.str _,_,_=>by simp[PyData.eqv]
 |.none,_,h,_=>by simp[au]at h
 |.bool _,_,h,_=>by simp[au]at h
 |.list _,_,h,_=>by simp[au]at h
 |.dict _,_,h,_=>by simp[au]at h
 |.int _,.none,_,h=>by simp[au]at h
 |.int _,.bool _,_,h=>by simp[au]at h
 |.int _,.list _,_,h=>by simp[au]at h
 |.int _,.dict _,_,h=>by simp[au]at h
 |.str _,.none,_,h=>by simp[au]at h
 |.str _,.bool _,_,h=>by simp[au]at h
 |.str _,.list _,_,h=>by simp[au]at h
 |.str _,.dict _,_,h=>by simp[au]at h
 |.tuple _,.none,_,h=>by simp[au]at h
 |.tuple _,.bool _,_,h=>by simp[au]at h
 |.tuple _,.list _,_,h=>by simp[au]at h
 |.tuple _,.dict _,_,h=>by simp[au]at h
theorem xY:∀{xs ys:Yj},av xs=true->av ys=true->(PyData.eqvAll xs ys=true<->xs=ys)
 | [],[],_,_=>by simp[PyData.eqvAll]
 | [],_::_,_,_=>by simp[PyData.eqvAll]
 |_::_,[],_,_=>by simp[PyData.eqvAll]
 |x::xs,y::ys,h,k=>by simp only[av,Ux]at h k;simp only[PyData.eqvAll,Ux,List.cons.injEq];rw[mj h.1 k.1,xY h.2 k.2]
end
mutual
theorem dZ:∀{d:PyData},au d=true->d.hasDict=false
 |.int _,_=>rfl
 |.str _,_=>rfl
 |.tuple ds,h=>ig h
 |.none,h=>by rfl
 |.bool _,h=>by rfl
 |.list _,h=>by trivial
 |.dict _,h=>by trivial
theorem ig:∀{ds:Yj},av ds=true->PyData.hasDictAll ds=false
 | [],_=>rfl
 |d::ds,h=>by simp only[av,Ux]at h;simp only[PyData.hasDictAll,Bool.or_eq_false_iff];exact⟨dZ h.1,ig h.2⟩
end
theorem bf(h:au d=true):PyData.eqv d d=true:=(mj h h).mpr rfl
theorem aW(h:au d=true)(k:au e=true)(ne:d≠e):PyData.eqv d e=false:=by
 cases q:PyData.eqv d e with
 |false=>rfl
 |true=>exact absurd ((mj h k).mp q) ne
theorem Sj{x y:Str}(h:x.cps.toList=y.cps.toList):x=y:=by
 obtain⟨⟨a⟩⟩:=x
 simp_all
theorem yZ(x:Str):pE x x=false:=U0 (List.lt_irrefl _)
theorem Cj(h:pE x y=true)(h':pE y z=true):pE x z=true:=Vc (List.lt_trans (Wo h) (Wo h'))
theorem Hi(h:pE x y=true):pE y x=false:=U0 λz=>List.lt_irrefl _ (List.lt_trans (Wo h) z)
theorem DJ(h:pE x y=false)(h':pE y x=false):x=y:=
 Sj (List.le_antisymm (List.not_lt.mp (of_decide_eq_false h')) (List.not_lt.mp (of_decide_eq_false h)))
mutual
theorem Ht:∀{d e:PyData},au d=true->au e=true->bY d e=some true->bY e d=some false
 |.int i,.int j,_,_,h=>by grind[bY]
 |.str x,.str y,_,_,h=>by simp only[bY,Wk]at h ⊢;exact Hi h
 |.tuple xs,.tuple ys,h,k,q=>by simp only[au]at h k;simp only[bY]at q ⊢;exact DP h k q
 |.int _,.str _,_,_,h=>by trivial
 |.int _,.tuple _,_,_,h=>by trivial
 |.str _,.int _,_,_,h=>by trivial
 |.str _,.tuple _,_,_,h=>by trivial
 |.tuple _,.int _,_,_,h=>by trivial
 |.tuple _,.str _,_,_,h=>by simp[bY]at h
 |.none,_,h,_,_=>by simp[au]at h
 |.bool _,_,h,_,_=>by simp[au]at h
 |.list _,_,h,_,_=>by simp[au]at h
 |.dict _,_,h,_,_=>by simp[au]at h
 |_,.none,_,h,_=>by simp[au]at h
 |_,.bool _,_,h,_=>by simp[au]at h
 |_,.list _,_,h,_=>by simp[au]at h
 |_,.dict _,_,h,_=>by simp[au]at h
theorem DP:∀{xs ys:Yj},av xs=true->av ys=true->dy xs ys=some true->dy ys xs=some false
 | [],[],_,_,h=>by simp[dy]at h
 | [],_::_,_,_,_=>by simp[dy]
 |_::_,[],_,_,h=>by simp[dy]at h
 |x::xs,y::ys,h,k,q=>by
  simp only[av,Ux]at h k;simp only[dy]at q ⊢;by_cases e:x=y
  ·subst e;rw[bf h.1,if_pos rfl]at q ⊢;exact DP h.2 k.2 q
  ·rw[aW h.1 k.1 e,if_neg (by simp)]at q;rw[aW k.1 h.1 (λz=>e z.symm),if_neg (by simp)];exact Ht h.1 k.1 q
end
mutual
theorem DQ:∀{d e:PyData},au d=true->au e=true->bY d e=some false->bY e d=some false->d=e
 |.int i,.int j,_,_,h,h'=>by grind[bY]
 |.str x,.str y,_,_,h,h'=>by simp only[bY,Wk]at h h';rw[DJ h h']
 |.tuple xs,.tuple ys,h,k,q,q'=>by simp only[au]at h k;simp only[bY]at q q';rw[AE h k q q']
 |.int _,.str _,_,_,h,_=>by trivial
 |.int _,.tuple _,_,_,h,_=>by trivial
 |.str _,.int _,_,_,h,_=>by trivial
 |.str _,.tuple _,_,_,h,_=>by trivial
 |.tuple _,.int _,_,_,h,_=>by simp[bY]at h
 |.tuple _,.str _,_,_,h,_=>by simp[bY]at h
 |.none,_,h,_,_,_=>by simp[au]at h
 |.bool _,_,h,_,_,_=>by simp[au]at h
 |.list _,_,h,_,_,_=>by simp[au]at h
 |.dict _,_,h,_,_,_=>by simp[au]at h
 |_,.none,_,h,_,_=>by simp[au]at h
 |_,.bool _,_,h,_,_=>by simp[au]at h
 |_,.list _,_,h,_,_=>by simp[au]at h
 |_,.dict _,_,h,_,_=>by simp[au]at h
theorem AE:∀{xs ys:Yj},av xs=true->av ys=true->dy xs ys=some false->dy ys xs=some false->xs=ys
 | [],[],_,_,_,_=>rfl
 | [],_::_,_,_,h,_=>by simp[dy]at h
 |_::_,[],_,_,_,h=>by simp[dy]at h
 |x::xs,y::ys,h,k,q,q'=>by
  simp only[av,Ux]at h k;simp only[dy]at q q';by_cases e:x=y
  ·subst e;rw[bf h.1,if_pos rfl]at q q';rw[AE h.2 k.2 q q']
  ·rw[aW h.1 k.1 e,if_neg (by simp)]at q;rw[aW k.1 h.1 (λz=>e z.symm),if_neg (by simp)]at q';exact absurd (DQ h.1 k.1 q q') e
end
mutual
theorem DR:∀{d:PyData},au d=true->bY d d=some false
 |.int i,_=>by simp[bY]
 |.str x,_=>by simp[bY,yZ]
 |.tuple xs,h=>AF h
 |.none,h=>by trivial
 |.bool _,h=>by trivial
 |.list _,h=>by trivial
 |.dict _,h=>by trivial
theorem AF:∀{xs:Yj},av xs=true->dy xs xs=some false
 | [],_=>by rfl
 |x::xs,h=>by simp only[av,Ux]at h;simp only[dy];rw[bf h.1,if_pos rfl];exact AF h.2
end
mutual
theorem Hu:∀{d e f:PyData},au d=true->au e=true->au f=true->bY d e=some true->bY e f=some true->bY d f=some true
 |.int i,.int j,.int k,_,_,_,h,h'=>by grind[bY]
 |.str x,.str y,.str z,_,_,_,h,h'=>by simp only[bY,Wk]at h h' ⊢;exact Cj h h'
 |.tuple xs,.tuple ys,.tuple zs,h,k,l,q,q'=>by simp only[au]at h k l;simp only[bY]at q q' ⊢;exact DU h k l q q'
 |.none,_,_,h,_,_,_,_=>by simp[au]at h
 |.bool _,_,_,h,_,_,_,_=>by simp[au]at h
 |.list _,_,_,h,_,_,_,_=>by simp[au]at h
 |.dict _,_,_,h,_,_,_,_=>by simp[au]at h
 |.int _,.none,_,_,_,_,h,_=>by simp[bY]at h
 |.int _,.bool _,_,_,_,_,h,_=>by simp[bY]at h
 |.int _,.str _,_,_,_,_,h,_=>by simp[bY]at h
 |.int _,.list _,_,_,_,_,h,_=>by simp[bY]at h
 |.int _,.tuple _,_,_,_,_,h,_=>by simp[bY]at h
 |.int _,.dict _,_,_,_,_,h,_=>by simp[bY]at h
 |.str _,.none,_,_,_,_,h,_=>by simp[bY]at h
 |.str _,.bool _,_,_,_,_,h,_=>by simp[bY]at h
 |.str _,.int _,_,_,_,_,h,_=>by simp[bY]at h
 |.str _,.list _,_,_,_,_,h,_=>by simp[bY]at h
 |.str _,.tuple _,_,_,_,_,h,_=>by simp[bY]at h
 |.str _,.dict _,_,_,_,_,h,_=>by simp[bY]at h
 |.tuple _,.none,_,_,_,_,h,_=>by simp[bY]at h
 |.tuple _,.bool _,_,_,_,_,h,_=>by simp[bY]at h
 |.tuple _,.int _,_,_,_,_,h,_=>by simp[bY]at h
 |.tuple _,.list _,_,_,_,_,h,_=>by simp[bY]at h
 |.tuple _,.str _,_,_,_,_,h,_=>by simp[bY]at h
 |.tuple _,.dict _,_,_,_,_,h,_=>by simp[bY]at h
 |.int _,.int _,.none,_,_,_,_,h=>by simp[bY]at h
 |.int _,.int _,.bool _,_,_,_,_,h=>by simp[bY]at h
 |.int _,.int _,.str _,_,_,_,_,h=>by simp[bY]at h
 |.int _,.int _,.list _,_,_,_,_,h=>by simp[bY]at h
 |.int _,.int _,.tuple _,_,_,_,_,h=>by simp[bY]at h
 |.int _,.int _,.dict _,_,_,_,_,h=>by simp[bY]at h
 |.str _,.str _,.none,_,_,_,_,h=>by simp[bY]at h
 |.str _,.str _,.bool _,_,_,_,_,h=>by simp[bY]at h
 |.str _,.str _,.int _,_,_,_,_,h=>by simp[bY]at h
 |.str _,.str _,.list _,_,_,_,_,h=>by simp[bY]at h
 |.str _,.str _,.tuple _,_,_,_,_,h=>by simp[bY]at h
 |.str _,.str _,.dict _,_,_,_,_,h=>by simp[bY]at h
 |.tuple _,.tuple _,.none,_,_,_,_,h=>by simp[bY]at h
 |.tuple _,.tuple _,.bool _,_,_,_,_,h=>by simp[bY]at h
 |.tuple _,.tuple _,.int _,_,_,_,_,h=>by simp[bY]at h
 |.tuple _,.tuple _,.list _,_,_,_,_,h=>by simp[bY]at h
 |.tuple _,.tuple _,.str _,_,_,_,_,h=>by simp[bY]at h
 |.tuple _,.tuple _,.dict _,_,_,_,_,h=>by simp[bY]at h
theorem DU:∀{xs ys zs:Yj},av xs=true->av ys=true->av zs=true->dy xs ys=some true->dy ys zs=some true->dy xs zs=some true
 | [],[],_,_,_,_,h,_=>by simp[dy]at h
 | [],_::_,[],_,_,_,_,h=>by simp[dy]at h
 | [],_::_,_::_,_,_,_,_,_=>by simp[dy]
 |_::_,[],_,_,_,_,h,_=>by simp[dy]at h
 |_::_,_::_,[],_,_,_,_,h=>by simp[dy]at h
 |x::xs,y::ys,z::zs,h,k,l,q,q'=>by
  simp only[av,Ux]at h k l;simp only[dy]at q q' ⊢;by_cases e1:x=y
  ·subst e1;rw[bf h.1,if_pos rfl]at q;by_cases e2:x=z
   ·subst e2;rw[bf h.1,if_pos rfl]at q' ⊢;exact DU h.2 k.2 l.2 q q'
   ·rw[aW h.1 l.1 e2,if_neg (by simp)]at q' ⊢;exact q'
  ·rw[aW h.1 k.1 e1,if_neg (by simp)]at q;by_cases e2:y=z
   ·subst e2;rw[aW h.1 k.1 e1,if_neg (by simp)];exact q
   ·rw[aW k.1 l.1 e2,if_neg (by simp)]at q';have q3:=Hu h.1 k.1 l.1 q q';by_cases e3:x=z
    ·subst e3;rw[DR h.1]at q3;cases q3
    ·rw[aW h.1 l.1 e3,if_neg (by simp)];exact q3
end
noncomputable def dJ(ds:Yj):Bool:=ds.all λa=>ds.all λb=>(bY a b).isSome
theorem fk(h:dJ ds=true)(ha:a∈ds)(hb:b∈ds):bY a b=some (ltB a b):=by
 have:=UM.mp (UM.mp h a ha) b hb;unfold ltB
 cases q:bY a b with
 |none=>grind
 |some k=>rfl
noncomputable def iJ:PyData->Bool|.tuple _=>true|_=>false
def uX:PyData->Bool|.str _=>true|_=>false
noncomputable def f7(ds:Yj):Bool:=(ds.all uX || ds.all iJ)&&av ds&&dJ ds&&decide (PyData.depthAll ds<=20)&&decide (ds.length<64)
noncomputable def nM:Fn:=λxs h=>match xs with
 | [x]=>match listOf x h with
  |some ds=>if f7 ds then .ok (.dat (.list (dD ltB ds))) h else .bad
  |Option.none=>.bad
 |_=>.bad
theorem uY(c:dJ ds=true)(t:av ds=true)(ha:a∈ds)(hb:b∈ds)(h:ltB a b=true):ltB b a=false:=by have h1:=fk c ha hb;rw[h]at h1;unfold ltB;rw[Ht (aY t ha) (aY t hb) h1];rfl
theorem qx(c:dJ ds=true)(t:av ds=true)(ha:a∈ds)(hb:b∈ds)(h:ltB b a=false):ltB a b=true\/a=b:=by
 cases q:ltB a b with
 |true=>grind
 |false=>have h1:=fk c ha hb;have h2:=fk c hb ha;rw[q]at h1;rw[h]at h2;exact .inr (DQ (aY t ha) (aY t hb) h1 h2)
theorem DV(c:dJ ds=true)(t:av ds=true)(ha:a∈ds)(hb:b∈ds)(hd:d∈ds)(h:ltB b a=false)(h':ltB d b=false):ltB d a=false:=by
 rcases qx c t ha hb h with h1|rfl
 ·rcases qx c t hb hd h' with h2|rfl
  ·have q1:=fk c ha hb;have q2:=fk c hb hd;rw[h1]at q1;rw[h2]at q2;have q3:=Hu (aY t ha) (aY t hb) (aY t hd) q1 q2;exact uY c t ha hd (by simp_all[ltB])
  grind
 grind
theorem rW(lt:PyData->PyData->Bool)(x:PyData):∀ys:Yj,(Cp lt x ys).Perm (x::ys)
 | []=>.refl _
 |y::ys=>by
  unfold Cp;split
  ·exact((rW lt x ys).cons y).trans (.swap x y ys)
  rfl
theorem ck(lt:PyData->PyData->Bool):∀xs:Yj,(dD lt xs).Perm xs
 | []=>.refl _
 |x::xs=>(rW lt x _).trans ((ck lt xs).cons x)
noncomputable def Up(lt:PyData->PyData->Bool)(xs:Yj):Prop:=xs.Pairwise λa b=>lt b a=false
structure Ord(lt:PyData->PyData->Bool)(ds:Yj):Prop where
 as:∀{a b},a∈ds->b∈ds->lt a b=true->lt b a=false
 ntr:∀{a b d},a∈ds->b∈ds->d∈ds->lt b a=false->lt d b=false->lt d a=false
 tot:∀{a b},a∈ds->b∈ds->lt a b=false->lt b a=false->a=b
theorem Ord.sub(o:Ord lt ds)(h:∀e∈es,e∈ds):Ord lt es:=
 ⟨λa b=>o.as (h _ a) (h _ b),λa b d=>o.ntr (h _ a) (h _ b) (h _ d),λa b=>o.tot (h _ a) (h _ b)⟩
theorem DX:∀{ys:Yj},Ord lt (x::ys)->Up lt ys->Up lt (Cp lt x ys)
 | [],_,_=>by simp[Cp,Up]
 |y::ys,o,u=>by
  unfold Cp;unfold Up at u;rw[Vh]at u;split
  ·rename_i h;refine Vh.mpr ⟨λb hb=>?_,DX (o.sub λe m=>by grind) u.2⟩;rcases UC.mp ((rW lt x ys).mem_iff.mp hb)with rfl|hb
   ·exact o.as (by simp) (by simp) h
   grind
  ·have h':lt y x=false:=by grind
   refine Vh.mpr ⟨λb hb=>?_,Vh.mpr u⟩;rcases UC.mp hb with rfl|hb
   ·exact h'
   ·exact o.ntr (by simp) (by simp) (by grind) h' (u.1 b hb)
theorem uZ:∀{xs:Yj},Ord lt xs->Up lt (dD lt xs)
 | [],_=>by simp[dD,Up]
 |x::xs,o=>DX (o.sub λe m=>by
     rcases UC.mp m with rfl|m
     ·simp
     ·simp[(ck lt xs).mem_iff.mp m]) (uZ (o.sub λe m=>by simp[m]))
theorem rX:∀{xs ys:Yj},Ord lt xs->xs.Perm ys->Up lt xs->Up lt ys->xs=ys
 | [],ys,_,p,_,_=>by simp_all
 |x::xs,ys,o,p,u,v=>by
  cases ys with
  |nil=>simp_all
  |cons y ys=>
   have hx:x∈y::ys:=p.mem_iff.mp (by simp);have hy:y∈x::xs:=p.mem_iff.mpr (by simp)
   have e:x=y:=by
    rcases UC.mp hx with e|hx
    ·exact e
    rcases UC.mp hy with e|hy
    ·grind
    exact o.tot (by simp) (by omega) ((Vh.mp v).1 x hx) ((Vh.mp u).1 y hy)
   subst e;rw[rX (o.sub λe m=>by simp[m]) (List.perm_cons x |>.mp p) (Vh.mp u).2 (Vh.mp v).2]
theorem iz(c:dJ ds=true)(t:av ds=true):Ord ltB ds where
 as:=λa b=>uY c t a b
 ntr:=λa b d=>DV c t a b d
 tot:=λ{a b} ha hb h h'=>by
  rcases qx c t ha hb h' with q|q
  ·grind
  grind
theorem AG(c:dJ ds=true)(t:av ds=true)(p:es.Perm ds)(u:Up ltB es):es=dD ltB ds:=
 rX ((iz c t).sub λe m=>p.mem_iff.mp m) (p.trans (ck ltB ds).symm) u (uZ (iz c t))
end Ml
namespace Ml
open PySem PySem.Spec L2
open Sem (wp)
mutual
theorem aU:∀{d:PyData},aE d=true->au d=true
 |.str _,_=>by rfl
 |.tuple ds,h=>by simp[aE]at h;exact qy h
 |.none,h=>by assumption
 |.bool _,h=>by assumption
 |.int _,h=>by rfl
 |.list _,h=>by assumption
 |.dict _,h=>by assumption
theorem qy:∀{ds:Yj},bx ds=true->av ds=true
 | [],_=>by rfl
 |d::ds,h=>by simp only[bx,Ux]at h;simp only[av,Ux];exact⟨aU h.1,qy h.2⟩
end
mutual
noncomputable def tj(w:World):PyData->Int
 |.str x=>hashStr w x
 |.tuple ds=>reduceHash (Builtin.Tuple.tupleHashOf (gS w ds))
 |_=>0
noncomputable def gS(w:World):Yj->List Int
 | []=>[]
 |d::ds=>tj w d::gS w ds
end
mutual
noncomputable def pI:PyData->Nat
 |.str _=>1
 |.tuple ds=>qz ds+1
 |_=>0
noncomputable def qz:Yj->Nat
 | []=>0
 |d::ds=>pI d+qz ds
end
mutual
theorem j0(k:∀b o vs n,h.get? b=some o->o.cls=.type "tuple" -> o.data=.seq vs n->h'.get? b=some o):∀{d:PyData} {v:Value} {as:Yk},aE d=true->Reads h v d as->Reads h' v d as
 |.str _,_,_,_,.str x t=>.str x t
 |.tuple ds,_,_,t,.tuple h1 h2 h3 h4=>.tuple (k _ _ _ _ h1 h2 h3) h2 h3 (qA k t h4)
 |.none,_,_,t,_=>by trivial
 |.bool _,_,_,t,_=>by trivial
 |.int _,_,_,t,_=>by trivial
 |.list _,_,_,t,_=>by trivial
 |.dict _,_,_,t,_=>by trivial
theorem qA{h h':Heap}(k:∀b o vs n,h.get? b=some o->o.cls=.type "tuple" -> o.data=.seq vs n->h'.get? b=some o):∀{ds:Yj} {vs:Yl} {as:Yk},bx ds=true->ReadsAll h vs ds as->ReadsAll h' vs ds as
 | [],_,_,_,.nil=>.nil
 |d::ds,_,_,t,.cons r1 r2=>by simp only[bx,Ux]at t;exact .cons (j0 k t.1 r1) (qA k t.2 r2)
end
section
variable {P:Yt} {w:World}
mutual
theorem pJ:∀(d:PyData) (A:Yv) (s:Yw) (v:Value) (as:Yk) (Q:Int->Yw->Prop) (E:Ye),aE d=true->Reads s.heap v d as->A.units+d.depth<cLine->Q (tj w d) {s with toks:=s.toks+pI d}->wpAny (model P w) A (pyHash v) Q E s
 |.str x,A,s,v,as,Q,E,_,r,hu,h=>by cases r;simp only[tj,pI]at h;exact wpAny_pyHash_str h
 |.tuple ds,A,s,v,as,Q,E,t,r,hu,h=>by
  cases r with
  |tuple ho hc hd hi=>
   rename_i a o items n;have hT:s.TypeIs (.ref a) "tuple" := ⟨o,ho,hc⟩;simp only[aE]at t;simp only[PyData.depth]at hu;simp only[tj,pI]at h;unfold pyHash
   first|unfold pyHashByItsType|skip
   first|refine Uu (wpAny_cRoomFor_or (.inr (by omega)) ?_)|skip
   refine Uu (WR hT WV.lookup ?_);show wpAny _ _ (if(some (Value.builtin "tuple.__hash__")==some Value.none)=true then _ else _) Q E s;rw[if_neg (by rw[beq_builtin_none];exact UY)];refine Uu (WR hT WV.lookup ?_);show wpAny _ _ (callSpecialIfBoundUnlessNone? (.ref a) "__hash__" _ >>= _) Q E s;refine Uu (wpAny_callSpecialIfBoundUnlessNone?_slot hT WV (U6 WV hT F.entry_tuple_hash ?_ (F.args_tuple_hash_1 _)));show wpAny _ _ (Builtin.Tuple.tupleItemsOf (.ref a) >>= _) _ _ s;refine Uu (wpAny_tupleItemsOf ho hd ?_);refine Uu ?_;rw[<- Xn];refine qB ds A.in1 s items.toList _ #[] _ _ _ t hi (by show A.units+1+_<_;omega) ?_ ?_
   ·intro x b s' R k
    first
     |exact Uu (VA k (λc s2 q=>Uw q) λ_ _ z=>z)
     |exact Uu (VA k (λc s2 q=>Uu (Uw (Uw q))) λ_ _ z=>z)
   ·show wpAny _ _ (retInt (Builtin.Tuple.tupleHashOf (#[]++(gS w ds).toArray).toList)) _ _ _;have e1:(#[]++(gS w ds).toArray).toList=gS w ds:=by simp
    rw[e1];refine wpAny_ret_mkInt ?_;show wpAny _ _ (if(decide (-(2:Int)^63<=Builtin.Tuple.tupleHashOf (gS w ds))&&decide (Builtin.Tuple.tupleHashOf (gS w ds)<2^63))=true then _ else _) Q E _;unfold reduceHash at h;by_cases hr:(decide (-(2:Int)^63<=Builtin.Tuple.tupleHashOf (gS w ds))&&decide (Builtin.Tuple.tupleHashOf (gS w ds)<2^63))=true
    ·rw[if_pos hr];rw[if_pos hr]at h;exact Uw (by simpa [Nat.add_assoc]using h)
    ·rw[if_neg hr];rw[if_neg hr]at h;exact Uu (Wl (Uw (by simpa [Nat.add_assoc]using h)))
 |.none,_,_,_,_,_,_,t,_,_,_=>by simp[aE]at t
 |.bool _,_,_,_,_,_,_,t,_,_,_=>by simp[aE]at t
 |.int _,_,_,_,_,_,_,t,_,_,_=>by simp[aE]at t
 |.list _,_,_,_,_,_,_,t,_,_,_=>by simp[aE]at t
 |.dict _,_,_,_,_,_,_,t,_,_,_=>by simp[aE]at t
theorem qB:∀(ds:Yj) (A:Yv) (s:Yw) (vs:Yl) (as:Yk) (acc:Array Int) (R:Array Int->Yw->Prop) (E':Ye) (body:Value->Array Int->Sem (ForInStep (Array Int))),bx ds=true->ReadsAll s.heap vs ds as->A.units+PyData.depthAll ds<cLine ->
  (∀(x:Value) (b:Array Int) (s':Yw) (R':ForInStep (Array Int)->Yw->Prop),wpAny (model P w) A (pyHash x) (λc s2=>R' (.yield (b.push c)) s2) E' s'->wpAny (model P w) A (body x b) R' E' s') ->
  R (acc++(gS w ds).toArray) {s with toks:=s.toks+qz ds}->wpAny (model P w) A (forIn vs acc body) R E' s
 | [],A,s,_,_,acc,R,E',body,_,.nil,_,hb,h=>by rw[Xz];simp only[gS,qz]at h;exact Uw (by simpa using h)
 |d::ds,A,s,_,_,acc,R,E',body,t,.cons r1 r2,hu,hb,h=>by simp only[bx,Ux]at t;simp only[PyData.depthAll]at hu;rw[V3];refine Uu (hb _ _ _ _ ?_);refine pJ d A s _ _ _ E' t.1 r1 (by omega) ?_;refine qB ds A _ _ _ (acc.push (tj w d)) R E' body t.2 r2 (by omega) hb ?_;simp only[gS,qz]at h;simpa [Nat.add_assoc]using h
end
mutual
theorem jf:∀(d:PyData) (n:Nat) (A:Yv) (s:Yw) (v:Value) (as:Yk) (Q:Bool->Yw->Prop) (E:Ye),aE d=true->d.depth<=n->Reads s.heap v d as->Q true s->wpAny (model P w) A (eqIsQuiet n v) Q E s
 |.str x,n,A,s,v,as,Q,E,_,_,r,h=>by cases r;rw[eqIsQuiet_byValue n rfl];exact Uw h
 |.tuple ds,n,A,s,v,as,Q,E,t,hn,r,h=>by
  cases r with
  |tuple ho hc hd hi=>
   rename_i a o items k;have hT:s.TypeIs (.ref a) "tuple" := ⟨o,ho,hc⟩;simp only[aE]at t;simp only[PyData.depth]at hn;obtain⟨m,rfl⟩:∃m,n=m+1:=⟨n-1,by omega⟩;unfold eqIsQuiet;refine Uu (WR hT F.slot_tuple_eq.lookup ?_);show wpAny _ _ (isInstance (.ref a) (.type "tuple") >>= _) _ _ s;refine Uu (XI hT isSubtype_tuple_tuple ?_);simp only[WW,UK,Vr];refine Uu (Vw ho hd ?_);refine Uu ?_;show wpAny _ _ (forIn items _ _) _ _ s;rw[<- Xn];refine qC ds m A s items.toList _ _ E _ t (by omega) hi ?_ ?_
   ·intro x s' R k;refine Uu (VA k (λc s2 q=>?_) λ_ _ z=>z);obtain⟨rfl,q⟩:=q;simp only[WW,UK,Vr];exact Uw q
   ·exact Uw h
 |.none,_,_,_,_,_,_,_,t,_,_,_=>by simp[aE]at t
 |.bool _,_,_,_,_,_,_,_,t,_,_,_=>by simp[aE]at t
 |.int _,_,_,_,_,_,_,_,t,_,_,_=>by simp[aE]at t
 |.list _,_,_,_,_,_,_,_,t,_,_,_=>by simp[aE]at t
 |.dict _,_,_,_,_,_,_,_,t,_,_,_=>by simp[aE]at t
theorem qC:∀(ds:Yj) (n:Nat) (A:Yv) (s:Yw) (vs:Yl) (as:Yk) (R:Option Bool×Unit->Yw->Prop) (E:Ye) (body:Value->Option Bool×Unit->Sem (ForInStep (Option Bool×Unit))),bx ds=true->PyData.depthAll ds<=n->ReadsAll s.heap vs ds as ->
  (∀(x:Value) (s':Yw) (R':ForInStep (Option Bool×Unit)->Yw->Prop),wpAny (model P w) A (eqIsQuiet n x) (λc s2=>c=true/\R' (.yield (none,())) s2) E s'->wpAny (model P w) A (body x (none,())) R' E s') ->
  R (none,()) s->wpAny (model P w) A (forIn vs (none,()) body) R E s
 | [],n,A,s,_,_,R,E,body,_,_,.nil,hb,h=>by rw[Xz];exact Uw h
 |d::ds,n,A,s,_,_,R,E,body,t,hn,.cons r1 r2,hb,h=>by simp only[bx,Ux]at t;simp only[PyData.depthAll]at hn;rw[V3];refine Uu (hb _ _ _ (jf d n A s _ _ _ E t.1 (by omega) r1 ⟨rfl,?_⟩));exact qC ds n A s _ _ R E body t.2 (by omega) r2 hb h
end
end
noncomputable def NT(h:Heap)(d:PyData)(a:Addr):Prop:=aE d=true/\d.depth<=8/\dz d=true/\∃as,Reads h (.ref a) d as
noncomputable instance Ts:DecidableEq PyData:=λa b=>Classical.propDecidable (a=b)
noncomputable def fc(P:Yt)(w:World):HeapKind P w PyData where
 is:=NT
 hash:=tj w
 draws:=pI
 room:=λA=>A.units+20<cLine
 inj:=λ{h a x y} ⟨_,_,_,as,hx⟩ ⟨_,_,_,bs,hy⟩=>(PySem.Reads.unique hx _ _ hy).1
 keeps:=λ{h h' k a d o es ep} ⟨t,dp,so,as,r⟩ ho hd hs=>⟨t,dp,so,as,j0 (λb ob vs n e c dd=>by
  have ne:b≠d:=λz=>by subst z;rw[ho]at e;cases e;rw[hd]at dd;cases dd
  exact(hs.2 b ne).trans e) t r⟩
 pyHash:=λ{A E s k a Q} hu ⟨t,dp,_,as,r⟩ h=>pJ k A s _ as Q E t r (by omega) h
 eqBool:=λ{A E s x y a b Q} hu ⟨t1,d1,s1,as,r1⟩ ⟨t2,d2,s2,bs,r2⟩ h=>by
  have hq:PyData.eqv x y=decide (x=y):=by
   by_cases e:x=y
   ·subst e;rw[Vc rfl];exact bf (aU t1)
   ·rw[U0 e];exact aW (aU t1) (aU t2) e
  have:=XN x y A s _ _ _ _ r1 r2 (jC s1 (dZ (aU t1))) (jC s2 (dZ (aU t2))) (by omega) P w E Q;rw[hq]at this;exact this h
 quiet:=λ{A E s k a Q} ⟨t,dp,_,as,r⟩ h=>jf k 8 A s _ as Q E t dp r h
noncomputable def dO(P:Yt)(w:World)(xs:List (PyData×Addr×Value))(a:Addr):HO:=.ext λh=>xs.length<=sizeLine/\(a==sysModules)=false/\∃o es ep,h.get? a=some o/\o.ExactDict/\o.data=.dict es ep/\es.toList=xs.map (entryOfKey (fc P w))/\(xs.map (·.1)).Nodup
theorem Mh(h1:xs.length<=sizeLine)(h2:(a==sysModules)=false)(h3:h.get? a=some o)(h4:o.ExactDict)(h5:o.data=.dict es ep)(h6:es.toList=xs.map (entryOfKey (fc P w)))(h7:(xs.map (·.1)).Nodup):bM P w H h a (dO P w xs a):=
 ⟨⟨h1,h2,o,es,ep,h3,h4,h5,h6,h7⟩,⟨o,h3⟩,by rintro g1 g2 ⟨k1,k2,o',es',ep',k3,k4⟩ hk;exact⟨k1,k2,o',es',ep',hk _ k3,k4⟩⟩
end Ml
namespace Ml
open PySem PySem.Spec L2
noncomputable def view(θ:Yk)(H:Hp):Hp:=λa=>if a∈θ then none else H a
theorem cL(h:view θ H a=some o):a∉θ/\H a=some o:=by
 simp_all[view]
theorem dB(h:a∉θ):view θ H a=H a:=if_neg h
theorem aC(θ:Yk)(H:Hp):aT (view θ H) H:=λa o h=>(cL h).2
noncomputable def qF(M:Hp)(p:PyData×PyData)(q:PyData×Addr×Value):Prop:=p.1=q.1/\aE p.1=true/\p.1.depth<=8/\dz p.1=true/\Rep M p.1 (.ref q.2.1)/\∃v,RelV v q.2.2/\Rep M p.2 v/\dz p.2=true
noncomputable def fH(P:Yt)(w:World)(M G:Hp)(a:Addr)(t:Bool)(kvs:Yg):Prop:=
 (t=false/\∃ks,G a=some (.dK ks)/\aS ks=some kvs/\∀p∈kvs,dz p.1=true/\dz p.2=true)\/(t=true/\∃xs,G a=some (dO P w xs a)/\Paired (qF M) kvs xs)
structure Gx where
 P:Yt
 w:World
 mg:Str->Option Value
 K:Ym
noncomputable def NU:PyData->V
 |.int i=>.int i
 |.str x=>.str x
 |.bool b=>.bl b
 |_=>.non
noncomputable def Hv(K:Ym)(a:Addr)(xs:Yj):Prop:=(∃(o:Obj) (its:Yr) (n:Nat),K.lookup a=some o/\o.cls=.type "tuple" /\ o.data=.seq its n/\its.size<=sizeLine/\Vals (xs.map NU) its.toList)/\(∀x∈xs,(match x with|.int _|.str _|.bool _|.none=>true|_=>false)=true)/\cK xs=true
noncomputable def Qi(G:Gx)(x:Xc)(cls:Value)(da:Option Addr)(M:Hp):Prop:=G.mg x.cls=some cls/\da=none/\x.args=[]
noncomputable def bT(G:Gx)(θ:Yk)(H:Hp):D->V->Prop
 |.dat d,v=>Rep (view θ H) d v/\dz d=true
 |.ref i,v=>∃a,θ[i]?=some a/\v=.ref a
 |.jX t kvs,v=>∃a,v=.ref a/\fH G.P G.w (view θ H) (view θ H) a t kvs
 |.set _,_=>False
 |.fn n,v=>∃f,G.mg n=some (.ref f)/\v=.ref f
 |.scr ns,v=>∃a,v=.ref a/\i8 G.K (view θ H) a (ns.map V.int)
 |.ktup xs,v=>∃a,v=.ref a/\Hv G.K a xs
 |.rpr x,v=>v=.str x
 |.exc x,v=>∃a cls,v=.ref a/\view θ H a=some (.ext (dN a cls))/\Qi G x cls none (view θ H)
noncomputable abbrev bh(G:Gx)(θ:Yk)(H:Hp):List D->List V->Prop:=Paired (bT G θ H)
noncomputable def TabAt(θ:Yk)(H:Hp)(P:Addr)(q:Str):Prop:=∃ps:Yr,H P=some (.tbl ps)/\TriplesOk ps.toList/\∀(pos:Pos) (c:Value),codeAmong pos ps.toList=some c->∃b,c=.ref b/\b≠P/\view θ H b=some (.ext (recAt b q))
theorem TabAt.same(s:aT (view θ H) (view θ' H'))(e:∀o,H P=some o->H' P=some o)(x:TabAt θ H P q):TabAt θ' H' P q:=by obtain⟨ps,h1,h2,h3⟩:=x;exact⟨ps,e _ h1,h2,λpos c k=>by obtain⟨b,k1,k2,k3⟩:=h3 pos c k;exact⟨b,k1,k2,s _ _ k3⟩⟩
theorem TabAt.ok(x:TabAt θ H P q):xR H P q:=by obtain⟨ps,h1,h2,h3⟩:=x;exact⟨ps,h1,h2,λpos c k=>by obtain⟨b,k1,k2,k3⟩:=h3 pos c k;exact⟨b,k1,k2,(cL k3).2⟩⟩
noncomputable def Cq(G:Gx)(θ:Yk)(H:Hp)(a:Addr):MO->Prop
 |.lst xs=>∃vs,H a=some (.lst vs)/\bh G θ H xs vs
 |.jX t kvs=>fH G.P G.w (view θ H) H a t kvs
 |.ins _ _=>False
 |.tab P q=>a=P/\TabAt θ H P q
structure W(G:Gx)(θ:Yk)(h:Hm)(H:Hp):Prop where
 len:θ.length=h.length
 nd:θ.Nodup
 obj:∀(i:Nat) (a:Addr) (o:MO),θ[i]?=some a->h[i]?=some o->Cq G θ H a o
noncomputable def Fr(G:Gx)(θ:Yk)(H:Hp)(ρ:Fm)(σ:St):Prop:=ρ.length=σ.length/\∀(i:Nat) (d:D),ρ[i]?=some (some d)->∃v,σ[i]?=some (some v)/\bT G θ H d v
structure Ev(θ:Yk)(H:Hp)(θ':Yk)(H':Hp):Prop where
 pre:∃ext,θ'=θ++ext
 same:aT (view θ H) (view θ' H')
section
variable {G:Gx} {θ θ' θ'':Yk} {H H' H'':Hp} {h h':Hm} {d:D} {v:V} {ρ:Fm} {σ:St}
theorem Ev.refl:Ev θ H θ H:=⟨⟨[],by simp⟩,aT.refl _⟩
theorem Ev.trans(a:Ev θ H θ' H')(b:Ev θ' H' θ'' H''):Ev θ H θ'' H'':=by obtain⟨e1,rfl⟩:=a.pre;obtain⟨e2,rfl⟩:=b.pre;exact⟨⟨e1++e2,by simp⟩,a.same.trans b.same⟩
theorem Ev.get(a:Ev θ H θ' H'){i:Nat}{x:Addr}(e:θ[i]?=some x):θ'[i]?=some x:=by obtain⟨ext,rfl⟩:=a.pre;rw[UX (by have:=UB.mp e;exact this.1)];exact e
theorem qF.same(s:aT M M')(h:qF M p q):qF M' p q:=by obtain⟨h1,h2,h3,h4,h5,v,h6,h7,h8⟩:=h;exact⟨h1,h2,h3,h4,h5.same s,v,h6,h7.same s,h8⟩
theorem fH.same{M M' G G':Hp}(s:aT M M')(h:fH P w M G a t kvs)(e:∀o,G a=some o->G' a=some o):fH P w M' G' a t kvs:=by
 rcases h with⟨ht,ks,h1,h2⟩|⟨ht,xs,h1,h2⟩
 ·exact .inl ⟨ht,ks,e _ h1,h2⟩
 ·exact .inr ⟨ht,xs,e _ h1,Paired.wU h2 λ_ _=>qF.same s⟩
theorem fH.some{M G:Hp}(h:fH P w M G a t kvs):G a≠none:=by
 rcases h with⟨_,ks,h1,_⟩|⟨_,xs,h1,_⟩
 ·grind
 grind
theorem bT.ev(e:Ev θ H θ' H')(r:bT G θ H d v):bT G θ' H' d v:=by
 cases d with
 |dat d=>exact⟨r.1.same e.same,r.2⟩
 |ref i=>obtain⟨a,h1,h2⟩:=r;exact⟨a,e.get h1,h2⟩
 |jX t kvs=>obtain⟨a,h1,h2⟩:=r;exact⟨a,h1,h2.same e.same λo=>e.same a o⟩
 |set xs=>exact r
 |fn n=>exact r
 |scr ns=>obtain⟨a,h1,h2⟩:=r;exact⟨a,h1,e.same.seq h2⟩
 |ktup xs=>exact r
 |rpr x=>exact r
 |exc x=>obtain⟨a,c,h1,h2,h3⟩:=r;exact⟨a,c,h1,e.same _ _ h2,h3⟩
theorem bh.ev(e:Ev θ H θ' H')(r:bh G θ H ds vs):bh G θ' H' ds vs:=Paired.wU r λ_ _=>bT.ev e
theorem Fr.ev(e:Ev θ H θ' H')(r:Fr G θ H ρ σ):Fr G θ' H' ρ σ:=⟨r.1,λi d q=>by obtain⟨v,h1,h2⟩:=r.2 i d q;exact⟨v,h1,h2.ev e⟩⟩
theorem Fr.set(r:Fr G θ H ρ σ)(q:bT G θ H d v):Fr G θ H (ρ.set i (some d)) (σ.set i (some v)):=by
 refine⟨by simp[r.1],λj e he=>?_⟩;by_cases hj:i=j
 ·subst hj;by_cases hl:i<ρ.length
  ·rw[VI hl]at he;cases he;exact⟨v,by rw[VI (by rw[<- r.1];exact hl)],q⟩
  simp_all
 ·rw[W0 hj]at he ⊢;exact r.2 j e he
theorem Fr.replicate(n:Nat)(r:Fr G θ H ρ σ):Fr G θ H (List.replicate n none++ρ) (List.replicate n none++σ):=by
 refine⟨by simp[r.1],λi d e=>?_⟩;by_cases hi:i<n
 ·rw[UX (by simp_all),Ww]at e
  grind
 ·rw[Vb (by simp;omega)]at e ⊢;simp at e ⊢;exact r.2 _ d e
theorem Hw(hp:H p=none)(hn:p∉θ):Ev θ H θ (upd H p o):=⟨⟨[],by simp⟩,λa u q=>by
 obtain⟨h1,h2⟩:=cL q;rw[dB h1,ak (ay h2 hp)]
 exact h2⟩
theorem Cq.some(o:MO)(r:Cq G θ H a o):H a≠none:=by
 cases o with
 |lst xs=>obtain⟨vs,e,_⟩:=r;grind
 |jX t kvs=>exact fH.some r
 |ins=>trivial
 |tab P q=>obtain⟨rfl,ps,e,_⟩:=r;grind
theorem W.DY(w:W G θ h H)(hp:H p=none):p∉θ:=λm=>by
 obtain⟨i,hi,e⟩:=VX.mp m;have hl:i<h.length:=by rw[<- w.len];exact hi
 exact Cq.some _ (w.obj i p h[i] (by simp_all) (UH hl)) hp
theorem W.put(w:W G θ h H)(hp:H p=none):Ev θ H θ (upd H p o)/\W G θ h (upd H p o)/\view θ (upd H p o) p=some o:=by
 have hn:=w.DY hp;have e:=Hw (o:=o) hp hn;refine⟨e,⟨w.len,w.nd,λi a m h1 h2=>?_⟩,by rw[dB hn,aJ]⟩;have r:=w.obj i a m h1 h2;have ha:a≠p:=λz=>by subst z;exact hn (UO h1)
 cases m with
 |lst xs=>obtain⟨vs,q1,q2⟩:=r;exact⟨vs,by rw[ak ha];exact q1,q2.ev e⟩
 |jX t kvs=>exact fH.same e.same r λo q=>by rw[ak ha];exact q
 |ins=>trivial
 |tab P q=>obtain⟨rfl,x⟩:=r;exact⟨rfl,x.same e.same λo q=>by rw[ak ha];exact q⟩
theorem W.grow(w:W G θ h H)(s:aT H H'):Ev θ H θ H'/\W G θ h H':=by
 have e:Ev θ H θ H':=⟨⟨[],by simp⟩,λa u q=>by
  obtain⟨h1,h2⟩:=cL q;rw[dB h1]
  exact s _ _ h2⟩
 refine⟨e,⟨w.len,w.nd,λi a m h1 h2=>?_⟩⟩;have r:=w.obj i a m h1 h2
 cases m with
 |lst xs=>obtain⟨vs,q1,q2⟩:=r;exact⟨vs,s _ _ q1,q2.ev e⟩
 |jX t kvs=>exact fH.same e.same r λo q=>s _ _ q
 |ins=>trivial
 |tab P q=>obtain⟨rfl,x⟩:=r;exact⟨rfl,x.same e.same λo q=>s _ _ q⟩
theorem W.alloc(w:W G θ h H)(hp:H p=none)(ho:Cq G (θ++[p]) (upd H p o) p m):Ev θ H (θ++[p]) (upd H p o)/\W G (θ++[p]) (h++[m]) (upd H p o):=by
 have hn:=w.DY hp
 have e:Ev θ H (θ++[p]) (upd H p o):=⟨⟨[p],rfl⟩,λa u q=>by
  obtain⟨h1,h2⟩:=cL q;have ne:=ay h2 hp;rw[dB (by grind),ak ne]
  exact h2⟩
 refine⟨e,⟨by simp[w.len],?_,λi a m' h1 h2=>?_⟩⟩
 ·rw[Xv];exact⟨w.nd,by simp,λx hx y hy z=>by grind⟩
 ·by_cases hi:i<θ.length
  ·rw[UX hi]at h1;rw[UX (by rw[<- w.len];exact hi)]at h2;have r:=w.obj i a m' h1 h2;have ha:a≠p:=λz=>by subst z;exact hn (UO h1)
   cases m' with
   |lst xs=>obtain⟨vs,q1,q2⟩:=r;exact⟨vs,by rw[ak ha];exact q1,q2.ev e⟩
   |jX t kvs=>exact fH.same e.same r λo q=>by rw[ak ha];exact q
   |ins=>exact r.elim
   |tab P q=>obtain⟨rfl,x⟩:=r;exact⟨rfl,x.same e.same λo q=>by rw[ak ha];exact q⟩
  ·rw[Vb (by omega)]at h1;rw[Vb (by rw[<- w.len];omega),<- w.len]at h2
   cases hk:i-θ.length with
   |zero=>rw[hk]at h1 h2;simp at h1 h2;subst h1;subst h2;exact ho
   |succ k=>rw[hk]at h1;simp at h1
theorem W.write(w:W G θ h H)(hi:θ[i]?=some p)(hl:i<h.length)(ho:Cq G θ (upd H p o) p m):Ev θ H θ (upd H p o)/\W G θ (h.set i m) (upd H p o):=by
 have hm:p∈θ:=UO hi
 have e:Ev θ H θ (upd H p o):=⟨⟨[],by simp⟩,λa u q=>by
  obtain⟨h1,h2⟩:=cL q;have ne:a≠p:=λz=>by grind
  simp_all[dB,h1,ak,ne]⟩
 refine⟨e,⟨by simp[w.len],w.nd,λj a m' h1 h2=>?_⟩⟩;by_cases hj:i=j
 ·simp_all
 ·rw[W0 hj]at h2
  have ha:a≠p:=λz=>by
   subst z;obtain⟨l1,e1⟩:=UB.mp hi;obtain⟨l2,e2⟩:=UB.mp h1;have pw:=Vy.mp w.nd;rcases Nat.lt_or_gt_of_ne hj with z|z
   ·exact pw i j l1 l2 z (e1.trans e2.symm)
   ·exact pw j i l2 l1 z (e2.trans e1.symm)
  have r:=w.obj j a m' h1 h2
  cases m' with
  |lst xs=>obtain⟨vs,q1,q2⟩:=r;exact⟨vs,by rw[ak ha];exact q1,q2.ev e⟩
  |jX t kvs=>exact fH.same e.same r λo q=>by rw[ak ha];exact q
  |ins=>exact r.elim
  |tab P q=>obtain⟨rfl,x⟩:=r;exact⟨rfl,x.same e.same λo q=>by rw[ak ha];exact q⟩
end
abbrev XP:=Xc->Yk->Hm->Hp->Prop
noncomputable def aI{α:Type}(G:Gx)(E:XP)(θ:Yk)(H:Hp):R α->(α->Yk->Hm->Hp->Prop)->Prop
 |.ok a h',K=>∀θ' H',Ev θ H θ' H'->W G θ' h' H'->K a θ' h' H'
 |.exc x h',_=>∀θ' H',Ev θ H θ' H'->W G θ' h' H'->E x θ' h' H'
 |.bad,_=>False
section
variable {α β:Type} {G:Gx} {E E':XP} {θ θ':Yk} {H H':Hp} {h:Hm} {r:R α} {f:α->Hm->R β} {K K':α->Yk->Hm->Hp->Prop}
theorem aI.mono(p:aI G E θ H r K)(k:∀a θ' h' H',Ev θ H θ' H'->W G θ' h' H'->K a θ' h' H'->K' a θ' h' H'):aI G E θ H r K':=by
 cases r with
 |ok a h'=>exact λθ' H' e w=>k _ _ _ _ e w (p θ' H' e w)
 |exc x h'=>exact p
 |bad=>exact p
theorem aI.later(p:aI G E θ H r K)(e:Ev θ H θ' H'):aI G E θ' H' r K:=by
 cases r with
 |ok a h'=>exact λθ2 H2 e2 w=>p θ2 H2 (e.trans e2) w
 |exc x h'=>exact λθ2 H2 e2 w=>p θ2 H2 (e.trans e2) w
 |bad=>exact p
theorem aI.bind(p:aI G E θ H (r.bind f) L):aI G E θ H r λa θ1 h1 H1=>Ev θ H θ1 H1/\W G θ1 h1 H1/\aI G E θ1 H1 (f a h1) L:=by
 cases r with
 |ok a h'=>exact λθ1 H1 e w=>⟨e,w,aI.later p e⟩
 |exc x h'=>exact p
 |bad=>exact p
end
noncomputable def qG(G:Gx)(E:XK):XP:=λx θ _ H=>∀cls da,Qi G x cls da (view θ H)->E cls da H
noncomputable def KV(G:Gx)(Q:VK):D->Yk->Hm->Hp->Prop:=λd θ _ H=>∀v,bT G θ H d v->Q v H
noncomputable def Ug(G:Gx)(Q:List V->Hp->Prop):List D->Yk->Hm->Hp->Prop:=λds θ _ H=>∀vs,bh G θ H ds vs->Q vs H
noncomputable def KS(G:Gx)(C:Ends):Fl->Yk->Hm->Hp->Prop:=λf θ _ H=>match f with
 |.nx ρ=>∀σ,Fr G θ H ρ σ->C.nx σ H
 |.rt d=>∀v,bT G θ H d v->C.rt v H
 |.bk ρ=>∀σ,Fr G θ H ρ σ->C.bk σ H
 |.ct ρ=>∀σ,Fr G θ H ρ σ->C.ct σ H
noncomputable def lE(G:Gx)(E:XK)(m:ME):TE:=λσ H Q=>∃θ h ρ,W G θ h H/\Fr G θ H ρ σ/\aI G (qG G E) θ H (m ρ h) (KV G Q)
noncomputable def lT(G:Gx)(E:XK)(m:MT):TT:=λσ H Q=>∃θ h ρ,W G θ h H/\Fr G θ H ρ σ/\aI G (qG G E) θ H (m ρ h) (λb _ _ H'=>Q b H')
noncomputable def lA(G:Gx)(E:XK)(m:MA):TA:=λσ H Q=>∃θ h ρ,W G θ h H/\Fr G θ H ρ σ/\aI G (qG G E) θ H (m ρ h) (Ug G Q)
noncomputable def lS(G:Gx)(E:XK)(m:MS):TS:=λC σ H=>∃θ h ρ,W G θ h H/\Fr G θ H ρ σ/\aI G (qG G E) θ H (m ρ h) (KS G C)
noncomputable def lG(G:Gx)(E:XK)(g:MG):TG:=λv σ H Q=>∃θ h ρ d,W G θ h H/\Fr G θ H ρ σ/\bT G θ H d v/\aI G (qG G E) θ H (g d ρ h) (λρ' θ' _ H'=>∀σ',Fr G θ' H' ρ' σ'->Q σ' H')
noncomputable abbrev _root_.L2.Cx.G(X:Cx):Gx:=⟨X.prog,X.w,X.mg,X.K⟩
@[irreducible] noncomputable def DE(X:Cx)(E:XK)(m:ME)(e:Expr):Prop:=PE X e (lE X.G E m)
theorem bA(X:Cx)(E:XK)(m:ME)(e:Expr):DE X E m e=(PE X e (lE X.G E m)):=by
 grind[DE]
@[irreducible] noncomputable def DT(X:Cx)(E:XK)(m:MT)(e:Expr):Prop:=PT X e (lT X.G E m)
theorem qH(X:Cx)(E:XK)(m:MT)(e:Expr):DT X E m e=(PT X e (lT X.G E m)):=by
 grind[DT]
@[irreducible] noncomputable def DA(X:Cx)(E:XK)(m:MA)(es:Yo):Prop:=PA X es (lA X.G E m)
theorem j3(X:Cx)(E:XK)(m:MA)(es:Yo):DA X E m es=(PA X es (lA X.G E m)):=by
 grind[DA]
@[irreducible] noncomputable def DS(X:Cx)(E:XK)(m:MS)(s:Stmt):Prop:=PS X s (lS X.G E m)
theorem mn(X:Cx)(E:XK)(m:MS)(s:Stmt):DS X E m s=(PS X s (lS X.G E m)):=by
 grind[DS]
@[irreducible] noncomputable def DZ(X:Cx)(E:XK)(m:MS)(s:List Stmt):Prop:=xB X s (lS X.G E m)
theorem mr(X:Cx)(E:XK)(m:MS)(s:List Stmt):DZ X E m s=(xB X s (lS X.G E m)):=by
 grind[DZ]
@[irreducible] noncomputable def DG(X:Cx)(E:XK)(m:MG)(e:Expr):Prop:=PG X e (lG X.G E m)
theorem qI(X:Cx)(E:XK)(m:MG)(e:Expr):DG X E m e=(PG X e (lG X.G E m)):=by
 grind[DG]
theorem PE.imp(h:PE X e t)(k:∀σ H Q,t' σ H Q->t σ H Q):PE X e t':=λpins s σ H Q I q=>h pins s σ H Q I (k _ _ _ q)
theorem PT.imp(h:PT X e t)(k:∀σ H Q,t' σ H Q->t σ H Q):PT X e t':=λpins s σ H Q I q=>h pins s σ H Q I (k _ _ _ q)
theorem PA.imp(h:PA X e t)(k:∀σ H Q,t' σ H Q->t σ H Q):PA X e t':=λpos pins s σ H Q I q=>h pos pins s σ H Q I (k _ _ _ q)
theorem PS.imp(h:PS X e t)(k:∀C σ H,t' C σ H->t C σ H):PS X e t':=λpins s σ H C I q=>h pins s σ H C I (k _ _ _ q)
theorem xB.imp(h:xB X e t)(k:∀C σ H,t' C σ H->t C σ H):xB X e t':=λpins s σ H C I q=>h pins s σ H C I (k _ _ _ q)
noncomputable def NV(G:Gx)(E:XK)(f:D->D->Hm->R D):R2:=λx y H Q=>∃θ h d1 d2,W G θ h H/\bT G θ H d1 x/\bT G θ H d2 y/\aI G (qG G E) θ H (f d1 d2 h) (KV G Q)
noncomputable def Tt(G:Gx)(E:XK)(f:Fn):List V->Hp->VK->Prop:=λxs H Q=>∃θ h ds,W G θ h H/\bh G θ H ds xs/\aI G (qG G E) θ H (f ds h) (KV G Q)
noncomputable def pK(X:Cx)(E:XK)(op:Value->Value->Sem Value)(f:D->D->Hm->R D):Prop:=i6 X op (NV X.G E f)
noncomputable def u0(X:Cx)(E:XK)(v:Value)(f:Fn):Prop:=dC X v (Tt X.G E f)
theorem i6.imp(h:i6 X op r)(k:∀x y H Q,r' x y H Q->r x y H Q):i6 X op r':=λpins s σ H x y v u Q I rx ry q=>h pins s σ H x y v u Q I rx ry (k _ _ _ _ q)
theorem dC.imp(h:dC X f r)(k:∀xs H Q,r' xs H Q->r xs H Q):dC X f r':=λpins s σ H xs us Q I r q=>h pins s σ H xs us Q I r (k _ _ _ q)
theorem pK.of(h:i6 X op r)
 (k:∀θ hm H d1 d2 x y Q,W X.G θ hm H->bT X.G θ H d1 x->bT X.G θ H d2 y->aI X.G (qG X.G E) θ H (f d1 d2 hm) (KV X.G Q)->r x y H Q):pK X E op f:=
 i6.imp h (by rintro x y H Q ⟨θ,hm,d1,d2,w,r1,r2,p⟩;exact k θ hm H d1 d2 x y Q w r1 r2 p)
theorem u0.of(h:dC X v r)
 (k:∀θ hm H ds xs Q,W X.G θ hm H->bh X.G θ H ds xs->aI X.G (qG X.G E) θ H (f ds hm) (KV X.G Q)->r xs H Q):u0 X E v f:=
 dC.imp h (by rintro xs H Q ⟨θ,hm,ds,w,r1,p⟩;exact k θ hm H ds xs Q w r1 p)
section
variable {X:Cx} {E:XK} {m a b c:ME} {t u:MT} {e e1 e2 e3:Expr} {es:Yo} {ma:MA} {pos:Pos} {i:Nat} {x:Str}
theorem NW(hN:X.N[i]?=some x)(hv:Gq X.env.scope x)(hd:(x==("__debug__" : Str))=false:=by decide)(hcd:(x==("__classdict__" : Str))=false:=by decide):DE X E (af i) (.Name x pos):=by
 simp only[bA]at *
 exact PE.imp (yG hN hv hd hcd) (by
   rintro σ H Q ⟨θ,h,ρ,w,fr,p⟩;unfold af at p
   cases e:ρ[i]? with
   |none=>rw[e]at p;exact p.elim
   |some o=>
    cases o with
    |none=>rw[e]at p;exact p.elim
    |some d=>
     rw[e]at p;obtain⟨v,h1,h2⟩:=fr.2 i d e
     exact⟨v,h1,p θ H Ev.refl w v h2⟩)
theorem Hx(h:PE X e (tC v))(r:∀G,Rep G d v)(s:dz d=true):DE X E (ah d) e:=by simp[bA]at *;exact PE.imp h (by rintro σ H Q ⟨θ,hm,ρ,w,fr,p⟩;exact p θ H Ev.refl w v ⟨r _,s⟩)
theorem aH:DE X E (ah (.int k)) (.Constant (.int k) j pos):=Hx BS (λ_=>rfl) (by rfl)
theorem cW:DE X E (ah (.bool k)) (.Constant (.bool k) j pos):=Hx De (λ_=>rfl) (by rfl)
theorem D0:DE X E (ah .none) (.Constant .none j pos):=Hx Gv (λ_=>rfl) (by rfl)
theorem de(h:PyData.strOk k=true:=by decide +kernel):DE X E (ah (.str k)) (.Constant (.str k) j pos):=Hx o9 (λ_=>rfl) (by trivial)
theorem za(h:lE G E (aq f a b) σ H Q):Pd (NV G E f) (lE G E a) (lE G E b) σ H Q:=by obtain⟨θ,h,ρ,w,fr,p⟩:=h;refine⟨θ,h,ρ,w,fr,(aI.bind p).mono λx θ1 h1 H1 _ _ ⟨e1,w1,p1⟩ v r1=>?_⟩;exact⟨θ1,h1,ρ,w1,fr.ev e1,(aI.bind p1).mono (by rintro y θ2 h2 H2 _ _ ⟨e2,w2,p2⟩ u r2;exact⟨θ2,h2,x,y,w2,r1.ev e2,r2,p2⟩)⟩
theorem D1(h:lE G E (ag f ma) σ H Q):PV (Tt G E f) (lA G E ma) σ H Q:=by obtain⟨θ,h,ρ,w,fr,p⟩:=h;exact⟨θ,h,ρ,w,fr,(aI.bind p).mono (by rintro xs θ1 h1 H1 _ _ ⟨e1,w1,p1⟩ vs r1;exact⟨θ1,h1,xs,w1,r1,p1⟩)⟩
theorem bL(h:pK X E (binaryOp op) f)(ha:DE X E a e1)(hb:DE X E b e2):DE X E (aq f a b) (.BinOp e1 op e2 pos):=by simp[bA]at *;exact PE.imp (xC h ha hb) λ_ _ _=>za
theorem dM(h:pK X E (compareOp op) f)(ha:DE X E a e1)(hb:DE X E b e2)(hm:behindInMarks op e2=false):DE X E (aq f a b) (.Compare e1 [op] [e2] pos):=by simp[bA]at *;exact PE.imp (JR h ha hb hm) λ_ _ _=>za
theorem cV(h:Pf X (NV X.G E f))(ha:DE X E a e1)(hb:DE X E b e2)(hs:Dt e2):DE X E (aq f a b) (.Subscript e1 e2 pos):=by simp[bA]at *;exact PE.imp (L9 h ha hb hs) λ_ _ _=>za
theorem D2(h:lT G E (aR m) σ H Q):lE G E m σ H λx H'=>∃k,x=.bl k/\Q k H':=by
 obtain⟨θ,h,ρ,w,fr,p⟩:=h;refine⟨θ,h,ρ,w,fr,(aI.bind p).mono λx θ1 h1 H1 _ _ ⟨e1,w1,p1⟩ v r1=>?_⟩
 cases x with
 |dat d=>
  cases d with
  |bool k=>exact⟨k,r1.1,p1 θ1 H1 Ev.refl w1⟩
  |_=>trivial
 |_=>trivial
theorem cx(h:pK X E (compareOp op) f)(ha:DE X E a e1)(hb:DE X E b e2)(hm:behindInMarks op e2=false):DT X E (aR (aq f a b)) (.Compare e1 [op] [e2] pos):=by simp[bA,qH]at *;exact PT.imp (yI h ha hb hm) λ_ _ _ q=>za (D2 q)
@[irreducible] noncomputable def DW(X:Cx)(E:XK)(t:MT)(e:Expr):Prop:=PW X e (lT X.G E t)
theorem Hy(X:Cx)(E:XK)(t:MT)(e:Expr):DW X E t e=(PW X e (lT X.G E t)):=by
 grind[DW]
theorem DW.dt(h:DW X E t e):DT X E t e:=by simp[qH,Hy]at *;exact PW.pt h
theorem PW.imp{t t':TT}(h:PW X e t)(k:∀σ H Q,t' σ H Q->t σ H Q):PW X e t':=λwh pins s σ H Q I q=>h wh pins s σ H Q I (k _ _ _ q)
theorem gU(ha:DT X E t e):DW X E t (.BoolOp .Or [e] pos):=by simp[qH,Hy]at *;exact Gw ha
theorem gZ(ha:DT X E t e1)(hb:DW X E u (.BoolOp .Or (e2::es) pos)):DW X E (oM t u) (.BoolOp .Or (e1::e2::es) pos):=by
 simp[qH,Hy]at *
 exact PW.imp (L0 ha hb) (by rintro σ H Q ⟨θ,h,ρ,w,fr,p⟩;exact⟨θ,h,ρ,w,fr,(aI.bind p).mono (by
   rintro c θ1 h1 H1 _ _ ⟨ev,w1,p1⟩
   cases c with
   |true=>exact p1 θ1 H1 Ev.refl w1
   |false=>exact⟨θ1,h1,ρ,w1,fr.ev ev,p1⟩)⟩)
theorem df(ha:DT X E t e):DT X E (dH t) (.UnaryOp .Not e pos):=by simp[qH]at *;exact PT.imp (Gy ha) (by rintro σ H Q ⟨θ,h,ρ,w,fr,p⟩;exact⟨θ,h,ρ,w,fr,(aI.bind p).mono (by rintro c θ1 h1 H1 _ _ ⟨ev,w1,p1⟩;exact p1 θ1 H1 Ev.refl w1)⟩)
theorem fI(h:DE X E m e):DE X E m (.BoolOp op [e] pos):=by simp[bA]at *;exact MP h
theorem ai:DA X E aj []:=by simp[j3]at *;exact PA.imp dS (by rintro σ H Q ⟨θ,h,ρ,w,fr,p⟩;exact p θ H Ev.refl w _ .nil)
theorem ae(ha:DE X E m e)(hr:DA X E ma es)(hs:starEach (e::es) X.env=(false,eval e X.env)::starEach es X.env:=by rfl):DA X E (aa m ma) (e::es):=by simp[bA,j3]at *;exact PA.imp (bb ha hr hs) (by rintro σ H Q ⟨θ,h,ρ,w,fr,p⟩;exact⟨θ,h,ρ,w,fr,(aI.bind p).mono (by rintro x θ1 h1 H1 _ _ ⟨ev,w1,p1⟩ v r1;exact⟨θ1,h1,ρ,w1,fr.ev ev,(aI.bind p1).mono (by rintro xs θ2 h2 H2 _ _ ⟨ev2,w2,p2⟩ vs r2;exact p2 θ2 H2 Ev.refl w2 _ (.cons (r1.ev ev2) r2))⟩)⟩)
theorem kF:∀{xs:List D} {vs:List V} {ds:Yj},bh G θ H xs vs->gJ xs=some ds->bo (view θ H) ds vs/\cK ds=true
 | [],_,ds,.nil,e=>by cases e;exact⟨rfl,by rfl⟩
 |x::xs,_,ds,.cons r rs,e=>by
  unfold gJ at e
  cases x with
  |dat d=>
   cases e2:gJ xs with
   |none=>simp_all
   |some ds'=>simp[D.data,e2]at e;subst e;obtain⟨h1,h2⟩:=kF rs e2;exact⟨.cons r.1 h1,by simp[cK,r.2,h2]⟩
  |_=>trivial
theorem zb:∀{ds:Yj} {vs:List V},bo (view θ H) ds vs->cK ds=true->bh G θ H (ds.map D.dat) vs
 | [],_,h,_=>by cases h;exact .nil
 |d::ds,_,⟨v,vs,e,r,rs⟩,s=>by subst e;simp[cK]at s;exact .cons ⟨r,s.1⟩ (zb rs s.2)
theorem cX(h:jY n=true):n<=sizeLine:=by
 have:=Wo h
 simp_all[Wq]
theorem rY:∀{xs:List D} {ds:Yj},gJ xs=some ds->ds.length=xs.length
 | [],ds,e=>by cases e;rfl
 |x::xs,ds,e=>by
  unfold gJ at e
  cases e1:x.data with
  |none=>simp_all
  |some d=>
   cases e2:gJ xs with
   |none=>simp_all
   |some ds'=>rw[e1,e2]at e;cases e;simp[rY e2]
theorem cy(h:DA X E ma es):DE X E (cJ ma) (.Tuple es x1 pos):=by
 simp only[bA,j3]at *
 exact PE.imp (yJ h) (by rintro σ H Q ⟨θ,h,ρ,w,fr,p⟩;exact⟨θ,h,ρ,w,fr,(aI.bind p).mono (by
   rintro xs θ1 h1 H1 _ _ ⟨ev,w1,p1⟩ vs r1;unfold iF at p1
   cases e:gJ xs with
   |none=>rw[e]at p1;exact p1.elim
   |some ds=>
    rw[e]at p1;simp only at p1;split at p1
    ·rename_i hz;have hl:vs.length=xs.length:=(U2 r1).symm;refine⟨by rw[hl,<- rY e];exact cX hz,λq hq=>?_⟩;obtain⟨e1,w2,g⟩:=w1.put (o:=.tup vs) hq;obtain⟨h1,h2⟩:=kF r1 e;exact p1 _ _ e1 w2 _ ⟨⟨q,vs,rfl,g,h1.same e1.same⟩,by assumption⟩
    ·trivial)⟩)
theorem mz(h:DA X E ma es):DE X E (oB ma) (.List es pos):=by
 simp only[bA,j3]at *
 exact PE.imp (lU h) (by rintro σ H Q ⟨θ,h,ρ,w,fr,p⟩;exact⟨θ,h,ρ,w,fr,(aI.bind p).mono (by
   rintro xs θ1 h1 H1 _ _ ⟨ev,w1,p1⟩ vs r1;unfold fF at p1
   cases e:gJ xs with
   |none=>rw[e]at p1;exact p1.elim
   |some ds=>
    rw[e]at p1;simp only at p1;split at p1
    ·rename_i hz;have hl:vs.length=xs.length:=(U2 r1).symm;refine⟨by rw[hl,<- rY e];exact cX hz,λq hq=>?_⟩;obtain⟨e1,w2,g⟩:=w1.put (o:=.lst vs) hq;obtain⟨h1,h2⟩:=kF r1 e;exact p1 _ _ e1 w2 _ ⟨⟨q,vs,rfl,g,h1.same e1.same⟩,by assumption⟩
    ·trivial)⟩)
theorem W.NY(w:W G θ h H)(r:bh G θ H xs vs)(hp:H p=none) :
  Ev θ H (θ++[p]) (upd H p (.lst vs))/\W G (θ++[p]) (h++[.lst xs]) (upd H p (.lst vs))/\bT G (θ++[p]) (upd H p (.lst vs)) (.ref h.length) (.ref p):=by
 have e:Ev θ H _ (upd H p (.lst vs)):=⟨⟨[p],rfl⟩,λa u q=>by
  obtain⟨h1,h2⟩:=cL q;have ne:=ay h2 hp;rw[dB (by grind),ak ne]
  exact h2⟩
 obtain⟨e1,w1⟩:=w.alloc (m:=.lst xs) hp ⟨vs,aJ,r.ev e⟩;exact⟨e1,w1,p,by simp_all[w.len],rfl⟩
theorem u7(h:DA X E ma es):DE X E (xg ma) (.List es pos):=by
 simp[bA,j3]at *
 exact PE.imp (lU h) (by rintro σ H Q ⟨θ,h,ρ,w,fr,p⟩;exact⟨θ,h,ρ,w,fr,(aI.bind p).mono (by
   rintro xs θ1 h1 H1 _ _ ⟨ev,w1,p1⟩ vs r1;unfold DK at p1;split at p1
   ·rename_i hz;have hl  := (U2 r1).symm;refine⟨by rw[hl];exact cX hz,λq hq=>?_⟩;obtain⟨e1,w2,g⟩:=w1.NY r1 hq;exact p1 _ _ e1 w2 _ g
   ·trivial)⟩)
theorem Hz{id:String}(hc:u0 X E (.builtin id) f)(hg:Gl X x)(hm:X.mg x=none)(hv:bootBuiltins x=some (.builtin id)){p:Pos}(ha:DA X E ma (e::es))(hn:x ≠ "__name__" := by decide)(hdb:(x==("__debug__" : Str))=false:=by decide)
 (he:starEach (e::es) X.env=(false,eval e X.env)::starEach es X.env:=by rfl)(hpl:(backTo pos (starEach es X.env)).any (·.1)=false:=by rfl):DE X E (ag f ma) (.Call (.Name x p) (e::es) [] pos):=by
 simp only[bA,j3]at *;exact PE.imp (qh hc hg hm hv ha hn hdb he hpl) λ_ _ _=>D1
theorem FF(hc:u0 X E (.type T) f)(hg:Gl X x)(hm:X.mg x=none)(hv:bootBuiltins x=some (.type T)){p:Pos}(ha:DA X E ma (e::es))(hn:x ≠ "__name__" := by decide)(hdb:(x==("__debug__" : Str))=false:=by decide)
 (he:starEach (e::es) X.env=(false,eval e X.env)::starEach es X.env:=by rfl)(hpl:(backTo pos (starEach es X.env)).any (·.1)=false:=by rfl):DE X E (ag f ma) (.Call (.Name x p) (e::es) [] pos):=by
 simp only[bA,j3]at *;exact PE.imp (E8 hc hg hm hv ha hn hdb he hpl) λ_ _ _=>D1
end
section
variable {X:Cx} {E:XK} {m:ME} {a b:MS} {t:MT} {e e1:Expr} {st:Stmt} {sts:List Stmt} {ss ss':List Stmt} {ma:MA} {pos:Pos} {i:Nat} {x:Str} {g:MG}
theorem bZ:DZ X E cC []:=by simp[mr]at *;exact xB.imp Dh (by rintro C σ H ⟨θ,h,ρ,w,fr,p⟩;exact p θ H Ev.refl w σ fr)
theorem aD(h:DS X E a st):DZ X E a [st]:=by simp[mn,mr]at *;exact qe h
theorem aA(h1:DS X E a st)(h2:DZ X E b ss):DZ X E (bg a b) (st::ss):=by
 simp[mn,mr]at *
 exact xB.imp (gG h1 h2) (by rintro C σ H ⟨θ,h,ρ,w,fr,p⟩;exact⟨θ,h,ρ,w,fr,(aI.bind p).mono (by
   rintro f θ1 h1 H1 _ _ ⟨ev,w1,p1⟩
   cases f with
   |nx ρ1=>exact λσ1 fr1=>⟨θ1,h1,ρ1,w1,fr1,p1⟩
   |rt d=>exact p1 θ1 H1 Ev.refl w1
   |bk ρ1=>exact p1 θ1 H1 Ev.refl w1
   |ct ρ1=>exact p1 θ1 H1 Ev.refl w1)⟩)
theorem nN(he:DE X E m e)(hs:swapsWith e none pos.line X.env=pure false:=by rfl):DS X E (jd m) (.Expr e pos):=by simp[bA,mn]at *;exact PS.imp (JM he hs) (by rintro C σ H ⟨θ,h,ρ,w,fr,p⟩;exact⟨θ,h,ρ,w,fr,(aI.bind p).mono (by rintro d θ1 h1 H1 _ _ ⟨ev,w1,p1⟩ v _;exact p1 θ1 H1 Ev.refl w1 σ (fr.ev ev))⟩)
theorem aP(he:DE X E m e):DS X E (bN m) (.Return (some e) pos):=by simp[bA,mn]at *;exact PS.imp (uH he) (by rintro C σ H ⟨θ,h,ρ,w,fr,p⟩;exact⟨θ,h,ρ,w,fr,(aI.bind p).mono (by rintro d θ1 h1 H1 _ _ ⟨ev,w1,p1⟩ v r;exact p1 θ1 H1 Ev.refl w1 v r)⟩)
theorem fe(hc:DT X E t e)(ha:DZ X E a ss)(hb:DZ X E b ss'):DS X E (lR t a b) (.If e ss ss' pos):=by
 simp[qH,mn,mr]at *
 exact PS.imp (L3 hc ha hb) (by rintro C σ H ⟨θ,h,ρ,w,fr,p⟩;exact⟨θ,h,ρ,w,fr,(aI.bind p).mono (by
   rintro c θ1 h1 H1 _ _ ⟨ev,w1,p1⟩
   cases c with
   |true=>exact⟨θ1,h1,ρ,w1,fr.ev ev,p1⟩
   |false=>exact⟨θ1,h1,ρ,w1,fr.ev ev,p1⟩)⟩)
theorem Kr(hN:X.N.Nodup)(hi:X.N[i]?=some x)(hx:Loc X.env.scope x)(hf:X.fn x=true\/X.env.scope.names.lookup x=some .local:=by first|exact .inl rfl|exact .inr rfl|assumption):DG X E (aB i) (.Name x pos):=by simp[qI]at *;exact by rintro pins s σ H v u Q I r ⟨θ,h,ρ,d,w,fr,rd,p⟩;exact JN hN hi hx hf pins s σ H v u Q I r (p θ H Ev.refl w _ (fr.set rd))
noncomputable def Tu(G:Gx)(E:XK)(g:Hk):L4:=λvs σ H Q=>∃θ h ρ ds,W G θ h H/\Fr G θ H ρ σ/\bh G θ H ds vs/\aI G (qG G E) θ H (g ds ρ h) (λρ' θ' _ H'=>∀σ',Fr G θ' H' ρ' σ'->Q σ' H')
@[irreducible] noncomputable def Ph(X:Cx)(E:XK)(m:Hk)(es:Yo):Prop:=Pb X es (Tu X.G E m)
theorem Cr(X:Cx)(E:XK)(m:Hk)(es:Yo):Ph X E m es=(Pb X es (Tu X.G E m)):=by
 grind[Ph]
theorem gr:Ph X E gP []:=by
 simp[Cr]at *
 exact by
  rintro pins s σ H vs us Q I r ⟨θ,h,ρ,ds,w,fr,rd,p⟩
  cases rd with
  |nil=>exact JO pins s σ H [] us Q I r ⟨rfl,p θ H Ev.refl w σ fr⟩
  |cons=>trivial
theorem bI(h1:DG X E g e)(h2:Ph X E gs es)(hs:(assignEach (e::es) X.env).map (·.2)=assign e X.env::(assignEach es X.env).map (·.2):=by rfl):Ph X E (bF g gs) (e::es):=by
 simp[qI,Cr]at *
 exact by
   rintro pins s σ H vs us Q I r ⟨θ,h,ρ,ds,w,fr,rd,p⟩
   cases rd with
   |nil=>trivial
   |cons r1 rr=>exact GB h1 h2 hs pins s σ H _ us Q I r ⟨_,_,rfl,θ,h,ρ,_,w,fr,r1,(aI.bind p).mono (by rintro ρ1 θ1 h1 H1 _ _ ⟨ev,w1,p1⟩ σ1 fr1;exact⟨θ1,h1,ρ1,_,w1,fr1,bh.ev ev rr,p1⟩)⟩
theorem ij(r:bT G θ H (.dat (.tuple ds)) v):∃a xs,v=.ref a/\view θ H a=some (.tup xs)/\bo (view θ H) ds xs/\bh G θ H (ds.map D.dat) xs:=by obtain⟨⟨a,xs,e,ha,rr⟩,s⟩:=r;exact⟨a,xs,e,ha,rr,zb rr (by assumption)⟩
theorem ik(r:bT G θ H (.dat (.list ds)) v):∃a xs,v=.ref a/\view θ H a=some (.lst xs)/\bo (view θ H) ds xs/\bh G θ H (ds.map D.dat) xs:=by obtain⟨⟨a,xs,e,ha,rr⟩,s⟩:=r;exact⟨a,xs,e,ha,rr,zb rr (by assumption)⟩
@[irreducible] noncomputable def xZ(gs:Hk)(n:Nat):Prop:=∀xs ρ h,xs.length≠n->gs xs ρ h=.bad
theorem u9(gs:Hk)(n:Nat):xZ gs n=(∀xs ρ h,xs.length≠n->gs xs ρ h=.bad):=by
 grind[xZ]
theorem dF:xZ gP 0:=by
 simp[u9]at *
 exact λxs ρ h ne=>by
  cases xs with
  |nil=>grind
  |cons=>rfl
theorem aV{g:Nat}(t:xZ gs n):xZ (bF (aB g) gs) (n+1):=by
 simp[u9]at *
 exact λxs ρ h ne=>by
  cases xs with
  |nil=>rfl
  |cons x xs=>simp_all[bF,aB]
theorem jD{k n:Nat}(hc:X.calm=true)(h:Ph X E gs es)(tk:xZ gs n)(hn:(assignEach es X.env).length=n:=by rfl)(hst:(assignEach es X.env).findIdx? (·.1)=none:=by rfl):DG X E (gQ gs) (.Tuple es k pos):=by
 simp only[qI,Cr,u9]at *
 exact by
   rintro pins s σ H v u Q I r ⟨θ,hm,ρ,d,w,fr,rd,p⟩
   cases d with
   |dat d=>
    cases d with
    |tuple ds=>
     obtain⟨a,xs,e,ha,rr,rr2⟩:=ij rd
     have hl:xs.length=n:=by
      have h1:xs.length=ds.length:=rr.length;by_cases z:ds.length=n
      ·grind
      ·have p':=p;simp only[gQ]at p';rw[tk (ds.map D.dat) ρ hm (by grind)]at p';exact p'.elim
     exact MV (n:=n) hc h hn hst pins s σ H v u Q I r ⟨a,xs,e,gO.of (aC _ _ _ _ ha),hl,θ,hm,ρ,_,w,fr,rr2,p⟩
    |_=>trivial
   |_=>exact p.elim
theorem NZ(hN:X.N.Nodup)(hi:X.N[i]?=some x)(hx:Loc X.env.scope x)(he:DE X E m e)(hs:swapsWith e (some (.Name x pos')) pos.line X.env=pure false:=by rfl)(hf:X.fn x=true\/X.env.scope.names.lookup x=some .local:=by first|exact .inl rfl|exact .inr rfl|assumption) :
  DS X E (cR i m) (.Assign [.Name x pos'] e pos):=by
 simp[bA,mn]at *;exact PS.imp (pe hN hi hx he hs hf) (by rintro C σ H ⟨θ,h,ρ,w,fr,p⟩;exact⟨θ,h,ρ,w,fr,(aI.bind p).mono (by rintro d θ1 h1 H1 _ _ ⟨ev,w1,p1⟩ v r;exact p1 θ1 H1 Ev.refl w1 _ ((fr.ev ev).set r))⟩)
theorem mD(he:DE X E m e)(hg:DG X E g tg)(hs:swapsWithSole [tg] e pos.line X.env=pure false:=by rfl)(hw:swappedStores [tg] e X.env=pure none:=by rfl)
 (h1:(assignEach [tg] X.env).map (·.2)=[assign tg X.env]:=by rfl):DS X E (pF g m) (.Assign [tg] e pos):=by
 simp only[bA,mn,qI]at *;exact PS.imp (MX he hg hs hw h1) (by rintro C σ H ⟨θ,h,ρ,w,fr,p⟩;exact⟨θ,h,ρ,w,fr,(aI.bind p).mono (by rintro d θ1 h1 H1 _ _ ⟨ev,w1,p1⟩ v r;exact⟨θ1,h1,ρ,d,w1,fr.ev ev,r,(aI.bind p1).mono (by rintro ρ1 θ2 h2 H2 _ _ ⟨ev2,w2,p2⟩ σ2 fr2;exact p2 θ2 H2 Ev.refl w2 σ2 fr2)⟩)⟩)
noncomputable def tm(G:Gx)(θ:Yk)(H:Hp)(xs:List D)(J:It):Prop:=∀θ' h' H',Ev θ H θ' H'->W G θ' h' H' ->
 (∀(i:Nat) (d:D),xs[i]?=some d->J.go i H'/\∀x H2,J.yld i H' x H2->Ev θ' H' θ' H2/\W G θ' h' H2/\bT G θ' H2 d x)/\J.stop xs.length H'
noncomputable def lI(G:Gx)(E:XK)(m:MA):TI:=λσ H R=>∃θ h ρ,W G θ h H/\Fr G θ H ρ σ/\aI G (qG G E) θ H (m ρ h) (λxs θ' _ H'=>∀J,tm G θ' H' xs J->R J H')
@[irreducible] noncomputable def DI(X:Cx)(E:XK)(m:MA)(tg e:Expr):Prop:=PI X tg e (lI X.G E m)
theorem mE(X:Cx)(E:XK)(m:MA)(tg e:Expr):DI X E m tg e=(PI X tg e (lI X.G E m)):=by
 grind[DI]
theorem PI.imp{t t':TI}(h:PI X tg e t)(k:∀σ H Q,t' σ H Q->t σ H Q):PI X tg e t':=λpins s σ H Q I q=>h pins s σ H Q I (k _ _ _ q)
theorem bh.get:∀{ds:List D} {vs:List V} {i:Nat} {d:D} {v:V},bh G θ H ds vs->ds[i]?=some d->vs[i]?=some v->bT G θ H d v
 |_,_,i,_,_,.nil,e,_=>by simp at e
 |_,_,0,_,_,.cons r _,e,e'=>by grind
 |_,_,i+1,d,v,.cons _ t,e,e'=>bh.get (i:=i) t (by simp_all) (by simp_all)
theorem bh.some(r:bh G θ H ds vs)(e:ds[i]?=some d):∃v,vs[i]?=some v/\bT G θ H d v:=by
 have hl  := U2 r;have hi:i<vs.length:=by rw[<- hl];exact(UB.mp e).1
 exact⟨vs[i],UH hi,r.get e (UH hi)⟩
theorem N0{a:Addr}(ha:view θ H a=some (.tup xs))(r:bh G θ H ds xs):tm G θ H ds (Q8 K a):=λθ' h' H' ev w=>by have ha':=aC _ _ _ _ (ev.same _ _ ha);have q:gO K H' a xs:=gO.of ha';refine⟨λi d e=>?_,⟨xs,q,by rw[<- U2 r];grind⟩⟩;obtain⟨v,ev',rv⟩:=r.some e;refine⟨⟨xs,v,q,ev'⟩,λx H2 ⟨e2,y⟩=>?_⟩;subst e2;have:=y xs q;rw[ev']at this;cases this;exact⟨Ev.refl,w,rv.ev ev⟩
theorem N3{a:Addr}(ha:view θ H a=some (.lst xs))(r:bh G θ H ds xs):tm G θ H ds (RS K a):=λθ' h' H' ev w=>by have ha':=aC _ _ _ _ (ev.same _ _ ha);have q:i8 K H' a xs:=i8.of ha';refine⟨λi d e=>?_,⟨xs,q,by rw[<- U2 r];grind⟩⟩;obtain⟨v,ev',rv⟩:=r.some e;refine⟨⟨xs,v,q,ev'⟩,λx H2 ⟨e2,y⟩=>?_⟩;subst e2;have:=y xs q;rw[ev']at this;cases this;exact⟨Ev.refl,w,rv.ev ev⟩
theorem N4(h:DE X E m e):DI X E (DL m) tg e:=by
 simp[bA,mE]at *
 exact PI.imp (GC h) (by rintro σ H R ⟨θ,h,ρ,w,fr,p⟩;exact⟨θ,h,ρ,w,fr,(aI.bind p).mono (by
   rintro d θ1 h1 H1 _ _ ⟨ev,w1,p1⟩ v r
   cases d with
   |dat d=>
    cases d with
    |tuple ds=>obtain⟨a,xs,e,ha,_,rr⟩:=ij r;exact⟨a,e,⟨xs,gO.of (aC _ _ _ _ ha)⟩,p1 θ1 H1 Ev.refl w1 _ (N0 ha rr)⟩
    |_=>trivial
   |_=>trivial)⟩)
theorem N6(h:DE X E m e):DI X E (Hn m) tg e:=by
 simp[bA,mE]at *
 exact PI.imp (JP h) (by rintro σ H R ⟨θ,h,ρ,w,fr,p⟩;exact⟨θ,h,ρ,w,fr,(aI.bind p).mono (by
   rintro d θ1 h1 H1 _ _ ⟨ev,w1,p1⟩ v r
   cases d with
   |dat d=>
    cases d with
    |list ds=>obtain⟨a,xs,e,ha,_,rr⟩:=ik r;exact⟨a,e,⟨xs,i8.of (aC _ _ _ _ ha)⟩,p1 θ1 H1 Ev.refl w1 _ (N3 ha rr)⟩
    |_=>trivial
   |_=>trivial)⟩)
theorem zc(s:PyData.strOk x=true):PyData.strOk ⟨#[x.cps.getD i 0]⟩=true:=by
 have q:=Array.all_eq_true.mp s;apply Array.all_eq_true.mpr;intro j hj;by_cases hi:i<x.cps.size
 ·simp_all
 simp_all
theorem N7(h:DE X E m e):DI X E (Ho m) tg e:=by
 simp only[bA,mE]at *
 exact PI.imp (NA h) (by rintro σ H R ⟨θ,h,ρ,w,fr,p⟩;exact⟨θ,h,ρ,w,fr,(aI.bind p).mono (by
   rintro d θ1 h1 H1 _ _ ⟨ev,w1,p1⟩ v r
   cases d with
   |dat d=>
    cases d with
    |str s=>obtain⟨r1,r2⟩:=r;refine⟨s,r1,p1 θ1 H1 Ev.refl w1 _ λθ' h' H' ev w=>⟨λi d e=>?_,by show(signs s).length=_;simp[signs]⟩⟩;simp only[signs,Vs,Ve]at e;obtain⟨j,e1,e2⟩:=e;obtain⟨hj,e3⟩:=UB.mp e1;simp at hj e3;subst e3;subst e2;refine⟨hj,λx H2 ⟨z1,z2⟩=>?_⟩;subst z1;subst z2;exact⟨Ev.refl,w,rfl,by simp only[dz];exact zc (by simpa [dz]using r2)⟩
    |_=>exact p1.elim
   |_=>exact p1.elim)⟩)
theorem Ks:tm G θ H (nums lo n) (Q9 lo n):=λθ' h' H' ev w=>by refine⟨λi d e=>?_,by show n<=(nums lo n).length;simp[nums]⟩;simp[nums]at e;obtain⟨j,e1,e2⟩:=e;obtain⟨hj,e3⟩:=UB.mp e1;simp at hj e3;subst e3;subst e2;refine⟨hj,λx H2 ⟨z1,z2⟩=>?_⟩;subst z1;subst z2;exact⟨Ev.refl,w,rfl,by rfl⟩
theorem b9(r:bT G θ H (.int j) v):v=.int j:=r.1
theorem Kt{tg a:Expr}(hg:Gl X "range")(hm:X.mg "range" = none)(ha:DA X E ma [a])(hs:starEach [a] X.env=[(false,eval a X.env)]:=by rfl):DI X E (uU ma) tg (.Call (.Name "range" p') [a] [] pos'):=by
 simp[j3,mE]at *
 exact PI.imp (EY hg hm ha hs) (by rintro σ H R ⟨θ,h,ρ,w,fr,p⟩;exact⟨θ,h,ρ,w,fr,(aI.bind p).mono λds θ1 h1 H1 _ _ ⟨ev,w1,p1⟩ vs r=>by
   split at p1
   ·split at p1
    ·rename_i j _ hj
     cases r with
     |cons r1 rr=>cases rr;cases b9 r1;exact⟨j,rfl,hj.1,hj.2,p1 θ1 H1 Ev.refl w1 _ Ks⟩
    ·trivial
   ·trivial⟩)
theorem AH:∀(xs ys:Yj),(y0 xs ys).length=min xs.length ys.length
 | [],_=>by rfl
 |_::_,[]=>by rfl
 |x::xs,y::ys=>by simp[y0,AH xs ys]
theorem AI:∀(xs ys:Yj) (i:Nat) (d:D),(y0 xs ys)[i]?=some d->∃x y,xs[i]?=some x/\ys[i]?=some y/\d=.dat (.tuple [x,y])
 | [],_,i,d,e=>by trivial
 |_::_,[],i,d,e=>by trivial
 |x::xs,y::ys,0,d,e=>by grind[y0]
 |x::xs,y::ys,i+1,d,e=>by simpa using AI xs ys i d (by assumption)
theorem qJ:∀{ds:Yj} {i:Nat} {d:PyData},cK ds=true->ds[i]?=some d->dz d=true
 | [],i,d,_,e=>by simp at e
 |x::xs,0,d,s,e=>by grind[cK]
 |x::xs,i+1,d,s,e=>by simp[cK]at s;exact qJ (i:=i) s.2 (by simp_all)
theorem HA{kk:Nat}{es:Yo}{tpos:Pos}{p' pos':Pos}(hg:Gl X "zip")(hm:X.mg "zip" = none)(ha:DA X E ma [e1,e2])(hs:starEach [e1,e2] X.env=[(false,eval e1 X.env),(false,eval e2 X.env)]:=by rfl)(hs2:starEach [e2] X.env=[(false,eval e2 X.env)]:=by rfl) :
  DI X E (uV ma) (.Tuple es kk tpos) (.Call (.Name "zip" p') [e1,e2] [] pos'):=by
 simp only[j3,mE]at *
 exact PI.imp (Nq hg hm ha hs hs2) (by rintro σ H R ⟨θ,h,ρ,w,fr,p⟩;exact⟨θ,h,ρ,w,fr,(aI.bind p).mono λds θ1 h1 H1 _ _ ⟨ev,w1,p1⟩ vs r=>by
   split at p1
   ·rename_i xs ys _
    cases r with
    |cons r1 rr=>
     cases rr with
     |cons r2 rr=>
      cases rr;have s1:cK xs=true:=by simpa [dz]using r1.2
      have s2:cK ys=true:=by simpa [dz]using r2.2
      obtain⟨a1,us,rfl,ha1,q1,_⟩:=ij r1;obtain⟨a2,ws,rfl,ha2,q2,_⟩:=ij r2;refine⟨a1,a2,us,ws,rfl,gO.of (aC _ _ _ _ ha1),gO.of (aC _ _ _ _ ha2),p1 θ1 H1 Ev.refl w1 _ λθ' h' H' ev' w'=>?_⟩;have k1:gO X.K H' a1 us:=gO.of (aC _ _ _ _ (ev'.same _ _ ha1));have k2:gO X.K H' a2 ws:=gO.of (aC _ _ _ _ (ev'.same _ _ ha2));have l1:=q1.length;have l2:=q2.length;refine⟨λi d e=>?_,⟨us,ws,k1,k2,by rw[AH,l1,l2];omega⟩⟩;obtain⟨x,y,ex,ey,rfl⟩:=AI _ _ _ _ e;obtain⟨u,eu,ru⟩:=bo.get' q1 ex;obtain⟨z,ez,rz⟩:=bo.get' q2 ey;refine⟨⟨us,ws,u,z,k1,k2,eu,ez⟩,λv H2 ⟨pp,x',y',e1,hp,e2,c1,c2⟩=>?_⟩;have:=c1 us k1;rw[eu]at this;cases this;have:=c2 ws k2;rw[ez]at this;cases this;subst e1;subst e2;obtain⟨e3,w3,g3⟩:=w'.put (o:=.tup [u,z]) hp;exact⟨e3,w3,⟨pp,[u,z],rfl,g3,.cons (ru.same (ev'.same.trans e3.same)) (.one (rz.same (ev'.same.trans e3.same)))⟩,by simp[dz,cK,qJ s1 ex,qJ s2 ey]⟩
   ·exact p1.elim⟩)
abbrev oE:XK:=λ_ _ _=>False
theorem aI.gu{f:α->Hm->R β}(p:aI G F θ H (r.Ck.bind f) L) :
  aI G F' θ H r λa θ1 h1 H1=>Ev θ H θ1 H1/\W G θ1 h1 H1/\aI G F θ1 H1 (f a h1) L:=by
 cases r with
 |ok a h'=>exact λθ1 H1 e w=>⟨e,w,aI.later p e⟩
 |exc x h'=>trivial
 |bad=>trivial
theorem PS.Pa{t:TS}(h:PS X.Pa st t):PS X st t:=λpins s σ H D I hw=>
 VA (h pins s σ H D (I.qd _) hw) (λ_ _ q=>q.iB) λ_ _ z=>False.elim z
end
end Ml
namespace L2
open PySem PySem.Spec PyProof.Rows
theorem Gr.Uh{K:Ym}{st:Stmt}(F:Gr K x qual st f fd)(S:aM N ps (ao st))(len:∀vs H Q E,sp vs H Q E->vs.length=ps.length)
 (hbody:∀(cdv:Value) (A:Yv) (outer:List Env) (s:Yw) (H:Hp) (vs:List V) (Q:VK) (E:XK),bJ k (A.deeper (envOfC qual (ao st) s.heap.objs.size f cdv))->sp vs H Q E ->
   ∃t,xB (fA (ja P w) P w K mg base N qual (ao st) f cdv A outer s H E) (bV st) t/\t {nx:=λ_ H'=>Q .non H',rt:=Q} (start N vs) H):jT P w K mg base (ja P w) (k+1) f fd ps sp:=by
 obtain⟨oc,od,kV,doc,pm,an,cdv,ct,osl,rfl,lk,hcd⟩:=F.ex;exact L8 lk hcd S len λA outer s H vs Q E hr hsp=>hbody cdv A outer s H vs Q E hr hsp
structure HB(P:Yt)(w:World)(K:Ym)(mg:Yi)(base:Heap)(x:Str)(ps:Yn)(k:Nat)(sp:Sp):Prop where
 ex:∃(f:Addr) (fd:FuncData),mg x=some (.ref f)/\PySem.W.keepIn K (.ref f)=true/\Binds K fd ps []/\jT P w K mg base (ja P w) k f fd ps sp
section
variable {X:Cx} {x:Str} {ps:Yn} {k:Nat} {sp:Sp} {e:Expr} {es:Yo} {t:TA} {p pos:Pos}
theorem N8(F:HB X.prog X.w X.K X.mg X.base x ps k sp)(hx:Passes (ja X.prog X.w) X E)(hr:bJ k X.A)(hg:Gl X x)(ha:PA X (e::es) t)(hdb:(x==("__debug__" : Str))=false:=by decide)(he:starEach (e::es) X.env=(false,eval e X.env)::starEach es X.env:=by rfl)
 (hpl:(backTo pos (starEach es X.env)).any (·.1)=false:=by rfl):PE X (.Call (.Name x p) (e::es) [] pos) (Al sp [] E t):=by
 obtain⟨f,fd,h1,h2,h3,h4⟩:=F.ex;exact JU h4 hr hg h1 h2 h3 .nil hx ha hdb he hpl
end
end L2
namespace Ml
open PySem PySem.Spec L2
section
variable {X:Cx} {E:XK} {m:ME} {a b:MS} {t:MT} {e e1 tg:Expr} {st:Stmt} {ss ss':List Stmt} {ma it:MA} {pos:Pos} {i:Nat} {x:Str} {g:MG}
theorem HC(hJ:tm G θ1 H1 xs J)(w1:W G θ1 h1 H1)(fr:Fr G θ1 H1 ρ σ)(p1:aI G F θ1 H1 (eN g b xs ρ h1) (KS G C)) :
  ∃W':Nat->Nat->St->Hp->Prop,(∃m,W' 0 m σ H1)/\∀i m σ H,W' i m σ H ->
   (J.stop i H/\C.nx σ H)\/(J.go i H/\∃N:St->Hp->Prop,(∀σ' H',N σ' H'->∃m',m'<m/\W' (i+1) m' σ' H')/\∀x H',J.yld i H x H'->lG G oE g x σ H' λσ2 H2=>lS G oE b {C with nx:=N,ct:=N,bk:=C.nx} σ2 H2):=by
 refine⟨λi m σ H=>m=xs.length-i/\i<=xs.length/\∃θ' h' ρ',Ev θ1 H1 θ' H/\W G θ' h' H/\Fr G θ' H ρ' σ/\aI G F θ' H (eN g b (xs.drop i) ρ' h') (KS G C),⟨xs.length,by simp,V4 _,θ1,h1,ρ,Ev.refl,w1,fr,p1⟩,?_⟩;rintro i m σ H ⟨rfl,hi,θ',h',ρ',ev,w,fr',p⟩;obtain⟨j1,j2⟩:=hJ θ' h' H ev w;by_cases hlt:i<xs.length
 ·have ed:xs.drop i=xs[i]::xs.drop (i+1):=Vt hlt;rw[ed]at p;obtain⟨g1,g2⟩:=j1 i xs[i] (UH hlt);refine .inr ⟨g1,λσ2 H2=>i+1<=xs.length/\∃θ' h' ρ',Ev θ1 H1 θ' H2/\W G θ' h' H2/\Fr G θ' H2 ρ' σ2/\aI G F θ' H2 (eN g b (xs.drop (i+1)) ρ' h') (KS G C),λσ' H' q=>⟨xs.length-(i+1),by omega,rfl,q⟩,λx H2 y=>?_⟩;obtain⟨e2,w2,r2⟩:=g2 x H2 y;refine⟨θ',h',ρ',xs[i],w2,fr'.ev e2,r2,(aI.gu (p.later e2)).mono λρ3 θ3 h3 H3 _ _ ⟨e3,w3,p3⟩ σ3 fr3=>⟨θ3,h3,ρ3,w3,fr3,(aI.gu p3).mono λf θ4 h4 H4 _ _ ⟨e4,w4,p4⟩=>?_⟩⟩;have ev4:=(ev.trans e2).trans (e3.trans e4)
  cases f with
  |nx ρ5=>exact λσ5 fr5=>⟨hlt,θ4,h4,ρ5,ev4,w4,fr5,p4⟩
  |ct ρ5=>exact λσ5 fr5=>⟨hlt,θ4,h4,ρ5,ev4,w4,fr5,p4⟩
  |bk ρ5=>exact p4 θ4 H4 Ev.refl w4
  |rt d=>exact p4 θ4 H4 Ev.refl w4
 ·have hx:i=xs.length:=by omega
  subst hx;rw[V6 (Uy _)]at p;exact .inl ⟨j2,p θ' H Ev.refl w σ fr'⟩
theorem mF(hc:X.calm=true)(hi:DI X.Pa oE it tg e)(hg:DG X.Pa oE g tg)(hb:DZ X.Pa oE b body)(hs:∀x,foldedSetIterable e X.env x=pure x:=by intro _;rfl):DS X E (oC it g b) (.For tg e body [] pos):=by simp[mn,mr,qI,mE]at *;exact PS.Pa (PS.imp (MY PassesOwn.never hc hi hg hb hs) (by rintro C σ H ⟨θ,h,ρ,w,fr,p⟩;exact⟨θ,h,ρ,w,fr,(aI.gu p).mono (by rintro xs θ1 h1 H1 _ _ ⟨ev,w1,p1⟩ J hJ;exact HC hJ w1 (fr.ev ev) p1)⟩))
theorem gv:∀{xs ys:List α} {us ws:List β},Paired G xs us->Paired G ys ws->Paired G (xs++ys) (us++ws)
 |_,_,_,_,.nil,s=>s
 |_,_,_,_,.cons r t,s=>.cons r (gv t s)
theorem FG(hJ:tm G θ1 H1 xs J)(w1:W G θ1 h1 H1)(fr:Fr G θ1 H1 ρ σ)(p1:aI G F θ1 H1 ((eQ n ρ g t m xs h1).bind mk) (KV G Q))
 (hmk:∀ys vs θ h H,ys.length<=xs.length->W G θ h H->bh G θ H ys vs->aI G F θ H (mk ys h) (KV G Q)->∀p,H p=none->Q (.ref p) (upd H p (.lst vs)))(hz:xs.length<=sizeLine) :
  GR n J (lG G oE g) (lT G oE t) (lE G oE m) σ H1 Q:=by
 refine⟨λi m' ys H=>m'=xs.length-i/\i<=xs.length/\∃θ' h' acc,acc.length<=i/\Ev θ1 H1 θ' H/\W G θ' h' H/\bh G θ' H acc ys/\aI G F θ' H ((eQ n ρ g t m (xs.drop i) h').bind λzs h2=>mk (acc++zs) h2) (KV G Q),
  ⟨xs.length,by simp,V4 _,θ1,h1,[],Uy _,Ev.refl,w1,.nil,p1⟩,?_⟩
 rintro i m' ys H ⟨rfl,hi,θ',h',acc,hacc,ev,w,ra,p⟩;obtain⟨j1,j2⟩:=hJ θ' h' H ev w;have hly:ys.length<=sizeLine:=by rw[<- show acc.length=ys.length from U2 ra];omega
 by_cases hlt:i<xs.length
 ·have ed:xs.drop i=xs[i]::xs.drop (i+1):=Vt hlt;rw[ed]at p;obtain⟨g1,g2⟩:=j1 i xs[i] (UH hlt);refine .inr ⟨g1,hly,λys2 H2=>i+1<=xs.length/\∃θ' h' acc,acc.length<=i+1/\Ev θ1 H1 θ' H2/\W G θ' h' H2/\bh G θ' H2 acc ys2/\aI G F θ' H2 ((eQ n ρ g t m (xs.drop (i+1)) h').bind λzs h2=>mk (acc++zs) h2) (KV G Q),λys' H' q=>⟨xs.length-(i+1),by omega,rfl,q⟩,λx H2 y=>?_⟩;obtain⟨e2,w2,r2⟩:=g2 x H2 y;have p2:=p.later e2;unfold eQ at p2;simp only[R.bind_assoc]at p2;refine⟨θ',h',_,xs[i],w2,((fr.ev ev).ev e2).replicate n,r2,(aI.gu p2).mono λρ3 θ3 h3 H3 _ _ ⟨e3,w3,p3⟩ σ3 fr3=>⟨θ3,h3,ρ3,w3,fr3,(aI.gu p3).mono λc θ4 h4 H4 _ _ ⟨e4,w4,p4⟩=>?_⟩⟩;have ev4:=(ev.trans e2).trans (e3.trans e4);have ra4:=bh.ev (e2.trans (e3.trans e4)) ra
  cases c with
  |false=>exact⟨hlt,θ4,h4,acc,by omega,ev4,w4,ra4,p4⟩
  |true=>
   simp only[Vu,R.bind_assoc]at p4;refine⟨θ4,h4,ρ3,w4,fr3.ev e4,(aI.gu p4).mono λy θ5 h5 H5 _ _ ⟨e5,w5,p5⟩ v5 r5=>⟨hlt,θ5,h5,acc++[y],by simp;omega,ev4.trans e5,w5,?_,?_⟩⟩
   ·exact gv (bh.ev e5 ra4) (.cons r5 .nil)
   ·simp only[R.bind_assoc,R.aO]at p5;simpa using p5
 ·have hx:i=xs.length:=by omega
  subst hx;rw[V6 (Uy _)]at p;simp only[eQ,R.aO,List.append_nil]at p;exact .inl ⟨j2,hly,hmk acc ys θ' h' H hacc w ra p⟩
variable {own:Yn} {scope:Scope} {elt:Expr} {ifs:Yo}
@[irreducible] noncomputable def N9(X:Cx)(E:XK)(t:MT)(es:Yo):Prop:=J1 X es (lT X.G E t)
theorem va(X:Cx)(E:XK)(t:MT)(es:Yo):N9 X E t es=(J1 X es (lT X.G E t)):=by
 grind[N9]
theorem ip:N9 X E dW []:=by simp[va]at *;exact by rintro pins s σ H Q I ⟨θ,h,ρ,w,fr,p⟩;exact J2 pins s σ H Q I (p θ H Ev.refl w)
theorem nO(h:DT X E t e):N9 X E t [e]:=by simp[qH,va]at *;exact J3 h
theorem D3{mk:List D->Hm->R D}(h:lE G E (ag mk (oS n it g t m)) σ H Q)
 (hmk:∀ys vs θ h H,ys.length<=sizeLine->W G θ h H->bh G θ H ys vs->aI G (qG G E) θ H (mk ys h) (KV G Q)->∀p,H p=none->Q (.ref p) (upd H p (.lst vs))) :
  Dx n (lI G E it) (lG G oE g) (lT G oE t) (lE G oE m) σ H Q:=by
 obtain⟨θ,h,ρ,w,fr,p⟩:=h;simp[ag,oS,R.bind_assoc]at p;refine⟨θ,h,ρ,w,fr,(aI.bind p).mono λxs θ1 h1 H1 _ _ ⟨ev,w1,p1⟩ J hJ=>?_⟩;split at p1
 ·rename_i hz;exact FG hJ w1 (fr.ev ev) p1 (λys vs θ h H hl=>hmk ys vs θ h H (UI hl (cX hz))) (cX hz)
 ·trivial
theorem vb(ys:List D)(vs:List V)(θ:Yk)(h:Hm)(H:Hp)(w1:W G θ h H)(r1:bh G θ H ys vs)(p1:aI G F θ H (fF ys h) (KV G Q))(q:Addr)(hq:H q=none):Q (.ref q) (upd H q (.lst vs)):=by
 unfold fF at p1
 cases e:gJ ys with
 |none=>rw[e]at p1;exact p1.elim
 |some ds=>
  rw[e]at p1;simp only at p1;split at p1
  ·obtain⟨e1,w2,g⟩:=w1.put hq;obtain⟨h1,h2⟩:=kF r1 e;exact p1 _ _ e1 w2 _ ⟨⟨q,vs,rfl,g,h1.same e1.same⟩,by assumption⟩
  ·trivial
theorem fj(own:Yn)(CS:gH X.env.scope X.N own scope=true)(hc:X.calm=true)(hi:DI X E it tg e)(hg:∀C s2 H2 fp pins,DG (aN X own scope C s2 H2 fp pins) oE g tg)
 (ht:∀C s2 H2 fp pins,N9 (aN X own scope C s2 H2 fp pins) oE t ifs)(he:∀C s2 H2 fp pins,DE (aN X own scope C s2 H2 fp pins) oE m elt)(hs:∀x,foldedSetIterable e X.env x=pure x:=by intro _;rfl) :
  DE X E (cD own.length it g t m) (.ListComp elt [⟨tg,e,ifs,0⟩] scope pos):=by
 simp[bA,qI,mE,va]at *;exact PE.imp (J4 own CS hc hi hg ht he hs) λσ H Q q=>D3 q λys vs θ h H _=>vb ys vs θ h H
theorem Ku{mk:List D->Hm->R D}(h:lS G E (cR i (ag mk (oS n it g t m))) C σ H)
 (hmk:∀Q ys vs θ h H,ys.length<=sizeLine->W G θ h H->bh G θ H ys vs->aI G (qG G E) θ H (mk ys h) (KV G Q)->∀p,H p=none->Q (.ref p) (upd H p (.lst vs))) :
  BU (Dx n (lI G E it) (lG G oE g) (lT G oE t) (lE G oE m)) (L2.aB i) C σ H:=by
 obtain⟨θ,h,ρ,w,fr,p⟩:=h;refine D3 ⟨θ,h,ρ,w,fr,(aI.bind p).mono (by rintro d θ1 h1 H1 _ _ ⟨ev,w1,p1⟩ v r;exact p1 θ1 H1 Ev.refl w1 _ ((fr.ev ev).set r))⟩ (hmk _)
theorem D4(own:Yn){pos' spos:Pos}(hN:X.N.Nodup)(hxi:X.N[i]?=some x)(hx:X.env.scope.names.lookup x=some .local)(CS:gH X.env.scope X.N own scope=true)(hc:X.calm=true)(hi:DI X E it tg e)(hg:∀C s2 H2 fp pins,DG (aN X own scope C s2 H2 fp pins) oE g tg)
 (ht:∀C s2 H2 fp pins,N9 (aN X own scope C s2 H2 fp pins) oE t ifs)(he:∀C s2 H2 fp pins,DE (aN X own scope C s2 H2 fp pins) oE m elt)(hs:∀x,foldedSetIterable e X.env x=pure x:=by intro _;rfl)
 (hsw:swapsWith (.ListComp elt [⟨tg,e,ifs,0⟩] scope pos) (some (.Name x pos')) spos.line X.env=pure true:=by rfl):DS X E (cR i (cD own.length it g t m)) (.Assign [.Name x pos'] (.ListComp elt [⟨tg,e,ifs,0⟩] scope pos) spos):=by
 simp[bA,mn,qI,mE,va]at *;exact PS.imp (J7 own hN hxi hx CS hc hi hg ht he hs hsw) λC σ H q=>Ku q λQ ys vs θ h H _=>vb ys vs θ h H
end
noncomputable def JE(G:Gx)(F:Fn):Sp:=λvs H Q E=>∃θ h ds,W G θ h H/\bh G θ H ds vs/\aI G (qG G E) θ H (F ds h) (KV G Q)
noncomputable def HD(F:Fn)(n:Nat):Prop:=∀ds h,ds.length≠n->F ds h=.bad
theorem D5(ar:HD F n):∀vs H Q E,JE G F vs H Q E->vs.length=n:=by
 rintro vs H Q E ⟨θ,h,ds,w,r,p⟩;by_cases e:ds.length=n
 ·rw[<- e];exact(U2 r).symm
 ·rw[ar ds h e]at p;exact p.elim
theorem nQ:HD (bj p n b) p:=λds h e=>by simp[bj,e]
structure aZ(P:Yt)(w:World)(K:Ym)(mg:Yi)(base:Heap)(x:Str)(ps:Yn)(k:Nat)(F:Fn):Prop where
 has:HB P w K mg base x ps k (JE ⟨P,w,mg,K⟩ F)
 ar:HD F ps.length
section
variable {P:Yt} {w:World} {K:Ym} {mg:Yi} {base:Heap} {x qual:Str} {st:Stmt} {f:Addr} {fd:FuncData} {N ps:Yn} {k:Nat} {b:MS} {F:Fn}
theorem Fr.start{n:Nat}(r:bh G θ H ds vs)(hl:ds.length=ps.length):Fr G θ H (ds.map some++List.replicate (N.length-ps.length) none) (start N vs):=by
 have hv:ds.length=vs.length:=U2 r;unfold L2.start;rw[<- hv,hl];refine⟨by simp_all,λi d e=>?_⟩;by_cases hi:i<ds.length
 ·rw[UX (by simp_all)]at e;rw[UX (by simp_all)];simp only[Vs]at e ⊢
  cases e1:ds[i]? with
  |none=>grind
  |some d'=>rw[e1]at e;simp at e;subst e;obtain⟨v,e2,rv⟩:=r.some e1;exact⟨v,by simp_all,rv⟩
 ·rw[Vb (by simpa using hi),Ww]at e;split at e<;>cases e
theorem Tv(Fu:Gr K x qual st f fd)(S:aM N ps (ao st))(hbody:∀(cdv:Value) (A:Yv) (outer:List Env) (s:Yw) (H:Hp) (E:XK),bJ k (A.deeper (PyProof.Rows.envOfC qual (ao st) s.heap.objs.size f cdv)) ->
   DZ (fA (ja P w) P w K mg base N qual (ao st) f cdv A outer s H E) E b (bV st)):jT P w K mg base (ja P w) (k+1) f fd ps (JE ⟨P,w,mg,K⟩ (bj ps.length N.length b)):=by
 simp[mr]at *;refine Fu.Uh S (D5 nQ) λcdv A outer s H vs Q E hr ⟨θ,h,ds,w,r,p⟩=>⟨_,hbody cdv A outer s H E hr,?_⟩;unfold bj at p;split at p
 ·rename_i hl;refine⟨θ,h,_,w,Fr.start (n:=0) r hl,(aI.bind p).mono λfl θ1 h1 H1 _ _ ⟨ev,w1,p1⟩=>?_⟩
  cases fl with
  |nx ρ=>exact λσ fr=>p1 θ1 H1 Ev.refl w1 _ ⟨rfl,by rfl⟩
  |rt d=>exact p1 θ1 H1 Ev.refl w1
  |bk ρ=>trivial
  |ct ρ=>trivial
 ·trivial
theorem aZ.mono(h:aZ P w K mg base x ps j F)(l:j<=k):aZ P w K mg base x ps k F:=by obtain⟨⟨f,fd,h1,h2,h3,h4⟩,ar⟩:=h;exact⟨⟨f,fd,h1,h2,h3,h4.mono l⟩,ar⟩
theorem aZ.eq(h:aZ P w K mg base x ps k F)(e:F=F'):aZ P w K mg base x ps k F':=e▸h
end
section
variable {X:Cx} {E:XK} {x:Str} {ps:Yn} {k:Nat} {F:Fn} {e:Expr} {es:Yo} {ma:MA} {p pos:Pos}
theorem cG:Passes (ja X.prog X.w) X oE:=by rintro _ _ _ _ _ _ _ ⟨_,_,_,_,_,_,_,_,_,_,_,_,_,h⟩;exact h.elim
theorem Qj(F':aZ X.prog X.w X.K X.mg X.base x ps k F)(hx:Passes (ja X.prog X.w) X E)(hr:bJ k X.A)(hg:Gl X x)(ha:DA X E ma (e::es))(hdb:(x==("__debug__" : Str))=false:=by decide)(he:starEach (e::es) X.env=(false,eval e X.env)::starEach es X.env:=by rfl)
 (hpl:(backTo pos (starEach es X.env)).any (·.1)=false:=by rfl):DE X E (ag F ma) (.Call (.Name x p) (e::es) [] pos):=by
 simp only[bA,j3]at *;exact PE.imp (N8 F'.has hx hr hg ha hdb he hpl) (by rintro σ H Q ⟨θ,h,ρ,w,fr,p⟩;exact⟨θ,h,ρ,w,fr,(aI.bind p).mono (by rintro xs θ1 h1 H1 _ _ ⟨ev,w1,p1⟩ vs r;exact⟨θ1,h1,xs,w1,by grind,p1⟩)⟩)
theorem HE(F':aZ X.prog X.w X.K X.mg X.base x [] k F)(hx:Passes (ja X.prog X.w) X E)(hr:bJ k X.A)(hg:Gl X x)(hdb:(x==("__debug__" : Str))=false:=by decide):DE X E (ag F aj) (.Call (.Name x p) [] [] pos):=by simp only[bA]at *;obtain⟨f,fd,h1,h2,h3,h4⟩:=F'.has.ex;exact PE.imp (GN h4 hr hg h1 h2 h3 .nil hx hdb) (by rintro σ H Q ⟨θ,h,ρ,w,fr,p⟩;exact⟨θ,h,[],w,.nil,p⟩)
end
theorem FH(hx:(match x with|.int _|.str _|.bool _|.none=>true|_=>false)=true)(r:RelV (NU x) u):Reads h u x []:=by
 cases x with
 |none=>cases r;exact .none
 |bool b=>cases r;exact .bool b
 |int i=>obtain⟨t,rfl⟩:=r;exact .int i t
 |str s=>obtain⟨t,rfl⟩:=r;exact .str s t
 |_=>cases hx
theorem kG:∀{xs:Yj} {us:Yl},(∀x∈xs,(match x with|.int _|.str _|.bool _|.none=>true|_=>false)=true)->Vals (xs.map NU) us->ReadsAll h us xs []
 | [],us,_,r=>by cases r;exact .nil
 |x::xs,us,hx,r=>by
  cases r with
  |cons r1 r2=>exact .cons (FH (hx x (by simp)) r1) (kG (λy m=>hx y (by simp[m])) r2)
section
variable {X:Cx} {pins:Yf} {σ:L2.St} {H:Hp} {s:Yw} {θ:Yk} {hm:Hm}
theorem fJ(I:Inv X pins σ H s)(w:W X.G θ hm H):∀(n:Nat) {x:D} {v:V} {u:Value} {d:PyData},bT X.G θ H x v->RelV v u->Ac hm n x=some d->(∃as,Reads s.heap u d as)/\dz d=true:=by
 intro n
 induction n with
 |zero=>
  intro x v u d r rv e
  cases x with
  |dat d'=>simp only[Ac]at e;cases e;exact⟨Rep.reads I (r.1.same (aC _ _)) rv,r.2⟩
  |ktup xs=>simp only[Ac]at e;cases e;obtain⟨a,rfl,⟨o,its,k,hl,hc,hd,_,vs⟩,hx,hs⟩:=r;cases rv;exact⟨⟨_,.tuple (I.qb _ _ hl) hc hd (kG hx vs)⟩,by assumption⟩
  |_=>simp[Ac]at e
 |succ n ih=>
  intro x v u d r rv e
  cases x with
  |dat d'=>simp only[Ac]at e;cases e;exact⟨Rep.reads I (r.1.same (aC _ _)) rv,r.2⟩
  |ktup xs=>simp only[Ac]at e;cases e;obtain⟨a,rfl,⟨o,its,k,hl,hc,hd,_,vs⟩,hx,hs⟩:=r;cases rv;exact⟨⟨_,.tuple (I.qb _ _ hl) hc hd (kG hx vs)⟩,by simpa [dz]using hs⟩
  |ref i=>
   simp only[Ac]at e;obtain⟨a,ha,rfl⟩:=r;cases rv
   cases e1:hm[i]? with
   |none=>rw[e1]at e;cases e
   |some o=>
    rw[e1]at e
    cases o with
    |lst xs=>
     simp only at e;obtain⟨vs,hv,rs⟩:=w.obj i a _ ha e1;obtain⟨_,its,k,rvs,ho⟩:=I.hok a _ hv
     have all:∀{xs:List D} {vs:List V} {us:Yl} {ds:Yj},bh X.G θ H xs vs->Vals vs us->lP (Ac hm n) xs=some ds->(∃as,ReadsAll s.heap us ds as)/\cK ds=true:=by
      intro xs
      induction xs with
      |nil=>intro vs us ds r1 r2 e;cases r1;cases r2;cases e;exact⟨⟨_,.nil⟩,by simp[cK]⟩
      |cons x xs ihx=>
       intro vs us ds r1 r2 e
       cases r1 with
       |cons p1 p2=>
        cases r2 with
        |cons q1 q2=>
         unfold lP at e
         cases e2:Ac hm n x with
         |none=>rw[e2]at e;cases e
         |some d=>
          cases e3:lP (Ac hm n) xs with
          |none=>rw[e2,e3]at e;cases e
          |some ds'=>rw[e2,e3]at e;cases e;obtain⟨⟨as,z1⟩,s1⟩:=ih p1 q1 e2;obtain⟨⟨bs,z2⟩,s2⟩:=ihx p2 q2 e3;exact⟨⟨_,.cons z1 z2⟩,by simp[cK,s1,s2]⟩
     cases e2:lP (Ac hm n) xs with
     |none=>rw[e2]at e;cases e
     |some ds=>rw[e2]at e;cases e;obtain⟨⟨as,z⟩,s1⟩:=all rs rvs e2;exact⟨⟨_,.list ho rfl rfl (by simpa using z)⟩,by simpa [dz]using s1⟩
    |_=>cases e
  |_=>simp[Ac]at e
end
end Ml
namespace PySem.SeqAt
open PySem PySem.MeetsSeq PySem.AutoSeq1
theorem vc(t:Addr)(its:Yr)(m:Nat)(d2:Option Addr)(sl2:Yp)(l:Addr)(es:Yq)(n:Nat)(dd:Option Addr)(sl:Yp) :
  Meets (Builtin.«tuple.__eq__» ⟨[.ref t,.ref l],[]⟩) (λ_ R s=>s.heap.get? t=some {cls:=.type "tuple",dict:=d2,data:=.seq its m,slots:=sl2}/\s.heap.get? l=some {cls:=.type "dict",dict:=dd,data:=.dict es n,slots:=sl}/\R (.ok (.ret .notImplemented)) s):=
 .of_wp λprog w A R s h=>by
  obtain⟨hp,g,d,tk,os⟩:=s;obtain⟨ht,hl,h⟩:=h;have f1:=F.sub_dict_tuple
  wp_walk using wpAny_loadPart' hl,Xs hl,wpAny_loadPart' ht,Xs ht
  grind
theorem vf(t:Addr)(its:Yr)(m:Nat)(d2:Option Addr)(sl2:Yp)(l:Addr)(es:Yq)(n:Nat)(dd:Option Addr)(sl:Yp) :
  Meets (Builtin.«dict.__eq__» ⟨[.ref l,.ref t],[]⟩) (λ_ R s=>s.heap.get? t=some {cls:=.type "tuple",dict:=d2,data:=.seq its m,slots:=sl2}/\s.heap.get? l=some {cls:=.type "dict",dict:=dd,data:=.dict es n,slots:=sl}/\R (.ok (.ret .notImplemented)) s):=
 .of_wp λprog w A R s h=>by
  obtain⟨hp,g,d,tk,os⟩:=s;obtain⟨ht,hl,h⟩:=h;have f1:=F.sub_tuple_dict
  wp_walk using wpAny_loadPart' hl,Xs hl,wpAny_loadPart' ht,Xs ht
  grind
theorem vg{h:Heap}(ht:h.get? t=some {cls:=.type "tuple",dict:=d2,data:=.seq its m,slots:=sl2})
 (hl:h.get? l=some {cls:=.type "dict",dict:=dd,data:=.dict es n,slots:=sl}):t≠l:=λe=>by
 grind
theorem RcAt.ze(ht:s.heap.get? t=some {cls:=.type "tuple",dict:=d2,data:=.seq its m,slots:=sl2})
 (hl:s.heap.get? l=some {cls:=.type "dict",dict:=dd,data:=.dict es n,slots:=sl})(hu:A.units<cLine):RcAt A s (.ref t) (.ref l) false:=λprog w E Q h=>
 have ne  := vg ht hl
 rc_eq_decline_or ⟨_,ht,rfl⟩ ⟨_,hl,rfl⟩ (by decide) F.sub_dict_tuple F.slot_tuple_eq Xa
  (λ_ hq=>WD F.slot_tuple_eq ⟨_,ht,rfl⟩ F.entry_tuple_eq (F.args_tuple_eq_2 _ _) (vc t its m d2 sl2 l es n dd sl) ⟨ht,hl,hq⟩)
  (λ_ hq=>WD Xa ⟨_,hl,rfl⟩ F.entry_dict_eq (F.args_dict_eq_2 _ _) (vf t its m d2 sl2 l es n dd sl) ⟨ht,hl,hq⟩)
  (λ_ hq=>wpAny_isSame_ref_other' ne ht hl (show Value.type "dict" ≠ Value.type "tuple" by decide) hq) (.inr hu) h
theorem EqAt.ze(ht:s.heap.get? t=some {cls:=.type "tuple",dict:=d2,data:=.seq its m,slots:=sl2})
 (hl:s.heap.get? l=some {cls:=.type "dict",dict:=dd,data:=.dict es n,slots:=sl})(hu:A.units<cLine):EqAt A s (.ref t) (.ref l) false:=
 .of_refs (vg ht hl) (.ze ht hl hu)
end PySem.SeqAt
namespace Ml
open PySem PySem.Spec L2
theorem Cs(sa:dz d=true)(sb:dz e=true)(h:eqQ d e=some k):d.canLay0=true/\e.canLay0=true/\min d.depth e.depth<=40/\k=PyData.eqv d e:=by
 unfold eqQ at h;split at h
 ·rename_i hn;simp[noDict]at hn;cases h;exact⟨jC sa hn.1.1,jC sb hn.1.2,hn.2,rfl⟩
 grind
theorem Oa(ra:Reads s.heap a d as)(rb:Reads s.heap b e bs)(sa:dz d=true)(sb:dz e=true)(hu:A.units+41<cLine)(h:FC d e=some k):SeqAt.EqAt A s a b k/\d.canLay0=true:=by
 unfold FC at h;split at h
 ·cases h;cases ra
  cases rb with
  | @dict a' o' es n kvs as1 bs1 h1 h2 h3 h4 h5=>obtain⟨oc,od,dat,osl⟩:=o';cases h2;cases h3;exact⟨SeqAt.EqAt.Kp _ _ h1 (by omega),by assumption⟩
 ·split at h
  ·rename_i hn;simp only[noDict,Xu]at hn;cases h;have hl:=jC sa hn
   cases ra with
   | @tuple l o vs m xs as1 g1 g2 g3 g4=>
    obtain⟨oc2,od2,dat2,osl2⟩:=o;cases g2;cases g3
    cases rb with
    | @dict a' o' es n kvs as1 bs1 h1 h2 h3 h4 h5=>obtain⟨oc,od,dat,osl⟩:=o';cases h2;cases h3;exact⟨SeqAt.EqAt.ze g1 h1 (by omega),hl⟩
  grind
 ·obtain⟨l1,l2,l3,rfl⟩:=Cs sa sb h;exact⟨XN _ _ A s a b as bs ra rb l1 l2 (by omega),l1⟩
theorem aI.lQ(p:aI G E θ H (.ok d h) (KV G Q))(w:W G θ h H)(r:bT G θ H d v):Q v H:=p θ H Ev.refl w v r
theorem cE(b:Bool):bT G θ H (.bool b) (.bl b):=⟨rfl,by rfl⟩
theorem cM(i:Int):bT G θ H (.int i) (.int i):=⟨rfl,by rfl⟩
theorem FI:bT G θ H D.none .non:=⟨rfl,by rfl⟩
section
variable {X:Cx} {E:XK} {k:Nat}
theorem Ct(hr:bJ k X.A):pK X E (compareOp .Eq) oEq:=by
 rintro pins s σ H x y v u Q I rx ry ⟨θ,h,d1,d2,w,r1,r2,p⟩;unfold oEq at p;split at p
 ·exact L6 pins s σ H x y v u Q I rx ry (by cases r1;cases r2;exact⟨rfl,by simpa using p.lQ w (cE _)⟩)
 ·cases e1:Cm h d1 with
  |none=>rw[e1]at p;exact p.elim
  |some d=>
   cases e2:Cm h d2 with
   |none=>rw[e1,e2]at p;exact p.elim
   |some e=>
    rw[e1,e2]at p;simp only at p
    cases e3:eqQ d e with
    |none=>rw[e3]at p;exact p.elim
    |some b=>rw[e3]at p;obtain⟨⟨as,z1⟩,s1⟩:=fJ I w 3 r1 rx e1;obtain⟨⟨bs,z2⟩,s2⟩:=fJ I w 3 r2 ry e2;obtain⟨l1,l2,l3,rfl⟩:=Cs s1 s2 e3;exact SeqAt.compareEq_reads z1 z2 l1 l2 (by have:=hr.units;omega) ⟨.bl _,H,I,rfl,p.lQ w (cE _)⟩
theorem AJ(hr:bJ k X.A):pK X E (compareOp .NotEq) ur:=by
 rintro pins s σ H x y v u Q I rx ry ⟨θ,h,d1,d2,w,r1,r2,p⟩;unfold ur at p;split at p
 ·exact L7 pins s σ H x y v u Q I rx ry (by cases r1;cases r2;exact⟨rfl,by simpa using p.lQ w (cE _)⟩)
 ·cases e1:Cm h d1 with
  |none=>rw[e1]at p;exact p.elim
  |some d=>
   cases e2:Cm h d2 with
   |none=>rw[e1,e2]at p;exact p.elim
   |some e=>
    rw[e1,e2]at p;simp only at p
    cases e3:eqQ d e with
    |none=>rw[e3]at p;exact p.elim
    |some b=>rw[e3]at p;obtain⟨⟨as,z1⟩,s1⟩:=fJ I w 3 r1 rx e1;obtain⟨⟨bs,z2⟩,s2⟩:=fJ I w 3 r2 ry e2;obtain⟨l1,l2,l3,rfl⟩:=Cs s1 s2 e3;exact SeqAt.compareNe_reads z1 z2 l1 l2 (by have:=hr.units;omega) ⟨.bl _,H,I,rfl,p.lQ w (cE _)⟩
theorem zf(rx:Reads s.heap x d bs)(sx:dz d=true)(hu:A.units+41<cLine):∀{vs:Yl} {ds:Yj} {as:Yk} {b:Bool},ReadsAll s.heap vs ds as->cK ds=true->Hq d ds=some b ->
  (∀y∈vs,SeqAt.EqAt A s y x ((FC (SeqAt.readOf s.heap y) d).getD false))/\(vs.any λy=>(FC (SeqAt.readOf s.heap y) d).getD false)=b
 | [],_,_,b,.nil,_,e=>by cases e;grind
 |v::vs,_,_,b,.cons (d:=d1) (ds:=ds) r1 r2,so,e=>by
  simp only[cK,Ux]at so;unfold Hq at e
  cases e1:FC d1 d with
  |none=>simp_all
  |some b1=>
   cases e2:Hq d ds with
   |none=>simp_all
   |some b2=>
    rw[e1,e2]at e;cases e;obtain⟨h1,h2⟩:=zf rx sx hu r2 so.2 e2;obtain⟨q1,q2⟩:=Oa r1 rx so.1 sx hu e1;have er:SeqAt.readOf s.heap v=d1:=SeqAt.readOf_eq q2 r1
    grind
theorem HF(hr:bJ k X.A){σ:L2.St}(hsq:sq=.tuple ds\/sq=.list ds)(I:Inv X pins σ H s)(z1:Reads s.heap v d as)(z2:Reads s.heap u sq bs)(s1:dz d=true)(s2:cK ds=true)(e:Hq d ds=some b) :
  (Q (.bl b) H->wpAny (model X.prog X.w) X.A (compareOp .In v u) (EP X pins σ Q) X.xe s)/\(Q (.bl !b) H->wpAny (model X.prog X.w) X.A (compareOp .NotIn v u) (EP X pins σ Q) X.xe s):=by
 have hu:X.A.in1.units+41<cLine:=by have:=hr.units;grind
 rcases hsq with rfl|rfl
 ·cases z2 with
  |tuple h1 h2 h3 h4=>
   obtain⟨q1,q2⟩:=zf (A:=X.A.in1) z1 s1 hu h4 s2 e;rename_i vs n;have q3:(vs.any λy=>(FC (SeqAt.readOf s.heap y) d).getD false)=b:=by grind
   exact⟨λq=>SeqAt.in_tupleAt _ ⟨_,h1,h2,_,h3⟩ (λy m=>q1 y (Wg.mpr m)) (by rw[q3];exact⟨.bl b,H,I,rfl,q⟩),λq=>SeqAt.notIn_tupleAt _ ⟨_,h1,h2,_,h3⟩ (λy m=>q1 y (Wg.mpr m)) (by rw[q3];exact⟨.bl (!b),H,I,rfl,q⟩)⟩
 ·cases z2 with
  |list h1 h2 h3 h4=>
   obtain⟨q1,q2⟩:=zf (A:=X.A.in1) z1 s1 hu h4 s2 e;rename_i vs n _;have q3:(vs.any λy=>(FC (SeqAt.readOf s.heap y) d).getD false)=b:=by rw[<- q2,<- Array.any_toList]
   exact⟨λq=>SeqAt.in_listAt _ ⟨_,h1,h2,_,h3⟩ (λy m=>q1 y (Wg.mpr m)) (by rw[q3];exact⟨.bl b,H,I,rfl,q⟩),λq=>SeqAt.notIn_listAt _ ⟨_,h1,h2,_,h3⟩ (λy m=>q1 y (Wg.mpr m)) (by rw[q3];exact⟨.bl (!b),H,I,rfl,q⟩)⟩
end
end Ml
namespace PySem.SeqAt
open PySem.AutoSeq1 (wpAny_loadPart')
open PySem.MeetsSeq PySem.MeetsSeq2 PySem.MeetsSeq3
noncomputable def HG(A:Yv)(s:Yw)(y x:Value)(b:Bool):Prop:=
 ∀(prog:Yt) (w:World) (E:Ye) (Q:Ye),Q (.bool b) s->wpAny (model prog w) A (richCompare .Lt y x) Q E s
inductive oV (A:Yv) (s:Yw):Yl->Yl->Bool->Prop
 |nil:oV A s [] [] false
 |left {w ws}:oV A s [] (w::ws) true
 |right {v vs}:oV A s (v::vs) [] false
 |eq {v vs w ws k}:EqAt A s v w true->oV A s vs ws k->oV A s (v::vs) (w::ws) k
 |ne {v vs w ws k}:EqAt A s v w false->HG A s v w k->oV A s (v::vs) (w::ws) k
theorem qK(l b:Addr)(its1 its2:Yr)(n n2:Nat)(dd dd2:Option Addr)(sl sl2:Yp)(k:Bool) :
  Meets (Builtin.«tuple.__lt__» ⟨[.ref l,.ref b],[]⟩) (λA R s=>s.heap.get? l=some {cls:=.type "tuple",dict:=dd,data:=.seq its1 n,slots:=sl}/\s.heap.get? b=some {cls:=.type "tuple",dict:=dd2,data:=.seq its2 n2,slots:=sl2}/\oV A.in1 s its1.toList its2.toList k/\R (.ok (.ret (.bool k))) s):=
 .of_wp λprog w A R s h=>by
  obtain⟨hp,g,d,tk,os⟩:=s;obtain⟨hl,hb,hx,h⟩:=h;have f2:=AutoSeq1.sub_tuple_tuple
  wp_walk using wpAny_loadPart' hl,wpAny_loadPart' hb,wpAny_forIn_list _ (λrest b s'=>b.1=none/\s'=⟨hp,g,d,tk,os⟩/\∃(vs ws:Yl),rest=vs.zip ws/\oV A.in1 ⟨hp,g,d,tk,os⟩ vs ws k/\vs.length+its2.size=ws.length+its1.size/\R (.ok (.ret (.bool k))) ⟨hp,g,d,tk,os⟩) _
  case turn=>
   rintro⟨y,x⟩ rest b s' ⟨hb',rfl,vs,ws,hz,hx,hlen,hR⟩
   cases hx with
   |nil=>rw[List.zip_nil_left]at hz;cases hz
   |left=>rw[List.zip_nil_left]at hz;cases hz
   |right=>rw[List.zip_nil_right]at hz;cases hz
   | @eq v vs w' ws k he hx'=>
    rw[WJ]at hz;injection hz with hyx hrest;injection hyx with hy hx;subst hy hx;simp only[UR]at hlen;refine Uu (he prog w _ _ ?_)
    wp_walk
    exact⟨rfl,rfl,_,_,hrest,hx',by omega,hR⟩
   | @ne v vs w' ws k he hlt=>
    rw[WJ]at hz;injection hz with hyx hrest;injection hyx with hy hx;subst hy hx;refine Uu (he prog w _ _ ?_);have hri:=hlt prog w
    wp_walk using hri
    exact⟨_,rfl,by simpa using hR⟩
  case fin=>
   rintro⟨b1,b2⟩ s' ⟨hb',rfl,vs,ws,hz,hx,hlen,hR⟩;simp only at hb';subst hb'
   have hv:k=decide (its1.size<its2.size):=by
    cases hx with
    |nil=>simp only[Vq]at hlen;exact(U0 (by omega)).symm
    |left=>simp only[Vq,UR]at hlen;exact(Vc (by omega)).symm
    |right=>simp only[Vq,UR]at hlen;exact(U0 (by omega)).symm
    |eq=>rw[WJ]at hz;cases hz
    |ne=>rw[WJ]at hz;cases hz
   rw[hv]at hR
   wp_walk
   exact⟨_,rfl,by simpa [Builtin.Tuple.tupleCompareSizes]using hR⟩
  case h=>exact⟨rfl,rfl,its1.toList,its2.toList,rfl,hx,by simp;omega,h⟩
theorem HG.tuples(h1:s.heap.IsTuple l its1)(h2:s.heap.IsTuple b its2)(hu:A.units<cLine)(hx:oV A.in1 s its1.toList its2.toList k):HG A s (.ref l) (.ref b) k:=λprog w E Q h=>by
 obtain⟨⟨c1,d1,e1,l1⟩,p1,g1,n1,z1⟩:=h1;obtain⟨⟨c2,d2,e2,l2⟩,p2,g2,n2,z2⟩:=h2;subst g1 z1 g2 z2
 exact richCompare_meets_room ⟨_,p1,rfl⟩ ⟨_,p2,rfl⟩ XG PySem.F.entry_tuple_lt (PySem.F.args_tuple_lt_2 _ _) (qK l b _ _ n1 n2 d1 d2 l1 l2 k)
  ⟨p1,p2,hx,⟨(λx=>nomatch x),h⟩⟩ hu
end PySem.SeqAt
namespace Ml
open PySem PySem.Spec L2
open PySem.SeqAt
mutual
theorem qL:∀(d e:PyData) (A:Yv) (s:Yw) (a b:Value) (as bs:Yk) (k:Bool),Reads s.heap a d as->Reads s.heap b e bs->d.canLay0=true->e.canLay0=true->A.units+min d.depth e.depth<cLine->bY d e=some k->HG A s a b k
 |.int i,.int j,A,s,a,b,as,bs,k,ra,rb,_,_,_,h=>by cases ra;cases rb;simp only[bY]at h;cases h;exact λprog w E Q q=>(PyProof.Rows.lt_int q:wpAny (model prog w) A (compareOp .Lt _ _) Q E s)
 |.str x,.str y,A,s,a,b,as,bs,k,ra,rb,_,_,_,h=>by cases ra;cases rb;simp only[bY,pE]at h;cases h;exact λprog w E Q q=>(PySem.P.lt_str q:wpAny (model prog w) A (compareOp .Lt _ _) Q E s)
 |.tuple xs,.tuple ys,A,s,a,b,as,bs,k,ra,rb,ha,hb,hu,h=>by
  cases ra with
  |tuple g1 g2 g3 g4=>
   cases rb with
   |tuple k1 k2 k3 k4=>simp only[bY]at h;simp only[PyData.canLay0]at ha hb;simp only[PyData.depth]at hu;exact HG.tuples ⟨_,g1,g2,_,g3⟩ ⟨_,k1,k2,_,k3⟩ (by omega) (rZ xs ys A.in1 s _ _ _ _ k g4 k4 ha hb (by show A.units+1+_<_;omega) h)
 |.none,_,_,_,_,_,_,_,_,_,_,_,_,_,h=>by simp[bY]at h
 |.bool _,_,_,_,_,_,_,_,_,_,_,_,_,_,h=>by simp[bY]at h
 |.list _,_,_,_,_,_,_,_,_,_,_,_,_,_,h=>by simp[bY]at h
 |.dict _,_,_,_,_,_,_,_,_,_,_,_,_,_,h=>by simp[bY]at h
 |.int _,.none,_,_,_,_,_,_,_,_,_,_,_,_,h=>by simp[bY]at h
 |.int _,.bool _,_,_,_,_,_,_,_,_,_,_,_,_,h=>by simp[bY]at h
 |.int _,.str _,_,_,_,_,_,_,_,_,_,_,_,_,h=>by simp[bY]at h
 |.int _,.list _,_,_,_,_,_,_,_,_,_,_,_,_,h=>by simp[bY]at h
 |.int _,.tuple _,_,_,_,_,_,_,_,_,_,_,_,_,h=>by simp[bY]at h
 |.int _,.dict _,_,_,_,_,_,_,_,_,_,_,_,_,h=>by simp[bY]at h
 |.str _,.none,_,_,_,_,_,_,_,_,_,_,_,_,h=>by simp[bY]at h
 |.str _,.bool _,_,_,_,_,_,_,_,_,_,_,_,_,h=>by simp[bY]at h
 |.str _,.int _,_,_,_,_,_,_,_,_,_,_,_,_,h=>by simp[bY]at h
 |.str _,.list _,_,_,_,_,_,_,_,_,_,_,_,_,h=>by simp[bY]at h
 |.str _,.tuple _,_,_,_,_,_,_,_,_,_,_,_,_,h=>by simp[bY]at h
 |.str _,.dict _,_,_,_,_,_,_,_,_,_,_,_,_,h=>by simp[bY]at h
 |.tuple _,.none,_,_,_,_,_,_,_,_,_,_,_,_,h=>by simp[bY]at h
 |.tuple _,.bool _,_,_,_,_,_,_,_,_,_,_,_,_,h=>by simp[bY]at h
 |.tuple _,.int _,_,_,_,_,_,_,_,_,_,_,_,_,h=>by simp[bY]at h
 |.tuple _,.str _,_,_,_,_,_,_,_,_,_,_,_,_,h=>by simp[bY]at h
 |.tuple _,.list _,_,_,_,_,_,_,_,_,_,_,_,_,h=>by simp[bY]at h
 |.tuple _,.dict _,_,_,_,_,_,_,_,_,_,_,_,_,h=>by simp[bY]at h
theorem rZ:∀(xs ys:Yj) (A:Yv) (s:Yw) (vs ws:Yl) (as bs:Yk) (k:Bool),ReadsAll s.heap vs xs as->ReadsAll s.heap ws ys bs->PyData.canLayAll0 xs=true->PyData.canLayAll0 ys=true->A.units+min (PyData.depthAll xs) (PyData.depthAll ys)<cLine->dy xs ys=some k->oV A s vs ws k
 | [],[],A,s,vs,ws,as,bs,k,ra,rb,_,_,_,h=>by cases ra;cases rb;simp only[dy]at h;cases h;exact .nil
 | [],_::_,A,s,vs,ws,as,bs,k,ra,rb,_,_,_,h=>by cases ra;cases rb;simp only[dy]at h;cases h;exact .left
 |_::_,[],A,s,vs,ws,as,bs,k,ra,rb,_,_,_,h=>by cases ra;cases rb;simp only[dy]at h;cases h;exact .right
 |x::xs,y::ys,A,s,vs,ws,as,bs,k,ra,rb,ha,hb,hu,h=>by
  cases ra with
  |cons r1 r2=>
   cases rb with
   |cons q1 q2=>
    simp only[PyData.canLayAll0,Ux]at ha hb;simp only[PyData.depthAll]at hu;have he:=eqAt_reads x y A s _ _ _ _ r1 q1 ha.1 hb.1 (by omega);simp only[dy]at h
    cases hq:PyData.eqv x y with
    |true=>rw[hq]at he h;exact .eq he (rZ xs ys A s _ _ _ _ k r2 q2 ha.2 hb.2 (by omega) (by simpa using h))
    |false=>rw[hq]at he h;exact .ne he (qL x y A s _ _ _ _ k r1 q1 ha.1 hb.1 (by omega) (by simpa using h))
end
section
variable {X:Cx} {E:XK} {k:Nat}
theorem FJ(hr:bJ k X.A):pK X E (compareOp .Lt) oLt:=by
 rintro pins s σ H x y v u Q I rx ry ⟨θ,h,d1,d2,w,r1,r2,p⟩;unfold oLt at p
 cases d1 with
 |dat d=>
  cases d2 with
  |dat e=>
   simp only at p;split at p
   ·rename_i hn;simp only[Ux,noDict,Xu,UZ]at hn
    cases e3:bY d e with
    |none=>rw[e3]at p;exact p.elim
    |some b=>rw[e3]at p;obtain⟨⟨as,z1⟩,s1⟩:=fJ I w 3 r1 rx (y6 h 3 d);obtain⟨⟨bs,z2⟩,s2⟩:=fJ I w 3 r2 ry (y6 h 3 e);exact qL d e X.A s v u as bs b z1 z2 (jC s1 hn.1.1) (jC s2 hn.1.2) (by have:=hr.units;omega) e3 X.prog X.w X.xe _ ⟨.bl b,H,I,rfl,p.lQ w (cE b)⟩
   ·trivial
  |_=>trivial
 |_=>trivial
theorem Mi(h:i6 X op (rI C g))(k:∀θ hm H d1 d2 Q,W X.G θ hm H->aI X.G (qG X.G E) θ H (f d1 d2 hm) (KV X.G Q)->∃i j,d1=.int i/\d2=.int j/\C i j/\Q (g i j) H):pK X E op f:=
 pK.of h λθ hm H d1 d2 x y Q w r1 r2 p=>by obtain⟨i,j,rfl,rfl,c,q⟩:=k θ hm H d1 d2 Q w p;exact⟨i,j,b9 r1,b9 r2,c,q⟩
theorem Cu(h:i6 X op (L5 g))(k:∀θ hm H d1 d2 Q,W X.G θ hm H->aI X.G (qG X.G E) θ H (f d1 d2 hm) (KV X.G Q)->∃i j,d1=.int i/\d2=.int j/\Q (g i j) H):pK X E op f:=
 pK.of h λθ hm H d1 d2 x y Q w r1 r2 p=>by obtain⟨i,j,rfl,rfl,q⟩:=k θ hm H d1 d2 Q w p;exact⟨i,j,b9 r1,b9 r2,q⟩
theorem Mj:pK X E (binaryOp .Sub) FA:=Cu M5 λθ hm H d1 d2 Q w p=>by
 unfold FA at p;split at p
 ·exact⟨_,_,rfl,rfl,p.lQ w (cM _)⟩
 ·trivial
theorem AK:pK X E (binaryOp .Mod) oMod:=Mi M7 λθ hm H d1 d2 Q w p=>by
 unfold oMod at p;split at p
 ·split at p
  ·rename_i hj;exact⟨_,_,rfl,rfl,hj,p.lQ w (cM _)⟩
  ·trivial
 ·trivial
theorem Ob:pK X E (binaryOp .FloorDiv) xX:=Mi JQ λθ hm H d1 d2 Q w p=>by
 unfold xX at p;split at p
 ·split at p
  ·rename_i hj;exact⟨_,_,rfl,rfl,hj,p.lQ w (cM _)⟩
  ·trivial
 ·trivial
theorem Qk:pK X E (compareOp .Gt) Pg:=Cu PR λθ hm H d1 d2 Q w p=>by
 unfold Pg at p;split at p
 ·exact⟨_,_,rfl,rfl,p.lQ w (cE _)⟩
 ·trivial
theorem Sk:pK X E (compareOp .GtE) Qg:=Cu PU λθ hm H d1 d2 Q w p=>by
 unfold Qg at p;split at p
 ·exact⟨_,_,rfl,rfl,p.lQ w (cE _)⟩
 ·trivial
theorem FK:pK X E (compareOp .LtE) oLe:=pK.of (i6.or PQ Fg) λθ hm H d1 d2 x y Q w r1 r2 p=>by
 unfold oLe at p;split at p
 ·exact .inl ⟨_,_,b9 r1,b9 r2,p.lQ w (cE _)⟩
 ·exact .inr ⟨_,_,r1.1,r2.1,p.lQ w (cE _)⟩
 ·trivial
end
end Ml
set_option maxHeartbeats 1000000
namespace Ml
open PySem PySem.Spec L2 PyProof.Rows PySem.W
noncomputable def tu:PyData->Nat
 |.int _=>0
 |.str _=>1
 |_=>2
noncomputable def HH:Nat->String
 |0 => "int"
 |1 => "str"
 |_ => "tuple"
theorem vh(h1:h.get? a=some o)(h2:o.cls=.type "tuple"):Looks M h (typeOf (.ref a)) (.type "tuple"):=by obtain⟨oc,od,dat,osl⟩:=o;cases h2;exact(Looks.ld h1).andThen .now
theorem FN(r:Reads h v d as)(t:au d=true):Looks M h (typeOf v) (.type (HH (tu d))):=by
 cases r with
 |int i t=>exact .now
 |str x t=>exact .now
 |tuple h1 h2 h3 h4=>exact vh h1 h2
 |_=>trivial
noncomputable def Ql(h:Heap)(f:Option Value)(d:PyData):Prop:=match d with
 |.tuple []=>f=none
 |.tuple (x::_)=>∃u bs,f=some u/\Reads h u x bs
 |_=>False
section
variable {P:Yt} {w:World} {A:Yv} {E:Ye} {s:Yw}
theorem tD:∀{vs:Yl} {ds:Yj} {as:Yk} {Q:List (Option Value)->Yw->Prop},ReadsAll s.heap vs ds as->ds.all iJ=true->(∀fs,Paired (Ql s.heap) fs ds->Q fs s)->wpAny M A (vs.mapM firstOfTuple') Q E s
 |_,_,_,Q,.nil,_,h=>by rw[List.mapM_nil];exact Uw (h [] .nil)
 |_,_,_,Q,.cons r t,al,h=>by
  simp only[List.all_cons,Ux]at al;rw[List.mapM_cons];refine Uu ?_
  cases r with
  |tuple h1 h2 h3 h4=>
   rename_i o its n xs;rw[kas_first_eq];refine Uu (Looks.here (vh h1 h2) ?_);rw[if_neg (by first|decide|simp)];refine Uu (PyProof.Rows.listItems_at h1 h3 (Uw ?_));refine Uu (tD t al.2 λfs hf=>Uw (h _ (.cons ?_ hf)));have e0:its[0]?=its.toList[0]?:=by simp
   rw[e0];generalize its.toList=l at h4
   cases h4 with
   |nil=>rfl
   |cons r1 r2=>exact⟨_,_,rfl,r1⟩
  |_=>simp[iJ]at al
theorem tE(t:av ds=true)(c:dJ ds=true)(h1:.tuple (x::xs)∈ds)(h2:.tuple (y::ys)∈ds):tu x=tu y:=by
 have t1:=aY t h1;have t2:=aY t h2;simp[au,av]at t1 t2;have q:=fk c h1 h2;simp[bY,dy]at q;by_cases e:x=y
 ·rw[e]
 ·rw[aW t1.1 t2.1 e,if_neg (by simp)]at q;cases x<;>cases y<;>first|rfl|trivial|rfl|rfl
theorem nR:∀{fs:List (Option Value)} {ds:Yj},Paired (Ql h) fs ds->∀v∈fs.filterMap id,∃x xs bs,.tuple (x::xs)∈ds/\Reads h v x bs
 |_,_,.nil,v,hv=>by grind
 |_,_,.cons (a:=f) (l₁:=fs) (b:=d) r p,v,hv=>by
  cases d with
  |tuple ys=>
   cases ys with
   |nil=>obtain rfl:f=none:=r;obtain⟨x,xs,bs,m,q⟩:=nR p v (by simp_all);exact⟨x,xs,bs,by simp[m],q⟩
   |cons y ys=>
    obtain⟨u,bs,rfl,q⟩:=r;rcases(show v=u\/some v∈fs by simpa using hv)with rfl|hv
    ·exact⟨y,ys,bs,by simp,q⟩
    ·obtain⟨x,xs,bs,m,q⟩:=nR p v (by simpa using hv);exact⟨x,xs,bs,by simp[m],q⟩
  |_=>exact(show False from r).elim
theorem readsAll_len:∀{vs:Yl} {ds:Yj} {as:Yk},ReadsAll h vs ds as->vs.length=ds.length
 |_,_,_,.nil=>rfl
 |_,_,_,.cons _ t=>by simp[readsAll_len t]
theorem vi:∀{vs:Yl} {ds:Yj} {as:Yk},ReadsAll h vs ds as->ds.all iJ=true->∀v∈vs,Looks M h (typeOf v) (.type "tuple")
 |_,_,_,.nil,_,v,hv=>by cases hv
 |_,_,_,.cons r1 r2,al,v,hv=>by
  simp only[List.all_cons,Ux]at al;rcases UC.mp hv with rfl|hv
  ·cases r1 with
   |tuple g1 g2 g3 g4=>exact vh g1 g2
   |_=>grind[iJ]
  ·exact vi r2 al.2 v hv
theorem FO(r:ReadsAll s.heap vs ds as)(al:ds.all iJ=true)(t:av ds=true)(c:dJ ds=true)(h2:1<=vs.length)
 (h1:∀b,(b=true->∀x xs,.tuple (x::xs)∈ds->tu x≠2)->Q (tuples' b) s)(h3:Q general' s)(h4:Q oneType' s):wpAny M A (keyKind' vs.toArray) Q E s:=by
 rw[PyProof.Rows.kat_kind_eq,List.mapM_toArray,map_eq_pure_bind];refine Uu (Uu (tD r al λfs hf=>Uw ?_));have hl:fs.length=ds.length:=U2 hf;have hl2:vs.length=ds.length:=readsAll_len r;split
 ·rename_i hall;refine Uu (Wl ?_);have e:(fs.toArray.filterMap id)=(fs.filterMap id).toArray:=by simp
  rw[e];have hall':∀f∈fs,f.isSome=true:=by simpa using hall
  obtain⟨u,us,eu⟩:∃u us,fs.filterMap id=u::us:=by
   match fs,hl,hall' with
   | [],hl,_=>simp at hl;omega
   |none::_,_,ha=>have:=ha none (.head _);cases this
   |some x::r,_,_=>exact⟨x,r.filterMap id,by simp⟩
  obtain⟨x,xs,bs,mx,rx⟩:=nR hf u (by rw[eu];simp);have tx:au x=true:=by have:=aY t mx;simp only[au,av,Ux]at this;exact this.1
  refine Uu (AA (T:=.type (HH (tu x))) (by rw[eu];simp) (λv hv=>?_) (by simp) ?_)
  ·obtain⟨y,ys,bs,my,ry⟩:=nR hf v hv;have ty:au y=true:=by have:=aY t my;simp only[au,av,Ux]at this;exact this.1
   rw[tE t c mx my];exact FN ry ty
  ·refine Uw (h1 _ λhb y ys my=>?_);rw[<- tE t c mx my];intro z;rw[z]at hb;exact absurd hb (by decide)
 ·split
  ·exact Uw h3
  ·refine Uu (AA (T:=.type "tuple") h2 (λv hv=>?_) (by rfl) ?_)
   ·exact vi r al v hv
   ·exact Uw h4
theorem AL:∀{us vs:Yl} {xs ys:Yj} {as bs:Yk} (i:Nat) (fin k:Bool),ReadsAll s.heap us xs as->ReadsAll s.heap vs ys bs->av xs=true->av ys=true->PyData.canLayAll0 xs=true->PyData.canLayAll0 ys=true ->
  A.units+min (PyData.depthAll xs) (PyData.depthAll ys)<cLine->fin=decide (xs.length<ys.length)->(b=true->i=0->∀x∈xs.head?,tu x≠2)->dy xs ys=some k->Q k s->KatLex P w A b fin Q (us.zip vs) i s:=by
 intro us vs xs
 induction xs generalizing us vs with
 |nil=>
  intro ys as bs i fin k r q _ _ _ _ _ e _ h z;subst e;cases r
  cases q with
  |nil=>simp[dy]at h;subst h;exact PySem.W.kat_nil z
  |cons=>simp[dy]at h;subst h;exact PySem.W.kat_nil (by simpa using z)
 |cons x xs ih=>
  intro ys as bs i fin k r qq t1 t2 l1 l2 hu e hb h q
  cases r with
  |cons r1 r2=>cases qq with
   |nil=>subst e;simp[dy]at h;subst h;exact PySem.W.kat_nil (by simpa using q)
   | @cons _ _ y ys _ _ q1 q2=>
    rw[WJ];refine PySem.W.kat_cons ?_;simp only[av,PyData.canLayAll0,Ux]at t1 t2 l1 l2;simp only[PyData.depthAll]at hu;refine XN x y A s _ _ _ _ r1 q1 l1.1 l2.1 (by omega) P w _ _ ?_;simp only[dy]at h
    cases hq:PyData.eqv x y with
    |true=>rw[hq,if_pos rfl]at h;exact PySem.W.kat_yes (ih (i+1) fin k r2 q2 t1.2 t2.2 l1.2 l2.2 (by omega) (by rw[e];simp) (λ_ z=>by omega) h q)
    |false=>
     rw[hq,if_neg (by simp)]at h;refine PySem.W.kat_no ?_;have fin2:wpAny (model P w) A (oneLt' false _ _) Q (λ_ _=>False) s:=kat_one _ _ (qL x y A s _ _ _ _ k r1 q1 l1.1 l2.1 (by omega) h P w (λ_ _=>False) _ q)
     cases hbi:(b&&i==0)with
     |false=>exact fin2
     |true=>
      simp only[Ux,X9]at hbi;have kx:=hb hbi.1 hbi.2 x (by simp)
      cases x with
      |int i1=>
       cases y with
       |int j1=>cases r1;cases q1;simp only[bY]at h;cases h;exact oneLt_int q
       |_=>simp[bY]at h
      |str i1=>
       cases y with
       |str j1=>cases r1;cases q1;simp only[bY,pE]at h;cases h;exact oneLt_str q
       |_=>simp[bY]at h
      |_=>exact absurd rfl kx
theorem Cv(hu:A.units+41<cLine)(rx:Reads s.heap x (.tuple xs) as)(ry:Reads s.heap y (.tuple ys) bs)(t1:av xs=true)(t2:av ys=true)(l1:PyData.canLayAll0 xs=true)(l2:PyData.canLayAll0 ys=true)
 (hd:PyData.depthAll xs<=20)(h:dy xs ys=some k)(κ:SortKind)(hκ:(∃b,κ=tuples' b/\(b=true->∀x∈xs.head?,tu x≠2))\/κ=general'\/κ=oneType')(q:Q k s):wpAny (model P w) A (keyLt' κ x y) Q (λ_ _=>False) s:=by
 have ex:=rx;have ey:=ry
 cases rx with
 |tuple g1 g2 g3 g4=>
  rename_i o1 i1 n1
  cases ry with
  |tuple k1 k2 k3 k4=>
   rename_i o2 i2 n2;rcases hκ with⟨b,rfl,hb⟩|rfl|rfl
   ·refine kat_lt g1 g3 k1 k3 (AL 0 _ k g4 k4 t1 t2 l1 l2 (by omega) ?_ (λhb' _=>hb hb') h q);have z1:=readsAll_len g4;have z2:=readsAll_len k4
    grind
   ·show wpAny (model P w) A (oneLt' false _ _) Q _ s;exact kat_one _ _ (qL (.tuple xs) (.tuple ys) A s _ _ _ _ k ex ey (by simpa [PyData.canLay0]using l1) (by simpa [PyData.canLay0]using l2) (by simp only[PyData.depth];omega) (by simpa [bY]using h) P w (λ_ _=>False) _ q)
   ·rw[keyLt'_oneType,oneLt'_eq];simp only[Vu];refine Uu (wpAny_cRoomFor (by omega) ?_);obtain⟨c1,d1,e1,sl1⟩:=o1;obtain⟨c2,d2,e2,sl2⟩:=o2;cases g2;cases g3;cases k2;cases k3;refine Uu (wpAny_callSpecialIfBound?_slot ⟨_,g1,rfl⟩ XG (WD XG ⟨_,g1,rfl⟩ PySem.F.entry_tuple_lt (PySem.F.args_tuple_lt_2 _ _) (SeqAt.qK _ _ _ _ n1 n2 d1 d2 sl1 sl2 k) ⟨g1,k1,rZ xs ys _ s _ _ _ _ k g4 k4 l1 l2 (by show A.units+1+_<_;omega) h,?_⟩));exact VB q
theorem si:∀{vs:Yl} {ds:Yj} {as:Yk} (i:Nat),ReadsAll h vs ds as->i<vs.length->∃bs,Reads h (vs.getD i .none) (ds.getD i .none) bs
 |_,_,_,i,.nil,hi=>by grind
 |_,_,_,0,.cons r1 _,_=>⟨_,r1⟩
 |_,_,_,i+1,.cons _ r2,hi=>by simpa using si i r2 (by simp_all)
theorem getD_mem{α:Type}{xs:List α}{d:α}(h:i<xs.length):xs.getD i d∈xs:=by simp[h]
theorem vj:∀{ds:Yj} {d:PyData},PyData.canLayAll0 ds=true->d∈ds->d.canLay0=true
 |_::_,d,h,m=>by
  simp[PyData.canLayAll0]at h;rcases UC.mp m with rfl|m
  ·grind
  ·exact vj h.2 m
theorem vk:∀{ds:Yj} {d:PyData},d∈ds->d.depth<=PyData.depthAll ds
 |_::_,d,m=>by
  rcases UC.mp m with rfl|m
  ·exact Nat.le_max_left _ _
  ·exact UI (vk m) (Nat.le_max_right _ _)
theorem x5(hu:A.units+41<cLine)(r:ReadsAll s.heap vs ds as)(al:ds.all iJ=true)(t:av ds=true)(c:dJ ds=true)(l:PyData.canLayAll0 ds=true)(hd:PyData.depthAll ds<=20)(h2:1<=vs.length) :
  Hh P w A vs (λi j=>ltB (ds.getD i .none) (ds.getD j .none)) s:=by
 have hlen:=readsAll_len r
 have tup:∀{i:Nat},i<vs.length->∃xs bs,ds.getD i .none=.tuple xs/\.tuple xs∈ds/\Reads s.heap (vs.getD i .none) (.tuple xs) bs:=λ{i} hi=>by
  obtain⟨bs,q⟩:=si i r hi;have m:ds.getD i .none∈ds:=getD_mem (by omega);have a:=UM.mp al _ m
  cases e:ds.getD i .none with
  |tuple xs=>grind
  |_=>rw[e]at a;simp[iJ]at a
 have key:∀κ,((∃b,κ=tuples' b/\(b=true->∀x xs,.tuple (x::xs)∈ds->tu x≠2))\/κ=general'\/κ=oneType')->s=s/\∀i j C,i<vs.length->j<vs.length->C (ltB (ds.getD i .none) (ds.getD j .none)) s ->
   wpAny (model P w) A (keyLt' κ (vs.getD i Value.none) (vs.getD j Value.none)) C (λ_ _=>False) s:=λκ hκ=>⟨rfl,λi j C hi hj hC=>by
  obtain⟨xs,b1,e1,m1,q1⟩:=tup hi;obtain⟨ys,b2,e2,m2,q2⟩:=tup hj;have cc:=fk c m1 m2;have d1:=vk m1;have l1:=vj l m1;have l2:=vj l m2;have t1:=aY t m1;have t2:=aY t m2;simp only[PyData.depth]at d1;simp only[PyData.canLay0]at l1 l2;simp only[au]at t1 t2;rw[e1,e2]at hC;refine Cv hu q1 q2 t1 t2 l1 l2 (by omega) (by simpa [bY]using cc) κ ?_ hC;rcases hκ with⟨b,rfl,hb⟩|h|h
  ·refine .inl ⟨b,rfl,λhb' x hx=>?_⟩
   cases xs with
   |nil=>simp at hx
   |cons z zs=>simp at hx;subst hx;exact hb hb' z zs m1
  ·exact .inr (.inl h)
  ·exact .inr (.inr h)⟩
 exact FO r al t c h2 (λb hb=>key _ (.inl ⟨b,rfl,hb⟩)) (key _ (.inr (.inl rfl))) (key _ (.inr (.inr rfl)))
end
end Ml
namespace Ml
open PySem PySem.Spec L2
section
variable {X:Cx} {E:XK} {k:Nat} {θ:Yk} {hm:Hm} {H:Hp}
theorem nS(w:W G θ hm H)(r:bT G θ H x v)(e:listOf x hm=some ds):∃a vs,v=.ref a/\H a=some (.lst vs)/\bo (view θ H) ds vs/\cK ds=true:=by
 unfold listOf at e;split at e
 ·cases e;obtain⟨⟨a,vs,rfl,ha,rr⟩,so⟩:=r;exact⟨a,vs,rfl,aC _ _ _ _ ha,rr,by assumption⟩
 ·obtain⟨a,ha,rfl⟩:=r;split at e
  ·rename_i ys hy;obtain⟨vs,hv,rs⟩:=w.obj _ _ _ ha hy;obtain⟨h1,h2⟩:=kF rs e
   simp_all
  grind
 grind
theorem x6(r:ReadsAll s.heap vs ds as)(al:ds.all uX=true)(h2:2<=vs.length):PySem.W.Hh P w A vs (λi j=>ltB (ds.getD i .none) (ds.getD j .none)) s:=by
 have hlen:=readsAll_len r
 have tup:∀{i:Nat},i<vs.length->∃x tk,ds.getD i .none=.str x/\vs.getD i .none=.str x tk:=λ{i} hi=>by
  obtain⟨bs,q⟩:=si i r hi;have m:ds.getD i .none∈ds:=getD_mem (by omega);have a:=UM.mp al _ m
  cases e:ds.getD i .none with
  |str x=>rw[e]at q;generalize vs.getD i .none=z at q;cases q;exact⟨x,_,rfl,rfl⟩
  |_=>rw[e]at a;simp[uX]at a
 refine PySem.W.kas_kind h2 (T:=.type "str") (λv hv=>?_) (by decide) (by decide) ⟨rfl,λi j C hi hj hC=>?_⟩
 ·obtain⟨i,hi,e⟩:=VX.mp hv;obtain⟨x,tk,_,e2⟩:=tup hi;have:vs.getD i .none=v:=by simp[hi,e]
  rw[this]at e2;subst e2;exact .now
 ·obtain⟨x,t1,e1,f1⟩:=tup hi;obtain⟨y,t2,e2,f2⟩:=tup hj;rw[f1,f2,PyProof.Rows.keyLt'_oneType];simp only[e1,e2]at hC;exact PyProof.Rows.oneLt_str (by simpa [ltB,bY,pE]using hC)
theorem Qm(o:Ord ltB ds):PySem.W.oA (λi j=>ltB (ds.getD i .none) (ds.getD j .none)) ds.length:=
 ⟨λa b ha hb h=>o.as (getD_mem ha) (getD_mem hb) h,λa b c ha hb hc h h'=>o.ntr (getD_mem ha) (getD_mem hb) (getD_mem hc) h h'⟩
theorem bC:∀{ds:Yj},cK ds=true<->∀d∈ds,dz d=true
 | []=>by trivial
 |d::ds=>by simp[cK,bC]
theorem x8(p:ds.Perm es)(h:cK ds=true):cK es=true:=bC.mpr λd m=>bC.mp h d (p.mem_iff.mpr m)
noncomputable def Oc:List V->Hp->VK->Prop:=λxs H Q=>∃(a:Addr) (vs:List V) (M:Hp) (ds:Yj),xs=[.ref a]/\H a=some (.lst vs)/\aT M H/\bo M ds vs/\cK ds=true/\f7 ds=true /\
 ∀(p:Addr) (us:List V),H p=none->bo M (dD ltB ds) us->us.length<=sizeLine->Q (.ref p) (upd H p (.lst us))
theorem zg(hr:bJ k X.A):dC X (.builtin "sorted") Oc:=by
 intro pins s σ H xs us Q I r h;obtain⟨a,vs,M,ds,rfl,ha,sm,rp,so,ok,q⟩:=h;simp only[f7,Ux,UZ,Wr]at ok;obtain⟨⟨⟨⟨kd,tr⟩,cm⟩,dp⟩,h64⟩:=ok
 cases r with
 |cons r rr=>
  cases rr;cases r;obtain⟨its,rv,pl,_⟩:=I.list (i8.of (K:=X.K) ha);have hlen:vs.length=ds.length:=rp.length;have hlen2:its.length=ds.length:=by grind[rv.length]
  obtain⟨as,ra⟩:=bo.reads I (rp.same sm) rv;have nd:PyData.hasDictAll ds=false:=ig tr;have la:=qw so nd;have O:=Qm (iz cm tr);rw[<- hlen2]at O;refine PySem.W.uT pl.isList O (by omega) (λh' kp h2=>?_) λp hp hs=>?_
  ·have ra':ReadsAll h' its ds as:=VE kp ra;rcases kd with kd|kd
   ·exact x6 (s:={s with heap:=h'}) ra' kd h2
   ·exact x5 (s:={s with heap:=h'}) (by have:=hr.un;show X.A.units+1+1+41<cLine;omega) ra' kd tr cm la dp (by omega)
  ·have ge:s.heap.objs.size<=s.heap.objs.size+1:=VU _;have nn:H (s.heap.objs.size+1)=none:=I.hok.fresh ge;obtain⟨e,he⟩:=PyProof.Rows.sortedAll_at s.heap its (p.toList.map λi=>its.getD i Value.none).toArray;have hin:∀i∈p.toList,i<vs.length:=λi hi=>by have:=Vf.mp (hp.perm.mem_iff.mp hi);omega
   have hlp:p.toList.length=ds.length:=by rw[hp.perm.length_eq,List.length_range,hlen2]
   have hz:(p.toList.map λi=>vs.getD i .non).length<=sizeLine:=by rw[US,hlp];exact UI (WL h64) (by decide)
   refine⟨.ref _,_,I.laid (t':=s.toks) (o:=.lst (p.toList.map λi=>vs.getD i .non)) (λb o k=>PyProof.Rows.sortedAll_old k) ge ⟨hz,_,e,xU rv p.toList hin,by simpa [PyProof.Rows.seqObj]using he⟩,rfl,q _ _ nn ?_ hz⟩
   have e1:(p.toList.map λi=>ds.getD i .none)=dD ltB ds:=by
    refine AG cm tr ?_ ?_
    ·have:=hp.perm.map (λi=>ds.getD i .none);rw[hlen2,kD]at this;exact this
    ·unfold Up;rw[WX,Vy];intro i j hi hj hij;have e1:PySem.W.pat p i=p.toList[i]:=by simp only[Vo]at hi;rw[PySem.W.me,Yd p i hi];simp
     have e2:PySem.W.pat p j=p.toList[j]:=by simp only[Vo]at hj;rw[PySem.W.me,Yd p j hj];simp
     have:=hs i j hij (by rw[hlen2];omega);rw[e1,e2]at this;exact this
   rw[<- e1];exact xV rp .none p.toList hin
theorem HI(hr:bJ k X.A):u0 X E (.builtin "sorted") nM:=u0.of (zg hr) λθ hm H ds xs Q w r p=>by
 unfold nM at p;split at p
 ·cases r with
  |cons r rr=>
   cases rr;split at p
   ·rename_i ys hy;split at p
    ·rename_i ok;obtain⟨a,vs,rfl,ha,rp,so⟩:=nS w r hy;refine⟨a,vs,view θ H,ys,rfl,ha,aC _ _,rp,so,ok,λq us hq ru hz=>?_⟩;obtain⟨e1,w1,g⟩:=w.put hq;refine p _ _ e1 w1 _ ⟨⟨q,us,rfl,g,ru.same e1.same⟩,?_⟩;exact x8 (ck _ _).symm so
    ·trivial
   ·trivial
 ·trivial
end
section
variable {X:Cx} {E:XK} {k:Nat} {θ:Yk} {hm:Hm} {H:Hp} {m:ME} {t:MT} {e e1 e2:Expr} {pos:Pos}
theorem dQ(r:bT G θ H (.str x) v):v=.str x/\PyData.strOk x=true:=⟨r.1,by simpa [dz]using r.2⟩
theorem zh(h:PyData.strOk x=true)(h':PyData.strOk y=true):PyData.strOk (x++y)=true:=by have e:(x++y).cps=x.cps++y.cps:=rfl;unfold PyData.strOk at h h' ⊢;simp[e,h,h']
theorem AM(w:W G θ hm H)(x:Ext H (view θ H) H' M'):Ev θ H θ H'/\W G θ hm H'/\aT M' (view θ H'):=by
 obtain⟨e1,w1⟩:=w.grow x.sh;refine⟨e1,w1,λc o q=>?_⟩
 have nb:c∉θ:=λz=>by
  obtain⟨i,hi,ei⟩:=VX.mp z;have hl:i<hm.length:=by rw[<- w.len];exact hi
  have hn  := Cq.some _ (w.obj i c hm[i] (by simp_all) (UH hl));rw[x.old c hn]at q;exact(cL q).1 z
 rw[dB nb];exact x.gs c o q
theorem g9:pK X E (binaryOp .Add) dI:=pK.of (i6.or M4 (i6.or B0 (i6.or Km rP))) λθ hm H d1 d2 x y Q w r1 r2 p=>by
 unfold dI at p;split at p
 ·exact .inl ⟨_,_,b9 r1,b9 r2,p.lQ w (cM _)⟩
 ·split at p
  ·rename_i hz;obtain⟨e1,s1⟩:=dQ r1;obtain⟨e2,s2⟩:=dQ r2;exact .inr (.inl ⟨_,_,e1,e2,cX hz,p.lQ w ⟨rfl,by simp only[dz];exact zh s1 s2⟩⟩)
  ·exact p.elim
 ·split at p
  ·rename_i xs ys hz;refine .inr (.inr (.inl ⟨view θ H,xs,ys,aC _ _,r1.1,r2.1,cX hz,λr H' M' ex rr=>?_⟩));obtain⟨e1,w1,sm⟩:=AM w ex;have s1:cK xs=true:=by simpa [dz]using r1.2
   have s2:cK ys=true:=by simpa [dz]using r2.2
   refine p _ _ e1 w1 _ ⟨rr.same sm,?_⟩;simp only[dz]
   exact bC.mpr λd m=>by
    rcases UQ.mp m with m|m
    ·exact bC.mp s1 d m
    ·exact bC.mp s2 d m
  ·exact p.elim
 ·split at p
  ·rename_i xs ys hz;have s1:cK xs=true:=by simpa [dz]using r1.2
   have s2:cK ys=true:=by simpa [dz]using r2.2
   obtain⟨a,us,rfl,ha,q1,_⟩:=ik r1;obtain⟨b,ws,rfl,hb,q2,_⟩:=ik r2;refine .inr (.inr (.inr ⟨a,b,us,ws,rfl,rfl,aC _ _ _ _ ha,aC _ _ _ _ hb,by rw[q1.length,q2.length];exact cX hz,λq hq=>?_⟩));obtain⟨e1,w1,g⟩:=w.put (o:=.lst (us++ws)) hq;refine p _ _ e1 w1 _ ⟨⟨q,_,rfl,g,(q1.append q2).same e1.same⟩,?_⟩;simp only[dz]
   exact bC.mpr λd m=>by
    rcases UQ.mp m with m|m
    ·exact bC.mp s1 d m
    ·exact bC.mp s2 d m
  ·exact p.elim
 ·exact p.elim
theorem x9(r:bo M ds vs):∀n:Nat,bo M (List.replicate n ds).flatten (List.replicate n vs).flatten
 |0=>rfl
 |n+1=>r.append (x9 r n)
theorem AN:pK X E (binaryOp .Mult) pG:=pK.of (i6.or M6 Nk) λθ hm H d1 d2 x y Q w r1 r2 p=>by
 unfold pG at p;split at p
 ·split at p
  ·rename_i hc;refine .inl ⟨_,_,b9 r1,b9 r2,?_,p.lQ w (cM _)⟩;simp only[DM,Wr,Ux,UZ]at hc;exact hc
  ·exact p.elim
 ·split at p
  ·rename_i xs j hc;simp only[Ux,UZ]at hc;have s1:cK xs=true:=by simpa [dz]using r1.2
   obtain⟨a,us,rfl,ha,q1,_⟩:=ik r1;refine .inr ⟨a,j,us,rfl,b9 r2,aC _ _ _ _ ha,hc.1.2,hc.2,by rw[q1.length];exact cX hc.1.1,λq hq=>?_⟩;obtain⟨e1,w1,g⟩:=w.put (o:=.lst (List.replicate j.toNat us).flatten) hq;refine p _ _ e1 w1 _ ⟨⟨q,_,rfl,g,(x9 q1 _).same e1.same⟩,?_⟩;simp only[dz];exact bC.mpr λd m=>by obtain⟨l,hl,hd⟩:=List.mem_flatten.mp m;rw[(List.mem_replicate.mp hl).2]at hd;exact bC.mp s1 d hd
  ·exact p.elim
 ·exact p.elim
theorem uv(f:α->β)(xs:List α)(i:Int):lV (xs.map f) i=(lV xs i).map f:=by
 unfold lV;rw[US]
 cases wX xs.length i with
 |none=>rfl
 |some j=>simp
theorem zi(r:bh G θ H ds vs)(e:lV ds i=some d):∃v,L2.lV vs i=some v/\bT G θ H d v:=by
 have hl  := U2 r;unfold L2.lV;rw[<- hl]
 change (wX ds.length i).bind _=_ at e
 show ∃v,(wX ds.length i).bind _=some v/\_
 cases hj:wX ds.length i with
 |none=>grind
 |some j=>rw[hj]at e;exact bh.some r e
theorem HJ:Pf X (NV X.G E y8):=by
 rintro value slice pins s σ H x y v u Q I rx ry ⟨θ,h,d1,d2,w,r1,r2,p⟩ hs;unfold y8 at p;split at p
 ·rename_i i;have ey:=b9 r2;split at p
  ·rename_i ds;split at p
   ·rename_i d he;obtain⟨a,us,rfl,ha,q1,q2⟩:=ij r1;obtain⟨z,e1,rz⟩:=zi (i:=i) (d:=.dat d) q2 (by rw[uv,he];rfl);exact Ng value slice pins s σ H _ y v u Q I rx ry ⟨a,us,i,z,rfl,ey,gO.of (aC _ _ _ _ ha),e1,p.lQ w rz⟩ hs
   ·exact p.elim
  ·rename_i ds;split at p
   ·rename_i d he;obtain⟨a,us,rfl,ha,q1,q2⟩:=ik r1;obtain⟨z,e1,rz⟩:=zi (i:=i) (d:=.dat d) q2 (by rw[uv,he];rfl);exact um value slice pins s σ H _ y v u Q I rx ry ⟨a,us,i,z,rfl,ey,i8.of (aC _ _ _ _ ha),e1,p.lQ w rz⟩ hs
   ·exact p.elim
  ·rename_i j;split at p
   ·rename_i xs hx;split at p
    ·rename_i d he;obtain⟨a,ha,rfl⟩:=r1;obtain⟨vs,hv,rs⟩:=w.obj _ _ _ ha hx;obtain⟨z,e1,rz⟩:=zi rs he;exact um value slice pins s σ H _ y v u Q I rx ry ⟨a,vs,i,z,rfl,ey,i8.of hv,e1,p.lQ w rz⟩ hs
    ·exact p.elim
   ·exact p.elim
  ·rename_i ns;split at p
   ·rename_i n he;obtain⟨a,rfl,hq⟩:=r1;have e1:L2.lV (ns.map V.int) i=some (.int n):=by have:=uv V.int ns i;rw[he]at this;exact this
    exact um value slice pins s σ H _ y v u Q I rx ry ⟨a,_,i,_,rfl,ey,(aC _ _).seq hq,e1,p.lQ w (cM _)⟩ hs
   ·exact p.elim
  ·exact p.elim
 ·exact p.elim
noncomputable def lO(G:Gx)(E:XK)(m:Mf):TO:=λσ H Q=>∃θ h ρ,W G θ h H/\Fr G θ H ρ σ/\aI G (qG G E) θ H (m ρ h) (λo _ _ H'=>Q o H')
@[irreducible] noncomputable def DO(X:Cx)(E:XK)(m:Mf)(e:Option Expr):Prop:=PO X e (lO X.G E m)
theorem D6(X:Cx)(E:XK)(m:Mf)(e:Option Expr):DO X E m e=(PO X e (lO X.G E m)):=by
 grind[DO]
theorem PO.imp{e:Option Expr}{t t':TO}(h:PO X e t)(k:∀σ H Q,t' σ H Q->t σ H Q):PO X e t':=λpins s σ H Q I q=>h pins s σ H Q I (k _ _ _ q)
theorem nU:DO X E jZ none:=by simp[D6]at *;exact PO.imp JX (by rintro σ H Q ⟨θ,h,ρ,w,fr,p⟩;exact p θ H Ev.refl w)
theorem gw(h:DE X E m e):DO X E (dX m) (some e):=by
 simp[bA,D6]at *
 exact PO.imp (JY h) (by rintro σ H Q ⟨θ,h,ρ,w,fr,p⟩;exact⟨θ,h,ρ,w,fr,(aI.bind p).mono (by
  rintro d θ1 h1 H1 _ _ ⟨ev,w1,p1⟩ v r;split at p1
  ·exact⟨_,b9 r,p1 θ1 H1 Ev.refl w1⟩
  ·trivial)⟩)
theorem D7(r:bo M ds vs)(lo hi:Option Int):bo M (cut ds lo hi) (wW vs lo hi):=by unfold cut wW;have e  := r.length;rw[e];exact(r.drop _).take _
theorem D8(h:x∈cut xs lo hi):x∈xs:=List.mem_of_mem_drop (W2 h)
theorem vm(h:cK ds=true)(lo hi:Option Int):cK (cut ds lo hi)=true:=bC.mpr λd m=>bC.mp h d (D8 m)
noncomputable def Sl(G:Gx)(E:XK):V->Option Int->Option Int->Hp->VK->Prop:=λx lo hi H Q=>∃θ h d,W G θ h H/\bT G θ H d x/\aI G (qG G E) θ H (Qh d lo hi h) (KV G Q)
theorem Kv:Pe X (Sl X.G E):=by
 rintro pins s σ H x v vl vu lo hi sl Q I rx hs pl pu ⟨θ,h,d,w,r,p⟩;unfold Qh at p;split at p
 ·rename_i ds;refine Kn pins s σ H x v vl vu lo hi sl Q I rx hs pl pu ⟨view θ H,ds,aC _ _,r.1,λr' H' M' ex rr=>?_⟩;obtain⟨e1,w1,sm⟩:=AM w ex;exact p _ _ e1 w1 _ ⟨rr.same sm,by simp only[dz];exact vm (by simpa [dz]using r.2) lo hi⟩
 ·rename_i ds;have so:cK ds=true:=by simpa [dz]using r.2
  obtain⟨a,us,rfl,ha,q1,q2⟩:=ik r;refine Du pins s σ H _ v vl vu lo hi sl Q I rx hs pl pu ⟨a,us,rfl,i8.of (aC _ _ _ _ ha),λq hq=>?_⟩;obtain⟨e1,w1,g⟩:=w.put (o:=.lst (wW us lo hi)) hq;exact p _ _ e1 w1 _ ⟨⟨q,_,rfl,g,(D7 q1 lo hi).same e1.same⟩,by simp only[dz];exact vm so lo hi⟩
 ·exact p.elim
theorem iK(he:DE X E m e)(hl:DO X E ml lo)(hu:DO X E mh hi):DE X E (Co m ml mh) (.Subscript e (.Slice lo hi none p2) pos):=by simp[bA,D6]at *;exact PE.imp (An Kv he hl hu) (by rintro σ H Q ⟨θ,h,ρ,w,fr,p⟩;exact⟨θ,h,ρ,w,fr,(aI.bind p).mono (by rintro d θ1 h1 H1 _ _ ⟨ev,w1,p1⟩ v r;exact⟨θ1,h1,ρ,w1,fr.ev ev,(aI.bind p1).mono (by rintro l θ2 h2 H2 _ _ ⟨ev2,w2,p2⟩;exact⟨θ2,h2,ρ,w2,(fr.ev ev).ev ev2,(aI.bind p2).mono (by rintro u θ3 h3 H3 _ _ ⟨ev3,w3,p3⟩;exact⟨θ3,h3,d,w3,(r.ev ev2).ev ev3,p3⟩)⟩)⟩)⟩)
theorem mG:u0 X E (.builtin "len") gK:=u0.of GL λθ hm H ds xs Q w r p=>by
 unfold gK at p;split at p
 ·split at p
  ·rename_i hz
   cases r with
   |cons r rr=>cases rr;exact⟨_,_,rfl,by rw[(dQ r).1];exact⟨cX hz,rfl⟩,p.lQ w (cM _)⟩
  ·exact p.elim
 ·cases r with
  |cons r rr=>cases rr;obtain⟨a,us,rfl,ha,q1,_⟩:=ij r;exact⟨_,_,rfl,.inr ⟨us,gO.of (aC _ _ _ _ ha),q1.length.symm⟩,p.lQ w (cM _)⟩
 ·cases r with
  |cons r rr=>cases rr;obtain⟨a,us,rfl,ha,q1,_⟩:=ik r;exact⟨_,_,rfl,.inl ⟨us,i8.of (aC _ _ _ _ ha),q1.length.symm⟩,p.lQ w (cM _)⟩
 ·rename_i i;split at p
  ·rename_i ys hy
   cases r with
   |cons r rr=>cases rr;obtain⟨a,ha,rfl⟩:=r;obtain⟨vs,hv,rs⟩:=w.obj _ _ _ ha hy;exact⟨_,_,rfl,.inl ⟨vs,i8.of hv,U2 rs⟩,p.lQ w (cM _)⟩
  ·exact p.elim
 ·rename_i ns
  cases r with
  |cons r rr=>cases rr;obtain⟨a,rfl,hq⟩:=r;exact⟨_,_,rfl,.inl ⟨_,(aC _ _).seq hq,by simp⟩,p.lQ w (cM _)⟩
 ·exact p.elim
theorem vn:∀{ds:Yj} {vs:List V} {bs:List Bool},bo M ds vs->bools ds=some bs->vs=bs.map V.bl
 | [],_,bs,h,e=>by cases h;cases e;rfl
 |d::ds,_,bs,⟨v,vs,rfl,r,rs⟩,e=>by
  cases d with
  |bool b=>simp[bools]at e;obtain⟨bs',e1,e2⟩:=e;subst e2;rw[vn rs e1,r];rfl
  |_=>trivial
theorem vo(hc:X.calm=true):u0 X E (.builtin "all") qu:=u0.of (GZ hc) λθ hm H ds xs Q w r p=>by
 unfold qu at p;split at p
 ·split at p
  ·rename_i bs hb
   cases r with
   |cons r rr=>cases rr;obtain⟨a,us,rfl,ha,q1,_⟩:=ik r;rw[vn q1 hb]at ha;exact⟨a,bs,rfl,i8.of (aC _ _ _ _ ha),p.lQ w (cE _)⟩
  ·trivial
 ·trivial
end
section
variable {X:Cx} {E:XK} {k:Nat} {θ:Yk} {hm:Hm} {H:Hp} {m:ME} {t:MT} {e e1 e2:Expr} {pos:Pos} {ma:MA}
theorem Od(kit:∀d,PySem.W.kitOne X.K (.type (P8 d)) (.type n)=some (f d))(bt:bootBuiltins T=some (.type n))(m1:X.mg "isinstance" = none)(m2:X.mg T=none)(h:DE X E m e){p p2:Pos}(g1:Gl X "isinstance" := by rfl)(g2:Gl X T:=by rfl)(hT:T ≠ "__name__" := by decide)(hT2:(T==("__debug__" : Str))=false:=by decide)
 (hs:starEach [e,.Name T p2] X.env=(false,eval e X.env)::starEach [.Name T p2] X.env:=by rfl)(hs2:starEach [.Name T p2] X.env=[(false,eval (.Name T p2) X.env)]:=by rfl)(hpl:(backTo pos (starEach [.Name T p2] X.env)).any (·.1)=false:=by rfl):DE X E (AB (mi f) m) (.Call (.Name "isinstance" p) [e,.Name T p2] [] pos):=by
 simp only[bA]at *
 exact PE.imp (qh G0 g1 m1 jB (bb h (bb (Dg (v:=.ty n) g2 m2 bt rfl hT hT2) dS hs2) hs) (by decide) (by decide) hs hpl) (by rintro σ H Q ⟨θ,h,ρ,w,fr,p⟩;exact⟨θ,h,ρ,w,fr,(aI.bind p).mono (by
   rintro d θ1 h1 H1 _ _ ⟨ev,w1,p1⟩ v r
   cases d with
   |dat d=>exact⟨v,n,_,f d,rfl,(r.1.same (aC _ _)).ty,kit d,p1.lQ w1 (cE _)⟩
   |_=>trivial)⟩)
theorem vq(x:Str):∀(l:List Nat),bo M (l.map λi=>.str ⟨#[x.cps.getD i 0]⟩) (l.map (sgn x))
 | []=>rfl
 |i::l=>.cons rfl (vq x l)
theorem HK(h:PyData.strOk x=true):cK (dY x)=true:=bC.mpr λd m=>by obtain⟨i,_,rfl⟩:=UU.mp m;exact zc h
theorem qM(hc:X.calm=true):u0 X E (.type "tuple") iI:=u0.of (dC.or wZ (Ay hc)) λθ hm H ds xs Q w r p=>by
 unfold iI at p;split at p
 ·cases r with
  |cons r rr=>cases rr;obtain⟨a,us,e,ha,q1,_⟩:=ij r;subst e;exact .inl ⟨a,us,rfl,.inr ⟨gO.of (aC _ _ _ _ ha),p.lQ w r⟩⟩
 ·split at p
  ·rename_i s hz
   cases r with
   |cons r rr=>cases rr;obtain⟨e1,s1⟩:=dQ r;subst e1;refine .inr ⟨s,rfl,cX hz,λq hq=>?_⟩;obtain⟨e1,w1,g⟩:=w.put (o:=.tup ((List.range s.cps.size).map (sgn s))) hq;exact p _ _ e1 w1 _ ⟨⟨q,_,rfl,g,vq s _⟩,by simp only[dz];exact HK s1⟩
  ·exact p.elim
 ·split at p
  ·rename_i ds hy
   cases r with
   |cons r rr=>cases rr;obtain⟨a,vs,rfl,ha,rp,so⟩:=nS w r hy;refine .inl ⟨a,vs,rfl,.inl ⟨i8.of ha,λq hq=>?_⟩⟩;obtain⟨e1,w1,g⟩:=w.put (o:=.tup vs) hq;exact p _ _ e1 w1 _ ⟨⟨q,_,rfl,g,rp.same e1.same⟩,by simpa [dz]using so⟩
  ·exact p.elim
 ·exact p.elim
theorem zj:u0 X E (.type "list") pH:=u0.of yN λθ hm H ds xs Q w r p=>by
 unfold pH at p;split at p
 ·cases r with
  |cons r rr=>cases rr;have so:=r.2;obtain⟨a,us,e,ha,q1,_⟩:=ij r;subst e;refine⟨a,us,rfl,.inr (gO.of (aC _ _ _ _ ha)),λq hq=>?_⟩;obtain⟨e1,w1,g⟩:=w.put (o:=.lst us) hq;exact p _ _ e1 w1 _ ⟨⟨q,_,rfl,g,q1.same e1.same⟩,by assumption⟩
 ·split at p
  ·rename_i ds hy
   cases r with
   |cons r rr=>cases rr;obtain⟨a,vs,rfl,ha,rp,so⟩:=nS w r hy;refine⟨a,vs,rfl,.inl (i8.of ha),λq hq=>?_⟩;obtain⟨e1,w1,g⟩:=w.put (o:=.lst vs) hq;exact p _ _ e1 w1 _ ⟨⟨q,_,rfl,g,rp.same e1.same⟩,by simpa [dz]using so⟩
  ·exact p.elim
 ·exact p.elim
theorem HL:u0 X E (.builtin "divmod") qv:=u0.of Aj λθ hm H ds xs Q w r p=>by
 unfold qv at p;split at p
 ·split at p
  ·rename_i i j hj
   cases r with
   |cons r1 rr=>
    cases rr with
    |cons r2 rr=>cases rr;cases b9 r1;cases b9 r2;refine⟨i,j,rfl,hj,λq hq=>?_⟩;obtain⟨e1,w1,g⟩:=w.put hq;exact p _ _ e1 w1 _ ⟨⟨q,_,rfl,g,.cons rfl (.one rfl)⟩,by rfl⟩
  ·trivial
 ·trivial
theorem Qn(hc:X.calm=true):u0 X E (.builtin "max") FE:=u0.of (E3 hc) λθ hm H ds xs Q w r p=>by
 unfold FE at p;split at p
 ·cases r with
  |cons r1 rr=>
   cases rr with
   |cons r2 rr=>cases rr;cases b9 r1;cases b9 r2;exact⟨_,_,rfl,p.lQ w (cM _)⟩
 ·exact p.elim
theorem Qo:u0 X E (.type "int") Hs:=u0.of E4 λθ hm H ds xs Q w r p=>by
 unfold Hs at p;split at p
 ·cases r with
  |cons r1 rr=>cases rr;cases b9 r1;exact .inl ⟨_,rfl,p.lQ w (cM _)⟩
 ·cases r with
  |cons r1 rr=>cases rr;obtain⟨e1,_⟩:=r1;cases e1;exact .inr ⟨_,rfl,p.lQ w (cM _)⟩
 ·trivial
theorem zk(hr:bJ k X.A):u0 X E (.builtin "repr") lC:=by
 rintro pins s σ H xs us Q I r ⟨θ,h,ds,w,rs,p⟩;unfold lC at p;split at p
 ·rename_i x
  cases rs with
  |cons r1 rr=>
   cases rr
   cases r with
   |cons rv rr=>
    cases rr;rename_i v u;split at p
    ·rename_i d hd;obtain⟨⟨as,z⟩,so⟩:=fJ I w 3 r1 rv hd;split at p
     ·rename_i ok;have fin:∀(h':Heap) (tk:Tok) (t':Nat),(∀b o,s.heap.get? b=some o->h'.get? b=some o)->EP X pins σ Q (.str d.shown tk) {s with heap:=h',toks:=t'}:=λh' tk t' hk=>⟨.str d.shown,H,I.kept hk,⟨_,rfl⟩,p.lQ w rfl⟩;have fin0:∀(tk:Tok) (t':Nat),EP X pins σ Q (.str d.shown tk) {s with toks:=t'}:=λtk t'=>⟨.str d.shown,H,I.tok _,⟨_,rfl⟩,p.lQ w rfl⟩;simp only[Wr]at ok;rcases ok with ok|ok
      rotate_left
      ·unfold Hr at ok;split at ok
       ·rename_i kvs;simp only[Ux,UZ]at ok
        cases x with
        |dat d'=>simp only[Cm,y6,Wk]at hd;subst hd;exact Cb hr pins s σ H [v] [u] Q I (.cons rv .nil) ⟨kvs,v,rfl,r1.1.same (aC _ _),ok.1.1,ok.1.2,cX ok.2,p.lQ w rfl⟩
        |ref i=>
         simp only[Cm,Ac]at hd;split at hd
         ·simp only[Ve]at hd;obtain⟨_,_,z⟩:=hd;cases z
         ·cases hd
        |ktup xs=>simp[Cm,Ac]at hd
        |_=>simp[Cm,Ac]at hd
       ·cases ok
      have hsz:d.shown.length<=sizeLine/\d.showable=true/\d.depth<=40:=by simp only[AD,Ux,UZ]at ok;exact⟨cX ok.2,ok.1.1.1,ok.1.2⟩
      have hn:∀{as:Yk},(d.hasDict=true->sysModules∉as):=λ{as} hd=>by simp only[AD,noDict,Ux,Xu]at ok;rw[ok.1.1.2]at hd;cases hd
      cases z with
      |none=>exact PySem.P.repr_of_none (by simpa [PyData.shown]using fin0 _ _)
      |bool b=>exact PySem.P.repr_of_bool (by simpa [PyData.shown]using fin0 _ _)
      |int i t=>exact PySem.P.repr_of_int (by simpa [PyData.showable]using hsz.2.1) (by simpa [PyData.shown]using fin0 _ _)
      |str x t=>exact PySem.P.repr_of_str (by simpa [PyData.shown]using fin0 _ _) (by simpa [PyData.shown]using hsz.1)
      |list h1 h2 h3 h4=>exact X5 (.list h1 h2 h3 h4) hsz.2.1 hn hr.gd (by have:=hr.units;omega) (λ_ _ e=>e) (λh' t tk hk=>fin h' t tk hk) hsz.1
      |tuple h1 h2 h3 h4=>exact X5 (.tuple h1 h2 h3 h4) hsz.2.1 hn hr.gd (by have:=hr.units;omega) (λ_ _ e=>e) (λh' t tk hk=>fin h' t tk hk) hsz.1
      |dict h1 h2 h3 h4 h5=>exact X5 (.dict h1 h2 h3 h4 h5) hsz.2.1 hn hr.gd (by have:=hr.units;omega) (λ_ _ e=>e) (λh' t tk hk=>fin h' t tk hk) hsz.1
     ·exact p.elim
    ·exact p.elim
 ·exact p.elim
end
section
variable {X:Cx} {E:XK} {k:Nat} {θ:Yk} {hm:Hm} {H:Hp} {m ma' mb:ME} {t:MT} {e e1 e2 o i:Expr} {es:Yo} {pos:Pos} {ma:MA} {x:Str}
theorem cS(n:Nat)(h:Lit n e d)(s:dz d=true):DE X E (ah d) e:=by
 simp[bA]at *
 exact PE.imp (G3 n h) (by
   rintro σ H Q ⟨θ,hm,ρ,w,fr,p⟩ r H' N s1 nw rp;obtain⟨e1,w1⟩:=w.grow s1;refine p _ _ e1 w1 _ ⟨rp.same λc o q=>?_,s⟩;have nb  := w.DY (nw c o q).1;rw[dB nb]
   exact(nw c o q).2)
theorem D9{p:Pos}(hm:∃t,X.mg x=some (.int n t))(hg:Gl X x:=by rfl)(hd:(x==("__debug__" : Str))=false:=by decide):DE X E (ah (.int n)) (.Name x p):=by obtain⟨t,hm⟩:=hm;exact Hx (uk (v:=.int n) hg hm ⟨t,rfl⟩ hd) (λ_=>rfl) (by rfl)
def Sm(xs:Yj):ME:=λ_ h=>.ok (.ktup xs) h
theorem Kw{p:Pos}(hm:∃a,X.mg x=some (.ref a)/\Hv X.K a xs)(hg:Gl X x:=by rfl)(hd:(x==("__debug__" : Str))=false:=by decide):DE X E (Sm xs) (.Name x p):=by simp only[bA]at *;obtain⟨a,hm,kt⟩:=hm;exact PE.imp (uk (v:=.ref a) hg hm rfl hd) (by rintro σ H Q ⟨θ,hm,ρ,w,fr,p⟩;exact p.lQ w ⟨a,rfl,kt⟩)
theorem Kx(kt:Hv G.K a xs):tm G θ H (xs.map D.dat) (Q8 G.K a):=λθ' h' H' ev w=>by
 obtain⟨⟨o,its,n,hl,hc,hd,hz,rv⟩,fl,so⟩:=kt;have q:gO G.K H' a _:=.inr ⟨o,its,n,hl,hc,hd,hz,rv⟩;refine⟨λi d e=>?_,⟨_,q,by simp⟩⟩;rw[Vs,Ve]at e;obtain⟨y,ey,rfl⟩:=e;refine⟨⟨_,NU y,q,by simp[ey]⟩,λx H2 ⟨e2,z⟩=>?_⟩;subst e2;have:=z _ q;rw[Vs,ey]at this;cases this;have hy:=fl y (UO ey);refine⟨Ev.refl,w,?_,qJ so ey⟩
 cases y with
 |none=>rfl
 |bool b=>rfl
 |int i=>rfl
 |str x=>rfl
 |_=>simp at hy
noncomputable def Qp(e:ME):MA:=λρ h=>(e ρ h).bind λx h1=>match x with
 |.ktup xs=>.ok (xs.map D.dat) h1
 |_=>.bad
theorem Ky(h:DE X E m e):DI X E (Qp m) tg e:=by
 simp[bA,mE]at *
 exact PI.imp (GC h) (by rintro σ H R ⟨θ,h,ρ,w,fr,p⟩;exact⟨θ,h,ρ,w,fr,(aI.bind p).mono (by
   rintro d θ1 h1 H1 _ _ ⟨ev,w1,p1⟩ v r
   cases d with
   |ktup xs=>obtain⟨a,e,kt⟩:=r;exact⟨a,e,⟨_,.inr kt.1⟩,p1 θ1 H1 Ev.refl w1 _ (Kx kt)⟩
   |_=>trivial)⟩)
noncomputable def Mk(x:D)(h:Hm):Bool:=match x with
 |.ref j=>match h[j]? with
  |some (.lst _)=>true
  |_=>false
 |_=>false
noncomputable def mH(f:D->D->Hm->R D)(a b:ME):ME:=λρ h=>(a ρ h).bind λx h1=>if Mk x h1 then(b ρ h1).bind λy h2=>f x y h2 else .bad
theorem Kz{x:D}(e:Mk x h=true):∃j xs,x=.ref j/\h[j]?=some (.lst xs):=by
 unfold Mk at e;split at e
 ·split at e
  ·simp_all
  grind
 grind
theorem qN(w:W G θ hm H)(r:bT G θ H (.ref j) v)(e:hm[j]?=some (.lst xs)):∃a vs,v=.ref a/\θ[j]?=some a/\H a=some (.lst vs)/\bh G θ H xs vs:=by
 obtain⟨a,ha,rfl⟩:=r;obtain⟨vs,hv,rs⟩:=w.obj _ _ _ ha e
 simp_all
theorem bh.erase:∀{xs:List D} {vs:List V} (n:Nat),bh G θ H xs vs->bh G θ H (xs.eraseIdx n) (vs.eraseIdx n)
 |_,_,_,.nil=>.nil
 |_,_,0,.cons _ t=>t
 |_,_,n+1,.cons r t=>.cons r (bh.erase n t)
theorem bh.Qq(q:bT G θ H d v):∀{xs:List D} {vs:List V} (n:Nat),bh G θ H xs vs->bh G θ H (xs.set n d) (vs.set n v)
 |_,_,_,.nil=>.nil
 |_,_,0,.cons _ t=>.cons q t
 |_,_,n+1,.cons r t=>.cons r (bh.Qq q n t)
theorem W.Cw(w:W G θ hm H)(ha:θ[j]?=some a)(hl:j<hm.length)(r:bh G θ H xs vs):Ev θ H θ (upd H a (.lst vs))/\W G θ (hm.set j (.lst xs)) (upd H a (.lst vs)):=by
 have hmm  := UO ha
 have e:Ev θ H θ (upd H a (.lst vs)):=⟨⟨[],by simp⟩,λb u q=>by
  obtain⟨h1,h2⟩:=cL q;have ne:b≠a:=λz=>by grind
  simp_all[dB,ak]⟩
 exact w.write ha hl ⟨vs,aJ,r.ev e⟩
theorem j4{α:Type}{xs:List α}{i:Nat}{x:α}(h:xs[i]?=some x):i<xs.length:=(UB.mp h).1
theorem HM(h:lE G E (mH f ma' mb) σ H Q)(k:∀θ h H d1 d2 x y,W G θ h H->bT G θ H d1 x->bT G θ H d2 y->aI G (qG G E) θ H (f d1 d2 h) (KV G Q)->r x [y] H Q) :
  Tp K "list" r (lE G E ma') (oN (lE G E mb) Ak) σ H Q:=by
 obtain⟨θ,h,ρ,w,fr,p⟩:=h;refine⟨θ,h,ρ,w,fr,(aI.bind p).mono λd θ1 h1 H1 _ _ ⟨ev,w1,p1⟩ v r1=>?_⟩;split at p1
 ·rename_i hl;obtain⟨j,xs,rfl,hx⟩:=Kz hl;obtain⟨a,vs,rfl,ha,hv,rs⟩:=qN w1 r1 hx;exact⟨.inl ⟨rfl,_,i8.of hv⟩,θ1,h1,ρ,w1,fr.ev ev,(aI.bind p1).mono (by rintro d2 θ2 h2 H2 _ _ ⟨ev2,w2,p2⟩ y r2;exact k θ2 h2 H2 _ d2 _ y w2 (r1.ev ev2) r2 p2)⟩
 ·trivial
theorem nV{apos cpos:Pos}(ho:DE X E ma' o)(ha:DE X E mb e)(hbase:attributeBase o "append" X.env (eval o X.env)=eval o X.env:=by rfl)
 (hfew:((backTo cpos (starEach [e] X.env)).all (λx=>!x.1)&&(backToKw cpos (keywordEach [] X.env)).all (λx=>x.1.isSome)&&decide ([e].length+([]:List Keyword).length+(if([]:List Keyword).isEmpty then 0 else 1)<30))=true:=by rfl)
 (hline:(apos.endLine==cpos.line)=true:=by rfl)(hs:starEach [e] X.env=(false,eval e X.env)::starEach [] X.env:=by rfl)(hplain:(backTo cpos (starEach [] X.env)).any (·.1)=false:=by rfl):DE X E (mH eA ma' mb) (.Call (.Attribute o "append" apos) [e] [] cpos):=by
 simp only[bA]at *
 exact PE.imp (Dv WA PySem.F.slot_list_append PySem.F.type_list_append E9 ho (bb ha dS hs) hbase hfew hline hs hplain) λσ H Q q=>HM q λθ h H d1 d2 x y w r1 r2 p=>by
   unfold eA at p;split at p
   ·rename_i j;split at p
    ·rename_i xs hx;split at p
     ·rename_i hz;obtain⟨a,vs,rfl,ha,hv,rs⟩:=qN w r1 hx;have hl:xs.length=vs.length:=U2 rs;obtain⟨e1,w1⟩:=w.Cw ha (j4 hx) (gv rs (.cons r2 .nil));exact⟨a,vs,y,rfl,rfl,hv,by rw[<- hl,Wq];exact Wo hz,p _ _ e1 w1 _ FI⟩
     ·exact p.elim
    ·exact p.elim
   ·exact p.elim
theorem HN{apos cpos:Pos}(ho:DE X E ma' o)(ha:DE X E mb e)(hbase:attributeBase o "pop" X.env (eval o X.env)=eval o X.env:=by rfl)
 (hfew:((backTo cpos (starEach [e] X.env)).all (λx=>!x.1)&&(backToKw cpos (keywordEach [] X.env)).all (λx=>x.1.isSome)&&decide ([e].length+([]:List Keyword).length+(if([]:List Keyword).isEmpty then 0 else 1)<30))=true:=by rfl)
 (hline:(apos.endLine==cpos.line)=true:=by rfl)(hs:starEach [e] X.env=(false,eval e X.env)::starEach [] X.env:=by rfl)(hplain:(backTo cpos (starEach [] X.env)).any (·.1)=false:=by rfl):DE X E (mH rV ma' mb) (.Call (.Attribute o "pop" apos) [e] [] cpos):=by
 simp only[bA]at *
 exact PE.imp (Dv WA PySem.F.slot_list_pop PySem.F.type_list_pop GQ ho (bb ha dS hs) hbase hfew hline hs hplain) λσ H Q q=>HM q λθ h H d1 d2 x y w r1 r2 p=>by
   unfold rV at p;split at p
   ·rename_i j kk;split at p
    ·rename_i xs hx;split at p
     ·rename_i hz;split at p
      ·rename_i d hd;obtain⟨a,vs,rfl,ha,hv,rs⟩:=qN w r1 hx;have hl:xs.length=vs.length:=U2 rs;obtain⟨z,ez,rz⟩:=rs.some hd;obtain⟨e1,w1⟩:=w.Cw ha (j4 hx) (bh.erase kk.toNat rs);refine⟨a,vs,kk,kk.toNat,z,rfl,by rw[b9 r2],hv,by omega,by omega,?_,ez,p _ _ e1 w1 _ (rz.ev e1)⟩;exact PySem.seqIndex_of hz.1 (by omega)
      ·exact p.elim
     ·exact p.elim
    ·exact p.elim
   ·exact p.elim
theorem FP{x y v:V}(w:W G θ hm H)(r1:bT G θ H d1 x)(r2:bT G θ H d2 y)(rd:bT G θ H d v)(p:aI G F θ H (DN d1 d2 d hm) (λ_ _ _ H'=>Q H')):Ma x y v H Q:=by
 cases d1 with
 |ref j=>
  cases d2 with
  |dat dd=>
   cases dd with
   |int kk=>
    simp only[DN]at p
    cases hx:hm[j]? with
    |none=>rw[hx]at p;exact p.elim
    |some oo=>
     rw[hx]at p
     cases oo with
     |lst xs=>
      simp only at p
      cases hn:wX xs.length kk with
      |none=>rw[hn]at p;exact p.elim
      |some n=>rw[hn]at p;obtain⟨a,vs,rfl,ha,hv,rs⟩:=qN w r1 hx;have hl:xs.length=vs.length:=U2 rs;obtain⟨e1,w3⟩:=w.Cw ha (j4 hx) (bh.Qq rd n rs);exact⟨a,vs,kk,n,rfl,b9 r2,hv,by rw[<- hl];exact hn,p _ _ e1 w3⟩
     |_=>exact p.elim
   |_=>exact p.elim
  |_=>exact p.elim
 |_=>exact p.elim
theorem Ea{α β:Type}{xs:List α}{ys:List β}(h:xs.length=ys.length):(!xs.isEmpty)=!ys.isEmpty:=by
 grind
theorem vt(w:W G θ hm H)(r:bT G θ H d v)(e:truth d hm=some b):Na G.K v H b:=by
 unfold truth at e;split at e
 ·cases e;cases r.1;rfl
 ·cases e;cases r.1;rfl
 ·cases e;cases r.1;rfl
 ·split at e
  ·rename_i hz;cases e;cases r.1;exact⟨cX hz,rfl⟩
  grind
 ·cases e;obtain⟨a,us,rfl,ha,q1,_⟩:=ij r;exact .inr (.inl ⟨us,gO.of (aC _ _ _ _ ha),Ea q1.length.symm⟩)
 ·cases e;obtain⟨a,us,rfl,ha,q1,_⟩:=ik r;exact .inl ⟨us,i8.of (aC _ _ _ _ ha),Ea q1.length.symm⟩
 ·split at e
  ·rename_i xs hx;cases e;obtain⟨a,vs,rfl,ha,hv,rs⟩:=qN w r hx;refine .inl ⟨vs,i8.of hv,?_⟩;cases rs<;>rfl
  ·cases e
 grind
theorem cf(h:DE X E m e)(he:∀whole,isTrue e X.env whole=(do let v <- whole;standAt e.pos;holding [v] (truthy v)):=by intro _;rfl):DT X E (bH m) e:=by
 simp[bA,qH]at *
 exact PT.imp (GK h he) (by rintro σ H Q ⟨θ,h,ρ,w,fr,p⟩;exact⟨θ,h,ρ,w,fr,(aI.bind p).mono (by
   rintro d θ1 h1 H1 _ _ ⟨ev,w1,p1⟩ v r;split at p1
   ·rename_i b hb;exact⟨b,vt w1 r hb,p1 θ1 H1 Ev.refl w1⟩
   ·trivial)⟩)
theorem HP(hr:bJ k X.A){σ:L2.St}{x y:V}(I:Inv X pins σ H s)(rx:RelV x v)(ry:RelV y u)(w:W X.G θ h H)(r1:bT X.G θ H d1 x)(r2:bT X.G θ H d2 y)(hb:kE d1 d2 h=some b) :
  (Q (.bl b) H->wpAny (model X.prog X.w) X.A (compareOp .In v u) (EP X pins σ Q) X.xe s)/\(Q (.bl !b) H->wpAny (model X.prog X.w) X.A (compareOp .NotIn v u) (EP X pins σ Q) X.xe s):=by
 unfold kE at hb;split at hb
 ·split at hb
  ·cases hb;exact⟨λq=>EZ pins s σ H x y v u Q I rx ry ⟨_,_,(dQ r1).1,(dQ r2).1,q⟩,λq=>yH pins s σ H x y v u Q I rx ry ⟨_,_,(dQ r1).1,(dQ r2).1,q⟩⟩
  grind
 ·split at hb
  ·rename_i d ds e1 e2;obtain⟨⟨as,z1⟩,s1⟩:=fJ I w 3 r1 rx e1;obtain⟨⟨bs,z2⟩,s2⟩:=fJ I w 3 r2 ry e2;exact HF hr (.inl rfl) I z1 z2 s1 (by assumption) hb
  ·rename_i d ds e1 e2;obtain⟨⟨as,z1⟩,s1⟩:=fJ I w 3 r1 rx e1;obtain⟨⟨bs,z2⟩,s2⟩:=fJ I w 3 r2 ry e2;exact HF hr (.inr rfl) I z1 z2 s1 (by simpa [dz]using s2) hb
  grind
end
section
variable {X:Cx} {E:XK} {k:Nat} {θ:Yk} {hm:Hm} {H M:Hp} {pins:Yf} {σ:L2.St} {s:Yw}
theorem kH:∀{ks:List (Key×V)} {kvs:Yg},aS ks=some kvs->qr (.str x) kvs=(ks.any λkv=>decide (kv.1=Sum.inr x))
 | [],kvs,e=>by cases e;rfl
 | (q,v)::ks,kvs,e=>by
  unfold aS at e
  cases e1:fX v with
  |none=>simp_all
  |some d=>
   cases e2:aS ks with
   |none=>simp_all
   |some ds=>
    rw[e1,e2]at e;cases e;have ih:=kH (x:=x) e2;unfold qr at ih ⊢;rw[Xm,Xm,ih]
    grind[Au,PyData.eqv]
where
 key_lr' {a:Int} {b:Str}:decide ((Sum.inl a:Key)=Sum.inr b)=false:=U0 (λq=>nomatch q)
theorem zl(q:Key)(x:Str):PyData.eqv (Au q) (.str x)=decide (q=Sum.inr x):=by
 grind[Au,PyData.eqv]
theorem vw(hv:fX u=some dv):∀{ks:List (Key×V)} {kvs:Yg},aS ks=some kvs ->
  aS (ks.map λkv=>if kv.1=Sum.inr x then(kv.1,u)else kv)=some (kvs.map λp=>if PyData.eqv p.1 (.str x)then(p.1,dv)else p)
 | [],kvs,e=>by cases e;rfl
 | (q,v)::ks,kvs,e=>by
  unfold aS at e
  cases e1:fX v with
  |none=>simp_all
  |some d=>
   cases e2:aS ks with
   |none=>simp_all
   |some ds=>
    rw[e1,e2]at e;cases e;have ih:=vw (x:=x) hv e2;rw[U3,U3,zl];by_cases hq:q=Sum.inr x
    ·simp_all[aS,hv,ih]
    simp_all[hq,decide_false,Vr,UK,aS,e1,ih]
theorem tF(hv:fX u=some dv):∀{ks:List (Key×V)} {kvs:Yg},aS ks=some kvs->aS (ks++[(Sum.inr x,u)])=some (kvs++[(.str x,dv)])
 | [],kvs,e=>by simp_all[aS,hv,Au]
 | (q,v)::ks,kvs,e=>by
  unfold aS at e
  cases e1:fX v with
  |none=>simp_all
  |some d=>
   cases e2:aS ks with
   |none=>simp_all
   |some ds=>rw[e1,e2]at e;cases e;have ih:=tF (x:=x) hv e2;rw[WC];unfold aS;rw[e1,ih];rfl
theorem pM(hv:fX u=some dv)(e:aS ks=some kvs):aS (putK ks (Sum.inr x) u)=some (dput kvs (.str x) dv):=by
 unfold putK dput;rw[kH e];split
 ·exact vw hv e
 ·exact tF hv e
theorem kI:∀{ks:List (Key×V)} {kvs:Yg},aS ks=some kvs->ks.length=kvs.length
 | [],kvs,e=>by cases e;rfl
 | (q,v)::ks,kvs,e=>by
  unfold aS at e
  cases e1:fX v with
  |none=>simp_all
  |some d=>
   cases e2:aS ks with
   |none=>simp_all
   |some ds=>rw[e1,e2]at e;cases e;simp[kI e2]
theorem pN:∀{ks:List (Key×V)} {kvs:Yg} {d:PyData},aS ks=some kvs->xh kvs (.str x)=some d->∃u,rR ks (Sum.inr x)=some u/\fX u=some d
 | [],kvs,d,e,g=>by cases e;grind[xh]
 | (q,v)::ks,kvs,d,e,g=>by
  unfold aS at e
  cases e1:fX v with
  |none=>simp_all
  |some d'=>
   cases e2:aS ks with
   |none=>simp_all
   |some ds=>
    rw[e1,e2]at e;cases e;unfold xh at g;rw[VQ,zl]at g;by_cases hq:q=Sum.inr x
    ·simp only[hq,decide_true]at g;simp at g;subst g;exact⟨v,qk (p:=(q,v)) hq,e1⟩
    ·simp only[hq,decide_false]at g;obtain⟨u,h1,h2⟩:=pN (x:=x) e2 g;exact⟨u,by rw[lY (p:=(q,v)) hq];exact h1,h2⟩
theorem AO(h:fX u=some d):Rep M d u:=by
 cases u with
 |non=>cases h;rfl
 |bl b=>cases h;rfl
 |int i=>cases h;rfl
 |str x=>cases h;rfl
 |_=>cases h
theorem vz(f:oU d=true)(h:Rep M d u):fX u=some d:=by
 cases d with
 |none=>cases h;rfl
 |bool b=>cases h;rfl
 |int i=>cases h;rfl
 |str x=>cases h;rfl
 |_=>trivial
theorem kJ(tq:aE q=true):∀{kvs:Yg} {xs:List (PyData×Addr×Value)},Paired (qF M) kvs xs->qr q kvs=(atKey xs q).isSome
 |_,_,.nil=>rfl
 |_,_,.cons (a:=p) (b:=x) h t=>by
  have ih:=kJ tq t;unfold qr at ih ⊢;unfold atKey at ih ⊢;rw[Xm,VQ,ih];by_cases e:x.1=q
  ·rw[Vc e,h.1,e,bf (aU tq)];rfl
  ·have  := aW (aU h.2.1) (aU tq) (by rw[h.1];exact e)
   simp_all
theorem Eb(I:Inv X pins σ H s)(sm:aT M H)(t:aE d=true)(dp:d.depth<=8)(so:dz d=true)(r:Rep M d (.ref a)):NT s.heap d a:=by obtain⟨as,z⟩:=Rep.reads I (r.same sm) rfl;exact⟨t,dp,so,as,z⟩
theorem zm(I:Inv X pins σ H s)(sm:aT M H):∀{kvs:Yg} {xs:List (PyData×Addr×Value)},Paired (qF M) kvs xs->∀x∈xs,NT s.heap x.1 x.2.1
 |_,_,.nil,x,hx=>by cases hx
 |_,_,.cons h t,x,hx=>by
  rcases UC.mp hx with rfl|hx
  ·obtain⟨e,t1,t2,t3,t4,_⟩:=h;rw[<- e];exact Eb I sm t1 t2 t3 t4
  ·exact zm I sm t x hx
theorem HQ(I:Inv X pins σ H s)(sm:aT M H)(ha:H a=some (dO X.prog X.w xs a))(r:Paired (qF M) kvs xs) :
  kvs.length<=sizeLine/\(a==sysModules)=false/\s.heap.DictOfH (fc X.prog X.w) a xs:=by
 obtain⟨⟨h1,h2,o,es,ep,h3,h4,h5,h6,h7⟩,_⟩:=I.hok a _ ha;exact⟨by rw[U2 r];exact h1,h2,o,es,ep,h3,h4,h5,h6,zm I sm r,h7⟩
theorem Oe(ha:H a=some (dO X.prog X.w xs a)):O9 (H a):=by rw[ha];exact True.intro
theorem AQ(tq:aE q=true)(rv:RelV v u)(rd:Rep M dv v)(sd:dz dv=true):∀{kvs:Yg} {xs:List (PyData×Addr×Value)},Paired (qF M) kvs xs ->
  Paired (qF M) (kvs.map λp=>if PyData.eqv p.1 q then(p.1,dv)else p) (xs.map (putAt q u))
 |_,_,.nil=>.nil
 |_,_,.cons (a:=p) (b:=x) h t=>by
  rw[U3,U3];refine .cons ?_ (AQ tq rv rd sd t);unfold putAt;by_cases e:x.1=q
  ·have e2:PyData.eqv p.1 q=true:=by rw[h.1,e];exact bf (aU tq)
   rw[if_pos e,if_pos e2];exact⟨h.1,h.2.1,h.2.2.1,h.2.2.2.1,h.2.2.2.2.1,v,rv,rd,sd⟩
  ·have e2  := aW (aU h.2.1) (aU tq) (by rw[h.1];exact e)
   grind
theorem AS(tq:aE q=true)(dq:q.depth<=8)(sq:dz q=true)(rq:Rep M q (.ref b))(rv:RelV v u)(rd:Rep M dv v)(sd:dz dv=true)(r:Paired (qF M) kvs xs) :
  Paired (qF M) (dput kvs q dv) (storedH xs q b u):=by
 unfold dput storedH;rw[kJ tq r];split
 ·exact AQ tq rv rd sd r
 ·exact gv r (.cons ⟨rfl,tq,dq,sq,rq,v,rv,rd,sd⟩ .nil)
theorem AU(kvs:Yg)(q v:PyData):(dput kvs q v).length<=kvs.length+1:=by
 unfold dput;split
 ·simp
 ·simp
theorem W.HR(w:W G θ hm H)(ha:θ[j]?=some a)(hl:j<hm.length)(r:fH G.P G.w (view θ H) (upd H a o) a t kvs):Ev θ H θ (upd H a o)/\W G θ (hm.set j (.jX t kvs)) (upd H a o):=by
 have hmm  := UO ha
 have e:Ev θ H θ (upd H a o):=⟨⟨[],by simp⟩,λb u q=>by
  obtain⟨h1,h2⟩:=cL q;have ne:b≠a:=λz=>by grind
  simp_all[dB,ak]⟩
 exact w.write ha hl (fH.same e.same r λ_ q=>q)
noncomputable def Qr(G:Gx)(E:XK):V->V->V->Hp->(Hp->Prop)->Prop:=λx y v H Q=>∃θ h d1 d2 d,W G θ h H/\bT G θ H d1 x/\bT G θ H d2 y/\bT G θ H d v/\aI G (qG G E) θ H (y9 d1 d2 d h) (λ_ _ _ H'=>Q H')
theorem KA(hr:bJ k X.A):MU X (Qr X.G E):=by
 rintro pins s σ H x y v xv yv u Q I rx ry rv ⟨θ,h,d1,d2,d,w,r1,r2,rd,p⟩;unfold y9 at p;split at p
 ·rename_i j;split at p
  ·rename_i t kvs hx;unfold Mg at p;split at p
   ·rename_i q dv;split at p
    ·rename_i hc;simp only[Ux,UZ,Wr]at hc;obtain⟨a,ha,rfl⟩:=r1;cases rx;rcases w.obj _ _ _ ha hx with⟨rfl,ks,h1,h2,h3⟩|⟨rfl,xs,h1,h2⟩
     ·have hk:∃z,q=.str z:=by
       have:=hc.1.1;simp only[keyOk,UK,Vr]at this;cases q<;>first|exact⟨_,rfl⟩|simp[gR]at this
      obtain⟨z,rfl⟩:=hk;have fd:oU dv=true:=by rcases hc.1.2 with z|z;cases z;exact z
      have hv:=vz fd rd.1;obtain⟨e2,s2⟩:=dQ r2;subst e2
      have so:∀p∈dput kvs (.str z) dv,dz p.1=true/\dz p.2=true:=λp hp=>by
       unfold dput at hp;split at hp
       ·obtain⟨p0,hp0,e0⟩:=UU.mp hp;split at e0
        ·subst e0;exact⟨(h3 p0 hp0).1,rd.2⟩
        ·subst e0;exact h3 p0 hp0
       ·rcases UQ.mp hp with hp|hp
        ·exact h3 p hp
        ·simp at hp;subst hp;exact⟨by simpa [dz]using s2,rd.2⟩
      obtain⟨e1,w1⟩:=w.HR (o:=.dK (putK ks (Sum.inr z) v)) (t:=false) (kvs:=dput kvs (.str z) dv) ha (j4 hx) (.inl ⟨rfl,_,aJ,pM hv h2,so⟩);exact Ff (by have:=hr.units;omega) I (J9.k (k:=Sum.inr z) h1 (by rw[kI h2,Wq];exact hc.2)) ry rv λs' I'=>⟨_,I',p _ _ e1 w1⟩
     ·have hk:=hc.1.1;simp only[keyOk,Vu,Ux,UZ]at hk
      obtain⟨b,vs,rfl,hb⟩:∃b vs,y=.ref b/\view θ H b=some (.tup vs):=by
       cases q with
       |tuple ds=>obtain⟨b,vs,e,hb,_⟩:=r2.1;exact⟨b,vs,e,hb⟩
       |_=>simp[iG]at hk
      cases ry;obtain⟨hz,hsys,dd⟩:=HQ I (aC θ H) h1 h2;have hz2:xs.length<=sizeLine:=by rw[<- show kvs.length=xs.length from U2 h2];exact hz
      have kr:=AS (b:=b) (u:=u) hk.1.2 hk.2 r2.2 r2.1 rv rd.1 rd.2 h2;refine wpAny_setItem_heap (knd:=fc X.prog X.w) (hsz:=hz2) (by show X.A.units+1+20<cLine;have:=hr.units;omega) (Eb I (aC θ H) hk.1.2 hk.2 r2.2 r2.1) dd λh' dd' hs=>?_;obtain⟨o,es,ep,g1,g2,g3,g4,_,g5⟩:=dd';have hl2:(storedH xs q b u).length<=sizeLine:=by rw[<- show(dput kvs q dv).length=_ from U2 kr];have:=AU kvs q dv;rw[Wq];omega
      refine⟨_,uo (t':=_) I (Oe h1) hs ⟨o,g1⟩ (Mh (xs:=storedH xs q b u) hl2 hsys g1 g2 g3 g4 g5),?_⟩;obtain⟨e1,w1⟩:=w.HR (o:=dO X.prog X.w (storedH xs q b u) a) (t:=true) (kvs:=dput kvs q dv) ha (j4 hx) (.inr ⟨rfl,_,aJ,kr⟩);exact p _ _ e1 w1
    ·exact p.elim
   ·exact p.elim
  ·exact set_list pins s σ H x y v xv yv u Q I rx ry rv (FP w r1 r2 rd p)
 ·exact p.elim
theorem HU(hr:bJ k X.A)(ho:DE X E ma' o)(hi:DE X E mb i)(ha:∀v,assign (.Subscript o i pos) X.env v=(do
   let ov <- holding [v] (eval o X.env)
   let iv <- holding [v,ov] (eval i X.env)
   standAt pos
   holding [v,ov,iv] (setItem ov iv v)
   release [v,ov,iv] []):=by intro _;rfl):DG X E (Ai ma' mb) (.Subscript o i pos):=by
 simp[bA,qI]at *;exact by rintro pins s σ H v u Q I r ⟨θ,h,ρ,d,w,fr,rd,p⟩;exact MW ho hi (KA hr) ha pins s σ H v u Q I r ⟨θ,h,ρ,w,fr,(aI.bind p).mono (by rintro d1 θ1 h1 H1 _ _ ⟨ev,w1,p1⟩ x r1;exact⟨θ1,h1,ρ,w1,fr.ev ev,(aI.bind p1).mono (by rintro d2 θ2 h2 H2 _ _ ⟨ev2,w2,p2⟩ y r2;exact⟨θ2,h2,d1,d2,d,w2,r1.ev ev2,r2,rd.ev (ev.trans ev2),(aI.bind p2).mono (by rintro _ θ3 h3 H3 _ _ ⟨ev3,w3,p3⟩;exact p3 θ3 H3 Ev.refl w3 σ (((fr.ev ev).ev ev2).ev ev3))⟩)⟩)⟩
end
section
variable {X:Cx} {E:XK} {k:Nat} {θ:Yk} {hm:Hm} {H M:Hp} {pins:Yf} {σ:L2.St} {s:Yw} {pos:Pos} {e:Expr}
theorem AV(w:W G θ hm H)(r:bT G θ H d v)(e:iH d hm=some (t,kvs)):∃a,v=.ref a/\fH G.P G.w (view θ H) H a t kvs:=by
 unfold iH at e;split at e
 ·cases e;obtain⟨a,h1,h2⟩:=r;exact⟨a,h1,h2.same (aT.refl _) λo q=>aC _ _ _ _ q⟩
 ·split at e
  ·rename_i hx;cases e;obtain⟨a,ha,h1⟩:=r;exact⟨a,h1,w.obj _ _ _ ha hx⟩
  grind
 grind
theorem KC(hr:bJ k X.A)(I:Inv X pins σ H s)(rx:RelV x v)(w:W X.G θ h H)(r1:bT X.G θ H d1 x)(dc:fH X.prog X.w (view θ H) H a t kvs)(hb:y7 d1 kvs t=some b) :
  (Q (.bl b) H->wpAny (model X.prog X.w) X.A (compareOp .In v (.ref a)) (EP X pins σ Q) X.xe s)/\(Q (.bl !b) H->wpAny (model X.prog X.w) X.A (compareOp .NotIn v (.ref a)) (EP X pins σ Q) X.xe s):=by
 unfold y7 at hb;split at hb
 ·rename_i d;split at hb
  ·rename_i ok;cases hb;rcases dc with⟨rfl,ks,h1,h2,h3⟩|⟨rfl,xs,h1,h2⟩
   ·simp only[keyOk,UK,Vr]at ok
    cases d with
    |str z=>
     cases(dQ r1).1
     exact⟨λq=>Sa (by have:=hr.units;omega) I (xb.k (k:=Sum.inr z) h1) rx λs' I'=>⟨.bl _,H,I',rfl,by rw[<- ql,<- kH h2];exact q⟩,
      λq=>Ka (by have:=hr.units;omega) I (xb.k (k:=Sum.inr z) h1) rx λs' I'=>⟨.bl _,H,I',rfl,by rw[<- ql,<- kH h2];exact q⟩⟩
    |_=>simp[gR]at ok
   ·simp only[keyOk,Vu,Ux,UZ]at ok
    cases d with
    |tuple ds=>
     obtain⟨c,vs,rfl,hc,_⟩:=id r1.1;cases rx;obtain⟨hz,hsys,dd⟩:=HQ I (aC θ H) h1 h2;have room:(fc X.prog X.w).room X.A.in1:=by show X.A.units+1+20<cLine;have:=hr.units;omega
     have tk:=Eb I (aC θ H) ok.1.2 ok.2 r1.2 r1.1
     exact⟨λq=>wpAny_in_heap (knd:=fc X.prog X.w) room tk hsys dd ⟨.bl _,H,I.tok _,rfl,by rw[<- kJ ok.1.2 h2];exact q⟩,
      λq=>PyProof.Rows.wpAny_notIn_heap (knd:=fc X.prog X.w) room tk hsys dd ⟨.bl _,H,I.tok _,rfl,by rw[<- kJ ok.1.2 h2];exact q⟩⟩
    |_=>simp[iG]at ok
  grind
 grind
theorem Ec(hr:bJ k X.A)(I:Inv X pins σ H s)(rx:RelV x v)(ry:RelV y u)(w:W X.G θ h H)(r1:bT X.G θ H d1 x)(r2:bT X.G θ H d2 y)(hb:findIn d1 d2 h=some b) :
  (Q (.bl b) H->wpAny (model X.prog X.w) X.A (compareOp .In v u) (EP X pins σ Q) X.xe s)/\(Q (.bl !b) H->wpAny (model X.prog X.w) X.A (compareOp .NotIn v u) (EP X pins σ Q) X.xe s):=by
 unfold findIn at hb;split at hb
 ·rename_i p hp;obtain⟨a,rfl,dc⟩:=AV w r2 hp;cases ry;exact KC hr I rx w r1 dc hb
 ·exact HP hr I rx ry w r1 r2 hb
theorem qO(hr:bJ k X.A):pK X E (compareOp .In) sZ:=by
 rintro pins s σ H x y v u Q I rx ry ⟨θ,h,d1,d2,w,r1,r2,p⟩;unfold sZ at p;split at p
 ·rename_i b hb;exact(Ec hr I rx ry w r1 r2 hb).1 (p.lQ w (cE _))
 ·trivial
theorem Ed(hr:bJ k X.A):pK X E (compareOp .NotIn) qt:=by
 rintro pins s σ H x y v u Q I rx ry ⟨θ,h,d1,d2,w,r1,r2,p⟩;unfold qt at p;split at p
 ·rename_i b hb;exact(Ec hr I rx ry w r1 r2 hb).2 (p.lQ w (cE _))
 ·trivial
theorem HV(h:∀p∈kvs,dz p.1=true/\dz p.2=true)(e:xh kvs q=some d):dz d=true:=by
 obtain⟨p,hp,rfl⟩:=Ve.mp e
 grind
theorem bz(hr:bJ k X.A):Pf X (NV X.G E fb):=by
 rintro value slice pins s σ H x y v u Q I rx ry ⟨θ,h,d1,d2,w,r1,r2,p⟩ hs;unfold fb at p;split at p
 ·rename_i pp hp;obtain⟨t,kvs⟩:=pp;split at p
  ·rename_i z;split at p
   ·trivial
   ·rename_i ht;split at p
    ·rename_i d hd;obtain⟨a,rfl,dc⟩:=AV w r1 hp;cases rx;rcases dc with⟨_,ks,h1,h2,h3⟩|⟨z1,_⟩
     ·obtain⟨e2,s2⟩:=dQ r2;subst e2;obtain⟨uu,g1,g2⟩:=pN h2 hd;have T:s.TypeIs (.ref a) "dict" := by obtain⟨_,_,vs,_,o,_,_,e,ex,_⟩:=I.hok a _ h1;exact⟨o,e,ex.1⟩
      exact PyProof.Rows.tail_any (ops:=[.ref a,u]) T PySem.F.slot_dict_getitem.lookup (Fe (by have:=hr.units;omega) I (by have:=xb.k (k:=Sum.inr z) h1;rw[g1]at this;exact this) ry λw' s' I' rw'=>⟨uu,H,I',rw',p.lQ w ⟨AO g2,HV h3 hd⟩⟩) hs
     grind
    ·exact p.elim
  ·exact p.elim
 ·exact HJ value slice pins s σ H x y v u Q I rx ry ⟨θ,h,d1,d2,w,r1,r2,p⟩ hs
end
theorem bT.take(r:bT G θ H d v)(hb:d.below n=true):bT G (θ.take n) H d v:=by
 have sm:aT _ (view (θ.take n) H):=λa o q=>by obtain⟨h1,h2⟩:=cL q;rw[dB (λz=>h1 (W2 z))];exact h2
 cases d with
 |dat d=>exact⟨r.1.same sm,r.2⟩
 |ref i=>obtain⟨a,h1,h2⟩:=r;simp[D.below]at hb;exact⟨a,by simp_all,h2⟩
 |jX t kvs=>obtain⟨a,h1,h2⟩:=r;exact⟨a,h1,h2.same sm λo q=>sm _ _ q⟩
 |set xs=>exact r
 |fn n=>exact r
 |scr ns=>obtain⟨a,h1,h2⟩:=r;exact⟨a,h1,sm.seq h2⟩
 |ktup xs=>exact r
 |rpr x=>exact r
 |exc x=>obtain⟨a,c,h1,h2,h3⟩:=r;exact⟨a,c,h1,sm _ _ h2,h3⟩
theorem bh.take:∀{ds:List D} {vs:List V},bh G θ H ds vs->ds.all (D.below n)=true->bh G (θ.take n) H ds vs
 |_,_,.nil,_=>.nil
 |_,_,.cons r t,h=>by simp only[List.all_cons,Ux]at h;exact .cons (r.take h.1) (bh.take t h.2)
theorem W.take(w:W G θ h H)(hb:(h.take n).all (MO.below n)=true):W G (θ.take n) (h.take n) H:=by
 have sm:aT _ (view (θ.take n) H):=λa o q=>by obtain⟨h1,h2⟩:=cL q;rw[dB (λz=>h1 (W2 z))];exact h2
 refine⟨by simp[w.len],w.nd.sublist (List.take_sublist _ _),λi a o h1 h2=>?_⟩
 have hi:i<n:=by
  grind
 have mo:=UM.mp hb o (UO h2);rw[List.getElem?_take_of_lt hi]at h1 h2;have r:=w.obj i a o h1 h2
 cases o with
 |lst xs=>obtain⟨vs,q1,q2⟩:=r;exact⟨vs,q1,q2.take mo⟩
 |jX t kvs=>exact fH.same sm r λ_ q=>q
 |ins=>trivial
 |tab P q=>obtain⟨rfl,x⟩:=r;exact⟨rfl,x.same sm λ_ q=>q⟩
theorem Ev.take(e:Ev θ H θ' H')(hn:n=θ.length):Ev θ H (θ'.take n) H':=by
 obtain⟨ext,rfl⟩:=e.pre;have:(θ++ext).take n=θ:=by grind
 rw[this];refine⟨⟨[],by simp⟩,λa o q=>?_⟩;obtain⟨h1,h2⟩:=cL (e.same a o q);rw[dB (λz=>h1 (VF _ z))];exact h2
theorem aI.fG(w:W G θ h H)(p:aI G (qG G E) θ H (fG F ds h) (KV G Q)):aI G (qG G E) θ H (F ds h) (KV G Q):=by
 unfold Ml.fG at p
 cases e:F ds h with
 |bad=>simp_all
 |ok d h'=>
  rw[e]at p;simp only at p;split at p
  ·rename_i hc;simp only[Ux]at hc;intro θ' H' ev w' v r;have w2:=w'.take hc.1.2;have ev2:=ev.take w.len.symm;exact p _ _ ev2 w2 v (r.take hc.1.1)
  ·trivial
 |exc x h'=>
  rw[e]at p;simp only at p;split at p
  ·rename_i hc;simp only[Ux]at hc;intro θ' H' ev w' cls da xr;have w2:=w'.take hc.1;have ev2:=ev.take w.len.symm;exact p _ _ ev2 w2 cls da xr
  ·trivial
theorem aZ.fG(h:aZ P w K mg base x ps k F):aZ P w K mg base x ps k (Ml.fG F):=by obtain⟨⟨f,fd,h1,h2,h3,h4⟩,ar⟩:=h;refine⟨⟨f,fd,h1,h2,h3,h4.imp (by rintro vs H Q E ⟨θ,hm,ds,w,r,p⟩;exact⟨θ,hm,ds,w,r,p.fG w⟩)⟩,λds hm l=>?_⟩;unfold Ml.fG;rw[ar ds hm l]
end Ml
namespace L2
open PySem PySem.Spec
section
variable {X:Cx} {a b:Expr} {rest:Yo} {ta tb:TE} {pos:Pos}
theorem Of(ht:MZ X r)(ha:PE X a ta)(hb:PE X (.BoolOp .Or (b::rest) pos) tb):PE X (.BoolOp .Or (a::b::rest) pos) (λσ H Q=>ta σ H λx H1=>r x H1 λc H2=>H2=H1/\if c=true then Q x H1 else tb σ H1 Q):=by
 intro pins s σ H Q I h;refine PyProof.Rows.BoolOp_or (bW (ha pins s σ H _ I h) λv s1 ⟨x,H1,I1,r1,q1⟩=>?_);refine bW (ht pins s1 σ H1 x v _ I1 r1 q1) λc s2 ⟨H2,I2,e,q2⟩=>?_;subst e
 cases c with
 |false=>exact hb pins s2 σ H2 Q I2 q2
 |true=>exact⟨x,H2,I2,r1,q2⟩
theorem KD(ht:MZ X r)(ha:PE X a ta)(hb:PE X (.BoolOp .And (b::rest) pos) tb):PE X (.BoolOp .And (a::b::rest) pos) (λσ H Q=>ta σ H λx H1=>r x H1 λc H2=>H2=H1/\if c=true then tb σ H1 Q else Q x H1):=by
 intro pins s σ H Q I h;refine PyProof.Rows.BoolOp_and (bW (ha pins s σ H _ I h) λv s1 ⟨x,H1,I1,r1,q1⟩=>?_);refine bW (ht pins s1 σ H1 x v _ I1 r1 q1) λc s2 ⟨H2,I2,e,q2⟩=>?_;subst e
 cases c with
 |true=>exact hb pins s2 σ H2 Q I2 q2
 |false=>exact⟨x,H2,I2,r1,q2⟩
end
end L2
namespace Ml
open PySem PySem.Spec L2
section
variable {X:Cx} {E:XK} {m a b c:ME} {t u:MT} {e e1 e2 e3:Expr} {es:Yo} {ma:MA} {pos:Pos} {i:Nat} {x:Str}
noncomputable def FQ(a b:ME):ME:=λρ h=>(a ρ h).bind λx h1=>match truth x h1 with
 |some c=>if c then .ok x h1 else b ρ h1
 |none=>.bad
noncomputable def lD(a b:ME):ME:=λρ h=>(a ρ h).bind λx h1=>match truth x h1 with
 |some c=>if c then b ρ h1 else .ok x h1
 |none=>.bad
theorem zo(ha:DE X E a e1)(hb:DE X E b (.BoolOp .Or (e2::es) pos)):DE X E (FQ a b) (.BoolOp .Or (e1::e2::es) pos):=by
 simp[bA]at *
 exact PE.imp (Of BZ ha hb) (by rintro σ H Q ⟨θ,h,ρ,w,fr,p⟩;exact⟨θ,h,ρ,w,fr,(aI.bind p).mono (by
   rintro d θ1 h1 H1 _ _ ⟨ev,w1,p1⟩ v r;split at p1
   ·rename_i b hb;refine⟨b,vt w1 r hb,rfl,?_⟩
    cases b with
    |true=>exact p1 θ1 H1 Ev.refl w1 v r
    |false=>exact⟨θ1,h1,ρ,w1,fr.ev ev,p1⟩
   ·trivial)⟩)
theorem gx(ha:DE X E a e1)(hb:DE X E b (.BoolOp .And (e2::es) pos)):DE X E (lD a b) (.BoolOp .And (e1::e2::es) pos):=by
 simp[bA]at *
 exact PE.imp (KD BZ ha hb) (by rintro σ H Q ⟨θ,h,ρ,w,fr,p⟩;exact⟨θ,h,ρ,w,fr,(aI.bind p).mono (by
   rintro d θ1 h1 H1 _ _ ⟨ev,w1,p1⟩ v r;split at p1
   ·rename_i b hb;refine⟨b,vt w1 r hb,rfl,?_⟩
    cases b with
    |false=>exact p1 θ1 H1 Ev.refl w1 v r
    |true=>exact⟨θ1,h1,ρ,w1,fr.ev ev,p1⟩
   ·trivial)⟩)
noncomputable def mI(f g:D->D->Hm->R D)(a b c:ME):ME:=λρ h=>(a ρ h).bind λx h1=>(b ρ h1).bind λy h2=>(f x y h2).bind λz h3=>match z with
 |.dat (.bool k)=>if k then(c ρ h3).bind λw h4=>g y w h4 else .ok (.bool false) h3
 |_=>.bad
theorem AW(h:lE G E (mI f g a b c) σ H Q):BX (NV G E f) (NV G E g) (lE G E a) (lE G E b) (lE G E c) σ H Q:=by
 obtain⟨θ,h,ρ,w,fr,p⟩:=h;refine⟨θ,h,ρ,w,fr,(aI.bind p).mono λx θ1 h1 H1 _ _ ⟨e1,w1,p1⟩ v r1=>?_⟩;refine⟨θ1,h1,ρ,w1,fr.ev e1,(aI.bind p1).mono λy θ2 h2 H2 _ _ ⟨e2,w2,p2⟩ u r2=>⟨θ2,h2,x,y,w2,r1.ev e2,r2,(aI.bind p2).mono λz θ3 h3 H3 _ _ ⟨e3,w3,p3⟩ z' r3=>?_⟩⟩
 cases z with
 |dat z=>
  cases z with
  |bool k=>
   refine⟨k,r3.1,?_⟩
   cases k with
   |true=>exact⟨θ3,h3,ρ,w3,(fr.ev e1).ev (e2.trans e3),(aI.bind p3).mono (by rintro w' θ4 h4 H4 _ _ ⟨e4,w4,p4⟩ q r4;exact⟨θ4,h4,y,w',w4,(r2.ev e3).ev e4,r4,p4⟩)⟩
   |false=>exact p3 θ3 H3 Ev.refl w3 _ ⟨rfl,by rfl⟩
  |_=>trivial
 |_=>trivial
theorem HY(ho:pK X E (compareOp op) f)(ho':pK X E (compareOp op') g)(ha:DE X E a e1)(hb:DE X E b e2)(hc:DE X E c e3)
 (hm:lastMarks [op,op'] [e2,e3]=false:=by with_unfolding_all rfl):DE X E (mI f g a b c) (.Compare e1 [op,op'] [e2,e3] pos):=by
 simp[bA]at *;exact PE.imp (GI ho ho' ha hb hc hm) λ_ _ _=>AW
theorem AX(ho:pK X E (compareOp op) f)(ho':pK X E (compareOp op') g)(ha:DE X E a e1)(hb:DE X E b e2)(hc:DE X E c e3)
 (hm:lastMarks [op,op'] [e2,e3]=false:=by with_unfolding_all rfl):DT X E (aR (mI f g a b c)) (.Compare e1 [op,op'] [e2,e3] pos):=by
 simp[bA,qH]at *;exact PT.imp (GJ ho ho' ha hb hc hm) λ_ _ _ q=>AW (D2 q)
end
section
variable {X:Cx} {E:XK} {m a b c:ME} {t u:MT} {e e1 e2 e3 tg:Expr} {es:Yo} {ma:MA} {pos:Pos} {i:Nat} {x:Str} {ss:List Stmt} {st:Stmt}
theorem dv(i:Nat)(hN:X.N[i]?=some x:=by rfl)(hv:Gq X.env.scope x:=by first|exact Or.inl rfl|exact Or.inr (Or.inl rfl)|exact Or.inr (Or.inr rfl))(hd:(x==("__debug__" : Str))=false:=by decide)(hcd:(x==("__classdict__" : Str))=false:=by decide):DE X E (af i) (.Name x pos):=NW hN hv hd hcd
theorem dg(i:Nat)(hN:X.N.Nodup)(hi:X.N[i]?=some x:=by rfl)(hx:Loc X.env.scope x:=by first|exact Or.inl rfl|exact Or.inr rfl)(hf:X.fn x=true\/X.env.scope.names.lookup x=some .local:=by first|exact .inl rfl|exact .inr rfl|assumption):DG X E (aB i) (.Name x pos):=Kr hN hi hx hf
noncomputable def aX(e:ME):MA:=λρ h=>match e ρ h with
 |.ok (.dat (.tuple ds)) h1=>.ok (ds.map D.dat) h1
 |.ok (.dat (.list ds)) h1=>.ok (ds.map D.dat) h1
 |.ok (.dat (.str s)) h1=>.ok (signs s) h1
 |.ok (.ktup ds) h1=>.ok (ds.map D.dat) h1
 |.exc x h1=>.exc x h1
 |_=>.bad
theorem dh(h:DE X E m e):DI X E (aX m) tg e:=by
 have at':=N4 (tg:=tg) h;have al':=N6 (tg:=tg) h;have as':=N7 (tg:=tg) h;have ak':=Ky (tg:=tg) h;simp only[mE]at *;rintro pins s σ H QI I ⟨θ,hm,ρ,w,fr,p⟩
 cases em:m ρ hm with
 |bad=>simp only[aX,em]at p;exact p.elim
 |exc x h1=>
  simp only[aX,em]at p;refine at' pins s σ H QI I ⟨θ,hm,ρ,w,fr,?_⟩
  simp_all[DL,em,R.Hj]
 |ok d h1=>
  cases d with
  |dat d=>
   cases d with
   |tuple ds=>
    simp only[aX,em]at p;refine at' pins s σ H QI I ⟨θ,hm,ρ,w,fr,?_⟩
    simp_all[DL,em,R.aO]
   |list ds=>simp only[aX,em]at p;refine al' pins s σ H QI I ⟨θ,hm,ρ,w,fr,?_⟩;simp only[Hn,em,R.aO];exact p
   |str ds=>simp only[aX,em]at p;refine as' pins s σ H QI I ⟨θ,hm,ρ,w,fr,?_⟩;simp only[Ho,em,R.aO];exact p
   |_=>simp only[aX,em]at p;exact p.elim
  |ktup ds=>simp only[aX,em]at p;refine ak' pins s σ H QI I ⟨θ,hm,ρ,w,fr,?_⟩;simp only[Qp,em,R.aO];exact p
  |_=>simp only[aX,em]at p;exact p.elim
theorem Ee:DZ X E (λ_ _=>.bad) ss:=by simp[mr]at *;exact by rintro pins s σ H C I ⟨θ,hm,ρ,w,fr,p⟩;exact p.elim
end
section
variable {X:Cx} {E:XK} {m:ME} {e:Expr} {es:Yo} {ma:MA} {pos pos' p p2:Pos} {i:Nat} {x T:Str} {f:Fn} {id n:String} {g:PyData->Bool}
theorem jE(i:Nat)(hN:X.N.Nodup)(he:DE X E m e)(hi:X.N[i]?=some x:=by rfl)(hx:Loc X.env.scope x:=by first|exact Or.inl rfl|exact Or.inr rfl)(hs:swapsWith e (some (.Name x pos')) pos.line X.env=pure false:=by kernel_rfl)(hf:X.fn x=true\/X.env.scope.names.lookup x=some .local:=by first|exact .inl rfl|exact .inr rfl|assumption) :
  DS X E (cR i m) (.Assign [.Name x pos'] e pos):=NZ hN hi hx he hs hf
theorem ue(hc:u0 X E (.builtin id) f)(hm:X.mg x=none)(hv:bootBuiltins x=some (.builtin id))(ha:DA X E ma (e::es))(hg:Gl X x:=by rfl)(hn:x ≠ "__name__" := by decide)(hdb:(x==("__debug__" : Str))=false:=by decide)
 (he:starEach (e::es) X.env=(false,eval e X.env)::starEach es X.env:=by rfl)(hpl:(backTo pos (starEach es X.env)).any (·.1)=false:=by rfl):DE X E (ag f ma) (.Call (.Name x p) (e::es) [] pos):=Hz hc hg hm hv ha hn hdb he hpl
theorem jX(hc:u0 X E (.type id) f)(hm:X.mg x=none)(hv:bootBuiltins x=some (.type id))(ha:DA X E ma (e::es))(hg:Gl X x:=by rfl)(hn:x ≠ "__name__" := by decide)(hdb:(x==("__debug__" : Str))=false:=by decide)
 (he:starEach (e::es) X.env=(false,eval e X.env)::starEach es X.env:=by rfl)(hpl:(backTo pos (starEach es X.env)).any (·.1)=false:=by rfl):DE X E (ag f ma) (.Call (.Name x p) (e::es) [] pos):=FF hc hg hm hv ha hn hdb he hpl
theorem xi(kit:∀d,PySem.W.kitOne X.K (.type (P8 d)) (.type n)=some (g d))(bt:bootBuiltins T=some (.type n))(m1:X.mg "isinstance" = none)(m2:X.mg T=none)(h:DE X E m e)(g1:Gl X "isinstance" := by rfl)(g2:Gl X T:=by rfl)(hT:T ≠ "__name__" := by decide)(hT2:(T==("__debug__" : Str))=false:=by decide)
 (hs:starEach [e,.Name T p2] X.env=(false,eval e X.env)::starEach [.Name T p2] X.env:=by rfl)(hs2:starEach [.Name T p2] X.env=[(false,eval (.Name T p2) X.env)]:=by rfl)(hpl:(backTo pos (starEach [.Name T p2] X.env)).any (·.1)=false:=by rfl):DE X E (AB (mi g) m) (.Call (.Name "isinstance" p) [e,.Name T p2] [] pos):=Od kit bt m1 m2 h g1 g2 hT hT2 hs hs2 hpl
end
noncomputable def Df(K:Ym)(mg:Yi)(x:Str)(ps:Yn)(st:Stmt):Prop:=∃f fd,mg x=some (.ref f)/\Gr K x x st f fd/\Binds K fd ps []
theorem cj{oc kV dc pm cd ct:Value}(X:K.In h)(G:h.Ns mainGlobals mg)
 (a:PySem.W.nsIn K mainGlobals x=some (some (.ref f)))(l:K.lookup f=some ⟨oc,od,.func (PySem.W.fnOf x x (fi st) (bV st) (ao st) .none kV dc pm an cd ct),sl⟩)(c:PySem.W.codeIn K cd x=true)(k:PySem.W.keepIn K (.ref f)=true)
 (hb:∀(kV doc pm:Value) (an:Option Addr) (cdv ct:Value) (us:Yl),us.length=ps.length->bindArgs (PySem.W.fnOf x x (fi st) (bV st) (ao st) .none kV doc pm an cdv ct) ⟨us,[]⟩=pure (ps.zip us)):Df K mg x ps st:=
 ⟨f,_,U4 X G a,yO l c k,(yO l c k).binds hb⟩
section
variable {P:Yt} {w:World} {K:Ym} {mg:Yi} {base:Heap} {x:Str} {st:Stmt} {ps N:Yn} {k:Nat} {b:MS} {F:Fn}
theorem Df.has(d:Df K mg x ps st)(S:aM N ps (ao st))(hbody:∀(f:Addr) (cdv:Value) (A:Yv) (outer:List Env) (s:Yw) (H:Hp) (E:XK),bJ k (A.deeper (PyProof.Rows.envOfC x (ao st) s.heap.objs.size f cdv)) ->
   DZ (fA (ja P w) P w K mg base N x (ao st) f cdv A outer s H E) E b (bV st)):aZ P w K mg base x ps (k+1) (bj ps.length N.length b):=by
 obtain⟨f,fd,h1,Fu,bd⟩:=d;exact⟨⟨f,fd,h1,Fu.kp,bd,Tv Fu S (hbody f)⟩,nQ⟩
end
theorem Og:bootBuiltins "int" = some (.type "int"):=by rfl
theorem Oh(h:jT P w K mg base (ja P w) k f fd ps (JE ⟨P,w,mg,K⟩ F))(e:F=F'):jT P w K mg base (ja P w) k f fd ps (JE ⟨P,w,mg,K⟩ F'):=e▸h
end Ml
namespace L2
open PySem PySem.Spec
noncomputable def qP(sc lscope:Scope):Bool:=lscope.names.all λx=>decide (x.2≠.free) || (decide (sc.names.lookup x.1=some .cell)&&decide (lscope.names.lookup x.1=some .free))
theorem qP.free(h:qP sc lscope=true)(m:(n,NameKind.free)∈lscope.names):sc.names.lookup n=some .cell/\lscope.names.lookup n=some .free:=by
 have:=UM.mp h _ m
 grind
end L2
namespace Ml
open PySem PySem.Spec L2 PyProof.Rows
noncomputable abbrev Oi:Yl:=[.type "ValueError",.type "Exception",.type "BaseException",.type "object"]
abbrev HZ:String := "ValueError.__new__"
theorem Ef:∀{xs:List α} {ys:List β},PySem.Paired f xs ys->xs.length=ys.length
 |_,_,.nil=>rfl
 |_,_,.cons _ r=>by simp[Ef r]
noncomputable def zp(C:Str)(a:MA):MS:=λρ h=>(a ρ h).bind λxs h1=>if jY xs.length then .exc ⟨C,[]⟩ h1 else .bad
noncomputable def Sn(K:Ym)(mg:Yi)(x:Str):Prop:=∃C,mg x=some (.ref C)/\G4 K mg x C Oi HZ
section
variable {P:Yt} {w:World} {K:Ym} {mg:Yi} {base:Heap} {N:Yn} {qual:Str} {scope:Scope} {f:Addr} {cd:Value} {A:Yv} {outer:List Env} {s:Yw} {H:Hp} {E:XK}
theorem AY{np cpos pos:Pos}(c:Sn K mg x)(hr:bJ k (A.deeper (envOfC qual scope s.heap.objs.size f cd)))
 (ha:DA (fA (ja P w) P w K mg base N qual scope f cd A outer s H E) E ma (e::es))(hg:Gl (fA (ja P w) P w K mg base N qual scope f cd A outer s H E) x:=by rfl)
 (he:starEach (e::es) (envOfC qual scope s.heap.objs.size f cd)=(false,eval e (envOfC qual scope s.heap.objs.size f cd))::starEach es (envOfC qual scope s.heap.objs.size f cd):=by rfl)
 (hplain:(backTo cpos (starEach es (envOfC qual scope s.heap.objs.size f cd))).any (·.1)=false:=by rfl)(hdb:(x==("__debug__" : Str))=false:=by decide) :
  DS (fA (ja P w) P w K mg base N qual scope f cd A outer s H E) E (zp x ma) (.Raise (some (.Call (.Name x np) (e::es) [] cpos)) none pos):=by
 obtain⟨C,hm,xc⟩:=c;simp only[mn,j3]at *;refine PS.imp (G5 xc PySem.F.excBase_ValueError hr.hd hg ha he hplain hdb) λCn σ H1 ⟨θ,h,ρ,w1,fr,p⟩=>⟨θ,h,ρ,w1,fr,(aI.bind p).mono λds θ1 h1 H2 _ _ ⟨ev,w2,p2⟩ vs r=>?_⟩;split at p2
 ·rename_i hz;exact⟨by have:=Ef r;rw[<- this];exact cX hz,p2 θ1 H2 Ev.refl w2 (.ref C) none ⟨hm,rfl,rfl⟩⟩
 ·trivial
end
theorem KG{X:Cx}{pins:Yf}{σ:L2.St}{H:Hp}{s:Yw}{θ:Yk}{h:Hm}{b:Addr}{q:Str}(I:Inv X pins σ H s)(w:W X.G θ h H)(e:H b=some (.ext (recAt b q))):b∉θ:=λm=>by
 obtain⟨i,hi,ei⟩:=VX.mp m;have hl:i<h.length:=by grind[w.len]
 have r:=w.obj i b h[i] (by simp_all) (UH hl)
 cases ho:h[i]with
 |lst xs=>rw[ho]at r;obtain⟨vs,e1,_⟩:=r;grind
 |ins C fs=>rw[ho]at r;exact r.elim
 |tab P q'=>rw[ho]at r;obtain⟨rfl,ps,e1,_⟩:=r;grind
 |jX t kvs=>
  rw[ho]at r;rcases r with⟨_,ks,e1,_⟩|⟨_,xs,e1,_⟩
  ·rw[e]at e1;cases e1
  ·rw[e]at e1;have k1:recAt b q s.heap:=(show bM X.prog X.w H s.heap b (.ext (recAt b q))from I.hok b _ e).1;unfold dO at e1;have e2:=congrFun (HO.ext.inj (Vk e1)) s.heap;have k2:=k1;rw[e2]at k2;obtain⟨_,_,o,es,ep,g1,g2,g3,_⟩:=k2;obtain⟨c1,oc,vs,t,z,g4,g5,g6⟩:=k1;cases z;rw[g1]at g4;cases g4;rw[g3]at g5;cases g5
theorem W.Oj{X:Cx}{pins:Yf}{σ:L2.St}{H H1:Hp}{s:Yw}{θ:Yk}{h:Hm}{P:Addr}{q:Str}{j:Nat}(I:Inv X pins σ H s)(w:W X.G θ h H)(hj:h[j]?=some (.tab P q))(t1:xR H1 P q)(sm:aT (wQ H P) (wQ H1 P)):Ev θ H θ H1/\W X.G θ h H1:=by
 have hjl:=(UB.mp hj).1;have hjt:j<θ.length:=by grind[w.len]
 have r0:=w.obj j θ[j] _ (UH hjt) hj;obtain⟨eP,tb⟩:=r0;have mP:P∈θ:=eP▸W6 hjt
 have keep:∀a o,a≠P->H a=some o->H1 a=some o:=λa o n e=>by
  have:=sm a o (by simp_all[wQ,if_neg,n])
  simp_all[wQ,this,if_neg,n]
 have e:Ev θ H θ H1:=⟨⟨[],by simp⟩,λa u k=>by
  obtain⟨h1,h2⟩:=cL k;rw[dB h1]
  exact keep a u (λz=>h1 (z▸mP)) h2⟩
 refine⟨e,⟨w.len,w.nd,λi a m h1 h2=>?_⟩⟩;have r:=w.obj i a m h1 h2;by_cases ha:a=P
 ·subst ha
  cases m with
  |lst xs=>obtain⟨vs,q1,q2⟩:=r;obtain⟨ps,z,_⟩:=tb;rw[q1]at z;cases z
  |jX t kvs=>
   obtain⟨ps,z,_⟩:=tb;rcases r with⟨_,ks,e1,_⟩|⟨_,xs,e1,_⟩
   ·rw[e1]at z;cases z
   ·rw[e1]at z;cases z
  |ins=>exact r.elim
  |tab P' q'=>
   obtain⟨rfl,_⟩:=r
   have hij:i=j:=by
    obtain⟨l1,e1⟩:=UB.mp h1;rcases Nat.lt_trichotomy i j with z|z|z
    ·exact absurd (e1.trans eP.symm) (Vy.mp w.nd i j l1 hjt z)
    ·exact z
    ·exact absurd (eP.trans e1.symm) (Vy.mp w.nd j i hjt l1 z)
   subst hij;rw[hj]at h2;cases h2;obtain⟨ps,k1,k2,k3⟩:=t1;refine⟨rfl,ps,k1,k2,λpos c k=>?_⟩;obtain⟨b,k4,k5,k6⟩:=k3 pos c k;refine⟨b,k4,k5,?_⟩
   have nb:b∉θ:=by
    cases hb:H b with
    |none=>exact w.DY hb
    |some o=>have:=keep b o k5 hb;rw[k6]at this;cases this;exact KG I w hb
   rw[dB nb];exact k6
 ·have kp:∀o,H a=some o->H1 a=some o:=λo=>keep a o ha
  cases m with
  |lst xs=>obtain⟨vs,q1,q2⟩:=r;exact⟨vs,kp _ q1,q2.ev e⟩
  |jX t kvs=>exact fH.same e.same r kp
  |ins=>exact r.elim
  |tab P' q'=>obtain⟨rfl,x⟩:=r;exact⟨rfl,x.same e.same kp⟩
noncomputable def fm:Yn:=["web", "lot", "name", "kind", "pair", "changes", "count", "shut", "way", "joint", "side", "deed"]
def wordAt(j:Nat):Str:=fm.getD j ""
noncomputable def clsAt:Str->Option Nat:=λx=>(["NoWeb", "NoLot", "NoName", "NoKind", "NoPair", "NoChanges", "NoCount", "NoShut", "NoWay", "NoJoint", "NoSide", "NoDeed"]:Yn).findIdx? (· == x)
noncomputable def pick(ρ:Fm)(idx:List Nat):Fm:=idx.map λi=>(ρ[i]?).join
noncomputable def Mm(cl:List Nat):R D->R D
 |.ok d h=>iF [D.str "told",d] h
 |.exc x h=>match clsAt x.cls with
  |some j=>if cl.contains j then .ok (.dat (.tuple [.str (wordAt j)])) h else .bad
  |none=>.bad
 |.bad=>.bad
noncomputable def tG(cl:List Nat)(j:Nat)(P:Addr)(q:Str)(idx:List Nat)(b:ME):ME:=λρ h=>match h[j]? with
 |some (.tab P' q')=>if P'=P/\q'=q/\(pick ρ idx).all Option.isSome=true then Mm cl (b (pick ρ idx) h)else .bad
 |_=>.bad
noncomputable def Ia(Q:VK):VK:=λx H1=>[.str "told",x].length<=sizeLine/\∀p,H1 p=none->Q (.ref p) (upd H1 p (.tup [.str "told",x]))
noncomputable def Eg(XE:VK->XK):(VK->XK->Prop)->VK->Prop:=λG Q=>G (Ia Q) (XE Q)
noncomputable def Eh(mg:Yi)(cl:List Nat)(XE:VK->XK):Prop:=∀(Q:VK) (cls:Value) (H:Hp) (x:Str) (j:Nat),clsAt x=some j->j∈cl->mg x=some cls->(∀H' t,aT H H'->H' t=none->Q (.ref t) (upd H' t (.tup [.str (wordAt j)])))->XE Q cls none H
theorem KH:∀j,PyData.strOk (wordAt j)=true:=by
 have:∀x∈fm,PyData.strOk x=true:=by decide +kernel
 intro j;unfold wordAt;rw[List.getD_eq_getElem?_getD]
 cases e:fm[j]? with
 |none=>exact(by decide +kernel:PyData.strOk "" = true)
 |some x=>exact this x (UO e)
theorem Cy{G:Gx}{F:XP}{Q:VK}(ys:List D)(vs:List V)(θ:Yk)(h:Hm)(H:Hp)(w1:W G θ h H)(r1:bh G θ H ys vs)(p1:aI G F θ H (iF ys h) (KV G Q))(q:Addr)(hq:H q=none):Q (.ref q) (upd H q (.tup vs)):=by
 unfold iF at p1
 cases e:gJ ys with
 |none=>rw[e]at p1;exact p1.elim
 |some ds=>
  rw[e]at p1;simp only at p1;split at p1
  ·obtain⟨e1,w2,g⟩:=w1.put hq;obtain⟨h1,h2⟩:=kF r1 e;exact p1 _ _ e1 w2 _ ⟨⟨q,vs,rfl,g,h1.same e1.same⟩,by assumption⟩
  ·trivial
theorem KI:PyData.strOk "told" = true:=by decide +kernel
section
variable {X:Cx} {E:XK}
theorem zq{g pn:Str}{k kl:Nat}{c P bm:Addr}{params:Arguments}{body:Expr}{lscope:Scope}{lpos p pos:Pos}{N2:Yn}{b:ME}{XE:VK->XK}{cl:List Nat}(j:Nat)(idx:List Nat)(q:Str)(hq:X.env.qual ++ "<lambda>" = q)
 (F:yX X.prog X.w X.K X.mg X.base g [pn] k (xS X.prog X.w X.K X.mg X.base (kl+1) (Eg XE)))(HX:Eh X.mg cl XE)(hr:bJ k X.A)(hcode:X.env.code=.ref c)(ht:PySem.W.codeHdIn X.K c P=true)(B:BMod X.base X.mg bm)
 (hbody:∀(f c':Addr) (clos:List (Str×Addr)) (A:Yv) (outer:List Env) (s:Yw) (H:Hp) (E':XK),bJ kl (A.deeper (kC (X.env.qual ++ "<lambda>") lscope s.heap.objs.size f (.ref c') clos))->DE (xQ X.prog X.w X.K X.mg X.base N2 (X.env.qual ++ "<lambda>") lscope f (.ref c') clos A outer s H E') E' b body)
 (hix:(List.range N2.length).all (λi=>match N2[i]?,idx[i]? with|some x,some n=>decide (X.N[n]?=some x)&&lscope.names.contains (x,NameKind.free)|_,_=>false)=true)
 (hN2:N2.length=idx.length:=by rfl)
 (hg:Gl X g:=by rfl)(S:uP lscope:=by exact⟨rfl,rfl,rfl,by decide +kernel⟩)(hdef:defaultsOf params X.env=([],[]):=by rfl)(hll:qP X.env.scope lscope=true:=by kernel_rfl)
 (hbind:∀clos pm c' ctv,bindArgs (PySem.W.kla_fn "<lambda>" (X.env.qual ++ "<lambda>") params body lscope clos pm (.ref c') ctv) ⟨[],[]⟩=pure []:=by intro _ _ _ _;rfl)
 (hdb:(g==("__debug__" : Str))=false:=by decide)(hs:starEach [.Lambda params body lscope lpos] X.env=(false,eval (.Lambda params body lscope lpos) X.env)::starEach [] X.env:=by rfl) :
  DE X E (tG cl j P q idx b) (.Call (.Name g p) [.Lambda params body lscope lpos] [] pos):=by
 subst hq;simp only[bA]at *;rintro pins s σ H Q I ⟨θ,h,ρ,w,fr,p⟩;unfold tG at p;split at p
 ·rename_i P' q' hj;split at p
  ·rename_i hc;obtain⟨rfl,rfl,hsome⟩:=hc
   have hix':∀(j:Nat) (x:Str),N2[j]?=some x->∃i,idx[j]?=some i/\X.N[i]?=some x/\(x,NameKind.free)∈lscope.names:=λjj x hx=>by
    have hl:=(UB.mp hx).1;have:=UM.mp hix jj (Vf.mpr hl);rw[hx]at this
    cases hi:idx[jj]? with
    |none=>rw[hi]at this;simp at this
    |some n=>rw[hi]at this;simp only[Ux,UZ,List.contains_iff_mem]at this;exact⟨n,rfl,this.1,this.2⟩
   have all:∀i∈idx,∃d v,ρ[i]?=some (some d)/\σ[i]?=some (some v)/\bT X.G θ H d v:=λi hi=>by
    have:=UM.mp hsome _ (List.mem_map_of_mem hi)
    cases e:ρ[i]? with
    |none=>rw[e]at this;simp at this
    |some o=>
     cases o with
     |none=>rw[e]at this;simp at this
     |some d=>obtain⟨v,h1,h2⟩:=fr.2 i d e;exact⟨d,v,rfl,h1,h2⟩
   obtain⟨vs,hvl,hvs,hfr⟩:∃vs:List V,vs.length=idx.length/\(∀(jj:Nat) (v:V),vs[jj]?=some v->∃i,idx[jj]?=some i/\σ[i]?=some (some v))/\Fr X.G θ H (pick ρ idx) (vs.map some):=by
    clear hsome p hix hN2 hix'
    induction idx with
    |nil=>exact⟨[],rfl,by simp,rfl,by simp[pick]⟩
    |cons i is ih=>
     obtain⟨vs,h1,h2,h3⟩:=ih (λi hi=>all i (UD _ hi));obtain⟨d,v,e1,e2,e3⟩:=all i (UL ..);refine⟨v::vs,by simp[h1],λjj u hu=>?_,by simp[pick,h1],λjj d' hd=>?_⟩
     ·cases jj with
      |zero=>simp at hu;subst hu;exact⟨i,rfl,e2⟩
      |succ jj=>simp at hu;obtain⟨n,k1,k2⟩:=h2 jj u hu;exact⟨n,by simpa using k1,k2⟩
     ·cases jj with
      |zero=>simp[pick,e1]at hd;subst hd;exact⟨v,rfl,e3⟩
      |succ jj=>
       have:(pick ρ is)[jj]?=some (some d'):=by simpa [pick]using hd
       obtain⟨u,k1,k2⟩:=h3.2 jj d' this;exact⟨u,by simpa using k1,k2⟩
   have hjl:=(UB.mp hj).1;have hjt:j<θ.length:=by rw[w.len];exact hjl
   obtain⟨eP,tb⟩:=w.obj j θ[j] _ (UH hjt) hj;refine Fx (N2:=N2) (idx:=idx) (tb:=λE'=>lE X.G E' b) F hr hg hcode ht B S hdef (λn hn=>.inl (qP.free hll hn).1) (λx hx=>(qP.free hll hx).2) hbind hN2 hix' (λf c' clos A outer s H E' hr'=>hbody f c' clos A outer s H E' hr') hdb hs pins s σ H Q I ⟨vs,hvl,hvs,tb.ok,λH1 t1 sm=>?_⟩;obtain⟨ev,w1⟩:=w.Oj I hj t1 sm;refine⟨θ,h,pick ρ idx,w1,hfr.ev ev,?_⟩;have p':=p.later ev
   cases hb:b (pick ρ idx) h with
   |bad=>rw[hb]at p';exact p'.elim
   |ok d h'=>rw[hb]at p';refine λθ' H' ev' w' v r=>⟨by show 2<=sizeLine;decide,λq hq=>?_⟩;exact Cy [D.str "told",d] [.str "told",v] θ' h' H' w' (.cons (show bT _ _ _ (D.str "told") (.str "told")from⟨rfl,by simp[dz,KI]⟩) (.cons r .nil)) (p'.later ev') q hq
   |exc x h'=>
    rw[hb]at p';simp only[Mm]at p'
    cases hcl:clsAt x.cls with
    |none=>rw[hcl]at p';exact p'.elim
    |some jj=>
     rw[hcl]at p';simp only at p';split at p'
     ·rename_i hcj;refine λθ' H' ev' w' cls da xr=>?_;obtain⟨x1,rfl,_⟩:=xr;refine HX Q cls H' x.cls jj hcl (by simpa using hcj) x1 λH2 t sm2 ht2=>?_;obtain⟨ev2,w2⟩:=w'.grow sm2;obtain⟨ev3,w3,g3⟩:=w2.put (o:=.tup [.str (wordAt jj)]) ht2;exact p' θ' _ ((ev'.trans ev2).trans ev3) w3 _ ⟨⟨t,[.str (wordAt jj)],rfl,g3,.cons rfl .nil⟩,by simp[dz,cK,KH]⟩
     ·exact p'.elim
  ·exact p.elim
 ·exact p.elim
end
end Ml
namespace L2
open PySem PySem.Spec PyProof.Rows
noncomputable def Qs(H:Hp)(P:Addr):Prop:=∀b,H b=none\/(b≠P/\∃o xs,H b=some (.frz o (.lst xs)))\/(b=P/\H b=some (.tbl #[]))
theorem FR{K:Ym}
 (KX:K.In s₁.heap)(hns:s₁.heap.Ns mainGlobals mg)(hb:s₁.heap.Ns builtinsNs mb)(hbb:∀x:Str,x ≠ "__name__" -> mb x=bootBuiltins x)(hlim:s₁.heap.NoLimit)(hg:s₁.gens=#[])
 (ha:s₁.heap.get? a=some {cls:=.type "list",data:=.seq vs.toArray})(hi:IntsAre vs ns)(hl:ns.length<=sizeLine)(hr:bJ k callerA)
 (ht:PySem.W.codeHdIn K c Pt=true)(hPK:K.lookup Pt=none)(hP:s₁.heap.get? Pt=some (PySem.W.tabObj #[]))
 (hbm:∃bm ob,mg "__builtins__" = some (.ref bm)/\bm≠builtinsNs/\s₁.heap.get? bm=some ob/\ob.cls=.type "module" /\ ob.dict=some builtinsNs/\ob.data=.plain)
 (F:∀base:Heap,K.In base->base.Ns mainGlobals mg->(∃bm,BMod base mg bm)->jT P w K mg base CX k fa fd [x] sp)(hbind:∀(s:Yw) (u:Value),BindsTo s fd ⟨[u],[]⟩ [(x,u)])
 (hsp:∀H:Hp,H Pt=some (.tbl #[])->i8 K (wQ H Pt) a (ns.map V.int)->sp [.ref a] H (λv _=>v=.bl true) λ_ _ _=>False)
 (hCX:∀H e s',CX [] H s₁ (λ_ _ _=>False) e s'->False) :
  codeAny (model P w) callerA (.call (.ref fa) ⟨[.ref a],[]⟩) (λr s'=>r=.ok (.ret (.bool true))/\OldK s₁.heap s'.heap/\s'.os=s₁.os/\AllBare s'.gens) s₁:=by
 have rv:=xI hi;have lenV:=hi.length;have hPo:s₁.heap.get? Pt=some {cls:=.none,data:=.fields #[]}:=hP
 have apart:a≠Pt:=λe=>by
  grind
 have ict:isCodeTable s₁.heap Pt:=((PySem.W.codeHd_of_K KX ht).tab hP).isCodeTable
 have core:∀H:Hp,Qs H Pt->H Pt=some (.tbl #[])->i8 K (wQ H Pt) a (ns.map V.int)->lz P w H s₁.heap->(∀b,H b≠none->b=a\/b=Pt)->(H a≠none->K.lookup a=none) ->
   codeAny (model P w) callerA (.call (.ref fa) ⟨[.ref a],[]⟩) (λr s'=>r=.ok (.ret (.bool true))/\OldK s₁.heap s'.heap/\s'.os=s₁.os/\AllBare s'.gens) s₁:=by
  intro H hO hT hS hok hA hK;have base_of:∀{b:Addr} {o:Obj},s₁.heap.get? b=some o->H b=none->(wV s₁.heap H).get? b=some o:=λe n=>Gs e n
  have noA:∀{b:Addr} {o:Obj} {es:Yq} {ep:Nat},s₁.heap.get? b=some o->o.data=.dict es ep->H b=none:=λ{b o es ep} e d=>by
   cases q:H b with
   |none=>rfl
   |some u=>
    rcases hA b (by rw[q];simp)with e'|e'
    ·subst e';rw[ha]at e;cases e;have d':Data.seq vs.toArray _=Data.dict es ep:=d;cases d'
    ·subst e';rw[hPo]at e;cases e;have d':Data.fields #[]=Data.dict es ep:=d;cases d'
  have nsK:∀{b:Addr} {m:Yi},s₁.heap.Ns b m->(wV s₁.heap H).Ns b m:=λ{b m} ⟨o,es,ep,e,d,r⟩=>⟨o,es,ep,base_of e (noA e d),d,r⟩
  have hKb:K.In (wV s₁.heap H):=λb o e=>base_of (KX b o e) (by
   cases q:H b with
   |none=>rfl
   |some u=>
    rcases hA b (by rw[q];simp)with e'|e'
    ·subst e';rw[hK (by rw[q];simp)]at e;cases e
    ·subst e'
     rw[hPK]at e;cases e)
  have hBM:∃bm,BMod (wV s₁.heap H) mg bm:=by
   obtain⟨bm,ob,b1,b2,b3,b4,b5,b6⟩:=hbm;refine⟨bm,b1,b2,ob,base_of b3 ?_,b4,b5,b6⟩
   cases q:H bm with
   |none=>rfl
   |some u=>
    rcases hA bm (by rw[q];simp)with e'|e'
    ·subst e';rw[ha]at b3;cases b3;exact absurd (show Value.type "list" = Value.type "module" from b4) (by decide +kernel)
    ·subst e';rw[hPo]at b3;cases b3;cases b4
  have hM:Mod K mg (wV s₁.heap H):=⟨hKb,nsK hns,⟨mb,nsK hb,hbb⟩,by obtain⟨mc,h1,h2⟩:=hlim;exact⟨mc,nsK h1,h2⟩⟩;have e0:yK P w K mg (wV s₁.heap H) callerA [] s₁ H:=⟨rfl,hM,λb o e=>JK e,Nat.le_of_eq (EV _ _),trivial,λb hb=>absurd (show b∈([]:Yk)from hb) (by simp),hok,.of_eq hg⟩;refine WO ((F _ hKb (nsK hns) hBM).run callerA [] s₁ H ⟨[.ref a],[]⟩ [.ref a] [.ref a] _ _ hr e0 (hbind s₁ (.ref a)) (.cons rfl .nil) (hsp H hT hS)) λr s' h=>?_
  cases r with
  |error e=>exact(hCX H e s' h).elim
  |ok fl=>
   cases fl with
   |next=>exact False.elim h
   |brk=>exact False.elim h
   |cont=>exact False.elim h
   |ret u=>
    obtain⟨v,H',os,bare,un,hok',r',q⟩:=h;have q':v=.bl true:=q;subst q';obtain rfl:u=Value.bool true:=r'
    have fate:∀b o,s₁.heap.get? b=some o->asItWas s₁.heap s'.heap b o:=λb o e=>by
     rcases hO b with z|⟨_,ob,xs,z⟩|⟨e1,z⟩
     ·exact .inl (un.keep b o e z (by intro z;exact absurd (show b∈([]:Yk)from z) (by simp)) (by simp))
     ·have z2:=un.frzs b ob _ z;obtain⟨e1,_⟩:=hok b _ z;obtain⟨e2,_⟩:=hok' b _ z2;rw[e]at e1;cases e1;exact .inl e2
     ·subst e1;obtain⟨more,z2⟩:=un.tbls b #[] z;have e2:s'.heap.get? b=some {cls:=.none,data:=.fields (#[]++more)}:=hok' b _ z2;rw[e]at hPo;cases hPo;exact .inr (.inl ⟨ict,rfl,#[],more,rfl,e2⟩)
    refine⟨rfl,⟨fate,λb o e=>?_⟩,os,bare⟩;rcases hO b with z|⟨_,ob,xs,z⟩|⟨e1,z⟩
    ·exact⟨o,un.keep b o e z (by intro z;exact absurd (show b∈([]:Yk)from z) (by simp)) (by simp)⟩
    ·have z2:=un.frzs b ob _ z;obtain⟨e2,_⟩:=hok' b _ z2;exact⟨_,e2⟩
    ·obtain⟨more,z2⟩:=un.tbls b #[] z;exact⟨_,hok' b _ z2⟩
 cases hk:K.lookup a with
 |some o=>
  have e:=KX a o hk;rw[ha]at e;cases e;refine core (λb=>if b=Pt then some (.tbl #[])else none) (λb=>?_) (if_pos rfl) (.inr ⟨_,vs.toArray,_,hk,rfl,rfl,rfl,by rw[UG,lenV];exact hl,by simpa using rv⟩) (λb u z=>?_) (λb z=>?_) λz=>absurd (if_neg apart) z
  ·by_cases e1:b=Pt
   ·exact .inr (.inr ⟨e1,if_pos e1⟩)
   ·exact .inl (if_neg e1)
  ·by_cases e1:b=Pt
   ·have z':=(if_pos e1).symm.trans z;cases z';subst e1;exact hPo
   ·have z':=(if_neg e1).symm.trans z;cases z'
  ·by_cases e1:b=Pt
   ·exact .inr e1
   ·exact absurd (if_neg e1) z
 |none=>
  refine core (λb=>if b=Pt then some (.tbl #[])else if b=a then some (.frz {cls:=.type "list",data:=.seq vs.toArray} (.lst (ns.map V.int)))else none) (λb=>?_) (if_pos rfl) (.inl (.inr ⟨{cls:=.type "list",data:=.seq vs.toArray},by rw[Cg apart,if_neg apart,if_pos rfl]⟩)) (λb u z=>?_) (λb z=>?_) λ_=>hk
  ·by_cases e1:b=Pt
   ·exact .inr (.inr ⟨e1,if_pos e1⟩)
   ·by_cases e2:b=a
    ·exact .inr (.inl ⟨e1,_,_,(if_neg e1).trans (if_pos e2)⟩)
    ·exact .inl ((if_neg e1).trans (if_neg e2))
  ·by_cases e1:b=Pt
   ·have z':=(if_pos e1).symm.trans z;cases z';subst e1;exact hPo
   ·by_cases e2:b=a
    ·have z':=((if_neg e1).trans (if_pos e2)).symm.trans z;cases z';subst e2;exact⟨ha,by rw[US];exact hl,vs,_,rv,ha⟩
    ·have z':=((if_neg e1).trans (if_neg e2)).symm.trans z;cases z'
  ·by_cases e1:b=Pt
   ·exact .inr e1
   ·by_cases e2:b=a
    ·exact .inl e2
    ·exact absurd ((if_neg e1).trans (if_neg e2)) z
theorem Ib{l:PySem.W.OpenLaw}{K:Params->Ym}{CX:World->E7}{sp:World->Sp}
 (hn:l.most=some n)(hn2:n<=sizeLine)(hdf:d.params.defaults=[])(hr:bJ k callerA)
 (hY:∀(w:World) (h:Heap),YP w h->(K w.params).In h)(hYt:∀(w:World) (h:Heap),YP w h->h.get? Pt=some (PySem.W.tabObj #[]))(hPK:∀w:World,(K w.params).lookup Pt=none)
 (F:∀(w:World) (mg:Yi) (fa:Addr) (h:Heap),(K w.params).In h->h.Ns mainGlobals mg->mg d.name=some (.ref fa) ->
   ∃(fd:FuncData) (c:Addr),PySem.W.codeHdIn (K w.params) c Pt=true/\(∀(s:Yw) (u:Value),BindsTo s fd ⟨[u],[]⟩ [(x,u)]) /\
    ∀base:Heap,(K w.params).In base->base.Ns mainGlobals mg->(∃bm,BMod base mg bm)->jT l.prog w (K w.params) mg base (CX w) k fa fd [x] (sp w))
 (hsp:∀(w:World) (H:Hp) (a:Addr) (ns:List Int),ns.length<=n->H Pt=some (.tbl #[])->i8 (K w.params) (wQ H Pt) a (ns.map V.int)->sp w [.ref a] H (λv _=>v=.bl true) λ_ _ _=>False)
 (hCX:∀(w:World) (H:Hp) (s:Yw) (e:Value) (s':Yw),CX w [] H s (λ_ _ _=>False) e s'->False) :
  PySem.W.WalkO q loose XP YP l.row.toRowW d [] (λf vs=>PySem.call f vs):=by
 refine Att.Ao hn hdf λw s₀ s₁ mg mb fa o pm cd doc a vs ns G Y ho hd hcd hmg hobj hints hlen hg=>?_;have KX:=hY w _ Y;obtain⟨fd,c,hc,hb,hF⟩:=F w mg fa _ KX G.T.g hmg;exact FR KX G.T.g G.T.b G.T.builtins G.T.nolimit hg hobj hints (UI hlen hn2) hr hc (hPK w) (hYt w _ Y) G.T.bmain hF hb (λH hT hS=>hsp w H a ns hlen hT hS) λH e s'=>hCX w H s₁ e s'
end L2
namespace Ml
open PySem PySem.Spec L2
noncomputable def Pj(K:Ym)(mg:Yi)(x:Str)(ps:Yn)(st:Stmt)(Pt:Addr):Prop:=∃(f c:Addr) (oc kV dc pm ct:Value) (od an:Option Addr) (osl:Yp),mg x=some (.ref f)/\K.lookup f=some ⟨oc,od,.func (PySem.W.fnOf x x (fi st) (bV st) (ao st) .none kV dc pm an (.ref c) ct),osl⟩ /\
 PySem.W.codeIn K (.ref c) x=true/\PySem.W.codeHdIn K c Pt=true/\PySem.W.keepIn K (.ref f)=true/\Binds K (PySem.W.fnOf x x (fi st) (bV st) (ao st) .none kV dc pm an (.ref c) ct) ps []
theorem Ol{oc kV dc pm ct:Value}(X:K.In h)(G:h.Ns mainGlobals mg)
 (a:PySem.W.nsIn K mainGlobals x=some (some (.ref f)))(l:K.lookup f=some ⟨oc,od,.func (PySem.W.fnOf x x (fi st) (bV st) (ao st) .none kV dc pm an (.ref c) ct),sl⟩)(cd:PySem.W.codeIn K (.ref c) x=true)(ht:PySem.W.codeHdIn K c Pt=true)(k:PySem.W.keepIn K (.ref f)=true)
 (hb:∀(kV doc pm:Value) (an:Option Addr) (cdv ct:Value) (us:Yl),us.length=ps.length->bindArgs (PySem.W.fnOf x x (fi st) (bV st) (ao st) .none kV doc pm an cdv ct) ⟨us,[]⟩=pure (ps.zip us)):Pj K mg x ps st Pt:=
 ⟨f,c,_,_,_,_,_,_,_,_,U4 X G a,l,cd,ht,k,(yO (st:=st) l cd k).binds hb⟩
section
variable {P:Yt} {w:World} {K:Ym} {mg:Yi} {base:Heap} {x:Str} {st:Stmt} {ps N:Yn} {k:Nat} {b:MS} {F:Fn} {Pt:Addr}
theorem Pj.has(d:Pj K mg x ps st Pt)(S:aM N ps (ao st))(hbody:∀(f c:Addr) (A:Yv) (outer:List Env) (s:Yw) (H:Hp) (E:XK),PySem.W.codeHdIn K c Pt=true->bJ k (A.deeper (PyProof.Rows.envOfC x (ao st) s.heap.objs.size f (.ref c))) ->
   DZ (fA (ja P w) P w K mg base N x (ao st) f (.ref c) A outer s H E) E b (bV st)):aZ P w K mg base x ps (k+1) (bj ps.length N.length b):=by
 simp only[mr]at *;obtain⟨f,c,oc,kV,dc,pm,ct,od,an,osl,h1,lk,hcd,ht,kp,bd⟩:=d;refine⟨⟨f,_,h1,kp,bd,?_⟩,nQ⟩;refine L8 lk hcd S (D5 nQ) λA outer s H vs Q E hr ⟨θ,h,ds,w,r,p⟩=>⟨_,hbody f c A outer s H E ht hr,?_⟩;unfold bj at p;split at p
 ·rename_i hl;refine⟨θ,h,_,w,Fr.start (N:=N) (n:=0) r hl,(aI.bind p).mono λfl θ1 h1 H1 _ _ ⟨ev,w1,p1⟩=>?_⟩
  cases fl with
  |nx ρ=>exact λσ fr=>p1 θ1 H1 Ev.refl w1 _ ⟨rfl,by rfl⟩
  |rt d=>exact p1 θ1 H1 Ev.refl w1
  |bk ρ=>trivial
  |ct ρ=>trivial
 ·exact p.elim
end
noncomputable def Ic(K:Ym)(Pt:Addr):Sp:=λvs H Q _=>∃(a:Addr) (ns:List Int),vs=[.ref a]/\i8 K (wQ H Pt) a (ns.map V.int)/\ns.length<=63/\H Pt=some (.tbl #[])/\∀H',Q (.bl true) H'
theorem Ie(P:Addr)(H:Hp):view [P] H=wQ H P:=by grind[view,wQ]
theorem FT(hp:∀ns:List Int,ns.length<=63->∃h,F [.scr ns] [.tab Pt q]=.ok (.bool true) h)(z:Ic G.K Pt vs H Q E):JE G F vs H Q E:=by
 obtain⟨a,ns,rfl,hs,hl,ht,k⟩:=z;obtain⟨h',e⟩:=hp ns hl;refine⟨[Pt],[.tab Pt q],[.scr ns],⟨rfl,by simp,λi b o e1 e2=>?_⟩,.cons ⟨a,rfl,by grind[Ie]⟩ .nil,?_⟩
 ·cases i with
  |zero=>simp at e1 e2;subst e1;subst e2;exact⟨rfl,#[],ht,by trivial,λpos c e=>by trivial⟩
  |succ i=>grind
 ·rw[e];intro θ' H' _ _ v r;cases r.1
  grind
end Ml
namespace Wh
open PySem L2
noncomputable def Om:Stmt->Expr
 |.Assign _ v _=>v
 |_=>.Constant .none 0 ⟨0,0,0,0⟩
noncomputable def Oo:Stmt->Pos
 |.Assign _ _ p=>p
 |_=>⟨0,0,0,0⟩
noncomputable def Qt:Stmt->Pos
 |.Assign [.Name _ q] _ _=>q
 |_=>⟨0,0,0,0⟩
def Qu:Expr->Yo
 |.List es _=>es
 |_=>[]
noncomputable def Oq:Expr->Pos
 |.List _ p=>p
 |_=>⟨0,0,0,0⟩
noncomputable abbrev Qv(l:List Stmt)(i:Nat):Stmt:=l.getD i (.Pass ⟨0,0,0,0⟩)
theorem Ot{X:Cx}{i:Nat}{x:Str}{e:Expr}{d:PyData}{n:Nat}{q p lp:Pos}{es:Yo}(he:e=.List es lp)(hl:Lit n e d)(hN:X.N.Nodup)(hi:X.N[i]?=some x)(hx:Loc X.env.scope x)(hf:X.fn x=true):PS X (.Assign [.Name x q] e p) (BU (G2 d) (aB i)):=
 pe hN hi hx (@G3 X n e d hl) (by rw[he];rfl) (Or.inl hf)
theorem ya{H:Hp}:∀{ns:Yn} {vs:List V},bo H (ns.map .str) vs->vs=ns.map V.str
 | [],_,h=>h
 |n::ns,_,⟨w,ws,e,h,r⟩=>by subst e;have h'  := h;rw[h',ya r];rfl
structure KJ(mg:Yi)(cs:Nat->Addr):Prop where
 ve:mg "ValueError" = none
 m0:mg "NoWeb" = some (.ref (cs 0))
 m1:mg "NoLot" = some (.ref (cs 1))
 m2:mg "NoName" = some (.ref (cs 2))
 m3:mg "NoKind" = some (.ref (cs 3))
 m4:mg "NoPair" = some (.ref (cs 4))
 m5:mg "NoChanges" = some (.ref (cs 5))
 m6:mg "NoCount" = some (.ref (cs 6))
 m7:mg "NoShut" = some (.ref (cs 7))
 m8:mg "NoWay" = some (.ref (cs 8))
 m9:mg "NoJoint" = some (.ref (cs 9))
 m10:mg "NoSide" = some (.ref (cs 10))
 m11:mg "NoDeed" = some (.ref (cs 11))
 m12:mg "TooMany" = some (.ref (cs 12))
 m13:mg "NoText" = some (.ref (cs 13))
structure Kind(K:Ym)(cs:Nat->Addr)(D:Addr)(j:Nat):Prop where
 ec:NM K D
 lt:j<12
 k:∀i,i<14->PySem.W.kitOne K (.ref D) (.ref (cs i))=some (decide (i=j))
 v:PySem.W.kitOne K (.ref D) (.type "ValueError")=some true
noncomputable def marks(j:Nat):List Bool:=[decide (0=j),decide (1=j),decide (2=j),decide (3=j),decide (4=j),decide (5=j),decide (6=j),decide (7=j),decide (8=j),decide (9=j),decide (10=j),decide (11=j),decide (12=j),decide (13=j)]
theorem Ig:∀j,j<12->(marks j).countP (λb=>b)=1/\(marks j)[j]?=some true/\(∀m,m<j->(marks j)[m]?=some false)/\(marks j)[12]?=some false/\(marks j)[13]?=some false:=by decide
abbrev fm:=Ml.fm
abbrev wordAt:=Ml.wordAt
theorem FU:∀j,j<12->(fm++(["many", "text"]:Yn))[j]?=some (wordAt j):=by trivial
noncomputable def uw(K:Ym)(cs:Nat->Addr):Sp:=λvs H Q _=>∃a D j,vs=[.ref a]/\H a=some (.ext (dN a (.ref D)))/\Kind K cs D j/\∀H',aT H H'->Q (.str (wordAt j)) H'
theorem Qw:bootBuiltins "ValueError" = some (.type "ValueError"):=by rfl
theorem Ou{X:Cx}{x:Str}{C:Addr}{p p1 p2 pos:Pos}(K:Ym)(hK:X.K=K)(B:X.mg "isinstance" = none)(hN:X.N[0]?=some ("_law_e" : Str))(hv:Gq X.env.scope "_law_e")(hm:X.mg x=some (.ref C))(g1:Gl X "isinstance")(g2:Gl X x)(hd:(x==("__debug__" : Str))=false)
 (h1:starEach [.Name "_law_e" p1,.Name x p2] X.env=(false,eval (.Name "_law_e" p1) X.env)::starEach [.Name x p2] X.env)(h2:starEach [.Name x p2] X.env=(false,eval (.Name x p2) X.env)::starEach [] X.env)(h3:(backTo pos (starEach [.Name x p2] X.env)).any (·.1)=false) :
  PE X (.Call (.Name "isinstance" p) [.Name "_law_e" p1,.Name x p2] [] pos) (PV (Hb K) (oN (BR 0) (oN (tC (.ref C)) Ak))):=by
 subst hK;exact qh xP g1 B jB (bb (yG hN hv (by decide) (by decide)) (bb (uk g2 hm rfl hd) dS h2) h1) (by decide) (by decide) h1 h3
noncomputable def KL:Stmt->List Stmt
 |.Try b _ _ _ _=>b
 |_=>[]
noncomputable def Ov:Stmt->Pos
 |.Try _ _ _ _ p=>p
 |_=>⟨0,0,0,0⟩
noncomputable def AZ:Stmt->List Stmt
 |.Try _ [.ExceptHandler _ _ b _] _ _ _=>b
 |_=>[]
noncomputable def KN:Stmt->Pos
 |.Try _ [.ExceptHandler _ _ _ p] _ _ _=>p
 |_=>⟨0,0,0,0⟩
noncomputable def KO:Stmt->Pos
 |.Try _ [.ExceptHandler (some (.Name _ p)) _ _ _] _ _ _=>p
 |_=>⟨0,0,0,0⟩
noncomputable def Tw(K:Ym)(cs:Nat->Addr):TS:=PD (BU (Al (uw K cs) [] E0 (oN (BR 1) Ak)) (aB 2)) (MQ (Ti (GH (Pd Tn (BR 2) (tC (.str "many")))) (λ_ _ _=>False) (Nc (oN (BR 2) Ak))))
abbrev Ia:=Ml.Ia
noncomputable def A0(K:Ym)(cs:Nat->Addr)(WE:Addr)(Q:VK):XK:=λcls _ H'=>PySem.W.exmOne K cls (.ref WE)=some true/\∀(a:Addr) (σ':St),H' a=none->σ'.length=3 ->
 Tw K cs {nx:=λ_ H''=>Q .non H'',rt:=Q} (σ'.set 1 (some (.ref a))) (upd H' a (.ext (dN a cls)))
theorem KP:∀j,wordAt j ≠ "many" := by
 have:∀x∈fm,x≠("many" : Str):=by trivial
 intro j;unfold wordAt Ml.wordAt;rw[List.getD_eq_getElem?_getD]
 cases e:fm[j]? with
 |none=>trivial
 |some x=>exact this x (UO e)
theorem Ih{K:Ym}{cs:Nat->Addr}{WE D:Addr}{Q:VK}{H:Hp}{j:Nat}(kd:Kind K cs D j)(hm:PySem.W.exmOne K (.ref D) (.ref WE)=some true)(k:∀H' t,aT H H'->H' t=none->Q (.ref t) (upd H' t (.tup [.str (wordAt j)]))):A0 K cs WE Q (.ref D) none H:=by
 refine⟨hm,λa σ' ha hl=>?_⟩;have e1:(σ'.set 1 (some (.ref a)))[1]?=some (some (.ref a)):=by simp_all
 have s:aT H (upd H a (.ext (dN a (.ref D)))):=aT.new ha;refine⟨_,e1,a,D,j,rfl,aJ,kd,λH' s'=>?_⟩;have e2:∀v:V,((σ'.set 1 (some (.ref a))).set 2 (some v))[2]?=some (some v):=λv=>by simp_all
 refine⟨_,e2 _,rfl,?_⟩;rw[U0 (by intro h;injection h with h;exact KP j h)];exact⟨false,rfl,Nl ⟨_,e2 _,by show 1<=sizeLine;decide,λp hp=>k _ p (s.trans s') hp⟩⟩
noncomputable def Refs(K:Ym)(cs:Nat->Addr)(WE:Addr)(cl:List Nat):Prop:=∀j∈cl,Kind K cs (cs j) j/\PySem.W.exmOne K (.ref (cs j)) (.ref WE)=some true
theorem Ow{mg:Yi}{cs:Nat->Addr}(C:KJ mg cs){x:Str}{j:Nat}(h:Ml.clsAt x=some j):mg x=some (.ref (cs j)):=by
 unfold Ml.clsAt at h;rw[Xo]at h;obtain⟨hl,e,_⟩:=h;have e:=eq_of_beq e;rcases j with _|_|_|_|_|_|_|_|_|_|_|_|j
 ·exact e▸C.m0
 ·exact e▸C.m1
 ·exact e▸C.m2
 ·exact e▸C.m3
 ·exact e▸C.m4
 ·exact e▸C.m5
 ·exact e▸C.m6
 ·exact e▸C.m7
 ·exact e▸C.m8
 ·exact e▸C.m9
 ·exact e▸C.m10
 ·exact e▸C.m11
 ·exact absurd hl (Nat.not_lt.mpr (Nat.le_add_left ..))
theorem Qx{K:Ym}{mg:Yi}{cs:Nat->Addr}{WE:Addr}{cl:List Nat}(C:KJ mg cs)(R:Refs K cs WE cl):Ml.Eh mg cl (A0 K cs WE):=λQ cls H x j hx hj hm k=>by have e:=Ow C hx;rw[hm]at e;cases e;exact Ih (R j hj).1 (R j hj).2 k
def So(l:Yk)(i:Nat):Addr:=l.getD i 0
noncomputable def kindB(K:Ym)(l:Yk)(D WE:Addr)(j:Nat):Bool:=decide (j<12)&&((List.range 14).all λi=>PySem.W.kitOne K (.ref D) (.ref (So l i))==some (decide (i=j)))&&(PySem.W.kitOne K (.ref D) (.type "ValueError")==some true)&&(PySem.W.exmOne K (.ref D) (.ref WE)==some true)
theorem A3{K:Ym}{l:Yk}{D WE:Addr}{j:Nat}(h:kindB K l D WE j=true)(e:NM K D):Kind K (So l) D j/\PySem.W.exmOne K (.ref D) (.ref WE)=some true:=by
 simp[kindB]at h;refine⟨⟨e,h.1.1.1,λi hi=>?_,h.1.2⟩,h.2⟩
 simp_all
end Wh
namespace Ml
open PySem
noncomputable def yb:MS:=bg (lR (oM (dH (bH (AB (mi isStr) (af 0)))) (dH (aR (mI oLe oLe (ah (.int 1)) (ag gK (aa (af 0) aj)) (ah (.int 6)))))) (bN (ah (.bool false))) cC)
    (bN (ag qu (aa (cD 1 (aX (af 0)) (aB 0) dW (mI oLe oLe (ah (.str "a")) (af 0) (ah (.str "z")))) aj)))
def j5:Fn:=bj 1 1 yb
noncomputable def tH:MS:=bN (ag qu (aa (cD 2 (uV (aa (af 0) (aa (Co (af 0) (dX (ah (.int 1))) jZ) aj))) (gQ (bF (aB 0) (bF (aB 1) gP))) dW (aq oLt (af 0) (af 1))) aj))
def gL:Fn:=bj 1 1 tH
noncomputable def tI:MS:=bg (lR (oM (dH (bH (AB (mi isTup) (af 0)))) (aR (aq Pg (ag gK (aa (af 0) aj)) (ah (.int 12))))) (bN (ah (.bool false))) cC)
    (bN (lD (ag qu (aa (cD 1 (aX (af 0)) (aB 0) dW (ag j5 (aa (af 0) aj))) aj)) (ag gL (aa (af 0) aj))))
def jg:Fn:=bj 1 1 tI
noncomputable def mJ:MS:=bg (lR (oM (dH (bH (AB (mi isTup) (af 0)))) (aR (aq ur (ag gK (aa (af 0) aj)) (ah (.int 2))))) (bN (ah (.bool false))) cC)
    (bN (lD (aq sZ (aq fb (af 0) (ah (.int 0))) (af 1)) (aq sZ (aq fb (af 0) (ah (.int 1))) (af 1))))
def dA:Fn:=bj 2 2 mJ
noncomputable def jF:MS:=bg (lR (dH (bH (AB (mi isTup) (af 0)))) (bN (ah (.bool false))) cC)
    (bN (lD (ag qu (aa (cD 1 (aX (af 0)) (aB 0) dW (ag dA (aa (af 0) (aa (af 2) aj)))) aj)) (ag gL (aa (af 0) aj))))
def dG:Fn:=bj 2 2 jF
noncomputable def vA:MS:=bg (lR (oM (dH (bH (AB (mi isTup) (af 0)))) (aR (aq ur (ag gK (aa (af 0) aj)) (ah (.int 2))))) (bN (ah (.bool false))) cC)
    (bg (pF (gQ (bF (aB 1) (bF (aB 2) gP))) (af 0))
    (bN (lD (ag jg (aa (af 1) aj)) (ag dG (aa (af 2) (aa (af 1) aj))))))
def gM:Fn:=bj 1 3 vA
end Ml
namespace Ml
open PySem PySem.Spec L2
noncomputable def KQ(x y:D)(h:Hm):R D:=match listOf x h,listOf y h with
 |some xs,some ys=>if jY (xs.length+ys.length)then .ok (.dat (.list (xs++ys))) h else .bad
 |_,_=>.bad
section
variable {X:Cx} {E:XK} {st:Stmt}
theorem Qy:pK X E (binaryOp .Add) KQ:=pK.of rP λθ hm H d1 d2 x y Q w r1 r2 p=>by
 unfold KQ at p;split at p
 ·rename_i xs ys e1 e2;split at p
  ·rename_i hz;obtain⟨a,us,rfl,ha,q1,s1⟩:=nS w r1 e1;obtain⟨b,ws,rfl,hb,q2,s2⟩:=nS w r2 e2;refine⟨a,b,us,ws,rfl,rfl,ha,hb,by rw[q1.length,q2.length];exact cX hz,λq hq=>?_⟩;obtain⟨e1,w1,g⟩:=w.put hq;refine p _ _ e1 w1 _ ⟨⟨q,_,rfl,g,(q1.append q2).same e1.same⟩,?_⟩
   exact bC.mpr λd m=>by
    rcases UQ.mp m with m|m
    ·exact bC.mp s1 d m
    ·exact bC.mp s2 d m
  ·trivial
 ·trivial
def Ii:MS:=λ_ _=>.bad
theorem A4:DZ X E Ii ss:=Ee
end
end Ml
namespace Ml
open PySem
noncomputable def kK:MS:=lR (dH (bH (ag gM (aa (af 0) aj)))) (zp "NoWeb" (aa (ah (.str "no web, a tuple (names, strikes)")) aj)) cC
def eB:Fn:=bj 1 1 kK
noncomputable def uy:Yj:=[.str "grounded",.str "preferred",.str "stable",.str "standing",.str "whole"]
noncomputable def xj:MS:=lR (aR (aq qt (af 0) (Sm uy))) (zp "NoKind" (aa (ah (.str "no kind of lots")) aj)) cC
def gz:Fn:=bj 1 1 xj
noncomputable def jh:MS:=bN (aq sZ (cJ (aa (af 1) (aa (af 1) aj))) (af 0))
def bO:Fn:=bj 3 3 jh
noncomputable def hE:MS:=bN (lD (aq sZ (cJ (aa (af 1) (aa (af 1) aj))) (af 0)) (FQ (aq sZ (cJ (aa (af 2) (aa (af 1) aj))) (af 0)) (aq sZ (cJ (aa (af 2) (aa (af 2) aj))) (af 0))))
def br:Fn:=bj 3 3 hE
noncomputable def j6:MS:=bN (lD (aq sZ (cJ (aa (af 1) (aa (af 1) aj))) (af 0)) (aq sZ (cJ (aa (af 2) (aa (af 2) aj))) (af 0)))
def bX:Fn:=bj 3 3 j6
noncomputable def hU:MS:=bN (lD (aq sZ (cJ (aa (af 2) (aa (af 2) aj))) (af 0)) (FQ (aq sZ (cJ (aa (af 1) (aa (af 1) aj))) (af 0)) (aq sZ (cJ (aa (af 2) (aa (af 1) aj))) (af 0))))
def bE:Fn:=bj 3 3 hU
end Ml
namespace Ml
open PySem PySem.Spec L2
noncomputable def A5(x:D)(h:Hm):Option Yj:=match x with
 |.dat (.tuple ds)=>some ds
 |.ktup ds=>some ds
 |x=>listOf x h
section
variable {X:Cx} {E:XK} {m:ME} {a:MA} {e:Expr} {es:Yo} {p:Pos}
theorem A6:∀{xs:Yj},(∀x∈xs,(match x with|.int _|.str _|.bool _|.none=>true|_=>false)=true)->cK xs=true->bh G θ H (xs.map D.dat) (xs.map NU)
 | [],_,_=>.nil
 |d::ds,h,s=>by simp[cK]at s;refine .cons ⟨?_,s.1⟩ (A6 (λx m=>h x (UD _ m)) s.2);have:=h d (UL ..);cases d<;>first|rfl|trivial
end
noncomputable def Ij:PyData->Value->Bool
 |.none,.none=>true
 |.bool b,.bool c=>b==c
 |.int i,.int j _=>i==j
 |.str x,.str y _=>x==y
 |_,_=>false
noncomputable def zr:Yj->Yl->Bool
 | [],[]=>true
 |d::ds,v::vs=>Ij d v&&zr ds vs
 |_,_=>false
noncomputable def Sq(K:Ym)(a:Addr)(xs:Yj):Bool:=match K.lookup a with
 |some o=>(match o.cls,o.data with
  |.type "tuple",.seq its _=>zr xs its.toList&&decide (its.size<=sizeLine)
  |_,_=>false)&&cK xs
 |Option.none=>false
theorem Ik(h:Ij d v=true):RelV (NU d) v/\oU d=true:=by
 unfold Ij at h;split at h
 ·trivial
 ·have:=eq_of_beq h;subst this;exact⟨rfl,rfl⟩
 ·have:=eq_of_beq h;subst this;exact⟨⟨_,rfl⟩,rfl⟩
 ·have:=eq_of_beq h;subst this;exact⟨⟨_,rfl⟩,rfl⟩
 grind
theorem yc:∀{ds:Yj} {vs:Yl},zr ds vs=true->Vals (ds.map NU) vs/\∀x∈ds,oU x=true
 | [],[],_=>⟨.nil,by simp⟩
 | [],_::_,h=>by trivial
 |_::_,[],h=>by trivial
 |d::ds,v::vs,h=>by
  simp[zr]at h;obtain⟨h1,h2⟩:=Ik h.1;obtain⟨k1,k2⟩:=yc h.2;refine⟨.cons h1 k1,λx m=>?_⟩
  grind
theorem Ox(h:Sq K a xs=true):Hv K a xs:=by
 unfold Sq at h;split at h
 ·rename_i o ho;simp at h;obtain⟨h,hs⟩:=h;split at h
  ·rename_i its n hc hd;simp at h;obtain⟨k1,k2⟩:=yc h.1;exact⟨⟨o,its,n,ho,hc,hd,h.2,k1⟩,λx m=>by have:=k2 x m;cases x<;>simp_all[oU],hs⟩
  grind
 grind
end Ml
namespace Ml
open PySem
noncomputable def iL:Yj->Yj
 | []=>[]
 |x::xs=>if xs.any (PyData.eqv x)then iL xs else x::iL xs
noncomputable def setOk(ds:Yj):Bool:=(ds.all iG || ds.all gR)&&bx ds&&decide (PyData.depthAll ds<=8)&&decide (ds.length<=120)
noncomputable def iM:Fn:=λxs h=>match xs with
 | [x]=>match A5 x h with
  |some ds=>if setOk ds&&f7 (iL ds)then .ok (.dat (.list (dD ltB (iL ds)))) h else .bad
  |Option.none=>.bad
 |_=>.bad
def KR(ds es:Yj):Yj:=iL (ds++es)
theorem yd:∀{ds:Yj},bx ds=true<->∀d∈ds,aE d=true
 | []=>by trivial
 |d::ds=>by simp[bx,yd]
theorem Ei{ds:Yj}(hd:∀d∈ds,aE d=true)(hx:aE x=true):ds.any (PyData.eqv x)=true<->x∈ds:=by
 rw[Yc];constructor
 ·rintro⟨y,hy,e⟩;rw[(mj (aU hx) (aU (hd y hy))).mp e];exact hy
 ·exact λh=>⟨x,h,bf (aU hx)⟩
theorem j7:∀{ds:Yj},(∀d∈ds,aE d=true)->∀d,d∈iL ds<->d∈ds
 | [],_,d=>by rfl
 |x::xs,h,d=>by
  have hx:=h x (UL ..);have hxs  := λd m=>h d (UD _ m);have ih:=j7 hxs d;unfold iL;split
  ·rename_i z;rw[Ei hxs hx]at z
   grind
  grind
theorem ji:∀{ds:Yj},(∀d∈ds,aE d=true)->(iL ds).Nodup
 | [],_=>by trivial
 |x::xs,h=>by
  have hx:=h x (UL ..);have hxs  := λd m=>h d (UD _ m);unfold iL;split
  ·exact ji hxs
  ·rename_i z;refine VN.mpr ⟨λq=>z ?_,ji hxs⟩;rw[Ei hxs hx];exact(j7 hxs x).mp q
end Ml
namespace L2
open PySem PySem.Spec PyProof.Rows
section
variable {X:Cx} {pos:Pos}
noncomputable def Qz(i j l:Nat)(ta:TA):TS:=λD σ H=>ta σ H λvs H1=>∃v w z,vs=[v,w,z]/\D.nx (((σ.set i (some v)).set j (some w)).set l (some z)) H1
theorem KU(hc:X.calm=true)(hN:X.N.Nodup)(hi:X.N[i]?=some x)(hj:X.N[j]?=some y)(hl:X.N[l]?=some z)(hij:i≠j)(hil:i≠l)(hjl:j≠l)
 (hx:X.env.scope.names.lookup x=some .local)(hy:X.env.scope.names.lookup y=some .local)(hz:X.env.scope.names.lookup z=some .local)(ha:PA X [a,b,c] ta)
 (hw:swappedStores [.Tuple [.Name x px,.Name y py,.Name z pz] kt pt] (.Tuple [a,b,c] k2 pt2) X.env=pure (some [x,y,z]))
 (hs:swapsWithSole [.Tuple [.Name x px,.Name y py,.Name z pz] kt pt] (.Tuple [a,b,c] k2 pt2) pos.line X.env=pure false:=by rfl) :
  PS X (.Assign [.Tuple [.Name x px,.Name y py,.Name z pz] kt pt] (.Tuple [a,b,c] k2 pt2) pos) (Qz i j l ta):=by
 intro pins s σ H D I h;rw[exec_Assign_arm];refine Uu (Xh ?_);rw[hs];refine Uu (Uw ?_);rw[if_neg (by decide)];refine Uu (Tuple_ (bW (ha _ pins s σ H _ I h) λus s1 ⟨vs,H1,I1,r1,q1⟩=>?_));obtain⟨v,w,t,e1,q1⟩:=q1;subst e1
 obtain⟨u1,u2,u3,rfl,rv,rw',rt⟩:∃u1 u2 u3,us=[u1,u2,u3]/\RelV v u1/\RelV w u2/\RelV t u3:=by
  cases r1 with
  |cons p q=>
   cases q with
   |cons p' q'=>
    cases q' with
    |cons p2 q2=>cases q2;exact⟨_,_,_,rfl,p,p',p2⟩
 refine Vd ?_ (by show 3<=sizeLine;decide);have I2:Inv X pins σ H1 {s1 with heap:=s1.heap.push {cls:=.type "tuple",data:=.seq [u1,u2,u3].toArray}}:=I1.kept (t':=s1.toks) λb o e=>Uv _ e;rw[hw];refine Uu (Uw ?_);show wpAny (model X.prog X.w) X.A (do rule "assign.swapped-stores";let items <- unpackItems (.ref s1.heap.objs.size) 3 none;assignInOrder [λv=>bindName X.env z v,λv=>bindName X.env y v,λv=>bindName X.env x v] items.reverse;pure Flow.next) _ _ _;refine Uu (Wl (Uu (unpackItems_tuple (items:=#[u1,u2,u3]) (I.ok.hd hc) (IsTup.new s1.heap _) λh' hx'=>?_)));have I3:=I2.kept (h':=h') (t':=s1.toks) λb o e=>hx' b o (UN (Uz e)) e;show wpAny _ _ (assignInOrder [λv=>bindName X.env z v,λv=>bindName X.env y v,λv=>bindName X.env x v] [u3,u2,u1] >>= λ_=>pure Flow.next) _ _ _;refine Uu (Xg (wpAny_bindName (jR I3 hN hl (.inl hz) rt (λs2 I4=>?_) (.inr hz))));refine Xg (wpAny_bindName (jR I4 hN hj (.inl hy) rw' (λs3 I5=>?_) (.inr hy)));refine Xg (wpAny_bindName (jR I5 hN hi (.inl hx) rv (λs4 I6=>assignInOrder_nil (Uw ?_)) (.inr hx)));have e:((σ.set l (some t)).set j (some w)).set i (some v)=((σ.set i (some v)).set j (some w)).set l (some t):=by rw[List.set_comm _ _ hjl.symm,List.set_comm _ _ (WZ hil),List.set_comm _ _ (WZ hij)]
 rw[e]at I6;exact⟨_,H1,I6,q1⟩
end
end L2
namespace Ml
open PySem PySem.Spec L2
section
variable {X:Cx} {E:XK} {ma:MA} {pos:Pos} {x:Str}
theorem QA{y z:Str}{px py pz pt:Pos}{kt k2 pt2}(i j l:Nat)(hN:X.N.Nodup)(ha:DA X E ma [a,b,c])(hc:X.calm=true:=by rfl)(hi:X.N[i]?=some x:=by rfl)(hj:X.N[j]?=some y:=by rfl)(hl:X.N[l]?=some z:=by rfl)(hij:i≠j:=by decide)(hil:i≠l:=by decide)(hjl:j≠l:=by decide)
 (hx:X.env.scope.names.lookup x=some .local:=by rfl)(hy:X.env.scope.names.lookup y=some .local:=by rfl)(hz:X.env.scope.names.lookup z=some .local:=by rfl)
 (hw:swappedStores [.Tuple [.Name x px,.Name y py,.Name z pz] kt pt] (.Tuple [a,b,c] k2 pt2) X.env=pure (some [x,y,z]):=by kernel_rfl)
 (hs:swapsWithSole [.Tuple [.Name x px,.Name y py,.Name z pz] kt pt] (.Tuple [a,b,c] k2 pt2) pos.line X.env=pure false:=by rfl) :
  DS X E (Hl [i,j,l] ma) (.Assign [.Tuple [.Name x px,.Name y py,.Name z pz] kt pt] (.Tuple [a,b,c] k2 pt2) pos):=by
 rw[j3]at ha;rw[mn]
 exact PS.imp (KU hc hN hi hj hl hij hil hjl hx hy hz ha hw hs) (by rintro C σ H ⟨θ,h,ρ,w,fr,p⟩;exact⟨θ,h,ρ,w,fr,(aI.bind p).mono (by
   rintro ds θ1 h1 H1 _ _ ⟨ev,w1,p1⟩ vs r
   cases r with
   |nil=>trivial
   |cons r1 rr=>
    cases rr with
    |nil=>trivial
    |cons r2 rr=>
     cases rr with
     |nil=>exact p1.elim
     |cons r3 rr=>
      cases rr with
      |nil=>exact⟨_,_,_,rfl,p1 θ1 H1 Ev.refl w1 _ ((((fr.ev ev).set r1).set r2).set r3)⟩
      |cons=>exact p1.elim)⟩)
end
end Ml
namespace L2
open PySem PySem.Spec PyProof.Rows
noncomputable def KW(K:Ym)(mg:Yi)(a:Addr)(fs:List (Str×Str)):Prop:=
 ∃(o:Obj) (es:Yq) (ep:Nat),K.lookup a=some o/\o.ExactDict/\o.data=.dict es ep/\(es.all λe=>isExactStrKey e.key)=true /\
  ∀k n,fs.lookup k=some n->∃f,mg n=some (.ref f)/\findBy (λk v=>v.isStr k) es k=some (.ref f)
theorem KY(ho:s.heap.get? a=some o)(x:o.ExactDict)(hd:o.data=.dict es ep)
 (hall:(es.all λe=>isExactStrKey e.key)=true)(hf:findBy (λk v=>v.isStr k) es k=some v)(q:Q v {s with toks:=s.toks+1}):wpAny (model prog w) A (getItem (.ref a) (.str k tk)) Q E s:=by
 have ty:s.TypeIs (.ref a) "dict" := ⟨o,ho,x.1⟩;unfold getItem
 try with_reducible refine Va ?_
 refine Uu (wpAny_sequenceKey ty (by decide) ?_)
 refine Uu (U9 (name:=Str.ofString "__getitem__") ty slot_dict_getitem
  (U6 slot_dict_getitem ty entry_dict_getitem ?_ (args_dict_getitem _ _)))
 show wpAny _ _ (dictGet a (.str k tk) >>= _) _ _ s;refine Uu ?_;unfold dictGet
 try with_reducible refine Va ?_
 refine Uu (wpAny_pyHash_str (Uu (PyProof.Rows.KTD.kt_dictFind_strs (s:={s with toks:=s.toks+1}) ho hd hall ?_)));rw[findBy_of_findIdx?]at hf
 cases hi:es.findIdx? λe=>e.key.isStr k with
 |none=>rw[hi]at hf;cases hf
 |some i=>rw[hi]at hf;refine Uu (wpAny_dictEntries (s:={s with toks:=s.toks+1}) ho hd (Uw ?_));have hf':Option.map (λx:DictEntry=>x.val) es[i]?=some v:=hf;rw[hf'];exact Uw ⟨v,rfl,Uw q⟩
section
variable {X:Cx} {o i:Expr} {pos:Pos} {td ty:TE}
noncomputable def QB(fs:List (Str×Str))(a:Addr)(mg:Yi)(td ty:TE):TE:=λσ H Q=>td σ H λx H1=>ty σ H1 λy H2=>∃k n,x=.ref a/\y=.str k/\fs.lookup k=some n/\∀f,mg n=some (.ref f)->Q (.ref f) H2
theorem Oy(kf:KW X.K X.mg a fs)(ho:PE X o td)(hi:PE X i ty)(hs:Nu i):PE X (.Subscript o i pos) (QB fs a X.mg td ty):=by intro pins s σ H Q I h;refine Kb PySem.F.slot_dict_getitem.lookup hs (bW (ho pins s σ H _ I h) λu s1 ⟨x,H1,I1,rx,q1⟩=>bW (hi pins s1 σ H1 _ I1 q1) λiv s2 ⟨y,H2,I2,ry,k,n,ex,ey,lk,q2⟩=>?_);subst ex;subst ey;obtain rfl:u=Value.ref a:=rx;obtain⟨tk,rfl⟩:∃t,iv=Value.str k t:=ry;obtain⟨ob,es,ep,h1,h2,h3,h4,h5⟩:=kf;obtain⟨f,hf,hk⟩:=h5 k n lk;have g  := I2.qb a ob h1;exact⟨⟨ob,g,h2.1⟩,KY g h2 h3 h4 hk ⟨.ref f,H2,I2.tok _,rfl,q2 f hf⟩⟩
end
noncomputable def Mn(K:Ym)(es:Yq)(p:Str×Str):Bool:=match findBy (λk v=>v.isStr k) es p.1,PySem.W.nsIn K mainGlobals p.2 with
 |some (.ref f),some (some (.ref g))=>f==g
 |_,_=>false
noncomputable def Sr(K:Ym)(a:Addr)(fs:List (Str×Str)):Bool:=match K.lookup a with
 |some ⟨.type "dict",none,.dict es _,sl⟩=>sl.isEmpty&&(es.all λe=>isExactStrKey e.key)&&fs.all (Mn K es)
 |_=>false
theorem lookup_mem{fs:List (Str×Str)}(h:fs.lookup k=some n):(k,n)∈fs:=by
 induction fs with
 |nil=>cases h
 |cons p ps ih=>
  obtain⟨x,y⟩:=p;rw[VW]at h
  cases q:k==x with
  |true=>rw[q]at h;cases h;rw[eq_of_beq q];exact UL ..
  |false=>rw[q]at h;exact UD _ (ih h)
theorem Oz{K:Ym}(G:∀n v,PySem.W.nsIn K mainGlobals n=some (some v)->mg n=some v)(h:Sr K a fs=true):KW K mg a fs:=by
 unfold Sr at h;split at h
 ·rename_i es ep sl e;simp only[Ux]at h;obtain⟨⟨h1,h2⟩,h3⟩:=h;refine⟨_,es,ep,e,⟨rfl,rfl,?_⟩,rfl,h2,λk n hl=>?_⟩
  ·grind
  ·have:=UM.mp h3 _ (lookup_mem hl);unfold Mn at this;split at this
   ·grind
   grind
 grind
end L2
namespace Ml
open PySem PySem.Spec L2
noncomputable def ye(fs:List (Str×Str))(m:ME):ME:=λρ h=>(m ρ h).bind λx h1=>match x with
 |.dat (.str k)=>match fs.lookup k with
  |some n=>.ok (.fn n) h1
  |Option.none=>.bad
 |_=>.bad
section
variable {X:Cx} {E:XK} {m:ME} {e:Expr} {x:Str} {pos p:Pos}
theorem KZ(hm:∃a,X.mg x=some (.ref a)/\KW X.K X.mg a fs)(he:DE X E m e)(hs:Nu e)(hg:Gl X x:=by rfl)(hd:(x==("__debug__" : Str))=false:=by decide):DE X E (ye fs m) (.Subscript (.Name x p) e pos):=by
 simp only[bA]at *;obtain⟨a,hm,kf⟩:=hm
 exact PE.imp (Oy kf (uk (v:=.ref a) hg hm rfl hd) he hs) (by
  rintro σ H Q ⟨θ,h,ρ,w,fr,q⟩;refine⟨θ,h,ρ,w,fr,(aI.bind q).mono λd θ1 h1 H1 _ _ ⟨ev,w1,q1⟩ v r=>?_⟩
  cases d with
  |dat z=>
   cases z with
   |str k=>
    cases el:fs.lookup k with
    |none=>simp only[el]at q1;exact q1.elim
    |some n=>simp only[el]at q1;exact⟨k,n,rfl,r.1,el,λf hf=>q1 θ1 H1 Ev.refl w1 _ ⟨f,hf,rfl⟩⟩
   |_=>trivial
  |_=>exact q1.elim)
end
noncomputable def mK(i:Nat)(fs:List (Str×Fn))(ma:MA):ME:=λρ h=>match ρ[i]? with
 |some (some (.fn n))=>match fs.lookup n with
  |some F=>ag F ma ρ h
  |Option.none=>.bad
 |_=>.bad
inductive pO (P:Yt) (w:World) (K:Ym) (mg:Yi) (base:Heap) (k:Nat):List (Str×Fn)->Prop
 |nil:pO P w K mg base k []
 |cons {n:Str} {ps:Yn} {F:Fn} {fs:List (Str×Fn)}:aZ P w K mg base n ps k F->pO P w K mg base k fs->pO P w K mg base k ((n,F)::fs)
theorem pO.get:∀{fs:List (Str×Fn)} {n:Str} {F:Fn},pO P w K mg base k fs->fs.lookup n=some F->∃ps,aZ P w K mg base n ps k F
 |_,n,F,.cons (n:=m) h t,e=>by
  rw[VW]at e
  cases q:n==m with
  |true=>
   rw[q]at e
   grind
  |false=>rw[q]at e;exact t.get e
section
variable {X:Cx} {E:XK} {x:Str} {k i:Nat} {fs:List (Str×Fn)} {e:Expr} {es:Yo} {ma:MA} {p pos:Pos}
theorem Il(hs:pO X.prog X.w X.K X.mg X.base k fs)(hx:Passes (ja X.prog X.w) X E)(hr:bJ k X.A)(ha:DA X E ma (e::es))(hN:X.N[i]?=some x)(hv:Gq X.env.scope x)(hdb:(x==("__debug__" : Str))=false:=by decide)(hcd:(x==("__classdict__" : Str))=false:=by decide)
 (he:starEach (e::es) X.env=(false,eval e X.env)::starEach es X.env:=by rfl)(hpl:(backTo pos (starEach es X.env)).any (·.1)=false:=by rfl):DE X E (mK i fs ma) (.Call (.Name x p) (e::es) [] pos):=by
 simp only[bA,j3]at *;rintro pins s σ H Q I ⟨θ,h,ρ,w,fr,q⟩;unfold mK at q
 cases e1:ρ[i]? with
 |none=>rw[e1]at q;exact q.elim
 |some o=>
  cases o with
  |none=>rw[e1]at q;exact q.elim
  |some d=>
   rw[e1]at q;obtain⟨v,g1,g2⟩:=fr.2 i d e1
   cases d with
   |fn n=>
    cases el:fs.lookup n with
    |none=>simp only[el]at q;exact q.elim
    |some F=>
     simp only[el]at q;obtain⟨f,hf,rfl⟩:=g2;obtain⟨ps,F'⟩:=hs.get el;obtain⟨f',fd,h1,h2,h3,h4⟩:=F'.has.ex;have ef:f'=f:=by have z:X.mg n=some (.ref f):=hf;rw[h1]at z;cases z;rfl
     subst ef;obtain⟨m,hn,hl⟩:=I.loc;obtain⟨u,r,l⟩:=hl i x _ hN g1 hv;obtain rfl:u=Value.ref f':=r;have fin:wpAny (model X.prog X.w) X.A (callWith pos (.ref f') [] (backTo pos (starEach (e::es) X.env)) (backToKw pos (keywordEach [] X.env))) (EP X pins σ Q) X.xe s:=Xk (h₀:=X.base) I.ok.mod.kin h2 (bW (ha pos pins s σ H _ I ⟨θ,h,ρ,w,fr,(aI.bind q).mono (by rintro xs θ1 h1 H1 _ _ ⟨ev,w1,p1⟩ vs r;exact show(JE X.G F) (vs++[]) H1 Q E from⟨θ1,h1,xs,w1,by simpa using r,p1⟩)⟩) (by rintro us s1 ⟨vs,H1,I1,r,q⟩;exact⟨I1.qb,B1 h4 hr h3 .nil hx I1 r q⟩)) he hpl;rcases l with⟨hk,hm⟩|⟨hk,c,hc,hcell⟩
     ·exact Vg (X6 (wpAny_loadName_local I.ok.kind hk hn hm fin) hdb)
     ·rcases hk with hk|hk
      ·exact Vg (X6 (wpAny_loadName_cell I.ok.kind hk hc hcell fin) hdb)
      ·exact Vg (X6 (wpAny_loadName_free I.ok.kind hk hc hcell fin hcd) hdb)
   |_=>exact q.elim
theorem OA(i:Nat)(hs:pO X.prog X.w X.K X.mg X.base k fs)(hx:Passes (ja X.prog X.w) X E)(hr:bJ k X.A)(ha:DA X E ma (e::es))(hN:X.N[i]?=some x:=by rfl)(hv:Gq X.env.scope x:=by first|exact Or.inl rfl|exact Or.inr (Or.inl rfl)|exact Or.inr (Or.inr rfl))(hdb:(x==("__debug__" : Str))=false:=by decide)(hcd:(x==("__classdict__" : Str))=false:=by decide)
 (he:starEach (e::es) X.env=(false,eval e X.env)::starEach es X.env:=by rfl)(hpl:(backTo pos (starEach es X.env)).any (·.1)=false:=by rfl):DE X E (mK i fs ma) (.Call (.Name x p) (e::es) [] pos):=Il hs hx hr ha hN hv hdb hcd he hpl
end
end Ml
namespace L2
open PySem PySem.Spec PyProof.Rows
theorem A7(I:Nat->Yw->Prop)
 (turn:∀n s,I n s->wpAny (model prog w) A (pyNext it) (λr s1=>match r with
   |none=>R (.ok .next) s1
   |some v=>wpAny (model prog w) A (letOwnedTupleGo target it v) (λ_ s2=>wpAny (model prog w) A (assign target env v) (λ_ s3=>
     wpAny (model prog w) A (forIn ifs true λc r=>if r=true then do let ok <- isTrue c env (eval c env);pure (ForInStep.yield ok)else pure (ForInStep.yield r)) (λok s4=>
      if ok=true then wpAny (model prog w) A (eval kx env) (λx s5=>wpAny (model prog w) A (eval vx env) (λy s6=>
       wpAny (model prog w) A (dictSet D x y) (λ_ s7=>∃m,m<n/\I m s7) (λ_ _=>False) s6) (λ_ _=>False) s5) (λ_ _=>False) s4
      else ∃m,m<n/\I m s4) (λ_ _=>False) s3) (λ_ _=>False) s2) (λ_ _=>False) s1) (λ_ _=>False) s)
 (n:Nat)(h:I n s) :
  codeAny (model prog w) A (.compLoop (.DictComp kx vx [⟨target,iter,ifs,0⟩] scope pos) 0 it (.ref D) env) R s:=by
 refine codeAny_loop rfl I (λn s hI=>?_) n h;show wpAny _ A ((compTurn (.DictComp kx vx [⟨target,iter,ifs,0⟩] scope pos) 0 it (.ref D) env).onRaise (λx=>do noteFrame x env;theTreesLotGoes x)) _ _ s;refine wpAny_noted ?_;rw[compTurn_dict];refine VA (E:=λ_ _=>False) (E':=_) (Q':=_) ?_ (λ_ _ q=>q) λ_ _ z=>z.elim;refine Uu (Xh (Uu (bW (turn n s hI) (λr s1 h1=>?_))))
 cases r with
 |none=>exact Uw h1
 |some v=>
  refine Uu (bW h1 λ_ s2 h2=>?_);refine Uu (bW h2 λ_ s3 h3=>Uu (bW h3 λok s4 h4=>?_))
  cases ok with
  |false=>exact Uw ⟨rfl,h4⟩
  |true=>exact Uu (Uu (bW h4 λx s5 h5=>Uu (Va (bW h5 λy s6 h6=>Uu (Xh (Va (bW h6 λ_ s7 h7=>Uw ⟨rfl,h7⟩)))))))
noncomputable def QC{τ:Type}(P:Yt)(w:World)(A:Yv)(ok:τ->Obj->Prop)(t:τ)(y z:V)(H:Hp)(N:τ->Hp->Prop):Prop:=
 ∀(Y:Cx) (pins:Yf) (σ:St) (s:Yw) (D:Addr) (o:Obj) (u r:Value) (Q:Unit->Yw->Prop) (E:Ye),Y.prog=P->Y.w=w->Inv Y pins σ H s->s.heap.get? D=some o->ok t o->RelV y u->RelV z r ->
  (∀(h':Heap) (o':Obj) (tk:Nat) (t':τ),N t' H->h'.get? D=some o'->ok t' o'->Heap.SameBut D s.heap h'->Q () {s with heap:=h',toks:=tk})->wpAny (model P w) A (dictSet D u r) Q E s
noncomputable def Cz{τ:Type}(P:Yt)(w:World)(A:Yv)(ok:τ->Obj->Prop)(t0:τ)(n:Nat)(J:It)(g:TG)(tc:TT)(tk tv:TE)(σ:St)(H:Hp)(Q:VK):Prop:=
 ∃W:Nat->Nat->τ->Hp->Prop,(∃m,W 0 m t0 H)/\∀i m t H,W i m t H ->
  (J.stop i H/\∀p o,H p=none->ok t o->∃ho,(∀H' h,h.get? p=some o->p≠sysModules->bM P w H' h p ho)/\Q (.ref p) (upd H p ho)) \/
  (J.go i H/\∃N:τ->Hp->Prop,(∀t' H',N t' H'->∃m',m'<m/\W (i+1) m' t' H')/\∀x H',J.yld i H x H'->g x (List.replicate n none++σ) H' λσ2 H2=>tc σ2 H2 λb H3=>
   if b=true then tk σ2 H3 λy H4=>tv σ2 H4 λz H5=>QC P w A ok t y z H5 N else N t H3)
theorem A8{own:Yn}{scope:Scope}{pins:Yf}{σ:St}{H2:Hp}{s2:Yw}{fp:Yk}{it:Addr}{tn:Nat->Heap->Prop}{J:It}{kx vx tg iter:Expr}{ifs:Yo}{pos:Pos}{g:TG}{tc:TT}{tk tv:TE}{Q:VK}
 {RR:Value->Addr->Result->Yw->Prop}{E:Ye}(I:Inv X pins σ H2 s2)(CS:cY X.env.scope X.N own scope)(hc:X.calm=true)(T:Turn X.prog X.w X.K tg J fp it tn)(st:tn 0 s2.heap)(hf:∀b∈fp,lN X pins H2 b)
 (hg:∀C s2 H2 fp pins,PG (aN X own scope C s2 H2 fp pins) tg g)(ht:∀C s2 H2 fp pins,J1 (aN X own scope C s2 H2 fp pins) ifs tc)(hk:∀C s2 H2 fp pins,PE (aN X own scope C s2 H2 fp pins) kx tk)(hv:∀C s2 H2 fp pins,PE (aN X own scope C s2 H2 fp pins) vx tv)
 (ok0:ok t0 {cls:=.type "dict",dict:=none,data:=.dict #[]})(okd:∀t o,ok t o->∃es ep,o.data=.dict es ep)
 (hW:Cz X.prog X.w X.A ok t0 own.length J g tc tk tv σ H2 Q)
 (hR:∀D C H' s',Inv X pins σ H' s'->lN X pins H' C->(∃m,s'.heap.Ns C m)->Q (.ref D) H'->Kept X fp H2 H' s2 s'->RR (.ref D) C (.ok .next) s') :
  wpAny (model X.prog X.w) X.A newDict (λacc s3=>wpAny (model X.prog X.w) X.A (newFunctionEnv scope X.env.globals (cI X.env.cells scope.names []) [] X.env.qual none .none (some X.env)) (λcenv s4=>
   codeAny (model X.prog X.w) X.A (.compStart (.DictComp kx vx [⟨tg,iter,ifs,0⟩] scope pos) 0 (.ref it) acc {cenv with scope:=relabel scope X.env}) (RR acc cenv.locals) s4) E s3) E s2:=by
 refine Vd (oO ?_);dsimp only;generalize hH:s2.heap.push {cls:=.type "dict",dict:=none,data:=.dict #[]}=h3;have hDC:h3.objs.size=s2.heap.objs.size+1:=by rw[<- hH,Vi]
 have eC:({scope:=relabel scope X.env,locals:=h3.objs.size,globals:=X.env.globals,cells:=cellsFrom (h3.objs.size+1) scope.names (cI X.env.cells scope.names []),qual:=X.env.qual,func:=none,code:=X.env.code,frame:=X.env.frame,builtins:=X.env.builtins}:Env)=ph scope h3.objs.size X.env:=rfl;rw[eC];generalize eD:s2.heap.objs.size=D at *;generalize eCC:h3.objs.size=C at *;have hl:∀b∈fp,b<s2.heap.objs.size:=λb hb=>by obtain⟨o,e,_⟩:=T.obj 0 _ st b hb;exact Uz e
 have hC:s2.heap.objs.size<=C:=by omega
 generalize hH4:pushCells (h3.push {cls:=.type "dict",data:=.dict #[]}) scope.names=h4;have k34:∀b o,(h3.push {cls:=.type "dict",data:=.dict #[]}).get? b=some o->h4.get? b=some o:=λb o e=>by rw[<- hH4];exact pushCells_keeps _ _ b o e
 have k24:∀b o,s2.heap.get? b=some o->h4.get? b=some o:=λb o e=>k34 b o (Uv _ (by rw[<- hH];exact Uv _ e));have nsC:h4.Ns C λ_=>none:=by have:=Heap.Ns.new h3 (.type "dict");rw[eCC]at this;exact this.keeps k34
 have accD:h4.get? D=some {cls:=.type "dict",dict:=none,data:=.dict #[]}:=k34 _ _ (Uv _ (by rw[<- hH,<- eD];exact UA _ rfl));have cellN:∀x c,(x,c)∈cellsFrom (C+1) scope.names []->h4.IsCell c none/\C+1<=c:=λx c hm=>by have ok:=cellsFrom_ok scope.names (h3.push {cls:=.type "dict",data:=.dict #[]}) (C+1) [] ⟨λ_ _ hm=>(nomatch hm),List.Pairwise.nil⟩ (by rw[Vi];omega);rw[Vi,eCC,hH4]at ok;exact ok.empty x c hm
 have hne:H2 D=none:=by rw[<- eD];exact I.hok.fresh (Uy _)
 have ok':(aN X own scope C s2 H2 fp pins).Ok:=Dw I CS hC hf hl
 have rebase:∀{σ':St} {H':Hp} {ps:Yf} {s':Yw},Inv (aN X own scope C s2 H2 fp pins) ps σ' H' s'->Inv (aN X own scope C s2 H2 fp pins) ps (List.replicate own.length none++σ) H' s':=λ{σ' H' ps s'} J'=>by
  obtain⟨m,hn,_⟩:=J'.loc;refine⟨J'.ok,J'.os,J'.bare,J'.base,⟨m,hn,qj I CS λc v z ⟨x,hx⟩=>?_⟩,J'.cell,J'.free,J'.freeC,J'.pin,J'.hok,?_⟩
  ·obtain⟨o,ho,hd⟩:=z;obtain⟨sl,e⟩:=J'.base.any ho (I.freeC x c hx) λhb=>(hf c hb).2.2.2.2.1 x c hx rfl;exact⟨_,e,hd⟩
  ·show(List.replicate own.length none++σ).length=(own++X.N).length;rw[UP,UP,VO,I.len]
 have start:Inv (aN X own scope C s2 H2 fp pins) [] (List.replicate own.length none++σ) H2 {s2 with heap:=h4}:=by
  have I4:Inv X pins σ H2 {s2 with heap:=h4}:=I.kept (t':=s2.toks) k24;refine⟨ok',rfl,I.bare,Un.kept k24,⟨_,nsC,qj I CS λc v z _=>z.keeps k24⟩,λx c h=>?_,I.hok.fresh hC,λx c h=>?_,λp hp=>?_,I4.hok,?_⟩
  ·rcases cA h with⟨a,_,_⟩|a
   ·exact⟨_,(cellN x c a).1⟩
   ·obtain⟨v,z⟩:=I.cell x c (gI I CS a).2;exact⟨v,z.keeps k24⟩
  ·rcases cA h with⟨_,_,a⟩|a
   ·exact I.hok.fresh (UI hC (UI (VU _) a))
   ·exact I.freeC x c (gI I CS a).2
  ·have hp':p∈X.pn++pins:=by
    rcases UQ.mp hp with z|z
    ·exact z
    ·exact nomatch z
   obtain⟨e,n,ne,nf,d⟩:=I.pin p hp';refine⟨k24 _ _ e,n,UN (UE (Uz e) hC),λz=>?_,d⟩;rcases UC.mp (I.jy _ z)with q|q
   ·exact ne q
   ·exact nf q
  ·show(List.replicate own.length none++σ).length=(own++X.N).length;rw[UP,UP,VO,I.len]
 obtain⟨W,⟨m0,w0⟩,turn⟩:=hW
 have nfs:∀b,s2.heap.objs.size<=b->b∉(aN X own scope C s2 H2 fp pins).fs:=λb hb z=>by
  rcases UC.mp (I.jy b z)with q|q
  ·rw[q]at hb;exact absurd (UE I.lt hb) (UT _)
  ·exact I.Gu hb q
 have fpD:∀{H':Hp},H' D=none->lN (aN X own scope C s2 H2 fp pins) [] H' D:=λ{H'} hn=>by
  refine⟨hn,UN (by show D<C;omega),nfs D (by omega),.inr (by show s2.heap.objs.size<=D;omega),λx c h z=>?_,λp hp z=>?_⟩
  ·rcases cA h with⟨_,_,a⟩|a
   ·rw[z]at a;exact absurd (UE (show D<C+1 by omega) a) (UT _)
   ·obtain⟨v,q⟩:=I.cell x c (gI I CS a).2;have:=q.lt;rw[z,eD]at this;exact UT _ this
  ·have hp':p∈X.pn++pins:=by
    rcases UQ.mp hp with z|z
    ·exact z
    ·exact nomatch z
   have:=Uz (I.pin p hp').1;rw[z,eD]at this;exact UT _ this
 have nD:D∉fp:=λz=>by have:=hl D z;rw[eD]at this;exact UT _ this
 have stat:∀{H':Hp} {ps:Yf},(∀p∈ps,p.1=D)->(∀b∈fp,H' b=none)->∀b∈fp,lN (aN X own scope C s2 H2 fp pins) ps H' b:=λ{H' ps} hps hn b hb=>by
  obtain⟨f0,f1,f2,f3,f4,f5⟩:=hf b hb;refine⟨hn b hb,(ok'.exf b hb).1,ok'.exfs b hb,.inl hb,(ok'.exf b hb).2,λp hp=>?_⟩;rcases UQ.mp hp with z|z
  ·exact f5 p z
  ·rw[hps p z];exact λq=>nD (q▸hb)
 let LI:Nat->Yw->Prop:=λn s'=>∃i t o H',Inv (aN X own scope C s2 H2 fp pins) [] (List.replicate own.length none++σ) H' s'/\tn i s'.heap/\(∀b∈fp,H' b=none)/\H' D=none /\
  s'.heap.get? D=some o/\ok t o/\W i n t H'
 have l0:LI m0 {s2 with heap:=h4}:=⟨0,t0,_,H2,start,T.keep _ _ _ st λb _ o e=>k24 b o e,λb hb=>(hf b hb).1,hne,accD,ok0,w0⟩
 have loop:codeAny (model X.prog X.w) X.A (.compLoop (.DictComp kx vx [⟨tg,iter,ifs,0⟩] scope pos) 0 (.ref it) (.ref D) (ph scope C X.env)) (RR (.ref D) C) {s2 with heap:=h4}:=by
  refine A7 LI ?_ m0 l0;rintro n s3 ⟨i,t,oD,H3,I3,st3,fr3,d3,a3,v3,w3⟩;obtain⟨es0,ep0,dd3⟩:=okd t oD v3;rcases turn i n t H3 w3 with⟨stop,qn⟩|⟨go,NN,hNN,step⟩
  ·have I3p:=I3.pinned (fp:=[D]) (λb hb=>(U5.mp hb)▸fpD d3) λb hb=>⟨_,(U5.mp hb)▸a3,λv z=>(by rw[dd3]at z;cases z)⟩;refine bW (T.done (aN X own scope C s2 H2 fp pins) rfl rfl rfl hc i _ s3 _ H3 _ I3p (stat (λp hp=>by have q:p∈fE [D] s3.heap:=hp;have:=(jS q).1;simpa using this) fr3) st3 stop) λr s4 ⟨hr,I4⟩=>?_;subst hr;have a4:s4.heap.get? D=_:=(I4.pin (D,_) (UJ _ (UJ _ (cF (by simp) a3)))).1;have u4:Un (lM X.stack) fp H2 H3 s2.heap s4.heap:=I4.base;have hsys:D≠sysModules:=by rw[<- eD];exact WZ (UN I.big)
   obtain⟨ho,Ri,qD⟩:=qn D oD d3 v3
   have okD:lz X.prog X.w (upd H3 D ho) s4.heap:=λb o e=>by
    by_cases hb:b=D
    ·subst hb;rw[aJ]at e;cases e;exact Ri _ _ a4 hsys
    ·rw[ak hb]at e;exact(I4.hok b o e).oz (λ_ _ _ q=>q) (λc q=>by rw[ak (ay q d3)];exact q) λc xs q=>by rw[ak (ay q d3)];exact q
   have nDo:∀b o,s2.heap.get? b=some o->b≠D:=λb o e=>by rw[<- eD];exact UN (Uz e)
   have uD:Un (lM X.stack) fp H2 (upd H3 D ho) s2.heap s4.heap:=⟨u4.keep,u4.slot,λb o e n hx=>by rw[ak (nDo b o e)];exact u4.free b o e n hx,u4.there,
    λb xs e=>by rw[ak (ay e hne)];exact u4.tups b xs e,λb o xs e=>by rw[ak (ay e hne)];exact u4.frzs b o xs e,λb ps e=>by rw[ak (ay e hne)];exact u4.tbls b ps e⟩
   have kp:Kept X fp H2 (upd H3 D ho) s2 s4:=⟨I4.os,uD,okD,I4.bare⟩;have I5:Inv X pins σ (upd H3 D ho) s4:=kp.inv I hf;obtain⟨m,hn,_⟩:=I4.loc;refine hR D C _ s4 I5 ⟨by rw[ak (show C≠D by omega)];exact I4.free,WN (UE I.lt hC),I.Gu hC,.inr (UI I.sz hC),λx c e z=>?_,λp hp z=>?_⟩ ⟨m,hn⟩ qD kp
   ·obtain⟨v,q⟩:=I.cell x c e;exact absurd (UE q.lt (by rw[z];exact hC)) (UT _)
   ·exact absurd (UE (Uz (I.pin p hp).1) (by rw[z];exact hC)) (UT _)
  ·have I3p:=I3.pinned (fp:=[D]) (λb hb=>(U5.mp hb)▸fpD d3) λb hb=>⟨_,(U5.mp hb)▸a3,λv z=>(by rw[dd3]at z;cases z)⟩;have onlyD:∀p∈([]++fE [D] s3.heap),p.1=D:=λp hp=>by have q:p∈fE [D] s3.heap:=hp;have:=(jS q).1;simpa using this
   refine bW (T.item (aN X own scope C s2 H2 fp pins) rfl rfl rfl hc i _ s3 _ H3 _ I3p (stat onlyD fr3) st3 go) λr s4 ⟨u,hr,h4'⟩=>?_;subst hr;refine bW h4' λ_ s5 ⟨x,H5,I5,r5,y5,st5,fr5⟩=>?_;have I5p:=I5.pinned (fp:=fp) (stat onlyD fr5) (T.obj _ _ st5)
   have cont:∀{s6:Yw} {σ6:St} {H6:Hp},Inv (aN X own scope C s2 H2 fp pins) (([]++fE [D] s3.heap)++fE fp s5.heap) σ6 H6 s6 ->
     Inv (aN X own scope C s2 H2 fp pins) [] (List.replicate own.length none++σ) H6 s6/\tn (i+1) s6.heap/\(∀b∈fp,H6 b=none)/\H6 D=none/\s6.heap.get? D=some oD:=λ{s6 σ6 H6} I6=>by
    have pD:=I6.pin (D,_) (UJ _ (VF _ (UJ _ (cF (by simp) a3))));refine⟨rebase (I6.qc λp hp=>nomatch hp),T.keep _ _ _ st5 λb hb o e=>(I6.pin (b,o) (UJ _ (UJ _ (cF hb e)))).1,λb hb=>?_,pD.2.1,pD.1⟩;obtain⟨o,e,_⟩:=T.obj _ _ st5 b hb;exact(I6.pin (b,o) (UJ _ (UJ _ (cF hb e)))).2.1
   refine bW (hg C s2 H2 fp pins _ s5 _ H5 x u _ I5p r5 (step x H5 y5)) λ_ s6 ⟨σ6,H6,I6,q6⟩=>?_;refine bW (ht C s2 H2 fp pins _ s6 σ6 H6 _ I6 q6) λb s7 ⟨H7,I7,q7⟩=>?_
   cases b with
   |false=>have q7':NN t H7:=q7;obtain⟨m',hm,w7⟩:=hNN _ _ q7';obtain⟨c1,c2,c3,c4,c5⟩:=cont I7;exact⟨m',hm,i+1,t,oD,H7,c1,c2,c3,c4,c5,v3,w7⟩
   |true=>refine bW (hk C s2 H2 fp pins _ s7 σ6 H7 _ I7 q7) λkv s8 ⟨y,H8,I8,r8,q8⟩=>?_;refine bW (hv C s2 H2 fp pins _ s8 σ6 H8 _ I8 q8) λvv s9 ⟨z,H9,I9,r9,q9⟩=>?_;obtain⟨c1,c2,c3,c4,c5⟩:=cont I9;refine q9 (aN X own scope C s2 H2 fp pins) _ _ s9 D oD kv vv _ _ rfl rfl I9 c5 v3 r8 r9 λh' o' tk t' n' g' ok' sb=>?_;obtain⟨m',hm,w9⟩:=hNN _ _ n';obtain⟨f0,f1,f2,f3,f4,f5⟩:=fpD c4;exact⟨m',hm,i+1,t',o',H9,c1.turned (t':=tk) (λb o hb e=>(sb.2 b hb).trans e) f0 f1 f3 f4 f5,T.keep _ _ _ c2 λb hb o e=>(sb.2 b λz=>nD (z▸hb)).trans e,c3,c4,g',ok',w9⟩
 exact codeAny_compStart_dict loop (T.self X.A 0 {s2 with heap:=h4} _ _ (T.keep _ _ _ st λb _ o e=>k24 b o e) loop)
section
variable {X:Cx} {own:Yn} {scope:Scope} {kx vx tg iter:Expr} {τ:Type} {ok:τ->Obj->Prop} {t0:τ} {ifs:Yo} {pos:Pos} {wi:TI} {g:TG} {tc:TT} {tk tv:TE}
noncomputable def Im{τ:Type}(P:Yt)(w:World)(A:Yv)(ok:τ->Obj->Prop)(t0:τ)(n:Nat)(wi:TI)(g:TG)(tc:TT)(tk tv:TE):TE:=λσ H Q=>wi σ H λJ H1=>Cz P w A ok t0 n J g tc tk tv σ H1 Q
theorem A9(own:Yn)(CS:gH X.env.scope X.N own scope=true)(hc:X.calm=true)(hi:PI X tg iter wi)(hg:∀C s2 H2 fp pins,PG (aN X own scope C s2 H2 fp pins) tg g)
 (ht:∀C s2 H2 fp pins,J1 (aN X own scope C s2 H2 fp pins) ifs tc)(hk:∀C s2 H2 fp pins,PE (aN X own scope C s2 H2 fp pins) kx tk)(hv:∀C s2 H2 fp pins,PE (aN X own scope C s2 H2 fp pins) vx tv)
 (ok0:ok t0 {cls:=.type "dict",dict:=none,data:=.dict #[]})(okd:∀t o,ok t o->∃es ep,o.data=.dict es ep)(hs:∀x,foldedSetIterable iter X.env x=pure x:=by intro _;rfl) :
  PE X (.DictComp kx vx [⟨tg,iter,ifs,0⟩] scope pos) (Im X.prog X.w X.A ok t0 own.length wi g tc tk tv):=by
 intro pins s σ H Q I h;have CS:=cY.of CS;refine Xe rfl hs (gp λn hn=>I.ok.has n (CS.frees n hn)) CS.kind (pj CS) (bW (hi pins s σ H _ I h) λv s1 h1=>bW h1 λitv s2 h2=>?_);obtain⟨it,fp,tn,J,H2,e,I2,T,st2,f2,hW⟩:=h2;subst e;refine A8 I2 CS hc T st2 f2 hg ht hk hv ok0 okd hW λD C H' s' I' fC ⟨m,hn⟩ q _=>?_;refine⟨m,hn,λh' hs'=>⟨.ref D,H',?_,rfl,q⟩⟩;obtain⟨f0,f1,_,f3,f4,f5⟩:=fC;exact I'.turned (λb o hb e=>(hs'.2 b hb).trans e) f0 f1 f3 f4 f5
end
end L2
namespace Ml
open PySem PySem.Spec L2
noncomputable def fK(tb:Bool)(n:Nat)(ρ:Fm)(g:MG)(c:MT)(k v:ME):List D->Yg->Hm->R Yg
 | [],acc,h=>.ok acc h
 |x::xs,acc,h=>(g x (List.replicate n none++ρ) h).Ck.bind λρ1 h1=>(c ρ1 h1).Ck.bind λb h2=>
  if b then(k ρ1 h2).Ck.bind λy h3=>(v ρ1 h3).Ck.bind λz h4=>match y,z with
   |.dat kd,.dat vd=>if keyOk tb kd&&(tb || oU vd)&&decide (acc.length<16777216)then fK tb n ρ g c k v xs (dput acc kd vd) h4 else .bad
   |_,_=>.bad
  else fK tb n ρ g c k v xs acc h2
noncomputable def sj(tb:Bool)(n:Nat)(it:MA)(g:MG)(c:MT)(k v:ME):ME:=λρ h=>(it ρ h).bind λxs h1=>(fK tb n ρ g c k v xs [] h1).bind λkvs h2=>R.ok (D.jX tb kvs) h2
structure K0(G:Gx)(A:Yv){τ:Type}(tb:Bool)(ok:τ->Obj->Prop)(t0:τ)(Rl:Yg->τ->Yk->Hp->Prop):Prop where
 ok0:ok t0 {cls:=.type "dict",dict:=none,data:=.dict #[]}
 okd:∀t o,ok t o->∃es ep,o.data=.dict es ep
 nil:∀θ H,Rl [] t0 θ H
 ev:∀{acc t θ H θ' H'},Ev θ H θ' H'->Rl acc t θ H->Rl acc t θ' H'
 put:∀{acc t θ h H kd vd y z} {N:τ->Hp->Prop},W G θ h H->bT G θ H (.dat kd) y->bT G θ H (.dat vd) z->Rl acc t θ H->keyOk tb kd=true->(tb || oU vd)=true->acc.length<16777216 ->
  (∀t',Rl (dput acc kd vd) t' θ H->N t' H)->QC G.P G.w A ok t y z H N
 fin:∀{acc t θ h H p o},W G θ h H->Rl acc t θ H->H p=none->ok t o->∃ho,(∀H' h,h.get? p=some o->p≠sysModules->bM G.P G.w H' h p ho)/\fH G.P G.w (view θ H) (upd H p ho) p tb acc
noncomputable def Ui(P:Yt)(w:World)(ks:List (Key×V))(o:Obj):Prop:=ks.length<=sizeLine/\(∃es ep,o.data=.dict es ep)/\∃vs,L2.KV ks vs/\∀(h:Heap) (a:Addr),h.get? a=some o->h.DictOf (bK P w) a vs
theorem K4:K0 G A false (Ui G.P G.w) [] λacc ks _ _=>aS ks=some acc/\∀p∈acc,dz p.1=true/\dz p.2=true where
 ok0:=⟨V4 _,⟨_,_,rfl⟩,[],.nil,λh a e=>XZ.mpr ⟨_,e,(XZ.mp (Heap.DictOf.new (knd:=bK G.P G.w) h)).elim (by
  rintro o ⟨e1,r⟩;have e2:(h.push {cls:=.type "dict",data:=.dict #[]}).get? h.objs.size=some {cls:=.type "dict",data:=.dict #[]}:=UA _ rfl
  grind)⟩⟩
 okd:=λt o h=>h.2.1
 nil:=λθ H=>⟨rfl,λp hp=>nomatch hp⟩
 ev:=λ_ h=>h
 put:=λ{acc t θ h H kd vd y z N} w r1 r2 rl hk hf hl hN=>by
  intro Y pins σ s D o u r Q E eP ew I gD ⟨lt,_,vs,kv,dd⟩ ry rz cont;obtain⟨q,rfl⟩:∃q,kd=.str q:=by simp only[keyOk,UK,Vr]at hk;cases kd<;>first|exact⟨_,rfl⟩|simp[gR]at hk
  have fd:oU vd=true:=by simpa using hf
  have hv:=vz fd r2.1;obtain⟨e2,s2⟩:=dQ r1;subst e2
  have so:∀p∈dput acc (.str q) vd,dz p.1=true/\dz p.2=true:=λp hp=>by
   unfold dput at hp;split at hp
   ·obtain⟨p0,hp0,e0⟩:=UU.mp hp;split at e0
    ·subst e0;exact⟨(rl.2 p0 hp0).1,r2.2⟩
    ·subst e0;exact rl.2 p0 hp0
   ·rcases UQ.mp hp with hp|hp
    ·exact rl.2 p hp
    ·simp at hp;subst hp;exact⟨by simpa [dz]using s2,r2.2⟩
  have hz:vs.length<=sizeLine:=by rw[<- kv.length];exact lt
  refine wpAny_dictSet_pairs (knd:=bK G.P G.w) (hsz:=hz) (sW (k:=Sum.inr q) ry) (dd _ _ gD) λh' dd' hs=>?_;obtain⟨o',g',rest⟩:=XZ.mp dd';refine cont h' o' _ (putK t (Sum.inr q) z) (hN _ ⟨pM hv rl.1,so⟩) g' ⟨?_,?_,stored vs (Sum.inr q) r,kv.put (Sum.inr q) rz,λh2 a e2=>XZ.mpr ⟨o',e2,rest⟩⟩ hs
  ·have:=i9 t (Sum.inr q) z;rw[kI rl.1,Wq]at *;omega
  ·obtain⟨o2,es,ep,g1,g2,g3,_⟩:=dd';rw[g']at g1;cases g1;exact⟨es,ep,g3⟩
 fin:=λ{acc t θ h H p o} w rl hp ⟨lt,_,vs,kv,dd⟩=>⟨.dK t,λH' h2 e ne=>yS lt (Wu.mpr ne) kv (dd _ _ e),.inl ⟨rfl,t,aJ,rl.1,rl.2⟩⟩
noncomputable def Uj(P:Yt)(w:World)(xs:List (PyData×Addr×Value))(o:Obj):Prop:=xs.length<=sizeLine/\∃es ep,o.ExactDict/\o.data=.dict es ep/\es.toList=xs.map (entryOfKey (fc P w))/\(xs.map (·.1)).Nodup
theorem OB(hA:A.units+20<cLine):K0 G A true (Uj G.P G.w) [] λacc xs θ H=>Paired (qF (view θ H)) acc xs where
 ok0:=⟨V4 _,_,_,⟨rfl,rfl,rfl⟩,rfl,rfl,List.nodup_nil⟩
 okd:=by rintro t o ⟨_,es,ep,_,h,_⟩;exact⟨es,ep,h⟩
 nil:=λθ H=>.nil
 ev:=λe h=>Paired.wU h λ_ _=>qF.same e.same
 put:=λ{acc t θ h H kd vd y z N} w r1 r2 rl hk hf hl hN=>by
  intro Y pins σ s D o u r Q E eP ew I gD ⟨lt,es,ep,g2,g3,g4,g5⟩ ry rz cont;simp only[keyOk,Vu,Ux,UZ]at hk
  obtain⟨b,vs,rfl,hb⟩:∃b vs,y=.ref b/\view θ H b=some (.tup vs):=by
   cases kd with
   |tuple ds=>obtain⟨b,vs,e,hb,_⟩:=r1.1;exact⟨b,vs,e,hb⟩
   |_=>simp[iG]at hk
  cases ry;have dd:s.heap.DictOfH (fc G.P G.w) D t:=⟨o,es,ep,gD,g2,g3,g4,zm I (aC θ H) rl,g5⟩;have kr:=AS (b:=b) (u:=r) hk.1.2 hk.2 r1.2 r1.1 rz r2.1 r2.2 rl;refine wpAny_dictSet_heap (knd:=fc G.P G.w) (hsz:=lt) hA (Eb I (aC θ H) hk.1.2 hk.2 r1.2 r1.1) dd λh' dd' hs=>?_;obtain⟨o',es',ep',k1,k2,k3,k4,_,k5⟩:=dd';refine cont h' o' _ (storedH t kd b r) (hN _ kr) k1 ⟨?_,es',ep',k2,k3,k4,k5⟩ hs;rw[<- show(dput acc kd vd).length=_ from U2 kr];have:=AU acc kd vd
  grind[PySem.sizeLine_eq]
 fin:=λ{acc t θ h H p o} w rl hp ⟨lt,es,ep,g2,g3,g4,g5⟩=>⟨dO G.P G.w t p,λH' h2 e ne=>Mh lt (Wu.mpr ne) e g2 g3 g4 g5,.inr ⟨rfl,t,aJ,rl⟩⟩
section
variable {X:Cx} {E:XK} {mk mv:ME} {t:MT} {e tg kx vx:Expr} {ifs:Yo} {it:MA} {pos:Pos} {i:Nat} {x:Str} {g:MG} {own:Yn} {scope:Scope} {tb:Bool} {k:Nat}
theorem CB(AR:K0 G A tb ok t0 Rl){F:XP}{n:Nat}{θ1:Yk}{H1:Hp}{h1:Hm}{xs:List D}{J:It}{σ:L2.St}{ρ:Fm}{Q:VK}(hJ:tm G θ1 H1 xs J)(w1:W G θ1 h1 H1)(fr:Fr G θ1 H1 ρ σ)
 (p1:aI G F θ1 H1 ((fK tb n ρ g t mk mv xs [] h1).bind λkvs h2=>R.ok (D.jX tb kvs) h2) (Ml.KV G Q)) :
  Cz G.P G.w A ok t0 n J (lG G oE g) (lT G oE t) (lE G oE mk) (lE G oE mv) σ H1 Q:=by
 refine⟨λi m' a H=>m'=xs.length-i/\i<=xs.length/\∃θ' h' acc,Ev θ1 H1 θ' H/\W G θ' h' H/\Rl acc a θ' H/\aI G F θ' H ((fK tb n ρ g t mk mv (xs.drop i) acc h').bind λkvs h2=>R.ok (D.jX tb kvs) h2) (Ml.KV G Q),
  ⟨xs.length,by simp,V4 _,θ1,h1,[],Ev.refl,w1,AR.nil _ _,p1⟩,?_⟩
 rintro i m' a H ⟨rfl,hi,θ',h',acc,ev,w,ra,p⟩;obtain⟨j1,j2⟩:=hJ θ' h' H ev w;by_cases hlt:i<xs.length
 ·have ed:xs.drop i=xs[i]::xs.drop (i+1):=Vt hlt;rw[ed]at p;obtain⟨g1,g2⟩:=j1 i xs[i] (UH hlt);refine .inr ⟨g1,λa2 H2=>i+1<=xs.length/\∃θ' h' acc,Ev θ1 H1 θ' H2/\W G θ' h' H2/\Rl acc a2 θ' H2/\aI G F θ' H2 ((fK tb n ρ g t mk mv (xs.drop (i+1)) acc h').bind λkvs h2=>R.ok (D.jX tb kvs) h2) (Ml.KV G Q),λys' H' q=>⟨xs.length-(i+1),by omega,rfl,q⟩,λx H2 y=>?_⟩;obtain⟨e2,w2,r2⟩:=g2 x H2 y;have p2:=p.later e2;unfold fK at p2;simp only[R.bind_assoc]at p2;refine⟨θ',h',_,xs[i],w2,((fr.ev ev).ev e2).replicate n,r2,(aI.gu p2).mono λρ3 θ3 h3 H3 _ _ ⟨e3,w3,p3⟩ σ3 fr3=>⟨θ3,h3,ρ3,w3,fr3,(aI.gu p3).mono λc θ4 h4 H4 _ _ ⟨e4,w4,p4⟩=>?_⟩⟩;have ev4:=(ev.trans e2).trans (e3.trans e4);have ra4:=AR.ev (e2.trans (e3.trans e4)) ra
  cases c with
  |false=>exact⟨hlt,θ4,h4,acc,ev4,w4,ra4,p4⟩
  |true=>
   simp only[Vu,R.bind_assoc]at p4;refine⟨θ4,h4,ρ3,w4,fr3.ev e4,(aI.gu p4).mono λy θ5 h5 H5 _ _ ⟨e5,w5,p5⟩ v5 r5=>⟨θ5,h5,ρ3,w5,(fr3.ev e4).ev e5,(aI.gu p5).mono λz θ6 h6 H6 _ _ ⟨e6,w6,p6⟩ v6 r6=>?_⟩⟩;have ra6:=AR.ev (e5.trans e6) ra4;have r5':=bT.ev e6 r5
   cases y with
   |dat kd=>
    cases z with
    |dat vd=>
     simp only at p6;split at p6
     ·rename_i hc;simp only[Ux,UZ]at hc;exact AR.put w6 r5' r6 ra6 hc.1.1 hc.1.2 hc.2 λt' rt=>⟨hlt,θ6,h6,_,ev4.trans (e5.trans e6),w6,rt,p6⟩
     ·exact p6.elim
    |_=>exact p6.elim
   |_=>exact p6.elim
 ·have hx:i=xs.length:=by omega
  subst hx;rw[V6 (Uy _)]at p;simp only[fK,R.aO]at p;refine .inl ⟨j2,λq o hq hok=>?_⟩;obtain⟨ho,h1,h2⟩:=AR.fin w ra hq hok;obtain⟨e3,w3,g3⟩:=w.put (o:=ho) hq;refine⟨ho,h1,p _ _ e3 w3 _ ⟨q,rfl,h2.same e3.same λo' e'=>?_⟩⟩;rw[aJ]at e';rw[g3];exact e'
theorem Ba(AR:K0 G A tb ok t0 Rl){n:Nat}{σ:L2.St}{H:Hp}{Q:VK}(h:lE G E (sj tb n it g t mk mv) σ H Q) :
  Im G.P G.w A ok t0 n (lI G E it) (lG G oE g) (lT G oE t) (lE G oE mk) (lE G oE mv) σ H Q:=by
 obtain⟨θ,h,ρ,w,fr,p⟩:=h;exact⟨θ,h,ρ,w,fr,(aI.bind p).mono (by rintro xs θ1 h1 H1 _ _ ⟨ev,w1,p1⟩ J hJ;exact CB AR hJ w1 (fr.ev ev) p1)⟩
theorem Io(own:Yn)(tb:Bool)(hr:bJ k X.A)(CS:gH X.env.scope X.N own scope=true)(hc:X.calm=true)(hi:DI X E it tg e)(hg:∀C s2 H2 fp pins,DG (aN X own scope C s2 H2 fp pins) oE g tg)
 (ht:∀C s2 H2 fp pins,N9 (aN X own scope C s2 H2 fp pins) oE t ifs)(hk:∀C s2 H2 fp pins,DE (aN X own scope C s2 H2 fp pins) oE mk kx)(hv:∀C s2 H2 fp pins,DE (aN X own scope C s2 H2 fp pins) oE mv vx)(hs:∀x,foldedSetIterable e X.env x=pure x:=by intro _;rfl) :
  DE X E (sj tb own.length it g t mk mv) (.DictComp kx vx [⟨tg,e,ifs,0⟩] scope pos):=by
 simp[bA,qI,mE,va]at *
 cases tb with
 |false=>exact PE.imp (A9 own CS hc hi hg ht hk hv (K4 (A:=X.A)).ok0 (K4 (A:=X.A)).okd hs) λσ H Q q=>Ba K4 q
 |true=>
  have hu:X.A.units+20<cLine:=by have:=hr.units;omega
  exact PE.imp (A9 own CS hc hi hg ht hk hv (OB hu).ok0 (OB hu).okd hs) λσ H Q q=>Ba (OB hu) q
end
end Ml
namespace Ml
open PySem
noncomputable def sk:List (Str×Str):=[("grounded", "idle_for_grounded"),("preferred", "idle_for_standing"),("stable", "idle_for_stable"),("standing", "idle_for_standing"),("whole", "idle_for_whole")]
noncomputable def j8:MS:=bg (jd (ag eB (aa (af 0) aj)))
    (bg (jd (ag gz (aa (af 1) aj)))
    (bg (cR 2 (ye sk (af 1)))
    (bg (pF (gQ (bF (aB 3) (bF (aB 4) gP))) (af 0))
    (bg (cR 5 (sj true 1 (aX (af 4)) (aB 0) dW (af 0) (ah (.bool true))))
    (bg (cR 6 (cD 2 (aX (af 4)) (gQ (bF (aB 0) (bF (aB 1) gP))) (oM (aR (aq oEq (af 0) (af 1))) (dH (bH (mK 4 [("idle_for_grounded",bE),("idle_for_standing",br),("idle_for_stable",bO),("idle_for_whole",bX)] (aa (af 7) (aa (af 0) (aa (af 1) aj))))))) (cJ (aa (af 0) (aa (af 1) aj)))))
    (bN (cJ (aa (af 3) (aa (ag iI (aa (af 6) aj)) aj)))))))))
def bD:Fn:=bj 2 7 j8
noncomputable def vB:MS:=bg (pF (gQ (bF (aB 2) (bF (aB 3) gP))) (ag bD (aa (af 0) (aa (af 1) aj))))
    Ii
def f9:Fn:=bj 2 7 vB
noncomputable def tJ:MS:=bg (cR 2 (aq fb (ag bD (aa (af 0) (aa (af 1) aj))) (ah (.int 1))))
    Ii
def gN:Fn:=bj 2 5 tJ
noncomputable def tK:MS:=bg (lR (aR (aq oLt (af 1) (ag gK (aa (af 0) aj)))) (bN (aq fb (af 0) (af 1))) cC)
    (bN (ah (.int 0)))
def fu:Fn:=bj 2 2 tK
noncomputable def vC:MS:=bg (cR 1 (ag FE (aa (af 0) (aa (aq FA (ah (.int 0)) (af 0)) aj))))
    (bN (xg (aa (af 1) (aa (ag Hs (aa (aq Qg (af 1) (ah (.int (10^18)))) aj)) aj))))
def iN:Fn:=bj 1 2 vC
noncomputable def mL:MS:=bg (lR (aR (aq oEq (aq fb (af 0) (ah (.int 1))) (ah (.int 1)))) (bg (pF (gQ (bF (aB 2) (bF (aB 3) gP))) (ag qv (aa (aq fb (af 0) (ah (.int 0))) (aa (af 1) aj))))
    (bg (pF (Ai (af 0) (ah (.int 0))) (af 2))
    (bN (af 3)))) cC)
    (bg (cR 4 (aq oMod (aq pG (aq dI (aq oMod (aq fb (af 0) (ah (.int 0))) (ah (.int 2147483647))) (ah (.int 40503))) (ah (.int 69621))) (ah (.int 2147483629))))
    (bg (cR 4 (aq oMod (aq dI (aq pG (af 4) (af 4)) (ah (.int 7817))) (ah (.int 2147483587))))
    (bg (pF (Ai (af 0) (ah (.int 0))) (aq oMod (aq dI (aq pG (af 4) (ah (.int 48271))) (ah (.int 11))) (ah (.int 2147483629))))
    (bN (aq oMod (aq xX (aq fb (af 0) (ah (.int 0))) (ah (.int 32))) (af 1))))))
def aK:Fn:=bj 2 5 mL
noncomputable def qQ:MS:=bg (cR 2 (xg (aa (ah (.str "a")) (aa (ah (.str "aa")) (aa (ah (.str "ab")) (aa (ah (.str "abcdef")) (aa (ah (.str "b")) (aa (ah (.str "c")) (aa (ah (.str "d")) (aa (ah (.str "e")) (aa (ah (.str "m")) (aa (ah (.str "x")) (aa (ah (.str "zz")) (aa (ah (.str "zzzzzz")) aj))))))))))))))
    (bN (ag iI (aa (ag nM (aa (cD 1 (uU (aa (ag aK (aa (af 0) (aa (aq dI (af 1) (ah (.int 1))) aj))) aj)) (aB 0) dW (mH rV (af 3) (ag aK (aa (af 1) (aa (ag gK (aa (af 3) aj)) aj))))) aj)) aj)))
def kL:Fn:=bj 2 3 qQ
def kM:Fn:=fG kL
noncomputable def CC:MS:=bg (pF (gQ (bF (aB 2) (bF (aB 3) (bF (aB 4) gP)))) (cJ (aa (ag kM (aa (af 0) (aa (af 1) aj))) (aa (aq fb (ah (.list [.int 1,.int 2,.int 3,.int 5])) (ag aK (aa (af 0) (aa (ah (.int 4)) aj)))) (aa (ah (.list [])) aj)))))
    (bg (oC (aX (af 2)) (aB 5) (cR 4 (aq dI (af 4) (cD 1 (aX (af 2)) (aB 0) (aR (aq oLt (ag aK (aa (af 1) (aa (ah (.int 8)) aj))) (af 4))) (cJ (aa (af 6) (aa (af 0) aj)))))))
    (bN (cJ (aa (af 2) (aa (ag iI (aa (af 4) aj)) aj)))))
def kN:Fn:=bj 2 6 CC
noncomputable def Bb:MS:=bg (cR 1 (ah (.list [.none,.bool true,.bool false,.int 0,.int 1,.int (-1),.int (10^29),.str "",.str "a",.str "A",.str "abcdefg",.str "a b",.str "in",.tuple [],.list [],.dict [],.tuple [.int 0],.list [.str "a"]])))
    (bg (cR 1 (aq dI (af 1) (ah (.list [.tuple [.str "a"],.tuple [.str "a",.str "a"],.tuple [.tuple [.str "a"],.tuple []],.tuple [.tuple [],.tuple []],.dict [(.str "a",.int 1)],.tuple [.str "in"],.tuple [.tuple [.str "a",.str "a"]],.tuple [.str "leaf",.str "a"]]))))
    (bN (aq fb (af 1) (ag aK (aa (af 0) (aa (ah (.int 26)) aj))))))
def jk:Fn:=bj 1 2 Bb
noncomputable def mM:MS:=bg (lR (oM (dH (bH (AB (mi isStr) (af 0)))) (dH (aR (mI oLe oLe (ah (.int 1)) (ag gK (aa (af 0) aj)) (ah (.int 6)))))) (bN (ah (.bool false))) cC)
    (bN (aq oEq (cD 1 (aX (af 0)) (aB 0) (aR (aq qt (af 0) (ah (.str "abcdefghijklmnopqrstuvwxyz")))) (af 0)) (ah (.list []))))
def cg:Fn:=bj 1 1 mM
noncomputable def su:MS:=bN (aq oEq (cD 2 (uV (aa (af 0) (aa (Co (af 0) (dX (ah (.int 1))) jZ) aj))) (gQ (bF (aB 0) (bF (aB 1) gP))) (dH (aR (aq oLt (af 0) (af 1)))) (ah (.int 1))) (ah (.list [])))
def eE:Fn:=bj 1 1 su
noncomputable def oW:MS:=bg (lR (oM (dH (bH (AB (mi isTup) (af 0)))) (oM (aR (aq ur (ag gK (aa (af 0) aj)) (ah (.int 2)))) (dH (bH (ag qu (aa (cD 1 (aX (af 0)) (aB 0) dW (AB (mi isTup) (af 0))) aj)))))) (bN (ah (.bool false))) cC)
    (bg (pF (gQ (bF (aB 1) (bF (aB 2) gP))) (af 0))
    (bg (lR (oM (aR (aq Pg (ag gK (aa (af 1) aj)) (ah (.int 12)))) (oM (dH (bH (ag qu (aa (cD 1 (aX (af 1)) (aB 0) dW (ag cg (aa (af 0) aj))) aj)))) (dH (bH (ag eE (aa (af 1) aj)))))) (bN (ah (.bool false))) cC)
    (bg (oC (aX (af 2)) (aB 3) (bg (lR (oM (dH (bH (AB (mi isTup) (af 3)))) (oM (aR (aq ur (ag gK (aa (af 3) aj)) (ah (.int 2)))) (dH (bH (ag qu (aa (cD 1 (aX (af 3)) (aB 0) dW (ag cg (aa (af 0) aj))) aj)))))) (bN (ah (.bool false))) cC)
    (lR (oM (aR (aq qt (aq fb (af 3) (ah (.int 0))) (af 1))) (aR (aq qt (aq fb (af 3) (ah (.int 1))) (af 1)))) (bN (ah (.bool false))) cC)))
    (bN (ag eE (aa (af 2) aj))))))
def cb:Fn:=bj 1 4 oW
noncomputable def zt(f__law_bentp_n:Fn):MS:=bg (cR 2 (ag aK (aa (af 0) (aa (ah (.int 7)) aj))))
    (bg (lR (oM (dH (bH (AB (mi isTup) (af 1)))) (oM (aR (aq oEq (af 1) (ah (.tuple [])))) (aR (aq oLt (af 2) (ah (.int 2)))))) (bg (cR 3 (ah (.list [.none,.str "",.str "a",.str "zz",.str "A",.str "abcdefg",.int 7,.tuple [],.tuple [.str "a",.str "a"],.list [],.bool true,.tuple [.str "a"],.str "in",.str "open"])))
    (bN (aq fb (af 3) (ag aK (aa (af 0) (aa (ah (.int 14)) aj)))))) cC)
    (bg (cR 4 (ag aK (aa (af 0) (aa (ag gK (aa (af 1) aj)) aj))))
    (bg (lR (aR (aq oLt (af 2) (ah (.int 4)))) (bN (aq dI (aq dI (Co (af 1) jZ (dX (af 4))) (cJ (aa (ag f__law_bentp_n (aa (af 0) (aa (aq fb (af 1) (af 4)) aj))) aj))) (Co (af 1) (dX (aq dI (af 4) (ah (.int 1)))) jZ))) cC)
    (bN (aq fb (oB (aa (aq dI (Co (af 1) jZ (dX (af 4))) (Co (af 1) (dX (aq dI (af 4) (ah (.int 1)))) jZ)) (aa (ag pH (aa (af 1) aj)) (aa (aq dI (af 1) (Co (af 1) (dX (af 4)) (dX (aq dI (af 4) (ah (.int 1)))))) aj)))) (aq FA (af 2) (ah (.int 4))))))))
noncomputable def cN:Nat->Fn
 |0=>bj 2 5 (λ_ _=>.bad)
 |n+1=>bj 2 5 (zt (cN n))
noncomputable def vD:MS:=bg (cR 2 (oB (aa (ah .none) (aa (ah (.tuple [])) (aa (oB (aa (af 1) aj)) (aa (aq fb (af 1) (ah (.int 0))) (aa (cJ (aa (aq fb (af 1) (ah (.int 0))) aj)) (aa (ag pH (aa (af 1) aj)) (aa (cJ (aa (aq fb (af 1) (ah (.int 0))) (aa (aq fb (af 1) (ah (.int 1))) (aa (ah (.tuple [])) aj)))) (aa (ag (cN 5) (aa (af 0) (aa (af 1) aj))) (aa (ag jk (aa (af 0) aj)) aj)))))))))))
    (bN (cD 1 (aX (af 2)) (aB 0) (dH (bH (ag cb (aa (af 0) aj)))) (af 0)))
def fL:Fn:=bj 2 3 vD
noncomputable def uf:MS:=bN (ah (.list [.none,.str "",.str "holw",.str "Whole",.str "half",.tuple [.str "whole"],.list [.str "whole"],.int 1,.bool true,.str "whole "]))
def gV:Fn:=bj 0 0 uf
noncomputable def oF:MS:=bN (ah (.list [.str "stable",.str "standing",.str "preferred",.str "whole",.str "grounded"]))
def eR:Fn:=bj 0 0 oF
end Ml
namespace L2
open PySem PySem.Spec
theorem Inv.adopt{σ:St}(I:Inv X pins σ H s)(f:lN X pins H D)(new:bM X.prog X.w (upd H D o) s.heap D o):Inv X pins σ (upd H D o) s:=by
 obtain⟨f0,f1,f2,f3,f4,f5⟩:=f;have u:=I.base;refine⟨I.ok,I.os,I.bare,⟨u.keep,u.slot,λb ob e n hx=>?_,u.there,λb xs e=>?_,λb ob xs e=>?_,λb ps e=>?_⟩,I.loc,I.cell,by rw[ak (WZ f1)];exact I.free,λx c e=>by rw[ak (f4 x c e)];exact I.freeC x c e,λp hp=>?_,λb ob e=>?_,I.len⟩
 ·rw[ak]
  ·exact u.free b ob e n hx
  ·rintro rfl;rcases f3 with z|z
   ·grind
   ·exact absurd (UE (Uz e) z) (UT _)
 ·have:=u.tups b xs e;rw[ak (ay this f0)];grind
 ·have:=u.frzs b ob xs e;rw[ak (ay this f0)];exact this
 ·obtain⟨more,this⟩:=u.tbls b ps e;exact⟨more,by rw[ak (ay this f0)];exact this⟩
 ·obtain⟨h1,h2,h3⟩:=I.pin p hp;exact⟨h1,by rw[ak (f5 p hp)];exact h2,h3⟩
 ·by_cases hb:b=D
  ·subst hb;rw[aJ]at e;cases e;exact new
  ·rw[ak hb]at e;exact(I.hok b ob e).oz (λ_ _ _ q=>q) (λc q=>by rw[ak (ay q f0)];exact q) λc xs q=>by rw[ak (ay q f0)];exact q
end L2
namespace Ml
open PySem PySem.Spec L2
noncomputable def kO:List (Str×ME)->Fm->Hm->R Yg
 | [],_,h=>.ok [] h
 | (k,e)::r,ρ,h=>(e ρ h).bind λy h1=>match y with
  |.dat d=>if oU d then(kO r ρ h1).bind λkvs h2=>.ok ((.str k,d)::kvs) h2 else .bad
  |_=>.bad
noncomputable def Bc(acc kvs:Yg):Yg:=kvs.foldl (λacc kv=>dput acc kv.1 kv.2) acc
noncomputable def Ip(kes:List (Str×ME)):ME:=λρ h=>(kO kes ρ h).bind λkvs h1=>.ok (.jX false (Bc [] kvs)) h1
noncomputable def Ej(kvs:Yg)(ks:List (Key×V)):Prop:=aS ks=some kvs/\∀p∈kvs,dz p.1=true/\dz p.2=true
noncomputable def Tx(G:Gx)(E:XK)(kes:List (Str×ME))(σ:L2.St)(H:Hp)(Q:List (Key×V)->Hp->Prop):Prop:=
 ∃θ h ρ,W G θ h H/\Fr G θ H ρ σ/\aI G (qG G E) θ H (kO kes ρ h) (λkvs _ _ H'=>∀ks,Ej kvs ks->Q ks H')
@[irreducible] noncomputable def Pk(X:Cx)(E:XK)(kes:List (Str×ME))(pos:Pos)(keys:List (Option Expr))(values:Yo):Prop:=
 ∀(pins:Yf) (s:Yw) (σ:L2.St) (H:Hp) (Q:List (Key×V)->Hp->Prop),Inv X pins σ H s->Tx X.G E kes σ H Q ->
  wpAny (model X.prog X.w) X.A (evalPairs (pairTrees keys values X.env pos)) (λvs s'=>∃ks H',Inv X pins σ H' s'/\VV (ks.map λkv=>(kV kv.1,kv.2)) vs/\Q ks H') X.xe s
theorem CD(X:Cx)(E:XK)(kes:List (Str×ME))(pos:Pos)(keys:List (Option Expr))(values:Yo):Pk X E kes pos keys values =
 ∀(pins:Yf) (s:Yw) (σ:L2.St) (H:Hp) (Q:List (Key×V)->Hp->Prop),Inv X pins σ H s->Tx X.G E kes σ H Q ->
  wpAny (model X.prog X.w) X.A (evalPairs (pairTrees keys values X.env pos)) (λvs s'=>∃ks H',Inv X pins σ H' s'/\VV (ks.map λkv=>(kV kv.1,kv.2)) vs/\Q ks H') X.xe s:=by
 unfold Pk;rfl
theorem tL:∀{more:List (Key×V)} {kvs:Yg} {acc:List (Key×V)} {akv:Yg},aS more=some kvs->(∀p∈more,∃x,p.1=Sum.inr x)->aS acc=some akv->aS (jz acc more)=some (Bc akv kvs)
 | [],kvs,acc,akv,e,_,a=>by cases e;exact a
 | (q,v)::more,kvs,acc,akv,e,hx,a=>by
  unfold aS at e
  cases e1:fX v with
  |none=>simp_all
  |some d=>
   cases e2:aS more with
   |none=>simp_all
   |some ds=>rw[e1,e2]at e;cases e;obtain⟨x,rfl⟩:=hx (q,v) (by simp);show aS (jz (putK acc (Sum.inr x) v) more)=some (Bc (dput akv (.str x) d) ds);exact tL e2 (λp m=>hx p (by simp[m])) (pM e1 a)
theorem Iq(ha:∀p∈acc,dz p.1=true/\dz p.2=true)(hk:dz k=true)(hv:dz v=true):∀p∈dput acc k v,dz p.1=true/\dz p.2=true:=by
 intro p hp;unfold dput at hp;split at hp
 ·obtain⟨p0,hp0,e0⟩:=UU.mp hp;split at e0
  ·grind
  ·subst e0;exact ha p0 hp0
 ·rcases UQ.mp hp with hp|hp
  ·exact ha p hp
  ·simp at hp;subst hp;exact⟨hk,hv⟩
theorem yf:∀{kvs acc:Yg},(∀p∈acc,dz p.1=true/\dz p.2=true)->(∀p∈kvs,dz p.1=true/\dz p.2=true)->∀p∈Bc acc kvs,dz p.1=true/\dz p.2=true
 | [],acc,ha,_=>ha
 |q::kvs,acc,ha,hk=>yf (acc:=dput acc q.1 q.2) (Iq ha (hk q (by simp)).1 (hk q (by simp)).2) λp m=>hk p (by simp[m])
section
variable {X:Cx} {E:XK} {m md mk mx:ME} {e k v o f:Expr} {ks:List (Option Expr)} {vs:Yo} {kes:List (Str×ME)} {pos apos cpos:Pos} {x:Str} {n:Nat}
theorem K5:Pk X E [] pos [] []:=by simp[CD];exact by rintro pins s σ H Q I ⟨θ,h,ρ,w,fr,p⟩;exact pairTrees_nil_walk ⟨[],H,I,.nil,p θ H Ev.refl w [] ⟨rfl,λp m=>nomatch m⟩⟩
theorem vE(hk:DE X E (ah (.str x)) k)(hv:DE X E m v)(hr:Pk X E kes pos ks vs):Pk X E ((x,m)::kes) pos (some k::ks) (v::vs):=by
 simp only[CD,bA]at *;rintro pins s σ H Q I ⟨θ,h,ρ,w,fr,p⟩;refine pairTrees_cons_walk (bW (hk pins s σ H (λu H1=>(u=.str x/\PyData.strOk x=true)/\∃θ1,W X.G θ1 h H1/\Fr X.G θ1 H1 ρ σ/\aI X.G (qG X.G E) θ1 H1 (kO ((x,m)::kes) ρ h) (λkvs _ _ H'=>∀ks,Ej kvs ks->Q ks H')) I ⟨θ,h,ρ,w,fr,λθ1 H1 ev w1 u r=>⟨dQ r,θ1,w1,fr.ev ev,p.later ev⟩⟩) λu s1 ⟨y,H1,I1,ry,⟨ey,sx⟩,θ1,w1,fr1,p1⟩=>?_);subst ey;refine bW (hv pins s1 σ H1 (λz H2=>∃d θ2 h2,fX z=some d/\dz d=true/\W X.G θ2 h2 H2/\Fr X.G θ2 H2 ρ σ/\aI X.G (qG X.G E) θ2 H2 (kO kes ρ h2) (λkvs _ _ H'=>∀ks,Ej ((.str x,d)::kvs) ks->Q ks H')) I1 ⟨θ1,h,ρ,w1,fr1,(aI.bind (r:=m ρ h) p1).mono λz θ2 h2 H2 _ _ ⟨ev,w2,p2⟩ v r=>?_⟩) λu2 s2 ⟨z,H2,I2,rz,d,θ2,h2,sz,so,w2,fr2,p2⟩=>?_
 ·cases z with
  |dat d=>
   simp only at p2;split at p2
   ·rename_i fd;refine⟨d,θ2,h2,vz fd r.1,r.2,w2,fr1.ev ev,(aI.bind p2).mono (by rintro kvs θ3 h3 H3 _ _ ⟨ev3,w3,p3⟩;exact p3 θ3 H3 Ev.refl w3)⟩
   ·exact p2.elim
  |_=>exact p2.elim
 ·refine bW (hr pins s2 σ H2 (λks H3=>Q ((Sum.inr x,z)::ks) H3) I2 ⟨θ2,h2,ρ,w2,fr2,p2.mono λkvs θ3 h3 H3 _ _ q ks rk=>q _ ⟨by unfold aS;rw[sz,rk.1];rfl,λp hp=>?_⟩⟩) (by rintro ws s3 ⟨ks,H3,I3,rel,q3⟩;exact⟨(Sum.inr x,z)::ks,H3,I3,.cons ⟨ry,rz⟩ rel,q3⟩);rcases UC.mp hp with rfl|hp
  ·exact⟨by simpa [dz]using sx,so⟩
  ·exact rk.2 p hp
theorem Ek:∀{ks:List (Key×V)} {kvs:Yg},aS ks=some kvs->(∀p∈kvs,gR p.1=true)->∀p∈ks,∃x,p.1=Sum.inr x
 | [],_,_,_,p,hp=>nomatch hp
 | (q,v)::ks,kvs,e,hs,p,hp=>by
  unfold aS at e
  cases e1:fX v with
  |none=>simp_all
  |some d=>
   cases e2:aS ks with
   |none=>simp_all
   |some ds=>
    rw[e1,e2]at e;cases e;rcases UC.mp hp with rfl|hp
    ·have:=hs (Au q,d) (by simp)
     grind[Au,gR]
    ·exact Ek e2 (λp m=>hs p (by simp[m])) p hp
theorem yg:∀{kes:List (Str×ME)} {ρ:Fm} {h:Hm} {kvs:Yg} {h':Hm},kO kes ρ h=.ok kvs h'->kvs.length=kes.length/\∀p∈kvs,gR p.1=true
 | [],ρ,h,kvs,h',e=>by cases e;grind
 | (k,m)::kes,ρ,h,kvs,h',e=>by
  unfold kO at e
  cases e1:m ρ h with
  |bad=>simp_all
  |exc x h1=>simp_all
  |ok y h1=>
   rw[e1]at e;simp only[R.aO]at e;split at e
   ·split at e
    ·cases e2:kO kes ρ h1 with
     |bad=>simp_all
     |exc x h1=>simp_all
     |ok kv2 h2=>rw[e2]at e;cases e;obtain⟨q1,q2⟩:=yg e2;exact⟨by simp[q1],λp hp=>by rcases UC.mp hp with rfl|hp;rfl;exact q2 p hp⟩
    grind
   grind
theorem K6(hp:Pk X E kes pos ks vs)(hall:ks.all (·.isSome)=true:=by rfl)(hl:ks.length=vs.length:=by rfl)(hk:ks.length=kes.length:=by rfl)(h0:ks≠[]:=by simp)(h15:ks.length<=15:=by decide):DE X E (Ip kes) (.Dict ks vs pos):=by
 simp only[CD,bA]at *;rintro pins s σ H Q I ⟨θ,h,ρ,w,fr,p⟩;have hD:H s.heap.objs.size=none:=I.hok.fresh (Uy _);have fD:=I.EW (b:=s.heap.objs.size) (Uy _) hD;have I1:Inv X pins σ H {s with heap:=s.heap.push {cls:=.type "dict",data:=.dict #[]}}:=I.kept (t':=s.toks) λb u q=>Uv _ q;have gD:(s.heap.push {cls:=.type "dict",data:=.dict #[]}).get? s.heap.objs.size=some {cls:=.type "dict",data:=.dict #[]}:=UA _ rfl;have I1p:=I1.pinned (fp:=[s.heap.objs.size]) (λb hb=>(U5.mp hb)▸fD) λb hb=>⟨_,(U5.mp hb)▸gD,λv z=>by cases z⟩;refine wpAny_Dict_walk (knd:=bK X.prog X.w) hall hl h0 h15 (bW (hp _ _ σ H (λks2 H2=>∃θ2 h2 kvs,W X.G θ2 h2 H2/\Ej kvs ks2/\(kvs.length=kes.length/\∀p∈kvs,gR p.1=true)/\aI X.G (qG X.G E) θ2 H2 (R.ok (D.jX false (Bc [] kvs)) h2) (Ml.KV X.G Q)) I1p ⟨θ,h,ρ,w,fr,?_⟩) λws s2 ⟨ks2,H2,I2,rel,θ2,h2,kvs,w2,rk,dk,p2⟩=>?_)
 ·unfold Ip at p
  cases e:kO kes ρ h with
  |bad=>rw[e]at p;exact p.elim
  |exc x h1=>rw[e]at p;exact p
  |ok kvs h1=>rw[e]at p;exact λθ2 H2 ev w2 ks2 rk=>⟨θ2,h1,kvs,w2,rk,yg e,aI.later p ev⟩
 obtain⟨rs,c,rkv⟩:=pq (P:=X.prog) (w:=X.w) rel;have pD:=I2.pin (s.heap.objs.size,_) (UJ _ (UJ _ (cF (by simp) gD)));obtain⟨g2,n2,_⟩:=pD;have d0:s2.heap.DictOf (bK X.prog X.w) s.heap.objs.size []:=(K4 (G:=X.G) (A:=X.A)).ok0.2.2.elim (by rintro vs0 ⟨kv0,q⟩;cases kv0;exact q _ _ g2);refine⟨rs,c,d0,λh' dd' hs=>?_⟩;have hz:(jz [] ks2).length<=sizeLine:=by have h1:=jA ks2 [];rw[Vq,kI rk.1,dk.1,<- hk]at h1;rw[VJ];omega
 have I3:=(I2.qf).turned (t':=s2.toks+ws.length) (λb ob hb e=>(hs.2 b hb).trans e) n2 fD.2.1 fD.2.2.2.1 fD.2.2.2.2.1 fD.2.2.2.2.2;have ne:s.heap.objs.size≠sysModules:=WZ (UN I.big);have I4:=I3.adopt (D:=s.heap.objs.size) (o:=.dK (jz [] ks2)) ⟨n2,fD.2⟩ (yS hz (Wu.mpr ne) (rkv.merge .nil) dd');obtain⟨e3,w3,g3⟩:=w2.put (o:=.dK (jz [] ks2)) n2;exact⟨.ref s.heap.objs.size,_,I4,rfl,p2 _ _ e3 w3 _ ⟨_,rfl,.inl ⟨rfl,_,g3,tL rk.1 (Ek rk.1 dk.2) rfl,yf (λp m=>nomatch m) rk.2⟩⟩⟩
noncomputable def QD(d k x:D)(h:Hm):R D:=match d,k with
 |.jX false kvs,.dat (.str s)=>match xh kvs (.str s)with
  |some v=>.ok (.dat v) h
  |Option.none=>.ok x h
 |_,_=>.bad
noncomputable def Ir:D->Bool
 |.jX false _=>true
 |_=>false
noncomputable def QE(d k x:ME):ME:=λρ h=>(d ρ h).bind λy h1=>if Ir y then(k ρ h1).bind λz h2=>(x ρ h2).bind λu h3=>QD y z u h3 else .bad
theorem tM:∀{ks:List (Key×V)} {kvs:Yg},aS ks=some kvs->xh kvs (.str x)=none->rR ks (Sum.inr x)=none
 | [],kvs,e,g=>by rfl
 | (q,v)::ks,kvs,e,g=>by
  unfold aS at e
  cases e1:fX v with
  |none=>simp_all
  |some d'=>
   cases e2:aS ks with
   |none=>simp_all
   |some ds=>
    rw[e1,e2]at e;cases e;unfold xh at g;rw[VQ,zl]at g;by_cases hq:q=Sum.inr x
    ·simp_all
    ·simp only[hq]at g;rw[lY hq];exact tM e2 g
theorem OC(hr:bJ n X.A)(hd:DE X E md o)(hk:DE X E mk e)(hx:DE X E mx f)(mm:M2 X o "get" apos e f cpos):DE X E (QE md mk mx) (.Call (.Attribute o "get" apos) [e,f] [] cpos):=by
 simp only[bA]at *;refine PE.imp (GY (by have:=hr.units;omega) hd hk hx mm) λσ H Q ⟨θ,h,ρ,w,fr,p⟩=>⟨θ,h,ρ,w,fr,(aI.bind p).mono λy θ1 h1 H1 _ _ ⟨ev,w1,p1⟩ v r=>?_⟩;split at p1
 ·rename_i hy
  cases y with
  |jX t kvs=>
   have ht:t=false:=by cases t with|false=>rfl|true=>simp[Ir]at hy
   subst ht;obtain⟨a,rfl,dc⟩:=r;have dc1:=dc.same (G':=H1) (aT.refl _) λob q=>aC _ _ _ _ q;refine⟨a,rfl,?_,θ1,h1,ρ,w1,fr.ev ev,(aI.bind p1).mono λz θ2 h2 H2 _ _ ⟨ev2,w2,p2⟩ u ru=>⟨θ2,h2,ρ,w2,(fr.ev ev).ev ev2,(aI.bind p2).mono λx θ3 h3 H3 _ _ ⟨ev3,w3,p3⟩ ux rx=>?_⟩⟩
   ·rcases dc1 with⟨_,ks,q,_⟩|⟨z,xs,q,_⟩
    ·exact .inl ⟨ks,.inl q⟩
    ·cases z
   ·have dc3:=(dc.same (G':=view θ3 H3) (ev2.trans ev3).same λob q=>(ev2.trans ev3).same _ _ q).same (G':=H3) (aT.refl _) λob q=>aC _ _ _ _ q;unfold QD at p3
    cases z with
    |dat zd=>
     cases zd with
     |str q=>
      obtain⟨eu,_⟩:=dQ ru;subst eu;rcases dc3 with⟨_,ks,q1,q2,q3⟩|⟨z,_⟩
      ·simp only at p3
       cases g:xh kvs (.str q)with
       |some v=>rw[g]at p3;obtain⟨u,q4,q5⟩:=pN q2 g;refine⟨some u,.inl ⟨ks,Sum.inr q,.inl q1,rfl,q4.symm⟩,p3 θ3 H3 Ev.refl w3 u ⟨AO q5,?_⟩⟩;unfold xh at g;obtain⟨pr,hp,e'⟩:=Ve.mp g;rw[<- e'];exact(q3 pr (List.mem_of_find?_eq_some hp)).2
       |none=>rw[g]at p3;exact⟨none,.inl ⟨ks,Sum.inr q,.inl q1,rfl,(tM q2 g).symm⟩,p3 θ3 H3 Ev.refl w3 ux rx⟩
      ·cases z
     |_=>exact p3.elim
    |_=>exact p3.elim
  |_=>simp[Ir]at hy
 ·exact p1.elim
end
end Ml
namespace Ml
open PySem
noncomputable def vF:MS:=bg (Hl [4,5,6] (aa (aq sZ (cJ (aa (af 2) (aa (af 2) aj))) (aq fb (af 0) (ah (.int 1)))) (aa (aq sZ (cJ (aa (af 3) (aa (af 3) aj))) (aq fb (af 0) (ah (.int 1)))) (aa (aq sZ (cJ (aa (af 3) (aa (af 2) aj))) (aq fb (af 0) (ah (.int 1)))) aj))))
    (bN (QE (Ip [("stable",af 4),("whole",lD (af 4) (af 5)),("grounded",lD (af 5) (FQ (af 4) (af 6)))]) (af 1) (lD (af 4) (FQ (af 6) (af 5)))))
def ee:Fn:=bj 4 7 vF
noncomputable def xk:MS:=bg (cR 2 (xg aj))
    (bg (oC (aX (aq fb (af 0) (ah (.int 1)))) (gQ (bF (aB 3) (bF (aB 4) gP))) (lR (oM (aR (aq oEq (af 3) (af 4))) (dH (bH (ag ee (aa (af 0) (aa (af 1) (aa (af 3) (aa (af 4) aj)))))))) (jd (mH eA (af 2) (cJ (aa (af 3) (aa (af 4) aj))))) cC))
    (bN (cJ (aa (aq fb (af 0) (ah (.int 0))) (aa (ag iI (aa (af 2) aj)) aj)))))
def xl:Fn:=bj 2 5 xk
def gA:Fn:=fG xl
noncomputable def j9:MS:=bg (cR 2 (xg (aa (ah (.tuple [.tuple [],.tuple []])) (aa (ah (.tuple [.tuple [.str "a"],.tuple [.tuple [.str "a",.str "a"]]])) (aa (ah (.tuple [.tuple [.str "a",.str "b"],.tuple [.tuple [.str "a",.str "b"],.tuple [.str "b",.str "a"]]])) aj)))))
    (bg (jd (mH eA (af 2) (ah (.tuple [.tuple [.str "a",.str "b",.str "c"],.tuple [.tuple [.str "a",.str "b"],.tuple [.str "b",.str "c"],.tuple [.str "c",.str "a"]]]))))
    (bg (jd (mH eA (af 2) (ah (.tuple [.tuple [.str "a",.str "b",.str "c",.str "d"],.tuple [.tuple [.str "a",.str "b"],.tuple [.str "b",.str "c"],.tuple [.str "c",.str "d"],.tuple [.str "d",.str "a"]]]))))
    (bN (oB (aa (ag kN (aa (af 0) (aa (af 1) aj))) (aa (ag kN (aa (af 0) (aa (af 1) aj))) (aa (aq fb (af 2) (ag aK (aa (af 0) (aa (ah (.int 5)) aj)))) aj)))))))
def gb:Fn:=bj 2 3 j9
def eF:Fn:=fG gb
noncomputable def xm:MS:=bg (cR 2 (cD 1 (aX (aq fb (af 1) (ah (.int 0)))) (aB 0) (aR (aq oEq (ag aK (aa (af 1) (aa (ah (.int 2)) aj))) (ah (.int 0)))) (cJ (aa (af 0) (aa (af 0) aj)))))
    (bN (cJ (aa (aq fb (af 1) (ah (.int 0))) (aa (ag iI (aa (ag iM (aa (aq dI (ag pH (aa (aq fb (af 1) (ah (.int 1))) aj)) (af 2)) aj)) aj)) aj))))
def gB:Fn:=bj 2 3 xm
abbrev oG:Addr:=429
noncomputable abbrev sv:Str:=("_law_words" : Str) ++ ".<locals>." ++ "<lambda>"
noncomputable def zu:MS:=bg (cR 2 (xg (aa (tG [0,3] 0 oG sv [0,1] (ag bD (aa (af 0) (aa (af 1) aj)))) aj)))
    (bg (jd (mH eA (af 2) (tG [0,3] 0 oG sv [0,1] (ag f9 (aa (af 0) (aa (af 1) aj))))))
    (bN (aq KQ (af 2) (oB (aa (tG [0,3] 0 oG sv [0,1] (ag gN (aa (af 0) (aa (af 1) aj)))) aj)))))
def qR:Fn:=bj 2 3 zu
def eG:Fn:=fG qR
end Ml
namespace Ml
open PySem PySem.Spec L2
noncomputable def Ss(x:D)(lo hi:Option Int)(h:Hm):R D:=match x with
 |.scr ns=>.ok (.dat (.list (cut (ns.map PyData.int) lo hi))) h
 |_=>.bad
noncomputable def Iu(e:ME)(lo hi:Mf):ME:=λρ h=>(e ρ h).bind λx h1=>(lo ρ h1).bind λl h2=>(hi ρ h2).bind λu h3=>Ss x l u h3
section
variable {X:Cx} {E:XK} {m:ME} {e:Expr} {pos:Pos}
noncomputable def QF(G:Gx)(E:XK):V->Option Int->Option Int->Hp->VK->Prop:=λx lo hi H Q=>∃θ h d,W G θ h H/\bT G θ H d x/\aI G (qG G E) θ H (Ss d lo hi h) (KV G Q)
theorem yh:∀(ns:List Int),bo M (ns.map PyData.int) (ns.map V.int)
 | []=>rfl
 |n::ns=>⟨_,_,rfl,rfl,yh ns⟩
theorem OD:Pe X (QF X.G E):=by
 rintro pins s σ H x v vl vu lo hi sl Q I rx hs pl pu ⟨θ,h,d,w,r,p⟩;unfold Ss at p;split at p
 ·rename_i ns;obtain⟨a,rfl,sq⟩:=r;refine Du pins s σ H _ v vl vu lo hi sl Q I rx hs pl pu ⟨a,ns.map V.int,rfl,(aC θ H).seq sq,λq hq=>?_⟩;obtain⟨e1,w1,g⟩:=w.put hq;refine p _ _ e1 w1 _ ⟨⟨q,_,rfl,g,(D7 (yh ns) lo hi).same e1.same⟩,?_⟩;exact vm (bC.mpr λd m=>by obtain⟨n,_,rfl⟩:=UU.mp m;rfl) lo hi
 ·trivial
theorem FV(he:DE X E m e)(hl:DO X E ml lo)(hu:DO X E mh hi):DE X E (Iu m ml mh) (.Subscript e (.Slice lo hi none p2) pos):=by simp[bA,D6]at *;exact PE.imp (An OD he hl hu) (by rintro σ H Q ⟨θ,h,ρ,w,fr,p⟩;exact⟨θ,h,ρ,w,fr,(aI.bind p).mono (by rintro d θ1 h1 H1 _ _ ⟨ev,w1,p1⟩ v r;exact⟨θ1,h1,ρ,w1,fr.ev ev,(aI.bind p1).mono (by rintro l θ2 h2 H2 _ _ ⟨ev2,w2,p2⟩;exact⟨θ2,h2,ρ,w2,(fr.ev ev).ev ev2,(aI.bind p2).mono (by rintro u θ3 h3 H3 _ _ ⟨ev3,w3,p3⟩;exact⟨θ3,h3,d,w3,(r.ev ev2).ev ev3,p3⟩)⟩)⟩)⟩)
end
end Ml
namespace Ml
open PySem
noncomputable def QG:MS:=bg (oC (aX (aq dI (oB (aa (ag fu (aa (af 0) (aa (ah (.int 0)) aj))) aj)) (Iu (af 0) (dX (ah (.int 1))) (dX (ah (.int 3)))))) (aB 1) (bg (cR 2 (ag iN (aa (af 1) aj)))
    (oC (aX (ag eF (aa (af 2) (aa (ah (.int 6)) aj)))) (aB 3) (bg (cR 4 (ag gB (aa (af 2) (aa (af 3) aj))))
    (bg (cR 5 (ag lC (aa (af 4) aj)))
    (bg (oC (aX (ag eR aj)) (aB 6) (bg (cR 7 (ag gA (aa (af 4) (aa (af 6) aj))))
    (lR (aR (aq ur (ag lC (aa (oB (aa (ag bD (aa (af 4) (aa (af 6) aj))) (aa (ag bD (aa (af 4) (aa (af 6) aj))) (aa (ag bD (aa (af 7) (aa (af 6) aj))) aj)))) aj)) (ag lC (aa (oB (aa (af 7) (aa (af 7) (aa (af 7) aj)))) aj)))) (bN (ah (.bool false))) cC)))
    (bg (oC (aX (aq dI (ag gV aj) (ah (.list [.str "half",.str "stage",.str "peaceful"])))) (aB 8) (lR (aR (aq ur (ag eG (aa (af 4) (aa (af 8) aj))) (aq pG (ah (.list [.tuple [.str "kind"]])) (ah (.int 3))))) (bN (ah (.bool false))) cC))
    (bg (oC (aX (ag fL (aa (af 2) (aa (af 4) aj)))) (aB 8) (lR (aR (aq ur (ag eG (aa (af 8) (aa (ah .none) aj))) (aq pG (ah (.list [.tuple [.str "web"]])) (ah (.int 3))))) (bN (ah (.bool false))) cC))
    (lR (aR (aq ur (ag lC (aa (af 4) aj)) (af 5))) (bN (ah (.bool false))) cC)))))))))
    (bN (ah (.bool true)))
def Em:Fn:=bj 1 9 QG
end Ml
namespace Stt
open PySem
noncomputable abbrev qS(xs:Ys):Prop:=xs.toList.Pairwise (· < ·)
theorem uz(r:qS xs)(hi:i<k)(hk:k<xs.size):xs[i]'(by omega)<xs[k]:=by
 have:=Vy.mp r i k (by simpa using(by omega:i<xs.size)) (by omega) hi
 simp_all
theorem vG(r:qS xs)(j:Nat):∀(fuel lo hi:Nat),lo<=hi->hi<=xs.size->hi-lo<=fuel->(∀i (h:i<xs.size),i<lo->xs[i]<j)->(∀i (h:i<xs.size),hi<=i->j<=xs[i]) ->
  (∀i (h:i<xs.size),i<SetTable.below.go xs j fuel lo hi->xs[i]<j)/\(∀i (h:i<xs.size),SetTable.below.go xs j fuel lo hi<=i->j<=xs[i])/\SetTable.below.go xs j fuel lo hi<=xs.size
 |0,lo,hi,h1,h2,h3,a,b=>by
  grind[SetTable.below.go]
 |fuel+1,lo,hi,h1,h2,h3,a,b=>by
  simp only[SetTable.below.go];split
  ·rename_i hlt;have hm:(lo+hi) / 2<xs.size:=by omega
   simp only[Array.getD,hm,dif_pos];split
   ·rename_i hx;refine vG r j fuel _ hi (by omega) h2 (by omega) (λi h hi'=>?_) b;by_cases e:i=(lo+hi) / 2
    ·subst e;exact hx
    ·have:=uz r (i:=i) (k:=(lo+hi) / 2) (by omega) hm;have hx':xs[(lo+hi) / 2]<j:=hx;omega
   ·rename_i hx;refine vG r j fuel lo _ (by omega) (by omega) (by omega) a λi h hi'=>?_;have hx':¬ xs[(lo+hi) / 2]<j:=hx;by_cases e:i=(lo+hi) / 2
    ·subst e;omega
    ·have:=uz r (i:=(lo+hi) / 2) (k:=i) (by omega) h;omega
  grind
theorem iO(r:qS xs)(j:Nat):(∀i (h:i<xs.size),i<SetTable.below xs j->xs[i]<j)/\(∀i (h:i<xs.size),SetTable.below xs j<=i->j<=xs[i])/\SetTable.below xs j<=xs.size:=
 vG r j xs.size 0 xs.size (by omega) (by omega) (by omega) (λ_ _ h=>by omega) λ_ _ h=>by omega
theorem below_at(r:qS xs)(h:xs[i]?=some j):SetTable.below xs j=i:=by
 obtain⟨hi,e⟩:=Vn.mp h;obtain⟨a,b,c⟩:=iO r j;by_cases h1:i<SetTable.below xs j
 ·grind
 ·by_cases h2:SetTable.below xs j=i
  ·exact h2
  ·have hb:SetTable.below xs j<xs.size:=by omega
   have:=b _ hb (Uy _);have:=uz r (i:=SetTable.below xs j) (by omega) hi;omega
theorem iP(r:qS xs):j∈xs.toList<->xs[SetTable.below xs j]?=some j:=by
 constructor
 ·intro h;obtain⟨i,hi,e⟩:=WB h;have:xs[i]?=some j:=by rw[<- U7,UH hi,e]
  rw[below_at r this];grind
 ·intro h;rw[<- U7]at h;exact UO h
theorem kP(r:qS xs):SetTable.has xs j=true<->j∈xs.toList:=by unfold SetTable.has;rw[iP r,X9]
theorem nW{t:Yu}(r:qS t.place):t.slot j=.live i<->t.place[i]?=some j:=by
 unfold SetTable.slot;constructor
 ·grind
 ·intro h;have e:=below_at r h
  grind
theorem kQ{t:Yu}(r:qS t.place)(rd:qS t.dummies):t.slot j=.empty<->j∉t.place.toList/\j∉t.dummies.toList:=by
 rw[iP r,<- kP rd]
 grind[SetTable.slot]
theorem CF{t:Yu}(r:qS t.place)(rd:qS t.dummies):t.slot j=.dummy->j∈t.dummies.toList:=by
 rw[<- kP rd]
 grind[SetTable.slot]
theorem vH(r:qS xs)(h:j∉xs.toList):qS (SetTable.insertAt xs (SetTable.below xs j) j):=by
 obtain⟨a,b,c⟩:=iO r j;unfold qS;rw[Xf];have r':xs.toList.Pairwise (· < ·):=r;rw[<- VS (SetTable.below xs j) xs.toList,VY]at r';obtain⟨r1,r2,r3⟩:=r';rw[VY];refine⟨r1,Vh.mpr ⟨λx hx=>?_,r2⟩,λx hx y hy=>?_⟩
 ·obtain⟨i,hi,e⟩:=WB hx;simp at hi e;have:=b (SetTable.below xs j+i) (by omega) (by omega);have hne:xs[SetTable.below xs j+i]'(by omega)≠j:=λz=>h (by rw[<- z];simp);omega
 ·have hxj:x<j:=by
   obtain⟨i,hi,e⟩:=WB hx;simp at hi e;have:=a i (by omega) (by omega);omega
  rcases UC.mp hy with rfl|hy
  ·exact hxj
  ·exact r3 x hx y hy
theorem yi(r:qS xs)(p:Nat):qS (SetTable.eraseAt xs p):=by
 unfold qS SetTable.eraseAt;simp;have r':xs.toList.Pairwise _:=r;rw[<- VS p xs.toList,VY]at r';rw[VY];refine⟨r'.1,?_,λx hx y hy=>?_⟩
 ·grind
 ·refine r'.2.2 x hx y ?_;have:=W2 hy;rw[<- List.drop_drop]at this;exact List.mem_of_mem_drop this
structure Pc where
 j:Nat
 more:Nat
 i:Nat
 pt:Nat
noncomputable def pc(p:SetTable.Probe):Pc:=⟨p.j,p.more,p.i,p.perturb⟩
noncomputable def dR(mask i pt:Nat):Pc:=⟨i,SetTable.runEnd mask i-i,i,pt⟩
noncomputable def En(mask:Nat)(c:Pc):Pc:=dR mask (SetTable.leap mask c.i c.pt).1 (SetTable.leap mask c.i c.pt).2
noncomputable def step(mask:Nat)(c:Pc):Pc:=if c.more>0 then⟨c.j+1,c.more-1,c.i,c.pt⟩else En mask c
theorem CG(t:Yu)(p:SetTable.Probe):pc (t.advance p)=step t.mask (pc p):=by unfold SetTable.advance step pc;split<;>rfl
theorem jG(t:Yu)(p:SetTable.Probe):(t.advance p).dummy=p.dummy:=by
 grind[SetTable.advance]
noncomputable def steps(mask:Nat):Nat->Pc->Pc
 |0,c=>c
 |n+1,c=>steps mask n (step mask c)
theorem nX(mask:Nat):∀(m n:Nat) (c:Pc),steps mask (m+n) c=steps mask n (steps mask m c)
 |0,n,c=>by simp[steps]
 |m+1,n,c=>by rw[show m+1+n=(m+n)+1 by omega];exact nX mask m n _
theorem zv(mask:Nat):∀(k:Nat) (c:Pc),c.more=k->steps mask (k+1) c=En mask c
 |0,c,h=>by simp[steps,step,h]
 |k+1,c,h=>by
  have e:step mask c=⟨c.j+1,c.more-1,c.i,c.pt⟩:=by grind[step]
  simp[steps];have:=zv mask k (step mask c) (by simp_all);simp[steps]at this;rw[this,e];rfl
theorem yj(mask i:Nat):SetTable.runEnd mask i-i<=9:=by grind[SetTable.runEnd]
noncomputable def fY(mask:Nat):Nat->Pc->Pc
 |0,c=>c
 |n+1,c=>fY mask n (En mask c)
theorem tN(mask:Nat):∀(n:Nat) (c:Pc),c.more<=9->∃m,m<=10*n/\steps mask m c=fY mask n c
 |0,c,_=>⟨0,by omega,rfl⟩
 |n+1,c,h=>by obtain⟨m,hm,e⟩:=tN mask n (En mask c) (yj _ _);refine⟨c.more+1+m,by omega,?_⟩;rw[nX,zv mask c.more c rfl,e];rfl
theorem sy(mask:Nat):∀(m n:Nat) (c:Pc),fY mask (m+n) c=fY mask n (fY mask m c)
 |0,n,c=>by simp[fY]
 |m+1,n,c=>by rw[show m+1+n=(m+n)+1 by omega];exact sy mask m n _
theorem Bd(mask:Nat):∀(n:Nat) (c:Pc),(fY mask n c).pt=c.pt / 32^n
 |0,c=>by simp[fY]
 |n+1,c=>by simp[fY];rw[Bd mask n];show c.pt / 32 / 32^n=_;rw[Nat.div_div_eq_div_mul,Nat.pow_succ,Nat.mul_comm]
noncomputable def FX(m:Nat):Nat->Nat->Nat
 |0,i=>i
 |n+1,i=>FX m n ((i*5+1) % m)
theorem uA(m:Nat):∀(a b i:Nat),FX m (a+b) i=FX m b (FX m a i)
 |0,b,i=>by simp[FX]
 |a+1,b,i=>by rw[show a+1+b=(a+b)+1 by omega];exact uA m a b _
noncomputable def cover(m:Nat):Nat->Nat->Nat->Nat
 |0,_,acc=>acc
 |n+1,i,acc=>cover m n ((i*5+1) % m) (acc ||| 1 <<< i)
theorem yk(m:Nat):∀(n i acc e:Nat),(cover m n i acc).testBit e=true->acc.testBit e=true\/∃a,a<n/\FX m a i=e
 |0,i,acc,e,h=>.inl h
 |n+1,i,acc,e,h=>by
  rcases yk m n _ _ e h with h|⟨a,ha,h⟩
  ·rw[Nat.testBit_or,Wr]at h;rcases h with h|h
   ·exact .inl h
   ·refine .inr ⟨0,by omega,?_⟩;rw[Nat.shiftLeft_eq,Nat.one_mul,Nat.testBit_two_pow]at h;simpa [FX]using h
  ·exact .inr ⟨a+1,by omega,h⟩
noncomputable def sizeOk(m:Nat):Bool:=cover m m 0 0==2^m-1&&FX m m 0==0&&decide (8<=m/\m<=1024)&&decide (m % 2=0)
theorem Iv(h:sizeOk m=true)(hi:i<m)(he:e<m):∃n,n<m/\FX m n i=e:=by
 unfold sizeOk at h;simp only[Ux,X9,UZ]at h;obtain⟨⟨⟨h1,h2⟩,h3⟩,_⟩:=h
 have key:∀x,x<m->∃a,a<m/\FX m a 0=x:=λx hx=>by
  rcases yk m m 0 0 x (by grind)with z|z
  ·grind
  grind
 obtain⟨a,ha,ea⟩:=key i hi;obtain⟨b,hb,eb⟩:=key e he;by_cases hab:a<=b
 ·exact⟨b-a,by omega,by rw[<- ea,<- uA,show a+(b-a)=b by omega,eb]⟩
 ·exact⟨(m-a)+b,by omega,by rw[<- ea,<- uA,show a+((m-a)+b)=m+b by omega,uA,h2,eb]⟩
theorem Mo:sizeOk 8=true/\sizeOk 16=true/\sizeOk 32=true/\sizeOk 64=true/\sizeOk 128=true/\sizeOk 256=true/\sizeOk 512=true/\sizeOk 1024=true:=by decide +kernel
theorem yl:∀(n:Nat) (c:Pc),c.pt=0->(fY mask n c).i=FX (mask+1) n c.i
 |0,c,_=>rfl
 |n+1,c,h=>by simp[fY,FX];rw[yl n _ (by show c.pt / 32=0;rw[h])];show FX _ n (_ % _)=_;rw[h]
theorem K7(mask n:Nat)(c:Pc):(fY mask (n+1) c).j=(fY mask (n+1) c).i:=by rw[sy];rfl
theorem ym(h:sizeOk (mask+1)=true)(hp:c.pt<2^64)(he:e<=mask):∃n,n<=mask+12/\(fY mask (n+1) c).j=e:=by
 have h0:(fY mask 13 c).pt=0:=by
  grind[Bd]
 have hi  := by show(fY mask (12+1) c).i<mask+1;exact XU _ (by omega)
 obtain⟨n,hn,en⟩:=Iv h hi (Nat.lt_succ_of_le he);refine⟨12+n,by omega,?_⟩;rw[show 12+n+1=_+1 from rfl,K7,show 12+n+1=13+n by omega,sy,yl n _ h0,en]
theorem Eo(h:Int):SetTable.bits h<2^64:=by
 grind[SetTable.bits]
noncomputable def c0(mask:Nat)(h:Int):Pc:=dR mask (SetTable.bits h % (mask+1)) (SetTable.bits h)
noncomputable def sq(mask:Nat)(h:Int)(n:Nat):Nat:=(steps mask n (c0 mask h)).j
theorem FY(hs:sizeOk (mask+1)=true)(h:Int)(he:e<=mask):∃n,n<=10*(mask+13)/\sq mask h n=e:=by obtain⟨n,hn,en⟩:=ym hs (c:=c0 mask h) (Eo h) he;obtain⟨m,hm,em⟩:=tN mask (n+1) (c0 mask h) (yj _ _);exact⟨m,by omega,by simp[sq,em,en]⟩
theorem least{P:Nat->Prop}:∀(N:Nat),P N->∃n,n<=N/\P n/\∀m,m<n->¬ P m:=by
 intro N
 induction N using Nat.strongRecOn with
 |_ N ih=>
  by_cases z:∃m,m<N/\P m
  ·obtain⟨m,hm,pm⟩:=z;obtain⟨n,h1,h2,h3⟩:=ih m hm pm
   grind
  ·grind
theorem CH:∀(n:Nat) (l:List Nat),(∀e,e<n->e∈l)->n<=l.length
 |0,_,_=>V4 _
 |n+1,l,h=>by
  have:=CH n (l.erase n) λe he=>(List.mem_erase_of_ne (by omega)).mpr (h e (by omega))
  grind
theorem CI(mask n:Nat)(c:Pc):steps mask (n+1) c=step mask (steps mask n c):=by rw[nX];rfl
structure Tab(es:Yh)(t:Yu):Prop where
 rp:qS t.place
 rd:qS t.dummies
 sz:t.place.size=es.size
 tf:t.fill*5<t.mask*3
 bp:∀j∈t.place.toList,j<=t.mask
 bd:∀j∈t.dummies.toList,j<=t.mask
 dj:∀j∈t.dummies.toList,j∉t.place.toList
 sm:sizeOk (t.mask+1)=true
 rc:∀(i:Nat) (e:Int×Value) (j:Nat),es[i]?=some e->t.place[i]?=some j->∃n,sq t.mask e.1 n=j/\∀m,m<n->t.slot (sq t.mask e.1 m)≠.empty
theorem Tab.fits(T:Tab es t):t.fits es.size=true:=by have:=T.tf;simp[SetTable.fits];exact⟨T.sz,by omega⟩
theorem Tab.odd(T:Tab es t):t.gaveWay=false:=by
 have h:=T.sm;unfold SetTable.gaveWay;unfold sizeOk at h
 grind
theorem Tab.le(T:Tab es t):t.mask<=1023:=by
 have h:=T.sm
 simp_all[sizeOk]
theorem Tab.free(T:Tab es t)(h:Int):∃N,N<=10*(t.mask+13)/\t.slot (sq t.mask h N)=.empty/\∀m,m<N->t.slot (sq t.mask h m)≠.empty:=by
 have:∃e,e<=t.mask/\t.slot e=.empty:=by
  apply Vj;intro z;have:=CH (t.mask+1) _ λe he=>by apply Vj;intro hn;rw[UQ,not_or]at hn;exact z ⟨e,by omega,(kQ T.rp T.rd).mpr hn⟩
  have tf:=T.tf
  grind[SetTable.fill,tf,List.length_append,Array.length_toList]
 obtain⟨e,he,hs⟩:=this;obtain⟨n,hn,en⟩:=FY T.sm h he;obtain⟨N,h1,h2,h3⟩:=least (P:=λn=>t.slot (sq t.mask h n)=.empty) n (by grind)
 grind
noncomputable def Dm(t:Yu)(h:Int)(n:Nat)(d:Option Nat):Prop:=d=none\/∃m,m<n/\d=some (sq t.mask h m)/\t.slot (sq t.mask h m)=.dummy
theorem Dm.mono(x:Dm t h n d)(hn:n<=n'):Dm t h n' d:=by
 rcases x with x|⟨m,a,b,c⟩
 ·exact .inl x
 ·exact .inr ⟨m,by omega,b,c⟩
theorem uB(hN:t.slot (sq t.mask h N)=.empty)(hne:∀m,m<N->t.slot (sq t.mask h m)≠.empty) :
  ∀(fuel n:Nat) (p:SetTable.Probe),n<=N->N-n<fuel->pc p=steps t.mask n (c0 t.mask h)->Dm t h n p.dummy ->
   (∃d,SetTable.probe.go t hashAt h fuel p=some (.empty (sq t.mask h N) d)/\Dm t h N d/\∀m,n<=m->m<N->∀i,t.slot (sq t.mask h m)=.live i->hashAt i≠h) \/
   (∃k i q,SetTable.probe.go t hashAt h fuel p=some (.candidate (sq t.mask h k) i q)/\n<=k/\k<N/\t.slot (sq t.mask h k)=.live i/\hashAt i=h/\pc q=steps t.mask (k+1) (c0 t.mask h)/\Dm t h (k+1) q.dummy /\
    ∀m,n<=m->m<k->∀i,t.slot (sq t.mask h m)=.live i->hashAt i≠h)
 |0,n,p,h1,h2,h3,h4=>by omega
 |fuel+1,n,p,h1,h2,h3,h4=>by
  have ej:p.j=sq t.mask h n:=by have:=WH Pc.j h3;exact this
  have nx:∀(p':SetTable.Probe),pc p'=pc p->n<N->pc (t.advance p')=steps t.mask (n+1) (c0 t.mask h):=λp' e _=>by rw[CG,e,h3,CI]
  simp only[SetTable.probe.go];rw[ej];by_cases e:n=N
  ·subst e;rw[hN];exact .inl ⟨p.dummy,rfl,h4,λm a b=>by omega⟩
  ·have hlt:n<N:=by omega
   cases hs:t.slot (sq t.mask h n)with
   |empty=>exact absurd hs (hne n hlt)
   |dummy=>
    dsimp only;rcases uB hN hne fuel (n+1) (t.advance {p with j:=sq t.mask h n,dummy:=some (sq t.mask h n)}) hlt (by omega) (nx _ (by unfold pc;rw[ej]) hlt) (by rw[jG];exact .inr ⟨n,by omega,rfl,hs⟩)with⟨d,a,b,c⟩|⟨k,i,q,a,b,c,d,e',f,g,r⟩
    ·refine .inl ⟨d,a,b,λm h5 h6 i h7=>?_⟩;by_cases z:m=n
     ·subst z;rw[hs]at h7;cases h7
     ·exact c m (by omega) h6 i h7
    ·refine .inr ⟨k,i,q,a,by omega,c,d,e',f,g,λm h5 h6 i h7=>?_⟩;by_cases z:m=n
     ·subst z;rw[hs]at h7;cases h7
     ·exact r m (by omega) h6 i h7
   |live i=>
    dsimp only;by_cases hh:hashAt i=h
    ·rw[if_pos (by simpa using hh)];refine .inr ⟨n,i,t.advance p,rfl,by omega,hlt,hs,hh,nx p rfl hlt,?_,λm a b=>by omega⟩;rw[jG];exact h4.mono (by omega)
    ·rw[if_neg (by simpa using hh)];rcases uB hN hne fuel (n+1) (t.advance p) hlt (by omega) (nx _ rfl hlt) (by rw[jG];exact h4.mono (by omega))with⟨d,a,b,c⟩|⟨k,i',q,a,b,c,d,e',f,g,r⟩
     ·refine .inl ⟨d,a,b,λm h5 h6 i' h7=>?_⟩;by_cases z:m=n
      ·subst z;rw[hs]at h7;cases h7;exact hh
      ·exact c m (by omega) h6 i' h7
     ·refine .inr ⟨k,i',q,a,by omega,c,d,e',f,g,λm h5 h6 i' h7=>?_⟩;by_cases z:m=n
      ·subst z;rw[hs]at h7;cases h7;exact hh
      ·exact r m (by omega) h6 i' h7
theorem yn(r:qS xs)(hj:j∈xs.toList):x∈(SetTable.eraseAt xs (SetTable.below xs j)).toList<->x∈xs.toList/\x≠j:=by
 have hb:=(iP r).mp hj;obtain⟨hl,e⟩:=Vn.mp hb;have sp:xs.toList=xs.toList.take (SetTable.below xs j)++j::xs.toList.drop (SetTable.below xs j+1):=by have e1:=(VS (SetTable.below xs j) xs.toList).symm;rw[Vt (by simpa using hl)]at e1;rw[Array.getElem_toList,e]at e1;exact e1
 have se:(SetTable.eraseAt xs (SetTable.below xs j)).toList=xs.toList.take (SetTable.below xs j)++xs.toList.drop (SetTable.below xs j+1):=by unfold SetTable.eraseAt;simp only[XY,Array.toList_extract,List.extract_eq_take_drop,List.drop_zero,Nat.sub_zero];congr 1;rw[List.take_of_length_le];simp
 have nd:xs.toList.Nodup:=List.Pairwise.imp (λh=>UN h) r;rw[sp]at nd;rw[se];have nd2:=(Xv.mp nd);have nd3:=VN.mp nd2.2.1;constructor
 ·intro h;refine⟨by rw[sp];rcases UQ.mp h with h|h;exact VF _ h;exact UJ _ (UD _ h),λz=>?_⟩;subst z;rcases UQ.mp h with h|h
  ·exact nd2.2.2 x h x (UL ..) rfl
  ·exact nd3.1 h
 grind
theorem vI{p:Nat}(hp:p<xs.size):(SetTable.eraseAt xs p).size=xs.size-1:=by
 grind[SetTable.eraseAt]
theorem jl:(SetTable.insertAt xs p x).size=xs.size+1:=by
 have:=(SetTable.insertAt_perm xs p x).length_eq
 grind
theorem vJ:y∈(SetTable.insertAt xs p x).toList<->y=x\/y∈xs.toList:=by rw[(SetTable.insertAt_perm xs p x).mem_iff];simp[or_comm]
theorem vK{x:α}(hp:p<=xs.size)(i:Nat):(SetTable.insertAt xs p x)[i]?=if i<p then xs[i]? else if i=p then some x else xs[i-1]?:=by
 rw[<- U7,Xf]
 grind
theorem yo(T:Tab es t)(hs:∀i,t.slot s≠.live i)(x:Nat)(h:(t.put s).1.slot x=.empty):t.slot x=.empty:=by
 have hp:s∉t.place.toList:=λz=>by have:=(iP T.rp).mp z;exact hs _ ((nW T.rp).mpr this)
 have rp':qS (t.put s).1.place:=vH T.rp hp
 have rd':qS (t.put s).1.dummies:=by
  show qS (if SetTable.has t.dummies s=true then _ else _);split
  ·exact yi T.rd _
  ·exact T.rd
 rw[kQ rp' rd']at h;rw[kQ T.rp T.rd];obtain⟨h1,h2⟩:=h
 have h1':x≠s/\x∉t.place.toList:=by
  have:x∉(SetTable.insertAt t.place (SetTable.below t.place s) s).toList:=h1;rw[vJ,not_or]at this
  grind
 refine⟨h1'.2,λz=>h2 ?_⟩;show x∈(if SetTable.has t.dummies s=true then _ else _:Ys).toList;split
 ·rename_i hd;exact(yn T.rd ((kP T.rd).mp hd)).mpr ⟨z,h1'.1⟩
 grind
structure xn(es:Yh)(t:Yu):Prop where
 rp:qS t.place
 rd:qS t.dummies
 sz:t.place.size=es.size
 fl:t.fill<=t.mask
 bp:∀j∈t.place.toList,j<=t.mask
 bd:∀j∈t.dummies.toList,j<=t.mask
 dj:∀j∈t.dummies.toList,j∉t.place.toList
 sm:sizeOk (t.mask+1)=true
 rc:∀(i:Nat) (e:Int×Value) (j:Nat),es[i]?=some e->t.place[i]?=some j->∃n,sq t.mask e.1 n=j/\∀m,m<n->t.slot (sq t.mask e.1 m)≠.empty
theorem xn.fits(T:xn es t):t.fits es.size=true:=by simp[SetTable.fits];exact⟨T.sz,T.fl⟩
theorem xn.tab(T:xn es t)(h:t.fill*5<t.mask*3):Tab es t:=⟨T.rp,T.rd,T.sz,h,T.bp,T.bd,T.dj,T.sm,T.rc⟩
theorem xn.flags(T:xn es t)(h1:t'.mask=t.mask)(h2:t'.place=t.place)(h3:t'.dummies=t.dummies):xn es t':=by obtain⟨a',b',c',d',e',f',l'⟩:=t';subst h1 h2 h3;exact⟨T.rp,T.rd,T.sz,T.fl,T.bp,T.bd,T.dj,T.sm,T.rc⟩
theorem Tab.Su(T:Tab es t):xn es t:=⟨T.rp,T.rd,T.sz,by have:=T.tf;omega,T.bp,T.bd,T.dj,T.sm,T.rc⟩
theorem K8(T:Tab es t)(hs:∀i,t.slot s≠.live i)(hm:s<=t.mask)(hn:sq t.mask h n=s)(hp:∀m,m<n->t.slot (sq t.mask h m)≠.empty) :
  xn (SetTable.insertAt es (t.put s).2 (h,x)) (t.put s).1/\(t.slot s=.dummy->(t.put s).1.fill=t.fill):=by
 have nip:s∉t.place.toList:=λz=>by have:=(iP T.rp).mp z;exact hs _ ((nW T.rp).mpr this)
 have rp':qS (t.put s).1.place:=vH T.rp nip
 have rd':qS (t.put s).1.dummies:=by
  show qS (if SetTable.has t.dummies s=true then _ else _);split
  ·exact yi T.rd _
  ·exact T.rd
 have mp:∀y,y∈(t.put s).1.place.toList<->y=s\/y∈t.place.toList:=λy=>vJ
 have md:∀y,y∈(t.put s).1.dummies.toList->y∈t.dummies.toList/\y≠s:=λy hy=>by
  have hy:y∈(if SetTable.has t.dummies s=true then SetTable.eraseAt t.dummies (SetTable.below t.dummies s)else t.dummies).toList:=hy;split at hy
  ·rename_i hd;exact(yn T.rd ((kP T.rd).mp hd)).mp hy
  ·rename_i hd;exact⟨hy,λz=>hd ((kP T.rd).mpr (z▸hy))⟩
 have ple:SetTable.below t.place s<=t.place.size:=(iO T.rp s).2.2;have psz:(t.put s).1.place.size=t.place.size+1:=jl;have tf:=T.tf;unfold SetTable.fill at tf;have hmask:7<=t.mask:=by have h:=T.sm;unfold sizeOk at h;simp only[Ux,X9,UZ]at h;omega
 have dsz:(t.put s).1.dummies.size<=t.dummies.size:=by
  show(if SetTable.has t.dummies s=true then SetTable.eraseAt t.dummies (SetTable.below t.dummies s)else t.dummies).size<=_;split
  ·rename_i hd;have hb:=(iP T.rd).mp ((kP T.rd).mp hd);rw[vI (Vn.mp hb).1];omega
  ·exact Uy _
 refine⟨⟨rp',rd',?_,?_,λj hj=>?_,λj hj=>T.bd j (md j hj).1,λj hj hj'=>?_,T.sm,λi e j hi hj=>?_⟩,λhd=>?_⟩
 ·rw[psz,jl,T.sz]
 ·unfold SetTable.fill;rw[psz];show t.place.size+1+(t.put s).1.dummies.size<=t.mask;omega
 ·rcases(mp j).mp hj with rfl|hj
  ·exact hm
  ·exact T.bp j hj
 ·obtain⟨d1,d2⟩:=md j hj;rcases(mp j).mp hj' with z|z
  ·exact d2 z
  ·exact T.dj j d1 z
 ·have hj':(SetTable.insertAt t.place (SetTable.below t.place s) s)[i]?=some j:=hj;have hi':(SetTable.insertAt es (SetTable.below t.place s) (h,x))[i]?=some e:=hi;rw[vK ple]at hj';rw[vK (by rw[<- T.sz];exact ple)]at hi';have old:∀i',es[i']?=some e->t.place[i']?=some j->∃n,sq t.mask e.1 n=j/\∀m,m<n->(t.put s).1.slot (sq t.mask e.1 m)≠.empty:=λi' a b=>by obtain⟨n',n1,n2⟩:=T.rc i' e j a b;exact⟨n',n1,λm hm' z=>n2 m hm' (yo T hs _ z)⟩
  show ∃n,sq t.mask e.1 n=j/\∀m,m<n->(t.put s).1.slot (sq t.mask e.1 m)≠.empty;by_cases h1:i<SetTable.below t.place s
  ·rw[if_pos h1]at hi' hj';exact old i hi' hj'
  ·rw[if_neg h1]at hi' hj';by_cases h2:i=SetTable.below t.place s
   ·rw[if_pos h2]at hi' hj';cases hi';cases hj';exact⟨n,hn,λm hm' z=>hp m hm' (yo T hs _ z)⟩
   ·rw[if_neg h2]at hi' hj';exact old _ hi' hj'
 ·have hd':=CF T.rp T.rd hd;have hh:=(kP T.rd).mpr hd';unfold SetTable.fill;rw[psz];have:(t.put s).1.dummies.size=t.dummies.size-1:=by show(if SetTable.has t.dummies s=true then SetTable.eraseAt t.dummies (SetTable.below t.dummies s)else t.dummies).size=_;rw[if_pos hh];exact vI (Vn.mp ((iP T.rd).mp hd')).1
  rw[this];have:0<t.dummies.size:=by have:=List.length_pos_of_mem hd';simpa using this
  omega
noncomputable def Be(owner:Array (Option Nat))(j:Nat):Prop:=(owner.getD j (some 0)).isNone=false
theorem sA(mask:Nat):∀(k:Nat) (c:Pc),k<=c.more->steps mask k c=⟨c.j+k,c.more-k,c.i,c.pt⟩
 |0,c,_=>by rfl
 |k+1,c,h=>by
  have e:step mask c=⟨c.j+1,c.more-1,c.i,c.pt⟩:=by grind[step]
  simp[steps];rw[e,sA mask k _ (by grind)]
  grind
theorem yp:∀(fuel i pt:Nat),(∃n,n<fuel/\¬ Be owner (fY mask n (dR mask i pt)).j) ->
  ∃n,SetTable.layClean.free mask owner fuel i pt=some (steps mask n (dR mask i pt)).j/\¬ Be owner (steps mask n (dR mask i pt)).j/\∀m,m<n->Be owner (steps mask m (dR mask i pt)).j
 |0,i,pt,⟨n,hn,_⟩=>by omega
 |fuel+1,i,pt,⟨n,hn,hf⟩=>by
  have hre:SetTable.runEnd mask i+1-i=(dR mask i pt).more+1:=by
   show _=SetTable.runEnd mask i-i+1
   grind[SetTable.runEnd]
  simp only[SetTable.layClean.free];rw[hre]
  cases hfi:(List.range ((dR mask i pt).more+1)).find? λk=>(owner.getD (i+k) (some 0)).isNone with
  |some k=>
   dsimp only;obtain⟨h1,h2,h3⟩:=List.find?_range_eq_some.mp hfi;have hk:k<=(dR mask i pt).more:=by have:=Vf.mp h2;omega
   have es:∀m,m<=k->(steps mask m (dR mask i pt)).j=i+m:=λm hm=>by rw[sA mask m _ (by omega)];rfl
   refine⟨k,by rw[es k (Uy _)],?_,λm hm=>?_⟩
   ·rw[es k (Uy _)];unfold Be;rw[h1];simp
   ·rw[es m (by omega)];have:=h3 m hm;simpa [Be]using this
  |none=>
   dsimp only;have h1:=List.find?_range_eq_none.mp hfi;have occ:∀m,m<(dR mask i pt).more+1->Be owner (steps mask m (dR mask i pt)).j:=λm hm=>by rw[sA mask m _ (by omega)];have:=h1 m hm;show Be owner (i+m);simpa [Be]using this
   have hn0:n≠0:=λz=>by subst z;have:=occ 0 (by omega);exact hf this
   obtain⟨n',rfl⟩:∃n',n=n'+1:=⟨n-1,by omega⟩;have tl:=zv mask (dR mask i pt).more (dR mask i pt) rfl;obtain⟨q,q1,q2,q3⟩:=yp (mask:=mask) (owner:=owner) fuel (SetTable.leap mask i pt).1 (SetTable.leap mask i pt).2 ⟨n',by omega,hf⟩;have es:∀m,steps mask ((dR mask i pt).more+1+m) (dR mask i pt)=steps mask m (dR mask (SetTable.leap mask i pt).1 (SetTable.leap mask i pt).2):=λm=>by rw[nX,tl];rfl
   refine⟨(dR mask i pt).more+1+q,by rw[es];exact q1,by rw[es];exact q2,λm hm=>?_⟩;by_cases hmm:m<(dR mask i pt).more+1
   ·exact occ m hmm
   ·have:=q3 (m-((dR mask i pt).more+1)) (by omega);rw[<- es]at this;rw[show m=(dR mask i pt).more+1+(m-((dR mask i pt).more+1))by omega];exact this
noncomputable def cH(mask:Nat)(owner:Array (Option Nat)):List (Nat×Nat):=(List.range (mask+1)).filterMap λj=>(owner.getD j none).map (j,·)
theorem Bf{α β:Type}{f g:α->Option β}:∀{l:List α},(∀x∈l,g x=f x)->l.filterMap g=l.filterMap f
 | [],_=>rfl
 |a::l,h=>by have ih:=Bf λx hx=>h x (UD _ hx);rw[Wv,Wv,h a (UL ..),ih]
theorem Iw{α β:Type}{f g:α->Option β}{j:α}{v:β}(hf:f j=none)(hg:g j=some v):∀{l:List α},l.Nodup->j∈l->(∀x∈l,x≠j->f x=g x)->List.Perm (l.filterMap g) (v::l.filterMap f)
 | [],_,h,_=>by grind
 |a::l,nd,h,e=>by
  obtain⟨n1,n2⟩:=VN.mp nd;by_cases z:a=j
  ·subst z;rw[Ws hg,List.filterMap_cons_none hf];have:l.filterMap g=l.filterMap f:=Bf λx hx=>(e x (UD _ hx) (λq=>n1 (q▸hx))).symm;rw[this]
  ·have hj:j∈l:=by
    grind
   have ih:=Iw hf hg n2 hj λx hx=>e x (UD _ hx);have ea:=e a (UL ..) z
   cases hfa:f a with
   |none=>simp_all
   |some b=>rw[Ws (by rw[<- ea];exact hfa),Ws hfa];exact(ih.cons b).trans (.swap _ _ _)
structure Own(mask:Nat)(hs:List Int)(js:List Nat)(owner:Array (Option Nat)):Prop where
 sz:owner.size=mask+1
 ln:js.length=hs.length
 lv:List.Perm (cH mask owner) (js.zip (List.range hs.length))
 rc:∀(k:Nat) (h:Int) (j:Nat),hs[k]?=some h->js[k]?=some j->∃n,sq mask h n=j/\∀m,m<n->Be owner (sq mask h m)
noncomputable def K9(mask:Nat)(acc:Option (Array (Option Nat)×Nat))(h:Int):Option (Array (Option Nat)×Nat):=do
    let (owner,k) <- acc
    let j <- SetTable.layClean.free mask owner (SetTable.turns mask) (SetTable.bits h % (mask+1)) (SetTable.bits h)
    pure (owner.setIfInBounds j (some k),k+1)
theorem Iy(hm:sizeOk (mask+1)=true)(O:Own mask hs js owner)(hl:hs.length<=mask)(h:Int) :
  ∃j owner',K9 mask (some (owner,hs.length)) h=some (owner',hs.length+1)/\Own mask (hs++[h]) (js++[j]) owner':=by
 have occ_iff:∀j,Be owner j<->owner[j]?≠some none:=λj=>by
  unfold Be;rw[Vm]
  cases owner[j]? with
  |none=>simp
  |some o=>cases o<;>simp
 have hfree:∃e,e<=mask/\¬ Be owner e:=by
  apply Vj;intro z
  have hp:=CH (mask+1) ((cH mask owner).map (·.1)) λe he=>by
   have ho:Be owner e:=Vj λq=>z ⟨e,by omega,q⟩;rw[occ_iff]at ho;have hlt:e<owner.size:=by rw[O.sz];exact he
   rw[U1 hlt]at ho
   cases hv:owner[e]with
   |none=>rw[hv]at ho;exact absurd rfl ho
   |some k=>refine UU.mpr ⟨(e,k),V9.mpr ⟨e,Vf.mpr he,?_⟩,rfl⟩;simp[Array.getD,hlt,hv]
  rw[US,O.lv.length_eq,List.length_zip,O.ln]at hp;simp at hp;omega
 obtain⟨e,he,hne⟩:=hfree;obtain⟨n,hn,en⟩:=ym hm (c:=c0 mask h) (Eo h) he
 obtain⟨q,q1,q2,q3⟩:=yp (mask:=mask) (owner:=owner) (SetTable.turns mask) (SetTable.bits h % (mask+1)) (SetTable.bits h) ⟨n+1,by unfold SetTable.turns;omega,by
  have:(fY mask (n+1) (dR mask (SetTable.bits h % (mask+1)) (SetTable.bits h))).j=e:=en
  rw[this];exact hne⟩
 generalize hj:(steps mask q (dR mask (SetTable.bits h % (mask+1)) (SetTable.bits h))).j=j at q1 q2;have hjn:owner[j]?=some none:=Vj λz=>q2 ((occ_iff j).mpr z);have hjl:j<owner.size:=(Vn.mp hjn).1
 have get':∀x,(owner.setIfInBounds j (some hs.length))[x]?=if x=j then some (some hs.length)else owner[x]?:=λx=>by
  rw[Array.getElem?_setIfInBounds];by_cases z:j=x
  ·subst z;simp[hjl]
  ·rw[if_neg z,if_neg (λq=>z q.symm)]
 have occ':∀x,Be owner x->Be (owner.setIfInBounds j (some hs.length)) x:=λx hx=>by
  unfold Be at hx ⊢;rw[Vm]at hx ⊢;rw[get'];by_cases z:x=j
  ·rw[if_pos z];rfl
  ·rw[if_neg z];exact hx
 refine⟨j,owner.setIfInBounds j (some hs.length),?_,⟨by simp[O.sz],by simp[O.ln],?_,λk h' j' a b=>?_⟩⟩
 ·unfold K9;simp only[Option.bind_eq_bind,Option.bind_some];rw[q1];rfl
 ·have hp:List.Perm (cH mask (owner.setIfInBounds j (some hs.length))) ((j,hs.length)::cH mask owner):=by
   refine Iw (j:=j) ?_ ?_ List.nodup_range (Vf.mpr (by rw[<- O.sz];exact hjl)) λx _ hx=>?_
   ·rw[Vm,hjn];rfl
   ·rw[Vm,get',if_pos rfl];rfl
   ·rw[Vm,Vm,get',if_neg hx]
  refine hp.trans ((O.lv.cons _).trans ?_);rw[UP,XD,List.range_succ,List.zip_append (by simp[O.ln])];exact(List.perm_append_singleton _ _).symm
 ·by_cases z:k<hs.length
  ·rw[UX z]at a;rw[UX (by rw[O.ln];exact z)]at b;obtain⟨n',n1,n2⟩:=O.rc k h' j' a b;exact⟨n',n1,λm hm'=>occ' _ (n2 m hm')⟩
  ·have hk:k=hs.length:=by
    have:=(UB.mp a).1;simp at this;omega
   subst hk;rw[Vb (Uy _)]at a;rw[<- O.ln,Vb (Uy _)]at b;simp at a b;subst a;subst b;exact⟨q,hj,λm hm'=>occ' _ (q3 m hm')⟩
theorem Ep(hm:sizeOk (mask+1)=true):∀(hs2 hs:List Int) (js:List Nat) (owner:Array (Option Nat)),Own mask hs js owner->(hs++hs2).length<=mask+1 ->
  ∃js' owner',hs2.foldl (K9 mask) (some (owner,hs.length))=some (owner',(hs++hs2).length)/\Own mask (hs++hs2) js' owner'
 | [],hs,js,owner,O,_=>⟨js,owner,by simp,by grind⟩
 |h::hs2,hs,js,owner,O,hl=>by
  obtain⟨j,owner',e,O'⟩:=Iy hm O (by grind) h;obtain⟨js',owner2,e2,O2⟩:=Ep hm hs2 _ _ _ O' (by grind);refine⟨js',owner2,?_,by simp_all⟩
  simp_all
theorem Bg(mask:Nat)(hashes:Array Int):SetTable.layClean mask hashes=(hashes.toList.foldl (K9 mask) (some (Array.replicate (mask+1) none,0))).map (·.1):=by unfold SetTable.layClean;rw[<- Array.foldl_toList];rfl
theorem La(mask:Nat):Own mask [] [] (Array.replicate (mask+1) none):=by
 refine⟨by simp,rfl,?_,λk h j a=>by simp⟩
 simp_all[cH]
theorem CJ{α:Type}{es:Array α}:∀{l:List (Nat×Nat)},(∀p∈l,p.2<es.size)->((l.map (·.2)).filterMap (λk=>es[k]?)).length=l.length/\∀(i:Nat) (p:Nat×Nat),l[i]?=some p->((l.map (·.2)).filterMap (λk=>es[k]?))[i]?=es[p.2]?
 | [],_=>⟨rfl,λi p h=>by grind⟩
 |a::l,h=>by
  obtain⟨h1,h2⟩:=CJ (l:=l) λp hp=>h p (UD _ hp);have ha:=h a (UL ..);rw[U3,Ws (U1 ha)];refine⟨by grind,λi p hi=>?_⟩
  cases i with
  |zero=>simp_all
  |succ i=>simpa using h2 i p (by simpa using hi)
theorem Lb{es:Yh}(hm:sizeOk (mask+1)=true)(hn:es.size*5<mask*3)(finger moves:Nat)(led plain:Bool) :
  ∃t' order,SetTable.laid mask finger moves led plain (es.map (·.1))=some (t',order)/\Tab (order.filterMap (es[·]?)) t'/\List.Perm (order.filterMap (es[·]?)).toList es.toList/\t'.mask=mask/\t'.led=led/\List.Perm order.toList (List.range es.size):=by
 obtain⟨js,owner,e,O⟩:=Ep hm (es.map (·.1)).toList [] [] _ (La mask) (by grind);simp only[V2,Vq]at e O;have hlen:(es.map (·.1)).toList.length=es.size:=by simp
 have hsnd:List.Perm ((cH mask owner).map (·.2)) (List.range es.size):=by have:=O.lv.map (·.2);rw[hlen]at this;refine this.trans ?_;rw[List.map_snd_zip (by rw[O.ln,hlen];simp)]
 have hbelow:∀p∈cH mask owner,p.2<es.size:=λp hp=>by have:=hsnd.mem_iff.mp (UU.mpr ⟨p,hp,rfl⟩);exact Vf.mp this
 obtain⟨g1,g2⟩:=CJ (es:=es) hbelow;have hfst:((cH mask owner).map (·.1)).Pairwise (· < ·):=by rw[WX];unfold cH;rw[List.pairwise_filterMap];refine List.Pairwise.imp ?_ List.pairwise_lt_range;intro a b hab x hx y hy;rw[Ve]at hx hy;obtain⟨_,_,rfl⟩:=hx;obtain⟨_,_,rfl⟩:=hy;exact hab
 have hmem:∀p∈cH mask owner,p.1<=mask/\owner.getD p.1 none=some p.2:=λp hp=>by obtain⟨j,hj,ej⟩:=V9.mp hp;rw[Ve]at ej;obtain⟨k,hk,rfl⟩:=ej;exact⟨by have:=Vf.mp hj;omega,hk⟩
 refine⟨{mask,place:=((cH mask owner).map (·.1)).toArray,dummies:=#[],finger,led,moves,plain},((cH mask owner).map (·.2)).toArray,?_,?_,?_,rfl,rfl,by simpa using hsnd⟩
 ·unfold SetTable.laid;rw[Bg,e];rfl
 ·have efm:((((cH mask owner).map (·.2)).toArray.filterMap (es[·]?)):Array _)=(((cH mask owner).map (·.2)).filterMap (λk=>es[k]?)).toArray:=by simp
  have llen:(cH mask owner).length=es.size:=by have:=hsnd.length_eq;simpa using this
  refine⟨hfst,List.Pairwise.nil,?_,?_,λj hj=>?_,λj hj=>by simp at hj,λj hj=>by simp at hj,hm,λi e' j h1 h2=>?_⟩
  ·rw[efm,UG,UG,g1,US]
  ·show(((cH mask owner).map (·.1)).toArray.size+0)*5<mask*3;simp only[UG,US,llen,Nat.add_zero];exact hn
  ·obtain⟨p,hp,rfl⟩:=UU.mp (by simpa using hj:j∈(cH mask owner).map (·.1));exact(hmem p hp).1
  ·rw[efm]at h1;have h2':((cH mask owner).map (·.1))[i]?=some j:=by simpa using h2
   rw[Vs,Ve]at h2';obtain⟨p,hp,rfl⟩:=h2';have h1':(((cH mask owner).map (·.2)).filterMap (λk=>es[k]?))[i]?=some e':=by simpa using h1
   rw[g2 i p hp]at h1';have pm:=UO hp;have pz:=O.lv.mem_iff.mp pm;rw[hlen]at pz;obtain⟨k,hk,ek⟩:=WB pz;rw[List.getElem_zip]at ek;simp only[List.getElem_range]at ek;have ek1:js[k]?=some p.1:=by rw[<- WH Prod.fst ek];exact UH _
   have ek2:p.2=k:=(WH Prod.snd ek).symm;obtain⟨n,n1,n2⟩:=O.rc k e'.1 p.1 (by simp only[Array.toList_map,Vs,U7];rw[<- ek2,h1'];rfl) ek1;refine⟨n,n1,λm hm' z=>?_⟩;have oc:=n2 m hm';have z':SetTable.slot {mask,place:=((cH mask owner).map (·.1)).toArray,dummies:=#[],finger,led,moves,plain} (sq mask e'.1 m)=.empty:=z;rw[kQ (t:={mask,place:=((cH mask owner).map (·.1)).toArray,dummies:=#[],finger,led,moves,plain}) hfst List.Pairwise.nil]at z';by_cases hin:sq mask e'.1 m<owner.size
   ·unfold Be at oc;rw[Vm,U1 hin]at oc;simp only[XM]at oc
    cases hv:owner[sq mask e'.1 m]with
    |none=>rw[hv]at oc;simp at oc
    |some k'=>refine z'.1 ?_;have:sq mask e'.1 m∈(cH mask owner).map (·.1):=UU.mpr ⟨(sq mask e'.1 m,k'),V9.mpr ⟨_,Vf.mpr (by rw[<- O.sz];exact hin),by simp[Array.getD,hin,hv]⟩,rfl⟩;simpa using this
   ·exfalso
    have bound:∀q (c:Pc),c.j+c.more<=mask->(steps mask q c).j+(steps mask q c).more<=mask:=by
     intro q
     induction q with
     |zero=>intro c hc;exact hc
     |succ q ih=>
      intro c hc;simp only[steps];refine ih _ ?_;unfold step;split
      ·show c.j+1+(c.more-1)<=mask;omega
      ·show(SetTable.leap mask c.i c.pt).1+(SetTable.runEnd mask (SetTable.leap mask c.i c.pt).1-(SetTable.leap mask c.i c.pt).1)<=mask;have:(SetTable.leap mask c.i c.pt).1<mask+1:=XU _ (by omega);unfold SetTable.runEnd;split<;>omega
    have hb:=bound m (c0 mask e'.1) (by
     show SetTable.bits e'.1 % (mask+1)+(SetTable.runEnd mask (SetTable.bits e'.1 % (mask+1))-SetTable.bits e'.1 % (mask+1))<=mask;have:SetTable.bits e'.1 % (mask+1)<mask+1:=XU _ (by omega);unfold SetTable.runEnd
     split<;>omega)
    have:sq mask e'.1 m<=mask:=by unfold sq;omega
    rw[O.sz]at hin;omega
 grind[Array.toList_filterMap,filterMap_getElem?_range]
theorem qT:∀n,n<1024->(n<SetTable.sizeAbove n/\SetTable.sizeAbove n∈[8,16,32,64,128,256,512,1024]):=by trivial
theorem FZ(h:m∈[8,16,32,64,128,256,512,1024]):sizeOk m=true:=by
 obtain⟨a,b,c,d,e,f,g,i⟩:=Mo;simp at h
 grind
theorem F0{es:Yh}{t:Yu}(hw:wanted<1024)(hn:es.size*5<wanted*3\/es.size<=4) :
  ∃t' order,t.relaid (es.map (·.1)) wanted=some (t',order)/\Tab (order.filterMap (es[·]?)) t'/\List.Perm (order.filterMap (es[·]?)).toList es.toList/\t'.led=t.led/\List.Perm order.toList (List.range es.size)/\t'.mask+1=SetTable.sizeAbove wanted/\SetTable.sizeAbove wanted<=1024:=by
 obtain⟨h1,h2⟩:=qT wanted hw;have h8:8<=SetTable.sizeAbove wanted:=by simp[UC,UW,VH]at h2;omega
 have e:SetTable.sizeAbove wanted-1+1=SetTable.sizeAbove wanted:=by omega
 obtain⟨t',order,a,b,c,d,f,g⟩:=Lb (es:=es) (by rw[e];exact FZ h2) (by omega) t.finger (t.movedTo (SetTable.sizeAbove wanted-1)) t.led t.plain;exact⟨t',order,a,b,c,f,g,by omega,by simp only[UC,UW,VH]at h2;omega⟩
end Stt
namespace Stt
open PySem PySem.Spec L2 Ml
structure El(vp:Value->Prop)(w:World)(h:Heap)(md:Bool)(e:Int×Value)(d:PyData):Prop where
 tr:aE d=true
 dp:d.depth<=8
 so:dz d=true
 hs:e.1=tj w d
 kd:iG d=md
 rd:∃as,Reads h e.2 d as
 vl:vp e.2
noncomputable abbrev bQ(es:Yh)(ep:Nat)(t:Yu):Obj:={cls:=.type "set",dict:=none,data:=.set es ep t,slots:=#[]}
noncomputable abbrev cU(w:World):Bool:=w.params.followText "set-order"
structure fZ(vp:Value->Prop)(w:World)(h:Heap)(a:Addr)(md:Bool)(ds:Yj)(es:Yh)(ep:Nat)(t:Yu):Prop where
 ob:h.get? a=some (bQ es ep t)
 tb:Tab es t
 ld:t.led=true\/cU w=true
 nd:ds.Nodup
 ln:ds.length<=120
 el:Paired (El vp w h md) es.toList ds
noncomputable def lF(vp:Value->Prop)(w:World)(h:Heap)(a:Addr)(md:Bool)(ds:Yj):Prop:=∃es ep t,fZ vp w h a md ds es ep t
theorem El.keep(x:El vp w h md e d)(k:∀b o vs n,h.get? b=some o->o.cls=.type "tuple" -> o.data=.seq vs n->h'.get? b=some o):El vp w h' md e d:=
 ⟨x.tr,x.dp,x.so,x.hs,x.kd,by obtain⟨as,r⟩:=x.rd;exact⟨as,j0 k x.tr r⟩,x.vl⟩
theorem fZ.size(S:fZ vp w h a md ds es ep t):es.size=ds.length:=by
 have:=U2 S.el
 grind
theorem gc{R:α->β->Prop}:∀{xs:List α} {ys:List β},Paired R xs ys->∀{i:Nat} {x:α},xs[i]?=some x->∃y,ys[i]?=some y/\R x y
 |_,_,.nil,i,x,h=>by simp at h
 |_,_,.cons r _,0,x,h=>by grind
 |_,_,.cons _ t,i+1,x,h=>by simpa using gc t (by simp_all)
theorem jm{R:α->β->Prop}:∀{xs:List α} {ys:List β},Paired R xs ys->∀{i:Nat} {y:β},ys[i]?=some y->∃x,xs[i]?=some x/\R x y
 |_,_,.nil,i,x,h=>by simp at h
 |_,_,.cons r _,0,x,h=>by grind
 |_,_,.cons _ t,i+1,x,h=>by simpa using jm t (by simp_all)
theorem fZ.get(S:fZ vp w h a md ds es ep t){i:Nat}{e:Int×Value}(he:es[i]?=some e):∃d,ds[i]?=some d/\El vp w h md e d:=by rw[<- U7]at he;exact gc S.el he
section
variable {P:Yt} {w:World} {A:Yv} {E:Ye} {s:Yw} {vp:Value->Prop}
theorem QH(x:El vp w s.heap md e d)(y:El vp w s.heap md' e' d')(hu:A.units+20<cLine)(h:Q (decide (d=d')) s):wpAny (model P w) A (eqBool e.2 e'.2) Q E s:=by
 obtain⟨as,r1⟩:=x.rd;obtain⟨bs,r2⟩:=y.rd
 have hq:PyData.eqv d d'=decide (d=d'):=by
  by_cases z:d=d'
  ·subst z;rw[Vc rfl];exact bf (aU x.tr)
  ·rw[U0 z];exact aW (aU x.tr) (aU y.tr) z
 have:=XN d d' A s _ _ _ _ r1 r2 (jC x.so (dZ (aU x.tr))) (jC y.so (dZ (aU y.tr))) (by have:=x.dp;omega) P w E Q
 grind
mutual
theorem mO:∀(d:PyData) (n:Nat) (A:Yv) (s:Yw) (v:Value) (as:Yk) (Q:Bool->Yw->Prop) (E:Ye),aE d=true->d.depth<=n->Reads s.heap v d as->Q false s->wpAny (model P w) A (ofAClassStatement n v) Q E s
 |.str x,n,A,s,v,as,Q,E,_,_,r,h=>by cases r;unfold ofAClassStatement;exact Uw h
 |.tuple ds,n,A,s,v,as,Q,E,t,hn,r,h=>by
  cases r with
  |tuple ho hc hd hi=>
   rename_i a o items k;have hT:s.TypeIs (.ref a) "tuple" := ⟨o,ho,hc⟩;simp only[aE]at t;simp only[PyData.depth]at hn;obtain⟨m,rfl⟩:∃m,n=m+1:=⟨n-1,by omega⟩;unfold ofAClassStatement;refine Uu (XC hT ?_);show wpAny _ _ (if("tuple" == "tuple")=true then _ else _) _ _ s;rw[if_pos (by decide)];refine Uu (Uw ?_);simp only[WW,UK,Vr];refine Uu (Vw ho hd ?_);refine Uu ?_;show wpAny _ _ (forIn items _ _) _ _ s;rw[<- Xn];refine oX ds m A s items.toList _ _ E _ t (by omega) hi ?_ ?_
   ·intro x s' R k;refine Uu (VA k (λc s2 q=>?_) λ_ _ z=>z);obtain⟨rfl,q⟩:=q;simp only[UK,Vr];exact Uw q
   ·exact Uw h
 |.none,_,_,_,_,_,_,_,t,_,_,_=>by simp[aE]at t
 |.bool _,_,_,_,_,_,_,_,t,_,_,_=>by simp[aE]at t
 |.int _,_,_,_,_,_,_,_,t,_,_,_=>by simp[aE]at t
 |.list _,_,_,_,_,_,_,_,t,_,_,_=>by simp[aE]at t
 |.dict _,_,_,_,_,_,_,_,t,_,_,_=>by simp[aE]at t
theorem oX:∀(ds:Yj) (n:Nat) (A:Yv) (s:Yw) (vs:Yl) (as:Yk) (R:Option Bool×Unit->Yw->Prop) (E:Ye) (body:Value->Option Bool×Unit->Sem (ForInStep (Option Bool×Unit))),bx ds=true->PyData.depthAll ds<=n->ReadsAll s.heap vs ds as ->
  (∀(x:Value) (s':Yw) (R':ForInStep (Option Bool×Unit)->Yw->Prop),wpAny (model P w) A (ofAClassStatement n x) (λc s2=>c=false/\R' (.yield (none,())) s2) E s'->wpAny (model P w) A (body x (none,())) R' E s') ->
  R (none,()) s->wpAny (model P w) A (forIn vs (none,()) body) R E s
 | [],n,A,s,_,_,R,E,body,_,_,.nil,hb,h=>by rw[Xz];exact Uw h
 |d::ds,n,A,s,_,_,R,E,body,t,hn,.cons r1 r2,hb,h=>by simp only[bx,Ux]at t;simp only[PyData.depthAll]at hn;rw[V3];refine Uu (hb _ _ _ (mO d n A s _ _ _ E t.1 (by omega) r1 ⟨rfl,?_⟩));exact oX ds n A s _ _ R E body t.2 (by omega) r2 hb h
end
theorem yq{G:Value->Prop}{R:Option Bool×Unit->Yw->Prop}(hb:∀y,G y->∀R':ForInStep (Option Bool×Unit)->Yw->Prop,R' (.yield (none,())) s->wpAny (model P w) A (body y (none,())) R' E s) :
  ∀ys:Yl,(∀y∈ys,G y)->R (none,()) s->wpAny (model P w) A (forIn ys (none,()) body) R E s
 | [],_,h=>Uw h
 |y::ys,g,h=>by rw[V3];refine Uu (hb y (g y (UL ..)) _ ?_);exact yq hb ys (λz hz=>g z (UD _ hz)) h
theorem Iz(hx:El vp w s.heap md (h0,x) d)(hq:Q false s)(ys:Yl)(hys:∀y∈ys,∃h1 d1,El vp w s.heap md (h1,y) d1):wpAny (model P w) A (searchCouldBeSeen x ys) Q E s:=by
 unfold searchCouldBeSeen;refine Uu (yq (G:=λy=>∃h1 d1,El vp w s.heap md (h1,y) d1) (λy gy R' hR=>?_) ys hys (Uw hq));obtain⟨h1,d1,hy⟩:=gy;obtain⟨as,r1⟩:=hx.rd;obtain⟨bs,r2⟩:=hy.rd;dsimp only;refine VR (λ_=>Uw hR) λ_=>?_
 ·skip
  refine Uu (jf d 8 A s x as _ E hx.tr hx.dp r1 ?_);simp only[WW,UK,Vr];refine Uu (jf d1 8 A s y bs _ E hy.tr hy.dp r2 ?_);simp only[WW,UK,Vr];refine Uu (mO d 8 A s x as _ E hx.tr hx.dp r1 ?_);simp only[UK,Vr];refine Uu (mO d1 8 A s y bs _ E hy.tr hy.dp r2 ?_);simp only[UK,Vr];exact Uw hR
theorem Bh(x:El vp w h true e d):isSame e.2 e.2=pure true:=by
 obtain⟨as,r⟩:=x.rd;have k:=x.kd;obtain⟨e1,v⟩:=e;dsimp only at r ⊢
 cases r with
 |tuple=>exact if_pos (beq_self_eq_true _)
 |_=>simp[iG]at k
noncomputable def Pl(es:Yh)(i:Nat):Int:=(es[i]?.map (·.1)).getD 0
theorem fh(ho:s.heap.get? a=some (bQ es ep t))(hf:t.fits es.size=true)(h:Q (es,ep,t) s):wpAny (model P w) A (setState a) Q E s:=wpAny_setState_of ho rfl hf h
noncomputable def bJ(t:Yu)(h:Int)(slot:Nat)(wd:Bool):Prop:=(t.slot slot=if wd=true then .dummy else .empty)/\∃n,sq t.mask h n=slot/\∀m,m<n->t.slot (sq t.mask h m)≠.empty
theorem Bi(S:fZ vp w s.heap a true ds es ep t)(hx:El vp w s.heap true (h0,x) d)(hu:A.units+20<cLine)
 (hN:t.slot (sq t.mask h0 N)=.empty)(hne:∀m,m<N->t.slot (sq t.mask h0 m)≠.empty)(hNl:N<10*SetTable.turns t.mask)
 (q1:d∉ds->∀slot wd,bJ t h0 slot wd->Q (.free slot wd) s)(q2:d∈ds->∀i,ds[i]?=some d->Q (.there (if adding=true then none else some i)) s) :
  ∀(fuel n:Nat) (st:Option SetTable.Probe),n<=N->N-n<fuel->pc (st.getD (t.probeStart h0))=steps t.mask n (c0 t.mask h0)->Dm t h0 n (st.getD (t.probeStart h0)).dummy ->
   (∀m,m<n->∀i,t.slot (sq t.mask h0 m)=.live i->ds[i]?≠some d)->wpAny (model P w) A (setSearchFrom a x h0 adding fuel st) Q E s
 |0,n,st,h1,h2,h3,h4,h5=>by omega
 |fuel+1,n,st,h1,h2,h3,h4,h5=>by
  have T:=S.tb;have hsh:∀(i:Nat) (e:Int×Value),es[i]?=some e->Pl es i=e.1:=λi e he=>by unfold Pl;rw[he];rfl
  have hlive:∀(j i:Nat),t.slot j=.live i->∃e d',es[i]?=some e/\ds[i]?=some d'/\El vp w s.heap true e d':=λj i hl=>by
   have hp:=(nW T.rp).mp hl;have hi:i<es.size:=by rw[<- T.sz];exact(Vn.mp hp).1
   obtain⟨d',h1,h2⟩:=S.get (U1 hi);exact⟨es[i],d',U1 hi,h1,h2⟩
  have hdiff:∀(m i:Nat),t.slot (sq t.mask h0 m)=.live i->Pl es i≠h0->ds[i]?≠some d:=λm i hl hh z=>by obtain⟨e,d',e1,e2,e3⟩:=hlive _ i hl;rw[e2]at z;cases z;rw[hsh i e e1,e3.hs]at hh;exact hh hx.hs.symm
  unfold setSearchFrom;refine Uu (fh S.ob T.fits ?_);dsimp only;rw[T.odd];simp only[UK,Vr];have hg:=uB (hashAt:=Pl es) hN hne (10*SetTable.turns t.mask) n (st.getD (t.probeStart h0)) h1 (by omega) h3 h4;have hpr:∀met,SetTable.probe.go t (Pl es) h0 (10*SetTable.turns t.mask) (st.getD (t.probeStart h0))=some met->t.probe (Pl es) h0 (st.getD (t.probeStart h0))=some met:=λ_ e=>e;rcases hg with⟨dm,e1,e2,e3⟩|⟨k,i,q,e1,e2,e3,e4,e5,e6,e7,e8⟩
  ·
   have hnd:d∉ds:=λhm=>by
    obtain⟨i,hi⟩:=VG hm;obtain⟨e,he,hel⟩:=jm S.el hi;rw[U7]at he;have hil:i<t.place.size:=by rw[T.sz];exact(Vn.mp he).1
    obtain⟨n',n1,n2⟩:=T.rc i e t.place[i] he (U1 hil);have hh:e.1=h0:=hel.hs.trans hx.hs.symm;rw[hh]at n1 n2;have hsl:t.slot (sq t.mask h0 n')=.live i:=(nW T.rp).mpr (by rw[n1];exact U1 hil)
    have hnN:n'<N:=by
     apply Vj;intro z;by_cases z2:n'=N
     ·rw[z2,hN]at hsl;cases hsl
     ·exact n2 N (by omega) hN
    by_cases z:n'<n
    ·exact h5 n' z i hsl hi
    ·exact e3 n' (by omega) hnN i hsl (by rw[hsh i e he];exact hh)
   split
   case h_2 hno=>exact absurd (hpr _ e1) (hno _)
   rename_i met hmet;have hme:=hmet.symm.trans (hpr _ e1);cases hme;dsimp only;rcases e2 with rfl|⟨m,m1,rfl,m3⟩
   ·exact Uw (q1 hnd _ false ⟨by simpa using hN,N,rfl,hne⟩)
   ·dsimp only;rw[m3];have:(adding&&(SetTable.Slot.dummy != SetTable.Slot.dummy))=false:=by cases adding<;>rfl
    rw[this];simp only[UK,Vr];exact Uw (q1 hnd _ true ⟨by simpa using m3,m,rfl,λm' hm'=>hne m' (by omega)⟩)
  ·
   split
   case h_2 hno=>exact absurd (hpr _ e1) (hno _)
   rename_i met hmet;have hme:=hmet.symm.trans (hpr _ e1);cases hme;dsimp only;obtain⟨e,d',f1,f2,f3⟩:=hlive _ i e4
   have go:wpAny (model P w) A (do
     let some (_,y):=es[i]? | unsupported "internal:set-entry"
     let equal <- holding [y] (eqBool y x)
     let (es',_,t') <- setState a
     if adding&&equal then return SetFound.there none
     let some same:=t'.sameMemory t.moves t.mask|unsupported "set.changed-during-lookup:is-the-new-block-at-the-old-address"
     let still <- match (if same then t'.slot (sq t.mask h0 k)else .empty)with
      |.live i'=>match es'[i']? with
       |some (_,y')=>do pure (if <- isSame y' y then some i' else none)
       |none=>pure none
      |_=>pure none
     match still with
     |none=>rule "set.search.anew";setSearchFrom a x h0 adding fuel none
     |some i'=>if equal then return .there (some i')else setSearchFrom a x h0 adding fuel (some q)) Q E s:=by
    rw[f1];obtain⟨he,y⟩:=e;dsimp only;refine Uu (Va (QH f3 hx hu ?_));refine Uu (fh S.ob T.fits ?_);dsimp only;have hsm:t.sameMemory t.moves t.mask=some true:=by unfold SetTable.sameMemory;simp
    by_cases z:d'=d
    ·subst z;have hm:d'∈ds:=UO f2;have Q2:=q2 hm i f2
     cases adding with
     |true=>simp only[decide_true,Bool.and_self,Vu]at Q2 ⊢;exact Uw Q2
     |false=>simp only[Xy,UK,Vr]at Q2 ⊢;rw[hsm];dsimp only;rw[if_pos rfl,e4];dsimp only;rw[f1];dsimp only;refine Uu (W9 (a:=true) (Bh f3) ?_);refine Uu (Uw ?_);simp only[decide_true,Vu];exact Uw Q2
    ·simp only[U0 z,Bool.and_false,UK,Vr];rw[hsm];dsimp only;rw[if_pos rfl,e4];dsimp only;rw[f1];dsimp only;refine Uu (W9 (a:=true) (Bh f3) ?_);refine Uu (Uw ?_);simp only[Vu];refine Bi S hx hu hN hne hNl q1 q2 fuel (k+1) (some q) (by omega) (by omega) e6 e7 λm hm i' hi'=>?_;by_cases z1:m<n
     ·exact h5 m z1 i' hi'
     ·by_cases z2:m=k
      ·subst z2;rw[e4]at hi';cases hi';rw[f2];exact λq=>z (Vk q)
      ·exact hdiff m i' hi' (e8 m (by omega) (by omega) i' hi')
   by_cases hl:t.led=true
   ·rw[hl];simp only[WW,UK,Vr];exact go
   ·have hl':t.led=false:=by simpa using hl
    rw[hl'];simp only[Bool.not_false,Vu];refine Uu (Iz hx ?_ _ λy hy=>?_)
    ·simp only[UK,Vr];exact go
    ·obtain⟨e',he',rfl⟩:=UU.mp hy;have hm:e'∈es.toList:=by have:=he';simp at this;simpa using this.1
     obtain⟨i',hi'⟩:=VG hm;obtain⟨d2,_,hd2⟩:=gc S.el hi';exact⟨e'.1,d2,hd2⟩
end
theorem tO{R:α->β->Prop}:∀{xs:List α} {ys:List β} (p:Nat),Paired R xs ys->Paired R (xs.take p) (ys.take p)/\Paired R (xs.drop p) (ys.drop p)
 |_,_,0,h=>⟨.nil,by grind⟩
 |_,_,p+1,.nil=>⟨.nil,.nil⟩
 |_,_,p+1,.cons r t=>by obtain⟨a,b⟩:=tO p t;exact⟨.cons r a,by grind⟩
theorem vL{R:α->β->Prop}:∀{xs us:List α} {ys vs:List β},Paired R xs ys->Paired R us vs->Paired R (xs++us) (ys++vs)
 |_,_,_,_,.nil,h=>h
 |_,_,_,_,.cons r t,h=>.cons r (vL t h)
theorem xo{R:α->β->Prop}(p:Nat)(h:Paired R xs.toList ys)(r:R x y):Paired R (SetTable.insertAt xs p x).toList (ys.take p++y::ys.drop p):=by rw[Xf];obtain⟨a,b⟩:=tO p h;exact vL a (.cons r b)
theorem tP{R:α->β->Prop}(p:List.Perm xs xs'):∀{ys:List β},Paired R xs ys->∃ys',List.Perm ys ys'/\Paired R xs' ys':=by
 induction p with
 |nil=>exact λh=>⟨_,.refl _,h⟩
 |cons x _ ih=>
  intro ys h
  cases h with
  |cons r t=>obtain⟨ys',a,b⟩:=ih t;exact⟨_,a.cons _,.cons r b⟩
 |swap x y l=>
  intro ys h
  cases h with
  |cons r t=>
   cases t with
   |cons r' t=>exact⟨_,.swap _ _ _,.cons r' (.cons r t)⟩
 |trans _ _ ih1 ih2=>intro ys h;obtain⟨y1,a,b⟩:=ih1 h;obtain⟨y2,c,d⟩:=ih2 b;exact⟨y2,a.trans c,d⟩
theorem vM(ds:Yj)(p:Nat)(d:PyData):List.Perm (ds.take p++d::ds.drop p) (d::ds):=by have:=VS p ds;exact List.perm_middle.trans (by grind)
theorem Er{ds ds':Yj}(p:List.Perm ds ds')(h:ds.Nodup):ds'.Nodup:=p.nodup_iff.mp h
section
variable {P:Yt} {w:World} {A:Yv} {E:Ye} {s:Yw} {vp:Value->Prop}
theorem El.text(x:El vp w h false e d):∃y t,d=.str y/\e.2=.str y t/\e.1=hashStr w y:=by
 obtain⟨as,r⟩:=x.rd;have k:=x.kd;have t:=x.tr;have hs:=x.hs;obtain⟨e1,v⟩:=e
 cases r with
 |str y u=>exact⟨y,u,rfl,rfl,hs⟩
 |tuple=>trivial
 |_=>trivial
theorem El.refs(x:El vp w h true e d):∃a,e.2=.ref a:=by
 obtain⟨as,r⟩:=x.rd;have k:=x.kd;obtain⟨e1,v⟩:=e
 cases r with
 |tuple=>grind
 |_=>trivial
theorem Bj(p:Paired (El vp w h false) es ds):ElemsOf (strKind P w) es:=by intro e he;obtain⟨i,hi⟩:=VG he;obtain⟨d,_,x⟩:=gc p hi;obtain⟨y,t,e1,e2,e3⟩:=x.text;exact⟨⟨y,by rw[e2];show Value.isStrOf y (.str y t)=true;simp[Value.isStrOf],e3⟩,by rw[e2];rfl⟩
theorem IA(p:Paired (El vp w h false) es ds)(y:Str) :
  match es.findIdx? (λe=>(strKind P w).is y e.2)with
  |some j=>ds[j]?=some (.str y)
  |none=>PyData.str y∉ds:=by
 have hk:∀{e:Int×Value} {d:PyData},El vp w h false e d->((strKind P w).is y e.2=true<->d=.str y):=λ{e d} x=>by
  obtain⟨z,t,rfl,e2,_⟩:=x.text;rw[e2];show Value.isStrOf y (.str z t)=true<->_;constructor
  ·intro q;obtain⟨u,hu⟩:=Value.isStrOf_shape q
   grind
  grind[Value.isStrOf]
 cases hr:es.findIdx? (λe=>(strKind P w).is y e.2)with
 |some j=>obtain⟨hj,hp,_⟩:=Xo.mp hr;obtain⟨d,h1,h2⟩:=gc p (UH hj);show ds[j]?=_;rw[h1,(hk h2).mp hp]
 |none=>
  intro hm;obtain⟨i,hi⟩:=VG hm;obtain⟨e,h1,h2⟩:=jm p hi;have:=List.findIdx?_eq_none_iff.mp hr e (UO h1)
  grind
theorem fZ.scan(S:fZ vp w h a false ds es ep t)(hx:x=.str y u):byScan x es=true:=
 byScan_of (knd:=strKind default w) (by rw[hx];rfl) (by rw[S.size];have:=S.ln;show _<4096;omega) (Bj S.el)
theorem OE:byScan (.ref b) es=false:=rfl
end
section
variable {P:Yt} {w:World} {A:Yv} {E:Ye} {s:Yw} {vp:Value->Prop}
theorem Bk{α:Type}{body:α->Option Bool×Unit->Sem (ForInStep (Option Bool×Unit))}{G:α->Prop}{R:Option Bool×Unit->Yw->Prop}(hb:∀y,G y->∀R':ForInStep (Option Bool×Unit)->Yw->Prop,R' (.yield (none,())) s->R' (.done (some false,())) s->wpAny (model P w) A (body y (none,())) R' E s) :
  ∀ys:List α,(∀y∈ys,G y)->R (none,()) s->R (some false,()) s->wpAny (model P w) A (forIn ys (none,()) body) R E s
 | [],_,h,_=>Uw h
 |y::ys,g,h,h'=>by
  rw[V3];refine Uu (hb y (g y (UL ..)) _ ?_ ?_)
  ·exact Bk hb ys (λz hz=>g z (UD _ hz)) h h'
  ·exact Uw h'
mutual
theorem yr:∀(d:PyData) (n:Nat) (v:Value) (as:Yk) (Q:Bool->Yw->Prop),aE d=true->d.depth<=n->Reads s.heap v d as->(∀b,Q b s)->wpAny (model P w) A (hashByValue n v) Q E s
 |.str x,n,v,as,Q,_,_,r,h=>by
  cases r;have:hashByValue n (.str x ‹_›)=pure false:=by cases n<;>rfl
  rw[this];exact Uw (h _)
 |.tuple ds,n,v,as,Q,t,hn,r,h=>by
  cases r with
  |tuple ho hc hd hi=>
   rename_i a o items k;have hT:s.TypeIs (.ref a) "tuple" := ⟨o,ho,hc⟩;simp only[aE]at t;simp only[PyData.depth]at hn;obtain⟨m,rfl⟩:∃m,n=m+1:=⟨n-1,by omega⟩;unfold hashByValue;refine Uu (WR hT WV.lookup ?_);dsimp only;refine Uu (Vw ho hd ?_);simp only[XM];refine Uu ?_;rw[<- Xn];refine Bk (G:=λy=>∃d' as',aE d'=true/\d'.depth<=m/\Reads s.heap y d' as'/\∀Q':Bool->Yw->Prop,(∀b,Q' b s)->wpAny (model P w) A (hashByValue m y) Q' E s) (λy ⟨d',as',g1,g2,g3,g4⟩ R' r1 r2=>?_) items.toList ?_ (Uw (h _)) (Uw (h _))
   ·refine Uu (g4 _ λb=>?_);cases b
    ·exact Uw r2
    ·exact Uw r1
   ·exact vN ds m items.toList _ t (by omega) hi
 |.none,_,_,_,_,t,_,_,_=>by simp[aE]at t
 |.bool _,_,_,_,_,t,_,_,_=>by simp[aE]at t
 |.int _,_,_,_,_,t,_,_,_=>by simp[aE]at t
 |.list _,_,_,_,_,t,_,_,_=>by simp[aE]at t
 |.dict _,_,_,_,_,t,_,_,_=>by simp[aE]at t
theorem vN:∀(ds:Yj) (m:Nat) (vs:Yl) (as:Yk),bx ds=true->PyData.depthAll ds<=m->ReadsAll s.heap vs ds as->∀y∈vs,∃d' as',aE d'=true/\d'.depth<=m/\Reads s.heap y d' as'/\∀Q':Bool->Yw->Prop,(∀b,Q' b s)->wpAny (model P w) A (hashByValue m y) Q' E s
 | [],m,_,_,_,_,.nil,y,hy=>by simp at hy
 |d::ds,m,_,_,t,hn,.cons r1 r2,y,hy=>by
  simp only[bx,Ux]at t;simp only[PyData.depthAll]at hn;rcases UC.mp hy with rfl|hy
  ·exact⟨d,_,t.1,by omega,r1,λQ' h=>yr d m _ _ Q' t.1 (by omega) r1 h⟩
  ·exact vN ds m _ _ t.2 (by omega) r2 y hy
end
theorem Tz(x:El vp w s.heap md e d)(h:∀b,Q b s):wpAny (model P w) A (hashByValue 8 e.2) Q E s:=by obtain⟨as,r⟩:=x.rd;exact yr d 8 _ as Q x.tr x.dp r h
theorem qU(ho:h.get? a=some (bQ es ep t))(sb:Heap.SameBut a h h'):∀b o vs n,h.get? b=some o->o.cls=.type "tuple" -> o.data=.seq vs n->h'.get? b=some o:=λb o vs n e c _=>by
 refine(sb.2 b λz=>?_).trans e
 grind
theorem qV(ho:s.heap.get? a=some (bQ es ep t))(hz:es'.size<=1000)
 (h:∀h',h'.get? a=some (bQ es' (ep+1) t')->Heap.SameBut a s.heap h'->Q () {s with heap:=h'}):wpAny (model P w) A (storeSet a es' t') Q E s:=by
 refine wpAny_storeSet_of ho rfl (h _ ?_ (W8 ..)) (by grind[sizeLine_eq]);have:=VP (Obj.putSet es' t') ho (by rfl);rw[putSet_of es' t' rfl]at this
 grind
structure sC(vp:Value->Prop)(w:World)(h:Heap)(md:Bool)(ds:Yj)(es:Yh)(t:Yu):Prop where
 tb:xn es t
 ld:t.led=true\/cU w=true
 nd:ds.Nodup
 ln:ds.length<=120
 el:Paired (El vp w h md) es.toList ds
theorem sC.size(S:sC vp w h md ds es t):es.size=ds.length:=by
 have:=U2 S.el
 grind
theorem sC.keep(S:sC vp w h md ds es t)(k:∀b o vs n,h.get? b=some o->o.cls=.type "tuple" -> o.data=.seq vs n->h'.get? b=some o):sC vp w h' md ds es t:=
 ⟨S.tb,S.ld,S.nd,S.ln,Paired.wU S.el λ_ _ x=>El.keep x k⟩
theorem vO(S:fZ vp w h a md ds es ep t)(hx:El vp w h md (h0,x) d)(hn:d∉ds)(hl:ds.length<120)(R:bJ t h0 slot wd)(pl:Bool) :
  ∃ds',List.Perm ds' (d::ds)/\sC vp w h md ds' (SetTable.insertAt es (t.put slot).2 (h0,x)) {(t.put slot).1 with plain:=pl}/\((!wd&&({(t.put slot).1 with plain:=pl}:Yu).tooFull)=false->({(t.put slot).1 with plain:=pl}:Yu).fill*5<({(t.put slot).1 with plain:=pl}:Yu).mask*3):=by
 obtain⟨r1,n,r2,r3⟩:=R;have hs:∀i,t.slot slot≠.live i:=λi z=>by grind
 have hm:slot<=t.mask:=by
  rw[<- r2];unfold sq
  have bound:∀q (c:Pc),c.j+c.more<=t.mask->(steps t.mask q c).j+(steps t.mask q c).more<=t.mask:=by
   intro q
   induction q with
   |zero=>intro c hc;exact hc
   |succ q ih=>
    intro c hc;simp only[steps];refine ih _ ?_;unfold step;split
    ·show c.j+1+(c.more-1)<=t.mask;omega
    ·show(SetTable.leap t.mask c.i c.pt).1+(SetTable.runEnd t.mask (SetTable.leap t.mask c.i c.pt).1-(SetTable.leap t.mask c.i c.pt).1)<=t.mask;have:(SetTable.leap t.mask c.i c.pt).1<t.mask+1:=XU _ (by omega);unfold SetTable.runEnd;split<;>omega
  have hb:=bound n (c0 t.mask h0) (by
   show SetTable.bits h0 % (t.mask+1)+(SetTable.runEnd t.mask (SetTable.bits h0 % (t.mask+1))-SetTable.bits h0 % (t.mask+1))<=t.mask;have:SetTable.bits h0 % (t.mask+1)<t.mask+1:=XU _ (by omega);unfold SetTable.runEnd
   split<;>omega)
  omega
 obtain⟨T1,T2⟩:=K8 (x:=x) S.tb hs hm r2 r3;refine⟨_,vM ds (t.put slot).2 d,⟨T1.flags rfl rfl rfl,S.ld,?_,?_,xo _ S.el hx⟩,λhq=>?_⟩
 ·exact Er (vM ds _ d).symm (VN.mpr ⟨hn,S.nd⟩)
 ·rw[(vM ds _ d).length_eq];simp;omega
 ·cases wd with
  |true=>have:=T2 (by simpa using r1);show(t.put slot).1.fill*5<t.mask*3;rw[this];exact S.tb.tf
  |false=>simp only[Bool.not_false,Bool.true_and]at hq;unfold SetTable.tooFull at hq;simp only[decide_eq_false_iff_not]at hq;exact Nat.lt_of_not_le hq
theorem tQ(S:sC vp w h md ds es t)(hw:wanted<1024)(hn:es.size*5<wanted*3\/es.size<=4) :
  ∃t' order ds',t.relaid (es.map (·.1)) wanted=some (t',order)/\List.Perm ds' ds/\sC vp w h md ds' (order.filterMap (es[·]?)) t'/\Tab (order.filterMap (es[·]?)) t'/\List.Perm order.toList (List.range es.size)/\t'.mask+1=SetTable.sizeAbove wanted:=by
 obtain⟨t',order,e1,e2,e3,e4,e5,e6,_⟩:=F0 hw hn;obtain⟨ds',p1,p2⟩:=tP e3.symm S.el;exact⟨t',order,ds',e1,p1.symm,⟨e2.Su,by rw[e4];exact S.ld,Er p1 S.nd,by rw[<- p1.length_eq];exact S.ln,p2⟩,e2,e5,e6⟩
theorem Bl(h:n<=121):SetTable.grown n<1024/\(n*5<SetTable.grown n*3\/n<=4):=by
 grind[SetTable.grown]
theorem sC.at(S:sC vp w h md ds es t)(T:Tab es t)(ho:h.get? a=some (bQ es ep t)):fZ vp w h a md ds es ep t:=⟨ho,T,S.ld,S.nd,S.ln,S.el⟩
theorem IB(ho:s.heap.get? a=some (bQ es ep t))(S:sC vp w s.heap md ds es t)(hw:wanted<1024)(hn:es.size*5<wanted*3\/es.size<=4)
 (h:∀h' ds' es' ep' t',Heap.SameBut a s.heap h'->fZ vp w h' a md ds' es' ep' t'->List.Perm ds' ds->t'.mask+1=SetTable.sizeAbove wanted->Q () {s with heap:=h'}):wpAny (model P w) A (setRelay a wanted) Q E s:=by
 unfold setRelay;refine Uu (fh ho S.tb.fits ?_);dsimp only;have hsz:=(qT wanted hw).2;have hsl:¬ SetTable.sizeAbove wanted>sizeLine:=by rw[VJ];simp only[UC,UW,VH]at hsz;omega
 rw[if_neg hsl];obtain⟨t',order,ds',e1,e2,e3,e4,_,e5⟩:=tQ S hw hn;refine Uu ?_;rw[e1];show wpAny _ _ (if((order.filterMap (es[·]?)).size != es.size)=true then _ else pure (order.filterMap (es[·]?),t')) _ _ _;have hse:(order.filterMap (es[·]?)).size=es.size:=by rw[e3.size,S.size,e2.length_eq]
 rw[if_neg (by simp[hse])];refine Uw ?_;dsimp only;refine qV ho (by rw[hse,S.size];have:=S.ln;omega) λh' g1 g2=>?_;exact h h' ds' _ _ t' g2 ((e3.keep (qU ho g2)).at e4 g1) e2 e5
end
section
variable {P:Yt} {w:World} {A:Yv} {E:Ye} {s:Yw} {vp:Value->Prop}
theorem IC(S:fZ vp w s.heap a md ds es ep t)(hx:El vp w s.heap md (h0,x) d)(hn:d∉ds)(hl:ds.length<120)(R:bJ t h0 slot wd)(pl:Bool)
 (q:∀h' ds',Heap.SameBut a s.heap h'->lF vp w h' a md ds'->List.Perm ds' (d::ds)->R' true {s with heap:=h'}) :
  wpAny (model P w) A (do
   storeSet a (SetTable.insertAt es (t.put slot).2 (h0,x)) {(t.put slot).1 with plain:=pl}
   if(!wd&&({(t.put slot).1 with plain:=pl}:Yu).tooFull)=true then do
    setRelay a (SetTable.grown (es.size+1))
    pure true
   else pure true) R' E s:=by
 obtain⟨ds',p1,H,p3⟩:=vO S hx hn hl R pl;have hsz:(SetTable.insertAt es (t.put slot).2 (h0,x)).size=es.size+1:=jl;have hes:=S.size;refine Uu (qV S.ob (by omega) λh' g1 g2=>?_);have H':=H.keep (qU S.ob g2);by_cases hf:(!wd&&({(t.put slot).1 with plain:=pl}:Yu).tooFull)=true
 ·rw[if_pos hf];obtain⟨k1,k2⟩:=Bl (n:=es.size+1) (by omega);refine Uu (IB g1 H' k1 (by simp_all) λh2 ds2 es2 ep2 t2 f1 f2 f3 _=>Uw ?_);exact q h2 ds2 (g2.trans f1) ⟨_,_,_,f2⟩ (f3.trans p1)
 ·rw[if_neg hf];exact Uw (q h' ds' g2 ⟨_,_,_,H'.at (H'.tb.tab (p3 (by grind))) g1⟩ p1)
theorem F1(T:Tab es t)(h0:Int):∃slot wd,t.freeSlot h0=some (slot,wd)/\bJ t h0 slot wd:=by
 obtain⟨N,n1,n2,n3⟩:=T.free h0;have hg:=uB (hashAt:=λ_=>h0+1) n2 n3 (10*SetTable.turns t.mask) 0 (t.probeStart h0) (by omega) (by grind[SetTable.turns]) rfl (.inl rfl);rcases hg with⟨dm,e1,e2,_⟩|⟨k,i,q,_,_,_,_,e5,_⟩
 ·have hp:t.probe (λ_=>h0+1) h0 (t.probeStart h0)=some (.empty (sq t.mask h0 N) dm):=e1;unfold SetTable.freeSlot;rw[hp];rcases e2 with rfl|⟨m,m1,rfl,m3⟩
  ·exact⟨_,_,rfl,by grind,N,rfl,n3⟩
  ·exact⟨_,_,rfl,by grind,m,rfl,λm' hm'=>n3 m' (by omega)⟩
 ·omega
theorem Bm(S:sC vp w h md ds es t)(hw:wanted<1024)(hn:es.size*5<wanted*3\/es.size<=4) :
  ∃es' t' ds',relayAll t es wanted=(es',t',false)/\List.Perm ds' ds/\sC vp w h md ds' es' t'/\Tab es' t'/\es'.size=es.size:=by
 obtain⟨t',order,ds',e1,e2,e3,e4,e5,_⟩:=tQ S hw hn;have hse:(order.filterMap (es[·]?)).size=es.size:=by rw[e3.size,S.size,e2.length_eq]
 refine⟨_,_,ds',?_,e2,e3,e4,hse⟩;unfold relayAll;rw[e1];dsimp only;rw[if_pos];simp;exact⟨List.isPerm_iff.mpr e5,e4.fits⟩
theorem OF(S:lF vp w s.heap a md ds)(hx:El vp w s.heap md (h0,x) d)(hu:A.units+20<cLine)(hl:ds.length<120)
 (q1:d∈ds->Q false s)(q2:d∉ds->∀h' ds',Heap.SameBut a s.heap h'->lF vp w h' a md ds'->List.Perm ds' (d::ds)->Q true {s with heap:=h'}) :
  wpAny (model P w) A (setAddHashed a x h0) Q E s:=by
 obtain⟨es,ep,t,S⟩:=S;unfold setAddHashed setAddHashedIn;refine Va (Uu (fh S.ob S.tb.fits ?_));dsimp only
 cases md with
 |true=>
  obtain⟨b,hb⟩:=hx.refs;dsimp only at hb;subst hb;rw[OE];simp only[UK,Vr];obtain⟨N,n1,n2,n3⟩:=S.tb.free h0;have hle:=S.tb.le;unfold setSearch;refine Uu (Bi (N:=N) (adding:=true) S hx hu n2 n3 (by unfold SetTable.turns;omega) (λhn slot wd R=>?_) (λhm i hi=>?_) 100000 0 none (by omega) (by omega) rfl (.inl rfl) λm hm=>by omega)
  ·dsimp only;refine Uu (fh S.ob S.tb.fits ?_);dsimp only
   have fin:∀pl,wpAny (model P w) A (do
     storeSet a (SetTable.insertAt es (t.put slot).2 (h0,.ref b)) {(t.put slot).1 with plain:=pl}
     if(!wd&&({(t.put slot).1 with plain:=pl}:Yu).tooFull)=true then do
      setRelay a (SetTable.grown (es.size+1))
      pure true
     else pure true) Q E s:=λpl=>IC S hx hn hl R pl (q2 hn)
   refine VR (λ_=>Uu (Tz hx λbv=>?_)) λ_=>Uu (Uw (fin (t.put slot).1.plain))
   cases bv with
   |true=>exact fin (t.put slot).1.plain
   |false=>exact fin false
  ·simp only[Vu];exact Uw (q1 hm)
 |false=>
  obtain⟨y,u,rfl,e2,e3⟩:=hx.text;dsimp only at e2 e3;rw[S.scan e2];simp only[Vu];unfold setAddByScan;refine Uu ?_;refine Uu (Wl ?_);have hk:(strKind P w).is y x=true:=by rw[e2];show Value.isStrOf y (.str y u)=true;simp[Value.isStrOf]
  have ti:=IA (P:=P) S.el y;rw[show h0=(strKind P w).hash y from e3];refine Uu (wpAny_setScan_of (knd:=strKind P w) hk S.ob rfl S.tb.fits (Bj S.el) ?_);rw[<- show h0=(strKind P w).hash y from e3]
  cases hr:es.toList.findIdx? (λe=>(strKind P w).is y e.2)with
  |some j=>rw[hr]at ti;dsimp only at ti ⊢;exact Uw (Uw (q1 (UO ti)))
  |none=>
   rw[hr]at ti;dsimp only at ti ⊢;obtain⟨slot,wd,f1,R⟩:=F1 S.tb h0;obtain⟨ds1,_,H1,_⟩:=vO S hx ti hl R (t.put slot).1.plain;have hfit:(t.put slot).1.fits (SetTable.insertAt es (t.put slot).2 (h0,x)).size=true:=H1.tb.fits;have hlay:layNew t es h0 x=(SetTable.insertAt es (t.put slot).2 (h0,x),(t.put slot).1,wd,false):=by unfold layNew;rw[f1];dsimp only;unfold SetTable.orStandIn;rw[if_pos hfit,hfit];rfl
   rw[hlay];dsimp only;refine Uu (Uw ?_);have hsz:(SetTable.insertAt es (t.put slot).2 (h0,x)).size=es.size+1:=jl;have hle:=S.ln;have hes:=S.size
   have fin:∀pl,wpAny (model P w) A (do
     storeSet a (SetTable.insertAt es (t.put slot).2 (h0,x)) {(t.put slot).1 with plain:=pl}
     if(!wd&&({(t.put slot).1 with plain:=pl}:Yu).tooFull)=true then do
      (match (relayAll {(t.put slot).1 with plain:=pl} (SetTable.insertAt es (t.put slot).2 (h0,x)) (SetTable.grown (SetTable.insertAt es (t.put slot).2 (h0,x)).size)).2.2 with|true=>rule "set.scan.the-table-gave-way" |false=>pure ())
      storeSet a (relayAll {(t.put slot).1 with plain:=pl} (SetTable.insertAt es (t.put slot).2 (h0,x)) (SetTable.grown (SetTable.insertAt es (t.put slot).2 (h0,x)).size)).1 (relayAll {(t.put slot).1 with plain:=pl} (SetTable.insertAt es (t.put slot).2 (h0,x)) (SetTable.grown (SetTable.insertAt es (t.put slot).2 (h0,x)).size)).2.1
      pure (some true)
     else pure (some true)) (λr s'=>wpAny (model P w) A (match r with|some added=>pure added|none=>setAddHashedIn a x h0 99999) Q E s') E s:=λpl=>by
    obtain⟨ds',p1,H,p3⟩:=vO S hx ti hl R pl;refine Uu (qV S.ob (by rw[hsz];omega) λh' g1 g2=>?_);have H':=H.keep (qU S.ob g2);by_cases hf:(!wd&&({(t.put slot).1 with plain:=pl}:Yu).tooFull)=true
    ·rw[if_pos hf];obtain⟨k1,k2⟩:=Bl (n:=es.size+1) (by omega);obtain⟨es2,t2,ds2,m1,m2,m3,m4,m5⟩:=Bm (wanted:=SetTable.grown (SetTable.insertAt es (t.put slot).2 (h0,x)).size) H' (by rw[hsz];exact k1) (by rw[hsz];exact k2);rw[m1];dsimp only;refine Uu (Uw ?_);refine Uu (qV (s:={s with heap:=h'}) g1 (by rw[m5,hsz];omega) λh2 g3 g4=>Uw (Uw ?_));exact q2 ti h2 ds2 (g2.trans g4) ⟨_,_,_,(m3.keep (qU g1 g4)).at m4 g3⟩ (m2.trans p1)
    ·rw[if_neg hf];exact Uw (Uw (q2 ti h' ds' g2 ⟨_,_,_,H'.at (H'.tb.tab (p3 (by simpa using hf))) g1⟩ p1))
   refine VR (λ_=>Uu (Tz hx λbv=>?_)) λ_=>Uu (Uw (fin (t.put slot).1.plain))
   cases bv with
   |true=>exact fin (t.put slot).1.plain
   |false=>exact fin false
end
theorem fM{α:Type}{l:List α}(h:i<l.length):List.Perm (l[i]::l.eraseIdx i) l:=by
 rw[Xw];have e:=VS i l;rw[Vt h]at e
 conv=>rhs;rw[<- e]
 exact List.perm_middle.symm
theorem Es(next:Nat->Nat):∀(fuel k:Nat) (left:List α) (out:Array α),fuel=left.length->List.Perm (pickOrder.go next fuel k left out).toList (out.toList++left)
 |0,k,left,out,h=>by
  have  := Wz.mp h.symm
  simp_all[pickOrder.go]
 |fuel+1,k,left,out,h=>by
  have hpos:0<left.length:=by omega
  have hlt:next k % left.length<left.length:=XU _ hpos;simp[pickOrder.go];rw[UH hlt];refine(Es next fuel _ _ _ (by grind)).trans ?_;rw[Array.toList_push,X7,List.singleton_append];refine List.Perm.append_left _ ?_;exact fM hlt
theorem F2(next:Nat->Nat)(xs:Array α):List.Perm (pickOrder next xs).toList xs.toList:=by unfold pickOrder;simpa using Es next xs.size 0 xs.toList #[] (by simp)
section
variable {P:Yt} {w:World} {A:Yv} {E:Ye} {s:Yw} {vp:Value->Prop}
theorem zw(hn:n≠0)(h:∀i,i<n->Q i {s with drawn:=s.drawn.bump src}):wpAny (model P w) A (choose src n) Q E s:=λΓ p hΓ=>⟨hn,h _ (XU _ (Nat.pos_of_ne_zero hn))⟩
theorem Et:∀(n:Nat) (xs:List α) (s:Yw) (Q:List α->Yw->Prop),n=xs.length->(∀L dr,List.Perm L xs->Q L {s with drawn:=dr})->wpAny (model P w) A (drawOrder n xs) Q E s
 |0,xs,s,Q,h,q=>by have  := Wz.mp h.symm;subst this;exact Uw (q [] s.drawn (.refl _))
 |n+1,[],s,Q,h,q=>by grind
 |n+1,x::xs,s,Q,h,q=>by unfold drawOrder;refine Uu (zw (by simp) λi hi=>?_);rw[UH hi];refine Uu (Et n _ _ _ (by grind) λL dr p=>Uw ?_);exact q _ dr ((p.cons _).trans (fM hi))
theorem nY(h:Q (cU w) s):wpAny (model P w) A setsByText Q E s:=Uu (wpAny_askSetting (Uw h))
end
section
variable {P:Yt} {w:World} {A:Yv} {E:Ye} {s:Yw} {vp:Value->Prop}
theorem fZ.keep(S:fZ vp w h a md ds es ep t)(k:∀b o,h.get? b=some o->h'.get? b=some o):fZ vp w h' a md ds es ep t:=
 ⟨k _ _ S.ob,S.tb,S.ld,S.nd,S.ln,Paired.wU S.el λ_ _ x=>El.keep x λb o _ _ e _ _=>k b o e⟩
end
section
variable {P:Yt} {w:World} {A:Yv} {E:Ye} {s:Yw} {vp:Value->Prop}
theorem ID(ho:h.get? a=some (bQ #[] 0 (.fresh 0 0 led)))(hl:led=true\/cU w=true):lF vp w h a md []:=
 ⟨#[],0,_,ho,⟨List.Pairwise.nil,List.Pairwise.nil,rfl,(by decide:(0:Nat)*5<7*3),λj hj=>by trivial,λj hj=>by trivial,λj hj=>by trivial,Mo.1,λi e j h1=>by simp at h1⟩,hl,List.nodup_nil,by simp,.nil⟩
end
theorem sub_tuple_set:isSubtype (.type "tuple") (.type "set")=pure false:=by rfl
theorem sub_tuple_frozenset:isSubtype (.type "tuple") (.type "frozenset")=pure false:=by rfl
noncomputable def OG(md:Bool)(d:PyData):Prop:=aE d=true/\d.depth<=8/\dz d=true/\iG d=md
section
variable {P:Yt} {w:World} {A:Yv} {E:Ye} {s:Yw} {vp:Value->Prop}
theorem IE{R:Result->Yw->Prop}{St:Nat->Heap->Prop}{ys:Yj}(W:Walks P w A.in1 I fp wr n Pv St)(S:Addr)(hSf:S∉fp)(hn:n=ys.length)(hl:n<=120)(hu:A.in1.units+20<cLine)
 (hv:∀i v,Pv i v->∃y,ys[i]?=some y/\OG md y/\vp v/\∃as,Reads h0 v y as)(hw:∀b o,h0.get? b=some o->b∉wr)(hS0:h0.get? S=none)(hit:∀i h,St i h->∀b∈wr,∀o,h.get? b=some o->o.cls≠.type "tuple") :
  ∀(k i:Nat) (s:Yw) (ds:Yj),n-i=k->i<=n->St i s.heap->lF vp w s.heap S md ds->(∀d,d∈ds<->d∈ys.take i)->ds.length<=i->(∀b o,h0.get? b=some o->s.heap.get? b=some o) ->
   (∀h' tk ds',lF vp w h' S md ds'->(∀d,d∈ds'<->d∈ys)->(∀b o,h0.get? b=some o->h'.get? b=some o)->R (.ok (.ret .none)) {s with heap:=h',toks:=tk}) ->
   codeAny (model P w) A (.builtin "set.update.loop" ⟨[.ref S,.ref I],[]⟩) R s:=by
 have hSw:S∉wr:=λh=>hSf (W.sub _ h);intro k
 induction k with
 |zero=>
  intro i s ds hk hi hst hS hm hd h0k hR;have hin:i=n:=by omega
  subst hin;refine Wm W3 ?_;rw[Wi Vz _];show wpAny _ A.in1 (pyNext (.ref I) >>= _) _ _ s;refine Uu (W.done s _ _ hst λh' tk kp=>?_);show wpAny _ A.in1 (ret Value.none) _ _ _;obtain⟨es,ep,t,S'⟩:=hS;have kt:∀b o vs n,s.heap.get? b=some o->o.cls=.type "tuple" -> o.data=.seq vs n->h'.get? b=some o:=λb o vs n e c _=>kp b o (λz=>hit _ _ hst b z o e c) e;exact Uw (hR h' tk ds ⟨es,ep,t,kp _ _ hSw S'.ob,S'.tb,S'.ld,S'.nd,S'.ln,Paired.wU S'.el λ_ _ x=>El.keep x kt⟩ (λd=>by rw[hm,hn,List.take_length]) λb o e=>kp b o (hw b o e) (h0k b o e))
 |succ k ih=>
  intro i s ds hk hi hst hS hm hd h0k hR;have hlt:i<n:=by omega
  refine Wm W3 ?_;rw[Wi Vz _];show wpAny _ A.in1 (pyNext (.ref I) >>= _) _ _ s;refine Uu (W.item i s _ _ hlt hst λv h1 tk1 hP hst' kp=>?_);obtain⟨y,hy,⟨y1,y2,y3,y4⟩,vy,as,ry⟩:=hv i v hP;obtain⟨es,ep,t,S'⟩:=hS;have kt:∀b o vs n,s.heap.get? b=some o->o.cls=.type "tuple" -> o.data=.seq vs n->h1.get? b=some o:=λb o vs n e c _=>kp b o (λz=>hit _ _ hst b z o e c) e;have h0k1:∀b o,h0.get? b=some o->h1.get? b=some o:=λb o e=>kp b o (hw b o e) (h0k b o e);have S1:lF vp w h1 S md ds:=⟨es,ep,t,kp _ _ hSw S'.ob,S'.tb,S'.ld,S'.nd,S'.ln,Paired.wU S'.el λ_ _ x=>El.keep x kt⟩;have r1:Reads h1 v y as:=j0 (λb o vs n e _ _=>h0k1 b o e) y1 ry;have ey:El vp w h1 md (tj w y,v) y:=⟨y1,y2,y3,rfl,y4,⟨as,r1⟩,vy⟩;show wpAny _ A.in1 (holding [v] (setAdd S v) >>= _) _ _ _;refine Uu (Va ?_);unfold setAdd;refine Va ?_;refine Uu (pJ y A.in1 {s with heap:=h1,toks:=tk1} v as _ _ y1 r1 (by omega) ?_);have htk:ys.take (i+1)=ys.take i++[y]:=by rw[List.take_add_one,hy];rfl
  refine OF (s:={s with heap:=h1,toks:=tk1+pI y}) S1 ey hu (by omega) (λhmem=>?_) λhnm h2 ds2 sb S2 p2=>?_
  ·refine Uw ⟨XS Vz _,ih (i+1) _ ds (by omega) hlt hst' S1 (λd=>?_) (by omega) h0k1 λh' tk ds' a b c=>hR h' tk ds' a b c⟩;rw[htk,UQ,<- hm];constructor
   ·exact .inl
   ·rintro(z|z)
    ·exact z
    ·rw[U5.mp z];exact hmem
  ·obtain⟨es1,ep1,t1,S1'⟩:=S1;refine Uw ⟨XS Vz _,ih (i+1) {s with heap:=h2,toks:=tk1+pI y} ds2 (by omega) hlt (W.frame _ _ _ hst' λb hb o e=>(sb.2 b λz=>hSf (z▸hb)).trans e) S2 (λd=>?_) (by rw[p2.length_eq];simp;omega) (λb o e=>(sb.2 b λz=>?_).trans (h0k1 b o e)) λh' tk ds' a b c=>hR h' tk ds' a b c⟩
   ·rw[p2.mem_iff,htk,UQ,<- hm,UC,U5];exact Or.comm
   ·rw[z,hS0]at e;cases e
theorem vP(a:Value)(h:Q₁ (.ref s.heap.objs.size) {s with heap:=s.heap.push (bQ #[] 0 (.fresh 0 0 (!cU w)))}) :
  codeAny (model P w) A (.call (.builtin "set.__new__") ⟨[.type "set",a],[]⟩) (wants Q₁ E) s:=by
 refine codeAny_of_tree ?_;show wpAny _ A.in1 (do checkBuiltinCall "set.__new__" ⟨[.type "set",a],[]⟩;again (.builtin "set.__new__" ⟨[.type "set",a],[]⟩)) _ _ s;refine Uu (W9 (F.newCall_set_1 a) (Uw ⟨XS F.plain_set_new _,Wm F.entry_set_new ?_⟩));rw[Wi F.plain_set_new _];unfold Builtin.«set.__new__» Builtin.Frozenset.newClass;have hsub:=sub_set_self;obtain⟨hp,g,d,tk,os⟩:=s;dsimp only
 wp_walk
 refine wpAny_askSetting (Uw ?_);dsimp only;simp only[newObj];refine Uu (wpAny_alloc (Uw ?_));exact Uw h
structure Src(P:Yt)(w:World)(T:String)(l:Addr)(items:Yr)(OK:Heap->Prop):Prop where
 ob:∀h,OK h->∃od n sl,h.get? l=some {cls:=.type T,dict:=od,data:=.seq items n,slots:=sl}
 kp:∀h h',OK h->(∀o,h.get? l=some o->h'.get? l=some o)->OK h'
 s1:isSubtype (.type T) (.type "set")=pure false
 s2:isSubtype (.type T) (.type "frozenset")=pure false
 nd:(Value.type T==Value.type "dict")=false
 it:∀(A:Yv) (E:Ye) (s:Yw),A.handled=none->OK s.heap->∃(oI:Obj) (St:Nat->Heap->Prop),oI.cls≠.type "tuple" /\
  (∀Q:Ye,Q (.ref s.heap.objs.size) {s with heap:=s.heap.push oI}->wpAny (model P w) A (pyIter (.ref l)) Q E s) /\
  (∀A':Yv,A'.handled=none->Walks P w A' s.heap.objs.size [s.heap.objs.size,l] [s.heap.objs.size] items.size (λi v=>items[i]?=some v) St)/\St 0 (s.heap.push oI)/\(∀i h,St i h->∀o,h.get? s.heap.objs.size=some o->o.cls≠.type "tuple")
theorem src_list(l:Addr)(items:Yr):Src P w "list" l items (λh=>h.IsList l items) where
 ob:=by rintro h ⟨⟨c,d,da,sl⟩,ho,hc,n,hd⟩;exact⟨d,n,sl,by grind⟩
 kp:=λh h' x k=>x.at k
 s1:=F.sub_list_set
 s2:=F.sub_list_frozenset
 nd:=by decide
 it:=λA E s hh hl=>by
  have hlS:l<s.heap.objs.size:=by obtain⟨_,e,_⟩:=hl;exact Uz e
  exact⟨{cls:=.type "list_iterator",data:=.fields #[.ref l,.int 0 0]},_,λz=>absurd (Value.type.inj z) (by decide),λQ q=>wpAny_pyIter_list hl q,λA' h'=>Walks.list h' _ l (UN hlS) items,⟨⟨_,UA _ rfl,rfl,rfl⟩,hl.push _⟩,by
   rintro i h ⟨⟨o',e,c,_⟩,_⟩ o eo
   grind⟩
theorem src_tuple(l:Addr)(items:Yr):Src P w "tuple" l items (λh=>h.IsTuple l items) where
 ob:=by rintro h ⟨⟨c,d,da,sl⟩,ho,hc,n,hd⟩;exact⟨d,n,sl,by grind⟩
 kp:=by rintro h h' ⟨o,e,r⟩ k;exact⟨o,k _ e,r⟩
 s1:=sub_tuple_set
 s2:=sub_tuple_frozenset
 nd:=by decide
 it:=λA E s hh hl=>by
  have hlS:l<s.heap.objs.size:=by obtain⟨_,e,_⟩:=hl;exact Uz e
  exact⟨{cls:=.type "tuple_iterator",data:=.fields #[.ref l,.int 0 0]},_,λz=>absurd (Value.type.inj z) (by decide),λQ q=>Xi hl q,λA' h'=>Walks.tuple h' _ l (UN hlS) items,⟨⟨_,UA _ rfl,rfl,rfl⟩,hl.push _⟩,by
   rintro i h ⟨⟨o',e,c,_⟩,_⟩ o eo
   grind⟩
end
section
variable {P:Yt} {w:World} {A:Yv} {E:Ye} {s:Yw} {vp:Value->Prop}
theorem readsAll_get:∀{vs:Yl} {ds:Yj} {as:Yk},ReadsAll h vs ds as->∀{i:Nat} {v:Value},vs[i]?=some v->∃d bs,ds[i]?=some d/\Reads h v d bs
 |_,_,_,.nil,i,v,e=>by simp at e
 |_,_,_,.cons r _,0,v,e=>by grind
 |_,_,_,.cons _ t,i+1,v,e=>by simpa using readsAll_get t (by simp_all)
set_option maxHeartbeats 3200000 in
theorem IF{T:String}{l:Addr}{items:Yr}{OK:Heap->Prop}{md:Bool}{ys:Yj}{as:Yk}{Q:Ye}(K:Src P w T l items OK)(hh:A.handled=none)(hl:OK s.heap)(hr:ReadsAll s.heap items.toList ys as)(he:∀y∈ys,OG md y)(hvp:∀v∈items.toList,vp v)(hn:ys.length<=120)(hu:A.units+25<cLine)
 (h:∀h' tk ds,lF vp w h' s.heap.objs.size md ds->(∀d,d∈ds<->d∈ys)->(∀b o,s.heap.get? b=some o->h'.get? b=some o)->Q (.ref s.heap.objs.size) {s with heap:=h',toks:=tk}) :
  wpAny (model P w) A (call (.type "set") [.ref l]) Q E s:=by
 have hr0:=hr;have hlen:items.size=ys.length:=by have:=readsAll_len hr;simpa using this
 obtain⟨c,tl,hmro⟩:=WS.mro;have hmade:=WS.made;have hsub:=WS.sub;refine XT (codeAny_of_tree ?_);show wpAny _ _ (callAny (.type "set") _) _ _ _;refine Uw ⟨Code.quiet_builtin _ (by decide +kernel),Wm F.entry_type_call ?_⟩;rw[Around.under_plain (weight_type_call_type "set" [.ref l] []) rfl];have h1:=WS.notType;have h2:=WS.canCreate;have hct:=F.typeCall_set_1 (.ref l)
 repeat (any_goals (first|assumption|wp_step))
 refine WO (vP (.ref l) (E:=E) (Q₁:=λobj s₁=>obj=.ref s.heap.objs.size/\s₁={s with heap:=s.heap.push (bQ #[] 0 (.fresh 0 0 (!cU w)))}) ⟨rfl,rfl⟩) λr s₁ hr=>?_
 cases r with
 |error e=>exact hr
 |ok fl=>
  cases fl with
  |ret obj=>
   obtain⟨rfl,rfl⟩:=hr;have hS:(s.heap.push (bQ #[] 0 (.fresh 0 0 (!cU w)))).get? s.heap.objs.size=some (bQ #[] 0 (.fresh 0 0 (!cU w))):=UA _ rfl;have hT:Shared.TypeIs {s with heap:=s.heap.push (bQ #[] 0 (.fresh 0 0 (!cU w)))} (.ref s.heap.objs.size) "set" := ⟨_,hS,rfl⟩;have hli:=WS.init.lookup;have hbi:=WS.init.bind (.ref s.heap.objs.size)
   repeat (any_goals (first|assumption|wp_step))
   refine WO (XR (R:=wants (λr s₂=>r=.none/\∃h' tk ds,s₂={s with heap:=h',toks:=tk}/\lF vp w h' s.heap.objs.size md ds/\(∀d,d∈ds<->d∈ys)/\(∀b o,s.heap.get? b=some o->h'.get? b=some o)) E) WS.init.plain F.entry_set_init (check_set_init_1 hT ?_)) λr₂ s₂ hr₂=>?_
   ·obtain⟨odict,nl,oslots,hol⟩:=K.ob _ hl;have hol':(s.heap.push (bQ #[] 0 (.fresh 0 0 (!cU w)))).get? l=some {cls:=.type T,dict:=odict,data:=.seq items nl,slots:=oslots}:=Uv _ hol;have hsls:=K.s1;have hslf:=K.s2;have hne:=K.nd;have hl1:OK (s.heap.push (bQ #[] 0 (.fresh 0 0 (!cU w)))):=K.kp _ _ hl λo e=>Uv _ e;have hh3:A.in1.in1.in1.handled=none:=by simp[hh]
    obtain⟨oI,St,i1,i2,i3,i4,i5⟩:=K.it A.in1.in1 (λe s'=>wants (λr s₂=>r=.none/\∃h' tk ds,s₂={s with heap:=h',toks:=tk}/\lF vp w h' s.heap.objs.size md ds/\(∀d,d∈ds<->d∈ys)/\(∀b o,s.heap.get? b=some o->h'.get? b=some o)) E (.error e) s') {s with heap:=s.heap.push (bQ #[] 0 (.fresh 0 0 (!cU w)))} (by simp[hh]) hl1;unfold Builtin.«set.__init__» noKeywords Builtin.Frozenset.updateFrom;generalize hPI:pyIter=PI
    wp_walk
    subst hPI;refine i2 _ ?_;refine Uu (wpAny_runValue ?_);have hlS:l<s.heap.objs.size:=Uz hol;have hsz:(s.heap.push (bQ #[] 0 (.fresh 0 0 (!cU w)))).objs.size=s.heap.objs.size+1:=Vi _ _;have hSf:s.heap.objs.size∉[(s.heap.push (bQ #[] 0 (.fresh 0 0 (!cU w)))).objs.size,l]:=by rw[hsz];simp only[UC,U5,UW,VH,not_or];exact⟨UN (V8 _),WN hlS⟩
    have hS0:s.heap.get? s.heap.objs.size=none:=by
     cases e:s.heap.get? s.heap.objs.size with
     |none=>rfl
     |some o=>exact absurd (Uz e) (UT _)
    refine IE (vp:=vp) (A:=A.in1.in1) (h0:=s.heap) (ys:=ys) (md:=md) (i3 A.in1.in1.in1 hh3) s.heap.objs.size hSf hlen (by omega) (by show A.units+1+1+1+20<cLine;omega) (λi v hv=>?_) (λb o e hb=>?_) hS0 (λi h st b hb o e=>?_) (items.size-0) 0 _ [] rfl (V4 _) i4 (ID (Uv _ hS) ?_) (λd=>by simp) (V4 _) (λb o e=>Uv _ (Uv _ e)) λh' tk ds g1 g2 g3=>?_
    ·obtain⟨d,bs,e1,e2⟩:=readsAll_get hr0 (i:=i) (by rw[U7];exact hv);exact⟨d,e1,he d (UO e1),hvp v (UO (by rw[U7];exact hv)),bs,e2⟩
    ·have:=Uz e;rw[U5.mp hb]at this;have e2:(s.heap.push (bQ #[] 0 (.fresh 0 0 (!cU w)))).objs.size<s.heap.objs.size:=this;rw[hsz]at e2;exact absurd e2 (Nat.not_lt.mpr (VU _))
    ·exact i5 i h st o (by rw[U5.mp hb]at e;exact e)
    ·cases cU w
     ·exact .inl rfl
     ·exact .inr rfl
    ·refine Uw ?_;show wpAny _ _ (ret Value.none) _ _ _;exact Uw ⟨rfl,h',tk,ds,rfl,g1,g2,g3⟩
   ·cases r₂ with
    |error e=>exact hr₂
    |ok fl₂=>
     cases fl₂ with
     |ret r=>
      obtain⟨rfl,h',tk,ds,rfl,hS',hm',hk'⟩:=hr₂
      repeat (any_goals (first|assumption|wp_step))
      exact h _ _ _ hS' hm' hk'
     |_=>exact hr₂.elim
  |_=>exact hr.elim
end
noncomputable abbrev ka(v:Value)(i:Nat)(o:Value)(n ep:Nat):Obj:={cls:=.type "set_iterator",dict:=none,data:=.fields #[v,.int i 0,o,.int n 0,.int ep 0],slots:=#[]}
theorem vQ:entryFor table "set.__iter__" = some Builtin.«frozenset.__iter__» := entryFor_alias (id' := "frozenset.__iter__") (by kernel_rfl) rfl (by decide +kernel) (by kernel_rfl)
theorem gC:entryFor table "set_iterator.__next__" = some Builtin.«set_iterator.__next__» := entryFor_of_tree (by rfl)
theorem bR:Slot "set_iterator" "__next__" "set_iterator.__next__" :=
 .of (by rfl) (by rfl) (by rfl) (by rfl)
  (by trivial) (by rfl)
theorem Bn:Manifest.owners.lookup (String.ofList ['r', 'o', 't', 'a', 'r', 'e', 't', 'i', '_', 't', 'e', 's'].reverse)=some Manifest.sig_set_iterator:=by rfl
theorem iq(a:Value):argsOk "set_iterator.__next__" ⟨[a],[]⟩:=by unfold argsOk;rw[signature?_of (id := "set_iterator.__next__") (n:=['_', '_', 't', 'x', 'e', 'n', '_', '_']) (o:=['r', 'o', 't', 'a', 'r', 'e', 't', 'i', '_', 't', 'e', 's']) (by rfl) Bn];rfl
section
variable {P:Yt} {w:World} {A:Yv} {E:Ye} {s:Yw} {vp:Value->Prop}
theorem sD(hit:s.heap.get? I=some (ka v i o n ep))(hk:k<5)
 (q:∀h',h'.get? I=some {cls:=.type "set_iterator",dict:=none,data:=.fields ((#[v,.int i 0,o,.int n 0,.int ep 0]:Yr).setIfInBounds k x),slots:=#[]}->Heap.SameBut I s.heap h'->Q () {s with heap:=h'}):wpAny (model P w) A (setField (.ref I) k x) Q E s:=by
 refine wpAny_setField hit rfl (by omega) (q _ ?_ (W8 ..));have:=VP (Obj.mapFields (·.setIfInBounds k x)) hit (Obj.isFreed_of_fields (Obj.data_mapFields rfl _));rw[this];rfl
theorem fN(hit:s.heap.get? I=some (ka v i o n ep)):s.TypeIs (.ref I) "set_iterator" := ⟨_,hit,rfl⟩
theorem Eu{B:Builtin->Prop}(hh:A.handled=none)(hQ:∀h',Heap.ExtBut I h0 h'->Q none {s with heap:=h'})(he:Heap.ExtBut I h0 s.heap) :
  wpAny (model P w) A.in1 (newExc (.type "StopIteration") [] >>= λe=>(raiseNew e:Sem PySem.Fin)) (λfin s'=>∃r,fin=.done (.ret r)/\wpAny (model P w) A (pure (some r)) Q E s') (λe s'=>wpAny (model P w) A (do if <- isInstance e (.type "StopIteration")then pure none else throw e) Q E s') s:=by
 refine Uu ?_;simp only[newExc,newTuple];refine Uu (Vd ?_ (by size_fits));refine Uu (m:=firstArgMember _ _) (W9 (a:=Value.none) (by first|rfl | (simp only[firstArgMember];rfl)) ?_);refine Vd ?_ (by size_fits);simp only[raiseNew];refine Uu (wpAny_handled ?_);rw[show A.in1.handled=none from hh];refine Uu (Uw (wpAny_throw ?_));refine Uu (XI (T := "StopIteration") (b:=true) ⟨_,UA _ rfl,rfl⟩ isSubtype_stop ?_);exact Uw (hQ _ ((he.push _).push _))
end
section
variable {P:Yt} {w:World} {A:Yv} {E:Ye} {s:Yw} {vp:Value->Prop}
variable {I a T:Addr} {i n ep sl:Nat} {es:Yh} {t:Yu}
theorem uC{Q:PySem.Fin->Yw->Prop}{E':Ye}(hit:s.heap.get? I=some (ka v i (.ref a) n ep))(ob:s.heap.get? a=some (bQ es ep t))(ft:t.fits es.size=true)(hn:es.size=n)
 (q:wpAny (model P w) A (match v with
   |.int slot _=>do
    match <- setNext a slot.toNat i ep with
    |some (x,next)=>
     setField (.ref I) 0 (rawInt next)
     setField (.ref I) 1 (rawInt ((i:Int)+1))
     ret x
    |none=>setField (.ref I) 2 .none;raiseNew (<- newExc (.type "StopIteration") [])
   |first=>do
    let some places <- seqItems? first|unsupported "internal:set_iterator"
    match places[i]? with
    |some (.int place _)=>
     let x <- setNextDrawn a place.toNat ep
     setField (.ref I) 1 (rawInt ((i:Int)+1))
     ret x
    |some _=>unsupported "internal:set_iterator"
    |none=>setField (.ref I) 0 (rawInt 0);setField (.ref I) 2 .none;raiseNew (<- newExc (.type "StopIteration") [])) Q E' s) :
  wpAny (model P w) A (Builtin.«set_iterator.__next__» ⟨[.ref I],[]⟩) Q E' s:=by
 unfold Builtin.«set_iterator.__next__»;refine Uu (W9 (a:=(Value.ref I,[])) rfl ?_);dsimp only;refine Uu (wpAny_fieldsOf hit rfl ?_);dsimp only;refine Uu (wpAny_setEntries_of ob rfl ft ?_);rw[if_neg (by simp[hn])];simp only[VL];cases v<;>exact q
theorem Bo(hit:s.heap.get? I=some (ka (.int sl 0) i (.ref a) n ep))(ob:s.heap.get? a=some (bQ es ep t))(ft:t.fits es.size=true)(hn:es.size=n)
 (hs:∀(A':Yv) (Q':Option (Value×Nat)->Yw->Prop) (E':Ye),Q' (some (x,nx)) s->wpAny (model P w) A' (setNext a sl i ep) Q' E' s)
 (q:∀h',h'.get? I=some (ka (.int nx 0) (i+1) (.ref a) n ep)->Heap.SameBut I s.heap h'->Q (some x) {s with heap:=h'}):wpAny (model P w) A (pyNext (.ref I)) Q E s:=by
 refine Uu (Wy (U9 (fN hit) bR (U6 bR (fN hit) gC ?_ (iq _))));refine uC hit ob ft hn ?_;refine Uu (hs _ _ _ ?_);refine Uu (sD hit (by omega) λh1 g1 b1=>?_);have g1'  := g1;refine Uu (sD g1' (by omega) λh2 g2 b2=>?_);exact Uw ⟨_,rfl,Uw (q h2 g2 (b1.trans b2))⟩
theorem Ew(hh:A.handled=none)(hit:s.heap.get? I=some (ka (.int sl 0) i (.ref a) n ep))(ob:s.heap.get? a=some (bQ es ep t))(ft:t.fits es.size=true)(hn:es.size=n)
 (hs:∀(A':Yv) (Q':Option (Value×Nat)->Yw->Prop) (E':Ye),Q' none s->wpAny (model P w) A' (setNext a sl i ep) Q' E' s)
 (q:∀h',Heap.ExtBut I s.heap h'->Q none {s with heap:=h'}):wpAny (model P w) A (pyNext (.ref I)) Q E s:=by
 refine Uu (Wy (U9 (fN hit) bR (U6 bR (fN hit) gC ?_ (iq _))));refine uC hit ob ft hn ?_;refine Uu (hs _ _ _ ?_);refine Uu (sD hit (by omega) λh1 g1 b1=>?_);exact Eu (B:=λ_=>True) hh q b1.extBut
theorem IG{place:Nat}(hit:s.heap.get? I=some (ka (.ref T) i (.ref a) n ep))(ob:s.heap.get? a=some (bQ es ep t))(ft:t.fits es.size=true)(hn:es.size=n)(hT:s.heap.IsTuple T pl)(hp:pl[i]?=some (rawInt place))(hx:es[place]?=some x)
 (q:∀h',h'.get? I=some (ka (.ref T) (i+1) (.ref a) n ep)->Heap.SameBut I s.heap h'->Q (some x.2) {s with heap:=h'}):wpAny (model P w) A (pyNext (.ref I)) Q E s:=by
 unfold pyNext;refine Uu (Wy (U9 (name:=Str.ofString "__next__") (fN hit) bR (U6 bR (fN hit) gC ?_ (iq _))));refine uC hit ob ft hn ?_;dsimp only;obtain⟨oT,gT,cT,nT,dT⟩:=hT;refine Uu (Vw gT dT ?_);dsimp only;rw[hp];show wpAny _ _ (setNextDrawn a (Int.toNat (place:Nat)) ep >>= _) _ _ _;rw[VL];unfold setNextDrawn;refine Uu (Uu (fh ob ft ?_));dsimp only;rw[if_neg (by simp),hx];refine Uw ?_;refine Uu (sD hit (by omega) λh1 g1 b1=>?_);exact Uw ⟨_,rfl,Uw (q h1 g1 b1)⟩
theorem Lc(hh:A.handled=none)(hit:s.heap.get? I=some (ka (.ref T) i (.ref a) n ep))(ob:s.heap.get? a=some (bQ es ep t))(ft:t.fits es.size=true)(hn:es.size=n)(hT:s.heap.IsTuple T pl)(hp:pl[i]?=none)
 (q:∀h',Heap.ExtBut I s.heap h'->Q none {s with heap:=h'}):wpAny (model P w) A (pyNext (.ref I)) Q E s:=by
 refine Uu (Wy (U9 (name:=Str.ofString "__next__") (fN hit) bR (U6 bR (fN hit) gC ?_ (iq _))));refine uC hit ob ft hn ?_;obtain⟨oT,gT,cT,nT,dT⟩:=hT;refine Uu (Vw gT dT ?_);dsimp only;rw[hp];refine Uu (sD hit (by omega) λh1 g1 b1=>?_);have g1':h1.get? I=some (ka (rawInt 0) i (.ref a) n ep):=g1;refine Uu (sD (s:={s with heap:=h1}) g1' (by omega) λh2 g2 b2=>?_);exact Eu (s:={s with heap:=h2}) (h0:=s.heap) (B:=λ_=>True) hh q (b1.trans b2).extBut
theorem yt(ob:s.heap.get? a=some (bQ es ep t))(ft:t.fits es.size=true)(hb:cU w=true)(hL:L=pickOrder (w.params.setOrder a ep) es)(h:Q ((L[i]?).map λe=>(e.2,sl)) s):wpAny (model P w) A (setNext a sl i ep) Q E s:=by unfold setNext;refine Uu (fh ob ft ?_);dsimp only;refine Uu (nY ?_);rw[if_pos hb,if_neg (by simp)];unfold setWalk;refine Uu (Uu (fh ob ft ?_));dsimp only;refine Uu (nY ?_);rw[if_pos hb];refine Uu (wpAny_askSetting (Uw (Uw ?_)));rw[hL]at h;exact h
theorem vR(ob:s.heap.get? a=some (bQ es ep t))(ft:t.fits es.size=true)(hb:cU w=false)(hd:(!t.plain&&decide (es.size>1))=false)(hl:t.led=true)
 (h:Q (match es[SetTable.below t.place sl]?,t.place[SetTable.below t.place sl]? with|some (_,x),some j=>some (x,j+1)|_,_=>none) s):wpAny (model P w) A (setNext a sl i ep) Q E s:=by
 unfold setNext;refine Uu (fh ob ft ?_);dsimp only;refine Uu (nY ?_);rw[if_neg (by rw[hb];simp)];refine VR (λz=>absurd z (by show ¬ (!t.plain&&decide (es.size>1))=true;rw[hd];simp)) λ_=>?_;refine Uu (m:=(if(!t.led && !es.isEmpty)=true then unsupported "set:maker-not-led" else pure ())) ?_;rw[hl];simp only[WW,Xy,UK,Vr];exact Uw (Uw h)
end
theorem eI:Slot "set_iterator" "__iter__" "set_iterator.__iter__" :=
 .of (by rfl) (by rfl) (by rfl) (by rfl)
  (by trivial) (by rfl)
theorem jH:entryFor table "set_iterator.__iter__" = some Builtin.«dict_keyiterator.__iter__» := entryFor_alias (id' := "dict_keyiterator.__iter__") (by kernel_rfl) rfl (by decide +kernel) (by kernel_rfl)
theorem kR(a:Value):argsOk "set_iterator.__iter__" ⟨[a],[]⟩:=by unfold argsOk;rw[signature?_of (id := "set_iterator.__iter__") (n:=['_', '_', 'r', 'e', 't', 'i', '_', '_']) (o:=['r', 'o', 't', 'a', 'r', 'e', 't', 'i', '_', 't', 'e', 's']) (by kernel_rfl) Bn];rfl
noncomputable def slotAt(place:Ys):Nat->Nat
 |0=>0
 |i+1=>place.getD i 0+1
theorem vS(r:qS xs):∀i,i<=xs.size->SetTable.below xs (slotAt xs i)=i
 |0,_=>by
  obtain⟨a,_,c⟩:=iO r (slotAt xs 0);apply Vj;intro z;have h0:0<SetTable.below xs (slotAt xs 0):=by omega
  have:=a 0 (by omega) h0
  grind[slotAt]
 |i+1,h=>by
  have hi:i<xs.size:=by omega
  have e:slotAt xs (i+1)=xs[i]+1:=by simp[slotAt,Array.getD,hi]
  rw[e];obtain⟨a,b,c⟩:=iO r (xs[i]+1);apply Vj;intro z;by_cases h1:SetTable.below xs (xs[i]+1)<=i
  ·have:=b i hi h1;omega
  ·have h2:i+1<SetTable.below xs (xs[i]+1):=by omega
   have h3:i+1<xs.size:=by omega
   have:=a (i+1) h3 h2;have:=uz r (i:=i) (k:=i+1) (by omega) h3;omega
section
variable {P:Yt} {w:World} {A:Yv} {E:Ye} {s:Yw} {vp:Value->Prop}
theorem zx{Q:Ye}(hT:s.TypeIs (.ref I) "set_iterator")(h:Q (.ref I) s):wpAny (model P w) A (Builtin.«dict_keyiterator.__iter__» ⟨[.ref I],[]⟩) (λfin s'=>∃v,fin=.done (.ret v)/\∃T' r,s'.TypeIs v T'/\typeLookup (.type T') (Str.ofString "__next__")=pure (some r)/\Q v s') E s:=Uw ⟨_,rfl, "set_iterator",_,hT,bR.lookup,h⟩
noncomputable def Ld(P:Yt)(w:World)(s:Yw)(a:Addr)(es:Yh)(Q:Ye):Prop:=
 ∀(L:List (Int×Value)) (I:Addr) (h':Heap) (dr:Drawn) (fp:Yk) (St:Nat->Heap->Prop),List.Perm L es.toList->(∀b∈fp,b<h'.objs.size)->I∈fp->(∀b∈fp,b=a\/s.heap.objs.size<=b)->s.heap.objs.size<=I->(∀b o,s.heap.get? b=some o->h'.get? b=some o) ->
  (∀A':Yv,A'.handled=none->Walks P w A' I fp [I] L.length (λi v=>∃e,L[i]?=some e/\v=e.2) St)->St 0 h'->Q (.ref I) {s with heap:=h',drawn:=dr}
theorem IH(S:fZ vp w s.heap a md ds es ep t)(q:Ld P w s a es Q):wpAny (model P w) A (pyIter (.ref a)) Q E s:=by
 have hT:s.TypeIs (.ref a) "set" := ⟨_,S.ob,rfl⟩;have hes:=S.size;have hln:=S.ln;have la:a<s.heap.objs.size:=Uz S.ob;refine Xx hT F.slot_set_iter (U6 F.slot_set_iter hT vQ ?_ (F.args_set_iter_1 _));unfold Builtin.«frozenset.__iter__»;refine Uu (W9 (a:=a) rfl ?_);unfold Builtin.Frozenset.sizeOf;refine Uu (Uu (wpAny_setEntries_of S.ob rfl S.tb.fits (Uw ?_)));unfold setDrawn;refine Uu (Uu (fh S.ob S.tb.fits ?_));dsimp only;refine Uu (nY (Uw ?_));have fits:=S.tb.fits;by_cases hd:(!cU w&&(!t.plain&&decide (es.size>1)))=true
 ·
  refine VR (λ_=>?_) λz=>absurd hd z;refine Uu (Et es.size (List.range es.size) s _ (by simp) λidx dr p=>?_);have hil:idx.length=es.size:=by have:=p.length_eq;simpa using this
  refine Uu (wpAny_newTuple (hsz:=by rw[US,hil,VJ];omega) ?_);refine Uu (wpAny_setEpoch_of (s:={s with heap:=s.heap.push _,drawn:=dr}) (Uv _ S.ob) rfl fits ?_);refine Uu (Vd (Uw ⟨_,rfl, "set_iterator",_,⟨_,UA _ rfl,rfl⟩,bR.lookup,?_⟩));generalize hob:({cls:=.type "tuple",data:=.seq (idx.map λ(i:Nat)=>rawInt i).toArray}:Obj)=oT;have hsz:(s.heap.push oT).objs.size=s.heap.objs.size+1:=Vi _ _;have hin:∀k∈idx,k<es.size:=λk hk=>Vf.mp (p.mem_iff.mp hk);have hget:∀i k,idx[i]?=some k->∃e,es[k]?=some e:=λi k e=>⟨_,U1 (hin k (UO e))⟩;obtain⟨g1,g2⟩:=CJ (es:=es) (l:=idx.map λk=>(0,k)) (λp hp=>by obtain⟨k,hk,rfl⟩:=UU.mp hp;exact hin k hk);have em:(idx.map λk=>((0:Nat),k)).map (·.2)=idx:=by rw[X2];exact List.map_id idx
  rw[em]at g1 g2;have hLp:List.Perm (idx.filterMap λk=>es[k]?) es.toList:=(p.filterMap _).trans (by rw[filterMap_getElem?_range]);have hLn:(idx.filterMap λk=>es[k]?).length=es.size:=by rw[hLp.length_eq];simp
  refine q (idx.filterMap λk=>es[k]?) (s.heap.push oT).objs.size _ dr [(s.heap.push oT).objs.size,s.heap.objs.size,a] (λi h=>h.get? (s.heap.push oT).objs.size=some (ka (.ref s.heap.objs.size) i (.ref a) es.size ep)/\h.IsTuple s.heap.objs.size (idx.map λ(i:Nat)=>rawInt i).toArray/\h.get? a=some (bQ es ep t)) hLp (λb hb=>?_) (UL ..) (λb hb=>by simp only[UC,UW,VH]at hb;rcases hb with rfl|rfl|rfl;exact .inr (by rw[hsz];exact VU _);exact .inr (Uy _);exact .inl rfl) (by rw[hsz];exact VU _) (λb o e=>Uv _ (Uv _ e)) (λA' hh=>?_) ⟨?_,?_,?_⟩
  ·rw[Vi,hsz];simp only[UC,UW,VH]at hb;rcases hb with rfl|rfl|rfl
   ·rw[hsz];exact V8 _
   ·exact UE (V8 _) (VU _)
   ·exact UE la (by omega)
  ·have n1:s.heap.objs.size≠(s.heap.push oT).objs.size:=by rw[hsz];exact UN (V8 _)
   have n2:a≠(s.heap.push oT).objs.size:=by rw[hsz];exact UN (VM la)
   refine⟨λb hb=>by simp at hb;simp[hb],by rintro i h h' ⟨x1,⟨o,x2,x3⟩,x4⟩ k;exact⟨k _ (by simp) _ x1,⟨o,k _ (by simp) _ x2,x3⟩,k _ (by simp) _ x4⟩,λi s' Q' E' hi ⟨x1,x2,x3⟩ hQ=>?_,λs' Q' E' ⟨x1,x2,x3⟩ hQ=>?_,λi s' Q' E' ⟨x1,_,_⟩ hQ=>?_⟩
   ·rw[hLn]at hi;have hi2:i<idx.length:=by omega
    have ek:=UH hi2;obtain⟨e,he⟩:=hget i _ ek;refine IG (x:=e) x1 x3 fits rfl x2 (place:=idx[i]) (by simp[ek]) he λh' y1 sb=>hQ e.2 h' s'.toks ⟨e,?_,rfl⟩ ⟨y1,?_,(sb.2 a n2).trans x3⟩ λb o hb eo=>(sb.2 b λz=>hb (by simp[z])).trans eo
    ·rw[g2 i (0,idx[i]) (by simp[ek])];exact he
    ·obtain⟨o,x2,x4⟩:=x2;exact⟨o,(sb.2 _ n1).trans x2,x4⟩
   ·rw[hLn]at x1;refine Lc hh x1 x3 fits rfl x2 (by simp;omega) λh' eb=>hQ h' s'.toks λb o hb eo=>eb b o (λz=>hb (by simp[z])) eo
   ·have hT':s'.TypeIs (.ref (s.heap.push oT).objs.size) "set_iterator" := fN x1;exact Xx hT' eI (U6 eI hT' jH (zx hT' hQ) (kR _))
  ·exact UA _ rfl
  ·subst hob;exact⟨_,Uv _ (UA _ rfl),rfl,_,rfl⟩
  ·exact Uv _ (Uv _ S.ob)
 ·refine VR (λz=>absurd z hd) λ_=>?_;refine Uu (Uw ?_);refine Uu (wpAny_setEpoch_of S.ob rfl fits ?_);refine Uu (Vd (Uw ⟨_,rfl, "set_iterator",_,⟨_,UA _ rfl,rfl⟩,bR.lookup,?_⟩));have na:a≠s.heap.objs.size:=UN la;by_cases hb:cU w=true
  ·
   have pk:=F2 (w.params.setOrder a ep) es;have pkn:(pickOrder (w.params.setOrder a ep) es).toList.length=es.size:=by rw[pk.length_eq];simp
   refine q (pickOrder (w.params.setOrder a ep) es).toList s.heap.objs.size _ s.drawn [s.heap.objs.size,a] (λi h=>h.get? s.heap.objs.size=some (ka (.int ((0:Nat):Int) 0) i (.ref a) es.size ep)/\h.get? a=some (bQ es ep t)) pk (λb hb=>?_) (UL ..) (λb hb=>by simp only[UC,UW,VH]at hb;rcases hb with rfl|rfl;exact .inr (Uy _);exact .inl rfl) (Uy _) (λb o e=>Uv _ e) (λA' hh=>?_) ⟨UA _ rfl,Uv _ S.ob⟩
   ·rw[Vi];simp only[UC,UW,VH]at hb;rcases hb with rfl|rfl
    ·exact V8 _
    ·exact VM la
   ·refine⟨λb hb=>by simp at hb;simp[hb],by rintro i h h' ⟨x1,x4⟩ k;exact⟨k _ (by simp) _ x1,k _ (by simp) _ x4⟩,λi s' Q' E' hi ⟨x1,x3⟩ hQ=>?_,λs' Q' E' ⟨x1,x3⟩ hQ=>?_,λi s' Q' E' ⟨x1,_⟩ hQ=>?_⟩
    ·have ek:=UH hi;generalize (pickOrder (w.params.setOrder a ep) es).toList[i]=e at ek;refine Bo (x:=e.2) (nx:=0) x1 x3 fits rfl (λA2 Q2 E2 h2=>yt x3 fits hb rfl ?_) λh' y1 sb=>hQ e.2 h' s'.toks ⟨e,ek,rfl⟩ ⟨y1,(sb.2 a na).trans x3⟩ λb o hb eo=>(sb.2 b λz=>hb (by simp[z])).trans eo;rw[<- U7,ek];exact h2
    ·refine Ew hh x1 x3 fits rfl (λA2 Q2 E2 h2=>yt x3 fits hb rfl ?_) λh' eb=>hQ h' s'.toks λb o hb eo=>eb b o (λz=>hb (by simp[z])) eo;rw[<- U7,List.getElem?_eq_none (Uy _)];exact h2
    ·have hT':s'.TypeIs (.ref s.heap.objs.size) "set_iterator" := fN x1;exact Xx hT' eI (U6 eI hT' jH (zx hT' hQ) (kR _))
  ·
   have hb':cU w=false:=by simpa using hb
   have hd':(!t.plain&&decide (es.size>1))=false:=by rw[hb']at hd;simpa using hd
   have hled:t.led=true:=by
    rcases S.ld with z|z
    ·exact z
    ·exact absurd z hb
   have hps:t.place.size=es.size:=S.tb.sz;refine q es.toList s.heap.objs.size _ s.drawn [s.heap.objs.size,a] (λi h=>h.get? s.heap.objs.size=some (ka (.int ((slotAt t.place i:Nat):Int) 0) i (.ref a) es.size ep)/\h.get? a=some (bQ es ep t)) (.refl _) (λb hb=>?_) (UL ..) (λb hb=>by simp only[UC,UW,VH]at hb;rcases hb with rfl|rfl;exact .inr (Uy _);exact .inl rfl) (Uy _) (λb o e=>Uv _ e) (λA' hh=>?_) ⟨UA _ rfl,Uv _ S.ob⟩
   ·rw[Vi];simp only[UC,UW,VH]at hb;rcases hb with rfl|rfl
    ·exact V8 _
    ·exact VM la
   ·refine⟨λb hb=>by simp at hb;simp[hb],by rintro i h h' ⟨x1,x4⟩ k;exact⟨k _ (by simp) _ x1,k _ (by simp) _ x4⟩,λi s' Q' E' hi ⟨x1,x3⟩ hQ=>?_,λs' Q' E' ⟨x1,x3⟩ hQ=>?_,λi s' Q' E' ⟨x1,_⟩ hQ=>?_⟩
    ·have hi':i<es.size:=by simpa using hi
     have ek:=U1 hi';have ep':=U1 (show i<t.place.size by omega);refine Bo (x:=es[i].2) (nx:=slotAt t.place (i+1)) x1 x3 fits rfl (λA2 Q2 E2 h2=>vR x3 fits hb' hd' hled ?_) λh' y1 sb=>hQ es[i].2 h' s'.toks ⟨es[i],by rw[U7];exact ek,rfl⟩ ⟨y1,(sb.2 a na).trans x3⟩ λb o hb eo=>(sb.2 b λz=>hb (by simp[z])).trans eo;rw[vS S.tb.rp i (by omega),ek,ep'];have:slotAt t.place (i+1)=t.place[i]'(by omega)+1:=by simp[slotAt,Array.getD,show i<t.place.size by omega]
     rw[this]at h2;exact h2
    ·have hl:es.toList.length=es.size:=by simp
     rw[hl]at x1;refine Ew hh x1 x3 fits rfl (λA2 Q2 E2 h2=>vR x3 fits hb' hd' hled ?_) λh' eb=>hQ h' s'.toks λb o hb eo=>eb b o (λz=>hb (by simp[z])) eo;rw[vS S.tb.rp es.size (by omega),Array.getElem?_eq_none (Uy _)];exact h2
    ·have hT':s'.TypeIs (.ref s.heap.objs.size) "set_iterator" := fN x1;exact Xx hT' eI (U6 eI hT' jH (zx hT' hQ) (kR _))
end
section
variable {P:Yt} {w:World} {A:Yv} {E:Ye} {s:Yw} {vp:Value->Prop}
theorem II(hT:s.TypeIs (.ref r) "set")(h:Q false s):wpAny (model P w) A (Builtin.List.listLengthHint (.ref r)) Q E s:=by
 unfold Builtin.List.listLengthHint;refine Uu (WR hT PySem.F.slot_set_len.lookup ?_);generalize wQ:("set.__len__" : String)=id0
 wp_delta
 rw[show splitId id0=some ("set", "__len__")from by subst wQ;decide +kernel];subst wQ;refine Uu (XI (T := "set") (b:=true) hT sub_set_self ?_);refine VR (λhab=>absurd hab (by decide)) (λ_=>?_);refine VR (λ_=>?_) (λhab=>absurd (by decide +kernel) hab);refine Uu (XC hT ?_);exact Uw h
theorem Bp(S:fZ vp w s.heap a md ds es ep t)(hh:A.handled=none)
 (q:∀(L:List (Int×Value)) h' dr tk,s.heap.objs.size<h'.objs.size->List.Perm L es.toList->(∀b o,s.heap.get? b=some o->h'.get? b=some o)->Q (L.map (·.2)) {s with heap:=h',drawn:=dr,toks:=tk}):wpAny (model P w) A (collect (.ref a)) Q E s:=by
 have hes:=S.size;have hln:=S.ln;unfold collect;refine Uu (wpAny_runValue (Wm F.entry_proto_collect ?_));rw[Wi F.plain_proto_collect _];show wpAny _ A.in1 (newList [] >>= λl=>again (.builtin "list.__iadd__" ⟨[l,.ref a],[]⟩)) _ _ s;refine Uu (Vd ?_);refine Uw ⟨XS F.plain_list_iadd _,Wm F.entry_list_iadd ?_⟩;rw[Wi F.plain_list_iadd _];have hS₁:(s.heap.push {cls:=.type "list",data:=.seq ([]:Yl).toArray}).get? s.heap.objs.size=some {cls:=.type "list",data:=.seq ([]:Yl).toArray}:=UA _ rfl;have la:=Uz S.ob;have h1:Builtin.List.listSameRef (.ref s.heap.objs.size) (.ref a)=false:=by simp[Builtin.List.listSameRef,WN la]
 have S1:fZ vp w (s.heap.push {cls:=.type "list",data:=.seq ([]:Yl).toArray}) a md ds es ep t:=S.keep λb o e=>Uv _ e;show wpAny _ A.in1 (Builtin.List.listExtendWith (.ref s.heap.objs.size) (.ref a) (.ref s.heap.objs.size)) _ _ _;unfold Builtin.List.listExtendWith;refine Uu (XC (T := "set") ⟨_,S1.ob,rfl⟩ ?_);rw[if_neg (by rw[h1];decide)];refine Uu (IH (s:={s with heap:=s.heap.push {cls:=.type "list",data:=.seq ([]:Yl).toArray}}) S1 λL I h' dr fp St p f1 f2 f5 f3 f4 W st=>?_);have hS2:=f4 _ _ hS₁;refine Uu (Va (II (s:={s with heap:=h',drawn:=dr}) ⟨_,f4 _ _ S1.ob,rfl⟩ ?_));rw[if_pos (by decide)];have hLn:L.length=es.size:=by rw[p.length_eq];simp
 have hSf:s.heap.objs.size∉fp:=λhm=>by
  rcases f5 _ hm with z|z
  ·exact absurd la (by rw[<- z];exact UT _)
  ·have z':(s.heap.push {cls:=.type "list",data:=.seq ([]:Yl).toArray}).objs.size<=s.heap.objs.size:=z;rw[Vi]at z';exact absurd z' (Nat.not_le.mpr (V8 _))
 refine Uu (Wl ?_);refine Uu ?_;show wpAny _ _ (updateSeq s.heap.objs.size (·.push .none) >>= λ_=>updateSeq s.heap.objs.size (·.pop)) _ _ _;refine Uu (wpAny_updateSeq hS2 rfl ?_);have hS3:=VP (Obj.mapSeq (·.push Value.none)) hS2 rfl;refine wpAny_updateSeq (hz:=by seq_fits) hS3 rfl ?_;have hS4:=VP (Obj.mapSeq (·.pop)) hS3 rfl;have oth:∀b o,b≠s.heap.objs.size->h'.get? b=some o->((h'.update s.heap.objs.size (Obj.mapSeq (·.push Value.none))).update s.heap.objs.size (Obj.mapSeq (·.pop))).get? b=some o:=λb o hb e=>(WG _ _ (WZ hb)).trans ((WG _ _ (WZ hb)).trans e);have st2:=(W A.in1 hh).frame 0 _ _ st λb hb o e=>oth b o (λz=>hSf (z▸hb)) e;refine Uw ⟨XS F.plain_extend_loop _,codeAny_extend_loopS (W A.in1 hh).toS (by rw[hLn,VJ];omega) _ hSf _ L.length 0 _ _ _ rfl (V4 _) st2 hS4 (ItemsOf.nil _) λs' acc' c' hm hS' hacc=>?_⟩;show wpAny _ A (load s.heap.objs.size >>= _) _ _ s';refine Uu (Xs hS' ?_);refine Uw ?_
 have e1:acc'.toList=L.map (·.2):=by
  apply List.ext_getElem?;intro j;rw[U7,Vs];by_cases hj:j<acc'.size
  ·obtain⟨e,he,hv⟩:=hacc.2 j acc'[j] (U1 hj);rw[U1 hj,he,hv];rfl
  ·rw[Array.getElem?_eq_none (by omega),List.getElem?_eq_none (by rw[<- hacc.1];omega)];rfl
 rw[e1];obtain⟨hp2,g2,d2,tk2,os2⟩:=s';have eg:g2=s.gens:=hm.gens;have ed:d2=dr:=hm.drawn;have eo:os2=s.os:=hm.os;subst eg;subst ed;subst eo;refine q L hp2 d2 tk2 (Uz hS') p λb o e=>hm.heap b o (λz=>?_) (oth b o (UN (Uz e)) (f4 _ _ (Uv _ e)));have lb:=Uz e;rcases UC.mp z with z|z
 ·rw[z]at lb;exact UT _ lb
 ·rw[U5.mp z]at lb;have f3':(s.heap.push {cls:=.type "list",data:=.seq ([]:Yl).toArray}).objs.size<=I:=f3;rw[Vi]at f3';exact absurd (UE lb (Nat.le_of_succ_le f3')) (UT _)
end
theorem tR:∀{vs:Yl} {ds:Yj},Paired (λv d=>∃as,Reads h v d as) vs ds->∃as,ReadsAll h vs ds as
 |_,_,.nil=>⟨_,.nil⟩
 |_,_,.cons ⟨_,r⟩ t=>by obtain⟨_,q⟩:=tR t;exact⟨_,.cons r q⟩
theorem oY(r:ReadsAll h vs ds as):∀(p:List Nat),(∀i∈p,i<vs.length)->∃bs,ReadsAll h (p.map λi=>vs.getD i .none) (p.map λi=>ds.getD i .none) bs
 | [],_=>⟨_,.nil⟩
 |i::p,hp=>by
  have hi:=hp i (UL ..);obtain⟨bs,q⟩:=oY r p λj hj=>hp j (UD _ hj);obtain⟨d,cs,e1,e2⟩:=readsAll_get r (UH hi);refine⟨_,.cons (as:=cs) ?_ q⟩
  simp_all
section
variable {P:Yt} {w:World} {A:Yv} {E:Ye} {s:Yw} {vp:Value->Prop}
theorem Bq(p:List.Perm ds es)(h:dJ ds=true):dJ es=true:=by
 unfold dJ at h ⊢;rw[UM]at h ⊢;intro a ha;have:=h a (p.mem_iff.mpr ha);rw[UM]at this ⊢
 grind
theorem Br{f:PyData->Bool}(p:List.Perm ds es)(h:ds.all f=true):es.all f=true:=by
 rw[UM]at h ⊢
 grind
theorem fO:∀{ds:Yj} {n:Nat},PyData.depthAll ds<=n<->∀d∈ds,d.depth<=n
 | [],n=>by simp[PyData.depthAll]
 |d::ds,n=>by simp[PyData.depthAll];rw[<- fO];omega
theorem yu:av ds=true<->∀d∈ds,au d=true:=⟨λh d m=>aY h m,je⟩
theorem CK(S:lF vp w s.heap a md ds)(hh:A.handled=none)(pz:List.Perm ds zs)(ok:f7 zs=true)(hu:A.units+60<cLine)
 (q:∀h' dr tk p us e,s.heap.objs.size<=p->(∀b o,s.heap.get? b=some o->h'.get? b=some o)->h'.get? p=some (PyProof.Rows.seqObj "list" (us:Yl).toArray e)->(∃as,ReadsAll h' us (dD ltB zs) as)->(∀u∈us,vp u)->Q (.ref p) {s with heap:=h',drawn:=dr,toks:=tk}):wpAny (model P w) A (call (.builtin "sorted") [.ref a]) Q E s:=by
 obtain⟨es,ep,t,S⟩:=S;simp only[f7,Ux,UZ,Wr]at ok;obtain⟨⟨⟨⟨kd,tr⟩,cm⟩,dp⟩,h64⟩:=ok;refine Calls.call_function_entry PyProof.Rows.kind_sorted PyProof.Rows.plain_sorted PyProof.Rows.entry_sorted (PyProof.Rows.args_sorted1 _) ?_;unfold Builtin.«sorted»;refine Uu (m:=checkCount "sorted" 1 1 _) (Uw ?_);refine Uu (Bp S (by simp[hh]) λL h1 dr tk sz1 pL k1=>?_);obtain⟨ds1,p1,e1⟩:=tP pL.symm S.el;have pd:List.Perm ds1 zs:=p1.symm.trans pz;have hLd:L.length=ds1.length:=U2 e1;have hdz:ds1.length=zs.length:=pd.length_eq;generalize hvs:L.map (·.2)=vs;have hvl:vs.length=zs.length:=by rw[<- hvs,US,hLd,hdz]
 obtain⟨as,ra⟩:∃as,ReadsAll h1 vs ds1 as:=by
  refine tR ?_;rw[<- hvs]
  have:∀{l:List (Int×Value)} {ys:Yj},Paired (El vp w s.heap md) l ys->Paired (λv d=>∃as,Reads h1 v d as) (l.map (·.2)) ys:=by
   intro l ys h
   induction h with
   |nil=>exact .nil
   |cons r _ ih=>exact .cons (by obtain⟨as,x⟩:=r.rd;exact⟨as,j0 (λb o _ _ e _ _=>k1 b o e) r.tr x⟩) ih
  exact this e1
 refine Uu (wpAny_newList (hsz:=by rw[hvl,VJ];omega) ?_);have hoL:(h1.push (PyProof.Rows.seqObj "list" vs.toArray 0)).get? h1.objs.size=some (PyProof.Rows.seqObj "list" vs.toArray 0):=UA _ rfl;have tr1:av ds1=true:=yu.mpr λd m=>yu.mp tr d (pd.mem_iff.mp m);have cm1:=Bq pd.symm cm;have O:=Qm (iz cm1 tr1);rw[hdz,<- hvl]at O;refine Uu (Va (U6 PyProof.Rows.slot_list_sort ⟨_,hoL,rfl⟩ PyProof.Rows.entry_list_sort (PySem.W.oR hoL O (by omega) (λh' k h2=>?_) λp a1 a2=>⟨_,rfl,?_⟩) (PyProof.Rows.args_list_sort _)))
 ·have ra':ReadsAll h' vs ds1 as:=VE (λb o e=>k b o (UN (Uz e)) (Uv _ e)) ra
  have la:PyData.canLayAll0 ds1=true:=qw (bC.mpr λd m=>by
   obtain⟨i,hi⟩:=VG m;obtain⟨e,_,x⟩:=jm e1 hi
   exact x.so) (ig tr1)
  rcases kd with kd|kd
  ·exact x6 (s:={s with heap:=h',drawn:=dr,toks:=tk}) ra' (Br pd.symm kd) h2
  ·exact x5 (s:={s with heap:=h',drawn:=dr,toks:=tk}) (by show A.units+1+1+41<cLine;omega) ra' (Br pd.symm kd) tr1 cm1 la (fO.mpr λd m=>fO.mp dp d (pd.mem_iff.mp m)) (by omega)
 ·obtain⟨e,he⟩:=PyProof.Rows.sortedHeap_at (out:=(p.toList.map λi=>vs.getD i Value.none).toArray) hoL;have kp:∀b o,h1.get? b=some o->(PyProof.Rows.sortedHeap (h1.push (PyProof.Rows.seqObj "list" vs.toArray 0)) h1.objs.size vs (p.toList.map λi=>vs.getD i Value.none).toArray).get? b=some o:=λb o eb=>by rw[PyProof.Rows.sortedHeap_old (UN (Uz eb)) (by rw[Vi];exact VM (Uz eb))];exact Uv _ eb
  have hin:∀i∈p.toList,i<vs.length:=λi hi=>Vf.mp (a1.perm.mem_iff.mp hi);obtain⟨bs,rb⟩:=oY ra p.toList hin
  have e1':(p.toList.map λi=>ds1.getD i .none)=dD ltB zs:=by
   refine AG cm tr ?_ ?_
   ·have:=a1.perm.map (λi=>ds1.getD i .none);rw[hvl,<- hdz,kD]at this;exact this.trans pd
   ·have hlp:p.toList.length=vs.length:=by rw[a1.perm.length_eq,List.length_range]
    unfold Up;rw[WX,Vy];intro i j hi hj hij;have x1:PySem.W.pat p i=p.toList[i]:=by simp only[Vo]at hi;rw[PySem.W.me,Yd p i hi];simp
    have x2:PySem.W.pat p j=p.toList[j]:=by simp only[Vo]at hj;rw[PySem.W.me,Yd p j hj];simp
    have:=a2 i j hij (by omega);rw[x1,x2]at this;exact this
  rw[e1']at rb;refine Uw ⟨_,rfl,q _ dr tk h1.objs.size (p.toList.map λi=>vs.getD i Value.none) e (WL sz1) (λb o eb=>kp b o (k1 b o eb)) he ⟨bs,VE kp rb⟩ λu hu=>?_⟩;obtain⟨i,hi,rfl⟩:=UU.mp hu;have hil:=hin i hi;have eu:vs.getD i Value.none=vs[i]:=by simp[hil]
  have hmem:vs[i]∈L.map (·.2):=by rw[hvs];exact W6 hil
  obtain⟨e',he',e2⟩:=UU.mp hmem;obtain⟨j,hj⟩:=VG he';obtain⟨d',_,x⟩:=gc e1 hj;rw[eu,<- e2];exact x.vl
end
end Stt
namespace Ml
open PySem PySem.Spec L2 Stt
theorem _root_.L2.Inv.dr{σ:St}(I:L2.Inv X pins σ H s)(dr:Drawn):L2.Inv X pins σ H {s with drawn:=dr}:=⟨I.ok,I.os,I.bare,I.base,I.loc,I.cell,I.free,I.freeC,I.pin,I.hok,I.len⟩
structure IJ(X:Cx)(M:Hp)(s:Yw)(b:Addr)(ds:Yj)(vs:List V)(its:Yl):Prop where
 src:∃T OK,Src X.prog X.w T b its.toArray OK/\OK s.heap
 rep:bo M ds vs
 val:Vals vs its
 so:cK ds=true
theorem Le{σ:St}(I:L2.Inv X pins σ H s)(w:W X.G θ hm H)(r:bT X.G θ H d v)(e:A5 d hm=some ds) :
  ∃b vs its,v=.ref b/\IJ X (view θ H) s b ds vs its:=by
 have tup:∀(b:Addr) (vs:List V),v=.ref b->gO X.K H b vs->bo _ ds vs->cK ds=true->∃b vs its,v=.ref b/\IJ X (view θ H) s b ds vs its:=λb vs e1 e2 e3 e4=>by obtain⟨its,rv,pl,_⟩:=I.tuple e2;exact⟨b,vs,its,e1,⟨"tuple",_,src_tuple b its.toArray,pl⟩,e3,rv,e4⟩
 have hs:=e;unfold A5 at hs;split at hs
 ·cases hs;obtain⟨⟨b,vs,rfl,hb,rr⟩,so⟩:=r;exact tup b vs rfl (.inl (.inl (aC _ _ _ _ hb))) rr (by assumption)
 ·cases hs;obtain⟨b,rfl,⟨o,its,n,k1,k2,k3,k4,k5⟩,k6,k7⟩:=r;refine tup b _ rfl (.inr ⟨o,its,n,k1,k2,k3,k4,k5⟩) (kF (A6 (G:=X.G) k6 k7) (nL _)).1 k7
 ·obtain⟨b,vs,rfl,hb,rr,so⟩:=nS w r hs;obtain⟨its,n,rv,eo,hz⟩:=I.lst hb;exact⟨b,vs,its,rfl,⟨"list",_,src_list b its.toArray,⟨_,eo,rfl,n,rfl⟩⟩,rr,rv,so⟩
theorem vT(rp:bo M ds vs)(rv:Vals vs its)(ra:ReadsAll h its ds as):∀{us:Yl} {zs:Yj} {bs:Yk},ReadsAll h us zs bs->(∀u∈us,u∈its)->∃ws,Vals ws us/\bo M zs ws
 |_,_,_,.nil,_=>⟨[],.nil,rfl⟩
 |_,_,_,.cons r t,hu=>by obtain⟨ws,q1,q2⟩:=vT rp rv ra t λu m=>hu u (UD _ m);obtain⟨i,hi⟩:=VG (hu _ (UL ..));obtain⟨d,cs,e1,e2⟩:=readsAll_get ra hi;obtain⟨x,e3,e4⟩:=bo.get' rp e1;obtain⟨u',e5,e6⟩:=rv.get e3;rw[hi]at e5;cases e5;have:=(PySem.Reads.unique r _ _ e2).1;subst this;exact⟨x::ws,.cons e6 q1,.cons e4 q2⟩
theorem IK(h:setOk ds=true)(so:cK ds=true):∃md,ds.length<=120/\(∀d∈ds,aE d=true)/\∀d∈ds,OG md d:=by
 simp only[setOk,Ux,UZ,Wr]at h;obtain⟨⟨⟨h1,h2⟩,h3⟩,h4⟩:=h;have t:=yd.mp h2;rcases h1 with h1|h1
 ·exact⟨true,h4,t,λd m=>⟨t d m,fO.mp h3 d m,bC.mp so d m,UM.mp h1 d m⟩⟩
 ·refine⟨false,h4,t,λd m=>⟨t d m,fO.mp h3 d m,bC.mp so d m,?_⟩⟩;have:=UM.mp h1 d m;cases d<;>simp[gR]at this<;>rfl
section
variable {X:Cx} {E:XK} {m m2:ME} {e e2:Expr} {k:Nat} {pins:Yf} {σ:St} {H:Hp} {s:Yw} {θ:Yk} {hm:Hm} {Q:VK} {p1 p2 p3 p4 p5 p6 pos:Pos}
theorem CL(I:L2.Inv X pins σ H s)(w:W X.G θ hm H)(sm:M=view θ H)(hk:∀b o,s.heap.get? b=some o->s'.heap.get? b=some o)(hs:∃h tk dr,s'={s with heap:=h,toks:=tk,drawn:=dr})(hsz:s.heap.objs.size<=s'.heap.objs.size)
 (S:lF vp X.w s'.heap a md dsS)(hh:X.A.handled=none)(pz:List.Perm dsS zs)(ok:f7 zs=true)(so:cK zs=true)(hu:X.A.units+60<cLine)(rp:bo M ds vs)(rv:Vals vs its)(ra:ReadsAll s'.heap its ds as)(hvp:∀v,vp v->v∈its)
 (q:aI X.G (qG X.G E) θ H (.ok (.dat (.list (dD ltB zs))) hm) (KV X.G Q)):wpAny (model X.prog X.w) X.A (call (.builtin "sorted") [.ref a]) (EP X pins σ Q) X.xe s':=by
 obtain⟨h1,tk1,dr1,rfl⟩:=hs;refine CK S hh pz ok hu λh' dr tk p us e' hp kp he ⟨bs,rb⟩ vu=>?_;have ra':ReadsAll h' its ds as:=VE kp ra;obtain⟨ws,q1,q2⟩:=vT rp rv ra' rb λu m=>hvp u (vu u m);have hpp:s.heap.objs.size<=p:=UI hsz hp;have hn:H p=none:=I.hok.fresh hpp;obtain⟨ev,w1,g⟩:=w.put (o:=.lst ws) hn
 have hlen:ws.length<=sizeLine:=by
  have x1:=q2.length;have x2:(dD ltB zs).length=zs.length:=(ck _ _).length_eq;simp only[f7,Ux,UZ]at ok
  grind[sizeLine_eq]
 have I2:L2.Inv X pins σ (upd H p (.lst ws)) {s with heap:=h',toks:=tk}:=I.laid (t':=tk) (λb o eb=>kp b o (hk b o eb)) hpp ⟨hlen,us,e',q1,he⟩;subst sm;exact⟨.ref p,_,I2.dr dr,rfl,q _ _ ev w1 _ ⟨⟨p,ws,rfl,g,q2.same ev.same⟩,by simp only[dz];exact x8 (ck _ _).symm so⟩⟩
theorem CM(hc:X.calm=true)(hr:L2.bJ k X.A)(hm1:X.mg "sorted" = none)(hm2:X.mg "set" = none)(ha:DE X E m e)(hg:Gl X "sorted" := by rfl)(hg2:Gl X "set" := by rfl)(hs:starEach [e] X.env=[(false,eval e X.env)]:=by rfl)
 (hs3:starEach [.Call (.Name "set" p2) [e] [] p3] X.env=[(false,eval (.Call (.Name "set" p2) [e] [] p3) X.env)]:=by rfl) :
  DE X E (ag iM (aa m aj)) (.Call (.Name "sorted" p1) [.Call (.Name "set" p2) [e] [] p3] [] pos):=by
 simp only[bA]at *;rintro pins s σ H Q I ⟨θ,h,ρ,w,fr,p⟩;refine Vg (pb I hg hm1 (by decide +kernel:bootBuiltins "sorted" = some (.builtin "sorted")) ?_);refine XB ?_ (by rw[hs3];rfl) (by rfl);rw[hs3];show wpAny _ _ (spliced ((false,eval (.Call (.Name "set" p2) [e] [] p3) X.env)::[])) _ _ s;refine Wa ?_;refine Vg (pb I hg2 hm2 (by decide +kernel:bootBuiltins "set" = some (.type "set")) ?_);refine V1 ?_ (by rw[hs];rfl) (by rfl);rw[hs];show wpAny _ _ (spliced ((false,eval e X.env)::[])) _ _ s;simp only[ag,aa,aj,R.bind_assoc,R.aO]at p;refine Wa (bW (ha pins s σ H (λv H1=>∃θ1 h1 d,W X.G θ1 h1 H1/\bT X.G θ1 H1 d v/\aI X.G (qG X.G E) θ1 H1 (iM [d] h1) (Ml.KV X.G Q)) I ⟨θ,h,ρ,w,fr,(aI.bind p).mono (by rintro d θ1 h1 H1 _ _ ⟨ev,w1,q1⟩ v r1;exact⟨θ1,h1,d,w1,r1,q1⟩)⟩) λu s1 ⟨v,H1,I1,rv1,θ1,h1,d,w1,r1,q1⟩=>?_);refine WT ?_
 cases hsq:A5 d h1 with
 |none=>simp only[iM,hsq]at q1;exact q1.elim
 |some ds=>
  have hds:=hsq;simp only[iM,hsq]at q1;by_cases hc2:(setOk ds&&f7 (iL ds))=true
  ·rw[if_pos hc2]at q1
   ·skip
    simp only[Ux]at hc2;obtain⟨b,vs,its,rfl,SS⟩:=Le I1 w1 r1 hds;cases rv1;obtain⟨T,OK,src,hok⟩:=SS.src;obtain⟨as,ra⟩:=bo.reads I1 (SS.rep.same (aC _ _)) SS.val;obtain⟨md,hl,ht,hel⟩:=IK hc2.1 SS.so;have hun:=hr.un;refine IF (vp:=λv=>v∈its) (md:=md) (ys:=ds) (as:=as) src (I1.ok.hd hc) hok (by simpa using ra) hel (λv m=>by simpa using m) hl (by omega) λh' tk dsS S md' kp=>?_;refine WT ?_;have S0:=S;obtain⟨_,_,_,SA⟩:=S0;refine CL (s:=s1) (s':={s1 with heap:=h',toks:=tk}) I1 w1 rfl kp ⟨h',tk,s1.drawn,rfl⟩ (WL (Uz SA.ob)) S (I1.ok.hd hc) ?_ hc2.2 ?_ (by omega) SS.rep SS.val (VE kp ra) (λv hv=>hv) q1
    ·refine(List.perm_ext_iff_of_nodup SA.nd (ji ht)).mpr λd=>?_;rw[md',j7 ht]
    ·exact bC.mpr λd m=>bC.mp SS.so d ((j7 ht d).mp m)
  ·rw[if_neg hc2]at q1;exact q1.elim
end
theorem yw:∀{xs ys:Yj},xs.Nodup->(∀x∈xs,x∈ys)->xs.length<=ys.length
 | [],_,_,_=>V4 _
 |x::xs,ys,nd,h=>by
  classical
  obtain⟨n1,n2⟩:=VN.mp nd;have hx:=h x (UL ..);obtain⟨i,hi,e⟩:=WB hx;have p:=fM hi
  have:=yw (ys:=ys.eraseIdx i) n2 λy hy=>by
   grind
  grind
end Ml
namespace Ml
open PySem PySem.Spec L2
theorem nZ{N ps:Yn}{sc:Scope}(a:sc.kind=.function:=by rfl)(b:sc.isCoroutine=false:=by rfl)(c:sc.isGenerator=false:=by rfl)(d:N.Nodup:=by decide +kernel)(e:N.take ps.length=ps:=by rfl)
 (f:∀x∈ps,sc.names.lookup x=some .local\/sc.names.lookup x=some .cell:=by decide +kernel)(g:∀y∈sc.names,y.2≠.free:=by decide +kernel):aM N ps sc:=⟨a,b,c,d,e,f,g⟩
section
variable {X:Cx} {E:XK} {x:Str} {ps:Yn} {k j:Nat} {F:Fn} {e e1 e2:Expr} {es:Yo} {ma:MA} {m1 m2:ME} {p pos:Pos}
theorem iQ(F':aZ X.prog X.w X.K X.mg X.base x ps k F)(hx:Passes (ja X.prog X.w) X E)(hr:bJ j X.A)(ha:DA X E ma (e::es))(hk:k<=j:=by omega)(hg:Gl X x:=by rfl)(hdb:(x==("__debug__" : Str))=false:=by decide)(he:starEach (e::es) X.env=(false,eval e X.env)::starEach es X.env:=by rfl)
 (hpl:(backTo pos (starEach es X.env)).any (·.1)=false:=by rfl):DE X E (ag F ma) (.Call (.Name x p) (e::es) [] pos):=Qj F' hx (hr.mono hk) hg ha hdb he hpl
end
end Ml
namespace K13
open PySem L2 Ml
noncomputable def top(i:Nat):Stmt:=PySem.Challenge.pw_everalike_k13_kernels.main.body.getD i (.Pass ⟨0,0,0,0⟩)
structure Txt(K:Ym)(mg:Yi):Prop where
 n_all:mg "all" = none
 n_len:mg "len" = none
 n_isinstance:mg "isinstance" = none
 n_str:mg "str" = none
 n_zip:mg "zip" = none
 n_tuple:mg "tuple" = none
 n_int:mg "int" = none
 n_max:mg "max" = none
 n_divmod:mg "divmod" = none
 n_sorted:mg "sorted" = none
 n_range:mg "range" = none
 n_list:mg "list" = none
 n_set:mg "set" = none
 n_repr:mg "repr" = none
 i_LONGEST_NAME:∃t,mg "LONGEST_NAME" = some (.int 6 t)
 i_MOST_NAMES:∃t,mg "MOST_NAMES" = some (.int 12 t)
 x_NoWeb:Sn K mg "NoWeb"
 x_NoKind:Sn K mg "NoKind"
 f_IDLE:∃a,mg "IDLE" = some (.ref a)/\KW K mg a sk
 t_KINDS:∃a,mg "KINDS" = some (.ref a)/\Hv K a uy
section
variable {P:Yt} {w:World} {K:Ym} {mg:Yi} {base:Heap} {XE:VK->XK} {bm:Addr}
abbrev sE:Stmt:=top 19
abbrev sF:Yn:=["thing"]
theorem CN:aM ["thing"] sF (ao sE):=nZ
theorem zy:(["letter", "thing"]:Yn).Nodup:=by decide +kernel
noncomputable abbrev yx(P:Yt)(w:World)(K:Ym)(mg:Yi)(base:Heap):Prop:=aZ P w K mg base "is_name" sF 1 j5
theorem F3(D:Df K mg "is_name" sF sE)(T:Txt K mg):yx P w K mg base:=
 aZ.eq (Df.has (k:=0) D CN (λf cdv A outer s H E hr=>
  aA (fe (DW.dt (gZ (df (cf (xi (Dy _) G1 T.n_isinstance T.n_str (dv 0)))) (gU (df (AX FK FK aH (ue mG T.n_len iD (ae (dv 0) ai)) (D9 T.i_LONGEST_NAME)))))) (aD (aP cW)) bZ)
  (aD (aP (ue (vo rfl) T.n_all pA (ae (fj ["letter"] (by rfl) rfl (dh (dv 0)) (λ_ _ _ _ _=>dg 0 zy) (λ_ _ _ _ _=>ip) (λ_ _ _ _ _=>HY FK FK de (dv 0) de)) ai)))))) (by kernel_rfl)
abbrev mQ:Stmt:=top 20
abbrev mR:Yn:=["things"]
theorem zz:aM ["things"] mR (ao mQ):=nZ
theorem mS:(["low", "high", "things"]:Yn).Nodup:=by decide +kernel
noncomputable abbrev mT(P:Yt)(w:World)(K:Ym)(mg:Yi)(base:Heap):Prop:=aZ P w K mg base "is_rising" mR 1 gL
theorem Bs(D:Df K mg "is_rising" mR mQ)(T:Txt K mg):mT P w K mg base:=
 aZ.eq (Df.has (k:=0) D zz (λf cdv A outer s H E hr=>
  aD (aP (ue (vo rfl) T.n_all pA (ae (fj ["low", "high"] (by rfl) rfl (HA (by rfl) T.n_zip (ae (dv 0) (ae (iK (dv 0) (gw aH) nU) ai))) (λ_ _ _ _ _=>jD rfl (bI (dg 0 mS) (bI (dg 1 mS) gr)) (aV (aV dF))) (λ_ _ _ _ _=>ip) (λ_ _ _ _ _=>dM (FJ hr) (dv 0) (dv 1) (by rfl))) ai))))) (by kernel_rfl)
abbrev mU:Stmt:=top 21
abbrev mV:Yn:=["thing"]
theorem zA:aM ["thing"] mV (ao mU):=nZ
theorem vU:(["part", "thing"]:Yn).Nodup:=by decide +kernel
noncomputable abbrev tS(P:Yt)(w:World)(K:Ym)(mg:Yi)(base:Heap):Prop:=aZ P w K mg base "are_names" mV 2 jg
theorem Bt(D:Df K mg "are_names" mV mU)(T:Txt K mg)(J20:mT P w K mg base)(J19:yx P w K mg base):tS P w K mg base:=
 aZ.eq (Df.has (k:=1) D zA (λf cdv A outer s H E hr=>
  aA (fe (DW.dt (gZ (df (cf (xi (kit_tuple _) cZ T.n_isinstance T.n_tuple (dv 0)))) (gU (cx Qk (ue mG T.n_len iD (ae (dv 0) ai)) (D9 T.i_MOST_NAMES) (by rfl))))) (aD (aP cW)) bZ)
  (aD (aP (gx (ue (vo rfl) T.n_all pA (ae (fj ["part"] (by rfl) rfl (dh (dv 0)) (λ_ _ _ _ _=>dg 0 vU) (λ_ _ _ _ _=>ip) (λ_ _ _ _ _=>iQ J19 cG hr (ae (dv 0) ai))) ai)) (fI (iQ J20 bu hr (ae (dv 0) ai)))))))) (by kernel_rfl)
abbrev mW:Stmt:=top 22
abbrev mY:Yn:=["thing", "names"]
theorem zB:aM ["thing", "names"] mY (ao mW):=nZ
noncomputable abbrev tT(P:Yt)(w:World)(K:Ym)(mg:Yi)(base:Heap):Prop:=aZ P w K mg base "is_strike" mY 1 dA
theorem Bu(D:Df K mg "is_strike" mY mW)(T:Txt K mg):tT P w K mg base:=
 aZ.eq (Df.has (k:=0) D zB (λf cdv A outer s H E hr=>
  aA (fe (DW.dt (gZ (df (cf (xi (kit_tuple _) cZ T.n_isinstance T.n_tuple (dv 0)))) (gU (cx (AJ hr) (ue mG T.n_len iD (ae (dv 0) ai)) aH (by rfl))))) (aD (aP cW)) bZ)
  (aD (aP (gx (dM (qO hr) (cV (bz hr) (dv 0) aH (λ_ _=>rfl)) (dv 1) (by rfl)) (fI (dM (qO hr) (cV (bz hr) (dv 0) aH (λ_ _=>rfl)) (dv 1) (by rfl)))))))) (by kernel_rfl)
abbrev jI:Stmt:=top 23
abbrev jJ:Yn:=["thing", "names"]
theorem vV:aM ["thing", "names"] jJ (ao jI):=nZ
theorem sG:(["part", "thing", "names"]:Yn).Nodup:=by decide +kernel
noncomputable abbrev oZ(P:Yt)(w:World)(K:Ym)(mg:Yi)(base:Heap):Prop:=aZ P w K mg base "are_strikes" jJ 2 dG
theorem xp(D:Df K mg "are_strikes" jJ jI)(T:Txt K mg)(J20:mT P w K mg base)(J22:tT P w K mg base):oZ P w K mg base:=
 aZ.eq (Df.has (k:=1) D vV (λf cdv A outer s H E hr=>
  aA (fe (df (cf (xi (kit_tuple _) cZ T.n_isinstance T.n_tuple (dv 0)))) (aD (aP cW)) bZ)
  (aD (aP (gx (ue (vo rfl) T.n_all pA (ae (fj ["part"] (by rfl) rfl (dh (dv 0)) (λ_ _ _ _ _=>dg 0 sG) (λ_ _ _ _ _=>ip) (λ_ _ _ _ _=>iQ J22 cG hr (ae (dv 0) (ae (dv 2) ai)))) ai)) (fI (iQ J20 bu hr (ae (dv 0) ai)))))))) (by kernel_rfl)
abbrev vW:Stmt:=top 24
abbrev vX:Yn:=["thing"]
theorem sI:aM ["thing", "names", "strikes"] vX (ao vW):=nZ
noncomputable abbrev Bv(P:Yt)(w:World)(K:Ym)(mg:Yi)(base:Heap):Prop:=aZ P w K mg base "is_web" vX 3 gM
theorem IL(D:Df K mg "is_web" vX vW)(T:Txt K mg)(J23:oZ P w K mg base)(J21:tS P w K mg base):Bv P w K mg base:=
 aZ.eq (Df.has (k:=2) D sI (λf cdv A outer s H E hr=>
  aA (fe (DW.dt (gZ (df (cf (xi (kit_tuple _) cZ T.n_isinstance T.n_tuple (dv 0)))) (gU (cx (AJ hr) (ue mG T.n_len iD (ae (dv 0) ai)) aH (by rfl))))) (aD (aP cW)) bZ)
  (aA (mD (dv 0) (jD rfl (bI (dg 1 sI.nd) (bI (dg 2 sI.nd) gr)) (aV (aV dF))))
  (aD (aP (gx (iQ J21 bu hr (ae (dv 1) ai)) (fI (iQ J23 bu hr (ae (dv 2) (ae (dv 1) ai)))))))))) (by kernel_rfl)
abbrev mZ:Stmt:=top 25
abbrev nc:Yn:=["thing"]
theorem zC:aM ["thing"] nc (ao mZ):=nZ
noncomputable abbrev tU(P:Yt)(w:World)(K:Ym)(mg:Yi)(base:Heap):Prop:=aZ P w K mg base "check_web" nc 4 eB
theorem Bw(D:Df K mg "check_web" nc mZ)(T:Txt K mg)(J24:Bv P w K mg base):tU P w K mg base:=
 aZ.eq (Df.has (k:=3) D zC (λf cdv A outer s H E hr=>
  aD (fe (df (cf (iQ J24 bu hr (ae (dv 0) ai)))) (aD (AY T.x_NoWeb hr (ae de ai))) bZ))) (by kernel_rfl)
abbrev kS:Stmt:=top 28
abbrev kT:Yn:=["thing"]
theorem xq:aM ["thing"] kT (ao kS):=nZ
noncomputable abbrev qW(P:Yt)(w:World)(K:Ym)(mg:Yi)(base:Heap):Prop:=aZ P w K mg base "check_kind" kT 1 gz
theorem zD(D:Df K mg "check_kind" kT kS)(T:Txt K mg):qW P w K mg base:=
 aZ.eq (Df.has (k:=0) D xq (λf cdv A outer s H E hr=>
  aD (fe (cx (Ed hr) (dv 0) (Kw T.t_KINDS) (by rfl)) (aD (AY T.x_NoKind hr (ae de ai))) bZ))) (by kernel_rfl)
abbrev fP:Stmt:=top 30
abbrev fQ:Yn:=["strikes", "one", "other"]
theorem pP:aM ["strikes", "one", "other"] fQ (ao fP):=nZ
noncomputable abbrev jn(P:Yt)(w:World)(K:Ym)(mg:Yi)(base:Heap):Prop:=aZ P w K mg base "idle_for_stable" fQ 1 bO
theorem qY(D:Df K mg "idle_for_stable" fQ fP)(T:Txt K mg):jn P w K mg base:=
 aZ.eq (Df.has (k:=0) D pP (λf cdv A outer s H E hr=>
  aD (aP (dM (qO hr) (cy (ae (dv 1) (ae (dv 1) ai))) (dv 0) (by rfl))))) (by kernel_rfl)
abbrev eS:Stmt:=top 31
abbrev eT:Yn:=["strikes", "one", "other"]
theorem ng:aM ["strikes", "one", "other"] eT (ao eS):=nZ
noncomputable abbrev hV(P:Yt)(w:World)(K:Ym)(mg:Yi)(base:Heap):Prop:=aZ P w K mg base "idle_for_standing" eT 1 br
theorem oH(D:Df K mg "idle_for_standing" eT eS)(T:Txt K mg):hV P w K mg base:=
 aZ.eq (Df.has (k:=0) D ng (λf cdv A outer s H E hr=>
  aD (aP (gx (dM (qO hr) (cy (ae (dv 1) (ae (dv 1) ai))) (dv 0) (by rfl)) (fI (zo (dM (qO hr) (cy (ae (dv 2) (ae (dv 1) ai))) (dv 0) (by rfl)) (fI (dM (qO hr) (cy (ae (dv 2) (ae (dv 2) ai))) (dv 0) (by rfl))))))))) (by kernel_rfl)
abbrev gf:Stmt:=top 32
abbrev gg:Yn:=["strikes", "one", "other"]
theorem qZ:aM ["strikes", "one", "other"] gg (ao gf):=nZ
noncomputable abbrev ke(P:Yt)(w:World)(K:Ym)(mg:Yi)(base:Heap):Prop:=aZ P w K mg base "idle_for_whole" gg 1 bX
theorem sJ(D:Df K mg "idle_for_whole" gg gf)(T:Txt K mg):ke P w K mg base:=
 aZ.eq (Df.has (k:=0) D qZ (λf cdv A outer s H E hr=>
  aD (aP (gx (dM (qO hr) (cy (ae (dv 1) (ae (dv 1) ai))) (dv 0) (by rfl)) (fI (dM (qO hr) (cy (ae (dv 2) (ae (dv 2) ai))) (dv 0) (by rfl))))))) (by kernel_rfl)
abbrev eU:Stmt:=top 33
abbrev eV:Yn:=["strikes", "one", "other"]
theorem nh:aM ["strikes", "one", "other"] eV (ao eU):=nZ
noncomputable abbrev hZ(P:Yt)(w:World)(K:Ym)(mg:Yi)(base:Heap):Prop:=aZ P w K mg base "idle_for_grounded" eV 1 bE
theorem oJ(D:Df K mg "idle_for_grounded" eV eU)(T:Txt K mg):hZ P w K mg base:=
 aZ.eq (Df.has (k:=0) D nh (λf cdv A outer s H E hr=>
  aD (aP (gx (dM (qO hr) (cy (ae (dv 2) (ae (dv 2) ai))) (dv 0) (by rfl)) (fI (zo (dM (qO hr) (cy (ae (dv 1) (ae (dv 1) ai))) (dv 0) (by rfl)) (fI (dM (qO hr) (cy (ae (dv 2) (ae (dv 1) ai))) (dv 0) (by rfl))))))))) (by kernel_rfl)
abbrev vY:Stmt:=top 35
abbrev vZ:Yn:=["web", "kind"]
theorem iA:aM ["web", "kind", "idle", "names", "strikes", "there", "kept"] vZ (ao vY):=nZ
theorem tV:(["one", "other", "web", "kind", "idle", "names", "strikes", "there", "kept"]:Yn).Nodup:=by decide +kernel
theorem Bx:(["strike", "web", "kind", "idle", "names", "strikes", "there", "kept"]:Yn).Nodup:=by decide +kernel
noncomputable abbrev ni(P:Yt)(w:World)(K:Ym)(mg:Yi)(base:Heap):Prop:=aZ P w K mg base "kernel" vZ 5 bD
theorem IM(D:Df K mg "kernel" vZ vY)(T:Txt K mg)(J33:hZ P w K mg base)(J31:hV P w K mg base)(J30:jn P w K mg base)(J32:ke P w K mg base)(J28:qW P w K mg base)(J25:tU P w K mg base):ni P w K mg base:=
 aZ.eq (Df.has (k:=4) D iA (λf cdv A outer s H E hr=>
  aA (nN (iQ J25 bu hr (ae (dv 0) ai)))
  (aA (nN (iQ J28 bu hr (ae (dv 1) ai)))
  (aA (jE 2 iA.nd (KZ T.f_IDLE (dv 1) (λ_ _=>rfl)))
  (aA (mD (dv 0) (jD rfl (bI (dg 3 iA.nd) (bI (dg 4 iA.nd) gr)) (aV (aV dF))))
  (aA (jE 5 iA.nd (Io ["strike"] true hr (by rfl) rfl (dh (dv 4)) (λ_ _ _ _ _=>dg 0 Bx) (λ_ _ _ _ _=>ip) (λ_ _ _ _ _=>dv 0) (λ_ _ _ _ _=>cW)))
  (aA (D4 (i:=6) ["one", "other"] iA.nd rfl rfl (by rfl) rfl (dh (dv 4)) (λ_ _ _ _ _=>jD rfl (bI (dg 0 tV) (bI (dg 1 tV) gr)) (aV (aV dF))) (λ_ _ _ _ _=>nO (DW.dt (gZ (cx (Ct hr) (dv 0) (dv 1) (by rfl)) (gU (df (cf (OA (k:=1) 4 (.cons (J33.mono (by decide)) (.cons (J31.mono (by decide)) (.cons (J30.mono (by decide)) (.cons (J32.mono (by decide)) (.nil))))) cG (hr.mono (by omega)) (ae (dv 7) (ae (dv 0) (ae (dv 1) ai)))))))))) (λ_ _ _ _ _=>cy (ae (dv 0) (ae (dv 1) ai))))
  (aD (aP (cy (ae (dv 3) (ae (jX (qM rfl) T.n_tuple cZ (ae (dv 6) ai)) ai)))))))))))) (by kernel_rfl)
abbrev sL:Stmt:=top 36
abbrev sM:Yn:=["web", "kind"]
theorem pQ:aM ["web", "kind", "names", "strikes", "idle", "there", "full"] sM (ao sL):=nZ
noncomputable abbrev yy(P:Yt)(w:World)(K:Ym)(mg:Yi)(base:Heap):Prop:=aZ P w K mg base "fullest" sM 6 f9
theorem F4(D:Df K mg "fullest" sM sL)(T:Txt K mg)(J35:ni P w K mg base):yy P w K mg base:=
 aZ.eq (Df.has (k:=5) D pQ (λf cdv A outer s H E hr=>
  aA (mD (iQ J35 bu hr (ae (dv 0) (ae (dv 1) ai))) (jD rfl (bI (dg 2 pQ.nd) (bI (dg 3 pQ.nd) gr)) (aV (aV dF))))
  A4)) (by kernel_rfl)
abbrev pR:Stmt:=top 37
abbrev pS:Yn:=["web", "kind"]
theorem tW:aM ["web", "kind", "kept", "many", "strike"] pS (ao pR):=nZ
noncomputable abbrev v7(P:Yt)(w:World)(K:Ym)(mg:Yi)(base:Heap):Prop:=aZ P w K mg base "how_many" pS 6 gN
theorem CO(D:Df K mg "how_many" pS pR)(T:Txt K mg)(J35:ni P w K mg base):v7 P w K mg base:=
 aZ.eq (Df.has (k:=5) D tW (λf cdv A outer s H E hr=>
  aA (jE 2 tW.nd (cV (bz hr) (iQ J35 bu hr (ae (dv 0) (ae (dv 1) ai))) aH (λ_ _=>rfl)))
  A4)) (by kernel_rfl)
abbrev nj:Stmt:=top 39
abbrev nq:Yn:=["_law_script", "_law_k"]
theorem zE:aM ["_law_script", "_law_k"] nq (ao nj):=nZ
noncomputable abbrev tX(P:Yt)(w:World)(K:Ym)(mg:Yi)(base:Heap):Prop:=aZ P w K mg base "_law_cell" nq 1 fu
theorem By(D:Df K mg "_law_cell" nq nj)(T:Txt K mg):tX P w K mg base:=
 aZ.eq (Df.has (k:=0) D zE (λf cdv A outer s H E hr=>
  aA (fe (cx (FJ hr) (dv 1) (ue mG T.n_len iD (ae (dv 0) ai)) (by rfl)) (aD (aP (cV (bz hr) (dv 0) (dv 1) (λ_ _=>rfl)))) bZ)
  (aD (aP aH)))) (by kernel_rfl)
abbrev pT:Stmt:=top 40
abbrev pU:Yn:=["_law_cell_here"]
theorem tY:aM ["_law_cell_here", "_law_more"] pU (ao pT):=nZ
noncomputable abbrev v8(P:Yt)(w:World)(K:Ym)(mg:Yi)(base:Heap):Prop:=aZ P w K mg base "_law_pen" pU 1 iN
theorem CP(D:Df K mg "_law_pen" pU pT)(T:Txt K mg):v8 P w K mg base:=
 aZ.eq (Df.has (k:=0) D tY (λf cdv A outer s H E hr=>
  aA (jE 1 tY.nd (ue (Qn rfl) T.n_max NC (ae (dv 0) (ae (bL Mj aH (dv 0)) ai))))
  (aD (aP (u7 (ae (dv 1) (ae (jX Qo T.n_int Og (ae (dM Sk (dv 1) (cS 8 (d:=.int (10^18)) (Lit.of (by kernel_rfl)) (by decide +kernel)) (by rfl)) ai)) ai))))))) (by kernel_rfl)
abbrev nu:Stmt:=top 41
noncomputable abbrev nv:Yn:=["_law_pen_here", "_law_many"]
theorem fR:aM ["_law_pen_here", "_law_many", "_law_rest", "_law_drawn", "_law_stir"] nv (ao nu):=nZ
noncomputable abbrev eh(P:Yt)(w:World)(K:Ym)(mg:Yi)(base:Heap):Prop:=aZ P w K mg base "_law_draw" nv 1 aK
theorem Bz(D:Df K mg "_law_draw" nv nu)(T:Txt K mg):eh P w K mg base:=
 aZ.eq (Df.has (k:=0) D fR (λf cdv A outer s H E hr=>
  aA (fe (cx (Ct hr) (cV (bz hr) (dv 0) aH (λ_ _=>rfl)) aH (by rfl)) (aA (mD (ue HL T.n_divmod Fj (ae (cV (bz hr) (dv 0) aH (λ_ _=>rfl)) (ae (dv 1) ai))) (jD rfl (bI (dg 2 fR.nd) (bI (dg 3 fR.nd) gr)) (aV (aV dF))))
  (aA (mD (dv 2) (HU hr (dv 0) aH (λ_=>rfl)))
  (aD (aP (dv 3))))) bZ)
  (aA (jE 4 fR.nd (bL AK (bL AN (bL g9 (bL AK (cV (bz hr) (dv 0) aH (λ_ _=>rfl)) aH) aH) aH) aH))
  (aA (jE 4 fR.nd (bL AK (bL g9 (bL AN (dv 4) (dv 4)) aH) aH))
  (aA (mD (bL AK (bL g9 (bL AN (dv 4) aH) aH) aH) (HU hr (dv 0) aH (λ_=>rfl)))
  (aD (aP (bL AK (bL Ob (cV (bz hr) (dv 0) aH (λ_ _=>rfl)) aH) (dv 1))))))))) (by kernel_rfl)
abbrev kU:Stmt:=top 42
noncomputable abbrev kW:Yn:=["_law_pen_here", "_law_most"]
theorem o3:aM ["_law_pen_here", "_law_most", "_law_left"] kW (ao kU):=nZ
theorem ug:(["_law_lap", "_law_pen_here", "_law_most", "_law_left"]:Yn).Nodup:=by decide +kernel
noncomputable abbrev rf(P:Yt)(w:World)(K:Ym)(mg:Yi)(base:Heap):Prop:=aZ P w K mg base "_law_names" kW 2 kM
theorem zF(D:Df K mg "_law_names" kW kU)(T:Txt K mg)(J41:eh P w K mg base):rf P w K mg base:=
 aZ.eq ((Df.has (k:=1) D o3 (λf cdv A outer s H E hr=>
  aA (jE 2 o3.nd (u7 (ae de (ae de (ae de (ae de (ae de (ae de (ae de (ae de (ae de (ae de (ae de (ae de ai))))))))))))))
  (aD (aP (jX (qM rfl) T.n_tuple cZ (ae (ue (HI hr) T.n_sorted Fi (ae (fj ["_law_lap"] (by rfl) rfl (Kt (by rfl) T.n_range (ae (iQ J41 bu hr (ae (dv 0) (ae (bL g9 (dv 1) aH) ai))) ai)) (λ_ _ _ _ _=>dg 0 ug) (λ_ _ _ _ _=>ip) (λ_ _ _ _ _=>HN (dv 3) (iQ J41 cG hr (ae (dv 1) (ae (ue mG T.n_len iD (ae (dv 3) ai)) ai))))) ai)) ai)))))).fG) (by kernel_rfl)
abbrev pV:Stmt:=top 43
noncomputable abbrev pW:Yn:=["_law_pen_here", "_law_most"]
theorem fx:aM ["_law_pen_here", "_law_most", "_law_names_here", "_law_share", "_law_strikes", "_law_one"] pW (ao pV):=nZ
theorem xt:(["_law_other", "_law_pen_here", "_law_most", "_law_names_here", "_law_share", "_law_strikes", "_law_one"]:Yn).Nodup:=by decide +kernel
noncomputable abbrev wb(P:Yt)(w:World)(K:Ym)(mg:Yi)(base:Heap):Prop:=aZ P w K mg base "_law_web" pW 3 kN
theorem CQ(D:Df K mg "_law_web" pW pV)(T:Txt K mg)(J41:eh P w K mg base)(J42:rf P w K mg base):wb P w K mg base:=
 aZ.eq (Df.has (k:=2) D fx (λf cdv A outer s H E hr=>
  aA (mD (cy (ae (iQ J42 bu hr (ae (dv 0) (ae (dv 1) ai))) (ae (cV (bz hr) (cS 8 (d:=.list [.int 1,.int 2,.int 3,.int 5]) (Lit.of (by kernel_rfl)) (by decide +kernel)) (iQ J41 bu hr (ae (dv 0) (ae aH ai))) (λ_ _=>rfl)) (ae (cS 8 (d:=.list []) (Lit.of (by kernel_rfl)) (by decide +kernel)) ai)))) (jD rfl (bI (dg 2 fx.nd) (bI (dg 3 fx.nd) (bI (dg 4 fx.nd) gr))) (aV (aV (aV dF)))))
  (aA (mF rfl (dh (dv 2)) (dg 5 fx.nd) (aD (jE 4 fx.nd (bL g9 (dv 4) (fj ["_law_other"] (by rfl) rfl (dh (dv 2)) (λ_ _ _ _ _=>dg 0 xt) (λ_ _ _ _ _=>nO (cx (FJ hr) (iQ J41 cG hr (ae (dv 1) (ae aH ai))) (dv 4) (by rfl))) (λ_ _ _ _ _=>cy (ae (dv 6) (ae (dv 0) ai))))))))
  (aD (aP (cy (ae (dv 2) (ae (jX (qM rfl) T.n_tuple cZ (ae (dv 4) ai)) ai)))))))) (by kernel_rfl)
abbrev pY:Stmt:=top 44
abbrev pZ:Yn:=["_law_pen_here"]
theorem ny:aM ["_law_pen_here", "_law_some"] pZ (ao pY):=nZ
noncomputable abbrev wc(P:Yt)(w:World)(K:Ym)(mg:Yi)(base:Heap):Prop:=aZ P w K mg base "_law_odd" pZ 2 jk
theorem CT(D:Df K mg "_law_odd" pZ pY)(T:Txt K mg)(J41:eh P w K mg base):wc P w K mg base:=
 aZ.eq (Df.has (k:=1) D ny (λf cdv A outer s H E hr=>
  aA (jE 1 ny.nd (cS 8 (d:=.list [.none,.bool true,.bool false,.int 0,.int 1,.int (-1),.int (10^29),.str "",.str "a",.str "A",.str "abcdefg",.str "a b",.str "in",.tuple [],.list [],.dict [],.tuple [.int 0],.list [.str "a"]]) (Lit.of (by kernel_rfl)) (by decide +kernel)))
  (aA (jE 1 ny.nd (bL g9 (dv 1) (cS 8 (d:=.list [.tuple [.str "a"],.tuple [.str "a",.str "a"],.tuple [.tuple [.str "a"],.tuple []],.tuple [.tuple [],.tuple []],.dict [(.str "a",.int 1)],.tuple [.str "in"],.tuple [.tuple [.str "a",.str "a"]],.tuple [.str "leaf",.str "a"]]) (Lit.of (by kernel_rfl)) (by decide +kernel))))
  (aD (aP (cV (bz hr) (dv 1) (iQ J41 bu hr (ae (dv 0) (ae aH ai))) (λ_ _=>rfl))))))) (by kernel_rfl)
abbrev iR:Stmt:=top 45
abbrev iS:Yn:=["_law_thing"]
theorem uh:aM ["_law_thing"] iS (ao iR):=nZ
theorem rg:(["_law_sign", "_law_thing"]:Yn).Nodup:=by decide +kernel
noncomputable abbrev nA(P:Yt)(w:World)(K:Ym)(mg:Yi)(base:Heap):Prop:=aZ P w K mg base "_law_is_name" iS 1 cg
theorem wg(D:Df K mg "_law_is_name" iS iR)(T:Txt K mg):nA P w K mg base:=
 aZ.eq (Df.has (k:=0) D uh (λf cdv A outer s H E hr=>
  aA (fe (DW.dt (gZ (df (cf (xi (Dy _) G1 T.n_isinstance T.n_str (dv 0)))) (gU (df (AX FK FK aH (ue mG T.n_len iD (ae (dv 0) ai)) aH))))) (aD (aP cW)) bZ)
  (aD (aP (dM (Ct hr) (fj ["_law_sign"] (by rfl) rfl (dh (dv 0)) (λ_ _ _ _ _=>dg 0 rg) (λ_ _ _ _ _=>nO (cx (Ed hr) (dv 0) de (by rfl))) (λ_ _ _ _ _=>dv 0)) (cS 8 (d:=.list []) (Lit.of (by kernel_rfl)) (by decide +kernel)) (by rfl)))))) (by kernel_rfl)
abbrev gh:Stmt:=top 46
abbrev gj:Yn:=["_law_thing"]
theorem rh:aM ["_law_thing"] gj (ao gh):=nZ
theorem ia:(["_law_one", "_law_other", "_law_thing"]:Yn).Nodup:=by decide +kernel
noncomputable abbrev kg(P:Yt)(w:World)(K:Ym)(mg:Yi)(base:Heap):Prop:=aZ P w K mg base "_law_is_rising" gj 1 eE
theorem sN(D:Df K mg "_law_is_rising" gj gh)(T:Txt K mg):kg P w K mg base:=
 aZ.eq (Df.has (k:=0) D rh (λf cdv A outer s H E hr=>
  aD (aP (dM (Ct hr) (fj ["_law_one", "_law_other"] (by rfl) rfl (HA (by rfl) T.n_zip (ae (dv 0) (ae (iK (dv 0) (gw aH) nU) ai))) (λ_ _ _ _ _=>jD rfl (bI (dg 0 ia) (bI (dg 1 ia) gr)) (aV (aV dF))) (λ_ _ _ _ _=>nO (df (cx (FJ hr) (dv 0) (dv 1) (by rfl)))) (λ_ _ _ _ _=>aH)) (cS 8 (d:=.list []) (Lit.of (by kernel_rfl)) (by decide +kernel)) (by rfl))))) (by kernel_rfl)
abbrev jK:Stmt:=top 47
abbrev jL:Yn:=["_law_thing"]
theorem fS:aM ["_law_thing", "_law_names_here", "_law_strikes", "_law_strike"] jL (ao jK):=nZ
theorem kh:(["_law_one", "_law_thing", "_law_names_here", "_law_strikes", "_law_strike"]:Yn).Nodup:=by decide +kernel
theorem sO:(["_law_piece", "_law_thing", "_law_names_here", "_law_strikes", "_law_strike"]:Yn).Nodup:=by decide +kernel
noncomputable abbrev o4(P:Yt)(w:World)(K:Ym)(mg:Yi)(base:Heap):Prop:=aZ P w K mg base "_law_is_web" jL 2 cb
theorem xu(D:Df K mg "_law_is_web" jL jK)(T:Txt K mg)(J46:kg P w K mg base)(J45:nA P w K mg base):o4 P w K mg base:=
 aZ.eq (Df.has (k:=1) D fS (λf cdv A outer s H E hr=>
  aA (fe (DW.dt (gZ (df (cf (xi (kit_tuple _) cZ T.n_isinstance T.n_tuple (dv 0)))) (gZ (cx (AJ hr) (ue mG T.n_len iD (ae (dv 0) ai)) aH (by rfl)) (gU (df (cf (ue (vo rfl) T.n_all pA (ae (fj ["_law_piece"] (by rfl) rfl (dh (dv 0)) (λ_ _ _ _ _=>dg 0 sO) (λ_ _ _ _ _=>ip) (λ_ _ _ _ _=>xi (kit_tuple _) cZ T.n_isinstance T.n_tuple (dv 0))) ai)))))))) (aD (aP cW)) bZ)
  (aA (mD (dv 0) (jD rfl (bI (dg 1 fS.nd) (bI (dg 2 fS.nd) gr)) (aV (aV dF))))
  (aA (fe (DW.dt (gZ (cx Qk (ue mG T.n_len iD (ae (dv 1) ai)) aH (by rfl)) (gZ (df (cf (ue (vo rfl) T.n_all pA (ae (fj ["_law_one"] (by rfl) rfl (dh (dv 1)) (λ_ _ _ _ _=>dg 0 kh) (λ_ _ _ _ _=>ip) (λ_ _ _ _ _=>iQ J45 cG hr (ae (dv 0) ai))) ai)))) (gU (df (cf (iQ J46 bu hr (ae (dv 1) ai)))))))) (aD (aP cW)) bZ)
  (aA (mF rfl (dh (dv 2)) (dg 3 fS.nd) (aA (fe (DW.dt (gZ (df (cf (xi (kit_tuple _) cZ T.n_isinstance T.n_tuple (dv 3)))) (gZ (cx (AJ hr) (ue mG T.n_len iD (ae (dv 3) ai)) aH (by rfl)) (gU (df (cf (ue (vo rfl) T.n_all pA (ae (fj ["_law_one"] (by rfl) rfl (dh (dv 3)) (λ_ _ _ _ _=>dg 0 kh) (λ_ _ _ _ _=>ip) (λ_ _ _ _ _=>iQ J45 cG hr (ae (dv 0) ai))) ai)))))))) (aD (aP cW)) bZ)
  (aD (fe (DW.dt (gZ (cx (Ed hr) (cV (bz hr) (dv 3) aH (λ_ _=>rfl)) (dv 1) (by rfl)) (gU (cx (Ed hr) (cV (bz hr) (dv 3) aH (λ_ _=>rfl)) (dv 1) (by rfl))))) (aD (aP cW)) bZ))))
  (aD (aP (iQ J46 bu hr (ae (dv 2) ai))))))))) (by kernel_rfl)
abbrev nB:Stmt:=top 48
noncomputable abbrev jo:Yn:=["_law_pen_here", "_law_thing"]
theorem fT:aM ["_law_pen_here", "_law_thing", "_law_way", "_law_odds", "_law_at"] jo (ao nB):=nZ
noncomputable abbrev BA(P:Yt)(w:World)(K:Ym)(mg:Yi)(base:Heap):Prop:=aZ P w K mg base "_law_bent" jo 7 (cN 5)
theorem tZ(D:Df K mg "_law_bent" jo nB)(T:Txt K mg)(J41:eh P w K mg base):∀n:Nat,aZ P w K mg base "_law_bent" jo (2+n) (cN n)
 |0=>D.has fT (λ_ _ _ _ _ _ _ _=>Ee)
 |n+1=>by
  have ih:=tZ D T J41 n
  exact aZ.eq (Df.has (k:=2+n) D fT (λf cdv A outer s H E hr=>
  aA (jE 2 fT.nd (iQ J41 bu hr (ae (dv 0) (ae aH ai))))
  (aA (fe (DW.dt (gZ (df (cf (xi (kit_tuple _) cZ T.n_isinstance T.n_tuple (dv 1)))) (gZ (cx (Ct hr) (dv 1) (cS 8 (d:=.tuple []) (Lit.of (by kernel_rfl)) (by decide +kernel)) (by rfl)) (gU (cx (FJ hr) (dv 2) aH (by rfl)))))) (aA (jE 3 fT.nd (cS 8 (d:=.list [.none,.str "",.str "a",.str "zz",.str "A",.str "abcdefg",.int 7,.tuple [],.tuple [.str "a",.str "a"],.list [],.bool true,.tuple [.str "a"],.str "in",.str "open"]) (Lit.of (by kernel_rfl)) (by decide +kernel)))
  (aD (aP (cV (bz hr) (dv 3) (iQ J41 bu hr (ae (dv 0) (ae aH ai))) (λ_ _=>rfl))))) bZ)
  (aA (jE 4 fT.nd (iQ J41 bu hr (ae (dv 0) (ae (ue mG T.n_len iD (ae (dv 1) ai)) ai))))
  (aA (fe (cx (FJ hr) (dv 2) aH (by rfl)) (aD (aP (bL g9 (bL g9 (iK (dv 1) nU (gw (dv 4))) (cy (ae (iQ ih bu hr (ae (dv 0) (ae (cV (bz hr) (dv 1) (dv 4) (λ_ _=>rfl)) ai))) ai))) (iK (dv 1) (gw (bL g9 (dv 4) aH)) nU)))) bZ)
  (aD (aP (cV (bz hr) (mz (ae (bL g9 (iK (dv 1) nU (gw (dv 4))) (iK (dv 1) (gw (bL g9 (dv 4) aH)) nU)) (ae (jX zj T.n_list yU (ae (dv 1) ai)) (ae (bL g9 (dv 1) (iK (dv 1) (gw (dv 4)) (gw (bL g9 (dv 4) aH)))) ai)))) (bL Mj (dv 2) aH) (λ_ _=>rfl))))))))) (by kernel_rfl)
abbrev iT:Stmt:=top 49
noncomputable abbrev iU:Yn:=["_law_pen_here", "_law_web_here"]
theorem lH:aM ["_law_pen_here", "_law_web_here", "_law_some"] iU (ao iT):=nZ
theorem rj:(["_law_one", "_law_pen_here", "_law_web_here", "_law_some"]:Yn).Nodup:=by decide +kernel
noncomputable abbrev nC(P:Yt)(w:World)(K:Ym)(mg:Yi)(base:Heap):Prop:=aZ P w K mg base "_law_no_webs" iU 8 fL
theorem wj(D:Df K mg "_law_no_webs" iU iT)(T:Txt K mg)(J47:o4 P w K mg base)(J44:wc P w K mg base)(J48:BA P w K mg base):nC P w K mg base:=
 aZ.eq (Df.has (k:=7) D lH (λf cdv A outer s H E hr=>
  aA (jE 2 lH.nd (mz (ae D0 (ae (cS 8 (d:=.tuple []) (Lit.of (by kernel_rfl)) (by decide +kernel)) (ae (mz (ae (dv 1) ai)) (ae (cV (bz hr) (dv 1) aH (λ_ _=>rfl)) (ae (cy (ae (cV (bz hr) (dv 1) aH (λ_ _=>rfl)) ai)) (ae (jX zj T.n_list yU (ae (dv 1) ai)) (ae (cy (ae (cV (bz hr) (dv 1) aH (λ_ _=>rfl)) (ae (cV (bz hr) (dv 1) aH (λ_ _=>rfl)) (ae (cS 8 (d:=.tuple []) (Lit.of (by kernel_rfl)) (by decide +kernel)) ai)))) (ae (iQ J48 bu hr (ae (dv 0) (ae (dv 1) ai))) (ae (iQ J44 bu hr (ae (dv 0) ai)) ai)))))))))))
  (aD (aP (fj ["_law_one"] (by rfl) rfl (dh (dv 2)) (λ_ _ _ _ _=>dg 0 rj) (λ_ _ _ _ _=>nO (df (cf (iQ J47 cG hr (ae (dv 0) ai))))) (λ_ _ _ _ _=>dv 0)))))) (by kernel_rfl)
abbrev gW:Stmt:=top 50
abbrev gX:Yn:=[]
theorem sP:aM [] gX (ao gW):=nZ
noncomputable abbrev lJ(P:Yt)(w:World)(K:Ym)(mg:Yi)(base:Heap):Prop:=aZ P w K mg base "_law_no_kinds" gX 1 gV
theorem ui(D:Df K mg "_law_no_kinds" gX gW)(T:Txt K mg):lJ P w K mg base:=
 aZ.eq (Df.has (k:=0) D sP (λf cdv A outer s H E hr=>
  aD (aP (cS 8 (d:=.list [.none,.str "",.str "holw",.str "Whole",.str "half",.tuple [.str "whole"],.list [.str "whole"],.int 1,.bool true,.str "whole "]) (Lit.of (by kernel_rfl)) (by decide +kernel))))) (by kernel_rfl)
abbrev eW:Stmt:=top 51
abbrev eY:Yn:=[]
theorem nE:aM [] eY (ao eW):=nZ
noncomputable abbrev ib(P:Yt)(w:World)(K:Ym)(mg:Yi)(base:Heap):Prop:=aZ P w K mg base "_law_kernel_kinds" eY 1 eR
theorem oK(D:Df K mg "_law_kernel_kinds" eY eW)(T:Txt K mg):ib P w K mg base:=
 aZ.eq (Df.has (k:=0) D nE (λf cdv A outer s H E hr=>
  aD (aP (cS 8 (d:=.list [.str "stable",.str "standing",.str "preferred",.str "whole",.str "grounded"]) (Lit.of (by kernel_rfl)) (by decide +kernel))))) (by kernel_rfl)
abbrev iV:Stmt:=top 52
noncomputable abbrev iW:Yn:=["_law_web_here", "_law_kind", "_law_one", "_law_other"]
theorem lK:aM ["_law_web_here", "_law_kind", "_law_one", "_law_other", "_law_mine", "_law_its", "_law_back"] iW (ao iV):=nZ
noncomputable abbrev nF(P:Yt)(w:World)(K:Ym)(mg:Yi)(base:Heap):Prop:=aZ P w K mg base "_law_is_idle" iW 1 ee
theorem wk(D:Df K mg "_law_is_idle" iW iV)(T:Txt K mg):nF P w K mg base:=
 aZ.eq (Df.has (k:=0) D lK (λf cdv A outer s H E hr=>
  aA (QA 4 5 6 lK.nd (ae (dM (qO hr) (cy (ae (dv 2) (ae (dv 2) ai))) (cV (bz hr) (dv 0) aH (λ_ _=>rfl)) (by rfl)) (ae (dM (qO hr) (cy (ae (dv 3) (ae (dv 3) ai))) (cV (bz hr) (dv 0) aH (λ_ _=>rfl)) (by rfl)) (ae (dM (qO hr) (cy (ae (dv 3) (ae (dv 2) ai))) (cV (bz hr) (dv 0) aH (λ_ _=>rfl)) (by rfl)) ai))))
  (aD (aP (OC hr (K6 (vE de (dv 4) (vE de (gx (dv 4) (fI (dv 5))) (vE de (gx (dv 5) (fI (zo (dv 4) (fI (dv 6))))) K5)))) (dv 1) (gx (dv 4) (fI (zo (dv 6) (fI (dv 5))))) ⟨rfl,rfl,rfl,rfl⟩))))) (by kernel_rfl)
abbrev jM:Stmt:=top 53
noncomputable abbrev jN:Yn:=["_law_web_here", "_law_kind"]
theorem fU:aM ["_law_web_here", "_law_kind", "_law_kept", "_law_one", "_law_other"] jN (ao jM):=nZ
noncomputable abbrev o5(P:Yt)(w:World)(K:Ym)(mg:Yi)(base:Heap):Prop:=aZ P w K mg base "_law_kernel" jN 2 gA
theorem xw(D:Df K mg "_law_kernel" jN jM)(T:Txt K mg)(J52:nF P w K mg base):o5 P w K mg base:=
 aZ.eq ((Df.has (k:=1) D fU (λf cdv A outer s H E hr=>
  aA (jE 2 fU.nd (u7 ai))
  (aA (mF rfl (dh (cV (bz hr) (dv 0) aH (λ_ _=>rfl))) (jD rfl (bI (dg 3 fU.nd) (bI (dg 4 fU.nd) gr)) (aV (aV dF))) (aD (fe (DW.dt (gZ (cx (Ct hr) (dv 3) (dv 4) (by rfl)) (gU (df (cf (iQ J52 cG hr (ae (dv 0) (ae (dv 1) (ae (dv 3) (ae (dv 4) ai)))))))))) (aD (nN (nV (dv 2) (cy (ae (dv 3) (ae (dv 4) ai)))))) bZ)))
  (aD (aP (cy (ae (cV (bz hr) (dv 0) aH (λ_ _=>rfl)) (ae (jX (qM rfl) T.n_tuple cZ (ae (dv 2) ai)) ai)))))))).fG) (by kernel_rfl)
abbrev gk:Stmt:=top 54
noncomputable abbrev gm:Yn:=["_law_pen_here", "_law_most"]
theorem jq:aM ["_law_pen_here", "_law_most", "_law_some"] gm (ao gk):=nZ
noncomputable abbrev ki(P:Yt)(w:World)(K:Ym)(mg:Yi)(base:Heap):Prop:=aZ P w K mg base "_law_some_webs" gm 4 eF
theorem sQ(D:Df K mg "_law_some_webs" gm gk)(T:Txt K mg)(J41:eh P w K mg base)(J43:wb P w K mg base):ki P w K mg base:=
 aZ.eq ((Df.has (k:=3) D jq (λf cdv A outer s H E hr=>
  aA (jE 2 jq.nd (u7 (ae (cS 8 (d:=.tuple [.tuple [],.tuple []]) (Lit.of (by kernel_rfl)) (by decide +kernel)) (ae (cS 8 (d:=.tuple [.tuple [.str "a"],.tuple [.tuple [.str "a",.str "a"]]]) (Lit.of (by kernel_rfl)) (by decide +kernel)) (ae (cS 8 (d:=.tuple [.tuple [.str "a",.str "b"],.tuple [.tuple [.str "a",.str "b"],.tuple [.str "b",.str "a"]]]) (Lit.of (by kernel_rfl)) (by decide +kernel)) ai)))))
  (aA (nN (nV (dv 2) (cS 8 (d:=.tuple [.tuple [.str "a",.str "b",.str "c"],.tuple [.tuple [.str "a",.str "b"],.tuple [.str "b",.str "c"],.tuple [.str "c",.str "a"]]]) (Lit.of (by kernel_rfl)) (by decide +kernel))))
  (aA (nN (nV (dv 2) (cS 8 (d:=.tuple [.tuple [.str "a",.str "b",.str "c",.str "d"],.tuple [.tuple [.str "a",.str "b"],.tuple [.str "b",.str "c"],.tuple [.str "c",.str "d"],.tuple [.str "d",.str "a"]]]) (Lit.of (by kernel_rfl)) (by decide +kernel))))
  (aD (aP (mz (ae (iQ J43 bu hr (ae (dv 0) (ae (dv 1) ai))) (ae (iQ J43 bu hr (ae (dv 0) (ae (dv 1) ai))) (ae (cV (bz hr) (dv 2) (iQ J41 bu hr (ae (dv 0) (ae aH ai))) (λ_ _=>rfl)) ai)))))))))).fG) (by kernel_rfl)
abbrev jO:Stmt:=top 57
noncomputable abbrev jP:Yn:=["_law_pen_here", "_law_web_here"]
theorem nG:aM ["_law_pen_here", "_law_web_here", "_law_more"] jP (ao jO):=nZ
theorem sR:(["_law_name", "_law_pen_here", "_law_web_here", "_law_more"]:Yn).Nodup:=by decide +kernel
noncomputable abbrev o6(P:Yt)(w:World)(K:Ym)(mg:Yi)(base:Heap):Prop:=aZ P w K mg base "_law_selves" jP 2 gB
theorem xx(D:Df K mg "_law_selves" jP jO)(T:Txt K mg)(J41:eh P w K mg base):o6 P w K mg base:=
 aZ.eq (Df.has (k:=1) D nG (λf cdv A outer s H E hr=>
  aA (D4 (i:=2) ["_law_name"] nG.nd rfl rfl (by rfl) rfl (dh (cV (bz hr) (dv 1) aH (λ_ _=>rfl))) (λ_ _ _ _ _=>dg 0 sR) (λ_ _ _ _ _=>nO (cx (Ct hr) (iQ J41 cG hr (ae (dv 1) (ae aH ai))) aH (by rfl))) (λ_ _ _ _ _=>cy (ae (dv 0) (ae (dv 0) ai))))
  (aD (aP (cy (ae (cV (bz hr) (dv 1) aH (λ_ _=>rfl)) (ae (jX (qM rfl) T.n_tuple cZ (ae (CM rfl hr T.n_sorted T.n_set (bL g9 (jX zj T.n_list yU (ae (cV (bz hr) (dv 1) aH (λ_ _=>rfl)) ai)) (dv 2))) ai)) ai))))))) (by kernel_rfl)
abbrev eJ:Stmt:=top 58
noncomputable abbrev kX:Yn:=["_law_web_here", "_law_kind"]
theorem o7:aM ["_law_web_here", "_law_kind", "_law_words_here"] kX (ao eJ):=nZ
noncomputable abbrev rm(P:Yt)(w:World)(K:Ym)(mg:Yi)(base:Heap):Prop:=aZ P w K mg base "_law_words" kX 9 eG
theorem zG(D:Pj K mg "_law_words" kX eJ oG)(T:Txt K mg)(J37:v7 P w K mg base)(J36:yy P w K mg base)(J35:ni P w K mg base)(HS:yX P w K mg base "_law_said" ["_law_call"] 8 (xS P w K mg base 7 (Eg XE)))(HX:Eh mg [0,3] XE)(BM:BMod base mg bm):rm P w K mg base:=
 aZ.eq ((Pj.has (k:=8) D o7 (λf c A outer s H E ht hr=>
  aA (jE 2 o7.nd (u7 (ae (zq (X:=fA (ja P w) P w K mg base ["_law_web_here", "_law_kind", "_law_words_here"] "_law_words" (ao eJ) f (.ref c) A outer s H E) (cl:=[0,3]) (N2:=["_law_web_here", "_law_kind"]) 0 [0,1] sv rfl HS HX (hr.mono (by omega)) rfl ht BM (λf c' clos A outer s H E' hr=>iQ J35 uO hr (ae (dv 0) (ae (dv 1) ai))) (by rfl)) ai)))
  (aA (nN (nV (dv 2) (zq (X:=fA (ja P w) P w K mg base ["_law_web_here", "_law_kind", "_law_words_here"] "_law_words" (ao eJ) f (.ref c) A outer s H E) (cl:=[0,3]) (N2:=["_law_web_here", "_law_kind"]) 0 [0,1] sv rfl HS HX (hr.mono (by omega)) rfl ht BM (λf c' clos A outer s H E' hr=>iQ J36 uO hr (ae (dv 0) (ae (dv 1) ai))) (by rfl))))
  (aD (aP (bL Qy (dv 2) (mz (ae (zq (X:=fA (ja P w) P w K mg base ["_law_web_here", "_law_kind", "_law_words_here"] "_law_words" (ao eJ) f (.ref c) A outer s H E) (cl:=[0,3]) (N2:=["_law_web_here", "_law_kind"]) 0 [0,1] sv rfl HS HX (hr.mono (by omega)) rfl ht BM (λf c' clos A outer s H E' hr=>iQ J37 uO hr (ae (dv 0) (ae (dv 1) ai))) (by rfl)) ai)))))))).fG) (by kernel_rfl)
abbrev rA:Stmt:=top 59
abbrev QJ:Yn:=["_law_script"]
theorem jQ:aM ["_law_script", "_law_cell_here", "_law_pen_here", "_law_plain", "_law_web_here", "_law_kept", "_law_kind", "_law_due", "_law_bad"] QJ (ao rA):=nZ
theorem OH{f:Addr}{fd:FuncData}(Fu:Gr K "law" "law" rA f fd)(T:Txt K mg)(J39:tX P w K mg base)(J54:ki P w K mg base)(J49:nC P w K mg base)(J58:rm P w K mg base)(J50:lJ P w K mg base)(J51:ib P w K mg base)(J35:ni P w K mg base)(J53:o5 P w K mg base)(J57:o6 P w K mg base)(J40:v8 P w K mg base):jT P w K mg base (ja P w) 10 f fd ["_law_script"] (JE ⟨P,w,mg,K⟩ Em):=
 Oh (Tv (k:=9) Fu jQ (λcdv A outer s H E hr=>
  aA (mF rfl (dh (bL g9 (mz (ae (iQ J39 cG hr (ae (dv 0) (ae aH ai))) ai)) (FV (dv 0) (gw aH) (gw aH)))) (dg 1 jQ.nd) (aA (jE 2 jQ.nd (iQ J40 cG hr (ae (dv 1) ai)))
  (aD (mF rfl (dh (iQ J54 cG hr (ae (dv 2) (ae aH ai)))) (dg 3 jQ.nd) (aA (jE 4 jQ.nd (iQ J57 cG hr (ae (dv 2) (ae (dv 3) ai))))
  (aA (jE 5 jQ.nd (ue (zk hr) T.n_repr uq (ae (dv 4) ai)))
  (aA (mF rfl (dh (HE J51 cG (hr.mono (by omega)) (by rfl))) (dg 6 jQ.nd) (aA (jE 7 jQ.nd (iQ J53 cG hr (ae (dv 4) (ae (dv 6) ai))))
  (aD (fe (cx (AJ hr) (ue (zk hr) T.n_repr uq (ae (mz (ae (iQ J35 cG hr (ae (dv 4) (ae (dv 6) ai))) (ae (iQ J35 cG hr (ae (dv 4) (ae (dv 6) ai))) (ae (iQ J35 cG hr (ae (dv 7) (ae (dv 6) ai))) ai)))) ai)) (ue (zk hr) T.n_repr uq (ae (mz (ae (dv 7) (ae (dv 7) (ae (dv 7) ai)))) ai)) (by rfl)) (aD (aP cW)) bZ))))
  (aA (mF rfl (dh (bL g9 (HE J50 cG (hr.mono (by omega)) (by rfl)) (cS 8 (d:=.list [.str "half",.str "stage",.str "peaceful"]) (Lit.of (by kernel_rfl)) (by decide +kernel)))) (dg 8 jQ.nd) (aD (fe (cx (AJ hr) (iQ J58 cG hr (ae (dv 4) (ae (dv 8) ai))) (bL AN (cS 8 (d:=.list [.tuple [.str "kind"]]) (Lit.of (by kernel_rfl)) (by decide +kernel)) aH) (by rfl)) (aD (aP cW)) bZ)))
  (aA (mF rfl (dh (iQ J49 cG hr (ae (dv 2) (ae (dv 4) ai)))) (dg 8 jQ.nd) (aD (fe (cx (AJ hr) (iQ J58 cG hr (ae (dv 8) (ae D0 ai))) (bL AN (cS 8 (d:=.list [.tuple [.str "web"]]) (Lit.of (by kernel_rfl)) (by decide +kernel)) aH) (by rfl)) (aD (aP cW)) bZ)))
  (aD (fe (cx (AJ hr) (ue (zk hr) T.n_repr uq (ae (dv 4) ai)) (dv 5) (by rfl)) (aD (aP cW)) bZ)))))))))))
  (aD (aP cW)))) (by kernel_rfl)
end
end K13
namespace K13
open PySem L2 Wh
abbrev sS:Stmt:=top 55
abbrev yz:Stmt:=top 56
@[irreducible] def Pm:Stmt:=Qv (bV sS) 5
@[irreducible] def eX:Expr:=Om Pm
@[irreducible] def Uk:Yo:=Qu eX
@[irreducible] def pX:Pos:=Oo Pm
@[irreducible] def qX:Pos:=Qt Pm
@[irreducible] def lX:Pos:=Oq eX
theorem OI:Pm=.Assign [.Name "_law_words_here" qX] eX pX:=by kernel_rfl
theorem QK:eX=.List Uk lX:=by kernel_rfl
theorem Sv:Lit 4 eX (.list (fm.map .str)):=Lit.of (by kernel_rfl)
abbrev xN(i:Nat):Stmt:=Qv (bV sS) i
theorem QL:bV sS=[xN 0,xN 1,xN 2,xN 3,xN 4,Pm,xN 6]:=by kernel_rfl
theorem Pn:aM ["_law_e", "_law_some", "_law_words_here"] ["_law_e"] (ao sS):=⟨rfl,rfl,rfl,by decide +kernel,rfl,by decide +kernel,by decide +kernel⟩
section
variable {P:Yt} {w:World} {K:Ym} {mg:Yi} {base:Heap} {cs:Nat->Addr} {WE:Addr}
theorem isQ{X:Cx}{x:Str}{C:Addr}{p p1 p2 pos:Pos}(B:X.mg "isinstance" = none)(hm:X.mg x=some (.ref C))(hN:X.N[0]?=some ("_law_e" : Str):=by rfl)(hv:Gq X.env.scope "_law_e" := by exact Or.inl rfl)(g1:Gl X "isinstance" := by rfl)(g2:Gl X x:=by rfl)(hd:(x==("__debug__" : Str))=false:=by decide)
 (h1:starEach [.Name "_law_e" p1,.Name x p2] X.env=(false,eval (.Name "_law_e" p1) X.env)::starEach [.Name x p2] X.env:=by rfl)(h2:starEach [.Name x p2] X.env=(false,eval (.Name x p2) X.env)::starEach [] X.env:=by rfl)(h3:(backTo pos (starEach [.Name x p2] X.env)).any (·.1)=false:=by rfl) :
  PE X (.Call (.Name "isinstance" p) [.Name "_law_e" p1,.Name x p2] [] pos) (PV (Hb X.K) (oN (BR 0) (oN (tC (.ref C)) Ak))):=Ou X.K rfl B hN hv hm g1 g2 hd h1 h2 h3
noncomputable abbrev m0(j:Nat):List V:=[.bl (decide (0=j)),.bl (decide (1=j)),.bl (decide (2=j)),.bl (decide (3=j))]
noncomputable abbrev m4(j:Nat):List V:=[.bl (decide (4=j)),.bl (decide (5=j)),.bl (decide (6=j)),.bl (decide (7=j))]
noncomputable abbrev m8(j:Nat):List V:=[.bl (decide (8=j)),.bl (decide (9=j)),.bl (decide (10=j)),.bl (decide (11=j))]
noncomputable abbrev mC(j:Nat):List V:=[.bl (decide (12=j)),.bl (decide (13=j))]
set_option maxHeartbeats 2000000 in
theorem IP{f:Addr}{fd:FuncData}(F:Gr K "_law_marks" "_law_marks" sS f fd)(TB:mg "isinstance" = none)(C:KJ mg cs):DD P w K mg base 1 f fd ["_law_e"] (uw K cs):=by
 refine F.Ub Pn (λvs H Q E h=>?_) (λcdv A outer s H vs Q E hr h=>?_)
 ·obtain⟨_,_,_,rfl,_⟩:=h;rfl
 ·obtain⟨a,D,j,rfl,ha,kd,k⟩:=h;rw[QL]
  refine⟨_,(gG (st:=xN 0) (pe (i:=1) Pn.nd rfl (Or.inl rfl) (lU (bb (isQ TB C.m0) (bb (isQ TB C.m1) (bb (isQ TB C.m2) (bb (isQ TB C.m3) dS))))))
   (gG (st:=xN 1) (pe (i:=1) Pn.nd rfl (Or.inl rfl) (xC rP (pv 1) (lU (bb (isQ TB C.m4) (bb (isQ TB C.m5) (bb (isQ TB C.m6) (bb (isQ TB C.m7) dS)))))))
   (gG (st:=xN 2) (pe (i:=1) Pn.nd rfl (Or.inl rfl) (xC rP (pv 1) (lU (bb (isQ TB C.m8) (bb (isQ TB C.m9) (bb (isQ TB C.m10) (bb (isQ TB C.m11) dS)))))))
   (gG (st:=xN 3) (pe (i:=1) Pn.nd rfl (Or.inl rfl) (xC rP (pv 1) (lU (bb (isQ TB C.m12) (bb (isQ TB C.m13) dS)))))
   (gG (st:=xN 4) (L3 (PW.pt (L0 (yI L7 (Dv WA PySem.F.slot_list_count PySem.F.type_list_count Fs (pv 1) (bb De dS)) BS (GG _)) (Gw (Gy (MN (qh xP (by rfl) TB jB (bb (pv 0) (bb (Dg (v:=.ty "ValueError") (by rfl) C.ve Qw rfl) dS)))))))) (qe (uH o9)) Dh)
   (gG (st:=Pm) (t:=BU (G2 (.list (fm.map .str))) (aB 2)) (by rw[OI];exact Ot QK Sv Pn.nd rfl (Or.inl rfl) rfl)
   (qe (st:=xN 6) (uH (L9 um (xC rP (pv 2) (lU (bb o9 (bb o9 dS)))) (Dv WA PySem.F.slot_list_index PySem.F.type_list_index Ft (pv 1) (bb De dS)) (λ_ _=>rfl)))))))))),?_⟩
  obtain⟨mk1,mk2,mk3,_,_⟩:=Ig j kd.lt;refine⟨_,rfl,a,D,_,_,_,rfl,rfl,ha,kd.ec,kd.k 0 (by decide),_,rfl,a,D,_,_,_,rfl,rfl,ha,kd.ec,kd.k 1 (by decide),_,rfl,a,D,_,_,_,rfl,rfl,ha,kd.ec,kd.k 2 (by decide),_,rfl,a,D,_,_,_,rfl,rfl,ha,kd.ec,kd.k 3 (by decide),by show 4<=sizeLine;decide,λp0 hp0=>?_⟩;have s0:=aT.new (o:=.lst (m0 j)) hp0;have ha0:=s0 _ _ ha;have hl0:upd H p0 (.lst (m0 j)) p0=some (.lst (m0 j)):=aJ;generalize upd H p0 (.lst (m0 j))=H0 at s0 ha0 hl0 ⊢;refine⟨_,rfl,_,rfl,a,D,_,_,_,rfl,rfl,ha0,kd.ec,kd.k 4 (by decide),_,rfl,a,D,_,_,_,rfl,rfl,ha0,kd.ec,kd.k 5 (by decide),_,rfl,a,D,_,_,_,rfl,rfl,ha0,kd.ec,kd.k 6 (by decide),_,rfl,a,D,_,_,_,rfl,rfl,ha0,kd.ec,kd.k 7 (by decide),by show 4<=sizeLine;decide,λr1 hr1=>⟨p0,r1,_,_,rfl,rfl,(aT.new hr1) _ _ hl0,aJ,by show 8<=sizeLine;decide,λp1 hp1=>?_⟩⟩;have t1:aT H (upd (upd H0 r1 (.lst (m4 j))) p1 (.lst (m0 j++m4 j))):=(s0.trans (aT.new hr1)).trans (aT.new hp1);have ha1:=t1 _ _ ha;have hl1:upd (upd H0 r1 (.lst (m4 j))) p1 (.lst (m0 j++m4 j)) p1=some (.lst (m0 j++m4 j)):=aJ;generalize upd (upd H0 r1 (.lst (m4 j))) p1 (.lst (m0 j++m4 j))=H1 at t1 ha1 hl1 ⊢;refine⟨_,rfl,_,rfl,a,D,_,_,_,rfl,rfl,ha1,kd.ec,kd.k 8 (by decide),_,rfl,a,D,_,_,_,rfl,rfl,ha1,kd.ec,kd.k 9 (by decide),_,rfl,a,D,_,_,_,rfl,rfl,ha1,kd.ec,kd.k 10 (by decide),_,rfl,a,D,_,_,_,rfl,rfl,ha1,kd.ec,kd.k 11 (by decide),by show 4<=sizeLine;decide,λr2 hr2=>⟨p1,r2,_,_,rfl,rfl,(aT.new hr2) _ _ hl1,aJ,by show 12<=sizeLine;decide,λp2 hp2=>?_⟩⟩;have t2:aT H (upd (upd H1 r2 (.lst (m8 j))) p2 (.lst ((m0 j++m4 j)++m8 j))):=(t1.trans (aT.new hr2)).trans (aT.new hp2);have ha2:=t2 _ _ ha;have hl2:upd (upd H1 r2 (.lst (m8 j))) p2 (.lst ((m0 j++m4 j)++m8 j)) p2=some (.lst ((m0 j++m4 j)++m8 j)):=aJ;generalize upd (upd H1 r2 (.lst (m8 j))) p2 (.lst ((m0 j++m4 j)++m8 j))=H2 at t2 ha2 hl2 ⊢;refine⟨_,rfl,_,rfl,a,D,_,_,_,rfl,rfl,ha2,kd.ec,kd.k 12 (by decide),_,rfl,a,D,_,_,_,rfl,rfl,ha2,kd.ec,kd.k 13 (by decide),by show 2<=sizeLine;decide,λr3 hr3=>⟨p2,r3,_,_,rfl,rfl,(aT.new hr3) _ _ hl2,aJ,by show 14<=sizeLine;decide,λp3 hp3=>?_⟩⟩;have t3:aT H (upd (upd H2 r3 (.lst (mC j))) p3 (.lst (((m0 j++m4 j)++m8 j)++mC j))):=(t2.trans (aT.new hr3)).trans (aT.new hp3);have ha3:=t3 _ _ ha;have hl:upd (upd H2 r3 (.lst (mC j))) p3 (.lst (((m0 j++m4 j)++m8 j)++mC j)) p3=some (.lst ((marks j).map V.bl)):=aJ;generalize upd (upd H2 r3 (.lst (mC j))) p3 (.lst (((m0 j++m4 j)++m8 j)++mC j))=H3 at t3 ha3 hl ⊢;refine⟨_,rfl,.inl ⟨rfl,_,i8.of hl⟩,p3,marks j,rfl,rfl,hl,rfl,_,rfl,?_⟩;rw[mk1];refine Nl ⟨_,rfl,a,D,_,_,_,rfl,rfl,ha3,kd.ec,kd.v,_,rfl,Nl ?_⟩;intro rr H5 N5 s5 n5 h5;obtain⟨wa,wvs,rfl,hwa,rws⟩:=h5;obtain rfl:wvs=fm.map V.str:=ya rws;have hwa5:=n5.same _ _ hwa;have hl5:=s5 _ _ hl;refine⟨_,rfl,by show 2<=sizeLine;decide,λp6 hp6=>⟨wa,p6,_,_,rfl,rfl,(aT.new hp6) _ _ hwa5,aJ,by show 14<=sizeLine;decide,λp7 hp7=>?_⟩⟩;have s7:=(aT.new (o:=.lst [.str "many",.str "text"]) hp6).trans (aT.new (o:=.lst (fm.map V.str++[.str "many",.str "text"])) hp7);have hl7:=s7 _ _ hl5
  have ea:lV (fm.map V.str++[.str "many",.str "text"]) (j:Nat)=some (V.str (wordAt j)):=kA (by
   have:fm.map V.str++[.str "many",.str "text"]=(fm++(["many", "text"]:Yn)).map V.str:=by rw[List.map_append];rfl
   rw[this,Vs,FU j kd.lt]
   rfl)
  exact⟨_,rfl,.inl ⟨rfl,_,i8.of hl7⟩,p3,marks j,j,rfl,rfl,hl7,mk2,mk3,Nat.lt_trans kd.lt (by decide),p7,_,(j:Nat),.str (wordAt j),rfl,rfl,i8.of aJ,ea,k _ ((t3.trans s5).trans s7)⟩
abbrev F5:Stmt:=Qv (bV yz) 0
theorem QM:bV yz=[.Try (KL F5) [.ExceptHandler (some (.Name "WebError" (KO F5))) (some "_law_e") (Qv (AZ F5) 0::Qv (AZ F5) 1::[]) (KN F5)] [] [] (Ov F5)]:=by kernel_rfl
theorem TC:aM ["_law_call", "_law_e", "_law_label"] ["_law_call"] (ao yz):=⟨rfl,rfl,rfl,by decide +kernel,rfl,by decide +kernel,by decide +kernel⟩
theorem Lf{f:Addr}{fd:FuncData}(kl:Nat)(F:Gr K "_law_said" "_law_said" yz f fd)(hWE:mg "WebError" = some (.ref WE))(FW:Ce P w K mg base "_law_marks" ["_law_e"] 1 (uw K cs)) :
  G6 P w K mg base Fd (kl+2) f fd ["_law_call"] (xS P w K mg base (kl+1) (Ml.Eg (A0 K cs WE))):=by
 obtain⟨oc,od,kV,doc,pm,an,cdv,ct,osl,rfl,lk,hcd⟩:=F.ex;rw[QM]at lk ⊢;refine NJ (k:=kl+1) (N:=["_law_call", "_law_e", "_law_label"]) (i:=1) (DC:=WE) lk hcd TC hWE rfl rfl rfl (by decide) (λs vs H Q E h=>?_) (λA outer s H vs Q E hr h=>?_)
 ·obtain⟨_,_,rfl,_⟩:=h;rfl
 ·obtain⟨fl,G,rfl,LC,hM⟩:=h;refine⟨λEH=>MQ (Nc (oN (tC (.str "told")) (oN (Qc G EH 0 H fl) Ak))),Tw K cs,λEH XE hp=>?_,λa=>?_,?_⟩
  ·exact qe (uH (yJ (bb o9 (bb (Cf (X:=(fA Fd P w K mg base ["_law_call", "_law_e", "_law_label"] "_law_said" (ao yz) f cdv A outer s H E).qd XE) (i:=0) rfl rfl (by decide) (by decide) rfl LC hr hp) dS))))
  ·exact gG (pe (i:=2) TC.nd rfl (Or.inl rfl) (NL FW ((hr.mono (by omega)).held _) (by rfl) (bb (pv 1) dS))) (qe (uH (Gz (yI L6 (pv 2) o9 (GG _)) Ha (yJ (bb (pv 2) dS)))))
  ·exact⟨rfl,rfl,hM⟩
end
end K13
namespace Ml
open PySem
@[simp] theorem Sw(i:Nat)(ρ:Fm)(h:Hm):af i ρ h=(match ρ[i]? with
 |some (some d)=>.ok d h
 |_=>.bad):=rfl
@[simp] theorem Sx(d:PyData)(z0:Fm)(h:Hm):ah d z0 h=(.ok (.dat d) h):=rfl
@[simp] theorem TF(n:Str)(z0:Fm)(h:Hm):Uc n z0 h=(.ok (.fn n) h):=rfl
@[simp] theorem Sy (z0:Fm)(h:Hm):aj  z0 h=(.ok [] h):=rfl
@[simp] theorem Rj(e:ME)(a:MA)(ρ:Fm)(h:Hm):aa e a ρ h=((e ρ h).bind λx h1=>(a ρ h1).bind λxs h2=>.ok (x::xs) h2):=rfl
@[simp] theorem Sz(f:D->D->Hm->R D)(a b:ME)(ρ:Fm)(h:Hm):aq f a b ρ h=((a ρ h).bind λx h1=>(b ρ h1).bind λy h2=>f x y h2):=rfl
@[simp] theorem TH(f:D->Hm->R D)(a:ME)(ρ:Fm)(h:Hm):AB f a ρ h=((a ρ h).bind λx h1=>f x h1):=rfl
@[simp] theorem Rk(f:Fn)(a:MA)(ρ:Fm)(h:Hm):ag f a ρ h=((a ρ h).bind λxs h1=>f xs h1):=rfl
@[simp] theorem Rm(e:ME)(ρ:Fm)(h:Hm):aR e ρ h=((e ρ h).bind λx h1=>match x with
 |.dat (.bool b)=>.ok b h1
 |_=>.bad):=rfl
@[simp] theorem SD(t:MT)(ρ:Fm)(h:Hm):dH t ρ h=((t ρ h).bind λb h1=>.ok (!b) h1):=rfl
@[simp] theorem SE(t u:MT)(ρ:Fm)(h:Hm):PB t u ρ h=((t ρ h).bind λb h1=>if b then u ρ h1 else .ok false h1):=rfl
@[simp] theorem TJ(t u:MT)(ρ:Fm)(h:Hm):oM t u ρ h=((t ρ h).bind λb h1=>if b then .ok true h1 else u ρ h1):=rfl
@[simp] theorem SF(a b:ME)(ρ:Fm)(h:Hm):Sg a b ρ h=((aR a ρ h).bind λc h1=>if c then b ρ h1 else .ok (.bool false) h1):=rfl
@[simp] theorem TK(a b:ME)(ρ:Fm)(h:Hm):Ud a b ρ h=((aR a ρ h).bind λc h1=>if c then .ok (.bool true) h1 else b ρ h1):=rfl
@[simp] theorem SG(a:ME)(ρ:Fm)(h:Hm):Sh a ρ h=((aR a ρ h).bind λc h1=>.ok (.bool !c) h1):=rfl
@[simp] theorem TL(t:MT)(a b:ME)(ρ:Fm)(h:Hm):Ue t a b ρ h=((t ρ h).bind λc h1=>if c then a ρ h1 else b ρ h1):=rfl
@[simp] theorem SH(a:MA):cJ a=(ag iF a:ME):=rfl
@[simp] theorem SI(a:MA):oB a=(ag fF a:ME):=rfl
@[simp] theorem SJ(a:MA):xg a=(ag DK a:ME):=rfl
@[simp] theorem Ro (ρ:Fm)(h:Hm):cC  ρ h=(.ok (.nx ρ) h):=rfl
@[simp] theorem SK(a b:MS)(ρ:Fm)(h:Hm):bg a b ρ h=((a ρ h).bind λf h1=>match f with
 |.nx ρ1=>b ρ1 h1
 |f=>.ok f h1):=rfl
@[simp] theorem SM(i:Nat)(e:ME)(ρ:Fm)(h:Hm):cR i e ρ h=((e ρ h).bind λx h1=>.ok (.nx (ρ.set i (some x))) h1):=rfl
@[simp] theorem Rp(e:ME)(ρ:Fm)(h:Hm):jd e ρ h=((e ρ h).bind λ_ h1=>.ok (.nx ρ) h1):=rfl
@[simp] theorem SN(e:ME)(ρ:Fm)(h:Hm):bN e ρ h=((e ρ h).bind λx h1=>.ok (.rt x) h1):=rfl
@[simp] theorem TM(t:MT)(a b:MS)(ρ:Fm)(h:Hm):lR t a b ρ h=((t ρ h).bind λc h1=>if c then a ρ h1 else b ρ h1):=rfl
@[simp] theorem QN (ρ:Fm)(h:Hm):NR  ρ h=(.ok (.bk ρ) h):=rfl
@[simp] theorem Rq (ρ:Fm)(h:Hm):Qf  ρ h=(.ok (.ct ρ) h):=rfl
@[simp] theorem Rr(i:Nat)(x:D)(ρ:Fm)(h:Hm):aB i x ρ h=(.ok (ρ.set i (some x)) h):=rfl
@[simp] theorem SO (xs:List D)(ρ:Fm)(h:Hm):gP  xs ρ h=(match xs with
 | []=>.ok ρ h
 |_=>.bad):=rfl
@[simp] theorem Rt(g:MG)(gs:Hk)(xs:List D)(ρ:Fm)(h:Hm):bF g gs xs ρ h=(match xs with
 | []=>.bad
 |x::xs=>(g x ρ h).bind λρ1 h1=>gs xs ρ1 h1):=rfl
@[simp] theorem SQ(gs:Hk)(x:D)(ρ:Fm)(h:Hm):gQ gs x ρ h=(match x with
 |.dat (.tuple ds)=>gs (ds.map D.dat) ρ h
 |_=>.bad):=rfl
@[simp] theorem SR(g:MG)(e:ME)(ρ:Fm)(h:Hm):pF g e ρ h=((e ρ h).bind λx h1=>(g x ρ h1).bind λρ1 h2=>.ok (.nx ρ1) h2):=rfl
@[simp] theorem SU(is:List Nat)(a:MA)(ρ:Fm)(h:Hm):Hl is a ρ h=((a ρ h).bind λxs h1=>match mf is xs ρ with
 |some ρ1=>.ok (.nx ρ1) h1
 |Option.none=>.bad):=rfl
@[simp] theorem Ru(e:ME)(ρ:Fm)(h:Hm):DL e ρ h=((e ρ h).bind λx h1=>match x with
 |.dat (.tuple ds)=>.ok (ds.map D.dat) h1
 |_=>.bad):=rfl
@[simp] theorem Rv(e:ME)(ρ:Fm)(h:Hm):Hn e ρ h=((e ρ h).bind λx h1=>match x with
 |.dat (.list ds)=>.ok (ds.map D.dat) h1
 |_=>.bad):=rfl
@[simp] theorem Rx(e:ME)(ρ:Fm)(h:Hm):Ho e ρ h=((e ρ h).bind λx h1=>match x with
 |.dat (.str s)=>.ok (signs s) h1
 |_=>.bad):=rfl
@[simp] theorem Ry(e:ME)(ρ:Fm)(h:Hm):aX e ρ h=(match e ρ h with
 |.ok (.dat (.tuple ds)) h1=>.ok (ds.map D.dat) h1
 |.ok (.dat (.list ds)) h1=>.ok (ds.map D.dat) h1
 |.ok (.dat (.str s)) h1=>.ok (signs s) h1
 |.ok (.ktup ds) h1=>.ok (ds.map D.dat) h1
 |.exc x h1=>.exc x h1
 |_=>.bad):=rfl
@[simp] theorem Rz(a:MA)(ρ:Fm)(h:Hm):uU a ρ h=((a ρ h).bind λxs h1=>match xs with
 | [.dat (.int j)]=>if -(2^62)<=j/\j<2^62 then .ok (nums 0 j.toNat) h1 else .bad
 |_=>.bad):=rfl
@[simp] theorem QO(a:MA)(ρ:Fm)(h:Hm):NS a ρ h=((a ρ h).bind λxs h1=>match xs with
 | [.dat (.int i),.dat (.int j)]=>if -(2^62)<=i/\i<2^62/\-(2^62)<=j/\j<2^62 then .ok (nums i (j-i).toNat) h1 else .bad
 |_=>.bad):=rfl
@[simp] theorem RA(a:MA)(ρ:Fm)(h:Hm):uV a ρ h=((a ρ h).bind λxs h1=>match xs with
 | [.dat (.tuple ds),.dat (.tuple es)]=>.ok (y0 ds es) h1
 |_=>.bad):=rfl
@[simp] theorem SV(it:MA)(g:MG)(b:MS)(ρ:Fm)(h:Hm):oC it g b ρ h=((it ρ h).Ck.bind λxs h1=>eN g b xs ρ h1):=rfl
@[simp] theorem RB (z0:Fm)(h:Hm):dW  z0 h=(.ok true h):=rfl
@[simp] theorem RC(p n:Nat)(b:MS)(xs:List D)(h:Hm):bj p n b xs h=(if xs.length=p then(b (xs.map some++List.replicate (n-p) none) h).bind sY else .bad):=rfl
@[simp] theorem RD(x:D)(h:Hm):truth x h=(match x with
 |.dat .none=>some false
 |.dat (.bool b)=>some b
 |.dat (.int i)=>some (i != 0)
 |.dat (.str s)=>if jY s.length then some ((s.length:Int) != 0)else Option.none
 |.dat (.tuple ds)=>some !ds.isEmpty
 |.dat (.list ds)=>some !ds.isEmpty
 |.ref i=>match h[i]? with
  |some (.lst xs)=>some !xs.isEmpty
  |_=>Option.none
 |_=>Option.none:Option Bool):=rfl
@[simp] theorem QP(e:ME)(ρ:Fm)(h:Hm):bH e ρ h=((e ρ h).bind λx h1=>match truth x h1 with
 |some b=>.ok b h1
 |Option.none=>.bad):=rfl
@[simp] theorem SW(a b:ME)(ρ:Fm)(h:Hm):FQ a b ρ h=((a ρ h).bind λx h1=>match truth x h1 with
 |some c=>if c then .ok x h1 else b ρ h1
 |none=>.bad):=rfl
@[simp] theorem RE(a b:ME)(ρ:Fm)(h:Hm):lD a b ρ h=((a ρ h).bind λx h1=>match truth x h1 with
 |some c=>if c then b ρ h1 else .ok x h1
 |none=>.bad):=rfl
@[simp] theorem QQ(f g:D->D->Hm->R D)(a b c:ME)(ρ:Fm)(h:Hm):mI f g a b c ρ h=((a ρ h).bind λx h1=>(b ρ h1).bind λy h2=>(f x y h2).bind λz h3=>match z with
 |.dat (.bool k)=>if k then(c ρ h3).bind λw h4=>g y w h4 else .ok (.bool false) h3
 |_=>.bad):=rfl
@[simp] theorem TN(e:ME)(lo hi:Mf)(ρ:Fm)(h:Hm):Co e lo hi ρ h=((e ρ h).bind λx h1=>(lo ρ h1).bind λl h2=>(hi ρ h2).bind λu h3=>Qh x l u h3):=rfl
@[simp] theorem RF (z0:Fm)(h:Hm):jZ  z0 h=(.ok Option.none h):=rfl
@[simp] theorem RG(e:ME)(ρ:Fm)(h:Hm):dX e ρ h=((e ρ h).bind λx h1=>match x with
 |.dat (.int i)=>.ok (some i) h1
 |_=>.bad):=rfl
@[simp] theorem TQ(x:D)(lo hi:Option Int)(h:Hm):Qh x lo hi h=(match x with
 |.dat (.tuple ds)=>.ok (.dat (.tuple (cut ds lo hi))) h
 |.dat (.list ds)=>.ok (.dat (.list (cut ds lo hi))) h
 |_=>.bad:R D):=rfl
@[simp] theorem SX(f:PyData->Bool)(x:D)(h:Hm):mi f x h=(match x with
 |.dat d=>.ok (.bool (f d)) h
 |_=>.bad):=rfl
@[simp] theorem SY(x y:D)(h:Hm):FA x y h=(match x,y with
 |.dat (.int i),.dat (.int j)=>.ok (.int (i-j)) h
 |_,_=>.bad:R D):=rfl
@[simp] theorem TR(x y:D)(h:Hm):Pg x y h=(match x,y with
 |.dat (.int i),.dat (.int j)=>.ok (.bool (decide (j<i))) h
 |_,_=>.bad:R D):=rfl
@[simp] theorem TU(x y:D)(h:Hm):Qg x y h=(match x,y with
 |.dat (.int i),.dat (.int j)=>.ok (.bool (decide (j<=i))) h
 |_,_=>.bad:R D):=rfl
@[simp] theorem S3(x:D)(h:Hm):Si x h=(match x with
 |.dat (.int i)=>.ok (.int (-i)) h
 |_=>.bad:R D):=rfl
@[simp] theorem Po(ρ:Fm):mf [] [] ρ=some ρ:=rfl
@[simp] theorem Pp(i:Nat)(is:List Nat)(x:D)(xs:List D)(ρ:Fm):mf (i::is) (x::xs) ρ=mf is xs (ρ.set i (some x)):=rfl
@[simp] theorem Pq(i:Nat)(is:List Nat)(ρ:Fm):mf (i::is) [] ρ=none:=rfl
@[simp] theorem Pr(x:D)(xs:List D)(ρ:Fm):mf [] (x::xs) ρ=none:=rfl
@[simp] theorem RH(d:D)(h:Hm):sY (.rt d) h=.ok d h:=rfl
@[simp] theorem RI(ρ:Fm)(h:Hm):sY (.nx ρ) h=.ok D.none h:=rfl
@[simp] theorem RJ(ρ:Fm)(h:Hm):sY (.bk ρ) h=.bad:=rfl
@[simp] theorem RK(ρ:Fm)(h:Hm):sY (.ct ρ) h=.bad:=rfl
@[simp] theorem Lg  : isTup .none=false:=rfl
@[simp] theorem Lh(b:Bool):isTup (.bool b)=false:=rfl
@[simp] theorem Mp(i:Int):isTup (.int i)=false:=rfl
@[simp] theorem Mq(s:Str):isTup (.str s)=false:=rfl
@[simp] theorem JF(xs:Yj):isTup (.tuple xs)=true:=rfl
@[simp] theorem Li(xs:Yj):isTup (.list xs)=false:=rfl
@[simp] theorem Lj(xs:Yg):isTup (.dict xs)=false:=rfl
@[simp] theorem Lk  : isStr .none=false:=rfl
@[simp] theorem Ll(b:Bool):isStr (.bool b)=false:=rfl
@[simp] theorem Mr(i:Int):isStr (.int i)=false:=rfl
@[simp] theorem Ms(s:Str):isStr (.str s)=true:=rfl
@[simp] theorem JG(xs:Yj):isStr (.tuple xs)=false:=rfl
@[simp] theorem Lm(xs:Yj):isStr (.list xs)=false:=rfl
@[simp] theorem Ln(xs:Yg):isStr (.dict xs)=false:=rfl
@[simp] theorem Lo  : isInt .none=false:=rfl
@[simp] theorem Lp(b:Bool):isInt (.bool b)=true:=rfl
@[simp] theorem Mt(i:Int):isInt (.int i)=true:=rfl
@[simp] theorem Mu(s:Str):isInt (.str s)=false:=rfl
@[simp] theorem JH(xs:Yj):isInt (.tuple xs)=false:=rfl
@[simp] theorem Lq(xs:Yj):isInt (.list xs)=false:=rfl
@[simp] theorem Lr(xs:Yg):isInt (.dict xs)=false:=rfl
@[simp] theorem Ls  : uW .none=false:=rfl
@[simp] theorem Lu(b:Bool):uW (.bool b)=true:=rfl
@[simp] theorem Mv(i:Int):uW (.int i)=false:=rfl
@[simp] theorem Mw(s:Str):uW (.str s)=false:=rfl
@[simp] theorem JI(xs:Yj):uW (.tuple xs)=false:=rfl
@[simp] theorem Lv(xs:Yj):uW (.list xs)=false:=rfl
@[simp] theorem Lw(xs:Yg):uW (.dict xs)=false:=rfl
@[simp] theorem rep0{α:Type}(a:α):List.replicate 0 a=[]:=rfl
@[simp] theorem rep1{α:Type}(a:α):List.replicate 1 a=[a]:=rfl
@[simp] theorem rep2{α:Type}(a:α):List.replicate 2 a=[a,a]:=rfl
@[simp] theorem rep3{α:Type}(a:α):List.replicate 3 a=[a,a,a]:=rfl
@[simp] theorem Ul{α:Type}(a:α):List.replicate 4 a=[a,a,a,a]:=rfl
@[simp] theorem Um{α:Type}(a:α):List.replicate 5 a=[a,a,a,a,a]:=rfl
@[simp] theorem Uo{α:Type}(a:α):List.replicate 6 a=[a,a,a,a,a,a]:=rfl
@[simp] theorem Uq{α:Type}(a:α):List.replicate 7 a=[a,a,a,a,a,a,a]:=rfl
@[simp] theorem Ur{α:Type}(a:α):List.replicate 8 a=[a,a,a,a,a,a,a,a]:=rfl
@[simp] theorem Us{α:Type}(a:α):List.replicate 9 a=[a,a,a,a,a,a,a,a,a]:=rfl
theorem sz(h:n<=16777216):jY n=true:=Vc h
@[simp] theorem og(ds:Yj)(h:Hm)(hz:ds.length<=16777216):iF (ds.map D.dat) h=.ok (.dat (.tuple ds)) h:=by simp[iF,nL,sz hz]
theorem eK(ds:Yj)(h:Hm)(hz:ds.length<=16777216):fF (ds.map D.dat) h=.ok (.dat (.list ds)) h:=by simp[fF,nL,sz hz]
@[simp] theorem S4(h:Hm):iF [] h=.ok (.dat (.tuple [])) h:=og [] h (by decide)
@[simp] theorem OJ(a:PyData)(h:Hm):iF [.dat a] h=.ok (.dat (.tuple [a])) h:=og [a] h (by simp)
@[simp] theorem OL(a b:PyData)(h:Hm):iF [.dat a,.dat b] h=.ok (.dat (.tuple [a,b])) h:=og [a,b] h (by simp)
@[simp] theorem OM(a b c:PyData)(h:Hm):iF [.dat a,.dat b,.dat c] h=.ok (.dat (.tuple [a,b,c])) h:=og [a,b,c] h (by simp)
@[simp] theorem S5(h:Hm):fF [] h=.ok (.dat (.list [])) h:=eK [] h (by decide)
@[simp] theorem IQ(a:PyData)(h:Hm):fF [.dat a] h=.ok (.dat (.list [a])) h:=eK [a] h (by simp)
@[simp] theorem S6(a b:PyData)(h:Hm):fF [.dat a,.dat b] h=.ok (.dat (.list [a,b])) h:=eK [a,b] h (by simp)
@[simp] theorem zH(a b c:PyData)(h:Hm):fF [.dat a,.dat b,.dat c] h=.ok (.dat (.list [a,b,c])) h:=eK [a,b,c] h (by simp)
theorem t6(c:D->Bool)(f:D->D):∀{xs:List D},(∀x∈xs,∃ρ1,g x (List.replicate n none++ρ) h=.ok ρ1 h/\t ρ1 h=.ok (c x) h/\(c x=true->e ρ1 h=.ok (f x) h))->eQ n ρ g t e xs h=.ok ((xs.filter c).map f) h
 | [],_=>rfl
 |x::xs,H=>by
  obtain⟨ρ1,h1,h2,h3⟩:=H x (UL ..);have ih:=t6 c f λy hy=>H y (UD _ hy);unfold eQ;rw[h1];simp;rw[h2];simp
  cases hc:c x with
  |false=>grind
  |true=>
   simp_all
theorem wm(hit:it ρ h=.ok xs h1)(hz:xs.length<=16777216)(c:D->Bool)(f:D->PyData)
 (H:∀x∈xs,∃ρ1,g x (List.replicate n none++ρ) h1=.ok ρ1 h1/\t ρ1 h1=.ok (c x) h1/\(c x=true->e ρ1 h1=.ok (.dat (f x)) h1)):cD n it g t e ρ h=.ok (.dat (.list ((xs.filter c).map f))) h1:=by
 unfold cD ag oS;rw[hit];simp[sz hz];rw[t6 c _ H];have e1:(List.map (λx=>D.dat (f x)) (List.filter c xs))=((xs.filter c).map f).map D.dat:=by simp
 rw[e1]
 exact eK _ _ (by
  rw[US]
  exact UI (List.length_filter_le _ _) hz)
theorem fz{ds:Yj}(hit:it ρ h=.ok (ds.map D.dat) h1)(hz:ds.length<=16777216)(f:PyData->PyData)
 (H:∀x∈ds,∃ρ1,g (.dat x) (List.replicate n none++ρ) h1=.ok ρ1 h1/\e ρ1 h1=.ok (.dat (f x)) h1):cD n it g dW e ρ h=.ok (.dat (.list (ds.map f))) h1:=by
 have:=wm (n:=n) (t:=dW) (g:=g) (e:=e) hit (by grind) (λ_=>true) (λx=>match x with|.dat d=>f d|_=>.none) (λx hx=>by
  obtain⟨d,hd,rfl⟩:=UU.mp hx
  simp_all)
 rw[this,show _=λ_=>true from rfl,List.filter_eq_self.mpr (λ_ _=>rfl),X2];rfl
theorem oh{ds:Yj}(hit:it ρ h=.ok (ds.map D.dat) h1)(hz:ds.length<=16777216)(c:PyData->Bool)(f:PyData->PyData)
 (H:∀x∈ds,∃ρ1,g (.dat x) (List.replicate n none++ρ) h1=.ok ρ1 h1/\t ρ1 h1=.ok (c x) h1/\(c x=true->e ρ1 h1=.ok (.dat (f x)) h1)):cD n it g t e ρ h=.ok (.dat (.list ((ds.filter c).map f))) h1:=by
 have:=wm (n:=n) (t:=t) (g:=g) (e:=e) hit (by grind) (λx=>match x with|.dat d=>c d|_=>false) (λx=>match x with|.dat d=>f d|_=>.none) (λx hx=>by
  obtain⟨d,hd,rfl⟩:=UU.mp hx
  grind)
 simp[this,List.filter_map,Function.comp_def]
theorem CU(bs:List Bool)(h:Hm):qu [.dat (.list (bs.map .bool))] h=.ok (.bool (bs.all id)) h:=by simp[qu,FD]
theorem kY(I:Hm->Prop)(f:D->D->Prop):∀{xs:List D} {h:Hm},(∀x∈xs,∀h,I h->∃ρ1 h1 c h2,g x (List.replicate n none++ρ) h=.ok ρ1 h1/\t ρ1 h1=.ok c h2/\((c=false/\I h2)\/(c=true/\∃y h3,e ρ1 h2=.ok y h3/\f x y/\I h3)))->I h ->
  ∃ys zs h',eQ n ρ g t e xs h=.ok ys h'/\I h'/\zs.Sublist xs/\PySem.Paired f zs ys
 | [],h,_,a=>⟨[],[],h,rfl,a,.slnil,.nil⟩
 |x::xs,h,H,a=>by
  obtain⟨ρ1,h1,c,h2,e1,e2,k⟩:=H x (UL ..) h a;unfold eQ;rw[e1];simp only[R.eO,R.aO];rw[e2];simp only[R.eO,R.aO];rcases k with⟨rfl,a2⟩|⟨rfl,y,h3,e3,fy,a3⟩
  ·obtain⟨ys,zs,h',q1,q2,q3,q4⟩:=kY I f (xs:=xs) (λy hy=>H y (UD _ hy)) a2
   grind
  ·obtain⟨ys,zs,h',q1,q2,q3,q4⟩:=kY I f (xs:=xs) (λy hy=>H y (UD _ hy)) a3;refine⟨y::ys,x::zs,h',?_,q2,.cons_cons _ q3,.cons fy q4⟩;simp only[Vu];rw[e3];simp only[R.eO,R.aO];rw[q1];rfl
mutual
noncomputable def p8:PyData->Bool
 |.none|.bool _=>true
 |.int i=>decide (i.natAbs<10^30)
 |.str x=>PyData.strOk x
 |.tuple ds=>f6 ds
 |.list ds=>f6 ds
 |.dict _=>false
noncomputable def f6:Yj->Bool
 | []=>true
 |d::ds=>p8 d&&f6 ds
end
theorem F6(h:p8 (.int i)=true):PyData.showable (.int i)=true/\PyData.intsShort 31 (.int i)=true:=by
 simp only[p8,UZ]at h;refine⟨?_,?_⟩
 ·simp[PyData.showable];by_cases z:i.natAbs=0
  ·simp_all
  ·rw[Nat.log2_lt z]
   grind
 ·simp[PyData.intsShort];have e:=PySem.int_text_length_le10 (by decide) h;show(Str.ofString _).length<=31;rw[ofString_length];exact e
mutual
theorem oj:∀{d:PyData},p8 d=true->d.showable=true/\d.intsShort 31=true
 |.none,_=>by trivial
 |.bool _,_=>by trivial
 |.int _,h=>F6 h
 |.str x,h=>by trivial
 |.tuple ds,h=>kZ h
 |.list ds,h=>kZ h
 |.dict _,h=>by trivial
theorem kZ:∀{ds:Yj},f6 ds=true->PyData.showableAll ds=true/\PyData.intsShortAll 31 ds=true
 | [],_=>by trivial
 |d::ds,h=>by simp only[f6,Ux]at h;simp only[PyData.showableAll,PyData.intsShortAll,Ux];exact⟨⟨(oj h.1).1,(kZ h.2).1⟩,(oj h.1).2,(kZ h.2).2⟩
end
mutual
theorem wo:∀{d:PyData},p8 d=true->d.canLay0=true
 |.none,_=>by rfl
 |.bool _,_=>by rfl
 |.int _,h=>by rfl
 |.str x,h=>by assumption
 |.tuple ds,h=>sT h
 |.list ds,h=>sT h
 |.dict _,h=>by assumption
theorem sT:∀{ds:Yj},f6 ds=true->PyData.canLayAll0 ds=true
 | [],_=>by rfl
 |d::ds,h=>by simp only[f6,Ux]at h;simp only[PyData.canLayAll0,Ux];exact⟨wo h.1,sT h.2⟩
end
theorem iu:∀(a b:Yj),f6 (a++b)=(f6 a&&f6 b)
 | [],b=>by rfl
 |d::a,b=>by simp[f6,iu a b,Bool.and_assoc]
theorem jr:∀(a b:Yj),PyData.weightAll (a++b)=PyData.weightAll a+PyData.weightAll b
 | [],b=>by simp[PyData.weightAll]
 |d::a,b=>by simp[PyData.weightAll,jr a b];omega
theorem jt:∀(a b:Yj),PyData.depthAll (a++b)=max (PyData.depthAll a) (PyData.depthAll b)
 | [],b=>by rfl
 |d::a,b=>by simp only[WC,PyData.depthAll,jt a b];omega
theorem BB:∀(a:Yj),a.length<=PyData.weightAll a
 | []=>by simp
 |d::a=>by
  have:=BB a
  grind[PyData.weightAll,List.length_cons]
theorem yA:∀{ds:Yj} {d:PyData},f6 ds=true->d∈ds->p8 d=true
 |e::ds,d,h,m=>by
  simp[f6]at h;rcases UC.mp m with rfl|m
  ·grind
  ·exact yA h.2 m
theorem BC:∀{ds:Yj},(∀d∈ds,p8 d=true)->f6 ds=true
 | [],_=>rfl
 |d::ds,h=>by simp[f6];exact⟨h d (UL ..),BC λe m=>h e (UD _ m)⟩
theorem yB:∀{ds:Yj} {d:PyData},d∈ds->d.depth<=PyData.depthAll ds
 |e::ds,d,m=>by
  simp[PyData.depthAll];rcases UC.mp m with rfl|m
  ·omega
  ·have:=yB m;omega
theorem ju:∀{ds:Yj} {m:Nat},(∀d∈ds,d.depth<=m)->PyData.depthAll ds<=m
 | [],m,_=>by simp[PyData.depthAll]
 |d::ds,m,h=>by simp[PyData.depthAll];have h1:=h d (UL ..);have h2:=ju λe q=>h e (UD _ q);omega
theorem wq:∀{ds:Yj} {d:PyData},d∈ds->d.weight+1<=PyData.weightAll ds
 |e::ds,d,m=>by
  simp[PyData.weightAll];rcases UC.mp m with rfl|m
  ·omega
  ·have:=wq m;omega
theorem rB:∀{ds:Yj} {n:Nat},(∀d∈ds,d.weight<=n)->PyData.weightAll ds<=ds.length*(n+1)
 | [],n,_=>by simp[PyData.weightAll]
 |d::ds,n,h=>by simp[PyData.weightAll,Nat.succ_mul];have h1:=h d (UL ..);have h2:=rB λe q=>h e (UD _ q);omega
structure Ok(n m:Nat)(x:PyData):Prop where
 f:p8 x=true
 d:x.depth<=m
 w:x.weight<=n
structure gE(n m:Nat)(ds:Yj):Prop where
 f:f6 ds=true
 d:PyData.depthAll ds<=m
 w:PyData.weightAll ds<=n
section
variable {n m n' m':Nat} {d x:PyData} {ds a b:Yj}
theorem gE.tup(o:gE n m ds):Ok n (m+1) (.tuple ds):=⟨by simpa [p8]using o.f,by simp[PyData.depth];have:=o.d;omega,o.w⟩
theorem gE.lst(o:gE n m ds):Ok n (m+1) (.list ds):=⟨by simpa [p8]using o.f,by simp[PyData.depth];have:=o.d;omega,o.w⟩
theorem Ok.items(o:Ok n m (.tuple ds)):gE n (m-1) ds:=⟨by simpa [p8]using o.f,by have:=o.d;grind[PyData.depth],by have:=o.w;grind[PyData.weight]⟩
theorem gE.append(x:gE n1 m a)(y:gE n2 m b):gE (n1+n2) m (a++b):=
 ⟨by rw[iu,x.f,y.f];rfl,by rw[jt];exact Nat.max_le.mpr ⟨x.d,y.d⟩,by rw[jr];exact Nat.add_le_add x.w y.w⟩
theorem gE.one(x:Ok n m d):gE (n+1) m [d]:=⟨by simp[f6,x.f],by simp[PyData.depthAll];exact x.d,by simp[PyData.weightAll];exact x.w⟩
theorem gE.cons(x:Ok n m d)(y:gE n' m ds):gE (n+1+n') m (d::ds):=(gE.one x).append y
theorem gE.mono(x:gE n m a)(h1:n<=n')(h2:m<=m'):gE n' m' a:=⟨x.f,UI x.d h2,UI x.w h1⟩
theorem Ok.mono(x:Ok n m d)(h1:n<=n')(h2:m<=m'):Ok n' m' d:=⟨x.f,UI x.d h2,UI x.w h1⟩
theorem gE.mem(o:gE n m ds)(h:d∈ds):Ok n m d:=⟨yA o.f h,UI (yB h) o.d,by have:=wq h;have:=o.w;omega⟩
theorem gE.len(o:gE n m ds):ds.length<=n:=UI (BB ds) o.w
theorem gE.of(h:∀d∈ds,Ok n m d):gE (ds.length*(n+1)) m ds:=⟨BC λd q=>(h d q).f,ju λd q=>(h d q).d,rB λd q=>(h d q).w⟩
theorem Ok.QR(o:Ok n m d):noDict d=true:=by have:=PyData.hasDict_of_canLay d (wo o.f);simp[noDict,this]
theorem Ok.shown(o:Ok n m d)(h:n<=10000):d.shown.length<=16777216:=by
 have h1:=PyData.shown_le 31 (by decide) d (PyData.leavesShort_of_canLay0 31 d (wo o.f) (oj o.f).2);have h2:=o.w
 grind
theorem Ok.rep(o:Ok n m d)(h:n<=10000)(h2:m<=40):AD d=true:=by have:=o.d;simp[AD];exact⟨⟨⟨(oj o.f).1,o.QR⟩,by omega⟩,sz (o.shown h)⟩
theorem Ok.str(o:Ok n m (.str s)):s.length<=n:=o.w
theorem gE.split(o:gE n m ds)(z:Nat)(hz:z<ds.length):∃x,ds[z]?=some x/\gE (PyData.weightAll (ds.take z)) m (ds.take z)/\Ok x.weight m x/\gE (PyData.weightAll (ds.drop (z+1))) m (ds.drop (z+1))/\PyData.weightAll (ds.take z)+(x.weight+1)+PyData.weightAll (ds.drop (z+1))<=n:=by
 have e:ds=ds.take z++([ds[z]]++ds.drop (z+1)):=by rw[List.singleton_append,<- Vt hz,VS]
 have f:=o.f;have d:=o.d;have w:=o.w;rw[e,iu,iu,Ux,Ux]at f;rw[e,jt,jt]at d;rw[e,jr,jr]at w;have f2:p8 ds[z]=true:=by simpa [f6]using f.2.1
 simp only[PyData.depthAll,PyData.weightAll]at d w;refine⟨ds[z],by simp[hz],⟨f.1,by omega,Uy _⟩,⟨f2,by omega,Uy _⟩,⟨f.2.2,by omega,Uy _⟩,by omega⟩
end
theorem wu(o:Ok n m d)(h:Hm)(hn:n<=10000)(hm:m<=40):lC [.dat d] h=.ok (.rpr d.shown) h:=by simp[lC,o.rep hn hm]
theorem ON(ds:Yj)(z:Nat):cut ds none (some (z:Int))=ds.take z:=by
 grind[cut,eM]
theorem BD(ds:Yj)(z:Nat):cut ds (some (z:Int)) none=ds.drop z:=by
 simp only[cut,eM];rw[if_neg (by omega),VL];by_cases h:z<=ds.length
 ·rw[Nat.min_eq_left h,List.take_of_length_le (by simp)]
 ·rw[Nat.min_eq_right (by omega),V6 (Uy _),V6 (by omega)];simp
theorem Lx(ds:Yj)(z:Nat)(x:PyData)(h:ds[z]?=some x):cut ds (some (z:Int)) (some ((z:Int)+1))=[x]:=by obtain⟨hz,e⟩:=UB.mp h;simp only[cut,eM];rw[if_neg (by omega),if_neg (by omega),VL,show((z:Int)+1).toNat=z+1 by omega,Nat.min_eq_left (by omega),Nat.min_eq_left (by omega),Nat.add_sub_cancel_left,Vt hz];simp[e]
theorem BE(ds:Yj):cut ds (some 1) none=ds.drop 1:=BD ds 1
theorem Ly(xs:Yj):PyData.eqv (.list xs) (.list [])=xs.isEmpty:=by cases xs<;>simp[PyData.eqv,PyData.eqvAll]
theorem Ex(o:gE n m xs)(h:Hm):oEq (.dat (.list xs)) (.dat (.list [])) h=.ok (.bool xs.isEmpty) h:=by
 have h1:PyData.hasDictAll xs=false:=by have:=o.lst.QR;grind[noDict,PyData.hasDict]
 simp[oEq,eqQ,h1,Ly,noDict,PyData.hasDict,PyData.hasDictAll,PyData.depth,PyData.depthAll]
theorem IS(o:gE n m xs)(h:Hm):oEq (.dat (.tuple xs)) (.dat (.tuple [])) h=.ok (.bool xs.isEmpty) h:=by
 have h1:PyData.hasDictAll xs=false:=by have:=o.tup.QR;grind[noDict,PyData.hasDict]
 have e:PyData.eqv (.tuple xs) (.tuple [])=xs.isEmpty:=by cases xs<;>simp[PyData.eqv,PyData.eqvAll]
 simp[oEq,eqQ,h1,e,noDict,PyData.hasDict,PyData.hasDictAll,PyData.depth,PyData.depthAll]
noncomputable def rC:MS:=bN (aq oEq (cD 2 (uV (aa (af 0) (aa (Co (af 0) (dX (ah (.int 1))) jZ) aj))) (gQ (bF (aB 0) (bF (aB 1) gP))) (dH (aR (aq oLt (af 0) (af 1)))) (ah (.int 1))) (ah (.list [])))
def rD:Fn:=bj 1 1 rC
noncomputable def az(c:Nat):Bool:=decide (97<=c)&&decide (c<=122)
noncomputable def isName:PyData->Bool
 |.str x=>decide (1<=x.length)&&decide (x.length<=6)&&x.cps.toList.all az
 |_=>false
theorem TV(a c:Nat):decide ([a]<[c])=decide (a<c):=by
 rw[decide_eq_decide];constructor
 ·intro h
  cases h with
  |rel h=>exact h
  |cons h=>cases h
 ·intro h;exact .rel h
theorem S7:("a" : Str).cps.toList=[97]:=by rfl
theorem S8:("z" : Str).cps.toList=[122]:=by rfl
theorem Ut(c:Nat):(!pE (⟨#[c]⟩:Str) ("a" : Str))=decide (97<=c):=by
 unfold pE;rw[S7,show(_:Str).cps.toList=[c]from rfl,TV]
 grind
theorem ltZ(c:Nat):(!pE ("z" : Str) (⟨#[c]⟩:Str))=decide (c<=122):=by
 unfold pE;rw[S8,show(_:Str).cps.toList=[c]from rfl,TV]
 grind
theorem wx(x:Str):signs x=(dY x).map D.dat:=by simp[signs,dY]
theorem wy(x:Str):(dY x).length=x.length:=by simp[dY];rfl
theorem wz(x:Str)(p:Nat->Bool)(q:PyData->Bool)(h:∀c,q (.str ⟨#[c]⟩)=p c):(dY x).all q=x.cps.toList.all p:=by
 rw[VC,UM,UM];constructor
 ·intro H c hc;obtain⟨i,hi,e⟩:=VX.mp hc
  have:=H (.str ⟨#[c]⟩) (by
   simp only[dY,UU,Vf];refine⟨i,by simpa using hi,?_⟩;have hi':i<x.cps.size:=by simpa using hi
   simp[Array.getD,hi']
   simpa using e)
  rw[h]at this;exact this
 ·intro H d hd;simp only[dY,UU,Vf]at hd;obtain⟨i,hi,rfl⟩:=hd;rw[h];apply H;have:x.cps.getD i 0=x.cps[i]:=by simp[Array.getD,hi]
  rw[this];simp
theorem om(i j:Int)(h:Hm):oLe (.int i) (.int j) h=.ok (.bool (decide (i<=j))) h:=rfl
theorem Ey(x y:Str)(h:Hm):oLe (.str x) (.str y) h=.ok (.bool (!pE y x)) h:=rfl
theorem kj(h:Hm)(hz:x.length<=16777216):gK [.str x] h=.ok (.int x.length) h:=by simp[gK,sz hz]
@[simp] theorem QS(ds:Yj)(h:Hm):gK [.dat (.tuple ds)] h=.ok (.int ds.length) h:=rfl
@[simp] theorem QT(ds:Yj)(h:Hm):gK [.dat (.list ds)] h=.ok (.int ds.length) h:=rfl
noncomputable def bU{α:Type}(ds:List α)(f:α->Bool):Bool:=ds.all f
noncomputable def S9{α:Type}(ds:List α)(f:α->Bool):Bool:=ds.any f
theorem cO:bU ds f=true<->∀x∈ds,f x=true:=UM
theorem ko:bU (a::ds) f=true<->f a=true/\bU ds f=true:=by simp[bU]
@[simp] theorem QU(f:α->Bool):bU [] f=true:=rfl
@[simp] theorem QV(f:α->Bool):S9 [] f=false:=rfl
theorem fV(ds:List α)(f:α->Bool)(h:Hm):qu [.dat (.list (ds.map λx=>.bool (f x)))] h=.ok (.bool (bU ds f)) h:=by
 unfold bU;have e1:ds.map (λx=>PyData.bool (f x))=(ds.map f).map .bool:=by simp
 rw[e1,CU]
 simp_all
theorem CV(o:Ok n m d)(hn:n<=10000)(h:Hm):j5 [.dat d] h=.ok (.bool (isName d)) h:=by
 unfold j5 yb
 cases d with
 |str x=>
  have hx:x.length<=16777216:=UI o.str (by omega)
  have key:cD 1 (aX (af 0)) (aB 0) dW (mI oLe oLe (ah (.str "a")) (af 0) (ah (.str "z"))) [some (.str x)] h=.ok (.dat (.list ((dY x).map λd=>.bool (match d with|.str y=>!pE y "a" && !pE "z" y|_=>false)))) h:=by
   refine fz (by simp[wx]) (by rw[wy];exact hx) _ λy hy=>?_;simp only[dY,UU,Vf]at hy;obtain⟨i,hi,rfl⟩:=hy;generalize (⟨#[x.cps.getD i 0]⟩:Str)=y;refine⟨_,rfl,?_⟩;by_cases z:pE y "a" = true
   ·simp[Ey,z]
   ·simp[Ey,z]
  by_cases h1:1<=(x.length:Int)
  ·by_cases h2:(x.length:Int)<=6
   ·simp[kj h hx,om,h1,h2,key,fV];unfold bU;rw[wz x az _ (λc=>by simp only[az,Ut,ltZ])];simp[isName,show 1<=x.length by omega,show x.length<=6 by omega]
   ·simp[kj h hx,om,h1,h2,isName,show ¬ x.length<=6 by omega]
  ·simp[kj h hx,om,h1,isName,show ¬ 1<=x.length by omega]
 |_=>simp[isName]
noncomputable def i7(ds:Yj):Bool:=bU (ds.zip ds.tail) λp=>ltB p.1 p.2
structure JJ(ds:Yj):Prop where
 nd:∀d∈ds,noDict d=true/\d.depth<=40
 lt:∀d∈ds,∀e∈ds,bY d e=some (ltB d e)
theorem IT(h1:noDict d=true)(h2:noDict e=true)(h3:d.depth<=40)(h4:bY d e=some (ltB d e))(h:Hm):oLt (.dat d) (.dat e) h=.ok (.bool (ltB d e)) h:=by simp[oLt,h1,h2,h4,show min d.depth e.depth<=40 by omega]
theorem oq(i j:Int)(h:Hm):oLt (.int i) (.int j) h=.ok (.bool (decide (i<j))) h:=by rfl
theorem BF(h:∀d∈ds,∃x,d=.str x):JJ ds:=⟨λd m=>by obtain⟨x,rfl⟩:=h d m;simp[noDict,PyData.hasDict,PyData.depth],λd m e m'=>by
 obtain⟨x,rfl⟩:=h d m
 grind[ltB,bY]⟩
theorem zI:∀(xs ys:Yj),y0 xs ys=((xs.zip ys).map λp=>PyData.tuple [p.1,p.2]).map D.dat
 | [],_=>by rfl
 |_::_,[]=>by rfl
 |x::xs,y::ys=>by simp[y0,zI xs ys]
theorem Ez{xs:Yj}(h:p∈xs.zip xs.tail):p.1∈xs/\p.2∈xs:=by have:=WQ h;exact⟨this.1,List.mem_of_mem_tail this.2⟩
theorem lg(c:JJ ds)(hz:ds.length<=16777216)(h:Hm):gL [.dat (.tuple ds)] h=.ok (.bool (i7 ds)) h:=by
 unfold gL tH
 have key:cD 2 (uV (aa (af 0) (aa (Co (af 0) (dX (ah (.int 1))) jZ) aj))) (gQ (bF (aB 0) (bF (aB 1) gP))) dW (aq oLt (af 0) (af 1)) [some (.dat (.tuple ds))] h=.ok (.dat (.list ((ds.zip ds.tail).map λp=>.bool (ltB p.1 p.2)))) h:=by
  rw[fz (h1:=h) (ds:=(ds.zip ds.tail).map λp=>PyData.tuple [p.1,p.2]) (by simp[BE,zI]) (by grind) (λd=>.bool (match d with|.tuple [a,b]=>ltB a b|_=>false)) λy hy=>?_]
  ·rw[X2];rfl
  ·obtain⟨p,hp,rfl⟩:=UU.mp hy;obtain⟨m1,m2⟩:=Ez hp;refine⟨_,rfl,?_⟩;simp[IT (c.nd _ m1).1 (c.nd _ m2).1 (c.nd _ m1).2 (c.lt _ m1 _ m2)]
 simp[key,fV,i7]
theorem all_filter(l:List α)(p:α->Bool)(f:α->β):((l.filter λx=>!p x).map f).isEmpty=bU l p:=by
 unfold bU
 induction l with
 |nil=>rfl
 |cons a l ih=>cases h:p a<;>simp[h,<- ih]
theorem Lz(l:List α):gE (l.length*2) 0 (l.map λ_=>PyData.int 1):=by
 have:=gE.of (n:=1) (m:=0) (ds:=l.map λ_=>PyData.int 1) λd hd=>by obtain⟨_,_,rfl⟩:=UU.mp hd;exact⟨by decide,by decide,by trivial⟩
 simp_all
theorem zJ(c:JJ ds)(hz:ds.length<=16777216)(h:Hm):rD [.dat (.tuple ds)] h=.ok (.bool (i7 ds)) h:=by
 unfold rD rC
 have key:=oh (n:=2) (it:=uV (aa (af 0) (aa (Co (af 0) (dX (ah (.int 1))) jZ) aj))) (g:=gQ (bF (aB 0) (bF (aB 1) gP))) (t:=dH (aR (aq oLt (af 0) (af 1)))) (e:=ah (.int 1)) (ρ:=[some (.dat (.tuple ds))]) (h:=h) (h1:=h)
  (ds:=(ds.zip ds.tail).map λp=>PyData.tuple [p.1,p.2]) (by simp[BE,zI]) (by grind) (λd=>!(match d with|.tuple [a,b]=>ltB a b|_=>false)) (λ_=>.int 1) (λy hy=>by
   obtain⟨p,hp,rfl⟩:=UU.mp hy;obtain⟨m1,m2⟩:=Ez hp;refine⟨_,rfl,?_,?_⟩
   ·simp[IT (c.nd _ m1).1 (c.nd _ m2).1 (c.nd _ m1).2 (c.lt _ m1 _ m2)]
   ·intro _;simp)
 simp[key,Ex (Lz _)];have e:=all_filter ((ds.zip ds.tail).map λp=>PyData.tuple [p.1,p.2]) (λd=>match d with|.tuple [a,b]=>ltB a b|_=>false) (λ_=>PyData.int 1);have e2:i7 ds=bU ((ds.zip ds.tail).map λp=>PyData.tuple [p.1,p.2]) (λd=>match d with|.tuple [a,b]=>ltB a b|_=>false):=by simp only[i7,bU,List.all_map];rfl
 simp_all
noncomputable abbrev wA:Str := "abcdefghijklmnopqrstuvwxyz"
theorem F7:wA.cps.toList=(List.range 26).map (97+·):=by rfl
theorem F8(c:Nat):decide (c∈wA.cps.toList)=az c:=by
 rw[F7,az,VC];simp;constructor
 ·omega
 ·intro _;exact⟨c-97,by omega,by omega⟩
theorem Ga(c:Nat)(h:Hm):qt (.str ⟨#[c]⟩) (.str wA) h=.ok (.bool (!az c)) h:=by simp only[qt,findIn,iH,kE];rw[StrLaws.found_one,F8]
theorem Gb(hx:PyData.strOk x=true):∀d∈dY x,Ok 1 0 d:=λd hd=>by simp only[dY,UU]at hd;obtain⟨i,hi,rfl⟩:=hd;exact⟨zc hx,by simp[PyData.depth],by simp[PyData.weight]⟩
theorem gE.sub{ds es:Yj}(o:∀d∈ds,Ok n m d)(h:∀e∈es,e∈ds):gE (es.length*(n+1)) m es:=gE.of λd hd=>o d (h d hd)
noncomputable def RL:PyData->Bool
 |.str x=>az (x.cps.getD 0 0)
 |_=>false
theorem EA(c:Nat):RL (.str ⟨#[c]⟩)=az c:=by rfl
theorem nH(o:Ok n m d)(hn:n<=10000)(h:Hm):cg [.dat d] h=.ok (.bool (isName d)) h:=by
 unfold cg mM
 cases d with
 |str x=>
  have hx:x.length<=16777216:=UI o.str (by omega);have hs:PyData.strOk x=true:=by have:=o.f;simpa [p8]using this
  have key:=oh (n:=1) (it:=aX (af 0)) (g:=aB 0) (t:=aR (aq qt (af 0) (ah (.str "abcdefghijklmnopqrstuvwxyz")))) (e:=af 0) (ρ:=[some (.str x)]) (h:=h) (h1:=h) (ds:=dY x) (by simp[wx]) (by rw[wy];exact hx)
   (λd=>!RL d) id (λy hy=>by
    simp only[dY,UU,Vf]at hy;obtain⟨i,hi,rfl⟩:=hy;generalize x.cps.getD i 0=c;refine⟨_,rfl,?_,λ_=>?_⟩
    ·simp[Ga,EA]
    ·simp)
  by_cases h1:1<=(x.length:Int)
  ·by_cases h2:(x.length:Int)<=6
   ·have ok:=gE.sub (es:=((dY x).filter (λd=>!RL d)).map id) (Gb hs) (by simp;exact λe a _=>a);simp only[List.map_id]at key ok;have e1:=all_filter (dY x) RL id;unfold bU at e1;rw[wz x az _ EA,List.map_id]at e1;simp[kj h hx,om,h1,h2,key,Ex ok,-List.isEmpty_eq_false_iff,-List.isEmpty_iff];rw[e1];simp[isName,show 1<=x.length by omega,show x.length<=6 by omega]
   ·simp[kj h hx,om,h1,h2,isName,show ¬ x.length<=6 by omega]
  ·simp[kj h hx,om,h1,isName,show ¬ 1<=x.length by omega]
 |_=>simp[isName]
mutual
noncomputable def cm:PyData->PyData->Bool
 |.str _,.str _=>true
 |.int _,.int _=>true
 |.tuple xs,.tuple ys=>Pu xs ys
 |_,_=>false
noncomputable def Pu:Yj->Yj->Bool
 |x::xs,y::ys=>cm x y&&Pu xs ys
 |_,_=>true
end
mutual
theorem CW:∀{d e:PyData},cm d e=true->(bY d e).isSome=true
 |.str _,e,h=>by cases e<;>simp_all[cm,bY]
 |.int _,e,h=>by cases e<;>simp_all[cm,bY]
 |.tuple xs,e,h=>by
  cases e with
  |tuple ys=>simp only[bY];exact EB h
  |_=>assumption
 |.none,_,h=>by assumption
 |.bool _,_,h=>by assumption
 |.list _,_,h=>by assumption
 |.dict _,_,h=>by assumption
theorem EB:∀{xs ys:Yj},Pu xs ys=true->(dy xs ys).isSome=true
 | [],[],_=>by rfl
 | [],_::_,_=>by rfl
 |_::_,[],_=>by rfl
 |x::xs,y::ys,h=>by
  simp only[Pu,Ux]at h;unfold dy;split
  ·exact EB h.2
  ·exact CW h.1
end
theorem LA(h:cm d e=true):bY d e=some (ltB d e):=by
 have:=CW h;unfold ltB
 cases q:bY d e with
 |none=>grind
 |some b=>rfl
noncomputable def iX:PyData->Bool
 |.str _=>true
 |_=>false
theorem cP(h:iX d=true):∃x,d=.str x:=by cases d<;>simp_all[iX]
theorem wB:∀{xs ys:Yj},bU xs iX=true->bU ys iX=true->Pu xs ys=true
 | [],_,_,_=>by rfl
 |_::_,[],_,_=>by rfl
 |x::xs,y::ys,h,k=>by have h:=ko.mp h;have k:=ko.mp k;obtain⟨a,rfl⟩:=cP h.1;obtain⟨b,rfl⟩:=cP k.1;simp[Pu,cm,wB h.2 k.2]
theorem JJ.of(o:gE n m ds)(hm:m<=40)(h:∀d∈ds,∀e∈ds,cm d e=true):JJ ds:=⟨λd q=>⟨(o.mem q).QR,by have:=(o.mem q).d;omega⟩,λd q e r=>LA (h d q e r)⟩
noncomputable def Ad(ns:Yj)(d:PyData):Bool:=ns.any λy=>PyData.eqv y d
theorem CY(o:Ok n m d):∀{ns:Yj},bU ns iX=true->Hq d ns=some (Ad ns d)
 | [],_=>rfl
 |y::ns,h=>by
  have h:=ko.mp h;obtain⟨x,rfl⟩:=cP h.1;have ih:=CY o h.2
  have e:FC (.str x) d=some (PyData.eqv (.str x) d):=by
   have hd  := o.QR;unfold FC;split
   ·rfl
   ·grind
   grind[eqQ,noDict,PyData.hasDict,PyData.depth]
  simp[Hq,e,ih,Ad]
theorem wC(o:Ok n m d)(h:bU ns iX=true)(hm:Hm):sZ (.dat d) (.dat (.tuple ns)) hm=.ok (.bool (Ad ns d)) hm:=by simp[sZ,findIn,iH,kE,CY o h]
theorem EC(o:Ok n m d)(h:bU ns iX=true)(hm:Hm):qt (.dat d) (.dat (.tuple ns)) hm=.ok (.bool (!Ad ns d)) hm:=by simp[qt,findIn,iH,kE,CY o h]
theorem rE(h:bU ns iX=true):Ad ns d=true<->d∈ns:=by
 simp[Ad];constructor
 ·rintro⟨y,hy,e⟩;obtain⟨x,rfl⟩:=cP (cO.mp h y hy);cases d<;>simp[PyData.eqv]at e
  grind
 ·intro q;obtain⟨x,rfl⟩:=cP (cO.mp h d q)
  grind[PyData.eqv]
theorem CZ(h:isName d=true):iX d=true:=by cases d<;>simp_all[isName,iX]
theorem iY(h:bU ds isName=true):bU ds iX=true:=cO.mpr λd m=>CZ (cO.mp h d m)
theorem BG(h:bU ds iX=true):∀d∈ds,∃x,d=.str x:=λd m=>cP (cO.mp h d m)
noncomputable def cq:PyData->Bool
 |.tuple ds=>decide (ds.length<=12)&&bU ds isName&&i7 ds
 |_=>false
theorem lh(o:Ok n m d)(hn:n<=10000)(h:Hm):jg [.dat d] h=.ok (.bool (cq d)) h:=by
 unfold jg tI
 cases d with
 |tuple ds=>
  have hl:=o.items.len;have key:=fz (n:=1) (it:=aX (af 0)) (g:=aB 0) (e:=ag j5 (aa (af 0) aj)) (ρ:=[some (.dat (.tuple ds))]) (h:=h) (h1:=h) (ds:=ds) (by simp) (by omega) (λx=>.bool (isName x)) (λx hx=>⟨_,rfl,by simp[CV (o.items.mem hx) hn]⟩);by_cases h1:ds.length<=12
  ·by_cases h2:bU ds isName=true
   ·have:=lg (BF (BG (iY h2))) (by omega) h;simp[key,fV,h1,show ¬ (12:Int)<ds.length by omega,h2,this,cq]
   ·simp[key,fV,h1,show ¬ (12:Int)<ds.length by omega,h2,cq]
  ·simp[h1,show(12:Int)<ds.length by omega,cq]
 |_=>simp[cq]
theorem jv(i j:Int)(h:Hm):ur (.int i) (.int j) h=.ok (.bool (!(i==j))) h:=by rfl
noncomputable def zK:PyData->Yj
 |.tuple ds=>ds
 |_=>[]
theorem zL(h:cq d=true):∃ds,d=.tuple ds/\ds.length<=12/\bU ds isName=true/\i7 ds=true:=by
 cases d<;>simp[cq]at h
 simp_all
@[simp] theorem LB(ds:Yj)(i:Int)(h:Hm):fb (.dat (.tuple ds)) (.int i) h=match lV ds i with|some d=>.ok (.dat d) h|none=>.bad:=rfl
@[simp] theorem ED(ds:Yj)(i:Int)(h:Hm):fb (.dat (.list ds)) (.int i) h=match lV ds i with|some d=>.ok (.dat d) h|none=>.bad:=rfl
@[simp] theorem TX(a:α)(r:List α):lV (a::r) 0=some a:=by simp[lV,wX]
theorem kA{i:Nat}{a:α}(h:xs[i]?=some a):lV xs (i:Int)=some a:=by obtain⟨hi,e⟩:=UB.mp h;simp[lV,wX,hi,e]
@[simp] theorem TY(a b:α)(r:List α):lV (a::b::r) 1=some b:=kA rfl
noncomputable def Wf(h:Hm):Prop:=∀o∈h,MO.below h.length o=true
theorem Wf.set(w:Wf h)(b:MO.below h.length o=true):Wf (h.set i o):=λx hx=>by
 rw[List.length_set];rcases List.mem_or_eq_of_mem_set hx with m|rfl
 ·exact w x m
 grind
theorem D.lj(h:n<=m)(b:D.below n d=true):D.below m d=true:=by cases d<;>simp_all[D.below];omega
theorem MO.lj(h:n<=m)(b:MO.below n o=true):MO.below m o=true:=by
 cases o with
 |lst xs=>simp[MO.below]at b ⊢;exact λd q=>D.lj h (b d q)
 |jX t kvs=>rfl
 |ins C fs=>simp only[MO.below,UM]at b ⊢;exact λd q=>D.lj h (b d q)
 |tab P q=>rfl
theorem Wf.push(w:Wf h)(b:MO.below (h.length+1) o=true):Wf (h++[o]):=λx hx=>by
 rw[UP,XD];rcases UQ.mp hx with m|m
 ·exact MO.lj (VU _) (w x m)
 grind
theorem LD(ns:List Int)(k:Nat)(h:Hm):∃z:Int,fu [.scr ns,.int k] h=.ok (.int z) h:=by
 unfold fu tK;by_cases hk:k<ns.length
 ·exact⟨ns[k],by simp[gK,oq,hk,fb,iH,y8,kA _]⟩
 simp[gK,oq,hk]
@[simp] theorem QW(i j:Int)(h:Hm):dI (.int i) (.int j) h=.ok (.int (i+j)) h:=rfl
noncomputable def QX(n m:Nat)(x:PyData):Bool:=p8 x&&decide (x.depth<=m)&&decide (x.weight<=n)
theorem IU(h:QX n m x=true):Ok n m x:=by simp[QX]at h;exact⟨h.1.1,h.1.2,h.2⟩
noncomputable def Py(n m:Nat)(x:PyData):Prop:=Ok n m x\/x=.dict []\/x=.dict [(.str "a",.int 1)]
theorem Py.mono(o:Py n m x)(h1:n<=n')(h2:m<=m'):Py n' m' x:=o.imp (·.mono h1 h2) id
theorem zM{k:Nat}(h:k<xs.length):∃x,lV xs (k:Int)=some x/\x∈xs:=⟨xs[k],kA (UH h),W6 h⟩
theorem rF(h:Hm)(hz:xs.length+ys.length<=16777216):dI (.dat (.list xs)) (.dat (.list ys)) h=.ok (.dat (.list (xs++ys))) h:=by simp[dI,sz hz]
theorem rG(h:Hm)(hz:xs.length+ys.length<=16777216):dI (.dat (.tuple xs)) (.dat (.tuple ys)) h=.ok (.dat (.tuple (xs++ys))) h:=by simp[dI,sz hz]
noncomputable def EE:Yj:=[.none,.str "",.str "a",.str "zz",.str "A",.str "abcdefg",.int 7,.tuple [],.tuple [.str "a",.str "a"],.list [],.bool true,.tuple [.str "a"],.str "in",.str "open"]
theorem IV:∀x∈EE,QX 20 1 x=true:=by decide +kernel
theorem zN:∀{ds:Yj},ds.Pairwise (λa b=>ltB a b=true)->i7 ds=true
 | [],_=>rfl
 | [_],_=>rfl
 |a::b::r,h=>by rw[Vh]at h;have ih:=zN h.2;exact ko.mpr ⟨h.1 b (by simp),ih⟩
theorem Gd(c:dJ ds=true)(t:av ds=true)(nd:ds.Nodup):i7 (dD ltB ds)=true:=by
 have p:=ck ltB ds;have u:=uZ (iz c t);refine zN ?_;refine Xq.mpr λ{a b} s=>?_;have both:=Xq.mp u s;have ha:=p.mem_iff.mp (s.subset (by simp:a∈[a,b]));have hb:=p.mem_iff.mp (s.subset (by simp:b∈[a,b]));rcases qx c t ha hb both with q|q
 ·exact q
 grind
theorem OO(c:dJ ds=true)(t:av ds=true)(hx:x∈ds)(hy:y∈ds)(hz:z∈ds)(h:ltB x y=true)(k:ltB y z=true):ltB x z=true:=by
 have h1:=uY c t hx hy h;have h2:=uY c t hy hz k;rcases qx c t hx hz (DV c t hx hy hz h1 h2)with q|q
 ·exact q
 grind
theorem C0(c:dJ ds=true)(t:av ds=true):∀{es:Yj},(∀e∈es,e∈ds)->i7 es=true->es.Pairwise λa b=>ltB a b=true
 | [],_,_=>.nil
 | [_],_,_=>by simp
 |a::b::r,s,h=>by
  unfold i7 at h;simp at h;have h:=ko.mp h;have ih:=C0 c t (λe m=>s e (UD _ m)) (by grind[i7]);refine Vh.mpr ⟨λd m=>?_,ih⟩;rcases UC.mp m with rfl|m'
  ·grind
  ·exact OO c t (s a (by simp)) (s b (by simp)) (s d (by grind)) h.1 ((Vh.mp ih).1 d m')
namespace Nm
variable {c:Nat} {ns:Yj}
end Nm
theorem nI(h:iX d=true):aE d=true:=by cases d<;>simp_all[iX,aE]
theorem wD(h:iX d=true):au d=true:=by cases d<;>simp_all[iX,au]
theorem Ge(h:∀a∈ds,∀b∈ds,cm a b=true):dJ ds=true:=UM.mpr λa ha=>UM.mpr λb hb=>CW (h a ha b hb)
end Ml
namespace Ml
open PySem
theorem EF(s:zs.Sublist (ns.map D.dat)):∃ls:Yj,zs=ls.map D.dat/\ls.Sublist ns:=by
 grind
theorem ou(e:a ρ h=.ok (.nx ρ1) h1):bg a b ρ h=b ρ1 h1:=by simp_all
theorem aG(ha:a ρ h=.ok x h1)(hb:b ρ h1=.ok y h2)(e:f x y h2=r):aq f a b ρ h=r:=by
 simp_all
theorem ax(he:e ρ h=.ok x h1)(ha:a ρ h1=.ok xs h2):aa e a ρ h=.ok (x::xs) h2:=by
 simp_all
theorem bS(ha:a ρ h=.ok xs h1):ag f a ρ h=f xs h1:=by simp_all
theorem uE(he:e ρ h=.ok x h1):cR i e ρ h=.ok (.nx (ρ.set i (some x))) h1:=by simp_all
section
variable {t u:MT} {a b:MS} {m:ME} {ρ:Fm} {h h1 h2:Hm} {x:D} {c d:Bool}
theorem cu(e:m ρ h=.ok (.bool c) h1):aR m ρ h=.ok c h1:=by simp_all
theorem yC(e:m ρ h=.ok x h1)(k:Ml.truth x h1=some c):bH m ρ h=.ok c h1:=by simp only[bH,e,R.aO,k]
theorem lq(e:t ρ h=.ok c h1):dH t ρ h=.ok (!c) h1:=by simp_all
theorem Mx(e:t ρ h=.ok true h1):lR t a b ρ h=a ρ h1:=by simp_all
theorem My(e:t ρ h=.ok false h1):lR t a b ρ h=b ρ h1:=by simp_all
theorem jw(e:it ρ h=.ok xs h1)(k:eN g a xs ρ h1=r):oC it g a ρ h=r:=by simp_all
theorem ow(e:m ρ h=.ok (.dat (.list ds)) h1):aX m ρ h=.ok (ds.map D.dat) h1:=by simp_all
theorem lu(e:m ρ h=.ok (.dat (.tuple ds)) h1):aX m ρ h=.ok (ds.map D.dat) h1:=by simp_all
theorem zO(e:m ρ h=.ok x h1):bN m ρ h=.ok (.rt x) h1:=by simp_all
end
theorem Gf(e:a ρ h=.ok [.dat (.int j)] h1)(q:(-(2^62):Int)<=j/\j<2^62):uU a ρ h=.ok (nums 0 j.toNat) h1:=by
 simp_all
theorem IW(e:a ρ h=.ok [.dat (.int (n:Int))] h1)(hn:n<1000000):uU a ρ h=.ok (nums 0 n) h1:=by
 have:=Gf e (by omega)
 rwa [VL]at this
section
variable {a b:MS} {t:MT} {m m2:ME} {ρ ρ1:Fm} {h h1 h2:Hm} {r:R Fl} {x y:D} {i:Nat} {g:MG} {it:MA} {f:Fn} {ma:MA} {xs:List D}
theorem aQ(e:a ρ h=.ok (.nx ρ1) h1)(k:b ρ1 h1=r):bg a b ρ h=r:=(ou e).trans k
theorem nJ(e:a ρ h=.ok (.rt x) h1):bg a b ρ h=.ok (.rt x) h1:=by simp_all
theorem du(e:m ρ h=.ok x h1):cR i m ρ h=.ok (.nx (ρ.set i (some x))) h1:=uE e
theorem iw(e:m ρ h=.ok x h1):jd m ρ h=.ok (.nx ρ) h1:=by simp_all
theorem C1(e:m ρ h=.ok x h1)(k:g x ρ h1=.ok ρ1 h2):pF g m ρ h=.ok (.nx ρ1) h2:=by simp_all
theorem fo(e:m ρ h=.ok x h1):bN m ρ h=.ok (.rt x) h1:=zO e
theorem zP(e:t ρ h=.ok true h1)(k:a ρ h1=r):lR t a b ρ h=r:=(Mx e).trans k
theorem sU(e:t ρ h=.ok false h1)(k:b ρ h1=r):lR t a b ρ h=r:=(My e).trans k
theorem ic(l:xs.length=p)(e:b (xs.map some++List.replicate (n-p) none) h=.ok (.rt x) h1):bj p n b xs h=.ok x h1:=by
 simp_all
theorem aF(ha:ma ρ h=.ok xs h1)(k:f xs h1=.ok d h2):ag f ma ρ h=.ok d h2:=(bS ha).trans k
theorem iy{a b:PyData}(e1:m ρ h=.ok (.dat a) h1)(e2:m2 ρ h1=.ok (.dat b) h2):cJ (aa m (aa m2 aj)) ρ h=.ok (.dat (.tuple [a,b])) h2:=(bS (ax e1 (ax e2 rfl))).trans (OL _ _ _)
theorem zQ(e:t ρ h=.ok true h1):oM t u ρ h=.ok true h1:=by simp_all
theorem lx(e:t ρ h=.ok false h1)(k:u ρ h1=.ok c h2):oM t u ρ h=.ok c h2:=by simp_all
theorem IX(e:t ρ h=.ok c h1)(k:u ρ h1=.ok d h1):oM t u ρ h=.ok (c || d) h1:=by cases c<;>simp[e,k]
theorem kq(e:m ρ h=.ok (.bool c) h1):bH m ρ h=.ok c h1:=yC e rfl
end
noncomputable def iZ(ns:Yj):PyData->Bool
 |.tuple [a,b]=>Ad ns a&&Ad ns b
 |_=>false
theorem zR{n m:Nat}{d:PyData}{ns:Yj}(o:Ok n m d)(hn:n<=10000)(hs:bU ns iX=true)(h:Hm):dA [.dat d,.dat (.tuple ns)] h=.ok (.bool (iZ ns d)) h:=by
 unfold dA mJ
 cases d with
 |tuple ds=>
  match ds,o with
  | [],o=>rfl
  | [_],o=>rfl
  |a::b::c::r,o=>rfl
  | [l,x],o=>
   have ol:=o.items.mem (d:=l) (by simp);have ox:=o.items.mem (d:=x) (by simp);by_cases h1:Ad ns l=true
   ·simp[jv,wC ol hs,h1,iZ,wC ox hs]
   ·simp[jv,wC ol hs,h1,iZ]
 |_=>simp[iZ]
theorem BH{ns:Yj}(hs:bU ns iX=true){d:PyData}(h:iZ ns d=true):∃x y:Str,d=.tuple [.str x,.str y]:=by
 unfold iZ at h;split at h
 ·simp at h;obtain⟨x,rfl⟩:=cP (cO.mp hs _ ((rE hs).mp h.1));obtain⟨y,rfl⟩:=cP (cO.mp hs _ ((rE hs).mp h.2))
  grind
 grind
theorem QY{ns:Yj}(hs:bU ns iX=true){d e:PyData}(h:iZ ns d=true)(k:iZ ns e=true):cm d e=true:=by obtain⟨x,y,rfl⟩:=BH hs h;obtain⟨z,w,rfl⟩:=BH hs k;rfl
noncomputable def t7(ns:Yj):PyData->Bool
 |.tuple ds=>bU ds (iZ ns)&&i7 ds
 |_=>false
theorem IY{n m:Nat}{ds ns:Yj}(o:gE n m ds)(hm:m<=40)(hs:bU ns iX=true)(h:bU ds (iZ ns)=true):JJ ds:=JJ.of o hm λd q e r=>QY hs (cO.mp h d q) (cO.mp h e r)
theorem wF{n m:Nat}{d:PyData}{ns:Yj}(o:Ok n m d)(hn:n<=10000)(hm:m<=40)(hs:bU ns iX=true)(h:Hm):dG [.dat d,.dat (.tuple ns)] h=.ok (.bool (t7 ns d)) h:=by
 unfold dG jF
 cases d with
 |tuple ds=>
  have hl:=o.items.len;have key:=fz (n:=1) (it:=aX (af 0)) (g:=aB 0) (e:=ag dA (aa (af 0) (aa (af 2) aj))) (ρ:=[some (.dat (.tuple ds)),some (.dat (.tuple ns))]) (h:=h) (h1:=h) (ds:=ds) (by simp) (by omega) (λx=>.bool (iZ ns x)) (λx hx=>⟨_,rfl,by simp[zR (o.items.mem hx) hn hs]⟩);by_cases h2:bU ds (iZ ns)=true
  ·have:=lg (IY o.items (by omega) hs h2) (by omega) h;simp[key,fV,h2,this,t7]
  ·simp[key,fV,h2,t7]
 |_=>simp[t7]
noncomputable def et:PyData->Bool
 |.tuple [a,b]=>cq a&&t7 (zK a) b
 |_=>false
theorem Gg{n m:Nat}{d:PyData}(o:Ok n m d)(hn:n<=10000)(hm:m<=40)(h:Hm):gM [.dat d] h=.ok (.bool (et d)) h:=by
 unfold gM vA
 cases d with
 |tuple ds=>
  match ds,o with
  | [],o=>rfl
  | [_],o=>rfl
  |a::b::c::r,o=>rfl
  | [a,b],o=>
   have oa:=o.items.mem (d:=a) (by simp);have ob:=o.items.mem (d:=b) (by simp);by_cases h1:cq a=true
   ·obtain⟨ns,rfl,h2,h3,h4⟩:=zL h1;have:=wF ob hn (by omega) (iY h3) h;simp[jv,lh oa hn,h1,this,et,zK]
   ·simp[jv,lh oa hn,h1,et]
 |_=>simp[et]
theorem wG{ds:Yj}(c:JJ ds)(hz:ds.length<=16777216)(h:Hm):eE [.dat (.tuple ds)] h=.ok (.bool (i7 ds)) h:=zJ c hz h
theorem QZ{v:ME}{ρ:Fm}{h:Hm}{x y:PyData}{u:MT}{c:Bool}(e:v ρ h=.ok (.dat (.tuple [x,y])) h)(k:u ρ h=.ok c h):oM (dH (bH (AB (mi isTup) v))) (oM (aR (aq ur (ag gK (aa v aj)) (ah (.int 2)))) u) ρ h=.ok c h:=
 lx (h1:=h) (by simp[e]) (lx (by simp[e,jv]) k)
theorem C2{m:ME}{ρ:Fm}{h:Hm}{ds:Yj}{f:PyData->Bool}(e:m ρ h=.ok (.dat (.list (ds.map λx=>.bool (f x)))) h):dH (bH (ag qu (aa m aj))) ρ h=.ok (!bU ds f) h:=lq (kq (aF (xs:=[_]) (ax e rfl) (fV ds f h)))
noncomputable abbrev TZ:MS:=bg (lR (oM (dH (bH (AB (mi isTup) (af 3)))) (oM (aR (aq ur (ag gK (aa (af 3) aj)) (ah (.int 2)))) (dH (bH (ag qu (aa (cD 1 (aX (af 3)) (aB 0) dW (ag cg (aa (af 0) aj))) aj)))))) (bN (ah (.bool false))) cC)
  (lR (oM (aR (aq qt (aq fb (af 3) (ah (.int 0))) (af 1))) (aR (aq qt (aq fb (af 3) (ah (.int 1))) (af 1)))) (bN (ah (.bool false))) cC)
theorem OP{n m:Nat}{d:PyData}{ns:Yj}{a0 a2:Option D}(o:Ok n m d)(hn:n<=10000)(hs:bU ns isName=true)(h:Hm):TZ [a0,some (.dat (.tuple ns)),a2,some (.dat d)] h=if iZ ns d=true then .ok (.nx [a0,some (.dat (.tuple ns)),a2,some (.dat d)]) h else .ok (.rt (.bool false)) h:=by
 have hs':=iY hs
 cases d with
 |tuple ds=>
  match ds,o with
  | [],o=>rfl
  | [_],o=>rfl
  |a::b::c::r,o=>rfl
  | [x,y],o=>
   have ox:=o.items.mem (d:=x) (by simp);have oy:=o.items.mem (d:=y) (by simp);have key:=fz (n:=1) (it:=aX (af 3)) (g:=aB 0) (e:=ag cg (aa (af 0) aj)) (ρ:=[a0,some (.dat (.tuple ns)),a2,some (.dat (.tuple [x,y]))]) (h:=h) (h1:=h) (ds:=[x,y]) (by simp) (by simp) (λx=>.bool (isName x)) (λz hz=>⟨_,rfl,by simp[nH (o.items.mem hz) hn]⟩);have nm:∀z,Ad ns z=true->isName z=true:=λz q=>cO.mp hs _ ((rE hs').mp q);have c1:=QZ (v:=af 3) rfl (C2 key);have c2:=IX (cu (aG (ρ:=[a0,some (.dat (.tuple ns)),a2,some (.dat (.tuple [x,y]))]) (a:=aq fb (af 3) (ah (.int 0))) (aG rfl rfl rfl) (b:=af 1) rfl (EC ox hs' h))) (cu (aG (a:=aq fb (af 3) (ah (.int 1))) (aG rfl rfl rfl) (b:=af 1) rfl (EC oy hs' h)));by_cases z:Ad ns x=true/\Ad ns y=true
   ·have e1:(!bU [x,y] isName)=false:=by simp[bU,nm x z.1,nm y z.2]
    have e2:(!Ad ns x || !Ad ns y)=false:=by simp[z]
    rw[e1]at c1;rw[e2]at c2;rw[if_pos (show iZ ns (.tuple [x,y])=true by simp[iZ,z])];exact aQ (sU c1 rfl) (sU c2 rfl)
   ·have e2:(!Ad ns x || !Ad ns y)=true:=by cases h3:Ad ns x<;>cases h4:Ad ns y<;>simp_all
    rw[e2]at c2;rw[if_neg (show ¬ iZ ns (.tuple [x,y])=true by simpa [iZ]using z)]
    cases e1:bU [x,y] isName with
    |true=>rw[e1]at c1;exact aQ (sU c1 rfl) (zP c2 rfl)
    |false=>rw[e1]at c1;exact nJ (zP c1 rfl)
 |_=>simp[iZ]
theorem EG{ns:Yj}{a0 a2:Option D}{n m:Nat}(hn:n<=10000)(hs:bU ns isName=true)(h:Hm):∀{ds:Yj},(∀d∈ds,Ok n m d)->∀a3:Option D,∃b3,eN (aB 3) TZ (ds.map D.dat) [a0,some (.dat (.tuple ns)),a2,a3] h=if bU ds (iZ ns)=true then .ok (.nx [a0,some (.dat (.tuple ns)),a2,b3]) h else .ok (.rt (.bool false)) h
 | [],_,a3=>⟨a3,by rfl⟩
 |d::ds,H,a3=>by
  have k:=OP (a0:=a0) (a2:=a2) (H d (by simp)) hn hs h;obtain⟨b3,e⟩:=EG (a0:=a0) (a2:=a2) hn hs h (ds:=ds) (λx q=>H x (by simp[q])) (some (.dat d));refine⟨b3,?_⟩;simp only[U3];unfold eN;simp only[aB,R.eO,R.aO,WK,We,k];by_cases h1:iZ ns d=true
  ·rw[show bU (d::ds) (iZ ns)=bU ds (iZ ns)by simp[bU,h1]];simp only[h1,Vu,R.eO,R.aO,e]
  ·simp[h1,bU]
theorem xy{n m:Nat}{d:PyData}(o:Ok n m d)(hn:n<=10000)(hm:m<=40)(h:Hm):cb [.dat d] h=.ok (.bool (et d)) h:=by
 unfold cb oW
 cases d with
 |tuple ds=>
  match ds,o with
  | [],o=>simp[jv,et]
  | [_],o=>simp[jv,et]
  |a::b::c::r,o=>simp[jv,et,show ¬ ((r.length:Int)+1+1+1=2)by omega]
  | [a,b],o=>
   have oa:=o.items.mem (d:=a) (by simp);have ob:=o.items.mem (d:=b) (by simp);have key:=fz (n:=1) (it:=aX (af 0)) (g:=aB 0) (e:=AB (mi isTup) (af 0)) (ρ:=[some (.dat (.tuple [a,b])),none,none,none]) (h:=h) (h1:=h) (ds:=[a,b]) (by simp) (by simp) (λx=>.bool (isTup x)) (λz hz=>⟨_,rfl,by simp⟩);have ea:=fV [a,b] isTup h;have c0:=QZ (v:=af 0) rfl (C2 key);by_cases ht:isTup a=true/\isTup b=true
   ·obtain⟨ta,tb⟩:=ht;cases a<;>simp[isTup]at ta;cases b<;>simp[isTup]at tb;rename_i ns ps;have k2:=fz (n:=1) (it:=aX (af 1)) (g:=aB 0) (e:=ag cg (aa (af 0) aj)) (ρ:=[some (.dat (.tuple [.tuple ns,.tuple ps])),some (.dat (.tuple ns)),some (.dat (.tuple ps)),none]) (h:=h) (h1:=h) (ds:=ns) (by simp) (by have:=oa.items.len;omega) (λx=>.bool (isName x)) (λz hz=>⟨_,rfl,by simp[nH (oa.items.mem hz) hn]⟩);have hl:=oa.items.len;have hl2:=ob.items.len;rw[show(!bU [PyData.tuple ns,.tuple ps] isTup)=false by simp[bU,isTup]]at c0;refine ic rfl (aQ (sU c0 rfl) (aQ (C1 (x:=.dat (.tuple [.tuple ns,.tuple ps])) rfl rfl) ?_));have bl:ag gK (aa (af 1) aj) [some (.dat (.tuple [.tuple ns,.tuple ps])),some (.dat (.tuple ns)),some (.dat (.tuple ps)),none] h=.ok (.int ns.length) h:=by simp[gK,sz (show ns.length<=16777216 by omega)]
    have c1:=cu (aG (f:=Pg) bl (b:=ah (.int 12)) rfl rfl);have c2:=C2 k2;by_cases h1:ns.length<=12
    ·rw[U0 (show ¬ (12:Int)<ns.length by omega)]at c1;by_cases h2:bU ns isName=true
     ·have c3:=lq (kq (aF (ρ:=[some (.dat (.tuple [.tuple ns,.tuple ps])),some (.dat (.tuple ns)),some (.dat (.tuple ps)),none]) (ma:=aa (af 1) aj) rfl (wG (BF (BG (iY h2))) (by omega) h)));rw[h2]at c2;by_cases h3:i7 ns=true
      ·rw[h3]at c3;obtain⟨b3,lp⟩:=EG (a0:=some (.dat (.tuple [.tuple ns,.tuple ps]))) (a2:=some (.dat (.tuple ps))) hn h2 h (ds:=ps) (λd q=>ob.items.mem q) none;refine aQ (sU (lx c1 (lx c2 c3)) rfl) ?_;by_cases h4:bU ps (iZ ns)=true
       ·rw[if_pos h4]at lp;have r2:=wG (IY ob.items (by omega) (iY h2) h4) (by omega) h;rw[show et (.tuple [.tuple ns,.tuple ps])=i7 ps by simp[et,cq,t7,zK,h1,h2,h3,h4]];exact aQ (jw (lu rfl) lp) (fo (aF rfl r2))
       ·rw[if_neg h4]at lp;rw[show et (.tuple [.tuple ns,.tuple ps])=false by simp[et,t7,zK,h4]];exact nJ (by simp[oC,lu,lp])
      ·rw[WU.mpr h3]at c3;rw[show et (.tuple [.tuple ns,.tuple ps])=false by simp[et,cq,h3]];exact nJ (zP (lx c1 (lx c2 c3)) rfl)
     ·rw[WU.mpr h2]at c2;rw[show et (.tuple [.tuple ns,.tuple ps])=false by simp[et,cq,h2]];exact nJ (zP (lx c1 (zQ c2)) rfl)
    ·rw[Vc (show(12:Int)<ns.length by omega)]at c1;rw[show et (.tuple [.tuple ns,.tuple ps])=false by simp[et,cq,h1]];exact nJ (zP (zQ c1) rfl)
   ·have e:bU [a,b] isTup=false:=WU.mpr λq=>ht (by simpa [bU]using q);rw[e]at c0
    rw[show et (.tuple [a,b])=false from WU.mpr λq=>ht (by
     simp only[et,Ux]at q;obtain⟨q1,q2⟩:=q
     exact⟨by cases a<;>simp_all[cq,isTup],by cases b<;>simp_all[t7,isTup]⟩)]
    exact ic rfl (nJ (zP c0 rfl))
 |_=>simp[et]
theorem lL(kvs:Yg)(h:Hm):cb [.dat (.dict kvs)] h=.ok (.bool false) h:=by rfl
noncomputable def t8:MS:=lR (dH (bH (ag gM (aa (af 0) aj)))) Ii cC
def jx:Fn:=bj 1 1 t8
abbrev EI(d:PyData):Prop:=isName d=true
noncomputable abbrev IZ(p:PyData):Prop:=∃a b,EI a/\EI b/\p=.tuple [a,b]
theorem eZ(h:EI x):iX x=true:=by
 cases x with
 |str y=>rfl
 |_=>assumption
theorem Ja(h:EI x):Ok 6 0 x:=by
 obtain⟨y,rfl⟩:=cP (eZ h);simp only[EI,isName,Ux,UZ]at h;refine⟨?_,by simp[PyData.depth],h.1.2⟩;simp only[p8,PyData.strOk];rw[Array.all_eq_true_iff_forall_mem];intro x hx;have:=UM.mp h.2 x (by grind)
 grind[az]
theorem ly(h:IZ p):aE p=true/\au p=true/\iG p=true/\iJ p=true/\p.depth<=1/\Ok 14 1 p:=by obtain⟨a,b,ha,hb,rfl⟩:=h;have oa:=Ja ha;have ob:=Ja hb;have ok:Ok 14 1 _:=((gE.cons oa (gE.one ob)).mono (by omega) (Uy _)).tup;exact⟨by simp[aE,bx,nI (eZ ha),nI (eZ hb)],by simp[au,av,wD (eZ ha),wD (eZ hb)],rfl,rfl,ok.d,ok⟩
structure wR(U:PyData->Prop):Prop where
 c:∀a b,U a->U b->cm a b=true
 st:∀d,U d->aE d=true
 key:(∀d,U d->iG d=true)\/(∀d,U d->gR d=true)
 typ:(∀d,U d->uX d=true)\/(∀d,U d->iJ d=true)
 dep:∀d,U d->d.depth<=1
theorem t9:wR EI:=⟨λa b ha hb=>by
  obtain⟨x,rfl⟩:=cP (eZ ha);obtain⟨y,rfl⟩:=cP (eZ hb)
  rfl,λd m=>nI (eZ m),.inr λd m=>by obtain⟨x,rfl⟩:=cP (eZ m);rfl,.inl λd m=>by obtain⟨x,rfl⟩:=cP (eZ m);rfl,λd m=>by obtain⟨x,rfl⟩:=cP (eZ m);simp[PyData.depth]⟩
theorem nK:wR IZ:=⟨λp q hp hq=>by
  obtain⟨a,b,ha,hb,rfl⟩:=hp;obtain⟨c,d,hc,hd,rfl⟩:=hq
  exact wB (by simp[bU,eZ ha,eZ hb]) (by simp[bU,eZ hc,eZ hd]),λd m=>(ly m).1,.inl λd m=>(ly m).2.2.1,.inr λd m=>(ly m).2.2.2.1,λd m=>(ly m).2.2.2.2.1⟩
section
variable {U:PyData->Prop} {xs ys:Yj}
theorem wR.t(u:wR U)(h:U d):au d=true:=aU (u.st d h)
theorem wR.As(u:wR U)(h:∀d∈xs,U d):av xs=true:=je λd m=>u.t (h d m)
theorem wR.cmp(u:wR U)(h:∀d∈xs,U d):dJ xs=true:=Ge λa ha b hb=>u.c a b (h a ha) (h b hb)
structure Rw(U:PyData->Prop)(xs:Yj):Prop where
 sub:∀d∈xs,U d
 ris:xs.Pairwise λa b=>ltB a b=true
theorem Jb(t:au a=true)(h:ltB a b=true):a≠b:=λe=>by
 have:=DR t
 simp_all[ltB]
theorem rH(u:wR U)(r:Rw U xs):xs.Nodup:=VT (λ{a b} ha hb l=>Jb (u.t (r.sub a ha)) l) r.ris
theorem Mz(u:wR U)(r:Rw U xs):Up ltB xs:=VT (λ{a b} ha hb l=>uY (u.cmp r.sub) (u.As r.sub) ha hb l) r.ris
theorem EJ(r:Rw U xs):i7 xs=true:=zN r.ris
theorem MB(u:wR U)(r:Rw U xs)(q:Rw U ys)(h:∀d,d∈xs<->d∈ys):xs=ys:=
 rX (iz (u.cmp r.sub) (u.As r.sub)) ((List.perm_ext_iff_of_nodup (rH u r) (rH u q)).mpr h) (Mz u r) (Mz u q)
theorem EK(u:wR U)(h:∀d∈xs,U d)(nd:xs.Nodup):Rw U (dD ltB xs):=
 ⟨λd m=>h d ((ck _ _).mem_iff.mp m),C0 (u.cmp h) (u.As h) (λd m=>(ck _ _).mem_iff.mp m) (Gd (u.cmp h) (u.As h) nd)⟩
theorem Jc(u:wR U)(h:∀d∈xs,U d)(q:i7 xs=true):Rw U xs:=⟨h,C0 (u.cmp h) (u.As h) (λ_ m=>m) q⟩
theorem o8:∀{ds:Yj},(∀d∈ds,aE d=true)->bx ds=true
 | [],_=>by rfl
 |d::ds,h=>by simp[bx,h d _,o8 (ds:=ds) λe m=>h e (by simp[m])]
theorem wR.set(u:wR U)(h:∀d∈xs,U d)(l:xs.length<=120):setOk xs=true:=by
 have h1:(xs.all iG || xs.all gR)=true:=by
  rcases u.key with k|k
  ·simp_all
  simp_all
 have h2  := o8 λd m=>u.st d (h d m);have h3:PyData.depthAll xs<=8:=UI (ju λd m=>u.dep d (h d m)) (by decide)
 simp_all[setOk]
theorem wR.T3(u:wR U)(h:∀d∈xs,U d)(l:xs.length<64):f7 xs=true:=by
 have h1:(xs.all uX || xs.all iJ)=true:=by
  rcases u.typ with k|k
  ·simp_all
  simp_all
 have h3:PyData.depthAll xs<=20:=UI (ju λd m=>u.dep d (h d m)) (by decide)
 simp_all[f7,u.As,u.cmp]
def un(xs ys:Yj):Yj:=dD ltB (KR xs ys)
theorem MC(u:wR U)(r:∀d∈xs,U d)(q:∀d∈ys,U d):(∀d,d∈KR xs ys<->d∈xs\/d∈ys)/\(KR xs ys).Nodup/\(KR xs ys).length<=xs.length+ys.length:=by
 have hs:∀d∈xs++ys,aE d=true:=λd m=>by
  rcases UQ.mp m with z|z
  ·exact u.st d (r d z)
  ·exact u.st d (q d z)
 have hm:∀d,d∈KR xs ys<->d∈xs\/d∈ys:=λd=>by unfold KR;rw[j7 hs,UQ]
 have nd:(KR xs ys).Nodup:=ji hs;have:=yw nd λd m=>UQ.mpr ((hm d).mp m)
 simp_all
theorem Q0(u:wR U)(r:∀d∈xs,U d)(q:∀d∈ys,U d):Rw U (un xs ys)/\(∀d,d∈un xs ys<->d∈xs\/d∈ys)/\(un xs ys).length<=xs.length+ys.length:=by obtain⟨h1,h2,h3⟩:=MC u r q;refine⟨EK u (λd m=>((h1 d).mp m).elim (r d) (q d)) h2,λd=>(ck _ _).mem_iff.trans (h1 d),?_⟩;unfold un;rw[(ck _ _).length_eq];exact h3
theorem Gh(u:wR U)(r:∀d∈xs,U d)(q:∀d∈ys,U d)(l:xs.length+ys.length<64)(h:Hm):iM [.dat (.list (xs++ys))] h=.ok (.dat (.list (un xs ys))) h:=by obtain⟨h1,h2,h3⟩:=MC u r q;have s2  := u.set (λd m=>(UQ.mp m).elim (r d) (q d)) (by grind);have s3:f7 (iL _)=true:=u.T3 (xs:=KR xs ys) (λd m=>((h1 d).mp m).elim (r d) (q d)) (by omega);simp[iM,A5,listOf,s2,s3,un,KR]
end
structure Nr(ns:Yj):Prop extends Rw EI ns where
 le:ns.length<=12
structure Wb(k:Nat)(ns ss:Yj):Prop where
 nr:Nr ns
 sr:Rw IZ ss
 cl:∀a b,.tuple [a,b]∈ss->a∈ns/\b∈ns
 le:ss.length<=k
section
variable {k:Nat} {ns ss:Yj}
theorem Wb.sd(w:Wb k ns ss):bU ns iX=true:=cO.mpr λd m=>eZ (w.nr.sub d m)
theorem Wb.Ta(w:Wb k ns ss)(h:a∈ns):Ok 6 0 a:=Ja (w.nr.sub a h)
theorem Wb.Ri(w:Wb k ns ss):Ok 84 1 (.tuple ns):=by have:=w.nr.le;exact((gE.of λd m=>w.Ta m).mono (by omega) (Uy _)).tup
theorem Wb.Tb(w:Wb k ns ss)(hk:k<=600):gE 9000 1 ss:=by have:=w.le;exact(gE.of λd m=>(ly (w.sr.sub d m)).2.2.2.2.2).mono (by omega) (Uy _)
theorem Wb.names(w:Wb k ns ss):cq (.tuple ns)=true:=by have h1  := cO.mpr λd m=>w.nr.sub d m;simp[cq,w.nr.le,EJ w.nr.toRw,h1]
theorem Wb.get(w:Wb k ns ss){p:PyData}(h:p∈ss):∃a b,p=.tuple [a,b]/\a∈ns/\b∈ns:=by obtain⟨a,b,_,_,rfl⟩:=w.sr.sub p h;exact⟨a,b,rfl,w.cl a b h⟩
theorem Q3(h:Hm):ur (D.int 2) (D.dat (.int 2)) h=.ok (.bool false) h:=by rfl
theorem Gi(w:Wb k ns ss)(ha:a∈ns)(hb:b∈ns)(h:Hm):dA [.dat (.tuple [a,b]),.dat (.tuple ns)] h=.ok (.bool true) h:=by unfold dA mJ;simp[Q3,wC (w.Ta ha) w.sd,wC (w.Ta hb) w.sd,(rE w.sd).mpr ha,(rE w.sd).mpr hb]
theorem C3(w:Wb k ns ss)(hk:k<=600)(h:Hm):dG [.dat (.tuple ss),.dat (.tuple ns)] h=.ok (.bool true) h:=by
 unfold dG jF;have hl:=w.le
 have key:=fz (n:=1) (it:=aX (af 0)) (g:=aB 0) (e:=ag dA (aa (af 0) (aa (af 2) aj))) (ρ:=[some (.dat (.tuple ss)),some (.dat (.tuple ns))]) (h:=h) (h1:=h) (ds:=ss) (by simp) (by omega) (λx=>.bool ((λ_=>true) x)) (λx hx=>⟨_,rfl,by
  obtain⟨a,b,rfl,ha,hb⟩:=w.get hx
  simp[Gi w ha hb]⟩)
 have al:bU ss (λ_=>true)=true:=cO.mpr λ_ _=>rfl;have cp:JJ ss:=JJ.of (w.Tb hk) (by decide) λd hd e he=>by obtain⟨a,b,rfl,ha,hb⟩:=w.get hd;obtain⟨a',b',rfl,ha',hb'⟩:=w.get he;have:=cO.mp w.sd;simp only[cm];exact wB (by simp[bU,this a ha,this b hb]) (by simp[bU,this a' ha',this b' hb'])
 have ir:=lg cp (by omega) h;rw[EJ w.sr]at ir;have bm:=fV ss (λ_=>true) h
 simp_all
theorem Jd(w:Wb k ns ss)(hk:k<=600)(h:Hm):gM [.dat (.tuple [.tuple ns,.tuple ss])] h=.ok (.bool true) h:=by have e1:=lh w.Ri (by decide) h;rw[w.names]at e1;unfold gM vA;simp[Q3,e1,C3 w hk h]
theorem OQ(w:Wb k ns ss)(hk:k<=600)(h:Hm):jx [.dat (.tuple [.tuple ns,.tuple ss])] h=.ok D.none h:=by unfold jx t8;simp[Jd w hk h]
end
noncomputable def OR:PyData->PyData
 |.tuple [a,_]=>a
 |_=>.none
noncomputable def OS:PyData->PyData
 |.tuple [_,b]=>b
 |_=>.none
theorem p9(n:Nat)(ds:Yj):MO.below n (.lst (ds.map D.dat))=true:=by simp[MO.below,D.below]
theorem C4(hg:g x (List.replicate n none++ρ) h=.ok ρ1 h1)(ht:t ρ1 h1=.ok true h2)(he:e ρ1 h2=.ok y h3)(hr:eQ n ρ g t e xs h3=.ok ys h4):eQ n ρ g t e (x::xs) h=.ok (y::ys) h4:=by
 simp_all[eQ]
theorem wH:∀{ls:Yj} {ys:List D},PySem.Paired (λx y=>∃d,x=.dat d/\y=.dat (.tuple [one,d])) (ls.map D.dat) ys->ys=(ls.map λy=>PyData.tuple [one,y]).map D.dat
 | [],ys,h=>by cases h;rfl
 |l::ls,ys,h=>by
  cases h with
  |cons a b=>obtain⟨d,e,rfl⟩:=a;cases e;rw[wH b];rfl
structure Pw(pre ns acc:Yj):Prop where
 ris:acc.Pairwise λa b=>ltB a b=true
 mem:∀p∈acc,∃a b,p=.tuple [a,b]/\a∈pre/\b∈ns
 len:acc.length<=pre.length*ns.length
theorem Je(tx:au x=true)(ta:au a=true)(tb:au b=true)(h:ltB a b=true):ltB (.tuple [x,a]) (.tuple [x,b])=true:=by
 have n:=aW ta tb (Jb ta h)
 simp_all[ltB,bY,dy,bf]
theorem EL(ta:au a=true)(tb:au b=true)(h:ltB a b=true):ltB (.tuple [a,x]) (.tuple [b,y])=true:=by
 have n:=aW ta tb (Jb ta h)
 simp_all[ltB,bY,dy]
theorem Pw.step{pre ns acc ls xs:Yj}(r:Rw EI ns)(e:ns=pre++one::xs)(P:Pw pre ns acc)(sl:ls.Sublist ns):Pw (pre++[one]) ns (acc++ls.map λy=>.tuple [one,y]):=by
 have tr:∀d∈ns,au d=true:=λd m=>t9.t (r.sub d m);have ho:one∈ns:=by rw[e];simp
 have hp:∀a∈pre,a∈ns:=λa m=>by rw[e];simp[m]
 refine⟨VY.mpr ⟨P.ris,WX.mpr (VT (λ{a b} ha hb l=>Je (tr one ho) (tr a (sl.subset ha)) (tr b (sl.subset hb)) l) (r.ris.sublist sl)),λp hp' q hq=>?_⟩,λp m=>?_,?_⟩
 ·obtain⟨a,b,rfl,ha,hb⟩:=P.mem p hp';obtain⟨y,hy,rfl⟩:=UU.mp hq;have rr:=r.ris;rw[e]at rr;exact EL (tr a (hp a ha)) (tr one ho) ((VY.mp rr).2.2 a ha one (by simp))
 ·rcases UQ.mp m with z|z
  ·obtain⟨a,b,rfl,ha,hb⟩:=P.mem p z;exact⟨a,b,rfl,by simp[ha],hb⟩
  ·obtain⟨y,hy,rfl⟩:=UU.mp z;exact⟨one,y,rfl,by simp,sl.subset hy⟩
 ·have l1:=P.len;have l2:=sl.length_le;simp only[UP,US,UR,Vq,Nat.add_mul];omega
abbrev Rel:=PyData->PyData->Bool
noncomputable def rows(ns:Yj)(r:Rel):Yj:=ns.flatMap λa=>(ns.filter (r a)).map λb=>.tuple [a,b]
noncomputable abbrev cQ(ns:Yj)(r:Rel):PyData:=.tuple [.tuple ns,.tuple (rows ns r)]
section
variable {ns:Yj} {r q:Rel} {a b:PyData}
theorem gn:p∈rows ns r<->∃a b,p=.tuple [a,b]/\a∈ns/\b∈ns/\r a b=true:=by
 unfold rows;rw[List.mem_flatMap];constructor
 ·rintro⟨a,ha,m⟩;obtain⟨b,hb,rfl⟩:=UU.mp m;obtain⟨h1,h2⟩:=V0.mp hb;exact⟨a,b,rfl,ha,h1,h2⟩
 simp_all
theorem ku:.tuple [a,b]∈rows ns r<->a∈ns/\b∈ns/\r a b=true:=by
 rw[gn];constructor
 ·simp_all
 ·exact λh=>⟨a,b,rfl,h⟩
theorem fW(R:Nr ns)(h:a∈ns):au a=true:=t9.t (R.sub a h)
theorem eL(R:Nr ns):Rw IZ (rows ns r):=by
 refine⟨λp m=>?_,?_⟩
 ·obtain⟨a,b,rfl,ha,hb,_⟩:=gn.mp m;exact⟨a,b,R.sub a ha,R.sub b hb,rfl⟩
 ·refine List.pairwise_flatMap.mpr ⟨λa ha=>WX.mpr ?_,?_⟩
  ·exact VT (λ{x y} hx hy l=>Je (fW R ha) (fW R ((V0.mp hx).1)) (fW R ((V0.mp hy).1)) l) (R.ris.filter _)
  ·refine VT (λ{x y} hx hy l p hp q hq=>?_) R.ris;obtain⟨b,_,rfl⟩:=UU.mp hp;obtain⟨c,_,rfl⟩:=UU.mp hq;exact EL (fW R hx) (fW R hy) l
theorem LF{xs:Yj}{f:PyData->Yj}(h:∀a,(f a).length<=n):(xs.flatMap f).length<=xs.length*n:=by
 induction xs with
 |nil=>simp
 |cons x xs ih=>
  grind[List.flatMap_cons,List.length_append,List.length_cons,Nat.add_mul]
theorem rJ:(rows ns r).length<=ns.length*ns.length:=LF λa=>by rw[US];exact List.length_filter_le _ _
theorem zS(R:Nr ns)(hk:ns.length*ns.length<=k):Wb k ns (rows ns r):=
 ⟨R,eL R,λa b m=>⟨(ku.mp m).1,(ku.mp m).2.1⟩,UI rJ hk⟩
theorem C5(h:∀a∈ns,∀b∈ns,r a b=q a b):rows ns r=rows ns q:=by
 have k:∀xs:Yj,(∀a∈xs,a∈ns)->xs.flatMap (λa=>(ns.filter (r a)).map λb=>PyData.tuple [a,b])=xs.flatMap (λa=>(ns.filter (q a)).map λb=>PyData.tuple [a,b]):=by
  intro xs
  induction xs with
  |nil=>grind
  |cons x xs ih=>intro hs;rw[Ya,Ya,ih λa m=>hs a (by simp[m]),List.filter_congr λb hb=>h x (hs x (by simp)) b hb]
 exact k ns λ_ m=>m
noncomputable def EM(ss:Yj):Rel:=λa b=>decide (.tuple [a,b]∈ss)
theorem zT(w:Wb k ns ss):ss=rows ns (EM ss):=by
 refine MB nK w.sr (eL w.nr) λp=>?_;rw[gn];constructor
 ·intro m;obtain⟨a,b,rfl,ha,hb⟩:=w.get m;exact⟨a,b,rfl,ha,hb,Vc m⟩
 ·rintro⟨a,b,rfl,_,_,h⟩;exact Wo h
theorem Jf(td:au d=true)(te:au e=true)(l:min d.depth e.depth<=40)(h:Hm):oEq (.dat d) (.dat e) h=.ok (.bool (decide (d=e))) h:=by
 have q:PyData.eqv d e=decide (d=e):=by
  by_cases z:d=e
  ·subst z;rw[Vc rfl];exact bf td
  ·rw[U0 z];exact aW td te z
 simp_all[oEq,eqQ,noDict,dZ]
theorem Jg(td:au d=true)(te:au e=true)(l:d.depth<=40):FC d e=some (decide (d=e)):=by
 have q:PyData.eqv d e=decide (d=e):=by
  by_cases z:d=e
  ·subst z;rw[Vc rfl];exact bf td
  ·rw[U0 z];exact aW td te z
 have l':decide (min d.depth e.depth<=40)=true:=Vc (by omega)
 have:FC d e=eqQ d e:=by
  unfold FC;split
  ·trivial
  ·trivial
  ·rfl
 simp_all[this,eqQ,noDict,dZ,td,te,l',q,Bool.not_false,Bool.and_self]
theorem BI(td:au d=true):∀{ds:Yj},av ds=true->(∀e∈ds,e.depth<=40)->Hq d ds=some (decide (d∈ds))
 | [],_,_=>by rfl
 |e::ds,t,l=>by
  simp[av]at t;have ih:=BI td t.2 λx m=>l x (UD _ m);unfold Hq;rw[Jg t.1 td (l e (by simp)),ih];by_cases z:e=d
  ·grind
  ·have z':¬ d=e:=λy=>z y.symm
   simp_all
theorem zU(td:au d=true)(t:av ds=true)(l:∀e∈ds,e.depth<=40)(h:Hm):findIn (.dat d) (.dat (.tuple ds)) h=some (decide (d∈ds))/\findIn (.dat d) (.dat (.list ds)) h=some (decide (d∈ds)):=by simp[findIn,iH,kE,BI td t l]
theorem LG(td:au d=true)(t:av ds=true)(l:∀e∈ds,e.depth<=40)(h:Hm):sZ (.dat d) (.dat (.tuple ds)) h=.ok (.bool (decide (d∈ds))) h:=by simp[sZ,(zU td t l h).1]
theorem OT(u:wR U)(R:Rw U xs):∀e∈xs,e.depth<=40:=λe m=>UI (u.dep e (R.sub e m)) (by decide)
theorem MD(u:wR U)(R:Rw U xs):av xs=true:=u.As R.sub
theorem EN(R:Nr ns)(ha:a∈ns)(hb:b∈ns):au (.tuple [a,b])=true:=by simp[au,av,fW R ha,fW R hb]
theorem zV(R:Nr ns)(ha:a∈ns)(hb:b∈ns)(h:Hm):sZ (.dat (.tuple [a,b])) (.dat (.tuple (rows ns r))) h=.ok (.bool (r a b)) h:=by
 have:decide (.tuple [a,b]∈rows ns r)=r a b:=by rw[VC,X3,ku];simp[ha,hb]
 rw[LG (EN R ha hb) (MD nK (eL R)) (OT nK (eL R)),this]
end
noncomputable def zW:MS:=lR (aR (aq qt (af 0) (Sm uy))) Ii cC
def rK:Fn:=bj 1 1 zW
noncomputable def wI:MS:=bg (jd (ag jx (aa (af 0) aj)))
    (bg (jd (ag rK (aa (af 1) aj)))
    (bg (cR 2 (ye sk (af 1)))
    (bg (pF (gQ (bF (aB 3) (bF (aB 4) gP))) (af 0))
    (bg (cR 5 (sj true 1 (aX (af 4)) (aB 0) dW (af 0) (ah (.bool true))))
    (bg (cR 6 (cD 2 (aX (af 4)) (gQ (bF (aB 0) (bF (aB 1) gP))) (oM (aR (aq oEq (af 0) (af 1))) (dH (bH (mK 4 [("idle_for_grounded",bE),("idle_for_standing",br),("idle_for_stable",bO),("idle_for_whole",bX)] (aa (af 7) (aa (af 0) (aa (af 1) aj))))))) (cJ (aa (af 0) (aa (af 1) aj)))))
    (bN (cJ (aa (af 3) (aa (ag iI (aa (af 6) aj)) aj)))))))))
def Jh:Fn:=bj 2 7 wI
inductive Kd where
 |stable
 |standing
 |preferred
 |whole
 |grounded
noncomputable def Kd.nm:Kd->Str
 |.stable => "stable"
 |.standing => "standing"
 |.preferred => "preferred"
 |.whole => "whole"
 |.grounded => "grounded"
noncomputable def Kd.I:Kd->Bool->Bool->Bool->Bool
 |.stable,x,_,_=>x
 |.standing,x,y,z=>x&&(z || y)
 |.preferred,x,y,z=>x&&(z || y)
 |.whole,x,y,_=>x&&y
 |.grounded,x,y,z=>y&&(x || z)
noncomputable def uj(kd:Kd)(r:Rel):Rel:=λa b=>kd.I (r a a) (r b b) (r b a)
noncomputable def qa(kd:Kd)(r:Rel):Rel:=λa b=>r a b&&(decide (a=b) || !uj kd r a b)
theorem Kd.back{kd:Kd}(h:kd.I x y z≠kd.I x y z'):kd.I y x w=false:=by cases kd<;>cases x<;>cases y<;>simp_all[Kd.I]
section
variable {ns:Yj} {r q:Rel} {a b:PyData} {kd:Kd}
theorem Ji(kd:Kd)(h:Hm):rK [.dat (.str kd.nm)] h=.ok D.none h:=by cases kd<;>kernel_rfl
noncomputable def Gj(ns:Yj)(r:Rel):D:=.jX true ((rows ns r).map λp=>(p,.bool true))
theorem yD(t:av ds=true)(td:au d=true):qr d (ds.map λp=>(p,v))=decide (d∈ds):=by
 unfold qr;rw[List.any_map];rw[VC,X3,Yc];constructor
 ·rintro⟨x,hx,e⟩;have:=(mj (aY t hx) td).mp e;subst this;exact hx
 ·exact λm=>⟨d,m,bf td⟩
theorem Jj(h:IZ p):keyOk true p=true:=by obtain⟨h1,h2,h3,h4,h5,_⟩:=ly h;have:p.depth<=8:=UI h5 (by decide);simp[keyOk,h1,h3,this]
theorem Q4(Rn:Nr ns)(ha:a∈ns)(hb:b∈ns):IZ (.tuple [a,b]):=⟨a,b,Rn.sub a ha,Rn.sub b hb,rfl⟩
theorem C6(Rn:Nr ns)(ha:a∈ns)(hb:b∈ns)(h:Hm):sZ (.dat (.tuple [a,b])) (Gj ns r) h=.ok (.bool (r a b)) h:=by
 have e:decide (.tuple [a,b]∈rows ns r)=r a b:=by rw[VC,X3,ku];simp[ha,hb]
 simp only[sZ,findIn,iH,Gj,y7,Jj (Q4 Rn ha hb),Vu,yD (MD nK (eL Rn)) (EN Rn ha hb),e]
theorem yE:∀{ss acc:Yj},(∀d∈acc++ss,IZ d)->(acc++ss).Nodup->acc.length+ss.length<1000->fK true 1 ρ (aB 0) dW (af 0) (ah (.bool true)) (ss.map D.dat) (acc.map λp=>(p,.bool true)) h=.ok ((acc++ss).map λp=>(p,.bool true)) h
 | [],acc,_,_,_=>by simp[fK]
 |d::ss,acc,hs,nd,hl=>by
  simp only[UR]at hl;have ih:=yE (ρ:=ρ) (h:=h) (ss:=ss) (acc:=acc++[d]) (by simpa using hs) (by simpa using nd) (by simp;omega);have hd:IZ d:=hs d (by simp);have ta:av acc=true:=je λx m=>nK.t (hs x (by simp[m]));have kn:qr d (acc.map λp=>(p,PyData.bool true))=false:=by rw[yD ta (nK.t hd)];refine U0 λm=>?_;exact(Xv.mp nd).2.2 d m d (by simp) rfl
  have lt:decide ((acc.map λp=>(p,PyData.bool true)).length<16777216)=true:=Vc (by rw[US];omega);have dp:dput (acc.map λp=>(p,PyData.bool true)) d (.bool true)=(acc++[d]).map λp=>(p,.bool true):=by simp[dput,kn]
  simp only[U3,fK,aB,R.eO,R.aO,dW,Vu,rep1,WC,V2,We,af,Vx,ah,Jj hd,Bool.true_or,Bool.true_and,lt,dp];rw[ih];simp
theorem uF(hn:ns.length<=12):(rows ns r).length<=144:=UI rJ (W4 hn hn)
theorem OU(Rn:Nr ns)(e:m ρ h=.ok (.dat (.tuple (rows ns r))) h):sj true 1 (aX m) (aB 0) dW (af 0) (ah (.bool true)) ρ h=.ok (Gj ns r) h:=by
 have l:=uF (r:=r) (Rn.le);have:=yE (ρ:=ρ) (h:=h) (ss:=rows ns r) (acc:=[]) (by simpa using(eL Rn).sub) (by simpa using rH nK (eL Rn)) (by grind)
 simp_all[sj,Gj]
theorem LH(Rn:Nr ns)(ha:a∈ns)(hb:b∈ns)(h:Hm) :
  bO [Gj ns r,.dat a,.dat b] h=.ok (.bool (uj .stable r a b)) h/\br [Gj ns r,.dat a,.dat b] h=.ok (.bool (uj .standing r a b)) h /\
  bX [Gj ns r,.dat a,.dat b] h=.ok (.bool (uj .whole r a b)) h/\bE [Gj ns r,.dat a,.dat b] h=.ok (.bool (uj .grounded r a b)) h:=by
 have e1:=C6 (r:=r) Rn ha ha h;have e2:=C6 (r:=r) Rn hb hb h;have e3:=C6 (r:=r) Rn hb ha h;refine⟨?_,?_,?_,?_⟩
 ·simp[bO,jh,e1,uj,Kd.I]
 ·cases x1:r a a<;>cases x2:r b b<;>cases x3:r b a<;>rw[x1]at e1<;>rw[x2]at e2<;>rw[x3]at e3<;>simp[br,hE,e1,e2,e3,uj,Kd.I,x1,x2,x3]
 ·cases x1:r a a<;>cases x2:r b b<;>rw[x1]at e1<;>rw[x2]at e2<;>simp[bX,j6,e1,e2,uj,Kd.I,x1,x2]
 ·cases x1:r a a<;>cases x2:r b b<;>cases x3:r b a<;>rw[x1]at e1<;>rw[x2]at e2<;>rw[x3]at e3<;>simp[bE,hU,e1,e2,e3,uj,Kd.I,x1,x2,x3]
noncomputable def Kd.fn:Kd->Str
 |.stable => "idle_for_stable"
 |.standing => "idle_for_standing"
 |.preferred => "idle_for_standing"
 |.whole => "idle_for_whole"
 |.grounded => "idle_for_grounded"
theorem LJ(kd:Kd)(e:m ρ h=.ok (.dat (.str kd.nm)) h):ye sk m ρ h=.ok (.fn kd.fn) h:=by unfold ye;rw[e];cases kd<;>kernel_rfl
noncomputable abbrev wJ:List (Str×Fn):=[("idle_for_grounded",bE),("idle_for_standing",br),("idle_for_stable",bO),("idle_for_whole",bX)]
theorem Jk(Rn:Nr ns)(ha:a∈ns)(hb:b∈ns)(ei:ρ[i]?=some (some (.fn kd.fn)))(em:ma ρ h=.ok [Gj ns r,.dat a,.dat b] h):mK i wJ ma ρ h=.ok (.bool (uj kd r a b)) h:=by
 obtain⟨k1,k2,k3,k4⟩:=LH (r:=r) Rn ha hb h;unfold mK;rw[ei];cases kd
 ·have:wJ.lookup (Kd.fn .stable)=some bO:=by rfl
  simp_all
 ·have:wJ.lookup (Kd.fn .standing)=some br:=by rfl
  simp_all
 ·have:wJ.lookup (Kd.fn .preferred)=some br:=by kernel_rfl
  simp only[this];rw[bS em,k2];rfl
 ·have:wJ.lookup (Kd.fn .whole)=some bX:=by kernel_rfl
  simp only[this];rw[bS em,k3]
 ·have:wJ.lookup (Kd.fn .grounded)=some bE:=by kernel_rfl
  simp only[this];rw[bS em,k4]
end
section
variable {ns:Yj} {r q:Rel} {a b:PyData} {kd:Kd}
theorem ua(Rn:Nr ns)(c:Rel)(hf:∀a∈ns,∀b∈ns,f (.tuple [a,b])=c a b):(rows ns r).filter f=rows ns λa b=>r a b&&c a b:=by
 have s:Rw IZ ((rows ns r).filter f):=⟨λd m=>(eL Rn).sub d (V0.mp m).1,(eL Rn).ris.filter _⟩;refine MB nK s (eL Rn) λp=>?_;rw[V0,gn,gn];constructor
 ·rintro⟨⟨a,b,rfl,ha,hb,h⟩,k⟩;exact⟨a,b,rfl,ha,hb,by grind⟩
 ·rintro⟨a,b,rfl,ha,hb,h⟩;simp at h;exact⟨⟨a,b,rfl,ha,hb,h.1⟩,by grind⟩
theorem EO(ha:au a=true)(hb:au b=true)(la:a.depth<=40)(h:Hm):oEq (.dat a) (.dat b) h=.ok (.bool (decide (a=b))) h:=Jf ha hb (by omega) h
theorem Jl(Rn:Nr ns)(ha:a∈ns):a.depth<=40:=UI (t9.dep a (Rn.sub a ha)) (by decide)
theorem BJ(Rn:Nr ns)(h:Hm):jx [.dat (cQ ns r)] h=.ok D.none h:=OQ (zS Rn (Uy _)) (by have:=Rn.le;exact UI (W4 this this) (by decide)) h
noncomputable def C7(kd:Kd)(r:Rel)(p:PyData):Bool:=decide (OR p=OS p) || !uj kd r (OR p) (OS p)
theorem Gk(Rn:Nr ns)(kd:Kd)(h:Hm):Jh [.dat (cQ ns r),.dat (.str kd.nm)] h=.ok (.dat (cQ ns (qa kd r))) h:=by
 have l:=uF (r:=r) (Rn.le)
 have key:=oh (n:=2) (it:=aX (af 4)) (g:=gQ (bF (aB 0) (bF (aB 1) gP))) (t:=oM (aR (aq oEq (af 0) (af 1))) (dH (bH (mK 4 wJ (aa (af 7) (aa (af 0) (aa (af 1) aj))))))) (e:=cJ (aa (af 0) (aa (af 1) aj)))
  (ρ:=[some (.dat (cQ ns r)),some (.dat (.str kd.nm)),some (.fn kd.fn),some (.dat (.tuple ns)),some (.dat (.tuple (rows ns r))),some (Gj ns r),none]) (h:=h) (h1:=h) (ds:=rows ns r) (lu (by rfl)) (by omega) (C7 kd r) (λp=>p) (λp hp=>by
   obtain⟨a,b,rfl,ha,hb,hr⟩:=gn.mp hp;refine⟨[some (.dat a),some (.dat b),some (.dat (cQ ns r)),some (.dat (.str kd.nm)),some (.fn kd.fn),some (.dat (.tuple ns)),some (.dat (.tuple (rows ns r))),some (Gj ns r),none],rfl,?_,λ_=>by simp⟩;have e1:aR (aq oEq (af 0) (af 1)) [some (.dat a),some (.dat b),some (.dat (cQ ns r)),some (.dat (.str kd.nm)),some (.fn kd.fn),some (.dat (.tuple ns)),some (.dat (.tuple (rows ns r))),some (Gj ns r),none] h=.ok (decide (a=b)) h:=cu (aG rfl rfl (EO (fW Rn ha) (fW Rn hb) (Jl Rn ha) h));have e2:=Jk (r:=r) (kd:=kd) Rn ha hb (i:=4) (ma:=aa (af 7) (aa (af 0) (aa (af 1) aj))) (ρ:=[some (.dat a),some (.dat b),some (.dat (cQ ns r)),some (.dat (.str kd.nm)),some (.fn kd.fn),some (.dat (.tuple ns)),some (.dat (.tuple (rows ns r))),some (Gj ns r),none]) (h:=h) rfl rfl;have e3:=lq (yC e2 (c:=uj kd r a b) rfl);unfold oM;rw[e1];simp only[R.aO,C7,OR,OS];by_cases z:a=b
   ·simp[z]
   ·simp only[z,decide_false,UK,Vr,Bool.false_or]
    exact e3)
 have fl:(rows ns r).filter (C7 kd r)=rows ns (qa kd r):=ua Rn (λa b=>decide (a=b) || !uj kd r a b) λa _ b _=>rfl;rw[List.map_id',fl]at key;have l2:=uF (r:=qa kd r) (Rn.le);have t1:=BJ (r:=r) Rn h;have t2:=Ji kd h;have t4:ye sk (af 1) [some (.dat (cQ ns r)),some (.dat (.str kd.nm)),none,none,none,none,none] h=.ok (.fn kd.fn) h:=LJ kd rfl;have t5:=OU (r:=r) Rn (ρ:=[some (.dat (cQ ns r)),some (.dat (.str kd.nm)),some (.fn kd.fn),some (.dat (.tuple ns)),some (.dat (.tuple (rows ns r))),none,none]) (h:=h) (m:=af 4) rfl;exact ic rfl (aQ (iw (aF (xs:=[.dat (cQ ns r)]) rfl t1)) (aQ (iw (aF (xs:=[.dat (.str kd.nm)]) rfl t2)) (aQ (du t4) (aQ (C1 (x:=.dat (cQ ns r)) rfl rfl) (aQ (du t5) (aQ (du key) (fo (iy (a:=.tuple ns) rfl (aF (xs:=[.dat (.list (rows ns (qa kd r)))]) rfl rfl)))))))))
end
structure Px(i:Nat)(h:Hm):Prop where
 box:∃n f:Int,h[i]?=some (.lst [.int n,.int f])
 wf:Wf h
noncomputable def Ps(i:Nat)(h h':Hm):Prop:=∃n f:Int,h'=h.set i (.lst [.int n,.int f])
theorem Px.lt(b:Px i h):i<h.length:=by obtain⟨⟨n,f,e⟩,_⟩:=b;exact(UB.mp e).1
theorem Px.refl(b:Px i h):Ps i h h:=by obtain⟨⟨n,f,e⟩,_⟩:=b;refine⟨n,f,?_⟩;obtain⟨l,e⟩:=UB.mp e;rw[<- e];exact(List.set_getElem_self l).symm
theorem Ps.trans(a:Ps i h h')(b:Ps i h' h''):Ps i h h'':=by obtain⟨n,f,rfl⟩:=a;obtain⟨k,g,rfl⟩:=b;exact⟨k,g,by simp⟩
theorem Ps.px(s:Ps i h h')(b:Px i h):Px i h':=by obtain⟨n,f,rfl⟩:=s;exact⟨⟨n,f,by rw[VI b.lt]⟩,b.wf.set rfl⟩
theorem Ps.len(s:Ps i h h'):h'.length=h.length:=by obtain⟨n,f,rfl⟩:=s;simp
theorem Px.push(b:Px i h)(q:MO.below (h.length+1) o=true):Px i (h++[o]):=by obtain⟨n,f,e⟩:=b.box;exact⟨⟨n,f,by rw[UX b.lt];exact e⟩,b.wf.push q⟩
theorem Ps.pop(b:i<h.length)(s:Ps i (h++[o]) h'):∃h1,h'=h1++[o]/\Ps i h h1:=by obtain⟨n,f,rfl⟩:=s;exact⟨_,by grind,n,f,rfl⟩
noncomputable def Dp{α:Type}(i:Nat)(h:Hm)(r:R α)(P:α->Prop):Prop:=∃a h',r=.ok a h'/\Ps i h h'/\P a
section
variable {α β:Type} {i:Nat} {h:Hm} {r:R α} {f:α->Hm->R β} {P P':α->Prop} {Q:β->Prop}
theorem Dp.ok(b:Px i h)(p:P a):Dp i h (.ok a h) P:=⟨a,h,rfl,b.refl,p⟩
end
theorem BK(b:Px i h)(e:f xs h=.ok (.dat x) (h1++t))(s:Ps i h h1):fG f xs h=.ok (.dat x) h1:=by
 have hl:=s.len;have w:=(s.px b).wf;unfold fG;rw[e];have:(h1.all (MO.below h.length))=true:=by rw[<- hl];exact UM.mpr λo m=>w o m
 simp[D.below,this,hl]
theorem wK(h0:0<=j)(hj:j<1000000000000)(h:Hm):pG (.int i) (.int j) h=.ok (.int (i*j)) h:=by
 have:DM i j=true:=by
  grind[DM]
 simp[pG,this]
theorem rL(h0:0<j)(h:Hm):oMod (.int i) (.int j) h=.ok (.int (i % j)) h:=by simp[oMod,h0]
theorem Jm(h0:0<j)(h1:j<1073741824)(h:Hm):xX (.int i) (.int j) h=.ok (.int (i / j)) h:=by simp[xX,h0,h1]
theorem wL(h:Hm):dI (.int i) (.int j) h=.ok (.int (i+j)) h:=rfl
theorem zX(h:Hm):oEq (.int i) (.int j) h=.ok (.bool (decide (i=j))) h:=by rfl
theorem gF(b:Px i h)(h0:0<c)(h1:c<1073741824):Dp i h (aK [.ref i,.int c] h) λd=>∃k:Nat,d=.int k/\(k:Int)<c:=by
 obtain⟨⟨n,f,e⟩,_⟩:=b;have hl:=(UB.mp e).1;have i0:∀a b c d:Option D,aq fb (af 0) (ah (.int 0)) [some (.ref i),a,b,c,d] h=.ok (.int n) h:=λa b c d=>by simp[fb,iH,y8,e,lV,wX]
 have i1:∀a b c d:Option D,aq fb (af 0) (ah (.int 1)) [some (.ref i),a,b,c,d] h=.ok (.int f) h:=λa b c d=>by simp[fb,iH,y8,e,lV,wX]
 have st:∀(m:Int) (a b c d:Option D),Ai (af 0) (ah (.int 0)) (.int m) [some (.ref i),a,b,c,d] h=.ok [some (.ref i),a,b,c,d] (h.set i (.lst [.int m,.int f])):=λm a b c d=>by simp[Ai,y9,e,DN,wX]
 by_cases hf:f=1
 ·refine⟨.int (n % c),h.set i (.lst [.int (n / c),.int f]),?_,⟨_,_,rfl⟩,(n % c).toNat,?_,?_⟩
  ·have t1:aR (aq oEq (aq fb (af 0) (ah (.int 1))) (ah (.int 1))) [some (.ref i),some (.int c),none,none,none] h=.ok true h:=cu (aG (i1 _ _ _ _) rfl (by rw[zX];simp[hf]));have t2:ag qv (aa (aq fb (af 0) (ah (.int 0))) (aa (af 1) aj)) [some (.ref i),some (.int c),none,none,none] h=.ok (.dat (.tuple [.int (n / c),.int (n % c)])) h:=(bS (ax (i0 _ _ _ _) (ax rfl rfl))).trans (by simp[qv,h0,h1]);unfold aK mL bj;simp only[UR,Vq,Vu,U3,Wt,WC,V2,show 5-2=3 from rfl,rep3];unfold bg;rw[Mx t1];simp only[pF,t2,R.aO,gQ,U3,Wt,bF,aB,gP,WK,We];simp only[af,VZ,Vx,R.aO,st];rfl
  ·rw[Xb (Xp _ (by omega))]
  ·rw[Xb (Xp _ (by omega))];exact X4 _ h0
 ·generalize hA:(n % 2147483647+40503)*69621 % 2147483629=A;generalize hB:(A*A+7817) % 2147483587=B;generalize hC:(B*48271+11) % 2147483629=C;have a0:0<=A:=by rw[<- hA];exact Xp _ (by decide)
  have a1:A<2147483629:=by rw[<- hA];exact X4 _ (by decide)
  refine⟨.int (C / 32 % c),h.set i (.lst [.int C,.int f]),?_,⟨_,_,rfl⟩,(C / 32 % c).toNat,?_,?_⟩
  ·have t1:aR (aq oEq (aq fb (af 0) (ah (.int 1))) (ah (.int 1))) [some (.ref i),some (.int c),none,none,none] h=.ok false h:=cu (aG (i1 _ _ _ _) rfl (by rw[zX];simp[hf]));have t2:cR 4 (aq oMod (aq pG (aq dI (aq oMod (aq fb (af 0) (ah (.int 0))) (ah (.int 2147483647))) (ah (.int 40503))) (ah (.int 69621))) (ah (.int 2147483629))) [some (.ref i),some (.int c),none,none,none] h=.ok (.nx [some (.ref i),some (.int c),none,none,some (.int A)]) h:=by rw[<- hA];exact(uE (aG (aG (aG (aG (i0 _ _ _ _) rfl (rL (by decide) h)) rfl (wL h)) rfl (wK (by decide) (by decide) h)) rfl (rL (by decide) h))).trans rfl
   have t3:cR 4 (aq oMod (aq dI (aq pG (af 4) (af 4)) (ah (.int 7817))) (ah (.int 2147483587))) [some (.ref i),some (.int c),none,none,some (.int A)] h=.ok (.nx [some (.ref i),some (.int c),none,none,some (.int B)]) h:=by rw[<- hB];exact(uE (aG (aG (aG rfl rfl (wK a0 (by omega) h)) rfl (wL h)) rfl (rL (by decide) h))).trans rfl
   have t4:pF (Ai (af 0) (ah (.int 0))) (aq oMod (aq dI (aq pG (af 4) (ah (.int 48271))) (ah (.int 11))) (ah (.int 2147483629))) [some (.ref i),some (.int c),none,none,some (.int B)] h=.ok (.nx [some (.ref i),some (.int c),none,none,some (.int B)]) (h.set i (.lst [.int C,.int f])):=by
    have q:aq oMod (aq dI (aq pG (af 4) (ah (.int 48271))) (ah (.int 11))) (ah (.int 2147483629)) [some (.ref i),some (.int c),none,none,some (.int B)] h=.ok (.int C) h:=by rw[<- hC];exact aG (aG (aG rfl rfl (wK (by decide) (by decide) h)) rfl (wL h)) rfl (rL (by decide) h)
    simp only[pF,q,R.aO,st]
   have g:(h.set i (.lst [.int C,.int f]))[i]?=some (.lst [.int C,.int f]):=by rw[VI hl]
   have t5:aq oMod (aq xX (aq fb (af 0) (ah (.int 0))) (ah (.int 32))) (af 1) [some (.ref i),some (.int c),none,none,some (.int B)] (h.set i (.lst [.int C,.int f]))=.ok (.int (C / 32 % c)) (h.set i (.lst [.int C,.int f])):=by
    have q:aq fb (af 0) (ah (.int 0)) [some (.ref i),some (.int c),none,none,some (.int B)] (h.set i (.lst [.int C,.int f]))=.ok (.int C) (h.set i (.lst [.int C,.int f])):=by simp only[aq,af,ah,R.aO,Vx,fb,iH,y8,g,lV,wX];rfl
    exact aG (aG q rfl (Jm (by decide) (by decide) _)) rfl (rL h0 _)
   unfold aK mL bj;simp only[UR,Vq,Vu,U3,Wt,WC,V2,show 5-2=3 from rfl,rep3];rw[ou ((My t1).trans rfl),ou t2,ou t3,ou t4,zO t5];rfl
  ·rw[Xb (Xp _ (by omega))]
  ·rw[Xb (Xp _ (by omega))];exact X4 _ h0
theorem OV(z:Int)(w:Wf h):∃n f:Int,iN [.int z] h=.ok (.ref h.length) (h++[.lst [.int n,.int f]])/\Px h.length (h++[.lst [.int n,.int f]]):=by
 obtain⟨n,hn⟩:∃n:Int,FE [.int z,.int (0-z)] h=.ok (.int n) h:=by unfold FE;exact⟨_,rfl⟩
 refine⟨n,if 10^18<=n then 1 else 0,?_,⟨⟨n,if 10^18<=n then 1 else 0,by simp⟩,w.push rfl⟩⟩;unfold iN vC bj;simp only[UR,Vq,Vu,U3,Wt,WC,V2,show 2-1=1 from rfl,rep1];have t1:cR 1 (ag FE (aa (af 0) (aa (aq FA (ah (.int 0)) (af 0)) aj))) [some (.int z),none] h=.ok (.nx [some (.int z),some (.int n)]) h:=(uE ((bS (ax rfl (ax rfl rfl))).trans hn)).trans rfl;rw[ou t1];have t2:∀b:Bool,Hs [.bool b] h=.ok (.int (if b then 1 else 0)) h:=λb=>rfl;have t3:ag Hs (aa (aq Qg (af 1) (ah (.int (10^18)))) aj) [some (.int z),some (.int n)] h=.ok (.int (if 10^18<=n then 1 else 0)) h:=by refine(bS (ax (aG rfl rfl rfl) rfl)).trans ?_;rw[t2];simp
 refine(WH (λr=>R.bind r sY) (zO (m:=xg _) ((bS (ax rfl (ax t3 rfl))).trans rfl))).trans rfl
noncomputable def wM:Yj:=[.str "a",.str "aa",.str "ab",.str "abcdef",.str "b",.str "c",.str "d",.str "e",.str "m",.str "x",.str "zz",.str "zzzzzz"]
theorem ER:∀d∈wM,EI d:=UM.mp (show wM.all isName=true by rfl)
theorem LK:wM.Nodup:=rH t9 (Jc t9 ER (by rfl))
noncomputable abbrev Jn:ME:=mH rV (af 3) (ag aK (aa (af 1) (aa (ag gK (aa (af 3) aj)) aj)))
theorem LL{he h3:Hm}{left:Yj}(hL:he.length=L)(l3:h3.length=L)(hk:k<left.length)(h12:left.length<=12)
 (e2:aK [.ref i,.int (left.length:Int)] (he++[.lst (left.map D.dat)])=.ok (.int k) (h3++[.lst (left.map D.dat)])) :
  Jn [some x,some (.ref i),some (.int m),some (.ref L)] (he++[.lst (left.map D.dat)])=.ok (.dat left[k]) (h3++[.lst ((left.eraseIdx k).map D.dat)]):=by
 have g1:(he++[MO.lst (left.map D.dat)])[L]?=some (.lst (left.map D.dat)):=by subst hL;simp
 have g2:(h3++[MO.lst (left.map D.dat)])[L]?=some (.lst (left.map D.dat)):=by subst l3;simp
 have bl:gK [.ref L] (he++[.lst (left.map D.dat)])=.ok (.int (left.length:Int)) (he++[.lst (left.map D.dat)]):=by simp[gK,g1]
 have il:Mk (.ref L) (he++[.lst (left.map D.dat)])=true:=by simp[Mk,g1]
 have mp:rV (.ref L) (.int (k:Int)) (h3++[.lst (left.map D.dat)])=.ok (.dat left[k]) (h3++[.lst ((left.eraseIdx k).map D.dat)]):=by
  have c:(0:Int)<=k/\(k:Int)<(left.map D.dat).length/\(k:Int)<1000000:=by simp;omega
  have st:(h3++[MO.lst (left.map D.dat)]).set L (.lst ((left.map D.dat).eraseIdx k))=h3++[.lst ((left.eraseIdx k).map D.dat)]:=by subst l3;rw[XH _ _ (Uy _)];simp[Xw]
  simp only[rV,g2,if_pos c,VL,Vs,UH hk,XW,st]
 unfold Jn;simp only[mH,ag,aa,aj,af,R.aO,Vx,VZ,il,Vu,bl,e2,mp]
theorem MF:∀{xs:List D} {left:Yj} {he:Hm},Px i he->he.length=L->xs.length<=left.length->left.length<=12 ->
  ∃(he':Hm) (out left':Yj),eQ 1 [some (.ref i),some (.int m),some (.ref L)] (aB 0) dW Jn xs (he++[.lst (left.map D.dat)])=.ok (out.map D.dat) (he'++[.lst (left'.map D.dat)])/\Ps i he he'/\out.length=xs.length/\(out++left').Perm left
 | [],left,he,b,_,_,_=>⟨he,[],left,rfl,b.refl,rfl,List.Perm.refl _⟩
 |x::xs,left,he,b,hL,hl,h12=>by
  simp only[UR]at hl;have bp:Px i (he++[.lst (left.map D.dat)]):=b.push (p9 _ _);obtain⟨_,h2,e2,s2,k,rfl,hk⟩:=gF bp (c:=(left.length:Int)) (by omega) (by omega);obtain⟨h3,rfl,s3⟩:=s2.pop b.lt;have b3:=s3.px b;have l3:h3.length=L:=by rw[s3.len,hL]
  have hk':k<left.length:=by omega
  have ll:=List.length_eraseIdx_of_lt hk';obtain⟨he',out,left',q1,q2,q3,q4⟩:=MF (i:=i) (L:=L) (m:=m) (xs:=xs) (left:=left.eraseIdx k) (he:=h3) b3 l3 (by omega) (by omega);have ep:=LL (x:=x) (m:=m) hL l3 hk' h12 e2;refine⟨he',left[k]::out,left',?_,s3.trans q2,by simp[q3],?_⟩
  ·exact C4 (by rfl) (by rfl) ep q1
  ·exact(List.Perm.cons _ q4).trans (Stt.fM hk')
theorem Jo(b:Px i h){m:Nat}(hm:m<=11):Dp i h (kM [.ref i,.int (m:Int)] h) λd=>∃ns:Yj,d=.dat (.tuple ns)/\Nr ns/\ns.length<=m:=by
 have b1:Px i (h++[.lst (wM.map D.dat)]):=b.push (p9 _ _);obtain⟨_,h2',e2,s2',c,rfl,hc⟩:=gF b1 (c:=(m:Int)+1) (by omega) (by omega);obtain⟨h2,rfl,s2⟩:=s2'.pop b.lt;have b2:=s2.px b;have ln:(nums 0 c).length=c:=by simp[nums]
 obtain⟨h3,out,left,q1,q2,q3,q4⟩:=MF (i:=i) (L:=h.length) (m:=(m:Int)) (xs:=nums 0 c) (left:=wM) (he:=h2) b2 s2.len (by rw[ln];simp[wM];omega) (by decide);have on:out.length=c:=by rw[q3,ln]
 have onm:∀d∈out,EI d:=λd m=>ER d (q4.mem_iff.mp (VF _ m));have ond:out.Nodup:=(Xv.mp (q4.nodup_iff.mpr LK)).1;have rw0:Rw EI (dD ltB out):=EK t9 onm ond;have so:f7 out=true:=t9.T3 onm (by omega);have nl:(dD ltB out).length=c:=by rw[(ck _ _).length_eq,on]
 have rn:Nr (dD ltB out):=⟨rw0,by omega⟩
 have ra:oS 1 (uU (aa (ag aK (aa (af 0) (aa (aq dI (af 1) (ah (.int 1))) aj))) aj)) (aB 0) dW Jn [some (.ref i),some (.int (m:Int)),some (.ref h.length)] (h++[.lst (wM.map D.dat)])=.ok (out.map D.dat) (h3++[.lst (left.map D.dat)]):=by
  have e1:aa (ag aK (aa (af 0) (aa (aq dI (af 1) (ah (.int 1))) aj))) aj [some (.ref i),some (.int (m:Int)),some (.ref h.length)] (h++[.lst (wM.map D.dat)])=.ok [.dat (.int (c:Int))] (h2++[.lst (wM.map D.dat)]):=
   ax (aF (ax rfl (ax (aG rfl rfl rfl) rfl)) e2) rfl
  unfold oS;rw[IW e1 (by omega)];simp only[R.aO];rw[if_pos (by rw[ln];exact sz (by omega))];exact q1
 have m1:=(bS (f:=fF) ra).trans (eK out _ (by omega));have m2:nM [.dat (.list out)] (h3++[.lst (left.map D.dat)])=.ok (.dat (.list (dD ltB out))) (h3++[.lst (left.map D.dat)]):=by simp[nM,listOf,so]
 have t1:cR 2 (xg (aa (ah (.str "a")) (aa (ah (.str "aa")) (aa (ah (.str "ab")) (aa (ah (.str "abcdef")) (aa (ah (.str "b")) (aa (ah (.str "c")) (aa (ah (.str "d")) (aa (ah (.str "e")) (aa (ah (.str "m")) (aa (ah (.str "x")) (aa (ah (.str "zz")) (aa (ah (.str "zzzzzz")) aj))))))))))))) [some (.ref i),some (.int (m:Int)),none] h=.ok (.nx [some (.ref i),some (.int (m:Int)),some (.ref h.length)]) (h++[.lst (wM.map D.dat)]):=rfl;have m3:ag nM (aa (cD 1 (uU (aa (ag aK (aa (af 0) (aa (aq dI (af 1) (ah (.int 1))) aj))) aj)) (aB 0) dW Jn) aj) [some (.ref i),some (.int (m:Int)),some (.ref h.length)] (h++[.lst (wM.map D.dat)])=.ok (.dat (.list (dD ltB out))) (h3++[.lst (left.map D.dat)]):=aF (ax m1 rfl) m2;have m4:iI [.dat (.list (dD ltB out))] (h3++[.lst (left.map D.dat)])=.ok (.dat (.tuple (dD ltB out))) (h3++[.lst (left.map D.dat)]):=rfl;have run:kL [.ref i,.int (m:Int)] h=.ok (.dat (.tuple (dD ltB out))) (h3++[.lst (left.map D.dat)]):=by unfold kL qQ;exact ic rfl (aQ t1 (fo (aF (ax m3 rfl) m4)))
 exact⟨_,h3,BK b run (s2.trans q2),s2.trans q2,dD ltB out,rfl,rn,by omega⟩
theorem Jp(b:Px i h)(hz:ns.length<=16777216)(e2:∀h,aX (af 2) ρ h=.ok (ns.map D.dat) h)(e0:ρ[0]?=some (some (.ref i)))(e3:ρ[3]?=some (some (.int s)))(e5:ρ[5]?=some (some (.dat one))) :
  Dp i h (cD 1 (aX (af 2)) (aB 0) (aR (aq oLt (ag aK (aa (af 1) (aa (ah (.int 8)) aj))) (af 4))) (cJ (aa (af 6) (aa (af 0) aj))) ρ h) λd=>∃ls:Yj,d=.dat (.list (ls.map λy=>.tuple [one,y]))/\ls.Sublist ns:=by
 unfold cD
 obtain⟨ys,zs,h',q1,q2,q3,q4⟩:=kY (n:=1) (ρ:=ρ) (g:=aB 0) (t:=aR (aq oLt (ag aK (aa (af 1) (aa (ah (.int 8)) aj))) (af 4))) (e:=cJ (aa (af 6) (aa (af 0) aj))) (Ps i h) (λx y=>∃d,x=.dat d/\y=.dat (.tuple [one,d])) (xs:=ns.map D.dat) (h:=h) (λx hx h1 s1=>by
  obtain⟨d,hd,rfl⟩:=UU.mp hx;obtain⟨_,h2,e2,s2,k,rfl,hk⟩:=gF (s1.px b) (c:=8) (by decide) (by decide);refine⟨some (.dat d)::ρ,h1,decide ((k:Int)<s),h2,rfl,?_,?_⟩
  ·simp[e0,e2,e3,oq]
  ·cases hc:decide ((k:Int)<s)with
   |false=>exact .inl ⟨rfl,s1.trans s2⟩
   |true=>exact .inr ⟨rfl,.dat (.tuple [one,d]),h2,by simp[e5],⟨d,rfl,rfl⟩,s1.trans s2⟩) b.refl
 obtain⟨ls,rfl,sl⟩:=EF q3;rw[wH q4]at q1;have ea:oS 1 (aX (af 2)) (aB 0) (aR (aq oLt (ag aK (aa (af 1) (aa (ah (.int 8)) aj))) (af 4))) (cJ (aa (af 6) (aa (af 0) aj))) ρ h=.ok ((ls.map λy=>PyData.tuple [one,y]).map D.dat) h':=by unfold oS;rw[e2];simp only[R.aO,US,sz hz,Vu];exact q1
 refine⟨.dat (.list (ls.map λy=>.tuple [one,y])),h',?_,q2,ls,rfl,sl⟩;rw[bS ea];exact eK _ h' (by rw[US];exact UI sl.length_le hz)
noncomputable abbrev Jq:MS:=cR 4 (aq dI (af 4) (cD 1 (aX (af 2)) (aB 0) (aR (aq oLt (ag aK (aa (af 1) (aa (ah (.int 8)) aj))) (af 4))) (cJ (aa (af 6) (aa (af 0) aj)))))
theorem Jr(r:Nr ns):∀{xs pre acc:Yj} {h:Hm},ns=pre++xs->Px i h->Pw pre ns acc->∀a5:Option D,Dp i h (eN (aB 5) Jq (xs.map D.dat) [some (.ref i),some (.int m),some (.dat (.tuple ns)),some (.int s),some (.dat (.list acc)),a5] h) λf=>∃(acc':Yj) (b5:Option D),f=.nx [some (.ref i),some (.int m),some (.dat (.tuple ns)),some (.int s),some (.dat (.list acc')),b5]/\Pw ns ns acc'
 | [],pre,acc,h,e,b,P,a5=>by
  have e':ns=pre:=by grind
  exact Dp.ok b ⟨acc,a5,rfl,by grind⟩
 |x::xs,pre,acc,h,e,b,P,a5=>by
  have l12:=r.le;obtain⟨_,h2,e2,s2,ls,rfl,sl⟩:=Jp (h:=h) b (ns:=ns) (s:=s) (one:=x) (ρ:=[some (.ref i),some (.int m),some (.dat (.tuple ns)),some (.int s),some (.dat (.list acc)),some (.dat x)]) (by omega) (λh=>lu rfl) rfl rfl rfl;have P2:=P.step r.toRw e sl;obtain⟨f,h3,e3,s3,k⟩:=Jr (s:=s) (m:=m) r (xs:=xs) (pre:=pre++[x]) (acc:=acc++ls.map λy=>.tuple [x,y]) (by simp[e]) (s2.px b) P2 (some (.dat x));refine⟨f,h3,?_,s2.trans s3,k⟩
  have lp:acc.length+(ls.map λy=>PyData.tuple [x,y]).length<=16777216:=by
   have l1:=P2.len;have l3:(pre++[x]).length<=12:=by have:(pre++x::xs).length<=12:=e▸l12;simp only[UP,UR,Vq]at this ⊢;omega
   have l4:(pre++[x]).length*ns.length<=12*12:=W4 l3 l12;simp only[UP]at l1 l4 ⊢;omega
  have eb:Jq [some (.ref i),some (.int m),some (.dat (.tuple ns)),some (.int s),some (.dat (.list acc)),some (.dat x)] h=.ok (.nx [some (.ref i),some (.int m),some (.dat (.tuple ns)),some (.int s),some (.dat (.list (acc++ls.map λy=>.tuple [x,y]))),some (.dat x)]) h2:=
   du (aG (x:=.dat (.list acc)) rfl e2 (rF h2 lp))
  simp only[U3,eN,aB,R.eO,R.aO,WK,We];rw[eb];simp only[R.eO,R.aO];exact e3
theorem Js(b:Px i h){m:Nat}(hm:m<=11):Dp i h (kN [.ref i,.int (m:Int)] h) λd=>∃(ns:Yj) (r:Rel),d=.dat (cQ ns r)/\Nr ns/\ns.length<=m:=by
 obtain⟨_,h2,e2,s2,ns,rfl,rn,nl⟩:=Jo b hm;have b2:=s2.px b;obtain⟨_,h4,e4,s4,u,rfl,hu⟩:=gF b2 (c:=4) (by decide) (by decide)
 obtain⟨sh,esh⟩:∃s:Int,lV [PyData.int 1,.int 2,.int 3,.int 5] (u:Int)=some (.int s):=by
  obtain⟨x,ex,mx⟩:=zM (xs:=[PyData.int 1,.int 2,.int 3,.int 5]) (k:=u) (by grind)
  grind
 obtain⟨_,h5,e5,s5,ss,b5,rfl,P⟩:=Jr (i:=i) (s:=sh) (m:=(m:Int)) rn (xs:=ns) (pre:=[]) (acc:=[]) rfl (s4.px b2) ⟨.nil,by simp,by simp⟩ none
 have w:Wb (ns.length*ns.length) ns ss:=by
  refine⟨rn,⟨λp m=>?_,P.ris⟩,λx y m=>?_,P.len⟩
  ·obtain⟨x,y,rfl,hx,hy⟩:=P.mem p m;exact⟨x,y,rn.sub x hx,rn.sub y hy,rfl⟩
  ·obtain⟨x',y',e,hx,hy⟩:=P.mem _ m;simp only[PyData.tuple.injEq,List.cons.injEq,and_true]at e;obtain⟨rfl,rfl⟩:=e;exact⟨hx,hy⟩
 refine⟨.dat (.tuple [.tuple ns,.tuple ss]),h5,?_,(s2.trans s4).trans s5,ns,EM ss,by rw[cQ,<- zT w],rn,nl⟩;have i1:aq fb (ah (.list [.int 1,.int 2,.int 3,.int 5])) (ag aK (aa (af 0) (aa (ah (.int 4)) aj))) [some (.ref i),some (.int (m:Int)),none,none,none,none] h2=.ok (.int sh) h4:=aG rfl (aF (xs:=[.ref i,.int 4]) rfl e4) (by simp only[fb,iH,y8,esh])
 exact ic rfl (aQ (C1 (x:=.dat (.tuple [.tuple ns,.int sh,.list []])) ((bS (f:=iF) (ax (aF (xs:=[.ref i,.int (m:Int)]) rfl e2) (ax i1 (ax (x:=.dat (.list [])) rfl rfl)))).trans (OM _ _ _ _)) rfl)
  (aQ (jw (lu (ds:=ns) rfl) e5) (fo (iy (a:=.tuple ns) (b:=.tuple ss) rfl (aF (xs:=[.dat (.list ss)]) rfl rfl)))))
theorem uc:∀{ls:Yj} {ys:List D},PySem.Paired (λx y=>∃d,x=.dat d/\y=.dat (.tuple [d,d])) (ls.map D.dat) ys->ys=(ls.map λy=>PyData.tuple [y,y]).map D.dat
 | [],ys,h=>by cases h;rfl
 |l::ls,ys,h=>by
  cases h with
  |cons a b=>obtain⟨d,e,rfl⟩:=a;cases e;rw[uc b];rfl
theorem Gm(b:Px i h)(Rn:Nr ns)(nl:ns.length<=7):Dp i h (gB [.ref i,.dat (cQ ns r)] h) λd=>∃q:Rel,d=.dat (cQ ns q):=by
 obtain⟨ys,zs,h',q1,q2,q3,q4⟩:=kY (n:=1) (ρ:=[some (.ref i),some (.dat (cQ ns r)),none]) (g:=aB 0) (t:=aR (aq oEq (ag aK (aa (af 1) (aa (ah (.int 2)) aj))) (ah (.int 0)))) (e:=cJ (aa (af 0) (aa (af 0) aj))) (Ps i h) (λx y=>∃d,x=.dat d/\y=.dat (.tuple [d,d])) (xs:=ns.map D.dat) (h:=h) (λx hx h1 s1=>by
  obtain⟨d,hd,rfl⟩:=UU.mp hx;obtain⟨_,h2,e2,s2,k,rfl,hk⟩:=gF (s1.px b) (c:=2) (by decide) (by decide);refine⟨[some (.dat d),some (.ref i),some (.dat (cQ ns r)),none],h1,decide ((k:Int)=0),h2,rfl,cu (aG (aF (xs:=[.ref i,.int 2]) rfl e2) rfl (zX h2)),?_⟩
  cases hc:decide ((k:Int)=0)with
  |false=>exact .inl ⟨rfl,s1.trans s2⟩
  |true=>exact .inr ⟨rfl,.dat (.tuple [d,d]),h2,iy rfl rfl,⟨d,rfl,rfl⟩,s1.trans s2⟩) b.refl
 obtain⟨ls,rfl,sl⟩:=EF q3;rw[uc q4]at q1;have ll:=sl.length_le;have lr:(rows ns r).length<=49:=UI rJ (W4 nl nl);have lm:(ls.map λy=>PyData.tuple [y,y]).length=ls.length:=US ..;have ea:cD 1 (aX (aq fb (af 1) (ah (.int 0)))) (aB 0) (aR (aq oEq (ag aK (aa (af 1) (aa (ah (.int 2)) aj))) (ah (.int 0)))) (cJ (aa (af 0) (aa (af 0) aj))) [some (.ref i),some (.dat (cQ ns r)),none] h=.ok (.dat (.list (ls.map λy=>.tuple [y,y]))) h':=by unfold cD;refine aF (xs:=(ls.map λy=>PyData.tuple [y,y]).map D.dat) (h1:=h') ?_ (eK _ h' (by omega));unfold oS;rw[lu (ds:=ns) rfl];simp only[R.aO,US,sz (show ns.length<=16777216 by omega),Vu];exact q1
 have sub2:∀d∈ls.map (λy=>PyData.tuple [y,y]),∃a,d=.tuple [a,a]/\a∈ns:=λd m=>by obtain⟨a,ha,rfl⟩:=UU.mp m;exact⟨a,rfl,sl.subset ha⟩
 have in2:∀d∈ls.map (λy=>PyData.tuple [y,y]),IZ d:=λd m=>by obtain⟨a,rfl,ha⟩:=sub2 d m;exact⟨a,a,Rn.sub a ha,Rn.sub a ha,rfl⟩
 obtain⟨u1,u2,u3⟩:=Q0 nK (eL (r:=r) Rn).sub in2
 have w:Wb 100 ns (un (rows ns r) (ls.map λy=>.tuple [y,y])):=⟨Rn,u1,λx y m=>by
  rcases(u2 _).mp m with z|z
  ·exact⟨(ku.mp z).1,(ku.mp z).2.1⟩
  ·obtain⟨a,e,ha⟩:=sub2 _ z;simp only[PyData.tuple.injEq,List.cons.injEq,and_true]at e;obtain⟨rfl,rfl⟩:=e
   exact⟨ha,ha⟩,by omega⟩
 have so:=Gh nK (eL (r:=r) Rn).sub in2 (by omega) h';refine⟨.dat (.tuple [.tuple ns,.tuple (un (rows ns r) (ls.map λy=>.tuple [y,y]))]),h',?_,q2,EM _,by rw[cQ,<- zT w]⟩;have bl:pH [.dat (.tuple (rows ns r))] h'=.ok (.dat (.list (rows ns r))) h':=rfl;exact ic rfl (aQ (du ea) (fo (iy (a:=.tuple ns) rfl (aF (ax (aF (ax (aG (aF (xs:=[.dat (.tuple (rows ns r))]) rfl bl) (y:=.dat (.list (ls.map λy=>.tuple [y,y]))) rfl (rF h' (by omega))) rfl) so) rfl) rfl))))
noncomputable def ie:Yj:=[.tuple [.tuple [],.tuple []],.tuple [.tuple [.str "a"],.tuple [.tuple [.str "a",.str "a"]]],.tuple [.tuple [.str "a",.str "b"],.tuple [.tuple [.str "a",.str "b"],.tuple [.str "b",.str "a"]]],
 .tuple [.tuple [.str "a",.str "b",.str "c"],.tuple [.tuple [.str "a",.str "b"],.tuple [.str "b",.str "c"],.tuple [.str "c",.str "a"]]],.tuple [.tuple [.str "a",.str "b",.str "c",.str "d"],.tuple [.tuple [.str "a",.str "b"],.tuple [.str "b",.str "c"],.tuple [.str "c",.str "d"],.tuple [.str "d",.str "a"]]]]
theorem zY{xs:Yj}(h:xs.all isName=true):∀d∈xs,EI d:=UM.mp h
theorem OW(h1:∀d∈ns,EI d)(hl:ns.length<=12)(h2:i7 ns=true)(h3:∀d∈ss,∃a b,d=.tuple [a,b]/\a∈ns/\b∈ns)(h4:i7 ss=true):Nr ns/\∃r,PyData.tuple [.tuple ns,.tuple ss]=cQ ns r:=by
 have rn:Nr ns:=⟨Jc t9 h1 h2,hl⟩;have sp:∀d∈ss,IZ d:=λd m=>by obtain⟨a,b,rfl,ha,hb⟩:=h3 d m;exact⟨a,b,h1 a ha,h1 b hb,rfl⟩
 have w:Wb ss.length ns ss:=⟨rn,Jc nK sp h4,λa b m=>by
  obtain⟨x,y,e,hx,hy⟩:=h3 _ m
  grind,Uy _⟩
 exact⟨rn,EM ss,by rw[cQ,<- zT w]⟩
theorem Jt(h:d∈ie):∃(ns:Yj) (r:Rel),d=cQ ns r/\Nr ns/\ns.length<=4:=by
 have:∃ns ss:Yj,d=.tuple [.tuple ns,.tuple ss]/\ns.length<=4/\(∀d∈ns,EI d)/\i7 ns=true/\(∀d∈ss,∃a b,d=.tuple [a,b]/\a∈ns/\b∈ns)/\i7 ss=true:=by
  simp only[ie,UC,UW,VH]at h;rcases h with rfl|rfl|rfl|rfl|rfl
  ·exact⟨_,_,rfl,by decide,by simp,by rfl,by simp,by decide +kernel⟩
  ·exact⟨_,_,rfl,by decide,zY (by decide +kernel),by decide +kernel,by simp,by decide +kernel⟩
  ·exact⟨_,_,rfl,by decide,zY (by decide +kernel),by decide +kernel,(λd m=>by simp only[UC,UW,VH]at m;rcases m with rfl|rfl<;>exact⟨_,_,rfl,by simp,by simp⟩),by decide +kernel⟩
  ·exact⟨_,_,rfl,by decide,zY (by decide +kernel),by decide +kernel,(λd m=>by simp only[UC,UW,VH]at m;rcases m with rfl|rfl|rfl<;>exact⟨_,_,rfl,by simp,by simp⟩),by decide +kernel⟩
  ·exact⟨_,_,rfl,by decide,zY (by decide +kernel),by decide +kernel,(λd m=>by simp only[UC,UW,VH]at m;rcases m with rfl|rfl|rfl|rfl<;>exact⟨_,_,rfl,by simp,by simp⟩),by decide +kernel⟩
 obtain⟨ns,ss,rfl,l,h1,h2,h3,h4⟩:=this;obtain⟨rn,r,e⟩:=OW h1 (by omega) h2 h3 h4
 grind
theorem zZ(b:Px i h){m:Nat}(hm:m<=11):Dp i h (eF [.ref i,.int (m:Int)] h) λd=>∃(n1 n2 n3:Yj) (r1 r2 r3:Rel),d=.dat (.list [cQ n1 r1,cQ n2 r2,cQ n3 r3])/\Nr n1/\Nr n2/\Nr n3/\n1.length<=m/\n2.length<=m/\n3.length<=4:=by
 have b1:Px i (h++[.lst (ie.map D.dat)]):=b.push (p9 _ _);obtain⟨_,h2,e2,s2,n1,r1,rfl,rn1,l1⟩:=Js b1 hm;have b2:=s2.px b1;obtain⟨_,h3,e3,s3,n2,r2,rfl,rn2,l2⟩:=Js b2 hm;have b3:=s3.px b2;obtain⟨_,h4,e4,s4,u,rfl,hu⟩:=gF b3 (c:=5) (by decide) (by decide);have sa:=(s2.trans s3).trans s4;obtain⟨h5,rfl,s5⟩:=sa.pop b.lt;obtain⟨x,ex,mx⟩:=zM (xs:=ie) (k:=u) (by simp[ie];omega);obtain⟨n3,r3,rfl,rn3,l3⟩:=Jt mx;have l5:=s5.len;have gi:(h5++[MO.lst (ie.map D.dat)])[h.length]?=some (.lst (ie.map D.dat)):=by rw[<- l5];simp
 have t1:cR 2 (xg (aa (ah (.tuple [.tuple [],.tuple []])) (aa (ah (.tuple [.tuple [.str "a"],.tuple [.tuple [.str "a",.str "a"]]])) (aa (ah (.tuple [.tuple [.str "a",.str "b"],.tuple [.tuple [.str "a",.str "b"],.tuple [.str "b",.str "a"]]])) aj)))) [some (.ref i),some (.int (m:Int)),none] h=.ok (.nx [some (.ref i),some (.int (m:Int)),some (.ref h.length)]) (h++[.lst ((ie.take 3).map D.dat)]):=rfl
 have ap:∀(k:Nat) (d:PyData),k<5->mH eA (af 2) (ah d) [some (.ref i),some (.int (m:Int)),some (.ref h.length)] (h++[.lst ((ie.take k).map D.dat)])=.ok D.none (h++[.lst ((ie.take k++[d]).map D.dat)]):=λk d hk=>by
  have g:(h++[MO.lst ((ie.take k).map D.dat)])[h.length]?=some (.lst ((ie.take k).map D.dat)):=by simp
  have c:decide (((ie.take k).map D.dat).length<16777216)=true:=Vc (by rw[US,W5];omega);simp only[mH,af,VZ,Vx,R.aO,Mk,g,Vu,ah,eA,c];rw[XH _ _ (Uy _)];simp
 have ix:aq fb (af 2) (ag aK (aa (af 0) (aa (ah (.int 5)) aj))) [some (.ref i),some (.int (m:Int)),some (.ref h.length)] h3=.ok (.dat (cQ n3 r3)) (h5++[.lst (ie.map D.dat)]):=by
  refine aG (x:=.ref h.length) rfl (aF (xs:=[.ref i,.int 5]) rfl e4) ?_;have am:lV (ie.map D.dat) (u:Int)=some (.dat (cQ n3 r3)):=by rw[uv,ex];rfl
  simp only[fb,iH,gi,y8,am]
 have run:gb [.ref i,.int (m:Int)] h=.ok (.dat (.list [cQ n1 r1,cQ n2 r2,cQ n3 r3])) (h5++[.lst (ie.map D.dat)]):=by unfold gb j9;refine ic rfl (aQ t1 (aQ (iw (ap 3 _ (by decide))) (aQ (iw (ap 4 _ (by decide))) (fo ?_))));exact(bS (f:=fF) (ax (aF (xs:=[.ref i,.int (m:Int)]) rfl e2) (ax (aF (xs:=[.ref i,.int (m:Int)]) rfl e3) (ax ix rfl)))).trans (zH _ _ _ _)
 exact⟨_,h5,BK b run s5,s5,n1,n2,n3,r1,r2,r3,rfl,rn1,rn2,rn3,l1,l2,l3⟩
theorem Ju(ns:List Int)(hi:Int)(e0:ρ[0]?=some (some (.scr ns)))(hn:ns.length<=63)(h:Hm):∃ds:Yj,aX (aq dI (oB (aa (ag fu (aa (af 0) (aa (ah (.int 0)) aj))) aj)) (Iu (af 0) (dX (ah (.int 1))) (dX (ah (.int hi))))) ρ h=.ok (ds.map D.dat) h/\∀d∈ds,∃z:Int,d=.int z:=by
 obtain⟨z,ez⟩:=LD ns 0 h;have ev:af 0 ρ h=.ok (.scr ns) h:=by simp[af,e0]
 have l1:oB (aa (ag fu (aa (af 0) (aa (ah (.int 0)) aj))) aj) ρ h=.ok (.dat (.list [.int z])) h:=(bS (f:=fF) (ax (aF (ax ev (ax (x:=.int 0) rfl rfl)) ez) rfl)).trans (IQ _ h);have l2:Iu (af 0) (dX (ah (.int 1))) (dX (ah (.int hi))) ρ h=.ok (.dat (.list (cut (ns.map PyData.int) (some 1) (some hi)))) h:=by unfold Iu;rw[ev];rfl
 have lc:(cut (ns.map PyData.int) (some 1) (some hi)).length<=63:=by unfold cut;rw[W5,Yb,US];omega
 refine⟨.int z::cut (ns.map PyData.int) (some 1) (some hi),ow (aG l1 l2 (rF h (by simp;omega))),λd m=>?_⟩;rcases UC.mp m with rfl|m
 ·exact⟨z,rfl⟩
 ·obtain⟨k,_,rfl⟩:=UU.mp (D8 m);exact⟨k,rfl⟩
section
variable {ns:Yj} {r q:Rel} {a b x y:PyData} {kd:Kd}
noncomputable def OX(ns:Yj)(kd:Kd)(r q:Rel):Prop:=∀a∈ns,∀b∈ns,(a=b\/uj kd r a b=false)->q a b=r a b
theorem OX.uj(A:OX ns kd r q)(ha:a∈ns)(hb:b∈ns):uj kd q a b=uj kd r a b:=by
 have e1:=A a ha a ha (.inl rfl);have e2:=A b hb b hb (.inl rfl);unfold Ml.uj;rw[e1,e2];by_cases h:kd.I (r a a) (r b b) (q b a)=kd.I (r a a) (r b b) (r b a)
 ·exact h
 ·have  := A b hb a ha (.inr (Kd.back h))
  grind
theorem OX.qa(A:OX ns kd r q)(ha:a∈ns)(hb:b∈ns):qa kd q a b=qa kd r a b:=by
 have e:=A.uj ha hb;unfold Ml.qa;rw[e];by_cases z:a=b
 ·rw[A a ha b hb (.inl z)]
 ·cases w:Ml.uj kd r a b with
  |true=>simp[z]
  |false=>rw[A a ha b hb (.inr w)]
theorem LN:OX ns kd r (qa kd r):=λa ha b hb h=>by
 simp_all[qa]
theorem OX.Jv(A:OX ns kd r q):rows ns (Ml.qa kd q)=rows ns (Ml.qa kd r):=C5 λa ha b hb=>A.qa ha hb
end
theorem wN{ds:Yj}(I:Fm->Prop)(H:∀d∈ds,∀ρ,I ρ->∃ρ1 ρ2,g (.dat d) ρ h=.ok ρ1 h/\b ρ1 h=.ok (.nx ρ2) h/\I ρ2)(i:I ρ):∃ρ',eN g b (ds.map D.dat) ρ h=.ok (.nx ρ') h/\I ρ':=by
 induction ds generalizing ρ with
 |nil=>exact⟨ρ,rfl,i⟩
 |cons d ds ih=>
  obtain⟨ρ1,ρ2,e1,e2,i2⟩:=H d (by simp) ρ i
  simp_all[eN]
noncomputable def RM:Yj:=[.str "stable",.str "standing",.str "preferred",.str "whole",.str "grounded"]
theorem OY(h:d∈RM):∃kd:Kd,d=.str kd.nm:=by
 simp[RM]at h;rcases h with rfl|rfl|rfl|rfl|rfl
 ·exact⟨.stable,rfl⟩
 ·exact⟨.standing,rfl⟩
 ·exact⟨.preferred,rfl⟩
 ·exact⟨.whole,rfl⟩
 ·exact⟨.grounded,rfl⟩
noncomputable def C8:Yj:=[.none,.bool true,.bool false,.int 0,.int 1,.int (-1),.int (10^29),.str "",.str "a",.str "A",.str "abcdefg",.str "a b",.str "in",.tuple [],.list [],.dict [],.tuple [.int 0],.list [.str "a"]]
noncomputable def C9:Yj:=[.tuple [.str "a"],.tuple [.str "a",.str "a"],.tuple [.tuple [.str "a"],.tuple []],.tuple [.tuple [],.tuple []],.dict [(.str "a",.int 1)],.tuple [.str "in"],.tuple [.tuple [.str "a",.str "a"]],.tuple [.str "leaf",.str "a"]]
theorem LO:∀k:Fin 26,∃x,lV (C8++C9) (k.val:Int)=some x/\(QX 200 3 x=true\/x=.dict []\/x=.dict [(.str "a",.int 1)]):=by
 intro k;have hk:k.val<(C8++C9).length:=k.isLt;refine⟨(C8++C9)[k.val],kA (UH hk),?_⟩;have m:=W6 hk;generalize (C8++C9)[k.val]=x at m;have:∀y∈C8++C9,QX 200 3 y=true\/y=.dict []\/y=.dict [(.str "a",.int 1)]:=by intro y hy;simp[C8,C9,UC,UW,VH]at hy;rcases hy with rfl|rfl|rfl|rfl|rfl|rfl|rfl|rfl|rfl|rfl|rfl|rfl|rfl|rfl|rfl|rfl|rfl|rfl|rfl|rfl|rfl|rfl|rfl|rfl|rfl|rfl<;>first|exact .inl (by decide +kernel)|grind|rfl
 grind
theorem LP{i:Nat}{h:Hm}(b:Px i h):Dp i h (jk [.ref i] h) λd=>∃x,d=.dat x/\Py 200 3 x:=by obtain⟨_,h',e,s,k,rfl,hk⟩:=gF b (c:=26) (by decide) (by decide);obtain⟨x,ex,ox⟩:=LO ⟨k,by omega⟩;refine⟨.dat x,h',?_,s,x,rfl,ox.imp IU id⟩;have e2:dI _ _ h=.ok (.dat (.list (C8++C9))) h:=rF h (by decide);exact ic rfl (aQ (du rfl) (aQ (du (aG rfl rfl e2)) (fo (aG rfl (aF rfl e) (by simp_all)))))
theorem Q5{ds:Yj}{z:Nat}{y:PyData}{h:Hm}(e:ds[z]?=some y):fb (.dat (.tuple ds)) (.int z) h=.ok (.dat y) h:=by rw[LB,kA e]
theorem Q6{ds:Yj}{w k:Int}{v:PyData}{h:Hm}(hk:w-4=k)(e:lV ds k=some v):fb (.dat (.list ds)) (.int (w-4)) h=.ok (.dat v) h:=by rw[ED,hk,e]
theorem BL{i:Nat}:∀(q:Nat) {n m:Nat} {d:PyData} {h:Hm},Px i h->Ok n m d->m<q->n<=5000->Dp i h (cN q [.ref i,.dat d] h) λr=>∃x,r=.dat x/\Ok (n+n+20) (m+1) x
 |0,n,m,d,h,b,o,hm,hn=>by omega
 |q+1,n,m,d,h,b,o,hm,hn=>by
  obtain⟨_,ha,ea,sa,w,rfl,hw⟩:=gF b (c:=7) (by decide) (by decide);have ba:=sa.px b;obtain⟨_,hb,eb,sb,u,rfl,hu⟩:=gF ba (c:=14) (by decide) (by decide);obtain⟨x,ex,mx⟩:=zM (xs:=EE) (k:=u) (by have:EE.length=14:=rfl;omega);have ix:=ED EE u hb;rw[ex]at ix;have A:=λe=>(⟨.dat x,hb,ic rfl (aQ (du (aF rfl ea)) (nJ (zP e (aQ (du rfl) (fo (aG rfl (aF rfl eb) ix)))))),sa.trans sb,x,rfl,(IU (IV x mx)).mono (by omega) (by omega)⟩:Dp i h (cN (q+1) [.ref i,.dat d] h) λr=>∃x,r=.dat x/\Ok (n+n+20) (m+1) x)
  cases d with
  |tuple ds=>
   have tt:=λ{u:MT} {c:Bool}=>lx (u:=u) (c:=c) (h2:=ha) (lq (kq (c:=true) (m:=AB (mi isTup) (af 1)) (ρ:=[some (.ref i),some (.dat (.tuple ds)),some (.int w),none,none]) (h:=ha) rfl));have te:=cu (aG (ρ:=[some (.ref i),some (.dat (.tuple ds)),some (.int w),none,none]) (a:=af 1) (b:=ah (.tuple [])) rfl rfl (IS o.items ha));by_cases hz:ds=[]
   ·subst hz;exact A (tt (zQ te))
   rw[List.isEmpty_eq_false_iff.mpr hz]at te;have tw:=tt (lx te (cu (aG (a:=af 2) (b:=ah (.int 2)) rfl rfl (oq w 2 ha))));by_cases h2:(w:Int)<2
   ·rw[Vc h2]at tw;exact A tw
   rw[U0 h2]at tw
   clear A te tt
   have hl:0<ds.length:=List.length_pos_iff.mpr hz;have hl2:=o.items.len;have hm1:1<=m:=by have:=o.d;simp only[PyData.depth]at this;omega
   obtain⟨_,hc,ec,sc,z,rfl,hz2⟩:=gF ba (c:=ds.length) (by omega) (by omega);have bc:=sc.px ba;obtain⟨y,ey,o1,oy,o2,ws⟩:=o.items.split z (by omega);have l1:=o1.len;have l2:=o2.len;have e1:∀hh,Co (af 1) jZ (dX (af 4)) [some (.ref i),some (.dat (.tuple ds)),some (.int w),none,some (.int z)] hh=.ok (.dat (.tuple (ds.take z))) hh:=λhh=>by rw[<- ON ds z];rfl
   have e2:∀hh,Co (af 1) (dX (aq dI (af 4) (ah (.int 1)))) jZ [some (.ref i),some (.dat (.tuple ds)),some (.int w),none,some (.int z)] hh=.ok (.dat (.tuple (ds.drop (z+1)))) hh:=λhh=>by rw[<- BD ds (z+1)];rfl
   have e3:∀hh,Co (af 1) (dX (af 4)) (dX (aq dI (af 4) (ah (.int 1)))) [some (.ref i),some (.dat (.tuple ds)),some (.int w),none,some (.int z)] hh=.ok (.dat (.tuple [y])) hh:=λhh=>by rw[<- Lx ds z y ey];rfl
   by_cases h4:(w:Int)<4
   ·obtain⟨_,hd,ed,sd,x',rfl,ox'⟩:=BL q (n:=y.weight) (m:=m-1) bc oy (by omega) (by omega);exact⟨.dat (.tuple (ds.take z++[x']++ds.drop (z+1))),hd,ic rfl (aQ (du (aF rfl ea)) (aQ (sU tw rfl) (aQ (du (aF rfl ec)) (nJ (zP (cu (aG rfl rfl ((oq w 4 hc).trans (by rw[Vc h4])))) (fo (aG (aG (e1 hc) ((aF (ax (aF (ax rfl (ax (aG rfl rfl (Q5 ey)) rfl)) ed) rfl) (OJ _ _))) (rG _ (by simp at l1 ⊢;omega))) (e2 hd) (rG _ (by simp at l1 l2 ⊢;omega))))))))),(sa.trans sc).trans sd,_,rfl,Ok.mono (((o1.mono (Uy _) (by omega:m-1<=m)).append (gE.one (ox'.mono (Uy _) (by omega:m-1+1<=m)))).append (o2.mono (Uy _) (by omega:m-1<=m))).tup (by omega) (Uy _)⟩
   have B:=λ{k:Int} {v:PyData} (hk:(w:Int)-4=k) (e:lV [.tuple (ds.take z++ds.drop (z+1)),.list ds,.tuple (ds++[y])] k=some v) (ov:Ok (n+n+20) (m+1) v)=>(⟨.dat v,hc,ic rfl (aQ (du (aF rfl ea)) (aQ (sU tw rfl) (aQ (du (aF rfl ec)) (aQ (sU (cu (aG rfl rfl ((oq w 4 hc).trans (by rw[U0 h4])))) rfl) (fo (aG (aF (ax (aG (e1 hc) (e2 hc) (rG _ (by simp at l1 l2 ⊢;omega))) (ax rfl (ax (aG rfl (e3 hc) (rG _ (by simp;omega))) rfl))) (zH _ _ _ _)) rfl (Q6 hk e))))))),sa.trans sc,_,rfl,ov⟩:Dp i h (cN (q+1) [.ref i,.dat (.tuple ds)] h) λr=>∃x,r=.dat x/\Ok (n+n+20) (m+1) x);obtain e|e|e:(w:Int)-4=0\/(w:Int)-4=1\/(w:Int)-4=2:=by omega
   ·exact B e rfl (Ok.mono ((o1.append o2).tup) (by omega) (by omega))
   ·exact B e rfl (Ok.mono (o.items.lst) (by omega) (by omega))
   ·exact B e rfl (Ok.mono ((o.items.append (gE.one oy)).tup) (by omega) (by omega))
  |_=>exact A (zQ (lq (kq (c:=false) rfl)))
noncomputable def LQ(d:PyData):Prop:=(∃n m,Ok n m d/\n<=10000/\m<=40/\et d=false)\/∃kvs,d=.dict kvs
theorem LQ.ok{d:PyData}(w:LQ d)(h:Hm):gM [.dat d] h=.ok (.bool false) h:=by
 rcases w with⟨n,m,o,hn,hm,e⟩|⟨kvs,rfl⟩
 ·rw[Gg o hn hm,e]
 rfl
theorem Jw{n m:Nat}{d:PyData}(o:Py n m d)(hn:n<=10000)(hm:m<=40):∃b,(∀h,cb [.dat d] h=.ok (.bool b) h)/\(b=false->LQ d):=by
 rcases o with o|rfl|rfl
 ·exact⟨et d,xy o hn hm,λe=>.inl ⟨n,m,o,hn,hm,e⟩⟩
 ·exact⟨false,lL _,λ_=>.inr ⟨_,rfl⟩⟩
 ·exact⟨false,lL _,λ_=>.inr ⟨_,rfl⟩⟩
theorem Gn{i:Nat}{h:Hm}(b:Px i h){n:Nat}{a c:PyData}(o:Ok n 3 (.tuple [a,c]))(hn:n<=4000):Dp i h (fL [.ref i,.dat (.tuple [a,c])] h) λd=>∃ds:Yj,d=.dat (.list ds)/\∀x∈ds,LQ x:=by
 obtain⟨_,h1,e1,s1,x1,rfl,o1⟩:=BL 5 b o (by omega) (by omega);obtain⟨_,h2,e2,s2,x2,rfl,o2⟩:=LP (s1.px b);have oa:=o.items.mem (d:=a) (by simp);have oc:=o.items.mem (d:=c) (by simp)
 have od:∀d∈[PyData.none,.tuple [],.list [.tuple [a,c]],a,.tuple [a],.list [a,c],.tuple [a,c,.tuple []],x1,x2],Py 9999 6 d:=by
  intro d m;simp only[UC,UW,VH]at m;rcases m with rfl|rfl|rfl|rfl|rfl|rfl|rfl|rfl|rfl
  ·exact .inl ⟨rfl,by decide,by decide +kernel⟩
  ·exact .inl ⟨rfl,by decide,by decide +kernel⟩
  ·exact .inl ((gE.one o).lst.mono (by omega) (by omega))
  ·exact .inl (oa.mono (by omega) (by omega))
  ·exact .inl ((gE.one oa).tup.mono (by omega) (by omega))
  ·exact .inl (o.items.lst.mono (by omega) (by omega))
  ·exact .inl ((o.items.append (gE.one (n:=0) (m:=2) (d:=.tuple []) ⟨rfl,by decide,by decide +kernel⟩)).tup.mono (by omega) (by omega))
  ·exact .inl (o1.mono (by omega) (by omega))
  ·exact o2.mono (by omega) (by omega)
 have l1:oB (aa (ah .none) (aa (ah (.tuple [])) (aa (oB (aa (af 1) aj)) (aa (aq fb (af 1) (ah (.int 0))) (aa (cJ (aa (aq fb (af 1) (ah (.int 0))) aj)) (aa (ag pH (aa (af 1) aj)) (aa (cJ (aa (aq fb (af 1) (ah (.int 0))) (aa (aq fb (af 1) (ah (.int 1))) (aa (ah (.tuple [])) aj)))) (aa (ag (cN 5) (aa (af 0) (aa (af 1) aj))) (aa (ag jk (aa (af 0) aj)) aj))))))))) [some (.ref i),some (.dat (.tuple [a,c])),none] h=.ok (.dat (.list [.none,.tuple [],.list [.tuple [a,c]],a,.tuple [a],.list [a,c],.tuple [a,c,.tuple []],x1,x2])) h2:=by have i0:aq fb (af 1) (ah (.int 0)) [some (.ref i),some (.dat (.tuple [a,c])),none] h=.ok (.dat a) h:=aG (x:=.dat (.tuple [a,c])) rfl (y:=.int 0) rfl rfl;have i1:aq fb (af 1) (ah (.int 1)) [some (.ref i),some (.dat (.tuple [a,c])),none] h=.ok (.dat c) h:=aG (x:=.dat (.tuple [a,c])) rfl (y:=.int 1) rfl rfl;exact(bS (f:=fF) (ax (x:=.none) rfl (ax (x:=.dat (.tuple [])) rfl (ax (x:=.dat (.list [.tuple [a,c]])) rfl (ax i0 (ax (aF (f:=iF) (xs:=[.dat a]) (ax i0 rfl) rfl) (ax (x:=.dat (.list [a,c])) rfl (ax (aF (f:=iF) (xs:=[.dat a,.dat c,.dat (.tuple [])]) (ax i0 (ax i1 rfl)) rfl) (ax (aF (xs:=[.ref i,.dat (.tuple [a,c])]) rfl e1) (ax (aF (xs:=[.ref i]) rfl e2) rfl)))))))))).trans (eK [_,_,_,_,_,_,_,_,_] h2 (by simp))
 generalize hL:[PyData.none,.tuple [],.list [.tuple [a,c]],a,.tuple [a],.list [a,c],.tuple [a,c,.tuple []],x1,x2]=L at od l1;have ll:L.length=9:=by rw[<- hL];rfl
 have key:∃ys,cD 1 (aX (af 2)) (aB 0) (dH (bH (ag cb (aa (af 0) aj)))) (af 0) [some (.ref i),some (.dat (.tuple [a,c])),some (.dat (.list L))] h2=.ok (.dat (.list ys)) h2/\∀x∈ys,LQ x:=by
  let f:PyData->Bool:=λd=>(cb [.dat d] [] matches .ok (.dat (.bool false)) _)
  have hf:∀d∈L,∃b,(∀h,cb [.dat d] h=.ok (.bool b) h)/\(b=false->LQ d)/\f d=!b:=λd m=>by obtain⟨b,k1,k2⟩:=Jw (od d m) (by decide) (by decide);refine⟨b,k1,k2,?_⟩;simp only[f,k1];cases b<;>rfl
  refine⟨(L.filter f).map id,oh (n:=1) (h1:=h2) (ds:=L) (ow rfl) (by omega) f id (λd m=>?_),λx m=>?_⟩
  ·obtain⟨b,k1,_,k3⟩:=hf d m;refine⟨_,rfl,?_,λ_=>rfl⟩;rw[k3];exact lq (kq (aF (xs:=[.dat d]) rfl (k1 h2)))
  ·rw[List.map_id]at m;obtain⟨m1,m2⟩:=V0.mp m;obtain⟨b,_,k2,k3⟩:=hf x m1;rw[k3]at m2;exact k2 (by simpa using m2)
 obtain⟨ys,ek,hy⟩:=key;exact⟨.dat (.list ys),h2,ic rfl (aQ (du l1) (fo ek)),s1.trans s2,ys,rfl,hy⟩
section
variable {ns:Yj} {r q:Rel} {a b x y:PyData} {kd:Kd}
theorem Gp(Rn:Nr ns)(kd:Kd)(ha:a∈ns)(hb:b∈ns)(h:Hm):ee [.dat (cQ ns r),.dat (.str kd.nm),.dat a,.dat b] h=.ok (.bool (uj kd r a b)) h:=by
 have ix:∀ρ:Fm,ρ[0]?=some (some (.dat (cQ ns r)))->aq fb (af 0) (ah (.int 1)) ρ h=.ok _ h:=λρ e=>aG (x:=.dat (cQ ns r)) (by simp_all) rfl rfl
 have p1:Hl [4,5,6] (aa (aq sZ (cJ (aa (af 2) (aa (af 2) aj))) (aq fb (af 0) (ah (.int 1)))) (aa (aq sZ (cJ (aa (af 3) (aa (af 3) aj))) (aq fb (af 0) (ah (.int 1)))) (aa (aq sZ (cJ (aa (af 3) (aa (af 2) aj))) (aq fb (af 0) (ah (.int 1)))) aj))) [some (.dat (cQ ns r)),some (.dat (.str kd.nm)),some (.dat a),some (.dat b),none,none,none] h =
   .ok (.nx [some (.dat (cQ ns r)),some (.dat (.str kd.nm)),some (.dat a),some (.dat b),some (.bool (r a a)),some (.bool (r b b)),some (.bool (r b a))]) h:=by
  unfold Hl;rw[ax (aG (iy rfl rfl) (ix _ rfl) (zV Rn ha ha h)) (ax (aG (iy rfl rfl) (ix _ rfl) (zV Rn hb hb h)) (ax (aG (iy rfl rfl) (ix _ rfl) (zV Rn hb ha h)) rfl))];rfl
 refine ic rfl (aQ p1 (fo ?_));unfold uj;cases kd<;>cases r a a<;>cases r b b<;>cases r b a<;>kernel_rfl
noncomputable abbrev Fk(ns:Yj)(r:Rel)(kd:Kd)(L:Nat)(x y:Option D):Fm:=[some (.dat (cQ ns r)),some (.dat (.str kd.nm)),some (.ref L),x,y]
noncomputable abbrev hK(h:Hm)(acc:Yj):Hm:=h++[.lst (acc.map D.dat)]
noncomputable abbrev Dc:MS:=lR (oM (aR (aq oEq (af 3) (af 4))) (dH (bH (ag ee (aa (af 0) (aa (af 1) (aa (af 3) (aa (af 4) aj)))))))) (jd (mH eA (af 2) (cJ (aa (af 3) (aa (af 4) aj))))) cC
theorem Aa(Rn:Nr ns):∀{xs acc:Yj},(∀p∈xs,p∈rows ns r)->acc.length+xs.length<=1000->∀a3 a4:Option D,∃b3 b4,eN (gQ (bF (aB 3) (bF (aB 4) gP))) Dc (xs.map D.dat) (Fk ns r kd h.length a3 a4) (hK h acc)=.ok (.nx (Fk ns r kd h.length b3 b4)) (hK h (acc++xs.filter (C7 kd r)))
 | [],acc,_,_,a3,a4=>⟨a3,a4,by simp[eN]⟩
 |p::xs,acc,hs,hl,a3,a4=>by
  obtain⟨a,b,rfl,ha,hb,_⟩:=gn.mp (hs p (by simp));simp only[UR]at hl;have e1:aR (aq oEq (af 3) (af 4)) (Fk ns r kd h.length (some (.dat a)) (some (.dat b))) (hK h acc)=.ok (decide (a=b)) (hK h acc):=cu (aG rfl rfl (EO (fW Rn ha) (fW Rn hb) (Jl Rn ha) _));have e2:dH (bH (ag ee (aa (af 0) (aa (af 1) (aa (af 3) (aa (af 4) aj)))))) (Fk ns r kd h.length (some (.dat a)) (some (.dat b))) (hK h acc)=.ok (!uj kd r a b) (hK h acc):=lq (kq (aF (xs:=[.dat (cQ ns r),.dat (.str kd.nm),.dat a,.dat b]) rfl (Gp Rn kd ha hb _)));have e3:=IX e1 e2;have kc:C7 kd r (.tuple [a,b])=(decide (a=b) || !uj kd r a b):=rfl;rw[<- kc]at e3
  cases z:C7 kd r (.tuple [a,b])with
  |false=>rw[z]at e3;obtain⟨b3,b4,ih⟩:=Aa Rn (h:=h) (xs:=xs) (acc:=acc) (λq m=>hs q (by simp[m])) (by omega) (some (.dat a)) (some (.dat b));refine⟨b3,b4,?_⟩;have st:Dc (Fk ns r kd h.length (some (.dat a)) (some (.dat b))) (hK h acc)=.ok (.nx (Fk ns r kd h.length (some (.dat a)) (some (.dat b)))) (hK h acc):=sU e3 rfl;simp only[U3,eN,gQ,Wt,bF,aB,gP,R.aO,R.eO,WK,We];rw[st];simp only[R.eO,R.aO,List.filter_cons,z,UK,Vr];exact ih
  |true=>
   rw[z]at e3;obtain⟨b3,b4,ih⟩:=Aa Rn (h:=h) (xs:=xs) (acc:=acc++[.tuple [a,b]]) (λq m=>hs q (by simp[m])) (by simp;omega) (some (.dat a)) (some (.dat b));refine⟨b3,b4,?_⟩
   have ap:mH eA (af 2) (cJ (aa (af 3) (aa (af 4) aj))) (Fk ns r kd h.length (some (.dat a)) (some (.dat b))) (hK h acc)=.ok D.none (hK h (acc++[PyData.tuple [a,b]])):=by
    have g:(h++[MO.lst (acc.map D.dat)])[h.length]?=some (.lst (acc.map D.dat)):=by simp
    have c:decide ((acc.map D.dat).length<16777216)=true:=Vc (by rw[US];omega);have t:cJ (aa (af 3) (aa (af 4) aj)) (Fk ns r kd h.length (some (.dat a)) (some (.dat b))) (hK h acc)=.ok (.dat (.tuple [a,b])) (hK h acc):=iy rfl rfl;simp only[mH,af,VZ,Vx,R.aO,Mk,g,Vu];rw[t];simp only[R.aO,eA,g,c,Vu];rw[XH _ _ (Uy _)];simp
   have st:Dc (Fk ns r kd h.length (some (.dat a)) (some (.dat b))) (hK h acc)=.ok (.nx (Fk ns r kd h.length (some (.dat a)) (some (.dat b)))) (hK h (acc++[PyData.tuple [a,b]])):=zP e3 (iw ap);simp only[U3,eN,gQ,Wt,bF,aB,gP,R.aO,R.eO,WK,We];rw[st];simp only[R.eO,R.aO,List.filter_cons,z,Vu];rw[ih];simp
theorem BN(w:Wf h)(e:f xs h=.ok (.dat x) (h++t)):fG f xs h=.ok (.dat x) h:=by
 unfold fG;have  := UM.mpr λo m=>w o m
 simp_all[D.below]
theorem Dd(Rn:Nr ns)(kd:Kd)(w:Wf h):gA [.dat (cQ ns r),.dat (.str kd.nm)] h=.ok (.dat (cQ ns (qa kd r))) h:=by
 have l:=uF (r:=r) (Rn.le);obtain⟨b3,b4,lp⟩:=Aa Rn (xs:=rows ns r) (acc:=[]) (λ_ m=>m) (by grind) none none;have fl:(rows ns r).filter (C7 kd r)=rows ns (qa kd r):=ua Rn (λa b=>decide (a=b) || !uj kd r a b) λa _ b _=>rfl;rw[V2,fl]at lp;have g:(h++[MO.lst ((rows ns (qa kd r)).map D.dat)])[h.length]?=some (.lst ((rows ns (qa kd r)).map D.dat)):=by simp
 have bt:iI [.ref h.length] (h++[.lst ((rows ns (qa kd r)).map D.dat)])=.ok (.dat (.tuple (rows ns (qa kd r)))) (h++[.lst ((rows ns (qa kd r)).map D.dat)]):=by simp[iI,listOf,g,nL]
 refine BN (t:=[.lst ((rows ns (qa kd r)).map D.dat)]) w ?_;exact ic rfl (aQ (du (x:=.ref h.length) (h1:=h++[MO.lst (List.map D.dat [])]) rfl) (aQ (jw (lu (aG (x:=.dat (cQ ns r)) rfl (y:=.int 1) rfl rfl)) lp) (fo (iy (a:=.tuple ns) (aG (x:=.dat (cQ ns r)) rfl (y:=.int 0) rfl rfl) (aF (xs:=[.ref h.length]) rfl bt)))))
end
abbrev xW:Xc:=⟨"NoWeb",[]⟩
abbrev xK:Xc:=⟨"NoKind",[]⟩
theorem LR{d:PyData}(w:LQ d)(h:Hm):eB [.dat d] h=.exc xW h:=by unfold eB kK;simp[w.ok h,zp,jY]
section
variable {ns:Yj} {r:Rel}
theorem BO(Rn:Nr ns)(h:Hm):eB [.dat (cQ ns r)] h=.ok D.none h:=by have:=Jd (zS (r:=r) Rn (Uy _)) (by have:=Rn.le;exact UI (W4 this this) (by decide)) h;simp[eB,kK,this]
noncomputable def Tc(d:PyData):Prop:=∀h:Hm,gz [.dat d] h=.exc xK h
noncomputable def LS:Yj:=[.none,.str "",.str "holw",.str "Whole",.str "half",.tuple [.str "whole"],.list [.str "whole"],.int 1,.bool true,.str "whole ",.str "half",.str "stage",.str "peaceful"]
theorem LU:∀d∈LS,Tc d:=by intro d m h;simp[LS]at m;rcases m with rfl|rfl|rfl|rfl|rfl|rfl|rfl|rfl|rfl|rfl|rfl|rfl|rfl<;>rfl
theorem Td{d:PyData}(w:LQ d)(x:D)(h:Hm):bD [.dat d,x] h=.exc xW h:=by unfold bD j8;simp[LR w h]
theorem Te(Rn:Nr ns){d:PyData}(w:Tc d)(h:Hm):bD [.dat (cQ ns r),.dat d] h=.exc xK h:=by unfold bD j8;simp[BO Rn h,w h]
theorem Tf{d x:D}{h:Hm}{c:Xc}(e:bD [d,x] h=.exc c h):f9 [d,x] h=.exc c h:=by simp[f9,vB,e]
theorem Tg{d x:D}{h:Hm}{c:Xc}(e:bD [d,x] h=.exc c h):gN [d,x] h=.exc c h:=by simp[gN,tJ,e]
theorem LV(kd:Kd)(h:Hm):gz [.dat (.str kd.nm)] h=.ok D.none h:=by cases kd<;>rfl
theorem MH(Rn:Nr ns)(kd:Kd)(h:Hm):bD [.dat (cQ ns r),.dat (.str kd.nm)] h=.ok (.dat (cQ ns (qa kd r))) h:=by
 have k:=Gk (r:=r) Rn kd h;obtain⟨R,h1,h2⟩:∃R,wI=bg _ _/\j8=bg _ (bg _ R):=⟨_,rfl,rfl⟩;have e1:wI [some (.dat (cQ ns r)),some (.dat (.str kd.nm)),none,none,none,none,none] h=R [some (.dat (cQ ns r)),some (.dat (.str kd.nm)),none,none,none,none,none] h:=by rw[h1];exact aQ (iw (aF rfl (BJ Rn h))) (aQ (iw (aF rfl (Ji kd h))) rfl)
 have e2:j8 [some (.dat (cQ ns r)),some (.dat (.str kd.nm)),none,none,none,none,none] h=R [some (.dat (cQ ns r)),some (.dat (.str kd.nm)),none,none,none,none,none] h:=by rw[h2];exact aQ (iw (aF rfl (BO Rn h))) (aQ (iw (aF rfl (LV kd h))) rfl)
 exact(WH (λr=>Ml.R.bind r sY) (e2.trans e1.symm)).trans k
end
def BP:MO:=.tab oG sv
noncomputable def wd:Xc->PyData
 |x=>.tuple [.str (wordAt ((clsAt x.cls).getD 0))]
theorem Jx{x:Xc}{idx:List Nat}{b:ME}{ρ:Fm}{h:Hm}(hx:x=xW\/x=xK)(t:h[0]?=some BP)(hs:(pick ρ idx).all Option.isSome=true)(e:b (pick ρ idx) h=.exc x h):tG [0,3] 0 oG sv idx b ρ h=.ok (.dat (wd x)) h:=by unfold tG;rw[t];simp[BP,hs];rw[e];rcases hx with rfl|rfl<;>rfl
theorem Jy{d k:PyData}{x:Xc}(hx:x=xW\/x=xK){h:Hm}(w:Wf h)(t:h[0]?=some BP)(e:∀h,bD [.dat d,.dat k] h=.exc x h):eG [.dat d,.dat k] h=.ok (.dat (.list [wd x,wd x,wd x])) h:=by
 have tl:∀o:MO,(h++[o])[0]?=some BP:=λo=>by rw[UX (UB.mp t).1];exact t
 have a1:=Jx (idx:=[0,1]) (b:=ag bD (aa (af 0) (aa (af 1) aj))) (ρ:=[some (.dat d),some (.dat k),none]) hx t rfl (by simp[pick,e]);have g1:(h++[MO.lst [.dat (wd x)]])[h.length]?=some (.lst [.dat (wd x)]):=by simp
 have a2:=Jx (idx:=[0,1]) (b:=ag f9 (aa (af 0) (aa (af 1) aj))) (ρ:=[some (.dat d),some (.dat k),some (.ref h.length)]) hx (tl (.lst [.dat (wd x)])) rfl (by simp[pick,Tf (e _)]);have g2:(h++[MO.lst [.dat (wd x),.dat (wd x)]])[h.length]?=some (.lst [.dat (wd x),.dat (wd x)]):=by simp
 have a3:=Jx (idx:=[0,1]) (b:=ag gN (aa (af 0) (aa (af 1) aj))) (ρ:=[some (.dat d),some (.dat k),some (.ref h.length)]) hx (tl (.lst [.dat (wd x),.dat (wd x)])) rfl (by simp[pick,Tg (e _)]);have s2:jd (mH eA (af 2) (tG [0,3] 0 oG sv [0,1] (ag f9 (aa (af 0) (aa (af 1) aj))))) [some (.dat d),some (.dat k),some (.ref h.length)] (h++[.lst [.dat (wd x)]])=.ok (.nx [some (.dat d),some (.dat k),some (.ref h.length)]) (h++[.lst [.dat (wd x),.dat (wd x)]]):=by unfold jd mH;simp only[af,VZ,Vx,R.aO,Mk,g1,Vu,a2];simp[eA,g1]
 have run:qR [.dat d,.dat k] h=.ok (.dat (.list [wd x,wd x,wd x])) (h++[.lst [.dat (wd x),.dat (wd x)]]):=
  ic rfl (aQ (du (x:=.ref h.length) ((bS (f:=DK) (ax a1 rfl)).trans rfl)) (aQ s2 (fo (aG (x:=.ref h.length) rfl ((bS (f:=fF) (ax a3 rfl)).trans (IQ _ _)) (by simp[KQ,listOf,g2,gJ,D.data,jY])))))
 exact BN w run
theorem Ps.BQ{i:Nat}{h h':Hm}{P:Addr}{q:Str}(b:Px i h)(s:Ps i h h')(t:h[0]?=some (.tab P q)):h'[0]?=some (.tab P q):=by
 obtain⟨n,f,rfl⟩:=s;by_cases hi:i=0
 ·subst hi;obtain⟨⟨m,g,e⟩,_⟩:=b
  grind
 simp_all
theorem ES{i:Nat}{g:MG}{b:MS}{P:Addr}{q:Str}(I:Fm->Prop):∀{ds:Yj} {h:Hm} {ρ:Fm},Px i h->h[0]?=some (.tab P q)->(∀d∈ds,∀ρ h,Px i h->h[0]?=some (.tab P q)->I ρ->∃ρ1 ρ2 h2,g (.dat d) ρ h=.ok ρ1 h/\b ρ1 h=.ok (.nx ρ2) h2/\Ps i h h2/\I ρ2)->I ρ->∃ρ' h',eN g b (ds.map D.dat) ρ h=.ok (.nx ρ') h'/\Ps i h h'/\I ρ'
 | [],h,ρ,p,_,_,a=>⟨ρ,h,rfl,p.refl,a⟩
 |d::ds,h,ρ,p,t,H,a=>by obtain⟨ρ1,ρ2,h2,e1,e2,s2,a2⟩:=H d (by simp) ρ h p t a;obtain⟨ρ',h',e3,s3,a3⟩:=ES (i:=i) (g:=g) (b:=b) I (ds:=ds) (s2.px p) (s2.BQ p t) (λx m=>H x (by simp[m])) a2;refine⟨ρ',h',?_,s2.trans s3,a3⟩;simp only[U3];unfold eN;rw[e1];simp only[R.eO,R.aO];rw[e2];simp only[R.eO,R.aO];exact e3
theorem Ab{g:MG}{b:MS}{T:MO}(I:Fm->Prop){ds:Yj}(hd:∀d∈ds,∃z:Int,d=.int z)(H:∀(z:Int) ρ h,Wf h->h[0]?=some T->I ρ->∃ρ1 ρ2 h2,g (.int z) ρ h=.ok ρ1 h/\b ρ1 h=.ok (.nx ρ2) h2/\Wf h2/\h2[0]?=some T/\I ρ2):∀{h:Hm} {ρ:Fm},Wf h->h[0]?=some T->I ρ->∃ρ' h',eN g b (ds.map D.dat) ρ h=.ok (.nx ρ') h'/\I ρ':=by
 induction ds with
 |nil=>exact λ{h ρ} w t a=>⟨ρ,h,rfl,a⟩
 |cons d ds ih=>intro h ρ w t a;obtain⟨z,rfl⟩:=hd d (by simp);obtain⟨ρ1,ρ2,h2,e1,e2,w2,t2,a2⟩:=H z ρ h w t a;obtain⟨ρ',h',e3,a3⟩:=ih (λx m=>hd x (by simp[m])) w2 t2 a2;refine⟨ρ',h',?_,a3⟩;simp only[U3];unfold eN;rw[e1];simp only[R.eO,R.aO];rw[e2];simp only[R.eO,R.aO];exact e3
section
variable {ns:Yj} {r:Rel}
theorem Jz(Rn:Nr ns)(nl:ns.length<=7):Ok 740 2 (.tuple (rows ns r)):=by have lr:(rows ns r).length<=49:=UI rJ (W4 nl nl);exact((gE.of λd m=>(ly ((eL Rn).sub d m)).2.2.2.2.2).mono (by omega) (Uy _)).tup
theorem JA(Rn:Nr ns)(nl:ns.length<=7):Ok 900 3 (cQ ns r):=by have o1  := (zS (r:=r) Rn (Uy _)).Ri;exact((gE.cons (o1.mono (Uy _) (by decide)) (gE.one (Jz Rn nl))).mono (by omega) (Uy _)).tup
noncomputable abbrev F9(a0 a1 a2 a3:Option D)(w:PyData)(a5 a6 a7 a8:Option D):Fm:=[a0,a1,a2,a3,some (.dat w),a5,a6,a7,a8]
noncomputable abbrev OZ:MS:=bg (cR 7 (ag gA (aa (af 4) (aa (af 6) aj))))
  (lR (aR (aq ur (ag lC (aa (oB (aa (ag bD (aa (af 4) (aa (af 6) aj))) (aa (ag bD (aa (af 4) (aa (af 6) aj))) (aa (ag bD (aa (af 7) (aa (af 6) aj))) aj)))) aj)) (ag lC (aa (oB (aa (af 7) (aa (af 7) (aa (af 7) aj)))) aj)))) (bN (ah (.bool false))) cC)
theorem LW(Rn:Nr ns)(nl:ns.length<=7)(kd:Kd){h:Hm}(w:Wf h)(a0 a1 a2 a3 a5 a7 a8:Option D):∃b7,OZ (F9 a0 a1 a2 a3 (cQ ns r) a5 (some (.dat (.str kd.nm))) a7 a8) h=.ok (.nx (F9 a0 a1 a2 a3 (cQ ns r) a5 (some (.dat (.str kd.nm))) b7 a8)) h:=by
 have k1:=MH (r:=r) Rn kd h;have k2:=MH (r:=qa kd r) Rn kd h;have e:cQ ns (qa kd (qa kd r))=cQ ns (qa kd r):=by simp only[cQ,(LN (ns:=ns) (kd:=kd) (r:=r)).Jv]
 rw[e]at k2;have o:=JA (r:=qa kd r) Rn nl;have rp:=wu ((gE.cons o (gE.cons o (gE.one o))).lst) h (by decide) (by decide);exact⟨_,aQ (du (aF (xs:=[.dat (cQ ns r),.dat (.str kd.nm)]) rfl (Dd Rn kd w))) (sU (h1:=h) (cu (aG (aF (ax ((bS (f:=fF) (ax (aF (xs:=[.dat (cQ ns r),.dat (.str kd.nm)]) rfl k1) (ax (aF (xs:=[.dat (cQ ns r),.dat (.str kd.nm)]) rfl k1) (ax (aF (xs:=[.dat (cQ ns (qa kd r)),.dat (.str kd.nm)]) rfl k2) rfl)))).trans (zH _ _ _ _)) rfl) rp) (aF (ax ((bS (f:=fF) (ax (x:=.dat (cQ ns (qa kd r))) rfl (ax (x:=.dat (cQ ns (qa kd r))) rfl (ax (x:=.dat (cQ ns (qa kd r))) rfl rfl)))).trans (zH _ _ _ _)) rfl) rp) (f:=ur) (by simp[ur]))) rfl)⟩
theorem ne3{x:Xc}(hx:x=xW\/x=xK)(h:Hm):ur (.dat (.list [wd x,wd x,wd x])) (.dat (.list [wd x,wd x,wd x])) h=.ok (.bool false) h:=by
 have:eqQ (.list [wd x,wd x,wd x]) (.list [wd x,wd x,wd x])=some true:=by rcases hx with rfl|rfl<;>decide +kernel
 simp[ur,this]
noncomputable abbrev O0:MS:=lR (aR (aq ur (ag eG (aa (af 4) (aa (af 8) aj))) (aq pG (ah (.list [.tuple [.str "kind"]])) (ah (.int 3))))) (bN (ah (.bool false))) cC
theorem LX(Rn:Nr ns){d:PyData}(nk:Tc d){h:Hm}(w:Wf h)(t:h[0]?=some BP)(a0 a1 a2 a3 a5 a6 a7:Option D):O0 (F9 a0 a1 a2 a3 (cQ ns r) a5 a6 a7 (some (.dat d))) h=.ok (.nx (F9 a0 a1 a2 a3 (cQ ns r) a5 a6 a7 (some (.dat d)))) h:=
 sU (h1:=h) (cu (aG (aF (xs:=[.dat (cQ ns r),.dat d]) rfl (Jy (.inr rfl) w t λh=>Te Rn nk h)) (y:=.dat (.list [wd xK,wd xK,wd xK])) rfl (ne3 (.inr rfl) h))) rfl
noncomputable abbrev O1:MS:=lR (aR (aq ur (ag eG (aa (af 8) (aa (ah .none) aj))) (aq pG (ah (.list [.tuple [.str "web"]])) (ah (.int 3))))) (bN (ah (.bool false))) cC
theorem LY{d:PyData}(nw:LQ d){h:Hm}(w:Wf h)(t:h[0]?=some BP)(a0 a1 a2 a3 a5 a6 a7:Option D)(x:PyData):O1 (F9 a0 a1 a2 a3 x a5 a6 a7 (some (.dat d))) h=.ok (.nx (F9 a0 a1 a2 a3 x a5 a6 a7 (some (.dat d)))) h:=
 sU (h1:=h) (cu (aG (aF (xs:=[.dat d,.dat .none]) rfl (Jy (.inl rfl) w t λh=>Td nw _ h)) (y:=.dat (.list [wd xW,wd xW,wd xW])) rfl (ne3 (.inl rfl) h))) rfl
end
noncomputable abbrev Q7:MS:=bg (cR 4 (ag gB (aa (af 2) (aa (af 3) aj))))
  (bg (cR 5 (ag lC (aa (af 4) aj)))
  (bg (oC (aX (ag eR aj)) (aB 6) OZ)
  (bg (oC (aX (aq dI (ag gV aj) (ah (.list [.str "half",.str "stage",.str "peaceful"])))) (aB 8) O0)
  (bg (oC (aX (ag fL (aa (af 2) (aa (af 4) aj)))) (aB 8) O1)
  (lR (aR (aq ur (ag lC (aa (af 4) aj)) (af 5))) (bN (ah (.bool false))) cC)))))
theorem JB:∀ns:List Int,ns.length<=63->∃h,Em [.scr ns] [.tab oG sv]=.ok (.bool true) h:=by
 intro ns hn;obtain⟨ds,ec,hd⟩:=Ju ns 3 (ρ:=[some (.scr ns),none,none,none,none,none,none,none,none]) rfl hn [.tab oG sv]
 obtain⟨ρ',h',e,_⟩:=Ab (g:=aB 1) (T:=BP) (b:=bg (cR 2 (ag iN (aa (af 1) aj)))
  (oC (aX (ag eF (aa (af 2) (aa (ah (.int 6)) aj)))) (aB 3) Q7))
  (λρ=>∃a1 a2 a3 a4 a5 a6 a7 a8,ρ=[some (.scr ns),a1,a2,a3,a4,a5,a6,a7,a8]) hd (by
   rintro z ρ h w t ⟨a1,a2,a3,a4,a5,a6,a7,a8,e⟩;subst e;obtain⟨n,f,ep,px⟩:=OV z w;have t1:(h++[MO.lst [.int n,.int f]])[0]?=some BP:=by rw[UX (UB.mp t).1];exact t
   obtain⟨_,h2,e2,s2,n1,n2,n3,r1,r2,r3,rfl,rn1,rn2,rn3,l1,l2,l3⟩:=zZ px (m:=6) (by decide);have p2:=s2.px px;have t2:=s2.BQ px t1
   obtain⟨ρ3,h3,e3,s3,b3,b4,b5,b6,b7,b8,rfl⟩:=ES (i:=h.length) (g:=aB 3) (b:=Q7)
    (λρ=>∃b3 b4 b5 b6 b7 b8,ρ=[some (.scr ns),some (.int z),some (.ref h.length),b3,b4,b5,b6,b7,b8]) (ds:=[cQ n1 r1,cQ n2 r2,cQ n3 r3]) (ρ:=[some (.scr ns),some (.int z),some (.ref h.length),a3,a4,a5,a6,a7,a8]) p2 t2 (by
     rintro d hd ρ hh p t ⟨b3,b4,b5,b6,b7,b8,e⟩;subst e
     obtain⟨N,r,rfl,rn,ln⟩:∃(N:Yj) (r:Rel),d=cQ N r/\Nr N/\N.length<=6:=by
      simp only[UC,UW,VH]at hd;rcases hd with rfl|rfl|rfl
      ·exact⟨_,_,rfl,rn1,by omega⟩
      ·exact⟨_,_,rfl,rn2,by omega⟩
      ·exact⟨_,_,rfl,rn3,by omega⟩
     obtain⟨_,h4,e4,s4,q,rfl⟩:=Gm p (r:=r) rn (by omega);have p4:=s4.px p;have t4:=s4.BQ p t;have wt:=JA (r:=q) rn (by omega);have rp:=wu wt h4 (by decide) (by decide)
     obtain⟨ρ5,e5,c6,c7,rfl⟩:=wN (g:=aB 6) (b:=OZ) (ds:=RM) (h:=h4)
      (λρ=>∃c6 c7,ρ=F9 (some (.scr ns)) (some (.int z)) (some (.ref h.length)) (some (.dat (cQ N r))) (cQ N q) (some (.rpr (cQ N q).shown)) c6 c7 b8) (by
       rintro d hd ρ ⟨c6,c7,e⟩;subst e;obtain⟨kd,rfl⟩:=OY hd;obtain⟨d7,e⟩:=LW (r:=q) rn (by omega) kd p4.wf (some (.scr ns)) (some (.int z)) (some (.ref h.length)) (some (.dat (cQ N r))) (some (.rpr (cQ N q).shown)) c7 b8
       exact⟨_,_,rfl,e,_,_,rfl⟩) (ρ:=F9 (some (.scr ns)) (some (.int z)) (some (.ref h.length)) (some (.dat (cQ N r))) (cQ N q) (some (.rpr (cQ N q).shown)) b6 b7 b8) ⟨_,_,rfl⟩
     obtain⟨ρ6,e6,c8,rfl⟩:=wN (g:=aB 8) (b:=O0) (ds:=LS) (h:=h4)
      (λρ=>∃c8,ρ=F9 (some (.scr ns)) (some (.int z)) (some (.ref h.length)) (some (.dat (cQ N r))) (cQ N q) (some (.rpr (cQ N q).shown)) c6 c7 c8) (λd hd ρ ⟨c8,e⟩=>by
       subst e
       exact⟨_,_,rfl,LX (r:=q) rn (LU d hd) p4.wf t4 _ _ _ _ _ _ _,_,rfl⟩) ⟨b8,rfl⟩
     obtain⟨_,h5,e7,s5,ys,rfl,hy⟩:=Gn p4 wt (by decide);have p5:=s5.px p4;have t5:=s5.BQ p4 t4
     obtain⟨ρ7,e8,c8',rfl⟩:=wN (g:=aB 8) (b:=O1) (ds:=ys) (h:=h5)
      (λρ=>∃c8,ρ=F9 (some (.scr ns)) (some (.int z)) (some (.ref h.length)) (some (.dat (cQ N r))) (cQ N q) (some (.rpr (cQ N q).shown)) c6 c7 c8) (λd hd ρ ⟨c8,e⟩=>by
       subst e
       exact⟨_,_,rfl,LY (hy d hd) p5.wf t5 _ _ _ _ _ _ _ _,_,rfl⟩) ⟨c8,rfl⟩
     have rp5:=wu wt h5 (by decide) (by decide)
     exact⟨_,_,h5,rfl,aQ (du (aF (xs:=[.ref h.length,.dat (cQ N r)]) rfl e4)) (aQ (du (aF (xs:=[.dat (cQ N q)]) rfl rp)) (aQ (jw (ow (ds:=RM) rfl) e5) (aQ (jw (ow (ds:=LS) rfl) e6) (aQ (jw (ow (aF (xs:=[.ref h.length,.dat (cQ N q)]) rfl e7)) e8) (sU (h1:=h5) (cu (aG (aF (xs:=[.dat (cQ N q)]) rfl rp5) (y:=.rpr (cQ N q).shown) rfl (f:=ur) (by simp[ur]))) rfl))))),s4.trans s5,_,_,_,_,_,_,rfl⟩) ⟨_,_,_,_,_,_,rfl⟩
   exact⟨_,_,h3,rfl,aQ (du (aF (xs:=[.int z]) rfl ep)) (jw (ow (aF (xs:=[.ref h.length,.int 6]) rfl e2)) e3),(s3.px p2).wf,s3.BQ p2 t2,_,_,_,_,_,_,_,_,rfl⟩) (h:=[.tab oG sv]) (ρ:=[some (.scr ns),none,none,none,none,none,none,none,none]) (λo m=>by simp at m;subst m;rfl) rfl ⟨_,_,_,_,_,_,_,_,rfl⟩
 exact⟨h',ic rfl (aQ (jw ec e) (fo rfl))⟩
section
variable {P:Yl->Prop}
theorem O6(h:P []) us(hl:us.length=0):P us:=List.eq_nil_of_length_eq_zero hl▸h
theorem LZ(h:∀a us,us.length=n->P (a::us)) us(hl:us.length=n+1):P us:=by
 cases us with
 |nil=>cases hl
 |cons a us=>exact h a us (Nat.succ.inj hl)
theorem all1(h:∀a,P [a]):∀us,us.length=1->P us:=LZ λa=>O6 (h a)
theorem all2(h:∀a b,P [a,b]):∀us,us.length=2->P us:=LZ λa=>all1 (h a)
theorem JC(h:∀a b c,P [a,b,c]):∀us,us.length=3->P us:=LZ λa=>all2 (h a)
theorem Th(h:∀a b c d,P [a,b,c,d]):∀us,us.length=4->P us:=LZ λa=>JC (h a)
end
end Ml
namespace K13
open PySem L2 Ml
theorem O7{K:Ym}{h:Heap}{mg:Yi}{k0:Tok}{k1:Tok}{xc0:Addr}{xc1:Addr}{ta0:Addr}{fb0:Addr}(X:K.In h)(G:h.Ns mainGlobals mg)
 (z0:PySem.W.nsIn K mainGlobals "all" = some none)
 (z1:PySem.W.nsIn K mainGlobals "len" = some none)
 (z2:PySem.W.nsIn K mainGlobals "isinstance" = some none)
 (z3:PySem.W.nsIn K mainGlobals "str" = some none)
 (z4:PySem.W.nsIn K mainGlobals "zip" = some none)
 (z5:PySem.W.nsIn K mainGlobals "tuple" = some none)
 (z6:PySem.W.nsIn K mainGlobals "int" = some none)
 (z7:PySem.W.nsIn K mainGlobals "max" = some none)
 (z8:PySem.W.nsIn K mainGlobals "divmod" = some none)
 (z9:PySem.W.nsIn K mainGlobals "sorted" = some none)
 (z10:PySem.W.nsIn K mainGlobals "range" = some none)
 (z11:PySem.W.nsIn K mainGlobals "list" = some none)
 (z12:PySem.W.nsIn K mainGlobals "set" = some none)
 (z13:PySem.W.nsIn K mainGlobals "repr" = some none)
 (a0:PySem.W.nsIn K mainGlobals "LONGEST_NAME" = some (some (.int 6 k0)))
 (a1:PySem.W.nsIn K mainGlobals "MOST_NAMES" = some (some (.int 12 k1)))
 (xn0:PySem.W.nsIn K mainGlobals "NoWeb" = some (some (.ref xc0)))(xe0:PySem.W.excIn K xc0 Oi HZ=true)
 (xn1:PySem.W.nsIn K mainGlobals "NoKind" = some (some (.ref xc1)))(xe1:PySem.W.excIn K xc1 Oi HZ=true)
 (fn0:PySem.W.nsIn K mainGlobals "IDLE" = some (some (.ref fb0)))(fk0:Sr K fb0 sk=true)
 (tn0:PySem.W.nsIn K mainGlobals "KINDS" = some (some (.ref ta0)))(tk0:Sq K ta0 uy=true)
  : Txt K mg:=⟨U8 X G z0,U8 X G z1,U8 X G z2,U8 X G z3,U8 X G z4,U8 X G z5,U8 X G z6,U8 X G z7,U8 X G z8,U8 X G z9,U8 X G z10,U8 X G z11,U8 X G z12,U8 X G z13,⟨_,U4 X G a0⟩,⟨_,U4 X G a1⟩,⟨_,U4 X G xn0,⟨xn0,xe0⟩⟩,⟨_,U4 X G xn1,⟨xn1,xe1⟩⟩,⟨_,U4 X G fn0,Oz (λ_ _=>U4 X G) fk0⟩,⟨_,U4 X G tn0,Ox tk0⟩⟩
structure JD(K:Ym)(mg:Yi)(cs:Nat->Addr)(WE:Addr):Prop where
 c:Wh.KJ mg cs
 r:Wh.Refs K cs WE [0,3]
 we:mg "WebError" = some (.ref WE)
theorem O8{K:Ym}{h:Heap}{mg:Yi}{c0 c1 c2 c3 c4 c5 c6 c7 c8 c9 c10 c11 c12 c13 WE:Addr}(X:K.In h)(G:h.Ns mainGlobals mg)
 (n0:PySem.W.nsIn K mainGlobals "NoWeb" = some (some (.ref c0)))
 (n1:PySem.W.nsIn K mainGlobals "NoLot" = some (some (.ref c1)))
 (n2:PySem.W.nsIn K mainGlobals "NoName" = some (some (.ref c2)))
 (n3:PySem.W.nsIn K mainGlobals "NoKind" = some (some (.ref c3)))
 (n4:PySem.W.nsIn K mainGlobals "NoPair" = some (some (.ref c4)))
 (n5:PySem.W.nsIn K mainGlobals "NoChanges" = some (some (.ref c5)))
 (n6:PySem.W.nsIn K mainGlobals "NoCount" = some (some (.ref c6)))
 (n7:PySem.W.nsIn K mainGlobals "NoShut" = some (some (.ref c7)))
 (n8:PySem.W.nsIn K mainGlobals "NoWay" = some (some (.ref c8)))
 (n9:PySem.W.nsIn K mainGlobals "NoJoint" = some (some (.ref c9)))
 (n10:PySem.W.nsIn K mainGlobals "NoSide" = some (some (.ref c10)))
 (n11:PySem.W.nsIn K mainGlobals "NoDeed" = some (some (.ref c11)))
 (n12:PySem.W.nsIn K mainGlobals "TooMany" = some (some (.ref c12)))
 (n13:PySem.W.nsIn K mainGlobals "NoText" = some (some (.ref c13)))
 (we:PySem.W.nsIn K mainGlobals "WebError" = some (some (.ref WE)))(ve:PySem.W.nsIn K mainGlobals "ValueError" = some none)
 (i0:(PySem.W.clsIn K c0).isSome=true)(g0:PySem.W.findIn K (.ref c0) "__getattribute__" = some (some (.builtin "BaseException.__getattribute__")))(ga0:PySem.W.findIn K (.ref c0) "__getattr__" = some none)(be0:PySem.W.mroIn K c0 (.type "BaseException")=some true)(a0:PySem.W.findIn K (.ref c0) "__class__" = some (some (.builtin "object.__class__")))(m0:PySem.W.mroIn K c0 (.type "object")=some true)
 (k0:Wh.kindB K [c0,c1,c2,c3,c4,c5,c6,c7,c8,c9,c10,c11,c12,c13] c0 WE 0=true)
 (i3:(PySem.W.clsIn K c3).isSome=true)(g3:PySem.W.findIn K (.ref c3) "__getattribute__" = some (some (.builtin "BaseException.__getattribute__")))(ga3:PySem.W.findIn K (.ref c3) "__getattr__" = some none)(be3:PySem.W.mroIn K c3 (.type "BaseException")=some true)(a3:PySem.W.findIn K (.ref c3) "__class__" = some (some (.builtin "object.__class__")))(m3:PySem.W.mroIn K c3 (.type "object")=some true)
 (k3:Wh.kindB K [c0,c1,c2,c3,c4,c5,c6,c7,c8,c9,c10,c11,c12,c13] c3 WE 3=true)
 (sp:PySem.W.specialIn K (.builtin "object.__class__") "__get__" = some (some (.builtin "getset_descriptor.__get__")))(tk:PySem.W.takesIn K (.builtin "object.__class__")=some true):∃cs WE,JD K mg cs WE:=by
 obtain⟨q0,e0⟩:=Wh.A3 k0 ⟨i0,g0,ga0,be0,a0,sp,tk,m0⟩;obtain⟨q3,e3⟩:=Wh.A3 k3 ⟨i3,g3,ga3,be3,a3,sp,tk,m3⟩;refine⟨Wh.So [c0,c1,c2,c3,c4,c5,c6,c7,c8,c9,c10,c11,c12,c13],WE,⟨U8 X G ve,U4 X G n0,U4 X G n1,U4 X G n2,U4 X G n3,U4 X G n4,U4 X G n5,U4 X G n6,U4 X G n7,U4 X G n8,U4 X G n9,U4 X G n10,U4 X G n11,U4 X G n12,U4 X G n13⟩,λj hj=>?_,U4 X G we⟩;simp only[UC,UW,VH]at hj;rcases hj with rfl|rfl
 ·exact⟨q0,e0⟩
 ·exact⟨q3,e3⟩
theorem all_mk{l:PySem.W.OpenLaw}{w:World}{K:Ym}{h:Heap}{mg:Yi}{fa f:Addr}{od an:Option Addr}{sl:Yp}{oc kV dc pm cd ct:Value}(X:K.In h)(G:h.Ns mainGlobals mg)(hfa:mg "law" = some (.ref fa))(T:Txt K mg)(CA:∃cs WE,JD K mg cs WE)
 (d0:Df K mg "is_name" ["thing"] sE)
 (d1:Df K mg "is_rising" ["things"] mQ)
 (d2:Df K mg "are_names" ["thing"] mU)
 (d3:Df K mg "is_strike" ["thing", "names"] mW)
 (d4:Df K mg "are_strikes" ["thing", "names"] jI)
 (d5:Df K mg "is_web" ["thing"] vW)
 (d6:Df K mg "check_web" ["thing"] mZ)
 (d7:Df K mg "check_kind" ["thing"] kS)
 (d8:Df K mg "idle_for_stable" ["strikes", "one", "other"] fP)
 (d9:Df K mg "idle_for_standing" ["strikes", "one", "other"] eS)
 (d10:Df K mg "idle_for_whole" ["strikes", "one", "other"] gf)
 (d11:Df K mg "idle_for_grounded" ["strikes", "one", "other"] eU)
 (d12:Df K mg "kernel" ["web", "kind"] vY)
 (d13:Df K mg "fullest" ["web", "kind"] sL)
 (d14:Df K mg "how_many" ["web", "kind"] pR)
 (d15:Df K mg "_law_cell" ["_law_script", "_law_k"] nj)
 (d16:Df K mg "_law_pen" ["_law_cell_here"] pT)
 (d17:Df K mg "_law_draw" ["_law_pen_here", "_law_many"] nu)
 (d18:Df K mg "_law_names" ["_law_pen_here", "_law_most"] kU)
 (d19:Df K mg "_law_web" ["_law_pen_here", "_law_most"] pV)
 (d20:Df K mg "_law_odd" ["_law_pen_here"] pY)
 (d21:Df K mg "_law_is_name" ["_law_thing"] iR)
 (d22:Df K mg "_law_is_rising" ["_law_thing"] gh)
 (d23:Df K mg "_law_is_web" ["_law_thing"] jK)
 (d24:Df K mg "_law_bent" ["_law_pen_here", "_law_thing"] nB)
 (d25:Df K mg "_law_no_webs" ["_law_pen_here", "_law_web_here"] iT)
 (d26:Df K mg "_law_no_kinds" [] gW)
 (d27:Df K mg "_law_kernel_kinds" [] eW)
 (d28:Df K mg "_law_is_idle" ["_law_web_here", "_law_kind", "_law_one", "_law_other"] iV)
 (d29:Df K mg "_law_kernel" ["_law_web_here", "_law_kind"] jM)
 (d30:Df K mg "_law_some_webs" ["_law_pen_here", "_law_most"] gk)
 (d31:Df K mg "_law_selves" ["_law_pen_here", "_law_web_here"] jO)
 (d32:Pj K mg "_law_words" ["_law_web_here", "_law_kind"] eJ oG)
 (dw:Df K mg "_law_marks" ["_law_e"] sS)(ds:Df K mg "_law_said" ["_law_call"] yz)
 (a:PySem.W.nsIn K mainGlobals "law" = some (some (.ref f)))(l0:K.lookup f=some ⟨oc,od,.func (PySem.W.fnOf "law" "law" (fi rA) (bV rA) (ao rA) .none kV dc pm an cd ct),sl⟩)(c:PySem.W.codeIn K cd "law" = true)(k:PySem.W.keepIn K (.ref f)=true) :
  ∃(fd:FuncData) (c:Addr),PySem.W.codeHdIn K c oG=true/\(∀(s:Yw) (v:Value),BindsTo s fd ⟨[v],[]⟩ [("_law_script",v)])/\∀base:Heap,K.In base->base.Ns mainGlobals mg->(∃bm,BMod base mg bm)->jT l.prog w K mg base (ja l.prog w) 10 fa fd ["_law_script"] (JE ⟨l.prog,w,mg,K⟩ Em):=by
 have e:=hfa.symm.trans (U4 X G a);cases e;have FL:=yO (st:=rA) l0 c k;obtain⟨cs,WE,CA⟩:=CA;obtain⟨fB,cB,oB1,oB2,oB3,oB4,oB5,oB6,oB7,oB8,mB,lB,cdB,htB,kpB,bB⟩:=id d32;refine⟨PySem.W.fnOf "law" "law" (fi rA) (bV rA) (ao rA) .none kV dc pm an cd ct,cB,htB,λs v=>.of_eq rfl,λbase _ _ BM=>?_⟩;obtain⟨bm,BM⟩:=BM;obtain⟨fw,fdw,mw,Fw,bw⟩:=dw;obtain⟨fq,fdq,mq,Fq,bq⟩:=ds;have HW:Ce l.prog w K mg base "_law_marks" ["_law_e"] 1 (Wh.uw K cs):=⟨fw,fdw,mw,Fw.kp,bw,IP Fw T.n_isinstance CA.c⟩;have HS:yX l.prog w K mg base "_law_said" ["_law_call"] 8 (xS l.prog w K mg base 7 (Eg (Wh.A0 K cs WE))):=⟨fq,fdq,mq,Fq.kp,bq,Lf 6 Fq CA.we HW⟩;have HX:Eh mg [0,3] (Wh.A0 K cs WE):=Wh.Qx CA.c CA.r;have H_is_name:=F3 (P:=l.prog) (w:=w) (base:=base) d0 T;have H_is_rising:=Bs (P:=l.prog) (w:=w) (base:=base) d1 T;have H_are_names:=Bt (P:=l.prog) (w:=w) (base:=base) d2 T H_is_rising H_is_name;have H_is_strike:=Bu (P:=l.prog) (w:=w) (base:=base) d3 T;have H_are_strikes:=xp (P:=l.prog) (w:=w) (base:=base) d4 T H_is_rising H_is_strike;have H_is_web:=IL (P:=l.prog) (w:=w) (base:=base) d5 T H_are_strikes H_are_names;have H_check_web:=Bw (P:=l.prog) (w:=w) (base:=base) d6 T H_is_web;have H_check_kind:=zD (P:=l.prog) (w:=w) (base:=base) d7 T;have H_idle_for_stable:=qY (P:=l.prog) (w:=w) (base:=base) d8 T;have H_idle_for_standing:=oH (P:=l.prog) (w:=w) (base:=base) d9 T;have H_idle_for_whole:=sJ (P:=l.prog) (w:=w) (base:=base) d10 T;have H_idle_for_grounded:=oJ (P:=l.prog) (w:=w) (base:=base) d11 T;have H_kernel:=IM (P:=l.prog) (w:=w) (base:=base) d12 T H_idle_for_grounded H_idle_for_standing H_idle_for_stable H_idle_for_whole H_check_kind H_check_web;have H_fullest:=F4 (P:=l.prog) (w:=w) (base:=base) d13 T H_kernel;have H_how_many:=CO (P:=l.prog) (w:=w) (base:=base) d14 T H_kernel;have H__law_cell:=By (P:=l.prog) (w:=w) (base:=base) d15 T;have H__law_pen:=CP (P:=l.prog) (w:=w) (base:=base) d16 T;have H__law_draw:=Bz (P:=l.prog) (w:=w) (base:=base) d17 T;have H__law_names:=zF (P:=l.prog) (w:=w) (base:=base) d18 T H__law_draw;have H__law_web:=CQ (P:=l.prog) (w:=w) (base:=base) d19 T H__law_draw H__law_names;have H__law_odd:=CT (P:=l.prog) (w:=w) (base:=base) d20 T H__law_draw;have H__law_is_name:=wg (P:=l.prog) (w:=w) (base:=base) d21 T;have H__law_is_rising:=sN (P:=l.prog) (w:=w) (base:=base) d22 T;have H__law_is_web:=xu (P:=l.prog) (w:=w) (base:=base) d23 T H__law_is_rising H__law_is_name;have H__law_bent:=tZ (P:=l.prog) (w:=w) (base:=base) d24 T H__law_draw 5;have H__law_no_webs:=wj (P:=l.prog) (w:=w) (base:=base) d25 T H__law_is_web H__law_odd H__law_bent;have H__law_no_kinds:=ui (P:=l.prog) (w:=w) (base:=base) d26 T;have H__law_kernel_kinds:=oK (P:=l.prog) (w:=w) (base:=base) d27 T;have H__law_is_idle:=wk (P:=l.prog) (w:=w) (base:=base) d28 T;have H__law_kernel:=xw (P:=l.prog) (w:=w) (base:=base) d29 T H__law_is_idle;have H__law_some_webs:=sQ (P:=l.prog) (w:=w) (base:=base) d30 T H__law_draw H__law_web;have H__law_selves:=xx (P:=l.prog) (w:=w) (base:=base) d31 T H__law_draw;have H__law_words:=zG (P:=l.prog) (w:=w) (base:=base) d32 T H_how_many H_fullest H_kernel HS HX BM;exact OH (P:=l.prog) (w:=w) (base:=base) FL T H__law_cell H__law_some_webs H__law_no_webs H__law_words H__law_no_kinds H__law_kernel_kinds H_kernel H__law_kernel H__law_selves H__law_pen
theorem walk{l:PySem.W.OpenLaw}{q:Yt}{loose:Yn}{XP:(Yi)->Heap->Prop}{YP:World->Heap->Prop}{d:DefRec}{K:Params->Ym}(hn:l.most=some 63)(hdf:d.params.defaults=[])
 (hY:∀(w:World) (h:Heap),YP w h->(K w.params).In h)(hYt:∀(w:World) (h:Heap),YP w h->h.get? oG=some (PySem.W.tabObj #[]))(hPK:∀w:World,(K w.params).lookup oG=none)
 (F:∀(w:World) (mg:Yi) (fa:Addr) (h:Heap),(K w.params).In h->h.Ns mainGlobals mg->mg d.name=some (.ref fa) ->
   ∃(fd:FuncData) (c:Addr),PySem.W.codeHdIn (K w.params) c oG=true/\(∀(s:Yw) (u:Value),BindsTo s fd ⟨[u],[]⟩ [("_law_script",u)])/\∀base:Heap,(K w.params).In base->base.Ns mainGlobals mg->(∃bm,BMod base mg bm)->jT l.prog w (K w.params) mg base (ja l.prog w) 10 fa fd ["_law_script"] (JE ⟨l.prog,w,mg,K w.params⟩ Em)) :
  PySem.W.WalkO q loose XP YP l.row.toRowW d [] (λf vs=>PySem.call f vs):=
 L2.Ib (n:=63) (k:=10) (x := "_law_script") (CX:=λw=>ja l.prog w) (sp:=λw=>Ic (K w.params) oG) hn (by decide) hdf ⟨rfl,by decide,by decide,rfl⟩ hY hYt hPK
  (λw mg fa h KX G hm=>by obtain⟨fd,c,ht,b,o⟩:=F w mg fa h KX G hm;exact⟨fd,c,ht,b,λbase k g bm=>(o base k g bm).imp λvs H Q E z=>FT (q:=sv) JB z⟩)
  (λ_ _ a ns hl hT hS=>⟨a,ns,rfl,hS,hl,hT,λ_=>rfl⟩) (by rintro w H s e s' ⟨_,_,_,_,_,_,_,_,_,_,_,_,_,z⟩;exact z)
end K13
open PySem PySem.W PyProof.Rows
structure PySem.W.Fast:Prop where
 (tw3426415727523916741 tw17939379876558926508 tw2826819162009666762 tw2893479023481894065 tw6662332737274731345 tw12428342784659095060 tw15357847366776149409 tw12913045571827332674 tw3300014614678042327 tw14302585284365651846 tw354035588651457754 tw16186482492924368139 tw16131179968996852334 tw7562788011928672412 tw13422999838876030854 tw12567915174722823247 tw10365967420210696241 tw16325906795000386134 tw9751119146413681225 tw7101750653100306912 tw4249936071067395490 tw881836226577948876 tw9878811165690288466 tw134238658337486364 tw6321709618219237863 tw889669230855132769 tw9976405403865557013 tw4413220822531187528 tw10278237505331568704 tw11353694549977477022 tw6072972510961776338 tw17346970571885347532 tw12084644900776020998 tw15391678998592939242 tw10676177662806929969 tw4656062008713862196 tw9450860355365269889 tw2445739376768370253 tw13982652487677386321 tw14081695621448728024 tw10549339793086142276 tw370859674015096796 tw13204977548169470201 tw11095673913228547896 tw2220661320656914600 tw6625388277761610689 tw16716121215331668508 tw67466451955740133 tw13042203612663424679 tw1218547047109326647 tw1208275618474827129 tw346284635973468452 tw4908683513645891628 tw6673864116949448492 tw5989661078561230286 tw3437800785321667949 tw14632145174613024242 tw3268368739256458212 tw1639178507322553587 tw919800395059532340 tw1146101514874803629 tw4852403762869065945 tw18349723006735175410 tw8223767350555122431 tw14152785228084989678 tw13042327645676739128 tw7056637517197298106 tw2011503494892848974 tw10729312341429641550 tw15975812588486361697 tw13893413367184005641 tw17643622740036008097 tw14741545735239646178 tw14134236310190881735 tw6911290632859924809 tw6459373093213426472 tw16710252205362218046 tw3861962843792771330 tw5598570693794583667 tw6950965930410296558 tw11656947378767380141 tw8466000853049231909 tw198348552541285913 tw2543044028190516396 tw11606189512509990219 tw1733079575777125546 tw16598897997229126203 tw5498623495701011591 tw10640717233638022230 tw1809763415826680933 tw18275231602306944007 tw13528480463930903199 tw4251248895171489031 tw6061513097964844098 tw13548683728519921640 tw7829634134511737795 tw5545178279977796357 tw1055675939007961480 tw15438782423918015451 tw18128965344933880634 tw7550531356200954193 tw17816908571321455103 tw5811452516701873864 tw1612630801807170061 tw16543538699311287170 tw14118494985355886328 tw5724845468743970260 tw15116863465757864226 tw1453216824063682579 tw18186036370602697384 tw235614539698662339 tw17663473276052716489 tw14087180122345396770 tw14644856889279396680 tw7663338123288919979 tw1983452441847119184 tw11671795992315050534 tw9495362988805578691 tw17197629270327077502 tw17684311498282343921 tw9606455154956892476 tw13337673851293267485 tw2653915529061152967 tw9530125635657045293 tw9733984889535124185 tw8678502817480684435 tw17530993244659797851 tw11551700146714305752 tw16523485151641645047 tw12394676385320429656 tw10467916339009149635 tw15199943024024079593 tw4625473640667180648 tw16947826114783806970 tw13857706544829630402 tw13186931275100833175 tw15626285679817478980 tw10849869011791150406 tw17837713381182874954 tw10545872947218718332 tw6223468025137993835 tw13773336130785214776 tw4948028117308323408 tw17932964800342621346 tw18005865964394042390 tw943789307695950640 tw8085990983038838855 tw6666798654409472903 tw4590739994723445630 tw4426929334997880315 tw2888320755327932990 tw16803954515796909040 tw16154495566583438518 tw14291519917362412105 tw11775809746964605881 tw11106845784460282812 tw13539389103739234278 tw11172995566018570849 tw1845329660767079190 tw2035576446867493527 tw17928623190169258921 tw15683503067703898395 tw10395857640735133319 tw4739344653423215714 tw934264977393213265 tw17150817067631284933 tw4987411913226730240 tw16473015475369077173 tw8060486770106931345 tw17528170729521994764 tw13388592189439838657 tw985263402680587169 tw7972953810454606577 tw7339215260039517260 tw5383268053869216685 tw2073361298379365018 tw17200668321970608993 tw979332729775780160 tw5824903638150000604 tw9968031837878392733 tw16250832230935831671 tw17500941805065768663 tw2750971403937391088 tw8688397038247001473 tw867839074778596942 tw3306162706069825724 tw16097639087895590317 tw1445038808867331821 tw11887674929328615 tw2766519394908403223 tw7878012279834814241 tw7266096634880847001 tw6500406354524188404 tw15358062687530538729 tw6540804508586628659 tw4421373487797319135 tw15520053195305201868 tw2238961575352360631 tw9923867339310850063 tw413753766524522340 tw16685767797190385344 tw15477264503831403026 tw16479071048888702200 tw748001595300514241 tw13378382857327669772 tw15896802175262726111 tw11563025499861378382 tw17890068209165204425 tw9646665376788628859 tw16913025033721968953 tw10823900696952253588 tw4324633368170503662 tw14038037718169333635 tw11922385544244370984 tw13743557833047629015 tw13796040305122594154 tw12059505210147387765 tw11878942705153739968 tw1847786153854230597 tw12105415602162123465 tw17324872247985230706 tw3892940475121208102 tw16111040151207831625 tw7449448398148536724 tw12246227404665025003 tw8307852297165254790 tw12184735111246141652 tw7636374619854403910 tw12999989092209626195 tw1568424229453783123 tw7034030026634718265 tw2616074891597287585 tw16238813232307503773 tw12786518830172171642 tw3409927374794877303 tw15359593204364146530 tw14224253266666219107 tw10262685790080308674 tw9385822362956377660 tw14972783943198928988 tw407260553268609680 tw11465215456605905303 tw8899194245090770985 tw15614511662068489666 tw305373628052602947 tw2736892094170042992 tw8897998858934369298 tw16722234341441897960 tw472887168596141335 tw3767150757866472266 tw14567472909352591024 tw12139935110609274298 tw4016751732125396545 tw16891818596146803431 tw8545797187117573492 tw17388737851086540359 tw9312978603067455753 tw8215146678709576903 tw5530290340637181219 tw16493379306057749517 tw9814861734759200555 tw5004866607129848106 tw17914401643116950345 tw12521338051887119535 tw11134451421115604694 tw13699562912396020533 tw3160868285879050766 tw3976833212949015336 tw5126377738623419693 tw11435057082258636796 tw13144304594453301057 tw7025231721473266310 tw6468440649397243019 tw5482164524612214409 tw5288595729780555039 tw3172283472606307841 tw2994336331764717839 tw2966508036012208366 tw2694233993200676960 tw18032780511936187695 tw17632330846851633092 tw1323460868780348890 tw13009329015912230244 tw10103672559015392705 tw5840952721158716786 tw2712636846736425983 tw3109794833842329901 tw1679882664424567788 tw5875995378216535478 tw5609713708082376437 tw17730678077860827308 tw1490478490051665782 tw4233371488265735015 tw10384638653581303856 tw98428153052116076 tw7406009142257985820 tw12811937047561541357 tw7224106796337794936 tw6642014349513931707 tw5931551072340855384:True)
set_option maxRecDepth 100000 in
set_option maxHeartbeats 0 in
theorem PySem.Challenge.cw_everalike_k13_kernels_holds : PySem.Challenge.rw_everalike_k13_kernels.Holds := by
 w_on;o_law;k_head;(case hw=>w_witness2)
 k_fill
 refine K13.walk (l:=PySem.Challenge.rw_everalike_k13_kernels) rfl rfl (λw h Y=>PySem.W.km_in_of Y) (λw h Y=>PySem.W.km_tabs_of Y 429 (by simp)) (λw=>by kernel_rfl) ?F
 case F=>
  intro w mg fa h KX G hmg
  refine' K13.all_mk KX G hmg ?T ?CA ?d0 ?d1 ?d2 ?d3 ?d4 ?d5 ?d6 ?d7 ?d8 ?d9 ?d10 ?d11 ?d12 ?d13 ?d14 ?d15 ?d16 ?d17 ?d18 ?d19 ?d20 ?d21 ?d22 ?d23 ?d24 ?d25 ?d26 ?d27 ?d28 ?d29 ?d30 ?d31 ?d32 ?dw ?ds ?a ?l ?c ?k
  case T=>
   refine' K13.O7 KX G ?zz0 ?zz1 ?zz2 ?zz3 ?zz4 ?zz5 ?zz6 ?zz7 ?zz8 ?zz9 ?zz10 ?zz11 ?zz12 ?zz13 ?aa0 ?aa1 ?xn0 ?xe0 ?xn1 ?xe1 ?fn0 ?fk0 ?tn0 ?tk0
   (case zz0=>k_is)
   (case zz1=>k_is)
   (case zz2=>k_is)
   (case zz3=>k_is)
   (case zz4=>k_is)
   (case zz5=>k_is)
   (case zz6=>k_is)
   (case zz7=>k_is)
   (case zz8=>k_is)
   (case zz9=>k_is)
   (case zz10=>k_is)
   (case zz11=>k_is)
   (case zz12=>k_is)
   (case zz13=>k_is)
   (case aa0=>k_is)
   (case aa1=>k_is)
   (case xn0=>k_is)
   (case xe0=>kernel_rfl)
   (case xn1=>k_is)
   (case xe1=>kernel_rfl)
   (case fn0=>k_is)
   (case fk0=>kernel_rfl)
   (case tn0=>k_is)
   (case tk0=>kernel_rfl)
  case CA=>
   refine' K13.O8 KX G ?nc0 ?nc1 ?nc2 ?nc3 ?nc4 ?nc5 ?nc6 ?nc7 ?nc8 ?nc9 ?nc10 ?nc11 ?nc12 ?nc13 ?nwe ?nve ?ei0 ?eg0 ?ega0 ?ebe0 ?ea0 ?em0 ?kk0 ?ei3 ?eg3 ?ega3 ?ebe3 ?ea3 ?em3 ?kk3 ?esp ?etk
   (case nc0=>k_is)
   (case nc1=>k_is)
   (case nc2=>k_is)
   (case nc3=>k_is)
   (case nc4=>k_is)
   (case nc5=>k_is)
   (case nc6=>k_is)
   (case nc7=>k_is)
   (case nc8=>k_is)
   (case nc9=>k_is)
   (case nc10=>k_is)
   (case nc11=>k_is)
   (case nc12=>k_is)
   (case nc13=>k_is)
   (case nwe=>k_is)
   (case nve=>k_is)
   (case ei0=>kernel_rfl)
   (case eg0=>k_is)
   (case ega0=>k_is)
   (case ebe0=>k_is)
   (case ea0=>k_is)
   (case em0=>k_is)
   (case kk0=>kernel_rfl)
   (case ei3=>kernel_rfl)
   (case eg3=>k_is)
   (case ega3=>k_is)
   (case ebe3=>k_is)
   (case ea3=>k_is)
   (case em3=>k_is)
   (case kk3=>kernel_rfl)
   (case esp=>k_is)
   (case etk=>k_is)
  case d0=>
   refine' Ml.cj KX G ?a0 ?l0 ?c0 ?k0 (λ_ _ _ _ _ _=>Ml.all1 λ_=>rfl)
   (case a0=>k_is);(case l0=>k_is);(case c0=>k_is);(case k0=>k_is)
  case d1=>
   refine' Ml.cj KX G ?a1 ?l1 ?c1 ?k1 (λ_ _ _ _ _ _=>Ml.all1 λ_=>rfl)
   (case a1=>k_is);(case l1=>k_is);(case c1=>k_is);(case k1=>k_is)
  case d2=>
   refine' Ml.cj KX G ?a2 ?l2 ?c2 ?k2 (λ_ _ _ _ _ _=>Ml.all1 λ_=>rfl)
   (case a2=>k_is);(case l2=>k_is);(case c2=>k_is);(case k2=>k_is)
  case d3=>
   refine' Ml.cj KX G ?a3 ?l3 ?c3 ?k3 (λ_ _ _ _ _ _=>Ml.all2 λ_ _=>rfl)
   (case a3=>k_is);(case l3=>k_is);(case c3=>k_is);(case k3=>k_is)
  case d4=>
   refine' Ml.cj KX G ?a4 ?l4 ?c4 ?k4 (λ_ _ _ _ _ _=>Ml.all2 λ_ _=>rfl)
   (case a4=>k_is);(case l4=>k_is);(case c4=>k_is);(case k4=>k_is)
  case d5=>
   refine' Ml.cj KX G ?a5 ?l5 ?c5 ?k5 (λ_ _ _ _ _ _=>Ml.all1 λ_=>rfl)
   (case a5=>k_is);(case l5=>k_is);(case c5=>k_is);(case k5=>k_is)
  case d6=>
   refine' Ml.cj KX G ?a6 ?l6 ?c6 ?k6 (λ_ _ _ _ _ _=>Ml.all1 λ_=>rfl)
   (case a6=>k_is);(case l6=>k_is);(case c6=>k_is);(case k6=>k_is)
  case d7=>
   refine' Ml.cj KX G ?a7 ?l7 ?c7 ?k7 (λ_ _ _ _ _ _=>Ml.all1 λ_=>rfl)
   (case a7=>k_is);(case l7=>k_is);(case c7=>k_is);(case k7=>k_is)
  case d8=>
   refine' Ml.cj KX G ?a8 ?l8 ?c8 ?k8 (λ_ _ _ _ _ _=>Ml.JC λ_ _ _=>rfl)
   (case a8=>k_is);(case l8=>k_is);(case c8=>k_is);(case k8=>k_is)
  case d9=>
   refine' Ml.cj KX G ?a9 ?l9 ?c9 ?k9 (λ_ _ _ _ _ _=>Ml.JC λ_ _ _=>rfl)
   (case a9=>k_is);(case l9=>k_is);(case c9=>k_is);(case k9=>k_is)
  case d10=>
   refine' Ml.cj KX G ?a10 ?l10 ?c10 ?k10 (λ_ _ _ _ _ _=>Ml.JC λ_ _ _=>rfl)
   (case a10=>k_is);(case l10=>k_is);(case c10=>k_is);(case k10=>k_is)
  case d11=>
   refine' Ml.cj KX G ?a11 ?l11 ?c11 ?k11 (λ_ _ _ _ _ _=>Ml.JC λ_ _ _=>rfl)
   (case a11=>k_is);(case l11=>k_is);(case c11=>k_is);(case k11=>k_is)
  case d12=>
   refine' Ml.cj KX G ?a12 ?l12 ?c12 ?k12 (λ_ _ _ _ _ _=>Ml.all2 λ_ _=>rfl)
   (case a12=>k_is);(case l12=>k_is);(case c12=>k_is);(case k12=>k_is)
  case d13=>
   refine' Ml.cj KX G ?a13 ?l13 ?c13 ?k13 (λ_ _ _ _ _ _=>Ml.all2 λ_ _=>rfl)
   (case a13=>k_is);(case l13=>k_is);(case c13=>k_is);(case k13=>k_is)
  case d14=>
   refine' Ml.cj KX G ?a14 ?l14 ?c14 ?k14 (λ_ _ _ _ _ _=>Ml.all2 λ_ _=>rfl)
   (case a14=>k_is);(case l14=>k_is);(case c14=>k_is);(case k14=>k_is)
  case d15=>
   refine' Ml.cj KX G ?a15 ?l15 ?c15 ?k15 (λ_ _ _ _ _ _=>Ml.all2 λ_ _=>rfl)
   (case a15=>k_is);(case l15=>k_is);(case c15=>k_is);(case k15=>k_is)
  case d16=>
   refine' Ml.cj KX G ?a16 ?l16 ?c16 ?k16 (λ_ _ _ _ _ _=>Ml.all1 λ_=>rfl)
   (case a16=>k_is);(case l16=>k_is);(case c16=>k_is);(case k16=>k_is)
  case d17=>
   refine' Ml.cj KX G ?a17 ?l17 ?c17 ?k17 (λ_ _ _ _ _ _=>Ml.all2 λ_ _=>rfl)
   (case a17=>k_is);(case l17=>k_is);(case c17=>k_is);(case k17=>k_is)
  case d18=>
   refine' Ml.cj KX G ?a18 ?l18 ?c18 ?k18 (λ_ _ _ _ _ _=>Ml.all2 λ_ _=>rfl)
   (case a18=>k_is);(case l18=>k_is);(case c18=>k_is);(case k18=>k_is)
  case d19=>
   refine' Ml.cj KX G ?a19 ?l19 ?c19 ?k19 (λ_ _ _ _ _ _=>Ml.all2 λ_ _=>rfl)
   (case a19=>k_is);(case l19=>k_is);(case c19=>k_is);(case k19=>k_is)
  case d20=>
   refine' Ml.cj KX G ?a20 ?l20 ?c20 ?k20 (λ_ _ _ _ _ _=>Ml.all1 λ_=>rfl)
   (case a20=>k_is);(case l20=>k_is);(case c20=>k_is);(case k20=>k_is)
  case d21=>
   refine' Ml.cj KX G ?a21 ?l21 ?c21 ?k21 (λ_ _ _ _ _ _=>Ml.all1 λ_=>rfl)
   (case a21=>k_is);(case l21=>k_is);(case c21=>k_is);(case k21=>k_is)
  case d22=>
   refine' Ml.cj KX G ?a22 ?l22 ?c22 ?k22 (λ_ _ _ _ _ _=>Ml.all1 λ_=>rfl)
   (case a22=>k_is);(case l22=>k_is);(case c22=>k_is);(case k22=>k_is)
  case d23=>
   refine' Ml.cj KX G ?a23 ?l23 ?c23 ?k23 (λ_ _ _ _ _ _=>Ml.all1 λ_=>rfl)
   (case a23=>k_is);(case l23=>k_is);(case c23=>k_is);(case k23=>k_is)
  case d24=>
   refine' Ml.cj KX G ?a24 ?l24 ?c24 ?k24 (λ_ _ _ _ _ _=>Ml.all2 λ_ _=>rfl)
   (case a24=>k_is);(case l24=>k_is);(case c24=>k_is);(case k24=>k_is)
  case d25=>
   refine' Ml.cj KX G ?a25 ?l25 ?c25 ?k25 (λ_ _ _ _ _ _=>Ml.all2 λ_ _=>rfl)
   (case a25=>k_is);(case l25=>k_is);(case c25=>k_is);(case k25=>k_is)
  case d26=>
   refine' Ml.cj KX G ?a26 ?l26 ?c26 ?k26 (λ_ _ _ _ _ _=>Ml.O6 rfl)
   (case a26=>k_is);(case l26=>k_is);(case c26=>k_is);(case k26=>k_is)
  case d27=>
   refine' Ml.cj KX G ?a27 ?l27 ?c27 ?k27 (λ_ _ _ _ _ _=>Ml.O6 rfl)
   (case a27=>k_is);(case l27=>k_is);(case c27=>k_is);(case k27=>k_is)
  case d28=>
   refine' Ml.cj KX G ?a28 ?l28 ?c28 ?k28 (λ_ _ _ _ _ _=>Ml.Th λ_ _ _ _=>rfl)
   (case a28=>k_is);(case l28=>k_is);(case c28=>k_is);(case k28=>k_is)
  case d29=>
   refine' Ml.cj KX G ?a29 ?l29 ?c29 ?k29 (λ_ _ _ _ _ _=>Ml.all2 λ_ _=>rfl)
   (case a29=>k_is);(case l29=>k_is);(case c29=>k_is);(case k29=>k_is)
  case d30=>
   refine' Ml.cj KX G ?a30 ?l30 ?c30 ?k30 (λ_ _ _ _ _ _=>Ml.all2 λ_ _=>rfl)
   (case a30=>k_is);(case l30=>k_is);(case c30=>k_is);(case k30=>k_is)
  case d31=>
   refine' Ml.cj KX G ?a31 ?l31 ?c31 ?k31 (λ_ _ _ _ _ _=>Ml.all2 λ_ _=>rfl)
   (case a31=>k_is);(case l31=>k_is);(case c31=>k_is);(case k31=>k_is)
  case d32=>
   refine' Ml.Ol KX G ?dta ?dtl ?dtc ?dth ?dtk (λ_ _ _ _ _ _=>Ml.all2 λ_ _=>rfl)
   (case dta=>k_is)
   (case dtl=>k_is)
   (case dtc=>k_is)
   (case dth=>kernel_rfl)
   (case dtk=>k_is)
  case dw=>
   refine' Ml.cj KX G ?aw ?lw ?cw ?kw (λ_ _ _ _ _ _=>Ml.all1 λ_=>rfl)
   (case aw=>k_is);(case lw=>k_is);(case cw=>k_is);(case kw=>k_is)
  case ds=>
   refine' Ml.cj KX G ?as ?ls ?cs ?ks (λ_ _ _ _ _ _=>Ml.all1 λ_=>rfl)
   (case as=>k_is);(case ls=>k_is);(case cs=>k_is);(case ks=>k_is)
  (case a=>k_is);(case l=>k_is);(case c=>k_is);(case k=>k_is)
